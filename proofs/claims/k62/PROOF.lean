import PyProof.Rows.All
import Wide.All
import OpenK.AllK
import Wide.FinOn
import Lean
import PyProof.EqAt
import PyProof.EqKinds
import PyProof.TupleCall
import KE.KDictLaws
import KE.KDictList
import KE.KDictOf
import KE.KEqDict
import KE.KIntText
import KE.KTabLook
import KE.KTryMore
import KE.KUnpack
import PyProof.AttrMissHeap
import PyProof.AutoListH
import PyProof.CompUse
import PyProof.ConsumeWalk
import PyProof.Conv_int_bool
import PyProof.DictItems
import PyProof.DictValues
import PyProof.DictWalks
import PyProof.Draws
import PyProof.EnumFor
import PyProof.EnumMake
import PyProof.EnumStmt
import PyProof.ExcClass3
import PyProof.ExcInit
import PyProof.FString4
import PyProof.FString5
import PyProof.FactsAll.list_3
import PyProof.FactsAll.set
import PyProof.FactsAll.subtypes_5
import PyProof.FactsAll.zip
import PyProof.NeKinds
import PyProof.P3Eq
import PyProof.RangeIter
import PyProof.ReprHeads
import PyProof.ReprLen
import PyProof.Rows.SeqMore2
import PyProof.Rows.SetFrom
import PyProof.Rows.StrNews
import PyProof.Rows.TupIter
import PyProof.SetRoads
import PyProof.StrLawsRepr
import PyProof.StrWalks
import PyProof.SumAny
import PyProof.TupleKey
import PyProof.WalkInts
import PyProof.Walks
import PySem.Challenge.RW_arrayloom_k62_lives
set_option compiler.extract_closed false
section
open PySem PySem.Spec PyProof.Rows PySem.Calls
abbrev Z00:=@wpAny_bind
abbrev Z01:=@Heap.get?_push_of_some
abbrev Z02:=@List.mem_append_right
abbrev Z03:=@List.getElem?_eq_some_iff
abbrev Z04:=@wpAny_pure
abbrev Z05:=@List.mem_append_left
abbrev Z06:=@List.length_append
abbrev Z07:=@List.mem_append
abbrev Z08:=@List.length_map
abbrev Z09:=@Nat.le_refl
abbrev Z0a:=@Heap.lt_size
abbrev Z0b:=@List.getElem?_eq_getElem
abbrev Z0c:=@Heap.get?_push_size
abbrev Z0d:=@PyProof.Rows.boot_isinstance
abbrev Z0e:=@List.mem_cons
abbrev Z0f:=@PySem.W.mg_of
abbrev Z0g:=@List.size_toArray
abbrev Z0h:=@Nat.ne_of_lt
abbrev Z0i:=@Option.map_eq_some_iff
abbrev Z0j:=@List.length_singleton
abbrev Z0k:=@PySem.F.plainAttrs_list
abbrev Z0l:=@List.nodup_append
abbrev Z0m:=@PyProof.Rows.boot_tuple
abbrev Z0n:=@PySem.F.slot_list_append
abbrev Z0o:=@PySem.F.type_list_append
abbrev Z0p:=@List.map_cons
abbrev Z0q:=@Nat.lt_of_lt_of_le
abbrev Z0r:=@PySem.boot_len
abbrev Z0s:=@List.map_append
abbrev Z0t:=@if_neg
abbrev Z0u:=@List.append_nil
abbrev Z0v:=@Bool.false_ne_true
abbrev Z0w:=@List.mem_singleton
abbrev Z0x:=@List.length_take
abbrev Z0y:=@List.length_cons
abbrev Z0z:=@List.append_assoc
abbrev Z10:=@wpAny_mono
abbrev Z11:=@wpAny_field
abbrev Z12:=@if_pos
abbrev Z13:=@List.mem_of_getElem?
abbrev Z14:=@List.take_add_one
abbrev Z15:=@List.nodup_cons
abbrev Z16:=@wpAny_newObj_type
abbrev Z18:=@List.take_length
abbrev Z19:=@List.length_drop
abbrev Z1a:=@Option.some.inj
abbrev Z1b:=@wpAny_callSpecial?_slot
abbrev Z1c:=@PySem.W.mg_none_of
abbrev Z1d:=@Heap.get?_update_other
abbrev Z1e:=@Nat.zero_le
abbrev Z1f:=@List.mem_cons_of_mem
abbrev Z1g:=@wpAny_call_entry
abbrev Z1h:=@wpAny_setField_rec
abbrev Z1i:=@List.not_mem_nil
abbrev Z1j:=@decide_eq_false
abbrev Z1l:=@List.getElem?_append_right
abbrev Z1m:=@Array.getElem?_eq_some_iff
abbrev Z1n:=@Nat.le_trans
abbrev Z1o:=@PyProof.Rows.boot_list
abbrev Z1p:=@Int.emod_lt_of_pos
abbrev Z1q:=@Nat.ne_of_gt
abbrev Z1r:=@Heap.get?_update_self
abbrev Z1s:=@Heap.size_push
abbrev Z1t:=@wpAny_setField
abbrev Z1u:=@List.drop_eq_getElem_cons
abbrev Z1v:=@Int.emod_nonneg
abbrev Z1w:=@wpAny_holding
abbrev Z1x:=@Bool.and_eq_true
abbrev Z1y:=@wpAny_standAt
abbrev Z1z:=@List.getElem?_map
abbrev Z20:=@decide_eq_true
abbrev Z21:=@wpAny_seqItems
abbrev Z22:=@beq_eq_false_iff_ne
abbrev Z23:=@List.getElem?_set_self
abbrev Z26:=@List.getElem?_append_left
abbrev Z27:=@List.mem_cons_self
abbrev Z28:=@List.lookup_cons
abbrev Z2a:=@List.getElem?_set_ne
abbrev Z2b:=@wpAny_execs_nil
abbrev Z2c:=@List.mem_map
abbrev Z2e:=@List.take_append_drop
abbrev Z2f:=@Option.toList_some
abbrev Z2g:=@List.length_nil
abbrev Z2h:=@List.find?_cons
abbrev Z2l:=@List.take_of_length_le
abbrev Z2m:=@List.getElem?_zip_eq_some
abbrev Z2n:=@List.length_eq_zero_iff
abbrev Z2o:=@List.take_sublist
abbrev Z2p:=@List.mem_of_mem_take
abbrev Z2q:=@PyProof.Rows.boot_dict
end
noncomputable section
open PySem.W (Frag findIn nsIn mroIn kitOne keepIn typeIn hideAll isFn plainGet isClsIn hasDictIn exmOne plainOver makesIn clsIn fnOf emptyDict instObj excIn kitAny takesIn specialIn subIn codeIn)
set_option Elab.async false
set_option bootstrap.genMatcherCode false
set_option linter.all false
set_option maxRecDepth 100000
set_option maxHeartbeats 4000000
set_option hygiene false
local macro_rules|`(tactic|walk_at "n")=>`(tactic|(rintro i ys Hx hi ⟨sx,hDx,rfl⟩ y Hy ⟨rfl,k',v,hkv,rfl⟩;refine B9q ?_;intro N';obtain ⟨e,he,ek,_⟩:=A6w ar hkv;have ek:k'=Sum.inr e.1:=ek;subst ek))
local macro_rules|`(tactic|walk_at "m")=>`(tactic|(refine ⟨λi m H=>m=xs.length-i/\i<=xs.length/\∃ys,Pv i ys H,⟨xs.length,by simp,Z1e _,[],h0⟩,?_⟩;rintro i m H2 ⟨rfl,hi,ys,p⟩;have q:=hl i ys H2 p))
local macro_rules|`(tactic|walk_at "l")=>`(tactic|(intro pins s Z H x y v u Q I rx ry h))
local macro_rules|`(tactic|walk_at "k")=>`(tactic|(have ole:=A9f rwk rows.length;have ole2:rows.length*3660<=5*3660:=Nat.mul_le_mul_right _ fr;have sin:B4g L rows (A1f (rows.map (A4p L)) rows.length):=λs hs=>A7g hs))
local macro_rules|`(tactic|walk_at "j")=>`(tactic|(intro pins s Z H Q I h;refine C3e PySem.F.slot_dict_getitem.lookup hs (thn (ho pins s Z H _ I h) ?_);rintro u s1 ⟨x,H1,I1,rx,q1⟩;refine thn (hi pins s1 Z H1 _ I1 q1) ?_))
local macro_rules|`(tactic|walk_at "i")=>`(tactic|(simp only [Z0e,Z1i,or_false] at hc;rcases hc with rfl | rfl | rfl | rfl | rfl))
local macro_rules|`(tactic|walk_at "h")=>`(tactic|(obtain ⟨e',he',rfl⟩:=Z2c.mp he;obtain ⟨i,hi⟩:=List.getElem?_of_mem he';exact (fo.row i e' hi).2.rw' lok))
local macro_rules|`(tactic|walk_at "g")=>`(tactic|(refine A6y ?_;intro D'))
local macro_rules|`(tactic|walk_at "f")=>`(tactic|(obtain ⟨f0,f1,f2,f3,f4,f5⟩:=hf it (by simp)))
local macro_rules|`(tactic|walk_at "e")=>`(tactic|(refine ⟨λi m Z H=>m=xs.length-i/\i<=xs.length/\Pv i Z H,⟨xs.length,by simp,Z1e _,h0⟩,?_⟩;rintro i m Z H ⟨rfl,hi,p⟩))
local macro_rules|`(tactic|walk_at "d")=>`(tactic|(refine ⟨_,rfl,_,_,_,_,rfl,rfl,SqT.of e,A0j (j:=0) rfl,rfl,_,rfl,A3u (λ_=> ?_) (λh=>absurd rfl h)⟩))
local macro_rules|`(tactic|walk_at "c")=>`(tactic|(intro X hP hw hK hc i pins s Z H E I hf st hg;subst hP hw hK))
local macro_rules|`(tactic|walk_at "b")=>`(tactic|(refine Z00 (wpAny_attempt (Z1b (name:=Str.ofString "__next__") hT F.slot_zip_next (Z1g F.slot_zip_next hT F.entry_zip_next ?_ (F.args_zip_next_1 _))));show wpAny _ _ (field (.ref z) 2 >>= _) _ _ _;refine Z00 (Z11 hz rfl (x:= .bool false) rfl ?_);show wpAny _ _ (field (.ref z) 3 >>= _) _ _ _;refine Z00 (Z11 hz rfl (x:= .ref TI) rfl ?_);refine Z00 (Z21 hTI rfl ?_);show wpAny _ _ (Builtin.SmallTypes.ownedTupleIsFree (.ref z) >>= _) _ _ _))
local macro_rules|`(tactic|walk_at "a")=>`(tactic|(refine ⟨_,rfl,_,_,_,_,rfl,rfl,SqT.of e,A0j (j:=0) rfl,rfl,_,rfl,A3u (λh=>(sno h (by decide)).elim) (λ_=> ?_)⟩))
set_option hygiene true
namespace L2
open PySem PySem.Spec PyProof.Rows
abbrev Key:=Sum Int Str
def C1t:Key->Value->Bool
 | .inl k,v=>Value.isInt k v
 | .inr x,v=>Value.isStrOf x v
def keyH (w:World):Key->Int
 | .inl k=>hashInt k
 | .inr x=>hashStr w x
theorem A2v:∀{k:Key} {v:Value},C1t k v=true->(∃i t,k=Sum.inl i/\v=Value.int i t)\/(∃x t,k=Sum.inr x/\v=Value.str x t)
 | .inl i,v,h=>by
  obtain ⟨t,e⟩:=Value.isInt_shape (k:=i) (v:=v) h;exact .inl ⟨i,t,rfl,e⟩
 | .inr x,v,h=>by
  obtain ⟨t,e⟩:=Value.isStrOf_shape (x:=x) (v:=v) h;exact .inr ⟨x,t,rfl,e⟩
theorem C7q (i:Int) (t:Tok):C1t (.inl i) (.int i t)=true:=by simp [C1t,Value.isInt]
theorem D0l (x:Str) (t:Tok):C1t (.inr x) (.str x t)=true:=by simp [C1t,Value.isStrOf]
theorem E1t (a b:Int):decide ((Sum.inl a:Key)=Sum.inl b)=(a == b):=by
 by_cases e:a=b
 ·subst e;simp
 ·have h:¬(Sum.inl a:Key)=Sum.inl b:=λq=>e (Sum.inl.inj q);rw [Z1j h];exact (Z22.mpr e).symm
theorem E1n (a b:Str):decide ((Sum.inr a:Key)=Sum.inr b)=decide (a=b):=by
 by_cases e:a=b
 ·subst e;simp
 ·have h:¬(Sum.inr a:Key)=Sum.inr b:=λq=>e (Sum.inr.inj q);rw [Z1j h,Z1j e]
theorem D8p (a:Int) (b:Str):decide ((Sum.inl a:Key)=Sum.inr b)=false:=Z1j (λq=>nomatch q)
theorem D8l (a:Str) (b:Int):decide ((Sum.inr a:Key)=Sum.inl b)=false:=Z1j (λq=>nomatch q)
def A1p (prog:Program) (w:World):PySem.KeyKind prog w Key where
 is:=C1t
 hash:=keyH w
 inj:=λv a b ha hb=>by
  rcases A2v ha with ⟨i,t,rfl,rfl⟩ | ⟨x,t,rfl,rfl⟩
  ·rcases A2v hb with ⟨j,u,rfl,e⟩ | ⟨y,u,rfl,e⟩
   ·injection e with e1 _;rw [e1]
   ·exact nomatch e
  ·rcases A2v hb with ⟨j,u,rfl,e⟩ | ⟨y,u,rfl,e⟩
   ·exact nomatch e
   ·injection e with e1 _;rw [e1]
 byValue:=λk v h=>by
  rcases A2v h with ⟨i,t,rfl,rfl⟩ | ⟨x,t,rfl,rfl⟩ <;> rfl
 pyHash:=λhv h=>by
  rcases A2v hv with ⟨i,t,rfl,rfl⟩ | ⟨x,t,rfl,rfl⟩
  ·exact wpAny_pyHash_int h
  ·exact wpAny_pyHash_str h
 eqBool:=λhu hv h=>by
  rcases A2v hu with ⟨i,t,rfl,rfl⟩ | ⟨x,t,rfl,rfl⟩
  ·rcases A2v hv with ⟨j,u,rfl,rfl⟩ | ⟨y,u,rfl,rfl⟩
   ·rw [E1t] at h;exact wpAny_eqBool_int h
   ·rw [D8p] at h;exact SeqAt.EqAt.int_str i t y u _ _ _ _ h
  ·rcases A2v hv with ⟨j,u,rfl,rfl⟩ | ⟨y,u,rfl,rfl⟩
   ·rw [D8l] at h;exact SeqAt.EqAt.str_int x t j u _ _ _ _ h
   ·rw [E1n] at h;exact wpAny_eqBool_str h
 «strs»:=λk x t v h=>by
  rcases A2v h with ⟨i,u,rfl,e⟩ | ⟨y,u,rfl,e⟩
  ·exact nomatch e
  ·injection e with e1 _;subst e1;cases v <;> rfl
theorem C3a (prog:Program) (w:World) (i:Int) (t:Tok):(A1p prog w).is (.inl i) (.int i t)=true:=C7q i t
theorem C2v (prog:Program) (w:World) (x:Str) (t:Tok):(A1p prog w).is (.inr x) (.str x t)=true:=D0l x t
inductive V where
 | non | bl (b:Bool) | int (i:Int) | str (x:Str) | byt (b:Array UInt8) | flt (b:UInt64) | ref (a:Addr) | ty (n:String)
 deriving DecidableEq
def A2u:V->Value->Prop
 | .non,u=>u=Value.none
 | .bl b,u=>u=Value.bool b
 | .int i,u=>∃t,u=Value.int i t
 | .str x,u=>∃t,u=Value.str x t
 | .byt b,u=>∃t,u=Value.bytes b t
 | .flt b,u=>∃t,u=Value.float b t
 | .ref a,u=>u=Value.ref a
 | .ty n,u=>u=Value.type n
abbrev A2r:List V->List Value->Prop:=Paired A2u
theorem A2r.length {xs:List V} {us:List Value} (r:A2r xs us):xs.length=us.length:=Paired.length r
theorem A2r.get:∀{xs:List V} {us:List Value} {i:Nat} {x:V},A2r xs us->xs[i]? =some x->∃u,us[i]? =some u/\A2u x u
 | _,_,_,_,.nil,e=>by simp at e
 | _,_,0,_,.cons r _,e=>by simp at e;subst e;exact ⟨_,rfl,r⟩
 | _,_,i+1,x,.cons _ t,e=>by
  obtain ⟨u,h1,h2⟩:=A2r.get (i:=i) (x:=x) t (by simpa using e);exact ⟨u,by simpa using h1,h2⟩
theorem A2r.set {x:V} {u:Value} (r:A2u x u):∀{xs:List V} {us:List Value} (i:Nat),A2r xs us->A2r (xs.set i x) (us.set i u)
 | _,_,_,.nil=> .nil
 | _,_,0,.cons _ t=> .cons r t
 | _,_,i+1,.cons q t=> .cons q (A2r.set r i t)
theorem A2r.append:∀{xs ys:List V} {us ws:List Value},A2r xs us->A2r ys ws->A2r (xs++ys) (us++ws)
 | _,_,_,_,.nil,s=>s
 | _,_,_,_,.cons r t,s=> .cons r (A2r.append t s)
theorem A2r.take:∀{xs:List V} {us:List Value} (n:Nat),A2r xs us->A2r (xs.take n) (us.take n)
 | _,_,0,_=> .nil
 | _,_,_+1,.nil=> .nil
 | _,_,n+1,.cons r t=> .cons r (A2r.take n t)
theorem A2r.drop:∀{xs:List V} {us:List Value} (n:Nat),A2r xs us->A2r (xs.drop n) (us.drop n)
 | _,_,0,r=>r
 | _,_,_+1,.nil=> .nil
 | _,_,n+1,.cons _ t=>A2r.drop n t
def B4k:Option V->Option Value->Prop
 | some v,some u=>A2u v u
 | none,none=>True
 | _,_=>False
def KV {κ:Type}:List (κ×V)->List (κ×Value)->Prop:=Paired λ(p:κ×V) (q:κ×Value)=>p.1=q.1/\A2u p.2 q.2
def kV:Key->V
 | .inl i=> .int i
 | .inr x=> .str x
inductive HO where
 | lst (xs:List V)
 | tup (xs:List V)
 | dK (kvs:List (Key×V)) | dT (kvs:List (List Key×V))
 | set (S:Int->Bool) (n:Nat)
 | ins (C dx:Addr) (fs:List (Str×V))
 | own (x:Addr)
 | xd (fs:List (Str×V))
 | met (f x:Addr)
 | rng (lo hi:Int)
 | frz (o:Obj) (u:HO)
 | tbl (ps:Array Value)
 | ext (φ:Heap->Prop)
abbrev Hp:=Addr->Option HO
def upd (H:Hp) (a:Addr) (o:HO):Hp:=λb=>if b=a then some o else H b
theorem A0b {H:Hp} {a:Addr} {o:HO}:upd H a o a=some o:=by unfold upd;rw [Z12 rfl]
theorem A0h {H:Hp} {a b:Addr} {o:HO} (h:b≠a):upd H a o b=H b:=by unfold upd;rw [Z0t h]
theorem B0c {H:Hp} {a:Addr} {o u:HO}:upd (upd H a o) a u=upd H a u:=by
 funext b;unfold upd;split <;> rfl
theorem A1g {H:Hp} {a b:Addr} {o u:HO} (h:H a=some o) (h':H b=some u) (d:o≠u):a≠b:=by
 intro e;subst e;rw [h] at h';exact d (Z1a h')
theorem A0i {H:Hp} {a b:Addr} {o:HO} (h:H a=some o) (h':H b=none):a≠b:=by
 intro e;subst e;rw [h] at h';cases h'
section
variable (P:Program) (w:World)
def A2c (H:Hp) (h:Heap) (a:Addr):HO->Prop
 | .lst xs=>xs.length<=sizeLine/\∃(its:List Value) (n:Nat),A2r xs its/\h.get? a=some { cls:= .type "list",data:= .seq its.toArray n }
 | .tup xs=>xs.length<=sizeLine/\∃its:List Value,A2r xs its/\IsTup h a its.toArray
 | .dK kvs=>kvs.length<=sizeLine/\(a == sysModules)=false/\∃vs,KV kvs vs/\h.DictOf (A1p P w) a vs
 | .dT kvs=>kvs.length<=sizeLine/\(a == sysModules)=false/\∃xs:List (List Key×Addr×Value),
   Paired (λ(p:List Key×V) (q:List Key×Addr×Value)=>p.1=q.1/\H q.2.1=some (.tup (p.1.map kV))/\A2u p.2 q.2.2) kvs xs/\
   ∃o es ep,h.get? a=some o/\o.ExactDict/\o.data= .dict es ep/\es.toList=xs.map (entryOfKey (tupleKind (A1p P w)))/\(xs.map (·.1)).Nodup
 | .set S n=>h.SetOf (intKind P w) a S n
 | .ins C dx fs=>H dx=some (.own a)/\fs.length<=1000/\dx≠a/\h.get? a=some (instObj C dx)/\
   ∃mA,h.Ns1 dx mA/\(∀f,B4k (fs.lookup f) (mA f))/\PySem.Within mA (fs.map (·.1))
 | .own _=>∃o,h.get? a=some o
 | .xd fs=>∃mA,h.Ns1 a mA/\∀f,B4k (fs.lookup f) (mA f)
 | .rng lo hi=>∃t u v,h.get? a=some { cls:= .type "range",data:= .fields #[.int lo t,.int hi u,.int 1 v] }
 | .frz o u=>h.get? a=some o/\A2c H h a u
 | .tbl ps=>h.get? a=some { cls:= .none,data:= .fields ps }
 | .met f x=>h.get? a=some (PySem.W.methodObj (.ref f) (.ref x))
 | .ext φ=>φ h/\(∃o,h.get? a=some o)/\∀h1 h2:Heap,φ h1->(∀o,h1.get? a=some o->h2.get? a=some o)->φ h2
def HOk (H:Hp) (h:Heap):Prop:=∀a o,H a=some o->A2c P w H h a o
end
section
variable {P:Program} {w:World} {H H':Hp} {h h':Heap} {a:Addr} {o:HO}
theorem A2c.lt (x:A2c P w H h a o):a<h.objs.size:=by
 cases o with
 | lst xs=>obtain ⟨_,_,_,_,e⟩:=x;exact Z0a e
 | tup xs=>obtain ⟨_,_,_,p⟩:=x;exact p.lt
 | dK kvs=>obtain ⟨_,_,_,_,o,_,_,e,_⟩:=x;exact Z0a e
 | dT kvs=>obtain ⟨_,_,_,_,o,_,_,e,_⟩:=x;exact Z0a e
 | set S n=>obtain ⟨o,_,_,_,e,_⟩:=x;exact Z0a e
 | ins C dx fs=>obtain ⟨_,_,_,e,_⟩:=x;exact Z0a e
 | own y=>obtain ⟨_,e⟩:=x;exact Z0a e
 | xd fs=>obtain ⟨_,⟨_,_,_,e,_⟩,_⟩:=x;exact Z0a e
 | rng lo hi=>obtain ⟨_,_,_,e⟩:=x;exact Z0a e
 | frz ob u=>obtain ⟨e,_⟩:=x;exact Z0a e
 | tbl ps=>exact Z0a (show h.get? a=some _ from x)
 | met f y=>exact Z0a (show h.get? a=some _ from x)
 | ext φ=>obtain ⟨_,⟨_,e⟩,_⟩:=x;exact Z0a e
theorem Paired.mapP {α β:Type} {F G:α->β->Prop}:∀{l₁:List α} {l₂:List β},Paired F l₁ l₂->(∀a b,F a b->G a b)->Paired G l₁ l₂
 | _,_,.nil,_=> .nil
 | _,_,.cons r t,f=> .cons (f _ _ r) (Paired.mapP t f)
theorem A2c.stay (x:A2c P w H h a o) (k:∀b u,(b=a\/H b=some (.own a))->h.get? b=some u->h'.get? b=some u)
  (ho:∀b,H b=some (.own a)->H' b=some (.own a)) (ht:∀b xs,H b=some (.tup xs)->H' b=some (.tup xs)):A2c P w H' h' a o:=by
 induction o with
 | lst xs=>obtain ⟨z,its,n,r,e⟩:=x;exact ⟨z,its,n,r,k _ _ (.inl rfl) e⟩
 | tup xs=>obtain ⟨z,its,r,ob,e,c⟩:=x;exact ⟨z,its,r,ob,k _ _ (.inl rfl) e,c⟩
 | dK kvs=>obtain ⟨z,y,vs,r,ob,es,ep,e,c⟩:=x;exact ⟨z,y,vs,r,ob,es,ep,k _ _ (.inl rfl) e,c⟩
 | dT kvs =>
  obtain ⟨z,y,xs,r,ob,es,ep,e,c⟩:=x;exact ⟨z,y,xs,Paired.mapP r λp q z=>⟨z.1,ht _ _ z.2.1,z.2.2⟩,ob,es,ep,k _ _ (.inl rfl) e,c⟩
 | set S n=>obtain ⟨ob,es,ep,t,e,c⟩:=x;exact ⟨ob,es,ep,t,k _ _ (.inl rfl) e,c⟩
 | ins C dx fs =>
  obtain ⟨d,z,ne,e,mA,⟨od,es,ep,e2,c⟩,r⟩:=x;exact ⟨ho _ d,z,ne,k _ _ (.inl rfl) e,mA,⟨od,es,ep,k _ _ (.inr d) e2,c⟩,r⟩
 | own y=>obtain ⟨ob,e⟩:=x;exact ⟨ob,k _ _ (.inl rfl) e⟩
 | xd fs=>obtain ⟨mA,⟨od,es,ep,e,c⟩,r⟩:=x;exact ⟨mA,⟨od,es,ep,k _ _ (.inl rfl) e,c⟩,r⟩
 | rng lo hi=>obtain ⟨t,u,v,e⟩:=x;exact ⟨t,u,v,k _ _ (.inl rfl) e⟩
 | frz ob u ih=>obtain ⟨e,q⟩:=x;exact ⟨k _ _ (.inl rfl) e,ih q⟩
 | tbl ps =>
  have e:h.get? a=some { cls:= .none,data:= .fields ps }:=x;show h'.get? a=some { cls:= .none,data:= .fields ps };exact k a _ (.inl rfl) e
 | met f y =>
  have e:h.get? a=some (PySem.W.methodObj (.ref f) (.ref y)):=x;show h'.get? a=some (PySem.W.methodObj (.ref f) (.ref y));exact k a _ (.inl rfl) e
 | ext φ=>obtain ⟨p,⟨o,e⟩,st⟩:=x;exact ⟨st _ _ p λo q=>k _ _ (.inl rfl) q,⟨o,k _ _ (.inl rfl) e⟩,st⟩
theorem HOk.lt (x:HOk P w H h) (e:H a=some o):a<h.objs.size:=(x a o e).lt
theorem HOk.fresh (x:HOk P w H h) (e:h.objs.size<=a):H a=none:=by
 cases q:H a with
 | none=>rfl
 | some u=>exact absurd (Z0q (x.lt q) e) (Nat.lt_irrefl _)
theorem HOk.kept (x:HOk P w H h) (k:∀b u,h.get? b=some u->h'.get? b=some u):HOk P w H h':=λa o e =>
 (x a o e).stay (λb u _ q=>k b u q) (λ_ q=>q) λ_ _ q=>q
theorem HOk.laid (x:HOk P w H h) (k:∀b u,h.get? b=some u->h'.get? b=some u) (hp:h.objs.size<=a) (new:A2c P w (upd H a o) h' a o):HOk P w (upd H a o) h':=λb u e=>by
 have hn:=x.fresh hp;by_cases hb:b=a
 ·subst hb;rw [A0b] at e;cases e;exact new
 ·rw [A0h hb] at e;exact (x b u e).stay (λc v _ q=>k c v q) (λc q=>by rw [A0h (A0i q hn)];exact q) λc xs q=>by rw [A0h (A0i q hn)];exact q
end
def Rd (H:Hp) (a:Addr) (u:HO):Prop:=H a=some u\/∃o,H a=some (.frz o u)
theorem Rd.ok {P:Program} {w:World} {H:Hp} {h:Heap} {a:Addr} {u:HO} (r:Rd H a u) (x:HOk P w H h):A2c P w H h a u:=by
 rcases r with r | ⟨o,r⟩
 ·exact x a u r
 ·obtain ⟨_,q⟩:=x a _ r;exact q
def Mut:Option HO->Prop
 | some (.lst _)=>True
 | some (.dK _)=>True
 | some (.dT _)=>True
 | some (.set _ _)=>True
 | some (.ins _ _ _)=>True
 | some (.ext _)=>True
 | _=>False
section
variable {P:Program} {w:World} {H:Hp} {h h':Heap} {x e:Addr} {o':HO}
theorem HOk.write (ok:HOk P w H h) (mu:Mut (H x)) (he:e=x\/H e=some (.own x)) (k:∀b u,b≠e->h.get? b=some u->h'.get? b=some u) (heo:∃u,h'.get? e=some u)
  (new:A2c P w (upd H x o') h' x o'):HOk P w (upd H x o') h':=λb u q=>by
 have nown:∀c y,H c=some (.own y)->c≠x:=λc y r z=>by subst z;rw [r] at mu;exact mu
 have ntup:∀c xs,H c=some (.tup xs)->c≠x:=λc xs r z=>by subst z;rw [r] at mu;exact mu
 by_cases hb:b=x
 ·subst hb;rw [A0b] at q;cases q;exact new
 ·rw [A0h hb] at q;by_cases hbe:b=e
  ·have q':H b=some (.own x):=by
    rcases he with z | z
    ·exact absurd (hbe.trans z) hb
    ·rw [hbe];exact z
   rw [q] at q';cases q';obtain ⟨v,hv⟩:=heo;exact ⟨v,by rw [hbe];exact hv⟩
  ·refine (ok b u q).stay (λc v hc r=>k c v ?_ r) (λc r=>by rw [A0h (nown c b r)];exact r) λc xs r=>by rw [A0h (ntup c xs r)];exact r
   rcases hc with rfl | hc
   ·exact hbe
   ·rintro rfl;rcases he with z | z
    ·exact nown c b hc z
    ·rw [hc] at z;cases z;exact hb rfl
end
structure Un (fs ex:List Addr) (H H':Hp) (h h':Heap):Prop where
 keep:∀b o,h.get? b=some o->H b=none->b∉fs->b∉ex->h'.get? b=some o
 slot:∀b o,h.get? b=some o->H b=none->b∈fs->b∉ex->∃sl,h'.get? b=some { o with slots:=sl }
 free:∀b o,h.get? b=some o->H b=none->b∉ex->H' b=none
 there:∀b o,h.get? b=some o->b∉ex->∃o',h'.get? b=some o'
 tups:∀b xs,H b=some (.tup xs)->H' b=some (.tup xs)
 frzs:∀b o u,H b=some (.frz o u)->H' b=some (.frz o u)
 tbls:∀b ps,H b=some (.tbl ps)->∃more,H' b=some (.tbl (ps++more))
section
variable {fs fs' ex ex':List Addr} {H H1 H2:Hp} {h h1 h2 h':Heap} {a x e:Addr} {o:HO}
theorem Un.any (u:Un fs ex H H1 h h1) {b:Addr} {ob:Obj} (q:h.get? b=some ob) (n:H b=none) (hx:b∉ex):∃sl,h1.get? b=some { ob with slots:=sl }:=by
 by_cases hb:b∈fs
 ·exact u.slot b ob q n hb hx
 ·exact ⟨ob.slots,u.keep b ob q n hb hx⟩
theorem Un.kept (k:∀b u,h.get? b=some u->h'.get? b=some u):Un fs ex H H h h' :=
 ⟨λb ob q _ _ _=>k b ob q,λb ob q _ _ _=>⟨ob.slots,k b ob q⟩,λ_ _ _ n _=>n,λb ob q _=>⟨ob,k b ob q⟩,λ_ _ q=>q,λ_ _ _ q=>q,λ_ ps q=>⟨#[],by rw [q];simp⟩⟩
theorem Un.refl:Un fs ex H H h h:=Un.kept λ_ _ q=>q
theorem Un.laid (k:∀b u,h.get? b=some u->h'.get? b=some u) (hp:h.objs.size<=a) (hn:H a=none):Un fs ex H (upd H a o) h h' where
 keep:=λb u q _ _ _=>k b u q
 slot:=λb u q _ _ _=>⟨u.slots,k b u q⟩
 free:=λb u q n _=>by rw [A0h (Z0h (Z0q (Z0a q) hp))];exact n
 there:=λb u q _=>⟨u,k b u q⟩
 tups:=λb xs q=>by rw [A0h (A0i q hn)];exact q
 frzs:=λb u xs q=>by rw [A0h (A0i q hn)];exact q
 tbls:=λb ps q=>⟨#[],by rw [A0h (A0i q hn),q];simp⟩
theorem Un.write (mu:Mut (H x)) (he:e=x\/H e=some (.own x)) (k:∀b u,b≠e->h.get? b=some u->h'.get? b=some u) (heo:∃u,h'.get? e=some u):Un fs ex H (upd H x o) h h':=by
 have hx:∀b,H b=none->b≠x:=λb n z=>by subst z;rw [n] at mu;exact mu
 have hb:∀b,H b=none->b≠e:=λb n z=>by
  subst z;rcases he with r | r
  ·exact hx b n r
  ·rw [n] at r;cases r
 have hm:∀b u,H b=some u->¬Mut (some u)->b≠x:=λb u q nm z=>by subst z;rw [q] at mu;exact nm mu
 refine ⟨λb u q n _ _=>k b u (hb b n) q,λb u q n _ _=>⟨u.slots,k b u (hb b n) q⟩,λb u q n _=>by rw [A0h (hx b n)];exact n,λb u q _=> ?_,
  λb xs q=>by rw [A0h (hm b _ q λz=>z)];exact q,λb u xs q=>by rw [A0h (hm b _ q λz=>z)];exact q,λb ps q=>⟨#[],by rw [A0h (hm b _ q λz=>z),q];simp⟩⟩
 by_cases hbe:b=e
 ·subst hbe;exact heo
 ·exact ⟨u,k b u hbe q⟩
end
def trk (h:Heap) (H:Hp):List Addr:=(List.range h.objs.size).filter λa=>(H a).isSome
def D3b (h:Heap) (H:Hp):Heap:=hideAll h (trk h H)
theorem C8m (h:Heap) (H:Hp):(D3b h H).objs.size=h.objs.size:=PySem.W.hideAll_size _ _
theorem D1m {h:Heap} {H:Hp} {b:Addr} {o:Obj} (e:h.get? b=some o) (n:H b=none):(D3b h H).get? b=some o :=
 PySem.W.hideAll_get _ e λhm=>by
  have q:(H b).isSome=true:=(List.mem_filter.mp hm).2;rw [n] at q;simp at q
theorem D5o {h:Heap} {H:Hp} {b:Addr} {o:Obj} (e:(D3b h H).get? b=some o):h.get? b=some o/\H b=none:=by
 have e':h.get? b=some o:=PySem.W.of_hideAll (trk h H) e;refine ⟨e',?_⟩
 cases q:H b with
 | none=>rfl
 | some x =>
  have hm:b∈trk h H:=List.mem_filter.mpr ⟨List.mem_range.mpr (Z0a e'),by simp [q]⟩;have z:(D3b h H).get? b=none:=PySem.W.hideAll_none (trk h H) hm;rw [z] at e;cases e
structure Mod (K:Frag) (mg:Str->Option Value) (base:Heap):Prop where
 kin:K.In base
 glob:base.Ns mainGlobals mg
 blt:∃mb,base.Ns builtinsNs mb/\∀x:Str,x≠"__name__"->mb x=bootBuiltins x
 nolimit:base.NoLimit
structure Cx where
 prog:Program
 w:World
 K:Frag
 mg:Str->Option Value
 base:Heap
 A:Around
 N:List Str
 s₀:Shared
 H₀:Hp
 env:Env
 outer:List Env
 stack:List Env
 ex:List Addr
 fn:Str->Bool
 calm:Bool
 pn:List (Addr×Obj)
 xe:Value->Shared->Prop
def frs (l:List Env):List Addr:=l.filterMap (·.frame)
abbrev Cx.fs (X:Cx):List Addr:=frs X.outer
def Vis (sc:Scope) (x:Str):Prop:=sc.names.lookup x=some .local\/sc.names.lookup x=some .cell\/sc.names.lookup x=some .free
def Loc (sc:Scope) (x:Str):Prop:=sc.names.lookup x=some .local\/sc.names.lookup x=some .cell
def Look (env:Env) (h:Heap) (m:Str->Option Value) (x:Str) (u:Value):Prop :=
 (env.kindOf x=some .local/\m x=some u)\/((env.kindOf x=some .cell\/env.kindOf x=some .free)/\∃c,env.cells.lookup x=some c/\h.IsCell c (some u))
structure Cx.Ok (X:Cx):Prop where
 mod:Mod X.K X.mg X.base
 kind:X.env.scope.kind= .function
 glob:X.env.globals=mainGlobals
 blt:X.env.builtins=builtinsNs
 above:X.s₀.heap.objs.size<=X.env.locals
 inj:∀x y c,X.env.cells.lookup x=some c->X.env.cells.lookup y=some c->x=y
 has:∀x,(X.env.kindOf x=some .cell\/X.env.kindOf x=some .free)->∃c,X.env.cells.lookup x=some c
 cab:∀x c,X.fn x=true->X.env.cells.lookup x=some c->X.s₀.heap.objs.size<=c
 hd:X.calm=true->X.A.handled=none
 frames:X.A.frames=some X.stack
 stk:X.stack=X.outer\/(X.stack=X.env::X.outer/\X.env.frame=some X.env.locals)
 exf:∀b∈X.ex,b≠X.env.locals/\∀x c,X.env.cells.lookup x=some c->c≠b
 bs:∀b o,X.base.get? b=some o->X.s₀.heap.get? b=some o/\X.H₀ b=none
 bsz:X.base.objs.size<=X.s₀.heap.objs.size
 noex:∀b o,X.base.get? b=some o->b∉X.ex
 exfs:∀b∈X.ex,b∉X.fs
 funs:X.s₀.heap.FunFrames X.base X.outer
 frf:∀b∈X.fs,X.H₀ b=none
structure Inv (X:Cx) (pins:List (Addr×Obj)) (Z:List (Option V)) (H:Hp) (s:Shared):Prop where
 ok:X.Ok
 os:s.os=X.s₀.os
 bare:AllBare s.gens
 base:Un X.fs X.ex X.H₀ H X.s₀.heap s.heap
 loc:∃m,s.heap.Ns X.env.locals m/\∀(i:Nat) (x:Str) (v:V),X.N[i]? =some x->Z[i]? =some (some v)->Vis X.env.scope x->∃u,A2u v u/\Look X.env s.heap m x u
 cell:∀x c,X.env.cells.lookup x=some c->∃v,s.heap.IsCell c v
 free:H X.env.locals=none
 freeC:∀x c,X.env.cells.lookup x=some c->H c=none
 pin:∀p∈X.pn++pins,s.heap.get? p.1=some p.2/\H p.1=none/\p.1≠X.env.locals/\p.1∉X.fs/\∀v,p.2.data≠.cell v
 hok:HOk X.prog X.w H s.heap
 len:Z.length=X.N.length
section
variable {X:Cx} {pins:List (Addr×Obj)} {Z:List (Option V)} {H H':Hp} {s:Shared} {h':Heap}
theorem Cx.Ok.nofr (ok:X.Ok) {b:Addr} {o:Obj} (e:X.base.get? b=some o):b∉X.fs:=λhb=>by
 have:=(ok.funs.mem hb).1;rw [e] at this;cases this
theorem Inv.bs (I:Inv X pins Z H s):∀b o,X.base.get? b=some o->s.heap.get? b=some o/\H b=none:=λb o e =>
 ⟨I.base.keep b o (I.ok.bs b o e).1 (I.ok.bs b o e).2 (I.ok.nofr e) (I.ok.noex b o e),I.base.free b o (I.ok.bs b o e).1 (I.ok.bs b o e).2 (I.ok.noex b o e)⟩
theorem Inv.bk (I:Inv X pins Z H s):∀b o,X.base.get? b=some o->s.heap.get? b=some o:=λb o e=>(I.bs b o e).1
theorem Inv.mod (I:Inv X pins Z H s):Mod X.K X.mg X.base:=I.ok.mod
theorem Inv.kIn (I:Inv X pins Z H s):X.K.In s.heap:=I.ok.mod.kin.keeps I.bk
theorem Inv.lt (I:Inv X pins Z H s):X.env.locals<s.heap.objs.size:=let ⟨_,hn,_⟩:=I.loc;hn.lt
theorem Inv.sz (I:Inv X pins Z H s):X.s₀.heap.objs.size<=s.heap.objs.size:=Z1n I.ok.above (Nat.le_of_lt I.lt)
theorem Inv.nofs (I:Inv X pins Z H s) {a:Addr} (h:s.heap.objs.size<=a):a∉X.fs:=λhb=>by
 obtain ⟨_,o,ho,_⟩:=I.ok.funs.mem hb;exact absurd (Z0q (Z0a ho) (Z1n I.sz h)) (Nat.lt_irrefl _)
theorem Inv.cne (I:Inv X pins Z H s):∀x c,X.env.cells.lookup x=some c->c≠X.env.locals:=λx c e z=>by
 obtain ⟨v,o,ho,hd⟩:=I.cell x c e;obtain ⟨m,⟨o',es,ep,ho',hd',_⟩,_⟩:=I.loc;rw [z,ho'] at ho;cases ho;rw [hd'] at hd;cases hd
theorem Inv.funs (I:Inv X pins Z H s):s.heap.FunFrames X.base X.outer:=by
 have all:∀(l:List Env),(∀b∈frs l,b∈X.fs)->X.s₀.heap.FunFrames X.base l->s.heap.FunFrames X.base l:=by
  intro l
  induction l with
  | nil=>intro _ _;trivial
  | cons env r ih =>
   intro hs hl;obtain ⟨hk,⟨L,o,hf,hn,ho,hd⟩,hr⟩:=hl;have hL:L∈X.fs:=hs L (by unfold frs;rw [List.filterMap_cons,hf];exact Z27);obtain ⟨sl,e⟩:=I.base.slot L o ho (I.ok.frf L hL) hL λz=>I.ok.exfs L z hL;exact ⟨hk,⟨L,_,hf,hn,e,hd⟩,ih (λb hb=>hs b (by unfold frs;rw [List.filterMap_cons,hf];exact Z1f _ hb)) hr⟩
 exact all X.outer (λ_ hb=>hb) I.ok.funs
theorem Inv.stack (I:Inv X pins Z H s):s.heap.FunFrames X.base X.stack:=by
 rcases I.ok.stk with e | ⟨e,hf⟩
 ·rw [e];exact I.funs
 ·rw [e];obtain ⟨m,hn,_⟩:=I.loc;refine .cons (by rw [I.ok.kind];decide) hf hn ?_ I.funs;exact Heap.get?_none_of_le (Z1n I.ok.bsz I.ok.above)
theorem Inv.stkSub (I:Inv X pins Z H s):∀b∈frs X.stack,b∈X.env.locals::X.fs:=λb hb=>by
 rcases I.ok.stk with e | ⟨e,hf⟩
 ·rw [e] at hb;exact Z1f _ hb
 ·rw [e] at hb;unfold frs at hb;rw [List.filterMap_cons,hf] at hb;exact hb
theorem Inv.stkFree (I:Inv X pins Z H s):∀b∈frs X.stack,H b=none:=λb hb=>by
 rcases Z0e.mp (I.stkSub b hb) with e | hb
 ·rw [e];exact I.free
 ·obtain ⟨_,o,ho,_⟩:=I.ok.funs.mem hb;exact I.base.free b o ho (I.ok.frf b hb) λz=>I.ok.exfs b z hb
theorem Inv.step {g':Array GenState} {t':Nat} {d':Drawn} {ch:List Addr} (I:Inv X pins Z H s)
  (hch:∀b∈ch,(b∈X.ex\/X.s₀.heap.objs.size<=b)/\b≠X.env.locals/\(∀x c,X.env.cells.lookup x=some c->c≠b)/\∀p∈X.pn++pins,p.1≠b)
  (keep:∀b o,b≠X.env.locals->b∉X.fs->b∉ch->s.heap.get? b=some o->H b=none->h'.get? b=some o)
  (slot:∀b o,b≠X.env.locals->b∈X.fs->b∉ch->s.heap.get? b=some o->H b=none->∃sl,h'.get? b=some { o with slots:=sl }) (free:∀b o,b∉ch->s.heap.get? b=some o->H b=none->H' b=none)
  (there:∀b o,b∉ch->s.heap.get? b=some o->∃o',h'.get? b=some o')
  (tups:∀b xs,H b=some (.tup xs)->H' b=some (.tup xs)) (frzs:∀b o u,H b=some (.frz o u)->H' b=some (.frz o u)) (tbls:∀b ps,H b=some (.tbl ps)->∃more,H' b=some (.tbl (ps++more)))
  (ns:∀m,s.heap.Ns X.env.locals m->h'.Ns X.env.locals m) (hok:HOk X.prog X.w H' h') (hg:AllBare g') :
  Inv X pins Z H' { s with heap:=h',gens:=g',drawn:=d',toks:=t' }:=by
 have neL:∀b o,X.s₀.heap.get? b=some o->b≠X.env.locals:=λb o e=>Z0h (Z0q (Z0a e) I.ok.above)
 have neC:∀b o,X.s₀.heap.get? b=some o->b∉X.ex->b∉ch:=λb o e hx hb=>by
  rcases (hch b hb).1 with z | z
  ·exact hx z
  ·exact absurd (Z0q (Z0a e) z) (Nat.lt_irrefl _)
 have cellK:∀x c,X.env.cells.lookup x=some c->∀v,s.heap.IsCell c v->h'.IsCell c v:=λx c e v ⟨o,ho,hd⟩=>by
  have nch:c∉ch:=λz=>(hch c z).2.2.1 x c e rfl;by_cases hc:c∈X.fs
  ·obtain ⟨sl,q⟩:=slot c o (I.cne x c e) hc nch ho (I.freeC x c e);exact ⟨_,q,hd⟩
  ·exact ⟨o,keep c o (I.cne x c e) hc nch ho (I.freeC x c e),hd⟩
 refine ⟨I.ok,I.os,hg,⟨λb o e n hb hx=> ?_,λb o e n hb hx=> ?_,λb o e n hx=> ?_,λb o e hx=> ?_,λb xs e=>tups b xs (I.base.tups b xs e),λb o xs e=>frzs b o xs (I.base.frzs b o xs e),λb ps e=> ?_⟩,?_,λx c e=> ?_,?_,λx c e=> ?_,λp hp=> ?_,hok,I.len⟩
 ·exact keep b o (neL b o e) hb (neC b o e hx) (I.base.keep b o e n hb hx) (I.base.free b o e n hx)
 ·obtain ⟨sl,e1⟩:=I.base.slot b o e n hb hx;obtain ⟨sl',e2⟩:=slot b _ (neL b o e) hb (neC b o e hx) e1 (I.base.free b o e n hx);exact ⟨sl',e2⟩
 ·obtain ⟨o',e1⟩:=I.base.there b o e hx;exact free b o' (neC b o e hx) e1 (I.base.free b o e n hx)
 ·obtain ⟨o',e1⟩:=I.base.there b o e hx;exact there b o' (neC b o e hx) e1
 ·obtain ⟨m1,e1⟩:=I.base.tbls b ps e;obtain ⟨m2,e2⟩:=tbls b _ e1;exact ⟨m1++m2,by rw [e2,Array.append_assoc]⟩
 ·obtain ⟨m,hn,hl⟩:=I.loc;refine ⟨m,ns m hn,λi x v e1 e2 e3=> ?_⟩;obtain ⟨u,r,l⟩:=hl i x v e1 e2 e3;refine ⟨u,r,?_⟩;rcases l with l | ⟨k,c,e,z⟩
  ·exact .inl l
  ·exact .inr ⟨k,c,e,cellK x c e _ z⟩
 ·obtain ⟨v,z⟩:=I.cell x c e;exact ⟨v,cellK x c e v z⟩
 ·obtain ⟨m,⟨o,_,_,ho,_⟩,_⟩:=I.loc;exact free _ o (λz=>(hch _ z).2.1 rfl) ho I.free
 ·obtain ⟨v,o,ho,hd⟩:=I.cell x c e;exact free c o (λz=>(hch c z).2.2.1 x c e rfl) ho (I.freeC x c e)
 ·obtain ⟨e,n,ne,nf,d⟩:=I.pin p hp;have nch:p.1∉ch:=λz=>(hch p.1 z).2.2.2 p hp rfl;exact ⟨keep p.1 p.2 ne nf nch e n,free p.1 p.2 nch e n,ne,nf,d⟩
theorem Inv.un {t':Nat} (I:Inv X pins Z H s) (u:Un X.fs [] H H' s.heap h') (hok:HOk X.prog X.w H' h'):Inv X pins Z H' { s with heap:=h',toks:=t' }:=by
 obtain ⟨m,⟨o,es,ep,ho,r⟩,_⟩:=id I.loc;obtain ⟨sl,hL⟩:=u.any ho I.free (by simp)
 exact I.step (g':=s.gens) (d':=s.drawn) (ch:=[]) (λ_ z=>nomatch z) (λb o _ hb _ e n=>u.keep b o e n hb (by simp)) (λb o _ hb _ e n=>u.slot b o e n hb (by simp)) (λb o _ e n=>u.free b o e n (by simp)) (λb o _ e=>u.there b o e (by simp)) u.tups u.frzs u.tbls (λm' hm=>by
  obtain ⟨o',es',ep',ho',r'⟩:=hm;rw [ho] at ho';cases ho'
  exact ⟨_,es',ep',hL,r'⟩) hok I.bare
theorem Inv.call {g':Array GenState} {t':Nat} {d':Drawn} {ch:List Addr} (I:Inv X pins Z H s) (u:Un (frs X.stack) ch H H' s.heap h') (hok:HOk X.prog X.w H' h') (hg:AllBare g')
  (hch:∀b∈ch,(b∈X.ex\/X.s₀.heap.objs.size<=b)/\b≠X.env.locals/\(∀x c,X.env.cells.lookup x=some c->c≠b)/\∀p∈X.pn++pins,p.1≠b) :
  Inv X pins Z H' { s with heap:=h',gens:=g',drawn:=d',toks:=t' }:=by
 obtain ⟨m,⟨o,es,ep,ho,r⟩,_⟩:=id I.loc;obtain ⟨sl,hL⟩:=u.any ho I.free λz=>(hch _ z).2.1 rfl
 exact I.step (ch:=ch) hch (λb o hL hb hc e n=>u.keep b o e n (λz=>(Z0e.mp (I.stkSub b z)).elim hL hb) hc) (λb o _ _ hc e n=>u.any e n hc) (λb o hc e n=>u.free b o e n hc) (λb o hc e=>u.there b o e hc) u.tups u.frzs u.tbls (λm' hm=>by
  obtain ⟨o',es',ep',ho',r'⟩:=hm;rw [ho] at ho';cases ho'
  exact ⟨_,es',ep',hL,r'⟩) hok hg
theorem Inv.turned {t':Nat} {it:Addr} (I:Inv X pins Z H s) (k:∀b o,b≠it->s.heap.get? b=some o->h'.get? b=some o) (hn:H it=none) (hL:it≠X.env.locals)
  (h1:it∈X.ex\/X.s₀.heap.objs.size<=it) (h2:∀x c,X.env.cells.lookup x=some c->c≠it) (h3:∀p∈X.pn++pins,p.1≠it):Inv X pins Z H { s with heap:=h',toks:=t' }:=by
 have nit:∀b u,H b=some u->b≠it:=λb u e z=>by rw [z,hn] at e;cases e
 refine I.step (g':=s.gens) (d':=s.drawn) (ch:=[it]) (λb hb=> ?_) (λb o _ _ hc e _=>k b o (λz=>hc (by simp [z])) e) (λb o _ _ hc e _=>⟨o.slots,k b o (λz=>hc (by simp [z])) e⟩) (λ_ _ _ _ n=>n)
  (λb o hc e=>⟨o,k b o (λz=>hc (by simp [z])) e⟩) (λ_ _ e=>e) (λ_ _ _ e=>e) (λb ps e=>⟨#[],by rw [e];simp⟩) (λm hm=> ?_) (λb u e=> ?_) I.bare
 ·have e:b=it:=by simpa using hb
  subst e;exact ⟨h1,hL,h2,h3⟩
 ·obtain ⟨o,es,ep,ho,r⟩:=hm;exact ⟨o,es,ep,k _ o (Ne.symm hL) ho,r⟩
 ·refine (I.hok b u e).stay (λc v hc q=>k c v ?_ q) (λ_ q=>q) λ_ _ q=>q;rcases hc with z | z
  ·rw [z];exact nit b u e
  ·exact nit c _ z
theorem Inv.tok (I:Inv X pins Z H s) (t:Nat):Inv X pins Z H { s with toks:=t }:=I.un (h':=s.heap) (t':=t) Un.refl I.hok
theorem Inv.kept {t':Nat} (I:Inv X pins Z H s) (k:∀b u,s.heap.get? b=some u->h'.get? b=some u):Inv X pins Z H { s with heap:=h',toks:=t' }:=I.un (Un.kept k) (I.hok.kept k)
theorem Inv.laid {a:Addr} {o:HO} {t':Nat} (I:Inv X pins Z H s) (k:∀b u,s.heap.get? b=some u->h'.get? b=some u) (hp:s.heap.objs.size<=a) (new:A2c X.prog X.w (upd H a o) h' a o) :
  Inv X pins Z (upd H a o) { s with heap:=h',toks:=t' }:=I.un (Un.laid k hp (I.hok.fresh hp)) (I.hok.laid k hp new)
theorem Inv.write {x e:Addr} {o:HO} {t':Nat} (I:Inv X pins Z H s) (mu:Mut (H x)) (he:e=x\/H e=some (.own x)) (k:∀b u,b≠e->s.heap.get? b=some u->h'.get? b=some u) (heo:∃u,h'.get? e=some u)
  (new:A2c X.prog X.w (upd H x o) h' x o):Inv X pins Z (upd H x o) { s with heap:=h',toks:=t' }:=I.un (Un.write mu he k heo) (I.hok.write mu he k heo new)
theorem Inv.weak {Z':List (Option V)} (I:Inv X pins Z H s) (hl:Z'.length=Z.length) (w:∀(i:Nat) v,Z'[i]? =some (some v)->Z[i]? =some (some v)):Inv X pins Z' H s :=
 ⟨I.ok,I.os,I.bare,I.base,let ⟨m,hn,hl'⟩:=I.loc;⟨m,hn,λi x v e1 e2 e3=>hl' i x v e1 (w i v e2) e3⟩,I.cell,I.free,I.freeC,I.pin,I.hok,hl.trans I.len⟩
theorem Inv.pins_of {pins':List (Addr×Obj)} (I:Inv X pins Z H s) (h:∀p∈pins',s.heap.get? p.1=some p.2/\H p.1=none/\p.1≠X.env.locals/\p.1∉X.fs/\∀v,p.2.data≠.cell v):Inv X pins' Z H s :=
 ⟨I.ok,I.os,I.bare,I.base,I.loc,I.cell,I.free,I.freeC,λp hp=>(Z07.mp hp).elim (λz=>I.pin p (Z05 _ z)) (h p),I.hok,I.len⟩
theorem C4c {N:List Str} (hN:N.Nodup) {i j:Nat} {x:Str} (a:N[i]? =some x) (b:N[j]? =some x):i=j:=by
 obtain ⟨h1,e1⟩:=Z03.mp a;obtain ⟨h2,e2⟩:=Z03.mp b;exact (List.getElem_inj hN).mp (e1.trans e2.symm)
theorem B9a {M:Model} {A:Around} {E:Value->Shared->Prop} {i:Nat} {x:Str} {v:V} {u:Value} {Q:Unit->Shared->Prop} (I:Inv X pins Z H s) (hN:X.N.Nodup) (hi:X.N[i]? =some x) (hx:Loc X.env.scope x) (r:A2u v u)
  (h:∀s',Inv X pins (Z.set i (some v)) H s'->(∃a,Heap.SameBut a s.heap s'.heap/\(a=X.env.locals\/X.env.cells.lookup x=some a))->Q () s') (hf:X.fn x=true\/X.env.scope.names.lookup x=some .local:=by first | exact .inl rfl | exact .inr rfl | assumption):wpAny M A (storeName X.env x u) Q E s:=by
 obtain ⟨m,hn,hl⟩:=id I.loc;have hcls:(X.env.scope.kind == .class||(X.env.scope.kind == .module&&X.env.locals != X.env.globals))=false:=by rw [I.ok.kind];rfl
 have hiZ:i<Z.length:=by rw [I.len];exact (Z03.mp hi).1
 have cne:=I.cne
 have tracked:∀{a:Addr} {h':Heap},(∃o,s.heap.get? a=some o/\H a=none)->Heap.SameBut a s.heap h'->HOk X.prog X.w H h':=λ{a h'} ha hs b ob e=>by
  obtain ⟨_,_,hfree⟩:=ha;refine (I.hok b ob e).stay (λc w' hc q=>(hs.2 c ?_).trans q) (λ_ q=>q) λ_ _ q=>q;rintro rfl;rcases hc with rfl | hc
  ·rw [hfree] at e;cases e
  ·rw [hfree] at hc;cases hc
 rcases hx with hk | hk
 ·refine wpAny_storeName_local hk hn (λh' hn' hs=> ?_) hcls;obtain ⟨oL,_,_,hoL,_⟩:=id hn;refine h _ ⟨I.ok,I.os,I.bare,⟨λb o e n hb hx=> ?_,λb o e n hb hx=> ?_,I.base.free,λb o e hx=> ?_,I.base.tups,I.base.frzs,I.base.tbls⟩,⟨_,hn',λj y v' e1 e2 e3=> ?_⟩,λy c e=> ?_,I.free,I.freeC,λp hp=> ?_,tracked ⟨oL,hoL,I.free⟩ hs,by simpa using I.len⟩ ⟨_,hs,.inl rfl⟩
  ·exact (hs.2 b (Z0h (Z0q (Z0a e) I.ok.above))).trans (I.base.keep b o e n hb hx)
  ·obtain ⟨sl,e1⟩:=I.base.slot b o e n hb hx;exact ⟨sl,(hs.2 b (Z0h (Z0q (Z0a e) I.ok.above))).trans e1⟩
  ·obtain ⟨o',e1⟩:=I.base.there b o e hx;exact ⟨o',(hs.2 b (Z0h (Z0q (Z0a e) I.ok.above))).trans e1⟩
  ·by_cases hj:j=i
   ·subst hj;rw [hi] at e1;cases e1;rw [Z23 hiZ] at e2;cases e2;exact ⟨u,r,.inl ⟨hk,by simp⟩⟩
   ·rw [Z2a (Ne.symm hj)] at e2;obtain ⟨u',r',q⟩:=hl j y v' e1 e2 e3;refine ⟨u',r',?_⟩;rcases q with ⟨k,e⟩ | ⟨k,c,e,z⟩
    ·refine .inl ⟨k,?_⟩;have:y≠x:=λe=>hj (C4c hN e1 (e▸hi));simp [this,e]
    ·exact .inr ⟨k,c,e,z.sameBut hs (cne y c e)⟩
  ·obtain ⟨w',z⟩:=I.cell y c e;exact ⟨w',z.sameBut hs (cne y c e)⟩
  ·obtain ⟨e,n,ne,nf,d⟩:=I.pin p hp;exact ⟨(hs.2 p.1 ne).trans e,n,ne,nf,d⟩
 ·have hfn:X.fn x=true:=by
   rcases hf with z | z
   ·exact z
   ·rw [z] at hk;cases hk
  obtain ⟨c,hc⟩:=I.ok.has x (.inl hk);obtain ⟨w',z⟩:=I.cell x c hc;refine wpAny_storeName_cell I.ok.kind hk hc z (λh' hc' hs=> ?_);obtain ⟨oc,hoc,hocd⟩:=id z;refine h { s with heap:=h' } ⟨I.ok,I.os,I.bare,⟨λb o e n hb hx=> ?_,λb o e n hb hx=> ?_,I.base.free,λb o e hx=> ?_,I.base.tups,I.base.frzs,I.base.tbls⟩,⟨m,hn.sameBut hs (Ne.symm (cne x c hc)),λj y v' e1 e2 e3=> ?_⟩,λy c' e=> ?_,I.free,I.freeC,λp hp=> ?_,tracked ⟨oc,hoc,I.freeC x c hc⟩ hs,by simpa using I.len⟩ ⟨c,hs,.inr hc⟩
  ·exact (hs.2 b (Z0h (Z0q (Z0a e) (I.ok.cab x c hfn hc)))).trans (I.base.keep b o e n hb hx)
  ·obtain ⟨sl,e1⟩:=I.base.slot b o e n hb hx;exact ⟨sl,(hs.2 b (Z0h (Z0q (Z0a e) (I.ok.cab x c hfn hc)))).trans e1⟩
  ·obtain ⟨o',e1⟩:=I.base.there b o e hx;exact ⟨o',(hs.2 b (Z0h (Z0q (Z0a e) (I.ok.cab x c hfn hc)))).trans e1⟩
  ·by_cases hj:j=i
   ·subst hj;rw [hi] at e1;cases e1;rw [Z23 hiZ] at e2;cases e2;exact ⟨u,r,.inr ⟨.inl hk,c,hc,hc'⟩⟩
   ·rw [Z2a (Ne.symm hj)] at e2;obtain ⟨u',r',q⟩:=hl j y v' e1 e2 e3;refine ⟨u',r',?_⟩;rcases q with q | ⟨k,c',e,z'⟩
    ·exact .inl q
    ·refine .inr ⟨k,c',e,z'.sameBut hs ?_⟩;rintro rfl;exact hj (C4c hN e1 (I.ok.inj _ _ _ e hc▸hi))
  ·by_cases hcc:c'=c
   ·subst hcc;exact ⟨_,hc'⟩
   ·obtain ⟨w2,z2⟩:=I.cell y c' e;exact ⟨w2,z2.sameBut hs hcc⟩
  ·obtain ⟨e,n,ne,nf,d⟩:=I.pin p hp;refine ⟨(hs.2 p.1 ?_).trans e,n,ne,nf,d⟩;intro q;rw [q,hoc] at e;have q':oc=p.2:=Z1a e;exact d w' (by rw [<-q'];exact hocd)
theorem C4g {M:Model} {A:Around} {E:Value->Shared->Prop} {i:Nat} {x:Str} {v:V} {u:Value} {Q:Unit->Shared->Prop} (I:Inv X pins Z H s) (hN:X.N.Nodup) (hi:X.N[i]? =some x) (hx:Loc X.env.scope x) (r:A2u v u)
  (h:∀s',Inv X pins (Z.set i (some v)) H s'->Q () s') (hf:X.fn x=true\/X.env.scope.names.lookup x=some .local:=by first | exact .inl rfl | exact .inr rfl | assumption):wpAny M A (storeName X.env x u) Q E s :=
 B9a I hN hi hx r (λs' I' _=>h s' I') hf
theorem Inv.call' {s':Shared} {ch:List Addr} (I:Inv X pins Z H s) (ho:s'.os=s.os) (u:Un (frs X.stack) ch H H' s.heap s'.heap) (hok:HOk X.prog X.w H' s'.heap) (hg:AllBare s'.gens)
  (hch:∀b∈ch,(b∈X.ex\/X.s₀.heap.objs.size<=b)/\b≠X.env.locals/\(∀x c,X.env.cells.lookup x=some c->c≠b)/\∀p∈X.pn++pins,p.1≠b):Inv X pins Z H' s':=by
 obtain ⟨h',g',d',t',o'⟩:=s';have e:o'=s.os:=ho;subst e;exact I.call (g':=g') (t':=t') (d':=d') u hok hg hch
end
abbrev XK:=Value->Option Addr->Hp->Prop
abbrev St:=List (Option V)
abbrev VK:=V->Hp->Prop
abbrev TE:=St->Hp->VK->Prop
abbrev TT:=St->Hp->(Bool->Hp->Prop)->Prop
abbrev TA:=St->Hp->(List V->Hp->Prop)->Prop
structure B6f where
 nx:St->Hp->Prop
 rt:VK
 bk:St->Hp->Prop:=λ_ _=>False
 ct:St->Hp->Prop:=λ_ _=>False
abbrev TS:=B6f->St->Hp->Prop
def EP (X:Cx) (pins:List (Addr×Obj)) (Z:St) (Q:VK) (u:Value) (s':Shared):Prop:=∃v H',Inv X pins Z H' s'/\A2u v u/\Q v H'
def TP (X:Cx) (pins:List (Addr×Obj)) (Z:St) (Q:Bool->Hp->Prop) (b:Bool) (s':Shared):Prop:=∃H',Inv X pins Z H' s'/\Q b H'
def AP (X:Cx) (pins:List (Addr×Obj)) (Z:St) (Q:List V->Hp->Prop) (us:List Value) (s':Shared):Prop:=∃vs H',Inv X pins Z H' s'/\A2r vs us/\Q vs H'
def SP (X:Cx) (pins:List (Addr×Obj)) (D:B6f) (f:Flow) (s':Shared):Prop :=
 match f with
 | .next=>∃Z' H',Inv X pins Z' H' s'/\D.nx Z' H'
 | .brk=>∃Z' H',Inv X pins Z' H' s'/\D.bk Z' H'
 | .cont=>∃Z' H',Inv X pins Z' H' s'/\D.ct Z' H'
 | .ret u=>∃v Z' H',Inv X pins Z' H' s'/\A2u v u/\D.rt v H'
def PE (X:Cx) (e:Expr) (t:TE):Prop :=
 ∀(pins:List (Addr×Obj)) (s:Shared) (Z:St) (H:Hp) (Q:VK),Inv X pins Z H s->t Z H Q->wpAny (model X.prog X.w) X.A (eval e X.env) (EP X pins Z Q) X.xe s
def PT (X:Cx) (e:Expr) (t:TT):Prop :=
 ∀(pins:List (Addr×Obj)) (s:Shared) (Z:St) (H:Hp) (Q:Bool->Hp->Prop),Inv X pins Z H s->t Z H Q->wpAny (model X.prog X.w) X.A (isTrue e X.env (eval e X.env)) (TP X pins Z Q) X.xe s
def PW (X:Cx) (e:Expr) (t:TT):Prop :=
 ∀(whole:Sem Value) (pins:List (Addr×Obj)) (s:Shared) (Z:St) (H:Hp) (Q:Bool->Hp->Prop),Inv X pins Z H s->t Z H Q->wpAny (model X.prog X.w) X.A (isTrue e X.env whole) (TP X pins Z Q) X.xe s
theorem PW.pt {X:Cx} {e:Expr} {t:TT} (h:PW X e t):PT X e t:=h _
def PA (X:Cx) (es:List Expr) (t:TA):Prop :=
 ∀(pos:Pos) (pins:List (Addr×Obj)) (s:Shared) (Z:St) (H:Hp) (Q:List V->Hp->Prop),Inv X pins Z H s->t Z H Q->wpAny (model X.prog X.w) X.A (spliced (backTo pos (starEach es X.env))) (AP X pins Z Q) X.xe s
def PS (X:Cx) (st:Stmt) (t:TS):Prop :=
 ∀(pins:List (Addr×Obj)) (s:Shared) (Z:St) (H:Hp) (D:B6f),Inv X pins Z H s->t D Z H->wpAny (model X.prog X.w) X.A (exec st X.env) (SP X pins D) X.xe s
def PSs (X:Cx) (st:List Stmt) (t:TS):Prop :=
 ∀(pins:List (Addr×Obj)) (s:Shared) (Z:St) (H:Hp) (D:B6f),Inv X pins Z H s->t D Z H->wpAny (model X.prog X.w) X.A (execs st X.env) (SP X pins D) X.xe s
theorem thn {α:Type} {t:Sem α} {Q Q':α->Shared->Prop} {M:Model} {A:Around} {E:Value->Shared->Prop} {s:Shared} (h:wpAny M A t Q E s) (hQ:∀a s,Q a s->Q' a s):wpAny M A t Q' E s:=Z10 h hQ λ_ _ x=>x
section
variable {X:Cx}
def E2c (i:Nat):TE:=λZ H Q=>∃v,Z[i]? =some (some v)/\Q v H
def tC (v:V):TE:=λ_ H Q=>Q v H
theorem E0z {i:Nat} {x:Str} {pos:Pos} (hN:X.N[i]? =some x) (hv:Vis X.env.scope x) (hd:(x == ("__debug__":Str))=false:=by decide) (hcd:(x == ("__classdict__":Str))=false:=by decide):PE X (.Name x pos) (E2c i):=by
 intro pins s Z H Q I h;obtain ⟨v,e,h⟩:=h;obtain ⟨m,hn,hl⟩:=I.loc;obtain ⟨u,r,l⟩:=hl i x v hN e hv;have fin:EP X pins Z Q u s:=⟨v,H,I,r,h⟩;rcases l with ⟨hk,hm⟩ | ⟨hk,c,hc,hcell⟩
 ·exact wpAny_Name (wpAny_loadName_local I.ok.kind hk hn hm fin) hd
 ·rcases hk with hk | hk
  ·exact wpAny_Name (wpAny_loadName_cell I.ok.kind hk hc hcell fin) hd
  ·exact wpAny_Name (wpAny_loadName_free I.ok.kind hk hc hcell fin hcd) hd
theorem A0g {i j pos}:PE X (.Constant (.int i) j pos) (tC (.int i)):=λ_ _ _ H _ I h=>wpAny_Constant_int ⟨.int i,H,I.tok _,⟨_,rfl⟩,h⟩
theorem B0l {b j pos}:PE X (.Constant (.bool b) j pos) (tC (.bl b)):=λ_ _ _ H _ I h=>Constant_bool ⟨.bl b,H,I,rfl,h⟩
theorem A0o {x j pos}:PE X (.Constant (.str x) j pos) (tC (.str x)):=λ_ _ _ H _ I h=>Calls.Constant_str ⟨.str x,H,I.tok _,⟨_,rfl⟩,h⟩
def Gl (X:Cx) (x:Str):Prop:=X.env.kindOf x=some .globalImplicit
theorem C7c {E:Value->Shared->Prop} {pins:List (Addr×Obj)} {s:Shared} {Z:St} {H:Hp} {x:Str} {u:Value} {pos:Pos} {Q:Value->Shared->Prop} (I:Inv X pins Z H s) (hg:Gl X x) (hm:X.mg x=some u) (h:Q u s)
  (hd:(x == ("__debug__":Str))=false:=by decide):wpAny (model X.prog X.w) X.A (eval (.Name x pos) X.env) Q E s :=
 Calls.Name_function_global I.ok.kind hg (Calls.loadGlobal_global (by rw [I.ok.glob];exact I.mod.glob.keeps I.bk) hm h) hd
theorem A7a {E:Value->Shared->Prop} {pins:List (Addr×Obj)} {s:Shared} {Z:St} {H:Hp} {x:Str} {u:Value} {pos:Pos} {Q:Value->Shared->Prop} (I:Inv X pins Z H s) (hg:Gl X x) (hm:X.mg x=none) (hv:bootBuiltins x=some u) (h:Q u s)
  (hn:x≠"__name__":=by decide) (hd:(x == ("__debug__":Str))=false:=by decide):wpAny (model X.prog X.w) X.A (eval (.Name x pos) X.env) Q E s:=by
 obtain ⟨mb,h1,h2⟩:=I.mod.blt;exact Calls.Name_function_global I.ok.kind hg (Calls.loadGlobal_builtin (by rw [I.ok.glob];exact I.mod.glob.keeps I.bk) hm (by rw [I.ok.blt];exact h1.keeps I.bk) ((h2 x hn).trans hv) h) hd
theorem A3q {x:Str} {v:V} {u:Value} {pos:Pos} (hg:Gl X x) (hm:X.mg x=none) (hv:bootBuiltins x=some u) (r:A2u v u) (hn:x≠"__name__":=by decide) (hd:(x == ("__debug__":Str))=false:=by decide):PE X (.Name x pos) (tC v) :=
 λ_ _ _ H _ I h=>A7a I hg hm hv ⟨v,H,I,r,h⟩ hn hd
variable {a b:Expr} {ta tb:TE} {pos:Pos}
def PC (X:Cx) (op:CmpOp) (a b:Expr) (t:TE):Prop :=
 ∀(pins:List (Addr×Obj)) (s:Shared) (Z:St) (H:Hp) (Q:VK),Inv X pins Z H s->t Z H Q->
  wpAny (model X.prog X.w) X.A (eval a X.env) (λv s₁=>wpAny (model X.prog X.w) X.A (eval b X.env) (λu s₂=>wpAny (model X.prog X.w) X.A (compareOp op v u) (EP X pins Z Q) X.xe s₂) X.xe s₁) X.xe s
def tB (t:TE):TT:=λZ H Q=>t Z H λx H1=>∃c,x= .bl c/\Q c H1
theorem D4u {op:CmpOp} {t:TE} (h:PC X op a b t) (h1:behindInMarks op b=false:=by first | exact nobehind _ (by decide) (by decide) | rfl):PT X (.Compare a [op] [b] pos) (tB t):=by
 intro pins s Z H Q I hw;refine wpAny_isTrue_Compare1 (thn (h pins s Z H _ I hw) λv s1 h1=>thn h1 λu s2 h2=>thn h2 ?_) h1;rintro c s3 ⟨x,H1,I1,r1,q1⟩;obtain ⟨d,rfl,q⟩:=q1;cases r1;exact wpAny_truthy_bool ⟨H1,I1,q⟩
theorem A3z {e:Expr} {t:TE} (h:PE X e t) (he:∀whole,isTrue e X.env whole=(do let v<-whole;standAt e.pos;holding [v] (truthy v)):=by intro _;rfl):PT X e (tB t):=by
 intro pins s Z H Q I hw;refine isTrue_plain (thn (h pins s Z H _ I hw) ?_) (he _);rintro v s1 ⟨x,H1,I1,r1,q1⟩;obtain ⟨d,rfl,q⟩:=q1;cases r1;exact wpAny_truthy_bool ⟨H1,I1,q⟩
variable {tA tB':TT} {rest:List Expr}
def tAnd (t u:TT):TT:=λZ H Q=>t Z H λc H1=>if c=true then u Z H1 Q else Q false H1
def tOr (t u:TT):TT:=λZ H Q=>t Z H λc H1=>if c=true then Q true H1 else u Z H1 Q
def tNot (t:TT):TT:=λZ H Q=>t Z H λc H1=>Q (!c) H1
theorem B1c (ha:PT X a tA):PW X (.BoolOp .And [a] pos) tA:=by
 intro wh pins s Z H Q I h;refine isTrue_and (thn (ha pins s Z H Q I h) λc s1 e=> ?_)
 cases c with
 | true=>exact isTrue_and_nil e
 | false=>exact e
theorem B4b (ha:PT X a tA):PW X (.BoolOp .Or [a] pos) tA:=by
 intro wh pins s Z H Q I h;refine isTrue_or (thn (ha pins s Z H Q I h) λc s1 e=> ?_)
 cases c with
 | false=>exact isTrue_or_nil e
 | true=>exact e
theorem B4i (ha:PT X a tA) (hb:PW X (.BoolOp .And (b::rest) pos) tB'):PW X (.BoolOp .And (a::b::rest) pos) (tAnd tA tB'):=by
 intro wh pins s Z H Q I h;refine isTrue_and (thn (ha pins s Z H _ I h) ?_);rintro c s1 ⟨H1,I1,q1⟩
 cases c with
 | true=>exact hb wh pins s1 Z H1 Q I1 q1
 | false=>exact ⟨H1,I1,q1⟩
theorem C1h (ha:PT X a tA) (hb:PW X (.BoolOp .Or (b::rest) pos) tB'):PW X (.BoolOp .Or (a::b::rest) pos) (tOr tA tB'):=by
 intro wh pins s Z H Q I h;refine isTrue_or (thn (ha pins s Z H _ I h) ?_);rintro c s1 ⟨H1,I1,q1⟩
 cases c with
 | true=>exact ⟨H1,I1,q1⟩
 | false=>exact hb wh pins s1 Z H1 Q I1 q1
theorem B2w (ha:PT X a tA):PT X (.UnaryOp .Not a pos) (tNot tA):=by
 intro pins s Z H Q I h;exact isTrue_not (ha pins s Z H (λc H1=>Q (!c) H1) I h)
def E4d (ta tb:TE):TE:=λZ H Q=>ta Z H λx H1=>∃c,x= .bl c/\if c=true then tb Z H1 Q else Q (.bl false) H1
theorem D9c {op} {t:TE} (h:PE X a t):PE X (.BoolOp op [a] pos) t:=λpins s Z H Q I hw=>BoolOp_one (h pins s Z H Q I hw)
theorem D9v (ha:PE X a ta) (hb:PE X (.BoolOp .And (b::rest) pos) tb):PE X (.BoolOp .And (a::b::rest) pos) (E4d ta tb):=by
 intro pins s Z H Q I h;refine BoolOp_and (thn (ha pins s Z H _ I h) ?_);rintro v s1 ⟨x,H1,I1,r1,q1⟩;obtain ⟨c,rfl,q1⟩:=q1;cases r1;refine wpAny_truthy_bool ?_
 cases c with
 | true=>exact hb pins s1 Z H1 Q I1 q1
 | false=>exact ⟨.bl false,H1,I1,rfl,q1⟩
end
def SqL (K:Frag) (H:Hp) (a:Addr) (xs:List V):Prop :=
 Rd H a (.lst xs)\/
  ∃(o:Obj) (its:Array Value) (n:Nat),K.lookup a=some o/\o.cls= .type "list"/\o.dict=none/\o.data= .seq its n/\its.size<=sizeLine/\A2r xs its.toList
def SqT (K:Frag) (H:Hp) (a:Addr) (xs:List V):Prop :=
 Rd H a (.tup xs)\/
  ∃(o:Obj) (its:Array Value) (n:Nat),K.lookup a=some o/\o.cls= .type "tuple"/\o.data= .seq its n/\its.size<=sizeLine/\A2r xs its.toList
noncomputable def absV:Value->Option V
 | .none=>some .non
 | .bool b=>some (.bl b)
 | .int i _=>some (.int i)
 | .str x _=>some (.str x)
 | .bytes b _=>some (.byt b)
 | .float b _=>some (.flt b)
 | .ref a=>some (.ref a)
 | .type n=>some (.ty n)
 | _=>none
theorem A2u.abs {x:V} {u:Value} (r:A2u x u):absV u=some x:=by
 cases x with
 | non=>cases r;rfl
 | bl _=>cases r;rfl
 | int _=>obtain ⟨t,rfl⟩:=r;rfl
 | str _=>obtain ⟨t,rfl⟩:=r;rfl
 | byt _=>obtain ⟨t,rfl⟩:=r;rfl
 | flt _=>obtain ⟨t,rfl⟩:=r;rfl
 | ref _=>cases r;rfl
 | ty _=>cases r;rfl
theorem A2u.inj {x y:V} {u:Value} (r:A2u x u) (q:A2u y u):x=y:=Z1a (r.abs.symm.trans q.abs)
theorem A2r.inj:∀{xs ys:List V} {us:List Value},A2r xs us->A2r ys us->xs=ys
 | _,_,_,.nil,.nil=>rfl
 | _,_,_,.cons r t,.cons r' t'=>by rw [r.inj r',A2r.inj t t']
section
variable {X:Cx} {pins:List (Addr×Obj)} {Z:St} {H:Hp} {s:Shared} {a:Addr} {xs ys:List V}
theorem SqL.of {K:Frag} (h:H a=some (.lst xs)):SqL K H a xs:= .inl (.inl h)
theorem SqT.of {K:Frag} (h:H a=some (.tup xs)):SqT K H a xs:= .inl (.inl h)
theorem Inv.list (I:Inv X pins Z H s) (h:SqL X.K H a xs):∃its:List Value,A2r xs its/\PlainL s.heap a its.toArray/\xs.length<=sizeLine:=by
 rcases h with h | ⟨o,its,n,hk,hc,hd,hs,hz,r⟩
 ·obtain ⟨z,its,n,r,e⟩:=h.ok I.hok;exact ⟨its,r,⟨_,n,e,rfl,rfl,rfl⟩,z⟩
 ·refine ⟨its.toList,r,⟨o,n,I.kIn a o hk,hc,hd,by simpa using hs⟩,?_⟩;have e:=r.length;simp only [Array.length_toList] at e
  lia
theorem Inv.tuple (I:Inv X pins Z H s) (h:SqT X.K H a xs):∃its:List Value,A2r xs its/\IsTup s.heap a its.toArray/\xs.length<=sizeLine:=by
 rcases h with h | ⟨o,its,n,hk,hc,hs,hz,r⟩
 ·obtain ⟨z,its,r,p⟩:=h.ok I.hok;exact ⟨its,r,p,z⟩
 ·refine ⟨its.toList,r,⟨o,I.kIn a o hk,hc,n,by simpa using hs⟩,?_⟩;have e:=r.length;simp only [Array.length_toList] at e
  lia
theorem Inv.list_inj (I:Inv X pins Z H s) (h:SqL X.K H a xs) (h':SqL X.K H a ys):xs=ys:=by
 obtain ⟨its,r,⟨o,n,e,_,_,d⟩,_⟩:=I.list h;obtain ⟨its',r',⟨o',n',e',_,_,d'⟩,_⟩:=I.list h';rw [e] at e';cases e';rw [d] at d';injection d' with d1 _;have:its=its':=by simpa using congrArg Array.toList d1
 subst this;exact r.inj r'
theorem Inv.tuple_inj (I:Inv X pins Z H s) (h:SqT X.K H a xs) (h':SqT X.K H a ys):xs=ys:=by
 obtain ⟨its,r,⟨o,e,_,n,d⟩,_⟩:=I.tuple h;obtain ⟨its',r',⟨o',e',_,n',d'⟩,_⟩:=I.tuple h';rw [e] at e';cases e';rw [d] at d';injection d' with d1 _;have:its=its':=by simpa using congrArg Array.toList d1
 subst this;exact r.inj r'
end
abbrev Cx.wish (X:Cx) (E:Value->Shared->Prop):Cx:={ X with xe:=E }
abbrev Cx.nox (X:Cx):Cx:=X.wish λ_ _=>False
theorem Cx.Ok.wish {X:Cx} (ok:X.Ok) (E:Value->Shared->Prop):(X.wish E).Ok :=
 ⟨ok.mod,ok.kind,ok.glob,ok.blt,ok.above,ok.inj,ok.has,ok.cab,ok.hd,ok.frames,ok.stk,ok.exf,ok.bs,ok.bsz,ok.noex,ok.exfs,ok.funs,ok.frf⟩
theorem Cx.Ok.unwish {X:Cx} {E:Value->Shared->Prop} (ok:(X.wish E).Ok):X.Ok :=
 ⟨ok.mod,ok.kind,ok.glob,ok.blt,ok.above,ok.inj,ok.has,ok.cab,ok.hd,ok.frames,ok.stk,ok.exf,ok.bs,ok.bsz,ok.noex,ok.exfs,ok.funs,ok.frf⟩
section
variable {X:Cx} {pins:List (Addr×Obj)} {Z:St} {H:Hp} {s:Shared} {E:Value->Shared->Prop}
theorem Inv.wish (I:Inv X pins Z H s) (E:Value->Shared->Prop):Inv (X.wish E) pins Z H s:=⟨I.ok.wish E,I.os,I.bare,I.base,I.loc,I.cell,I.free,I.freeC,I.pin,I.hok,I.len⟩
theorem Inv.unwish (I:Inv (X.wish E) pins Z H s):Inv X pins Z H s:=⟨I.ok.unwish,I.os,I.bare,I.base,I.loc,I.cell,I.free,I.freeC,I.pin,I.hok,I.len⟩
theorem SP.unwish {D:B6f} {f:Flow} {s':Shared} (h:SP (X.wish E) pins D f s'):SP X pins D f s':=by
 cases f with
 | next=>obtain ⟨Z',H',I,q⟩:=h;exact ⟨Z',H',I.unwish,q⟩
 | brk=>obtain ⟨Z',H',I,q⟩:=h;exact ⟨Z',H',I.unwish,q⟩
 | cont=>obtain ⟨Z',H',I,q⟩:=h;exact ⟨Z',H',I.unwish,q⟩
 | ret u=>obtain ⟨v,Z',H',I,r,q⟩:=h;exact ⟨v,Z',H',I.unwish,r,q⟩
theorem PSs.nox {st:List Stmt} {t:TS} (h:PSs X.nox st t):PSs X st t:=λpins s Z H D I hw =>
 Z10 (h pins s Z H D (I.wish _) hw) (λ_ _ q=>q.unwish) λ_ _ z=>False.elim z
end
variable {pins:List (Addr×Obj)} {Z:St} {H:Hp} {s:Shared} {e tg:Expr} {es:List Expr} {u:Value} {o:Option Value} {g:Int->Int->Int} {body:List Stmt} {tb:TS} {A:Around} {E Q:Value->Shared->Prop} {vs:List V} {P:Program} {w:World} {K:Frag} {R:Result->Shared->Prop} {pos:Pos} {fp:List Addr} {h base:Heap} {pl:Sem Bool} {f:Value->Value->Sem Value} {op:CmpOp} {C:Addr} {us:List Value} {mA mg:Str->Option Value} {kw:List (Str×Value)} {CX:CXT} {fd:FuncData} {ps:List Str} {scope:Scope} {osl:Array (Option Value)}
section
variable {X:Cx} {st:Stmt} {rest:List Stmt} {t u:TS} {e:Expr} {te:TE} {pos:Pos}
def E2u:TS:=λD Z H=>D.nx Z H
def E4r (t u:TS):TS:=λD Z H=>t { D with nx:=u D } Z H
theorem A0s:PSs X [] E2u:=λ_ _ Z H _ I h=>Z2b ⟨Z,H,I,h⟩
theorem A0c (h1:PS X st t) (h2:PSs X rest u):PSs X (st::rest) (E4r t u):=by
 intro pins s Z H D I h;refine wpAny_execs_cons (thn (h1 pins s Z H { D with nx:=u D } I h) λf s1 q=> ?_)
 cases f with
 | next =>
  obtain ⟨Z',H',I',q⟩:=q;exact h2 pins s1 Z' H' D I' q
 | ret v=>exact q
 | brk=>exact q
 | cont=>exact q
theorem A0f (h1:PS X st t):PSs X [st] t:=by
 intro pins s Z H D I h;refine wpAny_execs_cons (thn (h1 pins s Z H D I h) λf s1 q=> ?_)
 cases f with
 | next=>exact Z2b q
 | ret v=>exact q
 | brk=>exact q
 | cont=>exact q
theorem Inv.quiet (I:Inv X pins Z H s):interactive X.env=false:=by simp [interactive,I.ok.kind]
def E3n (te:TE):TS:=λD Z H=>te Z H λ_ H1=>D.nx Z H1
theorem A3c (he:PE X e te) (hs:swapsWith e none pos.line X.env=pure false:=by rfl):PS X (.Expr e pos) (E3n te):=by
 intro pins s Z H D I h;exact wpAny_Expr_any (thn (he pins s Z H _ I h) (by rintro v s1 ⟨x,H1,I1,r1,q1⟩;exact ⟨Z,H1,I1,q1⟩)) I.quiet hs
def tRet (te:TE):TS:=λD Z H=>te Z H D.rt
theorem A0p (he:PE X e te):PS X (.Return (some e) pos) (tRet te):=by
 intro pins s Z H D I h;exact wpAny_Return_some (thn (he pins s Z H _ I h) (by rintro v s1 ⟨x,H1,I1,r1,q1⟩;exact ⟨x,Z,H1,I1,r1,q1⟩))
def tIfS (c:TT) (t u:TS):TS:=λD Z H=>c Z H λb H1=>if b=true then t D Z H1 else u D Z H1
theorem A1s {c:Expr} {a b:List Stmt} {tc:TT} (hc:PT X c tc) (ha:PSs X a t) (hb:PSs X b u):PS X (.If c a b pos) (tIfS tc t u):=by
 intro pins s Z H D I h;refine wpAny_If (thn (hc pins s Z H _ I h) ?_);rintro d s1 ⟨H1,I1,q1⟩
 cases d with
 | true=>exact ha pins s1 Z H1 D I1 q1
 | false=>exact hb pins s1 Z H1 D I1 q1
end
abbrev TG:=V->St->Hp->(St->Hp->Prop)->Prop
abbrev TGs:=List V->St->Hp->(St->Hp->Prop)->Prop
def PG (X:Cx) (target:Expr) (t:TG):Prop :=
 ∀(pins:List (Addr×Obj)) (s:Shared) (Z:St) (H:Hp) (v:V) (u:Value) (Q:St->Hp->Prop),Inv X pins Z H s->A2u v u->t v Z H Q->
  wpAny (model X.prog X.w) X.A (assign target X.env u) (λ_ s'=>∃Z' H',Inv X pins Z' H' s'/\Q Z' H') X.xe s
def PGs (X:Cx) (ts:List Expr) (t:TGs):Prop :=
 ∀(pins:List (Addr×Obj)) (s:Shared) (Z:St) (H:Hp) (vs:List V) (us:List Value) (Q:St->Hp->Prop),Inv X pins Z H s->A2r vs us->t vs Z H Q->
  wpAny (model X.prog X.w) X.A (assignInOrder ((assignEach ts X.env).map (·.2)) us) (λ_ s'=>∃Z' H',Inv X pins Z' H' s'/\Q Z' H') X.xe s
abbrev E2b:=V->V->V->Hp->(Hp->Prop)->Prop
def E2m (X:Cx) (t:E2b):Prop :=
 ∀(pins:List (Addr×Obj)) (s:Shared) (Z:St) (H:Hp) (o i v:V) (ov iv u:Value) (Q:Hp->Prop),Inv X pins Z H s->A2u o ov->A2u i iv->A2u v u->t o i v H Q->
  wpAny (model X.prog X.w) X.A (setItem ov iv u) (λ_ s'=>∃H',Inv X pins Z H' s'/\Q H') X.xe s
section
variable {X:Cx} {pos:Pos}
def B5c (i:Nat):TG:=λv Z H Q=>Q (Z.set i (some v)) H
theorem A0k {i:Nat} {x:Str} (hN:X.N.Nodup) (hi:X.N[i]? =some x:=by rfl) (hx:Loc X.env.scope x:=by first | exact .inl rfl | exact .inr rfl) (hf:X.fn x=true\/X.env.scope.names.lookup x=some .local:=by first | exact .inl rfl | exact .inr rfl | assumption):PG X (.Name x pos) (B5c i):=by
 intro pins s Z H v u Q I r h;exact wpAny_assign_Name (C4g I hN hi hx r (λs' I'=>⟨_,H,I',h⟩) hf)
def E4l:TGs:=λvs Z H Q=>vs=[]/\Q Z H
def D5q (t:TG) (u:TGs):TGs:=λvs Z H Q=>∃v r,vs=v::r/\t v Z H λZ' H'=>u r Z' H' Q
theorem A3x:PGs X [] E4l:=by
 intro pins s Z H vs us Q I r h;obtain ⟨e,h⟩:=h;subst e;cases r;exact assignInOrder_nil ⟨Z,H,I,h⟩
theorem A1a {t:TG} {u:TGs} (h1:PG X e t) (h2:PGs X es u)
  (hs:(assignEach (e::es) X.env).map (·.2)=assign e X.env::(assignEach es X.env).map (·.2):=by rfl):PGs X (e::es) (D5q t u):=by
 intro pins s Z H vs us Q I r h;obtain ⟨v,vr,e1,h⟩:=h;subst e1
 cases r with
 | cons r rr =>
  rw [hs];refine assignInOrder_cons (thn (h1 pins s Z H _ _ _ I r h) ?_);rintro _ s1 ⟨Z1,H1,I1,q1⟩;exact h2 pins s1 Z1 H1 _ _ Q I1 rr q1
def E4o (K:Frag) (n:Nat) (t:TGs):TG:=λv Z H Q=>∃a xs,v= .ref a/\SqT K H a xs/\xs.length=n/\t xs Z H Q
theorem A5j {k:Nat} {t:TGs} {n:Nat} (hc:X.calm=true) (h:PGs X es t)
  (hn:(assignEach es X.env).length=n:=by rfl) (hst:(assignEach es X.env).findIdx? (·.1)=none:=by rfl):PG X (.Tuple es k pos) (E4o X.K n t):=by
 intro pins s Z H v u Q I r hw;obtain ⟨a,xs,e1,hq,hl,hw⟩:=hw;subst e1;cases r;obtain ⟨its,rv,ht,hz⟩:=I.tuple hq;refine assign_Tuple_tuple (I.ok.hd hc) ht (by simp [hn,<-hl,rv.length]) hst λh' hx=> ?_;have I1:Inv X pins Z H { s with heap:=h' }:=I.kept (t':=s.toks) λb o e=>hx b o (Z0h (Z0a e)) e
 exact h pins _ Z H xs _ Q I1 (by simpa using rv) hw
def gSub (to ti:TE) (t:E2b):TG:=λv Z H Q=>to Z H λo H1=>ti Z H1 λi H2=>t o i v H2 λH3=>Q Z H3
theorem A6z {o i:Expr} {to ti:TE} {t:E2b} (ho:PE X o to) (hi:PE X i ti) (hs:E2m X t)
  (ha:∀v,assign (.Subscript o i pos) X.env v=(do
   let ov<-holding [v] (eval o X.env)
   let iv<-holding [v,ov] (eval i X.env)
   standAt pos
   holding [v,ov,iv] (setItem ov iv v)
   release [v,ov,iv] []):=by intro _;rfl):PG X (.Subscript o i pos) (gSub to ti t):=by
 intro pins s Z H v u Q I r h;rw [ha];refine Z00 (Z1w (thn (ho pins s Z H _ I h) ?_));rintro ov s1 ⟨x,H1,I1,r1,q1⟩;refine Z00 (Z1w (thn (hi pins s1 Z H1 _ I1 q1) ?_));rintro iv s2 ⟨y,H2,I2,r2,q2⟩;refine Z00 (Z1y (Z00 (Z1w (thn (hs pins s2 Z H2 x y v ov iv u _ I2 r1 r2 r q2) ?_))));rintro _ s3 ⟨H3,I3,q3⟩;exact wpAny_release ⟨Z,H3,I3,q3⟩
def E1v (te:TE) (g:TG):TS:=λD Z H=>te Z H λx H1=>g x Z H1 D.nx
theorem A5f {te:TE} {g:TG} (he:PE X e te) (hg:PG X tg g) (hs:swapsWithSole [tg] e pos.line X.env=pure false:=by rfl) (hw:swappedStores [tg] e X.env=pure none:=by rfl)
  (h1:(assignEach [tg] X.env).map (·.2)=[assign tg X.env]:=by rfl):PS X (.Assign [tg] e pos) (E1v te g):=by
 intro pins s Z H D I h;refine wpAny_Assign_stores (thn (he pins s Z H _ I h) ?_) hs hw;rintro v s1 ⟨x,H1,I1,r1,q1⟩;rw [h1];exact thn (hg pins s1 Z H1 x v _ I1 r1 q1) λ_ s2 q=>q
theorem A0m {i:Nat} {x:Str} {te:TE} {pos':Pos} (hN:X.N.Nodup) (he:PE X e te) (hi:X.N[i]? =some x:=by rfl) (hx:Loc X.env.scope x:=by first | exact .inl rfl | exact .inr rfl) (hs:swapsWith e (some (.Name x pos')) pos.line X.env=pure false:=by rfl) (hf:X.fn x=true\/X.env.scope.names.lookup x=some .local:=by first | exact .inl rfl | exact .inr rfl | assumption) :
  PS X (.Assign [.Name x pos'] e pos) (E1v te (B5c i)):=by
 intro pins s Z H D I h;refine wpAny_Assign_Name (thn (he pins s Z H _ I h) ?_) hs;rintro v s1 ⟨y,H1,I1,r1,q1⟩;exact C4g I1 hN hi hx r1 (λs2 I2=>⟨_,H1,I2,q1⟩) hf
def D8x (c:TT) (tb:TS):TS:=λD Z H=>∃W:Nat->St->Hp->Prop,(∃m,W m Z H)/\∀m Z H,W m Z H->
 c Z H λb H1=>if b=true then∃N:St->Hp->Prop,(∀Z' H',N Z' H'->∃m',m'<m/\W m' Z' H')/\tb { D with nx:=N,ct:=N,bk:=D.nx } Z H1 else D.nx Z H1
theorem C4m {c:Expr} {tc:TT} (hp:PassesOwn (model X.prog X.w) X.A X.env X.xe) (hc:PT X c tc) (hb:PSs X body tb):PS X (.While c body [] pos) (D8x tc tb):=by
 intro pins s Z H D I h;obtain ⟨W,⟨m0,w0⟩,turn⟩:=h;refine wpAny_While (codeAny_whileLoop (λn s'=>∃Z' H',Inv X pins Z' H' s'/\W n Z' H') ?_ m0 ⟨Z,H,I,w0⟩);rintro n s1 ⟨Z1,H1,I1,w1⟩;refine wpAny_passesOwn hp (thn (hc pins s1 Z1 H1 _ I1 (turn n Z1 H1 w1)) ?_);rintro b s2 ⟨H2,I2,q2⟩
 cases b with
 | true =>
  obtain ⟨N,hN,q2⟩:=q2;rw [Z12 rfl];refine wpAny_passesOwn hp (thn (hb pins s2 Z1 H2 _ I2 q2) λf s3 q3=> ?_)
  cases f with
  | next =>
   obtain ⟨Z3,H3,I3,n3⟩:=q3;obtain ⟨m',hm,w3⟩:=hN Z3 H3 n3;exact ⟨m',hm,Z3,H3,I3,w3⟩
  | cont =>
   obtain ⟨Z3,H3,I3,n3⟩:=q3;obtain ⟨m',hm,w3⟩:=hN Z3 H3 n3;exact ⟨m',hm,Z3,H3,I3,w3⟩
  | brk=>exact q3
  | ret v=>exact q3
 | false =>
  rw [Z0t Z0v];exact Z2b ⟨Z1,H2,I2,q2⟩
end
structure It where
 go:Nat->Hp->Prop
 yld:Nat->Hp->V->Hp->Prop
 stop:Nat->Hp->Prop
def B9l (X:Cx) (pins:List (Addr×Obj)) (H:Hp) (b:Addr):Prop :=
 H b=none/\b≠X.env.locals/\b∉X.fs/\(b∈X.ex\/X.s₀.heap.objs.size<=b)/\(∀x c,X.env.cells.lookup x=some c->c≠b)/\∀p∈X.pn++pins,p.1≠b
theorem Inv.fpOk {X:Cx} {H':Hp} {b:Addr} (I:Inv X pins Z H s) (hb:s.heap.objs.size<=b) (hn:H' b=none):B9l X pins H' b:=by
 refine ⟨hn,Z1q (Z0q I.lt hb),I.nofs hb,.inr (Z1n I.sz hb),λx c e z=> ?_,λp hp z=> ?_⟩
 ·obtain ⟨v,q⟩:=I.cell x c e;exact absurd (Z0q q.lt (by rw [z];exact hb)) (Nat.lt_irrefl _)
 ·exact absurd (Z0q (Z0a (I.pin p hp).1) (by rw [z];exact hb)) (Nat.lt_irrefl _)
structure C7a (P:Program) (w:World) (K:Frag) (tg:Expr) (J:It) (fp:List Addr) (it:Addr) (tn:Nat->Heap->Prop):Prop where
 mem:it∈fp
 obj:∀i h,tn i h->∀b∈fp,∃o,h.get? b=some o/\∀v,o.data≠.cell v
 keep:∀i h h',tn i h->(∀b∈fp,∀o,h.get? b=some o->h'.get? b=some o)->tn i h'
 item:∀(X:Cx),X.prog=P->X.w=w->X.K=K->X.calm=true->∀(i:Nat) (pins:List (Addr×Obj)) (s:Shared) (Z:St) (H:Hp) (E:Value->Shared->Prop),Inv X pins Z H s->(∀b∈fp,B9l X pins H b)->tn i s.heap->J.go i H->
  wpAny (model P w) X.A (pyNext (.ref it)) (λr s1=>∃u,r=some u/\
   wpAny (model P w) X.A (letOwnedTupleGo tg (.ref it) u) (λ_ s2=>∃x H',Inv X pins Z H' s2/\A2u x u/\J.yld i H x H'/\tn (i+1) s2.heap/\∀b∈fp,H' b=none) E s1) E s
 done:∀(X:Cx),X.prog=P->X.w=w->X.K=K->X.calm=true->∀(i:Nat) (pins:List (Addr×Obj)) (s:Shared) (Z:St) (H:Hp) (E:Value->Shared->Prop),Inv X pins Z H s->(∀b∈fp,B9l X pins H b)->tn i s.heap->J.stop i H->
  wpAny (model P w) X.A (pyNext (.ref it)) (λr s1=>r=none/\Inv X pins Z H s1) E s
 self:∀(A:Around) (i:Nat) (s:Shared) (Q:Value->Shared->Prop) (E:Value->Shared->Prop),tn i s.heap->Q (.ref it) s->wpAny (model P w) A (pyIter (.ref it)) Q E s
abbrev TI:=St->Hp->(It->Hp->Prop)->Prop
def PIE (X:Cx) (pins:List (Addr×Obj)) (Z:St) (tg:Expr) (R:It->Hp->Prop) (itv:Value) (s2:Shared):Prop :=
 ∃(it:Addr) (fp:List Addr) (tn:Nat->Heap->Prop) (J:It) (H':Hp),itv= .ref it/\Inv X pins Z H' s2/\C7a X.prog X.w X.K tg J fp it tn/\tn 0 s2.heap/\(∀b∈fp,B9l X pins H' b)/\R J H'
def PI (X:Cx) (tg iter:Expr) (wi:TI):Prop :=
 ∀(pins:List (Addr×Obj)) (s:Shared) (Z:St) (H:Hp) (R:It->Hp->Prop),Inv X pins Z H s->wi Z H R->
  wpAny (model X.prog X.w) X.A (eval iter X.env) (λv s1=>wpAny (model X.prog X.w) X.A (pyIter v) (PIE X pins Z tg R) X.xe s1) X.xe s
theorem C3g {M:Model} {it:Addr} {o:Obj} {n:String} {vs:Array Value} {Q:Unit->Shared->Prop} (ho:s.heap.get? it=some o) (hc:o.cls= .type n) (hd:o.data= .fields vs)
  (hn:["enumerate","zip","dict_itemiterator","dict_reverseitemiterator","odict_iterator","itertools.zip_longest","itertools.pairwise"].contains n=false) (hQ:Q () s):wpAny M A (letOwnedTupleGo tg (.ref it) u) Q E s:=by
 unfold letOwnedTupleGo
 cases tg <;> first
  | exact Z04 hQ
  | (cases u <;> first
    | exact Z04 hQ
    | (refine Z00 (wpAny_load ho ?_);rw [hc,hd];show wpAny M A (if (["enumerate","zip","dict_itemiterator","dict_reverseitemiterator","odict_iterator","itertools.zip_longest","itertools.pairwise"].contains n&&vs[0]? == some (rawInt _))=true then _ else _) Q E s;rw [Z0t (by intro h;rw [hn,Bool.false_and] at h;cases h)];exact Z04 hQ))
def Itl (K:Frag) (a:Addr):It :=
 ⟨λi H=>∃xs x,SqL K H a xs/\xs[i]? =some x,λi H x H'=>H'=H/\∀xs,SqL K H a xs->xs[i]? =some x,λi H=>∃xs,SqL K H a xs/\xs.length<=i⟩
def Itt (K:Frag) (a:Addr):It :=
 ⟨λi H=>∃xs x,SqT K H a xs/\xs[i]? =some x,λi H x H'=>H'=H/\∀xs,SqT K H a xs->xs[i]? =some x,λi H=>∃xs,SqT K H a xs/\xs.length<=i⟩
def Itr (lo:Int) (n:Nat):It:=⟨λi _=>i<n,λi H x H'=>H'=H/\x= .int (lo+i),λi _=>n<=i⟩
theorem C8q (a it:Addr):C7a P w K tg (Itl K a) [it] it (λi h=>h.IsListIter it a i) where
 mem:=by simp
 obj:=λi h st b hb=>by
  have e:b=it:=by simpa using hb
  subst e;obtain ⟨o,e,c,d⟩:=st;exact ⟨o,e,λv z=>by rw [d] at z;cases z⟩
 keep:=λi h h' st k=>st.at λo e=>k it (by simp) o e
 item:=by
  walk_at "c";obtain ⟨xs,x,hq,hx⟩:=hg;obtain ⟨its,rv,p,hz⟩:=I.list hq;obtain ⟨u,hu,ru⟩:=rv.get hx;walk_at "f";refine wpAny_pyNext_list_item st p.isList (x:=u) (by simpa using hu) λh' st' sb=> ?_;have I1:Inv X pins Z H { s with heap:=h' }:=I.turned (t':=s.toks) (λb o hb e=>(sb.2 b hb).trans e) f0 f1 f3 f4 f5
  obtain ⟨o,e,c,d⟩:=id st';exact ⟨u,rfl,C3g (s:={ s with heap:=h' }) e c d (by decide) ⟨x,H,I1,ru,⟨rfl,λys hy=>by rw [I.list_inj hy hq];exact hx⟩,st',λb hb=>(hf b hb).1⟩⟩
 done:=by
  walk_at "c";obtain ⟨xs,hq,hx⟩:=hg;obtain ⟨its,rv,p,hz⟩:=I.list hq;walk_at "f";have hl:=rv.length;exact wpAny_pyNext_list_end (I.ok.hd hc) st p.isList (by simp;lia) λh' eb=>⟨rfl,I.turned (t':=s.toks) (λb o hb e=>eb b o hb e) f0 f1 f3 f4 f5⟩
 self:=λ_ _ _ _ _ st h=>wpAny_pyIter_listiter st h
theorem C5j (a it:Addr):C7a P w K tg (Itt K a) [it] it (λi h=>h.IsTupleIter it a i) where
 mem:=by simp
 obj:=λi h st b hb=>by
  have e:b=it:=by simpa using hb
  subst e;obtain ⟨o,e,c,d⟩:=st;exact ⟨o,e,λv z=>by rw [d] at z;cases z⟩
 keep:=λi h h' st k=>st.at λo e=>k it (by simp) o e
 item:=by
  walk_at "c";obtain ⟨xs,x,hq,hx⟩:=hg;obtain ⟨its,rv,p,hz⟩:=I.tuple hq;obtain ⟨u,hu,ru⟩:=rv.get hx;walk_at "f";refine wpAny_pyNext_tuple_item st (show s.heap.IsTuple a its.toArray from p) (x:=u) (by simpa using hu) λh' st' sb=> ?_;have I1:Inv X pins Z H { s with heap:=h' }:=I.turned (t':=s.toks) (λb o hb e=>(sb.2 b hb).trans e) f0 f1 f3 f4 f5
  obtain ⟨o,e,c,d⟩:=id st';exact ⟨u,rfl,C3g (s:={ s with heap:=h' }) e c d (by decide) ⟨x,H,I1,ru,⟨rfl,λys hy=>by rw [I.tuple_inj hy hq];exact hx⟩,st',λb hb=>(hf b hb).1⟩⟩
 done:=by
  walk_at "c";obtain ⟨xs,hq,hx⟩:=hg;obtain ⟨its,rv,p,hz⟩:=I.tuple hq;walk_at "f";have hl:=rv.length;exact wpAny_pyNext_tuple_end (I.ok.hd hc) st (show s.heap.IsTuple a its.toArray from p) (by simp;lia) λh' eb=>⟨rfl,I.turned (t':=s.toks) (λb o hb e=>eb b o hb e) f0 f1 f3 f4 f5⟩
 self:=λ_ _ _ _ _ st h=>wpAny_pyIter_tupleiter st h
theorem C6r (it:Addr) (lo:Int) (n:Nat):C7a P w K tg (Itr lo n) [it] it (λi h=>IsRangeIter h it (lo+(i:Nat)*1) ((n:Int)-(i:Nat)) 1) where
 mem:=by simp
 obj:=λi h st b hb=>by
  have e:b=it:=by simpa using hb
  subst e
  exact ⟨_,st,λv z=>by
   have z':Data.fields _=Data.cell v:=z
   cases z'⟩
 keep:=λi h h' st k=>k it (by simp) _ st
 item:=by
  walk_at "c";walk_at "f";have W:=Walks.range (prog:=X.prog) (w:=X.w) (I.ok.hd hc) it lo 1 n;refine W.item i s _ _ hg st λv h' tk hv st' kk=> ?_;obtain ⟨t,rfl⟩:=hv;have I1:Inv X pins Z H { s with heap:=h',toks:=tk }:=I.turned (λb o hb e=>kk b o (by simpa using hb) e) f0 f1 f3 f4 f5
  refine ⟨_,rfl,C3g (s:={ s with heap:=h',toks:=tk }) (n:="range_iterator") st' rfl rfl (by decide) ⟨.int (lo+i),H,I1,⟨t,?_⟩,⟨rfl,rfl⟩,st',λb hb=>(hf b hb).1⟩⟩
  rw [Int.mul_one]
 done:=by
  walk_at "c";walk_at "f";exact wpAny_pyNext_range_end (I.ok.hd hc) st (by have:n<=i:=hg;lia) λh' eb=>⟨rfl,I.turned (t':=s.toks) (λb o hb e=>eb b o hb e) f0 f1 f3 f4 f5⟩
 self:=λ_ _ _ _ _ st h=>wpAny_pyIter_rangeiter st h
section
variable {X:Cx} {tg:Expr}
def D8z (K:Frag) (tl:TE):TI:=λZ H R=>tl Z H λx H1=>∃a,x= .ref a/\(∃xs,SqL K H1 a xs)/\R (Itl K a) H1
def E4g (K:Frag) (tl:TE):TI:=λZ H R=>tl Z H λx H1=>∃a,x= .ref a/\(∃xs,SqT K H1 a xs)/\R (Itt K a) H1
theorem A1n {l:Expr} {tl:TE} (hl:PE X l tl):PI X tg l (D8z X.K tl):=by
 intro pins s Z H R I h;refine thn (hl pins s Z H _ I h) ?_;rintro v s1 ⟨x,H1,I1,r1,q1⟩;obtain ⟨a,e,⟨xs,hq⟩,q⟩:=q1;subst e;cases r1;obtain ⟨its,rv,p,hz⟩:=I1.list hq;refine wpAny_pyIter_list p.isList ?_;refine ⟨s1.heap.objs.size,[s1.heap.objs.size],_,_,H1,rfl,I1.kept (t':=s1.toks) λb o e=>Z01 _ e,C8q a _,⟨_,Z0c _ rfl,rfl,rfl⟩,λb hb=> ?_,q⟩;have e:b=s1.heap.objs.size:=by simpa using hb
 subst e;exact I1.fpOk (Z09 _) (I1.hok.fresh (Z09 _))
theorem D4n {l:Expr} {tl:TE} (hl:PE X l tl):PI X tg l (E4g X.K tl):=by
 intro pins s Z H R I h;refine thn (hl pins s Z H _ I h) ?_;rintro v s1 ⟨x,H1,I1,r1,q1⟩;obtain ⟨a,e,⟨xs,hq⟩,q⟩:=q1;subst e;cases r1;obtain ⟨its,rv,p,hz⟩:=I1.tuple hq;refine wpAny_pyIter_tuple (show s1.heap.IsTuple a its.toArray from p) ?_;refine ⟨s1.heap.objs.size,[s1.heap.objs.size],_,_,H1,rfl,I1.kept (t':=s1.toks) λb o e=>Z01 _ e,C5j a _,⟨_,Z0c _ rfl,rfl,rfl⟩,λb hb=> ?_,q⟩;have e:b=s1.heap.objs.size:=by simpa using hb
 subst e;exact I1.fpOk (Z09 _) (I1.hok.fresh (Z09 _))
theorem D3q {R:It->Hp->Prop} {lo hi:Int} {t u v:Tok} {tk:Nat} (I:Inv X pins Z H s) (h1: -(2^62)<=lo) (h2:lo<2^62) (h3: -(2^62)<=hi) (h4:hi<2^62)
  (q:R (Itr lo (hi-lo).toNat) H):wpAny (model X.prog X.w) X.A (pyIter (.ref s.heap.objs.size)) (PIE X pins Z tg R) E { s with heap:=s.heap.push { cls:= .type "range",data:= .fields #[.int lo t,.int hi u,.int 1 v] },toks:=tk }:=by
 refine wpAny_pyIter_range (IsRange.new ..) (small_one h1 h2 h3 h4) ?_;have I1:Inv X pins Z H { s with heap:=s.heap.push { cls:= .type "range",data:= .fields #[.int lo t,.int hi u,.int 1 v] },toks:=tk }:=I.kept λb o e=>Z01 _ e
 refine ⟨(s.heap.push { cls:= .type "range",data:= .fields #[.int lo t,.int hi u,.int 1 v] }).objs.size,[(s.heap.push { cls:= .type "range",data:= .fields #[.int lo t,.int hi u,.int 1 v] }).objs.size],_,_,H,rfl,
  I1.kept (t':=tk) λb o e=>Z01 _ e,C6r _ lo (hi-lo).toNat,?_,λb hb=> ?_,q⟩
 ·have e1:lo+((0:Nat):Int)*1=lo:=by simp
  have e2:(((hi-lo).toNat:Nat):Int)-((0:Nat):Int)=Builtin.Range.rangeSize lo hi 1:=by rw [rangeSize_one];split <;> lia
  show IsRangeIter _ _ (lo+((0:Nat):Int)*1) ((((hi-lo).toNat:Nat):Int)-((0:Nat):Int)) 1;rw [e1,e2];exact Z0c _ rfl
 ·have e:b=(s.heap.push { cls:= .type "range",data:= .fields #[.int lo t,.int hi u,.int 1 v] }).objs.size:=by simpa using hb
  subst e;exact I1.fpOk (Z09 _) (I1.hok.fresh (Z09 _))
def E3o (ta:TA):TI:=λZ H R=>ta Z H λvs H1=>∃j:Int,vs=[.int j]/\-(2^62)<=j/\j<2^62/\R (Itr 0 j.toNat) H1
theorem A4j {a:Expr} {ta:TA} {p:Pos} (hg:Gl X "range") (hm:X.mg "range"=none) (ha:PA X [a] ta) (hs:starEach [a] X.env=[(false,eval a X.env)]:=by rfl):PI X tg (.Call (.Name "range" p) [a] [] pos) (E3o ta):=by
 intro pins s Z H R I h;refine Call_ (A7a I hg hm boot_range (PyProof.Rows.callWith_type1 (thn (ha pos pins s Z H _ I h) ?_) hs rfl));rintro us s1 ⟨vs,H1,I1,r1,q1⟩;obtain ⟨j,e,q1,q2,q⟩:=q1;subst e
 cases r1 with
 | cons r rr =>
  cases rr
  obtain ⟨t,rfl⟩:=r;exact call_range_1 (D3q I1 (by lia) (by lia) q1 q2 (by simpa using q))
def tFor (wi:TI) (g:TG) (tb:TS):TS:=λD Z H=>wi Z H λJ H1=>∃W:Nat->Nat->St->Hp->Prop,(∃m,W 0 m Z H1)/\∀i m Z H,W i m Z H->
 (J.stop i H/\D.nx Z H)\/(J.go i H/\∃N:St->Hp->Prop,(∀Z' H',N Z' H'->∃m',m'<m/\W (i+1) m' Z' H')/\∀x H',J.yld i H x H'->g x Z H' λZ2 H2=>tb { D with nx:=N,ct:=N,bk:=D.nx } Z2 H2)
def B5t (fp:List Addr) (h:Heap):List (Addr×Obj):=fp.filterMap λb=>(h.get? b).map λo=>(b,o)
theorem A5q {b:Addr} {o:Obj} (hb:b∈fp) (e:h.get? b=some o):(b,o)∈B5t fp h:=List.mem_filterMap.mpr ⟨b,hb,by rw [e];rfl⟩
theorem C7f {p:Addr×Obj} (hp:p∈B5t fp h):p.1∈fp/\h.get? p.1=some p.2:=by
 obtain ⟨b,hb,e⟩:=List.mem_filterMap.mp hp
 cases q:h.get? b with
 | none=>rw [q] at e;cases e
 | some o =>
  rw [q] at e;have e':(b,o)=p:=Z1a e;subst e';exact ⟨hb,q⟩
theorem Inv.pinned (I:Inv X pins Z H s) (hf:∀b∈fp,B9l X pins H b) (ho:∀b∈fp,∃o,s.heap.get? b=some o/\∀v,o.data≠.cell v):Inv X (pins++B5t fp s.heap) Z H s :=
 I.pins_of λp hp=>(Z07.mp hp).elim (λz=>I.pin p (Z02 _ z)) λz=>by
  obtain ⟨hb,e⟩:=C7f z;obtain ⟨f0,f1,f2,_⟩:=hf p.1 hb;obtain ⟨o,e',d⟩:=ho p.1 hb;rw [e] at e';cases e';exact ⟨e,f0,f1,f2,d⟩
theorem Inv.unpinned {pl:List (Addr×Obj)} (I:Inv X (pins++pl) Z H s):Inv X pins Z H s:=I.pins_of λp hp=>I.pin p (Z02 _ (Z05 _ hp))
theorem A1o {iter:Expr} {wi:TI} {g:TG} (hi:PI X tg iter wi) (hg:PG X tg g) (hb:PSs X body tb) (hp:PassesOwn (model X.prog X.w) X.A X.env X.xe:=by exact PassesOwn.never) (hc:X.calm=true:=by rfl)
  (hs:∀x,foldedSetIterable iter X.env x=pure x:=by intro _;rfl):PS X (.For tg iter body [] pos) (tFor wi g tb):=by
 intro pins s Z H D I h;refine wpAny_For (thn (hi pins s Z H _ I h) λv s1 h1=>thn h1 λitv s2 h2=> ?_) hs;obtain ⟨it,fp,tn,J,H2,e,I2,T,st2,f2,W,⟨m0,w0⟩,turn⟩:=h2;subst e;have stat:∀{H':Hp},(∀b∈fp,H' b=none)->∀b∈fp,B9l X pins H' b:=λhn b hb=>⟨hn b hb,(f2 b hb).2⟩;refine codeAny_forLoop_any (λn s'=>∃i Z' H',Inv X pins Z' H' s'/\tn i s'.heap/\(∀b∈fp,H' b=none)/\W i n Z' H') ?_ m0 ⟨0,Z,H2,I2,st2,λb hb=>(f2 b hb).1,w0⟩;rintro n s3 ⟨i,Z3,H3,I3,st3,fr3,w3⟩;rcases turn i n Z3 H3 w3 with ⟨stop,qn⟩ | ⟨go,N,hN,step⟩
 ·refine wpAny_passesOwn hp (thn (T.done X rfl rfl rfl hc i pins s3 Z3 H3 X.xe I3 (stat fr3) st3 stop) ?_);rintro r s4 ⟨hr,I4⟩;subst hr;exact Z2b ⟨Z3,H3,I4,qn⟩
 ·refine wpAny_passesOwn hp (thn (T.item X rfl rfl rfl hc i pins s3 Z3 H3 X.xe I3 (stat fr3) st3 go) ?_);rintro r s4 ⟨u,hr,h4⟩;subst hr;refine wpAny_passesOwn hp (thn h4 ?_);rintro _ s5 ⟨x,H5,I5,r5,y5,st5,fr5⟩;have I5':=I5.pinned (stat fr5) (T.obj _ _ st5);refine wpAny_passesOwn hp (thn (hg _ s5 Z3 H5 x u _ I5' r5 (step x H5 y5)) ?_);rintro _ s6 ⟨Z6,H6,I6,q6⟩;refine wpAny_passesOwn hp (thn (hb _ s6 Z6 H6 _ I6 q6) λf s7 q7=> ?_)
  have again:∀{Z7:St} {H7:Hp},Inv X (pins++B5t fp s5.heap) Z7 H7 s7->N Z7 H7->∃m,m<n/\∃i Z' H',Inv X pins Z' H' s7/\tn i s7.heap/\(∀b∈fp,H' b=none)/\W i m Z' H':=λ{Z7 H7} I7 n7=>by
   obtain ⟨m',hm,w7⟩:=hN Z7 H7 n7;refine ⟨m',hm,i+1,Z7,H7,I7.unpinned,T.keep _ _ _ st5 λb hb o e=>(I7.pin (b,o) (Z02 _ (Z02 _ (A5q hb e)))).1,λb hb=> ?_,w7⟩;obtain ⟨o,e,d⟩:=T.obj _ _ st5 b hb;exact (I7.pin (b,o) (Z02 _ (Z02 _ (A5q hb e)))).2.1
  cases f with
  | next=>obtain ⟨Z7,H7,I7,n7⟩:=q7;exact again I7 n7
  | cont=>obtain ⟨Z7,H7,I7,n7⟩:=q7;exact again I7 n7
  | brk=>obtain ⟨Z7,H7,I7,q7⟩:=q7;exact ⟨Z7,H7,I7.unpinned,q7⟩
  | ret v=>obtain ⟨x7,Z7,H7,I7,r7,q7⟩:=q7;exact ⟨x7,Z7,H7,I7.unpinned,r7,q7⟩
end
theorem A1v {a:Addr} {xs:List V} {g:TG} {D:B6f} (Pv:Nat->St->Hp->Prop) (h0:Pv 0 Z H) (hl:∀i Z H,i<=xs.length->Pv i Z H->SqL K H a xs)
  (hs:∀i x Z H,xs[i]? =some x->Pv i Z H->g x Z H λZ2 H2=>tb { D with nx:=Pv (i+1),ct:=Pv (i+1),bk:=D.nx } Z2 H2) (hd:∀Z H,Pv xs.length Z H->D.nx Z H) :
  ∃W:Nat->Nat->St->Hp->Prop,(∃m,W 0 m Z H)/\∀i m Z H,W i m Z H->
   ((Itl K a).stop i H/\D.nx Z H)\/((Itl K a).go i H/\∃N:St->Hp->Prop,(∀Z' H',N Z' H'->∃m',m'<m/\W (i+1) m' Z' H')/\∀x H',(Itl K a).yld i H x H'->g x Z H' λZ2 H2=>tb { D with nx:=N,ct:=N,bk:=D.nx } Z2 H2):=by
 walk_at "e";have q:=hl i Z H hi p;by_cases hlt:i<xs.length
 ·refine .inr ⟨⟨xs,xs[i],q,by simp [hlt]⟩,Pv (i+1),λZ' H' p'=>⟨xs.length-(i+1),by lia,rfl,hlt,p'⟩,λx H' y=> ?_⟩;obtain ⟨e,y⟩:=y;subst e;exact hs i x Z _ (y xs q) p
 ·have e:i=xs.length:=by lia
  subst e;exact .inl ⟨⟨xs,q,Z09 _⟩,hd Z H p⟩
theorem D5p {a:Addr} {xs:List V} {g:TG} {D:B6f} (Pv:Nat->St->Hp->Prop) (h0:Pv 0 Z H) (hl:∀i Z H,i<=xs.length->Pv i Z H->SqT K H a xs)
  (hs:∀i x Z H,xs[i]? =some x->Pv i Z H->g x Z H λZ2 H2=>tb { D with nx:=Pv (i+1),ct:=Pv (i+1),bk:=D.nx } Z2 H2) (hd:∀Z H,Pv xs.length Z H->D.nx Z H) :
  ∃W:Nat->Nat->St->Hp->Prop,(∃m,W 0 m Z H)/\∀i m Z H,W i m Z H->
   ((Itt K a).stop i H/\D.nx Z H)\/((Itt K a).go i H/\∃N:St->Hp->Prop,(∀Z' H',N Z' H'->∃m',m'<m/\W (i+1) m' Z' H')/\∀x H',(Itt K a).yld i H x H'->g x Z H' λZ2 H2=>tb { D with nx:=N,ct:=N,bk:=D.nx } Z2 H2):=by
 walk_at "e";have q:=hl i Z H hi p;by_cases hlt:i<xs.length
 ·refine .inr ⟨⟨xs,xs[i],q,by simp [hlt]⟩,Pv (i+1),λZ' H' p'=>⟨xs.length-(i+1),by lia,rfl,hlt,p'⟩,λx H' y=> ?_⟩;obtain ⟨e,y⟩:=y;subst e;exact hs i x Z _ (y xs q) p
 ·have e:i=xs.length:=by lia
  subst e;exact .inl ⟨⟨xs,q,Z09 _⟩,hd Z H p⟩
theorem A7e {lo:Int} {n:Nat} {g:TG} {D:B6f} (Pv:Nat->St->Hp->Prop) (h0:Pv 0 Z H)
  (hs:∀i Z H,i<n->Pv i Z H->g (.int (lo+i)) Z H λZ2 H2=>tb { D with nx:=Pv (i+1),ct:=Pv (i+1),bk:=D.nx } Z2 H2) (hd:∀Z H,Pv n Z H->D.nx Z H) :
  ∃W:Nat->Nat->St->Hp->Prop,(∃m,W 0 m Z H)/\∀i m Z H,W i m Z H->
   ((Itr lo n).stop i H/\D.nx Z H)\/((Itr lo n).go i H/\∃N:St->Hp->Prop,(∀Z' H',N Z' H'->∃m',m'<m/\W (i+1) m' Z' H')/\∀x H',(Itr lo n).yld i H x H'->g x Z H' λZ2 H2=>tb { D with nx:=N,ct:=N,bk:=D.nx } Z2 H2):=by
 refine ⟨λi m Z H=>m=n-i/\i<=n/\Pv i Z H,⟨n,by simp,Z1e _,h0⟩,?_⟩;rintro i m Z H ⟨rfl,hi,p⟩;by_cases hlt:i<n
 ·refine .inr ⟨hlt,Pv (i+1),λZ' H' p'=>⟨n-(i+1),by lia,rfl,hlt,p'⟩,λx H' y=> ?_⟩;obtain ⟨e,y⟩:=y;subst e y;exact hs i Z _ hlt p
 ·have e:i=n:=by lia
  subst e;exact .inl ⟨Z09 _,hd Z H p⟩
abbrev R2:=V->V->Hp->VK->Prop
def OpR (X:Cx) (f:Value->Value->Sem Value) (r:R2):Prop :=
 ∀(pins:List (Addr×Obj)) (s:Shared) (Z:St) (H:Hp) (x y:V) (v u:Value) (Q:VK),Inv X pins Z H s->A2u x v->A2u y u->r x y H Q->
  wpAny (model X.prog X.w) X.A (f v u) (EP X pins Z Q) X.xe s
def UnR (X:Cx) (f:Value->Sem Value) (r:V->Hp->VK->Prop):Prop :=
 ∀(pins:List (Addr×Obj)) (s:Shared) (Z:St) (H:Hp) (x:V) (v:Value) (Q:VK),Inv X pins Z H s->A2u x v->r x H Q->
  wpAny (model X.prog X.w) X.A (f v) (EP X pins Z Q) X.xe s
def B1i (X:Cx) (f:Value) (r:List V->Hp->VK->Prop):Prop :=
 ∀(pins:List (Addr×Obj)) (s:Shared) (Z:St) (H:Hp) (xs:List V) (us:List Value) (Q:VK),Inv X pins Z H s->A2r xs us->r xs H Q->
  wpAny (model X.prog X.w) X.A (call f us) (EP X pins Z Q) X.xe s
def tOp (r:R2) (ta tb:TE):TE:=λZ H Q=>ta Z H λx H1=>tb Z H1 λy H2=>r x y H2 Q
def tUn (r:V->Hp->VK->Prop) (ta:TE):TE:=λZ H Q=>ta Z H λx H1=>r x H1 Q
def rI (C:Int->Int->Prop) (g:Int->Int->V):R2:=λx y H Q=>∃i j,x= .int i/\y= .int j/\C i j/\Q (g i j) H
def rI0 (g:Int->Int->V):R2:=λx y H Q=>∃i j,x= .int i/\y= .int j/\Q (g i j) H
def rU (g:Int->V):V->Hp->VK->Prop:=λx H Q=>∃i,x= .int i/\Q (g i) H
section
variable {X:Cx} {a b c:Expr} {ta tb tc:TE} {pos:Pos}
theorem E4e (ha:PE X a ta) (hb:PE X b tb) {R:V->V->Hp->Prop} (I:Inv X pins Z H s)
  (h:ta Z H λx H1=>tb Z H1 λy H2=>R x y H2)
  (hf:∀v u s2 x y H2,Inv X pins Z H2 s2->A2u x v->A2u y u->R x y H2->wpAny (model X.prog X.w) X.A (f v u) Q X.xe s2) :
  wpAny (model X.prog X.w) X.A (eval a X.env) (λv s₁=>wpAny (model X.prog X.w) X.A (eval b X.env) (λu s₂=>wpAny (model X.prog X.w) X.A (f v u) Q X.xe s₂) X.xe s₁) X.xe s:=by
 refine thn (ha pins s Z H _ I h) ?_;rintro v s1 ⟨x,H1,I1,r1,q1⟩;refine thn (hb pins s1 Z H1 _ I1 q1) ?_;rintro u s2 ⟨y,H2,I2,r2,q2⟩;exact hf v u s2 x y H2 I2 r1 r2 q2
theorem A0x {op:Operator} {r:R2} (ho:OpR X (binaryOp op) r) (ha:PE X a ta) (hb:PE X b tb):PE X (.BinOp a op b pos) (tOp r ta tb):=by
 intro pins s Z H Q I h;exact wpAny_BinOp (E4e ha hb I h λv u s2 x y H2 I2 rx ry q=>ho pins s2 Z H2 x y v u Q I2 rx ry q)
theorem D0s {op:UnaryOp} {r:V->Hp->VK->Prop} (ho:UnR X (unaryOp op) r) (ha:PE X a ta):PE X (.UnaryOp op a pos) (tUn r ta):=by
 intro pins s Z H Q I h;exact UnaryOp_ (thn (ha pins s Z H _ I h) (by rintro v s1 ⟨x,H1,I1,r1,q1⟩;exact ho pins s1 Z H1 x v Q I1 r1 q1))
theorem opI {C:Int->Int->Prop}
  (rule:∀(i j:Int) (t u:Tok) (s:Shared) (Q:Value->Shared->Prop) (E:Value->Shared->Prop),C i j->Q (.int (g i j) s.toks) { s with toks:=s.toks+1 }->wpAny (model X.prog X.w) X.A (f (.int i t) (.int j u)) Q E s) :
  OpR X f (rI C λi j=> .int (g i j)):=by
 walk_at "l";obtain ⟨i,j,rfl,rfl,hc,q⟩:=h;obtain ⟨t,rfl⟩:=rx;obtain ⟨t',rfl⟩:=ry;exact rule i j t t' s _ _ hc ⟨.int (g i j),H,I.tok _,⟨_,rfl⟩,q⟩
theorem E4f
  (rule:∀(i j:Int) (t u:Tok) (s:Shared) (Q:Value->Shared->Prop) (E:Value->Shared->Prop),Q (.int (g i j) s.toks) { s with toks:=s.toks+1 }->wpAny (model X.prog X.w) X.A (f (.int i t) (.int j u)) Q E s) :
  OpR X f (rI0 λi j=> .int (g i j)):=by
 walk_at "l";obtain ⟨i,j,rfl,rfl,q⟩:=h;obtain ⟨t,rfl⟩:=rx;obtain ⟨t',rfl⟩:=ry;exact rule i j t t' s _ _ ⟨.int (g i j),H,I.tok _,⟨_,rfl⟩,q⟩
theorem E2j {g:Int->Int->Bool}
  (rule:∀(i j:Int) (t u:Tok) (s:Shared) (Q:Value->Shared->Prop) (E:Value->Shared->Prop),Q (.bool (g i j)) s->wpAny (model X.prog X.w) X.A (f (.int i t) (.int j u)) Q E s) :
  OpR X f (rI0 λi j=> .bl (g i j)):=by
 walk_at "l";obtain ⟨i,j,rfl,rfl,q⟩:=h;obtain ⟨t,rfl⟩:=rx;obtain ⟨t',rfl⟩:=ry;exact rule i j t t' s _ _ ⟨.bl (g i j),H,I,rfl,q⟩
def CDiv (i j:Int):Prop:=0<j/\j<1073741824
def CPow (i j:Int):Prop:=0<=j/\j<=1000000/\i.natAbs<2^64
def E2l (i j:Int):Prop:=(-(2^64)<i/\i<2^64)\/(-(2^64)<j/\j<2^64)
theorem E2l.ok {i j:Int} (h:E2l i j):IntMulOk i j:=by
 rcases h with ⟨h1,h2⟩ | ⟨h1,h2⟩
 ·exact .of_left (intBits_le_64 h1 h2)
 ·exact .of_right (intBits_le_64 h1 h2)
theorem A4a:OpR X (binaryOp .Add) (rI0 λi j=> .int (i+j)):=E4f λ_ _ _ _ _ _ _ q=>add_int q
theorem A7y:OpR X (binaryOp .Sub) (rI0 λi j=> .int (i-j)):=E4f λ_ _ _ _ _ _ _ q=>sub_int q
theorem C0g:OpR X (binaryOp .Mult) (rI E2l λi j=> .int (i*j)):=opI λ_ _ _ _ _ _ _ hc q=>mul_int q hc.ok
theorem A2w:OpR X (binaryOp .FloorDiv) (rI CDiv λi j=> .int (i/j)):=opI λi j _ _ _ _ _ hc q=>by
 have h1:(0:Int)<j:=hc.1;have h2:j<1073741824:=hc.2;exact floordiv_int (by lia) (by rw [Int.fdiv_eq_ediv_of_nonneg i (by lia)];exact q) (.inl (PyProof.noPylong_small (by lia)))
theorem A2a:OpR X (binaryOp .Mod) (rI (λ_ j=>0<j) λi j=> .int (i%j)):=opI λi j _ _ _ _ _ hc q=>by
 have h1:(0:Int)<j:=hc;exact mod_int' (by lia) (by rw [Int.fmod_eq_emod_of_nonneg i (by lia)];exact q)
theorem C0r:OpR X (binaryOp .Pow) (rI CPow λi j=> .int (i^j.toNat)):=opI λ_ _ _ _ _ _ _ hc q=>pow_int_small hc.1 hc.2.1 hc.2.2 q
theorem unI {f:Value->Sem Value} {g:Int->Int}
  (rule:∀(i:Int) (t:Tok) (s:Shared) (Q:Value->Shared->Prop) (E:Value->Shared->Prop),Q (.int (g i) s.toks) { s with toks:=s.toks+1 }->wpAny (model X.prog X.w) X.A (f (.int i t)) Q E s) :
  UnR X f (rU λi=> .int (g i)):=by
 intro pins s Z H x v Q I rx h;obtain ⟨i,rfl,q⟩:=h;obtain ⟨t,rfl⟩:=rx;exact rule i t s _ _ ⟨.int (g i),H,I.tok _,⟨_,rfl⟩,q⟩
theorem B8t:UnR X (unaryOp .USub) (rU λi=> .int (-i)):=unI λ_ _ _ _ _ q=>neg_int q
end
def E4j:V->V->Bool
 | .non,.non=>true | .non,.int _=>true | .int _,.non=>true | .non,.bl _=>true | .bl _,.non=>true | .non,.str _=>true | .str _,.non=>true
 | .int _,.int _=>true | .bl _,.bl _=>true | .str _,.str _=>true | .byt _,.byt _=>true
 | .int _,.str _=>true | .str _,.int _=>true | .bl _,.str _=>true | .str _,.bl _=>true
 | _,_=>false
def rEq:R2:=λx y H Q=>E4j x y=true/\Q (.bl (decide (x=y))) H
def rNe:R2:=λx y H Q=>E4j x y=true/\Q (.bl (!decide (x=y))) H
theorem C9q {i j:Int}:decide (V.int i=V.int j)=(i == j):=by
 rw [Bool.eq_iff_iff];simp
theorem D4a {i j:Bool}:decide (V.bl i=V.bl j)=(i == j):=by
 rw [Bool.eq_iff_iff];simp
theorem C7n {i j:Str}:decide (V.str i=V.str j)=(i == j):=by
 rw [Bool.eq_iff_iff];simp
theorem C9k {i j:Array UInt8}:decide (V.byt i=V.byt j)=(i.toList == j.toList):=by
 rw [Bool.eq_iff_iff];cases i;cases j;simp
section
variable {X:Cx} {a b c:Expr} {ta tb tc:TE} {pos:Pos}
theorem A2m {Q:VK} {k k':Bool} (I:Inv X pins Z H s) (q:Q (.bl k) H) (e:k=k'):EP X pins Z Q (.bool k') s:=by
 subst e;exact ⟨.bl k,H,I,rfl,q⟩
theorem A3f:OpR X (compareOp .Eq) rEq:=by
 walk_at "l";obtain ⟨hs,q⟩:=h
 cases x with
 | non =>
  cases rx
  cases y with
  | non=>cases ry;exact PySem.EqNone.eq_none_none (A2m I q (by simp))
  | bl j=>cases ry;exact PySem.EqNone.eq_none_bool (A2m I q (by simp))
  | int j=>obtain ⟨t',rfl⟩:=ry;exact PySem.EqNone.eq_none_int (A2m I q (by simp))
  | str j=>obtain ⟨t',rfl⟩:=ry;exact PySem.EqNone.eq_none_str (A2m I q (by simp))
  | _=>exact absurd (show false=true from hs) Z0v
 | bl i =>
  cases rx
  cases y with
  | non=>cases ry;exact PySem.EqNone.eq_bool_none (A2m I q (by simp))
  | bl j=>cases ry;exact eq_bool (A2m I q D4a)
  | str j=>obtain ⟨t',rfl⟩:=ry;exact PySem.EqMixed.eq_bool_str (A2m I q (by simp))
  | _=>exact absurd (show false=true from hs) Z0v
 | int i =>
  obtain ⟨t,rfl⟩:=rx
  cases y with
  | non=>cases ry;exact PySem.EqNone.eq_int_none (A2m I q (by simp))
  | int j=>obtain ⟨t',rfl⟩:=ry;exact eq_int (A2m I q C9q)
  | str j=>obtain ⟨t',rfl⟩:=ry;exact PySem.EqMixed.eq_int_str (A2m I q (by simp))
  | _=>exact absurd (show false=true from hs) Z0v
 | str i =>
  obtain ⟨t,rfl⟩:=rx
  cases y with
  | non=>cases ry;exact PySem.EqNone.eq_str_none (A2m I q (by simp))
  | bl j=>cases ry;exact PySem.EqMixed.eq_str_bool (A2m I q (by simp))
  | int j=>obtain ⟨t',rfl⟩:=ry;exact PySem.EqMixed.eq_str_int (A2m I q (by simp))
  | str j=>obtain ⟨t',rfl⟩:=ry;exact eq_str (A2m I q C7n)
  | _=>exact absurd (show false=true from hs) Z0v
 | byt i =>
  obtain ⟨t,rfl⟩:=rx
  cases y with
  | byt j=>obtain ⟨t',rfl⟩:=ry;exact PySem.W.eq_bytes (A2m I q C9k)
  | _=>exact absurd (show false=true from hs) Z0v
 | _=>cases y <;> exact absurd (show false=true from hs) Z0v
theorem D1z:OpR X (compareOp .NotEq) rNe:=by
 walk_at "l";obtain ⟨hs,q⟩:=h
 cases x with
 | non =>
  cases rx
  cases y with
  | non=>cases ry;exact PySem.EqNone.ne_none_none (A2m I q (by simp))
  | bl j=>cases ry;exact PySem.EqNone.ne_none_bool (A2m I q (by simp))
  | int j=>obtain ⟨t',rfl⟩:=ry;exact PySem.EqNone.ne_none_int (A2m I q (by simp))
  | str j=>obtain ⟨t',rfl⟩:=ry;exact PySem.EqNone.ne_none_str (A2m I q (by simp))
  | _=>exact absurd (show false=true from hs) Z0v
 | bl i =>
  cases rx
  cases y with
  | non=>cases ry;exact PySem.EqNone.ne_bool_none (A2m I q (by simp))
  | bl j=>cases ry;exact ne_bool (A2m I q (congrArg not D4a))
  | str j=>obtain ⟨t',rfl⟩:=ry;exact PySem.EqMixed.ne_bool_str (A2m I q (by simp))
  | _=>exact absurd (show false=true from hs) Z0v
 | int i =>
  obtain ⟨t,rfl⟩:=rx
  cases y with
  | non=>cases ry;exact PySem.EqNone.ne_int_none (A2m I q (by simp))
  | int j=>obtain ⟨t',rfl⟩:=ry;exact ne_int (A2m I q (congrArg not C9q))
  | str j=>obtain ⟨t',rfl⟩:=ry;exact PySem.EqMixed.ne_int_str (A2m I q (by simp))
  | _=>exact absurd (show false=true from hs) Z0v
 | str i =>
  obtain ⟨t,rfl⟩:=rx
  cases y with
  | non=>cases ry;exact PySem.EqNone.ne_str_none (A2m I q (by simp))
  | bl j=>cases ry;exact PySem.EqMixed.ne_str_bool (A2m I q (by simp))
  | int j=>obtain ⟨t',rfl⟩:=ry;exact PySem.EqMixed.ne_str_int (A2m I q (by simp))
  | str j=>obtain ⟨t',rfl⟩:=ry;exact ne_str (A2m I q (congrArg not C7n))
  | _=>exact absurd (show false=true from hs) Z0v
 | byt i =>
  obtain ⟨t,rfl⟩:=rx
  cases y with
  | byt j=>obtain ⟨t',rfl⟩:=ry;exact PySem.W.ne_bytes (A2m I q (congrArg not C9k))
  | _=>exact absurd (show false=true from hs) Z0v
 | _=>cases y <;> exact absurd (show false=true from hs) Z0v
theorem D9d:OpR X (compareOp .Lt) (rI0 λi j=> .bl (decide (i<j))):=E2j λ_ _ _ _ _ _ _ q=>lt_int q
theorem E0w:OpR X (compareOp .LtE) (rI0 λi j=> .bl (decide (i<=j))):=E2j λ_ _ _ _ _ _ _ q=>le_int q
theorem C1k:OpR X (compareOp .Gt) (rI0 λi j=> .bl (decide (j<i))):=E2j λ_ _ _ _ _ _ _ q=>gt_int q
theorem A1i (b:Expr) (h:op≠.In:=by decide) (h2:op≠.NotIn:=by decide):behindInMarks op b=false:=by
 have e1:(op == CmpOp.In)=false:=by cases op <;> first | rfl | exact absurd rfl h
 have e2:(op == CmpOp.NotIn)=false:=by cases op <;> first | rfl | exact absurd rfl h2
 cases b <;> simp [behindInMarks,e1,e2]
theorem C2d {r:R2} (ho:OpR X (compareOp op) r) (ha:PE X a ta) (hb:PE X b tb) (hm:behindInMarks op b=false):PE X (.Compare a [op] [b] pos) (tOp r ta tb):=by
 intro pins s Z H Q I h;exact wpAny_Compare1 (E4e ha hb I h λv u s2 x y H2 I2 rx ry q=>ho pins s2 Z H2 x y v u Q I2 rx ry q) hm
def E1l (t:TE):TT:=λZ H Q=>t Z H λx H'=>∃k,x= .bl k/\Q k H'
theorem A0t {r:R2} (ho:OpR X (compareOp op) r) (ha:PE X a ta) (hb:PE X b tb) (hm:behindInMarks op b=false):PT X (.Compare a [op] [b] pos) (E1l (tOp r ta tb)):=by
 intro pins s Z H Q I h
 refine wpAny_isTrue_Compare1 (thn (ha pins s Z H _ I h) λv s1 ⟨x,H1,I1,r1,q1⟩=>thn (hb pins s1 Z H1 _ I1 q1) λu s2 ⟨y,H2,I2,r2,q2⟩ =>
  thn (ho pins s2 Z H2 x y v u _ I2 r1 r2 q2) λc s3 ⟨z,H3,I3,r3,k,e,q3⟩=> ?_) hm
 subst e;cases r3;exact wpAny_truthy_bool ⟨H3,I3,q3⟩
def E0p (r r':R2) (ta tb tc:TE):TE:=λZ H Q=>ta Z H λx H1=>tb Z H1 λy H2=>r x y H2 λz H3=>∃k,z= .bl k/\
 (if k=true then tc Z H3 λw' H4=>r' y w' H4 Q else Q (.bl false) H3)
theorem D3p {op':CmpOp} {r r':R2} (ho:OpR X (compareOp op) r) (ho':OpR X (compareOp op') r') (ha:PE X a ta) (hb:PE X b tb) (hc:PE X c tc)
  (hm:lastMarks [op,op'] [b,c]=false:=by with_unfolding_all rfl):PE X (.Compare a [op,op'] [b,c] pos) (E0p r r' ta tb tc):=by
 intro pins s Z H Q I h
 refine Compare_chain (thn (ha pins s Z H _ I h) λv s1 ⟨x,H1,I1,r1,q1⟩=>chain_link (thn (hb pins s1 Z H1 _ I1 q1) λu s2 ⟨y,H2,I2,r2,q2⟩ =>
  thn (ho pins s2 Z H2 x y v u _ I2 r1 r2 q2) λd s3 ⟨z,H3,I3,r3,k,e,q3⟩=> ?_)) hm
 subst e;cases r3;refine wpAny_truthy_bool ?_
 cases k with
 | false=>exact ite_ff ⟨.bl false,H3,I3,rfl,q3⟩
 | true=>exact ite_tt (chain_last (thn (hc pins s3 Z H3 _ I3 q3) (by rintro w' s4 ⟨z',H4,I4,r4,q4⟩;exact ho' pins s4 Z H4 y z' u w' Q I4 r2 r4 q4)))
theorem C5a:(sizeLine:Nat)<2^63:=by rw [sizeLine_eq];decide
theorem B4x {x:V} (r:A2r [x] us):∃u,us=[u]/\A2u x u:=by
 cases r with
 | cons r1 r2=>cases r2;exact ⟨_,rfl,r1⟩
theorem C5r {x y:V} (r:A2r [x,y] us):∃u w',us=[u,w']/\A2u x u/\A2u y w':=by
 cases r with
 | cons r1 r2 =>
  cases r2 with
  | cons r3 r4=>cases r4;exact ⟨_,_,rfl,r1,r3⟩
theorem B9w (hc:X.calm=true):B1i X (.builtin "max") (λxs H Q=>∃i j,xs=[.int i,.int j]/\Q (.int (if j>i then j else i)) H):=by
 intro pins s Z H xs us Q I r h;obtain ⟨i,j,rfl,q⟩:=h;obtain ⟨u,w',rfl,⟨t,rfl⟩,⟨t',rfl⟩⟩:=C5r r;refine max_two_ints (I.ok.hd hc) λh' tk k=>⟨_,H,I.kept k,?_,q⟩;by_cases hj:j>i
 ·rw [Z12 hj,Z12 hj];exact ⟨_,rfl⟩
 ·rw [Z0t hj,Z0t hj];exact ⟨_,rfl⟩
theorem C0k (hc:X.calm=true):B1i X (.builtin "min") (λxs H Q=>∃i j,xs=[.int i,.int j]/\Q (.int (if j<i then j else i)) H):=by
 intro pins s Z H xs us Q I r h;obtain ⟨i,j,rfl,q⟩:=h;obtain ⟨u,w',rfl,⟨t,rfl⟩,⟨t',rfl⟩⟩:=C5r r;refine min_two_ints (I.ok.hd hc) λh' tk k=>⟨_,H,I.kept k,?_,q⟩;by_cases hj:j<i
 ·rw [Z12 hj,Z12 hj];exact ⟨_,rfl⟩
 ·rw [Z0t hj,Z0t hj];exact ⟨_,rfl⟩
end
structure D7i (h:Heap) (x dx C:Addr) (mA:Str->Option Value):Prop where
 obj:h.get? x=some (instObj C dx)
 ns:h.Ns1 dx mA
 ne:dx≠x
theorem C7k {dx:Addr} (n:h.Ns1 dx mA):∃od,h.get? dx=some od/\∀name,PySem.W.lookIn name od=some (mA name):=by
 obtain ⟨o,es,ep,ho,hd,hk,_,hm⟩:=n;refine ⟨o,ho,λname=> ?_⟩;have e:=hm name;unfold nsFind findBy at e;rw [<-Array.find?_toList] at e;unfold PySem.W.lookIn;rw [hd];dsimp only;split
 ·rename_i y q;rw [q] at e;exact congrArg some e
 ·rename_i q;rw [q] at e
  have a:es.toList.any (·.refKey)=false:=by
   rw [List.any_eq_false];intro y hy;obtain ⟨z,t,hkey⟩:=hk y (Array.mem_toList_iff.mp hy);simp [DictEntry.refKey,hkey]
  have a':¬es.toList.any (·.refKey)=true:=by rw [a];exact Z0v
  rw [Z0t a'];exact congrArg some e
theorem D7i.look {x dx:Addr} (I:D7i h x dx C mA):∃od,PySem.W.InstAt h x (instObj C dx) C (some od)/\∀name,PySem.W.lookIn name od=some (mA name) :=
 let ⟨od,ho,hl⟩:=C7k I.ns
 ⟨od,⟨I.obj,rfl,rfl,ho⟩,hl⟩
section
variable {prog:Program} {w:World} {A:Around} {E:Value->Shared->Prop} {s:Shared} {K:Frag} {x dx C f:Addr} {mA:Str->Option Value} {name:Str} {v:Value}
theorem A2e {expr:Bool} (X:K.In s.heap) (I:D7i s.heap x dx C mA) (hg:plainGet K C name=true) (hh:hasDictIn K C=true)
  (ha:findIn K (.ref C) name=some none) (hv:mA name=some v) (hv':PySem.W.handedIn v=true) (h:Q v { s with toks:=s.toks+1 }) :
  wpAny (model prog w) A (getAttr (.ref x) name expr) Q E s:=by
 obtain ⟨od,J,hl⟩:=I.look;exact PySem.W.get_value X J (PySem.W.plainGet_of hg).1 (PySem.W.findObj_own hh ha rfl (by rw [hl,hv])) hv' h
theorem D2m {Q:Value×List Value->Shared->Prop} (X:K.In s.heap) (I:D7i s.heap x dx C mA) (hg:plainGet K C name=true)
  (hf:findIn K (.ref C) name=some (some (.ref f))) (ht:isFn K (.ref f)=true) (hv:mA name=none) (h:Q (.ref f,[.ref x]) s) :
  wpAny (model prog w) A (getMethod (.ref x) name pl) Q E s:=by
 obtain ⟨od,J,hl⟩:=I.look;exact PySem.W.method_fn X J (PySem.W.plainGet_of hg).1 (PySem.W.plainGet_of hg).2 hf (beq_iff_eq.mp ht) (by show (PySem.W.lookIn name od).map (·.isSome)=some false;rw [hl,hv];rfl) h
theorem D5u {ns:List Str} {Q:Unit->Shared->Prop} (X:K.In s.heap) (I:D7i s.heap x dx C mA)
  (hs:findIn K (.ref C) "__setattr__"=some (some (.builtin "object.__setattr__"))) (hp:plainOver K C=true) (ht:PySem.W.takerIn K C name=some none) (hh:hasDictIn K C=true)
  (hw:PySem.Within mA ns) (hsz:ns.length<=sizeLine)
  (h:∀h',D7i h' x dx C (λy=>if y=name then some v else mA y)->Heap.SameBut dx s.heap h'->Q () { s with heap:=h',toks:=s.toks+2 }) :
  wpAny (model prog w) A (setAttr (.ref x) name v) Q E s:=by
 obtain ⟨od,J,hl⟩:=I.look;refine PySem.W.set_plain X J hs (PySem.W.osa_open (s:={ s with toks:=s.toks+1 }) (r:=none) X J hp ht λb=> ?_)
 obtain ⟨cd,hc,hd'⟩:=PySem.W.any_some hh;have hx:s.heap.get? x=some ⟨.ref C,some dx,.plain,#[]⟩:=I.obj;refine Z00 (Z04 (Z00 (Z00 (wpAny_loadPart hx (Z00 (PySem.W.Looks.here (s:={ s with toks:=s.toks+1 }) (PySem.W.looks_clsIn X hc) ?_))))));rw [hd'];refine Z04 (a:=some dx) (Z00 (Z04 (Z00 ?_)));refine wpAny_nsSet1 (s:={ s with toks:=s.toks+1 }) I.ns λh' hn2 hs2=> ?_
 obtain ⟨oD,esD,epD,hoD,hdD,hcD⟩:=hn2.count (PySem.Within.cons name v hw);refine Z00 (wpAny_lookBehind hoD (by rw [hdD];exact pastItsLine_dict (Z1n hcD (by rw [Z0y];lia))) ?_);exact Z04 (h _ ⟨(hs2.2 _ (Ne.symm I.ne)).trans I.obj,hn2,I.ne⟩ hs2)
theorem D1k {vs:List Value} (X:K.In s.heap) (hm:makesIn K C=true)
  (hi:findIn K (.ref C) "__init__"=some (some (.ref f))) (hf:typeIn K (.ref f)=some (.type "function"))
  (h:codeAny (model prog w) (A.under (.builtin "type.__call__" ⟨.ref C::vs,kw⟩)) (.call (.ref f) ⟨.ref (s.heap.objs.size+1)::vs,kw⟩) (PySem.W.InitBack (s.heap.objs.size+1) R)
   { s with heap:=(s.heap.push emptyDict).push (instObj C s.heap.objs.size) }) :
  codeAny (model prog w) A (.call (.ref C) ⟨vs,kw⟩) R s:=by
 obtain ⟨hh,g,d,t,os⟩:=s;exact PySem.W.make_core (PySem.W.makes_of X hm) (PySem.W.looks_findIn X hi) (λself=>PySem.W.bind_fn X self hf) (.inl rfl) h
end
def A8e (f:Str) (v:V):List (Str×V)->List (Str×V)
 | []=>[(f,v)]
 | (g,x)::r=>if g=f then (g,v)::r else (g,x)::A8e f v r
theorem B3q (f g:Str) (v:V):∀fs:List (Str×V),(A8e f v fs).lookup g=if g=f then some v else fs.lookup g
 | []=>by
  show List.lookup g [(f,v)]=_;by_cases h:g=f
  ·have hb:(g == f)=true:=beq_iff_eq.mpr h;simp only [List.lookup,hb,Z12 h]
  ·have hb:(g == f)=false:=Z22.mpr h;simp only [List.lookup,hb,Z0t h]
 | (k,x)::r=>by
  have ih:=B3q f g v r;rw [show A8e f v ((k,x)::r)=(if k=f then (k,v)::r else (k,x)::A8e f v r) from rfl];by_cases hk:k=f
  ·rw [Z12 hk];by_cases h:g=k
   ·have hb:(g == k)=true:=beq_iff_eq.mpr h;simp only [List.lookup,hb,Z12 (h.trans hk)]
   ·have hb:(g == k)=false:=Z22.mpr h;simp only [List.lookup,hb,Z0t (λe:g=f=>h (e.trans hk.symm))]
  ·rw [Z0t hk];by_cases h:g=k
   ·have hb:(g == k)=true:=beq_iff_eq.mpr h;simp only [List.lookup,hb,Z0t (λe:g=f=>hk (h.symm.trans e))]
   ·have hb:(g == k)=false:=Z22.mpr h;simp only [List.lookup,hb];exact ih
theorem B3v (f:Str) (v:V):∀fs:List (Str×V),f∈(A8e f v fs).map (·.1)/\∀g,g∈fs.map (·.1)->g∈(A8e f v fs).map (·.1)
 | []=>⟨by simp [A8e],λg h=>by simp at h⟩
 | (k,x)::r=>by
  obtain ⟨i1,i2⟩:=B3v f v r;rw [show A8e f v ((k,x)::r)=(if k=f then (k,v)::r else (k,x)::A8e f v r) from rfl];by_cases hk:k=f
  ·rw [Z12 hk];subst hk;exact ⟨by simp,λg h=>by simpa using h⟩
  ·rw [Z0t hk];refine ⟨?_,λg h=> ?_⟩
   ·rw [Z0p];exact Z1f _ i1
   ·rw [Z0p] at h⊢;rcases Z0e.mp h with e | e
    ·exact Z0e.mpr (.inl e)
    ·exact Z1f _ (i2 g e)
theorem B2y (f:Str) (v:V):∀fs:List (Str×V),(A8e f v fs).length<=fs.length+1
 | []=>by simp [A8e]
 | (k,x)::r=>by
  have ih:=B2y f v r;rw [show A8e f v ((k,x)::r)=(if k=f then (k,v)::r else (k,x)::A8e f v r) from rfl];by_cases hk:k=f
  ·rw [Z12 hk,Z0y,Z0y];lia
  ·rw [Z0t hk,Z0y,Z0y];lia
theorem B4k.some_of {v:V} (r:B4k (some v) o):∃u,o=some u/\A2u v u:=by
 cases o with
 | none=>exact (show False from r).elim
 | some u=>exact ⟨u,rfl,r⟩
theorem B4k.none_of (r:B4k none o):o=none:=by
 cases o with
 | none=>rfl
 | some u=>exact (show False from r).elim
theorem C7u {v:V} (r:A2u v u):PySem.W.handedIn u=true:=by
 cases v with
 | non=>cases (show u=Value.none from r);rfl
 | bl b=>cases (show u=Value.bool b from r);rfl
 | int i=>obtain ⟨t,e⟩:=(show∃t,u=Value.int i t from r);cases e;rfl
 | str x=>obtain ⟨t,e⟩:=(show∃t,u=Value.str x t from r);cases e;rfl
 | byt b=>obtain ⟨t,e⟩:=(show∃t,u=Value.bytes b t from r);cases e;rfl
 | flt b=>obtain ⟨t,e⟩:=(show∃t,u=Value.float b t from r);cases e;rfl
 | ref a=>cases (show u=Value.ref a from r);rfl
 | ty n=>cases (show u=Value.type n from r);rfl
section
variable {P:Program} {w:World} {H H':Hp} {h h':Heap} {a C dx:Addr} {fs fs':List (Str×V)}
theorem B7d (hok:HOk P w H h) (e:H a=some (.ins C dx fs)):∃mA,D7i h a dx C mA/\(∀f,B4k (fs.lookup f) (mA f))/\PySem.Within mA (fs.map (·.1))/\fs.length<=1000/\H dx=some (.own a):=by
 obtain ⟨d,z,ne,ob,mA,n,r,q⟩:=(show A2c P w H h a (.ins C dx fs) from hok a _ e);exact ⟨mA,⟨ob,n,ne⟩,r,q,z,d⟩
end
structure Cls (K:Frag) (C:Addr):Prop where
 pg:plainGet K C Str.empty=true
 hd:hasDictIn K C=true
 po:plainOver K C=true
 sa:findIn K (.ref C) "__setattr__"=some (some (.builtin "object.__setattr__"))
theorem Cls.get (c:Cls K C) (f:Str):plainGet K C f=true:=c.pg
def A1z (K:Frag) (C:Addr) (f:Str):Prop:=findIn K (.ref C) f=some none
theorem A1z.taker {f:Str} (n:A1z K C f):PySem.W.takerIn K C f=some none:=by
 unfold PySem.W.takerIn;rw [show findIn K (.ref C) f=some none from n];rfl
structure C4k (K:Frag) (C:Addr) (m:Str) (f:Addr):Prop where
 at_:findIn K (.ref C) m=some (some (.ref f))
 fn:isFn K (.ref f)=true
 kp:keepIn K (.ref f)=true
section
variable {X:Cx} {pins:List (Addr×Obj)} {Z:St} {H:Hp} {s:Shared} {a C dx:Addr} {fs:List (Str×V)} {f:Str} {v:V} {A:Around} {E:Value->Shared->Prop}
theorem C6b {b:Bool} (I:Inv X pins Z H s) (e:H a=some (.ins C dx fs)) (c:Cls X.K C) (n:A1z X.K C f) (l:fs.lookup f=some v)
  (h:∀u s',Inv X pins Z H s'->A2u v u->Q u s'):wpAny (model X.prog X.w) A (getAttr (.ref a) f b) Q E s:=by
 obtain ⟨mA,O,r,_,_,_⟩:=B7d I.hok e;obtain ⟨u,hu,ru⟩:=B4k.some_of (v:=v) (o:=mA f) (by rw [<-l];exact r f);exact A2e I.kIn O (c.get f) c.hd n hu (C7u ru) (h u _ (I.tok _) ru)
theorem C5p {m:Str} {g:Addr} {Q:Value×List Value->Shared->Prop} (I:Inv X pins Z H s) (e:H a=some (.ins C dx fs)) (c:Cls X.K C) (k:C4k X.K C m g) (l:fs.lookup m=none)
  (h:Q (.ref g,[.ref a]) s):wpAny (model X.prog X.w) A (getMethod (.ref a) m pl) Q E s:=by
 obtain ⟨mA,O,r,_,_,_⟩:=B7d I.hok e;have hn:mA m=none:=B4k.none_of (by rw [<-l];exact r m);exact D2m I.kIn O (c.get m) k.at_ k.fn hn h
theorem C5m {y:V} {Q:Unit->Shared->Prop} (I:Inv X pins Z H s) (e:H a=some (.ins C dx fs)) (c:Cls X.K C) (n:A1z X.K C f) (hl:fs.length<1000) (ry:A2u y u)
  (h:∀s',Inv X pins Z (upd H a (.ins C dx (A8e f y fs))) s'->Q () s'):wpAny (model X.prog X.w) A (setAttr (.ref a) f u) Q E s:=by
 obtain ⟨mA,O,r,wi,_,ho⟩:=B7d I.hok e;have hz:(fs.map (·.1)).length<=sizeLine:=by rw [Z08,sizeLine_eq];lia
 refine D5u I.kIn O c.sa c.po n.taker c.hd wi hz λh' O' sb=>h _ ?_;have hd:∃o,h'.get? dx=some o:=let ⟨o,_,_,e',_⟩:=O'.ns;⟨o,e'⟩;refine I.write (x:=a) (e:=dx) (by rw [e];exact True.intro) (.inr ho) (λb q hb z=>(sb.2 b hb).trans z) hd ?_;refine ⟨by rw [A0h O.ne];exact ho,?_,O.ne,O'.obj,_,O'.ns,λg=> ?_,λg hg=> ?_⟩
 ·have:=B2y f y fs;lia
 ·show B4k ((A8e f y fs).lookup g) (if g=f then some u else mA g);rw [B3q];by_cases q:g=f
  ·rw [Z12 q,Z12 q];exact ry
  ·rw [Z0t q,Z0t q];exact r g
 ·by_cases q:g=f
  ·rw [q];exact (B3v f y fs).1
  ·refine (B3v f y fs).2 g (wi g λz=>hg ?_);show (if g=f then some u else mA g)=none;rw [Z0t q];exact z
theorem Inv.made (I:Inv X pins Z H s):Inv X pins Z (upd (upd H s.heap.objs.size (.own (s.heap.objs.size+1))) (s.heap.objs.size+1) (.ins C s.heap.objs.size []))
  { s with heap:=(s.heap.push emptyDict).push (instObj C s.heap.objs.size) }:=by
 have e1:(s.heap.push emptyDict).get? s.heap.objs.size=some emptyDict:=Z0c s.heap rfl
 have e2:((s.heap.push emptyDict).push (instObj C s.heap.objs.size)).get? (s.heap.objs.size+1)=some (instObj C s.heap.objs.size):=by
  have:=Z0c (s.heap.push emptyDict) (o:=instObj C s.heap.objs.size) rfl
  rwa [Z1s] at this
 have e3:(s.heap.push emptyDict).Ns s.heap.objs.size (λ_=>none):=⟨emptyDict,#[],_,e1,rfl,(λe he=>absurd he (by simp)),λ_=>rfl⟩;have I1:=I.laid (a:=s.heap.objs.size) (o:= .own (s.heap.objs.size+1)) (h':=s.heap.push emptyDict) (t':=s.toks) (λb u q=>Z01 _ q) (Z09 _) ⟨_,e1⟩;refine I1.laid (a:=s.heap.objs.size+1) (o:= .ins C s.heap.objs.size []) (t':=s.toks) (λb u q=>Z01 _ q) (Nat.le_of_eq (Z1s _ _)) ?_;have ne:s.heap.objs.size≠s.heap.objs.size+1:=Z0h (Nat.lt_succ_self _);refine ⟨by rw [A0h ne,A0b],Z1e _,ne,e2,λ_=>none,(Heap.Ns1.of_empty e3).at λo q=>Z01 _ q,λ_=>True.intro,λy hy=>absurd rfl hy⟩
theorem D4y {prog:Program} {env:Env} {f:Str} (hb:attributeBase e f env (eval e env)=eval e env)
  (h:wpAny (model prog w) A (eval e env) (λo s₁=>wpAny (model prog w) A (getAttr o f true) Q E s₁) E s):wpAny (model prog w) A (eval (.Attribute e f pos) env) Q E s :=
 Attribute_any_ h (by rw [arm_eval_Attribute,hb])
end
def tFld (K:Frag) (ta:TE) (f:Str):TE:=λZ H Q=>ta Z H λx H1=>∃a C dx fs v,x= .ref a/\H1 a=some (.ins C dx fs)/\Cls K C/\A1z K C f/\fs.lookup f=some v/\Q v H1
def sFld (K:Frag) (ta tv:TE) (f:Str):TS:=λD Z H=>tv Z H λy H1=>ta Z H1 λx H2=>∃a C dx fs,x= .ref a/\H2 a=some (.ins C dx fs)/\Cls K C/\A1z K C f/\fs.length<1000/\
 D.nx Z (upd H2 a (.ins C dx (A8e f y fs)))
section
variable {X:Cx} {o e value:Expr} {f:Str} {pos pos' tpos:Pos} {ta tv:TE}
theorem A2z (he:PE X e ta) (hb:attributeBase e f X.env (eval e X.env)=eval e X.env):PE X (.Attribute e f pos) (tFld X.K ta f):=by
 intro pins s Z H Q I h;refine D4y hb (thn (he pins s Z H _ I h) ?_);rintro u s1 ⟨x,H1,I1,rx,a,C,dx,fs,v,ex,ea,c,n,l,q⟩;subst ex;obtain rfl:u=Value.ref a:=rx;exact C6b I1 ea c n l λu' s2 I2 ru=>⟨v,H1,I2,ru,q⟩
theorem A3y (ha:PE X o ta) (hv:PE X value tv) (hs:swapsWith value (some (.Attribute o f pos')) pos.line X.env=pure false):PS X (.Assign [.Attribute o f pos'] value pos) (sFld X.K ta tv f):=by
 intro pins s Z H D I h;refine plainObj_wpAny_Assign_Attribute (thn (hv pins s Z H _ I h) ?_) hs;rintro u s1 ⟨y,H1,I1,ry,q⟩;refine thn (ha pins s1 Z H1 _ I1 q) ?_;rintro ov s2 ⟨x,H2,I2,rx,a,C,dx,fs,ex,ea,c,n,l,q2⟩;subst ex;obtain rfl:ov=Value.ref a:=rx;exact C5m I2 ea c n l ry λs3 I3=>⟨Z,_,I3,q2⟩
end
section
variable {X:Cx} {pins:List (Addr×Obj)} {Z:St} {H:Hp} {s:Shared} {A:Around} {E:Value->Shared->Prop} {Q:Value->Shared->Prop} {c:Value} {b:Bool}
inductive B7g (K:Frag) (H:Hp):V->Value->Prop where
 | non:B7g K H .non (.type "NoneType")
 | bl (x:Bool):B7g K H (.bl x) (.type "bool")
 | int (i:Int):B7g K H (.int i) (.type "int")
 | str (x:Str):B7g K H (.str x) (.type "str")
 | flt (x:UInt64):B7g K H (.flt x) (.type "float")
 | lst {a:Addr} {xs:List V} (e:H a=some (.lst xs)):B7g K H (.ref a) (.type "list")
 | frz {a:Addr} {o:Obj} {xs:List V} (e:H a=some (.frz o (.lst xs))):B7g K H (.ref a) (.type "list")
 | tup {a:Addr} {xs:List V} (e:H a=some (.tup xs)):B7g K H (.ref a) (.type "tuple")
 | dK {a:Addr} {kvs:List (Key×V)} (e:H a=some (.dK kvs)):B7g K H (.ref a) (.type "dict")
 | dT {a:Addr} {kvs:List (List Key×V)} (e:H a=some (.dT kvs)):B7g K H (.ref a) (.type "dict")
 | ins {a C dx:Addr} {fs:List (Str×V)} (e:H a=some (.ins C dx fs)) (cl:Cls K C) (ha:findIn K (.ref C) "__class__"=some (some (.builtin "object.__class__")))
   (hn:specialIn K (.builtin "object.__class__") "__get__"=some (some (.builtin "getset_descriptor.__get__"))) (htk:takesIn K (.builtin "object.__class__")=some true)
   (hm:mroIn K C (.type "object")=some true):B7g K H (.ref a) (.ref C)
theorem C7z {x:V} {t:Value} (I:Inv X pins Z H s) (rx:A2u x u) (ty:B7g X.K H x t) (e:kitOne X.K t c=some b) (h:∀tk,Q (.bool b) { s with toks:=tk }) :
  wpAny (model X.prog X.w) A (call (.builtin "isinstance") [u,c]) Q E s:=by
 cases ty with
 | non=>cases (show u=Value.none from rx);exact PySem.W.kia_one PySem.W.kitx_none I.kIn True.intro e (λz=>nomatch z) h
 | bl y=>cases (show u=Value.bool y from rx);exact PySem.W.kia_one PySem.W.kitx_bool I.kIn True.intro e (λz=>nomatch z) h
 | int i=>obtain ⟨t,q⟩:=(show∃t,u=Value.int i t from rx);cases q;exact PySem.W.kia_one PySem.W.kitx_int I.kIn True.intro e (λz=>nomatch z) h
 | str y=>obtain ⟨t,q⟩:=(show∃t,u=Value.str y t from rx);cases q;exact PySem.W.kia_one PySem.W.kitx_str I.kIn True.intro e (λz=>nomatch z) h
 | flt y=>obtain ⟨t,q⟩:=(show∃t,u=Value.float y t from rx);cases q;exact PySem.W.kia_one PySem.W.kitx_float I.kIn True.intro e (λz=>nomatch z) h
 | @lst a xs ea =>
  cases (show u=Value.ref a from rx)
  obtain ⟨_,_,n,_,h1⟩:=(show A2c X.prog X.w H s.heap a (.lst xs) from I.hok a _ ea);exact PySem.W.kia_one PySem.W.kitx_list I.kIn ⟨_,h1,rfl⟩ e (λz=>nomatch z) h
 | @frz a ob xs ea =>
  cases (show u=Value.ref a from rx)
  obtain ⟨_,_,_,n,_,h1⟩:=(show A2c X.prog X.w H s.heap a (.frz ob (.lst xs)) from I.hok a _ ea);exact PySem.W.kia_one PySem.W.kitx_list I.kIn ⟨_,h1,rfl⟩ e (λz=>nomatch z) h
 | @tup a xs ea =>
  cases (show u=Value.ref a from rx)
  obtain ⟨_,_,_,p⟩:=(show A2c X.prog X.w H s.heap a (.tup xs) from I.hok a _ ea);obtain ⟨o,h1,h2,_⟩:=p;exact PySem.W.kia_one PySem.W.kitx_tuple I.kIn ⟨o,h1,h2⟩ e (λz=>nomatch z) h
 | @dK a kvs ea =>
  cases (show u=Value.ref a from rx)
  obtain ⟨_,_,vs,_,p⟩:=(show A2c X.prog X.w H s.heap a (.dK kvs) from I.hok a _ ea);obtain ⟨o,es,ep,h1,h2,_⟩:=p;exact PySem.W.kia_one PySem.W.kitx_dict I.kIn ⟨o,h1,h2.1⟩ e (λz=>nomatch z) h
 | @dT a kvs ea =>
  cases (show u=Value.ref a from rx)
  obtain ⟨_,_,xs,_,o,es,ep,h1,h2,_⟩:=(show A2c X.prog X.w H s.heap a (.dT kvs) from I.hok a _ ea);exact PySem.W.kia_one PySem.W.kitx_dict I.kIn ⟨o,h1,h2.1⟩ e (λz=>nomatch z) h
 | @ins a C dx fs ea cl ha hn htk hm =>
  cases (show u=Value.ref a from rx)
  obtain ⟨mA,O,_⟩:=B7d I.hok ea;obtain ⟨od,J,_⟩:=O.look;exact PySem.W.kia_one (PySem.W.kitx_own (cl.get _) cl.hd ha hn htk hm) I.kIn J e (λz=>nomatch z) h
end
structure B0y (k:Nat) (A:Around):Prop where
 hd:A.handled=none
 dp:A.depth+3*k+5<recursionLimit
 un:A.units+16*k+200<cLine
 gd:A.guards=some []
theorem B0y.mono {j k:Nat} (r:B0y k A) (h:j<=k):B0y j A:=⟨r.hd,by have:=r.dp;lia,by have:=r.un;lia,r.gd⟩
theorem B0y.deeper {k:Nat} (r:B0y (k+1) A) (env:Env):B0y k (A.deeper env) :=
 ⟨r.hd,by have:=r.dp;show A.depth+1+3*k+5<_;lia,by have:=r.un;show A.units+3+16*k+200<_;lia,r.gd⟩
theorem C5h:(A.under (.builtin "type.__call__" ⟨.ref C::us,kw⟩)).depth=A.depth+1:=by
 first | rfl | simp [Around.under,Code.weight,Code.isCreation,Code.isGuard,Code.isCaller,Code.frames,Code.isFrame,guardIds]
theorem C6o:(A.under (.builtin "type.__call__" ⟨.ref C::us,kw⟩)).units=A.units+1:=by
 first | rfl | simp [Around.under,Code.cUnits,Code.frames,Code.isFrame]
theorem C2n:(A.under (.builtin "type.__call__" ⟨.ref C::us,kw⟩)).guards=A.guards:=by
 show pushGuards (Code.guards (.builtin "type.__call__" ⟨.ref C::us,kw⟩)) A.guards=A.guards;have h:Code.isGuard (.builtin "type.__call__" ⟨.ref C::us,kw⟩)=false:=by first | rfl | (simp [Code.isGuard,guardIds]) | decide
 unfold Code.guards;rw [h];cases A.guards <;> rfl
theorem B0y.make {k:Nat} (r:B0y (k+1) A) (C:Addr) (us:List Value) (kw:List (Str×Value)):B0y k (A.under (.builtin "type.__call__" ⟨.ref C::us,kw⟩)) :=
 ⟨r.hd,by have:=r.dp;rw [C5h];lia,by have:=r.un;rw [C6o];lia,by rw [C2n];exact r.gd⟩
theorem B0y.depth {k:Nat} (r:B0y k A):A.depth<recursionLimit:=by have:=r.dp;lia
theorem B0y.units {k:Nat} (r:B0y k A):A.units+64<cLine:=by have:=r.un;lia
def tNil:TA:=λ_ H Q=>Q [] H
def E3u (ta:TE) (tr:TA):TA:=λZ H Q=>ta Z H λx H1=>tr Z H1 λxs H2=>Q (x::xs) H2
section
variable {X:Cx} {e:Expr} {es:List Expr} {te:TE} {t:TA} {pos:Pos}
theorem A0d:PA X [] tNil:=λ_ _ _ _ H Q I h=>Calls.spliced_nil ⟨[],H,I,.nil,h⟩
theorem A0a (ha:PE X e te) (hr:PA X es t) (hs:starEach (e::es) X.env=(false,eval e X.env)::starEach es X.env:=by rfl):PA X (e::es) (E3u te t):=by
 intro pos pins s Z H Q I h;rw [hs];show wpAny _ _ (spliced ((false,eval e X.env)::backTo pos (starEach es X.env))) _ _ s;refine Calls.spliced_cons (thn (ha pins s Z H _ I h) ?_);rintro u s1 ⟨x,H1,I1,r1,q1⟩;exact thn (hr pos pins s1 Z H1 _ I1 q1) (by rintro us s2 ⟨xs,H2,I2,r2,q2⟩;exact ⟨x::xs,H2,I2,.cons r1 r2,q2⟩)
def tTup (t:TA):TE:=λZ H Q=>t Z H λxs H1=>xs.length<=sizeLine/\∀p,H1 p=none->Q (.ref p) (upd H1 p (.tup xs))
def tLst (t:TA):TE:=λZ H Q=>t Z H λxs H1=>xs.length<=sizeLine/\∀p,H1 p=none->Q (.ref p) (upd H1 p (.lst xs))
theorem A1t {x1} (h:PA X es t):PE X (.Tuple es x1 pos) (tTup t):=by
 intro pins s Z H Q I hq;refine wpAny_Tuple_spliced (thn (h pos pins s Z H _ I hq) λus s1 ⟨xs,H1,I1,r,z,q⟩=>⟨by rw [<-r.length];exact z,?_⟩);have hf:H1 s1.heap.objs.size=none:=I1.hok.fresh (Z09 _);refine ⟨.ref s1.heap.objs.size,upd H1 s1.heap.objs.size (.tup xs),I1.laid (t':=s1.toks) (λb u e=>Z01 _ e) (Z09 _) ?_,rfl,q _ hf⟩;exact ⟨z,us,r,⟨_,Z0c _ rfl,rfl,_,rfl⟩⟩
theorem A2f (h:PA X es t):PE X (.List es pos) (tLst t):=by
 intro pins s Z H Q I hq;refine wpAny_List_spliced (thn (h pos pins s Z H _ I hq) λus s1 ⟨xs,H1,I1,r,z,q⟩=>⟨by rw [<-r.length];exact z,?_⟩);have hf:H1 s1.heap.objs.size=none:=I1.hok.fresh (Z09 _);refine ⟨.ref s1.heap.objs.size,upd H1 s1.heap.objs.size (.lst xs),I1.laid (t':=s1.toks) (λb u e=>Z01 _ e) (Z09 _) ?_,rfl,q _ hf⟩;exact ⟨z,us,0,r,Z0c _ rfl⟩
end
abbrev Sp:=List V->Hp->VK->XK->Prop
abbrev CXT:=List Env->Hp->Shared->XK->Value->Shared->Prop
structure D7r (P:Program) (w:World) (K:Frag) (mg:Str->Option Value) (base:Heap) (A:Around) (outer:List Env) (s:Shared) (H:Hp):Prop where
 frames:A.frames=some outer
 mod:Mod K mg base
 bs:∀b o,base.get? b=some o->s.heap.get? b=some o/\H b=none
 bsz:base.objs.size<=s.heap.objs.size
 funs:s.heap.FunFrames base outer
 frf:∀b∈frs outer,H b=none
 hok:HOk P w H s.heap
 bare:AllBare s.gens
def CE (outer:List Env) (P:Program) (w:World) (H:Hp) (s:Shared) (Q:VK) (u:Value) (s':Shared):Prop :=
 ∃v H',s'.os=s.os/\AllBare s'.gens/\Un (frs outer) [] H H' s.heap s'.heap/\HOk P w H' s'.heap/\A2u v u/\Q v H'
def CR (CX:CXT) (outer:List Env) (P:Program) (w:World) (H:Hp) (s:Shared) (Q:VK) (E:XK) (r:Result) (s':Shared):Prop :=
 match r with
 | .ok (.ret u)=>CE outer P w H s Q u s'
 | .ok _=>False
 | .error e=>CX outer H s E e s'
structure A4q (P:Program) (w:World) (K:Frag) (mg:Str->Option Value) (base:Heap) (CX:CXT) (k:Nat) (f:Addr) (fd:FuncData) (ps:List Str) (sp:Sp):Prop where
 len:∀vs H Q E,sp vs H Q E->vs.length=ps.length
 run:∀(A:Around) (outer:List Env) (s:Shared) (H:Hp) (args:Args) (us:List Value) (vs:List V) (Q:VK) (E:XK),B0y k A->D7r P w K mg base A outer s H->BindsTo s fd args (ps.zip us)->A2r vs us->sp vs H Q E->
  codeAny (model P w) A (.call (.ref f) args) (CR CX outer P w H s Q E) s
theorem A4q.mono {j k:Nat} {f:Addr} {sp:Sp} (F:A4q P w K mg base CX j f fd ps sp) (h:j<=k) :
  A4q P w K mg base CX k f fd ps sp:=⟨F.len,λA outer s H args us vs Q E hr=>F.run A outer s H args us vs Q E (hr.mono h)⟩
theorem D7r.make {outer:List Env} (e:D7r P w K mg base A outer s H) (C:Addr) (us:List Value) (kw:List (Str×Value)) :
  D7r P w K mg base (A.under (.builtin "type.__call__" ⟨.ref C::us,kw⟩)) outer s H:=⟨by first | exact e.frames | (simpa [Around.under,Code.envs,Code.isFrame,pushEnvs] using e.frames),e.mod,e.bs,e.bsz,e.funs,e.frf,e.hok,e.bare⟩
section
variable {X:Cx} {pins:List (Addr×Obj)} {Z:St} {H:Hp} {s s':Shared}
theorem Inv.env0 (I:Inv X pins Z H s):D7r X.prog X.w X.K X.mg X.base X.A X.stack s H :=
 ⟨I.ok.frames,I.ok.mod,I.bs,Z1n I.ok.bsz I.sz,I.stack,I.stkFree,I.hok,I.bare⟩
theorem Inv.after {Q:VK} (I:Inv X pins Z H s) (h:CE X.stack X.prog X.w H s Q u s'):EP X pins Z Q u s':=by
 obtain ⟨v,H',os,bare,un,hok,r,q⟩:=h;obtain ⟨hh,g,d,t,os'⟩:=s';obtain rfl:os'=s.os:=os;exact ⟨v,H',I.call (h':=hh) (g':=g) (d':=d) (t':=t) (ch:=[]) un hok bare (λb z=>absurd z (by simp)),r,q⟩
end
def E1h (sp:Sp) (dvs:List V) (E:XK) (t:TA):TE:=λZ H Q=>t Z H λvs H1=>sp (vs++dvs) H1 Q E
def D9n (C:Addr) (sp:Sp) (dvs:List V) (E:XK) (t:TA):TE:=λZ H Q=>t Z H λvs H1=>∀x dx,H1 x=none->H1 dx=none->dx≠x->
 sp (.ref x::(vs++dvs)) (upd (upd H1 dx (.own x)) x (.ins C dx [])) (λv H2=>v= .non/\Q (.ref x) H2) E
def B0z (K:Frag) (fd:FuncData) (ps:List Str) (ds:List Value):Prop :=
 ∀(s:Shared) (us:List Value),K.In s.heap->(us++ds).length=ps.length->BindsTo s fd ⟨us,[]⟩ (ps.zip (us++ds))
theorem B0z.all (h:∀us:List Value,us.length=ps.length->bindArgs fd ⟨us,[]⟩=pure (ps.zip us)):B0z K fd ps []:=λs us _ hl=>by
 rw [Z0u] at hl⊢;exact .of_eq (h us hl)
def B9p (CX:CXT) (X:Cx) (E:XK):Prop:=∀(pins:List (Addr×Obj)) (Z:St) (H:Hp) (s:Shared) (e:Value) (s':Shared),Inv X pins Z H s->CX X.stack H s E e s'->X.xe e s'
section
variable {X:Cx} {CX:CXT} {k:Nat} {f C:Addr} {fd:FuncData} {ps:List Str} {sp:Sp} {dvs:List V} {ds:List Value} {E:XK} {x m:Str} {p pos apos:Pos} {e o:Expr} {es:List Expr} {ta:TE} {t:TA}
theorem D4j {Q:VK} (F:A4q X.prog X.w X.K X.mg X.base CX k f fd ps sp) (hr:B0y k X.A) (hb:B0z X.K fd ps ds) (hd:A2r dvs ds) (hx:B9p CX X E)
  (I:Inv X pins Z H s) (r:A2r vs us) (h:sp (vs++dvs) H Q E):wpAny (model X.prog X.w) X.A (call (.ref f) us) (EP X pins Z Q) X.xe s:=by
 have r2:A2r (vs++dvs) (us++ds):=r.append hd;have hl:(us++ds).length=ps.length:=by rw [<-r2.length];exact F.len _ _ _ _ h
 refine wpAny_call (codeAny_mono (F.run X.A X.stack s H ⟨us,[]⟩ (us++ds) (vs++dvs) Q E hr I.env0 (hb s us I.kIn hl) r2 h) λr s' hq=> ?_)
 cases r with
 | error e=>exact hx pins Z H s e s' I hq
 | ok fl =>
  cases fl with
  | ret u=>exact I.after hq
  | next=>exact False.elim hq
  | brk=>exact False.elim hq
  | cont=>exact False.elim hq
theorem D6d (F:A4q X.prog X.w X.K X.mg X.base CX k f fd ps sp) (hr:B0y k X.A) (hg:Gl X x) (hm:X.mg x=some (.ref f)) (hk:keepIn X.K (.ref f)=true) (hb:B0z X.K fd ps ds) (hd:A2r dvs ds) (hx:B9p CX X E)
  (ha:PA X (e::es) t) (hdb:(x == ("__debug__":Str))=false:=by decide) (he:starEach (e::es) X.env=(false,eval e X.env)::starEach es X.env:=by rfl) (hpl:(backTo pos (starEach es X.env)).any (·.1)=false:=by rfl) :
  PE X (.Call (.Name x p) (e::es) [] pos) (E1h sp dvs E t):=by
 intro pins s Z H Q I h;refine wpAny_Call_Name_kw (C7c I hg hm ?_ hdb);refine PySem.W.callWith_K (h₀:=X.base) I.ok.mod.kin hk (thn (ha pos pins s Z H _ I h) λus s1 ⟨vs,H1,I1,r,q⟩=>⟨I1.kIn,?_⟩) he hpl;exact D4j F hr hb hd hx I1 r q
structure Mk (K:Frag) (C f:Addr):Prop where
 makes:makesIn K C=true
 init:findIn K (.ref C) "__init__"=some (some (.ref f))
 fn:isFn K (.ref f)=true
 kp:keepIn K (.ref C)=true
theorem D2z {Q:VK} (M:Mk X.K C f) (F:A4q X.prog X.w X.K X.mg X.base CX k f fd ps sp) (hr:B0y (k+1) X.A) (hb:B0z X.K fd ps ds) (hd:A2r dvs ds)
  (hx:B9p CX X E) (I:Inv X pins Z H s) (r:A2r vs us)
  (h:∀x dx,H x=none->H dx=none->dx≠x->sp (.ref x::(vs++dvs)) (upd (upd H dx (.own x)) x (.ins C dx [])) (λv H2=>v= .non/\Q (.ref x) H2) E) :
  wpAny (model X.prog X.w) X.A (call (.ref C) us) (EP X pins Z Q) X.xe s:=by
 have hq:=h (s.heap.objs.size+1) s.heap.objs.size (I.hok.fresh (Nat.le_succ _)) (I.hok.fresh (Z09 _)) (Z0h (Nat.lt_succ_self _));have I2:=Inv.made (C:=C) I;have r2:A2r (V.ref (s.heap.objs.size+1)::(vs++dvs)) (Value.ref (s.heap.objs.size+1)::(us++ds)):= .cons rfl (r.append hd)
 have hl:(Value.ref (s.heap.objs.size+1)::us++ds).length=ps.length:=by
  have e:=r2.length;rw [F.len _ _ _ _ hq] at e;exact e.symm
 refine wpAny_call (D1k (f:=f) I.kIn M.makes M.init (beq_iff_eq.mp M.fn) (codeAny_mono (F.run _ X.stack _ _ ⟨Value.ref (s.heap.objs.size+1)::us,[]⟩ (Value.ref (s.heap.objs.size+1)::(us++ds)) _ _ E (hr.make C us [])
  (I2.env0.make C us []) (hb _ (Value.ref (s.heap.objs.size+1)::us) I2.kIn hl) r2 hq) λr s' hq'=> ?_))
 cases r with
 | error e=>exact hx pins Z _ _ e s' I2 hq'
 | ok fl =>
  cases fl with
  | ret u =>
   obtain ⟨v,H',I3,rv,ev,q3⟩:=I2.after hq';subst ev;exact ⟨rv,⟨V.ref (s.heap.objs.size+1),H',I3,rfl,q3⟩⟩
  | next=>exact False.elim hq'
  | brk=>exact False.elim hq'
  | cont=>exact False.elim hq'
theorem D7f (M:Mk X.K C f) (F:A4q X.prog X.w X.K X.mg X.base CX k f fd ps sp) (hr:B0y (k+1) X.A) (hg:Gl X x) (hm:X.mg x=some (.ref C)) (hb:B0z X.K fd ps ds) (hd:A2r dvs ds) (hx:B9p CX X E)
  (ha:PA X (e::es) t) (hdb:(x == ("__debug__":Str))=false:=by decide) (he:starEach (e::es) X.env=(false,eval e X.env)::starEach es X.env:=by rfl) (hpl:(backTo pos (starEach es X.env)).any (·.1)=false:=by rfl) :
  PE X (.Call (.Name x p) (e::es) [] pos) (D9n C sp dvs E t):=by
 intro pins s Z H Q I h;refine wpAny_Call_Name_kw (C7c I hg hm ?_ hdb);refine PySem.W.callWith_K (h₀:=X.base) I.ok.mod.kin M.kp (thn (ha pos pins s Z H _ I h) λus s1 ⟨vs,H1,I1,r,q⟩=>⟨I1.kIn,?_⟩) he hpl;exact D2z M F hr hb hd hx I1 r q
end
section
variable {X:Cx} {CX:CXT} {k:Nat} {f C:Addr} {fd:FuncData} {ps ks:List Str} {sp:Sp} {E:XK} {x m:Str} {p pos apos kpos:Pos} {e o:Expr} {es:List Expr} {kws:List Keyword} {te ta:TE} {t tk:TA} {nm:Option Str}
variable {g:List Value->List Value->List Value} {gV:List V->List V->List V}
end
structure A0w (N P:List Str) (sc:Scope):Prop where
 kind:sc.kind= .function
 co:sc.isCoroutine=false
 gen:sc.isGenerator=false
 nd:N.Nodup
 pre:N.take P.length=P
 par:∀x∈P,sc.names.lookup x=some .local\/sc.names.lookup x=some .cell
 nofree:∀y∈sc.names,y.2≠.free
theorem B9y {kindOf:Str->Option NameKind} {x:Str}:∀{binds:List (Str×Value)} {m:Str->Option Value},(∀v,(x,v)∉binds)->bindL kindOf binds m x=m x
 | [],_,_=>rfl
 | (n,v)::r,m,h=>by
  unfold bindL;rw [B9y λw hw=>h w (Z1f _ hw)];split
  ·have:x≠n:=by rintro rfl;exact h v Z27
   simp [this]
  ·rfl
theorem B9s {kindOf:Str->Option NameKind} {x:Str}:∀{binds:List (Str×Value)} {m:Str->Option Value},(∀v,(x,v)∉binds)->bindC kindOf binds m x=m x
 | [],_,_=>rfl
 | (n,v)::r,m,h=>by
  unfold bindC;rw [B9s λw hw=>h w (Z1f _ hw)];split
  ·rfl
  ·have:x≠n:=by rintro rfl;exact h v Z27
   simp [this]
theorem C0e {kindOf:Str->Option NameKind} {x:Str} {v:Value}:∀{P:List Str} {vs:List Value} {i:Nat} {m:Str->Option Value},P.Nodup->P[i]? =some x->vs[i]? =some v->kindOf x=some .local->
  bindL kindOf (P.zip vs) m x=some v
 | [],_,_,_,_,h,_,_=>by simp at h
 | _::_,[],_,_,_,_,h,_=>by simp at h
 | p::P,w::vs,0,m,nd,h1,h2,hk=>by
  simp at h1 h2;subst h1;subst h2;show bindL kindOf ((p,w)::P.zip vs) m p=_;unfold bindL;rw [B9y λv hv=>(Z15.mp nd).1 (List.of_mem_zip hv).1,Z12 hk];simp
 | p::P,w::vs,i+1,m,nd,h1,h2,hk=>by
  show bindL kindOf ((p,w)::P.zip vs) m x=_;unfold bindL;exact C0e (i:=i) (Z15.mp nd).2 (by simpa using h1) (by simpa using h2) hk
theorem B9f {kindOf:Str->Option NameKind} {x:Str} {v:Value}:∀{P:List Str} {vs:List Value} {i:Nat} {m:Str->Option Value},P.Nodup->P[i]? =some x->vs[i]? =some v->kindOf x≠some .local->
  bindC kindOf (P.zip vs) m x=some v
 | [],_,_,_,_,h,_,_=>by simp at h
 | _::_,[],_,_,_,_,h,_=>by simp at h
 | p::P,w::vs,0,m,nd,h1,h2,hk=>by
  simp at h1 h2;subst h1;subst h2;show bindC kindOf ((p,w)::P.zip vs) m p=_;unfold bindC;rw [B9s λv hv=>(Z15.mp nd).1 (List.of_mem_zip hv).1,Z0t hk];simp
 | p::P,w::vs,i+1,m,nd,h1,h2,hk=>by
  show bindC kindOf ((p,w)::P.zip vs) m x=_;unfold bindC;exact B9f (i:=i) (Z15.mp nd).2 (by simpa using h1) (by simpa using h2) hk
def B9u (N:List Str) (vs:List V):St:=vs.map some++List.replicate (N.length-vs.length) none
def D8c (CX:CXT) (P:Program) (w:World) (K:Frag) (mg:Str->Option Value) (base:Heap) (N:List Str) (qual:Str) (scope:Scope) (f:Addr) (cd:Value) (A:Around) (outer:List Env) (s:Shared) (H:Hp) (E:XK):Cx where
 prog:=P
 w:=w
 K:=K
 mg:=mg
 base:=base
 A:=A.deeper (envOfC qual scope s.heap.objs.size f cd)
 N:=N
 s₀:=s
 H₀:=H
 env:=envOfC qual scope s.heap.objs.size f cd
 outer:=outer
 stack:=envOfC qual scope s.heap.objs.size f cd::outer
 ex:=[]
 calm:=true
 fn:=λ_=>true
 pn:=[]
 xe:=λe s'=>wpAny (model P w) (A.deeper (envOfC qual scope s.heap.objs.size f cd)) (leaving (envOfC qual scope s.heap.objs.size f cd) e) (λ_ s''=>CX outer H s E e s'') (λe' s''=>CX outer H s E e' s'') s'
theorem C3o {sc:Scope} {n:Nat} {x:Str} (h:sc.names.lookup x=some .cell):∃c,(cellsFrom n sc.names []).lookup x=some c:=by
 have q:=PySem.W.cellsFrom_some sc.names n [] (.inl h);exact Option.isSome_iff_exists.mp q
theorem C9v {N:List Str} {qual:Str} {f:Addr} {cd:Value} {outer:List Env} {s1:Shared} {E:XK}
  (S:A0w N ps scope) (hd:A.handled=none) (e0:D7r P w K mg base A outer s H) (hl:vs.length=ps.length) (r:A2r vs us)
  (x:InCallC s s.heap.objs.size (bindL (envOfC qual scope s.heap.objs.size f cd).kindOf (ps.zip us) λ_=>none) (cellsFrom (s.heap.objs.size+1) scope.names []) (bindC (envOfC qual scope s.heap.objs.size f cd).kindOf (ps.zip us) λ_=>none) s1) :
  Inv (D8c CX P w K mg base N qual scope f cd A outer s H E) [] (B9u N vs) H s1:=by
 have hpl:ps.length<=N.length:=by have:=congrArg List.length S.pre;rw [Z0x] at this;lia
 obtain ⟨h1,tk,rfl,hk⟩:=x.done;have noA:∀b:Addr,b∉(D8c CX P w K mg base N qual scope f cd A outer s H E).ex:=λb z=>absurd (show b∈([]:List Addr) from z) (by simp)
 refine ⟨⟨e0.mod,S.kind,rfl,rfl,Z09 _,λy z c h1 h2=> ?_,λy hy=> ?_,λy c _ h=> ?_,λ_=>hd,Around.frames_deeper e0.frames,.inr ⟨rfl,rfl⟩,λb z=>absurd z (noA b),e0.bs,e0.bsz,λb _ _=>noA b,λb z=>absurd z (noA b),e0.funs,e0.frf⟩,
  rfl,e0.bare,Un.kept hk,⟨_,x.toInCall.ns,λi y v h1 h2 h3=> ?_⟩,λy c h=>⟨_,x.cell y c h⟩,e0.hok.fresh (Z09 _),λy c h=> ?_,λp hp=>absurd (show p∈([]:List (Addr×Obj)) from hp) (by simp),e0.hok.kept hk,?_⟩
 ·exact name_of_addr x.apart (PySem.mem_of_lookup h1) (PySem.mem_of_lookup h2)
 ·have hy:scope.names.lookup y=some .cell\/scope.names.lookup y=some .free:=hy;rcases hy with hy | hy
  ·exact C3o hy
  ·exact absurd rfl (S.nofree _ (PySem.mem_of_lookup hy))
 ·exact Nat.le_of_lt (x.above y c (PySem.mem_of_lookup h))
 ·have hi:i<vs.length:=by
   unfold B9u at h2;by_cases hi:i<vs.length
   ·exact hi
   ·rw [Z1l (by simpa using hi)] at h2;rw [List.getElem?_replicate] at h2;split at h2 <;> cases h2
  have ha:vs[i]? =some v:=by
   unfold B9u at h2;rw [Z26 (by simpa using hi),Z1z] at h2
   cases e:vs[i]? with
   | none=>rw [e] at h2;cases h2
   | some a=>rw [e] at h2;cases h2;rfl
  obtain ⟨u,hu,rv⟩:=r.get ha
  have hp:ps[i]? =some y:=by
   rw [<-S.pre,List.getElem?_take_of_lt (by lia)];exact h1
  have ndP:ps.Nodup:=by rw [<-S.pre];exact S.nd.sublist (Z2o _ _)
  refine ⟨u,rv,?_⟩;rcases S.par y (Z13 hp) with k | k
  ·exact .inl ⟨k,C0e ndP hp hu k⟩
  ·obtain ⟨c,e⟩:=C3o (n:=s.heap.objs.size+1) k;refine .inr ⟨.inl k,c,e,?_⟩;have q:=x.cell y c e;rw [B9f ndP hp hu (by show scope.names.lookup y≠_;rw [k];decide)] at q;exact q
 ·exact e0.hok.fresh (Nat.le_of_lt (x.above y c (PySem.mem_of_lookup h)))
 ·unfold B9u;show _=N.length;rw [Z06,Z08,List.length_replicate]
  lia
theorem E2w {k:Nat} {f:Addr} {name qual:Str} {params:Arguments} {dV kV doc pm cdv ct oc:Value} {an od:Option Addr}
 {N:List Str} {sp:Sp} (lk:K.lookup f=some ⟨oc,od,.func (fnOf name qual params body scope dV kV doc pm an cdv ct),osl⟩) (hcd:codeIn K cdv qual=true) (S:A0w N ps scope)
  (len:∀vs H Q E,sp vs H Q E->vs.length=ps.length)
  (hbody:∀(A:Around) (outer:List Env) (s:Shared) (H:Hp) (vs:List V) (Q:VK) (E:XK),B0y k (A.deeper (envOfC qual scope s.heap.objs.size f cdv))->sp vs H Q E->
   ∃t,PSs (D8c CX P w K mg base N qual scope f cdv A outer s H E) body t/\t { nx:=λ_ H'=>Q .non H',rt:=Q } (B9u N vs) H) :
  A4q P w K mg base CX (k+1) f (fnOf name qual params body scope dV kV doc pm an cdv ct) ps sp:=by
 refine ⟨len,λA outer s H args us vs Q E hr e0 hb r hsp=> ?_⟩;have hl:=len _ _ _ _ hsp;have KX:K.In s.heap:=e0.mod.kin.keeps λb o e=>(e0.bs b o e).1;have lim:s.heap.NoLimit:=e0.mod.nolimit.keeps λb o e=>(e0.bs b o e).1
 have hkind:∀y∈ps.zip us,scope.names.lookup y.1=some .local\/(scope.names.lookup y.1=some .cell/\((cellsFrom (s.heap.objs.size+1) scope.names []).lookup y.1).isSome=true):=λ⟨n,v⟩ hy=>by
  rcases S.par n (List.of_mem_zip hy).1 with q | q
  ·exact .inl q
  ·exact .inr ⟨q,PySem.W.cellsFrom_some _ _ _ (.inl q)⟩
 refine codeAny_call_function hr.depth (KX _ _ lk) rfl S.co S.gen rfl (PySem.W.codeRec_of KX hcd) (hb _ _ _ _ ?_);refine wpAny_newFunctionEnv_cells S.kind hkind λenv he s1 x=> ?_;subst he;refine ⟨lim.keeps x.toInCall.keep,codeAny_func ?_⟩;obtain ⟨t,ht,hq⟩:=hbody A outer s H vs Q E (hr.deeper _) hsp;have I:Inv (D8c CX P w K mg base N qual scope f cdv A outer s H E) [] (B9u N vs) H s1:=C9v S hr.hd e0 hl r x;refine Z10 (ht [] s1 (B9u N vs) H _ I hq) (λfl s' hs=> ?_) λe s' hs=>hs
 have fin:∀{Z':St} {H':Hp} {v:V} {u:Value},Inv (D8c CX P w K mg base N qual scope f cdv A outer s H E) [] Z' H' s'->A2u v u->Q v H'->CE outer P w H s Q u s' :=
  λ{Z' H' v u} J rv q=>⟨v,H',J.os,J.bare,J.base,J.hok,rv,q⟩
 cases fl with
 | ret u =>
  obtain ⟨v,Z',H',J,rv,q⟩:=hs;exact fin J rv q
 | next =>
  obtain ⟨Z',H',J,q⟩:=hs;exact fin (v:=V.non) (u:=Value.none) J rfl q
 | brk =>
  obtain ⟨_,_,_,q⟩:=hs;exact False.elim q
 | cont =>
  obtain ⟨_,_,_,q⟩:=hs;exact False.elim q
section
variable {X:Cx} {x:Str} {p pos:Pos} {e:Expr} {es:List Expr} {t:TA} {id T:String} {r:List V->Hp->VK->Prop}
def tCB (r:List V->Hp->VK->Prop) (t:TA):TE:=λZ H Q=>t Z H λvs H1=>r vs H1 Q
theorem A0q (hc:B1i X (.builtin id) r) (hg:Gl X x) (hm:X.mg x=none) (hv:bootBuiltins x=some (.builtin id)) (ha:PA X (e::es) t) (hn:x≠"__name__":=by decide) (hdb:(x == ("__debug__":Str))=false:=by decide)
  (he:starEach (e::es) X.env=(false,eval e X.env)::starEach es X.env:=by rfl) (hpl:(backTo pos (starEach es X.env)).any (·.1)=false:=by rfl):PE X (.Call (.Name x p) (e::es) [] pos) (tCB r t):=by
 intro pins s Z H Q I h;refine wpAny_Call_Name_kw (A7a I hg hm hv ?_ hn hdb);exact PyProof.Rows.callWith_builtin1 (thn (ha pos pins s Z H _ I h) (by rintro us s1 ⟨vs,H1,I1,r1,q1⟩;exact hc pins s1 Z H1 vs us Q I1 r1 q1)) he hpl
theorem A3g (hc:B1i X (.type T) r) (hg:Gl X x) (hm:X.mg x=none) (hv:bootBuiltins x=some (.type T)) (ha:PA X (e::es) t) (hn:x≠"__name__":=by decide) (hdb:(x == ("__debug__":Str))=false:=by decide)
  (he:starEach (e::es) X.env=(false,eval e X.env)::starEach es X.env:=by rfl) (hpl:(backTo pos (starEach es X.env)).any (·.1)=false:=by rfl):PE X (.Call (.Name x p) (e::es) [] pos) (tCB r t):=by
 intro pins s Z H Q I h;refine wpAny_Call_Name_kw (A7a I hg hm hv ?_ hn hdb);exact PyProof.Rows.callWith_type1 (thn (ha pos pins s Z H _ I h) (by rintro us s1 ⟨vs,H1,I1,r1,q1⟩;exact hc pins s1 Z H1 vs us Q I1 r1 q1)) he hpl
end
end L2
namespace HT
open PySem PyProof.Rows
section
open PySem.SeqAt
open PySem.AutoSeq1 (wpAny_loadPart')
open PySem.MeetsSeq PySem.MeetsSeq2 PySem.MeetsSeq3
end
section
variable {prog:Program} {w:World} {A:Around} {E:Value->Shared->Prop} {s:Shared}
theorem cat_tup {t b:Addr} {vs ws:List Value} {Q:Value->Shared->Prop} (ht:IsTup s.heap t vs.toArray) (hb:IsTup s.heap b ws.toArray) (hv:vs≠[])
  (h1:ws=[]->Q (.ref t) s) (h2:ws≠[]->Q (.ref s.heap.objs.size) { s with heap:=s.heap.push { cls:= .type "tuple",data:= .seq (vs++ws).toArray } })
  (hsz:vs.length+ws.length<=sizeLine):wpAny (model prog w) A (binaryOp .Add (.ref t) (.ref b)) Q E s:=by
 obtain ⟨⟨cls,dd,data,sl⟩,ho,hc,n,hd⟩:=id ht;obtain ⟨⟨cls2,dd2,data2,sl2⟩,ho2,hc2,n2,hd2⟩:=id hb;simp only at hc hd hc2 hd2;subst hc hd hc2 hd2;have e:vs.toArray++ws.toArray=(vs++ws).toArray:=by simp
 by_cases hw:ws=[]
 ·exact concat_meets ⟨_,ho,rfl⟩ ⟨_,ho2,rfl⟩ noFill_tuple_add seq_tuple_add PySem.F.slot_tuple_add PySem.F.entry_tuple_add (PySem.F.args_tuple_add_2 _ _)
   (tuple_addW1 t b vs.toArray ws.toArray n n2 dd dd2 sl sl2 (by simpa using hv) (by simp [hw])) ⟨ho,ho2,h1 hw⟩
 ·refine concat_meets ⟨_,ho,rfl⟩ ⟨_,ho2,rfl⟩ noFill_tuple_add seq_tuple_add PySem.F.slot_tuple_add PySem.F.entry_tuple_add (PySem.F.args_tuple_add_2 _ _)
   (tuple_addW2 t b vs.toArray ws.toArray n n2 dd dd2 sl sl2 (by simpa using hv) (by simpa using hw) (by rw [Z0g,Z0g];exact hsz)) ⟨ho,ho2,?_⟩
  rw [e];exact h2 hw
def sIx (n d:Nat):Option Int->Nat
 | none=>d
 | some v=>if v<0 then (v+(n:Int)).toNat else min v.toNat n
theorem sIx_nat (n d k:Nat):sIx n d (some (k:Int))=min k n:=by
 show (if (k:Int)<0 then ((k:Int)+(n:Int)).toNat else min (k:Int).toNat n)=min k n;rw [Z0t (by lia),Int.toNat_natCast]
end
end HT
namespace L2
open PySem PySem.Spec PyProof.Rows
variable {r:V->Option Int->Option Int->Hp->VK->Prop} {xs:List (List Key×Addr×Value)} {us its its':List Value} {n t':Nat} {pins:List (Addr×Obj)} {Z:St} {H:Hp} {s:Shared} {f:Array Value->Array Value} {y:V} {u:Value} {o:Option V} {P:Program} {w:World} {kvs:List (List Key×V)} {a:Addr} {Q:Value->Shared->Prop} {pos:Pos} {X:Cx} {trs:List (TE×TE)} {keys:List (Option Expr)}
abbrev TO:=St->Hp->(Option Int->Hp->Prop)->Prop
def PO (X:Cx) (e:Option Expr) (t:TO):Prop :=
 ∀(pins:List (Addr×Obj)) (s:Shared) (Z:St) (H:Hp) (Q:Option Int->Hp->Prop),Inv X pins Z H s->t Z H Q->
  wpAny (model X.prog X.w) X.A (evalPart e X.env) (λu s'=>∃o H',Inv X pins Z H' s'/\IsPart u o/\Q o H') X.xe s
def D7j:TO:=λ_ H Q=>Q none H
def E3m (t:TE):TO:=λZ H Q=>t Z H λx H1=>∃i,x= .int i/\Q (some i) H1
section
variable {X:Cx} {e:Expr} {te:TE} {lo hi:Option Expr} {tl th:TO} {pos p2:Pos}
theorem A4w:PO X none D7j:=by
 intro pins s Z H Q I h;rw [evalPart_none];exact Z04 ⟨none,H,I,.none,h⟩
theorem A3e (h:PE X e te):PO X (some e) (E3m te):=by
 intro pins s Z H Q I hw;rw [evalPart_some];refine thn (h pins s Z H _ I hw) ?_;rintro u s1 ⟨x,H1,I1,r1,q1⟩;obtain ⟨i,rfl,q⟩:=q1;obtain ⟨t,rfl⟩:=r1;exact ⟨some i,H1,I1,.int i t,q⟩
def SlR (X:Cx) (r:V->Option Int->Option Int->Hp->VK->Prop):Prop :=
 ∀(pins:List (Addr×Obj)) (s:Shared) (Z:St) (H:Hp) (x:V) (v vl vu:Value) (lo hi:Option Int) (sl:Addr) (Q:VK),Inv X pins Z H s->A2u x v->s.heap.IsSliceOf sl vl vu .none->IsPart vl lo->IsPart vu hi->r x lo hi H Q->
  ∃T id,typeLookup (.type T) "__getitem__"=pure (some (.builtin id))/\s.TypeIs v T/\wpAny (model X.prog X.w) X.A (getItem v (.ref sl)) (EP X pins Z Q) X.xe s
def tSl (r:V->Option Int->Option Int->Hp->VK->Prop) (te:TE) (tl th:TO):TE:=λZ H Q=>te Z H λx H1=>tl Z H1 λl H2=>th Z H2 λu H3=>r x l u H3 Q
theorem A3d (hr:SlR X r) (he:PE X e te) (hl:PO X lo tl) (hu:PO X hi th):PE X (.Subscript e (.Slice lo hi none p2) pos) (tSl r te tl th):=by
 intro pins s Z H Q I h;refine Subscript_ (thn (he pins s Z H _ I h) ?_);rintro v s1 ⟨x,H1,I1,r1,q1⟩;refine wpAny_Slice (thn (hl pins s1 Z H1 _ I1 q1) ?_);rintro vl s2 ⟨l,H2,I2,pl,q2⟩;refine thn (hu pins s2 Z H2 _ I2 q2) ?_;rintro vu s3 ⟨u,H3,I3,pu,q3⟩;rw [evalPart_none];refine Z04 ?_;have I4:Inv X pins Z H3 { s3 with heap:=s3.heap.push { cls:= .type "slice",data:= .fields #[vl,vu,.none] } }:=I3.kept (t':=s3.toks) λb ob q=>Z01 _ q
 obtain ⟨T,id,hT,ht,hg⟩:=hr pins { s3 with heap:=s3.heap.push { cls:= .type "slice",data:= .fields #[vl,vu,.none] } } Z H3 x v vl vu l u s3.heap.objs.size Q I4 r1 (Heap.IsSliceOf.new ..) pl pu q3;show wpAny (model X.prog X.w) X.A (subscriptTail e (.Slice lo hi none p2) v (.ref s3.heap.objs.size)) (EP X pins Z Q) X.xe { s3 with heap:=s3.heap.push { cls:= .type "slice",data:= .fields #[vl,vu,.none] } };exact tail_any (ops:=[.ref s3.heap.objs.size,v]) ht hT hg (by with_unfolding_all rfl)
def B5d (xs:List V) (lo hi:Option Int):List V:=(xs.drop (HT.sIx xs.length 0 lo)).take (HT.sIx xs.length xs.length hi-HT.sIx xs.length 0 lo)
theorem C2w (xs:List V) (lo hi:Option Int):(B5d xs lo hi).length<=xs.length:=by
 unfold B5d;rw [Z0x,Z19]
 lia
def E3l (K:Frag):R2:=λx y H Q=>∃a b xs ys,x= .ref a/\y= .ref b/\SqT K H a xs/\SqT K H b ys/\xs≠[]/\xs.length+ys.length<=sizeLine/\
 (ys=[]->Q (.ref a) H)/\(ys≠[]->∀p,H p=none->Q (.ref p) (upd H p (.tup (xs++ys))))
theorem A2r.nil_iff {xs:List V} (r:A2r xs us):us=[]↔xs=[]:=by
 cases r with
 | nil=>simp
 | cons _ _=>simp
theorem C8g:OpR X (binaryOp .Add) (E3l X.K):=by
 walk_at "l";obtain ⟨a,b,xs,ys,rfl,rfl,ha,hb,hx,hz,q1,q2⟩:=h;cases rx;cases ry;obtain ⟨its,r1,p1,_⟩:=I.tuple ha;obtain ⟨its2,r2,p2,_⟩:=I.tuple hb;refine HT.cat_tup p1 p2 (λz=>hx (r1.nil_iff.mp z)) (λz=>⟨.ref a,H,I,rfl,q1 (r2.nil_iff.mp z)⟩) (λz=> ?_) (by rw [<-r1.length,<-r2.length];exact hz);refine ⟨.ref s.heap.objs.size,_,I.laid (t':=s.toks) (o:= .tup (xs++ys)) (λb ob q=>Z01 _ q) (Z09 _) ?_,rfl,q2 (λw=>z (r2.nil_iff.mpr w)) _ (I.hok.fresh (Z09 _))⟩;exact ⟨by rw [Z06];exact hz,_,r1.append r2,IsTup.new _ _⟩
end
def ixN (n:Nat) (i:Int):Option Nat:=if 0<=i then (if i<n then some i.toNat else none) else if -(n:Int)<=i then some (i+n).toNat else none
def atI {α:Type} (xs:List α) (i:Int):Option α:=(ixN xs.length i).bind λj=>xs[j]?
theorem C9z {i:Int} {j:Nat} (h:ixN n i=some j):seqIndex? i n=some j/\j<n/\-(n:Int)<=i/\i<n:=by
 unfold ixN at h;by_cases h0:0<=i
 ·rw [Z12 h0] at h;by_cases h1:i<n
  ·rw [Z12 h1] at h;have e:i.toNat=j:=Z1a h;exact ⟨by rw [seqIndex_of h0 h1,e],by lia,by lia,h1⟩
  ·rw [Z0t h1] at h;cases h
 ·rw [Z0t h0] at h;by_cases h1: -(n:Int)<=i
  ·rw [Z12 h1] at h;have e:(i+n).toNat=j:=Z1a h;exact ⟨by rw [seqIndex_neg (by lia) h1,e],by lia,h1,by lia⟩
  ·rw [Z0t h1] at h;cases h
theorem C7h {α:Type} {xs:List α} {i:Int} {v:α} (h:atI xs i=some v):∃j,seqIndex? i xs.length=some j/\xs[j]? =some v/\j<xs.length/\-(xs.length:Int)<=i/\i<xs.length:=by
 unfold atI at h
 cases e:ixN xs.length i with
 | none=>rw [e] at h;cases h
 | some j =>
  rw [e] at h;obtain ⟨h1,h2,h3,h4⟩:=C9z e;exact ⟨j,h1,h,h2,h3,h4⟩
theorem A0j {α:Type} {xs:List α} {j:Nat} {v:α} (h:xs[j]? =some v):atI xs (j:Int)=some v:=by
 have hj:j<xs.length:=(Z03.mp h).1
 have e:ixN xs.length (j:Int)=some j:=by
  unfold ixN;rw [Z12 (by lia),Z12 (by lia)];simp
 unfold atI;rw [e];exact h
def D5e (b:Expr):Prop:=∀o i,subscripted b false o i=operate [o,i] (getItem o i)
def IxR (X:Cx) (r:R2):Prop :=
 ∀(value slice:Expr) (pins:List (Addr×Obj)) (s:Shared) (Z:St) (H:Hp) (x y:V) (v u:Value) (Q:VK),Inv X pins Z H s->A2u x v->A2u y u->r x y H Q->
  subscripted slice false v u=operate [v,u] (getItem v u)->wpAny (model X.prog X.w) X.A (subscriptTail value slice v u) (EP X pins Z Q) X.xe s
def MtR (X:Cx) (id:String) (r:V->List V->Hp->VK->Prop):Prop :=
 ∀(pins:List (Addr×Obj)) (s:Shared) (Z:St) (H:Hp) (x:V) (xs:List V) (v:Value) (us:List Value) (Q:VK),Inv X pins Z H s->A2u x v->A2r xs us->r x xs H Q->
  wpAny (model X.prog X.w) X.A (call (.builtin id) (v::us)) (EP X pins Z Q) X.xe s
section
variable {X:Cx} {a b:Expr} {ta tb:TE} {pos:Pos}
theorem A1b {r:R2} (hr:IxR X r) (ha:PE X a ta) (hb:PE X b tb) (hs:D5e b:=by exact λ_ _=>rfl):PE X (.Subscript a b pos) (tOp r ta tb):=by
 intro pins s Z H Q I h;exact Subscript_ (E4e ha hb I h λv u s2 x y H2 I2 rx ry q=>hr a b pins s2 Z H2 x y v u Q I2 rx ry q (hs _ _))
def E4s (K:Frag):R2:=λx y H Q=>∃p xs i v,x= .ref p/\y= .int i/\SqL K H p xs/\atI xs i=some v/\Q v H
def E4q (K:Frag):R2:=λx y H Q=>∃p xs i v,x= .ref p/\y= .int i/\SqT K H p xs/\atI xs i=some v/\Q v H
theorem A1l:IxR X (E4s X.K):=by
 intro value slice pins s Z H x y v u Q I rx ry h hs;obtain ⟨p,xs,i,z,rfl,rfl,hq,he,q⟩:=h;cases rx;obtain ⟨t,rfl⟩:=ry;obtain ⟨its,r,pl,hz⟩:=I.list hq;obtain ⟨j,h1,h2,h3,h4,h5⟩:=C7h he;obtain ⟨w,ew,rw'⟩:=r.get h2;have hl:=r.length;have hn:=C5a;have fin:EP X pins Z Q w s:=⟨z,H,I,rw',q⟩;by_cases h0:0<=i
 ·have hj:i.toNat=j:=by
   rw [seqIndex_of h0 h5] at h1;exact Z1a h1
  exact item_listR pl.isList h0 (by lia) (by rw [hj];simpa using ew) fin hs
 ·have hj:(i+(its.toArray.size:Int)).toNat=j:=by
   rw [seqIndex_neg (by lia) h4] at h1;rw [Z0g,<-hl];exact Z1a h1
  exact subscriptTail_builtinR (x:=w) pl.isList.typeIs slot_list_getitem.lookup
   (wpAny_getItem_list_neg (Q:=λr s'=>r=w/\EP X pins Z Q r s') pl.isList (by lia) (by rw [Z0g] <;> lia) (by lia) (by rw [hj];simpa using ew) ⟨rfl,fin⟩) hs
theorem A1d:IxR X (E4q X.K):=by
 intro value slice pins s Z H x y v u Q I rx ry h hs;obtain ⟨p,xs,i,z,rfl,rfl,hq,he,q⟩:=h;cases rx;obtain ⟨t,rfl⟩:=ry;obtain ⟨its,r,pl,hz⟩:=I.tuple hq;obtain ⟨j,h1,h2,h3,h4,h5⟩:=C7h he;obtain ⟨w,ew,rw'⟩:=r.get h2;have hl:=r.length;have hn:=C5a;have fin:EP X pins Z Q w s:=⟨z,H,I,rw',q⟩
 exact subscriptTail_builtinR (x:=w) pl.typeIs slot_tuple_getitem.lookup
  (getItem_tuple (j:=j) (Q:=λr s'=>r=w/\EP X pins Z Q r s') pl (by lia) (by lia) (by rw [Z0g,<-hl];exact h1) (by simpa using ew) ⟨rfl,fin⟩) hs
theorem C5l (its:List Value) (n j:Nat) (u:Value):Obj.mapSeq (·.setIfInBounds j u) { cls:= .type "list",data:= .seq its.toArray n }={ cls:= .type "list",data:= .seq (its.set j u).toArray n }:=by
 simp [Obj.mapSeq]
theorem Inv.lst {p:Addr} {xs:List V} (I:Inv X pins Z H s) (h:H p=some (.lst xs)) :
  ∃(its:List Value) (n:Nat),A2r xs its/\s.heap.get? p=some { cls:= .type "list",data:= .seq its.toArray n }/\xs.length<=sizeLine:=by
 obtain ⟨z,its,n,r,e⟩:=I.hok p _ h;exact ⟨its,n,r,e,z⟩
theorem Inv.lstUpd {p:Addr} {xs ys:List V} {n':Nat} {f:Obj->Obj} (I:Inv X pins Z H s) (h:H p=some (.lst xs))
  (ho:s.heap.get? p=some { cls:= .type "list",data:= .seq its.toArray n }) (hf:f { cls:= .type "list",data:= .seq its.toArray n }={ cls:= .type "list",data:= .seq its'.toArray n' }) (r:A2r ys its') (hz:ys.length<=sizeLine) (t:Nat) :
  Inv X pins Z (upd H p (.lst ys)) { s with heap:=s.heap.update p f,toks:=t }:=by
 have e:(s.heap.update p f).get? p=some { cls:= .type "list",data:= .seq its'.toArray n' }:=by
  rw [Z1r f ho (by rw [hf] <;> rfl),hf]
 refine I.write (x:=p) (e:=p) (by rw [h];trivial) (.inl rfl) (λb u hb q=>(Z1d _ _ (Ne.symm hb)).trans q) ⟨_,e⟩ ?_;exact ⟨hz,its',n',r,e⟩
def E2k:V->V->V->Hp->(Hp->Prop)->Prop:=λo i v H Q=>∃p xs k j,o= .ref p/\i= .int k/\H p=some (.lst xs)/\ixN xs.length k=some j/\Q (upd H p (.lst (xs.set j v)))
theorem B0r:E2m X E2k:=by
 intro pins s Z H o i v ov iv u Q I ro ri rv h;obtain ⟨p,xs,k,j,rfl,rfl,hp,hj,q⟩:=h;cases ro;obtain ⟨t,rfl⟩:=ri;obtain ⟨its,n,r,ho,hz⟩:=I.lst hp;obtain ⟨h1,h2,h3,h4⟩:=C9z hj;have hl:=r.length;have hn:=C5a
 have I':Inv X pins Z (upd H p (.lst (xs.set j v))) { s with heap:=s.heap.update p (Obj.mapSeq (·.setIfInBounds j u)) } :=
  I.lstUpd hp ho (C5l its n j u) (r.set rv j) (by rw [List.length_set];exact hz) s.toks
 by_cases h0:0<=k
 ·have hk:k.toNat=j:=by
   rw [seqIndex_of h0 h4] at h1;exact Z1a h1
  exact PySem.W.ki_setAt ho h0 (by lia) (by rw [Z0g,<-hl];exact h4) (by rw [hk];exact ⟨_,I',q⟩)
 ·have hk:(k+(its.toArray.size:Int)).toNat=j:=by
   rw [seqIndex_neg (by lia) h3] at h1;rw [Z0g,<-hl];exact Z1a h1
  exact PySem.W.ki_setBack ho (by lia) (by rw [Z0g,<-hl];exact h3) (by lia) (by rw [hk];exact ⟨_,I',q⟩)
theorem C1g (lo hi:Option Int) (n:Nat):(sliceBounds lo hi none n).1=((HT.sIx n 0 lo:Nat):Int)/\(sliceBounds lo hi none n).2.1=((HT.sIx n n hi:Nat):Int)/\(sliceBounds lo hi none n).2.2=1:=by
 refine ⟨?_,?_,rfl⟩
 ·cases lo with
  | none=>simp [sliceBounds,HT.sIx]
  | some i =>
   simp only [sliceBounds,HT.sIx,Option.getD_none,show (1:Int)>0 by decide,if_true];by_cases h:i<0
   ·simp only [h,if_true] <;> lia
   ·simp only [h,if_false] <;> lia
 ·cases hi with
  | none=>simp [sliceBounds,HT.sIx]
  | some i =>
   simp only [sliceBounds,HT.sIx,Option.getD_none,show (1:Int)>0 by decide,if_true];by_cases h:i<0
   ·simp only [h,if_true] <;> lia
   ·simp only [h,if_false] <;> lia
theorem B7x (its:List Value) (lo hi:Option Int):slicePick its.toArray lo hi none=((its.drop (HT.sIx its.length 0 lo)).take (HT.sIx its.length its.length hi-HT.sIx its.length 0 lo)).toArray:=by
 obtain ⟨h1,h2,h3⟩:=C1g lo hi its.toArray.size;unfold slicePick;rw [h1,h2,h3];simp only [sliceRange_one,pick_run,Z0g] <;> rfl
def rSlL (K:Frag):V->Option Int->Option Int->Hp->VK->Prop:=λx lo hi H Q=>∃a xs,x= .ref a/\SqL K H a xs/\∀p,H p=none->Q (.ref p) (upd H p (.lst (B5d xs lo hi)))
theorem A4c:SlR X (rSlL X.K):=by
 intro pins s Z H x v vl vu lo hi sl Q I rx hs pl pu h;obtain ⟨a,xs,rfl,hx,q⟩:=h;cases rx;obtain ⟨its,r,ht,hz⟩:=I.list hx;have hlen:=r.length;refine ⟨"list",_,slot_list_getitem.lookup,ht.isList.typeIs,?_⟩;refine wpAny_getItem_list_slice ht.isList hs pl pu .none (by simp) ?_ (by rw [Z0g] <;> lia);rw [B7x,<-hlen];refine ⟨.ref s.heap.objs.size,_,I.laid (t':=s.toks) (o:= .lst (B5d xs lo hi)) (λb ob q=>Z01 _ q) (Z09 _) ?_,rfl,q _ (I.hok.fresh (Z09 _))⟩;exact ⟨Z1n (C2w xs lo hi) hz,_,0,(r.drop (HT.sIx xs.length 0 lo)).take (HT.sIx xs.length xs.length hi-HT.sIx xs.length 0 lo),Z0c _ rfl⟩
def B8c:V->Bool
 | .non=>true
 | .bl _=>true
 | .int _=>true
 | .str _=>true
 | _=>false
noncomputable def eqV:V->V->Bool
 | .non,.non=>true
 | .bl a,.bl b=>a == b
 | .bl a,.int b=>(if a then 1 else 0) == b
 | .int a,.bl b=>a == (if b then 1 else 0)
 | .int a,.int b=>a == b
 | .str a,.str b=>a == b
 | _,_=>false
theorem D9x {A:Around} {x:V} {v:Value} (ry:A2u y u) (rx:A2u x v) (fy:B8c y=true) (fx:B8c x=true):SeqAt.EqAt A s u v (eqV y x):=by
 cases y with
 | non =>
  cases ry
  cases x with
  | non=>cases rx;exact SeqAt.EqAt.same _
  | bl b=>cases rx;exact SeqAt.EqAt.none_bool b
  | int b=>obtain ⟨t,rfl⟩:=rx;exact SeqAt.EqAt.none_int b t
  | str b=>obtain ⟨t,rfl⟩:=rx;exact SeqAt.EqAt.none_str b t
  | _=>exact absurd (show false=true from fx) Z0v
 | bl a =>
  cases ry
  cases x with
  | non=>cases rx;exact SeqAt.EqAt.bool_none a
  | bl b=>cases rx;exact SeqAt.EqAt.bool_bool a b
  | int b=>obtain ⟨t,rfl⟩:=rx;exact SeqAt.EqAt.bool_int a b t
  | str b=>obtain ⟨t,rfl⟩:=rx;exact SeqAt.EqAt.bool_str a b t
  | _=>exact absurd (show false=true from fx) Z0v
 | int a =>
  obtain ⟨t',rfl⟩:=ry
  cases x with
  | non=>cases rx;exact SeqAt.EqAt.int_none a t'
  | bl b=>cases rx;exact SeqAt.EqAt.int_bool a t' b
  | int b=>obtain ⟨t,rfl⟩:=rx;exact SeqAt.EqAt.int_int a t' b t
  | str b=>obtain ⟨t,rfl⟩:=rx;exact SeqAt.EqAt.int_str a t' b t
  | _=>exact absurd (show false=true from fx) Z0v
 | str a =>
  obtain ⟨t',rfl⟩:=ry
  cases x with
  | non=>cases rx;exact SeqAt.EqAt.str_none a t'
  | bl b=>cases rx;exact SeqAt.EqAt.str_bool a t' b
  | int b=>obtain ⟨t,rfl⟩:=rx;exact SeqAt.EqAt.str_int a t' b t
  | str b=>obtain ⟨t,rfl⟩:=rx;exact SeqAt.EqAt.str_str a t' b t
  | _=>exact absurd (show false=true from fx) Z0v
 | _=>exact absurd (show false=true from fy) Z0v
def eqU (x:V) (u:Value):Bool:=match u with
 | .none=>eqV .non x
 | .bool b=>eqV (.bl b) x
 | .int i _=>eqV (.int i) x
 | .str z _=>eqV (.str z) x
 | _=>false
theorem D4o {x:V} (r:A2u y u) (f:B8c y=true):eqU x u=eqV y x:=by
 cases y with
 | non=>cases r;rfl
 | bl b=>cases r;rfl
 | int i=>obtain ⟨t,rfl⟩:=r;rfl
 | str z=>obtain ⟨t,rfl⟩:=r;rfl
 | _=>exact absurd (show false=true from f) Z0v
theorem C1q {x:V}:∀{xs:List V} {us:List Value},A2r xs us->xs.all B8c=true->us.any (eqU x)=xs.any λy=>eqV y x
 | _,_,.nil,_=>rfl
 | y::xs,u::us,.cons r t,f=>by
  rw [List.all_cons,Z1x] at f;rw [List.any_cons,List.any_cons,D4o r f.1,C1q t f.2]
theorem B6n {A:Around} {s:Shared} {x:V} {v:Value} (rx:A2u x v) (fx:B8c x=true):∀{xs:List V} {us:List Value},A2r xs us->xs.all B8c=true->∀u∈us,SeqAt.EqAt A s u v (eqU x u)
 | _,_,.nil,_=>λu hu=>by cases hu
 | y::xs,u::us,.cons r t,f=>λu' hu=>by
  rw [List.all_cons,Z1x] at f;rcases Z0e.mp hu with rfl | hu
  ·rw [D4o r f.1];exact D9x r rx f.1 fx
  ·exact B6n rx fx t f.2 u' hu
def inV (x:V) (xs:List V):Bool:=xs.any λy=>eqV y x
def rIn (K:Frag) (neg:Bool):R2:=λx y H Q=>∃p xs,y= .ref p/\(SqL K H p xs\/SqT K H p xs)/\B8c x=true/\xs.all B8c=true/\Q (.bl (if neg then !inV x xs else inV x xs)) H
theorem B1q:OpR X (compareOp .NotIn) (rIn X.K true):=by
 walk_at "l";obtain ⟨p,xs,rfl,hq,fx,fs,q⟩:=h;cases ry;rcases hq with hq | hq
 ·obtain ⟨its,r,pl,hz⟩:=I.list hq;refine SeqAt.notIn_listAt (eqU x) pl.isList (λw hw=>B6n rx fx r fs w (by simpa using hw)) ⟨.bl _,H,I,rfl,?_⟩;rw [show its.toArray.any (eqU x)=its.any (eqU x) by simp,C1q r fs];exact q
 ·obtain ⟨its,r,pl,hz⟩:=I.tuple hq;refine SeqAt.notIn_tupleAt (eqU x) pl (λw hw=>B6n rx fx r fs w (by simpa using hw)) ⟨.bl _,H,I,rfl,?_⟩;rw [show its.toArray.any (eqU x)=its.any (eqU x) by simp,C1q r fs];exact q
theorem A0z:B1i X (.builtin "len") (λxs H Q=>∃p ys,xs=[.ref p]/\(SqL X.K H p ys\/SqT X.K H p ys)/\Q (.int ys.length) H):=by
 intro pins s Z H xs us Q I r h;obtain ⟨p,ys,rfl,hq,q⟩:=h;obtain ⟨u,rfl,rx⟩:=B4x r;cases rx;have hn:=C5a;rcases hq with hq | hq
 ·obtain ⟨its,r',pl,hz⟩:=I.list hq;have hlen:=r'.length;exact Calls.call_len_list pl.isList (by simp only [Z0g] <;> lia) ⟨.int ys.length,H,I.tok _,⟨s.toks+1,by rw [Z0g,hlen]⟩,q⟩
 ·obtain ⟨its,r',pl,hz⟩:=I.tuple hq;have hlen:=r'.length;exact len_tuple pl (by simp only [Z0g] <;> lia) ⟨.int ys.length,H,I.tok _,⟨s.toks+1,by rw [Z0g,hlen]⟩,q⟩
theorem A6h:B1i X (.type "list") (λxs H Q=>∃p ys,xs=[.ref p]/\(SqL X.K H p ys\/SqT X.K H p ys)/\∀l,H l=none->Q (.ref l) (upd H l (.lst ys))):=by
 intro pins s Z H xs us Q I r h;obtain ⟨p,ys,rfl,hq,q⟩:=h;obtain ⟨u,rfl,rx⟩:=B4x r;cases rx
 have fin:∀(its:List Value),A2r ys its->ys.length<=sizeLine->∀(h':Heap) (c':Nat),(∀b o',s.heap.get? b=some o'->h'.get? b=some o')->
   h'.get? s.heap.objs.size=some { cls:= .type "list",dict:=none,data:= .seq its.toArray c',slots:= #[] }->EP X pins Z Q (.ref s.heap.objs.size) { s with heap:=h' }:=λits r' hz h' c' kp e =>
  ⟨.ref s.heap.objs.size,_,I.laid (t':=s.toks) kp (Z09 _) (show A2c X.prog X.w _ h' _ (.lst ys) from ⟨hz,its,c',r',e⟩),rfl,q _ (I.hok.fresh (Z09 _))⟩
 rcases hq with hq | hq
 ·obtain ⟨its,r',pl,hz⟩:=I.list hq;have hlen:=r'.length;obtain ⟨o,ho,hc,n,hd⟩:=pl.isList;exact call_list_seq p (.inl rfl) ho hc hd (λh' c' kp e=>fin its r' hz h' c' kp e) (by simp only [Z0g] <;> lia)
 ·obtain ⟨its,r',pl,hz⟩:=I.tuple hq;have hlen:=r'.length;obtain ⟨o,ho,hc,n,hd⟩:=pl;exact call_list_seq p (.inr rfl) ho hc hd (λh' c' kp e=>fin its r' hz h' c' kp e) (by simp only [Z0g] <;> lia)
theorem A3w:B1i X (.type "tuple") (λxs H Q=>∃p ys,xs=[.ref p]/\((SqL X.K H p ys/\∀l,H l=none->Q (.ref l) (upd H l (.tup ys)))\/(SqT X.K H p ys/\Q (.ref p) H))):=by
 intro pins s Z H xs us Q I r h;obtain ⟨p,ys,rfl,h⟩:=h;obtain ⟨u,rfl,rx⟩:=B4x r;cases rx;rcases h with ⟨hq,q⟩ | ⟨hq,q⟩
 ·obtain ⟨its,r',pl,hz⟩:=I.list hq;have hlen:=r'.length;refine call_tuple_list pl.isList (λh' kp=> ?_) (by simp only [Z0g] <;> lia);have I1:Inv X pins Z H { s with heap:=h' }:=I.kept (t':=s.toks) kp
  have I2:Inv X pins Z (upd H h'.objs.size (.tup ys)) { s with heap:=h'.push { cls:= .type "tuple",data:= .seq its.toArray } } :=
   I1.laid (t':=s.toks) (λb o e=>Z01 _ e) (Z09 _) (show A2c X.prog X.w _ _ _ (.tup ys) from ⟨hz,its,r',IsTup.new _ _⟩)
  exact ⟨.ref h'.objs.size,_,I2,rfl,q _ (I1.hok.fresh (Z09 _))⟩
 ·obtain ⟨its,r',pl,hz⟩:=I.tuple hq;exact call_tuple_same pl ⟨.ref p,H,I,rfl,q⟩
def tyV (K:Frag) (T:String) (x:V) (H:Hp):Prop:=match x with
 | .str _=>T="str"
 | .int _=>T="int"
 | .ref p=>(T="list"/\∃xs,SqL K H p xs)\/(T="tuple"/\∃o,K.lookup p=some o/\o.cls= .type "tuple"/\o.dict=none)\/
   (T="dict"/\((∃kvs,H p=some (.dK kvs))\/∃kvs,H p=some (.dT kvs)))\/(T="set"/\∃S n,H p=some (.set S n))
 | _=>False
theorem D4d {T:String} {x:V} {v:Value} (I:Inv X pins Z H s) (r:A2u x v) (ty:tyV X.K T x H) :
  s.TypeIs v T/\∀a,v= .ref a->∃ob,s.heap.get? a=some ob/\ob.dict=none:=by
 cases x with
 | str z =>
  obtain ⟨t,rfl⟩:=r;cases (show T="str" from ty);exact ⟨typeIs_str s z t,λ_ e=>nomatch e⟩
 | int i =>
  obtain ⟨t,rfl⟩:=r;cases (show T="int" from ty);exact ⟨typeIs_int s i t,λ_ e=>nomatch e⟩
 | ref p =>
  cases r
  rcases ty with ⟨rfl,xs,hq⟩ | ⟨rfl,o,hk,hc,hd⟩ | ⟨rfl,hk⟩ | ⟨rfl,S,n,hk⟩
  ·obtain ⟨its,_,pl,_⟩:=I.list hq;refine ⟨pl.isList.typeIs,λa e=> ?_⟩;cases e;obtain ⟨o,n,e,c,hd,_⟩:=pl;exact ⟨o,e,hd⟩
  ·refine ⟨⟨o,I.kIn p o hk,hc⟩,λa e=> ?_⟩;cases e;exact ⟨o,I.kIn _ o hk,hd⟩
  ·have z:∃o,s.heap.get? p=some o/\o.ExactDict:=by
    rcases hk with ⟨kvs,hk⟩ | ⟨kvs,hk⟩
    ·obtain ⟨_,_,_,_,o,_,_,e,ex,_⟩:=I.hok p _ hk;exact ⟨o,e,ex⟩
    ·obtain ⟨_,_,_,_,o,_,_,e,ex,_⟩:=I.hok p _ hk;exact ⟨o,e,ex⟩
   obtain ⟨o,e,ex⟩:=z;refine ⟨⟨o,e,ex.1⟩,λa e2=> ?_⟩;cases e2;exact ⟨o,e,ex.2.1⟩
  ·obtain ⟨o,_,_,_,e,ex,_⟩:=I.hok p _ hk;refine ⟨⟨o,e,ex.1⟩,λa e2=> ?_⟩;cases e2;exact ⟨o,e,ex.2.1⟩
 | _=>exact False.elim ty
def tBM0 (K:Frag) (T:String) (r:V->List V->Hp->VK->Prop) (to:TE):TE:=λZ H Q=>to Z H λx H1=>tyV K T x H1/\r x [] H1 Q
def tBM (K:Frag) (T:String) (r:V->List V->Hp->VK->Prop) (to:TE) (t:TA):TE:=λZ H Q=>to Z H λx H1=>tyV K T x H1/\t Z H1 λxs H2=>r x xs H2 Q
variable {o e:Expr} {es:List Expr} {to:TE} {t:TA} {name:Str} {apos cpos:Pos} {T id:String} {r:V->List V->Hp->VK->Prop}
theorem B6d (pa:PlainAttrs T) (slot:Slot T name id) (hty:typeOf (.builtin id)=pure (.type "method_descriptor")) (hm:MtR X id r) (ho:PE X o to)
  (hbase:attributeBase o name X.env (eval o X.env)=eval o X.env:=by rfl) (hline:(apos.endLine == cpos.line)=true:=by rfl):PE X (.Call (.Attribute o name apos) [] [] cpos) (tBM0 X.K T r to):=by
 intro pins s Z H Q I h;refine wpAny_Call_method0_late hbase hline (thn (ho pins s Z H _ I h) ?_);rintro v s1 ⟨x,H1,I1,r1,ty,q1⟩;obtain ⟨h1,h2⟩:=D4d I1 r1 ty;exact ⟨T,id,pa,slot,hty,h1,h2,Calls.callWith_builtin rfl (PySem.evalArgs_none (hm pins s1 Z H1 x [] v [] Q I1 r1 .nil q1))⟩
theorem B0a (pa:PlainAttrs T) (slot:Slot T name id) (hty:typeOf (.builtin id)=pure (.type "method_descriptor")) (hm:MtR X id r) (ho:PE X o to) (ha:PA X (e::es) t)
  (hbase:attributeBase o name X.env (eval o X.env)=eval o X.env:=by rfl)
  (hfew:((backTo cpos (starEach (e::es) X.env)).all (λx=> !x.1)&&(backToKw cpos (keywordEach [] X.env)).all (λx=>x.1.isSome)
   && decide ((e::es).length+([]:List Keyword).length+(if ([]:List Keyword).isEmpty then 0 else 1)<30))=true:=by rfl)
  (hline:(apos.endLine == cpos.line)=true:=by rfl) (hs:starEach (e::es) X.env=(false,eval e X.env)::starEach es X.env:=by rfl) (hplain:(backTo cpos (starEach es X.env)).any (·.1)=false:=by rfl) :
  PE X (.Call (.Attribute o name apos) (e::es) [] cpos) (tBM X.K T r to t):=by
 intro pins s Z H Q I h;refine wpAny_Call_method_late hbase hfew hline rfl (thn (ho pins s Z H _ I h) ?_);rintro v s1 ⟨x,H1,I1,r1,ty,q1⟩;obtain ⟨h1,h2⟩:=D4d I1 r1 ty;refine ⟨T,id,pa,slot,hty,h1,h2,?_⟩;have hA:=ha cpos pins s1 Z H1 _ I1 q1;rw [hs] at hA⊢;refine Calls.callWith_builtin (by show (false||(backTo cpos (starEach es X.env)).any (·.1))=false;rw [hplain] <;> rfl) (Calls.evalArgs_plain ?_);exact thn hA (by rintro us s2 ⟨vs,H2,I2,r2,q2⟩;exact hm pins s2 Z H2 x vs v us Q I2 r1 r2 q2)
end
def MtM (X:Cx) (id:String) (r:V->List V->Hp->VK->Prop):Prop :=
 ∀(pins:List (Addr×Obj)) (s:Shared) (Z:St) (H:Hp) (x:V) (xs:List V) (v:Value) (us:List Value) (Q:VK),Inv X pins Z H s->A2u x v->A2r xs us->r x xs H Q->
  wpAny (model X.prog X.w) X.A (call (.builtin id) (v::us)) (EP X pins Z Q) X.xe s
theorem A2r.one:∀{x:V} {us:List Value},A2r [x] us->∃u,us=[u]/\A2u x u
 | _,_,.cons r .nil=>⟨_,rfl,r⟩
theorem A2r.zero:∀{us:List Value},A2r [] us->us=[]
 | _,.nil=>rfl
theorem A2r.dropLast {xs:List V} (h:A2r xs us):A2r xs.dropLast us.dropLast:=by
 induction h with
 | nil=>exact .nil
 | cons r t ih =>
  cases t with
  | nil=>exact .nil
  | cons q t'=>exact .cons r ih
theorem A2r.eraseIdx:∀{xs:List V} {us:List Value} (i:Nat),A2r xs us->A2r (xs.eraseIdx i) (us.eraseIdx i)
 | _,_,_,.nil=> .nil
 | _,_,0,.cons _ t=>t
 | _,_,i+1,.cons r t=> .cons r (A2r.eraseIdx i t)
theorem A2r.reverse {xs:List V} (h:A2r xs us):A2r xs.reverse us.reverse:=by
 induction h with
 | nil=>exact .nil
 | cons r t ih=>rw [List.reverse_cons,List.reverse_cons];exact A2r.append ih (.cons r .nil)
theorem C6s {α:Type} (l:List α):l.eraseIdx (l.length-1)=l.dropLast:=by
 induction l with
 | nil=>rfl
 | cons a r ih =>
  cases r with
  | nil=>rfl
  | cons b r =>
   have e:(a::b::r).length-1=((b::r).length-1)+1:=by
    have h1:(a::b::r).length=r.length+2:=rfl;have h2:(b::r).length=r.length+1:=rfl
    lia
   rw [e,List.eraseIdx_cons_succ,ih]
   all_goals rfl
theorem C0d {α:Type}:∀(l:List α) (i:Nat),(l.eraseIdx i).length<=l.length
 | [],_=>Z09 _
 | _::_,0=>Nat.le_succ _
 | _::r,i+1=>Nat.succ_le_succ (C0d r i)
section
variable {X:Cx} {pins:List (Addr×Obj)} {Z:St} {H:Hp} {s:Shared} {l b:Addr} {xs ys zs:List V}
theorem Inv.lset (I:Inv X pins Z H s) (hH:H l=some (.lst xs))
  (e:s.heap.get? l=some { cls:= .type "list",data:= .seq its.toArray n }) (hf:f its.toArray=its'.toArray) (hv:A2r ys its') (hz:ys.length<=sizeLine) :
  Inv X pins Z (upd H l (.lst ys)) { s with heap:=s.heap.update l (Obj.mapSeq f),toks:=t' }:=by
 have q:=PySem.IsL.update e f;rw [hf] at q;refine I.write (x:=l) (e:=l) (by rw [hH];exact trivial) (.inl rfl) (λb' u hb hu=>(Z1d s.heap (Obj.mapSeq f) (Ne.symm hb)).trans hu) ⟨_,q⟩ ?_;exact ⟨hz,its',_,hv,q⟩
theorem Inv.lnew (I:Inv X pins Z H s) (hv:A2r ys its) (hz:ys.length<=sizeLine) :
  Inv X pins Z (upd H s.heap.objs.size (.lst ys)) { s with heap:=s.heap.push { cls:= .type "list",data:= .seq its.toArray },toks:=t' } :=
 I.laid (λ_ _ q=>Z01 _ q) (Z09 _) ⟨hz,its,0,hv,Z0c _ rfl⟩
theorem Inv.fresh (I:Inv X pins Z H s):H s.heap.objs.size=none:=I.hok.fresh (Z09 _)
theorem Inv.lstM (I:Inv X pins Z H s) (hH:H l=some (.lst xs)):xs.length<=sizeLine/\∃(its:List Value) (n:Nat),A2r xs its/\xs.length=its.length/\s.heap.get? l=some { cls:= .type "list",data:= .seq its.toArray n }:=by
 obtain ⟨z,its,n,r,e⟩:=I.hok l _ hH;exact ⟨z,its,n,r,r.length,e⟩
theorem D2r (h:n<=sizeLine):Builtin.List.listTooLong n=false:=by
 unfold Builtin.List.listTooLong;exact Z1j (by lia)
end
section
variable {X:Cx}
def C1y:V->List V->Hp->VK->Prop:=λx vs H Q=>∃l xs y,x= .ref l/\vs=[y]/\H l=some (.lst xs)/\xs.length<sizeLine/\Q .non (upd H l (.lst (xs++[y])))
theorem A3h:MtM X "list.append" C1y:=by
 intro pins s Z H x vs v us Q I rx rv h;obtain ⟨l,xs,y,rfl,rfl,hH,hz,q⟩:=h;cases rx;obtain ⟨u,rfl,ru⟩:=rv.one;obtain ⟨z,its,n,r,hl,e⟩:=I.lstM hH;refine call_meets F.slot_list_append ⟨_,e,rfl⟩ F.entry_list_append (F.args_list_append_2 _ _) (PySem.list_append l its.toArray n u (by rw [Z0g];lia)) ⟨e,?_⟩;refine ⟨.non,_,I.lset (its':=its++[u]) hH e (by simp) (r.append (.cons ru .nil)) ?_,rfl,q⟩;rw [Z06,Z0j]
 lia
def D6s:V->List V->Hp->VK->Prop:=λx vs H Q=>∃l b xs zs,x= .ref l/\vs=[.ref b]/\H l=some (.lst xs)/\H b=some (.lst zs)/\xs.length+zs.length<=sizeLine/\Q .non (upd H l (.lst (xs++zs)))
theorem B0g:MtM X "list.extend" D6s:=by
 intro pins s Z H x vs v us Q I rx rv h;obtain ⟨l,b,xs,zs,rfl,rfl,hH,hB,hz,q⟩:=h;cases rx;obtain ⟨u,rfl,ru⟩:=rv.one;cases ru;obtain ⟨z,its,n,r,hl,e⟩:=I.lstM hH;obtain ⟨z2,its2,n2,r2,hl2,e2⟩:=I.lstM hB;have hsz:its.toArray.size+its2.toArray.size<=sizeLine:=by rw [Z0g,Z0g];lia
 have hlong:¬(!its.toArray.isEmpty&&Builtin.List.listTooLong (its.toArray.size+its2.toArray.size))=true:=by
  rw [D2r hsz,Bool.and_false];exact Z0v
 refine call_meets F.slot_list_extend ⟨_,e,rfl⟩ F.entry_list_extend (F.args_list_extend_2 _ _)
  (AutoSeq1.list_extend_list_list_0 l its.toArray n b its2.toArray n2 hlong (by rw [Z0g];lia) (by lia)) ⟨e,e2,?_⟩
 refine ⟨.non,_,I.lset (its':=its++its2) hH e (by simp) (r.append r2) ?_,rfl,q⟩;rw [Z06]
 lia
def rPop:V->List V->Hp->VK->Prop:=λx vs H Q=>∃l xs y,x= .ref l/\vs=[]/\H l=some (.lst xs)/\xs[xs.length-1]? =some y/\Q y (upd H l (.lst xs.dropLast))
theorem D8r:MtM X "list.pop" rPop:=by
 intro pins s Z H x vs v us Q I rx rv h;obtain ⟨l,xs,y,rfl,rfl,hH,hy,q⟩:=h;cases rx;have hus:=rv.zero;subst hus;obtain ⟨z,its,n,r,hl,e⟩:=I.lstM hH;obtain ⟨u,hu,ru⟩:=r.get hy
 have hy':its.toArray[its.toArray.size-1]? =some u:=by
  show its.toArray[its.length-1]? =some u;rw [<-Array.getElem?_toList,<-hl];exact hu
 refine call_meets F.slot_list_pop ⟨_,e,rfl⟩ F.entry_list_pop (F.args_list_pop_1 _) (MeetsSeq.list_pop_last l its.toArray n u hy' (by rw [Z0g];lia)) ⟨e,?_⟩;refine ⟨y,_,I.lset (its':=its.dropLast) hH e ?_ r.dropLast ?_,ru,q⟩
 ·show its.toArray.eraseIdxIfInBounds (its.toArray.size-1)=its.dropLast.toArray;rw [Z0g,List.eraseIdxIfInBounds_toArray,C6s]
 ·rw [List.length_dropLast]
  lia
def E1b:V->List V->Hp->VK->Prop:=λx vs H Q=>∃l xs i k y,x= .ref l/\vs=[.int i]/\H l=some (.lst xs)/\-(2^63)<=i/\i<2^63/\seqIndex? i xs.length=some k/\xs[k]? =some y/\Q y (upd H l (.lst (xs.eraseIdx k)))
theorem D3j:MtM X "list.pop" E1b:=by
 intro pins s Z H x vs v us Q I rx rv h;obtain ⟨l,xs,i,k,y,rfl,rfl,hH,h1,h2,hk,hy,q⟩:=h;cases rx;obtain ⟨u,rfl,ru⟩:=rv.one;obtain ⟨t,rfl⟩:=ru;obtain ⟨z,its,n,r,hl,e⟩:=I.lstM hH;obtain ⟨w,hw,rw'⟩:=r.get hy
 refine call_meets F.slot_list_pop ⟨_,e,rfl⟩ F.entry_list_pop (F.args_list_pop_2 _ _)
  (MeetsSeq.list_pop_at l its.toArray n i t k w (fitsIndex_both h1 h2) (by rw [Z0g,<-hl];exact hk) (by rw [<-Array.getElem?_toList];exact hw) (by rw [Z0g];lia)) ⟨e,?_⟩
 refine ⟨y,_,I.lset (its':=its.eraseIdx k) hH e ?_ (r.eraseIdx k) ?_,rw',q⟩
 ·show its.toArray.eraseIdxIfInBounds k=(its.eraseIdx k).toArray;rw [List.eraseIdxIfInBounds_toArray]
 ·have:=C0d xs k
  lia
def D2u:V->List V->Hp->VK->Prop:=λx vs H Q=>∃l xs,x= .ref l/\vs=[]/\H l=some (.lst xs)/\Q .non (upd H l (.lst xs.reverse))
theorem B5o:MtM X "list.reverse" D2u:=by
 intro pins s Z H x vs v us Q I rx rv h;obtain ⟨l,xs,rfl,rfl,hH,q⟩:=h;cases rx;have hus:=rv.zero;subst hus;obtain ⟨z,its,n,r,hl,e⟩:=I.lstM hH;refine call_meets F.slot_list_reverse ⟨_,e,rfl⟩ F.entry_list_reverse (F.args_list_reverse_1 _) (AutoSeq1.list_reverse_list_0 l its.toArray n (by rw [Z0g];lia)) ⟨e,?_⟩;refine ⟨.non,_,I.lset (its':=its.reverse) hH e (by simp) r.reverse ?_,rfl,q⟩;rw [List.length_reverse]
 lia
def E2y:R2:=λx y H Q=>∃l b xs zs,x= .ref l/\y= .ref b/\H l=some (.lst xs)/\H b=some (.lst zs)/\xs.length+zs.length<=sizeLine/\∀p,H p=none->Q (.ref p) (upd H p (.lst (xs++zs)))
theorem A8k:OpR X (binaryOp .Add) E2y:=by
 walk_at "l";obtain ⟨l,b,xs,zs,rfl,rfl,hH,hB,hz,q⟩:=h;cases rx;cases ry;obtain ⟨z,its,n,r,hl,e⟩:=I.lstM hH;obtain ⟨z2,its2,n2,r2,hl2,e2⟩:=I.lstM hB;refine PySem.P.add_list e e2 ?_ (by rw [Z0g,Z0g];lia);have ea:its.toArray++its2.toArray=(its++its2).toArray:=by simp
 rw [ea];exact ⟨.ref _,_,I.lnew (t':=s.toks) (r.append r2) (by rw [Z06];lia),rfl,q _ I.fresh⟩
end
section
variable {prog:Program} {w:World} {A:Around} {E:Value->Shared->Prop} {s:Shared}
set_option maxRecDepth 100000 in
end
section
variable {X:Cx}
end
section
variable {κ:Type} [DecidableEq κ]
def A1y (kvs:List (κ×V)) (k:κ):Option V:=(kvs.find? λkv=>decide (kv.1=k)).map (·.2)
def A3v (kvs:List (κ×V)) (k:κ) (v:V):List (κ×V) :=
 if (kvs.any λkv=>decide (kv.1=k))=true then kvs.map (λkv=>if kv.1=k then (kv.1,v) else kv) else kvs++[(k,v)]
theorem A2l {p:κ×V} {r:List (κ×V)} {k:κ} (e:p.1=k):A1y (p::r) k=some p.2:=by simp [A1y,Z2h,e]
theorem A2g {p:κ×V} {r:List (κ×V)} {k:κ} (e:¬p.1=k):A1y (p::r) k=A1y r k:=by simp [A1y,Z2h,e]
theorem A4b (k:κ):∀kvs:List (κ×V),(kvs.any λkv=>decide (kv.1=k))=(A1y kvs k).isSome
 | []=>rfl
 | p::r=>by
  rw [List.any_cons];by_cases e:p.1=k
  ·simp only [A2l e,Z20 e,Bool.true_or,Option.isSome_some]
  ·rw [A2g e,Z1j e,Bool.false_or];exact A4b k r
theorem C4u (k j:κ) (y:V):∀kvs:List (κ×V),A1y (kvs.map λkv=>if kv.1=k then (kv.1,y) else kv) j=(A1y kvs j).map λx=>if j=k then y else x
 | []=>rfl
 | p::r=>by
  have ih:=C4u k j y r;rw [Z0p];by_cases h:p.1=k
  ·rw [Z12 h];by_cases e:p.1=j
   ·rw [A2l (p:=(p.1,y)) e,A2l e,Option.map_some,Z12 (e.symm.trans h)]
   ·rw [A2g (p:=(p.1,y)) e,A2g e,ih]
  ·rw [Z0t h];by_cases e:p.1=j
   ·rw [A2l (p:=p) e,A2l e,Option.map_some,Z0t (λz=>h (e.trans z))]
   ·rw [A2g (p:=p) e,A2g e,ih]
theorem B4h (k j:κ) (y:V):∀kvs:List (κ×V),A1y kvs k=none->A1y (kvs++[(k,y)]) j=if j=k then some y else A1y kvs j
 | [],_=>by
  by_cases e:k=j
  ·rw [Z12 e.symm];exact A2l (p:=(k,y)) e
  ·rw [Z0t (λz=>e z.symm)];exact A2g (p:=(k,y)) e
 | p::r,hn=>by
  rw [List.cons_append];have hk:¬p.1=k:=λz=>by rw [A2l z] at hn;cases hn
  rw [A2g hk] at hn;have ih:=B4h k j y r hn;by_cases e:p.1=j
  ·rw [A2l e,A2l e,Z0t (λz=>hk (e.trans z))]
  ·rw [A2g e,A2g e,ih]
theorem A7q (kvs:List (κ×V)) (k j:κ) (y:V):A1y (A3v kvs k y) j=if j=k then some y else A1y kvs j:=by
 unfold A3v;by_cases a:(kvs.any λkv=>decide (kv.1=k))=true
 ·rw [Z12 a,C4u];rw [A4b] at a;by_cases e:j=k
  ·obtain ⟨x,hx⟩:=Option.isSome_iff_exists.mp a;rw [Z12 e,e,hx,Option.map_some,Z12 rfl]
  ·rw [Z0t e]
   cases A1y kvs j with
   | none=>rfl
   | some x=>rw [Option.map_some,Z0t e]
 ·rw [Z0t a];refine B4h k j y kvs ?_;rw [A4b] at a
  cases q:A1y kvs k with
  | none=>rfl
  | some x=>rw [q] at a;exact (a rfl).elim
theorem A3t (kvs:List (κ×V)) (k:κ) (v:V):(A3v kvs k v).length<=kvs.length+1:=by
 unfold A3v;split
 ·rw [Z08];lia
 ·rw [Z06,Z0y,Z2g];lia
theorem A6i {kvs:List (κ×V)} {k:κ} (v:V) (h:A1y kvs k=none):A3v kvs k v=kvs++[(k,v)]:=by
 unfold A3v;rw [A4b,h];exact Z0t (by decide)
theorem B4k.isSome_eq {u:Option Value} (r:B4k o u):o.isSome=u.isSome:=by
 cases o with
 | none=>cases u with
  | none=>rfl
  | some _=>exact (show False from r).elim
 | some _=>cases u with
  | none=>exact (show False from r).elim
  | some _=>rfl
theorem B4k.getD {u:Option Value} {d:V} {d':Value} (r:B4k o u) (rd:A2u d d'):A2u (o.getD d) (u.getD d'):=by
 cases o with
 | none=>cases u with
  | none=>exact rd
  | some _=>exact (show False from r).elim
 | some _=>cases u with
  | none=>exact (show False from r).elim
  | some _=>exact r
theorem KV.val {kvs:List (κ×V)} {vs:List (κ×Value)} (r:KV kvs vs) (k:κ):B4k (A1y kvs k) (valueAt vs k):=by
 unfold KV at r
 induction r with
 | nil=>exact True.intro
 | @cons p q ps qs h t ih =>
  obtain ⟨h1,h2⟩:=h;by_cases e:p.1=k
  ·have e':q.1=k:=h1.symm.trans e;have b:valueAt (q::qs) k=some q.2:=by simp [valueAt,Z2h,e']
   rw [A2l e,b];exact h2
  ·have e':¬q.1=k:=λz=>e (h1.trans z);have b:valueAt (q::qs) k=valueAt qs k:=by simp [valueAt,Z2h,e']
   rw [A2g e,b];exact ih
theorem KV.any {kvs:List (κ×V)} {vs:List (κ×Value)} (r:KV kvs vs) (k:κ):(kvs.any λkv=>decide (kv.1=k))=vs.any λkv=>decide (kv.1=k):=by
 unfold KV at r
 induction r with
 | nil=>rfl
 | cons h t ih=>rw [List.any_cons,List.any_cons,ih,h.1]
theorem KV.repl {kvs:List (κ×V)} {vs:List (κ×Value)} (r:KV kvs vs) (k:κ) (ry:A2u y u) :
  KV (kvs.map λkv=>if kv.1=k then (kv.1,y) else kv) (vs.map λkv=>if kv.1=k then (kv.1,u) else kv):=by
 unfold KV at r⊢
 induction r with
 | nil=>exact .nil
 | @cons p q ps qs h t ih =>
  rw [Z0p,Z0p];refine .cons ?_ ih;obtain ⟨h1,h2⟩:=h;by_cases e:p.1=k
  ·rw [Z12 e,Z12 (h1.symm.trans e)];exact ⟨h1,ry⟩
  ·rw [Z0t e,Z0t (λz=>e (h1.trans z))];exact ⟨h1,h2⟩
theorem KV.put {kvs:List (κ×V)} {vs:List (κ×Value)} (r:KV kvs vs) (k:κ) (ry:A2u y u):KV (A3v kvs k y) (stored vs k u):=by
 unfold A3v stored;rw [r.any k];by_cases e:(vs.any λkv=>decide (kv.1=k))=true
 ·rw [Z12 e,Z12 e];exact r.repl k ry
 ·rw [Z0t e,Z0t e];exact Paired.snoc r ⟨rfl,ry⟩
theorem KV.length {kvs:List (κ×V)} {vs:List (κ×Value)} (r:KV kvs vs):kvs.length=vs.length:=Paired.length r
end
theorem C1n {k:Key} (r:A2u (kV k) u):(A1p P w).is k u=true:=by
 cases k with
 | inl i=>obtain ⟨t,e⟩:=(show∃t,u=Value.int i t from r);subst e;exact C3a P w i t
 | inr x=>obtain ⟨t,e⟩:=(show∃t,u=Value.str x t from r);subst e;exact C2v P w x t
theorem C0b {P:Program} {w:World}:∀{ks:List Key} {us:List Value},A2r (ks.map kV) us->ItemsAre (A1p P w) ks us
 | [],_,r=>by rw [List.map_nil] at r;cases r;exact .nil
 | k::ks,_,r=>by
  rw [Z0p] at r
  cases r with
  | cons h t=>exact .cons (C1n h) (C0b t)
abbrev KT (H:Hp):List (List Key×V)->List (List Key×Addr×Value)->Prop:=Paired λp q=>p.1=q.1/\H q.2.1=some (.tup (p.1.map kV))/\A2u p.2 q.2.2
theorem KT.val (r:KT H kvs xs) (k:List Key):B4k (A1y kvs k) ((atKey xs k).map (·.2)):=by
 induction r with
 | nil=>exact True.intro
 | @cons p q ps qs h t ih =>
  obtain ⟨h1,_,h2⟩:=h;by_cases e:p.1=k
  ·have e':q.1=k:=h1.symm.trans e;have b:atKey (q::qs) k=some q.2:=by simp [atKey,Z2h,e']
   rw [A2l e,b];exact h2
  ·have e':¬q.1=k:=λz=>e (h1.trans z);have b:atKey (q::qs) k=atKey qs k:=by simp [atKey,Z2h,e']
   rw [A2g e,b];exact ih
theorem KT.repl (r:KT H kvs xs) (k:List Key) (ry:A2u y u) :
  KT H (kvs.map λkv=>if kv.1=k then (kv.1,y) else kv) (xs.map (putAt k u)):=by
 induction r with
 | nil=>exact .nil
 | @cons p q ps qs h t ih =>
  rw [Z0p,Z0p];refine .cons ?_ ih;obtain ⟨h1,h2,h3⟩:=h;unfold putAt;by_cases e:p.1=k
  ·rw [Z12 e,Z12 (h1.symm.trans e)];exact ⟨h1,h2,ry⟩
  ·rw [Z0t e,Z0t (λz=>e (h1.trans z))];exact ⟨h1,h2,h3⟩
theorem KT.put (r:KT H kvs xs) (k:List Key) {b:Addr} (hb:H b=some (.tup (k.map kV))) (ry:A2u y u) :
  KT H (A3v kvs k y) (storedH xs k b u):=by
 have e:(kvs.any λkv=>decide (kv.1=k))=(atKey xs k).isSome:=by
  rw [A4b,(r.val k).isSome_eq,Option.isSome_map]
 unfold A3v storedH;rw [e];by_cases q:(atKey xs k).isSome=true
 ·rw [Z12 q,Z12 q];exact r.repl k ry
 ·rw [Z0t q,Z0t q];exact Paired.snoc r ⟨rfl,hb,ry⟩
theorem KT.keeps {H':Hp} (r:KT H kvs xs) (ht:∀b ys,H b=some (.tup ys)->H' b=some (.tup ys)):KT H' kvs xs :=
 Paired.mapP r λ_ _ z=>⟨z.1,ht _ _ z.2.1,z.2.2⟩
section
variable {P:Program} {w:World} {H:Hp} {h:Heap} {a:Addr}
theorem E1i {u:HO} (ok:HOk P w H h) (e:Rd H a u):A2c P w H h a u:=e.ok ok
theorem C8b {kvs:List (Key×V)} (ok:HOk P w H h) (e:Rd H a (.dK kvs)):kvs.length<=sizeLine/\(a == sysModules)=false/\∃vs,KV kvs vs/\h.DictOf (A1p P w) a vs :=
 show A2c P w H h a (.dK kvs) from E1i ok e
theorem C8a {kvs:List (Key×V)} (ok:HOk P w H h) (e:H a=some (.dK kvs)):kvs.length<=sizeLine/\(a == sysModules)=false/\∃vs,KV kvs vs/\h.DictOf (A1p P w) a vs:=C8b ok (.inl e)
theorem C1j {ks:List Key} (ok:HOk P w H h) (e:H a=some (.tup (ks.map kV))):(tupleKind (A1p P w)).is h ks a:=by
 obtain ⟨_,its,r,o,h1,h2,n,h3⟩:=(show A2c P w H h a (.tup (ks.map kV)) from ok a _ e);exact ⟨o,its.toArray,n,h1,h2,h3,by simpa using C0b r⟩
theorem D2s (ok:HOk P w H h) (e:Rd H a (.dT kvs)):kvs.length<=sizeLine/\(a == sysModules)=false/\
  ∃xs,KT H kvs xs/\h.DictOfH (tupleKind (A1p P w)) a xs:=by
 obtain ⟨z,y,xs,r,o,es,ep,h1,h2,h3,h4,h5⟩:=(show A2c P w H h a (.dT kvs) from E1i ok e);refine ⟨z,y,xs,r,o,es,ep,h1,h2,h3,h4,λx hx=> ?_,h5⟩
 have all:∀{l:List (List Key×V)} {m:List (List Key×Addr×Value)},KT H l m->∀x∈m,(tupleKind (A1p P w)).is h x.1 x.2.1:=by
  intro l m q
  induction q with
  | nil=>intro x hx;exact nomatch hx
  | @cons p q ps qs hq t ih =>
   intro x hx;rcases Z0e.mp hx with e | hx
   ·subst e;exact C1j ok (by rw [<-hq.1];exact hq.2.1)
   ·exact ih x hx
 exact all r x hx
theorem E2r (ok:HOk P w H h) (e:H a=some (.dT kvs)):kvs.length<=sizeLine/\(a == sysModules)=false/\
  ∃xs,KT H kvs xs/\h.DictOfH (tupleKind (A1p P w)) a xs:=D2s ok (.inl e)
end
def A9r (H:Hp) (a:Addr) (y:V) (r:Option V):Prop :=
 (∃kvs k,Rd H a (.dK kvs)/\y=kV k/\r=A1y kvs k)\/∃kvs k b,Rd H a (.dT kvs)/\y= .ref b/\H b=some (.tup (k.map kV))/\r=A1y kvs k
def B6b (H:Hp) (a:Addr) (y v:V) (H':Hp):Prop :=
 (∃kvs k,H a=some (.dK kvs)/\y=kV k/\kvs.length<sizeLine/\H'=upd H a (.dK (A3v kvs k v)))\/
 ∃kvs k b,H a=some (.dT kvs)/\y= .ref b/\H b=some (.tup (k.map kV))/\kvs.length<sizeLine/\H'=upd H a (.dT (A3v kvs k v))
theorem A9r.k {kvs:List (Key×V)} {k:Key} (e:H a=some (.dK kvs)):A9r H a (kV k) (A1y kvs k):= .inl ⟨kvs,k,.inl e,rfl,rfl⟩
theorem B6b.k {kvs:List (Key×V)} {k:Key} {v:V} (e:H a=some (.dK kvs)) (hl:kvs.length<sizeLine):B6b H a (kV k) v (upd H a (.dK (A3v kvs k v))):= .inl ⟨kvs,k,e,rfl,hl,rfl⟩
theorem B6b.t {b:Addr} {k:List Key} {v:V} (e:H a=some (.dT kvs)) (eb:H b=some (.tup (k.map kV))) (hl:kvs.length<sizeLine) :
  B6b H a (.ref b) v (upd H a (.dT (A3v kvs k v))):= .inr ⟨kvs,k,b,e,rfl,eb,hl,rfl⟩
section
variable {X:Cx} {pins:List (Addr×Obj)} {Z:St} {H:Hp} {s:Shared} {a:Addr} {y v:V} {u r:Value} {o:Option V} {A:Around} {E:Value->Shared->Prop}
theorem Inv.big (I:Inv X pins Z H s):sysModules<s.heap.objs.size:=by
 have h:mainGlobals<s.heap.objs.size:=(I.mod.glob.keeps I.bk).lt;exact Nat.lt_trans (by decide) h
theorem C9o (hu:A.units+1<cLine) (I:Inv X pins Z H s) (g:A9r H a y (some v)) (ry:A2u y u) (h:∀w' s',Inv X pins Z H s'->A2u v w'->Q w' s') :
  wpAny (model X.prog X.w) A (getItem (.ref a) u) Q E s:=by
 rcases g with ⟨kvs,k,e,ey,l⟩ | ⟨kvs,k,b,e,ey,eb,l⟩
 ·subst ey;obtain ⟨z,hd,vs,rel,dd⟩:=C8b I.hok e;obtain ⟨w',hw,rw'⟩:=B4k.some_of (v:=v) (o:=valueAt vs k) (by rw [l];exact rel.val k);exact wpAny_getItem_of (C1n ry) dd.mapOf hw (h w' _ (I.tok _) rw')
 ·subst ey;cases (show u=Value.ref b from ry);obtain ⟨z,hd,xs,rel,dd⟩:=D2s I.hok e;obtain ⟨w',hw,rw'⟩:=B4k.some_of (v:=v) (o:=(atKey xs k).map (·.2)) (by rw [l];exact rel.val k);obtain ⟨p,hp,hp2⟩:=Z0i.mp hw;refine wpAny_getItem_heap (tupleKind_room_in1 hu) (C1j I.hok eb) dd hp ?_;rw [hp2];exact h w' _ (I.tok _) rw'
theorem D6b (hu:A.units+1<cLine) (I:Inv X pins Z H s) (g:A9r H a y o) (ry:A2u y u) (h:∀s',Inv X pins Z H s'->Q (.bool (!o.isSome)) s') :
  wpAny (model X.prog X.w) A (compareOp .NotIn u (.ref a)) Q E s:=by
 rcases g with ⟨kvs,k,e,ey,l⟩ | ⟨kvs,k,b,e,ey,eb,l⟩
 ·subst ey;obtain ⟨z,hd,vs,rel,dd⟩:=C8b I.hok e;refine wpAny_notIn_of (C1n ry) hd dd.mapOf ?_;rw [<-(rel.val k).isSome_eq,<-l];exact h _ (I.tok _)
 ·subst ey;cases (show u=Value.ref b from ry);obtain ⟨z,hd,xs,rel,dd⟩:=D2s I.hok e;refine wpAny_notIn_heap (tupleKind_room_in1 hu) (C1j I.hok eb) hd dd ?_;have q:=(rel.val k).isSome_eq;rw [Option.isSome_map] at q;rw [<-q,<-l];exact h _ (I.tok _)
theorem B6x {h':Heap} {ob:HO} (I:Inv X pins Z H s) (mu:Mut (H a)) (hs:Heap.SameBut a s.heap h') (he:∃q,h'.get? a=some q) (new:A2c X.prog X.w (upd H a ob) h' a ob) :
  Inv X pins Z (upd H a ob) { s with heap:=h',toks:=t' } :=
 I.write (x:=a) (e:=a) mu (.inl rfl) (λb q hb z=>(hs.2 b hb).trans z) he new
theorem D4e {H':Hp} {h':Heap} {kvs:List (Key×V)} {vs:List (Key×Value)} (z:kvs.length<=sizeLine) (hd:(a == sysModules)=false) (rel:KV kvs vs) (dd:h'.DictOf (A1p P w) a vs) :
  A2c P w H' h' a (.dK kvs):=⟨z,hd,vs,rel,dd⟩
theorem C9b {H':Hp} {Q:Unit->Shared->Prop} (hu:A.units+1<cLine) (I:Inv X pins Z H s) (g:B6b H a y v H') (ry:A2u y u) (rv:A2u v r) (h:∀s',Inv X pins Z H' s'->Q () s') :
  wpAny (model X.prog X.w) A (setItem (.ref a) u r) Q E s:=by
 rcases g with ⟨kvs,k,e,ey,l,eH⟩ | ⟨kvs,k,b,e,ey,eb,l,eH⟩
 ·subst ey eH;obtain ⟨z,hd,vs,rel,dd⟩:=C8a I.hok e;have hz:vs.length<=sizeLine:=by rw [<-rel.length];exact z
  have hl:(A3v kvs k v).length<=sizeLine:=by have:=A3t kvs k v;lia
  refine wpAny_setItem_pairs (hsz:=hz) (C1n ry) dd λh' dd' hs=>h _ ?_;have he:∃q,h'.get? a=some q:=let ⟨q,_,_,hq,_⟩:=dd';⟨q,hq⟩;exact B6x I (by rw [e];exact True.intro) hs he (D4e hl hd (rel.put k rv) dd')
 ·subst ey eH;cases (show u=Value.ref b from ry);obtain ⟨z,hd,xs,rel,dd⟩:=E2r I.hok e;have hz:xs.length<=sizeLine:=by rw [<-Paired.length rel];exact z
  have hl:(A3v kvs k v).length<=sizeLine:=by have:=A3t kvs k v;lia
  refine wpAny_setItem_heap (hsz:=hz) (tupleKind_room_in1 hu) (C1j I.hok eb) dd λh' dd' hs=>h _ ?_;obtain ⟨q,es,ep,hq,h2,h3,h4,_,h5⟩:=dd';refine B6x I (by rw [e];exact True.intro) hs ⟨q,hq⟩ ⟨hl,hd,_,(rel.put k eb rv).keeps λc ys ec=> ?_,q,es,ep,hq,h2,h3,h4,h5⟩;rw [A0h (A1g ec e (λz=>nomatch z))];exact ec
end
section
variable {X:Cx} {pins:List (Addr×Obj)} {Z:St} {H:Hp} {s:Shared} {a:Addr} {kvs:List (Key×V)} {k:Key} {u:Value} {A:Around} {E:Value->Shared->Prop}
theorem E3h (I:Inv X pins Z H s) (e:Rd H a (.dK kvs)) (h:∀t s',Inv X pins Z H s'->Q (.int kvs.length t) s'):wpAny (model X.prog X.w) A (call (.builtin "len") [.ref a]) Q E s:=by
 obtain ⟨z,hd,vs,rel,dd⟩:=C8b I.hok e;refine call_len_dict hd dd (by rw [<-rel.length];rw [sizeLine_eq] at z;lia) ?_;rw [<-rel.length];exact h _ _ (I.tok _)
end
def E2h (i:Expr):Prop:=∀ov iv,subscripted i false ov iv=operate [ov,iv] (getItem ov iv)
theorem C3e {prog:Program} {A:Around} {E:Value->Shared->Prop} {env:Env} {value slice:Expr} {T id:String}
  (hl:typeLookup (.type T) "__getitem__"=pure (some (.builtin id))) (hs:E2h slice)
  (h:wpAny (model prog w) A (eval value env) (λo s₁=>wpAny (model prog w) A (eval slice env) (λi s₂=>s₂.TypeIs o T/\wpAny (model prog w) A (getItem o i) Q E s₂) E s₁) E s) :
  wpAny (model prog w) A (eval (.Subscript value slice pos) env) Q E s:=by
 refine Subscript_ (Z10 h (λo s₁ h₁=>Z10 h₁ (λi s₂ h₂=> ?_) λ_ _ x=>x) λ_ _ x=>x);obtain ⟨hT,h₂⟩:=h₂;unfold subscriptTail;refine Z00 ?_;rw [getitemInPython_of_ne hT.not_modules];refine Z00 (wpAny_specialOf hT hl ?_)
 have fin:wpAny (model prog w) A (subscripted slice false o i) (λr s₃=>wpAny (model prog w) A (letTemporaryGo value o r >>= λ_=>pure r) Q E s₃) E s₂:=by
  rw [hs o i];exact wpAny_operating (Z10 h₂ (λr s₃ h₃=>Z00 (wpAny_letTemporaryGo (Z04 h₃))) λ_ _ x=>x)
 first
  | exact Z04 (Z00 fin)
  | exact Z00 (Z04 (Z00 fin))
  | exact Z00 fin
theorem C2i (I:Inv X pins Z H s) (g:A9r H a y o):s.TypeIs (.ref a) "dict":=by
 rcases g with ⟨kvs,k,e,_,_⟩ | ⟨kvs,k,b,e,_,_,_⟩
 ·obtain ⟨_,_,vs,_,dd⟩:=C8b I.hok e;exact dd.typeIs
 ·obtain ⟨_,_,xs,_,dd⟩:=D2s I.hok e;exact dd.typeIs
def E3r (td ty:TE):TE:=λZ H Q=>td Z H λx H1=>ty Z H1 λy H2=>∃a v,x= .ref a/\A9r H2 a y (some v)/\Q v H2
def D4z (ty td:TE):TE:=λZ H Q=>ty Z H λy H1=>td Z H1 λx H2=>∃a o,x= .ref a/\A9r H2 a y o/\Q (.bl (!o.isSome)) H2
def E3w (td ty tv:TE):TS:=λD Z H=>tv Z H λv H1=>td Z H1 λx H2=>ty Z H2 λy H3=>∃a H4,x= .ref a/\B6b H3 a y v H4/\D.nx Z H4
section
variable {X:Cx} {o i e value:Expr} {pos pos' tpos:Pos} {td ty tv:TE}
theorem A0u (hu:X.A.units+1<cLine) (ho:PE X o td) (hi:PE X i ty) (hs:E2h i:=by exact λ_ _=>rfl):PE X (.Subscript o i pos) (E3r td ty):=by
 walk_at "j";rintro iv s2 ⟨y,H2,I2,ry,a,v,ex,g,q2⟩;subst ex;obtain rfl:u=Value.ref a:=rx;exact ⟨C2i I2 g,C9o hu I2 g ry λw' s3 I3 rw'=>⟨v,H2,I3,rw',q2⟩⟩
theorem C0n (hu:X.A.units+1<cLine) (hi:PE X i ty) (ho:PE X o td):PC X .NotIn i o (D4z ty td):=by
 intro pins s Z H Q I h;refine thn (hi pins s Z H _ I h) ?_;rintro iv s1 ⟨y,H1,I1,ry,q1⟩;refine thn (ho pins s1 Z H1 _ I1 q1) ?_;rintro u s2 ⟨x,H2,I2,rx,a,ov,ex,g,q2⟩;subst ex;obtain rfl:u=Value.ref a:=rx;exact D6b hu I2 g ry λs3 I3=>⟨.bl (!ov.isSome),H2,I3,rfl,q2⟩
theorem A4i (hu:X.A.units+1<cLine) (ho:PE X o td) (hi:PE X i ty) (hv:PE X value tv) (hs:swapsWith value (some (.Subscript o i pos')) pos.line X.env=pure false) :
  PS X (.Assign [.Subscript o i pos'] value pos) (E3w td ty tv):=by
 intro pins s Z H D I h;refine wpAny_Assign_Subscript (thn (hv pins s Z H _ I h) ?_) hs;rintro r s1 ⟨v,H1,I1,rv,q1⟩;refine thn (ho pins s1 Z H1 _ I1 q1) ?_;rintro u s2 ⟨x,H2,I2,rx,q2⟩;refine thn (hi pins s2 Z H2 _ I2 q2) ?_;rintro iv s3 ⟨y,H3,I3,ry,a,H4,ex,g,q3⟩;subst ex;obtain rfl:u=Value.ref a:=rx;exact C9b hu I3 g ry rv λs4 I4=>⟨Z,H4,I4,q3⟩
end
theorem C4i (h:Heap) (hb:sysModules<h.objs.size):A2c P w H (h.push { cls:= .type "dict",data:= .dict #[] }) h.objs.size (.dK []) :=
 ⟨Z1e _,Z22.mpr (Ne.symm (Z0h hb)),[],.nil,Heap.DictOf.new h⟩
theorem D3o (h:Heap) (hb:sysModules<h.objs.size):A2c P w H (h.push { cls:= .type "dict",data:= .dict #[] }) h.objs.size (.dT []) :=
 ⟨Z1e _,Z22.mpr (Ne.symm (Z0h hb)),[],.nil,_,#[],0,Z0c _ rfl,⟨rfl,rfl,rfl⟩,rfl,rfl,List.nodup_nil⟩
def E0i:TE:=λ_ H Q=>∀p,H p=none->Q (.ref p) (upd H p (.dK []))
def D8v:TE:=λ_ H Q=>∀p,H p=none->Q (.ref p) (upd H p (.dT []))
section
variable {X:Cx} {pos:Pos}
theorem A8z:PE X (.Dict [] [] pos) E0i:=λpins s Z H Q I h =>
 wpAny_Dict_empty ⟨.ref s.heap.objs.size,_,I.laid (a:=s.heap.objs.size) (o:= .dK []) (t':=s.toks) (λ_ _ q=>Z01 _ q) (Z09 _) (C4i s.heap I.big),rfl,h _ (I.hok.fresh (Z09 _))⟩
theorem D2a:PE X (.Dict [] [] pos) D8v:=λpins s Z H Q I h =>
 wpAny_Dict_empty ⟨.ref s.heap.objs.size,_,I.laid (a:=s.heap.objs.size) (o:= .dT []) (t':=s.toks) (λ_ _ q=>Z01 _ q) (Z09 _) (D3o s.heap I.big),rfl,h _ (I.hok.fresh (Z09 _))⟩
end
def D0p:List (TE×TE)->St->Hp->(List (V×V)->Hp->Prop)->Prop
 | [],_,H,Q=>Q [] H
 | (tk,tv)::r,Z,H,Q=>tk Z H λx H1=>tv Z H1 λy H2=>D0p r Z H2 λps H3=>Q ((x,y)::ps) H3
abbrev VV:List (V×V)->List (Value×Value)->Prop:=Paired λp q=>A2u p.1 q.1/\A2u p.2 q.2
def PPs (X:Cx) (pos:Pos) (keys:List (Option Expr)) (values:List Expr) (trs:List (TE×TE)):Prop :=
 ∀(pins:List (Addr×Obj)) (s:Shared) (Z:St) (H:Hp) (Q:List (V×V)->Hp->Prop),Inv X pins Z H s->D0p trs Z H Q->
  wpAny (model X.prog X.w) X.A (evalPairs (pairTrees keys values X.env pos)) (λvs s'=>∃ps H',Inv X pins Z H' s'/\VV ps vs/\Q ps H') X.xe s
theorem D7w:PPs X pos [] [] []:=λpins s Z H Q I h=>pairTrees_nil_walk ⟨[],H,I,.nil,h⟩
theorem A9h {k v:Expr} {ks:List (Option Expr)} {vs:List Expr} {tk tv:TE} (hk:PE X k tk) (hv:PE X v tv) (hr:PPs X pos ks vs trs) :
  PPs X pos (some k::ks) (v::vs) ((tk,tv)::trs):=λpins s Z H Q I h =>
 pairTrees_cons_walk (thn (hk pins s Z H _ I h) λu s1 ⟨x,H1,I1,rx,q1⟩=>thn (hv pins s1 Z H1 _ I1 q1) λw2 s2 ⟨y,H2,I2,ry,q2⟩ =>
  thn (hr pins s2 Z H2 _ I2 q2) (by rintro ws s3 ⟨ps,H3,I3,rel,q3⟩;exact ⟨(x,y)::ps,H3,I3,.cons ⟨rx,ry⟩ rel,q3⟩))
def A4g (kvs more:List (Key×V)):List (Key×V):=more.foldl (λacc kv=>A3v acc kv.1 kv.2) kvs
theorem KV.merge:∀{more:List (Key×V)} {rs:List (Key×Value)} {kvs:List (Key×V)} {vs:List (Key×Value)},KV more rs->KV kvs vs->KV (A4g kvs more) (merged vs rs):=by
 intro more rs kvs vs r;unfold KV at r
 induction r generalizing kvs vs with
 | nil=>intro q;exact q
 | @cons p q ps qs h t ih =>
  intro r0
  have e:KV (A3v kvs p.1 p.2) (stored vs q.1 q.2):=by
   have:=r0.put p.1 h.2;rw [<-h.1];exact this
  exact ih e
theorem A5n:∀(more kvs:List (Key×V)),(A4g kvs more).length<=kvs.length+more.length
 | [],kvs=>by show kvs.length<=kvs.length+0;lia
 | p::r,kvs=>by
  have h1:=A5n r (A3v kvs p.1 p.2);have h2:=A3t kvs p.1 p.2;show (A4g (A3v kvs p.1 p.2) r).length<=_;rw [Z0y];lia
theorem B5z {P:Program} {w:World}:∀{kvs:List (Key×V)} {ws:List (Value×Value)},VV (kvs.map λkv=>(kV kv.1,kv.2)) ws->∃rs,Carries (A1p P w) ws rs/\KV kvs rs
 | [],_,r=>by rw [List.map_nil] at r;cases r;exact ⟨[],True.intro,.nil⟩
 | p::kvs,_,r=>by
  rw [Z0p] at r
  cases r with
  | @cons a b as bs h t =>
   obtain ⟨rs,c,q⟩:=B5z (P:=P) (w:=w) t;obtain ⟨b1,b2⟩:=b;exact ⟨(p.1,b2)::rs,⟨C1n h.1,rfl,c⟩,.cons ⟨rfl,h.2⟩ q⟩
def E3c (trs:List (TE×TE)):TE:=λZ H Q=>∀p,H p=none->D0p trs Z (upd H p (.dK [])) λps H2=>H2 p=some (.dK [])/\∃kvs:List (Key×V),ps=kvs.map (λkv=>(kV kv.1,kv.2))/\kvs.length<=15/\Q (.ref p) (upd H2 p (.dK (A4g [] kvs)))
theorem D5n {values:List Expr} (h:PPs X pos keys values trs) (hall:keys.all (·.isSome)=true) (hl:keys.length=values.length) (h0:keys≠[])
  (h15:keys.length<=15):PE X (.Dict keys values pos) (E3c trs):=by
 intro pins s Z H Q I q;have hn:=I.hok.fresh (Z09 s.heap.objs.size);have I1:=I.laid (a:=s.heap.objs.size) (o:= .dK []) (h':=s.heap.push { cls:= .type "dict",data:= .dict #[] }) (t':=s.toks) (λ_ _ q=>Z01 _ q) (Z09 _) (C4i s.heap I.big);refine wpAny_Dict_walk (knd:=A1p X.prog X.w) hall hl h0 h15 (thn (h pins _ Z _ _ I1 (q _ hn)) ?_);rintro ws s2 ⟨ps,H2,I2,rel,e,kvs,ep,lk,q2⟩;subst ep;obtain ⟨rs,c,rk⟩:=B5z (P:=X.prog) (w:=X.w) rel;obtain ⟨z,hd,vs0,r0,dd⟩:=C8a I2.hok e;cases r0;refine ⟨rs,c,dd,λh' dd' hs=>⟨.ref s.heap.objs.size,_,?_,rfl,q2⟩⟩
 have hz:(A4g [] kvs).length<=sizeLine:=by
  have h1:=A5n kvs [];rw [Z2g] at h1;rw [sizeLine_eq];lia
 have he:∃q,h'.get? s.heap.objs.size=some q:=let ⟨q,_,_,hq,_⟩:=dd';⟨q,hq⟩;exact B6x I2 (by rw [e];exact True.intro) hs he (D4e hz hd (rk.merge .nil) dd')
section
variable {X:Cx} {pins:List (Addr×Obj)} {Z:St} {H:Hp} {s:Shared} {a:Addr} {y d:V} {u r:Value} {o:Option V} {A:Around} {E:Value->Shared->Prop}
end
section
variable {X:Cx} {o e f:Expr} {apos cpos:Pos} {td ty tx:TE}
end
section
variable {X:Cx} {pins:List (Addr×Obj)} {Z:St} {H:Hp} {s:Shared} {a:Addr} {kvs:List (Key×V)} {A:Around} {E:Value->Shared->Prop}
end
section
variable {X:Cx} {pins:List (Addr×Obj)} {Z:St} {H:Hp} {s:Shared} {a:Addr} {y:V} {u:Value} {A:Around} {E:Value->Shared->Prop}
end
end L2
namespace Att
open PySem PySem.W PySem.Calls PyProof.Rows
theorem B4a {P:Params} {h:Heap}:∀(ns:List Int) (vs:List Value),WellAll P h vs (ns.map WData.int)->IntsAre vs ns:=by
 intro ns
 induction ns with
 | nil =>
  intro vs w;rw [List.map_nil] at w;cases w;exact .nil
 | cons n ns ih =>
  intro vs w;rw [Z0p] at w
  cases w with
  | cons a b =>
   cases a
   exact .cons _ _ (ih _ b)
theorem C7y {l:OpenLaw} {n:Nat} (hn:l.most=some n) {P:Params} {h:Heap} {args:List WData} {vals:List Value}
  (hpre:l.row.toRowW.claim.pre args=true) (hwl:WellAll P h vals args) :
  ∃a vs ns,vals=[Value.ref a]/\args=[WData.list (ns.map WData.int)]/\h.get? a=some { cls:= .type "list",data:= .seq vs.toArray }/\IntsAre vs ns/\ns.length<=n:=by
 have hsh:WShape.hasAll [] args [.list .int]=true:=(pre_splitW hpre).1;have hc:l.pre.holds [] { args:=args }=true:=(pre_splitW hpre).2;obtain ⟨d,r,rfl,h1,h2⟩:=hasAllW_cons hsh;obtain rfl:=hasAllW_nil h2;obtain ⟨xs,rfl,h3⟩:=hasW_list h1;obtain ⟨ns,rfl⟩:=items_int h3
 have hlen:ns.length<=n:=by
  unfold OpenLaw.pre at hc
  have h4:(WTm.not (.lt (.lit (.int (n:Int))) (.len (.arg 0)))).holds [] { args:=[.list (ns.map .int)] }=true:=by
   have h4:=(holds_andW hc).1;rw [hn] at h4;exact h4
  have h5:=condW_of h4 (w_not (w_lt w_lit (w_len_list (w_arg rfl))));rw [Z08] at h5;refine Nat.le_of_not_lt λq=> ?_;have q':(n:Int)<((ns.length:Nat):Int):=by lia
  first
   | (rw [Z20 q'] at h5;exact absurd h5 (by decide))
   | (simp at h5;lia)
 cases hwl with
 | cons w1 w2 =>
  cases w2
  cases w1 with
  | list ho hall=>exact ⟨_,_,ns,rfl,rfl,ho,B4a ns _ hall,hlen⟩
theorem C8r (l:OpenLaw) (args:List WData):l.row.toRowW.claim.post args (.bool true) args=true :=
 postW_of (r:=l.row.toRowW) (X:=(true == true))
  (show WShape.has [] (.bool true) .bool=true by first | rfl | decide | simp [WShape.has,WShape.arms,WShape.armsAll])
  (show (WTm.eq .res (.lit (.bool true))).value [] { args:=args,res:=some (.bool true),after:=args }=some (.bool (true == true)) from w_eq_bool (w_res rfl) w_lit) rfl
theorem attach_call {l:OpenLaw} {n:Nat} {q:Program} {loose:List Str} {XP:(Str->Option Value)->Heap->Prop} {YP:World->Heap->Prop} {d:DefRec}
  (hn:l.most=some n) (hdf:d.params.defaults=[])
  (call:∀(w:World) (s₀ s₁:Shared) (mg mb:Str->Option Value) (fa:Addr) (o:Obj) (pm cd doc:Value) (a:Addr) (vs:List Value) (ns:List Int),
   Ground q loose [] XP w s₀ mg mb s₁.heap->YP w s₁.heap->
   s₁.heap.get? fa=some o->o.data= .func (docDef d.name d.params d.body d.scope pm cd doc)->s₁.heap.CodeRec cd d.name->mg d.name=some (.ref fa)->
   s₁.heap.get? a=some { cls:= .type "list",data:= .seq vs.toArray }->IntsAre vs ns->ns.length<=n->s₁.gens= #[]->
   codeAny (model l.prog w) callerA (.call (.ref fa) ⟨[.ref a],[]⟩) (λr s'=>r= .ok (.ret (.bool true))/\OldK s₁.heap s'.heap/\s'.os=s₁.os/\AllBare s'.gens) s₁) :
  WalkO q loose XP YP l.row.toRowW d [] (λf vs=>PySem.call f vs):=by
 intro w s₀ s₁ mg mb G Y fa o pm cd doc dV kV ho hd hcd hD hmg hg args vals as hpre hlay hrd hwl hlo;obtain rfl:dV= .none:=Dflts.none hD hdf;obtain rfl:kV= .none:=Dflts.noKw hD;obtain ⟨a,vs,ns,rfl,rfl,hobj,hints,hlen⟩:=C7y hn hpre hwl;refine enter_call (codeAny_mono (call w s₀ s₁ mg mb fa o pm cd doc a vs ns G Y ho (fd_plain hd) hcd hmg hobj hints hlen hg) λr s' hq=> ?_);obtain ⟨rfl,h2,h3,h4⟩:=hq;exact ⟨.inl ⟨.bool true,.bool true,[],rfl,λ_=>rfl,.bool true,C8r l _,λ_=>⟨List.Pairwise.nil,λ_ hm=>(nomatch hm)⟩⟩,h2,h3,h4⟩
section
variable {prog:Program} {w:World} {A:Around} {E:Value->Shared->Prop} {s:Shared} {K:Frag}
end
end Att
namespace L2
open PySem PySem.Spec PyProof.Rows
variable {P:Program} {w:World} {K:Frag} {mg:Str->Option Value} {a l d f b it p:Addr} {fd:FuncData} {x qual x₀:Str} {vs:List (Key×Value)} {n k1 k2 t' kk i ep i₀:Nat} {XP:(Str->Option Value)->Heap->Prop} {X:Cx} {st:Stmt} {ps N':List Str} {od o:Obj} {osl sl:Array (Option Value)} {A:Around} {pos pos₀ spos:Pos} {B:Prop} {H H':Hp} {u:HO} {xs:List (A1w×Addr×Value)} {Q:Option Value->Shared->Prop} {ys:Array Value} {y:Value} {ts:List Addr} {elts cs:List Expr} {g:TG} {tb:TS} {D:B6f} {Z:St} {tg elt iter:Expr} {ta:TA} {h' h:Heap} {v:V} {scope:Scope} {S:Addr->Prop} {r:List (Str×V)} {pins:List (Addr×Obj)} {s:Shared} {kvs:List (Key×V)} {sts:List Stmt} {es:Array DictEntry} {ix:List (Option Nat)} {cl:List (Str×Addr)} {wi:TI} {tc:TT} {te:TE} {ks:List Key} {kas:List (A1w×Addr×V)} {sh:List Bool}
theorem B9k:∀{vs:List Value} {ns:List Int},IntsAre vs ns->A2r (ns.map V.int) vs
 | _,_,.nil=> .nil
 | _,_,.cons n t h=> .cons ⟨t,rfl⟩ (B9k h)
def E1u (H:Hp):Prop:=∀b,H b=none\/∃o xs,H b=some (.frz o (.lst xs))
theorem D2w {mb:Str->Option Value} {CX:CXT} {k:Nat} {fa:Addr} {sp:Sp} {s₁:Shared} {vs:List Value} {ns:List Int}
  (KX:K.In s₁.heap) (hns:s₁.heap.Ns mainGlobals mg) (hb:s₁.heap.Ns builtinsNs mb) (hbb:∀x:Str,x≠"__name__"->mb x=bootBuiltins x) (hlim:s₁.heap.NoLimit) (hg:s₁.gens= #[])
  (ha:s₁.heap.get? a=some { cls:= .type "list",data:= .seq vs.toArray }) (hi:IntsAre vs ns) (hl:ns.length<=sizeLine) (hr:B0y k callerA)
  (F:∀base:Heap,K.In base->base.Ns mainGlobals mg->A4q P w K mg base CX k fa fd [x] sp) (hbind:∀(s:Shared) (u:Value),BindsTo s fd ⟨[u],[]⟩ [(x,u)])
  (hsp:∀H:Hp,E1u H->SqL K H a (ns.map V.int)->sp [.ref a] H (λv _=>v= .bl true) λ_ _ _=>False)
  (hCX:∀H e s',CX [] H s₁ (λ_ _ _=>False) e s'->False) :
  codeAny (model P w) callerA (.call (.ref fa) ⟨[.ref a],[]⟩) (λr s'=>r= .ok (.ret (.bool true))/\OldK s₁.heap s'.heap/\s'.os=s₁.os/\AllBare s'.gens) s₁:=by
 have rv:=B9k hi;have lenV:=hi.length
 have core:∀H:Hp,E1u H->SqL K H a (ns.map V.int)->HOk P w H s₁.heap->(∀b,H b≠none->b=a)->(H a≠none->K.lookup a=none)->
   codeAny (model P w) callerA (.call (.ref fa) ⟨[.ref a],[]⟩) (λr s'=>r= .ok (.ret (.bool true))/\OldK s₁.heap s'.heap/\s'.os=s₁.os/\AllBare s'.gens) s₁:=by
  intro H hO hS hok hA hK;have base_of:∀{b:Addr} {o:Obj},s₁.heap.get? b=some o->H b=none->(D3b s₁.heap H).get? b=some o:=λe n=>D1m e n
  have noA:∀{b:Addr} {o:Obj} {es:Array DictEntry} {ep:Nat},s₁.heap.get? b=some o->o.data= .dict es ep->H b=none:=λ{b o es ep} e d=>by
   cases q:H b with
   | none=>rfl
   | some u =>
    have e':b=a:=hA b (by rw [q];simp);subst e';rw [ha] at e;cases e;have d':Data.seq vs.toArray _=Data.dict es ep:=d;cases d'
  have nsK:∀{b:Addr} {m:Str->Option Value},s₁.heap.Ns b m->(D3b s₁.heap H).Ns b m:=λ{b m} ⟨o,es,ep,e,d,r⟩=>⟨o,es,ep,base_of e (noA e d),d,r⟩
  have hKb:K.In (D3b s₁.heap H):=λb o e=>base_of (KX b o e) (by
   cases q:H b with
   | none=>rfl
   | some u =>
    have e':b=a:=hA b (by rw [q];simp);subst e'
    rw [hK (by rw [q];simp)] at e;cases e)
  have hM:Mod K mg (D3b s₁.heap H):=⟨hKb,nsK hns,⟨mb,nsK hb,hbb⟩,let ⟨mc,h1,h2⟩:=hlim;⟨mc,nsK h1,h2⟩⟩;have e0:D7r P w K mg (D3b s₁.heap H) callerA [] s₁ H:=⟨rfl,hM,λb o e=>D5o e,Nat.le_of_eq (C8m _ _),trivial,λb hb=>absurd (show b∈([]:List Addr) from hb) (by simp),hok,.of_eq hg⟩;refine codeAny_mono ((F _ hKb (nsK hns)).run callerA [] s₁ H ⟨[.ref a],[]⟩ [.ref a] [.ref a] _ _ hr e0 (hbind s₁ (.ref a)) (.cons rfl .nil) (hsp H hO hS)) λr s' h=> ?_
  cases r with
  | error e=>exact (hCX H e s' h).elim
  | ok fl =>
   cases fl with
   | next=>exact False.elim h
   | brk=>exact False.elim h
   | cont=>exact False.elim h
   | ret u =>
    obtain ⟨v,H',os,bare,un,hok',r',q⟩:=h;have q':v= .bl true:=q;subst q';obtain rfl:u=Value.bool true:=r';refine ⟨rfl,OldK.of_keep λb o e=> ?_,os,bare⟩
    cases q:H b with
    | none=>exact un.keep b o e q (by intro z;exact absurd (show b∈([]:List Addr) from z) (by simp)) (by simp)
    | some u =>
     rcases hO b with z | ⟨ob,xs,z⟩
     ·rw [q] at z;cases z
     ·have z2:=un.frzs b ob _ z;obtain ⟨e1,_⟩:=hok b _ z;obtain ⟨e2,_⟩:=hok' b _ z2;rw [e] at e1;cases e1;exact e2
 cases hk:K.lookup a with
 | some o =>
  have e:=KX a o hk;rw [ha] at e;cases e;refine core (λ_=>none) (λ_=> .inl rfl) (.inr ⟨_,vs.toArray,_,hk,rfl,rfl,rfl,by rw [Z0g,lenV];exact hl,by simpa using rv⟩) (λb u z=>by have z':(none:Option HO)=some u:=z;cases z') (λb z=>absurd rfl z) λz=>absurd rfl z
 | none =>
  refine core (λb=>if b=a then some (.frz { cls:= .type "list",data:= .seq vs.toArray } (.lst (ns.map V.int))) else none) (λb=> ?_) (.inl (.inr ⟨{ cls:= .type "list",data:= .seq vs.toArray },Z12 rfl⟩)) (λb u z=> ?_) (λb z=> ?_) λ_=>hk
  ·by_cases hb:b=a
   ·exact .inr ⟨_,_,Z12 hb⟩
   ·exact .inl (Z0t hb)
  ·by_cases hb:b=a
   ·have z':=(Z12 hb).symm.trans z;cases z';subst hb;exact ⟨ha,by rw [Z08];exact hl,vs,_,rv,ha⟩
   ·have z':=(Z0t hb).symm.trans z;cases z'
  ·by_cases hb:b=a
   ·exact hb
   ·exact absurd (Z0t hb) z
theorem D5d {l:PySem.W.OpenLaw} {k:Nat} {q:Program} {loose:List Str} {YP:World->Heap->Prop} {d:DefRec} {K:Params->Frag} {CX:World->CXT} {sp:World->Sp}
  (hn:l.most=some n) (hn2:n<=sizeLine) (hdf:d.params.defaults=[]) (hr:B0y k callerA)
  (hY:∀(w:World) (h:Heap),YP w h->(K w.params).In h)
  (F:∀(w:World) (mg:Str->Option Value) (fa:Addr) (h:Heap),(K w.params).In h->h.Ns mainGlobals mg->mg d.name=some (.ref fa)->
   ∃fd:FuncData,(∀(s:Shared) (u:Value),BindsTo s fd ⟨[u],[]⟩ [(x,u)])/\
    ∀base:Heap,(K w.params).In base->base.Ns mainGlobals mg->A4q l.prog w (K w.params) mg base (CX w) k fa fd [x] (sp w))
  (hsp:∀(w:World) (H:Hp) (a:Addr) (ns:List Int),ns.length<=n->E1u H->SqL (K w.params) H a (ns.map V.int)->sp w [.ref a] H (λv _=>v= .bl true) λ_ _ _=>False)
  (hCX:∀(w:World) (H:Hp) (s:Shared) (e:Value) (s':Shared),CX w [] H s (λ_ _ _=>False) e s'->False) :
  PySem.W.WalkO q loose XP YP l.row.toRowW d [] (λf vs=>PySem.call f vs):=by
 refine Att.attach_call hn hdf λw s₀ s₁ mg mb fa o pm cd doc a vs ns G Y ho hd hcd hmg hobj hints hlen hg=> ?_;have KX:=hY w _ Y;obtain ⟨fd,hb,hF⟩:=F w mg fa _ KX G.T.g hmg;exact D2w KX G.T.g G.T.b G.T.builtins G.T.nolimit hg hobj hints (Z1n hlen hn2) hr hF hb (λH hO hS=>hsp w H a ns hlen hO hS) λH e s'=>hCX w H s₁ e s'
def A4d (s:Stmt) (j:Nat):Stmt:=match s with
 | .ClassDef _ _ _ body _ _ _ _ _ _ _=>body.getD j (.Pass ⟨0,0,0,0⟩)
 | _=> .Pass ⟨0,0,0,0⟩
def A9w (s:Stmt):Arguments:=match s with
 | .FunctionDef _ a _ _ _ _ _ _ _ _=>a
 | _=>{ posonlyargs:=[],args:=[],vararg:=none,kwonlyargs:=[],kw_defaults:=[],kwarg:=none,defaults:=[] }
def A8j (s:Stmt):List Stmt:=match s with
 | .FunctionDef _ _ b _ _ _ _ _ _ _=>b
 | _=>[]
def A0l (s:Stmt):Scope:=match s with
 | .FunctionDef _ _ _ _ _ _ sc _ _ _=>sc
 | _=>{ kind:= .function,names:=[],isGenerator:=false,isCoroutine:=false }
abbrev CX0:CXT:=λ_ _ _ _ _ _=>False
abbrev E0:XK:=λ_ _ _=>False
theorem D6f:B9p CX0 X E0:=λ_ _ _ _ _ _ _ h=>h.elim
structure Fun (K:Frag) (x qual:Str) (st:Stmt) (f:Addr) (fd:FuncData):Prop where
 ex:∃(oc:Value) (od:Option Addr) (kV doc pm:Value) (an:Option Addr) (cdv ct:Value) (osl:Array (Option Value)),
  fd=fnOf x qual (A9w st) (A8j st) (A0l st) .none kV doc pm an cdv ct/\K.lookup f=some ⟨oc,od,.func fd,osl⟩/\codeIn K cdv qual=true
 kp:keepIn K (.ref f)=true
section
variable {P:Program} {w:World} {K:Frag} {mg:Str->Option Value} {base:Heap}
theorem Fun.ok {N:List Str} {k:Nat} {sp:Sp} (F:Fun K x qual st f fd) (S:A0w N ps (A0l st)) (len:∀vs H Q E,sp vs H Q E->vs.length=ps.length)
  (hbody:∀(cdv:Value) (A:Around) (outer:List Env) (s:Shared) (H:Hp) (vs:List V) (Q:VK) (E:XK),B0y k (A.deeper (envOfC qual (A0l st) s.heap.objs.size f cdv))->sp vs H Q E->
   ∃t,PSs (D8c CX0 P w K mg base N qual (A0l st) f cdv A outer s H E).nox (A8j st) t/\t { nx:=λ_ H'=>Q .non H',rt:=Q } (B9u N vs) H):A4q P w K mg base CX0 (k+1) f fd ps sp:=by
 obtain ⟨oc,od,kV,doc,pm,an,cdv,ct,osl,rfl,lk,hcd⟩:=F.ex;refine E2w lk hcd S len λA outer s H vs Q E hr hsp=> ?_;obtain ⟨t,h,q⟩:=hbody cdv A outer s H vs Q E hr hsp;exact ⟨t,h.nox,q⟩
theorem Fun.binds (F:Fun K x qual st f fd)
  (h:∀(kV doc pm:Value) (an:Option Addr) (cdv ct:Value) (us:List Value),us.length=ps.length->bindArgs (fnOf x qual (A9w st) (A8j st) (A0l st) .none kV doc pm an cdv ct) ⟨us,[]⟩=pure (ps.zip us)):B0z K fd ps []:=by
 obtain ⟨oc,od,kV,doc,pm,an,cdv,ct,osl,rfl,lk,hcd⟩:=F.ex;exact .all (h kV doc pm an cdv ct)
theorem D4f {oc:Value} {od an:Option Addr} {kV doc pm cdv ct:Value} (l:K.lookup f=some ⟨oc,od,.func (fnOf x qual (A9w st) (A8j st) (A0l st) .none kV doc pm an cdv ct),osl⟩)
  (c:codeIn K cdv qual=true) (k:keepIn K (.ref f)=true):Fun K x qual st f (fnOf x qual (A9w st) (A8j st) (A0l st) .none kV doc pm an cdv ct):=⟨⟨oc,od,kV,doc,pm,an,cdv,ct,osl,rfl,l,c⟩,k⟩
end
theorem A6c {k:Nat} (hr:B0y k A):A.units+1<cLine:=Nat.lt_of_le_of_lt (Nat.add_le_add_left (by decide:1<=64) _) hr.units
section
variable {X:Cx}
theorem pv (i:Nat) (hN:X.N[i]? =some x:=by rfl) (hv:Vis X.env.scope x:=by first | exact Or.inl rfl | exact Or.inr (Or.inl rfl) | exact Or.inr (Or.inr rfl)) (hd:(x == ("__debug__":Str))=false:=by decide)
  (hcd:(x == ("__classdict__":Str))=false:=by decide):PE X (.Name x pos) (E2c i):=E0z hN hv hd hcd
theorem B3x:B1i X (.builtin "len") (λxs H Q=>∃a kvs,xs=[V.ref a]/\H a=some (.dK kvs)/\Q (.int kvs.length) H):=by
 intro pins s Z H xs us Q I r h;obtain ⟨a,kvs,rfl,ha,q⟩:=h;obtain ⟨u,rfl,ru⟩:=B4x r;cases ru;exact E3h I (.inl ha) λt s' I'=>⟨.int kvs.length,H,I',⟨t,rfl⟩,q⟩
end
theorem A7x {A:Prop} (h:B):if false=true then A else B:=by
 rw [Z0t Z0v];exact h
theorem D5g {A:Prop} (h:A):if true=true then A else B:=by
 rw [Z12 rfl];exact h
theorem C5x {c A:Prop} [Decidable c] (h1:c->A) (h2:¬c->B):if c then A else B:=by
 by_cases h:c
 ·rw [Z12 h];exact h1 h
 ·rw [Z0t h];exact h2 h
def A0r (H H':Hp):Prop:=∀b o,H b=some o->H' b=some o
theorem A0r.refl (H:Hp):A0r H H:=λ_ _ h=>h
theorem A0r.trans {H1 H2:Hp} (a:A0r H H1) (b:A0r H1 H2):A0r H H2:=λc o h=>b c o (a c o h)
theorem A0r.free (e:A0r H H') (h:H' l=Option.none):H l=Option.none:=by
 cases q:H l with
 | none=>rfl
 | some o =>
  rw [e l o q] at h;cases h
section
variable {κ:Type} [DecidableEq κ]
theorem C4s {kvs:List (κ×V)} {k:κ} (h:A1y kvs k=none):¬k∈kvs.map (·.1):=by
 intro m;obtain ⟨p,hp,e⟩:=Z2c.mp m;have q:(kvs.any λkv=>decide (kv.1=k))=true:=List.any_eq_true.mpr ⟨p,hp,Z20 e⟩;rw [A4b,h] at q;exact absurd q (by simp)
theorem C8h:∀{l:List κ} {k:κ},l.Nodup->¬k∈l->(l++[k]).Nodup
 | [],k,_,_=>by simp
 | a::r,k,h,hk=>by
  obtain ⟨h1,h2⟩:=Z15.mp h;show (a::(r++[k])).Nodup;refine Z15.mpr ⟨λm=> ?_,C8h h2 λm=>hk (Z0e.mpr (Or.inr m))⟩;rcases Z07.mp m with q | q
  ·exact h1 q
  ·exact hk (Z0e.mpr (Or.inl (Z0w.mp q).symm))
theorem D6l {kvs:List (κ×V)} {k:κ} (v:V) (hn:(kvs.map (·.1)).Nodup) (h:A1y kvs k=none):((A3v kvs k v).map (·.1)).Nodup:=by
 rw [A6i v h,Z0s];exact C8h hn (C4s h)
end
section
variable {X:Cx}
def tCut (t u:TS):TS:=λD Z H=>∃M:St->Hp->Prop,t { D with nx:=M } Z H/\∀Z' H',M Z' H'->u D Z' H'
theorem A3m {rest:List Stmt} {t u:TS} (h1:PS X st t) (h2:PSs X rest u):PSs X (st::rest) (tCut t u):=by
 intro pins s Z H D I h;obtain ⟨M,h,hm⟩:=h;refine wpAny_execs_cons (thn (h1 pins s Z H { D with nx:=M } I h) λf s1 q=> ?_)
 cases f with
 | next =>
  obtain ⟨Z',H',I',q⟩:=q;exact h2 pins s1 Z' H' D I' (hm _ _ q)
 | ret v=>exact q
 | brk=>exact q
 | cont=>exact q
def rIsi (K:Frag):List V->Hp->VK->Prop:=λxs H Q=>∃x c t b,xs=[x,c]/\B7g K H x t/\(∀u,A2u c u->kitOne K t u=some b)/\Q (.bl b) H
theorem A1m:B1i X (.builtin "isinstance") (rIsi X.K):=by
 intro pins s Z H xs us Q I r h;obtain ⟨x,c,t,b,rfl,ty,e,q⟩:=h;obtain ⟨u,w',rfl,ru,rw'⟩:=C5r r;exact C7z I ru ty (e w' rw') λtk=>⟨.bl b,H,I.tok tk,rfl,q⟩
theorem A6e (T:String):∀u,A2u (.ty T) u->kitOne K (.type T) u=some true:=by
 intro u h;cases (show u=Value.type T from h);unfold kitOne;rw [Z12 (beq_self_eq_true _)]
theorem B6g {T U:String} {b:Bool} (h:(Value.type T == Value.type U)=false) (hm:PySem.W.kitMeta U=true) (hs:(PySem.fastBuiltinMro T).map (·.contains (Value.type U))=some b) :
  ∀u,A2u (.ty U) u->kitOne K (.type T) u=some b:=by
 intro u z;cases (show u=Value.type U from z);unfold kitOne;rw [Z0t (by rw [h];exact Z0v)];show (if PySem.W.kitMeta U=true then subIn K (.type T) (.type U) else none)=some b;rw [Z12 hm];exact hs
theorem C0h:∀u,A2u (.ty "bool") u->kitOne K (.type "int") u=some false:=B6g (by decide +kernel) (by decide +kernel) (by decide +kernel)
def D8k (K:Frag):R2:=λx y H Q=>∃a b xs ys,x= .ref a/\y= .ref b/\SqT K H a xs/\SqT K H b ys/\ys≠[]/\xs.length+ys.length<=sizeLine/\
 (xs=[]->Q (.ref b) H)/\(xs≠[]->∀p,H p=none->Q (.ref p) (upd H p (.tup (xs++ys))))
theorem D3g:OpR X (binaryOp .Add) (D8k X.K):=by
 walk_at "l";obtain ⟨a,b,xs,ys,rfl,rfl,ha,hb,hy,hz,q1,q2⟩:=h;by_cases hx:xs=[]
 ·subst hx;cases rx;cases ry;obtain ⟨its,r1,p1,_⟩:=I.tuple ha;obtain ⟨its2,r2,p2,_⟩:=I.tuple hb;have e1:its=[]:=r1.nil_iff.mpr rfl;obtain ⟨⟨cls,dd,data,sl⟩,ho,hc,n,hd⟩:=id p1;obtain ⟨⟨cls2,dd2,data2,sl2⟩,ho2,hc2,n2,hd2⟩:=id p2;simp only at hc hd hc2 hd2;subst hc hd hc2 hd2
  exact concat_meets ⟨_,ho,rfl⟩ ⟨_,ho2,rfl⟩ noFill_tuple_add seq_tuple_add PySem.F.slot_tuple_add PySem.F.entry_tuple_add (PySem.F.args_tuple_add_2 _ _)
   (tuple_addW0 a b its.toArray its2.toArray n n2 dd dd2 sl sl2 (by simp [e1])) ⟨ho,ho2,⟨.ref b,H,I,rfl,q1 rfl⟩⟩
 ·exact C8g pins s Z H _ _ v u Q I rx ry ⟨a,b,xs,ys,rfl,rfl,ha,hb,hx,hz,λz=>absurd z hy,λ_=>q2 hx⟩
end
structure Nx (it l:Addr) (st:Nat->Heap->Prop) (src:Array Value->Heap->Prop):Prop where
 item:∀{prog:Program} {w:World} {A:Around} {E:Value->Shared->Prop} {s:Shared} {k:Nat} {xs:Array Value} {x:Value} {Q:Value->Shared->Prop},st k s.heap->src xs s.heap->xs[k]? =some x->
  (∀h',st (k+1) h'->Heap.SameBut it s.heap h'->Q x { s with heap:=h' })->wpAny (model prog w) A (Builtin.SmallTypes.nextOf (.ref it)) Q E s
 fin:∀{prog:Program} {w:World} {A:Around} {E:Value->Shared->Prop} {s:Shared} {k:Nat} {xs:Array Value} {Q:Value->Shared->Prop},A.handled=none->st k s.heap->src xs s.heap->xs[k]? =none->
  (∀h' e,Heap.ExtBut it s.heap h'->(∃o,h'.get? e=some o/\o.cls= .type "StopIteration")->E (.ref e) { s with heap:=h' })->wpAny (model prog w) A (Builtin.SmallTypes.nextOf (.ref it)) Q E s
 mv:∀{k:Nat} {h h':Heap},st k h->(∀o,h.get? it=some o->h'.get? it=some o)->st k h'
 mvS:∀{xs:Array Value} {h h':Heap},src xs h->(∀o,h.get? l=some o->h'.get? l=some o)->src xs h'
 ob:∀{k:Nat} {h:Heap},st k h->∃o,h.get? it=some o/\∀v,o.data≠.cell v
theorem A8m (it l:Addr):Nx it l (λk h=>h.IsListIter it l k) (λxs h=>h.IsList l xs) where
 item:=wpAny_nextOf_list_item
 fin:=wpAny_nextOf_list_end
 mv:=λx e=>x.at e
 mvS:=λx e=>x.at e
 ob:=λ⟨o,e,_,d⟩=>⟨o,e,λv z=>by rw [d] at z;cases z⟩
section
variable {prog:Program} {w:World} {A:Around} {E:Value->Shared->Prop} {s:Shared}
theorem B0w {k:Nat} {xs:Array Value} {x:Value} {Q:Value->Shared->Prop} (hi:s.heap.IsTupleIter it l k) (hl:s.heap.IsTuple l xs) (hx:xs[k]? =some x)
  (hQ:∀h',h'.IsTupleIter it l (k+1)->Heap.SameBut it s.heap h'->Q x { s with heap:=h' }):wpAny (model prog w) A (Builtin.SmallTypes.nextOf (.ref it)) Q E s:=by
 obtain ⟨o,ho,hc,hd⟩:=id hi;obtain ⟨ol,hol,_,nl,hdl⟩:=hl;unfold Builtin.SmallTypes.nextOf;refine Z00 (Z1b (name:=Str.ofString "__next__") hi.typeIs F.slot_tuple_iterator_next (Z1g F.slot_tuple_iterator_next hi.typeIs F.entry_tuple_iterator_next ?_ (F.args_tuple_iterator_next_1 _)));show wpAny _ _ (field (.ref it) 0 >>= _) _ _ s;refine Z00 (Z11 ho hd (x:= .ref l) rfl ?_);show wpAny _ _ (if (Value.ref l == Value.none)=true then _ else _) _ _ s;rw [Z0t (show¬((Value.ref l == Value.none)=true) from Z0v)];show wpAny _ _ (field (.ref it) 1 >>= _) _ _ s;refine Z00 (Z11 ho hd (x:= .int k 0) rfl ?_);show wpAny _ _ (seqItems? (.ref l) >>= _) _ _ s;refine Z00 (Z21 hol hdl ?_);simp only [Int.toNat_natCast,hx];refine Z00 (Z1t ho hd (by simp) (Z04 ⟨x,rfl,Z04 (hQ _ ?_ (Heap.SameBut.update ..))⟩));exact ⟨_,Z1r _ ho (Obj.isFreed_of_fields (Obj.data_mapFields hd _)),(Obj.cls_mapFields ..).trans hc,by rw [Obj.data_mapFields hd];simp [rawInt]⟩
theorem B2e {k:Nat} {xs:Array Value} {Q:Value->Shared->Prop} (hh:A.handled=none) (hi:s.heap.IsTupleIter it l k) (hl:s.heap.IsTuple l xs) (hx:xs[k]? =none)
  (hE:∀h' e,Heap.ExtBut it s.heap h'->(∃o,h'.get? e=some o/\o.cls= .type "StopIteration")->E (.ref e) { s with heap:=h' }):wpAny (model prog w) A (Builtin.SmallTypes.nextOf (.ref it)) Q E s:=by
 obtain ⟨o,ho,hc,hd⟩:=id hi;obtain ⟨ol,hol,_,nl,hdl⟩:=hl;unfold Builtin.SmallTypes.nextOf;refine Z00 (Z1b (name:=Str.ofString "__next__") hi.typeIs F.slot_tuple_iterator_next (Z1g F.slot_tuple_iterator_next hi.typeIs F.entry_tuple_iterator_next ?_ (F.args_tuple_iterator_next_1 _)));show wpAny _ _ (field (.ref it) 0 >>= _) _ _ s;refine Z00 (Z11 ho hd (x:= .ref l) rfl ?_);show wpAny _ _ (if (Value.ref l == Value.none)=true then _ else _) _ _ s;rw [Z0t (show¬((Value.ref l == Value.none)=true) from Z0v)];show wpAny _ _ (field (.ref it) 1 >>= _) _ _ s;refine Z00 (Z11 ho hd (x:= .int k 0) rfl ?_);show wpAny _ _ (seqItems? (.ref l) >>= _) _ _ s;refine Z00 (Z21 hol hdl ?_);simp only [Int.toNat_natCast,hx];refine Z00 (wpAny_rule (Z00 (Z1t ho hd (by simp) ?_)));show wpAny _ _ (newExc (.type "StopIteration") [] >>= _) _ _ _;refine Z00 ?_;simp only [newExc,newTuple];refine Z00 (Z16 ?_ (by size_fits));refine Z00 (m:=firstArgMember _ _) (wpAny_of_eq (a:=Value.none) (by first | rfl | (simp only [firstArgMember];rfl)) ?_);refine Z16 ?_ (by size_fits);simp only [raiseNew];refine Z00 (wpAny_handled ?_)
 first | rw [show A.in1.handled=none from hh] | rw [hh]
 refine Z00 (Z04 (wpAny_throw ?_));exact hE _ _ (((Heap.SameBut.update ..).extBut.push _).push _) ⟨_,Z0c _ rfl,rfl⟩
end
theorem A6m (it l:Addr):Nx it l (λk h=>h.IsTupleIter it l k) (λxs h=>h.IsTuple l xs) where
 item:=B0w
 fin:=B2e
 mv:=λ⟨o,e,r⟩ f=>⟨o,f _ e,r⟩
 mvS:=λ⟨o,e,r⟩ f=>⟨o,f _ e,r⟩
 ob:=λ⟨o,e,_,d⟩=>⟨o,e,λv z=>by rw [d] at z;cases z⟩
section
variable {z TI TO i1 i2 l1 l2:Addr} {st1 st2:Nat->Heap->Prop} {src1 src2:Array Value->Heap->Prop} {prog:Program} {w:World} {A:Around} {E:Value->Shared->Prop} {s:Shared}
theorem B6s (N1:Nx i1 l1 st1 src1) (N2:Nx i2 l2 st2 src2) {xs:Array Value} {x a b:Value} (D:ZipApart z TI TO i1 i2 l1 l2)
  (hz:IsZip s.heap z TI TO .none) (hTI:IsPair s.heap TI (.ref i1) (.ref i2)) (hTO:IsPair s.heap TO a b) (h1:st1 k1 s.heap) (h2:st2 k2 s.heap) (hl1:src1 xs s.heap) (hl2:src2 ys s.heap) (hx:xs[k1]? =some x) (hy:ys[k2]? =some y)
  (hQ:∀h',IsZip h' z TI TO (rawInt s.heap.objs.size)->IsPair h' TO x y->st1 (k1+1) h'->st2 (k2+1) h'->IsPair h' s.heap.objs.size x y->
   (∀c o,c≠z->c≠TO->c≠i1->c≠i2->s.heap.get? c=some o->h'.get? c=some o)->Q (some (.ref s.heap.objs.size)) { s with heap:=h' }):wpAny (model prog w) A (pyNext (.ref z)) Q E s:=by
 have hT:s.TypeIs (.ref z) "zip":=⟨_,hz,rfl⟩;unfold pyNext;walk_at "b";refine Z00 ?_;unfold Builtin.SmallTypes.ownedTupleIsFree;refine Z00 (Z11 hz rfl (x:= .none) rfl (Z04 ?_));simp only [if_true];refine Z00 (wpAny_rule ?_);refine Z00 (Z11 hz rfl (x:= .ref TO) rfl ?_);refine Z00 (Z1h hz (by simp) λg1 z1 b1=> ?_)
 replace z1:IsZip g1 z TI TO .ellipsis:=z1
 refine Z00 ?_;simp only [List.zipIdx_cons,List.zipIdx_nil,List.forIn_cons,List.forIn_nil];refine Z00 (Z00 (wpAny_onRaise ?_));show wpAny _ _ (Builtin.SmallTypes.nextOf (.ref i1) >>= _) _ _ _;refine Z00 (N1.item (N1.mv h1 λo e=>b1.extBut _ _ D.i1z e) (N1.mvS hl1 λo e=>b1.extBut _ _ D.l1z e) hx λg2 t2 b2=>Z04 ?_);have p2:IsPair g2 TO a b:=b2.extBut _ _ D.TOi1 (b1.extBut _ _ D.TOz hTO);refine Z00 (Z21 p2 rfl ?_);refine Z00 (wpAny_updateSeq_pair p2 λg3 p3 b3=> ?_)
 replace p3:IsPair g3 TO x b:=p3
 refine Z00 (wpAny_letGo (Z04 ?_));refine Z00 (Z00 (wpAny_onRaise ?_));show wpAny _ _ (Builtin.SmallTypes.nextOf (.ref i2) >>= _) _ _ _;refine Z00 (N2.item (N2.mv h2 λo e=>b3.extBut _ _ D.TOi2.symm (b2.extBut _ _ D.i12.symm (b1.extBut _ _ D.i2z e))) (N2.mvS hl2 λo e=>b3.extBut _ _ D.l2TO (b2.extBut _ _ D.l2i1 (b1.extBut _ _ D.l2z e))) hy λg4 t4 b4=>Z04 ?_);have p4:IsPair g4 TO x b:=b4.extBut _ _ D.TOi2 p3;refine Z00 (Z21 p4 rfl ?_);refine Z00 (wpAny_updateSeq_pair p4 λg5 p5 b5=> ?_)
 replace p5:IsPair g5 TO x y:=p5
 refine Z00 (wpAny_letGo (Z04 (Z04 ?_)));refine Z00 (Z21 p5 rfl ?_);refine Z00 (wpAny_newTuple ?_);have hsz:g5.objs.size=s.heap.objs.size:=by rw [b5.1,b4.1,b3.1,b2.1,b1.1]
 have z5:IsZip g5 z TI TO .ellipsis:=b5.extBut _ _ D.TOz.symm (b4.extBut _ _ D.i2z.symm (b3.extBut _ _ D.TOz.symm (b2.extBut _ _ D.i1z.symm z1)));have k5:∀c o,c≠z->c≠TO->c≠i1->c≠i2->s.heap.get? c=some o->g5.get? c=some o:=λc o c1 c2 c3 c4 e=>b5.extBut _ _ c2 (b4.extBut _ _ c4 (b3.extBut _ _ c2 (b2.extBut _ _ c3 (b1.extBut _ _ c1 e))));have s1:st1 (k1+1) g5:=N1.mv t2 λo e=>b5.extBut _ _ D.TOi1.symm (b4.extBut _ _ D.i12 (b3.extBut _ _ D.TOi1.symm e));have s2:st2 (k2+1) g5:=N2.mv t4 λo e=>b5.extBut _ _ D.TOi2.symm e;have zlt:z<g5.objs.size:=Z0a z5;show wpAny _ _ (Builtin.SmallTypes.ownedTupleHandOut (.ref z) (.ref g5.objs.size) >>= _) _ _ _;refine Z00 ?_;unfold Builtin.SmallTypes.ownedTupleHandOut;have z6:IsZip (g5.push { cls:= .type "tuple",data:= .seq #[x,y] }) z TI TO .ellipsis:=Z01 _ z5;refine Z00 (Z1h z6 (by simp) λg7 z7 b7=> ?_)
 replace z7:IsZip g7 z TI TO (rawInt g5.objs.size):=z7
 refine Z1h z7 (by simp) λg8 z8 b8=> ?_
 replace z8:IsZip g8 z TI TO (rawInt g5.objs.size):=z8
 have up:∀c o,c≠z->g5.get? c=some o->g8.get? c=some o:=λc o c1 e=>b8.extBut _ _ c1 (b7.extBut _ _ c1 (Z01 _ e));have p8:IsPair g8 g5.objs.size x y:=b8.extBut _ _ (Z1q zlt) (b7.extBut _ _ (Z1q zlt) (Z0c _ rfl));rw [hsz] at z8 p8;refine Z04 ⟨_,rfl,Z04 ?_⟩;show Q (some (.ref g5.objs.size)) _;rw [hsz];exact hQ g8 z8 (up _ _ D.TOz p5) (N1.mv s1 λo e=>up _ o D.i1z e) (N2.mv s2 λo e=>up _ o D.i2z e) p8 λc o c1 c2 c3 c4 e=>up c o c1 (k5 c o c1 c2 c3 c4 e)
theorem C1w (N1:Nx i1 l1 st1 src1) (N2:Nx i2 l2 st2 src2) {xs:Array Value} {a b:Value} (hh:A.handled=none) (D:ZipApart z TI TO i1 i2 l1 l2)
  (hz:IsZip s.heap z TI TO .none) (hTI:IsPair s.heap TI (.ref i1) (.ref i2)) (hTO:IsPair s.heap TO a b) (h1:st1 k1 s.heap) (h2:st2 k2 s.heap) (hl1:src1 xs s.heap) (hl2:src2 ys s.heap) (hend:xs[k1]? =none\/ys[k2]? =none)
  (hQ:∀h',(∀c o,c≠z->c≠TO->c≠i1->c≠i2->s.heap.get? c=some o->h'.get? c=some o)->Q none { s with heap:=h' }):wpAny (model prog w) A (pyNext (.ref z)) Q E s:=by
 have hT:s.TypeIs (.ref z) "zip":=⟨_,hz,rfl⟩;unfold pyNext
 have fin:∀(h':Heap) (e:Addr),(∀c o,c≠z->c≠TO->c≠i1->c≠i2->s.heap.get? c=some o->h'.get? c=some o)->(∃o,h'.get? e=some o/\o.cls= .type "StopIteration")->
   wpAny (model prog w) A (isInstance (.ref e) (.type "StopIteration") >>= λb=>if b=true then pure none else throw (.ref e)) Q E { s with heap:=h' }:=λh' e hk ⟨o,ho,hc⟩ =>
  Z00 (wpAny_isInstance (T:="StopIteration") (b:=true) ⟨o,ho,hc⟩ isSubtype_stop (Z04 (hQ _ hk)))
 walk_at "b";refine Z00 ?_;unfold Builtin.SmallTypes.ownedTupleIsFree;refine Z00 (Z11 hz rfl (x:= .none) rfl (Z04 ?_));simp only [if_true];refine Z00 (wpAny_rule ?_);refine Z00 (Z11 hz rfl (x:= .ref TO) rfl ?_);refine Z00 (Z1h hz (by simp) λg1 z1 b1=> ?_)
 replace z1:IsZip g1 z TI TO .ellipsis:=z1
 refine Z00 ?_;simp only [List.zipIdx_cons,List.zipIdx_nil,List.forIn_cons,List.forIn_nil];refine Z00 (Z00 (wpAny_onRaise ?_));show wpAny _ _ (Builtin.SmallTypes.nextOf (.ref i1) >>= _) _ _ _;have u1:=N1.mv h1 λo e=>b1.extBut _ _ D.i1z e;have v1:=N1.mvS hl1 λo e=>b1.extBut _ _ D.l1z e
 cases hx:xs[k1]? with
 | none =>
  refine Z00 (N1.fin hh u1 v1 hx λg2 e b2 he=> ?_);obtain ⟨oe,hoe,hce⟩:=he;have z2:IsZip g2 z TI TO .ellipsis:=b2 _ _ D.i1z.symm z1;have ez:e≠z:=λx=>by subst x;rw [z2] at hoe;cases hoe;simp at hce
  exact Z1h z2 (by simp) λg3 _ b3=>fin g3 e (λc o c1 _ c3 _ x=>b3.extBut _ _ c1 (b2 _ _ c3 (b1.extBut _ _ c1 x))) ⟨oe,b3.extBut _ _ ez hoe,hce⟩
 | some x =>
  have hy:ys[k2]? =none:=by
   rcases hend with h | h
   ·rw [hx] at h;cases h
   ·exact h
  refine Z00 (N1.item u1 v1 hx λg2 t2 b2=>Z04 ?_);have p2:IsPair g2 TO a b:=b2.extBut _ _ D.TOi1 (b1.extBut _ _ D.TOz hTO);refine Z00 (Z21 p2 rfl ?_);refine Z00 (wpAny_updateSeq_pair p2 λg3 p3 b3=> ?_);refine Z00 (wpAny_letGo (Z04 ?_));refine Z00 (Z00 (wpAny_onRaise ?_));show wpAny _ _ (Builtin.SmallTypes.nextOf (.ref i2) >>= _) _ _ _;refine Z00 (N2.fin hh (N2.mv h2 λo e=>b3.extBut _ _ D.TOi2.symm (b2.extBut _ _ D.i12.symm (b1.extBut _ _ D.i2z e))) (N2.mvS hl2 λo e=>b3.extBut _ _ D.l2TO (b2.extBut _ _ D.l2i1 (b1.extBut _ _ D.l2z e))) hy λg4 e b4 he=> ?_);obtain ⟨oe,hoe,hce⟩:=he;have z4:IsZip g4 z TI TO .ellipsis:=b4 _ _ D.i2z.symm (b3.extBut _ _ D.TOz.symm (b2.extBut _ _ D.i1z.symm z1));have ez:e≠z:=λx=>by subst x;rw [z4] at hoe;cases hoe;simp at hce
  exact Z1h z4 (by simp) λg5 _ b5=>fin g5 e (λc o c1 c2 c3 c4 x=>b5.extBut _ _ c1 (b4 _ _ c4 (b3.extBut _ _ c2 (b2.extBut _ _ c3 (b1.extBut _ _ c1 x))))) ⟨oe,b5.extBut _ _ ez hoe,hce⟩
end
section
variable {X:Cx} {pins:List (Addr×Obj)} {Z:St} {H:Hp} {s:Shared} {h':Heap}
theorem Inv.turnedNew {o:HO} (I:Inv X pins Z H s) (k:∀b u,b∉ts->s.heap.get? b=some u->h'.get? b=some u) (f:∀b∈ts,B9l X pins H b) (hp:s.heap.objs.size<=a)
  (new:A2c X.prog X.w (upd H a o) h' a o):Inv X pins Z (upd H a o) { s with heap:=h',toks:=t' }:=by
 have nt:∀b u,H b=some u->b∉ts:=λb u e z=>by have:=(f b z).1;rw [e] at this;cases this
 have na:∀b u,s.heap.get? b=some u->b≠a:=λb u e=>Z0h (Z0q (Z0a e) hp);have ha:H a=none:=I.hok.fresh hp
 refine I.step (g':=s.gens) (d':=s.drawn) (ch:=ts) (λb hb=>⟨(f b hb).2.2.2.1,(f b hb).2.1,(f b hb).2.2.2.2.1,(f b hb).2.2.2.2.2⟩) (λb u _ _ hc e _=>k b u hc e) (λb u _ _ hc e _=>⟨u.slots,k b u hc e⟩)
  (λb u _ e n=>by rw [A0h (na b u e)];exact n) (λb u hc e=>⟨u,k b u hc e⟩) (λb xs e=>by rw [A0h (A0i e ha)];exact e) (λb u xs e=>by rw [A0h (A0i e ha)];exact e)
  (λb ps e=>⟨#[],by rw [A0h (A0i e ha),e];simp⟩) (λm hm=> ?_) (λb u e=> ?_) I.bare
 ·obtain ⟨ob,es,ep,ho,r⟩:=hm;exact ⟨ob,es,ep,k _ ob (λz=>(f _ z).2.1 rfl) ho,r⟩
 ·by_cases hb:b=a
  ·subst hb;rw [A0b] at e;cases e;exact new
  ·rw [A0h hb] at e;refine (I.hok b u e).stay (λc v hc q=>k c v ?_ q) (λc q=>by rw [A0h (A0i q ha)];exact q) λc xs q=>by rw [A0h (A0i q ha)];exact q
   rcases hc with rfl | hc
   ·exact nt _ _ e
   ·exact nt _ _ hc
theorem Inv.turnedL (I:Inv X pins Z H s) (k:∀b u,b∉ts->s.heap.get? b=some u->h'.get? b=some u) (f:∀b∈ts,B9l X pins H b):Inv X pins Z H { s with heap:=h',toks:=t' }:=by
 have nt:∀b u,H b=some u->b∉ts:=λb u e z=>by have:=(f b z).1;rw [e] at this;cases this
 refine I.step (g':=s.gens) (d':=s.drawn) (ch:=ts) (λb hb=>⟨(f b hb).2.2.2.1,(f b hb).2.1,(f b hb).2.2.2.2.1,(f b hb).2.2.2.2.2⟩) (λb u _ _ hc e _=>k b u hc e) (λb u _ _ hc e _=>⟨u.slots,k b u hc e⟩)
  (λb u _ e n=>n) (λb u hc e=>⟨u,k b u hc e⟩) (λb xs e=>e) (λb u xs e=>e) (λb ps e=>⟨#[],by rw [e];simp⟩) (λm hm=> ?_) (λb u e=> ?_) I.bare
 ·obtain ⟨ob,es,ep,ho,r⟩:=hm;exact ⟨ob,es,ep,k _ ob (λz=>(f _ z).2.1 rfl) ho,r⟩
 ·refine (I.hok b u e).stay (λc v hc q=>k c v ?_ q) (λc q=>q) λc xs q=>q;rcases hc with rfl | hc
  ·exact nt _ _ e
  ·exact nt _ _ hc
end
def SqK (k:Bool) (K:Frag) (H:Hp) (a:Addr) (xs:List V):Prop:=match k with | true=>SqL K H a xs | false=>SqT K H a xs
def SrK (k:Bool) (h:Heap) (l:Addr) (xs:Array Value):Prop:=match k with | true=>h.IsList l xs | false=>h.IsTuple l xs
def StK (k:Bool) (it l:Addr) (i:Nat) (h:Heap):Prop:=match k with | true=>h.IsListIter it l i | false=>h.IsTupleIter it l i
abbrev itK (k:Bool):String:=match k with | true=>"list_iterator" | false=>"tuple_iterator"
theorem nxK:∀(k:Bool) (it l:Addr),Nx it l (λi h=>StK k it l i h) (λxs h=>SrK k h l xs)
 | true=>A8m
 | false=>A6m
theorem D8b {X:Cx} {pins:List (Addr×Obj)} {Z:St} {H:Hp} {s:Shared} {a:Addr} {xs:List V} (I:Inv X pins Z H s):∀{k:Bool},SqK k X.K H a xs->∃its:List Value,A2r xs its/\SrK k s.heap a its.toArray
 | true,h=>let ⟨its,rv,p,_⟩:=I.list h;⟨its,rv,p.isList⟩
 | false,h=>let ⟨its,rv,p,_⟩:=I.tuple h;⟨its,rv,p⟩
theorem E4m {X:Cx} {pins:List (Addr×Obj)} {Z:St} {H:Hp} {s:Shared} {a:Addr} {xs ys:List V} (I:Inv X pins Z H s):∀{k:Bool},SqK k X.K H a xs->SqK k X.K H a ys->xs=ys
 | true,h,g=>I.list_inj h g
 | false,h,g=>I.tuple_inj h g
theorem ltK {h:Heap} {l:Addr} {xs:Array Value}:∀{k:Bool},SrK k h l xs->l<h.objs.size
 | true,⟨_,e,_⟩=>Z0a e
 | false,⟨_,e,_⟩=>Z0a e
theorem D8u {prog:Program} {w:World} {A:Around} {E:Value->Shared->Prop} {s:Shared} {l:Addr} {xs:Array Value} {Q:Value->Shared->Prop}:∀{k:Bool},SrK k s.heap l xs->Q (.ref s.heap.objs.size) { s with heap:=s.heap.push { cls:= .type (itK k),data:= .fields #[.ref l,.int 0 0] } }->wpAny (model prog w) A (pyIter (.ref l)) Q E s
 | true,h,q=>wpAny_pyIter_list h q
 | false,h,q=>wpAny_pyIter_tuple h q
theorem E4i {h:Heap} {it l:Addr}:∀{k:Bool},h.get? it=some { cls:= .type (itK k),data:= .fields #[.ref l,.int 0 0] }->StK k it l 0 h
 | true,e=>⟨_,e,rfl,rfl⟩
 | false,e=>⟨_,e,rfl,rfl⟩
def Itk (k1 k2:Bool) (K:Frag) (a b:Addr):It :=
 ⟨λi H=>∃xs ys x y,SqK k1 K H a xs/\SqK k2 K H b ys/\xs[i]? =some x/\ys[i]? =some y,
  λi H v H'=>∃p,H p=none/\v= .ref p/\∃x y,(∀xs,SqK k1 K H a xs->xs[i]? =some x)/\(∀ys,SqK k2 K H b ys->ys[i]? =some y)/\H'=upd H p (.tup [x,y]),
  λi H=>∃xs ys,SqK k1 K H a xs/\SqK k2 K H b ys/\(xs.length<=i\/ys.length<=i)⟩
def D4q (k1 k2:Bool) (z TI TO i1 i2 a b:Addr) (i:Nat) (h:Heap):Prop:=IsZip h z TI TO .none/\IsPair h TI (.ref i1) (.ref i2)/\(∃u v,IsPair h TO u v)/\StK k1 i1 a i h/\StK k2 i2 b i h
theorem C9g {k1 k2:Bool} {z TI TO i1 i2:Addr} (D:ZipApart z TI TO i1 i2 a b) :
  C7a P w K (.Tuple elts kk pos) (Itk k1 k2 K a b) [z,TI,TO,i1,i2] z (D4q k1 k2 z TI TO i1 i2 a b) where
 mem:=by simp
 obj:=λi h st c hc=>by
  obtain ⟨h1,h2,⟨u,v,h3⟩,h4,h5⟩:=st;walk_at "i"
  ·exact ⟨_,h1,λv z=>by cases (show Data.fields _=Data.cell v from z)⟩
  ·exact ⟨_,h2,λv z=>by cases (show Data.seq _ _=Data.cell v from z)⟩
  ·exact ⟨_,h3,λv z=>by cases (show Data.seq _ _=Data.cell v from z)⟩
  ·exact (nxK k1 _ a).ob h4
  ·exact (nxK k2 _ b).ob h5
 keep:=λi h h' st k=>by
  obtain ⟨h1,h2,⟨u,v,h3⟩,h4,h5⟩:=st;exact ⟨k z (by simp) _ h1,k TI (by simp) _ h2,⟨u,v,k TO (by simp) _ h3⟩,(nxK k1 i1 a).mv h4 λo e=>k i1 (by simp) o e,(nxK k2 i2 b).mv h5 λo e=>k i2 (by simp) o e⟩
 item:=by
  walk_at "c";obtain ⟨xs,ys,x,y,hq1,hq2,hx,hy⟩:=hg;obtain ⟨its,rv,p1⟩:=D8b I hq1;obtain ⟨its2,rv2,p2⟩:=D8b I hq2;obtain ⟨u,hu,ru⟩:=rv.get hx;obtain ⟨u2,hu2,ru2⟩:=rv2.get hy;obtain ⟨h1,h2,⟨o1,o2,h3⟩,h4,h5⟩:=st;refine B6s (nxK k1 i1 a) (nxK k2 i2 b) D h1 h2 h3 h4 h5 p1 p2 (x:=u) (by simpa using hu) (y:=u2) (by simpa using hu2) λh' z1 z2 z3 z4 z5 kp=> ?_;refine ⟨_,rfl,wpAny_letOwnedTupleGo_zip (s:={ s with heap:=h' }) z1 λg zg sb=> ?_⟩
  have nz:s.heap.objs.size≠z:=Z1q (Z0a h1);have n2:TI<s.heap.objs.size:=Z0a h2;have n3:TO<s.heap.objs.size:=Z0a h3;have n4:i1<s.heap.objs.size:=let ⟨_,e,_⟩:=(nxK k1 i1 a).ob h4;Z0a e;have n5:i2<s.heap.objs.size:=let ⟨_,e,_⟩:=(nxK k2 i2 b).ob h5;Z0a e;have zq:IsPair g s.heap.objs.size u u2:=sb.extBut _ _ nz z5
  have I1:Inv X pins Z (upd H s.heap.objs.size (.tup [x,y])) { s with heap:=g,toks:=s.toks }:=I.turnedNew (ts:=[z,TI,TO,i1,i2]) (λc o hc e=>by
   simp only [Z0e,Z1i,or_false,not_or] at hc
   exact sb.extBut _ _ hc.1 (kp c o hc.1 hc.2.2.1 hc.2.2.2.1 hc.2.2.2.2 e)) hf (Z09 _) ⟨by show 2<=sizeLine;decide,[u,u2],.cons ru (.cons ru2 .nil),⟨_,zq,rfl,_,rfl⟩⟩
  refine ⟨.ref s.heap.objs.size,_,I1,rfl,⟨_,I.hok.fresh (Z09 _),rfl,x,y,λzs hz=>by rw [E4m I hz hq1];exact hx,λzs hz=>by rw [E4m I hz hq2];exact hy,rfl⟩,
   ⟨zg,sb.extBut _ _ D.TIz (kp _ _ D.TIz D.TITO D.TIi1 D.TIi2 h2),⟨_,_,sb.extBut _ _ D.TOz z2⟩,(nxK k1 i1 a).mv z3 λo e=>sb.extBut _ _ D.i1z e,(nxK k2 i2 b).mv z4 λo e=>sb.extBut _ _ D.i2z e⟩,λc hc=> ?_⟩
  have hcn:c≠s.heap.objs.size:=by
   walk_at "i"
   ·exact nz.symm
   ·exact Z0h n2
   ·exact Z0h n3
   ·exact Z0h n4
   ·exact Z0h n5
  rw [A0h hcn];exact (hf c hc).1
 done:=by
  walk_at "c";obtain ⟨xs,ys,hq1,hq2,hx⟩:=hg;obtain ⟨its,rv,p1⟩:=D8b I hq1;obtain ⟨its2,rv2,p2⟩:=D8b I hq2;have e1:=rv.length;have e2:=rv2.length;obtain ⟨h1,h2,⟨o1,o2,h3⟩,h4,h5⟩:=st;refine C1w (nxK k1 i1 a) (nxK k2 i2 b) (I.ok.hd hc) D h1 h2 h3 h4 h5 p1 p2 (by simp;lia) λh' kp=>⟨rfl,?_⟩
  exact I.turnedL (t':=s.toks) (ts:=[z,TI,TO,i1,i2]) (λc o hc e=>by
   simp only [Z0e,Z1i,or_false,not_or] at hc
   exact kp c o hc.1 hc.2.2.1 hc.2.2.2.1 hc.2.2.2.2 e) hf
 self:=λ_ _ _ _ _ st h=>wpAny_pyIter_zip st.1 h
abbrev E2i (k1:Bool) (h:Heap) (l1:Addr):Heap:=h.push { cls:= .type (itK k1),data:= .fields #[.ref l1,.int 0 0] }
abbrev E2e (k1 k2:Bool) (h:Heap) (l1 l2:Addr):Heap:=(E2i k1 h l1).push { cls:= .type (itK k2),data:= .fields #[.ref l2,.int 0 0] }
noncomputable abbrev E1z (k1 k2:Bool) (h:Heap) (l1 l2:Addr):Heap:=(E2e k1 k2 h l1 l2).push { cls:= .type "tuple",data:= .seq #[.ref h.objs.size,.ref (E2i k1 h l1).objs.size] }
noncomputable abbrev E1y (k1 k2:Bool) (h:Heap) (l1 l2:Addr):Heap:=(E1z k1 k2 h l1 l2).push { cls:= .type "tuple",data:= .seq #[.none,.none] }
noncomputable abbrev D8j (k1 k2:Bool) (h:Heap) (l1 l2:Addr):Heap:=(E1y k1 k2 h l1 l2).push { cls:= .type "zip",data:= .fields #[.none,.bool false,.bool false,.ref (E2e k1 k2 h l1 l2).objs.size,.ref (E1z k1 k2 h l1 l2).objs.size] }
theorem C6u (k1 k2:Bool) (l1 l2:Addr) (xs ys:Array Value):Meets (Builtin.«zip.__new__» ⟨[.type "zip",.ref l1,.ref l2],[]⟩) (λ_ R s=>SrK k1 s.heap l1 xs/\SrK k2 s.heap l2 ys/\
  R (.ok (.ret (.ref (E1y k1 k2 s.heap l1 l2).objs.size))) { s with heap:=D8j k1 k2 s.heap l1 l2 }) :=
 .of_wp λprog w A R s h=>by
  obtain ⟨hp,g,d,tk,os⟩:=s;obtain ⟨hl1,hl2,h⟩:=h;have hsub:=sub_zip;have hL1:SrK k1 (Shared.heap ⟨hp,g,d,tk,os⟩) l1 xs:=hl1;have hL2:SrK k2 (Shared.heap ⟨hp.push { cls:= .type (itK k1),data:= .fields #[.ref l1,.int 0 0] },g,d,tk,os⟩) l2 ys:=(nxK k2 0 l2).mvS hl2 λo e=>Z01 _ e
  wp_walk using D8u hL1,D8u hL2
  exact ⟨_,rfl,h⟩
theorem C1d {k1 k2:Bool} {prog:Program} {w:World} {A:Around} {E:Value->Shared->Prop} {s:Shared} {l1 l2:Addr} {xs ys:Array Value} {Q:Value->Shared->Prop} (hl1:SrK k1 s.heap l1 xs) (hl2:SrK k2 s.heap l2 ys)
  (h:∀h',D4q k1 k2 (s.heap.objs.size+4) (s.heap.objs.size+2) (s.heap.objs.size+3) s.heap.objs.size (s.heap.objs.size+1) l1 l2 0 h'->(∀c o,s.heap.get? c=some o->h'.get? c=some o)->Q (.ref (s.heap.objs.size+4)) { s with heap:=h' }) :
  wpAny (model prog w) A (call (.type "zip") [.ref l1,.ref l2]) Q E s:=by
 refine callType_new F.called_zip (by decide) (F.typeCall_zip_2 _ _) (F.newCall_zip_2 _ _) (λobj=>F.args_object_init_3 obj _ _) F.entry_zip_new (C6u k1 k2 l1 l2 xs ys) ⟨hl1,hl2,?_⟩;have z1:(E2i k1 s.heap l1).objs.size=s.heap.objs.size+1:=Z1s ..;have z2:(E2e k1 k2 s.heap l1 l2).objs.size=s.heap.objs.size+2:=by rw [Z1s,z1]
 have z3:(E1z k1 k2 s.heap l1 l2).objs.size=s.heap.objs.size+3:=by rw [Z1s,z2]
 have z4:(E1y k1 k2 s.heap l1 l2).objs.size=s.heap.objs.size+4:=by rw [Z1s,z3]
 have q5:(D8j k1 k2 s.heap l1 l2).get? (E1y k1 k2 s.heap l1 l2).objs.size=some _:=Z0c _ rfl;have q4:(D8j k1 k2 s.heap l1 l2).get? (E1z k1 k2 s.heap l1 l2).objs.size=some _:=Z01 _ (Z0c _ rfl);have q3:(D8j k1 k2 s.heap l1 l2).get? (E2e k1 k2 s.heap l1 l2).objs.size=some _:=Z01 _ (Z01 _ (Z0c _ rfl));have q2:(D8j k1 k2 s.heap l1 l2).get? (E2i k1 s.heap l1).objs.size=some _:=Z01 _ (Z01 _ (Z01 _ (Z0c _ rfl)));have q1:(D8j k1 k2 s.heap l1 l2).get? s.heap.objs.size=some _:=Z01 _ (Z01 _ (Z01 _ (Z01 _ (Z0c _ rfl))));show _/\_;rw [z2,z3,z4] at q5;rw [z1,z2] at q3;rw [z3] at q4;rw [z1] at q2;rw [z4];exact ⟨⟨_,q5,rfl⟩,h _ ⟨q5,q3,⟨_,_,q4⟩,E4i q1,E4i q2⟩ λc o x=>Z01 _ (Z01 _ (Z01 _ (Z01 _ (Z01 _ x))))⟩
def E3d (k1 k2:Bool) (K:Frag) (ta:TA):TI:=λZ H R=>ta Z H λvs H1=>∃a b xs ys,vs=[.ref a,.ref b]/\SqK k1 K H1 a xs/\SqK k2 K H1 b ys/\R (Itk k1 k2 K a b) H1
theorem C8e {k1 k2:Bool} {X:Cx} {elts:List Expr} {kk:Nat} {tpos:Pos} {a b:Expr} {ta:TA} {p pos:Pos} (hg:Gl X "zip") (hm:X.mg "zip"=none) (ha:PA X [a,b] ta) (hs:starEach [a,b] X.env=[(false,eval a X.env),(false,eval b X.env)]:=by rfl) (hs2:starEach [b] X.env=[(false,eval b X.env)]:=by rfl) :
  PI X (.Tuple elts kk tpos) (.Call (.Name "zip" p) [a,b] [] pos) (E3d k1 k2 X.K ta):=by
 intro pins s Z H R I h;refine Call_ (A7a I hg hm boot_zip (PyProof.Rows.callWith_type1 (thn (ha pos pins s Z H _ I h) λus s1 ⟨vs,H1,I1,r1,q1⟩=> ?_) (by rw [hs,hs2]) (by rw [hs2];rfl)));obtain ⟨l1,l2,xs,ys,e,hq1,hq2,q⟩:=q1;subst e;obtain ⟨u,u2,rfl,ru,ru2⟩:=C5r r1;cases ru;cases ru2;obtain ⟨its,rv,p1⟩:=D8b I1 hq1;obtain ⟨its2,rv2,p2⟩:=D8b I1 hq2;have t1:l1<s1.heap.objs.size:=ltK p1;have t2:l2<s1.heap.objs.size:=ltK p2;refine C1d p1 p2 λh' zs kp=>wpAny_pyIter_zip zs.1 ?_;have I2:Inv X pins Z H1 { s1 with heap:=h' }:=I1.kept (t':=s1.toks) kp;refine ⟨_,[s1.heap.objs.size+4,s1.heap.objs.size+2,s1.heap.objs.size+3,s1.heap.objs.size,s1.heap.objs.size+1],_,_,H1,rfl,I2,C9g (zipApart_new t1 t2),zs,λc hc=> ?_,q⟩
 have hle:s1.heap.objs.size<=c:=by
  walk_at "i"
  ·exact Nat.le_add_right _ _
  ·exact Nat.le_add_right _ _
  ·exact Nat.le_add_right _ _
  ·exact Z09 _
  ·exact Nat.le_add_right _ _
 exact I1.fpOk hle (I1.hok.fresh hle)
theorem C3n {k1 k2:Bool} {xs ys:List V} (Pv:Nat->St->Hp->Prop) (h0:Pv 0 Z H) (hl:∀i Z H,Pv i Z H->SqK k1 K H a xs/\SqK k2 K H b ys) (hlen:xs.length<=ys.length)
  (hs:∀i x y Z H p,xs[i]? =some x->ys[i]? =some y->Pv i Z H->H p=none->g (.ref p) Z (upd H p (.tup [x,y])) λZ2 H2=>tb { D with nx:=Pv (i+1),ct:=Pv (i+1),bk:=D.nx } Z2 H2) (hd:∀Z H,Pv xs.length Z H->D.nx Z H) :
  ∃W:Nat->Nat->St->Hp->Prop,(∃m,W 0 m Z H)/\∀i m Z H,W i m Z H->
   ((Itk k1 k2 K a b).stop i H/\D.nx Z H)\/((Itk k1 k2 K a b).go i H/\∃N:St->Hp->Prop,(∀Z' H',N Z' H'->∃m',m'<m/\W (i+1) m' Z' H')/\∀x H',(Itk k1 k2 K a b).yld i H x H'->g x Z H' λZ2 H2=>tb { D with nx:=N,ct:=N,bk:=D.nx } Z2 H2):=by
 walk_at "e";obtain ⟨q1,q2⟩:=hl i Z H p;by_cases hlt:i<xs.length
 ·have e1:xs[i]? =some xs[i]:=Z0b hlt;have e2:ys[i]? =some (ys[i]'(by lia)):=Z0b _;refine .inr ⟨⟨xs,ys,_,_,q1,q2,e1,e2⟩,Pv (i+1),λZ' H' p'=>⟨xs.length-(i+1),by lia,rfl,hlt,p'⟩,λv H' y=> ?_⟩;obtain ⟨c,hc,rfl,x,z,f1,f2,rfl⟩:=y;exact hs i x z Z H c (f1 xs q1) (f2 ys q2) p hc
 ·have e:i=xs.length:=by lia
  subst e;exact .inl ⟨⟨xs,ys,q1,q2,.inl (Z09 _)⟩,hd Z H p⟩
abbrev C2f:= @C1d true false
abbrev D1b:= @C8e true false
abbrev D5f {K:Frag} {a b:Addr} {xs ys:List V} {g:TG} {tb:TS} {D:B6f} {Z:St} {H:Hp} (Pv:Nat->St->Hp->Prop) (h0:Pv 0 Z H) (hl:∀i Z H,Pv i Z H->SqL K H a xs/\SqT K H b ys) (hlen:xs.length=ys.length):=C3n (k1:=true) (k2:=false) (g:=g) (tb:=tb) (D:=D) Pv h0 hl (Nat.le_of_eq hlen)
def Itv (K:Frag) (a:Addr) (n:Nat):It :=
 ⟨λi H=>∃xs x,SqL K H a xs/\xs.length=n/\i<n/\xs[n-1-i]? =some x,λi H x H'=>H'=H/\∀xs,SqL K H a xs->xs[n-1-i]? =some x,λi _=>i=n⟩
theorem D1f (a it:Addr) (n:Nat):C7a P w K tg (Itv K a n) [it] it (λi h=>h.IsRevIter it a ((n:Int)-1-(i:Int))) where
 mem:=by simp
 obj:=λi h st b hb=>by
  have e:b=it:=by simpa using hb
  subst e;obtain ⟨o,e,c,d⟩:=st;exact ⟨o,e,λv z=>by rw [d] at z;cases z⟩
 keep:=λi h h' st k=>st.at λo e=>k it (by simp) o e
 item:=by
  walk_at "c";obtain ⟨xs,x,hq,hn,hi,hx⟩:=hg;obtain ⟨its,rv,p,hz⟩:=I.list hq;obtain ⟨u,hu,ru⟩:=rv.get hx;walk_at "f";have e1:(n:Int)-1-(i:Int)=((n-1-i:Nat):Int):=by lia
  rw [e1] at st;refine wpAny_pyNext_rev_item st p.isList (x:=u) (by simpa using hu) λh' st' sb=> ?_;have I1:Inv X pins Z H { s with heap:=h' }:=I.turned (t':=s.toks) (λb o hb e=>(sb.2 b hb).trans e) f0 f1 f3 f4 f5
  have e2:((n-1-i:Nat):Int)-1=(n:Int)-1-((i+1:Nat):Int):=by lia
  rw [e2] at st';obtain ⟨o,e,c,d⟩:=id st';exact ⟨u,rfl,C3g (s:={ s with heap:=h' }) e c d (by decide) ⟨x,H,I1,ru,⟨rfl,λys hy=>by rw [I.list_inj hy hq];exact hx⟩,st',λb hb=>(hf b hb).1⟩⟩
 done:=by
  walk_at "c";have hi:i=n:=hg;subst hi;walk_at "f";have e1:(i:Int)-1-(i:Int)= -1:=by lia
  rw [e1] at st;exact wpAny_pyNext_rev_end (I.ok.hd hc) st λh' eb=>⟨rfl,I.turned (t':=s.toks) (λb o hb e=>eb b o hb e) f0 f1 f3 f4 f5⟩
 self:=λ_ _ _ _ _ st h=>wpAny_pyIter_revIter st h
def iRev (K:Frag) (ta:TA):TI:=λZ H R=>ta Z H λvs H1=>∃a xs,vs=[.ref a]/\SqL K H1 a xs/\R (Itv K a xs.length) H1
theorem D9s {a:Expr} {p:Pos} (hg:Gl X "reversed") (hm:X.mg "reversed"=none) (ha:PA X [a] ta) (hs:starEach [a] X.env=[(false,eval a X.env)]:=by rfl) :
  PI X tg (.Call (.Name "reversed" p) [a] [] pos) (iRev X.K ta):=by
 intro pins s Z H R I h;refine Call_ (A7a I hg hm boot_reversed (PyProof.Rows.callWith_type1 (thn (ha pos pins s Z H _ I h) λus s1 ⟨vs,H1,I1,r1,q1⟩=> ?_) hs rfl));obtain ⟨l,xs,e,hq,q⟩:=q1;subst e;obtain ⟨u,rfl,ru⟩:=B4x r1;cases ru;obtain ⟨its,rv,p1,_⟩:=I1.list hq;have en:(its.toArray.size:Int)-1=(xs.length:Int)-1-((0:Nat):Int):=by rw [Z0g,<-rv.length];lia
 refine call_reversed_list p1.isList ?_;rw [en];have st:(s1.heap.push (revObj l ((xs.length:Int)-1-((0:Nat):Int)))).IsRevIter s1.heap.objs.size l ((xs.length:Int)-1-((0:Nat):Int)):=⟨_,Z0c _ rfl,rfl,rfl⟩;refine wpAny_pyIter_revIter (s:={ s1 with heap:=s1.heap.push (revObj l ((xs.length:Int)-1-((0:Nat):Int))) }) st ?_;refine ⟨_,[s1.heap.objs.size],_,_,H1,rfl,I1.kept (t':=s1.toks) λb o e=>Z01 _ e,D1f l _ xs.length,st,λb hb=> ?_,q⟩
 have e:b=s1.heap.objs.size:=by simpa using hb
 subst e;exact I1.fpOk (Z09 _) (I1.hok.fresh (Z09 _))
theorem D5r {xs:List V} (Pv:Nat->St->Hp->Prop) (h0:Pv 0 Z H) (hl:∀i Z H,Pv i Z H->SqL K H a xs)
  (hs:∀i x Z H,i<xs.length->xs[xs.length-1-i]? =some x->Pv i Z H->g x Z H λZ2 H2=>tb { D with nx:=Pv (i+1),ct:=Pv (i+1),bk:=D.nx } Z2 H2) (hd:∀Z H,Pv xs.length Z H->D.nx Z H) :
  ∃W:Nat->Nat->St->Hp->Prop,(∃m,W 0 m Z H)/\∀i m Z H,W i m Z H->
   ((Itv K a xs.length).stop i H/\D.nx Z H)\/((Itv K a xs.length).go i H/\∃N:St->Hp->Prop,(∀Z' H',N Z' H'->∃m',m'<m/\W (i+1) m' Z' H')/\∀x H',(Itv K a xs.length).yld i H x H'->g x Z H' λZ2 H2=>tb { D with nx:=N,ct:=N,bk:=D.nx } Z2 H2):=by
 walk_at "e";have q:=hl i Z H p;by_cases hlt:i<xs.length
 ·refine .inr ⟨⟨xs,xs[xs.length-1-i],q,rfl,hlt,Z0b _⟩,Pv (i+1),λZ' H' p'=>⟨xs.length-(i+1),by lia,rfl,hlt,p'⟩,λx H' y=> ?_⟩;obtain ⟨e,y⟩:=y;subst e;exact hs i x Z _ hlt (y xs q) p
 ·have e:i=xs.length:=by lia
  subst e;exact .inl ⟨rfl,hd Z H p⟩
structure C8y (X:Cx) (scope:Scope) (cl:List (Str×Addr)):Prop where
 eq:closureFor scope X.env=pure cl
 sub:∀x c,cl.lookup x=some c->X.env.cells.lookup x=some c
 has:∀x,((relabel scope X.env).names.lookup x=some .cell\/(relabel scope X.env).names.lookup x=some .free)->∃c,cl.lookup x=some c
 kind:scope.kind= .function
 ncell:∀y∈scope.names,y.2≠.cell
 names:∀y∈scope.names,y.2= .local->scope.names.lookup y.1=some .local
noncomputable def blk (X:Cx) (N':List Str) (scope:Scope) (cl:List (Str×Addr)) (C:Addr) (s₀:Shared) (H₀:Hp) (fp:List Addr):Cx :=
 { X with N:=N',s₀:=s₀,H₀:=H₀,env:=compEnvC scope cl C X.env,outer:=X.stack,ex:=fp,fn:=λ_=>false,pn:=[],xe:=λ_ _=>False }
def A6p (ix:List (Option Nat)) (Z:St):St:=ix.map λo=>o.bind λj=>(Z[j]?).bind id
section
variable {X:Cx} {pins:List (Addr×Obj)} {Z:St} {H:Hp} {s:Shared} {N':List Str} {scope:Scope} {cl:List (Str×Addr)} {fp:List Addr} {ix:List (Option Nat)}
def D0v (X:Cx) (N':List Str) (scope:Scope) (ix:List (Option Nat)):Prop :=
 ix.length=N'.length/\∀i j:Nat,ix[i]? =some (some j)->∃x,N'[i]? =some x/\X.N[j]? =some x/\(X.env.scope.names.lookup x=some .cell\/X.env.scope.names.lookup x=some .free)/\
  ((relabel scope X.env).names.lookup x=some .cell\/(relabel scope X.env).names.lookup x=some .free)
theorem D9b (I:Inv X pins Z H s) (ck:C8y X scope cl) (f:∀b∈fp,B9l X pins H b) (hlt:∀b∈fp,b<s.heap.objs.size):(blk X N' scope cl s.heap.objs.size s H fp).Ok where
 mod:=I.ok.mod
 kind:=ck.kind
 glob:=I.ok.glob
 blt:=I.ok.blt
 above:=Z09 _
 inj:=λx y c h1 h2=>I.ok.inj x y c (ck.sub x c h1) (ck.sub y c h2)
 has:=λx h=>ck.has x h
 cab:=λx c h=>by cases h
 hd:=I.ok.hd
 frames:=I.ok.frames
 stk:= .inl rfl
 exf:=λb hb=>⟨Z0h (hlt b hb),λx c h=>(f b hb).2.2.2.2.1 x c (ck.sub x c h)⟩
 bs:=I.bs
 bsz:=Z1n I.ok.bsz I.sz
 noex:=λb o e hb=>by
  rcases (f b hb).2.2.2.1 with z | z
  ·exact I.ok.noex b o e z
  ·exact absurd (Z0q (Z0a (I.ok.bs b o e).1) z) (Nat.lt_irrefl _)
 exfs:=λb hb hs=>by
  rcases Z0e.mp (I.stkSub b hs) with z | z
  ·exact (f b hb).2.1 z
  ·exact (f b hb).2.2.1 z
 funs:=I.stack
 frf:=I.stkFree
theorem C0t (I:Inv X pins Z H s) (ck:C8y X scope cl) (io:D0v X N' scope ix) (f:∀b∈fp,B9l X pins H b) (hlt:∀b∈fp,b<s.heap.objs.size) {m:Str->Option Value}
  (hn:h'.Ns s.heap.objs.size m) (k:∀b o,s.heap.get? b=some o->h'.get? b=some o):Inv (blk X N' scope cl s.heap.objs.size s H fp) [] (A6p ix Z) H { s with heap:=h',toks:=t' }:=by
 have cl':∀x c,cl.lookup x=some c->∃v,s.heap.IsCell c v:=λx c h=>I.cell x c (ck.sub x c h);refine ⟨D9b I ck f hlt,rfl,I.bare,Un.kept k,⟨m,hn,λi x v e1 e2 e3=> ?_⟩,λx c e=> ?_,I.hok.fresh (Z09 _),λx c e=>I.freeC x c (ck.sub x c e),(λp hp=>by cases hp),I.hok.kept k,?_⟩
 ·unfold A6p at e2;rw [Z1z] at e2
  cases hi:ix[i]? with
  | none=>rw [hi] at e2;cases e2
  | some o =>
   rw [hi] at e2
   cases o with
   | none=>cases Z1a e2
   | some j =>
    have e2':(Z[j]?).bind id=some v:=Z1a e2;obtain ⟨x',n1,n2,k1,k2⟩:=io.2 i j hi;have ex:x'=x:=Z1a (n1.symm.trans e1);subst ex
    have es:Z[j]? =some (some v):=by
     cases q:Z[j]? with
     | none=>rw [q] at e2';cases e2'
     | some w =>
      rw [q] at e2';exact congrArg some e2'
    obtain ⟨m0,_,hl⟩:=I.loc;obtain ⟨u,ru,lo⟩:=hl j x' v n2 es (k1.elim (λz=> .inr (.inl z)) λz=> .inr (.inr z));refine ⟨u,ru,.inr ⟨k2,?_⟩⟩;obtain ⟨c,hc⟩:=ck.has x' k2;refine ⟨c,hc,?_⟩;rcases lo with ⟨z,_⟩ | ⟨_,c',hc',ic⟩
    ·exfalso;have z':X.env.scope.names.lookup x'=some .local:=z;rcases k1 with k1 | k1 <;> (rw [z'] at k1;cases k1)
    ·have ec:c'=c:=Z1a (hc'.symm.trans (ck.sub x' c hc));subst ec;obtain ⟨o,ho,hd⟩:=ic;exact ⟨o,k _ _ ho,hd⟩
 ·obtain ⟨v,o,ho,hd⟩:=cl' x c e;exact ⟨v,o,k _ _ ho,hd⟩
 ·unfold A6p;rw [Z08];exact io.1
theorem C7m (I:Inv X pins Z H s) (f:∀b∈fp,B9l X pins H b) {Z':St} {s':Shared} {pl:List (Addr×Obj)} (J:Inv (blk X N' scope cl s.heap.objs.size s H fp) pl Z' H' s') (sb:Heap.SameBut s.heap.objs.size s'.heap h') :
  Inv X pins Z H' { s' with heap:=h' }:=by
 have nC:∀b o,s.heap.get? b=some o->b≠s.heap.objs.size:=λb o e=>Z0h (Z0a e);have hC:H' s.heap.objs.size=none:=J.free;have u:Un (frs X.stack) fp H H' s.heap s'.heap:=J.base
 refine I.call' (ch:=fp) (s':={ s' with heap:=h' }) J.os ⟨λb o e n hb hx=>(sb.2 b (nC b o e)).trans (u.keep b o e n hb hx),λb o e n hb hx=> ?_,u.free,λb o e hx=> ?_,u.tups,u.frzs,u.tbls⟩ (λb o e=> ?_) J.bare
  (λb hb=>⟨(f b hb).2.2.2.1,(f b hb).2.1,(f b hb).2.2.2.2.1,(f b hb).2.2.2.2.2⟩)
 ·obtain ⟨sl,q⟩:=u.slot b o e n hb hx;exact ⟨sl,(sb.2 b (nC b o e)).trans q⟩
 ·obtain ⟨o',q⟩:=u.there b o e hx;exact ⟨o',(sb.2 b (nC b o e)).trans q⟩
 ·refine (J.hok b o e).stay (λc v hc q=>(sb.2 c ?_).trans q) (λc q=>q) λc xs q=>q;rcases hc with rfl | hc
  ·exact A0i e hC
  ·exact A0i hc hC
end
def A3b:St->St->Prop
 | [],_=>True
 | none::r,_::r'=>A3b r r'
 | none::r,[]=>A3b r []
 | some v::r,w::r'=>w=some v/\A3b r r'
 | some _::_,[]=>False
theorem A3b.get:∀{a b:St},A3b a b->∀(j:Nat) v,a[j]? =some (some v)->b[j]? =some (some v)
 | [],_,_,_,_,e=>by simp at e
 | none::r,_::r',h,0,v,e=>by simp at e
 | none::r,_::r',h,j+1,v,e=>by simpa using A3b.get (a:=r) (b:=r') h j v (by simpa using e)
 | none::r,[],h,0,v,e=>by simp at e
 | none::r,[],h,j+1,v,e=>by have:=A3b.get (a:=r) (b:=[]) h j v (by simpa using e);simp at this
 | some w::r,_::r',h,0,v,e=>by
  have e':w=v:=by simpa using e
  subst e'
  simpa using h.1
 | some _::r,_::r',h,j+1,v,e=>by simpa using A3b.get (a:=r) (b:=r') h.2 j v (by simpa using e)
section
variable {X:Cx}
def D9e (ix:List (Option Nat)) (wi:TI) (g:TG) (te:TE):TE:=λZ H Q=>wi Z H λJ H1=>∀D,H1 D=none->∃W:Nat->Nat->Hp->Prop,(∃m,W 0 m (upd H1 D (.lst [])))/\∀i m H2,W i m H2->
 (J.stop i H2/\Q (.ref D) H2)\/(J.go i H2/\∃N:VK,(∀y H5,N y H5->∃xs,H5 D=some (.lst xs)/\xs.length<sizeLine/\∃m',m'<m/\W (i+1) m' (upd H5 D (.lst (xs++[y]))))/\∀x H3,J.yld i H2 x H3->g x (A6p ix Z) H3 λZ4 H4=>A3b (A6p ix Z) Z4/\te Z4 H4 N)
end
section
variable {X:Cx} {m:Str} {pos apos:Pos} {e o:Expr} {es:List Expr} {ta:TE} {t:TA}
def E1o (X:Cx) (m:Str) (ta:TE) (t:TA):TE:=λZ H Q=>ta Z H λx H1=>∃(a C dx:Addr) (fs:List (Str×V)) (k:Nat) (f:Addr) (fd:FuncData) (ps:List Str) (sp:Sp),x= .ref a/\H1 a=some (.ins C dx fs)/\Cls X.K C/\C4k X.K C m f/\fs.lookup m=none/\
 A4q X.prog X.w X.K X.mg X.base CX0 k f fd ps sp/\B0y k X.A/\B0z X.K fd ps []/\t Z H1 λvs H2=>sp (x::vs) H2 Q E0
theorem A7k {pl:Sem Bool} (he:PE X o ta) (ha:PA X (e::es) t)
  (hst:starEach (e::es) X.env=(false,eval e X.env)::starEach es X.env:=by rfl) (hpl:(backTo pos (starEach es X.env)).any (·.1)=false:=by rfl)
  (ht:eval (.Call (.Attribute o m apos) (e::es) [] pos) X.env=(do
   let ov<-eval o X.env
   standAt apos.atName
   let (f,first)<-holding [ov] (getMethod ov m pl)
   callWith pos f first (backTo pos (starEach (e::es) X.env)) (backToKw pos (keywordEach [] X.env))):=by rfl) :
  PE X (.Call (.Attribute o m apos) (e::es) [] pos) (E1o X m ta t):=by
 intro pins s Z H Q I h;refine PySem.W.methodCall_KW (pl:=pl) (thn (he pins s Z H _ I h) ?_) ht;rintro u s1 ⟨x,H1,I1,rx,a,C,dx,fs,k,f,fd,ps,sp,ex,ea,c,hm,l,F,hr,hb,q⟩;subst ex;obtain rfl:u=Value.ref a:=rx;refine C5p I1 ea c hm l ?_;refine PySem.W.callWith_K (first:=[.ref a]) (h₀:=X.base) I.ok.mod.kin hm.kp (thn (ha pos pins s1 Z H1 _ I1 q) λus s2 ⟨vs,H2,I2,r,q2⟩=>⟨I2.kIn,?_⟩) hst hpl;exact D4j (us:= .ref a::us) (vs:= .ref a::vs) (dvs:=[]) F hr hb .nil D6f I2 (.cons rfl r) (by rw [Z0u];exact q2)
end
mutual
inductive Rep (H:Hp):V->PyData->Prop
 | non:Rep H .non .none
 | bl (b:Bool):Rep H (.bl b) (.bool b)
 | int (i:Int):Rep H (.int i) (.int i)
 | str (x:Str):Rep H (.str x) (.str x)
 | lst {p:Addr} {xs:List V} {ds:List PyData}:H p=some (.lst xs)->A5b H xs ds->Rep H (.ref p) (.list ds)
 | tup {p:Addr} {xs:List V} {ds:List PyData}:H p=some (.tup xs)->A5b H xs ds->Rep H (.ref p) (.tuple ds)
inductive A5b (H:Hp):List V->List PyData->Prop
 | nil:A5b H [] []
 | cons {v:V} {vs:List V} {d:PyData} {ds:List PyData}:Rep H v d->A5b H vs ds->A5b H (v::vs) (d::ds)
end
mutual
theorem Rep.imp {H H':Hp} (f:∀p o,H p=some o->H' p=some o):∀{v:V} {d:PyData},Rep H v d->Rep H' v d
 | _,_,.non=> .non
 | _,_,.bl b=> .bl b
 | _,_,.int i=> .int i
 | _,_,.str x=> .str x
 | _,_,.lst e r=> .lst (f _ _ e) (A5b.imp f r)
 | _,_,.tup e r=> .tup (f _ _ e) (A5b.imp f r)
theorem A5b.imp {H H':Hp} (f:∀p o,H p=some o->H' p=some o):∀{vs:List V} {ds:List PyData},A5b H vs ds->A5b H' vs ds
 | _,_,.nil=> .nil
 | _,_,.cons a r=> .cons (Rep.imp f a) (A5b.imp f r)
end
theorem Rep.same {d:PyData} (h:Rep H v d) (s:A0r H H'):Rep H' v d:=h.imp s
theorem A5b.same {v:List V} {d:List PyData} (h:A5b H v d) (s:A0r H H'):A5b H' v d:=h.imp s
theorem A5b.len {H:Hp}:∀{vs:List V} {ds:List PyData},A5b H vs ds->vs.length=ds.length
 | _,_,.nil=>rfl
 | _,_,.cons _ r=>by rw [Z0y,Z0y,A5b.len r]
theorem A5b.snoc {H:Hp} {v:V} {d:PyData} (a:Rep H v d):∀{vs:List V} {ds:List PyData},A5b H vs ds->A5b H (vs++[v]) (ds++[d])
 | _,_,.nil=> .cons a .nil
 | _,_,.cons b r=> .cons b (A5b.snoc a r)
theorem A5b.strs {H:Hp}:∀xs:List Str,A5b H (xs.map V.str) (xs.map PyData.str)
 | []=> .nil
 | x::r=> .cons (.str x) (A5b.strs r)
section
variable {X:Cx} {pins:List (Addr×Obj)} {Z:St} {H:Hp} {s:Shared}
mutual
theorem A8h (I:Inv X pins Z H s):∀{v:V} {d:PyData} {u:Value},Rep H v d->A2u v u->∃as,Reads s.heap u d as
 | _,_,u,.non,r=>by cases (show u=Value.none from r);exact ⟨_,.none⟩
 | _,_,u,.bl b,r=>by cases (show u=Value.bool b from r);exact ⟨_,.bool b⟩
 | _,_,u,.int i,r=>by obtain ⟨t,q⟩:=(show∃t,u=Value.int i t from r);cases q;exact ⟨_,.int i t⟩
 | _,_,u,.str x,r=>by obtain ⟨t,q⟩:=(show∃t,u=Value.str x t from r);cases q;exact ⟨_,.str x t⟩
 | _,_,u,@Rep.lst _ p xs ds e q,r=>by
  cases (show u=Value.ref p from r)
  obtain ⟨_,its,n,rv,ho⟩:=(show A2c X.prog X.w H s.heap p (.lst xs) from I.hok p _ e);obtain ⟨as,z⟩:=B1n I q rv;exact ⟨_,Reads.list ho rfl rfl (by simpa using z)⟩
 | _,_,u,@Rep.tup _ p xs ds e q,r=>by
  cases (show u=Value.ref p from r)
  obtain ⟨_,its,rv,o,ho,hc,n,hd⟩:=(show A2c X.prog X.w H s.heap p (.tup xs) from I.hok p _ e);obtain ⟨as,z⟩:=B1n I q rv;exact ⟨_,Reads.tuple ho hc hd (by simpa using z)⟩
theorem B1n (I:Inv X pins Z H s):∀{vs:List V} {ds:List PyData} {us:List Value},A5b H vs ds->A2r vs us->∃as,ReadsAll s.heap us ds as
 | _,_,_,.nil,.nil=>⟨_,.nil⟩
 | _,_,_,.cons a r,.cons q rv=>by
  obtain ⟨as,z⟩:=A8h I a q;obtain ⟨bs,y⟩:=B1n I r rv;exact ⟨_,.cons z y⟩
end
end
def E4k (neg:Bool):R2:=λx y H Q=>∃d e,Rep H x d/\Rep H y e/\SeqAt.shaped d=true/\SeqAt.shaped e=true/\Q (.bl (if neg then !PyData.eqv d e else PyData.eqv d e)) H
section
variable {X:Cx}
theorem E1p (hu:X.A.units+64<cLine):OpR X (compareOp .Eq) (E4k false):=by
 walk_at "l";obtain ⟨d,e,h1,h2,s1,s2,q⟩:=h;obtain ⟨as,r1⟩:=A8h I h1 rx;obtain ⟨bs,r2⟩:=A8h I h2 ry;exact eq_dataH r1 r2 s1 s2 hu ⟨.bl (PyData.eqv d e),H,I,rfl,q⟩
theorem E0v (hu:X.A.units+64<cLine):OpR X (compareOp .NotEq) (E4k true):=by
 walk_at "l";obtain ⟨d,e,h1,h2,s1,s2,q⟩:=h;obtain ⟨as,r1⟩:=A8h I h1 rx;obtain ⟨bs,r2⟩:=A8h I h2 ry;exact ne_dataH r1 r2 s1 s2 hu ⟨.bl (!PyData.eqv d e),H,I,rfl,q⟩
end
theorem A2x (hk:scope.kind= .function) (hn:∀y∈scope.names,y.2≠.free/\y.2≠.cell) (hl:∀y∈scope.names,y.2= .local->scope.names.lookup y.1=some .local):C8y X scope [] where
 eq:=closureFor_none λy hy=>(hn y hy).1
 sub:=λx c h=>by cases h
 has:=λx h=>by
  exfalso
  have e:(relabel scope X.env).names=scope.names:=map_eq_self λy hy=>by
   obtain ⟨n,k⟩:=y;have z:=(hn _ hy).1;have z':(k == NameKind.free)=false:=by simpa using z
   simp [z']
  rw [e] at h
  have mem:∀{k:NameKind},scope.names.lookup x=some k->(x,k)∈scope.names:=λ{k} q=>by
   generalize scope.names=l at q
   induction l with
   | nil=>cases q
   | cons a r ih =>
    obtain ⟨n,k'⟩:=a;rw [Z28] at q;split at q
    ·rename_i hb;have hb':x=n:=by simpa using hb
     cases q
     subst hb';exact .head _
    ·exact .tail _ (ih q)
  rcases h with h | h
  ·exact (hn _ (mem h)).2 rfl
  ·exact (hn _ (mem h)).1 rfl
 kind:=hk
 ncell:=λy hy=>(hn y hy).2
 names:=hl
theorem A2y (h:n=N'.length):D0v X N' scope (List.replicate n none):=⟨by rw [List.length_replicate];exact h,λi j e=>by
 rw [List.getElem?_replicate] at e
 split at e <;> cases e⟩
section
variable {K:Frag} {a D:Addr} {xs:List V} {g:TG} {te:TE} {Q:VK} {Z₀:St} {H:Hp}
theorem C9s (Pv:Nat->List V->Hp->Prop) (h0:Pv 0 [] (upd H D (.lst []))) (hl:∀i ys H,Pv i ys H->SqL K H a xs)
  (hs:∀i x ys H,xs[i]? =some x->Pv i ys H->g x Z₀ H λZ4 H4=>A3b Z₀ Z4/\te Z4 H4 λy H5=>H5 D=some (.lst ys)/\ys.length<sizeLine/\Pv (i+1) (ys++[y]) (upd H5 D (.lst (ys++[y])))) (hd:∀ys H,Pv xs.length ys H->Q (.ref D) H) :
  ∃W:Nat->Nat->Hp->Prop,(∃m,W 0 m (upd H D (.lst [])))/\∀i m H2,W i m H2->
   ((Itl K a).stop i H2/\Q (.ref D) H2)\/((Itl K a).go i H2/\∃N:VK,(∀y H5,N y H5->∃xs,H5 D=some (.lst xs)/\xs.length<sizeLine/\∃m',m'<m/\W (i+1) m' (upd H5 D (.lst (xs++[y]))))/\
    ∀x H3,(Itl K a).yld i H2 x H3->g x Z₀ H3 λZ4 H4=>A3b Z₀ Z4/\te Z4 H4 N):=by
 walk_at "m";by_cases hlt:i<xs.length
 ·refine .inr ⟨⟨xs,xs[i],q,by simp [hlt]⟩,λy H5=>H5 D=some (.lst ys)/\ys.length<sizeLine/\Pv (i+1) (ys++[y]) (upd H5 D (.lst (ys++[y]))),λy H5 n=>⟨ys,n.1,n.2.1,xs.length-(i+1),by lia,rfl,hlt,_,n.2.2⟩,λx H3 z=> ?_⟩;obtain ⟨e,z⟩:=z;subst e;exact hs i x ys _ (z xs q) p
 ·have e:i=xs.length:=by lia
  subst e;exact .inl ⟨⟨xs,q,Z09 _⟩,hd ys H2 p⟩
theorem D2y (Pv:Nat->List V->Hp->Prop) (h0:Pv 0 [] (upd H D (.lst []))) (hl:∀i ys H,Pv i ys H->SqT K H a xs)
  (hs:∀i x ys H,xs[i]? =some x->Pv i ys H->g x Z₀ H λZ4 H4=>A3b Z₀ Z4/\te Z4 H4 λy H5=>H5 D=some (.lst ys)/\ys.length<sizeLine/\Pv (i+1) (ys++[y]) (upd H5 D (.lst (ys++[y])))) (hd:∀ys H,Pv xs.length ys H->Q (.ref D) H) :
  ∃W:Nat->Nat->Hp->Prop,(∃m,W 0 m (upd H D (.lst [])))/\∀i m H2,W i m H2->
   ((Itt K a).stop i H2/\Q (.ref D) H2)\/((Itt K a).go i H2/\∃N:VK,(∀y H5,N y H5->∃xs,H5 D=some (.lst xs)/\xs.length<sizeLine/\∃m',m'<m/\W (i+1) m' (upd H5 D (.lst (xs++[y]))))/\
    ∀x H3,(Itt K a).yld i H2 x H3->g x Z₀ H3 λZ4 H4=>A3b Z₀ Z4/\te Z4 H4 N):=by
 walk_at "m";by_cases hlt:i<xs.length
 ·refine .inr ⟨⟨xs,xs[i],q,by simp [hlt]⟩,λy H5=>H5 D=some (.lst ys)/\ys.length<sizeLine/\Pv (i+1) (ys++[y]) (upd H5 D (.lst (ys++[y]))),λy H5 n=>⟨ys,n.1,n.2.1,xs.length-(i+1),by lia,rfl,hlt,_,n.2.2⟩,λx H3 z=> ?_⟩;obtain ⟨e,z⟩:=z;subst e;exact hs i x ys _ (z xs q) p
 ·have e:i=xs.length:=by lia
  subst e;exact .inl ⟨⟨xs,q,Z09 _⟩,hd ys H2 p⟩
end
theorem A7c {x:Str} {k:NameKind}:∀{l:List (Str×NameKind)},l.lookup x=some k->(x,k)∈l
 | [],q=>by cases q
 | (n,k')::r,q=>by
  rw [Z28] at q;split at q
  ·rename_i hb;have hb':x=n:=by simpa using hb
   cases q
   subst hb';exact .head _
  ·exact .tail _ (A7c q)
theorem A9b {c:Addr} (he:closureFor scope X.env=pure [(x,c)]) (hc:X.env.cells.lookup x=some c) (hk:scope.kind= .function) (hn:∀y∈scope.names,y.2≠.cell/\(y.2= .free->y.1=x))
  (hl:∀y∈scope.names,y.2= .local->scope.names.lookup y.1=some .local):C8y X scope [(x,c)] where
 eq:=he
 sub:=λy d h=>by
  rw [Z28] at h;split at h
  ·rename_i hb;have hb':y=x:=by simpa using hb
   cases h
   subst hb';exact hc
  ·cases h
 has:=λy h=>by
  have key:y=x:=by
   have m:∃k,(y,k)∈(relabel scope X.env).names/\(k= .cell\/k= .free):=h.elim (λz=>⟨_,A7c z,.inl rfl⟩) λz=>⟨_,A7c z,.inr rfl⟩;obtain ⟨k,hm,hk⟩:=m;obtain ⟨⟨n,k0⟩,h0,e⟩:=Z2c.mp hm;dsimp only at e;by_cases hf:k0= .free
   ·have en:n=y:=by
     split at e
     ·exact congrArg Prod.fst e
     ·exact congrArg Prod.fst e
    rw [<-en];exact (hn _ h0).2 hf
   ·have hb:(k0 == NameKind.free)=false:=by simpa using hf
    simp only [hb,Bool.false_and,Bool.false_eq_true,if_false] at e;have e2:k0=k:=congrArg Prod.snd e;subst e2;rcases hk with hk | hk
    ·exact absurd hk (hn _ h0).1
    ·exact absurd hk hf
  subst key;exact ⟨c,by simp [Z28]⟩
 kind:=hk
 ncell:=λy hy=>(hn y hy).1
 names:=hl
theorem A7b {N0:List Str} {j:Nat} (hN:X.N[j]? =some x) (h1:X.env.scope.names.lookup x=some .cell\/X.env.scope.names.lookup x=some .free)
  (h2:(relabel scope X.env).names.lookup x=some .cell\/(relabel scope X.env).names.lookup x=some .free):D0v X (N0++[x]) scope (List.replicate N0.length none++[some j]):=by
 refine ⟨by simp,λi k e=> ?_⟩;by_cases hi:i<N0.length
 ·rw [Z26 (by simpa using hi),List.getElem?_replicate] at e;split at e <;> cases e
 ·have hi':i=N0.length:=by
   have:=(Z03.mp e).1;simp at this
   lia
  subst hi';rw [Z1l (by simp)] at e;have ek:j=k:=by simpa using e
  subst ek;exact ⟨x,by simp,hN,h1,h2⟩
def E0k (lo c:Int) (n:Nat):It:=⟨λi _=>i<n,λi H x H'=>H'=H/\x= .int (lo+i*c),λi _=>i=n⟩
theorem C2c (it:Addr) (lo c:Int) (n:Nat):C7a P w K tg (E0k lo c n) [it] it (λi h=>IsRangeIter h it (lo+(i:Nat)*c) ((n:Int)-(i:Nat)) c) where
 mem:=by simp
 obj:=λi h st b hb=>by
  have e:b=it:=by simpa using hb
  subst e;exact ⟨_,st,λv z=>by cases (show Data.fields _=Data.cell v from z)⟩
 keep:=λi h h' st k=>k it (by simp) _ st
 item:=by
  walk_at "c";walk_at "f";have W:=Walks.range (prog:=X.prog) (w:=X.w) (I.ok.hd hc) it lo c n;refine W.item i s _ _ hg st λv h' tk hv st' kk=> ?_;obtain ⟨t,rfl⟩:=hv;have I1:Inv X pins Z H { s with heap:=h',toks:=tk }:=I.turned (λb o hb e=>kk b o (by simpa using hb) e) f0 f1 f3 f4 f5
  exact ⟨_,rfl,C3g (s:={ s with heap:=h',toks:=tk }) (n:="range_iterator") st' rfl rfl (by decide) ⟨.int (lo+i*c),H,I1,⟨t,rfl⟩,⟨rfl,rfl⟩,st',λb hb=>(hf b hb).1⟩⟩
 done:=by
  walk_at "c";walk_at "f";have W:=Walks.range (prog:=X.prog) (w:=X.w) (I.ok.hd hc) it lo c n;have e:i=n:=hg;subst e;exact W.done s _ _ st λh' tk kk=>⟨rfl,I.turned (λb o hb e=>kk b o (by simpa using hb) e) f0 f1 f3 f4 f5⟩
 self:=λA i s Q E st h=>wpAny_pyIter_rangeiter st h
theorem C6e {lo c:Int} (Pv:Nat->St->Hp->Prop) (h0:Pv 0 Z H)
  (hs:∀i Z H,i<n->Pv i Z H->g (.int (lo+i*c)) Z H λZ2 H2=>tb { D with nx:=Pv (i+1),ct:=Pv (i+1),bk:=D.nx } Z2 H2) (hd:∀Z H,Pv n Z H->D.nx Z H) :
  ∃W:Nat->Nat->St->Hp->Prop,(∃m,W 0 m Z H)/\∀i m Z H,W i m Z H->
   ((E0k lo c n).stop i H/\D.nx Z H)\/((E0k lo c n).go i H/\∃N:St->Hp->Prop,(∀Z' H',N Z' H'->∃m',m'<m/\W (i+1) m' Z' H')/\∀x H',(E0k lo c n).yld i H x H'->g x Z H' λZ2 H2=>tb { D with nx:=N,ct:=N,bk:=D.nx } Z2 H2):=by
 refine ⟨λi m Z H=>m=n-i/\i<=n/\Pv i Z H,⟨n,by simp,Z1e _,h0⟩,?_⟩;rintro i m Z H ⟨rfl,hi,p⟩;by_cases hlt:i<n
 ·refine .inr ⟨hlt,Pv (i+1),λZ' H' p'=>⟨n-(i+1),by lia,rfl,hlt,p'⟩,λx H' y=> ?_⟩;obtain ⟨e,rfl⟩:=y;subst e;exact hs i Z _ hlt p
 ·have e:i=n:=by lia
  subst e;exact .inl ⟨rfl,hd Z H p⟩
theorem A4n {o:HO} (hp:H p=none) (h:H a=some u):upd H p o a=some u:=by
 rw [A0h (A0i h hp)];exact h
theorem A0n {o:HO} (s:A0r H H') (hl:H l=none):A0r H (upd H' l o):=λb u e=>by
 rw [A0h (A0i e hl)];exact s b u e
theorem A0e {o:HO} (hl:H l=none):A0r H (upd H l o):=A0n (A0r.refl H) hl
theorem A5e {x dx:Addr} {o v:HO} (hx:H x=none) (hd:H dx=none):A0r H (upd (upd (upd H dx o) x u) x v):=A0n (A0n (A0e hd) hx) hx
theorem A2o (h:n<=1000000):n<=sizeLine:=by rw [sizeLine_eq];lia
theorem A1c (h:n<=1000000):n<sizeLine:=by rw [sizeLine_eq];lia
theorem Paired.snoc {α β:Type} {F:α->β->Prop} {a:α} {b:β} (h:F a b):∀{xs:List α} {ys:List β},Paired F xs ys->Paired F (xs++[a]) (ys++[b])
 | _,_,.nil=> .cons h .nil
 | _,_,.cons r t=> .cons r (Paired.snoc h t)
noncomputable def A2t (S:Addr->Prop) (H:Hp):Hp:=λa=> @ite _ (S a) (Classical.propDecidable _) (H a) none
theorem C4w (h:S a):A2t S H a=H a:=by unfold A2t;rw [Z12 h]
theorem C9j (h:¬S a):A2t S H a=none:=by unfold A2t;rw [Z0t h]
theorem A0v {o:HO} (h:A2t S H a=some o):S a/\H a=some o:=by
 by_cases hs:S a
 ·rw [C4w hs] at h;exact ⟨hs,h⟩
 ·rw [C9j hs] at h;cases h
theorem A1k {o:HO} (hs:S a) (h:H a=some o):A2t S H a=some o:=by rw [C4w hs];exact h
theorem B9z:A0r (A2t S H) H:=λ_ _ e=>(A0v e).2
theorem A1x (s:A0r H H'):A0r (A2t S H) (A2t S H'):=λb o e=>A1k (A0v e).1 (s _ _ (A0v e).2)
theorem A4m {S':Addr->Prop} (s:A0r H H') (h:∀a o,H a=some o->S a->S' a):A0r (A2t S H) (A2t S' H'):=λb o e=>A1k (h _ _ (A0v e).2 (A0v e).1) (s _ _ (A0v e).2)
theorem A5s {o:HO} (s:A0r (A2t S H) (A2t S H')) (h:¬S l):A0r (A2t S H) (A2t S (upd H' l o)):=λb u e=>by
 have q:=A0v (s _ _ e);have hne:b≠l:=λz=>h (by rw [<-z];exact q.1);exact A1k q.1 (by rw [A0h hne];exact q.2)
mutual
theorem Rep.imp2 {H H':Hp} (f:∀p xs,H p=some (.lst xs)->H' p=some (.lst xs)) (g:∀p xs,H p=some (.tup xs)->H' p=some (.tup xs)):∀{v:V} {d:PyData},Rep H v d->Rep H' v d
 | _,_,.non=> .non
 | _,_,.bl b=> .bl b
 | _,_,.int i=> .int i
 | _,_,.str x=> .str x
 | _,_,.lst e r=> .lst (f _ _ e) (A5b.imp2 f g r)
 | _,_,.tup e r=> .tup (g _ _ e) (A5b.imp2 f g r)
theorem A5b.imp2 {H H':Hp} (f:∀p xs,H p=some (.lst xs)->H' p=some (.lst xs)) (g:∀p xs,H p=some (.tup xs)->H' p=some (.tup xs)):∀{vs:List V} {ds:List PyData},A5b H vs ds->A5b H' vs ds
 | _,_,.nil=> .nil
 | _,_,.cons a r=> .cons (Rep.imp2 f g a) (A5b.imp2 f g r)
end
theorem Rep.ins {d:PyData} {C dx:Addr} {fs:List (Str×V)} {o:HO} (h:Rep H v d) (e:H p=some (.ins C dx fs)):Rep (upd H p o) v d :=
 h.imp2 (λq xs z=>by rw [A0h (A1g z e (by intro w;cases w))];exact z) (λq xs z=>by rw [A0h (A1g z e (by intro w;cases w))];exact z)
section
variable {G:Hp} {v:V} {vs:List V} {d:PyData} {ds:List PyData}
theorem D6x (h:Rep G v (.tuple ds)):∃p xs,v= .ref p/\G p=some (.tup xs)/\A5b G xs ds:=by
 cases h with
 | tup e r=>exact ⟨_,_,rfl,e,r⟩
theorem B3r (h:Rep G v (.list ds)):∃p xs,v= .ref p/\G p=some (.lst xs)/\A5b G xs ds:=by
 cases h with
 | lst e r=>exact ⟨_,_,rfl,e,r⟩
theorem D6q (h:Rep G v (.str x)):v= .str x:=by cases h;rfl
theorem C7d {x:Int} (h:Rep G v (.int x)):v= .int x:=by cases h;rfl
theorem B9h (h:A5b G vs (d::ds)):∃u r,vs=u::r/\Rep G u d/\A5b G r ds:=by
 cases h with
 | cons a r=>exact ⟨_,_,rfl,a,r⟩
theorem D3d (h:A5b G vs []):vs=[]:=by cases h;rfl
end
mutual
def cnt:PyData->Nat
 | .none=>1
 | .bool _=>1
 | .int _=>1
 | .str _=>1
 | .list xs=>A5k xs+1
 | .tuple xs=>A5k xs+1
 | .dict _=>1
def A5k:List PyData->Nat
 | []=>0
 | x::xs=>cnt x+A5k xs
end
theorem D7d (d:PyData):1<=cnt d:=by cases d <;> simp [cnt]
theorem C2a:∀ds:List PyData,ds.length<=A5k ds
 | []=>by simp [A5k]
 | d::r=>by
  have:=C2a r;have:=D7d d;simp only [A5k,Z0y]
  lia
theorem C7r:∀{ds:List PyData} {i:Nat} {d:PyData},ds[i]? =some d->cnt d<=A5k ds/\PyData.depth d<=PyData.depthAll ds
 | [],_,_,e=>by simp at e
 | d::r,0,_,e=>by
  simp at e;subst e;simp only [A5k,PyData.depthAll]
  lia
 | x::r,i+1,d,e=>by
  have:=C7r (ds:=r) (i:=i) (d:=d) (by simpa using e);simp only [A5k,PyData.depthAll]
  lia
theorem A5b.get2 {H:Hp}:∀{vs:List V} {ds:List PyData} {i:Nat} {v:V},A5b H vs ds->vs[i]? =some v->∃d,ds[i]? =some d/\Rep H v d
 | _,_,_,_,.nil,e=>by simp at e
 | _,_,0,_,.cons a _,e=>by simp at e;subst e;exact ⟨_,rfl,a⟩
 | _,_,i+1,v,.cons _ r,e=>by
  obtain ⟨d,h1,h2⟩:=A5b.get2 (i:=i) (v:=v) r (by simpa using e);exact ⟨d,by simpa using h1,h2⟩
theorem lk0 {k:Str}:List.lookup k ((k,v)::r)=some v:=by simp [Z28]
theorem lk1 {k j:Str} {o:Option V} (h:(k == j)=false) (e:List.lookup k r=o):List.lookup k ((j,v)::r)=o:=by
 rw [Z28,h];exact e
theorem A2h {f:Str}:A8e f v []=[(f,v)]:=rfl
theorem A1q {f g:Str} {x:V} (h:¬g=f):A8e f v ((g,x)::r)=(g,x)::A8e f v r:=by rw [A8e,Z0t h]
theorem A3u {c A:Prop} [Decidable c] (h1:c->A) (h2:¬c->B):if decide c=true then A else B :=
 C5x (λh=>h1 (of_decide_eq_true h)) (λh=>h2 λhc=>h (Z20 hc))
theorem D0q {c A:Prop} [Decidable c] (h1:¬c->A) (h2:c->B):if (!decide c)=true then A else B :=
 C5x (λh=>h1 λhc=>by rw [Z20 hc] at h;cases h) (λh=>h2 (by
  by_cases hc:c
  ·exact hc
  ·rw [Z1j hc] at h;exact absurd rfl h))
section
variable {X:Cx}
theorem B1v {l:Expr} {tl:TE} (hl:PE X l tl):PI X tg l (λZ H R=>D8z X.K tl Z H R\/E4g X.K tl Z H R):=λpins s Z H R I h=>h.elim (A1n hl pins s Z H R I) (D4n hl pins s Z H R I)
end
theorem A8o {α:Type} {f:α->V} {xs:List α} {i:Int} (h0:0<=i) (h1:i<xs.length):∃x,xs[i.toNat]? =some x/\atI (xs.map f) i=some (f x):=by
 obtain ⟨n,rfl⟩:=Int.eq_ofNat_of_zero_le h0;have hn:n<xs.length:=by lia
 exact ⟨xs[n],by simp [hn],A0j (by simp [hn])⟩
section
variable {K:Frag} {a D:Addr} {xs:List V} {g:TG} {te:TE} {QD:Hp->Prop} {Z₀:St} {H:Hp}
theorem A3j (Pv:Nat->List V->Hp->Prop) (h0:Pv 0 [] (upd H D (.lst []))) (hl:∀i ys H,Pv i ys H->SqL K H a xs)
  (hs:∀i x ys H,xs[i]? =some x->Pv i ys H->g x Z₀ H λZ4 H4=>A3b Z₀ Z4/\te Z4 H4 λy H5=>H5 D=some (.lst ys)/\ys.length<sizeLine/\Pv (i+1) (ys++[y]) (upd H5 D (.lst (ys++[y])))) (hd:∀ys H,Pv xs.length ys H->QD H) :
  ∃W:Nat->Nat->Hp->Prop,(∃m,W 0 m (upd H D (.lst [])))/\∀i m H2,W i m H2->
   ((Itl K a).stop i H2/\QD H2)\/((Itl K a).go i H2/\∃N:VK,(∀y H5,N y H5->∃xs,H5 D=some (.lst xs)/\xs.length<sizeLine/\∃m',m'<m/\W (i+1) m' (upd H5 D (.lst (xs++[y]))))/\
    ∀x H3,(Itl K a).yld i H2 x H3->g x Z₀ H3 λZ4 H4=>A3b Z₀ Z4/\te Z4 H4 N):=C9s (Q:=λ_ H=>QD H) Pv h0 hl hs hd
theorem C7e (Pv:Nat->List V->Hp->Prop) (h0:Pv 0 [] (upd H D (.lst []))) (hl:∀i ys H,Pv i ys H->SqT K H a xs)
  (hs:∀i x ys H,xs[i]? =some x->Pv i ys H->g x Z₀ H λZ4 H4=>A3b Z₀ Z4/\te Z4 H4 λy H5=>H5 D=some (.lst ys)/\ys.length<sizeLine/\Pv (i+1) (ys++[y]) (upd H5 D (.lst (ys++[y])))) (hd:∀ys H,Pv xs.length ys H->QD H) :
  ∃W:Nat->Nat->Hp->Prop,(∃m,W 0 m (upd H D (.lst [])))/\∀i m H2,W i m H2->
   ((Itt K a).stop i H2/\QD H2)\/((Itt K a).go i H2/\∃N:VK,(∀y H5,N y H5->∃xs,H5 D=some (.lst xs)/\xs.length<sizeLine/\∃m',m'<m/\W (i+1) m' (upd H5 D (.lst (xs++[y]))))/\
    ∀x H3,(Itt K a).yld i H2 x H3->g x Z₀ H3 λZ4 H4=>A3b Z₀ Z4/\te Z4 H4 N):=D2y (Q:=λ_ H=>QD H) Pv h0 hl hs hd
end
section
variable {X:Cx}
theorem Inv.frozen (I:Inv X pins Z H s) (ha:H a=some (.dK kvs)) (ho:s.heap.get? a=some o):Inv X pins Z (upd H a (.frz o (.dK kvs))) s :=
 I.write (t':=s.toks) (h':=s.heap) (e:=a) (by rw [ha];trivial) (.inl rfl) (λ_ _ _ e=>e) ⟨o,ho⟩ ⟨ho,(show A2c X.prog X.w H s.heap a (.dK kvs) from I.hok a _ ha)⟩
theorem Inv.thaw (I:Inv X pins Z H s) (ha:H a=some (.frz o u)) (hu:∃kvs,u= .dK kvs) (h0:∀o' u',X.H₀ a≠some (.frz o' u')):Inv X pins Z (upd H a u) s:=by
 have nf:∀b,H b=none->upd H a u b=none:=λb e=>by rw [A0h (λz=>by subst z;rw [ha] at e;cases e)];exact e
 obtain ⟨kvs,rfl⟩:=hu
 refine ⟨I.ok,I.os,I.bare,⟨I.base.keep,I.base.slot,λb ob e n hx=>nf b (I.base.free b ob e n hx),I.base.there,λb xs e=> ?_,λb ob u' e=> ?_,λb ps e=> ?_⟩,I.loc,I.cell,nf _ I.free,λx c e=>nf _ (I.freeC x c e),
  λp hp=>⟨(I.pin p hp).1,nf _ (I.pin p hp).2.1,(I.pin p hp).2.2⟩,λb v e=> ?_,I.len⟩
 ·have q:=I.base.tups b xs e;rw [A0h (A1g q ha (by intro z;cases z))];exact q
 ·have q:=I.base.frzs b ob u' e;rw [A0h (λz=>by subst z;exact h0 _ _ e)];exact q
 ·obtain ⟨more,q⟩:=I.base.tbls b ps e;exact ⟨more,by rw [A0h (A1g q ha (by intro z;cases z))];exact q⟩
 ·by_cases hb:b=a
  ·subst hb;rw [A0b] at e;cases e;obtain ⟨_,q⟩:=(show A2c X.prog X.w H s.heap b (.frz o (.dK kvs)) from I.hok b _ ha);exact q
  ·rw [A0h hb] at e;exact (I.hok b v e).stay (λ_ _ _ q=>q) (λc q=>by rw [A0h (A1g q ha (by intro z;cases z))];exact q) λc xs q=>by rw [A0h (A1g q ha (by intro z;cases z))];exact q
def E2x (X:Cx) (t:TS):TS:=λD Z H=>∃a o kvs,H a=some (.frz o (.dK kvs))/\(∀o' u',X.H₀ a≠some (.frz o' u'))/\t D Z (upd H a (.dK kvs))
theorem C3m {t:TS} (h:PSs X sts t):PSs X sts (E2x X t):=by
 intro pins s Z H D I hw;obtain ⟨a,o,kvs,ha,h0,q⟩:=hw;exact h pins s Z _ D (I.thaw ha ⟨kvs,rfl⟩ h0) q
def Itd (a:Addr) (o:Obj) (kvs:List (Key×V)):It :=
 ⟨λi H=>H a=some (.frz o (.dK kvs))/\i<kvs.length,λi H x H'=>H'=H/\∃k v,kvs[i]? =some (k,v)/\x=kV k,λi H=>H a=some (.frz o (.dK kvs))/\i=kvs.length⟩
theorem E0x {k:Key} {u:Value} (h:(A1p P w).is k u=true):A2u (kV k) u:=by
 rcases A2v (show C1t k u=true from h) with ⟨i,t,rfl,rfl⟩ | ⟨x,t,rfl,rfl⟩
 ·exact ⟨t,rfl⟩
 ·exact ⟨t,rfl⟩
theorem KV.at:KV kvs vs->∀{i:Nat} {k:Key} {v:V},kvs[i]? =some (k,v)->∃u,vs[i]? =some (k,u)/\A2u v u:=by
 intro r;unfold KV at r
 induction r with
 | nil=>intro i k v e;simp at e
 | @cons p q ps qs h t ih =>
  intro i k v e
  cases i with
  | zero =>
   simp at e;subst e;obtain ⟨h1,h2⟩:=h;obtain ⟨q1,q2⟩:=q;cases h1;exact ⟨q2,rfl,h2⟩
  | succ j =>
   obtain ⟨u,e1,e2⟩:=ih (i:=j) (by simpa using e);exact ⟨u,by simpa using e1,e2⟩
end
theorem C7x (ok:HOk P w H h) (ha:H a=some (.frz o (.dK kvs))) (ho:o.data= .dict es ep) :
  (a == sysModules)=false/\∃vs,KV kvs vs/\h.DictAt (A1p P w) a vs ep:=by
 obtain ⟨e1,hz,hs,vs,rel,o',es',ep',e2,c,d,r⟩:=(show A2c P w H h a (.frz o (.dK kvs)) from ok a _ ha);rw [e1] at e2;cases e2;rw [ho] at d;cases d;exact ⟨hs,vs,rel,o,es,e1,c,ho,r⟩
theorem C7g (it a:Addr) (o:Obj) (kvs:List (Key×V)) (es:Array DictEntry) (ep:Nat) (ho:o.data= .dict es ep) :
  C7a P w K tg (Itd a o kvs) [it] it (λi h=>h.IsKeyIter it a i kvs.length ep) where
 mem:=by simp
 obj:=λi h st b hb=>by
  have e:b=it:=by simpa using hb
  subst e;obtain ⟨ob,e,_,d⟩:=st;exact ⟨ob,e,λv z=>by rw [d] at z;cases z⟩
 keep:=λi h h' st k=>st.at λob e=>k it (by simp) ob e
 item:=by
  walk_at "c";obtain ⟨ha,hi⟩:=hg;walk_at "f";obtain ⟨_,vs,rel,dd⟩:=C7x I.hok ha ho;have hl:=rel.length;obtain ⟨⟨k,v⟩,hkv⟩:∃p,kvs[i]? =some p:=⟨kvs[i],by simp [hi]⟩;obtain ⟨u,hu,_⟩:=rel.at hkv;rw [hl] at st;refine wpAny_pyNext_dict_item st dd hu λkey h' hk hit sb=> ?_;have I1:Inv X pins Z H { s with heap:=h',toks:=s.toks }:=I.turned (t':=s.toks) (λb ob hb e=>(sb.2 b hb).trans e) f0 f1 f3 f4 f5
  obtain ⟨ob,e,c,d⟩:=id hit;exact ⟨key,rfl,C3g (s:={ s with heap:=h' }) e c d (by decide) ⟨kV k,H,I1,E0x hk,⟨rfl,k,v,hkv,rfl⟩,by rw [hl];exact hit,λb hb=>(hf b hb).1⟩⟩
 done:=by
  walk_at "c";obtain ⟨ha,hi⟩:=hg;walk_at "f";obtain ⟨_,vs,rel,dd⟩:=C7x I.hok ha ho;have hl:=rel.length;rw [hl] at st;exact wpAny_pyNext_dict_end (I.ok.hd hc) st dd (by simp;lia) λh' eb=>⟨rfl,I.turned (t':=s.toks) (λb ob hb e=>eb b ob hb e) f0 f1 f3 f4 f5⟩
 self:=λ_ _ _ _ _ st h=>wpAny_pyIter_keyiter st h
def E2n (tl:TE):TI:=λZ H R=>tl Z H λx H1=>∃a kvs,x= .ref a/\H1 a=some (.dK kvs)/\∀o,R (Itd a o kvs) (upd H1 a (.frz o (.dK kvs)))
theorem B7i {l:Expr} {tl:TE} (hl:PE X l tl):PI X tg l (E2n tl):=by
 intro pins s Z H R I h;refine thn (hl pins s Z H _ I h) ?_;rintro u s1 ⟨x,H1,I1,rx,a,kvs,ex,ha,q⟩;subst ex;cases rx;obtain ⟨hz,hs,vs,rel,o,es,ep,ho,hx,hd,r⟩:=C8a I1.hok ha;have dd:s1.heap.DictAt (A1p X.prog X.w) a vs ep:=⟨o,es,ho,hx,hd,r⟩;refine wpAny_pyIter_dict hs dd ?_;have I2:Inv X pins Z H1 { s1 with heap:=s1.heap.push { cls:= .type "dict_keyiterator",data:= .fields #[.ref a,.int 0 0,.int vs.length 0,.int ep 0] },toks:=s1.toks }:=I1.kept λb ob e=>Z01 _ e
 have I3:=I2.frozen ha (Z01 _ ho);refine ⟨_,[s1.heap.objs.size],_,_,_,rfl,I3,C7g _ a o kvs es ep hd,?_,λb hb=> ?_,q o⟩
 ·rw [rel.length];exact ⟨_,Z0c _ rfl,rfl,rfl⟩
 ·have e:b=s1.heap.objs.size:=by simpa using hb
  subst e;refine I1.fpOk (Z09 _) ?_;rw [A0h (Z1q (I1.hok.lt ha))];exact I1.hok.fresh (Z09 _)
theorem D1w (Pv:Nat->St->Hp->Prop) (h0:Pv 0 Z H) (hl:∀i Z H,Pv i Z H->H a=some (.frz o (.dK kvs)))
  (hs:∀i k v Z H,kvs[i]? =some (k,v)->Pv i Z H->g (kV k) Z H λZ2 H2=>tb { D with nx:=Pv (i+1),ct:=Pv (i+1),bk:=D.nx } Z2 H2) (hd:∀Z H,Pv kvs.length Z H->D.nx Z H) :
  ∃W:Nat->Nat->St->Hp->Prop,(∃m,W 0 m Z H)/\∀i m Z H,W i m Z H->
   ((Itd a o kvs).stop i H/\D.nx Z H)\/((Itd a o kvs).go i H/\∃N:St->Hp->Prop,(∀Z' H',N Z' H'->∃m',m'<m/\W (i+1) m' Z' H')/\∀x H',(Itd a o kvs).yld i H x H'->g x Z H' λZ2 H2=>tb { D with nx:=N,ct:=N,bk:=D.nx } Z2 H2):=by
 refine ⟨λi m Z H=>m=kvs.length-i/\i<=kvs.length/\Pv i Z H,⟨kvs.length,by simp,Z1e _,h0⟩,?_⟩;rintro i m Z H ⟨rfl,hi,p⟩;by_cases hlt:i<kvs.length
 ·refine .inr ⟨⟨hl i Z H p,hlt⟩,Pv (i+1),λZ' H' p'=>⟨kvs.length-(i+1),by lia,rfl,hlt,p'⟩,λx H' y=> ?_⟩;obtain ⟨e,k,v,e1,rfl⟩:=y;subst e;exact hs i k v Z _ e1 p
 ·have e:i=kvs.length:=by lia
  subst e;exact .inl ⟨⟨hl _ Z H p,rfl⟩,hd Z H p⟩
theorem A8q {H2:Hp} (ha:H a=some u) (s:A0r (upd H a (.frz o u)) H2):A0r H (upd H2 a u):=λb v e=>by
 by_cases hb:b=a
 ·subst hb;rw [ha] at e;cases e;exact A0b
 ·rw [A0h hb];exact s b v (by rw [A0h hb];exact e)
section
variable {X:Cx}
def D0f (ix:List (Option Nat)) (wi:TI) (g:TG) (tc:TT) (te:TE):TE:=λZ H Q=>wi Z H λJ H1=>∀D,H1 D=none->∃W:Nat->Nat->Hp->Prop,(∃m,W 0 m (upd H1 D (.lst [])))/\∀i m H2,W i m H2->
 (J.stop i H2/\Q (.ref D) H2)\/(J.go i H2/\∃(N:VK) (M:Hp->Prop),(∀y H5,N y H5->∃xs,H5 D=some (.lst xs)/\xs.length<sizeLine/\∃m',m'<m/\W (i+1) m' (upd H5 D (.lst (xs++[y]))))/\(∀H5,M H5->∃m',m'<m/\W (i+1) m' H5)/\∀x H3,J.yld i H2 x H3->g x (A6p ix Z) H3 λZ4 H4=>A3b (A6p ix Z) Z4/\tc Z4 H4 λb H5=>if b=true then te Z4 H5 N else M H5)
def PTs (X:Cx) (cs:List Expr) (t:TT):Prop :=
 ∀(pins:List (Addr×Obj)) (s:Shared) (Z:St) (H:Hp) (Q:Bool->Hp->Prop),Inv X pins Z H s->t Z H Q->wpAny (model X.prog X.w) X.A (forIn cs true λc r=>if r=true then do let ok<-isTrue c X.env (eval c X.env);pure (ForInStep.yield ok) else pure (ForInStep.yield r)) (TP X pins Z Q) X.xe s
theorem C4h (hc:X.calm=true) (ck:C8y X scope cl) (io:D0v X N' scope ix) (hi:PI X tg iter wi)
  (hg:∀C s₀ H₀ fp,PG (blk X N' scope cl C s₀ H₀ fp) tg g) (ht:∀C s₀ H₀ fp,PTs (blk X N' scope cl C s₀ H₀ fp) cs tc) (he:∀C s₀ H₀ fp,PE (blk X N' scope cl C s₀ H₀ fp) elt te) (R:VK->St->It->Hp->Prop) (hR:∀Q Z J H1,R Q Z J H1->∀D,H1 D=none->∃W:Nat->Nat->Hp->Prop,(∃m,W 0 m (upd H1 D (.lst [])))/\∀i m H2,W i m H2->
 (J.stop i H2/\Q (.ref D) H2)\/(J.go i H2/\∃(N:VK) (M:Hp->Prop),(∀y H5,N y H5->∃xs,H5 D=some (.lst xs)/\xs.length<sizeLine/\∃m',m'<m/\W (i+1) m' (upd H5 D (.lst (xs++[y]))))/\(∀H5,M H5->∃m',m'<m/\W (i+1) m' H5)/\∀x H3,J.yld i H2 x H3->g x (A6p ix Z) H3 λZ4 H4=>A3b (A6p ix Z) Z4/\tc Z4 H4 λb H5=>if b=true then te Z4 H5 N else M H5)) (hs:∀x,foldedSetIterable iter X.env x=pure x:=by intro _;rfl) :
  PE X (.ListComp elt [⟨tg,iter,cs,0⟩] scope pos) (λZ H Q=>wi Z H (R Q Z)):=by
 intro pins s Z H Q I h;rw [eval_ListComp];refine wpAny_comprehension_free (use:=none) rfl hs ck.eq ck.kind ck.names (thn (hi pins s Z H _ I h) λxv s1 h1=>thn h1 λitv s2 h2=> ?_);obtain ⟨it,fp,tn,J,H1,rfl,I1,T,st1,f1,R1⟩:=h2;refine Z16 ?_;have hD:H1 s2.heap.objs.size=none:=I1.hok.fresh (Z09 _);obtain ⟨W,⟨m0,w0⟩,turn⟩:=hR _ _ _ _ R1 _ hD;have hfD:∀b∈fp,b<s2.heap.objs.size:=λb hb=>let ⟨o,e,_⟩:=T.obj _ _ st1 b hb;Z0a e;have I2:Inv X pins Z (upd H1 s2.heap.objs.size (.lst [])) { s2 with heap:=s2.heap.push { cls:= .type "list",data:= .seq ([]:List Value).toArray },toks:=s2.toks }:=I1.lnew (its:=[]) .nil (Z1e _);have f2:∀b∈fp,B9l X pins (upd H1 s2.heap.objs.size (.lst [])) b:=λb hb=>⟨by rw [A0h (Z0h (hfD b hb))];exact (f1 b hb).1,(f1 b hb).2⟩
 have lt2:∀b∈fp,b<(s2.heap.push { cls:= .type "list",data:= .seq ([]:List Value).toArray }).objs.size:=λb hb=>by rw [Z1s];exact Nat.lt_succ_of_lt (hfD b hb)
 refine wpAny_newFunctionEnv ck.ncell (by intro y hy;simp at hy) (λh3 hns sb3=> ?_) ck.kind;dsimp only at hns sb3⊢;have k3:∀b o,(s2.heap.push { cls:= .type "list",data:= .seq ([]:List Value).toArray }).get? b=some o->h3.get? b=some o:=λb o e=>(sb3.2 b (Z0h (Z0a e))).trans (Z01 _ e);generalize hs2:({ s2 with heap:=s2.heap.push { cls:= .type "list",data:= .seq ([]:List Value).toArray },toks:=s2.toks }:Shared)=s3 at I2;have e3:s2.heap.push { cls:= .type "list",data:= .seq ([]:List Value).toArray }=s3.heap:=by rw [<-hs2]
 rw [e3] at hns k3 lt2;have I3:=C0t (N':=N') (ix:=ix) I2 ck io f2 lt2 (h':=h3) (t':=s2.toks+([]:List (Str×Value)).length) hns k3;have e4:({ s3 with heap:=h3,toks:=s2.toks+([]:List (Str×Value)).length }:Shared)={ s2 with heap:=h3,toks:=s2.toks+([]:List (Str×Value)).length }:=by rw [<-hs2]
 rw [e4] at I3;have st3:tn 0 h3:=T.keep _ _ _ st1 λb hb o e=>k3 b o (by rw [<-e3];exact Z01 _ e)
 have loop:∀s4:Shared,s4={ s2 with heap:=h3,toks:=s2.toks+([]:List (Str×Value)).length }->
   codeAny (model X.prog X.w) X.A (.compLoop (.ListComp elt [⟨tg,iter,cs,0⟩] scope pos) 0 (.ref it) (.ref s2.heap.objs.size) (compEnvC scope cl s3.heap.objs.size X.env))
    (compPost (model X.prog X.w) X.A X.xe none (EP X pins Z Q) (.ref s2.heap.objs.size) s3.heap.objs.size) s4:=by
  rintro s4 rfl
  have stat:∀{H':Hp},(∀b∈fp,H' b=none)->∀b∈fp,B9l (blk X N' scope cl s3.heap.objs.size s3 (upd H1 s2.heap.objs.size (.lst [])) fp) [] H' b:=λhn b hb =>
   ⟨hn b hb,Z0h (lt2 b hb),λhs=>I3.ok.exfs b hb hs,.inl hb,λx c e=>(f2 b hb).2.2.2.2.1 x c (ck.sub x c e),(λp hp=>by cases hp)⟩
  refine codeAny_loop rfl (λn s'=>∃i Z' H',Inv (blk X N' scope cl s3.heap.objs.size s3 (upd H1 s2.heap.objs.size (.lst [])) fp) [] Z' H' s'/\(∀(j:Nat) v,(A6p ix Z)[j]? =some (some v)->Z'[j]? =some (some v))/\tn i s'.heap/\(∀b∈fp,H' b=none)/\W i n H')
   (λn s' hI=> ?_) m0 ⟨0,_,_,I3,λ_ _ z=>z,st3,λb hb=>(f2 b hb).1,w0⟩
  obtain ⟨i,Z5,H5,I5,wk,st5,fr5,w5⟩:=hI;show wpAny _ _ ((compTurn (.ListComp elt [⟨tg,iter,cs,0⟩] scope pos) 0 (.ref it) (.ref s2.heap.objs.size) (compEnvC scope cl s3.heap.objs.size X.env)).onRaise (λx=>do noteFrame x (compEnvC scope cl s3.heap.objs.size X.env);theTreesLotGoes x)) _ _ s';refine wpAny_noted ?_;rw [compTurn_list];refine Z00 (Z1y ?_);rcases turn i n H5 w5 with ⟨stop,qn⟩ | ⟨go,NN,MM,hNN,hMM,step⟩
  ·refine Z00 (Z10 (T.done (blk X N' scope cl s3.heap.objs.size s3 (upd H1 s2.heap.objs.size (.lst [])) fp) rfl rfl rfl hc i [] s' Z5 H5 (λ_ _=>False) I5 (stat fr5) st5 stop) (λr s6 h6=> ?_) λ_ _ z=>z.elim);obtain ⟨rfl,I6⟩:=h6;refine Z04 ?_;obtain ⟨mm,hm,_⟩:=id I6.loc;exact ⟨mm,hm,λh' sb=>⟨.ref s2.heap.objs.size,H5,C7m I2 f2 I6 sb,rfl,qn⟩⟩
  ·refine Z00 (Z10 (T.item (blk X N' scope cl s3.heap.objs.size s3 (upd H1 s2.heap.objs.size (.lst [])) fp) rfl rfl rfl hc i [] s' Z5 H5 (λ_ _=>False) I5 (stat fr5) st5 go) (λr s6 h6=> ?_) λ_ _ z=>z.elim);obtain ⟨u,rfl,h6⟩:=h6;refine Z00 (Z10 h6 (λ_ s7 h7=> ?_) λ_ _ z=>z.elim);obtain ⟨x,H7,I7,r7,y7,st7,fr7⟩:=h7;have I7w:Inv (blk X N' scope cl s3.heap.objs.size s3 (upd H1 s2.heap.objs.size (.lst [])) fp) [] (A6p ix Z) H7 s7:=I7.weak (by rw [I7.len];unfold A6p;rw [Z08];exact io.1) wk;have I7p:=I7w.pinned (stat fr7) (T.obj _ _ st7);refine Z00 (Z10 (hg _ _ _ _ _ s7 _ H7 x u _ I7p r7 (step x H7 y7)) (λ_ s8 h8=> ?_) λ_ _ z=>z.elim);obtain ⟨Z8,H8,I8,kp8,q8⟩:=h8
   have back:∀{s10:Shared} {Z10:St} {H10:Hp} {m':Nat},Inv (blk X N' scope cl s3.heap.objs.size s3 (upd H1 s2.heap.objs.size (.lst [])) fp) ([]++B5t fp s7.heap) Z10 H10 s10->(∀(j:Nat) v,(A6p ix Z)[j]? =some (some v)->Z10[j]? =some (some v))->W (i+1) m' H10->
     ∃i Z' H',Inv (blk X N' scope cl s3.heap.objs.size s3 (upd H1 s2.heap.objs.size (.lst [])) fp) [] Z' H' s10/\(∀(j:Nat) v,(A6p ix Z)[j]? =some (some v)->Z'[j]? =some (some v))/\tn i s10.heap/\(∀b∈fp,H' b=none)/\W i m' H':=by
    intro s10 Z10 H10 m' I10 kk w10;refine ⟨i+1,Z10,H10,I10.unpinned,kk,T.keep _ _ _ st7 λb hb o e=>(I10.pin (b,o) (Z02 _ (Z02 _ (A5q hb e)))).1,λb hb=> ?_,w10⟩;obtain ⟨o,e,d⟩:=T.obj _ _ st7 b hb;exact (I10.pin (b,o) (Z02 _ (Z02 _ (A5q hb e)))).2.1
   refine Z00 (Z10 (ht _ _ _ _ _ s8 Z8 H8 _ I8 q8) (λok s9' h9'=> ?_) λ_ _ z=>z.elim);obtain ⟨H9',I9',q9'⟩:=h9'
   cases ok with
   | false =>
    have q9'':MM H9':=by simpa using q9'
    obtain ⟨m',hm',w9⟩:=hMM _ q9'';exact Z00 (Z04 (Z04 ⟨rfl,m',hm',back I9' kp8.get w9⟩))
   | true =>
    have q9'':te Z8 H9' NN:=by simpa using q9'
    refine Z00 (Z00 (Z10 (he _ _ _ _ _ s9' Z8 H9' _ I9' q9'') (λyv s9 h9=> ?_) λ_ _ z=>z.elim));obtain ⟨y,H9,I9,r9,n9⟩:=h9;obtain ⟨xs,hx9,hz9,m',hm',w9⟩:=hNN _ _ n9;refine Z00 (Z10 (A3h (X:=blk X N' scope cl s3.heap.objs.size s3 (upd H1 s2.heap.objs.size (.lst [])) fp) _ s9 Z8 H9 (.ref s2.heap.objs.size) [y] (.ref s2.heap.objs.size) [yv] (λ_ H'=>W (i+1) m' H') I9 rfl (.cons r9 .nil) ⟨_,xs,y,rfl,rfl,hx9,hz9,w9⟩) (λ_ s10 h10=> ?_) λ_ _ z=>z.elim);obtain ⟨_,H10,I10,_,w10⟩:=h10;exact Z04 (Z04 ⟨rfl,m',hm',back I10 kp8.get w10⟩)
 have e5:s3.heap.objs.size=(s2.heap.push { cls:= .type "list",data:= .seq ([]:List Value).toArray }).objs.size:=by rw [e3]
 rw [e5] at loop;exact codeAny_compStart_list (loop _ rfl) (T.self X.A 0 _ _ _ st3 (loop _ rfl))
theorem C8c {c:Expr} (hc:X.calm=true) (ck:C8y X scope cl) (io:D0v X N' scope ix) (hi:PI X tg iter wi)
  (hg:∀C s₀ H₀ fp,PG (blk X N' scope cl C s₀ H₀ fp) tg g) (ht:∀C s₀ H₀ fp,PT (blk X N' scope cl C s₀ H₀ fp) c tc) (he:∀C s₀ H₀ fp,PE (blk X N' scope cl C s₀ H₀ fp) elt te) (hs:∀x,foldedSetIterable iter X.env x=pure x:=by intro _;rfl) :
  PE X (.ListComp elt [⟨tg,iter,[c],0⟩] scope pos) (D0f ix wi g tc te) :=
 C4h hc ck io hi hg (λC s₀ H₀ fp pins s Z H Q I h=>wpAny_tests_one (ht C s₀ H₀ fp pins s Z H Q I h)) he _ (λ_ _ _ _ R=>R) hs
theorem A3n (hc:X.calm=true) (ck:C8y X scope cl) (io:D0v X N' scope ix) (hi:PI X tg iter wi)
  (hg:∀C s₀ H₀ fp,PG (blk X N' scope cl C s₀ H₀ fp) tg g) (he:∀C s₀ H₀ fp,PE (blk X N' scope cl C s₀ H₀ fp) elt te) (hs:∀x,foldedSetIterable iter X.env x=pure x:=by intro _;rfl) :
  PE X (.ListComp elt [⟨tg,iter,[],0⟩] scope pos) (D9e ix wi g te) :=
 C4h (tc:=λ_ H Q=>Q true H) hc ck io hi hg (λ_ _ _ _ _ _ _ _ _ I h=>wpAny_tests_nil ⟨_,I,h⟩) he _ (λ_ _ _ _ R D2 hD=>by
  obtain ⟨W,w0,turn⟩:=R D2 hD;refine ⟨W,w0,λi m H2 w=>(turn i m H2 w).imp id λ⟨go,N,hN,step⟩=>⟨go,N,λ_=>False,hN,λ_ z=>z.elim,?_⟩⟩
  simpa using step) hs
end
section
variable {K:Frag} {a D:Addr} {xs:List V} {g:TG} {tc:TT} {te:TE} {QD:Hp->Prop} {Z₀:St} {H:Hp}
theorem B2m (Pv:Nat->List V->Hp->Prop) (h0:Pv 0 [] (upd H D (.lst []))) (hl:∀i ys H,Pv i ys H->SqL K H a xs)
  (hs:∀i x ys H,xs[i]? =some x->Pv i ys H->g x Z₀ H λZ4 H4=>A3b Z₀ Z4/\tc Z4 H4 λb H5=>if b=true then te Z4 H5 (λy H5=>H5 D=some (.lst ys)/\ys.length<sizeLine/\Pv (i+1) (ys++[y]) (upd H5 D (.lst (ys++[y])))) else Pv (i+1) ys H5) (hd:∀ys H,Pv xs.length ys H->QD H) :
  ∃W:Nat->Nat->Hp->Prop,(∃m,W 0 m (upd H D (.lst [])))/\∀i m H2,W i m H2->
   ((Itl K a).stop i H2/\QD H2)\/((Itl K a).go i H2/\∃(N:VK) (M:Hp->Prop),(∀y H5,N y H5->∃xs,H5 D=some (.lst xs)/\xs.length<sizeLine/\∃m',m'<m/\W (i+1) m' (upd H5 D (.lst (xs++[y]))))/\(∀H5,M H5->∃m',m'<m/\W (i+1) m' H5)/\
    ∀x H3,(Itl K a).yld i H2 x H3->g x Z₀ H3 λZ4 H4=>A3b Z₀ Z4/\tc Z4 H4 λb H5=>if b=true then te Z4 H5 N else M H5):=by
 walk_at "m";by_cases hlt:i<xs.length
 ·refine .inr ⟨⟨xs,xs[i],q,by simp [hlt]⟩,λy H5=>H5 D=some (.lst ys)/\ys.length<sizeLine/\Pv (i+1) (ys++[y]) (upd H5 D (.lst (ys++[y]))),λH5=>Pv (i+1) ys H5,λy H5 n=>⟨ys,n.1,n.2.1,xs.length-(i+1),by lia,rfl,hlt,_,n.2.2⟩,λH5 n=>⟨xs.length-(i+1),by lia,rfl,hlt,_,n⟩,λx H3 z=> ?_⟩;obtain ⟨e,z⟩:=z;subst e;exact hs i x ys _ (z xs q) p
 ·have e:i=xs.length:=by lia
  subst e;exact .inl ⟨⟨xs,q,Z09 _⟩,hd ys H2 p⟩
end
section
variable {prog:Program} {w:World} {A:Around} {E:Value->Shared->Prop} {s:Shared}
theorem C6f {v:Addr} {Q:Value->Shared->Prop} (h1:s.heap.IsItemsView v d) (h2:s.heap.get? d=some od) (h3:od.data= .dict es ep)
  (q:Q (.ref s.heap.objs.size) { s with heap:=s.heap.push { cls:= .type "dict_itemiterator",data:= .fields #[.none,.bool false,.ref d,.int 0 0,.int es.size 0,.int ep 0,.none,.none] } }) :
  wpAny (model prog w) A (pyIter (.ref v)) Q E s:=by
 obtain ⟨ov,g1,g2,g3⟩:=id h1;refine wpAny_pyIter_slot h1.typeIs F.slot_dict_items_iter (Z1g F.slot_dict_items_iter h1.typeIs F.entry_dict_items_iter ?_ (F.args_dict_items_iter_1 _));unfold Builtin.«dict_items.__iter__»;refine Z00 (Z04 (Z00 ?_));unfold Builtin.Dict_items.dictOf;refine Z00 (Z11 g1 g3 (x:= .ref d) rfl (Z04 (Z00 ?_)));unfold Builtin.Dict_items.newIterator;refine Z00 (wpAny_dictEntries h2 h3 (Z00 (wpAny_dictEpoch h2 h3 ?_)));simp only [show Builtin.Dict_items.ownsTuple "dict_itemiterator"=true by decide,if_true]
 refine Z16 (Z04 ⟨_,rfl,"dict_itemiterator",_,⟨_,Z0c _ rfl,rfl⟩,F.slot_dict_itemiterator_next.lookup,?_⟩) (by
  simp only [sizeOk,Builtin.Dict_items.ownedTupleFields,Z0g,Z06,Z0y,Z2g,sizeLine_eq]
  lia)
 simpa [rawInt,Builtin.Dict_items.ownedTupleFields] using q
theorem C6p {e:DictEntry} {x:Value}
  (h1:IsItemIter s.heap it d i n ep x y) (h2:s.heap.get? d=some od) (h3:od.data= .dict es ep) (h4:es.size=n) (h5:es[i]? =some e)
  (q:∀h',IsItemIterOut h' it d (i+1) n ep e.key e.val s.heap.objs.size->h'.get? s.heap.objs.size=some { cls:= .type "tuple",data:= .seq #[e.key,e.val] }->
   (∀c u,c≠it->s.heap.get? c=some u->h'.get? c=some u)->Q (some (.ref s.heap.objs.size)) { s with heap:=h' }) :
  wpAny (model prog w) A (pyNext (.ref it)) Q E s:=by
 obtain ⟨hp,g,dr,tk,os⟩:=s;have ty:Shared.TypeIs ⟨hp,g,dr,tk,os⟩ (.ref it) "dict_itemiterator":=⟨_,h1,rfl⟩;unfold pyNext;refine Z00 (wpAny_attempt (Z1b (name:=Str.ofString "__next__") ty F.slot_dict_itemiterator_next (Z1g F.slot_dict_itemiterator_next ty F.entry_dict_itemiterator_next ?_ (F.args_dict_itemiterator_next_1 _))));refine Z00 (Z04 (Z00 (Z00 ?_)));refine Z00 (wpAny_typeNameOfWhole_itemiter ty (Z04 (Z00 (wpAny_fieldsOf h1 rfl ?_))));simp only [show Builtin.Dict_items.ownsTuple "dict_itemiterator"=true by decide,if_true];show wpAny _ _ (ite ((Value.ref d == Value.none)=true) _ _) _ _ _;rw [Z0t (show¬((Value.ref d == Value.none)=true) from Z0v)];refine Z00 (Z04 (Z00 (wpAny_dictEntries h2 h3 ?_)));rw [Z0t (by rw [h4];simp)];refine Z00 (Z04 (Z00 (wpAny_dictEpoch h2 h3 ?_)));rw [Z0t (by simp)];obtain ⟨lt,ee⟩:=Z1m.mp h5;refine Z04 ?_;simp only [show¬((i:Int)<0) from by lia,if_false,Int.toNat_natCast,h5];refine Z00 (Z00 (wpAny_typeNameOfWhole_itemiter ty (Z04 (Z00 (wpAny_isOneOf_itemiter ty ?_)))));show wpAny _ _ (setField (.ref it) 3 (rawInt ((i:Int)+1)) >>= _) _ _ (⟨hp,g,dr,tk,os⟩:Shared);refine Z00 (Z1h h1 (by simp) λk1 e1 s1=> ?_)
 replace s1:Heap.SameBut it hp k1:=s1
 replace e1:IsItemIter k1 it d (i+1) n ep x y:=by
  have z:((i+1:Nat):Int)=(i:Int)+1:=by lia
  unfold IsItemIter;rw [z]
  simpa [rawInt] using e1
 have ty1:Shared.TypeIs ⟨k1,g,dr,tk,os⟩ (.ref it) "dict_itemiterator":=⟨_,e1,rfl⟩;refine Z00 (Z1w (Z00 (wpAny_isOneOf_itemiter ty1 (Z00 (wpAny_isOneOf_itemiter ty1 ?_)))));show wpAny _ _ (Builtin.Dict_items.pairFromOwner (.ref it) 6 e.key e.val) _ _ (⟨k1,g,dr,tk,os⟩:Shared);unfold Builtin.Dict_items.pairFromOwner;refine Z00 (wpAny_newTuple ?_);have z1:k1.objs.size=hp.objs.size:=s1.1;have li:it<hp.objs.size:=Z0a h1;have e2:IsItemIter (k1.push { cls:= .type "tuple",data:= .seq #[e.key,e.val] }) it d (i+1) n ep x y:=Z01 _ e1;have t2:(k1.push { cls:= .type "tuple",data:= .seq #[e.key,e.val] }).get? hp.objs.size=some { cls:= .type "tuple",data:= .seq #[e.key,e.val] }:=by rw [<-z1];exact Z0c _ rfl
 have m2:∀b o,b≠it->hp.get? b=some o->(k1.push { cls:= .type "tuple",data:= .seq #[e.key,e.val] }).get? b=some o:=λb o hb z=>Z01 _ (s1.extBut b o hb z);generalize k1.push { cls:= .type "tuple",data:= .seq #[e.key,e.val] }=k2 at e2 t2 m2;show wpAny _ _ (Builtin.Dict_items.ownedTupleIsFree (.ref it) >>= _) _ _ (⟨k2,g,dr,tk,os⟩:Shared);rw [z1];clear e1 s1 ty1 z1 k1;refine Z00 ?_;unfold Builtin.Dict_items.ownedTupleIsFree;refine Z00 (Z11 e2 rfl (x:= .none) rfl (Z04 ?_));simp only [if_true];refine Z00 (Z11 e2 rfl (x:=x) rfl (Z00 (Z11 e2 rfl (x:=y) rfl (Z00 (Z1h e2 (by simp) λk3 e3 s3=> ?_)))))
 replace s3:Heap.SameBut it k2 k3:=s3
 replace e3:IsItemIter k3 it d (i+1) n ep e.key y:=e3
 refine Z00 (Z1h e3 (by simp) λk4 e4 s4=> ?_)
 replace s4:Heap.SameBut it k3 k4:=s4
 replace e4:IsItemIter k4 it d (i+1) n ep e.key e.val:=e4
 refine Z00 (Z1h e4 (by simp) λk5 e5 s5=> ?_)
 replace s5:Heap.SameBut it k4 k5:=s5
 replace e5:IsItemIterOut k5 it d (i+1) n ep e.key e.val hp.objs.size:=e5
 refine Z00 (Z1h e5 (by simp) λk6 e6 s6=> ?_)
 replace s6:Heap.SameBut it k5 k6:=s6
 replace e6:IsItemIterOut k6 it d (i+1) n ep e.key e.val hp.objs.size:=e6
 have all:∀b o,b≠it->k2.get? b=some o->k6.get? b=some o:=λb o hb z=>s6.extBut b o hb (s5.extBut b o hb (s4.extBut b o hb (s3.extBut b o hb z)));exact Z00 (wpAny_letGo (Z04 (Z04 ⟨_,rfl,Z04 (q k6 e6 (all _ _ (Z1q li) t2) λb o hb z=>all b o hb (m2 b o hb z))⟩)))
theorem C9n {x:Value} (hh:A.handled=none)
  (h1:IsItemIter s.heap it d i n ep x y) (h2:s.heap.get? d=some od) (h3:od.data= .dict es ep) (h4:es.size=n) (h5:n<=i)
  (q:∀h',Heap.ExtBut it s.heap h'->Q none { s with heap:=h' }):wpAny (model prog w) A (pyNext (.ref it)) Q E s:=by
 have ty:s.TypeIs (.ref it) "dict_itemiterator":=⟨_,h1,rfl⟩;unfold pyNext;refine Z00 (wpAny_attempt (Z1b (name:=Str.ofString "__next__") ty F.slot_dict_itemiterator_next (Z1g F.slot_dict_itemiterator_next ty F.entry_dict_itemiterator_next ?_ (F.args_dict_itemiterator_next_1 _))));refine Z00 (Z04 (Z00 (Z00 ?_)));refine Z00 (wpAny_typeNameOfWhole_itemiter ty (Z04 (Z00 (wpAny_fieldsOf h1 rfl ?_))));simp only [show Builtin.Dict_items.ownsTuple "dict_itemiterator"=true by decide,if_true];show wpAny _ _ (ite ((Value.ref d == Value.none)=true) _ _) _ _ _;rw [Z0t (show¬((Value.ref d == Value.none)=true) from Z0v)];refine Z00 (Z04 (Z00 (wpAny_dictEntries h2 h3 ?_)));rw [Z0t (by rw [h4];simp)];refine Z00 (Z04 (Z00 (wpAny_dictEpoch h2 h3 ?_)));rw [Z0t (by simp)];refine Z04 ?_;simp only [show¬((i:Int)<0) from by lia,if_false,Int.toNat_natCast,Array.getElem?_eq_none (show es.size<=i by lia)];refine Z00 (Z00 (wpAny_typeNameOfWhole_itemiter ty (Z04 ?_)));show wpAny _ _ (setField (.ref it) 2 .none >>= _) _ _ _;refine Z00 (Z1t h1 rfl (by simp) ?_);show wpAny _ _ (newExc (.type "StopIteration") [] >>= _) _ _ (_:Shared);refine Z00 ?_;simp only [newExc,newTuple];refine Z00 (Z16 (Z00 (m:=firstArgMember _ _) (wpAny_of_eq (a:=Value.none) (by first | rfl | (simp only [firstArgMember];rfl)) (Z16 ?_ (by size_fits)))) (by size_fits));simp only [raiseNew];refine Z00 (wpAny_handled ?_);rw [show A.in1.handled=none from hh];refine Z00 (Z04 (wpAny_throw ?_));refine Z00 (wpAny_isInstance (T:="StopIteration") (b:=true) ⟨_,Z0c _ rfl,rfl⟩ isSubtype_stop (Z04 ?_));exact q _ (((Heap.SameBut.update ..).extBut.push _).push _)
theorem C3j:entryFor table "dict_itemiterator.__iter__"=some Builtin.«dict_keyiterator.__iter__»:=entryFor_alias (id':="dict_keyiterator.__iter__") (by kernel_rfl) rfl (by decide +kernel) (by kernel_rfl)
theorem C5o {x:Value} {Q:Value->Shared->Prop} (st:IsItemIter s.heap it d i n ep x y) (h:Q (.ref it) s):wpAny (model prog w) A (pyIter (.ref it)) Q E s:=by
 have ty:s.TypeIs (.ref it) "dict_itemiterator":=⟨_,st,rfl⟩;refine wpAny_pyIter_slot ty F.slot_dict_itemiterator_iter (Z1g F.slot_dict_itemiterator_iter ty C3j ?_ (F.args_dict_itemiterator_iter_1 _));show wpAny _ _ (ret (.ref it)) _ _ s;exact Z04 ⟨_,rfl,"dict_itemiterator",_,ty,F.slot_dict_itemiterator_next.lookup,h⟩
theorem C6l (d:Addr) (hd:(d == sysModules)=false) :
  MeetsIn prog w (Builtin.«dict.items» ⟨[.ref d],[]⟩) (λ_ R s=>s.TypeIs (.ref d) "dict"/\R (.ok (.ret (.ref s.heap.objs.size))) { s with heap:=s.heap.push { cls:= .type "dict_items",data:= .fields #[.ref d] } }) :=
 .of_wp λA R s ⟨ty,q⟩=>by
  unfold Builtin.«dict.items»;refine Z00 ?_;unfold Builtin.Dict.noArgs;refine Z00 (wpAny_notOrdered_dict ty ?_);show wpAny _ _ (pure d) _ _ s;refine Z04 ?_;show wpAny _ _ (Builtin.Dict.showsAll d >>= _) _ _ s;unfold Builtin.Dict.showsAll;rw [Z0t (by rw [hd];exact Z0v)];exact Z00 (Z04 (Z00 (Z16 (Z04 ⟨_,rfl,q⟩))))
end
section
variable {X:Cx}
def isD (u:HO):Prop:=(∃kvs,u= .dK kvs)\/∃kvs,u= .dT kvs
def C1c (v d:Addr):HO:= .ext λh=>h.IsItemsView v d
theorem D2x {v:Addr} (e:h.IsItemsView v d):A2c P w H h v (C1c v d) :=
 ⟨e,let ⟨o,e1,_⟩:=e;⟨o,e1⟩,(by rintro h1 h2 ⟨o,e1,e2⟩ k;exact ⟨o,k o e1,e2⟩)⟩
theorem D5i (hu:isD u) (x:A2c P w H h a u):(a == sysModules)=false/\∃o es ep,h.get? a=some o/\o.ExactDict/\o.data= .dict es ep:=by
 rcases hu with ⟨kvs,rfl⟩ | ⟨kvs,rfl⟩
 ·obtain ⟨hz,hs,vs,rel,o,es,ep,ho,hx,hd,r⟩:=x;exact ⟨hs,o,es,ep,ho,hx,hd⟩
 ·obtain ⟨hz,hs,vs,rel,o,es,ep,ho,hx,hd,r⟩:=x;exact ⟨hs,o,es,ep,ho,hx,hd⟩
def D8y:V->List V->Hp->VK->Prop:=λx vs H Q=>∃a u,x= .ref a/\vs=[]/\H a=some u/\isD u/\∀p,H p=none->Q (.ref p) (upd H p (C1c p a))
theorem B6w:MtR X "dict.items" D8y:=by
 intro pins s Z H x xs v us Q I rx rv h;obtain ⟨a,u,rfl,rfl,ha,hu,q⟩:=h;cases rx;cases rv;obtain ⟨hs,o,es,ep,ho,hx,hd⟩:=D5i hu (I.hok a u ha);have ty:s.TypeIs (.ref a) "dict":=⟨o,ho,hx.1⟩;refine call_meetsIn PySem.F.slot_dict_items ty PySem.F.entry_dict_items (PySem.F.args_dict_items_1 _) (C6l a hs) ⟨ty,?_⟩;exact ⟨.ref s.heap.objs.size,_,I.laid (t':=s.toks) (o:=C1c s.heap.objs.size a) (λb u e=>Z01 _ e) (Z09 _) (D2x ⟨_,Z0c _ rfl,rfl,rfl⟩),rfl,q _ (I.hok.fresh (Z09 _))⟩
theorem Inv.frozenD (I:Inv X pins Z H s) (ha:H a=some u) (hu:isD u) (ho:s.heap.get? a=some o):Inv X pins Z (upd H a (.frz o u)) s:=by
 have nt:∀b xs,H b=some (.tup xs)->upd H a (.frz o u) b=some (.tup xs):=λb xs q=>by
  rw [A0h (A1g q ha (by rcases hu with ⟨_,rfl⟩ | ⟨_,rfl⟩ <;> intro z <;> cases z))];exact q
 have no:∀b,H b=some (.own a)->upd H a (.frz o u) b=some (.own a):=λb q=>by
  rw [A0h (A1g q ha (by rcases hu with ⟨_,rfl⟩ | ⟨_,rfl⟩ <;> intro z <;> cases z))];exact q
 have new:A2c X.prog X.w (upd H a (.frz o u)) s.heap a (.frz o u):=⟨ho,(I.hok a u ha).stay (λ_ _ _ q=>q) no nt⟩;exact I.write (t':=s.toks) (h':=s.heap) (e:=a) (by rw [ha];rcases hu with ⟨_,rfl⟩ | ⟨_,rfl⟩ <;> trivial) (.inl rfl) (λ_ _ _ e=>e) ⟨o,ho⟩ new
theorem Inv.thawD (I:Inv X pins Z H s) (ha:H a=some (.frz o u)) (hu:isD u) (h0:∀o' u',X.H₀ a≠some (.frz o' u')):Inv X pins Z (upd H a u) s:=by
 have nf:∀b,H b=none->upd H a u b=none:=λb e=>by rw [A0h (λz=>by subst z;rw [ha] at e;cases e)];exact e
 have nt:∀b xs,H b=some (.tup xs)->upd H a u b=some (.tup xs):=λb xs q=>by rw [A0h (A1g q ha (by intro z;cases z))];exact q
 have no:∀b c,H b=some (.own c)->upd H a u b=some (.own c):=λb c q=>by rw [A0h (A1g q ha (by intro z;cases z))];exact q
 refine ⟨I.ok,I.os,I.bare,⟨I.base.keep,I.base.slot,λb ob e n hx=>nf b (I.base.free b ob e n hx),I.base.there,λb xs e=>nt b xs (I.base.tups b xs e),λb ob u' e=> ?_,λb ps e=> ?_⟩,I.loc,I.cell,nf _ I.free,λx c e=>nf _ (I.freeC x c e),
  λp hp=>⟨(I.pin p hp).1,nf _ (I.pin p hp).2.1,(I.pin p hp).2.2⟩,λb v e=> ?_,I.len⟩
 ·have q:=I.base.frzs b ob u' e;rw [A0h (λz=>by subst z;exact h0 _ _ e)];exact q
 ·obtain ⟨more,q⟩:=I.base.tbls b ps e;exact ⟨more,by rw [A0h (A1g q ha (by intro z;cases z))];exact q⟩
 ·by_cases hb:b=a
  ·subst hb;rw [A0b] at e;cases e;obtain ⟨_,q⟩:=(show A2c X.prog X.w H s.heap b (.frz o u) from I.hok b _ ha);exact q.stay (λ_ _ _ q=>q) (λc q=>no c b q) λc xs q=>nt c xs q
  ·rw [A0h hb] at e;exact (I.hok b v e).stay (λ_ _ _ q=>q) (λc q=>no c b q) λc xs q=>nt c xs q
def D9j (X:Cx) (t:TS):TS:=λD Z H=>∃a o u,H a=some (.frz o u)/\isD u/\(∀o' u',X.H₀ a≠some (.frz o' u'))/\t D Z (upd H a u)
theorem B2z {t:TS} (h:PSs X sts t):PSs X sts (D9j X t):=by
 intro pins s Z H D I hw;obtain ⟨a,o,u,ha,hu,h0,q⟩:=hw;exact h pins s Z _ D (I.thawD ha hu h0) q
abbrev E1w (es:Array DictEntry) (L:List (V×V)):Prop:=Paired (λ(e:DictEntry) (p:V×V)=>A2u p.1 e.key/\A2u p.2 e.val) es.toList L
def Iti (a:Addr) (o:Obj) (u:HO) (L:List (V×V)):It :=
 ⟨λi H=>H a=some (.frz o u)/\i<L.length,λi H x H'=>∃k v p,L[i]? =some (k,v)/\H p=none/\x= .ref p/\H'=upd H p (.tup [k,v]),λi H=>H a=some (.frz o u)/\i=L.length⟩
theorem B1m {α β:Type} {F:α->β->Prop}:∀{l:List α} {m:List β},Paired F l m->l.length=m.length
 | _,_,.nil=>rfl
 | _,_,.cons _ t=>by simp [B1m t]
theorem C0a {α β:Type} {F:α->β->Prop}:∀{l:List α} {m:List β},Paired F l m->∀{i:Nat} {y:β},m[i]? =some y->∃x,l[i]? =some x/\F x y
 | _,_,.nil,i,y,e=>by simp at e
 | _,_,.cons r t,0,y,e=>by simp at e;subst e;exact ⟨_,rfl,r⟩
 | _,_,.cons r t,i+1,y,e=>by
  obtain ⟨x,e1,e2⟩:=C0a t (i:=i) (by simpa using e);exact ⟨x,by simpa using e1,e2⟩
theorem C6y (it a:Addr) (o:Obj) (u:HO) (L:List (V×V)) (es:Array DictEntry) (ep:Nat) (ho:o.data= .dict es ep) (rl:E1w es L) :
  C7a P w K (.Tuple elts kk pos) (Iti a o u L) [it] it (λi h=>∃x y,IsItemIter h it a i es.size ep x y) where
 mem:=by simp
 obj:=λi h st b hb=>by
  have e:b=it:=by simpa using hb
  subst e;obtain ⟨x,y,e⟩:=st;exact ⟨_,e,λv z=>by cases (show Data.fields _=Data.cell v from z)⟩
 keep:=λi h h' st k=>let ⟨x,y,e⟩:=st;⟨x,y,k it (by simp) _ e⟩
 item:=by
  walk_at "c";obtain ⟨ha,hi⟩:=hg;obtain ⟨x,y,st⟩:=st;have hl:es.size=L.length:=by have:=B1m rl;simpa using this
  obtain ⟨⟨k,v⟩,hkv⟩:∃p,L[i]? =some p:=⟨L[i],by simp [hi]⟩;obtain ⟨e,he,r1,r2⟩:=C0a rl hkv;obtain ⟨hob,_⟩:=(show A2c X.prog X.w H s.heap a (.frz o u) from I.hok a _ ha);refine C6p st hob ho rfl (e:=e) (by simpa using he) λh' z1 z2 kp=> ?_;refine ⟨_,rfl,wpAny_letOwnedTupleGo_items (s:={ s with heap:=h' }) z1 λg zg sb=> ?_⟩
  have nz:s.heap.objs.size≠it:=Z1q (Z0a st)
  have I1:Inv X pins Z (upd H s.heap.objs.size (.tup [k,v])) { s with heap:=g,toks:=s.toks }:=I.turnedNew (ts:=[it]) (λc o hc e=>by
   have hc':c≠it:=by simpa using hc
   exact sb.extBut _ _ hc' (kp c o hc' e)) hf (Z09 _) ⟨by show 2<=sizeLine;decide,[e.key,e.val],.cons r1 (.cons r2 .nil),⟨_,sb.extBut _ _ nz z2,rfl,_,rfl⟩⟩
  refine ⟨.ref s.heap.objs.size,_,I1,rfl,⟨k,v,_,hkv,I.hok.fresh (Z09 _),rfl,rfl⟩,⟨_,_,zg⟩,λc hc=> ?_⟩;have hcn:c=it:=by simpa using hc
  subst hcn;rw [A0h nz.symm];exact (hf c hc).1
 done:=by
  walk_at "c";obtain ⟨ha,hi⟩:=hg;obtain ⟨x,y,st⟩:=st;have hl:es.size=L.length:=by have:=B1m rl;simpa using this
  obtain ⟨hob,_⟩:=(show A2c X.prog X.w H s.heap a (.frz o u) from I.hok a _ ha);walk_at "f";exact C9n (I.ok.hd hc) st hob ho rfl (by lia) λh' eb=>⟨rfl,I.turned (t':=s.toks) (λb ob hb e=>eb b ob hb e) f0 f1 f3 f4 f5⟩
 self:=λ_ _ s _ _ st h=>by
  obtain ⟨x,y,st⟩:=st;exact C5o st h
end
section
abbrev KL (H:Hp) (kvs:List (List Key×V)) (L:List (V×V)):Prop:=Paired (λ(p:List Key×V) (q:V×V)=>∃b,q.1= .ref b/\H b=some (.tup (p.1.map kV))/\q.2=p.2) kvs L
theorem B8w {α β:Type} {F:α->β->Prop}:∀{l:List α} {m:List β},l.length=m.length->(∀(i:Nat) (x:α) (y:β),l[i]? =some x->m[i]? =some y->F x y)->Paired F l m
 | [],[],_,_=> .nil
 | [],_::_,e,_=>by simp at e
 | _::_,[],e,_=>by simp at e
 | x::l,y::m,e,h=> .cons (h 0 x y rfl rfl) (B8w (by simpa using e) λi a b p q=>h (i+1) a b (by simpa using p) (by simpa using q))
theorem D9r (r:KV kvs vs) (p:Pairs (A1p P w) es.toList vs):E1w es (kvs.map λq=>(kV q.1,q.2)):=by
 refine B8w (by rw [p.length,Z08];exact r.length.symm) λi e y he hy=> ?_;rw [Z1z] at hy;obtain ⟨⟨k,v⟩,hk,rfl⟩:=Z0i.mp hy;obtain ⟨u,hu,ru⟩:=r.at hk;obtain ⟨h1,h2⟩:=p.get? he hu;subst h2;exact ⟨E0x h1,ru⟩
theorem D4g {P:Program} {w:World} {H:Hp}:∀{kvs:List (List Key×V)} {xs:List (List Key×Addr×Value)},KT H kvs xs->
  ∃L,Paired (λ(e:DictEntry) (p:V×V)=>A2u p.1 e.key/\A2u p.2 e.val) (xs.map (entryOfKey (tupleKind (A1p P w)))) L/\KL H kvs L
 | _,_,.nil=>⟨[],.nil,.nil⟩
 | _,_,@Paired.cons _ _ _ p q _ _ h t=>by
  obtain ⟨L,h1,h2⟩:=D4g (P:=P) (w:=w) t;exact ⟨(.ref q.2.1,p.2)::L,.cons ⟨rfl,h.2.2⟩ h1,.cons ⟨q.2.1,rfl,h.2.1,rfl⟩ h2⟩
def D9l (tl:TE):TI:=λZ H R=>tl Z H λx H1=>∃v a u,x= .ref v/\H1 v=some (C1c v a)/\H1 a=some u/\
 ((∃kvs,u= .dK kvs/\∀o,R (Iti a o u (kvs.map λq=>(kV q.1,q.2))) (upd H1 a (.frz o u)))\/∃kvs,u= .dT kvs/\∀o L,KL H1 kvs L->R (Iti a o u L) (upd H1 a (.frz o u)))
theorem B6j {l:Expr} {tl:TE} (hl:PE X l tl):PI X (.Tuple elts kk pos) l (D9l tl):=by
 intro pins s Z H R I h;refine thn (hl pins s Z H _ I h) ?_;rintro y s1 ⟨x,H1,I1,rx,v,a,u,ex,hv,ha,q⟩;subst ex;cases rx;obtain ⟨vw,_⟩:=(show A2c X.prog X.w H1 s1.heap v (C1c v a) from I1.hok v _ hv)
 have go:∀(o:Obj) (es:Array DictEntry) (ep:Nat) (L:List (V×V)),s1.heap.get? a=some o->o.data= .dict es ep->isD u->E1w es L->R (Iti a o u L) (upd H1 a (.frz o u))->
   wpAny (model X.prog X.w) X.A (pyIter (.ref v)) (PIE X pins Z (.Tuple elts kk pos) R) X.xe s1:=by
  intro o es ep L ho hd hu rl qq;refine C6f vw ho hd ?_;have I2:Inv X pins Z H1 { s1 with heap:=s1.heap.push { cls:= .type "dict_itemiterator",data:= .fields #[.none,.bool false,.ref a,.int 0 0,.int es.size 0,.int ep 0,.none,.none] },toks:=s1.toks }:=I1.kept λb ob e=>Z01 _ e
  have I3:=I2.frozenD ha hu (Z01 _ ho);refine ⟨_,[s1.heap.objs.size],_,_,_,rfl,I3,C6y _ a o u L es ep hd rl,⟨.none,.none,Z0c _ rfl⟩,λb hb=> ?_,qq⟩;have e:b=s1.heap.objs.size:=by simpa using hb
  subst e;refine I1.fpOk (Z09 _) ?_;rw [A0h (Z1q (I1.hok.lt ha))];exact I1.hok.fresh (Z09 _)
 rcases q with ⟨kvs,rfl,q⟩ | ⟨kvs,rfl,q⟩
 ·obtain ⟨hz,hs,vs,rel,o,es,ep,ho,hx,hd,_,r,_⟩:=C8a I1.hok ha;exact go o es ep _ ho hd (.inl ⟨_,rfl⟩) (D9r rel r) (q o)
 ·obtain ⟨hz,hs,xs,rel,o,es,ep,ho,hx,hd,he,_⟩:=(show A2c X.prog X.w H1 s1.heap a (.dT kvs) from I1.hok a _ ha);obtain ⟨L,h1,h2⟩:=D4g (P:=X.prog) (w:=X.w) rel;exact go o es ep L ho hd (.inr ⟨_,rfl⟩) (by unfold E1w;rw [he];exact h1) (q o L h2)
theorem B4d {L:List (V×V)} (Pv:Nat->St->Hp->Prop) (h0:Pv 0 Z H) (hl:∀i Z H,Pv i Z H->H a=some (.frz o u))
  (hs:∀i k v p Z H,L[i]? =some (k,v)->H p=none->Pv i Z H->g (.ref p) Z (upd H p (.tup [k,v])) λZ2 H2=>tb { D with nx:=Pv (i+1),ct:=Pv (i+1),bk:=D.nx } Z2 H2) (hd:∀Z H,Pv L.length Z H->D.nx Z H) :
  ∃W:Nat->Nat->St->Hp->Prop,(∃m,W 0 m Z H)/\∀i m Z H,W i m Z H->
   ((Iti a o u L).stop i H/\D.nx Z H)\/((Iti a o u L).go i H/\∃N:St->Hp->Prop,(∀Z' H',N Z' H'->∃m',m'<m/\W (i+1) m' Z' H')/\∀x H',(Iti a o u L).yld i H x H'->g x Z H' λZ2 H2=>tb { D with nx:=N,ct:=N,bk:=D.nx } Z2 H2):=by
 refine ⟨λi m Z H=>m=L.length-i/\i<=L.length/\Pv i Z H,⟨L.length,by simp,Z1e _,h0⟩,?_⟩;rintro i m Z H ⟨rfl,hi,p⟩;by_cases hlt:i<L.length
 ·refine .inr ⟨⟨hl i Z H p,hlt⟩,Pv (i+1),λZ' H' p'=>⟨L.length-(i+1),by lia,rfl,hlt,p'⟩,λx H' y=> ?_⟩;obtain ⟨k,v,q,e1,e2,rfl,rfl⟩:=y;exact hs i k v q Z _ e1 e2 p
 ·have e:i=L.length:=by lia
  subst e;exact .inl ⟨⟨hl _ Z H p,rfl⟩,hd Z H p⟩
end
section
variable {X:Cx}
def E1q (H:Hp):Prop:=(∀a kvs,H a=some (.dK kvs)->(kvs.map (·.1)).Nodup)/\∀a kvs,H a=some (.dT kvs)->(kvs.map (·.1)).Nodup
theorem D7l (r:KV kvs vs):kvs.map (·.1)=vs.map (·.1):=by
 unfold KV at r
 induction r with
 | nil=>rfl
 | cons h t ih=>rw [Z0p,Z0p,ih,h.1]
theorem D6w {kvs:List (List Key×V)} {xs:List (List Key×Addr×Value)} (r:KT H kvs xs):kvs.map (·.1)=xs.map (·.1):=by
 induction r with
 | nil=>rfl
 | cons h t ih=>rw [Z0p,Z0p,ih,h.1]
theorem Inv.apart (I:Inv X pins Z H s):E1q H:=by
 refine ⟨λa kvs e=> ?_,λa kvs e=> ?_⟩
 ·obtain ⟨_,_,vs,rel,o,es,ep,_,_,_,_,_,n⟩:=C8a I.hok e;rw [D7l rel];exact n
 ·obtain ⟨_,_,xs,rel,o,es,ep,_,_,_,_,n⟩:=(show A2c X.prog X.w H s.heap a (.dT kvs) from I.hok a _ e);rw [D6w rel];exact n
theorem D1o {t:TS} (h:PSs X sts t):PSs X sts (λD Z H=>E1q H->t D Z H):=λpins s Z H D I q=>h pins s Z H D I (q I.apart)
theorem A9d {κ:Type} [DecidableEq κ] {kvs:List (κ×V)} {k:κ} (n:(kvs.map (·.1)).Nodup) (h:kvs[i]? =some (k,v)) (ws:List (κ×V)) (e:ws.map (·.1)=(kvs.take i).map (·.1)) (u:V):A3v ws k u=ws++[(k,u)]:=by
 unfold A3v;rw [Z0t];intro a;obtain ⟨p,hp,ek⟩:=List.any_eq_true.mp a;have ek:p.1=k:=by simpa using ek
 have hm:k∈ws.map (·.1):=Z2c.mpr ⟨p,hp,ek⟩;rw [e] at hm;obtain ⟨q,hq,eq⟩:=Z2c.mp hm;obtain ⟨j,hj,ej⟩:=List.mem_iff_getElem.mp hq;have hji:j<i:=by have:=List.length_take_le i kvs;lia
 rw [List.getElem_take] at ej;obtain ⟨hi,ei⟩:=Z03.mp h;have hjl:j<kvs.length:=by lia
 have h1:(kvs.map λx=>x.1)[j]? =some k:=by rw [Z1z,Z0b hjl,ej];exact congrArg some eq
 have h2:(kvs.map λx=>x.1)[i]? =some k:=by rw [Z1z,h];rfl
 obtain ⟨l1,e1⟩:=Z03.mp h1;obtain ⟨l2,e2⟩:=Z03.mp h2;have:j=i:=(List.getElem_inj n).mp (e1.trans e2.symm)
 lia
end
theorem A9j:entryFor table "dict.update.loop"=some Builtin.«dict.update.loop»:=entryFor_of_tree (by kernel_rfl)
theorem A4z:plainId "dict.update.loop"=true:=by decide +kernel
section
variable {prog:Program} {w:World} {K:Type} [DecidableEq K] {knd:KeyKind prog w K} {A:Around} {R:Result->Shared->Prop} {I l d:Addr} {items:Array Value} {rs:List (K×Value)} {h₀:Heap} {g:Array GenState} {dr:Drawn} {os:OsState}
end
def B2n (env:Env):List (Str×Addr)->Prop
 | []=>True
 | p::r=>env.cells.lookup p.1=some p.2/\B2n env r
theorem B2n.get {env:Env}:∀{cl:List (Str×Addr)},B2n env cl->∀{x:Str} {c:Addr},cl.lookup x=some c->env.cells.lookup x=some c
 | [],_,_,_,h=>by cases h
 | (y,d)::r,h,x,c,e=>by
  rw [Z28] at e;split at e
  ·rename_i hb;have hb':x=y:=by simpa using hb
   cases e
   subst hb';exact h.1
  ·exact B2n.get h.2 e
theorem B0q {x:Str}:∀{cl:List (Str×Addr)},x∈cl.map (·.1)->∃c,cl.lookup x=some c
 | [],h=>by cases h
 | (y,d)::r,h=>by
  rw [Z28]
  cases hb:(x == y) with
  | true=>exact ⟨d,rfl⟩
  | false =>
   have hne:x≠y:=by simpa using hb
   rcases Z0e.mp h with e | e
   ·exact absurd e hne
   ·exact B0q e
theorem A8r {xs:List Str} (he:closureFor scope X.env=pure cl) (hc:B2n X.env cl) (hx:cl.map (·.1)=xs) (hk:scope.kind= .function) (hn:∀y∈scope.names,y.2≠.cell/\(y.2= .free->y.1∈xs))
  (hl:∀y∈scope.names,y.2= .local->scope.names.lookup y.1=some .local):C8y X scope cl where
 eq:=he
 sub:=λy d h=>hc.get h
 has:=λy h=>by
  have key:y∈xs:=by
   have m:∃k,(y,k)∈(relabel scope X.env).names/\(k= .cell\/k= .free):=h.elim (λz=>⟨_,A7c z,.inl rfl⟩) λz=>⟨_,A7c z,.inr rfl⟩;obtain ⟨k,hm,hk⟩:=m;obtain ⟨⟨n,k0⟩,h0,e⟩:=Z2c.mp hm;dsimp only at e;by_cases hf:k0= .free
   ·have en:n=y:=by
     split at e
     ·exact congrArg Prod.fst e
     ·exact congrArg Prod.fst e
    rw [<-en];exact (hn _ h0).2 hf
   ·have hb:(k0 == NameKind.free)=false:=by simpa using hf
    simp only [hb,Bool.false_and,Bool.false_eq_true,if_false] at e;have e2:k0=k:=congrArg Prod.snd e;subst e2;rcases hk with hk | hk
    ·exact absurd hk (hn _ h0).1
    ·exact absurd hk hf
  rw [<-hx] at key;exact B0q key
 kind:=hk
 ncell:=λy hy=>(hn y hy).1
 names:=hl
def C0i (X:Cx) (scope:Scope):List Str->List Nat->Prop
 | [],[]=>True
 | x::xs,j::js=>(X.N[j]? =some x/\(X.env.scope.names.lookup x=some .cell\/X.env.scope.names.lookup x=some .free)/\((relabel scope X.env).names.lookup x=some .cell\/(relabel scope X.env).names.lookup x=some .free))/\C0i X scope xs js
 | _,_=>False
theorem C0i.get {X:Cx} {scope:Scope}:∀{xs:List Str} {js:List Nat},C0i X scope xs js->xs.length=js.length/\∀(i j:Nat),js[i]? =some j->∃x,xs[i]? =some x/\X.N[j]? =some x/\(X.env.scope.names.lookup x=some .cell\/X.env.scope.names.lookup x=some .free)/\((relabel scope X.env).names.lookup x=some .cell\/(relabel scope X.env).names.lookup x=some .free)
 | [],[],_=>⟨rfl,λi j e=>by simp at e⟩
 | x::xs,j::js,h=>by
  obtain ⟨e,f⟩:=C0i.get h.2;refine ⟨by simp [e],λi k ek=> ?_⟩
  cases i with
  | zero=>simp at ek;subst ek;exact ⟨x,rfl,h.1⟩
  | succ i=>exact f i k (by simpa using ek)
 | [],_::_,h=>h.elim
 | _::_,[],h=>h.elim
theorem A8n {N0 xs:List Str} {js:List Nat} (h:C0i X scope xs js):D0v X (N0++xs) scope (List.replicate N0.length none++js.map some):=by
 obtain ⟨hl,hf⟩:=h.get;refine ⟨by simp [hl],λi k e=> ?_⟩;by_cases hi:i<N0.length
 ·rw [Z26 (by simpa using hi),List.getElem?_replicate] at e;split at e <;> cases e
 ·rw [Z1l (by simpa using hi),List.length_replicate,Z1z] at e;obtain ⟨j,ej,ek⟩:=Z0i.mp e;cases ek;obtain ⟨x,h1,h2,h3,h4⟩:=hf _ _ ej;exact ⟨x,by rw [Z1l (by lia)];exact h1,h2,h3,h4⟩
section
variable {X:Cx}
end
abbrev D3k:= @C8e true true
abbrev D1g {K:Frag} {a b:Addr} {xs ys:List V} {g:TG} {tb:TS} {D:B6f} {Z:St} {H:Hp} (Pv:Nat->St->Hp->Prop) (h0:Pv 0 Z H) (hl:∀i Z H,Pv i Z H->SqL K H a xs/\SqL K H b ys) (hlen:xs.length=ys.length):=C3n (k1:=true) (k2:=true) (g:=g) (tb:=tb) (D:=D) Pv h0 hl (Nat.le_of_eq hlen)
section
variable {D:Addr} {g:TG} {te:TE} {QD:Hp->Prop} {Z₀:St} {H:Hp}
theorem A7f {J:It} (n:Nat) (Pv:Nat->List V->Hp->Prop) (h0:Pv 0 [] (upd H D (.lst []))) (hgo:∀i ys H,i<n->Pv i ys H->J.go i H) (hst:∀ys H,Pv n ys H->J.stop n H)
  (hs:∀i ys H,i<n->Pv i ys H->∀x H3,J.yld i H x H3->g x Z₀ H3 λZ4 H4=>A3b Z₀ Z4/\te Z4 H4 λy H5=>H5 D=some (.lst ys)/\ys.length<sizeLine/\Pv (i+1) (ys++[y]) (upd H5 D (.lst (ys++[y])))) (hd:∀ys H,Pv n ys H->QD H) :
  ∃W:Nat->Nat->Hp->Prop,(∃m,W 0 m (upd H D (.lst [])))/\∀i m H2,W i m H2->
   (J.stop i H2/\QD H2)\/(J.go i H2/\∃N:VK,(∀y H5,N y H5->∃xs,H5 D=some (.lst xs)/\xs.length<sizeLine/\∃m',m'<m/\W (i+1) m' (upd H5 D (.lst (xs++[y]))))/\
    ∀x H3,J.yld i H2 x H3->g x Z₀ H3 λZ4 H4=>A3b Z₀ Z4/\te Z4 H4 N):=by
 refine ⟨λi m H=>m=n-i/\i<=n/\∃ys,Pv i ys H,⟨n,by simp,Z1e _,[],h0⟩,?_⟩;rintro i m H2 ⟨rfl,hi,ys,p⟩;by_cases hlt:i<n
 ·exact .inr ⟨hgo i ys H2 hlt p,λy H5=>H5 D=some (.lst ys)/\ys.length<sizeLine/\Pv (i+1) (ys++[y]) (upd H5 D (.lst (ys++[y]))),λy H5 z=>⟨ys,z.1,z.2.1,n-(i+1),by lia,rfl,hlt,_,z.2.2⟩,λx H3 z=>hs i ys H2 hlt p x H3 z⟩
 ·have e:i=n:=by lia
  subst e;exact .inl ⟨hst ys H2 p,hd ys H2 p⟩
end
theorem C4f (h:X.K=K):IxR X (E4s K):=h▸A1l
theorem D7x (h:X.K=K):IxR X (E4q K):=h▸A1d
theorem C8f {C:Addr} {U:String} {b:Bool} (h:mroIn K C (.type U)=some b) (hm:PySem.W.kitMeta U=true):∀u,A2u (.ty U) u->kitOne K (.ref C) u=some b:=by
 intro u z;cases (show u=Value.type U from z);unfold kitOne;rw [Z0t (show¬(Value.ref C == Value.type U)=true from Z0v)];show (if PySem.W.kitMeta U=true then subIn K (.ref C) (.type U) else none)=some b;rw [Z12 hm];exact h
theorem A4q.or {base:Heap} {CX:CXT} {k:Nat} {sp sp':Sp} (F:A4q P w K mg base CX k f fd ps sp) (F':A4q P w K mg base CX k f fd ps sp') :
  A4q P w K mg base CX k f fd ps (λvs H Q E=>sp vs H Q E\/sp' vs H Q E) :=
 ⟨λvs H Q E q=>q.elim (F.len vs H Q E) (F'.len vs H Q E),λA outer s H args us vs Q E hr he hb hv q=>q.elim (F.run A outer s H args us vs Q E hr he hb hv) (F'.run A outer s H args us vs Q E hr he hb hv)⟩
theorem C2o (acc ws:List (Key×V)) (w:Key×V):A4g acc (ws++[w])=A3v (A4g acc ws) w.1 w.2:=by unfold A4g;rw [List.foldl_append];rfl
section
variable {X:Cx}
theorem C3y (hN₀:X.N.Nodup) (hi₀:X.N[i₀]? =some x₀) (hx₀:Loc X.env.scope x₀) (hc:X.calm=true) (ck:C8y X scope cl) (io:D0v X N' scope ix) (hi:PI X tg iter wi)
  (hg:∀C s₀ H₀ fp,PG (blk X N' scope cl C s₀ H₀ fp) tg g) (ht:∀C s₀ H₀ fp,PTs (blk X N' scope cl C s₀ H₀ fp) cs tc) (he:∀C s₀ H₀ fp,PE (blk X N' scope cl C s₀ H₀ fp) elt te) (R:B6f->St->It->Hp->Prop) (hR:∀D Z J H1,R D Z J H1->∀D2,H1 D2=none->∃W:Nat->Nat->Hp->Prop,(∃m,W 0 m (upd H1 D2 (.lst [])))/\∀i m H2,W i m H2->
   (J.stop i H2/\D.nx (Z.set i₀ (some (.ref D2))) H2)\/(J.go i H2/\∃(N:VK) (M:Hp->Prop),(∀y H5,N y H5->∃xs,H5 D2=some (.lst xs)/\xs.length<sizeLine/\∃m',m'<m/\W (i+1) m' (upd H5 D2 (.lst (xs++[y]))))/\(∀H5,M H5->∃m',m'<m/\W (i+1) m' H5)/\∀x H3,J.yld i H2 x H3->g x (A6p ix Z) H3 λZ4 H4=>A3b (A6p ix Z) Z4/\tc Z4 H4 λb H5=>if b=true then te Z4 H5 N else M H5)) (hs:∀x,foldedSetIterable iter X.env x=pure x:=by intro _;rfl)
  (hsw:swapsWith (.ListComp elt [⟨tg,iter,cs,0⟩] scope pos) (some (.Name x₀ pos₀)) spos.line X.env=pure true:=by rfl) (hf₀:X.fn x₀=true\/X.env.scope.names.lookup x₀=some .local:=by first | exact .inl rfl | exact .inr rfl | assumption) :
  PS X (.Assign [.Name x₀ pos₀] (.ListComp elt [⟨tg,iter,cs,0⟩] scope pos) spos) (λD Z H=>wi Z H (R D Z)):=by
 intro pins s Z H D₀ I h;rw [exec_Assign_Name_used _ _ _ _ hsw];refine Z00 (Z1y (Z00 ?_));show wpAny _ X.A (do let _<-comprehension (.ListComp elt [⟨tg,iter,cs,0⟩] scope pos) scope X.env _ (newList []) false (eval iter X.env) (some (assign (.Name x₀ pos₀) X.env))) _ _ s;refine Z00 (Z10 (wpAny_comprehension_free (use:=some (assign (.Name x₀ pos₀) X.env)) (Q:=λ_ s'=>∃Z' H',Inv X pins Z' H' s'/\D₀.nx Z' H') rfl hs ck.eq ck.kind ck.names (thn (hi pins s Z H _ I h) λxv s1 h1=>thn h1 λitv s2 h2=> ?_)) (λ_ s' hq=>Z04 (Z04 hq)) λ_ _ e=>e);obtain ⟨it,fp,tn,J,H1,rfl,I1,T,st1,f1,R1⟩:=h2;refine Z16 ?_;have hD:H1 s2.heap.objs.size=none:=I1.hok.fresh (Z09 _);obtain ⟨W,⟨m0,w0⟩,turn⟩:=hR _ _ _ _ R1 _ hD;have hfD:∀b∈fp,b<s2.heap.objs.size:=λb hb=>let ⟨o,e,_⟩:=T.obj _ _ st1 b hb;Z0a e;have I2:Inv X pins Z (upd H1 s2.heap.objs.size (.lst [])) { s2 with heap:=s2.heap.push { cls:= .type "list",data:= .seq ([]:List Value).toArray },toks:=s2.toks }:=I1.lnew (its:=[]) .nil (Z1e _);have f2:∀b∈fp,B9l X pins (upd H1 s2.heap.objs.size (.lst [])) b:=λb hb=>⟨by rw [A0h (Z0h (hfD b hb))];exact (f1 b hb).1,(f1 b hb).2⟩
 have lt2:∀b∈fp,b<(s2.heap.push { cls:= .type "list",data:= .seq ([]:List Value).toArray }).objs.size:=λb hb=>by rw [Z1s];exact Nat.lt_succ_of_lt (hfD b hb)
 refine wpAny_newFunctionEnv ck.ncell (by intro y hy;simp at hy) (λh3 hns sb3=> ?_) ck.kind;dsimp only at hns sb3⊢;have k3:∀b o,(s2.heap.push { cls:= .type "list",data:= .seq ([]:List Value).toArray }).get? b=some o->h3.get? b=some o:=λb o e=>(sb3.2 b (Z0h (Z0a e))).trans (Z01 _ e);generalize hs2:({ s2 with heap:=s2.heap.push { cls:= .type "list",data:= .seq ([]:List Value).toArray },toks:=s2.toks }:Shared)=s3 at I2;have e3:s2.heap.push { cls:= .type "list",data:= .seq ([]:List Value).toArray }=s3.heap:=by rw [<-hs2]
 rw [e3] at hns k3 lt2;have I3:=C0t (N':=N') (ix:=ix) I2 ck io f2 lt2 (h':=h3) (t':=s2.toks+([]:List (Str×Value)).length) hns k3;have e4:({ s3 with heap:=h3,toks:=s2.toks+([]:List (Str×Value)).length }:Shared)={ s2 with heap:=h3,toks:=s2.toks+([]:List (Str×Value)).length }:=by rw [<-hs2]
 rw [e4] at I3;have st3:tn 0 h3:=T.keep _ _ _ st1 λb hb o e=>k3 b o (by rw [<-e3];exact Z01 _ e)
 have loop:∀s4:Shared,s4={ s2 with heap:=h3,toks:=s2.toks+([]:List (Str×Value)).length }->
   codeAny (model X.prog X.w) X.A (.compLoop (.ListComp elt [⟨tg,iter,cs,0⟩] scope pos) 0 (.ref it) (.ref s2.heap.objs.size) (compEnvC scope cl s3.heap.objs.size X.env))
    (compPost (model X.prog X.w) X.A X.xe (some (assign (.Name x₀ pos₀) X.env)) (λ_ s'=>∃Z' H',Inv X pins Z' H' s'/\D₀.nx Z' H') (.ref s2.heap.objs.size) s3.heap.objs.size) s4:=by
  rintro s4 rfl
  have stat:∀{H':Hp},(∀b∈fp,H' b=none)->∀b∈fp,B9l (blk X N' scope cl s3.heap.objs.size s3 (upd H1 s2.heap.objs.size (.lst [])) fp) [] H' b:=λhn b hb =>
   ⟨hn b hb,Z0h (lt2 b hb),λhs=>I3.ok.exfs b hb hs,.inl hb,λx c e=>(f2 b hb).2.2.2.2.1 x c (ck.sub x c e),(λp hp=>by cases hp)⟩
  refine codeAny_loop rfl (λn s'=>∃i Z' H',Inv (blk X N' scope cl s3.heap.objs.size s3 (upd H1 s2.heap.objs.size (.lst [])) fp) [] Z' H' s'/\(∀(j:Nat) v,(A6p ix Z)[j]? =some (some v)->Z'[j]? =some (some v))/\tn i s'.heap/\(∀b∈fp,H' b=none)/\W i n H')
   (λn s' hI=> ?_) m0 ⟨0,_,_,I3,λ_ _ z=>z,st3,λb hb=>(f2 b hb).1,w0⟩
  obtain ⟨i,Z5,H5,I5,wk,st5,fr5,w5⟩:=hI;show wpAny _ _ ((compTurn (.ListComp elt [⟨tg,iter,cs,0⟩] scope pos) 0 (.ref it) (.ref s2.heap.objs.size) (compEnvC scope cl s3.heap.objs.size X.env)).onRaise (λx=>do noteFrame x (compEnvC scope cl s3.heap.objs.size X.env);theTreesLotGoes x)) _ _ s';refine wpAny_noted ?_;rw [compTurn_list];refine Z00 (Z1y ?_);rcases turn i n H5 w5 with ⟨stop,qn⟩ | ⟨go,NN,MM,hNN,hMM,step⟩
  ·refine Z00 (Z10 (T.done (blk X N' scope cl s3.heap.objs.size s3 (upd H1 s2.heap.objs.size (.lst [])) fp) rfl rfl rfl hc i [] s' Z5 H5 (λ_ _=>False) I5 (stat fr5) st5 stop) (λr s6 h6=> ?_) λ_ _ z=>z.elim);obtain ⟨rfl,I6⟩:=h6;refine Z04 ?_;obtain ⟨mm,hm,_⟩:=id I6.loc;have fC:B9l X pins H5 s3.heap.objs.size:=I2.fpOk (Z09 _) I6.free;have Io:Inv X pins Z H5 s6:=C7m I2 f2 I6 (Heap.SameBut.refl _ _);show wpAny _ X.A (assign (.Name x₀ pos₀) X.env (.ref s2.heap.objs.size)) _ _ s6;refine wpAny_assign_Name (B9a Io hN₀ hi₀ hx₀ (v:= .ref s2.heap.objs.size) rfl (λs7 I7 sb7=> ?_) hf₀);obtain ⟨a,sb,ha⟩:=sb7
   have ca:s3.heap.objs.size≠a:=by
    rcases ha with ha | ha
    ·rw [ha];exact fC.2.1
    ·exact λz=>fC.2.2.2.2.1 _ _ ha z.symm
   obtain ⟨oC,es,ep,ho,r⟩:=hm;exact ⟨mm,⟨oC,es,ep,(sb.2 _ ca).trans ho,r⟩,λh' sb'=>⟨_,H5,I7.turned (t':=s7.toks) (λb o hb e=>(sb'.2 b hb).trans e) fC.1 fC.2.1 fC.2.2.2.1 fC.2.2.2.2.1 fC.2.2.2.2.2,qn⟩⟩
  ·refine Z00 (Z10 (T.item (blk X N' scope cl s3.heap.objs.size s3 (upd H1 s2.heap.objs.size (.lst [])) fp) rfl rfl rfl hc i [] s' Z5 H5 (λ_ _=>False) I5 (stat fr5) st5 go) (λr s6 h6=> ?_) λ_ _ z=>z.elim);obtain ⟨u,rfl,h6⟩:=h6;refine Z00 (Z10 h6 (λ_ s7 h7=> ?_) λ_ _ z=>z.elim);obtain ⟨x,H7,I7,r7,y7,st7,fr7⟩:=h7;have I7w:Inv (blk X N' scope cl s3.heap.objs.size s3 (upd H1 s2.heap.objs.size (.lst [])) fp) [] (A6p ix Z) H7 s7:=I7.weak (by rw [I7.len];unfold A6p;rw [Z08];exact io.1) wk;have I7p:=I7w.pinned (stat fr7) (T.obj _ _ st7);refine Z00 (Z10 (hg _ _ _ _ _ s7 _ H7 x u _ I7p r7 (step x H7 y7)) (λ_ s8 h8=> ?_) λ_ _ z=>z.elim);obtain ⟨Z8,H8,I8,kp8,q8⟩:=h8
   have back:∀{s10:Shared} {Z10:St} {H10:Hp} {m':Nat},Inv (blk X N' scope cl s3.heap.objs.size s3 (upd H1 s2.heap.objs.size (.lst [])) fp) ([]++B5t fp s7.heap) Z10 H10 s10->(∀(j:Nat) v,(A6p ix Z)[j]? =some (some v)->Z10[j]? =some (some v))->W (i+1) m' H10->
     ∃i Z' H',Inv (blk X N' scope cl s3.heap.objs.size s3 (upd H1 s2.heap.objs.size (.lst [])) fp) [] Z' H' s10/\(∀(j:Nat) v,(A6p ix Z)[j]? =some (some v)->Z'[j]? =some (some v))/\tn i s10.heap/\(∀b∈fp,H' b=none)/\W i m' H':=by
    intro s10 Z10 H10 m' I10 kk w10;refine ⟨i+1,Z10,H10,I10.unpinned,kk,T.keep _ _ _ st7 λb hb o e=>(I10.pin (b,o) (Z02 _ (Z02 _ (A5q hb e)))).1,λb hb=> ?_,w10⟩;obtain ⟨o,e,d⟩:=T.obj _ _ st7 b hb;exact (I10.pin (b,o) (Z02 _ (Z02 _ (A5q hb e)))).2.1
   refine Z00 (Z10 (ht _ _ _ _ _ s8 Z8 H8 _ I8 q8) (λok s9' h9'=> ?_) λ_ _ z=>z.elim);obtain ⟨H9',I9',q9'⟩:=h9'
   cases ok with
   | false =>
    have q9'':MM H9':=by simpa using q9'
    obtain ⟨m',hm',w9⟩:=hMM _ q9'';exact Z00 (Z04 (Z04 ⟨rfl,m',hm',back I9' kp8.get w9⟩))
   | true =>
    have q9'':te Z8 H9' NN:=by simpa using q9'
    refine Z00 (Z00 (Z10 (he _ _ _ _ _ s9' Z8 H9' _ I9' q9'') (λyv s9 h9=> ?_) λ_ _ z=>z.elim));obtain ⟨y,H9,I9,r9,n9⟩:=h9;obtain ⟨xs,hx9,hz9,m',hm',w9⟩:=hNN _ _ n9;refine Z00 (Z10 (A3h (X:=blk X N' scope cl s3.heap.objs.size s3 (upd H1 s2.heap.objs.size (.lst [])) fp) _ s9 Z8 H9 (.ref s2.heap.objs.size) [y] (.ref s2.heap.objs.size) [yv] (λ_ H'=>W (i+1) m' H') I9 rfl (.cons r9 .nil) ⟨_,xs,y,rfl,rfl,hx9,hz9,w9⟩) (λ_ s10 h10=> ?_) λ_ _ z=>z.elim);obtain ⟨_,H10,I10,_,w10⟩:=h10;exact Z04 (Z04 ⟨rfl,m',hm',back I10 kp8.get w10⟩)
 have e5:s3.heap.objs.size=(s2.heap.push { cls:= .type "list",data:= .seq ([]:List Value).toArray }).objs.size:=by rw [e3]
 rw [e5] at loop;exact codeAny_compStart_list (loop _ rfl) (T.self X.A 0 _ _ _ st3 (loop _ rfl))
theorem B8d (hN₀:X.N.Nodup) (hi₀:X.N[i₀]? =some x₀) (hx₀:Loc X.env.scope x₀) (hc:X.calm=true) (ck:C8y X scope cl) (io:D0v X N' scope ix) (hi:PI X tg iter wi)
  (hg:∀C s₀ H₀ fp,PG (blk X N' scope cl C s₀ H₀ fp) tg g) (he:∀C s₀ H₀ fp,PE (blk X N' scope cl C s₀ H₀ fp) elt te) (hs:∀x,foldedSetIterable iter X.env x=pure x:=by intro _;rfl)
  (hsw:swapsWith (.ListComp elt [⟨tg,iter,[],0⟩] scope pos) (some (.Name x₀ pos₀)) spos.line X.env=pure true:=by rfl) (hf₀:X.fn x₀=true\/X.env.scope.names.lookup x₀=some .local:=by first | exact .inl rfl | exact .inr rfl | assumption) :
  PS X (.Assign [.Name x₀ pos₀] (.ListComp elt [⟨tg,iter,[],0⟩] scope pos) spos) (E1v (D9e ix wi g te) (B5c i₀)) :=
 C3y (tc:=λ_ H Q=>Q true H) hN₀ hi₀ hx₀ hc ck io hi hg (λ_ _ _ _ _ _ _ _ _ I h=>wpAny_tests_nil ⟨_,I,h⟩) he _ (λ_ _ _ _ R D2 hD=>by
  obtain ⟨W,w0,turn⟩:=R D2 hD;refine ⟨W,w0,λi m H2 w=>(turn i m H2 w).imp id λ⟨go,N,hN,step⟩=>⟨go,N,λ_=>False,hN,λ_ z=>z.elim,?_⟩⟩
  simpa using step) hs hsw hf₀
theorem C9r {c:Expr} (hN₀:X.N.Nodup) (hi₀:X.N[i₀]? =some x₀) (hx₀:Loc X.env.scope x₀) (hc:X.calm=true) (ck:C8y X scope cl) (io:D0v X N' scope ix) (hi:PI X tg iter wi)
  (hg:∀C s₀ H₀ fp,PG (blk X N' scope cl C s₀ H₀ fp) tg g) (ht:∀C s₀ H₀ fp,PT (blk X N' scope cl C s₀ H₀ fp) c tc) (he:∀C s₀ H₀ fp,PE (blk X N' scope cl C s₀ H₀ fp) elt te) (hs:∀x,foldedSetIterable iter X.env x=pure x:=by intro _;rfl)
  (hsw:swapsWith (.ListComp elt [⟨tg,iter,[c],0⟩] scope pos) (some (.Name x₀ pos₀)) spos.line X.env=pure true:=by rfl) (hf₀:X.fn x₀=true\/X.env.scope.names.lookup x₀=some .local:=by first | exact .inl rfl | exact .inr rfl | assumption) :
  PS X (.Assign [.Name x₀ pos₀] (.ListComp elt [⟨tg,iter,[c],0⟩] scope pos) spos) (E1v (D0f ix wi g tc te) (B5c i₀)) :=
 C3y hN₀ hi₀ hx₀ hc ck io hi hg (λC s₀ H₀ fp pins s Z H Q I h=>wpAny_tests_one (ht C s₀ H₀ fp pins s Z H Q I h)) he _ (λ_ _ _ _ R=>R) hs hsw hf₀
theorem C0v {xs:List V} {its:List Value} (r:A2r xs its):∀js:List Nat,A2r (js.filterMap (xs[·]?)) (js.filterMap (its[·]?))
 | []=> .nil
 | j::js=>by
  have hl:=r.length;have t:=C0v r js
  cases hx:xs[j]? with
  | none =>
   have hi:its[j]? =none:=by rw [List.getElem?_eq_none_iff] at hx⊢;lia
   rw [List.filterMap_cons_none hx,List.filterMap_cons_none hi];exact t
  | some x =>
   obtain ⟨u,hu,ru⟩:=r.get hx;rw [List.filterMap_cons_some hx,List.filterMap_cons_some hu];exact .cons ru t
def tSl3 (K:Frag) (te:TE) (tl th:TO) (ts:TE):TE:=λZ H Q=>te Z H λx H1=>tl Z H1 λl H2=>th Z H2 λu H3=>ts Z H3 λy H4=>∃a xs i k,x= .ref a/\l=some i/\u=none/\y= .int k/\0<=i/\0<k/\SqL K H4 a xs/\∀p zs,H4 p=none->zs.length<=xs.length->(∀z∈zs,z∈xs)->Q (.ref p) (upd H4 p (.lst zs))
theorem D1d {a k:Int} (h0:0<=a) (hk:0<k):((if k>0 then (if a<(n:Int) then ((n:Int)-a+k-1)/k else 0) else (if a>(n:Int) then (a-(n:Int)-k-1)/(-k) else 0)):Int).toNat<=n:=by
 rw [Z12 hk];split
 ·have h1:((n:Int)-a+k-1)/k<=(n:Int)-a:=by
   have e:(n:Int)-a+k-1=((n:Int)-a-1)+1*k:=by lia
   rw [e,Int.add_mul_ediv_right _ _ (by lia)];have:=Int.ediv_le_self k (show 0<=(n:Int)-a-1 by lia)
   lia
  lia
 ·exact Z1e _
theorem C9u {e st:Expr} {lo hi:Option Expr} {ts:TE} {tl th:TO} {p2:Pos} (he:PE X e te) (hl:PO X lo tl) (hu:PO X hi th) (hst:PE X st ts):PE X (.Subscript e (.Slice lo hi (some st) p2) pos) (tSl3 X.K te tl th ts):=by
 intro pins s Z H Q I h;refine Subscript_ (thn (he pins s Z H _ I h) ?_);rintro v s1 ⟨x,H1,I1,r1,q1⟩;refine wpAny_Slice (thn (hl pins s1 Z H1 _ I1 q1) ?_);rintro vl s2 ⟨l,H2,I2,pl,q2⟩;refine thn (hu pins s2 Z H2 _ I2 q2) ?_;rintro vu s3 ⟨u,H3,I3,pu,q3⟩;rw [evalPart_some];refine thn (hst pins s3 Z H3 _ I3 q3) ?_;rintro vs s4 ⟨y,H4,I4,r4,q4⟩;obtain ⟨a,xs,i,k,rfl,rfl,rfl,rfl,h0,hk,hq,q⟩:=q4;cases r1;obtain ⟨tk,rfl⟩:=(show∃t,vs=Value.int k t from r4);have I5:Inv X pins Z H4 { s4 with heap:=s4.heap.push { cls:= .type "slice",data:= .fields #[vl,vu,.int k tk] } }:=I4.kept (t':=s4.toks) λb ob q=>Z01 _ q
 obtain ⟨its,r,ht,hz⟩:=I5.list hq;have hlen:=r.length;show wpAny (model X.prog X.w) X.A (subscriptTail e (.Slice lo hi (some st) p2) (.ref a) (.ref s4.heap.objs.size)) (EP X pins Z Q) X.xe { s4 with heap:=s4.heap.push { cls:= .type "slice",data:= .fields #[vl,vu,.int k tk] } };refine tail_any (ops:=[.ref a,.ref s4.heap.objs.size]) (T:="list") ht.isList.typeIs slot_list_getitem.lookup ?_ (by with_unfolding_all rfl);refine wpAny_getItem_list_slice ht.isList (Heap.IsSliceOf.new ..) pl pu (.int k tk) (by intro z;cases z;lia) ?_ (by rw [Z0g] <;> lia);generalize hjs:sliceRange (sliceBounds (some i) none (some k) its.toArray.size).1 (sliceBounds (some i) none (some k) its.toArray.size).2.1 (sliceBounds (some i) none (some k) its.toArray.size).2.2=js
 have hp:slicePick its.toArray (some i) none (some k)=(js.filterMap (its[·]?)).toArray:=by
  unfold slicePick;rw [hjs];simp
 have hjl:js.length<=its.length:=by
  rw [<-hjs];have b1:(sliceBounds (some i) none (some k) its.toArray.size).2.1=((its.length:Nat):Int):=by simp [sliceBounds,hk]
  have b2:(sliceBounds (some i) none (some k) its.toArray.size).2.2=k:=by simp [sliceBounds]
  have b3:0<=(sliceBounds (some i) none (some k) its.toArray.size).1:=by
   simp only [sliceBounds,Option.getD_some,hk,if_true,show¬i<0 by lia,if_false]
   lia
  rw [b1,b2];unfold sliceRange;rw [Z08,List.length_range];exact D1d b3 hk
 rw [hp]
 have hzl:(js.filterMap (xs[·]?)).length<=xs.length:=by
  have:=List.length_filterMap_le (xs[·]?) js
  lia
 refine ⟨.ref _,_,I5.laid (t':=s4.toks) (o:= .lst (js.filterMap (xs[·]?))) (λb ob q=>Z01 _ q) (Z09 _) ?_,rfl,q _ _ (I5.hok.fresh (Z09 _)) hzl λz hz'=> ?_⟩
 ·exact ⟨by lia,_,0,C0v r js,Z0c _ rfl⟩
 ·obtain ⟨j,_,e⟩:=List.mem_filterMap.mp hz';exact Z13 e
theorem B0n (hc:X.calm=true):B1i X (.builtin "sum") (λvs H Q=>∃(a:Addr) (ns:List Int),vs=[V.ref a]/\SqL X.K H a (ns.map V.int)/\∀i:Int,Q (.int i) H):=by
 intro pins s Z H vs us Q I r h;obtain ⟨a,ns,rfl,hq,q⟩:=h;obtain ⟨u,rfl,ru⟩:=B4x r;cases ru;have hh:X.A.handled=none:=I.ok.hd hc;obtain ⟨its,rv,p1,_⟩:=I.list hq;have la:a<s.heap.objs.size:=let ⟨_,e,_⟩:=p1.isList;Z0a e;refine call_sum_walkAnyS (wpAny_pyIter_list p1.isList ?_);refine ⟨s.heap.objs.size,[s.heap.objs.size,a],[s.heap.objs.size],λa b=>b=a,its.toArray.size,λi v=>its.toArray[i]? =some v,λi s'=>s'.heap.IsListIter s.heap.objs.size a i/\s'.heap.IsList a its.toArray,λi=>ns.getD i 0,rfl,(Walks.list (prog:=X.prog) (w:=X.w) (A:=X.A.in1) (by simpa using hh) s.heap.objs.size a (Z0h la) its.toArray).toS,⟨⟨_,Z0c _ rfl,rfl,rfl⟩,p1.isList.push _⟩,λb hb=> ?_,λi v hv=> ?_,λs' t' mv=> ?_⟩
 ·simp only [Z0e,Z1i,or_false] at hb;show b<(s.heap.push _).objs.size;rw [Z1s];rcases hb with rfl | rfl
  ·exact Nat.lt_succ_self _
  ·exact Nat.lt_succ_of_lt la
 ·have hv:its[i]? =some v:=by simpa using hv
  have hi:i<(ns.map V.int).length:=by rw [rv.length];exact (Z03.mp hv).1
  have hx:(ns.map V.int)[i]? =some (V.int (ns.getD i 0)):=by
   rw [Z08] at hi;rw [Z1z,Z0b hi];simp [hi]
  obtain ⟨u,hu,ru⟩:=rv.get hx;rw [hv] at hu;cases hu;exact ru
 ·obtain ⟨h',g',d',tk',os'⟩:=s';have eg:g'=s.gens:=mv.gens;have ed:d'=s.drawn:=mv.drawn;have eo:os'=s.os:=mv.os;subst eg ed eo;refine ⟨.int _,H,I.kept (t':=tk') (h':=h') λb o e=>mv.heap b o (by simpa using Z0h (Z0a e)) (Z01 _ e),⟨t',rfl⟩,q _⟩
end
def E0f (K:Frag) (a:Addr):It :=
 ⟨λi H=>∃xs x,SqL K H a xs/\xs[i]? =some x,
  λi H v H'=>∃p,H p=none/\v= .ref p/\∃x,(∀xs,SqL K H a xs->xs[i]? =some x)/\H'=upd H p (.tup [.int (i:Nat),x]),
  λi H=>∃xs,SqL K H a xs/\xs.length<=i⟩
def EnSt (e it a:Addr) (i:Nat) (h:Heap):Prop:=(∃old,IsEnum h e it (i:Nat) old)/\h.IsListIter it a i
theorem C8z {e:Addr} (ne:e≠it):C7a P w K (.Tuple elts kk pos) (E0f K a) [e,it] e (EnSt e it a) where
 mem:=by simp
 obj:=λi h st c hc=>by
  obtain ⟨⟨old,h1⟩,h2⟩:=st;simp only [Z0e,Z1i,or_false] at hc;rcases hc with rfl | rfl
  ·exact ⟨_,h1,λv z=>by cases (show Data.fields _=Data.cell v from z)⟩
  ·obtain ⟨o,ho,_,hd⟩:=h2;exact ⟨o,ho,λv z=>by rw [hd] at z;cases z⟩
 keep:=λi h h' st k=>by
  obtain ⟨⟨old,h1⟩,h2⟩:=st;exact ⟨⟨old,k e (by simp) _ h1⟩,h2.at λo z=>k it (by simp) o z⟩
 item:=by
  walk_at "c";obtain ⟨xs,x,hq,hx⟩:=hg;obtain ⟨its,rv,p1,_⟩:=I.list hq;obtain ⟨u,hu,ru⟩:=rv.get hx;obtain ⟨⟨old,h1⟩,h2⟩:=st;refine wpAny_pyNext_enum_item h1 h2 p1.isList (x:=u) (by simpa using hu) ne λh' z1 z2 z3 z4 kp=> ?_;refine ⟨_,rfl,wpAny_letOwnedTupleGo_enum (s:={ s with heap:=h',toks:=s.toks+1 }) z1 λg zg sb=> ?_⟩
  have nz:s.heap.objs.size≠e:=Z1q (Z0a h1);have n2:it<s.heap.objs.size:=let ⟨_,q,_⟩:=h2;Z0a q;have tq:g.get? s.heap.objs.size=some { cls:= .type "tuple",data:= .seq #[.int i s.toks,u] }:=sb.extBut _ _ nz z3
  have I1:Inv X pins Z (upd H s.heap.objs.size (.tup [.int (i:Nat),x])) { s with heap:=g,toks:=s.toks+1 }:=I.turnedNew (ts:=[e,it]) (λc o hc q=>by
   simp only [Z0e,Z1i,or_false,not_or] at hc
   exact sb.extBut _ _ hc.1 (kp c o hc.1 hc.2 q)) hf (Z09 _) ⟨by show 2<=sizeLine;decide,[.int i s.toks,u],.cons ⟨_,rfl⟩ (.cons ru .nil),⟨_,tq,rfl,_,rfl⟩⟩
  refine ⟨.ref s.heap.objs.size,_,I1,rfl,⟨_,I.hok.fresh (Z09 _),rfl,x,λzs hz=>by rw [I.list_inj hz hq];exact hx,rfl⟩,⟨⟨_,zg⟩,z2.at λo q=>sb.extBut _ _ ne.symm q⟩,λc hc=> ?_⟩
  have hcn:c≠s.heap.objs.size:=by
   simp only [Z0e,Z1i,or_false] at hc;rcases hc with rfl | rfl
   ·exact nz.symm
   ·exact Z0h n2
  rw [A0h hcn];exact (hf c hc).1
 done:=by
  walk_at "c";obtain ⟨xs,hq,hx⟩:=hg;obtain ⟨its,rv,p1,_⟩:=I.list hq;have e1:=rv.length;obtain ⟨⟨old,h1⟩,h2⟩:=st;refine wpAny_pyNext_enum_end (I.ok.hd hc) h1 h2 p1.isList (by simp;lia) λh' kp=>⟨rfl,?_⟩
  exact I.turnedL (t':=s.toks) (ts:=[e,it]) (λc o hc q=>by
   simp only [Z0e,Z1i,or_false,not_or] at hc
   exact kp c o hc.2 q) hf
 self:=λ_ _ _ _ _ st h=>by
  obtain ⟨⟨old,h1⟩,_⟩:=st;exact wpAny_pyIter_enum h1 h
def E3q (K:Frag) (ta:TA):TI:=λZ H R=>ta Z H λvs H1=>∃a xs,vs=[.ref a]/\SqL K H1 a xs/\R (E0f K a) H1
theorem C2r {tpos:Pos} {a:Expr} {p:Pos} (hg:Gl X "enumerate") (hm:X.mg "enumerate"=none) (ha:PA X [a] ta) (hs:starEach [a] X.env=[(false,eval a X.env)]:=by rfl) :
  PI X (.Tuple elts kk tpos) (.Call (.Name "enumerate" p) [a] [] pos) (E3q X.K ta):=by
 intro pins s Z H R I h;refine Call_ (A7a I hg hm boot_enumerate (PyProof.Rows.callWith_type1 (thn (ha pos pins s Z H _ I h) ?_) (by rw [hs];rfl) (by rfl)));rintro us s1 ⟨vs,H1,I1,r1,q1⟩;obtain ⟨l,xs,e,hq,q⟩:=q1;subst e;obtain ⟨u,rfl,ru⟩:=B4x r1;cases ru;obtain ⟨its,rv,p1,_⟩:=I1.list hq;refine call_enumerate_list p1.isList λh' z1 z2 z3 kp=>wpAny_pyIter_enum z1 ?_;have I2:Inv X pins Z H1 { s1 with heap:=h' }:=I1.kept (t':=s1.toks) kp;refine ⟨_,[s1.heap.objs.size+1,s1.heap.objs.size],_,_,H1,rfl,I2,C8z (Z1q (Nat.lt_succ_self _)),⟨⟨_,z1⟩,z2⟩,λc hc=> ?_,q⟩
 have hle:s1.heap.objs.size<=c:=by
  simp only [Z0e,Z1i,or_false] at hc;rcases hc with rfl | rfl
  ·exact Nat.le_succ _
  ·exact Z09 _
 exact I1.fpOk hle (I1.hok.fresh hle)
theorem B7n {xs:List V} (Pv:Nat->St->Hp->Prop) (h0:Pv 0 Z H) (hl:∀i Z H,Pv i Z H->SqL K H a xs)
  (hs:∀i x Z H p,xs[i]? =some x->Pv i Z H->H p=none->g (.ref p) Z (upd H p (.tup [.int (i:Nat),x])) λZ2 H2=>tb { D with nx:=Pv (i+1),ct:=Pv (i+1),bk:=D.nx } Z2 H2) (hd:∀Z H,Pv xs.length Z H->D.nx Z H) :
  ∃W:Nat->Nat->St->Hp->Prop,(∃m,W 0 m Z H)/\∀i m Z H,W i m Z H->
   ((E0f K a).stop i H/\D.nx Z H)\/((E0f K a).go i H/\∃N:St->Hp->Prop,(∀Z' H',N Z' H'->∃m',m'<m/\W (i+1) m' Z' H')/\∀x H',(E0f K a).yld i H x H'->g x Z H' λZ2 H2=>tb { D with nx:=N,ct:=N,bk:=D.nx } Z2 H2):=by
 walk_at "e";have q:=hl i Z H p;by_cases hlt:i<xs.length
 ·refine .inr ⟨⟨xs,_,q,Z0b hlt⟩,Pv (i+1),λZ' H' p'=>⟨xs.length-(i+1),by lia,rfl,hlt,p'⟩,λv H' y=> ?_⟩;obtain ⟨c,hc,rfl,x,f,rfl⟩:=y;exact hs i x Z H c (f xs q) p hc
 ·have e:i=xs.length:=by lia
  subst e;exact .inl ⟨⟨xs,q,Z09 _⟩,hd Z H p⟩
section
variable {X:Cx}
def E1s (X:Cx) (t:TE):TE:=λZ H Q=>t Z H λv H1=>∃a o kvs,H1 a=some (.frz o (.dK kvs))/\(∀o' u',X.H₀ a≠some (.frz o' u'))/\Q v (upd H1 a (.dK kvs))
theorem C4n {e:Expr} {t:TE} (h:PE X e t):PE X e (E1s X t):=λpins s Z H Q I q =>
 thn (h pins s Z H _ I q) (by rintro u s1 ⟨v,H1,I1,rv,a,o,kvs,ha,h0,q1⟩;exact ⟨v,_,I1.thaw ha ⟨kvs,rfl⟩ h0,rv,q1⟩)
end
abbrev B3s (h:Heap) (z TI TO:Addr) (f0:Value) (b:Bool):Prop :=
 h.get? z=some { cls:= .type "zip",dict:=none,data:= .fields #[f0,.bool b,.bool false,.ref TI,.ref TO],slots:= #[] }
section
variable {prog:Program} {w:World} {A:Around} {E:Value->Shared->Prop} {s:Shared}
theorem C1x {Q:Option Obj->Shared->Prop} (h:Q (s.heap.get? a) s):wpAny (model prog w) A (loadIfAlive a) Q E s:=λΓ p _=>by
 show PySem.Sem.wp _ Γ (.loadIfAlive a .pure) _ _ p s;rw [PySem.Sem.wp];exact h
theorem B2t {z TI TO:Addr} {b:Bool} {Q:Bool->Shared->Prop} (hz:B3s s.heap z TI TO (rawInt (p:Int)) b) (hp:s.heap.get? p=some o)
  (q:∀h',B3s h' z TI TO (rawInt (p:Int)) true->Heap.SameBut z s.heap h'->Q false { s with heap:=h' }):wpAny (model prog w) A (Builtin.SmallTypes.ownedTupleIsFree (.ref z)) Q E s:=by
 unfold Builtin.SmallTypes.ownedTupleIsFree;refine Z00 (Z11 hz rfl (x:=rawInt (p:Int)) rfl ?_);show wpAny _ _ (loadIfAlive (Int.toNat (p:Int)) >>= _) _ _ _;refine Z00 (C1x ?_);rw [Int.toNat_natCast,hp];show wpAny _ _ (field (.ref z) 1 >>= _) _ _ _;refine Z00 (Z11 hz rfl (x:= .bool b) rfl ?_)
 cases b with
 | true =>
  show wpAny _ _ (pure false) _ _ _;exact Z04 (q s.heap hz ⟨rfl,λ_ _=>rfl⟩)
 | false =>
  show wpAny _ _ (setField (.ref z) 1 (.bool true) >>= _) _ _ _;refine Z00 (Z1h hz (by simp) λg1 z1 b1=> ?_);exact Z04 (q g1 z1 b1)
end
section
variable {z TI TO i1 i2 l1 l2:Addr} {st1 st2:Nat->Heap->Prop} {src1 src2:Array Value->Heap->Prop} {prog:Program} {w:World} {A:Around} {E:Value->Shared->Prop} {s:Shared}
theorem D3h (N1:Nx i1 l1 st1 src1) (N2:Nx i2 l2 st2 src2) {xs:Array Value} {x:Value} {b:Bool} (D:ZipApart z TI TO i1 i2 l1 l2)
  (hz:B3s s.heap z TI TO (rawInt (p:Int)) b) (hp:s.heap.get? p=some o) (hTI:IsPair s.heap TI (.ref i1) (.ref i2)) (h1:st1 k1 s.heap) (h2:st2 k2 s.heap) (hl1:src1 xs s.heap) (hl2:src2 ys s.heap) (hx:xs[k1]? =some x) (hy:ys[k2]? =some y)
  (hQ:∀h',B3s h' z TI TO (rawInt (p:Int)) true->st1 (k1+1) h'->st2 (k2+1) h'->IsPair h' s.heap.objs.size x y->
   (∀c o,c≠z->c≠i1->c≠i2->s.heap.get? c=some o->h'.get? c=some o)->Q (some (.ref s.heap.objs.size)) { s with heap:=h' }):wpAny (model prog w) A (pyNext (.ref z)) Q E s:=by
 have hT:s.TypeIs (.ref z) "zip":=⟨_,hz,rfl⟩;unfold pyNext;walk_at "b";refine Z00 (B2t hz hp λg1 z1 b1=> ?_);simp only [Bool.false_eq_true,if_false];refine Z00 ?_;simp only [<-Array.forIn_toList,List.forIn_cons,List.forIn_nil];refine Z00 (Z00 (Z1w ?_));show wpAny _ _ (Builtin.SmallTypes.nextOf (.ref i1) >>= _) _ _ _;refine Z00 (N1.item (N1.mv h1 λo e=>b1.extBut _ _ D.i1z e) (N1.mvS hl1 λo e=>b1.extBut _ _ D.l1z e) hx λg2 t2 b2=>Z04 (Z04 ?_));refine Z00 (Z00 (Z1w ?_));show wpAny _ _ (Builtin.SmallTypes.nextOf (.ref i2) >>= _) _ _ _;refine Z00 (N2.item (N2.mv h2 λo e=>b2.extBut _ _ D.i12.symm (b1.extBut _ _ D.i2z e)) (N2.mvS hl2 λo e=>b2.extBut _ _ D.l2i1 (b1.extBut _ _ D.l2z e)) hy λg3 t3 b3=>Z04 (Z04 (Z04 ?_)));have hsz:g3.objs.size=s.heap.objs.size:=by rw [b3.1,b2.1,b1.1]
 have zlt:z<g3.objs.size:=by rw [hsz];exact Z0a hz
 show wpAny _ _ (newTuple [x,y] >>= _) _ _ _;refine Z00 (wpAny_newTuple ?_);have z3:B3s g3 z TI TO (rawInt (p:Int)) true:=b3.extBut _ _ D.i2z.symm (b2.extBut _ _ D.i1z.symm z1);have k3:∀c o,c≠z->c≠i1->c≠i2->s.heap.get? c=some o->g3.get? c=some o:=λc o c1 c3 c4 e=>b3.extBut _ _ c4 (b2.extBut _ _ c3 (b1.extBut _ _ c1 e));have u1:st1 (k1+1) g3:=N1.mv t2 λo e=>b3.extBut _ _ D.i12 e;have pr:IsPair (g3.push { cls:= .type "tuple",data:= .seq #[x,y] }) g3.objs.size x y:=Z0c _ rfl;rw [hsz] at pr;refine Z04 ⟨_,rfl,Z04 ?_⟩;show Q (some (.ref g3.objs.size)) _;rw [hsz];exact hQ _ (Z01 _ z3) (N1.mv u1 λo e=>Z01 _ e) (N2.mv t3 λo e=>Z01 _ e) pr λc o c1 c3 c4 e=>Z01 _ (k3 c o c1 c3 c4 e)
theorem D6m (N1:Nx i1 l1 st1 src1) (N2:Nx i2 l2 st2 src2) {xs:Array Value} {b:Bool} (hh:A.handled=none) (D:ZipApart z TI TO i1 i2 l1 l2)
  (hz:B3s s.heap z TI TO (rawInt (p:Int)) b) (hp:s.heap.get? p=some o) (hTI:IsPair s.heap TI (.ref i1) (.ref i2)) (h1:st1 k1 s.heap) (h2:st2 k2 s.heap) (hl1:src1 xs s.heap) (hl2:src2 ys s.heap) (hend:xs[k1]? =none\/ys[k2]? =none)
  (hQ:∀h',(∀c o,c≠z->c≠i1->c≠i2->s.heap.get? c=some o->h'.get? c=some o)->Q none { s with heap:=h' }):wpAny (model prog w) A (pyNext (.ref z)) Q E s:=by
 have hT:s.TypeIs (.ref z) "zip":=⟨_,hz,rfl⟩;unfold pyNext
 have fin:∀(h':Heap) (e:Addr),(∀c o,c≠z->c≠i1->c≠i2->s.heap.get? c=some o->h'.get? c=some o)->(∃o,h'.get? e=some o/\o.cls= .type "StopIteration")->
   wpAny (model prog w) A (isInstance (.ref e) (.type "StopIteration") >>= λb=>if b=true then pure none else throw (.ref e)) Q E { s with heap:=h' }:=λh' e hk ⟨o,ho,hc⟩ =>
  Z00 (wpAny_isInstance (T:="StopIteration") (b:=true) ⟨o,ho,hc⟩ isSubtype_stop (Z04 (hQ _ hk)))
 walk_at "b";refine Z00 (B2t hz hp λg1 z1 b1=> ?_);simp only [Bool.false_eq_true,if_false];refine Z00 ?_;simp only [<-Array.forIn_toList,List.forIn_cons,List.forIn_nil];refine Z00 (Z00 (Z1w ?_));show wpAny _ _ (Builtin.SmallTypes.nextOf (.ref i1) >>= _) _ _ _;have u1:=N1.mv h1 λo e=>b1.extBut _ _ D.i1z e;have v1:=N1.mvS hl1 λo e=>b1.extBut _ _ D.l1z e
 cases hx:xs[k1]? with
 | none =>
  refine Z00 (N1.fin hh u1 v1 hx λg2 e b2 he=> ?_);exact fin g2 e (λc o c1 c3 _ x=>b2 _ _ c3 (b1.extBut _ _ c1 x)) he
 | some x =>
  have hy:ys[k2]? =none:=by
   rcases hend with h | h
   ·rw [hx] at h;cases h
   ·exact h
  refine Z00 (N1.item u1 v1 hx λg2 t2 b2=>Z04 (Z04 ?_));refine Z00 (Z00 (Z1w ?_));show wpAny _ _ (Builtin.SmallTypes.nextOf (.ref i2) >>= _) _ _ _;refine Z00 (N2.fin hh (N2.mv h2 λo e=>b2.extBut _ _ D.i12.symm (b1.extBut _ _ D.i2z e)) (N2.mvS hl2 λo e=>b2.extBut _ _ D.l2i1 (b1.extBut _ _ D.l2z e)) hy λg4 e b4 he=> ?_);exact fin g4 e (λc o c1 c3 c4 x=>b4 _ _ c4 (b2.extBut _ _ c3 (b1.extBut _ _ c1 x))) he
end
def ZS (z TI TO i1 i2 a b d:Addr) (i:Nat) (h:Heap):Prop:=IsPair h TI (.ref i1) (.ref i2)/\h.IsListIter i1 a i/\h.IsTupleIter i2 b i/\
 ((IsZip h z TI TO .none/\∃u v,IsPair h TO u v)\/∃(p:Addr) (o:Obj) (bb:Bool),B3s h z TI TO (rawInt (p:Int)) bb/\h.get? p=some o/\p≠z/\p≠i1/\p≠i2/\p≠d)
theorem ZS.at {z TI TO i1 i2:Addr} (x:ZS z TI TO i1 i2 a b d i h) (nz:z≠d) (n1:TI≠d) (n2:TO≠d) (n3:i1≠d) (n4:i2≠d) (f:∀c o,c≠d->h.get? c=some o->h'.get? c=some o):ZS z TI TO i1 i2 a b d i h':=by
 obtain ⟨h1,h2,h3,h4⟩:=x;refine ⟨f _ _ n1 h1,(A8m i1 a).mv h2 λo e=>f _ _ n3 e,(A6m i2 b).mv h3 λo e=>f _ _ n4 e,?_⟩;rcases h4 with ⟨h4,u,v,h5⟩ | ⟨p,o,bb,h4,h5,m1,m2,m3,m4⟩
 ·exact .inl ⟨f _ _ nz h4,u,v,f _ _ n2 h5⟩
 ·exact .inr ⟨p,o,bb,f _ _ nz h4,f _ _ m4 h5,m1,m2,m3,m4⟩
section
variable {z TI TO i1 i2 a b d:Addr} {prog:Program} {w:World} {A:Around} {E:Value->Shared->Prop} {s:Shared}
theorem D5l {xs:Array Value} {x:Value} (D:ZipApart z TI TO i1 i2 a b) (ld:d<s.heap.objs.size) (hz:ZS z TI TO i1 i2 a b d i s.heap) (hl:s.heap.IsList a xs) (ht:s.heap.IsTuple b ys) (hx:xs[i]? =some x) (hy:ys[i]? =some y)
  (hQ:∀h',ZS z TI TO i1 i2 a b d (i+1) h'->IsPair h' s.heap.objs.size x y->(∀c o,c≠z->c≠TO->c≠i1->c≠i2->s.heap.get? c=some o->h'.get? c=some o)->Q (some (.ref s.heap.objs.size)) { s with heap:=h' }) :
  wpAny (model prog w) A (pyNext (.ref z)) Q E s:=by
 obtain ⟨h1,h2,h3,h4⟩:=hz;have n4:i1<s.heap.objs.size:=let ⟨_,e,_⟩:=(A8m i1 a).ob h2;Z0a e;have n5:i2<s.heap.objs.size:=let ⟨_,e,_⟩:=(A6m i2 b).ob h3;Z0a e;rcases h4 with ⟨h4,u,v,h5⟩ | ⟨p,o,bb,h4,h5,m1,m2,m3,m4⟩
 ·have nz:z<s.heap.objs.size:=Z0a h4;refine B6s (A8m i1 a) (A6m i2 b) D h4 h1 h5 h2 h3 hl ht hx hy λh' z1 z2 z3 z4 z5 kp=> ?_;exact hQ h' ⟨kp _ _ D.TIz D.TITO D.TIi1 D.TIi2 h1,z3,z4,.inr ⟨s.heap.objs.size,_,false,z1,z5,Z1q nz,Z1q n4,Z1q n5,Z1q ld⟩⟩ z5 kp
 ·refine D3h (A8m i1 a) (A6m i2 b) D h4 h5 h1 h2 h3 hl ht hx hy λh' z1 z3 z4 z5 kp=> ?_;exact hQ h' ⟨kp _ _ D.TIz D.TIi1 D.TIi2 h1,z3,z4,.inr ⟨p,o,true,z1,kp _ _ m1 m2 m3 h5,m1,m2,m3,m4⟩⟩ z5 λc o c1 _ c3 c4 e=>kp c o c1 c3 c4 e
theorem D9g {xs:Array Value} (hh:A.handled=none) (D:ZipApart z TI TO i1 i2 a b) (hz:ZS z TI TO i1 i2 a b d i s.heap) (hl:s.heap.IsList a xs) (ht:s.heap.IsTuple b ys) (he:xs[i]? =none\/ys[i]? =none)
  (hQ:∀h',(∀c o,c≠z->c≠TO->c≠i1->c≠i2->s.heap.get? c=some o->h'.get? c=some o)->Q none { s with heap:=h' }):wpAny (model prog w) A (pyNext (.ref z)) Q E s:=by
 obtain ⟨h1,h2,h3,h4⟩:=hz;rcases h4 with ⟨h4,u,v,h5⟩ | ⟨p,o,bb,h4,h5,m1,m2,m3,m4⟩
 ·exact C1w (A8m i1 a) (A6m i2 b) hh D h4 h1 h5 h2 h3 hl ht he hQ
 ·exact D6m (A8m i1 a) (A6m i2 b) hh D h4 h5 h1 h2 h3 hl ht he λh' kp=>hQ h' λc o c1 _ c3 c4 e=>kp c o c1 c3 c4 e
end
section
variable {prog:Program} {w:World} {K:Type} [DecidableEq K] {knd:KeyKind prog w K} {A:Around} {R:Result->Shared->Prop} {z TI TO i1 i2 a b d:Addr} {xs ys:Array Value} {rs:List (K×Value)} {h₀:Heap} {g:Array GenState} {dr:Drawn} {os:OsState}
theorem C8w (hh:A.handled=none) (D:ZipApart z TI TO i1 i2 a b) (nz:z≠d) (n1:TI≠d) (n2:TO≠d) (n3:i1≠d) (n4:i2≠d) (na:a≠d) (nb:b≠d) (hsz:rs.length<=sizeLine)
  (pa:∀(i:Nat) (k:K) (u:Value),rs[i]? =some (k,u)->∃kv,xs[i]? =some kv/\ys[i]? =some u/\knd.is k kv=true) (he:xs[rs.length]? =none\/ys[rs.length]? =none) (hl:h₀.IsList a xs) (ht:h₀.IsTuple b ys) (aTO:a≠TO) (a1:a≠i1) (a2:a≠i2) (az:a≠z) (bTO:b≠TO) (b1:b≠i1) (b2:b≠i2) (bz:b≠z)
  (fin:∀h' tk,h'.DictOf knd d (merged [] rs)->(∀c o,c≠z->c≠TO->c≠i1->c≠i2->c≠d->h₀.get? c=some o->h'.get? c=some o)->R (.ok (.ret .none)) ⟨h',g,dr,tk,os⟩) :
  ∀(k i:Nat) (h:Heap) (tk:Nat),rs.length-i=k->i<=rs.length->ZS z TI TO i1 i2 a b d i h->(∀c o,c≠z->c≠TO->c≠i1->c≠i2->c≠d->h₀.get? c=some o->h.get? c=some o)->h.DictOf knd d (merged [] (rs.take i))->
   codeAny (model prog w) A (.builtin "dict.update.loop" ⟨[.ref d,.ref z,rawInt i,.none],[]⟩) R ⟨h,g,dr,tk,os⟩:=by
 intro k
 induction k with
 | zero =>
  intro i h tk hk hi hit kp hD;have hin':i=rs.length:=by lia
  refine codeAny_builtin A9j ?_;rw [Around.under_plainId A4z _];show wpAny _ A.in1 (pyNext (.ref z) >>= _) _ _ _;refine Z00 (D9g (s:=⟨h,g,dr,tk,os⟩) (by simpa using hh) D hit (hl.at λo e=>kp a o az aTO a1 a2 na e) (let ⟨o,e,r⟩:=ht;⟨o,kp b o bz bTO b1 b2 nb e,r⟩) (by rw [hin'];exact he) λh' kp'=> ?_);show wpAny _ A.in1 (Builtin.Dict.addKeywords d [] >>= λ_=>ret Value.none) _ _ _;rw [hin',Z18] at hD;obtain ⟨od,es,ep,ho,r⟩:=hD;exact Z00 (Z04 (Z04 (fin h' tk ⟨od,es,ep,kp' d od nz.symm n2.symm n3.symm n4.symm ho,r⟩ λc o c1 c2 c3 c4 c5 e=>kp' c o c1 c2 c3 c4 (kp c o c1 c2 c3 c4 c5 e))))
 | succ k ih =>
  intro i h tk hk hi hit kp hD;have hlt:i<rs.length:=by lia
  obtain ⟨⟨k',u⟩,hku⟩:∃p,rs[i]? =some p:=⟨rs[i],Z0b _⟩;obtain ⟨kv,hx,hy,his⟩:=pa i k' u hku;refine codeAny_builtin A9j ?_;rw [Around.under_plainId A4z _];show wpAny _ A.in1 (pyNext (.ref z) >>= _) _ _ _;have ld:d<h.objs.size:=let ⟨_,_,_,e,_⟩:=hD;Z0a e;refine Z00 (D5l (s:=⟨h,g,dr,tk,os⟩) D ld hit (hl.at λo e=>kp a o az aTO a1 a2 na e) (let ⟨o,e,r⟩:=ht;⟨o,kp b o bz bTO b1 b2 nb e,r⟩) hx hy λh' zs pr kp'=> ?_);have pr:IsPair h' h.objs.size kv u:=pr;have hT:(⟨h',g,dr,tk,os⟩:Shared).TypeIs (.ref h.objs.size) "tuple":=⟨_,pr,rfl⟩;show wpAny _ A.in1 (holding [Value.ref h.objs.size] _ >>= _) _ _ _;refine Z00 (Z1w (Z00 (wpAny_tryCatch ?_)));unfold Builtin.Dict.pairItems;refine Z00 (wpAny_typeOf hT ?_);rw [Z12 (by decide)];refine Z00 (Z21 pr rfl (Z04 ?_));show wpAny _ A.in1 (holding [kv,u] (dictSet d kv u)) _ _ _
  have hD':h'.DictOf knd d (merged [] (rs.take i)):=by
   obtain ⟨od,es,ep,ho,r⟩:=hD;exact ⟨od,es,ep,kp' d od nz.symm n2.symm n3.symm n4.symm ho,r⟩
  have hlen:(merged [] (rs.take i)).length<=sizeLine:=by
   have e1:=merged_length_le ([]:List (K×Value)) (rs.take i);have e2:(rs.take i).length<=rs.length:=by rw [Z0x];lia
   simp only [Z2g,Nat.zero_add] at e1
   lia
  refine Z1w (wpAny_dictSet_pairs (hsz:=hlen) (s:=⟨h',g,dr,tk,os⟩) his hD' λh2 hD2 sb=> ?_);rw [<-merged_take_succ [] rs i (k',u) hku] at hD2;refine Z04 ⟨plainId_quiet A4z _,ih (i+1) h2 _ (by lia) (by lia) (zs.at nz n1 n2 n3 n4 λc o hc e=>(sb.2 c hc).trans e) ?_ hD2⟩;intro c oc c1 c2 c3 c4 c5 e;exact (sb.2 c c5).trans (kp' c oc c1 c2 c3 c4 (kp c oc c1 c2 c3 c4 c5 e))
end
theorem A9x:typeLookup (.type "zip") "__getattr__"=pure none:=by rw [typeLookup_type,builtinLookup_eq_fast];kernel_rfl
theorem A6s:entryFor table "zip.__getattribute__"=some Builtin.«object.__getattribute__» :=
 entryFor_alias (id':="object.__getattribute__") (by kernel_rfl) (by decide +kernel) (by decide +kernel) (by kernel_rfl)
theorem C5e:typeLookup (.type "zip") "keys"=pure none:=by rw [typeLookup_type,builtinLookup_eq_fast];kernel_rfl
theorem B4l (a:Addr) (fs:Array Value) (sl:Array (Option Value)) (name:Str) (u:Tok) (hmiss:typeLookup (.type "zip") name=pure none) (hname:(["__module__","__name__","__qualname__","__doc__","__annotations__"]:List Str).contains name=false) (hsz:name.length+100<=sizeLine:=by size_fits) :
  Meets (Builtin.«object.__getattribute__» ⟨[.ref a,.str name u],[]⟩) (λA R s=>s.heap.get? a=some { cls:= .type "zip",dict:=none,data:= .fields fs,slots:=sl }/\raisesAttr (.ref a) name A R s) :=
 Meets.of_wp λprog w A R s hs=>by
  obtain ⟨hp,g,d,tk,os⟩:=s;obtain ⟨hx,hs⟩:=hs;have hT:(⟨hp,g,d,tk,os⟩:Shared).TypeIs (.ref a) "zip":=⟨_,hx,rfl⟩;unfold Builtin.«object.__getattribute__»
  repeat (any_goals (first | assumption | wp_step))
  simp only [hname,Bool.false_eq_true,if_false]
  repeat (any_goals (first | assumption | wp_step))
  exact wpAny_raiseAttrError hs.1 hs.2 (attrMsg_fits (by decide +kernel) hsz)
theorem C5i {prog:Program} {E:Value->Shared->Prop} {fs:Array Value}
  (hx:s.heap.get? a=some { cls:= .type "zip",dict:=none,data:= .fields fs,slots:=sl }) (hA:A.handled=none)
  (h:∀h' tk,(∀b ob,s.heap.get? b=some ob->h'.get? b=some ob)->Q none { s with heap:=h',toks:=tk }):wpAny (model prog w) A (getAttr? (.ref a) "keys") Q E s:=by
 obtain ⟨hp,g,d,tk,os⟩:=s;have hT:∀tk',(⟨hp,g,d,tk',os⟩:Shared).TypeIs (.ref a) "zip":=λ_=>⟨_,hx,rfl⟩;have f1:=sub_AttributeError;have f3:=F.slot_zip_getattribute.lookup;have f4:=F.slot_zip_getattribute.bind (.ref a);have f5:=A9x;unfold getAttr? getAttrBy? getAttrBy
 repeat (any_goals (first | assumption | exact hT _ | ((with_reducible show wpAny _ _ (call (Value.builtin "zip.__getattribute__") _ _) _ _ _);refine call_meets F.slot_zip_getattribute (hT _) A6s (F.args_zip_getattribute_2 _ _) (B4l a fs sl "keys" _ C5e (by decide) (by decide)) ⟨hx,hA,λh' tk' e hx'=> ?_⟩) | wp_step))
 obtain ⟨t',u',he⟩:=hx'.there;show wpAny _ _ (getattributeRaised _ _ _ _ _ _ _) _ _ _;unfold getattributeRaised
 repeat (any_goals (first | assumption | wp_step))
 all_goals exact h _ _ hx'.1
def tDZ (K:Frag) (ta:TA):TE:=λZ H Q=>ta Z H λvs H1=>∃l t ks us,vs=[.ref l,.ref t]/\SqL K H1 l ((ks:List Key).map kV)/\SqT K H1 t us/\ks.length=us.length/\∀p,H1 p=none->Q (.ref p) (upd H1 p (.dK (A4g [] (ks.zip us))))
theorem D4t:∀{ks:List Key} {us:List V} {vs:List Value},ks.length=us.length->A2r us vs->KV (ks.zip us) (ks.zip vs)
 | [],[],_,_,.nil=> .nil
 | k::ks,u::us,_,h,.cons r t=> .cons ⟨rfl,r⟩ (D4t (by simpa using h) t)
theorem C4x {P:Program} {w:World}:∀{ks:List Key} {its:List Value},A2r (ks.map kV) its->∀{i:Nat} {k:Key},ks[i]? =some k->∃v,its[i]? =some v/\(A1p P w).is k v=true
 | [],_,.nil,i,k,h=>by simp at h
 | _::_,_,.cons r t,0,k,h=>by simp at h;subst h;exact ⟨_,rfl,C1n r⟩
 | _::_,_,.cons r t,i+1,k,h=>by
  obtain ⟨v,e1,e2⟩:=C4x (P:=P) (w:=w) t (i:=i) (k:=k) (by simpa using h);exact ⟨v,by simpa using e1,e2⟩
section
variable {X:Cx}
theorem C5w {a b:Expr} {p1 p2 pos1 pos2:Pos} (hc:X.calm=true) (hgd:Gl X "dict") (hmd:X.mg "dict"=none) (hgz:Gl X "zip") (hmz:X.mg "zip"=none) (ha:PA X [a,b] ta)
  (hs0:starEach [.Call (.Name "zip" p2) [a,b] [] pos2] X.env=(false,eval (.Call (.Name "zip" p2) [a,b] [] pos2) X.env)::starEach [] X.env:=by rfl)
  (hs:starEach [a,b] X.env=[(false,eval a X.env),(false,eval b X.env)]:=by rfl) (hs2:starEach [b] X.env=[(false,eval b X.env)]:=by rfl) :
  PE X (.Call (.Name "dict" p1) [.Call (.Name "zip" p2) [a,b] [] pos2] [] pos1) (tDZ X.K ta):=by
 intro pins s Z H Q I h;have hh:X.A.handled=none:=I.ok.hd hc;refine wpAny_Call_Name_kw (A7a I hgd hmd boot_dict ?_);refine PyProof.Rows.callWith_type1 ?_ hs0 (by rfl);rw [hs0];show wpAny _ _ (spliced ((false,eval _ X.env)::backTo pos1 (starEach [] X.env))) _ _ s;refine Calls.spliced_cons ?_;refine Call_ (A7a I hgz hmz boot_zip (PyProof.Rows.callWith_type1 (thn (ha pos2 pins s Z H _ I h) ?_) (by rw [hs,hs2]) (by rw [hs2];rfl)));rintro us s1 ⟨vs,H1,I1,r1,q1⟩;obtain ⟨l1,l2,ks,ws,e,hq1,hq2,hle,q⟩:=q1;subst e;obtain ⟨u,u2,rfl,ru,ru2⟩:=C5r r1;cases ru;cases ru2;obtain ⟨its,rv,p1',zk⟩:=I1.list hq1;obtain ⟨its2,rv2,p2',_⟩:=I1.tuple hq2;have t1:l1<s1.heap.objs.size:=let ⟨_,e,_⟩:=p1'.isList;Z0a e;have t2:l2<s1.heap.objs.size:=p2'.lt;have e1:=rv.length;have e2:=rv2.length;rw [Z08] at e1;have hn:=I1.hok.fresh (Z09 s1.heap.objs.size);refine C2f p1'.isList (show s1.heap.IsTuple l2 its2.toArray from p2') λh' zs kp=>Calls.spliced_nil ?_;obtain ⟨hz,hTI,⟨tu,tv,hTO⟩,hi1,hi2⟩:=zs;have D:=zipApart_new t1 t2;have lz:s1.heap.objs.size+4<h'.objs.size:=Z0a hz;refine callType_codes (Q₁:=λobj s₁=>obj= .ref h'.objs.size/\s₁={ s1 with heap:=h'.push { cls:= .type "dict",data:= .dict #[] } }) F.kt_called_dict (F.kt_typeCall_dict_1 _) F.entry_dict_init (kt_code_dict_new (s:={ s1 with heap:=h' }) _ ⟨rfl,rfl⟩) ?_;rintro obj s₁ ⟨rfl,rfl⟩;have hnew:(h'.push { cls:= .type "dict",data:= .dict #[] }).DictOf (A1p X.prog X.w) h'.objs.size []:=Heap.DictOf.new h';have ez:(h'.push { cls:= .type "dict",data:= .dict #[] }).get? (s1.heap.objs.size+4)=some _:=Z01 _ hz;have hTz:Shared.TypeIs { s1 with heap:=h'.push { cls:= .type "dict",data:= .dict #[] } } (.ref (s1.heap.objs.size+4)) "zip":=⟨_,ez,rfl⟩;refine ⟨hnew.typeIs,F.args_dict_init_2 _ _,?_⟩;unfold Builtin.«dict.__init__»;refine Z00 ?_;unfold Builtin.Dict.selfAndRest;refine Z00 (wpAny_notOrdered_dict hnew.typeIs ?_);show wpAny _ _ (pure (h'.objs.size,[Value.ref (s1.heap.objs.size+4)])) _ _ _;refine Z04 ?_;show wpAny _ _ (Builtin.Dict.updateFrom "dict.__init__" h'.objs.size (.ref (s1.heap.objs.size+4)) [] .none) _ _ _;unfold Builtin.Dict.updateFrom;refine Z00 (wpAny_typeOf hTz ?_);rw [Z12 (by decide)];refine Z00 (C5i ez (by simpa using hh) λh1 tk1 kp1=> ?_)
 rw [Z12 (show (none:Option Value).isNone=true from rfl)];refine Z00 (wpAny_rule ?_);refine Z00 (wpAny_pyIter_zip (s:={ s1 with heap:=h1,toks:=tk1 }) (kp1 _ _ ez) ?_);have up:∀c o,h'.get? c=some o->h1.get? c=some o:=λc o e=>kp1 _ _ (Z01 _ e)
 have lr:(ks.zip its2).length=ks.length:=by rw [List.length_zip];lia
 have q1:∀i:Nat,i<=4->s1.heap.objs.size+i≠h'.objs.size:=λi hi z=>by lia
 have q2:∀c:Nat,c<s1.heap.objs.size->c≠h'.objs.size:=λc hc z=>by lia
 have q3:∀c i:Nat,c<s1.heap.objs.size->c≠s1.heap.objs.size+i:=λc i hc z=>by lia
 have le':s1.heap.objs.size<=h'.objs.size:=by lia
 have z1:ks.length<=sizeLine:=by rw [Z08] at zk;exact zk
 refine Z04 ⟨plainId_quiet A4z _,C8w (knd:=A1p X.prog X.w) (rs:=ks.zip its2) (xs:=its.toArray) (ys:=its2.toArray) (h₀:=h1) (by simpa using hh) D (q1 4 (by decide)) (q1 2 (by decide)) (q1 3 (by decide)) (q1 0 (by decide)) (q1 1 (by decide)) (q2 _ t1) (q2 _ t2) (by rw [lr];exact z1) (λi k u hr=> ?_) ?_ (p1'.isList.at λo e=>up _ _ (kp _ _ e)) (let ⟨o,e,r⟩:=p2';⟨o,up _ _ (kp _ _ e),r⟩) (q3 _ 3 t1) (q3 _ 0 t1) (q3 _ 1 t1) (q3 _ 4 t1) (q3 _ 3 t2) (q3 _ 0 t2) (q3 _ 1 t2) (q3 _ 4 t2) (λh2 tk dd kp2=> ?_) (ks.zip its2).length 0 h1 _ (by lia) (Z1e _) ⟨up _ _ hTI,(A8m _ l1).mv hi1 λo e=>up _ _ e,(A6m _ l2).mv hi2 λo e=>up _ _ e,.inl ⟨up _ _ hz,tu,tv,up _ _ hTO⟩⟩ (λ_ _ _ _ _ _ _ z=>z) ?_⟩
 ·obtain ⟨g1,g2⟩:=Z2m.mp hr;obtain ⟨kv,g3,g4⟩:=C4x (P:=X.prog) (w:=X.w) rv g1;exact ⟨kv,by simpa using g3,by simpa using g2,g4⟩
 ·left;rw [lr];simp
  lia
 ·have kv:=D4t hle rv2;refine ⟨rfl,.ref h'.objs.size,_,I1.laid (t':=tk) (o:= .dK (A4g [] (ks.zip ws))) (λb u eb=> ?_) le' ⟨?_,?_,_,KV.merge kv .nil,dd⟩,rfl,q _ (I1.hok.fresh le')⟩
  ·have lb:=Z0a eb;exact kp2 b u (q3 _ 4 lb) (q3 _ 3 lb) (q3 _ 0 lb) (q3 _ 1 lb) (q2 _ lb) (up _ _ (kp _ _ eb))
  ·have:=A5n (ks.zip ws) [];have lw:(ks.zip ws).length=ks.length:=by rw [List.length_zip];lia
   simp only [Z2g] at this
   lia
  ·have:=I1.big;have hne:h'.objs.size≠sysModules:=Z1q (Z0q this le')
   simpa using hne
 ·obtain ⟨od,es,ep,g,r⟩:=hnew;exact ⟨od,es,ep,kp1 _ _ g,r⟩
end
theorem B8v:∀(its:List Value) (lo:Int),(∀(j:Nat) (v:Value),its[j]? =some v->∃t,v= .int (lo+j) t)->A2r ((List.range its.length).map λ(k:Nat)=>V.int (lo+k)) its
 | [],_,_=> .nil
 | v::r,lo,h=>by
  rw [Z0y,List.range_succ_eq_map,Z0p,List.map_map]
  have t:=B8v r (lo+1) λj u hj=>by
   obtain ⟨t,e⟩:=h (j+1) u (by simpa using hj);exact ⟨t,by rw [e];congr 1;lia⟩
  have e:((λ(k:Nat)=>V.int (lo+k))∘Nat.succ)=λ(k:Nat)=>V.int (lo+1+k):=by
   funext k;show V.int (lo+((k+1:Nat):Int))=V.int (lo+1+k);congr 1
   lia
  rw [e];exact .cons (h 0 v rfl) t
section
variable {prog:Program} {w:World} {A:Around} {E:Value->Shared->Prop} {s:Shared}
end
section
variable {X:Cx}
theorem E4c {lo hi:Int}:Builtin.Range.rangeSize lo hi 1=(((hi-lo).toNat:Nat):Int):=by rw [rangeSize_one];split <;> lia
theorem D1i {Q:VK} {lo hi:Int} {t u v:Tok} {tk:Nat} (hh:X.A.handled=none) (I:Inv X pins Z H s) (h1: -(2^62)<=lo) (h2:lo<2^62) (h3: -(2^62)<=hi) (h4:hi<2^62) (h5:hi-lo<=1000000)
  (q:∀D,H D=none->Q (.ref D) (upd H D (.lst ((List.range (hi-lo).toNat).map λ(k:Nat)=> .int (lo+k))))):wpAny (model X.prog X.w) X.A (call (.type "list") [.ref s.heap.objs.size]) (EP X pins Z Q) X.xe { s with heap:=s.heap.push { cls:= .type "range",data:= .fields #[.int lo t,.int hi u,.int 1 v] },toks:=tk }:=by
 have I1:Inv X pins Z H { s with heap:=s.heap.push { cls:= .type "range",data:= .fields #[.int lo t,.int hi u,.int 1 v] },toks:=tk }:=I.kept λb o e=>Z01 _ e
 refine call_list_range hh (IsRange.new ..) (small_one h1 h2 h3 h4) E4c (by lia) λh' tk' acc' c' kp hD hacc=> ?_;have hl:acc'.toList.length=(hi-lo).toNat:=by rw [Array.length_toList];exact hacc.1
 have vs:=B8v acc'.toList lo λj v hj=>by
  obtain ⟨t,e⟩:=hacc.2 j v (by rw [<-Array.getElem?_toList];exact hj);exact ⟨t,by rw [e];congr 1;lia⟩
 rw [hl] at vs;refine ⟨.ref _,_,I1.laid (t':=tk') (o:= .lst ((List.range (hi-lo).toNat).map λ(k:Nat)=> .int (lo+k))) kp (Z09 _) ⟨?_,acc'.toList,c',vs,by simpa using hD⟩,rfl,q _ (I1.hok.fresh (Z09 _))⟩;rw [Z08,List.length_range];exact A2o (by lia)
def tLR1 (ta:TA):TE:=λZ H Q=>ta Z H λvs H1=>∃j:Int,vs=[.int j]/\-(2^62)<=j/\j<=1000000/\∀D,H1 D=none->Q (.ref D) (upd H1 D (.lst ((List.range j.toNat).map λ(k:Nat)=> .int (k:Int))))
theorem B7o {a:Expr} {p1 p2 pos1 pos2:Pos} (hc:X.calm=true) (hgd:Gl X "list") (hmd:X.mg "list"=none) (hgz:Gl X "range") (hmz:X.mg "range"=none) (ha:PA X [a] ta)
  (hs0:starEach [.Call (.Name "range" p2) [a] [] pos2] X.env=(false,eval (.Call (.Name "range" p2) [a] [] pos2) X.env)::starEach [] X.env:=by rfl)
  (hs:starEach [a] X.env=[(false,eval a X.env)]:=by rfl):PE X (.Call (.Name "list" p1) [.Call (.Name "range" p2) [a] [] pos2] [] pos1) (tLR1 ta):=by
 intro pins s Z H Q I h;have hh:X.A.handled=none:=I.ok.hd hc;refine wpAny_Call_Name_kw (A7a I hgd hmd boot_list ?_);refine PyProof.Rows.callWith_type1 ?_ hs0 (by rfl);rw [hs0];show wpAny _ _ (spliced ((false,eval _ X.env)::backTo pos1 (starEach [] X.env))) _ _ s;refine Calls.spliced_cons ?_;refine Call_ (A7a I hgz hmz boot_range (PyProof.Rows.callWith_type1 (thn (ha pos2 pins s Z H _ I h) ?_) hs rfl));rintro us s1 ⟨vs,H1,I1,r1,q1⟩;obtain ⟨j,e,q1,q2,q⟩:=q1;subst e
 cases r1 with
 | cons r rr =>
  cases rr
  obtain ⟨t,rfl⟩:=r;refine call_range_1 (Calls.spliced_nil (D1i hh I1 (by lia) (by lia) q1 (by lia) (by lia) λD hD=> ?_));have:=q D hD
  simpa using this
def E0r (K:Frag):R2:=λx y H Q=>∃a b xs ys,x= .ref a/\y= .ref b/\SqT K H a xs/\SqT K H b ys/\xs.length+ys.length<=sizeLine/\
 (xs=[]->Q (.ref b) H)/\(xs≠[]->ys=[]->Q (.ref a) H)/\(xs≠[]->ys≠[]->∀p,H p=none->Q (.ref p) (upd H p (.tup (xs++ys))))
theorem D1x:OpR X (binaryOp .Add) (E0r X.K):=by
 walk_at "l";obtain ⟨a,b,xs,ys,rfl,rfl,ha,hb,hz,q1,q2,q3⟩:=h;by_cases hx:xs=[]
 ·subst hx;cases rx;cases ry;obtain ⟨its,r1,p1,_⟩:=I.tuple ha;obtain ⟨its2,r2,p2,_⟩:=I.tuple hb;have e1:its=[]:=r1.nil_iff.mpr rfl;obtain ⟨⟨cls,dd,data,sl⟩,ho,hc,n,hd⟩:=id p1;obtain ⟨⟨cls2,dd2,data2,sl2⟩,ho2,hc2,n2,hd2⟩:=id p2;simp only at hc hd hc2 hd2;subst hc hd hc2 hd2
  exact concat_meets ⟨_,ho,rfl⟩ ⟨_,ho2,rfl⟩ noFill_tuple_add seq_tuple_add PySem.F.slot_tuple_add PySem.F.entry_tuple_add (PySem.F.args_tuple_add_2 _ _)
   (tuple_addW0 a b its.toArray its2.toArray n n2 dd dd2 sl sl2 (by simp [e1])) ⟨ho,ho2,⟨.ref b,H,I,rfl,q1 rfl⟩⟩
 ·exact C8g pins s Z H _ _ v u Q I rx ry ⟨a,b,xs,ys,rfl,rfl,ha,hb,hx,hz,λz=>q2 hx z,λz=>q3 hx z⟩
def D8w:R2:=λx y H Q=>∃a b xs ys,x= .ref a/\y= .ref b/\H a=some (.tup xs)/\H b=some (.tup ys)/\xs.length+ys.length<=sizeLine/\∀q H',A0r H H'->H' q=some (.tup (xs++ys))->Q (.ref q) H'
theorem B7u:OpR X (binaryOp .Add) D8w:=λpins s Z H x y v u Q I rx ry h=>by
 obtain ⟨a,b,xs,ys,e1,e2,ha,hb,hz,q⟩:=h;refine D1x pins s Z H x y v u Q I rx ry ⟨a,b,xs,ys,e1,e2,SqT.of ha,SqT.of hb,hz,λz=> ?_,λ_ z=> ?_,λ_ _ p hp=> ?_⟩
 ·subst z;exact q b H (A0r.refl _) hb
 ·subst z;exact q a H (A0r.refl _) (by rw [Z0u];exact ha)
 ·exact q p _ (A0e hp) A0b
end
abbrev B0k:=Key ⊕ List Key
abbrev A1w:=List B0k
section
variable {prog:Program} {w:World}
def A6r (prog:Program) (w:World) (h:Heap):B0k->Value->Prop
 | .inl k,v=>(A1p prog w).is k v=true
 | .inr ks,v=>∃b,v= .ref b/\IsTupleKey (A1p prog w) h ks b
abbrev A4k (prog:Program) (w:World) (h:Heap):List B0k->List Value->Prop:=Paired (A6r prog w h)
def A5l (prog:Program) (w:World) (h:Heap) (k:A1w) (a:Addr):Prop:=∃o items n,h.get? a=some o/\o.cls= .type "tuple"/\o.data= .seq items n/\A4k prog w h k items.toList
theorem A5l.typeIs {k:A1w} (x:A5l prog w s.heap k a):s.TypeIs (.ref a) "tuple":=let ⟨o,_,_,ho,hc,_⟩:=x;⟨o,ho,hc⟩
theorem B8r {k:Key} (h:(A1p prog w).is k (.ref a)=true):False:=by
 have:=(A1p prog w).byValue _ _ h;simp [carriedByValue] at this
theorem A6r.inj {p q:B0k} {v:Value} (hp:A6r prog w h p v) (hq:A6r prog w h q v):p=q:=by
 cases p with
 | inl k =>
  cases q with
  | inl l=>exact congrArg Sum.inl ((A1p prog w).inj _ _ _ hp hq)
  | inr ks=>obtain ⟨b,rfl,_⟩:=hq;exact (B8r hp).elim
 | inr ks =>
  cases q with
  | inl l=>obtain ⟨b,rfl,_⟩:=hp;exact (B8r hq).elim
  | inr ls =>
   obtain ⟨b,rfl,h1⟩:=hp;obtain ⟨c,e,h2⟩:=hq;injection e with e;subst e;exact congrArg Sum.inr (h1.inj h2)
theorem A4k.inj {h:Heap}:∀{x y:List B0k} {vs:List Value},A4k prog w h x vs->A4k prog w h y vs->x=y
 | _,_,_,.nil,.nil=>rfl
 | _,_,_,.cons a t,.cons b u=>by rw [a.inj b,A4k.inj t u]
theorem A5l.inj {x y:A1w} (hx:A5l prog w h x a) (hy:A5l prog w h y a):x=y:=by
 obtain ⟨o,t,n,ho,_,hd,hi⟩:=hx;obtain ⟨o',t',n',ho',_,hd',hi'⟩:=hy;obtain rfl:o=o':=Z1a (ho.symm.trans ho');rw [hd] at hd';injection hd' with h1 _;subst h1;exact A4k.inj hi hi'
theorem A6r.keeps {p:B0k} {v:Value} {es ep} (x:A6r prog w h p v) (ho:h.get? d=some o) (hd:o.data= .dict es ep) (hs:Heap.SameBut d h h'):A6r prog w h' p v:=by
 cases p with
 | inl k=>exact x
 | inr ks=>obtain ⟨b,e,hi⟩:=x;exact ⟨b,e,hi.keeps ho hd hs⟩
theorem A5l.keeps {k:A1w} {es ep} (x:A5l prog w h k a) (ho:h.get? d=some o) (hd:o.data= .dict es ep) (hs:Heap.SameBut d h h'):A5l prog w h' k a:=by
 obtain ⟨o',t,n,ho',hc,hd',hi⟩:=x
 have hne:a≠d:=by
  rintro rfl;obtain rfl:o'=o:=Z1a (ho'.symm.trans ho);rw [hd] at hd';exact nomatch hd'
 exact ⟨o',t,n,(hs.2 a hne).trans ho',hc,hd',Paired.mapP hi λp v z=>z.keeps ho hd hs⟩
def B2h (prog:Program) (w:World):B0k->Int
 | .inl k=>(A1p prog w).hash k
 | .inr ks=>tupleKeyHash (A1p prog w) ks
def A8x:B0k->Nat
 | .inl _=>1
 | .inr ks=>ks.length+1
def A2s:A1w->Nat
 | []=>0
 | p::r=>A8x p+A2s r
theorem A8c:∀(a b:A1w),A2s (a++b)=A2s a+A2s b
 | [],b=>by show A2s b=0+A2s b;lia
 | p::r,b=>by show A8x p+A2s (r++b)=A8x p+A2s r+A2s b;rw [A8c r b];lia
def B6m (prog:Program) (w:World) (k:A1w):Int:=reduceHash (Builtin.Tuple.tupleHashOf (k.map (B2h prog w)))
variable {A:Around} {E:Value->Shared->Prop} {s:Shared}
theorem C1r {p:B0k} {v:Value} {Q:Int->Shared->Prop} (hu:A.units<cLine) (hp:A6r prog w s.heap p v) (h:Q (B2h prog w p) { s with toks:=s.toks+A8x p }) :
  wpAny (model prog w) A (pyHash v) Q E s:=by
 cases p with
 | inl k=>exact (A1p prog w).pyHash hp h
 | inr ks=>obtain ⟨b,rfl,hi⟩:=hp;exact wpAny_pyHash_tuple hu hi h
theorem C2m {k:A1w} {Q:Int->Shared->Prop} (hu:A.units+8<cLine) (hk:A5l prog w s.heap k a) (h:Q (B6m prog w k) { s with toks:=s.toks+(A2s k+1) }) :
  wpAny (model prog w) A (pyHash (.ref a)) Q E s:=by
 have hT:=hk.typeIs;obtain ⟨o,items,n,ho,_,hd,hi⟩:=hk;unfold pyHash
 first | unfold pyHashByItsType | skip
 first | refine Z00 (wpAny_cRoomFor_or (.inr (by lia)) ?_) | skip
 refine Z00 (wpAny_specialOf hT PySem.F.slot_tuple_hash.lookup ?_);show wpAny _ _ (if (some (Value.builtin "tuple.__hash__") == some Value.none)=true then _ else _) Q E s;rw [Z0t (by rw [beq_builtin_none];exact Z0v)];refine Z00 (wpAny_specialOf hT PySem.F.slot_tuple_hash.lookup ?_);show wpAny _ _ (callSpecialIfBoundUnlessNone? (.ref a) "__hash__" _ >>= _) Q E s;refine Z00 (wpAny_callSpecialIfBoundUnlessNone?_slot hT PySem.F.slot_tuple_hash (Z1g PySem.F.slot_tuple_hash hT PySem.F.entry_tuple_hash ?_ (PySem.F.args_tuple_hash_1 _)));show wpAny _ _ (Builtin.Tuple.tupleItemsOf (.ref a) >>= _) _ _ s;refine Z00 (wpAny_tupleItemsOf ho hd ?_);refine Z00 ?_;rw [<-Array.forIn_toList]
 refine wpAny_forIn_list _
  (λrest (bb:Array Int) s'=>∃done left,k=done++left/\A4k prog w s.heap left rest/\bb.toList=done.map (B2h prog w)/\s'={ s with toks:=s.toks+A2s done })
  _ ?_ ?_ _ _ ⟨[],k,rfl,hi,rfl,rfl⟩
 ·rintro x rest bb s' ⟨done,left,rfl,hl,hb,rfl⟩
  cases hl with
  | @cons p _ ps _ h1 hl' =>
   refine Z00 (C1r (by show A.units+1<cLine;lia) h1 ?_);have e1:done++p::ps=(done++[p])++ps:=by simp
   have e2:A2s (done++[p])=A2s done+A8x p:=by rw [A8c];rfl
   first
    | exact Z04 ⟨done++[p],ps,e1,hl',by simp [hb],by rw [e2];simp [Nat.add_assoc]⟩
    | exact Z00 (Z04 (Z04 ⟨done++[p],ps,e1,hl',by simp [hb],by rw [e2];simp [Nat.add_assoc]⟩))
 ·rintro bb s' ⟨done,left,rfl,hl,hb,rfl⟩;cases hl;rw [Z0u] at h;show wpAny _ _ (retInt (Builtin.Tuple.tupleHashOf bb.toList)) _ _ _;rw [hb];refine wpAny_ret_mkInt ?_;generalize hL:done.map (B2h prog w)=L;show wpAny _ _ (if (decide (-(2:Int)^63<=Builtin.Tuple.tupleHashOf L)&&decide (Builtin.Tuple.tupleHashOf L<2^63))=true then _ else _) Q E _;unfold B6m reduceHash at h;rw [hL] at h;by_cases hr:(decide (-(2:Int)^63<=Builtin.Tuple.tupleHashOf L)&&decide (Builtin.Tuple.tupleHashOf L<2^63))=true
  ·rw [Z12 hr];rw [Z12 hr] at h;exact Z04 (by simpa [Nat.add_assoc] using h)
  ·rw [Z0t hr];rw [Z0t hr] at h;exact Z00 (wpAny_rule (Z04 (by simpa [Nat.add_assoc] using h)))
theorem C2y {p q:B0k} {u v:Value} {Q:Bool->Shared->Prop} (hu:A.units<cLine) (hs:p.isLeft=q.isLeft) (hp:A6r prog w s.heap p u) (hq:A6r prog w s.heap q v) (h:Q (decide (p=q)) s) :
  wpAny (model prog w) A (eqBool u v) Q E s:=by
 cases p with
 | inl k =>
  cases q with
  | inl l =>
   refine (A1p prog w).eqBool (a:=k) (b:=l) hp hq ?_
   have e:decide (k=l)=decide ((Sum.inl k:B0k)=Sum.inl l):=by
    by_cases z:k=l
    ·subst z;simp
    ·rw [Z1j z,Z1j (λy=>z (by injection y))]
   rw [e];exact h
  | inr ls=>cases hs
 | inr ks =>
  cases q with
  | inl l=>cases hs
  | inr ls =>
   obtain ⟨b,rfl,h1⟩:=hp;obtain ⟨c,rfl,h2⟩:=hq;refine wpAny_eqBool_tuple hu h1 h2 ?_
   have e:decide (ks=ls)=decide ((Sum.inr ks:B0k)=Sum.inr ls):=by
    by_cases z:ks=ls
    ·subst z;simp
    ·rw [Z1j z,Z1j (λy=>z (by injection y))]
   rw [e];exact h
theorem B8n {x y:A1w} {P:Fin->Shared->Prop} (hu:A.units+4<cLine) (hsh:x.map Sum.isLeft=y.map Sum.isLeft) (hx:A5l prog w s.heap x a) (hy:A5l prog w s.heap y b) (h:P (.done (.ret (.bool (decide (x=y))))) s) :
  wpAny (model prog w) A (Builtin.«tuple.__eq__» ⟨[.ref a,.ref b],[]⟩) P E s:=by
 have hTb:=hy.typeIs;obtain ⟨oa,xs,na,hoa,_,hda,hia⟩:=hx;obtain ⟨ob,ys,nb,hob,_,hdb,hib⟩:=hy;show wpAny _ _ (isInstance (.ref b) (.type "tuple") >>= _) _ _ s;refine Z00 (wpAny_isInstance hTb isSubtype_tuple_tuple ?_);simp only [Bool.not_true,Bool.false_eq_true,if_false];refine Z00 (wpAny_tupleItemsOf hoa hda ?_);refine Z00 (wpAny_tupleItemsOf hob hdb ?_);refine Z00 ?_
 refine wpAny_forIn_list _
  (λrest r s'=>r.1=none/\s'=s/\∃x' y' xs' ys',rest=List.zip xs' ys'/\A4k prog w s.heap x' xs'/\A4k prog w s.heap y' ys'/\x'.map Sum.isLeft=y'.map Sum.isLeft/\decide (x'=y')=decide (x=y)/\(xs'.length == ys'.length)=(xs.size == ys.size))
  _ ?_ ?_ _ _ ⟨rfl,rfl,x,y,xs.toList,ys.toList,rfl,hia,hib,hsh,rfl,by simp⟩
 ·rintro ⟨u,v⟩ rest r s' ⟨hr,rfl,x',y',xs',ys',hz,hx',hy',hs',hdec,hlen⟩
  cases hx' with
  | nil=>simp at hz
  | @cons k1 u' x'' xs'' h1 hx'' =>
   cases hy' with
   | nil=>simp at hz
   | @cons k2 v' y'' ys'' h2 hy'' =>
    simp only [List.zip_cons_cons,List.cons.injEq,Prod.mk.injEq] at hz;obtain ⟨⟨rfl,rfl⟩,rfl⟩:=hz;rw [Z0p,Z0p] at hs';injection hs' with hs1 hs2;refine Z00 (C2y (by lia) hs1 h1 h2 ?_);by_cases hk:k1=k2
    ·subst hk;rw [Z20 rfl];simp only [Bool.not_true,Bool.false_eq_true,if_false];refine Z04 ⟨rfl,rfl,x'',y'',xs'',ys'',rfl,hx'',hy'',hs2,?_,by simpa using hlen⟩;rw [<-hdec];by_cases hxy:x''=y''
     ·simp [hxy]
     ·simp [hxy]
    ·rw [Z1j hk];simp only [Bool.not_false,if_true];have hf:decide (x=y)=false:=by rw [<-hdec];simp [hk]
     rw [hf] at h;exact Z00 (Z04 (Z04 (Z04 h)))
 ·rintro ⟨r1,r2⟩ s' ⟨hr,rfl,x',y',xs',ys',hz,hx',hy',_,hdec,hlen⟩;simp only at hr;subst hr;refine Z04 ?_
  have hfin:(xs.size == ys.size)=decide (x=y):=by
   rw [<-hdec,<-hlen]
   cases hx' with
   | nil =>
    cases hy' with
    | nil=>simp
    | cons _ _=>simp
   | cons _ _ =>
    cases hy' with
    | nil=>simp
    | cons _ _=>simp at hz
  show P (.done (.ret (.bool (xs.size == ys.size)))) s';rw [hfin];exact h
theorem C1s {x y:A1w} {Q:Bool->Shared->Prop} (hu:A.units+8<cLine) (hsh:x.map Sum.isLeft=y.map Sum.isLeft) (hx:A5l prog w s.heap x a) (hy:A5l prog w s.heap y b) (h:Q (decide (x=y)) s) :
  wpAny (model prog w) A (eqBool (.ref a) (.ref b)) Q E s:=by
 unfold eqBool
 try with_reducible refine Z1w ?_
 show wpAny _ _ (if (Value.ref a == Value.ref b)=true then _ else _) Q E s;by_cases hab:(Value.ref a == Value.ref b)=true
 ·rw [Z12 hab];have e:a=b:=by have:=eq_of_beq hab;injection this
  subst e;obtain rfl:=hx.inj hy;exact Z00 (wpAny_rule (Z04 (by simpa using h)))
 ·rw [Z0t hab]
  exact Z00 (wpAny_richCompare_same_room (op:= .Eq) hx.typeIs hy.typeIs PySem.F.slot_tuple_eq
   (Z1g PySem.F.slot_tuple_eq hx.typeIs PySem.F.entry_tuple_eq (B8n (by show A.units+1+4<cLine;lia) hsh hx hy ⟨_,rfl,(λe=>nomatch e),wpAny_truthy_bool h⟩) (PySem.F.args_tuple_eq_2 _ _)) (by lia))
theorem B8h {Q:Bool->Shared->Prop} (hk:IsTupleKey (A1p prog w) s.heap ks a) (h:Q true s):wpAny (model prog w) A (eqIsQuiet (n+1) (.ref a)) Q E s:=by
 have hT:=hk.typeIs;obtain ⟨o,items,m,ho,_,hd,hi⟩:=hk;unfold eqIsQuiet;refine Z00 (wpAny_specialOf hT PySem.F.slot_tuple_eq.lookup ?_);show wpAny _ _ (isInstance (.ref a) (.type "tuple") >>= _) _ _ s;refine Z00 (wpAny_isInstance hT isSubtype_tuple_tuple ?_);simp only [Bool.not_true,Bool.false_eq_true,if_false];refine Z00 (Z21 ho hd ?_);refine Z00 ?_;show wpAny _ _ (forIn items _ _) _ _ s;rw [<-Array.forIn_toList];refine wpAny_forIn_list _ (λrest r s'=>r.1=none/\s'=s/\∀v∈rest,carriedByValue v=true) _ ?_ ?_ _ _ ⟨rfl,rfl,hi.byValue⟩
 ·rintro v rest r s' ⟨hr,rfl,hall⟩;rw [eqIsQuiet_byValue _ (hall v Z27)];refine Z00 (Z04 ?_);simp only [Bool.not_true,Bool.false_eq_true,if_false];exact Z04 ⟨rfl,rfl,λu hu'=>hall u (Z1f _ hu')⟩
 ·rintro ⟨r1,r2⟩ s' ⟨hr,rfl,_⟩;simp only at hr;subst hr;exact Z04 h
theorem B4s {k:A1w} {Q:Bool->Shared->Prop} (hk:A5l prog w s.heap k a) (h:Q true s):wpAny (model prog w) A (eqIsQuiet 8 (.ref a)) Q E s:=by
 have hT:=hk.typeIs;obtain ⟨o,items,m,ho,_,hd,hi⟩:=hk;unfold eqIsQuiet;refine Z00 (wpAny_specialOf hT PySem.F.slot_tuple_eq.lookup ?_);show wpAny _ _ (isInstance (.ref a) (.type "tuple") >>= _) _ _ s;refine Z00 (wpAny_isInstance hT isSubtype_tuple_tuple ?_);simp only [Bool.not_true,Bool.false_eq_true,if_false];refine Z00 (Z21 ho hd ?_);refine Z00 ?_;show wpAny _ _ (forIn items _ _) _ _ s;rw [<-Array.forIn_toList];refine wpAny_forIn_list _ (λrest r s'=>r.1=none/\s'=s/\∃ps,A4k prog w s.heap ps rest) _ ?_ ?_ _ _ ⟨rfl,rfl,k,hi⟩
 ·rintro v rest r s' ⟨hr,rfl,ps,hall⟩
  cases hall with
  | @cons p _ ps' _ h1 hl =>
   cases p with
   | inl q =>
    rw [eqIsQuiet_byValue _ ((A1p prog w).byValue _ _ h1)];refine Z00 (Z04 ?_);simp only [Bool.not_true,Bool.false_eq_true,if_false];exact Z04 ⟨rfl,rfl,ps',hl⟩
   | inr ks =>
    obtain ⟨b,rfl,h2⟩:=h1;refine Z00 (B8h h2 ?_);simp only [Bool.not_true,Bool.false_eq_true,if_false];exact Z04 ⟨rfl,rfl,ps',hl⟩
 ·rintro ⟨r1,r2⟩ s' ⟨hr,rfl,_⟩;simp only at hr;subst hr;exact Z04 h
def A3o (prog:Program) (w:World) (sh:List Bool):HeapKind prog w A1w where
 is:=λh k a=>k.map Sum.isLeft=sh/\A5l prog w h k a
 hash:=B6m prog w
 draws:=λk=>A2s k+1
 room:=λA=>A.units+8<cLine
 inj:=λhx hy=>hx.2.inj hy.2
 keeps:=λx ho hd hs=>⟨x.1,x.2.keeps ho hd hs⟩
 pyHash:=λhu hk h=>C2m hu hk.2 h
 eqBool:=λhu hx hy h=>C1s hu (hx.1.trans hy.1.symm) hx.2 hy.2 h
 quiet:=λhk h=>B4s hk.2 h
end
section
variable {prog:Program} {w:World} {K:Type} [DecidableEq K] {knd:HeapKind prog w K} {A:Around} {E:Value->Shared->Prop} {s:Shared}
theorem A9p {xs:List (K×Addr×Value)} {k:K} {dflt:Value} {Q:Value->Shared->Prop} (hu:knd.room A) (hkey:knd.is s.heap k a) (hm:s.heap.DictOfH knd d xs)
  (h1:∀p,atKey xs k=some p->Q p.2 { s with toks:=s.toks+knd.draws k })
  (h2:atKey xs k=none->∀h',h'.DictOfH knd d (storedH xs k a dflt)->Heap.SameBut d s.heap h'->Q dflt { s with heap:=h',toks:=s.toks+knd.draws k })
  (hsz:xs.length<=sizeLine):wpAny (model prog w) A (dictSetDefault d (.ref a) dflt) Q E s:=by
 obtain ⟨o,es,ep,ho,hc,hd,he,his,hn⟩:=hm;unfold dictSetDefault
 try with_reducible refine Z1w ?_
 refine Z00 (knd.pyHash hu hkey (Z00 (wpAny_dictFind_heap (s:={ s with toks:=s.toks+knd.draws k }) hu hkey ho hd he his hn ?_ ?_)))
 ·intro hno;have hnot:k∉xs.map (·.1):=not_mem_keys_of_get hno
  refine Z00 (wpAny_rule (Z00 (wpAny_updateDictKeys (hz:=by have e:=size_of_entries he;lia) (s:={ s with toks:=s.toks+knd.draws k }) ho hd (Z04 (h2 (atKey_none_of_get hno) _ ⟨_,_,ep+1,Z1r _ ho (Obj.isFreed_of_dict (Obj.data_mapDictKeys hd _)),
   hc.mapDictKeys _,Obj.data_mapDictKeys hd _,?_,?_,?_⟩ (Heap.SameBut.update ..))))))
  ·rw [storedH_new (atKey_none_of_get hno)];simp [he,entryOfKey]
  ·rw [storedH_new (atKey_none_of_get hno)];intro x hx;rcases Z07.mp hx with hx | hx
   ·exact knd.keeps (his x hx) ho hd (Heap.SameBut.update ..)
   ·simp only [Z0w] at hx;subst hx;exact knd.keeps hkey ho hd (Heap.SameBut.update ..)
  ·rw [storedH_new (atKey_none_of_get hno)];rw [Z0s,Z0l];refine ⟨hn,by simp,?_⟩;intro x hx y hy;simp only [Z0p,List.map_nil,Z0w] at hy;subst hy;exact λe=>hnot (e▸hx)
 ·intro j p hj;refine Z00 (wpAny_dictEntries (s:={ s with toks:=s.toks+knd.draws k }) ho hd ?_);rw [entry_at he j,hj];exact Z00 (wpAny_rule (Z04 (h1 _ (atKey_of_get hn hj))))
theorem B1d (knd:HeapKind prog w K) (d a:Addr) (hd:(d == sysModules)=false) (dflt:Value) :
  MeetsIn prog w (Builtin.«dict.setdefault» ⟨[.ref d,.ref a,dflt],[]⟩) (λA R s=>knd.room A.in1/\∃k xs,knd.is s.heap k a/\s.heap.DictOfH knd d xs/\xs.length<=sizeLine/\
   (∀p,atKey xs k=some p->R (.ok (.ret p.2)) { s with toks:=s.toks+knd.draws k })/\
   (atKey xs k=none->∀h',h'.DictOfH knd d (storedH xs k a dflt)->Heap.SameBut d s.heap h'->R (.ok (.ret dflt)) { s with heap:=h',toks:=s.toks+knd.draws k })) :=
 .of_wp λA R s ⟨hu,k,xs,hkey,hm,hz,h1,h2⟩=>by
  unfold Builtin.«dict.setdefault»;refine Z00 ?_;unfold Builtin.Dict.keyAndDefault;refine Z00 (wpAny_notOrdered_dict hm.typeIs ?_);show wpAny _ _ (pure (d,Value.ref a,some dflt)) _ _ s;refine Z04 ?_;show wpAny _ _ (if (d == sysModules)=true then _ else (dictSetDefault d (.ref a) dflt >>= _)) _ _ s;rw [Z0t (by rw [hd];exact Z0v)];exact Z00 (A9p (hsz:=hz) hu hkey hm (λv hv=>Z04 ⟨_,rfl,h1 v hv⟩) λhn h' hm' hs'=>Z04 ⟨dflt,rfl,h2 hn h' hm' hs'⟩)
end
def C1b (H:Hp):B0k->V->Prop
 | .inl k,v=>v=kV k
 | .inr ks,v=>∃b,v= .ref b/\H b=some (.tup (ks.map kV))
def A2b (H:Hp) (k:A1w) (b:Addr):Prop:=∃vs,H b=some (.tup vs)/\Paired (C1b H) k vs
theorem C1b.keeps {p:B0k} (e:C1b H p v) (ht:∀b xs,H b=some (.tup xs)->H' b=some (.tup xs)):C1b H' p v:=by
 cases p with
 | inl k=>exact e
 | inr ks=>obtain ⟨b,e1,e2⟩:=e;exact ⟨b,e1,ht _ _ e2⟩
theorem A2b.keeps {k:A1w} (e:A2b H k b) (ht:∀b xs,H b=some (.tup xs)->H' b=some (.tup xs)):A2b H' k b :=
 let ⟨vs,e1,e2⟩:=e;⟨vs,ht _ _ e1,Paired.mapP e2 λ_ _ z=>z.keeps ht⟩
theorem A2i {c:Addr} (h:H b=some (.tup [.str x,.ref c])) (hc:H c=some (.tup (ks.map kV))):A2b H [.inl (.inr x),.inr ks] b :=
 ⟨_,h,.cons rfl (.cons ⟨c,rfl,hc⟩ .nil)⟩
section
variable {P:Program} {w:World} {H:Hp} {h:Heap} {a b:Addr} {sh:List Bool}
theorem B9v (ok:HOk P w H h):∀{k:A1w} {vs:List V} {us:List Value},Paired (C1b H) k vs->A2r vs us->A4k P w h k us
 | _,_,_,.nil,.nil=> .nil
 | p::_,_,_,.cons e t,.cons r u=>by
  refine .cons ?_ (B9v ok t u)
  cases p with
  | inl k=>obtain rfl:=e;exact C1n r
  | inr ks =>
   obtain ⟨c,rfl,e2⟩:=e;cases r;exact ⟨c,rfl,C1j ok e2⟩
theorem A2b.is {k:A1w} (ok:HOk P w H h) (e:A2b H k b):A5l P w h k b:=by
 obtain ⟨vs,e1,e2⟩:=e;obtain ⟨_,its,r,o,h1,h2,n,h3⟩:=(show A2c P w H h b (.tup vs) from ok b _ e1);exact ⟨o,its.toArray,n,h1,h2,h3,by simpa using B9v ok e2 r⟩
abbrev KN:List (A1w×Addr×V)->List (A1w×Addr×Value)->Prop:=Paired λp q=>p.1=q.1/\p.2.1=q.2.1/\A2u p.2.2 q.2.2
def A8y (kas:List (A1w×Addr×V)):List (A1w×V):=kas.map λp=>(p.1,p.2.2)
def ndV (P:Program) (w:World) (sh:List Bool) (a:Addr) (kas:List (A1w×Addr×V)):HO:= .ext λh=>kas.length<=sizeLine/\(a == sysModules)=false/\∃xs,KN kas xs/\
 ∃o es ep,h.get? a=some o/\o.ExactDict/\o.data= .dict es ep/\es.toList=xs.map (entryOfKey (A3o P w sh))/\(xs.map (·.1)).Nodup
def A3l (P:Program) (w:World) (sh:List Bool) (H:Hp) (a:Addr) (kvs:List (A1w×V)):Prop :=
 ∃kas,H a=some (ndV P w sh a kas)/\A8y kas=kvs/\∀p∈kas,p.1.map Sum.isLeft=sh/\A2b H p.1 p.2.1
theorem D4r (z:kas.length<=sizeLine) (hd:(a == sysModules)=false) (r:KN kas xs) (dd:h.DictOfH (A3o P w sh) a xs):A2c P w H h a (ndV P w sh a kas):=by
 obtain ⟨o,es,ep,h1,h2,h3,h4,_,h5⟩:=dd;exact ⟨⟨z,hd,xs,r,o,es,ep,h1,h2,h3,h4,h5⟩,⟨o,h1⟩,(by rintro g1 g2 ⟨z,hd,xs,r,o,es,ep,h1,h2,h3,h4,h5⟩ k;exact ⟨z,hd,xs,r,o,es,ep,k o h1,h2,h3,h4,h5⟩)⟩
theorem A3l.keeps {kvs:List (A1w×V)} (d:A3l P w sh H a kvs) (ha:∀o,H a=some o->H' a=some o) (ht:∀b xs,H b=some (.tup xs)->H' b=some (.tup xs)):A3l P w sh H' a kvs :=
 let ⟨kas,e,b,n⟩:=d;⟨kas,ha _ e,b,λp hp=>⟨(n p hp).1,(n p hp).2.keeps ht⟩⟩
theorem A3l.at {kvs:List (A1w×V)} (ok:HOk P w H h) (d:A3l P w sh H a kvs):∃kas xs,H a=some (ndV P w sh a kas)/\A8y kas=kvs/\(∀p∈kas,p.1.map Sum.isLeft=sh/\A2b H p.1 p.2.1)/\
  kas.length<=sizeLine/\(a == sysModules)=false/\KN kas xs/\h.DictOfH (A3o P w sh) a xs:=by
 obtain ⟨kas,e,hb,n⟩:=d;obtain ⟨⟨z,hd,xs,r,o,es,ep,h1,h2,h3,h4,h5⟩,_,_⟩:=(show A2c P w H h a (ndV P w sh a kas) from ok a _ e);refine ⟨kas,xs,e,hb,n,z,hd,r,o,es,ep,h1,h2,h3,h4,λx hx=> ?_,h5⟩
 have all:∀{l:List (A1w×Addr×V)} {m:List (A1w×Addr×Value)},KN l m->(∀p∈l,p.1.map Sum.isLeft=sh/\A2b H p.1 p.2.1)->∀x∈m,(A3o P w sh).is h x.1 x.2.1:=by
  intro l m q
  induction q with
  | nil=>intro _ x hx;exact nomatch hx
  | @cons p q ps qs hq t ih =>
   intro hl x hx;rcases Z0e.mp hx with e | hx
   ·subst e;have:=hl p Z27;rw [<-hq.1,<-hq.2.1];exact ⟨this.1,this.2.is ok⟩
   ·exact ih (λy hy=>hl y (Z1f _ hy)) x hx
 exact all r n x hx
theorem KN.val (r:KN kas xs) (k:A1w):B4k (A1y (A8y kas) k) ((atKey xs k).map (·.2)):=by
 induction r with
 | nil=>exact True.intro
 | @cons p q ps qs h t ih =>
  obtain ⟨h1,_,h2⟩:=h;show B4k (A1y ((p.1,p.2.2)::A8y ps) k) _;by_cases e:p.1=k
  ·have e':q.1=k:=h1.symm.trans e;have b:atKey (q::qs) k=some q.2:=by simp [atKey,Z2h,e']
   rw [A2l (p:=(p.1,p.2.2)) e,b];exact h2
  ·have e':¬q.1=k:=λz=>e (h1.trans z);have b:atKey (q::qs) k=atKey qs k:=by simp [atKey,Z2h,e']
   rw [A2g (p:=(p.1,p.2.2)) e,b];exact ih
def C6z (kas:List (A1w×Addr×V)) (k:A1w) (b:Addr) (v:V):List (A1w×Addr×V) :=
 if ((A8y kas).any λkv=>decide (kv.1=k))=true then kas.map λp=>if p.1=k then (p.1,p.2.1,v) else p else kas++[(k,b,v)]
theorem D2b (kas:List (A1w×Addr×V)) (k:A1w) (b:Addr) (v:V):A8y (C6z kas k b v)=A3v (A8y kas) k v:=by
 unfold C6z A3v;by_cases q:((A8y kas).any λkv=>decide (kv.1=k))=true
 ·rw [Z12 q,Z12 q];unfold A8y;rw [List.map_map,List.map_map];refine List.map_congr_left λp _=> ?_;simp only [Function.comp];split <;> rfl
 ·rw [Z0t q,Z0t q];unfold A8y;rw [Z0s];rfl
theorem C2g (kas:List (A1w×Addr×V)) (k:A1w) (b:Addr) (v:V):(C6z kas k b v).length<=kas.length+1:=by
 unfold C6z;split
 ·rw [Z08];lia
 ·rw [Z06];exact Z09 _
theorem D1n {k:A1w} {p:A1w×Addr×V} (h:p∈C6z kas k b v):(∃q∈kas,p.1=q.1/\p.2.1=q.2.1)\/(p.1=k/\p.2.1=b):=by
 unfold C6z at h;split at h
 ·obtain ⟨q,hq,e⟩:=Z2c.mp h;refine .inl ⟨q,hq,?_⟩;split at e
  ·subst e;exact ⟨rfl,rfl⟩
  ·subst e;exact ⟨rfl,rfl⟩
 ·rcases Z07.mp h with h | h
  ·exact .inl ⟨p,h,rfl,rfl⟩
  ·rw [Z0w] at h;subst h;exact .inr ⟨rfl,rfl⟩
theorem KN.put (r:KN kas xs) (k:A1w) {y:V} {u:Value} (ry:A2u y u):KN (C6z kas k b y) (storedH xs k b u):=by
 have e:((A8y kas).any λkv=>decide (kv.1=k))=(atKey xs k).isSome:=by
  rw [A4b,(r.val k).isSome_eq,Option.isSome_map]
 unfold C6z storedH;rw [e];by_cases q:(atKey xs k).isSome=true
 ·rw [Z12 q,Z12 q];clear e q
  induction r with
  | nil=>exact .nil
  | @cons p q ps qs h t ih =>
   rw [Z0p,Z0p];refine .cons ?_ ih;obtain ⟨h1,h2,h3⟩:=h;unfold putAt;by_cases e:p.1=k
   ·rw [Z12 e,Z12 (h1.symm.trans e)];exact ⟨h1,h2,ry⟩
   ·rw [Z0t e,Z0t (λz=>e (h1.trans z))];exact ⟨h1,h2,h3⟩
 ·rw [Z0t q,Z0t q];exact Paired.snoc (F:=λ(p:A1w×Addr×V) (q:A1w×Addr×Value)=>p.1=q.1/\p.2.1=q.2.1/\A2u p.2.2 q.2.2) ⟨rfl,rfl,ry⟩ r
end
theorem B4r {k:Nat} (hr:B0y k A):A.units+9<cLine:=by have:=hr.un;lia
section
variable {X:Cx} {pins:List (Addr×Obj)} {Z:St} {H:Hp} {s:Shared} {a b:Addr} {v d:V} {r u:Value} {k:A1w} {sh:List Bool} {kvs:List (A1w×V)} {A:Around} {E:Value->Shared->Prop}
theorem A3l.typeIs (I:Inv X pins Z H s) (g:A3l X.prog X.w sh H a kvs):s.TypeIs (.ref a) "dict" :=
 let ⟨_,_,_,_,_,_,_,_,dd⟩:=g.at I.hok;dd.typeIs
theorem C9e {Q:Value->Shared->Prop} (hu:A.units+9<cLine) (I:Inv X pins Z H s) (g:A3l X.prog X.w sh H a kvs) (hk:A2b H k b) (hs:k.map Sum.isLeft=sh) (l:A1y kvs k=some v)
  (h:∀w' s',Inv X pins Z H s'->A2u v w'->Q w' s'):wpAny (model X.prog X.w) A (getItem (.ref a) (.ref b)) Q E s:=by
 obtain ⟨kas,xs,e,rfl,n,z,hd,rel,dd⟩:=g.at I.hok;obtain ⟨w',hw,rw'⟩:=B4k.some_of (v:=v) (o:=(atKey xs k).map (·.2)) (by rw [<-l];exact rel.val k);obtain ⟨p,hp,hp2⟩:=Z0i.mp hw;refine wpAny_getItem_heap (knd:=A3o X.prog X.w sh) (show A.units+1+8<cLine by lia) ⟨hs,hk.is I.hok⟩ dd hp ?_;rw [hp2];exact h w' _ (I.tok _) rw'
theorem n_in {Q:Value->Shared->Prop} (hu:A.units+9<cLine) (I:Inv X pins Z H s) (g:A3l X.prog X.w sh H a kvs) (hk:A2b H k b) (hs:k.map Sum.isLeft=sh)
  (h:∀s',Inv X pins Z H s'->Q (.bool (A1y kvs k).isSome) s'):wpAny (model X.prog X.w) A (compareOp .In (.ref b) (.ref a)) Q E s:=by
 obtain ⟨kas,xs,e,rfl,n,z,hd,rel,dd⟩:=g.at I.hok;refine wpAny_in_heap (knd:=A3o X.prog X.w sh) (show A.units+1+8<cLine by lia) ⟨hs,hk.is I.hok⟩ hd dd ?_;have q:=(rel.val k).isSome_eq;rw [Option.isSome_map] at q;rw [<-q];exact h _ (I.tok _)
theorem D9a {Q:Value->Shared->Prop} (hu:A.units+9<cLine) (I:Inv X pins Z H s) (g:A3l X.prog X.w sh H a kvs) (hk:A2b H k b) (hs:k.map Sum.isLeft=sh) (rd:A2u d r)
  (h:∀w' s',Inv X pins Z H s'->A2u ((A1y kvs k).getD d) w'->Q w' s'):wpAny (model X.prog X.w) A (call (.builtin "dict.get") [.ref a,.ref b,r]) Q E s:=by
 obtain ⟨kas,xs,e,rfl,n,z,hd,rel,dd⟩:=g.at I.hok;refine call_meetsIn PySem.F.slot_dict_get dd.typeIs PySem.F.entry_dict_get (PySem.F.args_dict_get_3 _ _ _) (meetsH_dict_get_default (A3o X.prog X.w sh) a b hd r) ⟨(show A.units+1+8<cLine by lia),k,xs,⟨hs,hk.is I.hok⟩,dd,h _ _ (I.tok _) ?_⟩;exact (rel.val k).getD rd
theorem B6c (I:Inv X pins Z H s) (e:H a=some (ndV X.prog X.w sh a kas)) (n:∀p∈kas,p.1.map Sum.isLeft=sh/\A2b H p.1 p.2.1)
  (hl:(A8y kas).length<sizeLine) (hd:(a == sysModules)=false) (rel:KN kas xs) (hk:A2b H k b) (hs:k.map Sum.isLeft=sh) (rv:A2u v u)
  (dd:h'.DictOfH (A3o X.prog X.w sh) a (storedH xs k b u)) (hsb:Heap.SameBut a s.heap h') :
  Inv X pins Z (upd H a (ndV X.prog X.w sh a (C6z kas k b v))) { s with heap:=h',toks:=t' }/\A3l X.prog X.w sh (upd H a (ndV X.prog X.w sh a (C6z kas k b v))) a (A3v (A8y kas) k v):=by
 have hl':(C6z kas k b v).length<=sizeLine:=by
  have h1:=C2g kas k b v;have h2:(A8y kas).length=kas.length:=Z08 _
  lia
 have ht:∀c ys,H c=some (.tup ys)->upd H a (ndV X.prog X.w sh a (C6z kas k b v)) c=some (.tup ys):=λc ys ec=>by
  rw [A0h (A1g ec e (λz=>nomatch z))];exact ec
 refine ⟨B6x I (by rw [e];exact True.intro) hsb (let ⟨q,_,_,hq,_⟩:=dd;⟨q,hq⟩) (D4r hl' hd (rel.put k rv) dd),_,A0b,D2b _ _ _ _,λp hp=> ?_⟩;rcases D1n hp with ⟨q,hq,e1,e2⟩ | ⟨e1,e2⟩
 ·rw [e1,e2];exact ⟨(n q hq).1,(n q hq).2.keeps ht⟩
 ·rw [e1,e2];exact ⟨hs,hk.keeps ht⟩
theorem C9a {Q:Unit->Shared->Prop} (hu:A.units+9<cLine) (I:Inv X pins Z H s) (g:A3l X.prog X.w sh H a kvs) (hk:A2b H k b) (hs:k.map Sum.isLeft=sh) (hl:kvs.length<sizeLine) (rv:A2u v u)
  (h:∀o s',Inv X pins Z (upd H a o) s'->A3l X.prog X.w sh (upd H a o) a (A3v kvs k v)->Q () s'):wpAny (model X.prog X.w) A (setItem (.ref a) (.ref b) u) Q E s:=by
 obtain ⟨kas,xs,e,rfl,n,z,hd,rel,dd⟩:=g.at I.hok;have hz:xs.length<=sizeLine:=by rw [<-Paired.length rel];exact z
 refine wpAny_setItem_heap (knd:=A3o X.prog X.w sh) (hsz:=hz) (show A.units+1+8<cLine by lia) ⟨hs,hk.is I.hok⟩ dd λh' dd' hsb=> ?_;obtain ⟨I',d'⟩:=B6c (t':=s.toks+(A3o X.prog X.w sh).draws k) I e n hl hd rel hk hs rv dd' hsb;exact h _ _ I' d'
theorem E0h {Q:Value->Shared->Prop} (hu:A.units+9<cLine) (I:Inv X pins Z H s) (g:A3l X.prog X.w sh H a kvs) (hk:A2b H k b) (hs:k.map Sum.isLeft=sh) (hl:kvs.length<sizeLine) (rv:A2u v u)
  (h1:∀y w' s',A1y kvs k=some y->Inv X pins Z H s'->A2u y w'->Q w' s')
  (h2:A1y kvs k=none->∀o s',Inv X pins Z (upd H a o) s'->A3l X.prog X.w sh (upd H a o) a (A3v kvs k v)->Q u s'):wpAny (model X.prog X.w) A (call (.builtin "dict.setdefault") [.ref a,.ref b,u]) Q E s:=by
 obtain ⟨kas,xs,e,rfl,n,z,hd,rel,dd⟩:=g.at I.hok;have hz:xs.length<=sizeLine:=by rw [<-Paired.length rel];exact z
 have rr:=rel.val k;refine call_meetsIn PySem.F.slot_dict_setdefault dd.typeIs PySem.F.entry_dict_setdefault (PySem.F.args_dict_setdefault_3 _ _ _) (B1d (A3o X.prog X.w sh) a b hd u) ⟨(show A.units+1+8<cLine by lia),k,xs,⟨hs,hk.is I.hok⟩,dd,hz,λp hp=> ?_,λhn h' dd' hsb=> ?_⟩
 ·rw [hp] at rr
  cases ev:A1y (A8y kas) k with
  | none=>rw [ev] at rr;exact False.elim rr
  | some y=>rw [ev] at rr;exact h1 y _ _ ev (I.tok _) rr
 ·rw [hn] at rr
  cases ev:A1y (A8y kas) k with
  | none =>
   obtain ⟨I',d'⟩:=B6c (t':=s.toks+(A3o X.prog X.w sh).draws k) I e n hl hd rel hk hs rv dd' hsb;exact h2 ev _ _ I' d'
  | some y=>rw [ev] at rr;exact False.elim rr
end
structure E0u (P:Program) (w:World) (H:Hp) (x y:V) (a b:Addr) (sh:List Bool) (kvs:List (A1w×V)) (k:A1w):Prop where
 ex:x= .ref a
 ey:y= .ref b
 nd:A3l P w sh H a kvs
 at':A2b H k b
 sh':k.map Sum.isLeft=sh
def E3s (P:Program) (w:World) (td ty:TE):TE:=λZ H Q=>td Z H λx H1=>ty Z H1 λy H2=>∃a b sh kvs k v,E0u P w H2 x y a b sh kvs k/\A1y kvs k=some v/\Q v H2
def E4n (P:Program) (w:World):R2:=λy x H Q=>∃a b sh kvs k,E0u P w H x y a b sh kvs k/\Q (.bl (A1y kvs k).isSome) H
def E2t (P:Program) (w:World):E2b:=λx y v H Q=>∃a b sh kvs k,E0u P w H x y a b sh kvs k/\kvs.length<sizeLine/\∀o,A3l P w sh (upd H a o) a (A3v kvs k v)->Q (upd H a o)
def E1j (P:Program) (w:World) (sh:List Bool):TE:=λ_ H Q=>∀p o,H p=none->A3l P w sh (upd H p o) p []->Q (.ref p) (upd H p o)
def E3y (P:Program) (w:World):V->List V->Hp->VK->Prop:=λx vs H Q=>∃a b sh kvs k y z,vs=[y,z]/\E0u P w H x y a b sh kvs k/\Q ((A1y kvs k).getD z) H
def D9w (P:Program) (w:World):V->List V->Hp->VK->Prop:=λx vs H Q=>∃a b sh kvs k y z,vs=[y,z]/\E0u P w H x y a b sh kvs k/\kvs.length<sizeLine/\
 (∀v,A1y kvs k=some v->Q v H)/\(A1y kvs k=none->∀o,A3l P w sh (upd H a o) a (A3v kvs k z)->Q z (upd H a o))
def tBMN (P:Program) (w:World) (r:V->List V->Hp->VK->Prop) (to:TE) (t:TA):TE:=λZ H Q=>to Z H λx H1=>(∃a sh kvs,x= .ref a/\A3l P w sh H1 a kvs)/\t Z H1 λxs H2=>r x xs H2 Q
section
variable {X:Cx} {o i e value:Expr} {pos pos' tpos:Pos} {td ty tv:TE}
theorem A6b (hu:X.A.units+9<cLine) (ho:PE X o td) (hi:PE X i ty) (hs:E2h i:=by exact λ_ _=>rfl):PE X (.Subscript o i pos) (E3s X.prog X.w td ty):=by
 walk_at "j";rintro iv s2 ⟨y,H2,I2,ry,a,b,sh,kvs,k,v,⟨ex,ey,nd,at',sh'⟩,l,q2⟩;subst ex ey;obtain rfl:u=Value.ref a:=rx;obtain rfl:iv=Value.ref b:=ry;exact ⟨nd.typeIs I2,C9e hu I2 nd at' sh' l λw' s3 I3 rw'=>⟨v,H2,I3,rw',q2⟩⟩
theorem B2o (hu:X.A.units+9<cLine):OpR X (compareOp .In) (E4n X.prog X.w):=by
 walk_at "l";obtain ⟨a,b,sh,kvs,k,⟨ex,ey,nd,at',sh'⟩,q⟩:=h;subst ex ey;obtain rfl:v=Value.ref b:=rx;obtain rfl:u=Value.ref a:=ry;exact n_in hu I nd at' sh' λs3 I3=>⟨.bl (A1y kvs k).isSome,H,I3,rfl,q⟩
theorem A6k (hu:X.A.units+9<cLine):E2m X (E2t X.prog X.w):=by
 intro pins s Z H o i v ov iv u Q I ro ri rv h;obtain ⟨a,b,sh,kvs,k,⟨ex,ey,nd,at',sh'⟩,hl,q⟩:=h;subst ex ey;obtain rfl:ov=Value.ref a:=ro;obtain rfl:iv=Value.ref b:=ri;exact C9a hu I nd at' sh' hl rv λo s3 I3 d3=>⟨_,I3,q o d3⟩
theorem A7t:PE X (.Dict [] [] pos) (E1j X.prog X.w sh):=λpins s Z H Q I h=>by
 have hb:=I.big;have hd:(s.heap.objs.size == sysModules)=false:=Z22.mpr (Ne.symm (Z0h hb));refine wpAny_Dict_empty ⟨.ref s.heap.objs.size,_,I.laid (a:=s.heap.objs.size) (o:=ndV X.prog X.w sh s.heap.objs.size []) (t':=s.toks) (λ_ _ q=>Z01 _ q) (Z09 _) (D4r (Z1e _) hd .nil (Heap.DictOfH.new s.heap)),rfl,h _ _ (I.hok.fresh (Z09 _)) ⟨[],A0b,rfl,λp hp=>nomatch hp⟩⟩
theorem D6k (hu:X.A.units+9<cLine):MtR X "dict.get" (E3y X.prog X.w):=by
 intro pins s Z H x xs v us Q I rx rv h;obtain ⟨a,b,sh,kvs,k,y,z,rfl,⟨ex,ey,nd,at',sh'⟩,q⟩:=h;subst ex ey;obtain rfl:v=Value.ref a:=rx
 cases rv with
 | cons r1 rv =>
  cases rv with
  | cons r2 rv =>
   cases rv
   cases r1
   exact D9a hu I nd at' sh' r2 λw' s3 I3 rw'=>⟨_,H,I3,rw',q⟩
theorem C4y (hu:X.A.units+9<cLine):MtR X "dict.setdefault" (D9w X.prog X.w):=by
 intro pins s Z H x xs v us Q I rx rv h;obtain ⟨a,b,sh,kvs,k,y,z,rfl,⟨ex,ey,nd,at',sh'⟩,hl,q1,q2⟩:=h;subst ex ey;obtain rfl:v=Value.ref a:=rx
 cases rv with
 | cons r1 rv =>
  cases rv with
  | cons r2 rv =>
   cases rv
   cases r1
   exact E0h hu I nd at' sh' hl r2 (λy w' s3 l I3 rw'=>⟨_,H,I3,rw',q1 y l⟩) λl o s3 I3 d3=>⟨_,_,I3,r2,q2 l o d3⟩
theorem A3l.noDict {kvs:List (A1w×V)} (I:Inv X pins Z H s) (g:A3l X.prog X.w sh H a kvs):∀b,Value.ref a= .ref b->∃ob,s.heap.get? b=some ob/\ob.dict=none:=λb q=>by
 cases q
 obtain ⟨_,_,_,_,_,_,_,_,ob,_,_,h1,h2,_⟩:=g.at I.hok;exact ⟨ob,h1,h2.2.1⟩
variable {es:List Expr} {to:TE} {t:TA} {name:Str} {apos cpos:Pos} {id:String} {r:V->List V->Hp->VK->Prop}
theorem D0d (slot:Slot "dict" name id) (hty:typeOf (.builtin id)=pure (.type "method_descriptor")) (hm:MtR X id r) (ho:PE X o to) (ha:PA X (e::es) t)
  (hbase:attributeBase o name X.env (eval o X.env)=eval o X.env:=by rfl)
  (hfew:((backTo cpos (starEach (e::es) X.env)).all (λx=> !x.1)&&(backToKw cpos (keywordEach [] X.env)).all (λx=>x.1.isSome)
   && decide ((e::es).length+([]:List Keyword).length+(if ([]:List Keyword).isEmpty then 0 else 1)<30))=true:=by rfl)
  (hline:(apos.endLine == cpos.line)=true:=by rfl) (hs:starEach (e::es) X.env=(false,eval e X.env)::starEach es X.env:=by rfl) (hplain:(backTo cpos (starEach es X.env)).any (·.1)=false:=by rfl) :
  PE X (.Call (.Attribute o name apos) (e::es) [] cpos) (tBMN X.prog X.w r to t):=by
 intro pins s Z H Q I h;refine wpAny_Call_method_late hbase hfew hline rfl (thn (ho pins s Z H _ I h) ?_);rintro v s1 ⟨x,H1,I1,r1,⟨a,sh,kvs,ex,nd⟩,q1⟩;subst ex;obtain rfl:v=Value.ref a:=r1;refine ⟨"dict",id,PySem.F.plainAttrs_dict,slot,hty,nd.typeIs I1,nd.noDict I1,?_⟩;have hA:=ha cpos pins s1 Z H1 _ I1 q1;rw [hs] at hA⊢;refine Calls.callWith_builtin (by show (false||(backTo cpos (starEach es X.env)).any (·.1))=false;rw [hplain] <;> rfl) (Calls.evalArgs_plain ?_);exact thn hA (by rintro us s2 ⟨vs,H2,I2,r2,q2⟩;exact hm pins s2 Z H2 (.ref a) vs _ us Q I2 rfl r2 q2)
end
def A5o (H:Hp) (a:Addr):Hp:=λb=>if b=a then none else H b
theorem B8b (h:b≠a):A5o H a b=H b:=by unfold A5o;rw [Z0t h]
theorem C5q {o:HO} (h:A5o H a b=some o):b≠a/\H b=some o:=by
 unfold A5o at h;by_cases z:b=a
 ·rw [Z12 z] at h;cases h
 ·rw [Z0t z] at h;exact ⟨z,h⟩
theorem A4u (h:H b=none):A5o H a b=none:=by
 unfold A5o;split
 ·rfl
 ·exact h
section
variable {X:Cx} {pins:List (Addr×Obj)} {Z:St} {H:Hp} {s:Shared} {a:Addr} {φ:Heap->Prop}
theorem Inv.drop (I:Inv X pins Z H s) (e:H a=some (.ext φ)):Inv X pins Z (A5o H a) s:=by
 have up:∀b o,H b=some o->o≠.ext φ->A5o H a b=some o:=λb o q n=>by
  rw [B8b (A1g q e n)];exact q
 refine ⟨I.ok,I.os,I.bare,⟨I.base.keep,I.base.slot,λb o q n hb=>A4u (I.base.free b o q n hb),I.base.there,λb xs q=>up _ _ (I.base.tups b xs q) (λz=>nomatch z),λb o u q=>up _ _ (I.base.frzs b o u q) (λz=>nomatch z),λb ps q=> ?_⟩,I.loc,I.cell,A4u I.free,λx c q=>A4u (I.freeC x c q),λp hp=> ?_,λb o q=> ?_,I.len⟩
 ·obtain ⟨m,z⟩:=I.base.tbls b ps q;exact ⟨m,up _ _ z (λz=>nomatch z)⟩
 ·obtain ⟨q,n,r⟩:=I.pin p hp;exact ⟨q,A4u n,r⟩
 ·obtain ⟨_,z⟩:=C5q q;exact (I.hok b o z).stay (λ_ _ _ q=>q) (λc q=>up _ _ q (λz=>nomatch z)) λc xs q=>up _ _ q (λz=>nomatch z)
end
section
variable {P:Program} {w:World} {K:Frag} {mg:Str->Option Value} {base:Heap} {N:List Str} {qual:Str} {scope:Scope} {f:Addr} {cd:Value} {A:Around} {outer:List Env} {s:Shared} {H:Hp} {E:XK}
end
end L2
namespace HT
open PySem PySem.Spec PyProof.Rows L2
section
variable {prog:Program} {w:World} {A:Around} {E:Value->Shared->Prop} {s:Shared}
end
end HT
namespace L2
open PySem PySem.Spec PyProof.Rows
section
variable {X:Cx}
theorem B3j {α:Type} {f:α->V} {ys:List α} {i:Nat}:B5d (ys.map f) none (some (i:Int))=(ys.take i).map f:=by
 unfold B5d;have e1:HT.sIx (ys.map f).length 0 none=0:=rfl;have e2:HT.sIx (ys.map f).length (ys.map f).length (some (i:Int))=min i (ys.map f).length:=HT.sIx_nat _ _ _;rw [e1,e2,List.drop_zero,Nat.sub_zero,List.map_take];by_cases h:i<=(ys.map f).length
 ·rw [Nat.min_eq_left h]
 ·rw [Nat.min_eq_right (by lia),Z2l (Z09 _),Z2l (by lia)]
end
section
variable {prog:Program} {w:World} {A:Around} {E:Value->Shared->Prop} {s:Shared} {it d:Addr} {od:Obj} {es:Array DictEntry} {ep i:Nat}
theorem D2l {Q:Value->Shared->Prop} (hn:(d == sysModules)=false) (hod:s.heap.get? d=some od) (hT:s.TypeIs (.ref d) "dict") (hdd:od.data= .dict es ep)
  (hQ:Q (.ref s.heap.objs.size) { s with heap:=s.heap.push { cls:= .type "dict_keyiterator",data:= .fields #[.ref d,.int 0 0,.int es.size 0,.int ep 0] } }):wpAny (model prog w) A (pyIter (.ref d)) Q E s:=by
 refine wpAny_pyIter_slot hT F.slot_dict_iter (Z1g F.slot_dict_iter hT F.entry_dict_iter ?_ (F.args_dict_iter_1 _));unfold Builtin.«dict.__iter__» Builtin.Dict.dictSlotNone;refine Z00 (Z00 (wpAny_notOrdered_dict hT ?_));show wpAny _ _ (pure (Value.ref d)) _ _ s;refine Z04 (show wpAny _ _ (Builtin.Dict.showsAll d >>= _) _ _ s from ?_);unfold Builtin.Dict.showsAll;rw [Z0t (by rw [hn] <;> exact Z0v)];refine Z00 (Z04 (Z00 (wpAny_dictEntries hod hdd (Z00 (wpAny_dictEpoch hod hdd (Z00 (Z16 (Z04 ⟨_,rfl,"dict_keyiterator",_,⟨_,Z0c _ rfl,rfl⟩,F.slot_dict_keyiterator_next.lookup,?_⟩))))))))
 simpa [rawInt] using hQ
theorem D2e {Q:Option Value->Shared->Prop} (hit:s.heap.IsKeyIter it d i es.size ep) (hod:s.heap.get? d=some od) (hdd:od.data= .dict es ep) (hlt:i<es.size)
  (hQ:∀h',h'.IsKeyIter it d (i+1) es.size ep->Heap.SameBut it s.heap h'->Q (some es[i].key) { s with heap:=h' }):wpAny (model prog w) A (pyNext (.ref it)) Q E s:=by
 obtain ⟨o,ho,hc,hd⟩:=id hit;unfold pyNext;refine Z00 (wpAny_attempt (Z1b (name:=Str.ofString "__next__") hit.typeIs F.slot_dict_keyiterator_next (Z1g F.slot_dict_keyiterator_next hit.typeIs F.entry_dict_keyiterator_next ?_ (F.args_dict_keyiterator_next_1 _))));refine Z00 (Z04 (Z00 (Z00 ?_)))
 first | refine Z00 (wpAny_typeNameOfWhole_keyiter hit.typeIs (Z04 ?_)) | refine Z00 (wpAny_typeNameOf_keyiter hit.typeIs (Z04 ?_))
 refine Z00 (wpAny_fieldsOf ho hd ?_);simp only [show Builtin.Dict_items.ownsTuple "dict_keyiterator"=false by decide,Bool.false_eq_true,if_false];show wpAny _ _ (if (Value.ref d == Value.none)=true then _ else _) _ _ s;rw [Z0t (show¬((Value.ref d == Value.none)=true) from Z0v)];refine Z00 (Z04 (Z00 (wpAny_dictEntries hod hdd ?_)));rw [Z0t (by simp)];refine Z00 (Z04 (Z00 (wpAny_dictEpoch hod hdd ?_)));rw [Z0t (by simp)];refine Z04 ?_;simp only [show¬((i:Int)<0) from by lia,if_false,Int.toNat_natCast,Array.getElem?_eq_getElem hlt];refine Z00 ?_
 first | refine Z00 (wpAny_typeNameOfWhole_keyiter hit.typeIs (Z04 ?_)) | refine Z00 (wpAny_typeNameOf_keyiter hit.typeIs (Z04 ?_))
 refine Z00 (wpAny_isOneOf_keyiter hit.typeIs (show wpAny _ _ (setField (.ref it) 1 (rawInt ((i:Int)+1)) >>= _) _ _ s from Z00 (Z1t ho hd (by simp) ?_)));have hit':(s.heap.update it (Obj.mapFields (·.setIfInBounds 1 (rawInt ((i:Int)+1))))).IsKeyIter it d (i+1) es.size ep:=⟨_,Z1r _ ho (Obj.isFreed_of_fields (Obj.data_mapFields hd _)),(Obj.cls_mapFields ..).trans hc,by rw [Obj.data_mapFields hd];simp [rawInt]⟩;refine Z00 (Z1w (Z00 (wpAny_isOneOf_keyiter (s:={ s with heap:=s.heap.update it (Obj.mapFields (·.setIfInBounds 1 (rawInt ((i:Int)+1)))) }) hit'.typeIs ?_)));show wpAny _ _ (pure es[i].key) _ _ _;exact Z04 (Z04 ⟨_,rfl,Z04 (hQ _ hit' (Heap.SameBut.update ..))⟩)
theorem D7q {Q:Option Value->Shared->Prop} (hh:A.handled=none) (hit:s.heap.IsKeyIter it d i es.size ep) (hod:s.heap.get? d=some od) (hdd:od.data= .dict es ep) (hge:es.size<=i)
  (hQ:∀h',Heap.ExtBut it s.heap h'->Q none { s with heap:=h' }):wpAny (model prog w) A (pyNext (.ref it)) Q E s:=by
 obtain ⟨o,ho,hc,hd⟩:=id hit;unfold pyNext;refine Z00 (wpAny_attempt (Z1b (name:=Str.ofString "__next__") hit.typeIs F.slot_dict_keyiterator_next (Z1g F.slot_dict_keyiterator_next hit.typeIs F.entry_dict_keyiterator_next ?_ (F.args_dict_keyiterator_next_1 _))));refine Z00 (Z04 (Z00 (Z00 ?_)))
 first | refine Z00 (wpAny_typeNameOfWhole_keyiter hit.typeIs (Z04 ?_)) | refine Z00 (wpAny_typeNameOf_keyiter hit.typeIs (Z04 ?_))
 refine Z00 (wpAny_fieldsOf ho hd ?_);simp only [show Builtin.Dict_items.ownsTuple "dict_keyiterator"=false by decide,Bool.false_eq_true,if_false];show wpAny _ _ (if (Value.ref d == Value.none)=true then _ else _) _ _ s;rw [Z0t (show¬((Value.ref d == Value.none)=true) from Z0v)];refine Z00 (Z04 (Z00 (wpAny_dictEntries hod hdd ?_)));rw [Z0t (by simp)];refine Z00 (Z04 (Z00 (wpAny_dictEpoch hod hdd ?_)));rw [Z0t (by simp)];refine Z04 ?_;simp only [show¬((i:Int)<0) from by lia,if_false,Int.toNat_natCast,Array.getElem?_eq_none hge];refine Z00 ?_
 first | refine Z00 (wpAny_typeNameOfWhole_keyiter hit.typeIs (Z04 ?_)) | refine Z00 (wpAny_typeNameOf_keyiter hit.typeIs (Z04 ?_))
 refine (show wpAny _ _ (setField (.ref it) 0 .none >>= _) _ _ s from Z00 (Z1t ho hd (by simp) ?_));show wpAny _ _ (newExc (.type "StopIteration") [] >>= _) _ _ _;refine Z00 ?_;simp only [newExc,newTuple];refine Z00 (Z16 ?_ (by size_fits));refine Z00 (m:=firstArgMember _ _) (wpAny_of_eq (a:=Value.none) (by first | rfl | (simp only [firstArgMember];rfl)) (Z16 ?_ (by size_fits)));simp only [raiseNew];refine Z00 (wpAny_handled ?_);rw [show A.in1.handled=none from hh];refine Z00 (Z04 (wpAny_throw ?_));refine Z00 (wpAny_isInstance (T:="StopIteration") (b:=true) ⟨_,Z0c _ rfl,rfl⟩ isSubtype_stop ?_);exact Z04 (hQ _ (((Heap.SameBut.update ..).extBut.push _).push _))
end
def Itn (P:Program) (w:World) (sh:List Bool) (a:Addr) (o:Obj) (kas:List (A1w×Addr×V)):It :=
 ⟨λi H=>H a=some (.frz o (ndV P w sh a kas))/\i<kas.length,λi H x H'=>H'=H/\∃p,kas[i]? =some p/\x= .ref p.2.1,λi H=>H a=some (.frz o (ndV P w sh a kas))/\i=kas.length⟩
theorem E3p {kas:List (A1w×Addr×V)} {xs:List (A1w×Addr×Value)} (r:KN kas xs):∀{i:Nat} {p:A1w×Addr×V},kas[i]? =some p->∃q,xs[i]? =some q/\q.2.1=p.2.1:=by
 unfold KN at r
 induction r with
 | nil=>intro i p e;simp at e
 | @cons p q ps qs h t ih =>
  intro i p' e
  cases i with
  | zero =>
   simp at e;subst e;exact ⟨q,rfl,h.2.1.symm⟩
  | succ j =>
   obtain ⟨u,e1,e2⟩:=ih (i:=j) (by simpa using e);exact ⟨u,by simpa using e1,e2⟩
theorem E0q {P:Program} {w:World} {H:Hp} {h:Heap} {a:Addr} {sh:List Bool} {o:Obj} {kas:List (A1w×Addr×V)} {es:Array DictEntry} {ep:Nat} (ok:HOk P w H h) (ha:H a=some (.frz o (ndV P w sh a kas))) (ho:o.data= .dict es ep) :
  h.get? a=some o/\es.size=kas.length/\∀(i:Nat) (p:A1w×Addr×V) (hi:i<es.size),kas[i]? =some p->es[i].key= .ref p.2.1:=by
 obtain ⟨e1,⟨z,hd,xs,r,o',es',ep',h1,h2,h3,h4,h5⟩,_⟩:=(show A2c P w H h a (.frz o (ndV P w sh a kas)) from ok a _ ha);rw [e1] at h1;cases h1;rw [ho] at h3;cases h3;have hl:=Paired.length r;have hs:es.size=xs.length:=by rw [<-Array.length_toList,h4,Z08]
 refine ⟨e1,by lia,λi p hi hp=> ?_⟩;obtain ⟨q,hq,e⟩:=E3p r hp;have:es.toList[i]? =some (entryOfKey (A3o P w sh) q):=by rw [h4,Z1z,hq];rfl
 rw [Array.getElem?_toList,Array.getElem?_eq_getElem hi] at this;rw [Z1a this,<-e];rfl
theorem C5z {P:Program} {w:World} {K:Frag} {tg:Expr} (it a:Addr) (sh:List Bool) (o:Obj) (kas:List (A1w×Addr×V)) (es:Array DictEntry) (ep:Nat) (ho:o.data= .dict es ep) :
  C7a P w K tg (Itn P w sh a o kas) [it] it (λi h=>h.IsKeyIter it a i es.size ep) where
 mem:=by simp
 obj:=λi h st b hb=>by
  have e:b=it:=by simpa using hb
  subst e;obtain ⟨ob,e,_,d⟩:=st;exact ⟨ob,e,λv z=>by rw [d] at z;cases z⟩
 keep:=λi h h' st k=>st.at λob e=>k it (by simp) ob e
 item:=by
  walk_at "c";obtain ⟨ha,hi⟩:=hg;walk_at "f";obtain ⟨dd,hl,hk⟩:=E0q I.hok ha ho;have hi':i<es.size:=by lia
  have hkv:kas[i]? =some kas[i]:=Z0b hi;refine D2e st dd ho hi' λh' hit sb=> ?_;have I1:Inv X pins Z H { s with heap:=h',toks:=s.toks }:=I.turned (t':=s.toks) (λb ob hb e=>(sb.2 b hb).trans e) f0 f1 f3 f4 f5
  obtain ⟨ob,e,c,d⟩:=id hit;refine ⟨es[i].key,rfl,C3g (s:={ s with heap:=h' }) e c d (by decide) ⟨.ref kas[i].2.1,H,I1,?_,⟨rfl,kas[i],hkv,rfl⟩,hit,λb hb=>(hf b hb).1⟩⟩
  rw [hk i _ hi' hkv];rfl
 done:=by
  walk_at "c";obtain ⟨ha,hi⟩:=hg;walk_at "f";obtain ⟨dd,hl,hk⟩:=E0q I.hok ha ho;exact D7q (I.ok.hd hc) st dd ho (by lia) λh' eb=>⟨rfl,I.turned (t':=s.toks) (λb ob hb e=>eb b ob hb e) f0 f1 f3 f4 f5⟩
 self:=λ_ _ _ _ _ st h=>wpAny_pyIter_keyiter st h
def E0a (P:Program) (w:World) (tl:TE):TI:=λZ H R=>tl Z H λx H1=>∃a sh kas,x= .ref a/\H1 a=some (ndV P w sh a kas)/\∀o,R (Itn P w sh a o kas) (upd H1 a (.frz o (ndV P w sh a kas)))
theorem B7f {X:Cx} {tg l:Expr} {tl:TE} (hl:PE X l tl):PI X tg l (E0a X.prog X.w tl):=by
 intro pins s Z H R I h;refine thn (hl pins s Z H _ I h) ?_;rintro u s1 ⟨x,H1,I1,rx,a,sh,kas,ex,ha,q⟩;subst ex;cases rx;obtain ⟨⟨z,hs,xs,r,o,es,ep,h1,h2,h3,h4,h5⟩,_⟩:=(show A2c X.prog X.w H1 s1.heap a (ndV X.prog X.w sh a kas) from I1.hok a _ ha);refine D2l hs h1 ⟨o,h1,h2.1⟩ h3 ?_;have I2:Inv X pins Z H1 { s1 with heap:=s1.heap.push { cls:= .type "dict_keyiterator",data:= .fields #[.ref a,.int 0 0,.int es.size 0,.int ep 0] },toks:=s1.toks }:=I1.kept λb ob e=>Z01 _ e
 have I3:Inv X pins Z (upd H1 a (.frz o (ndV X.prog X.w sh a kas))) _:=I2.write (t':=s1.toks) (h':=s1.heap.push { cls:= .type "dict_keyiterator",data:= .fields #[.ref a,.int 0 0,.int es.size 0,.int ep 0] }) (e:=a) (by rw [ha];trivial) (.inl rfl) (λ_ _ _ e=>e) ⟨o,Z01 _ h1⟩ ⟨Z01 _ h1,(show A2c X.prog X.w H1 _ a (ndV X.prog X.w sh a kas) from I2.hok a _ ha)⟩;refine ⟨_,[s1.heap.objs.size],_,_,_,rfl,I3,C5z _ a sh o kas es ep h3,?_,λb hb=> ?_,q o⟩
 ·exact ⟨_,Z0c _ rfl,rfl,rfl⟩
 ·have e:b=s1.heap.objs.size:=by simpa using hb
  subst e;refine I1.fpOk (Z09 _) ?_;rw [A0h (Z1q (I1.hok.lt ha))];exact I1.hok.fresh (Z09 _)
theorem B2j {P:Program} {w:World} {sh:List Bool} {a:Addr} {o:Obj} {kas:List (A1w×Addr×V)} {g:TG} {tb:TS} {D:B6f} {Z:St} {H:Hp} (Pv:Nat->St->Hp->Prop) (h0:Pv 0 Z H) (hl:∀i Z H,Pv i Z H->H a=some (.frz o (ndV P w sh a kas)))
  (hs:∀i p Z H,kas[i]? =some p->Pv i Z H->g (.ref p.2.1) Z H λZ2 H2=>tb { D with nx:=Pv (i+1),ct:=Pv (i+1),bk:=D.nx } Z2 H2) (hd:∀Z H,Pv kas.length Z H->D.nx Z H) :
  ∃W:Nat->Nat->St->Hp->Prop,(∃m,W 0 m Z H)/\∀i m Z H,W i m Z H->
   ((Itn P w sh a o kas).stop i H/\D.nx Z H)\/((Itn P w sh a o kas).go i H/\∃N:St->Hp->Prop,(∀Z' H',N Z' H'->∃m',m'<m/\W (i+1) m' Z' H')/\∀x H',(Itn P w sh a o kas).yld i H x H'->g x Z H' λZ2 H2=>tb { D with nx:=N,ct:=N,bk:=D.nx } Z2 H2):=by
 refine ⟨λi m Z H=>m=kas.length-i/\i<=kas.length/\Pv i Z H,⟨kas.length,by simp,Z1e _,h0⟩,?_⟩;rintro i m Z H ⟨rfl,hi,p⟩;by_cases hlt:i<kas.length
 ·refine .inr ⟨⟨hl i Z H p,hlt⟩,Pv (i+1),λZ' H' p'=>⟨kas.length-(i+1),by lia,rfl,hlt,p'⟩,?_⟩;rintro x H' ⟨e,q,e1,rfl⟩;subst e;exact hs i q Z _ e1 p
 ·have e:i=kas.length:=by lia
  subst e;exact .inl ⟨⟨hl _ Z H p,rfl⟩,hd Z H p⟩
section
variable {prog:Program} {w:World} {A:Around} {E:Value->Shared->Prop} {s:Shared}
theorem B4c {it l:Addr} {i:Nat} {items:Array Value} {x:Value} {Q:Value->Shared->Prop} (hit:s.heap.IsRevIter it l (i:Int)) (hl:s.heap.IsList l items) (hx:items[i]? =some x)
  (hQ:∀h',h'.IsRevIter it l ((i:Int)-1)->Heap.SameBut it s.heap h'->Q x { s with heap:=h' }):wpAny (model prog w) A (Builtin.SmallTypes.nextOf (.ref it)) Q E s:=by
 obtain ⟨o,ho,hc,hd⟩:=id hit;obtain ⟨ol,hol,_,nl,hdl⟩:=hl;unfold Builtin.SmallTypes.nextOf;refine Z00 (Z1b (name:=Str.ofString "__next__") hit.typeIs F.slot_lri_next (Z1g F.slot_lri_next hit.typeIs F.entry_lri_next ?_ (F.args_lri_next_1 _)));unfold Builtin.«list_reverseiterator.__next__»;refine Z00 (wpAny_of_eq (a:=(Value.ref it,[])) rfl ?_)
 try dsimp only
 refine Z00 (Z11 ho hd (x:=rawInt (i:Int)) rfl (show wpAny _ _ (if (i:Int)<0 then _ else _) _ _ s from ?_));rw [Z0t (by lia)];refine (show wpAny _ _ (field (.ref it) 0 >>= _) _ _ s from Z00 (Z11 ho hd (x:= .ref l) rfl (show wpAny _ _ (seqItems? (.ref l) >>= _) _ _ s from Z00 (Z21 hol hdl ?_))));simp only [Int.toNat_natCast,hx];refine Z00 (Z1t ho hd (by simp) ?_)
 first
 | refine Z04 ⟨x,rfl,Z04 (hQ _ ?_ (Heap.SameBut.update ..))⟩
 | refine Z00 (Z04 (Z04 ⟨x,rfl,Z04 (hQ _ ?_ (Heap.SameBut.update ..))⟩))
 exact ⟨_,Z1r _ ho (Obj.isFreed_of_fields (Obj.data_mapFields hd _)),(Obj.cls_mapFields ..).trans hc,by rw [Obj.data_mapFields hd];simp⟩
theorem B4y {it l:Addr} {Q:Value->Shared->Prop} (hh:A.handled=none) (hit:s.heap.IsRevIter it l (-1))
  (hE:∀h' e,Heap.ExtBut it s.heap h'->(∃o,h'.get? e=some o/\o.cls= .type "StopIteration")->E (.ref e) { s with heap:=h' }):wpAny (model prog w) A (Builtin.SmallTypes.nextOf (.ref it)) Q E s:=by
 obtain ⟨o,ho,hc,hd⟩:=id hit;unfold Builtin.SmallTypes.nextOf;refine Z00 (Z1b (name:=Str.ofString "__next__") hit.typeIs F.slot_lri_next (Z1g F.slot_lri_next hit.typeIs F.entry_lri_next ?_ (F.args_lri_next_1 _)));unfold Builtin.«list_reverseiterator.__next__»;refine Z00 (wpAny_of_eq (a:=(Value.ref it,[])) rfl ?_)
 try dsimp only
 refine Z00 (Z11 ho hd (x:=rawInt (-1)) rfl (show wpAny _ _ (if (-1:Int)<0 then _ else _) _ _ s from ?_));rw [Z12 (by decide)];refine Z00 (wpAny_rule ?_)
 first
 | show wpAny _ _ (newExc (.type "StopIteration") [] >>= _) _ _ _
 | (refine Z00 ?_;show wpAny _ _ (newExc (.type "StopIteration") [] >>= _) _ _ _)
 refine Z00 ?_;simp only [newExc,newTuple];refine Z00 (Z16 ?_ (by size_fits));refine Z00 (m:=firstArgMember _ _) (wpAny_of_eq (a:=Value.none) (by first | rfl | (simp only [firstArgMember];rfl)) (Z16 ?_ (by size_fits)));simp only [raiseNew];refine Z00 (wpAny_handled ?_)
 first | rw [show A.in1.handled=none from hh] | rw [hh]
 refine Z00 (Z04 (wpAny_throw ?_));exact hE _ _ (((Heap.ExtBut.refl _ _).push _).push _) ⟨_,Z0c _ rfl,rfl⟩
end
theorem A7w (it l:Addr) (n:Nat):Nx it l (λk h=>k<=n/\h.IsRevIter it l ((n:Int)-1-(k:Int))) (λxs h=>xs.size=n/\h.IsList l xs.reverse) where
 item:=by
  intro prog w A E s k xs x Q st src hx hQ;obtain ⟨hk,hit⟩:=st;obtain ⟨hs,hl⟩:=src;have hlt:k<n:=by have:=(Z1m.mp hx).1;lia
  have e1:(n:Int)-1-(k:Int)=((n-1-k:Nat):Int):=by lia
  rw [e1] at hit
  have hx':xs.reverse[n-1-k]? =some x:=by
   rw [Array.getElem?_reverse (by lia),hs];rw [show n-1-(n-1-k)=k by lia];exact hx
  refine B4c hit hl hx' λh' hit' sb=>hQ h' ⟨hlt,?_⟩ sb;have e2:((n-1-k:Nat):Int)-1=(n:Int)-1-((k+1:Nat):Int):=by lia
  rw [<-e2];exact hit'
 fin:=by
  intro prog w A E s k xs Q hh st src hx hE;obtain ⟨hk,hit⟩:=st;have hge:n<=k:=by have:=Array.getElem?_eq_none_iff.mp hx;have:=src.1;lia
  have e1:(n:Int)-1-(k:Int)= -1:=by lia
  rw [e1] at hit;exact B4y hh hit hE
 mv:=λx e=>⟨x.1,x.2.at e⟩
 mvS:=λx e=>⟨x.1,x.2.at e⟩
 ob:=λx=>by
  obtain ⟨_,o,e,_,d⟩:=x;exact ⟨o,e,λv z=>by rw [d] at z;cases z⟩
def D3v (n m:Nat) (z TI TO r1 r2 a b:Addr) (i:Nat) (h:Heap):Prop:=IsZip h z TI TO .none/\IsPair h TI (.ref r1) (.ref r2)/\(∃u v,IsPair h TO u v)/\(i<=n/\h.IsRevIter r1 a ((n:Int)-1-(i:Int)))/\(i<=m/\h.IsRevIter r2 b ((m:Int)-1-(i:Int)))
def D8t (K:Frag) (a b:Addr) (n m:Nat):It :=
 ⟨λi H=>∃xs ys x y,SqL K H a xs/\SqL K H b ys/\xs.length=n/\ys.length=m/\xs.reverse[i]? =some x/\ys.reverse[i]? =some y,
  λi H v H'=>∃p,H p=none/\v= .ref p/\∃x y,(∀xs,SqL K H a xs->xs.reverse[i]? =some x)/\(∀ys,SqL K H b ys->ys.reverse[i]? =some y)/\H'=upd H p (.tup [x,y]),
  λi H=>∃xs ys,SqL K H a xs/\SqL K H b ys/\xs.length=n/\ys.length=m/\(n<=i\/m<=i)⟩
theorem E4p {xs:List V} {its:List Value} (h:A2r xs its):A2r xs.reverse its.reverse:=by
 induction h with
 | nil=>exact .nil
 | cons r _ ih =>
  rw [List.reverse_cons,List.reverse_cons]
  have app:∀{a:List V} {b:List Value} {c:List V} {d:List Value},A2r a b->A2r c d->A2r (a++c) (b++d):=λh1 h2=>by
   induction h1 with
   | nil=>exact h2
   | cons r _ ih=>exact .cons r ih
  exact app ih (.cons r .nil)
theorem C6x {P:Program} {w:World} {K:Frag} {elts:List Expr} {kk n m:Nat} {pos:Pos} {z TI TO i1 i2 a b:Addr} (D:ZipApart z TI TO i1 i2 a b) :
  C7a P w K (.Tuple elts kk pos) (D8t K a b n m) [z,TI,TO,i1,i2] z (D3v n m z TI TO i1 i2 a b) where
 mem:=by simp
 obj:=λi h st c hc=>by
  obtain ⟨h1,h2,⟨u,v,h3⟩,h4,h5⟩:=st;walk_at "i"
  ·exact ⟨_,h1,λv z=>by cases (show Data.fields _=Data.cell v from z)⟩
  ·exact ⟨_,h2,λv z=>by cases (show Data.seq _ _=Data.cell v from z)⟩
  ·exact ⟨_,h3,λv z=>by cases (show Data.seq _ _=Data.cell v from z)⟩
  ·exact (A7w _ a n).ob h4
  ·exact (A7w _ b m).ob h5
 keep:=λi h h' st k=>by
  obtain ⟨h1,h2,⟨u,v,h3⟩,h4,h5⟩:=st;exact ⟨k z (by simp) _ h1,k TI (by simp) _ h2,⟨u,v,k TO (by simp) _ h3⟩,(A7w i1 a n).mv h4 λo e=>k i1 (by simp) o e,(A7w i2 b m).mv h5 λo e=>k i2 (by simp) o e⟩
 item:=by
  walk_at "c";obtain ⟨xs,ys,x,y,hq1,hq2,hn,hm,hx,hy⟩:=hg;obtain ⟨its,rv,p1,_⟩:=I.list hq1;obtain ⟨its2,rv2,p2,_⟩:=I.list hq2;obtain ⟨u,hu,ru⟩:=(E4p rv).get hx;obtain ⟨u2,hu2,ru2⟩:=(E4p rv2).get hy;have l1:=rv.length;have l2:=rv2.length;obtain ⟨h1,h2,⟨o1,o2,h3⟩,h4,h5⟩:=st;refine B6s (A7w i1 a n) (A7w i2 b m) D h1 h2 h3 h4 h5 (xs:=its.reverse.toArray) (ys:=its2.reverse.toArray) ⟨by simp;lia,by simpa using p1.isList⟩ ⟨by simp;lia,by simpa using p2.isList⟩ (x:=u) (by simpa using hu) (y:=u2) (by simpa using hu2) λh' z1 z2 z3 z4 z5 kp=> ?_;refine ⟨_,rfl,wpAny_letOwnedTupleGo_zip (s:={ s with heap:=h' }) z1 λg zg sb=> ?_⟩
  have nz:s.heap.objs.size≠z:=Z1q (Z0a h1);have n2:TI<s.heap.objs.size:=Z0a h2;have n3:TO<s.heap.objs.size:=Z0a h3;have n4:i1<s.heap.objs.size:=by obtain ⟨_,e,_⟩:=(A7w i1 a n).ob h4;exact Z0a e
  have n5:i2<s.heap.objs.size:=by obtain ⟨_,e,_⟩:=(A7w i2 b m).ob h5;exact Z0a e
  have zq:IsPair g s.heap.objs.size u u2:=sb.extBut _ _ nz z5
  have I1:Inv X pins Z (upd H s.heap.objs.size (.tup [x,y])) { s with heap:=g,toks:=s.toks }:=I.turnedNew (ts:=[z,TI,TO,i1,i2]) (λc o hc e=>by
   simp only [Z0e,Z1i,or_false,not_or] at hc
   exact sb.extBut _ _ hc.1 (kp c o hc.1 hc.2.2.1 hc.2.2.2.1 hc.2.2.2.2 e)) hf (Z09 _) ⟨by show 2<=sizeLine;decide,[u,u2],.cons ru (.cons ru2 .nil),⟨_,zq,rfl,_,rfl⟩⟩
  refine ⟨.ref s.heap.objs.size,_,I1,rfl,⟨_,I.hok.fresh (Z09 _),rfl,x,y,λzs hz=>by rw [I.list_inj hz hq1];exact hx,λzs hz=>by rw [I.list_inj hz hq2];exact hy,rfl⟩,
   ⟨zg,sb.extBut _ _ D.TIz (kp _ _ D.TIz D.TITO D.TIi1 D.TIi2 h2),⟨_,_,sb.extBut _ _ D.TOz z2⟩,(A7w i1 a n).mv z3 λo e=>sb.extBut _ _ D.i1z e,(A7w i2 b m).mv z4 λo e=>sb.extBut _ _ D.i2z e⟩,λc hc=> ?_⟩
  have hcn:c≠s.heap.objs.size:=by
   walk_at "i"
   ·exact nz.symm
   ·exact Z0h n2
   ·exact Z0h n3
   ·exact Z0h n4
   ·exact Z0h n5
  rw [A0h hcn];exact (hf c hc).1
 done:=by
  walk_at "c";obtain ⟨xs,ys,hq1,hq2,hn,hm,hx⟩:=hg;obtain ⟨its,rv,p1,_⟩:=I.list hq1;obtain ⟨its2,rv2,p2,_⟩:=I.list hq2;have e1:=rv.length;have e2:=rv2.length;obtain ⟨h1,h2,⟨o1,o2,h3⟩,h4,h5⟩:=st;refine C1w (A7w i1 a n) (A7w i2 b m) (I.ok.hd hc) D h1 h2 h3 h4 h5 (xs:=its.reverse.toArray) (ys:=its2.reverse.toArray) ⟨by simp;lia,by simpa using p1.isList⟩ ⟨by simp;lia,by simpa using p2.isList⟩ (by simp;lia) λh' kp=>⟨rfl,?_⟩
  exact I.turnedL (t':=s.toks) (ts:=[z,TI,TO,i1,i2]) (λc o hc e=>by
   simp only [Z0e,Z1i,or_false,not_or] at hc
   exact kp c o hc.1 hc.2.2.1 hc.2.2.2.1 hc.2.2.2.2 e) hf
 self:=λ_ _ _ _ _ st h=>wpAny_pyIter_zip st.1 h
abbrev E2a (h:Heap) (r1 r2:Addr):Heap:=h.push { cls:= .type "tuple",data:= .seq #[.ref r1,.ref r2] }
abbrev E2g (h:Heap) (r1 r2:Addr):Heap:=(E2a h r1 r2).push { cls:= .type "tuple",data:= .seq #[.none,.none] }
abbrev E0y (h:Heap) (r1 r2:Addr):Heap:=(E2g h r1 r2).push { cls:= .type "zip",data:= .fields #[.none,.bool false,.bool false,.ref h.objs.size,.ref (E2a h r1 r2).objs.size] }
theorem C3f (r1 r2 a b:Addr) (i j:Int):Meets (Builtin.«zip.__new__» ⟨[.type "zip",.ref r1,.ref r2],[]⟩) (λ_ R s=>s.heap.IsRevIter r1 a i/\s.heap.IsRevIter r2 b j/\R (.ok (.ret (.ref (E2g s.heap r1 r2).objs.size))) { s with heap:=E0y s.heap r1 r2 }) :=
 .of_wp λprog w A R s h=>by
  obtain ⟨hp,g,d,tk,os⟩:=s;obtain ⟨hl1,hl2,h⟩:=h;have hsub:=sub_zip;have hL1:(Shared.heap ⟨hp,g,d,tk,os⟩).IsRevIter r1 a i:=hl1;have hL2:(Shared.heap ⟨hp,g,d,tk,os⟩).IsRevIter r2 b j:=hl2
  wp_walk using wpAny_pyIter_revIter hL1,wpAny_pyIter_revIter hL2
  exact ⟨_,rfl,h⟩
theorem C6g {prog:Program} {w:World} {A:Around} {E:Value->Shared->Prop} {s:Shared} {r1 r2 a b:Addr} {n m:Nat} {Q:Value->Shared->Prop} (hl1:s.heap.IsRevIter r1 a ((n:Int)-1)) (hl2:s.heap.IsRevIter r2 b ((m:Int)-1))
  (h:∀h',D3v n m (s.heap.objs.size+2) s.heap.objs.size (s.heap.objs.size+1) r1 r2 a b 0 h'->(∀c o,s.heap.get? c=some o->h'.get? c=some o)->Q (.ref (s.heap.objs.size+2)) { s with heap:=h' }) :
  wpAny (model prog w) A (call (.type "zip") [.ref r1,.ref r2]) Q E s:=by
 refine callType_new F.called_zip (by decide) (F.typeCall_zip_2 _ _) (F.newCall_zip_2 _ _) (λobj=>F.args_object_init_3 obj _ _) F.entry_zip_new (C3f r1 r2 a b _ _) ⟨hl1,hl2,?_⟩;have z1:(E2a s.heap r1 r2).objs.size=s.heap.objs.size+1:=Z1s ..;have z2:(E2g s.heap r1 r2).objs.size=s.heap.objs.size+2:=by rw [Z1s,z1]
 have kp:∀c o,s.heap.get? c=some o->(E0y s.heap r1 r2).get? c=some o:=λc o x=>Z01 _ (Z01 _ (Z01 _ x));have q3:(E0y s.heap r1 r2).get? (E2g s.heap r1 r2).objs.size=some _:=Z0c _ rfl;have q2:(E0y s.heap r1 r2).get? (E2a s.heap r1 r2).objs.size=some _:=Z01 _ (Z0c _ rfl);have q1:(E0y s.heap r1 r2).get? s.heap.objs.size=some _:=Z01 _ (Z01 _ (Z0c _ rfl));show _/\_;rw [z1,z2] at q3;rw [z1] at q2;rw [z2];refine ⟨⟨_,q3,rfl⟩,h _ ⟨q3,q1,⟨_,_,q2⟩,⟨Z1e _,?_⟩,⟨Z1e _,?_⟩⟩ kp⟩
 ·have:=hl1.at λo e=>kp _ o e
  simpa using this
 ·have:=hl2.at λo e=>kp _ o e
  simpa using this
def FpX (X:Cx) (b:Addr):Prop:=b≠X.env.locals/\b∉X.fs/\(b∈X.ex\/X.s₀.heap.objs.size<=b)/\∀x c,X.env.cells.lookup x=some c->c≠b
def C6d (r a:Addr) (n:Nat):HO:= .ext λh=>h.IsRevIter r a ((n:Int)-1)
theorem C0w {X:Cx}:B1i X (.type "reversed") (λvs H Q=>∃a xs,vs=[V.ref a]/\SqL X.K H a xs/\∀r,H r=none->FpX X r->Q (.ref r) (upd H r (C6d r a xs.length))):=by
 intro pins s Z H vs us Q I r h;obtain ⟨a,xs,rfl,hq,q⟩:=h;obtain ⟨u,rfl,ru⟩:=B4x r;cases ru;obtain ⟨its,rv,p1,_⟩:=I.list hq;have en:(its.toArray.size:Int)-1=(xs.length:Int)-1:=by rw [Z0g,<-rv.length]
 refine call_reversed_list p1.isList ?_;rw [en];have st:(s.heap.push (revObj a ((xs.length:Int)-1))).IsRevIter s.heap.objs.size a ((xs.length:Int)-1):=⟨_,Z0c _ rfl,rfl,rfl⟩;have fr:=I.hok.fresh (Z09 s.heap.objs.size);obtain ⟨_,f1,f2,f3,f4,_⟩:=I.fpOk (H':=H) (Z09 _) fr;refine ⟨.ref s.heap.objs.size,_,I.laid (a:=s.heap.objs.size) (o:=C6d s.heap.objs.size a xs.length) (t':=s.toks) (λ_ _ q=>Z01 _ q) (Z09 _) ⟨st,⟨_,Z0c _ rfl⟩,?_⟩,rfl,q _ fr ⟨f1,f2,f3,f4⟩⟩;intro g1 g2 z k;exact z.at λo e=>k o e
def E0s (X:Cx) (ta:TA):TI:=λZ H R=>ta Z H λvs H1=>∃r1 r2 a b xs ys,vs=[.ref r1,.ref r2]/\r1≠r2/\FpX X r1/\FpX X r2/\H1 r1=some (C6d r1 a xs.length)/\H1 r2=some (C6d r2 b ys.length)/\SqL X.K H1 a xs/\SqL X.K H1 b ys/\R (D8t X.K a b xs.length ys.length) (A5o (A5o H1 r1) r2)
theorem D3c {X:Cx} {elts:List Expr} {kk:Nat} {tpos:Pos} {a b:Expr} {ta:TA} {p pos:Pos} (hg:Gl X "zip") (hm:X.mg "zip"=none) (ha:PA X [a,b] ta) (hs:starEach [a,b] X.env=[(false,eval a X.env),(false,eval b X.env)]:=by rfl) (hs2:starEach [b] X.env=[(false,eval b X.env)]:=by rfl) :
  PI X (.Tuple elts kk tpos) (.Call (.Name "zip" p) [a,b] [] pos) (E0s X ta):=by
 intro pins s Z H R I h;refine Call_ (A7a I hg hm boot_zip (PyProof.Rows.callWith_type1 (thn (ha pos pins s Z H _ I h) ?_) (by rw [hs,hs2]) (by rw [hs2];rfl)));rintro us s1 ⟨vs,H1,I1,rv,r1,r2,l1,l2,xs,ys,e,ne,fx1,fx2,e1,e2,hq1,hq2,q⟩;subst e;obtain ⟨u,u2,rfl,ru,ru2⟩:=C5r rv;cases ru;cases ru2;obtain ⟨i1,_,_⟩:=(show A2c X.prog X.w H1 s1.heap r1 (C6d r1 l1 xs.length) from I1.hok r1 _ e1);obtain ⟨i2,_,_⟩:=(show A2c X.prog X.w H1 s1.heap r2 (C6d r2 l2 ys.length) from I1.hok r2 _ e2);have i1:s1.heap.IsRevIter r1 l1 ((xs.length:Int)-1):=i1;have i2:s1.heap.IsRevIter r2 l2 ((ys.length:Int)-1):=i2;obtain ⟨its,_,p1,_⟩:=I1.list hq1;obtain ⟨its2,_,p2,_⟩:=I1.list hq2;have t1:l1<s1.heap.objs.size:=ltK (k:=true) p1.isList;have t2:l2<s1.heap.objs.size:=ltK (k:=true) p2.isList;have q1:r1<s1.heap.objs.size:=by obtain ⟨_,e,_⟩:=i1;exact Z0a e
 have q2:r2<s1.heap.objs.size:=by obtain ⟨_,e,_⟩:=i2;exact Z0a e
 have nl:∀{l r c:Addr} {k:Int} {it:List Value},s1.heap.IsList l it.toArray->s1.heap.IsRevIter r c k->l≠r:=λhl hr z=>by
  subst z;obtain ⟨o,e,c,_⟩:=hl;obtain ⟨o',e',c',_⟩:=hr;rw [e] at e';cases e';rw [c] at c';injection c' with c';exact absurd c' (by decide)
 refine C6g i1 i2 λh' zs kp=>wpAny_pyIter_zip zs.1 ?_;have I2:Inv X pins Z H1 { s1 with heap:=h' }:=I1.kept (t':=s1.toks) kp;have I3:=I2.drop e1;have e2':A5o H1 r1 r2=some (C6d r2 l2 ys.length):=by rw [B8b ne.symm];exact e2
 have I4:=I3.drop e2';have lt:∀{x:Addr},x<s1.heap.objs.size->∀k:Nat,x≠s1.heap.objs.size+k:=λh k=>Z0h (Z0q h (Nat.le_add_right _ _));have D:ZipApart (s1.heap.objs.size+2) s1.heap.objs.size (s1.heap.objs.size+1) r1 r2 l1 l2:=⟨Z0h (Nat.lt_add_of_pos_right (by decide)),Z0h (Nat.lt_succ_self _),lt q1 2,lt q2 2,Z0h (Nat.lt_succ_self _),Z1q q1,Z1q q2,(lt q1 1).symm,(lt q2 1).symm,ne,lt t1 2,lt t1 1,nl p1.isList i1,nl p1.isList i2,lt t2 2,lt t2 1,nl p2.isList i1,nl p2.isList i2⟩;have pn:∀{r:Addr} {φ:HO},H1 r=some φ->∀q∈X.pn++pins,q.1≠r:=λe q hq z=>by have:=(I1.pin q hq).2.1;rw [z,e] at this;cases this
 refine ⟨_,[s1.heap.objs.size+2,s1.heap.objs.size,s1.heap.objs.size+1,r1,r2],_,_,_,rfl,I4,C6x D,zs,λc hc=> ?_,q⟩;have n1:A5o (A5o H1 r1) r2 r1=none:=A4u (by unfold A5o;exact Z12 rfl);have n2:A5o (A5o H1 r1) r2 r2=none:=by unfold A5o;exact Z12 rfl
 have new:∀{c:Addr},s1.heap.objs.size<=c->B9l X pins (A5o (A5o H1 r1) r2) c:=λhle=>I1.fpOk hle (A4u (A4u (I1.hok.fresh hle)));walk_at "i"
 ·exact new (Nat.le_add_right _ _)
 ·exact new (Z09 _)
 ·exact new (Nat.le_add_right _ _)
 ·exact ⟨n1,fx1.1,fx1.2.1,fx1.2.2.1,fx1.2.2.2,pn e1⟩
 ·exact ⟨n2,fx2.1,fx2.2.1,fx2.2.2.1,fx2.2.2.2,pn e2⟩
theorem C8p {K:Frag} {a b:Addr} {xs ys:List V} {g:TG} {tb:TS} {D:B6f} {Z:St} {H:Hp} (Pv:Nat->St->Hp->Prop) (h0:Pv 0 Z H) (hl:∀i Z H,Pv i Z H->SqL K H a xs/\SqL K H b ys) (hlen:xs.length=ys.length)
  (hs:∀i x y Z H p,xs.reverse[i]? =some x->ys.reverse[i]? =some y->Pv i Z H->H p=none->g (.ref p) Z (upd H p (.tup [x,y])) λZ2 H2=>tb { D with nx:=Pv (i+1),ct:=Pv (i+1),bk:=D.nx } Z2 H2) (hd:∀Z H,Pv xs.length Z H->D.nx Z H) :
  ∃W:Nat->Nat->St->Hp->Prop,(∃m,W 0 m Z H)/\∀i m Z H,W i m Z H->
   ((D8t K a b xs.length ys.length).stop i H/\D.nx Z H)\/((D8t K a b xs.length ys.length).go i H/\∃N:St->Hp->Prop,(∀Z' H',N Z' H'->∃m',m'<m/\W (i+1) m' Z' H')/\∀x H',(D8t K a b xs.length ys.length).yld i H x H'->g x Z H' λZ2 H2=>tb { D with nx:=N,ct:=N,bk:=D.nx } Z2 H2):=by
 walk_at "e";obtain ⟨q1,q2⟩:=hl i Z H p;by_cases hlt:i<xs.length
 ·have e1:xs.reverse[i]? =some (xs.reverse[i]'(by simpa using hlt)):=Z0b _;have e2:ys.reverse[i]? =some (ys.reverse[i]'(by simp;lia)):=Z0b _;refine .inr ⟨⟨xs,ys,_,_,q1,q2,rfl,rfl,e1,e2⟩,Pv (i+1),λZ' H' p'=>⟨xs.length-(i+1),by lia,rfl,hlt,p'⟩,?_⟩;rintro v H' ⟨c,hc,rfl,x,z,f1,f2,rfl⟩;exact hs i x z Z H c (f1 xs q1) (f2 ys q2) p hc
 ·have e:i=xs.length:=by lia
  subst e;exact .inl ⟨⟨xs,ys,q1,q2,rfl,rfl,.inl (Z09 _)⟩,hd Z H p⟩
section
variable {X:Cx}
theorem Inv.thawU {pins:List (Addr×Obj)} {Z:St} {H:Hp} {s:Shared} {a:Addr} {o:Obj} {u:HO} (I:Inv X pins Z H s) (ha:H a=some (.frz o u)) (h0:∀o' u',X.H₀ a≠some (.frz o' u')):Inv X pins Z (upd H a u) s:=by
 have nf:∀b,H b=none->upd H a u b=none:=λb e=>by rw [A0h (λz=>by subst z;rw [ha] at e;cases e)];exact e
 have nt:∀b xs,H b=some (.tup xs)->upd H a u b=some (.tup xs):=λb xs q=>by rw [A0h (A1g q ha (by intro z;cases z))];exact q
 have no:∀b c,H b=some (.own c)->upd H a u b=some (.own c):=λb c q=>by rw [A0h (A1g q ha (by intro z;cases z))];exact q
 refine ⟨I.ok,I.os,I.bare,⟨I.base.keep,I.base.slot,λb ob e n hx=>nf b (I.base.free b ob e n hx),I.base.there,λb xs e=>nt b xs (I.base.tups b xs e),λb ob u' e=> ?_,λb ps e=> ?_⟩,I.loc,I.cell,nf _ I.free,λx c e=>nf _ (I.freeC x c e),
  λp hp=>⟨(I.pin p hp).1,nf _ (I.pin p hp).2.1,(I.pin p hp).2.2⟩,λb v e=> ?_,I.len⟩
 ·have q:=I.base.frzs b ob u' e;rw [A0h (λz=>by subst z;exact h0 _ _ e)];exact q
 ·obtain ⟨more,q⟩:=I.base.tbls b ps e;exact ⟨more,by rw [A0h (A1g q ha (by intro z;cases z))];exact q⟩
 ·by_cases hb:b=a
  ·subst hb;rw [A0b] at e;cases e;obtain ⟨_,q⟩:=(show A2c X.prog X.w H s.heap b (.frz o u) from I.hok b _ ha);exact q.stay (λ_ _ _ q=>q) (λc q=>no c b q) λc xs q=>nt c xs q
  ·rw [A0h hb] at e;exact (I.hok b v e).stay (λ_ _ _ q=>q) (λc q=>no c b q) λc xs q=>nt c xs q
def E1r (X:Cx) (t:TS):TS:=λD Z H=>∃a o u,H a=some (.frz o u)/\(∀o' u',X.H₀ a≠some (.frz o' u'))/\t D Z (upd H a u)
theorem B3c {sts:List Stmt} {t:TS} (h:PSs X sts t):PSs X sts (E1r X t):=by
 intro pins s Z H D I hw;obtain ⟨a,o,u,ha,h0,q⟩:=hw;exact h pins s Z _ D (I.thawU ha h0) q
end
section
variable {prog:Program} {w:World} {A:Around} {E:Value->Shared->Prop} {s:Shared} {d:Addr} {od:Obj} {es:Array DictEntry} {ep:Nat}
theorem B1r {Q:Value->Shared->Prop} (hn:(d == sysModules)=false) (hod:s.heap.get? d=some od) (hT:s.TypeIs (.ref d) "dict") (hdd:od.data= .dict es ep) (hfit:(es.size:Int)<2^63)
  (h:Q (.int es.size (s.toks+1)) { s with toks:=s.toks+1+1 }):wpAny (model prog w) A (call (.builtin "len") [.ref d]) Q E s:=by
 refine Calls.call_function_entry kind_len plain_len entry_len (args_len1 _) ?_;unfold Builtin.«len»;refine Z00 (m:=oneArg "len" _) (Z04 (Z00 (m:=callSpecial? (.ref d) (Str.ofString "__len__")) (Z1b (name:=Str.ofString "__len__") hT F.slot_dict_len (Z1g F.slot_dict_len hT F.entry_dict_len ?_ (F.args_dict_len_1 _)))));show wpAny _ _ (dictSize d >>= _) _ _ s;unfold dictSize;refine Z00 (Z00 (wpAny_dictEntries hod hdd (Z04 (show wpAny _ _ (Builtin.Dict.pendingCount d >>= _) _ _ s from Z00 (wpAny_pendingCount_other hn (wpAny_ret_mkInt ?_))))));rw [Nat.add_zero];show wpAny _ _ _ _ _ { s with toks:=s.toks+1 };refine Z00 (Z1w (Z04 (Z00 (wpAny_letGo (show wpAny _ _ (if ((es.size:Nat):Int)<0 then _ else _) _ _ _ from ?_)))));rw [Z0t (by lia)];show wpAny _ _ (if ((es.size:Nat):Int)≥2^63 then _ else _) _ _ _;rw [Z0t (by lia)];exact Z00 (wpAny_mkInt (Z04 ⟨_,rfl,h⟩))
end
section
variable {X:Cx}
theorem D0o:B1i X (.builtin "len") (λxs H Q=>∃a sh kvs,xs=[V.ref a]/\A3l X.prog X.w sh H a kvs/\Q (.int kvs.length) H):=by
 intro pins s Z H xs us Q I r h;obtain ⟨a,sh,kvs,rfl,nd,q⟩:=h;obtain ⟨u,rfl,ru⟩:=B4x r;cases ru;obtain ⟨kas,e,hb,_⟩:=nd;obtain ⟨⟨z,hd,ys,rr,o,es,ep,h1,h2,h3,h4,h5⟩,_,_⟩:=(show A2c X.prog X.w H s.heap a (ndV X.prog X.w sh a kas) from I.hok a _ e);have l1:=Paired.length rr;have l2:es.size=ys.length:=by rw [<-Array.length_toList,h4,Z08]
 have l3:kvs.length=es.size:=by rw [<-hb];unfold A8y;rw [Z08];lia
 refine B1r hd h1 ⟨o,h1,h2.1⟩ h3 (by rw [sizeLine_eq] at z;lia) ?_;rw [<-l3];exact ⟨.int kvs.length,H,I.tok _,⟨_,rfl⟩,q⟩
theorem C7o:B1i X (.builtin "len") (λxs H Q=>∃a kvs,xs=[V.ref a]/\H a=some (.dT kvs)/\Q (.int kvs.length) H):=by
 intro pins s Z H xs us Q I r h;obtain ⟨a,kvs,rfl,e,q⟩:=h;obtain ⟨u,rfl,ru⟩:=B4x r;cases ru;obtain ⟨z,hd,ys,rr,o,es,ep,h1,h2,h3,h4,h5⟩:=(show A2c X.prog X.w H s.heap a (.dT kvs) from I.hok a _ e);have l1:=Paired.length rr;have l2:es.size=ys.length:=by rw [<-Array.length_toList,h4,Z08]
 have l3:kvs.length=es.size:=by lia
 refine B1r hd h1 ⟨o,h1,h2.1⟩ h3 (by rw [sizeLine_eq] at z;lia) ?_;rw [<-l3];exact ⟨.int kvs.length,H,I.tok _,⟨_,rfl⟩,q⟩
end
theorem D9u {a:Int} (h: -1<=a):Builtin.Range.rangeSize a (-1) (-1)=a+1:=by
 unfold Builtin.Range.rangeSize;simp only [show¬((-1:Int)>0) by decide,if_false,show (-(-1):Int)=1 from rfl,Int.ediv_one];split <;> lia
theorem E1k {a:Int} (h: -1<=a) (h2:a<=1000000):Builtin.Range.small a (-1) (-1)=true:=by
 have e:=D9u h;unfold Builtin.Range.small;rw [e];simp only [Builtin.Range.rangeFitsLong,Z1x,Bool.or_eq_true,decide_eq_true_eq,beq_iff_eq,show¬((-1:Int)>0) by decide,if_false]
 lia
def E3t (ta:TA):TI:=λZ H R=>ta Z H λvs H1=>∃a:Int,vs=[.int a,.int (-1),.int (-1)]/\-1<=a/\a<=1000000/\R (E0k a (-1) (a+1).toNat) H1
theorem D0c {X:Cx} {tg:Expr} {a b c:Expr} {ta:TA} {p pos:Pos} (hg:Gl X "range") (hm:X.mg "range"=none) (ha:PA X [a,b,c] ta) (hs:starEach [a,b,c] X.env=[(false,eval a X.env),(false,eval b X.env),(false,eval c X.env)]:=by rfl)
  (hs2:starEach [b,c] X.env=[(false,eval b X.env),(false,eval c X.env)]:=by rfl):PI X tg (.Call (.Name "range" p) [a,b,c] [] pos) (E3t ta):=by
 intro pins s Z H R I h;refine Call_ (A7a I hg hm boot_range (PyProof.Rows.callWith_type1 (thn (ha pos pins s Z H _ I h) ?_) (by rw [hs,hs2]) (by rw [hs2];rfl)));rintro us s1 ⟨vs,H1,I1,r1,q1⟩;obtain ⟨i,e,h1,h2,q⟩:=q1;subst e
 cases r1 with
 | cons r rr =>
  cases rr with
  | cons r' rr =>
   cases rr with
   | cons r'' rr =>
    cases rr
    obtain ⟨t,rfl⟩:=r;obtain ⟨t',rfl⟩:=r';obtain ⟨t'',rfl⟩:=r'';refine call_range_3 (by lia) ?_ (.inl (PyProof.noPylong_small (by lia)));have I2:Inv X pins Z H1 { s1 with heap:=s1.heap.push { cls:= .type "range",data:= .fields #[.int i t,.int (-1) t',.int (-1) t''] },toks:=s1.toks }:=I1.kept λb o e=>Z01 _ e
    refine wpAny_pyIter_range (t:=t) (u:=t') (v:=t'') (s:={ s1 with heap:=s1.heap.push { cls:= .type "range",data:= .fields #[.int i t,.int (-1) t',.int (-1) t''] },toks:=s1.toks }) (Z0c _ rfl) (E1k h1 h2) ?_;have e1:i+((0:Nat):Int)*(-1)=i:=by simp
    have e2:(((i+1).toNat:Nat):Int)-((0:Nat):Int)=Builtin.Range.rangeSize i (-1) (-1):=by rw [D9u h1];lia
    refine ⟨_,[(s1.heap.push { cls:= .type "range",data:= .fields #[.int i t,.int (-1) t',.int (-1) t''] }).objs.size],_,_,H1,rfl,I2.kept (t':=s1.toks) λb o e=>Z01 _ e,C2c _ i (-1) _,?_,λb hb=> ?_,q⟩
    ·show IsRangeIter _ _ (i+((0:Nat):Int)*(-1)) _ (-1);rw [e1,e2];exact Z0c _ rfl
    ·have e:b=(s1.heap.push { cls:= .type "range",data:= .fields #[.int i t,.int (-1) t',.int (-1) t''] }).objs.size:=by simpa using hb
     subst e;exact I2.fpOk (Z09 _) (I2.hok.fresh (Z09 _))
def D9q (X:Cx) (td ty:TE):TE:=λZ H Q=>td Z H λx H1=>ty Z H1 λy H2=>∃a b sh o kas k v,x= .ref a/\y= .ref b/\H2 a=some (.frz o (ndV X.prog X.w sh a kas))/\(∀o' u',X.H₀ a≠some (.frz o' u'))/\(∀p∈kas,p.1.map Sum.isLeft=sh/\A2b H2 p.1 p.2.1)/\A2b H2 k b/\k.map Sum.isLeft=sh/\A1y (kas.map λp=>(p.1,p.2.2)) k=some v/\Q v H2
theorem D1l {X:Cx} {o i:Expr} {pos:Pos} {td ty:TE} (hu:X.A.units+9<cLine) (ho:PE X o td) (hi:PE X i ty) (hs:E2h i:=by exact λ_ _=>rfl):PE X (.Subscript o i pos) (D9q X td ty):=by
 walk_at "j";rintro iv s2 ⟨y,H2,I2,ry,a,b,sh,ob,kas,k,v,ex,ey,ha,h0,hall,at',sh',l,q2⟩;subst ex ey;obtain rfl:u=Value.ref a:=rx;obtain rfl:iv=Value.ref b:=ry;have I3:=I2.thawU ha h0;have kp:∀c xs,H2 c=some (.tup xs)->upd H2 a (ndV X.prog X.w sh a kas) c=some (.tup xs):=λc xs e=>by rw [A0h (A1g e ha (by intro z;cases z))];exact e
 have nd:A3l X.prog X.w sh (upd H2 a (ndV X.prog X.w sh a kas)) a (kas.map λp=>(p.1,p.2.2)):=⟨kas,A0b,rfl,λp hp=>⟨(hall p hp).1,(hall p hp).2.keeps kp⟩⟩;refine ⟨nd.typeIs I3,?_⟩;obtain ⟨kas',xs,e,hb,n,z,hd,rel,dd⟩:=nd.at I3.hok;obtain ⟨w',hw,rw'⟩:=B4k.some_of (v:=v) (o:=(atKey xs k).map (·.2)) (by rw [<-l,<-hb];exact rel.val k);obtain ⟨p,hp,hp2⟩:=Z0i.mp hw;refine wpAny_getItem_heap (knd:=A3o X.prog X.w sh) (show X.A.units+1+8<cLine by lia) ⟨sh',(at'.keeps kp).is I3.hok⟩ dd hp ?_;rw [hp2];exact ⟨v,H2,I2.tok _,rw',q2⟩
theorem A6y {g:TG} {tb:TS} {D:B6f} {x:V} {Z:St} {H:Hp} (h:let D':=D;g x Z H λZ2 H2=>tb D' Z2 H2):g x Z H λZ2 H2=>tb D Z2 H2:=h
theorem B9q {g:TG} {te:TE} {N:VK} {x:V} {Z:St} {H:Hp} (h:let N':=N;g x Z H λZ4 H4=>A3b Z Z4/\te Z4 H4 N'):g x Z H λZ4 H4=>A3b Z Z4/\te Z4 H4 N:=h
section
variable {CX:CXT} {P:Program} {w:World} {K:Frag} {mg:Str->Option Value} {base:Heap} {N:List Str} {qual:Str} {scope:Scope} {f:Addr} {cd:Value} {A:Around} {outer:List Env} {s:Shared} {H:Hp} {E:XK}
end
end L2
namespace My
open PySem L2
variable {ix:List (Str×Int)} {e:LnM} {xs ts:List V} {ys ps os nm oy tb:List Str} {a b f p d l ab ln LD:Addr} {c ls:List Int} {n i T m j N:Nat} {cs:List (List Int)} {rows:List LnM} {H H' H2 H0 G G':Hp} {rs:List (Str×List Int)} {fd:FuncData} {x y own:Str} {es:List (Str×List Str)} {o:HO} {P:Program} {w:World} {K:Frag} {v:V} {u:Tm} {A:Adr} {S:Addr->Prop} {kvs lk:List (Key×V)} {lo hi:Int} {M:List Addr} {s:Stp} {L:Str->Int} {r r0:Str×List Int} {sh:List Bool} {W:Str->List (List Int)} {ss:List Stp} {pend:List Nat} {q':Str×List Int->Int×Int}
inductive Op3 | plus | minus | times
inductive Tm
 | num (z:Int) | place (x:Str) | read (a:Str) (ix:List (Str×Int)) | sum (x:Str) (b:Tm) | pair (k:Op3) (l r:Tm) | guard (x:Str) (lo hi:Int) (l r:Tm)
def C1l (e:Str×Int):PyData:= .tuple [.str e.1,.int e.2]
def B1l (ix:List (Str×Int)):PyData:= .list (ix.map C1l)
def dep:Tm->Nat
 | .sum _ b=>dep b+1
 | .pair _ l r=>max (dep l) (dep r)+1
 | .guard _ _ _ l r=>max (dep l) (dep r)+1
 | _=>1
def nod:Tm->Nat
 | .sum _ b=>nod b+1
 | .pair _ l r=>nod l+nod r+1
 | .guard _ _ _ l r=>nod l+nod r+1
 | _=>1
theorem B7j:∀t:Tm,1<=dep t
 | .num z=>by simp [dep]
 | .place x=>by simp [dep]
 | .read a ix=>by simp [dep]
 | .sum x b=>by simp [dep]
 | .pair k l r=>by simp [dep]
 | .guard x lo hi l r=>by simp [dep]
def Axs (A:List Str):Tm->Prop
 | .num _=>True
 | .place x=>x∈A
 | .read _ ix=>∀e∈ix,e.1=""\/e.1∈A
 | .sum x b=>x∈A/\Axs A b
 | .pair _ l r=>Axs A l/\Axs A r
 | .guard x _ _ l r=>x∈A/\Axs A l/\Axs A r
theorem D0y:PyData.depth (B1l ix)<=2:=by
 have h:∀l:List (Str×Int),PyData.depthAll (l.map C1l)<=1:=by
  intro l
  induction l with
  | nil=>simp [PyData.depthAll]
  | cons e r ih=>simp [C1l,PyData.depthAll,PyData.depth] at *;lia
 have:=h ix;simp only [B1l,PyData.depth]
 lia
theorem E1f:cnt (B1l ix)<=1+3*ix.length:=by
 have h:∀l:List (Str×Int),A5k (l.map C1l)<=3*l.length:=by
  intro l
  induction l with
  | nil=>simp [A5k]
  | cons e r ih=>simp only [C1l,A5k,cnt,Z0p,Z0y] at *;lia
 have:=h ix;simp only [B1l,cnt]
 lia
section
variable {G:Hp} {v:V}
theorem D4m {e:Str×Int} (h:Rep G v (C1l e)):∃p,v= .ref p/\G p=some (.tup [.str e.1,.int e.2]):=by
 obtain ⟨p,xs,rfl,q,r⟩:=D6x (show Rep G v (.tuple [.str e.1,.int e.2]) from h);obtain ⟨a,r1,rfl,ha,r⟩:=B9h r;obtain ⟨b,r2,rfl,hb,r⟩:=B9h r;cases D3d r;cases D6q ha;cases C7d hb;exact ⟨p,rfl,q⟩
end
noncomputable def B1g (cs:List (List Int)) (n:Int):List (List Int):=cs.flatMap λc=>(List.range n.toNat).map λ(k:Nat)=>c++[(k:Int)]
def A1e (ls:List Int):List (List Int):=ls.foldl B1g [[]]
def A2n (ls:List Int):Int:=ls.foldl (· * ·) 1
theorem A5x (ls:List Int) (n:Int):A1e (ls++[n])=B1g (A1e ls) n:=by
 unfold A1e;rw [List.foldl_append];rfl
theorem C5k (ls:List Int) (n:Int):A2n (ls++[n])=A2n ls*n:=by
 unfold A2n;rw [List.foldl_append];rfl
theorem A9v (cs:List (List Int)) (n:Int):(B1g cs n).length=cs.length*n.toNat:=by
 induction cs with
 | nil=>simp [B1g]
 | cons c r ih =>
  have:B1g (c::r) n=((List.range n.toNat).map λ(k:Nat)=>c++[(k:Int)])++B1g r n:=by simp [B1g]
  rw [this,Z06,ih,Z08,List.length_range,Z0y,Nat.succ_mul];lia
def A6v (xs ys:List Int):Prop:=∃(j:Nat) (x y:Int),xs[j]? =some x/\ys[j]? =some y/\x<y/\∀i:Nat,i<j->xs[i]? =ys[i]?
theorem A6v.snoc {xs ys:List Int} (h:A6v xs ys) (a b:Int):A6v (xs++[a]) (ys++[b]):=by
 obtain ⟨j,x,y,h1,h2,h3,h4⟩:=h;have l1:j<xs.length:=(Z03.mp h1).1;have l2:j<ys.length:=(Z03.mp h2).1;refine ⟨j,x,y,?_,?_,h3,λi hi=> ?_⟩
 ·rw [Z26 l1];exact h1
 ·rw [Z26 l2];exact h2
 ·rw [Z26 (by lia),Z26 (by lia)];exact h4 i hi
theorem A6v.last (xs:List Int) {a b:Int} (h:a<b):A6v (xs++[a]) (xs++[b]):=by
 refine ⟨xs.length,a,b,by simp,by simp,h,λi hi=> ?_⟩;rw [Z26 hi,Z26 hi]
def Within (c ls:List Int):Prop:=c.length=ls.length/\∀(k:Nat) (x n:Int),c[k]? =some x->ls[k]? =some n->0<=x/\x<n
theorem Within.snoc {n:Int} {k:Nat} (h:Within c ls) (hk:(k:Int)<n):Within (c++[(k:Int)]) (ls++[n]):=by
 obtain ⟨hl,hw⟩:=h;refine ⟨by simp [hl],λi x m hx hm=> ?_⟩;by_cases hi:i<c.length
 ·rw [Z26 hi] at hx;rw [Z26 (by lia)] at hm;exact hw i x m hx hm
 ·have:i=c.length:=by
   have:=(Z03.mp hx).1;simp at this;lia
  subst this;rw [Z1l (Z09 _)] at hx;rw [hl,Z1l (Z09 _)] at hm;simp at hx hm
  lia
theorem C3l {n:Int} (h:c∈B1g cs n):∃b∈cs,∃k:Nat,k<n.toNat/\c=b++[(k:Int)]:=by
 unfold B1g at h;obtain ⟨b,hb,h2⟩:=List.mem_flatMap.mp h;obtain ⟨k,hk,e⟩:=Z2c.mp h2;exact ⟨b,hb,k,List.mem_range.mp hk,e.symm⟩
theorem A6f:∀(ls:List Int),∀c∈A1e ls,Within c ls:=by
 intro ls
 have key:∀(m:Nat) (ls:List Int),ls.length=m->∀c∈A1e ls,Within c ls:=by
  intro m
  induction m with
  | zero =>
   intro ls hl c hc;have:ls=[]:=Z2n.mp hl;subst this;have:c=[]:=by simpa [A1e] using hc
   subst this;exact ⟨rfl,λk x n hx _=>by simp at hx⟩
  | succ m ih =>
   intro ls hl c hc;obtain ⟨init,n,rfl⟩:∃init n,ls=init++[n]:=⟨ls.dropLast,ls.getLast (by intro e;simp [e] at hl),(List.dropLast_concat_getLast _).symm⟩;rw [A5x] at hc;obtain ⟨b,hb,k,hk,rfl⟩:=C3l hc;exact (ih init (by simp at hl;lia) b hb).snoc (by lia)
 exact key _ ls rfl
theorem C2q {n:Int} (h:cs.Pairwise A6v):(B1g cs n).Pairwise A6v:=by
 induction cs with
 | nil=>simp [B1g]
 | cons c r ih =>
  have e:B1g (c::r) n=((List.range n.toNat).map λ(k:Nat)=>c++[(k:Int)])++B1g r n:=by simp [B1g]
  rw [e,List.pairwise_append];obtain ⟨h1,h2⟩:=List.pairwise_cons.mp h;refine ⟨?_,ih h2,λx hx y hy=> ?_⟩
  ·rw [List.pairwise_map];exact List.pairwise_lt_range.imp λ{a b} hab=>A6v.last c (by lia)
  ·obtain ⟨k,_,rfl⟩:=Z2c.mp hx;obtain ⟨b,hb,j,_,rfl⟩:=C3l hy;exact (h1 b hb).snoc _ _
theorem B1t (ls:List Int):(A1e ls).Pairwise A6v:=by
 have key:∀(m:Nat) (ls:List Int),ls.length=m->(A1e ls).Pairwise A6v:=by
  intro m
  induction m with
  | zero =>
   intro ls hl;have:ls=[]:=Z2n.mp hl;subst this;simp [A1e]
  | succ m ih =>
   intro ls hl;obtain ⟨init,n,rfl⟩:∃init n,ls=init++[n]:=⟨ls.dropLast,ls.getLast (by intro e;simp [e] at hl),(List.dropLast_concat_getLast _).symm⟩;rw [A5x];exact C2q (ih init (by simp at hl;lia))
 exact key _ ls rfl
theorem A3a (ls:List Int) (h:∀n∈ls,1<=n):((A1e ls).length:Int)=A2n ls/\1<=A2n ls:=by
 have key:∀(m:Nat) (ls:List Int),ls.length=m->(∀n∈ls,1<=n)->((A1e ls).length:Int)=A2n ls/\1<=A2n ls:=by
  intro m
  induction m with
  | zero =>
   intro ls hl _;have:ls=[]:=Z2n.mp hl;subst this;simp [A1e,A2n]
  | succ m ih =>
   intro ls hl hp;obtain ⟨init,n,rfl⟩:∃init n,ls=init++[n]:=⟨ls.dropLast,ls.getLast (by intro e;simp [e] at hl),(List.dropLast_concat_getLast _).symm⟩;obtain ⟨h1,h2⟩:=ih init (by simp at hl;lia) λn hn=>hp n (by simp [hn]);have h3:1<=n:=hp n (by simp);rw [A5x,C5k,A9v];have e:((n.toNat:Nat):Int)=n:=by lia
   refine ⟨by rw [Int.natCast_mul,h1,e],?_⟩;have:=Int.mul_le_mul h2 h3 (by lia) (by lia)
   simpa using this
 exact key _ ls rfl h
structure B4n (ls:List Int):Prop where
 pos:∀n∈ls,1<=n/\n<=60
 few:ls.length<=8
 most:A2n ls<=4000
theorem B1x (ls:List Int) (h:∀n∈ls,1<=n) (i:Nat):1<=A2n (ls.take i)/\A2n (ls.take i)<=A2n ls:=by
 have a:=(A3a (ls.take i) λn hn=>h n (Z2p hn)).2;refine ⟨a,?_⟩;have b:=(A3a (ls.drop i) λn hn=>h n (List.mem_of_mem_drop hn)).2
 have gen:∀(ys:List Int) (x:Int),ys.foldl (· * ·) x=x*A2n ys:=by
  intro ys
  induction ys with
  | nil=>intro x;simp [A2n]
  | cons y r ih=>intro x;simp only [A2n,List.foldl_cons] at ih⊢;rw [ih,ih (1*y),Int.one_mul,Int.mul_assoc]
 have e:A2n ls=A2n (ls.take i)*A2n (ls.drop i):=by
  have:=gen (ls.drop i) (A2n (ls.take i));rw [<-this];unfold A2n;rw [<-List.foldl_append,Z2e]
 rw [e];have:=Int.mul_le_mul_of_nonneg_left b (show (0:Int)<=A2n (ls.take i) by lia)
 simpa using this
theorem A7v {n:Int} (h:ls[i]? =some n):A1e (ls.take (i+1))=B1g (A1e (ls.take i)) n:=by
 rw [Z14,h];exact A5x _ _
def prR:List Int->Int
 | []=>1
 | n::r=>n*prR r
theorem C9y (ls:List Int):∀a:Int,ls.foldl (· * ·) a=a*prR ls:=by
 induction ls with
 | nil=>intro a;simp [prR]
 | cons n r ih=>intro a;rw [List.foldl_cons,ih,prR,Int.mul_assoc]
theorem B7z (ls:List Int):A2n ls=prR ls:=by
 unfold A2n;rw [C9y,Int.one_mul]
structure Rw where
 own:List Str
 sums:List Str
 so:List Int
 ss:List Int
abbrev Stp:=Int×Str×List Int×List Int
def A1j (k:Int) (ss:List Int) (c:List Int):List Stp:=if ss=[] then [(k,"set",c,[])] else (k,"start",c,[])::(A1e ss).map λu=>(k,"add",c,u)
def A4h (k:Int) (e:Rw):List Stp:=(A1e e.so).flatMap (A1j k e.ss)
def A9l (rows:List Rw) (k:Nat):List Stp:=match rows[k]? with
 | some e=>A4h k e
 | none=>[]
def A1f (rows:List Rw) (i:Nat):List Stp:=(List.range i).flatMap (A9l rows)
theorem B3m {rows:List Rw} {e:Rw} (h:rows[i]? =some e):A1f rows (i+1)=A1f rows i++A4h i e:=by
 unfold A1f;rw [List.range_succ,List.flatMap_append,List.flatMap_singleton];unfold A9l;rw [h]
theorem B7y {α β:Type} {f:α->List β} {B:Nat}:∀{l:List α},(∀x∈l,(f x).length<=B)->(l.flatMap f).length<=l.length*B
 | [],_=>by simp
 | x::r,h=>by
  have h1:=h x (.head _);have h2:=B7y (l:=r) λy hy=>h y (.tail _ hy);rw [List.flatMap_cons,Z06,Z0y,Nat.add_mul]
  lia
structure C4r (e:Rw):Prop where
 go:B4n e.so
 gs:B4n e.ss
 po:A2n e.so<=60
 ps:A2n e.ss<=60
 lo:e.own.length=e.so.length
 ls:e.sums.length=e.ss.length
theorem C4r.cells {e:Rw} (h:C4r e):(A1e e.so).length<=60/\(A1e e.ss).length<=60:=by
 have h1:=(A3a e.so λn hn=>(h.go.pos n hn).1).1;have h2:=(A3a e.ss λn hn=>(h.gs.pos n hn).1).1;have:=h.po;have:=h.ps
 lia
theorem C1p {k:Int} {e:Rw} (h:C4r e) (c:List Int):(A1j k e.ss c).length<=61:=by
 have:=h.cells.2;unfold A1j;split
 ·simp
 ·simp;lia
theorem C9d {k:Int} {e:Rw} (h:C4r e):(A4h k e).length<=3660:=by
 have h1:=B7y (l:=A1e e.so) (f:=A1j k e.ss) (B:=61) λc _=>C1p h c;have h2:=h.cells.1;have:(A1e e.so).length*61<=60*61:=Nat.mul_le_mul_right _ h2;unfold A4h
 lia
theorem C0s {k:Int} {e:Rw} (h:C4r e) (j:Nat):(((A1e e.so).take j).flatMap (A1j k e.ss)).length<=3660:=by
 have h1:=B7y (l:=(A1e e.so).take j) (f:=A1j k e.ss) (B:=61) λc _=>C1p h c;have h2:=h.cells.1;have h3:((A1e e.so).take j).length<=60:=by rw [Z0x];lia
 have:((A1e e.so).take j).length*61<=60*61:=Nat.mul_le_mul_right _ h3
 lia
theorem A9f {rows:List Rw} (h:∀e∈rows,C4r e) (i:Nat):(A1f rows i).length<=i*3660:=by
 have:=B7y (l:=List.range i) (f:=A9l rows) (B:=3660) λk _=>by
  unfold A9l;split
  ·rename_i e he;exact C9d (h e (Z13 he))
  ·simp
 rw [List.length_range] at this;exact this
def A8d (f:Str->Int) (ix:List (Str×Int)):List Int:=ix.map λ(e:Str×Int)=>if e.1=("":Str) then e.2 else f e.1+e.2
def setA (f:Str->Int) (x:Str) (k:Int):Str->Int:=λy=>if y=x then k else f y
def rd (len:Str->Int):Tm->(Str->Int)->List (Str×List Int)
 | .num _,_=>[]
 | .place _,_=>[]
 | .read a ix,f=>[(a,A8d f ix)]
 | .sum x b,f=>(List.range (len x).toNat).flatMap λ(k:Nat)=>rd len b (setA f x (k:Int))
 | .pair _ l r,f=>rd len l f++rd len r f
 | .guard x lo hi l r,f=>if lo<=f x/\f x<hi then rd len l f else rd len r f
def Fv:Tm->Str->Prop
 | .num _,_=>False
 | .place x,y=>y=x
 | .read _ ix,y=>y≠""/\∃e∈ix,e.1=y
 | .sum x b,y=>y≠x/\Fv b y
 | .pair _ l r,y=>Fv l y\/Fv r y
 | .guard x _ _ l r,y=>y=x\/Fv l y\/Fv r y
def ai (kvs:List (Key×V)) (x:Str):Int:=match A1y kvs (Sum.inr x) with | some (.int i)=>i | _=>0
def E2d (kvs:List (Key×V)) (t:Tm):Prop:=∀x,Fv t x->A1y kvs (Sum.inr x)=some (.int (ai kvs x))
def E0g (A:List Str) (lk:List (Key×V)):Prop:=∀x∈A,A1y lk (Sum.inr x)=some (.int (ai lk x))/\1<=ai lk x/\ai lk x<=60
def D8a (H:Hp) (v:V) (e:Str×List Int):Prop:=∃p q,v= .ref p/\H p=some (.tup [.str e.1,.ref q])/\H q=some (.tup (e.2.map V.int))
def Rds (H:Hp):List V->List (Str×List Int)->Prop:=Paired (D8a H)
theorem Rds.keep {vs:List V} (h:Rds H vs rs) (f:∀p xs,H p=some (.tup xs)->H' p=some (.tup xs)):Rds H' vs rs :=
 Paired.mapP h (by rintro _ _ ⟨p,q,e,h1,h2⟩;exact ⟨p,q,e,f _ _ h1,f _ _ h2⟩)
theorem Rds.same {vs:List V} (h:Rds H vs rs) (s:A0r H H'):Rds H' vs rs:=h.keep λ_ _ e=>s _ _ e
theorem Paired.app {α β:Type} {F:α->β->Prop}:∀{a c:List α} {b d:List β},Paired F a b->Paired F c d->Paired F (a++c) (b++d)
 | _,_,_,_,.nil,h=>h
 | _,_,_,_,.cons r t,h=> .cons r (Paired.app t h)
def top (i:Nat):Stmt:=PySem.Challenge.pw_arrayloom_k62_lives.main.body.getD i (.Pass ⟨0,0,0,0⟩)
abbrev B1e:Stmt:=top 2
abbrev A8l:Stmt:=top 3
abbrev B8f:Stmt:=top 5
abbrev A7s:Stmt:=top 6
abbrev A5u:Stmt:=top 8
abbrev A7h:Stmt:=top 9
abbrev A7r:Stmt:=top 11
abbrev A5t:Stmt:=top 12
abbrev B4f:Stmt:=top 14
abbrev A8i:Stmt:=top 15
abbrev A6o:Stmt:=top 17
abbrev A6a:Stmt:=top 18
abbrev A9u:Stmt:=top 19
abbrev B0v:Stmt:=top 21
abbrev A9o:Stmt:=top 22
abbrev B1b:Stmt:=top 23
abbrev A9t:Stmt:=A4d (top 25) 0
abbrev A8g:Stmt:=A4d (top 26) 0
abbrev A7m:Stmt:=A4d (top 29) 0
abbrev A6u:Stmt:=A4d (top 29) 2
abbrev A8s:Stmt:=A4d (top 30) 0
abbrev A7o:Stmt:=A4d (top 30) 2
abbrev A9y:Stmt:=A4d (top 31) 0
abbrev A6t:Stmt:=A4d (top 31) 1
abbrev A8t:Stmt:=A4d (top 31) 3
abbrev B1a:Stmt:=top 32
abbrev B0b:Stmt:=A4d (top 33) 0
abbrev A8f:Stmt:=A4d (top 33) 2
abbrev A8v:Stmt:=A4d (top 37) 0
abbrev A5w:Stmt:=A4d (top 37) 1
abbrev A4r:Stmt:=A4d (top 37) 3
abbrev A7p:Stmt:=A4d (top 37) 5
abbrev B6t:Stmt:=top 39
abbrev B8i:Stmt:=top 40
abbrev B6u:Stmt:=top 41
abbrev B3w:Stmt:=top 42
abbrev B7p:Stmt:=top 43
abbrev B3t:Stmt:=top 44
abbrev B6v:Stmt:=top 45
abbrev B3d:Stmt:=top 46
abbrev B3o:Stmt:=top 47
abbrev B6l:Stmt:=top 48
abbrev B1k:Stmt:=top 49
abbrev B2s:Stmt:=top 50
abbrev B2v:Stmt:=top 51
abbrev B4j:Stmt:=top 52
abbrev B2r:Stmt:=top 53
abbrev B3a:Stmt:=top 54
abbrev B3z:Stmt:=top 55
abbrev B3y:Stmt:=top 56
abbrev C1u:Stmt:=top 57
abbrev B7l:Stmt:=top 58
abbrev B7a:Stmt:=top 59
abbrev D1p:Stmt:=top 60
structure TyC (K:Frag) (C:Addr):Prop where
 ha:findIn K (.ref C) "__class__"=some (some (.builtin "object.__class__"))
 hn:specialIn K (.builtin "object.__class__") "__get__"=some (some (.builtin "getset_descriptor.__get__"))
 htk:takesIn K (.builtin "object.__class__")=some true
 hm:mroIn K C (.type "object")=some true
abbrev C4j:List Str:=["value"]
abbrev D8e:List Str:=["axes","lengths"]
abbrev E4a:List Str:=["number","line","cell","turns"]
abbrev D8h:List Str:=["cloth","step"]
abbrev D8g:List Str:=["cloth","steps"]
abbrev E3e:List Str:=["self","name","axes","sums","term"]
abbrev E3v:List Str:=["self","wheel","lengths","arrays","tables","lines","outs"]
abbrev B5n:List Str:=["self","at","lengths"]
abbrev E3f:List Str:=["self","array","indexes"]
abbrev D2h:List Str:=["self","at"]
abbrev D6t:List Str:=["axis","shift","at"]
abbrev D7m:List Str:=["self","left","right"]
abbrev D6r:List Str:=["self","axis","low","high","inner","outer"]
abbrev D6v:List Str:=["_law_cell_here","_law_names"]
abbrev C6i:List Str:=["_law_axes_here","_law_lengths"]
abbrev D6e:List Str:=["_law_rest","_law_about_here","_law_bound"]
abbrev C5b:List Str:=["_law_rest","_law_about_here","_law_bound","_law_deep"]
abbrev B9b:List Str:=["_law_tree"]
abbrev D2q:List Str:=["_law_tree","_law_at"]
abbrev D6u:List Str:=["_law_rest","_law_about_here","_law_names","_law_name"]
abbrev D5b:List Str:=["_law_cell_here","_law_many_here"]
abbrev D5x:List Str:=["_law_script","_law_most"]
abbrev C6v:List Str:=["_law_about_here"]
abbrev D7h:List Str:=["_law_about_here","_law_step"]
abbrev D7o:List Str:=["_law_k","_law_steps_here","_law_looks_here","_law_names","_law_left"]
abbrev D4x:List Str:=["_law_about_here","_law_steps_here","_law_looks_here","_law_cell_here"]
abbrev D5y:List Str:=["_law_about_here","_law_steps_here","_law_looks_here"]
abbrev D6a:List Str:=["_law_about_here","_law_order_here","_law_marks_here"]
abbrev D7g:List Str:=["_law_found","_law_due_here"]
abbrev D6o:List Str:=["_law_about_here","_law_cloth_here","_law_order_here","_law_marks_here"]
set_option genInjectivity false in
set_option genSizeOf false in
structure Adr where
 am:Addr
 ag:Addr
 oA:Addr
 cj:Addr
 dm:Addr
 bc:Addr
 oB:Addr
 fg:Addr
 cm:Addr
 cv:Addr
 aq:Addr
 mr:Addr
 mi:FuncData
 lh:Addr
 km:FuncData
 df:Addr
 di:FuncData
 br:Addr
 bt:FuncData
 j8:Addr
 ja:FuncData
 j_:Addr
 jt:FuncData
 jr:Addr
 jy:FuncData
 j1:Addr
 j7:FuncData
 mF:Addr
 mL:FuncData
 ko:Addr
 lx:FuncData
 jn:Addr
 jc:FuncData
 j6:Addr
 j0:FuncData
 m5:Addr
 lZ:FuncData
 mq:Addr
 mw:FuncData
 md:Addr
 lV:FuncData
 me:Addr
 mf:FuncData
 iu:Addr
 m6:FuncData
 i6:Addr
 lu:FuncData
 gh:Addr
 jq:FuncData
 cg:Addr
 e_:FuncData
 ib:Addr
 ku:FuncData
 de:Addr
 gg:FuncData
 ir:Addr
 m9:FuncData
 cf:Addr
 fi:FuncData
 dw:Addr
 i3:FuncData
 mt:Addr
 mn:FuncData
 cn:Addr
 lW:FuncData
 be:Addr
 h_:FuncData
 i4:Addr
 k_:FuncData
 b_:Addr
 e8:FuncData
 bm:Addr
 cr:FuncData
 cx:Addr
 ge:FuncData
 mY:Addr
 mV:FuncData
 nr:Addr
 mX:FuncData
 mW:Addr
 nA:FuncData
 mR:Addr
 mO:FuncData
 nh:Addr
 mZ:FuncData
 fu:Addr
 f_:FuncData
 m7:Addr
 l_:FuncData
 kh:Addr
 ke:FuncData
 kg:Addr
 kj:FuncData
 nD:Addr
 mU:FuncData
 mj:Addr
 ml:FuncData
 mC:Addr
 my:FuncData
 mH:Addr
 mG:FuncData
 mI:Addr
 mM:FuncData
 mD:Addr
 mB:FuncData
 mK:Addr
 mP:FuncData
 mE:Addr
 mQ:FuncData
 mJ:Addr
 mN:FuncData
 nP:Addr
 nQ:FuncData
 nw:Addr
 mT:FuncData
 m_:Addr
 nj:FuncData
 oj:Addr
 ow:FuncData
structure FQ (K:Frag) (mg:Str->Option Value) (x q:Str) (st:Stmt) (f:Addr) (fd:FuncData) (ps:List Str):Prop where
 F:Fun K x q st f fd
 m:mg x=some (.ref f)
 b:B0z K fd ps []
structure FM (K:Frag) (x q:Str) (st:Stmt) (f:Addr) (fd:FuncData) (ps:List Str):Prop where
 F:Fun K x q st f fd
 b:B0z K fd ps []
structure Txt (K:Frag) (mg:Str->Option Value) (t:Adr):Prop where
 gy:FQ K mg "cells_of" "cells_of" B1e t.mr t.mi ["lengths"]
 dy:FQ K mg "lengthened" "lengthened" A8l t.lh t.km ["cells","length"]
 ae:FQ K mg "copied" "copied" B8f t.df t.di C4j
 a_:FQ K mg "copied_dict" "copied_dict" A7s t.br t.bt C4j
 bv:FQ K mg "lengths_along" "lengths_along" A5u t.j8 t.ja D8e
 ba:FQ K mg "cells_along" "cells_along" A7h t.j_ t.jt D8e
 cy:FQ K mg "first_order" "first_order" A7r t.jr t.jy ["cloth"]
 bw:FQ K mg "steps_of_cell" "steps_of_cell" A5t t.j1 t.j7 E4a
 fw:FQ K mg "read_by" "read_by" B4f t.mF t.mL D8h
 bj:FQ K mg "written_by" "written_by" A8i t.ko t.lx D8h
 ci:FQ K mg "wanted_cells" "wanted_cells" A6o t.jn t.jc ["cloth"]
 bg:FQ K mg "cells_of_outs" "cells_of_outs" A6a t.j6 t.j0 ["cloth"]
 eh:FQ K mg "by_arrays" "by_arrays" A9u t.m5 t.lZ ["cloth","found"]
 gq:FQ K mg "lives_of" "lives_of" B0v t.mq t.mw D8g
 ef:FQ K mg "firsts_of" "firsts_of" A9o t.md t.lV D8g
 gr:FQ K mg "lasts_of" "lasts_of" B1b t.me t.mf ["cloth","steps","wanted"]
 fb:FM K "__init__" "Line.__init__" A9t t.iu t.m6 E3e
 dl:FM K "__init__" "Cloth.__init__" A8g t.i6 t.lu E3v
 c_:FM K "__init__" "Number.__init__" A7m t.gh t.jq ["self","number"]
 fc:FM K "reads" "Number.reads" A6u t.cg t.e_ B5n
 dz:FM K "__init__" "Place.__init__" A8s t.ib t.ku ["self","axis"]
 gl:FM K "reads" "Place.reads" A7o t.de t.gg B5n
 fj:FM K "__init__" "Read.__init__" A9y t.ir t.m9 E3f
 c9:FM K "cell_at" "Read.cell_at" A6t t.cf t.fi D2h
 i9:FM K "reads" "Read.reads" A8t t.dw t.i3 B5n
 g_:FQ K mg "index_at" "index_at" B1a t.mt t.mn D6t
 bu:FM K "__init__" "Pair.__init__" B0b t.cn t.lW D7m
 i0:FM K "reads" "Pair.reads" A8f t.be t.h_ B5n
 dq:FM K "__init__" "Guard.__init__" A8v t.i4 t.k_ D6r
 c6:FM K "lets_in" "Guard.lets_in" A5w t.b_ t.e8 D2h
 bi:FM K "looked_at" "Guard.looked_at" A4r t.bm t.cr D2h
 gj:FM K "reads" "Guard.reads" A7p t.cx t.ge B5n
 bd:FQ K mg "_law_cell" "_law_cell" B6t t.mY t.mV ["_law_rest"]
 i7:FQ K mg "_law_axes" "_law_axes" B8i t.nr t.mX D6v
 dg:FQ K mg "_law_many" "_law_many" B6u t.mW t.nA C6i
 dj:FQ K mg "_law_cells" "_law_cells" B3w t.mR t.mO C6i
 jo:FQ K mg "_law_read" "_law_read" B7p t.nh t.mZ D6e
 fq:FQ K mg "_law_grown" "_law_grown" B3t t.fu t.f_ C5b
 dh:FQ K mg "_law_made" "_law_made" B6v t.m7 t.l_ B9b
 bq:FQ K mg "_law_parts" "_law_parts" B3d t.kh t.ke B9b
 c8:FQ K mg "_law_reads" "_law_reads" B3o t.kg t.kj D2q
 ji:FQ K mg "_law_line" "_law_line" B6l t.nD t.mU D6u
 gx:FQ K mg "_law_digits" "_law_digits" B1k t.mj t.ml D5b
 ij:FQ K mg "_law_about" "_law_about" B2s t.mC t.my D5x
 ip:FQ K mg "_law_cloth" "_law_cloth" B2v t.mH t.mG C6v
 ie:FQ K mg "_law_steps" "_law_steps" B4j t.mI t.mM C6v
 ft:FQ K mg "_law_looks" "_law_looks" B2r t.mD t.mB D7h
 im:FQ K mg "_law_ready" "_law_ready" B3a t.mK t.mP D7o
 ii:FQ K mg "_law_order" "_law_order" B3z t.mE t.mQ D4x
 ik:FQ K mg "_law_marks" "_law_marks" B3y t.mJ t.mN D5y
 kz:FQ K mg "_law_due" "_law_due" C1u t.nP t.nQ D6a
 jj:FQ K mg "_law_life" "_law_life" B7l t.nw t.mT D7g
 je:FQ K mg "_law_told" "_law_told" B7a t.m_ t.nj D6o
 nV:FQ K mg "law" "law" D1p t.oj t.ow ["_law_script"]
 n_:mg "Line"=some (.ref t.am)
 nR:mg "Cloth"=some (.ref t.ag)
 nI:mg "Number"=some (.ref t.cj)
 nT:mg "Place"=some (.ref t.dm)
 nZ:mg "Read"=some (.ref t.bc)
 nY:mg "Plus"=some (.ref t.fg)
 nJ:mg "Minus"=some (.ref t.cm)
 nK:mg "Times"=some (.ref t.cv)
 nO:mg "Guard"=some (.ref t.aq)
 aj:Cls K t.ag
 ng:Mk K t.ag t.i6
 jm:A1z K t.ag "wheel"
 ao:A1z K t.ag "lengths"
 bx:A1z K t.ag "arrays"
 iw:A1z K t.ag "tables"
 bh:A1z K t.ag "lines"
 ga:A1z K t.ag "outs"
 oh:TyC K t.ag
 aw:Cls K t.aq
 nF:Mk K t.aq t.i4
 gb:A1z K t.aq "axis"
 i5:A1z K t.aq "low"
 gi:A1z K t.aq "high"
 fk:A1z K t.aq "inner"
 ff:A1z K t.aq "outer"
 ig:C4k K t.aq "lets_in" t.b_
 gw:C4k K t.aq "looked_at" t.bm
 jk:C4k K t.aq "reads" t.cx
 on:TyC K t.aq
 bf:Cls K t.am
 nM:Mk K t.am t.iu
 i8:A1z K t.am "name"
 dt:A1z K t.am "axes"
 c7:A1z K t.am "sums"
 ia:A1z K t.am "term"
 jb:TyC K t.am
 kr:mroIn K t.am (.type "list")=some false
 kc:mroIn K t.am (.type "tuple")=some false
 lg:mroIn K t.am (.type "dict")=some false
 nB:Cls K t.cm
 nG:Mk K t.cm t.cn
 ka:A1z K t.cm "left"
 jd:A1z K t.cm "right"
 jp:C4k K t.cm "reads" t.be
 oo:TyC K t.cm
 kd:Cls K t.cj
 mS:Mk K t.cj t.gh
 iq:A1z K t.cj "number"
 i_:C4k K t.cj "reads" t.cg
 og:TyC K t.cj
 lX:Cls K t.dm
 nu:Mk K t.dm t.ib
 ju:A1z K t.dm "axis"
 jh:C4k K t.dm "reads" t.de
 oq:TyC K t.dm
 nL:Cls K t.fg
 nN:Mk K t.fg t.cn
 lj:A1z K t.fg "left"
 jv:A1z K t.fg "right"
 jx:C4k K t.fg "reads" t.be
 oz:TyC K t.fg
 fm:Cls K t.bc
 nS:Mk K t.bc t.ir
 g9:A1z K t.bc "array"
 e7:A1z K t.bc "indexes"
 j9:C4k K t.bc "cell_at" t.cf
 jz:C4k K t.bc "reads" t.dw
 ox:TyC K t.bc
 n6:Cls K t.cv
 nE:Mk K t.cv t.cn
 jw:A1z K t.cv "left"
 jf:A1z K t.cv "right"
 jg:C4k K t.cv "reads" t.be
 ot:TyC K t.cv
 bo:mg "range"=none
 aa:mg "isinstance"=none
 d_:mg "list"=none
 bn:mg "tuple"=none
 gv:mg "dict"=none
 fh:mg "enumerate"=none
 au:mg "len"=none
 mx:mg "zip"=none
 gn:mg "reversed"=none
 nW:mg "min"=none
 nU:mg "max"=none
 lY:mg "sum"=none
 nX:mg "bool"=none
 om:mg "int"=none
abbrev FO (P:Program) (w:World) (base:Heap) {K:Frag} {mg:Str->Option Value} {x q:Str} {st:Stmt} {f:Addr} {fd:FuncData} {ps:List Str} (_:FQ K mg x q st f fd ps) (n:Nat) (sp:Sp):Prop:=A4q P w K mg base CX0 n f fd ps sp
abbrev FP (P:Program) (w:World) (mg:Str->Option Value) (base:Heap) {K:Frag} {x q:Str} {st:Stmt} {f:Addr} {fd:FuncData} {ps:List Str} (_:FM K x q st f fd ps) (n:Nat) (sp:Sp):Prop:=A4q P w K mg base CX0 n f fd ps sp
theorem pcl {X:Cx} {k k2:Nat} {sp:Sp} {q:Str} {st:Stmt} {e:Expr} {es:List Expr} {t:TA} {p pos:Pos} (F:A4q X.prog X.w X.K X.mg X.base CX0 k f fd ps sp) (hr:B0y k2 X.A) (Zz:FQ X.K X.mg x q st f fd ps) (ha:PA X (e::es) t) (hk:k<=k2:=by lia) (hg:Gl X x:=by rfl) (hdb:(x == ("__debug__":Str))=false:=by decide) (he:starEach (e::es) X.env=(false,eval e X.env)::starEach es X.env:=by rfl) (hpl:(backTo pos (starEach es X.env)).any (·.1)=false:=by rfl):PE X (.Call (.Name x p) (e::es) [] pos) (E1h sp [] E0 t):=D6d F (hr.mono hk) hg Zz.m Zz.F.kp Zz.b .nil D6f ha hdb he hpl
theorem pmk {X:Cx} {C:Addr} {k k2:Nat} {sp:Sp} {e:Expr} {es:List Expr} {t:TA} {p pos:Pos} (M:Mk X.K C f) (F:A4q X.prog X.w X.K X.mg X.base CX0 k f fd ps sp) (hr:B0y k2 X.A) (hm:X.mg x=some (.ref C)) (hb:B0z X.K fd ps []) (ha:PA X (e::es) t) (hk:k+1<=k2:=by lia) (hg:Gl X x:=by rfl) (hdb:(x == ("__debug__":Str))=false:=by decide) (he:starEach (e::es) X.env=(false,eval e X.env)::starEach es X.env:=by rfl) (hpl:(backTo pos (starEach es X.env)).any (·.1)=false:=by rfl):PE X (.Call (.Name x p) (e::es) [] pos) (D9n C sp [] E0 t):=D7f M F (hr.mono hk) hg hm hb .nil D6f ha hdb he hpl
theorem A0y (h:Nat.ble n 1000000=true):n<=sizeLine:=A2o (Nat.le_of_ble_eq_true h)
theorem E3a:(0:Int)<13:=by decide
theorem E2s:(0:Int)<15:=by decide
theorem E2f:(0:Int)<2:=by decide
theorem E3g:(0:Int)<3:=by decide
theorem D8f:(0:Int)<4:=by decide
theorem E3i:(0:Int)<5:=by decide
theorem z_60:(0:Int)<6:=by decide
theorem z_70:(0:Int)<7:=by decide
theorem nH {x:Addr} (h:H x=none):∃H',A0r H H'/\H' x=some o/\upd H x o=H':=⟨_,A0e h,A0b,rfl⟩
abbrev Sro (a:Addr):Option V:=some (.ref a)
abbrev Sio (a:Int):Option V:=some (.int a)
abbrev Sso (a:Str):Option V:=some (.str a)
abbrev Sbo (a:Bool):Option V:=some (.bl a)
local macro_rules | `(tactic| walk_at "ix") => `(tactic| first | exact Or.inl rfl | exact Or.inr rfl | (simp [relabel]; rfl) | (with_unfolding_all exact Or.inl rfl) | (with_unfolding_all exact Or.inr rfl) | (with_unfolding_all decide))
local macro_rules | `(tactic| walk_at "sc") => `(tactic| exact ⟨rfl, rfl, rfl, by decide +kernel, rfl, by decide +kernel, by decide +kernel⟩)
local macro_rules | `(tactic| walk_at "ln") => `(tactic| (intro _ _ _ _ h; first | (cases h; subst_vars; rfl) | ((repeat (obtain ⟨_, h⟩ := h)); subst_vars; rfl)))
theorem A7j:A0w ["lengths","cells","length"] ["lengths"] (A0l B1e):=by walk_at "sc"
theorem A5m:A0w ["cells","length","longer","cell","number"] ["cells","length"] (A0l A8l):=by walk_at "sc"
theorem B0o:A0w C4j ["value"] (A0l B8f):=by walk_at "sc"
theorem A5c:A0w ["value","fresh","key","member"] C4j (A0l A7s):=by walk_at "sc"
theorem B2d:A0w D8e ["axes","lengths"] (A0l A5u):=by walk_at "sc"
theorem B5e:A0w D8e ["axes","lengths"] (A0l A7h):=by walk_at "sc"
theorem A3k:A0w ["cloth","steps","number","line","turns","cell"] ["cloth"] (A0l A7r):=by walk_at "sc"
theorem A8a:A0w ["number","line","cell","turns","adds"] E4a (A0l A5t):=by walk_at "sc"
theorem A4x:A0w ["cloth","step","number","word","cell","turn","line","at"] D8h (A0l B4f):=by walk_at "sc"
theorem A4o:A0w ["cloth","step","number","word","cell","turn"] D8h (A0l A8i):=by walk_at "sc"
theorem A3s:A0w ["cloth","wanted","written","step","read"] ["cloth"] (A0l A6o):=by walk_at "sc"
theorem A5i:A0w ["cloth","found","array"] ["cloth"] (A0l A6a):=by walk_at "sc"
theorem A5h:A0w ["cloth","found","sorted_out","array","axes","cells"] ["cloth","found"] (A0l A9u):=by walk_at "sc"
theorem A3p:A0w ["cloth","steps","wanted","firsts","lasts","lives","array","cells","cell"] D8g (A0l B0v):=by walk_at "sc"
theorem A6d:A0w ["cloth","steps","firsts","place","step"] D8g (A0l A9o):=by walk_at "sc"
theorem A4t:A0w ["cloth","steps","wanted","lasts","place","step","read","kept"] ["cloth","steps","wanted"] (A0l B1b):=by walk_at "sc"
theorem B8x:A0w E3e ["self","name","axes","sums","term"] (A0l A9t):=by walk_at "sc"
theorem B8j:A0w E3v ["self","wheel","lengths","arrays","tables","lines","outs"] (A0l A8g):=by walk_at "sc"
theorem B5b:A0w ["self","number"] ["self","number"] (A0l A7m):=by walk_at "sc"
theorem B4e:A0w B5n ["self","at","lengths"] (A0l A6u):=by walk_at "sc"
theorem B6q:A0w ["self","axis"] ["self","axis"] (A0l A8s):=by walk_at "sc"
theorem B4o:A0w B5n ["self","at","lengths"] (A0l A7o):=by walk_at "sc"
theorem B9d:A0w E3f ["self","array","indexes"] (A0l A9y):=by walk_at "sc"
theorem B3l:A0w D2h ["self","at"] (A0l A6t):=by walk_at "sc"
theorem B7v:A0w B5n ["self","at","lengths"] (A0l A8t):=by walk_at "sc"
theorem C2t:A0w D6t ["axis","shift","at"] (A0l B1a):=by walk_at "sc"
theorem B9i:A0w D7m ["self","left","right"] (A0l B0b):=by walk_at "sc"
theorem B6r:A0w B5n ["self","at","lengths"] (A0l A8f):=by walk_at "sc"
theorem B6y:A0w D6r ["self","axis","low","high","inner","outer"] (A0l A8v):=by walk_at "sc"
theorem B2a:A0w D2h ["self","at"] (A0l A5w):=by walk_at "sc"
theorem B0f:A0w D2h ["self","at"] (A0l A4r):=by walk_at "sc"
theorem B5f:A0w B5n ["self","at","lengths"] (A0l A7p):=by walk_at "sc"
theorem C9m:A0w ["_law_rest"] ["_law_rest"] (A0l B6t):=by walk_at "sc"
theorem B0e:A0w ["_law_cell_here","_law_names","_law_many_here","_law_turn"] D6v (A0l B8i):=by walk_at "sc"
theorem B0d:A0w ["_law_axes_here","_law_lengths","_law_many_here","_law_name"] C6i (A0l B6u):=by walk_at "sc"
theorem A5r:A0w ["_law_axes_here","_law_lengths","_law_cells_here","_law_name","_law_longer","_law_cell_here"] C6i (A0l B3w):=by walk_at "sc"
theorem A1u:A0w ["_law_rest","_law_about_here","_law_bound","_law_cell_here","_law_name","_law_known","_law_array","_law_shape","_law_some","_law_indexes","_law_step","_law_axis","_law_shift","_law_at","_law_term","_law_index","_law_high"] D6e (A0l B7p):=by walk_at "sc"
theorem A4v:A0w ["_law_rest","_law_about_here","_law_bound","_law_deep","_law_cell_here","_law_way","_law_left","_law_right","_law_low"] C5b (A0l B3t):=by walk_at "sc"
theorem B2x:A0w ["_law_tree","_law_left","_law_right"] B9b (A0l B6v):=by walk_at "sc"
theorem C6n:A0w B9b ["_law_tree"] (A0l B3d):=by walk_at "sc"
theorem A9c:A0w ["_law_tree","_law_at","_law_cell_here","_law_axis","_law_shift"] D2q (A0l B3o):=by walk_at "sc"
theorem A3i:A0w ["_law_rest","_law_about_here","_law_names","_law_name","_law_cell_here","_law_lengths","_law_axes_here","_law_free","_law_sums","_law_tree","_law_many_here"] D6u (A0l B6l):=by walk_at "sc"
theorem A5y:A0w ["_law_cell_here","_law_many_here","_law_digits_here","_law_rest","_law_k"] D5b (A0l B1k):=by walk_at "sc"
theorem A1r:A0w ["_law_script","_law_most","_law_rest","_law_names","_law_lengths","_law_cell_here","_law_name","_law_about_here","_law_k","_law_axes_here","_law_told_here","_law_cells_here","_law_many_here","_law_start","_law_size","_law_arrays"] D5x (A0l B2s):=by walk_at "sc"
theorem A5p:A0w ["_law_about_here","_law_lines","_law_name","_law_axes_here","_law_sums","_law_tree"] C6v (A0l B2v):=by walk_at "sc"
theorem A4f:A0w ["_law_about_here","_law_steps_here","_law_k","_law_name","_law_axes_here","_law_sums","_law_tree","_law_cell_here"] C6v (A0l B4j):=by walk_at "sc"
theorem A4e:A0w ["_law_about_here","_law_step","_law_name","_law_axes_here","_law_sums","_law_tree","_law_at","_law_axis","_law_number"] D7h (A0l B2r):=by walk_at "sc"
theorem B1h:A0w ["_law_k","_law_steps_here","_law_looks_here","_law_names","_law_left","_law_own","_law_spot"] D7o (A0l B3a):=by walk_at "sc"
theorem A2p:A0w ["_law_about_here","_law_steps_here","_law_looks_here","_law_cell_here","_law_names","_law_left","_law_step","_law_own","_law_pending","_law_order_here","_law_at"] D4x (A0l B3z):=by walk_at "sc"
theorem A4s:A0w ["_law_about_here","_law_steps_here","_law_looks_here","_law_marks_here","_law_name","_law_cell_here","_law_step","_law_spots","_law_spot"] D5y (A0l B3y):=by walk_at "sc"
theorem A4y:A0w ["_law_about_here","_law_order_here","_law_marks_here","_law_lives","_law_spot","_law_k","_law_own","_law_read_here"] D6a (A0l C1u):=by walk_at "sc"
theorem B8y:A0w ["_law_found","_law_due_here","_law_number"] D7g (A0l B7l):=by walk_at "sc"
theorem A5g:A0w ["_law_about_here","_law_cloth_here","_law_order_here","_law_marks_here","_law_due_here","_law_handed","_law_found","_law_many_here","_law_name","_law_spot"] D6o (A0l B7a):=by walk_at "sc"
theorem B1u:A0w ["_law_script","_law_about_here","_law_steps_here","_law_looks_here","_law_order_here","_law_marks_here","_law_cloth_here","_law_row"] ["_law_script"] (A0l D1p):=by walk_at "sc"
theorem A5d:(["member"]:List Str).Nodup:=by decide +kernel
theorem C8i:(["axis","lengths"]:List Str).Nodup:=by decide +kernel
theorem C8o:(["turn","cell","number"]:List Str).Nodup:=by decide +kernel
theorem C7s:(["cell","array"]:List Str).Nodup:=by decide +kernel
theorem C7v:(["cell","array","found"]:List Str).Nodup:=by decide +kernel
theorem B8k:(["axis","shift","at"]:List Str).Nodup:=by decide +kernel
theorem D0t:(["_law_j","_law_cell_here","_law_many_here","_law_names","_law_turn"]:List Str).Nodup:=by decide +kernel
theorem C7l:(["_law_number","_law_cell_here"]:List Str).Nodup:=by decide +kernel
theorem C9x:(["_law_name"]:List Str).Nodup:=by decide +kernel
theorem D0n:(["_law_name"]:List Str).Nodup:=by decide +kernel
theorem C5n:(["_law_axis","_law_axes_here"]:List Str).Nodup:=by decide +kernel
theorem B5x:(["_law_name"]:List Str).Nodup:=by decide +kernel
theorem C5g:(["_law_j","_law_arrays","_law_many_here","_law_start"]:List Str).Nodup:=by decide +kernel
theorem C5d:(["_law_turn","_law_cell_here","_law_k"]:List Str).Nodup:=by decide +kernel
theorem C5u:(["_law_line_here"]:List Str).Nodup:=by decide +kernel
theorem C5s:(["_law_step","_law_about_here"]:List Str).Nodup:=by decide +kernel
theorem A4q.none {mg:Str->Option Value} {base:Heap} {CX:CXT} {k:Nat} {sp:Sp} (h:∀vs H Q E,¬sp vs H Q E):A4q P w K mg base CX k f fd ps sp :=
 ⟨λvs H Q E q=>(h vs H Q E q).elim,λ_ _ _ H _ _ vs Q E _ _ _ _ q=>(h vs H Q E q).elim⟩
def B6a (xs:List Str):PyData:= .list (xs.map PyData.str)
def OkS (xs:List Str):Prop:=∀x∈xs,PyData.strOk x=true
theorem C9h:∀xs:List Str,PyData.depthAll (xs.map PyData.str)=0/\A5k (xs.map PyData.str)=xs.length
 | []=>⟨rfl,rfl⟩
 | x::r=>by
  obtain ⟨h2,h3⟩:=C9h r;refine ⟨?_,?_⟩
  ·simp [PyData.depthAll,PyData.depth,h2]
  ·simp [A5k,cnt,h3];lia
theorem C4p:∀{xs:List Str},OkS xs->PyData.canLayAll0 (xs.map PyData.str)=true
 | [],_=>rfl
 | x::r,h=>by
  have h1:=C4p (xs:=r) λy hy=>h y (.tail _ hy);simp [PyData.canLayAll0,PyData.canLay0,h1,h x (.head _)]
theorem B1j (xs:List Str):(B6a xs).depth<=1/\cnt (B6a xs)<=1+xs.length:=by
 obtain ⟨h2,h3⟩:=C9h xs;refine ⟨?_,?_⟩
 ·simp [B6a,PyData.depth,h2]
 ·simp only [B6a,cnt,h3];lia
theorem D2c {xs:List Str} (h:OkS xs):(B6a xs).canLay0=true:=by simp [B6a,PyData.canLay0,C4p h]
theorem B3p {d:PyData} (h:d.canLay0=true) (hd:d.depth<=60):SeqAt.shaped d=true:=by
 unfold SeqAt.shaped;rw [h,Bool.true_and];exact Z20 (by lia)
theorem C0p {H:Hp}:∀{ys:List Str} {xs:List V},A5b H xs (ys.map PyData.str)->xs=ys.map V.str
 | [],_,r=>by cases r;rfl
 | y::ys,_,r=>by
  rw [Z0p] at r
  cases r with
  | cons a r =>
   cases a
   rw [Z0p,C0p r]
theorem D0k (h:Rep H v (B6a ys)):∃p,v= .ref p/\H p=some (.lst (ys.map V.str)):=by
 obtain ⟨p,xs,rfl,e,r⟩:=B3r (show Rep H v (.list (ys.map PyData.str)) from h);rw [C0p r] at e;exact ⟨p,rfl,e⟩
theorem C6t (e:H p=some (.lst (ys.map V.str))):Rep H (.ref p) (B6a ys):= .lst e (A5b.strs ys)
theorem D9k {e:Str×Int} (h:Rep H v (C1l e)):∃b,v= .ref b/\H b=some (.tup [.str e.1,.int e.2]):=by
 unfold C1l at h
 cases h with
 | @tup b xs _ eb r =>
  cases r with
  | cons a r =>
   cases r with
   | cons a2 r =>
    cases r
    cases a
    cases a2
    exact ⟨b,rfl,eb⟩
theorem A6w {α β:Type} {F:α->β->Prop}:∀{l:List α} {m:List β},Paired F l m->∀{i:Nat} {x:α},l[i]? =some x->∃y,m[i]? =some y/\F x y
 | _,_,.nil,i,x,e=>by simp at e
 | _,_,.cons r t,0,x,e=>by simp at e;subst e;exact ⟨_,rfl,r⟩
 | _,_,.cons r t,i+1,x,e=>by
  obtain ⟨y,e1,e2⟩:=A6w t (i:=i) (by simpa using e);exact ⟨y,by simpa using e1,e2⟩
theorem B1o {α β:Type} {F:α->β->Prop}:∀{a c:List α} {b d:List β},Paired F a b->Paired F c d->Paired F (a++c) (b++d)
 | _,_,_,_,.nil,h=>h
 | _,_,_,_,.cons r t,h=> .cons r (B1o t h)
theorem A2e {α:Type} {f:α->V} {xs:List α} (h:(xs.map f)[i]? =some v):∃x,xs[i]? =some x/\v=f x:=by
 rw [Z1z] at h
 cases e:xs[i]? with
 | none=>rw [e] at h;cases h
 | some x=>rw [e] at h;exact ⟨x,rfl,(Z1a h).symm⟩
def KT (H H':Hp):Prop:=∀p xs,H p=some (.tup xs)->H' p=some (.tup xs)
theorem KT.same (s:A0r H H'):KT H H':=λp xs e=>s _ _ e
theorem KT.at {u:HO} (e:H l=some u) (n:∀xs,u≠.tup xs):KT H (upd H l o):=λp xs z=>by rw [A0h (A1g z e (n xs).symm)];exact z
theorem KT.trans (a:KT H H') (b:KT H' H2):KT H H2:=λp xs e=>b _ _ (a _ _ e)
def C3i (A:Adr):Op3->Addr
 | .plus=>A.fg
 | .minus=>A.cm
 | .times=>A.cv
inductive Ob (A:Adr) (H:Hp):V->Tm->Prop
 | num {a dx:Addr} {z:Int}:H a=some (.ins A.cj dx [("number",.int z)])->Ob A H (.ref a) (.num z)
 | place {a dx:Addr} {x:Str}:H a=some (.ins A.dm dx [("axis",.str x)])->Ob A H (.ref a) (.place x)
 | read {a dx l:Addr} {x:Str} {ix:List (Str×Int)}:H a=some (.ins A.bc dx [("array",.str x),("indexes",.ref l)])->Rep H (.ref l) (B1l ix)->Ob A H (.ref a) (.read x ix)
 | pair {a dx:Addr} {k:Op3} {u w:V} {l r:Tm}:H a=some (.ins (C3i A k) dx [("left",u),("right",w)])->Ob A H u l->Ob A H w r->Ob A H (.ref a) (.pair k l r)
 | guard {a dx:Addr} {x:Str} {lo hi:Int} {u w:V} {l r:Tm}:H a=some (.ins A.aq dx [("axis",.str x),("low",.int lo),("high",.int hi),("inner",u),("outer",w)])->Ob A H u l->Ob A H w r->Ob A H (.ref a) (.guard x lo hi l r)
theorem Ob.imp (f:A0r H H') {t:Tm} (h:Ob A H v t):Ob A H' v t:=by
 induction h with
 | num e=>exact .num (f _ _ e)
 | place e=>exact .place (f _ _ e)
 | read e r=>exact .read (f _ _ e) (r.same f)
 | pair e _ _ i1 i2=>exact .pair (f _ _ e) i1 i2
 | guard e _ _ i1 i2=>exact .guard (f _ _ e) i1 i2
local macro_rules | `(tactic| walk_at "lk") => `(tactic| first | with_reducible exact lk0 | (refine lk1 (by decide +kernel) ?_; walk_at "lk") | rfl)
inductive C1i (K:Frag) (f:Str) (vs:List V) (H:Hp) (Q:VK):Prop
 | mk (p C dx:Addr) (v:V) (_:vs=[.ref p,v]) (_:H p=some (.ins C dx [])) (_:Cls K C) (_:A1z K C f) (_:Q .non (upd H p (.ins C dx [(f,v)]))):C1i K f vs H Q
def C3q (K:Frag) (f:Str):Sp:=λvs H Q _=>C1i K f vs H Q
inductive C0o (K:Frag) (f g:Str) (vs:List V) (H:Hp) (Q:VK):Prop
 | mk (p C dx:Addr) (v u:V) (_:vs=[.ref p,v,u]) (_:H p=some (.ins C dx [])) (_:Cls K C) (_:A1z K C f) (_:A1z K C g) (_:Q .non (upd H p (.ins C dx [(f,v),(g,u)]))):C0o K f g vs H Q
def D2v (K:Frag) (f g:Str):Sp:=λvs H Q _=>C0o K f g vs H Q
inductive B9m (A:Adr) (vs:List V) (H:Hp) (Q:VK):Prop
 | mk (p dx:Addr) (a b c d e:V) (_:vs=[.ref p,a,b,c,d,e]) (_:H p=some (.ins A.aq dx [])) (_:Q .non (upd H p (.ins A.aq dx [("axis",a),("low",b),("high",c),("inner",d),("outer",e)]))):B9m A vs H Q
def D1h (A:Adr):Sp:=λvs H Q _=>B9m A vs H Q
inductive B9o (A:Adr) (vs:List V) (H:Hp) (Q:VK):Prop
 | mk (p dx l:Addr) (x:Str) (ix:List (Str×Int)) (_:vs=[.ref p,.str x,.ref l]) (_:H p=some (.ins A.bc dx [])) (_:Rep H (.ref l) (B1l ix)) (_:ix.length<=1000) (_:∀(l':Addr) (H':Hp),H' p=some (.ins A.bc dx [("array",.str x),("indexes",.ref l')])->Rep (A2t (λa=>H a=none) H') (.ref l') (B1l ix)->(∀b o,b≠p->H b=some o->H' b=some o)->Q .non H'):B9o A vs H Q
def D2g (A:Adr):Sp:=λvs H Q _=>B9o A vs H Q
inductive C7p (n:Nat) (vs:List V) (H:Hp) (Q:VK):Prop
 | mk (v:V) (d:PyData) (_:vs=[v]) (_:Rep H v d) (_:PyData.depth d<=n) (_:cnt d<=100000) (_:∀(v':V) (H':Hp),A0r H H'->Rep (A2t (λa=>H a=none) H') v' d->Q v' H'):C7p n vs H Q
def D0b (n:Nat):Sp:=λvs H Q _=>C7p n vs H Q
inductive D0m (A:Adr) (vs:List V) (H:Hp) (Q:VK):Prop
 | mk (a dx:Addr) (fs:List (Str×V)) (_:vs=[.ref a]) (_:H a=some (.ins A.am dx fs)) (_:Q (.ref a) H):D0m A vs H Q
def D8n (A:Adr):Sp:=λvs H Q _=>D0m A vs H Q
inductive C8j (A:Adr) (vs:List V) (H:Hp) (Q:VK):Prop
 | mk (p:Addr) (xs:List V) (_:vs=[.ref p]) (_:H p=some (.lst xs)) (_:xs.length<=1000) (_:(∀x∈xs,∃a dx fs,x= .ref a/\H a=some (.ins A.am dx fs))) (_:∀(D:Addr) (H':Hp),H D=none->A0r H H'->H' D=some (.lst xs)->Q (.ref D) H'):C8j A vs H Q
def D3z (A:Adr):Sp:=λvs H Q _=>C8j A vs H Q
inductive D4l (vs:List V) (H:Hp) (Q:VK):Prop
 | mk (d:Addr) (kvs:List (Key×V)) (ds:List PyData) (_:vs=[.ref d]) (_:H d=some (.dK kvs)) (_:kvs.length<=100000) (_:Paired (λ(a:Key×V) (x:PyData)=>Rep H a.2 x/\PyData.depth x<=1/\cnt x<=100000) kvs ds) (_:∀(p:Addr) (kvs':List (Key×V)) (H':Hp),H p=none->A0r H H'->H' p=some (.dK kvs')->kvs'.map (·.1)=kvs.map (·.1)->Paired (λ(b:Key×V) (x:PyData)=>Rep (A2t (λa=>H a=none) H') b.2 x) kvs' ds->Q (.ref p) H'):D4l vs H Q
def D5t:Sp:=λvs H Q _=>D4l vs H Q
variable {P:Program} {w:World} {K:Frag} {mg:Str->Option Value} {base:Heap} {t:Adr}
theorem B4z (T:Txt K mg t):FP P w mg base T.c_ 1 (C3q K "number"):=by
 refine T.c_.F.ok B5b (by walk_at "ln") λ_ A _ s H _ Q E hr h=> ?_
 ·obtain ⟨p,C,dx,v,rfl,hp,cl,na,k⟩:=h;exact ⟨_,(A0f (A3y (pv 0) (pv 1) rfl)),_,rfl,_,rfl,p,C,dx,[],rfl,hp,cl,na,(by decide),k⟩
theorem B8e (T:Txt K mg t):FP P w mg base T.dz 1 (C3q K "axis"):=by
 refine T.dz.F.ok B6q (by walk_at "ln") λ_ A _ s H _ Q E hr h=> ?_
 ·obtain ⟨p,C,dx,v,rfl,hp,cl,na,k⟩:=h;exact ⟨_,(A0f (A3y (pv 0) (pv 1) rfl)),_,rfl,_,rfl,p,C,dx,[],rfl,hp,cl,na,(by decide),k⟩
theorem C1f (T:Txt K mg t):FP P w mg base T.bu 1 (D2v K "left" "right"):=by
 refine T.bu.F.ok B9i (by walk_at "ln") λ_ A _ s H _ Q E hr h=> ?_
 ·obtain ⟨p,C,dx,v,u,rfl,hp,cl,n1,n2,k⟩:=h
  refine ⟨_,(A0c (A3y (pv 0) (pv 1) rfl)
   (A0f (A3y (pv 0) (pv 2) rfl))),_,rfl,_,rfl,p,C,dx,[],rfl,hp,cl,n1,(by decide),_,rfl,_,rfl,p,C,dx,_,rfl,A0b,cl,n2,(by show 1<1000;decide),?_⟩
  show Q V.non (upd (upd H p _) p (.ins C dx (A8e "right" u (A8e "left" v []))));rw [B0c,A2h,A1q (by decide +kernel),A2h];exact k
theorem B6p (T:Txt K mg t):FP P w mg base T.dq 1 (D1h t):=by
 refine T.dq.F.ok B6y (by walk_at "ln") λ_ A _ s H _ Q E hr h=> ?_
 ·obtain ⟨p,dx,a,b,c,d,e,rfl,hp,k⟩:=h;have e1:A8e "low" b (A8e "axis" a [])=([("axis",a),("low",b)]:List (Str×V)):=by rw [A2h,A1q (by decide +kernel),A2h]
  have e2:A8e "high" c ([("axis",a),("low",b)]:List (Str×V))=([("axis",a),("low",b),("high",c)]:List (Str×V)):=by rw [A1q (by decide +kernel),A1q (by decide +kernel),A2h]
  have e3:A8e "inner" d ([("axis",a),("low",b),("high",c)]:List (Str×V))=([("axis",a),("low",b),("high",c),("inner",d)]:List (Str×V)):=by rw [A1q (by decide +kernel),A1q (by decide +kernel),A1q (by decide +kernel),A2h]
  have e4:A8e "outer" e ([("axis",a),("low",b),("high",c),("inner",d)]:List (Str×V))=([("axis",a),("low",b),("high",c),("inner",d),("outer",e)]:List (Str×V)):=by rw [A1q (by decide +kernel),A1q (by decide +kernel),A1q (by decide +kernel),A1q (by decide +kernel),A2h]
  refine ⟨_,(A0c (A3y (pv 0) (pv 1) rfl)
   (A0c (A3y (pv 0) (pv 2) rfl)
   (A0c (A3y (pv 0) (pv 3) rfl)
   (A0c (A3y (pv 0) (pv 4) rfl)
   (A0f (A3y (pv 0) (pv 5) rfl)))))),_,rfl,_,rfl,p,_,dx,[],rfl,hp,T.aw,T.gb,(by decide),_,rfl,_,rfl,p,_,dx,_,rfl,A0b,T.aw,T.i5,(by show 1<1000;decide),?_⟩
  rw [B0c,e1];refine ⟨_,rfl,_,rfl,p,_,dx,_,rfl,A0b,T.aw,T.gi,(by show 2<1000;decide),?_⟩;rw [B0c,e2];refine ⟨_,rfl,_,rfl,p,_,dx,_,rfl,A0b,T.aw,T.fk,(by show 3<1000;decide),?_⟩;rw [B0c,e3];refine ⟨_,rfl,_,rfl,p,_,dx,_,rfl,A0b,T.aw,T.ff,(by show 4<1000;decide),?_⟩;show Q V.non (upd (upd H p _) p _);rw [B0c,e4];exact k
theorem A5v {T:String} (h:T="NoneType"\/T="bool"\/T="int"\/T="str"\/T="tuple"):∀u,A2u (.ty "list") u->kitOne K (.type T) u=some false:=by
 rcases h with rfl | rfl | rfl | rfl | rfl <;> exact B6g (by decide +kernel) (by decide +kernel) (by decide +kernel)
theorem A6l {T:String} (h:T="NoneType"\/T="bool"\/T="int"\/T="str"):∀u,A2u (.ty "tuple") u->kitOne K (.type T) u=some false:=by
 rcases h with rfl | rfl | rfl | rfl <;> exact B6g (by decide +kernel) (by decide +kernel) (by decide +kernel)
theorem A7n {T:String} (h:T="NoneType"\/T="bool"\/T="int"\/T="str"):∀u,A2u (.ty "dict") u->kitOne K (.type T) u=some false:=by
 rcases h with rfl | rfl | rfl | rfl <;> exact B6g (by decide +kernel) (by decide +kernel) (by decide +kernel)
theorem C4l (T:Txt K mg t) {sp':Sp} (Ga0:A4q P w K mg base CX0 m t.df t.di C4j sp')
  (hs:∀(v:V) (d:PyData) (H:Hp) (Q:VK),Rep H v d->PyData.depth d+1<=n->cnt d<=100000->(∀(v':V) (H':Hp),A0r H H'->Rep (A2t (λa=>H a=none) H') v' d->Q v' H')->sp' [v] H Q E0) :
  A4q P w K mg base CX0 (m+1) t.df t.di C4j (D0b n):=by
 refine T.ae.F.ok B0o (by walk_at "ln") λ_ A _ s H _ Q E hr h=> ?_
 ·obtain ⟨v,d,rfl,rp,hd,hc,k⟩:=h;have Ga1:A4q P w K mg base CX0 0 t.br t.bt C4j (λ_ _ _ _=>False):=A4q.none λ_ _ _ _ h=>h
  refine ⟨_,(A0c (A1s (A3z (A0q A1m (by rfl) T.aa Z0d (A0a (pv 0) (A0a (A3q (v:=V.ty "list") rfl T.d_ Z1o rfl) A0d))))
    (A0f (A0p (A3n (N':=["member"]) (ix:=(List.replicate 1 none)) rfl (A2x rfl (by decide +kernel) (by decide +kernel)) (A2y rfl) (B1v (pv 0)) (λ_ _ _ _=>(A0k (i:=0) A5d)) (λ_ _ _ _=>(pcl Ga0 hr T.ae (A0a (pv 0) A0d))))))
    A0s)
   (A0c (A1s (A3z (A0q A1m (by rfl) T.aa Z0d (A0a (pv 0) (A0a (A3q (v:=V.ty "tuple") rfl T.bn Z0m rfl) A0d))))
    (A0f (A0p (A3g A3w (by rfl) T.bn Z0m (A0a (A3n (N':=["member"]) (ix:=(List.replicate 1 none)) rfl (A2x rfl (by decide +kernel) (by decide +kernel)) (A2y rfl) (B1v (pv 0)) (λ_ _ _ _=>(A0k (i:=0) A5d)) (λ_ _ _ _=>(pcl Ga0 hr T.ae (A0a (pv 0) A0d)))) A0d))))
    A0s)
   (A0c (A1s (A3z (A0q A1m (by rfl) T.aa Z0d (A0a (pv 0) (A0a (A3q (v:=V.ty "dict") rfl T.gv Z2q rfl) A0d))))
    (A0f (A0p (pcl Ga1 hr T.a_ (A0a (pv 0) A0d))))
    A0s)
   (A0f (A0p (pv 0)))))),?_⟩
  cases rp with
  | non =>
   refine ⟨_,rfl,_,_,_,_,rfl,.non,A5v (.inl rfl),false,rfl,A7x ?_⟩;refine ⟨_,rfl,_,_,_,_,rfl,.non,A6l (.inl rfl),false,rfl,A7x ?_⟩;exact ⟨_,rfl,_,_,_,_,rfl,.non,A7n (.inl rfl),false,rfl,A7x ⟨_,rfl,k _ _ (A0r.refl _) .non⟩⟩
  | bl b =>
   refine ⟨_,rfl,_,_,_,_,rfl,.bl b,A5v (.inr (.inl rfl)),false,rfl,A7x ?_⟩;refine ⟨_,rfl,_,_,_,_,rfl,.bl b,A6l (.inr (.inl rfl)),false,rfl,A7x ?_⟩;exact ⟨_,rfl,_,_,_,_,rfl,.bl b,A7n (.inr (.inl rfl)),false,rfl,A7x ⟨_,rfl,k _ _ (A0r.refl _) (.bl b)⟩⟩
  | int b =>
   refine ⟨_,rfl,_,_,_,_,rfl,.int b,A5v (.inr (.inr (.inl rfl))),false,rfl,A7x ?_⟩;refine ⟨_,rfl,_,_,_,_,rfl,.int b,A6l (.inr (.inr (.inl rfl))),false,rfl,A7x ?_⟩;exact ⟨_,rfl,_,_,_,_,rfl,.int b,A7n (.inr (.inr (.inl rfl))),false,rfl,A7x ⟨_,rfl,k _ _ (A0r.refl _) (.int b)⟩⟩
  | str b =>
   refine ⟨_,rfl,_,_,_,_,rfl,.str b,A5v (.inr (.inr (.inr (.inl rfl)))),false,rfl,A7x ?_⟩;refine ⟨_,rfl,_,_,_,_,rfl,.str b,A6l (.inr (.inr (.inr rfl))),false,rfl,A7x ?_⟩;exact ⟨_,rfl,_,_,_,_,rfl,.str b,A7n (.inr (.inr (.inr rfl))),false,rfl,A7x ⟨_,rfl,k _ _ (A0r.refl _) (.str b)⟩⟩
  | @lst p xs ds e r =>
   have hl1:=r.len;have hl2:=C2a ds;have hc':A5k ds+1<=100000:=hc;have hd':PyData.depthAll ds+1<=n:=hd;refine ⟨_,rfl,_,_,_,_,rfl,.lst e,A6e "list",true,rfl,D5g ?_⟩;refine .inl ⟨_,rfl,p,rfl,⟨_,SqL.of e⟩,λD hD=> ?_⟩
   refine A3j (K:=K) (a:=p) (D:=D) (xs:=xs) (λi ys H2=>A0r H H2/\H2 D=some (.lst ys)/\A5b (A2t (λa=>H a=none/\a≠D) H2) ys (ds.take i)/\ys.length=i)
    ⟨A0e hD,A0b,(by rw [List.take_zero];exact .nil),rfl⟩ (λi ys H2 ⟨s2,_⟩=>SqL.of (s2 _ _ e)) ?_ ?_
   ·rintro i x ys H2 hx ⟨s2,hD2,rs,hyl⟩;refine B9q ?_;intro N';obtain ⟨d,hdi,rx⟩:=r.get2 hx;obtain ⟨c1,c2⟩:=C7r hdi;have hi:i<xs.length:=(Z03.mp hx).1;refine ⟨True.intro,_,rfl,hs x d H2 _ (rx.same s2) (by lia) (by lia) λv' H5 s5 rp5=> ?_⟩;have hnS:¬(H D=none/\D≠D):=λz=>z.2 rfl;refine ⟨s5 _ _ hD2,A1c (by lia),A0n (s2.trans s5) hD,A0b,?_,by simp [hyl]⟩;rw [Z14,hdi];show A5b _ (ys++[v']) (ds.take i++[d]);refine (rs.same (A5s (A1x s5) hnS)).snoc (rp5.same ((A4m (A0r.refl _) λa o _ ha=>⟨s2.free ha,λz=> ?_⟩).trans (A5s (A0r.refl _) hnS)));subst z;rw [hD2] at ha;cases ha
   ·rintro ys H2 ⟨s2,hD2,rs,hyl⟩;refine k (.ref D) H2 s2 (.lst (A1k hD hD2) ?_);rw [hl1,Z18] at rs;exact rs.same (A4m (A0r.refl _) λa o _ h=>h.1)
  | @tup p xs ds e r =>
   have hl1:=r.len;have hl2:=C2a ds;have hc':A5k ds+1<=100000:=hc;have hd':PyData.depthAll ds+1<=n:=hd;refine ⟨_,rfl,_,_,_,_,rfl,.tup e,A5v (.inr (.inr (.inr (.inr rfl)))),false,rfl,A7x ?_⟩;refine ⟨_,rfl,_,_,_,_,rfl,.tup e,A6e "tuple",true,rfl,D5g ?_⟩;refine .inr ⟨_,rfl,p,rfl,⟨_,SqT.of e⟩,λD hD=> ?_⟩
   refine C7e (K:=K) (a:=p) (D:=D) (xs:=xs) (λi ys H2=>A0r H H2/\H2 D=some (.lst ys)/\A5b (A2t (λa=>H a=none/\a≠D) H2) ys (ds.take i)/\ys.length=i)
    ⟨A0e hD,A0b,(by rw [List.take_zero];exact .nil),rfl⟩ (λi ys H2 ⟨s2,_⟩=>SqT.of (s2 _ _ e)) ?_ ?_
   ·rintro i x ys H2 hx ⟨s2,hD2,rs,hyl⟩;refine B9q ?_;intro N';obtain ⟨d,hdi,rx⟩:=r.get2 hx;obtain ⟨c1,c2⟩:=C7r hdi;have hi:i<xs.length:=(Z03.mp hx).1;refine ⟨True.intro,_,rfl,hs x d H2 _ (rx.same s2) (by lia) (by lia) λv' H5 s5 rp5=> ?_⟩;have hnS:¬(H D=none/\D≠D):=λz=>z.2 rfl;refine ⟨s5 _ _ hD2,A1c (by lia),A0n (s2.trans s5) hD,A0b,?_,by simp [hyl]⟩;rw [Z14,hdi];show A5b _ (ys++[v']) (ds.take i++[d]);refine (rs.same (A5s (A1x s5) hnS)).snoc (rp5.same ((A4m (A0r.refl _) λa o _ ha=>⟨s2.free ha,λz=> ?_⟩).trans (A5s (A0r.refl _) hnS)));subst z;rw [hD2] at ha;cases ha
   ·rintro ys H2 ⟨s2,hD2,rs,hyl⟩;refine ⟨D,ys,rfl,.inl ⟨SqL.of hD2,λl hl=> ?_⟩⟩;refine k (.ref l) _ (s2.trans (A0e hl)) (.tup (A1k (s2.free hl) A0b) ?_);rw [hl1,Z18] at rs;exact rs.same ((A4m (A0r.refl _) λa o _ h=>h.1).trans (A1x (A0e hl)))
theorem B2l (T:Txt K mg t):∀n:Nat,A4q P w K mg base CX0 (n+1) t.df t.di C4j (D0b n)
 | 0=>C4l T (sp':=λ_ _ _ _=>False) (m:=0) (A4q.none λ_ _ _ _ h=>h) λv d H Q _ h=>absurd h (by lia)
 | n+1=>C4l T (B2l T n) λv d H Q rp hd hc k=>⟨v,d,rfl,rp,by lia,hc,k⟩
theorem D7s (T:Txt K mg t):FO P w base T.ae 1 (D8n t):=by
 refine T.ae.F.ok B0o (by walk_at "ln") λ_ A _ s H _ Q E hr h=> ?_
 ·obtain ⟨a,dx,fs,rfl,e,k⟩:=h;have Ga0:A4q P w K mg base CX0 0 t.df t.di C4j (λ_ _ _ _=>False):=A4q.none λ_ _ _ _ h=>h;have ty:B7g K H (.ref a) (.ref t.am):= .ins e T.bf T.jb.ha T.jb.hn T.jb.htk T.jb.hm;have Ga1:A4q P w K mg base CX0 0 t.br t.bt C4j (λ_ _ _ _=>False):=A4q.none λ_ _ _ _ h=>h
  refine ⟨_,(A0c (A1s (A3z (A0q A1m (by rfl) T.aa Z0d (A0a (pv 0) (A0a (A3q (v:=V.ty "list") rfl T.d_ Z1o rfl) A0d))))
    (A0f (A0p (A3n (N':=["member"]) (ix:=(List.replicate 1 none)) rfl (A2x rfl (by decide +kernel) (by decide +kernel)) (A2y rfl) (B1v (pv 0)) (λ_ _ _ _=>(A0k (i:=0) A5d)) (λ_ _ _ _=>(pcl Ga0 hr T.ae (A0a (pv 0) A0d))))))
    A0s)
   (A0c (A1s (A3z (A0q A1m (by rfl) T.aa Z0d (A0a (pv 0) (A0a (A3q (v:=V.ty "tuple") rfl T.bn Z0m rfl) A0d))))
    (A0f (A0p (A3g A3w (by rfl) T.bn Z0m (A0a (A3n (N':=["member"]) (ix:=(List.replicate 1 none)) rfl (A2x rfl (by decide +kernel) (by decide +kernel)) (A2y rfl) (B1v (pv 0)) (λ_ _ _ _=>(A0k (i:=0) A5d)) (λ_ _ _ _=>(pcl Ga0 hr T.ae (A0a (pv 0) A0d)))) A0d))))
    A0s)
   (A0c (A1s (A3z (A0q A1m (by rfl) T.aa Z0d (A0a (pv 0) (A0a (A3q (v:=V.ty "dict") rfl T.gv Z2q rfl) A0d))))
    (A0f (A0p (pcl Ga1 hr T.a_ (A0a (pv 0) A0d))))
    A0s)
   (A0f (A0p (pv 0)))))),?_⟩
  refine ⟨_,rfl,_,_,_,_,rfl,ty,C8f T.kr (by decide +kernel),false,rfl,A7x ?_⟩;refine ⟨_,rfl,_,_,_,_,rfl,ty,C8f T.kc (by decide +kernel),false,rfl,A7x ?_⟩;exact ⟨_,rfl,_,_,_,_,rfl,ty,C8f T.lg (by decide +kernel),false,rfl,A7x ⟨_,rfl,k⟩⟩
theorem D5w (T:Txt K mg t):FO P w base T.ae 2 (D3z t):=by
 have Ga0:= @D7s P w K mg base t T;refine T.ae.F.ok B0o (by walk_at "ln") λ_ A _ s H _ Q E hr h=> ?_
 ·obtain ⟨p,xs,rfl,e,hl,hx,k⟩:=h;have Ga1:A4q P w K mg base CX0 0 t.br t.bt C4j (λ_ _ _ _=>False):=A4q.none λ_ _ _ _ h=>h
  refine ⟨_,(A0c (A1s (A3z (A0q A1m (by rfl) T.aa Z0d (A0a (pv 0) (A0a (A3q (v:=V.ty "list") rfl T.d_ Z1o rfl) A0d))))
    (A0f (A0p (A3n (N':=["member"]) (ix:=(List.replicate 1 none)) rfl (A2x rfl (by decide +kernel) (by decide +kernel)) (A2y rfl) (B1v (pv 0)) (λ_ _ _ _=>(A0k (i:=0) A5d)) (λ_ _ _ _=>(pcl Ga0 hr T.ae (A0a (pv 0) A0d))))))
    A0s)
   (A0c (A1s (A3z (A0q A1m (by rfl) T.aa Z0d (A0a (pv 0) (A0a (A3q (v:=V.ty "tuple") rfl T.bn Z0m rfl) A0d))))
    (A0f (A0p (A3g A3w (by rfl) T.bn Z0m (A0a (A3n (N':=["member"]) (ix:=(List.replicate 1 none)) rfl (A2x rfl (by decide +kernel) (by decide +kernel)) (A2y rfl) (B1v (pv 0)) (λ_ _ _ _=>(A0k (i:=0) A5d)) (λ_ _ _ _=>(pcl Ga0 hr T.ae (A0a (pv 0) A0d)))) A0d))))
    A0s)
   (A0c (A1s (A3z (A0q A1m (by rfl) T.aa Z0d (A0a (pv 0) (A0a (A3q (v:=V.ty "dict") rfl T.gv Z2q rfl) A0d))))
    (A0f (A0p (pcl Ga1 hr T.a_ (A0a (pv 0) A0d))))
    A0s)
   (A0f (A0p (pv 0)))))),?_⟩
  refine ⟨_,rfl,_,_,_,_,rfl,.lst e,A6e "list",true,rfl,D5g ?_⟩;refine .inl ⟨_,rfl,p,rfl,⟨_,SqL.of e⟩,λD hD=> ?_⟩
  refine A3j (K:=K) (a:=p) (D:=D) (xs:=xs) (λi ys H2=>A0r H H2/\H2 D=some (.lst ys)/\ys=xs.take i)
   ⟨A0e hD,A0b,rfl⟩ (λi ys H2 ⟨s2,_⟩=>SqL.of (s2 _ _ e)) ?_ ?_
  ·rintro i x ys H2 hxi ⟨s2,hD2,rfl⟩;refine B9q ?_;intro N';obtain ⟨a,dx,fs,rfl,ea⟩:=hx x (Z13 hxi);have hlt:(xs.take i).length<=xs.length:=by rw [Z0x];lia
   refine ⟨True.intro,_,rfl,a,dx,fs,rfl,s2 _ _ ea,hD2,A1c (by lia),A0n s2 hD,A0b,?_⟩;rw [Z14,hxi];rfl
  ·rintro ys H2 ⟨s2,hD2,rfl⟩;rw [Z18] at hD2;exact k D H2 hD s2 hD2
theorem B5a (T:Txt K mg t):FO P w base T.a_ 3 D5t:=by
 have Ga0:= @B2l P w K mg base t T 1;refine T.a_.F.ok A5c (by walk_at "ln") λ_ A _ s H _ Q E hr h=> ?_
 ·obtain ⟨d,kvs,ds,rfl,hd,hl,src,k⟩:=h;have hu:=A6c hr
  refine ⟨_,(D1o (A0c (A0m (i:=1) A5c.nd A8z)
   (A0c (A1o (B6j (B6d PySem.F.plainAttrs_dict PySem.F.slot_dict_items PySem.F.type_dict_items B6w (pv 0))) (A5j (n:=2) rfl (A1a (A0k (i:=2) A5c.nd) (A1a (A0k (i:=3) A5c.nd) A3x)))
    (A0f (A4i hu (pv 1) (pv 2) (pcl Ga0 hr T.ae (A0a (pv 3) A0d)) rfl)))
   (B2z (A0f (A0p (pv 1))))))),?_⟩
  intro ap;have nd:=ap.1 d kvs hd;refine λp hp=> ?_;have dp:d≠p:=A0i hd hp;have hd1:upd H p (.dK []) d=some (.dK kvs):=by rw [A0h dp];exact hd
  refine ⟨_,rfl,.inr (.inr (.inl ⟨rfl,.inl ⟨_,hd1⟩⟩)),d,_,rfl,rfl,hd1,.inl ⟨_,rfl⟩,λvw hvw=> ?_⟩;have vp:p≠vw:=A0i A0b hvw;have dv:d≠vw:=A0i hd1 hvw;refine ⟨vw,d,_,rfl,A0b,(by rw [A0h dv];exact hd1),.inl ⟨kvs,rfl,λo=> ?_⟩⟩;have hv0:H vw=none:=by rw [A0h vp.symm] at hvw;exact hvw
  have g0:A0r (upd H d (.frz o (.dK kvs))) (upd (upd (upd H p (.dK [])) vw (C1c vw d)) d (.frz o (.dK kvs))):=λb v e=>by
   by_cases hb:b=d
   ·subst hb;rw [A0b] at e⊢;exact e
   ·rw [A0h hb] at e⊢;rw [A0h (A0i e hv0),A0h (A0i e hp)];exact e
  have hpG:upd H d (.frz o (.dK kvs)) p=none:=by rw [A0h dp.symm];exact hp
  have nd0:∀b,upd H d (.frz o (.dK kvs)) b=none->H b=none:=λb e=>by
   by_cases hb:b=d
   ·subst hb;rw [A0b] at e;cases e
   ·rw [A0h hb] at e;exact e
  refine B4d (L:=kvs.map λq=>(kV q.1,q.2)) (λi Z H4=>∃(o2 o3:Option V) (ws:List (Key×V)),Z=[Sro d,Sro p,o2,o3]/\A0r (upd H d (.frz o (.dK kvs))) H4/\H4 p=some (.dK ws)/\ws.map (·.1)=(kvs.take i).map (·.1)/\Paired (λ(b:Key×V) (x:PyData)=>Rep (A2t (λa=>H a=none/\a≠p) H4) b.2 x) ws (ds.take i))
   ⟨none,none,[],rfl,g0,(by rw [A0h dp.symm,A0h vp,A0b]),rfl,.nil⟩ (λi Z H4 zq=>by obtain ⟨_,_,_,_,s4,_⟩:=zq;exact s4 _ _ A0b) ?_ ?_
  ·rintro i kx vx q Z H4 hx hq ⟨o2,o3,ws,rfl,s4,h4,ks,cp⟩;walk_at "g";rw [Z1z] at hx;obtain ⟨⟨k',v⟩,hk,e⟩:=Z0i.mp hx;cases e;obtain ⟨x,hxd,rv,dv1,cv1⟩:=A6w src hk;have sq:A0r H4 (upd H4 q (.tup [kV k',v])):=A0e hq;have rv4:Rep (upd H4 q (.tup [kV k',v])) v x:=(rv.imp2 (λb ys z=>s4 _ _ (by rw [A0h (A1g z hd (by intro w;cases w))];exact z)) λb ys z=>s4 _ _ (by rw [A0h (A1g z hd (by intro w;cases w))];exact z)).same sq;refine ⟨q,_,rfl,SqT.of A0b,rfl,_,_,rfl,_,_,rfl,rfl,_,rfl,v,x,rfl,rv4,dv1,cv1,λv' H6 s6 r6=> ?_⟩;have h6:=s6 _ _ (sq _ _ h4);have lw:ws.length=(kvs.take i).length:=by have:=congrArg List.length ks;simpa using this
   have lt2:(kvs.take i).length<=kvs.length:=by rw [Z0x];lia
   refine ⟨_,rfl,_,rfl,p,_,rfl,B6b.k (k:=k') h6 (A1c (by lia)),?_⟩;have hnS:¬(H p=none/\p≠p):=λz=>z.2 rfl;refine ⟨_,_,_,rfl,A0n (s4.trans (sq.trans s6)) hpG,A0b,?_,?_⟩
   ·rw [A9d nd hk ws ks v',Z14,hk,Z0s,Z0s,ks];rfl
   ·rw [A9d nd hk ws ks v',Z14,hxd];refine B1o (Paired.mapP cp λ_ _ z=>z.same (A5s (A1x (sq.trans s6)) hnS)) (.cons (r6.same ((A4m (A0r.refl _) λa ob ea ha=>⟨?_,λz=> ?_⟩).trans (A5s (A0r.refl _) hnS))) .nil)
    ·exact nd0 a (s4.free (sq.free ha))
    ·subst z;rw [sq _ _ h4] at ha;cases ha
  ·rintro Z H4 ⟨o2,o3,ws,rfl,s4,h4,ks,cp⟩;have ld:=Paired.length src;rw [Z08,Z18] at ks;rw [Z08,ld,Z18] at cp;have hd4:H4 d=some (.frz o (.dK kvs)):=s4 _ _ A0b;refine ⟨d,o,_,hd4,.inl ⟨_,rfl⟩,(λo' u' z=>by have z:H d=some (.frz o' u'):=z;rw [hd] at z;cases z),_,rfl,?_⟩;have hnd:¬(H d=none/\d≠p):=λz=>by rw [hd] at z;cases z.1
   exact k p ws _ hp (A8q hd s4) (by rw [A0h dp.symm];exact h4) ks (Paired.mapP cp λ_ _ z=>z.same ((A5s (A0r.refl _) hnd).trans (A4m (A0r.refl _) λa ob _ h=>h.1)))
theorem D5m (T:Txt K mg t):FO P w base T.ae 4 D5t:=by
 have Ga1:= @B5a P w K mg base t T;have Ga0:A4q P w K mg base CX0 0 t.df t.di C4j (λ_ _ _ _=>False):=A4q.none λ_ _ _ _ h=>h;refine T.ae.F.ok B0o (by walk_at "ln") λ_ A _ s H _ Q E hr h=> ?_
 ·have h0:=h;obtain ⟨d,kvs,ds,rfl,hd,_⟩:=h
  refine ⟨_,(A0c (A1s (A3z (A0q A1m (by rfl) T.aa Z0d (A0a (pv 0) (A0a (A3q (v:=V.ty "list") rfl T.d_ Z1o rfl) A0d))))
    (A0f (A0p (A3n (N':=["member"]) (ix:=(List.replicate 1 none)) rfl (A2x rfl (by decide +kernel) (by decide +kernel)) (A2y rfl) (B1v (pv 0)) (λ_ _ _ _=>(A0k (i:=0) A5d)) (λ_ _ _ _=>(pcl Ga0 hr T.ae (A0a (pv 0) A0d))))))
    A0s)
   (A0c (A1s (A3z (A0q A1m (by rfl) T.aa Z0d (A0a (pv 0) (A0a (A3q (v:=V.ty "tuple") rfl T.bn Z0m rfl) A0d))))
    (A0f (A0p (A3g A3w (by rfl) T.bn Z0m (A0a (A3n (N':=["member"]) (ix:=(List.replicate 1 none)) rfl (A2x rfl (by decide +kernel) (by decide +kernel)) (A2y rfl) (B1v (pv 0)) (λ_ _ _ _=>(A0k (i:=0) A5d)) (λ_ _ _ _=>(pcl Ga0 hr T.ae (A0a (pv 0) A0d)))) A0d))))
    A0s)
   (A0c (A1s (A3z (A0q A1m (by rfl) T.aa Z0d (A0a (pv 0) (A0a (A3q (v:=V.ty "dict") rfl T.gv Z2q rfl) A0d))))
    (A0f (A0p (pcl Ga1 hr T.a_ (A0a (pv 0) A0d))))
    A0s)
   (A0f (A0p (pv 0)))))),?_⟩
  refine ⟨_,rfl,_,_,_,_,rfl,.dK hd,B6g (by decide +kernel) (by decide +kernel) (by decide +kernel),false,rfl,A7x ?_⟩;refine ⟨_,rfl,_,_,_,_,rfl,.dK hd,B6g (by decide +kernel) (by decide +kernel) (by decide +kernel),false,rfl,A7x ?_⟩;exact ⟨_,rfl,_,_,_,_,rfl,.dK hd,A6e "dict",true,rfl,D5g ⟨_,rfl,h0⟩⟩
def D8o (A:Adr):Sp:=λvs H Q E=>(D0b 2 vs H Q E\/D3z A vs H Q E)\/D5t vs H Q E
theorem C9i (T:Txt K mg t):FO P w base T.ae 4 (D8o t):=A4q.or (A4q.or ((B2l T 2).mono (by lia)) ((D5w T).mono (by lia))) (D5m T)
theorem C0u (T:Txt K mg t):FP P w mg base T.fj 5 (D2g t):=by
 have Ga0:= @C9i P w K mg base t T;refine T.fj.F.ok B9d (by walk_at "ln") λ_ A _ s H _ Q E hr h=> ?_
 ·obtain ⟨p,dx,l,x,ix,rfl,hp,rp,hix,k⟩:=h;have hcn:=E1f (ix:=ix)
  refine ⟨_,(A0c (A3y (pv 0) (pv 1) rfl)
   (A0f (A3y (pv 0) (pcl Ga0 hr T.ae (A0a (pv 2) A0d)) rfl))),_,rfl,_,rfl,p,_,dx,[],rfl,hp,T.fm,T.g9,(by decide),?_⟩
  refine ⟨_,rfl,.inl (.inl ⟨.ref l,B1l ix,rfl,rp.ins hp,D0y,by lia,λv' H2 s2 rp2=> ?_⟩)⟩;have hp2:=s2 _ _ (A0b (H:=H) (a:=p));obtain ⟨l',xs,rfl,el,rs⟩:=B3r (show Rep _ v' (.list (ix.map C1l)) from rp2);refine ⟨_,rfl,p,_,dx,_,rfl,hp2,T.fm,T.e7,(by show 1<1000;decide),?_⟩;show Q V.non (upd H2 p (.ins t.bc dx (A8e "indexes" (.ref l') (A8e "array" (.str x) []))));rw [A2h,A1q (by decide +kernel),A2h];refine k l' _ A0b (rp2.same λb o e=> ?_) λb o hb e=> ?_
  ·obtain ⟨hb,e2⟩:=A0v e;have hb:upd H p _ b=none:=hb;have bp:b≠p:=λz=>by rw [z,A0b] at hb;cases hb
   rw [A0h bp] at hb;exact A1k hb (by rw [A0h bp];exact e2)
  rw [A0h hb];exact s2 _ _ (by rw [A0h hb];exact e)
def KB (p:Addr) (H H':Hp):Prop:=∀b o,b≠p->H b=some o->H' b=some o
theorem KB.upd (k:KB p H H'):KB p H (upd H' p o):=λb u hb e=>by rw [A0h hb];exact k b u hb e
theorem KB.refl:KB p H H:=λ_ _ _ e=>e
theorem KB.trans (a:KB p H H') (b:KB p H' H2):KB p H H2:=λc o hc e=>b c o hc (a c o hc e)
theorem KB.of (s:A0r H H'):KB p H H':=λb o _ e=>s _ _ e
theorem KB.free {u:HO} (k:KB p H H') (hp:H' p=some u) (hb:H' b=none):H b=none:=by
 cases e:H b with
 | none=>rfl
 | some o =>
  have hne:b≠p:=λz=>by subst z;rw [hp] at hb;cases hb
  rw [k b o hne e] at hb;cases hb
theorem KB.kt {u:HO} (k:KB p H H') (hp:H p=some u) (n:∀xs,u≠.tup xs):KT H H':=λb xs e=>k b _ (A1g e hp (n xs).symm) e
theorem KB.same (s:A0r H H2) (k:KB p H2 H') (hp:H p=none):A0r H H':=λb o e=>k b o (A0i e hp) (s _ _ e)
abbrev AR (S:Addr->Prop) (H:Hp) (kvs:List (Key×V)) (es:List (Str×List Str)):Prop:=Paired (λ(p:Key×V) (e:Str×List Str)=>p.1=Sum.inr e.1/\∃b,p.2= .ref b/\S b/\H b=some (.lst (e.2.map V.str))) kvs es
theorem AR.imp {S':Addr->Prop} (h:AR S H kvs es) (f:∀b xs,S b->H b=some (.lst xs)->S' b/\H' b=some (.lst xs)):AR S' H' kvs es :=
 Paired.mapP h λ_ _ ⟨z1,b,z2,z3,z4⟩=>⟨z1,b,z2,(f b _ z3 z4).1,(f b _ z3 z4).2⟩
theorem AR.same (h:AR S H kvs es) (s:A0r H H'):AR S H' kvs es:=h.imp λb xs z e=>⟨z,s _ _ e⟩
theorem AR.src {S:Addr->Prop} {H:Hp}:∀{kvs:List (Key×V)} {es:List (Str×List Str)},AR S H kvs es->(∀e∈es,e.2.length<=100)->Paired (λ(a:Key×V) (x:PyData)=>Rep H a.2 x/\PyData.depth x<=1/\cnt x<=100000) kvs (es.map λe=>B6a e.2)
 | _,_,.nil,_=> .nil
 | _,_,@Paired.cons _ _ _ p e _ _ ⟨_,b,z2,_,z4⟩ t,h=>by
  obtain ⟨c2,c3⟩:=B1j e.2;have:=h e (.head _);exact .cons ⟨by rw [z2];exact C6t z4,c2,(by show cnt (B6a e.2)<=100000;lia)⟩ (AR.src t λx hx=>h x (.tail _ hx))
theorem D8m {S S':Addr->Prop} {H H':Hp}:∀{kvs kvs':List (Key×V)} {es:List (Str×List Str)},AR S H kvs es->kvs'.map (·.1)=kvs.map (·.1)->Paired (λ(b:Key×V) (x:PyData)=>Rep (A2t S' H') b.2 x) kvs' (es.map λe=>B6a e.2)->AR S' H' kvs' es
 | _,[],_,.nil,_,_=> .nil
 | _,_::_,_,.nil,ks,_=>by cases ks
 | _,[],_,.cons _ _,ks,_=>by cases ks
 | _,q::r,_,@Paired.cons _ _ _ p e _ _ ⟨z1,_⟩ t,ks,pr=>by
  rw [Z0p,Z0p] at ks;injection ks with k1 k2;rw [Z0p] at pr
  cases pr with
  | cons a pr =>
   obtain ⟨b,e1,e2⟩:=D0k a;exact .cons ⟨k1.trans z1,b,e1,(A0v e2).1,(A0v e2).2⟩ (D8m t k2 pr)
abbrev D2t (kvs:List (Key×V)) (is:List Int):Prop:=Paired (λ(p:Key×V) (i:Int)=>p.2= .int i) kvs is
theorem C3p {H:Hp}:∀{kvs:List (Key×V)} {is:List Int},D2t kvs is->Paired (λ(a:Key×V) (x:PyData)=>Rep H a.2 x/\PyData.depth x<=1/\cnt x<=100000) kvs (is.map PyData.int)
 | _,_,.nil=> .nil
 | _,_,.cons a t=> .cons ⟨by rw [a];exact .int _,by simp [PyData.depth],by simp [cnt]⟩ (C3p t)
theorem C8s {S:Addr->Prop} {H:Hp}:∀{kvs kvs':List (Key×V)} {is:List Int},D2t kvs is->kvs'.map (·.1)=kvs.map (·.1)->Paired (λ(b:Key×V) (x:PyData)=>Rep (A2t S H) b.2 x) kvs' (is.map PyData.int)->kvs'=kvs
 | _,[],_,.nil,_,_=>rfl
 | _,_::_,_,.nil,ks,_=>by cases ks
 | _,[],_,.cons _ _,ks,_=>by cases ks
 | _,q::r,_,@Paired.cons _ _ _ p i _ _ a t,ks,pr=>by
  rw [Z0p,Z0p] at ks;injection ks with k1 k2;rw [Z0p] at pr
  cases pr with
  | cons b pr =>
   rw [C8s t k2 pr];have hb:=C7d b;have:q=p:=Prod.ext k1 (hb.trans a.symm);rw [this]
inductive B5h (A:Adr) (vs:List V) (H:Hp) (Q:VK):Prop
 | mk (p dx l m:Addr) (n:V) (x:Str) (ys zs:List Str) (_:vs=[.ref p,.str x,.ref l,.ref m,n]) (_:H p=some (.ins A.am dx [])) (_:H l=some (.lst (ys.map V.str))) (_:H m=some (.lst (zs.map V.str))) (_:ys.length<=1000) (_:zs.length<=1000) (_:∀(c u:Addr) (H':Hp),H c=none->H u=none->H' p=some (.ins A.am dx [("name",.str x),("axes",.ref c),("sums",.ref u),("term",n)])->H' c=some (.lst (ys.map V.str))->H' u=some (.lst (zs.map V.str))->KB p H H'->Q .non H'):B5h A vs H Q
def C8t (A:Adr):Sp:=λvs H Q _=>B5h A vs H Q
abbrev clo (A:Adr) (dx:Addr) (wh:Int) (l a tb ln o:Addr):HO:= .ins A.ag dx [("wheel",.int wh),("lengths",.ref l),("arrays",.ref a),("tables",.ref tb),("lines",.ref ln),("outs",.ref o)]
inductive B9g (A:Adr) (vs:List V) (H:Hp) (Q:VK):Prop
 | mk (p dx ld ad tl lv ol:Addr) (wh:Int) (lk ak:List (Key×V)) (is:List Int) (es:List (Str×List Str)) (tb os:List Str) (xs:List V) (S:Addr->Prop) (_:vs=[.ref p,.int wh,.ref ld,.ref ad,.ref tl,.ref lv,.ref ol]) (_:H p=some (.ins A.ag dx [])) (_:H ld=some (.dK lk)) (_:D2t lk is) (_:lk.length<=1000) (_:H ad=some (.dK ak)) (_:AR S H ak es) (_:es.length<=1000) (_:(∀e∈es,e.2.length<=100)) (_:H tl=some (.lst (tb.map V.str))) (_:tb.length<=1000) (_:H lv=some (.lst xs)) (_:xs.length<=1000) (_:(∀x∈xs,∃a dx fs,x= .ref a/\a≠p/\H a=some (.ins A.am dx fs))) (_:H ol=some (.lst (os.map V.str))) (_:os.length<=1000) (_:∀(l' a' t' v' o':Addr) (ak':List (Key×V)) (H':Hp),H' p=some (clo A dx wh l' a' t' v' o')->H l'=none->H' l'=some (.dK lk)->H a'=none->H' a'=some (.dK ak')->AR (λb=>H b=none) H' ak' es->H t'=none->H' t'=some (.lst (tb.map V.str))->H v'=none->H' v'=some (.lst xs)->H o'=none->H' o'=some (.lst (os.map V.str))->KB p H H'->Q .non H'):B9g A vs H Q
def D1t (A:Adr):Sp:=λvs H Q _=>B9g A vs H Q
theorem B9r (T:Txt K mg t):FP P w mg base T.fb 5 (C8t t):=by
 have Ga0:= @C9i P w K mg base t T;refine T.fb.F.ok B8x (by walk_at "ln") λ_ A _ s H _ Q E hr h=> ?_
 ·obtain ⟨p,dx,l,m,n,x,ys,zs,rfl,hp,hl,hm,ly,lz,k⟩:=h;obtain ⟨c2,c3⟩:=B1j ys;obtain ⟨d2,d3⟩:=B1j zs;have lp:l≠p:=A1g hl hp (by intro z;cases z);have mp:m≠p:=A1g hm hp (by intro z;cases z);have e1:∀v:V,A8e "axes" v [("name",.str x)]=([("name",.str x),("axes",v)]:List (Str×V)):=λv=>by rw [A1q (by decide +kernel),A2h]
  have e2:∀u v:V,A8e "sums" v [("name",.str x),("axes",u)]=([("name",.str x),("axes",u),("sums",v)]:List (Str×V)):=λu v=>by rw [A1q (by decide +kernel),A1q (by decide +kernel),A2h]
  have e3:∀u1 u v:V,A8e "term" v [("name",.str x),("axes",u1),("sums",u)]=([("name",.str x),("axes",u1),("sums",u),("term",v)]:List (Str×V)):=λu1 u v=>by rw [A1q (by decide +kernel),A1q (by decide +kernel),A1q (by decide +kernel),A2h]
  refine ⟨_,(A0c (A3y (pv 0) (pv 1) rfl)
   (A0c (A3y (pv 0) (pcl Ga0 hr T.ae (A0a (pv 2) A0d)) rfl)
   (A0c (A3y (pv 0) (pcl Ga0 hr T.ae (A0a (pv 3) A0d)) rfl)
   (A0f (A3y (pv 0) (pv 4) rfl))))),_,rfl,_,rfl,p,_,dx,[],rfl,hp,T.bf,T.i8,(by decide),?_⟩
  rw [A2h];have k1:KB p H (upd H p (.ins t.am dx [("name",.str x)])):=KB.refl.upd;refine ⟨_,rfl,.inl (.inl ⟨.ref l,B6a ys,rfl,C6t (k1 _ _ lp hl),by lia,by lia,λv' H2 s2 rp2=> ?_⟩)⟩;have hp2:=s2 _ _ (A0b (H:=H) (a:=p));obtain ⟨c,rfl,ec⟩:=D0k rp2;obtain ⟨hc1,ec⟩:=A0v ec;have hcn:H c=none:=k1.free A0b hc1;have cp:c≠p:=λz=>by subst z;rw [hp] at hcn;cases hcn
  refine ⟨_,rfl,p,_,dx,_,rfl,hp2,T.bf,T.dt,(by show 1<1000;decide),?_⟩;rw [e1];have k2:KB p H (upd H2 p (.ins t.am dx [("name",.str x),("axes",.ref c)])):=(k1.trans (KB.of s2)).upd;refine ⟨_,rfl,.inl (.inl ⟨.ref m,B6a zs,rfl,C6t (k2 _ _ mp hm),by lia,by lia,λv'' H3 s3 rp3=> ?_⟩)⟩;have hp3:=s3 _ _ (A0b (H:=H2) (a:=p));obtain ⟨u,rfl,eu⟩:=D0k rp3;obtain ⟨hu1,eu⟩:=A0v eu;have hun:H u=none:=k2.free A0b hu1;have up:u≠p:=λz=>by subst z;rw [hp] at hun;cases hun
  refine ⟨_,rfl,p,_,dx,_,rfl,hp3,T.bf,T.c7,(by show 2<1000;decide),?_⟩;rw [e2];refine ⟨_,rfl,_,rfl,p,_,dx,_,rfl,A0b,T.bf,T.ia,(by show 3<1000;decide),?_⟩;show Q V.non (upd (upd H3 p _) p _);rw [B0c,e3];exact k c u _ hcn hun A0b (by rw [A0h cp];exact s3 _ _ (by rw [A0h cp];exact ec)) (by rw [A0h up];exact eu) (k2.trans (KB.of s3)).upd
theorem B6k (T:Txt K mg t):FP P w mg base T.dl 5 (D1t t):=by
 have Ga0:= @C9i P w K mg base t T;refine T.dl.F.ok B8j (by walk_at "ln") λ_ A _ s H _ Q E hr h=> ?_
 ·obtain ⟨p,dx,ld,ad,tl,lv,ol,wh,lk,ak,is,es,tb,os,xs,S,rfl,hp,hld,il,ll,had,ar,les,les2,htl,ltb,hlv,lxs,hxs,hol,los,k⟩:=h;have f1:∀v:V,A8e "lengths" v [("wheel",.int wh)]=([("wheel",.int wh),("lengths",v)]:List (Str×V)):=λv=>by rw [A1q (by decide +kernel),A2h]
  have f2:∀u v:V,A8e "arrays" v [("wheel",.int wh),("lengths",u)]=([("wheel",.int wh),("lengths",u),("arrays",v)]:List (Str×V)):=λu v=>by rw [A1q (by decide +kernel),A1q (by decide +kernel),A2h]
  have f3:∀u1 u v:V,A8e "tables" v [("wheel",.int wh),("lengths",u1),("arrays",u)]=([("wheel",.int wh),("lengths",u1),("arrays",u),("tables",v)]:List (Str×V)):=λu1 u v=>by rw [A1q (by decide +kernel),A1q (by decide +kernel),A1q (by decide +kernel),A2h]
  have f4:∀u1 u2 u v:V,A8e "lines" v [("wheel",.int wh),("lengths",u1),("arrays",u2),("tables",u)]=([("wheel",.int wh),("lengths",u1),("arrays",u2),("tables",u),("lines",v)]:List (Str×V)):=λu1 u2 u v=>by rw [A1q (by decide +kernel),A1q (by decide +kernel),A1q (by decide +kernel),A1q (by decide +kernel),A2h]
  have f5:∀u1 u2 u3 u v:V,A8e "outs" v [("wheel",.int wh),("lengths",u1),("arrays",u2),("tables",u3),("lines",u)]=([("wheel",.int wh),("lengths",u1),("arrays",u2),("tables",u3),("lines",u),("outs",v)]:List (Str×V)):=λu1 u2 u3 u v=>by rw [A1q (by decide +kernel),A1q (by decide +kernel),A1q (by decide +kernel),A1q (by decide +kernel),A1q (by decide +kernel),A2h]
  have np:∀{b:Addr} {u:HO},H b=some u->(∀C d fs,u≠.ins C d fs)->b≠p:=λe n z=>by subst z;rw [hp] at e;cases e;exact n _ _ _ rfl
  have nn:∀{b:Addr},H b=none->b≠p:=λe z=>by subst z;rw [hp] at e;cases e
  refine ⟨_,(A0c (A3y (pv 0) (pv 1) rfl)
   (A0c (A3y (pv 0) (pcl Ga0 hr T.ae (A0a (pv 2) A0d)) rfl)
   (A0c (A3y (pv 0) (pcl Ga0 hr T.ae (A0a (pv 3) A0d)) rfl)
   (A0c (A3y (pv 0) (pcl Ga0 hr T.ae (A0a (pv 4) A0d)) rfl)
   (A0c (A3y (pv 0) (pcl Ga0 hr T.ae (A0a (pv 5) A0d)) rfl)
   (A0f (A3y (pv 0) (pcl Ga0 hr T.ae (A0a (pv 6) A0d)) rfl))))))),_,rfl,_,rfl,p,_,dx,[],rfl,hp,T.aj,T.jm,(by decide),?_⟩
  rw [A2h];obtain ⟨G0,hG0⟩:∃G0,G0=upd H p (.ins t.ag dx [("wheel",.int wh)]):=⟨_,rfl⟩;rw [<-hG0];have p0:G0 p=some (.ins t.ag dx [("wheel",.int wh)]):=by rw [hG0];exact A0b
  have k0:KB p H G0:=by rw [hG0];exact KB.refl.upd
  refine ⟨_,rfl,.inr ⟨ld,lk,is.map PyData.int,rfl,k0 _ _ (np hld (by intros;intro z;cases z)) hld,by lia,C3p il,λl' lk' H1 hl' s1 h1 ks cp=> ?_⟩⟩;have ek:=C8s il ks cp;subst ek;have nl:H l'=none:=k0.free p0 hl';refine ⟨_,rfl,p,_,dx,_,rfl,s1 _ _ p0,T.aj,T.ao,(by show 1<1000;decide),?_⟩;rw [f1];obtain ⟨G1,hG1⟩:∃G1,G1=upd H1 p (.ins t.ag dx [("wheel",.int wh),("lengths",.ref l')]):=⟨_,rfl⟩;rw [<-hG1];have p1:G1 p=some (.ins t.ag dx [("wheel",.int wh),("lengths",.ref l')]):=by rw [hG1];exact A0b
  have k1:KB p H G1:=by rw [hG1];exact (k0.trans (KB.of s1)).upd
  have gl1:G1 l'=some (.dK lk'):=by rw [hG1,A0h (nn nl)];exact h1
  have ar1:AR (λb=>S b) G1 ak es:=ar.imp λb ys z e=>⟨z,k1 _ _ (np e (by intros;intro z;cases z)) e⟩;refine ⟨_,rfl,.inr ⟨ad,ak,_,rfl,k1 _ _ (np had (by intros;intro z;cases z)) had,by have:=Paired.length ar;lia,ar1.src les2,λa' ak' H2 ha' s2 h2 ks2 cp2=> ?_⟩⟩;have arc:=D8m ar1 ks2 cp2;have na:H a'=none:=k1.free p1 ha';refine ⟨_,rfl,p,_,dx,_,rfl,s2 _ _ p1,T.aj,T.bx,(by show 2<1000;decide),?_⟩;rw [f2];obtain ⟨G2,hG2⟩:∃G2,G2=upd H2 p (.ins t.ag dx [("wheel",.int wh),("lengths",.ref l'),("arrays",.ref a')]):=⟨_,rfl⟩;rw [<-hG2];have p2:G2 p=some (.ins t.ag dx [("wheel",.int wh),("lengths",.ref l'),("arrays",.ref a')]):=by rw [hG2];exact A0b
  have j2:KB p G1 G2:=by rw [hG2];exact (KB.of s2).upd
  have k2:=k1.trans j2;have ga2:G2 a'=some (.dK ak'):=by rw [hG2,A0h (nn na)];exact h2
  have ar2:AR (λb=>H b=none) G2 ak' es:=arc.imp λb ys z e=>⟨k1.free p1 z,by rw [hG2,A0h (nn (k1.free p1 z))];exact e⟩;obtain ⟨c2,c3⟩:=B1j tb;refine ⟨_,rfl,.inl (.inl ⟨.ref tl,B6a tb,rfl,C6t (k2 _ _ (np htl (by intros;intro z;cases z)) htl),by lia,by lia,λvt H3 s3 rp3=> ?_⟩)⟩;obtain ⟨t',rfl,et⟩:=D0k rp3;obtain ⟨ht1,et⟩:=A0v et;have nt:H t'=none:=k2.free p2 ht1;refine ⟨_,rfl,p,_,dx,_,rfl,s3 _ _ p2,T.aj,T.iw,(by show 3<1000;decide),?_⟩;rw [f3];obtain ⟨G3,hG3⟩:∃G3,G3=upd H3 p (.ins t.ag dx [("wheel",.int wh),("lengths",.ref l'),("arrays",.ref a'),("tables",.ref t')]):=⟨_,rfl⟩;rw [<-hG3];have p3:G3 p=some (.ins t.ag dx [("wheel",.int wh),("lengths",.ref l'),("arrays",.ref a'),("tables",.ref t')]):=by rw [hG3];exact A0b
  have j3:KB p G2 G3:=by rw [hG3];exact (KB.of s3).upd
  have k3:=k2.trans j3;have gt3:G3 t'=some (.lst (tb.map V.str)):=by rw [hG3,A0h (nn nt)];exact et
  refine ⟨_,rfl,.inl (.inr ⟨lv,xs,rfl,k3 _ _ (np hlv (by intros;intro z;cases z)) hlv,lxs,λx hx=> ?_,λv' H4 hv' s4 hv4=> ?_⟩)⟩
  ·obtain ⟨b,db,fs,rfl,nb,eb⟩:=hxs x hx;exact ⟨b,db,fs,rfl,k3 _ _ nb eb⟩
  have nv:H v'=none:=k3.free p3 hv';refine ⟨_,rfl,p,_,dx,_,rfl,s4 _ _ p3,T.aj,T.bh,(by show 4<1000;decide),?_⟩;rw [f4];obtain ⟨G4,hG4⟩:∃G4,G4=upd H4 p (.ins t.ag dx [("wheel",.int wh),("lengths",.ref l'),("arrays",.ref a'),("tables",.ref t'),("lines",.ref v')]):=⟨_,rfl⟩;rw [<-hG4];have p4:G4 p=some (.ins t.ag dx [("wheel",.int wh),("lengths",.ref l'),("arrays",.ref a'),("tables",.ref t'),("lines",.ref v')]):=by rw [hG4];exact A0b
  have j4:KB p G3 G4:=by rw [hG4];exact (KB.of s4).upd
  have k4:=k3.trans j4;have gv4:G4 v'=some (.lst xs):=by rw [hG4,A0h (nn nv)];exact hv4
  obtain ⟨o2,o3⟩:=B1j os;refine ⟨_,rfl,.inl (.inl ⟨.ref ol,B6a os,rfl,C6t (k4 _ _ (np hol (by intros;intro z;cases z)) hol),by lia,by lia,λvo H5 s5 rp5=> ?_⟩)⟩;obtain ⟨o',rfl,eo⟩:=D0k rp5;obtain ⟨ho1,eo⟩:=A0v eo;have no:H o'=none:=k4.free p4 ho1;refine ⟨_,rfl,p,_,dx,_,rfl,s5 _ _ p4,T.aj,T.ga,(by show 5<1000;decide),?_⟩;show Q V.non (upd H5 p _);rw [f5];have j5:KB p G4 (upd H5 p (clo t dx wh l' a' t' v' o')):=(KB.of s5).upd;have up:=λ{b:Addr} (hb:H b=none) {u:HO} (e:G4 b=some u)=>j5 _ _ (nn hb) e;exact k l' a' t' v' o' ak' _ A0b nl (up nl (j4 _ _ (nn nl) (j3 _ _ (nn nl) (j2 _ _ (nn nl) gl1)))) na (up na (j4 _ _ (nn na) (j3 _ _ (nn na) ga2))) (ar2.imp λb ys z e=>⟨z,up z (j4 _ _ (nn z) (j3 _ _ (nn z) e))⟩) nt (up nt (j4 _ _ (nn nt) gt3)) nv (up nv gv4) no (by rw [A0h (nn no)];exact eo) (k4.trans j5)
def Gd:Tm->Prop
 | .read _ ix=>ix.length<=100
 | .sum _ b=>Gd b
 | .pair _ l r=>Gd l/\Gd r
 | .guard _ _ _ l r=>Gd l/\Gd r
 | _=>True
structure B8g (n:Nat) (u:Tm) (H:Hp) (d l:Addr) (kvs lk:List (Key×V)):Prop where
 good:Gd u
 deep:dep u<=n
 hd:H d=some (.dK kvs)
 at_:E2d kvs u
 hl:H l=some (.dK lk)
 ax:∃AX,Axs AX u/\E0g AX lk
 few:kvs.length+n<=1000
 most:(rd (ai lk) u (ai kvs)).length<=100000
theorem B8g.same (h:B8g n u H d l kvs lk) (s:A0r H H'):B8g n u H' d l kvs lk:=⟨h.good,h.deep,s _ _ h.hd,h.at_,s _ _ h.hl,h.ax,h.few,h.most⟩
theorem B8g.left {o:Op3} {a b:Tm} (h:B8g (n+1) (.pair o a b) H d l kvs lk):B8g n a H d l kvs lk:=by
 obtain ⟨AX,a1,a2⟩:=h.ax;have hdep:=h.deep;have hfew:=h.few;have hmost:=h.most;simp only [dep] at hdep;simp only [rd,Z06] at hmost;exact ⟨h.good.1,by lia,h.hd,λx hx=>h.at_ x (.inl hx),h.hl,⟨AX,a1.1,a2⟩,by lia,by lia⟩
theorem B8g.right {o:Op3} {a b:Tm} (h:B8g (n+1) (.pair o a b) H d l kvs lk):B8g n b H d l kvs lk:=by
 obtain ⟨AX,a1,a2⟩:=h.ax;have hdep:=h.deep;have hfew:=h.few;have hmost:=h.most;simp only [dep] at hdep;simp only [rd,Z06] at hmost;exact ⟨h.good.2,by lia,h.hd,λx hx=>h.at_ x (.inr hx),h.hl,⟨AX,a1.2,a2⟩,by lia,by lia⟩
theorem B8g.inner {a b:Tm} (h:B8g (n+1) (.guard x lo hi a b) H d l kvs lk) (c:lo<=ai kvs x/\ai kvs x<hi):B8g n a H d l kvs lk/\rd (ai lk) (.guard x lo hi a b) (ai kvs)=rd (ai lk) a (ai kvs):=by
 obtain ⟨AX,a1,a2⟩:=h.ax;have hdep:=h.deep;have hfew:=h.few;have hmost:=h.most;have e:rd (ai lk) (.guard x lo hi a b) (ai kvs)=rd (ai lk) a (ai kvs):=by simp only [rd];rw [Z12 c]
 rw [e] at hmost;simp only [dep] at hdep;exact ⟨⟨h.good.1,by lia,h.hd,λx hx=>h.at_ x (.inr (.inl hx)),h.hl,⟨AX,a1.2.1,a2⟩,by lia,hmost⟩,e⟩
theorem B8g.outer {a b:Tm} (h:B8g (n+1) (.guard x lo hi a b) H d l kvs lk) (c:¬(lo<=ai kvs x/\ai kvs x<hi)):B8g n b H d l kvs lk/\rd (ai lk) (.guard x lo hi a b) (ai kvs)=rd (ai lk) b (ai kvs):=by
 obtain ⟨AX,a1,a2⟩:=h.ax;have hdep:=h.deep;have hfew:=h.few;have hmost:=h.most;have e:rd (ai lk) (.guard x lo hi a b) (ai kvs)=rd (ai lk) b (ai kvs):=by simp only [rd];rw [Z0t c]
 rw [e] at hmost;simp only [dep] at hdep;exact ⟨⟨h.good.2,by lia,h.hd,λx hx=>h.at_ x (.inr (.inr hx)),h.hl,⟨AX,a1.2.2,a2⟩,by lia,hmost⟩,e⟩
theorem B8g.gat {a b:Tm} (h:B8g n (.guard x lo hi a b) H d l kvs lk) (s:A0r H H'):A9r H' d (.str x) (some (.int (ai kvs x))):=by
 have g:=A9r.k (H:=H') (a:=d) (k:=Sum.inr x) (s _ _ h.hd);rw [h.at_ x (.inl rfl)] at g;exact g
def RdQ (H:Hp) (rs:List (Str×List Int)) (Q:VK):Prop:=∀(p:Addr) (es:List V) (H':Hp),H p=none->A0r H H'->H' p=some (.lst es)->Rds H' es rs->Q (.ref p) H'
inductive B1y (vs:List V) (H:Hp) (Q:VK):Prop
 | mk (x:Str) (z:Int) (d:Addr) (kvs:List (Key×V)) (_:vs=[.str x,.int z,.ref d]) (_:H d=some (.dK kvs)) (_:(¬x=""->A1y kvs (Sum.inr x)=some (.int (ai kvs x)))) (_:Q (.int (if x="" then z else ai kvs x+z)) H):B1y vs H Q
def C2h:Sp:=λvs H Q _=>B1y vs H Q
inductive B3e (A:Adr) (vs:List V) (H:Hp) (Q:VK):Prop
 | mk (o dx d l:Addr) (a:Str) (ix:List (Str×Int)) (kvs:List (Key×V)) (_:vs=[.ref o,.ref d]) (_:H o=some (.ins A.bc dx [("array",.str a),("indexes",.ref l)])) (_:Rep H (.ref l) (B1l ix)) (_:ix.length<=100) (_:H d=some (.dK kvs)) (_:(∀e∈ix,¬e.1=""->A1y kvs (Sum.inr e.1)=some (.int (ai kvs e.1)))) (_:∀(p:Addr) (H':Hp),H p=none->A0r H H'->H' p=some (.tup ((A8d (ai kvs) ix).map V.int))->Q (.ref p) H'):B3e A vs H Q
def C6k (A:Adr):Sp:=λvs H Q _=>B3e A vs H Q
inductive B5m (A:Adr) (vs:List V) (H:Hp) (Q:VK):Prop
 | mk (o dx d:Addr) (x:Str) (lo hi:Int) (u v:V) (kvs:List (Key×V)) (_:vs=[.ref o,.ref d]) (_:H o=some (.ins A.aq dx [("axis",.str x),("low",.int lo),("high",.int hi),("inner",u),("outer",v)])) (_:A9r H d (.str x) (some (.int (ai kvs x)))) (_:(lo<=ai kvs x/\ai kvs x<hi->Q u H)) (_:(¬(lo<=ai kvs x/\ai kvs x<hi)->Q v H)):B5m A vs H Q
def C8l (A:Adr):Sp:=λvs H Q _=>B5m A vs H Q
inductive E1c (A:Adr) (n:Nat) (is:Tm->Prop) (vs:List V) (H:Hp) (Q:VK):Prop
 | mk (v:V) (u:Tm) (d l:Addr) (kvs lk:List (Key×V)) (_:vs=[v,.ref d,.ref l]) (_:is u) (_:Ob A H v u) (_:B8g n u H d l kvs lk) (_:RdQ H (rd (ai lk) u (ai kvs)) Q):E1c A n is vs H Q
def E1e (A:Adr) (n:Nat) (is:Tm->Prop):Sp:=λvs H Q _=>E1c A n is vs H Q
theorem C3c (T:Txt K mg t):FO P w base T.g_ 1 C2h:=by
 refine T.g_.F.ok C2t (by walk_at "ln") λ_ A _ s H _ Q E hr h=> ?_
 ·obtain ⟨x,z,d,kvs,rfl,hd,hx,k⟩:=h;have hu:=A6c hr
  refine ⟨_,(A0c (A1s (A0t A3f (pv 0) A0o (A1i _))
    (A0f (A0p (pv 1)))
    A0s)
   (A0f (A0p (A0x A4a (A0u hu (pv 2) (pv 0)) (pv 1))))),?_⟩
  refine ⟨_,rfl,rfl,_,rfl,A3u (λh=> ?_) (λh=> ?_)⟩
  ·rw [Z12 (by injection h)] at k;exact ⟨_,rfl,k⟩
  ·have hn:¬x="":=λe=>h (by rw [e]);rw [Z0t hn] at k;have g:=A9r.k (H:=H) (a:=d) (k:=Sum.inr x) hd;rw [hx hn] at g;exact ⟨_,rfl,_,rfl,d,_,rfl,g,_,rfl,_,_,rfl,rfl,k⟩
theorem B3k (T:Txt K mg t):FP P w mg base T.c9 2 (C6k t):=by
 have Ga2:= @C3c P w K mg base t T;refine T.c9.F.ok B3l (by walk_at "ln") λ_ A _ s H _ Q E hr h=> ?_
 ·obtain ⟨o,dx,d,l,a,ix,kvs,rfl,ho,rp,hix,hd,hx,k⟩:=h;obtain ⟨_,es,q,el,rs⟩:=B3r (show Rep H (.ref l) (.list (ix.map C1l)) from rp);cases q;have hl:=rs.len;rw [Z08] at hl;refine ⟨_,(A0f (A0p (A3g A3w (by rfl) T.bn Z0m (A0a (A3n (N':=["axis","shift","at"]) (ix:=(List.replicate 2 none++[some 1])) (g:=E4o K 2 (D5q (B5c 0) (D5q (B5c 1) E4l))) rfl (A9b (x:="at") rfl rfl rfl (by decide +kernel) (by decide +kernel)) (A7b (N0:=["axis","shift"]) rfl (.inl rfl) (by walk_at "ix")) (A1n (A2z (pv 0) rfl)) (λ_ _ _ _=>(A5j (n:=2) rfl (A1a (A0k (i:=0) B8k) (A1a (A0k (i:=1) B8k) A3x)))) (λ_ _ _ _=>(pcl Ga2 hr T.g_ (A0a (pv 0) (A0a (pv 1) (A0a (pv 2) A0d)))))) A0d)))),?_⟩;refine ⟨_,rfl,o,_,dx,_,_,rfl,ho,T.fm,T.e7,(by walk_at "lk"),l,rfl,⟨_,SqL.of el⟩,λD hD=> ?_⟩;refine A3j (K:=K) (a:=l) (D:=D) (xs:=es) (λi ys H2=>A0r H H2/\H2 D=some (.lst ys)/\ys=(A8d (ai kvs) (ix.take i)).map V.int) ⟨A0e hD,A0b,rfl⟩ (λi ys H2 ⟨s2,_⟩=>SqL.of (s2 _ _ el)) ?_ ?_
  ·rintro i x ys H2 hx' ⟨s2,hD2,rfl⟩;refine B9q ?_;intro N';have hi:i<ix.length:=by have:=(Z03.mp hx').1;lia
   obtain ⟨dd,hdd,rx⟩:=rs.get2 hx';have hie:ix[i]? =some ix[i]:=Z0b hi;rw [Z1z,hie] at hdd;cases hdd;obtain ⟨q,rfl,eq⟩:=D4m rx;refine ⟨q,_,rfl,SqT.of (s2 _ _ eq),rfl,_,_,rfl,_,_,rfl,rfl,⟨rfl,True.intro⟩,_,rfl,_,rfl,_,rfl,ix[i].1,ix[i].2,d,kvs,rfl,s2 _ _ hd,hx _ (Z13 hie),?_⟩;refine ⟨hD2,A1c (by simp [A8d];lia),A0n s2 hD,A0b,?_⟩;rw [Z14,hie,Z2f];unfold A8d;rw [Z0s,Z0s];rfl
  ·rintro ys H2 ⟨s2,hD2,rfl⟩;rw [hl,Z18] at hD2;exact ⟨D,_,rfl,.inl ⟨SqL.of hD2,λp hp=>k p _ (s2.free hp) (s2.trans (A0e hp)) A0b⟩⟩
inductive C4z (A:Adr) (vs:List V) (H:Hp) (Q:VK):Prop
 | mk (o dx d:Addr) (x:Str) (lo hi:Int) (u v:V) (kvs:List (Key×V)) (_:vs=[.ref o,.ref d]) (_:H o=some (.ins A.aq dx [("axis",.str x),("low",.int lo),("high",.int hi),("inner",u),("outer",v)])) (_:A9r H d (.str x) (some (.int (ai kvs x)))) (_:Q (.bl (decide (lo<=ai kvs x/\ai kvs x<hi))) H):C4z A vs H Q
def D6j (A:Adr):Sp:=λvs H Q _=>C4z A vs H Q
theorem B2c (T:Txt K mg t):FP P w mg base T.c6 1 (D6j t):=by
 refine T.c6.F.ok B2a (by walk_at "ln") λ_ A _ s H _ Q E hr h=> ?_
 ·obtain ⟨o,dx,d,x,lo,hi,u,v,kvs,rfl,ho,g,k⟩:=h;have hu:=A6c hr;refine ⟨_,(A0f (A0p (D3p E0w D9d (A2z (pv 0) rfl) (A0u hu (pv 1) (A2z (pv 0) rfl)) (A2z (pv 0) rfl)))),?_⟩;refine ⟨_,rfl,o,_,dx,_,_,rfl,ho,T.aw,T.i5,(by walk_at "lk"),_,rfl,_,rfl,o,_,dx,_,_,rfl,ho,T.aw,T.gb,(by walk_at "lk"),d,_,rfl,g,_,_,rfl,rfl,_,rfl,A3u (λh1=> ?_) (λh1=> ?_)⟩
  ·have h1:lo<=ai kvs x:=h1;refine ⟨_,rfl,o,_,dx,_,_,rfl,ho,T.aw,T.gi,(by walk_at "lk"),_,_,rfl,rfl,?_⟩;have e:decide (lo<=ai kvs x/\ai kvs x<hi)=decide (ai kvs x<hi):=by simp [h1]
   rw [e] at k;exact k
  ·have h1:¬lo<=ai kvs x:=h1;have e:decide (lo<=ai kvs x/\ai kvs x<hi)=false:=Z1j λz=>h1 z.1;rw [e] at k;exact k
theorem B0j (T:Txt K mg t):FP P w mg base T.bi 2 (C8l t):=by
 have G:= @B2c P w K mg base t T;refine T.bi.F.ok B0f (by walk_at "ln") λ_ A _ s H _ Q E hr h=> ?_
 ·obtain ⟨o,dx,d,x,lo,hi,u,v,kvs,rfl,ho,g,k1,k2⟩:=h
  refine ⟨_,(A0c (A1s (A3z (A7k (pv 0) (A0a (pv 1) A0d)))
    (A0f (A0p (A2z (pv 0) rfl)))
    A0s)
   (A0f (A0p (A2z (pv 0) rfl)))),?_⟩
  refine ⟨_,rfl,o,_,dx,_,1,t.b_,t.e8,_,_,rfl,ho,T.aw,T.ig,(by walk_at "lk"),G,hr.mono (by lia),T.c6.b,_,rfl,o,dx,d,x,lo,hi,u,v,kvs,rfl,ho,g,_,rfl,A3u (λh1=> ?_) (λh1=> ?_)⟩
  ·exact ⟨_,rfl,o,_,dx,_,_,rfl,ho,T.aw,T.fk,(by walk_at "lk"),k1 h1⟩
  ·exact ⟨_,rfl,o,_,dx,_,_,rfl,ho,T.aw,T.ff,(by walk_at "lk"),k2 h1⟩
theorem B2p (T:Txt K mg t) (n:Nat):A4q P w K mg base CX0 1 t.cg t.e_ B5n (E1e t n λu=>∃z,u= .num z):=by
 refine T.fc.F.ok B4e (by walk_at "ln") λ_ A _ s H _ Q E hr h=> ?_
 ·obtain ⟨v,u,d,l,kvs,lk,rfl,⟨z,rfl⟩,ob,ask,k⟩:=h;exact ⟨_,(A0f (A0p (A2f A0d))),A0y rfl,λp hp=>k p [] _ hp (A0e hp) A0b .nil⟩
theorem B4q (T:Txt K mg t) (n:Nat):A4q P w K mg base CX0 1 t.de t.gg B5n (E1e t n λu=>∃z,u= .place z):=by
 refine T.gl.F.ok B4o (by walk_at "ln") λ_ A _ s H _ Q E hr h=> ?_
 ·obtain ⟨v,u,d,l,kvs,lk,rfl,⟨z,rfl⟩,ob,ask,k⟩:=h;exact ⟨_,(A0f (A0p (A2f A0d))),A0y rfl,λp hp=>k p [] _ hp (A0e hp) A0b .nil⟩
theorem B7r (T:Txt K mg t) (n:Nat):A4q P w K mg base CX0 3 t.dw t.i3 B5n (E1e t n λu=>∃z ix,u= .read z ix):=by
 have G:= @B3k P w K mg base t T;refine T.i9.F.ok B7v (by walk_at "ln") λ_ A _ s H _ Q E hr h=> ?_
 ·obtain ⟨v,u,d,l,kvs,lk,rfl,⟨z,ix,rfl⟩,ob,ask,k⟩:=h
  cases ob with
  | @read a dx li _ _ e rp =>
   refine ⟨_,(A0f (A0p (A2f (A0a (A1t (A0a (A2z (pv 0) rfl) (A0a (A7k (pv 0) (A0a (pv 1) A0d)) A0d))) A0d)))),?_⟩
   refine ⟨_,rfl,a,_,dx,_,_,rfl,e,T.fm,T.g9,(by walk_at "lk"),_,rfl,a,_,dx,_,2,t.cf,t.fi,_,_,rfl,e,T.fm,T.j9,(by walk_at "lk"),G,hr.mono (by lia),T.c9.b,_,rfl,
    a,dx,d,li,z,ix,kvs,rfl,e,rp,ask.good,ask.hd,λe he hn=>ask.at_ e.1 ⟨hn,e,he,rfl⟩,λq H2 hq s2 h2=> ?_⟩
   refine ⟨A0y rfl,λr hr'=>⟨A0y rfl,λp hp=> ?_⟩⟩;have s3:=s2.trans (A0e (o:= .tup [.str z,.ref q]) hr');exact k p [.ref r] _ (s3.free hp) (s3.trans (A0e hp)) A0b (.cons ⟨r,q,rfl,A4n hp A0b,A4n hp (A4n hr' h2)⟩ .nil)
def ROk (P:Program) (w:World) (K:Frag) (mg:Str->Option Value) (base:Heap) (A:Adr) (n:Nat):Prop:=∀(H:Hp) (v:V) (u:Tm),Ob A H v u->dep u<=n->
 ∃(a C dx:Addr) (fs:List (Str×V)) (k:Nat) (f:Addr) (fd:FuncData) (ps:List Str) (sp:Sp),v= .ref a/\H a=some (.ins C dx fs)/\Cls K C/\C4k K C "reads" f/\fs.lookup ("reads":Str)=none/\A4q P w K mg base CX0 k f fd ps sp/\k<=n+3/\B0z K fd ps []/\
  ∀(H':Hp) (d l:Addr) (kvs lk:List (Key×V)) (Q:VK),A0r H H'->B8g n u H' d l kvs lk->RdQ H' (rd (ai lk) u (ai kvs)) Q->sp [v,.ref d,.ref l] H' Q E0
theorem B5j (T:Txt K mg t) (k:Op3):Cls K (C3i t k):=by cases k with
 | plus=>exact T.nL
 | minus=>exact T.nB
 | times=>exact T.n6
theorem D1j (T:Txt K mg t) (k:Op3):A1z K (C3i t k) "left":=by cases k with
 | plus=>exact T.lj
 | minus=>exact T.ka
 | times=>exact T.jw
theorem D0w (T:Txt K mg t) (k:Op3):A1z K (C3i t k) "right":=by cases k with
 | plus=>exact T.jv
 | minus=>exact T.jd
 | times=>exact T.jf
theorem E1a (T:Txt K mg t) (k:Op3):C4k K (C3i t k) "reads" t.be:=by cases k with
 | plus=>exact T.jx
 | minus=>exact T.jp
 | times=>exact T.jg
theorem B7w (T:Txt K mg t) (W:ROk P w K mg base t n):A4q P w K mg base CX0 (n+4) t.be t.h_ B5n (E1e t (n+1) λu=>∃o x b,u= .pair o x b):=by
 refine T.i0.F.ok B6r (by walk_at "ln") λ_ A _ s H _ Q E hr h=> ?_
 ·obtain ⟨v,u,d,l,kvs,lk,rfl,⟨o,x,y,rfl⟩,ob,ask,k⟩:=h
  cases ob with
  | @pair a dx _ u v _ _ e ob1 ob2 =>
   have a1:=ask.left;have a2:=ask.right;have hm:=ask.most;simp only [rd,Z06] at hm;refine ⟨_,(A0f (A0p (A0x A8k (A7k (A2z (pv 0) rfl) (A0a (pv 1) (A0a (pv 2) A0d))) (A7k (A2z (pv 0) rfl) (A0a (pv 1) (A0a (pv 2) A0d)))))),?_⟩;refine ⟨_,rfl,a,_,dx,_,_,rfl,e,B5j T o,D1j T o,(by walk_at "lk"),?_⟩;obtain ⟨a',C',dx',fs',k',f',fd',ps',sp',rfl,e',c',m',l',F',hk',b',q'⟩:=W H u x ob1 a1.deep;refine ⟨a',C',dx',fs',k',f',fd',ps',sp',rfl,e',c',m',l',F',hr.mono (by lia),b',_,rfl,_,rfl,q' H d l kvs lk _ (A0r.refl _) a1 λp1 es1 H1 hp1 s1 h1 r1=> ?_⟩;refine ⟨_,rfl,a,_,dx,_,_,rfl,s1 _ _ e,B5j T o,D0w T o,(by walk_at "lk"),?_⟩;obtain ⟨a',C',dx',fs',k',f',fd',ps',sp',rfl,e',c',m',l',F',hk',b',q'⟩:=W H1 v y (ob2.imp s1) a2.deep;refine ⟨a',C',dx',fs',k',f',fd',ps',sp',rfl,e',c',m',l',F',hr.mono (by lia),b',_,rfl,_,rfl,q' H1 d l kvs lk _ (A0r.refl _) (a2.same s1) λp2 es2 H2 hp2 s2 h2 r2=> ?_⟩;have l1:=Paired.length r1;have l2:=Paired.length r2;refine ⟨p1,p2,_,_,rfl,rfl,s2 _ _ h1,h2,A2o (by lia),λp hp=> ?_⟩;have s3:=s1.trans (s2.trans (A0e (o:= .lst (es1++es2)) hp));exact k p _ _ (s1.free (s2.free hp)) s3 A0b (Paired.app (r1.same (s2.trans (A0e hp))) (r2.same (A0e hp)))
theorem B4p (T:Txt K mg t) (W:ROk P w K mg base t n):A4q P w K mg base CX0 (n+4) t.cx t.ge B5n (E1e t (n+1) λu=>∃x lo hi l r,u= .guard x lo hi l r):=by
 have G:= @B0j P w K mg base t T;refine T.gj.F.ok B5f (by walk_at "ln") λ_ A _ s H _ Q E hr h=> ?_
 ·obtain ⟨v,u,d,l,kvs,lk,rfl,⟨x,lo,hi,y,z,rfl⟩,ob,ask,k⟩:=h
  cases ob with
  | @guard a dx _ _ _ u v _ _ e ob1 ob2 =>
   refine ⟨_,(A0f (A0p (A7k (A7k (pv 0) (A0a (pv 1) A0d)) (A0a (pv 1) (A0a (pv 2) A0d))))),?_⟩
   refine ⟨_,rfl,a,_,dx,_,2,t.bm,t.cr,_,_,rfl,e,T.aw,T.gw,(by walk_at "lk"),G,hr.mono (by lia),T.bi.b,_,rfl,
    a,dx,d,x,lo,hi,u,v,kvs,rfl,e,ask.gat (A0r.refl _),λc=> ?_,λc=> ?_⟩
   ·obtain ⟨a1,eq⟩:=ask.inner c;rw [eq] at k;obtain ⟨a',C',dx',fs',k',f',fd',ps',sp',rfl,e',c',m',l',F',hk',b',q'⟩:=W H u y ob1 a1.deep;exact ⟨a',C',dx',fs',k',f',fd',ps',sp',rfl,e',c',m',l',F',hr.mono (by lia),b',_,rfl,_,rfl,q' H d l kvs lk _ (A0r.refl _) a1 k⟩
   ·obtain ⟨a1,eq⟩:=ask.outer c;rw [eq] at k;obtain ⟨a',C',dx',fs',k',f',fd',ps',sp',rfl,e',c',m',l',F',hk',b',q'⟩:=W H v z ob2 a1.deep;exact ⟨a',C',dx',fs',k',f',fd',ps',sp',rfl,e',c',m',l',F',hr.mono (by lia),b',_,rfl,_,rfl,q' H d l kvs lk _ (A0r.refl _) a1 k⟩
theorem rok (T:Txt K mg t):∀n:Nat,ROk P w K mg base t n
 | 0=>λH v u ob hd=>absurd hd (by have:=B7j u;lia)
 | n+1=>λH v u ob hd=>by
  have W:=rok T n
  cases id ob with
  | num e=>exact ⟨_,_,_,_,_,_,_,_,_,rfl,e,T.kd,T.i_,(by walk_at "lk"),B2p T (n+1),by lia,T.fc.b,λH' d l kvs lk Q s a k=>⟨_,_,d,l,kvs,lk,rfl,⟨_,rfl⟩,ob.imp s,a,k⟩⟩
  | place e=>exact ⟨_,_,_,_,_,_,_,_,_,rfl,e,T.lX,T.jh,(by walk_at "lk"),B4q T (n+1),by lia,T.gl.b,λH' d l kvs lk Q s a k=>⟨_,_,d,l,kvs,lk,rfl,⟨_,rfl⟩,ob.imp s,a,k⟩⟩
  | read e r=>exact ⟨_,_,_,_,_,_,_,_,_,rfl,e,T.fm,T.jz,(by walk_at "lk"),B7r T (n+1),by lia,T.i9.b,λH' d l kvs lk Q s a k=>⟨_,_,d,l,kvs,lk,rfl,⟨_,_,rfl⟩,ob.imp s,a,k⟩⟩
  | @pair _ _ o _ _ _ _ e o1 o2=>exact ⟨_,_,_,_,_,_,_,_,_,rfl,e,B5j T o,E1a T o,(by walk_at "lk"),B7w T W,by lia,T.i0.b,λH' d l kvs lk Q s a k=>⟨_,_,d,l,kvs,lk,rfl,⟨_,_,_,rfl⟩,ob.imp s,a,k⟩⟩
  | guard e o1 o2=>exact ⟨_,_,_,_,_,_,_,_,_,rfl,e,T.aw,T.jk,(by walk_at "lk"),B4p T W,by lia,T.gj.b,λH' d l kvs lk Q s a k=>⟨_,_,d,l,kvs,lk,rfl,⟨_,_,_,_,_,rfl⟩,ob.imp s,a,k⟩⟩
structure LnM where
 nm:Str
 own:List Str
 sums:List Str
 tm:Tm
inductive B1s (A:Adr) (M:List Addr) (H:Hp) (v:V) (e:LnM):Prop
 | mk (a dx c u:Addr) (n:V) (_:v= .ref a) (_:H a=some (.ins A.am dx [("name",.str e.nm),("axes",.ref c),("sums",.ref u),("term",n)])) (_:c∉M) (_:H c=some (.lst (e.own.map V.str))) (_:u∉M) (_:H u=some (.lst (e.sums.map V.str))) (_:Ob A (A2t (λb=>b∉M) H) n e.tm):B1s A M H v e
abbrev B3u (A:Adr) (M:List Addr) (H:Hp) (xs:List V) (rows:List LnM):Prop:=Paired (B1s A M H) xs rows
theorem B1s.same (h:B1s A M H v e) (s:A0r H H'):B1s A M H' v e:=by
 obtain ⟨a,dx,c,u,n,rfl,e1,m1,e2,m2,e3,ob⟩:=h;exact ⟨a,dx,c,u,n,rfl,s _ _ e1,m1,s _ _ e2,m2,s _ _ e3,ob.imp (A1x s)⟩
structure StM where
 k:Nat
 wd:Str
 ce:List Int
 tu:List Int
inductive D7y (H:Hp) (v:V) (s:StM):Prop
 | mk (b c u:_) (_:v= .ref b) (_:H b=some (.tup [.int (s.k:Nat),.str s.wd,.ref c,.ref u])) (_:H c=some (.tup (s.ce.map V.int))) (_:H u=some (.tup (s.tu.map V.int))):D7y H v s
theorem D7y.same {s:StM} (h:D7y H v s) (sm:A0r H H'):D7y H' v s:=by
 obtain ⟨b,c,u,rfl,h1,h2,h3⟩:=h;exact ⟨b,c,u,rfl,sm _ _ h1,sm _ _ h2,sm _ _ h3⟩
def atM (e:LnM) (s:StM):List (Key×V):=A4g [] (((e.own++e.sums).map (Sum.inr:Str->Key)).zip ((s.ce++s.tu).map V.int))
structure C5y (lk:List (Key×V)) (e:LnM) (s:StM):Prop where
 lc:s.ce.length=e.own.length
 lt:s.tu.length=e.sums.length
 l8:e.own.length+e.sums.length<=8
 good:Gd e.tm
 deep:dep e.tm<=10
 at_:E2d (atM e s) e.tm
 ax:∃AX,Axs AX e.tm/\E0g AX lk
 most:(rd (ai lk) e.tm (ai (atM e s))).length<=100000
inductive B3i (A:Adr) (vs:List V) (H:Hp) (Q:VK):Prop
 | mk (p dx l a tb ln o st:Addr) (wh:Int) (lk:List (Key×V)) (xs:List V) (M:List Addr) (rows:List LnM) (e:LnM) (s:StM) (_:vs=[.ref p,.ref st]) (_:H p=some (clo A dx wh l a tb ln o)) (_:H l=some (.dK lk)) (_:H ln=some (.lst xs)) (_:B3u A M H xs rows) (_:D7y H (.ref st) s) (_:rows[s.k]? =some e) (_:(s.wd="start"->RdQ H [] Q)/\(s.wd≠"start"->C5y lk e s/\RdQ H (rd (ai lk) e.tm (ai (atM e s))) Q)):B3i A vs H Q
def C5v (A:Adr):Sp:=λvs H Q _=>B3i A vs H Q
inductive A9m (A:Adr) (vs:List V) (H:Hp) (Q:VK):Prop
 | mk (p dx l a tb ln o st:Addr) (wh:Int) (xs:List V) (M:List Addr) (rows:List LnM) (e:LnM) (s:StM) (_:vs=[.ref p,.ref st]) (_:H p=some (clo A dx wh l a tb ln o)) (_:H ln=some (.lst xs)) (_:B3u A M H xs rows) (_:D7y H (.ref st) s) (_:rows[s.k]? =some e) (_:∀(q:Addr) (H':Hp),A0r H H'->D8a H' (.ref q) (e.nm,s.ce)->Q (.ref q) H'):A9m A vs H Q
def B7s (A:Adr):Sp:=λvs H Q _=>A9m A vs H Q
theorem D2o (acc:List (Key×V)):∀ws:List (Key×V),(A4g acc ws).length<=acc.length+ws.length:=by
 intro ws;unfold A4g
 induction ws generalizing acc with
 | nil=>simp
 | cons w r ih =>
  rw [List.foldl_cons];refine Z1n (ih _) ?_;have:=A3t acc w.1 w.2;rw [Z0y]
  lia
theorem A7l (T:Txt K mg t):FO P w base T.bj 1 (B7s t):=by
 refine T.bj.F.ok A4o (by walk_at "ln") λ_ A _ s H _ Q E hr h=> ?_
 ·obtain ⟨p,dx,l,a,tb,ln,o,st,wh,xs,M,rows,e,sp,rfl,hp,hln,lis,⟨b,c,u,eb,hb,hc,hu⟩,hk,k⟩:=h;cases eb;have lxs:=Paired.length lis;have hlt:sp.k<xs.length:=by rw [lxs];exact (Z03.mp hk).1
  have hxk:xs[sp.k]? =some xs[sp.k]:=Z0b hlt;obtain ⟨e',he',al,da,ca,cu,n,eal,h1,_⟩:=A6w lis hxk;rw [hk] at he';cases he'
  refine ⟨_,(A0c (A5f (pv 1) (A5j (n:=4) rfl (A1a (A0k (i:=2) A4o.nd) (A1a (A0k (i:=3) A4o.nd) (A1a (A0k (i:=4) A4o.nd) (A1a (A0k (i:=5) A4o.nd) A3x))))))
   (A0f (A0p (A1t (A0a (A2z (A1b A1l (A2z (pv 0) rfl) (pv 2)) rfl) (A0a (pv 4) A0d)))))),?_⟩
  refine ⟨_,rfl,st,_,rfl,SqT.of hb,rfl,_,_,rfl,_,_,rfl,_,_,rfl,_,_,rfl,rfl,?_⟩;have e0:atI xs ((sp.k:Nat):Int)=some (.ref al):=A0j (by rw [hxk,eal]);refine ⟨_,rfl,p,_,dx,_,_,rfl,hp,T.aj,T.bh,(by walk_at "lk"),_,rfl,ln,_,_,_,rfl,rfl,SqL.of hln,e0,al,_,da,_,_,rfl,h1,T.bf,T.i8,(by walk_at "lk"),_,rfl,A0y rfl,λq hq=> ?_⟩;have t1:=A0e (o:= .tup [.str e.nm,.ref c]) hq;exact k q _ t1 ⟨q,c,rfl,A0b,t1 _ _ hc⟩
theorem B5u (T:Txt K mg t):FO P w base T.fw 15 (C5v t):=by
 refine T.fw.F.ok A4x (by walk_at "ln") λ_ A _ s H _ Q E hr h=> ?_
 ·obtain ⟨p,dx,l,a,tb,ln,o,st,wh,lk,xs,M,rows,e,sp,rfl,hp,hl,hln,lis,⟨b,c,u,eb,hb,hc,hu⟩,hk,k1,k2⟩:=h;cases eb;have lxs:=Paired.length lis;have hlt:sp.k<xs.length:=by rw [lxs];exact (Z03.mp hk).1
  have hxk:xs[sp.k]? =some xs[sp.k]:=Z0b hlt;obtain ⟨e',he',al,da,ca,cu,n,eal,h1,m1,h2,m2,h3,ob⟩:=A6w lis hxk;rw [hk] at he';cases he'
  refine ⟨_,(A0c (A5f (pv 1) (A5j (n:=4) rfl (A1a (A0k (i:=2) A4x.nd) (A1a (A0k (i:=3) A4x.nd) (A1a (A0k (i:=4) A4x.nd) (A1a (A0k (i:=5) A4x.nd) A3x))))))
   (A0c (A1s (A0t A3f (pv 3) A0o (A1i _))
    (A0f (A0p (A2f A0d)))
    A0s)
   (A0c (A0m (i:=6) A4x.nd (A1b A1l (A2z (pv 0) rfl) (pv 2)))
   (A0c (A0m (i:=7) A4x.nd (C5w rfl (by rfl) T.gv (by rfl) T.mx (A0a (A0x A8k (A2z (pv 6) rfl) (A2z (pv 6) rfl)) (A0a (A0x B7u (pv 4) (pv 5)) A0d))))
   (A0f (A0p (A7k (A2z (pv 6) rfl) (A0a (pv 7) (A0a (A2z (pv 0) rfl) A0d))))))))),?_⟩
  refine ⟨_,rfl,st,_,rfl,SqT.of hb,rfl,_,_,rfl,_,_,rfl,_,_,rfl,_,_,rfl,rfl,?_⟩;refine ⟨_,rfl,rfl,_,rfl,A3u (λhw=> ?_) (λhw=> ?_)⟩
  ·have hw:sp.wd="start":=by injection hw
   exact ⟨A0y rfl,λq hq=>k1 hw q [] _ hq (A0e hq) A0b .nil⟩
  have hw:sp.wd≠"start":=λz=>hw (by rw [z]);obtain ⟨ask,kq⟩:=k2 hw;have e0:atI xs ((sp.k:Nat):Int)=some (.ref al):=A0j (by rw [hxk,eal]);refine ⟨_,rfl,p,_,dx,_,_,rfl,hp,T.aj,T.bh,(by walk_at "lk"),_,rfl,ln,_,_,_,rfl,rfl,SqL.of hln,e0,?_⟩;have lc:=ask.lc;have lt:=ask.lt;have l8:=ask.l8;refine ⟨_,rfl,al,_,da,_,_,rfl,h1,T.bf,T.dt,(by walk_at "lk"),_,rfl,al,_,da,_,_,rfl,h1,T.bf,T.c7,(by walk_at "lk"),ca,cu,_,_,rfl,rfl,h2,h3,A2o (by rw [Z08,Z08];lia),λkl hkl=> ?_⟩;have t1:A0r H (upd H kl (.lst (e.own.map V.str++e.sums.map V.str))):=A0e hkl;have hkl1:upd H kl (.lst (e.own.map V.str++e.sums.map V.str)) kl=some (.lst ((e.own++e.sums).map V.str)):=by rw [A0b,Z0s]
  generalize upd H kl (.lst (e.own.map V.str++e.sums.map V.str))=H1 at t1 hkl1⊢;refine ⟨_,rfl,_,rfl,c,u,_,_,rfl,rfl,t1 _ _ hc,t1 _ _ hu,A2o (by rw [Z08,Z08];lia),λtt G s2 htt=> ?_⟩;have htt:G tt=some (.tup ((sp.ce++sp.tu).map V.int)):=by rw [Z0s];exact htt
  have s12:=t1.trans s2;refine ⟨kl,tt,(e.own++e.sums).map (Sum.inr:Str->Key),(sp.ce++sp.tu).map V.int,rfl,(by rw [List.map_map];exact SqL.of (s2 _ _ hkl1)),SqT.of htt,(by rw [Z08,Z08,Z06,Z06];lia),λd hd=> ?_⟩;have t3:A0r G (upd G d (.dK (A4g [] (((e.own++e.sums).map (Sum.inr:Str->Key)).zip ((sp.ce++sp.tu).map V.int))))):=A0e hd;have hd3:upd G d (.dK (A4g [] (((e.own++e.sums).map (Sum.inr:Str->Key)).zip ((sp.ce++sp.tu).map V.int)))) d=some (.dK (atM e sp)):=A0b;have s03:=s12.trans t3;generalize upd G d (.dK (A4g [] (((e.own++e.sums).map (Sum.inr:Str->Key)).zip ((sp.ce++sp.tu).map V.int))))=G3 at t3 hd3 s03⊢;refine ⟨_,rfl,al,_,da,_,_,rfl,s03 _ _ h1,T.bf,T.ia,(by walk_at "lk"),?_⟩;have ob3:Ob t G3 n e.tm:=(ob.imp B9z).imp s03;obtain ⟨a',C',dx',fs',k',f',fd',ps',sp',rfl,e',c',m',l',F',hk',b',q'⟩:=rok (P:=P) (w:=w) (base:=base) T 10 G3 n e.tm ob3 ask.deep;have lat:=D2o [] (((e.own++e.sums).map (Sum.inr:Str->Key)).zip ((sp.ce++sp.tu).map V.int));rw [List.length_zip,Z08,Z08,Z06] at lat;refine ⟨a',C',dx',fs',k',f',fd',ps',sp',rfl,e',c',m',l',F',hr.mono (by lia),b',_,rfl,_,rfl,p,_,dx,_,_,rfl,s03 _ _ hp,T.aj,T.ao,(by walk_at "lk"),q' G3 d l (atM e sp) lk _ (A0r.refl _) ⟨ask.good,ask.deep,hd3,ask.at_,s03 _ _ hl,ask.ax,?_,ask.most⟩ λp1 es1 H1' hp1 s1' h1' r1=>kq p1 es1 H1' (s03.free hp1) (s03.trans s1') h1' r1⟩;show (atM e sp).length+10<=1000;unfold atM;simp only [Z2g] at lat
  lia
inductive B4t (H:Hp) (v:V) (s:Stp):Prop
 | mk (b c u:_) (_:v= .ref b) (_:H b=some (.tup [.int s.1,.str s.2.1,.ref c,.ref u])) (_:H c=some (.tup (s.2.2.1.map V.int))) (_:H u=some (.tup (s.2.2.2.map V.int))):B4t H v s
theorem B4t.kt (h:B4t H v s) (k:KT H H'):B4t H' v s:=by
 obtain ⟨b,c,u,rfl,h1,h2,h3⟩:=h;exact ⟨b,c,u,rfl,k _ _ h1,k _ _ h2,k _ _ h3⟩
abbrev A2j (H:Hp) (xs:List V) (os:List Stp):Prop:=Paired (B4t H) xs os
theorem A2j.kt {os:List Stp} (h:A2j H xs os) (k:KT H H'):A2j H' xs os:=Paired.mapP h λ_ _ z=>z.kt k
inductive B7e (A:Adr) (M:List Addr) (H:Hp) (v:V) (e:Rw):Prop
 | mk (a dx c u:Addr) (n:V) (x:Str) (_:v= .ref a) (_:H a=some (.ins A.am dx [("name",.str x),("axes",.ref c),("sums",.ref u),("term",n)])) (_:c∉M) (_:H c=some (.lst (e.own.map V.str))) (_:u∉M) (_:H u=some (.lst (e.sums.map V.str))):B7e A M H v e
abbrev D3y (A:Adr) (M:List Addr) (H:Hp) (xs:List V) (rows:List Rw):Prop:=Paired (B7e A M H) xs rows
theorem B7e.imp {M':List Addr} {e:Rw} (h:B7e A M H v e) (f:∀a C dx fs,H a=some (.ins C dx fs)->H' a=some (.ins C dx fs)) (g:∀c xs,c∉M->H c=some (.lst xs)->c∉M'/\H' c=some (.lst xs)):B7e A M' H' v e:=by
 obtain ⟨a,dx,c,u,n,x,rfl,e1,m1,e2,m2,e3⟩:=h;exact ⟨a,dx,c,u,n,x,rfl,f _ _ _ _ e1,(g _ _ m1 e2).1,(g _ _ m1 e2).2,(g _ _ m2 e3).1,(g _ _ m2 e3).2⟩
theorem B7e.same {e:Rw} (h:B7e A M H v e) (s:A0r H H'):B7e A M H' v e:=h.imp (λ_ _ _ _ z=>s _ _ z) λ_ _ y z=>⟨y,s _ _ z⟩
abbrev Sz (lk:List (Key×V)) (ys:List Str) (ls:List Int):Prop:=Paired (λ(y:Str) (n:Int)=>A1y lk (Sum.inr y)=some (.int n)) ys ls
def Tot (lk:List (Key×V)) (rows:List Rw):Prop:=∀e∈rows,C4r e/\Sz lk e.own e.so/\Sz lk e.sums e.ss/\OkS e.own/\OkS e.sums
def A2q (H:Hp) (ps:List Addr) (cs:List (List Int)):Prop:=Paired (λ(p:Addr) (c:List Int)=>H p=some (.tup (c.map V.int))) ps cs
theorem A2q.imp {H H':Hp}:∀{ps:List Addr} {cs:List (List Int)},A2q H ps cs->(∀p xs,H p=some (.tup xs)->H' p=some (.tup xs))->A2q H' ps cs
 | _,_,.nil,_=> .nil
 | _,_,.cons r t,f=> .cons (f _ _ r) (A2q.imp t f)
theorem A2q.same {ps:List Addr} (h:A2q H ps cs) (s:A0r H H'):A2q H' ps cs:=h.imp λ_ _ e=>s _ _ e
theorem A2q.lst {ys:List V} {ps:List Addr} (h:A2q H ps cs) (e:H l=some (.lst xs)):A2q (upd H l (.lst ys)) ps cs :=
 h.imp λp zs z=>by rw [A0h (A1g z e (by intro q;cases q))];exact z
theorem A2q.snoc {H:Hp} {p:Addr} {c:List Int} (e:H p=some (.tup (c.map V.int))):∀{ps:List Addr} {cs:List (List Int)},A2q H ps cs->A2q H (ps++[p]) (cs++[c])
 | _,_,.nil=> .cons e .nil
 | _,_,.cons r t=> .cons r (A2q.snoc e t)
theorem A2q.len {H:Hp}:∀{ps:List Addr} {cs:List (List Int)},A2q H ps cs->ps.length=cs.length
 | _,_,.nil=>rfl
 | _,_,.cons _ t=>by simp [A2q.len t]
theorem A2q.get {H:Hp}:∀{ps:List Addr} {cs:List (List Int)} {i:Nat} {p:Addr},A2q H ps cs->ps[i]? =some p->∃c,cs[i]? =some c/\H p=some (.tup (c.map V.int))
 | _,_,_,_,.nil,e=>by simp at e
 | _,_,0,_,.cons r _,e=>by simp at e;subst e;exact ⟨_,rfl,r⟩
 | _,_,i+1,p,.cons _ t,e=>by
  obtain ⟨c,h1,h2⟩:=A2q.get (i:=i) (p:=p) t (by simpa using e);exact ⟨c,by simpa using h1,h2⟩
structure A3r (H:Hp) (a:Addr) (cs:List (List Int)):Prop where
 ex:∃ps:List Addr,H a=some (.lst (ps.map V.ref))/\A2q H ps cs
theorem A3r.same (h:A3r H a cs) (s:A0r H H'):A3r H' a cs :=
 let ⟨ps,h1,h2⟩:=h.ex
 ⟨ps,s _ _ h1,h2.same s⟩
inductive A9k (vs:List V) (H:Hp) (Q:VK):Prop
 | mk (a:Addr) (n:Int) (cs:List (List Int)) (_:vs=[.ref a,.int n]) (_:A3r H a cs) (_:(∀c∈cs,c.length<=8)) (_:0<=n) (_:n<=60) (_:cs.length<=4000) (_:∀(p:Addr) (H':Hp),H p=none->A0r H H'->A3r H' p (B1g cs n)->Q (.ref p) H'):A9k vs H Q
def B6o:Sp:=λvs H Q _=>A9k vs H Q
inductive B1p (vs:List V) (H:Hp) (Q:VK):Prop
 | mk (a:Addr) (ls:List Int) (_:vs=[.ref a]) (_:H a=some (.lst (ls.map V.int))) (_:B4n ls) (_:∀(p:Addr) (H':Hp),H p=none->A0r H H'->A3r H' p (A1e ls)->Q (.ref p) H'):B1p vs H Q
def C1o:Sp:=λvs H Q _=>B1p vs H Q
inductive D4i (vs:List V) (H:Hp) (Q:VK):Prop
 | mk (l d:Addr) (ys:List Str) (lk:List (Key×V)) (ls:List Int) (_:vs=[.ref l,.ref d]) (_:H l=some (.lst (ys.map V.str))) (_:H d=some (.dK lk)) (_:Sz lk ys ls) (_:ys.length<=1000) (_:∀(q:Addr) (H':Hp),H q=none->A0r H H'->H' q=some (.lst (ls.map V.int))->Q (.ref q) H'):D4i vs H Q
def E3z:Sp:=λvs H Q _=>D4i vs H Q
inductive D4p (vs:List V) (H:Hp) (Q:VK):Prop
 | mk (l d:Addr) (ys:List Str) (lk:List (Key×V)) (ls:List Int) (_:vs=[.ref l,.ref d]) (_:H l=some (.lst (ys.map V.str))) (_:H d=some (.dK lk)) (_:Sz lk ys ls) (_:B4n ls) (_:∀(q:Addr) (H':Hp),H q=none->A0r H H'->A3r H' q (A1e ls)->Q (.ref q) H'):D4p vs H Q
def E1g:Sp:=λvs H Q _=>D4p vs H Q
inductive C7t (A:Adr) (vs:List V) (H:Hp) (Q:VK):Prop
 | mk (k:Int) (ln c tu:Addr) (M:List Addr) (e:Rw) (ce:List Int) (_:vs=[.int k,.ref ln,.ref c,.ref tu]) (_:B7e A M H (.ref ln) e) (_:C4r e) (_:H c=some (.tup (ce.map V.int))) (_:A3r H tu (A1e e.ss)) (_:∀(D:Addr) (xs:List V) (H':Hp),H D=none->A0r H H'->H' D=some (.lst xs)->A2j H' xs (A1j k e.ss ce)->Q (.ref D) H'):C7t A vs H Q
def D9p (A:Adr):Sp:=λvs H Q _=>C7t A vs H Q
inductive D3x (A:Adr) (vs:List V) (H:Hp) (Q:VK):Prop
 | mk (p dx l a tb ln o:Addr) (wh:Int) (lk:List (Key×V)) (xs:List V) (M:List Addr) (rows:List Rw) (_:vs=[.ref p]) (_:H p=some (clo A dx wh l a tb ln o)) (_:H l=some (.dK lk)) (_:H ln=some (.lst xs)) (_:D3y A M H xs rows) (_:Tot lk rows) (_:rows.length<=100) (_:∀(D:Addr) (ys:List V) (H':Hp),H D=none->A0r H H'->H' D=some (.lst ys)->A2j H' ys (A1f rows rows.length)->Q (.ref D) H'):D3x A vs H Q
def E2o (A:Adr):Sp:=λvs H Q _=>D3x A vs H Q
theorem A3r.kb {L:Addr} {zs:List V} (h:A3r H a cs) (k:KB L H H') (hL:H L=some (.lst zs)) (ha:a≠L):A3r H' a cs :=
 let ⟨ps,h1,h2⟩:=h.ex
 ⟨ps,k _ _ ha h1,h2.imp λp xs e=>k _ _ (A1g e hL (by intro z;cases z)) e⟩
theorem B7h (T:Txt K mg t):FO P w base T.dy 1 B6o:=by
 refine T.dy.F.ok A5m (by walk_at "ln") λ_ A _ s H _ Q E hr h=> ?_
 ·obtain ⟨a,n,cs,rfl,⟨ps,ha,tp⟩,h8,n0,n60,few,k⟩:=h
  refine ⟨_,(A0c (A0m (i:=2) A5m.nd (A2f A0d))
   (A0c (A1o (A1n (pv 0)) (A0k (i:=3) A5m.nd)
    (A0f (A1o (A4j rfl T.bo (A0a (pv 1) A0d)) (A0k (i:=4) A5m.nd)
     (A0f (A3c (B0a Z0k Z0n Z0o A3h (pv 2) (A0a (A0x D3g (pv 3) (A1t (A0a (pv 4) A0d))) A0d)))))))
   (A0f (A0p (pv 2))))),?_⟩
  refine ⟨A2o (by decide),λl hl=> ?_⟩;have la:a≠l:=A0i ha hl;have ha1:upd H l (.lst []) a=some (.lst (ps.map V.ref)):=by rw [A0h la];exact ha
  refine ⟨_,rfl,a,rfl,⟨_,SqL.of ha1⟩,A1v (K:=K) (a:=a) (xs:=ps.map V.ref) (λi Z H2=>∃(o3 o4:Option V) (qs:List Addr),Z=[Sro a,Sio n,Sro l,o3,o4]/\A0r H H2/\
   H2 l=some (.lst (qs.map V.ref))/\A2q H2 qs (B1g (cs.take i) n)) ⟨none,none,[],rfl,A0e hl,A0b,.nil⟩ (λi Z H2 _ zq=>by obtain ⟨_,_,_,_,s2,_⟩:=zq;exact SqL.of (s2 _ _ ha)) ?_ ?_⟩
  ·rintro i y Z H2 hi ⟨o3,o4,qs,rfl,s2,h2,t2⟩;obtain ⟨pc,hpc,rfl⟩:=A2e hi;obtain ⟨c,hc,hpt⟩:=tp.get hpc;have hcm:c.length<=8:=h8 c (Z13 hc)
   refine ⟨_,rfl,n,rfl,by lia,by lia,A7e (n:=n.toNat) (λj Z H3=>∃(o4:Option V) (qs:List Addr),Z=[Sro a,Sio n,Sro l,Sro pc,o4]/\A0r H H3/\
    H3 l=some (.lst (qs.map V.ref))/\A2q H3 qs (B1g (cs.take i) n++(List.range j).map λ(m:Nat)=>c++[(m:Int)])) ⟨o4,qs,rfl,s2,h2,by simpa using t2⟩ ?_ ?_⟩
   ·rintro j Z H3 hj ⟨o4,qs,rfl,s3,h3,t3⟩;rw [Int.zero_add]
    have hql:qs.length<=300000:=by
     have e:=t3.len;rw [Z06,A9v,Z08,List.length_range] at e;have e1:(cs.take i).length*n.toNat<=4000*60:=Nat.mul_le_mul (by rw [Z0x];lia) (by lia)
     lia
    have hp3:H3 pc=some (.tup (c.map V.int)):=s3 _ _ hpt;refine ⟨_,rfl,.inl ⟨rfl,_,SqL.of h3⟩,_,rfl,_,rfl,A0y rfl,λu hu=> ?_⟩
    have fin:∀(q:Addr) (H4:Hp),A0r H3 H4->H4 q=some (.tup ((c++[(j:Int)]).map V.int))->C1y (V.ref l) [V.ref q] H4 λ_ H5=>∃(o4:Option V) (qs:List Addr),[some (V.ref a),some (.int n),some (.ref l),some (.ref pc),some (.int (j:Int))]=[some (.ref a),some (.int n),some (.ref l),some (.ref pc),o4]/\A0r H H5/\
      H5 l=some (.lst (qs.map V.ref))/\A2q H5 qs (B1g (cs.take i) n++(List.range (j+1)).map λ(m:Nat)=>c++[(m:Int)]):=λq H4 s4 h4=>by
     refine ⟨l,_,_,rfl,rfl,s4 _ _ h3,by rw [Z08];exact A1c (by lia),?_⟩;refine ⟨_,qs++[q],rfl,A0n (s3.trans s4) hl,by rw [A0b,Z0s];rfl,?_⟩;rw [List.range_succ,Z0s,<-Z0z];exact ((t3.same s4).snoc h4).lst (s4 _ _ h3)
    have s4:A0r H3 (upd H3 u (.tup [V.int (j:Int)])):=A0e hu;refine ⟨pc,u,_,_,rfl,rfl,SqT.of (s4 _ _ hp3),SqT.of A0b,(by simp),A2o (by simp;lia),λhx=> ?_,λhx p hp=> ?_⟩
    ·have ec:c=[]:=by simpa using hx
     subst ec;exact fin u _ s4 A0b
    ·refine fin p _ (s4.trans (A0e hp)) ?_;rw [A0b,Z0s];rfl
   ·rintro Z H3 ⟨o4,qs,rfl,s3,h3,t3⟩;refine ⟨_,_,qs,rfl,s3,h3,?_⟩
    have e:B1g (cs.take (i+1)) n=B1g (cs.take i) n++(List.range n.toNat).map λ(m:Nat)=>c++[(m:Int)]:=by
     rw [Z14,hc];simp [B1g]
    rw [e];exact t3
  ·rintro Z H2 ⟨o3,o4,qs,rfl,s2,h2,t2⟩;refine ⟨_,rfl,k l H2 hl s2 ⟨qs,h2,?_⟩⟩;rw [Z08,tp.len,Z18] at t2;exact t2
theorem C3h (T:Txt K mg t):FO P w base T.gy 2 C1o:=by
 have Ga3:= @B7h P w K mg base t T;refine T.gy.F.ok A7j (by walk_at "ln") λ_ A _ s H _ Q E hr h=> ?_
 ·obtain ⟨a,ls,rfl,ha,g,k⟩:=h
  refine ⟨_,(A0c (A0m (i:=1) A7j.nd (A2f (A0a (A1t A0d) A0d)))
   (A0c (A1o (A1n (pv 0)) (A0k (i:=2) A7j.nd)
    (A0f (A0m (i:=1) A7j.nd (pcl Ga3 hr T.dy (A0a (pv 1) (A0a (pv 2) A0d))))))
   (A0f (A0p (pv 1))))),?_⟩
  refine ⟨A0y rfl,λe he=>⟨A0y rfl,λq hq=> ?_⟩⟩;have hq0:H q=none:=(A0e he).free hq;have s1:A0r H (upd (upd H e (.tup [])) q (.lst [V.ref e])):=(A0e he).trans (A0e hq)
  refine ⟨_,rfl,a,rfl,⟨_,SqL.of (s1 _ _ ha)⟩,A1v (K:=K) (a:=a) (xs:=ls.map V.int) (λi Z H2=>∃(o2:Option V) (q:Addr),Z=[Sro a,Sro q,o2]/\A0r H H2/\H q=none/\A3r H2 q (A1e (ls.take i)))
   ⟨none,q,rfl,s1,hq0,⟨[e],A0b,.cons (by rw [A0h (A0i A0b hq)];exact A0b) .nil⟩⟩ (λi Z H2 _ zq=>by obtain ⟨_,_,_,s2,_⟩:=zq;exact SqL.of (s2 _ _ ha)) ?_ ?_⟩
  ·rintro i y Z H2 hi ⟨o2,q,rfl,s2,hq,c2⟩;obtain ⟨n,hn,rfl⟩:=A2e hi;have gp:=g.pos n (Z13 hn);have cl:=A3a (ls.take i) λm hm=>(g.pos m (Z2p hm)).1;have pl:=B1x ls (λm hm=>(g.pos m hm).1) i;have gm:=g.most;have gf:=g.few;refine ⟨_,rfl,_,rfl,q,n,_,rfl,c2,λc hc=> ?_,by lia,by lia,by lia,λp H' hp s3 c3=> ?_⟩
   ·have e:=(A6f _ c hc).1;rw [Z0x] at e
    lia
   ·refine ⟨_,p,rfl,s2.trans s3,s2.free hp,?_⟩;rw [A7v hn];exact c3
  ·rintro Z H2 ⟨o2,q,rfl,s2,hq,c2⟩;rw [Z08,Z18] at c2;exact ⟨_,rfl,k q H2 hq s2 c2⟩
theorem B2b (T:Txt K mg t):FO P w base T.bv 1 E3z:=by
 refine T.bv.F.ok B2d (by walk_at "ln") λ_ A _ s H _ Q E hr h=> ?_
 ·obtain ⟨l,d,ys,lk,ls,rfl,hl,hd,sz,ly,k⟩:=h;have hu:=A6c hr;have le:=Paired.length sz;refine ⟨_,(A0f (A0p (A3n (N':=["axis","lengths"]) (ix:=(List.replicate 1 none++[some 1])) rfl (A9b (x:="lengths") rfl rfl rfl (by decide +kernel) (by decide +kernel)) (A7b (N0:=["axis"]) rfl (.inl rfl) (by walk_at "ix")) (A1n (pv 0)) (λ_ _ _ _=>(A0k (i:=0) C8i)) (λ_ _ _ _=>(A0u hu (pv 1) (pv 0)))))),?_⟩;refine ⟨_,rfl,l,rfl,⟨_,SqL.of hl⟩,λD hD=> ?_⟩;refine A3j (K:=K) (a:=l) (D:=D) (xs:=ys.map V.str) (λi zs H2=>A0r H H2/\H2 D=some (.lst zs)/\zs=(ls.take i).map V.int) ⟨A0e hD,A0b,rfl⟩ (λi zs H2 ⟨s2,_⟩=>SqL.of (s2 _ _ hl)) ?_ ?_
  ·rintro i x zs H2 hx ⟨s2,hD2,rfl⟩;refine B9q ?_;intro N';obtain ⟨y,hy,rfl⟩:=A2e hx;obtain ⟨n,hn,ev⟩:=A6w sz hy;have g:=A9r.k (H:=H2) (a:=d) (k:=Sum.inr y) (s2 _ _ hd);rw [ev] at g;refine ⟨⟨rfl,True.intro⟩,_,rfl,_,rfl,d,_,rfl,g,hD2,A1c (by simp;lia),A0n s2 hD,A0b,?_⟩;rw [Z14,hn,Z2f,Z0s];rfl
  ·rintro zs H2 ⟨s2,hD2,rfl⟩;rw [Z08,le,Z18] at hD2;exact k D H2 hD s2 hD2
theorem A6q (T:Txt K mg t):FO P w base T.ba 3 E1g:=by
 have Ga4:= @C3h P w K mg base t T;have Ga5:= @B2b P w K mg base t T;refine T.ba.F.ok B5e (by walk_at "ln") λ_ A _ s H _ Q E hr h=> ?_
 ·obtain ⟨l,d,ys,lk,ls,rfl,hl,hd,sz,g,k⟩:=h;have le:=Paired.length sz;have gf:=g.few;refine ⟨_,(A0f (A0p (pcl Ga4 hr T.gy (A0a (pcl Ga5 hr T.bv (A0a (pv 0) (A0a (pv 1) A0d))) A0d)))),?_⟩;exact ⟨_,rfl,_,rfl,l,d,ys,lk,ls,rfl,hl,hd,sz,by lia,λq1 H1 hq1 s1 h1=>⟨q1,ls,rfl,h1,g,λq H' hq s' c'=>k q H' (s1.free hq) (s1.trans s') c'⟩⟩
theorem B1z (T:Txt K mg t):FO P w base T.bw 1 (D9p t):=by
 refine T.bw.F.ok A8a (by walk_at "ln") λ_ A _ s H _ Q E hr h=> ?_
 ·obtain ⟨k,ln,c,tu,M,e,ce,rfl,li,ok,hc,ct,q⟩:=h;obtain ⟨a,dx,ca,u,n,x,ea,eln,_,_,_,eu⟩:=li;cases ea;obtain ⟨ps,htu,tp⟩:=ct.ex;have few:=ok.cells.2;have lps:=tp.len
  refine ⟨_,(A0c (A1s (A0t A3f (A0q A0z (by rfl) T.au Z0r (A0a (A2z (pv 1) rfl) A0d)) A0g (A1i _))
    (A0f (A0p (A2f (A0a (A1t (A0a (pv 0) (A0a A0o (A0a (pv 2) (A0a (A1t A0d) A0d))))) A0d))))
    A0s)
   (A0c (B8d (i₀:=4) (N':=["turn","cell","number"]) (ix:=(List.replicate 1 none++[some 2,some 0])) A8a.nd rfl (.inl rfl) rfl (A8r (cl:=[("number",_),("cell",_)]) (xs:=["number","cell"]) rfl ⟨rfl,rfl,trivial⟩ rfl rfl (by decide +kernel) (by decide +kernel)) (A8n (N0:=["turn"]) (xs:=["cell","number"]) (js:=[2,0]) ⟨⟨rfl,Or.inl rfl,(by walk_at "ix")⟩,⟨rfl,Or.inl rfl,(by walk_at "ix")⟩,trivial⟩) (A1n (pv 3)) (λ_ _ _ _=>(A0k (i:=0) C8o)) (λ_ _ _ _=>(A1t (A0a (pv 2) (A0a A0o (A0a (pv 1) (A0a (pv 0) A0d)))))))
   (A0f (A0p (A0x A8k (A2f (A0a (A1t (A0a (pv 0) (A0a A0o (A0a (pv 2) (A0a (A1t A0d) A0d))))) A0d)) (pv 4)))))),?_⟩
  refine ⟨_,rfl,ln,_,dx,_,_,rfl,eln,T.bf,T.c7,(by walk_at "lk"),u,_,rfl,.inl (SqL.of eu),rfl,_,rfl,A3u (λhz=> ?_) (λhz=> ?_)⟩
  ·have es:e.ss=[]:=by
    have h1:((e.sums.map V.str).length:Int)=0:=by injection hz
    have h2:=ok.ls;rw [Z08] at h1;exact Z2n.mp (by lia)
   refine ⟨_,rfl,_,rfl,A0y rfl,λe0 he0=>⟨A0y rfl,λb hb=>⟨A0y rfl,λD hD=> ?_⟩⟩⟩;have s1:A0r H (upd H e0 (.tup [])):=A0e he0;have s2:=s1.trans (A0e (o:= .tup [.int k,.str "set",.ref c,.ref e0]) hb);refine q D [.ref b] _ (s2.free hD) (s2.trans (A0e hD)) A0b ?_;unfold A1j;rw [Z12 es];refine .cons ⟨b,c,e0,rfl,?_,?_,?_⟩ .nil
   ·rw [A0h (A0i A0b hD)];exact A0b
   ·exact (s2.trans (A0e hD)) _ _ hc
   ·rw [A0h (A0i ((A0e hb) _ _ A0b) hD)];exact (A0e hb) _ _ A0b
  ·have es:e.ss≠[]:=λz=>by
    have h2:=ok.ls;rw [z] at h2;exact hz (by rw [Z08,h2];rfl)
   refine ⟨_,rfl,tu,rfl,⟨_,SqL.of htu⟩,λD hD=> ?_⟩;refine A3j (K:=K) (a:=tu) (D:=D) (xs:=ps.map V.ref) (λi ys H2=>A0r H H2/\H2 D=some (.lst ys)/\ys.length=i/\A2j H2 ys (((A1e e.ss).take i).map λu=>(k,"add",ce,u))) ⟨A0e hD,A0b,rfl,.nil⟩ (λi ys H2 ⟨s2,_⟩=>SqL.of (s2 _ _ htu)) ?_ ?_
   ·rintro i y ys H2 hy ⟨s2,hD2,ly,st⟩;refine B9q ?_;intro N';obtain ⟨pu,hpu,rfl⟩:=A2e hy;obtain ⟨uu,huu,epu⟩:=tp.get hpu;have hi:i<ps.length:=(Z03.mp hpu).1;refine ⟨⟨rfl,rfl,True.intro⟩,_,rfl,_,rfl,_,rfl,A0y rfl,λb hb=> ?_⟩;have sb:A0r H2 (upd H2 b (.tup [.int k,.str "add",.ref c,.ref pu])):=A0e hb;have kD:KT (upd H2 b (.tup [.int k,.str "add",.ref c,.ref pu])) (upd (upd H2 b (.tup [.int k,.str "add",.ref c,.ref pu])) D (.lst (ys++[.ref b]))):=KT.at (sb _ _ hD2) (by intro xs z;cases z);refine ⟨sb _ _ hD2,A1c (by lia),A0n (s2.trans sb) hD,A0b,by simp [ly],?_⟩;rw [Z14,huu,Z2f,Z0s];exact B1o (st.kt ((KT.same sb).trans kD)) (.cons ⟨b,c,pu,rfl,kD _ _ A0b,kD _ _ (sb _ _ (s2 _ _ hc)),kD _ _ (sb _ _ (s2 _ _ epu))⟩ .nil)
   ·rintro ys H2 ⟨s2,hD2,ly,st⟩;rw [Z08,lps,Z18] at st;refine ⟨_,rfl,_,rfl,A0y rfl,λe0 he0=>⟨A0y rfl,λb hb=>⟨A0y rfl,λL hL=>⟨_,rfl,L,D,_,ys,rfl,rfl,A0b,?_,A2o ?_,λR hR=> ?_⟩⟩⟩⟩
    ·have s3:A0r H2 (upd H2 e0 (.tup [])):=A0e he0;have s4:=s3.trans (A0e (o:= .tup [.int k,.str "start",.ref c,.ref e0]) hb);exact (s4.trans (A0e hL)) _ _ hD2
    ·have:=Paired.length st;rw [Z08] at this;simp
     lia
    ·have s3:A0r H2 (upd H2 e0 (.tup [])):=A0e he0;have s4:=s3.trans (A0e (o:= .tup [.int k,.str "start",.ref c,.ref e0]) hb);have s5:=s4.trans (A0e (o:= .lst [.ref b]) hL);have s6:=s5.trans (A0e (o:= .lst ([.ref b]++ys)) hR);refine q R _ _ (s2.free (s5.free hR)) (s2.trans s6) A0b ?_;unfold A1j;rw [Z0t es];refine .cons ⟨b,c,e0,rfl,?_,s6 _ _ (s2 _ _ hc),?_⟩ (st.kt (KT.same s6))
     ·exact (A0e hR) _ _ ((A0e hL) _ _ A0b)
     ·exact (A0e hR) _ _ ((A0e hL) _ _ ((A0e hb) _ _ A0b))
theorem B4w (T:Txt K mg t):FO P w base T.cy 4 (E2o t):=by
 have Ga6:= @A6q P w K mg base t T;have Ga7:= @B1z P w K mg base t T;refine T.cy.F.ok A3k (by walk_at "ln") λ_ A _ s H _ Q E hr h=> ?_
 ·obtain ⟨p,dx,l,a,tb,ln,o,wh,lk,xs,M,rows,rfl,hp,hl,hln,lis,tot,few,k⟩:=h;have lxs:=Paired.length lis
  refine ⟨_,(A0c (A0m (i:=1) A3k.nd (A2f A0d))
   (A0c (A1o (C2r rfl T.fh (A0a (A2z (pv 0) rfl) A0d)) (A5j (n:=2) rfl (A1a (A0k (i:=2) A3k.nd) (A1a (A0k (i:=3) A3k.nd) A3x)))
    (A0c (A0m (i:=4) A3k.nd (pcl Ga6 hr T.ba (A0a (A2z (pv 3) rfl) (A0a (A2z (pv 0) rfl) A0d))))
    (A0f (A1o (A1n (pcl Ga6 hr T.ba (A0a (A2z (pv 3) rfl) (A0a (A2z (pv 0) rfl) A0d)))) (A0k (i:=5) A3k.nd)
     (A0f (A3c (B0a Z0k PySem.F.slot_list_extend PySem.F.type_list_extend B0g (pv 1) (A0a (pcl Ga7 hr T.bw (A0a (pv 2) (A0a (pv 3) (A0a (pv 5) (A0a (pv 4) A0d))))) A0d))))))))
   (A0f (A0p (pv 1))))),?_⟩
  refine ⟨A0y rfl,λL hL=> ?_⟩;have s0:A0r H (upd H L (.lst [])):=A0e hL;refine ⟨_,rfl,p,_,dx,_,_,rfl,s0 _ _ hp,T.aj,T.bh,(by walk_at "lk"),ln,xs,rfl,SqL.of (s0 _ _ hln),?_⟩
  refine B7n (K:=K) (a:=ln) (xs:=xs) (λi Z H2=>∃(o2 o3 o4 o5:Option V) (ys:List V),Z=[Sro p,Sro L,o2,o3,o4,o5]/\A0r H H2/\H2 L=some (.lst ys)/\A2j H2 ys (A1f rows i))
   ⟨none,none,none,none,[],rfl,s0,A0b,.nil⟩ (λi Z H2 zq=>by obtain ⟨_,_,_,_,_,_,s2,_⟩:=zq;exact SqL.of (s2 _ _ hln)) ?_ ?_
  ·rintro i x Z H2 z hx ⟨o2,o3,o4,o5,ys,rfl,s2,h2,st⟩ hz;walk_at "g";obtain ⟨e,he,li⟩:=A6w lis hx;obtain ⟨ok,szo,szs,_,_⟩:=tot e (Z13 he);have hi:i<rows.length:=(Z03.mp he).1;have ol:=A9f (λe he=>(tot e he).1) i;have ol2:i*3660<=100*3660:=Nat.mul_le_mul_right _ (by lia);have li0:=li;obtain ⟨al,da,ca,cu,n,nm,rfl,eal,_,eca,_,ecu⟩:=li;obtain ⟨H3,hH3⟩:∃H3,H3=upd H2 z (.tup [.int (i:Nat),.ref al]):=⟨_,rfl⟩;rw [<-hH3];have sz3:A0r H2 H3:=by rw [hH3];exact A0e hz
   have s3:=s2.trans sz3;have hz3:H3 z=some (.tup [.int (i:Nat),.ref al]):=by rw [hH3];exact A0b
   refine ⟨z,_,rfl,SqT.of hz3,rfl,_,_,rfl,_,_,rfl,rfl,?_⟩;refine ⟨_,rfl,al,_,da,_,_,rfl,s3 _ _ eal,T.bf,T.c7,(by walk_at "lk"),_,rfl,p,_,dx,_,_,rfl,s3 _ _ hp,T.aj,T.ao,(by walk_at "lk"),cu,l,e.sums,lk,e.ss,rfl,s3 _ _ ecu,s3 _ _ hl,szs,ok.gs,λtu H4 htu s4 ct=> ?_⟩;have s34:=s3.trans s4;refine ⟨_,rfl,al,_,da,_,_,rfl,s34 _ _ eal,T.bf,T.dt,(by walk_at "lk"),_,rfl,p,_,dx,_,_,rfl,s34 _ _ hp,T.aj,T.ao,(by walk_at "lk"),ca,l,e.own,lk,e.so,rfl,s34 _ _ eca,s34 _ _ hl,szo,ok.go,λqc H5 hqc s5 cc=> ?_⟩;obtain ⟨ps,hqc5,tp⟩:=cc.ex;have h3L:=sz3 _ _ h2;have h4L:=s4 _ _ h3L;have h5L:=s5 _ _ h4L;have qL:qc≠L:=λy=>by subst y;rw [h4L] at hqc;cases hqc
   have tL:tu≠L:=λy=>by subst y;rw [h3L] at htu;cases htu
   have s05:=s34.trans s5;have st5:A2j H5 ys (A1f rows i):=st.kt (KT.same (sz3.trans (s4.trans s5)));refine ⟨qc,rfl,⟨_,SqL.of hqc5⟩,?_⟩
   refine A1v (K:=K) (a:=qc) (xs:=ps.map V.ref) (λj Z H6=>∃(o5:Option V) (zs:List V),Z=[Sro p,Sro L,Sio (i:Nat),Sro al,Sro tu,o5]/\KB L H5 H6/\H6 L=some (.lst zs)/\A2j H6 zs (A1f rows i++((A1e e.so).take j).flatMap (A1j i e.ss)))
    ⟨o5,ys,rfl,KB.refl,h5L,by simpa using st5⟩ (λj Z H6 _ zq=>by obtain ⟨_,_,_,kb,_⟩:=zq;exact SqL.of (kb _ _ qL hqc5)) ?_ ?_
   ·rintro j y Z H6 hy ⟨o5,zs,rfl,kb,h6,st6⟩;walk_at "g";obtain ⟨pc,hpc,rfl⟩:=A2e hy;obtain ⟨ce,hce,epc⟩:=tp.get hpc;have epc6:H6 pc=some (.tup (ce.map V.int)):=kb _ _ (A1g epc h5L (by intro z;cases z)) epc;have s06:A0r H H6:=KB.same s05 kb hL;refine ⟨_,rfl,.inl ⟨rfl,_,SqL.of h6⟩,_,rfl,_,rfl,_,rfl,_,rfl,(i:Int),al,pc,tu,M,e,ce,rfl,li0.same s06,ok,epc6,(ct.same s5).kb kb h5L tL,λD ws H7 hD s7 h7 st7=> ?_⟩;have lz:=Paired.length st6;have lw:=Paired.length st7;have lc:=C1p ok (k:=(i:Int)) ce;have lp:=C0s ok (k:=(i:Int)) j;rw [Z06] at lz;refine ⟨L,D,_,_,rfl,rfl,s7 _ _ h6,h7,A2o (by lia),?_⟩;have kL:KT H7 (upd H7 L (.lst (zs++ws))):=KT.at (s7 _ _ h6) (by intro xs z;cases z);refine ⟨_,zs++ws,rfl,(kb.trans (KB.of s7)).upd,A0b,?_⟩;rw [Z14,hce,Z2f,List.flatMap_append,List.flatMap_singleton,<-Z0z];exact B1o (st6.kt ((KT.same s7).trans kL)) (st7.kt kL)
   ·rintro Z H6 ⟨o5,zs,rfl,kb,h6,st6⟩;rw [Z08,tp.len,Z18] at st6;refine ⟨_,_,_,_,zs,rfl,KB.same s05 kb hL,h6,?_⟩;rw [B3m he];exact st6
  ·rintro Z H2 ⟨o2,o3,o4,o5,ys,rfl,s2,h2,st⟩;rw [lxs] at st;exact ⟨_,rfl,k L ys H2 hL s2 h2 st⟩
def A7z (sz:Str->List Int) (os:List Str):List (Str×List Int):=os.flatMap λx=>(A1e (sz x)).map λc=>(x,c)
structure ArO (H:Hp) (lk ak:List (Key×V)) (ax:Str->List Str) (sz:Str->List Int) (x:Str):Prop where
 get:∃b,A1y ak (Sum.inr x)=some (.ref b)/\H b=some (.lst ((ax x).map V.str))
 si:Sz lk (ax x) (sz x)
 go:B4n (sz x)
theorem ArO.same {ak:List (Key×V)} {ax:Str->List Str} {sz:Str->List Int} (h:ArO H lk ak ax sz x) (s:A0r H H'):ArO H' lk ak ax sz x:=by
 obtain ⟨b,e1,e2⟩:=h.get;exact ⟨⟨b,e1,s _ _ e2⟩,h.si,h.go⟩
theorem B4n.len (g:B4n ls):(A1e ls).length<=4000:=by
 have h1:=(A3a ls λn hn=>(g.pos n hn).1).1;have h2:=g.most
 lia
inductive C7i (A:Adr) (vs:List V) (H:Hp) (Q:VK):Prop
 | mk (p dx l a tb ln o:Addr) (wh:Int) (lk ak:List (Key×V)) (os:List Str) (ax:Str->List Str) (sz:Str->List Int) (_:vs=[.ref p]) (_:H p=some (clo A dx wh l a tb ln o)) (_:H l=some (.dK lk)) (_:H a=some (.dK ak)) (_:H o=some (.lst (os.map V.str))) (_:os.length<=100) (_:(∀x∈os,ArO H lk ak ax sz x)) (_:∀(D:Addr) (ys:List V) (H':Hp),H D=none->A0r H H'->H' D=some (.lst ys)->Rds H' ys (A7z sz os)->Q (.ref D) H'):C7i A vs H Q
def E0n (A:Adr):Sp:=λvs H Q _=>C7i A vs H Q
theorem B5r {H:Hp} {lk ak:List (Key×V)} {ax:Str->List Str} {sz:Str->List Int}:∀{os:List Str},(∀x∈os,ArO H lk ak ax sz x)->(A7z sz os).length<=os.length*4000
 | [],_=>Z09 _
 | x::r,h=>by
  have h1:=B5r (os:=r) λy hy=>h y (.tail _ hy);have h2:=(h x (.head _)).go.len;show ((A1e (sz x)).map (λc=>(x,c))++A7z sz r).length<=(r.length+1)*4000;rw [Z06,Z08]
  lia
theorem A8b (T:Txt K mg t):FO P w base T.bg 4 (E0n t):=by
 have Ga6:= @A6q P w K mg base t T;refine T.bg.F.ok A5i (by walk_at "ln") λ_ A _ s H _ Q E hr h=> ?_
 ·obtain ⟨p,dx,l,a,tb,ln,o,wh,lk,ak,os,ax,sz,rfl,hp,hl,ha,ho,few,aro,k⟩:=h;have hu:=A6c hr
  refine ⟨_,(A0c (A0m (i:=1) A5i.nd (A2f A0d))
   (A0c (A1o (A1n (A2z (pv 0) rfl)) (A0k (i:=2) A5i.nd)
    (A0f (A3c (B0a Z0k PySem.F.slot_list_extend PySem.F.type_list_extend B0g (pv 1) (A0a (A3n (N':=["cell","array"]) (ix:=(List.replicate 1 none++[some 2])) rfl (A9b (x:="array") rfl rfl rfl (by decide +kernel) (by decide +kernel)) (A7b (N0:=["cell"]) rfl (.inl rfl) (by walk_at "ix")) (A1n (pcl Ga6 hr T.ba (A0a (A0u hu (A2z (pv 0) rfl) (pv 2)) (A0a (A2z (pv 0) rfl) A0d)))) (λ_ _ _ _=>(A0k (i:=0) C7s)) (λ_ _ _ _=>(A1t (A0a (pv 1) (A0a (pv 0) A0d))))) A0d)))))
   (A0f (A0p (pv 1))))),?_⟩
  refine ⟨A0y rfl,λL hL=> ?_⟩;have s0:A0r H (upd H L (.lst [])):=A0e hL;refine ⟨_,rfl,p,_,dx,_,_,rfl,s0 _ _ hp,T.aj,T.ga,(by walk_at "lk"),o,rfl,⟨_,SqL.of (s0 _ _ ho)⟩,?_⟩
  refine A1v (K:=K) (a:=o) (xs:=os.map V.str) (λi Z H2=>∃(o2:Option V) (ys:List V),Z=[Sro p,Sro L,o2]/\A0r H H2/\H2 L=some (.lst ys)/\Rds H2 ys (A7z sz (os.take i)))
   ⟨none,[],rfl,s0,A0b,.nil⟩ (by rintro i Z H2 _ ⟨_,_,_,s2,_⟩;exact SqL.of (s2 _ _ ho)) ?_ ?_
  ·rintro i y Z H2 hy ⟨o2,ys,rfl,s2,h2,rd2⟩;walk_at "g";obtain ⟨x,hx,rfl⟩:=A2e hy;have hi:i<os.length:=(Z03.mp hx).1;have ar:=aro x (Z13 hx);obtain ⟨b,eb,hb⟩:=ar.get;have g:=A9r.k (H:=H2) (a:=a) (k:=Sum.inr x) (s2 _ _ ha);rw [eb] at g;refine ⟨_,rfl,.inl ⟨rfl,_,SqL.of h2⟩,_,rfl,p,_,dx,_,_,rfl,s2 _ _ hp,T.aj,T.bx,(by walk_at "lk"),_,rfl,a,_,rfl,g,_,rfl,p,_,dx,_,_,rfl,s2 _ _ hp,T.aj,T.ao,(by walk_at "lk"),b,l,ax x,lk,sz x,rfl,s2 _ _ hb,s2 _ _ hl,ar.si,ar.go,λq H3 hq s3 cq=> ?_⟩;obtain ⟨ps,hq3,tp⟩:=cq.ex;have lps:=tp.len;have lc:=ar.go.len;refine ⟨q,rfl,⟨_,SqL.of hq3⟩,λD hD=> ?_⟩;refine A3j (K:=K) (a:=q) (D:=D) (xs:=ps.map V.ref) (λj zs H4=>A0r H3 H4/\H4 D=some (.lst zs)/\zs.length=j/\Rds H4 zs (((A1e (sz x)).take j).map λc=>(x,c))) ⟨A0e hD,A0b,rfl,.nil⟩ (λj zs H4 s4=>SqL.of (s4.1 _ _ hq3)) ?_ ?_
   ·rintro j z zs H4 hz ⟨s4,hD4,lz,rd4⟩;refine B9q ?_;intro N';obtain ⟨pc,hpc,rfl⟩:=A2e hz;obtain ⟨c,hc,epc⟩:=tp.get hpc;have hj:j<ps.length:=(Z03.mp hpc).1;refine ⟨⟨rfl,True.intro⟩,_,rfl,_,rfl,A0y rfl,λb1 hb1=> ?_⟩;have sb:A0r H4 (upd H4 b1 (.tup [.str x,.ref pc])):=A0e hb1;have kD:KT (upd H4 b1 (.tup [.str x,.ref pc])) (upd (upd H4 b1 (.tup [.str x,.ref pc])) D (.lst (zs++[.ref b1]))):=KT.at (sb _ _ hD4) (by intro xs z;cases z);refine ⟨sb _ _ hD4,A1c (by lia),A0n (s4.trans sb) hD,A0b,by simp [lz],?_⟩;rw [Z14,hc,Z2f,Z0s];exact B1o (rd4.keep ((KT.same sb).trans kD)) (.cons ⟨b1,pc,rfl,kD _ _ A0b,kD _ _ (sb _ _ (s4 _ _ epc))⟩ .nil)
   ·rintro zs H4 ⟨s4,hD4,lz,rd4⟩;rw [Z08,lps,Z18] at rd4;have s34:=s3.trans s4;have h4:=s34 _ _ h2;have ly:=Paired.length rd2;have lo:(A7z sz (os.take i)).length<=(os.take i).length*4000:=B5r λx hx=>aro x (Z2p hx);have lt:(os.take i).length<=100:=by rw [Z0x];lia
    rw [Z08,lps] at lz;refine ⟨L,D,_,_,rfl,rfl,h4,hD4,A2o (by lia),?_⟩;have kL:KT H4 (upd H4 L (.lst (ys++zs))):=KT.at h4 (by intro xs z;cases z);refine ⟨_,ys++zs,rfl,A0n (s2.trans s34) hL,A0b,?_⟩;rw [Z14,hx,Z2f];unfold A7z;rw [List.flatMap_append,List.flatMap_singleton];exact B1o (rd2.keep ((KT.same s34).trans kL)) (rd4.keep kL)
  ·rintro Z H2 ⟨o2,ys,rfl,s2,h2,rd2⟩;rw [Z08,Z18] at rd2;exact ⟨_,rfl,k L ys H2 hL s2 h2 rd2⟩
def nk (r:Str×List Int):A1w:=[.inl (.inr r.1),.inr (r.2.map Sum.inl)]
theorem B4u (h:D8a H v r):∃b,v= .ref b/\A2b H (nk r) b:=by
 obtain ⟨p,q,rfl,h1,h2⟩:=h;refine ⟨p,rfl,A2i h1 ?_⟩;rw [List.map_map];exact h2
theorem D8a.keep (h:D8a H v r) (k:KT H H'):D8a H' v r:=by
 obtain ⟨p,q,e,h1,h2⟩:=h;exact ⟨p,q,e,k _ _ h1,k _ _ h2⟩
def A5z (kvs:List (A1w×V)) (rs:List (Str×List Int)):List (A1w×V):=rs.foldl (λk r=>A3v k (nk r) (V.bl true)) kvs
theorem A9g (kvs:List (A1w×V)) (rs:List (Str×List Int)) (r:Str×List Int):A5z kvs (rs++[r])=A3v (A5z kvs rs) (nk r) (V.bl true):=by
 unfold A5z;rw [List.foldl_append];rfl
theorem A4l:∀(rs:List (Str×List Int)) (kvs:List (A1w×V)),(A5z kvs rs).length<=kvs.length+rs.length
 | [],_=>Z09 _
 | r::rs,kvs=>by
  have h1:=A4l rs (A3v kvs (nk r) (V.bl true));have h2:=A3t kvs (nk r) (V.bl true);show (A5z (A3v kvs (nk r) (V.bl true)) rs).length<=kvs.length+(rs.length+1)
  lia
def toM (s:Stp):StM:=⟨s.1.toNat,s.2.1,s.2.2.1,s.2.2.2⟩
theorem B4t.toM (h:B4t H v s) (h0:0<=s.1):D7y H v (toM s):=by
 obtain ⟨b,c,u,rfl,h1,h2,h3⟩:=h;refine ⟨b,c,u,rfl,?_,h2,h3⟩;show H b=some (.tup [.int ((s.1.toNat:Nat):Int),.str s.2.1,.ref c,.ref u]);rw [Int.toNat_of_nonneg h0];exact h1
def rdS (lk:List (Key×V)) (rows:List LnM) (s:Stp):List (Str×List Int):=if s.2.1="start" then [] else match rows[s.1.toNat]? with
 | some e=>rd (ai lk) e.tm (ai (atM e (toM s)))
 | none=>[]
def wrS (rows:List LnM) (s:Stp):Str×List Int:=match rows[s.1.toNat]? with
 | some e=>(e.nm,s.2.2.1)
 | none=>("",[])
def C6w (lk:List (Key×V)) (rows:List LnM) (kvs:List (A1w×V)) (s:Stp):List (A1w×V):=if (A1y kvs (nk (wrS rows s))).isSome=true then A5z kvs (rdS lk rows s) else kvs
def A9z (lk:List (Key×V)) (rows:List LnM) (kvs:List (A1w×V)) (ss:List Stp):List (A1w×V):=ss.foldl (C6w lk rows) kvs
structure E0m (lk:List (Key×V)) (rows:List LnM) (s:Stp):Prop where
 pos:0<=s.1
 ask:∃e,rows[s.1.toNat]? =some e/\(s.2.1≠"start"->C5y lk e (toM s))
 few:(rdS lk rows s).length<=20
inductive D4s (P:Program) (w:World) (A:Adr) (vs:List V) (H:Hp) (Q:VK):Prop
 | mk (p dx l a tb ln o:Addr) (wh:Int) (lk ak:List (Key×V)) (os:List Str) (ax:Str->List Str) (sz:Str->List Int) (xs:List V) (M:List Addr) (rows:List LnM) (rws:List Rw) (_:vs=[.ref p]) (_:H p=some (clo A dx wh l a tb ln o)) (_:H l=some (.dK lk)) (_:H a=some (.dK ak)) (_:H o=some (.lst (os.map V.str))) (_:os.length<=100) (_:(∀x∈os,ArO H lk ak ax sz x)) (_:H ln=some (.lst xs)) (_:B3u A M H xs rows) (_:D3y A M H xs rws) (_:Tot lk rws) (_:rws.length<=100) (_:(∀s∈A1f rws rws.length,E0m lk rows s)) (_:(A1f rws rws.length).length<=20000) (_:∀(D:Addr) (H':Hp),H D=none->A0r H H'->A3l P w [true,false] H' D (A9z lk rows (A5z [] (A7z sz os)) (A1f rws rws.length).reverse)->Q (.ref D) H'):D4s P w A vs H Q
def E4b (P:Program) (w:World) (A:Adr):Sp:=λvs H Q _=>D4s P w A vs H Q
theorem rdq {sp:Stp} {Q:VK} (he:rows[sp.1.toNat]? =some e) (ask:sp.2.1≠"start"->C5y lk e (toM sp)) (h:RdQ H (rdS lk rows sp) Q) :
  ((toM sp).wd="start"->RdQ H [] Q)/\((toM sp).wd≠"start"->C5y lk e (toM sp)/\RdQ H (rd (ai lk) e.tm (ai (atM e (toM sp)))) Q):=by
 refine ⟨λhw=> ?_,λhw=>⟨ask hw,?_⟩⟩
 ·have z:rdS lk rows sp=[]:=Z12 hw
  rwa [z] at h
 ·have z:rdS lk rows sp=rd (ai lk) e.tm (ai (atM e (toM sp))):=by
   have hw':sp.2.1≠"start":=hw;unfold rdS;rw [Z0t hw',he]
  rwa [z] at h
theorem A9a (lk:List (Key×V)) (rows:List LnM) (kvs:List (A1w×V)) (ss:List Stp) (s:Stp):A9z lk rows kvs (ss++[s])=C6w lk rows (A9z lk rows kvs ss) s:=by
 unfold A9z;rw [List.foldl_append];rfl
theorem D8d {b:Bool} {p q:Prop} (h1:b=true->p) (h2:¬b=true->q):if b=true then p else q:=by
 split
 ·exact h1 (by assumption)
 ·exact h2 (by assumption)
theorem A1h {kvs:List (A1w×V)} (h:A3l P w sh H a kvs) (s:A0r H H'):A3l P w sh H' a kvs:=h.keeps (λ_ e=>s _ _ e) λ_ _ e=>s _ _ e
theorem A2k {kvs:List (A1w×V)} (h:A3l P w sh H a kvs):∃o,H a=some o/\∀xs,o≠.tup xs:=by
 obtain ⟨_,e,_⟩:=h;exact ⟨_,e,λ_ z=>by cases z⟩
theorem B3n (T:Txt K mg t):FO P w base T.ci 16 (E4b P w t):=by
 have Ga8:= @A8b P w K mg base t T;have Ga9:= @B4w P w K mg base t T;have Gb0:= @B5u P w K mg base t T;have Gb1:= @A7l P w K mg base t T;refine T.ci.F.ok A3s (by walk_at "ln") λ_ A _ s H _ Q E hr h=> ?_
 ·obtain ⟨p,dx,l,a,tb,ln,o,wh,lk,ak,os,ax,sz,xs,M,rows,rws,rfl,hp,hl,ha,ho,few,aro,hln,lis,lir,tot,few2,sok,few3,k⟩:=h;have hn:=B4r hr;have lo:=B5r aro;have lo2:os.length*4000<=100*4000:=Nat.mul_le_mul_right _ few
  refine ⟨_,(A0c (A0m (i:=1) A3s.nd (A7t (sh:=[true,false])))
   (A0c (A1o (A1n (pcl Ga8 hr T.bg (A0a (pv 0) A0d))) (A0k (i:=2) A3s.nd)
    (A0f (A5f B0l (A6z (pv 1) (pv 2) (A6k hn)))))
   (A0c (A1o (D9s rfl T.gn (A0a (pcl Ga9 hr T.cy (A0a (pv 0) A0d)) A0d)) (A0k (i:=3) A3s.nd)
    (A0f (A1s (A0t (B2o hn) (pcl Gb1 hr T.bj (A0a (pv 0) (A0a (pv 3) A0d))) (pv 1) (by with_unfolding_all rfl))
     (A0f (A1o (A1n (pcl Gb0 hr T.fw (A0a (pv 0) (A0a (pv 3) A0d)))) (A0k (i:=4) A3s.nd)
      (A0f (A5f B0l (A6z (pv 1) (pv 4) (A6k hn))))))
     A0s)))
   (A0f (A0p (pv 1)))))),?_⟩
  refine λD o0 hD nd0=> ?_;have s1:A0r H (upd H D o0):=A0e hD;have nd0:A3l P w [true,false] (upd H D o0) D []:=nd0;generalize upd H D o0=H1 at s1 nd0⊢;refine ⟨_,rfl,p,dx,l,a,tb,ln,o,wh,lk,ak,os,ax,sz,rfl,s1 _ _ hp,s1 _ _ hl,s1 _ _ ha,s1 _ _ ho,few,λx hx=>(aro x hx).same s1,λL ys H2 hL s2 h2 rd2=> ?_⟩;obtain ⟨u0,e0,t0⟩:=(A2k nd0);have LD:L≠D:=λz=>by subst z;rw [e0] at hL;cases hL
  have e2:=s2 _ _ e0;have nd2:=A1h nd0 s2;refine ⟨L,rfl,⟨_,SqL.of h2⟩,?_⟩;refine A1v (K:=K) (a:=L) (xs:=ys) (λi Z G=>∃(o2:Option V),Z=[Sro p,Sro D,o2,none,none]/\KB D H2 G/\A3l P w [true,false] G D (A5z [] ((A7z sz os).take i))) ⟨none,rfl,KB.refl,nd2⟩ (by rintro i Z G _ ⟨_,_,kb,_⟩;exact SqL.of (kb _ _ LD h2)) ?_ ?_
  ·rintro i y Z G hy ⟨o2,rfl,kb,nd⟩;walk_at "g";obtain ⟨r,hr',tr⟩:=A6w rd2 hy;obtain ⟨b,rfl,na⟩:=B4u (tr.keep (kb.kt e2 t0));have lp:=A4l ((A7z sz os).take i) [];have lt:((A7z sz os).take i).length<=(A7z sz os).length:=by rw [Z0x];lia
   refine ⟨_,rfl,_,rfl,D,b,_,_,nk r,⟨rfl,rfl,nd,na,rfl⟩,A1c (by simp only [Z2g] at lp;lia),λo1 nd1=> ?_⟩;refine ⟨_,rfl,kb.upd,?_⟩;rw [Z14,hr',Z2f,A9g];exact nd1
  ·rintro Z G ⟨o2,rfl,kb,nd⟩;rw [Paired.length rd2,Z18] at nd;have sG:A0r H G:=KB.same (s1.trans s2) kb hD;refine ⟨_,rfl,p,dx,l,a,tb,ln,o,wh,lk,xs,M,rws,rfl,sG _ _ hp,sG _ _ hl,sG _ _ hln,Paired.mapP lir λ_ _ z=>z.same sG,tot,few2,λF fs G1 hF sF hFl st=> ?_⟩;obtain ⟨u1,e1,t1⟩:=(A2k nd);have FD:F≠D:=λz=>by subst z;rw [e1] at hF;cases hF
   have e1':=sF _ _ e1;have lf:=Paired.length st;refine ⟨F,_,rfl,SqL.of hFl,?_⟩
   refine D5r (K:=K) (a:=F) (xs:=fs) (λi Z G2=>∃(o2 o3 o4:Option V) (kvs:List (A1w×V)),Z=[Sro p,Sro D,o2,o3,o4]/\KB D G1 G2/\A3l P w [true,false] G2 D kvs/\kvs=A9z lk rows (A5z [] (A7z sz os)) ((A1f rws rws.length).reverse.take i)/\kvs.length<=(A7z sz os).length+i*20)
    ⟨_,_,_,_,rfl,KB.refl,A1h nd sF,rfl,?_⟩ (by rintro i Z G2 ⟨_,_,_,_,_,kb2,_⟩;exact SqL.of (kb2 _ _ FD hFl)) ?_ ?_
   ·have:=A4l (A7z sz os) [];simp only [Z2g] at this
    lia
   ·rintro i x Z G2 hi hx ⟨o2,o3,o4,kvs,rfl,kb2,nd2,ek,le⟩;walk_at "g";obtain ⟨sp,hs,sta⟩:=A6w st hx;have hrev:(A1f rws rws.length).reverse[i]? =some sp:=by rw [List.getElem?_reverse (by lia),<-lf];exact hs
    have so:=sok sp (Z13 hs);obtain ⟨e,he,ask⟩:=so.ask;have kt2:KT G1 G2:=kb2.kt e1' t1;have sta2:=(sta.kt kt2).toM so.pos;obtain ⟨b,c,u,rfl,hb⟩:=id sta2;have sG2:A0r H G2:=KB.same (sG.trans sF) kb2 hD;refine ⟨_,rfl,_,rfl,p,dx,l,a,tb,ln,o,b,wh,xs,M,rows,e,toM sp,rfl,sG2 _ _ hp,sG2 _ _ hln,Paired.mapP lis λ_ _ z=>z.same sG2,sta2,he,λq G3 s3 tq=> ?_⟩;have ew:wrS rows sp=(e.nm,(toM sp).ce):=by unfold wrS;rw [he];rfl
    obtain ⟨q',eq',nq⟩:=B4u tq;cases eq';rw [<-ew] at nq;have e3:=s3 _ _ (show G2 D=_ from (A2k nd2).choose_spec.1);refine ⟨_,rfl,D,q,_,_,nk (wrS rows sp),⟨rfl,rfl,A1h nd2 s3,nq,rfl⟩,_,rfl,D8d (λhz=> ?_) (λhz=> ?_)⟩
    ·refine ⟨_,rfl,_,rfl,p,dx,l,a,tb,ln,o,b,wh,lk,xs,M,rows,e,toM sp,rfl,s3 _ _ (sG2 _ _ hp),s3 _ _ (sG2 _ _ hl),s3 _ _ (sG2 _ _ hln),Paired.mapP lis λ_ _ z=>z.same (sG2.trans s3),sta2.same s3,he,rdq he ask ?_⟩;intro R es G4 hR s4 hR4 rd4;have RD:R≠D:=λz=>by subst z;rw [e3] at hR;cases hR
     have nd4:=A1h (A1h nd2 s3) s4;obtain ⟨u4,e4,t4⟩:=A2k nd4;refine ⟨R,rfl,⟨_,SqL.of hR4⟩,?_⟩;refine A1v (K:=K) (a:=R) (xs:=es) (λj Z G5=>∃(o4:Option V),Z=[Sro p,Sro D,o2,Sro b,o4]/\KB D G4 G5/\A3l P w [true,false] G5 D (A5z kvs ((rdS lk rows sp).take j))) ⟨_,rfl,KB.refl,nd4⟩ (by rintro j Z G5 _ ⟨_,_,kb5,_⟩;exact SqL.of (kb5 _ _ RD hR4)) ?_ ?_
     ·rintro j y Z G5 hy ⟨o4,rfl,kb5,nd5⟩;walk_at "g";obtain ⟨r,hr',tr⟩:=A6w rd4 hy;obtain ⟨b1,rfl,na⟩:=B4u (tr.keep (kb5.kt e4 t4));have lp:=A4l ((rdS lk rows sp).take j) kvs;have lt:((rdS lk rows sp).take j).length<=(rdS lk rows sp).length:=by rw [Z0x];lia
      have lw:=so.few;have l20:i*20<=20000*20:=Nat.mul_le_mul_right _ (by lia);refine ⟨_,rfl,_,rfl,D,b1,_,_,nk r,⟨rfl,rfl,nd5,na,rfl⟩,A1c (by lia),λo1 nd1=> ?_⟩;refine ⟨_,rfl,kb5.upd,?_⟩;rw [Z14,hr',Z2f,A9g];exact nd1
     ·rintro Z G5 ⟨o4,rfl,kb5,nd5⟩;rw [Paired.length rd4,Z18] at nd5;have lp:=A4l (rdS lk rows sp) kvs;have lw:=so.few;refine ⟨_,_,_,_,rfl,(kb2.trans (KB.of (s3.trans s4))).trans kb5,nd5,?_,by lia⟩;rw [Z14,hrev,Z2f,A9a,<-ek];exact (Z12 hz).symm
    ·refine ⟨_,_,_,_,rfl,kb2.trans (KB.of s3),A1h nd2 s3,?_,by lia⟩;rw [Z14,hrev,Z2f,A9a,<-ek];exact (Z0t hz).symm
   ·rintro Z G2 ⟨o2,o3,o4,kvs,rfl,kb2,nd2,ek,le⟩;rw [lf,<-List.length_reverse,Z18] at ek;rw [ek] at nd2;exact ⟨_,rfl,k D G2 hD (KB.same (sG.trans sF) kb2 hD) nd2⟩
def A6n (kvs:List (A1w×V)) (sz:Str->List Int) (x:Str):List (List Int):=(A1e (sz x)).filter λc=>(A1y kvs (nk (x,c))).isSome
def E1x (H0 H:Hp) (kvs:List (A1w×V)) (sz:Str->List Int):List (Key×V)->List (Str×List Str)->Prop:=Paired λ(p:Key×V) (e:Str×List Str)=>p.1=Sum.inr e.1/\∃b,p.2= .ref b/\H0 b=none/\A3r H b (A6n kvs sz e.1)
inductive D4c (P:Program) (w:World) (A:Adr) (vs:List V) (H:Hp) (Q:VK):Prop
 | mk (p dx l a tb ln o F:Addr) (wh:Int) (lk ak:List (Key×V)) (es:List (Str×List Str)) (sz:Str->List Int) (S:Addr->Prop) (kvs:List (A1w×V)) (_:vs=[.ref p,.ref F]) (_:H p=some (clo A dx wh l a tb ln o)) (_:H l=some (.dK lk)) (_:H a=some (.dK ak)) (_:AR S H ak es) (_:es.length<=1000) (_:(ak.map (·.1)).Nodup) (_:l≠a) (_:(∀e∈es,Sz lk e.2 (sz e.1)/\B4n (sz e.1))) (_:A3l P w [true,false] H F kvs) (_:∀(D:Addr) (dk:List (Key×V)) (H':Hp),H D=none->A0r H H'->H' D=some (.dK dk)->E1x H H' kvs sz dk es->Q (.ref D) H'):D4c P w A vs H Q
def E2v (P:Program) (w:World) (A:Adr):Sp:=λvs H Q _=>D4c P w A vs H Q
theorem A3r.keep (h:A3r H a cs) (f:∀b xs,H b=some (.lst xs)->H' b=some (.lst xs)) (g:KT H H'):A3r H' a cs:=by
 obtain ⟨ps,h1,h2⟩:=h.ex;exact ⟨ps,f _ _ h1,h2.imp g⟩
theorem D6h {α:Type} {f:α->Bool} {x:α} (h:f x=true):[x].filter f=[x]:=by rw [List.filter_cons_of_pos h];rfl
theorem D7t {α:Type} {f:α->Bool} {x:α} (h:¬f x=true):[x].filter f=[]:=by rw [List.filter_cons_of_neg h];rfl
theorem D5j {X:Cx} (hu:X.A.units+9<cLine) (hP:X.prog=P) (hw:X.w=w):OpR X (compareOp .In) (E4n P w):=by
 subst hP hw;exact B2o hu
theorem B8o (T:Txt K mg t):FO P w base T.eh 4 (E2v P w t):=by
 have Ga6:= @A6q P w K mg base t T;refine T.eh.F.ok A5h (by walk_at "ln") λ_ A _ s H _ Q E hr h=> ?_
 ·obtain ⟨p,dx,l,a,tb,ln,o,F,wh,lk,ak,es,sz,S,kvs,rfl,hp,hl,ha,ar,few,nd,la,szs,fn,k⟩:=h;have hu:=A6c hr;have hn:=B4r hr;have lar:=Paired.length ar
  refine ⟨_,(A0c (A0m (i:=2) A5h.nd A8z)
   (A0c (A1o (B6j (B6d PySem.F.plainAttrs_dict PySem.F.slot_dict_items PySem.F.type_dict_items B6w (A2z (pv 0) rfl))) (A5j (n:=2) rfl (A1a (A0k (i:=3) A5h.nd) (A1a (A0k (i:=4) A5h.nd) A3x)))
    (A0c (A0m (i:=5) A5h.nd (pcl Ga6 hr T.ba (A0a (pv 4) (A0a (A2z (pv 0) rfl) A0d))))
    (A0f (A4i hu (pv 2) (pv 3) (C8c (N':=["cell","array","found"]) (ix:=(List.replicate 1 none++[some 3,some 1])) rfl (A8r (cl:=[("found",_),("array",_)]) (xs:=["found","array"]) rfl ⟨rfl,rfl,trivial⟩ rfl rfl (by decide +kernel) (by decide +kernel)) (A8n (N0:=["cell"]) (xs:=["array","found"]) (js:=[3,1]) ⟨⟨rfl,Or.inl rfl,(by walk_at "ix")⟩,⟨rfl,Or.inl rfl,(by walk_at "ix")⟩,trivial⟩) (A1n (pv 5)) (λ_ _ _ _=>(A0k (i:=0) C7v)) (λ_ _ _ _=>(A0t (D5j (P:=P) (w:=w) hn rfl rfl) (A1t (A0a (pv 1) (A0a (pv 0) A0d))) (pv 2) (by with_unfolding_all rfl))) (λ_ _ _ _=>(pv 0))) rfl))))
   (B2z (A0f (A0p (pv 2)))))),?_⟩
  refine λD hD=> ?_;have aD:a≠D:=A0i ha hD;have s1:A0r H (upd H D (.dK [])):=A0e hD;have ha1:=s1 _ _ ha;refine ⟨_,rfl,p,_,dx,_,.ref a,rfl,s1 _ _ hp,T.aj,T.bx,(by walk_at "lk"),.inr (.inr (.inl ⟨rfl,.inl ⟨_,ha1⟩⟩)),a,_,rfl,rfl,ha1,.inl ⟨_,rfl⟩,λvw hvw=> ?_⟩;have Dv:D≠vw:=A0i A0b hvw;have av:a≠vw:=A0i ha1 hvw;refine ⟨vw,a,_,rfl,A0b,(by rw [A0h av];exact ha1),.inl ⟨ak,rfl,λo1=> ?_⟩⟩;have hv0:H vw=none:=by rw [A0h Dv.symm] at hvw;exact hvw
  have g0:A0r (upd H a (.frz o1 (.dK ak))) (upd (upd (upd H D (.dK [])) vw (C1c vw a)) a (.frz o1 (.dK ak))):=λb v e=>by
   by_cases hb:b=a
   ·subst hb;rw [A0b] at e⊢;exact e
   ·rw [A0h hb] at e⊢;rw [A0h (A0i e hv0),A0h (A0i e hD)];exact e
  have hDG:upd H a (.frz o1 (.dK ak)) D=none:=by rw [A0h aD.symm];exact hD
  have nd0:∀b,upd H a (.frz o1 (.dK ak)) b=none->H b=none:=λb e=>by
   by_cases hb:b=a
   ·subst hb;rw [A0b] at e;cases e
   ·rw [A0h hb] at e;exact e
  have up:∀b u,b≠a->H b=some u->upd H a (.frz o1 (.dK ak)) b=some u:=λb u hb e=>by rw [A0h hb];exact e
  have pa:p≠a:=A1g hp ha (by intro z;cases z)
  have Fa:F≠a:=λz=>by
   subst z;obtain ⟨_,e,_⟩:=fn;rw [ha] at e;cases e
  have fn0:A3l P w [true,false] (upd H a (.frz o1 (.dK ak))) F kvs:=fn.keeps (λu e=>up _ _ Fa e) λb ys e=>up _ _ (A1g e ha (by intro z;cases z)) e
  refine B4d (L:=ak.map λq=>(kV q.1,q.2)) (λi Z H4=>∃(o3 o4 o5:Option V) (ws:List (Key×V)),Z=[Sro p,Sro F,Sro D,o3,o4,o5]/\A0r (upd H a (.frz o1 (.dK ak))) H4/\H4 D=some (.dK ws)/\ws.map (·.1)=(ak.take i).map (·.1)/\E1x H H4 kvs sz ws (es.take i))
   ⟨none,none,none,[],rfl,g0,(by rw [A0h aD.symm,A0h Dv,A0b]),rfl,.nil⟩ (by rintro i Z H4 ⟨_,_,_,_,_,s4,_⟩;exact s4 _ _ A0b) ?_ ?_
  ·rintro i kx vx q Z H4 hx hq ⟨o3,o4,o5,ws,rfl,s4,h4,ks,wn⟩;walk_at "g";rw [Z1z] at hx;obtain ⟨⟨k',v⟩,hk,e⟩:=Z0i.mp hx;cases e;obtain ⟨e,he,ek,b,rfl,_,hb⟩:=A6w ar hk;have ek:k'=Sum.inr e.1:=ek;subst ek;obtain ⟨si,go⟩:=szs e (Z13 he);have sq:A0r H4 (upd H4 q (.tup [kV (Sum.inr e.1),.ref b])):=A0e hq;have s5:=s4.trans sq;have hb5:=s5 _ _ (up _ _ (A1g hb ha (by intro z;cases z)) hb);refine ⟨q,_,rfl,SqT.of A0b,rfl,_,_,rfl,_,_,rfl,rfl,_,rfl,_,rfl,p,_,dx,_,_,rfl,s5 _ _ (up _ _ pa hp),T.aj,T.ao,(by walk_at "lk"),b,l,e.2,lk,sz e.1,rfl,hb5,s5 _ _ (up _ _ la hl),si,go,λqc H6 hqc s6 cq=> ?_⟩;have s56:=s5.trans s6;obtain ⟨ps,hq6,tp⟩:=cq.ex;have lps:=tp.len;have lc:=go.len;refine ⟨_,rfl,qc,rfl,⟨_,SqL.of hq6⟩,λD2 hD2=> ?_⟩;refine B2m (K:=K) (a:=qc) (D:=D2) (xs:=ps.map V.ref) (λj zs H7=>A0r H6 H7/\H7 D2=some (.lst zs)/\∃qs:List Addr,zs=qs.map V.ref/\qs.length<=j/\A2q H7 qs (((A1e (sz e.1)).take j).filter λc=>(A1y kvs (nk (e.1,c))).isSome)) ⟨A0e hD2,A0b,[],rfl,Z09 _,.nil⟩ (λj zs H7 s7=>SqL.of (s7.1 _ _ hq6)) ?_ ?_
   ·rintro j y zs H7 hy ⟨s7,hD7,qs,rfl,lq,tq⟩;obtain ⟨pc,hpc,rfl⟩:=A2e hy;obtain ⟨c,hc,epc⟩:=tp.get hpc;have hj:j<ps.length:=(Z03.mp hpc).1;refine ⟨⟨rfl,rfl,True.intro⟩,_,rfl,_,rfl,A0y rfl,λb1 hb1=> ?_⟩;have sb:A0r H7 (upd H7 b1 (.tup [.str e.1,.ref pc])):=A0e hb1;have epc8:=sb _ _ (s7 _ _ epc);have na:A2b (upd H7 b1 (.tup [.str e.1,.ref pc])) (nk (e.1,c)) b1:=A2i A0b (by rw [List.map_map];exact epc8);have nd8:A3l P w [true,false] (upd H7 b1 (.tup [.str e.1,.ref pc])) F kvs:=A1h fn0 ((s56.trans s7).trans sb);have hD8:=sb _ _ hD7;refine ⟨_,rfl,F,b1,_,_,nk (e.1,c),⟨rfl,rfl,nd8,na,rfl⟩,_,rfl,D8d (λhz=> ?_) (λhz=> ?_)⟩
    ·have kD:KT (upd H7 b1 (.tup [.str e.1,.ref pc])) (upd (upd H7 b1 (.tup [.str e.1,.ref pc])) D2 (.lst (qs.map V.ref++[.ref pc]))):=KT.at hD8 (by intro xs z;cases z);refine ⟨_,rfl,hD8,A1c (by rw [Z08];lia),A0n (s7.trans sb) hD2,A0b,qs++[pc],by simp,by simp;lia,?_⟩;rw [Z14,hc,Z2f,List.filter_append,D6h (f:=λc=>(A1y kvs (nk (e.1,c))).isSome) hz];exact A2q.snoc (kD _ _ epc8) (tq.imp ((KT.same sb).trans kD))
    ·refine ⟨s7.trans sb,hD8,qs,rfl,by lia,?_⟩;rw [Z14,hc,Z2f,List.filter_append,D7t (f:=λc=>(A1y kvs (nk (e.1,c))).isSome) hz,Z0u];exact tq.same sb
   ·rintro zs H7 ⟨s7,hD7,qs,rfl,lq,tq⟩;rw [Z08,lps,Z18] at tq;have s47:A0r H4 H7:=sq.trans (s6.trans s7);have h7:=s47 _ _ h4;have h6D:=s6 _ _ (sq _ _ h4);have DD:D2≠D:=λz=>by subst z;rw [h6D] at hD2;cases hD2
    have lw:ws.length=(ak.take i).length:=by have:=congrArg List.length ks;simpa using this
    have lt2:(ak.take i).length<=ak.length:=by rw [Z0x];lia
    refine ⟨_,rfl,_,rfl,D,_,rfl,B6b.k (k:=Sum.inr e.1) h7 (A1c (by lia)),?_⟩;refine ⟨_,_,_,_,rfl,A0n (s56.trans s7) hDG,A0b,?_,?_⟩
    ·rw [A9d nd hk ws ks (.ref D2),Z14,hk,Z0s,Z0s,ks];rfl
    ·rw [A9d nd hk ws ks (.ref D2),Z14,he];refine B1o (Paired.mapP wn ?_) (.cons ⟨rfl,D2,rfl,nd0 _ (s56.free hD2),⟨qs,?_,tq.imp λc u ec=> ?_⟩⟩ .nil)
     ·rintro _ _ ⟨z1,b,z2,z3,z4⟩;exact ⟨z1,b,z2,z3,(z4.same s47).keep (λc u ec=>by rw [A0h (A1g ec h7 (by intro z;cases z))];exact ec) λc u ec=>by rw [A0h (A1g ec h7 (by intro z;cases z))];exact ec⟩
     ·rw [A0h DD];exact hD7
     ·rw [A0h (A1g ec h7 (by intro z;cases z))];exact ec
  ·rintro Z H4 ⟨o3,o4,o5,ws,rfl,s4,h4,ks,wn⟩;rw [Z08,lar,Z18] at wn;have hd4:H4 a=some (.frz o1 (.dK ak)):=s4 _ _ A0b;refine ⟨a,o1,_,hd4,.inl ⟨_,rfl⟩,(λo' u' z=>by have z:H a=some (.frz o' u'):=z;rw [ha] at z;cases z),_,rfl,?_⟩;refine k D ws _ hD (A8q ha s4) (by rw [A0h aD.symm];exact h4) (Paired.mapP wn ?_);rintro _ _ ⟨z1,b,z2,z3,z4⟩;exact ⟨z1,b,z2,z3,z4.keep (λc u ec=>by rw [A0h (A1g ec hd4 (by intro z;cases z))];exact ec) λc u ec=>by rw [A0h (A1g ec hd4 (by intro z;cases z))];exact ec⟩
def Oth (r:Addr) (H H':Hp):Prop:=∀b,b≠r->H' b=H b
def prd (L:Str->Int) (ys:List Str):Int:=ys.foldl (λc y=>c*L y) 1
theorem D1u (L:Str->Int) (ys:List Str) (y:Str):prd L (ys++[y])=prd L ys*L y:=by unfold prd;rw [List.foldl_append];rfl
def D6z (lk:List (Key×V)) (L:Str->Int) (ys:List Str):Prop:=∀y∈ys,A1y lk (Sum.inr y)=some (.int (L y))/\0<=L y/\L y<=60
inductive C0f (vs:List V) (H:Hp) (Q:VK):Prop
 | mk (l d:Addr) (ys:List Str) (lk:List (Key×V)) (L:Str->Int) (_:vs=[.ref l,.ref d]) (_:H l=some (.lst (ys.map V.str))) (_:H d=some (.dK lk)) (_:D6z lk L ys) (_:ys.length<=1000) (_:∀(H':Hp),A0r H H'->Q (.int (prd L ys)) H'):C0f vs H Q
def D3f:Sp:=λvs H Q _=>C0f vs H Q
def KI (H H':Hp):Prop:=∀b u,(∀n xs,u≠.lst (V.int n::xs))->H b=some u->H' b=some u
def hdI:List PyData->Bool
 | .int _::_=>false
 | _=>true
mutual
def noI:PyData->Bool
 | .list ds=>hdI ds&&D3e ds
 | .tuple ds=>D3e ds
 | _=>true
def D3e:List PyData->Bool
 | []=>true
 | d::r=>noI d&&D3e r
end
theorem E3x {ds:List PyData} (r:A5b H xs ds) (h:hdI ds=true):∀n ys,HO.lst xs≠.lst (V.int n::ys):=λn ys z=>by
 cases z
 cases r with
 | cons a _ =>
  cases a
  cases h
mutual
theorem Rep.ki {H H':Hp} (f:KI H H'):∀{v:V} {d:PyData},Rep H v d->noI d=true->Rep H' v d
 | _,_,.non,_=> .non
 | _,_,.bl b,_=> .bl b
 | _,_,.int i,_=> .int i
 | _,_,.str x,_=> .str x
 | _,_,.lst e r,h=>by
  rw [noI,Z1x] at h;exact .lst (f _ _ (E3x r h.1) e) (A5b.ki f r h.2)
 | _,_,.tup e r,h=>by
  rw [noI] at h;exact .tup (f _ _ (by intro n xs z;cases z) e) (A5b.ki f r h)
theorem A5b.ki {H H':Hp} (f:KI H H'):∀{vs:List V} {ds:List PyData},A5b H vs ds->D3e ds=true->A5b H' vs ds
 | _,_,.nil,_=> .nil
 | _,_,.cons a r,h=>by
  rw [D3e,Z1x] at h;exact .cons (Rep.ki f a h.1) (A5b.ki f r h.2)
end
theorem E0o (ix:List (Str×Int)):noI (B1l ix)=true:=by
 have h:∀ix:List (Str×Int),D3e (ix.map C1l)=true:=λix=>by
  induction ix with
  | nil=>simp [D3e]
  | cons e r ih=>rw [Z0p,D3e,ih];simp [C1l,noI,D3e]
 unfold B1l;rw [noI,h];cases ix <;> simp [hdI,C1l]
theorem D6i (ys:List Str):∀n xs,HO.lst (ys.map V.str)≠.lst (V.int n::xs):=λn xs z=>by
 cases ys with
 | nil=>cases z
 | cons y r=>cases z
theorem A7u {D:Addr} {ms:List Int} (hD:H D=some (.lst (ms.map V.int))) (o:Oth D H H') (e:ms=[]->H'=H):KI H H':=by
 cases ms with
 | nil=>rw [e rfl];exact λ_ _ _ y=>y
 | cons n r =>
  intro b u n1 y;by_cases hb:b=D
  ·subst hb;rw [hD] at y;cases y;exact absurd rfl (n1 n _)
  ·rw [o b hb];exact y
theorem KI.of (s:A0r H H'):KI H H':=λb u _ e=>s b u e
theorem KI.trans (a:KI H H') (b:KI H' H2):KI H H2:=λc u n e=>b c u n (a c u n e)
def Nw (G:Hp) (b:Addr):Prop:=∀u,G b=some u->∃n xs,u= .lst (V.int n::xs)
theorem Nw.up (k:KI H H') (h:Nw H' b):Nw H b:=λu e=>Classical.byContradiction λhn=>hn (h u (k b u (λn xs z=>hn ⟨n,xs,z⟩) e))
theorem D5s (h:H b=none):Nw H b:=λu e=>by rw [h] at e;cases e
theorem A6j (k:KI H H') (h:H' b=none):Nw H b:=(D5s h).up k
theorem D0z (k:KI H H'):KI (A2t S H) (A2t S H'):=λb u n e=>A1k (A0v e).1 (k b u n (A0v e).2)
theorem KI.str (k:KI H H') (e:H b=some (.lst (ys.map V.str))):H' b=some (.lst (ys.map V.str)):=k _ _ (D6i ys) e
theorem KI.dk (k:KI H H') (e:H b=some (.dK kvs)):H' b=some (.dK kvs):=k _ _ (by intro n xs z;cases z) e
def D7a:Sp:=λvs H Q _=>∃(r:Addr) (ns:List Int),vs=[.ref r]/\H r=some (.lst (ns.map V.int))/\∀(i:Int) (ms:List Int) (H':Hp),ms.length<=ns.length->H' r=some (.lst (ms.map V.int))->Oth r H H'->(ns=[]->H'=H)->Q (.int i) H'
structure AxN (nm ys:List Str):Prop where
 nd:ys.Nodup
 sub:∀y∈ys,y∈nm
 few:ys.length<=3
inductive C4t (vs:List V) (H:Hp) (Q:VK):Prop
 | mk (c:Int) (l:Addr) (nm:List Str) (_:vs=[.int c,.ref l]) (_:H l=some (.lst (nm.map V.str))) (_:nm.length<=8) (_:0<nm.length) (_:nm.Nodup) (_:∀(ys:List Str) (p:Addr) (H':Hp),H p=none->A0r H H'->H' p=some (.lst (ys.map V.str))->AxN nm ys->Q (.ref p) H'):C4t vs H Q
def D7e:Sp:=λvs H Q _=>C4t vs H Q
theorem D5c {m c tn:Int} (m0:0<m) (m8:m<=8) (ht:tn=1\/tn=m-1) (hi:(i:Int)<m) (hj:(j:Int)<m) (e:(c+(i:Int)*tn)%m=(c+(j:Int)*tn)%m):i=j:=by
 have h:m=1\/m=2\/m=3\/m=4\/m=5\/m=6\/m=7\/m=8:=by lia
 rcases h with rfl | rfl | rfl | rfl | rfl | rfl | rfl | rfl <;> rcases ht with rfl | rfl <;> lia
theorem D9f {zs:List Str} {f:Nat->Nat} (nd:nm.Nodup) (h:∀j,j<zs.length->zs[j]? =nm[f j]?) (inj:∀i j,i<zs.length->j<zs.length->f i=f j->i=j):zs.Nodup:=by
 rw [List.nodup_iff_pairwise_ne,List.pairwise_iff_getElem];intro i j hi hj hij e;have h1:=h i hi;have h2:=h j hj;rw [Z0b hi] at h1;rw [Z0b hj] at h2;rw [e] at h1;have hb:f i<nm.length:=(Z03.mp h1.symm).1;have:=(List.getElem?_inj hb nd).mp (h1.symm.trans h2);have:=inj i j hi hj this
 lia
theorem B0h (T:Txt K mg t):FO P w base T.bd 1 D7a:=by
 refine T.bd.F.ok C9m (by walk_at "ln") λ_ A _ s H _ Q E hr h=> ?_
 ·obtain ⟨r,ns,rfl,hns,k⟩:=h
  refine ⟨_,(A0c (A1s (A0t A3f (A0q A0z (by rfl) T.au Z0r (A0a (pv 0) A0d)) A0g (A1i _))
    (A0f (A0p A0g))
    A0s)
   (A0f (A0p (B6d Z0k PySem.F.slot_list_pop PySem.F.type_list_pop D8r (pv 0))))),?_⟩
  refine ⟨_,rfl,r,_,rfl,.inl (SqL.of hns),rfl,_,rfl,A3u (λ_=> ?_) (λh=> ?_)⟩
  ·exact k 0 ns H (Z09 _) hns (λ_ _=>rfl) λ_=>rfl
  ·have hpos:0<ns.length:=by
    rcases Nat.eq_zero_or_pos ns.length with z | z
    ·exact absurd (by rw [Z08,z];rfl) h
    ·exact z
   have e:(ns.map V.int)[(ns.map V.int).length-1]? =some (V.int (ns[ns.length-1]'(by lia))):=by
    rw [Z08,Z1z,Z0b (by lia:ns.length-1<ns.length)];rfl
   refine ⟨_,rfl,.inl ⟨rfl,_,SqL.of hns⟩,r,_,_,rfl,rfl,hns,e,k _ ns.dropLast _ (by simp) ?_ (λb hb=>A0h hb) λz=>by rw [z] at hpos;cases hpos⟩;rw [A0b,List.map_dropLast]
theorem C0l (T:Txt K mg t):FO P w base T.i7 1 D7e:=by
 refine T.i7.F.ok B0e (by walk_at "ln") λ_ A _ s H _ Q E hr h=> ?_
 ·obtain ⟨c,l,nm,rfl,hl,h8,hpos,nd,k⟩:=h
  refine ⟨_,(A0c (A0m (i:=2) B0e.nd (A0q A0z (by rfl) T.au Z0r (A0a (pv 1) A0d)))
   (A0c (A0m (i:=3) B0e.nd A0g)
   (A3m (A1s (PW.pt (B4i (A0t A3f (A0x A2a (A0x A2w (pv 0) A0g) A0g) A0g (A1i _)) (B1c (A0t C1k (pv 2) A0g (A1i _)))))
    (A0f (A0m (i:=3) B0e.nd (A0x A7y (pv 2) A0g)))
    A0s)
   (A0f (A0p (A3n (N':=["_law_j","_law_cell_here","_law_many_here","_law_names","_law_turn"]) (ix:=(List.replicate 1 none++[some 0,some 2,some 1,some 3])) rfl (A8r (cl:=[("_law_turn",_),("_law_names",_),("_law_many_here",_),("_law_cell_here",_)]) (xs:=["_law_turn","_law_names","_law_many_here","_law_cell_here"]) rfl ⟨rfl,rfl,rfl,rfl,trivial⟩ rfl rfl (by decide +kernel) (by decide +kernel)) (A8n (N0:=["_law_j"]) (xs:=["_law_cell_here","_law_many_here","_law_names","_law_turn"]) (js:=[0,2,1,3]) ⟨⟨rfl,Or.inl rfl,(by walk_at "ix")⟩,⟨rfl,Or.inl rfl,(by walk_at "ix")⟩,⟨rfl,Or.inl rfl,(by walk_at "ix")⟩,⟨rfl,Or.inl rfl,(by walk_at "ix")⟩,trivial⟩) (A4j rfl T.bo (A0a (A0q (C0k rfl) (by rfl) T.nW PyProof.Rows.boot_min (A0a (A0x A2a (pv 0) A0g) (A0a (pv 2) A0d))) A0d)) (λ_ _ _ _=>(A0k (i:=0) D0t)) (λ_ _ _ _=>(A1b (C4f (K:=K) rfl) (pv 3) (A0x A2a (A0x A4a (A0x A2w (pv 1) A0g) (A0x C0g (pv 0) (pv 4))) (pv 2)))))))))),?_⟩
  refine ⟨_,rfl,l,_,rfl,.inl (SqL.of hl),?_⟩;rw [Z08];refine ⟨λZ H2=>H=H2/\∃tn:Int,(tn=1\/tn=(nm.length:Int)-1)/\Z=[Sio c,Sro l,Sio nm.length,Sio tn],?_,?_⟩
  ·refine ⟨_,rfl,_,_,rfl,rfl,⟨by decide,by decide⟩,_,_,rfl,rfl,E2f,rfl,_,rfl,C5x (λ_=> ?_) (λ_=>A7x ⟨rfl,_,.inl rfl,rfl⟩)⟩;refine ⟨_,rfl,_,_,rfl,rfl,_,rfl,A3u (λ_=> ?_) (λ_=>⟨rfl,_,.inl rfl,rfl⟩)⟩;exact ⟨_,rfl,_,_,rfl,rfl,rfl,_,.inr rfl,rfl⟩
  ·rintro Z H2 ⟨rfl,tn,htn,rfl⟩;refine ⟨_,rfl,_,_,rfl,rfl,D8f,_,rfl,_,_,rfl,?_⟩;generalize hm:(if (nm.length:Int)<c%4 then (nm.length:Int) else c%4)=m;have hm3:m<=3:=by rw [<-hm];split <;> lia
   have hm0:0<=m:=by rw [<-hm];split <;> lia
   have hmn:m<=nm.length:=by rw [<-hm];split <;> lia
   refine ⟨_,rfl,by lia,by lia,λD hD=> ?_⟩;refine A7f (D:=D) m.toNat (λi ys H3=>A0r H H3/\H3 D=some (.lst ys)/\∃zs:List Str,ys=zs.map V.str/\zs.length=i/\∀j,j<i->zs[j]? =nm[((c/8+(j:Int)*tn)%(nm.length:Int)).toNat]?) ⟨A0e hD,A0b,[],rfl,rfl,by intro j hj;lia⟩ (λi ys H3 hi _=>hi) (λys H3 _=>Z09 _) ?_ ?_
   ·rintro i ys H3 hi ⟨s3,h3,zs,rfl,hz,ez⟩ x H4 ⟨rfl,rfl⟩;refine B9q ?_;intro N';rw [Int.zero_add];obtain ⟨x,xm,e⟩:=A8o (f:=V.str) (xs:=nm) (i:=(c/8+(i:Int)*tn)%(nm.length:Int)) (Z1v _ (by lia)) (Z1p _ (by lia));refine ⟨⟨rfl,rfl,rfl,rfl,True.intro⟩,_,rfl,_,rfl,_,_,rfl,rfl,⟨by decide,by decide⟩,_,rfl,_,rfl,_,_,rfl,rfl,.inl ⟨by lia,by lia⟩,_,_,rfl,rfl,_,rfl,_,_,rfl,rfl,(by show (0:Int)<(nm.length:Int);lia),l,_,_,_,rfl,rfl,SqL.of (s3 _ _ hl),e,?_⟩;refine ⟨h3,A1c (by simp;lia),A0n s3 hD,A0b,zs++[x],by simp,by simp [hz],λj hj=> ?_⟩;rcases Nat.lt_or_ge j i with hji | hji
    ·rw [Z26 (by lia)];exact ez j hji
    ·have:j=i:=by lia
     subst this;rw [xm,Z1l (by lia),hz,Nat.sub_self];rfl
   ·rintro ys H3 ⟨s3,h3,zs,rfl,hz,ez⟩
    have zn:zs.Nodup:=D9f (f:=λj=>((c/8+(j:Int)*tn)%(nm.length:Int)).toNat) nd (λj hj=>ez j (by lia)) λi j hi hj e=>by
     have a1:=Z1v (c/8+(i:Int)*tn) (show (nm.length:Int)≠0 by lia);have a2:=Z1v (c/8+(j:Int)*tn) (show (nm.length:Int)≠0 by lia);refine D5c (m:=nm.length) (c:=c/8) (tn:=tn) (by lia) (by lia) htn (by lia) (by lia) ?_;have e:((c/8+(i:Int)*tn)%(nm.length:Int)).toNat=((c/8+(j:Int)*tn)%(nm.length:Int)).toNat:=e
     lia
    have zs':∀y∈zs,y∈nm:=λy hy=>by
     obtain ⟨j,hj⟩:=List.getElem?_of_mem hy;have hl:=(Z03.mp hj).1;rw [ez j (by lia)] at hj;exact Z13 hj
    exact k zs D H3 hD s3 h3 ⟨zn,zs',by lia⟩
theorem B8m (T:Txt K mg t):FO P w base T.dg 1 D3f:=by
 refine T.dg.F.ok B0d (by walk_at "ln") λ_ A _ s H _ Q E hr h=> ?_
 ·obtain ⟨l,d,ys,lk,L,rfl,hl,hd,tl,ly,k⟩:=h;have hu:=A6c hr
  refine ⟨_,(A0c (A0m (i:=2) B0d.nd A0g)
   (A0c (A1o (A1n (pv 0)) (A0k (i:=3) B0d.nd)
    (A0f (A0m (i:=2) B0d.nd (A0x C0g (pv 2) (A0u hu (pv 1) (pv 3))))))
   (A0f (A0p (pv 2))))),?_⟩
  refine ⟨_,rfl,l,rfl,⟨_,SqL.of hl⟩,?_⟩;refine A1v (K:=K) (a:=l) (xs:=ys.map V.str) (λi Z H2=>H=H2/\∃o3:Option V,Z=[Sro l,Sro d,Sio (prd L (ys.take i)),o3]) ⟨rfl,none,rfl⟩ (λi Z H2 _ ⟨h,_⟩=>by rw [<-h];exact SqL.of hl) ?_ ?_
  ·rintro i x Z H2 hx ⟨rfl,o3,rfl⟩;walk_at "g";rw [Z1z] at hx;obtain ⟨y,hy,rfl⟩:=Z0i.mp hx;obtain ⟨v1,v2⟩:=tl y (Z13 hy);have g:=A9r.k (H:=H) (a:=d) (k:=Sum.inr y) hd;rw [v1] at g;refine ⟨_,rfl,_,rfl,_,rfl,d,_,rfl,g,_,_,rfl,rfl,.inr ⟨by lia,by lia⟩,rfl,some (.str y),?_⟩;rw [Z14,hy,Z2f,D1u];rfl
  ·rintro Z H2 ⟨rfl,o3,rfl⟩;rw [Z08,Z18];exact ⟨_,rfl,k H (A0r.refl _)⟩
inductive B5s (vs:List V) (H:Hp) (Q:VK):Prop
 | mk (c n:Int) (_:vs=[.int c,.int n]) (_:0<=n) (_:n<=1000) (_:∀(p:Addr) (ms:List Int) (H':Hp),H p=none->A0r H H'->H' p=some (.lst (ms.map V.int))->ms.length=n.toNat->Q (.ref p) H'):B5s vs H Q
def C7j:Sp:=λvs H Q _=>B5s vs H Q
theorem pw4:(0:Int)<10^(4:Int).toNat:=by decide
theorem C1v (T:Txt K mg t):FO P w base T.gx 1 C7j:=by
 refine T.gx.F.ok A5y (by walk_at "ln") λ_ A _ s H _ Q E hr h=> ?_
 ·obtain ⟨c,n,rfl,n0,n1,k⟩:=h
  refine ⟨_,(A0c (A0m (i:=2) A5y.nd (A2f A0d))
   (A0c (A0m (i:=3) A5y.nd (pv 0))
   (A0c (A1o (A4j rfl T.bo (A0a (pv 1) A0d)) (A0k (i:=4) A5y.nd)
    (A0c (A3c (B0a Z0k Z0n Z0o A3h (pv 2) (A0a (A0x A2a (pv 3) (A0x C0r A0g A0g)) A0d)))
    (A0f (A0m (i:=3) A5y.nd (A0x A2w (pv 3) (A0x C0r A0g A0g))))))
   (A0f (A0p (pv 2)))))),?_⟩
  refine ⟨A0y rfl,λD hD=>⟨_,rfl,_,rfl,n,rfl,by lia,by lia,?_⟩⟩;refine A7e (n:=n.toNat) (λj Z H2=>∃(z:Int) (ms:List Int) (o4:Option V),Z=[Sio c,Sio n,Sro D,Sio z,o4]/\A0r H H2/\H2 D=some (.lst (ms.map V.int))/\ms.length=j) ⟨c,[],none,rfl,A0e hD,A0b,rfl⟩ ?_ ?_
  ·rintro j Z H2 hj ⟨z,ms,o4,rfl,s2,h2,lm⟩;walk_at "g";rw [Int.zero_add];refine ⟨_,rfl,.inl ⟨rfl,_,SqL.of h2⟩,_,rfl,_,_,rfl,rfl,?_,_,_,rfl,rfl,pw4,D,_,_,rfl,rfl,h2,A1c (by rw [Z08];lia),?_⟩
   ·exact ⟨by decide,by decide,by decide⟩
   ·refine ⟨_,rfl,_,_,rfl,rfl,⟨by decide,by decide,by decide⟩,_,_,rfl,rfl,⟨pw4,by decide⟩,?_⟩;exact ⟨_,ms++[z%10^(4:Int).toNat],_,rfl,A0n s2 hD,by rw [A0b,Z0s];rfl,by simp [lm]⟩
  ·rintro Z H2 ⟨z,ms,o4,rfl,s2,h2,lm⟩;exact ⟨_,rfl,k D ms H2 hD s2 h2 lm⟩
theorem B5q (T:Txt K mg t):FO P w base T.dj 1 E1g:=by
 refine T.dj.F.ok A5r (by walk_at "ln") λ_ A _ s H _ Q E hr h=> ?_
 ·obtain ⟨l,d,ys,lk,ls,rfl,hl,hd,sz,g,k⟩:=h;have hu:=A6c hr;have lls:=Paired.length sz
  refine ⟨_,(A0c (A0m (i:=2) A5r.nd (A2f (A0a (A1t A0d) A0d)))
   (A0c (A1o (A1n (pv 0)) (A0k (i:=3) A5r.nd)
    (A0c (A0m (i:=4) A5r.nd (A2f A0d))
    (A0c (A1o (A1n (pv 2)) (A0k (i:=5) A5r.nd)
     (A0f (A3c (B0a Z0k PySem.F.slot_list_extend PySem.F.type_list_extend B0g (pv 4) (A0a (A3n (N':=["_law_number","_law_cell_here"]) (ix:=(List.replicate 1 none++[some 5])) rfl (A9b (x:="_law_cell_here") rfl rfl rfl (by decide +kernel) (by decide +kernel)) (A7b (N0:=["_law_number"]) rfl (.inl rfl) (by walk_at "ix")) (A4j rfl T.bo (A0a (A0u hu (pv 1) (pv 3)) A0d)) (λ_ _ _ _=>(A0k (i:=0) C7l)) (λ_ _ _ _=>(A0x B7u (pv 1) (A1t (A0a (pv 0) A0d))))) A0d)))))
    (A0f (A0m (i:=2) A5r.nd (pv 4))))))
   (A0f (A0p (pv 2))))),?_⟩
  refine ⟨A0y rfl,λe he=>⟨A0y rfl,λq hq=> ?_⟩⟩;have hq0:H q=none:=(A0e he).free hq;have s1:A0r H (upd (upd H e (.tup [])) q (.lst [V.ref e])):=(A0e he).trans (A0e hq)
  refine ⟨_,rfl,l,rfl,⟨_,SqL.of (s1 _ _ hl)⟩,A1v (K:=K) (a:=l) (xs:=ys.map V.str) (λi Z H2=>∃(o3 o4 o5:Option V) (q:Addr),Z=[Sro l,Sro d,Sro q,o3,o4,o5]/\A0r H H2/\H q=none/\A3r H2 q (A1e (ls.take i)))
   ⟨none,none,none,q,rfl,s1,hq0,⟨[e],A0b,.cons (by rw [A0h (A0i A0b hq)];exact A0b) .nil⟩⟩ (by rintro i Z H2 _ ⟨_,_,_,_,_,s2,_⟩;exact SqL.of (s2 _ _ hl)) ?_ ?_⟩
  ·rintro i y Z H2 hi ⟨o3,o4,o5,q,rfl,s2,hq,c2⟩;obtain ⟨y,hy,rfl⟩:=A2e hi;obtain ⟨n,hn,ev⟩:=A6w sz hy;have gp:=g.pos n (Z13 hn);have cl:=A3a (ls.take i) λm hm=>(g.pos m (Z2p hm)).1;have pl:=B1x ls (λm hm=>(g.pos m hm).1) i;have gm:=g.most;have gf:=g.few;obtain ⟨ps,hq2,tp⟩:=c2.ex;have lps:=tp.len;refine ⟨A0y rfl,λL hL=> ?_⟩;have sL:A0r H2 (upd H2 L (.lst [])):=A0e hL
   refine ⟨_,rfl,q,rfl,⟨_,SqL.of (sL _ _ hq2)⟩,A1v (K:=K) (a:=q) (xs:=ps.map V.ref) (λj Z H3=>∃(o5:Option V) (qs:List Addr),Z=[Sro l,Sro d,Sro q,Sso y,Sro L,o5]/\A0r H2 H3/\H3 L=some (.lst (qs.map V.ref))/\A2q H3 qs (B1g ((A1e (ls.take i)).take j) n))
    ⟨_,[],rfl,sL,A0b,.nil⟩ (by rintro j Z H3 _ ⟨_,_,_,s3,_⟩;exact SqL.of (s3 _ _ hq2)) ?_ ?_⟩
   ·rintro j z Z H3 hz ⟨o5,qs,rfl,s3,h3,t3⟩;obtain ⟨pc,hpc,rfl⟩:=A2e hz;obtain ⟨c,hc,hpt⟩:=tp.get hpc;have cw:=(A6f _ c (Z13 hc)).1;rw [Z0x] at cw;have gk:=A9r.k (H:=H3) (a:=d) (k:=Sum.inr y) (s3 _ _ (s2 _ _ hd));rw [ev] at gk
    have hql:qs.length<=240000:=by
     have e:=t3.len;rw [A9v] at e;have e1:((A1e (ls.take i)).take j).length*n.toNat<=4000*60:=Nat.mul_le_mul (by rw [Z0x];lia) (by lia)
     lia
    refine ⟨_,rfl,.inl ⟨rfl,_,SqL.of h3⟩,_,rfl,_,rfl,d,_,rfl,gk,n,rfl,by lia,by lia,λD hD=> ?_⟩;refine A7f (D:=D) n.toNat (λm zs H4=>A0r H3 H4/\H4 D=some (.lst zs)/\∃ws:List Addr,zs=ws.map V.ref/\ws.length=m/\A2q H4 ws ((List.range m).map λ(m:Nat)=>c++[(m:Int)])) ⟨A0e hD,A0b,[],rfl,rfl,.nil⟩ (λm zs H4 hm _=>hm) (λzs H4 _=>Z09 _) ?_ ?_
    ·rintro m zs H4 hm ⟨s4,h4,ws,rfl,lw,t4⟩ x H5 ⟨rfl,rfl⟩;refine B9q ?_;intro N';rw [Int.zero_add];refine ⟨⟨rfl,True.intro⟩,_,rfl,_,rfl,A0y rfl,λu hu'=> ?_⟩;have s5:A0r H5 (upd H5 u (.tup [V.int (m:Int)])):=A0e hu';refine ⟨pc,u,c.map V.int,[V.int (m:Int)],rfl,rfl,s5 _ _ (s4 _ _ (s3 _ _ hpt)),A0b,A2o (by simp;lia),λq' H6 s6 hq'=> ?_⟩;have h6:=s6 _ _ (s5 _ _ h4);refine ⟨h6,A1c (by rw [Z08];lia),A0n (s4.trans (s5.trans s6)) hD,A0b,ws++[q'],by simp,by simp [lw],?_⟩;rw [List.range_succ,Z0s];have kD:KT H6 (upd H6 D (.lst (ws.map V.ref++[.ref q']))):=KT.at h6 (by intro xs z;cases z);exact A2q.snoc (kD _ _ (by rw [hq',Z0s];rfl)) ((t4.same (s5.trans s6)).imp kD)
    ·rintro zs H4 ⟨s4,h4,ws,rfl,lw,t4⟩;have h4L:=s4 _ _ h3;refine ⟨L,D,_,_,rfl,rfl,h4L,h4,A2o (by rw [Z08,Z08];lia),?_⟩;have kL:KT H4 (upd H4 L (.lst (qs.map V.ref++ws.map V.ref))):=KT.at h4L (by intro xs z;cases z);refine ⟨_,qs++ws,rfl,A0n (s3.trans s4) hL,by rw [A0b,Z0s],?_⟩
     have e:B1g ((A1e (ls.take i)).take (j+1)) n=B1g ((A1e (ls.take i)).take j) n++(List.range n.toNat).map λ(m:Nat)=>c++[(m:Int)]:=by
      rw [Z14,hc];simp [B1g]
     rw [e];exact B1o ((t3.same s4).imp kL) (t4.imp kL)
   ·rintro Z H3 ⟨o5,qs,rfl,s3,h3,t3⟩;refine ⟨_,rfl,_,_,_,L,rfl,s2.trans s3,s2.free hL,⟨qs,h3,?_⟩⟩;rw [Z08,lps,Z18] at t3;rw [A7v hn];exact t3
  ·rintro Z H2 ⟨o3,o4,o5,q,rfl,s2,hq,c2⟩;have e:ls.take (ys.map V.str).length=ls:=Z2l (by rw [Z08];lia);rw [e] at c2;exact ⟨_,rfl,k q H2 hq s2 c2⟩
def E2q (k:Int):Op3:=if k=0 then .plus else if k=1 then .minus else .times
inductive A9n (H:Hp):V->Tm->Prop
 | num {a:Addr} {z:Int}:H a=some (.tup [.str "number",.int z])->A9n H (.ref a) (.num z)
 | place {a:Addr} {x:Str}:H a=some (.tup [.str "place",.str x])->A9n H (.ref a) (.place x)
 | read {a l:Addr} {x:Str} {ix:List (Str×Int)}:H a=some (.tup [.str "read",.str x,.ref l])->Rep H (.ref l) (B1l ix)->A9n H (.ref a) (.read x ix)
 | pair {a:Addr} {k:Int} {u w:V} {l r:Tm}:H a=some (.tup [.str "pair",.int k,u,w])->A9n H u l->A9n H w r->A9n H (.ref a) (.pair (E2q k) l r)
 | guard {a:Addr} {x:Str} {lo hi:Int} {u w:V} {l r:Tm}:H a=some (.tup [.str "guard",.str x,.int lo,.int hi,u,w])->A9n H u l->A9n H w r->A9n H (.ref a) (.guard x lo hi l r)
theorem A9n.ki (f:KI H H') {t:Tm} (h:A9n H v t):A9n H' v t:=by
 have g:∀b xs,H b=some (.tup xs)->H' b=some (.tup xs):=λb xs e=>f b _ (by intro n ys z;cases z) e
 induction h with
 | num e=>exact .num (g _ _ e)
 | place e=>exact .place (g _ _ e)
 | read e r=>exact .read (g _ _ e) (Rep.ki f r (E0o _))
 | pair e _ _ i1 i2=>exact .pair (g _ _ e) i1 i2
 | guard e _ _ i1 i2=>exact .guard (g _ _ e) i1 i2
theorem A9n.same (s:A0r H H') {t:Tm} (h:A9n H v t):A9n H' v t:=h.ki (KI.of s)
inductive B8l (n:Nat) (vs:List V) (H:Hp) (Q:VK):Prop
 | mk (v:V) (u:Tm) (_:vs=[v]) (_:A9n H v u) (_:dep u<=n) (_:Q (.int (nod u:Nat)) H):B8l n vs H Q
def D3i (n:Nat):Sp:=λvs H Q _=>B8l n vs H Q
theorem sno (h:(V.str x)=V.str y) (hn:¬x=y):False:=hn (V.str.inj h)
theorem B6h (T:Txt K mg t):∀n:Nat,A4q P w K mg base CX0 n t.kh t.ke B9b (D3i n)
 | 0=>A4q.none (by rintro vs H Q E ⟨v,u,_,_,h,_⟩;have:=B7j u;lia)
 | n+1=>by
  have Gb2:=B6h T n;refine T.bq.F.ok C6n (λvs H Q E h=> ?_) λ_ A _ s H _ Q E hr h=> ?_
  ·obtain ⟨v,u,rfl,_⟩:=h;rfl
  ·obtain ⟨v,u,rfl,tr,hd,k⟩:=h
   refine ⟨_,(A0c (A1s (A0t A3f (A1b A1d (pv 0) A0g) A0o (A1i _))
    (A0f (A0p (A0x A4a (A0x A4a A0g (pcl Gb2 hr T.bq (A0a (A1b A1d (pv 0) A0g) A0d))) (pcl Gb2 hr T.bq (A0a (A1b A1d (pv 0) A0g) A0d)))))
    A0s)
   (A0c (A1s (A0t A3f (A1b A1d (pv 0) A0g) A0o (A1i _))
    (A0f (A0p (A0x A4a (A0x A4a A0g (pcl Gb2 hr T.bq (A0a (A1b A1d (pv 0) A0g) A0d))) (pcl Gb2 hr T.bq (A0a (A1b A1d (pv 0) A0g) A0d)))))
    A0s)
   (A0f (A0p A0g)))),?_⟩
   cases tr with
   | num e =>
    walk_at "a";walk_at "a";exact k
   | place e =>
    walk_at "a";walk_at "a";exact k
   | read e r =>
    walk_at "a";walk_at "a";exact k
   | @pair _ _ u w' l r e o1 o2 =>
    walk_at "d";have hd':=hd;simp only [dep] at hd';have ek:(1+(nod l:Int)+(nod r:Int))=((nod l+nod r+1:Nat):Int):=by lia
    have k:Q (.int ((nod l+nod r+1:Nat):Int)) H:=k;rw [<-ek] at k;exact ⟨_,rfl,_,_,_,_,rfl,rfl,SqT.of e,A0j (j:=2) rfl,u,l,rfl,o1,by lia,_,_,rfl,rfl,_,rfl,_,_,_,_,rfl,rfl,SqT.of e,A0j (j:=3) rfl,w',r,rfl,o2,by lia,_,_,rfl,rfl,k⟩
   | @guard _ _ _ _ u w' l r e o1 o2 =>
    walk_at "a";walk_at "d";have hd':=hd;simp only [dep] at hd';have ek:(1+(nod l:Int)+(nod r:Int))=((nod l+nod r+1:Nat):Int):=by lia
    have k:Q (.int ((nod l+nod r+1:Nat):Int)) H:=k;rw [<-ek] at k;exact ⟨_,rfl,_,_,_,_,rfl,rfl,SqT.of e,A0j (j:=4) rfl,u,l,rfl,o1,by lia,_,_,rfl,rfl,_,rfl,_,_,_,_,rfl,rfl,SqT.of e,A0j (j:=5) rfl,w',r,rfl,o2,by lia,_,_,rfl,rfl,k⟩
inductive C3v (A:Adr) (n:Nat) (vs:List V) (H:Hp) (Q:VK):Prop
 | mk (v:V) (u:Tm) (_:vs=[v]) (_:A9n H v u) (_:dep u<=n) (_:Gd u) (_:∀(v':V) (H':Hp),A0r H H'->Ob A (A2t (λb=>H b=none) H') v' u->Q v' H'):C3v A n vs H Q
def D6g (A:Adr) (n:Nat):Sp:=λvs H Q _=>C3v A n vs H Q
theorem B8u (T:Txt K mg t):∀n:Nat,A4q P w K mg base CX0 (n+6) t.m7 t.l_ B9b (D6g t n)
 | 0=>A4q.none (by rintro vs H Q E ⟨v,u,_,_,h,_⟩;have:=B7j u;lia)
 | n+1=>by
  have Gb3:=B8u T n;have Gb4:= @B4z P w K mg base t T;have Gb5:= @B8e P w K mg base t T;have Gb6:= @C0u P w K mg base t T;have Gb7:= @B6p P w K mg base t T;have Gb8:= @C1f P w K mg base t T;refine T.dh.F.ok B2x (λvs H Q E h=> ?_) λ_ A _ s H _ Q E hr h=> ?_
  ·obtain ⟨v,u,rfl,_⟩:=h;rfl
  ·obtain ⟨v,u,rfl,tr,hd,gd,k⟩:=h
   refine ⟨_,(A0c (A1s (A0t A3f (A1b A1d (pv 0) A0g) A0o (A1i _))
    (A0f (A0p (pmk T.mS Gb4 hr T.nI T.c_.b (A0a (A1b A1d (pv 0) A0g) A0d))))
    A0s)
   (A0c (A1s (A0t A3f (A1b A1d (pv 0) A0g) A0o (A1i _))
    (A0f (A0p (pmk T.nu Gb5 hr T.nT T.dz.b (A0a (A1b A1d (pv 0) A0g) A0d))))
    A0s)
   (A0c (A1s (A0t A3f (A1b A1d (pv 0) A0g) A0o (A1i _))
    (A0f (A0p (pmk T.nS Gb6 hr T.nZ T.fj.b (A0a (A1b A1d (pv 0) A0g) (A0a (A3g A6h (by rfl) T.d_ Z1o (A0a (A1b A1d (pv 0) A0g) A0d)) A0d)))))
    A0s)
   (A0c (A1s (A0t A3f (A1b A1d (pv 0) A0g) A0o (A1i _))
    (A0f (A0p (pmk T.nF Gb7 hr T.nO T.dq.b (A0a (A1b A1d (pv 0) A0g) (A0a (A1b A1d (pv 0) A0g) (A0a (A1b A1d (pv 0) A0g) (A0a (pcl Gb3 hr T.dh (A0a (A1b A1d (pv 0) A0g) A0d)) (A0a (pcl Gb3 hr T.dh (A0a (A1b A1d (pv 0) A0g) A0d)) A0d))))))))
    A0s)
   (A0c (A0m (i:=1) B2x.nd (pcl Gb3 hr T.dh (A0a (A1b A1d (pv 0) A0g) A0d)))
   (A0c (A0m (i:=2) B2x.nd (pcl Gb3 hr T.dh (A0a (A1b A1d (pv 0) A0g) A0d)))
   (A0c (A1s (A0t A3f (A1b A1d (pv 0) A0g) A0g (A1i _))
    (A0f (A0p (pmk T.nN Gb8 hr T.nY T.bu.b (A0a (pv 1) (A0a (pv 2) A0d)))))
    A0s)
   (A0c (A1s (A0t A3f (A1b A1d (pv 0) A0g) A0g (A1i _))
    (A0f (A0p (pmk T.nG Gb8 hr T.nJ T.bu.b (A0a (pv 1) (A0a (pv 2) A0d)))))
    A0s)
   (A0f (A0p (pmk T.nE Gb8 hr T.nK T.bu.b (A0a (pv 1) (A0a (pv 2) A0d))))))))))))),?_⟩
   cases tr with
   | num e =>
    walk_at "d";refine ⟨_,rfl,_,_,_,_,rfl,rfl,SqT.of e,A0j (j:=1) rfl,λx dx hx hdx hne=>⟨x,_,dx,_,rfl,A0b,T.kd,T.iq,rfl,?_⟩⟩;exact k _ _ (A5e hx hdx) (.num (A1k hx A0b))
   | place e =>
    walk_at "a";walk_at "d";refine ⟨_,rfl,_,_,_,_,rfl,rfl,SqT.of e,A0j (j:=1) rfl,λx dx hx hdx hne=>⟨x,_,dx,_,rfl,A0b,T.lX,T.ju,rfl,?_⟩⟩;exact k _ _ (A5e hx hdx) (.place (A1k hx A0b))
   | @read _ l arr ix e r =>
    walk_at "a";walk_at "a";walk_at "d";have gd:ix.length<=100:=gd
    cases r with
    | @lst _ iv _ hl ri =>
    refine ⟨_,rfl,_,_,_,_,rfl,rfl,SqT.of e,A0j (j:=1) rfl,_,rfl,_,_,_,_,rfl,rfl,SqT.of e,A0j (j:=2) rfl,l,_,rfl,.inl (SqL.of hl),λl2 hl2 x dx hx hdx hne=> ?_⟩;have v1:A0r H (upd H l2 (.lst iv)):=A0e hl2;have hl21:upd H l2 (.lst iv) l2=some (.lst iv):=A0b;generalize upd H l2 (.lst iv)=G1 at v1 hl21 hx hdx⊢;have v2:A0r G1 (upd (upd G1 dx (.own x)) x (.ins t.bc dx [])):=A0n (A0e hdx) hx;have hx2:upd (upd G1 dx (.own x)) x (.ins t.bc dx []) x=some (.ins t.bc dx []):=A0b;generalize upd (upd G1 dx (.own x)) x (.ins t.bc dx [])=G2 at v2 hx2⊢;refine ⟨x,dx,l2,arr,ix,rfl,hx2,.lst (v2 _ _ hl21) (ri.same (v1.trans v2)),by lia,λl' G3 hx3 rp3 kb3=>⟨rfl,?_⟩⟩;have v3:A0r G1 G3:=λb o e=>kb3 b o (A0i e hx) (v2 _ _ e);exact k (.ref x) G3 (v1.trans v3) (.read (A1k (v1.free hx) hx3) (rp3.same (A4m (A0r.refl _) λa o _ h=>(v1.trans v2).free h)))
   | @pair _ kk u w' l r e o1 o2 =>
    walk_at "a";walk_at "a";walk_at "a";walk_at "a";have hd':=hd;simp only [dep] at hd';refine ⟨_,rfl,_,_,_,_,rfl,rfl,SqT.of e,A0j (j:=2) rfl,u,l,rfl,o1,by lia,gd.1,λv1 H1 s1 ob1=> ?_⟩;refine ⟨_,rfl,_,_,_,_,rfl,rfl,SqT.of (s1 _ _ e),A0j (j:=3) rfl,w',r,rfl,o2.same s1,by lia,gd.2,λv2 H2 s2 ob2=> ?_⟩;have e2:=(s1.trans s2) _ _ e
    have fin:∀(o:Op3) (x dx:Addr),E2q kk=o->H2 x=none->H2 dx=none->Q (.ref x) (upd (upd (upd H2 dx (.own x)) x (.ins (C3i t o) dx [])) x (.ins (C3i t o) dx [("left",v1),("right",v2)])):=by
     intro o x dx eo hx hdx;subst eo;exact k (.ref x) _ (s1.trans (s2.trans (A5e hx hdx))) (.pair (A1k ((s1.trans s2).free hx) A0b) (ob1.imp (A1x (S:=λb=>H b=none) (s2.trans (A5e hx hdx)))) (ob2.imp (A4m (A5e hx hdx) λa o _ h=>s1.free h)))
    refine ⟨_,rfl,_,_,_,_,rfl,rfl,SqT.of e2,A0j (j:=1) rfl,rfl,_,rfl,A3u (λh0=> ?_) (λh0=> ?_)⟩
    ·exact ⟨_,rfl,_,rfl,λx dx hx hdx hne=>⟨x,_,dx,_,_,rfl,A0b,B5j T .plus,D1j T .plus,D0w T .plus,rfl,fin .plus x dx (Z12 (V.int.inj h0)) hx hdx⟩⟩
    have h0:¬kk=0:=λz=>h0 (by rw [z]);refine ⟨_,rfl,_,_,_,_,rfl,rfl,SqT.of e2,A0j (j:=1) rfl,rfl,_,rfl,A3u (λh1=> ?_) (λh1=> ?_)⟩
    ·exact ⟨_,rfl,_,rfl,λx dx hx hdx hne=>⟨x,_,dx,_,_,rfl,A0b,B5j T .minus,D1j T .minus,D0w T .minus,rfl,fin .minus x dx ((Z0t h0).trans (Z12 (V.int.inj h1))) hx hdx⟩⟩
    have h1:¬kk=1:=λz=>h1 (by rw [z]);exact ⟨_,rfl,_,rfl,λx dx hx hdx hne=>⟨x,_,dx,_,_,rfl,A0b,B5j T .times,D1j T .times,D0w T .times,rfl,fin .times x dx ((Z0t h0).trans (Z0t h1)) hx hdx⟩⟩
   | @guard _ _ _ _ u w' l r e o1 o2 =>
    walk_at "a";walk_at "a";walk_at "a";walk_at "d";have hd':=hd;simp only [dep] at hd';refine ⟨_,rfl,_,_,_,_,rfl,rfl,SqT.of e,A0j (j:=1) rfl,_,rfl,_,_,_,_,rfl,rfl,SqT.of e,A0j (j:=2) rfl,_,rfl,_,_,_,_,rfl,rfl,SqT.of e,A0j (j:=3) rfl,_,rfl,_,_,_,_,rfl,rfl,SqT.of e,A0j (j:=4) rfl,u,l,rfl,o1,by lia,gd.1,λv1 H1 s1 ob1=> ?_⟩;refine ⟨_,rfl,_,_,_,_,rfl,rfl,SqT.of (s1 _ _ e),A0j (j:=5) rfl,w',r,rfl,o2.same s1,by lia,gd.2,λv2 H2 s2 ob2=>λx dx hx hdx hne=>⟨x,dx,_,_,_,_,_,rfl,A0b,rfl,?_⟩⟩;exact k (.ref x) _ (s1.trans (s2.trans (A5e hx hdx))) (.guard (A1k ((s1.trans s2).free hx) A0b) (ob1.imp (A1x (S:=λb=>H b=none) (s2.trans (A5e hx hdx)))) (ob2.imp (A4m (A5e hx hdx) λa o _ h=>s1.free h)))
structure D7b (n:Nat) (L:Str->Int) (u:Tm) (kvs:List (Key×V)):Prop where
 good:Gd u
 deep:dep u<=n
 at_:E2d kvs u
 most:(rd L u (ai kvs)).length<=1000
inductive C3t (n:Nat) (vs:List V) (H:Hp) (Q:VK):Prop
 | mk (v:V) (u:Tm) (d:Addr) (kvs:List (Key×V)) (L:Str->Int) (_:vs=[v,.ref d]) (_:A9n H v u) (_:H d=some (.dK kvs)) (_:D7b n L u kvs) (_:RdQ H (rd L u (ai kvs)) Q):C3t n vs H Q
def D5z (n:Nat):Sp:=λvs H Q _=>C3t n vs H Q
theorem B5g (T:Txt K mg t):∀n:Nat,A4q P w K mg base CX0 n t.kg t.kj D2q (D5z n)
 | 0=>A4q.none (by rintro vs H Q E ⟨v,u,_,_,_,_,_,_,h,_⟩;have:=B7j u;have:=h.deep;lia)
 | n+1=>by
  have Gb9:=B5g T n;refine T.c8.F.ok A9c (λvs H Q E h=> ?_) λ_ A _ s H _ Q E hr h=> ?_
  ·obtain ⟨v,u,d,kvs,L,rfl,_⟩:=h;rfl
  ·obtain ⟨v,u,d,kvs,L,rfl,tr,hd,⟨gd,hdp,hat,most⟩,k⟩:=h;have hu:=A6c hr
   refine ⟨_,(A0c (A1s (A0t A3f (A1b A1d (pv 0) A0g) A0o (A1i _))
    (A0c (A0m (i:=2) A9c.nd (A2f A0d))
    (A0c (A1o (A1n (A1b A1d (pv 0) A0g)) (A5j (n:=2) rfl (A1a (A0k (i:=3) A9c.nd) (A1a (A0k (i:=4) A9c.nd) A3x)))
     (A0f (A1s (A0t A3f (pv 3) A0o (A1i _))
      (A0f (A3c (B0a Z0k Z0n Z0o A3h (pv 2) (A0a (pv 4) A0d))))
      (A0f (A3c (B0a Z0k Z0n Z0o A3h (pv 2) (A0a (A0x A4a (A0u hu (pv 1) (pv 3)) (pv 4)) A0d)))))))
    (A0f (A0p (A2f (A0a (A1t (A0a (A1b A1d (pv 0) A0g) (A0a (A3g A3w (by rfl) T.bn Z0m (A0a (pv 2) A0d)) A0d))) A0d))))))
    A0s)
   (A0c (A1s (A0t A3f (A1b A1d (pv 0) A0g) A0o (A1i _))
    (A0f (A0p (A0x A8k (pcl Gb9 hr T.c8 (A0a (A1b A1d (pv 0) A0g) (A0a (pv 1) A0d))) (pcl Gb9 hr T.c8 (A0a (A1b A1d (pv 0) A0g) (A0a (pv 1) A0d))))))
    A0s)
   (A0c (A1s (PW.pt (B4i (A0t A3f (A1b A1d (pv 0) A0g) A0o (A1i _)) (B4i (A0t E0w (A1b A1d (pv 0) A0g) (A0u hu (pv 1) (A1b A1d (pv 0) A0g)) (A1i _)) (B1c (A0t D9d (A0u hu (pv 1) (A1b A1d (pv 0) A0g)) (A1b A1d (pv 0) A0g) (A1i _))))))
    (A0f (A0p (pcl Gb9 hr T.c8 (A0a (A1b A1d (pv 0) A0g) (A0a (pv 1) A0d)))))
    A0s)
   (A0c (A1s (A0t A3f (A1b A1d (pv 0) A0g) A0o (A1i _))
    (A0f (A0p (pcl Gb9 hr T.c8 (A0a (A1b A1d (pv 0) A0g) (A0a (pv 1) A0d)))))
    A0s)
   (A0f (A0p (A2f A0d))))))),?_⟩
   cases tr with
   | num e =>
    walk_at "a";walk_at "a";refine ⟨_,rfl,_,_,_,_,rfl,rfl,SqT.of e,A0j (j:=0) rfl,rfl,_,rfl,C5x (λh=>(sno (of_decide_eq_true h) (by decide)).elim) (λ_=>A7x ?_)⟩;walk_at "a";exact ⟨A0y rfl,λp hp=>k p [] _ hp (A0e hp) A0b .nil⟩
   | place e =>
    walk_at "a";walk_at "a";refine ⟨_,rfl,_,_,_,_,rfl,rfl,SqT.of e,A0j (j:=0) rfl,rfl,_,rfl,C5x (λh=>(sno (of_decide_eq_true h) (by decide)).elim) (λ_=>A7x ?_)⟩;walk_at "a";exact ⟨A0y rfl,λp hp=>k p [] _ hp (A0e hp) A0b .nil⟩
   | @read a l x ix e r =>
    walk_at "d";have gd:ix.length<=100:=gd;obtain ⟨_,es,q,el,rs⟩:=B3r (show Rep H (.ref l) (.list (ix.map C1l)) from r);cases q;have hl:=rs.len;rw [Z08] at hl;refine ⟨A0y rfl,λD hD=> ?_⟩;have s1:A0r H (upd H D (.lst [])):=A0e hD;refine ⟨_,rfl,_,_,_,_,rfl,rfl,SqT.of (s1 _ _ e),A0j (j:=2) rfl,l,rfl,⟨_,SqL.of (s1 _ _ el)⟩,?_⟩;refine A1v (K:=K) (a:=l) (xs:=es) (λi Z H2=>∃(o3 o4:Option V),Z=[Sro a,Sro d,Sro D,o3,o4]/\A0r H H2/\H2 D=some (.lst ((A8d (ai kvs) (ix.take i)).map V.int))) ⟨none,none,rfl,s1,A0b⟩ (by rintro i Z H2 _ ⟨_,_,_,s2,_⟩;exact SqL.of (s2 _ _ el)) ?_ ?_
    ·rintro i y Z H2 hy ⟨o3,o4,rfl,s2,hD2⟩;walk_at "g";have hi:i<ix.length:=by have:=(Z03.mp hy).1;lia
     obtain ⟨dd,hdd,rx⟩:=rs.get2 hy;have hie:ix[i]? =some ix[i]:=Z0b hi;rw [Z1z,hie] at hdd;cases hdd;obtain ⟨q,rfl,eq⟩:=D4m rx
     have fin:∀(z:Int) (o3 o4:Option V),z=(if ix[i].1="" then ix[i].2 else ai kvs ix[i].1+ix[i].2)->C1y (V.ref D) [V.int z] H2 λ_ H3=>∃(o3' o4':Option V),[some (V.ref a),some (.ref d),some (.ref D),o3,o4]=[some (.ref a),some (.ref d),some (.ref D),o3',o4']/\A0r H H3/\H3 D=some (.lst ((A8d (ai kvs) (ix.take (i+1))).map V.int)):=by
      intro z o3 o4 ez;refine ⟨D,_,_,rfl,rfl,hD2,A1c (by simp [A8d];lia),o3,o4,rfl,A0n s2 hD,?_⟩;rw [A0b,Z14,hie,Z2f,ez];unfold A8d;rw [Z0s,Z0s];rfl
     refine ⟨q,_,rfl,SqT.of (s2 _ _ eq),rfl,_,_,rfl,_,_,rfl,rfl,_,rfl,rfl,_,rfl,A3u (λh0=> ?_) (λh0=> ?_)⟩
     ·exact ⟨_,rfl,.inl ⟨rfl,_,SqL.of hD2⟩,_,rfl,fin _ _ _ (Z12 (V.str.inj h0)).symm⟩
     ·have hn:¬ix[i].1="":=λz=>h0 (by rw [z]);have g:=A9r.k (H:=H2) (a:=d) (k:=Sum.inr ix[i].1) (s2 _ _ hd);rw [hat ix[i].1 ⟨hn,ix[i],Z13 hie,rfl⟩] at g;exact ⟨_,rfl,.inl ⟨rfl,_,SqL.of hD2⟩,_,rfl,_,rfl,d,_,rfl,g,_,rfl,_,_,rfl,rfl,fin _ _ _ (Z0t hn).symm⟩
    ·rintro Z H2 ⟨o3,o4,rfl,s2,hD2⟩;rw [hl,Z18] at hD2;refine ⟨_,rfl,_,_,_,_,rfl,rfl,SqT.of (s2 _ _ e),A0j (j:=1) rfl,_,rfl,D,_,rfl,.inl ⟨SqL.of hD2,λp hp=> ?_⟩⟩;refine ⟨A0y rfl,λq hq=>⟨A0y rfl,λz hz=> ?_⟩⟩;have s3:=A0e (o:= .tup ((A8d (ai kvs) ix).map V.int)) hp;have s4:=A0e (o:= .tup [.str x,.ref p]) hq;exact k z [.ref q] _ (s2.free (s3.free (s4.free hz))) (s2.trans (s3.trans (s4.trans (A0e hz)))) A0b (.cons ⟨q,p,rfl,A4n hz A0b,A4n hz (s4 _ _ A0b)⟩ .nil)
   | @pair _ _ u w' l r e o1 o2 =>
    walk_at "a";walk_at "d";have hd':=hdp;simp only [dep] at hd';simp only [rd,Z06] at most;refine ⟨_,rfl,_,_,_,_,rfl,rfl,SqT.of e,A0j (j:=2) rfl,_,rfl,u,l,d,kvs,L,rfl,o1,hd,⟨gd.1,by lia,λx hx=>hat x (.inl hx),by lia⟩,λp1 es1 H1 hp1 s1 h1 r1=> ?_⟩;refine ⟨_,rfl,_,_,_,_,rfl,rfl,SqT.of (s1 _ _ e),A0j (j:=3) rfl,_,rfl,w',r,d,kvs,L,rfl,o2.same s1,s1 _ _ hd,⟨gd.2,by lia,λx hx=>hat x (.inr hx),by lia⟩,λp2 es2 H2 hp2 s2 h2 r2=> ?_⟩;have l1:=Paired.length r1;have l2:=Paired.length r2;refine ⟨p1,p2,_,_,rfl,rfl,s2 _ _ h1,h2,A2o (by lia),λp hp=> ?_⟩;have s3:=s1.trans (s2.trans (A0e (o:= .lst (es1++es2)) hp));exact k p _ _ (s1.free (s2.free hp)) s3 A0b (Paired.app (r1.same (s2.trans (A0e hp))) (r2.same (A0e hp)))
   | @guard _ x lo hi u w' l r e o1 o2 =>
    walk_at "a";walk_at "a";have hd':=hdp;simp only [dep] at hd';have g:=A9r.k (H:=H) (a:=d) (k:=Sum.inr x) hd;rw [hat x (.inl rfl)] at g;by_cases c:lo<=ai kvs x/\ai kvs x<hi
    ·have er:rd L (.guard x lo hi l r) (ai kvs)=rd L l (ai kvs):=by simp only [rd];rw [Z12 c]
     rw [er] at k most;refine ⟨_,rfl,_,_,_,_,rfl,rfl,SqT.of e,A0j (j:=0) rfl,rfl,_,rfl,C5x (λ_=> ?_) (λh=>absurd (Z20 rfl) h)⟩;refine ⟨_,rfl,_,_,_,_,rfl,rfl,SqT.of e,A0j (j:=2) rfl,_,rfl,_,rfl,_,_,_,_,rfl,rfl,SqT.of e,A0j (j:=1) rfl,d,_,rfl,g,_,_,rfl,rfl,_,rfl,C5x (λ_=> ?_) (λh=>absurd (Z20 c.1) h)⟩;refine ⟨_,rfl,_,rfl,_,_,_,_,rfl,rfl,SqT.of e,A0j (j:=1) rfl,d,_,rfl,g,_,rfl,_,_,_,_,rfl,rfl,SqT.of e,A0j (j:=3) rfl,_,_,rfl,rfl,_,rfl,A3u (λ_=> ?_) (λh=>absurd c.2 h)⟩;exact ⟨_,rfl,_,_,_,_,rfl,rfl,SqT.of e,A0j (j:=4) rfl,_,rfl,u,l,d,kvs,L,rfl,o1,hd,⟨gd.1,by lia,λy hy=>hat y (.inr (.inl hy)),most⟩,k⟩
    ·have er:rd L (.guard x lo hi l r) (ai kvs)=rd L r (ai kvs):=by simp only [rd];rw [Z0t c]
     rw [er] at k most;refine ⟨_,rfl,_,_,_,_,rfl,rfl,SqT.of e,A0j (j:=0) rfl,rfl,_,rfl,C5x (λ_=> ?_) (λh=>absurd (Z20 rfl) h)⟩;refine ⟨_,rfl,_,_,_,_,rfl,rfl,SqT.of e,A0j (j:=2) rfl,_,rfl,_,rfl,_,_,_,_,rfl,rfl,SqT.of e,A0j (j:=1) rfl,d,_,rfl,g,_,_,rfl,rfl,_,rfl,C5x (λh1=> ?_) (λ_=>A7x ?_)⟩
     ·refine ⟨_,rfl,_,rfl,_,_,_,_,rfl,rfl,SqT.of e,A0j (j:=1) rfl,d,_,rfl,g,_,rfl,_,_,_,_,rfl,rfl,SqT.of e,A0j (j:=3) rfl,_,_,rfl,rfl,_,rfl,A3u (λh2=>absurd ⟨of_decide_eq_true h1,h2⟩ c) (λ_=> ?_)⟩;walk_at "d";exact ⟨_,rfl,_,_,_,_,rfl,rfl,SqT.of e,A0j (j:=5) rfl,_,rfl,w',r,d,kvs,L,rfl,o2,hd,⟨gd.2,by lia,λy hy=>hat y (.inr (.inr hy)),most⟩,k⟩
     ·walk_at "d";exact ⟨_,rfl,_,_,_,_,rfl,rfl,SqT.of e,A0j (j:=5) rfl,_,rfl,w',r,d,kvs,L,rfl,o2,hd,⟨gd.2,by lia,λy hy=>hat y (.inr (.inr hy)),most⟩,k⟩
structure Abt where
 ld:Addr
 sh:Addr
 own:Str
 ln:Addr
 left:Int
 work:Int
 tb:Addr
def abK (x:Abt):List (Key×V):=[(Sum.inr "lengths",.ref x.ld),(Sum.inr "shapes",.ref x.sh),(Sum.inr "own",.str x.own),(Sum.inr "lines",.ref x.ln),(Sum.inr "left",.int x.left),(Sum.inr "work",.int x.work),(Sum.inr "tables",.ref x.tb)]
theorem E2z {a b:Str} {r:List (Key×V)} (h:decide (a=b)=false):A1y (((Sum.inr a:Key),v)::r) (Sum.inr b)=A1y r (Sum.inr b):=A2g (λz=>by injection z with z;rw [Z20 z] at h;cases h)
local macro_rules | `(tactic| walk_at "ab") => `(tactic| first | exact A2l rfl | (refine (E2z (by decide +kernel)).trans ?_; walk_at "ab"))
theorem B1f (x:Abt):A1y (abK x) (Sum.inr "lengths")=some (.ref x.ld):=by unfold abK;walk_at "ab"
theorem A6x (x:Abt):A1y (abK x) (Sum.inr "shapes")=some (.ref x.sh):=by unfold abK;walk_at "ab"
theorem D3w (x:Abt):A1y (abK x) (Sum.inr "own")=some (.str x.own):=by unfold abK;walk_at "ab"
theorem D2j (x:Abt):A1y (abK x) (Sum.inr "lines")=some (.ref x.ln):=by unfold abK;walk_at "ab"
theorem C3d (x:Abt):A1y (abK x) (Sum.inr "left")=some (.int x.left):=by unfold abK;walk_at "ab"
theorem C9c (x:Abt):A1y (abK x) (Sum.inr "work")=some (.int x.work):=by unfold abK;walk_at "ab"
structure B2i (lk:List (Key×V)) (L:Str->Int) (nm:List Str):Prop where
 eq:lk=nm.map λy=>((Sum.inr y:Key),V.int (L y))
 nd:nm.Nodup
 few:nm.length<=8
 ok:∀y∈nm,1<=L y/\L y<=60/\y≠""/\PyData.strOk y=true
theorem C2e {L:Str->Int} {y:Str}:∀{nm:List Str},y∈nm->A1y (nm.map λy=>((Sum.inr y:Key),V.int (L y))) (Sum.inr y)=some (.int (L y))
 | x::r,h=>by
  by_cases e:x=y
  ·subst e;exact A2l rfl
  ·rw [Z0p,A2g (λz=>e (Sum.inr.inj z))];exact C2e ((Z0e.mp h).resolve_left (Ne.symm e))
theorem B2i.val (h:B2i lk L nm) (hy:y∈nm):A1y lk (Sum.inr y)=some (.int (L y)):=by
 rw [h.eq];exact C2e hy
structure C4v (H:Hp) (ab:Addr) (x:Abt) (L:Str->Int) (nm:List Str) (es:List (Str×List Str)):Prop where
 d:H ab=some (.dK (abK x))
 le:∃lk,H x.ld=some (.dK lk)/\B2i lk L nm
 sh:∃ak,H x.sh=some (.dK ak)/\AR (λb=>b≠x.ln) H ak es
 n1:ab≠x.sh
 n2:ab≠x.ld
 n3:x.sh≠x.ld
theorem C4v.ki {x:Abt} (h:C4v H ab x L nm es) (k:KI H H'):C4v H' ab x L nm es:=by
 obtain ⟨d,⟨lk,l1,l2⟩,⟨ak,h1,h2⟩,n1,n2,n3⟩:=h;exact ⟨k.dk d,⟨lk,k.dk l1,l2⟩,⟨ak,k.dk h1,Paired.mapP h2 (by rintro _ _ ⟨z1,b,z2,z3,z4⟩;exact ⟨z1,b,z2,z3,k.str z4⟩)⟩,n1,n2,n3⟩
theorem C4v.get {x:Abt} (h:C4v H ab x L nm es) {k:Str} (e:A1y (abK x) (Sum.inr k)=some v):A9r H ab (.str k) (some v):= .inl ⟨_,Sum.inr k,.inl h.d,rfl,e.symm⟩
structure D0u (L:Str->Int) (nm:List Str) (es:List (Str×List Str)):Prop where
 nd:(es.map (·.1)).Nodup
 ax:∀e∈es,AxN nm e.2
 pr:∀e∈es,A2n (e.2.map L)<=60
 few:es.length<=100
 str:∀e∈es,PyData.strOk e.1=true
theorem C3r {S:Addr->Prop} {H:Hp}:∀{ak:List (Key×V)} {es:List (Str×List Str)},AR S H ak es->(es.map (·.1)).Nodup->∀{e:Str×List Str},e∈es->∃b,A1y ak (Sum.inr e.1)=some (.ref b)/\S b/\H b=some (.lst (e.2.map V.str))
 | _,_,.nil,_,_,h=>by cases h
 | _,_,@Paired.cons _ _ _ p q ps qs r t,nd,e,h=>by
  obtain ⟨z1,b,z2,z3,z4⟩:=r;rw [Z0p,Z15] at nd;rcases Z0e.mp h with rfl | h
  ·exact ⟨b,by rw [<-z2];exact A2l z1,z3,z4⟩
  ·obtain ⟨c,c1,c2⟩:=C3r t nd.2 h;exact ⟨c,by rw [A2g (λz=>nd.1 (by rw [Sum.inr.inj (z1.symm.trans z)];exact List.mem_map_of_mem h))];exact c1,c2⟩
theorem B5l:∀(n:Nat) (ls c:List Int),ls.length=n->Within c ls->c∈A1e ls
 | 0,ls,c,hn,w=>by
  have e1:ls=[]:=List.eq_nil_of_length_eq_zero hn;subst e1;have e2:c=[]:=List.eq_nil_of_length_eq_zero w.1;subst e2;exact Z0w.mpr rfl
 | n+1,ls,c,hn,w=>by
  obtain ⟨r,m,rfl⟩:∃r m,ls=r++[m]:=⟨ls.dropLast,ls.getLast (by intro z;rw [z] at hn;cases hn),(List.dropLast_concat_getLast _).symm⟩;have hc:=w.1;rw [Z06,Z0j] at hc hn;obtain ⟨d,x,rfl⟩:∃d x,c=d++[x]:=⟨c.dropLast,c.getLast (by intro z;rw [z] at hc;cases hc),(List.dropLast_concat_getLast _).symm⟩;rw [Z06,Z0j] at hc;have hd:d.length=r.length:=by lia
  have w':Within d r:=⟨hd,λk y l e1 e2=>w.2 k y l (by rw [Z26 (Z03.mp e1).1];exact e1) (by rw [Z26 (Z03.mp e2).1];exact e2)⟩;have ih:=B5l n r d (by lia) w';have hx:=w.2 d.length x m (by rw [Z1l (Z09 _),Nat.sub_self];rfl) (by rw [hd,Z1l (Z09 _),Nat.sub_self];rfl);rw [A5x];unfold B1g;refine List.mem_flatMap.mpr ⟨d,ih,Z2c.mpr ⟨x.toNat,List.mem_range.mpr (by lia),?_⟩⟩;rw [Int.toNat_of_nonneg hx.1]
structure B0m (L:Str->Int) (es:List (Str×List Str)) (own:Str) (oy bs:List Str) (n m:Nat) (u:Tm):Prop where
 gd:Gd u
 ax:Axs bs u
 fv:∀x,Fv u x->x∈bs
 dp:dep u<=n
 few:∀lf f,(rd lf u f).length<=m
 rin:∀lf f,∀r∈rd lf u f,∃ys,(r.1,ys)∈es/\Within r.2 (ys.map L)/\(r.1=own->A6v r.2 (oy.map f))
theorem B0m.num (L:Str->Int) (es:List (Str×List Str)) (own:Str) (oy bs:List Str) (n m:Nat) (z:Int) (h:1<=n):B0m L es own oy bs n m (.num z):=⟨True.intro,True.intro,λ_ h=>h.elim,h,λ_ _=>Z1e _,λ_ _ r hr=>by cases hr⟩
theorem B0m.mono {bs:List Str} {n' m':Nat} (h:B0m L es own oy bs n m u) (hn:n<=n') (hm:m<=m'):B0m L es own oy bs n' m' u:=⟨h.gd,h.ax,h.fv,Z1n h.dp hn,λlf f=>Z1n (h.few lf f) hm,h.rin⟩
theorem B0m.place {bs:List Str} (hx:x∈bs) (h:1<=n):B0m L es own oy bs n m (.place x):=⟨True.intro,hx,λy h=>by rw [show y=x from h];exact hx,h,λ_ _=>Z1e _,λ_ _ r hr=>by cases hr⟩
theorem B0m.pair {bs:List Str} {o:Op3} {a b:Tm} (h1:B0m L es own oy bs n m a) (h2:B0m L es own oy bs n m b):B0m L es own oy bs (n+1) (m+m) (.pair o a b):=by
 have d1:=h1.dp;have d2:=h2.dp;refine ⟨⟨h1.gd,h2.gd⟩,⟨h1.ax,h2.ax⟩,λx h=>h.elim (h1.fv x) (h2.fv x),?_,λlf f=> ?_,λlf f r hr=> ?_⟩
 ·simp only [dep];lia
 ·simp only [rd,Z06];have:=h1.few lf f;have:=h2.few lf f
  lia
 ·simp only [rd] at hr;rcases Z07.mp hr with hr | hr
  ·exact h1.rin lf f r hr
  ·exact h2.rin lf f r hr
theorem B0m.guard {bs:List Str} {a b:Tm} (hx:x∈bs) (h1:B0m L es own oy bs n m a) (h2:B0m L es own oy bs n m b):B0m L es own oy bs (n+1) (m+m) (.guard x lo hi a b):=by
 have d1:=h1.dp;have d2:=h2.dp;refine ⟨⟨h1.gd,h2.gd⟩,⟨hx,h1.ax,h2.ax⟩,λy h=> ?_,?_,λlf f=> ?_,λlf f r hr=> ?_⟩
 ·rcases h with h | h | h
  ·rw [show y=x from h];exact hx
  ·exact h1.fv y h
  ·exact h2.fv y h
 ·simp only [dep];lia
 ·have:=h1.few lf f;have:=h2.few lf f;simp only [rd];split <;> lia
 ·simp only [rd] at hr;split at hr
  ·exact h1.rin lf f r hr
  ·exact h2.rin lf f r hr
def D7k (L:Str->Int) (bs:List Str) (e:Str×Int) (y:Str):Prop:=(e.1=""->0<=e.2/\e.2<L y)/\(e.1≠""->e.1∈bs)
structure C7b (L:Str->Int) (bs:List Str) (a:Str) (ix:List (Str×Int)) (ys:List Str) (i:Nat) (u:Tm):Prop where
 gd:Gd u
 ax:Axs bs u
 fv:∀x,Fv u x->x∈bs
 dp:dep u<=1+i
 rin:∀lf f,rd lf u f=[]\/(rd lf u f=[(a,A8d f ix)]/\∀j e y,j<i->ix[j]? =some e->ys[j]? =some y->e.1≠""->0<=f e.1+e.2/\f e.1+e.2<L y)
theorem C7b.zero {bs:List Str} {a:Str} (p:Paired (D7k L bs) ix ys) (h:ix.length<=100):C7b L bs a ix ys 0 (.read a ix):=by
 have q:∀e∈ix,e.1≠""->e.1∈bs:=λe he=>by
  obtain ⟨i,hi⟩:=List.getElem?_of_mem he;obtain ⟨y,_,z⟩:=A6w p hi;exact z.2
 refine ⟨h,λe he=> ?_,λx hx=> ?_,Z09 _,λlf f=> .inr ⟨rfl,λj e y hj=>absurd hj (Nat.not_lt_zero _)⟩⟩
 ·by_cases z:e.1=""
  ·exact .inl z
  ·exact .inr (q e he z)
 ·obtain ⟨hn,e,he,rfl⟩:=hx;exact q e he hn
theorem C7b.skip {bs:List Str} {a:Str} {e:Str×Int} (h:C7b L bs a ix ys i u) (he:ix[i]? =some e) (e0:e.1=""):C7b L bs a ix ys (i+1) u:=by
 have d:=h.dp;refine ⟨h.gd,h.ax,h.fv,by lia,λlf f=>(h.rin lf f).imp id λz=>⟨z.1,λj e' y hj h1 h2 hn=> ?_⟩⟩;rcases Nat.lt_or_ge j i with hji | hji
 ·exact z.2 j e' y hji h1 h2 hn
 ·have:j=i:=by lia
  subst this;rw [he] at h1;cases h1;exact absurd e0 hn
theorem C7b.step {bs:List Str} {a:Str} {e:Str×Int} (h:C7b L bs a ix ys i u) (he:ix[i]? =some e) (hy:ys[i]? =some y) (hb:e.1∈bs) (z:Int):C7b L bs a ix ys (i+1) (.guard e.1 (-e.2) (L y-e.2) u (.num z)):=by
 have d:=h.dp;refine ⟨⟨h.gd,True.intro⟩,⟨hb,h.ax,True.intro⟩,λx hx=> ?_,?_,λlf f=> ?_⟩
 ·rcases hx with hx | hx | hx
  ·rw [show x=e.1 from hx];exact hb
  ·exact h.fv x hx
  ·exact hx.elim
 ·simp only [dep];lia
 ·simp only [rd];split
  ·rename_i c;refine (h.rin lf f).imp id λz=>⟨z.1,λj e' y' hj h1 h2 hn=> ?_⟩;rcases Nat.lt_or_ge j i with hji | hji
   ·exact z.2 j e' y' hji h1 h2 hn
   ·have:j=i:=by lia
    subst this;rw [he] at h1;rw [hy] at h2;cases h1;cases h2
    lia
  ·exact .inl rfl
theorem B7m {f:Str->Int} {k:Nat} {e:Str×Int} (h:ix[k]? =some e):(A8d f ix)[k]? =some (if e.1="" then e.2 else f e.1+e.2):=by
 unfold A8d;rw [Z1z,h];rfl
theorem C7b.done {bs:List Str} {a:Str} (h:C7b L bs a ix ys ix.length u) (p:Paired (D7k L bs) ix ys) (l4:ix.length<=3) (hs:(a,ys)∈es)
  (ho:a=own->∀f,A6v (A8d f ix) (oy.map f)):B0m L es own oy bs 4 1 u:=by
 have lp:=Paired.length p;have d:=h.dp;refine ⟨h.gd,h.ax,h.fv,by lia,λlf f=> ?_,λlf f r hr=> ?_⟩
 ·rcases h.rin lf f with z | z
  ·rw [z];exact Z1e _
  ·rw [z.1];exact Z09 _
 ·rcases h.rin lf f with z | z
  ·rw [z] at hr;cases hr
  ·rw [z.1] at hr;have hr:=Z0w.mp hr;subst hr;refine ⟨ys,hs,⟨by unfold A8d;rw [Z08,Z08,lp],λk x n e1 e2=> ?_⟩,λe=>ho e f⟩
   have hk:k<ix.length:=by
    have:=(Z03.mp e1).1;unfold A8d at this
    rwa [Z08] at this
   obtain ⟨y,hy,q⟩:=A6w p (Z0b hk);rw [B7m (Z0b hk)] at e1;rw [Z1z,hy] at e2;cases e1;cases e2;by_cases e0:(ix[k]).1=""
   ·rw [Z12 e0];exact q.1 e0
   ·rw [Z0t e0];exact z.2 k _ y hk (Z0b hk) hy e0
theorem D0a:B5d xs (some (i:Int)) none=xs.drop i:=by
 unfold B5d;have e1:HT.sIx xs.length 0 (some (i:Int))=min i xs.length:=HT.sIx_nat _ _ _;have e2:HT.sIx xs.length xs.length none=xs.length:=rfl;rw [e1,e2];rcases Nat.le_total i xs.length with h | h
 ·rw [Nat.min_eq_left h,Z2l (by rw [Z19];exact Z09 _)]
 ·rw [Nat.min_eq_right h,List.drop_length,List.drop_of_length_le h,List.take_nil]
def IxV (H0 G:Hp):List V->List (Str×Int)->Prop:=Paired λ(v:V) (e:Str×Int)=>∃q,v= .ref q/\Nw H0 q/\G q=some (.tup [.str e.1,.int e.2])
theorem IxV.kt {ys:List V} (h:IxV H0 G ys ix) (k:KT G G'):IxV H0 G' ys ix:=Paired.mapP h (by rintro _ _ ⟨q,e,nq,hq⟩;exact ⟨q,e,nq,k _ _ hq⟩)
theorem IxV.rep {ys:List V} (h:IxV H0 G ys ix):A5b (A2t (Nw H0) G) ys (ix.map C1l):=by
 unfold IxV at h
 induction h with
 | nil=>exact .nil
 | cons r _ ih =>
  obtain ⟨q,rfl,nq,hq⟩:=r;exact .cons (.tup (A1k nq hq) (.cons (.str _) (.cons (.int _) .nil))) ih
theorem KI.kt (k:KI H H'):KT H H':=λb xs e=>k b _ (by intro n ys z;cases z) e
theorem D1e {α:Type} {f:α->V} {ys:List α}:B5d (ys.map f) none (some (-1))=ys.dropLast.map f:=by
 unfold B5d;have e1:HT.sIx (ys.map f).length 0 none=0:=rfl
 have e2:HT.sIx (ys.map f).length (ys.map f).length (some (-1))=ys.length-1:=by
  rw [Z08];show (if (-1:Int)<0 then ((-1:Int)+(ys.length:Int)).toNat else min (-1:Int).toNat ys.length)=_;rw [Z12 (by decide)]
  lia
 rw [e1,e2,List.drop_zero,Nat.sub_zero,<-List.map_take,List.dropLast_eq_take]
theorem D0x:(0:Int)<10^(30:Int).toNat:=by decide +kernel
theorem D4v {α β:Type} {F:α->β->Prop}:∀{a:List α} {b:List β} (n:Nat),Paired F a b->Paired F (a.drop n) (b.drop n)
 | _,_,0,h=>h
 | _,_,_+1,.nil=> .nil
 | _,_,n+1,.cons _ t=>D4v n t
theorem D0e {zs:List Str} (hy:zs[j]? =some y) (ne:∀z∈zs,z≠"") {w:Int} (hw:w<0) (r:List (Str×Int)) (f:Str->Int):A6v (A8d f ((zs.take j).map (λz=>(z,(0:Int)))++[(y,w)]++r)) (zs.map f):=by
 have hj:j<zs.length:=(Z03.mp hy).1;have lt:((zs.take j).map λz=>(z,(0:Int))).length=j:=by rw [Z08,Z0x];lia
 have e1:((zs.take j).map (λz=>(z,(0:Int)))++[(y,w)]++r)[j]? =some (y,w):=by
  rw [Z26 (by rw [Z06,lt];simp),Z1l (by lia),lt,Nat.sub_self];rfl
 refine ⟨j,f y+w,f y,?_,by rw [Z1z,hy];rfl,by lia,λi hi=> ?_⟩
 ·rw [B7m e1,Z0t (ne y (Z13 hy))]
 ·have hz:zs[i]? =some zs[i]:=Z0b (by lia)
  have e2:((zs.take j).map (λz=>(z,(0:Int)))++[(y,w)]++r)[i]? =some (zs[i],0):=by
   rw [Z26 (by rw [Z06,lt];lia),Z26 (by lia),Z1z,List.getElem?_take_of_lt hi,hz];rfl
  rw [B7m e2,Z0t (ne _ (List.getElem_mem _)),Z1z,hz,Int.add_zero];rfl
theorem D4k {L:Str->Int} {bs:List Str}:∀{zs:List Str},(∀z∈zs,z≠""/\z∈bs)->Paired (D7k L bs) (zs.map λz=>(z,(0:Int))) zs
 | [],_=> .nil
 | z::r,h=> .cons ⟨λe=>absurd e (h z (.head _)).1,λ_=>(h z (.head _)).2⟩ (D4k λy hy=>h y (.tail _ hy))
theorem C8u {α β:Type} {es:List (α×β)} {a:α} {x y:β} (nd:(es.map (·.1)).Nodup) (h1:(a,x)∈es) (h2:(a,y)∈es):x=y:=by
 induction es with
 | nil=>cases h1
 | cons e r ih =>
  rw [Z0p,Z15] at nd;rcases Z0e.mp h1 with z1 | z1 <;> rcases Z0e.mp h2 with z2 | z2
  ·rw [<-z2] at z1;exact (Prod.mk.inj z1).2
  ·rw [<-z1] at nd;exact absurd (List.mem_map_of_mem (f:=(·.1)) z2) nd.1
  ·rw [<-z2] at nd;exact absurd (List.mem_map_of_mem (f:=(·.1)) z1) nd.1
  ·exact ih nd.2 z1 z2
inductive B8q (vs:List V) (H:Hp) (Q:VK):Prop
 | mk (D ab b:Addr) (ms:List Int) (x:Abt) (L:Str->Int) (nm:List Str) (es0:List (Str×List Str)) (oy bs:List Str) (_:vs=[.ref D,.ref ab,.ref b]) (_:H D=some (.lst (ms.map V.int))) (_:C4v H ab x L nm (es0++[(x.own,oy)])) (_:D0u L nm (es0++[(x.own,oy)])) (_:H b=some (.lst (bs.map V.str))) (_:(∀y∈bs,y∈nm)) (_:bs.length<=100) (_:(∀y∈oy,y∈bs)) (_:∀(v:V) (u:Tm) (ms':List Int) (H':Hp),B0m L (es0++[(x.own,oy)]) x.own oy bs 4 1 u->KI H H'->H' D=some (.lst (ms'.map V.int))->A9n (A2t (Nw H) H') v u->Q v H'):B8q vs H Q
def C4b:Sp:=λvs H Q _=>B8q vs H Q
theorem C9l (T:Txt K mg t):FO P w base T.jo 2 C4b:=by
 have Gc0:= @B0h P w K mg base t T;refine T.jo.F.ok A1u (by walk_at "ln") λ_ A _ s H _ Q E hr h=> ?_
 ·obtain ⟨D,ab,b,ms,x,L,nm,es0,oy,bs,rfl,hD,ap,ok,hb,bnm,lb,obs,k⟩:=h;have hu:=A6c hr;generalize hes:es0++[(x.own,oy)]=es at ap ok k;have few:=ok.few
  refine ⟨_,(A0c (A0m (i:=3) A1u.nd (pcl Gc0 hr T.bd (A0a (pv 0) A0d)))
   (A0c (B8d (i₀:=5) (N':=["_law_name"]) (ix:=(List.replicate 1 none)) A1u.nd rfl (.inl rfl) rfl (A2x rfl (by decide +kernel) (by decide +kernel)) (A2y rfl) (B7i (A0u hu (pv 1) A0o)) (λ_ _ _ _=>(A0k (i:=0) C9x)) (λ_ _ _ _=>(pv 0)))
   (C3m (A3m (A1s (A0t A3f (A0q A0z (by rfl) T.au Z0r (A0a (A0u hu (A0u hu (pv 1) A0o) (A0u hu (pv 1) A0o)) A0d)) A0g (A1i _))
    (A0f (A0m (i:=5) A1u.nd (A3d A4c (pv 5) A4w (A3e (D0s B8t A0g)))))
    A0s)
   (A0c (A1s (A0t A3f (A0q A0z (by rfl) T.au Z0r (A0a (pv 5) A0d)) A0g (A1i _))
    (A0f (A0p (A1t (A0a A0o (A0a (A0x A2a (pv 3) (A0x C0r A0g A0g)) A0d)))))
    A0s)
   (A0c (A0m (i:=6) A1u.nd (A1b A1l (pv 5) (A0x A2a (pv 3) (A0q A0z (by rfl) T.au Z0r (A0a (pv 5) A0d)))))
   (A0c (A0m (i:=7) A1u.nd (A0u hu (A0u hu (pv 1) A0o) (pv 6)))
   (A0c (A0m (i:=8) A1u.nd (A0x A8k (pv 2) (A2f (A0a A0o A0d))))
   (A0c (A0m (i:=9) A1u.nd (A2f A0d))
   (A0c (A1o (A1n (pv 7)) (A0k (i:=4) A1u.nd)
    (A0c (A0m (i:=10) A1u.nd (pcl Gc0 hr T.bd (A0a (pv 0) A0d)))
    (A0c (A0m (i:=11) A1u.nd (A1b A1l (pv 8) (A0x A2a (pv 10) (A0q A0z (by rfl) T.au Z0r (A0a (pv 8) A0d)))))
    (A0c (A0m (i:=12) A1u.nd (A0x A7y (A0x A2a (A0x A2w (pv 10) A0g) A0g) A0g))
    (A3m (A1s (A0t A3f (pv 11) A0o (A1i _))
     (A0f (A0m (i:=12) A1u.nd (A0x A2a (A0x A2w (pv 10) A0g) (A0u hu (A0u hu (pv 1) A0o) (pv 4)))))
     A0s)
    (A0f (A3c (B0a Z0k Z0n Z0o A3h (pv 9) (A0a (A1t (A0a (pv 11) (A0a (pv 12) A0d))) A0d)))))))))
   (A3m (A1s (A0t A3f (pv 6) (A0u hu (pv 1) A0o) (A1i _))
    (A0c (A0m (i:=13) A1u.nd (A0x A2a (A0x A2w (pv 3) A0g) (A0q A0z (by rfl) T.au Z0r (A0a (pv 7) A0d))))
    (A0f (A0m (i:=9) A1u.nd (A0x A8k (A0x A8k (A3n (N':=["_law_name"]) (ix:=(List.replicate 1 none)) rfl (A2x rfl (by decide +kernel) (by decide +kernel)) (A2y rfl) (A1n (A3d A4c (pv 7) A4w (A3e (pv 13)))) (λ_ _ _ _=>(A0k (i:=0) D0n)) (λ_ _ _ _=>(A1t (A0a (pv 0) (A0a A0g A0d))))) (A2f (A0a (A1t (A0a (A1b A1l (pv 7) (pv 13)) (A0a (A0x A7y (D0s B8t A0g) (A0x A2a (A0x A2w (pv 3) A0g) A0g)) A0d))) A0d))) (A3d A4c (pv 9) (A3e (A0x A4a (pv 13) A0g)) A4w)))))
    A0s)
   (A0c (A0m (i:=14) A1u.nd (A1t (A0a A0o (A0a (pv 6) (A0a (pv 9) A0d)))))
   (A0c (A1o (D3k rfl T.mx (A0a (pv 9) (A0a (pv 7) A0d))) (A5j (n:=2) rfl (A1a (A0k (i:=15) A1u.nd) (A1a (A0k (i:=4) A1u.nd) A3x)))
    (A0f (A1s (A0t D1z (A1b A1d (pv 15) A0g) A0o (A1i _))
     (A0c (A0m (i:=16) A1u.nd (A0x A7y (A0u hu (A0u hu (pv 1) A0o) (pv 4)) (A1b A1d (pv 15) A0g)))
     (A0f (A0m (i:=14) A1u.nd (A1t (A0a A0o (A0a (A1b A1d (pv 15) A0g) (A0a (D0s B8t (A1b A1d (pv 15) A0g)) (A0a (pv 16) (A0a (pv 14) (A0a (A1t (A0a A0o (A0a (A0x A2a (pv 3) A0g) A0d))) A0d))))))))))
     A0s)))
   (A0f (A0p (pv 14)))))))))))))))),?_⟩
  refine ⟨_,rfl,D,ms,rfl,hD,λc ms1 H1 l1 h1 o1 e1=> ?_⟩;have k1:=A7u hD o1 e1;have a1:=ap.ki k1;obtain ⟨lk,hlk,lok⟩:=ap.le;obtain ⟨ak,hak,ar⟩:=ap.sh;have hak1:=k1.dk hak;have ar1:AR (λb=>b≠x.ln) H1 ak es:=Paired.mapP ar (by rintro _ _ ⟨z1,b,z2,z3,z4⟩;exact ⟨z1,b,z2,z3,k1.str z4⟩);have lak:=Paired.length ar;refine ⟨_,rfl,ab,_,rfl,a1.get (A6x x),x.sh,ak,rfl,hak1,λo K0 hK0=> ?_⟩;have Ka:K0≠x.sh:=λz=>by subst z;rw [A0b] at hK0;cases hK0
  refine A7f (J:=Itd x.sh o ak) (D:=K0) ak.length (λi ys Hx=>A0r (upd H1 x.sh (.frz o (.dK ak))) Hx/\Hx K0=some (.lst ys)/\ys=((es.take i).map (·.1)).map V.str) ⟨A0e hK0,A0b,rfl⟩ (by rintro i ys Hx hi ⟨s2,_⟩;exact ⟨s2 _ _ A0b,hi⟩) (by rintro ys Hx ⟨s2,_⟩;exact ⟨s2 _ _ A0b,rfl⟩) ?_ ?_
  ·walk_at "n";refine ⟨True.intro,_,rfl,hDx,A1c (by simp;lia),A0n sx hK0,A0b,?_⟩;rw [Z14,he,Z2f,Z0s,Z0s];rfl
  rintro ys Hx ⟨sx,hDx,rfl⟩;rw [lak,Z18] at hDx;refine ⟨x.sh,o,_,sx _ _ A0b,(λo' u' z=>by have z:H x.sh=some (.frz o' u'):=z;rw [hak] at z;cases z),?_⟩;have st:A0r H1 (upd Hx x.sh (.dK ak)):=A8q hak1 sx;have hDt:upd Hx x.sh (.dK ak) K0=some (.lst ((es.map (·.1)).map V.str)):=by rw [A0h Ka];exact hDx
  generalize upd Hx x.sh (.dK ak)=H2 at st hDt;clear sx hDx;have k2:=k1.trans (KI.of st);have a2:=ap.ki k2;have hD2:=st _ _ h1;obtain ⟨co,eco,_,hco⟩:=C3r (Paired.mapP ar1 (by rintro _ _ ⟨z1,b,z2,z3,z4⟩;exact ⟨z1,b,z2,z3,st _ _ z4⟩):AR (λb=>b≠x.ln) H2 ak es) ok.nd (e:=(x.own,oy)) (by rw [<-hes];simp);have gown:A9r H2 x.sh (.str x.own) (some (.ref co)):= .inl ⟨ak,Sum.inr x.own,.inl (st _ _ hak1),rfl,eco.symm⟩
  have nown:x.own∉es0.map (·.1):=by
   have:=ok.nd;rw [<-hes,Z0s,Z0l] at this;intro z;exact this.2.2 _ z _ (Z0w.mpr rfl) rfl
  refine ⟨λZ H3=>∃(kl:Addr) (kn:List Str),Z=[Sro D,Sro ab,Sro b,Sio c,none,Sro kl,none,none,none,none,none,none,none,none,none,none,none]/\A0r H2 H3/\H3 kl=some (.lst (kn.map V.str))/\∀z∈kn,∃ys,(z,ys)∈es/\(z=x.own->oy≠[]),?_,?_⟩
  ·refine ⟨_,rfl,ab,_,rfl,a2.get (A6x x),_,rfl,ab,_,rfl,a2.get (D3w x),x.sh,_,rfl,gown,co,_,rfl,.inl (SqL.of hco),rfl,_,rfl,A3u (λh0=> ?_) (λh0=> ?_)⟩
   ·refine ⟨_,rfl,_,rfl,_,rfl,K0,_,rfl,SqL.of hDt,λp hp=> ?_⟩;refine ⟨p,(es.map (·.1)).dropLast,rfl,A0e hp,by rw [A0b];exact congrArg (λz=>some (HO.lst z)) D1e,λz hz=> ?_⟩;have e2:(es.map (·.1)).dropLast=es0.map (·.1):=by rw [<-hes,Z0s];exact List.dropLast_concat
    rw [e2] at hz;obtain ⟨e,he,rfl⟩:=Z2c.mp hz;exact ⟨e.2,by rw [<-hes];exact Z05 _ he,λz=>absurd (by rw [<-z];exact hz) nown⟩
   ·refine ⟨K0,es.map (·.1),rfl,A0r.refl _,hDt,λz hz=> ?_⟩;obtain ⟨e,he,rfl⟩:=Z2c.mp hz;exact ⟨e.2,he,λ_ z=>h0 (by rw [z];rfl)⟩
  rintro Z H3 ⟨kl,kn,rfl,s3,hkl,kin⟩;have k3:=k2.trans (KI.of s3);have a3:=ap.ki k3;have hD3:=s3 _ _ hD2;refine ⟨_,rfl,kl,_,rfl,.inl (SqL.of hkl),rfl,_,rfl,A3u (λ_=> ?_) (λhne=> ?_)⟩
  ·refine ⟨_,rfl,_,_,rfl,rfl,⟨by decide,by decide,by decide⟩,_,_,rfl,rfl,D0x,A0y rfl,λp hp=> ?_⟩;exact k (.ref p) (.num (c%10^(30:Int).toNat)) ms1 _ (B0m.num _ _ _ _ _ _ _ _ (by decide)) (k3.trans (KI.of (A0e hp))) ((A0e hp) _ _ hD3) (.num (A1k (A6j k3 hp) A0b))
  have kpos:0<kn.length:=by
   rcases Nat.eq_zero_or_pos kn.length with z | z
   ·exact absurd (by rw [Z08,z];rfl) hne
   ·exact z
  obtain ⟨arr,har,ear⟩:=A8o (f:=V.str) (xs:=kn) (i:=c%(kn.length:Int)) (Z1v _ (by lia)) (Z1p _ (by lia));obtain ⟨zs,hzs,hown⟩:=kin arr (Z13 har);refine ⟨_,rfl,_,rfl,_,rfl,kl,_,rfl,.inl (SqL.of hkl),_,_,rfl,rfl,(by show (0:Int)<((kn.map V.str).length:Int);rw [Z08];lia),kl,_,_,_,rfl,rfl,SqL.of hkl,(by rw [Z08];exact ear),?_⟩;obtain ⟨cz,ecz,_,hcz⟩:=C3r (Paired.mapP ar (by rintro _ _ ⟨z1,b,z2,z3,z4⟩;exact ⟨z1,b,z2,z3,k3.str z4⟩):AR (λb=>b≠x.ln) H3 ak es) ok.nd hzs;have hcz:H3 cz=some (.lst (zs.map V.str)):=hcz;have gz:A9r H3 x.sh (.str arr) (some (.ref cz)):= .inl ⟨ak,Sum.inr arr,.inl (k3.dk hak),rfl,ecz.symm⟩;have axz:=ok.ax _ hzs;have lz3:zs.length<=3:=axz.few;refine ⟨_,rfl,ab,_,rfl,a3.get (A6x x),_,rfl,x.sh,_,rfl,gz,?_⟩;refine ⟨_,rfl,A0y rfl,λel hel=> ?_⟩;have t3:A0r H3 (upd H3 el (.lst [.str ""])):=A0e hel;refine ⟨b,el,_,_,rfl,rfl,t3 _ _ (k3.str hb),A0b,A2o (by rw [Z08];show bs.length+1<=1000000;lia),λsl hsl=> ?_⟩;have t4:A0r (upd H3 el (.lst [.str ""])) (upd (upd H3 el (.lst [.str ""])) sl (.lst (bs.map V.str++[.str ""]))):=A0e hsl;have hsl4:upd (upd H3 el (.lst [.str ""])) sl (.lst (bs.map V.str++[.str ""])) sl=some (.lst ((bs++[("":Str)]).map V.str)):=by rw [A0b,Z0s];rfl
  have s34:=t3.trans t4;generalize upd (upd H3 el (.lst [.str ""])) sl (.lst (bs.map V.str++[.str ""]))=H4 at s34 hsl4;clear t3 t4;have k4:=k3.trans (KI.of s34);have hD4:=s34 _ _ hD3;have hcz4:=s34 _ _ hcz;refine ⟨A0y rfl,λil hil=> ?_⟩;have ilD:il≠D:=(A0i hD4 hil).symm;have ilsl:il≠sl:=(A0i hsl4 hil).symm;have ilcz:il≠cz:=(A0i hcz4 hil).symm;have hilH:∀{bb:Addr} {u:HO},(∀n xs,u≠.lst (V.int n::xs))->H bb=some u->bb≠il:=λn e=>A0i (k4 _ _ n e) hil;refine ⟨_,rfl,cz,rfl,⟨_,SqL.of ((A0e hil) _ _ hcz4)⟩,?_⟩
  refine A1v (K:=K) (a:=cz) (xs:=zs.map V.str) (λi Z H8=>∃(o4 o10 o11 o12:Option V) (ms2:List Int) (ys:List V) (ix:List (Str×Int)),Z=[Sro D,Sro ab,Sro b,Sio c,o4,Sro kl,Sso arr,Sro cz,Sro sl,Sro il,o10,o11,o12,none,none,none,none]/\KI H H8/\H8 D=some (.lst (ms2.map V.int))/\H8 sl=some (.lst ((bs++[("":Str)]).map V.str))/\H8 cz=some (.lst (zs.map V.str))/\H8 il=some (.lst ys)/\IxV H H8 ys ix/\Paired (D7k L bs) ix (zs.take i))
   ⟨none,none,none,none,ms1,[],[],rfl,k4.trans (KI.of (A0e hil)),(A0e hil) _ _ hD4,(A0e hil) _ _ hsl4,(A0e hil) _ _ hcz4,A0b,.nil,.nil⟩ (by rintro i Z H8 _ ⟨_,_,_,_,_,_,_,_,_,_,_,z,_⟩;exact SqL.of z) ?_ ?_
  ·rintro i y0 Z H8 hy0 ⟨o4,o10,o11,o12,ms2,ys,ix,rfl,k8,hD8,hsl8,hcz8,hil8,px,pin⟩;walk_at "g";obtain ⟨y,hy,rfl⟩:=A2e hy0;refine ⟨_,rfl,D,ms2,rfl,hD8,λc2 ms3 H9 l9 h9 o9 e9=> ?_⟩;have k89:=A7u hD8 o9 e9;have hsl9:=k89.str hsl8;have hcz9:=k89.str hcz8;have hil9:H9 il=some (.lst ys):=by rw [o9 il ilD];exact hil8
   have px9:=px.kt k89.kt;have k9:=k8.trans k89;have lp:=Paired.length pin;have lpx:=Paired.length px;have ltk:(zs.take i).length<=3:=by rw [Z0x];lia
   obtain ⟨a',ha',ea'⟩:=A8o (f:=V.str) (xs:=bs++[("":Str)]) (i:=c2%((bs++[("":Str)]).length:Int)) (Z1v _ (by simp <;> lia)) (Z1p _ (by simp <;> lia));refine ⟨_,rfl,_,rfl,_,rfl,sl,_,rfl,.inl (SqL.of hsl9),_,_,rfl,rfl,(by show (0:Int)<(((bs++[("":Str)]).map V.str).length:Int);simp <;> lia),sl,_,_,_,rfl,rfl,SqL.of hsl9,(by rw [Z08];exact ea'),?_⟩;refine ⟨_,rfl,_,_,rfl,rfl,⟨by decide,by decide⟩,_,_,rfl,rfl,E3i,_,_,rfl,rfl,?_⟩;have ynm:=axz.sub y (Z13 hy);have yok:=lok.ok y ynm;refine ⟨λZ G=>∃z:Int,Z=[Sro D,Sro ab,Sro b,Sio c,Sso y,Sro kl,Sso arr,Sro cz,Sro sl,Sro il,Sio c2,Sso a',Sio z,none,none,none,none]/\H9=G/\D7k L bs (a',z) y,?_,?_⟩
   ·refine ⟨_,rfl,rfl,_,rfl,A3u (λh0=> ?_) (λh0=> ?_)⟩
    ·have g:=A9r.k (H:=H9) (a:=x.ld) (k:=Sum.inr y) (k9.dk hlk);rw [lok.val ynm] at g;refine ⟨_,rfl,_,_,rfl,rfl,⟨by decide,by decide⟩,_,rfl,ab,_,rfl,(ap.ki k9).get (B1f x),_,rfl,x.ld,_,rfl,g,_,_,rfl,rfl,(by show (0:Int)<L y;lia),?_⟩;exact ⟨_,rfl,rfl,λ_=>⟨Z1v _ (by lia),Z1p _ (by lia)⟩,λz=>absurd (V.str.inj h0) z⟩
    ·refine ⟨_,rfl,rfl,λz=>absurd (by rw [show a'="" from z]) h0,λz=> ?_⟩;rcases Z07.mp (Z13 ha') with m | m
     ·exact m
     ·exact absurd (Z0w.mp m) z
   rintro Z G ⟨z,rfl,rfl,iz⟩;refine ⟨_,rfl,.inl ⟨rfl,_,SqL.of hil9⟩,_,rfl,_,rfl,A0y rfl,λq hq=> ?_⟩;have nwq:Nw H q:=A6j k9 hq;obtain ⟨H10,sq,hqq,eNH⟩:=nH (o:= .tup [.str a',.int z]) hq
   try rw [eNH]
   have hil10:=sq _ _ hil9;refine ⟨il,_,_,rfl,rfl,hil10,A1c (by lia),?_⟩;have up:∀{bb:Addr} {u:HO},bb≠il->H10 bb=some u->upd H10 il (.lst (ys++[.ref q])) bb=some u:=λn e=>by rw [A0h n];exact e
   have kil:KT H10 (upd H10 il (.lst (ys++[.ref q]))):=KT.at hil10 (by intro xs z;cases z);refine ⟨_,_,_,_,ms3,ys++[.ref q],ix++[(a',z)],rfl,λbb u n e=>up (hilH n e) (sq _ _ (k9 _ _ n e)),up ilD.symm (sq _ _ h9),up ilsl.symm (sq _ _ hsl9),up ilcz.symm (sq _ _ hcz9),A0b,B1o ((px9.kt (KT.same sq)).kt kil) (.cons ⟨q,rfl,nwq,kil _ _ hqq⟩ .nil),?_⟩;rw [Z14,hy,Z2f];exact B1o pin (.cons iz .nil)
  rintro Z H8 ⟨o4,o10,o11,o12,ms2,ys,ix,rfl,k8,hD8,hsl8,hcz8,hil8,px,pin⟩;rw [Z08,Z18] at pin;have nil8:Nw H il:=A6j k4 hil;refine ⟨λZ G=>∃(o13:Option V) (il:Addr) (ys:List V) (ix:List (Str×Int)),Z=[Sro D,Sro ab,Sro b,Sio c,o4,Sro kl,Sso arr,Sro cz,Sro sl,Sro il,o10,o11,o12,o13,none,none,none]/\A0r H8 G/\Nw H il/\G il=some (.lst ys)/\IxV H G ys ix/\Paired (D7k L bs) ix zs/\(arr=x.own->∀f,A6v (A8d f ix) (oy.map f)),?_,?_⟩
  ·refine ⟨_,rfl,_,rfl,ab,_,rfl,(ap.ki k8).get (D3w x),rfl,_,rfl,A3u (λh0=> ?_) (λh0=>⟨_,il,ys,ix,rfl,A0r.refl _,nil8,hil8,px,pin,λz=>absurd (by rw [z]) h0⟩)⟩;have earr:arr=x.own:=V.str.inj h0;have ezs:zs=oy:=C8u ok.nd (earr▸hzs) (by rw [<-hes];simp)
   have zpos:0<zs.length:=by
    rcases Nat.eq_zero_or_pos zs.length with z | z
    ·exact absurd (ezs▸List.eq_nil_of_length_eq_zero z) (hown earr)
    ·exact z
   have zok:∀z∈zs,z≠""/\z∈bs:=λz hz=>⟨(lok.ok z (axz.sub z hz)).2.2.1,obs z (ezs▸hz)⟩;refine ⟨_,rfl,_,_,rfl,rfl,⟨by decide,by decide⟩,_,rfl,cz,_,rfl,.inl (SqL.of hcz8),_,_,rfl,rfl,(by show (0:Int)<((zs.map V.str).length:Int);rw [Z08];lia),?_⟩;rw [Z08];obtain ⟨j,ej⟩:∃j:Nat,c/16%(zs.length:Int)=(j:Int):=⟨_,(Int.toNat_of_nonneg (Z1v _ (by lia))).symm⟩;have hj:j<zs.length:=by have:=Z1p (c/16) (show (0:Int)<(zs.length:Int) by lia);lia
   show B5c 13 (V.int (c/16%(zs.length:Int))) _ _ _;rw [ej];have hjy:zs[j]? =some zs[j]:=Z0b hj;refine ⟨_,rfl,_,rfl,_,rfl,cz,_,rfl,SqL.of hcz8,λp hp=> ?_⟩;have sp1:A0r H8 (upd H8 p (.lst (B5d (zs.map V.str) none (some (j:Int))))):=A0e hp;have hp1:upd H8 p (.lst (B5d (zs.map V.str) none (some (j:Int)))) p=some (.lst ((zs.take j).map V.str)):=by rw [A0b];exact congrArg (λz=>some (HO.lst z)) B3j
   generalize upd H8 p (.lst (B5d (zs.map V.str) none (some (j:Int))))=G1 at sp1 hp1;refine ⟨p,rfl,⟨_,SqL.of hp1⟩,λD2 hD2=> ?_⟩;refine A3j (K:=K) (a:=p) (D:=D2) (xs:=(zs.take j).map V.str) (λi vs G=>A0r G1 G/\G D2=some (.lst vs)/\IxV H G vs (((zs.take j).take i).map λz=>(z,(0:Int)))) ⟨A0e hD2,A0b,.nil⟩ (by rintro i vs G ⟨s2,_⟩;exact SqL.of (s2 _ _ hp1)) ?_ ?_
   ·rintro i v vs G hv ⟨sG,hG,iv⟩;refine B9q ?_;intro N';obtain ⟨z,hz,rfl⟩:=A2e hv;have li:=Paired.length iv;refine ⟨True.intro,_,rfl,A0y rfl,λq hq=> ?_⟩;have sq:A0r G (upd G q (.tup [.str z,.int 0])):=A0e hq;have kq:KT (upd G q (.tup [.str z,.int 0])) (upd (upd G q (.tup [.str z,.int 0])) D2 (.lst (vs++[.ref q]))):=KT.at (sq _ _ hG) (by intro xs z;cases z);refine ⟨sq _ _ hG,A1c (by rw [li,Z08,Z0x,Z0x];lia),A0n (sG.trans sq) hD2,A0b,?_⟩;rw [Z14,hz,Z2f,Z0s];exact B1o ((iv.kt (KT.same sq)).kt kq) (.cons ⟨q,rfl,A6j (k8.trans (KI.of (sp1.trans sG))) hq,kq _ _ A0b⟩ .nil)
   rintro vs G ⟨sG,hG,iv⟩;rw [Z08,Z18] at iv;have s8G:=sp1.trans sG;have lvs:=Paired.length iv;rw [Z08,Z0x] at lvs;refine ⟨_,rfl,_,rfl,cz,_,_,_,rfl,rfl,SqL.of (s8G _ _ hcz8),(show atI (zs.map V.str) (j:Int)=some (.str zs[j]) from A0j (by rw [Z1z,hjy];rfl)),_,rfl,_,rfl,_,_,rfl,rfl,⟨by decide,by decide⟩,_,_,rfl,rfl,E2f,_,_,rfl,rfl,A0y rfl,λq hq=>⟨A0y rfl,λql hql=> ?_⟩⟩;show E2y (.ref D2) (.ref ql) (upd (upd G q (.tup [.str zs[j],.int (-1-c/64%2)])) ql (.lst [.ref q])) _;have hql:upd G q (.tup [.str zs[j],.int (-1-c/64%2)]) ql=none:=hql;have sq:A0r G (upd (upd G q (.tup [.str zs[j],.int (-1-c/64%2)])) ql (.lst [.ref q])):=(A0e hq).trans (A0e hql);have hqq:upd (upd G q (.tup [.str zs[j],.int (-1-c/64%2)])) ql (.lst [.ref q]) q=some (.tup [.str zs[j],.int (-1-c/64%2)]):=A4n hql A0b;have hqlq:upd (upd G q (.tup [.str zs[j],.int (-1-c/64%2)])) ql (.lst [.ref q]) ql=some (.lst [.ref q]):=A0b;generalize upd (upd G q (.tup [.str zs[j],.int (-1-c/64%2)])) ql (.lst [.ref q])=G2 at sq hqq hqlq;have hw: -1-c/64%2<0:=by lia
   generalize -1-c/64%2=ww at hqq hw;refine ⟨D2,ql,_,_,rfl,rfl,sq _ _ hG,hqlq,A2o (by simp;lia),λp1 hp1=> ?_⟩;obtain ⟨G3,s1,g1,eNH⟩:=nH (o:= .lst (vs++[.ref q])) hp1
   try rw [eNH]
   have s83:=s8G.trans (sq.trans s1);have lys:=Paired.length px;have lpin:=Paired.length pin;refine ⟨_,rfl,_,rfl,_,_,rfl,rfl,_,rfl,il,_,rfl,SqL.of (s83 _ _ hil8),λp2 hp2=> ?_⟩;have e2:B5d ys (some ((j:Int)+1)) none=ys.drop (j+1):=D0a (i:=j+1);show E2y (.ref p1) (.ref p2) (upd G3 p2 (.lst (B5d ys (some ((j:Int)+1)) none))) _;rw [e2];obtain ⟨G4,s2,g2,eNH⟩:=nH (o:= .lst (ys.drop (j+1))) hp2
   try rw [eNH]
   refine ⟨p1,p2,_,_,rfl,rfl,s2 _ _ g1,g2,A2o (by simp;lia),λp3 hp3=> ?_⟩;have s3:A0r G4 (upd G4 p3 (.lst (vs++[.ref q]++ys.drop (j+1)))):=A0e hp3;have s84:=s83.trans s2;have sG4:KT G (upd G4 p3 (.lst (vs++[.ref q]++ys.drop (j+1)))):=KT.same (sq.trans (s1.trans (s2.trans s3)));refine ⟨_,p3,_,(zs.take j).map (λz=>(z,(0:Int)))++[(zs[j],ww)]++ix.drop (j+1),rfl,s84.trans s3,A6j (k8.trans (KI.of s84)) hp3,A0b,B1o (B1o (iv.kt sG4) (.cons ⟨q,rfl,A6j (k8.trans (KI.of s8G)) hq,(s1.trans (s2.trans s3)) _ _ hqq⟩ .nil)) (D4v _ (px.kt (KT.same (s84.trans s3)))),?_,λ_ f=>by rw [<-ezs];exact D0e hjy (λz hz=>(zok z hz).1) hw _ f⟩
   have ez:zs=zs.take j++[zs[j]]++zs.drop (j+1):=by
    rw [Z0z];show zs=zs.take j++(zs[j]::zs.drop (j+1));rw [<-Z1u hj,Z2e]
   have pz:Paired (D7k L bs) ((zs.take j).map (λz=>(z,(0:Int)))++[(zs[j],ww)]++ix.drop (j+1)) (zs.take j++[zs[j]]++zs.drop (j+1)):=B1o (B1o (D4k λz hz=>zok z (Z2p hz)) (.cons ⟨λz=>absurd z (zok _ (List.getElem_mem _)).1,λ_=>(zok _ (List.getElem_mem _)).2⟩ .nil)) (D4v _ pin)
   rwa [<-ez] at pz
  rintro Z H9 ⟨o13,il,ys,ix,rfl,s9,nil9,hil9,px9,pin9,ahd⟩;have k9:=k8.trans (KI.of s9);have hcz9:=s9 _ _ hcz8;have lpx:=Paired.length px9;have lpi:=Paired.length pin9;have l100:ix.length<=100:=by lia
  refine ⟨_,rfl,_,rfl,A0y rfl,λp hp=> ?_⟩;have sp1:A0r H9 (upd H9 p (.tup [.str "read",.str arr,.ref il])):=A0e hp;have rp:Rep (A2t (Nw H) H9) (.ref il) (B1l ix):= .lst (A1k nil9 hil9) px9.rep;have tr1:A9n (A2t (Nw H) (upd H9 p (.tup [.str "read",.str arr,.ref il]))) (.ref p) (.read arr ix):= .read (A1k (A6j k9 hp) A0b) (rp.same (A1x sp1));generalize upd H9 p (.tup [.str "read",.str arr,.ref il])=H10 at sp1 tr1;have k10:=k9.trans (KI.of sp1);refine ⟨_,rfl,_,rfl,il,cz,_,_,rfl,SqL.of (sp1 _ _ hil9),SqL.of (sp1 _ _ hcz9),?_⟩
  refine D1g (K:=K) (a:=il) (b:=cz) (xs:=ys) (ys:=zs.map V.str) (λi Z G=>∃(o4 o15 o16:Option V) (v:V) (u:Tm),Z=[Sro D,Sro ab,Sro b,Sio c,o4,Sro kl,Sso arr,Sro cz,Sro sl,Sro il,o10,o11,o12,o13,some v,o15,o16]/\A0r H10 G/\A9n (A2t (Nw H) G) v u/\C7b L bs arr ix zs i u)
   ⟨o4,none,none,_,_,rfl,A0r.refl _,tr1,C7b.zero pin9 l100⟩ (by rintro i Z G ⟨_,_,_,_,_,_,s2,_⟩;exact ⟨SqL.of (s2 _ _ (sp1 _ _ hil9)),SqL.of (s2 _ _ (sp1 _ _ hcz9))⟩) (by rw [Z08];lia) ?_ ?_
  ·rintro i v1 v2 Z G p2 hv1 hv2 ⟨o4,o15,o16,v,u,rfl,sG,tr,rd1⟩ hp2;walk_at "g";obtain ⟨e,he,qe,rfl,_,hqe⟩:=A6w px9 hv1;obtain ⟨y,hy,rfl⟩:=A2e hv2;obtain ⟨G1,s2,hpp,eNH⟩:=nH (o:= .tup [.ref qe,.str y]) hp2
   try rw [eNH]
   have s10:=sG.trans s2;have hq1:=s10 _ _ (sp1 _ _ hqe);have k11:=k10.trans (KI.of s10);refine ⟨p2,_,rfl,SqT.of hpp,rfl,_,_,rfl,_,_,rfl,rfl,_,rfl,qe,_,_,_,rfl,rfl,SqT.of hq1,A0j (j:=0) rfl,rfl,_,rfl,D0q (λh0=> ?_) (λh0=> ?_)⟩
   ·have hne:e.1≠"":=λz=>h0 (by rw [z]);obtain ⟨y',hy',iy⟩:=A6w pin9 he;have ynm:=axz.sub y (Z13 hy);have g:=A9r.k (H:=G1) (a:=x.ld) (k:=Sum.inr y) (k11.dk hlk);rw [lok.val ynm] at g;refine ⟨_,rfl,ab,_,rfl,(ap.ki k11).get (B1f x),_,rfl,x.ld,_,rfl,g,_,rfl,qe,_,_,_,rfl,rfl,SqT.of hq1,A0j (j:=1) rfl,_,_,rfl,rfl,?_⟩;refine ⟨_,rfl,qe,_,_,_,rfl,rfl,SqT.of hq1,A0j (j:=0) rfl,_,rfl,qe,_,_,_,rfl,rfl,SqT.of hq1,A0j (j:=1) rfl,_,rfl,_,rfl,_,rfl,_,rfl,_,_,rfl,rfl,z_70,A0y rfl,λq1 hq1'=>⟨A0y rfl,λq2 hq2=> ?_⟩⟩;have hq2:upd G1 q1 (.tup [.str "number",.int (c%7)]) q2=none:=hq2;have s3:A0r G1 (upd (upd G1 q1 (.tup [.str "number",.int (c%7)])) q2 (.tup [.str "guard",.str e.1,.int (-e.2),.int (L y-e.2),v,.ref q1])):=(A0e hq1').trans (A0e hq2);exact ⟨_,_,_,.ref q2,.guard e.1 (-e.2) (L y-e.2) u (.num (c%7)),rfl,s10.trans s3,.guard (A1k (A6j (k11.trans (KI.of (A0e hq1'))) hq2) A0b) (tr.same (A1x (s2.trans s3))) (.num (A1k (A6j k11 hq1') (A4n hq2 A0b))),rd1.step he hy (iy.2 hne) _⟩
   ·have e0:e.1="":=by injection h0
    exact ⟨_,_,_,v,u,rfl,s10,tr.same (A1x s2),rd1.skip he e0⟩
  ·rintro Z G ⟨o4,o15,o16,v,u,rfl,sG,tr,rd1⟩;rw [lpx] at rd1;have k11:=k10.trans (KI.of sG);exact ⟨_,rfl,k v u ms2 G (rd1.done pin9 (by lia) hzs ahd) k11 (sG _ _ (sp1 _ _ (s9 _ _ hD8))) tr⟩
inductive B9c (n:Nat) (vs:List V) (H:Hp) (Q:VK):Prop
 | mk (D ab b:Addr) (ms:List Int) (x:Abt) (L:Str->Int) (nm:List Str) (es0:List (Str×List Str)) (oy bs:List Str) (_:vs=[.ref D,.ref ab,.ref b,.int (n:Nat)]) (_:H D=some (.lst (ms.map V.int))) (_:C4v H ab x L nm (es0++[(x.own,oy)])) (_:D0u L nm (es0++[(x.own,oy)])) (_:H b=some (.lst (bs.map V.str))) (_:(∀y∈bs,y∈nm)) (_:bs.length<=100) (_:(∀y∈oy,y∈bs)) (_:∀(v:V) (u:Tm) (ms':List Int) (H':Hp),B0m L (es0++[(x.own,oy)]) x.own oy bs (n+4) (2^n) u->KI H H'->H' D=some (.lst (ms'.map V.int))->A9n (A2t (Nw H) H') v u->Q v H'):B9c n vs H Q
def B7t (n:Nat):Sp:=λvs H Q _=>B9c n vs H Q
theorem E0d {H1:Hp} (k:KI H H1) (r:A9n (A2t (Nw H1) H2) v u):A9n (A2t (Nw H) H2) v u:=r.same λb o e=>A1k ((A0v e).1.up k) (A0v e).2
theorem B6e (T:Txt K mg t) {sp':Sp} (hm:2<=m) (Gc1:A4q P w K mg base CX0 m t.fu t.f_ C5b sp') (hs:1<=n->∀vs H Q,B7t (n-1) vs H Q E0->sp' vs H Q E0):A4q P w K mg base CX0 (m+1) t.fu t.f_ C5b (B7t n):=by
 have Gc0:= @B0h P w K mg base t T;have Gc2:= @C9l P w K mg base t T;refine T.fq.F.ok A4v (by walk_at "ln") λ_ A _ s H _ Q E hr h=> ?_
 ·obtain ⟨D,ab,b,ms,x,L,nm,es0,oy,bs,rfl,hD,ap,ok,hb,bnm,lb,obs,k⟩:=h;have hu:=A6c hr;have p2:1<=2^n:=Nat.pow_pos (by decide)
  refine ⟨_,(A0c (A0m (i:=4) A4v.nd (pcl Gc0 hr T.bd (A0a (pv 0) A0d)))
   (A0c (A0m (i:=5) A4v.nd (A0x A2a (pv 4) A0g))
   (A3m (A1s (PW.pt (B4i (A0t A3f (pv 3) A0g (A1i _)) (B1c (A0t C1k (pv 5) A0g (A1i _)))))
    (A0f (A0m (i:=5) A4v.nd A0g))
    A0s)
   (A3m (A1s (PW.pt (C1h (A0t A3f (pv 5) A0g (A1i _)) (B4b (A0t A3f (pv 5) A0g (A1i _)))))
    (A0f (A0p (pcl Gc2 hr T.jo (A0a (pv 0) (A0a (pv 1) (A0a (pv 2) A0d))))))
    A0s)
   (A3m (A1s (PW.pt (C1h (A0t A3f (pv 5) A0g (A1i _)) (B4b (PW.pt (B4i (A0t A3f (A0q A0z (by rfl) T.au Z0r (A0a (pv 2) A0d)) A0g (A1i _)) (B1c (A0t D1z (pv 5) A0g (A1i _))))))))
    (A0f (A0p (A1t (A0a A0o (A0a (A0x A2a (A0x A2w (pv 4) A0g) (A0x C0r A0g A0g)) A0d)))))
    A0s)
   (A3m (A1s (A0t A3f (pv 5) A0g (A1i _))
    (A0f (A0p (A1t (A0a A0o (A0a (A1b A1l (pv 2) (A0x A2a (A0x A2w (pv 4) A0g) (A0q A0z (by rfl) T.au Z0r (A0a (pv 2) A0d)))) A0d)))))
    A0s)
   (A0c (A0m (i:=6) A4v.nd (pcl Gc1 hr T.fq (A0a (pv 0) (A0a (pv 1) (A0a (pv 2) (A0a (A0x A7y (pv 3) A0g) A0d))))))
   (A0c (A0m (i:=7) A4v.nd (pcl Gc1 hr T.fq (A0a (pv 0) (A0a (pv 1) (A0a (pv 2) (A0a (A0x A7y (pv 3) A0g) A0d))))))
   (A3m (A1s (A0t A3f (pv 5) A0g (A1i _))
    (A0f (A0p (A1t (A0a A0o (A0a (A0x A2a (A0x A2w (pv 4) A0g) A0g) (A0a (pv 6) (A0a (pv 7) A0d)))))))
    A0s)
   (A0c (A0m (i:=8) A4v.nd (A0x A2a (A0x A2w (pv 4) A0g) A0g))
   (A0f (A0p (A1t (A0a A0o (A0a (A1b A1l (pv 2) (A0x A2a (A0x A2w (pv 4) A0g) (A0q A0z (by rfl) T.au Z0r (A0a (pv 2) A0d)))) (A0a (pv 8) (A0a (A0x A4a (pv 8) (A0x A2a (A0x A2w (pv 4) A0g) A0g)) (A0a (pv 6) (A0a (pv 7) A0d))))))))))))))))))),?_⟩
  refine ⟨_,rfl,D,ms,rfl,hD,λc ms1 H1 l1 h1 o1 e1=> ?_⟩;have k1:=A7u hD o1 e1;have a1:=ap.ki k1;have hb1:=k1.str hb;refine ⟨_,rfl,_,_,rfl,rfl,z_60,?_⟩;refine ⟨λZ H2=>∃way:Int,Z=[Sro D,Sro ab,Sro b,Sio (n:Nat),Sio c,Sio way,none,none,none]/\H1=H2/\(n=0->way<=3)/\0<=way/\way<=5,?_,?_⟩
  ·refine ⟨_,rfl,rfl,_,rfl,C5x (λh0=>⟨_,rfl,_,_,rfl,rfl,_,rfl,A3u (λh2=>⟨2,rfl,rfl,by lia,by lia,by lia⟩) (λh2=>⟨_,rfl,rfl,λ_=> ?_,by lia,by lia⟩)⟩) (λh0=>A7x ⟨_,rfl,rfl,λz=>absurd (Z20 (by rw [z];rfl)) h0,by lia,by lia⟩)⟩;have h2:¬3<c%6:=h2
   lia
  rintro Z H2 ⟨way,rfl,rfl,wn,w0,w5⟩;refine ⟨λZ H2=>Z=[Sro D,Sro ab,Sro b,Sio (n:Nat),Sio c,Sio way,none,none,none]/\H1=H2/\way≠2/\way≠3,?_,?_⟩
  ·have rd':C4b [.ref D,.ref ab,.ref b] H1 Q E0:=⟨D,ab,b,ms1,x,L,nm,es0,oy,bs,rfl,h1,a1,ok,hb1,bnm,lb,obs,λv u ms' H' tm ki hD' tr=>k v u ms' H' (tm.mono (by lia) (by lia)) (k1.trans ki) hD' (E0d k1 tr)⟩;refine ⟨_,rfl,rfl,_,rfl,A3u (λh2=>D5g ?_) (λh2=>⟨_,rfl,rfl,_,rfl,A3u (λh3=> ?_) (λh3=>⟨rfl,rfl,λz=>h2 (by rw [z]),λz=>h3 (by rw [z])⟩)⟩)⟩
   ·exact ⟨_,rfl,_,rfl,_,rfl,rd'⟩
   ·exact ⟨_,rfl,_,rfl,_,rfl,rd'⟩
  rintro Z H2 ⟨rfl,rfl,w2,w3⟩;refine ⟨λZ H2=>Z=[Sro D,Sro ab,Sro b,Sio (n:Nat),Sio c,Sio way,none,none,none]/\H1=H2/\way≠0/\(bs=[]->way=4),?_,?_⟩
  ·refine ⟨_,rfl,rfl,_,rfl,A3u (λh0=>D5g ?_) (λh0=>⟨_,rfl,b,_,rfl,.inl (SqL.of hb1),rfl,_,rfl,C5x (λhz=>⟨_,rfl,rfl,_,rfl,D0q (λh4=> ?_) (λh4=>⟨rfl,rfl,λz=>h0 (by rw [z]),λ_=>V.int.inj h4⟩)⟩) (λhz=>A7x ⟨rfl,rfl,λz=>h0 (by rw [z]),λz=>absurd (Z20 (by rw [z];rfl)) hz⟩)⟩)⟩
   ·refine ⟨_,rfl,_,_,rfl,rfl,⟨by decide,by decide⟩,_,_,rfl,rfl,⟨by decide,by decide,by decide⟩,_,_,rfl,rfl,D0x,A0y rfl,λp hp=> ?_⟩;exact k (.ref p) (.num _) ms1 _ (B0m.num _ _ _ _ _ _ _ _ (by lia)) (k1.trans (KI.of (A0e hp))) ((A0e hp) _ _ h1) (.num (A1k (A6j k1 hp) A0b))
   ·refine ⟨_,rfl,_,_,rfl,rfl,⟨by decide,by decide⟩,_,_,rfl,rfl,⟨by decide,by decide,by decide⟩,_,_,rfl,rfl,D0x,A0y rfl,λp hp=> ?_⟩;exact k (.ref p) (.num _) ms1 _ (B0m.num _ _ _ _ _ _ _ _ (by lia)) (k1.trans (KI.of (A0e hp))) ((A0e hp) _ _ h1) (.num (A1k (A6j k1 hp) A0b))
  rintro Z H2 ⟨rfl,rfl,w0',w4⟩
  have axs:way≠4->∃a':Str,a'∈bs/\(0:Int)<((bs.map V.str).length:Int)/\atI (bs.map V.str) (c/6%((bs.map V.str).length:Int))=some (.str a'):=λhw=>by
   have pos:0<bs.length:=by
    rcases Nat.eq_zero_or_pos bs.length with z | z
    ·exact absurd (w4 (List.eq_nil_of_length_eq_zero z)) hw
    ·exact z
   obtain ⟨a',ha,ea⟩:=A8o (f:=V.str) (xs:=bs) (i:=c/6%(bs.length:Int)) (Z1v _ (by lia)) (Z1p _ (by lia));exact ⟨a',Z13 ha,by rw [Z08];lia,by rw [Z08];exact ea⟩
  refine ⟨λZ H2=>Z=[Sro D,Sro ab,Sro b,Sio (n:Nat),Sio c,Sio way,none,none,none]/\H1=H2/\way≠1,?_,?_⟩
  ·refine ⟨_,rfl,rfl,_,rfl,A3u (λh1'=> ?_) (λh1'=>⟨rfl,rfl,λz=>h1' (by rw [z])⟩)⟩;have e1:way=1:=V.int.inj h1';obtain ⟨a',ma,pos,ea⟩:=axs (by lia);refine ⟨_,rfl,_,rfl,_,_,rfl,rfl,⟨by decide,by decide⟩,_,rfl,b,_,rfl,.inl (SqL.of hb1),_,_,rfl,rfl,pos,b,_,_,_,rfl,rfl,SqL.of hb1,ea,A0y rfl,λp hp=> ?_⟩;exact k (.ref p) (.place a') ms1 _ (B0m.place ma (by lia)) (k1.trans (KI.of (A0e hp))) ((A0e hp) _ _ h1) (.place (A1k (A6j k1 hp) A0b))
  rintro Z H2 ⟨rfl,rfl,w1⟩
  have n1:1<=n:=by
   rcases Nat.eq_zero_or_pos n with z | z
   ·have:=wn z;lia
   ·exact z
  have en:(((n:Nat):Int)-1)=((n-1:Nat):Int):=by lia
  have pw:2^(n-1)+2^(n-1)=2^n:=by
   have e:2^n=2^(n-1)*2:=by rw [<-Nat.pow_succ];congr 1;lia
   lia
  have dn:n-1+4+1=n+4:=by lia
  have rec':∀(ms':List Int) (H3:Hp) (Q':VK),H3 D=some (.lst (ms'.map V.int))->KI H H3->(∀(v:V) (u:Tm) (ms2:List Int) (H':Hp),B0m L (es0++[(x.own,oy)]) x.own oy bs (n-1+4) (2^(n-1)) u->KI H3 H'->H' D=some (.lst (ms2.map V.int))->A9n (A2t (Nw H) H') v u->Q' v H')->sp' [.ref D,.ref ab,.ref b,.int ((n:Nat)-1)] H3 Q' E0:=λms' H3 Q' hD3 k3 kk=>by
   rw [en];exact hs n1 _ _ _ ⟨D,ab,b,ms',x,L,nm,es0,oy,bs,rfl,hD3,ap.ki k3,ok,k3.str hb,bnm,lb,obs,λv u ms2 H' tm ki2 hD2 rp2=>kk v u ms2 H' tm ki2 hD2 (E0d k3 rp2)⟩
  refine ⟨_,rfl,_,rfl,_,rfl,_,rfl,_,_,rfl,rfl,rec' ms1 H1 _ h1 k1 λvl ul ms2 H4 tl ki1 hD4 rl=> ?_⟩;refine ⟨_,rfl,_,rfl,_,rfl,_,rfl,_,_,rfl,rfl,rec' ms2 H4 _ hD4 (k1.trans ki1) λvr ur ms3 H5 tr ki2 hD5 rr=> ?_⟩;have k5:=k1.trans (ki1.trans ki2);have rl5:=rl.ki (D0z ki2);refine ⟨λZ H2=>Z=[Sro D,Sro ab,Sro b,Sio (n:Nat),Sio c,Sio way,some vl,some vr,none]/\H5=H2/\way≠4,?_,?_⟩
  ·refine ⟨_,rfl,rfl,_,rfl,A3u (λh4=> ?_) (λh4=>⟨rfl,rfl,λz=>h4 (by rw [z])⟩)⟩;refine ⟨_,rfl,_,_,rfl,rfl,⟨by decide,by decide⟩,_,_,rfl,rfl,E3g,_,rfl,_,rfl,A0y rfl,λp hp=> ?_⟩;have tm:=B0m.pair (o:=E2q (c/6%3)) tl tr;rw [dn,pw] at tm;have sp1:=A0e (o:= .tup [.str "pair",.int (c/6%3),vl,vr]) hp;exact k (.ref p) _ ms3 _ tm (k5.trans (KI.of sp1)) (sp1 _ _ hD5) (.pair (A1k (A6j k5 hp) A0b) (rl5.same (A1x sp1)) (rr.same (A1x sp1)))
  rintro Z H2 ⟨rfl,rfl,w4'⟩;obtain ⟨a',ma,pos,ea⟩:=axs w4';refine ⟨_,rfl,_,_,rfl,rfl,⟨by decide,by decide⟩,_,_,rfl,rfl,D8f,?_⟩;have hb5:=k5.str hb;refine ⟨_,rfl,_,rfl,_,_,rfl,rfl,⟨by decide,by decide⟩,_,rfl,b,_,rfl,.inl (SqL.of hb5),_,_,rfl,rfl,pos,b,_,_,_,rfl,rfl,SqL.of hb5,ea,_,rfl,_,rfl,_,rfl,_,_,rfl,rfl,⟨by decide,by decide⟩,_,_,rfl,rfl,D8f,_,_,rfl,rfl,_,rfl,_,rfl,A0y rfl,λp hp=> ?_⟩;have tm:=B0m.guard (lo:=c/36%4) (hi:=c/36%4+c/144%4) ma tl tr;rw [dn,pw] at tm;have sp1:=A0e (o:= .tup [.str "guard",.str a',.int (c/36%4),.int (c/36%4+c/144%4),vl,vr]) hp;exact k (.ref p) _ ms3 _ tm (k5.trans (KI.of sp1)) (sp1 _ _ hD5) (.guard (A1k (A6j k5 hp) A0b) (rl5.same (A1x sp1)) (rr.same (A1x sp1)))
theorem C3z (T:Txt K mg t):∀n:Nat,A4q P w K mg base CX0 (n+3) t.fu t.f_ C5b (B7t n)
 | 0=>B6e T (sp':=λ_ _ _ _=>False) (m:=2) (by lia) (A4q.none λ_ _ _ _ h=>h) λh=>absurd h (by lia)
 | n+1=>B6e T (m:=n+3) (by lia) (C3z T n) λ_ vs H Q h=>h
theorem C2b (z:Str):∀bs:List Str,inV (.str z) (bs.map V.str)=decide (z∈bs)
 | []=>rfl
 | b::r=>by
  have ih:=C2b z r;unfold inV at ih⊢;rw [Z0p,List.any_cons,ih];show ((b == z)||decide (z∈r))=decide (z∈b::r);by_cases e:b=z
  ·subst e;simp
  ·have:¬z=b:=λh=>e h.symm;simp [e,this]
theorem B3b:∀bs:List Str,(bs.map V.str).all B8c=true
 | []=>rfl
 | b::r=>by rw [Z0p,List.all_cons,B3b r];rfl
theorem D7v {k:Key} {v':V} {r:List (Key×V)} (h:∀p∈r,¬p.1=k):A3v ((k,v)::r) k v'=(k,v')::r:=by
 unfold A3v;rw [Z12 (by simp)];rw [Z0p,Z12 rfl];congr 1;exact (List.map_congr_left λp hp=>Z0t (h p hp)).trans (List.map_id' _)
theorem D3l {a b:Str} {v':V} {r:List (Key×V)} (h:decide (a=b)=false) (hs:(A1y r (Sum.inr b)).isSome=true):A3v (((Sum.inr a:Key),v)::r) (Sum.inr b) v'=((Sum.inr a:Key),v)::A3v r (Sum.inr b) v':=by
 have ne:¬(Sum.inr a:Key)=Sum.inr b:=λz=>by injection z with z;rw [Z20 z] at h;cases h
 unfold A3v;rw [Z12 (by rw [List.any_cons,A4b,hs,Bool.or_true]),Z12 (by rw [A4b,hs]),Z0p,Z0t ne]
theorem D9t {r:List (Key×V)} {b:Str} (h:A1y r (Sum.inr b)=none):∀p∈r,¬p.1=(Sum.inr b:Key):=λp hp e=>C4s h (by rw [<-e];exact List.mem_map_of_mem hp)
local macro_rules | `(tactic| walk_at "ab") => `(tactic| first | rfl | exact A2l rfl | (refine (E2z (by decide +kernel)).trans ?_; walk_at "ab"))
local macro_rules | `(tactic| walk_at "pu") => `(tactic| first | exact D7v (D9t (by walk_at "ab")) | (refine (D3l (by decide +kernel) (Option.isSome_iff_exists.mpr ⟨_, by walk_at "ab"⟩)).trans (congrArg (List.cons _) ?_); walk_at "pu"))
theorem C6h (x:Abt) (y:Str):A3v (abK x) (Sum.inr "own") (.str y)=abK { x with own:=y }:=by unfold abK;walk_at "pu"
theorem C3b (x:Abt) (y:Int):A3v (abK x) (Sum.inr "left") (.int y)=abK { x with left:=y }:=by unfold abK;walk_at "pu"
theorem C2x (x:Abt) (y:Int):A3v (abK x) (Sum.inr "work") (.int y)=abK { x with work:=y }:=by unfold abK;walk_at "pu"
theorem C4v.put {x x':Abt} (h:C4v H ab x L nm es) (e1:x'.ld=x.ld) (e2:x'.sh=x.sh) (e3:x'.ln=x.ln):C4v (upd H ab (.dK (abK x'))) ab x' L nm es:=by
 obtain ⟨d,⟨lk,l1,l2⟩,⟨ak,h1,h2⟩,n1,n2,n3⟩:=h;refine ⟨A0b,⟨lk,by rw [e1,A0h n2.symm];exact l1,l2⟩,⟨ak,by rw [e2,A0h n1.symm];exact h1,?_⟩,e2▸n1,e1▸n2,by rw [e1,e2];exact n3⟩;rw [e3];exact Paired.mapP h2 (by rintro _ _ ⟨z1,b,z2,z3,z4⟩;exact ⟨z1,b,z2,z3,by rw [A0h (A1g z4 d (by intro z;cases z))];exact z4⟩)
def LT:HO->Prop
 | .tup _=>True
 | .lst (.int _::_)=>False
 | .lst _=>True
 | .frz _ _=>True
 | _=>False
theorem LT.ni {u:HO} (h:LT u):∀n xs,u≠.lst (V.int n::xs):=λn xs z=>by subst z;exact h
theorem LT.nd {u:HO} (h:LT u):∀kvs,u≠.dK kvs:=λkvs z=>by subst z;exact h
theorem D7n (ys:List Str):LT (.lst (ys.map V.str)):=by cases ys <;> exact True.intro
def KQ (ln:Addr) (H H':Hp):Prop:=∀b u,b≠ln->LT u->H b=some u->H' b=some u
theorem KQ.trans (a:KQ ln H H') (b:KQ ln H' H2):KQ ln H H2:=λc u n l e=>b c u n l (a c u n l e)
theorem KQ.of (k:KI H H'):KQ ln H H':=λb u _ l e=>k b u l.ni e
theorem KQ.dk (h:H ab=some (.dK kvs)):KQ ln H (upd H ab o):=λb u _ l e=>by rw [A0h (A1g e h (l.nd _))];exact e
theorem KQ.at:KQ ln H (upd H ln o):=λb u n l e=>by rw [A0h n];exact e
theorem KQ.str (k:KQ ln H H') (n:b≠ln) (e:H b=some (.lst (ys.map V.str))):H' b=some (.lst (ys.map V.str)):=k _ _ n (D7n ys) e
theorem A9n.kq (h:A9n (A2t (λb=>b≠ln) H) v u) (k:KQ ln H H'):A9n (A2t (λb=>b≠ln) H') v u:=by
 have gt:∀b xs,A2t (λb=>b≠ln) H b=some (.tup xs)->A2t (λb=>b≠ln) H' b=some (.tup xs):=λb xs e=>A1k (A0v e).1 (k b _ (A0v e).1 True.intro (A0v e).2)
 induction h with
 | num e=>exact .num (gt _ _ e)
 | place e=>exact .place (gt _ _ e)
 | @read a l x ix e r =>
  obtain ⟨_,es,q,el,rs⟩:=B3r (show Rep _ (.ref l) (.list (ix.map C1l)) from r);cases q
  have lt:LT (.lst es):=by
   cases ix with
   | nil=>cases rs;exact True.intro
   | cons e ix =>
    rw [Z0p] at rs
    cases rs with
    | cons a rs =>
     obtain ⟨q,rfl,_⟩:=D9k a;exact True.intro
  refine .read (gt _ _ e) (.lst (A1k (A0v el).1 (k _ _ (A0v el).1 lt (A0v el).2)) ?_);clear r el e lt
  induction ix generalizing es with
  | nil=>cases rs;exact .nil
  | cons e ix ih =>
   rw [Z0p] at rs
   cases rs with
   | cons a rs =>
    obtain ⟨q,rfl,hq⟩:=D9k a;exact .cons (.tup (gt _ _ hq) (.cons (.str _) (.cons (.int _) .nil))) (ih _ rs)
 | pair e _ _ i1 i2=>exact .pair (gt _ _ e) i1 i2
 | guard e _ _ i1 i2=>exact .guard (gt _ _ e) i1 i2
inductive D3s (ln:Addr) (H:Hp) (v:V) (e:LnM):Prop
 | mk (b c d:Addr) (tv:V) (_:v= .ref b) (_:b≠ln) (_:H b=some (.tup [.str e.nm,.ref c,.ref d,tv])) (_:c≠ln) (_:H c=some (.lst (e.own.map V.str))) (_:d≠ln) (_:H d=some (.lst (e.sums.map V.str))) (_:A9n (A2t (λb=>b≠ln) H) tv e.tm):D3s ln H v e
theorem D3s.kq (h:D3s ln H v e) (k:KQ ln H H'):D3s ln H' v e:=by
 obtain ⟨b,c,d,tv,rfl,nb,e1,nc,e2,nd,e3,tr⟩:=h;exact ⟨b,c,d,tv,rfl,nb,k _ _ nb True.intro e1,nc,k.str nc e2,nd,k.str nd e3,tr.kq k⟩
structure C0j (L:Str->Int) (nm:List Str) (es:List (Str×List Str)) (e:LnM):Prop where
 ax:AxN nm e.own
 nd:(e.own++e.sums).Nodup
 sub:∀y∈e.sums,y∈nm
 few:e.sums.length<=2
 po:A2n (e.own.map L)<=40
 ps:A2n (e.sums.map L)<=40
 tm:B0m L es e.nm e.own (e.own++e.sums) 6 4 e.tm
theorem C4e (L:Str->Int) (ys:List Str):prd L ys=A2n (ys.map L):=by
 unfold prd A2n;rw [List.foldl_map]
theorem C0q (a b:List Int):A2n (a++b)=A2n a*A2n b:=by
 rw [B7z,B7z,B7z]
 induction a with
 | nil=>rw [List.nil_append,prR,Int.one_mul]
 | cons x r ih=>rw [List.cons_append,prR,prR,ih,Int.mul_assoc]
structure E3j (nm ys zs:List Str):Prop where
 nd:(ys++zs).Nodup
 sub:∀y∈zs,y∈nm
 few:zs.length<=2
theorem AxN.take (h:AxN nm ys) (n:Nat):AxN nm (ys.take n):=⟨h.nd.sublist (Z2o _ _),λy hy=>h.sub y (Z2p hy),by have:=h.few;rw [Z0x];lia⟩
theorem AxN.nil (nm:List Str):AxN nm []:=⟨List.nodup_nil,λy hy=>(nomatch hy),by simp⟩
theorem C2z {S:Addr->Prop} {H:Hp} {y:Str}:∀{ak:List (Key×V)} {es:List (Str×List Str)},AR S H ak es->y∉es.map (·.1)->A1y ak (Sum.inr y)=none
 | _,_,.nil,_=>rfl
 | _,_,@Paired.cons _ _ _ p q ps qs r t,h=>by
  rw [Z0p,Z0e] at h;rw [A2g (λz=>h (.inl (Sum.inr.inj (r.1.symm.trans z)).symm))];exact C2z t λz=>h (.inr z)
theorem D0u.snoc (h:D0u L nm es) (hy:y∉es.map (·.1)) (hs:PyData.strOk y=true) (hx:AxN nm ys) (hp:A2n (ys.map L)<=60) (hl:es.length<100):D0u L nm (es++[(y,ys)]):=by
 have sp:∀{Pp:Str×List Str->Prop},(∀e∈es,Pp e)->Pp (y,ys)->∀e∈es++[(y,ys)],Pp e:=λh1 h2 e he=>(Z07.mp he).elim (h1 e) λz=>by rw [Z0w.mp z];exact h2
 refine ⟨?_,sp h.ax hx,sp h.pr hp,by rw [Z06];simp;lia,sp h.str hs⟩;rw [Z0s,Z0l]
 exact ⟨h.nd,by simp,λa ha b hb e=>by
  have hb:b=y:=Z0w.mp hb
  exact hy (by rw [<-hb,<-e];exact ha)⟩
inductive C3u (vs:List V) (H:Hp) (Q:VK):Prop
 | mk (D ab nl:Addr) (y:Str) (ms:List Int) (x:Abt) (L:Str->Int) (nm:List Str) (es:List (Str×List Str)) (ts:List V) (_:vs=[.ref D,.ref ab,.ref nl,.str y]) (_:H D=some (.lst (ms.map V.int))) (_:C4v H ab x L nm es) (_:D0u L nm es) (_:es.length<=20) (_:H nl=some (.lst (nm.map V.str))) (_:nl≠x.ln) (_:0<nm.length) (_:y∉es.map (·.1)) (_:PyData.strOk y=true) (_:x.left<=40) (_:H x.ln=some (.lst ts)) (_:LT (.lst ts)) (_:ts.length<=20) (_:∀(ys zs:List Str) (u:Tm) (v:V) (x':Abt) (H':Hp),x'.ld=x.ld->x'.sh=x.sh->x'.ln=x.ln->x'.tb=x.tb->x'.left<=40->C4v H' ab x' L nm (es++[(y,ys)])->D0u L nm (es++[(y,ys)])->C0j L nm (es++[(y,ys)]) ⟨y,ys,zs,u⟩->H' x.ln=some (.lst (ts++[v]))->D3s x.ln H' v ⟨y,ys,zs,u⟩->KQ x.ln H H'->Q .non H'):C3u vs H Q
def D7u:Sp:=λvs H Q _=>C3u vs H Q
theorem A7i (h:∀y∈nm,1<=L y) (hs:∀y∈ys,y∈nm):1<=A2n (ys.map L):=(A3a (ys.map L) λn hn=>by obtain ⟨y,hy,rfl⟩:=Z2c.mp hn;exact h y (hs y hy)).2
theorem C9t (T:Txt K mg t):FO P w base T.ji 13 D7u:=by
 have Gc0:= @B0h P w K mg base t T;have Gc3:= @C0l P w K mg base t T;have Gc4:= @B8m P w K mg base t T;have Gc1:= @C3z P w K mg base t T 2;have Gb2:= @B6h P w K mg base t T 6;refine T.ji.F.ok A3i (by walk_at "ln") λ_ A _ s H _ Q E hr h=> ?_
 ·obtain ⟨D,ab,nl,y,ms,x,L,nm,es,ts,rfl,hD,ap,ok,les,hnl,nln,npos,fresh,stry,x40,hln,lts,lts2,k⟩:=h;have hu:=A6c hr;obtain ⟨lk,hlk,lok⟩:=ap.le;have L1:∀y∈nm,1<=L y:=λy hy=>(lok.ok y hy).1;have tel:∀{lk:List (Key×V)} (lok:B2i lk L nm) (ys:List Str),(∀y∈ys,y∈nm)->D6z lk L ys:=λlok ys hs y hy=>⟨lok.val (hs y hy),by have:=lok.ok y (hs y hy);lia,(lok.ok y (hs y hy)).2.1⟩;have k8:=lok.few
  refine ⟨_,(A0c (A0m (i:=4) A3i.nd (pcl Gc0 hr T.bd (A0a (pv 0) A0d)))
   (A0c (A0m (i:=5) A3i.nd (A0u hu (pv 1) A0o))
   (A0c (A0m (i:=6) A3i.nd (pcl Gc3 hr T.i7 (A0a (pv 4) (A0a (pv 2) A0d))))
   (A0c (C9r (i₀:=7) (N':=["_law_axis","_law_axes_here"]) (ix:=(List.replicate 1 none++[some 6])) (tc:=E1l (tOp (rIn K true) (E2c 0) (E2c 1))) A3i.nd rfl (.inl rfl) rfl (A9b (x:="_law_axes_here") rfl rfl rfl (by decide +kernel) (by decide +kernel)) (A7b (N0:=["_law_axis"]) rfl (.inl rfl) (by walk_at "ix")) (A1n (pv 2)) (λ_ _ _ _=>(A0k (i:=0) C5n)) (λ_ _ _ _=>(A0t B1q (pv 0) (pv 1) (by with_unfolding_all rfl))) (λ_ _ _ _=>(pv 0)))
   (A0c (A0m (i:=8) A3i.nd (A3d A4c (pv 7) A4w (A3e (A0x A2a (A0x A2w (pv 4) A0g) A0g))))
   (A3m (A1s (A0t C1k (pcl Gc4 hr T.dg (A0a (A0x A8k (pv 6) (pv 8)) (A0a (pv 5) A0d))) (A0u hu (pv 1) A0o) (A1i _))
    (A0c (A0m (i:=6) A3i.nd (A3d A4c (pv 6) A4w (A3e A0g)))
    (A0f (A0m (i:=8) A3i.nd (A2f A0d))))
    A0s)
   (A3m (A1s (A0t C1k (pcl Gc4 hr T.dg (A0a (pv 6) (A0a (pv 5) A0d))) (A0u hu (pv 1) A0o) (A1i _))
    (A0f (A0m (i:=6) A3i.nd (A2f A0d)))
    A0s)
   (A0c (A4i hu (pv 1) A0o (pv 3) rfl)
   (A0c (A4i hu (A0u hu (pv 1) A0o) (pv 3) (pv 6) rfl)
   (A0c (A0m (i:=9) A3i.nd (pcl Gc1 hr T.fq (A0a (pv 0) (A0a (pv 1) (A0a (A0x A8k (pv 6) (pv 8)) (A0a A0g A0d))))))
   (A0c (A0m (i:=10) A3i.nd (pcl Gc4 hr T.dg (A0a (A0x A8k (pv 6) (pv 8)) (A0a (pv 5) A0d))))
   (A3m (A1s (A0t C1k (A0x C0g (pv 10) (pcl Gb2 hr T.bq (A0a (pv 9) A0d))) (A0u hu (pv 1) A0o) (A1i _))
    (A0f (A0m (i:=9) A3i.nd (A1t (A0a A0o (A0a (A0x A2a (pv 4) (A0x C0r A0g A0g)) A0d)))))
    A0s)
   (A0c (A4i hu (pv 1) A0o (A0q (B9w rfl) (by rfl) T.nU PyProof.Rows.boot_max (A0a A0g (A0a (A0x A7y (A0u hu (pv 1) A0o) (pv 10)) A0d))) rfl)
   (A0c (A4i hu (pv 1) A0o (A0q (B9w rfl) (by rfl) T.nU PyProof.Rows.boot_max (A0a A0g (A0a (A0x A7y (A0u hu (pv 1) A0o) (A0x C0g (pv 10) (pcl Gb2 hr T.bq (A0a (pv 9) A0d)))) A0d))) rfl)
   (A0f (A3c (B0a Z0k Z0n Z0o A3h (A0u hu (pv 1) A0o) (A0a (A1t (A0a (pv 3) (A0a (pv 6) (A0a (pv 8) (A0a (pv 9) A0d))))) A0d)))))))))))))))))),?_⟩
  refine ⟨_,rfl,D,ms,rfl,hD,λc ms1 H1 l1 h1 o1 e1=> ?_⟩;have k1:=A7u hD o1 e1;have a1:=ap.ki k1;have hln1:=k1 _ _ lts.ni hln;refine ⟨_,rfl,ab,_,rfl,a1.get (B1f x),?_⟩;refine ⟨_,rfl,_,rfl,c,nl,nm,rfl,k1.str hnl,lok.few,npos,lok.nd,λys0 p H2 hp s2 hp2 ax0=> ?_⟩;have pln:p≠x.ln:=(A0i hln1 hp).symm;have hnl2:=s2 _ _ (k1.str hnl);refine ⟨_,rfl,nl,rfl,⟨_,SqL.of hnl2⟩,λF hF=> ?_⟩;refine B2m (K:=K) (a:=nl) (D:=F) (xs:=nm.map V.str) (λj vs G=>A0r H2 G/\G F=some (.lst vs)/\vs=((nm.take j).filter λz=>decide (z∉ys0)).map V.str) ⟨A0e hF,A0b,rfl⟩ (by rintro j vs G ⟨s3,_⟩;exact SqL.of (s3 _ _ hnl2)) ?_ ?_
  ·rintro j v vs G hv ⟨s3,h3,rfl⟩;obtain ⟨z,hz,rfl⟩:=A2e hv;have hj:j<nm.length:=(Z03.mp hz).1;refine ⟨⟨rfl,True.intro⟩,_,rfl,_,rfl,p,_,rfl,.inl (SqL.of (s3 _ _ hp2)),rfl,B3b ys0,_,rfl,?_⟩;show if (!inV (V.str z) (ys0.map V.str))=true then _ else _
   rw [C2b];refine D0q (λhn=> ?_) (λhn=> ?_)
   ·refine ⟨_,rfl,h3,A1c (by rw [Z08];have:=List.length_filter_le (λz=>decide (z∉ys0)) (nm.take j);rw [Z0x] at this;lia),A0n s3 hF,A0b,?_⟩;rw [Z14,hz,Z2f,List.filter_append,D6h (f:=λz=>decide (z∉ys0)) (Z20 hn),Z0s];rfl
   ·refine ⟨s3,h3,?_⟩;rw [Z14,hz,Z2f,List.filter_append,D7t (f:=λz=>decide (z∉ys0)) (by simpa using hn),Z0u]
  rintro vs H3 ⟨s3,h3,rfl⟩;rw [Z08,Z18] at h3;have s13:=s2.trans s3;obtain ⟨j,ej⟩:∃j:Nat,c/64%3=(j:Int):=⟨_,(Int.toNat_of_nonneg (Z1v _ (by lia))).symm⟩;refine ⟨_,rfl,_,rfl,_,_,rfl,rfl,⟨by decide,by decide⟩,_,_,rfl,rfl,E3g,_,rfl,F,_,rfl,SqL.of h3,λq hq=> ?_⟩;show B5c 8 (.ref q) _ (upd H3 q (.lst (B5d ((nm.filter λz=>decide (z∉ys0)).map V.str) none (some (c/64%3))))) _;rw [ej,B3j]
  have sm0:E3j nm ys0 ((nm.filter λz=>decide (z∉ys0)).take j):=by
   refine ⟨Z0l.mpr ⟨ax0.nd,(lok.nd.sublist List.filter_sublist).sublist (Z2o _ _),λa ha b hb e=> ?_⟩,λz hz=>(List.mem_filter.mp (Z2p hz)).1,by rw [Z0x];lia⟩;exact (of_decide_eq_true (List.mem_filter.mp (Z2p hb)).2) (e▸ha)
  generalize (nm.filter λz=>decide (z∉ys0)).take j=zs0 at sm0;obtain ⟨H4,sq,hq4,eNH⟩:=nH (o:= .lst (zs0.map V.str)) hq
  try rw [eNH]
  have s14:=s13.trans sq;have k4:=k1.trans (KI.of s14);have qln:q≠x.ln:=(A0i (s13 _ _ hln1) hq).symm;have hp4:=(s3.trans sq) _ _ hp2;have l8y:=ax0.few;have l8z:=sm0.few;have in0:∀z∈ys0++zs0,z∈nm:=λz hz=>(Z07.mp hz).elim (ax0.sub z) (sm0.sub z);refine ⟨λZ G=>∃(pa qa:Addr) (ys zs:List Str),Z=[Sro D,Sro ab,Sro nl,Sso y,Sio c,Sro x.ld,Sro pa,Sro F,Sro qa,none,none]/\A0r H4 G/\pa≠x.ln/\G pa=some (.lst (ys.map V.str))/\qa≠x.ln/\G qa=some (.lst (zs.map V.str))/\AxN nm ys/\E3j nm ys zs/\(A2n ((ys++zs).map L)<=x.left\/zs=[]),?_,?_⟩
  ·refine ⟨_,rfl,_,rfl,p,q,_,_,rfl,rfl,hp4,hq4,A2o (by simp;lia),λr hr'=> ?_⟩;have sr:A0r H4 (upd H4 r (.lst (ys0.map V.str++zs0.map V.str))):=A0e hr';have hr4:upd H4 r (.lst (ys0.map V.str++zs0.map V.str)) r=some (.lst ((ys0++zs0).map V.str)):=by rw [A0b,Z0s]
   generalize upd H4 r (.lst (ys0.map V.str++zs0.map V.str))=H5 at sr hr4;have k5:=k4.trans (KI.of sr);refine ⟨_,rfl,r,x.ld,ys0++zs0,lk,L,rfl,hr4,k5.dk hlk,tel lok _ in0,by rw [Z06];lia,λG sG=> ?_⟩;have s4G:=sr.trans sG;refine ⟨_,rfl,ab,_,rfl,(ap.ki (k5.trans (KI.of sG))).get (C3d x),_,_,rfl,rfl,_,rfl,A3u (λh=> ?_) (λh=> ?_)⟩
   ·refine ⟨_,rfl,_,rfl,p,_,rfl,SqL.of (s4G _ _ hp4),λp' hp'=> ?_⟩;have sp':A0r G (upd G p' (.lst (B5d (ys0.map V.str) none (some 1)))):=A0e hp';have hpp:upd G p' (.lst (B5d (ys0.map V.str) none (some 1))) p'=some (.lst ((ys0.take 1).map V.str)):=by rw [A0b];exact congrArg (λz=>some (HO.lst z)) (B3j (i:=1))
    generalize upd G p' (.lst (B5d (ys0.map V.str) none (some 1)))=G1 at sp' hpp;refine ⟨A0y rfl,λq' hq'=> ?_⟩;have hlnG:=(s14.trans s4G) _ _ hln1;exact ⟨p',q',ys0.take 1,[],rfl,s4G.trans (sp'.trans (A0e hq')),(A0i hlnG hp').symm,A4n hq' hpp,(A0i (sp' _ _ hlnG) hq').symm,A0b,ax0.take 1,⟨by rw [Z0u];exact (ax0.take 1).nd,λz hz=>(nomatch hz),by simp⟩,.inr rfl⟩
   ·have h:¬x.left<prd L (ys0++zs0):=h;rw [C4e] at h;exact ⟨p,q,ys0,zs0,rfl,s4G,pln,s4G _ _ hp4,qln,s4G _ _ hq4,ax0,sm0,.inl (by lia)⟩
  rintro Z H5 ⟨pa,qa,ys1,zs,rfl,s45,pan,hpa,qan,hqa,ax1,sm1,pr1⟩;have l8y1:=ax1.few;refine ⟨λZ G=>∃(pa:Addr) (ys:List Str),Z=[Sro D,Sro ab,Sro nl,Sso y,Sio c,Sro x.ld,Sro pa,Sro F,Sro qa,none,none]/\A0r H5 G/\pa≠x.ln/\G pa=some (.lst (ys.map V.str))/\AxN nm ys/\E3j nm ys zs/\A2n (ys.map L)<=40/\A2n (zs.map L)<=40,?_,?_⟩
  ·have k5:=k4.trans (KI.of s45);have b1:=A7i L1 ax1.sub;have b2:=A7i L1 sm1.sub
   have bz:A2n (zs.map L)<=40:=by
    rcases pr1 with z | z
    ·rw [Z0s,C0q] at z;have:=Int.mul_le_mul_of_nonneg_right b1 (show (0:Int)<=A2n (zs.map L) by lia)
     lia
    ·rw [z];show (1:Int)<=40;decide
   refine ⟨_,rfl,_,rfl,pa,x.ld,ys1,lk,L,rfl,hpa,k5.dk hlk,tel lok _ ax1.sub,by lia,λG sG=> ?_⟩;refine ⟨_,rfl,ab,_,rfl,(ap.ki (k5.trans (KI.of sG))).get (C3d x),_,_,rfl,rfl,_,rfl,A3u (λh=> ?_) (λh=> ?_)⟩
   ·refine ⟨A0y rfl,λp' hp'=> ?_⟩;exact ⟨p',[],rfl,sG.trans (A0e hp'),(A0i (sG _ _ (s45 _ _ (s14 _ _ hln1))) hp').symm,A0b,AxN.nil nm,⟨(Z0l.mp sm1.nd).2.1,sm1.sub,sm1.few⟩,by show (1:Int)<=40;decide,bz⟩
   ·have h:¬x.left<prd L ys1:=h;rw [C4e] at h;exact ⟨pa,ys1,rfl,sG,pan,sG _ _ hpa,ax1,sm1,by lia,bz⟩
  rintro Z H6 ⟨pa,ys,rfl,s56,pan,hpa,axy,sm,py,pz⟩;have s16:=s14.trans (s45.trans s56);have k6:=k1.trans (KI.of s16);have a6:=ap.ki k6;have hqa6:=s56 _ _ hqa;have hln6:=s16 _ _ hln1;have hnl6:=k6.str hnl;have h16:=s16 _ _ h1;refine ⟨_,rfl,_,rfl,ab,_,rfl,B6b.k (k:=Sum.inr "own") a6.d (A1c (by show 7<=1000000;decide)),?_⟩;rw [C6h];have a7:=a6.put (x':={ x with own:=y }) rfl rfl rfl;have q7:KQ x.ln H6 (upd H6 ab (.dK (abK { x with own:=y }))):=KQ.dk a6.d;have n7:∀b u,(∀kvs,u≠.dK kvs)->H6 b=some u->upd H6 ab (.dK (abK { x with own:=y })) b=some u:=λb u n e=>by rw [A0h (A1g e a6.d (n _))];exact e
  have h17:=n7 _ _ (by intro k z;cases z) h16;have hpa7:=n7 _ _ (by intro k z;cases z) hpa;have hqa7:=n7 _ _ (by intro k z;cases z) hqa6;have hln7:=n7 _ _ (by intro k z;cases z) hln6;generalize upd H6 ab (.dK (abK { x with own:=y }))=H7 at a7 q7 n7 h17 hpa7 hqa7 hln7;obtain ⟨ak,hak,ar⟩:=a7.sh;have lak:=Paired.length ar;refine ⟨_,rfl,_,rfl,ab,_,rfl,a7.get (A6x _),_,rfl,x.sh,_,rfl,B6b.k (k:=Sum.inr y) hak (A1c (by lia)),?_⟩;rw [A6i _ (C2z ar fresh)];have n8:∀b u,(∀kvs,u≠.dK kvs)->H7 b=some u->upd H7 x.sh (.dK (ak++[(Sum.inr y,.ref pa)])) b=some u:=λb u n e=>by rw [A0h (A1g e hak (n _))];exact e
  have q8:KQ x.ln H7 (upd H7 x.sh (.dK (ak++[(Sum.inr y,.ref pa)]))):=KQ.dk hak
  have a8:C4v (upd H7 x.sh (.dK (ak++[(Sum.inr y,.ref pa)]))) ab { x with own:=y } L nm (es++[(y,ys)]):=by
   obtain ⟨lk',hlk',lok'⟩:=a7.le;refine ⟨by rw [A0h a7.n1];exact a7.d,⟨lk',by rw [A0h a7.n3.symm];exact hlk',lok'⟩,⟨_,A0b,B1o (Paired.mapP ar ?_) (.cons ⟨rfl,pa,rfl,pan,n8 _ _ (by intro k z;cases z) hpa7⟩ .nil)⟩,a7.n1,a7.n2,a7.n3⟩;rintro _ _ ⟨z1,b,z2,z3,z4⟩;exact ⟨z1,b,z2,z3,n8 _ _ (by intro k z;cases z) z4⟩
  have h18:=n8 _ _ (by intro k z;cases z) h17;have hpa8:=n8 _ _ (by intro k z;cases z) hpa7;have hqa8:=n8 _ _ (by intro k z;cases z) hqa7;have hln8:=n8 _ _ (by intro k z;cases z) hln7;generalize upd H7 x.sh (.dK (ak++[(Sum.inr y,.ref pa)]))=H8 at n8 q8 a8 h18 hpa8 hqa8 hln8;have ok8:D0u L nm (es++[(y,ys)]):=ok.snoc fresh stry axy (by lia) (by lia);have q18:KQ x.ln H H8:=((KQ.of k6).trans q7).trans q8;have l8y2:=axy.few;have l8z2:=sm.few;have in1:∀z∈ys++zs,z∈nm:=λz hz=>(Z07.mp hz).elim (axy.sub z) (sm.sub z);have lyz:(ys++zs).length<=5:=by rw [Z06];lia
  refine ⟨_,rfl,_,rfl,_,rfl,_,rfl,pa,qa,_,_,rfl,rfl,hpa8,hqa8,A2o (by simp;lia),λbl hbl=> ?_⟩;have sb:A0r H8 (upd H8 bl (.lst (ys.map V.str++zs.map V.str))):=A0e hbl;have hb9:upd H8 bl (.lst (ys.map V.str++zs.map V.str)) bl=some (.lst ((ys++zs).map V.str)):=by rw [A0b,Z0s]
  generalize upd H8 bl (.lst (ys.map V.str++zs.map V.str))=H9 at sb hb9;refine ⟨D,ab,bl,ms1,{ x with own:=y },L,nm,es,ys,ys++zs,rfl,sb _ _ h18,a8.ki (KI.of sb),ok8,hb9,in1,by lia,λz hz=>Z05 _ hz,λtv u ms2 H10 tm ki hD10 tr=> ?_⟩
  have tm:B0m L (es++[(y,ys)]) y ys (ys++zs) 6 4 u:=tm;have k810:=(KI.of sb).trans ki;have a10:=a8.ki k810;have hln10:=k810 _ _ lts.ni hln8
  have tr10:A9n (A2t (λb=>b≠x.ln) H10) tv u:=tr.same λb o e=>A1k (λz=>by
   obtain ⟨n,xs,e2⟩:=(A0v e).1 _ (by rw [z];exact sb _ _ hln8)
   exact lts.ni n xs e2) (A0v e).2
  have hpa10:=k810.str hpa8;have hqa10:=k810.str hqa8;refine ⟨_,rfl,_,rfl,pa,qa,_,_,rfl,rfl,hpa10,hqa10,A2o (by simp;lia),λr hr'=> ?_⟩;have sr:A0r H10 (upd H10 r (.lst (ys.map V.str++zs.map V.str))):=A0e hr';have hr4:upd H10 r (.lst (ys.map V.str++zs.map V.str)) r=some (.lst ((ys++zs).map V.str)):=by rw [A0b,Z0s]
  generalize upd H10 r (.lst (ys.map V.str++zs.map V.str))=H11 at sr hr4;have a11:=a10.ki (KI.of sr);obtain ⟨lk11,hlk11,lok11⟩:=a11.le;refine ⟨_,rfl,r,x.ld,ys++zs,lk11,L,rfl,hr4,hlk11,tel lok11 _ in1,by lia,λH12 s12=> ?_⟩;have s1012:=sr.trans s12;have a12:=a11.ki (KI.of s12);have tr12:=tr10.same (A1x s1012);have b1:=A7i L1 axy.sub;have b2:=A7i L1 sm.sub
  have mb:1<=prd L (ys++zs)/\prd L (ys++zs)<=1600:=by
   rw [C4e,Z0s,C0q];have h1:=Int.mul_le_mul py pz (by lia) (by lia);have h2:=Int.mul_le_mul b1 b2 (by lia) (by lia)
   lia
  generalize prd L (ys++zs)=mh at mb;refine ⟨λZ G=>∃(tv:V) (u:Tm),Z=[Sro D,Sro ab,Sro nl,Sso y,Sio c,Sro x.ld,Sro pa,Sro F,Sro qa,some tv,Sio mh]/\A0r H12 G/\A9n (A2t (λb=>b≠x.ln) G) tv u/\B0m L (es++[(y,ys)]) y ys (ys++zs) 6 4 u,?_,?_⟩
  ·refine ⟨_,rfl,_,rfl,tv,u,rfl,tr12.same λb o e=>(A0v e).2,tm.dp,_,_,rfl,rfl,.inl ⟨by lia,by lia⟩,_,rfl,ab,_,rfl,a12.get (C9c _),_,_,rfl,rfl,_,rfl,A3u (λh=> ?_) (λh=> ?_)⟩
   ·refine ⟨_,rfl,_,_,rfl,rfl,⟨by decide,by decide,by decide⟩,_,_,rfl,rfl,D0x,A0y rfl,λp hp=> ?_⟩;exact ⟨.ref p,.num _,rfl,A0e hp,.num (A1k (A0i (s1012 _ _ hln10) hp).symm A0b),B0m.num _ _ _ _ _ _ _ _ (by decide)⟩
   ·exact ⟨tv,u,rfl,A0r.refl _,tr12,tm⟩
  rintro Z H13 ⟨tv,u,rfl,s13',tr13,tm13⟩;have a13:=a12.ki (KI.of s13');have s1013:=s1012.trans s13';have hln13:=s1013 _ _ hln10;have hpa13:=s1013 _ _ hpa10;have hqa13:=s1013 _ _ hqa10;have q13:KQ x.ln H H13:=q18.trans (KQ.of (k810.trans (KI.of s1013)));refine ⟨_,rfl,ab,_,rfl,a13.get (C3d _),_,rfl,_,_,rfl,rfl,_,_,rfl,_,rfl,ab,_,rfl,B6b.k (k:=Sum.inr "left") a13.d (A1c (by show 7<=1000000;decide)),?_⟩;rw [C3b];have l40:(if x.left-mh>0 then x.left-mh else 0)<=40:=by split <;> lia
  generalize (if x.left-mh>0 then x.left-mh else 0)=left' at l40;have a14:=a13.put (x':={ x with own:=y,left:=left' }) rfl rfl rfl;have q14:KQ x.ln H13 (upd H13 ab (.dK (abK { x with own:=y,left:=left' }))):=KQ.dk a13.d;have n14:∀b u,(∀kvs,u≠.dK kvs)->H13 b=some u->upd H13 ab (.dK (abK { x with own:=y,left:=left' })) b=some u:=λb u n e=>by rw [A0h (A1g e a13.d (n _))];exact e
  have hln14:=n14 _ _ (by intro k z;cases z) hln13;have hpa14:=n14 _ _ (by intro k z;cases z) hpa13;have hqa14:=n14 _ _ (by intro k z;cases z) hqa13;have tr14:=tr13.kq q14;generalize upd H13 ab (.dK (abK { x with own:=y,left:=left' }))=H14 at a14 q14 n14 hln14 hpa14 hqa14 tr14;refine ⟨_,rfl,ab,_,rfl,a14.get (C9c _),_,rfl,_,rfl,tv,u,rfl,tr14.same λb o e=>(A0v e).2,tm13.dp,_,_,rfl,rfl,.inl ⟨by lia,by lia⟩,_,_,rfl,rfl,_,_,rfl,_,rfl,ab,_,rfl,B6b.k (k:=Sum.inr "work") a14.d (A1c (by show 7<=1000000;decide)),?_⟩
  rw [C2x];generalize (if x.work-mh*((nod u:Nat):Int)>0 then x.work-mh*((nod u:Nat):Int) else 0)=work';have a15:=a14.put (x':={ x with own:=y,left:=left',work:=work' }) rfl rfl rfl;have q15:KQ x.ln H14 (upd H14 ab (.dK (abK { x with own:=y,left:=left',work:=work' }))):=KQ.dk a14.d;have n15:∀b u,(∀kvs,u≠.dK kvs)->H14 b=some u->upd H14 ab (.dK (abK { x with own:=y,left:=left',work:=work' })) b=some u:=λb u n e=>by rw [A0h (A1g e a14.d (n _))];exact e
  have hln15:=n15 _ _ (by intro k z;cases z) hln14;have hpa15:=n15 _ _ (by intro k z;cases z) hpa14;have hqa15:=n15 _ _ (by intro k z;cases z) hqa14;have tr15:=tr14.kq q15;generalize upd H14 ab (.dK (abK { x with own:=y,left:=left',work:=work' }))=H15 at a15 q15 n15 hln15 hpa15 hqa15 tr15;refine ⟨_,rfl,ab,_,rfl,a15.get (D2j _),.inl ⟨rfl,_,SqL.of hln15⟩,_,rfl,_,rfl,_,rfl,_,rfl,A0y rfl,λq1 hq1=> ?_⟩
  have sq1:A0r H15 (upd H15 q1 (.tup [.str y,.ref pa,.ref qa,tv])):=A0e hq1;have hq1':upd H15 q1 (.tup [.str y,.ref pa,.ref qa,tv]) q1=some (.tup [.str y,.ref pa,.ref qa,tv]):=A0b;generalize upd H15 q1 (.tup [.str y,.ref pa,.ref qa,tv])=H16 at sq1 hq1';have hln16:=sq1 _ _ hln15;refine ⟨x.ln,_,_,rfl,rfl,hln16,A1c (by lia),?_⟩;have q17:KQ x.ln H16 (upd H16 x.ln (.lst (ts++[.ref q1]))):=KQ.at;have nq1:q1≠x.ln:=(A0i hln15 hq1).symm;have lt0:D3s x.ln H16 (.ref q1) ⟨y,ys,zs,u⟩:=⟨q1,pa,qa,tv,rfl,nq1,hq1',pan,sq1 _ _ hpa15,qan,sq1 _ _ hqa15,tr15.same (A1x sq1)⟩;have a16:=a15.ki (KI.of sq1);refine k ys zs u (.ref q1) { x with own:=y,left:=left',work:=work' } _ rfl rfl rfl rfl l40 ?_ ok8 ⟨axy,sm.nd,sm.sub,sm.few,py,pz,tm13⟩ A0b (lt0.kq q17) ((q13.trans (q14.trans q15)).trans ((KQ.of (KI.of sq1)).trans q17));obtain ⟨d,⟨lk',l1',l2'⟩,⟨ak',h1',h2'⟩,n1,n2,n3⟩:=a16;have dn:∀{b:Addr} {kvs:List (Key×V)},H16 b=some (.dK kvs)->upd H16 x.ln (.lst (ts++[.ref q1])) b=some (.dK kvs):=λe=>by rw [A0h (A1g e hln16 (by intro z;cases z))];exact e
  refine ⟨dn d,⟨lk',dn l1',l2'⟩,⟨ak',dn h1',Paired.mapP h2' ?_⟩,n1,n2,n3⟩;rintro _ _ ⟨z1,b,z2,z3,z4⟩;exact ⟨z1,b,z2,z3,by rw [A0h z3];exact z4⟩
def ScF (K:Frag) (H:Hp) (a:Addr) (xs:List V):Prop:=(∃o,H a=some (.frz o (.lst xs)))\/∀H',SqL K H' a xs
theorem ScF.mk (o:E1u H) (s:SqL K H a xs):ScF K H a xs:=by
 rcases s with (h | ⟨o',h⟩) | h
 ·rcases o a with z | ⟨o',ys,z⟩
  ·rw [h] at z;cases z
  ·rw [h] at z;cases z
 ·exact .inl ⟨o',h⟩
 ·exact .inr λH'=> .inr h
theorem ScF.sq (s:ScF K H a xs):SqL K H a xs:=by
 rcases s with ⟨o,h⟩ | h
 ·exact .inl (.inr ⟨o,h⟩)
 ·exact h H
theorem ScF.keep (s:ScF K H a xs) (f:∀o,H a=some (.frz o (.lst xs))->H' a=some (.frz o (.lst xs))):ScF K H' a xs:=by
 rcases s with ⟨o,h⟩ | h
 ·exact .inl ⟨o,f o h⟩
 ·exact .inr h
def KF (H G:Hp):Prop:=∀b o u,H b=some (.frz o u)->G b=some (.frz o u)
theorem KF.ki (f:KF H G) (k:KI G G'):KF H G':=λb o u e=>k _ _ (by intro n ys z;cases z) (f b o u e)
theorem KF.dk (f:KF H G) (h:G b=some (.dK kvs)):KF H (upd G b o):=λc o' u e=>by rw [A0h (A1g (f c o' u e) h (by intro z;cases z))];exact f c o' u e
theorem KF.kq (f:KF H G) (k:KQ ln G G') (h:G ln=some (.lst ts)):KF H G':=λc o' u e=>k _ _ (A1g (f c o' u e) h (by intro z;cases z)) True.intro (f c o' u e)
theorem ScF.kf (s:ScF K H a xs) (f:KF H G):ScF K G a xs:=s.keep λo e=>f _ _ _ e
theorem ScF.ki (s:ScF K H a xs) (k:KI H H'):ScF K H' a xs:=s.keep λo e=>k _ _ (by intro n ys z;cases z) e
theorem ScF.dk (s:ScF K H a xs) (h:H b=some (.dK kvs)):ScF K (upd H b o) a xs:=s.keep λo e=>by rw [A0h (A1g e h (by intro z;cases z))];exact e
theorem A8w {α:Type} (f:α->V) (nm:List α) (lo hi:Option Int):∃zs:List α,B5d (nm.map f) lo hi=zs.map f/\zs.length<=nm.length/\∀x∈zs,x∈nm:=by
 refine ⟨(nm.drop (HT.sIx nm.length 0 lo)).take (HT.sIx nm.length nm.length hi-HT.sIx nm.length 0 lo),?_,?_,λx hx=> ?_⟩
 ·unfold B5d;rw [Z08,<-List.map_drop,<-List.map_take]
 ·rw [Z0x,Z19];lia
 ·exact List.mem_of_mem_drop (Z2p hx)
theorem B7b {k:Key} (h:k∉kvs.map (·.1)):A1y kvs k=none:=by
 induction kvs with
 | nil=>rfl
 | cons p r ih =>
  rw [Z0p,Z0e] at h;rw [A2g (λz=>h (.inl z.symm))];exact ih λz=>h (.inr z)
theorem B7c:∀(more acc:List (Key×V)),((acc++more).map (·.1)).Nodup->A4g acc more=acc++more
 | [],acc,_=>by rw [Z0u];rfl
 | p::r,acc,h=>by
  have h1:p.1∉acc.map (·.1):=λz=>by
   rw [Z0s,Z0l] at h;exact h.2.2 _ z p.1 (List.mem_map_of_mem (.head _)) rfl
  show A4g (A3v acc p.1 p.2) r=acc++p::r;rw [A6i _ (B7b h1),B7c r (acc++[(p.1,p.2)]) (by rw [Z0z];exact h),Z0z];rfl
theorem D5v {v:Int} (h:y∈nm):A3v (nm.map λz=>((Sum.inr z:Key),V.int (L z))) (Sum.inr y) (.int v)=nm.map λz=>((Sum.inr z:Key),V.int (if z=y then v else L z)):=by
 unfold A3v;rw [Z12 (by rw [A4b,C2e h];rfl),List.map_map];refine List.map_congr_left λz _=> ?_;by_cases e:z=y
 ·subst e;simp
 ·have:¬(Sum.inr z:Key)=Sum.inr y:=λq=>e (Sum.inr.inj q);simp [e,this]
def ab6 (ld sh ln:Addr) (left:Int):List (Key×V):=[(Sum.inr "lengths",.ref ld),(Sum.inr "shapes",.ref sh),(Sum.inr "own",.str ""),(Sum.inr "lines",.ref ln),(Sum.inr "left",.int left),(Sum.inr "work",.int 1500)]
theorem C8n (ld sh ln:Addr) (left:Int):A4g [] (ab6 ld sh ln left)=ab6 ld sh ln left:=B7c _ [] (by show ((["lengths","shapes","own","lines","left","work"]:List Str).map (Sum.inr:Str->Key)).Nodup;decide +kernel)
local macro_rules | `(tactic| walk_at "abn") => `(tactic| first | rfl | (refine (E2z (by decide +kernel)).trans ?_; walk_at "abn"))
theorem D5h (ld sh ln tb:Addr) (left:Int):A3v (ab6 ld sh ln left) (Sum.inr "tables") (.ref tb)=abK ⟨ld,sh,"",ln,left,1500,tb⟩:=A6i _ (by unfold ab6;walk_at "abn")
theorem B5y (ld sh ln:Addr) (left:Int):A1y (ab6 ld sh ln left) (Sum.inr "shapes")=some (.ref sh):=by unfold ab6;walk_at "ab"
def abF (x:Abt) (ol:Addr):List (Key×V):=abK x++[((Sum.inr "outs":Key),V.ref ol)]
theorem D4w (x:Abt) (ol:Addr):A3v (abK x) (Sum.inr "outs") (.ref ol)=abF x ol:=A6i _ (by unfold abK;walk_at "abn")
structure AbF (H:Hp) (ab:Addr) (x:Abt) (ol:Addr) (L:Str->Int) (nm:List Str) (es:List (Str×List Str)) (tb:List Str) (rows:List LnM) (os:List Str):Prop where
 d:H ab=some (.dK (abF x ol))
 le:∃lk,H x.ld=some (.dK lk)/\B2i lk L nm
 sh:∃ak,H x.sh=some (.dK ak)/\AR (λb=>b≠x.ln) H ak es
 li:∃ts,H x.ln=some (.lst ts)/\Paired (D3s x.ln H) ts rows
 ta:H x.tb=some (.lst (tb.map V.str))
 ou:H ol=some (.lst (os.map V.str))
 n1:ab≠x.sh
 n2:ab≠x.ld
 n3:x.sh≠x.ld
structure A9i (L:Str->Int) (nm:List Str) (es:List (Str×List Str)) (tb:List Str) (T:Nat) (rows:List LnM) (os:List Str):Prop where
 eo:D0u L nm es
 tl:tb.length<=20
 len:es.length=T+rows.length
 row:∀k e,rows[k]? =some e->es[T+k]? =some (e.nm,e.own)/\C0j L nm (es.take (T+k+1)) e
 oi:∀o∈os,o∈es.map (·.1)
 fo:os.length<=2
 fr:rows.length<=5
 pos:1<=rows.length
inductive B8z (K:Frag) (vs:List V) (H:Hp) (Q:VK):Prop
 | mk (a:Addr) (ns:List Int) (_:vs=[.ref a,.int 40]) (_:ScF K H a (ns.map V.int)) (_:ns.length<=63) (_:∀(ab:Addr) (x:Abt) (ol:Addr) (L:Str->Int) (nm:List Str) (es:List (Str×List Str)) (tb:List Str) (T:Nat) (rows:List LnM) (os:List Str) (H':Hp),AbF H' ab x ol L nm es tb rows os->A9i L nm es tb T rows os->(∀o u,H x.sh≠some (.frz o u))->ScF K H' a (ns.map V.int)->Q (.ref ab) H'):B8z K vs H Q
def D2p (K:Frag):Sp:=λvs H Q _=>B8z K vs H Q
def nm5:List Str:=["i","j","k","m","n"]
def tn3:List Str:=["ta","tb","tc"]
def an5:List Str:=["a","b","s0","d","e"]
theorem D8s:∀y∈nm5,y≠""/\PyData.strOk y=true:=by
 have h:nm5.all (λy=> !decide (y="")&&PyData.strOk y)=true:=by decide +kernel
 intro y hy;have:=List.all_eq_true.mp h y hy;rw [Z1x] at this;exact ⟨λz=>by (rw [Z20 z] at this;cases this.1),this.2⟩
theorem D9i:nm5.Nodup:=by decide +kernel
theorem C4a:(tn3++an5).Nodup/\∀y∈tn3++an5,PyData.strOk y=true:=by
 refine ⟨by decide +kernel,?_⟩;have h:(tn3++an5).all (λy=>PyData.strOk y)=true:=by decide +kernel
 exact λy hy=>List.all_eq_true.mp h y hy
structure TbS (H G:Hp) (N ld ab shd lnl:Addr) (nm:List Str) (L:Str->Int) (es:List (Str×List Str)):Prop where
 kf:KF H G
 hN:G N=some (.lst (nm.map V.str))
 hld:G ld=some (.dK (nm.map λy=>((Sum.inr y:Key),V.int (L y))))
 hab:G ab=some (.dK (ab6 ld shd lnl 40))
 hsh:∃ak,G shd=some (.dK ak)/\AR (λb=>b≠lnl) G ak es
 hln:G lnl=some (.lst [])
theorem TbS.ki {N ld shd lnl:Addr} (h:TbS H G N ld ab shd lnl nm L es) (k:KI G G'):TbS H G' N ld ab shd lnl nm L es:=by
 obtain ⟨ak,h1,h2⟩:=h.hsh;exact ⟨h.kf.ki k,k.str h.hN,k.dk h.hld,k.dk h.hab,⟨ak,k.dk h1,Paired.mapP h2 (by rintro _ _ ⟨z1,b,z2,z3,z4⟩;exact ⟨z1,b,z2,z3,k.str z4⟩)⟩,k _ _ (by intro n xs z;cases z) h.hln⟩
theorem D2d (ok:∀y∈nm,1<=L y/\L y<=60) (h:∀y∈ys,y∈nm):A2n ((ys.take 1).map L)<=60:=by
 cases ys with
 | nil=>show (1:Int)<=60;decide
 | cons y r =>
  show 1*L y<=60;have:=ok y (h y (.head _))
  lia
theorem C3w:∀{zs:List V},(∀z∈zs,∃i,z=V.int i)->∃ms:List Int,zs=ms.map V.int
 | [],_=>⟨[],rfl⟩
 | z::r,h=>by
  obtain ⟨i,rfl⟩:=h z (.head _);obtain ⟨ms,rfl⟩:=C3w (zs:=r) λy hy=>h y (.tail _ hy);exact ⟨i::ms,rfl⟩
structure LnS (H G:Hp) (N ab lnl:Addr) (x:Abt) (nm:List Str) (L:Str->Int) (T i:Nat) (es:List (Str×List Str)) (rows:List LnM) (tb:List Str) (ts:List V):Prop where
 at_:C4v G ab x L nm es
 ok:D0u L nm es
 left:x.left<=40
 hln:G lnl=some (.lst ts)
 hts:Paired (D3s lnl G) ts rows
 lr:rows.length=i
 les:es.length=T+i
 en:es.map (·.1)=tn3.take T++an5.take i
 row:∀k e,rows[k]? =some e->es[T+k]? =some (e.nm,e.own)/\C0j L nm (es.take (T+k+1)) e
 hN:G N=some (.lst (nm.map V.str))
 hD:G x.tb=some (.lst (tb.map V.str))
 kf:KF H G
theorem D9z (h:Paired (D3s ln G) ts rows):LT (.lst ts):=by
 cases h with
 | nil=>exact True.intro
 | cons a _ =>
  obtain ⟨b,_,_,_,rfl,_⟩:=a;exact True.intro
theorem LnS.ki {N lnl:Addr} {x:Abt} (h:LnS H G N ab lnl x nm L T i es rows tb ts) (k:KI G G'):LnS H G' N ab lnl x nm L T i es rows tb ts :=
 ⟨h.at_.ki k,h.ok,h.left,k _ _ (D9z h.hts).ni h.hln,Paired.mapP h.hts λ_ _ z=>z.kq (KQ.of k),h.lr,h.les,h.en,h.row,k.str h.hN,k.str h.hD,h.kf.ki k⟩
theorem C6c (T:Txt K mg t):FO P w base T.ij 14 (D2p K):=by
 have Gc3:= @C0l P w K mg base t T;have Gc0:= @B0h P w K mg base t T;have Gc5:= @C1v P w K mg base t T;have Gc6:= @C9t P w K mg base t T;have Gc4:= @B8m P w K mg base t T;refine T.ij.F.ok A1r (by walk_at "ln") λ_ A _ s H _ Q E hr h=> ?_
 ·obtain ⟨a,ns,rfl,sc,hn,k⟩:=h;have hu:=A6c hr
  refine ⟨_,(A0c (A0m (i:=2) A1r.nd (A3d A4c (pv 0) A4w (A3e A0g)))
   (A0c (A3c (B6d Z0k PySem.F.slot_list_reverse PySem.F.type_list_reverse B5o (pv 2)))
   (A0c (A0m (i:=3) A1r.nd (A3d A4c (A2f (A0a A0o (A0a A0o (A0a A0o (A0a A0o (A0a A0o A0d)))))) A4w (A3e (A0x A4a A0g (A0x A2a (pcl Gc0 hr T.bd (A0a (pv 2) A0d)) A0g)))))
   (A0c (A0m (i:=4) A1r.nd A8z)
   (A0c (A0m (i:=5) A1r.nd (pcl Gc0 hr T.bd (A0a (pv 2) A0d)))
   (A0c (A1o (A1n (pv 3)) (A0k (i:=6) A1r.nd)
    (A0f (A4i hu (pv 4) (pv 6) (A0x A4a A0g (A0x A2a (pcl Gc0 hr T.bd (A0a (pv 2) A0d)) A0g)) rfl)))
   (A3m (A1s (A0t A3f (A0x A2a (pv 5) A0g) A0g (A1i _))
    (A0f (A4i hu (pv 4) (A1b A1l (pv 3) (A0x A2a (A0x A2w (pv 5) A0g) (A0q A0z (by rfl) T.au Z0r (A0a (pv 3) A0d)))) (A0x A4a A0g (A0x A2a (A0x A2w (pv 5) A0g) A0g)) rfl))
    A0s)
   (A0c (A0m (i:=7) A1r.nd (D5n (A9h A0o (pv 4) (A9h A0o A8z (A9h A0o A0o (A9h A0o (A2f A0d) (A9h A0o (pv 1) (A9h A0o A0g D7w)))))) rfl rfl (by simp) (by decide)))
   (A0c (A1o (A4j rfl T.bo (A0a (A0x A2a (A0x A2w (pv 5) A0g) A0g) A0d)) (A0k (i:=8) A1r.nd)
    (A0c (A0m (i:=9) A1r.nd (pcl Gc3 hr T.i7 (A0a (pcl Gc0 hr T.bd (A0a (pv 2) A0d)) (A0a (pv 3) A0d))))
    (A3m (A1s (A0t C1k (pcl Gc4 hr T.dg (A0a (pv 9) (A0a (pv 4) A0d))) A0g (A1i _))
     (A0f (A0m (i:=9) A1r.nd (A3d A4c (pv 9) A4w (A3e A0g))))
     A0s)
    (A0f (A4i hu (A0u hu (pv 7) A0o) (A1b A1l (A2f (A0a A0o (A0a A0o (A0a A0o A0d)))) (pv 8)) (pv 9) rfl)))))
   (A0c (A4i hu (pv 7) A0o (C4n (A3n (N':=["_law_name"]) (ix:=(List.replicate 1 none)) rfl (A2x rfl (by decide +kernel) (by decide +kernel)) (A2y rfl) (B7i (A0u hu (pv 7) A0o)) (λ_ _ _ _=>(A0k (i:=0) B5x)) (λ_ _ _ _=>(pv 0)))) rfl)
   (A0c (A0m (i:=10) A1r.nd (A0x A4a A0g (A0x A2a (pcl Gc0 hr T.bd (A0a (pv 2) A0d)) A0g)))
   (A0c (A1o (A4j rfl T.bo (A0a (pv 10) A0d)) (A0k (i:=8) A1r.nd)
    (A0c (A0m (i:=11) A1r.nd (A3d A4c (C9u (A3d A4c (pv 0) (A3e A0g) A4w) (A3e (pv 8)) A4w (pv 10)) A4w (A3e A0g)))
    (A3m (A1s (A0t A3f (A0x A2a (A0x A2w (A0q (B0n rfl) (by rfl) T.lY PyProof.Rows.boot_sum (A0a (A3d A4c (pv 0) (A3e A0g) (A3e A0g)) A0d)) A0g) A0g) A0g (A1i _))
     (A0f (A0m (i:=11) A1r.nd (pcl Gc5 hr T.gx (A0a (A0q (B0n rfl) (by rfl) T.lY PyProof.Rows.boot_sum (A0a (A3d A4c (pv 11) A4w (A3e A0g)) A0d)) (A0a A0g A0d)))))
     A0s)
    (A0c (A3c (B6d Z0k PySem.F.slot_list_reverse PySem.F.type_list_reverse B5o (pv 11)))
    (A0f (A3c (pcl Gc6 hr T.ji (A0a (pv 11) (A0a (pv 7) (A0a (pv 3) (A0a (A1b A1l (A2f (A0a A0o (A0a A0o (A0a A0o (A0a A0o (A0a A0o A0d)))))) (pv 8)) A0d)))))))))))
   (A0c (A0m (i:=12) A1r.nd (A0q B3x (by rfl) T.au Z0r (A0a (A0u hu (pv 7) A0o) A0d)))
   (A0c (A0m (i:=13) A1r.nd (A0x A2a (A0x A2w (A0q (B0n rfl) (by rfl) T.lY PyProof.Rows.boot_sum (A0a (A3d A4c (pv 0) A4w (A3e A0g)) A0d)) A0g) (pv 12)))
   (A0c (A0m (i:=14) A1r.nd (A0x A4a A0g (A0x A2a (A0x A2w (A0q (B0n rfl) (by rfl) T.lY PyProof.Rows.boot_sum (A0a (A3d A4c (pv 0) (A3e A0g) (A3e A0g)) A0d)) A0g) A0g)))
   (A0c (A0m (i:=15) A1r.nd (C4n (A3n (N':=["_law_name"]) (ix:=(List.replicate 1 none)) rfl (A2x rfl (by decide +kernel) (by decide +kernel)) (A2y rfl) (B7i (A0u hu (pv 7) A0o)) (λ_ _ _ _=>(A0k (i:=0) B5x)) (λ_ _ _ _=>(pv 0)))))
   (A0c (A4i hu (pv 7) A0o (A3n (N':=["_law_j","_law_arrays","_law_many_here","_law_start"]) (ix:=(List.replicate 1 none++[some 15,some 12,some 13])) rfl (A8r (cl:=[("_law_start",_),("_law_many_here",_),("_law_arrays",_)]) (xs:=["_law_start","_law_many_here","_law_arrays"]) rfl ⟨rfl,rfl,rfl,trivial⟩ rfl rfl (by decide +kernel) (by decide +kernel)) (A8n (N0:=["_law_j"]) (xs:=["_law_arrays","_law_many_here","_law_start"]) (js:=[15,12,13]) ⟨⟨rfl,Or.inl rfl,(by walk_at "ix")⟩,⟨rfl,Or.inl rfl,(by walk_at "ix")⟩,⟨rfl,Or.inl rfl,(by walk_at "ix")⟩,trivial⟩) (A4j rfl T.bo (A0a (A0q (C0k rfl) (by rfl) T.nW PyProof.Rows.boot_min (A0a (pv 14) (A0a (pv 12) A0d))) A0d)) (λ_ _ _ _=>(A0k (i:=0) C5g)) (λ_ _ _ _=>(A1b (C4f (K:=K) rfl) (pv 1) (A0x A7y (A0x A7y (pv 2) A0g) (A0x A2a (A0x A4a (pv 3) (pv 0)) (pv 2)))))) rfl)
   (A0f (A0p (pv 7)))))))))))))))))))),?_⟩
  obtain ⟨zs0,ez,lz,_⟩:=A8w V.int ns none (some 10);refine ⟨_,rfl,_,rfl,a,_,rfl,sc.sq,λr hr0=> ?_⟩;rw [ez];refine ⟨_,rfl,.inl ⟨rfl,_,SqL.of A0b⟩,r,_,rfl,rfl,A0b,?_⟩;rw [B0c,<-List.map_reverse];obtain ⟨H1,s1,h1,eNH⟩:=nH (o:= .lst (zs0.reverse.map V.int)) hr0
  try rw [eNH]
  generalize zs0.reverse=ms1 at h1;have k1:KI H H1:=KI.of s1;refine ⟨A0y rfl,λz0 hz0=> ?_⟩;have sz:A0r H1 (upd H1 z0 (.lst [V.str "i",.str "j",.str "k",.str "m",.str "n"])):=A0e hz0;have hz1:upd H1 z0 (.lst [V.str "i",.str "j",.str "k",.str "m",.str "n"]) z0=some (.lst (nm5.map V.str)):=A0b;generalize upd H1 z0 (.lst [V.str "i",.str "j",.str "k",.str "m",.str "n"])=H2 at sz hz1;have h2:=sz _ _ h1;refine ⟨_,rfl,r,ms1,rfl,h2,λc0 ms2 H3 _ h3 o3 e3=>⟨_,_,rfl,rfl,E3i,_,_,rfl,rfl,?_⟩⟩;have k23:=A7u h2 o3 e3;obtain ⟨kk,ekk,kk1,kk5⟩:∃m:Nat,1+c0%5=(m:Int)/\1<=m/\m<=5:=⟨(1+c0%5).toNat,by lia,by lia,by lia⟩;dsimp only;rw [ekk];refine ⟨_,rfl,z0,_,rfl,SqL.of (k23.str hz1),λN hN=> ?_⟩;rw [B3j];generalize hnm:nm5.take kk=nm;have nml:nm.length=kk:=by rw [<-hnm,Z0x];show min kk 5=kk;lia
  have nmnd:nm.Nodup:=by rw [<-hnm];exact D9i.sublist (Z2o _ _)
  have nmok:∀y∈nm,y≠""/\PyData.strOk y=true:=λy hy=>D8s y (by rw [<-hnm] at hy;exact Z2p hy);obtain ⟨H4,s4,hN4,eNH⟩:=nH (o:= .lst (nm.map V.str)) hN
  try rw [eNH]
  have h4:=s4 _ _ h3;refine λld hld=> ?_;obtain ⟨H5,s5,hld5,eNH⟩:=nH (o:= .dK []) hld
  try rw [eNH]
  refine ⟨_,rfl,r,ms2,rfl,s5 _ _ h4,λc ms3 H6 _ h6 o6 e6=> ?_⟩;have k56:=A7u (s5 _ _ h4) o6 e6;have k06:KI H H6:=k1.trans ((KI.of sz).trans (k23.trans ((KI.of (s4.trans s5)).trans k56)));have hN6:=k56.str (s5 _ _ hN4);have hld6:=k56.dk hld5;refine ⟨_,rfl,N,rfl,⟨_,SqL.of hN6⟩,?_⟩
  refine A1v (K:=K) (a:=N) (xs:=nm.map V.str) (λi Z G=>∃(o6:Option V) (ms:List Int) (L:Str->Int),Z=[Sro a,Sio 40,Sro r,Sro N,Sro ld,Sio c,o6,none,none,none,none,none,none,none,none,none]/\KF H G/\G r=some (.lst (ms.map V.int))/\G N=some (.lst (nm.map V.str))/\G ld=some (.dK ((nm.take i).map λy=>((Sum.inr y:Key),V.int (L y))))/\∀y∈nm.take i,1<=L y/\L y<=60)
   ⟨none,ms3,λ_=>1,rfl,(show KF H H from λ_ _ _ e=>e).ki k06,h6,hN6,hld6,by intro y hy;cases hy⟩ (by rintro i Z G _ ⟨_,_,_,_,_,_,h,_⟩;exact SqL.of h) ?_ ?_
  ·rintro i v Z G hv ⟨o6,ms,L,rfl,kfG,hr,hNG,hldG,okL⟩;walk_at "g";obtain ⟨y,hy,rfl⟩:=A2e hv;have hi:i<nm.length:=(Z03.mp hy).1;refine ⟨_,rfl,r,ms,rfl,hr,λc2 ms' G2 _ hr2 o2 e2=> ?_⟩;have kG:=A7u hr o2 e2;have hld2:=kG.dk hldG;refine ⟨_,_,rfl,rfl,D8f,_,_,rfl,rfl,_,rfl,_,rfl,ld,_,rfl,B6b.k (k:=Sum.inr y) hld2 (A1c (by rw [Z08,Z0x];lia)),?_⟩
   have hny:y∉nm.take i:=λz=>by
    obtain ⟨j,hj⟩:=List.getElem?_of_mem z;have hji:j<i:=by have:=(Z03.mp hj).1;rw [Z0x] at this;lia
    rw [List.getElem?_take_of_lt hji] at hj;have:=(List.getElem?_inj (by lia) nmnd).mp (hj.trans hy.symm)
    lia
   rw [A6i _ (B7b (by rw [List.map_map];intro z;obtain ⟨q,hq,e⟩:=Z2c.mp z;exact hny (by rw [<-Sum.inr.inj e];exact hq)))];have ap:∀{b:Addr} {u:HO},(∀kvs,u≠.dK kvs)->∀{o:HO},G2 b=some u->upd G2 ld o b=some u:=λn o e=>by rw [A0h (A1g e hld2 (n _))];exact e
   refine ⟨_,ms',λz=>if z=y then 1+c2%4 else L z,rfl,(kfG.ki kG).dk hld2,ap (by intro k z;cases z) hr2,ap (by intro k z;cases z) (kG.str hNG),?_,?_⟩
   ·rw [A0b,Z14,hy,Z2f,Z0s];have e1:(nm.take i).map (λz=>((Sum.inr z:Key),V.int (L z)))=(nm.take i).map λz=>((Sum.inr z:Key),V.int (if z=y then 1+c2%4 else L z)):=List.map_congr_left λz hz=>by rw [Z0t (λ(e:z=y)=>hny (e▸hz))]
    rw [e1];simp
   ·intro z hz;rw [Z14,hy,Z2f] at hz;dsimp only;by_cases e:z=y
    ·rw [Z12 e];lia
    ·rw [Z0t e];exact okL z ((Z07.mp hz).resolve_right λq=>e (Z0w.mp q))
  rintro Z H7 ⟨o6',ms4,L0,rfl,kf7,h7,hN7,hld7,okL0⟩;rw [Z08,Z18] at hld7 okL0;refine ⟨λZ G=>∃L:Str->Int,Z=[Sro a,Sio 40,Sro r,Sro N,Sro ld,Sio c,o6',none,none,none,none,none,none,none,none,none]/\KF H G/\G r=some (.lst (ms4.map V.int))/\G N=some (.lst (nm.map V.str))/\G ld=some (.dK (nm.map λy=>((Sum.inr y:Key),V.int (L y))))/\∀y∈nm,1<=L y/\L y<=60,?_,?_⟩
  ·refine ⟨_,rfl,_,_,rfl,rfl,D8f,rfl,_,rfl,A3u (λ_=> ?_) (λ_=>⟨L0,rfl,kf7,h7,hN7,hld7,okL0⟩)⟩;obtain ⟨y,hy,ey⟩:=A8o (f:=V.str) (xs:=nm) (i:=c/4%(nm.length:Int)) (Z1v _ (by lia)) (Z1p _ (by lia));refine ⟨_,rfl,_,_,rfl,rfl,⟨by decide,by decide⟩,_,_,rfl,rfl,E2s,_,_,rfl,rfl,_,rfl,_,rfl,_,rfl,_,_,rfl,rfl,⟨by decide,by decide⟩,_,rfl,N,_,rfl,.inl (SqL.of hN7),_,_,rfl,rfl,(by show (0:Int)<((nm.map V.str).length:Int);rw [Z08];lia),N,_,_,_,rfl,rfl,SqL.of hN7,(by rw [Z08];exact ey),ld,_,rfl,B6b.k (k:=Sum.inr y) hld7 (A1c (by rw [Z08];lia)),?_⟩;have ym:=Z13 hy;have e2:=D5v (L:=L0) (v:=1+c/20%15) ym;have ap:∀{b:Addr} {u:HO},(∀kvs,u≠.dK kvs)->∀{o:HO},H7 b=some u->upd H7 ld o b=some u:=λn o e=>by rw [A0h (A1g e hld7 (n _))];exact e
   refine ⟨λz=>if z=y then 1+c/20%15 else L0 z,rfl,kf7.dk hld7,ap (by intro k z;cases z) h7,ap (by intro k z;cases z) hN7,by rw [A0b];exact congrArg (λz=>some (HO.dK z)) e2,λz hz=> ?_⟩;dsimp only;by_cases e:z=y
   ·rw [Z12 e];lia
   ·rw [Z0t e];exact okL0 z hz
  rintro Z H8 ⟨L,rfl,kf8,h8,hN8,hld8,okL⟩;clear okL0 hld7 hN7 h7 kf7;have lok:B2i (nm.map λy=>((Sum.inr y:Key),V.int (L y))) L nm:=⟨rfl,nmnd,by lia,λy hy=>⟨(okL y hy).1,(okL y hy).2,nmok y hy⟩⟩;have tel:∀ys:List Str,(∀y∈ys,y∈nm)->D6z (nm.map λy=>((Sum.inr y:Key),V.int (L y))) L ys:=λys hs y hy=>⟨lok.val (hs y hy),by have:=okL y (hs y hy);lia,(okL y (hs y hy)).2⟩;refine λab hab=> ?_;obtain ⟨H9,s9,hab9,eNH⟩:=nH (o:= .dK []) hab;have abld:ab≠ld:=(A0i hld8 hab).symm
  try rw [eNH]
  refine ⟨_,rfl,λshd hshd=> ?_⟩;obtain ⟨H10,s10,hsh10,eNH⟩:=nH (o:= .dK []) hshd;have absh:ab≠shd:=A0i hab9 hshd;have shld:shd≠ld:=(A0i (s9 _ _ hld8) hshd).symm
  try rw [eNH]
  refine ⟨A0y rfl,λlnl hlnl=> ?_⟩;obtain ⟨H11,s11,hln11,eNH⟩:=nH (o:= .lst []) hlnl;have Nln:N≠lnl:=A0i ((s9.trans s10) _ _ hN8) hlnl
  try rw [eNH]
  have hab11:=(s10.trans s11) _ _ hab9;refine ⟨_,rfl,hab11,ab6 ld shd lnl 40,rfl,by show 6<=15;decide,?_⟩;rw [C8n];have s811:=s9.trans (s10.trans s11);have up:∀{b:Addr} {u:HO},b≠ab->∀{o:HO},H11 b=some u->upd H11 ab o b=some u:=λn o e=>by rw [A0h n];exact e
  have tb12:TbS H (upd H11 ab (.dK (ab6 ld shd lnl 40))) N ld ab shd lnl nm L []:=⟨(kf8.ki (KI.of s811)).dk hab11,up (A1g (s811 _ _ hN8) hab11 (by intro z;cases z)) (s811 _ _ hN8),up abld.symm (s811 _ _ hld8),A0b,⟨[],up absh.symm (s11 _ _ hsh10),.nil⟩,up (A1g hln11 hab11 (by intro z;cases z)) hln11⟩;have h12:upd H11 ab (.dK (ab6 ld shd lnl 40)) r=some (.lst (ms4.map V.int)):=up (A1g (s811 _ _ h8) hab11 (by intro z;cases z)) (s811 _ _ h8);generalize upd H11 ab (.dK (ab6 ld shd lnl 40))=H12 at tb12 h12;have hshH:∀o u,H shd≠some (.frz o u):=λo u z=>by have:=(kf8.ki (KI.of s9)) _ _ _ z;rw [hshd] at this;cases this
  clear s811 up hab11 s11 hln11 hlnl s10 hsh10 hshd s9 hab9 hab hld8 hN8 h8 kf8;obtain ⟨tn,etn,tn3'⟩:∃m:Nat,c/2%4=(m:Int)/\m<=3:=⟨(c/2%4).toNat,by lia,by lia⟩;refine ⟨_,rfl,_,_,rfl,rfl,⟨by decide,by decide⟩,_,_,rfl,rfl,D8f,_,rfl,(by lia),(by lia),?_⟩;rw [show (c/2%4:Int)=(tn:Int) from etn]
  refine A7e (n:=tn) (λi Z G=>∃(o8 o9:Option V) (ms:List Int) (es:List (Str×List Str)),Z=[Sro a,Sio 40,Sro r,Sro N,Sro ld,Sio c,o6',Sro ab,o8,o9,none,none,none,none,none,none]/\G r=some (.lst (ms.map V.int))/\TbS H G N ld ab shd lnl nm L es/\D0u L nm es/\es.map (·.1)=tn3.take i)
   ⟨none,none,ms4,[],rfl,h12,tb12,⟨List.nodup_nil,λe he=>(nomatch he),λe he=>(nomatch he),by simp,λe he=>(nomatch he)⟩,rfl⟩ ?_ ?_
  ·rintro i Z G hi ⟨o8,o9,ms,es,rfl,hr,tb,ok,en⟩;walk_at "g";rw [Int.zero_add];refine ⟨_,rfl,r,ms,rfl,hr,λc2 ms' G2 _ hr2 o2 e2=> ?_⟩;have kG:=A7u hr o2 e2;have tb2:=tb.ki kG;refine ⟨_,rfl,c2,N,nm,rfl,tb2.hN,by lia,by lia,nmnd,λys p G3 hp s3 hp3 ax=> ?_⟩;have tb3:=tb2.ki (KI.of s3);have pln:p≠lnl:=(A0i tb2.hln hp).symm;have lax:=ax.few;refine ⟨λZ G4=>∃(p:Addr) (ys:List Str),Z=[Sro a,Sio 40,Sro r,Sro N,Sro ld,Sio c,o6',Sro ab,Sio (i:Nat),Sro p,none,none,none,none,none,none]/\A0r G3 G4/\p≠lnl/\G4 p=some (.lst (ys.map V.str))/\AxN nm ys/\A2n (ys.map L)<=60,?_,?_⟩
   ·refine ⟨_,rfl,_,rfl,p,ld,ys,_,L,rfl,hp3,tb3.hld,tel _ ax.sub,by lia,λG4 s4=>⟨_,_,rfl,rfl,_,rfl,A3u (λh=> ?_) (λh=> ?_)⟩⟩
    ·refine ⟨_,rfl,_,rfl,p,_,rfl,SqL.of (s4 _ _ hp3),λp' hp'=> ?_⟩;exact ⟨p',ys.take 1,rfl,s4.trans (A0e hp'),(A0i (s4 _ _ tb3.hln) hp').symm,by rw [A0b];exact congrArg (λz=>some (HO.lst z)) (B3j (i:=1)),ax.take 1,D2d okL ax.sub⟩
    ·have h:¬60<prd L ys:=h;rw [C4e] at h;exact ⟨p,ys,rfl,s4,pln,s4 _ _ hp3,ax,by lia⟩
   rintro Z G4 ⟨p,ys,rfl,s4,pln,hp4,ax,pr⟩;have tb4:=tb3.ki (KI.of s4);have g6:A9r G4 ab (.str "shapes") (some (.ref shd)):= .inl ⟨_,Sum.inr "shapes",.inl tb4.hab,rfl,(B5y ld shd lnl 40).symm⟩;refine ⟨_,rfl,_,rfl,ab,_,rfl,g6,A0y rfl,λz hz=> ?_⟩;have sz5:A0r G4 (upd G4 z (.lst [V.str "ta",.str "tb",.str "tc"])):=A0e hz;have hz5:upd G4 z (.lst [V.str "ta",.str "tb",.str "tc"]) z=some (.lst (tn3.map V.str)):=A0b;generalize upd G4 z (.lst [V.str "ta",.str "tb",.str "tc"])=G5 at sz5 hz5;have tb5:=tb4.ki (KI.of sz5);obtain ⟨y,hy,ey⟩:=A8o (f:=V.str) (xs:=tn3) (i:=(i:Int)) (by lia) (by show (i:Int)<(3:Int);lia);rw [Int.toNat_natCast] at hy;obtain ⟨ak,hak,ar⟩:=tb5.hsh;have lak:=Paired.length ar;have les:es.length<=3:=by have:=congrArg List.length en;rw [Z08,Z0x] at this;lia
   have yn:y∉es.map (·.1):=λq=>by
    rw [en] at q;obtain ⟨j,hj⟩:=List.getElem?_of_mem q;have hji:j<i:=by have:=(Z03.mp hj).1;rw [Z0x] at this;lia
    rw [List.getElem?_take_of_lt hji] at hj;have:=(List.getElem?_inj (by show j<3;lia) (show tn3.Nodup from (Z0l.mp C4a.1).1)).mp (hj.trans hy.symm)
    lia
   refine ⟨_,rfl,z,_,_,_,rfl,rfl,SqL.of hz5,ey,shd,_,rfl,B6b.k (k:=Sum.inr y) hak (A1c (by lia)),?_⟩;rw [A6i _ (C2z ar yn)];have up:∀{b:Addr} {u:HO},b≠shd->∀{o:HO},G5 b=some u->upd G5 shd o b=some u:=λn o e=>by rw [A0h n];exact e
   have ul:∀{b:Addr} {xs:List V} {o:HO},G5 b=some (.lst xs)->upd G5 shd o b=some (.lst xs):=λe=>up (A1g e hak (by intro z;cases z)) e;have hp5:=sz5 _ _ hp4;refine ⟨_,_,ms',es++[(y,ys)],rfl,ul (sz5 _ _ (s4 _ _ (s3 _ _ hr2))),⟨tb5.kf.dk hak,ul tb5.hN,up shld.symm tb5.hld,up absh tb5.hab,⟨_,A0b,B1o (Paired.mapP ar (by rintro _ _ ⟨z1,b,z2,z3,z4⟩;exact ⟨z1,b,z2,z3,ul z4⟩)) (.cons ⟨rfl,p,rfl,pln,ul hp5⟩ .nil)⟩,ul tb5.hln⟩,ok.snoc yn (C4a.2 y (Z05 _ (Z13 hy))) ax pr (by lia),?_⟩;rw [Z0s,en,Z14,hy];rfl
  rintro Z H13 ⟨o8',o9',ms5,es0,rfl,h13,tb13,ok0,en0⟩;have lT:es0.length=tn:=by have:=congrArg List.length en0;rw [Z08,Z0x] at this;have:tn3.length=3:=rfl;lia
  have g6:A9r H13 ab (.str "shapes") (some (.ref shd)):= .inl ⟨_,Sum.inr "shapes",.inl tb13.hab,rfl,(B5y ld shd lnl 40).symm⟩;obtain ⟨ak,hak,ar⟩:=tb13.hsh;have lak:=Paired.length ar;refine ⟨_,rfl,ab,_,rfl,g6,shd,ak,rfl,hak,λo D hD=> ?_⟩;have Da:D≠shd:=λz=>by subst z;rw [A0b] at hD;cases hD
  refine A7f (J:=Itd shd o ak) (D:=D) ak.length (λi ys Hx=>A0r (upd H13 shd (.frz o (.dK ak))) Hx/\Hx D=some (.lst ys)/\ys=((es0.take i).map (·.1)).map V.str) ⟨A0e hD,A0b,rfl⟩ (by rintro i ys Hx hi ⟨s2,_⟩;exact ⟨s2 _ _ A0b,hi⟩) (by rintro ys Hx ⟨s2,_⟩;exact ⟨s2 _ _ A0b,rfl⟩) ?_ ?_
  ·walk_at "n";refine ⟨True.intro,_,rfl,hDx,A1c (by simp;lia),A0n sx hD,A0b,?_⟩;rw [Z14,he,Z2f,Z0s,Z0s];rfl
  rintro ys Hx ⟨sx,hDx,rfl⟩;rw [lak,Z18] at hDx;refine ⟨shd,o,_,sx _ _ A0b,hshH,?_⟩;have st:A0r H13 (upd Hx shd (.dK ak)):=A8q hak sx;have hDt:upd Hx shd (.dK ak) D=some (.lst ((es0.map (·.1)).map V.str)):=by rw [A0h Da];exact hDx
  have Dln:D≠lnl:=λz=>by subst z;rw [A0h Da] at hD;rw [tb13.hln] at hD;cases hD
  generalize upd Hx shd (.dK ak)=H14 at st hDt;clear sx hDx;have tb14:=tb13.ki (KI.of st);refine ⟨_,rfl,ab,_,rfl,B6b.k (k:=Sum.inr "tables") tb14.hab (A1c (by show 6<=1000000;decide)),?_⟩;rw [D5h];have hab14:=tb14.hab;have up:∀{b:Addr} {u:HO},b≠ab->∀{o:HO},H14 b=some u->upd H14 ab o b=some u:=λn o e=>by rw [A0h n];exact e
  have ul:∀{b:Addr} {xs:List V} {o:HO},H14 b=some (.lst xs)->upd H14 ab o b=some (.lst xs):=λe=>up (A1g e hab14 (by intro z;cases z)) e
  have ls15:LnS H (upd H14 ab (.dK (abK ⟨ld,shd,"",lnl,40,1500,D⟩))) N ab lnl ⟨ld,shd,"",lnl,40,1500,D⟩ nm L tn 0 es0 [] (es0.map (·.1)) []:=by
   obtain ⟨ak',hak',ar'⟩:=tb14.hsh;exact ⟨⟨A0b,⟨_,up abld.symm tb14.hld,lok⟩,⟨ak',up absh.symm hak',Paired.mapP ar' (by rintro _ _ ⟨z1,b,z2,z3,z4⟩;exact ⟨z1,b,z2,z3,ul z4⟩)⟩,absh,abld,shld⟩,ok0,by show (40:Int)<=40;decide,ul tb14.hln,.nil,rfl,lT,by rw [en0];simp,λk e he=>by simp at he,ul tb14.hN,ul hDt,tb14.kf.dk hab14⟩
  have h15:upd H14 ab (.dK (abK ⟨ld,shd,"",lnl,40,1500,D⟩)) r=some (.lst (ms5.map V.int)):=ul (st _ _ h13);generalize upd H14 ab (.dK (abK ⟨ld,shd,"",lnl,40,1500,D⟩))=H15 at ls15 h15;clear ul up hab14 tb14 st hDt hD Da hak ar g6 h13 tb13 h12 tb12;refine ⟨_,rfl,r,ms5,rfl,h15,λc3 ms6 H16 _ h16 o16 e16=>⟨_,_,rfl,rfl,E3i,_,_,rfl,rfl,?_⟩⟩;have ls16:=ls15.ki (A7u h15 o16 e16);obtain ⟨tl,etl,tl1,tl5⟩:∃m:Nat,1+c3%5=(m:Int)/\1<=m/\m<=5:=⟨(1+c3%5).toNat,by lia,by lia,by lia⟩;show B5c 10 (V.int (1+c3%5)) _ _ _;rw [etl];refine ⟨_,rfl,_,rfl,(by lia),(by lia),?_⟩
  refine A7e (n:=tl) (λi Z G=>∃(o8 o11:Option V) (own:Str) (left work:Int) (es:List (Str×List Str)) (rows:List LnM) (ts:List V),Z=[Sro a,Sio 40,Sro r,Sro N,Sro ld,Sio c,o6',Sro ab,o8,o9',Sio (tl:Nat),o11,none,none,none,none]/\LnS H G N ab lnl ⟨ld,shd,own,lnl,left,work,D⟩ nm L tn i es rows (es0.map (·.1)) ts)
   ⟨_,none,"",40,1500,es0,[],[],rfl,ls16⟩ ?_ ?_
  ·rintro i Z G hi ⟨o8,o11,own,left,work,es,rows,ts,rfl,ls⟩;walk_at "g";rw [Int.zero_add];have scG:=sc.kf ls.kf;obtain ⟨z9,e9,_,_⟩:=A8w V.int ns (some 9) none;refine ⟨_,rfl,_,rfl,a,_,rfl,scG.sq,λp1 hp1=> ?_⟩;rw [e9];have s1:A0r G (upd G p1 (.lst (z9.map V.int))):=A0e hp1;refine ⟨_,rfl,_,rfl,_,rfl,p1,_,_,_,rfl,rfl,rfl,rfl,(by lia),(by lia),SqL.of A0b,λp2 zs hp2 _ mz=> ?_⟩;obtain ⟨ms2,rfl⟩:=C3w (zs:=zs) λz hz=>by obtain ⟨q,_,rfl⟩:=Z2c.mp (mz z hz);exact ⟨q,rfl⟩
   have s2:=s1.trans (A0e (o:= .lst (ms2.map V.int)) hp2);obtain ⟨z20,e20,_,_⟩:=A8w V.int ms2 none (some 20);refine ⟨_,rfl,p2,_,rfl,SqL.of A0b,λp3 hp3=> ?_⟩;rw [e20];have s3:=s2.trans (A0e (o:= .lst (z20.map V.int)) hp3);have g3:G p3=none:=s2.free hp3;have hp3':upd (upd (upd G p1 (.lst (z9.map V.int))) p2 (.lst (ms2.map V.int))) p3 (.lst (z20.map V.int)) p3=some (.lst (z20.map V.int)):=A0b;generalize upd (upd (upd G p1 (.lst (z9.map V.int))) p2 (.lst (ms2.map V.int))) p3 (.lst (z20.map V.int))=G3 at s3 hp3';clear s1 s2 hp1 hp2 hp3 mz;have scG3:=scG.ki (KI.of s3);refine ⟨λZ G4=>∃(D4:Addr) (ms:List Int),Z=[Sro a,Sio 40,Sro r,Sro N,Sro ld,Sio c,o6',Sro ab,Sio (i:Nat),o9',Sio (tl:Nat),Sro D4,none,none,none,none]/\A0r G G4/\G D4=none/\G4 D4=some (.lst (ms.map V.int)),?_,?_⟩
   ·obtain ⟨z2,ez2,_,_⟩:=A8w V.int ns (some 1) (some 2);refine ⟨_,rfl,_,rfl,_,rfl,a,_,rfl,scG3.sq,λp4 hp4=> ?_⟩;rw [ez2];have s4:=s3.trans (A0e (o:= .lst (z2.map V.int)) hp4);have hp34:upd G3 p4 (.lst (z2.map V.int)) p3=some (.lst (z20.map V.int)):=A4n hp4 hp3';refine ⟨p4,_,rfl,SqL.of A0b,λsm=>⟨_,_,rfl,rfl,⟨by decide,by decide⟩,_,_,rfl,rfl,E2f,rfl,_,rfl,A3u (λ_=> ?_) (λ_=>⟨p3,z20,rfl,s4,g3,hp34⟩)⟩⟩;obtain ⟨z1,ez1,_,_⟩:=A8w V.int z20 none (some 1);refine ⟨_,rfl,_,rfl,p3,_,rfl,SqL.of hp34,λp5 hp5=> ?_⟩;rw [ez1];have s5:=s4.trans (A0e (o:= .lst (z1.map V.int)) hp5);refine ⟨p5,_,rfl,SqL.of A0b,λsm2=>⟨sm2,20,rfl,by decide,by decide,λp6 ms6 G6 hp6 s6 h6 _=>⟨p6,ms6,rfl,s5.trans s6,s5.free hp6,h6⟩⟩⟩
   rintro Z G4 ⟨D4,ms,rfl,s4,gD,hD4⟩;refine ⟨_,rfl,.inl ⟨rfl,_,SqL.of hD4⟩,D4,_,rfl,rfl,hD4,?_⟩;rw [<-List.map_reverse];have s5:A0r G (upd G4 D4 (.lst (ms.reverse.map V.int))):=A0n s4 gD;have hD5:upd G4 D4 (.lst (ms.reverse.map V.int)) D4=some (.lst (ms.reverse.map V.int)):=A0b;generalize upd G4 D4 (.lst (ms.reverse.map V.int))=G5 at s5 hD5;clear s4 hD4;refine ⟨_,rfl,_,rfl,_,rfl,A0y rfl,λz hz=> ?_⟩;have s6:A0r G5 (upd G5 z (.lst [V.str "a",.str "b",.str "s0",.str "d",.str "e"])):=A0e hz;have hz6:upd G5 z (.lst [V.str "a",.str "b",.str "s0",.str "d",.str "e"]) z=some (.lst (an5.map V.str)):=A0b;generalize upd G5 z (.lst [V.str "a",.str "b",.str "s0",.str "d",.str "e"])=G6 at s6 hz6;obtain ⟨y,hy,ey⟩:=A8o (f:=V.str) (xs:=an5) (i:=(i:Int)) (by lia) (by show (i:Int)<(5:Int);lia);rw [Int.toNat_natCast] at hy;have ls6:=ls.ki (KI.of (s5.trans s6))
   have yn:y∉es.map (·.1):=λq=>by
    rw [ls.en] at q;have nd:=C4a.1;rw [Z0l] at nd;rcases Z07.mp q with q | q
    ·exact nd.2.2 _ (Z2p q) _ (Z13 hy) rfl
    ·obtain ⟨j,hj⟩:=List.getElem?_of_mem q;have hji:j<i:=by have:=(Z03.mp hj).1;rw [Z0x] at this;lia
     rw [List.getElem?_take_of_lt hji] at hj;have:=(List.getElem?_inj (by show j<5;lia) nd.2.1).mp (hj.trans hy.symm)
     lia
   have les:=ls.les;have lts:=Paired.length ls.hts;have lr:=ls.lr;have ystr:=C4a.2 y (Z02 _ (Z13 hy));refine ⟨_,rfl,z,_,_,_,rfl,rfl,SqL.of hz6,ey,D4,ab,N,y,ms.reverse,⟨ld,shd,own,lnl,left,work,D⟩,L,nm,es,ts,rfl,s6 _ _ hD5,ls6.at_,ls6.ok,by lia,ls6.hN,Nln,by lia,yn,ystr,ls6.left,ls6.hln,D9z ls6.hts,by lia,?_⟩;rintro ys zs u v ⟨ld',sh',own',ln',left',work',tb'⟩ G7 e1 e2 e3 e4 l40 a7 ok7 good hln7 lt7 kq7;have e1:ld'=ld:=e1;have e2:sh'=shd:=e2;have e3:ln'=lnl:=e3;have e4:tb'=D:=e4;subst e1 e2 e3 e4;refine ⟨_,_,own',left',work',es++[(y,ys)],rows++[⟨y,ys,zs,u⟩],ts++[v],rfl,⟨a7,ok7,l40,hln7,B1o (Paired.mapP ls6.hts λ_ _ z=>z.kq kq7) (.cons lt7 .nil),by simp [lr],by simp [les];lia,?_,?_,kq7.str Nln ls6.hN,kq7.str Dln ls6.hD,ls6.kf.kq kq7 ls6.hln⟩⟩
   ·rw [Z0s,ls.en,Z14,hy,Z0z];rfl
   ·intro k e hk;rcases Nat.lt_or_ge k i with hki | hki
    ·rw [Z26 (by lia)] at hk;obtain ⟨r1,r2⟩:=ls.row k e hk;rw [Z26 (by lia),List.take_append_of_le_length (by lia)];exact ⟨r1,r2⟩
    ·have hl:=(Z03.mp hk).1;rw [Z06,Z0j] at hl;have hk':k=rows.length:=by lia
     rw [hk',Z1l (Z09 _),Nat.sub_self] at hk;have hk:(⟨y,ys,zs,u⟩:LnM)=e:=Z1a hk;subst hk;have hlen:tn+k=es.length:=by lia
     rw [hlen,Z1l (Z09 _),Nat.sub_self,Z2l (by simp)];exact ⟨rfl,good⟩
  rintro Z H17 ⟨o8,o11,own,left,work,es,rows,ts,rfl,ls⟩;generalize hx:(⟨ld,shd,own,lnl,left,work,D⟩:Abt)=x at ls;have xsh:x.sh=shd:=by rw [<-hx]
  have xln:x.ln=lnl:=by rw [<-hx]
  have les:=ls.les;have lr:=ls.lr;obtain ⟨ak,hak,ar⟩:=ls.at_.sh;have lak:=Paired.length ar;refine ⟨_,rfl,ab,_,rfl,ls.at_.get (A6x x),x.sh,ak,rfl,hak,?_⟩;rw [lak];have scG:=sc.kf ls.kf;obtain ⟨z1,ez1,_,_⟩:=A8w V.int ns none (some 1);refine ⟨_,rfl,_,rfl,a,_,rfl,scG.sq,λp1 hp1=> ?_⟩;rw [ez1];obtain ⟨H18,s18,hp18,eNH⟩:=nH (o:= .lst (z1.map V.int)) hp1
  try rw [eNH]
  refine ⟨p1,_,rfl,SqL.of hp18,λsm1=>⟨_,_,rfl,rfl,⟨by decide,by decide⟩,_,rfl,_,_,rfl,rfl,(by show (0:Int)<(es.length:Int);lia),?_⟩⟩;obtain ⟨z2,ez2,_,_⟩:=A8w V.int ns (some 1) (some 2);refine ⟨_,rfl,_,rfl,_,rfl,a,_,rfl,(scG.ki (KI.of s18)).sq,λp2 hp2=> ?_⟩;rw [ez2];obtain ⟨H19,s19,hp19,eNH⟩:=nH (o:= .lst (z2.map V.int)) hp2
  try rw [eNH]
  refine ⟨p2,_,rfl,SqL.of hp19,λsm2=>⟨_,_,rfl,rfl,⟨by decide,by decide⟩,_,_,rfl,rfl,E2f,_,_,rfl,rfl,?_⟩⟩;have ls19:=ls.ki (KI.of (s18.trans s19));clear s18 s19 hp18 hp19 hp1 hp2 hak ar;obtain ⟨ak,hak,ar⟩:=ls19.at_.sh;have lak:=Paired.length ar;refine ⟨_,rfl,ab,_,rfl,ls19.at_.get (A6x x),x.sh,ak,rfl,hak,λo B hB=> ?_⟩;have Ba:B≠x.sh:=λz=>by subst z;rw [A0b] at hB;cases hB
  refine A7f (J:=Itd x.sh o ak) (D:=B) ak.length (λi ys Hx=>A0r (upd H19 x.sh (.frz o (.dK ak))) Hx/\Hx B=some (.lst ys)/\ys=((es.take i).map (·.1)).map V.str) ⟨A0e hB,A0b,rfl⟩ (by rintro i ys Hx hi ⟨s2,_⟩;exact ⟨s2 _ _ A0b,hi⟩) (by rintro ys Hx ⟨s2,_⟩;exact ⟨s2 _ _ A0b,rfl⟩) ?_ ?_
  ·walk_at "n";refine ⟨True.intro,_,rfl,hDx,A1c (by simp;lia),A0n sx hB,A0b,?_⟩;rw [Z14,he,Z2f,Z0s,Z0s];rfl
  rintro ys Hx ⟨sx,hDx,rfl⟩;rw [lak,Z18] at hDx;refine ⟨x.sh,o,_,sx _ _ A0b,(by rw [xsh];exact hshH),?_⟩;have st:A0r H19 (upd Hx x.sh (.dK ak)):=A8q hak sx;have hBt:upd Hx x.sh (.dK ak) B=some (.lst ((es.map (·.1)).map V.str)):=by rw [A0h Ba];exact hDx
  generalize upd Hx x.sh (.dK ak)=H20 at st hBt;clear sx hDx;have ls20:=ls19.ki (KI.of st);refine ⟨_,rfl,_,rfl,_,_,rfl,?_⟩;generalize hm:(if ((es.length:Nat):Int)<1+sm2/7%2 then ((es.length:Nat):Int) else 1+sm2/7%2)=m;have hm2:m<=2:=by rw [<-hm];split <;> lia
  have hm0:0<=m:=by rw [<-hm];split <;> lia
  refine ⟨_,rfl,by lia,by lia,λD2 hD2=> ?_⟩;refine A7f (D:=D2) m.toNat (λi vs G=>A0r H20 G/\G D2=some (.lst vs)/\∃os:List Str,vs=os.map V.str/\os.length=i/\∀o∈os,o∈es.map (·.1)) ⟨A0e hD2,A0b,[],rfl,rfl,by intro o ho;cases ho⟩ (λi ys G hi _=>hi) (λys G _=>Z09 _) ?_ ?_
  ·rintro i vs G hi ⟨sG,hG,os,rfl,lo,mo⟩ v G2 ⟨rfl,rfl⟩;refine B9q ?_;intro N';rw [Int.zero_add];have b1:=Z1v (sm1/5%(es.length:Int)+(i:Int)) (show (es.length:Int)≠0 by lia);have b2:=Z1p (sm1/5%(es.length:Int)+(i:Int)) (show (0:Int)<(es.length:Int) by lia);obtain ⟨y,hy,ey⟩:=A8o (f:=V.str) (xs:=es.map (·.1)) (i:=(es.length:Int)-1-(sm1/5%(es.length:Int)+(i:Int))%(es.length:Int)) (by lia) (by rw [Z08];lia);refine ⟨⟨rfl,rfl,rfl,True.intro⟩,_,rfl,_,rfl,_,_,rfl,rfl,_,rfl,_,rfl,_,_,rfl,rfl,_,rfl,_,_,rfl,rfl,(by show (0:Int)<(es.length:Int);lia),_,_,rfl,rfl,B,_,_,_,rfl,rfl,SqL.of (sG _ _ hBt),ey,?_⟩;refine ⟨hG,A1c (by rw [Z08];lia),A0n sG hD2,A0b,os++[y],by simp,by simp [lo],λo ho=> ?_⟩;rcases Z07.mp ho with ho | ho
   ·exact mo o ho
   ·rw [Z0w.mp ho];exact Z13 hy
  rintro vs H21 ⟨s21,hD21,os,rfl,lo,mo⟩;have ls21:=ls20.ki (KI.of s21);refine ⟨_,rfl,ab,_,rfl,B6b.k (k:=Sum.inr "outs") ls21.at_.d (A1c (by show 7<=1000000;decide)),?_⟩;rw [D4w];have hab21:=ls21.at_.d;have a21:=ls21.at_;have up:∀{b:Addr} {u:HO},b≠ab->∀{o:HO},H21 b=some u->upd H21 ab o b=some u:=λn o e=>by rw [A0h n];exact e
  have ul:∀{b:Addr} {xs:List V} {o:HO},H21 b=some (.lst xs)->upd H21 ab o b=some (.lst xs):=λe=>up (A1g e hab21 (by intro z;cases z)) e;obtain ⟨lk',hlk',lok'⟩:=a21.le;obtain ⟨ak',hak',ar'⟩:=a21.sh;refine ⟨_,rfl,k ab x D2 L nm es (es0.map (·.1)) tn rows os _ ⟨A0b,⟨lk',up a21.n2.symm hlk',lok'⟩,⟨ak',up a21.n1.symm hak',Paired.mapP ar' (by rintro _ _ ⟨z1,b,z2,z3,z4⟩;exact ⟨z1,b,z2,z3,ul z4⟩)⟩,⟨ts,by rw [xln];exact ul ls21.hln,?_⟩,ul ls21.hD,ul hD21,a21.n1,a21.n2,a21.n3⟩ ⟨ls.ok,by rw [Z08];lia,by lia,ls.row,mo,by lia,by lia,by lia⟩ (by rw [xsh];exact hshH) ((sc.kf ls21.kf).dk hab21)⟩;rw [xln];exact Paired.mapP ls21.hts λ_ _ z=>z.kq (KQ.dk hab21)
theorem A9e (x:Abt) (ol:Addr):A1y (abF x ol) (Sum.inr "lengths")=some (.ref x.ld):=by unfold abF abK;walk_at "ab"
theorem B0p (x:Abt) (ol:Addr):A1y (abF x ol) (Sum.inr "shapes")=some (.ref x.sh):=by unfold abF abK;walk_at "ab"
theorem A6g (x:Abt) (ol:Addr):A1y (abF x ol) (Sum.inr "lines")=some (.ref x.ln):=by unfold abF abK;walk_at "ab"
theorem C9p (x:Abt) (ol:Addr):A1y (abF x ol) (Sum.inr "tables")=some (.ref x.tb):=by unfold abF abK;walk_at "ab"
theorem C2s (x:Abt) (ol:Addr):A1y (abF x ol) (Sum.inr "outs")=some (.ref ol):=by unfold abF abK;walk_at "ab"
theorem AbF.get {x:Abt} {ol:Addr} (h:AbF H ab x ol L nm es tb rows os) {k:Str} (e:A1y (abF x ol) (Sum.inr k)=some v):A9r H ab (.str k) (some v):= .inl ⟨_,Sum.inr k,.inl h.d,rfl,e.symm⟩
theorem AbF.same {x:Abt} {ol:Addr} (h:AbF H ab x ol L nm es tb rows os) (s:A0r H H'):AbF H' ab x ol L nm es tb rows os:=by
 obtain ⟨lk,l1,l2⟩:=h.le;obtain ⟨ak,a1,a2⟩:=h.sh;obtain ⟨ts,t1,t2⟩:=h.li;exact ⟨s _ _ h.d,⟨lk,s _ _ l1,l2⟩,⟨ak,s _ _ a1,a2.same s⟩,⟨ts,s _ _ t1,Paired.mapP t2 λ_ _ z=>z.kq (KQ.of (KI.of s))⟩,s _ _ h.ta,s _ _ h.ou,h.n1,h.n2,h.n3⟩
inductive E4h (A:Adr) (H:Hp) (p:Addr) (L:Str->Int) (nm:List Str) (es:List (Str×List Str)) (rows:List LnM) (os:List Str):Prop
 | mk (dx l a tb ln o:Addr) (lk ak:List (Key×V)) (xs:List V) (_:H p=some (clo A dx 97 l a tb ln o)) (_:H l=some (.dK lk)) (_:B2i lk L nm) (_:H a=some (.dK ak)) (_:AR (λ_=>True) H ak es) (_:H o=some (.lst (os.map V.str))) (_:H ln=some (.lst xs)) (_:B3u A [] H xs rows) (_:l≠a):E4h A H p L nm es rows os
structure ClF (A:Adr) (H:Hp) (p:Addr) (L:Str->Int) (nm:List Str) (es:List (Str×List Str)) (rows:List LnM) (os:List Str):Prop where
 ex:E4h A H p L nm es rows os
theorem ClF.same (h:ClF A H p L nm es rows os) (s:A0r H H'):ClF A H' p L nm es rows os:=by
 obtain ⟨dx,l,a,tb,ln,o,lk,ak,xs,h1,h2,h3,h4,h5,h6,h7,h8,h9⟩:=h.ex;exact ⟨dx,l,a,tb,ln,o,lk,ak,xs,s _ _ h1,s _ _ h2,h3,s _ _ h4,h5.same s,s _ _ h6,s _ _ h7,Paired.mapP h8 λ_ _ z=>z.same s,h9⟩
inductive C0c (A:Adr) (vs:List V) (H:Hp) (Q:VK):Prop
 | mk (ab:Addr) (x:Abt) (ol:Addr) (L:Str->Int) (nm:List Str) (es:List (Str×List Str)) (tb:List Str) (T:Nat) (rows:List LnM) (os:List Str) (_:vs=[.ref ab]) (_:AbF H ab x ol L nm es tb rows os) (_:A9i L nm es tb T rows os) (_:∀(p:Addr) (H':Hp),A0r H H'->ClF A H' p L nm es rows os->Q (.ref p) H'):C0c A vs H Q
def D1v (A:Adr):Sp:=λvs H Q _=>C0c A vs H Q
theorem C9w {L:Str->Int}:∀nm:List Str,D2t (nm.map λy=>((Sum.inr y:Key),V.int (L y))) (nm.map L)
 | []=> .nil
 | _::r=> .cons rfl (C9w r)
theorem B1s.keep {M':List Addr} (h:B1s A M H v e) (f:∀b u,b∉M->(∀xs,u≠.lst xs\/True)->H b=some u->b∉M'/\H' b=some u) (g:∀b C d fs,H b=some (.ins C d fs)->H' b=some (.ins C d fs)):B1s A M' H' v e:=by
 obtain ⟨a,dx,c,u,n,rfl,e1,m1,e2,m2,e3,ob⟩:=h;have i:∀xs:List V,∀ys:List V,HO.lst xs≠.lst ys\/True:=λ_ _=> .inr True.intro;refine ⟨a,dx,c,u,n,rfl,g _ _ _ _ e1,(f _ _ m1 (λ_=> .inr True.intro) e2).1,(f _ _ m1 (λ_=> .inr True.intro) e2).2,(f _ _ m2 (λ_=> .inr True.intro) e3).1,(f _ _ m2 (λ_=> .inr True.intro) e3).2,ob.imp λb o e=> ?_⟩;have:=f b o (A0v e).1 (λ_=> .inr True.intro) (A0v e).2;exact A1k this.1 this.2
theorem C6j (T:Txt K mg t):FO P w base T.ip 15 (D1v t):=by
 have Gb3:= @B8u P w K mg base t T 6;have Gc7:= @B9r P w K mg base t T;have Gc8:= @B6k P w K mg base t T;refine T.ip.F.ok A5p (by walk_at "ln") λ_ A _ s H _ Q E hr h=> ?_
 ·obtain ⟨ab,x,ol,L,nm,es,tb,T0,rows,os,rfl,af,fo,k⟩:=h;have hu:=A6c hr;have fr:=fo.fr
  refine ⟨_,(A0c (A0m (i:=1) A5p.nd (A2f A0d))
   (A0c (A1o (A1n (A0u hu (pv 0) A0o)) (A5j (n:=4) rfl (A1a (A0k (i:=2) A5p.nd) (A1a (A0k (i:=3) A5p.nd) (A1a (A0k (i:=4) A5p.nd) (A1a (A0k (i:=5) A5p.nd) A3x)))))
    (A0f (A3c (B0a Z0k Z0n Z0o A3h (pv 1) (A0a (pmk T.nM Gc7 hr T.n_ T.fb.b (A0a (pv 2) (A0a (A3g A6h (by rfl) T.d_ Z1o (A0a (pv 3) A0d)) (A0a (A3g A6h (by rfl) T.d_ Z1o (A0a (pv 4) A0d)) (A0a (pcl Gb3 hr T.dh (A0a (pv 5) A0d)) A0d))))) A0d)))))
   (A0f (A0p (pmk T.ng Gc8 hr T.nR T.dl.b (A0a A0g (A0a (A0u hu (pv 0) A0o) (A0a (A0u hu (pv 0) A0o) (A0a (A0u hu (pv 0) A0o) (A0a (pv 1) (A0a (A0u hu (pv 0) A0o) A0d))))))))))),?_⟩
  refine ⟨A0y rfl,λLL hLL=> ?_⟩;have s1:A0r H (upd H LL (.lst [])):=A0e hLL;obtain ⟨ts,hts,pts⟩:=af.li;have lts:=Paired.length pts;refine ⟨_,rfl,ab,_,rfl,(af.same s1).get (A6g x ol),x.ln,rfl,⟨_,SqL.of (s1 _ _ hts)⟩,?_⟩
  refine A1v (K:=K) (a:=x.ln) (xs:=ts) (λi Z G=>∃(o2 o3 o4 o5:Option V) (ys:List V),Z=[Sro ab,Sro LL,o2,o3,o4,o5]/\A0r H G/\G LL=some (.lst ys)/\B3u t [LL] G ys (rows.take i))
   ⟨none,none,none,none,[],rfl,s1,A0b,.nil⟩ (by rintro i Z G _ ⟨_,_,_,_,_,_,s2,_⟩;exact SqL.of (s2 _ _ hts)) ?_ ?_
  ·rintro i v Z G hv ⟨o2,o3,o4,o5,ys,rfl,sG,hG,la⟩;walk_at "g";obtain ⟨e,he,b,c,d,tv,rfl,_,hb,_,hc,_,hd,tr⟩:=A6w pts hv;obtain ⟨es1,gd⟩:=fo.row i e he;have hi:=(Z03.mp he).1;have lla:=Paired.length la;rw [Z0x] at lla;have ax3:=gd.ax.few;have sm2:=gd.few;refine ⟨b,_,rfl,SqT.of (sG _ _ hb),rfl,_,_,rfl,_,_,rfl,_,_,rfl,_,_,rfl,rfl,?_⟩;refine ⟨_,rfl,.inl ⟨rfl,_,SqL.of hG⟩,_,rfl,_,rfl,c,_,rfl,.inl (SqL.of (sG _ _ hc)),λc2 hc2=> ?_⟩;obtain ⟨G1,t1,g1,eNH⟩:=nH (o:= .lst (e.own.map V.str)) hc2
   try rw [eNH]
   refine ⟨_,rfl,d,_,rfl,.inl (SqL.of (t1 _ _ (sG _ _ hd))),λd2 hd2=> ?_⟩;obtain ⟨G2,t2,g2,eNH⟩:=nH (o:= .lst (e.sums.map V.str)) hd2
   try rw [eNH]
   have sG2:=sG.trans (t1.trans t2);refine ⟨_,rfl,tv,e.tm,rfl,tr.same λb o z=>sG2 _ _ (A0v z).2,gd.tm.dp,gd.tm.gd,λnv G3 t3 ob=> ?_⟩;refine λxo dx hxo hdx hne=> ?_;have hLL3:=t3 _ _ (t2 _ _ (t1 _ _ hG));have t4:A0r G3 (upd (upd G3 dx (.own xo)) xo (.ins t.am dx [])):=A0n (A0e hdx) hxo;have g4:upd (upd G3 dx (.own xo)) xo (.ins t.am dx []) xo=some (.ins t.am dx []):=A0b;generalize upd (upd G3 dx (.own xo)) xo (.ins t.am dx [])=G4 at t4 g4;refine ⟨xo,dx,c2,d2,nv,e.nm,e.own,e.sums,rfl,g4,t4 _ _ (t3 _ _ (t2 _ _ g1)),t4 _ _ (t3 _ _ g2),by lia,by lia,λc3 u3 G5 hc3 hu3 hx5 hc5 hu5 kb=>⟨rfl,?_⟩⟩;have s35:A0r G3 G5:=λb o z=>kb _ _ (A0i z hxo) (t4 _ _ z);have hLL5:=s35 _ _ hLL3;refine ⟨LL,_,_,rfl,rfl,hLL5,A1c (by lia),?_⟩;have sG5:A0r G G5:=t1.trans (t2.trans (t3.trans s35));have up:∀{b:Addr} {u:HO} {o:HO},b≠LL->G5 b=some u->upd G5 LL o b=some u:=λn z=>by rw [A0h n];exact z
   have nl:∀{b:Addr},b∉[LL]->b≠LL:=λn z=>n (by rw [z];exact .head _);have ln:∀{b:Addr},b≠LL->b∉[LL]:=λn z=>n (Z0w.mp z);have nc3:c3≠LL:=λz=>by subst z;rw [t4 _ _ hLL3] at hc3;cases hc3
   have nu3:u3≠LL:=λz=>by subst z;rw [t4 _ _ hLL3] at hu3;cases hu3
   have nx:xo≠LL:=(A0i hLL3 hxo).symm;refine ⟨_,_,_,_,ys++[.ref xo],rfl,A0n (sG.trans sG5) hLL,A0b,?_⟩;rw [Z14,he,Z2f];refine B1o (Paired.mapP la λ_ _ z=>z.keep (λb u n _ z=>⟨n,up (nl n) (sG5 _ _ z)⟩) λb C d fs z=>up (A1g (sG5 _ _ z) hLL5 (by intro q;cases q)) (sG5 _ _ z)) (.cons ⟨xo,dx,c3,u3,nv,rfl,up nx hx5,ln nc3,up nc3 hc5,ln nu3,up nu3 hu5,ob.imp λb o z=> ?_⟩ .nil);have n2:b≠LL:=λq=>by have:=(A0v z).1;rw [q,t2 _ _ (t1 _ _ hG)] at this;cases this
   exact A1k (ln n2) (up n2 (s35 _ _ (A0v z).2))
  rintro Z G ⟨o2,o3,o4,o5,ys,rfl,sG,hG,la⟩;rw [lts,Z18] at la;have lla:=Paired.length la;have afG:=af.same sG;obtain ⟨lk,hlk,lok⟩:=afG.le;obtain ⟨ak,hak,ar⟩:=afG.sh;have lar:=Paired.length ar;have eof:=fo.eo.few;have l8:=lok.few;refine ⟨_,rfl,ab,_,rfl,afG.get (A9e x ol),_,rfl,ab,_,rfl,afG.get (B0p x ol),_,rfl,ab,_,rfl,afG.get (C9p x ol),_,rfl,_,rfl,ab,_,rfl,afG.get (C2s x ol),λp dx hp hdx hne=> ?_⟩;have t4:A0r G (upd (upd G dx (.own p)) p (.ins t.ag dx [])):=A0n (A0e hdx) hp;have g4:upd (upd G dx (.own p)) p (.ins t.ag dx []) p=some (.ins t.ag dx []):=A0b;generalize upd (upd G dx (.own p)) p (.ins t.ag dx [])=G4 at t4 g4;refine ⟨p,dx,x.ld,x.sh,x.tb,LL,ol,97,lk,ak,nm.map L,es,tb,os,ys,(λb=>b≠x.ln),rfl,g4,t4 _ _ hlk,by rw [lok.eq];exact C9w nm,by rw [lok.eq,Z08];lia,t4 _ _ hak,ar.same t4,by lia,λe he=>by have:=(fo.eo.ax e he).few;lia,t4 _ _ afG.ta,by have:=fo.tl;lia,t4 _ _ hG,by lia,?_,t4 _ _ afG.ou,by have:=fo.fo;lia,?_⟩
  ·intro v hv;obtain ⟨j,hj⟩:=List.getElem?_of_mem hv;obtain ⟨e,_,a,dx',c,u,n,rfl,e1,_⟩:=A6w la hj;exact ⟨a,dx',_,rfl,(λz=>by subst z;rw [hp] at e1;cases e1),t4 _ _ e1⟩
  ·intro l' a' t' v' o' ak' G5 hp5 nl hl5 na ha5 ar5 nt ht5 nv hv5 no ho5 kb;have s5:A0r G G5:=λb o z=>kb _ _ (A0i z hp) (t4 _ _ z);have lar5:=Paired.length ar5;have pos:=fo.pos;have len:=fo.len;refine ⟨rfl,k p G5 (sG.trans s5) ⟨dx,l',a',t',v',o',lk,ak',ys,hp5,hl5,lok,ha5,ar5.imp λb ys _ z=>⟨True.intro,z⟩,ho5,hv5,Paired.mapP la λ_ _ z=>(z.same s5).keep (λb u _ _ z=>⟨Z1i,z⟩) λb C d fs z=>z,λz=> ?_⟩⟩;rw [z,ha5] at hl5;have hl5:ak'=lk:=by injection hl5 with q;injection q
   rw [lok.eq] at hl5
   cases ar5 with
   | nil=>rw [Z2g] at len;lia
   | cons r _ =>
    obtain ⟨_,b,z2,_⟩:=r
    cases nm with
    | nil=>cases hl5
    | cons y nm =>
     rw [Z0p] at hl5;injection hl5 with h1 h2;rw [h1] at z2;cases z2
def A4p (L:Str->Int) (e:LnM):Rw:=⟨e.own,e.sums,e.own.map L,e.sums.map L⟩
theorem C1z {lk:List (Key×V)} {L:Str->Int} {nm:List Str} (h:B2i lk L nm):∀{ys:List Str},(∀y∈ys,y∈nm)->Sz lk ys (ys.map L)
 | [],_=> .nil
 | y::r,hs=> .cons (h.val (hs y (.head _))) (C1z h λz hz=>hs z (.tail _ hz))
theorem B7k (h:B2i lk L nm) (hs:∀y∈ys,y∈nm) (hl:ys.length<=8) (hp:A2n (ys.map L)<=60):B4n (ys.map L):=by
 refine ⟨λn hn=> ?_,by rw [Z08];exact hl,by lia⟩;obtain ⟨y,hy,rfl⟩:=Z2c.mp hn;exact ⟨(h.ok y (hs y hy)).1,(h.ok y (hs y hy)).2.1⟩
theorem C0j.rw' (g:C0j L nm es e) (h:B2i lk L nm):C4r (A4p L e):=by
 have h1:=g.ax.few;have h2:=g.few;have h3:=g.po;have h4:=g.ps;exact ⟨B7k h g.ax.sub (by lia) (by lia),B7k h g.sub (by lia) (by lia),by show A2n (e.own.map L)<=60;lia,by show A2n (e.sums.map L)<=60;lia,(Z08 _).symm,(Z08 _).symm⟩
theorem D6y (zs:List Str):PyData.eqv (B6a zs) (.list [])=decide (zs=[]):=by
 cases zs <;> simp [B6a,PyData.eqv,PyData.eqvAll]
inductive C0x (vs:List V) (H:Hp) (Q:VK):Prop
 | mk (ab:Addr) (x:Abt) (ol:Addr) (L:Str->Int) (nm:List Str) (es:List (Str×List Str)) (tb:List Str) (T:Nat) (rows:List LnM) (os:List Str) (_:vs=[.ref ab]) (_:AbF H ab x ol L nm es tb rows os) (_:A9i L nm es tb T rows os) (_:∀(D:Addr) (ys:List V) (H':Hp),H D=none->A0r H H'->H' D=some (.lst ys)->A2j H' ys (A1f (rows.map (A4p L)) rows.length)->Q (.ref D) H'):C0x vs H Q
def D1r:Sp:=λvs H Q _=>C0x vs H Q
theorem D0g:∀{zs:List Str} {cs:List Int} {i:Nat} {x:Str} {c:Int},zs.Nodup->zs[i]? =some x->cs[i]? =some c->A1y ((zs.map (Sum.inr:Str->Key)).zip (cs.map V.int)) (Sum.inr x)=some (.int c)
 | [],_,_,_,_,_,h,_=>by simp at h
 | _::_,[],_,_,_,_,_,h=>by simp at h
 | z::zs,d::cs,0,x,c,_,h1,h2=>by
  simp at h1 h2;subst h1 h2;exact A2l rfl
 | z::zs,d::cs,i+1,x,c,nd,h1,h2=>by
  have h1:zs[i]? =some x:=by simpa using h1
  have h2:cs[i]? =some c:=by simpa using h2
  rw [Z15] at nd;rw [Z0p,Z0p,List.zip_cons_cons,A2g (λq=>nd.1 (by rw [Sum.inr.inj q];exact Z13 h1))];exact D0g nd.2 h1 h2
theorem E3b {s:StM} (nd:(e.own++e.sums).Nodup) (hl:(s.ce++s.tu).length=(e.own++e.sums).length):atM e s=((e.own++e.sums).map (Sum.inr:Str->Key)).zip ((s.ce++s.tu).map V.int):=by
 unfold atM;rw [B7c _ []]
 ·rfl
 ·rw [List.nil_append,List.map_fst_zip (by rw [Z08,Z08];lia)];exact List.Pairwise.map _ (λa b h z=>h (Sum.inr.inj z)) nd
theorem D3t {s:StM} (nd:(e.own++e.sums).Nodup) (hl:(s.ce++s.tu).length=(e.own++e.sums).length) {c:Int} (h1:(e.own++e.sums)[i]? =some x) (h2:(s.ce++s.tu)[i]? =some c):A1y (atM e s) (Sum.inr x)=some (.int c):=by
 rw [E3b nd hl];exact D0g nd h1 h2
theorem E0b {s:StM} (nd:(e.own++e.sums).Nodup) (hl:(s.ce++s.tu).length=(e.own++e.sums).length) {c:Int} (h1:(e.own++e.sums)[i]? =some x) (h2:(s.ce++s.tu)[i]? =some c):ai (atM e s) x=c:=by
 unfold ai;rw [D3t nd hl h1 h2]
theorem E2p {s:StM} (nd:(e.own++e.sums).Nodup) (hl:(s.ce++s.tu).length=(e.own++e.sums).length) (hx:x∈e.own++e.sums):A1y (atM e s) (Sum.inr x)=some (.int (ai (atM e s) x)):=by
 obtain ⟨i,hi⟩:=List.getElem?_of_mem hx;have hlt:=(Z03.mp hi).1;have h2:(s.ce++s.tu)[i]? =some ((s.ce++s.tu)[i]'(by lia)):=Z0b _;rw [D3t nd hl hi h2,E0b nd hl hi h2]
theorem D9o {s:StM} (nd:(e.own++e.sums).Nodup) (hc:s.ce.length=e.own.length) (ht:s.tu.length=e.sums.length):e.own.map (ai (atM e s))=s.ce:=by
 refine List.ext_getElem? λi=> ?_;rw [Z1z];rcases Nat.lt_or_ge i e.own.length with h | h
 ·have h1:e.own[i]? =some e.own[i]:=Z0b h;have h2:s.ce[i]? =some (s.ce[i]'(by lia)):=Z0b _;rw [h1,h2];show some (ai (atM e s) e.own[i])=_;rw [E0b nd (by rw [Z06,Z06];lia) (by rw [Z26 h];exact h1) (by rw [Z26 (by lia)];exact h2)]
 ·rw [List.getElem?_eq_none h,List.getElem?_eq_none (by lia)];rfl
structure D0i (L:Str->Int) (rows:List LnM) (s:Stp) (k:Nat) (e:LnM):Prop where
 hk:s.1=(k:Int)
 he:rows[k]? =some e
 hc:s.2.2.1∈A1e (e.own.map L)
 wd:(e.sums=[]/\s.2.1="set"/\s.2.2.2=[])\/(e.sums≠[]/\s.2.1="start"/\s.2.2.2=[])\/(e.sums≠[]/\s.2.1="add"/\s.2.2.2∈A1e (e.sums.map L))
theorem D6p {k:Nat} (h:s∈A9l (rows.map (A4p L)) k):∃e,D0i L rows s k e:=by
 unfold A9l at h;rw [Z1z] at h
 cases he:rows[k]? with
 | none=>rw [he] at h;cases h
 | some e =>
  rw [he] at h;have h:s∈A4h k (A4p L e):=h;unfold A4h at h;obtain ⟨c,hc,hs⟩:=List.mem_flatMap.mp h;have hc:c∈A1e (e.own.map L):=hc;have hs:s∈A1j k (e.sums.map L) c:=hs;unfold A1j at hs;by_cases z:e.sums=[]
  ·rw [Z12 (by rw [z];rfl)] at hs;have hs:=Z0w.mp hs;subst hs;exact ⟨e,rfl,he,hc,.inl ⟨z,rfl,rfl⟩⟩
  ·rw [Z0t (λq=>z (List.map_eq_nil_iff.mp q))] at hs;rcases Z0e.mp hs with hs | hs
   ·subst hs;exact ⟨e,rfl,he,hc,.inr (.inl ⟨z,rfl,rfl⟩)⟩
   ·obtain ⟨u,hu,rfl⟩:=Z2c.mp hs;exact ⟨e,rfl,he,hc,.inr (.inr ⟨z,rfl,hu⟩)⟩
theorem A7g (h:s∈A1f (rows.map (A4p L)) n):∃k e,D0i L rows s k e:=by
 unfold A1f at h;obtain ⟨k,_,h⟩:=List.mem_flatMap.mp h;obtain ⟨e,h⟩:=D6p h;exact ⟨k,e,h⟩
theorem D0i.tu {k:Nat} (h:D0i L rows s k e) (hw:s.2.1≠"start"):s.2.2.2.length=e.sums.length:=by
 rcases h.wd with ⟨z,_,q⟩ | ⟨_,z,_⟩ | ⟨_,_,q⟩
 ·rw [z,q];rfl
 ·exact absurd z hw
 ·have:=(A6f _ _ q).1
  rwa [Z08] at this
theorem D0i.ce {k:Nat} (h:D0i L rows s k e):s.2.2.1.length=e.own.length:=by
 have:=(A6f _ _ h.hc).1
 rwa [Z08] at this
theorem B0s (lok:B2i lk L nm) (fo:A9i L nm es tb T rows os) {k:Nat} (h:D0i L rows s k e):E0m lk rows s/\(s.2.1≠"start"->rdS lk rows s=rd (ai lk) e.tm (ai (atM e (toM s)))/\D7b 6 (ai lk) e.tm (atM e (toM s))/\C5y lk e (toM s))/\rows[s.1.toNat]? =some e:=by
 obtain ⟨h1,gd⟩:=fo.row k e h.he;have hk:s.1.toNat=k:=by rw [h.hk];exact Int.toNat_natCast k
 have hrow:rows[s.1.toNat]? =some e:=by rw [hk];exact h.he
 have l1:=gd.ax.few;have l2:=gd.few;have hce:=h.ce
 have full:s.2.1≠"start"->rdS lk rows s=rd (ai lk) e.tm (ai (atM e (toM s)))/\D7b 6 (ai lk) e.tm (atM e (toM s))/\C5y lk e (toM s):=λhw=>by
  have htu:=h.tu hw
  have hl:((toM s).ce++(toM s).tu).length=(e.own++e.sums).length:=by
   rw [Z06,Z06];show s.2.2.1.length+s.2.2.2.length=_
   lia
  have atok:E2d (atM e (toM s)) e.tm:=λx hx=>E2p gd.nd hl (gd.tm.fv x hx);have few:=gd.tm.few (ai lk) (ai (atM e (toM s)));refine ⟨?_,⟨gd.tm.gd,gd.tm.dp,atok,by lia⟩,⟨hce,htu,by lia,gd.tm.gd,by have:=gd.tm.dp;lia,atok,⟨e.own++e.sums,gd.tm.ax,λx hx=> ?_⟩,by lia⟩⟩
  ·unfold rdS;rw [Z0t hw,hrow]
  ·have hx:x∈nm:=(Z07.mp hx).elim (gd.ax.sub x) (gd.sub x);have hv:=lok.val hx;have ha:ai lk x=L x:=by unfold ai;rw [hv]
   rw [ha];exact ⟨hv,(lok.ok x hx).1,(lok.ok x hx).2.1⟩
 refine ⟨⟨by rw [h.hk];lia,⟨e,hrow,λhw=>(full hw).2.2⟩,?_⟩,full,hrow⟩;by_cases hw:s.2.1="start"
 ·unfold rdS;rw [Z12 hw];exact Z1e _
 ·rw [(full hw).1];have:=gd.tm.few (ai lk) (ai (atM e (toM s)))
  lia
inductive C0y (vs:List V) (H:Hp) (Q:VK):Prop
 | mk (ab st:Addr) (x:Abt) (ol:Addr) (L:Str->Int) (nm:List Str) (es:List (Str×List Str)) (tb:List Str) (T:Nat) (rows:List LnM) (os:List Str) (s:Stp) (k:Nat) (e:LnM) (lk:List (Key×V)) (_:vs=[.ref ab,.ref st]) (_:AbF H ab x ol L nm es tb rows os) (_:A9i L nm es tb T rows os) (_:B4t H (.ref st) s) (_:D0i L rows s k e) (_:B2i lk L nm) (_:RdQ H (rdS lk rows s) Q):C0y vs H Q
def D3n:Sp:=λvs H Q _=>C0y vs H Q
theorem C5f (T:Txt K mg t):FO P w base T.ie 2 D1r:=by
 have Gc9:= @B5q P w K mg base t T;refine T.ie.F.ok A4f (by walk_at "ln") λ_ A _ s H _ Q E hr h=> ?_
 ·obtain ⟨ab,x,ol,L,nm,es,tb,T0,rows,os,rfl,af,fo,k⟩:=h;have hu:=A6c hr;have fr:=fo.fr
  refine ⟨_,(A0c (A0m (i:=1) A4f.nd (A2f A0d))
   (A0c (A1o (A4j rfl T.bo (A0a (A0q A0z (by rfl) T.au Z0r (A0a (A0u hu (pv 0) A0o) A0d)) A0d)) (A0k (i:=2) A4f.nd)
    (A0c (A5f (A1b A1l (A0u hu (pv 0) A0o) (pv 2)) (A5j (n:=4) rfl (A1a (A0k (i:=3) A4f.nd) (A1a (A0k (i:=4) A4f.nd) (A1a (A0k (i:=5) A4f.nd) (A1a (A0k (i:=6) A4f.nd) A3x))))))
    (A0f (A1o (A1n (pcl Gc9 hr T.dj (A0a (pv 4) (A0a (A0u hu (pv 0) A0o) A0d)))) (A0k (i:=7) A4f.nd)
     (A0f (A1s (A0t (E1p hr.units) (pv 5) (A2f A0d) (A1i _))
      (A0f (A3c (B0a Z0k Z0n Z0o A3h (pv 1) (A0a (A1t (A0a (pv 2) (A0a A0o (A0a (pv 7) (A0a (A1t A0d) A0d))))) A0d))))
      (A0c (A3c (B0a Z0k Z0n Z0o A3h (pv 1) (A0a (A1t (A0a (pv 2) (A0a A0o (A0a (pv 7) (A0a (A1t A0d) A0d))))) A0d)))
      (A0f (A3c (B0a Z0k PySem.F.slot_list_extend PySem.F.type_list_extend B0g (pv 1) (A0a (A3n (N':=["_law_turn","_law_cell_here","_law_k"]) (ix:=(List.replicate 1 none++[some 7,some 2])) rfl (A8r (cl:=[("_law_k",_),("_law_cell_here",_)]) (xs:=["_law_k","_law_cell_here"]) rfl ⟨rfl,rfl,trivial⟩ rfl rfl (by decide +kernel) (by decide +kernel)) (A8n (N0:=["_law_turn"]) (xs:=["_law_cell_here","_law_k"]) (js:=[7,2]) ⟨⟨rfl,Or.inl rfl,(by walk_at "ix")⟩,⟨rfl,Or.inl rfl,(by walk_at "ix")⟩,trivial⟩) (A1n (pcl Gc9 hr T.dj (A0a (pv 5) (A0a (A0u hu (pv 0) A0o) A0d)))) (λ_ _ _ _=>(A0k (i:=0) C5d)) (λ_ _ _ _=>(A1t (A0a (pv 2) (A0a A0o (A0a (pv 1) (A0a (pv 0) A0d))))))) A0d)))))))))))
   (A0f (A0p (pv 1))))),?_⟩
  refine ⟨A0y rfl,λSL hSL=> ?_⟩;have s1:A0r H (upd H SL (.lst [])):=A0e hSL;obtain ⟨ts,hts,pts⟩:=af.li;obtain ⟨lk,hlk,lok⟩:=af.le;have lts:=Paired.length pts
  have rwk:∀e∈rows.map (A4p L),C4r e:=λe he=>by
   walk_at "h"
  refine ⟨_,rfl,ab,_,rfl,(af.same s1).get (A6g x ol),x.ln,_,rfl,.inl (SqL.of (s1 _ _ hts)),_,rfl,(by lia),(by lia),?_⟩;rw [lts]
  refine A7e (n:=rows.length) (λi Z G=>∃(o2 o3 o4 o5 o6 o7:Option V) (ys:List V),Z=[Sro ab,Sro SL,o2,o3,o4,o5,o6,o7]/\A0r H G/\G SL=some (.lst ys)/\A2j G ys (A1f (rows.map (A4p L)) i))
   ⟨none,none,none,none,none,none,[],rfl,s1,A0b,.nil⟩ ?_ ?_
  ·rintro i Z G hi ⟨o2,o3,o4,o5,o6,o7,ys,rfl,sG,hG,st⟩;walk_at "g";rw [Int.zero_add];have he:rows[i]? =some rows[i]:=Z0b hi;have hti:ts[i]? =some (ts[i]'(by lia)):=Z0b _;obtain ⟨e,he,b,c,d,tv,ev,_,hb,_,hc,_,hd,tr⟩:=A6w pts hti;obtain ⟨es1,gd⟩:=fo.row i e he;have ok:=gd.rw' lok;have ole:=A9f rwk i;have ol2:i*3660<=5*3660:=Nat.mul_le_mul_right _ (by lia);refine ⟨_,rfl,ab,_,rfl,(af.same sG).get (A6g x ol),_,rfl,x.ln,_,_,_,rfl,rfl,SqL.of (sG _ _ hts),(A0j hti),b,_,ev,SqT.of (sG _ _ hb),rfl,_,_,rfl,_,_,rfl,_,_,rfl,_,_,rfl,rfl,?_⟩;have Hl:=(af.same sG);refine ⟨_,rfl,_,rfl,ab,_,rfl,Hl.get (A9e x ol),c,x.ld,e.own,lk,e.own.map L,rfl,sG _ _ hc,sG _ _ hlk,C1z lok gd.ax.sub,ok.go,λqc G1 hqc t1 cc=> ?_⟩;obtain ⟨ps,hqc1,tp⟩:=cc.ex;have hG1:=t1 _ _ hG;have qS:qc≠SL:=λz=>by subst z;rw [hG] at hqc;cases hqc
   have s01:=sG.trans t1;have oks:OkS e.sums:=λy hy=>(lok.ok y (gd.sub y hy)).2.2.2;have shs:SeqAt.shaped (B6a e.sums)=true:=B3p (D2c oks) (by have:=(B1j e.sums).1;lia);have she:SeqAt.shaped (.list [])=true:=B3p (by simp [PyData.canLay0,PyData.canLayAll0]) (by simp [PyData.depth,PyData.depthAll]);have esum:(A4p L e).ss=e.sums.map L:=rfl;refine ⟨qc,rfl,⟨_,SqL.of hqc1⟩,?_⟩
   refine A1v (K:=K) (a:=qc) (xs:=ps.map V.ref) (λj Z G2=>∃(o7:Option V) (zs:List V),Z=[Sro ab,Sro SL,Sio (i:Nat),Sso e.nm,Sro c,Sro d,some tv,o7]/\KB SL G1 G2/\G2 SL=some (.lst zs)/\A2j G2 zs (A1f (rows.map (A4p L)) i++((A1e (e.own.map L)).take j).flatMap (A1j i (e.sums.map L))))
    ⟨o7,ys,rfl,KB.refl,hG1,by simpa using st.kt (KT.same t1)⟩ (by rintro j Z G2 _ ⟨_,_,_,kb,_⟩;exact SqL.of (kb _ _ qS hqc1)) ?_ ?_
   ·rintro j y Z G2 hy ⟨o7,zs,rfl,kb,h2,st2⟩;walk_at "g";obtain ⟨pc,hpc,rfl⟩:=A2e hy;obtain ⟨ce,hce,epc⟩:=tp.get hpc;have epc2:G2 pc=some (.tup (ce.map V.int)):=kb _ _ (A1g epc hG1 (by intro z;cases z)) epc;have s02:A0r H G2:=KB.same s01 kb hSL;have lz:=Paired.length st2;have lp:=C0s ok (k:=(i:Int)) j;have lp:(((A1e (e.own.map L)).take j).flatMap (A1j i (e.sums.map L))).length<=3660:=lp;rw [Z06] at lz
    have nxt:∀(ws:List V) (G3:Hp),KB SL G1 G3->G3 SL=some (.lst ws)->A2j G3 ws ((A1f (rows.map (A4p L)) i++((A1e (e.own.map L)).take j).flatMap (A1j i (e.sums.map L)))++A1j i (e.sums.map L) ce)->∃(o7:Option V) (zs:List V),[some (.ref ab),some (.ref SL),some (.int (i:Nat)),some (.str e.nm),some (.ref c),some (.ref d),some tv,some (.ref pc)]=[some (.ref ab),some (.ref SL),some (.int (i:Nat)),some (.str e.nm),some (.ref c),some (.ref d),some tv,o7]/\KB SL G1 G3/\G3 SL=some (.lst zs)/\A2j G3 zs (A1f (rows.map (A4p L)) i++((A1e (e.own.map L)).take (j+1)).flatMap (A1j i (e.sums.map L))):=λws G3 kb3 h3 st3=>by
     refine ⟨_,ws,rfl,kb3,h3,?_⟩;rw [Z14,hce,Z2f,List.flatMap_append,List.flatMap_singleton,<-Z0z];exact st3
    refine ⟨_,rfl,A0y rfl,λe0 he0=> ?_⟩;obtain ⟨G3,u1,he1,eNH⟩:=nH (o:= .lst []) he0
    try rw [eNH]
    have s03:=s02.trans u1;have h3:=u1 _ _ h2;have kb3:=kb.trans (KB.of u1);have st3:=st2.kt (KT.same u1);have epc3:=u1 _ _ epc2;refine ⟨B6a e.sums,.list [],C6t (s03 _ _ hd),.lst he1 .nil,shs,she,_,rfl,?_⟩;show if PyData.eqv (B6a e.sums) (.list [])=true then _ else _
    rw [D6y];refine A3u (λhz=> ?_) (λhz=> ?_)
    ·refine ⟨_,rfl,.inl ⟨rfl,_,SqL.of h3⟩,_,rfl,_,rfl,A0y rfl,λe1 he1=>⟨A0y rfl,λb1 hb1=> ?_⟩⟩;have u2:A0r G3 (upd (upd G3 e1 (.tup [])) b1 (.tup [.int (i:Nat),.str "set",.ref pc,.ref e1])):=(A0e he1).trans (A0e hb1);have g1:upd (upd G3 e1 (.tup [])) b1 (.tup [.int (i:Nat),.str "set",.ref pc,.ref e1]) b1=some (.tup [.int (i:Nat),.str "set",.ref pc,.ref e1]):=A0b;have g2:upd (upd G3 e1 (.tup [])) b1 (.tup [.int (i:Nat),.str "set",.ref pc,.ref e1]) e1=some (.tup []):=A4n hb1 A0b;generalize upd (upd G3 e1 (.tup [])) b1 (.tup [.int (i:Nat),.str "set",.ref pc,.ref e1])=G4 at u2 g1 g2;have kS:KT G4 (upd G4 SL (.lst (zs++[.ref b1]))):=KT.at (u2 _ _ h3) (by intro xs z;cases z);refine ⟨SL,_,_,rfl,rfl,u2 _ _ h3,A1c (by lia),nxt _ _ ((kb3.trans (KB.of u2)).upd) A0b ?_⟩;unfold A1j;rw [Z12 (by rw [hz];rfl)];exact B1o ((st3.kt (KT.same u2)).kt kS) (.cons ⟨b1,pc,e1,rfl,kS _ _ g1,kS _ _ (u2 _ _ epc3),kS _ _ g2⟩ .nil)
    ·refine ⟨_,rfl,.inl ⟨rfl,_,SqL.of h3⟩,_,rfl,_,rfl,A0y rfl,λe1 he1=>⟨A0y rfl,λb1 hb1=> ?_⟩⟩;have u2:A0r G3 (upd (upd G3 e1 (.tup [])) b1 (.tup [.int (i:Nat),.str "start",.ref pc,.ref e1])):=(A0e he1).trans (A0e hb1);have g1:upd (upd G3 e1 (.tup [])) b1 (.tup [.int (i:Nat),.str "start",.ref pc,.ref e1]) b1=some (.tup [.int (i:Nat),.str "start",.ref pc,.ref e1]):=A0b;have g2:upd (upd G3 e1 (.tup [])) b1 (.tup [.int (i:Nat),.str "start",.ref pc,.ref e1]) e1=some (.tup []):=A4n hb1 A0b;generalize upd (upd G3 e1 (.tup [])) b1 (.tup [.int (i:Nat),.str "start",.ref pc,.ref e1])=G4 at u2 g1 g2;have kS:KT G4 (upd G4 SL (.lst (zs++[.ref b1]))):=KT.at (u2 _ _ h3) (by intro xs z;cases z);refine ⟨SL,_,_,rfl,rfl,u2 _ _ h3,A1c (by lia),?_⟩;have st5:A2j (upd G4 SL (.lst (zs++[.ref b1]))) (zs++[.ref b1]) ((A1f (rows.map (A4p L)) i++((A1e (e.own.map L)).take j).flatMap (A1j i (e.sums.map L)))++[(((i:Int),"start",ce,[]):Stp)]):=B1o ((st3.kt (KT.same u2)).kt kS) (.cons ⟨b1,pc,e1,rfl,kS _ _ g1,kS _ _ (u2 _ _ epc3),kS _ _ g2⟩ .nil);have kb5:KB SL G1 (upd G4 SL (.lst (zs++[.ref b1]))):=(kb3.trans (KB.of u2)).upd;have h5:upd G4 SL (.lst (zs++[.ref b1])) SL=some (.lst (zs++[.ref b1])):=A0b;have epc5:=kS _ _ (u2 _ _ epc3);generalize upd G4 SL (.lst (zs++[.ref b1]))=G5 at st5 kb5 h5 epc5;have s05:A0r H G5:=KB.same s01 kb5 hSL;have H5:=af.same s05;refine ⟨_,rfl,.inl ⟨rfl,_,SqL.of h5⟩,_,rfl,_,rfl,ab,_,rfl,H5.get (A9e x ol),d,x.ld,e.sums,lk,e.sums.map L,rfl,s05 _ _ hd,s05 _ _ hlk,C1z lok gd.sub,ok.gs,λqt G6 hqt t6 ct=> ?_⟩;obtain ⟨qs,hqt6,tq⟩:=ct.ex;have lqs:=tq.len;have lcs:=ok.cells.2;have lcs:(A1e (e.sums.map L)).length<=60:=lcs;refine ⟨qt,rfl,⟨_,SqL.of hqt6⟩,λD2 hD2=> ?_⟩;refine A3j (K:=K) (a:=qt) (D:=D2) (xs:=qs.map V.ref) (λm vs G7=>A0r G6 G7/\G7 D2=some (.lst vs)/\vs.length=m/\A2j G7 vs (((A1e (e.sums.map L)).take m).map λu=>(((i:Int),"add",ce,u):Stp))) ⟨A0e hD2,A0b,rfl,.nil⟩ (by rintro m vs G7 ⟨s2,_⟩;exact SqL.of (s2 _ _ hqt6)) ?_ ?_
     ·rintro m v vs G7 hv ⟨s7,hD7,lv,st7⟩;refine B9q ?_;intro N';obtain ⟨pu,hpu,rfl⟩:=A2e hv;obtain ⟨uu,huu,epu⟩:=tq.get hpu;have hm:m<qs.length:=(Z03.mp hpu).1;refine ⟨⟨rfl,rfl,True.intro⟩,_,rfl,_,rfl,_,rfl,A0y rfl,λb2 hb2=> ?_⟩;have sb:A0r G7 (upd G7 b2 (.tup [.int (i:Nat),.str "add",.ref pc,.ref pu])):=A0e hb2;have kD:KT (upd G7 b2 (.tup [.int (i:Nat),.str "add",.ref pc,.ref pu])) (upd (upd G7 b2 (.tup [.int (i:Nat),.str "add",.ref pc,.ref pu])) D2 (.lst (vs++[.ref b2]))):=KT.at (sb _ _ hD7) (by intro xs z;cases z);refine ⟨sb _ _ hD7,A1c (by lia),A0n (s7.trans sb) hD2,A0b,by simp [lv],?_⟩;rw [Z14,huu,Z2f,Z0s];exact B1o (st7.kt ((KT.same sb).trans kD)) (.cons ⟨b2,pc,pu,rfl,kD _ _ A0b,kD _ _ (sb _ _ (s7 _ _ (t6 _ _ epc5))),kD _ _ (sb _ _ (s7 _ _ epu))⟩ .nil)
     ·rintro vs G7 ⟨s7,hD7,lv,st7⟩;rw [Z08,lqs,Z18] at st7;rw [Z08] at lv;have h7:=s7 _ _ (t6 _ _ h5);have kL:KT G7 (upd G7 SL (.lst ((zs++[.ref b1])++vs))):=KT.at h7 (by intro xs z;cases z);refine ⟨SL,D2,_,_,rfl,rfl,h7,hD7,A2o (by simp;lia),nxt _ _ ((kb5.trans (KB.of (t6.trans s7))).upd) A0b ?_⟩
      have e2:A1j i (e.sums.map L) ce=[(((i:Int),"start",ce,[]):Stp)]++(A1e (e.sums.map L)).map λu=>(((i:Int),"add",ce,u):Stp):=by
       unfold A1j;rw [Z0t (λq=>hz (List.map_eq_nil_iff.mp q))];rfl
      rw [e2,<-Z0z];exact B1o (st5.kt ((KT.same (t6.trans s7)).trans kL)) (st7.kt kL)
   ·rintro Z G2 ⟨o7,zs,rfl,kb,h2,st2⟩;rw [Z08,tp.len,Z18] at st2;refine ⟨_,_,_,_,_,_,zs,rfl,KB.same s01 kb hSL,h2,?_⟩;rw [B3m (show (rows.map (A4p L))[i]? =some (A4p L e) by rw [Z1z,he];rfl)];exact st2
  ·rintro Z G ⟨o2,o3,o4,o5,o6,o7,ys,rfl,sG,hG,st⟩;exact ⟨_,rfl,k SL ys G hSL sG hG st⟩
theorem B5p (T:Txt K mg t):FO P w base T.ft 13 D3n:=by
 have Gb9:= @B5g P w K mg base t T 6;refine T.ft.F.ok A4e (by walk_at "ln") λ_ A _ s H _ Q E hr h=> ?_
 ·obtain ⟨ab,st,x,ol,L,nm,es,tb,T0,rows,os,sp,kk,e,lk,rfl,af,fo,sta,sin,lok,k⟩:=h;have hu:=A6c hr;obtain ⟨_,full,hrow⟩:=B0s lok fo sin;obtain ⟨b,c,u,eb,h1,hc,hu'⟩:=sta;cases eb
  refine ⟨_,(A0c (A1s (A0t A3f (A1b A1d (pv 1) A0g) A0o (A1i _))
    (A0f (A0p (A2f A0d)))
    A0s)
   (A0c (A5f (A1b A1l (A0u hu (pv 0) A0o) (A1b A1d (pv 1) A0g)) (A5j (n:=4) rfl (A1a (A0k (i:=2) A4e.nd) (A1a (A0k (i:=3) A4e.nd) (A1a (A0k (i:=4) A4e.nd) (A1a (A0k (i:=5) A4e.nd) A3x))))))
   (A0c (A0m (i:=6) A4e.nd A8z)
   (A0c (A1o (D1b rfl T.mx (A0a (A0x A8k (pv 3) (pv 4)) (A0a (A0x B7u (A1b A1d (pv 1) A0g) (A1b A1d (pv 1) A0g)) A0d))) (A5j (n:=2) rfl (A1a (A0k (i:=7) A4e.nd) (A1a (A0k (i:=8) A4e.nd) A3x)))
    (A0f (A4i hu (pv 6) (pv 7) (pv 8) rfl)))
   (A0f (A0p (pcl Gb9 hr T.c8 (A0a (pv 5) (A0a (pv 6) A0d))))))))),?_⟩
  refine ⟨_,rfl,st,_,_,_,rfl,rfl,SqT.of h1,A0j (j:=1) rfl,rfl,_,rfl,A3u (λh=> ?_) (λh=> ?_)⟩
  ·have e0:rdS lk rows sp=[]:=Z12 (V.str.inj h);rw [e0] at k;exact ⟨A0y rfl,λp hp=>k p [] _ hp (A0e hp) A0b .nil⟩
  have hw:sp.2.1≠"start":=λz=>h (by rw [z]);obtain ⟨e1,ta,ra⟩:=full hw;rw [e1] at k;obtain ⟨ts,hts,pts⟩:=af.li;have lts:=Paired.length pts;have hkl:=(Z03.mp sin.he).1;have hti:ts[kk]? =some (ts[kk]'(by lia)):=Z0b _;obtain ⟨e',he',b2,ca,cu,tv,ev,_,hb2,_,hca,_,hcu,tr⟩:=A6w pts hti;rw [sin.he] at he';cases he';have a0:atI ts sp.1=some (.ref b2):=by rw [sin.hk];exact A0j (by rw [hti,ev])
  have lc:=ra.lc;have lt:=ra.lt;have l8:=ra.l8;have lc:sp.2.2.1.length=e.own.length:=lc;have lt:sp.2.2.2.length=e.sums.length:=lt;refine ⟨_,rfl,ab,_,rfl,af.get (A6g x ol),_,rfl,st,_,_,_,rfl,rfl,SqT.of h1,A0j (j:=0) rfl,x.ln,_,_,_,rfl,rfl,SqL.of hts,a0,b2,_,rfl,SqT.of hb2,rfl,_,_,rfl,_,_,rfl,_,_,rfl,_,_,rfl,rfl,?_⟩;refine λat_ hat=> ?_;obtain ⟨G1,sa,ha,eNH⟩:=nH (o:= .dK []) hat
  try rw [eNH]
  refine ⟨_,rfl,_,rfl,ca,cu,_,_,rfl,rfl,sa _ _ hca,sa _ _ hcu,A2o (by rw [Z08,Z08];lia),λkl hkl=> ?_⟩;have t1:A0r G1 (upd G1 kl (.lst (e.own.map V.str++e.sums.map V.str))):=A0e hkl;have hkl1:upd G1 kl (.lst (e.own.map V.str++e.sums.map V.str)) kl=some (.lst ((e.own++e.sums).map V.str)):=by rw [A0b,Z0s]
  generalize upd G1 kl (.lst (e.own.map V.str++e.sums.map V.str))=G2 at t1 hkl1;have s2:=sa.trans t1;refine ⟨_,rfl,st,_,_,_,rfl,rfl,SqT.of (s2 _ _ h1),A0j (j:=2) rfl,_,rfl,st,_,_,_,rfl,rfl,SqT.of (s2 _ _ h1),A0j (j:=3) rfl,c,u,_,_,rfl,rfl,s2 _ _ hc,s2 _ _ hu',A2o (by rw [Z08,Z08];lia),λtt G3 t3 htt=> ?_⟩;have htt:G3 tt=some (.tup ((sp.2.2.1++sp.2.2.2).map V.int)):=by rw [Z0s];exact htt
  have s3:=s2.trans t3;have hkl3:=t3 _ _ hkl1;have ha3:=t3 _ _ (t1 _ _ ha);refine ⟨kl,tt,_,_,rfl,SqL.of hkl3,SqT.of htt,?_⟩
  refine D5f (K:=K) (a:=kl) (b:=tt) (xs:=(e.own++e.sums).map V.str) (ys:=(sp.2.2.1++sp.2.2.2).map V.int) (λj Z G=>∃(o7 o8:Option V),Z=[Sro ab,Sro st,Sso e.nm,Sro ca,Sro cu,some tv,Sro at_,o7,o8]/\A0r H G/\G kl=some (.lst ((e.own++e.sums).map V.str))/\G tt=some (.tup ((sp.2.2.1++sp.2.2.2).map V.int))/\G at_=some (.dK (A4g [] ((((e.own++e.sums).map (Sum.inr:Str->Key)).zip ((sp.2.2.1++sp.2.2.2).map V.int)).take j))))
   ⟨none,none,rfl,s3,hkl3,htt,ha3⟩ (by rintro j Z G ⟨_,_,_,_,z1,z2,_⟩;exact ⟨SqL.of z1,SqT.of z2⟩) (by rw [Z08,Z08,Z06,Z06];lia) ?_ ?_
  ·rintro j v1 v2 Z G p hv1 hv2 ⟨o7,o8,rfl,sG,g1,g2,g3⟩ hp;walk_at "g";obtain ⟨nx,hnx,rfl⟩:=A2e hv1;obtain ⟨ny,hny,rfl⟩:=A2e hv2;have hj:=(Z03.mp hnx).1;rw [Z06] at hj;have sp':A0r G (upd G p (.tup [.str nx,.int ny])):=A0e hp;have hpp:upd G p (.tup [.str nx,.int ny]) p=some (.tup [.str nx,.int ny]):=A0b;generalize upd G p (.tup [.str nx,.int ny])=G5 at sp' hpp;have lm:=A5n ((((e.own++e.sums).map (Sum.inr:Str->Key)).zip ((sp.2.2.1++sp.2.2.2).map V.int)).take j) [];rw [Z0x,Z2g] at lm;have g5:=sp' _ _ g3;refine ⟨p,_,rfl,SqT.of hpp,rfl,_,_,rfl,_,_,rfl,rfl,?_⟩;refine ⟨_,rfl,_,rfl,_,rfl,at_,_,rfl,B6b.k (k:=Sum.inr nx) g5 (A1c (by lia)),_,_,rfl,A0n (sG.trans sp') hat,by rw [A0h (A1g (sp' _ _ g1) g5 (by intro z;cases z))];exact sp' _ _ g1,by rw [A0h (A1g (sp' _ _ g2) g5 (by intro z;cases z))];exact sp' _ _ g2,?_⟩
   have hz:(((e.own++e.sums).map (Sum.inr:Str->Key)).zip ((sp.2.2.1++sp.2.2.2).map V.int))[j]? =some (Sum.inr nx,.int ny):=by
    rw [Z2m];exact ⟨by rw [Z1z,hnx];rfl,by rw [Z1z,hny];rfl⟩
   rw [A0b,Z14,hz,Z2f,C2o]
  ·rintro Z G ⟨o7,o8,rfl,sG,g1,g2,g3⟩
   have hl:((e.own++e.sums).map V.str).length=(((e.own++e.sums).map (Sum.inr:Str->Key)).zip ((sp.2.2.1++sp.2.2.2).map V.int)).length:=by
    rw [List.length_zip,Z08,Z08,Z08,Z06,Z06]
    lia
   rw [hl,Z18] at g3;exact ⟨_,rfl,_,rfl,tv,e.tm,at_,atM e (toM sp),ai lk,rfl,(tr.same B9z).same sG,g3,ta,λp1 es1 G6 hp1 s6 h6 r6=>k p1 es1 G6 (sG.free hp1) (sG.trans s6) h6 r6⟩
theorem B2k {r':Str×List Int} (h:nk r=nk r'):r=r':=by
 unfold nk at h;injection h with h1 h2;injection h2 with h2 _;have e1:r.1=r'.1:=Sum.inr.inj (Sum.inl.inj h1);have e2:r.2.map Sum.inl=r'.2.map Sum.inl:=Sum.inr.inj h2;exact Prod.ext e1 ((List.map_inj_right (λa b z=>Sum.inl.inj z)).mp e2)
theorem B2f {r:Str×List Int}:∀(rs:List (Str×List Int)) (kvs:List (A1w×V)),(A1y (A5z kvs rs) (nk r)).isSome=true↔(A1y kvs (nk r)).isSome=true\/r∈rs
 | [],kvs=>by simp [A5z]
 | q::rs,kvs=>by
  have h:=B2f rs (A3v kvs (nk q) (V.bl true)) (r:=r);show (A1y (A5z (A3v kvs (nk q) (V.bl true)) rs) (nk r)).isSome=true↔_;rw [h,A7q];by_cases e:r=q
  ·subst e;simp
  ·rw [Z0t (λz=>e (B2k z)),Z0e];constructor
   ·rintro (z | z)
    ·exact .inl z
    ·exact .inr (.inr z)
   ·rintro (z | z | z)
    ·exact .inl z
    ·exact absurd z e
    ·exact .inr z
def D9y (c:List Int):PyData:= .tuple (c.map PyData.int)
theorem C2k:∀c:List Int,PyData.depthAll (c.map PyData.int)=0/\PyData.canLayAll0 (c.map PyData.int)=true/\PyData.eqvAll (c.map PyData.int) (c.map PyData.int)=true
 | []=>⟨rfl,rfl,by simp [PyData.eqvAll]⟩
 | i::r=>by
  obtain ⟨h1,h2,h3⟩:=C2k r;simp [PyData.depthAll,PyData.depth,PyData.canLayAll0,PyData.canLay0,PyData.eqvAll,PyData.eqv,h1,h2,h3]
theorem B2q {H:Hp}:∀c:List Int,A5b H (c.map V.int) (c.map PyData.int)
 | []=> .nil
 | i::r=> .cons (.int i) (B2q r)
def B4m (W:Str->List (List Int)) (es:List (Str×List Str)):List (Str×List Int):=es.flatMap λe=>(W e.1).map λc=>(e.1,c)
theorem D3r:r∈B4m W es↔r.1∈es.map (·.1)/\r.2∈W r.1:=by
 unfold B4m;rw [List.mem_flatMap];constructor
 ·rintro ⟨e,he,h⟩;obtain ⟨c,hc,rfl⟩:=Z2c.mp h;exact ⟨List.mem_map_of_mem he,hc⟩
 ·rintro ⟨h1,h2⟩;obtain ⟨e,he,e1⟩:=Z2c.mp h1;exact ⟨e,he,Z2c.mpr ⟨r.2,by rw [e1];exact h2,Prod.ext e1 rfl⟩⟩
abbrev InW (kvs:List (A1w×V)) (r:Str×List Int):Prop:=(A1y kvs (nk r)).isSome=true
theorem B7q {kvs:List (A1w×V)}:InW (C6w lk rows kvs s) r↔InW kvs r\/(InW kvs (wrS rows s)/\r∈rdS lk rows s):=by
 unfold C6w;by_cases h:(A1y kvs (nk (wrS rows s))).isSome=true
 ·rw [Z12 h];show (A1y (A5z kvs (rdS lk rows s)) (nk r)).isSome=true↔_;rw [B2f];exact ⟨λz=>z.imp id λy=>⟨h,y⟩,λz=>z.imp id λy=>y.2⟩
 ·rw [Z0t h];exact ⟨.inl,λz=>z.elim id λy=>absurd y.1 h⟩
theorem B2u (lk:List (Key×V)) (rows:List LnM) (kvs:List (A1w×V)) (s:Stp) (ss:List Stp):A9z lk rows kvs (s::ss)=A9z lk rows (C6w lk rows kvs s) ss:=rfl
theorem C1a {lk:List (Key×V)} {rows:List LnM} {r:Str×List Int}:∀(ss:List Stp) {kvs:List (A1w×V)},InW kvs r->InW (A9z lk rows kvs ss) r
 | [],_,h=>h
 | s::ss,kvs,h=>by
  rw [B2u];exact C1a ss (B7q.mpr (.inl h))
theorem B8a {lk:List (Key×V)} {rows:List LnM} {r:Str×List Int}:∀(ss:List Stp) {kvs:List (A1w×V)},InW (A9z lk rows kvs ss) r->InW kvs r\/∃s∈ss,InW (A9z lk rows kvs ss) (wrS rows s)/\r∈rdS lk rows s
 | [],_,h=> .inl h
 | s::ss,kvs,h=>by
  rw [B2u] at h⊢;rcases B8a ss h with z | ⟨s',h1,h2,h3⟩
  ·rcases B7q.mp z with z | ⟨z1,z2⟩
   ·exact .inl z
   ·exact .inr ⟨s,.head _,C1a ss (B7q.mpr (.inl z1)),z2⟩
  ·exact .inr ⟨s',.tail _ h1,h2,h3⟩
theorem A6v.irrefl {a:List Int} (h:A6v a a):False:=by
 obtain ⟨j,x,y,h1,h2,h3,_⟩:=h;rw [h1] at h2;cases h2
 lia
theorem A6v.asymm {a b:List Int} (h:A6v a b) (h':A6v b a):False:=by
 obtain ⟨j,x,y,h1,h2,h3,h4⟩:=h;obtain ⟨j',x',y',g1,g2,g3,g4⟩:=h';rcases Nat.lt_trichotomy j j' with z | z | z
 ·have:=g4 j z;rw [h1,h2] at this;cases this
  lia
 ·subst z;rw [h1] at g2;rw [h2] at g1;cases g1;cases g2
  lia
 ·have:=h4 j' z;rw [g1,g2] at this;cases this
  lia
def Bef (s' s:Stp):Prop:=s'.1<s.1\/(s'.1=s.1/\(s'.2.2.1=s.2.2.1\/A6v s'.2.2.1 s.2.2.1))
theorem D3u {α:Type} {R:α->α->Prop}:∀{l:List α},(∀x∈l,∀y∈l,R x y)->l.Pairwise R
 | [],_=> .nil
 | x::r,h=> .cons (λy hy=>h x (.head _) y (.tail _ hy)) (D3u λa ha b hb=>h a (.tail _ ha) b (.tail _ hb))
theorem B0u {k:Int} {ss:List Int} (h:s∈A1j k ss c):s.1=k/\s.2.2.1=c:=by
 unfold A1j at h;split at h
 ·rw [Z0w.mp h];exact ⟨rfl,rfl⟩
 ·rcases Z0e.mp h with h | h
  ·rw [h];exact ⟨rfl,rfl⟩
  ·obtain ⟨u,_,rfl⟩:=Z2c.mp h;exact ⟨rfl,rfl⟩
theorem D3m (rws:List Rw) (n:Nat):(A1f rws n).Pairwise Bef:=by
 unfold A1f;rw [List.pairwise_flatMap];refine ⟨λk _=> ?_,List.pairwise_lt_range.imp λ{a b} hab x hx y hy=> ?_⟩
 ·unfold A9l;split
  ·rename_i e he;unfold A4h;rw [List.pairwise_flatMap];refine ⟨λc _=>D3u λx hx y hy=> ?_,(B1t e.so).imp λ{a b} hab x hx y hy=> ?_⟩
   ·have h1:=B0u hx;have h2:=B0u hy;exact .inr ⟨h1.1.trans h2.1.symm,.inl (h1.2.trans h2.2.symm)⟩
   ·have h1:=B0u hx;have h2:=B0u hy;exact .inr ⟨h1.1.trans h2.1.symm,.inr (by rw [h1.2,h2.2];exact hab)⟩
  ·exact .nil
 ·have lm:∀{m:Nat} {s:Stp},s∈A9l rws m->s.1=(m:Int):=λ{m s} h=>by
   unfold A9l at h;split at h
   ·unfold A4h at h;obtain ⟨c,_,h⟩:=List.mem_flatMap.mp h;exact (B0u h).1
   ·cases h
  exact .inl (by rw [lm hx,lm hy];lia)
theorem D7c (lok:B2i lk L nm) (fo:A9i L nm es tb T rows os) (A B:List Stp) (s:Stp) (ho:A1f (rows.map (A4p L)) rows.length=A++s::B) (s':Stp) (hs':s'∈s::A):wrS rows s∉rdS lk rows s':=by
 intro hr;have hin:s∈A1f (rows.map (A4p L)) rows.length:=by rw [ho];simp
 have hin':s'∈A1f (rows.map (A4p L)) rows.length:=by
  rw [ho];rcases Z0e.mp hs' with z | z
  ·rw [z];simp
  ·exact Z05 _ z
 have bef:Bef s' s:=by
  rcases Z0e.mp hs' with z | z
  ·rw [z];exact .inr ⟨rfl,.inl rfl⟩
  ·have pw:=D3m (rows.map (A4p L)) rows.length;rw [ho,List.pairwise_append] at pw;exact pw.2.2 s' z s (.head _)
 obtain ⟨k,e,si⟩:=A7g hin;obtain ⟨k',e',si'⟩:=A7g hin';obtain ⟨_,full',hrow'⟩:=B0s lok fo si';obtain ⟨_,_,hrow⟩:=B0s lok fo si
 have hw:s'.2.1≠"start":=λz=>by
  unfold rdS at hr;rw [Z12 z] at hr;cases hr
 obtain ⟨e1,_,ra⟩:=full' hw;obtain ⟨g1,gd'⟩:=fo.row k' e' si'.he;obtain ⟨g2,gd⟩:=fo.row k e si.he;have ew:wrS rows s=(e.nm,s.2.2.1):=by unfold wrS;rw [hrow]
 rw [e1,ew] at hr;obtain ⟨ys,hys,wi,own⟩:=gd'.tm.rin _ _ _ hr;have hys:(e.nm,ys)∈es.take (T+k'+1):=hys;obtain ⟨j,hj⟩:=List.getElem?_of_mem hys;have hjl:=(Z03.mp hj).1;rw [Z0x] at hjl;rw [List.getElem?_take_of_lt (by lia)] at hj
 have hjk:j=T+k:=by
  have h1:(es.map (·.1))[j]? =some e.nm:=by rw [Z1z,hj];rfl
  have h2:(es.map (·.1))[T+k]? =some e.nm:=by rw [Z1z,g2];rfl
  exact (List.getElem?_inj (by rw [Z08];lia) fo.eo.nd).mp (h1.trans h2.symm)
 have hkk:k<=k':=by lia
 have hk1:=si.hk;have hk2:=si'.hk;rcases bef with z | ⟨z1,z2⟩
 ·lia
 ·have ek:k'=k:=by lia
  subst ek;have ee:e'=e:=by have:=si.he;rw [si'.he] at this;exact Z1a this
  subst ee;have ah:=own rfl;rw [D9o gd'.nd ra.lc ra.lt] at ah;have ah:A6v s.2.2.1 s'.2.2.1:=ah;rcases z2 with z2 | z2
  ·rw [z2] at ah;exact ah.irrefl
  ·exact ah.asymm z2
def axE (es:List (Str×List Str)) (x:Str):List Str:=((es.find? λe=>decide (e.1=x)).map (·.2)).getD []
theorem B5i:∀{es:List (Str×List Str)},(es.map (·.1)).Nodup->∀{e:Str×List Str},e∈es->axE es e.1=e.2
 | [],_,_,h=>by cases h
 | p::r,nd,e,h=>by
  rw [Z0p,Z15] at nd;unfold axE;by_cases z:p.1=e.1
  ·rw [List.find?_cons_of_pos (by simpa using z)];rcases Z0e.mp h with h | h
   ·rw [h];rfl
   ·exact absurd (by rw [z];exact List.mem_map_of_mem h) nd.1
  ·rw [List.find?_cons_of_neg (by simpa using z)];rcases Z0e.mp h with h | h
   ·rw [h] at z;exact absurd rfl z
   ·exact B5i nd.2 h
abbrev szE (L:Str->Int) (es:List (Str×List Str)) (x:Str):List Int:=(axE es x).map L
abbrev wkF (lk:List (Key×V)) (L:Str->Int) (es:List (Str×List Str)) (rows:List LnM) (os:List Str):List (A1w×V):=A9z lk rows (A5z [] (A7z (szE L es) os)) (A1f (rows.map (A4p L)) rows.length).reverse
def FI (p:Nat->Bool):Nat->Option Nat
 | 0=>none
 | i+1=>match FI p i with
  | some j=>some j
  | none=>if p i=true then some i else none
def LI (p:Nat->Bool):Nat->Option Nat
 | 0=>none
 | i+1=>if p i=true then some i else LI p i
def wrA (rows:List LnM) (ss:List Stp) (r:Str×List Int) (j:Nat):Bool:=decide (ss[j]?.map (wrS rows)=some r)
def rdA (lk:List (Key×V)) (rows:List LnM) (wk:List (A1w×V)) (ss:List Stp) (r:Str×List Int) (j:Nat):Bool:=match ss[j]? with
 | some s=>(A1y wk (nk (wrS rows s))).isSome&&decide (r∈rdS lk rows s)
 | none=>false
def B3h (kvs:List (A1w×V)) (rs:List (Str×List Int)) (v:V):List (A1w×V):=rs.foldl (λk r=>A3v k (nk r) v) kvs
theorem B0x (kvs:List (A1w×V)) (rs:List (Str×List Int)) (r:Str×List Int) (v:V):B3h kvs (rs++[r]) v=A3v (B3h kvs rs v) (nk r) v:=by
 unfold B3h;rw [List.foldl_append];rfl
theorem A7d (v:V):∀(rs:List (Str×List Int)) (kvs:List (A1w×V)),(B3h kvs rs v).length<=kvs.length+rs.length
 | [],_=>Z09 _
 | r::rs,kvs=>by
  have h1:=A7d v rs (A3v kvs (nk r) v);have h2:=A3t kvs (nk r) v;show (B3h (A3v kvs (nk r) v) rs v).length<=kvs.length+(rs.length+1)
  lia
theorem B0i {r:Str×List Int} {v:V}:∀(rs:List (Str×List Int)) (kvs:List (A1w×V)),A1y (B3h kvs rs v) (nk r)=if r∈rs then some v else A1y kvs (nk r)
 | [],kvs=>by simp [B3h]
 | q::rs,kvs=>by
  have h:=B0i (r:=r) (v:=v) rs (A3v kvs (nk q) v);show A1y (B3h (A3v kvs (nk q) v) rs v) (nk r)=_;rw [h,A7q];by_cases e:r=q
  ·subst e;simp
  ·rw [Z0t (λz=>e (B2k z))];by_cases m:r∈rs
   ·simp [m]
   ·simp [m,e]
abbrev B4g (L:Str->Int) (rows:List LnM) (ss:List Stp):Prop:=∀s∈ss,∃k e,D0i L rows s k e
inductive B5v (P:Program) (w:World) (A:Adr) (vs:List V) (H:Hp) (Q:VK):Prop
 | mk (p sl:Addr) (L:Str->Int) (nm:List Str) (es:List (Str×List Str)) (rows:List LnM) (os:List Str) (ys:List V) (ss:List Stp) (_:vs=[.ref p,.ref sl]) (_:ClF A H p L nm es rows os) (_:H sl=some (.lst ys)) (_:A2j H ys ss) (_:B4g L rows ss) (_:ss.length<=20000) (_:∀(D:Addr) (kvs:List (A1w×V)) (H':Hp),H D=none->A0r H H'->A3l P w [true,false] H' D kvs->(∀r,A1y kvs (nk r)=(FI (wrA rows ss r) ss.length).map λ(j:Nat)=>V.int ((j:Int)+1))->Q (.ref D) H'):B5v P w A vs H Q
def C8v (P:Program) (w:World) (A:Adr):Sp:=λvs H Q _=>B5v P w A vs H Q
theorem B9e (T:Txt K mg t):FO P w base T.ef 2 (C8v P w t):=by
 have Gb1:= @A7l P w K mg base t T;refine T.ef.F.ok A6d (by walk_at "ln") λ_ A _ s H _ Q E hr h=> ?_
 ·obtain ⟨p,sl,L,nm,es,rows,os,ys,ss,rfl,cl,hsl,st,sin,l20,k⟩:=h;have hn:=B4r hr;have lys:=Paired.length st;obtain ⟨dx,l,ad,tl,ln,o,lk,ak,xs,hp,hl,lok,had,ar,ho,hln,lis,la⟩:=cl.ex
  refine ⟨_,(A0c (A0m (i:=2) A6d.nd (A7t (sh:=[true,false])))
   (A0c (A1o (C2r rfl T.fh (A0a (pv 1) A0d)) (A5j (n:=2) rfl (A1a (A0k (i:=3) A6d.nd) (A1a (A0k (i:=4) A6d.nd) A3x)))
    (A0f (A3c (D0d PySem.F.slot_dict_setdefault PySem.F.type_dict_setdefault (C4y hn) (pv 2) (A0a (pcl Gb1 hr T.bj (A0a (pv 0) (A0a (pv 4) A0d))) (A0a (A0x A4a (pv 3) A0g) A0d))))))
   (A0f (A0p (pv 2))))),?_⟩
  refine λD o0 hD nd0=> ?_;have s1:A0r H (upd H D o0):=A0e hD;have nd0:A3l P w [true,false] (upd H D o0) D []:=nd0;generalize upd H D o0=H1 at s1 nd0;have slD:sl≠D:=A0i hsl hD;obtain ⟨u0,e0,t0⟩:=A2k nd0;refine ⟨_,rfl,sl,ys,rfl,SqL.of (s1 _ _ hsl),?_⟩
  refine B7n (K:=K) (a:=sl) (xs:=ys) (λi Z G=>∃(o3 o4:Option V) (kvs:List (A1w×V)),Z=[Sro p,Sro sl,Sro D,o3,o4]/\KB D H1 G/\A3l P w [true,false] G D kvs/\kvs.length<=i/\∀r,A1y kvs (nk r)=(FI (wrA rows ss r) i).map λ(j:Nat)=>V.int ((j:Int)+1))
   ⟨none,none,[],rfl,KB.refl,nd0,Z09 _,λr=>rfl⟩ (by rintro i Z G ⟨_,_,_,_,kb,_⟩;exact SqL.of (kb _ _ slD (s1 _ _ hsl))) ?_ ?_
  ·rintro i v Z G z hv ⟨o3,o4,kvs,rfl,kb,nd,lk',vv⟩ hz;walk_at "g";obtain ⟨sp,hsp,sta⟩:=A6w st hv;have hi:i<ys.length:=(Z03.mp hv).1;obtain ⟨kk,e,si⟩:=sin sp (Z13 hsp);have hrow:rows[sp.1.toNat]? =some e:=by rw [si.hk,Int.toNat_natCast];exact si.he
   obtain ⟨G1,sz,hzz,eNH⟩:=nH (o:= .tup [.int (i:Nat),v]) hz
   try rw [eNH]
   have kb1:=kb.trans (KB.of sz);have s01:A0r H G1:=KB.same s1 kb1 hD;have sta1:=((sta.kt (KT.same s1)).kt (kb1.kt e0 t0)).toM (by rw [si.hk];lia);have nd1:=A1h nd sz;obtain ⟨b0,_,_,rfl,_⟩:=id sta;refine ⟨z,_,rfl,SqT.of hzz,rfl,_,_,rfl,_,_,rfl,rfl,?_⟩;refine ⟨_,rfl,⟨D,_,_,rfl,nd1⟩,_,rfl,_,rfl,p,dx,l,ad,tl,ln,o,b0,97,xs,[],rows,e,toM sp,rfl,s01 _ _ hp,s01 _ _ hln,Paired.mapP lis λ_ _ z=>z.same s01,sta1,hrow,λq G2 s12 tr=> ?_⟩;have ew:wrS rows sp=(e.nm,sp.2.2.1):=by unfold wrS;rw [hrow]
   obtain ⟨q',eq,na⟩:=B4u tr;cases eq;have na:A2b G2 (nk (wrS rows sp)) q:=by rw [ew];exact na
   have nd2:=A1h nd1 s12;have kb2:=kb1.trans (KB.of s12)
   have step:∀r,(FI (wrA rows ss r) (i+1))=match FI (wrA rows ss r) i with | some j=>some j | none=>if wrS rows sp=r then some i else none:=λr=>by
    show (match FI (wrA rows ss r) i with | some j=>some j | none=>if wrA rows ss r i=true then some i else none)=_
    have ei:(wrA rows ss r i=true)=(wrS rows sp=r):=by
     unfold wrA;rw [hsp];simp
    cases FI (wrA rows ss r) i with
    | some j=>rfl
    | none=>simp [ei]
   have vw:=vv (wrS rows sp);refine ⟨_,rfl,_,_,rfl,rfl,D,q,_,_,nk (wrS rows sp),_,_,rfl,⟨rfl,rfl,nd2,na,rfl⟩,A1c (by lia),λv hv=> ?_,λhnone o1 nd3=> ?_⟩
   ·refine ⟨_,_,kvs,rfl,kb2,nd2,by lia,λr=> ?_⟩;rw [step r,vv r];rw [hv] at vw
    cases hF:FI (wrA rows ss r) i with
    | some j=>rfl
    | none =>
     by_cases er:wrS rows sp=r
     ·rw [er,hF] at vw;cases vw
     ·simp [er]
   ·have lp:=A3t kvs (nk (wrS rows sp)) (V.int ((i:Int)+1));refine ⟨_,_,A3v kvs (nk (wrS rows sp)) (V.int ((i:Int)+1)),rfl,kb2.upd,nd3,by lia,λr=> ?_⟩;rw [step r,A7q];by_cases er:wrS rows sp=r
    ·rw [er] at vw hnone⊢;rw [hnone] at vw
     cases hF:FI (wrA rows ss r) i with
     | some j=>rw [hF] at vw;cases vw
     | none=>simp
    ·rw [Z0t (λz=>er (B2k z).symm),vv r]
     cases hF:FI (wrA rows ss r) i with
     | some j=>rfl
     | none=>simp [er]
  ·rintro Z G ⟨o3,o4,kvs,rfl,kb,nd,_,vv⟩;rw [lys] at vv;exact ⟨_,rfl,k D kvs G hD (KB.same s1 kb hD) nd vv⟩
def D4h (lk:List (Key×V)) (L:Str->Int) (es:List (Str×List Str)) (rows:List LnM) (os:List Str) (wk:List (A1w×V)) (ss:List Stp) (r:Str×List Int):Option Nat:=if r∈A7z (szE L es) os then some ss.length else LI (rdA lk rows wk ss r) ss.length
inductive B8p (P:Program) (w:World) (A:Adr) (vs:List V) (H:Hp) (Q:VK):Prop
 | mk (p sl F:Addr) (L:Str->Int) (nm:List Str) (es:List (Str×List Str)) (tb:List Str) (T:Nat) (rows:List LnM) (os:List Str) (ys:List V) (ss:List Stp) (lk:List (Key×V)) (wk:List (A1w×V)) (_:vs=[.ref p,.ref sl,.ref F]) (_:ClF A H p L nm es rows os) (_:A9i L nm es tb T rows os) (_:B2i lk L nm) (_:H sl=some (.lst ys)) (_:A2j H ys ss) (_:B4g L rows ss) (_:ss.length<=20000) (_:A3l P w [true,false] H F wk) (_:∀(D:Addr) (kvs:List (A1w×V)) (H':Hp),H D=none->A0r H H'->A3l P w [true,false] H' D kvs->(∀r,A1y kvs (nk r)=(D4h lk L es rows os wk ss r).map λ(j:Nat)=>V.int (j:Int))->Q (.ref D) H'):B8p P w A vs H Q
def D2i (P:Program) (w:World) (A:Adr):Sp:=λvs H Q _=>B8p P w A vs H Q
theorem D0h {ak:List (Key×V)} (lok:B2i lk L nm) (fo:A9i L nm es tb T rows os) (ar:AR S H ak es) (hy:y∈os):ArO H lk ak (axE es) (szE L es) y:=by
 obtain ⟨e,he,rfl⟩:=Z2c.mp (fo.oi y hy);obtain ⟨b,b1,_,b2⟩:=C3r ar fo.eo.nd he;have ax:=fo.eo.ax e he;have l3:=ax.few;refine ⟨⟨b,b1,by rw [B5i fo.eo.nd he];exact b2⟩,?_,?_⟩
 ·unfold szE;rw [B5i fo.eo.nd he];exact C1z lok ax.sub
 ·unfold szE;rw [B5i fo.eo.nd he];exact B7k lok ax.sub (by lia) (fo.eo.pr e he)
theorem C2u (T:Txt K mg t):FO P w base T.gr 16 (D2i P w t):=by
 have Ga8:= @A8b P w K mg base t T;have Gb0:= @B5u P w K mg base t T;have Gb1:= @A7l P w K mg base t T;refine T.gr.F.ok A4t (by walk_at "ln") λ_ A _ s H _ Q E hr h=> ?_
 ·obtain ⟨p,sl,F,L,nm,es,tb,T0,rows,os,ys,ss,lk,wk,rfl,cl,fo,lok,hsl,st,sin,l20,ndF,k⟩:=h;have hn:=B4r hr;have lys:=Paired.length st;obtain ⟨dx,l,ad,tl,ln,o,lk',ak,xs,hp,hl,lok',had,ar,ho,hln,lis,la⟩:=cl.ex;have elk:lk'=lk:=lok'.eq.trans lok.eq.symm;subst elk
  refine ⟨_,(A0c (A0m (i:=3) A4t.nd (A7t (sh:=[true,false])))
   (A0c (A1o (C2r rfl T.fh (A0a (pv 1) A0d)) (A5j (n:=2) rfl (A1a (A0k (i:=4) A4t.nd) (A1a (A0k (i:=5) A4t.nd) A3x)))
    (A0f (A1s (A0t (B2o hn) (pcl Gb1 hr T.bj (A0a (pv 0) (A0a (pv 5) A0d))) (pv 2) (by with_unfolding_all rfl))
     (A0f (A1o (A1n (pcl Gb0 hr T.fw (A0a (pv 0) (A0a (pv 5) A0d)))) (A0k (i:=6) A4t.nd)
      (A0f (A5f (pv 4) (A6z (pv 3) (pv 6) (A6k hn))))))
     A0s)))
   (A0c (A1o (A1n (pcl Ga8 hr T.bg (A0a (pv 0) A0d))) (A0k (i:=7) A4t.nd)
    (A0f (A5f (A0q A0z (by rfl) T.au Z0r (A0a (pv 1) A0d)) (A6z (pv 3) (pv 7) (A6k hn)))))
   (A0f (A0p (pv 3)))))),?_⟩
  refine λD o0 hD nd0=> ?_;have s1:A0r H (upd H D o0):=A0e hD;have nd0:A3l P w [true,false] (upd H D o0) D []:=nd0;generalize upd H D o0=H1 at s1 nd0;have slD:sl≠D:=A0i hsl hD;obtain ⟨u0,e0,t0⟩:=A2k nd0;obtain ⟨uF,eF,tF⟩:=A2k ndF;have FD:F≠D:=A0i eF hD;have keepF:∀{G:Hp},KB D H1 G->A3l P w [true,false] G F wk:=λkb=>(A1h ndF s1).keeps (λu z=>kb _ _ FD z) (kb.kt e0 t0);refine ⟨_,rfl,sl,ys,rfl,SqL.of (s1 _ _ hsl),?_⟩
  refine B7n (K:=K) (a:=sl) (xs:=ys) (λi Z G=>∃(o4 o5 o6:Option V) (kvs:List (A1w×V)),Z=[Sro p,Sro sl,Sro F,Sro D,o4,o5,o6,none]/\KB D H1 G/\A3l P w [true,false] G D kvs/\kvs.length<=i*20/\∀r,A1y kvs (nk r)=(LI (rdA lk' rows wk ss r) i).map λ(j:Nat)=>V.int (j:Int))
   ⟨none,none,none,[],rfl,KB.refl,nd0,Z1e _,λr=>rfl⟩ (by rintro i Z G ⟨_,_,_,_,_,kb,_⟩;exact SqL.of (kb _ _ slD (s1 _ _ hsl))) ?_ ?_
  ·rintro i v Z G z hv ⟨o4,o5,o6,kvs,rfl,kb,nd,lkv,vv⟩ hz;walk_at "g";obtain ⟨sp,hsp,sta⟩:=A6w st hv;have hi:i<ys.length:=(Z03.mp hv).1;obtain ⟨kk,e,si⟩:=sin sp (Z13 hsp);obtain ⟨so,full,hrow⟩:=B0s lok fo si;have l20':=so.few;have l20i:i*20<=20000*20:=Nat.mul_le_mul_right _ (by lia);obtain ⟨G1,sz,hzz,eNH⟩:=nH (o:= .tup [.int (i:Nat),v]) hz
   try rw [eNH]
   have kb1:=kb.trans (KB.of sz);have s01:A0r H G1:=KB.same s1 kb1 hD;have sta1:=((sta.kt (KT.same s1)).kt (kb1.kt e0 t0)).toM (by rw [si.hk];lia);have nd1:=A1h nd sz;obtain ⟨b0,_,_,rfl,_⟩:=id sta;refine ⟨z,_,rfl,SqT.of hzz,rfl,_,_,rfl,_,_,rfl,rfl,?_⟩;refine ⟨_,rfl,_,rfl,p,dx,l,ad,tl,ln,o,b0,97,xs,[],rows,e,toM sp,rfl,s01 _ _ hp,s01 _ _ hln,Paired.mapP lis λ_ _ z=>z.same s01,sta1,hrow,λq G2 s12 tr=> ?_⟩;have ew:wrS rows sp=(e.nm,sp.2.2.1):=by unfold wrS;rw [hrow]
   obtain ⟨q',eq,na⟩:=B4u tr;cases eq;have na:A2b G2 (nk (wrS rows sp)) q:=by rw [ew];exact na
   have nd2:=A1h nd1 s12;have kb2:=kb1.trans (KB.of s12);have s02:=s01.trans s12;have pi':∀r,rdA lk' rows wk ss r i=((A1y wk (nk (wrS rows sp))).isSome&&decide (r∈rdS lk' rows sp)):=λr=>by unfold rdA;rw [hsp]
   refine ⟨_,rfl,F,q,_,_,nk (wrS rows sp),⟨rfl,rfl,keepF kb2,na,rfl⟩,_,rfl,D8d (λhz=> ?_) (λhz=> ?_)⟩
   ·refine ⟨_,rfl,_,rfl,p,dx,l,ad,tl,ln,o,b0,97,lk',xs,[],rows,e,toM sp,rfl,s02 _ _ hp,s02 _ _ hl,s02 _ _ hln,Paired.mapP lis λ_ _ z=>z.same s02,sta1.same s12,hrow,rdq hrow (λhw=>(full hw).2.2) ?_⟩;intro R es' G3 hR s3 hR3 rd3;have nd3:=A1h nd2 s3;obtain ⟨u3,e3,t3⟩:=A2k nd3;have RD:R≠D:=λz=>by subst z;obtain ⟨_,e,_⟩:=A2k nd2;rw [hR] at e;cases e
    have lrd:=Paired.length rd3;refine ⟨R,rfl,⟨_,SqL.of hR3⟩,?_⟩
    refine A1v (K:=K) (a:=R) (xs:=es') (λj Z G4=>∃(o6:Option V),Z=[Sro p,Sro sl,Sro F,Sro D,Sio (i:Nat),Sro b0,o6,none]/\KB D G3 G4/\A3l P w [true,false] G4 D (B3h kvs ((rdS lk' rows sp).take j) (.int (i:Nat))))
     ⟨_,rfl,KB.refl,nd3⟩ (by rintro j Z G4 _ ⟨_,_,kb4,_⟩;exact SqL.of (kb4 _ _ RD hR3)) ?_ ?_
    ·rintro j y Z G4 hy ⟨o6,rfl,kb4,nd4⟩;walk_at "g";obtain ⟨r,hr',tr'⟩:=A6w rd3 hy;obtain ⟨b1,rfl,na1⟩:=B4u (tr'.keep (kb4.kt e3 t3));have lp:=A7d (.int (i:Nat)) ((rdS lk' rows sp).take j) kvs;have lt:((rdS lk' rows sp).take j).length<=(rdS lk' rows sp).length:=by rw [Z0x];lia
     refine ⟨_,rfl,_,rfl,_,rfl,D,b1,_,_,nk r,⟨rfl,rfl,nd4,na1,rfl⟩,A1c (by lia),λo1 nd5=> ?_⟩;refine ⟨_,rfl,kb4.upd,?_⟩;rw [Z14,hr',Z2f,B0x];exact nd5
    ·rintro Z G4 ⟨o6,rfl,kb4,nd4⟩;rw [lrd,Z18] at nd4;have lp:=A7d (.int (i:Nat)) (rdS lk' rows sp) kvs;refine ⟨_,_,_,_,rfl,(kb2.trans (KB.of s3)).trans kb4,nd4,by rw [Nat.add_mul];lia,λr=> ?_⟩;rw [B0i];show _=(if rdA lk' rows wk ss r i=true then some i else LI (rdA lk' rows wk ss r) i).map _;rw [pi' r,hz,Bool.true_and];by_cases m:r∈rdS lk' rows sp
     ·rw [Z12 m,Z12 (Z20 m)];rfl
     ·rw [Z0t m,Z0t (by simpa using m)];exact vv r
   ·refine ⟨_,_,_,kvs,rfl,kb2,nd2,by lia,λr=> ?_⟩;show _=(if rdA lk' rows wk ss r i=true then some i else LI (rdA lk' rows wk ss r) i).map _;rw [pi' r,Z0t (by rw [Bool.not_eq_true] at hz;rw [hz];simp)];exact vv r
  rintro Z G ⟨o4,o5,o6,kvs,rfl,kb,nd,lkv,vv⟩;rw [lys] at vv lkv;have sG:A0r H G:=KB.same s1 kb hD;have aro:∀y∈os,ArO H lk' ak (axE es) (szE L es) y:=λy hy=>D0h lok fo ar hy;have lo:=B5r aro;have fo2:=fo.fo;have lo2:os.length*4000<=2*4000:=Nat.mul_le_mul_right _ fo2;have l20b:ss.length*20<=20000*20:=Nat.mul_le_mul_right _ l20;refine ⟨_,rfl,p,dx,l,ad,tl,ln,o,97,lk',ak,os,axE es,szE L es,rfl,sG _ _ hp,sG _ _ hl,sG _ _ had,sG _ _ ho,by lia,λy hy=>(aro y hy).same sG,λR zs G1 hR s1' hR1 rd1=> ?_⟩;have nd1:=A1h nd s1';obtain ⟨u1,e1,t1⟩:=A2k nd1;have RD:R≠D:=λz=>by subst z;obtain ⟨_,e,_⟩:=A2k nd;rw [hR] at e;cases e
  have lrd:=Paired.length rd1;have sG1:=sG.trans s1';refine ⟨R,rfl,⟨_,SqL.of hR1⟩,?_⟩
  refine A1v (K:=K) (a:=R) (xs:=zs) (λj Z G2=>∃(o7:Option V),Z=[Sro p,Sro sl,Sro F,Sro D,o4,o5,o6,o7]/\KB D G1 G2/\A3l P w [true,false] G2 D (B3h kvs ((A7z (szE L es) os).take j) (.int (ss.length:Nat))))
   ⟨_,rfl,KB.refl,nd1⟩ (by rintro j Z G2 _ ⟨_,_,kb4,_⟩;exact SqL.of (kb4 _ _ RD hR1)) ?_ ?_
  ·rintro j y Z G2 hy ⟨o7,rfl,kb4,nd4⟩;walk_at "g";obtain ⟨r,hr',tr'⟩:=A6w rd1 hy;obtain ⟨b1,rfl,na1⟩:=B4u (tr'.keep (kb4.kt e1 t1));have lp:=A7d (.int (ss.length:Nat)) ((A7z (szE L es) os).take j) kvs;have lt:((A7z (szE L es) os).take j).length<=(A7z (szE L es) os).length:=by rw [Z0x];lia
   refine ⟨_,rfl,sl,_,rfl,.inl (SqL.of (kb4 _ _ slD (sG1 _ _ hsl))),_,rfl,_,rfl,D,b1,_,_,nk r,⟨rfl,rfl,nd4,na1,rfl⟩,A1c (by lia),λo1 nd5=> ?_⟩;refine ⟨_,rfl,kb4.upd,?_⟩;rw [Z14,hr',Z2f,B0x,<-lys];rw [<-lys] at nd5;exact nd5
  ·rintro Z G2 ⟨o7,rfl,kb4,nd4⟩;rw [lrd,Z18] at nd4;refine ⟨_,rfl,k D _ G2 hD (KB.same sG1 kb4 hD) nd4 λr=> ?_⟩;rw [B0i];unfold D4h;by_cases m:r∈A7z (szE L es) os
   ·rw [Z12 m,Z12 m];rfl
   ·rw [Z0t m,Z0t m];exact vv r
theorem C8d {S:Addr->Prop} {H:Hp}:∀{ak:List (Key×V)} {es:List (Str×List Str)},AR S H ak es->ak.map (·.1)=es.map λe=>(Sum.inr e.1:Key)
 | _,_,.nil=>rfl
 | _,_,@Paired.cons _ _ _ p q ps qs r t=>by rw [Z0p,Z0p,C8d t,r.1]
theorem B6i {α β γ:Type} {F:α->β->Prop} {G:α->γ->Prop} {f:β->γ} (h:∀x y,F x y->G x (f y)):∀{a:List α} {b:List β},Paired F a b->Paired G a (b.map f)
 | _,_,.nil=> .nil
 | _,_,.cons r t=> .cons (h _ _ r) (B6i h t)
abbrev C1m (c:List Int):List Key:=c.map Sum.inl
theorem C4o {d:List Int} (h:C1m c=C1m d):c=d:=(List.map_inj_right (λa b z=>Sum.inl.inj z)).mp h
def A9q (rows:List LnM) (ss:List Stp) (r:Str×List Int):Int:=((FI (wrA rows ss r) ss.length).map λ(j:Nat)=>(j:Int)+1).getD 0
def C2p (lk:List (Key×V)) (L:Str->Int) (es:List (Str×List Str)) (rows:List LnM) (os:List Str) (wk:List (A1w×V)) (ss:List Stp) (r:Str×List Int):Int:=((D4h lk L es rows os wk ss r).map λ(j:Nat)=>(j:Int)).getD 0
theorem C8x {p:Nat->Bool} {j:Nat} (h:p j=true):∀{i:Nat},j<i->(LI p i).isSome=true
 | i+1,hj=>by
  show (if p i=true then some i else LI p i).isSome=true;by_cases e:p i=true
  ·rw [Z12 e];rfl
  ·rw [Z0t e];refine C8x h ?_;rcases Nat.lt_or_ge j i with z | z
   ·exact z
   ·have:j=i:=by lia
    subst this;exact absurd h e
theorem C3s (all:∀s∈A1f (rows.map (A4p L)) rows.length,s∈ss) (h:InW (wkF lk L es rows os) r):∃j,D4h lk L es rows os (wkF lk L es rows os) ss r=some j:=by
 unfold D4h;by_cases m:r∈A7z (szE L es) os
 ·exact ⟨_,Z12 m⟩
 ·rw [Z0t m];rcases B8a _ h with z | ⟨s,hs,hw,hrd⟩
  ·rcases (B2f _ _).mp z with z | z
   ·cases z
   ·exact absurd z m
  ·obtain ⟨j,hj⟩:=List.getElem?_of_mem (all s (List.mem_reverse.mp hs));refine Option.isSome_iff_exists.mp (C8x (j:=j) ?_ (Z03.mp hj).1);unfold rdA;rw [hj];show ((A1y (wkF lk L es rows os) (nk (wrS rows s))).isSome&&decide (r∈rdS lk rows s))=true;rw [hw,Bool.true_and];exact Z20 hrd
inductive D8i (H:Hp) (f g:Str×List Int->Int) (x:Str) (cs:List (List Int)) (v:V):Prop
 | mk (b:Addr) (tk:List (List Key×V)) (_:v= .ref b) (_:H b=some (.dT tk)) (_:tk.length=cs.length) (_:(∀c,(A1y tk (C1m c)).isSome=true->c∈cs)) (_:∀c∈cs,∃q,A1y tk (C1m c)=some (.ref q)/\H q=some (.tup [.int (f (x,c)),.int (g (x,c))])):D8i H f g x cs v
def D2f (H:Hp) (f g:Str×List Int->Int) (W:Str->List (List Int)):List (Key×V)->List (Str×List Str)->Prop:=Paired λ(p:Key×V) (e:Str×List Str)=>p.1=Sum.inr e.1/\D8i H f g e.1 (W e.1) p.2
inductive C1e (A:Adr) (vs:List V) (H:Hp) (Q:VK):Prop
 | mk (p sl:Addr) (L:Str->Int) (nm:List Str) (es:List (Str×List Str)) (tb:List Str) (T:Nat) (rows:List LnM) (os:List Str) (ys:List V) (ss:List Stp) (lk:List (Key×V)) (_:vs=[.ref p,.ref sl]) (_:ClF A H p L nm es rows os) (_:A9i L nm es tb T rows os) (_:B2i lk L nm) (_:H sl=some (.lst ys)) (_:A2j H ys ss) (_:B4g L rows ss) (_:ss.length<=20000) (_:(∀s∈A1f (rows.map (A4p L)) rows.length,s∈ss)) (_:∀(D:Addr) (dk:List (Key×V)) (H':Hp),H D=none->A0r H H'->H' D=some (.dK dk)->D2f H' (A9q rows ss) (C2p lk L es rows os (wkF lk L es rows os) ss) (A6n (wkF lk L es rows os) (szE L es)) dk es->Q (.ref D) H'):C1e A vs H Q
def D2n (A:Adr):Sp:=λvs H Q _=>C1e A vs H Q
theorem D8i.keep {f g:Str×List Int->Int} (h:D8i H f g x cs v) (k1:∀b tk,H b=some (.dT tk)->v= .ref b->H' b=some (.dT tk)) (k2:KT H H'):D8i H' f g x cs v:=by
 obtain ⟨b,tk,e,h1,h2,h4,h3⟩:=h;refine ⟨b,tk,e,k1 b tk h1 e,h2,h4,λc hc=> ?_⟩;obtain ⟨q,q1,q2⟩:=h3 c hc;exact ⟨q,q1,k2 _ _ q2⟩
theorem D0j (kvs:List (A1w×V)) (sz:Str->List Int) (x:Str):(A6n kvs sz x).Nodup:=by
 unfold A6n;refine List.Nodup.sublist List.filter_sublist ?_;exact (B1t (sz x)).imp λ{a b} h z=>by subst z;exact h.irrefl
theorem B5k {α:Type} {l:List α} {c:α} (nd:l.Nodup) (hc:l[j]? =some c):c∉l.take j:=λm=>by
 obtain ⟨i,hi⟩:=List.getElem?_of_mem m;have hij:i<j:=by have:=(Z03.mp hi).1;rw [Z0x] at this;lia
 rw [List.getElem?_take_of_lt hij] at hi;have:=(List.getElem?_inj (Z03.mp hi).1 nd).mp (hi.trans hc.symm)
 lia
theorem C3k (T:Txt K mg t):FO P w base T.gq 17 (D2n t):=by
 have Gd0:= @B8o P w K mg base t T;have Gd1:= @B9e P w K mg base t T;have Gd2:= @C2u P w K mg base t T;have Gd3:= @B3n P w K mg base t T;refine T.gq.F.ok A3p (by walk_at "ln") λ_ A _ s H _ Q E hr h=> ?_
 ·obtain ⟨p,sl,L,nm,es,tb,T0,rows,os,ys,ss,lk,rfl,cl,fo,lok,hsl,st,sin,l20,all,k⟩:=h;have hu:=A6c hr;have hn:=B4r hr;obtain ⟨dx,l,ad,tl,ln,o,lk',ak,xs,hp,hl,lok',had,ar,ho,hln,lis,la⟩:=cl.ex;have elk:lk'=lk:=lok'.eq.trans lok.eq.symm;subst elk;have fr:=fo.fr;have few:=fo.eo.few
  have rwk:∀e∈rows.map (A4p L),C4r e:=λe he=>by
   walk_at "h"
  have lrw:(rows.map (A4p L)).length=rows.length:=Z08 _;have ole:=A9f rwk rows.length;have ole2:rows.length*3660<=5*3660:=Nat.mul_le_mul_right _ fr
  have gdE:∀e∈es,Sz lk' e.2 (szE L es e.1)/\B4n (szE L es e.1):=λe he=>by
   unfold szE;rw [B5i fo.eo.nd he];have ax:=fo.eo.ax e he;have:=ax.few;exact ⟨C1z lok ax.sub,B7k lok ax.sub (by lia) (fo.eo.pr e he)⟩
  have knd:(ak.map (·.1)).Nodup:=by
   rw [C8d ar,show (es.map λe=>(Sum.inr e.1:Key))=(es.map (·.1)).map Sum.inr by rw [List.map_map];rfl];exact List.Pairwise.map _ (λa b h z=>h (Sum.inr.inj z)) fo.eo.nd
  refine ⟨_,(A0c (A0m (i:=2) A3p.nd (pcl Gd3 hr T.ci (A0a (pv 0) A0d)))
   (A0c (A0m (i:=3) A3p.nd (pcl Gd1 hr T.ef (A0a (pv 0) (A0a (pv 1) A0d))))
   (A0c (A0m (i:=4) A3p.nd (pcl Gd2 hr T.gr (A0a (pv 0) (A0a (pv 1) (A0a (pv 2) A0d)))))
   (A0c (A0m (i:=5) A3p.nd A8z)
   (A0c (A1o (B6j (B6d PySem.F.plainAttrs_dict PySem.F.slot_dict_items PySem.F.type_dict_items B6w (pcl Gd0 hr T.eh (A0a (pv 0) (A0a (pv 2) A0d))))) (A5j (n:=2) rfl (A1a (A0k (i:=6) A3p.nd) (A1a (A0k (i:=7) A3p.nd) A3x)))
    (A0c (A4i hu (pv 5) (pv 6) D2a rfl)
    (A0f (A1o (A1n (pv 7)) (A0k (i:=8) A3p.nd)
     (A0f (A4i hu (A0u hu (pv 5) (pv 6)) (pv 8) (A1t (A0a (D0d PySem.F.slot_dict_get PySem.F.type_dict_get (D6k hn) (pv 3) (A0a (A1t (A0a (pv 6) (A0a (pv 8) A0d))) (A0a A0g A0d))) (A0a (A6b hn (pv 4) (A1t (A0a (pv 6) (A0a (pv 8) A0d)))) A0d))) rfl))))))
   (B2z (A0f (A0p (pv 5))))))))),?_⟩
  refine ⟨_,rfl,p,dx,l,ad,tl,ln,o,97,lk',ak,os,axE es,szE L es,xs,[],rows,rows.map (A4p L),rfl,hp,hl,had,ho,by have:=fo.fo;lia,λy hy=>D0h lok fo ar hy,hln,lis,B6i (λv e z=> ?_) lis,λe he=> ?_,by lia,λs hs=> ?_,by rw [lrw];lia,λF H1 hF s1 ndF=> ?_⟩
  ·obtain ⟨a',dx',c,u,n,ev,e1,m1,e2,m2,e3,_⟩:=z;exact ⟨a',dx',c,u,n,_,ev,e1,m1,e2,m2,e3⟩
  ·obtain ⟨e',he',rfl⟩:=Z2c.mp he;obtain ⟨i,hi⟩:=List.getElem?_of_mem he';have gd:=(fo.row i e' hi).2;exact ⟨gd.rw' lok,C1z lok gd.ax.sub,C1z lok gd.sub,λy hy=>(lok.ok y (gd.ax.sub y hy)).2.2.2,λy hy=>(lok.ok y (gd.sub y hy)).2.2.2⟩
  ·rw [lrw] at hs;obtain ⟨_,_,si⟩:=A7g hs;exact (B0s lok fo si).1
  rw [lrw] at ndF;have ndF:A3l P w [true,false] H1 F (wkF lk' L es rows os):=ndF;refine ⟨_,rfl,_,rfl,p,sl,L,nm,es,rows,os,ys,ss,rfl,cl.same s1,s1 _ _ hsl,st.kt (KT.same s1),sin,l20,λFD kf H2 hFD s2 ndf vf=> ?_⟩;have s02:=s1.trans s2;refine ⟨_,rfl,_,rfl,_,rfl,p,sl,F,L,nm,es,tb,T0,rows,os,ys,ss,lk',_,rfl,cl.same s02,fo,lok,s02 _ _ hsl,st.kt (KT.same s02),sin,l20,A1h ndF s2,λLD kl H3 hLD s3 ndl vl=> ?_⟩;have s03:=s02.trans s3;refine λV0 hV0=> ?_;obtain ⟨H4,s4,hV4,eNH⟩:=nH (o:= .dK []) hV0
  try rw [eNH]
  have s04:=s03.trans s4;refine ⟨_,rfl,_,rfl,p,dx,l,ad,tl,ln,o,F,97,lk',ak,es,szE L es,(λ_=>True),_,rfl,s04 _ _ hp,s04 _ _ hl,s04 _ _ had,ar.same s04,by lia,knd,la,gdE,A1h (A1h (A1h ndF s2) s3) s4,λD0 bk H5 hD0 s5 hb5 wn=> ?_⟩;have s05:=s04.trans s5;have hV5:=s5 _ _ hV4;have VD:V0≠D0:=λz=>by subst z;rw [hV4] at hD0;cases hD0
  have lwn:=Paired.length wn;refine ⟨.inr (.inr (.inl ⟨rfl,.inl ⟨_,hb5⟩⟩)),D0,_,rfl,rfl,hb5,.inl ⟨_,rfl⟩,λvw hvw=> ?_⟩;have av:D0≠vw:=A0i hb5 hvw;refine ⟨vw,D0,_,rfl,A0b,(by rw [A0h av];exact hb5),.inl ⟨bk,rfl,λo1=> ?_⟩⟩;obtain ⟨Gf,hGf⟩:∃Gf,Gf=upd (upd H5 vw (C1c vw D0)) D0 (.frz o1 (.dK bk)):=⟨_,rfl⟩;rw [<-hGf];have fz:Gf D0=some (.frz o1 (.dK bk)):=by rw [hGf];exact A0b
  have upf:∀{b:Addr} {u:HO},b≠D0->H5 b=some u->Gf b=some u:=λn e=>by rw [hGf,A0h n,A0h (A0i e hvw)];exact e
  have hVf:=upf VD hV5;have ktf:KT H5 Gf:=λb xs e=>upf (A1g e hb5 (by intro z;cases z)) e;have ndff:A3l P w [true,false] Gf FD kf:=(A1h (A1h (A1h ndf s3) s4) s5).keeps (λu z=>upf (λq=>by subst q;obtain ⟨_,e,_⟩:=A1h (A1h (A1h ndf s3) s4) s5;rw [hb5] at e;cases e) z) ktf;have ndlf:A3l P w [true,false] Gf LD kl:=(A1h (A1h ndl s4) s5).keeps (λu z=>upf (λq=>by subst q;obtain ⟨_,e,_⟩:=A1h (A1h ndl s4) s5;rw [hb5] at e;cases e) z) ktf;have notV:∀{G:Hp} {a:Addr} {kv:List (A1w×V)} {lv:List (Key×V)},A3l P w [true,false] G a kv->G V0=some (.dK lv)->a≠V0:=λnd hv z=>by subst z;obtain ⟨_,e,_⟩:=nd;rw [hv] at e;cases e
  refine B4d (L:=bk.map λq=>(kV q.1,q.2)) (λi Z G=>∃(o6 o7 o8:Option V) (lv:List (Key×V)),Z=[Sro p,Sro sl,Sro F,Sro FD,Sro LD,Sro V0,o6,o7,o8]/\KB V0 Gf G/\G V0=some (.dK lv)/\lv.map (·.1)=(bk.take i).map (·.1)/\D2f G (A9q rows ss) (C2p lk' L es rows os (wkF lk' L es rows os) ss) (A6n (wkF lk' L es rows os) (szE L es)) lv (es.take i))
   ⟨none,none,none,[],rfl,KB.refl,hVf,rfl,.nil⟩ (by rintro i Z G ⟨_,_,_,_,_,kb,_⟩;exact kb _ _ VD.symm fz) ?_ ?_
  ·rintro i kx vx qq Z G hx hq ⟨o6,o7,o8,lv,rfl,kb,hV,ks,la'⟩;walk_at "g";rw [Z1z] at hx;obtain ⟨⟨k',v⟩,hk,e⟩:=Z0i.mp hx;cases e;obtain ⟨e,he,ek,b,rfl,_,cb⟩:=A6w wn hk;have ek:k'=Sum.inr e.1:=ek;subst ek;have em:=Z13 he;obtain ⟨ps,hb,tp⟩:=cb.ex;have lps:=tp.len;have wnd:=D0j (wkF lk' L es rows os) (szE L es) e.1
   have lw:(A6n (wkF lk' L es rows os) (szE L es) e.1).length<=4000:=by
    unfold A6n;have h1:=List.length_filter_le (λc=>(A1y (wkF lk' L es rows os) (nk (e.1,c))).isSome) (A1e (szE L es e.1));have h2:=(gdE e em).2.len
    lia
   have sq:A0r G (upd G qq (.tup [kV (Sum.inr e.1),.ref b])):=A0e hq;have hqq:upd G qq (.tup [kV (Sum.inr e.1),.ref b]) qq=some (.tup [.str e.1,.ref b]):=A0b;generalize upd G qq (.tup [kV (Sum.inr e.1),.ref b])=G1 at sq hqq;have kb1:=kb.trans (KB.of sq);have hV1:=sq _ _ hV;refine ⟨qq,_,rfl,SqT.of hqq,rfl,_,_,rfl,_,_,rfl,rfl,?_⟩;refine λIB hIB=> ?_;have s2':A0r G1 (upd G1 IB (.dT [])):=A0e hIB;have hI2:upd G1 IB (.dT []) IB=some (.dT []):=A0b;have IV:IB≠V0:=(A0i hV1 hIB).symm;generalize upd G1 IB (.dT [])=G2 at s2' hI2;have hV2:=s2' _ _ hV1;have llv:lv.length=(bk.take i).length:=by have:=congrArg List.length ks;simpa using this
   have ltk:(bk.take i).length<=bk.length:=by rw [Z0x];lia
   refine ⟨_,rfl,_,rfl,V0,_,rfl,B6b.k (k:=Sum.inr e.1) hV2 (A1c (by lia)),?_⟩
   have bnd:(bk.map (·.1)).Nodup:=by
    have:bk.map (·.1)=es.map λe=>(Sum.inr e.1:Key):=by
     have gen:∀{a:List (Key×V)} {c:List (Str×List Str)},E1x H4 H5 (wkF lk' L es rows os) (szE L es) a c->a.map (·.1)=c.map λe=>(Sum.inr e.1:Key):=λh=>by
      unfold E1x at h
      induction h with
      | nil=>rfl
      | cons r _ ih=>rw [Z0p,Z0p,ih,r.1]
     exact gen wn
    rw [this,show (es.map λe=>(Sum.inr e.1:Key))=(es.map (·.1)).map Sum.inr by rw [List.map_map];rfl];exact List.Pairwise.map _ (λa b h z=>h (Sum.inr.inj z)) fo.eo.nd
   rw [A9d bnd hk lv ks (.ref IB)];have kb3:KB V0 Gf (upd G2 V0 (.dK (lv++[(Sum.inr e.1,.ref IB)]))):=(kb1.trans (KB.of s2')).upd;have hV3:upd G2 V0 (.dK (lv++[(Sum.inr e.1,.ref IB)])) V0=some (.dK (lv++[(Sum.inr e.1,.ref IB)])):=A0b;have hI3:upd G2 V0 (.dK (lv++[(Sum.inr e.1,.ref IB)])) IB=some (.dT []):=by rw [A0h IV];exact hI2
   have la3:D2f (upd G2 V0 (.dK (lv++[(Sum.inr e.1,.ref IB)]))) (A9q rows ss) (C2p lk' L es rows os (wkF lk' L es rows os) ss) (A6n (wkF lk' L es rows os) (szE L es)) lv (es.take i)/\∀q∈lv,q.2≠.ref IB:=by
    refine ⟨Paired.mapP la' λ_ _ z=>⟨z.1,z.2.keep (λb tk h _=> ?_) λb xs h=> ?_⟩,λq hq z=> ?_⟩
    ·rw [A0h (A1g (s2' _ _ (sq _ _ h)) hV2 (by intro z;cases z))];exact s2' _ _ (sq _ _ h)
    ·rw [A0h (A1g (s2' _ _ (sq _ _ h)) hV2 (by intro z;cases z))];exact s2' _ _ (sq _ _ h)
    ·obtain ⟨j,hj⟩:=List.getElem?_of_mem hq;obtain ⟨_,_,_,b',tk',e1,e2,_⟩:=A6w la' hj;rw [z] at e1;cases e1;rw [sq _ _ e2] at hIB;cases hIB
   generalize upd G2 V0 (.dK (lv++[(Sum.inr e.1,.ref IB)]))=G3 at kb3 hV3 hI3 la3;obtain ⟨la3,nIB⟩:=la3;have hbf:=upf (A1g hb hb5 (by intro z;cases z)) hb;have hb3:=kb3 _ _ (A1g hbf hVf (by intro z;cases z)) hbf;have bIB:b≠IB:=A1g hb3 hI3 (by intro z;cases z);refine ⟨_,rfl,b,rfl,⟨_,SqL.of hb3⟩,?_⟩
   refine A1v (K:=K) (a:=b) (xs:=ps.map V.ref) (λj Z G4=>∃(o8:Option V) (tk:List (List Key×V)),Z=[Sro p,Sro sl,Sro F,Sro FD,Sro LD,Sro V0,Sso e.1,Sro b,o8]/\KB IB G3 G4/\G4 IB=some (.dT tk)/\tk.length=j/\(∀c,(A1y tk (C1m c)).isSome=true->c∈(A6n (wkF lk' L es rows os) (szE L es) e.1).take j)/\∀c∈(A6n (wkF lk' L es rows os) (szE L es) e.1).take j,∃q,A1y tk (C1m c)=some (.ref q)/\G4 q=some (.tup [.int (A9q rows ss (e.1,c)),.int (C2p lk' L es rows os (wkF lk' L es rows os) ss (e.1,c))]))
    ⟨_,[],rfl,KB.refl,hI3,rfl,(λc z=>by cases z),by intro c hc;cases hc⟩ (by rintro j Z G4 _ ⟨_,_,_,kb4,_⟩;exact SqL.of (kb4 _ _ bIB hb3)) ?_ ?_
   ·rintro j y Z G4 hy ⟨o8,tk,rfl,kb4,hI4,ltk4,only4,all4⟩;walk_at "g";obtain ⟨pc,hpc,rfl⟩:=A2e hy;obtain ⟨c,hc,epc⟩:=tp.get hpc;have hj:j<ps.length:=(Z03.mp hpc).1;have ktI:∀{G':Hp},KB IB G3 G'->KT G3 G':=λkb' b xs z=>kb' _ _ (A1g z hI3 (by intro z;cases z)) z;have ktV:KT Gf G3:=λb xs z=>kb3 _ _ (A1g z hVf (by intro z;cases z)) z;have epc4:G4 pc=some (.tup (c.map V.int)):=ktI kb4 _ _ (ktV _ _ (ktf _ _ epc))
    have nd4:∀{a:Addr} {kv:List (A1w×V)},A3l P w [true,false] Gf a kv->A3l P w [true,false] G4 a kv:=λnd=>by
     have n3:A3l P w [true,false] G3 _ _:=nd.keeps (λu z=>kb3 _ _ (notV nd hVf) z) ktV;refine n3.keeps (λu z=>kb4 _ _ (λq=> ?_) z) (ktI kb4);subst q;obtain ⟨_,e,_⟩:=n3;rw [hI3] at e;cases e
    have wm:InW (wkF lk' L es rows os) (e.1,c):=by
     have hm:=Z13 hc;unfold A6n at hm;exact (List.mem_filter.mp hm).2
    obtain ⟨jl,hjl⟩:=C3s all wm;refine ⟨_,rfl,⟨FD,_,_,rfl,nd4 ndff⟩,_,rfl,_,rfl,A0y rfl,λb1 hb1=> ?_⟩;have sb1:A0r G4 (upd G4 b1 (.tup [.str e.1,.ref pc])):=A0e hb1;have na1:A2b (upd G4 b1 (.tup [.str e.1,.ref pc])) (nk (e.1,c)) b1:=A2i A0b (by rw [List.map_map];exact sb1 _ _ epc4);generalize upd G4 b1 (.tup [.str e.1,.ref pc])=G5 at sb1 na1;refine ⟨FD,b1,_,_,nk (e.1,c),_,_,rfl,⟨rfl,rfl,A1h (nd4 ndff) sb1,na1,rfl⟩,_,rfl,_,rfl,_,rfl,A0y rfl,λb2 hb2=> ?_⟩;have sb2:A0r G5 (upd G5 b2 (.tup [.str e.1,.ref pc])):=A0e hb2;have na2:A2b (upd G5 b2 (.tup [.str e.1,.ref pc])) (nk (e.1,c)) b2:=A2i A0b (by rw [List.map_map];exact sb2 _ _ (sb1 _ _ epc4));generalize upd G5 b2 (.tup [.str e.1,.ref pc])=G6 at sb2 na2;have sb12:=sb1.trans sb2
    have vl':A1y kl (nk (e.1,c))=some (.int (C2p lk' L es rows os (wkF lk' L es rows os) ss (e.1,c))):=by
     rw [vl (e.1,c)];unfold C2p;rw [hjl];rfl
    have evf:(A1y kf (nk (e.1,c))).getD (.int 0)= .int (A9q rows ss (e.1,c)):=by
     rw [vf (e.1,c)];unfold A9q;cases FI (wrA rows ss (e.1,c)) ss.length <;> rfl
    refine ⟨LD,b2,_,_,nk (e.1,c),_,⟨rfl,rfl,A1h (A1h (nd4 ndlf) sb1) sb2,na2,rfl⟩,vl',A0y rfl,λq hq=> ?_⟩;rw [evf];have sb3:A0r G6 (upd G6 q (.tup [.int (A9q rows ss (e.1,c)),.int (C2p lk' L es rows os (wkF lk' L es rows os) ss (e.1,c))])):=A0e hq;have hqq':upd G6 q (.tup [.int (A9q rows ss (e.1,c)),.int (C2p lk' L es rows os (wkF lk' L es rows os) ss (e.1,c))]) q=some (.tup [.int (A9q rows ss (e.1,c)),.int (C2p lk' L es rows os (wkF lk' L es rows os) ss (e.1,c))]):=A0b;generalize upd G6 q (.tup [.int (A9q rows ss (e.1,c)),.int (C2p lk' L es rows os (wkF lk' L es rows os) ss (e.1,c))])=G7 at sb3 hqq';have s47:=sb12.trans sb3;have hV7:G7 V0=some (.dK (lv++[(Sum.inr e.1,.ref IB)])):=s47 _ _ (kb4 _ _ IV.symm hV3)
    have gV:A9r G7 V0 (.str e.1) (some (.ref IB)):=by
     have g:=A9r.k (H:=G7) (a:=V0) (k:=Sum.inr e.1) hV7
     have hnone:(Sum.inr e.1:Key)∉lv.map (·.1):=by
      rw [ks];intro z;have h1:((bk.map (·.1)))[i]? =some (Sum.inr e.1):=by rw [Z1z,hk];rfl
      rw [List.map_take] at z;exact B5k bnd h1 z
     rw [B4h _ _ _ _ (B7b hnone),Z12 rfl] at g;exact g
    have hI7:=s47 _ _ hI4;refine ⟨_,rfl,_,rfl,V0,_,rfl,gV,_,rfl,IB,_,rfl,B6b.t (k:=C1m c) hI7 (by rw [List.map_map];exact s47 _ _ epc4) (A1c (by lia)),?_⟩;have kt7:KT G7 (upd G7 IB (.dT (A3v tk (C1m c) (.ref q)))):=KT.at hI7 (by intro xs z;cases z);have hcn:c∉(A6n (wkF lk' L es rows os) (szE L es) e.1).take j:=B5k wnd hc
    have vno:A1y tk (C1m c)=none:=by
     cases hv:A1y tk (C1m c) with
     | none=>rfl
     | some v=>exact absurd (only4 c (by rw [hv];rfl)) hcn
    refine ⟨_,A3v tk (C1m c) (.ref q),rfl,(kb4.trans (KB.of s47)).upd,A0b,by rw [A6i _ vno,Z06,ltk4];rfl,λc' hc'=> ?_,λc' hc'=> ?_⟩
    ·rw [A7q] at hc';rw [Z14,hc,Z2f];by_cases ec:C1m c'=C1m c
     ·exact Z02 _ (Z0w.mpr (C4o ec))
     ·rw [Z0t ec] at hc';exact Z05 _ (only4 c' hc')
    ·rw [A7q];rw [Z14,hc,Z2f] at hc';by_cases ec:C1m c'=C1m c
     ·have:=C4o ec;subst this;exact ⟨q,Z12 rfl,kt7 _ _ hqq'⟩
     ·rcases Z07.mp hc' with m | m
      ·obtain ⟨q0,z1,z2⟩:=all4 c' m;exact ⟨q0,by rw [Z0t ec];exact z1,kt7 _ _ (s47 _ _ z2)⟩
      ·exact absurd (by rw [Z0w.mp m]) ec
   ·rintro Z G4 ⟨o8,tk,rfl,kb4,hI4,ltk4,only4,all4⟩;rw [Z08,lps] at ltk4 only4 all4;rw [Z18] at only4 all4;have ktI:KT G3 G4:=λb xs z=>kb4 _ _ (A1g z hI3 (by intro z;cases z)) z;refine ⟨_,_,_,lv++[(Sum.inr e.1,.ref IB)],rfl,λb u n z=> ?_,kb4 _ _ IV.symm hV3,?_,?_⟩
    ·have h3:=kb3 _ _ n z;exact kb4 _ _ (λq=>by subst q;rw [kb1 _ _ n z] at hIB;cases hIB) h3
    ·rw [Z0s,ks,Z14,hk,Z0s];rfl
    ·rw [Z14,he];refine B1o ?_ (.cons ⟨rfl,IB,tk,rfl,hI4,ltk4,only4,all4⟩ .nil)
     have gen:∀{a:List (Key×V)} {d:List (Str×List Str)},D2f G3 (A9q rows ss) (C2p lk' L es rows os (wkF lk' L es rows os) ss) (A6n (wkF lk' L es rows os) (szE L es)) a d->(∀q∈a,q.2≠.ref IB)->D2f G4 (A9q rows ss) (C2p lk' L es rows os (wkF lk' L es rows os) ss) (A6n (wkF lk' L es rows os) (szE L es)) a d:=λh hq=>by
      unfold D2f at h⊢
      induction h with
      | nil=>exact .nil
      | cons r _ ih =>
       refine .cons ⟨r.1,r.2.keep (λb tk' h1 h2=>kb4 _ _ (λq=>hq _ (.head _) (by rw [h2,q])) h1) ktI⟩ (ih λq hq'=>hq q (.tail _ hq'))
     exact gen la3 nIB
  ·rintro Z G ⟨o6,o7,o8,lv,rfl,kb,hV,ks,la'⟩;rw [Z08,lwn,Z18] at la';have hd4:=kb _ _ VD.symm fz;have D0H:H D0=none:=s04.free hD0;have V0H:H V0=none:=s03.free hV0;refine ⟨D0,o1,_,hd4,.inl ⟨_,rfl⟩,(λo' u' z=>by have z:H D0=some (.frz o' u'):=z;rw [D0H] at z;cases z),_,rfl,?_⟩;refine k V0 lv _ V0H (λb u z=> ?_) (by rw [A0h VD];exact hV) (Paired.mapP la' λ_ _ z=>⟨z.1,z.2.keep (λb tk h _=>by rw [A0h (A1g h hd4 (by intro z;cases z))];exact h) λb xs h=>by rw [A0h (A1g h hd4 (by intro z;cases z))];exact h⟩);rw [A0h (A0i z D0H)];exact kb _ _ (A0i z V0H) (upf (A0i z D0H) (s05 _ _ z))
def C2l (H:Hp) (lk:List (Key×V)) (rows:List LnM):List V->List Stp->Prop:=Paired λ(v:V) (s:Stp)=>∃(R:Addr) (es:List V),v= .ref R/\H R=some (.lst es)/\Rds H es (rdS lk rows s)
theorem C2l.same {ks:List V} (h:C2l H lk rows ks ss) (s:A0r H H'):C2l H' lk rows ks ss:=Paired.mapP h (by rintro _ _ ⟨R,es,e,h1,h2⟩;exact ⟨R,es,e,s _ _ h1,h2.keep (KT.same s)⟩)
inductive E1m (P:Program) (w:World) (H0 G:Hp) (M:List Addr) (N:Nat) (LD:Addr) (cnt:Str×List Int->Option (Int×Int)):Prop
 | mk (kv:List (A1w×V)) (ad:Str×List Int->Addr) (_:A3l P w [true,false] G LD kv) (_:(∀r,A1y kv (nk r)=(cnt r).map λ_=>V.ref (ad r))) (_:(∀r q,cnt r=some q->G (ad r)=some (.lst [.int q.1,.int q.2])/\H0 (ad r)=none/\ad r∉M)) (_:(∀r r',cnt r≠none->cnt r'≠none->ad r=ad r'->r=r')) (_:kv.length<=N):E1m P w H0 G M N LD cnt
structure B4v (P:Program) (w:World) (H0 G:Hp) (M:List Addr) (N:Nat) (LD:Addr) (cnt:Str×List Int->Option (Int×Int)):Prop where
 ex:E1m P w H0 G M N LD cnt
theorem B4v.same {cnt:Str×List Int->Option (Int×Int)} (h:B4v P w H0 G M N LD cnt) (s:A0r G G'):B4v P w H0 G' M N LD cnt:=by
 obtain ⟨kv,ad,h1,h2,h3,h4,h5⟩:=h.ex;exact ⟨kv,ad,A1h h1 s,h2,λr q e=>⟨s _ _ (h3 r q e).1,(h3 r q e).2⟩,h4,h5⟩
def D7z (lk:List (Key×V)) (rows:List LnM) (cnt:Str×List Int->Option (Int×Int)) (s:Stp):Prop:=(s.2.1="add"->∀q,cnt (wrS rows s)=some q->q.1≠0)/\∀r∈rdS lk rows s,∀q,cnt r=some q->q.2<=0
structure OrA (H:Hp) (lk:List (Key×V)) (L:Str->Int) (rows:List LnM) (ss:List Stp) (SL KL NL:Addr):Prop where
 st:∃ys,H SL=some (.lst ys)/\A2j H ys ss
 ks:∃ks,H KL=some (.lst ks)/\C2l H lk rows ks ss
 nl:H NL=some (.lst ((rows.map (·.nm)).map V.str))
 sin:B4g L rows ss
theorem OrA.same {SL KL NL:Addr} (h:OrA H lk L rows ss SL KL NL) (s:A0r H H'):OrA H' lk L rows ss SL KL NL:=by
 obtain ⟨ys,y1,y2⟩:=h.st;obtain ⟨ks,k1,k2⟩:=h.ks;exact ⟨⟨ys,s _ _ y1,y2.kt (KT.same s)⟩,⟨ks,s _ _ k1,k2.same s⟩,s _ _ h.nl,h.sin⟩
inductive C0m (P:Program) (w:World) (vs:List V) (H:Hp) (Q:VK):Prop
 | mk (k:Nat) (SL KL NL LD:Addr) (lk:List (Key×V)) (L:Str->Int) (rows:List LnM) (ss:List Stp) (s:Stp) (cnt:Str×List Int->Option (Int×Int)) (H0:Hp) (M:List Addr) (N:Nat) (_:vs=[.int (k:Nat),.ref SL,.ref KL,.ref NL,.ref LD]) (_:OrA H lk L rows ss SL KL NL) (_:ss[k]? =some s) (_:B4v P w H0 H M N LD cnt) (_:cnt (wrS rows s)≠none) (_:∀(b:Bool) (H':Hp),A0r H H'->(D7z lk rows cnt s->b=true)->Q (.bl b) H'):C0m P w vs H Q
def D1c (P:Program) (w:World):Sp:=λvs H Q _=>C0m P w vs H Q
theorem C5t (T:Txt K mg t):FO P w base T.im 1 (D1c P w):=by
 refine T.im.F.ok B1h (by walk_at "ln") λ_ A _ s H _ Q E hr h=> ?_
 ·obtain ⟨i,SL,KL,NL,LD,lk,L,rows,ss,sp,cnt,H0,M,N,rfl,oa,hsp,lf,hown,k⟩:=h;have hn:=B4r hr;obtain ⟨ys,hSL,st⟩:=oa.st;obtain ⟨ks,hKL,lks⟩:=oa.ks;have lys:=Paired.length st;have lkl:=Paired.length lks;have hi:=(Z03.mp hsp).1;have hyi:ys[i]? =some (ys[i]'(by lia)):=Z0b _;have hki:ks[i]? =some (ks[i]'(by lia)):=Z0b _;obtain ⟨sp',hsp',b,c,u,ev,h1,hc,hu⟩:=A6w st hyi;rw [hsp] at hsp';cases hsp';obtain ⟨sp',hsp',R,vs,ek,hR,rds⟩:=A6w lks hki;rw [hsp] at hsp';cases hsp';obtain ⟨kk,e,si⟩:=oa.sin sp (Z13 hsp);have hrow:rows[sp.1.toNat]? =some e:=by rw [si.hk,Int.toNat_natCast];exact si.he
  have ew:wrS rows sp=(e.nm,sp.2.2.1):=by unfold wrS;rw [hrow]
  have aS:atI ys (i:Int)=some (.ref b):=A0j (by rw [hyi,ev]);have aK:atI ks (i:Int)=some (.ref R):=A0j (by rw [hki,ek]);have aN:atI ((rows.map (·.nm)).map V.str) sp.1=some (.str e.nm):=by rw [si.hk];exact A0j (by rw [Z1z,Z1z,si.he];rfl)
  refine ⟨_,(A0c (A0m (i:=5) B1h.nd (A1t (A0a (A1b A1l (pv 3) (A1b A1d (A1b A1l (pv 1) (pv 0)) A0g)) (A0a (A1b A1d (A1b A1l (pv 1) (pv 0)) A0g) A0d))))
   (A3m (A1s (PW.pt (B4i (A0t A3f (A1b A1d (A1b A1l (pv 1) (pv 0)) A0g) A0o (A1i _)) (B1c (A0t A3f (A1b A1l (A6b hn (pv 4) (pv 5)) A0g) A0g (A1i _)))))
    (A0f (A0p B0l))
    A0s)
   (A0c (A1o (A1n (A1b A1l (pv 2) (pv 0))) (A0k (i:=6) B1h.nd)
    (A0f (A1s (PW.pt (B4i (A0t (B2o hn) (pv 6) (pv 4) (by with_unfolding_all rfl)) (B1c (A0t C1k (A1b A1l (A6b hn (pv 4) (pv 6)) A0g) A0g (A1i _)))))
     (A0f (A0p B0l))
     A0s)))
   (A0f (A0p B0l))))),?_⟩
  refine ⟨_,rfl,_,rfl,_,rfl,SL,_,_,_,rfl,rfl,SqL.of hSL,aS,b,_,_,_,rfl,rfl,SqT.of h1,A0j (j:=0) rfl,NL,_,_,_,rfl,rfl,SqL.of oa.nl,aN,_,rfl,_,rfl,SL,_,_,_,rfl,rfl,SqL.of hSL,aS,b,_,_,_,rfl,rfl,SqT.of h1,A0j (j:=2) rfl,A0y rfl,λq hq=> ?_⟩;have sq:A0r H (upd H q (.tup [.str e.nm,.ref c])):=A0e hq;have na:A2b (upd H q (.tup [.str e.nm,.ref c])) (nk (wrS rows sp)) q:=by rw [ew];exact A2i A0b (by rw [List.map_map];exact sq _ _ hc)
  generalize upd H q (.tup [.str e.nm,.ref c])=H1 at sq na;have lf1:=lf.same sq;obtain ⟨kv,ad,nd,vv,vl,_,_⟩:=lf1.ex;have get:∀{G:Hp} (r:Str×List Int) (x:Int×Int),A0r H1 G->cnt r=some x->A1y kv (nk r)=some (.ref (ad r))/\G (ad r)=some (.lst [.int x.1,.int x.2]):=λr x s' e=>⟨by rw [vv r,e];rfl,s' _ _ (vl r x e).1⟩;obtain ⟨x0,hx0⟩:=Option.ne_none_iff_exists'.mp hown;have hS1:=sq _ _ hSL;have h11:=sq _ _ h1;refine ⟨λZ G=>Z=[Sio (i:Nat),Sro SL,Sro KL,Sro NL,Sro LD,Sro q,none]/\H1=G,?_,?_⟩
  ·refine ⟨_,rfl,_,rfl,SL,_,_,_,rfl,rfl,SqL.of hS1,aS,b,_,_,_,rfl,rfl,SqT.of h11,A0j (j:=1) rfl,rfl,_,rfl,C5x (λhadd=> ?_) (λ_=>A7x ⟨rfl,rfl⟩)⟩;obtain ⟨g1,g2⟩:=get _ _ (A0r.refl _) hx0;refine ⟨_,rfl,_,rfl,LD,q,_,_,nk (wrS rows sp),_,⟨rfl,rfl,nd,na,rfl⟩,g1,ad (wrS rows sp),_,_,_,rfl,rfl,SqL.of g2,A0j (j:=0) rfl,rfl,_,rfl,A3u (λh0=> ?_) (λ_=>⟨rfl,rfl⟩)⟩;exact k false H1 sq λgood=>absurd (V.int.inj h0) (good.1 (V.str.inj (of_decide_eq_true hadd)) x0 hx0)
  rintro Z G ⟨rfl,rfl⟩;have hR1:=sq _ _ hR;refine ⟨_,rfl,_,rfl,KL,_,_,_,rfl,rfl,SqL.of (sq _ _ hKL),aK,R,rfl,⟨_,SqL.of hR1⟩,?_⟩;refine A1v (K:=K) (a:=R) (xs:=vs) (λj Z G=>∃(o6:Option V),Z=[Sio (i:Nat),Sro SL,Sro KL,Sro NL,Sro LD,Sro q,o6]/\H1=G) ⟨none,rfl,rfl⟩ (by rintro j Z G _ ⟨_,_,rfl⟩;exact SqL.of hR1) ?_ ?_
  ·rintro j v Z G hv ⟨o6,rfl,rfl⟩;walk_at "g";obtain ⟨r,hr',tr⟩:=A6w rds hv;obtain ⟨b1,rfl,na1⟩:=B4u (tr.keep (KT.same sq));have rm:=Z13 hr';refine ⟨_,rfl,_,rfl,LD,b1,_,_,nk r,⟨rfl,rfl,nd,na1,rfl⟩,_,rfl,C5x (λhz=> ?_) (λ_=>A7x ⟨_,rfl,rfl⟩)⟩;have hz:(A1y kv (nk r)).isSome=true:=hz
   obtain ⟨x1,hx1⟩:∃x1,cnt r=some x1:=by
    rw [vv r] at hz
    cases hc:cnt r with
    | none=>rw [hc] at hz;cases hz
    | some x1=>exact ⟨x1,rfl⟩
   obtain ⟨g1,g2⟩:=get _ _ (A0r.refl _) hx1;refine ⟨_,rfl,_,rfl,LD,b1,_,_,nk r,_,⟨rfl,rfl,nd,na1,rfl⟩,g1,ad r,_,_,_,rfl,rfl,SqL.of g2,A0j (j:=1) rfl,_,_,rfl,rfl,_,rfl,A3u (λh0=> ?_) (λ_=>⟨_,rfl,rfl⟩)⟩;have h0:0<x1.2:=h0;exact k false H1 sq λgood=>by have:=good.2 r rm x1 hx1;lia
  ·rintro Z G ⟨o6,rfl,rfl⟩;exact k true H1 sq λ_=>rfl
def C5c (l:List Stp):Prop:=∀(m:Nat) (s:Stp),l[m]? =some s->s.2.1="add"->∃(j:Nat) (s':Stp),j<m/\l[j]? =some s'/\s'.1=s.1/\s'.2.2.1=s.2.2.1
theorem C5c.app {a b:List Stp} (ha:C5c a) (hb:C5c b):C5c (a++b):=λm s h hw=>by
 rcases Nat.lt_or_ge m a.length with z | z
 ·rw [Z26 z] at h;obtain ⟨j,s',h1,h2,h3⟩:=ha m s h hw;exact ⟨j,s',h1,by rw [Z26 (by lia)];exact h2,h3⟩
 ·rw [Z1l z] at h;obtain ⟨j,s',h1,h2,h3⟩:=hb _ s h hw;exact ⟨a.length+j,s',by lia,by rw [Z1l (by lia),Nat.add_sub_cancel_left];exact h2,h3⟩
theorem C5c.flat {α:Type} {f:α->List Stp}:∀{l:List α},(∀x∈l,C5c (f x))->C5c (l.flatMap f)
 | [],_=>λm s h=>by simp at h
 | x::r,h=>by
  rw [List.flatMap_cons];exact C5c.app (h x (.head _)) (C5c.flat λy hy=>h y (.tail _ hy))
theorem D1q (k:Int) (ss c:List Int):C5c (A1j k ss c):=λm s h hw=>by
 have hin:=B0u (Z13 h);unfold A1j at h⊢;split at h
 ·rename_i z
  cases m with
  | zero=>simp at h;rw [<-h] at hw;exact absurd hw (show¬(("set":Str)="add") by decide +kernel)
  | succ m=>simp at h
 ·rename_i z;rw [Z0t z]
  cases m with
  | zero=>simp at h;rw [<-h] at hw;exact absurd hw (show¬(("start":Str)="add") by decide +kernel)
  | succ m=>exact ⟨0,(k,"start",c,[]),by lia,rfl,hin.1.symm,hin.2.symm⟩
theorem C7w (rws:List Rw) (n:Nat):C5c (A1f rws n):=by
 unfold A1f;refine C5c.flat λk _=> ?_;unfold A9l;split
 ·unfold A4h;exact C5c.flat λc _=>D1q _ _ c
 ·exact λm s h=>by simp at h
structure B1w (rows:List LnM) (ss:List Stp) (pend:List Nat) (cnt:Str×List Int->Option (Int×Int)):Prop where
 asc:pend.Pairwise (· < ·)
 lt:∀j∈pend,j<ss.length
 dom:∀(j:Nat) (s:Stp),ss[j]? =some s->cnt (wrS rows s)≠none
 num:∀r q,cnt r=some q->q.2=((pend.filter (wrA rows ss r)).length:Int)/\((∃(j:Nat) (s:Stp),j∉pend/\ss[j]? =some s/\wrS rows s=r)->q.1≠0)
theorem E3k {s':Stp} (h1:s'.1=s.1) (h2:s'.2.2.1=s.2.2.1):wrS rows s'=wrS rows s:=by
 unfold wrS;rw [h1,h2]
theorem A8u (h:ss[j]? =some s):wrA rows ss r j=true↔wrS rows s=r:=by
 unfold wrA;rw [h];simp
theorem C6q (lok:B2i lk L nm) (fo:A9i L nm es tb T rows os) {cnt:Str×List Int->Option (Int×Int)} (po:B1w rows (A1f (rows.map (A4p L)) rows.length) pend cnt) (hm:pend[0]? =some m) (hs:(A1f (rows.map (A4p L)) rows.length)[m]? =some s):D7z lk rows cnt s:=by
 obtain ⟨m',rest,rfl⟩:∃a b,pend=a::b:=by
  cases pend with
  | nil=>simp at hm
  | cons a b=>exact ⟨a,b,rfl⟩
 have e:m'=m:=by simpa using hm
 subst e;have asc:=po.asc;rw [List.pairwise_cons] at asc
 have least:∀j∈m'::rest,m'<=j:=λj hj=>by
  rcases Z0e.mp hj with z | z
  ·lia
  ·have:=asc.1 j z;lia
 refine ⟨λhw q hq=> ?_,λr hr q hq=> ?_⟩
 ·obtain ⟨j,s',h1,h2,h3,h4⟩:=C7w _ _ m' s hs hw;exact (po.num _ q hq).2 ⟨j,s',λz=>by have:=least j z;lia,h2,E3k h3 h4⟩
 ·rw [(po.num r q hq).1]
  have:(m'::rest).filter (wrA rows (A1f (rows.map (A4p L)) rows.length) r)=[]:=List.filter_eq_nil_iff.mpr λj hj hw=>by
   have hjl:=po.lt j hj;have hsj:(A1f (rows.map (A4p L)) rows.length)[j]? =some _:=Z0b hjl;have ew:=(A8u hsj).mp hw
   have eo:A1f (rows.map (A4p L)) rows.length=(A1f (rows.map (A4p L)) rows.length).take j++(A1f (rows.map (A4p L)) rows.length)[j]::(A1f (rows.map (A4p L)) rows.length).drop (j+1):=by
    rw [<-Z1u hjl,Z2e]
   refine D7c lok fo _ _ _ eo s ?_ (by rw [ew];exact hr);rcases Nat.lt_or_ge m' j with z | z
   ·exact .tail _ (Z13 (show ((A1f (rows.map (A4p L)) rows.length).take j)[m']? =some s by rw [List.getElem?_take_of_lt z];exact hs))
   ·have ej:m'=j:=by have:=least j hj;lia
    subst ej;rw [hsj] at hs;cases hs;exact .head _
  rw [this];exact Int.le_refl _
theorem B5w {α:Type} {p:α->Bool}:∀{l:List α} {k:Nat} {x:α},l[k]? =some x->(l.filter p).length=((l.eraseIdx k).filter p).length+(if p x=true then 1 else 0)
 | [],_,_,h=>by simp at h
 | y::r,0,x,h=>by
  simp at h;subst h;rw [List.eraseIdx_cons_zero];by_cases e:p y=true
  ·rw [List.filter_cons_of_pos e,Z12 e];rfl
  ·rw [List.filter_cons_of_neg e,Z0t e];rfl
 | y::r,k+1,x,h=>by
  have ih:=B5w (p:=p) (l:=r) (k:=k) (x:=x) (by simpa using h);rw [List.eraseIdx_cons_succ];by_cases e:p y=true
  ·rw [List.filter_cons_of_pos e,List.filter_cons_of_pos e,Z0y,Z0y];lia
  ·rw [List.filter_cons_of_neg e,List.filter_cons_of_neg e];exact ih
theorem B3g {α:Type}:∀{l:List α} {k:Nat} {x y:α},l[k]? =some x->y∈l->y=x\/y∈l.eraseIdx k
 | [],_,_,_,h,_=>by simp at h
 | z::r,0,x,y,h,m=>by
  simp at h;subst h;rw [List.eraseIdx_cons_zero];exact Z0e.mp m
 | z::r,k+1,x,y,h,m=>by
  rw [List.eraseIdx_cons_succ];rcases Z0e.mp m with e | m
  ·exact .inr (by rw [e];exact .head _)
  ·exact (B3g (by simpa using h) m).imp id λz=> .tail _ z
theorem B1w.pop {cnt:Str×List Int->Option (Int×Int)} (po:B1w rows ss pend cnt) {k:Nat} {q:Int×Int} (hj:pend[k]? =some j) (hs:ss[j]? =some s) (hq:cnt (wrS rows s)=some q):B1w rows ss (pend.eraseIdx k) (λr=>if r=wrS rows s then some (1,q.2-1) else cnt r):=by
 refine ⟨po.asc.sublist (List.eraseIdx_sublist _ _),λi hi=>po.lt i ((List.eraseIdx_sublist _ _).subset hi),λi s' h=> ?_,λr q' h=> ?_⟩
 ·split
  ·intro z;cases z
  ·exact po.dom i s' h
 ·have fe:=B5w (p:=wrA rows ss r) hj;by_cases e:r=wrS rows s
  ·rw [Z12 e] at h;cases h;have hn:=(po.num _ q (by rw [e];exact hq:cnt r=some q)).1;rw [Z12 ((A8u hs).mpr e.symm)] at fe;exact ⟨by show q.2-1=_;lia,λ_=>by show (1:Int)≠0;decide⟩
  ·rw [Z0t e] at h;obtain ⟨n1,n2⟩:=po.num r q' h;rw [Z0t (λz=>e ((A8u hs).mp z).symm)] at fe;refine ⟨by lia,?_⟩;rintro ⟨i,s',h1,h2,h3⟩;refine n2 ⟨i,s',λz=> ?_,h2,h3⟩;rcases B3g hj z with z | z
   ·subst z;rw [hs] at h2;cases h2;exact e h3.symm
   ·exact h1 z
theorem B4v.at {cnt:Str×List Int->Option (Int×Int)} (h:B4v P w H0 G M N LD cnt) {q:Int×Int} (hq:cnt r0=some q):∃(b:Addr) (kv:List (A1w×V)),A3l P w [true,false] G LD kv/\A1y kv (nk r0)=some (.ref b)/\G b=some (.lst [.int q.1,.int q.2])/\H0 b=none/\b∉M/\
  ∀(x y:Int),B4v P w H0 (upd G b (.lst [.int x,.int y])) M N LD (λr=>if r=r0 then some (x,y) else cnt r):=by
 obtain ⟨kv,ad,h1,h2,h3,h4,h5⟩:=h.ex;obtain ⟨g1,g2,g3⟩:=h3 r0 q hq;refine ⟨ad r0,kv,h1,by rw [h2,hq];rfl,g1,g2,g3,λx y=>⟨kv,ad,?_,λr=> ?_,λr q' e=> ?_,λr r' e1 e2 e3=> ?_,h5⟩⟩
 ·refine h1.keeps (λu z=> ?_) λb ys z=>by rw [A0h (A1g z g1 (by intro z;cases z))];exact z
  rw [A0h (λz=> ?_)]
  ·assumption
  ·obtain ⟨_,e,_⟩:=h1;rw [z,g1] at e;cases e
 ·rw [h2 r];by_cases e:r=r0
  ·subst e;rw [Z12 rfl,hq];rfl
  ·rw [Z0t e]
 ·by_cases er:r=r0
  ·subst er;rw [Z12 rfl] at e;cases e;exact ⟨A0b,g2,g3⟩
  ·rw [Z0t er] at e;have ne:ad r≠ad r0:=λz=>er (h4 r r0 (by rw [e];intro z;cases z) (by rw [hq];intro z;cases z) z);exact ⟨by rw [A0h ne];exact (h3 r q' e).1,(h3 r q' e).2⟩
 ·have c:∀r,(if r=r0 then some (x,y) else cnt r)≠none->cnt r≠none:=λr z=>by
   by_cases er:r=r0
   ·subst er;rw [hq];intro z;cases z
   ·rw [Z0t er] at z;exact z
  exact h4 r r' (c r e1) (c r' e2) e3
theorem B4v.more {cnt:Str×List Int->Option (Int×Int)} (h:B4v P w H0 G M N LD cnt) (hb:G b=none):B4v P w H0 (upd G b o) (b::M) N LD cnt:=by
 obtain ⟨kv,ad,h1,h2,h3,h4,h5⟩:=(h.same (A0e (o:=o) hb)).ex;obtain ⟨kv',ad',h1',h2',h3',h4',h5'⟩:=h.ex;refine ⟨kv',ad',A1h h1' (A0e hb),h2',λr q e=> ?_,h4',h5'⟩;obtain ⟨g1,g2,g3⟩:=h3' r q e;exact ⟨(A0e hb) _ _ g1,g2,λz=>(Z0e.mp z).elim (λz=>by rw [z,hb] at g1;cases g1) g3⟩
theorem B4v.set {cnt:Str×List Int->Option (Int×Int)} (h:B4v P w H0 G M N LD cnt) (hb:G b=some (.lst xs)) (m:b∈M):B4v P w H0 (upd G b o) M N LD cnt:=by
 obtain ⟨kv,ad,h1,h2,h3,h4,h5⟩:=h.ex;refine ⟨kv,ad,h1.keeps (λu z=> ?_) λc ys z=>by rw [A0h (A1g z hb (by intro z;cases z))];exact z,h2,λr q e=>⟨?_,(h3 r q e).2⟩,h4,h5⟩
 ·rw [A0h (λz=> ?_)]
  ·assumption
  ·obtain ⟨_,e,_⟩:=h1;rw [z,hb] at e;cases e
 ·rw [A0h (λz=>(h3 r q e).2.2 (by rw [z];exact m))];exact (h3 r q e).1
theorem B4v.le {N':Nat} {cnt:Str×List Int->Option (Int×Int)} (h:B4v P w H0 G M N LD cnt) (hn:N<=N'):B4v P w H0 G M N' LD cnt:=by
 obtain ⟨kv,ad,h1,h2,h3,h4,h5⟩:=h.ex;exact ⟨kv,ad,h1,h2,h3,h4,Z1n h5 hn⟩
inductive B9t (P:Program) (w:World) (vs:List V) (H:Hp) (Q:VK):Prop
 | mk (ab SL KL:Addr) (c:Int) (x:Abt) (ol:Addr) (L:Str->Int) (nm:List Str) (es:List (Str×List Str)) (tb:List Str) (T:Nat) (rows:List LnM) (os:List Str) (lk:List (Key×V)) (ys ks:List V) (_:vs=[.ref ab,.ref SL,.ref KL,.int c]) (_:AbF H ab x ol L nm es tb rows os) (_:A9i L nm es tb T rows os) (_:B2i lk L nm) (_:H SL=some (.lst ys)) (_:A2j H ys (A1f (rows.map (A4p L)) rows.length)) (_:H KL=some (.lst ks)) (_:C2l H lk rows ks (A1f (rows.map (A4p L)) rows.length)) (_:∀(OL:Addr) (zs:List V) (ss:List Stp) (H':Hp),H OL=none->A0r H H'->H' OL=some (.lst zs)->A2j H' zs ss->(∀s∈ss,s∈A1f (rows.map (A4p L)) rows.length)->(∀s∈A1f (rows.map (A4p L)) rows.length,s∈ss)->ss.length=(A1f (rows.map (A4p L)) rows.length).length->Q (.ref OL) H'):B9t P w vs H Q
def D1y (P:Program) (w:World):Sp:=λvs H Q _=>B9t P w vs H Q
theorem B9x {α β:Type} (f:α->β):∀(l:List α) (k:Nat),(l.map f).eraseIdx k=(l.eraseIdx k).map f
 | [],_=>rfl
 | _::_,0=>rfl
 | x::r,k+1=>by rw [Z0p,List.eraseIdx_cons_succ,List.eraseIdx_cons_succ,Z0p,B9x f r k]
def B6z (rows:List LnM) (ss:List Stp) (i:Nat) (r:Str×List Int):Option (Int×Int):=if ((List.range i).filter (wrA rows ss r)).length=0 then none else some (0,(((List.range i).filter (wrA rows ss r)).length:Int))
theorem C6a (T:Txt K mg t):FO P w base T.ii 2 (D1y P w):=by
 have Gd4:= @C5t P w K mg base t T;refine T.ii.F.ok A2p (by walk_at "ln") λ_ A _ s H _ Q E hr h=> ?_
 ·obtain ⟨ab,SL,KL,c,x,ol,L,nm,es,tb,T0,rows,os,lk,ys,ks,rfl,af,fo,lok,hSL,st,hKL,lks,k⟩:=h;have hu:=A6c hr;have hn:=B4r hr;have fr:=fo.fr
  have rwk:∀e∈rows.map (A4p L),C4r e:=λe he=>by
   walk_at "h"
  walk_at "k";have least:∀{pend:List Nat} {cnt:Str×List Int->Option (Int×Int)},B1w rows (A1f (rows.map (A4p L)) rows.length) pend cnt->∀{m:Nat} {s:Stp},pend[0]? =some m->(A1f (rows.map (A4p L)) rows.length)[m]? =some s->D7z lk rows cnt s:=λ{pend cnt} po {m s} h1 h2=>C6q lok fo po h1 h2;generalize hss:A1f (rows.map (A4p L)) rows.length=ss at st lks k sin least ole;have lys:=Paired.length st;obtain ⟨ts,hts,pts⟩:=af.li;have lts:=Paired.length pts
  refine ⟨_,(A0c (B8d (i₀:=4) (N':=["_law_line_here"]) (ix:=(List.replicate 1 none)) A2p.nd rfl (.inl rfl) rfl (A2x rfl (by decide +kernel) (by decide +kernel)) (A2y rfl) (A1n (A0u hu (pv 0) A0o)) (λ_ _ _ _=>(A0k (i:=0) C5u)) (λ_ _ _ _=>(A1b (D7x (K:=K) rfl) (pv 0) A0g)))
   (A0c (A0m (i:=5) A2p.nd (A7t (sh:=[true,false])))
   (A0c (A1o (A1n (pv 1)) (A0k (i:=6) A2p.nd)
    (A0c (A0m (i:=7) A2p.nd (A1t (A0a (A1b A1l (pv 4) (A1b A1d (pv 6) A0g)) (A0a (A1b A1d (pv 6) A0g) A0d))))
    (A3m (A3c (D0d PySem.F.slot_dict_setdefault PySem.F.type_dict_setdefault (C4y hn) (pv 5) (A0a (pv 7) (A0a (A2f (A0a A0g (A0a A0g A0d))) A0d))))
    (A0f (A5f (A0x A4a (A1b A1l (A6b hn (pv 5) (pv 7)) A0g) A0g) (A6z (A6b hn (pv 5) (pv 7)) A0g B0r))))))
   (A0c (A0m (i:=8) A2p.nd (B7o rfl (by rfl) T.d_ (by rfl) T.bo (A0a (A0q A0z (by rfl) T.au Z0r (A0a (pv 1) A0d)) A0d)))
   (A0c (A0m (i:=9) A2p.nd (A2f A0d))
   (A0c (C4m PassesOwn.never (A0t C1k (A0q A0z (by rfl) T.au Z0r (A0a (pv 8) A0d)) A0g (A1i _))
    (A0c (A0m (i:=10) A2p.nd (A0x A2a (A0x A4a (pv 3) (A0x C0g (A0q A0z (by rfl) T.au Z0r (A0a (pv 9) A0d)) (A0x A2a (A0x A2w (pv 3) A0g) A0g))) (A0q A0z (by rfl) T.au Z0r (A0a (pv 8) A0d))))
    (A3m (A1s (A0t A3f (A0x A2a (pv 3) A0g) A0g (A1i _))
     (A0f (A0m (i:=10) A2p.nd A0g))
     A0s)
    (A0c (C4m PassesOwn.never (B2w (A3z (pcl Gd4 hr T.im (A0a (A1b A1l (pv 8) (pv 10)) (A0a (pv 1) (A0a (pv 2) (A0a (pv 4) (A0a (pv 5) A0d))))))))
     (A0f (A0m (i:=10) A2p.nd (A0x A2a (A0x A4a (pv 10) A0g) (A0q A0z (by rfl) T.au Z0r (A0a (pv 8) A0d))))))
    (A0c (A0m (i:=6) A2p.nd (A1b A1l (pv 1) (B0a Z0k PySem.F.slot_list_pop PySem.F.type_list_pop D3j (pv 8) (A0a (pv 10) A0d))))
    (A0c (A0m (i:=7) A2p.nd (A1t (A0a (A1b A1l (pv 4) (A1b A1d (pv 6) A0g)) (A0a (A1b A1d (pv 6) A0g) A0d))))
    (A0c (A5f (A0x A7y (A1b A1l (A6b hn (pv 5) (pv 7)) A0g) A0g) (A6z (A6b hn (pv 5) (pv 7)) A0g B0r))
    (A0c (A5f A0g (A6z (A6b hn (pv 5) (pv 7)) A0g B0r))
    (A0f (A3c (B0a Z0k Z0n Z0o A3h (pv 9) (A0a (pv 6) A0d))))))))))))
   (A0f (A0p (pv 9))))))))),?_⟩
  refine ⟨_,rfl,ab,_,rfl,af.get (A6g x ol),x.ln,rfl,⟨_,SqL.of hts⟩,λNL hNL=> ?_⟩;refine A3j (K:=K) (a:=x.ln) (D:=NL) (xs:=ts) (λi vs G=>A0r H G/\G NL=some (.lst vs)/\vs=((rows.take i).map (·.nm)).map V.str) ⟨A0e hNL,A0b,rfl⟩ (by rintro i vs G ⟨s2,_⟩;exact SqL.of (s2 _ _ hts)) ?_ ?_
  ·rintro i v vs G hv ⟨s2,hG,rfl⟩;refine B9q ?_;intro N';obtain ⟨e,he,b,ca,cu,tv,rfl,_,hb,_⟩:=A6w pts hv;have hi:=(Z03.mp hv).1;refine ⟨True.intro,_,rfl,b,_,_,_,rfl,rfl,SqT.of (s2 _ _ hb),A0j (j:=0) rfl,hG,A1c (by simp;lia),A0n s2 hNL,A0b,?_⟩;rw [Z14,he,Z2f,Z0s,Z0s];rfl
  rintro vs H1 ⟨s1,hN1,rfl⟩;rw [lts,Z18] at hN1;have oa1:OrA H1 lk L rows ss SL KL NL:=⟨⟨ys,s1 _ _ hSL,st.kt (KT.same s1)⟩,⟨ks,s1 _ _ hKL,lks.same s1⟩,hN1,sin⟩;refine λLD o0 hLD nd0=> ?_;have s2:A0r H1 (upd H1 LD o0):=A0e hLD;have nd0:A3l P w [true,false] (upd H1 LD o0) LD []:=nd0;generalize upd H1 LD o0=H2 at s2 nd0;have lf0:B4v P w H1 H2 [] 0 LD (B6z rows ss 0):=⟨[],λ_=>0,nd0,λr=>rfl,(λr q e=>by cases e),(λr r' e=>absurd rfl e),Z1e _⟩;have hS2:=s2 _ _ (s1 _ _ hSL);refine ⟨_,rfl,SL,rfl,⟨_,SqL.of hS2⟩,?_⟩;refine A1v (K:=K) (a:=SL) (xs:=ys) (λi Z G=>∃(o6 o7:Option V),Z=[Sro ab,Sro SL,Sro KL,Sio c,Sro NL,Sro LD,o6,o7,none,none,none]/\A0r H1 G/\B4v P w H1 G [] i LD (B6z rows ss i)) ⟨none,none,rfl,s2,lf0⟩ (by rintro i Z G _ ⟨_,_,_,sG,_⟩;exact SqL.of (sG _ _ (s1 _ _ hSL))) ?_ ?_
  ·rintro i v Z G hv ⟨o6,o7,rfl,sG,lf⟩;walk_at "g";obtain ⟨sp,hsp,b,cc,u,rfl,h1,hc,hu'⟩:=A6w st hv;have hi:=(Z03.mp hv).1;obtain ⟨kk,e,si⟩:=sin sp (Z13 hsp);have hrow:rows[sp.1.toNat]? =some e:=by rw [si.hk,Int.toNat_natCast];exact si.he
   have ew:wrS rows sp=(e.nm,sp.2.2.1):=by unfold wrS;rw [hrow]
   have aN:atI ((rows.map (·.nm)).map V.str) sp.1=some (.str e.nm):=by rw [si.hk];exact A0j (by rw [Z1z,Z1z,si.he];rfl)
   have h1G:=sG _ _ (s1 _ _ h1);have hcG:=sG _ _ (s1 _ _ hc);refine ⟨_,rfl,_,rfl,b,_,_,_,rfl,rfl,SqT.of h1G,A0j (j:=0) rfl,NL,_,_,_,rfl,rfl,SqL.of (sG _ _ hN1),aN,_,rfl,b,_,_,_,rfl,rfl,SqT.of h1G,A0j (j:=2) rfl,A0y rfl,λq hq=> ?_⟩;have sq:A0r G (upd G q (.tup [.str e.nm,.ref cc])):=A0e hq;have na:A2b (upd G q (.tup [.str e.nm,.ref cc])) (nk (wrS rows sp)) q:=by rw [ew];exact A2i A0b (by rw [List.map_map];exact sq _ _ hcG)
   generalize upd G q (.tup [.str e.nm,.ref cc])=G1 at sq na;have lf1:=lf.same sq;have sG1:=sG.trans sq;refine ⟨λZ G2=>Z=[Sro ab,Sro SL,Sro KL,Sio c,Sro NL,Sro LD,Sro b,Sro q,none,none,none]/\A0r H1 G2/\A2b G2 (nk (wrS rows sp)) q/\∃z:Int×Int,B4v P w H1 G2 [] (i+1) LD (λr=>if r=wrS rows sp then some z else B6z rows ss i r)/\z.1=0/\z.2=(((List.range i).filter (wrA rows ss (wrS rows sp))).length:Int),?_,?_⟩
   ·obtain ⟨kv,ad,nd,vv,vl,inj,lkv⟩:=lf1.ex;refine ⟨_,rfl,⟨LD,_,_,rfl,nd⟩,_,rfl,A0y rfl,λl0 hl0=> ?_⟩;obtain ⟨G2,s3,hl1,eNH⟩:=nH (o:= .lst [.int 0,.int 0]) hl0
    try rw [eNH]
    have nd2:=A1h nd s3;refine ⟨LD,q,_,_,nk (wrS rows sp),_,_,rfl,⟨rfl,rfl,nd2,na.keeps (KT.same s3),rfl⟩,A1c (by lia),λv hv=> ?_,λhnone o1 nd3=> ?_⟩
    ·rw [vv] at hv
     cases hc0:B6z rows ss i (wrS rows sp) with
     | none=>rw [hc0] at hv;cases hv
     | some z =>
      refine ⟨rfl,sG1.trans s3,na.keeps (KT.same s3),z,?_,?_⟩
      ·have e2:(λr=>if r=wrS rows sp then some z else B6z rows ss i r)=B6z rows ss i:=funext λr=>by
        by_cases er:r=wrS rows sp
        ·rw [Z12 er,er,hc0]
        ·rw [Z0t er]
       rw [e2];exact (lf1.same s3).le (Nat.le_succ _)
      ·unfold B6z at hc0;split at hc0
       ·cases hc0
       ·cases hc0;exact ⟨rfl,rfl⟩
    ·have hc0:B6z rows ss i (wrS rows sp)=none:=by
      rw [vv] at hnone
      cases hc0:B6z rows ss i (wrS rows sp) with
      | none=>rfl
      | some z=>rw [hc0] at hnone;cases hnone
     obtain ⟨uL,eL,tL⟩:=A2k nd2;have lL:l0≠LD:=λz=>by subst z;obtain ⟨_,e,_⟩:=nd;rw [hl0] at e;cases e
     have kt:KT G2 (upd G2 LD o1):=KT.at eL tL
     have dn:∀{b:Addr} {xs:List V},G2 b=some (.lst xs)->upd G2 LD o1 b=some (.lst xs):=λ{b xs} z=>by
      rw [A0h (λy=> ?_)]
      ·exact z
      ·subst y;obtain ⟨_,e,_⟩:=nd2;rw [z] at e;cases e
     have LH:H1 LD=none:=hLD;refine ⟨rfl,A0n (sG1.trans s3) LH,na.keeps ((KT.same s3).trans kt),(0,0),⟨A3v kv (nk (wrS rows sp)) (.ref l0),λr=>if r=wrS rows sp then l0 else ad r,nd3,λr=> ?_,λr z e=> ?_,λr r' e1 e2 e3=> ?_,?_⟩,rfl,?_⟩
     ·rw [A7q];by_cases er:r=wrS rows sp
      ·subst er;simp
      ·rw [Z0t (λz=>er (B2k z)),vv r];simp [er]
     ·try dsimp only
      by_cases er:r=wrS rows sp
      ·rw [Z12 er] at e⊢;cases e;exact ⟨dn hl1,sG1.free hl0,Z1i⟩
      ·rw [Z0t er] at e⊢;exact ⟨dn (s3 _ _ (vl r z e).1),(vl r z e).2⟩
     ·have nl:∀{r:Str×List Int},B6z rows ss i r≠none->ad r≠l0:=λ{r} z y=>by
       obtain ⟨z',hz'⟩:=Option.ne_none_iff_exists'.mp z;have:=(vl r z' hz').1;rw [y,hl0] at this;cases this
      try dsimp only at e3
      by_cases er:r=wrS rows sp <;> by_cases er':r'=wrS rows sp
      ·rw [er,er']
      ·rw [Z0t er'] at e2;rw [Z12 er,Z0t er'] at e3;exact absurd e3.symm (nl e2)
      ·rw [Z0t er] at e1;rw [Z0t er,Z12 er'] at e3;exact absurd e3 (nl e1)
      ·rw [Z0t er] at e1;rw [Z0t er'] at e2;rw [Z0t er,Z0t er'] at e3;exact inj r r' e1 e2 e3
     ·have:=A3t kv (nk (wrS rows sp)) (.ref l0)
      lia
     ·unfold B6z at hc0;split at hc0
      ·rename_i hz;show (0:Int)=_;rw [hz];rfl
      ·cases hc0
   rintro Z G2 ⟨rfl,sG2,na2,z,lf2,z1,z2⟩;obtain ⟨bl,kv,nd,vb,hbl,hbH,_,upd'⟩:=lf2.at (r0:=wrS rows sp) (q:=z) (Z12 rfl);refine ⟨_,rfl,_,rfl,LD,q,_,_,nk (wrS rows sp),_,⟨rfl,rfl,nd,na2,rfl⟩,vb,bl,_,_,_,rfl,rfl,SqL.of hbl,A0j (j:=1) rfl,_,_,rfl,rfl,_,rfl,_,rfl,LD,q,_,_,nk (wrS rows sp),_,⟨rfl,rfl,nd,na2,rfl⟩,vb,bl,_,_,1,rfl,rfl,hbl,rfl,?_⟩;have lf3:=upd' z.1 (z.2+1);refine ⟨_,_,rfl,A0n sG2 hbH,?_⟩
   have e3:(λr=>if r=wrS rows sp then some (z.1,z.2+1) else if r=wrS rows sp then some z else B6z rows ss i r)=B6z rows ss (i+1):=funext λr=>by
    have hf:(List.range (i+1)).filter (wrA rows ss r)=(List.range i).filter (wrA rows ss r)++(if wrS rows sp=r then [i] else []):=by
     rw [List.range_succ,List.filter_append];congr 1;by_cases er:wrS rows sp=r
     ·rw [Z12 er,D6h ((A8u hsp).mpr er)]
     ·rw [Z0t er,D7t (λz=>er ((A8u hsp).mp z))]
    by_cases er:r=wrS rows sp
    ·subst er;unfold B6z;rw [Z12 rfl,hf,Z12 rfl,Z06,Z0t (by simp),z1,z2];simp
    ·rw [Z0t er,Z0t er];unfold B6z;rw [hf,Z0t (Ne.symm er),Z0u]
   rw [e3] at lf3;exact lf3
  rintro Z G ⟨o6,o7,rfl,sG,lf⟩;rw [lys] at lf;have hSG:=sG _ _ (s1 _ _ hSL);refine ⟨_,rfl,SL,_,rfl,.inl (SqL.of hSG),_,rfl,by lia,by lia,λPL hPL=> ?_⟩;rw [lys,Int.toNat_natCast];have lf3:=lf.more (o:= .lst ((List.range ss.length).map λ(k:Nat)=>V.int (k:Int))) hPL;have s3:A0r G (upd G PL (.lst ((List.range ss.length).map λ(k:Nat)=>V.int (k:Int)))):=A0e hPL;have hP3:upd G PL (.lst ((List.range ss.length).map λ(k:Nat)=>V.int (k:Int))) PL=some (.lst ((List.range ss.length).map λ(k:Nat)=>V.int (k:Int))):=A0b;generalize upd G PL (.lst ((List.range ss.length).map λ(k:Nat)=>V.int (k:Int)))=G3 at lf3 s3 hP3;refine ⟨A0y rfl,λOL hOL=> ?_⟩;have lf4:=lf3.more (o:= .lst []) hOL;have s4:A0r G3 (upd G3 OL (.lst [])):=A0e hOL;have hO4:upd G3 OL (.lst []) OL=some (.lst []):=A0b;have PO:PL≠OL:=A0i hP3 hOL;generalize upd G3 OL (.lst [])=G4 at lf4 s4 hO4;have PH:H1 PL=none:=sG.free hPL;have OH:H1 OL=none:=sG.free (s3.free hOL)
  have po4:B1w rows ss (List.range ss.length) (B6z rows ss ss.length):=by
   refine ⟨List.pairwise_lt_range,λj hj=>List.mem_range.mp hj,λj s h z=> ?_,λr q e=> ?_⟩
   ·unfold B6z at z;split at z
    ·rename_i hz;have hm:j∈(List.range ss.length).filter (wrA rows ss (wrS rows s)):=List.mem_filter.mpr ⟨List.mem_range.mpr (Z03.mp h).1,(A8u h).mpr rfl⟩;rw [List.eq_nil_of_length_eq_zero hz] at hm;cases hm
    ·cases z
   ·unfold B6z at e;split at e
    ·cases e
    ·cases e
     refine ⟨rfl,?_⟩;rintro ⟨j,s,h1,h2,_⟩;exact absurd (List.mem_range.mpr (Z03.mp h2).1) h1
  refine ⟨λm Z G=>∃(o6 o7 o10:Option V) (pend:List Nat) (zs:List V) (done:List Stp) (cnt:Str×List Int->Option (Int×Int)),m=pend.length/\Z=[Sro ab,Sro SL,Sro KL,Sio c,Sro NL,Sro LD,o6,o7,Sro PL,Sro OL,o10]/\A0r H1 G/\G PL=some (.lst (pend.map λ(k:Nat)=>V.int (k:Int)))/\G OL=some (.lst zs)/\A2j G zs done/\B4v P w H1 G [OL,PL] ss.length LD cnt/\B1w rows ss pend cnt/\(∀s∈done,s∈ss)/\(∀(j:Nat) (s:Stp),ss[j]? =some s->j∈pend\/s∈done)/\done.length+pend.length=ss.length,
   ⟨_,o6,o7,none,List.range ss.length,[],[],B6z rows ss ss.length,rfl,rfl,(sG.trans s3).trans s4,s4 _ _ hP3,hO4,.nil,lf4,po4,(λs hs=>nomatch hs),λj s h=> .inl (List.mem_range.mpr (Z03.mp h).1),by simp⟩,?_⟩
  rintro m Z G5 ⟨o6,o7,o10,pend,zs,done,cnt,rfl,rfl,sG5,hP,hO,sto,lf5,po,din,dall,dlen⟩;have lzs:=Paired.length sto;refine ⟨_,rfl,PL,_,rfl,.inl (SqL.of hP),_,_,rfl,rfl,_,rfl,A3u (λhpos=> ?_) (λhz=> ?_)⟩
  ·have hpos:(0:Int)<((pend.map λ(k:Nat)=>V.int (k:Int)).length:Int):=hpos;have hpl:0<pend.length:=by rw [Z08] at hpos;lia
   refine ⟨λZ' H'=>∃m',m'<pend.length/\∃(o6 o7 o10:Option V) (pend:List Nat) (zs:List V) (done:List Stp) (cnt:Str×List Int->Option (Int×Int)),m'=pend.length/\Z'=[some (.ref ab),some (.ref SL),some (.ref KL),some (.int c),some (.ref NL),some (.ref LD),o6,o7,some (.ref PL),some (.ref OL),o10]/\A0r H1 H'/\H' PL=some (.lst (pend.map λ(k:Nat)=>V.int (k:Int)))/\H' OL=some (.lst zs)/\A2j H' zs done/\B4v P w H1 H' [OL,PL] ss.length LD cnt/\B1w rows ss pend cnt/\(∀s∈done,s∈ss)/\(∀(j:Nat) (s:Stp),ss[j]? =some s->j∈pend\/s∈done)/\done.length+pend.length=ss.length,λZ' H' z=>z,?_⟩;refine ⟨_,rfl,_,rfl,OL,_,rfl,.inl (SqL.of hO),_,rfl,_,_,rfl,rfl,⟨by decide,by decide⟩,_,_,rfl,rfl,E3a,_,_,rfl,rfl,.inl ⟨by lia,by lia⟩,_,_,rfl,rfl,_,rfl,PL,_,rfl,.inl (SqL.of hP),_,_,rfl,rfl,hpos,?_⟩;show B5c 10 (V.int ((c+(zs.length:Int)*(c/11%13))%((pend.map λ(k:Nat)=>V.int (k:Int)).length:Int))) _ _ _;rw [Z08];refine ⟨λZ G=>∃at_:Nat,at_<pend.length/\Z=[Sro ab,Sro SL,Sro KL,Sio c,Sro NL,Sro LD,o6,o7,Sro PL,Sro OL,Sio (at_:Nat)]/\G5=G,?_,?_⟩
   ·have b1:=Z1v (c+(zs.length:Int)*(c/11%13)) (show (pend.length:Int)≠0 by lia);have b2:=Z1p (c+(zs.length:Int)*(c/11%13)) (show (0:Int)<(pend.length:Int) by lia);generalize (c+(zs.length:Int)*(c/11%13))%(pend.length:Int)=a0 at b1 b2;refine ⟨_,rfl,_,_,rfl,rfl,E3g,rfl,_,rfl,A3u (λ_=>⟨0,hpl,rfl,rfl⟩) (λ_=>⟨a0.toNat,by lia,?_,rfl⟩)⟩;rw [Int.toNat_of_nonneg b1];rfl
   rintro Z G ⟨a1,ha1,rfl,rfl⟩;refine ⟨λm Z G=>∃at_:Nat,at_<pend.length/\m=(pend.length-at_)%pend.length/\Z=[Sro ab,Sro SL,Sro KL,Sio c,Sro NL,Sro LD,o6,o7,Sro PL,Sro OL,Sio (at_:Nat)]/\A0r G5 G,⟨_,a1,ha1,rfl,rfl,A0r.refl _⟩,?_⟩;rintro m Z G6 ⟨at_,hat,rfl,rfl,s6⟩;have hpa:pend[at_]? =some pend[at_]:=Z0b hat;have hjl:=po.lt _ (List.getElem_mem hat);have hsj:ss[pend[at_]]? =some ss[pend[at_]]:=Z0b hjl;have hP6:=s6 _ _ hP;have aP:atI (pend.map λ(k:Nat)=>V.int (k:Int)) (at_:Int)=some (.int (pend[at_]:Nat)):=A0j (by rw [Z1z,hpa];rfl);refine ⟨_,rfl,_,rfl,PL,_,_,_,rfl,rfl,SqL.of hP6,aP,_,rfl,_,rfl,_,rfl,_,rfl,pend[at_],SL,KL,NL,LD,lk,L,rows,ss,ss[pend[at_]],cnt,H1,[OL,PL],ss.length,rfl,oa1.same (sG5.trans s6),hsj,lf5.same s6,po.dom _ _ hsj,λb G7 s7 good=>⟨b,rfl,?_⟩⟩
   cases b with
   | false =>
    refine D5g ⟨λZ' H'=>∃m',m'<(pend.length-at_)%pend.length/\∃at_:Nat,at_<pend.length/\m'=(pend.length-at_)%pend.length/\Z'=[some (.ref ab),some (.ref SL),some (.ref KL),some (.int c),some (.ref NL),some (.ref LD),o6,o7,some (.ref PL),some (.ref OL),some (.int (at_:Nat))]/\A0r G5 H',λZ' H' z=>z,?_⟩
    have hne:at_≠0:=λz=>by
     subst z;exact absurd (good (least po hpa hsj)) (by decide)
    have hP7:=s7 _ _ hP6;refine ⟨_,rfl,_,_,rfl,rfl,_,rfl,PL,_,rfl,.inl (SqL.of hP7),_,_,rfl,rfl,hpos,?_⟩;have e1:(pend.length-at_)%pend.length=pend.length-at_:=Nat.mod_eq_of_lt (by lia);have e2:((at_:Int)+1)%(((pend.map λ(k:Nat)=>V.int (k:Int)).length:Nat):Int)=(((at_+1)%pend.length:Nat):Int):=by rw [Z08,Int.natCast_emod,Int.natCast_add];rfl
    refine ⟨(pend.length-(at_+1)%pend.length)%pend.length,?_,(at_+1)%pend.length,Nat.mod_lt _ hpl,rfl,?_,s6.trans s7⟩
    ·rw [e1];rcases Nat.lt_or_ge (at_+1) pend.length with z | z
     ·rw [Nat.mod_eq_of_lt z,Nat.mod_eq_of_lt (by lia)];lia
     ·have:at_+1=pend.length:=by lia
      rw [this,Nat.mod_self,Nat.sub_zero,Nat.mod_self];lia
    ·rw [<-e2];rfl
   | true =>
    refine A7x ?_;have s57:=s6.trans s7;have hP7:=s57 _ _ hP;have hyj:ys[pend[at_]]? =some (ys[pend[at_]]'(by lia)):=Z0b _;obtain ⟨sp,hsp,b,cc,u,ev,h1,hc,hu'⟩:=A6w st hyj;have aS:atI ys ((pend[at_]:Nat):Int)=some (.ref b):=A0j (by rw [hyj,ev]);obtain ⟨kk,e,si⟩:=sin sp (Z13 hsp);have hrow:rows[sp.1.toNat]? =some e:=by rw [si.hk,Int.toNat_natCast];exact si.he
    have ew:wrS rows sp=(e.nm,sp.2.2.1):=by unfold wrS;rw [hrow]
    have aN:atI ((rows.map (·.nm)).map V.str) sp.1=some (.str e.nm):=by rw [si.hk];exact A0j (by rw [Z1z,Z1z,si.he];rfl)
    have sx:seqIndex? ((at_:Nat):Int) (pend.map λ(k:Nat)=>V.int (k:Int)).length=some at_:=by
     rw [PySem.StrLaws.seqIndex_nonneg (by lia) (by rw [Z08];lia),Int.toNat_natCast]
    have lf7:=(lf5.same s57).set (o:= .lst ((pend.eraseIdx at_).map λ(k:Nat)=>V.int (k:Int))) hP7 (.tail _ (.head _));have ee:(pend.map λ(k:Nat)=>V.int (k:Int)).eraseIdx at_=(pend.eraseIdx at_).map λ(k:Nat)=>V.int (k:Int):=B9x ..;have s17:=sG5.trans s57;have s18:A0r H1 (upd G7 PL (.lst ((pend.eraseIdx at_).map λ(k:Nat)=>V.int (k:Int)))):=A0n s17 PH;refine ⟨_,rfl,_,rfl,.inl ⟨rfl,_,SqL.of hP7⟩,_,rfl,PL,_,_,at_,_,rfl,rfl,hP7,by lia,by lia,sx,by rw [Z1z,hpa];rfl,SL,_,_,_,rfl,rfl,SqL.of (by rw [ee];exact s18 _ _ (s1 _ _ hSL)),aS,?_⟩;rw [ee];have hP8:upd G7 PL (.lst ((pend.eraseIdx at_).map λ(k:Nat)=>V.int (k:Int))) PL=some (.lst ((pend.eraseIdx at_).map λ(k:Nat)=>V.int (k:Int))):=A0b;have hO8:upd G7 PL (.lst ((pend.eraseIdx at_).map λ(k:Nat)=>V.int (k:Int))) OL=some (.lst zs):=by rw [A0h PO.symm];exact s57 _ _ hO
    have st8:A2j (upd G7 PL (.lst ((pend.eraseIdx at_).map λ(k:Nat)=>V.int (k:Int)))) zs done:=(sto.kt (KT.same s57)).kt (KT.at hP7 (by intro xs z;cases z));generalize upd G7 PL (.lst ((pend.eraseIdx at_).map λ(k:Nat)=>V.int (k:Int)))=G8 at lf7 s18 hP8 hO8 st8;have h18:=s18 _ _ (s1 _ _ h1);refine ⟨_,rfl,_,rfl,b,_,_,_,rfl,rfl,SqT.of h18,A0j (j:=0) rfl,NL,_,_,_,rfl,rfl,SqL.of (s18 _ _ hN1),aN,_,rfl,b,_,_,_,rfl,rfl,SqT.of h18,A0j (j:=2) rfl,A0y rfl,λq hq=> ?_⟩;have sq:A0r G8 (upd G8 q (.tup [.str e.nm,.ref cc])):=A0e hq;have na:A2b (upd G8 q (.tup [.str e.nm,.ref cc])) (nk (wrS rows sp)) q:=by rw [ew];exact A2i A0b (by rw [List.map_map];exact sq _ _ (s18 _ _ (s1 _ _ hc)))
    generalize upd G8 q (.tup [.str e.nm,.ref cc])=G9 at sq na;have lf9:=lf7.same sq;have s19:=s18.trans sq;obtain ⟨qc,hqc⟩:=Option.ne_none_iff_exists'.mp (po.dom _ _ hsp);obtain ⟨bl,kv,nd,vb,hbl,hbH,hbM,upd'⟩:=lf9.at hqc;refine ⟨_,rfl,_,rfl,LD,q,_,_,nk (wrS rows sp),_,⟨rfl,rfl,nd,na,rfl⟩,vb,bl,_,_,_,rfl,rfl,SqL.of hbl,A0j (j:=1) rfl,_,_,rfl,rfl,_,rfl,_,rfl,LD,q,_,_,nk (wrS rows sp),_,⟨rfl,rfl,nd,na,rfl⟩,vb,bl,_,_,1,rfl,rfl,hbl,rfl,?_⟩;show E4r _ _ _ _ (upd G9 bl (.lst [.int qc.1,.int (qc.2-1)]));have lfA:=upd' qc.1 (qc.2-1);have sA:A0r H1 (upd G9 bl (.lst [.int qc.1,.int (qc.2-1)])):=A0n s19 hbH;have naA:=na.keeps (KT.at (o:= .lst [.int qc.1,.int (qc.2-1)]) hbl (by intro xs z;cases z));have nb:∀{c:Addr},c∈[OL,PL]->c≠bl:=λhc z=>hbM (by rw [<-z];exact hc);have hPA:upd G9 bl (.lst [.int qc.1,.int (qc.2-1)]) PL=_:=(A0h (nb (.tail _ (.head _)))).trans (sq _ _ hP8);have hOA:upd G9 bl (.lst [.int qc.1,.int (qc.2-1)]) OL=_:=(A0h (nb (.head _))).trans (sq _ _ hO8);have stA:=(st8.kt (KT.same sq)).kt (KT.at (o:= .lst [.int qc.1,.int (qc.2-1)]) hbl (by intro xs z;cases z));generalize upd G9 bl (.lst [.int qc.1,.int (qc.2-1)])=GA at lfA sA naA hPA hOA stA;obtain ⟨bl2,kv2,nd2,vb2,hbl2,hbH2,hbM2,upd2⟩:=lfA.at (r0:=wrS rows sp) (q:=(qc.1,qc.2-1)) (Z12 rfl);refine ⟨_,rfl,_,rfl,LD,q,_,_,nk (wrS rows sp),_,⟨rfl,rfl,nd2,naA,rfl⟩,vb2,bl2,_,_,0,rfl,rfl,hbl2,rfl,?_⟩;have hg:HO.lst ([V.int (qc.1,qc.2-1).1,V.int (qc.1,qc.2-1).2].set 0 (V.int 1))= .lst [.int 1,.int (qc.2-1)]:=rfl;rw [hg];have lfB:=upd2 1 (qc.2-1)
    have e3:(λr=>if r=wrS rows sp then some ((1:Int),qc.2-1) else if r=wrS rows sp then some (qc.1,qc.2-1) else cnt r)=λr=>if r=wrS rows sp then some ((1:Int),qc.2-1) else cnt r:=funext λr=>by
     by_cases er:r=wrS rows sp
     ·rw [Z12 er,Z12 er]
     ·rw [Z0t er,Z0t er,Z0t er]
    rw [e3] at lfB;have nb2:∀{c:Addr},c∈[OL,PL]->c≠bl2:=λhc z=>hbM2 (by rw [<-z];exact hc);have sB:A0r H1 (upd GA bl2 (.lst [.int 1,.int (qc.2-1)])):=A0n sA hbH2;have hPB:upd GA bl2 (.lst [.int 1,.int (qc.2-1)]) PL=_:=(A0h (nb2 (.tail _ (.head _)))).trans hPA;have hOB:upd GA bl2 (.lst [.int 1,.int (qc.2-1)]) OL=_:=(A0h (nb2 (.head _))).trans hOA;have stB:=stA.kt (KT.at (o:= .lst [.int 1,.int (qc.2-1)]) hbl2 (by intro xs z;cases z));refine ⟨_,rfl,.inl ⟨rfl,_,SqL.of hOB⟩,_,rfl,OL,_,_,rfl,rfl,hOB,A1c (by lia),?_⟩;have lfC:=lfB.set (o:= .lst (zs++[.ref b])) hOB (.head _);have kO:KT (upd GA bl2 (.lst [.int 1,.int (qc.2-1)])) (upd (upd GA bl2 (.lst [.int 1,.int (qc.2-1)])) OL (.lst (zs++[.ref b]))):=KT.at hOB (by intro xs z;cases z);have hel:(pend.eraseIdx at_).length+1=pend.length:=by rw [List.length_eraseIdx,Z12 hat];lia
    have stp:B4t (upd (upd GA bl2 (.lst [.int 1,.int (qc.2-1)])) OL (.lst (zs++[.ref b]))) (.ref b) sp:=⟨b,cc,u,rfl,kO _ _ (sB _ _ (s1 _ _ h1)),kO _ _ (sB _ _ (s1 _ _ hc)),kO _ _ (sB _ _ (s1 _ _ hu'))⟩;refine ⟨_,by lia,_,_,_,pend.eraseIdx at_,zs++[.ref b],done++[sp],_,rfl,rfl,A0n sB OH,(A0h PO).trans hPB,A0b,B1o (stB.kt kO) (.cons stp .nil),lfC,po.pop hpa hsp hqc,λs hs=> ?_,λj s h=> ?_,by rw [Z06,Z0j];lia⟩
    ·rcases Z07.mp hs with hs | hs
     ·exact din s hs
     ·rw [Z0w.mp hs];exact Z13 hsp
    ·rcases dall j s h with z | z
     ·rcases B3g hpa z with z | z
      ·subst z;rw [hsp] at h;cases h;exact .inr (Z02 _ (Z0w.mpr rfl))
      ·exact .inl z
     ·exact .inr (Z05 _ z)
  ·have hpl:pend=[]:=by
    have hz:¬(0:Int)<((pend.map λ(k:Nat)=>V.int (k:Int)).length:Int):=hz;rw [Z08] at hz;exact List.eq_nil_of_length_eq_zero (by lia)
   subst hpl;refine ⟨_,rfl,k OL zs done G5 (s1.free OH) (s1.trans sG5) hO sto din (λs hs=> ?_) (by simpa using dlen)⟩;obtain ⟨j,hj⟩:=List.getElem?_of_mem hs;exact (dall j s hj).resolve_left (by intro z;cases z)
inductive B8s (P:Program) (w:World) (vs:List V) (H:Hp) (Q:VK):Prop
 | mk (ab SL KL:Addr) (x:Abt) (ol:Addr) (L:Str->Int) (nm:List Str) (es:List (Str×List Str)) (tb:List Str) (T:Nat) (rows:List LnM) (os:List Str) (lk:List (Key×V)) (ys ks:List V) (_:vs=[.ref ab,.ref SL,.ref KL]) (_:AbF H ab x ol L nm es tb rows os) (_:A9i L nm es tb T rows os) (_:B2i lk L nm) (_:H SL=some (.lst ys)) (_:A2j H ys (A1f (rows.map (A4p L)) rows.length)) (_:H KL=some (.lst ks)) (_:C2l H lk rows ks (A1f (rows.map (A4p L)) rows.length)) (_:∀(MD:Addr) (H':Hp),H MD=none->A0r H H'->A3l P w [true,false] H' MD (wkF lk L es rows os)->(wkF lk L es rows os).length<=900000->Q (.ref MD) H'):B8s P w vs H Q
def D1a (P:Program) (w:World):Sp:=λvs H Q _=>B8s P w vs H Q
theorem B9j {r:Addr} (s:A0r H G) (h:H r=none):A0r H (A5o G r):=λb u e=>by
 rw [B8b (A0i e h)];exact s b u e
theorem C6m (T:Txt K mg t):FO P w base T.ik 2 (D1a P w):=by
 have Gc9:= @B5q P w K mg base t T;refine T.ik.F.ok A4s (by walk_at "ln") λ_ A _ s H _ Q E hr h=> ?_
 ·obtain ⟨ab,SL,KL,x,ol,L,nm,es,tb,T0,rows,os,lk,ys,ks,rfl,af,fo,lok,hSL,st,hKL,lks,k⟩:=h;have hu:=A6c hr;have hn:=B4r hr;have fr:=fo.fr;have fo2:=fo.fo
  have rwk:∀e∈rows.map (A4p L),C4r e:=λe he=>by
   walk_at "h"
  walk_at "k";have k:∀(MD:Addr) (H':Hp),H MD=none->A0r H H'->A3l P w [true,false] H' MD (A9z lk rows (A5z [] (A7z (szE L es) os)) (A1f (rows.map (A4p L)) rows.length).reverse)->(A9z lk rows (A5z [] (A7z (szE L es) os)) (A1f (rows.map (A4p L)) rows.length).reverse).length<=900000->Q (.ref MD) H':=k;generalize hss:A1f (rows.map (A4p L)) rows.length=ss at st lks k sin ole;have lys:=Paired.length st;have lks':=Paired.length lks;obtain ⟨ts,hts,pts⟩:=af.li;have lts:=Paired.length pts;obtain ⟨ak,hak,ar⟩:=af.sh;obtain ⟨lk',hlk,lok'⟩:=af.le;have elk:lk'=lk:=lok'.eq.trans lok.eq.symm;subst elk;have aro:∀y∈os,ArO H lk' ak (axE es) (szE L es) y:=λy hy=>D0h lok fo ar hy;have lo:=B5r aro;have lo2:os.length*4000<=2*4000:=Nat.mul_le_mul_right _ fo2
  refine ⟨_,(A0c (A0m (i:=3) A4s.nd (A7t (sh:=[true,false])))
   (A0c (A1o (A1n (A0u hu (pv 0) A0o)) (A0k (i:=4) A4s.nd)
    (A0f (A1o (A1n (pcl Gc9 hr T.dj (A0a (A0u hu (A0u hu (pv 0) A0o) (pv 4)) (A0a (A0u hu (pv 0) A0o) A0d)))) (A0k (i:=5) A4s.nd)
     (A0f (A5f B0l (A6z (pv 3) (A1t (A0a (pv 4) (A0a (pv 5) A0d))) (A6k hn)))))))
   (A0c (A1o (D3c rfl T.mx (A0a (A3g C0w (by rfl) T.gn PyProof.Rows.boot_reversed (A0a (pv 1) A0d)) (A0a (A3g C0w (by rfl) T.gn PyProof.Rows.boot_reversed (A0a (pv 2) A0d)) A0d))) (A5j (n:=2) rfl (A1a (A0k (i:=6) A4s.nd) (A1a (A0k (i:=7) A4s.nd) A3x)))
    (A0f (A1s (A0t (B2o hn) (A1t (A0a (A1b A1d (A1b A1l (A0u hu (pv 0) A0o) (A1b A1d (pv 6) A0g)) A0g) (A0a (A1b A1d (pv 6) A0g) A0d))) (pv 3) (by with_unfolding_all rfl))
     (A0f (A1o (A1n (pv 7)) (A0k (i:=8) A4s.nd)
      (A0f (A5f B0l (A6z (pv 3) (pv 8) (A6k hn))))))
     A0s)))
   (A0f (A0p (pv 3)))))),?_⟩
  refine λMD o0 hMD nd0=> ?_;have s1:A0r H (upd H MD o0):=A0e hMD;have nd0:A3l P w [true,false] (upd H MD o0) MD []:=nd0;generalize upd H MD o0=H1 at s1 nd0;obtain ⟨u0,e0,t0⟩:=A2k nd0;have olM:ol≠MD:=A0i af.ou hMD;refine ⟨_,rfl,ab,_,rfl,(af.same s1).get (C2s x ol),ol,rfl,⟨_,SqL.of (s1 _ _ af.ou)⟩,?_⟩
  refine A1v (K:=K) (a:=ol) (xs:=os.map V.str) (λi Z G=>∃(o4 o5:Option V),Z=[Sro ab,Sro SL,Sro KL,Sro MD,o4,o5,none,none,none]/\KB MD H1 G/\A3l P w [true,false] G MD (A5z [] (A7z (szE L es) (os.take i))))
   ⟨none,none,rfl,KB.refl,nd0⟩ (by rintro i Z G _ ⟨_,_,_,kb,_⟩;exact SqL.of (kb _ _ olM (s1 _ _ af.ou))) ?_ ?_
  ·rintro i v Z G hv ⟨o4,o5,rfl,kb,nd⟩;walk_at "g";obtain ⟨y,hy,rfl⟩:=A2e hv;have ym:=Z13 hy;have ay:=aro y ym;obtain ⟨b,eb,hb⟩:=ay.get;have sG:A0r H G:=KB.same s1 kb hMD;have afG:=af.same sG;refine ⟨_,rfl,ab,_,rfl,afG.get (B0p x ol),_,rfl,x.sh,_,rfl,.inl ⟨ak,Sum.inr y,.inl (sG _ _ hak),rfl,eb.symm⟩,_,rfl,ab,_,rfl,afG.get (A9e x ol),b,x.ld,axE es y,lk',szE L es y,rfl,sG _ _ hb,sG _ _ hlk,ay.si,ay.go,λq G1 hq s1' cs=> ?_⟩;obtain ⟨ps,hq1,tp⟩:=cs.ex;have nd1:=A1h nd s1';obtain ⟨u1,e1,t1⟩:=A2k nd1;have qM:q≠MD:=λz=>by subst z;obtain ⟨_,e,_⟩:=A2k nd;rw [hq] at e;cases e
   refine ⟨q,rfl,⟨_,SqL.of hq1⟩,?_⟩;have loi:=B5r λy (hy:y∈os.take i)=>aro y (Z2p hy);have loi2:(os.take i).length*4000<=2*4000:=Nat.mul_le_mul_right _ (by rw [Z0x];lia);have lcy:=ay.go.len
   refine A1v (K:=K) (a:=q) (xs:=ps.map V.ref) (λj Z G2=>∃(o5:Option V),Z=[Sro ab,Sro SL,Sro KL,Sro MD,Sso y,o5,none,none,none]/\KB MD G1 G2/\A3l P w [true,false] G2 MD (A5z [] (A7z (szE L es) (os.take i)++((A1e (szE L es y)).take j).map λc=>(y,c))))
    ⟨_,rfl,KB.refl,by simpa using nd1⟩ (by rintro j Z G2 _ ⟨_,_,kb2,_⟩;exact SqL.of (kb2 _ _ qM hq1)) ?_ ?_
   ·rintro j v Z G2 hv ⟨o5,rfl,kb2,nd2⟩;walk_at "g";obtain ⟨pc,hpc,rfl⟩:=A2e hv;obtain ⟨c,hc,epc⟩:=tp.get hpc;have epc2:G2 pc=some (.tup (c.map V.int)):=kb2.kt e1 t1 _ _ epc;refine ⟨_,rfl,_,rfl,_,rfl,A0y rfl,λb1 hb1=> ?_⟩;obtain ⟨G3,sb,hb11,eNH⟩:=nH (o:= .tup [.str y,.ref pc]) hb1
    try rw [eNH]
    have na:A2b G3 (nk (y,c)) b1:=A2i hb11 (by rw [List.map_map];exact sb _ _ epc2);have lp:=A4l (A7z (szE L es) (os.take i)++((A1e (szE L es y)).take j).map λc=>(y,c)) [];have lt:((A1e (szE L es y)).take j).length<=(A1e (szE L es y)).length:=by rw [Z0x];lia
    rw [Z06,Z08,Z2g] at lp;refine ⟨MD,b1,_,_,nk (y,c),⟨rfl,rfl,A1h nd2 sb,na,rfl⟩,A1c (by lia),λo2 nd4=> ?_⟩;refine ⟨_,rfl,(kb2.trans (KB.of sb)).upd,?_⟩;rw [Z14,hc,Z2f,Z0s,<-Z0z];have:=A9g [] (A7z (szE L es) (os.take i)++((A1e (szE L es y)).take j).map λc=>(y,c)) (y,c);show A3l P w [true,false] _ MD (A5z [] ((A7z (szE L es) (os.take i)++((A1e (szE L es y)).take j).map λc=>(y,c))++[(y,c)]));rw [this];exact nd4
   ·rintro Z G2 ⟨o5,rfl,kb2,nd2⟩;rw [Z08,tp.len,Z18] at nd2;refine ⟨_,_,rfl,(kb.trans (KB.of s1')).trans kb2,?_⟩
    have:A7z (szE L es) (os.take (i+1))=A7z (szE L es) (os.take i)++(A1e (szE L es y)).map λc=>(y,c):=by
     unfold A7z;rw [Z14,hy,Z2f,List.flatMap_append,List.flatMap_singleton]
    rw [this];exact nd2
  rintro Z G ⟨o4,o5,rfl,kb,nd⟩;rw [Z08,Z18] at nd;have sG:A0r H G:=KB.same s1 kb hMD;refine ⟨_,rfl,SL,ys,rfl,SqL.of (sG _ _ hSL),λr1 hr1 fp1=> ?_⟩;refine ⟨_,rfl,KL,ks,rfl,SqL.of ?_,λr2 hr2 fp2=> ?_⟩
  ·rw [A0h (A0i (sG _ _ hKL) hr1)];exact sG _ _ hKL
  have r12:r1≠r2:=λz=>by subst z;rw [A0b] at hr2;cases hr2
  have hr2':G r2=none:=by rw [A0h r12.symm] at hr2;exact hr2
  have keep:∀{b:Addr} {u:HO},G b=some u->upd (upd G r1 (C6d r1 SL ys.length)) r2 (C6d r2 KL ks.length) b=some u:=λe=>by
   rw [A0h (A0i e hr2'),A0h (A0i e hr1)];exact e
  refine ⟨r1,r2,SL,KL,ys,ks,rfl,r12,fp1,fp2,by rw [A0h r12];exact A0b,A0b,SqL.of (keep (sG _ _ hSL)),SqL.of (keep (sG _ _ hKL)),?_⟩;have sD:A0r G (A5o (A5o (upd (upd G r1 (C6d r1 SL ys.length)) r2 (C6d r2 KL ks.length)) r1) r2):=B9j (B9j (λb u e=>keep e) hr1) hr2';generalize A5o (A5o (upd (upd G r1 (C6d r1 SL ys.length)) r2 (C6d r2 KL ks.length)) r1) r2=G1 at sD;have nd1:=A1h nd sD;obtain ⟨u1,e1,t1⟩:=A2k nd1;have s01:=sG.trans sD;have hS1:=s01 _ _ hSL;have hK1:=s01 _ _ hKL;have SM:SL≠MD:=A0i hSL hMD;have KM:KL≠MD:=A0i hKL hMD
  refine C8p (K:=K) (a:=SL) (b:=KL) (xs:=ys) (ys:=ks) (λi Z G2=>∃(o6 o7 o8:Option V) (kvs:List (A1w×V)),Z=[Sro ab,Sro SL,Sro KL,Sro MD,o4,o5,o6,o7,o8]/\KB MD G1 G2/\A3l P w [true,false] G2 MD kvs/\kvs=A9z lk' rows (A5z [] (A7z (szE L es) os)) (ss.reverse.take i)/\kvs.length<=8000+i*20)
   ⟨none,none,none,_,rfl,KB.refl,nd1,rfl,?_⟩ (by rintro i Z G2 ⟨_,_,_,_,_,kb2,_⟩;exact ⟨SqL.of (kb2 _ _ SM hS1),SqL.of (kb2 _ _ KM hK1)⟩) (by lia) ?_ ?_
  ·have:=A4l (A7z (szE L es) os) [];simp only [Z2g] at this
   lia
  ·rintro i v v2 Z G2 pz hv hv2 ⟨o6,o7,o8,kvs,rfl,kb2,nd2,ek,le⟩ hpz;walk_at "g";have hi:i<ys.length:=by have:=(Z03.mp hv).1;rw [List.length_reverse] at this;exact this
   rw [List.getElem?_reverse hi] at hv;rw [List.getElem?_reverse (by lia)] at hv2;obtain ⟨sp,hsp,sta⟩:=A6w st hv;have hrev:ss.reverse[i]? =some sp:=by rw [List.getElem?_reverse (by lia),<-lys];exact hsp
   obtain ⟨sp',hsp',R,vs,ev2,hR,rds⟩:=A6w lks hv2
   have:sp'=sp:=by
    rw [show ks.length-1-i=ys.length-1-i by lia,hsp] at hsp';exact (Z1a hsp').symm
   subst this;subst ev2;obtain ⟨kk,e,si⟩:=sin sp' (Z13 hsp);obtain ⟨so,full,hrow⟩:=B0s lok fo si;have lw:=so.few;have l20:i*20<=20000*20:=Nat.mul_le_mul_right _ (by lia);obtain ⟨G3,sz,hzz,eNH⟩:=nH (o:= .tup [v,.ref R]) hpz
   try rw [eNH]
   have kb3:=kb2.trans (KB.of sz);have s03:A0r H G3:=KB.same s01 kb3 hMD;have nd3:=A1h nd2 sz;obtain ⟨st0,c,u,rfl,g1,gc,gu⟩:=sta;have hkl:=(Z03.mp si.he).1;have hti:ts[kk]? =some (ts[kk]'(by lia)):=Z0b _;obtain ⟨e',he',b2,ca,cu,tv,ev,_,hb2,_⟩:=A6w pts hti;rw [si.he] at he';cases he';have a0:atI ts sp'.1=some (.ref b2):=by rw [si.hk];exact A0j (by rw [hti,ev])
   have ew:wrS rows sp'=(e.nm,sp'.2.2.1):=by unfold wrS;rw [hrow]
   refine ⟨pz,_,rfl,SqT.of hzz,rfl,_,_,rfl,_,_,rfl,rfl,?_⟩;refine ⟨_,rfl,ab,_,rfl,(af.same s03).get (A6g x ol),_,rfl,st0,_,_,_,rfl,rfl,SqT.of (s03 _ _ g1),A0j (j:=0) rfl,x.ln,_,_,_,rfl,rfl,SqL.of (s03 _ _ hts),a0,b2,_,_,_,rfl,rfl,SqT.of (s03 _ _ hb2),A0j (j:=0) rfl,_,rfl,st0,_,_,_,rfl,rfl,SqT.of (s03 _ _ g1),A0j (j:=2) rfl,A0y rfl,λq hq=> ?_⟩;have sq:A0r G3 (upd G3 q (.tup [.str e.nm,.ref c])):=A0e hq;have na:A2b (upd G3 q (.tup [.str e.nm,.ref c])) (nk (wrS rows sp')) q:=by rw [ew];exact A2i A0b (by rw [List.map_map];exact sq _ _ (s03 _ _ gc))
   generalize upd G3 q (.tup [.str e.nm,.ref c])=G4 at sq na;have nd4:=A1h nd3 sq;have kb4:=kb3.trans (KB.of sq);obtain ⟨u4,e4,t4⟩:=A2k nd4;refine ⟨_,rfl,MD,q,_,_,nk (wrS rows sp'),⟨rfl,rfl,nd4,na,rfl⟩,_,rfl,D8d (λhz=> ?_) (λhz=> ?_)⟩
   ·have RM:R≠MD:=A0i hR hMD;have hR4:=sq _ _ (s03 _ _ hR);have lrd:=Paired.length rds;refine ⟨_,rfl,R,rfl,⟨_,SqL.of hR4⟩,?_⟩
    refine A1v (K:=K) (a:=R) (xs:=vs) (λj Z G5=>∃(o8:Option V),Z=[Sro ab,Sro SL,Sro KL,Sro MD,o4,o5,Sro st0,Sro R,o8]/\KB MD G4 G5/\A3l P w [true,false] G5 MD (A5z kvs ((rdS lk' rows sp').take j)))
     ⟨_,rfl,KB.refl,nd4⟩ (by rintro j Z G5 _ ⟨_,_,kb5,_⟩;exact SqL.of (kb5 _ _ RM hR4)) ?_ ?_
    ·rintro j y Z G5 hy ⟨o8,rfl,kb5,nd5⟩;walk_at "g";obtain ⟨r,hr',tr⟩:=A6w rds hy;obtain ⟨b1,rfl,na1⟩:=B4u ((tr.keep (KT.same (s03.trans sq))).keep (kb5.kt e4 t4));have lp:=A4l ((rdS lk' rows sp').take j) kvs;have lt:((rdS lk' rows sp').take j).length<=(rdS lk' rows sp').length:=by rw [Z0x];lia
     refine ⟨_,rfl,_,rfl,MD,b1,_,_,nk r,⟨rfl,rfl,nd5,na1,rfl⟩,A1c (by lia),λo1 nd6=> ?_⟩;refine ⟨_,rfl,kb5.upd,?_⟩;rw [Z14,hr',Z2f,A9g];exact nd6
    ·rintro Z G5 ⟨o8,rfl,kb5,nd5⟩;rw [lrd,Z18] at nd5;have lp:=A4l (rdS lk' rows sp') kvs;refine ⟨_,_,_,_,rfl,kb4.trans kb5,nd5,?_,by lia⟩;rw [Z14,hrev,Z2f,A9a,<-ek];exact (Z12 hz).symm
   ·refine ⟨_,_,_,_,rfl,kb4,nd4,?_,by lia⟩;rw [Z14,hrev,Z2f,A9a,<-ek];exact (Z0t hz).symm
  ·rintro Z G2 ⟨o6,o7,o8,kvs,rfl,kb2,nd2,ek,le⟩;rw [lys,<-List.length_reverse,Z18] at ek;rw [ek] at nd2 le;have l20:ys.length*20<=20000*20:=Nat.mul_le_mul_right _ (by lia);exact ⟨_,rfl,k MD G2 hMD (KB.same s01 kb2 hMD) nd2 (by lia)⟩
theorem D9h {kvs:List (A1w×V)} {k:A1w} (n:(kvs.map (·.1)).Nodup):((A3v kvs k v).map (·.1)).Nodup:=by
 by_cases h:A1y kvs k=none
 ·exact D6l v n h
 ·have e:((A3v kvs k v).map (·.1))=kvs.map (·.1):=by
   unfold A3v;rw [Z12 (by rw [A4b];exact Option.isSome_iff_ne_none.mpr h),List.map_map];refine List.map_congr_left λp _=> ?_;show (if p.1=k then (p.1,v) else p).1=p.1;split <;> rfl
  rw [e];exact n
theorem A9s {kvs:List (A1w×V)}:InW kvs r↔nk r∈kvs.map (·.1):=by
 show (A1y kvs (nk r)).isSome=true↔_;rw [<-A4b,List.any_eq_true,Z2c];simp
structure C2j (kvs:List (A1w×V)):Prop where
 nd:(kvs.map (·.1)).Nodup
 ky:∀p∈kvs,∃r,p.1=nk r
theorem C2j.put {kvs:List (A1w×V)} (h:C2j kvs) (r:Str×List Int) (v:V):C2j (A3v kvs (nk r) v):=by
 refine ⟨D9h h.nd,λp hp=> ?_⟩;unfold A3v at hp;split at hp
 ·obtain ⟨p',hp',e⟩:=Z2c.mp hp;split at e
  ·rename_i hk;exact ⟨r,by rw [<-e];exact hk⟩
  ·rw [<-e];exact h.ky p' hp'
 ·rcases Z07.mp hp with z | z
  ·exact h.ky p z
  ·rw [Z0w.mp z];exact ⟨r,rfl⟩
theorem C2j.puts:∀(rs:List (Str×List Int)) {kvs:List (A1w×V)},C2j kvs->C2j (A5z kvs rs)
 | [],_,h=>h
 | r::rs,kvs,h=>C2j.puts rs (kvs:=A3v kvs (nk r) (V.bl true)) (h.put r _)
theorem C2j.want {lk:List (Key×V)} {rows:List LnM}:∀(ss:List Stp) {kvs:List (A1w×V)},C2j kvs->C2j (A9z lk rows kvs ss)
 | [],_,h=>h
 | s::ss,kvs,h=>by
  rw [B2u];refine C2j.want ss ?_;unfold C6w;split
  ·exact C2j.puts _ h
  ·exact h
theorem D6n (lk:List (Key×V)) (L:Str->Int) (es:List (Str×List Str)) (rows:List LnM) (os:List Str):C2j (wkF lk L es rows os):=C2j.want _ (C2j.puts _ ⟨.nil,λp h=>by cases h⟩)
theorem B2g (lok:B2i lk L nm) (fo:A9i L nm es tb T rows os) (h:InW (wkF lk L es rows os) r):r.1∈es.map (·.1)/\r.2∈A1e (szE L es r.1):=by
 rcases B8a _ h with z | ⟨s,hs,hw,hr⟩
 ·rcases (B2f _ _).mp z with z | z
  ·cases z
  ·unfold A7z at z;obtain ⟨o,ho',hz⟩:=List.mem_flatMap.mp z;obtain ⟨c,hc,rfl⟩:=Z2c.mp hz;exact ⟨fo.oi o ho',hc⟩
 ·obtain ⟨k,e,si⟩:=A7g (List.mem_reverse.mp hs);obtain ⟨_,full,hrow⟩:=B0s lok fo si
  have hst:s.2.1≠"start":=λz=>by
   unfold rdS at hr;rw [Z12 z] at hr;cases hr
  obtain ⟨g1,gd⟩:=fo.row k e si.he;rw [(full hst).1] at hr;obtain ⟨ys,hys,wi,_⟩:=gd.tm.rin _ _ _ hr;have hm:(r.1,ys)∈es:=Z2p hys;refine ⟨List.mem_map_of_mem (f:=(·.1)) hm,?_⟩;unfold szE;rw [show axE es r.1=ys from B5i fo.eo.nd hm];exact B5l _ _ _ rfl wi
theorem B3f {α:Type} [DecidableEq α]:∀{l m:List α},l.Nodup->(∀x∈l,x∈m)->l.length<=m.length
 | [],m,_,_=>Z1e _
 | x::r,m,nd,h=>by
  rw [Z15] at nd;have hx:=h x (.head _);have:=B3f (l:=r) (m:=m.erase x) nd.2 λy hy=>(List.mem_erase_of_ne (λz=>nd.1 (by rw [<-z];exact hy))).mpr (h y (.tail _ hy));rw [List.length_erase_of_mem hx] at this;have:0<m.length:=List.length_pos_of_mem hx;rw [Z0y]
  lia
theorem D7p (nd:(es.map (·.1)).Nodup) (hW:∀x,(W x).Nodup):(B4m W es).Nodup:=by
 unfold B4m;show List.Pairwise _ _;rw [List.pairwise_flatMap];refine ⟨λe _=>List.Pairwise.map _ (λa b h z=>h (congrArg (·.2) z)) (hW e.1),?_⟩;have nd:List.Pairwise (·≠·) (es.map (·.1)):=nd;rw [List.pairwise_map] at nd;refine nd.imp λ{a b} h x hx y hy z=> ?_;obtain ⟨_,_,rfl⟩:=Z2c.mp hx;obtain ⟨_,_,rfl⟩:=Z2c.mp hy;exact h (congrArg (·.1) z)
theorem E0l (lok:B2i lk L nm) (fo:A9i L nm es tb T rows os):(wkF lk L es rows os).length=(B4m (A6n (wkF lk L es rows os) (szE L es)) es).length:=by
 have mk:∀r,r∈B4m (A6n (wkF lk L es rows os) (szE L es)) es↔InW (wkF lk L es rows os) r:=λr=>by
  rw [D3r];unfold A6n;rw [List.mem_filter];exact ⟨λz=>z.2.2,λz=>⟨(B2g lok fo z).1,(B2g lok fo z).2,z⟩⟩
 have ky:=D6n lk L es rows os;have n2:=D7p (W:=A6n (wkF lk L es rows os) (szE L es)) fo.eo.nd (λx=>D0j _ _ x);have n3:((B4m (A6n (wkF lk L es rows os) (szE L es)) es).map nk).Nodup:=List.Pairwise.map _ (λa b h z=>h (B2k z)) n2
 have l1:=B3f ky.nd (m:=(B4m (A6n (wkF lk L es rows os) (szE L es)) es).map nk) λx hx=>by
  obtain ⟨p,hp,rfl⟩:=Z2c.mp hx;obtain ⟨r,hr⟩:=ky.ky p hp;rw [hr];exact List.mem_map_of_mem ((mk r).mpr (A9s.mpr (by rw [<-hr];exact List.mem_map_of_mem hp)))
 have l2:=B3f n3 (m:=(wkF lk L es rows os).map (·.1)) λx hx=>by
  obtain ⟨r,hr,rfl⟩:=Z2c.mp hx;exact A9s.mp ((mk r).mp hr)
 rw [Z08,Z08] at l1 l2
 lia
def FD (p:Nat->Bool) (n:Nat):Nat->Option Nat
 | 0=>none
 | i+1=>if p (n-1-i)=true then some (n-1-i) else FD p n i
theorem E0c (p:Nat->Bool) (n:Nat):∀i,i<=n->FI p n=match FI p (n-i) with | some j=>some j | none=>FD p n i
 | 0,_=>by
  rw [Nat.sub_zero];cases FI p n <;> rfl
 | i+1,h=>by
  rw [E0c p n i (by lia)];have e:n-i=(n-(i+1))+1:=by lia
  have e2:n-(i+1)=n-1-i:=by lia
  rw [e,e2];show (match (match FI p (n-1-i) with | some j=>some j | none=>if p (n-1-i)=true then some (n-1-i) else none) with | some j=>some j | none=>FD p n i)=match FI p (n-1-i) with | some j=>some j | none=>if p (n-1-i)=true then some (n-1-i) else FD p n i
  cases FI p (n-1-i) with
  | some j=>rfl
  | none =>
   by_cases hp:p (n-1-i)=true
   ·simp [hp]
   ·simp [hp]
theorem D8q (p:Nat->Bool) (n:Nat):FD p n n=FI p n:=by
 rw [E0c p n n (Z09 _),Nat.sub_self];rfl
inductive E1d (P:Program) (w:World) (H0 G:Hp) (wk:List (A1w×V)) (LD:Addr) (q:Str×List Int->Int×Int):Prop
 | mk (kv:List (A1w×V)) (ad:Str×List Int->Addr) (_:A3l P w [true,false] G LD kv) (_:kv.map (·.1)=wk.map (·.1)) (_:(∀r,InW wk r->A1y kv (nk r)=some (.ref (ad r))/\G (ad r)=some (.lst [.int (q r).1,.int (q r).2])/\H0 (ad r)=none)) (_:∀r r',InW wk r->InW wk r'->ad r=ad r'->r=r'):E1d P w H0 G wk LD q
structure B0t (P:Program) (w:World) (H0 G:Hp) (wk:List (A1w×V)) (LD:Addr) (q:Str×List Int->Int×Int):Prop where
 ex:E1d P w H0 G wk LD q
section
variable {P:Program} {w:World} {H0 G:Hp} {wk:List (A1w×V)} {LD:Addr} {q:Str×List Int->Int×Int}
theorem B0t.keep (h:B0t P w H0 G wk LD q) (k1:∀u,G LD=some u->G' LD=some u) (k2:KT G G') (k3:∀b xs,H0 b=none->G b=some (.lst xs)->G' b=some (.lst xs)):B0t P w H0 G' wk LD q:=by
 obtain ⟨kv,ad,h1,h2,h3,h4⟩:=h.ex;exact ⟨kv,ad,h1.keeps k1 k2,h2,λr hr=>⟨(h3 r hr).1,k3 _ _ (h3 r hr).2.2 (h3 r hr).2.1,(h3 r hr).2.2⟩,h4⟩
theorem B0t.same (h:B0t P w H0 G wk LD q) (s:A0r G G'):B0t P w H0 G' wk LD q:=h.keep (λ_ e=>s _ _ e) (KT.same s) λ_ _ _ e=>s _ _ e
theorem B0t.congr (h:B0t P w H0 G wk LD q) (e:∀r,InW wk r->q r=q' r):B0t P w H0 G wk LD q':=by
 obtain ⟨kv,ad,h1,h2,h3,h4⟩:=h.ex;exact ⟨kv,ad,h1,h2,λr hr=>by rw [<-e r hr];exact h3 r hr,h4⟩
theorem B0t.at (h:B0t P w H0 G wk LD q) (hr:InW wk r0):∃(b:Addr) (kv:List (A1w×V)),A3l P w [true,false] G LD kv/\A1y kv (nk r0)=some (.ref b)/\G b=some (.lst [.int (q r0).1,.int (q r0).2])/\H0 b=none/\
  ∀(x y:Int),B0t P w H0 (upd G b (.lst [.int x,.int y])) wk LD (λr=>if r=r0 then (x,y) else q r):=by
 obtain ⟨kv,ad,h1,h2,h3,h4⟩:=h.ex;obtain ⟨g1,g2,g3⟩:=h3 r0 hr;refine ⟨ad r0,kv,h1,g1,g2,g3,λx y=>⟨kv,ad,?_,h2,λr hr'=> ?_,h4⟩⟩
 ·refine h1.keeps (λu z=> ?_) λb ys z=>by rw [A0h (A1g z g2 (by intro z;cases z))];exact z
  rw [A0h (λz=> ?_)]
  ·assumption
  ·obtain ⟨_,e,_⟩:=h1;rw [z,g2] at e;cases e
 ·obtain ⟨f1,f2,f3⟩:=h3 r hr';by_cases er:r=r0
  ·subst er;rw [Z12 rfl];exact ⟨f1,A0b,f3⟩
  ·rw [Z0t er];exact ⟨f1,by rw [A0h (λz=>er (h4 r r0 hr' hr z))];exact f2,f3⟩
theorem A5a (hi:wk[i]? =some (nk r0,v)) (r:Str×List Int):InW (wk.take (i+1)) r↔InW (wk.take i) r\/r=r0:=by
 rw [A9s,A9s,Z14,hi,Z2f,Z0s,Z07];refine or_congr Iff.rfl ?_;show nk r∈[nk r0]↔_;rw [Z0w];exact ⟨λz=>B2k z,λz=>by rw [z]⟩
theorem B0t.add {x y:Int} (h:B0t P w H0 G (wk.take i) LD λ_=>(x,y)) (n:(wk.map (·.1)).Nodup) (hi:wk[i]? =some (nk r0,v)) (hb:G b=none) (hb0:H0 b=none) :
  ∃kv,A3l P w [true,false] (upd G b (.lst [.int x,.int y])) LD kv/\kv.length<=wk.length/\∀o,A3l P w [true,false] (upd (upd G b (.lst [.int x,.int y])) LD o) LD (A3v kv (nk r0) (.ref b))->B0t P w H0 (upd (upd G b (.lst [.int x,.int y])) LD o) (wk.take (i+1)) LD λ_=>(x,y):=by
 obtain ⟨kv,ad,h1,h2,h3,h4⟩:=h.ex;have sb:A0r G (upd G b (.lst [.int x,.int y])):=A0e hb;have nd1:=A1h h1 sb;refine ⟨kv,nd1,?_,λo nd2=> ?_⟩
 ·have:=congrArg List.length h2;rw [Z08,Z08,Z0x] at this
  lia
 obtain ⟨u1,e1,t1⟩:=A2k nd1
 have new:¬InW (wk.take i) r0:=λz=>by
  rw [A9s] at z;obtain ⟨p,hp,ep⟩:=Z2c.mp z;obtain ⟨j,hj,ej⟩:=List.mem_iff_getElem.mp hp;rw [List.getElem_take] at ej;have hji:j<i:=by rw [Z0x] at hj;lia
  have hjl:j<wk.length:=by rw [Z0x] at hj;lia
  have z1:(wk.map (·.1))[j]? =some (nk r0):=by rw [Z1z,Z0b hjl,ej];exact congrArg some ep
  have z2:(wk.map (·.1))[i]? =some (nk r0):=by rw [Z1z,hi];rfl
  have:=(List.getElem?_inj (by rw [Z08];lia) n).mp (z1.trans z2.symm)
  lia
 have Lb:LD≠b:=by
  obtain ⟨u,e,_⟩:=A2k h1;exact A0i e hb
 refine ⟨A3v kv (nk r0) (.ref b),λr=>if r=r0 then b else ad r,nd2,?_,λr hr=> ?_,λr r' hr hr' e=> ?_⟩
 ·rw [A9d n hi kv h2 (.ref b),Z0s,h2,Z14,hi,Z2f,Z0s];rfl
 ·show A1y (A3v kv (nk r0) (.ref b)) (nk r)=some (.ref (if r=r0 then b else ad r))/\upd (upd G b (.lst [.int x,.int y])) LD o (if r=r0 then b else ad r)=some (.lst [.int x,.int y])/\H0 (if r=r0 then b else ad r)=none;rw [A7q];by_cases er:r=r0
  ·subst er;rw [Z12 rfl,Z12 rfl];exact ⟨rfl,by rw [A0h Lb.symm];exact A0b,hb0⟩
  ·rw [Z0t (λz=>er (B2k z)),Z0t er];obtain ⟨f1,f2,f3⟩:=h3 r (((A5a hi r).mp hr).resolve_right er);refine ⟨f1,?_,f3⟩;have f4:=sb _ _ f2;rw [A0h (λz=> ?_)]
   ·exact f4
   ·obtain ⟨_,e,_⟩:=nd1;rw [<-z,f4] at e;cases e
 ·have e:(if r=r0 then b else ad r)=(if r'=r0 then b else ad r'):=e;by_cases er:r=r0
  ·by_cases er':r'=r0
   ·rw [er,er']
   ·rw [Z12 er,Z0t er'] at e;obtain ⟨_,f2,_⟩:=h3 r' (((A5a hi r').mp hr').resolve_right er');rw [<-e,hb] at f2;cases f2
  ·by_cases er':r'=r0
   ·rw [Z0t er,Z12 er'] at e;obtain ⟨_,f2,_⟩:=h3 r (((A5a hi r).mp hr).resolve_right er);rw [e,hb] at f2;cases f2
   ·rw [Z0t er,Z0t er'] at e;exact h4 r r' (((A5a hi r).mp hr).resolve_right er) (((A5a hi r').mp hr').resolve_right er') e
end
theorem D4b (h:A2b H (nk r) b):∃c,H b=some (.tup [.str r.1,.ref c])/\H c=some (.tup (r.2.map V.int)):=by
 obtain ⟨vs,h1,h2⟩:=h;unfold nk at h2
 cases h2 with
 | cons a t =>
  cases t with
  | cons a2 t =>
   cases t
   obtain ⟨c,rfl,hc⟩:=a2;have a:_=kV (Sum.inr r.1):=a;subst a;refine ⟨c,h1,?_⟩;rw [List.map_map] at hc;exact hc
inductive C9f (P:Program) (w:World) (vs:List V) (H:Hp) (Q:VK):Prop
 | mk (ab OL MD:Addr) (x:Abt) (ol:Addr) (L:Str->Int) (nm:List Str) (es:List (Str×List Str)) (tb:List Str) (T:Nat) (rows:List LnM) (os:List Str) (lk:List (Key×V)) (ys:List V) (ss:List Stp) (_:vs=[.ref ab,.ref OL,.ref MD]) (_:AbF H ab x ol L nm es tb rows os) (_:A9i L nm es tb T rows os) (_:B2i lk L nm) (_:H OL=some (.lst ys)) (_:A2j H ys ss) (_:B4g L rows ss) (_:ss.length<=20000) (_:(∀s∈A1f (rows.map (A4p L)) rows.length,s∈ss)) (_:A3l P w [true,false] H MD (wkF lk L es rows os)) (_:(wkF lk L es rows os).length<=900000) (_:∀(LD:Addr) (H':Hp),H LD=none->A0r H H'->B0t P w H H' (wkF lk L es rows os) LD (λr=>(A9q rows ss r,C2p lk L es rows os (wkF lk L es rows os) ss r))->Q (.ref LD) H'):C9f P w vs H Q
def E0t (P:Program) (w:World):Sp:=λvs H Q _=>C9f P w vs H Q
def fdN (rows:List LnM) (ss:List Stp) (i:Nat) (r:Str×List Int):Int:=((FD (wrA rows ss r) ss.length i).map λ(j:Nat)=>(j:Int)+1).getD 0
theorem D5a (rows:List LnM) (ss:List Stp) (r:Str×List Int):fdN rows ss ss.length r=A9q rows ss r:=by unfold fdN A9q;rw [D8q]
def liN (lk:List (Key×V)) (rows:List LnM) (wk:List (A1w×V)) (ss:List Stp) (r:Str×List Int):Int:=((LI (rdA lk rows wk ss r) ss.length).map λ(j:Nat)=>(j:Int)).getD 0
theorem D1s (T:Txt K mg t):FO P w base T.kz 14 (E0t P w):=by
 have Gd5:= @B5p P w K mg base t T;refine T.kz.F.ok A4y (by walk_at "ln") λ_ A _ s H _ Q E hr h=> ?_
 ·obtain ⟨ab,OL,MD,x,ol,L,nm,es,tb,T0,rows,os,lk,ys,ss,rfl,af,fo,lok,hOL,st,sin,l20,all,ndM,lwk,k⟩:=h;have hu:=A6c hr;have hn:=B4r hr;have lys:=Paired.length st;obtain ⟨ts,hts,pts⟩:=af.li;have lts:=Paired.length pts;have ky:=D6n lk L es rows os;have wc:∀{r},InW (wkF lk L es rows os) r->r.1∈es.map (·.1)/\r.2∈A1e (szE L es r.1):=λh=>B2g lok fo h;have ls:∀{r},InW (wkF lk L es rows os) r->∃j,D4h lk L es rows os (wkF lk L es rows os) ss r=some j:=λh=>C3s all h;generalize hwk:wkF lk L es rows os=wk at ndM lwk k ky wc ls;obtain ⟨kas,hM,hbare,hall⟩:=id ndM;have lkas:kas.length=wk.length:=by rw [<-hbare];exact (Z08 _).symm
  have key:∀{i:Nat} {p:A1w×Addr×V},kas[i]? =some p->∃r,p.1=nk r/\wk[i]? =some (nk r,p.2.2)/\A2b H (nk r) p.2.1/\InW wk r:=λ{i p} hp=>by
   have h1:wk[i]? =some (p.1,p.2.2):=by rw [<-hbare];show (kas.map λp=>(p.1,p.2.2))[i]? =_;rw [Z1z,hp];rfl
   obtain ⟨r,hr⟩:=ky.ky _ (Z13 h1);have hr:p.1=nk r:=hr;refine ⟨r,hr,by rw [h1,hr],by rw [<-hr];exact (hall p (Z13 hp)).2,A9s.mpr ?_⟩;rw [<-hr];exact List.mem_map_of_mem (f:=(·.1)) (Z13 h1)
  refine ⟨_,(A0c (A0m (i:=3) A4y.nd (A7t (sh:=[true,false])))
   (A0c (A1o (B7f (pv 2)) (A0k (i:=4) A4y.nd)
    (A0f (A5f (A2f (A0a A0g (A0a (A0q A0z (by rfl) T.au Z0r (A0a (pv 1) A0d)) A0d))) (A6z (pv 3) (pv 4) (A6k hn)))))
   (B3c (A0c (A1o (D0c rfl T.bo (A0a (A0x A7y (A0q A0z (by rfl) T.au Z0r (A0a (pv 1) A0d)) A0g) (A0a (D0s B8t A0g) (A0a (D0s B8t A0g) A0d)))) (A0k (i:=5) A4y.nd)
    (A0c (A0m (i:=6) A4y.nd (A1t (A0a (A1b A1d (A1b A1l (A0u hu (pv 0) A0o) (A1b A1d (A1b A1l (pv 1) (pv 5)) A0g)) A0g) (A0a (A1b A1d (A1b A1l (pv 1) (pv 5)) A0g) A0d))))
    (A0f (A1s (A0t (B2o hn) (pv 6) (pv 2) (by with_unfolding_all rfl))
     (A0f (A5f (A0x A4a (pv 5) A0g) (A6z (A6b hn (pv 3) (pv 6)) A0g B0r)))
     A0s))))
   (A0c (A0m (i:=7) A4y.nd (A7t (sh:=[true,false])))
   (A0c (A1o (A4j rfl T.bo (A0a (A0q A0z (by rfl) T.au Z0r (A0a (pv 1) A0d)) A0d)) (A0k (i:=5) A4y.nd)
    (A0c (A0m (i:=6) A4y.nd (A1t (A0a (A1b A1d (A1b A1l (A0u hu (pv 0) A0o) (A1b A1d (A1b A1l (pv 1) (pv 5)) A0g)) A0g) (A0a (A1b A1d (A1b A1l (pv 1) (pv 5)) A0g) A0d))))
    (A0f (A1s (A0t (B2o hn) (pv 6) (pv 2) (by with_unfolding_all rfl))
     (A0f (A1o (A1n (pcl Gd5 hr T.ft (A0a (pv 0) (A0a (A1b A1l (pv 1) (pv 5)) A0d)))) (A0k (i:=4) A4y.nd)
      (A0f (A5f (pv 5) (A6z (pv 7) (pv 4) (A6k hn))))))
     A0s))))
   (A0c (A1o (B7f (pv 2)) (A0k (i:=4) A4y.nd)
    (A0f (A1s (A0t B1q (A1b A1d (pv 4) A0g) (A0u hu (pv 0) A0o) (by with_unfolding_all rfl))
     (A0f (A5f (A6b hn (pv 7) (pv 4)) (A6z (A6b hn (pv 3) (pv 4)) A0g B0r)))
     A0s)))
   (B3c (A0f (A0p (pv 3))))))))))),?_⟩
  refine λLD o0 hLD nd0=> ?_;have s1:A0r H (upd H LD o0):=A0e hLD;have nd0:A3l P w [true,false] (upd H LD o0) LD []:=nd0;generalize upd H LD o0=H1 at s1 nd0;have LM:LD≠MD:=(A0i hM hLD).symm;have OM:OL≠MD:=A1g hOL hM (by intro z;cases z);have hM1:=s1 _ _ hM;refine ⟨_,rfl,MD,_,kas,rfl,hM1,λo=> ?_⟩;have fz:upd H1 MD (.frz o (ndV P w [true,false] MD kas)) MD=some (.frz o (ndV P w [true,false] MD kas)):=A0b;have kb0:KB MD H (upd H1 MD (.frz o (ndV P w [true,false] MD kas))):=λb u hb e=>by rw [A0h hb];exact s1 _ _ e
  have nd0:A3l P w [true,false] (upd H1 MD (.frz o (ndV P w [true,false] MD kas))) LD []:=nd0.keeps (λu e=>by rw [A0h LM];exact e) λb xs e=>by rw [A0h (A1g e hM1 (by intro z;cases z))];exact e
  have du0:B0t P w H (upd H1 MD (.frz o (ndV P w [true,false] MD kas))) (wk.take 0) LD λ_=>(0,(ys.length:Int)):=⟨[],λ_=>0,nd0,rfl,(λr h=>by cases h),λr r' h=>by cases h⟩
  refine B2j (P:=P) (w:=w) (sh:=[true,false]) (a:=MD) (o:=o) (kas:=kas) (λi Z G=>∃(o4:Option V),Z=[Sro ab,Sro OL,Sro MD,Sro LD,o4,none,none,none]/\KB MD H G/\G MD=some (.frz o (ndV P w [true,false] MD kas))/\B0t P w H G (wk.take i) LD λ_=>(0,(ys.length:Int)))
   ⟨none,rfl,kb0,fz,du0⟩ (by rintro i Z G ⟨_,_,_,z,_⟩;exact z) ?_ ?_
  ·rintro i p Z G hp ⟨o4,rfl,kb,fz,du⟩;walk_at "g";obtain ⟨r,er,hwi,na,inr⟩:=key hp;have kT:KT H G:=λb xs e=>kb _ _ (A1g e hM (by intro z;cases z)) e;refine ⟨_,rfl,OL,_,rfl,.inl (SqL.of (kb _ _ OM hOL)),A0y rfl,λb hb=> ?_⟩
   have hb0:H b=none:=by
    cases e:H b with
    | none=>rfl
    | some u =>
     by_cases hbM:b=MD
     ·subst hbM;rw [fz] at hb;cases hb
     ·rw [kb _ _ hbM e] at hb;cases hb
   obtain ⟨kv,ndk,lkv,dun⟩:=du.add ky.nd hwi hb hb0;have sb:A0r G (upd G b (.lst [.int 0,.int (ys.length:Nat)])):=A0e hb;refine ⟨_,rfl,_,rfl,LD,p.2.1,_,kv,nk r,⟨rfl,rfl,ndk,na.keeps (kT.trans (KT.same sb)),rfl⟩,A1c (by lia),λo1 nd2=> ?_⟩;have bM:MD≠b:=A0i fz hb;refine ⟨_,rfl,λc u hc e=> ?_,by rw [A0h LM.symm,A0h bM];exact fz,dun o1 nd2⟩;rw [A0h (A0i e hLD),A0h (A0i e hb0)];exact kb _ _ hc e
  rintro Z G ⟨o4,rfl,kb,fz,du⟩;rw [lkas,Z18] at du;refine ⟨MD,o,_,fz,(λo' u' z=>by have z:H MD=some (.frz o' u'):=z;rw [hM] at z;cases z),?_⟩
  have sG:A0r H (upd G MD (ndV P w [true,false] MD kas)):=λb u e=>by
   by_cases hb:b=MD
   ·subst hb;rw [hM] at e;rw [<-e];exact A0b
   ·rw [A0h hb];exact kb _ _ hb e
  have duG:B0t P w H (upd G MD (ndV P w [true,false] MD kas)) wk LD λ_=>(0,(ys.length:Int)):=du.keep (λu e=>by rw [A0h LM];exact e) (λb xs e=>by rw [A0h (A1g e fz (by intro z;cases z))];exact e) λb xs _ e=>by rw [A0h (A1g e fz (by intro z;cases z))];exact e
  generalize upd G MD (ndV P w [true,false] MD kas)=G1 at sG duG;clear du kb fz
  have own:∀{j:Nat},j<ys.length->∃(sp:Stp) (st0 c u:Addr) (e:LnM) (b2:Addr) (kk:Nat) (v1 v2 v3:V),ss[j]? =some sp/\D0i L rows sp kk e/\wrS rows sp=(e.nm,sp.2.2.1)/\atI ys (j:Int)=some (.ref st0)/\B4t H (.ref st0) sp/\H st0=some (.tup [.int sp.1,.str sp.2.1,.ref c,.ref u])/\H c=some (.tup (sp.2.2.1.map V.int))/\atI ts sp.1=some (.ref b2)/\H b2=some (.tup [.str e.nm,v1,v2,v3]):=λ{j} hj=>by
   have hyj:ys[j]? =some (ys[j]'hj):=Z0b _;obtain ⟨sp,hsp,sta⟩:=A6w st hyj;obtain ⟨kk,e,si⟩:=sin sp (Z13 hsp);obtain ⟨_,_,hrow⟩:=B0s lok fo si;obtain ⟨st0,c,u,ev,g1,gc,gu⟩:=id sta;have hkl:=(Z03.mp si.he).1;have hti:ts[kk]? =some (ts[kk]'(by lia)):=Z0b _;obtain ⟨e',he',b2,ca,cu,tv,ev2,_,hb2,_⟩:=A6w pts hti;rw [si.he] at he';cases he';refine ⟨sp,st0,c,u,e,b2,kk,_,_,_,hsp,si,by unfold wrS;rw [hrow],A0j (by rw [hyj,ev]),⟨st0,c,u,rfl,g1,gc,gu⟩,g1,gc,?_,hb2⟩;rw [si.hk];exact A0j (by rw [hti,ev2])
  have en:((ys.length:Int)-1+1).toNat=ys.length:=by lia
  refine ⟨_,rfl,OL,_,rfl,.inl (SqL.of (sG _ _ hOL)),_,_,rfl,rfl,_,rfl,_,rfl,_,rfl,by lia,by lia,?_⟩
  refine C6e (lo:=(ys.length:Int)-1) (c:= -1) (n:=((ys.length:Int)-1+1).toNat) (λi Z G=>∃(o5 o6:Option V),Z=[Sro ab,Sro OL,Sro MD,Sro LD,o4,o5,o6,none]/\A0r H G/\B0t P w H G wk LD λr=>(fdN rows ss i r,(ys.length:Int)))
   ⟨none,none,rfl,sG,duG⟩ ?_ ?_
  ·rintro i Z G hi ⟨o5,o6,rfl,s2,du⟩;walk_at "g";rw [en] at hi;have ei:(ys.length:Int)-1+(i:Int)*(-1)=((ys.length-1-i:Nat):Int):=by lia
   rw [ei];obtain ⟨sp,st0,c,u,e,b2,kk,v1,v2,v3,hsp,si,ew,aS,sta,g1,gc,a0,hb2⟩:=own (j:=ys.length-1-i) (by lia);refine ⟨_,rfl,ab,_,rfl,(af.same s2).get (A6g x ol),_,rfl,_,rfl,OL,_,_,_,rfl,rfl,SqL.of (s2 _ _ hOL),aS,st0,_,_,_,rfl,rfl,SqT.of (s2 _ _ g1),A0j (j:=0) rfl,x.ln,_,_,_,rfl,rfl,SqL.of (s2 _ _ hts),a0,b2,_,_,_,rfl,rfl,SqT.of (s2 _ _ hb2),A0j (j:=0) rfl,_,rfl,_,rfl,OL,_,_,_,rfl,rfl,SqL.of (s2 _ _ hOL),aS,st0,_,_,_,rfl,rfl,SqT.of (s2 _ _ g1),A0j (j:=2) rfl,A0y rfl,λq hq=> ?_⟩;have sq:A0r G (upd G q (.tup [.str e.nm,.ref c])):=A0e hq;have na:A2b (upd G q (.tup [.str e.nm,.ref c])) (nk (wrS rows sp)) q:=by rw [ew];exact A2i A0b (by rw [List.map_map];exact sq _ _ (s2 _ _ gc))
   generalize upd G q (.tup [.str e.nm,.ref c])=G2 at sq na;have s3:=s2.trans sq;have du2:=du.same sq
   have fd1:∀r,fdN rows ss (i+1) r=if r=wrS rows sp then (((ys.length-1-i:Nat):Int)+1) else fdN rows ss i r:=λr=>by
    unfold fdN;show ((if wrA rows ss r (ss.length-1-i)=true then some (ss.length-1-i) else FD (wrA rows ss r) ss.length i).map λ(j:Nat)=>(j:Int)+1).getD 0=_;rw [<-lys];by_cases er:r=wrS rows sp
    ·rw [Z12 ((A8u hsp).mpr er.symm),Z12 er];rfl
    ·rw [Z0t (λz=>er ((A8u hsp).mp z).symm),Z0t er]
   refine ⟨_,rfl,_,rfl,MD,q,_,_,nk (wrS rows sp),⟨rfl,rfl,A1h ndM s3,na,rfl⟩,_,rfl,D8d (λhz=> ?_) (λhz=> ?_)⟩
   ·obtain ⟨b,kv,nd,vb,hbl,hb0,upd'⟩:=du2.at hz;refine ⟨_,rfl,_,_,rfl,rfl,_,rfl,_,rfl,LD,q,_,_,nk (wrS rows sp),_,⟨rfl,rfl,nd,na,rfl⟩,vb,b,_,_,0,rfl,rfl,hbl,rfl,?_⟩;refine ⟨_,_,rfl,A0n s3 hb0,B0t.congr (upd' (((ys.length-1-i:Nat):Int)+1) (ys.length:Int)) λr hr=> ?_⟩;show (if r=wrS rows sp then ((((ys.length-1-i:Nat):Int)+1),(ys.length:Int)) else (fdN rows ss i r,(ys.length:Int)))=(fdN rows ss (i+1) r,(ys.length:Int));rw [fd1 r];split <;> rfl
   ·refine ⟨_,_,rfl,s3,du2.congr λr hr=> ?_⟩;show (fdN rows ss i r,(ys.length:Int))=(fdN rows ss (i+1) r,(ys.length:Int));rw [fd1 r,Z0t (λz=>hz (by rw [<-z];exact hr))]
  rintro Z G2 ⟨o5,o6,rfl,s2,du⟩
  have du2:B0t P w H G2 wk LD λr=>(A9q rows ss r,(ys.length:Int)):=du.congr λr _=>by
   show (fdN rows ss ((ys.length:Int)-1+1).toNat r,(ys.length:Int))=_;rw [en,lys,D5a]
  clear du sG duG;refine λRD o1 hRD ndR=> ?_;have sR:A0r G2 (upd G2 RD o1):=A0e hRD;have ndR:A3l P w [true,false] (upd G2 RD o1) RD []:=ndR;generalize upd G2 RD o1=G3 at sR ndR;have s3:=s2.trans sR;have du3:=du2.same sR;have hRDH:H RD=none:=s2.free hRD;obtain ⟨uR,eR,tR⟩:=A2k ndR
  have LR:LD≠RD:=by
   obtain ⟨_,_,h1,_⟩:=du2.ex;obtain ⟨u,e,_⟩:=A2k h1;exact A0i e hRD
  have OR:OL≠RD:=A0i hOL hRDH;have MR:MD≠RD:=A0i hM hRDH
  have keepD:∀{G:Hp},KB RD G3 G->B0t P w H G wk LD λr=>(A9q rows ss r,(ys.length:Int)):=λ{G} kb=>du3.keep (λu e=>kb _ _ LR e) (kb.kt eR tR) λb xs _ e=>kb _ _ (λz=>by
   subst z;obtain ⟨_,e',_⟩:=ndR;rw [e] at e'
   cases e') e
  refine ⟨_,rfl,OL,_,rfl,.inl (SqL.of (s3 _ _ hOL)),_,rfl,by lia,by lia,?_⟩
  refine A7e (n:=ys.length) (λi Z G=>∃(o4 o5 o6:Option V) (kvs:List (A1w×V)),Z=[Sro ab,Sro OL,Sro MD,Sro LD,o4,o5,o6,Sro RD]/\KB RD G3 G/\A3l P w [true,false] G RD kvs/\kvs.length<=i*20/\∀r,A1y kvs (nk r)=(LI (rdA lk rows wk ss r) i).map λ(j:Nat)=>V.int (j:Int))
   ⟨_,_,_,[],rfl,KB.refl,ndR,Z1e _,λr=>rfl⟩ ?_ ?_
  ·rintro i Z G hi ⟨o4,o5,o6,kvs,rfl,kb,nd,lkv,vv⟩;walk_at "g";rw [Int.zero_add];obtain ⟨sp,st0,c,u,e,b2,kk,v1,v2,v3,hsp,si,ew,aS,sta,g1,gc,a0,hb2⟩:=own hi;have s4:A0r H G:=KB.same s3 kb hRDH;have so:=(B0s lok fo si).1.few;have l20i:i*20<=20000*20:=Nat.mul_le_mul_right _ (by lia);refine ⟨_,rfl,ab,_,rfl,(af.same s4).get (A6g x ol),_,rfl,_,rfl,OL,_,_,_,rfl,rfl,SqL.of (s4 _ _ hOL),aS,st0,_,_,_,rfl,rfl,SqT.of (s4 _ _ g1),A0j (j:=0) rfl,x.ln,_,_,_,rfl,rfl,SqL.of (s4 _ _ hts),a0,b2,_,_,_,rfl,rfl,SqT.of (s4 _ _ hb2),A0j (j:=0) rfl,_,rfl,_,rfl,OL,_,_,_,rfl,rfl,SqL.of (s4 _ _ hOL),aS,st0,_,_,_,rfl,rfl,SqT.of (s4 _ _ g1),A0j (j:=2) rfl,A0y rfl,λq hq=> ?_⟩;have sq:A0r G (upd G q (.tup [.str e.nm,.ref c])):=A0e hq;have na:A2b (upd G q (.tup [.str e.nm,.ref c])) (nk (wrS rows sp)) q:=by rw [ew];exact A2i A0b (by rw [List.map_map];exact sq _ _ (s4 _ _ gc))
   generalize upd G q (.tup [.str e.nm,.ref c])=G4 at sq na;have s5:=s4.trans sq;have kb4:=kb.trans (KB.of sq);have nd4:=A1h nd sq;have pi':∀r,rdA lk rows wk ss r i=((A1y wk (nk (wrS rows sp))).isSome&&decide (r∈rdS lk rows sp)):=λr=>by unfold rdA;rw [hsp]
   refine ⟨_,rfl,_,rfl,MD,q,_,_,nk (wrS rows sp),⟨rfl,rfl,A1h ndM s5,na,rfl⟩,_,rfl,D8d (λhz=> ?_) (λhz=> ?_)⟩
   ·refine ⟨_,rfl,_,rfl,_,rfl,OL,_,_,_,rfl,rfl,SqL.of (s5 _ _ hOL),aS,ab,st0,x,ol,L,nm,es,tb,T0,rows,os,sp,kk,e,lk,rfl,af.same s5,fo,sta.kt (KT.same s5),si,lok,?_⟩;intro R vs G5 hR s45 hR5 rd5;have nd5:=A1h nd4 s45;obtain ⟨u5,e5,t5⟩:=A2k nd5;have RRD:R≠RD:=λz=>by subst z;obtain ⟨_,e,_⟩:=A2k nd4;rw [hR] at e;cases e
    have kb5:=kb4.trans (KB.of s45);have lrd:=Paired.length rd5;refine ⟨R,rfl,⟨_,SqL.of hR5⟩,?_⟩
    refine A1v (K:=K) (a:=R) (xs:=vs) (λj Z G6=>∃(o4:Option V),Z=[Sro ab,Sro OL,Sro MD,Sro LD,o4,Sio (i:Nat),Sro q,Sro RD]/\KB RD G5 G6/\A3l P w [true,false] G6 RD (B3h kvs ((rdS lk rows sp).take j) (.int (i:Nat))))
     ⟨_,rfl,KB.refl,nd5⟩ (by rintro j Z G6 _ ⟨_,_,kb6,_⟩;exact SqL.of (kb6 _ _ RRD hR5)) ?_ ?_
    ·rintro j y Z G6 hy ⟨o4,rfl,kb6,nd6⟩;walk_at "g";obtain ⟨r,hr',tr'⟩:=A6w rd5 hy;obtain ⟨b1,rfl,na1⟩:=B4u (tr'.keep (kb6.kt e5 t5));have lp:=A7d (.int (i:Nat)) ((rdS lk rows sp).take j) kvs;have lt:((rdS lk rows sp).take j).length<=(rdS lk rows sp).length:=by rw [Z0x];lia
     refine ⟨_,rfl,_,rfl,_,rfl,RD,b1,_,_,nk r,⟨rfl,rfl,nd6,na1,rfl⟩,A1c (by lia),λo1 nd7=> ?_⟩;refine ⟨_,rfl,kb6.upd,?_⟩;rw [Z14,hr',Z2f,B0x];exact nd7
    ·rintro Z G6 ⟨o4,rfl,kb6,nd6⟩;rw [lrd,Z18] at nd6;have lp:=A7d (.int (i:Nat)) (rdS lk rows sp) kvs;refine ⟨_,_,_,_,rfl,kb5.trans kb6,nd6,by rw [Nat.add_mul];lia,λr=> ?_⟩;rw [B0i];show _=(if rdA lk rows wk ss r i=true then some i else LI (rdA lk rows wk ss r) i).map _;rw [pi' r,hz,Bool.true_and];by_cases m:r∈rdS lk rows sp
     ·rw [Z12 m,Z12 (Z20 m)];rfl
     ·rw [Z0t m,Z0t (by simpa using m)];exact vv r
   ·refine ⟨_,_,_,kvs,rfl,kb4,nd4,by lia,λr=> ?_⟩;show _=(if rdA lk rows wk ss r i=true then some i else LI (rdA lk rows wk ss r) i).map _;rw [pi' r,Z0t (by rw [Bool.not_eq_true] at hz;rw [hz];simp)];exact vv r
  rintro Z G4 ⟨o4,o5,o6,kvs,rfl,kb4,nd4,lkv,vv⟩;rw [lys] at vv;have s4:A0r H G4:=KB.same s3 kb4 hRDH;have du4:=keepD kb4;have hM4:=s4 _ _ hM;refine ⟨_,rfl,MD,_,kas,rfl,hM4,λo2=> ?_⟩;have fz:upd G4 MD (.frz o2 (ndV P w [true,false] MD kas)) MD=some (.frz o2 (ndV P w [true,false] MD kas)):=A0b;have kb0:KB MD H (upd G4 MD (.frz o2 (ndV P w [true,false] MD kas))):=λb u hb e=>by rw [A0h hb];exact s4 _ _ e
  have nt:∀{b:Addr} {u:HO},b≠MD->G4 b=some u->upd G4 MD (.frz o2 (ndV P w [true,false] MD kas)) b=some u:=λhb e=>by rw [A0h hb];exact e
  have ndR0:A3l P w [true,false] (upd G4 MD (.frz o2 (ndV P w [true,false] MD kas))) RD kvs:=nd4.keeps (λu e=>nt MR.symm e) λb xs e=>nt (A1g e hM4 (by intro z;cases z)) e
  have du0:B0t P w H (upd G4 MD (.frz o2 (ndV P w [true,false] MD kas))) wk LD λr=>(A9q rows ss r,if InW (wk.take 0) r/\r.1∉os then liN lk rows wk ss r else (ys.length:Int)):=by
   refine B0t.congr (du4.keep (λu e=>nt LM e) (λb xs e=>nt (A1g e hM4 (by intro z;cases z)) e) λb xs _ e=>nt (A1g e hM4 (by intro z;cases z)) e) λr _=> ?_;show (A9q rows ss r,(ys.length:Int))=(A9q rows ss r,if InW (wk.take 0) r/\r.1∉os then liN lk rows wk ss r else (ys.length:Int));rw [Z0t (λz=>by cases z.1)]
  have abM:ab≠MD:=A1g af.d hM (by intro z;cases z);have olM:ol≠MD:=A1g af.ou hM (by intro z;cases z)
  refine B2j (P:=P) (w:=w) (sh:=[true,false]) (a:=MD) (o:=o2) (kas:=kas) (λi Z G=>∃(o4:Option V),Z=[Sro ab,Sro OL,Sro MD,Sro LD,o4,o5,o6,Sro RD]/\KB MD H G/\G MD=some (.frz o2 (ndV P w [true,false] MD kas))/\A3l P w [true,false] G RD kvs/\B0t P w H G wk LD λr=>(A9q rows ss r,if InW (wk.take i) r/\r.1∉os then liN lk rows wk ss r else (ys.length:Int)))
   ⟨_,rfl,kb0,fz,ndR0,du0⟩ (by rintro i Z G ⟨_,_,_,z,_⟩;exact z) ?_ ?_
  ·rintro i p Z G hp ⟨o4,rfl,kb,fz,ndR,du⟩;walk_at "g";obtain ⟨r,er,hwi,na,inr⟩:=key hp;have kT:KT H G:=λb xs e=>kb _ _ (A1g e hM (by intro z;cases z)) e;have naG:=na.keeps kT;obtain ⟨cc,htup,_⟩:=D4b naG;refine ⟨_,rfl,p.2.1,_,_,_,rfl,rfl,SqT.of htup,A0j (j:=0) rfl,_,rfl,ab,_,rfl,.inl ⟨_,Sum.inr "outs",.inl (kb _ _ abM af.d),rfl,(C2s x ol).symm⟩,ol,_,rfl,.inl (SqL.of (kb _ _ olM af.ou)),rfl,B3b os,_,rfl,?_⟩;show if (!inV (V.str r.1) (os.map V.str))=true then _ else _
   rw [C2b];refine D0q (λhn=> ?_) (λhy=> ?_)
   ·obtain ⟨j,hj⟩:=ls inr
    have hLI:LI (rdA lk rows wk ss r) ss.length=some j:=by
     unfold D4h at hj;rw [Z0t (λz=>hn ?_)] at hj
     ·exact hj
     ·unfold A7z at z;obtain ⟨o,ho',hz⟩:=List.mem_flatMap.mp z;obtain ⟨c,_,rfl⟩:=Z2c.mp hz;exact ho'
    have vR:A1y kvs (nk r)=some (.int (j:Int)):=by rw [vv r,hLI];rfl
    have eli:liN lk rows wk ss r=(j:Int):=by unfold liN;rw [hLI];rfl
    obtain ⟨b,kv,nd,vb,hbl,hb0,upd'⟩:=du.at inr;refine ⟨_,rfl,_,rfl,RD,p.2.1,_,_,nk r,_,⟨rfl,rfl,ndR,naG,rfl⟩,vR,_,rfl,_,rfl,LD,p.2.1,_,_,nk r,_,⟨rfl,rfl,nd,naG,rfl⟩,vb,b,_,_,1,rfl,rfl,hbl,rfl,?_⟩;have nb:∀{c:Addr} {u:HO},(∀xs,u≠.lst xs)->G c=some u->upd G b (.lst [.int (A9q rows ss r),.int (j:Int)]) c=some u:=λn y=>by rw [A0h (A1g y hbl (n _))];exact y
    refine ⟨_,rfl,λc u hc e=> ?_,nb (by intro xs z;cases z) fz,ndR.keeps (λu e=> ?_) (λb xs e=>nb (by intro xs z;cases z) e),B0t.congr (upd' (A9q rows ss r) (j:Int)) λr' hr'=> ?_⟩
    ·rw [A0h (A0i e hb0)];exact kb _ _ hc e
    ·have:u≠.lst [.int (A9q rows ss r),.int (if InW (wk.take i) r/\r.1∉os then liN lk rows wk ss r else (ys.length:Int))]:=λz=>by
      obtain ⟨_,e',_⟩:=ndR;rw [e,z] at e';cases e'
     rw [A0h (A1g e hbl this)];exact e
    ·show (if r'=r then (A9q rows ss r,(j:Int)) else (A9q rows ss r',if InW (wk.take i) r'/\r'.1∉os then liN lk rows wk ss r' else (ys.length:Int)))=(A9q rows ss r',if InW (wk.take (i+1)) r'/\r'.1∉os then liN lk rows wk ss r' else (ys.length:Int));by_cases err:r'=r
     ·subst err;rw [Z12 rfl,Z12 ⟨(A5a hwi r').mpr (.inr rfl),hn⟩,eli]
     ·rw [Z0t err];by_cases hw:InW (wk.take i) r'/\r'.1∉os
      ·rw [Z12 hw,Z12 ⟨(A5a hwi r').mpr (.inl hw.1),hw.2⟩]
      ·rw [Z0t hw,Z0t (λz=>hw ⟨((A5a hwi r').mp z.1).resolve_right err,z.2⟩)]
   ·refine ⟨_,rfl,kb,fz,ndR,du.congr λr' hr'=> ?_⟩;show (A9q rows ss r',if InW (wk.take i) r'/\r'.1∉os then liN lk rows wk ss r' else (ys.length:Int))=(A9q rows ss r',if InW (wk.take (i+1)) r'/\r'.1∉os then liN lk rows wk ss r' else (ys.length:Int));by_cases hw:InW (wk.take i) r'/\r'.1∉os
    ·rw [Z12 hw,Z12 ⟨(A5a hwi r').mpr (.inl hw.1),hw.2⟩]
    ·refine congrArg _ ?_;rw [Z0t hw,Z0t (λz=> ?_)];rcases (A5a hwi r').mp z.1 with h | h
     ·exact hw ⟨h,z.2⟩
     ·subst h;exact absurd hy z.2
  rintro Z G ⟨o4,rfl,kb,fz,ndR,du⟩;rw [lkas,Z18] at du;refine ⟨MD,o2,_,fz,(λo' u' z=>by have z:H MD=some (.frz o' u'):=z;rw [hM] at z;cases z),_,rfl,?_⟩;refine k LD _ hLD (λb u e=> ?_) (B0t.congr (du.keep (λu e=>by rw [A0h LM];exact e) (λb xs e=>by rw [A0h (A1g e fz (by intro z;cases z))];exact e) λb xs _ e=>by rw [A0h (A1g e fz (by intro z;cases z))];exact e) λr hr=> ?_)
  ·by_cases hb:b=MD
   ·subst hb;rw [hM] at e;rw [<-e];exact A0b
   ·rw [A0h hb];exact kb _ _ hb e
  ·show (A9q rows ss r,if InW wk r/\r.1∉os then liN lk rows wk ss r else (ys.length:Int))=(A9q rows ss r,C2p lk L es rows os wk ss r);refine congrArg _ ?_;unfold C2p D4h;by_cases ho:r.1∈os
   ·rw [Z0t (λz=>z.2 ho),Z12 (show r∈A7z (szE L es) os from List.mem_flatMap.mpr ⟨r.1,ho,Z2c.mpr ⟨r.2,(wc hr).2,rfl⟩⟩),lys];rfl
   ·rw [Z12 ⟨hr,ho⟩,Z0t (λz=>ho ?_)]
    ·rfl
    ·unfold A7z at z;obtain ⟨o,ho',hz⟩:=List.mem_flatMap.mp z;obtain ⟨c,_,rfl⟩:=Z2c.mp hz;exact ho'
inductive C4d (vs:List V) (H:Hp) (Q:VK):Prop
 | mk (p b:Addr) (f g:Int) (_:vs=[.ref p,.ref b]) (_:H p=some (.tup [.int f,.int g])) (_:H b=some (.lst [.int f,.int g])) (_:Q (.bl true) H):C4d vs H Q
def D6c:Sp:=λvs H Q _=>C4d vs H Q
def C0z (s:Stp):PyData:= .tuple [.int s.1,.str s.2.1,D9y s.2.2.1,D9y s.2.2.2]
def A8p (ss:List Stp):PyData:= .list (ss.map C0z)
theorem C3x:∀ss:List Stp,(∀s∈ss,PyData.strOk s.2.1=true)->PyData.depthAll (ss.map C0z)<=2/\PyData.canLayAll0 (ss.map C0z)=true/\PyData.eqvAll (ss.map C0z) (ss.map C0z)=true
 | [],_=>⟨by simp [PyData.depthAll],rfl,by simp [PyData.eqvAll]⟩
 | s::r,h=>by
  obtain ⟨h1,h2,h3⟩:=C3x r λy hy=>h y (.tail _ hy);have h0:=h s (.head _);obtain ⟨a1,a2,a3⟩:=C2k s.2.2.1;obtain ⟨b1,b2,b3⟩:=C2k s.2.2.2;refine ⟨?_,?_,?_⟩
  ·simp only [Z0p,PyData.depthAll,C0z,D9y,PyData.depth,a1,b1];lia
  ·simp [C0z,D9y,PyData.canLayAll0,PyData.canLay0,h2,a2,b2,h0]
  ·rw [Z0p,PyData.eqvAll,h3,C0z,PyData.eqv];simp [PyData.eqvAll,PyData.eqv,D9y,a3,b3]
theorem B9n {ys:List V} (h:H b=some (.lst ys)) (st:A2j H ys ss):Rep H (.ref b) (A8p ss):=by
 refine .lst h ?_;clear h
 induction st with
 | nil=>exact .nil
 | cons r _ ih =>
  obtain ⟨b,c,u,rfl,h1,h2,h3⟩:=r;exact .cons (.tup h1 (.cons (.int _) (.cons (.str _) (.cons (.tup h2 (B2q _)) (.cons (.tup h3 (B2q _)) .nil))))) ih
theorem D2f.val {H:Hp} {f g:Str×List Int->Int} {W:Str->List (List Int)}:∀{dk:List (Key×V)} {es:List (Str×List Str)},D2f H f g W dk es->(es.map (·.1)).Nodup->∀{e:Str×List Str},e∈es->∃v,A1y dk (Sum.inr e.1)=some v/\D8i H f g e.1 (W e.1) v
 | _,_,.nil,_,_,h=>by cases h
 | _,_,@Paired.cons _ _ _ p q ps qs r t,nd,e,h=>by
  obtain ⟨z1,z2⟩:=r;rw [Z0p,Z15] at nd;rcases Z0e.mp h with rfl | h
  ·exact ⟨p.2,A2l z1,z2⟩
  ·obtain ⟨c,c1,c2⟩:=D2f.val t nd.2 h;exact ⟨c,by rw [A2g (λz=>nd.1 (by rw [Sum.inr.inj (z1.symm.trans z)];exact List.mem_map_of_mem h))];exact c1,c2⟩
theorem D0r (T:Txt K mg t):FO P w base T.jj 1 D6c:=by
 refine T.jj.F.ok B8y (by walk_at "ln") λ_ A _ s H _ Q E hr h=> ?_
 ·obtain ⟨p,b,f,g,rfl,hp,hb,k⟩:=h
  refine ⟨_,(A0c (A1s (PW.pt (C1h (B2w (A3z (A0q A1m (by rfl) T.aa Z0d (A0a (pv 0) (A0a (A3q (v:=V.ty "tuple") rfl T.bn Z0m rfl) A0d))))) (B4b (A0t D1z (A0q A0z (by rfl) T.au Z0r (A0a (pv 0) A0d)) A0g (A1i _)))))
    (A0f (A0p B0l))
    A0s)
   (A0c (A1o (D4n (pv 0)) (A0k (i:=2) B8y.nd)
    (A0f (A1s (PW.pt (C1h (B2w (A3z (A0q A1m (by rfl) T.aa Z0d (A0a (pv 2) (A0a (A3q (v:=V.ty "int") rfl T.om PyProof.Rows.boot_int rfl) A0d))))) (B4b (A3z (A0q A1m (by rfl) T.aa Z0d (A0a (pv 2) (A0a (A3q (v:=V.ty "bool") rfl T.nX PyProof.Rows.boot_bool rfl) A0d)))))))
     (A0f (A0p B0l))
     A0s)))
   (A0f (A0p (D9v (C2d A3f (A1b A1d (pv 0) A0g) (A1b A1l (pv 1) A0g) (A1i _)) (D9c (C2d A3f (A1b A1d (pv 0) A0g) (A1b A1l (pv 1) A0g) (A1i _)))))))),?_⟩
  refine ⟨_,rfl,_,_,_,_,rfl,B7g.tup hp,A6e "tuple",true,rfl,A7x ?_⟩;refine ⟨_,rfl,p,_,rfl,.inr (SqT.of hp),rfl,_,rfl,A7x ?_⟩;refine ⟨_,rfl,p,rfl,⟨_,SqT.of hp⟩,?_⟩;refine D5p (K:=K) (a:=p) (xs:=[f,g].map V.int) (λi Z G=>∃o2:Option V,Z=[Sro p,Sro b,o2]/\H=G) ⟨none,rfl,rfl⟩ (by rintro i Z G _ ⟨_,_,rfl⟩;exact SqT.of hp) ?_ ?_
  ·rintro i v Z G hv ⟨o2,rfl,rfl⟩;walk_at "g";obtain ⟨z,_,rfl⟩:=A2e hv;refine ⟨_,rfl,_,_,_,_,rfl,B7g.int z,A6e "int",true,rfl,A7x ?_⟩;exact ⟨_,rfl,_,_,_,_,rfl,B7g.int z,C0h,false,rfl,A7x ⟨_,rfl,rfl⟩⟩
  ·rintro Z G ⟨o2,rfl,rfl⟩;refine ⟨_,rfl,p,_,_,_,rfl,rfl,SqT.of hp,A0j (j:=0) rfl,_,rfl,b,_,_,_,rfl,rfl,SqL.of hb,A0j (j:=0) rfl,rfl,?_⟩;refine ⟨_,rfl,A3u (λ_=> ?_) (λh=>absurd rfl h)⟩;refine ⟨_,rfl,p,_,_,_,rfl,rfl,SqT.of hp,A0j (j:=1) rfl,_,rfl,b,_,_,_,rfl,rfl,SqL.of hb,A0j (j:=1) rfl,rfl,?_⟩;rw [Z20 rfl];exact k
inductive C4q (P:Program) (w:World) (A:Adr) (vs:List V) (H:Hp) (Q:VK):Prop
 | mk (ab p OL MD:Addr) (x:Abt) (ol:Addr) (L:Str->Int) (nm:List Str) (es:List (Str×List Str)) (tb:List Str) (T:Nat) (rows:List LnM) (os:List Str) (lk:List (Key×V)) (ys:List V) (ss:List Stp) (_:vs=[.ref ab,.ref p,.ref OL,.ref MD]) (_:AbF H ab x ol L nm es tb rows os) (_:ClF A H p L nm es rows os) (_:A9i L nm es tb T rows os) (_:B2i lk L nm) (_:H OL=some (.lst ys)) (_:A2j H ys ss) (_:B4g L rows ss) (_:ss.length<=20000) (_:(∀s∈A1f (rows.map (A4p L)) rows.length,s∈ss)) (_:A3l P w [true,false] H MD (wkF lk L es rows os)) (_:(wkF lk L es rows os).length<=900000) (_:∀(H':Hp),A0r H H'->Q (.bl true) H'):C4q P w A vs H Q
def D5k (P:Program) (w:World) (A:Adr):Sp:=λvs H Q _=>C4q P w A vs H Q
theorem D2k {k:Nat} (h:D0i L rows s k e):PyData.strOk s.2.1=true:=by
 rcases h.wd with ⟨_,z,_⟩ | ⟨_,z,_⟩ | ⟨_,z,_⟩
 ·rw [z];decide +kernel
 ·rw [z];decide +kernel
 ·rw [z];decide +kernel
theorem C8k (T:Txt K mg t):FO P w base T.je 18 (D5k P w t):=by
 have Gd6:= @D1s P w K mg base t T;have Gd7:= @D0r P w K mg base t T;have Gd8:= @C3k P w K mg base t T;refine T.je.F.ok A5g (by walk_at "ln") λ_ A _ s H _ Q E hr h=> ?_
 ·obtain ⟨ab,p,OL,MD,x,ol,L,nm,es,tb,T0,rows,os,lk,ys,ss,rfl,af,cl,fo,lok,hOL,st,sin,l20,all,ndM,lwk,k⟩:=h;have hu:=A6c hr;have hn:=B4r hr;have lys:=Paired.length st;have ky:=D6n lk L es rows os;have wl:=E0l lok fo;have few:=fo.eo.few
  refine ⟨_,(A0c (A0m (i:=4) A5g.nd (pcl Gd6 hr T.kz (A0a (pv 0) (A0a (pv 2) (A0a (pv 3) A0d)))))
   (A0c (A0m (i:=5) A5g.nd (A3g A6h (by rfl) T.d_ Z1o (A0a (pv 2) A0d)))
   (A0c (A0m (i:=6) A5g.nd (pcl Gd8 hr T.gq (A0a (pv 1) (A0a (pv 5) A0d))))
   (A0c (A1s (PW.pt (C1h (A0t (E0v hr.units) (pv 5) (pv 2) (A1i _)) (C1h (B2w (A3z (A0q A1m (by rfl) T.aa Z0d (A0a (pv 6) (A0a (A3q (v:=V.ty "dict") rfl T.gv Z2q rfl) A0d))))) (B4b (A0t D1z (A0q B3x (by rfl) T.au Z0r (A0a (pv 6) A0d)) (A0q B3x (by rfl) T.au Z0r (A0a (A0u hu (pv 0) A0o) A0d)) (A1i _))))))
    (A0f (A0p B0l))
    A0s)
   (A0c (A0m (i:=7) A5g.nd A0g)
   (A0c (A1o (B7i (A0u hu (pv 0) A0o)) (A0k (i:=8) A5g.nd)
    (A0c (A1s (PW.pt (C1h (D4u (C0n hu (pv 8) (pv 6)) (by with_unfolding_all rfl)) (B4b (B2w (A3z (A0q A1m (by rfl) T.aa Z0d (A0a (A0u hu (pv 6) (pv 8)) (A0a (A3q (v:=V.ty "dict") rfl T.gv Z2q rfl) A0d))))))))
     (A0f (A0p B0l))
     A0s)
    (A0f (A0m (i:=7) A5g.nd (A0x A4a (pv 7) (A0q C7o (by rfl) T.au Z0r (A0a (A0u hu (pv 6) (pv 8)) A0d)))))))
   (C3m (A0c (A1o (B7f (pv 4)) (A0k (i:=9) A5g.nd)
    (A0f (A1s (PW.pt (C1h (D4u (C0n hu (A1b A1d (pv 9) A0g) (A0u hu (pv 6) (A1b A1d (pv 9) A0g))) (by with_unfolding_all rfl)) (B4b (B2w (A3z (pcl Gd7 hr T.jj (A0a (A0u hu (A0u hu (pv 6) (A1b A1d (pv 9) A0g)) (A1b A1d (pv 9) A0g)) (A0a (D1l hn (pv 4) (pv 9)) A0d))))))))
     (A0f (A0p B0l))
     A0s)))
   (B3c (A0f (A0p (C2d A3f (pv 7) (A0q D0o (by rfl) T.au Z0r (A0a (pv 4) A0d)) (A1i _))))))))))))),?_⟩
  refine ⟨_,rfl,_,rfl,_,rfl,ab,OL,MD,x,ol,L,nm,es,tb,T0,rows,os,lk,ys,ss,rfl,af,fo,lok,hOL,st,sin,l20,all,ndM,lwk,λLD H1 hLD s1 du=> ?_⟩;refine ⟨_,rfl,OL,ys,rfl,.inl (SqL.of (s1 _ _ hOL)),λHL hHL=> ?_⟩;obtain ⟨H2,s2,hHL2,eNH⟩:=nH (o:= .lst ys) hHL
  try rw [eNH]
  have s02:=s1.trans s2;refine ⟨_,rfl,_,rfl,p,HL,L,nm,es,tb,T0,rows,os,ys,ss,lk,rfl,cl.same s02,fo,lok,hHL2,st.kt (KT.same s02),sin,l20,all,λF dk H3 hF s3 hF3 lv=> ?_⟩;have s03:=s02.trans s3;have du3:=(du.same s2).same s3;generalize hwk:wkF lk L es rows os=wk at du3 lv wl ky;obtain ⟨ak,hak,ar⟩:=af.sh;have lar:=Paired.length ar;have llv:=Paired.length lv;obtain ⟨d1,d2,d3⟩:=C3x ss λs hs=>by obtain ⟨_,_,si⟩:=sin s hs;exact D2k si
  have sh:SeqAt.shaped (A8p ss)=true:=B3p (by simp [A8p,PyData.canLay0,d2]) (by simp only [A8p,PyData.depth];lia);refine ⟨_,rfl,_,rfl,A8p ss,A8p ss,B9n (s3 _ _ hHL2) (st.kt (KT.same s03)),B9n (s03 _ _ hOL) (st.kt (KT.same s03)),sh,sh,_,rfl,?_⟩;show if (!PyData.eqv (A8p ss) (A8p ss))=true then _ else _
  rw [show PyData.eqv (A8p ss) (A8p ss)=true by rw [A8p,PyData.eqv];exact d3];refine A7x ?_;have af3:=af.same s03;have hak3:=s03 _ _ hak;refine ⟨_,rfl,_,_,_,_,rfl,B7g.dK hF3,A6e "dict",true,rfl,A7x ?_⟩;refine ⟨_,rfl,F,_,rfl,hF3,_,rfl,ab,_,rfl,af3.get (B0p x ol),x.sh,_,rfl,hak3,rfl,_,rfl,D0q (λh=>absurd (by rw [llv,lar]) h) (λ_=> ?_)⟩;refine ⟨_,rfl,ab,_,rfl,af3.get (B0p x ol),x.sh,ak,rfl,hak3,λo1=> ?_⟩;have Fsh:F≠x.sh:=(A0i (s02 _ _ hak) hF).symm;obtain ⟨Gf,hGf⟩:∃Gf,Gf=upd H3 x.sh (.frz o1 (.dK ak)):=⟨_,rfl⟩;rw [<-hGf];have fz:Gf x.sh=some (.frz o1 (.dK ak)):=by rw [hGf];exact A0b
  have upf:∀{b:Addr} {u:HO},b≠x.sh->H3 b=some u->Gf b=some u:=λn z=>by rw [hGf,A0h n];exact z
  have hFf:=upf Fsh hF3
  refine D1w (a:=x.sh) (o:=o1) (kvs:=ak) (λi Z G=>∃(o8:Option V),Z=[Sro ab,Sro p,Sro OL,Sro MD,Sro LD,Sro HL,Sro F,Sio ((B4m (A6n wk (szE L es)) (es.take i)).length:Nat),o8,none]/\Gf=G)
   ⟨none,rfl,rfl⟩ (by rintro i Z G ⟨_,_,rfl⟩;exact fz) ?_ ?_
  ·rintro i k' v Z G hk ⟨o8,rfl,rfl⟩;walk_at "g";obtain ⟨e,he,ek,_⟩:=A6w ar hk;have ek:k'=Sum.inr e.1:=ek;subst ek;obtain ⟨v',ev,b,tk,rfl,hb,ltk,_⟩:=lv.val fo.eo.nd (Z13 he);have hbf:=upf (A1g hb hak3 (by intro z;cases z)) hb;have gF:A9r Gf F (.str e.1) (some (.ref b)):= .inl ⟨dk,Sum.inr e.1,.inl hFf,rfl,ev.symm⟩;refine ⟨_,rfl,_,rfl,F,_,rfl,gF,_,rfl,A7x ?_⟩;refine ⟨_,rfl,_,rfl,F,_,rfl,gF,_,_,_,_,rfl,B7g.dT hbf,A6e "dict",true,rfl,A7x ?_⟩;refine ⟨_,rfl,_,rfl,_,rfl,F,_,rfl,gF,b,_,rfl,hbf,_,_,rfl,rfl,some (.str e.1),?_,rfl⟩;rw [Z14,he,Z2f];unfold B4m;rw [List.flatMap_append,List.flatMap_singleton,Z06,Z08,<-ltk,Int.natCast_add];rfl
  rintro Z G ⟨o8,rfl,rfl⟩;rw [lar,Z18,<-wl];refine ⟨x.sh,o1,_,fz,(λo' u' z=>by have z:H x.sh=some (.frz o' u'):=z;rw [hak] at z;cases z),?_⟩
  have e3:upd Gf x.sh (.dK ak)=H3:=by
   rw [hGf];funext b;by_cases hb:b=x.sh
   ·subst hb;rw [A0b,hak3]
   ·rw [A0h hb,A0h hb]
  rw [e3];obtain ⟨kv,ad,ndL,kkv,vad,_⟩:=du3.ex;obtain ⟨kas,hL,hbare,hall⟩:=id ndL
  have lkas:kas.length=wk.length:=by
   have h1:kas.length=kv.length:=by rw [<-hbare];exact (Z08 _).symm
   have h2:=congrArg List.length kkv;rw [Z08,Z08] at h2
   lia
  have h0:∀o' u',H LD≠some (.frz o' u'):=λo' u' z=>by rw [hLD] at z;cases z
  refine ⟨_,rfl,LD,_,kas,rfl,hL,λo2=> ?_⟩;have fz2:upd H3 LD (.frz o2 (ndV P w [true,false] LD kas)) LD=some (.frz o2 (ndV P w [true,false] LD kas)):=A0b;have nt:∀{b:Addr} {u:HO},b≠LD->H3 b=some u->upd H3 LD (.frz o2 (ndV P w [true,false] LD kas)) b=some u:=λhb e=>by rw [A0h hb];exact e
  have kT:KT H3 (upd H3 LD (.frz o2 (ndV P w [true,false] LD kas))):=λb xs e=>nt (A1g e hL (by intro z;cases z)) e
  refine B2j (P:=P) (w:=w) (sh:=[true,false]) (a:=LD) (o:=o2) (kas:=kas) (λi Z G=>∃(o9:Option V),Z=[Sro ab,Sro p,Sro OL,Sro MD,Sro LD,Sro HL,Sro F,Sio (wk.length:Nat),o8,o9]/\upd H3 LD (.frz o2 (ndV P w [true,false] LD kas))=G)
   ⟨none,rfl,rfl⟩ (by rintro i Z G ⟨_,_,rfl⟩;exact fz2) ?_ ?_
  ·rintro i q Z G hq ⟨o9,rfl,rfl⟩;walk_at "g";have h1:kv[i]? =some (q.1,q.2.2):=by rw [<-hbare];show (kas.map λp=>(p.1,p.2.2))[i]? =_;rw [Z1z,hq];rfl
   have h2:q.1∈wk.map (·.1):=by rw [<-kkv];exact List.mem_map_of_mem (f:=(·.1)) (Z13 h1)
   obtain ⟨q',hq',eq'⟩:=Z2c.mp h2;obtain ⟨r,er⟩:=ky.ky q' hq';have eqr:q.1=nk r:=by rw [<-eq'];exact er
   have inr:InW wk r:=A9s.mpr (by rw [<-eqr];exact h2);have wc:r.1∈es.map (·.1)/\r.2∈A1e (szE L es r.1):=B2g lok fo (by rw [hwk];exact inr);have naH:A2b H3 (nk r) q.2.1:=by rw [<-eqr];exact (hall q (Z13 hq)).2
   have na:=naH.keeps kT;obtain ⟨cc,htup,hcc⟩:=D4b na;obtain ⟨e,he,ee⟩:=Z2c.mp wc.1;obtain ⟨v',ev,b,tk,rfl,hb,ltk,_,hc⟩:=lv.val fo.eo.nd he;have ee:e.1=r.1:=ee;rw [ee] at ev hc;obtain ⟨pq,epq,hpq⟩:=hc r.2 (List.mem_filter.mpr ⟨wc.2,inr⟩);obtain ⟨va,hva,_⟩:=vad r inr;have FL:F≠LD:=A1g hF3 hL (by intro z;cases z);have bL:b≠LD:=A1g hb hL (by intro z;cases z);have gF:A9r (upd H3 LD (.frz o2 (ndV P w [true,false] LD kas))) F (.str r.1) (some (.ref b)):= .inl ⟨dk,Sum.inr r.1,.inl (nt FL hF3),rfl,ev.symm⟩;have gT:A9r (upd H3 LD (.frz o2 (ndV P w [true,false] LD kas))) b (.ref cc) (some (.ref pq)):= .inr ⟨tk,C1m r.2,cc,.inl (nt bL hb),rfl,by rw [List.map_map];exact hcc,epq.symm⟩;refine ⟨_,rfl,q.2.1,_,_,_,rfl,rfl,SqT.of htup,A0j (j:=1) rfl,_,rfl,_,rfl,q.2.1,_,_,_,rfl,rfl,SqT.of htup,A0j (j:=0) rfl,F,_,rfl,gF,b,_,rfl,gT,_,rfl,A7x ?_⟩;refine ⟨_,rfl,_,rfl,q.2.1,_,_,_,rfl,rfl,SqT.of htup,A0j (j:=0) rfl,F,_,rfl,gF,_,rfl,q.2.1,_,_,_,rfl,rfl,SqT.of htup,A0j (j:=1) rfl,b,_,rfl,gT,?_⟩;refine ⟨_,rfl,_,rfl,LD,q.2.1,_,o2,kas,nk r,_,rfl,rfl,fz2,h0,λp' hp'=>⟨(hall p' hp').1,(hall p' hp').2.keeps kT⟩,na,rfl,(by rw [show (kas.map λp=>(p.1,p.2.2))=kv from hbare];exact va),?_⟩;exact ⟨pq,ad r,_,_,rfl,kT _ _ hpq,nt (A1g hva hL (by intro z;cases z)) hva,true,rfl,A7x ⟨_,rfl,rfl⟩⟩
  rintro Z G ⟨o9,rfl,rfl⟩;refine ⟨LD,o2,_,fz2,h0,?_⟩
  have e4:upd (upd H3 LD (.frz o2 (ndV P w [true,false] LD kas))) LD (ndV P w [true,false] LD kas)=H3:=by
   funext b;by_cases hb:b=LD
   ·subst hb;rw [A0b,hL]
   ·rw [A0h hb,A0h hb]
  rw [show upd (upd H3 LD (.frz o2 (ndV P w [true,false] LD kas))) LD (ndV P w [true,false] LD kas)=H3 from e4];have lkv:kv.length=wk.length:=by rw [<-lkas,<-hbare];exact Z08 _
  refine ⟨_,rfl,_,rfl,LD,_,_,rfl,ndL,rfl,?_⟩;rw [Z20 (by rw [lkv])];exact k H3 s03
def D3a (K:Frag):Sp:=λvs H Q _=>∃(a:Addr) (ns:List Int),vs=[.ref a]/\ScF K H a (ns.map V.int)/\ns.length<=63/\∀H',Q (.bl true) H'
theorem E0j (T:Txt K mg t):FO P w base T.nV 19 (D3a K):=by
 have Gd9:= @C6c P w K mg base t T;have Ge0:= @C6j P w K mg base t T;have Gd5:= @B5p P w K mg base t T;have Ge1:= @C6m P w K mg base t T;have Ge2:= @C6a P w K mg base t T;have Ge3:= @C5f P w K mg base t T;have Ge4:= @C8k P w K mg base t T;refine T.nV.F.ok B1u (by walk_at "ln") λ_ A _ s H _ Q E hr h=> ?_
 ·obtain ⟨a,ns,rfl,hS,hn,k⟩:=h;have hu:=A6c hr
  refine ⟨_,(A0c (A0m (i:=1) B1u.nd (pcl Gd9 hr T.ij (A0a (pv 0) (A0a A0g A0d))))
   (A0c (A0m (i:=2) B1u.nd (pcl Ge3 hr T.ie (A0a (pv 1) A0d)))
   (A0c (B8d (i₀:=3) (N':=["_law_step","_law_about_here"]) (ix:=(List.replicate 1 none++[some 1])) B1u.nd rfl (.inl rfl) rfl (A9b (x:="_law_about_here") rfl rfl rfl (by decide +kernel) (by decide +kernel)) (A7b (N0:=["_law_step"]) rfl (.inl rfl) (by walk_at "ix")) (A1n (pv 2)) (λ_ _ _ _=>(A0k (i:=0) C5s)) (λ_ _ _ _=>(pcl Gd5 hr T.ft (A0a (pv 1) (A0a (pv 0) A0d)))))
   (A0c (A0m (i:=4) B1u.nd (pcl Ge2 hr T.ii (A0a (pv 1) (A0a (pv 2) (A0a (pv 3) (A0a (A0q (B0n rfl) (by rfl) T.lY PyProof.Rows.boot_sum (A0a (A3d A4c (pv 0) (A3e A0g) (A3e A0g)) A0d)) A0d))))))
   (A0c (A0m (i:=5) B1u.nd (pcl Ge1 hr T.ik (A0a (pv 1) (A0a (pv 2) (A0a (pv 3) A0d)))))
   (A0c (A0m (i:=6) B1u.nd (pcl Ge0 hr T.ip (A0a (pv 1) A0d)))
   (A0c (A1o (A1n (A2f (A0a (pv 2) (A0a (pv 4) (A0a (pv 2) A0d))))) (A0k (i:=7) B1u.nd)
    (A0f (A1s (B2w (A3z (pcl Ge4 hr T.je (A0a (pv 1) (A0a (pv 6) (A0a (pv 7) (A0a (pv 5) A0d)))))))
     (A0f (A0p B0l))
     A0s)))
   (A0f (A0p B0l))))))))),?_⟩
  refine ⟨_,rfl,a,ns,rfl,hS,hn,λab x ol L nm es tb T0 rows os H1 af fo hfz sc=> ?_⟩;obtain ⟨lk,hlk,lok⟩:=af.le;have fr:=fo.fr
  have rwk:∀e∈rows.map (A4p L),C4r e:=λe he=>by
   walk_at "h"
  walk_at "k";refine ⟨_,rfl,ab,x,ol,L,nm,es,tb,T0,rows,os,rfl,af,fo,λSL ys H2 hSL s2 h2 st=> ?_⟩;have lys:=Paired.length st;have af2:=af.same s2;refine ⟨_,rfl,SL,rfl,⟨_,SqL.of h2⟩,λKL hKL=> ?_⟩;refine A3j (K:=K) (a:=SL) (D:=KL) (xs:=ys) (λi vs G=>A0r H2 G/\G KL=some (.lst vs)/\Paired (λ(v:V) (s:Stp)=>∃(R:Addr) (es:List V),v= .ref R/\R≠KL/\G R=some (.lst es)/\Rds G es (rdS lk rows s)) vs ((A1f (rows.map (A4p L)) rows.length).take i)) ⟨A0e hKL,A0b,.nil⟩ (by rintro i vs G ⟨s3,_⟩;exact SqL.of (s3 _ _ h2)) ?_ ?_
  ·rintro i v vs G hv ⟨s3,hG,lks⟩;refine B9q ?_;intro N';obtain ⟨sp,hsp,sta⟩:=A6w st hv;have hi:=(Z03.mp hv).1;obtain ⟨kk,e,si⟩:=sin sp (Z13 hsp);have sta:=sta.kt (KT.same s3);obtain ⟨st0,_,_,rfl,_⟩:=id sta;have lvs:=Paired.length lks;rw [Z0x] at lvs;refine ⟨⟨rfl,True.intro⟩,_,rfl,_,rfl,ab,st0,x,ol,L,nm,es,tb,T0,rows,os,sp,kk,e,lk,rfl,af2.same s3,fo,sta,si,lok,?_⟩;intro R zs G2 hR s12 hR2 rd2;have RK:R≠KL:=λz=>by subst z;rw [hG] at hR;cases hR
   have hG2:=s12 _ _ hG;have kt2:KT G2 (upd G2 KL (.lst (vs++[.ref R]))):=KT.at hG2 (by intro xs z;cases z);refine ⟨hG2,A1c (by lia),A0n (s3.trans s12) hKL,A0b,?_⟩;rw [Z14,hsp,Z2f];refine B1o (Paired.mapP lks ?_) (.cons ⟨R,zs,rfl,RK,by rw [A0h RK];exact hR2,rd2.keep kt2⟩ .nil);rintro _ _ ⟨R',es',z1,z2,z3,z4⟩;exact ⟨R',es',z1,z2,by rw [A0h z2];exact s12 _ _ z3,z4.keep ((KT.same s12).trans kt2)⟩
  rintro ks H3 ⟨s3,hK3,lks0⟩;rw [lys,Z18] at lks0;have lks:C2l H3 lk rows ks (A1f (rows.map (A4p L)) rows.length):=Paired.mapP lks0 (by rintro _ _ ⟨R',es',z1,_,z3,z4⟩;exact ⟨R',es',z1,z3,z4⟩);have s13:=s2.trans s3;obtain ⟨z1,ez1,_,_⟩:=A8w V.int ns (some 2) (some 3);refine ⟨_,rfl,_,rfl,_,rfl,_,rfl,_,rfl,_,rfl,a,_,rfl,(sc.ki (KI.of s13)).sq,λp1 hp1=> ?_⟩;rw [ez1];obtain ⟨H4,s4,hp4,eNH⟩:=nH (o:= .lst (z1.map V.int)) hp1
  try rw [eNH]
  have s14:=s13.trans s4;refine ⟨p1,_,rfl,SqL.of hp4,λsm=> ?_⟩;refine ⟨ab,SL,KL,sm,x,ol,L,nm,es,tb,T0,rows,os,lk,ys,ks,rfl,af.same s14,fo,lok,(s3.trans s4) _ _ h2,st.kt (KT.same (s3.trans s4)),s4 _ _ hK3,lks.same s4,λOL zs ss H5 hOL s5 hO5 st5 m1 m2 l5=> ?_⟩;have s15:=s14.trans s5;have s25:=(s3.trans s4).trans s5;refine ⟨_,rfl,_,rfl,_,rfl,ab,SL,KL,x,ol,L,nm,es,tb,T0,rows,os,lk,ys,ks,rfl,af.same s15,fo,lok,s25 _ _ h2,st.kt (KT.same s25),(s4.trans s5) _ _ hK3,lks.same (s4.trans s5),λMD H6 hMD s6 ndM lwk=> ?_⟩;have s16:=s15.trans s6;have s26:=s25.trans s6;refine ⟨_,rfl,ab,x,ol,L,nm,es,tb,T0,rows,os,rfl,af.same s16,fo,λp H7 s7 cl=> ?_⟩;refine ⟨_,rfl,_,rfl,_,rfl,A0y rfl,λRL hRL=> ?_⟩;have s8:A0r H7 (upd H7 RL (.lst [.ref SL,.ref OL,.ref SL])):=A0e hRL;have hR8:upd H7 RL (.lst [.ref SL,.ref OL,.ref SL]) RL=some (.lst [.ref SL,.ref OL,.ref SL]):=A0b;refine ⟨RL,rfl,⟨_,SqL.of hR8⟩,?_⟩;have s68:=s7.trans s8;generalize upd H7 RL (.lst [.ref SL,.ref OL,.ref SL])=H8 at s8 hR8 s68;refine A1v (K:=K) (a:=RL) (xs:=[.ref SL,.ref OL,.ref SL]) (λi Z G=>∃(o7:Option V),Z=[Sro a,Sro ab,Sro SL,Sro KL,Sro OL,Sro MD,Sro p,o7]/\A0r H8 G) ⟨none,rfl,A0r.refl _⟩ (by rintro i Z G _ ⟨_,_,sG⟩;exact SqL.of (sG _ _ hR8)) ?_ ?_
  ·rintro i v Z G hv ⟨o7,rfl,sG⟩;walk_at "g";have s6G:=s68.trans sG;have s1G:=s16.trans s6G
   have tol:∃(c:Addr) (vs:List V) (ss':List Stp),v= .ref c/\G c=some (.lst vs)/\A2j G vs ss'/\B4g L rows ss'/\ss'.length<=20000/\∀s∈A1f (rows.map (A4p L)) rows.length,s∈ss':=by
    have one:∃(c:Addr) (vs:List V) (ss':List Stp),V.ref SL= .ref c/\G c=some (.lst vs)/\A2j G vs ss'/\B4g L rows ss'/\ss'.length<=20000/\∀s∈A1f (rows.map (A4p L)) rows.length,s∈ss':=⟨SL,ys,_,rfl,(s26.trans s6G) _ _ h2,st.kt (KT.same (s26.trans s6G)),sin,by lia,λs h=>h⟩;rcases i with _ | _ | _ | i
    ·cases hv;exact one
    ·cases hv;exact ⟨OL,zs,ss,rfl,(s6.trans s6G) _ _ hO5,st5.kt (KT.same (s6.trans s6G)),λs hs=>sin s (m1 s hs),by lia,m2⟩
    ·cases hv;exact one
    ·cases hv
   obtain ⟨c,vs,ss',rfl,hc,stc,sic,lc,ac⟩:=tol;refine ⟨_,rfl,_,rfl,_,rfl,_,rfl,ab,p,c,MD,x,ol,L,nm,es,tb,T0,rows,os,lk,vs,ss',rfl,af.same s1G,cl.same (s8.trans sG),fo,lok,hc,stc,sic,lc,ac,A1h ndM s6G,lwk,λG2 s12=>⟨true,rfl,A7x ⟨_,rfl,sG.trans s12⟩⟩⟩
  ·rintro Z G ⟨o7,rfl,_⟩;exact k _
end My
namespace PySem.W.Fast
def tw10076093057049485020:=()
def tw7725391585319136284:=()
def tw557985562616036077:=()
def tw12527638106376020587:=()
def tw18086805237783230055:=()
def tw2829373319382435681:=()
def tw1209764594671541457:=()
def tw12765529643991820159:=()
def tw14424498807332654729:=()
def tw15957859273176665321:=()
def tw6091182863249480705:=()
def tw10415677549647635559:=()
def tw1988872097201014516:=()
def tw5719177411173303893:=()
def tw3238774643554917363:=()
def tw2342241192049253115:=()
def tw1279354491194850524:=()
def tw3501935563167742106:=()
def tw13282135100731952715:=()
def tw16261512111406106717:=()
def tw16681441171357968716:=()
def tw13177158248188052640:=()
def tw13962879807832193349:=()
def tw13597836456394728262:=()
def tw4115432862692210238:=()
def tw15933809794363603851:=()
def tw15478518418097979701:=()
def tw16816625623438554951:=()
def tw8101923483007591831:=()
def tw16957898517150289748:=()
def tw7385574477743416940:=()
def tw6832291222512329669:=()
def tw9959283004119754309:=()
def tw18112431768771619591:=()
def tw5792537101973758421:=()
def tw16983187253049629050:=()
def tw5793972535468980633:=()
def tw13915786442659944392:=()
def tw18356698890562586002:=()
def tw9197490618944296593:=()
def tw8780309417938985939:=()
def tw1949972316139465787:=()
def tw8774997251902392986:=()
def tw15488085223341165786:=()
def tw16237895847761994673:=()
def tw3120291550098315960:=()
def tw15518418057518827555:=()
def tw9360622184590000076:=()
def tw914709483158466439:=()
def tw4055809863242186728:=()
def tw5674224783210306773:=()
def tw11446896339103687937:=()
def tw6181955846563790553:=()
def tw7420732099099483391:=()
def tw16220574767788048013:=()
def tw8970727068645458384:=()
def tw14330242967278342887:=()
def tw7930108300893719151:=()
def tw1834917412109632780:=()
def tw1699825745534227485:=()
def tw12513399234733265785:=()
def tw16390277380593636772:=()
def tw18440695920822290377:=()
def tw15178692633832115516:=()
def tw14815781353005107300:=()
def tw7627698290695182046:=()
def tw5324361653700568140:=()
def tw705873946062105208:=()
def tw3466162084206624662:=()
def tw1492349507632450784:=()
def tw3882224575889617392:=()
def tw4863097427673466783:=()
def tw3077880056011684864:=()
def tw12154161228257276713:=()
def tw3765511918264749904:=()
def tw4203557684668997718:=()
def tw16752858235488368834:=()
def tw15069934484743689081:=()
def tw5519903470825172235:=()
def tw6231507496156472728:=()
def tw6333700210201481853:=()
def tw6434843432981419470:=()
def tw14129833378309825623:=()
def tw14403231640943023868:=()
def tw1365482499376335093:=()
def tw8553027546410690941:=()
def tw11733677366373081553:=()
def tw13382055564866759361:=()
def tw15772396295190812620:=()
def tw6537787035050566573:=()
def tw13775049915409813892:=()
def tw8482750614225990781:=()
def tw3664768959787370046:=()
def tw14653664037029090:=()
def tw624150986186874698:=()
def tw3175762591795356153:=()
def tw16912565147121679867:=()
def tw13483792522161544596:=()
def tw17617295279877880480:=()
def tw11490846394744704925:=()
def tw17698023477655241519:=()
def tw11918479935989592798:=()
def tw9921299738062776346:=()
def tw4709678885799974367:=()
def tw16814131667909225975:=()
def tw3871751737863851281:=()
def tw14695710436367875716:=()
def tw17753034818844104369:=()
def tw7831007789142428236:=()
def tw3143110086054148974:=()
def tw2561491365808335167:=()
def tw10997373562112149844:=()
def tw1694251569539565436:=()
def tw8580895073015247552:=()
def tw18072741525240729449:=()
def tw17550591037544610778:=()
def tw7284128111887687943:=()
def tw16535612391349091970:=()
def tw15886270381484681196:=()
def tw4645888197086652770:=()
def tw453497942557440759:=()
def tw5623883434902325533:=()
def tw636919685959833178:=()
def tw18115239476991612960:=()
def tw3290756672891167985:=()
def tw5921437678119041593:=()
def tw13421088363069644869:=()
def tw732084318515841521:=()
def tw748648093190100135:=()
def tw10448042222703749435:=()
def tw5944974051554709914:=()
def tw666019597328935094:=()
def tw16291584142380998661:=()
def tw7571513093571454136:=()
def tw16529923711291519895:=()
def tw1391283992170599731:=()
def tw15872248921642288065:=()
def tw10389635654329120940:=()
def tw9139016046392656262:=()
def tw10344625774234942991:=()
def tw12088959571558461058:=()
def tw1238245973095082967:=()
def tw15102317797774062997:=()
def tw14601653587612753146:=()
def tw6183454541913580993:=()
def tw14490081497554144424:=()
def tw6522752274497743457:=()
def tw15842541925760523843:=()
def tw6524100454734401160:=()
def tw14051786490264078069:=()
def tw7627080277716165594:=()
def tw2866995240263051107:=()
def tw11697423204750351374:=()
def tw11658907977856623952:=()
def tw5132910505726906907:=()
def tw17176079772944963618:=()
def tw964569087103867160:=()
def tw8835990035662897031:=()
def tw4731211961767848028:=()
def tw13885921131179948332:=()
def tw6175043699824560089:=()
def tw5788580556308930116:=()
def tw126249914716188454:=()
def tw70293600048659271:=()
def tw4388455269319954961:=()
def tw1953144571898587966:=()
def tw12939243658611606342:=()
def tw12928677327753681751:=()
def tw13394140329616147843:=()
def tw2178654602601178430:=()
def tw9684494044655188154:=()
def tw5980069803828878717:=()
def tw12606561922299758013:=()
def tw5319406331098305925:=()
def tw13094702484265697755:=()
def tw10340165340575346773:=()
def tw16654459948614995351:=()
def tw7673896189095884849:=()
def tw3031010162851232642:=()
def tw16508285486045103828:=()
def tw5253703831238907406:=()
def tw2644783634958613096:=()
def tw11013258318046181057:=()
def tw9699601700620348396:=()
def tw16207698718322857348:=()
def tw12486528783271183449:=()
def tw11431562049801628593:=()
def tw2177783680178760666:=()
def tw12544257325120068024:=()
def tw10389918261627608752:=()
def tw14975637408562037192:=()
def tw10927366909829881889:=()
def tw14365866083628182768:=()
def tw8465951031386483917:=()
def tw6858908594526443086:=()
def tw8144701594804090451:=()
def tw694959530828876503:=()
def tw17566855117770919301:=()
def tw9602144498286688615:=()
def tw6468891657896026699:=()
def tw4758157394721988385:=()
def tw8721209903582649840:=()
def tw17107234969671773523:=()
def tw2329901600346230929:=()
def tw15907675240346779524:=()
def tw5716292639667870399:=()
def tw12158045646997954781:=()
def tw11817600203723688827:=()
def tw16717367472399086378:=()
def tw662050628735695742:=()
def tw1261831717440347946:=()
def tw17458352331878716080:=()
def tw17711567712746119093:=()
def tw14049027084488963461:=()
def tw8367363117192883493:=()
def tw15008913525155392922:=()
def tw3115807640508250971:=()
def tw12489083723825278439:=()
def tw1398500676360471670:=()
def tw1303881657408241457:=()
def tw11873591653598545644:=()
def tw7298482089357822910:=()
def tw1946201266260508300:=()
def tw17023904235845338746:=()
def tw4430711179177069404:=()
def tw8524685255385391987:=()
def tw4245780826849883737:=()
def tw7498038380436030652:=()
def tw18199519971962974887:=()
def tw10344367544302049944:=()
def tw13871836578830098794:=()
def tw14888624236951417704:=()
def tw15164191663465462623:=()
def tw4704898469659840807:=()
def tw11934590802297653694:=()
def tw12171956538166076697:=()
def tw2464586123442902295:=()
def tw9916508133760176916:=()
def tw1175641708309731378:=()
def tw1876896231118353128:=()
def tw9457901574987873352:=()
def tw8152468509305032785:=()
def tw10557948364570817636:=()
def tw11779952959397590173:=()
def tw2340998389100514897:=()
def tw6513370128436876469:=()
def tw6319156900101827735:=()
def tw5560459965222401300:=()
def tw4977523053245369832:=()
def tw3026851889206592726:=()
def tw2594008192457467391:=()
def tw4780922669154566750:=()
def tw6907689966262445:=()
def tw4828104974121085312:=()
def tw2318521333055704782:=()
def tw16519501457638623808:=()
def tw8283131509538032925:=()
def tw7879898006939130798:=()
def tw5902713214130121321:=()
def tw1644451272472063589:=()
def tw13232400278847453618:=()
def tw1160025929820824813:=()
def tw9373950036887917760:=()
def tw8155737202017069116:=()
def tw17020710388896054125:=()
def tw14030466864092663483:=()
def tw14312450849197534378:=()
def tw977696981605716783:=()
def tw7841180574142476181:=()
def tw16814705676370888463:=()
def tw10814463385937318885:=()
def tw13601854649183473820:=()
def tw6126290938118801623:=()
def tw2688776833400040933:=()
def tw13764259452455787679:=()
def tw4706886205931823020:=()
def tw6191907002254536168:=()
def tw7752786269271763850:=()
def tw6018686722181323698:=()
def tw2808544228191606665:=()
def tw7891862183125846631:=()
def tw14905033838456120583:=()
def tw6327242808701180985:=()
def tw4076919605570019296:=()
def tw10962356580382484654:=()
def tw7267834701073218800:=()
def tw3996295439269761573:=()
def tw11102817839711539412:=()
def tw4100088575797909223:=()
def tw1940188298283522718:=()
def tw8822103712993647690:=()
def tw7791253646674009444:=()
def tw2657315088783481174:=()
def tw4596758422131062473:=()
def tw8234862568797454894:=()
def tw2610397684100652585:=()
def tw15020901312086301676:=()
def tw10104301040795234875:=()
def tw7681232914983134770:=()
def tw2575250298532995977:=()
def tw2049350005296584897:=()
def tw17022102932678554568:=()
def tw5148640518844184321:=()
def tw4416368526043463303:=()
def tw13776706011389449679:=()
def tw12747872004648565256:=()
def tw398928016085893760:=()
def tw8395626085670329961:=()
def tw15146863620053781841:=()
def tw11113364179404053318:=()
def tw3952261066340845652:=()
def tw7805953559540616835:=()
def tw8497504575267333438:=()
def tw8479625246615601943:=()
def tw1448745052915267507:=()
def tw2113097632204509719:=()
def tw14451116542735153251:=()
def tw17854224531043482723:=()
def tw1991778349543494294:=()
def tw10058781270925885593:=()
def tw16502961679056450560:=()
def tw8208490672053520796:=()
def tw13511647783853031985:=()
def tw8580623385174319119:=()
def tw2937763972667003192:=()
def tw15575349936591637400:=()
def tw9112350580198320616:=()
def tw7835321115589122584:=()
def tw17010417548337869782:=()
def tw17790490256850996707:=()
def tw5092714355672723890:=()
def tw2435650691284812592:=()
def tw12316959328551085391:=()
def tw11305113563545705826:=()
def tw11074840234671281942:=()
def tw6316146345278513411:=()
def tw3864245587134809371:=()
def tw16052829938317127279:=()
def tw15763387585590188142:=()
def tw10825161847488464720:=()
def tw10473243412292326738:=()
def tw14922970486209142016:=()
def tw9880187929525720233:=()
def tw6955155036678788465:=()
def tw2873290570018526729:=()
def tw12423143977088053447:=()
def tw4023801010085528112:=()
def tw385453660838639517:=()
def tw16680795883021812859:=()
def tw5427539003994565020:=()
def tw9960845948441521927:=()
def tw262090922206294542:=()
def tw13712623148968563124:=()
def tw5545019900024337175:=()
def tw12698217677054513863:=()
def tw2930992763844625851:=()
def tw8937492210872649892:=()
def tw7523588170668332511:=()
def tw5839173472378299699:=()
def tw4662333300985283826:=()
def tw426599543873210035:=()
def tw3773446320737388320:=()
def tw14969862328109523494:=()
def tw12424747577932455780:=()
def tw11057738264261558266:=()
def tw1095462739115494096:=()
def tw8714919981395468766:=()
def tw6781096341181664796:=()
def tw17349507391219827764:=()
def tw16402652617614332780:=()
def tw12484901675025586851:=()
def tw10524628454559193980:=()
def tw10275591642789793592:=()
def tw12663868256533971688:=()
def tw1555406041242455044:=()
end PySem.W.Fast
namespace My
open PySem L2
variable {K:Frag} {sl:Array (Option Value)} {l:PySem.W.OpenLaw} {XP:(Str->Option Value)->Heap->Prop}
abbrev LkF (K:Frag) (x q:Str) (st:Stmt) (f:Addr):Prop:=∃(oc:Value) (od:Option Addr) (kV dc pm:Value) (an:Option Addr) (cd ct:Value) (sl:Array (Option Value)),K.lookup f=some ⟨oc,od,.func (fnOf x q (A9w st) (A8j st) (A0l st) .none kV dc pm an cd ct),sl⟩/\codeIn K cd q=true/\keepIn K (.ref f)=true
theorem D9m {x q:Str} {st:Stmt} {f:Addr} {oc:Value} {od:Option Addr} {kV dc pm:Value} {an:Option Addr} {cd ct:Value} (l:K.lookup f=some ⟨oc,od,.func (fnOf x q (A9w st) (A8j st) (A0l st) .none kV dc pm an cd ct),sl⟩) (c:codeIn K cd q=true) (k:keepIn K (.ref f)=true):LkF K x q st f:=⟨_,_,_,_,_,_,_,_,_,l,c,k⟩
theorem A2d {x q:Str} {st:Stmt} {f:Addr} {ps:List Str} (l:LkF K x q st f) (h:∀(kV doc pm:Value) (an:Option Addr) (cdv ct:Value) (us:List Value),us.length=ps.length->bindArgs (fnOf x q (A9w st) (A8j st) (A0l st) .none kV doc pm an cdv ct) ⟨us,[]⟩=pure (ps.zip us)):∃d,Fun K x q st f d/\B0z K d ps []/\keepIn K (.ref f)=true:=by
 obtain ⟨_,_,_,_,_,_,_,_,_,l,c,k⟩:=l;have F:=D4f (st:=st) l c k;exact ⟨_,F,F.binds h,k⟩
theorem len0 {p:List Value->Prop} (h:p []):∀us:List Value,us.length=0->p us:=λus e=>by rw [Z2n.mp e];exact h
theorem lenS {n:Nat} {p:List Value->Prop} (h:∀(a:Value) (us:List Value),us.length=n->p (a::us)):∀us:List Value,us.length=n+1->p us
 | a::r,e=>h a r (Nat.succ.inj e)
local macro_rules | `(tactic| walk_at "le") => `(tactic| (intro _ _ _ _ _ _; (repeat (refine lenS fun _ => ?_)); exact len0 rfl))
theorem E0e {w:World} {h:Heap} {mg:Str->Option Value} {fa:Addr} (X:K.In h) (G:h.Ns mainGlobals mg) (hfa:mg "law"=some (.ref fa))
  {aD aC gA aB aE aF fO aJ aG aH aA:Addr}
  (eI:nsIn K mainGlobals "Line"=some (some (.ref aD)))
  (cI:nsIn K mainGlobals "Cloth"=some (some (.ref aC)))
  (fS:nsIn K mainGlobals "Term"=some (some (.ref gA)))
  (bY:nsIn K mainGlobals "Number"=some (some (.ref aB)))
  (cJ:nsIn K mainGlobals "Place"=some (some (.ref aE)))
  (eJ:nsIn K mainGlobals "Read"=some (some (.ref aF)))
  (fT:nsIn K mainGlobals "Pair"=some (some (.ref fO)))
  (eK:nsIn K mainGlobals "Plus"=some (some (.ref aJ)))
  (cK:nsIn K mainGlobals "Minus"=some (some (.ref aG)))
  (cL:nsIn K mainGlobals "Times"=some (some (.ref aH)))
  (cM:nsIn K mainGlobals "Guard"=some (some (.ref aA)))
  {f0:Addr}
  (a0:nsIn K mainGlobals "cells_of"=some (some (.ref f0)))
  (l0:LkF K "cells_of" "cells_of" B1e f0)
  {f1:Addr}
  (a1:nsIn K mainGlobals "lengthened"=some (some (.ref f1)))
  (l1:LkF K "lengthened" "lengthened" A8l f1)
  {f2:Addr}
  (a2:nsIn K mainGlobals "copied"=some (some (.ref f2)))
  (l2:LkF K "copied" "copied" B8f f2)
  {f3:Addr}
  (a3:nsIn K mainGlobals "copied_dict"=some (some (.ref f3)))
  (l3:LkF K "copied_dict" "copied_dict" A7s f3)
  {f4:Addr}
  (a4:nsIn K mainGlobals "lengths_along"=some (some (.ref f4)))
  (l4:LkF K "lengths_along" "lengths_along" A5u f4)
  {f5:Addr}
  (a5:nsIn K mainGlobals "cells_along"=some (some (.ref f5)))
  (l5:LkF K "cells_along" "cells_along" A7h f5)
  {f6:Addr}
  (a6:nsIn K mainGlobals "first_order"=some (some (.ref f6)))
  (l6:LkF K "first_order" "first_order" A7r f6)
  {f7:Addr}
  (a7:nsIn K mainGlobals "steps_of_cell"=some (some (.ref f7)))
  (l7:LkF K "steps_of_cell" "steps_of_cell" A5t f7)
  {f8:Addr}
  (a8:nsIn K mainGlobals "read_by"=some (some (.ref f8)))
  (l8:LkF K "read_by" "read_by" B4f f8)
  {f9:Addr}
  (a9:nsIn K mainGlobals "written_by"=some (some (.ref f9)))
  (l9:LkF K "written_by" "written_by" A8i f9)
  {kD:Addr}
  (gU:nsIn K mainGlobals "wanted_cells"=some (some (.ref kD)))
  (gV:LkF K "wanted_cells" "wanted_cells" A6o kD)
  {kE:Addr}
  (gW:nsIn K mainGlobals "cells_of_outs"=some (some (.ref kE)))
  (gX:LkF K "cells_of_outs" "cells_of_outs" A6a kE)
  {kF:Addr}
  (gY:nsIn K mainGlobals "by_arrays"=some (some (.ref kF)))
  (gZ:LkF K "by_arrays" "by_arrays" A9u kF)
  {kG:Addr}
  (hA:nsIn K mainGlobals "lives_of"=some (some (.ref kG)))
  (hB:LkF K "lives_of" "lives_of" B0v kG)
  {kH:Addr}
  (hC:nsIn K mainGlobals "firsts_of"=some (some (.ref kH)))
  (hD:LkF K "firsts_of" "firsts_of" A9o kH)
  {kI:Addr}
  (hE:nsIn K mainGlobals "lasts_of"=some (some (.ref kI)))
  (hF:LkF K "lasts_of" "lasts_of" B1b kI)
  {gG:Addr}
  (lF:findIn K (.ref aD) "__init__"=some (some (.ref gG)))
  (hG:LkF K "__init__" "Line.__init__" A9t gG)
  (hH:isFn K (.ref gG)=true)
  {gH:Addr}
  (lG:findIn K (.ref aC) "__init__"=some (some (.ref gH)))
  (hI:LkF K "__init__" "Cloth.__init__" A8g gH)
  (hJ:isFn K (.ref gH)=true)
  {gI:Addr}
  (lH:findIn K (.ref aB) "__init__"=some (some (.ref gI)))
  (hK:LkF K "__init__" "Number.__init__" A7m gI)
  (hL:isFn K (.ref gI)=true)
  {gJ:Addr}
  (lI:findIn K (.ref aB) "reads"=some (some (.ref gJ)))
  (hM:LkF K "reads" "Number.reads" A6u gJ)
  (hN:isFn K (.ref gJ)=true)
  {gK:Addr}
  (lJ:findIn K (.ref aE) "__init__"=some (some (.ref gK)))
  (hP:LkF K "__init__" "Place.__init__" A8s gK)
  (hQ:isFn K (.ref gK)=true)
  {gL:Addr}
  (lK:findIn K (.ref aE) "reads"=some (some (.ref gL)))
  (hR:LkF K "reads" "Place.reads" A7o gL)
  (hT:isFn K (.ref gL)=true)
  {gM:Addr}
  (lL:findIn K (.ref aF) "__init__"=some (some (.ref gM)))
  (hU:LkF K "__init__" "Read.__init__" A9y gM)
  (hV:isFn K (.ref gM)=true)
  {gN:Addr}
  (lM:findIn K (.ref aF) "cell_at"=some (some (.ref gN)))
  (hW:LkF K "cell_at" "Read.cell_at" A6t gN)
  (hX:isFn K (.ref gN)=true)
  {gO:Addr}
  (lN:findIn K (.ref aF) "reads"=some (some (.ref gO)))
  (hZ:LkF K "reads" "Read.reads" A8t gO)
  (iA:isFn K (.ref gO)=true)
  {kJ:Addr}
  (iB:nsIn K mainGlobals "index_at"=some (some (.ref kJ)))
  (iC:LkF K "index_at" "index_at" B1a kJ)
  {gB:Addr}
  (lO:findIn K (.ref fO) "__init__"=some (some (.ref gB)))
  (iD:LkF K "__init__" "Pair.__init__" B0b gB)
  (gD:isFn K (.ref gB)=true)
  {gC:Addr}
  (lP:findIn K (.ref fO) "reads"=some (some (.ref gC)))
  (iE:LkF K "reads" "Pair.reads" A8f gC)
  (gE:isFn K (.ref gC)=true)
  {gP:Addr}
  (lQ:findIn K (.ref aA) "__init__"=some (some (.ref gP)))
  (iF:LkF K "__init__" "Guard.__init__" A8v gP)
  (iG:isFn K (.ref gP)=true)
  {gQ:Addr}
  (lR:findIn K (.ref aA) "lets_in"=some (some (.ref gQ)))
  (iH:LkF K "lets_in" "Guard.lets_in" A5w gQ)
  (iI:isFn K (.ref gQ)=true)
  {gR:Addr}
  (lS:findIn K (.ref aA) "looked_at"=some (some (.ref gR)))
  (iJ:LkF K "looked_at" "Guard.looked_at" A4r gR)
  (iK:isFn K (.ref gR)=true)
  {gS:Addr}
  (lT:findIn K (.ref aA) "reads"=some (some (.ref gS)))
  (iL:LkF K "reads" "Guard.reads" A7p gS)
  (iM:isFn K (.ref gS)=true)
  {kK:Addr}
  (iN:nsIn K mainGlobals "_law_cell"=some (some (.ref kK)))
  (iO:LkF K "_law_cell" "_law_cell" B6t kK)
  {kL:Addr}
  (iP:nsIn K mainGlobals "_law_axes"=some (some (.ref kL)))
  (iQ:LkF K "_law_axes" "_law_axes" B8i kL)
  {kM:Addr}
  (iR:nsIn K mainGlobals "_law_many"=some (some (.ref kM)))
  (iS:LkF K "_law_many" "_law_many" B6u kM)
  {kN:Addr}
  (iT:nsIn K mainGlobals "_law_cells"=some (some (.ref kN)))
  (iU:LkF K "_law_cells" "_law_cells" B3w kN)
  {kO:Addr}
  (iV:nsIn K mainGlobals "_law_read"=some (some (.ref kO)))
  (iW:LkF K "_law_read" "_law_read" B7p kO)
  {kP:Addr}
  (iX:nsIn K mainGlobals "_law_grown"=some (some (.ref kP)))
  (iY:LkF K "_law_grown" "_law_grown" B3t kP)
  {kQ:Addr}
  (iZ:nsIn K mainGlobals "_law_made"=some (some (.ref kQ)))
  (jA:LkF K "_law_made" "_law_made" B6v kQ)
  {kR:Addr}
  (jB:nsIn K mainGlobals "_law_parts"=some (some (.ref kR)))
  (jC:LkF K "_law_parts" "_law_parts" B3d kR)
  {kS:Addr}
  (jD:nsIn K mainGlobals "_law_reads"=some (some (.ref kS)))
  (jE:LkF K "_law_reads" "_law_reads" B3o kS)
  {kT:Addr}
  (jF:nsIn K mainGlobals "_law_line"=some (some (.ref kT)))
  (jG:LkF K "_law_line" "_law_line" B6l kT)
  {kU:Addr}
  (jH:nsIn K mainGlobals "_law_digits"=some (some (.ref kU)))
  (jI:LkF K "_law_digits" "_law_digits" B1k kU)
  {kV:Addr}
  (jJ:nsIn K mainGlobals "_law_about"=some (some (.ref kV)))
  (jK:LkF K "_law_about" "_law_about" B2s kV)
  {kW:Addr}
  (jL:nsIn K mainGlobals "_law_cloth"=some (some (.ref kW)))
  (jM:LkF K "_law_cloth" "_law_cloth" B2v kW)
  {kX:Addr}
  (jN:nsIn K mainGlobals "_law_steps"=some (some (.ref kX)))
  (jO:LkF K "_law_steps" "_law_steps" B4j kX)
  {kY:Addr}
  (jP:nsIn K mainGlobals "_law_looks"=some (some (.ref kY)))
  (jQ:LkF K "_law_looks" "_law_looks" B2r kY)
  {kZ:Addr}
  (jR:nsIn K mainGlobals "_law_ready"=some (some (.ref kZ)))
  (jS:LkF K "_law_ready" "_law_ready" B3a kZ)
  {lA:Addr}
  (jT:nsIn K mainGlobals "_law_order"=some (some (.ref lA)))
  (jU:LkF K "_law_order" "_law_order" B3z lA)
  {lB:Addr}
  (jV:nsIn K mainGlobals "_law_marks"=some (some (.ref lB)))
  (jW:LkF K "_law_marks" "_law_marks" B3y lB)
  {lC:Addr}
  (jX:nsIn K mainGlobals "_law_due"=some (some (.ref lC)))
  (jY:LkF K "_law_due" "_law_due" C1u lC)
  {lD:Addr}
  (jZ:nsIn K mainGlobals "_law_life"=some (some (.ref lD)))
  (kA:LkF K "_law_life" "_law_life" B7l lD)
  {lE:Addr}
  (kB:nsIn K mainGlobals "_law_told"=some (some (.ref lE)))
  (kC:LkF K "_law_told" "_law_told" B7a lE)
  {lU:Addr}
  (gT:nsIn K mainGlobals "law"=some (some (.ref lU)))
  (gF:LkF K "law" "law" D1p lU)
  (cN:plainGet K aC Str.empty=true)
  (cO:hasDictIn K aC=true)
  (cP:plainOver K aC=true)
  (cQ:findIn K (.ref aC) "__setattr__"=some (some (.builtin "object.__setattr__")))
  (cR:makesIn K aC=true)
  (cS:keepIn K (.ref aC)=true)
  (cT:findIn K (.ref aC) "__init__"=some (some (.ref gH)))
  (aS:findIn K (.ref aC) "wheel"=some none)
  (aK:findIn K (.ref aC) "lengths"=some none)
  (aN:findIn K (.ref aC) "arrays"=some none)
  (aO:findIn K (.ref aC) "tables"=some none)
  (aT:findIn K (.ref aC) "lines"=some none)
  (bC:findIn K (.ref aC) "outs"=some none)
  (cU:findIn K (.ref aC) "__class__"=some (some (.builtin "object.__class__")))
  (cV:specialIn K (.builtin "object.__class__") "__get__"=some (some (.builtin "getset_descriptor.__get__")))
  (cW:takesIn K (.builtin "object.__class__")=some true)
  (cX:mroIn K aC (.type "object")=some true)
  (cY:plainGet K aA Str.empty=true)
  (cZ:hasDictIn K aA=true)
  (dA:plainOver K aA=true)
  (dB:findIn K (.ref aA) "__setattr__"=some (some (.builtin "object.__setattr__")))
  (dC:makesIn K aA=true)
  (dD:keepIn K (.ref aA)=true)
  (dE:findIn K (.ref aA) "__init__"=some (some (.ref gP)))
  (bD:findIn K (.ref aA) "axis"=some none)
  (bN:findIn K (.ref aA) "low"=some none)
  (bE:findIn K (.ref aA) "high"=some none)
  (aU:findIn K (.ref aA) "inner"=some none)
  (aV:findIn K (.ref aA) "outer"=some none)
  (aL:findIn K (.ref aA) "lets_in"=some (some (.ref gQ)))
  (aI:findIn K (.ref aA) "looked_at"=some (some (.ref gR)))
  (aW:findIn K (.ref aA) "reads"=some (some (.ref gS)))
  (dF:findIn K (.ref aA) "__class__"=some (some (.builtin "object.__class__")))
  (dG:mroIn K aA (.type "object")=some true)
  (eL:plainGet K aD Str.empty=true)
  (eM:hasDictIn K aD=true)
  (eN:plainOver K aD=true)
  (eO:findIn K (.ref aD) "__setattr__"=some (some (.builtin "object.__setattr__")))
  (eP:makesIn K aD=true)
  (eQ:keepIn K (.ref aD)=true)
  (eR:findIn K (.ref aD) "__init__"=some (some (.ref gG)))
  (bO:findIn K (.ref aD) "name"=some none)
  (bP:findIn K (.ref aD) "axes"=some none)
  (bQ:findIn K (.ref aD) "sums"=some none)
  (bR:findIn K (.ref aD) "term"=some none)
  (eS:findIn K (.ref aD) "__class__"=some (some (.builtin "object.__class__")))
  (eT:mroIn K aD (.type "object")=some true)
  (bS:mroIn K aD (.type "list")=some false)
  (bF:mroIn K aD (.type "tuple")=some false)
  (bT:mroIn K aD (.type "dict")=some false)
  (dH:plainGet K aG Str.empty=true)
  (dI:hasDictIn K aG=true)
  (dJ:plainOver K aG=true)
  (dK:findIn K (.ref aG) "__setattr__"=some (some (.builtin "object.__setattr__")))
  (dL:makesIn K aG=true)
  (dM:keepIn K (.ref aG)=true)
  (dN:findIn K (.ref aG) "__init__"=some (some (.ref gB)))
  (bG:findIn K (.ref aG) "left"=some none)
  (aX:findIn K (.ref aG) "right"=some none)
  (aY:findIn K (.ref aG) "reads"=some (some (.ref gC)))
  (dO:findIn K (.ref aG) "__class__"=some (some (.builtin "object.__class__")))
  (dP:mroIn K aG (.type "object")=some true)
  (bZ:plainGet K aB Str.empty=true)
  (cA:hasDictIn K aB=true)
  (cB:plainOver K aB=true)
  (cC:findIn K (.ref aB) "__setattr__"=some (some (.builtin "object.__setattr__")))
  (cD:makesIn K aB=true)
  (cE:keepIn K (.ref aB)=true)
  (cF:findIn K (.ref aB) "__init__"=some (some (.ref gI)))
  (aM:findIn K (.ref aB) "number"=some none)
  (aP:findIn K (.ref aB) "reads"=some (some (.ref gJ)))
  (cG:findIn K (.ref aB) "__class__"=some (some (.builtin "object.__class__")))
  (cH:mroIn K aB (.type "object")=some true)
  (dQ:plainGet K aE Str.empty=true)
  (dR:hasDictIn K aE=true)
  (dS:plainOver K aE=true)
  (dT:findIn K (.ref aE) "__setattr__"=some (some (.builtin "object.__setattr__")))
  (dU:makesIn K aE=true)
  (dV:keepIn K (.ref aE)=true)
  (dW:findIn K (.ref aE) "__init__"=some (some (.ref gK)))
  (bH:findIn K (.ref aE) "axis"=some none)
  (aZ:findIn K (.ref aE) "reads"=some (some (.ref gL)))
  (dX:findIn K (.ref aE) "__class__"=some (some (.builtin "object.__class__")))
  (dY:mroIn K aE (.type "object")=some true)
  (eU:plainGet K aJ Str.empty=true)
  (eV:hasDictIn K aJ=true)
  (eW:plainOver K aJ=true)
  (eX:findIn K (.ref aJ) "__setattr__"=some (some (.builtin "object.__setattr__")))
  (eY:makesIn K aJ=true)
  (eZ:keepIn K (.ref aJ)=true)
  (fA:findIn K (.ref aJ) "__init__"=some (some (.ref gB)))
  (bU:findIn K (.ref aJ) "left"=some none)
  (bI:findIn K (.ref aJ) "right"=some none)
  (bJ:findIn K (.ref aJ) "reads"=some (some (.ref gC)))
  (fB:findIn K (.ref aJ) "__class__"=some (some (.builtin "object.__class__")))
  (fC:mroIn K aJ (.type "object")=some true)
  (fD:plainGet K aF Str.empty=true)
  (fE:hasDictIn K aF=true)
  (fF:plainOver K aF=true)
  (fG:findIn K (.ref aF) "__setattr__"=some (some (.builtin "object.__setattr__")))
  (fH:makesIn K aF=true)
  (fI:keepIn K (.ref aF)=true)
  (fJ:findIn K (.ref aF) "__init__"=some (some (.ref gM)))
  (bK:findIn K (.ref aF) "array"=some none)
  (aQ:findIn K (.ref aF) "indexes"=some none)
  (aR:findIn K (.ref aF) "cell_at"=some (some (.ref gN)))
  (bL:findIn K (.ref aF) "reads"=some (some (.ref gO)))
  (fK:findIn K (.ref aF) "__class__"=some (some (.builtin "object.__class__")))
  (fL:mroIn K aF (.type "object")=some true)
  (dZ:plainGet K aH Str.empty=true)
  (eA:hasDictIn K aH=true)
  (eB:plainOver K aH=true)
  (eC:findIn K (.ref aH) "__setattr__"=some (some (.builtin "object.__setattr__")))
  (eD:makesIn K aH=true)
  (eE:keepIn K (.ref aH)=true)
  (eF:findIn K (.ref aH) "__init__"=some (some (.ref gB)))
  (bM:findIn K (.ref aH) "left"=some none)
  (bA:findIn K (.ref aH) "right"=some none)
  (bB:findIn K (.ref aH) "reads"=some (some (.ref gC)))
  (eG:findIn K (.ref aH) "__class__"=some (some (.builtin "object.__class__")))
  (eH:mroIn K aH (.type "object")=some true)
  (fM:nsIn K mainGlobals "range"=some none)
  (bV:nsIn K mainGlobals "isinstance"=some none)
  (fP:nsIn K mainGlobals "list"=some none)
  (fN:nsIn K mainGlobals "tuple"=some none)
  (fQ:nsIn K mainGlobals "dict"=some none)
  (bW:nsIn K mainGlobals "enumerate"=some none)
  (fU:nsIn K mainGlobals "len"=some none)
  (fV:nsIn K mainGlobals "zip"=some none)
  (bX:nsIn K mainGlobals "reversed"=some none)
  (fW:nsIn K mainGlobals "min"=some none)
  (fX:nsIn K mainGlobals "max"=some none)
  (fY:nsIn K mainGlobals "sum"=some none)
  (fR:nsIn K mainGlobals "bool"=some none)
  (fZ:nsIn K mainGlobals "int"=some none)
  :∃fd:FuncData,(∀(s:Shared) (v:Value),BindsTo s fd ⟨[v],[]⟩ [("_law_script",v)])/\∀base:Heap,K.In base->base.Ns mainGlobals mg->A4q l.prog w K mg base CX0 19 fa fd ["_law_script"] (D3a K):=by
 have e:=hfa.symm.trans (Z0f X G gT);cases e;obtain ⟨d0,F0,b0,k0⟩:=A2d (ps:=["lengths"]) l0 (by walk_at "le");obtain ⟨d1,F1,b1,k1⟩:=A2d (ps:=["cells","length"]) l1 (by walk_at "le");obtain ⟨d2,F2,b2,k2⟩:=A2d (ps:=C4j) l2 (by walk_at "le");obtain ⟨d3,F3,b3,k3⟩:=A2d (ps:=C4j) l3 (by walk_at "le");obtain ⟨d4,F4,b4,k4⟩:=A2d (ps:=D8e) l4 (by walk_at "le");obtain ⟨d5,F5,b5,k5⟩:=A2d (ps:=D8e) l5 (by walk_at "le");obtain ⟨d6,F6,b6,k6⟩:=A2d (ps:=["cloth"]) l6 (by walk_at "le");obtain ⟨d7,F7,b7,k7⟩:=A2d (ps:=E4a) l7 (by walk_at "le");obtain ⟨d8,F8,b8,k8⟩:=A2d (ps:=D8h) l8 (by walk_at "le");obtain ⟨d9,F9,b9,k9⟩:=A2d (ps:=D8h) l9 (by walk_at "le");obtain ⟨d10,F10,b10,k10⟩:=A2d (ps:=["cloth"]) gV (by walk_at "le");obtain ⟨d11,F11,b11,k11⟩:=A2d (ps:=["cloth"]) gX (by walk_at "le");obtain ⟨d12,F12,b12,k12⟩:=A2d (ps:=["cloth","found"]) gZ (by walk_at "le");obtain ⟨d13,F13,b13,k13⟩:=A2d (ps:=D8g) hB (by walk_at "le");obtain ⟨d14,F14,b14,k14⟩:=A2d (ps:=D8g) hD (by walk_at "le");obtain ⟨d15,F15,b15,k15⟩:=A2d (ps:=["cloth","steps","wanted"]) hF (by walk_at "le");obtain ⟨d16,F16,b16,k16⟩:=A2d (ps:=E3e) hG (by walk_at "le");obtain ⟨d17,F17,b17,k17⟩:=A2d (ps:=E3v) hI (by walk_at "le");obtain ⟨d18,F18,b18,k18⟩:=A2d (ps:=["self","number"]) hK (by walk_at "le");obtain ⟨d19,F19,b19,k19⟩:=A2d (ps:=B5n) hM (by walk_at "le");obtain ⟨d20,F20,b20,k20⟩:=A2d (ps:=["self","axis"]) hP (by walk_at "le");obtain ⟨d21,F21,b21,k21⟩:=A2d (ps:=B5n) hR (by walk_at "le");obtain ⟨d22,F22,b22,k22⟩:=A2d (ps:=E3f) hU (by walk_at "le");obtain ⟨d23,F23,b23,k23⟩:=A2d (ps:=D2h) hW (by walk_at "le");obtain ⟨d24,F24,b24,k24⟩:=A2d (ps:=B5n) hZ (by walk_at "le");obtain ⟨d25,F25,b25,k25⟩:=A2d (ps:=D6t) iC (by walk_at "le");obtain ⟨d26,F26,b26,k26⟩:=A2d (ps:=D7m) iD (by walk_at "le");obtain ⟨d27,F27,b27,k27⟩:=A2d (ps:=B5n) iE (by walk_at "le");obtain ⟨d28,F28,b28,k28⟩:=A2d (ps:=D6r) iF (by walk_at "le");obtain ⟨d29,F29,b29,k29⟩:=A2d (ps:=D2h) iH (by walk_at "le");obtain ⟨d30,F30,b30,k30⟩:=A2d (ps:=D2h) iJ (by walk_at "le");obtain ⟨d31,F31,b31,k31⟩:=A2d (ps:=B5n) iL (by walk_at "le");obtain ⟨d32,F32,b32,k32⟩:=A2d (ps:=["_law_rest"]) iO (by walk_at "le");obtain ⟨d33,F33,b33,k33⟩:=A2d (ps:=D6v) iQ (by walk_at "le");obtain ⟨d34,F34,b34,k34⟩:=A2d (ps:=C6i) iS (by walk_at "le");obtain ⟨d35,F35,b35,k35⟩:=A2d (ps:=C6i) iU (by walk_at "le");obtain ⟨d36,F36,b36,k36⟩:=A2d (ps:=D6e) iW (by walk_at "le");obtain ⟨d37,F37,b37,k37⟩:=A2d (ps:=C5b) iY (by walk_at "le");obtain ⟨d38,F38,b38,k38⟩:=A2d (ps:=B9b) jA (by walk_at "le");obtain ⟨d39,F39,b39,k39⟩:=A2d (ps:=B9b) jC (by walk_at "le");obtain ⟨d40,F40,b40,k40⟩:=A2d (ps:=D2q) jE (by walk_at "le");obtain ⟨d41,F41,b41,k41⟩:=A2d (ps:=D6u) jG (by walk_at "le");obtain ⟨d42,F42,b42,k42⟩:=A2d (ps:=D5b) jI (by walk_at "le");obtain ⟨d43,F43,b43,k43⟩:=A2d (ps:=D5x) jK (by walk_at "le");obtain ⟨d44,F44,b44,k44⟩:=A2d (ps:=C6v) jM (by walk_at "le");obtain ⟨d45,F45,b45,k45⟩:=A2d (ps:=C6v) jO (by walk_at "le");obtain ⟨d46,F46,b46,k46⟩:=A2d (ps:=D7h) jQ (by walk_at "le");obtain ⟨d47,F47,b47,k47⟩:=A2d (ps:=D7o) jS (by walk_at "le");obtain ⟨d48,F48,b48,k48⟩:=A2d (ps:=D4x) jU (by walk_at "le");obtain ⟨d49,F49,b49,k49⟩:=A2d (ps:=D5y) jW (by walk_at "le");obtain ⟨d50,F50,b50,k50⟩:=A2d (ps:=D6a) jY (by walk_at "le");obtain ⟨d51,F51,b51,k51⟩:=A2d (ps:=D7g) kA (by walk_at "le");obtain ⟨d52,F52,b52,k52⟩:=A2d (ps:=D6o) kC (by walk_at "le");obtain ⟨_,_,_,_,_,_,_,_,_,gF,c,k53⟩:=gF;have F53:=D4f (st:=D1p) gF c k53;have b53:=F53.binds (ps:=["_law_script"]) (by walk_at "le");exact ⟨_,λs v=> .of_eq rfl,λbase _ _=>E0j (t:=⟨aD,aC,gA,aB,aE,aF,fO,aJ,aG,aH,aA,f0,_,f1,_,f2,_,f3,_,f4,_,f5,_,f6,_,f7,_,f8,_,f9,_,kD,_,kE,_,kF,_,kG,_,kH,_,kI,_,gG,_,gH,_,gI,_,gJ,_,gK,_,gL,_,gM,_,gN,_,gO,_,kJ,_,gB,_,gC,_,gP,_,gQ,_,gR,_,gS,_,kK,_,kL,_,kM,_,kN,_,kO,_,kP,_,kQ,_,kR,_,kS,_,kT,_,kU,_,kV,_,kW,_,kX,_,kY,_,kZ,_,lA,_,lB,_,lC,_,lD,_,lE,_,fa,_⟩) ⟨⟨F0,Z0f X G a0,b0⟩,⟨F1,Z0f X G a1,b1⟩,⟨F2,Z0f X G a2,b2⟩,⟨F3,Z0f X G a3,b3⟩,⟨F4,Z0f X G a4,b4⟩,⟨F5,Z0f X G a5,b5⟩,⟨F6,Z0f X G a6,b6⟩,⟨F7,Z0f X G a7,b7⟩,⟨F8,Z0f X G a8,b8⟩,⟨F9,Z0f X G a9,b9⟩,⟨F10,Z0f X G gU,b10⟩,⟨F11,Z0f X G gW,b11⟩,⟨F12,Z0f X G gY,b12⟩,⟨F13,Z0f X G hA,b13⟩,⟨F14,Z0f X G hC,b14⟩,⟨F15,Z0f X G hE,b15⟩,⟨F16,b16⟩,⟨F17,b17⟩,⟨F18,b18⟩,⟨F19,b19⟩,⟨F20,b20⟩,⟨F21,b21⟩,⟨F22,b22⟩,⟨F23,b23⟩,⟨F24,b24⟩,⟨F25,Z0f X G iB,b25⟩,⟨F26,b26⟩,⟨F27,b27⟩,⟨F28,b28⟩,⟨F29,b29⟩,⟨F30,b30⟩,⟨F31,b31⟩,⟨F32,Z0f X G iN,b32⟩,⟨F33,Z0f X G iP,b33⟩,⟨F34,Z0f X G iR,b34⟩,⟨F35,Z0f X G iT,b35⟩,⟨F36,Z0f X G iV,b36⟩,⟨F37,Z0f X G iX,b37⟩,⟨F38,Z0f X G iZ,b38⟩,⟨F39,Z0f X G jB,b39⟩,⟨F40,Z0f X G jD,b40⟩,⟨F41,Z0f X G jF,b41⟩,⟨F42,Z0f X G jH,b42⟩,⟨F43,Z0f X G jJ,b43⟩,⟨F44,Z0f X G jL,b44⟩,⟨F45,Z0f X G jN,b45⟩,⟨F46,Z0f X G jP,b46⟩,⟨F47,Z0f X G jR,b47⟩,⟨F48,Z0f X G jT,b48⟩,⟨F49,Z0f X G jV,b49⟩,⟨F50,Z0f X G jX,b50⟩,⟨F51,Z0f X G jZ,b51⟩,⟨F52,Z0f X G kB,b52⟩,⟨F53,Z0f X G gT,b53⟩,Z0f X G eI,Z0f X G cI,Z0f X G bY,Z0f X G cJ,Z0f X G eJ,Z0f X G eK,Z0f X G cK,Z0f X G cL,Z0f X G cM,⟨cN,cO,cP,cQ⟩,⟨cR,cT,hJ,cS⟩,aS,aK,aN,aO,aT,bC,⟨cU,cV,cW,cX⟩,⟨cY,cZ,dA,dB⟩,⟨dC,dE,iG,dD⟩,bD,bN,bE,aU,aV,⟨aL,iI,k29⟩,⟨aI,iK,k30⟩,⟨aW,iM,k31⟩,⟨dF,cV,cW,dG⟩,⟨eL,eM,eN,eO⟩,⟨eP,eR,hH,eQ⟩,bO,bP,bQ,bR,⟨eS,cV,cW,eT⟩,bS,bF,bT,⟨dH,dI,dJ,dK⟩,⟨dL,dN,gD,dM⟩,bG,aX,⟨aY,gE,k27⟩,⟨dO,cV,cW,dP⟩,⟨bZ,cA,cB,cC⟩,⟨cD,cF,hL,cE⟩,aM,⟨aP,hN,k19⟩,⟨cG,cV,cW,cH⟩,⟨dQ,dR,dS,dT⟩,⟨dU,dW,hQ,dV⟩,bH,⟨aZ,hT,k21⟩,⟨dX,cV,cW,dY⟩,⟨eU,eV,eW,eX⟩,⟨eY,fA,gD,eZ⟩,bU,bI,⟨bJ,gE,k27⟩,⟨fB,cV,cW,fC⟩,⟨fD,fE,fF,fG⟩,⟨fH,fJ,hV,fI⟩,bK,aQ,⟨aR,hX,k23⟩,⟨bL,iA,k24⟩,⟨fK,cV,cW,fL⟩,⟨dZ,eA,eB,eC⟩,⟨eD,eF,gD,eE⟩,bM,bA,⟨bB,gE,k27⟩,⟨eG,cV,cW,eH⟩,Z1c X G fM,Z1c X G bV,Z1c X G fP,Z1c X G fN,Z1c X G fQ,Z1c X G bW,Z1c X G fU,Z1c X G fV,Z1c X G bX,Z1c X G fW,Z1c X G fX,Z1c X G fY,Z1c X G fR,Z1c X G fZ⟩⟩
theorem walk {q:Program} {loose:List Str} {YP:World->Heap->Prop} {d:DefRec} {K:Params->Frag} (hn:l.most=some 63) (hdf:d.params.defaults=[])
  (hY:∀(w:World) (h:Heap),YP w h->(K w.params).In h)
  (F:∀(w:World) (mg:Str->Option Value) (fa:Addr) (h:Heap),(K w.params).In h->h.Ns mainGlobals mg->mg d.name=some (.ref fa)->
   ∃fd:FuncData,(∀(s:Shared) (u:Value),BindsTo s fd ⟨[u],[]⟩ [("_law_script",u)])/\∀base:Heap,(K w.params).In base->base.Ns mainGlobals mg->A4q l.prog w (K w.params) mg base CX0 19 fa fd ["_law_script"] (D3a (K w.params))) :
  PySem.W.WalkO q loose XP YP l.row.toRowW d [] (λf vs=>PySem.call f vs) :=
 L2.D5d (n:=63) (k:=19) (x:="_law_script") (CX:=λ_=>CX0) (sp:=λw=>D3a (K w.params)) hn (by decide) hdf ⟨rfl,by decide,by decide,rfl⟩ hY F (λ_ _ a ns hl hO hS=>⟨a,ns,rfl,ScF.mk hO hS,hl,λ_=>rfl⟩) λ_ _ _ _ _ z=>z
end My
local macro_rules | `(tactic| walk_at "kf") => `(tactic| (refine' My.D9m ?l ?c ?k; (case l => k_is); (case c => k_is); (case k => k_is)))
open PySem PySem.W PyProof.Rows
set_option maxRecDepth 100000 in
set_option maxHeartbeats 0 in
theorem PySem.Challenge.cw_arrayloom_k62_lives_holds : PySem.Challenge.rw_arrayloom_k62_lives.Holds := by
 w_on;o_law;k_head;(case hw=>w_witness2)
 k_fill
 refine My.walk (l:=PySem.Challenge.rw_arrayloom_k62_lives) rfl rfl (λw h Y=>PySem.W.kIn_of Y) ?F
 case F =>
  intro w mg fa h KX G hmg;refine' My.E0e KX G hmg ?eI ?cI ?fS ?bY ?cJ ?eJ ?fT ?eK ?cK ?cL ?cM ?a0 ?l0 ?a1 ?l1 ?a2 ?l2 ?a3 ?l3 ?a4 ?l4 ?a5 ?l5 ?a6 ?l6 ?a7 ?l7 ?a8 ?l8 ?a9 ?l9 ?gU ?gV ?gW ?gX ?gY ?gZ ?hA ?hB ?hC ?hD ?hE ?hF ?lF ?hG ?hH ?lG ?hI ?hJ ?lH ?hK ?hL ?lI ?hM ?hN ?lJ ?hP ?hQ ?lK ?hR ?hT ?lL ?hU ?hV ?lM ?hW ?hX ?lN ?hZ ?iA ?iB ?iC ?lO ?iD ?gD ?lP ?iE ?gE ?lQ ?iF ?iG ?lR ?iH ?iI ?lS ?iJ ?iK ?lT ?iL ?iM ?iN ?iO ?iP ?iQ ?iR ?iS ?iT ?iU ?iV ?iW ?iX ?iY ?iZ ?jA ?jB ?jC ?jD ?jE ?jF ?jG ?jH ?jI ?jJ ?jK ?jL ?jM ?jN ?jO ?jP ?jQ ?jR ?jS ?jT ?jU ?jV ?jW ?jX ?jY ?jZ ?kA ?kB ?kC ?gT ?gF ?cN ?cO ?cP ?cQ ?cR ?cS ?cT ?aS ?aK ?aN ?aO ?aT ?bC ?cU ?cV ?cW ?cX ?cY ?cZ ?dA ?dB ?dC ?dD ?dE ?bD ?bN ?bE ?aU ?aV ?aL ?aI ?aW ?dF ?dG ?eL ?eM ?eN ?eO ?eP ?eQ ?eR ?bO ?bP ?bQ ?bR ?eS ?eT ?bS ?bF ?bT ?dH ?dI ?dJ ?dK ?dL ?dM ?dN ?bG ?aX ?aY ?dO ?dP ?bZ ?cA ?cB ?cC ?cD ?cE ?cF ?aM ?aP ?cG ?cH ?dQ ?dR ?dS ?dT ?dU ?dV ?dW ?bH ?aZ ?dX ?dY ?eU ?eV ?eW ?eX ?eY ?eZ ?fA ?bU ?bI ?bJ ?fB ?fC ?fD ?fE ?fF ?fG ?fH ?fI ?fJ ?bK ?aQ ?aR ?bL ?fK ?fL ?dZ ?eA ?eB ?eC ?eD ?eE ?eF ?bM ?bA ?bB ?eG ?eH ?fM ?bV ?fP ?fN ?fQ ?bW ?fU ?fV ?bX ?fW ?fX ?fY ?fR ?fZ
  (case eI | cI | fS | bY | cJ | eJ | fT | eK | cK | cL | cM=>k_is)
  (case a0=>k_is);(case l0=>walk_at "kf")
  (case a1=>k_is);(case l1=>walk_at "kf")
  (case a2=>k_is);(case l2=>walk_at "kf")
  (case a3=>k_is);(case l3=>walk_at "kf")
  (case a4=>k_is);(case l4=>walk_at "kf")
  (case a5=>k_is);(case l5=>walk_at "kf")
  (case a6=>k_is);(case l6=>walk_at "kf")
  (case a7=>k_is);(case l7=>walk_at "kf")
  (case a8=>k_is);(case l8=>walk_at "kf")
  (case a9=>k_is);(case l9=>walk_at "kf")
  (case gU=>k_is);(case gV=>walk_at "kf")
  (case gW=>k_is);(case gX=>walk_at "kf")
  (case gY=>k_is);(case gZ=>walk_at "kf")
  (case hA=>k_is);(case hB=>walk_at "kf")
  (case hC=>k_is);(case hD=>walk_at "kf")
  (case hE=>k_is);(case hF=>walk_at "kf")
  (case lF=>k_is);(case hG=>walk_at "kf")
  (case hH=>k_is)
  (case lG=>k_is);(case hI=>walk_at "kf")
  (case hJ=>k_is)
  (case lH=>k_is);(case hK=>walk_at "kf")
  (case hL=>k_is)
  (case lI=>k_is);(case hM=>walk_at "kf")
  (case hN=>k_is)
  (case lJ=>k_is);(case hP=>walk_at "kf")
  (case hQ=>k_is)
  (case lK=>k_is);(case hR=>walk_at "kf")
  (case hT=>k_is)
  (case lL=>k_is);(case hU=>walk_at "kf")
  (case hV=>k_is)
  (case lM=>k_is);(case hW=>walk_at "kf")
  (case hX=>k_is)
  (case lN=>k_is);(case hZ=>walk_at "kf")
  (case iA=>k_is)
  (case iB=>k_is);(case iC=>walk_at "kf")
  (case lO=>k_is);(case iD=>walk_at "kf")
  (case gD=>k_is)
  (case lP=>k_is);(case iE=>walk_at "kf")
  (case gE=>k_is)
  (case lQ=>k_is);(case iF=>walk_at "kf")
  (case iG=>k_is)
  (case lR=>k_is);(case iH=>walk_at "kf")
  (case iI=>k_is)
  (case lS=>k_is);(case iJ=>walk_at "kf")
  (case iK=>k_is)
  (case lT=>k_is);(case iL=>walk_at "kf")
  (case iM=>k_is)
  (case iN=>k_is);(case iO=>walk_at "kf")
  (case iP=>k_is);(case iQ=>walk_at "kf")
  (case iR=>k_is);(case iS=>walk_at "kf")
  (case iT=>k_is);(case iU=>walk_at "kf")
  (case iV=>k_is);(case iW=>walk_at "kf")
  (case iX=>k_is);(case iY=>walk_at "kf")
  (case iZ=>k_is);(case jA=>walk_at "kf")
  (case jB=>k_is);(case jC=>walk_at "kf")
  (case jD=>k_is);(case jE=>walk_at "kf")
  (case jF=>k_is);(case jG=>walk_at "kf")
  (case jH=>k_is);(case jI=>walk_at "kf")
  (case jJ=>k_is);(case jK=>walk_at "kf")
  (case jL=>k_is);(case jM=>walk_at "kf")
  (case jN=>k_is);(case jO=>walk_at "kf")
  (case jP=>k_is);(case jQ=>walk_at "kf")
  (case jR=>k_is);(case jS=>walk_at "kf")
  (case jT=>k_is);(case jU=>walk_at "kf")
  (case jV=>k_is);(case jW=>walk_at "kf")
  (case jX=>k_is);(case jY=>walk_at "kf")
  (case jZ=>k_is);(case kA=>walk_at "kf")
  (case kB=>k_is);(case kC=>walk_at "kf")
  (case gT=>k_is);(case gF=>walk_at "kf")
  (case cN | cO | cP | cQ | cR | cS | cT | aS | aK | aN | aO=>k_is)
  (case aT | bC | cU | cV | cW | cX | cY | cZ | dA | dB | dC=>k_is)
  (case dD | dE | bD | bN | bE | aU | aV | aL | aI | aW | dF=>k_is)
  (case dG | eL | eM | eN | eO | eP | eQ | eR | bO | bP | bQ=>k_is)
  (case bR | eS | eT | bS | bF | bT | dH | dI | dJ | dK | dL=>k_is)
  (case dM | dN | bG | aX | aY | dO | dP | bZ | cA | cB | cC=>k_is)
  (case cD | cE | cF | aM | aP | cG | cH | dQ | dR | dS | dT=>k_is)
  (case dU | dV | dW | bH | aZ | dX | dY | eU | eV | eW | eX=>k_is)
  (case eY | eZ | fA | bU | bI | bJ | fB | fC | fD | fE | fF=>k_is)
  (case fG | fH | fI | fJ | bK | aQ | aR | bL | fK | fL | dZ=>k_is)
  (case eA | eB | eC | eD | eE | eF | bM | bA | bB | eG | eH=>k_is)
  (case fM | bV | fP | fN | fQ | bW | fU | fV | bX | fW | fX=>k_is)
  (case fY | fR | fZ=>k_is)
