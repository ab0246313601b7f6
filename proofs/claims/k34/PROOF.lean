import PyProof.Rows.All
import Wide.All
import OpenK.AllK
import Wide.FinOn
import Lean
import PyProof.EqAt
import PyProof.EqKinds
import PyProof.TupleCall
import KE.KDictLaws
import KE.KDictList
import KE.KDictOf
import KE.KEqDict
import KE.KIntText
import KE.KTabLook
import KE.KTryMore
import KE.KUnpack
import PyProof.AttrMissHeap
import PyProof.AutoListH
import PyProof.CollectWalk
import PyProof.CompUse
import PyProof.ConsumeWalk
import PyProof.Conv_int_bool
import PyProof.DictItems
import PyProof.DictValues
import PyProof.DictWalks
import PyProof.Draws
import PyProof.EnumFor
import PyProof.EnumMake
import PyProof.EnumStmt
import PyProof.ExcClass3
import PyProof.ExcInit
import PyProof.FString4
import PyProof.FString5
import PyProof.FactsAll.list_3
import PyProof.FactsAll.set
import PyProof.FactsAll.subtypes_5
import PyProof.FactsAll.zip
import PyProof.NeKinds
import PyProof.P3Eq
import PyProof.RangeIter
import PyProof.ReprHeads
import PyProof.ReprLen
import PyProof.Rows.SeqMore2
import PyProof.Rows.SetFrom
import PyProof.Rows.SortKeyStr
import PyProof.Rows.SortRev
import PyProof.Rows.StrInSeq3
import PyProof.Rows.StrNews
import PyProof.Rows.StrNews2
import PyProof.Rows.TupIter
import PyProof.SetKind
import PyProof.SetRoads
import PyProof.StrLawsLast
import PyProof.StrLawsRepr
import PyProof.StrLawsTight
import PyProof.StrWalks
import PyProof.SumAny
import PyProof.TupleKey
import PyProof.WalkInts
import PyProof.Walks
import PySem.Challenge.RW_arrayloom_k34_whole_lines_mean_the_lets
set_option compiler.extract_closed false
section
open PySem PySem.Spec PyProof.Rows PySem.Calls
abbrev Z00:=@wpAny_bind
abbrev Z01:=@Heap.get?_push_of_some
abbrev Z02:=@List.mem_append_right
abbrev Z03:=@List.getElem?_eq_some_iff
abbrev Z04:=@wpAny_pure
abbrev Z05:=@List.mem_append_left
abbrev Z06:=@List.length_append
abbrev Z07:=@List.mem_append
abbrev Z08:=@List.length_map
abbrev Z09:=@Nat.le_refl
abbrev Z0a:=@Heap.lt_size
abbrev Z0b:=@List.getElem?_eq_getElem
abbrev Z0c:=@Heap.get?_push_size
abbrev Z0d:=@PyProof.Rows.boot_isinstance
abbrev Z0e:=@List.mem_cons
abbrev Z0f:=@PySem.W.mg_of
abbrev Z0g:=@List.size_toArray
abbrev Z0h:=@Nat.ne_of_lt
abbrev Z0i:=@Option.map_eq_some_iff
abbrev Z0j:=@List.length_singleton
abbrev Z0k:=@PySem.F.plainAttrs_list
abbrev Z0l:=@List.nodup_append
abbrev Z0m:=@PyProof.Rows.boot_tuple
abbrev Z0n:=@PySem.F.slot_list_append
abbrev Z0o:=@PySem.F.type_list_append
abbrev Z0p:=@List.map_cons
abbrev Z0q:=@Nat.lt_of_lt_of_le
abbrev Z0r:=@PySem.boot_len
abbrev Z0s:=@List.map_append
abbrev Z0t:=@if_neg
abbrev Z0u:=@List.append_nil
abbrev Z0v:=@Bool.false_ne_true
abbrev Z0w:=@List.mem_singleton
abbrev Z0x:=@List.length_take
abbrev Z0y:=@List.length_cons
abbrev Z0z:=@List.append_assoc
abbrev Z10:=@wpAny_mono
abbrev Z11:=@wpAny_field
abbrev Z12:=@if_pos
abbrev Z13:=@List.mem_of_getElem?
abbrev Z14:=@List.take_add_one
abbrev Z15:=@List.nodup_cons
abbrev Z16:=@wpAny_newObj_type
abbrev Z18:=@List.take_length
abbrev Z1a:=@Option.some.inj
abbrev Z1b:=@wpAny_callSpecial?_slot
abbrev Z1c:=@PySem.W.mg_none_of
abbrev Z1e:=@Nat.zero_le
abbrev Z1f:=@List.mem_cons_of_mem
abbrev Z1g:=@wpAny_call_entry
abbrev Z1h:=@wpAny_setField_rec
abbrev Z1j:=@decide_eq_false
abbrev Z1l:=@List.getElem?_append_right
abbrev Z1n:=@Nat.le_trans
abbrev Z1o:=@PyProof.Rows.boot_list
abbrev Z1p:=@Int.emod_lt_of_pos
abbrev Z1q:=@Nat.ne_of_gt
abbrev Z1s:=@Heap.size_push
abbrev Z1t:=@wpAny_setField
abbrev Z1u:=@List.drop_eq_getElem_cons
abbrev Z1v:=@Int.emod_nonneg
abbrev Z1w:=@wpAny_holding
abbrev Z1x:=@Bool.and_eq_true
abbrev Z1y:=@wpAny_standAt
abbrev Z1z:=@List.getElem?_map
abbrev Z20:=@decide_eq_true
abbrev Z21:=@wpAny_seqItems
abbrev Z22:=@beq_eq_false_iff_ne
abbrev Z23:=@List.getElem?_set_self
abbrev Z26:=@List.getElem?_append_left
abbrev Z27:=@List.mem_cons_self
abbrev Z28:=@List.lookup_cons
abbrev Z29:=@Int.mul_le_mul_of_nonneg_left
abbrev Z2a:=@List.getElem?_set_ne
abbrev Z2b:=@wpAny_execs_nil
abbrev Z2c:=@List.mem_map
abbrev Z2d:=@Nat.lt_of_le_of_lt
abbrev Z2e:=@List.take_append_drop
abbrev Z2f:=@Option.toList_some
abbrev Z2g:=@List.length_nil
abbrev Z2h:=@List.find?_cons
abbrev Z2i:=@List.drop_length
abbrev Z2m:=@List.getElem?_zip_eq_some
abbrev Z2o:=@List.take_sublist
abbrev Z2p:=@List.mem_of_mem_take
abbrev Z2q:=@PyProof.Rows.boot_dict
end
noncomputable section
open PySem.W (Frag findIn nsIn mroIn kitOne keepIn typeIn hideAll isFn plainGet isClsIn hasDictIn exmOne plainOver makesIn clsIn fnOf emptyDict instObj excIn kitAny takesIn specialIn subIn codeIn)
set_option Elab.async false
set_option bootstrap.genMatcherCode false
set_option linter.all false
set_option maxRecDepth 100000
set_option maxHeartbeats 4000000
section
variable {G:Prop} {T0 T1 T2 T3 T4 T5 T6 T7 T8 T9 T10:Sort _} {A0 A1 A2 A3 A4 A5:Prop} {B0 B1 B2 B3:T0->Prop} {C0 C1 C2 C3 C4 C5:T0->T1->Prop} {D0 D1 D2 D3 D4:T0->T1->T2->Prop} {E0 E1 E2 E3 E4 E5:T0->T1->T2->T3->Prop} {F0 F1 F2 F3 F4 F5:T0->T1->T2->T3->T4->Prop} {G0 G1 G2 G3 G4 G5 G6 G7:T0->T1->T2->T3->T4->T5->Prop} {I0:T0->T1->T2->T3->T4->T5->T6->T7->Prop} {J0:T0->T1->T2->T3->T4->T5->T6->T7->T8->Prop} {L0:T0->T1->T2->T3->T4->T5->T6->T7->T8->T9->T10->Prop}
theorem i00:A0->A1->A2->A0/\A1/\A2:=λm n i=>⟨m,n,i⟩
theorem i01:A0->∀x,B0 x->A0/\∃x,B0 x:=λm x n=>⟨m,x,n⟩
theorem i02:∀x,B0 x->B1 x->∃x,B0 x/\B1 x:=λx m n=>⟨x,m,n⟩
theorem i03:∀x y,C0 x y->∃x y,C0 x y:=λx y m=>⟨x,y,m⟩
theorem i04:A0->A1->A2->A3->A0/\A1/\A2/\A3:=λm n i j=>⟨m,n,i,j⟩
theorem i05:A0->∀x,B0 x->B1 x->A0/\∃x,B0 x/\B1 x:=λm x n i=>⟨m,x,n,i⟩
theorem i06:∀x,B0 x->B1 x->B2 x->∃x,B0 x/\B1 x/\B2 x:=λx m n i=>⟨x,m,n,i⟩
theorem i07:∀x y,C0 x y->C1 x y->∃x y,C0 x y/\C1 x y:=λx y m n=>⟨x,y,m,n⟩
theorem i08:∀x y z,D0 x y z->∃x y z,D0 x y z:=λx y z m=>⟨x,y,z,m⟩
theorem i09:A0->A1->A2->A3->A4->A0/\A1/\A2/\A3/\A4:=λm n i j k=>⟨m,n,i,j,k⟩
theorem i0a:A0->A1->∀x,B0 x->B1 x->A0/\A1/\∃x,B0 x/\B1 x:=λm n x i j=>⟨m,n,x,i,j⟩
theorem i0b:A0->∀x y,C0 x y->C1 x y->A0/\∃x y,C0 x y/\C1 x y:=λm x y n i=>⟨m,x,y,n,i⟩
theorem i0c:∀x,B0 x->B1 x->B2 x->B3 x->∃x,B0 x/\B1 x/\B2 x/\B3 x:=λx m n i j=>⟨x,m,n,i,j⟩
theorem i0d:∀x,B0 x->B1 x->∀y,C0 x y->∃x,B0 x/\B1 x/\∃y,C0 x y:=λx m n y i=>⟨x,m,n,y,i⟩
theorem i0e:∀x,B0 x->∀y,C0 x y->C1 x y->∃x,B0 x/\∃y,C0 x y/\C1 x y:=λx m y n i=>⟨x,m,y,n,i⟩
theorem i0f:∀x y,C0 x y->C1 x y->C2 x y->∃x y,C0 x y/\C1 x y/\C2 x y:=λx y m n i=>⟨x,y,m,n,i⟩
theorem i0g:∀x y z,D0 x y z->D1 x y z->∃x y z,D0 x y z/\D1 x y z:=λx y z m n=>⟨x,y,z,m,n⟩
theorem i0h:A0->A1->A2->A3->A4->A5->A0/\A1/\A2/\A3/\A4/\A5:=λm n i j k l=>⟨m,n,i,j,k,l⟩
theorem i0i:A0->∀x y,C0 x y->C1 x y->C2 x y->A0/\∃x y,C0 x y/\C1 x y/\C2 x y:=λm x y n i j=>⟨m,x,y,n,i,j⟩
theorem i0j:∀x,B0 x->B1 x->∀y,C0 x y->C1 x y->∃x,B0 x/\B1 x/\∃y,C0 x y/\C1 x y:=λx m n y i j=>⟨x,m,n,y,i,j⟩
theorem i0k:∀x,B0 x->∀y,C0 x y->C1 x y->C2 x y->∃x,B0 x/\∃y,C0 x y/\C1 x y/\C2 x y:=λx m y n i j=>⟨x,m,y,n,i,j⟩
theorem i0l:∀x,B0 x->∀y z u,E0 x y z u->∃x,B0 x/\∃y z u,E0 x y z u:=λx m y z u n=>⟨x,m,y,z,u,n⟩
theorem i0m:∀x y,C0 x y->C1 x y->C2 x y->C3 x y->∃x y,C0 x y/\C1 x y/\C2 x y/\C3 x y:=λx y m n i j=>⟨x,y,m,n,i,j⟩
theorem i0n:∀x y z,D0 x y z->D1 x y z->D2 x y z->∃x y z,D0 x y z/\D1 x y z/\D2 x y z:=λx y z m n i=>⟨x,y,z,m,n,i⟩
theorem i0o:∀x,B0 x->∀y z,D0 x y z->D1 x y z->D2 x y z->∃x,B0 x/\∃y z,D0 x y z/\D1 x y z/\D2 x y z:=λx m y z n i j=>⟨x,m,y,z,n,i,j⟩
theorem i0p:∀x y,C0 x y->C1 x y->C2 x y->C3 x y->C4 x y->∃x y,C0 x y/\C1 x y/\C2 x y/\C3 x y/\C4 x y:=λx y m n i j k=>⟨x,y,m,n,i,j,k⟩
theorem i0q:∀x y,C0 x y->C1 x y->∀z,D0 x y z->D1 x y z->∃x y,C0 x y/\C1 x y/\∃z,D0 x y z/\D1 x y z:=λx y m n z i j=>⟨x,y,m,n,z,i,j⟩
theorem i0r:∀x y z,D0 x y z->D1 x y z->D2 x y z->D3 x y z->∃x y z,D0 x y z/\D1 x y z/\D2 x y z/\D3 x y z:=λx y z m n i j=>⟨x,y,z,m,n,i,j⟩
theorem i0s:∀x,B0 x->∀y z,D0 x y z->D1 x y z->D2 x y z->D3 x y z->∃x,B0 x/\∃y z,D0 x y z/\D1 x y z/\D2 x y z/\D3 x y z:=λx m y z n i j k=>⟨x,m,y,z,n,i,j,k⟩
theorem i0t:∀x y,C0 x y->C1 x y->C2 x y->C3 x y->C4 x y->C5 x y->∃x y,C0 x y/\C1 x y/\C2 x y/\C3 x y/\C4 x y/\C5 x y:=λx y m n i j k l=>⟨x,y,m,n,i,j,k,l⟩
theorem i0u:∀x y z,D0 x y z->D1 x y z->D2 x y z->D3 x y z->D4 x y z->∃x y z,D0 x y z/\D1 x y z/\D2 x y z/\D3 x y z/\D4 x y z:=λx y z m n i j k=>⟨x,y,z,m,n,i,j,k⟩
theorem i0v:∀x,B0 x->B1 x->∀y,C0 x y->C1 x y->C2 x y->∀z,D0 x y z->∃x,B0 x/\B1 x/\∃y,C0 x y/\C1 x y/\C2 x y/\∃z,D0 x y z:=λx m n y i j k z l=>⟨x,m,n,y,i,j,k,z,l⟩
theorem i0w:∀x,B0 x->∀y,C0 x y->∀z u,E0 x y z u->E1 x y z u->E2 x y z u->∃x,B0 x/\∃y,C0 x y/\∃z u,E0 x y z u/\E1 x y z u/\E2 x y z u:=λx m y n z u i j k=>⟨x,m,y,n,z,u,i,j,k⟩
theorem i0x:∀x,B0 x->∀y z u,E0 x y z u->E1 x y z u->E2 x y z u->E3 x y z u->∃x,B0 x/\∃y z u,E0 x y z u/\E1 x y z u/\E2 x y z u/\E3 x y z u:=λx m y z u n i j k=>⟨x,m,y,z,u,n,i,j,k⟩
theorem i0y:∀x y z u,E0 x y z u->E1 x y z u->E2 x y z u->E3 x y z u->E4 x y z u->∃x y z u,E0 x y z u/\E1 x y z u/\E2 x y z u/\E3 x y z u/\E4 x y z u:=λx y z u m n i j k=>⟨x,y,z,u,m,n,i,j,k⟩
theorem i0z:∀x,B0 x->∀y z u v,F0 x y z u v->F1 x y z u v->F2 x y z u v->F3 x y z u v->∃x,B0 x/\∃y z u v,F0 x y z u v/\F1 x y z u v/\F2 x y z u v/\F3 x y z u v:=λx m y z u v n i j k=>⟨x,m,y,z,u,v,n,i,j,k⟩
theorem i10:∀x y z u,E0 x y z u->E1 x y z u->E2 x y z u->E3 x y z u->E4 x y z u->E5 x y z u->∃x y z u,E0 x y z u/\E1 x y z u/\E2 x y z u/\E3 x y z u/\E4 x y z u/\E5 x y z u:=λx y z u m n i j k l=>⟨x,y,z,u,m,n,i,j,k,l⟩
theorem i11:∀x y z u v w p q r,J0 x y z u v w p q r->∃x y z u v w p q r,J0 x y z u v w p q r:=λx y z u v w p q r m=>⟨x,y,z,u,v,w,p,q,r,m⟩
theorem i12:∀x,B0 x->∀y,C0 x y->∀z,D0 x y z->∀u v,F0 x y z u v->F1 x y z u v->F2 x y z u v->∃x,B0 x/\∃y,C0 x y/\∃z,D0 x y z/\∃u v,F0 x y z u v/\F1 x y z u v/\F2 x y z u v:=λx m y n z i u v j k l=>⟨x,m,y,n,z,i,u,v,j,k,l⟩
theorem i13:∀x,B0 x->∀y z u v,F0 x y z u v->F1 x y z u v->F2 x y z u v->F3 x y z u v->F4 x y z u v->∃x,B0 x/\∃y z u v,F0 x y z u v/\F1 x y z u v/\F2 x y z u v/\F3 x y z u v/\F4 x y z u v:=λx m y z u v n i j k l=>⟨x,m,y,z,u,v,n,i,j,k,l⟩
theorem i14:∀x y z u v,F0 x y z u v->F1 x y z u v->F2 x y z u v->F3 x y z u v->F4 x y z u v->F5 x y z u v->∃x y z u v,F0 x y z u v/\F1 x y z u v/\F2 x y z u v/\F3 x y z u v/\F4 x y z u v/\F5 x y z u v:=λx y z u v m n i j k l=>⟨x,y,z,u,v,m,n,i,j,k,l⟩
theorem i15:∀x,B0 x->∀y z u v,F0 x y z u v->F1 x y z u v->F2 x y z u v->F3 x y z u v->F4 x y z u v->F5 x y z u v->∃x,B0 x/\∃y z u v,F0 x y z u v/\F1 x y z u v/\F2 x y z u v/\F3 x y z u v/\F4 x y z u v/\F5 x y z u v:=λx m y z u v n i j k l o=>⟨x,m,y,z,u,v,n,i,j,k,l,o⟩
theorem i16:∀x,B0 x->∀y z u v,F0 x y z u v->F1 x y z u v->F2 x y z u v->∀w,G0 x y z u v w->G1 x y z u v w->∃x,B0 x/\∃y z u v,F0 x y z u v/\F1 x y z u v/\F2 x y z u v/\∃w,G0 x y z u v w/\G1 x y z u v w:=λx m y z u v n i j w k l=>⟨x,m,y,z,u,v,n,i,j,w,k,l⟩
theorem i17:∀x,B0 x->∀y,C0 x y->∀z u v w,G0 x y z u v w->G1 x y z u v w->G2 x y z u v w->G3 x y z u v w->G4 x y z u v w->∃x,B0 x/\∃y,C0 x y/\∃z u v w,G0 x y z u v w/\G1 x y z u v w/\G2 x y z u v w/\G3 x y z u v w/\G4 x y z u v w:=λx m y n z u v w i j k l o=>⟨x,m,y,n,z,u,v,w,i,j,k,l,o⟩
theorem i18:∀x,B0 x->∀y z,D0 x y z->D1 x y z->D2 x y z->∀u v,F0 x y z u v->F1 x y z u v->F2 x y z u v->F3 x y z u v->∃x,B0 x/\∃y z,D0 x y z/\D1 x y z/\D2 x y z/\∃u v,F0 x y z u v/\F1 x y z u v/\F2 x y z u v/\F3 x y z u v:=λx m y z n i j u v k l o a=>⟨x,m,y,z,n,i,j,u,v,k,l,o,a⟩
theorem i19:∀x,B0 x->∀y z u v w,G0 x y z u v w->G1 x y z u v w->G2 x y z u v w->G3 x y z u v w->G4 x y z u v w->G5 x y z u v w->∃x,B0 x/\∃y z u v w,G0 x y z u v w/\G1 x y z u v w/\G2 x y z u v w/\G3 x y z u v w/\G4 x y z u v w/\G5 x y z u v w:=λx m y z u v w n i j k l o=>⟨x,m,y,z,u,v,w,n,i,j,k,l,o⟩
theorem i1a:∀x y,C0 x y->C1 x y->C2 x y->∀z u,E0 x y z u->∀v w,G0 x y z u v w->G1 x y z u v w->G2 x y z u v w->∃x y,C0 x y/\C1 x y/\C2 x y/\∃z u,E0 x y z u/\∃v w,G0 x y z u v w/\G1 x y z u v w/\G2 x y z u v w:=λx y m n i z u j v w k l o=>⟨x,y,m,n,i,z,u,j,v,w,k,l,o⟩
theorem i1b:∀x,B0 x->∀y,C0 x y->∀z u v w,G0 x y z u v w->G1 x y z u v w->G2 x y z u v w->G3 x y z u v w->G4 x y z u v w->G5 x y z u v w->∃x,B0 x/\∃y,C0 x y/\∃z u v w,G0 x y z u v w/\G1 x y z u v w/\G2 x y z u v w/\G3 x y z u v w/\G4 x y z u v w/\G5 x y z u v w:=λx m y n z u v w i j k l o a=>⟨x,m,y,n,z,u,v,w,i,j,k,l,o,a⟩
theorem i1c:∀x,B0 x->∀y z u v,F0 x y z u v->F1 x y z u v->F2 x y z u v->F3 x y z u v->F4 x y z u v->∀w,G0 x y z u v w->G1 x y z u v w->∃x,B0 x/\∃y z u v,F0 x y z u v/\F1 x y z u v/\F2 x y z u v/\F3 x y z u v/\F4 x y z u v/\∃w,G0 x y z u v w/\G1 x y z u v w:=λx m y z u v n i j k l w o a=>⟨x,m,y,z,u,v,n,i,j,k,l,w,o,a⟩
theorem i1d:∀x y z u v w,G0 x y z u v w->G1 x y z u v w->G2 x y z u v w->G3 x y z u v w->G4 x y z u v w->G5 x y z u v w->G6 x y z u v w->G7 x y z u v w->∃x y z u v w,G0 x y z u v w/\G1 x y z u v w/\G2 x y z u v w/\G3 x y z u v w/\G4 x y z u v w/\G5 x y z u v w/\G6 x y z u v w/\G7 x y z u v w:=λx y z u v w m n i j k l o a=>⟨x,y,z,u,v,w,m,n,i,j,k,l,o,a⟩
theorem e08 (h:∃x y z u v,F0 x y z u v) (f:∀x y z u v,F0 x y z u v->G):G:=by
 obtain ⟨x,y,z,u,v,m⟩:=h;exact f x y z u v m
theorem e09 (h:∃x y z,D0 x y z/\D1 x y z/\D2 x y z/\D3 x y z) (f:∀x y z,D0 x y z->D1 x y z->D2 x y z->D3 x y z->G):G:=by
 obtain ⟨x,y,z,m,n,i,j⟩:=h;exact f x y z m n i j
theorem e0b (h:∃x y,C0 x y/\C1 x y/\∃z u v,F0 x y z u v) (f:∀x y,C0 x y->C1 x y->∀z u v,F0 x y z u v->G):G:=by
 obtain ⟨x,y,m,n,z,u,v,i⟩:=h;exact f x y m n z u v i
theorem e0d (h:∃x y z u,E0 x y z u/\E1 x y z u/\E2 x y z u/\E3 x y z u/\E4 x y z u) (f:∀x y z u,E0 x y z u->E1 x y z u->E2 x y z u->E3 x y z u->E4 x y z u->G):G:=by
 obtain ⟨x,y,z,u,m,n,i,j,k⟩:=h;exact f x y z u m n i j k
theorem e0e (h:∃x y z u v w p q,I0 x y z u v w p q) (f:∀x y z u v w p q,I0 x y z u v w p q->G):G:=by
 obtain ⟨x,y,z,u,v,w,p,q,m⟩:=h;exact f x y z u v w p q m
theorem e0h (h:∃x y z u v w p q r s t,L0 x y z u v w p q r s t) (f:∀x y z u v w p q r s t,L0 x y z u v w p q r s t->G):G:=by
 obtain ⟨x,y,z,u,v,w,p,q,r,s,t,m⟩:=h;exact f x y z u v w p q r s t m
end
namespace L2
open PySem PySem.Spec PyProof.Rows
abbrev Key:=Sum Int Str
def C2a:Key->Value->Bool
 | .inl k,v=>Value.isInt k v
 | .inr x,v=>Value.isStrOf x v
def keyH (w:World):Key->Int
 | .inl k=>hashInt k
 | .inr x=>hashStr w x
theorem A2u:∀{k:Key} {v:Value},C2a k v=true->(∃i t,k=Sum.inl i/\v=Value.int i t)\/(∃x t,k=Sum.inr x/\v=Value.str x t)
 | .inl i,v,h=>by
  obtain ⟨t,e⟩:=Value.isInt_shape (k:=i) (v:=v) h;exact .inl (i07 i t rfl e)
 | .inr x,v,h=>by
  obtain ⟨t,e⟩:=Value.isStrOf_shape (x:=x) (v:=v) h;exact .inr (i07 x t rfl e)
theorem C6v (i:Int) (t:Tok):C2a (.inl i) (.int i t)=true:=by simp [C2a,Value.isInt]
theorem C7j (x:Str) (t:Tok):C2a (.inr x) (.str x t)=true:=by simp [C2a,Value.isStrOf]
theorem E1b (a b:Int):decide ((Sum.inl a:Key)=Sum.inl b)=(a == b):=by
 by_cases e:a=b
 ·subst e;simp
 ·have h:¬(Sum.inl a:Key)=Sum.inl b:=λq=>e (Sum.inl.inj q);rw [Z1j h];exact (Z22.mpr e).symm
theorem E1q (a b:Str):decide ((Sum.inr a:Key)=Sum.inr b)=decide (a=b):=by
 by_cases e:a=b
 ·subst e;simp
 ·have h:¬(Sum.inr a:Key)=Sum.inr b:=λq=>e (Sum.inr.inj q);rw [Z1j h,Z1j e]
theorem E1x (a:Int) (b:Str):decide ((Sum.inl a:Key)=Sum.inr b)=false:=Z1j (λq=>nomatch q)
theorem E1e (a:Str) (b:Int):decide ((Sum.inr a:Key)=Sum.inl b)=false:=Z1j (λq=>nomatch q)
def A1x (prog:Program) (w:World):PySem.KeyKind prog w Key where
 is:=C2a
 hash:=keyH w
 inj:=λv a b f d=>by
  rcases A2u f with ⟨i,t,rfl,rfl⟩ | ⟨x,t,rfl,rfl⟩
  ·rcases A2u d with ⟨j,u,rfl,e⟩ | ⟨y,u,rfl,e⟩
   ·injection e with e1 _;rw [e1]
   ·exact nomatch e
  ·rcases A2u d with ⟨j,u,rfl,e⟩ | ⟨y,u,rfl,e⟩
   ·exact nomatch e
   ·injection e with e1 _;rw [e1]
 byValue:=λk v h=>by
  rcases A2u h with ⟨i,t,rfl,rfl⟩ | ⟨x,t,rfl,rfl⟩ <;> rfl
 pyHash:=λc h=>by
  rcases A2u c with ⟨i,t,rfl,rfl⟩ | ⟨x,t,rfl,rfl⟩
  ·exact wpAny_pyHash_int h
  ·exact wpAny_pyHash_str h
 eqBool:=λg c h=>by
  rcases A2u g with ⟨i,t,rfl,rfl⟩ | ⟨x,t,rfl,rfl⟩
  ·rcases A2u c with ⟨j,u,rfl,rfl⟩ | ⟨y,u,rfl,rfl⟩
   ·rw [E1b] at h;exact wpAny_eqBool_int h
   ·rw [E1x] at h;exact SeqAt.EqAt.int_str i t y u _ _ _ _ h
  ·rcases A2u c with ⟨j,u,rfl,rfl⟩ | ⟨y,u,rfl,rfl⟩
   ·rw [E1e] at h;exact SeqAt.EqAt.str_int x t j u _ _ _ _ h
   ·rw [E1q] at h;exact wpAny_eqBool_str h
 «strs»:=λk x t v h=>by
  rcases A2u h with ⟨i,u,rfl,e⟩ | ⟨y,u,rfl,e⟩
  ·exact nomatch e
  ·injection e with e1 _;subst e1;cases v <;> rfl
theorem C0l (prog:Program) (w:World) (i:Int) (t:Tok):(A1x prog w).is (.inl i) (.int i t)=true:=C6v i t
theorem C0p (prog:Program) (w:World) (x:Str) (t:Tok):(A1x prog w).is (.inr x) (.str x t)=true:=C7j x t
inductive V where
 | non | bl (b:Bool) | int (i:Int) | str (x:Str) | byt (b:Array UInt8) | flt (b:UInt64) | ref (a:Addr) | ty (n:String)
 deriving DecidableEq
def A3c:V->Value->Prop
 | .non,u=>u=Value.none
 | .bl b,u=>u=Value.bool b
 | .int i,u=>∃t,u=Value.int i t
 | .str x,u=>∃t,u=Value.str x t
 | .byt b,u=>∃t,u=Value.bytes b t
 | .flt b,u=>∃t,u=Value.float b t
 | .ref a,u=>u=Value.ref a
 | .ty n,u=>u=Value.type n
abbrev A3z:List V->List Value->Prop:=Paired A3c
theorem A3z.length {xs:List V} {us:List Value} (r:A3z xs us):xs.length=us.length:=Paired.length r
theorem A3z.get:∀{xs:List V} {us:List Value} {i:Nat} {x:V},A3z xs us->xs[i]? =some x->∃u,us[i]? =some u/\A3c x u
 | _,_,_,_,.nil,e=>by simp at e
 | _,_,0,_,.cons r _,e=>by simp at e;subst e;exact i02 _ rfl r
 | _,_,i+1,x,.cons _ t,e=>by
  obtain ⟨u,b,a⟩:=A3z.get (i:=i) (x:=x) t (by simpa using e);exact i02 u (by simpa using b) a
theorem A3z.append:∀{xs ys:List V} {us ws:List Value},A3z xs us->A3z ys ws->A3z (xs++ys) (us++ws)
 | _,_,_,_,.nil,s=>s
 | _,_,_,_,.cons r t,s=> .cons r (A3z.append t s)
theorem A3z.take:∀{xs:List V} {us:List Value} (n:Nat),A3z xs us->A3z (xs.take n) (us.take n)
 | _,_,0,_=> .nil
 | _,_,_+1,.nil=> .nil
 | _,_,n+1,.cons r t=> .cons r (A3z.take n t)
theorem A3z.drop:∀{xs:List V} {us:List Value} (n:Nat),A3z xs us->A3z (xs.drop n) (us.drop n)
 | _,_,0,r=>r
 | _,_,_+1,.nil=> .nil
 | _,_,n+1,.cons _ t=>A3z.drop n t
def B7s:Option V->Option Value->Prop
 | some v,some u=>A3c v u
 | none,none=>True
 | _,_=>False
def KV {κ:Type}:List (κ×V)->List (κ×Value)->Prop:=Paired λ(p:κ×V) (q:κ×Value)=>p.1=q.1/\A3c p.2 q.2
def kV:Key->V
 | .inl i=> .int i
 | .inr x=> .str x
inductive HO where
 | lst (xs:List V)
 | tup (xs:List V)
 | dK (kvs:List (Key×V)) | dT (kvs:List (List Key×V))
 | set (S:Int->Bool) (n:Nat)
 | ins (C dx:Addr) (fs:List (Str×V))
 | own (x:Addr)
 | xd (fs:List (Str×V))
 | met (f x:Addr)
 | rng (lo hi:Int)
 | frz (o:Obj) (u:HO)
 | tbl (ps:Array Value)
 | ext (φ:Heap->Prop)
abbrev Hp:=Addr->Option HO
def upd (H:Hp) (a:Addr) (o:HO):Hp:=λb=>if b=a then some o else H b
theorem A0b {H:Hp} {a:Addr} {o:HO}:upd H a o a=some o:=by unfold upd;rw [Z12 rfl]
theorem A0i {H:Hp} {a b:Addr} {o:HO} (h:b≠a):upd H a o b=H b:=by unfold upd;rw [Z0t h]
theorem A5n {H:Hp} {a:Addr} {o u:HO}:upd (upd H a o) a u=upd H a u:=by
 funext b;unfold upd;split <;> rfl
theorem A3j {H:Hp} {a b:Addr} {o u:HO} (h:H a=some o) (h':H b=some u) (d:o≠u):a≠b:=by
 intro e;subst e;rw [h] at h';exact d (Z1a h')
theorem A0z {H:Hp} {a b:Addr} {o:HO} (h:H a=some o) (h':H b=none):a≠b:=by
 intro e;subst e;rw [h] at h';cases h'
section
variable (P:Program) (w:World)
def A2q (H:Hp) (h:Heap) (a:Addr):HO->Prop
 | .lst c=>c.length<=sizeLine/\∃(b:List Value) (n:Nat),A3z c b/\h.get? a=some { cls:= .type "list",data:= .seq b.toArray n }
 | .tup c=>c.length<=sizeLine/\∃b:List Value,A3z c b/\IsTup h a b.toArray
 | .dK kvs=>kvs.length<=sizeLine/\(a == sysModules)=false/\∃i,KV kvs i/\h.DictOf (A1x P w) a i
 | .dT kvs=>kvs.length<=sizeLine/\(a == sysModules)=false/\∃c:List (List Key×Addr×Value),
   Paired (λ(p:List Key×V) (q:List Key×Addr×Value)=>p.1=q.1/\H q.2.1=some (.tup (p.1.map kV))/\A3c p.2 q.2.2) kvs c/\
   ∃o g k,h.get? a=some o/\o.ExactDict/\o.data= .dict g k/\g.toList=c.map (entryOfKey (tupleKind (A1x P w)))/\(c.map (·.1)).Nodup
 | .set S n=>h.SetOf (intKind P w) a S n
 | .ins C dx fs=>H dx=some (.own a)/\fs.length<=1000/\dx≠a/\h.get? a=some (instObj C dx)/\
   ∃d,h.Ns1 dx d/\(∀f,B7s (fs.lookup f) (d f))/\PySem.Within d (fs.map (·.1))
 | .own _=>∃o,h.get? a=some o
 | .xd fs=>∃d,h.Ns1 a d/\∀f,B7s (fs.lookup f) (d f)
 | .rng lo hi=>∃t u v,h.get? a=some { cls:= .type "range",data:= .fields #[.int lo t,.int hi u,.int 1 v] }
 | .frz o u=>h.get? a=some o/\A2q H h a u
 | .tbl ps=>h.get? a=some { cls:= .none,data:= .fields ps }
 | .met f x=>h.get? a=some (PySem.W.methodObj (.ref f) (.ref x))
 | .ext φ=>φ h/\(∃o,h.get? a=some o)/\∀e j:Heap,φ e->(∀o,e.get? a=some o->j.get? a=some o)->φ j
def HOk (H:Hp) (h:Heap):Prop:=∀a o,H a=some o->A2q P w H h a o
end
section
variable {P:Program} {w:World} {H H':Hp} {h h':Heap} {a:Addr} {o:HO}
theorem A2q.lt (x:A2q P w H h a o):a<h.objs.size:=by
 cases o with
 | lst xs=>obtain ⟨_,_,_,_,e⟩:=x;exact Z0a e
 | tup xs=>obtain ⟨_,_,_,p⟩:=x;exact p.lt
 | dK kvs=>obtain ⟨_,_,_,_,o,_,_,e,_⟩:=x;exact Z0a e
 | dT kvs=>obtain ⟨_,_,_,_,o,_,_,e,_⟩:=x;exact Z0a e
 | set S n=>obtain ⟨o,_,_,_,e,_⟩:=x;exact Z0a e
 | ins C dx fs=>obtain ⟨_,_,_,e,_⟩:=x;exact Z0a e
 | own y=>obtain ⟨_,e⟩:=x;exact Z0a e
 | xd fs=>obtain ⟨_,⟨_,_,_,e,_⟩,_⟩:=x;exact Z0a e
 | rng lo hi=>obtain ⟨_,_,_,e⟩:=x;exact Z0a e
 | frz ob u=>obtain ⟨e,_⟩:=x;exact Z0a e
 | tbl ps=>exact Z0a (show h.get? a=some _ from x)
 | met f y=>exact Z0a (show h.get? a=some _ from x)
 | ext φ=>obtain ⟨_,⟨_,e⟩,_⟩:=x;exact Z0a e
theorem Paired.mapP {α β:Type} {F G:α->β->Prop}:∀{c:List α} {d:List β},Paired F c d->(∀a b,F a b->G a b)->Paired G c d
 | _,_,.nil,_=> .nil
 | _,_,.cons r t,f=> .cons (f _ _ r) (Paired.mapP t f)
theorem A2q.stay (x:A2q P w H h a o) (k:∀b u,(b=a\/H b=some (.own a))->h.get? b=some u->h'.get? b=some u)
  (F:∀b,H b=some (.own a)->H' b=some (.own a)) (B:∀b xs,H b=some (.tup xs)->H' b=some (.tup xs)):A2q P w H' h' a o:=by
 induction o with
 | lst xs=>obtain ⟨z,l,n,r,e⟩:=x;exact i0b z l n r (k _ _ (.inl rfl) e)
 | tup xs=>obtain ⟨z,l,r,g,e,c⟩:=x;exact ⟨z,(i0e l r g (k _ _ (.inl rfl) e) c)⟩
 | dK kvs=>obtain ⟨z,y,I,r,g,j,i,e,c⟩:=x;exact i0a z y I r (i0g g j i (k _ _ (.inl rfl) e) c)
 | dT kvs =>
  obtain ⟨z,y,xs,r,g,j,i,e,c⟩:=x;exact i0a z y xs (Paired.mapP r λp q z=>(i00 z.1 (B _ _ z.2.1) z.2.2)) (i0g g j i (k _ _ (.inl rfl) e) c)
 | set S n=>obtain ⟨g,j,i,t,e,c⟩:=x;exact ⟨g,(i0g j i t (k _ _ (.inl rfl) e) c)⟩
 | ins C dx fs =>
  obtain ⟨d,z,G,e,m,⟨s,j,i,D,c⟩,r⟩:=x;exact i00 (F _ d) z (i0a G (k _ _ (.inl rfl) e) m (i0g s j i (k _ _ (.inr d) D) c) r)
 | own y=>obtain ⟨g,e⟩:=x;exact ⟨g,k _ _ (.inl rfl) e⟩
 | xd fs=>obtain ⟨m,⟨s,j,i,e,c⟩,r⟩:=x;exact i02 m (i0g s j i (k _ _ (.inl rfl) e) c) r
 | rng lo hi=>obtain ⟨t,u,v,e⟩:=x;exact i08 t u v (k _ _ (.inl rfl) e)
 | frz g u ih=>obtain ⟨e,q⟩:=x;exact ⟨k _ _ (.inl rfl) e,ih q⟩
 | tbl ps =>
  have e:h.get? a=some { cls:= .none,data:= .fields ps }:=x;show h'.get? a=some { cls:= .none,data:= .fields ps };exact k a _ (.inl rfl) e
 | met f y =>
  have e:h.get? a=some (PySem.W.methodObj (.ref f) (.ref y)):=x;show h'.get? a=some (PySem.W.methodObj (.ref f) (.ref y));exact k a _ (.inl rfl) e
 | ext φ=>obtain ⟨p,⟨o,e⟩,A⟩:=x;exact i00 (A _ _ p λo q=>k _ _ (.inl rfl) q) ⟨o,k _ _ (.inl rfl) e⟩ A
theorem HOk.lt (x:HOk P w H h) (e:H a=some o):a<h.objs.size:=(x a o e).lt
theorem HOk.fresh (x:HOk P w H h) (e:h.objs.size<=a):H a=none:=by
 cases q:H a with
 | none=>rfl
 | some u=>exact absurd (Z0q (x.lt q) e) (Nat.lt_irrefl _)
theorem HOk.kept (x:HOk P w H h) (k:∀b u,h.get? b=some u->h'.get? b=some u):HOk P w H h':=λa o e =>
 (x a o e).stay (λb u _ q=>k b u q) (λ_ q=>q) λ_ _ q=>q
theorem HOk.laid (x:HOk P w H h) (k:∀b u,h.get? b=some u->h'.get? b=some u) (g:h.objs.size<=a) (d:A2q P w (upd H a o) h' a o):HOk P w (upd H a o) h':=λb u e=>by
 have f:=x.fresh g;by_cases hb:b=a
 ·subst hb;rw [A0b] at e;cases e;exact d
 ·rw [A0i hb] at e;exact (x b u e).stay (λc v _ q=>k c v q) (λc q=>by rw [A0i (A0z q f)];exact q) λc i q=>by rw [A0i (A0z q f)];exact q
end
def Rd (H:Hp) (a:Addr) (u:HO):Prop:=H a=some u\/∃o,H a=some (.frz o u)
theorem Rd.ok {P:Program} {w:World} {H:Hp} {h:Heap} {a:Addr} {u:HO} (r:Rd H a u) (x:HOk P w H h):A2q P w H h a u:=by
 rcases r with r | ⟨o,r⟩
 ·exact x a u r
 ·obtain ⟨_,q⟩:=x a _ r;exact q
def Mut:Option HO->Prop
 | some (.lst _)=>True
 | some (.dK _)=>True
 | some (.dT _)=>True
 | some (.set _ _)=>True
 | some (.ins _ _ _)=>True
 | some (.ext _)=>True
 | _=>False
section
variable {P:Program} {w:World} {H:Hp} {h h':Heap} {x e:Addr} {o':HO}
theorem HOk.write (o:HOk P w H h) (g:Mut (H x)) (n:e=x\/H e=some (.own x)) (k:∀b u,b≠e->h.get? b=some u->h'.get? b=some u) (l:∃u,h'.get? e=some u)
  (j:A2q P w (upd H x o') h' x o'):HOk P w (upd H x o') h':=λb u q=>by
 have a:∀c y,H c=some (.own y)->c≠x:=λc y r z=>by subst z;rw [r] at g;exact g
 have d:∀c f,H c=some (.tup f)->c≠x:=λc f r z=>by subst z;rw [r] at g;exact g
 by_cases hb:b=x
 ·subst hb;rw [A0b] at q;cases q;exact j
 ·rw [A0i hb] at q;by_cases hbe:b=e
  ·have m:H b=some (.own x):=by
    rcases n with z | z
    ·exact absurd (hbe.trans z) hb
    ·rw [hbe];exact z
   rw [q] at m;cases m;obtain ⟨v,p⟩:=l;exact ⟨v,by rw [hbe];exact p⟩
  ·refine (o b u q).stay (λc v i r=>k c v ?_ r) (λc r=>by rw [A0i (a c b r)];exact r) λc f r=>by rw [A0i (d c f r)];exact r
   rcases i with rfl | i
   ·exact hbe
   ·rintro rfl;rcases n with z | z
    ·exact a c b i z
    ·rw [i] at z;cases z;exact hb rfl
end
structure Un (fs ex:List Addr) (H H':Hp) (h h':Heap):Prop where
 keep:∀b o,h.get? b=some o->H b=none->b∉fs->b∉ex->h'.get? b=some o
 slot:∀b o,h.get? b=some o->H b=none->b∈fs->b∉ex->∃sl,h'.get? b=some { o with slots:=sl }
 free:∀b o,h.get? b=some o->H b=none->b∉ex->H' b=none
 there:∀b o,h.get? b=some o->b∉ex->∃o',h'.get? b=some o'
 tups:∀b xs,H b=some (.tup xs)->H' b=some (.tup xs)
 frzs:∀b o u,H b=some (.frz o u)->H' b=some (.frz o u)
 tbls:∀b ps,H b=some (.tbl ps)->∃more,H' b=some (.tbl (ps++more))
section
variable {fs fs' ex ex':List Addr} {H H1 H2:Hp} {h h1 h2 h':Heap} {a x e:Addr} {o:HO}
theorem Un.any (u:Un fs ex H H1 h h1) {b:Addr} {a:Obj} (q:h.get? b=some a) (n:H b=none) (c:b∉ex):∃sl,h1.get? b=some { a with slots:=sl }:=by
 by_cases hb:b∈fs
 ·exact u.slot b a q n hb c
 ·exact ⟨a.slots,u.keep b a q n hb c⟩
theorem Un.kept (k:∀b u,h.get? b=some u->h'.get? b=some u):Un fs ex H H h h' :=
 ⟨λb a q _ _ _=>k b a q,λb a q _ _ _=>⟨a.slots,k b a q⟩,λ_ _ _ n _=>n,λb a q _=>⟨a,k b a q⟩,λ_ _ q=>q,λ_ _ _ q=>q,λ_ c q=>⟨#[],by rw [q];simp⟩⟩
theorem Un.refl:Un fs ex H H h h:=Un.kept λ_ _ q=>q
theorem Un.laid (k:∀b u,h.get? b=some u->h'.get? b=some u) (d:h.objs.size<=a) (c:H a=none):Un fs ex H (upd H a o) h h' where
 keep:=λb u q _ _ _=>k b u q
 slot:=λb u q _ _ _=>⟨u.slots,k b u q⟩
 free:=λb u q n _=>by rw [A0i (Z0h (Z0q (Z0a q) d))];exact n
 there:=λb u q _=>⟨u,k b u q⟩
 tups:=λb e q=>by rw [A0i (A0z q c)];exact q
 frzs:=λb u e q=>by rw [A0i (A0z q c)];exact q
 tbls:=λb f q=>⟨#[],by rw [A0i (A0z q c),q];simp⟩
theorem Un.write (a:Mut (H x)) (i:e=x\/H e=some (.own x)) (k:∀b u,b≠e->h.get? b=some u->h'.get? b=some u) (c:∃u,h'.get? e=some u):Un fs ex H (upd H x o) h h':=by
 have f:∀b,H b=none->b≠x:=λb n z=>by subst z;rw [n] at a;exact a
 have g:∀b,H b=none->b≠e:=λb n z=>by
  subst z;rcases i with r | r
  ·exact f b n r
  ·rw [n] at r;cases r
 have d:∀b u,H b=some u->¬Mut (some u)->b≠x:=λb u q j z=>by subst z;rw [q] at a;exact j a
 refine ⟨λb u q n _ _=>k b u (g b n) q,λb u q n _ _=>⟨u.slots,k b u (g b n) q⟩,λb u q n _=>by rw [A0i (f b n)];exact n,λb u q _=> ?_,
  λb l q=>by rw [A0i (d b _ q λz=>z)];exact q,λb u l q=>by rw [A0i (d b _ q λz=>z)];exact q,λb m q=>⟨#[],by rw [A0i (d b _ q λz=>z),q];simp⟩⟩
 by_cases hbe:b=e
 ·subst hbe;exact c
 ·exact ⟨u,k b u hbe q⟩
end
def trk (h:Heap) (H:Hp):List Addr:=(List.range h.objs.size).filter λa=>(H a).isSome
def D1k (h:Heap) (H:Hp):Heap:=hideAll h (trk h H)
theorem C8a (h:Heap) (H:Hp):(D1k h H).objs.size=h.objs.size:=PySem.W.hideAll_size _ _
theorem D2c {h:Heap} {H:Hp} {b:Addr} {o:Obj} (e:h.get? b=some o) (n:H b=none):(D1k h H).get? b=some o :=
 PySem.W.hideAll_get _ e λa=>by
  have q:(H b).isSome=true:=(List.mem_filter.mp a).2;rw [n] at q;simp at q
theorem D5i {h:Heap} {H:Hp} {b:Addr} {o:Obj} (e:(D1k h H).get? b=some o):h.get? b=some o/\H b=none:=by
 have a:h.get? b=some o:=PySem.W.of_hideAll (trk h H) e;refine ⟨a,?_⟩
 cases q:H b with
 | none=>rfl
 | some x =>
  have c:b∈trk h H:=List.mem_filter.mpr ⟨List.mem_range.mpr (Z0a a),by simp [q]⟩;have z:(D1k h H).get? b=none:=PySem.W.hideAll_none (trk h H) c;rw [z] at e;cases e
structure Mod (K:Frag) (mg:Str->Option Value) (base:Heap):Prop where
 kin:K.In base
 glob:base.Ns mainGlobals mg
 blt:∃mb,base.Ns builtinsNs mb/\∀x:Str,x≠"__name__"->mb x=bootBuiltins x
 nolimit:base.NoLimit
structure Cx where
 prog:Program
 w:World
 K:Frag
 mg:Str->Option Value
 base:Heap
 A:Around
 N:List Str
 s₀:Shared
 H₀:Hp
 env:Env
 outer:List Env
 stack:List Env
 ex:List Addr
 fn:Str->Bool
 calm:Bool
 pn:List (Addr×Obj)
 xe:Value->Shared->Prop
def frs (l:List Env):List Addr:=l.filterMap (·.frame)
abbrev Cx.fs (X:Cx):List Addr:=frs X.outer
def Vis (sc:Scope) (x:Str):Prop:=sc.names.lookup x=some .local\/sc.names.lookup x=some .cell\/sc.names.lookup x=some .free
def Loc (sc:Scope) (x:Str):Prop:=sc.names.lookup x=some .local\/sc.names.lookup x=some .cell
def Look (a:Env) (h:Heap) (m:Str->Option Value) (x:Str) (u:Value):Prop :=
 (a.kindOf x=some .local/\m x=some u)\/((a.kindOf x=some .cell\/a.kindOf x=some .free)/\∃c,a.cells.lookup x=some c/\h.IsCell c (some u))
structure Cx.Ok (X:Cx):Prop where
 mod:Mod X.K X.mg X.base
 kind:X.env.scope.kind= .function
 glob:X.env.globals=mainGlobals
 blt:X.env.builtins=builtinsNs
 above:X.s₀.heap.objs.size<=X.env.locals
 inj:∀x y c,X.env.cells.lookup x=some c->X.env.cells.lookup y=some c->x=y
 has:∀x,(X.env.kindOf x=some .cell\/X.env.kindOf x=some .free)->∃c,X.env.cells.lookup x=some c
 cab:∀x c,X.fn x=true->X.env.cells.lookup x=some c->X.s₀.heap.objs.size<=c
 hd:X.calm=true->X.A.handled=none
 frames:X.A.frames=some X.stack
 stk:X.stack=X.outer\/(X.stack=X.env::X.outer/\X.env.frame=some X.env.locals)
 exf:∀b∈X.ex,b≠X.env.locals/\∀x c,X.env.cells.lookup x=some c->c≠b
 bs:∀b o,X.base.get? b=some o->X.s₀.heap.get? b=some o/\X.H₀ b=none
 bsz:X.base.objs.size<=X.s₀.heap.objs.size
 noex:∀b o,X.base.get? b=some o->b∉X.ex
 exfs:∀b∈X.ex,b∉X.fs
 funs:X.s₀.heap.FunFrames X.base X.outer
 frf:∀b∈X.fs,X.H₀ b=none
structure Inv (X:Cx) (pins:List (Addr×Obj)) (Z:List (Option V)) (H:Hp) (s:Shared):Prop where
 ok:X.Ok
 os:s.os=X.s₀.os
 bare:AllBare s.gens
 base:Un X.fs X.ex X.H₀ H X.s₀.heap s.heap
 loc:∃m,s.heap.Ns X.env.locals m/\∀(i:Nat) (x:Str) (v:V),X.N[i]? =some x->Z[i]? =some (some v)->Vis X.env.scope x->∃u,A3c v u/\Look X.env s.heap m x u
 cell:∀x c,X.env.cells.lookup x=some c->∃v,s.heap.IsCell c v
 free:H X.env.locals=none
 freeC:∀x c,X.env.cells.lookup x=some c->H c=none
 pin:∀p∈X.pn++pins,s.heap.get? p.1=some p.2/\H p.1=none/\p.1≠X.env.locals/\p.1∉X.fs/\∀v,p.2.data≠.cell v
 hok:HOk X.prog X.w H s.heap
 len:Z.length=X.N.length
section
variable {X:Cx} {pins:List (Addr×Obj)} {Z:List (Option V)} {H H':Hp} {s:Shared} {h':Heap}
theorem Cx.Ok.nofr (a:X.Ok) {b:Addr} {o:Obj} (e:X.base.get? b=some o):b∉X.fs:=λc=>by
 have:=(a.funs.mem c).1;rw [e] at this;cases this
theorem Inv.bs (I:Inv X pins Z H s):∀b o,X.base.get? b=some o->s.heap.get? b=some o/\H b=none:=λb o e =>
 ⟨I.base.keep b o (I.ok.bs b o e).1 (I.ok.bs b o e).2 (I.ok.nofr e) (I.ok.noex b o e),I.base.free b o (I.ok.bs b o e).1 (I.ok.bs b o e).2 (I.ok.noex b o e)⟩
theorem Inv.bk (I:Inv X pins Z H s):∀b o,X.base.get? b=some o->s.heap.get? b=some o:=λb o e=>(I.bs b o e).1
theorem Inv.mod (I:Inv X pins Z H s):Mod X.K X.mg X.base:=I.ok.mod
theorem Inv.kIn (I:Inv X pins Z H s):X.K.In s.heap:=I.ok.mod.kin.keeps I.bk
theorem Inv.lt (I:Inv X pins Z H s):X.env.locals<s.heap.objs.size:=let ⟨_,hn,_⟩:=I.loc;hn.lt
theorem Inv.sz (I:Inv X pins Z H s):X.s₀.heap.objs.size<=s.heap.objs.size:=Z1n I.ok.above (Nat.le_of_lt I.lt)
theorem Inv.nofs (I:Inv X pins Z H s) {a:Addr} (h:s.heap.objs.size<=a):a∉X.fs:=λb=>by
 obtain ⟨_,o,c,_⟩:=I.ok.funs.mem b;exact absurd (Z0q (Z0a c) (Z1n I.sz h)) (Nat.lt_irrefl _)
theorem Inv.cne (I:Inv X pins Z H s):∀x c,X.env.cells.lookup x=some c->c≠X.env.locals:=λx c e z=>by
 obtain ⟨v,o,f,d⟩:=I.cell x c e;obtain ⟨m,⟨h,i,g,a,b,_⟩,_⟩:=I.loc;rw [z,a] at f;cases f;rw [b] at d;cases d
theorem Inv.funs (I:Inv X pins Z H s):s.heap.FunFrames X.base X.outer:=by
 have c:∀(l:List Env),(∀b∈frs l,b∈X.fs)->X.s₀.heap.FunFrames X.base l->s.heap.FunFrames X.base l:=by
  intro l
  induction l with
  | nil=>intro _ _;trivial
  | cons env r ih =>
   intro g m;obtain ⟨k,⟨L,o,a,j,i,h⟩,n⟩:=m;have f:L∈X.fs:=g L (by unfold frs;rw [List.filterMap_cons,a];exact Z27);obtain ⟨p,e⟩:=I.base.slot L o i (I.ok.frf L f) f λz=>I.ok.exfs L z f;exact i00 k (i0m L _ a j e h) (ih (λb d=>g b (by unfold frs;rw [List.filterMap_cons,a];exact Z1f _ d)) n)
 exact c X.outer (λ_ d=>d) I.ok.funs
theorem Inv.stack (I:Inv X pins Z H s):s.heap.FunFrames X.base X.stack:=by
 rcases I.ok.stk with e | ⟨e,a⟩
 ·rw [e];exact I.funs
 ·rw [e];obtain ⟨m,b,_⟩:=I.loc;refine .cons (by rw [I.ok.kind];decide) a b ?_ I.funs;exact Heap.get?_none_of_le (Z1n I.ok.bsz I.ok.above)
theorem Inv.stkSub (I:Inv X pins Z H s):∀b∈frs X.stack,b∈X.env.locals::X.fs:=λb a=>by
 rcases I.ok.stk with e | ⟨e,c⟩
 ·rw [e] at a;exact Z1f _ a
 ·rw [e] at a;unfold frs at a;rw [List.filterMap_cons,c] at a;exact a
theorem Inv.stkFree (I:Inv X pins Z H s):∀b∈frs X.stack,H b=none:=λb a=>by
 rcases Z0e.mp (I.stkSub b a) with e | a
 ·rw [e];exact I.free
 ·obtain ⟨_,o,c,_⟩:=I.ok.funs.mem a;exact I.base.free b o c (I.ok.frf b a) λz=>I.ok.exfs b z a
theorem Inv.step {g':Array GenState} {t':Nat} {d':Drawn} {ch:List Addr} (I:Inv X pins Z H s)
  (h:∀b∈ch,(b∈X.ex\/X.s₀.heap.objs.size<=b)/\b≠X.env.locals/\(∀x c,X.env.cells.lookup x=some c->c≠b)/\∀p∈X.pn++pins,p.1≠b)
  (g:∀b o,b≠X.env.locals->b∉X.fs->b∉ch->s.heap.get? b=some o->H b=none->h'.get? b=some o)
  (B:∀b o,b≠X.env.locals->b∈X.fs->b∉ch->s.heap.get? b=some o->H b=none->∃sl,h'.get? b=some { o with slots:=sl }) (f:∀b o,b∉ch->s.heap.get? b=some o->H b=none->H' b=none)
  (C:∀b o,b∉ch->s.heap.get? b=some o->∃o',h'.get? b=some o')
  (L:∀b xs,H b=some (.tup xs)->H' b=some (.tup xs)) (G:∀b o u,H b=some (.frz o u)->H' b=some (.frz o u)) (K:∀b ps,H b=some (.tbl ps)->∃J,H' b=some (.tbl (ps++J)))
  (ns:∀m,s.heap.Ns X.env.locals m->h'.Ns X.env.locals m) (Q:HOk X.prog X.w H' h') (W:AllBare g') :
  Inv X pins Z H' { s with heap:=h',gens:=g',drawn:=d',toks:=t' }:=by
 have M:∀b o,X.s₀.heap.get? b=some o->b≠X.env.locals:=λb o e=>Z0h (Z0q (Z0a e) I.ok.above)
 have A:∀b o,X.s₀.heap.get? b=some o->b∉X.ex->b∉ch:=λb o e a D=>by
  rcases (h b D).1 with z | z
  ·exact a z
  ·exact absurd (Z0q (Z0a e) z) (Nat.lt_irrefl _)
 have j:∀x c,X.env.cells.lookup x=some c->∀v,s.heap.IsCell c v->h'.IsCell c v:=λx c e v ⟨o,F,O⟩=>by
  have t:c∉ch:=λz=>(h c z).2.2.1 x c e rfl;by_cases hc:c∈X.fs
  ·obtain ⟨sl,q⟩:=B c o (I.cne x c e) hc t F (I.freeC x c e);exact i02 _ q O
  ·exact i02 o (g c o (I.cne x c e) hc t F (I.freeC x c e)) O
 refine ⟨I.ok,I.os,W,⟨λb o e n D a=> ?_,λb o e n D a=> ?_,λb o e n a=> ?_,λb o e a=> ?_,λb xs e=>L b xs (I.base.tups b xs e),λb o xs e=>G b o xs (I.base.frzs b o xs e),λb ps e=> ?_⟩,?_,λx c e=> ?_,?_,λx c e=> ?_,λp R=> ?_,Q,I.len⟩
 ·exact g b o (M b o e) D (A b o e a) (I.base.keep b o e n D a) (I.base.free b o e n a)
 ·obtain ⟨sl,y⟩:=I.base.slot b o e n D a;obtain ⟨P,N⟩:=B b _ (M b o e) D (A b o e a) y (I.base.free b o e n a);exact ⟨P,N⟩
 ·obtain ⟨o',y⟩:=I.base.there b o e a;exact f b o' (A b o e a) y (I.base.free b o e n a)
 ·obtain ⟨o',y⟩:=I.base.there b o e a;exact C b o' (A b o e a) y
 ·obtain ⟨m1,y⟩:=I.base.tbls b ps e;obtain ⟨m2,N⟩:=K b _ y;exact ⟨m1++m2,by rw [N,Array.append_assoc]⟩
 ·obtain ⟨m,Y,E⟩:=I.loc;refine i02 m (ns m Y) λi x v y N U=> ?_;obtain ⟨u,r,l⟩:=E i x v y N U;refine i02 u r ?_;rcases l with l | ⟨k,c,e,z⟩
  ·exact .inl l
  ·exact .inr (i05 k c e (j x c e _ z))
 ·obtain ⟨v,z⟩:=I.cell x c e;exact ⟨v,j x c e v z⟩
 ·obtain ⟨m,⟨o,_,_,F,_⟩,_⟩:=I.loc;exact f _ o (λz=>(h _ z).2.1 rfl) F I.free
 ·obtain ⟨v,o,F,O⟩:=I.cell x c e;exact f c o (λz=>(h c z).2.2.1 x c e rfl) F (I.freeC x c e)
 ·obtain ⟨e,n,S,T,d⟩:=I.pin p R;have t:p.1∉ch:=λz=>(h p.1 z).2.2.2 p R rfl;exact i09 (g p.1 p.2 S T t e n) (f p.1 p.2 t e n) S T d
theorem Inv.un {t':Nat} (I:Inv X pins Z H s) (u:Un X.fs [] H H' s.heap h') (d:HOk X.prog X.w H' h'):Inv X pins Z H' { s with heap:=h',toks:=t' }:=by
 obtain ⟨m,⟨o,v,p,h,r⟩,_⟩:=id I.loc;obtain ⟨l,k⟩:=u.any h I.free (by simp)
 exact I.step (g':=s.gens) (d':=s.drawn) (ch:=[]) (λ_ z=>nomatch z) (λb o _ g _ e n=>u.keep b o e n g (by simp)) (λb o _ g _ e n=>u.slot b o e n g (by simp)) (λb o _ e n=>u.free b o e n (by simp)) (λb o _ e=>u.there b o e (by simp)) u.tups u.frzs u.tbls (λt j=>by
  obtain ⟨q,f,c,a,i⟩:=j;rw [h] at a;cases a
  exact i0g _ f c k i) d I.bare
theorem Inv.call {g':Array GenState} {t':Nat} {d':Drawn} {ch:List Addr} (I:Inv X pins Z H s) (u:Un (frs X.stack) ch H H' s.heap h') (h:HOk X.prog X.w H' h') (q:AllBare g')
  (f:∀b∈ch,(b∈X.ex\/X.s₀.heap.objs.size<=b)/\b≠X.env.locals/\(∀x c,X.env.cells.lookup x=some c->c≠b)/\∀p∈X.pn++pins,p.1≠b) :
  Inv X pins Z H' { s with heap:=h',gens:=g',drawn:=d',toks:=t' }:=by
 obtain ⟨m,⟨o,D,A,k,r⟩,_⟩:=id I.loc;obtain ⟨y,j⟩:=u.any k I.free λz=>(f _ z).2.1 rfl
 exact I.step (ch:=ch) f (λb o j v a e n=>u.keep b o e n (λz=>(Z0e.mp (I.stkSub b z)).elim j v) a) (λb o _ _ a e n=>u.any e n a) (λb o a e n=>u.free b o e n a) (λb o a e=>u.there b o e a) u.tups u.frzs u.tbls (λC t=>by
  obtain ⟨B,i,g,d,l⟩:=t;rw [k] at d;cases d
  exact i0g _ i g j l) h q
theorem Inv.turned {t':Nat} {it:Addr} (I:Inv X pins Z H s) (k:∀b o,b≠it->s.heap.get? b=some o->h'.get? b=some o) (i:H it=none) (f:it≠X.env.locals)
  (h1:it∈X.ex\/X.s₀.heap.objs.size<=it) (h2:∀x c,X.env.cells.lookup x=some c->c≠it) (l:∀p∈X.pn++pins,p.1≠it):Inv X pins Z H { s with heap:=h',toks:=t' }:=by
 have d:∀b u,H b=some u->b≠it:=λb u e z=>by rw [z,i] at e;cases e
 refine I.step (g':=s.gens) (d':=s.drawn) (ch:=[it]) (λb t=> ?_) (λb o _ _ a e _=>k b o (λz=>a (by simp [z])) e) (λb o _ _ a e _=>⟨o.slots,k b o (λz=>a (by simp [z])) e⟩) (λ_ _ _ _ n=>n)
  (λb o a e=>⟨o,k b o (λz=>a (by simp [z])) e⟩) (λ_ _ e=>e) (λ_ _ _ e=>e) (λb y e=>⟨#[],by rw [e];simp⟩) (λm j=> ?_) (λb u e=> ?_) I.bare
 ·have e:b=it:=by simpa using t
  subst e;exact i04 h1 f h2 l
 ·obtain ⟨o,w,h,g,r⟩:=j;exact i0g o w h (k _ o (Ne.symm f) g) r
 ·refine (I.hok b u e).stay (λc v a q=>k c v ?_ q) (λ_ q=>q) λ_ _ q=>q;rcases a with z | z
  ·rw [z];exact d b u e
  ·exact d c _ z
theorem Inv.tok (I:Inv X pins Z H s) (t:Nat):Inv X pins Z H { s with toks:=t }:=I.un (h':=s.heap) (t':=t) Un.refl I.hok
theorem Inv.kept {t':Nat} (I:Inv X pins Z H s) (k:∀b u,s.heap.get? b=some u->h'.get? b=some u):Inv X pins Z H { s with heap:=h',toks:=t' }:=I.un (Un.kept k) (I.hok.kept k)
theorem Inv.laid {a:Addr} {o:HO} {t':Nat} (I:Inv X pins Z H s) (k:∀b u,s.heap.get? b=some u->h'.get? b=some u) (c:s.heap.objs.size<=a) (d:A2q X.prog X.w (upd H a o) h' a o) :
  Inv X pins Z (upd H a o) { s with heap:=h',toks:=t' }:=I.un (Un.laid k c (I.hok.fresh c)) (I.hok.laid k c d)
theorem Inv.write {x e:Addr} {o:HO} {t':Nat} (I:Inv X pins Z H s) (d:Mut (H x)) (f:e=x\/H e=some (.own x)) (k:∀b u,b≠e->s.heap.get? b=some u->h'.get? b=some u) (a:∃u,h'.get? e=some u)
  (c:A2q X.prog X.w (upd H x o) h' x o):Inv X pins Z (upd H x o) { s with heap:=h',toks:=t' }:=I.un (Un.write d f k a) (I.hok.write d f k a c)
theorem Inv.weak {Z':List (Option V)} (I:Inv X pins Z H s) (c:Z'.length=Z.length) (w:∀(i:Nat) v,Z'[i]? =some (some v)->Z[i]? =some (some v)):Inv X pins Z' H s :=
 ⟨I.ok,I.os,I.bare,I.base,let ⟨m,hn,hl'⟩:=I.loc;(i02 m hn λi x v d a b=>hl' i x v d (w i v a) b),I.cell,I.free,I.freeC,I.pin,I.hok,c.trans I.len⟩
theorem Inv.pins_of {a:List (Addr×Obj)} (I:Inv X pins Z H s) (h:∀p∈a,s.heap.get? p.1=some p.2/\H p.1=none/\p.1≠X.env.locals/\p.1∉X.fs/\∀v,p.2.data≠.cell v):Inv X a Z H s :=
 ⟨I.ok,I.os,I.bare,I.base,I.loc,I.cell,I.free,I.freeC,λp b=>(Z07.mp b).elim (λz=>I.pin p (Z05 _ z)) (h p),I.hok,I.len⟩
theorem C2l {N:List Str} (d:N.Nodup) {i j:Nat} {x:Str} (a:N[i]? =some x) (b:N[j]? =some x):i=j:=by
 obtain ⟨g,e⟩:=Z03.mp a;obtain ⟨f,c⟩:=Z03.mp b;exact (List.getElem_inj d).mp (e.trans c.symm)
theorem B8y {M:Model} {A:Around} {E:Value->Shared->Prop} {i:Nat} {x:Str} {v:V} {u:Value} {Q:Unit->Shared->Prop} (I:Inv X pins Z H s) (hN:X.N.Nodup) (hi:X.N[i]? =some x) (B:Loc X.env.scope x) (r:A3c v u)
  (h:∀s',Inv X pins (Z.set i (some v)) H s'->(∃a,Heap.SameBut a s.heap s'.heap/\(a=X.env.locals\/X.env.cells.lookup x=some a))->Q () s') (hf:X.fn x=true\/X.env.scope.names.lookup x=some .local:=by first | exact .inl rfl | exact .inr rfl | assumption):wpAny M A (storeName X.env x u) Q E s:=by
 obtain ⟨m,hn,hl⟩:=id I.loc;have O:(X.env.scope.kind == .class||(X.env.scope.kind == .module&&X.env.locals != X.env.globals))=false:=by rw [I.ok.kind];rfl
 have P:i<Z.length:=by rw [I.len];exact (Z03.mp hi).1
 have G:=I.cne
 have l:∀{a:Addr} {h':Heap},(∃o,s.heap.get? a=some o/\H a=none)->Heap.SameBut a s.heap h'->HOk X.prog X.w H h':=λ{a h'} ha f b ob e=>by
  obtain ⟨_,_,C⟩:=ha;refine (I.hok b ob e).stay (λc U t q=>(f.2 c ?_).trans q) (λ_ q=>q) λ_ _ q=>q;rintro rfl;rcases t with rfl | t
  ·rw [C] at e;cases e
  ·rw [C] at t;cases t
 rcases B with F | F
 ·refine wpAny_storeName_local F hn (λh' Y f=> ?_) O;obtain ⟨oL,_,_,a0,_⟩:=id hn;refine h _ ⟨I.ok,I.os,I.bare,⟨λb o e n K B=> ?_,λb o e n K B=> ?_,I.base.free,λb o e B=> ?_,I.base.tups,I.base.frzs,I.base.tbls⟩,(i02 _ Y λj y v' g D e3=> ?_),λy c e=> ?_,I.free,I.freeC,λp hp=> ?_,l (i02 oL a0 I.free) f,by simpa using I.len⟩ (i02 _ f (.inl rfl))
  ·exact (f.2 b (Z0h (Z0q (Z0a e) I.ok.above))).trans (I.base.keep b o e n K B)
  ·obtain ⟨sl,g⟩:=I.base.slot b o e n K B;exact ⟨sl,(f.2 b (Z0h (Z0q (Z0a e) I.ok.above))).trans g⟩
  ·obtain ⟨o',g⟩:=I.base.there b o e B;exact ⟨o',(f.2 b (Z0h (Z0q (Z0a e) I.ok.above))).trans g⟩
  ·by_cases hj:j=i
   ·subst hj;rw [hi] at g;cases g;rw [Z23 P] at D;cases D;exact i02 u r (.inl ⟨F,by simp⟩)
   ·rw [Z2a (Ne.symm hj)] at D;obtain ⟨u',r',q⟩:=hl j y v' g D e3;refine i02 u' r' ?_;rcases q with ⟨k,e⟩ | ⟨k,c,e,z⟩
    ·refine .inl ⟨k,?_⟩;have:y≠x:=λe=>hj (C2l hN g (e▸hi));simp [this,e]
    ·exact .inr (i05 k c e (z.sameBut f (G y c e)))
  ·obtain ⟨U,z⟩:=I.cell y c e;exact ⟨U,z.sameBut f (G y c e)⟩
  ·obtain ⟨e,n,W,nf,d⟩:=I.pin p hp;exact i09 ((f.2 p.1 W).trans e) n W nf d
 ·have J:X.fn x=true:=by
   rcases hf with z | z
   ·exact z
   ·rw [z] at F;cases F
  obtain ⟨c,t⟩:=I.ok.has x (.inl F);obtain ⟨U,z⟩:=I.cell x c t;refine wpAny_storeName_cell I.ok.kind F t z (λh' S f=> ?_);obtain ⟨oc,L,R⟩:=id z;refine h { s with heap:=h' } ⟨I.ok,I.os,I.bare,⟨λb o e n K B=> ?_,λb o e n K B=> ?_,I.base.free,λb o e B=> ?_,I.base.tups,I.base.frzs,I.base.tbls⟩,(i02 m (hn.sameBut f (Ne.symm (G x c t))) λj y v' g D e3=> ?_),λy T e=> ?_,I.free,I.freeC,λp hp=> ?_,l (i02 oc L (I.freeC x c t)) f,by simpa using I.len⟩ (i02 c f (.inr t))
  ·exact (f.2 b (Z0h (Z0q (Z0a e) (I.ok.cab x c J t)))).trans (I.base.keep b o e n K B)
  ·obtain ⟨sl,g⟩:=I.base.slot b o e n K B;exact ⟨sl,(f.2 b (Z0h (Z0q (Z0a e) (I.ok.cab x c J t)))).trans g⟩
  ·obtain ⟨o',g⟩:=I.base.there b o e B;exact ⟨o',(f.2 b (Z0h (Z0q (Z0a e) (I.ok.cab x c J t)))).trans g⟩
  ·by_cases hj:j=i
   ·subst hj;rw [hi] at g;cases g;rw [Z23 P] at D;cases D;exact i02 u r (.inr (i05 (.inl F) c t S))
   ·rw [Z2a (Ne.symm hj)] at D;obtain ⟨u',r',q⟩:=hl j y v' g D e3;refine i02 u' r' ?_;rcases q with q | ⟨k,T,e,z'⟩
    ·exact .inl q
    ·refine .inr (i05 k T e (z'.sameBut f ?_));rintro rfl;exact hj (C2l hN g (I.ok.inj _ _ _ e t▸hi))
  ·by_cases hcc:T=c
   ·subst hcc;exact ⟨_,S⟩
   ·obtain ⟨w2,z2⟩:=I.cell y T e;exact ⟨w2,z2.sameBut f hcc⟩
  ·obtain ⟨e,n,W,nf,d⟩:=I.pin p hp;refine i09 ((f.2 p.1 ?_).trans e) n W nf d;intro q;rw [q,L] at e;have q':oc=p.2:=Z1a e;exact d U (by rw [<-q'];exact R)
theorem C4d {M:Model} {A:Around} {E:Value->Shared->Prop} {i:Nat} {x:Str} {v:V} {u:Value} {Q:Unit->Shared->Prop} (I:Inv X pins Z H s) (b:X.N.Nodup) (hi:X.N[i]? =some x) (c:Loc X.env.scope x) (r:A3c v u)
  (h:∀s',Inv X pins (Z.set i (some v)) H s'->Q () s') (a:X.fn x=true\/X.env.scope.names.lookup x=some .local:=by first | exact .inl rfl | exact .inr rfl | assumption):wpAny M A (storeName X.env x u) Q E s :=
 B8y I b hi c r (λs' I' _=>h s' I') a
theorem Inv.call' {s':Shared} {ch:List Addr} (I:Inv X pins Z H s) (f:s'.os=s.os) (u:Un (frs X.stack) ch H H' s.heap s'.heap) (a:HOk X.prog X.w H' s'.heap) (g:AllBare s'.gens)
  (d:∀b∈ch,(b∈X.ex\/X.s₀.heap.objs.size<=b)/\b≠X.env.locals/\(∀x c,X.env.cells.lookup x=some c->c≠b)/\∀p∈X.pn++pins,p.1≠b):Inv X pins Z H' s':=by
 obtain ⟨i,g',d',t',h⟩:=s';have e:h=s.os:=f;subst e;exact I.call (g':=g') (t':=t') (d':=d') u a g d
end
abbrev XK:=Value->Option Addr->Hp->Prop
abbrev St:=List (Option V)
abbrev VK:=V->Hp->Prop
abbrev TE:=St->Hp->VK->Prop
abbrev TT:=St->Hp->(Bool->Hp->Prop)->Prop
abbrev TA:=St->Hp->(List V->Hp->Prop)->Prop
structure C6a where
 nx:St->Hp->Prop
 rt:VK
 bk:St->Hp->Prop:=λ_ _=>False
 ct:St->Hp->Prop:=λ_ _=>False
abbrev TS:=C6a->St->Hp->Prop
def EP (X:Cx) (pins:List (Addr×Obj)) (Z:St) (Q:VK) (u:Value) (s':Shared):Prop:=∃v a,Inv X pins Z a s'/\A3c v u/\Q v a
def TP (X:Cx) (pins:List (Addr×Obj)) (Z:St) (Q:Bool->Hp->Prop) (b:Bool) (s':Shared):Prop:=∃a,Inv X pins Z a s'/\Q b a
def AP (X:Cx) (pins:List (Addr×Obj)) (Z:St) (Q:List V->Hp->Prop) (us:List Value) (s':Shared):Prop:=∃b a,Inv X pins Z a s'/\A3z b us/\Q b a
def SP (X:Cx) (pins:List (Addr×Obj)) (D:C6a) (f:Flow) (s':Shared):Prop :=
 match f with
 | .next=>∃Z' a,Inv X pins Z' a s'/\D.nx Z' a
 | .brk=>∃Z' a,Inv X pins Z' a s'/\D.bk Z' a
 | .cont=>∃Z' a,Inv X pins Z' a s'/\D.ct Z' a
 | .ret u=>∃v Z' a,Inv X pins Z' a s'/\A3c v u/\D.rt v a
def PE (X:Cx) (e:Expr) (t:TE):Prop :=
 ∀(a:List (Addr×Obj)) (s:Shared) (Z:St) (H:Hp) (Q:VK),Inv X a Z H s->t Z H Q->wpAny (model X.prog X.w) X.A (eval e X.env) (EP X a Z Q) X.xe s
def PT (X:Cx) (e:Expr) (t:TT):Prop :=
 ∀(a:List (Addr×Obj)) (s:Shared) (Z:St) (H:Hp) (Q:Bool->Hp->Prop),Inv X a Z H s->t Z H Q->wpAny (model X.prog X.w) X.A (isTrue e X.env (eval e X.env)) (TP X a Z Q) X.xe s
def PW (X:Cx) (e:Expr) (t:TT):Prop :=
 ∀(b:Sem Value) (a:List (Addr×Obj)) (s:Shared) (Z:St) (H:Hp) (Q:Bool->Hp->Prop),Inv X a Z H s->t Z H Q->wpAny (model X.prog X.w) X.A (isTrue e X.env b) (TP X a Z Q) X.xe s
theorem PW.pt {X:Cx} {e:Expr} {t:TT} (h:PW X e t):PT X e t:=h _
def PA (X:Cx) (es:List Expr) (t:TA):Prop :=
 ∀(b:Pos) (a:List (Addr×Obj)) (s:Shared) (Z:St) (H:Hp) (Q:List V->Hp->Prop),Inv X a Z H s->t Z H Q->wpAny (model X.prog X.w) X.A (spliced (backTo b (starEach es X.env))) (AP X a Z Q) X.xe s
def PS (X:Cx) (st:Stmt) (t:TS):Prop :=
 ∀(a:List (Addr×Obj)) (s:Shared) (Z:St) (H:Hp) (D:C6a),Inv X a Z H s->t D Z H->wpAny (model X.prog X.w) X.A (exec st X.env) (SP X a D) X.xe s
def PSs (X:Cx) (st:List Stmt) (t:TS):Prop :=
 ∀(a:List (Addr×Obj)) (s:Shared) (Z:St) (H:Hp) (D:C6a),Inv X a Z H s->t D Z H->wpAny (model X.prog X.w) X.A (execs st X.env) (SP X a D) X.xe s
theorem thn {α:Type} {t:Sem α} {Q b:α->Shared->Prop} {M:Model} {A:Around} {E:Value->Shared->Prop} {s:Shared} (h:wpAny M A t Q E s) (c:∀a s,Q a s->b a s):wpAny M A t b E s:=Z10 h c λ_ _ x=>x
section
variable {X:Cx}
def C6p (i:Nat):TE:=λZ H Q=>∃v,Z[i]? =some (some v)/\Q v H
def tC (v:V):TE:=λ_ H Q=>Q v H
theorem D9u {i:Nat} {x:Str} {pos:Pos} (k:X.N[i]? =some x) (p:Vis X.env.scope x) (g:(x == ("__debug__":Str))=false:=by decide) (f:(x == ("__classdict__":Str))=false:=by decide):PE X (.Name x pos) (C6p i):=by
 intro d s Z H Q I h;obtain ⟨v,e,h⟩:=h;obtain ⟨m,n,q⟩:=I.loc;obtain ⟨u,r,l⟩:=q i x v k e p;have fin:EP X d Z Q u s:=(i0f v H I r h);rcases l with ⟨b,o⟩ | ⟨b,c,j,a⟩
 ·exact wpAny_Name (wpAny_loadName_local I.ok.kind b n o fin) g
 ·rcases b with b | b
  ·exact wpAny_Name (wpAny_loadName_cell I.ok.kind b j a fin) g
  ·exact wpAny_Name (wpAny_loadName_free I.ok.kind b j a fin f) g
theorem A0d {i j pos}:PE X (.Constant (.int i) j pos) (tC (.int i)):=λ_ _ _ H _ I h=>wpAny_Constant_int (i0f (.int i) H (I.tok _) ⟨_,rfl⟩ h)
theorem D3b {b j pos}:PE X (.Constant (.bool b) j pos) (tC (.bl b)):=λ_ _ _ H _ I h=>Constant_bool (i0f (.bl b) H I rfl h)
theorem B9t {j pos}:PE X (.Constant .none j pos) (tC .non):=λ_ _ _ H _ I h=>Constant_none (i0f .non H I rfl h)
theorem A1w {x j pos}:PE X (.Constant (.str x) j pos) (tC (.str x)):=λ_ _ _ H _ I h=>Calls.Constant_str (i0f (.str x) H (I.tok _) ⟨_,rfl⟩ h)
def Gl (X:Cx) (x:Str):Prop:=X.env.kindOf x=some .globalImplicit
theorem C0i {E:Value->Shared->Prop} {pins:List (Addr×Obj)} {s:Shared} {Z:St} {H:Hp} {x:Str} {u:Value} {pos:Pos} {Q:Value->Shared->Prop} (I:Inv X pins Z H s) (a:Gl X x) (b:X.mg x=some u) (h:Q u s)
  (c:(x == ("__debug__":Str))=false:=by decide):wpAny (model X.prog X.w) X.A (eval (.Name x pos) X.env) Q E s :=
 Calls.Name_function_global I.ok.kind a (Calls.loadGlobal_global (by rw [I.ok.glob];exact I.mod.glob.keeps I.bk) b h) c
theorem B1t {E:Value->Shared->Prop} {pins:List (Addr×Obj)} {s:Shared} {Z:St} {H:Hp} {x:Str} {u:Value} {pos:Pos} {Q:Value->Shared->Prop} (I:Inv X pins Z H s) (e:Gl X x) (g:X.mg x=none) (a:bootBuiltins x=some u) (h:Q u s)
  (f:x≠"__name__":=by decide) (c:(x == ("__debug__":Str))=false:=by decide):wpAny (model X.prog X.w) X.A (eval (.Name x pos) X.env) Q E s:=by
 obtain ⟨i,b,d⟩:=I.mod.blt;exact Calls.Name_function_global I.ok.kind e (Calls.loadGlobal_builtin (by rw [I.ok.glob];exact I.mod.glob.keeps I.bk) g (by rw [I.ok.blt];exact b.keeps I.bk) ((d x f).trans a) h) c
theorem A3k {x:Str} {v:V} {u:Value} {pos:Pos} (b:Gl X x) (c:X.mg x=some u) (r:A3c v u) (a:(x == ("__debug__":Str))=false:=by decide):PE X (.Name x pos) (tC v) :=
 λ_ _ _ H _ I h=>C0i I b c (i0f v H I r h) a
theorem A5f {x:Str} {v:V} {u:Value} {pos:Pos} (c:Gl X x) (e:X.mg x=none) (a:bootBuiltins x=some u) (r:A3c v u) (d:x≠"__name__":=by decide) (b:(x == ("__debug__":Str))=false:=by decide):PE X (.Name x pos) (tC v) :=
 λ_ _ _ H _ I h=>B1t I c e a (i0f v H I r h) d b
variable {a b:Expr} {ta tb:TE} {pos:Pos}
def PC (X:Cx) (op:CmpOp) (a b:Expr) (t:TE):Prop :=
 ∀(c:List (Addr×Obj)) (s:Shared) (Z:St) (H:Hp) (Q:VK),Inv X c Z H s->t Z H Q->
  wpAny (model X.prog X.w) X.A (eval a X.env) (λv d=>wpAny (model X.prog X.w) X.A (eval b X.env) (λu e=>wpAny (model X.prog X.w) X.A (compareOp op v u) (EP X c Z Q) X.xe e) X.xe d) X.xe s
def tB (t:TE):TT:=λZ H Q=>t Z H λx a=>∃c,x= .bl c/\Q c a
theorem D8r {op:CmpOp} {t:TE} (h:PC X op a b t) (h1:behindInMarks op b=false:=by first | exact nobehind _ (by decide) (by decide) | rfl):PT X (.Compare a [op] [b] pos) (tB t):=by
 intro e s Z H Q I k;refine wpAny_isTrue_Compare1 (thn (h e s Z H _ I k) λv n h1=>thn h1 λu m j=>thn j ?_) h1;rintro c l ⟨x,i,I1,f,g⟩;obtain ⟨d,rfl,q⟩:=g;cases f;exact wpAny_truthy_bool (i02 i I1 q)
theorem A2s {e:Expr} {t:TE} (h:PE X e t) (j:∀a,isTrue e X.env a=(do let v<-a;standAt e.pos;holding [v] (truthy v)):=by intro _;rfl):PT X e (tB t):=by
 intro b s Z H Q I i;refine isTrue_plain (thn (h b s Z H _ I i) ?_) (j _);rintro v k ⟨x,g,I1,c,f⟩;obtain ⟨d,rfl,q⟩:=f;cases c;exact wpAny_truthy_bool (i02 g I1 q)
variable {tA tB':TT} {rest:List Expr}
def D6x (t u:TT):TT:=λZ H Q=>t Z H λc a=>if c=true then u Z a Q else Q false a
def tOr (t u:TT):TT:=λZ H Q=>t Z H λc a=>if c=true then Q true a else u Z a Q
theorem A4f (d:PT X a tA):PW X (.BoolOp .And [a] pos) tA:=by
 intro f b s Z H Q I h;refine isTrue_and (thn (d b s Z H Q I h) λc g e=> ?_)
 cases c with
 | true=>exact isTrue_and_nil e
 | false=>exact e
theorem B5s (d:PT X a tA):PW X (.BoolOp .Or [a] pos) tA:=by
 intro f b s Z H Q I h;refine isTrue_or (thn (d b s Z H Q I h) λc g e=> ?_)
 cases c with
 | false=>exact isTrue_or_nil e
 | true=>exact e
theorem A3x (g:PT X a tA) (i:PW X (.BoolOp .And (b::rest) pos) tB'):PW X (.BoolOp .And (a::b::rest) pos) (D6x tA tB'):=by
 intro j d s Z H Q I h;refine isTrue_and (thn (g d s Z H _ I h) ?_);rintro c k ⟨f,I1,e⟩
 cases c with
 | true=>exact i j d k Z f Q I1 e
 | false=>exact i02 f I1 e
theorem B6l (g:PT X a tA) (i:PW X (.BoolOp .Or (b::rest) pos) tB'):PW X (.BoolOp .Or (a::b::rest) pos) (tOr tA tB'):=by
 intro j d s Z H Q I h;refine isTrue_or (thn (g d s Z H _ I h) ?_);rintro c k ⟨f,I1,e⟩
 cases c with
 | true=>exact i02 f I1 e
 | false=>exact i j d k Z f Q I1 e
end
def SqL (K:Frag) (H:Hp) (a:Addr) (xs:List V):Prop :=
 Rd H a (.lst xs)\/
  ∃(o:Obj) (b:Array Value) (n:Nat),K.lookup a=some o/\o.cls= .type "list"/\o.dict=none/\o.data= .seq b n/\b.size<=sizeLine/\A3z xs b.toList
def SqT (K:Frag) (H:Hp) (a:Addr) (xs:List V):Prop :=
 Rd H a (.tup xs)\/
  ∃(o:Obj) (b:Array Value) (n:Nat),K.lookup a=some o/\o.cls= .type "tuple"/\o.data= .seq b n/\b.size<=sizeLine/\A3z xs b.toList
noncomputable def absV:Value->Option V
 | .none=>some .non
 | .bool b=>some (.bl b)
 | .int i _=>some (.int i)
 | .str x _=>some (.str x)
 | .bytes b _=>some (.byt b)
 | .float b _=>some (.flt b)
 | .ref a=>some (.ref a)
 | .type n=>some (.ty n)
 | _=>none
theorem A3c.abs {x:V} {u:Value} (r:A3c x u):absV u=some x:=by
 cases x with
 | non=>cases r;rfl
 | bl _=>cases r;rfl
 | int _=>obtain ⟨t,rfl⟩:=r;rfl
 | str _=>obtain ⟨t,rfl⟩:=r;rfl
 | byt _=>obtain ⟨t,rfl⟩:=r;rfl
 | flt _=>obtain ⟨t,rfl⟩:=r;rfl
 | ref _=>cases r;rfl
 | ty _=>cases r;rfl
theorem A3c.inj {x y:V} {u:Value} (r:A3c x u) (q:A3c y u):x=y:=Z1a (r.abs.symm.trans q.abs)
theorem A3z.inj:∀{xs ys:List V} {us:List Value},A3z xs us->A3z ys us->xs=ys
 | _,_,_,.nil,.nil=>rfl
 | _,_,_,.cons r t,.cons r' t'=>by rw [r.inj r',A3z.inj t t']
section
variable {X:Cx} {pins:List (Addr×Obj)} {Z:St} {H:Hp} {s:Shared} {a:Addr} {xs ys:List V}
theorem SqL.of {K:Frag} (h:H a=some (.lst xs)):SqL K H a xs:= .inl (.inl h)
theorem SqT.of {K:Frag} (h:H a=some (.tup xs)):SqT K H a xs:= .inl (.inl h)
theorem Inv.list (I:Inv X pins Z H s) (h:SqL X.K H a xs):∃its:List Value,A3z xs its/\PlainL s.heap a its.toArray/\xs.length<=sizeLine:=by
 rcases h with h | ⟨o,its,n,c,d,b,f,g,r⟩
 ·obtain ⟨z,its,n,r,e⟩:=h.ok I.hok;exact i06 its r (i0m _ n e rfl rfl rfl) z
 ·refine i06 its.toList r (i0m o n (I.kIn a o c) d b (by simpa using f)) ?_;have e:=r.length;simp only [Array.length_toList] at e
  lia
theorem Inv.tuple (I:Inv X pins Z H s) (h:SqT X.K H a xs):∃its:List Value,A3z xs its/\IsTup s.heap a its.toArray/\xs.length<=sizeLine:=by
 rcases h with h | ⟨o,its,n,b,c,d,f,r⟩
 ·obtain ⟨z,its,r,p⟩:=h.ok I.hok;exact i06 its r p z
 ·refine i06 its.toList r (i0d o (I.kIn a o b) c n (by simpa using d)) ?_;have e:=r.length;simp only [Array.length_toList] at e
  lia
theorem Inv.list_inj (I:Inv X pins Z H s) (h:SqL X.K H a xs) (h':SqL X.K H a ys):xs=ys:=by
 obtain ⟨c,r,⟨o,n,e,_,_,d⟩,_⟩:=I.list h;obtain ⟨b,i,⟨k,j,g,_,_,f⟩,_⟩:=I.list h';rw [e] at g;cases g;rw [d] at f;injection f with d1 _;have:c=b:=by simpa using congrArg Array.toList d1
 subst this;exact r.inj i
theorem Inv.tuple_inj (I:Inv X pins Z H s) (h:SqT X.K H a xs) (h':SqT X.K H a ys):xs=ys:=by
 obtain ⟨c,r,⟨o,e,_,n,d⟩,_⟩:=I.tuple h;obtain ⟨b,i,⟨k,g,_,j,f⟩,_⟩:=I.tuple h';rw [e] at g;cases g;rw [d] at f;injection f with d1 _;have:c=b:=by simpa using congrArg Array.toList d1
 subst this;exact r.inj i
end
abbrev Cx.wish (X:Cx) (E:Value->Shared->Prop):Cx:={ X with xe:=E }
abbrev Cx.nox (X:Cx):Cx:=X.wish λ_ _=>False
theorem Cx.Ok.wish {X:Cx} (a:X.Ok) (E:Value->Shared->Prop):(X.wish E).Ok :=
 ⟨a.mod,a.kind,a.glob,a.blt,a.above,a.inj,a.has,a.cab,a.hd,a.frames,a.stk,a.exf,a.bs,a.bsz,a.noex,a.exfs,a.funs,a.frf⟩
theorem Cx.Ok.unwish {X:Cx} {E:Value->Shared->Prop} (a:(X.wish E).Ok):X.Ok :=
 ⟨a.mod,a.kind,a.glob,a.blt,a.above,a.inj,a.has,a.cab,a.hd,a.frames,a.stk,a.exf,a.bs,a.bsz,a.noex,a.exfs,a.funs,a.frf⟩
section
variable {X:Cx} {pins:List (Addr×Obj)} {Z:St} {H:Hp} {s:Shared} {E:Value->Shared->Prop}
theorem Inv.wish (I:Inv X pins Z H s) (E:Value->Shared->Prop):Inv (X.wish E) pins Z H s:=⟨I.ok.wish E,I.os,I.bare,I.base,I.loc,I.cell,I.free,I.freeC,I.pin,I.hok,I.len⟩
theorem Inv.unwish (I:Inv (X.wish E) pins Z H s):Inv X pins Z H s:=⟨I.ok.unwish,I.os,I.bare,I.base,I.loc,I.cell,I.free,I.freeC,I.pin,I.hok,I.len⟩
theorem SP.unwish {D:C6a} {f:Flow} {s':Shared} (h:SP (X.wish E) pins D f s'):SP X pins D f s':=by
 cases f with
 | next=>obtain ⟨Z',a,I,q⟩:=h;exact i07 Z' a I.unwish q
 | brk=>obtain ⟨Z',a,I,q⟩:=h;exact i07 Z' a I.unwish q
 | cont=>obtain ⟨Z',a,I,q⟩:=h;exact i07 Z' a I.unwish q
 | ret u=>obtain ⟨v,Z',a,I,r,q⟩:=h;exact i0n v Z' a I.unwish r q
theorem PSs.nox {st:List Stmt} {t:TS} (h:PSs X.nox st t):PSs X st t:=λa s Z H D I b =>
 Z10 (h a s Z H D (I.wish _) b) (λ_ _ q=>q.unwish) λ_ _ z=>False.elim z
end
section
variable {X:Cx} {st:Stmt} {rest:List Stmt} {t u:TS} {e:Expr} {te:TE} {pos:Pos}
def C7r:TS:=λD Z H=>D.nx Z H
def D3l (t u:TS):TS:=λD Z H=>t { D with nx:=u D } Z H
theorem A0x:PSs X [] C7r:=λ_ _ Z H _ I h=>Z2b (i07 Z H I h)
theorem A1u (h1:PS X st t) (h2:PSs X rest u):PSs X (st::rest) (D3l t u):=by
 intro a s Z H D I h;refine wpAny_execs_cons (thn (h1 a s Z H { D with nx:=u D } I h) λf c q=> ?_)
 cases f with
 | next =>
  obtain ⟨Z',b,I',q⟩:=q;exact h2 a c Z' b D I' q
 | ret v=>exact q
 | brk=>exact q
 | cont=>exact q
theorem A2y (h1:PS X st t):PSs X [st] t:=by
 intro a s Z H D I h;refine wpAny_execs_cons (thn (h1 a s Z H D I h) λf b q=> ?_)
 cases f with
 | next=>exact Z2b q
 | ret v=>exact q
 | brk=>exact q
 | cont=>exact q
theorem Inv.quiet {pins:List (Addr×Obj)} {Z:St} {H:Hp} {s:Shared} (I:Inv X pins Z H s):interactive X.env=false:=by simp [interactive,I.ok.kind]
def E4b (te:TE):TS:=λD Z H=>te Z H λ_ a=>D.nx Z a
theorem A2r (f:PE X e te) (b:swapsWith e none pos.line X.env=pure false:=by rfl):PS X (.Expr e pos) (E4b te):=by
 intro a s Z H D I h;exact wpAny_Expr_any (thn (f a s Z H _ I h) (by rintro v i ⟨x,d,I1,g,c⟩;exact i07 Z d I1 c)) I.quiet b
def E4l (te:TE):TS:=λD Z H=>te Z H D.rt
theorem B3j (f:PE X e te):PS X (.Return (some e) pos) (E4l te):=by
 intro a s Z H D I h;exact wpAny_Return_some (thn (f a s Z H _ I h) (by rintro v g ⟨x,d,I1,c,b⟩;exact i0n x Z d I1 c b))
def D6u (c:TT) (t u:TS):TS:=λD Z H=>c Z H λb a=>if b=true then t D Z a else u D Z a
theorem B5f {c:Expr} {a b:List Stmt} {tc:TT} (l:PT X c tc) (j:PSs X a t) (k:PSs X b u):PS X (.If c a b pos) (D6u tc t u):=by
 intro e s Z H D I h;refine wpAny_If (thn (l e s Z H _ I h) ?_);rintro d i ⟨g,I1,f⟩
 cases d with
 | true=>exact j e i Z g D I1 f
 | false=>exact k e i Z g D I1 f
end
variable {es:List Expr} {u:Value} {g:Int->Int->Int} {pins:List (Addr×Obj)} {Z:St} {H:Hp} {s:Shared} {A:Around} {E Q:Value->Shared->Prop} {o:Option Value} {vs:List V} {P:Program} {w:World} {K:Frag} {R:Result->Shared->Prop} {pos:Pos} {fp:List Addr} {h base:Heap} {pl:Sem Bool} {body:List Stmt} {f:Value->Value->Sem Value} {op:CmpOp} {C:Addr} {us:List Value} {mA mg:Str->Option Value} {kw:List (Str×Value)} {CX:CXT} {fd:FuncData} {ps:List Str} {outer:List Env} {scope:Scope} {osl:Array (Option Value)}
abbrev TG:=V->St->Hp->(St->Hp->Prop)->Prop
abbrev TGs:=List V->St->Hp->(St->Hp->Prop)->Prop
def PG (X:Cx) (a:Expr) (t:TG):Prop :=
 ∀(b:List (Addr×Obj)) (s:Shared) (Z:St) (H:Hp) (v:V) (u:Value) (Q:St->Hp->Prop),Inv X b Z H s->A3c v u->t v Z H Q->
  wpAny (model X.prog X.w) X.A (assign a X.env u) (λ_ d=>∃Z' c,Inv X b Z' c d/\Q Z' c) X.xe s
def PGs (X:Cx) (ts:List Expr) (t:TGs):Prop :=
 ∀(a:List (Addr×Obj)) (s:Shared) (Z:St) (H:Hp) (c:List V) (b:List Value) (Q:St->Hp->Prop),Inv X a Z H s->A3z c b->t c Z H Q->
  wpAny (model X.prog X.w) X.A (assignInOrder ((assignEach ts X.env).map (·.2)) b) (λ_ e=>∃Z' d,Inv X a Z' d e/\Q Z' d) X.xe s
section
variable {X:Cx} {pos:Pos}
def A7n (i:Nat):TG:=λv Z H Q=>Q (Z.set i (some v)) H
theorem A0k {i:Nat} {x:Str} (c:X.N.Nodup) (hi:X.N[i]? =some x) (d:Loc X.env.scope x) (b:X.fn x=true\/X.env.scope.names.lookup x=some .local:=by first | exact .inl rfl | exact .inr rfl | assumption):PG X (.Name x pos) (A7n i):=by
 intro a s Z H v u Q I r h;exact wpAny_assign_Name (C4d I c hi d r (λe I'=>(i07 _ H I' h)) b)
def D8i:TGs:=λa Z H Q=>a=[]/\Q Z H
def B2e (t:TG) (u:TGs):TGs:=λa Z H Q=>∃v r,a=v::r/\t v Z H λZ' b=>u r Z' b Q
theorem A2p:PGs X [] D8i:=by
 intro a s Z H c b Q I r h;obtain ⟨e,h⟩:=h;subst e;cases r;exact assignInOrder_nil (i07 Z H I h)
theorem A0r {e:Expr} {t:TG} {u:TGs} (h1:PG X e t) (h2:PGs X es u)
  (b:(assignEach (e::es) X.env).map (·.2)=assign e X.env::(assignEach es X.env).map (·.2):=by rfl):PGs X (e::es) (B2e t u):=by
 intro a s Z H j i Q I r h;obtain ⟨v,k,f,h⟩:=h;subst f
 cases r with
 | cons r rr =>
  rw [b];refine assignInOrder_cons (thn (h1 a s Z H _ _ _ I r h) ?_);rintro _ c ⟨Z1,g,I1,d⟩;exact h2 a c Z1 g _ _ Q I1 rr d
def D8m (K:Frag) (n:Nat) (t:TGs):TG:=λv Z H Q=>∃a b,v= .ref a/\SqT K H a b/\b.length=n/\t b Z H Q
theorem A3q {k:Nat} {t:TGs} {n:Nat} (y:X.calm=true) (h:PGs X es t)
  (l:(assignEach es X.env).length=n:=by rfl) (d:(assignEach es X.env).findIdx? (·.1)=none:=by rfl):PG X (.Tuple es k pos) (D8m X.K n t):=by
 intro c s Z H v u Q I r f;obtain ⟨a,z,q,w,p,f⟩:=f;subst q;cases r;obtain ⟨x,g,i,A⟩:=I.tuple w;refine assign_Tuple_tuple (I.ok.hd y) i (by simp [l,<-p,g.length]) d λm j=> ?_;have I1:Inv X c Z H { s with heap:=m }:=I.kept (t':=s.toks) λb o e=>j b o (Z0h (Z0a e)) e
 exact h c _ Z H z _ Q I1 (by simpa using g) f
def D9a (te:TE) (g:TG):TS:=λD Z H=>te Z H λx a=>g x Z a D.nx
theorem A9f {tg e:Expr} {te:TE} {g:TG} (l:PE X e te) (c:PG X tg g) (d:swapsWithSole [tg] e pos.line X.env=pure false:=by rfl) (k:swappedStores [tg] e X.env=pure none:=by rfl)
  (h1:(assignEach [tg] X.env).map (·.2)=[assign tg X.env]:=by rfl):PS X (.Assign [tg] e pos) (D9a te g):=by
 intro a s Z H D I h;refine wpAny_Assign_stores (thn (l a s Z H _ I h) ?_) d k;rintro v f ⟨x,j,I1,b,i⟩;rw [h1];exact thn (c a f Z j x v _ I1 b i) λ_ m q=>q
theorem A3f {i:Nat} {x:Str} {e:Expr} {te:TE} {pos':Pos} (d:X.N.Nodup) (hi:X.N[i]? =some x) (f:Loc X.env.scope x) (l:PE X e te) (g:swapsWith e (some (.Name x pos')) pos.line X.env=pure false:=by rfl) (b:X.fn x=true\/X.env.scope.names.lookup x=some .local:=by first | exact .inl rfl | exact .inr rfl | assumption) :
  PS X (.Assign [.Name x pos'] e pos) (D9a te (A7n i)):=by
 intro a s Z H D I h;refine wpAny_Assign_Name (thn (l a s Z H _ I h) ?_) g;rintro v n ⟨y,k,I1,c,j⟩;exact C4d I1 d hi f c (λm I2=>(i07 _ k I2 j)) b
def E0o (c:TT) (tb:TS):TS:=λD Z H=>∃W:Nat->St->Hp->Prop,(∃m,W m Z H)/\∀m Z H,W m Z H->
 c Z H λb d=>if b=true then∃N:St->Hp->Prop,(∀Z' e,N Z' e->∃a,a<m/\W a Z' e)/\tb { D with nx:=N,ct:=N,bk:=D.nx } Z d else D.nx Z d
theorem B0a {c:Expr} {body:List Stmt} {tc:TT} {tb:TS} (p:PassesOwn (model X.prog X.w) X.A X.env X.xe) (z:PT X c tc) (G:PSs X body tb):PS X (.While c body [] pos) (E0o tc tb):=by
 intro a s Z H D I h;obtain ⟨W,⟨B,F⟩,e⟩:=h;refine wpAny_While (codeAny_whileLoop (λn y=>∃Z' q,Inv X a Z' q y/\W n Z' q) ?_ B (i07 Z H I F));rintro n u ⟨Z1,o,I1,x⟩;refine wpAny_passesOwn p (thn (z a u Z1 o _ I1 (e n Z1 o x)) ?_);rintro b C ⟨r,I2,i⟩
 cases b with
 | true =>
  obtain ⟨N,t,i⟩:=i;rw [Z12 rfl];refine wpAny_passesOwn p (thn (G a C Z1 r _ I2 i) λf J g=> ?_)
  cases f with
  | next =>
   obtain ⟨Z3,d,I3,j⟩:=g;obtain ⟨l,k,m⟩:=t Z3 d j;exact ⟨l,(i0b k Z3 d I3 m)⟩
  | cont =>
   obtain ⟨Z3,d,I3,j⟩:=g;obtain ⟨l,k,m⟩:=t Z3 d j;exact ⟨l,(i0b k Z3 d I3 m)⟩
  | brk=>exact g
  | ret v=>exact g
 | false =>
  rw [Z0t Z0v];exact Z2b (i07 Z1 r I2 i)
end
structure It where
 go:Nat->Hp->Prop
 yld:Nat->Hp->V->Hp->Prop
 stop:Nat->Hp->Prop
def C1w (X:Cx) (pins:List (Addr×Obj)) (H:Hp) (b:Addr):Prop :=
 H b=none/\b≠X.env.locals/\b∉X.fs/\(b∈X.ex\/X.s₀.heap.objs.size<=b)/\(∀x c,X.env.cells.lookup x=some c->c≠b)/\∀p∈X.pn++pins,p.1≠b
theorem Inv.fpOk {X:Cx} {H':Hp} {b:Addr} (I:Inv X pins Z H s) (a:s.heap.objs.size<=b) (f:H' b=none):C1w X pins H' b:=by
 refine i0h f (Z1q (Z0q I.lt a)) (I.nofs a) (.inr (Z1n I.sz a)) (λx c e z=> ?_) λp d z=> ?_
 ·obtain ⟨v,q⟩:=I.cell x c e;exact absurd (Z0q q.lt (by rw [z];exact a)) (Nat.lt_irrefl _)
 ·exact absurd (Z0q (Z0a (I.pin p d).1) (by rw [z];exact a)) (Nat.lt_irrefl _)
structure D4l (P:Program) (w:World) (K:Frag) (tg:Expr) (J:It) (fp:List Addr) (it:Addr) (tn:Nat->Heap->Prop):Prop where
 mem:it∈fp
 obj:∀i h,tn i h->∀b∈fp,∃o,h.get? b=some o/\∀v,o.data≠.cell v
 keep:∀i h h',tn i h->(∀b∈fp,∀o,h.get? b=some o->h'.get? b=some o)->tn i h'
 item:∀(X:Cx),X.prog=P->X.w=w->X.K=K->X.calm=true->∀(i:Nat) (pins:List (Addr×Obj)) (s:Shared) (Z:St) (H:Hp) (E:Value->Shared->Prop),Inv X pins Z H s->(∀b∈fp,C1w X pins H b)->tn i s.heap->J.go i H->
  wpAny (model P w) X.A (pyNext (.ref it)) (λr s1=>∃u,r=some u/\
   wpAny (model P w) X.A (letOwnedTupleGo tg (.ref it) u) (λ_ s2=>∃x H',Inv X pins Z H' s2/\A3c x u/\J.yld i H x H'/\tn (i+1) s2.heap/\∀b∈fp,H' b=none) E s1) E s
 done:∀(X:Cx),X.prog=P->X.w=w->X.K=K->X.calm=true->∀(i:Nat) (pins:List (Addr×Obj)) (s:Shared) (Z:St) (H:Hp) (E:Value->Shared->Prop),Inv X pins Z H s->(∀b∈fp,C1w X pins H b)->tn i s.heap->J.stop i H->
  wpAny (model P w) X.A (pyNext (.ref it)) (λr s1=>r=none/\Inv X pins Z H s1) E s
 self:∀(A:Around) (i:Nat) (s:Shared) (Q:Value->Shared->Prop) (E:Value->Shared->Prop),tn i s.heap->Q (.ref it) s->wpAny (model P w) A (pyIter (.ref it)) Q E s
abbrev TI:=St->Hp->(It->Hp->Prop)->Prop
def PIE (X:Cx) (pins:List (Addr×Obj)) (Z:St) (tg:Expr) (R:It->Hp->Prop) (c:Value) (f:Shared):Prop :=
 ∃(d:Addr) (g:List Addr) (e:Nat->Heap->Prop) (J:It) (a:Hp),c= .ref d/\Inv X pins Z a f/\D4l X.prog X.w X.K tg J g d e/\e 0 f.heap/\(∀b∈g,C1w X pins a b)/\R J a
def PI (X:Cx) (tg iter:Expr) (wi:TI):Prop :=
 ∀(a:List (Addr×Obj)) (s:Shared) (Z:St) (H:Hp) (R:It->Hp->Prop),Inv X a Z H s->wi Z H R->
  wpAny (model X.prog X.w) X.A (eval iter X.env) (λv b=>wpAny (model X.prog X.w) X.A (pyIter v) (PIE X a Z tg R) X.xe b) X.xe s
theorem C5g {M:Model} {tg:Expr} {it:Addr} {o:Obj} {n:String} {vs:Array Value} {Q:Unit->Shared->Prop} (c:s.heap.get? it=some o) (e:o.cls= .type n) (d:o.data= .fields vs)
  (b:["enumerate","zip","dict_itemiterator","dict_reverseitemiterator","odict_iterator","itertools.zip_longest","itertools.pairwise"].contains n=false) (a:Q () s):wpAny M A (letOwnedTupleGo tg (.ref it) u) Q E s:=by
 unfold letOwnedTupleGo
 cases tg <;> first
  | exact Z04 a
  | (cases u <;> first
    | exact Z04 a
    | (refine Z00 (wpAny_load c ?_);rw [e,d];show wpAny M A (if (["enumerate","zip","dict_itemiterator","dict_reverseitemiterator","odict_iterator","itertools.zip_longest","itertools.pairwise"].contains n&&vs[0]? == some (rawInt _))=true then _ else _) Q E s;rw [Z0t (by intro h;rw [b,Bool.false_and] at h;cases h)];exact Z04 a))
def Itl (K:Frag) (a:Addr):It :=
 ⟨λi H=>∃b x,SqL K H a b/\b[i]? =some x,λi H x c=>c=H/\∀b,SqL K H a b->b[i]? =some x,λi H=>∃b,SqL K H a b/\b.length<=i⟩
def Itt (K:Frag) (a:Addr):It :=
 ⟨λi H=>∃b x,SqT K H a b/\b[i]? =some x,λi H x c=>c=H/\∀b,SqT K H a b->b[i]? =some x,λi H=>∃b,SqT K H a b/\b.length<=i⟩
def Itr (lo:Int) (n:Nat):It:=⟨λi _=>i<n,λi H x a=>a=H/\x= .int (lo+i),λi _=>n<=i⟩
theorem C8k {tg:Expr} (a it:Addr):D4l P w K tg (Itl K a) [it] it (λi h=>h.IsListIter it a i) where
 mem:=by simp
 obj:=λi h f b j=>by
  have e:b=it:=by simpa using j
  subst e;obtain ⟨o,e,c,d⟩:=f;exact i02 o e λv z=>by rw [d] at z;cases z
 keep:=λi h n f k=>f.at λo e=>k it (by simp) o e
 item:=by
  intro X J M F N i g s Z H E I m f y;subst J M F;obtain ⟨Y,x,q,t⟩:=y;obtain ⟨L,C,p,R⟩:=I.list q;obtain ⟨u,Q,T⟩:=C.get t;obtain ⟨G,A,W,B,D,r⟩:=m it (by simp);refine wpAny_pyNext_list_item f p.isList (x:=u) (by simpa using Q) λn l U=> ?_;have I1:Inv X g Z H { s with heap:=n }:=I.turned (t':=s.toks) (λb o j e=>(U.2 b j).trans e) G A B D r
  obtain ⟨o,e,c,d⟩:=id l;exact i02 u rfl (C5g (s:={ s with heap:=n }) e c d (by decide) (i0p x H I1 T ⟨rfl,λys S=>by rw [I.list_inj S q];exact t⟩ l λb j=>(m b j).1))
 done:=by
  intro X J M F N i g s Z H E I m f y;subst J M F;obtain ⟨Y,q,t⟩:=y;obtain ⟨L,C,p,R⟩:=I.list q;obtain ⟨G,A,W,B,D,r⟩:=m it (by simp);have hl:=C.length;exact wpAny_pyNext_list_end (I.ok.hd N) f p.isList (by simp;lia) λn O=>⟨rfl,I.turned (t':=s.toks) (λb o j e=>O b o j e) G A B D r⟩
 self:=λ_ _ _ _ _ f h=>wpAny_pyIter_listiter f h
theorem C4s {tg:Expr} (a it:Addr):D4l P w K tg (Itt K a) [it] it (λi h=>h.IsTupleIter it a i) where
 mem:=by simp
 obj:=λi h f b j=>by
  have e:b=it:=by simpa using j
  subst e;obtain ⟨o,e,c,d⟩:=f;exact i02 o e λv z=>by rw [d] at z;cases z
 keep:=λi h q f k=>f.at λo e=>k it (by simp) o e
 item:=by
  intro X L M G N i g s Z H E I n f A;subst L M G;obtain ⟨Y,x,r,y⟩:=A;obtain ⟨l,D,p,R⟩:=I.tuple r;obtain ⟨u,Q,T⟩:=D.get y;obtain ⟨J,B,W,C,F,t⟩:=n it (by simp);refine wpAny_pyNext_tuple_item f (show s.heap.IsTuple a l.toArray from p) (x:=u) (by simpa using Q) λq m U=> ?_;have I1:Inv X g Z H { s with heap:=q }:=I.turned (t':=s.toks) (λb o j e=>(U.2 b j).trans e) J B C F t
  obtain ⟨o,e,c,d⟩:=id m;exact i02 u rfl (C5g (s:={ s with heap:=q }) e c d (by decide) (i0p x H I1 T ⟨rfl,λys S=>by rw [I.tuple_inj S r];exact y⟩ m λb j=>(n b j).1))
 done:=by
  intro X L M G N i g s Z H E I n f A;subst L M G;obtain ⟨Y,r,y⟩:=A;obtain ⟨l,D,p,R⟩:=I.tuple r;obtain ⟨J,B,W,C,F,t⟩:=n it (by simp);have hl:=D.length;exact wpAny_pyNext_tuple_end (I.ok.hd N) f (show s.heap.IsTuple a l.toArray from p) (by simp;lia) λq O=>⟨rfl,I.turned (t':=s.toks) (λb o j e=>O b o j e) J B C F t⟩
 self:=λ_ _ _ _ _ f h=>wpAny_pyIter_tupleiter f h
theorem C4i {tg:Expr} (it:Addr) (lo:Int) (n:Nat):D4l P w K tg (Itr lo n) [it] it (λi h=>IsRangeIter h it (lo+(i:Nat)*1) ((n:Int)-(i:Nat)) 1) where
 mem:=by simp
 obj:=λi h a b d=>by
  have e:b=it:=by simpa using d
  subst e
  exact ⟨_,a,λv z=>by
   have F:Data.fields _=Data.cell v:=z
   cases F⟩
 keep:=λi h j a k=>k it (by simp) _ a
 item:=by
  intro X A B x r i c s Z H E I g a m;subst A B x;obtain ⟨y,p,L,q,u,l⟩:=g it (by simp);have W:=Walks.range (prog:=X.prog) (w:=X.w) (I.ok.hd r) it lo 1 n;refine W.item i s _ _ m a λv j C J f D=> ?_;obtain ⟨t,rfl⟩:=J;have I1:Inv X c Z H { s with heap:=j,toks:=C }:=I.turned (λb o d e=>D b o (by simpa using d) e) y p q u l
  refine i02 _ rfl (C5g (s:={ s with heap:=j,toks:=C }) (n:="range_iterator") f rfl rfl (by decide) (i0p (.int (lo+i)) H I1 ⟨t,?_⟩ ⟨rfl,rfl⟩ f λb d=>(g b d).1))
  rw [Int.mul_one]
 done:=by
  intro X A B x r i c s Z H E I g a m;subst A B x;obtain ⟨y,p,L,q,u,l⟩:=g it (by simp);exact wpAny_pyNext_range_end (I.ok.hd r) a (by have:n<=i:=m;lia) λj G=>⟨rfl,I.turned (t':=s.toks) (λb o d e=>G b o d e) y p q u l⟩
 self:=λ_ _ _ _ _ a h=>wpAny_pyIter_rangeiter a h
section
variable {X:Cx} {tg:Expr}
def E1c (K:Frag) (tl:TE):TI:=λZ H R=>tl Z H λx b=>∃a,x= .ref a/\(∃c,SqL K b a c)/\R (Itl K a) b
def E4e (K:Frag) (tl:TE):TI:=λZ H R=>tl Z H λx b=>∃a,x= .ref a/\(∃c,SqT K b a c)/\R (Itt K a) b
theorem A2c {l:Expr} {tl:TE} (m:PE X l tl):PI X tg l (E1c X.K tl):=by
 intro c s Z H R I h;refine thn (m c s Z H _ I h) ?_;rintro v d ⟨x,i,I1,f,g⟩;obtain ⟨a,e,⟨u,j⟩,q⟩:=g;subst e;cases f;obtain ⟨n,t,p,r⟩:=I1.list j;refine wpAny_pyIter_list p.isList ?_;refine i14 d.heap.objs.size [d.heap.objs.size] _ _ i rfl (I1.kept (t':=d.toks) λb o e=>Z01 _ e) (C8k a _) (i06 _ (Z0c _ rfl) rfl rfl) (λb k=> ?_) q;have e:b=d.heap.objs.size:=by simpa using k
 subst e;exact I1.fpOk (Z09 _) (I1.hok.fresh (Z09 _))
theorem E1j {l:Expr} {tl:TE} (n:PE X l tl):PI X tg l (E4e X.K tl):=by
 intro c s Z H R I h;refine thn (n c s Z H _ I h) ?_;rintro v d ⟨x,j,I1,g,i⟩;obtain ⟨a,e,⟨u,k⟩,q⟩:=i;subst e;cases g;obtain ⟨f,t,p,r⟩:=I1.tuple k;refine wpAny_pyIter_tuple (show d.heap.IsTuple a f.toArray from p) ?_;refine i14 d.heap.objs.size [d.heap.objs.size] _ _ j rfl (I1.kept (t':=d.toks) λb o e=>Z01 _ e) (C4s a _) (i06 _ (Z0c _ rfl) rfl rfl) (λb m=> ?_) q;have e:b=d.heap.objs.size:=by simpa using m
 subst e;exact I1.fpOk (Z09 _) (I1.hok.fresh (Z09 _))
theorem D1w {R:It->Hp->Prop} {lo hi:Int} {t u v:Tok} {tk:Nat} (I:Inv X pins Z H s) (h1: -(2^62)<=lo) (h2:lo<2^62) (c: -(2^62)<=hi) (a:hi<2^62)
  (q:R (Itr lo (hi-lo).toNat) H):wpAny (model X.prog X.w) X.A (pyIter (.ref s.heap.objs.size)) (PIE X pins Z tg R) E { s with heap:=s.heap.push { cls:= .type "range",data:= .fields #[.int lo t,.int hi u,.int 1 v] },toks:=tk }:=by
 refine wpAny_pyIter_range (IsRange.new ..) (small_one h1 h2 c a) ?_;have I1:Inv X pins Z H { s with heap:=s.heap.push { cls:= .type "range",data:= .fields #[.int lo t,.int hi u,.int 1 v] },toks:=tk }:=I.kept λb o e=>Z01 _ e
 refine ⟨(s.heap.push { cls:= .type "range",data:= .fields #[.int lo t,.int hi u,.int 1 v] }).objs.size,[(s.heap.push { cls:= .type "range",data:= .fields #[.int lo t,.int hi u,.int 1 v] }).objs.size],_,_,H,rfl,
  I1.kept (t':=tk) λb o e=>Z01 _ e,C4i _ lo (hi-lo).toNat,?_,λb f=> ?_,q⟩
 ·have d:lo+((0:Nat):Int)*1=lo:=by simp
  have g:(((hi-lo).toNat:Nat):Int)-((0:Nat):Int)=Builtin.Range.rangeSize lo hi 1:=by rw [rangeSize_one];split <;> lia
  show IsRangeIter _ _ (lo+((0:Nat):Int)*1) ((((hi-lo).toNat:Nat):Int)-((0:Nat):Int)) 1;rw [d,g];exact Z0c _ rfl
 ·have e:b=(s.heap.push { cls:= .type "range",data:= .fields #[.int lo t,.int hi u,.int 1 v] }).objs.size:=by simpa using f
  subst e;exact I1.fpOk (Z09 _) (I1.hok.fresh (Z09 _))
def E2q (ta:TA):TI:=λZ H R=>ta Z H λa b=>∃j:Int,a=[.int j]/\-(2^62)<=j/\j<2^62/\R (Itr 0 j.toNat) b
theorem A4a {a:Expr} {ta:TA} {p:Pos} (i:Gl X "range") (l:X.mg "range"=none) (d:PA X [a] ta) (k:starEach [a] X.env=[(false,eval a X.env)]:=by rfl):PI X tg (.Call (.Name "range" p) [a] [] pos) (E2q ta):=by
 intro b s Z H R I h;refine Call_ (B1t I i l boot_range (PyProof.Rows.callWith_type1 (thn (d pos b s Z H _ I h) ?_) k rfl));rintro n m ⟨o,u,I1,f,c⟩;obtain ⟨j,e,c,g,q⟩:=c;subst e
 cases f with
 | cons r rr =>
  cases rr
  obtain ⟨t,rfl⟩:=r;exact call_range_1 (D1w I1 (by lia) (by lia) c g (by simpa using q))
def E4p (wi:TI) (g:TG) (tb:TS):TS:=λD Z H=>wi Z H λJ d=>∃W:Nat->Nat->St->Hp->Prop,(∃m,W 0 m Z d)/\∀i m Z H,W i m Z H->
 (J.stop i H/\D.nx Z H)\/(J.go i H/\∃N:St->Hp->Prop,(∀Z' a,N Z' a->∃b,b<m/\W (i+1) b Z' a)/\∀x a,J.yld i H x a->g x Z a λZ2 c=>tb { D with nx:=N,ct:=N,bk:=D.nx } Z2 c)
def B5p (fp:List Addr) (h:Heap):List (Addr×Obj):=fp.filterMap λb=>(h.get? b).map λo=>(b,o)
theorem A5k {b:Addr} {o:Obj} (a:b∈fp) (e:h.get? b=some o):(b,o)∈B5p fp h:=List.mem_filterMap.mpr (i02 b a (by rw [e];rfl))
theorem C9e {p:Addr×Obj} (a:p∈B5p fp h):p.1∈fp/\h.get? p.1=some p.2:=by
 obtain ⟨b,d,e⟩:=List.mem_filterMap.mp a
 cases q:h.get? b with
 | none=>rw [q] at e;cases e
 | some o =>
  rw [q] at e;have c:(b,o)=p:=Z1a e;subst c;exact ⟨d,q⟩
theorem Inv.pinned (I:Inv X pins Z H s) (f:∀b∈fp,C1w X pins H b) (j:∀b∈fp,∃o,s.heap.get? b=some o/\∀v,o.data≠.cell v):Inv X (pins++B5p fp s.heap) Z H s :=
 I.pins_of λp i=>(Z07.mp i).elim (λz=>I.pin p (Z02 _ z)) λz=>by
  obtain ⟨a,e⟩:=C9e z;obtain ⟨g,k,h,_⟩:=f p.1 a;obtain ⟨o,c,d⟩:=j p.1 a;rw [e] at c;cases c;exact i09 e g k h d
theorem Inv.unpinned {pl:List (Addr×Obj)} (I:Inv X (pins++pl) Z H s):Inv X pins Z H s:=I.pins_of λp a=>I.pin p (Z02 _ (Z05 _ a))
theorem C9a {iter:Expr} {wi:TI} {g:TG} {tb:TS} (y:PassesOwn (model X.prog X.w) X.A X.env X.xe) (hc:X.calm=true) (hi:PI X tg iter wi) (hg:PG X tg g) (l:PSs X body tb)
  (hs:∀x,foldedSetIterable iter X.env x=pure x:=by intro _;rfl):PS X (.For tg iter body [] pos) (E4p wi g tb):=by
 intro a s Z H D I h;refine wpAny_For (thn (hi a s Z H _ I h) λv s1 h1=>thn h1 λa0 s2 h2=> ?_) hs;obtain ⟨it,F,E,J,H2,e,I2,T,M,Y,W,⟨m0,w0⟩,t⟩:=h2;subst e;have j:∀{H':Hp},(∀b∈F,H' b=none)->∀b∈F,C1w X a H' b:=λhn b l=>⟨hn b l,(Y b l).2⟩;refine codeAny_forLoop_any (λn U=>∃i Z' H',Inv X a Z' H' U/\E i U.heap/\(∀b∈F,H' b=none)/\W i n Z' H') ?_ m0 (i0r 0 Z H2 I2 M (λb l=>(Y b l).1) w0);rintro n s3 ⟨i,Z3,L,I3,K,z,w3⟩;rcases t i n Z3 L w3 with ⟨G,qn⟩ | ⟨go,N,hN,B⟩
 ·refine wpAny_passesOwn y (thn (T.done X rfl rfl rfl hc i a s3 Z3 L X.xe I3 (j z) K G) ?_);rintro r s4 ⟨Q,I4⟩;subst Q;exact Z2b (i07 Z3 L I4 qn)
 ·refine wpAny_passesOwn y (thn (T.item X rfl rfl rfl hc i a s3 Z3 L X.xe I3 (j z) K go) ?_);rintro r s4 ⟨u,Q,h4⟩;subst Q;refine wpAny_passesOwn y (thn h4 ?_);rintro _ R ⟨x,S,I5,r5,y5,q,P⟩;have I5':=I5.pinned (j P) (T.obj _ _ q);refine wpAny_passesOwn y (thn (hg _ R Z3 S x u _ I5' r5 (B x S y5)) ?_);rintro _ s6 ⟨Z6,H6,I6,q6⟩;refine wpAny_passesOwn y (thn (l _ s6 Z6 H6 _ I6 q6) λf O p=> ?_)
  have k:∀{Z7:St} {c:Hp},Inv X (a++B5p F R.heap) Z7 c O->N Z7 c->∃m,m<n/\∃i Z' H',Inv X a Z' H' O/\E i O.heap/\(∀b∈F,H' b=none)/\W i m Z' H':=λ{Z7 c} I7 C=>by
   obtain ⟨m',hm,w7⟩:=hN Z7 c C;refine i0x m' hm (i+1) Z7 c I7.unpinned (T.keep _ _ _ q λb l o e=>(I7.pin (b,o) (Z02 _ (Z02 _ (A5k l e)))).1) (λb l=> ?_) w7;obtain ⟨o,e,d⟩:=T.obj _ _ q b l;exact (I7.pin (b,o) (Z02 _ (Z02 _ (A5k l e)))).2.1
  cases f with
  | next=>obtain ⟨Z7,c,I7,C⟩:=p;exact k I7 C
  | cont=>obtain ⟨Z7,c,I7,C⟩:=p;exact k I7 C
  | brk=>obtain ⟨Z7,c,I7,p⟩:=p;exact i07 Z7 c I7.unpinned p
  | ret v=>obtain ⟨x7,Z7,c,I7,r7,p⟩:=p;exact ⟨x7,Z7,c,I7.unpinned,r7,p⟩
end
theorem A2l {a:Addr} {xs:List V} {g:TG} {tb:TS} {D:C6a} (Pv:Nat->St->Hp->Prop) (h:Pv 0 Z H) (j:∀i Z H,i<=xs.length->Pv i Z H->SqL K H a xs)
  (f:∀i x Z H,xs[i]? =some x->Pv i Z H->g x Z H λZ2 H2=>tb { D with nx:=Pv (i+1),ct:=Pv (i+1),bk:=D.nx } Z2 H2) (c:∀Z H,Pv xs.length Z H->D.nx Z H) :
  ∃W:Nat->Nat->St->Hp->Prop,(∃m,W 0 m Z H)/\∀i m Z H,W i m Z H->
   ((Itl K a).stop i H/\D.nx Z H)\/((Itl K a).go i H/\∃N:St->Hp->Prop,(∀Z' H',N Z' H'->∃b,b<m/\W (i+1) b Z' H')/\∀x H',(Itl K a).yld i H x H'->g x Z H' λZ2 H2=>tb { D with nx:=N,ct:=N,bk:=D.nx } Z2 H2):=by
 refine i02 (λi m Z H=>m=xs.length-i/\i<=xs.length/\Pv i Z H) (i06 xs.length (by simp) (Z1e _) h) ?_;rintro i m Z H ⟨rfl,k,p⟩;have q:=j i Z H k p;by_cases hlt:i<xs.length
 ·refine .inr (i05 (i07 xs (xs[i]) q (by simp [hlt])) (Pv (i+1)) (λZ' H' d=>(i0c (xs.length-(i+1)) (by lia) rfl hlt d)) λx H' y=> ?_);obtain ⟨e,y⟩:=y;subst e;exact f i x Z _ (y xs q) p
 ·have e:i=xs.length:=by lia
  subst e;exact .inl ⟨(i02 xs q (Z09 _)),c Z H p⟩
theorem A4k {lo:Int} {n:Nat} {g:TG} {tb:TS} {D:C6a} (Pv:Nat->St->Hp->Prop) (d:Pv 0 Z H)
  (f:∀i Z H,i<n->Pv i Z H->g (.int (lo+i)) Z H λZ2 H2=>tb { D with nx:=Pv (i+1),ct:=Pv (i+1),bk:=D.nx } Z2 H2) (b:∀Z H,Pv n Z H->D.nx Z H) :
  ∃W:Nat->Nat->St->Hp->Prop,(∃m,W 0 m Z H)/\∀i m Z H,W i m Z H->
   ((Itr lo n).stop i H/\D.nx Z H)\/((Itr lo n).go i H/\∃N:St->Hp->Prop,(∀Z' H',N Z' H'->∃a,a<m/\W (i+1) a Z' H')/\∀x H',(Itr lo n).yld i H x H'->g x Z H' λZ2 H2=>tb { D with nx:=N,ct:=N,bk:=D.nx } Z2 H2):=by
 refine i02 (λi m Z H=>m=n-i/\i<=n/\Pv i Z H) (i06 n (by simp) (Z1e _) d) ?_;rintro i m Z H ⟨rfl,h,p⟩;by_cases hlt:i<n
 ·refine .inr (i05 hlt (Pv (i+1)) (λZ' H' c=>(i0c (n-(i+1)) (by lia) rfl hlt c)) λx H' y=> ?_);obtain ⟨e,y⟩:=y;subst e y;exact f i Z _ hlt p
 ·have e:i=n:=by lia
  subst e;exact .inl ⟨Z09 _,b Z H p⟩
abbrev R2:=V->V->Hp->VK->Prop
def OpR (X:Cx) (f:Value->Value->Sem Value) (r:R2):Prop :=
 ∀(a:List (Addr×Obj)) (s:Shared) (Z:St) (H:Hp) (x y:V) (v u:Value) (Q:VK),Inv X a Z H s->A3c x v->A3c y u->r x y H Q->
  wpAny (model X.prog X.w) X.A (f v u) (EP X a Z Q) X.xe s
def UnR (X:Cx) (f:Value->Sem Value) (r:V->Hp->VK->Prop):Prop :=
 ∀(a:List (Addr×Obj)) (s:Shared) (Z:St) (H:Hp) (x:V) (v:Value) (Q:VK),Inv X a Z H s->A3c x v->r x H Q->
  wpAny (model X.prog X.w) X.A (f v) (EP X a Z Q) X.xe s
def A8l (X:Cx) (f:Value) (r:List V->Hp->VK->Prop):Prop :=
 ∀(a:List (Addr×Obj)) (s:Shared) (Z:St) (H:Hp) (c:List V) (b:List Value) (Q:VK),Inv X a Z H s->A3z c b->r c H Q->
  wpAny (model X.prog X.w) X.A (call f b) (EP X a Z Q) X.xe s
def tOp (r:R2) (ta tb:TE):TE:=λZ H Q=>ta Z H λx b=>tb Z b λy a=>r x y a Q
def tUn (r:V->Hp->VK->Prop) (ta:TE):TE:=λZ H Q=>ta Z H λx a=>r x a Q
def rI (C:Int->Int->Prop) (g:Int->Int->V):R2:=λx y H Q=>∃i j,x= .int i/\y= .int j/\C i j/\Q (g i j) H
def rI0 (g:Int->Int->V):R2:=λx y H Q=>∃i j,x= .int i/\y= .int j/\Q (g i j) H
def rU (g:Int->V):V->Hp->VK->Prop:=λx H Q=>∃i,x= .int i/\Q (g i) H
section
variable {X:Cx} {a b c:Expr} {ta tb tc:TE} {pos:Pos}
theorem E4d (g:PE X a ta) (j:PE X b tb) {R:V->V->Hp->Prop} (I:Inv X pins Z H s)
  (h:ta Z H λx H1=>tb Z H1 λy H2=>R x y H2)
  (d:∀v u c x y H2,Inv X pins Z H2 c->A3c x v->A3c y u->R x y H2->wpAny (model X.prog X.w) X.A (f v u) Q X.xe c) :
  wpAny (model X.prog X.w) X.A (eval a X.env) (λv s₁=>wpAny (model X.prog X.w) X.A (eval b X.env) (λu s₂=>wpAny (model X.prog X.w) X.A (f v u) Q X.xe s₂) X.xe s₁) X.xe s:=by
 refine thn (g pins s Z H _ I h) ?_;rintro v m ⟨x,H1,I1,i,e⟩;refine thn (j pins m Z H1 _ I1 e) ?_;rintro u c ⟨y,H2,I2,k,l⟩;exact d v u c x y H2 I2 i k l
theorem A0j {op:Operator} {r:R2} (g:OpR X (binaryOp op) r) (e:PE X a ta) (k:PE X b tb):PE X (.BinOp a op b pos) (tOp r ta tb):=by
 intro c s Z H Q I h;exact wpAny_BinOp (E4d e k I h λv u f x y d I2 j i q=>g c f Z d x y v u Q I2 j i q)
theorem B6b {op:UnaryOp} {r:V->Hp->VK->Prop} (e:UnR X (unaryOp op) r) (c:PE X a ta):PE X (.UnaryOp op a pos) (tUn r ta):=by
 intro b s Z H Q I h;exact UnaryOp_ (thn (c b s Z H _ I h) (by rintro v f ⟨x,i,I1,d,g⟩;exact e b f Z i x v Q I1 d g))
theorem opI {C:Int->Int->Prop}
  (a:∀(i j:Int) (t u:Tok) (s:Shared) (Q:Value->Shared->Prop) (E:Value->Shared->Prop),C i j->Q (.int (g i j) s.toks) { s with toks:=s.toks+1 }->wpAny (model X.prog X.w) X.A (f (.int i t) (.int j u)) Q E s) :
  OpR X f (rI C λi j=> .int (g i j)):=by
 intro b s Z H x y v u Q I c e h;obtain ⟨i,j,rfl,rfl,d,q⟩:=h;obtain ⟨t,rfl⟩:=c;obtain ⟨k,rfl⟩:=e;exact a i j t k s _ _ d (i0f (.int (g i j)) H (I.tok _) ⟨_,rfl⟩ q)
theorem E4i
  (a:∀(i j:Int) (t u:Tok) (s:Shared) (Q:Value->Shared->Prop) (E:Value->Shared->Prop),Q (.int (g i j) s.toks) { s with toks:=s.toks+1 }->wpAny (model X.prog X.w) X.A (f (.int i t) (.int j u)) Q E s) :
  OpR X f (rI0 λi j=> .int (g i j)):=by
 intro b s Z H x y v u Q I c d h;obtain ⟨i,j,rfl,rfl,q⟩:=h;obtain ⟨t,rfl⟩:=c;obtain ⟨e,rfl⟩:=d;exact a i j t e s _ _ (i0f (.int (g i j)) H (I.tok _) ⟨_,rfl⟩ q)
theorem E2k {g:Int->Int->Bool}
  (a:∀(i j:Int) (t u:Tok) (s:Shared) (Q:Value->Shared->Prop) (E:Value->Shared->Prop),Q (.bool (g i j)) s->wpAny (model X.prog X.w) X.A (f (.int i t) (.int j u)) Q E s) :
  OpR X f (rI0 λi j=> .bl (g i j)):=by
 intro b s Z H x y v u Q I c d h;obtain ⟨i,j,rfl,rfl,q⟩:=h;obtain ⟨t,rfl⟩:=c;obtain ⟨e,rfl⟩:=d;exact a i j t e s _ _ (i0f (.bl (g i j)) H I rfl q)
def CDiv (i j:Int):Prop:=0<j/\j<1073741824
def CPow (i j:Int):Prop:=0<=j/\j<=1000000/\i.natAbs<2^64
def E4a (i j:Int):Prop:=(-(2^64)<i/\i<2^64)\/(-(2^64)<j/\j<2^64)
theorem E4a.ok {i j:Int} (h:E4a i j):IntMulOk i j:=by
 rcases h with ⟨b,a⟩ | ⟨b,a⟩
 ·exact .of_left (intBits_le_64 b a)
 ·exact .of_right (intBits_le_64 b a)
theorem A2h:OpR X (binaryOp .Add) (rI0 λi j=> .int (i+j)):=E4i λ_ _ _ _ _ _ _ q=>add_int q
theorem A3v:OpR X (binaryOp .Sub) (rI0 λi j=> .int (i-j)):=E4i λ_ _ _ _ _ _ _ q=>sub_int q
theorem A6b:OpR X (binaryOp .Mult) (rI E4a λi j=> .int (i*j)):=opI λ_ _ _ _ _ _ _ a q=>mul_int q a.ok
theorem A1o:OpR X (binaryOp .FloorDiv) (rI CDiv λi j=> .int (i/j)):=opI λi j _ _ _ _ _ a q=>by
 have c:(0:Int)<j:=a.1;have b:j<1073741824:=a.2;exact floordiv_int (by lia) (by rw [Int.fdiv_eq_ediv_of_nonneg i (by lia)];exact q) (.inl (PyProof.noPylong_small (by lia)))
theorem A1j:OpR X (binaryOp .Mod) (rI (λ_ j=>0<j) λi j=> .int (i%j)):=opI λi j _ _ _ _ _ a q=>by
 have b:(0:Int)<j:=a;exact mod_int' (by lia) (by rw [Int.fmod_eq_emod_of_nonneg i (by lia)];exact q)
theorem A6v:OpR X (binaryOp .Pow) (rI CPow λi j=> .int (i^j.toNat)):=opI λ_ _ _ _ _ _ _ a q=>pow_int_small a.1 a.2.1 a.2.2 q
theorem unI {f:Value->Sem Value} {g:Int->Int}
  (a:∀(i:Int) (t:Tok) (s:Shared) (Q:Value->Shared->Prop) (E:Value->Shared->Prop),Q (.int (g i) s.toks) { s with toks:=s.toks+1 }->wpAny (model X.prog X.w) X.A (f (.int i t)) Q E s) :
  UnR X f (rU λi=> .int (g i)):=by
 intro b s Z H x v Q I c h;obtain ⟨i,rfl,q⟩:=h;obtain ⟨t,rfl⟩:=c;exact a i t s _ _ (i0f (.int (g i)) H (I.tok _) ⟨_,rfl⟩ q)
theorem B0j:UnR X (unaryOp .USub) (rU λi=> .int (-i)):=unI λ_ _ _ _ _ q=>neg_int q
end
def E4h:V->V->Bool
 | .non,.non=>true | .non,.int _=>true | .int _,.non=>true | .non,.bl _=>true | .bl _,.non=>true | .non,.str _=>true | .str _,.non=>true
 | .int _,.int _=>true | .bl _,.bl _=>true | .str _,.str _=>true | .byt _,.byt _=>true
 | .int _,.str _=>true | .str _,.int _=>true | .bl _,.str _=>true | .str _,.bl _=>true
 | _,_=>false
def rEq:R2:=λx y H Q=>E4h x y=true/\Q (.bl (decide (x=y))) H
def rNe:R2:=λx y H Q=>E4h x y=true/\Q (.bl (! decide (x=y))) H
theorem D0j {i j:Int}:decide (V.int i=V.int j)=(i == j):=by
 rw [Bool.eq_iff_iff];simp
theorem D4f {i j:Bool}:decide (V.bl i=V.bl j)=(i == j):=by
 rw [Bool.eq_iff_iff];simp
theorem D0d {i j:Str}:decide (V.str i=V.str j)=(i == j):=by
 rw [Bool.eq_iff_iff];simp
theorem C7e {i j:Array UInt8}:decide (V.byt i=V.byt j)=(i.toList == j.toList):=by
 rw [Bool.eq_iff_iff];cases i;cases j;simp
section
variable {X:Cx} {a b c:Expr} {ta tb tc:TE} {pos:Pos}
theorem A2o {Q:VK} {k a:Bool} (I:Inv X pins Z H s) (q:Q (.bl k) H) (e:k=a):EP X pins Z Q (.bool a) s:=by
 subst e;exact i0f (.bl k) H I rfl q
theorem A3d:OpR X (compareOp .Eq) rEq:=by
 intro e s Z H x y v u Q I d a h;obtain ⟨c,q⟩:=h
 cases x with
 | non =>
  cases d
  cases y with
  | non=>cases a;exact PySem.EqNone.eq_none_none (A2o I q (by simp))
  | bl j=>cases a;exact PySem.EqNone.eq_none_bool (A2o I q (by simp))
  | int j=>obtain ⟨b,rfl⟩:=a;exact PySem.EqNone.eq_none_int (A2o I q (by simp))
  | str j=>obtain ⟨b,rfl⟩:=a;exact PySem.EqNone.eq_none_str (A2o I q (by simp))
  | _=>exact absurd (show false=true from c) Z0v
 | bl i =>
  cases d
  cases y with
  | non=>cases a;exact PySem.EqNone.eq_bool_none (A2o I q (by simp))
  | bl j=>cases a;exact eq_bool (A2o I q D4f)
  | str j=>obtain ⟨b,rfl⟩:=a;exact PySem.EqMixed.eq_bool_str (A2o I q (by simp))
  | _=>exact absurd (show false=true from c) Z0v
 | int i =>
  obtain ⟨t,rfl⟩:=d
  cases y with
  | non=>cases a;exact PySem.EqNone.eq_int_none (A2o I q (by simp))
  | int j=>obtain ⟨b,rfl⟩:=a;exact eq_int (A2o I q D0j)
  | str j=>obtain ⟨b,rfl⟩:=a;exact PySem.EqMixed.eq_int_str (A2o I q (by simp))
  | _=>exact absurd (show false=true from c) Z0v
 | str i =>
  obtain ⟨t,rfl⟩:=d
  cases y with
  | non=>cases a;exact PySem.EqNone.eq_str_none (A2o I q (by simp))
  | bl j=>cases a;exact PySem.EqMixed.eq_str_bool (A2o I q (by simp))
  | int j=>obtain ⟨b,rfl⟩:=a;exact PySem.EqMixed.eq_str_int (A2o I q (by simp))
  | str j=>obtain ⟨b,rfl⟩:=a;exact eq_str (A2o I q D0d)
  | _=>exact absurd (show false=true from c) Z0v
 | byt i =>
  obtain ⟨t,rfl⟩:=d
  cases y with
  | byt j=>obtain ⟨b,rfl⟩:=a;exact PySem.W.eq_bytes (A2o I q C7e)
  | _=>exact absurd (show false=true from c) Z0v
 | _=>cases y <;> exact absurd (show false=true from c) Z0v
theorem D4q:OpR X (compareOp .NotEq) rNe:=by
 intro e s Z H x y v u Q I d a h;obtain ⟨c,q⟩:=h
 cases x with
 | non =>
  cases d
  cases y with
  | non=>cases a;exact PySem.EqNone.ne_none_none (A2o I q (by simp))
  | bl j=>cases a;exact PySem.EqNone.ne_none_bool (A2o I q (by simp))
  | int j=>obtain ⟨b,rfl⟩:=a;exact PySem.EqNone.ne_none_int (A2o I q (by simp))
  | str j=>obtain ⟨b,rfl⟩:=a;exact PySem.EqNone.ne_none_str (A2o I q (by simp))
  | _=>exact absurd (show false=true from c) Z0v
 | bl i =>
  cases d
  cases y with
  | non=>cases a;exact PySem.EqNone.ne_bool_none (A2o I q (by simp))
  | bl j=>cases a;exact ne_bool (A2o I q (congrArg not D4f))
  | str j=>obtain ⟨b,rfl⟩:=a;exact PySem.EqMixed.ne_bool_str (A2o I q (by simp))
  | _=>exact absurd (show false=true from c) Z0v
 | int i =>
  obtain ⟨t,rfl⟩:=d
  cases y with
  | non=>cases a;exact PySem.EqNone.ne_int_none (A2o I q (by simp))
  | int j=>obtain ⟨b,rfl⟩:=a;exact ne_int (A2o I q (congrArg not D0j))
  | str j=>obtain ⟨b,rfl⟩:=a;exact PySem.EqMixed.ne_int_str (A2o I q (by simp))
  | _=>exact absurd (show false=true from c) Z0v
 | str i =>
  obtain ⟨t,rfl⟩:=d
  cases y with
  | non=>cases a;exact PySem.EqNone.ne_str_none (A2o I q (by simp))
  | bl j=>cases a;exact PySem.EqMixed.ne_str_bool (A2o I q (by simp))
  | int j=>obtain ⟨b,rfl⟩:=a;exact PySem.EqMixed.ne_str_int (A2o I q (by simp))
  | str j=>obtain ⟨b,rfl⟩:=a;exact ne_str (A2o I q (congrArg not D0d))
  | _=>exact absurd (show false=true from c) Z0v
 | byt i =>
  obtain ⟨t,rfl⟩:=d
  cases y with
  | byt j=>obtain ⟨b,rfl⟩:=a;exact PySem.W.ne_bytes (A2o I q (congrArg not C7e))
  | _=>exact absurd (show false=true from c) Z0v
 | _=>cases y <;> exact absurd (show false=true from c) Z0v
theorem B8r:OpR X (compareOp .Lt) (rI0 λi j=> .bl (decide (i<j))):=E2k λ_ _ _ _ _ _ _ q=>lt_int q
theorem D7n:OpR X (compareOp .LtE) (rI0 λi j=> .bl (decide (i<=j))):=E2k λ_ _ _ _ _ _ _ q=>le_int q
theorem A8h:OpR X (compareOp .Gt) (rI0 λi j=> .bl (decide (j<i))):=E2k λ_ _ _ _ _ _ _ q=>gt_int q
theorem E3g:OpR X (compareOp .GtE) (rI0 λi j=> .bl (decide (j<=i))):=E2k λ_ _ _ _ _ _ _ q=>ge_int q
theorem C7s:OpR X (compareOp .IsNot) (λx y H Q=>y= .non/\Q (.bl (! decide (x= .non))) H):=by
 intro b s Z H x y v u Q I a c h;obtain ⟨rfl,q⟩:=h;cases c;refine isnot_none_gen (A2o I q ?_)
 cases x <;> first
  | (cases a;rfl)
  | (obtain ⟨t,rfl⟩:=a;rfl)
theorem A1b (b:Expr) (h:op≠.In:=by decide) (h2:op≠.NotIn:=by decide):behindInMarks op b=false:=by
 have c:(op == CmpOp.In)=false:=by cases op <;> first | rfl | exact absurd rfl h
 have a:(op == CmpOp.NotIn)=false:=by cases op <;> first | rfl | exact absurd rfl h2
 cases b <;> simp [behindInMarks,c,a]
theorem D0h {r:R2} (g:OpR X (compareOp op) r) (e:PE X a ta) (l:PE X b tb) (j:behindInMarks op b=false):PE X (.Compare a [op] [b] pos) (tOp r ta tb):=by
 intro c s Z H Q I h;exact wpAny_Compare1 (E4d e l I h λv u f x y d I2 k i q=>g c f Z d x y v u Q I2 k i q) j
def C0k (t:TE):TT:=λZ H Q=>t Z H λx a=>∃k,x= .bl k/\Q k a
theorem A0p {r:R2} (w:OpR X (compareOp op) r) (p:PE X a ta) (B:PE X b tb) (m:behindInMarks op b=false):PT X (.Compare a [op] [b] pos) (C0k (tOp r ta tb)):=by
 intro d s Z H Q I h
 refine wpAny_isTrue_Compare1 (thn (p d s Z H _ I h) λv l ⟨x,n,I1,g,A⟩=>thn (B d l Z n _ I1 A) λu q ⟨y,o,I2,t,j⟩ =>
  thn (w d q Z o x y v u _ I2 g t j) λc D ⟨z,f,I3,C,k,e,i⟩=> ?_) m
 subst e;cases C;exact wpAny_truthy_bool (i02 f I3 i)
def E1o (r f:R2) (ta tb tc:TE):TE:=λZ H Q=>ta Z H λx c=>tb Z c λy b=>r x y b λz a=>∃k,z= .bl k/\
 (if k=true then tc Z a λd e=>f y d e Q else Q (.bl false) a)
theorem D3i {g:CmpOp} {r m:R2} (S:OpR X (compareOp op) r) (i:OpR X (compareOp g) m) (M:PE X a ta) (Y:PE X b tb) (G:PE X c tc)
  (D:lastMarks [op,g] [b,c]=false:=by with_unfolding_all rfl):PT X (.Compare a [op,g] [b,c] pos) (C0k (E1o r m ta tb tc)):=by
 intro f s Z H Q I h
 refine isTrue_chain (thn (M f s Z H _ I h) λv B ⟨x,F,I1,o,W⟩=>test_link (thn (Y f B Z F _ I1 W) λu O ⟨y,K,I2,n,t⟩ =>
  thn (S f O Z K x y v u _ I2 o n t) λd N ⟨z,j,I3,r3,k,e,l⟩=> ?_)) D
 subst e;cases r3;refine wpAny_truthy_bool ?_
 cases k with
 | false =>
  obtain ⟨k',C,w⟩:=l;cases C;exact ite_ff (i02 j I3 w)
 | true =>
  refine ite_tt (test_last (thn (G f N Z j _ I3 l) ?_));rintro P J ⟨p,q,I4,U,L⟩;refine thn (i f J Z q y p u P _ I4 n U L) ?_;rintro d' s5 ⟨z2,A,I5,E,k2,R,T⟩;subst R;cases E;exact wpAny_truthy_bool (i02 A I5 T)
theorem B7u:(sizeLine:Nat)<2^63:=by rw [sizeLine_eq];decide
theorem A8z:OpR X (binaryOp .Add) (λx y H Q=>∃i j,x= .str i/\y= .str j/\i.length+j.length<=sizeLine/\Q (.str (i++j)) H):=by
 intro a s Z H x y v u Q I b d h;obtain ⟨i,j,rfl,rfl,c,q⟩:=h;obtain ⟨t,rfl⟩:=b;obtain ⟨e,rfl⟩:=d;exact add_str (λe f=>(i0f (.str (i++j)) H (I.tok _) ⟨_,rfl⟩ q)) c
theorem B1p {x:V} (r:A3z [x] us):∃u,us=[u]/\A3c x u:=by
 cases r with
 | cons r1 r2=>cases r2;exact i02 _ rfl r1
theorem C9g {x y:V} (r:A3z [x,y] us):∃u w',us=[u,w']/\A3c x u/\A3c y w':=by
 cases r with
 | cons r1 r2 =>
  cases r2 with
  | cons r3 r4=>cases r4;exact i0f _ _ rfl r1 r3
theorem C9y (b:X.calm=true):A8l X (.builtin "max") (λxs H Q=>∃i j,xs=[.int i,.int j]/\Q (.int (if j>i then j else i)) H):=by
 intro a s Z H xs e Q I r h;obtain ⟨i,j,rfl,q⟩:=h;obtain ⟨u,d,rfl,⟨t,rfl⟩,⟨g,rfl⟩⟩:=C9g r;refine max_two_ints (I.ok.hd b) λf c k=>(i0f _ H (I.kept k) ?_ q);by_cases hj:j>i
 ·rw [Z12 hj,Z12 hj];exact ⟨_,rfl⟩
 ·rw [Z0t hj,Z0t hj];exact ⟨_,rfl⟩
theorem C8p (b:X.calm=true):A8l X (.builtin "min") (λxs H Q=>∃i j,xs=[.int i,.int j]/\Q (.int (if j<i then j else i)) H):=by
 intro a s Z H xs e Q I r h;obtain ⟨i,j,rfl,q⟩:=h;obtain ⟨u,d,rfl,⟨t,rfl⟩,⟨g,rfl⟩⟩:=C9g r;refine min_two_ints (I.ok.hd b) λf c k=>(i0f _ H (I.kept k) ?_ q);by_cases hj:j<i
 ·rw [Z12 hj,Z12 hj];exact ⟨_,rfl⟩
 ·rw [Z0t hj,Z0t hj];exact ⟨_,rfl⟩
theorem B9k:A8l X (.type "int") (λxs H Q=>(∃i,xs=[.int i]/\Q (.int i) H)\/∃k,xs=[.bl k]/\Q (.int (if k then 1 else 0)) H):=by
 intro a s Z H xs c Q I r h;rcases h with ⟨i,rfl,q⟩ | ⟨k,rfl,q⟩
 ·obtain ⟨u,rfl,t,rfl⟩:=B1p r;exact call_int_int (i0f (.int i) H I ⟨_,rfl⟩ q)
 ·obtain ⟨u,rfl,b⟩:=B1p r;cases b;exact call_int_bool (i0f (.int (if k then 1 else 0)) H (I.tok _) ⟨_,rfl⟩ q)
end
structure D8f (h:Heap) (x dx C:Addr) (mA:Str->Option Value):Prop where
 obj:h.get? x=some (instObj C dx)
 ns:h.Ns1 dx mA
 ne:dx≠x
theorem C8n {dx:Addr} (n:h.Ns1 dx mA):∃od,h.get? dx=some od/\∀name,PySem.W.lookIn name od=some (mA name):=by
 obtain ⟨o,c,l,g,d,i,_,j⟩:=n;refine i02 o g λname=> ?_;have e:=j name;unfold nsFind findBy at e;rw [<-Array.find?_toList] at e;unfold PySem.W.lookIn;rw [d];dsimp only;split
 ·rename_i y q;rw [q] at e;exact congrArg some e
 ·rename_i q;rw [q] at e
  have a:c.toList.any (·.refKey)=false:=by
   rw [List.any_eq_false];intro y f;obtain ⟨z,t,b⟩:=i y (Array.mem_toList_iff.mp f);simp [DictEntry.refKey,b]
  have k:¬c.toList.any (·.refKey)=true:=by rw [a];exact Z0v
  rw [Z0t k];exact congrArg some e
theorem D8f.look {x dx:Addr} (I:D8f h x dx C mA):∃od,PySem.W.InstAt h x (instObj C dx) C (some od)/\∀name,PySem.W.lookIn name od=some (mA name) :=
 let ⟨od,ho,hl⟩:=C8n I.ns
 (i02 od ⟨I.obj,rfl,rfl,ho⟩ hl)
section
variable {prog:Program} {w:World} {A:Around} {E:Value->Shared->Prop} {s:Shared} {K:Frag} {x dx C f:Addr} {mA:Str->Option Value} {name:Str} {v:Value}
theorem A6j {a:Bool} (X:K.In s.heap) (I:D8f s.heap x dx C mA) (f:plainGet K C name=true) (g:hasDictIn K C=true)
  (d:findIn K (.ref C) name=some none) (c:mA name=some v) (b:PySem.W.handedIn v=true) (h:Q v { s with toks:=s.toks+1 }) :
  wpAny (model prog w) A (getAttr (.ref x) name a) Q E s:=by
 obtain ⟨i,J,e⟩:=I.look;exact PySem.W.get_value X J (PySem.W.plainGet_of f).1 (PySem.W.findObj_own g d rfl (by rw [e,c])) b h
theorem D2y {Q:Value×List Value->Shared->Prop} (X:K.In s.heap) (I:D8f s.heap x dx C mA) (a:plainGet K C name=true)
  (b:findIn K (.ref C) name=some (some (.ref f))) (d:isFn K (.ref f)=true) (c:mA name=none) (h:Q (.ref f,[.ref x]) s) :
  wpAny (model prog w) A (getMethod (.ref x) name pl) Q E s:=by
 obtain ⟨g,J,e⟩:=I.look;exact PySem.W.method_fn X J (PySem.W.plainGet_of a).1 (PySem.W.plainGet_of a).2 b (beq_iff_eq.mp d) (by show (PySem.W.lookIn name g).map (·.isSome)=some false;rw [e,c];rfl) h
theorem D7u {ns:List Str} {Q:Unit->Shared->Prop} (X:K.In s.heap) (I:D8f s.heap x dx C mA)
  (l:findIn K (.ref C) "__setattr__"=some (some (.builtin "object.__setattr__"))) (m:plainOver K C=true) (j:PySem.W.takerIn K C name=some none) (t:hasDictIn K C=true)
  (q:PySem.Within mA ns) (hsz:ns.length<=sizeLine)
  (h:∀h',D8f h' x dx C (λy=>if y=name then some v else mA y)->Heap.SameBut dx s.heap h'->Q () { s with heap:=h',toks:=s.toks+2 }) :
  wpAny (model prog w) A (setAttr (.ref x) name v) Q E s:=by
 obtain ⟨D,J,B⟩:=I.look;refine PySem.W.set_plain X J l (PySem.W.osa_open (s:={ s with toks:=s.toks+1 }) (r:=none) X J m j λb=> ?_)
 obtain ⟨z,p,i⟩:=PySem.W.any_some t;have k:s.heap.get? x=some ⟨.ref C,some dx,.plain,#[]⟩:=I.obj;refine Z00 (Z04 (Z00 (Z00 (wpAny_loadPart k (Z00 (PySem.W.Looks.here (s:={ s with toks:=s.toks+1 }) (PySem.W.looks_clsIn X p) ?_))))));rw [i];refine Z04 (a:=some dx) (Z00 (Z04 (Z00 ?_)));refine wpAny_nsSet1 (s:={ s with toks:=s.toks+1 }) I.ns λh' d c=> ?_
 obtain ⟨u,n,o,f,g,e⟩:=d.count (PySem.Within.cons name v q);refine Z00 (wpAny_lookBehind f (by rw [g];exact pastItsLine_dict (Z1n e (by rw [Z0y];lia))) ?_);exact Z04 (h _ ⟨(c.2 _ (Ne.symm I.ne)).trans I.obj,d,I.ne⟩ c)
theorem D1f {vs:List Value} (X:K.In s.heap) (c:makesIn K C=true)
  (hi:findIn K (.ref C) "__init__"=some (some (.ref f))) (b:typeIn K (.ref f)=some (.type "function"))
  (h:codeAny (model prog w) (A.under (.builtin "type.__call__" ⟨.ref C::vs,kw⟩)) (.call (.ref f) ⟨.ref (s.heap.objs.size+1)::vs,kw⟩) (PySem.W.InitBack (s.heap.objs.size+1) R)
   { s with heap:=(s.heap.push emptyDict).push (instObj C s.heap.objs.size) }) :
  codeAny (model prog w) A (.call (.ref C) ⟨vs,kw⟩) R s:=by
 obtain ⟨i,g,d,t,e⟩:=s;exact PySem.W.make_core (PySem.W.makes_of X c) (PySem.W.looks_findIn X hi) (λa=>PySem.W.bind_fn X a b) (.inl rfl) h
end
def A4n (f:Str) (v:V):List (Str×V)->List (Str×V)
 | []=>[(f,v)]
 | (g,x)::r=>if g=f then (g,v)::r else (g,x)::A4n f v r
theorem B4e (f g:Str) (v:V):∀fs:List (Str×V),(A4n f v fs).lookup g=if g=f then some v else fs.lookup g
 | []=>by
  show List.lookup g [(f,v)]=_;by_cases h:g=f
  ·have a:(g == f)=true:=beq_iff_eq.mpr h;simp only [List.lookup,a,Z12 h]
  ·have a:(g == f)=false:=Z22.mpr h;simp only [List.lookup,a,Z0t h]
 | (k,x)::r=>by
  have b:=B4e f g v r;rw [show A4n f v ((k,x)::r)=(if k=f then (k,v)::r else (k,x)::A4n f v r) from rfl];by_cases hk:k=f
  ·rw [Z12 hk];by_cases h:g=k
   ·have a:(g == k)=true:=beq_iff_eq.mpr h;simp only [List.lookup,a,Z12 (h.trans hk)]
   ·have a:(g == k)=false:=Z22.mpr h;simp only [List.lookup,a,Z0t (λe:g=f=>h (e.trans hk.symm))]
  ·rw [Z0t hk];by_cases h:g=k
   ·have a:(g == k)=true:=beq_iff_eq.mpr h;simp only [List.lookup,a,Z0t (λe:g=f=>hk (h.symm.trans e))]
   ·have a:(g == k)=false:=Z22.mpr h;simp only [List.lookup,a];exact b
theorem B3a (f:Str) (v:V):∀fs:List (Str×V),f∈(A4n f v fs).map (·.1)/\∀g,g∈fs.map (·.1)->g∈(A4n f v fs).map (·.1)
 | []=>⟨by simp [A4n],λg h=>by simp at h⟩
 | (k,x)::r=>by
  obtain ⟨b,a⟩:=B3a f v r;rw [show A4n f v ((k,x)::r)=(if k=f then (k,v)::r else (k,x)::A4n f v r) from rfl];by_cases hk:k=f
  ·rw [Z12 hk];subst hk;exact ⟨by simp,λg h=>by simpa using h⟩
  ·rw [Z0t hk];refine ⟨?_,λg h=> ?_⟩
   ·rw [Z0p];exact Z1f _ b
   ·rw [Z0p] at h⊢;rcases Z0e.mp h with e | e
    ·exact Z0e.mpr (.inl e)
    ·exact Z1f _ (a g e)
theorem B3y (f:Str) (v:V):∀fs:List (Str×V),(A4n f v fs).length<=fs.length+1
 | []=>by simp [A4n]
 | (k,x)::r=>by
  have a:=B3y f v r;rw [show A4n f v ((k,x)::r)=(if k=f then (k,v)::r else (k,x)::A4n f v r) from rfl];by_cases hk:k=f
  ·rw [Z12 hk,Z0y,Z0y];lia
  ·rw [Z0t hk,Z0y,Z0y];lia
theorem B7s.some_of {v:V} (r:B7s (some v) o):∃u,o=some u/\A3c v u:=by
 cases o with
 | none=>exact (show False from r).elim
 | some u=>exact i02 u rfl r
theorem B7s.none_of (r:B7s none o):o=none:=by
 cases o with
 | none=>rfl
 | some u=>exact (show False from r).elim
theorem C9m {v:V} (r:A3c v u):PySem.W.handedIn u=true:=by
 cases v with
 | non=>cases (show u=Value.none from r);rfl
 | bl b=>cases (show u=Value.bool b from r);rfl
 | int i=>obtain ⟨t,e⟩:=(show∃t,u=Value.int i t from r);cases e;rfl
 | str x=>obtain ⟨t,e⟩:=(show∃t,u=Value.str x t from r);cases e;rfl
 | byt b=>obtain ⟨t,e⟩:=(show∃t,u=Value.bytes b t from r);cases e;rfl
 | flt b=>obtain ⟨t,e⟩:=(show∃t,u=Value.float b t from r);cases e;rfl
 | ref a=>cases (show u=Value.ref a from r);rfl
 | ty n=>cases (show u=Value.type n from r);rfl
section
variable {P:Program} {w:World} {H H':Hp} {h h':Heap} {a C dx:Addr} {fs fs':List (Str×V)}
theorem B4g (b:HOk P w H h) (e:H a=some (.ins C dx fs)):∃mA,D8f h a dx C mA/\(∀f,B7s (fs.lookup f) (mA f))/\PySem.Within mA (fs.map (·.1))/\fs.length<=1000/\H dx=some (.own a):=by
 obtain ⟨d,z,c,g,mA,n,r,q⟩:=(show A2q P w H h a (.ins C dx fs) from b a _ e);exact ⟨mA,(i09 ⟨g,n,c⟩ r q z d)⟩
end
structure Cls (K:Frag) (C:Addr):Prop where
 pg:plainGet K C Str.empty=true
 hd:hasDictIn K C=true
 po:plainOver K C=true
 sa:findIn K (.ref C) "__setattr__"=some (some (.builtin "object.__setattr__"))
theorem Cls.get (c:Cls K C) (f:Str):plainGet K C f=true:=c.pg
def A1m (K:Frag) (C:Addr) (f:Str):Prop:=findIn K (.ref C) f=some none
theorem A1m.taker {f:Str} (n:A1m K C f):PySem.W.takerIn K C f=some none:=by
 unfold PySem.W.takerIn;rw [show findIn K (.ref C) f=some none from n];rfl
structure C2o (K:Frag) (C:Addr) (m:Str) (f:Addr):Prop where
 at_:findIn K (.ref C) m=some (some (.ref f))
 fn:isFn K (.ref f)=true
 kp:keepIn K (.ref f)=true
section
variable {X:Cx} {pins:List (Addr×Obj)} {Z:St} {H:Hp} {s:Shared} {a C dx:Addr} {fs:List (Str×V)} {f:Str} {v:V} {A:Around} {E:Value->Shared->Prop}
theorem C4l {b:Bool} (I:Inv X pins Z H s) (e:H a=some (.ins C dx fs)) (c:Cls X.K C) (n:A1m X.K C f) (l:fs.lookup f=some v)
  (h:∀u s',Inv X pins Z H s'->A3c v u->Q u s'):wpAny (model X.prog X.w) A (getAttr (.ref a) f b) Q E s:=by
 obtain ⟨i,O,r,_,_,_⟩:=B4g I.hok e;obtain ⟨u,g,d⟩:=B7s.some_of (v:=v) (o:=i f) (by rw [<-l];exact r f);exact A6j I.kIn O (c.get f) c.hd n g (C9m d) (h u _ (I.tok _) d)
theorem B1d {m:Str} {g:Addr} {Q:Value×List Value->Shared->Prop} (I:Inv X pins Z H s) (e:H a=some (.ins C dx fs)) (c:Cls X.K C) (k:C2o X.K C m g) (l:fs.lookup m=none)
  (h:Q (.ref g,[.ref a]) s):wpAny (model X.prog X.w) A (getMethod (.ref a) m pl) Q E s:=by
 obtain ⟨b,O,r,_,_,_⟩:=B4g I.hok e;have d:b m=none:=B7s.none_of (by rw [<-l];exact r m);exact D2y I.kIn O (c.get m) k.at_ k.fn d h
theorem C5l {y:V} {Q:Unit->Shared->Prop} (I:Inv X pins Z H s) (e:H a=some (.ins C dx fs)) (c:Cls X.K C) (n:A1m X.K C f) (D:fs.length<1000) (t:A3c y u)
  (h:∀s',Inv X pins Z (upd H a (.ins C dx (A4n f y fs))) s'->Q () s'):wpAny (model X.prog X.w) A (setAttr (.ref a) f u) Q E s:=by
 obtain ⟨d,O,r,i,_,j⟩:=B4g I.hok e;have l:(fs.map (·.1)).length<=sizeLine:=by rw [Z08,sizeLine_eq];lia
 refine D7u I.kIn O c.sa c.po n.taker c.hd i l λv O' p=>h _ ?_;have k:∃o,v.get? dx=some o:=let ⟨o,_,_,e',_⟩:=O'.ns;⟨o,e'⟩;refine I.write (x:=a) (e:=dx) (by rw [e];exact True.intro) (.inr j) (λb q B z=>(p.2 b B).trans z) k ?_;refine i09 (by rw [A0i O.ne];exact j) ?_ O.ne O'.obj (i06 _ O'.ns (λg=> ?_) λg m=> ?_)
 ·have:=B3y f y fs;lia
 ·show B7s ((A4n f y fs).lookup g) (if g=f then some u else d g);rw [B4e];by_cases q:g=f
  ·rw [Z12 q,Z12 q];exact t
  ·rw [Z0t q,Z0t q];exact r g
 ·by_cases q:g=f
  ·rw [q];exact (B3a f y fs).1
  ·refine (B3a f y fs).2 g (i g λz=>m ?_);show (if g=f then some u else d g)=none;rw [Z0t q];exact z
theorem Inv.made (I:Inv X pins Z H s):Inv X pins Z (upd (upd H s.heap.objs.size (.own (s.heap.objs.size+1))) (s.heap.objs.size+1) (.ins C s.heap.objs.size []))
  { s with heap:=(s.heap.push emptyDict).push (instObj C s.heap.objs.size) }:=by
 have d:(s.heap.push emptyDict).get? s.heap.objs.size=some emptyDict:=Z0c s.heap rfl
 have h:((s.heap.push emptyDict).push (instObj C s.heap.objs.size)).get? (s.heap.objs.size+1)=some (instObj C s.heap.objs.size):=by
  have:=Z0c (s.heap.push emptyDict) (o:=instObj C s.heap.objs.size) rfl
  rwa [Z1s] at this
 have f:(s.heap.push emptyDict).Ns s.heap.objs.size (λ_=>none):=(i0r emptyDict (#[]) _ d rfl (λe i=>absurd i (by simp)) λ_=>rfl);have I1:=I.laid (a:=s.heap.objs.size) (o:= .own (s.heap.objs.size+1)) (h':=s.heap.push emptyDict) (t':=s.toks) (λb u q=>Z01 _ q) (Z09 _) ⟨_,d⟩;refine I1.laid (a:=s.heap.objs.size+1) (o:= .ins C s.heap.objs.size []) (t':=s.toks) (λb u q=>Z01 _ q) (Nat.le_of_eq (Z1s _ _)) ?_;have c:s.heap.objs.size≠s.heap.objs.size+1:=Z0h (Nat.lt_succ_self _);refine i09 (by rw [A0i c,A0b]) (Z1e _) c h (i06 (λ_=>none) ((Heap.Ns1.of_empty f).at λo q=>Z01 _ q) (λ_=>True.intro) λy g=>absurd rfl g)
theorem D5a {prog:Program} {a:Env} {e:Expr} {f:Str} (b:attributeBase e f a (eval e a)=eval e a)
  (h:wpAny (model prog w) A (eval e a) (λo s₁=>wpAny (model prog w) A (getAttr o f true) Q E s₁) E s):wpAny (model prog w) A (eval (.Attribute e f pos) a) Q E s :=
 Attribute_any_ h (by rw [arm_eval_Attribute,b])
end
def tFld (K:Frag) (ta:TE) (f:Str):TE:=λZ H Q=>ta Z H λx b=>∃a C d c v,x= .ref a/\b a=some (.ins C d c)/\Cls K C/\A1m K C f/\c.lookup f=some v/\Q v b
def sFld (K:Frag) (ta tv:TE) (f:Str):TS:=λD Z H=>tv Z H λy e=>ta Z e λx c=>∃a C d b,x= .ref a/\c a=some (.ins C d b)/\Cls K C/\A1m K C f/\b.length<1000/\
 D.nx Z (upd c a (.ins C d (A4n f y b)))
section
variable {X:Cx} {o e value:Expr} {f:Str} {pos pos' tpos:Pos} {ta tv:TE}
theorem A1c (p:PE X e ta) (m:attributeBase e f X.env (eval e X.env)=eval e X.env):PE X (.Attribute e f pos) (tFld X.K ta f):=by
 intro b s Z H Q I h;refine D5a m (thn (p b s Z H _ I h) ?_);rintro u y d;refine e0b d ?_;clear d;rintro x k I1 j a C r ⟨t,v,o,i,c,n,l,q⟩;subst o;obtain rfl:u=Value.ref a:=j;exact C4l I1 i c n l λz w I2 g=>(i0f v k I2 g q)
theorem A2d (r:PE X o ta) (j:PE X value tv) (g:swapsWith value (some (.Attribute o f pos')) pos.line X.env=pure false):PS X (.Assign [.Attribute o f pos'] value pos) (sFld X.K ta tv f):=by
 intro b s Z H D I h;refine plainObj_wpAny_Assign_Attribute (thn (j b s Z H _ I h) ?_) g;rintro u i ⟨y,p,I1,e,q⟩;refine thn (r b i Z p _ I1 q) ?_;rintro t F ⟨x,z,I2,m,a,C,A,w,v,k,c,n,l,d⟩;subst v;obtain rfl:t=Value.ref a:=m;exact C5l I2 k c n l e λB I3=>(i07 Z _ I3 d)
end
section
variable {X:Cx} {pins:List (Addr×Obj)} {Z:St} {H:Hp} {s:Shared} {A:Around} {E:Value->Shared->Prop} {Q:Value->Shared->Prop} {c:Value} {b:Bool}
inductive A8a (K:Frag) (H:Hp):V->Value->Prop where
 | non:A8a K H .non (.type "NoneType")
 | bl (x:Bool):A8a K H (.bl x) (.type "bool")
 | int (i:Int):A8a K H (.int i) (.type "int")
 | str (x:Str):A8a K H (.str x) (.type "str")
 | flt (x:UInt64):A8a K H (.flt x) (.type "float")
 | lst {a:Addr} {xs:List V} (e:H a=some (.lst xs)):A8a K H (.ref a) (.type "list")
 | frz {a:Addr} {o:Obj} {xs:List V} (e:H a=some (.frz o (.lst xs))):A8a K H (.ref a) (.type "list")
 | tup {a:Addr} {xs:List V} (e:H a=some (.tup xs)):A8a K H (.ref a) (.type "tuple")
 | dK {a:Addr} {kvs:List (Key×V)} (e:H a=some (.dK kvs)):A8a K H (.ref a) (.type "dict")
 | dT {a:Addr} {kvs:List (List Key×V)} (e:H a=some (.dT kvs)):A8a K H (.ref a) (.type "dict")
 | ins {a C dx:Addr} {fs:List (Str×V)} (e:H a=some (.ins C dx fs)) (cl:Cls K C) (ha:findIn K (.ref C) "__class__"=some (some (.builtin "object.__class__")))
   (hn:specialIn K (.builtin "object.__class__") "__get__"=some (some (.builtin "getset_descriptor.__get__"))) (htk:takesIn K (.builtin "object.__class__")=some true)
   (hm:mroIn K C (.type "object")=some true):A8a K H (.ref a) (.ref C)
theorem C6x {x:V} {t:Value} (I:Inv X pins Z H s) (d:A3c x u) (ty:A8a X.K H x t) (e:kitOne X.K t c=some b) (h:∀tk,Q (.bool b) { s with toks:=tk }) :
  wpAny (model X.prog X.w) A (call (.builtin "isinstance") [u,c]) Q E s:=by
 cases ty with
 | non=>cases (show u=Value.none from d);exact PySem.W.kia_one PySem.W.kitx_none I.kIn True.intro e (λz=>nomatch z) h
 | bl y=>cases (show u=Value.bool y from d);exact PySem.W.kia_one PySem.W.kitx_bool I.kIn True.intro e (λz=>nomatch z) h
 | int i=>obtain ⟨t,q⟩:=(show∃t,u=Value.int i t from d);cases q;exact PySem.W.kia_one PySem.W.kitx_int I.kIn True.intro e (λz=>nomatch z) h
 | str y=>obtain ⟨t,q⟩:=(show∃t,u=Value.str y t from d);cases q;exact PySem.W.kia_one PySem.W.kitx_str I.kIn True.intro e (λz=>nomatch z) h
 | flt y=>obtain ⟨t,q⟩:=(show∃t,u=Value.float y t from d);cases q;exact PySem.W.kia_one PySem.W.kitx_float I.kIn True.intro e (λz=>nomatch z) h
 | @lst a g ea =>
  cases (show u=Value.ref a from d)
  obtain ⟨_,_,n,_,f⟩:=(show A2q X.prog X.w H s.heap a (.lst g) from I.hok a _ ea);exact PySem.W.kia_one PySem.W.kitx_list I.kIn (i02 _ f rfl) e (λz=>nomatch z) h
 | @frz a ob g ea =>
  cases (show u=Value.ref a from d)
  obtain ⟨_,_,_,n,_,f⟩:=(show A2q X.prog X.w H s.heap a (.frz ob (.lst g)) from I.hok a _ ea);exact PySem.W.kia_one PySem.W.kitx_list I.kIn (i02 _ f rfl) e (λz=>nomatch z) h
 | @tup a g ea =>
  cases (show u=Value.ref a from d)
  obtain ⟨_,_,_,p⟩:=(show A2q X.prog X.w H s.heap a (.tup g) from I.hok a _ ea);obtain ⟨o,f,j,_⟩:=p;exact PySem.W.kia_one PySem.W.kitx_tuple I.kIn (i02 o f j) e (λz=>nomatch z) h
 | @dK a kvs ea =>
  cases (show u=Value.ref a from d)
  obtain ⟨_,_,v,_,p⟩:=(show A2q X.prog X.w H s.heap a (.dK kvs) from I.hok a _ ea);obtain ⟨o,l,k,f,j,_⟩:=p;exact PySem.W.kia_one PySem.W.kitx_dict I.kIn (i02 o f j.1) e (λz=>nomatch z) h
 | @dT a kvs ea =>
  cases (show u=Value.ref a from d)
  obtain ⟨_,_,g,_,o,l,k,f,j,_⟩:=(show A2q X.prog X.w H s.heap a (.dT kvs) from I.hok a _ ea);exact PySem.W.kia_one PySem.W.kitx_dict I.kIn (i02 o f j.1) e (λz=>nomatch z) h
 | @ins a C dx fs ea cl ha hn htk hm =>
  cases (show u=Value.ref a from d)
  obtain ⟨m,O,_⟩:=B4g I.hok ea;obtain ⟨r,J,_⟩:=O.look;exact PySem.W.kia_one (PySem.W.kitx_own (cl.get _) cl.hd ha hn htk hm) I.kIn J e (λz=>nomatch z) h
end
structure B0r (k:Nat) (A:Around):Prop where
 hd:A.handled=none
 dp:A.depth+3*k+5<recursionLimit
 un:A.units+16*k+200<cLine
 gd:A.guards=some []
theorem B0r.mono {j k:Nat} (r:B0r k A) (h:j<=k):B0r j A:=⟨r.hd,by have:=r.dp;lia,by have:=r.un;lia,r.gd⟩
theorem B0r.deeper {k:Nat} (r:B0r (k+1) A) (a:Env):B0r k (A.deeper a) :=
 ⟨r.hd,by have:=r.dp;show A.depth+1+3*k+5<_;lia,by have:=r.un;show A.units+3+16*k+200<_;lia,r.gd⟩
theorem C5s:(A.under (.builtin "type.__call__" ⟨.ref C::us,kw⟩)).depth=A.depth+1:=by
 first | rfl | simp [Around.under,Code.weight,Code.isCreation,Code.isGuard,Code.isCaller,Code.frames,Code.isFrame,guardIds]
theorem C4z:(A.under (.builtin "type.__call__" ⟨.ref C::us,kw⟩)).units=A.units+1:=by
 first | rfl | simp [Around.under,Code.cUnits,Code.frames,Code.isFrame]
theorem C1b:(A.under (.builtin "type.__call__" ⟨.ref C::us,kw⟩)).guards=A.guards:=by
 show pushGuards (Code.guards (.builtin "type.__call__" ⟨.ref C::us,kw⟩)) A.guards=A.guards;have h:Code.isGuard (.builtin "type.__call__" ⟨.ref C::us,kw⟩)=false:=by first | rfl | (simp [Code.isGuard,guardIds]) | decide
 unfold Code.guards;rw [h];cases A.guards <;> rfl
theorem B0r.make {k:Nat} (r:B0r (k+1) A) (C:Addr) (us:List Value) (kw:List (Str×Value)):B0r k (A.under (.builtin "type.__call__" ⟨.ref C::us,kw⟩)) :=
 ⟨r.hd,by have:=r.dp;rw [C5s];lia,by have:=r.un;rw [C4z];lia,by rw [C1b];exact r.gd⟩
theorem B0r.depth {k:Nat} (r:B0r k A):A.depth<recursionLimit:=by have:=r.dp;lia
theorem B0r.units {k:Nat} (r:B0r k A):A.units+64<cLine:=by have:=r.un;lia
def E4o:TA:=λ_ H Q=>Q [] H
def E2y (ta:TE) (tr:TA):TA:=λZ H Q=>ta Z H λx b=>tr Z b λc a=>Q (x::c) a
section
variable {X:Cx} {e:Expr} {es:List Expr} {te:TE} {t:TA} {pos:Pos}
theorem A0c:PA X [] E4o:=λ_ _ _ _ H Q I h=>Calls.spliced_nil (i0f [] H I .nil h)
theorem A0a (d:PE X e te) (n:PA X es t) (j:starEach (e::es) X.env=(false,eval e X.env)::starEach es X.env:=by rfl):PA X (e::es) (E2y te t):=by
 intro b a s Z H Q I h;rw [j];show wpAny _ _ (spliced ((false,eval e X.env)::backTo b (starEach es X.env))) _ _ s;refine Calls.spliced_cons (thn (d a s Z H _ I h) ?_);rintro u k ⟨x,m,I1,f,l⟩;exact thn (n b a k Z m _ I1 l) (by rintro q p ⟨o,c,I2,g,i⟩;exact i0f (x::o) c I2 (.cons f g) i)
def tTup (t:TA):TE:=λZ H Q=>t Z H λb a=>b.length<=sizeLine/\∀p,a p=none->Q (.ref p) (upd a p (.tup b))
def tLst (t:TA):TE:=λZ H Q=>t Z H λb a=>b.length<=sizeLine/\∀p,a p=none->Q (.ref p) (upd a p (.lst b))
theorem A1z {x1} (h:PA X es t):PE X (.Tuple es x1 pos) (tTup t):=by
 intro a s Z H Q I i;refine wpAny_Tuple_spliced (thn (h pos a s Z H _ I i) λg c ⟨j,d,I1,r,z,q⟩=>⟨by rw [<-r.length];exact z,?_⟩);have f:d c.heap.objs.size=none:=I1.hok.fresh (Z09 _);refine i0f (.ref c.heap.objs.size) (upd d c.heap.objs.size (.tup j)) (I1.laid (t':=c.toks) (λb u e=>Z01 _ e) (Z09 _) ?_) rfl (q _ f);exact i05 z g r (i0d _ (Z0c _ rfl) rfl _ rfl)
theorem A1r (h:PA X es t):PE X (.List es pos) (tLst t):=by
 intro a s Z H Q I i;refine wpAny_List_spliced (thn (h pos a s Z H _ I i) λg c ⟨j,d,I1,r,z,q⟩=>⟨by rw [<-r.length];exact z,?_⟩);have f:d c.heap.objs.size=none:=I1.hok.fresh (Z09 _);refine i0f (.ref c.heap.objs.size) (upd d c.heap.objs.size (.lst j)) (I1.laid (t':=c.toks) (λb u e=>Z01 _ e) (Z09 _) ?_) rfl (q _ f);exact i0b z g 0 r (Z0c _ rfl)
end
abbrev Sp:=List V->Hp->VK->XK->Prop
abbrev CXT:=List Env->Hp->Shared->XK->Value->Shared->Prop
structure D8d (P:Program) (w:World) (K:Frag) (mg:Str->Option Value) (base:Heap) (A:Around) (outer:List Env) (s:Shared) (H:Hp):Prop where
 frames:A.frames=some outer
 mod:Mod K mg base
 bs:∀b o,base.get? b=some o->s.heap.get? b=some o/\H b=none
 bsz:base.objs.size<=s.heap.objs.size
 funs:s.heap.FunFrames base outer
 frf:∀b∈frs outer,H b=none
 hok:HOk P w H s.heap
 bare:AllBare s.gens
def CE (outer:List Env) (P:Program) (w:World) (H:Hp) (s:Shared) (Q:VK) (u:Value) (s':Shared):Prop :=
 ∃v a,s'.os=s.os/\AllBare s'.gens/\Un (frs outer) [] H a s.heap s'.heap/\HOk P w a s'.heap/\A3c v u/\Q v a
def CR (CX:CXT) (outer:List Env) (P:Program) (w:World) (H:Hp) (s:Shared) (Q:VK) (E:XK) (r:Result) (s':Shared):Prop :=
 match r with
 | .ok (.ret u)=>CE outer P w H s Q u s'
 | .ok _=>False
 | .error e=>CX outer H s E e s'
structure A3i (P:Program) (w:World) (K:Frag) (mg:Str->Option Value) (base:Heap) (CX:CXT) (k:Nat) (f:Addr) (fd:FuncData) (ps:List Str) (sp:Sp):Prop where
 len:∀vs H Q E,sp vs H Q E->vs.length=ps.length
 run:∀(A:Around) (outer:List Env) (s:Shared) (H:Hp) (args:Args) (us:List Value) (vs:List V) (Q:VK) (E:XK),B0r k A->D8d P w K mg base A outer s H->BindsTo s fd args (ps.zip us)->A3z vs us->sp vs H Q E->
  codeAny (model P w) A (.call (.ref f) args) (CR CX outer P w H s Q E) s
theorem A3i.mono {j k:Nat} {f:Addr} {sp:Sp} (F:A3i P w K mg base CX j f fd ps sp) (h:j<=k) :
  A3i P w K mg base CX k f fd ps sp:=⟨F.len,λA a s H b c d Q E e=>F.run A a s H b c d Q E (e.mono h)⟩
theorem D8d.make (e:D8d P w K mg base A outer s H) (C:Addr) (us:List Value) (kw:List (Str×Value)) :
  D8d P w K mg base (A.under (.builtin "type.__call__" ⟨.ref C::us,kw⟩)) outer s H:=⟨by first | exact e.frames | (simpa [Around.under,Code.envs,Code.isFrame,pushEnvs] using e.frames),e.mod,e.bs,e.bsz,e.funs,e.frf,e.hok,e.bare⟩
section
variable {X:Cx} {pins:List (Addr×Obj)} {Z:St} {H:Hp} {s s':Shared}
theorem Inv.env0 (I:Inv X pins Z H s):D8d X.prog X.w X.K X.mg X.base X.A X.stack s H :=
 ⟨I.ok.frames,I.ok.mod,I.bs,Z1n I.ok.bsz I.sz,I.stack,I.stkFree,I.hok,I.bare⟩
theorem Inv.after {Q:VK} (I:Inv X pins Z H s) (h:CE X.stack X.prog X.w H s Q u s'):EP X pins Z Q u s':=by
 obtain ⟨v,j,f,a,i,e,r,q⟩:=h;obtain ⟨k,g,d,t,c⟩:=s';obtain rfl:c=s.os:=f;exact i0f v j (I.call (h':=k) (g':=g) (d':=d) (t':=t) (ch:=[]) i e a (λb z=>absurd z (by simp))) r q
end
def D9h (sp:Sp) (dvs:List V) (E:XK) (t:TA):TE:=λZ H Q=>t Z H λa b=>sp (a++dvs) b Q E
def D8t (C:Addr) (m:Str) (sp:Sp) (dvs:List V) (E:XK) (ta:TE) (t:TA):TE:=λZ H Q=>ta Z H λx b=>∃a e c,x= .ref a/\b a=some (.ins C e c)/\c.lookup m=none/\
 t Z b λf d=>sp (x::(f++dvs)) d Q E
def E0a (C:Addr) (sp:Sp) (dvs:List V) (E:XK) (t:TA):TE:=λZ H Q=>t Z H λd b=>∀x a,b x=none->b a=none->a≠x->
 sp (.ref x::(d++dvs)) (upd (upd b a (.own x)) x (.ins C a [])) (λv c=>v= .non/\Q (.ref x) c) E
def A9b (K:Frag) (fd:FuncData) (ps:List Str) (ds:List Value):Prop :=
 ∀(s:Shared) (a:List Value),K.In s.heap->(a++ds).length=ps.length->BindsTo s fd ⟨a,[]⟩ (ps.zip (a++ds))
theorem A9b.all (h:∀us:List Value,us.length=ps.length->bindArgs fd ⟨us,[]⟩=pure (ps.zip us)):A9b K fd ps []:=λs us _ a=>by
 rw [Z0u] at a⊢;exact .of_eq (h us a)
def B3d (CX:CXT) (X:Cx) (E:XK):Prop:=∀(a:List (Addr×Obj)) (Z:St) (H:Hp) (s:Shared) (e:Value) (b:Shared),Inv X a Z H s->CX X.stack H s E e b->X.xe e b
section
variable {X:Cx} {CX:CXT} {k:Nat} {f C:Addr} {fd:FuncData} {ps:List Str} {sp:Sp} {dvs:List V} {ds:List Value} {E:XK} {x m:Str} {p pos apos:Pos} {e o:Expr} {es:List Expr} {ta:TE} {t:TA}
theorem C3k {Q:VK} (F:A3i X.prog X.w X.K X.mg X.base CX k f fd ps sp) (l:B0r k X.A) (j:A9b X.K fd ps ds) (c:A3z dvs ds) (i:B3d CX X E)
  (I:Inv X pins Z H s) (r:A3z vs us) (h:sp (vs++dvs) H Q E):wpAny (model X.prog X.w) X.A (call (.ref f) us) (EP X pins Z Q) X.xe s:=by
 have b:A3z (vs++dvs) (us++ds):=r.append c;have g:(us++ds).length=ps.length:=by rw [<-b.length];exact F.len _ _ _ _ h
 refine wpAny_call (codeAny_mono (F.run X.A X.stack s H ⟨us,[]⟩ (us++ds) (vs++dvs) Q E l I.env0 (j s us I.kIn g) b h) λr d a=> ?_)
 cases r with
 | error e=>exact i pins Z H s e d I a
 | ok fl =>
  cases fl with
  | ret u=>exact I.after a
  | next=>exact False.elim a
  | brk=>exact False.elim a
  | cont=>exact False.elim a
theorem D6y (F:A3i X.prog X.w X.K X.mg X.base CX k f fd ps sp) (n:B0r k X.A) (j:Gl X x) (m:X.mg x=some (.ref f)) (l:keepIn X.K (.ref f)=true) (o:A9b X.K fd ps ds) (d:A3z dvs ds) (i:B3d CX X E)
  (g:PA X (e::es) t) (c:(x == ("__debug__":Str))=false:=by decide) (u:starEach (e::es) X.env=(false,eval e X.env)::starEach es X.env:=by rfl) (b:(backTo pos (starEach es X.env)).any (·.1)=false:=by rfl) :
  PE X (.Call (.Name x p) (e::es) [] pos) (D9h sp dvs E t):=by
 intro a s Z H Q I h;refine wpAny_Call_Name_kw (C0i I j m ?_ c);refine PySem.W.callWith_K (h₀:=X.base) I.ok.mod.kin l (thn (g pos a s Z H _ I h) λy v ⟨z,B,I1,r,q⟩=>⟨I1.kIn,?_⟩) u b;exact C3k F n o d i I1 r q
theorem B4d (G:PE X o ta) (c:Cls X.K C) (i:C2o X.K C m f) (F:A3i X.prog X.w X.K X.mg X.base CX k f fd ps sp) (N:B0r k X.A) (L:A9b X.K fd ps ds) (n:A3z dvs ds) (p:B3d CX X E) (J:PA X (e::es) t)
  (d:starEach (e::es) X.env=(false,eval e X.env)::starEach es X.env:=by rfl) (g:(backTo pos (starEach es X.env)).any (·.1)=false:=by rfl)
  (j:eval (.Call (.Attribute o m apos) (e::es) [] pos) X.env=(do
   let ov<-eval o X.env
   standAt apos.atName
   let (f,first)<-holding [ov] (getMethod ov m pl)
   callWith pos f first (backTo pos (starEach (e::es) X.env)) (backToKw pos (keywordEach [] X.env))):=by rfl) :
  PE X (.Call (.Attribute o m apos) (e::es) [] pos) (D8t C m sp dvs E ta t):=by
 intro b s Z H Q I h;refine PySem.W.methodCall_KW (pl:=pl) (thn (G b s Z H _ I h) ?_) j;rintro u y ⟨x,D,I1,B,a,R,O,M,z,l,q⟩;subst M;obtain rfl:u=Value.ref a:=B;refine B1d I1 z c i l ?_;refine PySem.W.callWith_K (first:=[.ref a]) (h₀:=X.base) I.ok.mod.kin i.kp (thn (J pos b y Z D _ I1 q) λus S ⟨vs,P,I2,r,v⟩=>⟨I2.kIn,?_⟩) d g;exact C3k (us:= .ref a::us) (vs:= .ref a::vs) F N L n p I2 (.cons rfl r) v
theorem D2t (v:PE X o ta) (c:Cls X.K C) (d:C2o X.K C m f) (F:A3i X.prog X.w X.K X.mg X.base CX k f fd ps sp) (t:B0r k X.A) (p:A9b X.K fd ps ds) (g:A3z dvs ds) (i:B3d CX X E)
  (e:eval (.Call (.Attribute o m apos) [] [] pos) X.env=(do
   let ov<-eval o X.env
   standAt apos.atName
   let (f,first)<-holding [ov] (getMethod ov m pl)
   callWith pos f first (backTo pos (starEach [] X.env)) (backToKw pos (keywordEach [] X.env))):=by rfl) :
  PE X (.Call (.Attribute o m apos) [] [] pos) (D8t C m sp dvs E ta E4o):=by
 intro b s Z H Q I h;refine PySem.W.methodCall_KW (pl:=pl) (thn (v b s Z H _ I h) ?_) e;rintro u B ⟨x,D,I1,n,a,y,z,r,j,l,q⟩;subst r;obtain rfl:u=Value.ref a:=n;refine B1d I1 j c d l ?_;exact PySem.W.callWith_K0 (first:=[.ref a]) I1.kIn d.kp (C3k (us:=[.ref a]) (vs:=[.ref a]) F t p g i I1 (.cons rfl .nil) q)
structure Mk (K:Frag) (C f:Addr):Prop where
 makes:makesIn K C=true
 init:findIn K (.ref C) "__init__"=some (some (.ref f))
 fn:isFn K (.ref f)=true
 kp:keepIn K (.ref C)=true
theorem D2l {Q:VK} (M:Mk X.K C f) (F:A3i X.prog X.w X.K X.mg X.base CX k f fd ps sp) (q:B0r (k+1) X.A) (o:A9b X.K fd ps ds) (d:A3z dvs ds)
  (i:B3d CX X E) (I:Inv X pins Z H s) (r:A3z vs us)
  (h:∀x dx,H x=none->H dx=none->dx≠x->sp (.ref x::(vs++dvs)) (upd (upd H dx (.own x)) x (.ins C dx [])) (λv H2=>v= .non/\Q (.ref x) H2) E) :
  wpAny (model X.prog X.w) X.A (call (.ref C) us) (EP X pins Z Q) X.xe s:=by
 have c:=h (s.heap.objs.size+1) s.heap.objs.size (I.hok.fresh (Nat.le_succ _)) (I.hok.fresh (Z09 _)) (Z0h (Nat.lt_succ_self _));have I2:=Inv.made (C:=C) I;have b:A3z (V.ref (s.heap.objs.size+1)::(vs++dvs)) (Value.ref (s.heap.objs.size+1)::(us++ds)):= .cons rfl (r.append d)
 have m:(Value.ref (s.heap.objs.size+1)::us++ds).length=ps.length:=by
  have e:=b.length;rw [F.len _ _ _ _ c] at e;exact e.symm
 refine wpAny_call (D1f (f:=f) I.kIn M.makes M.init (beq_iff_eq.mp M.fn) (codeAny_mono (F.run _ X.stack _ _ ⟨Value.ref (s.heap.objs.size+1)::us,[]⟩ (Value.ref (s.heap.objs.size+1)::(us++ds)) _ _ E (q.make C us [])
  (I2.env0.make C us []) (o _ (Value.ref (s.heap.objs.size+1)::us) I2.kIn m) b c) λr l a=> ?_))
 cases r with
 | error e=>exact i pins Z _ _ e l I2 a
 | ok fl =>
  cases fl with
  | ret u =>
   obtain ⟨v,j,I3,n,p,g⟩:=I2.after a;subst p;exact i0i n (V.ref (s.heap.objs.size+1)) j I3 rfl g
  | next=>exact False.elim a
  | brk=>exact False.elim a
  | cont=>exact False.elim a
theorem D4x (M:Mk X.K C f) (F:A3i X.prog X.w X.K X.mg X.base CX k f fd ps sp) (m:B0r (k+1) X.A) (j:Gl X x) (l:X.mg x=some (.ref C)) (n:A9b X.K fd ps ds) (d:A3z dvs ds) (i:B3d CX X E)
  (g:PA X (e::es) t) (c:(x == ("__debug__":Str))=false:=by decide) (o:starEach (e::es) X.env=(false,eval e X.env)::starEach es X.env:=by rfl) (b:(backTo pos (starEach es X.env)).any (·.1)=false:=by rfl) :
  PE X (.Call (.Name x p) (e::es) [] pos) (E0a C sp dvs E t):=by
 intro a s Z H Q I h;refine wpAny_Call_Name_kw (C0i I j l ?_ c);refine PySem.W.callWith_K (h₀:=X.base) I.ok.mod.kin M.kp (thn (g pos a s Z H _ I h) λv u ⟨y,z,I1,r,q⟩=>⟨I1.kIn,?_⟩) o b;exact D2l M F m n d i I1 r q
end
section
variable {X:Cx} {CX:CXT} {k:Nat} {f C:Addr} {fd:FuncData} {ps ks:List Str} {sp:Sp} {E:XK} {x m:Str} {p pos apos kpos:Pos} {e o:Expr} {es:List Expr} {kws:List Keyword} {te ta:TE} {t tk:TA} {nm:Option Str}
variable {g:List Value->List Value->List Value} {gV:List V->List V->List V}
end
structure A0w (N P:List Str) (sc:Scope):Prop where
 kind:sc.kind= .function
 co:sc.isCoroutine=false
 gen:sc.isGenerator=false
 nd:N.Nodup
 pre:N.take P.length=P
 par:∀x∈P,sc.names.lookup x=some .local\/sc.names.lookup x=some .cell
 nofree:∀y∈sc.names,y.2≠.free
theorem B7z {b:Str->Option NameKind} {x:Str}:∀{a:List (Str×Value)} {m:Str->Option Value},(∀v,(x,v)∉a)->bindL b a m x=m x
 | [],_,_=>rfl
 | (n,v)::r,m,h=>by
  unfold bindL;rw [B7z λw c=>h w (Z1f _ c)];split
  ·have:x≠n:=by rintro rfl;exact h v Z27
   simp [this]
  ·rfl
theorem B8x {b:Str->Option NameKind} {x:Str}:∀{a:List (Str×Value)} {m:Str->Option Value},(∀v,(x,v)∉a)->bindC b a m x=m x
 | [],_,_=>rfl
 | (n,v)::r,m,h=>by
  unfold bindC;rw [B8x λw c=>h w (Z1f _ c)];split
  ·rfl
  ·have:x≠n:=by rintro rfl;exact h v Z27
   simp [this]
theorem B8i {a:Str->Option NameKind} {x:Str} {v:Value}:∀{P:List Str} {vs:List Value} {i:Nat} {m:Str->Option Value},P.Nodup->P[i]? =some x->vs[i]? =some v->a x=some .local->
  bindL a (P.zip vs) m x=some v
 | [],_,_,_,_,h,_,_=>by simp at h
 | _::_,[],_,_,_,_,h,_=>by simp at h
 | p::P,w::vs,0,m,nd,h1,h2,hk=>by
  simp at h1 h2;subst h1;subst h2;show bindL a ((p,w)::P.zip vs) m p=_;unfold bindL;rw [B7z λv b=>(Z15.mp nd).1 (List.of_mem_zip b).1,Z12 hk];simp
 | p::P,w::vs,i+1,m,nd,h1,h2,hk=>by
  show bindL a ((p,w)::P.zip vs) m x=_;unfold bindL;exact B8i (i:=i) (Z15.mp nd).2 (by simpa using h1) (by simpa using h2) hk
theorem B9i {a:Str->Option NameKind} {x:Str} {v:Value}:∀{P:List Str} {vs:List Value} {i:Nat} {m:Str->Option Value},P.Nodup->P[i]? =some x->vs[i]? =some v->a x≠some .local->
  bindC a (P.zip vs) m x=some v
 | [],_,_,_,_,h,_,_=>by simp at h
 | _::_,[],_,_,_,_,h,_=>by simp at h
 | p::P,w::vs,0,m,nd,h1,h2,hk=>by
  simp at h1 h2;subst h1;subst h2;show bindC a ((p,w)::P.zip vs) m p=_;unfold bindC;rw [B8x λv b=>(Z15.mp nd).1 (List.of_mem_zip b).1,Z0t hk];simp
 | p::P,w::vs,i+1,m,nd,h1,h2,hk=>by
  show bindC a ((p,w)::P.zip vs) m x=_;unfold bindC;exact B9i (i:=i) (Z15.mp nd).2 (by simpa using h1) (by simpa using h2) hk
def B8a (N:List Str) (vs:List V):St:=vs.map some++List.replicate (N.length-vs.length) none
def D8g (CX:CXT) (P:Program) (w:World) (K:Frag) (mg:Str->Option Value) (base:Heap) (N:List Str) (qual:Str) (scope:Scope) (f:Addr) (cd:Value) (A:Around) (outer:List Env) (s:Shared) (H:Hp) (E:XK):Cx where
 prog:=P
 w:=w
 K:=K
 mg:=mg
 base:=base
 A:=A.deeper (envOfC qual scope s.heap.objs.size f cd)
 N:=N
 s₀:=s
 H₀:=H
 env:=envOfC qual scope s.heap.objs.size f cd
 outer:=outer
 stack:=envOfC qual scope s.heap.objs.size f cd::outer
 ex:=[]
 calm:=true
 fn:=λ_=>true
 pn:=[]
 xe:=λe b=>wpAny (model P w) (A.deeper (envOfC qual scope s.heap.objs.size f cd)) (leaving (envOfC qual scope s.heap.objs.size f cd) e) (λ_ a=>CX outer H s E e a) (λc a=>CX outer H s E c a) b
theorem C2t {sc:Scope} {n:Nat} {x:Str} (h:sc.names.lookup x=some .cell):∃c,(cellsFrom n sc.names []).lookup x=some c:=by
 have q:=PySem.W.cellsFrom_some sc.names n [] (.inl h);exact Option.isSome_iff_exists.mp q
theorem C9z {N:List Str} {qual:Str} {f:Addr} {cd:Value} {s1:Shared} {E:XK}
  (S:A0w N ps scope) (G:A.handled=none) (g:D8d P w K mg base A outer s H) (O:vs.length=ps.length) (r:A3z vs us)
  (x:InCallC s s.heap.objs.size (bindL (envOfC qual scope s.heap.objs.size f cd).kindOf (ps.zip us) λ_=>none) (cellsFrom (s.heap.objs.size+1) scope.names []) (bindC (envOfC qual scope s.heap.objs.size f cd).kindOf (ps.zip us) λ_=>none) s1) :
  Inv (D8g CX P w K mg base N qual scope f cd A outer s H E) [] (B8a N vs) H s1:=by
 have F:ps.length<=N.length:=by have:=congrArg List.length S.pre;rw [Z0x] at this;lia
 obtain ⟨t,L,rfl,C⟩:=x.done;have l:∀b:Addr,b∉(D8g CX P w K mg base N qual scope f cd A outer s H E).ex:=λb z=>absurd (show b∈([]:List Addr) from z) (by simp)
 refine ⟨⟨g.mod,S.kind,rfl,rfl,Z09 _,λy z c t d=> ?_,λy j=> ?_,λy c _ h=> ?_,λ_=>G,Around.frames_deeper g.frames,.inr ⟨rfl,rfl⟩,λb z=>absurd z (l b),g.bs,g.bsz,λb _ _=>l b,λb z=>absurd z (l b),g.funs,g.frf⟩,
  rfl,g.bare,Un.kept C,(i02 _ x.toInCall.ns λi y v t d M=> ?_),λy c h=>⟨_,x.cell y c h⟩,g.hok.fresh (Z09 _),λy c h=> ?_,λp o=>absurd (show p∈([]:List (Addr×Obj)) from o) (by simp),g.hok.kept C,?_⟩
 ·exact name_of_addr x.apart (PySem.mem_of_lookup t) (PySem.mem_of_lookup d)
 ·have j:scope.names.lookup y=some .cell\/scope.names.lookup y=some .free:=j;rcases j with j | j
  ·exact C2t j
  ·exact absurd rfl (S.nofree _ (PySem.mem_of_lookup j))
 ·exact Nat.le_of_lt (x.above y c (PySem.mem_of_lookup h))
 ·have B:i<vs.length:=by
   unfold B8a at d;by_cases B:i<vs.length
   ·exact B
   ·rw [Z1l (by simpa using B)] at d;rw [List.getElem?_replicate] at d;split at d <;> cases d
  have I:vs[i]? =some v:=by
   unfold B8a at d;rw [Z26 (by simpa using B),Z1z] at d
   cases e:vs[i]? with
   | none=>rw [e] at d;cases d
   | some a=>rw [e] at d;cases d;rfl
  obtain ⟨u,D,J⟩:=r.get I
  have o:ps[i]? =some y:=by
   rw [<-S.pre,List.getElem?_take_of_lt (by lia)];exact t
  have m:ps.Nodup:=by rw [<-S.pre];exact S.nd.sublist (Z2o _ _)
  refine i02 u J ?_;rcases S.par y (Z13 o) with k | k
  ·exact .inl ⟨k,B8i m o D k⟩
  ·obtain ⟨c,e⟩:=C2t (n:=s.heap.objs.size+1) k;refine .inr (i05 (.inl k) c e ?_);have q:=x.cell y c e;rw [B9i m o D (by show scope.names.lookup y≠_;rw [k];decide)] at q;exact q
 ·exact g.hok.fresh (Nat.le_of_lt (x.above y c (PySem.mem_of_lookup h)))
 ·unfold B8a;show _=N.length;rw [Z06,Z08,List.length_replicate]
  lia
theorem E2t {k:Nat} {f:Addr} {name qual:Str} {c:Arguments} {D kV l F a M oc:Value} {G od:Option Addr}
 {N:List Str} {sp:Sp} (lk:K.lookup f=some ⟨oc,od,.func (fnOf name qual c body scope D kV l F G a M),osl⟩) (p:codeIn K a qual=true) (S:A0w N ps scope)
  (m:∀vs H Q E,sp vs H Q E->vs.length=ps.length)
  (d:∀(A:Around) (outer:List Env) (s:Shared) (H:Hp) (vs:List V) (Q:VK) (E:XK),B0r k (A.deeper (envOfC qual scope s.heap.objs.size f a))->sp vs H Q E->
   ∃t,PSs (D8g CX P w K mg base N qual scope f a A outer s H E) body t/\t { nx:=λ_ H'=>Q .non H',rt:=Q } (B8a N vs) H) :
  A3i P w K mg base CX (k+1) f (fnOf name qual c body scope D kV l F G a M) ps sp:=by
 refine ⟨m,λA outer s H L R vs Q E C j hb r i=> ?_⟩;have T:=m _ _ _ _ i;have KX:K.In s.heap:=j.mod.kin.keeps λb o e=>(j.bs b o e).1;have B:s.heap.NoLimit:=j.mod.nolimit.keeps λb o e=>(j.bs b o e).1
 have g:∀y∈ps.zip R,scope.names.lookup y.1=some .local\/(scope.names.lookup y.1=some .cell/\((cellsFrom (s.heap.objs.size+1) scope.names []).lookup y.1).isSome=true):=λ⟨n,v⟩ Y=>by
  rcases S.par n (List.of_mem_zip Y).1 with q | q
  ·exact .inl q
  ·exact .inr ⟨q,PySem.W.cellsFrom_some _ _ _ (.inl q)⟩
 refine codeAny_call_function C.depth (KX _ _ lk) rfl S.co S.gen rfl (PySem.W.codeRec_of KX p) (hb _ _ _ _ ?_);refine wpAny_newFunctionEnv_cells S.kind g λU X s1 x=> ?_;subst X;refine ⟨B.keeps x.toInCall.keep,codeAny_func ?_⟩;obtain ⟨t,O,hq⟩:=d A outer s H vs Q E (C.deeper _) i;have I:Inv (D8g CX P w K mg base N qual scope f a A outer s H E) [] (B8a N vs) H s1:=C9z S C.hd j T r x;refine Z10 (O [] s1 (B8a N vs) H _ I hq) (λZ s' h=> ?_) λe s' h=>h
 have fin:∀{Z':St} {H':Hp} {v:V} {u:Value},Inv (D8g CX P w K mg base N qual scope f a A outer s H E) [] Z' H' s'->A3c v u->Q v H'->CE outer P w H s Q u s' :=
  λ{Z' H' v u} J z q=>(i0t v H' J.os J.bare J.base J.hok z q)
 cases Z with
 | ret u =>
  obtain ⟨v,Z',H',J,z,q⟩:=h;exact fin J z q
 | next =>
  obtain ⟨Z',H',J,q⟩:=h;exact fin (v:=V.non) (u:=Value.none) J rfl q
 | brk =>
  obtain ⟨_,_,_,q⟩:=h;exact False.elim q
 | cont =>
  obtain ⟨_,_,_,q⟩:=h;exact False.elim q
section
variable {X:Cx} {x:Str} {p pos:Pos} {e:Expr} {es:List Expr} {t:TA} {id T:String} {r:List V->Hp->VK->Prop}
def tCB (r:List V->Hp->VK->Prop) (t:TA):TE:=λZ H Q=>t Z H λa b=>r a b Q
theorem A0q (u:A8l X (.builtin id) r) (g:Gl X x) (k:X.mg x=none) (l:bootBuiltins x=some (.builtin id)) (d:PA X (e::es) t) (i:x≠"__name__":=by decide) (c:(x == ("__debug__":Str))=false:=by decide)
  (v:starEach (e::es) X.env=(false,eval e X.env)::starEach es X.env:=by rfl) (b:(backTo pos (starEach es X.env)).any (·.1)=false:=by rfl):PE X (.Call (.Name x p) (e::es) [] pos) (tCB r t):=by
 intro a s Z H Q I h;refine wpAny_Call_Name_kw (B1t I g k l ?_ i c);exact PyProof.Rows.callWith_builtin1 (thn (d pos a s Z H _ I h) (by rintro n j ⟨o,q,I1,f,m⟩;exact u a j Z q o n Q I1 f m)) v b
theorem A2k (u:A8l X (.type T) r) (g:Gl X x) (k:X.mg x=none) (l:bootBuiltins x=some (.type T)) (d:PA X (e::es) t) (i:x≠"__name__":=by decide) (c:(x == ("__debug__":Str))=false:=by decide)
  (v:starEach (e::es) X.env=(false,eval e X.env)::starEach es X.env:=by rfl) (b:(backTo pos (starEach es X.env)).any (·.1)=false:=by rfl):PE X (.Call (.Name x p) (e::es) [] pos) (tCB r t):=by
 intro a s Z H Q I h;refine wpAny_Call_Name_kw (B1t I g k l ?_ i c);exact PyProof.Rows.callWith_type1 (thn (d pos a s Z H _ I h) (by rintro n j ⟨o,q,I1,f,m⟩;exact u a j Z q o n Q I1 f m)) v b
end
end L2
namespace HT
open PySem PyProof.Rows
section
open PySem.SeqAt
open PySem.AutoSeq1 (wpAny_loadPart')
open PySem.MeetsSeq PySem.MeetsSeq2 PySem.MeetsSeq3
end
section
variable {prog:Program} {w:World} {A:Around} {E:Value->Shared->Prop} {s:Shared}
theorem cat_tup {t b:Addr} {vs ws:List Value} {Q:Value->Shared->Prop} (r:IsTup s.heap t vs.toArray) (u:IsTup s.heap b ws.toArray) (m:vs≠[])
  (h1:ws=[]->Q (.ref t) s) (h2:ws≠[]->Q (.ref s.heap.objs.size) { s with heap:=s.heap.push { cls:= .type "tuple",data:= .seq (vs++ws).toArray } })
  (hsz:vs.length+ws.length<=sizeLine):wpAny (model prog w) A (binaryOp .Add (.ref t) (.ref b)) Q E s:=by
 obtain ⟨⟨cls,l,data,j⟩,h,p,n,k⟩:=id r;obtain ⟨⟨o,f,i,d⟩,a,g,q,c⟩:=id u;simp only at p k g c;subst p k g c;have e:vs.toArray++ws.toArray=(vs++ws).toArray:=by simp
 by_cases hw:ws=[]
 ·exact concat_meets (i02 _ h rfl) (i02 _ a rfl) noFill_tuple_add seq_tuple_add PySem.F.slot_tuple_add PySem.F.entry_tuple_add (PySem.F.args_tuple_add_2 _ _)
   (tuple_addW1 t b vs.toArray ws.toArray n q l f j d (by simpa using m) (by simp [hw])) (i00 h a (h1 hw))
 ·refine concat_meets (i02 _ h rfl) (i02 _ a rfl) noFill_tuple_add seq_tuple_add PySem.F.slot_tuple_add PySem.F.entry_tuple_add (PySem.F.args_tuple_add_2 _ _)
   (tuple_addW2 t b vs.toArray ws.toArray n q l f j d (by simpa using m) (by simpa using hw) (by rw [Z0g,Z0g];exact hsz)) (i00 h a ?_)
  rw [e];exact h2 hw
def sIx (n d:Nat):Option Int->Nat
 | none=>d
 | some v=>if v<0 then (v+(n:Int)).toNat else min v.toNat n
theorem sIx_nat (n d k:Nat):sIx n d (some (k:Int))=min k n:=by
 show (if (k:Int)<0 then ((k:Int)+(n:Int)).toNat else min (k:Int).toNat n)=min k n;rw [Z0t (by lia),Int.toNat_natCast]
end
end HT
namespace L2
open PySem PySem.Spec PyProof.Rows
variable {r:V->Option Int->Option Int->Hp->VK->Prop} {xs:List (List Key×Addr×Value)} {s:Shared} {y:V} {u:Value} {pins:List (Addr×Obj)} {H:Hp} {its:List Value} {f:Array Value->Array Value} {t':Nat} {o:Option V} {P:Program} {w:World} {kvs:List (List Key×V)} {a:Addr} {Q:Value->Shared->Prop}
abbrev TO:=St->Hp->(Option Int->Hp->Prop)->Prop
def PO (X:Cx) (e:Option Expr) (t:TO):Prop :=
 ∀(a:List (Addr×Obj)) (s:Shared) (Z:St) (H:Hp) (Q:Option Int->Hp->Prop),Inv X a Z H s->t Z H Q->
  wpAny (model X.prog X.w) X.A (evalPart e X.env) (λu c=>∃o b,Inv X a Z b c/\IsPart u o/\Q o b) X.xe s
def D6s:TO:=λ_ H Q=>Q none H
def E3n (t:TE):TO:=λZ H Q=>t Z H λx a=>∃i,x= .int i/\Q (some i) a
section
variable {X:Cx} {e:Expr} {te:TE} {lo hi:Option Expr} {tl th:TO} {pos p2:Pos}
theorem C1l:PO X none D6s:=by
 intro a s Z H Q I h;rw [evalPart_none];exact Z04 (i0f none H I .none h)
theorem B3l (h:PE X e te):PO X (some e) (E3n te):=by
 intro a s Z H Q I f;rw [evalPart_some];refine thn (h a s Z H _ I f) ?_;rintro u g ⟨x,d,I1,b,c⟩;obtain ⟨i,rfl,q⟩:=c;obtain ⟨t,rfl⟩:=b;exact i0f (some i) d I1 (.int i t) q
def SlR (X:Cx) (r:V->Option Int->Option Int->Hp->VK->Prop):Prop :=
 ∀(a:List (Addr×Obj)) (s:Shared) (Z:St) (H:Hp) (x:V) (v b f:Value) (d e:Option Int) (c:Addr) (Q:VK),Inv X a Z H s->A3c x v->s.heap.IsSliceOf c b f .none->IsPart b d->IsPart f e->r x d e H Q->
  ∃T id,typeLookup (.type T) "__getitem__"=pure (some (.builtin id))/\s.TypeIs v T/\wpAny (model X.prog X.w) X.A (getItem v (.ref c)) (EP X a Z Q) X.xe s
def tSl (r:V->Option Int->Option Int->Hp->VK->Prop) (te:TE) (tl th:TO):TE:=λZ H Q=>te Z H λx c=>tl Z c λl a=>th Z a λu b=>r x l u b Q
theorem B2q (K:SlR X r) (z:PE X e te) (t:PO X lo tl) (y:PO X hi th):PE X (.Subscript e (.Slice lo hi none p2) pos) (tSl r te tl th):=by
 intro a s Z H Q I h;refine Subscript_ (thn (z a s Z H _ I h) ?_);rintro v o ⟨x,p,I1,j,G⟩;refine wpAny_Slice (thn (t a o Z p _ I1 G) ?_);rintro d F ⟨l,D,I2,J,m⟩;refine thn (y a F Z D _ I2 m) ?_;rintro f c ⟨u,g,I3,B,k⟩;rw [evalPart_none];refine Z04 ?_;have I4:Inv X a Z g { c with heap:=c.heap.push { cls:= .type "slice",data:= .fields #[d,f,.none] } }:=I3.kept (t':=c.toks) λb L q=>Z01 _ q
 obtain ⟨T,id,C,i,n⟩:=K a { c with heap:=c.heap.push { cls:= .type "slice",data:= .fields #[d,f,.none] } } Z g x v d f l u c.heap.objs.size Q I4 j (Heap.IsSliceOf.new ..) J B k;show wpAny (model X.prog X.w) X.A (subscriptTail e (.Slice lo hi none p2) v (.ref c.heap.objs.size)) (EP X a Z Q) X.xe { c with heap:=c.heap.push { cls:= .type "slice",data:= .fields #[d,f,.none] } };exact tail_any (ops:=[.ref c.heap.objs.size,v]) i C n (by with_unfolding_all rfl)
def D0y (xs:List V) (lo hi:Option Int):List V:=(xs.drop (HT.sIx xs.length 0 lo)).take (HT.sIx xs.length xs.length hi-HT.sIx xs.length 0 lo)
theorem C0z (xs:List V) (lo hi:Option Int):(D0y xs lo hi).length<=xs.length:=by
 unfold D0y;rw [Z0x,List.length_drop]
 lia
def E2s (K:Frag):R2:=λx y H Q=>∃a b d c,x= .ref a/\y= .ref b/\SqT K H a d/\SqT K H b c/\d≠[]/\d.length+c.length<=sizeLine/\
 (c=[]->Q (.ref a) H)/\(c≠[]->∀p,H p=none->Q (.ref p) (upd H p (.tup (d++c))))
theorem A3z.nil_iff {xs:List V} {us:List Value} (r:A3z xs us):us=[]↔xs=[]:=by
 cases r with
 | nil=>simp
 | cons _ _=>simp
theorem D6f:OpR X (binaryOp .Add) (E2s X.K):=by
 intro f s Z H x y v u Q I n m h;obtain ⟨a,b,C,t,rfl,rfl,p,A,j,g,r,l⟩:=h;cases n;cases m;obtain ⟨B,d,i,_⟩:=I.tuple p;obtain ⟨e,c,k,_⟩:=I.tuple A;refine HT.cat_tup i k (λz=>j (d.nil_iff.mp z)) (λz=>(i0f (.ref a) H I rfl (r (c.nil_iff.mp z)))) (λz=> ?_) (by rw [<-d.length,<-c.length];exact g);refine i0f (.ref s.heap.objs.size) _ (I.laid (t':=s.toks) (o:= .tup (C++t)) (λb D q=>Z01 _ q) (Z09 _) ?_) rfl (l (λw=>z (c.nil_iff.mpr w)) _ (I.hok.fresh (Z09 _)));exact i05 (by rw [Z06];exact g) _ (d.append c) (IsTup.new _ _)
end
def ixN (n:Nat) (i:Int):Option Nat:=if 0<=i then (if i<n then some i.toNat else none) else if -(n:Int)<=i then some (i+n).toNat else none
def atI {α:Type} (xs:List α) (i:Int):Option α:=(ixN xs.length i).bind λj=>xs[j]?
theorem D5e {n:Nat} {i:Int} {j:Nat} (h:ixN n i=some j):seqIndex? i n=some j/\j<n/\-(n:Int)<=i/\i<n:=by
 unfold ixN at h;by_cases h0:0<=i
 ·rw [Z12 h0] at h;by_cases h1:i<n
  ·rw [Z12 h1] at h;have e:i.toNat=j:=Z1a h;exact i04 (by rw [seqIndex_of h0 h1,e]) (by lia) (by lia) h1
  ·rw [Z0t h1] at h;cases h
 ·rw [Z0t h0] at h;by_cases h1: -(n:Int)<=i
  ·rw [Z12 h1] at h;have e:(i+n).toNat=j:=Z1a h;exact i04 (by rw [seqIndex_neg (by lia) h1,e]) (by lia) h1 (by lia)
  ·rw [Z0t h1] at h;cases h
theorem C0j {α:Type} {xs:List α} {i:Int} {v:α} (h:atI xs i=some v):∃j,seqIndex? i xs.length=some j/\xs[j]? =some v/\j<xs.length/\-(xs.length:Int)<=i/\i<xs.length:=by
 unfold atI at h
 cases e:ixN xs.length i with
 | none=>rw [e] at h;cases h
 | some j =>
  rw [e] at h;obtain ⟨b,a,d,c⟩:=D5e e;exact ⟨j,(i09 b h a d c)⟩
theorem A3m {α:Type} {xs:List α} {j:Nat} {v:α} (h:xs[j]? =some v):atI xs (j:Int)=some v:=by
 have a:j<xs.length:=(Z03.mp h).1
 have e:ixN xs.length (j:Int)=some j:=by
  unfold ixN;rw [Z12 (by lia),Z12 (by lia)];simp
 unfold atI;rw [e];exact h
def D5q (b:Expr):Prop:=∀o i,subscripted b false o i=operate [o,i] (getItem o i)
def IxR (X:Cx) (r:R2):Prop :=
 ∀(c a:Expr) (b:List (Addr×Obj)) (s:Shared) (Z:St) (H:Hp) (x y:V) (v u:Value) (Q:VK),Inv X b Z H s->A3c x v->A3c y u->r x y H Q->
  subscripted a false v u=operate [v,u] (getItem v u)->wpAny (model X.prog X.w) X.A (subscriptTail c a v u) (EP X b Z Q) X.xe s
def MtR (X:Cx) (id:String) (r:V->List V->Hp->VK->Prop):Prop :=
 ∀(a:List (Addr×Obj)) (s:Shared) (Z:St) (H:Hp) (x:V) (c:List V) (v:Value) (b:List Value) (Q:VK),Inv X a Z H s->A3c x v->A3z c b->r x c H Q->
  wpAny (model X.prog X.w) X.A (call (.builtin id) (v::b)) (EP X a Z Q) X.xe s
section
variable {X:Cx} {a b:Expr} {ta tb:TE} {pos:Pos}
theorem A1f {r:R2} (l:IxR X r) (e:PE X a ta) (k:PE X b tb) (i:D5q b):PE X (.Subscript a b pos) (tOp r ta tb):=by
 intro c s Z H Q I h;exact Subscript_ (E4d e k I h λv u f x y d I2 j g q=>l a b c f Z d x y v u Q I2 j g q (i _ _))
def E4s (K:Frag):R2:=λx y H Q=>∃p a i v,x= .ref p/\y= .int i/\SqL K H p a/\atI a i=some v/\Q v H
def rIxT (K:Frag):R2:=λx y H Q=>∃p a i v,x= .ref p/\y= .int i/\SqT K H p a/\atI a i=some v/\Q v H
def rIxS:R2:=λx y H Q=>∃z i c,x= .str z/\y= .int i/\z.length<=sizeLine/\atI z.cps.toList i=some c/\Q (.str ⟨#[c]⟩) H
theorem A1n:IxR X (E4s X.K):=by
 intro e k a s Z H x y v u Q I o n h l;obtain ⟨p,O,i,z,rfl,rfl,G,D,q⟩:=h;cases o;obtain ⟨t,rfl⟩:=n;obtain ⟨g,r,f,N⟩:=I.list G;obtain ⟨j,b,C,M,J,F⟩:=C0j D;obtain ⟨w,m,d⟩:=r.get C;have B:=r.length;have L:=B7u;have fin:EP X a Z Q w s:=(i0f z H I d q);by_cases h0:0<=i
 ·have c:i.toNat=j:=by
   rw [seqIndex_of h0 F] at b;exact Z1a b
  exact item_listR f.isList h0 (by lia) (by rw [c];simpa using m) fin l
 ·have c:(i+(g.toArray.size:Int)).toNat=j:=by
   rw [seqIndex_neg (by lia) J] at b;rw [Z0g,<-B];exact Z1a b
  exact subscriptTail_builtinR (x:=w) f.isList.typeIs slot_list_getitem.lookup
   (wpAny_getItem_list_neg (Q:=λr A=>r=w/\EP X a Z Q r A) f.isList (by lia) (by rw [Z0g] <;> lia) (by lia) (by rw [c];simpa using m) ⟨rfl,fin⟩) l
theorem A1h:IxR X (rIxT X.K):=by
 intro c d a s Z H x y v u Q I k f h g;obtain ⟨p,N,i,z,rfl,rfl,C,o,q⟩:=h;cases k;obtain ⟨t,rfl⟩:=f;obtain ⟨D,r,e,L⟩:=I.tuple C;obtain ⟨j,A,n,G,M,J⟩:=C0j o;obtain ⟨w,B,b⟩:=r.get n;have m:=r.length;have F:=B7u;have fin:EP X a Z Q w s:=(i0f z H I b q)
 exact subscriptTail_builtinR (x:=w) e.typeIs slot_tuple_getitem.lookup
  (getItem_tuple (j:=j) (Q:=λr l=>r=w/\EP X a Z Q r l) e (by lia) (by lia) (by rw [Z0g,<-m];exact A) (by simpa using B) ⟨rfl,fin⟩) g
theorem C7x:IxR X rIxS:=by
 intro a b d s Z H x y v u Q I k f h g;obtain ⟨z,i,c,rfl,rfl,D,o,q⟩:=h;obtain ⟨t,rfl⟩:=k;obtain ⟨C,rfl⟩:=f;obtain ⟨j,e,n,B,w,p⟩:=C0j o;have l:z.cps.toList.length=z.length:=by simp [Str.length]
 rw [l] at e w p;have A:=B7u
 exact tail_any (typeIs_str s z t) slot_str_getitem.lookup (getItem_str (c:=c) (by
  have m:decide (i< -(2^63:Int))=false:=Z1j (by lia);have r:decide (i≥2^63)=false:=Z1j (by lia)
  rw [m,r,Bool.or_false]) (by rw [e];simpa using n) (i0f (.str ⟨#[c]⟩) H (I.tok _) ⟨_,rfl⟩ q)) g
theorem B7w (lo hi:Option Int) (n:Nat):(sliceBounds lo hi none n).1=((HT.sIx n 0 lo:Nat):Int)/\(sliceBounds lo hi none n).2.1=((HT.sIx n n hi:Nat):Int)/\(sliceBounds lo hi none n).2.2=1:=by
 refine i00 ?_ ?_ rfl
 ·cases lo with
  | none=>simp [sliceBounds,HT.sIx]
  | some i =>
   simp only [sliceBounds,HT.sIx,Option.getD_none,show (1:Int)>0 by decide,if_true];by_cases h:i<0
   ·simp only [h,if_true] <;> lia
   ·simp only [h,if_false] <;> lia
 ·cases hi with
  | none=>simp [sliceBounds,HT.sIx]
  | some i =>
   simp only [sliceBounds,HT.sIx,Option.getD_none,show (1:Int)>0 by decide,if_true];by_cases h:i<0
   ·simp only [h,if_true] <;> lia
   ·simp only [h,if_false] <;> lia
theorem B6m (its:List Value) (lo hi:Option Int):slicePick its.toArray lo hi none=((its.drop (HT.sIx its.length 0 lo)).take (HT.sIx its.length its.length hi-HT.sIx its.length 0 lo)).toArray:=by
 obtain ⟨c,a,b⟩:=B7w lo hi its.toArray.size;unfold slicePick;rw [c,a,b];simp only [sliceRange_one,pick_run,Z0g] <;> rfl
def rSlL (K:Frag):V->Option Int->Option Int->Hp->VK->Prop:=λx c d H Q=>∃a b,x= .ref a/\SqL K H a b/\∀p,H p=none->Q (.ref p) (upd H p (.lst (D0y b c d)))
theorem C6u:SlR X (rSlL X.K):=by
 intro i s Z H x v u y e f w Q I m l n t h;obtain ⟨a,c,rfl,k,q⟩:=h;cases m;obtain ⟨p,r,g,j⟩:=I.list k;have d:=r.length;refine i0f "list" _ slot_list_getitem.lookup g.isList.typeIs ?_;refine wpAny_getItem_list_slice g.isList l n t .none (by simp) ?_ (by rw [Z0g] <;> lia);rw [B6m,<-d];refine i0f (.ref s.heap.objs.size) _ (I.laid (t':=s.toks) (o:= .lst (D0y c e f)) (λb z q=>Z01 _ q) (Z09 _) ?_) rfl (q _ (I.hok.fresh (Z09 _)));exact i0b (Z1n (C0z c e f) j) _ 0 ((r.drop (HT.sIx c.length 0 e)).take (HT.sIx c.length c.length f-HT.sIx c.length 0 e)) (Z0c _ rfl)
def B7g:V->Bool
 | .non=>true
 | .bl _=>true
 | .int _=>true
 | .str _=>true
 | _=>false
noncomputable def eqV:V->V->Bool
 | .non,.non=>true
 | .bl a,.bl b=>a == b
 | .bl a,.int b=>(if a then 1 else 0) == b
 | .int a,.bl b=>a == (if b then 1 else 0)
 | .int a,.int b=>a == b
 | .str a,.str b=>a == b
 | _,_=>false
theorem E0t {A:Around} {x:V} {v:Value} (e:A3c y u) (c:A3c x v) (g:B7g y=true) (f:B7g x=true):SeqAt.EqAt A s u v (eqV y x):=by
 cases y with
 | non =>
  cases e
  cases x with
  | non=>cases c;exact SeqAt.EqAt.same _
  | bl b=>cases c;exact SeqAt.EqAt.none_bool b
  | int b=>obtain ⟨t,rfl⟩:=c;exact SeqAt.EqAt.none_int b t
  | str b=>obtain ⟨t,rfl⟩:=c;exact SeqAt.EqAt.none_str b t
  | _=>exact absurd (show false=true from f) Z0v
 | bl a =>
  cases e
  cases x with
  | non=>cases c;exact SeqAt.EqAt.bool_none a
  | bl b=>cases c;exact SeqAt.EqAt.bool_bool a b
  | int b=>obtain ⟨t,rfl⟩:=c;exact SeqAt.EqAt.bool_int a b t
  | str b=>obtain ⟨t,rfl⟩:=c;exact SeqAt.EqAt.bool_str a b t
  | _=>exact absurd (show false=true from f) Z0v
 | int a =>
  obtain ⟨d,rfl⟩:=e
  cases x with
  | non=>cases c;exact SeqAt.EqAt.int_none a d
  | bl b=>cases c;exact SeqAt.EqAt.int_bool a d b
  | int b=>obtain ⟨t,rfl⟩:=c;exact SeqAt.EqAt.int_int a d b t
  | str b=>obtain ⟨t,rfl⟩:=c;exact SeqAt.EqAt.int_str a d b t
  | _=>exact absurd (show false=true from f) Z0v
 | str a =>
  obtain ⟨d,rfl⟩:=e
  cases x with
  | non=>cases c;exact SeqAt.EqAt.str_none a d
  | bl b=>cases c;exact SeqAt.EqAt.str_bool a d b
  | int b=>obtain ⟨t,rfl⟩:=c;exact SeqAt.EqAt.str_int a d b t
  | str b=>obtain ⟨t,rfl⟩:=c;exact SeqAt.EqAt.str_str a d b t
  | _=>exact absurd (show false=true from f) Z0v
 | _=>exact absurd (show false=true from g) Z0v
def eqU (x:V) (u:Value):Bool:=match u with
 | .none=>eqV .non x
 | .bool b=>eqV (.bl b) x
 | .int i _=>eqV (.int i) x
 | .str z _=>eqV (.str z) x
 | _=>false
theorem D4d {x:V} (r:A3c y u) (f:B7g y=true):eqU x u=eqV y x:=by
 cases y with
 | non=>cases r;rfl
 | bl b=>cases r;rfl
 | int i=>obtain ⟨t,rfl⟩:=r;rfl
 | str z=>obtain ⟨t,rfl⟩:=r;rfl
 | _=>exact absurd (show false=true from f) Z0v
theorem B3k {x:V}:∀{xs:List V} {us:List Value},A3z xs us->xs.all B7g=true->us.any (eqU x)=xs.any λy=>eqV y x
 | _,_,.nil,_=>rfl
 | y::xs,u::us,.cons r t,f=>by
  rw [List.all_cons,Z1x] at f;rw [List.any_cons,List.any_cons,D4d r f.1,B3k t f.2]
theorem B0h {A:Around} {s:Shared} {x:V} {v:Value} (b:A3c x v) (c:B7g x=true):∀{xs:List V} {us:List Value},A3z xs us->xs.all B7g=true->∀u∈us,SeqAt.EqAt A s u v (eqU x u)
 | _,_,.nil,_=>λu a=>by cases a
 | y::xs,u::us,.cons r t,f=>λd a=>by
  rw [List.all_cons,Z1x] at f;rcases Z0e.mp a with rfl | a
  ·rw [D4d r f.1];exact E0t r b f.1 c
  ·exact B0h b c t f.2 d a
def inV (x:V) (xs:List V):Bool:=xs.any λy=>eqV y x
def rIn (K:Frag) (b:Bool):R2:=λx y H Q=>∃p a,y= .ref p/\(SqL K H p a\/SqT K H p a)/\B7g x=true/\a.all B7g=true/\Q (.bl (if b then ! inV x a else inV x a)) H
theorem C6i:OpR X (compareOp .In) (rIn X.K false):=by
 intro g s Z H x y v u Q I i k h;obtain ⟨p,l,rfl,b,f,c,q⟩:=h;cases k;rcases b with b | b
 ·obtain ⟨a,r,e,j⟩:=I.list b;refine SeqAt.in_listAt (eqU x) e.isList (λw d=>B0h i f r c w (by simpa using d)) (i0f (.bl _) H I rfl ?_);rw [show a.toArray.any (eqU x)=a.any (eqU x) by simp,B3k r c];exact q
 ·obtain ⟨a,r,e,j⟩:=I.tuple b;refine SeqAt.in_tupleAt (eqU x) e (λw d=>B0h i f r c w (by simpa using d)) (i0f (.bl _) H I rfl ?_);rw [show a.toArray.any (eqU x)=a.any (eqU x) by simp,B3k r c];exact q
theorem A6d:OpR X (compareOp .NotIn) (rIn X.K true):=by
 intro g s Z H x y v u Q I i k h;obtain ⟨p,l,rfl,b,f,c,q⟩:=h;cases k;rcases b with b | b
 ·obtain ⟨a,r,e,j⟩:=I.list b;refine SeqAt.notIn_listAt (eqU x) e.isList (λw d=>B0h i f r c w (by simpa using d)) (i0f (.bl _) H I rfl ?_);rw [show a.toArray.any (eqU x)=a.any (eqU x) by simp,B3k r c];exact q
 ·obtain ⟨a,r,e,j⟩:=I.tuple b;refine SeqAt.notIn_tupleAt (eqU x) e (λw d=>B0h i f r c w (by simpa using d)) (i0f (.bl _) H I rfl ?_);rw [show a.toArray.any (eqU x)=a.any (eqU x) by simp,B3k r c];exact q
theorem A0y:A8l X (.builtin "len") (λxs H Q=>∃p ys,xs=[.ref p]/\(SqL X.K H p ys\/SqT X.K H p ys)/\Q (.int ys.length) H):=by
 intro f s Z H xs k Q I r h;obtain ⟨p,ys,rfl,b,q⟩:=h;obtain ⟨u,rfl,i⟩:=B1p r;cases i;have j:=B7u;rcases b with b | b
 ·obtain ⟨e,c,d,g⟩:=I.list b;have a:=c.length;exact Calls.call_len_list d.isList (by simp only [Z0g] <;> lia) (i0f (.int ys.length) H (I.tok _) ⟨s.toks+1,by rw [Z0g,a]⟩ q)
 ·obtain ⟨e,c,d,g⟩:=I.tuple b;have a:=c.length;exact len_tuple d (by simp only [Z0g] <;> lia) (i0f (.int ys.length) H (I.tok _) ⟨s.toks+1,by rw [Z0g,a]⟩ q)
theorem B9m:A8l X (.builtin "len") (λxs H Q=>∃z,xs=[.str z]/\z.length<=sizeLine/\Q (.int z.length) H):=by
 intro a s Z H xs b Q I r h;obtain ⟨z,rfl,c,q⟩:=h;obtain ⟨u,rfl,t,rfl⟩:=B1p r;have d:=B7u;exact len_str (by lia) (i0f (.int z.length) H (I.tok _) ⟨_,rfl⟩ q)
theorem A4z:A8l X (.type "list") (λxs H Q=>∃p ys,xs=[.ref p]/\(SqL X.K H p ys\/SqT X.K H p ys)/\∀l,H l=none->Q (.ref l) (upd H l (.lst ys))):=by
 intro i s Z H xs B Q I r h;obtain ⟨p,ys,rfl,k,q⟩:=h;obtain ⟨u,rfl,A⟩:=B1p r;cases A
 have fin:∀(a:List Value),A3z ys a->ys.length<=sizeLine->∀(c:Heap) (f:Nat),(∀b z,s.heap.get? b=some z->c.get? b=some z)->
   c.get? s.heap.objs.size=some { cls:= .type "list",dict:=none,data:= .seq a.toArray f,slots:= #[] }->EP X i Z Q (.ref s.heap.objs.size) { s with heap:=c }:=λa d g c f j e =>
  (i0f (.ref s.heap.objs.size) _ (I.laid (t':=s.toks) j (Z09 _) (show A2q X.prog X.w _ c _ (.lst ys) from (i0b g a f d e))) rfl (q _ (I.hok.fresh (Z09 _))))
 rcases k with k | k
 ·obtain ⟨a,d,x,g⟩:=I.list k;have m:=d.length;obtain ⟨o,v,y,n,t⟩:=x.isList;exact call_list_seq p (.inl rfl) v y t (λc f j e=>fin a d g c f j e) (by simp only [Z0g] <;> lia)
 ·obtain ⟨a,d,x,g⟩:=I.tuple k;have m:=d.length;obtain ⟨o,v,y,n,t⟩:=x;exact call_list_seq p (.inr rfl) v y t (λc f j e=>fin a d g c f j e) (by simp only [Z0g] <;> lia)
theorem A5i:A8l X (.type "tuple") (λxs H Q=>∃p ys,xs=[.ref p]/\((SqL X.K H p ys/\∀l,H l=none->Q (.ref l) (upd H l (.tup ys)))\/(SqT X.K H p ys/\Q (.ref p) H))):=by
 intro a s Z H xs t Q I r h;obtain ⟨p,ys,rfl,h⟩:=h;obtain ⟨u,rfl,n⟩:=B1p r;cases n;rcases h with ⟨g,q⟩ | ⟨g,q⟩
 ·obtain ⟨c,f,i,j⟩:=I.list g;have k:=f.length;refine call_tuple_list i.isList (λd m=> ?_) (by simp only [Z0g] <;> lia);have I1:Inv X a Z H { s with heap:=d }:=I.kept (t':=s.toks) m
  have I2:Inv X a Z (upd H d.objs.size (.tup ys)) { s with heap:=d.push { cls:= .type "tuple",data:= .seq c.toArray } } :=
   I1.laid (t':=s.toks) (λb o e=>Z01 _ e) (Z09 _) (show A2q X.prog X.w _ _ _ (.tup ys) from (i05 j c f (IsTup.new _ _)))
  exact i0f (.ref d.objs.size) _ I2 rfl (q _ (I1.hok.fresh (Z09 _)))
 ·obtain ⟨c,f,i,j⟩:=I.tuple g;exact call_tuple_same i (i0f (.ref p) H I rfl q)
def tyV (K:Frag) (T:String) (x:V) (H:Hp):Prop:=match x with
 | .str _=>T="str"
 | .int _=>T="int"
 | .ref p=>(T="list"/\∃b,SqL K H p b)\/(T="tuple"/\∃o,K.lookup p=some o/\o.cls= .type "tuple"/\o.dict=none)\/
   (T="dict"/\((∃a,H p=some (.dK a))\/∃a,H p=some (.dT a)))\/(T="set"/\∃S n,H p=some (.set S n))
 | _=>False
theorem D3u {Z:St} {T:String} {x:V} {v:Value} (I:Inv X pins Z H s) (r:A3c x v) (ty:tyV X.K T x H) :
  s.TypeIs v T/\∀a,v= .ref a->∃j,s.heap.get? a=some j/\j.dict=none:=by
 cases x with
 | str z =>
  obtain ⟨t,rfl⟩:=r;cases (show T="str" from ty);exact ⟨typeIs_str s z t,λ_ e=>nomatch e⟩
 | int i =>
  obtain ⟨t,rfl⟩:=r;cases (show T="int" from ty);exact ⟨typeIs_int s i t,λ_ e=>nomatch e⟩
 | ref p =>
  cases r
  rcases ty with ⟨rfl,u,l⟩ | ⟨rfl,o,b,q,f⟩ | ⟨rfl,b⟩ | ⟨rfl,S,n,b⟩
  ·obtain ⟨m,_,k,_⟩:=I.list l;refine ⟨k.isList.typeIs,λa e=> ?_⟩;cases e;obtain ⟨o,n,e,c,f,_⟩:=k;exact i02 o e f
  ·refine ⟨(i02 o (I.kIn p o b) q),λa e=> ?_⟩;cases e;exact i02 o (I.kIn _ o b) f
  ·have z:∃o,s.heap.get? p=some o/\o.ExactDict:=by
    rcases b with ⟨h,b⟩ | ⟨h,b⟩
    ·obtain ⟨_,_,_,_,o,_,_,e,d,_⟩:=I.hok p _ b;exact i02 o e d
    ·obtain ⟨_,_,_,_,o,_,_,e,d,_⟩:=I.hok p _ b;exact i02 o e d
   obtain ⟨o,e,d⟩:=z;refine ⟨(i02 o e d.1),λa g=> ?_⟩;cases g;exact i02 o e d.2.1
  ·obtain ⟨o,_,_,_,e,d,_⟩:=I.hok p _ b;refine ⟨(i02 o e d.1),λa g=> ?_⟩;cases g;exact i02 o e d.2.1
 | _=>exact False.elim ty
def tBM0 (K:Frag) (T:String) (r:V->List V->Hp->VK->Prop) (to:TE):TE:=λZ H Q=>to Z H λx a=>tyV K T x a/\r x [] a Q
def tBM (K:Frag) (T:String) (r:V->List V->Hp->VK->Prop) (to:TE) (t:TA):TE:=λZ H Q=>to Z H λx a=>tyV K T x a/\t Z a λc b=>r x c b Q
variable {o e:Expr} {es:List Expr} {to:TE} {t:TA} {name:Str} {apos cpos:Pos} {T id:String} {r:V->List V->Hp->VK->Prop}
theorem E0s (i:PlainAttrs T) (d:Slot T name id) (e:typeOf (.builtin id)=pure (.type "method_descriptor")) (l:MtR X id r) (j:PE X o to)
  (c:attributeBase o name X.env (eval o X.env)=eval o X.env:=by rfl) (b:(apos.endLine == cpos.line)=true:=by rfl):PE X (.Call (.Attribute o name apos) [] [] cpos) (tBM0 X.K T r to):=by
 intro a s Z H Q I h;refine wpAny_Call_method0_late c b (thn (j a s Z H _ I h) ?_);rintro v k ⟨x,n,I1,f,p,m⟩;obtain ⟨g,q⟩:=D3u I1 f p;exact i0t T id i d e g q (Calls.callWith_builtin rfl (PySem.evalArgs_none (l a k Z n x [] v [] Q I1 f .nil m)))
theorem A6y (D:PlainAttrs T) (f:Slot T name id) (i:typeOf (.builtin id)=pure (.type "method_descriptor")) (p:MtR X id r) (J:PE X o to) (C:PA X (e::es) t)
  (d:attributeBase o name X.env (eval o X.env)=eval o X.env:=by rfl)
  (g:((backTo cpos (starEach (e::es) X.env)).all (λx=> ! x.1)&&(backToKw cpos (keywordEach [] X.env)).all (λx=>x.1.isSome)
   && decide ((e::es).length+([]:List Keyword).length+(if ([]:List Keyword).isEmpty then 0 else 1)<30))=true:=by rfl)
  (c:(apos.endLine == cpos.line)=true:=by rfl) (m:starEach (e::es) X.env=(false,eval e X.env)::starEach es X.env:=by rfl) (b:(backTo cpos (starEach es X.env)).any (·.1)=false:=by rfl) :
  PE X (.Call (.Attribute o name apos) (e::es) [] cpos) (tBM X.K T r to t):=by
 intro a s Z H Q I h;refine wpAny_Call_method_late d g c rfl (thn (J a s Z H _ I h) ?_);rintro v n ⟨x,u,I1,j,w,L⟩;obtain ⟨B,z⟩:=D3u I1 j w;refine i0t T id D f i B z ?_;have k:=C cpos a n Z u _ I1 L;rw [m] at k⊢;refine Calls.callWith_builtin (by show (false||(backTo cpos (starEach es X.env)).any (·.1))=false;rw [b] <;> rfl) (Calls.evalArgs_plain ?_);exact thn k (by rintro q F ⟨y,A,I2,G,l⟩;exact p a F Z A x y v q Q I2 j G l)
end
def MtM (X:Cx) (id:String) (r:V->List V->Hp->VK->Prop):Prop :=
 ∀(a:List (Addr×Obj)) (s:Shared) (Z:St) (H:Hp) (x:V) (c:List V) (v:Value) (b:List Value) (Q:VK),Inv X a Z H s->A3c x v->A3z c b->r x c H Q->
  wpAny (model X.prog X.w) X.A (call (.builtin id) (v::b)) (EP X a Z Q) X.xe s
theorem A3z.one:∀{x:V} {us:List Value},A3z [x] us->∃u,us=[u]/\A3c x u
 | _,_,.cons r .nil=>(i02 _ rfl r)
section
variable {X:Cx} {pins:List (Addr×Obj)} {Z:St} {H:Hp} {s:Shared} {l b:Addr} {xs ys zs:List V}
theorem Inv.lset {its':List Value} {n:Nat} (I:Inv X pins Z H s) (c:H l=some (.lst xs))
  (e:s.heap.get? l=some { cls:= .type "list",data:= .seq its.toArray n }) (a:f its.toArray=its'.toArray) (b:A3z ys its') (d:ys.length<=sizeLine) :
  Inv X pins Z (upd H l (.lst ys)) { s with heap:=s.heap.update l (Obj.mapSeq f),toks:=t' }:=by
 have q:=PySem.IsL.update e f;rw [a] at q;refine I.write (x:=l) (e:=l) (by rw [c];exact trivial) (.inl rfl) (λi u g h=>(Heap.get?_update_other s.heap (Obj.mapSeq f) (Ne.symm g)).trans h) ⟨_,q⟩ ?_;exact i0b d its' _ b q
theorem Inv.lnew (I:Inv X pins Z H s) (a:A3z ys its) (b:ys.length<=sizeLine) :
  Inv X pins Z (upd H s.heap.objs.size (.lst ys)) { s with heap:=s.heap.push { cls:= .type "list",data:= .seq its.toArray },toks:=t' } :=
 I.laid (λ_ _ q=>Z01 _ q) (Z09 _) (i0b b its 0 a (Z0c _ rfl))
theorem Inv.fresh (I:Inv X pins Z H s):H s.heap.objs.size=none:=I.hok.fresh (Z09 _)
theorem Inv.lstM (I:Inv X pins Z H s) (a:H l=some (.lst xs)):xs.length<=sizeLine/\∃(its:List Value) (n:Nat),A3z xs its/\xs.length=its.length/\s.heap.get? l=some { cls:= .type "list",data:= .seq its.toArray n }:=by
 obtain ⟨z,its,n,r,e⟩:=I.hok l _ a;exact i0i z its n r r.length e
theorem D2z {n:Nat} (h:n<=sizeLine):Builtin.List.listTooLong n=false:=by
 unfold Builtin.List.listTooLong;exact Z1j (by lia)
end
section
variable {X:Cx}
def D6i:V->List V->Hp->VK->Prop:=λx b H Q=>∃l a y,x= .ref l/\b=[y]/\H l=some (.lst a)/\a.length<sizeLine/\Q .non (upd H l (.lst (a++[y])))
theorem A2e:MtM X "list.append" D6i:=by
 intro b s Z H x k v j Q I f g h;obtain ⟨l,o,y,rfl,rfl,c,i,q⟩:=h;cases f;obtain ⟨u,rfl,d⟩:=g.one;obtain ⟨z,a,n,r,m,e⟩:=I.lstM c;refine call_meets F.slot_list_append (i02 _ e rfl) F.entry_list_append (F.args_list_append_2 _ _) (PySem.list_append l a.toArray n u (by rw [Z0g];lia)) ⟨e,?_⟩;refine i0f .non _ (I.lset (its':=a++[u]) c e (by simp) (r.append (.cons d .nil)) ?_) rfl q;rw [Z06,Z0j]
 lia
def D5s:V->List V->Hp->VK->Prop:=λx d H Q=>∃l b c a,x= .ref l/\d=[.ref b]/\H l=some (.lst c)/\H b=some (.lst a)/\c.length+a.length<=sizeLine/\Q .non (upd H l (.lst (c++a)))
theorem B3e:MtM X "list.extend" D5s:=by
 intro g s Z H x B v A Q I j k h;obtain ⟨l,b,K,G,rfl,rfl,i,y,J,q⟩:=h;cases j;obtain ⟨u,rfl,p⟩:=k.one;cases p;obtain ⟨z,c,n,r,C,e⟩:=I.lstM i;obtain ⟨D,a,m,t,o,w⟩:=I.lstM y;have f:c.toArray.size+a.toArray.size<=sizeLine:=by rw [Z0g,Z0g];lia
 have d:¬(! c.toArray.isEmpty&&Builtin.List.listTooLong (c.toArray.size+a.toArray.size))=true:=by
  rw [D2z f,Bool.and_false];exact Z0v
 refine call_meets F.slot_list_extend (i02 _ e rfl) F.entry_list_extend (F.args_list_extend_2 _ _)
  (AutoSeq1.list_extend_list_list_0 l c.toArray n b a.toArray m d (by rw [Z0g];lia) (by lia)) (i00 e w ?_)
 refine i0f .non _ (I.lset (its':=c++a) i e (by simp) (r.append t) ?_) rfl q;rw [Z06]
 lia
def rCat:R2:=λx y H Q=>∃l b c a,x= .ref l/\y= .ref b/\H l=some (.lst c)/\H b=some (.lst a)/\c.length+a.length<=sizeLine/\∀p,H p=none->Q (.ref p) (upd H p (.lst (c++a)))
theorem B0e:OpR X (binaryOp .Add) rCat:=by
 intro d s Z H x y v u Q I i f h;obtain ⟨l,b,D,A,rfl,rfl,p,o,C,q⟩:=h;cases i;cases f;obtain ⟨z,c,n,r,t,e⟩:=I.lstM p;obtain ⟨w,a,B,k,j,m⟩:=I.lstM o;refine PySem.P.add_list e m ?_ (by rw [Z0g,Z0g];lia);have g:c.toArray++a.toArray=(c++a).toArray:=by simp
 rw [g];exact i0f (.ref _) _ (I.lnew (t':=s.toks) (r.append k) (by rw [Z06];lia)) rfl (q _ I.fresh)
end
section
variable {prog:Program} {w:World} {A:Around} {E:Value->Shared->Prop} {s:Shared}
set_option maxRecDepth 100000 in
end
section
variable {X:Cx}
end
section
variable {κ:Type} [DecidableEq κ]
def A5l (kvs:List (κ×V)) (k:κ):Option V:=(kvs.find? λa=>decide (a.1=k)).map (·.2)
def A7y (kvs:List (κ×V)) (k:κ) (v:V):List (κ×V) :=
 if (kvs.any λa=>decide (a.1=k))=true then kvs.map (λa=>if a.1=k then (a.1,v) else a) else kvs++[(k,v)]
theorem A4d {p:κ×V} {r:List (κ×V)} {k:κ} (e:p.1=k):A5l (p::r) k=some p.2:=by simp [A5l,Z2h,e]
theorem A4c {p:κ×V} {r:List (κ×V)} {k:κ} (e:¬p.1=k):A5l (p::r) k=A5l r k:=by simp [A5l,Z2h,e]
theorem B2m (k:κ):∀kvs:List (κ×V),(kvs.any λkv=>decide (kv.1=k))=(A5l kvs k).isSome
 | []=>rfl
 | p::r=>by
  rw [List.any_cons];by_cases e:p.1=k
  ·simp only [A4d e,Z20 e,Bool.true_or,Option.isSome_some]
  ·rw [A4c e,Z1j e,Bool.false_or];exact B2m k r
theorem C3g (k j:κ) (y:V):∀kvs:List (κ×V),A5l (kvs.map λkv=>if kv.1=k then (kv.1,y) else kv) j=(A5l kvs j).map λx=>if j=k then y else x
 | []=>rfl
 | p::r=>by
  have a:=C3g k j y r;rw [Z0p];by_cases h:p.1=k
  ·rw [Z12 h];by_cases e:p.1=j
   ·rw [A4d (p:=(p.1,y)) e,A4d e,Option.map_some,Z12 (e.symm.trans h)]
   ·rw [A4c (p:=(p.1,y)) e,A4c e,a]
  ·rw [Z0t h];by_cases e:p.1=j
   ·rw [A4d (p:=p) e,A4d e,Option.map_some,Z0t (λz=>h (e.trans z))]
   ·rw [A4c (p:=p) e,A4c e,a]
theorem B3v (k j:κ) (y:V):∀kvs:List (κ×V),A5l kvs k=none->A5l (kvs++[(k,y)]) j=if j=k then some y else A5l kvs j
 | [],_=>by
  by_cases e:k=j
  ·rw [Z12 e.symm];exact A4d (p:=(k,y)) e
  ·rw [Z0t (λz=>e z.symm)];exact A4c (p:=(k,y)) e
 | p::r,hn=>by
  rw [List.cons_append];have a:¬p.1=k:=λz=>by rw [A4d z] at hn;cases hn
  rw [A4c a] at hn;have b:=B3v k j y r hn;by_cases e:p.1=j
  ·rw [A4d e,A4d e,Z0t (λz=>a (e.trans z))]
  ·rw [A4c e,A4c e,b]
theorem D2u (kvs:List (κ×V)) (k j:κ) (y:V):A5l (A7y kvs k y) j=if j=k then some y else A5l kvs j:=by
 unfold A7y;by_cases a:(kvs.any λb=>decide (b.1=k))=true
 ·rw [Z12 a,C3g];rw [B2m] at a;by_cases e:j=k
  ·obtain ⟨x,c⟩:=Option.isSome_iff_exists.mp a;rw [Z12 e,e,c,Option.map_some,Z12 rfl]
  ·rw [Z0t e]
   cases A5l kvs j with
   | none=>rfl
   | some x=>rw [Option.map_some,Z0t e]
 ·rw [Z0t a];refine B3v k j y kvs ?_;rw [B2m] at a
  cases q:A5l kvs k with
  | none=>rfl
  | some x=>rw [q] at a;exact (a rfl).elim
theorem A7r (kvs:List (κ×V)) (k:κ) (v:V):(A7y kvs k v).length<=kvs.length+1:=by
 unfold A7y;split
 ·rw [Z08];lia
 ·rw [Z06,Z0y,Z2g];lia
theorem B7s.isSome_eq {u:Option Value} (r:B7s o u):o.isSome=u.isSome:=by
 cases o with
 | none=>cases u with
  | none=>rfl
  | some _=>exact (show False from r).elim
 | some _=>cases u with
  | none=>exact (show False from r).elim
  | some _=>rfl
theorem B7s.getD {u:Option Value} {d:V} {d':Value} (r:B7s o u) (a:A3c d d'):A3c (o.getD d) (u.getD d'):=by
 cases o with
 | none=>cases u with
  | none=>exact a
  | some _=>exact (show False from r).elim
 | some _=>cases u with
  | none=>exact (show False from r).elim
  | some _=>exact r
theorem KV.val {kvs:List (κ×V)} {vs:List (κ×Value)} (r:KV kvs vs) (k:κ):B7s (A5l kvs k) (valueAt vs k):=by
 unfold KV at r
 induction r with
 | nil=>exact True.intro
 | @cons p q ps qs h t ih =>
  obtain ⟨c,d⟩:=h;by_cases e:p.1=k
  ·have a:q.1=k:=c.symm.trans e;have b:valueAt (q::qs) k=some q.2:=by simp [valueAt,Z2h,a]
   rw [A4d e,b];exact d
  ·have a:¬q.1=k:=λz=>e (c.trans z);have b:valueAt (q::qs) k=valueAt qs k:=by simp [valueAt,Z2h,a]
   rw [A4c e,b];exact ih
theorem KV.any {kvs:List (κ×V)} {vs:List (κ×Value)} (r:KV kvs vs) (k:κ):(kvs.any λkv=>decide (kv.1=k))=vs.any λkv=>decide (kv.1=k):=by
 unfold KV at r
 induction r with
 | nil=>rfl
 | cons h t ih=>rw [List.any_cons,List.any_cons,ih,h.1]
theorem KV.repl {kvs:List (κ×V)} {vs:List (κ×Value)} (r:KV kvs vs) (k:κ) (b:A3c y u) :
  KV (kvs.map λkv=>if kv.1=k then (kv.1,y) else kv) (vs.map λkv=>if kv.1=k then (kv.1,u) else kv):=by
 unfold KV at r⊢
 induction r with
 | nil=>exact .nil
 | @cons p q ps qs h t ih =>
  rw [Z0p,Z0p];refine .cons ?_ ih;obtain ⟨a,c⟩:=h;by_cases e:p.1=k
  ·rw [Z12 e,Z12 (a.symm.trans e)];exact ⟨a,b⟩
  ·rw [Z0t e,Z0t (λz=>e (a.trans z))];exact ⟨a,c⟩
theorem KV.put {kvs:List (κ×V)} {vs:List (κ×Value)} (r:KV kvs vs) (k:κ) (a:A3c y u):KV (A7y kvs k y) (stored vs k u):=by
 unfold A7y stored;rw [r.any k];by_cases e:(vs.any λb=>decide (b.1=k))=true
 ·rw [Z12 e,Z12 e];exact r.repl k a
 ·rw [Z0t e,Z0t e];exact Paired.snoc r ⟨rfl,a⟩
theorem KV.length {kvs:List (κ×V)} {vs:List (κ×Value)} (r:KV kvs vs):kvs.length=vs.length:=Paired.length r
end
theorem C0w {k:Key} (r:A3c (kV k) u):(A1x P w).is k u=true:=by
 cases k with
 | inl i=>obtain ⟨t,e⟩:=(show∃t,u=Value.int i t from r);subst e;exact C0l P w i t
 | inr x=>obtain ⟨t,e⟩:=(show∃t,u=Value.str x t from r);subst e;exact C0p P w x t
theorem B8s {P:Program} {w:World}:∀{ks:List Key} {us:List Value},A3z (ks.map kV) us->ItemsAre (A1x P w) ks us
 | [],_,r=>by rw [List.map_nil] at r;cases r;exact .nil
 | k::ks,_,r=>by
  rw [Z0p] at r
  cases r with
  | cons h t=>exact .cons (C0w h) (B8s t)
abbrev KT (H:Hp):List (List Key×V)->List (List Key×Addr×Value)->Prop:=Paired λp q=>p.1=q.1/\H q.2.1=some (.tup (p.1.map kV))/\A3c p.2 q.2.2
theorem KT.val (r:KT H kvs xs) (k:List Key):B7s (A5l kvs k) ((atKey xs k).map (·.2)):=by
 induction r with
 | nil=>exact True.intro
 | @cons p q ps qs h t ih =>
  obtain ⟨c,_,d⟩:=h;by_cases e:p.1=k
  ·have a:q.1=k:=c.symm.trans e;have b:atKey (q::qs) k=some q.2:=by simp [atKey,Z2h,a]
   rw [A4d e,b];exact d
  ·have a:¬q.1=k:=λz=>e (c.trans z);have b:atKey (q::qs) k=atKey qs k:=by simp [atKey,Z2h,a]
   rw [A4c e,b];exact ih
theorem KT.repl (r:KT H kvs xs) (k:List Key) (c:A3c y u) :
  KT H (kvs.map λkv=>if kv.1=k then (kv.1,y) else kv) (xs.map (putAt k u)):=by
 induction r with
 | nil=>exact .nil
 | @cons p q ps qs h t ih =>
  rw [Z0p,Z0p];refine .cons ?_ ih;obtain ⟨a,b,d⟩:=h;unfold putAt;by_cases e:p.1=k
  ·rw [Z12 e,Z12 (a.symm.trans e)];exact i00 a b c
  ·rw [Z0t e,Z0t (λz=>e (a.trans z))];exact i00 a b d
theorem KT.put (r:KT H kvs xs) (k:List Key) {b:Addr} (c:H b=some (.tup (k.map kV))) (a:A3c y u) :
  KT H (A7y kvs k y) (storedH xs k b u):=by
 have e:(kvs.any λd=>decide (d.1=k))=(atKey xs k).isSome:=by
  rw [B2m,(r.val k).isSome_eq,Option.isSome_map]
 unfold A7y storedH;rw [e];by_cases q:(atKey xs k).isSome=true
 ·rw [Z12 q,Z12 q];exact r.repl k a
 ·rw [Z0t q,Z0t q];exact Paired.snoc r (i00 rfl c a)
theorem KT.keeps {H':Hp} (r:KT H kvs xs) (a:∀b ys,H b=some (.tup ys)->H' b=some (.tup ys)):KT H' kvs xs :=
 Paired.mapP r λ_ _ z=>(i00 z.1 (a _ _ z.2.1) z.2.2)
section
variable {P:Program} {w:World} {H:Hp} {h:Heap} {a:Addr}
theorem E0y {u:HO} (b:HOk P w H h) (e:Rd H a u):A2q P w H h a u:=e.ok b
theorem B5b {kvs:List (Key×V)} (b:HOk P w H h) (e:Rd H a (.dK kvs)):kvs.length<=sizeLine/\(a == sysModules)=false/\∃vs,KV kvs vs/\h.DictOf (A1x P w) a vs :=
 show A2q P w H h a (.dK kvs) from E0y b e
theorem C7b {kvs:List (Key×V)} (b:HOk P w H h) (e:H a=some (.dK kvs)):kvs.length<=sizeLine/\(a == sysModules)=false/\∃vs,KV kvs vs/\h.DictOf (A1x P w) a vs:=B5b b (.inl e)
theorem B9u {ks:List Key} (g:HOk P w H h) (e:H a=some (.tup (ks.map kV))):(tupleKind (A1x P w)).is h ks a:=by
 obtain ⟨_,b,r,o,c,f,n,d⟩:=(show A2q P w H h a (.tup (ks.map kV)) from g a _ e);exact i0r o b.toArray n c f d (by simpa using B8s r)
theorem B4s (d:HOk P w H h) (e:Rd H a (.dT kvs)):kvs.length<=sizeLine/\(a == sysModules)=false/\
  ∃xs,KT H kvs xs/\h.DictOfH (tupleKind (A1x P w)) a xs:=by
 obtain ⟨z,y,xs,r,o,s,i,g,n,k,j,f⟩:=(show A2q P w H h a (.dT kvs) from E0y d e);refine i0a z y xs r ⟨o,(i0t s i g n k j (λx b=> ?_) f)⟩
 have c:∀{l:List (List Key×V)} {m:List (List Key×Addr×Value)},KT H l m->∀x∈m,(tupleKind (A1x P w)).is h x.1 x.2.1:=by
  intro l m q
  induction q with
  | nil=>intro x b;exact nomatch b
  | @cons p q ps qs hq t ih =>
   intro x b;rcases Z0e.mp b with e | b
   ·subst e;exact B9u d (by rw [<-hq.1];exact hq.2.1)
   ·exact ih x b
 exact c r x b
theorem E3a (b:HOk P w H h) (e:H a=some (.dT kvs)):kvs.length<=sizeLine/\(a == sysModules)=false/\
  ∃xs,KT H kvs xs/\h.DictOfH (tupleKind (A1x P w)) a xs:=B4s b (.inl e)
end
def A9g (H:Hp) (a:Addr) (y:V) (r:Option V):Prop :=
 (∃c k,Rd H a (.dK c)/\y=kV k/\r=A5l c k)\/∃c k b,Rd H a (.dT c)/\y= .ref b/\H b=some (.tup (k.map kV))/\r=A5l c k
def C0e (H:Hp) (a:Addr) (y v:V) (H':Hp):Prop :=
 (∃c k,H a=some (.dK c)/\y=kV k/\c.length<sizeLine/\H'=upd H a (.dK (A7y c k v)))\/
 ∃c k b,H a=some (.dT c)/\y= .ref b/\H b=some (.tup (k.map kV))/\c.length<sizeLine/\H'=upd H a (.dT (A7y c k v))
theorem A9g.k {kvs:List (Key×V)} {k:Key} (e:H a=some (.dK kvs)):A9g H a (kV k) (A5l kvs k):= .inl (i0f kvs k (.inl e) rfl rfl)
theorem A9g.t {b:Addr} {k:List Key} (e:H a=some (.dT kvs)) (c:H b=some (.tup (k.map kV))):A9g H a (.ref b) (A5l kvs k):= .inr (i0r kvs k b (.inl e) rfl c rfl)
theorem C0e.k {kvs:List (Key×V)} {k:Key} {v:V} (e:H a=some (.dK kvs)) (b:kvs.length<sizeLine):C0e H a (kV k) v (upd H a (.dK (A7y kvs k v))):= .inl (i0m kvs k e rfl b rfl)
theorem C0e.t {b:Addr} {k:List Key} {v:V} (e:H a=some (.dT kvs)) (c:H b=some (.tup (k.map kV))) (d:kvs.length<sizeLine) :
  C0e H a (.ref b) v (upd H a (.dT (A7y kvs k v))):= .inr (i0u kvs k b e rfl c d rfl)
section
variable {X:Cx} {pins:List (Addr×Obj)} {Z:St} {H:Hp} {s:Shared} {a:Addr} {y v:V} {u r:Value} {o:Option V} {A:Around} {E:Value->Shared->Prop}
theorem Inv.big (I:Inv X pins Z H s):sysModules<s.heap.objs.size:=by
 have h:mainGlobals<s.heap.objs.size:=(I.mod.glob.keeps I.bk).lt;exact Nat.lt_trans (by decide) h
theorem C8b (D:A.units+1<cLine) (I:Inv X pins Z H s) (g:A9g H a y (some v)) (r:A3c y u) (h:∀f s',Inv X pins Z H s'->A3c v f->Q f s') :
  wpAny (model X.prog X.w) A (getItem (.ref a) u) Q E s:=by
 rcases g with ⟨m,k,e,i,l⟩ | ⟨m,k,b,e,i,x,l⟩
 ·subst i;obtain ⟨z,t,C,c,j⟩:=B5b I.hok e;obtain ⟨f,q,d⟩:=B7s.some_of (v:=v) (o:=valueAt C k) (by rw [l];exact c.val k);exact wpAny_getItem_of (C0w r) j.mapOf q (h f _ (I.tok _) d)
 ·subst i;cases (show u=Value.ref b from r);obtain ⟨z,t,F,c,j⟩:=B4s I.hok e;obtain ⟨f,q,d⟩:=B7s.some_of (v:=v) (o:=(atKey F k).map (·.2)) (by rw [l];exact c.val k);obtain ⟨p,B,n⟩:=Z0i.mp q;refine wpAny_getItem_heap (tupleKind_room_in1 D) (B9u I.hok x) j B ?_;rw [n];exact h f _ (I.tok _) d
theorem D5t (p:A.units+1<cLine) (I:Inv X pins Z H s) (g:A9g H a y o) (m:A3c y u) (h:∀s',Inv X pins Z H s'->Q (.bool (! o.isSome)) s') :
  wpAny (model X.prog X.w) A (compareOp .NotIn u (.ref a)) Q E s:=by
 rcases g with ⟨j,k,e,f,l⟩ | ⟨j,k,b,e,f,n,l⟩
 ·subst f;obtain ⟨z,d,r,c,i⟩:=B5b I.hok e;refine wpAny_notIn_of (C0w m) d i.mapOf ?_;rw [<-(c.val k).isSome_eq,<-l];exact h _ (I.tok _)
 ·subst f;cases (show u=Value.ref b from m);obtain ⟨z,d,t,c,i⟩:=B4s I.hok e;refine wpAny_notIn_heap (tupleKind_room_in1 p) (B9u I.hok n) d i ?_;have q:=(c.val k).isSome_eq;rw [Option.isSome_map] at q;rw [<-q,<-l];exact h _ (I.tok _)
theorem C9w {h':Heap} {d:HO} (I:Inv X pins Z H s) (h:Mut (H a)) (f:Heap.SameBut a s.heap h') (i:∃q,h'.get? a=some q) (c:A2q X.prog X.w (upd H a d) h' a d) :
  Inv X pins Z (upd H a d) { s with heap:=h',toks:=t' } :=
 I.write (x:=a) (e:=a) h (.inl rfl) (λb q g z=>(f.2 b g).trans z) i c
theorem E0r {H':Hp} {h':Heap} {kvs:List (Key×V)} {vs:List (Key×Value)} (z:kvs.length<=sizeLine) (d:(a == sysModules)=false) (b:KV kvs vs) (c:h'.DictOf (A1x P w) a vs) :
  A2q P w H' h' a (.dK kvs):=(i0a z d vs b c)
theorem D0w {H':Hp} {Q:Unit->Shared->Prop} (P:A.units+1<cLine) (I:Inv X pins Z H s) (g:C0e H a y v H') (C:A3c y u) (F:A3c v r) (h:∀s',Inv X pins Z H' s'->Q () s') :
  wpAny (model X.prog X.w) A (setItem (.ref a) u r) Q E s:=by
 rcases g with ⟨d,k,e,x,l,B⟩ | ⟨d,k,b,e,x,D,l,B⟩
 ·subst x B;obtain ⟨z,m,M,f,o⟩:=C7b I.hok e;have t:M.length<=sizeLine:=by rw [<-f.length];exact z
  have p:(A7y d k v).length<=sizeLine:=by have:=A7r d k v;lia
  refine wpAny_setItem_pairs (hsz:=t) (C0w C) o λJ i n=>h _ ?_;have R:∃q,J.get? a=some q:=let ⟨q,_,_,j,_⟩:=i;⟨q,j⟩;exact C9w I (by rw [e];exact True.intro) n R (E0r p m (f.put k F) i)
 ·subst x B;cases (show u=Value.ref b from C);obtain ⟨z,m,N,f,o⟩:=E3a I.hok e;have t:N.length<=sizeLine:=by rw [<-Paired.length f];exact z
  have p:(A7y d k v).length<=sizeLine:=by have:=A7r d k v;lia
  refine wpAny_setItem_heap (hsz:=t) (tupleKind_room_in1 P) (B9u I.hok D) o λJ i n=>h _ ?_;obtain ⟨q,U,K,j,O,L,T,_,S⟩:=i;refine C9w I (by rw [e];exact True.intro) n ⟨q,j⟩ (i0a p m _ ((f.put k D F).keeps λc W G=> ?_) (i0u q U K j O L T S));rw [A0i (A3j G e (λz=>nomatch z))];exact G
end
section
variable {X:Cx} {pins:List (Addr×Obj)} {Z:St} {H:Hp} {s:Shared} {a:Addr} {kvs:List (Key×V)} {k:Key} {u:Value} {A:Around} {E:Value->Shared->Prop}
theorem E3h (I:Inv X pins Z H s) (e:Rd H a (.dK kvs)) (h:∀t s',Inv X pins Z H s'->Q (.int kvs.length t) s'):wpAny (model X.prog X.w) A (call (.builtin "len") [.ref a]) Q E s:=by
 obtain ⟨z,d,f,b,c⟩:=B5b I.hok e;refine call_len_dict d c (by rw [<-b.length];rw [sizeLine_eq] at z;lia) ?_;rw [<-b.length];exact h _ _ (I.tok _)
end
def E4f (i:Expr):Prop:=∀a b,subscripted i false a b=operate [a,b] (getItem a b)
theorem D7z {prog:Program} {A:Around} {E:Value->Shared->Prop} {b:Env} {value a:Expr} {pos:Pos} {T id:String}
  (j:typeLookup (.type T) "__getitem__"=pure (some (.builtin id))) (k:E4f a)
  (h:wpAny (model prog w) A (eval value b) (λo s₁=>wpAny (model prog w) A (eval a b) (λi s₂=>s₂.TypeIs o T/\wpAny (model prog w) A (getItem o i) Q E s₂) E s₁) E s) :
  wpAny (model prog w) A (eval (.Subscript value a pos) b) Q E s:=by
 refine Subscript_ (Z10 h (λo s₁ g=>Z10 g (λi s₂ c=> ?_) λ_ _ x=>x) λ_ _ x=>x);obtain ⟨d,c⟩:=c;unfold subscriptTail;refine Z00 ?_;rw [getitemInPython_of_ne d.not_modules];refine Z00 (wpAny_specialOf d j ?_)
 have fin:wpAny (model prog w) A (subscripted a false o i) (λr e=>wpAny (model prog w) A (letTemporaryGo value o r >>= λ_=>pure r) Q E e) E s₂:=by
  rw [k o i];exact wpAny_operating (Z10 c (λr e f=>Z00 (wpAny_letTemporaryGo (Z04 f))) λ_ _ x=>x)
 first
  | exact Z04 (Z00 fin)
  | exact Z00 (Z04 (Z00 fin))
  | exact Z00 fin
theorem C0r {X:Cx} {Z:St} (I:Inv X pins Z H s) (g:A9g H a y o):s.TypeIs (.ref a) "dict":=by
 rcases g with ⟨c,k,e,_,_⟩ | ⟨c,k,b,e,_,_,_⟩
 ·obtain ⟨_,_,f,_,d⟩:=B5b I.hok e;exact d.typeIs
 ·obtain ⟨_,_,h,_,d⟩:=B4s I.hok e;exact d.typeIs
def E3u (td ty:TE):TE:=λZ H Q=>td Z H λx c=>ty Z c λy b=>∃a v,x= .ref a/\A9g b a y (some v)/\Q v b
def D4w (ty td:TE):TE:=λZ H Q=>ty Z H λy c=>td Z c λx b=>∃a o,x= .ref a/\A9g b a y o/\Q (.bl (! o.isSome)) b
def E3z (td ty tv:TE):TS:=λD Z H=>tv Z H λv e=>td Z e λx c=>ty Z c λy d=>∃a b,x= .ref a/\C0e d a y v b/\D.nx Z b
section
variable {X:Cx} {o i e value:Expr} {pos pos' tpos:Pos} {td ty tv:TE}
theorem A2v (m:X.A.units+1<cLine) (p:PE X o td) (hi:PE X i ty) (f:E4f i):PE X (.Subscript o i pos) (E3u td ty):=by
 intro b s Z H Q I h;refine D7z PySem.F.slot_dict_getitem.lookup f (thn (p b s Z H _ I h) ?_);rintro u j ⟨x,l,I1,k,q⟩;refine thn (hi b j Z l _ I1 q) ?_;rintro t z ⟨y,n,I2,e,a,v,r,g,d⟩;subst r;obtain rfl:u=Value.ref a:=k;exact ⟨C0r I2 g,C8b m I2 g e λB w I3 c=>(i0f v n I3 c d)⟩
theorem C6t (p:X.A.units+1<cLine) (hi:PE X i ty) (f:PE X o td):PC X .NotIn i o (D4w ty td):=by
 intro b s Z H Q I h;refine thn (hi b s Z H _ I h) ?_;rintro v j ⟨y,n,I1,e,k⟩;refine thn (f b j Z n _ I1 k) ?_;rintro u t ⟨x,c,I2,l,a,m,q,g,d⟩;subst q;obtain rfl:u=Value.ref a:=l;exact D5t p I2 g e λr I3=>(i0f (.bl (! m.isSome)) c I3 rfl d)
theorem A6s (q:X.A.units+1<cLine) (z:PE X o td) (hi:PE X i ty) (l:PE X value tv) (j:swapsWith value (some (.Subscript o i pos')) pos.line X.env=pure false) :
  PS X (.Assign [.Subscript o i pos'] value pos) (E3z td ty tv):=by
 intro b s Z H D I h;refine wpAny_Assign_Subscript (thn (l b s Z H _ I h) ?_) j;rintro r k ⟨v,p,I1,n,B⟩;refine thn (z b k Z p _ I1 B) ?_;rintro u w ⟨x,t,I2,m,e⟩;refine thn (hi b w Z t _ I2 e) ?_;rintro G K ⟨y,F,I3,f,a,d,C,g,c⟩;subst C;obtain rfl:u=Value.ref a:=m;exact D0w q I3 g f n λJ I4=>(i07 Z d I4 c)
end
theorem D1m (h:Heap) (a:sysModules<h.objs.size):A2q P w H (h.push { cls:= .type "dict",data:= .dict #[] }) h.objs.size (.dK []) :=
 (i0a (Z1e _) (Z22.mpr (Ne.symm (Z0h a))) [] .nil (Heap.DictOf.new h))
theorem D2e (h:Heap) (a:sysModules<h.objs.size):A2q P w H (h.push { cls:= .type "dict",data:= .dict #[] }) h.objs.size (.dT []) :=
 (i0a (Z1e _) (Z22.mpr (Ne.symm (Z0h a))) [] .nil (i0u _ (#[]) 0 (Z0c _ rfl) (i00 rfl rfl rfl) rfl rfl List.nodup_nil))
def E1r:TE:=λ_ H Q=>∀p,H p=none->Q (.ref p) (upd H p (.dK []))
def E0c:TE:=λ_ H Q=>∀p,H p=none->Q (.ref p) (upd H p (.dT []))
section
variable {X:Cx} {pos:Pos}
theorem B2i:PE X (.Dict [] [] pos) E1r:=λb s Z H Q I h =>
 wpAny_Dict_empty (i0f (.ref s.heap.objs.size) _ (I.laid (a:=s.heap.objs.size) (o:= .dK []) (t':=s.toks) (λ_ _ q=>Z01 _ q) (Z09 _) (D1m s.heap I.big)) rfl (h _ (I.hok.fresh (Z09 _))))
theorem C2r:PE X (.Dict [] [] pos) E0c:=λb s Z H Q I h =>
 wpAny_Dict_empty (i0f (.ref s.heap.objs.size) _ (I.laid (a:=s.heap.objs.size) (o:= .dT []) (t':=s.toks) (λ_ _ q=>Z01 _ q) (Z09 _) (D2e s.heap I.big)) rfl (h _ (I.hok.fresh (Z09 _))))
end
def A4h (kvs a:List (Key×V)):List (Key×V):=a.foldl (λb c=>A7y b c.1 c.2) kvs
theorem KV.merge:∀{a:List (Key×V)} {rs:List (Key×Value)} {kvs:List (Key×V)} {vs:List (Key×Value)},KV a rs->KV kvs vs->KV (A4h kvs a) (merged vs rs):=by
 intro a rs kvs vs r;unfold KV at r
 induction r generalizing kvs vs with
 | nil=>intro q;exact q
 | @cons p q ps qs h t ih =>
  intro b
  have e:KV (A7y kvs p.1 p.2) (stored vs q.1 q.2):=by
   have:=b.put p.1 h.2;rw [<-h.1];exact this
  exact ih e
theorem A7t:∀(a kvs:List (Key×V)),(A4h kvs a).length<=kvs.length+a.length
 | [],kvs=>by show kvs.length<=kvs.length+0;lia
 | p::r,kvs=>by
  have c:=A7t r (A7y kvs p.1 p.2);have b:=A7r kvs p.1 p.2;show (A4h (A7y kvs p.1 p.2) r).length<=_;rw [Z0y];lia
structure M2 (X:Cx) (o:Expr) (m:Str) (apos:Pos) (e f:Expr) (cpos:Pos):Prop where
 base:attributeBase o m X.env (eval o X.env)=eval o X.env
 few:((backTo cpos (starEach [e,f] X.env)).all (λx=> ! x.1)&&(backToKw cpos (keywordEach [] X.env)).all (λx=>x.1.isSome)
  && decide (([e,f]:List Expr).length+([]:List Keyword).length+(if ([]:List Keyword).isEmpty then 0 else 1)<30))=true
 line:(apos.endLine == cpos.line)=true
 trees:backTo cpos (starEach [e,f] X.env)=[(false,eval e X.env),(false,eval f X.env)]
def IsD (H:Hp) (a:Addr):Prop:=(∃b,Rd H a (.dK b))\/∃b,Rd H a (.dT b)
theorem E0v {X:Cx} {Z:St} (I:Inv X pins Z H s) (d:IsD H a) :
  s.TypeIs (.ref a) "dict"/\(∀b,Value.ref a= .ref b->∃c,s.heap.get? b=some c/\c.dict=none)/\(a == sysModules)=false:=by
 rcases d with ⟨g,e⟩ | ⟨g,e⟩
 ·obtain ⟨_,i,k,_,f⟩:=B5b I.hok e;refine i00 f.typeIs (λb q=> ?_) i;cases q;obtain ⟨c,_,_,h,j,_⟩:=f;exact i02 c h j.2.1
 ·obtain ⟨_,i,l,_,f⟩:=B4s I.hok e;refine i00 f.typeIs (λb q=> ?_) i;cases q;obtain ⟨c,_,_,h,j,_⟩:=f;exact i02 c h j.2.1
section
variable {X:Cx} {pins:List (Addr×Obj)} {Z:St} {H:Hp} {s:Shared} {a:Addr} {y d:V} {u r:Value} {o:Option V} {A:Around} {E:Value->Shared->Prop}
theorem D8z (v:A.units+1<cLine) (I:Inv X pins Z H s) (g:A9g H a y o) (q:A3c y u) (n:A3c d r) (h:∀p s',Inv X pins Z H s'->A3c (o.getD d) p->Q p s') :
  wpAny (model X.prog X.w) A (call (.builtin "dict.get") [.ref a,u,r]) Q E s:=by
 rcases g with ⟨m,k,e,j,l⟩ | ⟨m,k,b,e,j,t,l⟩
 ·subst j;obtain ⟨z,i,B,c,f⟩:=B5b I.hok e;refine call_meetsIn PySem.F.slot_dict_get f.typeIs PySem.F.entry_dict_get (PySem.F.args_dict_get_3 _ _ _) (meets_dict_get_default (A1x X.prog X.w) a (C0w q) i r) (i02 _ f.mapOf (h _ _ (I.tok _) ?_));rw [l];exact (c.val k).getD n
 ·subst j;cases (show u=Value.ref b from q);obtain ⟨z,i,x,c,f⟩:=B4s I.hok e;refine call_meetsIn PySem.F.slot_dict_get f.typeIs PySem.F.entry_dict_get (PySem.F.args_dict_get_3 _ _ _) (meetsH_dict_get_default (tupleKind (A1x X.prog X.w)) a b i r) (i0i (tupleKind_room_in1 v) k x (B9u I.hok t) f (h _ _ (I.tok _) ?_));rw [l];exact (c.val k).getD n
end
def D9r (td ty tx:TE):TE:=λZ H Q=>td Z H λx c=>∃a,x= .ref a/\IsD c a/\ty Z c λy d=>tx Z d λz b=>∃o,A9g b a y o/\Q (o.getD z) b
section
variable {X:Cx} {o e f:Expr} {apos cpos:Pos} {td ty tx:TE}
theorem C3l (w:X.A.units+1<cLine) (G:PE X o td) (B:PE X e ty) (i:PE X f tx) (m:M2 X o "get" apos e f cpos):PE X (.Call (.Attribute o "get" apos) [e,f] [] cpos) (D9r td ty tx):=by
 intro b s Z H Q I h;refine wpAny_Call_method m.base m.few m.line PySem.F.plainAttrs_dict PySem.F.slot_dict_get PySem.F.type_dict_get (thn (G b s Z H _ I h) ?_);rintro u r ⟨x,v,I1,t,a,L,d,K⟩;subst L;obtain rfl:u=Value.ref a:=t;obtain ⟨q,k,_⟩:=E0v I1 d;refine i00 q k ?_;rw [m.trees]
 refine Calls.callWith_builtin rfl (Calls.evalArgs_plain (Calls.spliced_cons (thn (B b r Z v _ I1 K) λN D ⟨y,C,I2,p,n⟩ =>
  Calls.spliced_cons (thn (i b D Z C _ I2 n) λM P ⟨z,j,I3,J,S,g,l⟩=>Calls.spliced_nil ?_))))
 exact D8z w I3 g p J λR O I4 c=>(i0f _ j I4 c l)
end
section
variable {X:Cx} {pins:List (Addr×Obj)} {Z:St} {H:Hp} {s:Shared} {a:Addr} {kvs:List (Key×V)} {A:Around} {E:Value->Shared->Prop}
end
section
variable {X:Cx} {pins:List (Addr×Obj)} {Z:St} {H:Hp} {s:Shared} {a:Addr} {y:V} {u:Value} {A:Around} {E:Value->Shared->Prop}
end
end L2
namespace Att
open PySem PySem.W PySem.Calls PyProof.Rows
theorem B3m {P:Params} {h:Heap}:∀(ns:List Int) (vs:List Value),WellAll P h vs (ns.map WData.int)->IntsAre vs ns:=by
 intro ns
 induction ns with
 | nil =>
  intro vs w;rw [List.map_nil] at w;cases w;exact .nil
 | cons n ns ih =>
  intro vs w;rw [Z0p] at w
  cases w with
  | cons a b =>
   cases a
   exact .cons _ _ (ih _ b)
theorem C9d {l:OpenLaw} {n:Nat} (p:l.most=some n) {P:Params} {h:Heap} {args:List WData} {b:List Value}
  (c:l.row.toRowW.claim.pre args=true) (j:WellAll P h b args) :
  ∃a vs ns,b=[Value.ref a]/\args=[WData.list (ns.map WData.int)]/\h.get? a=some { cls:= .type "list",data:= .seq vs.toArray }/\IntsAre vs ns/\ns.length<=n:=by
 have i:WShape.hasAll [] args [.list .int]=true:=(pre_splitW c).1;have k:l.pre.holds [] { args:=args }=true:=(pre_splitW c).2;obtain ⟨d,r,rfl,m,t⟩:=hasAllW_cons i;obtain rfl:=hasAllW_nil t;obtain ⟨u,rfl,s⟩:=hasW_list m;obtain ⟨ns,rfl⟩:=items_int s
 have e:ns.length<=n:=by
  unfold OpenLaw.pre at k
  have g:(WTm.not (.lt (.lit (.int (n:Int))) (.len (.arg 0)))).holds [] { args:=[.list (ns.map .int)] }=true:=by
   have g:=(holds_andW k).1;rw [p] at g;exact g
  have f:=condW_of g (w_not (w_lt w_lit (w_len_list (w_arg rfl))));rw [Z08] at f;refine Nat.le_of_not_lt λq=> ?_;have o:(n:Int)<((ns.length:Nat):Int):=by lia
  first
   | (rw [Z20 o] at f;exact absurd f (by decide))
   | (simp at f;lia)
 cases j with
 | cons w1 w2 =>
  cases w2
  cases w1 with
  | list ho hall=>exact i0u _ _ ns rfl rfl ho (B3m ns _ hall) e
theorem C7i (l:OpenLaw) (args:List WData):l.row.toRowW.claim.post args (.bool true) args=true :=
 postW_of (r:=l.row.toRowW) (X:=(true == true))
  (show WShape.has [] (.bool true) .bool=true by first | rfl | decide | simp [WShape.has,WShape.arms,WShape.armsAll])
  (show (WTm.eq .res (.lit (.bool true))).value [] { args:=args,res:=some (.bool true),after:=args }=some (.bool (true == true)) from w_eq_bool (w_res rfl) w_lit) rfl
theorem attach_call {l:OpenLaw} {n:Nat} {q:Program} {b:List Str} {XP:(Str->Option Value)->Heap->Prop} {YP:World->Heap->Prop} {d:DefRec}
  (H:l.most=some n) (t:d.params.defaults=[])
  (h:∀(w:World) (p c:Shared) (mg x:Str->Option Value) (i:Addr) (o:Obj) (u cd g:Value) (a:Addr) (vs:List Value) (ns:List Int),
   Ground q b [] XP w p mg x c.heap->YP w c.heap->
   c.heap.get? i=some o->o.data= .func (docDef d.name d.params d.body d.scope u cd g)->c.heap.CodeRec cd d.name->mg d.name=some (.ref i)->
   c.heap.get? a=some { cls:= .type "list",data:= .seq vs.toArray }->IntsAre vs ns->ns.length<=n->c.gens= #[]->
   codeAny (model l.prog w) callerA (.call (.ref i) ⟨[.ref a],[]⟩) (λr s'=>r= .ok (.ret (.bool true))/\OldK c.heap s'.heap/\s'.os=c.os/\AllBare s'.gens) c) :
  WalkO q b XP YP l.row.toRowW d [] (λf vs=>PySem.call f vs):=by
 intro w p c mg x G Y i o u cd g J kV N D s B v F A z R m C O y M;obtain rfl:J= .none:=Dflts.none B t;obtain rfl:kV= .none:=Dflts.noKw B;obtain ⟨a,vs,ns,rfl,rfl,k,e,j⟩:=C9d H m y;refine enter_call (codeAny_mono (h w p c mg x i o u cd g a vs ns G Y N (fd_plain D) s v k e j F) λr s' P=> ?_);obtain ⟨rfl,L,K,Q⟩:=P;exact i04 (.inl (i0u (.bool true) (.bool true) [] rfl (λ_=>rfl) (.bool true) (C7i l _) λ_=>⟨List.Pairwise.nil,λ_ I=>(nomatch I)⟩)) L K Q
section
variable {prog:Program} {w:World} {A:Around} {E:Value->Shared->Prop} {s:Shared} {K:Frag}
end
end Att
namespace L2
open PySem PySem.Spec PyProof.Rows
variable {P prog:Program} {w:World} {K:Frag} {mg:Str->Option Value} {a l d f it p C:Addr} {fd:FuncData} {x qual x₀:Str} {vs:List (Key×Value)} {n k1 k2 i ep i₀:Nat} {XP:(Str->Option Value)->Heap->Prop} {X:Cx} {st:Stmt} {ps N':List Str} {od o:Obj} {osl sl:Array (Option Value)} {A:Around} {pos pos₀ spos:Pos} {B:Prop} {H H':Hp} {xs ys:Array Value} {b:Bool} {Q:Option Value->Shared->Prop} {y:Value} {g:TG} {tb:TS} {D:C6a} {Z:St} {h' h:Heap} {v:V} {scope:Scope} {u:HO} {S:Addr->Prop} {r:List (Str×V)} {pins:List (Addr×Obj)} {s:Shared} {kvs:List (Key×V)} {es:Array DictEntry} {elt iter:Expr} {cs elts:List Expr} {ix:List (Option Nat)} {cl:List (Str×Addr)} {wi:TI} {tc:TT} {te:TE} {sts:List Stmt} {E:Value->Shared->Prop}
theorem B8j:∀{vs:List Value} {ns:List Int},IntsAre vs ns->A3z (ns.map V.int) vs
 | _,_,.nil=> .nil
 | _,_,.cons n t h=> .cons ⟨t,rfl⟩ (B8j h)
def E3s (H:Hp):Prop:=∀b,H b=none\/∃o a,H b=some (.frz o (.lst a))
theorem D1e {R:Str->Option Value} {CX:CXT} {k:Nat} {O:Addr} {sp:Sp} {s₁:Shared} {vs:List Value} {ns:List Int}
  (KX:K.In s₁.heap) (C:s₁.heap.Ns mainGlobals mg) (f:s₁.heap.Ns builtinsNs R) (J:∀x:Str,x≠"__name__"->R x=bootBuiltins x) (l:s₁.heap.NoLimit) (hg:s₁.gens= #[])
  (I:s₁.heap.get? a=some { cls:= .type "list",data:= .seq vs.toArray }) (hi:IntsAre vs ns) (W:ns.length<=sizeLine) (hr:B0r k callerA)
  (F:∀base:Heap,K.In base->base.Ns mainGlobals mg->A3i P w K mg base CX k O fd [x] sp) (j:∀(s:Shared) (u:Value),BindsTo s fd ⟨[u],[]⟩ [(x,u)])
  (N:∀H:Hp,E3s H->SqL K H a (ns.map V.int)->sp [.ref a] H (λv _=>v= .bl true) λ_ _ _=>False)
  (L:∀H e s',CX [] H s₁ (λ_ _ _=>False) e s'->False) :
  codeAny (model P w) callerA (.call (.ref O) ⟨[.ref a],[]⟩) (λr s'=>r= .ok (.ret (.bool true))/\OldK s₁.heap s'.heap/\s'.os=s₁.os/\AllBare s'.gens) s₁:=by
 have T:=B8j hi;have y:=hi.length
 have i:∀H:Hp,E3s H->SqL K H a (ns.map V.int)->HOk P w H s₁.heap->(∀b,H b≠none->b=a)->(H a≠none->K.lookup a=none)->
   codeAny (model P w) callerA (.call (.ref O) ⟨[.ref a],[]⟩) (λr s'=>r= .ok (.ret (.bool true))/\OldK s₁.heap s'.heap/\s'.os=s₁.os/\AllBare s'.gens) s₁:=by
  intro H X Z B Y hK;have c:∀{b:Addr} {o:Obj},s₁.heap.get? b=some o->H b=none->(D1k s₁.heap H).get? b=some o:=λe n=>D2c e n
  have Q:∀{b:Addr} {o:Obj} {G:Array DictEntry} {ep:Nat},s₁.heap.get? b=some o->o.data= .dict G ep->H b=none:=λ{b o G ep} e d=>by
   cases q:H b with
   | none=>rfl
   | some u =>
    have M:b=a:=Y b (by rw [q];simp);subst M;rw [I] at e;cases e;have d':Data.seq vs.toArray _=Data.dict G ep:=d;cases d'
  have g:∀{b:Addr} {m:Str->Option Value},s₁.heap.Ns b m->(D1k s₁.heap H).Ns b m:=λ{b m} ⟨o,G,ep,e,d,r⟩=>(i0n o G ep (c e (Q e d)) d r)
  have A:K.In (D1k s₁.heap H):=λb o e=>c (KX b o e) (by
   cases q:H b with
   | none=>rfl
   | some u =>
    have M:b=a:=Y b (by rw [q];simp);subst M
    rw [hK (by rw [q];simp)] at e;cases e)
  have hM:Mod K mg (D1k s₁.heap H):=⟨A,g C,(i02 R (g f) J),let ⟨mc,h1,h2⟩:=l;(i02 mc (g h1) h2)⟩;have e0:D8d P w K mg (D1k s₁.heap H) callerA [] s₁ H:=⟨rfl,hM,λb o e=>D5i e,Nat.le_of_eq (C8a _ _),trivial,λb f=>absurd (show b∈([]:List Addr) from f) (by simp),B,.of_eq hg⟩;refine codeAny_mono ((F _ A (g C)).run callerA [] s₁ H ⟨[.ref a],[]⟩ [.ref a] [.ref a] _ _ hr e0 (j s₁ (.ref a)) (.cons rfl .nil) (N H X Z)) λr s' h=> ?_
  cases r with
  | error e=>exact (L H e s' h).elim
  | ok fl =>
   cases fl with
   | next=>exact False.elim h
   | brk=>exact False.elim h
   | cont=>exact False.elim h
   | ret u =>
    obtain ⟨v,H',os,D,S,t,r',q⟩:=h;have E:v= .bl true:=q;subst E;obtain rfl:u=Value.bool true:=r';refine i04 rfl (OldK.of_keep λb o e=> ?_) os D
    cases q:H b with
    | none=>exact S.keep b o e q (by intro z;exact absurd (show b∈([]:List Addr) from z) (by simp)) (by simp)
    | some u =>
     rcases X b with z | ⟨ob,xs,z⟩
     ·rw [q] at z;cases z
     ·have z2:=S.frzs b ob _ z;obtain ⟨U,_⟩:=B b _ z;obtain ⟨e2,_⟩:=t b _ z2;rw [e] at U;cases U;exact e2
 cases hk:K.lookup a with
 | some o =>
  have e:=KX a o hk;rw [I] at e;cases e;refine i (λ_=>none) (λ_=> .inl rfl) (.inr ⟨_,(i0t vs.toArray _ hk rfl rfl rfl (by rw [Z0g,y];exact W) (by simpa using T))⟩) (λb u z=>by have p:(none:Option HO)=some u:=z;cases p) (λb z=>absurd rfl z) λz=>absurd rfl z
 | none =>
  refine i (λb=>if b=a then some (.frz { cls:= .type "list",data:= .seq vs.toArray } (.lst (ns.map V.int))) else none) (λb=> ?_) (.inl (.inr ⟨{ cls:= .type "list",data:= .seq vs.toArray },Z12 rfl⟩)) (λb u z=> ?_) (λb z=> ?_) λ_=>hk
  ·by_cases f:b=a
   ·exact .inr (i03 _ _ (Z12 f))
   ·exact .inl (Z0t f)
  ·by_cases f:b=a
   ·have p:=(Z12 f).symm.trans z;cases p;subst f;exact ⟨I,(i0b (by rw [Z08];exact W) vs _ T I)⟩
   ·have p:=(Z0t f).symm.trans z;cases p
  ·by_cases f:b=a
   ·exact f
   ·exact absurd (Z0t f) z
theorem D6b {l:PySem.W.OpenLaw} {k:Nat} {q:Program} {j:List Str} {YP:World->Heap->Prop} {d:DefRec} {K:Params->Frag} {CX:World->CXT} {sp:World->Sp}
  (I:l.most=some n) (A:n<=sizeLine) (t:d.params.defaults=[]) (J:B0r k callerA)
  (Q:∀(w:World) (h:Heap),YP w h->(K w.params).In h)
  (F:∀(w:World) (mg:Str->Option Value) (p:Addr) (h:Heap),(K w.params).In h->h.Ns mainGlobals mg->mg d.name=some (.ref p)->
   ∃fd:FuncData,(∀(s:Shared) (u:Value),BindsTo s fd ⟨[u],[]⟩ [(x,u)])/\
    ∀base:Heap,(K w.params).In base->base.Ns mainGlobals mg->A3i l.prog w (K w.params) mg base (CX w) k p fd [x] (sp w))
  (y:∀(w:World) (H:Hp) (a:Addr) (ns:List Int),ns.length<=n->E3s H->SqL (K w.params) H a (ns.map V.int)->sp w [.ref a] H (λv _=>v= .bl true) λ_ _ _=>False)
  (r:∀(w:World) (H:Hp) (s:Shared) (e:Value) (s':Shared),CX w [] H s (λ_ _ _=>False) e s'->False) :
  PySem.W.WalkO q j XP YP l.row.toRowW d [] (λf vs=>PySem.call f vs):=by
 refine Att.attach_call I t λw R O mg E p o U Z N a vs ns G Y X S B z m i c D=> ?_;have KX:=Q w _ Y;obtain ⟨fd,P,L⟩:=F w mg p _ KX G.T.g z;exact D1e KX G.T.g G.T.b G.T.builtins G.T.nolimit D m i (Z1n c A) J L P (λH M C=>y w H a ns c M C) λH e s'=>r w H O e s'
def A3b (s:Stmt) (j:Nat):Stmt:=match s with
 | .ClassDef _ _ _ body _ _ _ _ _ _ _=>body.getD j (.Pass ⟨0,0,0,0⟩)
 | _=> .Pass ⟨0,0,0,0⟩
def A9o (s:Stmt):Arguments:=match s with
 | .FunctionDef _ a _ _ _ _ _ _ _ _=>a
 | _=>{ posonlyargs:=[],args:=[],vararg:=none,kwonlyargs:=[],kw_defaults:=[],kwarg:=none,defaults:=[] }
def A8r (s:Stmt):List Stmt:=match s with
 | .FunctionDef _ _ b _ _ _ _ _ _ _=>b
 | _=>[]
def A0n (s:Stmt):Scope:=match s with
 | .FunctionDef _ _ _ _ _ _ sc _ _ _=>sc
 | _=>{ kind:= .function,names:=[],isGenerator:=false,isCoroutine:=false }
abbrev CX0:CXT:=λ_ _ _ _ _ _=>False
abbrev E0:XK:=λ_ _ _=>False
theorem B6p:B3d CX0 X E0:=λ_ _ _ _ _ _ _ h=>h.elim
structure Fun (K:Frag) (x qual:Str) (st:Stmt) (f:Addr) (fd:FuncData):Prop where
 ex:∃(oc:Value) (od:Option Addr) (kV doc pm:Value) (an:Option Addr) (cdv ct:Value) (osl:Array (Option Value)),
  fd=fnOf x qual (A9o st) (A8r st) (A0n st) .none kV doc pm an cdv ct/\K.lookup f=some ⟨oc,od,.func fd,osl⟩/\codeIn K cdv qual=true
 kp:keepIn K (.ref f)=true
section
variable {P:Program} {w:World} {K:Frag} {mg:Str->Option Value} {base:Heap}
theorem Fun.ok {N:List Str} {k:Nat} {sp:Sp} (F:Fun K x qual st f fd) (S:A0w N ps (A0n st)) (d:∀vs H Q E,sp vs H Q E->vs.length=ps.length)
  (b:∀(a:Value) (A:Around) (outer:List Env) (s:Shared) (H:Hp) (vs:List V) (Q:VK) (E:XK),B0r k (A.deeper (envOfC qual (A0n st) s.heap.objs.size f a))->sp vs H Q E->
   ∃t,PSs (D8g CX0 P w K mg base N qual (A0n st) f a A outer s H E).nox (A8r st) t/\t { nx:=λ_ H'=>Q .non H',rt:=Q } (B8a N vs) H):A3i P w K mg base CX0 (k+1) f fd ps sp:=by
 obtain ⟨p,r,kV,g,m,n,a,o,j,rfl,i,c⟩:=F.ex;refine E2t i c S d λA outer s H vs Q E l e=> ?_;obtain ⟨t,h,q⟩:=b a A outer s H vs Q E l e;exact i02 t h.nox q
theorem Fun.binds (F:Fun K x qual st f fd)
  (h:∀(kV b c:Value) (d:Option Addr) (a e:Value) (us:List Value),us.length=ps.length->bindArgs (fnOf x qual (A9o st) (A8r st) (A0n st) .none kV b c d a e) ⟨us,[]⟩=pure (ps.zip us)):A9b K fd ps []:=by
 obtain ⟨k,l,kV,b,c,d,a,e,i,rfl,j,g⟩:=F.ex;exact .all (h kV b c d a e)
theorem D3p {h:Value} {od g:Option Addr} {kV b e a d:Value} (l:K.lookup f=some ⟨h,od,.func (fnOf x qual (A9o st) (A8r st) (A0n st) .none kV b e g a d),osl⟩)
  (c:codeIn K a qual=true) (k:keepIn K (.ref f)=true):Fun K x qual st f (fnOf x qual (A9o st) (A8r st) (A0n st) .none kV b e g a d):=⟨(i11 h od kV b e g a d osl (i00 rfl l c)),k⟩
end
theorem A8b {k:Nat} (a:B0r k A):A.units+1<cLine:=Z2d (Nat.add_le_add_left (by decide:1<=64) _) a.units
section
variable {X:Cx}
theorem pv (i:Nat) (b:X.N[i]? =some x:=by rfl) (c:Vis X.env.scope x:=by first | exact Or.inl rfl | exact Or.inr (Or.inl rfl) | exact Or.inr (Or.inr rfl)) (d:(x == ("__debug__":Str))=false:=by decide)
  (a:(x == ("__classdict__":Str))=false:=by decide):PE X (.Name x pos) (C6p i):=D9u b c d a
theorem C7v:A8l X (.builtin "len") (λxs H Q=>∃a kvs,xs=[V.ref a]/\H a=some (.dK kvs)/\Q (.int kvs.length) H):=by
 intro b s Z H xs e Q I r h;obtain ⟨a,kvs,rfl,c,q⟩:=h;obtain ⟨u,rfl,d⟩:=B1p r;cases d;exact E3h I (.inl c) λt f I'=>(i0f (.int kvs.length) H I' ⟨t,rfl⟩ q)
end
theorem A2m {A:Prop} (h:B):if false=true then A else B:=by
 rw [Z0t Z0v];exact h
theorem A5u {A:Prop} (h:A):if true=true then A else B:=by
 rw [Z12 rfl];exact h
theorem D2r {c A:Prop} [Decidable c] (h1:c->A) (h2:¬c->B):if c then A else B:=by
 by_cases h:c
 ·rw [Z12 h];exact h1 h
 ·rw [Z0t h];exact h2 h
def A0u (H H':Hp):Prop:=∀b o,H b=some o->H' b=some o
theorem A0u.refl (H:Hp):A0u H H:=λ_ _ h=>h
theorem A0u.trans {H1 H2:Hp} (a:A0u H H1) (b:A0u H1 H2):A0u H H2:=λc o h=>b c o (a c o h)
theorem A0u.free (e:A0u H H') (h:H' l=Option.none):H l=Option.none:=by
 cases q:H l with
 | none=>rfl
 | some o =>
  rw [e l o q] at h;cases h
theorem A0u.seq {xs:List V} (e:A0u H H') (h:SqL K H a xs):SqL K H' a xs:=by
 rcases h with (h | ⟨o,h⟩) | h
 ·exact .inl (.inl (e _ _ h))
 ·exact .inl (.inr ⟨o,e _ _ h⟩)
 ·exact .inr h
section
variable {κ:Type} [DecidableEq κ]
end
section
variable {X:Cx}
def E4k (t u:TS):TS:=λD Z H=>∃M:St->Hp->Prop,t { D with nx:=M } Z H/\∀Z' a,M Z' a->u D Z' a
theorem A9r {st:Stmt} {rest:List Stmt} {t u:TS} (h1:PS X st t) (h2:PSs X rest u):PSs X (st::rest) (E4k t u):=by
 intro a s Z H D I h;obtain ⟨M,h,d⟩:=h;refine wpAny_execs_cons (thn (h1 a s Z H { D with nx:=M } I h) λf c q=> ?_)
 cases f with
 | next =>
  obtain ⟨Z',b,I',q⟩:=q;exact h2 a c Z' b D I' (d _ _ q)
 | ret v=>exact q
 | brk=>exact q
 | cont=>exact q
def rIsi (K:Frag):List V->Hp->VK->Prop:=λa H Q=>∃x c t b,a=[x,c]/\A8a K H x t/\(∀u,A3c c u->kitOne K t u=some b)/\Q (.bl b) H
theorem A1d:A8l X (.builtin "isinstance") (rIsi X.K):=by
 intro d s Z H l k Q I r h;obtain ⟨x,c,t,b,rfl,j,e,q⟩:=h;obtain ⟨u,g,rfl,i,a⟩:=C9g r;exact C6x I i j (e g a) λf=>(i0f (.bl b) H (I.tok f) rfl q)
theorem B2k (T:String):∀u,A3c (.ty T) u->kitOne K (.type T) u=some true:=by
 intro u h;cases (show u=Value.type T from h);unfold kitOne;rw [Z12 (beq_self_eq_true _)]
theorem B8v {T U:String} (h:(Value.type T == Value.type U)=false) (c:PySem.W.kitMeta U=true) (a:(PySem.fastBuiltinMro T).map (·.contains (Value.type U))=some b) :
  ∀u,A3c (.ty U) u->kitOne K (.type T) u=some b:=by
 intro u z;cases (show u=Value.type U from z);unfold kitOne;rw [Z0t (by rw [h];exact Z0v)];show (if PySem.W.kitMeta U=true then subIn K (.type T) (.type U) else none)=some b;rw [Z12 c];exact a
def CBig (i j:Int):Prop:=i.natAbs<2^4000/\j.natAbs<2^4000
theorem D5d:OpR X (binaryOp .Mult) (rI CBig λi j=> .int (i*j)):=opI λ_ _ _ _ _ _ _ a q =>
 mul_int q (IntMulOk.of_le (m:=4000) (n:=4000) (intBits_le_iff.mpr a.1) (intBits_le_iff.mpr a.2) (by decide))
def E3d (_ j:Int):Prop:=0<j/\j.natAbs<2^4000
theorem C3o:OpR X (binaryOp .FloorDiv) (rI E3d λi j=> .int (i/j)):=opI λi j _ _ _ _ _ a q=>by
 have c:(0:Int)<j:=a.1;have b:j.natAbs.log2<9000:=Nat.lt_trans ((Nat.log2_lt (by lia)).mpr a.2) (by decide);exact floordiv_int (by lia) (by rw [Int.fdiv_eq_ediv_of_nonneg i (by lia)];exact q) (.inl (PyProof.noPylong_of_log2 b))
end
structure Nx (it l:Addr) (st:Nat->Heap->Prop) (src:Array Value->Heap->Prop):Prop where
 item:∀{prog:Program} {w:World} {A:Around} {E:Value->Shared->Prop} {s:Shared} {k:Nat} {xs:Array Value} {x:Value} {Q:Value->Shared->Prop},st k s.heap->src xs s.heap->xs[k]? =some x->
  (∀h',st (k+1) h'->Heap.SameBut it s.heap h'->Q x { s with heap:=h' })->wpAny (model prog w) A (Builtin.SmallTypes.nextOf (.ref it)) Q E s
 fin:∀{prog:Program} {w:World} {A:Around} {E:Value->Shared->Prop} {s:Shared} {k:Nat} {xs:Array Value} {Q:Value->Shared->Prop},A.handled=none->st k s.heap->src xs s.heap->xs[k]? =none->
  (∀h' e,Heap.ExtBut it s.heap h'->(∃o,h'.get? e=some o/\o.cls= .type "StopIteration")->E (.ref e) { s with heap:=h' })->wpAny (model prog w) A (Builtin.SmallTypes.nextOf (.ref it)) Q E s
 mv:∀{k:Nat} {h h':Heap},st k h->(∀o,h.get? it=some o->h'.get? it=some o)->st k h'
 mvS:∀{xs:Array Value} {h h':Heap},src xs h->(∀o,h.get? l=some o->h'.get? l=some o)->src xs h'
 ob:∀{k:Nat} {h:Heap},st k h->∃o,h.get? it=some o/\∀v,o.data≠.cell v
theorem A8v (it l:Addr):Nx it l (λk h=>h.IsListIter it l k) (λxs h=>h.IsList l xs) where
 item:=wpAny_nextOf_list_item
 fin:=wpAny_nextOf_list_end
 mv:=λx e=>x.at e
 mvS:=λx e=>x.at e
 ob:=λ⟨o,e,_,d⟩=>(i02 o e λv z=>by rw [d] at z;cases z)
section
variable {prog:Program} {w:World} {A:Around} {E:Value->Shared->Prop} {s:Shared}
theorem B1j {k:Nat} {x:Value} {Q:Value->Shared->Prop} (hi:s.heap.IsTupleIter it l k) (e:s.heap.IsTuple l xs) (f:xs[k]? =some x)
  (g:∀h',h'.IsTupleIter it l (k+1)->Heap.SameBut it s.heap h'->Q x { s with heap:=h' }):wpAny (model prog w) A (Builtin.SmallTypes.nextOf (.ref it)) Q E s:=by
 obtain ⟨o,b,h,a⟩:=id hi;obtain ⟨j,c,_,i,d⟩:=e;unfold Builtin.SmallTypes.nextOf;refine Z00 (Z1b (name:=Str.ofString "__next__") hi.typeIs F.slot_tuple_iterator_next (Z1g F.slot_tuple_iterator_next hi.typeIs F.entry_tuple_iterator_next ?_ (F.args_tuple_iterator_next_1 _)));show wpAny _ _ (field (.ref it) 0 >>= _) _ _ s;refine Z00 (Z11 b a (x:= .ref l) rfl ?_);show wpAny _ _ (if (Value.ref l == Value.none)=true then _ else _) _ _ s;rw [Z0t (show¬((Value.ref l == Value.none)=true) from Z0v)];show wpAny _ _ (field (.ref it) 1 >>= _) _ _ s;refine Z00 (Z11 b a (x:= .int k 0) rfl ?_);show wpAny _ _ (seqItems? (.ref l) >>= _) _ _ s;refine Z00 (Z21 c d ?_);simp only [Int.toNat_natCast,f];refine Z00 (Z1t b a (by simp) (Z04 (i02 x rfl (Z04 (g _ ?_ (Heap.SameBut.update ..))))));exact i06 _ (Heap.get?_update_self _ b (Obj.isFreed_of_fields (Obj.data_mapFields a _))) ((Obj.cls_mapFields ..).trans h) (by rw [Obj.data_mapFields a];simp [rawInt])
theorem B2d {k:Nat} {Q:Value->Shared->Prop} (g:A.handled=none) (hi:s.heap.IsTupleIter it l k) (i:s.heap.IsTuple l xs) (j:xs[k]? =none)
  (h:∀h' e,Heap.ExtBut it s.heap h'->(∃o,h'.get? e=some o/\o.cls= .type "StopIteration")->E (.ref e) { s with heap:=h' }):wpAny (model prog w) A (Builtin.SmallTypes.nextOf (.ref it)) Q E s:=by
 obtain ⟨o,f,q,c⟩:=id hi;obtain ⟨p,b,_,n,d⟩:=i;unfold Builtin.SmallTypes.nextOf;refine Z00 (Z1b (name:=Str.ofString "__next__") hi.typeIs F.slot_tuple_iterator_next (Z1g F.slot_tuple_iterator_next hi.typeIs F.entry_tuple_iterator_next ?_ (F.args_tuple_iterator_next_1 _)));show wpAny _ _ (field (.ref it) 0 >>= _) _ _ s;refine Z00 (Z11 f c (x:= .ref l) rfl ?_);show wpAny _ _ (if (Value.ref l == Value.none)=true then _ else _) _ _ s;rw [Z0t (show¬((Value.ref l == Value.none)=true) from Z0v)];show wpAny _ _ (field (.ref it) 1 >>= _) _ _ s;refine Z00 (Z11 f c (x:= .int k 0) rfl ?_);show wpAny _ _ (seqItems? (.ref l) >>= _) _ _ s;refine Z00 (Z21 b d ?_);simp only [Int.toNat_natCast,j];refine Z00 (wpAny_rule (Z00 (Z1t f c (by simp) ?_)));show wpAny _ _ (newExc (.type "StopIteration") [] >>= _) _ _ _;refine Z00 ?_;simp only [newExc,newTuple];refine Z00 (Z16 ?_ (by size_fits));refine Z00 (m:=firstArgMember _ _) (wpAny_of_eq (a:=Value.none) (by first | rfl | (simp only [firstArgMember];rfl)) ?_);refine Z16 ?_ (by size_fits);simp only [raiseNew];refine Z00 (wpAny_handled ?_)
 first | rw [show A.in1.handled=none from g] | rw [g]
 refine Z00 (Z04 (wpAny_throw ?_));exact h _ _ (((Heap.SameBut.update ..).extBut.push _).push _) (i02 _ (Z0c _ rfl) rfl)
end
theorem A6g (it l:Addr):Nx it l (λk h=>h.IsTupleIter it l k) (λxs h=>h.IsTuple l xs) where
 item:=B1j
 fin:=B2d
 mv:=λ⟨o,e,r⟩ f=>(i02 o (f _ e) r)
 mvS:=λ⟨o,e,r⟩ f=>(i02 o (f _ e) r)
 ob:=λ⟨o,e,_,d⟩=>(i02 o e λv z=>by rw [d] at z;cases z)
section
variable {z TI TO i1 i2 l1 l2:Addr} {st1 st2:Nat->Heap->Prop} {src1 src2:Array Value->Heap->Prop} {prog:Program} {w:World} {A:Around} {E:Value->Shared->Prop} {s:Shared}
theorem D2v (N1:Nx i1 l1 st1 src1) (N2:Nx i2 l2 st2 src2) {x a b:Value} (D:ZipApart z TI TO i1 i2 l1 l2)
  (h:IsZip s.heap z TI TO .none) (K:IsPair s.heap TI (.ref i1) (.ref i2)) (I:IsPair s.heap TO a b) (h1:st1 k1 s.heap) (h2:st2 k2 s.heap) (B:src1 xs s.heap) (C:src2 ys s.heap) (U:xs[k1]? =some x) (hy:ys[k2]? =some y)
  (hQ:∀h',IsZip h' z TI TO (rawInt s.heap.objs.size)->IsPair h' TO x y->st1 (k1+1) h'->st2 (k2+1) h'->IsPair h' s.heap.objs.size x y->
   (∀c o,c≠z->c≠TO->c≠i1->c≠i2->s.heap.get? c=some o->h'.get? c=some o)->Q (some (.ref s.heap.objs.size)) { s with heap:=h' }):wpAny (model prog w) A (pyNext (.ref z)) Q E s:=by
 have R:s.TypeIs (.ref z) "zip":=(i02 _ h rfl);unfold pyNext;refine Z00 (wpAny_attempt (Z1b (name:=Str.ofString "__next__") R F.slot_zip_next (Z1g F.slot_zip_next R F.entry_zip_next ?_ (F.args_zip_next_1 _))));show wpAny _ _ (field (.ref z) 2 >>= _) _ _ _;refine Z00 (Z11 h rfl (x:= .bool false) rfl ?_);show wpAny _ _ (field (.ref z) 3 >>= _) _ _ _;refine Z00 (Z11 h rfl (x:= .ref TI) rfl ?_);refine Z00 (Z21 K rfl ?_);show wpAny _ _ (Builtin.SmallTypes.ownedTupleIsFree (.ref z) >>= _) _ _ _;refine Z00 ?_;unfold Builtin.SmallTypes.ownedTupleIsFree;refine Z00 (Z11 h rfl (x:= .none) rfl (Z04 ?_));simp only [if_true];refine Z00 (wpAny_rule ?_);refine Z00 (Z11 h rfl (x:= .ref TO) rfl ?_);refine Z00 (Z1h h (by simp) λW H d=> ?_)
 replace H:IsZip W z TI TO .ellipsis:=H
 refine Z00 ?_;simp only [List.zipIdx_cons,List.zipIdx_nil,List.forIn_cons,List.forIn_nil];refine Z00 (Z00 (wpAny_onRaise ?_));show wpAny _ _ (Builtin.SmallTypes.nextOf (.ref i1) >>= _) _ _ _;refine Z00 (N1.item (N1.mv h1 λo e=>d.extBut _ _ D.i1z e) (N1.mvS B λo e=>d.extBut _ _ D.l1z e) U λg2 T i=>Z04 ?_);have L:IsPair g2 TO a b:=i.extBut _ _ D.TOi1 (d.extBut _ _ D.TOz I);refine Z00 (Z21 L rfl ?_);refine Z00 (wpAny_updateSeq_pair L λg3 u g=> ?_)
 replace u:IsPair g3 TO x b:=u
 refine Z00 (wpAny_letGo (Z04 ?_));refine Z00 (Z00 (wpAny_onRaise ?_));show wpAny _ _ (Builtin.SmallTypes.nextOf (.ref i2) >>= _) _ _ _;refine Z00 (N2.item (N2.mv h2 λo e=>g.extBut _ _ D.TOi2.symm (i.extBut _ _ D.i12.symm (d.extBut _ _ D.i2z e))) (N2.mvS C λo e=>g.extBut _ _ D.l2TO (i.extBut _ _ D.l2i1 (d.extBut _ _ D.l2z e))) hy λZ t4 j=>Z04 ?_);have S:IsPair Z TO x b:=j.extBut _ _ D.TOi2 u;refine Z00 (Z21 S rfl ?_);refine Z00 (wpAny_updateSeq_pair S λg5 r k=> ?_)
 replace r:IsPair g5 TO x y:=r
 refine Z00 (wpAny_letGo (Z04 (Z04 ?_)));refine Z00 (Z21 r rfl ?_);refine Z00 (wpAny_newTuple ?_);have l:g5.objs.size=s.heap.objs.size:=by rw [k.1,j.1,g.1,i.1,d.1]
 have N:IsZip g5 z TI TO .ellipsis:=k.extBut _ _ D.TOz.symm (j.extBut _ _ D.i2z.symm (g.extBut _ _ D.TOz.symm (i.extBut _ _ D.i1z.symm H)));have k5:∀c o,c≠z->c≠TO->c≠i1->c≠i2->s.heap.get? c=some o->g5.get? c=some o:=λc o f q G v e=>k.extBut _ _ q (j.extBut _ _ v (g.extBut _ _ q (i.extBut _ _ G (d.extBut _ _ f e))));have X:st1 (k1+1) g5:=N1.mv T λo e=>k.extBut _ _ D.TOi1.symm (j.extBut _ _ D.i12 (g.extBut _ _ D.TOi1.symm e));have s2:st2 (k2+1) g5:=N2.mv t4 λo e=>k.extBut _ _ D.TOi2.symm e;have m:z<g5.objs.size:=Z0a N;show wpAny _ _ (Builtin.SmallTypes.ownedTupleHandOut (.ref z) (.ref g5.objs.size) >>= _) _ _ _;refine Z00 ?_;unfold Builtin.SmallTypes.ownedTupleHandOut;have Y:IsZip (g5.push { cls:= .type "tuple",data:= .seq #[x,y] }) z TI TO .ellipsis:=Z01 _ N;refine Z00 (Z1h Y (by simp) λg7 J O=> ?_)
 replace J:IsZip g7 z TI TO (rawInt g5.objs.size):=J
 refine Z1h J (by simp) λn t M=> ?_
 replace t:IsZip n z TI TO (rawInt g5.objs.size):=t
 have p:∀c o,c≠z->g5.get? c=some o->n.get? c=some o:=λc o f e=>M.extBut _ _ f (O.extBut _ _ f (Z01 _ e));have P:IsPair n g5.objs.size x y:=M.extBut _ _ (Z1q m) (O.extBut _ _ (Z1q m) (Z0c _ rfl));rw [l] at t P;refine Z04 (i02 _ rfl (Z04 ?_));show Q (some (.ref g5.objs.size)) _;rw [l];exact hQ n t (p _ _ D.TOz r) (N1.mv X λo e=>p _ o D.i1z e) (N2.mv s2 λo e=>p _ o D.i2z e) P λc o f q G v e=>p c o f (k5 c o f q G v e)
theorem D7l (N1:Nx i1 l1 st1 src1) (N2:Nx i2 l2 st2 src2) {a b:Value} (M:A.handled=none) (D:ZipApart z TI TO i1 i2 l1 l2)
  (k:IsZip s.heap z TI TO .none) (C:IsPair s.heap TI (.ref i1) (.ref i2)) (B:IsPair s.heap TO a b) (h1:st1 k1 s.heap) (h2:st2 k2 s.heap) (p:src1 xs s.heap) (t:src2 ys s.heap) (m:xs[k1]? =none\/ys[k2]? =none)
  (hQ:∀h',(∀c o,c≠z->c≠TO->c≠i1->c≠i2->s.heap.get? c=some o->h'.get? c=some o)->Q none { s with heap:=h' }):wpAny (model prog w) A (pyNext (.ref z)) Q E s:=by
 have N:s.TypeIs (.ref z) "zip":=(i02 _ k rfl);unfold pyNext
 have fin:∀(h':Heap) (e:Addr),(∀c o,c≠z->c≠TO->c≠i1->c≠i2->s.heap.get? c=some o->h'.get? c=some o)->(∃o,h'.get? e=some o/\o.cls= .type "StopIteration")->
   wpAny (model prog w) A (isInstance (.ref e) (.type "StopIteration") >>= λb=>if b=true then pure none else throw (.ref e)) Q E { s with heap:=h' }:=λh' e hk ⟨o,ho,Y⟩ =>
  Z00 (wpAny_isInstance (T:="StopIteration") (b:=true) (i02 o ho Y) isSubtype_stop (Z04 (hQ _ hk)))
 refine Z00 (wpAny_attempt (Z1b (name:=Str.ofString "__next__") N F.slot_zip_next (Z1g F.slot_zip_next N F.entry_zip_next ?_ (F.args_zip_next_1 _))));show wpAny _ _ (field (.ref z) 2 >>= _) _ _ _;refine Z00 (Z11 k rfl (x:= .bool false) rfl ?_);show wpAny _ _ (field (.ref z) 3 >>= _) _ _ _;refine Z00 (Z11 k rfl (x:= .ref TI) rfl ?_);refine Z00 (Z21 C rfl ?_);show wpAny _ _ (Builtin.SmallTypes.ownedTupleIsFree (.ref z) >>= _) _ _ _;refine Z00 ?_;unfold Builtin.SmallTypes.ownedTupleIsFree;refine Z00 (Z11 k rfl (x:= .none) rfl (Z04 ?_));simp only [if_true];refine Z00 (wpAny_rule ?_);refine Z00 (Z11 k rfl (x:= .ref TO) rfl ?_);refine Z00 (Z1h k (by simp) λR n i=> ?_)
 replace n:IsZip R z TI TO .ellipsis:=n
 refine Z00 ?_;simp only [List.zipIdx_cons,List.zipIdx_nil,List.forIn_cons,List.forIn_nil];refine Z00 (Z00 (wpAny_onRaise ?_));show wpAny _ _ (Builtin.SmallTypes.nextOf (.ref i1) >>= _) _ _ _;have O:=N1.mv h1 λo e=>i.extBut _ _ D.i1z e;have L:=N1.mvS p λo e=>i.extBut _ _ D.l1z e
 cases hx:xs[k1]? with
 | none =>
  refine Z00 (N1.fin M O L hx λr e g q=> ?_);obtain ⟨v,d,f⟩:=q;have K:IsZip r z TI TO .ellipsis:=g _ _ D.i1z.symm n;have y:e≠z:=λx=>by subst x;rw [K] at d;cases d;simp at f
  exact Z1h K (by simp) λP _ j=>fin P e (λc o l _ u _ x=>j.extBut _ _ l (g _ _ u (i.extBut _ _ l x))) (i02 v (j.extBut _ _ y d) f)
 | some x =>
  have Z:ys[k2]? =none:=by
   rcases m with h | h
   ·rw [hx] at h;cases h
   ·exact h
  refine Z00 (N1.item O L hx λr t2 g=>Z04 ?_);have H:IsPair r TO a b:=g.extBut _ _ D.TOi1 (i.extBut _ _ D.TOz B);refine Z00 (Z21 H rfl ?_);refine Z00 (wpAny_updateSeq_pair H λP p3 j=> ?_);refine Z00 (wpAny_letGo (Z04 ?_));refine Z00 (Z00 (wpAny_onRaise ?_));show wpAny _ _ (Builtin.SmallTypes.nextOf (.ref i2) >>= _) _ _ _;refine Z00 (N2.fin M (N2.mv h2 λo e=>j.extBut _ _ D.TOi2.symm (g.extBut _ _ D.i12.symm (i.extBut _ _ D.i2z e))) (N2.mvS t λo e=>j.extBut _ _ D.l2TO (g.extBut _ _ D.l2i1 (i.extBut _ _ D.l2z e))) Z λU e I q=> ?_);obtain ⟨v,d,f⟩:=q;have G:IsZip U z TI TO .ellipsis:=I _ _ D.i2z.symm (j.extBut _ _ D.TOz.symm (g.extBut _ _ D.i1z.symm n));have y:e≠z:=λx=>by subst x;rw [G] at d;cases d;simp at f
  exact Z1h G (by simp) λX _ J=>fin X e (λc o l W u S x=>J.extBut _ _ l (I _ _ S (j.extBut _ _ W (g.extBut _ _ u (i.extBut _ _ l x))))) (i02 v (J.extBut _ _ y d) f)
end
section
variable {X:Cx} {pins:List (Addr×Obj)} {Z:St} {H:Hp} {s:Shared} {h':Heap}
theorem Inv.turnedNew {t':Nat} {ts:List Addr} {o:HO} (I:Inv X pins Z H s) (k:∀b u,b∉ts->s.heap.get? b=some u->h'.get? b=some u) (f:∀b∈ts,C1w X pins H b) (p:s.heap.objs.size<=a)
  (i:A2q X.prog X.w (upd H a o) h' a o):Inv X pins Z (upd H a o) { s with heap:=h',toks:=t' }:=by
 have j:∀b u,H b=some u->b∉ts:=λb u e z=>by have:=(f b z).1;rw [e] at this;cases this
 have C:∀b u,s.heap.get? b=some u->b≠a:=λb u e=>Z0h (Z0q (Z0a e) p);have h:H a=none:=I.hok.fresh p
 refine I.step (g':=s.gens) (d':=s.drawn) (ch:=ts) (λb g=>(i04 ((f b g).2.2.2.1) ((f b g).2.1) ((f b g).2.2.2.2.1) ((f b g).2.2.2.2.2))) (λb u _ _ d e _=>k b u d e) (λb u _ _ d e _=>⟨u.slots,k b u d e⟩)
  (λb u _ e n=>by rw [A0i (C b u e)];exact n) (λb u d e=>⟨u,k b u d e⟩) (λb t e=>by rw [A0i (A0z e h)];exact e) (λb u t e=>by rw [A0i (A0z e h)];exact e)
  (λb D e=>⟨#[],by rw [A0i (A0z e h),e];simp⟩) (λm A=> ?_) (λb u e=> ?_) I.bare
 ·obtain ⟨l,B,y,x,r⟩:=A;exact i0g l B y (k _ l (λz=>(f _ z).2.1 rfl) x) r
 ·by_cases g:b=a
  ·subst g;rw [A0b] at e;cases e;exact i
  ·rw [A0i g] at e;refine (I.hok b u e).stay (λc v d q=>k c v ?_ q) (λc q=>by rw [A0i (A0z q h)];exact q) λc t q=>by rw [A0i (A0z q h)];exact q
   rcases d with rfl | d
   ·exact j _ _ e
   ·exact j _ _ d
end
def SrK (k:Bool) (h:Heap) (l:Addr) (xs:Array Value):Prop:=match k with | true=>h.IsList l xs | false=>h.IsTuple l xs
def StK (k:Bool) (it l:Addr) (i:Nat) (h:Heap):Prop:=match k with | true=>h.IsListIter it l i | false=>h.IsTupleIter it l i
abbrev itK (k:Bool):String:=match k with | true=>"list_iterator" | false=>"tuple_iterator"
theorem nxK:∀(k:Bool) (it l:Addr),Nx it l (λi h=>StK k it l i h) (λxs h=>SrK k h l xs)
 | true=>A8v
 | false=>A6g
theorem D8v {prog:Program} {w:World} {A:Around} {E:Value->Shared->Prop} {s:Shared} {l:Addr} {xs:Array Value} {Q:Value->Shared->Prop}:∀{k:Bool},SrK k s.heap l xs->Q (.ref s.heap.objs.size) { s with heap:=s.heap.push { cls:= .type (itK k),data:= .fields #[.ref l,.int 0 0] } }->wpAny (model prog w) A (pyIter (.ref l)) Q E s
 | true,h,q=>wpAny_pyIter_list h q
 | false,h,q=>wpAny_pyIter_tuple h q
theorem E4j {h:Heap} {it l:Addr}:∀{k:Bool},h.get? it=some { cls:= .type (itK k),data:= .fields #[.ref l,.int 0 0] }->StK k it l 0 h
 | true,e=>(i06 _ e rfl rfl)
 | false,e=>(i06 _ e rfl rfl)
def D9l (k1 k2:Bool) (z TI TO i1 i2 a b:Addr) (i:Nat) (h:Heap):Prop:=IsZip h z TI TO .none/\IsPair h TI (.ref i1) (.ref i2)/\(∃u v,IsPair h TO u v)/\StK k1 i1 a i h/\StK k2 i2 b i h
abbrev E2m (k1:Bool) (h:Heap) (l1:Addr):Heap:=h.push { cls:= .type (itK k1),data:= .fields #[.ref l1,.int 0 0] }
abbrev E2n (k1 k2:Bool) (h:Heap) (l1 l2:Addr):Heap:=(E2m k1 h l1).push { cls:= .type (itK k2),data:= .fields #[.ref l2,.int 0 0] }
noncomputable abbrev E2h (k1 k2:Bool) (h:Heap) (l1 l2:Addr):Heap:=(E2n k1 k2 h l1 l2).push { cls:= .type "tuple",data:= .seq #[.ref h.objs.size,.ref (E2m k1 h l1).objs.size] }
noncomputable abbrev E2i (k1 k2:Bool) (h:Heap) (l1 l2:Addr):Heap:=(E2h k1 k2 h l1 l2).push { cls:= .type "tuple",data:= .seq #[.none,.none] }
noncomputable abbrev D8k (k1 k2:Bool) (h:Heap) (l1 l2:Addr):Heap:=(E2i k1 k2 h l1 l2).push { cls:= .type "zip",data:= .fields #[.none,.bool false,.bool false,.ref (E2n k1 k2 h l1 l2).objs.size,.ref (E2h k1 k2 h l1 l2).objs.size] }
theorem C5p (k1 k2:Bool) (l1 l2:Addr) (xs ys:Array Value):Meets (Builtin.«zip.__new__» ⟨[.type "zip",.ref l1,.ref l2],[]⟩) (λ_ R s=>SrK k1 s.heap l1 xs/\SrK k2 s.heap l2 ys/\
  R (.ok (.ret (.ref (E2i k1 k2 s.heap l1 l2).objs.size))) { s with heap:=D8k k1 k2 s.heap l1 l2 }) :=
 .of_wp λm w A R s h=>by
  obtain ⟨l,g,d,j,k⟩:=s;obtain ⟨c,a,h⟩:=h;have i:=sub_zip;have f:SrK k1 (Shared.heap ⟨l,g,d,j,k⟩) l1 xs:=c;have b:SrK k2 (Shared.heap ⟨l.push { cls:= .type (itK k1),data:= .fields #[.ref l1,.int 0 0] },g,d,j,k⟩) l2 ys:=(nxK k2 0 l2).mvS a λo e=>Z01 _ e
  wp_walk using D8v f,D8v b
  exact i02 _ rfl h
theorem C7k {k1 k2:Bool} {prog:Program} {w:World} {A:Around} {E:Value->Shared->Prop} {s:Shared} {l1 l2:Addr} {xs ys:Array Value} {Q:Value->Shared->Prop} (f:SrK k1 s.heap l1 xs) (b:SrK k2 s.heap l2 ys)
  (h:∀h',D9l k1 k2 (s.heap.objs.size+4) (s.heap.objs.size+2) (s.heap.objs.size+3) s.heap.objs.size (s.heap.objs.size+1) l1 l2 0 h'->(∀c o,s.heap.get? c=some o->h'.get? c=some o)->Q (.ref (s.heap.objs.size+4)) { s with heap:=h' }) :
  wpAny (model prog w) A (call (.type "zip") [.ref l1,.ref l2]) Q E s:=by
 refine callType_new F.called_zip (by decide) (F.typeCall_zip_2 _ _) (F.newCall_zip_2 _ _) (λi=>F.args_object_init_3 i _ _) F.entry_zip_new (C5p k1 k2 l1 l2 xs ys) (i00 f b ?_);have a:(E2m k1 s.heap l1).objs.size=s.heap.objs.size+1:=Z1s ..;have d:(E2n k1 k2 s.heap l1 l2).objs.size=s.heap.objs.size+2:=by rw [Z1s,a]
 have e:(E2h k1 k2 s.heap l1 l2).objs.size=s.heap.objs.size+3:=by rw [Z1s,d]
 have j:(E2i k1 k2 s.heap l1 l2).objs.size=s.heap.objs.size+4:=by rw [Z1s,e]
 have g:(D8k k1 k2 s.heap l1 l2).get? (E2i k1 k2 s.heap l1 l2).objs.size=some _:=Z0c _ rfl;have k:(D8k k1 k2 s.heap l1 l2).get? (E2h k1 k2 s.heap l1 l2).objs.size=some _:=Z01 _ (Z0c _ rfl);have l:(D8k k1 k2 s.heap l1 l2).get? (E2n k1 k2 s.heap l1 l2).objs.size=some _:=Z01 _ (Z01 _ (Z0c _ rfl));have m:(D8k k1 k2 s.heap l1 l2).get? (E2m k1 s.heap l1).objs.size=some _:=Z01 _ (Z01 _ (Z01 _ (Z0c _ rfl)));have n:(D8k k1 k2 s.heap l1 l2).get? s.heap.objs.size=some _:=Z01 _ (Z01 _ (Z01 _ (Z01 _ (Z0c _ rfl))));show _/\_;rw [d,e,j] at g;rw [a,d] at l;rw [e] at k;rw [a] at m;rw [j];exact ⟨(i02 _ g rfl),h _ (i09 g l (i03 _ _ k) (E4j n) (E4j m)) λc o x=>Z01 _ (Z01 _ (Z01 _ (Z01 _ (Z01 _ x))))⟩
abbrev C1n:= @C7k true false
def Itv (K:Frag) (a:Addr) (n:Nat):It :=
 ⟨λi H=>∃b x,SqL K H a b/\b.length=n/\i<n/\b[n-1-i]? =some x,λi H x c=>c=H/\∀b,SqL K H a b->b[n-1-i]? =some x,λi _=>i=n⟩
theorem D3c {tg:Expr} (a it:Addr) (n:Nat):D4l P w K tg (Itv K a n) [it] it (λi h=>h.IsRevIter it a ((n:Int)-1-(i:Int))) where
 mem:=by simp
 obj:=λi h f b l=>by
  have e:b=it:=by simpa using l
  subst e;obtain ⟨o,e,c,d⟩:=f;exact i02 o e λv z=>by rw [d] at z;cases z
 keep:=λi h q f k=>f.at λo e=>k it (by simp) o e
 item:=by
  intro X G J D M i g s Z H E I m f t;subst G J D;obtain ⟨xs,x,O,hn,N,L⟩:=t;obtain ⟨a0,R,p,hz⟩:=I.list O;obtain ⟨u,S,U⟩:=R.get L;obtain ⟨F,y,f2,A,C,r⟩:=m it (by simp);have B:(n:Int)-1-(i:Int)=((n-1-i:Nat):Int):=by lia
  rw [B] at f;refine wpAny_pyNext_rev_item f p.isList (x:=u) (by simpa using S) λq j Y=> ?_;have I1:Inv X g Z H { s with heap:=q }:=I.turned (t':=s.toks) (λb o l e=>(Y.2 b l).trans e) F y A C r
  have W:((n-1-i:Nat):Int)-1=(n:Int)-1-((i+1:Nat):Int):=by lia
  rw [W] at j;obtain ⟨o,e,c,d⟩:=id j;exact i02 u rfl (C5g (s:={ s with heap:=q }) e c d (by decide) (i0p x H I1 U ⟨rfl,λys T=>by rw [I.list_inj T O];exact L⟩ j λb l=>(m b l).1))
 done:=by
  intro X G J D M i g s Z H E I m f t;subst G J D;have N:i=n:=t;subst N;obtain ⟨F,y,f2,A,C,r⟩:=m it (by simp);have B:(i:Int)-1-(i:Int)= -1:=by lia
  rw [B] at f;exact wpAny_pyNext_rev_end (I.ok.hd M) f λq Q=>⟨rfl,I.turned (t':=s.toks) (λb o l e=>Q b o l e) F y A C r⟩
 self:=λ_ _ _ _ _ f h=>wpAny_pyIter_revIter f h
def iRev (K:Frag) (ta:TA):TI:=λZ H R=>ta Z H λd b=>∃a c,d=[.ref a]/\SqL K b a c/\R (Itv K a c.length) b
theorem C6w {tg:Expr} {a:Expr} {ta:TA} {p:Pos} (n:Gl X "reversed") (t:X.mg "reversed"=none) (x:PA X [a] ta) (r:starEach [a] X.env=[(false,eval a X.env)]:=by rfl) :
  PI X tg (.Call (.Name "reversed" p) [a] [] pos) (iRev X.K ta):=by
 intro d s Z H R I h;refine Call_ (B1t I n t boot_reversed (PyProof.Rows.callWith_type1 (thn (x pos d s Z H _ I h) λC c ⟨D,w,I1,k,z⟩=> ?_) r rfl));obtain ⟨l,f,e,A,q⟩:=z;subst e;obtain ⟨u,rfl,y⟩:=B1p k;cases y;obtain ⟨g,v,m,_⟩:=I1.list A;have j:(g.toArray.size:Int)-1=(f.length:Int)-1-((0:Nat):Int):=by rw [Z0g,<-v.length];lia
 refine call_reversed_list m.isList ?_;rw [j];have i:(c.heap.push (revObj l ((f.length:Int)-1-((0:Nat):Int)))).IsRevIter c.heap.objs.size l ((f.length:Int)-1-((0:Nat):Int)):=(i06 _ (Z0c _ rfl) rfl rfl);refine wpAny_pyIter_revIter (s:={ c with heap:=c.heap.push (revObj l ((f.length:Int)-1-((0:Nat):Int))) }) i ?_;refine i14 _ [c.heap.objs.size] _ _ w rfl (I1.kept (t':=c.toks) λb o e=>Z01 _ e) (D3c l _ f.length) i (λb B=> ?_) q
 have e:b=c.heap.objs.size:=by simpa using B
 subst e;exact I1.fpOk (Z09 _) (I1.hok.fresh (Z09 _))
theorem C0m {xs:List V} (Pv:Nat->St->Hp->Prop) (h:Pv 0 Z H) (j:∀i Z H,Pv i Z H->SqL K H a xs)
  (f:∀i x Z H,i<xs.length->xs[xs.length-1-i]? =some x->Pv i Z H->g x Z H λZ2 H2=>tb { D with nx:=Pv (i+1),ct:=Pv (i+1),bk:=D.nx } Z2 H2) (c:∀Z H,Pv xs.length Z H->D.nx Z H) :
  ∃W:Nat->Nat->St->Hp->Prop,(∃m,W 0 m Z H)/\∀i m Z H,W i m Z H->
   ((Itv K a xs.length).stop i H/\D.nx Z H)\/((Itv K a xs.length).go i H/\∃N:St->Hp->Prop,(∀Z' H',N Z' H'->∃b,b<m/\W (i+1) b Z' H')/\∀x H',(Itv K a xs.length).yld i H x H'->g x Z H' λZ2 H2=>tb { D with nx:=N,ct:=N,bk:=D.nx } Z2 H2):=by
 refine i02 (λi m Z H=>m=xs.length-i/\i<=xs.length/\Pv i Z H) (i06 xs.length (by simp) (Z1e _) h) ?_;rintro i m Z H ⟨rfl,k,p⟩;have q:=j i Z H p;by_cases hlt:i<xs.length
 ·refine .inr (i05 (i0m xs (xs[xs.length-1-i]) q rfl hlt (Z0b _)) (Pv (i+1)) (λZ' H' d=>(i0c (xs.length-(i+1)) (by lia) rfl hlt d)) λx H' y=> ?_);obtain ⟨e,y⟩:=y;subst e;exact f i x Z _ hlt (y xs q) p
 ·have e:i=xs.length:=by lia
  subst e;exact .inl ⟨rfl,c Z H p⟩
structure C8u (X:Cx) (scope:Scope) (cl:List (Str×Addr)):Prop where
 eq:closureFor scope X.env=pure cl
 sub:∀x c,cl.lookup x=some c->X.env.cells.lookup x=some c
 has:∀x,((relabel scope X.env).names.lookup x=some .cell\/(relabel scope X.env).names.lookup x=some .free)->∃c,cl.lookup x=some c
 kind:scope.kind= .function
 ncell:∀y∈scope.names,y.2≠.cell
 names:∀y∈scope.names,y.2= .local->scope.names.lookup y.1=some .local
noncomputable def blk (X:Cx) (N':List Str) (scope:Scope) (cl:List (Str×Addr)) (C:Addr) (s₀:Shared) (H₀:Hp) (fp:List Addr):Cx :=
 { X with N:=N',s₀:=s₀,H₀:=H₀,env:=compEnvC scope cl C X.env,outer:=X.stack,ex:=fp,fn:=λ_=>false,pn:=[],xe:=λ_ _=>False }
def A6q (ix:List (Option Nat)) (Z:St):St:=ix.map λo=>o.bind λj=>(Z[j]?).bind id
section
variable {X:Cx} {pins:List (Addr×Obj)} {Z:St} {H:Hp} {s:Shared} {N':List Str} {scope:Scope} {cl:List (Str×Addr)} {fp:List Addr} {ix:List (Option Nat)}
def D0z (X:Cx) (N':List Str) (scope:Scope) (ix:List (Option Nat)):Prop :=
 ix.length=N'.length/\∀i j:Nat,ix[i]? =some (some j)->∃x,N'[i]? =some x/\X.N[j]? =some x/\(X.env.scope.names.lookup x=some .cell\/X.env.scope.names.lookup x=some .free)/\
  ((relabel scope X.env).names.lookup x=some .cell\/(relabel scope X.env).names.lookup x=some .free)
theorem E0h (I:Inv X pins Z H s) (d:C8u X scope cl) (f:∀b∈fp,C1w X pins H b) (g:∀b∈fp,b<s.heap.objs.size):(blk X N' scope cl s.heap.objs.size s H fp).Ok where
 mod:=I.ok.mod
 kind:=d.kind
 glob:=I.ok.glob
 blt:=I.ok.blt
 above:=Z09 _
 inj:=λx y c i j=>I.ok.inj x y c (d.sub x c i) (d.sub y c j)
 has:=λx h=>d.has x h
 cab:=λx c h=>by cases h
 hd:=I.ok.hd
 frames:=I.ok.frames
 stk:= .inl rfl
 exf:=λb a=>⟨Z0h (g b a),λx c h=>(f b a).2.2.2.2.1 x c (d.sub x c h)⟩
 bs:=I.bs
 bsz:=Z1n I.ok.bsz I.sz
 noex:=λb o e a=>by
  rcases (f b a).2.2.2.1 with z | z
  ·exact I.ok.noex b o e z
  ·exact absurd (Z0q (Z0a (I.ok.bs b o e).1) z) (Nat.lt_irrefl _)
 exfs:=λb a k=>by
  rcases Z0e.mp (I.stkSub b k) with z | z
  ·exact (f b a).2.1 z
  ·exact (f b a).2.2.1 z
 funs:=I.stack
 frf:=I.stkFree
theorem B8d (I:Inv X pins Z H s) (l:C8u X scope cl) (F:D0z X N' scope ix) (f:∀b∈fp,C1w X pins H b) (A:∀b∈fp,b<s.heap.objs.size) {m:Str->Option Value} {t':Nat}
  (K:h'.Ns s.heap.objs.size m) (k:∀b o,s.heap.get? b=some o->h'.get? b=some o):Inv (blk X N' scope cl s.heap.objs.size s H fp) [] (A6q ix Z) H { s with heap:=h',toks:=t' }:=by
 have t:∀x c,cl.lookup x=some c->∃v,s.heap.IsCell c v:=λx c h=>I.cell x c (l.sub x c h);refine ⟨E0h I l f A,rfl,I.bare,Un.kept k,(i02 m K λi x v O d Y=> ?_),λx c e=> ?_,I.hok.fresh (Z09 _),λx c e=>I.freeC x c (l.sub x c e),(λp M=>by cases M),I.hok.kept k,?_⟩
 ·unfold A6q at d;rw [Z1z] at d
  cases hi:ix[i]? with
  | none=>rw [hi] at d;cases d
  | some o =>
   rw [hi] at d
   cases o with
   | none=>cases Z1a d
   | some j =>
    have a:(Z[j]?).bind id=some v:=Z1a d;obtain ⟨n,G,Q,g,D⟩:=F.2 i j hi;have U:n=x:=Z1a (G.symm.trans O);subst U
    have W:Z[j]? =some (some v):=by
     cases q:Z[j]? with
     | none=>rw [q] at a;cases a
     | some w =>
      rw [q] at a;exact congrArg some a
    obtain ⟨E,_,N⟩:=I.loc;obtain ⟨u,R,P⟩:=N j n v Q W (g.elim (λz=> .inr (.inl z)) λz=> .inr (.inr z));refine i02 u R (.inr ⟨D,?_⟩);obtain ⟨c,C⟩:=l.has n D;refine i02 c C ?_;rcases P with ⟨z,_⟩ | ⟨_,L,B,S⟩
    ·exfalso;have J:X.env.scope.names.lookup n=some .local:=z;rcases g with g | g <;> (rw [J] at g;cases g)
    ·have T:L=c:=Z1a (B.symm.trans (l.sub n c C));subst T;obtain ⟨o,y,r⟩:=S;exact i02 o (k _ _ y) r
 ·obtain ⟨v,o,y,r⟩:=t x c e;exact i07 v o (k _ _ y) r
 ·unfold A6q;rw [Z08];exact F.1
theorem C8x (I:Inv X pins Z H s) (f:∀b∈fp,C1w X pins H b) {Z':St} {s':Shared} {pl:List (Addr×Obj)} (J:Inv (blk X N' scope cl s.heap.objs.size s H fp) pl Z' H' s') (g:Heap.SameBut s.heap.objs.size s'.heap h') :
  Inv X pins Z H' { s' with heap:=h' }:=by
 have h:∀b o,s.heap.get? b=some o->b≠s.heap.objs.size:=λb o e=>Z0h (Z0a e);have j:H' s.heap.objs.size=none:=J.free;have u:Un (frs X.stack) fp H H' s.heap s'.heap:=J.base
 refine I.call' (ch:=fp) (s':={ s' with heap:=h' }) J.os ⟨λb o e n a d=>(g.2 b (h b o e)).trans (u.keep b o e n a d),λb o e n a d=> ?_,u.free,λb o e d=> ?_,u.tups,u.frzs,u.tbls⟩ (λb o e=> ?_) J.bare
  (λb a=>(i04 ((f b a).2.2.2.1) ((f b a).2.1) ((f b a).2.2.2.2.1) ((f b a).2.2.2.2.2)))
 ·obtain ⟨k,q⟩:=u.slot b o e n a d;exact ⟨k,(g.2 b (h b o e)).trans q⟩
 ·obtain ⟨l,q⟩:=u.there b o e d;exact ⟨l,(g.2 b (h b o e)).trans q⟩
 ·refine (J.hok b o e).stay (λc v i q=>(g.2 c ?_).trans q) (λc q=>q) λc m q=>q;rcases i with rfl | i
  ·exact A0z e j
  ·exact A0z i j
end
def A2w:St->St->Prop
 | [],_=>True
 | none::r,_::r'=>A2w r r'
 | none::r,[]=>A2w r []
 | some v::r,w::r'=>w=some v/\A2w r r'
 | some _::_,[]=>False
theorem A2w.get:∀{a b:St},A2w a b->∀(j:Nat) v,a[j]? =some (some v)->b[j]? =some (some v)
 | [],_,_,_,_,e=>by simp at e
 | none::r,_::r',h,0,v,e=>by simp at e
 | none::r,_::r',h,j+1,v,e=>by simpa using A2w.get (a:=r) (b:=r') h j v (by simpa using e)
 | none::r,[],h,0,v,e=>by simp at e
 | none::r,[],h,j+1,v,e=>by have:=A2w.get (a:=r) (b:=[]) h j v (by simpa using e);simp at this
 | some w::r,_::r',h,0,v,e=>by
  have c:w=v:=by simpa using e
  subst c
  simpa using h.1
 | some _::r,_::r',h,j+1,v,e=>by simpa using A2w.get (a:=r) (b:=r') h.2 j v (by simpa using e)
section
variable {X:Cx}
def E0g (ix:List (Option Nat)) (wi:TI) (g:TG) (te:TE):TE:=λZ H Q=>wi Z H λJ f=>∀D,f D=none->∃W:Nat->Nat->Hp->Prop,(∃m,W 0 m (upd f D (.lst [])))/\∀i m a,W i m a->
 (J.stop i a/\Q (.ref D) a)\/(J.go i a/\∃N:VK,(∀y b,N y b->∃c,b D=some (.lst c)/\c.length<sizeLine/\∃e,e<m/\W (i+1) e (upd b D (.lst (c++[y]))))/\∀x d,J.yld i a x d->g x (A6q ix Z) d λZ4 h=>A2w (A6q ix Z) Z4/\te Z4 h N)
end
section
variable {X:Cx} {m:Str} {pos apos:Pos} {e o:Expr} {es:List Expr} {ta:TE} {t:TA}
def D8x (X:Cx) (m:Str) (ta:TE) (t:TA):TE:=λZ H Q=>ta Z H λx e=>∃(a C h:Addr) (c:List (Str×V)) (k:Nat) (f:Addr) (g:FuncData) (d:List Str) (b:Sp),x= .ref a/\e a=some (.ins C h c)/\Cls X.K C/\C2o X.K C m f/\c.lookup m=none/\
 A3i X.prog X.w X.K X.mg X.base CX0 k f g d b/\B0r k X.A/\A9b X.K g d []/\t Z e λj i=>b (x::j) i Q E0
theorem B6d {pl:Sem Bool} (A:PE X o ta) (B:PA X (e::es) t)
  (d:starEach (e::es) X.env=(false,eval e X.env)::starEach es X.env:=by rfl) (g:(backTo pos (starEach es X.env)).any (·.1)=false:=by rfl)
  (n:eval (.Call (.Attribute o m apos) (e::es) [] pos) X.env=(do
   let ov<-eval o X.env
   standAt apos.atName
   let (f,first)<-holding [ov] (getMethod ov m pl)
   callWith pos f first (backTo pos (starEach (e::es) X.env)) (backToKw pos (keywordEach [] X.env))):=by rfl) :
  PE X (.Call (.Attribute o m apos) (e::es) [] pos) (D8x X m ta t):=by
 intro b s Z H Q I h;refine PySem.W.methodCall_KW (pl:=pl) (thn (A b s Z H _ I h) ?_) n;rintro u v j;refine e0b j ?_;clear j;rintro x z I1 y a C O ⟨K,k,f,M,L,N,G,w,c,i,l,F,J,D,q⟩;subst G;obtain rfl:u=Value.ref a:=y;refine B1d I1 w c i l ?_;refine PySem.W.callWith_K (first:=[.ref a]) (h₀:=X.base) I.ok.mod.kin i.kp (thn (B pos b v Z z _ I1 q) λus R ⟨vs,P,I2,r,p⟩=>⟨I2.kIn,?_⟩) d g;exact C3k (us:= .ref a::us) (vs:= .ref a::vs) (dvs:=[]) F J D .nil B6p I2 (.cons rfl r) (by rw [Z0u];exact p)
end
mutual
inductive Rep (H:Hp):V->PyData->Prop
 | non:Rep H .non .none
 | bl (b:Bool):Rep H (.bl b) (.bool b)
 | int (i:Int):Rep H (.int i) (.int i)
 | str (x:Str):Rep H (.str x) (.str x)
 | lst {p:Addr} {xs:List V} {ds:List PyData}:H p=some (.lst xs)->A5c H xs ds->Rep H (.ref p) (.list ds)
 | tup {p:Addr} {xs:List V} {ds:List PyData}:H p=some (.tup xs)->A5c H xs ds->Rep H (.ref p) (.tuple ds)
inductive A5c (H:Hp):List V->List PyData->Prop
 | nil:A5c H [] []
 | cons {v:V} {vs:List V} {d:PyData} {ds:List PyData}:Rep H v d->A5c H vs ds->A5c H (v::vs) (d::ds)
end
mutual
theorem Rep.imp {H H':Hp} (f:∀p o,H p=some o->H' p=some o):∀{v:V} {d:PyData},Rep H v d->Rep H' v d
 | _,_,.non=> .non
 | _,_,.bl b=> .bl b
 | _,_,.int i=> .int i
 | _,_,.str x=> .str x
 | _,_,.lst e r=> .lst (f _ _ e) (A5c.imp f r)
 | _,_,.tup e r=> .tup (f _ _ e) (A5c.imp f r)
theorem A5c.imp {H H':Hp} (f:∀p o,H p=some o->H' p=some o):∀{vs:List V} {ds:List PyData},A5c H vs ds->A5c H' vs ds
 | _,_,.nil=> .nil
 | _,_,.cons a r=> .cons (Rep.imp f a) (A5c.imp f r)
end
theorem Rep.same {d:PyData} (h:Rep H v d) (s:A0u H H'):Rep H' v d:=h.imp s
theorem A5c.same {v:List V} {d:List PyData} (h:A5c H v d) (s:A0u H H'):A5c H' v d:=h.imp s
theorem A5c.len {H:Hp}:∀{vs:List V} {ds:List PyData},A5c H vs ds->vs.length=ds.length
 | _,_,.nil=>rfl
 | _,_,.cons _ r=>by rw [Z0y,Z0y,A5c.len r]
theorem A5c.snoc {H:Hp} {v:V} {d:PyData} (a:Rep H v d):∀{vs:List V} {ds:List PyData},A5c H vs ds->A5c H (vs++[v]) (ds++[d])
 | _,_,.nil=> .cons a .nil
 | _,_,.cons b r=> .cons b (A5c.snoc a r)
theorem A5c.strs {H:Hp}:∀xs:List Str,A5c H (xs.map V.str) (xs.map PyData.str)
 | []=> .nil
 | x::r=> .cons (.str x) (A5c.strs r)
section
variable {X:Cx} {pins:List (Addr×Obj)} {Z:St} {H:Hp} {s:Shared}
mutual
theorem A8m (I:Inv X pins Z H s):∀{v:V} {d:PyData} {u:Value},Rep H v d->A3c v u->∃as,Reads s.heap u d as
 | _,_,u,.non,r=>by cases (show u=Value.none from r);exact ⟨_,.none⟩
 | _,_,u,.bl b,r=>by cases (show u=Value.bool b from r);exact ⟨_,.bool b⟩
 | _,_,u,.int i,r=>by obtain ⟨t,q⟩:=(show∃t,u=Value.int i t from r);cases q;exact ⟨_,.int i t⟩
 | _,_,u,.str x,r=>by obtain ⟨t,q⟩:=(show∃t,u=Value.str x t from r);cases q;exact ⟨_,.str x t⟩
 | _,_,u,@Rep.lst _ p xs ds e q,r=>by
  cases (show u=Value.ref p from r)
  obtain ⟨_,f,n,a,c⟩:=(show A2q X.prog X.w H s.heap p (.lst xs) from I.hok p _ e);obtain ⟨as,z⟩:=B1c I q a;exact ⟨_,Reads.list c rfl rfl (by simpa using z)⟩
 | _,_,u,@Rep.tup _ p xs ds e q,r=>by
  cases (show u=Value.ref p from r)
  obtain ⟨_,f,a,o,c,h,n,g⟩:=(show A2q X.prog X.w H s.heap p (.tup xs) from I.hok p _ e);obtain ⟨as,z⟩:=B1c I q a;exact ⟨_,Reads.tuple c h g (by simpa using z)⟩
theorem B1c (I:Inv X pins Z H s):∀{vs:List V} {ds:List PyData} {us:List Value},A5c H vs ds->A3z vs us->∃as,ReadsAll s.heap us ds as
 | _,_,_,.nil,.nil=>⟨_,.nil⟩
 | _,_,_,.cons a r,.cons q rv=>by
  obtain ⟨as,z⟩:=A8m I a q;obtain ⟨b,y⟩:=B1c I r rv;exact ⟨_,.cons z y⟩
end
end
def rEqD (a:Bool):R2:=λx y H Q=>∃d e,Rep H x d/\Rep H y e/\SeqAt.shaped d=true/\SeqAt.shaped e=true/\Q (.bl (if a then ! PyData.eqv d e else PyData.eqv d e)) H
section
variable {X:Cx}
theorem E0b (l:X.A.units+64<cLine):OpR X (compareOp .Eq) (rEqD false):=by
 intro a s Z H x y v u Q I k i h;obtain ⟨d,e,b,m,j,f,q⟩:=h;obtain ⟨o,c⟩:=A8m I b k;obtain ⟨n,g⟩:=A8m I m i;exact eq_dataH c g j f l (i0f (.bl (PyData.eqv d e)) H I rfl q)
def rSlS:V->Option Int->Option Int->Hp->VK->Prop:=λx a b H Q=>∃z,x= .str z/\z.length<=sizeLine/\Q (.str (Txt.slice z a b)) H
theorem D4k:SlR X rSlS:=by
 intro a s Z H x v y B o n A Q I r p w m h;obtain ⟨z,rfl,c,q⟩:=h;obtain ⟨t,rfl⟩:=(show∃t,v=Value.str z t from r);refine i0f "str" _ F.slot_str_getitem.lookup (typeIs_str _ _ _) ?_;obtain ⟨e,d,f,b⟩:=p;have fin:∀g k,EP X a Z Q (.str (Txt.slice z o n) g) { s with toks:=k }:=λg k=>(i0f (.str (Txt.slice z o n)) H (I.tok k) ⟨g,rfl⟩ q)
 cases w with
 | none =>
  cases m with
  | none=>exact wpAny_getItem_str_slice (l:=none) (u:=none) (st:=none) (i06 e d f b) rfl (post_val_or_str ⟨Z1n (Txt.slice_le z _ _) c,fin⟩)
  | int j uj=>exact wpAny_getItem_str_slice (l:=none) (u:=some (j,uj)) (st:=none) (i06 e d f b) rfl (post_val_or_str ⟨Z1n (Txt.slice_le z _ _) c,fin⟩)
 | int i ui =>
  cases m with
  | none=>exact wpAny_getItem_str_slice (l:=some (i,ui)) (u:=none) (st:=none) (i06 e d f b) rfl (post_val_or_str ⟨Z1n (Txt.slice_le z _ _) c,fin⟩)
  | int j uj=>exact wpAny_getItem_str_slice (l:=some (i,ui)) (u:=some (j,uj)) (st:=none) (i06 e d f b) rfl (post_val_or_str ⟨Z1n (Txt.slice_le z _ _) c,fin⟩)
def E2x:V->List V->Hp->VK->Prop:=λx a H Q=>∃z y,x= .str z/\a=[.str y]/\Q (.int (Txt.find z y)) H
theorem D7r:MtR X "str.find" E2x:=by
 intro a s Z H x f v e Q I c d h;obtain ⟨z,y,rfl,rfl,q⟩:=h;obtain ⟨t,rfl⟩:=(show∃t,v=Value.str z t from c);obtain ⟨u,rfl,b⟩:=B1p d;obtain ⟨g,rfl⟩:=(show∃t,u=Value.str y t from b);exact SC.find (i0f (.int (Txt.find z y)) H (I.tok _) ⟨_,rfl⟩ q)
end
theorem A3a (j:scope.kind= .function) (d:∀y∈scope.names,y.2≠.free/\y.2≠.cell) (m:∀y∈scope.names,y.2= .local->scope.names.lookup y.1=some .local):C8u X scope [] where
 eq:=closureFor_none λy b=>(d y b).1
 sub:=λx c h=>by cases h
 has:=λx h=>by
  exfalso
  have e:(relabel scope X.env).names=scope.names:=map_eq_self λy b=>by
   obtain ⟨n,k⟩:=y;have z:=(d _ b).1;have i:(k == NameKind.free)=false:=by simpa using z
   simp [i]
  rw [e] at h
  have f:∀{k:NameKind},scope.names.lookup x=some k->(x,k)∈scope.names:=λ{k} q=>by
   generalize scope.names=l at q
   induction l with
   | nil=>cases q
   | cons a r ih =>
    obtain ⟨n,o⟩:=a;rw [Z28] at q;split at q
    ·rename_i hb;have g:x=n:=by simpa using hb
     cases q
     subst g;exact .head _
    ·exact .tail _ (ih q)
  rcases h with h | h
  ·exact (d _ (f h)).2 rfl
  ·exact (d _ (f h)).1 rfl
 kind:=j
 ncell:=λy b=>(d y b).2
 names:=m
theorem A2z (h:n=N'.length):D0z X N' scope (List.replicate n none):=⟨by rw [List.length_replicate];exact h,λi j e=>by
 rw [List.getElem?_replicate] at e
 split at e <;> cases e⟩
section
variable {K:Frag} {a D:Addr} {xs:List V} {g:TG} {te:TE} {Q:VK} {Z₀:St} {H:Hp}
theorem D0l (Pv:Nat->List V->Hp->Prop) (j:Pv 0 [] (upd H D (.lst []))) (k:∀i ys H,Pv i ys H->SqL K H a xs)
  (h:∀i x ys H,xs[i]? =some x->Pv i ys H->g x Z₀ H λZ4 H4=>A2w Z₀ Z4/\te Z4 H4 λy b=>b D=some (.lst ys)/\ys.length<sizeLine/\Pv (i+1) (ys++[y]) (upd b D (.lst (ys++[y])))) (f:∀ys H,Pv xs.length ys H->Q (.ref D) H) :
  ∃W:Nat->Nat->Hp->Prop,(∃m,W 0 m (upd H D (.lst [])))/\∀i m H2,W i m H2->
   ((Itl K a).stop i H2/\Q (.ref D) H2)\/((Itl K a).go i H2/\∃N:VK,(∀y b,N y b->∃xs,b D=some (.lst xs)/\xs.length<sizeLine/\∃d,d<m/\W (i+1) d (upd b D (.lst (xs++[y]))))/\
    ∀x c,(Itl K a).yld i H2 x c->g x Z₀ c λZ4 H4=>A2w Z₀ Z4/\te Z4 H4 N):=by
 refine i02 (λi m H=>m=xs.length-i/\i<=xs.length/\∃ys,Pv i ys H) (i0d xs.length (by simp) (Z1e _) [] j) ?_;rintro i m H2 ⟨rfl,l,ys,p⟩;have q:=k i ys H2 p;by_cases hlt:i<xs.length
 ·refine .inr (i05 (i07 xs (xs[i]) q (by simp [hlt])) (λy b=>b D=some (.lst ys)/\ys.length<sizeLine/\Pv (i+1) (ys++[y]) (upd b D (.lst (ys++[y])))) (λy b n=>(i0v ys n.1 n.2.1 (xs.length-(i+1)) (by lia) rfl hlt _ n.2.2)) λx c z=> ?_);obtain ⟨e,z⟩:=z;subst e;exact h i x ys _ (z xs q) p
 ·have e:i=xs.length:=by lia
  subst e;exact .inl ⟨(i02 xs q (Z09 _)),f ys H2 p⟩
theorem D2x (Pv:Nat->List V->Hp->Prop) (j:Pv 0 [] (upd H D (.lst []))) (k:∀i ys H,Pv i ys H->SqT K H a xs)
  (h:∀i x ys H,xs[i]? =some x->Pv i ys H->g x Z₀ H λZ4 H4=>A2w Z₀ Z4/\te Z4 H4 λy b=>b D=some (.lst ys)/\ys.length<sizeLine/\Pv (i+1) (ys++[y]) (upd b D (.lst (ys++[y])))) (f:∀ys H,Pv xs.length ys H->Q (.ref D) H) :
  ∃W:Nat->Nat->Hp->Prop,(∃m,W 0 m (upd H D (.lst [])))/\∀i m H2,W i m H2->
   ((Itt K a).stop i H2/\Q (.ref D) H2)\/((Itt K a).go i H2/\∃N:VK,(∀y b,N y b->∃xs,b D=some (.lst xs)/\xs.length<sizeLine/\∃d,d<m/\W (i+1) d (upd b D (.lst (xs++[y]))))/\
    ∀x c,(Itt K a).yld i H2 x c->g x Z₀ c λZ4 H4=>A2w Z₀ Z4/\te Z4 H4 N):=by
 refine i02 (λi m H=>m=xs.length-i/\i<=xs.length/\∃ys,Pv i ys H) (i0d xs.length (by simp) (Z1e _) [] j) ?_;rintro i m H2 ⟨rfl,l,ys,p⟩;have q:=k i ys H2 p;by_cases hlt:i<xs.length
 ·refine .inr (i05 (i07 xs (xs[i]) q (by simp [hlt])) (λy b=>b D=some (.lst ys)/\ys.length<sizeLine/\Pv (i+1) (ys++[y]) (upd b D (.lst (ys++[y])))) (λy b n=>(i0v ys n.1 n.2.1 (xs.length-(i+1)) (by lia) rfl hlt _ n.2.2)) λx c z=> ?_);obtain ⟨e,z⟩:=z;subst e;exact h i x ys _ (z xs q) p
 ·have e:i=xs.length:=by lia
  subst e;exact .inl ⟨(i02 xs q (Z09 _)),f ys H2 p⟩
end
abbrev TJ:=St->Hp->Str->(Str->Hp->Prop)->Prop
def PJ (X:Cx) (es:List Expr) (t:TJ):Prop :=
 ∀(a:List (Addr×Obj)) (s:Shared) (Z:St) (H:Hp) (b:Str) (Q:Str->Hp->Prop),Inv X a Z H s->t Z H b Q->wpAny (model X.prog X.w) X.A (joinParts b (evalEach es X.env)) (EP X a Z λv c=>∃z,v= .str z/\Q z c) X.xe s
def FmtV (x:V) (y:Str):Prop:=(x= .str y/\y.length<=sizeLine)\/∃i:Int,x= .int i/\i.natAbs.log2<1920/\y=(toString i:Str)
def E3c:TJ:=λ_ H a Q=>a.length<=sizeLine/\Q a H
def E2a (te:TE) (tr:TJ):TJ:=λZ H a Q=>te Z H λx b=>∃y,FmtV x y/\(a++y).length<=sizeLine/\tr Z b (a++y) Q
def E3q (x:Str) (tr:TJ):TJ:=λZ H a Q=>(a++x).length<=sizeLine/\tr Z H (a++x) Q
section
variable {X:Cx} {e:Expr} {es:List Expr} {te:TE} {tr:TJ} {pos p2:Pos}
theorem E1t:PJ X [] E3c:=λb s Z H a Q I h=>joinParts_nil (i0q (.str a) H (I.tok _) ⟨_,rfl⟩ a rfl h.2) h.1
theorem E0l (o:PE X e te) (g:PJ X es tr) (m:evalEach (.FormattedValue e (-1) none pos::es) X.env=eval (.FormattedValue e (-1) none pos) X.env::evalEach es X.env:=by rfl):PJ X (.FormattedValue e (-1) none pos::es) (E2a te tr):=by
 intro a s Z H n Q I h;rw [m];refine joinParts_cons (FormattedValue_plain (thn (o a s Z H _ I h) ?_));rintro v p ⟨x,d,I1,c,y,f,b,q⟩;rcases f with ⟨rfl,k⟩ | ⟨i,rfl,l,rfl⟩
 ·obtain ⟨t,rfl⟩:=(show∃t,v=Value.str y t from c);exact formatField_str (λr j=>⟨b,g a _ Z d _ Q (I1.tok j) q⟩) k
 ·obtain ⟨t,rfl⟩:=(show∃t,v=Value.int i t from c);exact formatField_int_small l ⟨b,g a _ Z d _ Q (I1.tok _) q⟩
theorem E1k {j:Nat} (f:PJ X es tr) (c:evalEach (.Constant (.str x) j pos::es) X.env=eval (.Constant (.str x) j pos) X.env::evalEach es X.env:=by rfl):PJ X (.Constant (.str x) j pos::es) (E3q x tr):=by
 intro a s Z H e Q I h;rw [c];refine joinParts_cons (thn (A1w a s Z H (λv l=>v= .str x/\l=H) I ⟨rfl,rfl⟩) ?_);rintro v d ⟨y,i,I1,g,b,k⟩;subst b k;obtain ⟨t,rfl⟩:=(show∃t,v=Value.str x t from g);exact ⟨h.1,f a d Z i _ Q I1 h.2⟩
def E3j (a:TJ):TE:=λZ H Q=>a Z H Str.empty λz b=>Q (.str z) b
theorem D5j {a b:Expr} {d:TJ} (h:PJ X (a::b::es) d) (e:evalEach (a::b::es) X.env=eval a X.env::eval b X.env::evalEach es X.env:=by rfl):PE X (.JoinedStr (a::b::es) pos) (E3j d):=by
 intro c s Z H Q I g;refine JoinedStr_many ?_;rw [<-e];exact thn (h c s Z H _ _ I g) (by rintro u k ⟨v,i,I1,j,z,f,q⟩;subst f;exact i0f (.str z) i I1 j q)
end
theorem A7e {x:Str} {k:NameKind}:∀{l:List (Str×NameKind)},l.lookup x=some k->(x,k)∈l
 | [],q=>by cases q
 | (n,k')::r,q=>by
  rw [Z28] at q;split at q
  ·rename_i hb;have a:x=n:=by simpa using hb
   cases q
   subst a;exact .head _
  ·exact .tail _ (A7e q)
theorem A7k {c:Addr} (u:closureFor scope X.env=pure [(x,c)]) (t:X.env.cells.lookup x=some c) (a:scope.kind= .function) (f:∀y∈scope.names,y.2≠.cell/\(y.2= .free->y.1=x))
  (s:∀y∈scope.names,y.2= .local->scope.names.lookup y.1=some .local):C8u X scope [(x,c)] where
 eq:=u
 sub:=λy d h=>by
  rw [Z28] at h;split at h
  ·rename_i j;have g:y=x:=by simpa using j
   cases h
   subst g;exact t
  ·cases h
 has:=λy h=>by
  have b:y=x:=by
   have m:∃k,(y,k)∈(relabel scope X.env).names/\(k= .cell\/k= .free):=h.elim (λz=>(i02 _ (A7e z) (.inl rfl))) λz=>(i02 _ (A7e z) (.inr rfl));obtain ⟨k,r,a⟩:=m;obtain ⟨⟨n,i⟩,l,e⟩:=Z2c.mp r;dsimp only at e;by_cases hf:i= .free
   ·have o:n=y:=by
     split at e
     ·exact congrArg Prod.fst e
     ·exact congrArg Prod.fst e
    rw [<-o];exact (f _ l).2 hf
   ·have j:(i == NameKind.free)=false:=by simpa using hf
    simp only [j,Bool.false_and,Bool.false_eq_true,if_false] at e;have q:i=k:=congrArg Prod.snd e;subst q;rcases a with a | a
    ·exact absurd a (f _ l).1
    ·exact absurd a hf
  subst b;exact ⟨c,by simp [Z28]⟩
 kind:=a
 ncell:=λy p=>(f y p).1
 names:=s
theorem A5q {N0:List Str} {j:Nat} (b:X.N[j]? =some x) (h1:X.env.scope.names.lookup x=some .cell\/X.env.scope.names.lookup x=some .free)
  (h2:(relabel scope X.env).names.lookup x=some .cell\/(relabel scope X.env).names.lookup x=some .free):D0z X (N0++[x]) scope (List.replicate N0.length none++[some j]):=by
 refine ⟨by simp,λi k e=> ?_⟩;by_cases hi:i<N0.length
 ·rw [Z26 (by simpa using hi),List.getElem?_replicate] at e;split at e <;> cases e
 ·have a:i=N0.length:=by
   have:=(Z03.mp e).1;simp at this
   lia
  subst a;rw [Z1l (by simp)] at e;have c:j=k:=by simpa using e
  subst c;exact i0c x (by simp) b h1 h2
def E1a (lo c:Int) (n:Nat):It:=⟨λi _=>i<n,λi H x a=>a=H/\x= .int (lo+i*c),λi _=>i=n⟩
theorem C1v {tg:Expr} (it:Addr) (lo c:Int) (n:Nat):D4l P w K tg (E1a lo c n) [it] it (λi h=>IsRangeIter h it (lo+(i:Nat)*c) ((n:Int)-(i:Nat)) c) where
 mem:=by simp
 obj:=λi h a b f=>by
  have e:b=it:=by simpa using f
  subst e;exact i02 _ a λv z=>by cases (show Data.fields _=Data.cell v from z)
 keep:=λi h l a k=>k it (by simp) _ a
 item:=by
  intro X F G C x i d s Z H E I j a q;subst F G C;obtain ⟨D,r,L,u,B,m⟩:=j it (by simp);have W:=Walks.range (prog:=X.prog) (w:=X.w) (I.ok.hd x) it lo c n;refine W.item i s _ _ q a λv l y J g p=> ?_;obtain ⟨t,rfl⟩:=J;have I1:Inv X d Z H { s with heap:=l,toks:=y }:=I.turned (λb o f e=>p b o (by simpa using f) e) D r u B m
  exact i02 _ rfl (C5g (s:={ s with heap:=l,toks:=y }) (n:="range_iterator") g rfl rfl (by decide) (i0p (.int (lo+i*c)) H I1 ⟨t,rfl⟩ ⟨rfl,rfl⟩ g λb f=>(j b f).1))
 done:=by
  intro X F G C x i d s Z H E I j a q;subst F G C;obtain ⟨D,r,L,u,B,m⟩:=j it (by simp);have W:=Walks.range (prog:=X.prog) (w:=X.w) (I.ok.hd x) it lo c n;have e:i=n:=q;subst e;exact W.done s _ _ a λl y p=>⟨rfl,I.turned (λb o f e=>p b o (by simpa using f) e) D r u B m⟩
 self:=λA i s Q E a h=>wpAny_pyIter_rangeiter a h
def E2u (ta:TA):TI:=λZ H R=>ta Z H λe d=>∃a b c:Int,e=[.int a,.int b,.int c]/\(0<=a/\a<=1000000/\-1000000<=b/\b<=1000000/\0<c/\c<=1000000)/\R (E1a a c (Builtin.Range.rangeSize a b c).toNat) d
theorem D5g {a b c:Int} (h:0<=a/\a<=1000000/\-1000000<=b/\b<=1000000/\0<c/\c<=1000000):0<=Builtin.Range.rangeSize a b c/\Builtin.Range.rangeSize a b c<=1000000:=by
 unfold Builtin.Range.rangeSize;rw [Z12 h.2.2.2.2.1];split
 ·have e:0<=(b-a-1)/c:=Int.ediv_nonneg (by lia) (by lia);have d:(b-a-1)/c<=b-a-1:=Int.ediv_le_self _ (by lia)
  lia
 ·lia
theorem D9c {a b c:Int} (h:0<=a/\a<=1000000/\-1000000<=b/\b<=1000000/\0<c/\c<=1000000):Builtin.Range.small a b c=true:=by
 obtain ⟨e,d⟩:=D5g h;unfold Builtin.Range.small;simp only [Builtin.Range.rangeFitsLong,Z1x,Bool.or_eq_true,decide_eq_true_eq,beq_iff_eq,Z12 h.2.2.2.2.1]
 lia
theorem B9y {tg:Expr} {a b c:Expr} {ta:TA} {p:Pos} (x:Gl X "range") (z:X.mg "range"=none) (B:PA X [a,b,c] ta) (y:starEach [a,b,c] X.env=[(false,eval a X.env),(false,eval b X.env),(false,eval c X.env)]:=by rfl)
  (l:starEach [b,c] X.env=[(false,eval b X.env),(false,eval c X.env)]:=by rfl):PI X tg (.Call (.Name "range" p) [a,b,c] [] pos) (E2u ta):=by
 intro g s Z H R I h;refine Call_ (B1t I x z boot_range (PyProof.Rows.callWith_type1 (thn (B pos g s Z H _ I h) ?_) (by rw [y,l]) (by rw [l];rfl)));rintro F f ⟨G,n,I1,w,D⟩;obtain ⟨i,j,k,e,m,q⟩:=D;subst e
 cases w with
 | cons r rr =>
  cases rr with
  | cons r' rr =>
   cases rr with
   | cons r'' rr =>
    cases rr
    obtain ⟨t,rfl⟩:=r;obtain ⟨t',rfl⟩:=r';obtain ⟨d,rfl⟩:=r'';refine call_range_3 (by lia) ?_ (.inl (PyProof.noPylong_small (by lia)));have I2:Inv X g Z n { f with heap:=f.heap.push { cls:= .type "range",data:= .fields #[.int i t,.int j t',.int k d] },toks:=f.toks }:=I1.kept λb o e=>Z01 _ e
    refine wpAny_pyIter_range (t:=t) (u:=t') (v:=d) (s:={ f with heap:=f.heap.push { cls:= .type "range",data:= .fields #[.int i t,.int j t',.int k d] },toks:=f.toks }) (Z0c _ rfl) (D9c m) ?_;have A:i+((0:Nat):Int)*k=i:=by simp
    have C:(((Builtin.Range.rangeSize i j k).toNat:Nat):Int)-((0:Nat):Int)=Builtin.Range.rangeSize i j k:=by have:=(D5g m).1;lia
    refine i14 _ [(f.heap.push { cls:= .type "range",data:= .fields #[.int i t,.int j t',.int k d] }).objs.size] _ _ n rfl (I2.kept (t':=f.toks) λb o e=>Z01 _ e) (C1v _ i k _) ?_ (λb m=> ?_) q
    ·show IsRangeIter _ _ (i+((0:Nat):Int)*k) _ k;rw [A,C];exact Z0c _ rfl
    ·have e:b=(f.heap.push { cls:= .type "range",data:= .fields #[.int i t,.int j t',.int k d] }).objs.size:=by simpa using m
     subst e;exact I2.fpOk (Z09 _) (I2.hok.fresh (Z09 _))
theorem C5t {lo c:Int} (Pv:Nat->St->Hp->Prop) (f:Pv 0 Z H)
  (h:∀i Z H,i<n->Pv i Z H->g (.int (lo+i*c)) Z H λZ2 H2=>tb { D with nx:=Pv (i+1),ct:=Pv (i+1),bk:=D.nx } Z2 H2) (b:∀Z H,Pv n Z H->D.nx Z H) :
  ∃W:Nat->Nat->St->Hp->Prop,(∃m,W 0 m Z H)/\∀i m Z H,W i m Z H->
   ((E1a lo c n).stop i H/\D.nx Z H)\/((E1a lo c n).go i H/\∃N:St->Hp->Prop,(∀Z' H',N Z' H'->∃a,a<m/\W (i+1) a Z' H')/\∀x H',(E1a lo c n).yld i H x H'->g x Z H' λZ2 H2=>tb { D with nx:=N,ct:=N,bk:=D.nx } Z2 H2):=by
 refine i02 (λi m Z H=>m=n-i/\i<=n/\Pv i Z H) (i06 n (by simp) (Z1e _) f) ?_;rintro i m Z H ⟨rfl,j,p⟩;by_cases hlt:i<n
 ·refine .inr (i05 hlt (Pv (i+1)) (λZ' H' d=>(i0c (n-(i+1)) (by lia) rfl hlt d)) λx H' y=> ?_);obtain ⟨e,rfl⟩:=y;subst e;exact h i Z _ hlt p
 ·have e:i=n:=by lia
  subst e;exact .inl ⟨rfl,b Z H p⟩
theorem A0o {o:HO} (s:A0u H H') (a:H l=none):A0u H (upd H' l o):=λb u e=>by
 rw [A0i (A0z e a)];exact s b u e
theorem A0e {o:HO} (a:H l=none):A0u H (upd H l o):=A0o (A0u.refl H) a
theorem A2f {x dx:Addr} {o v:HO} (a:H x=none) (b:H dx=none):A0u H (upd (upd (upd H dx o) x u) x v):=A0o (A0o (A0e b) a) a
theorem A2a (h:n<=1000000):n<=sizeLine:=by rw [sizeLine_eq];lia
theorem A1l (h:n<=1000000):n<sizeLine:=by rw [sizeLine_eq];lia
noncomputable def A0s (S:Addr->Prop) (H:Hp):Hp:=λa=> @ite _ (S a) (Classical.propDecidable _) (H a) none
theorem C3h (h:S a):A0s S H a=H a:=by unfold A0s;rw [Z12 h]
theorem D0s (h:¬S a):A0s S H a=none:=by unfold A0s;rw [Z0t h]
theorem A0l {o:HO} (h:A0s S H a=some o):S a/\H a=some o:=by
 by_cases hs:S a
 ·rw [C3h hs] at h;exact ⟨hs,h⟩
 ·rw [D0s hs] at h;cases h
theorem A0h {o:HO} (b:S a) (h:H a=some o):A0s S H a=some o:=by rw [C3h b];exact h
theorem A0m:A0u (A0s S H) H:=λ_ _ e=>(A0l e).2
theorem A0g (s:A0u H H'):A0u (A0s S H) (A0s S H'):=λb o e=>A0h (A0l e).1 (s _ _ (A0l e).2)
theorem A2x {S':Addr->Prop} (s:A0u H H') (h:∀a o,H a=some o->S a->S' a):A0u (A0s S H) (A0s S' H'):=λb o e=>A0h (h _ _ (A0l e).2 (A0l e).1) (s _ _ (A0l e).2)
theorem A2i {o:HO} (s:A0u (A0s S H) (A0s S H')) (h:¬S l):A0u (A0s S H) (A0s S (upd H' l o)):=λb u e=>by
 have q:=A0l (s _ _ e);have a:b≠l:=λz=>h (by rw [<-z];exact q.1);exact A0h q.1 (by rw [A0i a];exact q.2)
def Fr (S:Addr->Prop) (H:Hp):Prop:=∀a,H a=none->S a
theorem Fr.same (f:Fr S H) (s:A0u H H'):Fr S H':=λa h=>f a (s.free h)
mutual
theorem Rep.imp2 {H H':Hp} (f:∀p xs,H p=some (.lst xs)->H' p=some (.lst xs)) (g:∀p xs,H p=some (.tup xs)->H' p=some (.tup xs)):∀{v:V} {d:PyData},Rep H v d->Rep H' v d
 | _,_,.non=> .non
 | _,_,.bl b=> .bl b
 | _,_,.int i=> .int i
 | _,_,.str x=> .str x
 | _,_,.lst e r=> .lst (f _ _ e) (A5c.imp2 f g r)
 | _,_,.tup e r=> .tup (g _ _ e) (A5c.imp2 f g r)
theorem A5c.imp2 {H H':Hp} (f:∀p xs,H p=some (.lst xs)->H' p=some (.lst xs)) (g:∀p xs,H p=some (.tup xs)->H' p=some (.tup xs)):∀{vs:List V} {ds:List PyData},A5c H vs ds->A5c H' vs ds
 | _,_,.nil=> .nil
 | _,_,.cons a r=> .cons (Rep.imp2 f g a) (A5c.imp2 f g r)
end
theorem Rep.ins {d:PyData} {dx:Addr} {fs:List (Str×V)} {o:HO} (h:Rep H v d) (e:H p=some (.ins C dx fs)):Rep (upd H p o) v d :=
 h.imp2 (λq a z=>by rw [A0i (A3j z e (by intro w;cases w))];exact z) (λq a z=>by rw [A0i (A3j z e (by intro w;cases w))];exact z)
section
variable {G:Hp} {v:V} {vs:List V} {d:PyData} {ds:List PyData}
theorem B6z (h:Rep G v (.tuple ds)):∃p xs,v= .ref p/\G p=some (.tup xs)/\A5c G xs ds:=by
 cases h with
 | tup e r=>exact i0f _ _ rfl e r
theorem A5v (h:Rep G v (.list ds)):∃p xs,v= .ref p/\G p=some (.lst xs)/\A5c G xs ds:=by
 cases h with
 | lst e r=>exact i0f _ _ rfl e r
theorem B0u (h:Rep G v (.str x)):v= .str x:=by cases h;rfl
theorem C0x {x:Int} (h:Rep G v (.int x)):v= .int x:=by cases h;rfl
theorem A4m (h:A5c G vs (d::ds)):∃u r,vs=u::r/\Rep G u d/\A5c G r ds:=by
 cases h with
 | cons a r=>exact i0f _ _ rfl a r
theorem B2l (h:A5c G vs []):vs=[]:=by cases h;rfl
end
mutual
def cnt:PyData->Nat
 | .none=>1
 | .bool _=>1
 | .int _=>1
 | .str _=>1
 | .list xs=>A4j xs+1
 | .tuple xs=>A4j xs+1
 | .dict _=>1
def A4j:List PyData->Nat
 | []=>0
 | x::xs=>cnt x+A4j xs
end
theorem D7y (d:PyData):1<=cnt d:=by cases d <;> simp [cnt]
theorem C2g:∀ds:List PyData,ds.length<=A4j ds
 | []=>by simp [A4j]
 | d::r=>by
  have:=C2g r;have:=D7y d;simp only [A4j,Z0y]
  lia
theorem C6y:∀{ds:List PyData} {i:Nat} {d:PyData},ds[i]? =some d->cnt d<=A4j ds/\PyData.depth d<=PyData.depthAll ds
 | [],_,_,e=>by simp at e
 | d::r,0,_,e=>by
  simp at e;subst e;simp only [A4j,PyData.depthAll]
  lia
 | x::r,i+1,d,e=>by
  have:=C6y (ds:=r) (i:=i) (d:=d) (by simpa using e);simp only [A4j,PyData.depthAll]
  lia
theorem A5c.get2 {H:Hp}:∀{vs:List V} {ds:List PyData} {i:Nat} {v:V},A5c H vs ds->vs[i]? =some v->∃d,ds[i]? =some d/\Rep H v d
 | _,_,_,_,.nil,e=>by simp at e
 | _,_,0,_,.cons a _,e=>by simp at e;subst e;exact i02 _ rfl a
 | _,_,i+1,v,.cons _ r,e=>by
  obtain ⟨d,c,b⟩:=A5c.get2 (i:=i) (v:=v) r (by simpa using e);exact i02 d (by simpa using c) b
theorem lk0 {k:Str}:List.lookup k ((k,v)::r)=some v:=by simp [Z28]
theorem lk1 {k j:Str} {o:Option V} (h:(k == j)=false) (e:List.lookup k r=o):List.lookup k ((j,v)::r)=o:=by
 rw [Z28,h];exact e
theorem A1i {f:Str}:A4n f v []=[(f,v)]:=rfl
theorem A1a {f g:Str} {x:V} (h:¬g=f):A4n f v ((g,x)::r)=(g,x)::A4n f v r:=by rw [A4n,Z0t h]
theorem A8x {c A:Prop} [Decidable c] (h1:c->A) (h2:¬c->B):if decide c=true then A else B :=
 D2r (λh=>h1 (of_decide_eq_true h)) (λh=>h2 λa=>h (Z20 a))
theorem D8c {c A:Prop} [Decidable c] (h1:¬c->A) (h2:c->B):if (! decide c)=true then A else B :=
 D2r (λh=>h1 λa=>by rw [Z20 a] at h;cases h) (λh=>h2 (by
  by_cases a:c
  ·exact a
  ·rw [Z1j a] at h;exact absurd rfl h))
section
variable {X:Cx}
theorem B1v {tg l:Expr} {tl:TE} (b:PE X l tl):PI X tg l (λZ H R=>E1c X.K tl Z H R\/E4e X.K tl Z H R):=λa s Z H R I h=>h.elim (A2c b a s Z H R I) (E1j b a s Z H R I)
end
theorem C3a {α:Type} {xs:List α} {i:Int} (b:0<=i) (h1:i<xs.length):∃v,xs[i.toNat]? =some v/\atI xs i=some v:=by
 obtain ⟨n,rfl⟩:=Int.eq_ofNat_of_zero_le b;have a:n<xs.length:=by lia
 exact i02 (xs[n]) (by simp [a]) (A3m (by simp [a]))
theorem A6n {α:Type} {f:α->V} {xs:List α} {i:Int} (b:0<=i) (h1:i<xs.length):∃x,xs[i.toNat]? =some x/\atI (xs.map f) i=some (f x):=by
 obtain ⟨n,rfl⟩:=Int.eq_ofNat_of_zero_le b;have a:n<xs.length:=by lia
 exact i02 (xs[n]) (by simp [a]) (A3m (by simp [a]))
theorem C3e {α:Type} {xs:List α} (h:0<xs.length):∃v,xs[xs.length-1]? =some v/\atI xs (-1)=some v:=by
 have a:xs.length-1<xs.length:=by lia
 refine i02 (xs[xs.length-1]) (by simp [a]) ?_
 have e:ixN xs.length (-1)=some (xs.length-1):=by
  unfold ixN;rw [Z0t (by decide),Z12 (by lia)];congr 1
  lia
 unfold atI;rw [e];simp [a]
section
variable {K:Frag} {a D:Addr} {xs:List V} {g:TG} {te:TE} {QD:Hp->Prop} {Z₀:St} {H:Hp}
theorem A4g (Pv:Nat->List V->Hp->Prop) (f:Pv 0 [] (upd H D (.lst []))) (h:∀i ys H,Pv i ys H->SqL K H a xs)
  (j:∀i x ys H,xs[i]? =some x->Pv i ys H->g x Z₀ H λZ4 H4=>A2w Z₀ Z4/\te Z4 H4 λy b=>b D=some (.lst ys)/\ys.length<sizeLine/\Pv (i+1) (ys++[y]) (upd b D (.lst (ys++[y])))) (e:∀ys H,Pv xs.length ys H->QD H) :
  ∃W:Nat->Nat->Hp->Prop,(∃m,W 0 m (upd H D (.lst [])))/\∀i m H2,W i m H2->
   ((Itl K a).stop i H2/\QD H2)\/((Itl K a).go i H2/\∃N:VK,(∀y b,N y b->∃xs,b D=some (.lst xs)/\xs.length<sizeLine/\∃c,c<m/\W (i+1) c (upd b D (.lst (xs++[y]))))/\
    ∀x d,(Itl K a).yld i H2 x d->g x Z₀ d λZ4 H4=>A2w Z₀ Z4/\te Z4 H4 N):=D0l (Q:=λ_ H=>QD H) Pv f h j e
theorem C6e (Pv:Nat->List V->Hp->Prop) (f:Pv 0 [] (upd H D (.lst []))) (h:∀i ys H,Pv i ys H->SqT K H a xs)
  (j:∀i x ys H,xs[i]? =some x->Pv i ys H->g x Z₀ H λZ4 H4=>A2w Z₀ Z4/\te Z4 H4 λy b=>b D=some (.lst ys)/\ys.length<sizeLine/\Pv (i+1) (ys++[y]) (upd b D (.lst (ys++[y])))) (e:∀ys H,Pv xs.length ys H->QD H) :
  ∃W:Nat->Nat->Hp->Prop,(∃m,W 0 m (upd H D (.lst [])))/\∀i m H2,W i m H2->
   ((Itt K a).stop i H2/\QD H2)\/((Itt K a).go i H2/\∃N:VK,(∀y b,N y b->∃xs,b D=some (.lst xs)/\xs.length<sizeLine/\∃c,c<m/\W (i+1) c (upd b D (.lst (xs++[y]))))/\
    ∀x d,(Itt K a).yld i H2 x d->g x Z₀ d λZ4 H4=>A2w Z₀ Z4/\te Z4 H4 N):=D2x (Q:=λ_ H=>QD H) Pv f h j e
end
theorem A4u {D:Addr} (h1:isClsIn K D=true) (h2:typeIn K (.ref D)=some (.type "type")) (b:mroIn K C (.ref D)=some true):kitOne K (.ref C) (.ref D)=some true:=by
 unfold kitOne;split
 ·rfl
 ·show (if ((clsIn K D).isSome&&typeIn K (.ref D) == some (.type "type"))=true then subIn K (.ref C) (.ref D) else none)=some true;have a:(clsIn K D).isSome=true:=h1;rw [Z12 (by rw [a,h2];rfl)];exact b
theorem A0f {D:Addr} (b:(Value.ref C == Value.ref D)=false) (h1:isClsIn K D=true) (h2:typeIn K (.ref D)=some (.type "type")) (c:mroIn K C (.ref D)=some false):kitOne K (.ref C) (.ref D)=some false:=by
 unfold kitOne;rw [Z0t (by rw [b];exact Z0v)];show (if ((clsIn K D).isSome&&typeIn K (.ref D) == some (.type "type"))=true then subIn K (.ref C) (.ref D) else none)=some false;have a:(clsIn K D).isSome=true:=h1;rw [Z12 (by rw [a,h2];rfl)];exact c
section
variable {X:Cx}
theorem C5n:A8l X (.type "dict") (λxs H Q=>∃a kvs,xs=[V.ref a]/\Rd H a (.dK kvs)/\∀p,H p=none->Q (.ref p) (upd H p (.dK kvs))):=by
 intro j s Z H xs A Q I r h;obtain ⟨a,kvs,rfl,k,q⟩:=h;obtain ⟨u,rfl,l⟩:=B1p r;cases l;obtain ⟨i,t,z,c,v⟩:=B5b I.hok k;refine kt_call_dict (knd:=A1x X.prog X.w) t v (by rw [<-c.length];exact i) λx f m=> ?_;have n:=I.hok.fresh (Z09 s.heap.objs.size);have y:∀b u,s.heap.get? b=some u->x.get? b=some u:=λb u e=>(m.2 b (Z0h (Z0a e))).trans (Z01 _ e)
 have g:(s.heap.objs.size == sysModules)=false:=by
  have:=I.big;have d:s.heap.objs.size≠sysModules:=Z1q this
  simpa using d
 exact i0f (.ref s.heap.objs.size) _ (I.laid (t':=s.toks) (o:= .dK kvs) y (Z09 _) (i0a i g z c f)) rfl (q _ n)
theorem Inv.frozen (I:Inv X pins Z H s) (b:H a=some (.dK kvs)) (c:s.heap.get? a=some o):Inv X pins Z (upd H a (.frz o (.dK kvs))) s :=
 I.write (t':=s.toks) (h':=s.heap) (e:=a) (by rw [b];trivial) (.inl rfl) (λ_ _ _ e=>e) ⟨o,c⟩ ⟨c,(show A2q X.prog X.w H s.heap a (.dK kvs) from I.hok a _ b)⟩
theorem Inv.thaw (I:Inv X pins Z H s) (d:H a=some (.frz o u)) (t:∃kvs,u= .dK kvs) (r:∀o' j,X.H₀ a≠some (.frz o' j)):Inv X pins Z (upd H a u) s:=by
 have g:∀b,H b=none->upd H a u b=none:=λb e=>by rw [A0i (λz=>by subst z;rw [d] at e;cases e)];exact e
 obtain ⟨kvs,rfl⟩:=t
 refine ⟨I.ok,I.os,I.bare,⟨I.base.keep,I.base.slot,λb h e n l=>g b (I.base.free b h e n l),I.base.there,λb k e=> ?_,λb h j e=> ?_,λb m e=> ?_⟩,I.loc,I.cell,g _ I.free,λx c e=>g _ (I.freeC x c e),
  λp i=>(i00 ((I.pin p i).1) (g _ (I.pin p i).2.1) ((I.pin p i).2.2)),λb v e=> ?_,I.len⟩
 ·have q:=I.base.tups b k e;rw [A0i (A3j q d (by intro z;cases z))];exact q
 ·have q:=I.base.frzs b h j e;rw [A0i (λz=>by subst z;exact r _ _ e)];exact q
 ·obtain ⟨f,q⟩:=I.base.tbls b m e;exact ⟨f,by rw [A0i (A3j q d (by intro z;cases z))];exact q⟩
 ·by_cases hb:b=a
  ·subst hb;rw [A0b] at e;cases e;obtain ⟨_,q⟩:=(show A2q X.prog X.w H s.heap b (.frz o (.dK kvs)) from I.hok b _ d);exact q
  ·rw [A0i hb] at e;exact (I.hok b v e).stay (λ_ _ _ q=>q) (λc q=>by rw [A0i (A3j q d (by intro z;cases z))];exact q) λc k q=>by rw [A0i (A3j q d (by intro z;cases z))];exact q
def E3x (X:Cx) (t:TS):TS:=λD Z H=>∃a o b,H a=some (.frz o (.dK b))/\(∀c d,X.H₀ a≠some (.frz c d))/\t D Z (upd H a (.dK b))
theorem C3j {sts:List Stmt} {t:TS} (h:PSs X sts t):PSs X sts (E3x X t):=by
 intro b s Z H D I f;obtain ⟨a,o,c,d,e,q⟩:=f;exact h b s Z _ D (I.thaw d ⟨c,rfl⟩ e) q
def Itd (a:Addr) (o:Obj) (kvs:List (Key×V)):It :=
 ⟨λi H=>H a=some (.frz o (.dK kvs))/\i<kvs.length,λi H x b=>b=H/\∃k v,kvs[i]? =some (k,v)/\x=kV k,λi H=>H a=some (.frz o (.dK kvs))/\i=kvs.length⟩
theorem D7g {k:Key} {u:Value} (h:(A1x P w).is k u=true):A3c (kV k) u:=by
 rcases A2u (show C2a k u=true from h) with ⟨i,t,rfl,rfl⟩ | ⟨x,t,rfl,rfl⟩
 ·exact ⟨t,rfl⟩
 ·exact ⟨t,rfl⟩
theorem KV.at:KV kvs vs->∀{i:Nat} {k:Key} {v:V},kvs[i]? =some (k,v)->∃u,vs[i]? =some (k,u)/\A3c v u:=by
 intro r;unfold KV at r
 induction r with
 | nil=>intro i k v e;simp at e
 | @cons p q ps qs h t ih =>
  intro i k v e
  cases i with
  | zero =>
   simp at e;subst e;obtain ⟨a,c⟩:=h;obtain ⟨g,f⟩:=q;cases a;exact i02 f rfl c
  | succ j =>
   obtain ⟨u,b,d⟩:=ih (i:=j) (by simpa using e);exact i02 u (by simpa using b) d
end
theorem C8h (m:HOk P w H h) (j:H a=some (.frz o (.dK kvs))) (g:o.data= .dict es ep) :
  (a == sysModules)=false/\∃vs,KV kvs vs/\h.DictAt (A1x P w) a vs ep:=by
 obtain ⟨e,n,l,vs,b,p,k,i,f,c,d,r⟩:=(show A2q P w H h a (.frz o (.dK kvs)) from m a _ j);rw [e] at f;cases f;rw [g] at d;cases d;exact ⟨l,(i0s vs b o es e c g r)⟩
theorem C8r {tg:Expr} (it a:Addr) (o:Obj) (kvs:List (Key×V)) (es:Array DictEntry) (ep:Nat) (R:o.data= .dict es ep) :
  D4l P w K tg (Itd a o kvs) [it] it (λi h=>h.IsKeyIter it a i kvs.length ep) where
 mem:=by simp
 obj:=λi h f b m=>by
  have e:b=it:=by simpa using m
  subst e;obtain ⟨l,e,_,d⟩:=f;exact i02 l e λv z=>by rw [d] at z;cases z
 keep:=λi h t f k=>f.at λl e=>k it (by simp) l e
 item:=by
  intro X M N J O i j s Z H E I q f y;subst M N J;obtain ⟨D,Q⟩:=y;obtain ⟨L,A,f2,C,F,x⟩:=q it (by simp);obtain ⟨_,T,g,B⟩:=C8h I.hok D R;have r:=g.length;obtain ⟨⟨k,v⟩,hkv⟩:∃p,kvs[i]? =some p:=⟨kvs[i],by simp [Q]⟩;obtain ⟨u,U,_⟩:=g.at hkv;rw [r] at f;refine wpAny_pyNext_dict_item f B U λG t Y n W=> ?_;have I1:Inv X j Z H { s with heap:=t,toks:=s.toks }:=I.turned (t':=s.toks) (λb l m e=>(W.2 b m).trans e) L A C F x
  obtain ⟨l,e,c,d⟩:=id n;exact i02 G rfl (C5g (s:={ s with heap:=t }) e c d (by decide) (i0p (kV k) H I1 (D7g Y) (i0b rfl k v hkv rfl) (by rw [r];exact n) λb m=>(q b m).1))
 done:=by
  intro X M N J O i j s Z H E I q f y;subst M N J;obtain ⟨D,Q⟩:=y;obtain ⟨L,A,f2,C,F,x⟩:=q it (by simp);obtain ⟨_,T,g,B⟩:=C8h I.hok D R;have r:=g.length;rw [r] at f;exact wpAny_pyNext_dict_end (I.ok.hd O) f B (by simp;lia) λt S=>⟨rfl,I.turned (t':=s.toks) (λb l m e=>S b l m e) L A C F x⟩
 self:=λ_ _ _ _ _ f h=>wpAny_pyIter_keyiter f h
def E3v (tl:TE):TI:=λZ H R=>tl Z H λx c=>∃a b,x= .ref a/\c a=some (.dK b)/\∀o,R (Itd a o b) (upd c a (.frz o (.dK b)))
theorem D0f {tg l:Expr} {tl:TE} (A:PE X l tl):PI X tg l (E3v tl):=by
 intro c s Z H R I h;refine thn (A c s Z H _ I h) ?_;rintro u d ⟨x,z,I1,y,a,f,C,i,q⟩;subst C;cases y;obtain ⟨D,t,k,g,o,n,ep,m,p,j,r⟩:=C7b I1.hok i;have v:d.heap.DictAt (A1x X.prog X.w) a k ep:=(i0m o n m p j r);refine wpAny_pyIter_dict t v ?_;have I2:Inv X c Z z { d with heap:=d.heap.push { cls:= .type "dict_keyiterator",data:= .fields #[.ref a,.int 0 0,.int k.length 0,.int ep 0] },toks:=d.toks }:=I1.kept λb F e=>Z01 _ e
 have I3:=I2.frozen i (Z01 _ m);refine i14 _ [d.heap.objs.size] _ _ _ rfl I3 (C8r _ a o f n ep j) ?_ (λb B=> ?_) (q o)
 ·rw [g.length];exact i06 _ (Z0c _ rfl) rfl rfl
 ·have e:b=d.heap.objs.size:=by simpa using B
  subst e;refine I1.fpOk (Z09 _) ?_;rw [A0i (Z1q (I1.hok.lt i))];exact I1.hok.fresh (Z09 _)
theorem D0u {H2:Hp} (c:H a=some u) (s:A0u (upd H a (.frz o u)) H2):A0u H (upd H2 a u):=λb v e=>by
 by_cases hb:b=a
 ·subst hb;rw [c] at e;cases e;exact A0b
 ·rw [A0i hb];exact s b v (by rw [A0i hb];exact e)
theorem D5u {o:List (Key×Value)}:∀{kvs:List (Key×V)} {g:List (Key×Value)},KV kvs g->(∀p∈kvs,(∃i,p.2= .int i)\/∃z,p.2= .str z)->
  (∀p∈kvs,∃u,PySem.valueAt o p.1=some u/\A3c p.2 u)->PySem.W.KeqHits A s o g true:=by
 intro kvs g r;unfold KV at r
 induction r with
 | nil=>intro _ _;exact .nil
 | @cons p q ps qs h t ih =>
  intro j n;obtain ⟨k,v⟩:=p;obtain ⟨B,u⟩:=q;obtain ⟨e,m⟩:=h;cases e;obtain ⟨y,w,l⟩:=n _ (.head _);have x:=ih (λp d=>j p (.tail _ d)) λp d=>n p (.tail _ d)
  have f:SeqAt.EqAt A s u y true:=by
   rcases j _ (.head _) with ⟨i,e⟩ | ⟨z,e⟩
   ·have e:v= .int i:=e;subst e;obtain ⟨c,rfl⟩:=m;obtain ⟨a,rfl⟩:=l
    simpa using SeqAt.EqAt.int_int (A:=A) (s:=s) i c i a
   ·have e:v= .str z:=e;subst e;obtain ⟨c,rfl⟩:=m;obtain ⟨a,rfl⟩:=l
    simpa using SeqAt.EqAt.str_str (A:=A) (s:=s) z c z a
  exact PySem.W.KeqHits.hit (e:=true) (b:=true) w f x
theorem B5o:∀{l:List (Key×Value)} {p:Key×Value},(l.map (·.1)).Nodup->p∈l->PySem.valueAt l p.1=some p.2
 | [],_,_,h=>by cases h
 | q::r,p,b,h=>by
  have b:(q.1::r.map (·.1)).Nodup:=b;obtain ⟨c,d⟩:=Z15.mp b;rcases Z0e.mp h with rfl | h
  ·simp [PySem.valueAt]
  ·have a:¬q.1=p.1:=λe=>c (e▸List.mem_map_of_mem h);have:=B5o d h
   simpa [PySem.valueAt,Z2h,a] using this
theorem KV.mem (r:KV kvs vs) {p:Key×V} (h:p∈kvs):∃u,(p.1,u)∈vs/\A3c p.2 u:=by
 obtain ⟨i,a⟩:=List.getElem?_of_mem h;obtain ⟨u,e,b⟩:=r.at (k:=p.1) (v:=p.2) a;exact i02 u (Z13 e) b
section
variable {X:Cx}
def C7d (ix:List (Option Nat)) (wi:TI) (g:TG) (tc:TT) (te:TE):TE:=λZ H Q=>wi Z H λJ h=>∀D,h D=none->∃W:Nat->Nat->Hp->Prop,(∃m,W 0 m (upd h D (.lst [])))/\∀i m c,W i m c->
 (J.stop i c/\Q (.ref D) c)\/(J.go i c/\∃(N:VK) (M:Hp->Prop),(∀y a,N y a->∃e,a D=some (.lst e)/\e.length<sizeLine/\∃d,d<m/\W (i+1) d (upd a D (.lst (e++[y]))))/\(∀a,M a->∃d,d<m/\W (i+1) d a)/\∀x f,J.yld i c x f->g x (A6q ix Z) f λZ4 j=>A2w (A6q ix Z) Z4/\tc Z4 j λb a=>if b=true then te Z4 a N else M a)
def PTs (X:Cx) (cs:List Expr) (t:TT):Prop :=
 ∀(a:List (Addr×Obj)) (s:Shared) (Z:St) (H:Hp) (Q:Bool->Hp->Prop),Inv X a Z H s->t Z H Q->wpAny (model X.prog X.w) X.A (forIn cs true λc r=>if r=true then do let b<-isTrue c X.env (eval c X.env);pure (ForInStep.yield b) else pure (ForInStep.yield r)) (TP X a Z Q) X.xe s
theorem C4a {tg:Expr} (hc:X.calm=true) (O:C8u X scope cl) (io:D0z X N' scope ix) (hi:PI X tg iter wi)
  (hg:∀C s₀ H₀ fp,PG (blk X N' scope cl C s₀ H₀ fp) tg g) (ht:∀C s₀ H₀ fp,PTs (blk X N' scope cl C s₀ H₀ fp) cs tc) (he:∀C s₀ H₀ fp,PE (blk X N' scope cl C s₀ H₀ fp) elt te) (R:VK->St->It->Hp->Prop) (hR:∀Q Z J H1,R Q Z J H1->∀D,H1 D=none->∃W:Nat->Nat->Hp->Prop,(∃m,W 0 m (upd H1 D (.lst [])))/\∀i m H2,W i m H2->
 (J.stop i H2/\Q (.ref D) H2)\/(J.go i H2/\∃(N:VK) (M:Hp->Prop),(∀y k,N y k->∃xs,k D=some (.lst xs)/\xs.length<sizeLine/\∃l,l<m/\W (i+1) l (upd k D (.lst (xs++[y]))))/\(∀k,M k->∃l,l<m/\W (i+1) l k)/\∀x H3,J.yld i H2 x H3->g x (A6q ix Z) H3 λZ4 H4=>A2w (A6q ix Z) Z4/\tc Z4 H4 λb k=>if b=true then te Z4 k N else M k)) (hs:∀x,foldedSetIterable iter X.env x=pure x:=by intro _;rfl) :
  PE X (.ListComp elt [⟨tg,iter,cs,0⟩] scope pos) (λZ H Q=>wi Z H (R Q Z)):=by
 intro q s Z H Q I h;rw [eval_ListComp];refine wpAny_comprehension_free (use:=none) rfl hs O.eq O.kind O.names (thn (hi q s Z H _ I h) λxv s1 h1=>thn h1 λb8 a h2=> ?_);obtain ⟨it,fp,tn,J,H1,rfl,I1,T,a6,f1,R1⟩:=h2;refine Z16 ?_;have hD:H1 a.heap.objs.size=none:=I1.hok.fresh (Z09 _);obtain ⟨W,⟨m0,w0⟩,a7⟩:=hR _ _ _ _ R1 _ hD;have a9:∀b∈fp,b<a.heap.objs.size:=λb f=>let ⟨o,e,_⟩:=T.obj _ _ a6 b f;Z0a e;have I2:Inv X q Z (upd H1 a.heap.objs.size (.lst [])) { a with heap:=a.heap.push { cls:= .type "list",data:= .seq ([]:List Value).toArray },toks:=a.toks }:=I1.lnew (its:=[]) .nil (Z1e _);have f2:∀b∈fp,C1w X q (upd H1 a.heap.objs.size (.lst [])) b:=λb f=>⟨by rw [A0i (Z0h (a9 b f))];exact (f1 b f).1,(f1 b f).2⟩
 have E:∀b∈fp,b<(a.heap.push { cls:= .type "list",data:= .seq ([]:List Value).toArray }).objs.size:=λb f=>by rw [Z1s];exact Nat.lt_succ_of_lt (a9 b f)
 refine wpAny_newFunctionEnv O.ncell (by intro y hy;simp at hy) (λh3 U a0=> ?_) O.kind;dsimp only at U a0⊢;have k3:∀b o,(a.heap.push { cls:= .type "list",data:= .seq ([]:List Value).toArray }).get? b=some o->h3.get? b=some o:=λb o e=>(a0.2 b (Z0h (Z0a e))).trans (Z01 _ e);generalize hs2:({ a with heap:=a.heap.push { cls:= .type "list",data:= .seq ([]:List Value).toArray },toks:=a.toks }:Shared)=s3 at I2;have e3:a.heap.push { cls:= .type "list",data:= .seq ([]:List Value).toArray }=s3.heap:=by rw [<-hs2]
 rw [e3] at U k3 E;have I3:=B8d (N':=N') (ix:=ix) I2 O io f2 E (h':=h3) (t':=a.toks+([]:List (Str×Value)).length) U k3;have e4:({ s3 with heap:=h3,toks:=a.toks+([]:List (Str×Value)).length }:Shared)={ a with heap:=h3,toks:=a.toks+([]:List (Str×Value)).length }:=by rw [<-hs2]
 rw [e4] at I3;have a4:tn 0 h3:=T.keep _ _ _ a6 λb f o e=>k3 b o (by rw [<-e3];exact Z01 _ e)
 have G:∀s4:Shared,s4={ a with heap:=h3,toks:=a.toks+([]:List (Str×Value)).length }->
   codeAny (model X.prog X.w) X.A (.compLoop (.ListComp elt [⟨tg,iter,cs,0⟩] scope pos) 0 (.ref it) (.ref a.heap.objs.size) (compEnvC scope cl s3.heap.objs.size X.env))
    (compPost (model X.prog X.w) X.A X.xe none (EP X q Z Q) (.ref a.heap.objs.size) s3.heap.objs.size) s4:=by
  rintro s4 rfl
  have F:∀{H':Hp},(∀b∈fp,H' b=none)->∀b∈fp,C1w (blk X N' scope cl s3.heap.objs.size s3 (upd H1 a.heap.objs.size (.lst [])) fp) [] H' b:=λhn b f =>
   (i0h (hn b f) (Z0h (E b f)) (λhs=>I3.ok.exfs b f hs) (.inl f) (λx c e=>(f2 b f).2.2.2.2.1 x c (O.sub x c e)) (λp hp=>by cases hp))
  refine codeAny_loop rfl (λn s'=>∃i Z' H',Inv (blk X N' scope cl s3.heap.objs.size s3 (upd H1 a.heap.objs.size (.lst [])) fp) [] Z' H' s'/\(∀(j:Nat) v,(A6q ix Z)[j]? =some (some v)->Z'[j]? =some (some v))/\tn i s'.heap/\(∀b∈fp,H' b=none)/\W i n H')
   (λn s' hI=> ?_) m0 (i0u 0 _ _ I3 (λ_ _ z=>z) a4 (λb f=>(f2 b f).1) w0)
  obtain ⟨i,Z5,k,I5,wk,a8,a2,w5⟩:=hI;show wpAny _ _ ((compTurn (.ListComp elt [⟨tg,iter,cs,0⟩] scope pos) 0 (.ref it) (.ref a.heap.objs.size) (compEnvC scope cl s3.heap.objs.size X.env)).onRaise (λx=>do noteFrame x (compEnvC scope cl s3.heap.objs.size X.env);theTreesLotGoes x)) _ _ s';refine wpAny_noted ?_;rw [compTurn_list];refine Z00 (Z1y ?_);rcases a7 i n k w5 with ⟨stop,qn⟩ | ⟨go,NN,MM,b7,b6,a1⟩
  ·refine Z00 (Z10 (T.done (blk X N' scope cl s3.heap.objs.size s3 (upd H1 a.heap.objs.size (.lst [])) fp) rfl rfl rfl hc i [] s' Z5 k (λ_ _=>False) I5 (F a2) a8 stop) (λr s6 h6=> ?_) λ_ _ z=>z.elim);obtain ⟨rfl,I6⟩:=h6;refine Z04 ?_;obtain ⟨mm,hm,_⟩:=id I6.loc;exact i02 mm hm λh' sb=>(i0f (.ref a.heap.objs.size) k (C8x I2 f2 I6 sb) rfl qn)
  ·refine Z00 (Z10 (T.item (blk X N' scope cl s3.heap.objs.size s3 (upd H1 a.heap.objs.size (.lst [])) fp) rfl rfl rfl hc i [] s' Z5 k (λ_ _=>False) I5 (F a2) a8 go) (λr s6 h6=> ?_) λ_ _ z=>z.elim);obtain ⟨u,rfl,h6⟩:=h6;refine Z00 (Z10 h6 (λ_ s7 h7=> ?_) λ_ _ z=>z.elim);obtain ⟨x,H7,I7,r7,y7,P,b4⟩:=h7;have I7w:Inv (blk X N' scope cl s3.heap.objs.size s3 (upd H1 a.heap.objs.size (.lst [])) fp) [] (A6q ix Z) H7 s7:=I7.weak (by rw [I7.len];unfold A6q;rw [Z08];exact io.1) wk;have I7p:=I7w.pinned (F b4) (T.obj _ _ P);refine Z00 (Z10 (hg _ _ _ _ _ s7 _ H7 x u _ I7p r7 (a1 x H7 y7)) (λ_ s8 h8=> ?_) λ_ _ z=>z.elim);obtain ⟨Z8,H8,I8,a5,q8⟩:=h8
   have L:∀{K:Shared} {Z10:St} {B:Hp} {l:Nat},Inv (blk X N' scope cl s3.heap.objs.size s3 (upd H1 a.heap.objs.size (.lst [])) fp) ([]++B5p fp s7.heap) Z10 B K->(∀(j:Nat) v,(A6q ix Z)[j]? =some (some v)->Z10[j]? =some (some v))->W (i+1) l B->
     ∃i Z' H',Inv (blk X N' scope cl s3.heap.objs.size s3 (upd H1 a.heap.objs.size (.lst [])) fp) [] Z' H' K/\(∀(j:Nat) v,(A6q ix Z)[j]? =some (some v)->Z'[j]? =some (some v))/\tn i K.heap/\(∀b∈fp,H' b=none)/\W i l H':=by
    intro K Z10 B l I10 kk Y;refine i0u (i+1) Z10 B I10.unpinned kk (T.keep _ _ _ P λb f o e=>(I10.pin (b,o) (Z02 _ (Z02 _ (A5k f e)))).1) (λb f=> ?_) Y;obtain ⟨o,e,d⟩:=T.obj _ _ P b f;exact (I10.pin (b,o) (Z02 _ (Z02 _ (A5k f e)))).2.1
   refine Z00 (Z10 (ht _ _ _ _ _ s8 Z8 H8 _ I8 q8) (λok b5 b1=> ?_) λ_ _ z=>z.elim);obtain ⟨H9',I9',a3⟩:=b1
   cases ok with
   | false =>
    have t:MM H9':=by simpa using a3
    obtain ⟨l,S,w9⟩:=b6 _ t;exact Z00 (Z04 (Z04 (i05 rfl l S (L I9' a5.get w9))))
   | true =>
    have t:te Z8 H9' NN:=by simpa using a3
    refine Z00 (Z00 (Z10 (he _ _ _ _ _ b5 Z8 H9' _ I9' t) (λyv s9 h9=> ?_) λ_ _ z=>z.elim));obtain ⟨y,H9,I9,r9,n9⟩:=h9;obtain ⟨xs,b0,b2,l,S,w9⟩:=b7 _ _ n9;refine Z00 (Z10 (A2e (X:=blk X N' scope cl s3.heap.objs.size s3 (upd H1 a.heap.objs.size (.lst [])) fp) _ s9 Z8 H9 (.ref a.heap.objs.size) [y] (.ref a.heap.objs.size) [yv] (λ_ H'=>W (i+1) l H') I9 rfl (.cons r9 .nil) (i0u _ xs y rfl rfl b0 b2 w9)) (λ_ K b3=> ?_) λ_ _ z=>z.elim);obtain ⟨_,B,I10,_,Y⟩:=b3;exact Z04 (Z04 (i05 rfl l S (L I10 a5.get Y)))
 have e5:s3.heap.objs.size=(a.heap.push { cls:= .type "list",data:= .seq ([]:List Value).toArray }).objs.size:=by rw [e3]
 rw [e5] at G;exact codeAny_compStart_list (G _ rfl) (T.self X.A 0 _ _ _ a4 (G _ rfl))
theorem B9n {tg c:Expr} (k:X.calm=true) (i:C8u X scope cl) (j:D0z X N' scope ix) (hi:PI X tg iter wi)
  (e:∀C a H₀ fp,PG (blk X N' scope cl C a H₀ fp) tg g) (d:∀C a H₀ fp,PT (blk X N' scope cl C a H₀ fp) c tc) (l:∀C a H₀ fp,PE (blk X N' scope cl C a H₀ fp) elt te) (f:∀x,foldedSetIterable iter X.env x=pure x:=by intro _;rfl) :
  PE X (.ListComp elt [⟨tg,iter,[c],0⟩] scope pos) (C7d ix wi g tc te) :=
 C4a k i j hi e (λC a H₀ fp b s Z H Q I h=>wpAny_tests_one (d C a H₀ fp b s Z H Q I h)) l _ (λ_ _ _ _ R=>R) f
theorem A4r {tg:Expr} (r:X.calm=true) (o:C8u X scope cl) (q:D0z X N' scope ix) (hi:PI X tg iter wi)
  (k:∀C c H₀ fp,PG (blk X N' scope cl C c H₀ fp) tg g) (s:∀C c H₀ fp,PE (blk X N' scope cl C c H₀ fp) elt te) (n:∀x,foldedSetIterable iter X.env x=pure x:=by intro _;rfl) :
  PE X (.ListComp elt [⟨tg,iter,[],0⟩] scope pos) (E0g ix wi g te) :=
 C4a (tc:=λ_ H Q=>Q true H) r o q hi k (λ_ _ _ _ _ _ _ _ _ I h=>wpAny_tests_nil (i02 _ I h)) s _ (λ_ _ _ _ R l p=>by
  obtain ⟨W,j,a⟩:=R l p;refine i02 W j λi m d w=>(a i m d w).imp id λ⟨e,N,f,b⟩=>(i0i e N (λ_=>False) f (λ_ z=>z.elim) ?_)
  simpa using b) n
end
section
variable {K:Frag} {a D:Addr} {xs:List V} {g:TG} {tc:TT} {te:TE} {QD:Hp->Prop} {Z₀:St} {H:Hp}
theorem A9u (Pv:Nat->List V->Hp->Prop) (k:Pv 0 [] (upd H D (.lst []))) (l:∀i ys H,Pv i ys H->SqL K H a xs)
  (j:∀i x ys H,xs[i]? =some x->Pv i ys H->g x Z₀ H λZ4 H4=>A2w Z₀ Z4/\tc Z4 H4 λb c=>if b=true then te Z4 c (λy c=>c D=some (.lst ys)/\ys.length<sizeLine/\Pv (i+1) (ys++[y]) (upd c D (.lst (ys++[y])))) else Pv (i+1) ys c) (h:∀ys H,Pv xs.length ys H->QD H) :
  ∃W:Nat->Nat->Hp->Prop,(∃m,W 0 m (upd H D (.lst [])))/\∀i m H2,W i m H2->
   ((Itl K a).stop i H2/\QD H2)\/((Itl K a).go i H2/\∃(N:VK) (M:Hp->Prop),(∀y c,N y c->∃xs,c D=some (.lst xs)/\xs.length<sizeLine/\∃d,d<m/\W (i+1) d (upd c D (.lst (xs++[y]))))/\(∀c,M c->∃d,d<m/\W (i+1) d c)/\
    ∀x f,(Itl K a).yld i H2 x f->g x Z₀ f λZ4 H4=>A2w Z₀ Z4/\tc Z4 H4 λb c=>if b=true then te Z4 c N else M c):=by
 refine i02 (λi m H=>m=xs.length-i/\i<=xs.length/\∃ys,Pv i ys H) (i0d xs.length (by simp) (Z1e _) [] k) ?_;rintro i m H2 ⟨rfl,o,ys,p⟩;have q:=l i ys H2 p;by_cases hlt:i<xs.length
 ·refine .inr (i0i (i07 xs (xs[i]) q (by simp [hlt])) (λy c=>c D=some (.lst ys)/\ys.length<sizeLine/\Pv (i+1) (ys++[y]) (upd c D (.lst (ys++[y])))) (λc=>Pv (i+1) ys c) (λy c n=>(i0v ys n.1 n.2.1 (xs.length-(i+1)) (by lia) rfl hlt _ n.2.2)) (λc n=>(i0c (xs.length-(i+1)) (by lia) rfl hlt ⟨_,n⟩)) λx f z=> ?_);obtain ⟨e,z⟩:=z;subst e;exact j i x ys _ (z xs q) p
 ·have e:i=xs.length:=by lia
  subst e;exact .inl ⟨(i02 xs q (Z09 _)),h ys H2 p⟩
end
section
variable {prog:Program} {w:World} {A:Around} {E:Value->Shared->Prop} {s:Shared}
theorem C4p {v:Addr} {Q:Value->Shared->Prop} (h1:s.heap.IsItemsView v d) (h2:s.heap.get? d=some od) (a:od.data= .dict es ep)
  (q:Q (.ref s.heap.objs.size) { s with heap:=s.heap.push { cls:= .type "dict_itemiterator",data:= .fields #[.none,.bool false,.ref d,.int 0 0,.int es.size 0,.int ep 0,.none,.none] } }) :
  wpAny (model prog w) A (pyIter (.ref v)) Q E s:=by
 obtain ⟨f,b,e,c⟩:=id h1;refine wpAny_pyIter_slot h1.typeIs F.slot_dict_items_iter (Z1g F.slot_dict_items_iter h1.typeIs F.entry_dict_items_iter ?_ (F.args_dict_items_iter_1 _));unfold Builtin.«dict_items.__iter__»;refine Z00 (Z04 (Z00 ?_));unfold Builtin.Dict_items.dictOf;refine Z00 (Z11 b c (x:= .ref d) rfl (Z04 (Z00 ?_)));unfold Builtin.Dict_items.newIterator;refine Z00 (wpAny_dictEntries h2 a (Z00 (wpAny_dictEpoch h2 a ?_)));simp only [show Builtin.Dict_items.ownsTuple "dict_itemiterator"=true by decide,if_true]
 refine Z16 (Z04 (i0o _ rfl "dict_itemiterator" _ (i02 _ (Z0c _ rfl) rfl) F.slot_dict_itemiterator_next.lookup ?_)) (by
  simp only [sizeOk,Builtin.Dict_items.ownedTupleFields,Z0g,Z06,Z0y,Z2g,sizeLine_eq]
  lia)
 simpa [rawInt,Builtin.Dict_items.ownedTupleFields] using q
theorem C4j {e:DictEntry} {x:Value}
  (h1:IsItemIter s.heap it d i n ep x y) (h2:s.heap.get? d=some od) (N:od.data= .dict es ep) (S:es.size=n) (O:es[i]? =some e)
  (q:∀h',IsItemIterOut h' it d (i+1) n ep e.key e.val s.heap.objs.size->h'.get? s.heap.objs.size=some { cls:= .type "tuple",data:= .seq #[e.key,e.val] }->
   (∀c u,c≠it->s.heap.get? c=some u->h'.get? c=some u)->Q (some (.ref s.heap.objs.size)) { s with heap:=h' }) :
  wpAny (model prog w) A (pyNext (.ref it)) Q E s:=by
 obtain ⟨a,g,m,r,p⟩:=s;have k:Shared.TypeIs ⟨a,g,m,r,p⟩ (.ref it) "dict_itemiterator":=(i02 _ h1 rfl);unfold pyNext;refine Z00 (wpAny_attempt (Z1b (name:=Str.ofString "__next__") k F.slot_dict_itemiterator_next (Z1g F.slot_dict_itemiterator_next k F.entry_dict_itemiterator_next ?_ (F.args_dict_itemiterator_next_1 _))));refine Z00 (Z04 (Z00 (Z00 ?_)));refine Z00 (wpAny_typeNameOfWhole_itemiter k (Z04 (Z00 (wpAny_fieldsOf h1 rfl ?_))));simp only [show Builtin.Dict_items.ownsTuple "dict_itemiterator"=true by decide,if_true];show wpAny _ _ (ite ((Value.ref d == Value.none)=true) _ _) _ _ _;rw [Z0t (show¬((Value.ref d == Value.none)=true) from Z0v)];refine Z00 (Z04 (Z00 (wpAny_dictEntries h2 N ?_)));rw [Z0t (by rw [S];simp)];refine Z00 (Z04 (Z00 (wpAny_dictEpoch h2 N ?_)));rw [Z0t (by simp)];obtain ⟨U,T⟩:=Array.getElem?_eq_some_iff.mp O;refine Z04 ?_;simp only [show¬((i:Int)<0) from by lia,if_false,Int.toNat_natCast,O];refine Z00 (Z00 (wpAny_typeNameOfWhole_itemiter k (Z04 (Z00 (wpAny_isOneOf_itemiter k ?_)))));show wpAny _ _ (setField (.ref it) 3 (rawInt ((i:Int)+1)) >>= _) _ _ (⟨a,g,m,r,p⟩:Shared);refine Z00 (Z1h h1 (by simp) λk1 l j=> ?_)
 replace j:Heap.SameBut it a k1:=j
 replace l:IsItemIter k1 it d (i+1) n ep x y:=by
  have z:((i+1:Nat):Int)=(i:Int)+1:=by lia
  unfold IsItemIter;rw [z]
  simpa [rawInt] using l
 have h:Shared.TypeIs ⟨k1,g,m,r,p⟩ (.ref it) "dict_itemiterator":=(i02 _ l rfl);refine Z00 (Z1w (Z00 (wpAny_isOneOf_itemiter h (Z00 (wpAny_isOneOf_itemiter h ?_)))));show wpAny _ _ (Builtin.Dict_items.pairFromOwner (.ref it) 6 e.key e.val) _ _ (⟨k1,g,m,r,p⟩:Shared);unfold Builtin.Dict_items.pairFromOwner;refine Z00 (wpAny_newTuple ?_);have K:k1.objs.size=a.objs.size:=j.1;have R:it<a.objs.size:=Z0a h1;have v:IsItemIter (k1.push { cls:= .type "tuple",data:= .seq #[e.key,e.val] }) it d (i+1) n ep x y:=Z01 _ l;have M:(k1.push { cls:= .type "tuple",data:= .seq #[e.key,e.val] }).get? a.objs.size=some { cls:= .type "tuple",data:= .seq #[e.key,e.val] }:=by rw [<-K];exact Z0c _ rfl
 have P:∀b o,b≠it->a.get? b=some o->(k1.push { cls:= .type "tuple",data:= .seq #[e.key,e.val] }).get? b=some o:=λb o f z=>Z01 _ (j.extBut b o f z);generalize k1.push { cls:= .type "tuple",data:= .seq #[e.key,e.val] }=k2 at v M P;show wpAny _ _ (Builtin.Dict_items.ownedTupleIsFree (.ref it) >>= _) _ _ (⟨k2,g,m,r,p⟩:Shared);rw [K];clear l j h K k1;refine Z00 ?_;unfold Builtin.Dict_items.ownedTupleIsFree;refine Z00 (Z11 v rfl (x:= .none) rfl (Z04 ?_));simp only [if_true];refine Z00 (Z11 v rfl (x:=x) rfl (Z00 (Z11 v rfl (x:=y) rfl (Z00 (Z1h v (by simp) λk3 B I=> ?_)))))
 replace I:Heap.SameBut it k2 k3:=I
 replace B:IsItemIter k3 it d (i+1) n ep e.key y:=B
 refine Z00 (Z1h B (by simp) λk4 J H=> ?_)
 replace H:Heap.SameBut it k3 k4:=H
 replace J:IsItemIter k4 it d (i+1) n ep e.key e.val:=J
 refine Z00 (Z1h J (by simp) λk5 G C=> ?_)
 replace C:Heap.SameBut it k4 k5:=C
 replace G:IsItemIterOut k5 it d (i+1) n ep e.key e.val a.objs.size:=G
 refine Z00 (Z1h G (by simp) λk6 L D=> ?_)
 replace D:Heap.SameBut it k5 k6:=D
 replace L:IsItemIterOut k6 it d (i+1) n ep e.key e.val a.objs.size:=L
 have t:∀b o,b≠it->k2.get? b=some o->k6.get? b=some o:=λb o f z=>D.extBut b o f (C.extBut b o f (H.extBut b o f (I.extBut b o f z)));exact Z00 (wpAny_letGo (Z04 (Z04 (i02 _ rfl (Z04 (q k6 L (t _ _ (Z1q R) M) λb o f z=>t b o f (P b o f z)))))))
theorem C7y {x:Value} (g:A.handled=none)
  (h1:IsItemIter s.heap it d i n ep x y) (h2:s.heap.get? d=some od) (e:od.data= .dict es ep) (f:es.size=n) (h:n<=i)
  (q:∀h',Heap.ExtBut it s.heap h'->Q none { s with heap:=h' }):wpAny (model prog w) A (pyNext (.ref it)) Q E s:=by
 have c:s.TypeIs (.ref it) "dict_itemiterator":=(i02 _ h1 rfl);unfold pyNext;refine Z00 (wpAny_attempt (Z1b (name:=Str.ofString "__next__") c F.slot_dict_itemiterator_next (Z1g F.slot_dict_itemiterator_next c F.entry_dict_itemiterator_next ?_ (F.args_dict_itemiterator_next_1 _))));refine Z00 (Z04 (Z00 (Z00 ?_)));refine Z00 (wpAny_typeNameOfWhole_itemiter c (Z04 (Z00 (wpAny_fieldsOf h1 rfl ?_))));simp only [show Builtin.Dict_items.ownsTuple "dict_itemiterator"=true by decide,if_true];show wpAny _ _ (ite ((Value.ref d == Value.none)=true) _ _) _ _ _;rw [Z0t (show¬((Value.ref d == Value.none)=true) from Z0v)];refine Z00 (Z04 (Z00 (wpAny_dictEntries h2 e ?_)));rw [Z0t (by rw [f];simp)];refine Z00 (Z04 (Z00 (wpAny_dictEpoch h2 e ?_)));rw [Z0t (by simp)];refine Z04 ?_;simp only [show¬((i:Int)<0) from by lia,if_false,Int.toNat_natCast,Array.getElem?_eq_none (show es.size<=i by lia)];refine Z00 (Z00 (wpAny_typeNameOfWhole_itemiter c (Z04 ?_)));show wpAny _ _ (setField (.ref it) 2 .none >>= _) _ _ _;refine Z00 (Z1t h1 rfl (by simp) ?_);show wpAny _ _ (newExc (.type "StopIteration") [] >>= _) _ _ (_:Shared);refine Z00 ?_;simp only [newExc,newTuple];refine Z00 (Z16 (Z00 (m:=firstArgMember _ _) (wpAny_of_eq (a:=Value.none) (by first | rfl | (simp only [firstArgMember];rfl)) (Z16 ?_ (by size_fits)))) (by size_fits));simp only [raiseNew];refine Z00 (wpAny_handled ?_);rw [show A.in1.handled=none from g];refine Z00 (Z04 (wpAny_throw ?_));refine Z00 (wpAny_isInstance (T:="StopIteration") (b:=true) (i02 _ (Z0c _ rfl) rfl) isSubtype_stop (Z04 ?_));exact q _ (((Heap.SameBut.update ..).extBut.push _).push _)
theorem C0y:entryFor table "dict_itemiterator.__iter__"=some Builtin.«dict_keyiterator.__iter__»:=entryFor_alias (id':="dict_keyiterator.__iter__") (by kernel_rfl) rfl (by decide +kernel) (by kernel_rfl)
theorem C5i {x:Value} {Q:Value->Shared->Prop} (st:IsItemIter s.heap it d i n ep x y) (h:Q (.ref it) s):wpAny (model prog w) A (pyIter (.ref it)) Q E s:=by
 have a:s.TypeIs (.ref it) "dict_itemiterator":=(i02 _ st rfl);refine wpAny_pyIter_slot a F.slot_dict_itemiterator_iter (Z1g F.slot_dict_itemiterator_iter a C0y ?_ (F.args_dict_itemiterator_iter_1 _));show wpAny _ _ (ret (.ref it)) _ _ s;exact Z04 (i0o _ rfl "dict_itemiterator" _ a F.slot_dict_itemiterator_next.lookup h)
theorem C4t (d:Addr) (a:(d == sysModules)=false) :
  MeetsIn prog w (Builtin.«dict.items» ⟨[.ref d],[]⟩) (λ_ R s=>s.TypeIs (.ref d) "dict"/\R (.ok (.ret (.ref s.heap.objs.size))) { s with heap:=s.heap.push { cls:= .type "dict_items",data:= .fields #[.ref d] } }) :=
 .of_wp λA R s ⟨b,q⟩=>by
  unfold Builtin.«dict.items»;refine Z00 ?_;unfold Builtin.Dict.noArgs;refine Z00 (wpAny_notOrdered_dict b ?_);show wpAny _ _ (pure d) _ _ s;refine Z04 ?_;show wpAny _ _ (Builtin.Dict.showsAll d >>= _) _ _ s;unfold Builtin.Dict.showsAll;rw [Z0t (by rw [a];exact Z0v)];exact Z00 (Z04 (Z00 (Z16 (Z04 (i02 _ rfl q)))))
end
section
variable {X:Cx}
def isD (u:HO):Prop:=(∃a,u= .dK a)\/∃a,u= .dT a
def C4r (v d:Addr):HO:= .ext λh=>h.IsItemsView v d
theorem D2o {v:Addr} (e:h.IsItemsView v d):A2q P w H h v (C4r v d) :=
 (i00 e (let ⟨o,a,_⟩:=e;⟨o,a⟩) (by rintro f c ⟨o,a,b⟩ k;exact i02 o (k o a) b))
theorem D5x (k:isD u) (x:A2q P w H h a u):(a == sysModules)=false/\∃o es ep,h.get? a=some o/\o.ExactDict/\o.data= .dict es ep:=by
 rcases k with ⟨b,rfl⟩ | ⟨b,rfl⟩
 ·obtain ⟨i,g,j,c,o,es,ep,f,e,d,r⟩:=x;exact ⟨g,(i0n o es ep f e d)⟩
 ·obtain ⟨i,g,j,c,o,es,ep,f,e,d,r⟩:=x;exact ⟨g,(i0n o es ep f e d)⟩
def D9q:V->List V->Hp->VK->Prop:=λx b H Q=>∃a u,x= .ref a/\b=[]/\H a=some u/\isD u/\∀p,H p=none->Q (.ref p) (upd H p (C4r p a))
theorem D2d:MtR X "dict.items" D9q:=by
 intro c s Z H x w v t Q I k l h;obtain ⟨a,u,rfl,rfl,f,m,q⟩:=h;cases k;cases l;obtain ⟨j,o,r,p,i,g,n⟩:=D5x m (I.hok a u f);have d:s.TypeIs (.ref a) "dict":=(i02 o i g.1);refine call_meetsIn PySem.F.slot_dict_items d PySem.F.entry_dict_items (PySem.F.args_dict_items_1 _) (C4t a j) ⟨d,?_⟩;exact i0f (.ref s.heap.objs.size) _ (I.laid (t':=s.toks) (o:=C4r s.heap.objs.size a) (λb u e=>Z01 _ e) (Z09 _) (D2o (i06 _ (Z0c _ rfl) rfl rfl))) rfl (q _ (I.hok.fresh (Z09 _)))
theorem Inv.frozenD (I:Inv X pins Z H s) (c:H a=some u) (g:isD u) (h:s.heap.get? a=some o):Inv X pins Z (upd H a (.frz o u)) s:=by
 have i:∀b f,H b=some (.tup f)->upd H a (.frz o u) b=some (.tup f):=λb f q=>by
  rw [A0i (A3j q c (by rcases g with ⟨_,rfl⟩ | ⟨_,rfl⟩ <;> intro z <;> cases z))];exact q
 have j:∀b,H b=some (.own a)->upd H a (.frz o u) b=some (.own a):=λb q=>by
  rw [A0i (A3j q c (by rcases g with ⟨_,rfl⟩ | ⟨_,rfl⟩ <;> intro z <;> cases z))];exact q
 have d:A2q X.prog X.w (upd H a (.frz o u)) s.heap a (.frz o u):=⟨h,(I.hok a u c).stay (λ_ _ _ q=>q) j i⟩;exact I.write (t':=s.toks) (h':=s.heap) (e:=a) (by rw [c];rcases g with ⟨_,rfl⟩ | ⟨_,rfl⟩ <;> trivial) (.inl rfl) (λ_ _ _ e=>e) ⟨o,h⟩ d
theorem Inv.thawD (I:Inv X pins Z H s) (f:H a=some (.frz o u)) (A:isD u) (y:∀o' l,X.H₀ a≠some (.frz o' l)):Inv X pins Z (upd H a u) s:=by
 have h:∀b,H b=none->upd H a u b=none:=λb e=>by rw [A0i (λz=>by subst z;rw [f] at e;cases e)];exact e
 have i:∀b d,H b=some (.tup d)->upd H a u b=some (.tup d):=λb d q=>by rw [A0i (A3j q f (by intro z;cases z))];exact q
 have m:∀b c,H b=some (.own c)->upd H a u b=some (.own c):=λb c q=>by rw [A0i (A3j q f (by intro z;cases z))];exact q
 refine ⟨I.ok,I.os,I.bare,⟨I.base.keep,I.base.slot,λb j e n r=>h b (I.base.free b j e n r),I.base.there,λb d e=>i b d (I.base.tups b d e),λb j l e=> ?_,λb t e=> ?_⟩,I.loc,I.cell,h _ I.free,λx c e=>h _ (I.freeC x c e),
  λp k=>(i00 ((I.pin p k).1) (h _ (I.pin p k).2.1) ((I.pin p k).2.2)),λb v e=> ?_,I.len⟩
 ·have q:=I.base.frzs b j l e;rw [A0i (λz=>by subst z;exact y _ _ e)];exact q
 ·obtain ⟨g,q⟩:=I.base.tbls b t e;exact ⟨g,by rw [A0i (A3j q f (by intro z;cases z))];exact q⟩
 ·by_cases hb:b=a
  ·subst hb;rw [A0b] at e;cases e;obtain ⟨_,q⟩:=(show A2q X.prog X.w H s.heap b (.frz o u) from I.hok b _ f);exact q.stay (λ_ _ _ q=>q) (λc q=>m c b q) λc d q=>i c d q
  ·rw [A0i hb] at e;exact (I.hok b v e).stay (λ_ _ _ q=>q) (λc q=>m c b q) λc d q=>i c d q
def D9v (X:Cx) (t:TS):TS:=λD Z H=>∃a o u,H a=some (.frz o u)/\isD u/\(∀b c,X.H₀ a≠some (.frz b c))/\t D Z (upd H a u)
theorem C7z {t:TS} (h:PSs X sts t):PSs X sts (D9v X t):=by
 intro b s Z H D I f;obtain ⟨a,o,u,c,e,d,q⟩:=f;exact h b s Z _ D (I.thawD c e d) q
abbrev E2l (es:Array DictEntry) (L:List (V×V)):Prop:=Paired (λ(e:DictEntry) (p:V×V)=>A3c p.1 e.key/\A3c p.2 e.val) es.toList L
def Iti (a:Addr) (o:Obj) (u:HO) (L:List (V×V)):It :=
 ⟨λi H=>H a=some (.frz o u)/\i<L.length,λi H x b=>∃k v p,L[i]? =some (k,v)/\H p=none/\x= .ref p/\b=upd H p (.tup [k,v]),λi H=>H a=some (.frz o u)/\i=L.length⟩
theorem B0w {α β:Type} {F:α->β->Prop}:∀{l:List α} {m:List β},Paired F l m->l.length=m.length
 | _,_,.nil=>rfl
 | _,_,.cons _ t=>by simp [B0w t]
theorem A7a {α β:Type} {F:α->β->Prop}:∀{l:List α} {m:List β},Paired F l m->∀{i:Nat} {y:β},m[i]? =some y->∃x,l[i]? =some x/\F x y
 | _,_,.nil,i,y,e=>by simp at e
 | _,_,.cons r t,0,y,e=>by simp at e;subst e;exact i02 _ rfl r
 | _,_,.cons r t,i+1,y,e=>by
  obtain ⟨x,b,a⟩:=A7a t (i:=i) (by simpa using e);exact i02 x (by simpa using b) a
theorem C4g {kk:Nat} (it a:Addr) (o:Obj) (u:HO) (L:List (V×V)) (es:Array DictEntry) (ep:Nat) (N:o.data= .dict es ep) (q:E2l es L) :
  D4l P w K (.Tuple elts kk pos) (Iti a o u L) [it] it (λi h=>∃x y,IsItemIter h it a i es.size ep x y) where
 mem:=by simp
 obj:=λi h d b F=>by
  have e:b=it:=by simpa using F
  subst e;obtain ⟨x,y,e⟩:=d;exact i02 _ e λv z=>by cases (show Data.fields _=Data.cell v from z)
 keep:=λi h C d k=>let ⟨x,y,e⟩:=d;(i03 x y (k it (by simp) _ e))
 item:=by
  intro X G t B l i f s Z H E I n d r;subst G t B;obtain ⟨A,M⟩:=r;obtain ⟨x,y,d⟩:=d;have W:es.size=L.length:=by have:=B0w q;simpa using this
  obtain ⟨⟨k,v⟩,hkv⟩:∃p,L[i]? =some p:=⟨L[i],by simp [M]⟩;obtain ⟨e,he,R,r2⟩:=A7a q hkv;obtain ⟨j,_⟩:=(show A2q X.prog X.w H s.heap a (.frz o u) from I.hok a _ A);refine C4j d j N rfl (e:=e) (by simpa using he) λC z1 Y kp=> ?_;refine i02 _ rfl (wpAny_letOwnedTupleGo_items (s:={ s with heap:=C }) z1 λg zg O=> ?_)
  have J:s.heap.objs.size≠it:=Z1q (Z0a d)
  have I1:Inv X f Z (upd H s.heap.objs.size (.tup [k,v])) { s with heap:=g,toks:=s.toks }:=I.turnedNew (ts:=[it]) (λc o l e=>by
   have m:c≠it:=by simpa using l
   exact O.extBut _ _ m (kp c o m e)) n (Z09 _) (i05 (by show 2<=sizeLine;decide) [e.key,e.val] (.cons R (.cons r2 .nil)) (i0d _ (O.extBut _ _ J Y) rfl _ rfl))
  refine i0p (.ref s.heap.objs.size) _ I1 rfl (i0r k v _ hkv (I.hok.fresh (Z09 _)) rfl rfl) (i03 _ _ zg) λc l=> ?_;have D:c=it:=by simpa using l
  subst D;rw [A0i J.symm];exact (n c l).1
 done:=by
  intro X G t B l i f s Z H E I n d r;subst G t B;obtain ⟨A,M⟩:=r;obtain ⟨x,y,d⟩:=d;have W:es.size=L.length:=by have:=B0w q;simpa using this
  obtain ⟨j,_⟩:=(show A2q X.prog X.w H s.heap a (.frz o u) from I.hok a _ A);obtain ⟨f0,T,f2,U,f4,Q⟩:=n it (by simp);exact C7y (I.ok.hd l) d j N rfl (by lia) λC S=>⟨rfl,I.turned (t':=s.toks) (λb ob F e=>S b ob F e) f0 T U f4 Q⟩
 self:=λ_ _ s _ _ d h=>by
  obtain ⟨x,y,d⟩:=d;exact C5i d h
end
section
abbrev KL (H:Hp) (kvs:List (List Key×V)) (L:List (V×V)):Prop:=Paired (λ(p:List Key×V) (q:V×V)=>∃b,q.1= .ref b/\H b=some (.tup (p.1.map kV))/\q.2=p.2) kvs L
theorem B4o {α β:Type} {F:α->β->Prop}:∀{l:List α} {m:List β},l.length=m.length->(∀(i:Nat) (x:α) (y:β),l[i]? =some x->m[i]? =some y->F x y)->Paired F l m
 | [],[],_,_=> .nil
 | [],_::_,e,_=>by simp at e
 | _::_,[],e,_=>by simp at e
 | x::l,y::m,e,h=> .cons (h 0 x y rfl rfl) (B4o (by simpa using e) λi a b p q=>h (i+1) a b (by simpa using p) (by simpa using q))
theorem E1l (r:KV kvs vs) (p:Pairs (A1x P w) es.toList vs):E2l es (kvs.map λq=>(kV q.1,q.2)):=by
 refine B4o (by rw [p.length,Z08];exact r.length.symm) λi e y h a=> ?_;rw [Z1z] at a;obtain ⟨⟨k,v⟩,g,rfl⟩:=Z0i.mp a;obtain ⟨u,c,d⟩:=r.at g;obtain ⟨b,f⟩:=p.get? h c;subst f;exact ⟨D7g b,d⟩
theorem D3s {P:Program} {w:World} {H:Hp}:∀{kvs:List (List Key×V)} {xs:List (List Key×Addr×Value)},KT H kvs xs->
  ∃L,Paired (λ(e:DictEntry) (p:V×V)=>A3c p.1 e.key/\A3c p.2 e.val) (xs.map (entryOfKey (tupleKind (A1x P w)))) L/\KL H kvs L
 | _,_,.nil=>(i02 [] .nil .nil)
 | _,_,@Paired.cons _ _ _ p q _ _ h t=>by
  obtain ⟨L,b,a⟩:=D3s (P:=P) (w:=w) t;exact i02 ((.ref q.2.1,p.2)::L) (.cons ⟨rfl,h.2.2⟩ b) (.cons (i06 q.2.1 rfl h.2.1 rfl) a)
def E1y (tl:TE):TI:=λZ H R=>tl Z H λx c=>∃v a u,x= .ref v/\c v=some (C4r v a)/\c a=some u/\
 ((∃b,u= .dK b/\∀o,R (Iti a o u (b.map λq=>(kV q.1,q.2))) (upd c a (.frz o u)))\/∃b,u= .dT b/\∀o L,KL c b L->R (Iti a o u L) (upd c a (.frz o u)))
theorem D3d {l:Expr} {tl:TE} {kk:Nat} (G:PE X l tl):PI X (.Tuple elts kk pos) l (E1y tl):=by
 intro c s Z H R I h;refine thn (G c s Z H _ I h) ?_;rintro y s1 ⟨x,m,I1,D,v,a,u,T,C,n,q⟩;subst T;cases D;obtain ⟨Q,_⟩:=(show A2q X.prog X.w m s1.heap v (C4r v a) from I1.hok v _ C)
 have p:∀(o:Obj) (d:Array DictEntry) (f:Nat) (L:List (V×V)),s1.heap.get? a=some o->o.data= .dict d f->isD u->E2l d L->R (Iti a o u L) (upd m a (.frz o u))->
   wpAny (model X.prog X.w) X.A (pyIter (.ref v)) (PIE X c Z (.Tuple elts kk pos) R) X.xe s1:=by
  intro o d f L j i J z F;refine C4p Q j i ?_;have I2:Inv X c Z m { s1 with heap:=s1.heap.push { cls:= .type "dict_itemiterator",data:= .fields #[.none,.bool false,.ref a,.int 0 0,.int d.size 0,.int f 0,.none,.none] },toks:=s1.toks }:=I1.kept λb W e=>Z01 _ e
  have I3:=I2.frozenD n J (Z01 _ j);refine i14 _ [s1.heap.objs.size] _ _ _ rfl I3 (C4g _ a o u L d f i z) (i03 .none .none (Z0c _ rfl)) (λb S=> ?_) F;have e:b=s1.heap.objs.size:=by simpa using S
  subst e;refine I1.fpOk (Z09 _) ?_;rw [A0i (Z1q (I1.hok.lt n))];exact I1.hok.fresh (Z09 _)
 rcases q with ⟨k,rfl,q⟩ | ⟨k,rfl,q⟩
 ·obtain ⟨O,B,U,g,o,d,f,j,t,i,_,r,_⟩:=C7b I1.hok n;exact p o d f _ j i (.inl ⟨_,rfl⟩) (E1l g r) (q o)
 ·obtain ⟨O,B,Y,g,o,d,f,j,t,i,M,_⟩:=(show A2q X.prog X.w m s1.heap a (.dT k) from I1.hok a _ n);obtain ⟨L,N,K⟩:=D3s (P:=X.prog) (w:=X.w) g;exact p o d f L j i (.inr ⟨_,rfl⟩) (by unfold E2l;rw [M];exact N) (q o L K)
theorem C9l {L:List (V×V)} (Pv:Nat->St->Hp->Prop) (h:Pv 0 Z H) (c:∀i Z H,Pv i Z H->H a=some (.frz o u))
  (n:∀i k v p Z H,L[i]? =some (k,v)->H p=none->Pv i Z H->g (.ref p) Z (upd H p (.tup [k,v])) λZ2 H2=>tb { D with nx:=Pv (i+1),ct:=Pv (i+1),bk:=D.nx } Z2 H2) (d:∀Z H,Pv L.length Z H->D.nx Z H) :
  ∃W:Nat->Nat->St->Hp->Prop,(∃m,W 0 m Z H)/\∀i m Z H,W i m Z H->
   ((Iti a o u L).stop i H/\D.nx Z H)\/((Iti a o u L).go i H/\∃N:St->Hp->Prop,(∀Z' H',N Z' H'->∃b,b<m/\W (i+1) b Z' H')/\∀x H',(Iti a o u L).yld i H x H'->g x Z H' λZ2 H2=>tb { D with nx:=N,ct:=N,bk:=D.nx } Z2 H2):=by
 refine i02 (λi m Z H=>m=L.length-i/\i<=L.length/\Pv i Z H) (i06 L.length (by simp) (Z1e _) h) ?_;rintro i m Z H ⟨rfl,r,p⟩;by_cases hlt:i<L.length
 ·refine .inr (i05 ⟨c i Z H p,hlt⟩ (Pv (i+1)) (λZ' H' f=>(i0c (L.length-(i+1)) (by lia) rfl hlt f)) λx H' y=> ?_);obtain ⟨k,v,q,j,l,rfl,rfl⟩:=y;exact n i k v q Z _ j l p
 ·have e:i=L.length:=by lia
  subst e;exact .inl ⟨⟨c _ Z H p,rfl⟩,d Z H p⟩
end
section
variable {X:Cx}
def D9m (H:Hp):Prop:=(∀a b,H a=some (.dK b)->(b.map (·.1)).Nodup)/\∀a b,H a=some (.dT b)->(b.map (·.1)).Nodup
theorem D7x (r:KV kvs vs):kvs.map (·.1)=vs.map (·.1):=by
 unfold KV at r
 induction r with
 | nil=>rfl
 | cons h t ih=>rw [Z0p,Z0p,ih,h.1]
theorem D4s {kvs:List (List Key×V)} {xs:List (List Key×Addr×Value)} (r:KT H kvs xs):kvs.map (·.1)=xs.map (·.1):=by
 induction r with
 | nil=>rfl
 | cons h t ih=>rw [Z0p,Z0p,ih,h.1]
theorem Inv.apart (I:Inv X pins Z H s):D9m H:=by
 refine ⟨λa c e=> ?_,λa c e=> ?_⟩
 ·obtain ⟨_,_,g,b,o,d,f,_,_,_,_,_,n⟩:=C7b I.hok e;rw [D7x b];exact n
 ·obtain ⟨_,_,h,b,o,d,f,_,_,_,_,n⟩:=(show A2q X.prog X.w H s.heap a (.dT c) from I.hok a _ e);rw [D4s b];exact n
theorem D2k {t:TS} (h:PSs X sts t):PSs X sts (λD Z H=>D9m H->t D Z H):=λa s Z H D I q=>h a s Z H D I (q I.apart)
theorem B2j {κ:Type} [DecidableEq κ] {kvs:List (κ×V)} {k:κ} (n:(kvs.map (·.1)).Nodup) (h:kvs[i]? =some (k,v)) (ws:List (κ×V)) (e:ws.map (·.1)=(kvs.take i).map (·.1)) (u:V):A7y ws k u=ws++[(k,u)]:=by
 unfold A7y;rw [Z0t];intro a;obtain ⟨p,s,c⟩:=List.any_eq_true.mp a;have c:p.1=k:=by simpa using c
 have f:k∈ws.map (·.1):=Z2c.mpr (i02 p s c);rw [e] at f;obtain ⟨q,r,l⟩:=Z2c.mp f;obtain ⟨j,y,d⟩:=List.mem_iff_getElem.mp r;have o:j<i:=by have:=List.length_take_le i kvs;lia
 rw [List.getElem_take] at d;obtain ⟨z,B⟩:=Z03.mp h;have b:j<kvs.length:=by lia
 have g:(kvs.map λx=>x.1)[j]? =some k:=by rw [Z1z,Z0b b,d];exact congrArg some l
 have w:(kvs.map λx=>x.1)[i]? =some k:=by rw [Z1z,h];rfl
 obtain ⟨A,t⟩:=Z03.mp g;obtain ⟨C,m⟩:=Z03.mp w;have:j=i:=(List.getElem_inj n).mp (t.trans m.symm)
 lia
end
theorem C9i:typeLookup (.type "list") "keys"=pure none:=by rw [typeLookup_type,builtinLookup_eq_fast];kernel_rfl
theorem A4t:entryFor table "dict.update.loop"=some Builtin.«dict.update.loop»:=entryFor_of_tree (by kernel_rfl)
theorem A2n:plainId "dict.update.loop"=true:=by decide +kernel
theorem D0k {k:Nat}
  (n:s.heap.get? a=some o) (q:o.cls= .type "list") (f:o.data= .seq xs k) (m:o.dict=none) (t:A.handled=none)
  (h:∀h' tk,(∀b p,s.heap.get? b=some p->h'.get? b=some p)->Q none { s with heap:=h',toks:=tk }):wpAny (model prog w) A (getAttr? (.ref a) "keys") Q E s:=by
 obtain ⟨c,r,x,u⟩:=o;simp only at q f m;subst q f m;obtain ⟨y,g,d,tk,v⟩:=s;have l:∀i,(⟨y,g,d,i,v⟩:Shared).TypeIs (.ref a) "list":=λ_=>(i02 _ n rfl);have C:=sub_AttributeError;have D:=F.slot_list_getattribute.lookup;have B:=F.slot_list_getattribute.bind (.ref a);have z:=am_list_getattr_none;unfold getAttr? getAttrBy? getAttrBy
 repeat (any_goals (first | assumption | exact l _ | ((with_reducible show wpAny _ _ (call (Value.builtin "list.__getattribute__") _ _) _ _ _);refine call_meets F.slot_list_getattribute (l _) am_entry_list_getattribute (F.args_list_getattribute_2 _ _) (meets_getattribute_miss_list a xs k u "keys" _ C9i (by decide) (by decide)) (i00 n t λh' i e j=> ?_)) | wp_step))
 obtain ⟨I,G,H⟩:=j.there;show wpAny _ _ (getattributeRaised _ _ _ _ _ _ _) _ _ _;unfold getattributeRaised
 repeat (any_goals (first | assumption | wp_step))
 all_goals exact h _ _ j.1
section
variable {prog:Program} {w:World} {K:Type} [DecidableEq K] {knd:KeyKind prog w K} {A:Around} {R:Result->Shared->Prop} {I l d:Addr} {items:Array Value} {rs:List (K×Value)} {h₀:Heap} {g:Array GenState} {dr:Drawn} {os:OsState}
def D7q (knd:KeyKind prog w K) (h:Heap) (I d:Addr) (items:Array Value) (rs:List (K×Value)):Prop:=items.size=rs.length/\∀(i:Nat) (v:Value) (k:K) (u:Value),items[i]? =some v->rs[i]? =some (k,u)->
 ∃(b:Addr) (o:Obj) (n:Nat) (a:Value),v= .ref b/\b≠I/\b≠d/\h.get? b=some o/\o.cls= .type "tuple"/\o.data= .seq #[a,u] n/\knd.is k a=true
theorem D2s (hh:A.handled=none) (m:l≠I) (j:d≠I) (y:d≠l) (hsz:rs.length<=sizeLine) (J:D7q knd h₀ I d items rs) (hl:h₀.IsList l items)
  (fin:∀h' tk,h'.DictOf knd d (merged [] rs)->(∀b o,b≠I->b≠d->h₀.get? b=some o->h'.get? b=some o)->R (.ok (.ret .none)) ⟨h',g,dr,tk,os⟩) :
  ∀(k i:Nat) (h:Heap) (tk:Nat),rs.length-i=k->i<=rs.length->h.IsListIter I l i->(∀b o,b≠I->b≠d->h₀.get? b=some o->h.get? b=some o)->h.DictOf knd d (merged [] (rs.take i))->
   codeAny (model prog w) A (.builtin "dict.update.loop" ⟨[.ref d,.ref I,rawInt i,.none],[]⟩) R ⟨h,g,dr,tk,os⟩:=by
 have W:=Walks.list (prog:=prog) (w:=w) (A:=A.in1) hh I l m items;intro k
 induction k with
 | zero =>
  intro i h tk hk hi q t N;have U:i=items.size:=by have:=J.1;lia
  have x:i=rs.length:=by lia
  refine codeAny_builtin A4t ?_;rw [Around.under_plainId A2n _];show wpAny _ A.in1 (pyNext (.ref I) >>= _) _ _ _;refine Z00 (W.done ⟨h,g,dr,tk,os⟩ _ _ (by rw [<-U];exact ⟨q,hl.at λo e=>t l o m (Ne.symm y) e⟩) λh' f a=> ?_);show wpAny _ A.in1 (Builtin.Dict.addKeywords d [] >>= λ_=>ret Value.none) _ _ _;rw [x,Z18] at N;obtain ⟨F,Z,O,X,r⟩:=N;refine Z00 (Z04 (Z04 (fin h' f (i0g F Z O (a d F (by simpa using j) X) r) λb o H S e=>a b o (by simpa using H) (t b o H S e))))
 | succ k ih =>
  intro i h tk hk hi q t N;have Y:i<items.size:=by have:=J.1;lia
  refine codeAny_builtin A4t ?_;rw [Around.under_plainId A2n _];show wpAny _ A.in1 (pyNext (.ref I) >>= _) _ _ _;refine Z00 (W.item i ⟨h,g,dr,tk,os⟩ _ _ Y ⟨q,hl.at λo e=>t l o m (Ne.symm y) e⟩ λv h' f hv B a=> ?_);obtain ⟨⟨k',u⟩,hku⟩:∃p,rs[i]? =some p:=⟨rs[i]'(by have:=J.1;lia),Z0b _⟩;obtain ⟨b,o,n,kv,rfl,L,Q,hb,T,C,P⟩:=J.2 i v k' u hv hku;have M:h'.get? b=some o:=a b o (by simpa using L) (t b o L Q hb);have hT:(⟨h',g,dr,f,os⟩:Shared).TypeIs (.ref b) "tuple":=(i02 _ M T);show wpAny _ A.in1 (holding [Value.ref b] _ >>= _) _ _ _;refine Z00 (Z1w (Z00 (wpAny_tryCatch ?_)));unfold Builtin.Dict.pairItems;refine Z00 (wpAny_typeOf hT ?_);rw [Z12 (by decide)];refine Z00 (Z21 M C (Z04 ?_));show wpAny _ A.in1 (holding [kv,u] (dictSet d kv u)) _ _ _
  have E:h'.DictOf knd d (merged [] (rs.take i)):=by
   obtain ⟨F,Z,O,X,r⟩:=N;exact i0g F Z O (a d F (by simpa using j) X) r
  have G:(merged [] (rs.take i)).length<=sizeLine:=by
   have e1:=merged_length_le ([]:List (K×Value)) (rs.take i);have e2:(rs.take i).length<=rs.length:=by rw [Z0x];lia
   simp only [Z2g,Nat.zero_add] at e1
   lia
  refine Z1w (wpAny_dictSet_pairs (hsz:=G) (s:=⟨h',g,dr,f,os⟩) P E λS z sb=> ?_);rw [<-merged_take_succ [] rs i (k',u) hku] at z;refine Z04 ⟨plainId_quiet A2n _,ih (i+1) S _ (by lia) (by have:=J.1;lia) ?_ ?_ z⟩
  ·exact B.1.at λo e=>(sb.2 I (Ne.symm j)).trans e
  ·intro c oc H D e;exact (sb.2 c D).trans (a c oc (by simpa using H) (t c oc H D e))
end
def B4b (a:Env):List (Str×Addr)->Prop
 | []=>True
 | p::r=>a.cells.lookup p.1=some p.2/\B4b a r
theorem B4b.get {a:Env}:∀{cl:List (Str×Addr)},B4b a cl->∀{x:Str} {c:Addr},cl.lookup x=some c->a.cells.lookup x=some c
 | [],_,_,_,h=>by cases h
 | (y,d)::r,h,x,c,e=>by
  rw [Z28] at e;split at e
  ·rename_i hb;have b:x=y:=by simpa using hb
   cases e
   subst b;exact h.1
  ·exact B4b.get h.2 e
theorem B0i {x:Str}:∀{cl:List (Str×Addr)},x∈cl.map (·.1)->∃c,cl.lookup x=some c
 | [],h=>by cases h
 | (y,d)::r,h=>by
  rw [Z28]
  cases hb:(x == y) with
  | true=>exact ⟨d,rfl⟩
  | false =>
   have a:x≠y:=by simpa using hb
   rcases Z0e.mp h with e | e
   ·exact absurd e a
   ·exact B0i e
theorem C7m {xs:List Str} (t:closureFor scope X.env=pure cl) (s:B4b X.env cl) (j:cl.map (·.1)=xs) (a:scope.kind= .function) (c:∀y∈scope.names,y.2≠.cell/\(y.2= .free->y.1∈xs))
  (q:∀y∈scope.names,y.2= .local->scope.names.lookup y.1=some .local):C8u X scope cl where
 eq:=t
 sub:=λy d h=>s.get h
 has:=λy h=>by
  have b:y∈xs:=by
   have m:∃k,(y,k)∈(relabel scope X.env).names/\(k= .cell\/k= .free):=h.elim (λz=>(i02 _ (A7e z) (.inl rfl))) λz=>(i02 _ (A7e z) (.inr rfl));obtain ⟨k,p,a⟩:=m;obtain ⟨⟨n,f⟩,g,e⟩:=Z2c.mp p;dsimp only at e;by_cases hf:f= .free
   ·have i:n=y:=by
     split at e
     ·exact congrArg Prod.fst e
     ·exact congrArg Prod.fst e
    rw [<-i];exact (c _ g).2 hf
   ·have r:(f == NameKind.free)=false:=by simpa using hf
    simp only [r,Bool.false_and,Bool.false_eq_true,if_false] at e;have o:f=k:=congrArg Prod.snd e;subst o;rcases a with a | a
    ·exact absurd a (c _ g).1
    ·exact absurd a hf
  rw [<-j] at b;exact B0i b
 kind:=a
 ncell:=λy l=>(c y l).1
 names:=q
def B8t (X:Cx) (scope:Scope):List Str->List Nat->Prop
 | [],[]=>True
 | x::xs,j::js=>(X.N[j]? =some x/\(X.env.scope.names.lookup x=some .cell\/X.env.scope.names.lookup x=some .free)/\((relabel scope X.env).names.lookup x=some .cell\/(relabel scope X.env).names.lookup x=some .free))/\B8t X scope xs js
 | _,_=>False
theorem B8t.get {X:Cx} {scope:Scope}:∀{xs:List Str} {js:List Nat},B8t X scope xs js->xs.length=js.length/\∀(i j:Nat),js[i]? =some j->∃x,xs[i]? =some x/\X.N[j]? =some x/\(X.env.scope.names.lookup x=some .cell\/X.env.scope.names.lookup x=some .free)/\((relabel scope X.env).names.lookup x=some .cell\/(relabel scope X.env).names.lookup x=some .free)
 | [],[],_=>⟨rfl,λi j e=>by simp at e⟩
 | x::xs,j::js,h=>by
  obtain ⟨e,f⟩:=B8t.get h.2;refine ⟨by simp [e],λi k a=> ?_⟩
  cases i with
  | zero=>simp at a;subst a;exact i02 x rfl h.1
  | succ i=>exact f i k (by simpa using a)
 | [],_::_,h=>h.elim
 | _::_,[],h=>h.elim
theorem C9s {N0 xs:List Str} {js:List Nat} (h:B8t X scope xs js):D0z X (N0++xs) scope (List.replicate N0.length none++js.map some):=by
 obtain ⟨g,a⟩:=h.get;refine ⟨by simp [g],λi k e=> ?_⟩;by_cases hi:i<N0.length
 ·rw [Z26 (by simpa using hi),List.getElem?_replicate] at e;split at e <;> cases e
 ·rw [Z1l (by simpa using hi),List.length_replicate,Z1z] at e;obtain ⟨j,b,m⟩:=Z0i.mp e;cases m;obtain ⟨x,c,l,f,d⟩:=a _ _ b;exact i0c x (by rw [Z1l (by lia)];exact c) l f d
abbrev PL (H:Hp) (xs:List V) (kvs:List (Key×V)):Prop:=Paired (λ(x:V) (p:Key×V)=>∃b,x= .ref b/\H b=some (.tup [kV p.1,p.2])) xs kvs
section
variable {X:Cx}
theorem D4n {pins:List (Addr×Obj)} {Z:St} {H:Hp} {s:Shared} (I:Inv X pins Z H s):∀{xs:List V} {kvs:List (Key×V)} {its:List Value},PL H xs kvs->A3z xs its->
  ∃rs,KV kvs rs/\Paired (λ(v:Value) (p:Key×Value)=>∃(b:Addr) (o:Obj) (n:Nat) (a:Value),v= .ref b/\s.heap.get? b=some o/\o.cls= .type "tuple"/\o.data= .seq #[a,p.2] n/\(A1x X.prog X.w).is p.1 a=true) its rs
 | _,_,_,.nil,.nil=>(i02 [] .nil .nil)
 | _,_,_,@Paired.cons _ _ _ x p _ _ ⟨b,e,hb⟩ t,.cons rv vs=>by
  obtain ⟨rs,d,g⟩:=D4n I t vs;subst e;cases rv;obtain ⟨_,its,r,o,f,c,n,h⟩:=(show A2q X.prog X.w H s.heap b (.tup [kV p.1,p.2]) from I.hok b _ hb)
  cases r with
  | cons r1 r =>
   cases r with
   | cons r2 r =>
    cases r
    exact i02 ((p.1,_)::rs) (.cons ⟨rfl,r2⟩ d) (.cons (i0y b o n _ rfl f c h (C0w r1)) g)
theorem B5m (hc:X.calm=true):A8l X (.type "dict") (λvs H Q=>∃a xs kvs,vs=[V.ref a]/\H a=some (.lst xs)/\PL H xs kvs/\∀p,H p=none->Q (.ref p) (upd H p (.dK (A4h [] kvs)))):=by
 intro U s Z H vs us Q I r h;obtain ⟨a,xs,kvs,rfl,ha,T,q⟩:=h;obtain ⟨u,rfl,ru⟩:=B1p r;cases ru;obtain ⟨z,f,n,rv,hl,e⟩:=I.lstM ha;obtain ⟨rs,C,E⟩:=D4n I T rv;have W:X.A.handled=none:=I.ok.hd hc;have lk:kvs.length=xs.length:=(Paired.length T).symm;have lr:rs.length=kvs.length:=C.length.symm;have hn:=I.hok.fresh (Z09 s.heap.objs.size);refine callType_codes (Q₁:=λj S=>j= .ref s.heap.objs.size/\S={ s with heap:=s.heap.push { cls:= .type "dict",data:= .dict #[] } }) F.kt_called_dict (F.kt_typeCall_dict_1 _) F.entry_dict_init (kt_code_dict_new _ ⟨rfl,rfl⟩) ?_;rintro j S ⟨rfl,rfl⟩;have c:(s.heap.push { cls:= .type "dict",data:= .dict #[] }).DictOf (A1x X.prog X.w) s.heap.objs.size []:=Heap.DictOf.new s.heap;have B:(s.heap.push { cls:= .type "dict",data:= .dict #[] }).get? a=some { cls:= .type "list",data:= .seq f.toArray n }:=Z01 _ e;have N:Shared.TypeIs { s with heap:=s.heap.push { cls:= .type "dict",data:= .dict #[] } } (.ref a) "list":=(i02 _ B rfl);refine i00 c.typeIs (F.args_dict_init_2 _ _) ?_;unfold Builtin.«dict.__init__»;refine Z00 ?_;unfold Builtin.Dict.selfAndRest;refine Z00 (wpAny_notOrdered_dict c.typeIs ?_);show wpAny _ _ (pure (s.heap.objs.size,[Value.ref a])) _ _ _;refine Z04 ?_;show wpAny _ _ (Builtin.Dict.updateFrom "dict.__init__" s.heap.objs.size (.ref a) [] .none) _ _ _;unfold Builtin.Dict.updateFrom;refine Z00 (wpAny_typeOf N ?_);rw [Z12 (by decide)];refine Z00 (D0k (o:={ cls:= .type "list",data:= .seq f.toArray n }) B rfl rfl rfl (by simpa using W) λy O d=> ?_)
 rw [Z12 (show (none:Option Value).isNone=true from rfl)];refine Z00 (wpAny_rule ?_);have t:y.IsList a f.toArray:=(i0d _ (d _ _ B) rfl n rfl);refine Z00 (wpAny_pyIter_list (s:={ s with heap:=y,toks:=O }) t ?_);have la:a<y.objs.size:=Z0a (d _ _ B);have J:s.heap.objs.size<y.objs.size:=let ⟨_,_,_,g,_⟩:=c;Z0a (d _ _ g);have K:a<s.heap.objs.size:=Z0a e;refine Z04 ⟨plainId_quiet A2n _,D2s (knd:=A1x X.prog X.w) (rs:=rs) (l:=a) (items:=f.toArray) (h₀:=y.push { cls:= .type "list_iterator",data:= .fields #[.ref a,.int 0 0] }) (by simpa using W) (Z0h la) (Z0h J) (Z1q K) (by lia) ?_ (t.push _) ?_ rs.length 0 _ _ (by lia) (Z1e _) (i06 _ (Z0c _ rfl) rfl rfl) (λ_ _ _ _ z=>z) ?_⟩
 ·refine ⟨by simp;lia,λi v k u D M=> ?_⟩;obtain ⟨x,Y,b,o,m,C,ev,P,g2,g3,g4⟩:=A7a E M
  have ex:x=v:=by
   have D:f[i]? =some v:=by simpa using D
   rw [Y] at D;exact Z1a D
  subst ex;have R:=Z0a P;exact i10 b o m C ev (Z0h (Nat.lt_trans R J)) (Z0h R) (Z01 _ (d _ _ (Z01 _ P))) g2 ⟨g3,g4⟩
 ·intro h' tk dd kp;refine i0i rfl (.ref s.heap.objs.size) _ (I.laid (t':=tk) (o:= .dK (A4h [] kvs)) (λb u G=>kp b u (Z0h (Nat.lt_trans (Z0a G) J)) (Z0h (Z0a G)) (Z01 _ (d _ _ (Z01 _ G)))) (Z09 _) (i0a ?_ ?_ _ (KV.merge C .nil) dd)) rfl (q _ hn)
  ·have:=A7t kvs [];simp only [Z2g] at this
   lia
  ·have:=I.big;have L:s.heap.objs.size≠sysModules:=Z1q this
   simpa using L
 ·obtain ⟨od,es,ep,g,r⟩:=c;exact i0g od es ep (Z01 _ (d _ _ g)) r
end
section
variable {D:Addr} {g:TG} {te:TE} {QD:Hp->Prop} {Z₀:St} {H:Hp}
theorem B2v {J:It} (n:Nat) (Pv:Nat->List V->Hp->Prop) (j:Pv 0 [] (upd H D (.lst []))) (d:∀i ys H,i<n->Pv i ys H->J.go i H) (c:∀ys H,Pv n ys H->J.stop n H)
  (k:∀i ys H,i<n->Pv i ys H->∀x b,J.yld i H x b->g x Z₀ b λZ4 H4=>A2w Z₀ Z4/\te Z4 H4 λy a=>a D=some (.lst ys)/\ys.length<sizeLine/\Pv (i+1) (ys++[y]) (upd a D (.lst (ys++[y])))) (h:∀ys H,Pv n ys H->QD H) :
  ∃W:Nat->Nat->Hp->Prop,(∃m,W 0 m (upd H D (.lst [])))/\∀i m H2,W i m H2->
   (J.stop i H2/\QD H2)\/(J.go i H2/\∃N:VK,(∀y a,N y a->∃xs,a D=some (.lst xs)/\xs.length<sizeLine/\∃f,f<m/\W (i+1) f (upd a D (.lst (xs++[y]))))/\
    ∀x b,J.yld i H2 x b->g x Z₀ b λZ4 H4=>A2w Z₀ Z4/\te Z4 H4 N):=by
 refine i02 (λi m H=>m=n-i/\i<=n/\∃ys,Pv i ys H) (i0d n (by simp) (Z1e _) [] j) ?_;rintro i m H2 ⟨rfl,l,ys,p⟩;by_cases hlt:i<n
 ·exact .inr (i05 (d i ys H2 hlt p) (λy a=>a D=some (.lst ys)/\ys.length<sizeLine/\Pv (i+1) (ys++[y]) (upd a D (.lst (ys++[y])))) (λy a z=>(i0v ys z.1 z.2.1 (n-(i+1)) (by lia) rfl hlt _ z.2.2)) λx b z=>k i ys H2 hlt p x b z)
 ·have e:i=n:=by lia
  subst e;exact .inl ⟨c ys H2 p,h ys H2 p⟩
end
theorem D1u (h:X.K=K):IxR X (E4s K):=h▸A1n
theorem C7c {U:String} (h:mroIn K C (.type U)=some b) (a:PySem.W.kitMeta U=true):∀u,A3c (.ty U) u->kitOne K (.ref C) u=some b:=by
 intro u z;cases (show u=Value.type U from z);unfold kitOne;rw [Z0t (show¬(Value.ref C == Value.type U)=true from Z0v)];show (if PySem.W.kitMeta U=true then subIn K (.ref C) (.type U) else none)=some b;rw [Z12 a];exact h
theorem A3i.or {base:Heap} {CX:CXT} {k:Nat} {sp sp':Sp} (F:A3i P w K mg base CX k f fd ps sp) (g:A3i P w K mg base CX k f fd ps sp') :
  A3i P w K mg base CX k f fd ps (λvs H Q E=>sp vs H Q E\/sp' vs H Q E) :=
 ⟨λvs H Q E q=>q.elim (F.len vs H Q E) (g.len vs H Q E),λA a s H b d vs Q E h i e c q=>q.elim (F.run A a s H b d vs Q E h i e c) (g.run A a s H b d vs Q E h i e c)⟩
theorem C2e (a ws:List (Key×V)) (w:Key×V):A4h a (ws++[w])=A7y (A4h a ws) w.1 w.2:=by unfold A4h;rw [List.foldl_append];rfl
section
variable {X:Cx}
theorem C3c {tg:Expr} (c2:X.N.Nodup) (c4:X.N[i₀]? =some x₀) (b4:Loc X.env.scope x₀) (hc:X.calm=true) (S:C8u X scope cl) (io:D0z X N' scope ix) (hi:PI X tg iter wi)
  (hg:∀C s₀ H₀ fp,PG (blk X N' scope cl C s₀ H₀ fp) tg g) (ht:∀C s₀ H₀ fp,PTs (blk X N' scope cl C s₀ H₀ fp) cs tc) (he:∀C s₀ H₀ fp,PE (blk X N' scope cl C s₀ H₀ fp) elt te) (R:C6a->St->It->Hp->Prop) (hR:∀D Z J H1,R D Z J H1->∀D2,H1 D2=none->∃W:Nat->Nat->Hp->Prop,(∃m,W 0 m (upd H1 D2 (.lst [])))/\∀i m H2,W i m H2->
   (J.stop i H2/\D.nx (Z.set i₀ (some (.ref D2))) H2)\/(J.go i H2/\∃(N:VK) (M:Hp->Prop),(∀y q,N y q->∃xs,q D2=some (.lst xs)/\xs.length<sizeLine/\∃t,t<m/\W (i+1) t (upd q D2 (.lst (xs++[y]))))/\(∀q,M q->∃t,t<m/\W (i+1) t q)/\∀x H3,J.yld i H2 x H3->g x (A6q ix Z) H3 λZ4 H4=>A2w (A6q ix Z) Z4/\tc Z4 H4 λb q=>if b=true then te Z4 q N else M q)) (hs:∀x,foldedSetIterable iter X.env x=pure x:=by intro _;rfl)
  (b9:swapsWith (.ListComp elt [⟨tg,iter,cs,0⟩] scope pos) (some (.Name x₀ pos₀)) spos.line X.env=pure true:=by rfl) (b3:X.fn x₀=true\/X.env.scope.names.lookup x₀=some .local:=by first | exact .inl rfl | exact .inr rfl | assumption) :
  PS X (.Assign [.Name x₀ pos₀] (.ListComp elt [⟨tg,iter,cs,0⟩] scope pos) spos) (λD Z H=>wi Z H (R D Z)):=by
 intro l s Z H D₀ I h;rw [exec_Assign_Name_used _ _ _ _ b9];refine Z00 (Z1y (Z00 ?_));show wpAny _ X.A (do let _<-comprehension (.ListComp elt [⟨tg,iter,cs,0⟩] scope pos) scope X.env _ (newList []) false (eval iter X.env) (some (assign (.Name x₀ pos₀) X.env))) _ _ s;refine Z00 (Z10 (wpAny_comprehension_free (use:=some (assign (.Name x₀ pos₀) X.env)) (Q:=λ_ B=>∃Z' H',Inv X l Z' H' B/\D₀.nx Z' H') rfl hs S.eq S.kind S.names (thn (hi l s Z H _ I h) λxv s1 h1=>thn h1 λc8 f h2=> ?_)) (λ_ B hq=>Z04 (Z04 hq)) λ_ _ e=>e);obtain ⟨it,fp,tn,J,H1,rfl,I1,T,a9,f1,R1⟩:=h2;refine Z16 ?_;have hD:H1 f.heap.objs.size=none:=I1.hok.fresh (Z09 _);obtain ⟨W,⟨m0,w0⟩,b0⟩:=hR _ _ _ _ R1 _ hD;have b2:∀b∈fp,b<f.heap.objs.size:=λb k=>let ⟨o,e,_⟩:=T.obj _ _ a9 b k;Z0a e;have I2:Inv X l Z (upd H1 f.heap.objs.size (.lst [])) { f with heap:=f.heap.push { cls:= .type "list",data:= .seq ([]:List Value).toArray },toks:=f.toks }:=I1.lnew (its:=[]) .nil (Z1e _);have f2:∀b∈fp,C1w X l (upd H1 f.heap.objs.size (.lst [])) b:=λb k=>⟨by rw [A0i (Z0h (b2 b k))];exact (f1 b k).1,(f1 b k).2⟩
 have a2:∀b∈fp,b<(f.heap.push { cls:= .type "list",data:= .seq ([]:List Value).toArray }).objs.size:=λb k=>by rw [Z1s];exact Nat.lt_succ_of_lt (b2 b k)
 refine wpAny_newFunctionEnv S.ncell (by intro y hy;simp at hy) (λh3 a0 a3=> ?_) S.kind;dsimp only at a0 a3⊢;have k3:∀b o,(f.heap.push { cls:= .type "list",data:= .seq ([]:List Value).toArray }).get? b=some o->h3.get? b=some o:=λb o e=>(a3.2 b (Z0h (Z0a e))).trans (Z01 _ e);generalize hs2:({ f with heap:=f.heap.push { cls:= .type "list",data:= .seq ([]:List Value).toArray },toks:=f.toks }:Shared)=s3 at I2;have e3:f.heap.push { cls:= .type "list",data:= .seq ([]:List Value).toArray }=s3.heap:=by rw [<-hs2]
 rw [e3] at a0 k3 a2;have I3:=B8d (N':=N') (ix:=ix) I2 S io f2 a2 (h':=h3) (t':=f.toks+([]:List (Str×Value)).length) a0 k3;have e4:({ s3 with heap:=h3,toks:=f.toks+([]:List (Str×Value)).length }:Shared)={ f with heap:=h3,toks:=f.toks+([]:List (Str×Value)).length }:=by rw [<-hs2]
 rw [e4] at I3;have a7:tn 0 h3:=T.keep _ _ _ a9 λb k o e=>k3 b o (by rw [<-e3];exact Z01 _ e)
 have L:∀s4:Shared,s4={ f with heap:=h3,toks:=f.toks+([]:List (Str×Value)).length }->
   codeAny (model X.prog X.w) X.A (.compLoop (.ListComp elt [⟨tg,iter,cs,0⟩] scope pos) 0 (.ref it) (.ref f.heap.objs.size) (compEnvC scope cl s3.heap.objs.size X.env))
    (compPost (model X.prog X.w) X.A X.xe (some (assign (.Name x₀ pos₀) X.env)) (λ_ B=>∃Z' H',Inv X l Z' H' B/\D₀.nx Z' H') (.ref f.heap.objs.size) s3.heap.objs.size) s4:=by
  rintro s4 rfl
  have K:∀{H':Hp},(∀b∈fp,H' b=none)->∀b∈fp,C1w (blk X N' scope cl s3.heap.objs.size s3 (upd H1 f.heap.objs.size (.lst [])) fp) [] H' b:=λhn b k =>
   (i0h (hn b k) (Z0h (a2 b k)) (λhs=>I3.ok.exfs b k hs) (.inl k) (λx c e=>(f2 b k).2.2.2.2.1 x c (S.sub x c e)) (λp hp=>by cases hp))
  refine codeAny_loop rfl (λn B=>∃i Z' H',Inv (blk X N' scope cl s3.heap.objs.size s3 (upd H1 f.heap.objs.size (.lst [])) fp) [] Z' H' B/\(∀(j:Nat) v,(A6q ix Z)[j]? =some (some v)->Z'[j]? =some (some v))/\tn i B.heap/\(∀b∈fp,H' b=none)/\W i n H')
   (λn B hI=> ?_) m0 (i0u 0 _ _ I3 (λ_ _ z=>z) a7 (λb k=>(f2 b k).1) w0)
  obtain ⟨i,Z5,q,I5,wk,b1,a5,w5⟩:=hI;show wpAny _ _ ((compTurn (.ListComp elt [⟨tg,iter,cs,0⟩] scope pos) 0 (.ref it) (.ref f.heap.objs.size) (compEnvC scope cl s3.heap.objs.size X.env)).onRaise (λx=>do noteFrame x (compEnvC scope cl s3.heap.objs.size X.env);theTreesLotGoes x)) _ _ B;refine wpAny_noted ?_;rw [compTurn_list];refine Z00 (Z1y ?_);rcases b0 i n q w5 with ⟨stop,qn⟩ | ⟨go,NN,MM,c7,c3,a4⟩
  ·refine Z00 (Z10 (T.done (blk X N' scope cl s3.heap.objs.size s3 (upd H1 f.heap.objs.size (.lst [])) fp) rfl rfl rfl hc i [] B Z5 q (λ_ _=>False) I5 (K a5) b1 stop) (λr s6 h6=> ?_) λ_ _ z=>z.elim);obtain ⟨rfl,I6⟩:=h6;refine Z04 ?_;obtain ⟨mm,hm,_⟩:=id I6.loc;have U:C1w X l q s3.heap.objs.size:=I2.fpOk (Z09 _) I6.free;have Io:Inv X l Z q s6:=C8x I2 f2 I6 (Heap.SameBut.refl _ _);show wpAny _ X.A (assign (.Name x₀ pos₀) X.env (.ref f.heap.objs.size)) _ _ s6;refine wpAny_assign_Name (B8y Io c2 c4 b4 (v:= .ref f.heap.objs.size) rfl (λs7 I7 c6=> ?_) b3);obtain ⟨a,sb,ha⟩:=c6
   have ca:s3.heap.objs.size≠a:=by
    rcases ha with ha | ha
    ·rw [ha];exact U.2.1
    ·exact λz=>U.2.2.2.2.1 _ _ ha z.symm
   obtain ⟨oC,es,ep,ho,r⟩:=hm;exact i02 mm (i0g oC es ep ((sb.2 _ ca).trans ho) r) λh' c5=>(i07 _ q (I7.turned (t':=s7.toks) (λb o k e=>(c5.2 b k).trans e) U.1 U.2.1 U.2.2.2.1 U.2.2.2.2.1 U.2.2.2.2.2) qn)
  ·refine Z00 (Z10 (T.item (blk X N' scope cl s3.heap.objs.size s3 (upd H1 f.heap.objs.size (.lst [])) fp) rfl rfl rfl hc i [] B Z5 q (λ_ _=>False) I5 (K a5) b1 go) (λr s6 h6=> ?_) λ_ _ z=>z.elim);obtain ⟨u,rfl,h6⟩:=h6;refine Z00 (Z10 h6 (λ_ s7 h7=> ?_) λ_ _ z=>z.elim);obtain ⟨x,H7,I7,r7,y7,Y,c0⟩:=h7;have I7w:Inv (blk X N' scope cl s3.heap.objs.size s3 (upd H1 f.heap.objs.size (.lst [])) fp) [] (A6q ix Z) H7 s7:=I7.weak (by rw [I7.len];unfold A6q;rw [Z08];exact io.1) wk;have I7p:=I7w.pinned (K c0) (T.obj _ _ Y);refine Z00 (Z10 (hg _ _ _ _ _ s7 _ H7 x u _ I7p r7 (a4 x H7 y7)) (λ_ s8 h8=> ?_) λ_ _ z=>z.elim);obtain ⟨Z8,H8,I8,a8,q8⟩:=h8
   have P:∀{O:Shared} {Z10:St} {G:Hp} {t:Nat},Inv (blk X N' scope cl s3.heap.objs.size s3 (upd H1 f.heap.objs.size (.lst [])) fp) ([]++B5p fp s7.heap) Z10 G O->(∀(j:Nat) v,(A6q ix Z)[j]? =some (some v)->Z10[j]? =some (some v))->W (i+1) t G->
     ∃i Z' H',Inv (blk X N' scope cl s3.heap.objs.size s3 (upd H1 f.heap.objs.size (.lst [])) fp) [] Z' H' O/\(∀(j:Nat) v,(A6q ix Z)[j]? =some (some v)->Z'[j]? =some (some v))/\tn i O.heap/\(∀b∈fp,H' b=none)/\W i t H':=by
    intro O Z10 G t I10 kk a1;refine i0u (i+1) Z10 G I10.unpinned kk (T.keep _ _ _ Y λb k o e=>(I10.pin (b,o) (Z02 _ (Z02 _ (A5k k e)))).1) (λb k=> ?_) a1;obtain ⟨o,e,d⟩:=T.obj _ _ Y b k;exact (I10.pin (b,o) (Z02 _ (Z02 _ (A5k k e)))).2.1
   refine Z00 (Z10 (ht _ _ _ _ _ s8 Z8 H8 _ I8 q8) (λok c1 b6=> ?_) λ_ _ z=>z.elim);obtain ⟨H9',I9',a6⟩:=b6
   cases ok with
   | false =>
    have F:MM H9':=by simpa using a6
    obtain ⟨t,E,w9⟩:=c3 _ F;exact Z00 (Z04 (Z04 (i05 rfl t E (P I9' a8.get w9))))
   | true =>
    have F:te Z8 H9' NN:=by simpa using a6
    refine Z00 (Z00 (Z10 (he _ _ _ _ _ c1 Z8 H9' _ I9' F) (λyv s9 h9=> ?_) λ_ _ z=>z.elim));obtain ⟨y,H9,I9,r9,n9⟩:=h9;obtain ⟨xs,b5,b7,t,E,w9⟩:=c7 _ _ n9;refine Z00 (Z10 (A2e (X:=blk X N' scope cl s3.heap.objs.size s3 (upd H1 f.heap.objs.size (.lst [])) fp) _ s9 Z8 H9 (.ref f.heap.objs.size) [y] (.ref f.heap.objs.size) [yv] (λ_ H'=>W (i+1) t H') I9 rfl (.cons r9 .nil) (i0u _ xs y rfl rfl b5 b7 w9)) (λ_ O b8=> ?_) λ_ _ z=>z.elim);obtain ⟨_,G,I10,_,a1⟩:=b8;exact Z04 (Z04 (i05 rfl t E (P I10 a8.get a1)))
 have e5:s3.heap.objs.size=(f.heap.push { cls:= .type "list",data:= .seq ([]:List Value).toArray }).objs.size:=by rw [e3]
 rw [e5] at L;exact codeAny_compStart_list (L _ rfl) (T.self X.A 0 _ _ _ a7 (L _ rfl))
theorem B7c {tg:Expr} (k:X.N.Nodup) (d:X.N[i₀]? =some x₀) (e:Loc X.env.scope x₀) (y:X.calm=true) (t:C8u X scope cl) (v:D0z X N' scope ix) (hi:PI X tg iter wi)
  (q:∀C c H₀ fp,PG (blk X N' scope cl C c H₀ fp) tg g) (A:∀C c H₀ fp,PE (blk X N' scope cl C c H₀ fp) elt te) (s:∀x,foldedSetIterable iter X.env x=pure x:=by intro _;rfl)
  (j:swapsWith (.ListComp elt [⟨tg,iter,[],0⟩] scope pos) (some (.Name x₀ pos₀)) spos.line X.env=pure true:=by rfl) (f:X.fn x₀=true\/X.env.scope.names.lookup x₀=some .local:=by first | exact .inl rfl | exact .inr rfl | assumption) :
  PS X (.Assign [.Name x₀ pos₀] (.ListComp elt [⟨tg,iter,[],0⟩] scope pos) spos) (D9a (E0g ix wi g te) (A7n i₀)) :=
 C3c (tc:=λ_ H Q=>Q true H) k d e y t v hi q (λ_ _ _ _ _ _ _ _ _ I h=>wpAny_tests_nil (i02 _ I h)) A _ (λ_ _ _ _ R r u=>by
  obtain ⟨W,p,a⟩:=R r u;refine i02 W p λi m l w=>(a i m l w).imp id λ⟨n,N,o,b⟩=>(i0i n N (λ_=>False) o (λ_ z=>z.elim) ?_)
  simpa using b) s j f
theorem B8k {tg c:Expr} (j:X.N.Nodup) (d:X.N[i₀]? =some x₀) (e:Loc X.env.scope x₀) (p:X.calm=true) (n:C8u X scope cl) (o:D0z X N' scope ix) (hi:PI X tg iter wi)
  (l:∀C a H₀ fp,PG (blk X N' scope cl C a H₀ fp) tg g) (k:∀C a H₀ fp,PT (blk X N' scope cl C a H₀ fp) c tc) (q:∀C a H₀ fp,PE (blk X N' scope cl C a H₀ fp) elt te) (m:∀x,foldedSetIterable iter X.env x=pure x:=by intro _;rfl)
  (i:swapsWith (.ListComp elt [⟨tg,iter,[c],0⟩] scope pos) (some (.Name x₀ pos₀)) spos.line X.env=pure true:=by rfl) (f:X.fn x₀=true\/X.env.scope.names.lookup x₀=some .local:=by first | exact .inl rfl | exact .inr rfl | assumption) :
  PS X (.Assign [.Name x₀ pos₀] (.ListComp elt [⟨tg,iter,[c],0⟩] scope pos) spos) (D9a (C7d ix wi g tc te) (A7n i₀)) :=
 C3c j d e p n o hi l (λC a H₀ fp b s Z H Q I h=>wpAny_tests_one (k C a H₀ fp b s Z H Q I h)) q _ (λ_ _ _ _ R=>R) m i f
end
def E1p (H:Hp) (u v:V):Prop:=(∃d,Rep H u d/\Rep H v d/\d.canLay0=true/\d.depth<=60)\/
 ∃a b c,u= .ref a/\v= .ref b/\Rd H a (.dK c)/\Rd H b (.dK c)/\∀p∈c,(∃i,p.2= .int i)\/∃z,p.2= .str z
section
variable {X:Cx}
theorem D3h (I:Inv X pins Z H s) (T:A.units+62<cLine) {u:V} {p q:Value} (h:E1p H u v) (e:A3c u p) (j:A3c v q) {Q:Bool->Shared->Prop} (f:Q true s) :
  wpAny (model X.prog X.w) A (eqBool p q) Q E s:=by
 rcases h with ⟨d,G,C,g,S⟩ | ⟨a,b,x,rfl,rfl,J,O,o⟩
 ·obtain ⟨N,P⟩:=A8m I G e;obtain ⟨M,L⟩:=A8m I C j
  have c:SeqAt.EqAt A s p q (PyData.eqv d d):=SeqAt.eqAt_reads d d A s p q N M P L g g (by
   have i:min d.depth d.depth<=d.depth:=Nat.min_le_left _ _
   lia)
  rw [SeqAt.eqv_refl d g] at c;exact c _ _ _ _ f
 ·cases e
  cases j
  by_cases hab:a=b
  ·subst hab;exact SeqAt.EqAt.same _ _ _ _ _ f
  ·obtain ⟨_,y,R,n,D⟩:=B5b I.hok J;obtain ⟨_,K,m,l,k⟩:=B5b I.hok O;have t:(m.map (·.1)).Nodup:=let ⟨_,_,_,_,_,_,_,_,hn⟩:=k;hn;have F:R.length=m.length:=n.length.symm.trans l.length;unfold eqBool;refine Z1w (wpAny_ite_split (λz=>absurd (by have:=eq_of_beq z;injection this) hab) λ_=> ?_);refine Z00 (PySem.W.keq_eq (knd:=A1x X.prog X.w) (r:=true) y K D k (by lia) (λ_=>D5u n o λp B=> ?_) ?_)
   ·obtain ⟨u,i,e⟩:=l.mem B;exact i02 u (B5o t i) e
   ·rw [F];simp only [beq_self_eq_true,Bool.and_self];exact wpAny_truthy_bool f
end
theorem B0l (h:X.K=K):A8l X (.type "list") (λxs H Q=>∃p ys,xs=[.ref p]/\(SqL K H p ys\/SqT K H p ys)/\∀l,H l=none->Q (.ref l) (upd H l (.lst ys))):=h▸A4z
section
variable {X:Cx}
theorem C4m (F:X.calm=true):A8l X (.type "list") (λvs H Q=>∃a kvs,vs=[V.ref a]/\H a=some (.dK kvs)/\∀l,H l=none->Q (.ref l) (upd H l (.lst (kvs.map λp=>kV p.1)))):=by
 intro j s Z H vs E Q I r h;obtain ⟨a,kvs,rfl,G,q⟩:=h;obtain ⟨u,rfl,M⟩:=B1p r;cases M;obtain ⟨n,B,L,d,o,U,ep,P,f,z,N⟩:=C7b I.hok G;have C:s.heap.DictAt (A1x X.prog X.w) a L ep:=(i0m o U P f z N);have t:=d.length;refine PySem.W.kdl_call (PySem.W.kdl_dict B) (I.ok.hd F) C (by rw [<-t];exact n) λR J e c S T b=> ?_
 have D:A3z (kvs.map λp=>kV p.1) e.toList:=B4o (by rw [Z08,t];exact b.1.symm) λi x y f K=>by
  rw [Z1z] at f;obtain ⟨⟨k,v⟩,g,rfl⟩:=Z0i.mp f;obtain ⟨Y,v',m,O⟩:=b.2 i y (by rw [<-Array.getElem?_toList];exact K);obtain ⟨u,A,_⟩:=d.at g;rw [A] at m;cases m;exact D7g O
 exact i0f (.ref s.heap.objs.size) _ (I.laid (t':=J) S (Z09 _) (show A2q X.prog X.w _ R _ (.lst _) from (i0b (by rw [Z08];exact n) e.toList c D (by simpa using T)))) rfl (q _ (I.hok.fresh (Z09 _)))
end
def D9g (K:Frag):List V->Hp->VK->Prop:=λh H Q=>∃a C f g e c b,h=[.ref a,.ref e]/\H a=some (.ins C f g)/\Cls K C/\findIn K (.ref C) "__class__"=some (some (.builtin "object.__class__"))/\
 specialIn K (.builtin "object.__class__") "__get__"=some (some (.builtin "getset_descriptor.__get__"))/\takesIn K (.builtin "object.__class__")=some true/\mroIn K C (.type "object")=some true/\
 H e=some (.tup c)/\(∀d,A3z c d->kitAny K (.ref C) d=some b)/\Q (.bl b) H
theorem B5k:A8l X (.builtin "isinstance") (D9g X.K):=by
 intro i s Z H E R Q I r h;refine e08 h ?_;clear h;rintro a C T N m ⟨p,b,rfl,x,j,A,t,d,v,o,k,q⟩;obtain ⟨u,U,rfl,D,e⟩:=C9g r;cases D;cases e;obtain ⟨_,f,y,F,c,l,n,g⟩:=(show A2q X.prog X.w H s.heap m (.tup p) from I.hok m _ o);obtain ⟨Y,S,G,M⟩:=F;dsimp only at l g;subst l g;obtain ⟨P,O,_⟩:=B4g I.hok x;obtain ⟨L,J,_⟩:=O.look;exact PySem.W.kia_tup (PySem.W.kitx_own (j.get _) j.hd A t d v) I.kIn J c (k f y) (λz=>nomatch z) λB=>(i0f (.bl b) H (I.tok B) rfl q)
abbrev B3o (h:Heap) (z TI TO:Addr) (a:Value) (b:Bool):Prop :=
 h.get? z=some { cls:= .type "zip",dict:=none,data:= .fields #[a,.bool b,.bool false,.ref TI,.ref TO],slots:= #[] }
section
variable {prog:Program} {w:World} {A:Around} {E:Value->Shared->Prop} {s:Shared}
theorem C2f {Q:Option Obj->Shared->Prop} (h:Q (s.heap.get? a) s):wpAny (model prog w) A (loadIfAlive a) Q E s:=λΓ p _=>by
 show PySem.Sem.wp _ Γ (.loadIfAlive a .pure) _ _ p s;rw [PySem.Sem.wp];exact h
theorem B3p {z TI TO:Addr} {Q:Bool->Shared->Prop} (a:B3o s.heap z TI TO (rawInt (p:Int)) b) (f:s.heap.get? p=some o)
  (q:∀h',B3o h' z TI TO (rawInt (p:Int)) true->Heap.SameBut z s.heap h'->Q false { s with heap:=h' }):wpAny (model prog w) A (Builtin.SmallTypes.ownedTupleIsFree (.ref z)) Q E s:=by
 unfold Builtin.SmallTypes.ownedTupleIsFree;refine Z00 (Z11 a rfl (x:=rawInt (p:Int)) rfl ?_);show wpAny _ _ (loadIfAlive (Int.toNat (p:Int)) >>= _) _ _ _;refine Z00 (C2f ?_);rw [Int.toNat_natCast,f];show wpAny _ _ (field (.ref z) 1 >>= _) _ _ _;refine Z00 (Z11 a rfl (x:= .bool b) rfl ?_)
 cases b with
 | true =>
  show wpAny _ _ (pure false) _ _ _;exact Z04 (q s.heap a ⟨rfl,λ_ _=>rfl⟩)
 | false =>
  show wpAny _ _ (setField (.ref z) 1 (.bool true) >>= _) _ _ _;refine Z00 (Z1h a (by simp) λc d e=> ?_);exact Z04 (q c d e)
end
section
variable {z TI TO i1 i2 l1 l2:Addr} {st1 st2:Nat->Heap->Prop} {src1 src2:Array Value->Heap->Prop} {prog:Program} {w:World} {A:Around} {E:Value->Shared->Prop} {s:Shared}
theorem D2n (N1:Nx i1 l1 st1 src1) (N2:Nx i2 l2 st2 src2) {x:Value} (D:ZipApart z TI TO i1 i2 l1 l2)
  (f:B3o s.heap z TI TO (rawInt (p:Int)) b) (I:s.heap.get? p=some o) (n:IsPair s.heap TI (.ref i1) (.ref i2)) (h1:st1 k1 s.heap) (h2:st2 k2 s.heap) (m:src1 xs s.heap) (l:src2 ys s.heap) (L:xs[k1]? =some x) (K:ys[k2]? =some y)
  (J:∀h',B3o h' z TI TO (rawInt (p:Int)) true->st1 (k1+1) h'->st2 (k2+1) h'->IsPair h' s.heap.objs.size x y->
   (∀c o,c≠z->c≠i1->c≠i2->s.heap.get? c=some o->h'.get? c=some o)->Q (some (.ref s.heap.objs.size)) { s with heap:=h' }):wpAny (model prog w) A (pyNext (.ref z)) Q E s:=by
 have q:s.TypeIs (.ref z) "zip":=(i02 _ f rfl);unfold pyNext;refine Z00 (wpAny_attempt (Z1b (name:=Str.ofString "__next__") q F.slot_zip_next (Z1g F.slot_zip_next q F.entry_zip_next ?_ (F.args_zip_next_1 _))));show wpAny _ _ (field (.ref z) 2 >>= _) _ _ _;refine Z00 (Z11 f rfl (x:= .bool false) rfl ?_);show wpAny _ _ (field (.ref z) 3 >>= _) _ _ _;refine Z00 (Z11 f rfl (x:= .ref TI) rfl ?_);refine Z00 (Z21 n rfl ?_);show wpAny _ _ (Builtin.SmallTypes.ownedTupleIsFree (.ref z) >>= _) _ _ _;refine Z00 (B3p f I λN G d=> ?_);simp only [Bool.false_eq_true,if_false];refine Z00 ?_;simp only [<-Array.forIn_toList,List.forIn_cons,List.forIn_nil];refine Z00 (Z00 (Z1w ?_));show wpAny _ _ (Builtin.SmallTypes.nextOf (.ref i1) >>= _) _ _ _;refine Z00 (N1.item (N1.mv h1 λo e=>d.extBut _ _ D.i1z e) (N1.mvS m λo e=>d.extBut _ _ D.l1z e) L λM t g=>Z04 (Z04 ?_));refine Z00 (Z00 (Z1w ?_));show wpAny _ _ (Builtin.SmallTypes.nextOf (.ref i2) >>= _) _ _ _;refine Z00 (N2.item (N2.mv h2 λo e=>g.extBut _ _ D.i12.symm (d.extBut _ _ D.i2z e)) (N2.mvS l λo e=>g.extBut _ _ D.l2i1 (d.extBut _ _ D.l2z e)) K λg3 B h=>Z04 (Z04 (Z04 ?_)));have a:g3.objs.size=s.heap.objs.size:=by rw [h.1,g.1,d.1]
 have C:z<g3.objs.size:=by rw [a];exact Z0a f
 show wpAny _ _ (newTuple [x,y] >>= _) _ _ _;refine Z00 (wpAny_newTuple ?_);have u:B3o g3 z TI TO (rawInt (p:Int)) true:=h.extBut _ _ D.i2z.symm (g.extBut _ _ D.i1z.symm G);have H:∀c o,c≠z->c≠i1->c≠i2->s.heap.get? c=some o->g3.get? c=some o:=λc o i k j e=>h.extBut _ _ j (g.extBut _ _ k (d.extBut _ _ i e));have v:st1 (k1+1) g3:=N1.mv t λo e=>h.extBut _ _ D.i12 e;have r:IsPair (g3.push { cls:= .type "tuple",data:= .seq #[x,y] }) g3.objs.size x y:=Z0c _ rfl;rw [a] at r;refine Z04 (i02 _ rfl (Z04 ?_));show Q (some (.ref g3.objs.size)) _;rw [a];exact J _ (Z01 _ u) (N1.mv v λo e=>Z01 _ e) (N2.mv B λo e=>Z01 _ e) r λc o i k j e=>Z01 _ (H c o i k j e)
theorem D5p (N1:Nx i1 l1 st1 src1) (N2:Nx i2 l2 st2 src2) (r:A.handled=none) (D:ZipApart z TI TO i1 i2 l1 l2)
  (g:B3o s.heap z TI TO (rawInt (p:Int)) b) (G:s.heap.get? p=some o) (n:IsPair s.heap TI (.ref i1) (.ref i2)) (h1:st1 k1 s.heap) (h2:st2 k2 s.heap) (i:src1 xs s.heap) (l:src2 ys s.heap) (f:xs[k1]? =none\/ys[k2]? =none)
  (L:∀h',(∀c o,c≠z->c≠i1->c≠i2->s.heap.get? c=some o->h'.get? c=some o)->Q none { s with heap:=h' }):wpAny (model prog w) A (pyNext (.ref z)) Q E s:=by
 have t:s.TypeIs (.ref z) "zip":=(i02 _ g rfl);unfold pyNext
 have fin:∀(h':Heap) (e:Addr),(∀c o,c≠z->c≠i1->c≠i2->s.heap.get? c=some o->h'.get? c=some o)->(∃o,h'.get? e=some o/\o.cls= .type "StopIteration")->
   wpAny (model prog w) A (isInstance (.ref e) (.type "StopIteration") >>= λb=>if b=true then pure none else throw (.ref e)) Q E { s with heap:=h' }:=λh' e K ⟨o,J,H⟩ =>
  Z00 (wpAny_isInstance (T:="StopIteration") (b:=true) (i02 o J H) isSubtype_stop (Z04 (L _ K)))
 refine Z00 (wpAny_attempt (Z1b (name:=Str.ofString "__next__") t F.slot_zip_next (Z1g F.slot_zip_next t F.entry_zip_next ?_ (F.args_zip_next_1 _))));show wpAny _ _ (field (.ref z) 2 >>= _) _ _ _;refine Z00 (Z11 g rfl (x:= .bool false) rfl ?_);show wpAny _ _ (field (.ref z) 3 >>= _) _ _ _;refine Z00 (Z11 g rfl (x:= .ref TI) rfl ?_);refine Z00 (Z21 n rfl ?_);show wpAny _ _ (Builtin.SmallTypes.ownedTupleIsFree (.ref z) >>= _) _ _ _;refine Z00 (B3p g G λN O a=> ?_);simp only [Bool.false_eq_true,if_false];refine Z00 ?_;simp only [<-Array.forIn_toList,List.forIn_cons,List.forIn_nil];refine Z00 (Z00 (Z1w ?_));show wpAny _ _ (Builtin.SmallTypes.nextOf (.ref i1) >>= _) _ _ _;have v:=N1.mv h1 λo e=>a.extBut _ _ D.i1z e;have q:=N1.mvS i λo e=>a.extBut _ _ D.l1z e
 cases hx:xs[k1]? with
 | none =>
  refine Z00 (N1.fin r v q hx λu e d j=> ?_);exact fin u e (λc o k m _ x=>d _ _ m (a.extBut _ _ k x)) j
 | some x =>
  have I:ys[k2]? =none:=by
   rcases f with h | h
   ·rw [hx] at h;cases h
   ·exact h
  refine Z00 (N1.item v q hx λu M d=>Z04 (Z04 ?_));refine Z00 (Z00 (Z1w ?_));show wpAny _ _ (Builtin.SmallTypes.nextOf (.ref i2) >>= _) _ _ _;refine Z00 (N2.fin r (N2.mv h2 λo e=>d.extBut _ _ D.i12.symm (a.extBut _ _ D.i2z e)) (N2.mvS l λo e=>d.extBut _ _ D.l2i1 (a.extBut _ _ D.l2z e)) I λC e y j=> ?_);exact fin C e (λc o k m B x=>y _ _ B (d.extBut _ _ m (a.extBut _ _ k x))) j
end
def ZS (z TI TO i1 i2 a b d:Addr) (i:Nat) (h:Heap):Prop:=IsPair h TI (.ref i1) (.ref i2)/\h.IsListIter i1 a i/\h.IsTupleIter i2 b i/\
 ((IsZip h z TI TO .none/\∃u v,IsPair h TO u v)\/∃(p:Addr) (o:Obj) (c:Bool),B3o h z TI TO (rawInt (p:Int)) c/\h.get? p=some o/\p≠z/\p≠i1/\p≠i2/\p≠d)
theorem ZS.at {z TI TO i1 i2 b:Addr} (x:ZS z TI TO i1 i2 a b d i h) (k:z≠d) (n:TI≠d) (C:TO≠d) (r:i1≠d) (s:i2≠d) (f:∀c o,c≠d->h.get? c=some o->h'.get? c=some o):ZS z TI TO i1 i2 a b d i h':=by
 obtain ⟨m,A,y,g⟩:=x;refine i04 (f _ _ n m) ((A8v i1 a).mv A λo e=>f _ _ r e) ((A6g i2 b).mv y λo e=>f _ _ s e) ?_;rcases g with ⟨g,u,v,j⟩ | ⟨p,o,w,g,j,B,t,q,l⟩
 ·exact .inl ⟨f _ _ k g,(i03 u v (f _ _ C j))⟩
 ·exact .inr ⟨p,(i0t o w (f _ _ k g) (f _ _ l j) B t q l)⟩
section
variable {z TI TO i1 i2 a b d:Addr} {prog:Program} {w:World} {A:Around} {E:Value->Shared->Prop} {s:Shared}
theorem D5l {x:Value} (D:ZipApart z TI TO i1 i2 a b) (T:d<s.heap.objs.size) (R:ZS z TI TO i1 i2 a b d i s.heap) (F:s.heap.IsList a xs) (t:s.heap.IsTuple b ys) (B:xs[i]? =some x) (G:ys[i]? =some y)
  (I:∀h',ZS z TI TO i1 i2 a b d (i+1) h'->IsPair h' s.heap.objs.size x y->(∀c o,c≠z->c≠TO->c≠i1->c≠i2->s.heap.get? c=some o->h'.get? c=some o)->Q (some (.ref s.heap.objs.size)) { s with heap:=h' }) :
  wpAny (model prog w) A (pyNext (.ref z)) Q E s:=by
 obtain ⟨k,q,n,g⟩:=R;have O:i1<s.heap.objs.size:=let ⟨_,e,_⟩:=(A8v i1 a).ob q;Z0a e;have M:i2<s.heap.objs.size:=let ⟨_,e,_⟩:=(A6g i2 b).ob n;Z0a e;rcases g with ⟨g,u,v,j⟩ | ⟨p,o,W,g,j,J,H,C,N⟩
 ·have K:z<s.heap.objs.size:=Z0a g;refine D2v (A8v i1 a) (A6g i2 b) D g k j q n F t B G λh' r U m l h f=> ?_;exact I h' (i04 (f _ _ D.TIz D.TITO D.TIi1 D.TIi2 k) m l (.inr ⟨s.heap.objs.size,(i0t _ false r h (Z1q K) (Z1q O) (Z1q M) (Z1q T))⟩)) h f
 ·refine D2n (A8v i1 a) (A6g i2 b) D g j k q n F t B G λh' r m l h f=> ?_;exact I h' (i04 (f _ _ D.TIz D.TIi1 D.TIi2 k) m l (.inr ⟨p,(i0t o true r (f _ _ J H C j) J H C N)⟩)) h λc o P _ S L e=>f c o P S L e
theorem E1g (q:A.handled=none) (D:ZipApart z TI TO i1 i2 a b) (x:ZS z TI TO i1 i2 a b d i s.heap) (l:s.heap.IsList a xs) (j:s.heap.IsTuple b ys) (r:xs[i]? =none\/ys[i]? =none)
  (n:∀h',(∀c o,c≠z->c≠TO->c≠i1->c≠i2->s.heap.get? c=some o->h'.get? c=some o)->Q none { s with heap:=h' }):wpAny (model prog w) A (pyNext (.ref z)) Q E s:=by
 obtain ⟨h,m,k,f⟩:=x;rcases f with ⟨f,u,v,g⟩ | ⟨p,o,I,f,g,J,H,F,G⟩
 ·exact D7l (A8v i1 a) (A6g i2 b) q D f h g m k l j r n
 ·exact D5p (A8v i1 a) (A6g i2 b) q D f g h m k l j r λh' C=>n h' λc o t _ B y e=>C c o t B y e
end
section
variable {prog:Program} {w:World} {K:Type} [DecidableEq K] {knd:KeyKind prog w K} {A:Around} {R:Result->Shared->Prop} {z TI TO i1 i2 a b d:Addr} {xs ys:Array Value} {rs:List (K×Value)} {h₀:Heap} {g:Array GenState} {dr:Drawn} {os:OsState}
theorem C7w (hh:A.handled=none) (D:ZipApart z TI TO i1 i2 a b) (L:z≠d) (n1:TI≠d) (Q:TO≠d) (N:i1≠d) (P:i2≠d) (na:a≠d) (Y:b≠d) (hsz:rs.length<=sizeLine)
  (pa:∀(i:Nat) (k:K) (u:Value),rs[i]? =some (k,u)->∃n,xs[i]? =some n/\ys[i]? =some u/\knd.is k n=true) (he:xs[rs.length]? =none\/ys[rs.length]? =none) (E:h₀.IsList a xs) (W:h₀.IsTuple b ys) (F:a≠TO) (Z:a≠i1) (a2:a≠i2) (az:a≠z) (G:b≠TO) (X:b≠i1) (b2:b≠i2) (bz:b≠z)
  (fin:∀h' tk,h'.DictOf knd d (merged [] rs)->(∀c o,c≠z->c≠TO->c≠i1->c≠i2->c≠d->h₀.get? c=some o->h'.get? c=some o)->R (.ok (.ret .none)) ⟨h',g,dr,tk,os⟩) :
  ∀(k i:Nat) (h:Heap) (tk:Nat),rs.length-i=k->i<=rs.length->ZS z TI TO i1 i2 a b d i h->(∀c o,c≠z->c≠TO->c≠i1->c≠i2->c≠d->h₀.get? c=some o->h.get? c=some o)->h.DictOf knd d (merged [] (rs.take i))->
   codeAny (model prog w) A (.builtin "dict.update.loop" ⟨[.ref d,.ref z,rawInt i,.none],[]⟩) R ⟨h,g,dr,tk,os⟩:=by
 intro k
 induction k with
 | zero =>
  intro i h tk hk hi m l H;have j:i=rs.length:=by lia
  refine codeAny_builtin A4t ?_;rw [Around.under_plainId A2n _];show wpAny _ A.in1 (pyNext (.ref z) >>= _) _ _ _;refine Z00 (E1g (s:=⟨h,g,dr,tk,os⟩) (by simpa using hh) D m (E.at λo e=>l a o az F Z a2 na e) (let ⟨o,e,r⟩:=W;(i02 o (l b o bz G X b2 Y e) r)) (by rw [j];exact he) λh' f=> ?_);show wpAny _ A.in1 (Builtin.Dict.addKeywords d [] >>= λ_=>ret Value.none) _ _ _;rw [j,Z18] at H;obtain ⟨y,T,M,S,r⟩:=H;exact Z00 (Z04 (Z04 (fin h' tk (i0g y T M (f d y L.symm Q.symm N.symm P.symm S) r) λc o B v C q I e=>f c o B v C q (l c o B v C q I e))))
 | succ k ih =>
  intro i h tk hk hi m l H;have a0:i<rs.length:=by lia
  obtain ⟨⟨k',u⟩,hku⟩:∃p,rs[i]? =some p:=⟨rs[i],Z0b _⟩;obtain ⟨n,hx,hy,O⟩:=pa i k' u hku;refine codeAny_builtin A4t ?_;rw [Around.under_plainId A2n _];show wpAny _ A.in1 (pyNext (.ref z) >>= _) _ _ _;have ld:d<h.objs.size:=let ⟨_,_,_,e,_⟩:=H;Z0a e;refine Z00 (D5l (s:=⟨h,g,dr,tk,os⟩) D ld m (E.at λo e=>l a o az F Z a2 na e) (let ⟨o,e,r⟩:=W;(i02 o (l b o bz G X b2 Y e) r)) hx hy λh' zs J f=> ?_);have J:IsPair h' h.objs.size n u:=J;have hT:(⟨h',g,dr,tk,os⟩:Shared).TypeIs (.ref h.objs.size) "tuple":=(i02 _ J rfl);show wpAny _ A.in1 (holding [Value.ref h.objs.size] _ >>= _) _ _ _;refine Z00 (Z1w (Z00 (wpAny_tryCatch ?_)));unfold Builtin.Dict.pairItems;refine Z00 (wpAny_typeOf hT ?_);rw [Z12 (by decide)];refine Z00 (Z21 J rfl (Z04 ?_));show wpAny _ A.in1 (holding [n,u] (dictSet d n u)) _ _ _
  have U:h'.DictOf knd d (merged [] (rs.take i)):=by
   obtain ⟨y,T,M,S,r⟩:=H;exact i0g y T M (f d y L.symm Q.symm N.symm P.symm S) r
  have x:(merged [] (rs.take i)).length<=sizeLine:=by
   have e1:=merged_length_le ([]:List (K×Value)) (rs.take i);have e2:(rs.take i).length<=rs.length:=by rw [Z0x];lia
   simp only [Z2g,Nat.zero_add] at e1
   lia
  refine Z1w (wpAny_dictSet_pairs (hsz:=x) (s:=⟨h',g,dr,tk,os⟩) O U λh2 t sb=> ?_);rw [<-merged_take_succ [] rs i (k',u) hku] at t;refine Z04 ⟨plainId_quiet A2n _,ih (i+1) h2 _ (by lia) (by lia) (zs.at L n1 Q N P λc o hc e=>(sb.2 c hc).trans e) ?_ t⟩;intro c oc B v C q I e;exact (sb.2 c I).trans (f c oc B v C q (l c oc B v C q I e))
end
theorem A9i:typeLookup (.type "zip") "__getattr__"=pure none:=by rw [typeLookup_type,builtinLookup_eq_fast];kernel_rfl
theorem A6h:entryFor table "zip.__getattribute__"=some Builtin.«object.__getattribute__» :=
 entryFor_alias (id':="object.__getattribute__") (by kernel_rfl) (by decide +kernel) (by decide +kernel) (by kernel_rfl)
theorem C5m:typeLookup (.type "zip") "keys"=pure none:=by rw [typeLookup_type,builtinLookup_eq_fast];kernel_rfl
theorem B4t (a:Addr) (fs:Array Value) (sl:Array (Option Value)) (name:Str) (u:Tok) (e:typeLookup (.type "zip") name=pure none) (b:(["__module__","__name__","__qualname__","__doc__","__annotations__"]:List Str).contains name=false) (hsz:name.length+100<=sizeLine:=by size_fits) :
  Meets (Builtin.«object.__getattribute__» ⟨[.ref a,.str name u],[]⟩) (λA R s=>s.heap.get? a=some { cls:= .type "zip",dict:=none,data:= .fields fs,slots:=sl }/\raisesAttr (.ref a) name A R s) :=
 Meets.of_wp λf w A R s c=>by
  obtain ⟨h,g,d,i,j⟩:=s;obtain ⟨k,c⟩:=c;have l:(⟨h,g,d,i,j⟩:Shared).TypeIs (.ref a) "zip":=(i02 _ k rfl);unfold Builtin.«object.__getattribute__»
  repeat (any_goals (first | assumption | wp_step))
  simp only [b,Bool.false_eq_true,if_false]
  repeat (any_goals (first | assumption | wp_step))
  exact wpAny_raiseAttrError c.1 c.2 (attrMsg_fits (by decide +kernel) hsz)
theorem C4q {fs:Array Value}
  (j:s.heap.get? a=some { cls:= .type "zip",dict:=none,data:= .fields fs,slots:=sl }) (l:A.handled=none)
  (h:∀h' tk,(∀b k,s.heap.get? b=some k->h'.get? b=some k)->Q none { s with heap:=h',toks:=tk }):wpAny (model prog w) A (getAttr? (.ref a) "keys") Q E s:=by
 obtain ⟨n,g,d,tk,m⟩:=s;have i:∀c,(⟨n,g,d,c,m⟩:Shared).TypeIs (.ref a) "zip":=λ_=>(i02 _ j rfl);have q:=sub_AttributeError;have r:=F.slot_zip_getattribute.lookup;have p:=F.slot_zip_getattribute.bind (.ref a);have o:=A9i;unfold getAttr? getAttrBy? getAttrBy
 repeat (any_goals (first | assumption | exact i _ | ((with_reducible show wpAny _ _ (call (Value.builtin "zip.__getattribute__") _ _) _ _ _);refine call_meets F.slot_zip_getattribute (i _) A6h (F.args_zip_getattribute_2 _ _) (B4t a fs sl "keys" _ C5m (by decide) (by decide)) (i00 j l λh' c e f=> ?_)) | wp_step))
 obtain ⟨t,v,u⟩:=f.there;show wpAny _ _ (getattributeRaised _ _ _ _ _ _ _) _ _ _;unfold getattributeRaised
 repeat (any_goals (first | assumption | wp_step))
 all_goals exact h _ _ f.1
def tDZ (K:Frag) (ta:TA):TE:=λZ H Q=>ta Z H λd a=>∃l t c b,d=[.ref l,.ref t]/\SqL K a l ((c:List Key).map kV)/\SqT K a t b/\c.length=b.length/\∀p,a p=none->Q (.ref p) (upd a p (.dK (A4h [] (c.zip b))))
theorem D3m:∀{ks:List Key} {us:List V} {vs:List Value},ks.length=us.length->A3z us vs->KV (ks.zip us) (ks.zip vs)
 | [],[],_,_,.nil=> .nil
 | k::ks,u::us,_,h,.cons r t=> .cons ⟨rfl,r⟩ (D3m (by simpa using h) t)
theorem C3n {P:Program} {w:World}:∀{ks:List Key} {its:List Value},A3z (ks.map kV) its->∀{i:Nat} {k:Key},ks[i]? =some k->∃v,its[i]? =some v/\(A1x P w).is k v=true
 | [],_,.nil,i,k,h=>by simp at h
 | _::_,_,.cons r t,0,k,h=>by simp at h;subst h;exact i02 _ rfl (C0w r)
 | _::_,_,.cons r t,i+1,k,h=>by
  obtain ⟨v,b,a⟩:=C3n (P:=P) (w:=w) t (i:=i) (k:=k) (by simpa using h);exact i02 v (by simpa using b) a
section
variable {X:Cx}
theorem C4v {a b:Expr} {ta:TA} {p1 p2 v l:Pos} (hc:X.calm=true) (a2:Gl X "dict") (a3:X.mg "dict"=none) (a5:Gl X "zip") (a0:X.mg "zip"=none) (ha:PA X [a,b] ta)
  (O:starEach [.Call (.Name "zip" p2) [a,b] [] l] X.env=(false,eval (.Call (.Name "zip" p2) [a,b] [] l) X.env)::starEach [] X.env:=by rfl)
  (hs:starEach [a,b] X.env=[(false,eval a X.env),(false,eval b X.env)]:=by rfl) (N:starEach [b] X.env=[(false,eval b X.env)]:=by rfl) :
  PE X (.Call (.Name "dict" p1) [.Call (.Name "zip" p2) [a,b] [] l] [] v) (tDZ X.K ta):=by
 intro T s Z H Q I h;have hh:X.A.handled=none:=I.ok.hd hc;refine wpAny_Call_Name_kw (B1t I a2 a3 boot_dict ?_);refine PyProof.Rows.callWith_type1 ?_ O (by rfl);rw [O];show wpAny _ _ (spliced ((false,eval _ X.env)::backTo v (starEach [] X.env))) _ _ s;refine Calls.spliced_cons ?_;refine Call_ (B1t I a5 a0 boot_zip (PyProof.Rows.callWith_type1 (thn (ha l T s Z H _ I h) ?_) (by rw [hs,N]) (by rw [N];rfl)));rintro us d ⟨vs,H1,I1,r1,G⟩;obtain ⟨l1,l2,p,ws,e,a6,a4,b3,q⟩:=G;subst e;obtain ⟨u,u2,rfl,ru,a1⟩:=C9g r1;cases ru;cases a1;obtain ⟨b4,rv,C,zk⟩:=I1.list a6;obtain ⟨f,S,B,_⟩:=I1.tuple a4;have J:l1<d.heap.objs.size:=let ⟨_,e,_⟩:=C.isList;Z0a e;have L:l2<d.heap.objs.size:=B.lt;have e1:=rv.length;have e2:=S.length;rw [Z08] at e1;have hn:=I1.hok.fresh (Z09 d.heap.objs.size);refine C1n C.isList (show d.heap.IsTuple l2 f.toArray from B) λj zs kp=>Calls.spliced_nil ?_;obtain ⟨E,b2,⟨tu,tv,b0⟩,b1,b5⟩:=zs;have D:=zipApart_new J L;have lz:d.heap.objs.size+4<j.objs.size:=Z0a E;refine callType_codes (Q₁:=λM s₁=>M= .ref j.objs.size/\s₁={ d with heap:=j.push { cls:= .type "dict",data:= .dict #[] } }) F.kt_called_dict (F.kt_typeCall_dict_1 _) F.entry_dict_init (kt_code_dict_new (s:={ d with heap:=j }) _ ⟨rfl,rfl⟩) ?_;rintro M s₁ ⟨rfl,rfl⟩;have n:(j.push { cls:= .type "dict",data:= .dict #[] }).DictOf (A1x X.prog X.w) j.objs.size []:=Heap.DictOf.new j;have ez:(j.push { cls:= .type "dict",data:= .dict #[] }).get? (d.heap.objs.size+4)=some _:=Z01 _ E;have Y:Shared.TypeIs { d with heap:=j.push { cls:= .type "dict",data:= .dict #[] } } (.ref (d.heap.objs.size+4)) "zip":=(i02 _ ez rfl);refine i00 n.typeIs (F.args_dict_init_2 _ _) ?_;unfold Builtin.«dict.__init__»;refine Z00 ?_;unfold Builtin.Dict.selfAndRest;refine Z00 (wpAny_notOrdered_dict n.typeIs ?_);show wpAny _ _ (pure (j.objs.size,[Value.ref (d.heap.objs.size+4)])) _ _ _;refine Z04 ?_;show wpAny _ _ (Builtin.Dict.updateFrom "dict.__init__" j.objs.size (.ref (d.heap.objs.size+4)) [] .none) _ _ _;unfold Builtin.Dict.updateFrom;refine Z00 (wpAny_typeOf Y ?_);rw [Z12 (by decide)];refine Z00 (C4q ez (by simpa using hh) λU a9 x=> ?_)
 rw [Z12 (show (none:Option Value).isNone=true from rfl)];refine Z00 (wpAny_rule ?_);refine Z00 (wpAny_pyIter_zip (s:={ d with heap:=U,toks:=a9 }) (x _ _ ez) ?_);have t:∀c o,j.get? c=some o->U.get? c=some o:=λc o e=>x _ _ (Z01 _ e)
 have lr:(p.zip f).length=p.length:=by rw [List.length_zip];lia
 have G:∀i:Nat,i<=4->d.heap.objs.size+i≠j.objs.size:=λi hi z=>by lia
 have W:∀c:Nat,c<d.heap.objs.size->c≠j.objs.size:=λc hc z=>by lia
 have m:∀c i:Nat,c<d.heap.objs.size->c≠d.heap.objs.size+i:=λc i hc z=>by lia
 have y:d.heap.objs.size<=j.objs.size:=by lia
 have z1:p.length<=sizeLine:=by rw [Z08] at zk;exact zk
 refine Z04 ⟨plainId_quiet A2n _,C7w (knd:=A1x X.prog X.w) (rs:=p.zip f) (xs:=b4.toArray) (ys:=f.toArray) (h₀:=U) (by simpa using hh) D (G 4 (by decide)) (G 2 (by decide)) (G 3 (by decide)) (G 0 (by decide)) (G 1 (by decide)) (W _ J) (W _ L) (by rw [lr];exact z1) (λi k u hr=> ?_) ?_ (C.isList.at λo e=>t _ _ (kp _ _ e)) (let ⟨o,e,r⟩:=B;(i02 o (t _ _ (kp _ _ e)) r)) (m _ 3 J) (m _ 0 J) (m _ 1 J) (m _ 4 J) (m _ 3 L) (m _ 0 L) (m _ 1 L) (m _ 4 L) (λh2 tk dd a8=> ?_) (p.zip f).length 0 U _ (by lia) (Z1e _) (i04 (t _ _ b2) ((A8v _ l1).mv b1 λo e=>t _ _ e) ((A6g _ l2).mv b5 λo e=>t _ _ e) (.inl ⟨t _ _ E,(i03 tu tv (t _ _ b0))⟩)) (λ_ _ _ _ _ _ _ z=>z) ?_⟩
 ·obtain ⟨g1,g2⟩:=Z2m.mp hr;obtain ⟨kv,g3,g4⟩:=C3n (P:=X.prog) (w:=X.w) rv g1;exact i06 kv (by simpa using g3) (by simpa using g2) g4
 ·left;rw [lr];simp
  lia
 ·have kv:=D3m b3 S;refine i0i rfl (.ref j.objs.size) _ (I1.laid (t':=tk) (o:= .dK (A4h [] (p.zip ws))) (λb u eb=> ?_) y (i0a ?_ ?_ _ (KV.merge kv .nil) dd)) rfl (q _ (I1.hok.fresh y))
  ·have R:=Z0a eb;exact a8 b u (m _ 4 R) (m _ 3 R) (m _ 0 R) (m _ 1 R) (W _ R) (t _ _ (kp _ _ eb))
  ·have:=A7t (p.zip ws) [];have lw:(p.zip ws).length=p.length:=by rw [List.length_zip];lia
   simp only [Z2g] at this
   lia
  ·have:=I1.big;have a7:j.objs.size≠sysModules:=Z1q (Z0q this y)
   simpa using a7
 ·obtain ⟨od,es,ep,g,r⟩:=n;exact i0g od es ep (x _ _ g) r
def D9w (K:Frag):R2:=λx y H Q=>∃a b c d,x= .ref a/\y= .ref b/\SqT K H a c/\SqT K H b d/\c.length+d.length<=sizeLine/\
 (c=[]->Q (.ref b) H)/\(c≠[]->d=[]->Q (.ref a) H)/\(c≠[]->d≠[]->∀p,H p=none->Q (.ref p) (upd H p (.tup (c++d))))
theorem D1h:OpR X (binaryOp .Add) (D9w X.K):=by
 intro d s Z H x y v u Q I q p h;obtain ⟨a,b,C,W,rfl,rfl,t,A,T,U,M,J⟩:=h;by_cases hx:C=[]
 ·subst hx;cases q;cases p;obtain ⟨i,D,G,_⟩:=I.tuple t;obtain ⟨c,Y,L,_⟩:=I.tuple A;have O:i=[]:=D.nil_iff.mpr rfl;obtain ⟨⟨S,N,o,R⟩,w,r,n,m⟩:=id G;obtain ⟨⟨B,l,j,k⟩,g,f,P,e⟩:=id L;simp only at r m f e;subst r m f e
  exact concat_meets (i02 _ w rfl) (i02 _ g rfl) noFill_tuple_add seq_tuple_add PySem.F.slot_tuple_add PySem.F.entry_tuple_add (PySem.F.args_tuple_add_2 _ _)
   (tuple_addW0 a b i.toArray c.toArray n P N l R k (by simp [O])) ⟨w,(i0i g (.ref b) H I rfl (U rfl))⟩
 ·exact D6f d s Z H _ _ v u Q I q p (i0y a b C W rfl rfl t A (i04 hx T (λz=>M hx z) λz=>J hx z))
def E0k:R2:=λx y H Q=>∃a b e c,x= .ref a/\y= .ref b/\H a=some (.tup e)/\H b=some (.tup c)/\e.length+c.length<=sizeLine/\∀q d,A0u H d->d q=some (.tup (e++c))->Q (.ref q) d
theorem B5w:OpR X (binaryOp .Add) E0k:=λc s Z H x y v u Q I k i h=>by
 obtain ⟨a,b,n,j,m,g,d,e,f,q⟩:=h;refine D1h c s Z H x y v u Q I k i (i0y a b n j m g (SqT.of d) (SqT.of e) (i04 f (λz=> ?_) (λ_ z=> ?_) λ_ _ p l=> ?_))
 ·subst z;exact q b H (A0u.refl _) e
 ·subst z;exact q a H (A0u.refl _) (by rw [Z0u];exact d)
 ·exact q p _ (A0e l) A0b
end
section
variable {prog:Program} {w:World} {A:Around} {E:Value->Shared->Prop} {s:Shared}
end
section
variable {X:Cx}
end
section
variable {prog:Program} {w:World} {A:Around} {E:Value->Shared->Prop} {s:Shared} {d:Addr} {od:Obj} {es:Array DictEntry} {ep:Nat}
theorem B8l {Q:Value->Shared->Prop} (f:(d == sysModules)=false) (a:s.heap.get? d=some od) (c:s.TypeIs (.ref d) "dict") (b:od.data= .dict es ep) (e:(es.size:Int)<2^63)
  (h:Q (.int es.size (s.toks+1)) { s with toks:=s.toks+1+1 }):wpAny (model prog w) A (call (.builtin "len") [.ref d]) Q E s:=by
 refine Calls.call_function_entry kind_len plain_len entry_len (args_len1 _) ?_;unfold Builtin.«len»;refine Z00 (m:=oneArg "len" _) (Z04 (Z00 (m:=callSpecial? (.ref d) (Str.ofString "__len__")) (Z1b (name:=Str.ofString "__len__") c F.slot_dict_len (Z1g F.slot_dict_len c F.entry_dict_len ?_ (F.args_dict_len_1 _)))));show wpAny _ _ (dictSize d >>= _) _ _ s;unfold dictSize;refine Z00 (Z00 (wpAny_dictEntries a b (Z04 (show wpAny _ _ (Builtin.Dict.pendingCount d >>= _) _ _ s from Z00 (wpAny_pendingCount_other f (wpAny_ret_mkInt ?_))))));rw [Nat.add_zero];show wpAny _ _ _ _ _ { s with toks:=s.toks+1 };refine Z00 (Z1w (Z04 (Z00 (wpAny_letGo (show wpAny _ _ (if ((es.size:Nat):Int)<0 then _ else _) _ _ _ from ?_)))));rw [Z0t (by lia)];show wpAny _ _ (if ((es.size:Nat):Int)≥2^63 then _ else _) _ _ _;rw [Z0t (by lia)];exact Z00 (wpAny_mkInt (Z04 (i02 _ rfl h)))
end
section
variable {X:Cx}
theorem C8i:A8l X (.builtin "len") (λxs H Q=>∃a kvs,xs=[V.ref a]/\H a=some (.dT kvs)/\Q (.int kvs.length) H):=by
 intro c s Z H xs x Q I r h;obtain ⟨a,kvs,rfl,e,q⟩:=h;obtain ⟨u,rfl,g⟩:=B1p r;cases g;obtain ⟨z,f,k,i,o,d,t,b,n,l,m,p⟩:=(show A2q X.prog X.w H s.heap a (.dT kvs) from I.hok a _ e);have v:=Paired.length i;have y:d.size=k.length:=by rw [<-Array.length_toList,m,Z08]
 have j:kvs.length=d.size:=by lia
 refine B8l f b (i02 o b n.1) l (by rw [sizeLine_eq] at z;lia) ?_;rw [<-j];exact i0f (.int kvs.length) H (I.tok _) ⟨_,rfl⟩ q
end
theorem B2x {x:V} (h:let D':=D;g x Z H λZ2 H2=>tb D' Z2 H2):g x Z H λZ2 H2=>tb D Z2 H2:=h
theorem C5y {N:VK} {x:V} (h:let N':=N;g x Z H λZ4 H4=>A2w Z Z4/\te Z4 H4 N'):g x Z H λZ4 H4=>A2w Z Z4/\te Z4 H4 N:=h
section
variable {CX:CXT} {P:Program} {w:World} {K:Frag} {mg:Str->Option Value} {base:Heap} {N:List Str} {qual:Str} {scope:Scope} {f:Addr} {cd:Value} {A:Around} {outer:List Env} {s:Shared} {H:Hp} {E:XK}
end
section
variable {X:Cx} {CX:CXT} {E:XK} {p pos:Pos} {e o i:Expr} {es:List Expr} {tf:TE} {t:TA}
end
theorem C2k {α β γ δ:Type} {F:(α×β)->(α×γ)->Prop} {g:α->δ} (h:∀p q,F p q->p.1=q.1):∀{l:List (α×β)} {m:List (α×γ)},Paired F l m->m.map (λx=>g x.1)=l.map λx=>g x.1
 | _,_,.nil=>rfl
 | _,_,.cons z r=>by rw [Z0p,Z0p,C2k h r,h _ _ z]
section
variable {prog:Program} {w:World} {A:Around} {E:Value->Shared->Prop} {s:Shared}
end
section
variable {X:Cx}
end
theorem C3q {α:Type}:∀{l:List α},l.Nodup->∀{i j:Nat} {x:α},l[i]? =some x->l[j]? =some x->i=j
 | [],_,_,_,_,h,_=>by simp at h
 | a::r,nd,0,0,_,_,_=>rfl
 | a::r,nd,0,j+1,x,h1,h2=>by
  simp at h1;subst h1;exact absurd (Z13 (by simpa using h2)) (Z15.mp nd).1
 | a::r,nd,i+1,0,x,h1,h2=>by
  simp at h2;subst h2;exact absurd (Z13 (by simpa using h1)) (Z15.mp nd).1
 | a::r,nd,i+1,j+1,x,h1,h2=>by
  have:=C3q (Z15.mp nd).2 (i:=i) (j:=j) (x:=x) (by simpa using h1) (by simpa using h2)
  lia
section
variable {prog:Program} {w:World} {A:Around} {E:Value->Shared->Prop} {s:Shared}
theorem C5e {nm:String} {b:Addr} {B y:Obj} {c:Array DictEntry} {u:Nat} {Q:Bool->Shared->Prop} (C:(a == sysModules)=false) (F:(b == sysModules)=false)
  (f:s.heap.get? a=some B) (g:B.data= .dict es ep) (p:s.heap.get? b=some y) (n:y.data= .dict c u) (hsz:es.size=c.size)
  (m:∀(i:Nat) (e:DictEntry),es[i]? =some e->∀(Q:Option Nat->Shared->Prop) (E:Value->Shared->Prop),Q (some i) s->wpAny (model prog w) A (dictFind b e.key e.hash) Q E s)
  (o:∀(i:Nat) (e z:DictEntry),es[i]? =some e->c[i]? =some z->∀(Q:Bool->Shared->Prop) (E:Value->Shared->Prop),Q true s->wpAny (model prog w) A (eqBool e.val z.val) Q E s)
  (h:Q true s):wpAny (model prog w) A (Builtin.Dict.samePairs nm a b) Q E s:=by
 unfold Builtin.Dict.samePairs Builtin.Dict.showsAll;rw [Z0t (show¬(a == sysModules)=true by rw [C];exact Z0v),Z0t (show¬(b == sysModules)=true by rw [F];exact Z0v)];refine Z00 (Z04 (Z00 (Z04 ?_)));refine Z00 (wpAny_dictEntries f g ?_);dsimp only;refine Z00 (wpAny_dictEntries p n ?_);rw [Z0t (by rw [hsz];simp)];refine Z00 (wpAny_dictEpoch f g ?_);refine Z00 ?_;rw [Std.Legacy.Range.forIn_eq_forIn_range'];simp only [Std.Legacy.Range.size,Nat.sub_zero,Nat.add_sub_cancel,Nat.div_one]
 refine wpAny_forIn_list _
  (λd q v=>v=s/\q=(none,())/\∃i,d=List.range' i (es.size-i)/\i<=es.size)
  _ ?_ ?_ _ _ (i0a rfl rfl 0 (by simp) (Z1e _))
 ·rintro x d q v ⟨rfl,rfl,i,t,D⟩
  have k:i<es.size:=by
   rcases Nat.lt_or_ge i es.size with h | h
   ·exact h
   ·rw [Nat.sub_eq_zero_of_le h] at t;simp at t
  obtain ⟨rfl,hrest⟩:x=i/\d=List.range' (i+1) (es.size-(i+1)):=by
   have e:es.size-i=(es.size-(i+1))+1:=by lia
   rw [e,List.range'_succ] at t;injection t with h1 h2;exact ⟨h1,h2⟩
  refine Z00 (wpAny_dictEntries f g ?_);have l:es[x]? =some es[x]:=Array.getElem?_eq_getElem k;rw [l];have r:x<c.size:=by rw [<-hsz];exact k
  have j:c[x]? =some c[x]:=Array.getElem?_eq_getElem r;show wpAny _ _ (holding [es[x].key,es[x].val] _ >>= _) _ _ _;refine Z00 (Z1w (Z00 (m x _ l _ _ ?_)));refine Z00 (wpAny_dictEntries p n ?_);rw [j];refine Z1w (o x _ _ l j _ _ ?_);show wpAny _ _ (if (! true)=true then _ else _) _ _ _;rw [Z0t (by decide)];refine Z00 (wpAny_dictEpoch f g ?_);rw [Z0t (by simp)];exact Z04 (i0a rfl rfl (x+1) hrest k)
 ·rintro q v ⟨rfl,rfl,i,t,D⟩;exact Z04 h
end
section
variable {X:Cx} {pins:List (Addr×Obj)} {Z:St} {H:Hp} {s:Shared} {A:Around} {E:Value->Shared->Prop} {Q:Bool->Shared->Prop}
theorem D6r (I:Inv X pins Z H s) (b:A.units+62<cLine) {p q:Value} (a:∃i,v= .int i) (d:A3c v p) (c:A3c v q) (e:Q true s):wpAny (model X.prog X.w) A (eqBool p q) Q E s:=by
 obtain ⟨i,rfl⟩:=a;exact D3h I b (.inl (i0c (.int i) (.int i) (.int i) (by simp [PyData.canLay0]) (by simp [PyData.depth]))) d c e
theorem B1s {α β γ:Type} {F:(α×β)->(α×γ)->Prop}:∀{l:List (α×β)} {m:List (α×γ)},Paired F l m->∀{i:Nat} {y:α×γ},m[i]? =some y->∃x,l[i]? =some x/\F x y
 | _,_,.nil,i,y,e=>by simp at e
 | _,_,.cons r t,0,y,e=>by simp at e;subst e;exact i02 _ rfl r
 | _,_,.cons r t,i+1,y,e=>by
  obtain ⟨x,b,a⟩:=B1s t (i:=i) (by simpa using e);exact i02 x (by simpa using b) a
end
section
variable {X:Cx}
end
section
variable {X:Cx} {pins:List (Addr×Obj)} {Z:St} {H:Hp} {s:Shared} {A:Around} {E:Value->Shared->Prop}
theorem D2q {Q:Bool->Shared->Prop} (I:Inv X pins Z H s) (C:A.units+62<cLine) {nm:String} {c:Addr} {kvs:List (List Key×V)} (hc:Rd H c (.dT kvs)) (S:Rd H d (.dT kvs)) (hi:∀e∈kvs,∃i,e.2=V.int i) (hq:Q true s):wpAny (model X.prog X.w) A (Builtin.Dict.samePairs nm c d) Q E s:=by
 obtain ⟨_,sc,m,t,oc,o,pc,c1,c2,c3,n,R,c6⟩:=B4s I.hok hc;obtain ⟨_,sd,N,u,od,ed,pd,P,d2,M,D,d5,d6⟩:=B4s I.hok S;have lx:=Paired.length t;have ly:=Paired.length u;have sx:o.size=m.length:=by have:=congrArg List.length n;simpa using this
 have sy:ed.size=N.length:=by have:=congrArg List.length D;simpa using this
 have K:∀{m:List (List Key×Addr×Value)} {o:Array DictEntry},o.toList=m.map (entryOfKey (tupleKind (A1x X.prog X.w)))->∀(i:Nat) (e:DictEntry),o[i]? =some e->∃x,m[i]? =some x/\e=entryOfKey (tupleKind (A1x X.prog X.w)) x:=λ{m o} n i e h=>by
  rw [<-Array.getElem?_toList,n,Z1z] at h
  cases l:m[i]? with
  | none=>rw [l] at h;cases h
  | some x=>rw [l] at h;cases h;exact i02 x rfl rfl
 have B:(kvs.map (·.1)).Nodup:=by
  have e2:m.map (·.1)=kvs.map (·.1):=C2k (g:=id) (λ_ _ z=>z.1) t;rw [<-e2];exact c6
 refine C5e sc sd c1 c3 P M (by lia) (λi e G Q2 E2 F=> ?_) (λi e e' G v Q2 E2 F=> ?_) hq
 ·obtain ⟨x,l,rfl⟩:=K n i e G;obtain ⟨O,b,J,z2,L⟩:=B1s t l;have q:=R x (Z13 l);refine wpAny_dictFind_heap (knd:=tupleKind (A1x X.prog X.w)) (k:=x.1) (by show A.units<cLine;lia) q P M D d5 d6 (λhn=> ?_) (λj p T=> ?_)
  ·obtain ⟨yy,hyi⟩:∃yy,N[i]? =some yy:=⟨_,Z0b (by have:=(Z03.mp l).1;lia)⟩;obtain ⟨f,a,r,_⟩:=B1s u hyi;rw [b] at a;cases a;exact absurd hyi (by rw [show yy=(x.1,yy.2) from Prod.ext (r.symm.trans J) rfl];exact hn i _)
  ·obtain ⟨f,a,r,_⟩:=B1s u T;have U:(kvs.map (·.1))[j]? =some f.1:=by rw [Z1z,a];rfl
   have Y:(kvs.map (·.1))[i]? =some f.1:=by rw [Z1z,b,r.trans J.symm];rfl
   have:=C3q B U Y;subst this;exact F
 ·obtain ⟨x,l,rfl⟩:=K n i e G;obtain ⟨y,hy,rfl⟩:=K D i e' v;obtain ⟨O,b,J,z2,L⟩:=B1s t l;obtain ⟨f,a,r,y2,W⟩:=B1s u hy;rw [b] at a;cases a;exact D6r I C (hi O (Z13 b)) L W F
end
section
variable {X:Cx}
def E3e:R2:=λx y H Q=>∃a b c,x= .ref a/\y= .ref b/\H a=some (.dT c)/\H b=some (.dT c)/\(∀e∈c,∃i,e.2=V.int i)/\Q (.bl false) H
theorem D6p (w:X.A.units+64<cLine):OpR X (compareOp .NotEq) E3e:=by
 intro e s Z H x y v u Q I o l h;obtain ⟨a,b,n,rfl,rfl,d,f,j,q⟩:=h;cases o;cases l;obtain ⟨_,_,_,_,t,_,_,p,r,_⟩:=B4s I.hok (.inl d);obtain ⟨_,_,_,_,m,_,_,k,i,_⟩:=B4s I.hok (.inl f);have c:s.TypeIs (.ref a) "dict":=(i02 t p r.1);have g:s.TypeIs (.ref b) "dict":=(i02 m k i.1);refine wpAny_richCompare_same_room (op:= .NotEq) c g PySem.F.slot_dict_ne (Z1g PySem.F.slot_dict_ne c PySem.F.entry_dict_ne ?_ (PySem.F.args_dict_ne_2 _ _)) (by lia);show wpAny _ _ (Builtin.Dict.dictSlotArgs "__ne__" ⟨[.ref a,.ref b],[]⟩ >>= _) _ _ s;refine Z00 ?_;unfold Builtin.Dict.dictSlotArgs;refine Z00 (wpAny_notOrdered_dict c ?_);show wpAny _ _ (pure (Value.ref a,Value.ref b)) _ _ s;refine Z04 ?_;refine Z00 (wpAny_isInstance (T:="dict") g PySem.F.sub_dict_dict ?_);simp only [Bool.not_true,Bool.false_eq_true,if_false];refine Z00 (Z04 (Z00 (Z04 ?_)));refine Z00 (D2q I (by show X.A.units+1+62<cLine;lia) (.inl d) (.inl f) j ?_);refine Z04 (i06 _ rfl ?_ ?_)
 ·exact λx=>nomatch x
 ·exact i0f (.bl false) H I rfl q
end
structure RS (X:Cx) (sts:List Stmt) (t:TS):Prop where
 r:PSs X sts t
structure R1 (X:Cx) (st:Stmt) (t:TS):Prop where
 r:PS X st t
section
variable {X:Cx} {st:Stmt} {rest a b body:List Stmt} {t u tb:TS} {e c:Expr} {te:TE} {tc:TT} {pos pos':Pos}
theorem rq1 (h1:R1 X st t) (h2:RS X rest u):RS X (st::rest) (D3l t u):=⟨A1u h1.r h2.r⟩
theorem rq2 (h1:R1 X st t) (h2:RS X rest u):RS X (st::rest) (E4k t u):=⟨A9r h1.r h2.r⟩
theorem rq3 (h1:R1 X st t):RS X [st] t:=⟨A2y h1.r⟩
theorem rq4 (e:PT X c tc) (d:RS X a t) (f:RS X b u):R1 X (.If c a b pos) (D6u tc t u):=⟨B5f e d.r f.r⟩
theorem rq5 (a:PE X e te):R1 X (.Return (some e) pos) (E4l te):=⟨B3j a⟩
theorem rq6 (i:Nat) (b:X.N.Nodup) (d:PE X e te) (hi:X.N[i]? =some x:=by exact rfl) (f:Loc X.env.scope x:=by exact .inl rfl) (c:swapsWith e (some (.Name x pos')) pos.line X.env=pure false:=by exact rfl) (a:X.fn x=true\/X.env.scope.names.lookup x=some .local:=by exact .inl rfl):R1 X (.Assign [.Name x pos'] e pos) (D9a te (A7n i)):=⟨A3f b hi f d c a⟩
theorem rq7 {tg:Expr} (hi:PI X tg iter wi) (b:PG X tg g) (e:RS X body tb) (d:PassesOwn (model X.prog X.w) X.A X.env X.xe:=by exact PassesOwn.never) (a:X.calm=true:=by exact rfl) (c:∀x,foldedSetIterable iter X.env x=pure x:=by intro _;rfl):R1 X (.For tg iter body [] pos) (E4p wi g tb):=⟨C9a d a hi b e.r c⟩
end
end L2
namespace My
open PySem L2
inductive Op3 | plus | minus | times
inductive Tm
 | num (z:Int) | place (x:Str) | read (a:Str) (ix:List (Str×Int)) | sum (x:Str) (b:Tm) | pair (k:Op3) (l r:Tm) | guard (x:Str) (lo hi:Int) (l r:Tm)
def Op3.name:Op3->Str | .plus=>"plus" | .minus=>"minus" | .times=>"times"
def B1o (e:Str×Int):PyData:= .tuple [.str e.1,.int e.2]
def A5b (ix:List (Str×Int)):PyData:= .list (ix.map B1o)
def enc:Tm->PyData
 | .num z=> .tuple [.str "number",.int z]
 | .place x=> .tuple [.str "place",.str x]
 | .read a ix=> .tuple [.str "read",.str a,A5b ix]
 | .sum x b=> .tuple [.str "sum",.str x,enc b]
 | .pair k l r=> .tuple [.str k.name,enc l,enc r]
 | .guard x lo hi l r=> .tuple [.str "guard",.str x,.int lo,.int hi,enc l,enc r]
def dep:Tm->Nat
 | .sum _ b=>dep b+1
 | .pair _ l r=>max (dep l) (dep r)+1
 | .guard _ _ _ l r=>max (dep l) (dep r)+1
 | _=>1
def nod:Tm->Nat
 | .sum _ b=>nod b+1
 | .pair _ l r=>nod l+nod r+1
 | .guard _ _ _ l r=>nod l+nod r+1
 | _=>1
def Sm (z:Int):Prop:=z.natAbs<=10^32
def B4q (x:Str):Prop:=x.length<=20/\PyData.strOk x=true
theorem A6l:∀t:Tm,1<=dep t
 | .num z=>by simp [dep]
 | .place x=>by simp [dep]
 | .read a ix=>by simp [dep]
 | .sum x b=>by simp [dep]
 | .pair k l r=>by simp [dep]
 | .guard x lo hi l r=>by simp [dep]
theorem E4g:∀a b:List (Str×Int),PyData.eqvAll (a.map B1o) (b.map B1o)=true->a=b
 | [],[],_=>rfl
 | [],_::_,h=>by simp [PyData.eqvAll] at h
 | _::_,[],h=>by simp [PyData.eqvAll] at h
 | (x,i)::r,(y,j)::s,h=>by
  simp only [Z0p,B1o,PyData.eqvAll,PyData.eqv,Z1x,beq_iff_eq,Bool.and_true] at h;obtain ⟨⟨e,c⟩,d⟩:=h;rw [e,c,E4g r s d]
theorem D1p {a b:Op3} (h:a.name=b.name):a=b:=by cases a <;> cases b <;> first | rfl | exact absurd h (by decide +kernel)
theorem A7x {x y:Str} {r s:List PyData} (h:PyData.eqv (.tuple (.str x::r)) (.tuple (.str y::s))=true):x=y:=by
 rw [PyData.eqv,PyData.eqvAll,PyData.eqv] at h;exact beq_iff_eq.mp (Bool.and_eq_true_iff.mp h).1
theorem D6c:∀a b:Tm,PyData.eqv (enc a) (enc b)=true->a=b:=by
 intro a
 induction a with
 | num z=>intro b h;cases b with
  | num w=>simp only [enc,PyData.eqv,PyData.eqvAll,Z1x,beq_iff_eq,Bool.and_true] at h;rw [h.2]
  | pair k l r=>exact absurd (A7x h) (by cases k <;> decide +kernel)
  | _=>exact absurd (A7x h) (by decide +kernel)
 | place x=>intro b h;cases b with
  | place w=>simp only [enc,PyData.eqv,PyData.eqvAll,Z1x,beq_iff_eq,Bool.and_true] at h;rw [h.2]
  | pair k l r=>exact absurd (A7x h) (by cases k <;> decide +kernel)
  | _=>exact absurd (A7x h) (by decide +kernel)
 | read x ix=>intro b h;cases b with
  | read y jx =>
   simp only [enc,A5b,PyData.eqv,PyData.eqvAll,Z1x,beq_iff_eq,Bool.and_true] at h;obtain ⟨_,f,e⟩:=h;rw [f,E4g _ _ e]
  | pair k l r=>exact absurd (A7x h) (by cases k <;> decide +kernel)
  | _=>exact absurd (A7x h) (by decide +kernel)
 | sum x c ih=>intro b h;cases b with
  | sum y d =>
   simp only [enc,PyData.eqv,PyData.eqvAll,Z1x,beq_iff_eq,Bool.and_true] at h;obtain ⟨_,f,e⟩:=h;rw [f,ih _ e]
  | pair k l r=>exact absurd (A7x h) (by cases k <;> decide +kernel)
  | _=>exact absurd (A7x h) (by decide +kernel)
 | pair k l r ihl ihr=>intro b h;cases b with
  | pair k' l' r' =>
   simp only [enc,PyData.eqv,PyData.eqvAll,Z1x,beq_iff_eq,Bool.and_true] at h;obtain ⟨g,f,e⟩:=h;rw [D1p g,ihl _ f,ihr _ e]
  | guard _ _ _ _ _=>exact absurd (A7x h) (by cases k <;> decide +kernel)
  | _=>exact absurd (A7x h) (by cases k <;> decide +kernel)
 | guard x lo hi l r ihl ihr=>intro b h;cases b with
  | guard y lo' hi' l' r' =>
   simp only [enc,PyData.eqv,PyData.eqvAll,Z1x,beq_iff_eq,Bool.and_true] at h;obtain ⟨g,f,e,j,i,m⟩:=h;rw [f,e,j,ihl _ i,ihr _ m]
  | pair k l' r'=>exact absurd (A7x h) (by cases k <;> decide +kernel)
  | _=>exact absurd (A7x h) (by decide +kernel)
theorem E4r:∀a:List (Str×Int),(∀e∈a,B4q e.1/\Sm e.2)->PyData.canLayAll0 (a.map B1o)=true/\PyData.depthAll (a.map B1o)<=1
 | [],_=>⟨rfl,Z1e _⟩
 | (x,i)::r,h=>by
  obtain ⟨c,b⟩:=E4r r λe f=>h e (.tail _ f);have d:PyData.strOk x=true:=(h (x,i) (.head _)).1.2;constructor
  ·simp [B1o,PyData.canLayAll0,PyData.canLay0,d,c]
  ·simp [B1o,PyData.depthAll,PyData.depth,b]
theorem D5w (k:Op3):PyData.strOk k.name=true:=by cases k <;> decide +kernel
theorem C6g {n:Nat} (h:n<10^33):(Str.ofString (Nat.repr n)).length<=33:=by
 rw [PyProof.Rows.ofString_len]
 simpa [Nat.repr] using PySem.toDigits_len_pow (b:=10) (k:=33) (by decide) (by decide) h
theorem D8e (a b:String):Str.ofString (a++b)=Str.ofString a++Str.ofString b:=by
 rw [Str.ofString_eq_toList,Str.ofString_eq_toList,Str.ofString_eq_toList];apply Str.ext';simp [Str.cps_append,String.toList_append]
theorem D0m {z:Int} (h:Sm z):(toString z:Str).length<=34:=by
 unfold Sm at h
 cases z with
 | ofNat m =>
  have a:m<10^33:=Z2d (show m<=10^32 from h) (by decide);exact Nat.le_succ_of_le (C6g a)
 | negSucc m =>
  have a:m+1<10^33:=Z2d (show m+1<=10^32 from h) (by decide);have e:(toString (Int.negSucc m):Str)=Str.ofString "-"++Str.ofString (Nat.repr (m+1)):=D8e "-" (Nat.repr (m+1));rw [e,Str.length_append];have c:=C6g a;have b:(Str.ofString "-").length=1:=by decide +kernel
  lia
theorem E1i {z:Int} (h:Sm z):z.natAbs.log2<1920:=by
 by_cases h0:z.natAbs=0
 ·rw [h0];decide
 ·exact (Nat.log2_lt h0).mpr (Z2d h (Z0q (show 10^32<2^110 by decide) (Nat.pow_le_pow_right (by decide) (by decide))))
theorem B5i {z:Int} (h1: -100000000000000000000000000000000<=z) (h2:z<=100000000000000000000000000000000):Sm z:=by
 unfold Sm;have:(10:Nat)^32=100000000000000000000000000000000:=by decide
 lia
abbrev abc:Str:="abcdefghijklmnopqrstuvwxyz"
theorem C9p:abc.cps.toList.length=26:=by decide +kernel
theorem C3s:abc.length=26:=by decide +kernel
theorem D3r:∀c∈abc.cps.toList,c<0x110000:=by decide +kernel
theorem C8g {x:Str}:PyData.strOk x=true↔∀c∈x.cps.toList,c<0x110000:=by
 unfold PyData.strOk;rw [<-Array.all_toList,List.all_eq_true];simp
theorem C2u {x y:Str} (b:PyData.strOk x=true) (d:PyData.strOk y=true):PyData.strOk (x++y)=true:=by
 rw [C8g] at *;intro c a;rw [Str.cps_append,Array.toList_append] at a;rcases Z07.mp a with h | h
 ·exact b c h
 ·exact d c h
theorem D4a {c:Nat} (h:c<0x110000):PyData.strOk ⟨#[c]⟩=true:=by
 rw [C8g];intro d a;simp at a
 lia
theorem C3p {x:Str} {l u:Option Int} (d:PyData.strOk x=true):PyData.strOk (Txt.slice x l u)=true:=by
 unfold Txt.slice;split
 ·exact d
 ·rw [C8g] at *;intro c b;simp only [List.mem_filterMap] at b;obtain ⟨i,_,a⟩:=b;refine d c ?_;rw [Array.getElem?_toList.symm] at a;exact Z13 a
theorem lenC (x:Str):x.cps.toList.length=x.length:=by rfl
theorem D1n {ix:List (Str×Int)}:PyData.depth (A5b ix)<=2:=by
 have h:∀l:List (Str×Int),PyData.depthAll (l.map B1o)<=1:=by
  intro l
  induction l with
  | nil=>simp [PyData.depthAll]
  | cons e r ih=>simp [B1o,PyData.depthAll,PyData.depth] at *;lia
 have:=h ix;simp only [A5b,PyData.depth]
 lia
theorem D4i {ix:List (Str×Int)}:cnt (A5b ix)<=1+3*ix.length:=by
 have h:∀l:List (Str×Int),A4j (l.map B1o)<=3*l.length:=by
  intro l
  induction l with
  | nil=>simp [A4j]
  | cons e r ih=>simp only [B1o,A4j,cnt,Z0p,Z0y] at *;lia
 have:=h ix;simp only [A5b,cnt]
 lia
theorem C9q {n:Nat} (h:2<=n):(Builtin.Range.rangeSize 0 ((n:Int)-1) 2).toNat=n/2:=by
 unfold Builtin.Range.rangeSize;rw [Z12 (by decide),Z12 (by lia)]
 lia
section
variable {G:Hp} {v:V}
theorem D7k {z:Int} (h:Rep G v (enc (.num z))):∃p,v= .ref p/\G p=some (.tup [.str "number",.int z]):=by
 obtain ⟨p,i,rfl,e,r⟩:=B6z (show Rep G v (.tuple [.str "number",.int z]) from h);obtain ⟨a,f,rfl,c,r⟩:=A4m r;obtain ⟨b,g,rfl,d,r⟩:=A4m r;cases B2l r;cases B0u c;cases C0x d;exact i02 p rfl e
theorem C7p {x:Str} (h:Rep G v (enc (.place x))):∃p,v= .ref p/\G p=some (.tup [.str "place",.str x]):=by
 obtain ⟨p,i,rfl,e,r⟩:=B6z (show Rep G v (.tuple [.str "place",.str x]) from h);obtain ⟨a,f,rfl,c,r⟩:=A4m r;obtain ⟨b,g,rfl,d,r⟩:=A4m r;cases B2l r;cases B0u c;cases B0u d;exact i02 p rfl e
theorem D1g {x:Str} {ix:List (Str×Int)} (h:Rep G v (enc (.read x ix))):∃p q xs,v= .ref p/\G p=some (.tup [.str "read",.str x,.ref q])/\G q=some (.lst xs)/\A5c G xs (ix.map B1o):=by
 obtain ⟨p,xs,rfl,e,r⟩:=B6z (show Rep G v (.tuple [.str "read",.str x,A5b ix]) from h);obtain ⟨a,l,rfl,g,r⟩:=A4m r;obtain ⟨b,d,rfl,i,r⟩:=A4m r;obtain ⟨c,m,rfl,k,r⟩:=A4m r;cases B2l r;cases B0u g;cases B0u i;obtain ⟨q,f,rfl,j,d⟩:=A5v (show Rep G c (.list (ix.map B1o)) from k);exact i0r p q f rfl e j d
theorem D9s {e:Str×Int} (h:Rep G v (B1o e)):∃p,v= .ref p/\G p=some (.tup [.str e.1,.int e.2]):=by
 obtain ⟨p,i,rfl,q,r⟩:=B6z (show Rep G v (.tuple [.str e.1,.int e.2]) from h);obtain ⟨a,f,rfl,c,r⟩:=A4m r;obtain ⟨b,g,rfl,d,r⟩:=A4m r;cases B2l r;cases B0u c;cases C0x d;exact i02 p rfl q
end
end My
namespace M84
open PySem PySem.NumText
abbrev sg (x:Str):List Nat:=x.cps.toList
def figs (n:Nat):List Nat:=(Nat.toDigits 10 n).map Char.toNat
theorem sg_nat (n:Nat):sg (Str.ofString (toString (n:Int)))=figs n:=PySem.W.KIN.signs_num n
theorem figs_val (n:Nat):digitsVal (figs n)=n:=PySem.W.KIN.val_back n
theorem E1u:∀d:Nat,d<10->(Nat.digitChar d).toNat=48+d:=by decide
theorem C1m {n:Nat} (h:n<10):figs n=[48+n]:=by
 unfold figs;rw [Nat.toDigits_of_lt_base h];simp [E1u n h]
theorem D0i {n:Nat} (h:10<=n):figs n=figs (n/10)++[48+n%10]:=by
 have a:n%10<10:=Nat.mod_lt n (by decide);have t:Nat.toDigits 10 (n/10)++Nat.toDigits 10 (n%10)=Nat.toDigits 10 (10*(n/10)+n%10):=Nat.toDigits_append_toDigits (by decide) (by lia) a;rw [Nat.div_add_mod] at t;show (Nat.toDigits 10 n).map Char.toNat=_;rw [<-t,Z0s];show figs (n/10)++figs (n%10)=_;rw [C1m a]
theorem figs_dg (n:Nat):∀c∈figs n,48<=c/\c<=57:=by
 induction n using Nat.strongRecOn with
 | _ n ih =>
  intro c a;by_cases h:n<10
  ·rw [C1m h] at a;rw [Z0w.mp a];lia
  ·rw [D0i (by lia)] at a;rcases Z07.mp a with a | a
   ·exact ih (n/10) (by lia) c a
   ·rw [Z0w.mp a];lia
theorem figs_pos (n:Nat):1<=(figs n).length:=by
 by_cases h:n<10
 ·rw [C1m h];simp
 ·rw [D0i (by lia)];simp
section
variable {w:List Nat} {ns:List Nat}
end
end M84
namespace My
open PySem L2
variable {f cur:List (List Int×Int)} {fd:FuncData} {ps ys os pend sc as:List Str} {x a y:Str} {q p d l nd:Addr} {e:Str×List Str} {es tb:List (Str×List Str)} {n i m:Nat} {H H' H2:Hp} {o:HO} {K:Frag} {mg:Str->Option Value} {v:V} {A:Adr} {S:Addr->Prop} {ax:List (Str×Int)} {ls:List Lt} {u b:Tm} {g:List Gd} {T:String} {sp':Sp} {kvs ws lk kk:List (Key×V)} {c:List Int} {lo hi W:Int} {z:LS} {r:Tm×LS} {D D' D0:Dt} {t1 t2:TT} {Z:St} {Q:Bool->Hp->Prop} {d1 d2:Bool} {L:Str->Int} {ρ:Env} {gs:List (Str×List Int)} {own:Option (Str×List Str)} {kd:List G3} {Zz:Tm->Prop} {cs:List (List Int)}
def top (i:Nat):Stmt:=PySem.Challenge.pw_arrayloom_k34_whole_lines_mean_the_lets.main.body.getD i (.Pass ⟨0,0,0,0⟩)
abbrev B7d:Stmt:=top 2
abbrev A7h:Stmt:=top 3
abbrev A9l:Stmt:=A3b (top 5) 0
abbrev A8d:Stmt:=A3b (top 6) 0
abbrev A7o:Stmt:=A3b (top 9) 0
abbrev A8p:Stmt:=A3b (top 10) 0
abbrev A9j:Stmt:=A3b (top 11) 0
abbrev A9m:Stmt:=A3b (top 12) 0
abbrev A6t:Stmt:=A3b (top 13) 2
abbrev A5t:Stmt:=A3b (top 14) 2
abbrev A5w:Stmt:=A3b (top 15) 2
abbrev B1q:Stmt:=A3b (top 16) 0
abbrev A8k:Stmt:=A3b (top 17) 0
abbrev A5m:Stmt:=A3b (top 17) 2
abbrev A9x:Stmt:=A3b (top 19) 0
abbrev B0v:Stmt:=top 20
abbrev A8j:Stmt:=top 21
abbrev A3y:Stmt:=top 22
abbrev A7s:Stmt:=top 23
abbrev A7q:Stmt:=top 24
abbrev B1b:Stmt:=A3b (top 26) 0
abbrev A6o:Stmt:=A3b (top 27) 0
abbrev A8i:Stmt:=top 28
abbrev A7i:Stmt:=top 29
abbrev A8t:Stmt:=top 30
abbrev B0z:Stmt:=top 32
abbrev B1n:Stmt:=top 33
abbrev A7u:Stmt:=A3b (top 34) 0
abbrev A4q:Stmt:=A3b (top 34) 1
abbrev A3u:Stmt:=A3b (top 34) 2
abbrev A7g:Stmt:=A3b (top 34) 3
abbrev A4e:Stmt:=A3b (top 34) 4
abbrev B3t:Stmt:=top 35
abbrev B3s:Stmt:=top 36
abbrev B3g:Stmt:=top 37
abbrev A9y:Stmt:=top 39
abbrev B4a:Stmt:=top 40
abbrev B7o:Stmt:=top 41
abbrev A8c:Stmt:=top 42
abbrev A7l:Stmt:=top 43
abbrev B6i:Stmt:=top 44
abbrev A9p:Stmt:=top 45
abbrev A9t:Stmt:=top 46
abbrev A9h:Stmt:=top 47
abbrev A9n:Stmt:=top 48
abbrev B1i:Stmt:=top 49
abbrev B7a:Stmt:=top 50
abbrev B1f:Stmt:=top 51
abbrev B0x:Stmt:=top 52
abbrev A6k:Stmt:=top 53
abbrev A6m:Stmt:=top 54
abbrev B7i:Stmt:=top 55
abbrev A8u:Stmt:=top 56
abbrev A5d:Stmt:=top 57
abbrev A8n:Stmt:=top 58
abbrev B6g:Stmt:=top 59
abbrev B3b:Stmt:=top 60
abbrev A7v:Stmt:=top 61
abbrev B3q:Stmt:=top 62
abbrev B5x:Stmt:=top 63
abbrev D1l:Stmt:=top 64
structure TyC (K:Frag) (C:Addr):Prop where
 ha:findIn K (.ref C) "__class__"=some (some (.builtin "object.__class__"))
 hn:specialIn K (.builtin "object.__class__") "__get__"=some (some (.builtin "getset_descriptor.__get__"))
 htk:takesIn K (.builtin "object.__class__")=some true
 hm:mroIn K C (.type "object")=some true
abbrev C0f:List Str:=["value"]
abbrev E3f:List Str:=["self","name","axes","sums","term"]
abbrev E3k:List Str:=["self","wheel","lengths","arrays","tables","lines","outs"]
abbrev E2j:List Str:=["self","number"]
abbrev E3m:List Str:=["self","array","indexes"]
abbrev C5z:List Str:=["self","left","right"]
abbrev E3l:List Str:=["self","axis","body"]
abbrev E2o:List Str:=["self","axis","low","high","inner","outer"]
abbrev E2r:List Str:=["self","inner","outer"]
abbrev E2z:List Str:=["self","term","sums","guards"]
abbrev B2b:List Str:=["term"]
abbrev D6a:List Str:=["self","name","axes","term"]
abbrev D4v:List Str:=["self","wheel","axes","tables","lets","outs"]
abbrev A9z:List Str:=["program"]
abbrev B2h:List Str:=["self","part"]
abbrev D6o:List Str:=["_law_script","_law_k"]
abbrev C4y:List Str:=["_law_cell_here","_law_k"]
abbrev D4t:List Str:=["_law_cell_here","_law_other","_law_many_here"]
abbrev C4n:List Str:=["_law_axes","_law_lengths"]
abbrev D6l:List Str:=["_law_rest","_law_given","_law_lengths","_law_most"]
abbrev D5b:List Str:=["_law_read","_law_guards","_law_rest","_law_lengths"]
abbrev D7b:List Str:=["_law_rest","_law_array","_law_scope","_law_lengths","_law_own"]
abbrev D7i:List Str:=["_law_rest","_law_arrays","_law_scope","_law_lengths","_law_own"]
abbrev D5v:List Str:=["_law_axis","_law_body","_law_rest","_law_lengths"]
abbrev C4x:List Str:=["_law_cells","_law_at","_law_scope","_law_book","_law_room"]
abbrev C4w:List Str:=["_law_tree","_law_lengths"]
abbrev D6z:List Str:=["_law_cells","_law_scope","_law_book","_law_most"]
abbrev D6j:List Str:=["_law_script","_law_names"]
abbrev C5j:List Str:=["_law_script"]
abbrev B4j:List Str:=["_law_tree","_law_kept"]
abbrev C5a:List Str:=["_law_term","_law_at","_law_lengths","_law_numbers","_law_wheel"]
abbrev D7v:List Str:=["_law_program","_law_seed"]
abbrev D5m:List Str:=["_law_program","_law_given"]
abbrev D6d:List Str:=["_law_line","_law_sums","_law_lengths","_law_numbers","_law_wheel"]
set_option genInjectivity false in
set_option genSizeOf false in
structure Adr where
 ba:Addr
 ao:Addr
 AN:Addr
 ae:Addr
 am:Addr
 aj:Addr
 c9:Addr
 bf:Addr
 av:Addr
 cg:Addr
 bp:Addr
 af:Addr
 aw:Addr
 ci:Addr
 ai:Addr
 au:Addr
 fu:Addr
 fk:FuncData
 fi:Addr
 fj:FuncData
 t7:Addr
 ye:FuncData
 qj:Addr
 xi:FuncData
 nq:Addr
 vz:FuncData
 qz:Addr
 wz:FuncData
 tw:Addr
 ym:FuncData
 iq:Addr
 yj:FuncData
 l_:Addr
 ux:FuncData
 j_:Addr
 u5:FuncData
 jw:Addr
 ue:FuncData
 v8:Addr
 yG:FuncData
 qx:Addr
 x8:FuncData
 jz:Addr
 uc:FuncData
 tq:Addr
 xZ:FuncData
 yw:Addr
 yz:FuncData
 gm:Addr
 gj:FuncData
 kz:Addr
 ma:FuncData
 wj:Addr
 vj:FuncData
 wq:Addr
 vi:FuncData
 uh:Addr
 yC:FuncData
 ml:Addr
 uz:FuncData
 xp:Addr
 xg:FuncData
 wm:Addr
 wg:FuncData
 xo:Addr
 xu:FuncData
 yq:Addr
 yt:FuncData
 yH:Addr
 yr:FuncData
 oz:Addr
 vf:FuncData
 ie:Addr
 q9:FuncData
 be:Addr
 br:FuncData
 fh:Addr
 iw:FuncData
 ge:Addr
 nc:FuncData
 y_:Addr
 yY:FuncData
 yW:Addr
 yQ:FuncData
 yR:Addr
 yZ:FuncData
 yg:Addr
 xy:FuncData
 zc:Addr
 yV:FuncData
 zA:Addr
 zu:FuncData
 xb:Addr
 xq:FuncData
 vh:Addr
 v_:FuncData
 zN:Addr
 zJ:FuncData
 yi:Addr
 yh:FuncData
 y6:Addr
 yl:FuncData
 yf:Addr
 yk:FuncData
 yc:Addr
 xz:FuncData
 yF:Addr
 yE:FuncData
 qp:Addr
 re:FuncData
 jp:Addr
 jh:FuncData
 yA:Addr
 yu:FuncData
 ug:Addr
 u_:FuncData
 v0:Addr
 um:FuncData
 rf:Addr
 qg:FuncData
 jq:Addr
 jb:FuncData
 sj:Addr
 rn:FuncData
 xw:Addr
 xf:FuncData
 zR:Addr
 zG:FuncData
 mw:Addr
 n8:FuncData
 w8:Addr
 wn:FuncData
 yT:Addr
 yN:FuncData
 zH:Addr
 zK:FuncData
 AH:Addr
 AJ:FuncData
abbrev zR0 (f:Addr):Option (Option Value):=some (some (.ref f))
abbrev zC0:Option (Option Value):=some (some (.builtin "object.__class__"))
abbrev zN0:Option (Option Value):=some none
abbrev zK0 (K:Frag) (a b:Addr) (c:Bool):Prop:=kitOne K (.ref a) (.ref b)=some c
structure FQ (K:Frag) (mg:Str->Option Value) (x q:Str) (st:Stmt) (f:Addr) (fd:FuncData) (ps:List Str):Prop where
 F:Fun K x q st f fd
 m:mg x=some (.ref f)
 b:A9b K fd ps []
structure FM (K:Frag) (x q:Str) (st:Stmt) (f:Addr) (fd:FuncData) (ps:List Str):Prop where
 F:Fun K x q st f fd
 b:A9b K fd ps []
structure Txt (K:Frag) (mg:Str->Option Value) (t:Adr):Prop where
 aq:FQ K mg "copied" "copied" B7d t.fu t.fk C0f
 cx:FQ K mg "copied_dict" "copied_dict" A7h t.fi t.fj C0f
 im:FM K "__init__" "Line.__init__" A9l t.t7 t.ye E3f
 jc:FM K "__init__" "Cloth.__init__" A8d t.qj t.xi E3k
 di:FM K "__init__" "Number.__init__" A7o t.nq t.vz E2j
 jd:FM K "__init__" "Place.__init__" A8p t.qz t.wz ["self","axis"]
 ir:FM K "__init__" "Read.__init__" A9j t.tw t.ym E3m
 cn:FM K "__init__" "Pair.__init__" A9m t.iq t.yj C5z
 g_:FM K "made_of" "Plus.made_of" A6t t.l_ t.ux C5z
 g9:FM K "made_of" "Minus.made_of" A5t t.j_ t.u5 C5z
 gc:FM K "made_of" "Times.made_of" A5w t.jw t.ue C5z
 p6:FM K "__init__" "Sum.__init__" B1q t.v8 t.yG E3l
 gf:FM K "__init__" "Guard.__init__" A8k t.qx t.x8 E2o
 cv:FM K "made_of" "Guard.made_of" A5m t.jz t.uc E2r
 cf:FM K "__init__" "Part.__init__" A9x t.tq t.xZ E2z
 pw:FQ K mg "parts_of" "parts_of" B0v t.yw t.yz B2b
 jt:FQ K mg "parts_from" "parts_from" A8j t.gm t.gj ["part"]
 bv:FQ K mg "parts_right_within" "parts_right_within" A3y t.kz t.ma ["part"]
 iy:FQ K mg "sums_at_top" "sums_at_top" A7s t.wj t.vj B2b
 fe:FQ K mg "within_sums" "within_sums" A7q t.wq t.vi ["part"]
 p_:FM K "__init__" "Let.__init__" B1b t.uh t.yC D6a
 gz:FM K "__init__" "Program.__init__" A6o t.ml t.uz D4v
 ja:FQ K mg "axis_names" "axis_names" A8i t.xp t.xg A9z
 i_:FQ K mg "table_names" "table_names" A7i t.wm t.wg A9z
 jm:FQ K mg "lengths_of" "lengths_of" A8t t.xo t.xu A9z
 pq:FQ K mg "cloth_of" "cloth_of" B0z t.yq t.yt A9z
 px:FQ K mg "lines_of" "lines_of" B1n t.yH t.yr A9z
 j6:FM K "__init__" "Lifter.__init__" A7u t.oz t.vf ["self","known"]
 dz:FM K "lift_let" "Lifter.lift_let" A4q t.ie t.q9 ["self","let"]
 cb:FM K "without_sums" "Lifter.without_sums" A3u t.be t.br B2h
 oq:FM K "lift" "Lifter.lift" A7g t.fh t.iw B2h
 df:FM K "fresh_name" "Lifter.fresh_name" A4e t.ge t.nc ["self"]
 rg:FQ K mg "guarded" "guarded" B3t t.y_ t.yY ["body","guards"]
 si:FQ K mg "axes_in" "axes_in" B3s t.yW t.yQ B2b
 rh:FQ K mg "axes_of" "axes_of" B3g t.yR t.yZ B2b
 bc:FQ K mg "_law_cell_at" "_law_cell_at" A9y t.yg t.xy D6o
 fc:FQ K mg "_law_mixed" "_law_mixed" B4a t.zc t.yV C4y
 kq:FQ K mg "_law_part" "_law_part" B7o t.zA t.zu C4y
 jg:FQ K mg "_law_names_by" "_law_names_by" A8c t.xb t.xq D4t
 dh:FQ K mg "_law_number_by" "_law_number_by" A7l t.vh t.v_ ["_law_rest"]
 kl:FQ K mg "_law_many" "_law_many" B6i t.zN t.zJ C4n
 fm:FQ K mg "_law_axes_by" "_law_axes_by" A9p t.yi t.yh D6l
 ko:FQ K mg "_law_guarded" "_law_guarded" A9t t.y6 t.yl D5b
 ij:FQ K mg "_law_read_by" "_law_read_by" A9h t.yf t.yk D7b
 ii:FQ K mg "_law_leaf_by" "_law_leaf_by" A9n t.yc t.xz D7i
 je:FQ K mg "_law_summed" "_law_summed" B1i t.yF t.yE D5v
 gu:FQ K mg "_law_grow" "_law_grow" B7a t.qp t.re C4x
 eh:FQ K mg "_law_weight" "_law_weight" B1f t.jp t.jh C4w
 ph:FQ K mg "_law_let_by" "_law_let_by" B0x t.yA t.yu D6z
 gx:FQ K mg "_law_lengths_by" "_law_lengths_by" A6k t.ug t.u_ D6j
 ia:FQ K mg "_law_program_by" "_law_program_by" A6m t.v0 t.um C5j
 lh:FQ K mg "_law_made" "_law_made" B7i t.rf t.qg B4j
 qu:FQ K mg "_law_made_new" "_law_made_new" A8u t.jq t.jb B4j
 e_:FQ K mg "_law_made_program" "_law_made_program" A5d t.sj t.rn ["_law_program"]
 c_:FQ K mg "_law_cells_of" "_law_cells_of" A8n t.xw t.xf C4n
 ul:FQ K mg "_law_cell" "_law_cell" B6g t.zR t.zG ["_law_indexes","_law_at"]
 fb:FQ K mg "_law_worth" "_law_worth" B3b t.mw t.n8 C5a
 iz:FQ K mg "_law_tables_by" "_law_tables_by" A7v t.w8 t.wn D7v
 n6:FQ K mg "_law_taken" "_law_taken" B3q t.yT t.yN D5m
 qi:FQ K mg "_law_told" "_law_told" B5x t.zH t.zK D6d
 Ay:FQ K mg "law" "law" D1l t.AH t.AJ C5j
 zL:mg "Line"=some (.ref t.ba)
 Ad:mg "Cloth"=some (.ref t.ao)
 rc:mg "Number"=some (.ref t.ae)
 wy:mg "Place"=some (.ref t.am)
 wx:mg "Read"=some (.ref t.aj)
 zS:mg "Pair"=some (.ref t.c9)
 yD:mg "Plus"=some (.ref t.bf)
 xr:mg "Minus"=some (.ref t.av)
 yI:mg "Times"=some (.ref t.cg)
 ww:mg "Sum"=some (.ref t.bp)
 m_:mg "Guard"=some (.ref t.af)
 o_:mg "Part"=some (.ref t.aw)
 AK:mg "Let"=some (.ref t.ci)
 zd:mg "Program"=some (.ref t.ai)
 zy:mg "Lifter"=some (.ref t.au)
 gy:Cls K t.ao
 zO:Mk K t.ao t.qj
 v7:A1m K t.ao "wheel"
 sr:A1m K t.ao "lengths"
 t_:A1m K t.ao "arrays"
 u6:A1m K t.ao "tables"
 kf:A1m K t.ao "lines"
 vd:A1m K t.ao "outs"
 AI:TyC K t.ao
 zB:zK0 K t.ao t.af false
 zI:zK0 K t.ao t.av false
 zh:zK0 K t.ao t.ae false
 z_:zK0 K t.ao t.c9 false
 zt:zK0 K t.ao t.am false
 Ab:zK0 K t.ao t.bf false
 zU:zK0 K t.ao t.aj false
 Ap:zK0 K t.ao t.bp false
 ay:Cls K t.af
 y8:Mk K t.af t.qx
 ff:A1m K t.af "axis"
 jf:A1m K t.af "low"
 j7:A1m K t.af "high"
 gn:A1m K t.af "inner"
 dw:A1m K t.af "outer"
 e8:C2o K t.af "made_of" t.jz
 bh:TyC K t.af
 h_:zK0 K t.af t.af true
 zv:zK0 K t.af t.av false
 u7:zK0 K t.af t.ae false
 nj:zK0 K t.af t.c9 false
 lq:zK0 K t.af t.am false
 zY:zK0 K t.af t.bf false
 ou:zK0 K t.af t.aj false
 jo:zK0 K t.af t.bp false
 mr:Cls K t.ci
 AB:Mk K t.ci t.uh
 lj:A1m K t.ci "name"
 ke:A1m K t.ci "axes"
 mn:A1m K t.ci "term"
 AA:TyC K t.ci
 xx:mroIn K t.ci (.type "list")=some false
 x6:mroIn K t.ci (.type "tuple")=some false
 yd:mroIn K t.ci (.type "dict")=some false
 Ah:zK0 K t.ci t.af false
 Ak:zK0 K t.ci t.av false
 A9:zK0 K t.ci t.ae false
 Aw:zK0 K t.ci t.c9 false
 An:zK0 K t.ci t.am false
 Ax:zK0 K t.ci t.bf false
 As:zK0 K t.ci t.aj false
 AD:zK0 K t.ci t.bp false
 bt:Cls K t.au
 yO:Mk K t.au t.oz
 ju:A1m K t.au "known"
 dm:A1m K t.au "lines"
 ga:A1m K t.au "lifts"
 ky:C2o K t.au "fresh_name" t.ge
 uy:C2o K t.au "lift" t.fh
 pf:C2o K t.au "lift_let" t.ie
 cq:C2o K t.au "without_sums" t.be
 AE:TyC K t.au
 zo:zK0 K t.au t.af false
 zf:zK0 K t.au t.av false
 ze:zK0 K t.au t.ae false
 zx:zK0 K t.au t.c9 false
 zr:zK0 K t.au t.am false
 zC:zK0 K t.au t.bf false
 zM:zK0 K t.au t.aj false
 zW:zK0 K t.au t.bp false
 gh:Cls K t.ba
 yJ:Mk K t.ba t.t7
 jk:A1m K t.ba "name"
 jj:A1m K t.ba "axes"
 r8:A1m K t.ba "sums"
 qw:A1m K t.ba "term"
 Al:TyC K t.ba
 w_:mroIn K t.ba (.type "list")=some false
 w6:mroIn K t.ba (.type "tuple")=some false
 xj:mroIn K t.ba (.type "dict")=some false
 A8:zK0 K t.ba t.af false
 zX:zK0 K t.ba t.av false
 zE:zK0 K t.ba t.ae false
 Ai:zK0 K t.ba t.c9 false
 zZ:zK0 K t.ba t.am false
 Aq:zK0 K t.ba t.bf false
 Ae:zK0 K t.ba t.aj false
 At:zK0 K t.ba t.bp false
 mq:Cls K t.av
 x_:Mk K t.av t.iq
 wo:A1m K t.av "left"
 uv:A1m K t.av "right"
 se:C2o K t.av "made_of" t.j_
 bj:TyC K t.av
 mf:zK0 K t.av t.af false
 uq:zK0 K t.av t.av true
 u8:zK0 K t.av t.ae false
 oj:zK0 K t.av t.c9 true
 ms:zK0 K t.av t.am false
 wf:zK0 K t.av t.bf false
 ni:zK0 K t.av t.aj false
 j9:zK0 K t.av t.bp false
 cy:Cls K t.ae
 sn:Mk K t.ae t.nq
 cz:A1m K t.ae "number"
 a_:TyC K t.ae
 jv:zK0 K t.ae t.af false
 zm:zK0 K t.ae t.av false
 r_:zK0 K t.ae t.ae true
 kh:zK0 K t.ae t.c9 false
 ud:zK0 K t.ae t.am false
 zw:zK0 K t.ae t.bf false
 uw:zK0 K t.ae t.aj false
 iu:zK0 K t.ae t.bp false
 bq:Cls K t.aw
 ji:Mk K t.aw t.tq
 b_:A1m K t.aw "term"
 cr:A1m K t.aw "sums"
 c8:A1m K t.aw "guards"
 AM:TyC K t.aw
 zT:zK0 K t.aw t.af false
 Aa:zK0 K t.aw t.av false
 zD:zK0 K t.aw t.ae false
 Af:zK0 K t.aw t.c9 false
 zV:zK0 K t.aw t.am false
 Am:zK0 K t.aw t.bf false
 Aj:zK0 K t.aw t.aj false
 Au:zK0 K t.aw t.bp false
 ft:Cls K t.am
 zF:Mk K t.am t.qz
 j0:A1m K t.am "axis"
 bo:TyC K t.am
 mi:zK0 K t.am t.af false
 zP:zK0 K t.am t.av false
 uf:zK0 K t.am t.ae false
 n_:zK0 K t.am t.c9 false
 kr:zK0 K t.am t.am true
 A7:zK0 K t.am t.bf false
 vq:zK0 K t.am t.aj false
 jl:zK0 K t.am t.bp false
 qy:Cls K t.bf
 yM:Mk K t.bf t.iq
 xm:A1m K t.bf "left"
 vg:A1m K t.bf "right"
 u9:C2o K t.bf "made_of" t.l_
 bw:TyC K t.bf
 nw:zK0 K t.bf t.af false
 Ac:zK0 K t.bf t.av false
 ut:zK0 K t.bf t.ae false
 qv:zK0 K t.bf t.c9 true
 ox:zK0 K t.bf t.am false
 xh:zK0 K t.bf t.bf true
 qm:zK0 K t.bf t.aj false
 m7:zK0 K t.bf t.bp false
 bu:Cls K t.ai
 yB:Mk K t.ai t.ml
 j8:A1m K t.ai "wheel"
 f_:A1m K t.ai "axes"
 dy:A1m K t.ai "tables"
 gb:A1m K t.ai "lets"
 jy:A1m K t.ai "outs"
 Az:TyC K t.ai
 yP:zK0 K t.ai t.af false
 yX:zK0 K t.ai t.av false
 yK:zK0 K t.ai t.ae false
 zq:zK0 K t.ai t.c9 false
 yU:zK0 K t.ai t.am false
 zj:zK0 K t.ai t.bf false
 zi:zK0 K t.ai t.aj false
 zQ:zK0 K t.ai t.bp false
 fg:Cls K t.aj
 yL:Mk K t.aj t.tw
 oo:A1m K t.aj "array"
 fz:A1m K t.aj "indexes"
 bx:TyC K t.aj
 om:zK0 K t.aj t.af false
 A6:zK0 K t.aj t.av false
 ur:zK0 K t.aj t.ae false
 q0:zK0 K t.aj t.c9 false
 oh:zK0 K t.aj t.am false
 Ag:zK0 K t.aj t.bf false
 qa:zK0 K t.aj t.aj true
 k_:zK0 K t.aj t.bp false
 d_:Cls K t.bp
 AC:Mk K t.bp t.v8
 fw:A1m K t.bp "axis"
 ik:A1m K t.bp "body"
 cj:TyC K t.bp
 qh:zK0 K t.bp t.af false
 Ao:zK0 K t.bp t.av false
 vk:zK0 K t.bp t.ae false
 sv:zK0 K t.bp t.c9 false
 q_:zK0 K t.bp t.am false
 Ar:zK0 K t.bp t.bf false
 s_:zK0 K t.bp t.aj false
 jn:zK0 K t.bp t.bp true
 kj:Cls K t.cg
 yp:Mk K t.cg t.iq
 ve:A1m K t.cg "left"
 v9:A1m K t.cg "right"
 rj:C2o K t.cg "made_of" t.jw
 bn:TyC K t.cg
 m9:zK0 K t.cg t.af false
 uu:zK0 K t.cg t.av false
 tz:zK0 K t.cg t.ae false
 on:zK0 K t.cg t.c9 true
 kg:zK0 K t.cg t.am false
 vy:zK0 K t.cg t.bf false
 nh:zK0 K t.cg t.aj false
 jr:zK0 K t.cg t.bp false
 ab:mg "isinstance"=none
 ib:mg "list"=none
 ip:mg "tuple"=none
 mh:mg "dict"=none
 py:mg "reversed"=none
 ce:mg "len"=none
 dj:mg "range"=none
 Av:mg "int"=none
 AG:mg "min"=none
 AL:mg "max"=none
 AF:mg "zip"=none
abbrev FO (P:Program) (w:World) (base:Heap) {K:Frag} {mg:Str->Option Value} {x q:Str} {st:Stmt} {f:Addr} {fd:FuncData} {ps:List Str} (_:FQ K mg x q st f fd ps) (n:Nat) (sp:Sp):Prop:=A3i P w K mg base CX0 n f fd ps sp
abbrev FP (P:Program) (w:World) (mg:Str->Option Value) (base:Heap) {K:Frag} {x q:Str} {st:Stmt} {f:Addr} {fd:FuncData} {ps:List Str} (_:FM K x q st f fd ps) (n:Nat) (sp:Sp):Prop:=A3i P w K mg base CX0 n f fd ps sp
theorem pcl {X:Cx} {k k2:Nat} {f:Addr} {sp:Sp} {q:Str} {st:Stmt} {e:Expr} {es:List Expr} {t:TA} {p pos:Pos} (F:A3i X.prog X.w X.K X.mg X.base CX0 k f fd ps sp) (d:B0r k2 X.A) (Zz:FQ X.K X.mg x q st f fd ps) (g:PA X (e::es) t) (h:k<=k2:=by lia) (i:Gl X x:=by rfl) (c:(x == ("__debug__":Str))=false:=by decide) (j:starEach (e::es) X.env=(false,eval e X.env)::starEach es X.env:=by rfl) (a:(backTo pos (starEach es X.env)).any (·.1)=false:=by rfl):PE X (.Call (.Name x p) (e::es) [] pos) (D9h sp [] E0 t):=D6y F (d.mono h) i Zz.m Zz.F.kp Zz.b .nil B6p g c j a
theorem pmk {X:Cx} {C:Addr} {k k2:Nat} {f:Addr} {sp:Sp} {e:Expr} {es:List Expr} {t:TA} {p pos:Pos} (M:Mk X.K C f) (F:A3i X.prog X.w X.K X.mg X.base CX0 k f fd ps sp) (c:B0r k2 X.A) (j:X.mg x=some (.ref C)) (g:A9b X.K fd ps []) (d:PA X (e::es) t) (h:k+1<=k2:=by lia) (i:Gl X x:=by rfl) (b:(x == ("__debug__":Str))=false:=by decide) (l:starEach (e::es) X.env=(false,eval e X.env)::starEach es X.env:=by rfl) (a:(backTo pos (starEach es X.env)).any (·.1)=false:=by rfl):PE X (.Call (.Name x p) (e::es) [] pos) (E0a C sp [] E0 t):=D4x M F (c.mono h) i j g .nil B6p d b l a
theorem A0v (h:Nat.ble n 1000000=true):n<=sizeLine:=A2a (Nat.le_of_ble_eq_true h)
theorem E3y:(0:Int)<10:=by decide
theorem E3b:(0:Int)<15:=by decide
theorem D5z:(0:Int)<2:=by decide
theorem E0f:(0:Int)<26:=by decide
theorem D7p:(0:Int)<3:=by decide
theorem D9o:(0:Int)<4:=by decide
theorem z_50:(0:Int)<5:=by decide
theorem E2v:(0:Int)<60:=by decide
theorem E4t:(0:Int)<7:=by decide
theorem E2g:(0:Int)<8:=by decide
theorem z_90:(0:Int)<9:=by decide
theorem nH {x:Addr} (h:H x=none):∃H',A0u H H'/\H' x=some o/\upd H x o=H':=⟨_,A0e h,A0b,rfl⟩
abbrev Sro (a:Addr):Option V:=some (.ref a)
abbrev Sio (a:Int):Option V:=some (.int a)
abbrev Sso (a:Str):Option V:=some (.str a)
abbrev Sbo (a:Bool):Option V:=some (.bl a)
local macro_rules | `(tactic| walk_at "ix") => `(tactic| first | exact Or.inl rfl | exact Or.inr rfl | (simp [relabel]; rfl) | (with_unfolding_all exact Or.inl rfl) | (with_unfolding_all exact Or.inr rfl) | (with_unfolding_all decide))
local macro_rules | `(tactic| walk_at "sc") => `(tactic| exact ⟨rfl, rfl, rfl, by decide +kernel, rfl, by decide +kernel, by decide +kernel⟩)
local macro_rules | `(tactic| walk_at "ln") => `(tactic| (intro _ _ _ _ h; first | (cases h; subst_vars; rfl) | ((repeat (obtain ⟨_, h⟩ := h)); subst_vars; rfl)))
theorem B0o:A0w C0f ["value"] (A0n B7d):=by walk_at "sc"
theorem A4v:A0w ["value","fresh","key","member"] C0f (A0n A7h):=by walk_at "sc"
theorem B9q:A0w E3f ["self","name","axes","sums","term"] (A0n A9l):=by walk_at "sc"
theorem B7h:A0w E3k ["self","wheel","lengths","arrays","tables","lines","outs"] (A0n A8d):=by walk_at "sc"
theorem B5e:A0w E2j ["self","number"] (A0n A7o):=by walk_at "sc"
theorem B6q:A0w ["self","axis"] ["self","axis"] (A0n A8p):=by walk_at "sc"
theorem B9f:A0w E3m ["self","array","indexes"] (A0n A9j):=by walk_at "sc"
theorem B9l:A0w C5z ["self","left","right"] (A0n A9m):=by walk_at "sc"
theorem B4k:A0w C5z ["self","left","right"] (A0n A6t):=by walk_at "sc"
theorem B2g:A0w C5z ["self","left","right"] (A0n A5t):=by walk_at "sc"
theorem B2a:A0w C5z ["self","left","right"] (A0n A5w):=by walk_at "sc"
theorem C1e:A0w E3l ["self","axis","body"] (A0n B1q):=by walk_at "sc"
theorem B7f:A0w E2o ["self","axis","low","high","inner","outer"] (A0n A8k):=by walk_at "sc"
theorem B1y:A0w E2r ["self","inner","outer"] (A0n A5m):=by walk_at "sc"
theorem B9r:A0w E2z ["self","term","sums","guards"] (A0n A9x):=by walk_at "sc"
theorem C2d:A0w B2b ["term"] (A0n B0v):=by walk_at "sc"
theorem A7m:A0w ["part","parts","inner"] ["part"] (A0n A8j):=by walk_at "sc"
theorem A2t:A0w ["part","term","inner","outer"] ["part"] (A0n A3y):=by walk_at "sc"
theorem A4s:A0w ["term","axes","rest"] B2b (A0n A7s):=by walk_at "sc"
theorem A6i:A0w ["part","rest"] ["part"] (A0n A7q):=by walk_at "sc"
theorem C2i:A0w D6a ["self","name","axes","term"] (A0n B1b):=by walk_at "sc"
theorem B4h:A0w D4v ["self","wheel","axes","tables","lets","outs"] (A0n A6o):=by walk_at "sc"
theorem B6n:A0w A9z ["program"] (A0n A8i):=by walk_at "sc"
theorem B4y:A0w A9z ["program"] (A0n A7i):=by walk_at "sc"
theorem B7e:A0w A9z ["program"] (A0n A8t):=by walk_at "sc"
theorem A7w:A0w ["program","lines","arrays","line"] A9z (A0n B0z):=by walk_at "sc"
theorem A9q:A0w ["program","lifter","let"] A9z (A0n B1n):=by walk_at "sc"
theorem B5h:A0w ["self","known"] ["self","known"] (A0n A7u):=by walk_at "sc"
theorem A4i:A0w ["self","let","body","term"] ["self","let"] (A0n A4q):=by walk_at "sc"
theorem A4o:A0w ["self","part","within"] B2h (A0n A3u):=by walk_at "sc"
theorem A3h:A0w ["self","part","sums","term","coming","axes","name"] B2h (A0n A7g):=by walk_at "sc"
theorem A5g:A0w E2j ["self"] (A0n A4e):=by walk_at "sc"
theorem A5j:A0w ["body","guards","term","guard","inner"] ["body","guards"] (A0n B3t):=by walk_at "sc"
theorem B1g:A0w ["term","axes","part"] B2b (A0n B3s):=by walk_at "sc"
theorem C5c:A0w B2b ["term"] (A0n B3g):=by walk_at "sc"
theorem C0a:A0w D6o ["_law_script","_law_k"] (A0n A9y):=by walk_at "sc"
theorem C5r:A0w C4y ["_law_cell_here","_law_k"] (A0n B4a):=by walk_at "sc"
theorem B0m:A0w ["_law_cell_here","_law_k","_law_rest","_law_turn"] C4y (A0n B7o):=by walk_at "sc"
theorem A1t:A0w ["_law_cell_here","_law_other","_law_many_here","_law_some","_law_word","_law_rest","_law_k","_law_spot","_law_names","_law_sign","_law_made_here"] D4t (A0n A8c):=by walk_at "sc"
theorem B4z:A0w ["_law_rest"] ["_law_rest"] (A0n A7l):=by walk_at "sc"
theorem B0c:A0w ["_law_axes","_law_lengths","_law_many_here","_law_axis"] C4n (A0n B6i):=by walk_at "sc"
theorem A5a:A0w ["_law_rest","_law_given","_law_lengths","_law_most","_law_axes","_law_k","_law_axis"] D6l (A0n A9p):=by walk_at "sc"
theorem A3p:A0w ["_law_read","_law_guards","_law_rest","_law_lengths","_law_tree","_law_axis","_law_low","_law_high"] D5b (A0n A9t):=by walk_at "sc"
theorem A1q:A0w ["_law_rest","_law_array","_law_scope","_law_lengths","_law_own","_law_indexes","_law_guards","_law_step","_law_k","_law_length","_law_axis","_law_shift"] D7b (A0n A9h):=by walk_at "sc"
theorem A8s:A0w ["_law_rest","_law_arrays","_law_scope","_law_lengths","_law_own","_law_way"] D7i (A0n A9n):=by walk_at "sc"
theorem A3r:A0w ["_law_axis","_law_body","_law_rest","_law_lengths","_law_outside","_law_tree","_law_kept"] D5v (A0n B1i):=by walk_at "sc"
theorem A1k:A0w ["_law_cells","_law_at","_law_scope","_law_book","_law_room","_law_arrays","_law_lengths","_law_own","_law_rest","_law_way","_law_axis","_law_free","_law_body","_law_second","_law_inner","_law_low","_law_high","_law_outer","_law_left","_law_right"] C4x (A0n B7a):=by walk_at "sc"
theorem C1z:A0w C4w ["_law_tree","_law_lengths"] (A0n B1f):=by walk_at "sc"
theorem A2j:A0w ["_law_cells","_law_scope","_law_book","_law_most","_law_base","_law_row","_law_at","_law_tree","_law_fewer","_law_k","_law_made_here"] D6z (A0n B0x):=by walk_at "sc"
theorem A3s:A0w ["_law_script","_law_names","_law_lengths","_law_many_here","_law_k","_law_rest"] D6j (A0n A6k):=by walk_at "sc"
theorem A0t:A0w ["_law_script","_law_names","_law_lengths","_law_given","_law_arrays","_law_k","_law_rest","_law_tables","_law_lets","_law_many_here","_law_cells","_law_j","_law_axes","_law_most","_law_axis","_law_sums","_law_book","_law_tree","_law_wheel"] C5j (A0n A6m):=by walk_at "sc"
theorem B0n:A0w ["_law_tree","_law_kept","_law_known","_law_made_here"] B4j (A0n B7i):=by walk_at "sc"
theorem A7p:A0w ["_law_tree","_law_kept","_law_left","_law_right"] B4j (A0n A8u):=by walk_at "sc"
theorem A1p:A0w ["_law_program","_law_wheel","_law_lengths","_law_tables","_law_lets","_law_outs","_law_axes","_law_some","_law_kept","_law_told_here"] ["_law_program"] (A0n A5d):=by walk_at "sc"
theorem A3w:A0w ["_law_axes","_law_lengths","_law_found","_law_axis","_law_longer","_law_cell_here"] C4n (A0n A8n):=by walk_at "sc"
theorem A8e:A0w ["_law_indexes","_law_at","_law_cell_here","_law_axis","_law_shift"] ["_law_indexes","_law_at"] (A0n B6g):=by walk_at "sc"
theorem A4p:A0w ["_law_term","_law_at","_law_lengths","_law_numbers","_law_wheel","_law_total","_law_number","_law_within","_law_left","_law_right"] C5a (A0n B3b):=by walk_at "sc"
theorem A1g:A0w ["_law_program","_law_seed","_law_wheel","_law_lengths","_law_tables","_law_lets","_law_outs","_law_made_here","_law_rest","_law_name","_law_axes","_law_row","_law_cell_here","_law_number"] D7v (A0n A7v):=by walk_at "sc"
theorem A3g:A0w ["_law_program","_law_given","_law_wheel","_law_lengths","_law_tables","_law_lets","_law_outs","_law_numbers","_law_name","_law_axes","_law_cell_here"] D5m (A0n B3q):=by walk_at "sc"
theorem A6z:A0w ["_law_line","_law_sums","_law_lengths","_law_numbers","_law_wheel","_law_cell_here","_law_total","_law_turn","_law_at"] D6d (A0n B5x):=by walk_at "sc"
theorem A7z:A0w ["_law_script","_law_program","_law_given","_law_made_here","_law_due","_law_one","_law_cloth","_law_found","_law_line","_law_name","_law_axes","_law_tree"] C5j (A0n D1l):=by walk_at "sc"
theorem A4y:(["member"]:List Str).Nodup:=by decide +kernel
theorem B9h:(["name","length"]:List Str).Nodup:=by decide +kernel
theorem B8b:(["name","axes"]:List Str).Nodup:=by decide +kernel
theorem C8j:(["inner","self"]:List Str).Nodup:=by decide +kernel
theorem C6f:(["axis","coming","sums"]:List Str).Nodup:=by decide +kernel
theorem D0p:(["axis"]:List Str).Nodup:=by decide +kernel
theorem C0c:(["axis","shift"]:List Str).Nodup:=by decide +kernel
theorem D0g:(["_law_axis","_law_scope"]:List Str).Nodup:=by decide +kernel
theorem C9j:(["_law_axis","_law_axes"]:List Str).Nodup:=by decide +kernel
theorem C9k:(["_law_k","_law_cells"]:List Str).Nodup:=by decide +kernel
theorem C5d:(["_law_name","_law_lengths"]:List Str).Nodup:=by decide +kernel
theorem B5t:(["_law_name","_law_own"]:List Str).Nodup:=by decide +kernel
theorem B0s:(["_law_name","_law_own","_law_tree","_law_kept"]:List Str).Nodup:=by decide +kernel
theorem C4h:(["_law_number","_law_cell_here"]:List Str).Nodup:=by decide +kernel
theorem A3i.none {P:Program} {w:World} {base:Heap} {CX:CXT} {k:Nat} {f:Addr} {sp:Sp} (h:∀vs H Q E,¬sp vs H Q E):A3i P w K mg base CX k f fd ps sp :=
 ⟨λvs H Q E q=>(h vs H Q E q).elim,λ_ _ _ H _ _ vs Q E _ _ _ _ q=>(h vs H Q E q).elim⟩
def C6b (e:Str×List Str):PyData:= .tuple [.str e.1,.list (e.2.map PyData.str)]
def B5a (ts:List (Str×List Str)):PyData:= .list (ts.map C6b)
def C0g (xs:List Str):PyData:= .list (xs.map PyData.str)
theorem C1u:∀xs:List Str,PyData.depthAll (xs.map PyData.str)=0/\A4j (xs.map PyData.str)=xs.length
 | []=>⟨rfl,rfl⟩
 | x::r=>by
  obtain ⟨a,b⟩:=C1u r;refine ⟨?_,?_⟩
  ·simp [PyData.depthAll,PyData.depth,a]
  ·simp [A4j,cnt,b];lia
theorem A9s (xs:List Str):(C0g xs).depth<=1/\cnt (C0g xs)<=1+xs.length:=by
 obtain ⟨a,b⟩:=C1u xs;refine ⟨?_,?_⟩
 ·simp [C0g,PyData.depth,a]
 ·simp only [C0g,cnt,b];lia
theorem E2d {n:Nat}:∀ts:List (Str×List Str),(∀e∈ts,e.2.length<=n)->PyData.depthAll (ts.map C6b)<=2/\A4j (ts.map C6b)<=ts.length*(n+4)
 | [],_=>⟨by simp [PyData.depthAll],by simp [A4j]⟩
 | e::r,h=>by
  obtain ⟨d,f⟩:=E2d r λx b=>h x (.tail _ b);obtain ⟨a,c⟩:=C1u e.2;have g:=h e (.head _);refine ⟨?_,?_⟩
  ·simp only [Z0p,C6b,PyData.depthAll,PyData.depth,a]
   lia
  ·simp only [Z0p,C6b,A4j,cnt,c,Z0y,Nat.add_mul,Nat.one_mul]
   lia
theorem D1x (ts:List (Str×List Str)) (h:∀e∈ts,e.2.length<=n):(B5a ts).depth<=3/\cnt (B5a ts)<=1+ts.length*(n+4):=by
 obtain ⟨a,b⟩:=E2d ts h;refine ⟨?_,?_⟩
 ·simp only [B5a,PyData.depth];lia
 ·simp only [B5a,cnt];lia
theorem D9d:∀ts:List (Str×Int),PyData.depthAll (ts.map B1o)<=1
 | []=>by simp [PyData.depthAll]
 | e::r=>by
  have a:=D9d r;simp only [Z0p,B1o,PyData.depthAll,PyData.depth];lia
theorem D1z (ts:List (Str×Int)):(A5b ts).depth<=2:=by
 have a:=D9d ts;simp only [A5b,PyData.depth];lia
theorem B8o {H:Hp}:∀{ys:List Str} {xs:List V},A5c H xs (ys.map PyData.str)->xs=ys.map V.str
 | [],_,r=>by cases r;rfl
 | y::ys,_,r=>by
  rw [Z0p] at r
  cases r with
  | cons a r =>
   cases a
   rw [Z0p,B8o r]
theorem B6r (h:Rep H v (C0g ys)):∃p,v= .ref p/\H p=some (.lst (ys.map V.str)):=by
 obtain ⟨p,a,rfl,e,r⟩:=A5v (show Rep H v (.list (ys.map PyData.str)) from h);rw [B8o r] at e;exact i02 p rfl e
theorem C1y (e:H p=some (.lst (ys.map V.str))):Rep H (.ref p) (C0g ys):= .lst e (A5c.strs ys)
theorem D8p (h:Rep H v (C6b e)):∃b c,v= .ref b/\H b=some (.tup [.str e.1,.ref c])/\H c=some (.lst (e.2.map V.str)):=by
 unfold C6b at h
 cases h with
 | @tup b xs _ eb r =>
  cases r with
  | cons a r =>
   cases r with
   | cons a2 r =>
    cases r
    cases a
    obtain ⟨c,rfl,d⟩:=B6r a2;exact i0f b c rfl eb d
theorem D6w {e:Str×Int} (h:Rep H v (B1o e)):∃b,v= .ref b/\H b=some (.tup [.str e.1,.int e.2]):=by
 unfold B1o at h
 cases h with
 | @tup b xs _ eb r =>
  cases r with
  | cons a r =>
   cases r with
   | cons a2 r =>
    cases r
    cases a
    cases a2
    exact i02 b rfl eb
theorem C1s {α:Type} {f:α->PyData} {ts:List α} {xs:List V} (r:A5c H xs (ts.map f)) {x:V} (c:xs[i]? =some x):∃e,ts[i]? =some e/\Rep H x (f e):=by
 obtain ⟨d,a,b⟩:=r.get2 c;rw [Z1z] at a;obtain ⟨e,g,rfl⟩:=Z0i.mp a;exact i02 e g b
def A6x (A:Adr):Op3->Addr
 | .plus=>A.bf
 | .minus=>A.av
 | .times=>A.cg
inductive Ob (A:Adr) (H:Hp):V->Tm->Prop
 | num {a dx:Addr} {z:Int}:H a=some (.ins A.ae dx [("number",.int z)])->Ob A H (.ref a) (.num z)
 | place {a dx:Addr} {x:Str}:H a=some (.ins A.am dx [("axis",.str x)])->Ob A H (.ref a) (.place x)
 | read {a dx l:Addr} {x:Str} {ix:List (Str×Int)}:H a=some (.ins A.aj dx [("array",.str x),("indexes",.ref l)])->Rep H (.ref l) (A5b ix)->Ob A H (.ref a) (.read x ix)
 | sum {a dx:Addr} {x:Str} {u:V} {b:Tm}:H a=some (.ins A.bp dx [("axis",.str x),("body",u)])->Ob A H u b->Ob A H (.ref a) (.sum x b)
 | pair {a dx:Addr} {k:Op3} {u w:V} {l r:Tm}:H a=some (.ins (A6x A k) dx [("left",u),("right",w)])->Ob A H u l->Ob A H w r->Ob A H (.ref a) (.pair k l r)
 | guard {a dx:Addr} {x:Str} {lo hi:Int} {u w:V} {l r:Tm}:H a=some (.ins A.af dx [("axis",.str x),("low",.int lo),("high",.int hi),("inner",u),("outer",w)])->Ob A H u l->Ob A H w r->Ob A H (.ref a) (.guard x lo hi l r)
theorem Ob.imp (f:A0u H H') {t:Tm} (h:Ob A H v t):Ob A H' v t:=by
 induction h with
 | num e=>exact .num (f _ _ e)
 | place e=>exact .place (f _ _ e)
 | read e r=>exact .read (f _ _ e) (r.same f)
 | sum e _ ih=>exact .sum (f _ _ e) ih
 | pair e _ _ i1 i2=>exact .pair (f _ _ e) i1 i2
 | guard e _ _ i1 i2=>exact .guard (f _ _ e) i1 i2
abbrev Lt:=Str×List Str×Tm
def C0s (A:Adr) (S:Addr->Prop) (H:Hp) (v:V) (e:Lt):Prop:=∃(a b c:Addr) (n:V) (d:Unit),v= .ref a/\H a=some (.ins A.ci b [("name",.str e.1),("axes",.ref c),("term",n)])/\S c/\H c=some (.lst (e.2.1.map V.str))/\Ob A H n e.2.2
abbrev D9z (A:Adr) (S:Addr->Prop) (H:Hp) (xs:List V) (ls:List Lt):Prop:=Paired (C0s A S H) xs ls
theorem C0s.same {e:Lt} (h:C0s A S H v e) (s:A0u H H'):C0s A S H' v e:=by
 obtain ⟨a,d,c,n,b,rfl,g,j,i,f⟩:=h;exact ⟨a,(i0y d c n b rfl (s _ _ g) j (s _ _ i) (f.imp s))⟩
structure D2a (A:Adr) (H:Hp) (p:Addr) (wh:Int) (ax:List (Str×Int)) (tb:List (Str×List Str)) (ls:List Lt) (os:List Str):Prop where
 ob:∃dx a t l o,H p=some (.ins A.ai dx [("wheel",.int wh),("axes",.ref a),("tables",.ref t),("lets",.ref l),("outs",.ref o)])/\Rep H (.ref a) (A5b ax)/\Rep H (.ref t) (B5a tb)/\(∃xs,H l=some (.lst xs)/\D9z A (λ_=>True) H xs ls)/\Rep H (.ref o) (C0g os)
theorem D2a.same {b:Int} (h:D2a A H p b ax tb ls os) (s:A0u H H'):D2a A H' p b ax tb ls os:=by
 obtain ⟨d,a,t,l,o,e,f,i,⟨g,j,k⟩,c⟩:=h.ob;exact ⟨d,a,t,l,o,s _ _ e,f.same s,i.same s,(i02 g (s _ _ j) (Paired.mapP k λ_ _ z=>z.same s)),c.same s⟩
abbrev Gd:=Str×Int×Int×Bool
abbrev PT:=Tm×List Str×List Gd
noncomputable def prT:Tm->List Str->List Gd->List PT
 | .sum x b,s,g=>(.sum x b,s,g)::prT b (s++[x]) g
 | .pair k l r,s,g=>(.pair k l r,s,g)::(prT l s g++prT r s g)
 | .guard x lo hi l r,s,g=>(.guard x lo hi l r,s,g)::(prT l s (g++[(x,lo,hi,true)])++prT r s (g++[(x,lo,hi,false)]))
 | .num z,s,g=>[(.num z,s,g)]
 | .place x,s,g=>[(.place x,s,g)]
 | .read a i,s,g=>[(.read a i,s,g)]
noncomputable def B7r:Tm->List Str->List Gd->List PT
 | .sum x b,s,g=>[(b,s++[x],g)]
 | .pair _ l r,s,g=>[(l,s,g),(r,s,g)]
 | .guard x lo hi l r,s,g=>[(l,s,g++[(x,lo,hi,true)]),(r,s,g++[(x,lo,hi,false)])]
 | _,_,_=>[]
theorem C2w:∀(u:Tm) (s:List Str) (g:List Gd),prT u s g=(u,s,g)::(B7r u s g).flatMap λk=>prT k.1 k.2.1 k.2.2
 | .num _,_,_=>rfl
 | .place _,_,_=>rfl
 | .read _ _,_,_=>rfl
 | .sum x b,s,g=>by simp [prT,B7r]
 | .pair k l r,s,g=>by simp [prT,B7r]
 | .guard x lo hi l r,s,g=>by simp [prT,B7r]
theorem D1i {s:List Str} {k:PT} (h:k∈B7r u s g):dep k.1+1<=dep u:=by
 cases u with
 | num z=>cases h
 | place x=>cases h
 | read a ix=>cases h
 | sum x b=>rw [Z0w.mp h];simp [dep]
 | pair o l r =>
  simp only [B7r,Z0e,List.not_mem_nil,or_false] at h;rcases h with rfl | rfl <;> simp only [dep] <;> lia
 | guard x lo hi l r =>
  simp only [B7r,Z0e,List.not_mem_nil,or_false] at h;rcases h with rfl | rfl <;> simp only [dep] <;> lia
theorem A5s:∀(u:Tm) (s:List Str) (g:List Gd),(prT u s g).length=nod u
 | .num _,_,_=>rfl
 | .place _,_,_=>rfl
 | .read _ _,_,_=>rfl
 | .sum x b,s,g=>by simp [prT,nod,A5s b]
 | .pair k l r,s,g=>by simp [prT,nod,A5s l,A5s r]
 | .guard x lo hi l r,s,g=>by simp [prT,nod,A5s l,A5s r]
def E1s (A:Adr) (H:Hp) (v:V) (g:Gd):Prop:=∃(b a c:Addr) (u w:V),v= .ref b/\H b=some (.tup [.ref a,.bl g.2.2.2])/\H a=some (.ins A.af c [("axis",.str g.1),("low",.int g.2.1),("high",.int g.2.2.1),("inner",u),("outer",w)])
theorem E1s.same {g:Gd} (h:E1s A H v g) (s:A0u H H'):E1s A H' v g:=by
 obtain ⟨c,a,b,u,w,rfl,d,e⟩:=h;exact i03 c a (i0n b u w rfl (s _ _ d) (s _ _ e))
def A3e (A:Adr) (H:Hp) (v:V) (e:PT):Prop:=∃a g d f c b,v= .ref a/\H a=some (.ins A.aw g [("term",d),("sums",.ref f),("guards",.ref c)])/\Ob A H d e.1/\H f=some (.lst (e.2.1.map V.str))/\H c=some (.lst b)/\b.length+dep e.1<=100/\e.2.1.length+dep e.1<=100/\Paired (E1s A H) b e.2.2
theorem A3e.same {e:PT} (h:A3e A H v e) (s:A0u H H'):A3e A H' v e:=by
 obtain ⟨a,b,l,d,c,i,rfl,m,o,k,g,f,j,n⟩:=h;exact i1d a b l d c i rfl (s _ _ m) (o.imp s) (s _ _ k) (s _ _ g) f j (Paired.mapP n λ_ _ z=>z.same s)
local macro_rules | `(tactic| walk_at "lk") => `(tactic| first | with_reducible exact lk0 | (refine lk1 (by decide +kernel) ?_; walk_at "lk") | rfl)
theorem B3r {α β:Type} {F:α->β->Prop}:∀{l:List α} {m:List β},Paired F l m->∀{i:Nat} {x:α},l[i]? =some x->∃y,m[i]? =some y/\F x y
 | _,_,.nil,i,x,e=>by simp at e
 | _,_,.cons r t,0,x,e=>by simp at e;subst e;exact i02 _ rfl r
 | _,_,.cons r t,i+1,x,e=>by
  obtain ⟨y,b,a⟩:=B3r t (i:=i) (by simpa using e);exact i02 y (by simpa using b) a
theorem B2p {α β:Type} {F:α->β->Prop}:∀{a c:List α} {b d:List β},Paired F a b->Paired F c d->Paired F (a++c) (b++d)
 | _,_,_,_,.nil,h=>h
 | _,_,_,_,.cons r t,h=> .cons r (B2p t h)
def C3z (K:Frag) (f:Str):Sp:=λb H Q _=>∃(p C a:Addr) (v:V),b=[.ref p,v]/\H p=some (.ins C a [])/\Cls K C/\A1m K C f/\Q .non (upd H p (.ins C a [(f,v)]))
def C2p (K:Frag) (f g:Str):Sp:=λb H Q _=>∃(p C a:Addr) (v u:V),b=[.ref p,v,u]/\H p=some (.ins C a [])/\Cls K C/\A1m K C f/\A1m K C g/\Q .non (upd H p (.ins C a [(f,v),(g,u)]))
def D0v (n:Nat):Sp:=λe H Q _=>∃(v:V) (d:PyData),e=[v]/\Rep H v d/\PyData.depth d<=n/\cnt d<=100000/\∀(c:V) (b:Hp),A0u H b->Rep (A0s (λa=>H a=none) b) c d->Q c b
def E0d (C:Addr):Sp:=λc H Q _=>∃(a b:Addr) (d:List (Str×V)),c=[.ref a]/\H a=some (.ins C b d)/\Q (.ref a) H
def C6d (C:Addr):Sp:=λf H Q _=>∃(p:Addr) (b:List V),f=[.ref p]/\H p=some (.lst b)/\b.length<=1000/\(∀x∈b,∃a d e,x= .ref a/\H a=some (.ins C d e))/\∀(D:Addr) (c:Hp),H D=none->A0u H c->c D=some (.lst b)->Q (.ref D) c
def D6n:Sp:=λh H Q _=>∃(d:Addr) (e:List (Key×V)) (g:List PyData),h=[.ref d]/\H d=some (.dK e)/\e.length<=100000/\Paired (λ(a:Key×V) (x:PyData)=>Rep H a.2 x/\PyData.depth x<=1/\cnt x<=100000) e g/\
 ∀(p:Addr) (c:List (Key×V)) (f:Hp),H p=none->A0u H f->f p=some (.dK c)->c.map (·.1)=e.map (·.1)->Paired (λ(b:Key×V) (x:PyData)=>Rep (A0s (λa=>H a=none) f) b.2 x) c g->Q (.ref p) f
def D2j (A:Adr):Sp:=λg H Q _=>∃(p f:Addr) (a b c d e:V),g=[.ref p,a,b,c,d,e]/\H p=some (.ins A.af f [])/\Q .non (upd H p (.ins A.af f [("axis",a),("low",b),("high",c),("inner",d),("outer",e)]))
def D3g (A:Adr):Sp:=λf H Q _=>∃(p d l:Addr) (x:Str) (c:List (Str×Int)),f=[.ref p,.str x,.ref l]/\H p=some (.ins A.aj d [])/\Rep H (.ref l) (A5b c)/\c.length<=1000/\
 ∀(e:Addr) (a:Hp),a p=some (.ins A.aj d [("array",.str x),("indexes",.ref e)])->Rep (A0s (λb=>H b=none) a) (.ref e) (A5b c)->(∀b o,b≠p->H b=some o->a b=some o)->Q .non a
variable {P:Program} {w:World} {K:Frag} {mg:Str->Option Value} {base:Heap} {t:Adr}
theorem A9e (T:Txt K mg t):FP P w mg base T.di 1 (C3z K "number"):=by
 refine T.di.F.ok B5e (by walk_at "ln") λ_ A _ s H _ Q E e h=> ?_
 ·obtain ⟨p,C,a,v,rfl,c,b,d,k⟩:=h;exact i02 _ (@RS.r _ _ _ (rq3 ⟨A2d (pv 0) (pv 1) rfl⟩)) (i1b _ rfl _ rfl p C a [] rfl c b d (by decide) k)
theorem B6u (T:Txt K mg t):FP P w mg base T.jd 1 (C3z K "axis"):=by
 refine T.jd.F.ok B6q (by walk_at "ln") λ_ A _ s H _ Q E e h=> ?_
 ·obtain ⟨p,C,a,v,rfl,c,b,d,k⟩:=h;exact i02 _ (@RS.r _ _ _ (rq3 ⟨A2d (pv 0) (pv 1) rfl⟩)) (i1b _ rfl _ rfl p C a [] rfl c b d (by decide) k)
theorem A6e (T:Txt K mg t):FP P w mg base T.cn 1 (C2p K "left" "right"):=by
 refine T.cn.F.ok B9l (by walk_at "ln") λ_ A _ s H _ Q E f h=> ?_
 ·obtain ⟨p,C,a,v,u,rfl,d,b,c,e,k⟩:=h;refine i02 _ (@RS.r _ _ _ (rq1 ⟨A2d (pv 0) (pv 1) rfl⟩ (rq3 ⟨A2d (pv 0) (pv 2) rfl⟩))) (i1b _ rfl _ rfl p C a [] rfl d b c (by decide) (i1b _ rfl _ rfl p C a _ rfl A0b b e (by show 1<1000;decide) ?_));show Q V.non (upd (upd H p _) p (.ins C a (A4n "right" u (A4n "left" v []))));rw [A5n,A1i,A1a (by decide +kernel),A1i];exact k
theorem C0v (T:Txt K mg t):FP P w mg base T.p6 1 (C2p K "axis" "body"):=by
 refine T.p6.F.ok C1e (by walk_at "ln") λ_ A _ s H _ Q E f h=> ?_
 ·obtain ⟨p,C,a,v,u,rfl,d,b,c,e,k⟩:=h;refine i02 _ (@RS.r _ _ _ (rq1 ⟨A2d (pv 0) (pv 1) rfl⟩ (rq3 ⟨A2d (pv 0) (pv 2) rfl⟩))) (i1b _ rfl _ rfl p C a [] rfl d b c (by decide) (i1b _ rfl _ rfl p C a _ rfl A0b b e (by show 1<1000;decide) ?_));show Q V.non (upd (upd H p _) p (.ins C a (A4n "body" u (A4n "axis" v []))));rw [A5n,A1i,A1a (by decide +kernel),A1i];exact k
theorem A5x (h:T="NoneType"\/T="bool"\/T="int"\/T="str"\/T="tuple"):∀u,A3c (.ty "list") u->kitOne K (.type T) u=some false:=by
 rcases h with rfl | rfl | rfl | rfl | rfl <;> exact B8v (by decide +kernel) (by decide +kernel) (by decide +kernel)
theorem A6f (h:T="NoneType"\/T="bool"\/T="int"\/T="str"):∀u,A3c (.ty "tuple") u->kitOne K (.type T) u=some false:=by
 rcases h with rfl | rfl | rfl | rfl <;> exact B8v (by decide +kernel) (by decide +kernel) (by decide +kernel)
theorem A7j (h:T="NoneType"\/T="bool"\/T="int"\/T="str"):∀u,A3c (.ty "dict") u->kitOne K (.type T) u=some false:=by
 rcases h with rfl | rfl | rfl | rfl <;> exact B8v (by decide +kernel) (by decide +kernel) (by decide +kernel)
theorem C2v (T:Txt K mg t) (Ga0:A3i P w K mg base CX0 m t.fu t.fk C0f sp')
  (Z:∀(v:V) (d:PyData) (H:Hp) (Q:VK),Rep H v d->PyData.depth d+1<=n->cnt d<=100000->(∀(L:V) (H':Hp),A0u H H'->Rep (A0s (λa=>H a=none) H') L d->Q L H')->sp' [v] H Q E0) :
  A3i P w K mg base CX0 (m+1) t.fu t.fk C0f (D0v n):=by
 refine T.aq.F.ok B0o (by walk_at "ln") λ_ A _ s H _ Q E X h=> ?_
 ·obtain ⟨v,d,rfl,rp,Y,hc,k⟩:=h;have Ga1:A3i P w K mg base CX0 0 t.fi t.fj C0f (λ_ _ _ _=>False):=A3i.none λ_ _ _ _ h=>h;refine i02 _ (@RS.r _ _ _ (rq1 (rq4 (A2s (A0q A1d (by rfl) T.ab Z0d (A0a (pv 0) (A0a (A5f (v:=V.ty "list") rfl T.ib Z1o rfl) A0c)))) (rq3 (rq5 (A4r (N':=["member"]) (ix:=(List.replicate 1 none)) rfl (A3a rfl (by decide +kernel) (by decide +kernel)) (A2z rfl) (B1v (pv 0)) (λ_ _ _ _=>(A0k (i:=0) A4y rfl (.inl rfl))) (λ_ _ _ _=>(pcl Ga0 X T.aq (A0a (pv 0) A0c)))))) ⟨A0x⟩) (rq1 (rq4 (A2s (A0q A1d (by rfl) T.ab Z0d (A0a (pv 0) (A0a (A5f (v:=V.ty "tuple") rfl T.ip Z0m rfl) A0c)))) (rq3 (rq5 (A2k A5i (by rfl) T.ip Z0m (A0a (A4r (N':=["member"]) (ix:=(List.replicate 1 none)) rfl (A3a rfl (by decide +kernel) (by decide +kernel)) (A2z rfl) (B1v (pv 0)) (λ_ _ _ _=>(A0k (i:=0) A4y rfl (.inl rfl))) (λ_ _ _ _=>(pcl Ga0 X T.aq (A0a (pv 0) A0c)))) A0c)))) ⟨A0x⟩) (rq1 (rq4 (A2s (A0q A1d (by rfl) T.ab Z0d (A0a (pv 0) (A0a (A5f (v:=V.ty "dict") rfl T.mh Z2q rfl) A0c)))) (rq3 (rq5 (pcl Ga1 X T.cx (A0a (pv 0) A0c)))) ⟨A0x⟩) (rq3 (rq5 (pv 0))))))) ?_
  cases rp with
  | non =>
   refine i16 _ rfl _ _ _ _ rfl .non (A5x (.inl rfl)) false rfl (A2m ?_);refine i16 _ rfl _ _ _ _ rfl .non (A6f (.inl rfl)) false rfl (A2m ?_);exact i16 _ rfl _ _ _ _ rfl .non (A7j (.inl rfl)) false rfl (A2m (i02 _ rfl (k _ _ (A0u.refl _) .non)))
  | bl b =>
   refine i16 _ rfl _ _ _ _ rfl (.bl b) (A5x (.inr (.inl rfl))) false rfl (A2m ?_);refine i16 _ rfl _ _ _ _ rfl (.bl b) (A6f (.inr (.inl rfl))) false rfl (A2m ?_);exact i16 _ rfl _ _ _ _ rfl (.bl b) (A7j (.inr (.inl rfl))) false rfl (A2m (i02 _ rfl (k _ _ (A0u.refl _) (.bl b))))
  | int b =>
   refine i16 _ rfl _ _ _ _ rfl (.int b) (A5x (.inr (.inr (.inl rfl)))) false rfl (A2m ?_);refine i16 _ rfl _ _ _ _ rfl (.int b) (A6f (.inr (.inr (.inl rfl)))) false rfl (A2m ?_);exact i16 _ rfl _ _ _ _ rfl (.int b) (A7j (.inr (.inr (.inl rfl)))) false rfl (A2m (i02 _ rfl (k _ _ (A0u.refl _) (.int b))))
  | str b =>
   refine i16 _ rfl _ _ _ _ rfl (.str b) (A5x (.inr (.inr (.inr (.inl rfl))))) false rfl (A2m ?_);refine i16 _ rfl _ _ _ _ rfl (.str b) (A6f (.inr (.inr (.inr rfl)))) false rfl (A2m ?_);exact i16 _ rfl _ _ _ _ rfl (.str b) (A7j (.inr (.inr (.inr rfl)))) false rfl (A2m (i02 _ rfl (k _ _ (A0u.refl _) (.str b))))
  | @lst p xs ds e r =>
   have G:=r.len;have U:=C2g ds;have W:A4j ds+1<=100000:=hc;have O:PyData.depthAll ds+1<=n:=Y;refine i16 _ rfl _ _ _ _ rfl (.lst e) (B2k "list") true rfl (A5u ?_);refine .inl (i0k _ rfl p rfl ⟨_,SqL.of e⟩ λD M=> ?_)
   refine A4g (K:=K) (a:=p) (D:=D) (xs:=xs) (λi j f=>A0u H f/\f D=some (.lst j)/\A5c (A0s (λa=>H a=none/\a≠D) f) j (ds.take i)/\j.length=i)
    (i04 (A0e M) A0b (by rw [List.take_zero];exact .nil) rfl) (λi j f g=>SqL.of (g.1 _ _ e)) ?_ ?_
   ·rintro i x j f N ⟨g,c,B,q⟩;refine C5y ?_;intro N';obtain ⟨d,y,R⟩:=r.get2 N;obtain ⟨c1,c2⟩:=C6y y;have hi:i<xs.length:=(Z03.mp N).1;refine i05 True.intro _ rfl (Z x d f _ (R.same g) (by lia) (by lia) λL H5 C I=> ?_);have u:¬(H D=none/\D≠D):=λz=>z.2 rfl;refine i0h (C _ _ c) (A1l (by lia)) (A0o (g.trans C) M) A0b ?_ (by simp [q]);rw [Z14,y];show A5c _ (j++[L]) (ds.take i++[d]);refine (B.same (A2i (A0g C) u)).snoc (I.same ((A2x (A0u.refl _) λa o _ J=>⟨g.free J,λz=> ?_⟩).trans (A2i (A0u.refl _) u)));subst z;rw [c] at J;cases J
   ·rintro j f ⟨g,c,B,q⟩;refine k (.ref D) f g (.lst (A0h M c) ?_);rw [G,Z18] at B;exact B.same (A2x (A0u.refl _) λa o _ h=>h.1)
  | @tup p xs ds e r =>
   have G:=r.len;have U:=C2g ds;have W:A4j ds+1<=100000:=hc;have O:PyData.depthAll ds+1<=n:=Y;refine i16 _ rfl _ _ _ _ rfl (.tup e) (A5x (.inr (.inr (.inr (.inr rfl))))) false rfl (A2m ?_);refine i16 _ rfl _ _ _ _ rfl (.tup e) (B2k "tuple") true rfl (A5u ?_);refine .inr (i0k _ rfl p rfl ⟨_,SqT.of e⟩ λD M=> ?_)
   refine C6e (K:=K) (a:=p) (D:=D) (xs:=xs) (λi j f=>A0u H f/\f D=some (.lst j)/\A5c (A0s (λa=>H a=none/\a≠D) f) j (ds.take i)/\j.length=i)
    (i04 (A0e M) A0b (by rw [List.take_zero];exact .nil) rfl) (λi j f g=>SqT.of (g.1 _ _ e)) ?_ ?_
   ·rintro i x j f N ⟨g,c,B,q⟩;refine C5y ?_;intro N';obtain ⟨d,y,R⟩:=r.get2 N;obtain ⟨c1,c2⟩:=C6y y;have hi:i<xs.length:=(Z03.mp N).1;refine i05 True.intro _ rfl (Z x d f _ (R.same g) (by lia) (by lia) λL H5 C I=> ?_);have u:¬(H D=none/\D≠D):=λz=>z.2 rfl;refine i0h (C _ _ c) (A1l (by lia)) (A0o (g.trans C) M) A0b ?_ (by simp [q]);rw [Z14,y];show A5c _ (j++[L]) (ds.take i++[d]);refine (B.same (A2i (A0g C) u)).snoc (I.same ((A2x (A0u.refl _) λa o _ J=>⟨g.free J,λz=> ?_⟩).trans (A2i (A0u.refl _) u)));subst z;rw [c] at J;cases J
   ·rintro j f ⟨g,c,B,q⟩;refine i07 D j rfl (.inl ⟨SqL.of c,λl S=> ?_⟩);refine k (.ref l) _ (g.trans (A0e S)) (.tup (A0h (g.free S) A0b) ?_);rw [G,Z18] at B;exact B.same ((A2x (A0u.refl _) λa o _ h=>h.1).trans (A0g (A0e S)))
theorem B0f (T:Txt K mg t):∀n:Nat,A3i P w K mg base CX0 (n+1) t.fu t.fk C0f (D0v n)
 | 0=>C2v T (sp':=λ_ _ _ _=>False) (m:=0) (A3i.none λ_ _ _ _ h=>h) λv d H Q _ h=>absurd h (by lia)
 | n+1=>C2v T (B0f T n) λv d H Q a c b k=>(i0p v d rfl a (by lia) b k)
theorem D5c (T:Txt K mg t) {C:Addr} (cl:Cls K C) (tc:TyC K C) (g:mroIn K C (.type "list")=some false) (f:mroIn K C (.type "tuple")=some false) (d:mroIn K C (.type "dict")=some false):A3i P w K mg base CX0 1 t.fu t.fk C0f (E0d C):=by
 refine T.aq.F.ok B0o (by walk_at "ln") λ_ A _ s H _ Q E c h=> ?_
 ·obtain ⟨a,j,l,rfl,e,k⟩:=h;have Ga0:A3i P w K mg base CX0 0 t.fu t.fk C0f (λ_ _ _ _=>False):=A3i.none λ_ _ _ _ h=>h;have b:A8a K H (.ref a) (.ref C):= .ins e cl tc.ha tc.hn tc.htk tc.hm;have Ga1:A3i P w K mg base CX0 0 t.fi t.fj C0f (λ_ _ _ _=>False):=A3i.none λ_ _ _ _ h=>h;refine i02 _ (@RS.r _ _ _ (rq1 (rq4 (A2s (A0q A1d (by rfl) T.ab Z0d (A0a (pv 0) (A0a (A5f (v:=V.ty "list") rfl T.ib Z1o rfl) A0c)))) (rq3 (rq5 (A4r (N':=["member"]) (ix:=(List.replicate 1 none)) rfl (A3a rfl (by decide +kernel) (by decide +kernel)) (A2z rfl) (B1v (pv 0)) (λ_ _ _ _=>(A0k (i:=0) A4y rfl (.inl rfl))) (λ_ _ _ _=>(pcl Ga0 c T.aq (A0a (pv 0) A0c)))))) ⟨A0x⟩) (rq1 (rq4 (A2s (A0q A1d (by rfl) T.ab Z0d (A0a (pv 0) (A0a (A5f (v:=V.ty "tuple") rfl T.ip Z0m rfl) A0c)))) (rq3 (rq5 (A2k A5i (by rfl) T.ip Z0m (A0a (A4r (N':=["member"]) (ix:=(List.replicate 1 none)) rfl (A3a rfl (by decide +kernel) (by decide +kernel)) (A2z rfl) (B1v (pv 0)) (λ_ _ _ _=>(A0k (i:=0) A4y rfl (.inl rfl))) (λ_ _ _ _=>(pcl Ga0 c T.aq (A0a (pv 0) A0c)))) A0c)))) ⟨A0x⟩) (rq1 (rq4 (A2s (A0q A1d (by rfl) T.ab Z0d (A0a (pv 0) (A0a (A5f (v:=V.ty "dict") rfl T.mh Z2q rfl) A0c)))) (rq3 (rq5 (pcl Ga1 c T.cx (A0a (pv 0) A0c)))) ⟨A0x⟩) (rq3 (rq5 (pv 0))))))) ?_;refine i16 _ rfl _ _ _ _ rfl b (C7c g (by decide +kernel)) false rfl (A2m ?_);refine i16 _ rfl _ _ _ _ rfl b (C7c f (by decide +kernel)) false rfl (A2m ?_);exact i16 _ rfl _ _ _ _ rfl b (C7c d (by decide +kernel)) false rfl (A2m (i02 _ rfl k))
theorem C8c (T:Txt K mg t) {C:Addr} (cl:Cls K C) (tc:TyC K C) (B:mroIn K C (.type "list")=some false) (z:mroIn K C (.type "tuple")=some false) (o:mroIn K C (.type "dict")=some false):A3i P w K mg base CX0 2 t.fu t.fk C0f (C6d C):=by
 have Ga0:= @D5c P w K mg base t T _ cl tc B z o;refine T.aq.F.ok B0o (by walk_at "ln") λ_ A _ s H _ Q E l h=> ?_
 ·obtain ⟨p,xs,rfl,e,G,n,k⟩:=h;have Ga1:A3i P w K mg base CX0 0 t.fi t.fj C0f (λ_ _ _ _=>False):=A3i.none λ_ _ _ _ h=>h;refine i02 _ (@RS.r _ _ _ (rq1 (rq4 (A2s (A0q A1d (by rfl) T.ab Z0d (A0a (pv 0) (A0a (A5f (v:=V.ty "list") rfl T.ib Z1o rfl) A0c)))) (rq3 (rq5 (A4r (N':=["member"]) (ix:=(List.replicate 1 none)) rfl (A3a rfl (by decide +kernel) (by decide +kernel)) (A2z rfl) (B1v (pv 0)) (λ_ _ _ _=>(A0k (i:=0) A4y rfl (.inl rfl))) (λ_ _ _ _=>(pcl Ga0 l T.aq (A0a (pv 0) A0c)))))) ⟨A0x⟩) (rq1 (rq4 (A2s (A0q A1d (by rfl) T.ab Z0d (A0a (pv 0) (A0a (A5f (v:=V.ty "tuple") rfl T.ip Z0m rfl) A0c)))) (rq3 (rq5 (A2k A5i (by rfl) T.ip Z0m (A0a (A4r (N':=["member"]) (ix:=(List.replicate 1 none)) rfl (A3a rfl (by decide +kernel) (by decide +kernel)) (A2z rfl) (B1v (pv 0)) (λ_ _ _ _=>(A0k (i:=0) A4y rfl (.inl rfl))) (λ_ _ _ _=>(pcl Ga0 l T.aq (A0a (pv 0) A0c)))) A0c)))) ⟨A0x⟩) (rq1 (rq4 (A2s (A0q A1d (by rfl) T.ab Z0d (A0a (pv 0) (A0a (A5f (v:=V.ty "dict") rfl T.mh Z2q rfl) A0c)))) (rq3 (rq5 (pcl Ga1 l T.cx (A0a (pv 0) A0c)))) ⟨A0x⟩) (rq3 (rq5 (pv 0))))))) ?_;refine i16 _ rfl _ _ _ _ rfl (.lst e) (B2k "list") true rfl (A5u ?_);refine .inl (i0k _ rfl p rfl ⟨_,SqL.of e⟩ λD j=> ?_)
  refine A4g (K:=K) (a:=p) (D:=D) (xs:=xs) (λi g c=>A0u H c/\c D=some (.lst g)/\g=xs.take i)
   (i00 (A0e j) A0b rfl) (λi g c d=>SqL.of (d.1 _ _ e)) ?_ ?_
  ·rintro i x g c f ⟨d,b,rfl⟩;refine C5y ?_;intro N';obtain ⟨a,u,m,rfl,q⟩:=n x (Z13 f);have y:(xs.take i).length<=xs.length:=by rw [Z0x];lia
   refine ⟨True.intro,(i0x _ rfl a u m rfl (d _ _ q) b (i04 (A1l (by lia)) (A0o d j) A0b ?_))⟩;rw [Z14,f];rfl
  ·rintro g c ⟨d,b,rfl⟩;rw [Z18] at b;exact k D c j d b
theorem B5g (T:Txt K mg t):FO P w base T.cx 3 D6n:=by
 have Ga0:= @B0f P w K mg base t T 1;refine T.cx.F.ok A4v (by walk_at "ln") λ_ A _ s H _ Q E hr h=> ?_
 ·obtain ⟨d,c,ds,rfl,u,hl,D,k⟩:=h;have hu:=A8b hr;refine i02 _ (@RS.r _ _ _ ⟨D2k (@A1u _ _ _ _ _ (@A3f _ _ 1 _ _ _ _ A4v.nd rfl (.inl rfl) B2i rfl (.inl rfl)) (@A1u _ _ _ _ _ (C9a PassesOwn.never rfl (D3d (E0s PySem.F.plainAttrs_dict PySem.F.slot_dict_items PySem.F.type_dict_items D2d (pv 0))) (A3q (n:=2) rfl (A0r (A0k (i:=2) A4v.nd rfl (.inl rfl)) (A0r (A0k (i:=3) A4v.nd rfl (.inl rfl)) A2p))) (@A2y _ _ _ (@A6s _ _ _ _ _ _ _ _ _ hu (pv 1) (pv 2) (pcl Ga0 hr T.aq (A0a (pv 3) A0c)) rfl))) (C7z (@A2y _ _ _ (@B3j _ _ _ _ (pv 1))))))⟩) ?_;intro ap;have nd:=ap.1 d c u;refine λp I=> ?_;have M:d≠p:=A0z u I;have l:upd H p (.dK []) d=some (.dK c):=by rw [A0i M];exact u
  refine i06 _ rfl (.inr (.inr (.inl ⟨rfl,.inl ⟨_,l⟩⟩))) (i0p d _ rfl rfl l (.inl ⟨_,rfl⟩) λB j=> ?_);have vp:p≠B:=A0z A0b j;have dv:d≠B:=A0z l j;refine i0r B d _ rfl A0b (by rw [A0i dv];exact l) (.inl (i02 c rfl λo=> ?_));have a2:H B=none:=by rw [A0i vp.symm] at j;exact j
  have g0:A0u (upd H d (.frz o (.dK c))) (upd (upd (upd H p (.dK [])) B (C4r B d)) d (.frz o (.dK c))):=λb v e=>by
   by_cases hb:b=d
   ·subst hb;rw [A0b] at e⊢;exact e
   ·rw [A0i hb] at e⊢;rw [A0i (A0z e a2),A0i (A0z e I)];exact e
  have W:upd H d (.frz o (.dK c)) p=none:=by rw [A0i M.symm];exact I
  have R:∀b,upd H d (.frz o (.dK c)) b=none->H b=none:=λb e=>by
   by_cases hb:b=d
   ·subst hb;rw [A0b] at e;cases e
   ·rw [A0i hb] at e;exact e
  refine C9l (L:=c.map λq=>(kV q.1,q.2)) (λi Z f=>∃(o2 Y:Option V) (g:List (Key×V)),Z=[Sro d,Sro p,o2,Y]/\A0u (upd H d (.frz o (.dK c))) f/\f p=some (.dK g)/\g.map (·.1)=(c.take i).map (·.1)/\Paired (λ(b:Key×V) (x:PyData)=>Rep (A0s (λa=>H a=none/\a≠p) f) b.2 x) g (ds.take i))
   (i0u none none [] rfl g0 (by rw [A0i M.symm,A0i vp,A0b]) rfl .nil) (by rintro i Z f ⟨_,_,_,_,m,_⟩;exact m _ _ A0b) ?_ ?_
  ·rintro i kx vx q Z f hx hq ⟨o2,Y,g,rfl,m,J,y,O⟩;refine B2x ?_;intro D';rw [Z1z] at hx;obtain ⟨⟨k',v⟩,N,e⟩:=Z0i.mp hx;cases e;obtain ⟨x,S,rv,U,a3⟩:=B3r D N;have C:A0u f (upd f q (.tup [kV k',v])):=A0e hq;have a0:Rep (upd f q (.tup [kV k',v])) v x:=(rv.imp2 (λb ys z=>m _ _ (by rw [A0i (A3j z u (by intro w;cases w))];exact z)) λb ys z=>m _ _ (by rw [A0i (A3j z u (by intro w;cases w))];exact z)).same C;refine i1a q _ rfl (SqT.of A0b) rfl _ _ rfl _ _ rfl rfl (i0s _ rfl v x rfl a0 U ⟨a3,λv' H6 s6 r6=> ?_⟩);have h6:=s6 _ _ (C _ _ J);have lw:g.length=(c.take i).length:=by have:=congrArg List.length y;simpa using this
   have a5:(c.take i).length<=c.length:=by rw [Z0x];lia
   refine i0w _ rfl _ rfl p _ rfl (C0e.k (k:=k') h6 (A1l (by lia))) ?_;have G:¬(H p=none/\p≠p):=λz=>z.2 rfl;refine i0u _ _ _ rfl (A0o (m.trans (C.trans s6)) W) A0b ?_ ?_
   ·rw [B2j nd N g y v',Z14,N,Z0s,Z0s,y];rfl
   ·rw [B2j nd N g y v',Z14,S];refine B2p (Paired.mapP O λ_ _ z=>z.same (A2i (A0g (C.trans s6)) G)) (.cons (r6.same ((A2x (A0u.refl _) λa ob ea X=>⟨?_,λz=> ?_⟩).trans (A2i (A0u.refl _) G))) .nil)
    ·exact R a (m.free (C.free X))
    ·subst z;rw [C _ _ J] at X;cases X
  ·rintro Z f ⟨o2,Y,g,rfl,m,J,y,O⟩;have ld:=Paired.length D;rw [Z08,Z18] at y;rw [Z08,ld,Z18] at O;have a1:f d=some (.frz o (.dK c)):=m _ _ A0b;refine i0g d o _ a1 (i0a (.inl ⟨_,rfl⟩) (λo' u' z=>by have z:H d=some (.frz o' u'):=z;rw [u] at z;cases z) _ rfl ?_);have a4:¬(H d=none/\d≠p):=λz=>by rw [u] at z;cases z.1
   exact k p g _ I (D0u u m) (by rw [A0i M.symm];exact J) y (Paired.mapP O λ_ _ z=>z.same ((A2i (A0u.refl _) a4).trans (A2x (A0u.refl _) λa ob _ h=>h.1)))
theorem D6e (T:Txt K mg t):FO P w base T.aq 4 D6n:=by
 have Ga1:= @B5g P w K mg base t T;have Ga0:A3i P w K mg base CX0 0 t.fu t.fk C0f (λ_ _ _ _=>False):=A3i.none λ_ _ _ _ h=>h;refine T.aq.F.ok B0o (by walk_at "ln") λ_ A _ s H _ Q E b h=> ?_
 ·have e:=h;obtain ⟨d,c,f,rfl,a,_⟩:=h;refine i02 _ (@RS.r _ _ _ (rq1 (rq4 (A2s (A0q A1d (by rfl) T.ab Z0d (A0a (pv 0) (A0a (A5f (v:=V.ty "list") rfl T.ib Z1o rfl) A0c)))) (rq3 (rq5 (A4r (N':=["member"]) (ix:=(List.replicate 1 none)) rfl (A3a rfl (by decide +kernel) (by decide +kernel)) (A2z rfl) (B1v (pv 0)) (λ_ _ _ _=>(A0k (i:=0) A4y rfl (.inl rfl))) (λ_ _ _ _=>(pcl Ga0 b T.aq (A0a (pv 0) A0c)))))) ⟨A0x⟩) (rq1 (rq4 (A2s (A0q A1d (by rfl) T.ab Z0d (A0a (pv 0) (A0a (A5f (v:=V.ty "tuple") rfl T.ip Z0m rfl) A0c)))) (rq3 (rq5 (A2k A5i (by rfl) T.ip Z0m (A0a (A4r (N':=["member"]) (ix:=(List.replicate 1 none)) rfl (A3a rfl (by decide +kernel) (by decide +kernel)) (A2z rfl) (B1v (pv 0)) (λ_ _ _ _=>(A0k (i:=0) A4y rfl (.inl rfl))) (λ_ _ _ _=>(pcl Ga0 b T.aq (A0a (pv 0) A0c)))) A0c)))) ⟨A0x⟩) (rq1 (rq4 (A2s (A0q A1d (by rfl) T.ab Z0d (A0a (pv 0) (A0a (A5f (v:=V.ty "dict") rfl T.mh Z2q rfl) A0c)))) (rq3 (rq5 (pcl Ga1 b T.cx (A0a (pv 0) A0c)))) ⟨A0x⟩) (rq3 (rq5 (pv 0))))))) ?_;refine i16 _ rfl _ _ _ _ rfl (.dK a) (B8v (by decide +kernel) (by decide +kernel) (by decide +kernel)) false rfl (A2m ?_);refine i16 _ rfl _ _ _ _ rfl (.dK a) (B8v (by decide +kernel) (by decide +kernel) (by decide +kernel)) false rfl (A2m ?_);exact i16 _ rfl _ _ _ _ rfl (.dK a) (B2k "dict") true rfl (A5u (i02 _ rfl e))
def E0z (A:Adr):Sp:=λa H Q E=>((D0v 3 a H Q E\/C6d A.ci a H Q E)\/C6d A.ba a H Q E)\/D6n a H Q E
theorem C3m (T:Txt K mg t):FO P w base T.aq 4 (E0z t) :=
 A3i.or (A3i.or (A3i.or (B0f T 3) ((C8c T T.mr T.AA T.xx T.x6 T.yd).mono (by lia))) ((C8c T T.gh T.Al T.w_ T.w6 T.xj).mono (by lia))) (D6e T)
theorem B0k (T:Txt K mg t):FP P w mg base T.gf 1 (D2j t):=by
 refine T.gf.F.ok B7f (by walk_at "ln") λ_ A _ s H _ Q E n h=> ?_
 ·obtain ⟨p,f,a,b,c,d,e,rfl,l,k⟩:=h;have m:A4n "low" b (A4n "axis" a [])=([("axis",a),("low",b)]:List (Str×V)):=by rw [A1i,A1a (by decide +kernel),A1i]
  have j:A4n "high" c ([("axis",a),("low",b)]:List (Str×V))=([("axis",a),("low",b),("high",c)]:List (Str×V)):=by rw [A1a (by decide +kernel),A1a (by decide +kernel),A1i]
  have g:A4n "inner" d ([("axis",a),("low",b),("high",c)]:List (Str×V))=([("axis",a),("low",b),("high",c),("inner",d)]:List (Str×V)):=by rw [A1a (by decide +kernel),A1a (by decide +kernel),A1a (by decide +kernel),A1i]
  have i:A4n "outer" e ([("axis",a),("low",b),("high",c),("inner",d)]:List (Str×V))=([("axis",a),("low",b),("high",c),("inner",d),("outer",e)]:List (Str×V)):=by rw [A1a (by decide +kernel),A1a (by decide +kernel),A1a (by decide +kernel),A1a (by decide +kernel),A1i]
  refine i02 _ (@RS.r _ _ _ (rq1 ⟨A2d (pv 0) (pv 1) rfl⟩ (rq1 ⟨A2d (pv 0) (pv 2) rfl⟩ (rq1 ⟨A2d (pv 0) (pv 3) rfl⟩ (rq1 ⟨A2d (pv 0) (pv 4) rfl⟩ (rq3 ⟨A2d (pv 0) (pv 5) rfl⟩)))))) (i1b _ rfl _ rfl p _ f [] rfl l T.ay T.ff (by decide) (i1b _ rfl _ rfl p _ f _ rfl A0b T.ay T.jf (by show 1<1000;decide) ?_));rw [A5n,m];refine i1b _ rfl _ rfl p _ f _ rfl A0b T.ay T.j7 (by show 2<1000;decide) ?_;rw [A5n,j];refine i1b _ rfl _ rfl p _ f _ rfl A0b T.ay T.gn (by show 3<1000;decide) ?_;rw [A5n,g];refine i1b _ rfl _ rfl p _ f _ rfl A0b T.ay T.dw (by show 4<1000;decide) ?_;show Q V.non (upd (upd H p _) p _);rw [A5n,i];exact k
theorem B1w (T:Txt K mg t):FP P w mg base T.ir 5 (D3g t):=by
 have Ga0:= @B0f P w K mg base t T 2;refine T.ir.F.ok B9f (by walk_at "ln") λ_ A _ s H _ Q E G h=> ?_
 ·obtain ⟨p,f,l,x,ix,rfl,g,u,v,k⟩:=h;have C:=D4i (ix:=ix);refine i02 _ (@RS.r _ _ _ (rq1 ⟨A2d (pv 0) (pv 1) rfl⟩ (rq3 ⟨A2d (pv 0) (pcl Ga0 G T.aq (A0a (pv 2) A0c)) rfl⟩))) (i1b _ rfl _ rfl p _ f [] rfl g T.fg T.oo (by decide) ?_);refine i0s _ rfl (.ref l) (A5b ix) rfl (u.ins g) D1n ⟨by lia,λD y j d=> ?_⟩;have c:=j _ _ (A0b (H:=H) (a:=p));obtain ⟨i,L,rfl,J,I⟩:=A5v (show Rep _ D (.list (ix.map B1o)) from d);refine i15 _ rfl p _ f _ rfl c T.fg T.fz (by show 1<1000;decide) ?_;show Q V.non (upd y p (.ins t.aj f (A4n "indexes" (.ref i) (A4n "array" (.str x) []))));rw [A1i,A1a (by decide +kernel),A1i]
  have m:∀{q:Addr},upd H p (.ins t.aj f (A4n "array" (.str x) [])) q=none->H q=none:=λ{q} z=>by
   by_cases zb:q=p
   ·subst zb;rw [A0b] at z;cases z
   ·rw [A0i zb] at z;exact z
  refine k i _ A0b (d.imp2 (λq B z=>A0h (m (A0l z).1) (by rw [A0i (A3j (A0l z).2 c (by intro z;cases z))];exact (A0l z).2)) λq B z=>A0h (m (A0l z).1) (by rw [A0i (A3j (A0l z).2 c (by intro z;cases z))];exact (A0l z).2)) λb o n e=> ?_;rw [A0i n];exact j _ _ (by rw [A0i n];exact e)
def KT (H H':Hp):Prop:=∀p a,H p=some (.tup a)->H' p=some (.tup a)
def KB (p:Addr) (H H':Hp):Prop:=∀b o,b≠p->H b=some o->H' b=some o
theorem KB.upd (k:KB p H H'):KB p H (upd H' p o):=λb u a e=>by rw [A0i a];exact k b u a e
theorem KB.refl:KB p H H:=λ_ _ _ e=>e
theorem KB.trans (a:KB p H H') (b:KB p H' H2):KB p H H2:=λc o d e=>b c o d (a c o d e)
theorem KB.of (s:A0u H H'):KB p H H':=λb o _ e=>s _ _ e
theorem KB.free {b:Addr} {u:HO} (k:KB p H H') (d:H' p=some u) (a:H' b=none):H b=none:=by
 cases e:H b with
 | none=>rfl
 | some o =>
  have c:b≠p:=λz=>by subst z;rw [d] at a;cases a
  rw [k b o c e] at a;cases a
theorem KB.same (s:A0u H H2) (k:KB p H2 H') (a:H p=none):A0u H H':=λb o e=>k b o (A0z e a) (s _ _ e)
abbrev AR (S:Addr->Prop) (H:Hp) (kvs:List (Key×V)) (es:List (Str×List Str)):Prop:=Paired (λ(p:Key×V) (e:Str×List Str)=>p.1=Sum.inr e.1/\∃b,p.2= .ref b/\S b/\H b=some (.lst (e.2.map V.str))) kvs es
theorem AR.imp {S':Addr->Prop} (h:AR S H kvs es) (f:∀b xs,S b->H b=some (.lst xs)->S' b/\H' b=some (.lst xs)):AR S' H' kvs es :=
 Paired.mapP h (by rintro _ _ ⟨d,b,e,c,a⟩;exact ⟨d,(i06 b e ((f b _ c a).1) ((f b _ c a).2))⟩)
theorem AR.same (h:AR S H kvs es) (s:A0u H H'):AR S H' kvs es:=h.imp λb a z e=>⟨z,s _ _ e⟩
theorem AR.src {S:Addr->Prop} {H:Hp}:∀{kvs:List (Key×V)} {es:List (Str×List Str)},AR S H kvs es->(∀e∈es,e.2.length<=100)->Paired (λ(a:Key×V) (x:PyData)=>Rep H a.2 x/\PyData.depth x<=1/\cnt x<=100000) kvs (es.map λe=>C0g e.2)
 | _,_,.nil,_=> .nil
 | _,_,@Paired.cons _ _ _ p e _ _ ⟨_,b,z2,_,z4⟩ t,h=>by
  obtain ⟨c,f⟩:=A9s e.2;have:=h e (.head _);exact .cons (i00 (by rw [z2];exact C1y z4) c (by show cnt (C0g e.2)<=100000;lia)) (AR.src t λx d=>h x (.tail _ d))
theorem E0m {S S':Addr->Prop} {H H':Hp}:∀{kvs c:List (Key×V)} {es:List (Str×List Str)},AR S H kvs es->c.map (·.1)=kvs.map (·.1)->Paired (λ(b:Key×V) (x:PyData)=>Rep (A0s S' H') b.2 x) c (es.map λe=>C0g e.2)->AR S' H' c es
 | _,[],_,.nil,_,_=> .nil
 | _,_::_,_,.nil,ks,_=>by cases ks
 | _,[],_,.cons _ _,ks,_=>by cases ks
 | _,q::r,_,@Paired.cons _ _ _ p e _ _ ⟨z1,_⟩ t,ks,pr=>by
  rw [Z0p,Z0p] at ks;injection ks with k1 k2;rw [Z0p] at pr
  cases pr with
  | cons a pr =>
   obtain ⟨b,f,d⟩:=B6r a;exact .cons ⟨k1.trans z1,(i06 b f ((A0l d).1) ((A0l d).2))⟩ (E0m t k2 pr)
abbrev D1r (kvs:List (Key×V)) (a:List Int):Prop:=Paired (λ(p:Key×V) (i:Int)=>p.2= .int i) kvs a
theorem C3x {H:Hp}:∀{kvs:List (Key×V)} {b:List Int},D1r kvs b->Paired (λ(a:Key×V) (x:PyData)=>Rep H a.2 x/\PyData.depth x<=1/\cnt x<=100000) kvs (b.map PyData.int)
 | _,_,.nil=> .nil
 | _,_,.cons a t=> .cons (i00 (by rw [a];exact .int _) (by simp [PyData.depth]) (by simp [cnt])) (C3x t)
theorem C7n {S:Addr->Prop} {H:Hp}:∀{kvs c:List (Key×V)} {d:List Int},D1r kvs d->c.map (·.1)=kvs.map (·.1)->Paired (λ(b:Key×V) (x:PyData)=>Rep (A0s S H) b.2 x) c (d.map PyData.int)->c=kvs
 | _,[],_,.nil,_,_=>rfl
 | _,_::_,_,.nil,ks,_=>by cases ks
 | _,[],_,.cons _ _,ks,_=>by cases ks
 | _,q::r,_,@Paired.cons _ _ _ p i _ _ a t,ks,pr=>by
  rw [Z0p,Z0p] at ks;injection ks with k1 k2;rw [Z0p] at pr
  cases pr with
  | cons b pr =>
   rw [C7n t k2 pr];have e:=C0x b;have:q=p:=Prod.ext k1 (e.trans a.symm);rw [this]
def C7f (A:Adr):Sp:=λf H Q _=>∃(p e l m:Addr) (n:V) (x:Str) (b d:List Str),f=[.ref p,.str x,.ref l,.ref m,n]/\H p=some (.ins A.ba e [])/\H l=some (.lst (b.map V.str))/\H m=some (.lst (d.map V.str))/\b.length<=1000/\d.length<=1000/\
 ∀(c u:Addr) (a:Hp),H c=none->H u=none->a p=some (.ins A.ba e [("name",.str x),("axes",.ref c),("sums",.ref u),("term",n)])->a c=some (.lst (b.map V.str))->a u=some (.lst (d.map V.str))->KB p H a->Q .non a
abbrev clo (A:Adr) (dx:Addr) (c:Int) (l a tb b o:Addr):HO:= .ins A.ao dx [("wheel",.int c),("lengths",.ref l),("arrays",.ref a),("tables",.ref tb),("lines",.ref b),("outs",.ref o)]
def D2i (A:Adr):Sp:=λB H Q _=>∃(p h v u r y w:Addr) (s:Int) (f t:List (Key×V)) (C:List Int) (i:List (Str×List Str)) (l o:List Str) (g:List V) (S:Addr->Prop),B=[.ref p,.int s,.ref v,.ref u,.ref r,.ref y,.ref w]/\H p=some (.ins A.ao h [])/\
 H v=some (.dK f)/\D1r f C/\f.length<=1000/\H u=some (.dK t)/\AR S H t i/\i.length<=1000/\(∀e∈i,e.2.length<=100)/\H r=some (.lst (l.map V.str))/\l.length<=1000/\H y=some (.lst g)/\g.length<=1000/\(∀x∈g,∃a h z,x= .ref a/\a≠p/\H a=some (.ins A.ba h z))/\H w=some (.lst (o.map V.str))/\o.length<=1000/\
 ∀(k m n q j:Addr) (d:List (Key×V)) (c:Hp),c p=some (clo A h s k m n q j)->H k=none->c k=some (.dK f)->H m=none->c m=some (.dK d)->AR (λb=>H b=none) c d i->H n=none->c n=some (.lst (l.map V.str))->H q=none->c q=some (.lst g)->H j=none->c j=some (.lst (o.map V.str))->KB p H c->Q .non c
def D2g (A:Adr):Sp:=λf H Q _=>∃(p e l:Addr) (n:V) (x:Str) (d:List Str),f=[.ref p,.str x,.ref l,n]/\H p=some (.ins A.ci e [])/\H l=some (.lst (d.map V.str))/\d.length<=1000/\
 ∀(c:Addr) (a:Hp),H c=none->a p=some (.ins A.ci e [("name",.str x),("axes",.ref c),("term",n)])->a c=some (.lst (d.map V.str))->(∀b o,b≠p->H b=some o->a b=some o)->Q .non a
def D2h (A:Adr):Sp:=λr H Q _=>∃(p c a t l o:Addr) (k:Int) (g:List (Str×Int)) (d:List (Str×List Str)) (f:List V) (h:List Str),r=[.ref p,.int k,.ref a,.ref t,.ref l,.ref o]/\H p=some (.ins A.ai c [])/\
 Rep H (.ref a) (A5b g)/\g.length<=1000/\Rep H (.ref t) (B5a d)/\d.length<=1000/\(∀e∈d,e.2.length<=10)/\H l=some (.lst f)/\f.length<=1000/\(∀x∈f,∃a c q,x= .ref a/\a≠p/\H a=some (.ins A.ci c q))/\H o=some (.lst (h.map V.str))/\h.length<=1000/\
 ∀(m n j i:Addr) (b:Hp),b p=some (.ins A.ai c [("wheel",.int k),("axes",.ref m),("tables",.ref n),("lets",.ref j),("outs",.ref i)])->Rep b (.ref m) (A5b g)->Rep b (.ref n) (B5a d)->b j=some (.lst f)->b i=some (.lst (h.map V.str))->KB p H b->Q .non b
def C8w (A:Adr):Sp:=λc H Q _=>∃(p b:Addr) (v:V),c=[.ref p,v]/\H p=some (.ins A.au b [])/\∀(l:Addr) (a:Hp),H l=none->a p=some (.ins A.au b [("known",v),("lines",.ref l),("lifts",.int 0)])->a l=some (.lst [])->KB p H a->Q .non a
def E1h (A:Adr):Sp:=λc H Q _=>∃(p:Addr) (f:Int) (a:List (Str×Int)) (g:List (Str×List Str)) (e:List Lt) (d:List Str),c=[.ref p]/\D2a A H p f a g e d/\a.length<=100/\∀(q:Addr) (b:Hp),H q=none->A0u H b->b q=some (.lst ((a.map (·.1)).map V.str))->Q (.ref q) b
def E0e (A:Adr):Sp:=λd H Q _=>∃(p:Addr) (g:Int) (c:List (Str×Int)) (a:List (Str×List Str)) (f:List Lt) (e:List Str),d=[.ref p]/\D2a A H p g c a f e/\a.length<=100/\∀(q:Addr) (b:Hp),H q=none->A0u H b->b q=some (.lst ((a.map (·.1)).map V.str))->Q (.ref q) b
def A2g (ax:List (Str×Int)):List (Key×V):=ax.map λe=>(Sum.inr e.1,V.int e.2)
theorem D9k {H:Hp}:∀{ax:List (Str×Int)} {xs:List V},A5c H xs (ax.map B1o)->PL H xs (A2g ax)
 | [],_,r=>by cases r;exact .nil
 | e::ax,_,r=>by
  rw [Z0p] at r
  cases r with
  | cons a r =>
   obtain ⟨b,rfl,c⟩:=D6w a;exact .cons (i02 b rfl c) (D9k r)
theorem E1n {H:Hp}:∀{tb:List (Str×List Str)} {xs:List V},A5c H xs (tb.map C6b)->∃kvs,PL H xs kvs/\AR (λ_=>True) H kvs tb
 | [],_,r=>by cases r;exact i02 [] .nil .nil
 | e::tb,_,r=>by
  rw [Z0p] at r
  cases r with
  | cons a r =>
   obtain ⟨b,c,rfl,g,h⟩:=D8p a;obtain ⟨kvs,f,d⟩:=E1n r;exact i02 ((Sum.inr e.1,.ref c)::kvs) (.cons (i02 b rfl g) f) (.cons ⟨rfl,(i06 c rfl True.intro h)⟩ d)
theorem B2w (n:(ws.map (·.1)).Nodup):A4h [] ws=ws:=by
 have a:∀i,i<=ws.length->A4h [] (ws.take i)=ws.take i:=by
  intro i
  induction i with
  | zero=>intro _;rfl
  | succ i ih =>
   intro b;have e:ws[i]? =some ws[i]:=Z0b (by lia);rw [Z14,e,Z2f,C2e,ih (by lia)];exact B2j (k:=ws[i].1) (v:=ws[i].2) n e (ws.take i) rfl ws[i].2
 have:=a ws.length (Z09 _)
 rwa [Z18] at this
theorem D7e (n:(es.map (·.1)).Nodup) (h:es[i]? =some e) (ks:ws.map (·.1)=(es.take i).map λe=>(Sum.inr e.1:Key)) (u:V):A7y ws (Sum.inr e.1) u=ws++[(Sum.inr e.1,u)]:=by
 have c:((es.map λe=>((Sum.inr e.1:Key),V.non)).map (·.1)).Nodup:=by
  rw [List.map_map];have:(es.map ((λx=>x.1)∘λe=>((Sum.inr e.1:Key),V.non)))=(es.map (·.1)).map (Sum.inr:Str->Key):=by rw [List.map_map];rfl
  rw [this];exact List.Pairwise.map _ (λa b h z=>h (by injection z)) n
 exact B2j (v:=V.non) c (by rw [Z1z,h];rfl) ws (by rw [ks,<-List.map_take,List.map_map];rfl) u
def E0u (A:Adr):Sp:=λb H Q _=>∃(p:Addr) (d:Int) (a:List (Str×Int)) (e:List (Str×List Str)) (f:List Lt) (c:List Str),b=[.ref p]/\D2a A H p d a e f c/\(a.map (·.1)).Nodup/\∀q,H q=none->Q (.ref q) (upd H q (.dK (A2g a)))
theorem B1x (T:Txt K mg t):FP P w mg base T.im 5 (C7f t):=by
 have Ga0:= @C3m P w K mg base t T;refine T.im.F.ok B9q (by walk_at "ln") λ_ A _ s H _ Q E M h=> ?_
 ·refine e0e h ?_;clear h;rintro p e l m n x U O ⟨rfl,f,N,L,ly,lz,k⟩;obtain ⟨c2,c3⟩:=A9s U;obtain ⟨d2,d3⟩:=A9s O;have lp:l≠p:=A3j N f (by intro z;cases z);have Z:m≠p:=A3j L f (by intro z;cases z);have e1:∀v:V,A4n "axes" v [("name",.str x)]=([("name",.str x),("axes",v)]:List (Str×V)):=λv=>by rw [A1a (by decide +kernel),A1i]
  have e2:∀u v:V,A4n "sums" v [("name",.str x),("axes",u)]=([("name",.str x),("axes",u),("sums",v)]:List (Str×V)):=λu v=>by rw [A1a (by decide +kernel),A1a (by decide +kernel),A1i]
  have Y:∀C u v:V,A4n "term" v [("name",.str x),("axes",C),("sums",u)]=([("name",.str x),("axes",C),("sums",u),("term",v)]:List (Str×V)):=λC u v=>by rw [A1a (by decide +kernel),A1a (by decide +kernel),A1a (by decide +kernel),A1i]
  refine i02 _ (@RS.r _ _ _ (rq1 ⟨A2d (pv 0) (pv 1) rfl⟩ (rq1 ⟨A2d (pv 0) (pcl Ga0 M T.aq (A0a (pv 2) A0c)) rfl⟩ (rq1 ⟨A2d (pv 0) (pcl Ga0 M T.aq (A0a (pv 3) A0c)) rfl⟩ (rq3 ⟨A2d (pv 0) (pv 4) rfl⟩))))) (i1b _ rfl _ rfl p _ e [] rfl f T.gh T.jk (by decide) ?_);rw [A1i];have J:KB p H (upd H p (.ins t.ba e [("name",.str x)])):=KB.refl.upd;refine i02 _ rfl (.inl (.inl (.inl (i0p (.ref l) (C0g U) rfl (C1y (J _ _ lp N)) (by lia) (by lia) λv' R S g=> ?_))));have j:=S _ _ (A0b (H:=H) (a:=p));obtain ⟨c,rfl,G⟩:=B6r g;obtain ⟨D,G⟩:=A0l G;have d:H c=none:=J.free A0b D;have W:c≠p:=λz=>by subst z;rw [f] at d;cases d
  refine i15 _ rfl p _ e _ rfl j T.gh T.jj (by show 1<1000;decide) ?_;rw [e1];have y:KB p H (upd R p (.ins t.ba e [("name",.str x),("axes",.ref c)])):=(J.trans (KB.of S)).upd;refine i02 _ rfl (.inl (.inl (.inl (i0p (.ref m) (C0g O) rfl (C1y (y _ _ Z L)) (by lia) (by lia) λa0 X B o=> ?_))));have q:=B _ _ (A0b (H:=R) (a:=p));obtain ⟨u,rfl,I⟩:=B6r o;obtain ⟨i,I⟩:=A0l I;have b:H u=none:=y.free A0b i;have up:u≠p:=λz=>by subst z;rw [f] at b;cases b
  refine i15 _ rfl p _ e _ rfl q T.gh T.r8 (by show 2<1000;decide) ?_;rw [e2];refine i1b _ rfl _ rfl p _ e _ rfl A0b T.gh T.qw (by show 3<1000;decide) ?_;show Q V.non (upd (upd X p _) p _);rw [A5n,Y];exact k c u _ d b A0b (by rw [A0i W];exact B _ _ (by rw [A0i W];exact G)) (by rw [A0i up];exact I) (y.trans (KB.of B)).upd
theorem B5v (T:Txt K mg t):FP P w mg base T.jc 5 (D2i t):=by
 have Ga0:= @C3m P w K mg base t T;refine T.jc.F.ok B7h (λvs H Q E h=> ?_) λ_ A _ s H _ Q E O h=> ?_
 ·refine e0h h ?_;clear h;rintro p c ld ad tl lv ol a lk ak is ⟨es,tb,os,xs,S,rfl,_⟩;rfl
 ·refine e0h h ?_;clear h;rintro p c ld ad tl lv ol a lk ak is ⟨es,tb,os,xs,S,rfl,hp,X,il,ll,J,ar,c1,L,G,b9,N,b7,a7,R,c0,k⟩;have f1:∀v:V,A4n "lengths" v [("wheel",.int a)]=([("wheel",.int a),("lengths",v)]:List (Str×V)):=λv=>by rw [A1a (by decide +kernel),A1i]
  have f2:∀u v:V,A4n "arrays" v [("wheel",.int a),("lengths",u)]=([("wheel",.int a),("lengths",u),("arrays",v)]:List (Str×V)):=λu v=>by rw [A1a (by decide +kernel),A1a (by decide +kernel),A1i]
  have f3:∀i u v:V,A4n "tables" v [("wheel",.int a),("lengths",i),("arrays",u)]=([("wheel",.int a),("lengths",i),("arrays",u),("tables",v)]:List (Str×V)):=λi u v=>by rw [A1a (by decide +kernel),A1a (by decide +kernel),A1a (by decide +kernel),A1i]
  have f4:∀i m u v:V,A4n "lines" v [("wheel",.int a),("lengths",i),("arrays",m),("tables",u)]=([("wheel",.int a),("lengths",i),("arrays",m),("tables",u),("lines",v)]:List (Str×V)):=λi m u v=>by rw [A1a (by decide +kernel),A1a (by decide +kernel),A1a (by decide +kernel),A1a (by decide +kernel),A1i]
  have f5:∀i m u3 u v:V,A4n "outs" v [("wheel",.int a),("lengths",i),("arrays",m),("tables",u3),("lines",u)]=([("wheel",.int a),("lengths",i),("arrays",m),("tables",u3),("lines",u),("outs",v)]:List (Str×V)):=λi m u3 u v=>by rw [A1a (by decide +kernel),A1a (by decide +kernel),A1a (by decide +kernel),A1a (by decide +kernel),A1a (by decide +kernel),A1i]
  have y:∀{b:Addr} {u:HO},H b=some u->(∀C d fs,u≠.ins C d fs)->b≠p:=λe n z=>by subst z;rw [hp] at e;cases e;exact n _ _ _ rfl
  have f:∀{b:Addr},H b=none->b≠p:=λe z=>by subst z;rw [hp] at e;cases e
  refine i02 _ (@RS.r _ _ _ (rq1 ⟨A2d (pv 0) (pv 1) rfl⟩ (rq1 ⟨A2d (pv 0) (pcl Ga0 O T.aq (A0a (pv 2) A0c)) rfl⟩ (rq1 ⟨A2d (pv 0) (pcl Ga0 O T.aq (A0a (pv 3) A0c)) rfl⟩ (rq1 ⟨A2d (pv 0) (pcl Ga0 O T.aq (A0a (pv 4) A0c)) rfl⟩ (rq1 ⟨A2d (pv 0) (pcl Ga0 O T.aq (A0a (pv 5) A0c)) rfl⟩ (rq3 ⟨A2d (pv 0) (pcl Ga0 O T.aq (A0a (pv 6) A0c)) rfl⟩))))))) (i1b _ rfl _ rfl p _ c [] rfl hp T.gy T.v7 (by decide) ?_);rw [A1i];obtain ⟨G0,hG0⟩:∃G0,G0=upd H p (.ins t.ao c [("wheel",.int a)]):=⟨_,rfl⟩;rw [<-hG0];have p0:G0 p=some (.ins t.ao c [("wheel",.int a)]):=by rw [hG0];exact A0b
  have k0:KB p H G0:=by rw [hG0];exact KB.refl.upd
  refine i02 _ rfl (.inr (i0u ld lk (is.map PyData.int) rfl (k0 _ _ (y X (by intros;intro z;cases z)) X) (by lia) (C3x il) λg a5 H1 b4 s1 h1 ks cp=> ?_));have ek:=C7n il ks cp;subst ek;have B:H g=none:=k0.free p0 b4;refine i15 _ rfl p _ c _ rfl (s1 _ _ p0) T.gy T.sr (by show 1<1000;decide) ?_;rw [f1];obtain ⟨G1,hG1⟩:∃G1,G1=upd H1 p (.ins t.ao c [("wheel",.int a),("lengths",.ref g)]):=⟨_,rfl⟩;rw [<-hG1];have Z:G1 p=some (.ins t.ao c [("wheel",.int a),("lengths",.ref g)]):=by rw [hG1];exact A0b
  have q:KB p H G1:=by rw [hG1];exact (k0.trans (KB.of s1)).upd
  have b2:G1 g=some (.dK a5):=by rw [hG1,A0i (f B)];exact h1
  have W:AR (λb=>S b) G1 ak es:=ar.imp λb ys z e=>⟨z,q _ _ (y e (by intros;intro z;cases z)) e⟩;refine i02 _ rfl (.inr (i0u ad ak _ rfl (q _ _ (y J (by intros;intro z;cases z)) J) (by have:=Paired.length ar;lia) (W.src L) λj o H2 a0 s2 h2 b0 b8=> ?_));have a1:=E0m W b0 b8;have M:H j=none:=q.free Z a0;refine i15 _ rfl p _ c _ rfl (s2 _ _ Z) T.gy T.t_ (by show 2<1000;decide) ?_;rw [f2];obtain ⟨G2,hG2⟩:∃G2,G2=upd H2 p (.ins t.ao c [("wheel",.int a),("lengths",.ref g),("arrays",.ref j)]):=⟨_,rfl⟩;rw [<-hG2];have p2:G2 p=some (.ins t.ao c [("wheel",.int a),("lengths",.ref g),("arrays",.ref j)]):=by rw [hG2];exact A0b
  have j2:KB p G1 G2:=by rw [hG2];exact (KB.of s2).upd
  have k2:=q.trans j2;have b1:G2 j=some (.dK o):=by rw [hG2,A0i (f M)];exact h2
  have b5:AR (λb=>H b=none) G2 o es:=a1.imp λb ys z e=>⟨q.free Z z,by rw [hG2,A0i (f (q.free Z z))];exact e⟩;obtain ⟨c2,c3⟩:=A9s tb;refine i02 _ rfl (.inl (.inl (.inl (i0p (.ref tl) (C0g tb) rfl (C1y (k2 _ _ (y G (by intros;intro z;cases z)) G)) (by lia) (by lia) λvt H3 s3 a2=> ?_))));obtain ⟨l,rfl,et⟩:=B6r a2;obtain ⟨a6,et⟩:=A0l et;have nt:H l=none:=k2.free p2 a6;refine i15 _ rfl p _ c _ rfl (s3 _ _ p2) T.gy T.u6 (by show 3<1000;decide) ?_;rw [f3];obtain ⟨G3,hG3⟩:∃G3,G3=upd H3 p (.ins t.ao c [("wheel",.int a),("lengths",.ref g),("arrays",.ref j),("tables",.ref l)]):=⟨_,rfl⟩;rw [<-hG3];have p3:G3 p=some (.ins t.ao c [("wheel",.int a),("lengths",.ref g),("arrays",.ref j),("tables",.ref l)]):=by rw [hG3];exact A0b
  have Y:KB p G2 G3:=by rw [hG3];exact (KB.of s3).upd
  have k3:=k2.trans Y;have a4:G3 l=some (.lst (tb.map V.str)):=by rw [hG3,A0i (f nt)];exact et
  refine i02 _ rfl (.inl (.inr (i0p lv xs rfl (k3 _ _ (y N (by intros;intro z;cases z)) N) b7 (λx hx=> ?_) λD H4 b3 s4 b6=> ?_)))
  ·obtain ⟨b,db,fs,rfl,nb,eb⟩:=a7 x hx;exact i0g b db fs rfl (k3 _ _ nb eb)
  have nv:H D=none:=k3.free p3 b3;refine i15 _ rfl p _ c _ rfl (s4 _ _ p3) T.gy T.kf (by show 4<1000;decide) ?_;rw [f4];obtain ⟨G4,hG4⟩:∃G4,G4=upd H4 p (.ins t.ao c [("wheel",.int a),("lengths",.ref g),("arrays",.ref j),("tables",.ref l),("lines",.ref D)]):=⟨_,rfl⟩;rw [<-hG4];have p4:G4 p=some (.ins t.ao c [("wheel",.int a),("lengths",.ref g),("arrays",.ref j),("tables",.ref l),("lines",.ref D)]):=by rw [hG4];exact A0b
  have U:KB p G3 G4:=by rw [hG4];exact (KB.of s4).upd
  have k4:=k3.trans U;have a3:G4 D=some (.lst xs):=by rw [hG4,A0i (f nv)];exact b6
  obtain ⟨o2,o3⟩:=A9s os;refine i02 _ rfl (.inl (.inl (.inl (i0p (.ref ol) (C0g os) rfl (C1y (k4 _ _ (y R (by intros;intro z;cases z)) R)) (by lia) (by lia) λvo H5 s5 a9=> ?_))));obtain ⟨o',rfl,eo⟩:=B6r a9;obtain ⟨a8,eo⟩:=A0l eo;have no:H o'=none:=k4.free p4 a8;refine i15 _ rfl p _ c _ rfl (s5 _ _ p4) T.gy T.vd (by show 5<1000;decide) ?_;show Q V.non (upd H5 p _);rw [f5];have j5:KB p G4 (upd H5 p (clo t c a g j l D o')):=(KB.of s5).upd;have I:=λ{b:Addr} (hb:H b=none) {u:HO} (e:G4 b=some u)=>j5 _ _ (f hb) e;exact k g j l D o' o _ A0b B (I B (U _ _ (f B) (Y _ _ (f B) (j2 _ _ (f B) b2)))) M (I M (U _ _ (f M) (Y _ _ (f M) b1))) (b5.imp λb ys z e=>⟨z,I z (U _ _ (f z) (Y _ _ (f z) e))⟩) nt (I nt (U _ _ (f nt) a4)) nv (I nv a3) no (by rw [A0i (f no)];exact eo) (k4.trans j5)
theorem C0h (T:Txt K mg t):FP P w mg base T.p_ 5 (D2g t):=by
 have Ga0:= @C3m P w K mg base t T;refine T.p_.F.ok C2i (by walk_at "ln") λ_ A _ s H _ Q E J h=> ?_
 ·obtain ⟨p,i,l,n,x,y,rfl,g,u,N,k⟩:=h;obtain ⟨M,O⟩:=A9s y;have L:l≠p:=A3j u g (by intro z;cases z);refine i02 _ (@RS.r _ _ _ (rq1 ⟨A2d (pv 0) (pv 1) rfl⟩ (rq1 ⟨A2d (pv 0) (pcl Ga0 J T.aq (A0a (pv 2) A0c)) rfl⟩ (rq3 ⟨A2d (pv 0) (pv 3) rfl⟩)))) (i1b _ rfl _ rfl p _ i [] rfl g T.mr T.lj (by decide) ?_);refine i02 _ rfl (.inl (.inl (.inl (i0p (.ref l) (C0g y) rfl ((C1y u).ins g) (by lia) (by lia) λR D v j=> ?_))));have m:=v _ _ (A0b (H:=H) (a:=p));obtain ⟨c,rfl,q⟩:=B6r j;obtain ⟨d,q⟩:=A0l q
  have f:H c=none:=by
   by_cases z:c=p
   ·subst z;rw [A0b] at d;cases d
   ·rw [A0i z] at d;exact d
  have I:c≠p:=λz=>by subst z;rw [g] at f;cases f
  refine i15 _ rfl p _ i _ rfl m T.mr T.ke (by show 1<1000;decide) ?_;refine i1b _ rfl _ rfl p _ i _ rfl A0b T.mr T.mn (by show 2<1000;decide) ?_;show Q V.non (upd (upd D p _) p (.ins t.ci i (A4n "term" n (A4n "axes" (.ref c) (A4n "name" (.str x) [])))));have C:A4n "axes" (V.ref c) (A4n "name" (.str x) [])=([("name",.str x),("axes",.ref c)]:List (Str×V)):=by rw [A1i,A1a (by decide +kernel),A1i]
  have G:A4n "term" n ([("name",.str x),("axes",.ref c)]:List (Str×V))=([("name",.str x),("axes",.ref c),("term",n)]:List (Str×V)):=by rw [A1a (by decide +kernel),A1a (by decide +kernel),A1i]
  rw [A5n,C,G];refine k c _ f A0b (by rw [A0i I];exact q) λb o B e=> ?_;rw [A0i B];exact v _ _ (by rw [A0i B];exact e)
theorem A1e {A:Addr} {B:Addr} {b:Bool} (h:kitOne K (.ref A) (.ref B)=some b):∀u,A3c (.ref B) u->kitOne K (.ref A) u=some b:=λu z=>by
 cases (show u=Value.ref B from z)
 exact h
theorem B4m (T:Txt K mg t):FP P w mg base T.gz 5 (D2h t):=by
 have Ga0:= @C3m P w K mg base t T;refine T.gz.F.ok B4h (by walk_at "ln") λ_ A _ s H _ Q E R h=> ?_
 ·refine e0h h ?_;clear h;rintro p f a tt l o c D N xs os ⟨rfl,hp,ra,la,rt,lt,a5,hl,ll,hx,ho,lo,k⟩;have a2:=D1z D;have a3:=D4i (ix:=D);obtain ⟨t2,t3⟩:=D1x N a5;obtain ⟨o2,o3⟩:=A9s os;have f1:∀v:V,A4n "axes" v [("wheel",.int c)]=([("wheel",.int c),("axes",v)]:List (Str×V)):=λv=>by rw [A1a (by decide +kernel),A1i]
  have f2:∀u v:V,A4n "tables" v [("wheel",.int c),("axes",u)]=([("wheel",.int c),("axes",u),("tables",v)]:List (Str×V)):=λu v=>by rw [A1a (by decide +kernel),A1a (by decide +kernel),A1i]
  have f3:∀j u v:V,A4n "lets" v [("wheel",.int c),("axes",j),("tables",u)]=([("wheel",.int c),("axes",j),("tables",u),("lets",v)]:List (Str×V)):=λj u v=>by rw [A1a (by decide +kernel),A1a (by decide +kernel),A1a (by decide +kernel),A1i]
  have f4:∀j X u v:V,A4n "outs" v [("wheel",.int c),("axes",j),("tables",X),("lets",u)]=([("wheel",.int c),("axes",j),("tables",X),("lets",u),("outs",v)]:List (Str×V)):=λj X u v=>by rw [A1a (by decide +kernel),A1a (by decide +kernel),A1a (by decide +kernel),A1a (by decide +kernel),A1i]
  have J:∀{b:Addr} {u:HO},H b=some u->(∀C d y,u≠.ins C d y)->b≠p:=λe n z=>by subst z;rw [hp] at e;cases e;exact n _ _ _ rfl
  have rp:∀{v:V} {d:PyData} {G:Hp},KB p H G->Rep H v d->Rep G v d:=λI r=>r.imp2 (λq Z z=>I _ _ (J z (by intros;intro z;cases z)) z) λq Z z=>I _ _ (J z (by intros;intro z;cases z)) z;have O:∀{v:V} {d:PyData} {G G':Hp} {C dd:Addr} {y:List (Str×V)},KB p G G'->G p=some (.ins C dd y)->Rep G v d->Rep G' v d:=λI hG r=>r.imp2 (λq Z z=>I _ _ (A3j z hG (by intro w;cases w)) z) λq Z z=>I _ _ (A3j z hG (by intro w;cases w)) z;refine i02 _ (@RS.r _ _ _ (rq1 ⟨A2d (pv 0) (pv 1) rfl⟩ (rq1 ⟨A2d (pv 0) (pcl Ga0 R T.aq (A0a (pv 2) A0c)) rfl⟩ (rq1 ⟨A2d (pv 0) (pcl Ga0 R T.aq (A0a (pv 3) A0c)) rfl⟩ (rq1 ⟨A2d (pv 0) (pcl Ga0 R T.aq (A0a (pv 4) A0c)) rfl⟩ (rq3 ⟨A2d (pv 0) (pcl Ga0 R T.aq (A0a (pv 5) A0c)) rfl⟩)))))) (i1b _ rfl _ rfl p _ f [] rfl hp T.bu T.j8 (by decide) ?_);rw [A1i];obtain ⟨G0,hG0⟩:∃G0,G0=upd H p (.ins t.ai f [("wheel",.int c)]):=⟨_,rfl⟩;rw [<-hG0];have p0:G0 p=some (.ins t.ai f [("wheel",.int c)]):=by rw [hG0];exact A0b
  have k0:KB p H G0:=by rw [hG0];exact KB.refl.upd
  refine i02 _ rfl (.inl (.inl (.inl (i0p (.ref a) (A5b D) rfl (rp k0 ra) (by lia) (by lia) λva H1 s1 r1=> ?_))));obtain ⟨g,xa,rfl,ea,_⟩:=A5v (show Rep _ va (.list (D.map B1o)) from r1);refine i15 _ rfl p _ f _ rfl (s1 _ _ p0) T.bu T.f_ (by show 1<1000;decide) ?_;rw [f1];obtain ⟨G1,hG1⟩:∃G1,G1=upd H1 p (.ins t.ai f [("wheel",.int c),("axes",.ref g)]):=⟨_,rfl⟩;rw [<-hG1];have p1:G1 p=some (.ins t.ai f [("wheel",.int c),("axes",.ref g)]):=by rw [hG1];exact A0b
  have k1:KB p H G1:=by rw [hG1];exact (k0.trans (KB.of s1)).upd
  have a6:Rep G1 (.ref g) (A5b D):=by rw [hG1];exact O (KB.refl.upd) (s1 _ _ p0) (r1.same A0m)
  refine i02 _ rfl (.inl (.inl (.inl (i0p (.ref tt) (B5a N) rfl (rp k1 rt) (by lia) (by lia) λvt H2 s2 r2=> ?_))));obtain ⟨i,xt,rfl,et,_⟩:=A5v (show Rep _ vt (.list (N.map C6b)) from r2);refine i15 _ rfl p _ f _ rfl (s2 _ _ p1) T.bu T.dy (by show 2<1000;decide) ?_;rw [f2];obtain ⟨G2,hG2⟩:∃G2,G2=upd H2 p (.ins t.ai f [("wheel",.int c),("axes",.ref g),("tables",.ref i)]):=⟨_,rfl⟩;rw [<-hG2];have S:G2 p=some (.ins t.ai f [("wheel",.int c),("axes",.ref g),("tables",.ref i)]):=by rw [hG2];exact A0b
  have j2:KB p G1 G2:=by rw [hG2];exact (KB.of s2).upd
  have Y:=k1.trans j2;have a0:Rep G2 (.ref i) (B5a N):=by rw [hG2];exact O (KB.refl.upd) (s2 _ _ p1) (r2.same A0m)
  refine i02 _ rfl (.inl (.inl (.inr (i0p l xs rfl (Y _ _ (J hl (by intros;intro z;cases z)) hl) ll (λx a4=> ?_) λm H3 B s3 U=> ?_))))
  ·obtain ⟨b,db,y,rfl,nb,eb⟩:=hx x a4;exact i0g b db y rfl (Y _ _ nb eb)
  have lp:m≠p:=λz=>by subst z;rw [S] at B;cases B
  refine i15 _ rfl p _ f _ rfl (s3 _ _ S) T.bu T.gb (by show 3<1000;decide) ?_;rw [f3];obtain ⟨G3,hG3⟩:∃G3,G3=upd H3 p (.ins t.ai f [("wheel",.int c),("axes",.ref g),("tables",.ref i),("lets",.ref m)]):=⟨_,rfl⟩;rw [<-hG3];have p3:G3 p=some (.ins t.ai f [("wheel",.int c),("axes",.ref g),("tables",.ref i),("lets",.ref m)]):=by rw [hG3];exact A0b
  have W:KB p G2 G3:=by rw [hG3];exact (KB.of s3).upd
  have k3:=Y.trans W;have a1:G3 m=some (.lst xs):=by rw [hG3,A0i lp];exact U
  refine i02 _ rfl (.inl (.inl (.inl (i0p (.ref o) (C0g os) rfl (C1y (k3 _ _ (J ho (by intros;intro z;cases z)) ho)) (by lia) (by lia) λvo H4 s4 r4=> ?_))));obtain ⟨o',rfl,M⟩:=B6r r4;have M:=(A0l M).2;refine i15 _ rfl p _ f _ rfl (s4 _ _ p3) T.bu T.jy (by show 4<1000;decide) ?_;show Q V.non (upd H4 p _);rw [f4];have L:KB p G3 (upd H4 p (.ins t.ai f [("wheel",.int c),("axes",.ref g),("tables",.ref i),("lets",.ref m),("outs",.ref o')])):=(KB.of s4).upd;exact k g i m o' _ A0b (O ((j2.trans W).trans L) p1 a6) (O (W.trans L) S a0) (L _ _ lp a1) (by rw [A0i (A3j M (s4 _ _ p3) (by intro z;cases z))];exact M) (k3.trans L)
theorem B4w (T:Txt K mg t):FP P w mg base T.j6 1 (C8w t):=by
 refine T.j6.F.ok B5h (by walk_at "ln") λ_ A _ s H _ Q E j h=> ?_
 ·obtain ⟨p,b,v,rfl,g,k⟩:=h;have e:∀u:V,A4n "lines" u [("known",v)]=([("known",v),("lines",u)]:List (Str×V)):=λu=>by rw [A1a (by decide +kernel),A1i]
  have i:∀u z:V,A4n "lifts" z [("known",v),("lines",u)]=([("known",v),("lines",u),("lifts",z)]:List (Str×V)):=λu z=>by rw [A1a (by decide +kernel),A1a (by decide +kernel),A1i]
  refine i02 _ (@RS.r _ _ _ (rq1 ⟨A2d (pv 0) (pv 1) rfl⟩ (rq1 ⟨A2d (pv 0) (@A1r _ _ _ _ A0c) rfl⟩ (rq3 ⟨A2d (pv 0) A0d rfl⟩)))) (i1b _ rfl _ rfl p _ b [] rfl g T.bt T.ju (by decide) ?_);rw [A1i];refine ⟨A0v rfl,λl a=>(i15 _ rfl p _ b _ rfl ((A0e a) _ _ A0b) T.bt T.dm (by show 1<1000;decide) ?_)⟩;rw [e];have c:KB p H (upd H p (.ins t.au b [("known",v)])):=KB.refl.upd;have d:H l=none:=c.free A0b a;have f:l≠p:=λz=>by subst z;rw [A0b] at a;cases a
  refine i15 _ rfl p _ b _ rfl A0b T.bt T.ga (by show 2<1000;decide) ?_;show Q V.non (upd (upd _ p _) p _);rw [A5n,i];exact k l _ d A0b (by rw [A0i f];exact A0b) (c.trans (KB.of (A0e a))).upd
theorem B6x (T:Txt K mg t):FO P w base T.ja 1 (E1h t):=by
 refine T.ja.F.ok B6n (by walk_at "ln") λ_ A _ s H _ Q E hr h=> ?_
 ·obtain ⟨p,R,z,S,N,W,rfl,C,Z,k⟩:=h;obtain ⟨L,a,U,l,o,e,M,_⟩:=C.ob;obtain ⟨O,xs,J,v,y⟩:=A5v (show Rep H (.ref a) (.list (z.map B1o)) from M);cases J;have m:=y.len;rw [Z08] at m;refine i02 _ (@RS.r _ _ _ (rq3 (rq5 (A4r (N':=["name","length"]) (ix:=(List.replicate 2 none)) (g:=D8m K 2 (B2e (A7n 0) (B2e (A7n 1) D8i))) rfl (A3a rfl (by decide +kernel) (by decide +kernel)) (A2z rfl) (A2c (A1c (pv 0) rfl)) (λ_ _ _ _=>(A3q (n:=2) rfl (A0r (A0k (i:=0) B9h rfl (.inl rfl)) (A0r (A0k (i:=1) B9h rfl (.inl rfl)) A2p)))) (λ_ _ _ _=>(pv 0)))))) ?_;refine i19 _ rfl p _ L _ _ rfl e T.bu T.f_ (by walk_at "lk") (i06 a rfl ⟨_,SqL.of v⟩ λD u=> ?_);refine A4g (K:=K) (a:=a) (D:=D) (xs:=xs) (λi j d=>A0u H d/\d D=some (.lst j)/\j=((z.take i).map (·.1)).map V.str) (i00 (A0e u) A0b rfl) (λi j d f=>SqL.of (f.1 _ _ v)) ?_ ?_
  ·rintro i x j d B ⟨f,c,rfl⟩;refine C5y ?_;intro N';have X:i<xs.length:=(Z03.mp B).1;obtain ⟨Y,q,G⟩:=C1s y B;obtain ⟨b,rfl,I⟩:=D6w G;refine i1a b _ rfl (SqT.of (f _ _ I)) rfl _ _ rfl _ _ rfl rfl ?_;refine i01 True.intro _ (i0h rfl c (A1l (by simp;lia)) (A0o f u) A0b ?_);rw [Z14,q,Z2f];simp
  ·rintro j d ⟨f,c,rfl⟩;rw [m,Z18] at c;exact k D d u f c
theorem B5c (T:Txt K mg t):FO P w base T.i_ 1 (E0e t):=by
 refine T.i_.F.ok B4y (by walk_at "ln") λ_ A _ s H _ Q E hr h=> ?_
 ·obtain ⟨p,U,W,C,S,X,rfl,J,Y,k⟩:=h;obtain ⟨O,a,u,l,o,e,ra,I,_⟩:=J.ob;obtain ⟨R,xs,N,z,B⟩:=A5v (show Rep H (.ref u) (.list (C.map C6b)) from I);cases N;have q:=B.len;rw [Z08] at q;refine i02 _ (@RS.r _ _ _ (rq3 (rq5 (A4r (N':=["name","axes"]) (ix:=(List.replicate 2 none)) (g:=D8m K 2 (B2e (A7n 0) (B2e (A7n 1) D8i))) rfl (A3a rfl (by decide +kernel) (by decide +kernel)) (A2z rfl) (A2c (A1c (pv 0) rfl)) (λ_ _ _ _=>(A3q (n:=2) rfl (A0r (A0k (i:=0) B8b rfl (.inl rfl)) (A0r (A0k (i:=1) B8b rfl (.inl rfl)) A2p)))) (λ_ _ _ _=>(pv 0)))))) ?_;refine i19 _ rfl p _ O _ _ rfl e T.bu T.dy (by walk_at "lk") (i06 u rfl ⟨_,SqL.of z⟩ λD y=> ?_);refine A4g (K:=K) (a:=u) (D:=D) (xs:=xs) (λi m f=>A0u H f/\f D=some (.lst m)/\m=((C.take i).map (·.1)).map V.str) (i00 (A0e y) A0b rfl) (λi m f j=>SqL.of (j.1 _ _ z)) ?_ ?_
  ·rintro i x m f G ⟨j,d,rfl⟩;refine C5y ?_;intro N';have Z:i<xs.length:=(Z03.mp G).1;obtain ⟨te,v,L⟩:=C1s B G;obtain ⟨b,c,rfl,M,ec⟩:=D8p L;refine i1a b _ rfl (SqT.of (j _ _ M)) rfl _ _ rfl _ _ rfl rfl ?_;refine i01 True.intro _ (i0h rfl d (A1l (by simp;lia)) (A0o j y) A0b ?_);rw [Z14,v,Z2f];simp
  ·rintro m f ⟨j,d,rfl⟩;rw [q,Z18] at d;exact k D f y j d
theorem B6o (T:Txt K mg t):FO P w base T.jm 1 (E0u t):=by
 refine T.jm.F.ok B7e (by walk_at "ln") λ_ A _ s H _ Q E J h=> ?_
 ·obtain ⟨p,C,c,D,y,I,rfl,d,m,k⟩:=h;obtain ⟨n,a,G,l,o,e,x,_⟩:=d.ob;obtain ⟨B,v,i,g,j⟩:=A5v (show Rep H (.ref a) (.list (c.map B1o)) from x);cases i
  have f:((A2g c).map (·.1)).Nodup:=by
   have:(A2g c).map (·.1)=(c.map (·.1)).map (Sum.inr:Str->Key):=by unfold A2g;rw [List.map_map,List.map_map];rfl
   rw [this];exact List.Pairwise.map _ (λa b h z=>h (by injection z)) m
  refine i02 _ (@RS.r _ _ _ (rq3 (rq5 (A2k (B5m rfl) (by rfl) T.mh Z2q (A0a (A1c (pv 0) rfl) A0c))))) ?_;refine i19 _ rfl p _ n _ _ rfl e T.bu T.f_ (by walk_at "lk") (i0r a v _ rfl g (D9k j) λq u=> ?_);rw [B2w f];exact k q u
def C6l (A:Adr):Sp:=λe H Q _=>∃(p d:Addr) (a b c:V),e=[.ref p,a,b,c]/\H p=some (.ins A.aw d [])/\Q .non (upd H p (.ins A.aw d [("term",a),("sums",b),("guards",c)]))
def C7u (A:Adr):Sp:=λc H Q _=>∃(p:V) (u:Tm) (s:List Str) (g:List Gd) (S:Addr->Prop),c=[p]/\Fr S H/\A3e A (A0s S H) p (u,s,g)/\∀(q:Addr) (b:List V) (a:Hp),H q=none->A0u H a->a q=some (.lst b)->Paired (A3e A (A0s S a)) b (B7r u s g)->Q (.ref q) a
def D0r (A:Adr) (n:Nat):Sp:=λc H Q _=>∃(p:V) (u:Tm) (s:List Str) (g:List Gd) (S:Addr->Prop),c=[p]/\Fr S H/\A3e A (A0s S H) p (u,s,g)/\dep u<=n/\nod u<=1000/\∀(q:Addr) (b:List V) (a:Hp),H q=none->A0u H a->a q=some (.lst b)->Paired (A3e A (A0s S a)) b (prT u s g)->Q (.ref q) a
def D1q (A:Adr):Sp:=λc H Q _=>∃(v:V) (u:Tm) (S:Addr->Prop),c=[v]/\Fr S H/\Ob A (A0s S H) v u/\dep u<=40/\nod u<=1000/\∀(q:Addr) (b:List V) (a:Hp),H q=none->A0u H a->a q=some (.lst b)->Paired (A3e A (A0s S a)) b (prT u [] [])->Q (.ref q) a
theorem A5o {x dx:Addr} {u v:HO} (a:H x=none) (b:H dx=none):A0u H (upd (upd (upd H dx o) x u) x v):=A2f a b
theorem A8q (T:Txt K mg t):FP P w mg base T.cf 1 (C6l t):=by
 refine T.cf.F.ok B9r (by walk_at "ln") λ_ A _ s H _ Q E i h=> ?_
 ·obtain ⟨p,d,a,b,c,rfl,f,k⟩:=h;have g:A4n "sums" b (A4n "term" a [])=([("term",a),("sums",b)]:List (Str×V)):=by rw [A1i,A1a (by decide +kernel),A1i]
  have e:A4n "guards" c ([("term",a),("sums",b)]:List (Str×V))=([("term",a),("sums",b),("guards",c)]:List (Str×V)):=by rw [A1a (by decide +kernel),A1a (by decide +kernel),A1i]
  refine i02 _ (@RS.r _ _ _ (rq1 ⟨A2d (pv 0) (pv 1) rfl⟩ (rq1 ⟨A2d (pv 0) (pv 2) rfl⟩ (rq3 ⟨A2d (pv 0) (pv 3) rfl⟩)))) (i1b _ rfl _ rfl p _ d [] rfl f T.bq T.b_ (by decide) (i1b _ rfl _ rfl p _ d _ rfl A0b T.bq T.cr (by show 1<1000;decide) ?_));rw [A5n,g];refine i1b _ rfl _ rfl p _ d _ rfl A0b T.bq T.c8 (by show 2<1000;decide) ?_;show Q V.non (upd (upd H p _) p _);rw [A5n,e];exact k
theorem C7g (T:Txt K mg t) {a dx:Addr} {k:Op3} {fs:List (Str×V)} (e:H a=some (.ins (A6x t k) dx fs)):A8a K H (.ref a) (.ref (A6x t k)):=by
 cases k with
 | plus=>exact .ins e T.qy T.bw.ha T.bw.hn T.bw.htk T.bw.hm
 | minus=>exact .ins e T.mq T.bj.ha T.bj.hn T.bj.htk T.bj.hm
 | times=>exact .ins e T.kj T.bn.ha T.bn.hn T.bn.htk T.bn.hm
theorem D4u (T:Txt K mg t) (k:Op3):kitOne K (.ref (A6x t k)) (.ref t.c9)=some true:=by
 cases k with
 | plus=>exact T.qv
 | minus=>exact T.oj
 | times=>exact T.on
theorem A8o (T:Txt K mg t) (k:Op3):Cls K (A6x t k):=by cases k with
 | plus=>exact T.qy
 | minus=>exact T.mq
 | times=>exact T.kj
theorem B9z (T:Txt K mg t) (k:Op3):A1m K (A6x t k) "left":=by cases k with
 | plus=>exact T.xm
 | minus=>exact T.wo
 | times=>exact T.ve
theorem B9o (T:Txt K mg t) (k:Op3):A1m K (A6x t k) "right":=by cases k with
 | plus=>exact T.vg
 | minus=>exact T.uv
 | times=>exact T.v9
theorem A3t (T:Txt K mg t):FO P w base T.bv 3 (C7u t):=by
 have Ga2:= @A8q P w K mg base t T;refine T.bv.F.ok A2t (by walk_at "ln") λ_ A _ s H _ Q E hr h=> ?_
 ·obtain ⟨p,u,Z,gg,S,rfl,C,⟨a,j,tv,R,M,B,rfl,e0,ob,i,O,bg,bs,pg⟩,k⟩:=h;have e:=A0m _ _ e0;have hs:=A0m _ _ i;have hg:=A0m _ _ O;refine i02 _ (@RS.r _ _ _ (rq1 (rq6 1 A2t.nd (A1c (pv 0) rfl)) (rq1 (rq4 (A2s (A0q A1d (by rfl) T.ab Z0d (A0a (pv 1) (A0a (A3k (v:=V.ref t.c9) rfl T.zS rfl) A0c)))) (rq3 (rq5 (@A1r _ _ _ _ (A0a (pmk T.ji Ga2 hr T.o_ T.cf.b (A0a (A1c (pv 1) rfl) (A0a (A1c (pv 0) rfl) (A0a (A1c (pv 0) rfl) A0c)))) (A0a (pmk T.ji Ga2 hr T.o_ T.cf.b (A0a (A1c (pv 1) rfl) (A0a (A1c (pv 0) rfl) (A0a (A1c (pv 0) rfl) A0c)))) A0c))))) ⟨A0x⟩) (rq1 (rq4 (A2s (A0q A1d (by rfl) T.ab Z0d (A0a (pv 1) (A0a (A3k (v:=V.ref t.bp) rfl T.ww rfl) A0c)))) (rq3 (rq5 (@A1r _ _ _ _ (A0a (pmk T.ji Ga2 hr T.o_ T.cf.b (A0a (A1c (pv 1) rfl) (A0a (A0j B0e (A1c (pv 0) rfl) (@A1r _ _ _ _ (A0a (A1c (pv 1) rfl) A0c))) (A0a (A1c (pv 0) rfl) A0c)))) A0c)))) ⟨A0x⟩) (rq1 (rq4 (A2s (A0q A1d (by rfl) T.ab Z0d (A0a (pv 1) (A0a (A3k (v:=V.ref t.af) rfl T.m_ rfl) A0c)))) (rq1 (rq6 2 A2t.nd (pmk T.ji Ga2 hr T.o_ T.cf.b (A0a (A1c (pv 1) rfl) (A0a (A1c (pv 0) rfl) (A0a (A0j B0e (A1c (pv 0) rfl) (@A1r _ _ _ _ (A0a (A1z (A0a (pv 1) (A0a D3b A0c))) A0c))) A0c))))) (rq1 (rq6 3 A2t.nd (pmk T.ji Ga2 hr T.o_ T.cf.b (A0a (A1c (pv 1) rfl) (A0a (A1c (pv 0) rfl) (A0a (A0j B0e (A1c (pv 0) rfl) (@A1r _ _ _ _ (A0a (A1z (A0a (pv 1) (A0a D3b A0c))) A0c))) A0c))))) (rq3 (rq5 (@A1r _ _ _ _ (A0a (pv 2) (A0a (pv 3) A0c))))))) ⟨A0x⟩) (rq3 (rq5 (@A1r _ _ _ _ A0c)))))))) ?_;refine i19 _ rfl a _ j _ _ rfl e T.bq T.b_ (by walk_at "lk") ?_
  cases id ob with
  | @num o dd z eo0 =>
   have g:=A0m _ _ eo0;have f:A8a K H (.ref o) (.ref t.ae):= .ins g T.cy T.a_.ha T.a_.hn T.a_.htk T.a_.hm;refine i16 _ rfl _ _ _ _ rfl f (A1e T.kh) false rfl (A2m ?_);refine i16 _ rfl _ _ _ _ rfl f (A1e T.iu) false rfl (A2m ?_);refine i16 _ rfl _ _ _ _ rfl f (A1e T.jv) false rfl (A2m ?_);exact ⟨A0v rfl,λq d=>k q [] _ d (A0e d) A0b .nil⟩
  | @place o dd x eo0 =>
   have g:=A0m _ _ eo0;have f:A8a K H (.ref o) (.ref t.am):= .ins g T.ft T.bo.ha T.bo.hn T.bo.htk T.bo.hm;refine i16 _ rfl _ _ _ _ rfl f (A1e T.n_) false rfl (A2m ?_);refine i16 _ rfl _ _ _ _ rfl f (A1e T.jl) false rfl (A2m ?_);refine i16 _ rfl _ _ _ _ rfl f (A1e T.mi) false rfl (A2m ?_);exact ⟨A0v rfl,λq d=>k q [] _ d (A0e d) A0b .nil⟩
  | @read o dd ll x ix eo0 rp0 =>
   have g:=A0m _ _ eo0;have f:A8a K H (.ref o) (.ref t.aj):= .ins g T.fg T.bx.ha T.bx.hn T.bx.htk T.bx.hm;refine i16 _ rfl _ _ _ _ rfl f (A1e T.q0) false rfl (A2m ?_);refine i16 _ rfl _ _ _ _ rfl f (A1e T.k_) false rfl (A2m ?_);refine i16 _ rfl _ _ _ _ rfl f (A1e T.om) false rfl (A2m ?_);exact ⟨A0v rfl,λq d=>k q [] _ d (A0e d) A0b .nil⟩
  | @sum o dd x v b eo0 ob1 =>
   have g:=A0m _ _ eo0;have f:A8a K H (.ref o) (.ref t.bp):= .ins g T.d_ T.cj.ha T.cj.hn T.cj.htk T.cj.hm;simp only [dep] at bg bs;refine i16 _ rfl _ _ _ _ rfl f (A1e T.sv) false rfl (A2m ?_);refine i16 _ rfl _ _ _ _ rfl f (A1e T.jn) true rfl (A5u ?_);refine i19 _ rfl o _ dd _ _ rfl g T.d_ T.ik (by walk_at "lk") (i19 _ rfl a _ j _ _ rfl e T.bq T.cr (by walk_at "lk") (i19 _ rfl o _ dd _ _ rfl g T.d_ T.fw (by walk_at "lk") ⟨A0v rfl,λl1 I=> ?_⟩));have D:A0u H (upd H l1 (.lst [.str x])):=A0e I;refine i10 R l1 _ _ rfl rfl (D _ _ hs) A0b (A2a (by simp;lia)) λl2 m=> ?_;have s2:=D.trans (A0e (o:= .lst (Z.map V.str++[.str x])) m);refine i19 _ rfl a _ j _ _ rfl (s2 _ _ e) T.bq T.c8 (by walk_at "lk") λnp dn hn a5 a8=>⟨np,(i0y dn _ _ _ rfl A0b rfl (A0v rfl) λq d=> ?_)⟩;have s3:=s2.trans (A5o (o:= .own np) (u:= .ins t.aw dn []) (v:= .ins t.aw dn [("term",v),("sums",.ref l2),("guards",.ref M)]) hn a5);have c:=s3.trans (A0e (o:= .lst [.ref np]) d);refine k q _ _ (s3.free d) c A0b (.cons (i1d np dn v l2 M B rfl (A0h (C _ (s2.free hn)) ?_) (ob1.imp (A0g c)) (A0h (C _ (D.free m)) ?_) (A0g c _ _ O) (by show B.length+dep b<=100;lia) (by show (Z++[x]).length+dep b<=100;rw [Z06];simp only [Z0y,Z2g];lia) (Paired.mapP pg λ_ _ z=>z.same (A0g c))) .nil)
   ·exact (A0e d) _ _ A0b
   ·have e2:=((A5o (o:= .own np) (u:= .ins t.aw dn []) (v:= .ins t.aw dn [("term",v),("sums",.ref l2),("guards",.ref M)]) hn a5).trans (A0e (o:= .lst [.ref np]) d)) _ _ (A0b (H:=upd H l1 (.lst [.str x])) (a:=l2) (o:= .lst (Z.map V.str++[.str x])));rw [Z0s];exact e2
  | @pair o dd op v1 v2 l r eo0 ob1 ob2 =>
   have g:=A0m _ _ eo0;simp only [dep] at bg bs;refine i16 _ rfl _ _ _ _ rfl (C7g T g) (A1e (D4u T op)) true rfl (A5u ?_);refine i19 _ rfl o _ dd _ _ rfl g (A8o T op) (B9z T op) (by walk_at "lk") (i19 _ rfl a _ j _ _ rfl e T.bq T.cr (by walk_at "lk") (i19 _ rfl a _ j _ _ rfl e T.bq T.c8 (by walk_at "lk") λN U n a2 a6=>(i03 N U (i0r _ _ _ rfl A0b rfl ?_))));have D:=A5o (o:= .own N) (u:= .ins t.aw U []) (v:= .ins t.aw U [("term",v1),("sums",.ref R),("guards",.ref M)]) n a2;refine i19 _ rfl o _ dd _ _ rfl (D _ _ g) (A8o T op) (B9o T op) (by walk_at "lk") (i19 _ rfl a _ j _ _ rfl (D _ _ e) T.bq T.cr (by walk_at "lk") (i19 _ rfl a _ j _ _ rfl (D _ _ e) T.bq T.c8 (by walk_at "lk") λJ L y a0 a7=>⟨J,(i0y L _ _ _ rfl A0b rfl (A0v rfl) λq d=> ?_)⟩));have s2:=A5o (o:= .own J) (u:= .ins t.aw L []) (v:= .ins t.aw L [("term",v2),("sums",.ref R),("guards",.ref M)]) y a0;have s3:=A0e (o:= .lst [.ref N,.ref J]) d;have c:=D.trans (s2.trans s3);refine k q _ _ ((D.trans s2).free d) c A0b (.cons (i1d N U v1 R M B rfl (A0h (C _ n) (s3 _ _ (s2 _ _ A0b))) (ob1.imp (A0g c)) (A0g c _ _ i) (A0g c _ _ O) (by show B.length+dep l<=100;lia) (by show Z.length+dep l<=100;lia) (Paired.mapP pg λ_ _ z=>z.same (A0g c))) (.cons (i1d J L v2 R M B rfl (A0h (C _ (D.free y)) (s3 _ _ A0b)) (ob2.imp (A0g c)) (A0g c _ _ i) (A0g c _ _ O) (by show B.length+dep r<=100;lia) (by show Z.length+dep r<=100;lia) (Paired.mapP pg λ_ _ z=>z.same (A0g c))) .nil))
  | @guard o dd x lo hi v1 v2 l r eo0 ob1 ob2 =>
   have g:=A0m _ _ eo0;have f:A8a K H (.ref o) (.ref t.af):= .ins g T.ay T.bh.ha T.bh.hn T.bh.htk T.bh.hm;simp only [dep] at bg bs;refine i16 _ rfl _ _ _ _ rfl f (A1e T.nj) false rfl (A2m ?_);refine i16 _ rfl _ _ _ _ rfl f (A1e T.jo) false rfl (A2m ?_);refine i16 _ rfl _ _ _ _ rfl f (A1e T.h_) true rfl (A5u ?_);refine i19 _ rfl o _ dd _ _ rfl g T.ay T.gn (by walk_at "lk") (i19 _ rfl a _ j _ _ rfl e T.bq T.cr (by walk_at "lk") (i19 _ rfl a _ j _ _ rfl e T.bq T.c8 (by walk_at "lk") (i06 _ rfl (A0v rfl) λt1 a4=>⟨A0v rfl,λl1 I=> ?_⟩)));have z1:=(A0e (o:= .tup [.ref o,.bl true]) a4).trans (A0e (o:= .lst [.ref t1]) I);refine i10 M l1 _ _ rfl rfl (z1 _ _ hg) A0b (A2a (by simp;lia)) λg1 a1=> ?_;have z2:=z1.trans (A0e (o:= .lst (B++[.ref t1])) a1);refine λN U n a2 a6=>(i03 N U (i0r _ _ _ rfl A0b rfl ?_));have y1:=A5o (o:= .own N) (u:= .ins t.aw U []) (v:= .ins t.aw U [("term",v1),("sums",.ref R),("guards",.ref g1)]) n a2;have G:=z2.trans y1;refine i19 _ rfl o _ dd _ _ rfl (G _ _ g) T.ay T.dw (by walk_at "lk") (i19 _ rfl a _ j _ _ rfl (G _ _ e) T.bq T.cr (by walk_at "lk") (i19 _ rfl a _ j _ _ rfl (G _ _ e) T.bq T.c8 (by walk_at "lk") (i06 _ rfl (A0v rfl) λt2 a3=>⟨A0v rfl,λl2 m=> ?_⟩)));have y2:=(A0e (o:= .tup [.ref o,.bl false]) a3).trans (A0e (o:= .lst [.ref t2]) m);refine i10 M l2 _ _ rfl rfl (y2 _ _ (G _ _ hg)) A0b (A2a (by simp;lia)) λg2 X=> ?_;have y3:=y2.trans (A0e (o:= .lst (B++[.ref t2])) X);refine λJ L y a0 a7=>(i03 J L (i0r _ _ _ rfl A0b rfl (i0k _ rfl _ rfl (A0v rfl) λq d=> ?_)));have W:=A5o (o:= .own J) (u:= .ins t.aw L []) (v:= .ins t.aw L [("term",v2),("sums",.ref R),("guards",.ref g2)]) y a0;have Y:=A0e (o:= .lst [.ref N,.ref J]) d;have c:=G.trans (y3.trans (W.trans Y));refine k q _ _ ((G.trans (y3.trans W)).free d) c A0b (.cons (i1d N U v1 R g1 _ rfl (A0h (C _ (z2.free n)) ((y3.trans (W.trans Y)) _ _ A0b)) (ob1.imp (A0g c)) (A0g c _ _ i) (A0h (C _ (z1.free a1)) ((y1.trans (y3.trans (W.trans Y))) _ _ A0b)) (by show (B++[V.ref t1]).length+dep l<=100;rw [Z06];simp only [Z0y,Z2g];lia) (by show Z.length+dep l<=100;lia) (B2p (Paired.mapP pg λ_ _ z=>z.same (A0g c)) (.cons (i03 t1 o (i0n dd v1 v2 rfl (A0h (C _ a4) (((A0e I).trans ((A0e a1).trans (y1.trans (y3.trans (W.trans Y))))) _ _ A0b)) (A0g c _ _ eo0))) .nil))) (.cons (i1d J L v2 R g2 _ rfl (A0h (C _ ((G.trans y3).free y)) (Y _ _ A0b)) (ob2.imp (A0g c)) (A0g c _ _ i) (A0h (C _ ((G.trans y2).free X)) ((W.trans Y) _ _ A0b)) (by show (B++[V.ref t2]).length+dep r<=100;rw [Z06];simp only [Z0y,Z2g];lia) (by show Z.length+dep r<=100;lia) (B2p (Paired.mapP pg λ_ _ z=>z.same (A0g c)) (.cons (i03 t2 o (i0n dd v1 v2 rfl (A0h (C _ (G.free a3)) (((A0e m).trans ((A0e X).trans (W.trans Y))) _ _ A0b)) (A0g c _ _ eo0))) .nil))) .nil))
theorem B8q (T:Txt K mg t) (hm:3<=m) (Ga3:A3i P w K mg base CX0 m t.gm t.gj ["part"] sp')
  (hs:∀(p:V) (u:Tm) (s:List Str) (g:List Gd) (S:Addr->Prop) (H:Hp) (Q:VK),Fr S H->A3e t (A0s S H) p (u,s,g)->dep u+1<=n->nod u<=1000->(∀(q:Addr) (xs:List V) (H':Hp),H q=none->A0u H H'->H' q=some (.lst xs)->Paired (A3e t (A0s S H')) xs (prT u s g)->Q (.ref q) H')->sp' [p] H Q E0) :
  A3i P w K mg base CX0 (m+1) t.gm t.gj ["part"] (D0r t n):=by
 have Ga4:= @A3t P w K mg base t T;refine T.jt.F.ok A7m (by walk_at "ln") λ_ A _ s H _ Q E hr h=> ?_
 ·obtain ⟨p,u,d,f,S,rfl,fr,pa,hd,hn,k⟩:=h;obtain ⟨a,dx,tv,sl,gl,gs,rfl,e0,ob,a2,a4,bg,bs,pg⟩:=id pa;have dp:=A6l u;refine i02 _ (@RS.r _ _ _ (rq1 (rq6 1 A7m.nd (@A1r _ _ _ _ (A0a (pv 0) A0c))) (rq1 (rq7 (A2c (pcl Ga4 hr T.bv (A0a (pv 0) A0c))) (A0k (i:=2) A7m.nd rfl (.inl rfl)) (rq3 ⟨A2r (A6y Z0k PySem.F.slot_list_extend PySem.F.type_list_extend B3e (pv 1) (A0a (pcl Ga3 hr T.jt (A0a (pv 2) A0c)) A0c))⟩)) (rq3 (rq5 (pv 1)))))) ?_;refine i06 _ rfl (A0v rfl) λl J=> ?_;have I:A0u H (upd H l (.lst [.ref a])):=A0e J;have m1:A0u (A0s S H) (A0s (λb=>S b/\b≠l) (upd H l (.lst [.ref a]))):=λb o z=>A0h ⟨(A0l z).1,A0z (A0l z).2 J⟩ (I _ _ (A0l z).2);have X:∀{G:Hp},A0u (upd H l (.lst [.ref a])) G->Fr (λb=>S b/\b≠l) G:=λ{G} s b c=>⟨fr b (I.free (s.free c)),λz=>by subst z;rw [s _ _ A0b] at c;cases c⟩;have nl:¬(S l/\l≠l):=λz=>z.2 rfl;refine i0l _ rfl (.ref a) u d (i0m f (λb=>S b/\b≠l) rfl (X (A0u.refl _)) (pa.same m1) λq ks H2 hq s2 L pk=>(i06 q rfl ⟨_,SqL.of L⟩ ?_));have ql:q≠l:=λz=>by subst z;rw [A0b] at hq;cases hq
  have W:=Paired.length pk
  have Y:((B7r u d f).flatMap λk=>prT k.1 k.2.1 k.2.2).length+1=nod u:=by
   have h1:(prT u d f).length=nod u:=A5s u d f;rw [C2w,Z0y] at h1;exact h1
  have a0:∀(i:Nat),(((B7r u d f).take i).flatMap λk=>prT k.1 k.2.1 k.2.2).length<=nod u:=λi=>by
   have e:=Z2e i (B7r u d f);have e2:((B7r u d f).flatMap λk=>prT k.1 k.2.1 k.2.2)=(((B7r u d f).take i).flatMap λk=>prT k.1 k.2.1 k.2.2)++(((B7r u d f).drop i).flatMap λk=>prT k.1 k.2.1 k.2.2):=by rw [<-List.flatMap_append,e]
   rw [e2,Z06] at Y;lia
  refine A2l (K:=K) (a:=q) (xs:=ks) (λi Z H3=>∃(U:Option V) (xs:List V),Z=[Sro a,Sro l,U]/\A0u H H3/\(∀b,H3 b=none->upd H l (.lst [.ref a]) b=none)/\H3 q=some (.lst ks)/\Paired (A3e t (A0s (λb=>S b/\b≠l) H3)) ks (B7r u d f)/\H3 l=some (.lst (.ref a::xs))/\Paired (A3e t (A0s (λb=>S b/\b≠l) H3)) xs (((B7r u d f).take i).flatMap λk=>prT k.1 k.2.1 k.2.2))
   (i0t none [] rfl (I.trans s2) (λb c=>s2.free c) L pk ⟨s2 _ _ A0b,.nil⟩) (by rintro i Z H3 _ ⟨_,_,_,_,_,h,_⟩;exact SqL.of h) ?_ ?_
  ·rintro i y Z H3 hy ⟨U,xs,rfl,M,O,h3,x,j,C⟩;refine B2x ?_;intro D';obtain ⟨v,B,N⟩:=B3r x hy;have km:=Z13 B;have a5:=D1i km
   have nk:nod v.1<=1000:=by
    have L:(prT v.1 v.2.1 v.2.2).length<=((B7r u d f).flatMap λk=>prT k.1 k.2.1 k.2.2).length:=by
     obtain ⟨l1,l2,e2⟩:=List.append_of_mem km;rw [e2,List.flatMap_append,List.flatMap_cons,Z06,Z06];lia
    rw [A5s] at L
    lia
   have R:Fr (λb=>S b/\b≠l) H3:=λb c=>⟨fr b (I.free (O b c)),λz=>by subst z;rw [j] at c;cases c⟩;refine i0j _ rfl (.inl (i01 rfl _ (SqL.of j))) _ rfl (hs y v.1 v.2.1 v.2.2 _ H3 _ R N (by lia) nk λq2 zs H4 a3 D h4 pz=> ?_);have a6:=Paired.length C;have a1:=Paired.length pz;rw [A5s] at a1;have b1:=a0 i;refine i10 l q2 _ _ rfl rfl (D _ _ j) h4 (A2a (by simp;lia)) ?_;have u4:A0u (A0s (λb=>S b/\b≠l) H4) (A0s (λb=>S b/\b≠l) (upd H4 l (.lst (.ref a::xs++zs)))):=A2i (A0u.refl _) nl;have v4:=(A0g (S:=λb=>S b/\b≠l) D).trans u4;refine i0t _ (xs++zs) rfl (A0o (M.trans D) J) (λb c=> ?_) ?_ (Paired.mapP x λ_ _ z=>z.same v4) ⟨A0b,?_⟩
   ·by_cases z:b=l
    ·subst z;rw [A0b] at c;cases c
    ·rw [A0i z] at c;exact O b (D.free c)
   ·rw [A0i ql];exact D _ _ h3
   ·rw [Z14,B,Z2f,List.flatMap_append,List.flatMap_cons,List.flatMap_nil,Z0u];exact B2p (Paired.mapP C λ_ _ z=>z.same v4) (Paired.mapP pz λ_ _ z=>z.same u4)
  ·rintro Z H3 ⟨U,xs,rfl,M,O,h3,x,j,C⟩;rw [W,Z18] at C;refine i02 _ rfl (k l _ H3 J M j ?_);rw [C2w];refine .cons (pa.same (A0g M)) (Paired.mapP C λ_ _ z=>z.same (A2x (A0u.refl _) λb o _ h=>h.1))
theorem D0o (T:Txt K mg t):∀n:Nat,A3i P w K mg base CX0 (n+4) t.gm t.gj ["part"] (D0r t n)
 | 0=>B8q T (sp':=λ_ _ _ _=>False) (m:=3) (by lia) (A3i.none λ_ _ _ _ h=>h) λp u s g S H Q _ _ h=>absurd h (by lia)
 | n+1=>B8q T (m:=n+4) (by lia) (D0o T n) λp u s g S H Q a b d c k=>(i14 p u s g S rfl a b (by lia) c k)
theorem C1q (T:Txt K mg t):FO P w base T.pw 46 (D1q t):=by
 have Ga3:= @D0o P w K mg base t T 40;have Ga2:= @A8q P w K mg base t T;refine T.pw.F.ok C2d (by walk_at "ln") λ_ A _ s H _ Q E p h=> ?_
 ·obtain ⟨v,u,S,rfl,g,G,y,B,k⟩:=h;refine i02 _ (@RS.r _ _ _ (rq3 (rq5 (pcl Ga3 p T.jt (A0a (pmk T.ji Ga2 p T.o_ T.cf.b (A0a (pv 0) (A0a (@A1r _ _ _ _ A0c) (A0a (@A1r _ _ _ _ A0c) A0c)))) A0c))))) ?_;refine i06 _ rfl (A0v rfl) λm a=>⟨A0v rfl,λx c=> ?_⟩;refine λn e d j N=>(i03 n e (i0r _ _ _ rfl A0b rfl ?_));have l:=(A0e (o:= .lst []) a).trans (A0e (o:= .lst []) c);have i:=A5o (o:= .own n) (u:= .ins t.aw e []) (v:= .ins t.aw e [("term",v),("sums",.ref m),("guards",.ref x)]) d j;have f:=l.trans i;refine i14 (.ref n) u [] [] S rfl (λb L=>g b (f.free L)) (i1d n e v m x [] rfl (A0h (g _ (l.free d)) A0b) (G.imp (A0g f)) (A0h (g _ a) (i _ _ ((A0e c) _ _ A0b))) (A0h (g _ ((A0e a).free c)) (i _ _ A0b)) (by show 0+dep u<=100;lia) (by show 0+dep u<=100;lia) .nil) y B λq M z I D J C=> ?_;exact k q M z (f.free I) (f.trans D) J C
def TmW:Tm->Prop
 | .num z=>Sm z
 | .place x=>B4q x
 | .read a ix=>a.length<=60/\ix.length<=12/\∀e∈ix,B4q e.1/\Sm e.2
 | .sum x b=>B4q x/\TmW b
 | .pair _ l r=>TmW l/\TmW r
 | .guard x lo hi l r=>B4q x/\Sm lo/\Sm hi/\TmW l/\TmW r
def isS:Tm->Bool
 | .sum _ _=>true
 | _=>false
def isP:Tm->Bool
 | .pair _ _ _=>true
 | _=>false
def isG:Tm->Bool
 | .guard _ _ _ _ _=>true
 | _=>false
def isL:Tm->Bool
 | .place _=>true
 | _=>false
def isR:Tm->Bool
 | .read _ _=>true
 | _=>false
theorem E4q {v:Value} {c:Addr} {b e:Bool} (h1:kitOne K v (.ref c)=some b) (h2:kitOne K v (.ref d)=some e):∀us,A3z ([V.ref c,V.ref d]) us->kitAny K v us=some (b||e):=λus r=>by
 cases r with
 | cons a r =>
  cases a
  cases r with
  | cons a r =>
   cases a
   cases r
   unfold kitAny;rw [h1]
   cases b with
   | true=>rfl
   | false =>
    unfold kitAny;rw [h2];cases e <;> rfl
structure Kit (K:Frag) (t:Adr) (H:Hp) (v:V) (u:Tm):Prop where
 ex:∃(a C dx:Addr) (fs:List (Str×V)),v= .ref a/\H a=some (.ins C dx fs)/\Cls K C/\findIn K (.ref C) "__class__"=some (some (.builtin "object.__class__"))/\
 specialIn K (.builtin "object.__class__") "__get__"=some (some (.builtin "getset_descriptor.__get__"))/\takesIn K (.builtin "object.__class__")=some true/\mroIn K C (.type "object")=some true/\A8a K H (.ref a) (.ref C)/\kitOne K (.ref C) (.ref t.bp)=some (isS u)/\kitOne K (.ref C) (.ref t.c9)=some (isP u)/\kitOne K (.ref C) (.ref t.af)=some (isG u)/\kitOne K (.ref C) (.ref t.am)=some (isL u)/\kitOne K (.ref C) (.ref t.aj)=some (isR u)
theorem C9h {t:Adr} (T:Txt K mg t) (a:Ob t H v u):Kit K t H v u:=by
 cases a with
 | num e=>exact ⟨_,_,_,_,rfl,e,T.cy,T.a_.ha,T.a_.hn,T.a_.htk,T.a_.hm,.ins e T.cy T.a_.ha T.a_.hn T.a_.htk T.a_.hm,T.iu,T.kh,T.jv,T.ud,T.uw⟩
 | place e=>exact ⟨_,_,_,_,rfl,e,T.ft,T.bo.ha,T.bo.hn,T.bo.htk,T.bo.hm,.ins e T.ft T.bo.ha T.bo.hn T.bo.htk T.bo.hm,T.jl,T.n_,T.mi,T.kr,T.vq⟩
 | read e _=>exact ⟨_,_,_,_,rfl,e,T.fg,T.bx.ha,T.bx.hn,T.bx.htk,T.bx.hm,.ins e T.fg T.bx.ha T.bx.hn T.bx.htk T.bx.hm,T.k_,T.q0,T.om,T.oh,T.qa⟩
 | sum e _=>exact ⟨_,_,_,_,rfl,e,T.d_,T.cj.ha,T.cj.hn,T.cj.htk,T.cj.hm,.ins e T.d_ T.cj.ha T.cj.hn T.cj.htk T.cj.hm,T.jn,T.sv,T.qh,T.q_,T.s_⟩
 | guard e _ _=>exact ⟨_,_,_,_,rfl,e,T.ay,T.bh.ha,T.bh.hn,T.bh.htk,T.bh.hm,.ins e T.ay T.bh.ha T.bh.hn T.bh.htk T.bh.hm,T.jo,T.nj,T.h_,T.lq,T.ou⟩
 | @pair _ _ k _ _ _ _ e _ _ =>
  cases k with
  | plus=>exact ⟨_,_,_,_,rfl,e,T.qy,T.bw.ha,T.bw.hn,T.bw.htk,T.bw.hm,.ins e T.qy T.bw.ha T.bw.hn T.bw.htk T.bw.hm,T.m7,T.qv,T.nw,T.ox,T.qm⟩
  | minus=>exact ⟨_,_,_,_,rfl,e,T.mq,T.bj.ha,T.bj.hn,T.bj.htk,T.bj.hm,.ins e T.mq T.bj.ha T.bj.hn T.bj.htk T.bj.hm,T.j9,T.oj,T.mf,T.ms,T.ni⟩
  | times=>exact ⟨_,_,_,_,rfl,e,T.kj,T.bn.ha,T.bn.hn,T.bn.htk,T.bn.hm,.ins e T.kj T.bn.ha T.bn.hn T.bn.htk T.bn.hm,T.jr,T.on,T.m9,T.kg,T.nh⟩
def A3o:Tm->List Str
 | .sum x b=>x::A3o b
 | _=>[]
def inS:Tm->Tm
 | .sum _ b=>inS b
 | u=>u
def axO:Tm->List Str
 | .place x=>[x]
 | .guard x _ _ _ _=>[x]
 | .read _ ix=>(ix.filter λe=>decide (¬e.1=("":Str))).map (·.1)
 | _=>[]
def C1a (u:Tm):List Str:=(prT u [] []).flatMap λe=>axO e.1
def gd1 (e:Gd) (u:Tm):Tm:=match e.2.2.2 with
 | true=> .guard e.1 e.2.1 e.2.2.1 u (.num 0)
 | false=> .guard e.1 e.2.1 e.2.2.1 (.num 0) u
def gdM (g:List Gd) (u:Tm):Tm:=g.foldr gd1 u
def D8s (A:Adr):Sp:=λb H Q _=>∃(v:V) (u:Tm),b=[v]/\Ob A H v u/\dep u<=100/\∀(q:Addr) (a:Hp),H q=none->A0u H a->a q=some (.lst ((A3o u).map V.str))->Q (.ref q) a
def E3t (A:Adr):Sp:=λc H Q _=>∃(v:V) (u:Tm) (s:List Str) (g:List Gd) (S:Addr->Prop),c=[v]/\Fr S H/\A3e A (A0s S H) v (u,s,g)/\∀(b:V) (a:Hp),A0u H a->A3e A (A0s S a) b (inS u,s++A3o u,g)->Q b a
def D2b (A:Adr) (o:Op3):Sp:=λe H Q _=>∃(v a b:V),e=[v,a,b]/\∀(x d:Addr) (c:Hp),H x=none->A0u H c->c x=some (.ins (A6x A o) d [("left",a),("right",b)])->Q (.ref x) c
def D8y (A:Adr):Sp:=λi H Q _=>∃(g d:Addr) (x f e u v a b:V),i=[.ref g,a,b]/\H g=some (.ins A.af d [("axis",x),("low",f),("high",e),("inner",u),("outer",v)])/\∀(n h:Addr) (c:Hp),H n=none->A0u H c->c n=some (.ins A.af h [("axis",x),("low",f),("high",e),("inner",a),("outer",b)])->Q (.ref n) c
def C5h (A:Adr):Sp:=λe H Q _=>∃(v:V) (b:Addr) (c:List V) (g:List Gd) (u:Tm) (S:Addr->Prop),e=[v,.ref b]/\Fr S H/\Ob A (A0s S H) v u/\H b=some (.lst c)/\Paired (E1s A (A0s S H)) c g/\∀(d:V) (a:Hp),A0u H a->Ob A (A0s S a) d (gdM g u)->Q d a
def D9p (A:Adr):Sp:=λb H Q _=>∃(v:V) (u:Tm),b=[v]/\Ob A H v u/\TmW u/\∀(q:Addr) (a:Hp),H q=none->A0u H a->a q=some (.lst ((axO u).map V.str))->Q (.ref q) a
def D9t (A:Adr):Sp:=λb H Q _=>∃(v:V) (u:Tm),b=[v]/\Ob A H v u/\TmW u/\dep u<=40/\nod u<=1000/\∀(q:Addr) (a:Hp),H q=none->A0u H a->a q=some (.lst ((C1a u).map V.str))->Q (.ref q) a
abbrev lfO (A:Adr) (d:Addr) (kn l:Addr) (n:Nat):HO:= .ins A.au d [("known",.ref kn),("lines",.ref l),("lifts",.int (n:Int))]
def sN (n:Nat):Str:="s"++(toString (n:Int):Str)
def D3e (A:Adr):Sp:=λb H Q _=>∃(p d a l:Addr) (n:Nat),b=[.ref p]/\H p=some (lfO A d a l n)/\n<=100000/\Q (.str (sN n)) (upd H p (lfO A d a l (n+1)))
theorem B5d (T:Txt K mg t):FO P w base T.iy 1 (D8s t):=by
 refine T.iy.F.ok A4s (by walk_at "ln") λ_ A _ s H _ Q E L h=> ?_
 ·obtain ⟨v,u,rfl,D,J,k⟩:=h;refine i02 _ (@RS.r _ _ _ (rq1 (rq6 1 A4s.nd (@A1r _ _ _ _ A0c)) (rq1 (rq6 2 A4s.nd (pv 0)) (rq1 ⟨@B0a _ _ _ _ _ _ PassesOwn.never (A2s (A0q A1d (by rfl) T.ab Z0d (A0a (pv 2) (A0a (A3k (v:=V.ref t.bp) rfl T.ww rfl) A0c)))) (@A1u _ _ _ _ _ (A2r (A6y Z0k Z0n Z0o A2e (pv 1) (A0a (A1c (pv 2) rfl) A0c))) (@A2y _ _ _ (@A3f _ _ 2 _ _ _ _ A4s.nd rfl (.inl rfl) (A1c (pv 2) rfl) rfl (.inl rfl))))⟩ (rq3 (rq5 (pv 1))))))) ?_;refine ⟨A0v rfl,λl i=> ?_⟩;have C:A0u H (upd H l (.lst [])):=A0e i;refine i02 _ rfl ?_;refine i02 (λm Z d=>∃(a:V) (f:Tm) (b:List Str),Z=[some v,Sro l,some a]/\Ob t H a f/\A0u H d/\d l=some (.lst (b.map V.str))/\b++A3o f=A3o u/\b.length+dep f<=100/\m=dep f) (i10 (dep u) v u [] rfl D C A0b rfl ⟨by show 0+dep u<=100;lia,rfl⟩) ?_;rintro m Z d ⟨a,f,b,rfl,q,c,j,n,B,rfl⟩
  cases id q with
  | @num o dd z eo =>
   have g:A8a K d (.ref o) (.ref t.ae):= .ins (c _ _ eo) T.cy T.a_.ha T.a_.hn T.a_.htk T.a_.hm;have e:b=A3o u:=by rw [<-n];exact (Z0u _).symm
   exact i16 _ rfl _ _ _ _ rfl g (A1e T.iu) false rfl (A2m (i02 _ rfl (k l d i c (by rw [<-e];exact j))))
  | @place o dd x eo =>
   have g:A8a K d (.ref o) (.ref t.am):= .ins (c _ _ eo) T.ft T.bo.ha T.bo.hn T.bo.htk T.bo.hm;have e:b=A3o u:=by rw [<-n];exact (Z0u _).symm
   exact i16 _ rfl _ _ _ _ rfl g (A1e T.jl) false rfl (A2m (i02 _ rfl (k l d i c (by rw [<-e];exact j))))
  | @read o dd ll x ix eo rp =>
   have g:A8a K d (.ref o) (.ref t.aj):= .ins (c _ _ eo) T.fg T.bx.ha T.bx.hn T.bx.htk T.bx.hm;have e:b=A3o u:=by rw [<-n];exact (Z0u _).symm
   exact i16 _ rfl _ _ _ _ rfl g (A1e T.k_) false rfl (A2m (i02 _ rfl (k l d i c (by rw [<-e];exact j))))
  | @pair o dd op v1 v2 ll r eo ob1 ob2 =>
   have e:b=A3o u:=by rw [<-n];exact (Z0u _).symm
   have I:kitOne K (.ref (A6x t op)) (.ref t.bp)=some false:=by cases op with
    | plus=>exact T.m7
    | minus=>exact T.j9
    | times=>exact T.jr
   exact i16 _ rfl _ _ _ _ rfl (C7g T (c _ _ eo)) (A1e I) false rfl (A2m (i02 _ rfl (k l d i c (by rw [<-e];exact j))))
  | @guard o dd x lo hi v1 v2 ll r eo ob1 ob2 =>
   have g:A8a K d (.ref o) (.ref t.af):= .ins (c _ _ eo) T.ay T.bh.ha T.bh.hn T.bh.htk T.bh.hm;have e:b=A3o u:=by rw [<-n];exact (Z0u _).symm
   exact i16 _ rfl _ _ _ _ rfl g (A1e T.jo) false rfl (A2m (i02 _ rfl (k l d i c (by rw [<-e];exact j))))
  | @sum o dd x v2 bb eo ob1 =>
   have g:A8a K d (.ref o) (.ref t.bp):= .ins (c _ _ eo) T.d_ T.cj.ha T.cj.hn T.cj.htk T.cj.hm;have B:b.length+(dep bb+1)<=100:=B;refine i16 _ rfl _ _ _ _ rfl g (A1e T.jn) true rfl (A5u ?_);refine i02 (λZ' p=>∃y,y<dep (.sum x bb)/\∃(a:V) (f:Tm) (b:List Str),Z'=[some v,some (.ref l),some a]/\Ob t H a f/\A0u H p/\p l=some (.lst (b.map V.str))/\b++A3o f=A3o u/\b.length+dep f<=100/\y=dep f) (λZ' p z=>z) ?_;refine i06 _ rfl (.inl (i01 rfl _ (SqL.of j))) (i19 _ rfl o _ dd _ _ rfl (c _ _ eo) T.d_ T.fw (by walk_at "lk") (i0u l _ _ rfl rfl j (A1l (by rw [Z08];lia)) ?_));have G:o≠l:=λz=>by subst z;rw [i] at eo;cases eo
   refine i19 _ rfl o _ dd _ _ rfl (by rw [A0i G];exact c _ _ eo) T.d_ T.ik (by walk_at "lk") ?_;refine i0x (dep bb) (by show dep bb<dep bb+1;lia) v2 bb (b++[x]) rfl ob1 (A0o c i) (i04 (by rw [A0b,Z0s];rfl) ?_ ?_ rfl)
   ·rw [<-n,Z0z];rfl
   ·rw [Z06];show b.length+1+dep bb<=100;lia
theorem A9d (T:Txt K mg t):FO P w base T.fe 4 (E3t t):=by
 have Ga4:= @A3t P w K mg base t T;refine T.fe.F.ok A6i (by walk_at "ln") λ_ A _ s H _ Q E M h=> ?_
 ·obtain ⟨v,u,J,g,S,rfl,fr,pa,k⟩:=h;refine i02 _ (@RS.r _ _ _ (rq1 (rq6 1 A6i.nd (pv 0)) (rq1 ⟨@B0a _ _ _ _ _ _ PassesOwn.never (A2s (A0q A1d (by rfl) T.ab Z0d (A0a (A1c (pv 1) rfl) (A0a (A3k (v:=V.ref t.bp) rfl T.ww rfl) A0c)))) (@A2y _ _ _ (@A3f _ _ 1 _ _ _ _ A6i.nd rfl (.inl rfl) (A1f A1n (pcl Ga4 M T.bv (A0a (pv 1) A0c)) A0d (λ_ _=>rfl)) rfl (.inl rfl)))⟩ (rq3 (rq5 (pv 1)))))) ?_;refine i02 _ rfl ?_;refine i02 (λm Z H2=>∃(c:V) (f:Tm) (e:List Str),Z=[some v,some c]/\A0u H H2/\A3e t (A0s S H2) c (f,e,g)/\inS f=inS u/\e++A3o f=J++A3o u/\m=dep f) (i10 (dep u) v u J rfl (A0u.refl _) pa rfl rfl rfl) ?_;rintro m Z H2 ⟨c,f,e,rfl,n,d,y,p,rfl⟩;obtain ⟨a,W,tv,sl,gl,gs,rfl,X,I,R,U,bg,bs,pg⟩:=id d;have e2:=A0m _ _ X;obtain ⟨o,C,dd,fs,rfl,eo,_,_,_,_,_,O,k1,_⟩:=(C9h T (I.imp A0m)).ex;refine i19 _ rfl a _ W _ _ rfl e2 T.bq T.b_ (by walk_at "lk") ⟨_,(i0g _ _ _ rfl (i0a O (A1e k1) (isS f) rfl ?_))⟩
  cases f with
  | sum x b =>
   refine A5u ?_;refine i02 (λZ' G=>∃L,L<dep (.sum x b)/\∃(c:V) (f:Tm) (e:List Str),Z'=[some v,some c]/\A0u H G/\A3e t (A0s S G) c (f,e,g)/\inS f=inS u/\e++A3o f=J++A3o u/\L=dep f) (λZ' G z=>z) ?_;have D:Fr S H2:=λb hb=>fr b (n.free hb);refine i0l _ rfl (.ref a) (.sum x b) e (i0m g S rfl D d λq xs H3 hq Y N B=> ?_)
   cases B with
   | cons p1 B =>
    cases B
    refine i0y q _ _ _ rfl rfl (SqL.of N) (A3m (j:=0) rfl) ?_;exact i0l (dep b) (by show dep b<dep b+1;lia) _ b (e++[x]) (i0h rfl (n.trans Y) p1 y (by rw [<-p,Z0z];rfl) rfl)
  | num z=>exact A2m (i02 _ rfl (k _ H2 n (by rw [show inS u= .num z from y.symm,<-p];show A3e t (A0s S H2) _ (.num z,e++[],g);rw [Z0u];exact d)))
  | place z=>exact A2m (i02 _ rfl (k _ H2 n (by rw [show inS u= .place z from y.symm,<-p];show A3e t (A0s S H2) _ (.place z,e++[],g);rw [Z0u];exact d)))
  | read z i=>exact A2m (i02 _ rfl (k _ H2 n (by rw [show inS u= .read z i from y.symm,<-p];show A3e t (A0s S H2) _ (.read z i,e++[],g);rw [Z0u];exact d)))
  | pair z l r=>exact A2m (i02 _ rfl (k _ H2 n (by rw [show inS u= .pair z l r from y.symm,<-p];show A3e t (A0s S H2) _ (.pair z l r,e++[],g);rw [Z0u];exact d)))
  | guard z i j l r=>exact A2m (i02 _ rfl (k _ H2 n (by rw [show inS u= .guard z i j l r from y.symm,<-p];show A3e t (A0s S H2) _ (.guard z i j l r,e++[],g);rw [Z0u];exact d)))
theorem B3h (T:Txt K mg t):FP P w mg base T.g_ 3 (D2b t .plus):=by
 have Ga5:= @A6e P w K mg base t T;refine T.g_.F.ok B4k (by walk_at "ln") λ_ A _ s H _ Q E g h=> ?_
 ·obtain ⟨v,a,b,rfl,k⟩:=h;refine i02 _ (@RS.r _ _ _ (rq3 (rq5 (pmk T.yM Ga5 g T.yD T.cn.b (A0a (pv 1) (A0a (pv 2) A0c)))))) ?_;exact i0e _ rfl _ rfl λx d e c f=>(i14 x _ d _ _ rfl A0b (A8o T .plus) (B9z T .plus) (B9o T .plus) ⟨rfl,k x d _ e (A2f e c) A0b⟩)
theorem B2f (T:Txt K mg t):FP P w mg base T.g9 3 (D2b t .minus):=by
 have Ga5:= @A6e P w K mg base t T;refine T.g9.F.ok B2g (by walk_at "ln") λ_ A _ s H _ Q E g h=> ?_
 ·obtain ⟨v,a,b,rfl,k⟩:=h;refine i02 _ (@RS.r _ _ _ (rq3 (rq5 (pmk T.x_ Ga5 g T.xr T.cn.b (A0a (pv 1) (A0a (pv 2) A0c)))))) ?_;exact i0e _ rfl _ rfl λx d e c f=>(i14 x _ d _ _ rfl A0b (A8o T .minus) (B9z T .minus) (B9o T .minus) ⟨rfl,k x d _ e (A2f e c) A0b⟩)
theorem B1z (T:Txt K mg t):FP P w mg base T.gc 3 (D2b t .times):=by
 have Ga5:= @A6e P w K mg base t T;refine T.gc.F.ok B2a (by walk_at "ln") λ_ A _ s H _ Q E g h=> ?_
 ·obtain ⟨v,a,b,rfl,k⟩:=h;refine i02 _ (@RS.r _ _ _ (rq3 (rq5 (pmk T.yp Ga5 g T.yI T.cn.b (A0a (pv 1) (A0a (pv 2) A0c)))))) ?_;exact i0e _ rfl _ rfl λx d e c f=>(i14 x _ d _ _ rfl A0b (A8o T .times) (B9z T .times) (B9o T .times) ⟨rfl,k x d _ e (A2f e c) A0b⟩)
theorem moOk (T:Txt K mg t) (o:Op3):∃f fd,C2o K (A6x t o) "made_of" f/\A3i P w K mg base CX0 3 f fd ["self","left","right"] (D2b t o)/\A9b K fd ["self","left","right"] []:=by cases o with
 | plus=>exact i0f _ _ T.u9 (B3h T) T.g_.b
 | minus=>exact i0f _ _ T.se (B2f T) T.g9.b
 | times=>exact i0f _ _ T.rj (B1z T) T.gc.b
theorem A5e (T:Txt K mg t):FP P w mg base T.cv 3 (D8y t):=by
 have Ga6:= @B0k P w K mg base t T;refine T.cv.F.ok B1y (by walk_at "ln") λ_ A _ s H _ Q E l h=> ?_
 ·obtain ⟨g,d,x,o,m,u,v,a,b,rfl,e,k⟩:=h;refine i02 _ (@RS.r _ _ _ (rq3 (rq5 (pmk T.y8 Ga6 l T.m_ T.gf.b (A0a (A1c (pv 0) rfl) (A0a (A1c (pv 0) rfl) (A0a (A1c (pv 0) rfl) (A0a (pv 1) (A0a (pv 2) A0c))))))))) ?_;exact i19 _ rfl g _ d _ _ rfl e T.ay T.ff (by walk_at "lk") (i19 _ rfl g _ d _ _ rfl e T.ay T.jf (by walk_at "lk") (i19 _ rfl g _ d _ _ rfl e T.ay T.j7 (by walk_at "lk") (i0e _ rfl _ rfl λn f i c j=>(i08 n f _ ⟨_,(i0r _ _ _ rfl A0b rfl (k n f _ i (A2f i c) A0b))⟩))))
theorem C5k (T:Txt K mg t):FO P w base T.rg 5 (C5h t):=by
 have Ga7:= @A9e P w K mg base t T;refine T.rg.F.ok A5j (by walk_at "ln") λ_ A _ s H _ Q E N h=> ?_
 ·obtain ⟨v,Y,O,g,u,S,rfl,fr,ob,D,pg,k⟩:=h;have lg:=Paired.length pg;refine i02 _ (@RS.r _ _ _ (rq1 (rq6 2 A5j.nd (pv 0)) (rq1 (rq7 (C6w rfl T.py (A0a (pv 1) A0c)) (A3q (n:=2) rfl (A0r (A0k (i:=3) A5j.nd rfl (.inl rfl)) (A0r (A0k (i:=4) A5j.nd rfl (.inl rfl)) A2p))) (rq3 (rq4 (A2s (pv 4)) (rq3 (rq6 2 A5j.nd (B6d (pv 3) (A0a (pv 2) (A0a (pmk T.sn Ga7 N T.rc T.di.b (A0a A0d A0c)) A0c))))) (rq3 (rq6 2 A5j.nd (B6d (pv 3) (A0a (pmk T.sn Ga7 N T.rc T.di.b (A0a A0d A0c)) (A0a (pv 2) A0c)))))))) (rq3 (rq5 (pv 2)))))) ?_;refine i0w _ rfl _ rfl Y _ rfl (SqL.of D) ?_;refine C0m (K:=K) (a:=Y) (xs:=O) (λi Z G=>∃(U R:Option V) (m:V),Z=[some v,Sro Y,some m,U,R]/\A0u H G/\Ob t (A0s S G) m (gdM (g.drop (g.length-i)) u)) (i0n none none v rfl (A0u.refl _) (by rw [Nat.sub_zero,Z2i];exact ob)) (by rintro i Z G ⟨_,_,_,_,sg,_⟩;exact SqL.of (sg _ _ D)) ?_ ?_
  ·rintro i y Z G hi hy ⟨U,R,m,rfl,sg,f⟩;obtain ⟨e,he,tp,L,M,u1,w1,rfl,X,a0⟩:=B3r pg hy;have J:=sg _ _ (A0m _ _ X);have d:=sg _ _ (A0m _ _ a0)
   have ed:g.drop (g.length-(i+1))=e::g.drop (g.length-i):=by
    have a2:=(Z03.mp he);have e1:O.length-1-i=g.length-(i+1):=by lia
    rw [e1] at he;have h1:=(Z03.mp he);rw [Z1u h1.1,h1.2];congr 2
    lia
   have eg:gdM (g.drop (g.length-(i+1))) u=gd1 e (gdM (g.drop (g.length-i)) u):=by rw [ed];rfl
   rw [eg];generalize gdM (g.drop (g.length-i)) u=tm at f;refine i1a tp _ rfl (SqT.of J) rfl _ _ rfl _ _ rfl rfl ?_;obtain ⟨x,lo,I,bb⟩:=e;refine i0e _ rfl bb rfl ?_;have l:∀{G':Hp},A0u G G'->Fr S G':=λs b hb=>fr b (sg.free (s.free hb))
   cases bb with
   | true =>
    refine A5u ?_;refine i0l _ rfl L _ M (i1d _ _ _ _ _ _ rfl d T.ay T.e8 (by walk_at "lk") (A5e T) (N.mono (by lia)) (i05 T.cv.b _ rfl λn c C z a1=>(i10 n _ c _ rfl A0b T.cy T.cz rfl ?_)));have j:A0u G (upd (upd (upd G c (.own n)) n (.ins t.ae c [])) n (.ins t.ae c [("number",.int 0)])):=A2f C z;have B:upd (upd (upd G c (.own n)) n (.ins t.ae c [])) n (.ins t.ae c [("number",.int 0)]) n=some (.ins t.ae c [("number",.int 0)]):=A0b;generalize upd (upd (upd G c (.own n)) n (.ins t.ae c [])) n (.ins t.ae c [("number",.int 0)])=G1 at j B;refine i11 L M (.str x) (.int lo) (.int I) u1 w1 m (.ref n) (i00 rfl (j _ _ d) λq dq G2 W p o=> ?_);exact i0n _ _ (.ref q) rfl (sg.trans (j.trans p)) (.guard (A0h (l j q W) o) (f.imp (A0g (j.trans p))) (.num (A0h (l (A0u.refl _) n C) (p _ _ B))))
   | false =>
    refine A2m ?_;refine i0l _ rfl L _ M (i1d _ _ _ _ _ _ rfl d T.ay T.e8 (by walk_at "lk") (A5e T) (N.mono (by lia)) ⟨T.cv.b,λn c C z a1=>(i0y n _ c _ rfl A0b T.cy T.cz (i05 rfl _ rfl ?_))⟩);have j:A0u G (upd (upd (upd G c (.own n)) n (.ins t.ae c [])) n (.ins t.ae c [("number",.int 0)])):=A2f C z;have B:upd (upd (upd G c (.own n)) n (.ins t.ae c [])) n (.ins t.ae c [("number",.int 0)]) n=some (.ins t.ae c [("number",.int 0)]):=A0b;generalize upd (upd (upd G c (.own n)) n (.ins t.ae c [])) n (.ins t.ae c [("number",.int 0)])=G1 at j B;refine i11 L M (.str x) (.int lo) (.int I) u1 w1 (.ref n) m (i00 rfl (j _ _ d) λq dq G2 W p o=> ?_);exact i0n _ _ (.ref q) rfl (sg.trans (j.trans p)) (.guard (A0h (l j q W) o) (.num (A0h (l (A0u.refl _) n C) (p _ _ B))) (f.imp (A0g (j.trans p))))
  ·rintro Z G ⟨U,R,m,rfl,sg,f⟩;have e0:g.drop (g.length-O.length)=g:=by rw [lg,Nat.sub_self];rfl
   rw [e0] at f;exact i02 _ rfl (k m G sg f)
theorem A9c (T:Txt K mg t):FP P w mg base T.df 1 (D3e t):=by
 refine T.df.F.ok A5g (by walk_at "ln") λ_ A _ s H _ Q E j h=> ?_
 ·obtain ⟨p,d,b,l,n,rfl,e,o,k⟩:=h;refine i02 _ (@RS.r _ _ _ (rq1 (rq6 1 A5g.nd (A1c (pv 0) rfl)) (rq1 ⟨A2d (pv 0) (A0j A2h (pv 1) A0d) rfl⟩ (rq3 (rq5 (D5j (E1k (E0l (pv 1) E1t)))))))) ?_;refine i19 _ rfl p _ d _ _ rfl e T.bt T.ga (by walk_at "lk") ?_;have a:Sm (n:Int):=by unfold Sm;lia
  have i:=D0m a;have g:(Str.empty++("s":Str)).length<=1:=by decide +kernel
  have m:(Str.empty++("s":Str)++(toString (n:Int):Str)).length<=60:=by rw [Str.length_append];lia
  have f:A4n "lifts" (V.int ((n:Int)+1)) ([("known",.ref b),("lines",.ref l),("lifts",.int (n:Int))]:List (Str×V))=([("known",.ref b),("lines",.ref l),("lifts",.int ((n+1:Nat):Int))]:List (Str×V)):=by rw [A1a (by decide +kernel),A1a (by decide +kernel),A4n,Z12 rfl];rfl
  refine i0o _ rfl _ _ rfl rfl (i15 _ rfl p _ d _ rfl e T.bt T.ga (by show 3<1000;decide) ?_);rw [f];refine i05 (A2a (by lia)) _ rfl (i0c _ (.inr (i06 _ rfl (E1i a) rfl)) (A2a (by lia)) (A2a (by lia)) ?_);have c:Str.empty++("s":Str)++(toString (n:Int):Str)=sN n:=by rw [Str.empty_append];rfl
  rw [c];exact k
theorem B8n:∀(u:Tm) (s:List Str) (g:List Gd),TmW u->∀e∈prT u s g,TmW e.1
 | .num _,_,_,h=>λe m=>by rw [Z0w.mp m];exact h
 | .place _,_,_,h=>λe m=>by rw [Z0w.mp m];exact h
 | .read _ _,_,_,h=>λe m=>by rw [Z0w.mp m];exact h
 | .sum x b,s,g,h=>λe m=>by
  rcases Z0e.mp m with rfl | m
  ·exact h
  ·exact B8n b _ _ h.2 e m
 | .pair k l r,s,g,h=>λe m=>by
  rcases Z0e.mp m with rfl | m
  ·exact h
  ·rcases Z07.mp m with m | m
   ·exact B8n l _ _ h.1 e m
   ·exact B8n r _ _ h.2 e m
 | .guard x lo hi l r,s,g,h=>λe m=>by
  rcases Z0e.mp m with rfl | m
  ·exact h
  ·rcases Z07.mp m with m | m
   ·exact B8n l _ _ h.2.2.2.1 e m
   ·exact B8n r _ _ h.2.2.2.2 e m
theorem D0t (h:TmW u):(axO u).length<=12:=by
 cases u with
 | read a ix =>
  show ((ix.filter _).map _).length<=12;rw [Z08];have d:=List.length_filter_le (λe:Str×Int=>decide (¬e.1=("":Str))) ix;have c:=h.2.1
  lia
 | num z=>exact Z1e _
 | place z=>show 1<=12;lia
 | sum x b=>exact Z1e _
 | pair k l r=>exact Z1e _
 | guard x lo hi l r=>show 1<=12;lia
theorem C1t:∀(es:List PT),(∀e∈es,TmW e.1)->(es.flatMap λe=>axO e.1).length<=12*es.length
 | [],_=>Z1e _
 | e::es,h=>by
  have b:=D0t (h e (by simp));have c:=C1t es λe a=>h e (by simp [a]);rw [List.flatMap_cons,Z06,Z0y]
  lia
theorem C5o (T:Txt K mg t):FO P w base T.rh 1 (D9p t):=by
 refine T.rh.F.ok C5c (by walk_at "ln") λ_ A _ s H _ Q E hr h=> ?_
 ·obtain ⟨v,u,rfl,J,hw,k⟩:=h;refine e0d ((C9h T J).ex) ?_;rintro o C dd fs rfl eo c1 Y ⟨c3,W,O,ty,k1,k2,k3,k4,I⟩;refine i02 _ (@RS.r _ _ _ (rq1 (rq4 (A2s (A0q B5k (by rfl) T.ab Z0d (A0a (pv 0) (A0a (A1z (A0a (A3k (v:=V.ref t.am) rfl T.wy rfl) (A0a (A3k (v:=V.ref t.af) rfl T.m_ rfl) A0c))) A0c)))) (rq3 (rq5 (@A1r _ _ _ _ (A0a (A1c (pv 0) rfl) A0c)))) ⟨A0x⟩) (rq1 (rq4 (A2s (A0q A1d (by rfl) T.ab Z0d (A0a (pv 0) (A0a (A3k (v:=V.ref t.aj) rfl T.wx rfl) A0c)))) (rq3 (rq5 (B9n (N':=["axis","shift"]) (ix:=(List.replicate 2 none)) (g:=D8m K 2 (B2e (A7n 0) (B2e (A7n 1) D8i))) (tc:=C0k (tOp rNe (C6p 0) (tC (.str "")))) rfl (A3a rfl (by decide +kernel) (by decide +kernel)) (A2z rfl) (A2c (A1c (pv 0) rfl)) (λ_ _ _ _=>(A3q (n:=2) rfl (A0r (A0k (i:=0) C0c rfl (.inl rfl)) (A0r (A0k (i:=1) C0c rfl (.inl rfl)) A2p)))) (λ_ _ _ _=>(A0p D4q (pv 0) A1w (A1b _))) (λ_ _ _ _=>(pv 0))))) ⟨A0x⟩) (rq3 (rq5 (@A1r _ _ _ _ A0c)))))) ?_;refine i06 _ rfl (A0v rfl) λtp L=> ?_;obtain ⟨Z,c,h1,M⟩:=nH (o:= .tup [.ref t.am,.ref t.af]) L
  try rw [M]
  refine ⟨o,(i1d C dd fs tp _ _ rfl (c _ _ eo) c1 Y c3 W O (i0a h1 (E4q k4 k3) _ rfl ?_))⟩;have m:A8a K Z (.ref o) (.ref C):= .ins (c _ _ eo) c1 Y c3 W O
  cases u with
  | num z=>exact A2m (i16 _ rfl _ _ _ _ rfl m (A1e I) false rfl (A2m ⟨A0v rfl,λq f=>k q _ (c.free f) (c.trans (A0e f)) A0b⟩))
  | sum x b=>exact A2m (i16 _ rfl _ _ _ _ rfl m (A1e I) false rfl (A2m ⟨A0v rfl,λq f=>k q _ (c.free f) (c.trans (A0e f)) A0b⟩))
  | pair x l r=>exact A2m (i16 _ rfl _ _ _ _ rfl m (A1e I) false rfl (A2m ⟨A0v rfl,λq f=>k q _ (c.free f) (c.trans (A0e f)) A0b⟩))
  | place x =>
   cases J with
   | @place a dx _ e=>exact A5u (i19 _ rfl o _ dx _ _ rfl (c _ _ e) T.ft T.j0 (by walk_at "lk") ⟨A0v rfl,λq f=>k q _ (c.free f) (c.trans (A0e f)) A0b⟩)
  | guard x lo hi l r =>
   cases J with
   | @guard a dx _ _ _ _ _ _ _ e _ _=>exact A5u (i19 _ rfl o _ dx _ _ rfl (c _ _ e) T.ay T.ff (by walk_at "lk") ⟨A0v rfl,λq f=>k q _ (c.free f) (c.trans (A0e f)) A0b⟩)
  | read z ix =>
   cases J with
   | @read a dx l _ _ e rp =>
    obtain ⟨_,es,q,el,rs⟩:=A5v (show Rep H (.ref l) (.list (ix.map B1o)) from rp);cases q;have hl:=rs.len;rw [Z08] at hl;have a0:=hw.2.1;refine A2m (i16 _ rfl _ _ _ _ rfl m (A1e I) true rfl (A5u ?_));refine i19 _ rfl o _ dx _ _ rfl (c _ _ e) T.fg T.fz (by walk_at "lk") (i06 l rfl ⟨_,SqL.of (c _ _ el)⟩ λD N=> ?_);refine A9u (K:=K) (a:=l) (D:=D) (xs:=es) (λi G B=>A0u Z B/\B D=some (.lst G)/\G=(axO (.read z (ix.take i))).map V.str/\G.length<=i) (i04 (A0e N) A0b rfl (Z09 _)) (λi G B p=>SqL.of (p.1 _ _ (c _ _ el))) ?_ ?_
    ·rintro i x G B U ⟨p,j,ey,ly⟩;have hi:i<ix.length:=by have:=(Z03.mp U).1;lia
     obtain ⟨d,R,rx⟩:=rs.get2 U;have y:ix[i]? =some ix[i]:=Z0b hi;rw [Z1z,y] at R;cases R;obtain ⟨q,rfl,S⟩:=D9s rx;generalize ix[i]=e0 at y S
     have X:axO (.read z (ix.take (i+1)))=axO (.read z (ix.take i))++(if e0.1=("":Str) then [] else [e0.1]):=by
      show ((ix.take (i+1)).filter _).map _=((ix.take i).filter _).map _++_;rw [Z14,y,Z2f,List.filter_append,Z0s,List.filter_cons,List.filter_nil];by_cases z0:e0.1=("":Str)
      ·rw [Z12 z0,Z1j (λh=>h z0)];rfl
      ·rw [Z0t z0,Z20 z0];rfl
     refine i1a q _ rfl (SqT.of (p _ _ (c _ _ S))) rfl _ _ rfl _ _ rfl rfl (i05 True.intro _ rfl ?_);refine i05 rfl _ rfl ?_;by_cases z0:e0.1=("":Str)
     ·rw [z0];refine A2m (i04 p j ?_ (by lia));rw [ey,X,Z12 z0,Z0u]
     ·rw [Z1j (λh=>z0 (V.str.inj h))];refine A5u (i02 _ rfl (i0h j (A1l (by lia)) (A0o p N) A0b ?_ (by rw [Z06];simp only [Z0y,Z2g];lia)));rw [ey,X,Z0t z0,Z0s];rfl
    ·rintro G B ⟨p,j,rfl,_⟩;rw [hl,Z18] at j;exact k D B (c.free N) (c.trans p) j
theorem C5v (T:Txt K mg t):FO P w base T.si 47 (D9t t):=by
 have Ga8:= @C1q P w K mg base t T;have Ga9:= @C5o P w K mg base t T;refine T.si.F.ok B1g (by walk_at "ln") λ_ A _ s H _ Q E U h=> ?_
 ·obtain ⟨v,u,rfl,ob,C,W,hn,k⟩:=h;refine i02 _ (@RS.r _ _ _ (rq1 (rq6 1 B1g.nd (@A1r _ _ _ _ A0c)) (rq1 (rq7 (A2c (pcl Ga8 U T.pw (A0a (pv 0) A0c))) (A0k (i:=2) B1g.nd rfl (.inl rfl)) (rq3 ⟨A2r (A6y Z0k PySem.F.slot_list_extend PySem.F.type_list_extend B3e (pv 1) (A0a (pcl Ga9 U T.rh (A0a (A1c (pv 2) rfl) A0c)) A0c))⟩)) (rq3 (rq5 (pv 1)))))) ?_;refine ⟨A0v rfl,λl j=> ?_⟩;have N:A0u H (upd H l (.lst [])):=A0e j;refine i0l _ rfl v u (λb=>b≠l) (i0h rfl (λb M z=>by subst z;rw [A0b] at M;cases M) (ob.imp (λb o z=>A0h (S:=λb=>b≠l) (A0z z j) (N _ _ z))) W hn λq xs H2 L R O n=>(i06 q rfl ⟨_,SqL.of O⟩ ?_));have ql:q≠l:=λz=>by subst z;rw [A0b] at L;cases L
  have lp:=Paired.length n;have D:=C1t (prT u [] []) (B8n u [] [] C);rw [A5s] at lp;rw [A5s] at D;have x:=R _ _ (A0b (H:=H) (a:=l) (o:= .lst []))
  refine A2l (K:=K) (a:=q) (xs:=xs) (λi Z d=>∃(B:Option V),Z=[some v,Sro l,B]/\A0u H d/\A0u (A0s (λb=>b≠l) H2) d/\d l=some (.lst ((((prT u [] []).take i).flatMap λe=>axO e.1).map V.str)))
   (i0c none rfl (N.trans R) A0m x) (by rintro i Z d _ ⟨_,_,_,f,_⟩;exact SqL.of (f _ _ (A0h ql O))) ?_ ?_
  ·rintro i y Z d hy ⟨B,rfl,f,g,c⟩;refine B2x ?_;intro D';obtain ⟨e,m,pe⟩:=B3r n hy;have hm:=Z13 m;have J:=B8n u [] [] C e hm;obtain ⟨a,dx,tv,sl,gl,gs,rfl,Y,p,_⟩:=pe;refine i06 _ rfl (.inl (i01 rfl _ (SqL.of c))) (i19 _ rfl a _ dx _ _ rfl (g _ _ Y) T.bq T.b_ (by walk_at "lk") (i0m tv e.1 rfl (p.imp g) J λX H4 a0 G h4=> ?_));have lt:=C1t ((prT u [] []).take i) λe m=>B8n u [] [] C e (Z2p m);rw [Z0x,A5s] at lt;have la:=D0t J;refine i10 l X _ _ rfl rfl (G _ _ c) h4 (A2a (by rw [Z08,Z08];lia)) ?_;refine i0c _ rfl (A0o (f.trans G) j) (λb o z=> ?_) ?_
   ·rw [A0i (A0l z).1];exact G _ _ (g _ _ z)
   ·rw [A0b,Z14,m,Z2f,List.flatMap_append,Z0s,List.flatMap_cons,List.flatMap_nil,Z0u]
  ·rintro Z d ⟨B,rfl,f,g,c⟩;have I:xs.length=(prT u [] []).length:=Paired.length n;rw [I,Z18] at c;exact i02 _ rfl (k l d j f c)
abbrev Ln:=Str×List Str×List Str×Tm
abbrev LS:=Nat×List Ln
def B3c (kn pend:List Str) (b:Tm):List Str:=kn.filter λx=>decide (x∈C1a b)&&decide (x∉pend)
def lfR (kn pend:List Str) (n:Nat) (b:Tm):Tm:= .read (sN n) ((B3c kn pend b).map λx=>(x,(0:Int)))
def lfL (kn pend:List Str) (n:Nat) (b:Tm):Ln:=(sN n,B3c kn pend b,pend,b)
def fin (kn pend:List Str) (g:List Gd) (r:Tm×LS):Tm×LS:=match pend with
 | []=>r
 | x::s=>(lfR kn (x::s) r.2.1 (gdM g r.1),r.2.1+1,r.2.2++[lfL kn (x::s) r.2.1 (gdM g r.1)])
def wsP (kn:List Str):Tm->List Str->List Gd->LS->Tm×LS
 | .sum x b,pend,g,z=>wsP kn b (pend++[x]) g z
 | .pair k l r,pend,g,z=>fin kn pend g (.pair k (wsP kn l [] g z).1 (wsP kn r [] g (wsP kn l [] g z).2).1,(wsP kn r [] g (wsP kn l [] g z).2).2)
 | .guard x lo hi l r,pend,g,z=>fin kn pend g (.guard x lo hi (wsP kn l [] (g++[(x,lo,hi,true)]) z).1 (wsP kn r [] (g++[(x,lo,hi,false)]) (wsP kn l [] (g++[(x,lo,hi,true)]) z).2).1,(wsP kn r [] (g++[(x,lo,hi,false)]) (wsP kn l [] (g++[(x,lo,hi,true)]) z).2).2)
 | .num n,pend,g,z=>fin kn pend g (.num n,z)
 | .place x,pend,g,z=>fin kn pend g (.place x,z)
 | .read a ix,pend,g,z=>fin kn pend g (.read a ix,z)
theorem D4m {kn:List Str}:∀(u:Tm) (pend:List Str) (g:List Gd) (z:LS),wsP kn u pend g z=fin kn (pend++A3o u) g (wsP kn (inS u) [] g z)
 | .num _,pend,_,_=>by show _=fin kn (pend++[]) _ _;rw [Z0u];rfl
 | .place _,pend,_,_=>by show _=fin kn (pend++[]) _ _;rw [Z0u];rfl
 | .read _ _,pend,_,_=>by show _=fin kn (pend++[]) _ _;rw [Z0u];rfl
 | .pair _ _ _,pend,_,_=>by show _=fin kn (pend++[]) _ _;rw [Z0u];rfl
 | .guard _ _ _ _ _,pend,_,_=>by show _=fin kn (pend++[]) _ _;rw [Z0u];rfl
 | .sum x b,pend,g,z=>by
  show wsP kn b (pend++[x]) g z=fin kn (pend++x::A3o b) g (wsP kn (inS b) [] g z);rw [D4m b,Z0z];rfl
def GdW (g:List Gd):Prop:=∀e∈g,B4q e.1/\Sm e.2.1/\Sm e.2.2.1
theorem GdW.add (h:GdW g) {b:Bool} (c:B4q x) (h1:Sm lo) (h2:Sm hi):GdW (g++[(x,lo,hi,b)]):=λe a=>by
 rcases Z07.mp a with a | a
 ·exact h e a
 ·rw [Z0w.mp a];exact i00 c h1 h2
theorem sm0:Sm 0:=by unfold Sm;decide
theorem C7l:∀(g:List Gd) (u:Tm),GdW g->TmW u->TmW (gdM g u)/\dep (gdM g u)<=g.length+dep u/\nod (gdM g u)=2*g.length+nod u
 | [],u,_,hu=>(i00 hu (by show dep u<=0+dep u;lia) (by show nod u=2*0+nod u;lia))
 | e::g,u,hg,hu=>by
  obtain ⟨a,l,j⟩:=C7l g u (λe n=>hg e (by simp [n])) hu;obtain ⟨f,c,d⟩:=hg e (by simp);have p:=A6l u;obtain ⟨x,h,i,b⟩:=e;have k:gdM ((x,h,i,b)::g) u=gd1 (x,h,i,b) (gdM g u):=rfl;rw [k];have o:=A6l (gdM g u);generalize gdM g u=m at a l j o
  cases b with
  | true=>exact i00 (i09 f c d a sm0) (by simp only [gd1,dep,Z0y];lia) (by simp only [gd1,nod,Z0y];lia)
  | false=>exact i00 (i09 f c d sm0 a) (by simp only [gd1,dep,Z0y];lia) (by simp only [gd1,nod,Z0y];lia)
def C9b (e:Ln):Prop:=e.1.length<=60/\e.2.1.length<=12/\(∀x∈e.2.1,B4q x)/\e.2.2.1.length<=100/\TmW e.2.2.2/\dep e.2.2.2<=40/\nod e.2.2.2<=1000
def D1a (kn:List Str):Prop:=kn.length<=12/\∀x∈kn,B4q x
structure WsR (z:LS) (u:Tm) (c:Nat) (r:Tm×LS):Prop where
 w:TmW r.1
 d:dep r.1<=dep u
 n:nod r.1<=nod u
 k:r.2.1<=z.1+nod u+c
 l:r.2.2.length<=z.2.length+nod u+c
 a:∀e∈r.2.2,C9b e
theorem C1i {kn:List Str} (h:D1a kn):(B3c kn pend b).length<=12/\∀x∈B3c kn pend b,B4q x:=⟨Z1n (List.length_filter_le _ _) h.1,λx a=>h.2 x (List.mem_filter.mp a).1⟩
theorem D3v (h:n<=200000):(sN n).length<=60:=by
 have b:Sm (n:Int):=by unfold Sm;lia
 have c:=D0m b;have a:(("s":Str)).length=1:=by decide +kernel
 unfold sN;rw [Str.length_append,a]
 lia
theorem E0p {kn:List Str} (h:D1a kn) (f:n<=200000):TmW (lfR kn pend n b):=by
 obtain ⟨a,d⟩:=C1i (pend:=pend) (b:=b) h;refine i00 (D3v f) (by rw [Z08];exact a) λe g=> ?_;obtain ⟨x,c,rfl⟩:=Z2c.mp g;exact ⟨d x c,sm0⟩
theorem B8e {kn:List Str} (j:D1a kn) (h:WsR z u 0 r) (p:GdW g) (C:g.length+dep u<=40) (t:pend.length<=100) (H:nod u<=500) (F:z.1+nod u<=200000) (c:Nat) (f:pend=[]\/c=1):WsR z u c (fin kn pend g r):=by
 cases pend with
 | nil=>exact ⟨h.w,h.d,h.n,by have:=h.k;show r.2.1<=_;lia,by have:=h.l;show r.2.2.length<=_;lia,h.a⟩
 | cons x s =>
  have f:c=1:=by rcases f with f | f;cases f;exact f
  subst f;have A:=h.k;have I:=h.l;have m:=h.d;have v:=h.n;have G:=A6l u;have D:1<=nod u:=by cases u <;> simp only [nod] <;> lia
  obtain ⟨o,B,J⟩:=C7l g r.1 p h.w;obtain ⟨q,y⟩:=C1i (pend:=x::s) (b:=gdM g r.1) j;refine ⟨E0p j (by lia),by show dep (.read _ _)<=_;simp only [dep];lia,by show nod (.read _ _)<=_;simp only [nod];lia,by show r.2.1+1<=_;lia,by show (r.2.2++[_]).length<=_;rw [Z06];simp only [Z0y,Z2g];lia,λe i=> ?_⟩;rcases Z07.mp i with i | i
  ·exact h.a e i
  ·rw [Z0w.mp i];exact ⟨D3v (by lia),(i0h q y t o (by show dep (gdM g r.1)<=40;lia) (by show nod (gdM g r.1)<=1000;lia))⟩
theorem C4u {kn:List Str} (f:D1a kn):∀(u:Tm) (pend:List Str) (g:List Gd) (z:LS),TmW u->GdW g->g.length+dep u<=40->pend.length+dep u<=100->nod u<=500->z.1+nod u<=200000->(∀e∈z.2,C9b e)->∀(c:Nat),(pend=[]\/c=1)->WsR z u c (wsP kn u pend g z)
 | .num n,pend,g,z,hw,hg,hd,hp,hn,hz,hl,c,hc=>B8e f (z:=z) (u:= .num n) (r:=(.num n,z)) ⟨hw,Z09 _,Z09 _,by show z.1<=_;lia,by show z.2.length<=_;lia,hl⟩ hg hd (by lia) hn hz c hc
 | .place x,pend,g,z,hw,hg,hd,hp,hn,hz,hl,c,hc=>B8e f (z:=z) (u:= .place x) (r:=(.place x,z)) ⟨hw,Z09 _,Z09 _,by show z.1<=_;lia,by show z.2.length<=_;lia,hl⟩ hg hd (by lia) hn hz c hc
 | .read a ix,pend,g,z,hw,hg,hd,hp,hn,hz,hl,c,hc=>B8e f (z:=z) (u:= .read a ix) (r:=(.read a ix,z)) ⟨hw,Z09 _,Z09 _,by show z.1<=_;lia,by show z.2.length<=_;lia,hl⟩ hg hd (by lia) hn hz c hc
 | .sum x b,pend,g,z,hw,hg,hd,hp,hn,hz,hl,c,hc=>by
  simp only [dep,nod] at hd hp hn hz;have h:=C4u f b (pend++[x]) g z hw.2 hg (by lia) (by rw [Z06];simp only [Z0y,Z2g];lia) (by lia) (by lia) hl 1 (.inr rfl);have J:=h.d;have M:=h.n;have L:=h.k;have K:=h.l;exact ⟨h.w,by show dep (wsP kn b (pend++[x]) g z).1<=_;simp only [dep];lia,by show nod (wsP kn b (pend++[x]) g z).1<=_;simp only [nod];lia,by show (wsP kn b (pend++[x]) g z).2.1<=_;simp only [nod];lia,by show (wsP kn b (pend++[x]) g z).2.2.length<=_;simp only [nod];lia,h.a⟩
 | .pair k l r,pend,g,z,hw,hg,hd,hp,hn,hz,hl,c,hc=>by
  have o:=hd;have j:=hp;have i:=hn;have m:=hz;simp only [dep,nod] at o j i m;have a:=C4u f l [] g z hw.1 hg (by lia) (by show 0+dep l<=100;lia) (by lia) (by lia) hl 0 (.inl rfl);have C:=a.k;have b:=C4u f r [] g (wsP kn l [] g z).2 hw.2 hg (by lia) (by show 0+dep r<=100;lia) (by lia) (by lia) a.a 0 (.inl rfl);have G:=a.d;have H:=a.n;have y:=a.l;have F:=b.d;have D:=b.n;have I:=b.k;have B:=b.l;refine B8e f (z:=z) (u:= .pair k l r) (r:=(.pair k (wsP kn l [] g z).1 (wsP kn r [] g (wsP kn l [] g z).2).1,(wsP kn r [] g (wsP kn l [] g z).2).2)) ⟨⟨a.w,b.w⟩,?_,?_,?_,?_,b.a⟩ hg hd (by lia) hn hz c hc
  ·simp only [dep];lia
  ·simp only [nod];lia
  ·simp only [nod];lia
  ·simp only [nod];lia
 | .guard x lo hi l r,pend,g,z,hw,hg,hd,hp,hn,hz,hl,c,hc=>by
  have o:=hd;have j:=hp;have i:=hn;have m:=hz;simp only [dep,nod] at o j i m;obtain ⟨s,q,p,v,A⟩:=hw;have t:∀b:Bool,(g++[(x,lo,hi,b)]).length=g.length+1:=λb=>by simp
  have a:=C4u f l [] (g++[(x,lo,hi,true)]) z v (hg.add s q p) (by rw [t];lia) (by show 0+dep l<=100;lia) (by lia) (by lia) hl 0 (.inl rfl);have C:=a.k;have b:=C4u f r [] (g++[(x,lo,hi,false)]) (wsP kn l [] (g++[(x,lo,hi,true)]) z).2 A (hg.add s q p) (by rw [t];lia) (by show 0+dep r<=100;lia) (by lia) (by lia) a.a 0 (.inl rfl);have G:=a.d;have H:=a.n;have y:=a.l;have F:=b.d;have D:=b.n;have I:=b.k;have B:=b.l;refine B8e f (z:=z) (u:= .guard x lo hi l r) (r:=(.guard x lo hi (wsP kn l [] (g++[(x,lo,hi,true)]) z).1 (wsP kn r [] (g++[(x,lo,hi,false)]) (wsP kn l [] (g++[(x,lo,hi,true)]) z).2).1,(wsP kn r [] (g++[(x,lo,hi,false)]) (wsP kn l [] (g++[(x,lo,hi,true)]) z).2).2)) ⟨(i09 s q p a.w b.w),?_,?_,?_,?_,b.a⟩ hg hd (by lia) hn hz c hc
  ·simp only [dep];lia
  ·simp only [nod];lia
  ·simp only [nod];lia
  ·simp only [nod];lia
abbrev S2 (p l:Addr):Addr->Prop:=λb=>b≠p/\b≠l
def K2 (p l:Addr) (H H':Hp):Prop:=∀b o,S2 p l b->H b=some o->H' b=some o
theorem K2.of (s:A0u H H'):K2 p l H H':=λb o _ e=>s _ _ e
theorem K2.trans (a:K2 p l H H') (b:K2 p l H' H2):K2 p l H H2:=λc o d e=>b c o d (a c o d e)
theorem K2.atp:K2 p l H (upd H p o):=λb u a e=>by rw [A0i a.1];exact e
theorem K2.atl:K2 p l H (upd H l o):=λb u a e=>by rw [A0i a.2];exact e
theorem K2.rs (k:K2 p l H H') (d:¬S p) (c:¬S l):A0u (A0s S H) (A0s S H'):=λb o z=>by
 have a:=(A0l z).1;exact A0h a (k b o ⟨λe=>d (e▸a),λe=>c (e▸a)⟩ (A0l z).2)
theorem K2.free {b:Addr} {o':HO} (k:K2 p l H H') (f:H' p=some o) (g:H' l=some o') (a:H' b=none):H b=none:=by
 cases e:H b with
 | none=>rfl
 | some u =>
  have d:b≠p:=λz=>by subst z;rw [f] at a;cases a
  have c:b≠l:=λz=>by subst z;rw [g] at a;cases a
  rw [k b u ⟨d,c⟩ e] at a;cases a
def D8n (A:Adr) (H:Hp) (v:V) (e:Ln):Prop:=∃(a b c s:Addr) (n:V),v= .ref a/\H a=some (.ins A.ba b [("name",.str e.1),("axes",.ref c),("sums",.ref s),("term",n)])/\H c=some (.lst (e.2.1.map V.str))/\H s=some (.lst (e.2.2.1.map V.str))/\Ob A H n e.2.2.2
theorem D8n.same {e:Ln} (h:D8n A H v e) (s:A0u H H'):D8n A H' v e:=by
 obtain ⟨a,d,c,b,n,rfl,g,j,f,i⟩:=h;exact ⟨a,(i0y d c b n rfl (s _ _ g) (s _ _ j) (s _ _ f) (i.imp s))⟩
structure B1u (A:Adr) (S:Addr->Prop) (H:Hp) (p l d ka:Addr) (kn:List Str) (z:LS):Prop where
 np:¬S p
 nl:¬S l
 fr:Fr S H
 ep:H p=some (lfO A d ka l z.1)
 hk:A0s S H ka=some (.lst (kn.map V.str))
 hl:∃xs,H l=some (.lst xs)/\Paired (D8n A (A0s S H)) xs z.2
theorem B1u.same {a:Addr} {kn:List Str} (h:B1u A S H p l d a kn z) (s:A0u H H'):B1u A S H' p l d a kn z:=by
 obtain ⟨f,e,r⟩:=h.hl;exact ⟨h.np,h.nl,λb c=>h.fr b (s.free c),s _ _ h.ep,A0g s _ _ h.hk,f,s _ _ e,Paired.mapP r λ_ _ q=>q.same (A0g s)⟩
theorem B1u.out {g D:Addr} {kn:List Str} (h:B1u A S H p l d g kn z) (f:H D=none):B1u A (λb=>S b/\b≠D) (upd H D o) p l d g kn z:=by
 obtain ⟨i,e,r⟩:=h.hl;have m:A0u (A0s S H) (A0s (λb=>S b/\b≠D) (upd H D o)):=λb u q=>A0h ⟨(A0l q).1,A0z (A0l q).2 f⟩ ((A0e f) _ _ (A0l q).2);refine ⟨λq=>h.np q.1,λq=>h.nl q.1,λb c=> ?_,(A0e f) _ _ h.ep,m _ _ h.hk,i,(A0e f) _ _ e,Paired.mapP r λ_ _ q=>q.same m⟩;have a:b≠D:=λq=>by rw [q,A0b] at c;cases c
 rw [A0i a] at c;exact ⟨h.fr b c,a⟩
theorem B1u.upD {f D:Addr} {kn:List Str} (h:B1u A (λb=>S b/\b≠D) H p l d f kn z) (g:D≠p) (i:D≠l):B1u A (λb=>S b/\b≠D) (upd H D o) p l d f kn z:=by
 obtain ⟨j,e,r⟩:=h.hl;have m:A0u (A0s (λb=>S b/\b≠D) H) (A0s (λb=>S b/\b≠D) (upd H D o)):=A2i (A0u.refl _) λq=>q.2 rfl;refine ⟨h.np,h.nl,λb a=> ?_,by rw [A0i g.symm];exact h.ep,m _ _ h.hk,j,by rw [A0i i.symm];exact e,Paired.mapP r λ_ _ q=>q.same m⟩;have c:b≠D:=λq=>by rw [q,A0b] at a;cases a
 rw [A0i c] at a;exact h.fr b a
theorem B1u.back {a D:Addr} {kn:List Str} (h:B1u A (λb=>S b/\b≠D) H p l d a kn z) (f:¬S p) (c:¬S l):B1u A S H p l d a kn z:=by
 obtain ⟨i,e,r⟩:=h.hl;have m:A0u (A0s (λb=>S b/\b≠D) H) (A0s S H):=A2x (A0u.refl _) λb o _ q=>q.1;exact ⟨f,c,λb g=>(h.fr b g).1,h.ep,m _ _ h.hk,i,e,Paired.mapP r λ_ _ q=>q.same m⟩
structure Lim (kn:List Str) (u:Tm) (g:List Gd) (z:LS):Prop where
 hk:D1a kn
 hw:TmW u
 hg:GdW g
 hd:g.length+dep u<=40
 hn:nod u<=500
 hz:z.1+nod u<=100000
 hl:z.2.length+nod u<=100000
 ha:∀e∈z.2,C9b e
theorem Lim.ok {kn:List Str} (h:Lim kn u g z):WsR z u 0 (wsP kn u [] g z):=by
 have:=h.hd;have:=h.hz;exact C4u h.hk u [] g z h.hw h.hg h.hd (by show 0+dep u<=100;lia) h.hn (by lia) h.ha 0 (.inl rfl)
def D5o (A:Adr) (n:Nat):Sp:=λf H Q _=>∃(p l d e:Addr) (S:Addr->Prop) (a:List Str) (z:LS) (v:V) (u:Tm) (s:List Str) (g:List Gd),f=[.ref p,v]/\B1u A S H p l d e a z/\A3e A (A0s S H) v (u,s,g)/\Lim a u g z/\dep u<=n/\
 ∀(c:V) (b:Hp),K2 p l H b->B1u A S b p l d e a (wsP a u [] g z).2->Ob A (A0s S b) c (wsP a u [] g z).1->Q c b
def E1z (A:Adr) (n:Nat):Sp:=λf H Q _=>∃(p l d e:Addr) (S:Addr->Prop) (a:List Str) (z:LS) (v:V) (u:Tm) (s:List Str) (g:List Gd),f=[.ref p,v]/\B1u A S H p l d e a z/\A3e A (A0s S H) v (u,s,g)/\Lim a u g z/\dep u<=n/\isS u=true/\
 ∀(c:V) (b:Hp),K2 p l H b->B1u A S b p l d e a (wsP a u [] g z).2->Ob A (A0s S b) c (wsP a u [] g z).1->Q c b
theorem D5k (T:Txt K mg t) {m0:Nat} (hm:5<=m) (b6:m0<=m) (Gb0:A3i P w K mg base CX0 m t.fh t.iw B2h (E1z t n)) (Gb1:A3i P w K mg base CX0 m0 t.be t.br B2h sp')
  (hs:∀(p l d R:Addr) (S:Addr->Prop) (kn:List Str) (z:LS) (v:V) (u:Tm) (s:List Str) (g:List Gd) (H:Hp) (Q:VK),B1u t S H p l d R kn z->A3e t (A0s S H) v (u,s,g)->Lim kn u g z->dep u+1<=n->(∀(J:V) (H':Hp),K2 p l H H'->B1u t S H' p l d R kn (wsP kn u [] g z).2->Ob t (A0s S H') J (wsP kn u [] g z).1->Q J H')->sp' [.ref p,v] H Q E0) :
  A3i P w K mg base CX0 (m+1) t.be t.br B2h (D5o t n):=by
 have Ga4:= @A3t P w K mg base t T;refine T.cb.F.ok A4o (by walk_at "ln") λ_ A _ s H _ Q E hr h=> ?_
 ·refine e0h h ?_;clear h;rintro p l d R S kn z v u ss g ⟨rfl,L,pa,c,hd,k⟩;obtain ⟨q,dq,tv,sl,gl,gs,rfl,e0,a3,b4,b5,bg,bs,pg⟩:=id pa;have eq:=A0m _ _ e0;have ob:=a3.imp A0m;have kt:=(C9h T a3).ex;refine e0d kt ?_;clear kt;rintro o C dd fs rfl a2 c1 c2 ⟨c3,c4,c5,_,k1,k2,k3,k4,k5⟩;have eo:=A0m _ _ a2;have ty:A8a K H (.ref o) (.ref C):= .ins eo c1 c2 c3 c4 c5;refine i02 _ (@RS.r _ _ _ (rq1 (rq4 (A2s (A0q A1d (by rfl) T.ab Z0d (A0a (A1c (pv 1) rfl) (A0a (A3k (v:=V.ref t.bp) rfl T.ww rfl) A0c)))) (rq3 (rq5 (B4d (pv 0) T.bt T.uy Gb0 (hr.mono (by lia)) T.oq.b .nil B6p (A0a (pv 1) A0c)))) ⟨A0x⟩) (rq1 (rq4 (A2s (A0q B5k (by rfl) T.ab Z0d (A0a (A1c (pv 1) rfl) (A0a (A1z (A0a (A3k (v:=V.ref t.c9) rfl T.zS rfl) (A0a (A3k (v:=V.ref t.af) rfl T.m_ rfl) A0c))) A0c)))) (rq1 ⟨B7c (i₀:=2) (N':=["inner","self"]) (ix:=(List.replicate 1 none++[some 0])) A4o.nd rfl (.inl rfl) rfl (A7k (x:="self") rfl rfl rfl (by decide +kernel) (by decide +kernel)) (A5q (N0:=["inner"]) rfl (.inl rfl) (by walk_at "ix")) (A2c (pcl Ga4 hr T.bv (A0a (pv 1) A0c))) (λ_ _ _ _=>(A0k (i:=0) C8j rfl (.inl rfl))) (λ_ _ _ _=>(B4d (pv 1) T.bt T.cq Gb1 (hr.mono (by lia)) T.cb.b .nil B6p (A0a (pv 0) A0c)))⟩ (rq3 (rq5 (B6d (A1c (pv 1) rfl) (A0a (A1f A1n (pv 2) A0d (λ_ _=>rfl)) (A0a (A1f A1n (pv 2) A0d (λ_ _=>rfl)) A0c)))))) ⟨A0x⟩) (rq3 (rq5 (A1c (pv 1) rfl)))))) ?_;refine i19 _ rfl q _ dq _ _ rfl eq T.bq T.b_ (by walk_at "lk") ⟨_,(i0g _ _ _ rfl (i0a ty (A1e k1) _ rfl ?_))⟩
  cases hS:isS u with
  | true=>exact A5u (i0x _ rfl p d _ rfl L.ep (by walk_at "lk") (i02 _ rfl (i11 p l d R S kn z _ u (i0t ss g rfl L pa c hd ⟨hS,k⟩))))
  | false =>
   refine A2m ?_;refine i19 _ rfl q _ dq _ _ rfl eq T.bq T.b_ (by walk_at "lk") ⟨A0v rfl,λtp a9=> ?_⟩;have X:=A0e (o:= .tup [.ref t.c9,.ref t.af]) a9;have h2:upd H tp (.tup [.ref t.c9,.ref t.af]) tp=some (.tup [.ref t.c9,.ref t.af]):=A0b;generalize upd H tp (.tup [.ref t.c9,.ref t.af])=G at X h2;refine ⟨o,(i1d C dd fs tp _ _ rfl (X _ _ eo) c1 c2 c3 c4 c5 (i0a h2 (E4q k2 k3) _ rfl ?_))⟩;have M:=L.same X;have b2:=pa.same (A0g (S:=S) X);have b1:=X _ _ eq;have b7:=X _ _ eo;have b3:isP u=false->isG u=false->wsP kn u [] g z=(u,z)->(λ(b:Bool)=>b) (isP u||isG u)=false:=λh1 h2 _=>by rw [h1,h2];rfl
   cases hB:(isP u||isG u) with
   | false =>
    have ew:wsP kn u [] g z=(u,z):=by
     cases u with
     | num _=>rfl
     | place _=>rfl
     | read _ _=>rfl
     | sum _ _=>cases hS
     | pair _ _ _=>cases hB
     | guard _ _ _ _ _=>cases hB
    refine A2m (i19 _ rfl q _ dq _ _ rfl b1 T.bq T.b_ (by walk_at "lk") (k _ G (K2.of X) (by rw [ew];exact M) (by rw [ew];exact a3.imp (A0g X))))
   | true =>
    refine A5u ?_
    obtain ⟨l',r',g1,g2,ek,N,m2,d1,d2,ew,f,fd,ps,sp,lv,me,lu,fo,lv3,bi,mk⟩:∃(l' r':Tm) (g1 g2:List Gd),B7r u ss g=[(l',ss,g1),(r',ss,g2)]/\Lim kn l' g1 z/\Lim kn r' g2 (wsP kn l' [] g1 z).2/\dep l'+1<=n/\dep r'+1<=n/\(wsP kn u [] g z).2=(wsP kn r' [] g2 (wsP kn l' [] g1 z).2).2/\
      ∃(f:Addr) (fd:FuncData) (ps:List Str) (sp:Sp) (lv:Nat),C2o K C "made_of" f/\fs.lookup ("made_of":Str)=none/\A3i P w K mg base CX0 lv f fd ps sp/\lv<=3/\A9b K fd ps []/\∀(a b:V) (Y:Hp) (Q:VK),Fr S Y->Y o=some (.ins C dd fs)->Ob t (A0s S Y) a (wsP kn l' [] g1 z).1->Ob t (A0s S Y) b (wsP kn r' [] g2 (wsP kn l' [] g1 z).2).1->(∀(J:V) (U:Hp),A0u Y U->Ob t (A0s S U) J (wsP kn u [] g z).1->Q J U)->sp [.ref o,a,b] Y Q E0:=by
     cases u with
     | num _=>cases hB
     | place _=>cases hB
     | read _ _=>cases hB
     | sum _ _=>cases hS
     | pair op l' r' =>
      cases ob with
      | @pair _ dx _ v1 v2 _ _ e o1 o2 =>
       cases e.symm.trans eo
       have x1:=c.hd;have x2:=c.hn;have x3:=c.hz;have x4:=c.hl;simp only [dep,nod] at x1 x2 x3 x4 hd;have N:Lim kn l' g z:=⟨c.hk,c.hw.1,c.hg,by lia,by lia,by lia,by lia,c.ha⟩;have y1:=N.ok.k;have y2:=N.ok.l;obtain ⟨f,fd,me,fo,bi⟩:=moOk (P:=P) (w:=w) (base:=base) T op;refine i10 l' r' g g rfl N ⟨c.hk,c.hw.2,c.hg,by lia,by lia,by lia,by lia,N.ok.a⟩ (by lia) (by lia) ⟨rfl,(i14 f fd _ _ _ me (by walk_at "lk") fo (Z09 _) bi λa b Y Q f6 e6 oa ob k6=> ?_)⟩;exact i0g _ a b rfl λx b0 U hx O h7=>k6 _ U O (.pair (A0h (f6 x hx) h7) (oa.imp (A0g O)) (ob.imp (A0g O)))
     | guard x lo hi l' r' =>
      cases ob with
      | @guard _ dx _ _ _ v1 v2 _ _ e o1 o2 =>
       cases e.symm.trans eo
       have x1:=c.hd;have x2:=c.hn;have x3:=c.hz;have x4:=c.hl;simp only [dep,nod] at x1 x2 x3 x4 hd;obtain ⟨w1,w2,w3,w4,w5⟩:=c.hw;have lg:∀b:Bool,(g++[(x,lo,hi,b)]).length=g.length+1:=λb=>by simp
       have N:Lim kn l' (g++[(x,lo,hi,true)]) z:=⟨c.hk,w4,c.hg.add w1 w2 w3,by rw [lg];lia,by lia,by lia,by lia,c.ha⟩;have y1:=N.ok.k;have y2:=N.ok.l;refine i10 l' r' _ (g++[(x,lo,hi,false)]) rfl N ⟨c.hk,w5,c.hg.add w1 w2 w3,by rw [lg];lia,by lia,by lia,by lia,N.ok.a⟩ (by lia) (by lia) ⟨rfl,(i14 _ _ _ _ _ T.e8 (by walk_at "lk") (A5e T) (Z09 _) T.cv.b λa b Y Q f6 e6 oa ob k6=> ?_)⟩;exact i11 o dd _ _ _ _ _ a b (i00 rfl e6 λx b0 U hx O h7=>k6 _ U O (.guard (A0h (f6 x hx) h7) (oa.imp (A0g O)) (ob.imp (A0g O))))
    refine i0l _ rfl (.ref q) u ss (i0m g S rfl M.fr b2 λlp xs H3 W s3 h3 pp=> ?_);rw [ek] at pp
    cases pp with
    | @cons x1 _ _ _ p1 pp =>
    cases pp with
    | @cons x2 _ _ _ p2 pp =>
    cases pp
    have a1:=M.same s3;refine i06 lp rfl ⟨_,SqL.of h3⟩ λD Z=> ?_;have Dp:D≠p:=λe=>by rw [e,a1.ep] at Z;cases Z
    have Dl:D≠l:=λe=>by obtain ⟨_,e2,_⟩:=a1.hl;rw [e,e2] at Z;cases Z
    have sq:S2 p l q:=⟨λe=>L.np (e▸(A0l e0).1),λe=>L.nl (e▸(A0l e0).1)⟩;have so:S2 p l o:=⟨λe=>L.np (e▸(A0l a2).1),λe=>L.nl (e▸(A0l a2).1)⟩;have a5:lp≠p:=λe=>by rw [e,M.ep] at W;cases W
    have a6:lp≠l:=λe=>by obtain ⟨_,e2,_⟩:=M.hl;rw [e,e2] at W;cases W
    have a7:S2 p l lp:=⟨a5,a6⟩
    have mm:∀{H4:Hp},K2 p l H3 H4->A0u (A0s S H3) (A0s (λb=>S b/\b≠D) H4):=λ{H4} B b u e=>by
     obtain ⟨e1,e2⟩:=A0l e;exact A0h ⟨e1,A0z e2 Z⟩ (B b u ⟨λe=>L.np (e▸e1),λe=>L.nl (e▸e1)⟩ e2)
    have ku:∀{H4:Hp} {o:HO},K2 p l H3 H4->K2 p l H3 (upd H4 D o):=λ{H4 o} B b u hb e=>by rw [A0i (A0z e Z)];exact B b u hb e
    have mu:∀{H4:Hp} {o:HO},A0u (A0s (λb=>S b/\b≠D) H4) (A0s (λb=>S b/\b≠D) (upd H4 D o)):=A2i (A0u.refl _) λq=>q.2 rfl
    refine A4g (K:=K) (a:=lp) (D:=D) (xs:=[x1,x2]) (λi ys H4=>K2 p l H3 H4/\H4 D=some (.lst ys)/\((i=0/\ys=[]/\B1u t (λb=>S b/\b≠D) H4 p l d R kn z)\/(i=1/\∃a,ys=[a]/\B1u t (λb=>S b/\b≠D) H4 p l d R kn (wsP kn l' [] g1 z).2/\Ob t (A0s (λb=>S b/\b≠D) H4) a (wsP kn l' [] g1 z).1)\/(i=2/\∃a b,ys=[a,b]/\B1u t (λb=>S b/\b≠D) H4 p l d R kn (wsP kn r' [] g2 (wsP kn l' [] g1 z).2).2/\Ob t (A0s (λb=>S b/\b≠D) H4) a (wsP kn l' [] g1 z).1/\Ob t (A0s (λb=>S b/\b≠D) H4) b (wsP kn r' [] g2 (wsP kn l' [] g1 z).2).1)))
     (i00 (K2.of (A0e Z)) A0b (.inl (i00 rfl rfl (a1.out Z)))) (λi ys H4 B=>SqL.of (B.1 _ _ a7 h3)) ?_ ?_
    ·rintro i y ys H4 hy ⟨B,I,h4⟩;refine C5y ?_;intro N';rcases h4 with ⟨rfl,rfl,j⟩ | ⟨rfl,a,rfl,j,oa⟩ | ⟨rfl,_⟩
     ·have e:x1=y:=by simpa using hy
      subst e;refine ⟨⟨rfl,True.intro⟩,(i0x _ rfl p d _ rfl j.ep (by walk_at "lk") (i02 _ rfl (hs p l d R _ kn z x1 l' ss g1 H4 _ j (p1.same (mm B)) N d1 λJ H5 k5 a0 o5=> ?_)))⟩;exact i09 (k5 _ _ ⟨Dp,Dl⟩ I) (A1l (by simp)) (ku (B.trans k5)) A0b (.inr (.inl ⟨rfl,(i06 J rfl (a0.upD Dp Dl) (o5.imp mu))⟩))
     ·have e:x2=y:=by simpa using hy
      subst e;refine ⟨⟨rfl,True.intro⟩,(i0x _ rfl p d _ rfl j.ep (by walk_at "lk") (i02 _ rfl (hs p l d R _ kn _ x2 r' ss g2 H4 _ j (p2.same (mm B)) m2 d2 λJ H5 k5 a0 o5=> ?_)))⟩;exact i09 (k5 _ _ ⟨Dp,Dl⟩ I) (A1l (by simp)) (ku (B.trans k5)) A0b (.inr (.inr ⟨rfl,(i0m a J rfl (a0.upD Dp Dl) ((oa.imp (k5.rs j.np j.nl)).imp mu) (o5.imp mu))⟩))
     ·simp at hy
    ·rintro ys H4 ⟨B,I,h4⟩;rcases h4 with ⟨h0,_⟩ | ⟨h0,_⟩ | ⟨_,a,b,rfl,j,oa,a8⟩
     ·cases h0
     ·cases h0
     have a4:K2 p l H H4:=(K2.of (X.trans s3)).trans B;have e4:=a4 _ _ sq eq;have o4:=a4 _ _ so eo;have bk:A0u (A0s (λb=>S b/\b≠D) H4) (A0s S H4):=A2x (A0u.refl _) λb o _ q=>q.1;refine i19 _ rfl q _ dq _ _ rfl e4 T.bq T.b_ (by walk_at "lk") (i08 o C dd (i1d fs lv f fd ps sp rfl o4 c1 me lu fo (hr.mono (by lia)) ⟨bi,?_⟩));refine i13 _ rfl D _ _ _ rfl rfl (SqL.of I) rfl (i13 _ rfl D _ _ _ rfl rfl (SqL.of I) rfl (mk a b H4 Q (λb hb=>(j.fr b hb).1) o4 (oa.imp bk) (a8.imp bk) λJ U O o7=> ?_));exact k J U (a4.trans (K2.of O)) (by rw [ew];exact (j.back L.np L.nl).same O) o7
theorem B3n (c:∀a:Bool->Hp->Prop,a d1 H->t1 Z H a) (b:∀a:Bool->Hp->Prop,a d2 H->t2 Z H a) (h:Q (d1&&d2) H):D6x t1 t2 Z H Q:=by
 refine c _ ?_
 cases d1 with
 | false=>exact h
 | true=>exact b _ h
theorem B1m (z:Str):∀c:List Str,inV (.str z) (c.map V.str)=decide (z∈c)
 | []=>rfl
 | b::r=>by
  have a:=B1m z r;unfold inV at a⊢;rw [Z0p,List.any_cons,a];show ((b == z)||decide (z∈r))=decide (z∈b::r);by_cases e:b=z
  ·subst e;simp
  ·have:¬z=b:=λh=>e h.symm;simp [e,this]
theorem A7b:∀a:List Str,(a.map V.str).all B7g=true
 | []=>rfl
 | b::r=>by rw [Z0p,List.all_cons,A7b r];rfl
theorem B7b {H:Hp}:∀{vs:List V} {ax:List (Str×Int)},Paired (λ(v:V) (e:Str×Int)=>∃q,v= .ref q/\H q=some (.tup [.str e.1,.int e.2])) vs ax->A5c H vs (ax.map B1o)
 | _,_,.nil=> .nil
 | _,_,@Paired.cons _ _ _ v e _ _ r t=>by
  obtain ⟨q,rfl,a⟩:=r;exact .cons (.tup a (.cons (.str _) (.cons (.int _) .nil))) (B7b t)
theorem B9v:∀(u:Tm),TmW u->TmW (inS u)/\dep (inS u)<=dep u/\nod (inS u)<=nod u/\(A3o u).length+dep (inS u)=dep u
 | .num _,h=>(i04 h (Z09 _) (Z09 _) (Nat.zero_add _))
 | .place _,h=>(i04 h (Z09 _) (Z09 _) (Nat.zero_add _))
 | .read _ _,h=>(i04 h (Z09 _) (Z09 _) (Nat.zero_add _))
 | .pair _ _ _,h=>(i04 h (Z09 _) (Z09 _) (Nat.zero_add _))
 | .guard _ _ _ _ _,h=>(i04 h (Z09 _) (Z09 _) (Nat.zero_add _))
 | .sum x b,h=>by
  obtain ⟨a,c,e,d⟩:=B9v b h.2;exact i04 a (by show dep (inS b)<=_;simp only [dep];lia) (by show nod (inS b)<=_;simp only [nod];lia) (by show (x::A3o b).length+dep (inS b)=_;simp only [dep,Z0y];lia)
theorem E1d (h:isS u=true):A3o u≠[]:=by
 cases u with
 | sum x b=>exact λe=>by cases e
 | num _=>cases h
 | place _=>cases h
 | read _ _=>cases h
 | pair _ _ _=>cases h
 | guard _ _ _ _ _=>cases h
theorem C8t {kn:List Str} (h:pend≠[]):fin kn pend g r=(lfR kn pend r.2.1 (gdM g r.1),r.2.1+1,r.2.2++[lfL kn pend r.2.1 (gdM g r.1)]):=by
 cases pend with
 | nil=>exact absurd rfl h
 | cons x s=>rfl
theorem D6t (T:Txt K mg t) (hm:47<=m) (Gb1:A3i P w K mg base CX0 m t.be t.br B2h (D5o t n)) :
  A3i P w K mg base CX0 (m+1) t.fh t.iw B2h (E1z t (n+1)):=by
 have Gb2:= @B5d P w K mg base t T;have Gb3:= @A9d P w K mg base t T;have Gb4:= @C5k P w K mg base t T;have Gb5:= @C5v P w K mg base t T;have Gb6:= @A9c P w K mg base t T;have Gb7:= @B1x P w K mg base t T;have Gb8:= @B1w P w K mg base t T;refine T.oq.F.ok A3h (by walk_at "ln") λ_ A _ s H _ Q E hr h=> ?_
 ·refine e0h h ?_;clear h;rintro p l d N S c z v u ss g ⟨rfl,f,pa,O,hd,hS,k⟩;obtain ⟨q,dq,tv,sl,gl,gs,rfl,e0,c5,d8,a4,bg,bs,pg⟩:=id pa;have eq:=A0m _ _ e0;have sq:S2 p l q:=⟨λe=>f.np (e▸(A0l e0).1),λe=>f.nl (e▸(A0l e0).1)⟩;have c4:S2 p l gl:=⟨λe=>f.np (e▸(A0l a4).1),λe=>f.nl (e▸(A0l a4).1)⟩;have tn:=E1d hS;obtain ⟨i1,i2,i3,i4⟩:=B9v u O.hw;have tl:1<=(A3o u).length:=by cases h:A3o u with | nil=>exact absurd h tn | cons _ _=>simp
  have l1:=O.hd;have l2:=O.hn;have l3:=O.hz;have l4:=O.hl;have dp:=A6l (inS u);have m1:Lim c (inS u) g z:=⟨O.hk,i1,O.hg,by lia,by lia,by lia,by lia,O.ha⟩;have ro:=m1.ok;have ew:wsP c u [] g z=fin c (A3o u) g (wsP c (inS u) [] g z):=D4m u [] g z;rw [C8t tn] at ew;rw [ew] at k;generalize hr0:wsP c (inS u) [] g z=r at ro k;refine i02 _ (@RS.r _ _ _ (rq1 ⟨@A3f _ _ 2 _ _ _ _ A3h.nd rfl (.inr rfl) (pcl Gb2 hr T.iy (A0a (A1c (pv 1) rfl) A0c)) rfl (.inl rfl)⟩ (rq1 (rq6 3 A3h.nd (pcl Gb4 hr T.rg (A0a (B4d (pv 0) T.bt T.cq Gb1 (hr.mono (by lia)) T.cb.b .nil B6p (A0a (pcl Gb3 hr T.fe (A0a (pv 1) A0c)) A0c)) (A0a (A1c (pv 1) rfl) A0c)))) (rq1 ⟨@A3f _ _ 4 _ _ _ _ A3h.nd rfl (.inr rfl) (pcl Gb5 hr T.si (A0a (pv 3) A0c)) rfl (.inl rfl)⟩ (rq1 ⟨B8k (i₀:=5) (N':=["axis","coming","sums"]) (ix:=(List.replicate 1 none++[some 4,some 2])) (tc:=D6x (C0k (tOp (rIn K false) (C6p 0) (C6p 1))) (C0k (tOp (rIn K true) (C6p 0) (C6p 2)))) A3h.nd rfl (.inl rfl) rfl (C7m (cl:=[("sums",_),("coming",_)]) (xs:=["sums","coming"]) rfl (i00 rfl rfl trivial) rfl rfl (by decide +kernel) (by decide +kernel)) (C9s (N0:=["axis"]) (xs:=["coming","sums"]) (js:=[4,2]) (i00 (i00 rfl (.inl rfl) (by walk_at "ix")) (i00 rfl (.inl rfl) (by walk_at "ix")) trivial)) (A2c (A1c (pv 0) rfl)) (λ_ _ _ _=>(A0k (i:=0) C6f rfl (.inl rfl))) (λ_ _ _ _=>(PW.pt (A3x (A0p C6i (pv 0) (pv 1) (by with_unfolding_all rfl)) (A4f (A0p A6d (pv 0) (pv 2) (by with_unfolding_all rfl)))))) (λ_ _ _ _=>(pv 0))⟩ (rq1 (rq6 6 A3h.nd (D2t (pv 0) T.bt T.ky Gb6 (hr.mono (by lia)) T.df.b .nil B6p)) (rq1 ⟨A2r (A6y Z0k Z0n Z0o A2e (A1c (pv 0) rfl) (A0a (pmk T.yJ Gb7 hr T.zL T.im.b (A0a (pv 6) (A0a (pv 5) (A0a (pv 2) (A0a (pv 3) A0c))))) A0c))⟩ (rq3 (rq5 (pmk T.yL Gb8 hr T.wx T.ir.b (A0a (pv 6) (A0a (A4r (N':=["axis"]) (ix:=(List.replicate 1 none)) rfl (A3a rfl (by decide +kernel) (by decide +kernel)) (A2z rfl) (A2c (pv 5)) (λ_ _ _ _=>(A0k (i:=0) D0p rfl (.inl rfl))) (λ_ _ _ _=>(A1z (A0a (pv 0) (A0a A0d A0c))))) A0c)))))))))))) ?_;refine i19 _ rfl q _ dq _ _ rfl eq T.bq T.b_ (by walk_at "lk") (i0m tv u rfl (c5.imp A0m) (by lia) λsm H1 R s1 h1=> ?_);have a6:=f.same s1;have b3:sm≠p:=λe=>by rw [e,f.ep] at R;cases R
  have b2:sm≠l:=λe=>by obtain ⟨_,e2,_⟩:=f.hl;rw [e,e2] at R;cases R
  have Ssm:S sm:=f.fr sm R;refine i0x _ rfl p d _ rfl a6.ep (by walk_at "lk") (i0l _ rfl (.ref q) u ss (i0m g S rfl a6.fr (pa.same (A0g s1)) λv2 H2 s2 d6=> ?_));have d3:=a6.same s2;refine i11 p l d N S c z v2 (inS u) (i0t (ss++A3o u) g rfl d3 d6 m1 (by lia) λv3 H3 k3 a5 o3=> ?_);rw [hr0] at a5 o3;have Y:K2 p l H H3:=(K2.of (s1.trans s2)).trans k3;have g3:H3 gl=some (.lst gs):=Y _ _ c4 (A0m _ _ a4);refine i19 _ rfl q _ dq _ _ rfl (Y _ _ sq eq) T.bq T.c8 (by walk_at "lk") ⟨v3,(i14 gl gs g r.1 S rfl a5.fr o3 g3 (Paired.mapP pg λ_ _ q=>q.same (Y.rs f.np f.nl)) λv4 H4 s4 o4=> ?_)⟩;have c6:=a5.same s4;obtain ⟨q1,q2,q3⟩:=C7l g r.1 O.hg ro.w;have r1:=ro.d;have r2:=ro.n;have r3:=ro.k;have r4:=ro.l;generalize hb:gdM g r.1=b at o4 k q1 q2 q3;refine i02 _ rfl (i0t v4 b rfl (o4.imp A0m) q1 (by lia) (by lia) λcm H5 d9 s5 h5=> ?_);have C:=c6.same s5;have d4:K2 p l H H5:=Y.trans (K2.of (s4.trans s5));have a8:H5 sm=some (.lst ((A3o u).map V.str)):=(K2.of s2).trans (k3.trans (K2.of (s4.trans s5))) _ _ ⟨b3,b2⟩ h1;have o5:=o4.imp (A0g (S:=S) s5);obtain ⟨n1,n2⟩:=C1i (pend:=A3o u) (b:=b) O.hk;refine i19 _ rfl p _ d _ _ rfl C.ep T.bt T.ju (by walk_at "lk") (i06 N rfl ⟨_,SqL.of (A0m _ _ C.hk)⟩ λD hD=> ?_);refine A9u (K:=K) (a:=N) (D:=D) (xs:=c.map V.str) (λj L M=>A0u H5 M/\M D=some (.lst L)/\L=(B3c (c.take j) (A3o u) b).map V.str/\L.length<=j) (i04 (A0e hD) A0b rfl (Z09 _)) (λj L M U=>SqL.of (U.1 _ _ (A0m _ _ C.hk))) ?_ ?_
  ·rintro j y L M hy ⟨U,h6,ey,ly⟩;rw [Z1z] at hy;obtain ⟨x,hx,rfl⟩:=Z0i.mp hy;have hj:j<c.length:=(Z03.mp hx).1;have lk:=O.hk.1
   have ea:B3c (c.take (j+1)) (A3o u) b=B3c (c.take j) (A3o u) b++(if (decide (x∈C1a b)&&decide (x∉A3o u))=true then [x] else []):=by
    show (c.take (j+1)).filter _=(c.take j).filter _++_;rw [Z14,hx,Z2f,List.filter_append,List.filter_cons,List.filter_nil]
   refine ⟨(i00 rfl rfl True.intro),?_⟩;refine B3n (d1:=decide (x∈C1a b)) (d2:=decide (x∉A3o u)) (λQ' q=> ?_) (λQ' q=> ?_) ?_
   ·refine i0w _ rfl _ rfl cm _ rfl (.inl (SqL.of (U _ _ h5))) (i0a rfl (A7b _) _ rfl ?_);show Q' (inV (V.str x) ((C1a b).map V.str)) M;rw [B1m];exact q
   ·refine i0w _ rfl _ rfl sm _ rfl (.inl (SqL.of (U _ _ a8))) (i0a rfl (A7b _) _ rfl ?_);show Q' (! inV (V.str x) ((A3o u).map V.str)) M;rw [B1m];have e:(! decide (x∈A3o u))=decide (x∉A3o u):=by by_cases h:x∈A3o u <;> simp [h]
    rw [e];exact q
   ·cases hc:(decide (x∈C1a b)&&decide (x∉A3o u)) with
    | false =>
     rw [hc] at ea;exact A2m (i04 U h6 (by rw [ey,ea];simp) (by lia))
    | true =>
     rw [hc] at ea;exact A5u (i02 _ rfl (i0h h6 (A1l (by lia)) (A0o U hD) A0b (by rw [ey,ea,Z0s];rfl) (by rw [Z06];simp only [Z0y,Z2g];lia)))
  rintro L M ⟨U,h6,rfl,_⟩;rw [Z08,Z18] at h6;have J:=C.same U;have Dp:D≠p:=λe=>by rw [e,C.ep] at hD;cases hD
  have Dl:D≠l:=λe=>by obtain ⟨_,e2,_⟩:=C.hl;rw [e,e2] at hD;cases hD
  obtain ⟨xs,a1,a9⟩:=J.hl;have pl:p≠l:=λe=>by rw [<-e,J.ep] at a1;cases a1
  generalize hax:B3c c (A3o u) b=ax at h6 n1 n2;refine i0x _ rfl p d _ rfl J.ep (by walk_at "lk") (i03 p d (i0r N l r.2.1 rfl J.ep (by lia) ?_));have B:K2 p l M (upd M p (lfO t d N l (r.2.1+1))):=K2.atp;have p7:upd M p (lfO t d N l (r.2.1+1)) p=some (lfO t d N l (r.2.1+1)):=A0b;have l7:upd M p (lfO t d N l (r.2.1+1)) l=some (.lst xs):=by rw [A0i pl.symm];exact a1
  generalize upd M p (lfO t d N l (r.2.1+1))=H7 at B p7 l7;have D7:=B _ _ ⟨Dp,Dl⟩ h6;have c7:=B _ _ ⟨b3,b2⟩ (U _ _ a8);have o7:=(o5.imp (A0g (S:=S) U)).imp (B.rs f.np f.nl);have Z:Fr S H7:=λb hb=>J.fr b (B.free p7 l7 hb);refine i19 _ rfl p _ d _ (.ref l) rfl p7 T.bt T.dm (by walk_at "lk") ⟨.inl (i01 rfl _ (SqL.of l7)),?_⟩;refine i0e _ rfl _ rfl (i0e _ rfl _ rfl λx X hx d0 e3=> ?_);have I:A0u H7 (upd (upd H7 X (.own x)) x (.ins t.ba X [])):=A0o (A0e d0) hx;have b4:upd (upd H7 X (.own x)) x (.ins t.ba X []) x=some (.ins t.ba X []):=A0b;generalize upd (upd H7 X (.own x)) x (.ins t.ba X [])=G8 at I b4;refine i08 x X D (i14 sm v4 (sN r.2.1) ax (A3o u) rfl b4 (I _ _ D7) (I _ _ c7) (by lia) ⟨by lia,λcc cu H8 b9 c9 c3 c2 d7 kb=>⟨rfl,?_⟩⟩);have s8:A0u H7 H8:=KB.same I kb hx;have l8:=s8 _ _ l7;have e5:=Paired.length a9;refine i0u l _ _ rfl rfl l8 (A1l (by lia)) ?_;have Sx:S x:=Z x hx;have Sc:S cc:=Z cc (I.free b9);have Su:S cu:=Z cu (I.free c9);have W:K2 p l H7 (upd H8 l (.lst (xs++[.ref x]))):=(K2.of s8).trans K2.atl;have b6:K2 p l H8 (upd H8 l (.lst (xs++[.ref x]))):=K2.atl;have p9:upd H8 l (.lst (xs++[.ref x])) p=some (lfO t d N l (r.2.1+1)):=by rw [A0i pl];exact s8 _ _ p7
  have l9:upd H8 l (.lst (xs++[.ref x])) l=some (.lst (xs++[.ref x])):=A0b;generalize upd H8 l (.lst (xs++[.ref x]))=H9 at W b6 p9 l9;have a0:=b6.rs (S:=S) f.np f.nl
  have b8:B1u t S H9 p l d N c (r.2.1+1,r.2.2++[lfL c (A3o u) r.2.1 b]):=by
   have b0:=(B.trans W).rs (S:=S) f.np f.nl;refine ⟨f.np,f.nl,λb hb=>Z b (W.free p9 l9 hb),p9,b0 _ _ J.hk,xs++[.ref x],l9,B2p (Paired.mapP a9 λ_ _ q=>q.same b0) (.cons ⟨x,(i0y X cc cu v4 rfl (a0 _ _ (A0h Sx c3)) ?_ (a0 _ _ (A0h Su d7)) ((o7.imp (A0g s8)).imp a0))⟩ .nil)⟩;show A0s S H9 cc=some (.lst ((B3c c (A3o u) b).map V.str));rw [hax];exact a0 _ _ (A0h Sc c2)
  have D9:=W _ _ ⟨Dp,Dl⟩ D7;have c0:K2 p l H H9:=d4.trans ((K2.of U).trans (B.trans W));have er:lfR c (A3o u) r.2.1 b= .read (sN r.2.1) (ax.map λx=>(x,(0:Int))):=by rw [<-hax];rfl
  rw [er] at k;refine i02 _ rfl (i0k _ rfl D rfl ⟨_,SqL.of D9⟩ λD2 b1=> ?_);refine A4g (K:=K) (a:=D) (D:=D2) (xs:=ax.map V.str) (λi L G=>A0u H9 G/\G D2=some (.lst L)/\Paired (λ(v:V) (e:Str×Int)=>∃q,v= .ref q/\G q=some (.tup [.str e.1,.int e.2])) L ((ax.take i).map λx=>(x,(0:Int)))) (i00 (A0e b1) A0b .nil) (λi L G s=>SqL.of (s.1 _ _ D9)) ?_ ?_
  ·rintro i y0 L G b5 ⟨sG,hG,pG⟩;refine C5y ?_;intro N';rw [Z1z] at b5;obtain ⟨y,hy,rfl⟩:=Z0i.mp b5;have hi:=(Z03.mp hy).1;have lG:=Paired.length pG;rw [Z08,Z0x] at lG;refine ⟨True.intro,(i06 _ rfl (A0v rfl) λtp a3=> ?_)⟩;have sT:=A0e (o:= .tup [.str y,.int 0]) a3;have eT:upd G tp (.tup [.str y,.int 0]) tp=some (.tup [.str y,.int 0]):=A0b;generalize upd G tp (.tup [.str y,.int 0])=G2 at sT eT;refine i09 (sT _ _ hG) (A1l (by lia)) (A0o (sG.trans sT) b1) A0b ?_;have tD:tp≠D2:=λe=>by rw [e,hG] at a3;cases a3
   rw [Z14,hy,Z2f,Z0s];exact B2p (Paired.mapP pG (by rintro v e ⟨q,e1,e2⟩;exact i02 q e1 (by rw [A0i (A3j e2 hG (by intro h;cases h))];exact sT _ _ e2))) (.cons (i02 tp rfl (by rw [A0i tD];exact eT)) .nil)
  rintro L G ⟨sG,hG,pG⟩;rw [Z08,Z18] at pG;have a2:=b8.same sG;have d5:Rep G (.ref D2) (A5b (ax.map λx=>(x,(0:Int)))):= .lst hG (B7b pG);refine λrx rd a7 c1 e4=> ?_;have sX:A0u G (upd (upd G rd (.own rx)) rx (.ins t.aj rd [])):=A0o (A0e c1) a7;have gX:upd (upd G rd (.own rx)) rx (.ins t.aj rd []) rx=some (.ins t.aj rd []):=A0b;generalize upd (upd G rd (.own rx)) rx (.ins t.aj rd [])=GX at sX gX;refine ⟨rx,(i0y rd D2 (sN r.2.1) _ rfl gX (d5.same sX) (by rw [Z08];lia) λl' GY hY rY kY=>⟨rfl,?_⟩)⟩;have sY:A0u G GY:=KB.same sX kY a7;have b7:=a2.same sY;refine k _ GY (c0.trans (K2.of (sG.trans sY))) b7 (.read (A0h (a2.fr rx a7) hY) (rY.same λb o e=> ?_));obtain ⟨z1,z2⟩:=A0l e;exact A0h (a2.fr b (sX.free z1)) z2
theorem D4y (T:Txt K mg t):∀n:Nat,A3i P w K mg base CX0 (49+2*n) t.be t.br B2h (D5o t n)
 | 0=>A3i.none λj H Q E h=>by
  refine e0h h ?_;clear h;rintro p l d b S a z v u o g ⟨_,_,_,_,c,_⟩;have:=A6l u
  lia
 | n+1=>D5k T (m:=49+2*n+1) (m0:=49+2*n) (by lia) (by lia) (D6t T (by lia) (D4y T n)) (D4y T n) λp l d b S a z v u s g H Q e i f c k=>(i11 p l d b S a z v u (i0t s g rfl e i f (by lia) k))
structure D6h (e:Lt):Prop where
 l1:e.1.length<=60
 l2:e.2.1.length<=12
 l3:∀x∈e.2.1,B4q x
 w:TmW e.2.2
 d:dep e.2.2<=20
 n:nod e.2.2<=122
def C8f (kn:List Str) (e:Lt) (z:LS):LS:=((wsP kn (inS e.2.2) [] [] z).2.1,(wsP kn (inS e.2.2) [] [] z).2.2++[(e.1,e.2.1,A3o e.2.2,(wsP kn (inS e.2.2) [] [] z).1)])
theorem D6h.lim {e:Lt} (h:D6h e) {kn:List Str} (b:D1a kn) (i:z.1<=90000) (j:z.2.length<=90000) (a:∀e∈z.2,C9b e):Lim kn (inS e.2.2) [] z:=by
 obtain ⟨f,g,k,_⟩:=B9v e.2.2 h.w;have:=h.d;have:=h.n;exact ⟨b,f,(λe c=>by cases c),by show 0+dep (inS e.2.2)<=40;lia,by lia,by lia,by lia,a⟩
theorem D7s {e:Lt} (h:D6h e) {kn:List Str} (i:D1a kn) (g:z.1<=90000) (j:z.2.length<=90000) (f:∀e∈z.2,C9b e):(C8f kn e z).1<=z.1+122/\(C8f kn e z).2.length<=z.2.length+123/\∀e'∈(C8f kn e z).2,C9b e':=by
 have b:=(h.lim i g j f).ok;obtain ⟨r,t,x,o⟩:=B9v e.2.2 h.w;have p:=b.d;have q:=b.n;have v:=b.k;have s:=b.l;have m:=h.d;have u:=h.n;refine i00 (by show (wsP kn (inS e.2.2) [] [] z).2.1<=_;lia) (by show ((wsP kn (inS e.2.2) [] [] z).2.2++[_]).length<=_;rw [Z06];simp only [Z0y,Z2g];lia) λe' c=> ?_;rcases Z07.mp c with c | c
 ·exact b.a e' c
 ·rw [Z0w.mp c];exact ⟨h.l1,(i0h h.l2 h.l3 (by show (A3o e.2.2).length<=100;lia) b.w (by show dep (wsP kn (inS e.2.2) [] [] z).1<=40;lia) (by show nod (wsP kn (inS e.2.2) [] [] z).1<=1000;lia))⟩
def duP (kn:List Str) (ls:List Lt):LS:=ls.foldl (λz e=>C8f kn e z) (0,[])
theorem B0g {kn:List Str} {e:Lt} (h:ls[i]? =some e):duP kn (ls.take (i+1))=C8f kn e (duP kn (ls.take i)):=by
 unfold duP;rw [Z14,h,Z2f,List.foldl_append];rfl
theorem D0b {kn:List Str} (b:D1a kn) {ls:List Lt} (h:∀e∈ls,D6h e) (d:ls.length<=100):∀i,i<=ls.length->(duP kn (ls.take i)).1<=122*i/\(duP kn (ls.take i)).2.length<=123*i/\∀e∈(duP kn (ls.take i)).2,C9b e
 | 0,_=>(i00 (Z1e _) (Z1e _) λe a=>by cases a)
 | i+1,hi=>by
  obtain ⟨g,k,c⟩:=D0b b h d i (by lia);have a:ls[i]? =some ls[i]:=Z0b (by lia);rw [B0g a];obtain ⟨j,l,f⟩:=D7s (h _ (Z13 a)) b (z:=duP kn (ls.take i)) (by lia) (by lia) c;exact i00 (by lia) (by lia) f
def E4c (A:Adr):Sp:=λf H Q _=>∃(p l d c:Addr) (S:Addr->Prop) (a:List Str) (z:LS) (v:V) (e:Lt),f=[.ref p,v]/\B1u A S H p l d c a z/\C0s A (λ_=>True) (A0s S H) v e/\D6h e/\D1a a/\z.1<=90000/\z.2.length<=90000/\(∀e∈z.2,C9b e)/\
 ∀(b:Hp),K2 p l H b->B1u A S b p l d c a (C8f a e z)->Q .non b
theorem B0q (T:Txt K mg t):FP P w mg base T.dz 90 (E4c t):=by
 have Gb3:= @A9d P w K mg base t T;have Ga2:= @A8q P w K mg base t T;have Gb7:= @B1x P w K mg base t T;have Gb1:= @D4y P w K mg base t T 20;refine T.dz.F.ok A4i (by walk_at "ln") λ_ A _ s H _ Q E hr h=> ?_
 ·refine e0e h ?_;clear h;rintro p l d ka S kn z v ⟨e,rfl,g,la,ok,hk,hz,hl,ha,k⟩;obtain ⟨a,da,c,tv,_,rfl,U,_,N,b2⟩:=la;have ea:=A0m _ _ U;have sa:S2 p l a:=⟨λe=>g.np (e▸(A0l U).1),λe=>g.nl (e▸(A0l U).1)⟩;have sc:S2 p l c:=⟨λe=>g.np (e▸(A0l N).1),λe=>g.nl (e▸(A0l N).1)⟩;have m1:=ok.lim hk hz hl ha;have ro:=m1.ok;obtain ⟨i1,i2,i3,i4⟩:=B9v e.2.2 ok.w;have o1:=ok.d;have o2:=ok.n;have o3:=ok.l2;have r4:=ro.l;refine i02 _ (@RS.r _ _ _ (rq1 (rq6 2 A4i.nd (pcl Gb3 hr T.fe (A0a (pmk T.ji Ga2 hr T.o_ T.cf.b (A0a (A1c (pv 1) rfl) (A0a (@A1r _ _ _ _ A0c) (A0a (@A1r _ _ _ _ A0c) A0c)))) A0c))) (rq1 (rq6 3 A4i.nd (B4d (pv 0) T.bt T.cq Gb1 (hr.mono (by lia)) T.cb.b .nil B6p (A0a (pv 2) A0c))) (rq3 ⟨A2r (A6y Z0k Z0n Z0o A2e (A1c (pv 0) rfl) (A0a (pmk T.yJ Gb7 hr T.zL T.im.b (A0a (A1c (pv 1) rfl) (A0a (A1c (pv 1) rfl) (A0a (A1c (pv 2) rfl) (A0a (pv 3) A0c))))) A0c))⟩)))) ?_;refine i19 _ rfl a _ da _ _ rfl ea T.mr T.mn (by walk_at "lk") ⟨A0v rfl,λu X=>⟨A0v rfl,λy Y=> ?_⟩⟩;have s1:A0u H (upd H u (.lst [])):=A0e X;have a5:=A0e (o:= .lst []) Y;have s2:=s1.trans a5;have g1:upd (upd H u (.lst [])) y (.lst []) u=some (.lst []):=a5 _ _ A0b;have g2:upd (upd H u (.lst [])) y (.lst []) y=some (.lst []):=A0b;have f1:=g.fr u X;have f2:=g.fr y (s1.free Y);generalize upd (upd H u (.lst [])) y (.lst [])=G at s2 g1 g2;refine λi m hn b8 c2=>(i03 i m (i0r _ _ _ rfl A0b rfl ?_));have s3:A0u G (upd (upd (upd G m (.own i)) i (.ins t.aw m [])) i (.ins t.aw m [("term",tv),("sums",.ref u),("guards",.ref y)])):=A2f hn b8;have e3:upd (upd (upd G m (.own i)) i (.ins t.aw m [])) i (.ins t.aw m [("term",tv),("sums",.ref u),("guards",.ref y)]) i=some (.ins t.aw m [("term",tv),("sums",.ref u),("guards",.ref y)]):=A0b;generalize upd (upd (upd G m (.own i)) i (.ins t.aw m [])) i (.ins t.aw m [("term",tv),("sums",.ref u),("guards",.ref y)])=G3 at s3 e3;have L:=s2.trans s3;have b0:=g.same L;have a8:A3e t (A0s S G3) (.ref i) (e.2.2,[],[]):=(i1d i m tv u y [] rfl (A0h (g.fr i (s2.free hn)) e3) (b2.imp (A0g L)) (A0h f1 (s3 _ _ g1)) (A0h f2 (s3 _ _ g2)) (by show 0+dep e.2.2<=100;lia) (by show 0+dep e.2.2<=100;lia) .nil);refine i03 (.ref i) e.2.2 (i0r [] [] S rfl b0.fr a8 λv4 H4 s4 a0=> ?_);have a6:=L.trans s4;have a3:=g.same a6;obtain ⟨b4,b7,c3,sl4,c0,c1,rfl,J,_,M,_⟩:=id a0;have sb:S2 p l b4:=⟨λe=>g.np (e▸(A0l J).1),λe=>g.nl (e▸(A0l J).1)⟩;have b5:S2 p l sl4:=⟨λe=>g.np (e▸(A0l M).1),λe=>g.nl (e▸(A0l M).1)⟩;refine i0x _ rfl p d _ rfl a3.ep (by walk_at "lk") (i02 _ rfl (i11 p l d ka S kn z _ (inS e.2.2) (i0t _ [] rfl a3 a0 m1 (by lia) λv5 H5 k5 f o5=> ?_)));have W:K2 p l H H5:=(K2.of a6).trans k5;obtain ⟨O,C,a2⟩:=f.hl;have c5:=Paired.length a2;have pl:p≠l:=λe=>by rw [<-e,f.ep] at C;cases C
  refine i19 _ rfl p _ d _ (.ref l) rfl f.ep T.bt T.dm (by walk_at "lk") ⟨.inl (i01 rfl _ (SqL.of C)),?_⟩;have Z:=W _ _ sa ea;refine i19 _ rfl a _ da _ _ rfl Z T.mr T.lj (by walk_at "lk") (i19 _ rfl a _ da _ _ rfl Z T.mr T.ke (by walk_at "lk") (i19 _ rfl b4 _ b7 _ _ rfl (k5 _ _ sb (A0m _ _ J)) T.bq T.cr (by walk_at "lk") (i02 _ rfl λx B hx b6 c4=> ?_)));have j:A0u H5 (upd (upd H5 B (.own x)) x (.ins t.ba B [])):=A0o (A0e b6) hx;have a4:upd (upd H5 B (.own x)) x (.ins t.ba B []) x=some (.ins t.ba B []):=A0b;generalize upd (upd H5 B (.own x)) x (.ins t.ba B [])=G8 at j a4;refine i08 x B c (i14 sl4 v5 e.1 e.2.1 (A3o e.2.2) rfl a4 (j _ _ (W _ _ sc (A0m _ _ N))) (j _ _ (k5 _ _ b5 (A0m _ _ M))) (by lia) ⟨by lia,λcc cu H8 a1 b3 b1 a9 b9 kb=>⟨rfl,?_⟩⟩);have s8:A0u H5 H8:=KB.same j kb hx;refine i0u l _ _ rfl rfl (s8 _ _ C) (A1l (by lia)) ?_;have Sx:S x:=f.fr x hx;have Sc:S cc:=f.fr cc (j.free a1);have Su:S cu:=f.fr cu (j.free b3);have D:K2 p l H5 (upd H8 l (.lst (O++[.ref x]))):=(K2.of s8).trans K2.atl;have a7:K2 p l H8 (upd H8 l (.lst (O++[.ref x]))):=K2.atl;have p9:upd H8 l (.lst (O++[.ref x])) p=some (lfO t d ka l (C8f kn e z).1):=by rw [A0i pl];exact s8 _ _ f.ep
  have l9:upd H8 l (.lst (O++[.ref x])) l=some (.lst (O++[.ref x])):=A0b;generalize upd H8 l (.lst (O++[.ref x]))=H9 at D a7 p9 l9;have R:=a7.rs (S:=S) g.np g.nl;have I:=D.rs (S:=S) g.np g.nl;exact k H9 (W.trans D) ⟨g.np,g.nl,λb hb=>f.fr b (D.free p9 l9 hb),p9,I _ _ f.hk,O++[.ref x],l9,B2p (Paired.mapP a2 λ_ _ q=>q.same I) (.cons ⟨x,(i0y B cc cu v5 rfl (R _ _ (A0h Sx b1)) (R _ _ (A0h Sc a9)) (R _ _ (A0h Su b9)) (o5.imp I))⟩ .nil)⟩
theorem C3r:∀(ax:List (Str×Int)),D1r (A2g ax) (ax.map (·.2))
 | []=> .nil
 | _::r=> .cons rfl (C3r r)
def B9d (es:List (Str×List Str)) (e:Str×List Str):List (Str×List Str):=if (es.any λf=>decide (f.1=e.1))=true then es.map (λf=>if f.1=e.1 then (f.1,e.2) else f) else es++[e]
theorem D3n {S:Addr->Prop} {H:Hp} {x:Str}:∀{ws:List (Key×V)} {es:List (Str×List Str)},AR S H ws es->(ws.any λkv=>decide (kv.1=(Sum.inr x:Key)))=es.any λf=>decide (f.1=x)
 | _,_,.nil=>rfl
 | _,_,.cons r t=>by
  rw [List.any_cons,List.any_cons,D3n t,r.1];congr 1;exact decide_eq_decide.mpr ⟨λh=>by injection h,λh=>by rw [h]⟩
theorem D3o {S:Addr->Prop} {H:Hp} {x:Str} {c:Addr} {ys:List Str} (sc:S c) (d:H c=some (.lst (ys.map V.str))):∀{ws:List (Key×V)} {es:List (Str×List Str)},AR S H ws es->AR S H (ws.map λkv=>if kv.1=(Sum.inr x:Key) then (kv.1,V.ref c) else kv) (es.map λf=>if f.1=x then (f.1,ys) else f)
 | _,_,.nil=> .nil
 | _,_,@Paired.cons _ _ _ p e _ _ ⟨z1,b,z2,z3,z4⟩ t=>by
  refine .cons ?_ (D3o sc d t);dsimp only;by_cases h:e.1=x
  ·have a:p.1=(Sum.inr x:Key):=by rw [z1,h]
   rw [Z12 h,Z12 a];exact ⟨z1,(i06 c rfl sc d)⟩
  ·have a:¬p.1=(Sum.inr x:Key):=λq=>h (by rw [z1] at q;injection q);rw [Z0t h,Z0t a];exact ⟨z1,(i06 b z2 z3 z4)⟩
theorem D3y {c:Addr} (sc:S c) (a:H c=some (.lst (e.2.map V.str))) (h:AR S H ws es):AR S H (A7y ws (Sum.inr e.1) (.ref c)) (B9d es e):=by
 unfold A7y B9d;rw [D3n h];by_cases q:(es.any λf=>decide (f.1=e.1))=true
 ·rw [Z12 q,Z12 q];exact D3o sc a h
 ·rw [Z0t q,Z0t q];exact B2p h (.cons ⟨rfl,(i06 c rfl sc a)⟩ .nil)
theorem C2q {S:Addr->Prop} {H:Hp}:∀{ws:List (Key×V)} {es:List (Str×List Str)} {as:List (Key×V)} {a:List (Str×List Str)},AR S H as a->AR S H ws es->AR S H (A4h as ws) (es.foldl B9d a)
 | _,_,_,_,ha,.nil=>ha
 | _,_,as,a,ha,@Paired.cons _ _ _ p e ws es ⟨z1,b,z2,z3,z4⟩ t=>by
  obtain ⟨d,c⟩:=p;cases z1;cases z2;have h:=D3y (e:=e) z3 z4 ha;show AR S H (A4h (A7y as (Sum.inr e.1) (.ref b)) ws) (es.foldl B9d (B9d a e));exact C2q h t
theorem D6v (h:(es.map (·.1)).Nodup):((B9d es e).map (·.1)).Nodup:=by
 unfold B9d;by_cases q:(es.any λf=>decide (f.1=e.1))=true
 ·rw [Z12 q,List.map_map]
  have:((λx:Str×List Str=>x.1)∘λf:Str×List Str=>if f.1=e.1 then (f.1,e.2) else f)=λf=>f.1:=by
   funext f;by_cases z:f.1=e.1
   ·show (if f.1=e.1 then (f.1,e.2) else f).1=f.1;rw [Z12 z]
   ·show (if f.1=e.1 then (f.1,e.2) else f).1=f.1;rw [Z0t z]
  rw [this];exact h
 ·rw [Z0t q,Z0s];refine Z0l.mpr (i00 h (by simp) λa g b c=> ?_);have c:=Z0w.mp c;subst c;intro z;subst z;obtain ⟨f,d,i⟩:=Z2c.mp g;exact q (List.any_eq_true.mpr (i02 f d (by simpa using i)))
theorem D1s:(B9d es e).length<=es.length+1:=by
 unfold B9d;by_cases q:(es.any λf=>decide (f.1=e.1))=true
 ·rw [Z12 q,Z08];lia
 ·rw [Z0t q,Z06];simp
theorem D1v {p:List Str->Prop} (h:∀f∈es,p f.2) (b:p e.2):∀f∈B9d es e,p f.2:=λf a=>by
 unfold B9d at a;by_cases q:(es.any λf=>decide (f.1=e.1))=true
 ·rw [Z12 q] at a;obtain ⟨c,d,rfl⟩:=Z2c.mp a;by_cases z:c.1=e.1
  ·rw [Z12 z];exact b
  ·rw [Z0t z];exact h c d
 ·rw [Z0t q] at a;rcases Z07.mp a with a | a
  ·exact h f a
  ·rw [Z0w.mp a];exact b
structure C6o (es:List (Str×List Str)) (n:Nat):Prop where
 nd:(es.map (·.1)).Nodup
 l:es.length<=n
 a:∀e∈es,e.2.length<=100
theorem C6o.put (h:C6o es n) (b:e.2.length<=100):C6o (B9d es e) (n+1):=⟨D6v h.nd,Z1n D1s (by have:=h.l;lia),D1v (p:=λc=>c.length<=100) h.a b⟩
theorem C6o.fold:∀(fs:List (Str×List Str)) {es:List (Str×List Str)} {n:Nat},C6o es n->(∀e∈fs,e.2.length<=100)->C6o (fs.foldl B9d es) (n+fs.length)
 | [],_,_,h,_=>h
 | f::fs,es,n,h,hf=>by
  have:=C6o.fold fs (h.put (hf f (by simp))) λe a=>hf e (by simp [a]);rw [Z0y,show n+(fs.length+1)=n+1+fs.length by lia];exact this
def arP (tb:List (Str×List Str)) (z:List Ln):List (Str×List Str):=(z.map λe=>(e.1,e.2.1)).foldl B9d (tb.foldl B9d [])
theorem D1j {z:List Ln} {e:Ln} (h:z[i]? =some e):arP tb (z.take (i+1))=B9d (arP tb (z.take i)) (e.1,e.2.1):=by
 unfold arP;rw [Z14,h,Z2f,Z0s,List.foldl_append];rfl
theorem D3j {z:List Ln} (h:∀e∈tb,e.2.length<=100) (g:∀e∈z,C9b e):C6o (arP tb z) (tb.length+z.length):=by
 have i:C6o ([]:List (Str×List Str)) 0:=⟨.nil,Z09 _,λe a=>by cases a⟩;have d:=C6o.fold tb i h
 have b:=C6o.fold (z.map λe=>(e.1,e.2.1)) d λe a=>by
  obtain ⟨f,c,rfl⟩:=Z2c.mp a;have:=(g f c).2.1;show f.2.1.length<=100
  lia
 rw [Z08,Nat.zero_add] at b;exact b
structure D8w (ax:List (Str×Int)) (tb:List (Str×List Str)) (ls:List Lt) (os:List Str):Prop where
 nd:(ax.map (·.1)).Nodup
 k:D1a (ax.map (·.1))
 t1:tb.length<=10
 t2:∀e∈tb,e.2.length<=100
 l1:ls.length<=8
 l2:∀e∈ls,D6h e
 o:os.length<=100
abbrev C2n (ax:List (Str×Int)) (ls:List Lt):List Ln:=(duP (ax.map (·.1)) ls).2
theorem D8w.due (h:D8w ax tb ls os):(C2n ax ls).length<=984/\∀e∈C2n ax ls,C9b e:=by
 have c:=h.l1;obtain ⟨_,b,a⟩:=D0b h.k h.l2 (by lia) ls.length (Z09 _);rw [Z18] at b a;exact ⟨by show (duP _ ls).2.length<=984;lia,a⟩
def E3p (A:Adr):Sp:=λg H Q _=>∃(p:Addr) (h:Int) (b:List (Str×Int)) (e:List (Str×List Str)) (c:List Lt) (d:List Str),g=[.ref p]/\D2a A H p h b e c d/\D8w b e c d/\∀(l:Addr) (f:List V) (a:Hp),H l=none->A0u H a->a l=some (.lst f)->Paired (D8n A a) f (C2n b c)->Q (.ref l) a
structure ClAt (A:Adr) (H:Hp) (q:Addr) (ax:List (Str×Int)) (tb:List (Str×List Str)) (ls:List Lt):Prop where
 ob:∃(dc:Addr) (wh:Int) (l a t v o:Addr) (ak:List (Key×V)) (xs:List V),H q=some (clo A dc wh l a t v o)/\H a=some (.dK ak)/\AR (λ_=>True) H ak (arP tb (C2n ax ls))/\H v=some (.lst xs)/\Paired (D8n A H) xs (C2n ax ls)
def E0i (A:Adr):Sp:=λf H Q _=>∃(p:Addr) (g:Int) (a:List (Str×Int)) (c:List (Str×List Str)) (b:List Lt) (e:List Str),f=[.ref p]/\D2a A H p g a c b e/\D8w a c b e/\∀(q:Addr) (d:Hp),A0u H d->ClAt A d q a c b->Q (.ref q) d
theorem C0n (T:Txt K mg t):FO P w base T.px 91 (E3p t):=by
 have Gb9:= @B6x P w K mg base t T;have Gc0:= @B4w P w K mg base t T;have Gc1:= @B0q P w K mg base t T;refine T.px.F.ok A9q (by walk_at "ln") λ_ A _ s H _ Q E hr h=> ?_
 ·obtain ⟨p,wh,X,tb,ls,os,rfl,pr,C,k⟩:=h;obtain ⟨dx,a,tt,ll,o,e,ra,rt,⟨xl,N,n⟩,ho⟩:=pr.ob;have Y:=Paired.length n;have l8:=C.l1;have a5:=C.k.1;rw [Z08] at a5;refine i02 _ (@RS.r _ _ _ (rq1 (rq6 1 A9q.nd (pmk T.yO Gc0 hr T.zy T.j6.b (A0a (pcl Gb9 hr T.ja (A0a (pv 0) A0c)) A0c))) (rq1 (rq7 (A2c (A1c (pv 0) rfl)) (A0k (i:=2) A9q.nd rfl (.inl rfl)) (rq3 ⟨A2r (B4d (pv 1) T.bt T.pf Gc1 (hr.mono (by lia)) T.dz.b .nil B6p (A0a (pv 2) A0c))⟩)) (rq3 (rq5 (A1c (pv 1) rfl)))))) ?_;refine i0l _ rfl p wh X (i0r tb ls os rfl pr (by lia) λq v hq W h1=> ?_);refine λd c g M a6=> ?_;have U:A0u v (upd (upd v c (.own d)) d (.ins t.au c [])):=A0o (A0e M) g;have gG:upd (upd v c (.own d)) d (.ins t.au c []) d=some (.ins t.au c []):=A0b;generalize upd (upd v c (.own d)) d (.ins t.au c [])=G at U gG;refine i0n d c (.ref q) rfl gG λl H2 I D J a1=>⟨rfl,?_⟩;have R:A0u v H2:=KB.same U a1 g;have u:=W.trans R;have a4:H d=none:=W.free g;have lH:H l=none:=W.free (U.free I);have a3:v l=none:=U.free I;have j:A0u v (A0s (S2 d l) H2):=λb o e=>A0h ⟨A0z e g,A0z e a3⟩ (R _ _ e);have O:∀{H3:Hp},K2 d l H2 H3->A0u H H3:=λ{H3} m b o e=>m b o ⟨A0z e a4,A0z e lH⟩ (u _ _ e)
  have x:B1u t (S2 d l) H2 d l c q (X.map (·.1)) (0,[]):=by
   refine ⟨λz=>z.1 rfl,λz=>z.2 rfl,λb S=> ?_,D,j _ _ h1,[],J,.nil⟩;have z1:b≠d:=λz=>by rw [z,D] at S;cases S
   have z2:b≠l:=λz=>by rw [z,J] at S;cases S
   exact ⟨z1,z2⟩
  refine i19 _ rfl p _ dx _ (.ref ll) rfl (u _ _ e) T.bu T.gb (by walk_at "lk") (i06 ll rfl ⟨_,SqL.of (u _ _ N)⟩ ?_)
  refine A2l (K:=K) (a:=ll) (xs:=xl) (λi Z H3=>∃(o2:Option V),Z=[Sro p,Sro d,o2]/\K2 d l H2 H3/\B1u t (S2 d l) H3 d l c q (X.map (·.1)) (duP (X.map (·.1)) (ls.take i)))
   (i06 none rfl (K2.of (A0u.refl _)) x) (by rintro i Z H3 _ ⟨_,_,m,_⟩;exact SqL.of (O m _ _ N)) ?_ ?_
  ·rintro i y Z H3 hy ⟨o2,rfl,m,f⟩;refine B2x ?_;intro D';obtain ⟨le,B,lt⟩:=B3r n hy;have hi:i<ls.length:=(Z03.mp B).1;obtain ⟨d1,d2,d3⟩:=D0b C.k C.l2 (by lia) i (by lia);have a0:=lt.same ((W.trans j).trans (m.rs x.np x.nl));refine i0x _ rfl d c _ rfl f.ep (by walk_at "lk") (i0l _ rfl d l c (i1d q _ _ _ y le rfl f a0 (C.l2 le (Z13 B)) C.k (by lia) (by lia) ⟨d3,λH4 k4 L=> ?_⟩));rw [<-B0g B] at L;exact i06 _ rfl (m.trans k4) L
  ·rintro Z H3 ⟨o2,rfl,m,f⟩;rw [Y,Z18] at f;obtain ⟨xs,h3,a2⟩:=f.hl;exact i19 _ rfl d _ c _ (.ref l) rfl f.ep T.bt T.dm (by walk_at "lk") (k l xs H3 lH (O m) h3 (Paired.mapP a2 λ_ _ z=>z.same A0m))
theorem C1o (T:Txt K mg t):FO P w base T.pq 92 (E0i t):=by
 have Gc2:= @B5v P w K mg base t T;have Gc3:= @B6o P w K mg base t T;have Gc4:= @C0n P w K mg base t T;have Gc5:= @B5c P w K mg base t T;refine T.pq.F.ok A7w (by walk_at "ln") λ_ A _ s H _ Q E hr h=> ?_
 ·obtain ⟨p,N,g,tb,O,os,rfl,pr,C,k⟩:=h;have hu:=A8b hr;obtain ⟨c3,a1⟩:=C.due;have c1:=C.t1;have b7:=C.k.1;rw [Z08] at b7;have lo:=C.o;refine i02 _ (@RS.r _ _ _ (rq1 (rq6 1 A7w.nd (pcl Gc4 hr T.px (A0a (pv 0) A0c))) (rq1 (rq6 2 A7w.nd (A2k (B5m rfl) (by rfl) T.mh Z2q (A0a (A1c (pv 0) rfl) A0c))) (rq1 (rq7 (A2c (pv 1)) (A0k (i:=3) A7w.nd rfl (.inl rfl)) (rq3 ⟨@A6s _ _ _ _ _ _ _ _ _ hu (pv 2) (A1c (pv 3) rfl) (A1c (pv 3) rfl) rfl⟩)) (rq3 (rq5 (pmk T.zO Gc2 hr T.Ad T.jc.b (A0a (A1c (pv 0) rfl) (A0a (pcl Gc3 hr T.jm (A0a (pv 0) A0c)) (A0a (pv 2) (A0a (pcl Gc5 hr T.i_ (A0a (pv 0) A0c)) (A0a (pv 1) (A0a (A1c (pv 0) rfl) A0c))))))))))))) ?_;refine i0l _ rfl p N g (i0r tb O os rfl pr C λl xs J c9 s1 D q=> ?_);have b9:=Paired.length q;obtain ⟨dx,a,tt,ll,o,e,ra,rt,_,ho⟩:=(pr.same s1).ob;obtain ⟨t2,xt,et,a7,b5⟩:=A5v (show Rep J (.ref tt) (.list (tb.map C6b)) from rt);cases et;obtain ⟨I,pl,ar⟩:=E1n b5;have a3:AR (λ_=>True) J (A4h [] I) (tb.foldl B9d []):=C2q .nil ar;refine i19 _ rfl p _ dx _ (.ref tt) rfl e T.bu T.dy (by walk_at "lk") (i0r tt xt I rfl a7 pl λad U=> ?_);generalize A4h [] I=kv0 at a3;have s2:A0u J (upd J ad (.dK kv0)):=A0e U;refine i0k _ rfl l rfl ⟨_,SqL.of (s2 _ _ D)⟩ ?_
  refine A2l (K:=K) (a:=l) (xs:=xs) (λi Z L=>∃(o3:Option V) (Y:List (Key×V)),Z=[Sro p,Sro l,Sro ad,o3]/\A0u J L/\L ad=some (.dK Y)/\AR (λ_=>True) L Y (arP tb ((C2n g O).take i)))
   (i0m none kv0 rfl s2 A0b (a3.same s2)) (by rintro i Z L _ ⟨_,_,_,f,_⟩;exact SqL.of (f _ _ D)) ?_ ?_
  ·rintro i y Z L hy ⟨o3,Y,rfl,f,h3,d⟩;refine B2x ?_;intro D';obtain ⟨le,c0,lb,db,c,u,tv,rfl,eb,hc,_⟩:=B3r q hy;have lw:=Paired.length d;have eo:=D3j (tb:=tb) (z:=(C2n g O).take i) C.t2 λe he=>a1 e (Z2p he);have X:=eo.l;rw [Z0x] at X;have W:=f _ _ hc;refine i19 _ rfl lb _ db _ (.ref c) rfl (f _ _ eb) T.gh T.jj (by walk_at "lk") (i02 _ rfl (i19 _ rfl lb _ db _ (.str le.1) rfl (f _ _ eb) T.gh T.jk (by walk_at "lk") (i0f ad _ rfl (C0e.k (k:=Sum.inr le.1) h3 (A1l (by lia))) ?_)));refine i0m _ _ rfl (A0o f U) A0b ?_;rw [D1j c0];refine D3y (e:=(le.1,le.2.1)) (c:=c) True.intro ?_ (d.imp λb zs _ z=>⟨True.intro,by rw [A0i (A3j z h3 (by intro w;cases w))];exact z⟩);rw [A0i (A3j W h3 (by intro w;cases w))];exact W
  ·rintro Z L ⟨o3,Y,rfl,f,h3,d⟩;rw [b9,Z18] at d;have eo:=D3j (tb:=tb) (z:=C2n g O) C.t2 a1;have X:=eo.l;have lw:=Paired.length d;have a0:=s1.trans f;refine i19 _ rfl p _ dx _ (.int N) rfl (f _ _ e) T.bu T.j8 (by walk_at "lk") (i0l _ rfl p N g (i0r tb O os rfl (pr.same a0) C.nd λql b2=> ?_));obtain ⟨G4,s4,a6,b0⟩:=nH (o:= .dK (A2g g)) b2
   try rw [b0]
   refine i02 _ rfl (i0l _ rfl p N g (i0r tb O os rfl (pr.same (a0.trans s4)) (by lia) λqt R d3 s5 h5=> ?_));have n:=s4.trans s5;refine i02 _ rfl (i19 _ rfl p _ dx _ (.ref o) rfl (n _ _ (f _ _ e)) T.bu T.jy (by walk_at "lk") λB v m b1 c6=> ?_);have M:A0u R (upd (upd R v (.own B)) B (.ins t.ao v [])):=A0o (A0e b1) m;have g6:upd (upd R v (.own B)) B (.ins t.ao v []) B=some (.ins t.ao v []):=A0b;generalize upd (upd R v (.own B)) B (.ins t.ao v [])=G6 at M g6;have G:=n.trans M;have S:=f.trans G
   have b3:J o=some (.lst (os.map V.str)):=by
    obtain ⟨_,e1,e2⟩:=B6r ho;cases e1;exact e2
   refine ⟨B,(i11 v ql ad qt l o N (A2g g) Y (i1d (g.map (·.2)) _ (tb.map (·.1)) os xs _ rfl g6 (M _ _ (s5 _ _ a6)) (C3r g) (by unfold A2g;rw [Z08];lia) (G _ _ h3) (d.same G) (i09 (by lia) eo.a (M _ _ h5) (by rw [Z08];lia) (i0h (S _ _ D) (by lia) (λx hx=> ?_) (S _ _ b3) (by lia) λl' a' t' v' o' b8 H9 b6 c4 d2 d1 a9 a8 c2 c8 c5 a5 c7 d4 b4=>⟨rfl,?_⟩))))⟩
   ·obtain ⟨j,hj⟩:=List.getElem?_of_mem hx;obtain ⟨le,_,x0,d0,_,_,_,rfl,e0,_⟩:=B3r q hj;have e5:=n _ _ (f _ _ e0);exact i0n x0 d0 _ rfl (λz=>by subst z;rw [e5] at m;cases m) (M _ _ e5)
   have a4:A0u R H9:=KB.same M b4 m;have a2:=f.trans (n.trans a4);exact k B H9 (s1.trans a2) ⟨v,N,l',a',t',v',o',b8,xs,b6,a9,a8.imp λb zs _ z=>⟨True.intro,z⟩,a5,Paired.mapP q λ_ _ z=>z.same a2⟩
abbrev Env:=Str->Int
def A5y (ρ:Env) (ix:List (Str×Int)):List Int:=ix.map λe=>ρ e.1+e.2
def A5h (ρ:Env):Tm->List (Str×List Int)
 | .read a ix=>[(a,A5y ρ ix)]
 | .guard x lo hi l r=>if lo<=ρ x/\ρ x<hi then A5h ρ l else A5h ρ r
 | .pair _ l r=>A5h ρ l++A5h ρ r
 | _=>[]
def inC (L:Str->Int):List Str->List Int->Prop
 | [],[]=>True
 | x::xs,c::cs=>(0<=c/\c<L x)/\inC L xs cs
 | _,_=>False
def A6u:List Int->List Int->Prop
 | a::as,b::bs=>a<b\/(a=b/\A6u as bs)
 | _,_=>False
abbrev OkP:=Env->Str->List Int->Prop
def B2n (ρ:Env) (x:Str) (i:Int):Env:=λy=>if y=x then i else ρ y
theorem B7x (ρ:Env) (x:Str):B2n ρ x (ρ x)=ρ:=by
 funext y;unfold B2n;split
 ·next h=>rw [h]
 ·rfl
def A1y (L:Str->Int) (okn:OkP):OkP->Env->Tm->Prop
 | ok,ρ,.read a ix=>ok ρ a (A5y ρ ix)
 | ok,ρ,.guard x lo hi l r=>(lo<=ρ x/\ρ x<hi->A1y L okn ok ρ l)/\(¬(lo<=ρ x/\ρ x<hi)->A1y L okn ok ρ r)
 | ok,ρ,.pair _ l r=>A1y L okn ok ρ l/\A1y L okn ok ρ r
 | _,ρ,.sum x b=>∀i,0<=i->i<L x->A1y L okn okn (B2n ρ x i) b
 | _,_,.num _=>True
 | _,_,.place _=>True
def InR (L:Str->Int) (sc:List Str) (ρ:Env):Prop:=ρ ""=0/\∀x∈sc,0<=ρ x/\ρ x<L x
def C1c (g:List Gd) (ρ:Env):Prop:=∀e∈g,(e.2.2.2=true↔(e.2.1<=ρ e.1/\ρ e.1<e.2.2.1))
def A6p (nm:List Str):List Str->Tm->Prop
 | sc,.place x=>x∈sc
 | sc,.read _ ix=>∀e∈ix,e.1=""\/e.1∈sc
 | sc,.guard x _ _ l r=>x∈sc/\A6p nm sc l/\A6p nm sc r
 | sc,.pair _ l r=>A6p nm sc l/\A6p nm sc r
 | sc,.sum x b=>x∈nm/\x∉sc/\A6p nm (sc++[x]) b
 | _,.num _=>True
def nsM:Tm->Prop
 | .sum _ _=>False
 | .pair _ l r=>nsM l/\nsM r
 | .guard _ _ _ l r=>nsM l/\nsM r
 | _=>True
def knM (L:Str->Int) (tb:List (Str×List Str)) (zs:List Ln) (a:Str) (c:List Int):Prop:=(∃e∈tb,e.1=a/\inC L e.2 c)\/∃e∈zs,e.1=a/\inC L e.2.1 c
theorem knM.mono {zs ys:List Ln} (h:knM L tb zs a c):knM L tb (zs++ys) a c:=by
 rcases h with h | ⟨e,b,h⟩
 ·exact .inl h
 ·exact .inr (i02 e (Z07.mpr (.inl b)) h)
structure E3r (L:Str->Int) (tb:List (Str×List Str)) (zs:List Ln) (e:Ln):Prop where
 ns:nsM e.2.2.2
 ti:∀nm,A6p nm (e.2.1++e.2.2.1) e.2.2.2
 lk:∀ρ:Env,InR L (e.2.1++e.2.2.1) ρ->(∀x,x∉e.2.1++e.2.2.1->ρ x=0)->∀p∈A5h ρ e.2.2.2,knM L tb zs p.1 p.2\/(p.1=e.1/\inC L e.2.1 p.2/\A6u p.2 (e.2.1.map ρ))
def B9e (L:Str->Int) (tb:List (Str×List Str)) (zs:List Ln):Prop:=∀(i:Nat) (e:Ln),zs[i]? =some e->E3r L tb (zs.take i) e
theorem B9e.snoc {zs:List Ln} {e:Ln} (h:B9e L tb zs) (b:E3r L tb zs e):B9e L tb (zs++[e]):=by
 intro i f a;by_cases hi:i<zs.length
 ·rw [Z26 hi] at a;rw [List.take_append_of_le_length (by lia)];exact h i f a
 ·have:i=zs.length:=by
   have:=(Z03.mp a).1;simp at this
   lia
  subst this;rw [Z1l (Z09 _)] at a;simp at a;subst a;rw [List.take_append_of_le_length (Z09 _),Z18];exact b
theorem C1j {ρ:Env} {u:Tm}:∀{g:List Gd} {p:Str×List Int},p∈A5h ρ (gdM g u)->C1c g ρ/\p∈A5h ρ u
 | [],p,h=>⟨(λe a=>by cases a),h⟩
 | (x,lo,hi,b)::g,p,h=>by
  cases b with
  | true =>
   have h:p∈(if lo<=ρ x/\ρ x<hi then A5h ρ (gdM g u) else []):=h;split at h
   ·next hc =>
    obtain ⟨c,d⟩:=C1j h;refine ⟨λe a=> ?_,d⟩;rcases Z0e.mp a with rfl | a
    ·exact ⟨λ_=>hc,λ_=>rfl⟩
    ·exact c e a
   ·cases h
  | false =>
   have h:p∈(if lo<=ρ x/\ρ x<hi then [] else A5h ρ (gdM g u)):=h;split at h
   ·cases h
   ·next hc =>
    obtain ⟨c,d⟩:=C1j h;refine ⟨λe a=> ?_,d⟩;rcases Z0e.mp a with rfl | a
    ·exact ⟨(λz=>by cases z),λz=>absurd z hc⟩
    ·exact c e a
theorem D7o {u:Tm} (h:nsM u):∀g:List Gd,nsM (gdM g u)
 | []=>h
 | (x,lo,hi,b)::g=>by
  have:=D7o h g
  cases b with
  | true=>exact ⟨this,True.intro⟩
  | false=>exact ⟨True.intro,this⟩
theorem D8a {nm sc:List Str} {u:Tm} (h:A6p nm sc u):∀g:List Gd,(∀e∈g,e.1∈sc)->A6p nm sc (gdM g u)
 | [],_=>h
 | (x,lo,hi,b)::g,hg=>by
  have:=D8a h g λe a=>hg e (.tail _ a)
  cases b with
  | true=>exact i00 (hg _ (.head _)) this True.intro
  | false=>exact i00 (hg _ (.head _)) True.intro this
theorem B1a {nm:List Str}:∀{u:Tm} {s:List Str} {g:List Gd} {sc:List Str},nsM u->A6p nm sc u->∀{d:List Str},(∀x,¬x=("":Str)->x∈((prT u s g).flatMap λe=>axO e.1)->x∈d)->(∀x∈sc,¬x=("":Str))->A6p nm d u
 | .num _,_,_,_,_,_,_,_,_=>True.intro
 | .place x,_,_,_,_,h,_,hc,hn=>hc x (hn x h) (by simp [prT,axO])
 | .read a ix,_,_,_,_,h,_,hc,hn=>λe f=>by
  rcases h e f with z | z
  ·exact .inl z
  ·refine .inr (hc e.1 (hn _ z) ?_);simp only [prT,List.flatMap_cons,List.flatMap_nil,Z0u];show e.1∈(ix.filter _).map _;exact Z2c.mpr (i02 e (List.mem_filter.mpr ⟨f,Z20 (hn _ z)⟩) rfl)
 | .pair k l r,s,g,_,n,h,_,hc,hn=>by
  refine ⟨B1a (s:=s) (g:=g) n.1 h.1 (λx b c=>hc x b ?_) hn,B1a (s:=s) (g:=g) n.2 h.2 (λx b c=>hc x b ?_) hn⟩
  ·simp only [prT,List.flatMap_cons,List.flatMap_append,Z07];exact .inr (.inl c)
  ·simp only [prT,List.flatMap_cons,List.flatMap_append,Z07];exact .inr (.inr c)
 | .guard y lo hi l r,s,g,_,n,h,_,hc,hn=>by
  refine i00 (hc y (hn y h.1) ?_) (B1a (s:=s) (g:=g++[(y,lo,hi,true)]) n.1 h.2.1 (λx b c=>hc x b ?_) hn) (B1a (s:=s) (g:=g++[(y,lo,hi,false)]) n.2 h.2.2 (λx b c=>hc x b ?_) hn)
  ·simp only [prT,List.flatMap_cons,List.flatMap_append,Z07];exact .inl (by show y∈[y];simp)
  ·simp only [prT,List.flatMap_cons,List.flatMap_append,Z07];exact .inr (.inl c)
  ·simp only [prT,List.flatMap_cons,List.flatMap_append,Z07];exact .inr (.inr c)
 | .sum _ _,_,_,_,n,_,_,_,_=>n.elim
theorem A8f {nm:List Str} {x:Str}:∀{u:Tm} {s:List Str} {g:List Gd} {sc:List Str},nsM u->A6p nm sc u->x∈((prT u s g).flatMap λe=>axO e.1)->x∈sc
 | .num _,_,_,_,_,_,h=>by simp [prT,axO] at h
 | .place y,_,_,_,_,t,h=>by
  have:x=y:=by simpa [prT,axO] using h
  rw [this];exact t
 | .read a ix,_,_,_,_,t,h=>by
  simp only [prT,List.flatMap_cons,List.flatMap_nil,Z0u] at h;obtain ⟨e,d,rfl⟩:=Z2c.mp (show x∈(ix.filter λe=>decide (¬e.1=("":Str))).map (·.1) from h);obtain ⟨c,b⟩:=List.mem_filter.mp d;exact (t e c).resolve_left (of_decide_eq_true b)
 | .pair k l r,_,_,_,n,t,h=>by
  simp only [prT,List.flatMap_cons,List.flatMap_append,Z07] at h;rcases h with h | h | h
  ·cases h
  ·exact A8f n.1 t.1 h
  ·exact A8f n.2 t.2 h
 | .guard y lo hi l r,_,_,_,n,t,h=>by
  simp only [prT,List.flatMap_cons,List.flatMap_append,Z07] at h;rcases h with h | h | h
  ·have:x=y:=by simpa [axO] using h
   rw [this];exact t.1
  ·exact A8f n.1 t.2.1 h
  ·exact A8f n.2 t.2.2 h
 | .sum _ _,_,_,_,n,_,_=>n.elim
theorem D0e {L:Str->Int} {ρ:Env}:∀{ys:List Str},(∀x∈ys,0<=ρ x/\ρ x<L x)->inC L ys (A5y ρ (ys.map λx=>(x,(0:Int))))
 | [],_=>True.intro
 | y::ys,h=>by
  have b:=h y (.head _);refine ⟨?_,D0e λx a=>h x (.tail _ a)⟩;show 0<=ρ y+0/\ρ y+0<L y
  lia
theorem B5l {nm a:List Str}:∀{u:Tm} {sc:List Str},nsM u->A6p nm sc u->A6p a sc u
 | .num _,_,_,_=>True.intro
 | .place _,_,_,h=>h
 | .read _ _,_,_,h=>h
 | .guard _ _ _ l r,_,n,h=>(i00 h.1 (B5l n.1 h.2.1) (B5l n.2 h.2.2))
 | .pair _ l r,_,n,h=>⟨B5l n.1 h.1,B5l n.2 h.2⟩
 | .sum _ _,_,n,_=>n.elim
structure WsG (L:Str->Int) (tb:List (Str×List Str)) (ok:OkP) (nm sc:List Str) (g:List Gd) (z:LS) (r:Tm×LS):Prop where
 pre:∃ys,r.2.2=z.2++ys
 all:B9e L tb r.2.2
 ns:nsM r.1
 ti:A6p nm sc r.1
 lk:∀ρ,InR L sc ρ->C1c g ρ->∀p∈A5h ρ r.1,ok ρ p.1 p.2\/knM L tb r.2.2 p.1 p.2
def okP (okn a:OkP) (pend:List Str):OkP:=if pend=[] then a else okn
structure WsC (L:Str->Int) (nm sc pend:List Str) (g:List Gd):Prop where
 n:∀x∈nm,¬x=("":Str)
 l:∀x∈nm,1<=L x
 s:∀x∈sc++pend,x∈nm
 g:∀e∈g,e.1∈sc
theorem A8w {nm:List Str}:x∈B3c nm pend b↔x∈nm/\x∈C1a b/\x∉pend:=by
 unfold B3c;rw [List.mem_filter];simp
theorem B8z {okn t:OkP} {nm:List Str} (c:WsC L nm sc pend g) (F:∀ρ a d,okn ρ a d->knM L tb z.2 a d) (h:WsG L tb (okP okn t pend) nm (sc++pend) g z r):WsG L tb t nm sc g z (fin nm pend g r):=by
 by_cases j:pend=[]
 ·subst j;have h:WsG L tb t nm (sc++[]) g z r:=h;rw [Z0u] at h;exact h
 ·have v:okP okn t pend=okn:=by unfold okP;rw [Z0t j]
  rw [v] at h;rw [C8t j];have f:=D7o h.ns g;have k:A6p nm (sc++pend) (gdM g r.1):=D8a h.ti g λe y=>Z07.mpr (.inl (c.g e y));have B:=h.lk
  have o:∀ρ,InR L (sc++pend) ρ->∀p∈A5h ρ (gdM g r.1),okn ρ p.1 p.2\/knM L tb r.2.2 p.1 p.2:=λρ m p j=>by
   obtain ⟨C,w⟩:=C1j j;exact B ρ m C p w
  obtain ⟨H,A⟩:=h.pre;have G:=h.all;clear B h;generalize gdM g r.1=b at f k o
  have q:∀x∈B3c nm pend b,x∈sc:=λx i=>by
   obtain ⟨_,w,J⟩:=A8w.mp i;rcases Z07.mp (A8f f k w) with z | z
   ·exact z
   ·exact absurd z J
  have D:E3r L tb r.2.2 (lfL nm pend r.2.1 b):=by
   refine ⟨f,λI=>B5l f (B1a (s:=[]) (g:=[]) f k (λx M i=> ?_) λx i=>c.n x (c.s x i)),λρ m K p j=> .inl ?_⟩
   ·by_cases hq:x∈pend
    ·exact Z07.mpr (.inr hq)
    ·exact Z07.mpr (.inl (A8w.mpr (i00 (c.s x (A8f f k i)) i hq)))
   ·have u:InR L (sc++pend) ρ:=by
     refine ⟨m.1,λx i=> ?_⟩;by_cases hq:x∈B3c nm pend b++pend
     ·exact m.2 x hq
     ·rw [K x hq];have:=c.l x (c.s x i)
      lia
    rcases o ρ u p j with z | z
    ·have:=F ρ _ _ z;rw [A];exact this.mono
    ·exact z
  refine ⟨⟨H++[lfL nm pend r.2.1 b],by show r.2.2++_=_;rw [A,Z0z]⟩,G.snoc D,True.intro,λe y=> ?_,λρ m _ p j=> .inr ?_⟩
  ·obtain ⟨x,i,rfl⟩:=Z2c.mp y;exact .inr (q x i)
  ·have j:p=(sN r.2.1,A5y ρ ((B3c nm pend b).map λx=>(x,(0:Int)))):=Z0w.mp j;rw [j];exact .inr (i06 (lfL nm pend r.2.1 b) (Z07.mpr (.inr (.head _))) rfl (D0e λx i=>m.2 x (q x i)))
theorem C1c.add {b:Bool}:C1c (g++[(x,lo,hi,b)]) ρ↔C1c g ρ/\(b=true↔(lo<=ρ x/\ρ x<hi)):=by
 constructor
 ·intro h;exact ⟨λe a=>h e (Z07.mpr (.inl a)),h _ (Z07.mpr (.inr (.head _)))⟩
 ·rintro ⟨d,c⟩ e a;rcases Z07.mp a with a | a
  ·exact d e a
  ·rw [Z0w.mp a];exact c
theorem B3x {okn a:OkP}:okP okn a []=a:=Z12 rfl
theorem C4o {L:Str->Int} {tb:List (Str×List Str)} {okn:OkP} {nm:List Str}:∀(u:Tm) (q:OkP) (sc pend:List Str) (g:List Gd) (z:LS),WsC L nm sc pend g->(∀ρ a d,okn ρ a d->knM L tb z.2 a d)->(∀ρ,InR L (sc++pend) ρ->C1c g ρ->A1y L okn (okP okn q pend) ρ u)->A6p nm (sc++pend) u->B9e L tb z.2->WsG L tb q nm sc g z (wsP nm u pend g z)
 | .num n,q,sc,pend,g,z,c,hk,hs,m,al=>B8z c hk (r:=(.num n,z)) ⟨⟨[],(Z0u _).symm⟩,al,True.intro,True.intro,λρ _ _ p i=>by cases i⟩
 | .place x,q,sc,pend,g,z,c,hk,hs,m,al=>B8z c hk (r:=(.place x,z)) ⟨⟨[],(Z0u _).symm⟩,al,True.intro,m,λρ _ _ p i=>by cases i⟩
 | .read a ix,q,sc,pend,g,z,c,hk,hs,m,al=>B8z c hk (r:=(.read a ix,z)) ⟨⟨[],(Z0u _).symm⟩,al,True.intro,m,λρ f j p i=>by rw [Z0w.mp i];exact .inl (hs ρ f j)⟩
 | .sum x b,q,sc,pend,g,z,c,hk,hs,m,al=>by
  have e:sc++(pend++[x])=sc++pend++[x]:=(Z0z _ _ _).symm;have H:okP okn q (pend++[x])=okn:=by unfold okP;rw [Z0t (by simp)]
  refine C4o b q sc (pend++[x]) g z ⟨c.n,c.l,λy o=> ?_,c.g⟩ hk (λρ f j=> ?_) (by rw [e];exact m.2.2) al
  ·rw [e] at o;rcases Z07.mp o with o | o
   ·exact c.s y o
   ·rw [Z0w.mp o];exact m.1
  ·rw [H];rw [e] at f;have G:=f.2 x (by simp);have h:=hs ρ ⟨f.1,λy o=>f.2 y (Z07.mpr (.inl o))⟩ j (ρ x) G.1 G.2;rw [B7x] at h;exact h
 | .pair k l r,q,sc,pend,g,z,c,hk,hs,m,al=>by
  have A:WsC L nm (sc++pend) [] g:=⟨c.n,c.l,λy o=>c.s y (by rw [Z0u] at o;exact o),λe t=>Z07.mpr (.inl (c.g e t))⟩;have a:=C4o (L:=L) (tb:=tb) (okn:=okn) l (okP okn q pend) (sc++pend) [] g z A hk (λρ f j=>by rw [Z0u] at f;rw [B3x];exact (hs ρ f j).1) (by rw [Z0u];exact m.1) al;obtain ⟨B,w⟩:=a.pre;have b:=C4o (L:=L) (tb:=tb) (okn:=okn) r (okP okn q pend) (sc++pend) [] g (wsP nm l [] g z).2 A (λρ a d h=>by rw [w];exact (hk ρ a d h).mono) (λρ f j=>by rw [Z0u] at f;rw [B3x];exact (hs ρ f j).2) (by rw [Z0u];exact m.2) a.all;obtain ⟨F,v⟩:=b.pre;refine B8z c hk (r:=(.pair k _ _,_)) ⟨⟨B++F,by rw [v,w,Z0z]⟩,b.all,⟨a.ns,b.ns⟩,⟨a.ti,b.ti⟩,λρ f j p i=> ?_⟩;rcases Z07.mp i with i | i
  ·refine (a.lk ρ f j p i).imp id λh=> ?_;rw [v];exact h.mono
  ·exact b.lk ρ f j p i
 | .guard x lo hi l r,q,sc,pend,g,z,c,hk,hs,m,al=>by
  have A:∀b:Bool,WsC L nm (sc++pend) [] (g++[(x,lo,hi,b)]):=λb=>by
   refine ⟨c.n,c.l,λy o=>c.s y (by rw [Z0u] at o;exact o),λe t=> ?_⟩;rcases Z07.mp t with t | t
   ·exact Z07.mpr (.inl (c.g e t))
   ·rw [Z0w.mp t];exact m.1
  have a:=C4o (L:=L) (tb:=tb) (okn:=okn) l (okP okn q pend) (sc++pend) [] (g++[(x,lo,hi,true)]) z (A true) hk (λρ f j=>by rw [Z0u] at f;rw [B3x];obtain ⟨D,C⟩:=C1c.add.mp j;exact (hs ρ f D).1 (C.mp rfl)) (by rw [Z0u];exact m.2.1) al;obtain ⟨B,w⟩:=a.pre;have b:=C4o (L:=L) (tb:=tb) (okn:=okn) r (okP okn q pend) (sc++pend) [] (g++[(x,lo,hi,false)]) (wsP nm l [] (g++[(x,lo,hi,true)]) z).2 (A false) (λρ a d h=>by rw [w];exact (hk ρ a d h).mono) (λρ f j=>by rw [Z0u] at f;rw [B3x];obtain ⟨D,C⟩:=C1c.add.mp j;exact (hs ρ f D).2 λz=>absurd (C.mpr z) (by decide)) (by rw [Z0u];exact m.2.2) a.all;obtain ⟨F,v⟩:=b.pre;refine B8z c hk (r:=(.guard x lo hi _ _,_)) ⟨⟨B++F,by rw [v,w,Z0z]⟩,b.all,⟨a.ns,b.ns⟩,(i00 m.1 a.ti b.ti),λρ f j p i=> ?_⟩;by_cases hc:lo<=ρ x/\ρ x<hi
  ·have i:p∈(if lo<=ρ x/\ρ x<hi then A5h ρ (wsP nm l [] (g++[(x,lo,hi,true)]) z).1 else _):=i;rw [Z12 hc] at i;refine (a.lk ρ f (C1c.add.mpr ⟨j,λ_=>hc,λ_=>rfl⟩) p i).imp id λh=> ?_;rw [v];exact h.mono
  ·have i:p∈(if lo<=ρ x/\ρ x<hi then _ else A5h ρ (wsP nm r [] (g++[(x,lo,hi,false)]) (wsP nm l [] (g++[(x,lo,hi,true)]) z).2).1):=i;rw [Z0t hc] at i;exact b.lk ρ f (C1c.add.mpr ⟨j,(λz=>by cases z),λz=>absurd z hc⟩) p i
def A3l (L:Str->Int):List Str->Int
 | []=>1
 | x::xs=>L x*A3l L xs
theorem A8g {L:Str->Int}:∀xs ys:List Str,A3l L (xs++ys)=A3l L xs*A3l L ys
 | [],ys=>(Int.one_mul _).symm
 | x::xs,ys=>by
  show L x*A3l L (xs++ys)=L x*A3l L xs*A3l L ys;rw [A8g xs ys,Int.mul_assoc]
theorem A6w {L:Str->Int}:∀{xs:List Str},(∀x∈xs,1<=L x)->1<=A3l L xs
 | [],_=>Int.le_refl 1
 | x::xs,h=>by
  have b:=h x (.head _);have a:=A6w λy c=>h y (.tail _ c);have:=Int.mul_le_mul b a (by lia) (by lia);show 1<=L x*A3l L xs
  lia
theorem C2x {L:Str->Int}:∀{ax sc:List Str},ax.Nodup->(∀x∈ax,x∈sc)->(∀x∈sc,1<=L x)->A3l L ax<=A3l L sc
 | [],sc,_,_,h=>A6w h
 | x::ax,sc,n,hs,h=>by
  obtain ⟨d,f⟩:=Z15.mp n;obtain ⟨c,b,rfl⟩:=List.append_of_mem (hs x (.head _))
  have e:A3l L (c++x::b)=L x*A3l L (c++b):=by
   rw [A8g,A8g];show A3l L c*(L x*A3l L b)=L x*(A3l L c*A3l L b);rw [Int.mul_left_comm]
  rw [e];refine Z29 (C2x f (λy a=> ?_) λy a=>h y ?_) (by have:=h x (by simp);lia)
  ·have:=hs y (.tail _ a);rcases Z07.mp this with z | z
   ·exact Z07.mpr (.inl z)
   ·rcases Z0e.mp z with z | z
    ·rw [z] at a;exact absurd a d
    ·exact Z07.mpr (.inr z)
  ·rcases Z07.mp a with z | z
   ·exact Z07.mpr (.inl z)
   ·exact Z07.mpr (.inr (.tail _ z))
def wtM (L:Str->Int):Tm->Int
 | .sum x b=>1+L x*wtM L b
 | .pair _ l r=>1+wtM L l+wtM L r
 | .guard _ _ _ l r=>1+wtM L l+wtM L r
 | _=>1
theorem A6j {α:Type} {f:α->V} {xs:List α} (h:(xs.map f)[i]? =some v):∃x,xs[i]? =some x/\v=f x:=by
 rw [Z1z] at h
 cases e:xs[i]? with
 | none=>rw [e] at h;cases h
 | some x=>rw [e] at h;exact i02 x rfl ((Z1a h).symm)
def B4r:Sp:=λa H Q _=>∃r:Int,a=[.int r]/\∀z:Int,Sm z->Q (.int z) H
def B0d (lk:List (Key×V)) (nm:List Str):Prop:=∀y∈nm,∃n:Int,A5l lk (Sum.inr y)=some (.int n)/\1<=n/\n<=60
inductive B0b (lk:List (Key×V)):List Str->Int->Prop
 | nil:B0b lk [] 1
 | snoc {ys:List Str} {y:Str} {z n:Int}:B0b lk ys z->A5l lk (Sum.inr y)=some (.int n)->B0b lk (ys++[y]) (z*n)
def C6z:Sp:=λc H Q _=>∃(l d:Addr) (a:List Str) (b:List (Key×V)),c=[.ref l,.ref d]/\H l=some (.lst (a.map V.str))/\H d=some (.dK b)/\B0d b a/\∀(z:Int),1<=z->B0b b a z->Q (.int z) H
def B8h:Sp:=λh H Q _=>∃(r a:Int) (g d:Addr) (c:List Str) (f:List (Key×V)),h=[.int r,.ref g,.ref d,.int a]/\H g=some (.lst (c.map V.str))/\c.length<=1000/\H d=some (.dK f)/\B0d f c/\
 ∀(l:Addr) (b:List Str) (e:Hp),H l=none->A0u H e->e l=some (.lst (b.map V.str))->(∀y∈b,y∈c)->b.length<=3->(b≠[]->∃z,B0b f b z/\z<=a)->b.Nodup->Q (.ref l) e
theorem C3f {k:Key}:(kvs.map (·.1)).Nodup->kvs[i]? =some (k,v)->A5l kvs k=some v:=by
 induction kvs generalizing i with
 | nil=>intro _ h;simp at h
 | cons p r ih =>
  intro n h;have n:(p.1::r.map (·.1)).Nodup:=n;obtain ⟨a,b⟩:=Z15.mp n
  cases i with
  | zero =>
   simp at h;subst h;exact A4d rfl
  | succ j =>
   have h:r[j]? =some (k,v):=by simpa using h
   rw [A4c (λe=>a (by rw [e];exact Z2c.mpr (i02 _ (Z13 h) rfl)))];exact ih b h
theorem C3b {k:Key} (h:A5l kvs k=some v):∃p∈kvs,p.1=k/\p.2=v:=by
 unfold A5l at h;obtain ⟨p,a,e⟩:=Z0i.mp h;have:=List.find?_some a;exact i06 p (List.mem_of_find?_eq_some a) (of_decide_eq_true this) e
def B9s (K:Frag):Sp:=λb H Q _=>∃(a:Addr) (c:List Int) (k:Int),b=[.ref a,.int k]/\SqL K H a (c.map V.int)/\0<=k/\∀z:Int,Q (.int z) H
def Dsc (b a:Str) (F:Int) (j:Nat) (x:Str):Prop:=∃c,abc.cps.toList[((F+(j:Int))%26).toNat]? =some c/\(x=b++⟨#[c]⟩++a\/x=b++⟨#[c]⟩++a++"s")
theorem C8v:abc.cps.toList.Nodup:=by decide +kernel
theorem B6v (h:x=y):x.cps.toList=y.cps.toList:=by rw [h]
theorem D3t (a b c:Str):(a++b++c).cps.toList=a.cps.toList++b.cps.toList++c.cps.toList:=by rw [Str.cps_append,Array.toList_append,Str.cps_append,Array.toList_append]
theorem D9f {b a:Str} {F:Int} {j:Nat} (hi:i<26) (t:j<26) (n:Dsc b a F i x) (o:Dsc b a F j y) (u:i≠j):x≠y:=by
 obtain ⟨c,k,s⟩:=n;obtain ⟨d,l,r⟩:=o
 have p:c≠d:=λz=>by
  subst z;have q:=(Z03.mp k).1;have v:=(Z03.mp l).1;have:=(List.getElem?_inj q C8v).mp (k.trans l.symm)
  lia
 have g:(⟨#[c]⟩:Str).cps.toList=[c]:=rfl;have h:(⟨#[d]⟩:Str).cps.toList=[d]:=rfl
 have f:b.cps.toList++[c]++a.cps.toList≠b.cps.toList++[d]++a.cps.toList:=λz=>by
  rw [Z0z,Z0z] at z;have:=List.append_cancel_left z;injection this with z1 z2;exact p z1
 have m:("s":Str).cps.toList.length=1:=by decide +kernel
 intro e;rcases s with rfl | rfl <;> rcases r with rfl | rfl
 ·have:=B6v e;rw [D3t,D3t,g,h] at this;exact f this
 ·have:=congrArg List.length (B6v e);rw [Str.cps_append _ ("s":Str),Array.toList_append,D3t,D3t,g,h] at this;simp only [Z06,Z0y,Z2g,m] at this
  lia
 ·have:=congrArg List.length (B6v e);rw [Str.cps_append _ ("s":Str),Array.toList_append,D3t,D3t,g,h] at this;simp only [Z06,Z0y,Z2g,m] at this
  lia
 ·have:=B6v e;rw [Str.cps_append _ ("s":Str),Array.toList_append,Str.cps_append _ ("s":Str),Array.toList_append,D3t,D3t,g,h] at this;exact f (List.append_cancel_right this)
theorem C7h {d c:Str} {F:Int} {nm:List Str} (q:n<=26) (h:Paired (Dsc d c F) (List.range n) nm):nm.Nodup:=by
 have l:=Paired.length h;rw [List.length_range] at l;refine List.pairwise_iff_getElem.mpr λi j k g m=> ?_;obtain ⟨a,e,p⟩:=A7a h (Z0b k);obtain ⟨b,f,o⟩:=A7a h (Z0b g);rw [List.getElem?_range (by lia)] at e f;cases e;cases f;exact D9f (by lia) (by lia) p o (by lia)
def NmG (x:Str):Prop:=∀c∈x.cps.toList,97<=c
theorem E1w:∀c∈abc.cps.toList,97<=c:=by decide +kernel
theorem NmG.app (b:NmG x) (d:NmG y):NmG (x++y):=by
 intro c a;rw [Str.cps_append,Array.toList_append] at a;rcases Z07.mp a with h | h
 ·exact b c h
 ·exact d c h
theorem NmG.one {c:Nat} (h:97<=c):NmG ⟨#[c]⟩:=by
 intro d a;simp at a
 lia
theorem NmG.slice {l u:Option Int} (d:NmG x):NmG (Txt.slice x l u):=by
 unfold Txt.slice;split
 ·exact d
 ·intro c b;simp only [List.mem_filterMap] at b;obtain ⟨i,_,a⟩:=b;refine d c ?_;rw [Array.getElem?_toList.symm] at a;exact Z13 a
def B7q:Sp:=λd H Q _=>∃c o:Int,d=[.int c,.int o,.int 22]/\∀(p:Addr) (a:List Str) (b:Hp),H p=none->A0u H b->b p=some (.lst (a.map V.str))->a.length=22->(∀x∈a,B4q x/\1<=x.length)->a.Nodup->(∀x∈a,NmG x)->Q (.ref p) b
theorem E1f {nm:List Str} (n:nm.Nodup) (h:nm[i]? =some y) (ks:ws.map (·.1)=(nm.take i).map λx=>(Sum.inr x:Key)) (u:V):A7y ws (Sum.inr y) u=ws++[(Sum.inr y,u)]:=by
 have a:((nm.map λx=>(x,([]:List Str))).map (·.1)).Nodup:=by rw [List.map_map,show ((λx:Str×List Str=>x.1)∘λx=>(x,([]:List Str)))=id from rfl,List.map_id];exact n
 exact D7e (es:=nm.map λx=>(x,([]:List Str))) (e:=(y,[])) a (by rw [Z1z,h];rfl) (by rw [ks,<-List.map_take,List.map_map];rfl) u
def C5b:Sp:=λa H Q _=>∃c k:Int,a=[.int c,.int k]/\0<=k/\k<=1000000/\∀z:Int,Q (.int z) H
def C9x:Sp:=λa H Q _=>∃c k:Int,a=[.int c,.int k]/\0<=k/\k<=1000/\∀z:Int,Q (.int z) H
theorem A4x (T:Txt K mg t):FO P w base T.bc 1 (B9s K):=by
 refine T.bc.F.ok C0a (by walk_at "ln") λ_ A _ s H _ Q E i h=> ?_
 ·obtain ⟨a,g,k,rfl,b,d,q⟩:=h;refine i02 _ (@RS.r _ _ _ (rq1 (rq4 (A0p B8r (pv 1) (A0q A0y (by rfl) T.ce Z0r (A0a (pv 0) A0c)) (A1b _)) (rq3 (rq5 (A1f A1n (pv 0) (pv 1) (λ_ _=>rfl)))) ⟨A0x⟩) (rq3 (rq5 (A0j A2h (A0j A6b A0d (pv 1)) A0d))))) ?_;refine i0w _ rfl _ rfl a _ rfl (.inl b) (i0q _ _ rfl rfl _ rfl ?_);refine A8x (λc=> ?_) (λ_=>(i0o _ rfl _ _ rfl rfl (i0i (.inl ⟨by decide,by decide⟩) _ _ rfl rfl (q _))));obtain ⟨z,_,e⟩:=A6n (f:=V.int) (xs:=g) d (by simpa using c);exact i17 _ rfl _ rfl a _ _ _ rfl rfl b e (q _)
theorem B7n (T:Txt K mg t):FO P w base T.jg 1 B7q:=by
 refine T.jg.F.ok A1t (by walk_at "ln") λ_ A _ s H _ Q E hr h=> ?_
 ·obtain ⟨c,o,rfl,k⟩:=h;refine i02 _ (@RS.r _ _ _ (rq1 (rq6 3 A1t.nd A1w) (rq1 (rq6 4 A1t.nd A1w) (rq1 (rq6 5 A1t.nd (A0j A1o (pv 0) A0d)) (rq1 (rq7 (A4a rfl T.dj (A0a (A0j A2h A0d (A0j A1j (pv 0) A0d)) A0c)) (A0k (i:=6) A1t.nd rfl (.inl rfl)) (rq1 (rq6 4 A1t.nd (A0j A8z (pv 4) (A1f C7x (pv 3) (A0j A1j (pv 5) A0d) (λ_ _=>rfl)))) (rq3 (rq6 5 A1t.nd (A0j A1o (pv 5) A0d))))) (rq1 (rq6 7 A1t.nd (A0j A1j (pv 1) (A0q B9m (by rfl) T.ce Z0r (A0a (pv 4) A0c)))) (rq1 (rq6 8 A1t.nd (@A1r _ _ _ _ A0c)) (rq1 (rq7 (A4a rfl T.dj (A0a (pv 2) A0c)) (A0k (i:=6) A1t.nd rfl (.inl rfl)) (rq1 (rq6 9 A1t.nd (A1f C7x (pv 3) (A0j A1j (A0j A2h (A6y PySem.F.plainAttrs_str PySem.F.slot_str_find PySem.F.type_str_find D7r (pv 3) (A0a (A1f C7x (pv 4) (pv 7) (λ_ _=>rfl)) A0c)) (pv 6)) A0d) (λ_ _=>rfl))) (rq1 (rq6 10 A1t.nd (A0j A8z (A0j A8z (B2q D4k (pv 4) C1l (B3l (pv 7))) (pv 9)) (B2q D4k (pv 4) (B3l (A0j A2h (pv 7) A0d)) C1l))) (rq2 (rq4 (PW.pt (B6l (A0p A3d (pv 10) A1w (A1b _)) (B5s (A0p A3d (pv 10) A1w (A1b _))))) (rq3 (rq6 10 A1t.nd (A0j A8z (pv 10) A1w))) ⟨A0x⟩) (rq3 ⟨A2r (A6y Z0k Z0n Z0o A2e (pv 8) (A0a (pv 10) A0c))⟩))))) (rq3 (rq5 (pv 8))))))))))) ?_;have c1:1<=1+c%8/\1+c%8<=8:=by lia
  refine i0s _ rfl _ _ rfl rfl ⟨by decide,by decide⟩ (i0o _ rfl _ _ rfl rfl (i0i E2g _ _ rfl rfl (i0c _ rfl (by lia) (by lia) ?_)))
  refine A4k (n:=(1+c%8).toNat) (λi Z d=>H=d/\∃(a:Str) (r:Int) (j:Option V),Z=[Sio c,Sio o,Sio 22,Sso abc,Sso a,Sio r,j,none,none,none,none]/\a.length=i/\PyData.strOk a=true/\NmG a)
   ⟨rfl,(i0r _ _ none rfl rfl (by decide +kernel) (λc q=>by cases q))⟩ ?_ ?_
  ·rintro i Z d hi ⟨rfl,a,r,j,rfl,z,J,G⟩;refine B2x ?_;intro D';obtain ⟨b,B,S⟩:=C3a (xs:=abc.cps.toList) (i:=r%26) (by lia) (by rw [C9p];lia);have q:b<0x110000:=D3r b (Z13 B);have X:(⟨#[b]⟩:Str).length=1:=rfl;refine i12 _ rfl _ rfl _ rfl _ _ rfl rfl ⟨E0f,(i0u _ _ b rfl rfl (A2a (by rw [C3s];decide)) S (i0m _ _ rfl rfl (A2a (by lia)) ?_))⟩;refine i0s _ rfl _ _ rfl rfl ⟨by decide,by decide⟩ ⟨rfl,(i0r (a++⟨#[b]⟩) _ _ rfl (by rw [Str.length_append,X,z]) (C2u J (D4a q)) (G.app (.one (E1w b (Z13 B)))))⟩
  rintro Z d ⟨rfl,a,r,j,rfl,z,J,G⟩;have a0:1<=a.length/\a.length<=8:=by lia
  refine i02 _ rfl (i0k _ rfl a rfl (A2a (by lia)) (i0p _ _ rfl rfl (by show (0:Int)<(a.length:Int);lia) (A0v rfl) λl z=> ?_));have s0:0<=o%(a.length:Int):=Z1v _ (by lia);have s1:o%(a.length:Int)<a.length:=Z1p _ (by lia);obtain ⟨L,f1,f2⟩:=C3a (xs:=a.cps.toList) s0 (by rw [lenC];exact s1)
  refine ⟨_,rfl,22,rfl,by decide,by decide,A4k (n:=22) (λi Z d=>∃(g:List Str) (j U M:Option V),Z=[Sio c,Sio o,Sio 22,Sso abc,Sso a,Sio r,j,Sio (o%(a.length:Int)),Sro l,U,M]/\A0u H d/\
   d l=some (.lst (g.map V.str))/\g.length=i/\(∀x∈g,(B4q x/\1<=x.length)/\NmG x)/\Paired (Dsc (Txt.slice a none (some (o%(a.length:Int)))) (Txt.slice a (some (o%(a.length:Int)+1)) none) (Txt.find abc ⟨#[L]⟩)) (List.range i) g) (i10 [] j none none rfl (A0e z) A0b rfl (by intro x v;cases v) .nil) ?_ ?_⟩
  ·rintro i Z d hi ⟨g,j,U,M,rfl,R,I,N,v,O⟩;rw [Int.zero_add];obtain ⟨b,B,S⟩:=C3a (xs:=abc.cps.toList) (i:=(Txt.find abc ⟨#[L]⟩+(i:Int))%26) (by lia) (by rw [C9p];lia);have q:b<0x110000:=D3r b (Z13 B);have X:(⟨#[b]⟩:Str).length=1:=rfl;have la:=Txt.slice_le a none (some (o%(a.length:Int)));have lb:=Txt.slice_le a (some (o%(a.length:Int)+1)) none;refine i02 _ rfl (i0j _ rfl rfl _ rfl (i0x _ rfl _ _ L rfl rfl (A2a (by lia)) (i0i f2 _ _ rfl rfl (i0o _ rfl _ _ rfl rfl (i0m _ _ rfl rfl E0f (i0u _ _ b rfl rfl (A2a (by rw [C3s];decide)) S ?_))))));refine i0e _ rfl _ rfl (i0k _ rfl a rfl (A2a (by lia)) (i0s _ rfl _ _ rfl rfl (A2a (by lia)) (i0w _ rfl _ rfl _ _ rfl rfl (i0k _ rfl a rfl (A2a (by lia)) (i0m _ _ rfl rfl (A2a (by rw [Str.length_append];lia)) ?_)))));have p:=(G.slice (l:=none) (u:=some (o%(a.length:Int)))).app (.one (E1w b (Z13 B))) |>.app (G.slice (l:=some (o%(a.length:Int)+1)) (u:=none));have m:PyData.strOk (Txt.slice a none (some (o%(a.length:Int)))++⟨#[b]⟩++Txt.slice a (some (o%(a.length:Int)+1)) none)=true:=C2u (C2u (C3p J) (D4a q)) (C3p J);have lm:(Txt.slice a none (some (o%(a.length:Int)))++⟨#[b]⟩++Txt.slice a (some (o%(a.length:Int)+1)) none).length<=17:=by rw [Str.length_append,Str.length_append];lia
   have ls:("s":Str).length=1:=by decide +kernel
   have m1:1<=(Txt.slice a none (some (o%(a.length:Int)))++⟨#[b]⟩++Txt.slice a (some (o%(a.length:Int)+1)) none).length:=by rw [Str.length_append,Str.length_append];lia
   generalize hmd:(Txt.slice a none (some (o%(a.length:Int)))++⟨#[b]⟩++Txt.slice a (some (o%(a.length:Int)+1)) none)=md at m p lm m1;refine i02 (λZ W=>d=W/\∃x,PyData.strOk x=true/\(x=md\/x=md++"s")/\Z=[Sio c,Sio o,Sio 22,Sso abc,Sso a,Sio r,Sio (i:Int),Sio (o%(a.length:Int)),Sro l,some (.str ⟨#[b]⟩),Sso x]) ?_ ?_
   ·have C:PyData.strOk (md++"s")=true:=C2u m (by decide +kernel);refine i0j _ rfl rfl _ rfl (D2r (λ_=>A5u (i0o _ rfl _ _ rfl rfl (i0a (A2a (by lia)) rfl _ C ⟨.inr rfl,rfl⟩))) (λ_=> ?_));exact i0j _ rfl rfl _ rfl (D2r (λ_=>(i0o _ rfl _ _ rfl rfl (i0a (A2a (by lia)) rfl _ C ⟨.inr rfl,rfl⟩))) (λ_=>⟨rfl,(i06 _ m (.inl rfl) rfl)⟩))
   rintro Z W ⟨rfl,x,f,Y,rfl⟩;refine i0j _ rfl (.inl (i01 rfl _ (SqL.of I))) _ rfl (i0u l _ _ rfl rfl I (A1l (by simp;lia)) (i10 (g++[x]) _ _ _ rfl (A0o R z) (by rw [A0b,Z0s];rfl) (by simp [N]) (λy D=> ?_) ?_))
   ·rcases Z07.mp D with D | D
    ·exact v y D
    ·have:y=x:=by simpa using D
     subst this;rcases Y with e | e
     ·rw [e] at f⊢;exact ⟨⟨⟨by lia,f⟩,m1⟩,p⟩
     ·have:=Str.length_append md ("s":Str);rw [e] at f⊢;exact ⟨⟨⟨by lia,f⟩,by lia⟩,p.app (by intro c q;have:c∈[115]:=q;rw [Z0w.mp this];decide)⟩
   ·rw [List.range_succ];exact B2p O (.cons (i02 b B (by rw [hmd];exact Y)) .nil)
  ·rintro Z d ⟨g,j,U,M,rfl,R,I,N,v,O⟩;exact i02 _ rfl (k l g d z R I N (λx h=>(v x h).1) (C7h (by decide) O) λx h=>(v x h).2)
theorem B3u (T:Txt K mg t):FO P w base T.kl 1 C6z:=by
 refine T.kl.F.ok B0c (by walk_at "ln") λ_ A _ s H _ Q E J h=> ?_
 ·obtain ⟨l,d,q,D,rfl,m,v,L,k⟩:=h;have G:=A8b J;refine i02 _ (@RS.r _ _ _ (rq1 (rq6 2 B0c.nd A0d) (rq1 (rq7 (A2c (pv 0)) (A0k (i:=3) B0c.nd rfl (.inl rfl)) (rq3 (rq6 2 B0c.nd (A0j A6b (pv 2) (A2v G (pv 1) (pv 3) (λ_ _=>rfl)))))) (rq3 (rq5 (pv 2)))))) ?_;refine i0k _ rfl l rfl ⟨_,SqL.of m⟩ ?_;refine A2l (K:=K) (a:=l) (xs:=q.map V.str) (λi Z c=>H=c/\∃(f:Option V) (z:Int),Z=[Sro l,Sro d,Sio z,f]/\1<=z/\B0b D (q.take i) z) (i0i rfl none 1 rfl (by decide) .nil) (λi Z c _ e=>SqL.of (by rw [<-e.1];exact m)) ?_ ?_
  ·rintro i x Z c C ⟨rfl,f,z,rfl,j,b⟩;refine B2x ?_;intro M;obtain ⟨y,p,rfl⟩:=A6j C;obtain ⟨n,o,B,I⟩:=L y (Z13 p);have g:=A9g.k (H:=H) (a:=d) (k:=Sum.inr y) v;rw [o] at g
   have u:1<=z*n:=by
    have:=Int.mul_le_mul j B (by lia) (by lia)
    lia
   refine i12 _ rfl _ rfl _ rfl d _ rfl g (i0m _ _ rfl rfl (.inr ⟨by lia,by lia⟩) (i0i rfl _ (z*n) rfl u ?_));rw [Z14,p];exact b.snoc o
  ·rintro Z c ⟨rfl,f,z,rfl,j,b⟩;rw [Z08,Z18] at b;exact i02 _ rfl (k z j b)
theorem B9j (T:Txt K mg t):FO P w base T.fm 2 B8h:=by
 have Gc6:= @B3u P w K mg base t T;refine T.fm.F.ok A5a (by walk_at "ln") λ_ A _ s H _ Q E hr h=> ?_
 ·obtain ⟨r,v,g,d,D,lk,rfl,W,a3,hd,dk,k⟩:=h;refine i02 _ (@RS.r _ _ _ (rq1 (rq6 4 A5a.nd (@A1r _ _ _ _ A0c)) (rq1 (rq4 (A0p A3d (A0q A0y (by rfl) T.ce Z0r (A0a (pv 1) A0c)) A0d (A1b _)) (rq3 (rq5 (pv 4))) ⟨A0x⟩) (rq1 (rq7 (A4a rfl T.dj (A0a (A0j A1j (pv 0) A0d) A0c)) (A0k (i:=5) A5a.nd rfl (.inl rfl)) (rq1 (rq6 0 A5a.nd (A0j A1o (pv 0) A0d)) (rq1 (rq6 6 A5a.nd (A1f A1n (pv 1) (A0j A1j (pv 0) (A0q A0y (by rfl) T.ce Z0r (A0a (pv 1) A0c))) (λ_ _=>rfl))) (rq3 (rq4 (PW.pt (A3x (A0p A6d (pv 6) (pv 4) (by with_unfolding_all rfl)) (A4f (A0p D7n (pcl Gc6 hr T.kl (A0a (A0j B0e (pv 4) (@A1r _ _ _ _ (A0a (pv 6) A0c))) (A0a (pv 2) A0c))) (pv 3) (A1b _))))) (rq3 ⟨A2r (A6y Z0k Z0n Z0o A2e (pv 4) (A0a (pv 6) A0c))⟩) ⟨A0x⟩))))) (rq3 (rq5 (pv 4))))))) ?_;refine ⟨A0v rfl,λL R=> ?_⟩;have Y:A0u H (upd H L (.lst [])):=A0e R;refine i0o _ rfl g _ rfl (.inl (SqL.of (Y _ _ W))) (i05 rfl _ rfl (A8x (λ_=> ?_) (λX=> ?_)))
  ·exact i02 _ rfl (k L [] _ R Y A0b (by intro y J;cases J) (by simp) (λz=>absurd rfl z) .nil)
  have a1:0<D.length:=by
   rcases Nat.eq_zero_or_pos D.length with z | z
   ·exact absurd (by rw [Z08,z];rfl) X
   ·exact z
  have m4:0<=r%4/\r%4<4:=by lia
  refine i0s _ rfl _ _ rfl rfl D9o (i0c _ rfl (by lia) (by lia) ?_)
  refine A4k (n:=(r%4).toNat) (λi Z l=>∃(I:Int) (o5 o6:Option V) (e:List Str),Z=[Sio I,Sro g,Sro d,Sio v,Sro L,o5,o6]/\A0u H l/\l L=some (.lst (e.map V.str))/\(∀y∈e,y∈D)/\e.length<=i/\(e≠[]->∃z,B0b lk e z/\z<=v)/\e.Nodup)
   (i10 r none none [] rfl Y A0b (by intro y J;cases J) (Z09 _) ⟨(λz=>absurd rfl z),.nil⟩) ?_ ?_
  ·rintro i Z l hi ⟨I,o5,o6,e,rfl,u,p,j,ly,S,M⟩;refine B2x ?_;intro D';have q:(0:Int)<((D.map V.str).length:Int):=by rw [Z08];lia
   refine i0s _ rfl _ _ rfl rfl ⟨by decide,by decide⟩ ?_;obtain ⟨y,J,ey⟩:=A6n (f:=V.str) (xs:=D) (i:=I/4%((D.map V.str).length:Int)) (Z1v _ (by lia)) (by have:=Z1p (I/4) q;rw [Z08] at this⊢;exact this);refine i12 _ rfl _ rfl _ rfl g _ rfl (.inl (SqL.of (u _ _ W))) (i0m _ _ rfl rfl q (i0y g _ _ _ rfl rfl (SqL.of (u _ _ W)) ey ?_));have my:=Z13 J;refine i0w _ rfl _ rfl L _ rfl (.inl (SqL.of p)) (i0a rfl (A7b e) _ rfl ?_);show if (! inV (V.str y) (e.map V.str))=true then _ else _
   rw [B1m];refine D8c (λO=> ?_) (λa2=>A2m (i10 _ _ _ e rfl u p j (by lia) ⟨S,M⟩));refine i0k _ rfl _ rfl (A0v rfl) λz hz=> ?_;have sz:A0u l (upd l z (.lst [.str y])):=A0e hz;refine i10 L z _ _ rfl rfl (sz _ _ p) A0b (A2a (by simp;lia)) λc hc=> ?_;have U:=A0e (o:= .lst (e.map V.str++[V.str y])) hc;have C:=sz.trans U;have N:upd (upd l z (.lst [.str y])) c (.lst (e.map V.str++[V.str y])) c=some (.lst ((e++[y]).map V.str)):=by rw [A0b,Z0s];rfl
   generalize upd (upd l z (.lst [.str y])) c (.lst (e.map V.str++[V.str y]))=G at C N
   have m:∀x∈e++[y],x∈D:=λx B=>by
    rcases Z07.mp B with B | B
    ·exact j x B
    ·rw [Z0w.mp B];exact my
   refine i13 _ rfl c d (e++[y]) lk rfl N (C _ _ (u _ _ hd)) (λx B=>dk x (m x B)) λzz z1 mo=> ?_;refine i02 _ rfl (i0q _ _ rfl rfl _ rfl (A8x (λa0=> ?_) (λ_=>(i10 _ _ _ e rfl (u.trans C) (C _ _ p) j (by lia) ⟨S,M⟩))));refine i0j _ rfl (.inl (i01 rfl _ (SqL.of (C _ _ p)))) _ rfl (i0u L _ _ rfl rfl (C _ _ p) (A1l (by simp;lia)) ?_);exact i10 _ _ _ (e++[y]) rfl (A0o (u.trans C) R) (by rw [A0b,Z0s];rfl) m (by simp;lia) ⟨(λ_=>(i02 zz mo a0)),Z0l.mpr (i00 M (by simp) λa ha b hb=>by rw [Z0w.mp hb];intro z;exact O (z▸ha))⟩
  ·rintro Z l ⟨I,o5,o6,e,rfl,u,p,j,ly,S,M⟩;exact i02 _ rfl (k L e l R u p j (by lia) S M)
theorem A6r (T:Txt K mg t):FO P w base T.dh 1 B4r:=by
 refine T.dh.F.ok B4z (by walk_at "ln") λ_ A _ s H _ Q E c h=> ?_
 ·obtain ⟨r,rfl,q⟩:=h;refine i02 _ (@RS.r _ _ _ (rq1 (rq4 (A0p A3d (A0j A1j (pv 0) A0d) A0d (A1b _)) (rq3 (rq5 (A0j A3v (A0j A1j (A0j A1o (pv 0) A0d) (A0j A3v (A0j A6b A0d (A0j A6v A0d A0d)) A0d)) (A0j A3v (A0j A6v A0d A0d) A0d)))) ⟨A0x⟩) (rq3 (rq5 (A0j A3v (A0j A1j (A0j A1o (pv 0) A0d) A0d) A0d))))) ?_;have a:((10:Int)^(30:Int).toNat)=1000000000000000000000000000000:=by decide +kernel
  have b:(0:Int)<2*(10:Int)^(30:Int).toNat-1:=by rw [a];decide
  refine i0o _ rfl _ _ rfl rfl (i0a D7p rfl _ rfl (D2r (λ_=> ?_) (λ_=> ?_)))
  ·refine i18 _ rfl _ _ rfl rfl ⟨by decide,by decide⟩ _ _ rfl rfl (i00 (by decide) (by decide) (by decide)) (i0f _ _ rfl rfl (i0b (.inl ⟨by decide,by decide⟩) _ _ rfl (i0i rfl _ _ rfl rfl (i0i b _ _ rfl rfl (i0b (i00 (by decide) (by decide) (by decide)) _ _ rfl (i0i rfl _ _ rfl rfl (q _ (B5i ?_ ?_))))))))
   ·have:=Z1v (r/3) (show (2*(10:Int)^(30:Int).toNat-1)≠0 by lia);rw [a] at this⊢
    lia
   ·have:=Z1p (r/3) b;rw [a] at this⊢
    lia
  ·refine (i18 _ rfl _ _ rfl rfl ⟨by decide,by decide⟩ _ _ rfl rfl E3b (i0f _ _ rfl rfl (q _ (B5i ?_ ?_)))) <;> lia
theorem A7c (T:Txt K mg t):FO P w base T.fc 1 C5b:=by
 refine T.fc.F.ok C5r (by walk_at "ln") λ_ A _ s H _ Q E b h=> ?_
 ·obtain ⟨c,k,rfl,d,e,q⟩:=h;have a:(0:Int)<10^(60:Int).toNat:=by decide +kernel
  refine i02 _ (@RS.r _ _ _ (rq1 (rq4 (A0p A3d (A0j A1j (pv 0) A0d) A0d (A1b _)) (rq3 (rq5 (A0j A1o (pv 0) A0d))) ⟨A0x⟩) (rq3 (rq5 (A0j A2h (A0j A6b (A0j A2h (A0j A1j (A0j A1o (pv 0) A0d) (A0j A6v A0d A0d)) (A0j A6b (pv 1) (pv 1))) A0d) (A0j A6b (A0j A2h (pv 1) A0d) A0d)))))) ?_;refine i0o _ rfl _ _ rfl rfl (i0a D5z rfl _ rfl (D2r (λ_=> ?_) (λ_=> ?_)))
  ·exact i0s _ rfl _ _ rfl rfl ⟨by decide,by decide⟩ (q _)
  ·exact i18 _ rfl _ _ rfl rfl ⟨by decide,by decide⟩ _ _ rfl rfl (i00 (by decide) (by decide) (by decide)) (i0m _ _ rfl rfl a (i0w _ rfl _ rfl _ _ rfl rfl (i0i (.inr ⟨by lia,by lia⟩) _ _ rfl rfl (i0m _ _ rfl rfl (.inr ⟨by decide,by decide⟩) (i0o _ rfl _ _ rfl rfl (i0f _ _ rfl rfl (i0i (.inr ⟨by decide,by decide⟩) _ _ rfl rfl (q _))))))))
theorem B9g (T:Txt K mg t):FO P w base T.kq 2 C9x:=by
 have Gc7:= @A7c P w K mg base t T;refine T.kq.F.ok B0m (by walk_at "ln") λ_ A _ s H _ Q E d h=> ?_
 ·obtain ⟨c,k,rfl,f,l,q⟩:=h;refine i02 _ (@RS.r _ _ _ (rq1 (rq6 2 B0m.nd (pcl Gc7 d T.fc (A0a (pv 0) (A0a (pv 1) A0c)))) (rq1 (rq7 (A4a rfl T.dj (A0a (A0j A6b (pv 1) (A0j A3v A0d (A0j A1j (pv 0) A0d))) A0c)) (A0k (i:=3) B0m.nd rfl (.inl rfl)) (rq3 (rq6 2 B0m.nd (A0j C3o (pv 2) (A0j A6v A0d A0d))))) (rq3 (rq5 (pv 2)))))) ?_;refine i0w _ rfl _ rfl c k rfl f ⟨by lia,λz=> ?_⟩
  have m:0<=k*(1-c%2)/\k*(1-c%2)<=1000:=by
   rcases Int.emod_two_eq c with e | e
   ·rw [e];lia
   ·rw [e];lia
  refine i0w _ rfl _ rfl _ _ rfl rfl (i0i D5z _ _ rfl rfl (i0m _ _ rfl rfl (.inl ⟨by lia,by lia⟩) (i0c _ rfl (by lia) (by lia) ?_)));refine A4k (n:=(k*(1-c%2)).toNat) (λi Z a=>H=a/\∃(z:Int) (b:Option V),Z=[Sio c,Sio k,Sio z,b]) ⟨rfl,(i03 z none rfl)⟩ ?_ ?_
  ·rintro i Z a g ⟨rfl,z,b,rfl⟩;refine B2x ?_;intro j;exact i18 _ rfl _ _ rfl rfl (i00 (by decide) (by decide) (by decide)) _ _ rfl rfl ⟨by decide +kernel,by decide +kernel⟩ ⟨rfl,(i03 _ _ rfl)⟩
  ·rintro Z a ⟨rfl,z,b,rfl⟩;exact i02 _ rfl (q z)
def opS:Op3->Str
 | .plus=>"plus"
 | .minus=>"minus"
 | .times=>"times"
def A1s:Tm->PyData
 | .num z=> .tuple [.str "number",.int z]
 | .place x=> .tuple [.str "place",.str x]
 | .read a ix=> .tuple [.str "read",.str a,A5b ix]
 | .sum x b=> .tuple [.str "sum",.str x,A1s b]
 | .pair k l r=> .tuple [.str (opS k),A1s l,A1s r]
 | .guard x lo hi l r=> .tuple [.str "guard",.str x,.int lo,.int hi,A1s l,A1s r]
theorem C9v {z:Int} (h:H p=some (.tup [.str "number",.int z])):Rep H (.ref p) (A1s (.num z)):= .tup h (.cons (.str _) (.cons (.int _) .nil))
theorem D2m (h:H p=some (.tup [.str "place",.str x])):Rep H (.ref p) (A1s (.place x)):= .tup h (.cons (.str _) (.cons (.str _) .nil))
theorem D7t {ix:List (Str×Int)} (h:H p=some (.tup [.str "read",.str a,v])) (r:Rep H v (A5b ix)):Rep H (.ref p) (A1s (.read a ix)):= .tup h (.cons (.str _) (.cons (.str _) (.cons r .nil)))
theorem D4j (h:H p=some (.tup [.str "sum",.str x,v])) (r:Rep H v (A1s b)):Rep H (.ref p) (A1s (.sum x b)):= .tup h (.cons (.str _) (.cons (.str _) (.cons r .nil)))
theorem B7p {k:Op3} {u:V} {l r:Tm} (h:H p=some (.tup [.str (opS k),v,u])) (a:Rep H v (A1s l)) (b:Rep H u (A1s r)):Rep H (.ref p) (A1s (.pair k l r)):= .tup h (.cons (.str _) (.cons a (.cons b .nil)))
theorem B6t {u:V} {l r:Tm} (h:H p=some (.tup [.str "guard",.str x,.int lo,.int hi,v,u])) (a:Rep H v (A1s l)) (b:Rep H u (A1s r)):Rep H (.ref p) (A1s (.guard x lo hi l r)):= .tup h (.cons (.str _) (.cons (.str _) (.cons (.int _) (.cons (.int _) (.cons a (.cons b .nil))))))
def TmL (lk:List (Key×V)):Tm->Prop
 | .sum x b=>B0d lk [x]/\TmL lk b
 | .pair _ l r=>TmL lk l/\TmL lk r
 | .guard x _ _ l r=>B0d lk [x]/\TmL lk l/\TmL lk r
 | .read a _=>PyData.strOk a=true
 | _=>True
theorem dk1 {n:Int} (h:A5l lk (Sum.inr x)=some (.int n)) (h1:1<=n) (h2:n<=60):B0d lk [x]:=λy a=>by
 rw [Z0w.mp a];exact i06 n h h1 h2
def NmS (nm:List Str):Prop:=∀x∈nm,B4q x/\1<=x.length
abbrev G3:=Str×Int×Int
def E3i (H:Hp) (v:V) (e:G3):Prop:=∃q,v= .ref q/\H q=some (.tup [.str e.1,.int e.2.1,.int e.2.2])
def lnL (lk:List (Key×V)) (x:Str):Int:=match A5l lk (Sum.inr x) with | some (.int n)=>n | _=>0
theorem A7d {n:Int} (h:A5l lk (Sum.inr x)=some (.int n)):lnL lk x=n:=by unfold lnL;rw [h]
structure GdP (lk:List (Key×V)) (gs:List G3) (u v:Tm):Prop where
 ti:∀nm sc,(∀e∈gs,e.1∈sc)->A6p nm sc u->A6p nm sc v
 sf:∀(okn ok:OkP) (ρ:Env),(∀e∈gs,0<=ρ e.1/\ρ e.1<lnL lk e.1)->((∀e∈gs,e.2.1<=ρ e.1/\ρ e.1<e.2.2)->A1y (lnL lk) okn ok ρ u)->A1y (lnL lk) okn ok ρ v
theorem GdP.nil:GdP lk [] u u:=⟨λ_ _ _ h=>h,λ_ _ _ _ h=>h λe a=>by cases a⟩
theorem A6c {α:Type} {xs:List α} {y:α} {p:α->Prop} (h:∀x∈xs,p x) (b:p y):∀x∈xs++[y],p x:=λx a=>by
 rcases Z07.mp a with a | a
 ·exact h x a
 ·rw [Z0w.mp a];exact b
theorem GdP.put {gs:List G3} {v:Tm} {e:G3} {z:Int} (h:GdP lk gs u v):GdP lk (gs++[e]) u (.guard e.1 e.2.1 e.2.2 v (.num z)):=by
 refine ⟨λg i a d=>(i00 (a e (by simp)) (h.ti g i (λf b=>a f (by simp [b])) d) True.intro),λc j ρ k m=>⟨λl=> ?_,λ_=>True.intro⟩⟩;exact h.sf c j ρ (λf b=>k f (by simp [b])) λa=>m (A6c a l)
theorem GdP.skip {gs:List G3} {v:Tm} {e:G3} (h:GdP lk gs u v) (h1:¬0<e.2.1) (h2:¬e.2.2<lnL lk e.1):GdP lk (gs++[e]) u v:=by
 refine ⟨λi j b g=>h.ti i j (λf a=>b f (by simp [a])) g,λc k ρ d l=>h.sf c k ρ (λf a=>d f (by simp [a])) λb=>l (A6c b ?_)⟩;have:=d e (by simp)
 lia
theorem E2p {b:TT} {d3:Bool} (e:∀a:Bool->Hp->Prop,a d1 H->t1 Z H a) (c:∀a:Bool->Hp->Prop,a d2 H->t2 Z H a) (d:∀a:Bool->Hp->Prop,a d3 H->b Z H a) (h:Q (d1||(d2||d3)) H):tOr t1 (tOr t2 b) Z H Q:=by
 refine e _ ?_
 cases d1 with
 | true=>exact h
 | false =>
  refine A2m (c _ ?_)
  cases d2 with
  | true=>exact h
  | false=>exact A2m (d _ h)
def B7y:Sp:=λj H Q _=>∃(v:V) (g d:Addr) (r:Int) (h:List V) (b:List G3) (u:Tm) (a:List (Key×V)) (S:Addr->Prop),j=[v,.ref g,.int r,.ref d]/\Fr S H/\Rep (A0s S H) v (A1s u)/\TmW u/\TmL a u/\H g=some (.lst h)/\Paired (E3i H) h b/\(∀e∈b,B4q e.1/\Sm e.2.1/\Sm e.2.2)/\H d=some (.dK a)/\B0d a (b.map (·.1))/\
 ∀(i:V) (c:Tm) (f:Hp),A0u H f->Rep (A0s S f) i (A1s c)->TmW c->TmL a c->dep c<=dep u+b.length->GdP a b u c->Q i f
theorem B9b (T:Txt K mg t):FO P w base T.ko 2 B7y:=by
 have Gc8:= @A6r P w K mg base t T;refine T.ko.F.ok A3p (by walk_at "ln") λ_ A _ s H _ Q E hr h=> ?_
 ·refine e0e h ?_;clear h;rintro v N d r gs M u D ⟨S,rfl,fr,rp,wu,tu,J,pg,hg,hd,dk,k⟩;have hu:=A8b hr;have lg:=Paired.length pg;refine i02 _ (@RS.r _ _ _ (rq1 (rq6 4 A3p.nd (pv 0)) (rq1 (rq7 (A2c (pv 1)) (A3q (n:=3) rfl (A0r (A0k (i:=5) A3p.nd rfl (.inl rfl)) (A0r (A0k (i:=6) A3p.nd rfl (.inl rfl)) (A0r (A0k (i:=7) A3p.nd rfl (.inl rfl)) A2p)))) (rq2 (rq4 (PW.pt (B6l (A0p A8h (pv 6) A0d (A1b _)) (B6l (A0p B8r (pv 7) (A2v hu (pv 3) (pv 5) (λ_ _=>rfl)) (A1b _)) (B5s (A0p A3d (A0j A1j (pv 2) A0d) A0d (A1b _)))))) (rq3 (rq6 4 A3p.nd (A1z (A0a A1w (A0a (pv 5) (A0a (pv 6) (A0a (pv 7) (A0a (pv 4) (A0a (A1z (A0a A1w (A0a (pcl Gc8 hr T.dh (A0a (A0j A1o (pv 2) A0d) A0c)) A0c))) A0c))))))))) ⟨A0x⟩) (rq3 (rq6 2 A3p.nd (A0j A1o (pv 2) A0d))))) (rq3 (rq5 (pv 4)))))) ?_;refine i02 _ rfl (i0k _ rfl N rfl ⟨_,SqL.of J⟩ ?_);refine A2l (K:=K) (a:=N) (xs:=gs) (λi Z p=>∃(B:Int) (c:V) (b:Tm) (o5 o6 Y:Option V),Z=[some v,Sro N,Sio B,Sro d,some c,o5,o6,Y]/\A0u H p/\Rep (A0s S p) c (A1s b)/\TmW b/\TmL D b/\dep b<=dep u+i/\GdP D (M.take i) u b) ⟨r,(i14 v u none none none rfl (A0u.refl _) rp wu tu ⟨Z09 _,.nil⟩)⟩ (by rintro i Z p _ ⟨_,_,_,_,_,_,_,l,_⟩;exact SqL.of (l _ _ J)) ?_ ?_
  ·rintro i y Z p hy ⟨B,c,b,o5,o6,Y,rfl,l,g,j,f,O,I⟩;refine B2x ?_;intro D';obtain ⟨e,he,q,rfl,eq⟩:=B3r pg hy;obtain ⟨x,C,m⟩:=e;have hm:=Z13 he;obtain ⟨g1,g2,g3⟩:=hg _ hm;obtain ⟨n,vn,n1,a1⟩:=dk x (Z2c.mpr (i02 _ hm rfl));have dp:=A6l b;have dg:=A9g.k (H:=p) (a:=d) (k:=Sum.inr x) (l _ _ hd);rw [vn] at dg;refine i0f q _ rfl (SqT.of (l _ _ eq)) (i0b rfl _ _ rfl ⟨_,(i0o _ rfl _ _ rfl rfl ?_)⟩);refine i02 (λZ H3=>∃(c:V) (b:Tm),Z=[some v,Sro N,Sio B,Sro d,some c,Sso x,Sio C,Sio m]/\A0u H H3/\Rep (A0s S H3) c (A1s b)/\TmW b/\TmL D b/\dep b<=dep u+(i+1)/\GdP D (M.take (i+1)) u b) ?_ ?_
   ·have tk:M.take (i+1)=M.take i++[(x,C,m)]:=by rw [Z14,he];rfl
    rw [tk];refine E2p (d1:=decide (0<C)) (d2:=decide (m<n)) (d3:=decide (V.int (B%3)=V.int 0)) (λQ' q=>(i02 _ rfl (i0q _ _ rfl rfl _ rfl q))) (λQ' q=>(i12 _ rfl _ rfl _ rfl d _ rfl dg (i0q _ _ rfl rfl _ rfl q))) (λQ' q=>(i0o _ rfl _ _ rfl rfl (i0a D7p rfl _ rfl q))) ?_
    cases hb:(decide (0<C)||(decide (m<n)||decide (V.int (B%3)=V.int 0))) with
    | false =>
     simp only [Bool.or_eq_false_iff,decide_eq_false_iff_not] at hb;exact A2m (i0t c b rfl l g j f ⟨by lia,I.skip hb.1 (by show¬m<lnL D x;rw [A7d vn];exact hb.2.1)⟩)
    | true =>
     refine A5u (i0e _ rfl _ rfl (i12 _ rfl _ rfl _ rfl _ _ rfl rfl (i05 ⟨by decide,by decide⟩ _ rfl λz hz=>⟨A0v rfl,λq1 L=>⟨A0v rfl,λq2 G=> ?_⟩⟩)));have X:=A0e (o:= .tup [.str "number",.int z]) L;have sB:=A0e (o:= .tup [.str "guard",.str x,.int C,.int m,c,.ref q1]) G;have f2:=fr.same l;refine i0t (.ref q2) (.guard x C m b (.num z)) rfl (l.trans (X.trans sB)) (B6t (A0h (f2 q2 (X.free G)) A0b) (g.same (A0g (X.trans sB))) (C9v (A0h (f2 q1 L) (sB _ _ A0b)))) (i09 g1 g2 g3 j hz) (i00 (dk1 vn n1 a1) f True.intro) ⟨?_,I.put⟩;simp only [dep]
     lia
   ·rintro Z H3 ⟨v3,u3,rfl,s3,U,a2,R,W,a0⟩;exact i0s _ rfl _ _ rfl rfl ⟨by decide,by decide⟩ ⟨_,(i14 v3 u3 _ _ _ rfl s3 U a2 R ⟨W,a0⟩)⟩
  ·rintro Z p ⟨B,c,b,o5,o6,Y,rfl,l,g,j,f,O,I⟩;rw [lg,Z18] at I;exact i02 _ rfl (k c b p l g j f (by lia) I)
def D1b (H:Hp) (lk:List (Key×V)) (v:V) (e:Str×List Str):Prop:=∃q a,v= .ref q/\H q=some (.tup [.str e.1,.ref a])/\H a=some (.lst (e.2.map V.str))/\(e.1.length<=60/\PyData.strOk e.1=true)/\e.2.length<=3/\NmS e.2/\B0d lk e.2
theorem D1b.same (h:D1b H lk v e) (s:A0u H H'):D1b H' lk v e:=by
 obtain ⟨q,c,rfl,b,a,r⟩:=h;exact i0m q c rfl (s _ _ b) (s _ _ a) r
def D1c (H:Hp) (lk:List (Key×V)) (a:Addr) (sc:List Str):Prop:=H a=some (.lst (sc.map V.str))/\sc.length<=100/\NmS sc/\B0d lk sc
structure SfT (L:Str->Int) (okn ok:OkP) (nm sc:List Str) (u:Tm):Prop where
 ti:A6p nm sc u
 sf:∀ρ,InR L sc ρ->A1y L okn ok ρ u
def RdS (lk:List (Key×V)) (h:Str) (d a:List Str) (f:V) (u:Tm):Prop:=∀(b e:OkP) (g:List Str),(∀ρ,InR (lnL lk) a ρ->∀c,inC (lnL lk) d c->(¬f= .non->A6u c (d.map ρ))->e ρ h c)->SfT (lnL lk) b e g a u
def D7f (S:Addr->Prop) (lk:List (Key×V)) (n:Nat) (Zz:Tm->Prop) (H:Hp) (Q:VK):Prop:=∀(c:V) (a:Tm) (b:Hp),A0u H b->Rep (A0s S b) c (A1s a)->TmW a->TmL lk a->dep a<=n->Zz a->Q c b
theorem C9t {lk:List (Key×V)} {ρ:Env} {f:List G3} {a:List Str} (d:ρ ""=0) (i:∀e∈f,e.2.1<=ρ e.1/\ρ e.1<e.2.2):∀{c:List Str} {ix:List (Str×Int)},Paired (λ(y:Str) (e:Str×Int)=>(e.1=""/\0<=e.2/\e.2<lnL lk y)\/(e.1∈a/\(e.1,0-e.2,lnL lk y-e.2)∈f)) c ix->inC (lnL lk) c (A5y ρ ix)
 | [],_,.nil=>True.intro
 | y::c,_,.cons (b:=e) h r=>by
  refine ⟨?_,C9t d i r⟩;show 0<=ρ e.1+e.2/\ρ e.1+e.2<lnL lk y;rcases h with ⟨j,g,k⟩ | ⟨_,g⟩
  ·rw [j,d];lia
  ·have k:0-e.2<=ρ e.1/\ρ e.1<lnL lk y-e.2:=i _ g
   lia
theorem B5q {ρ:Env}:∀{a:List Str} {ix:List (Str×Int)} {n:Nat},n<a.length->a.length=ix.length->(∀(k:Nat) (y:Str) (e:Str×Int),a[k]? =some y->ix[k]? =some e->(k<n->e=(y,0))/\(k=n->e.1=y/\e.2<0))->A6u (A5y ρ ix) (a.map ρ)
 | [],_,_,h,_,_=>absurd h (by simp)
 | y::a,[],_,_,h,_=>absurd h (by simp)
 | y::a,e::ix,0,_,_,h=>by
  obtain ⟨b,i⟩:=(h 0 y e rfl rfl).2 rfl;refine .inl ?_;show ρ e.1+e.2<ρ y;rw [b];lia
 | y::a,e::ix,n+1,hn,hl,h=>by
  have b:=(h 0 y e rfl rfl).1 (by lia);refine .inr ⟨?_,B5q (n:=n) (by simpa using hn) (by simpa using hl) λk z f d c=> ?_⟩
  ·show ρ e.1+e.2=ρ y;rw [b];show ρ y+0=ρ y;lia
  ·have:=h (k+1) z f (by simpa using d) (by simpa using c);exact ⟨λg=>this.1 (by lia),λg=>this.2 (by lia)⟩
def D8o (lk:List (Key×V)) (x:Str):Prop:=x=""\/(¬x=""/\B4q x/\∃n:Int,A5l lk (Sum.inr x)=some (.int n)/\1<=n/\n<=60)
theorem D8o.nm (h:D8o lk x):B4q x:=by
 rcases h with rfl | h
 ·exact ⟨by decide +kernel,by decide +kernel⟩
 ·exact h.2.1
theorem D9e {nm:List Str} (h1:NmS nm) (h2:B0d lk nm) (h:x∈nm):D8o lk x:= .inr (i00 (λz=>by have:=(h1 x h).2;rw [z] at this;exact absurd this (by decide +kernel)) ((h1 x h).1) (h2 x h))
def B9a:Sp:=λi H Q _=>∃(r:Int) (q g h d:Addr) (f:Str) (b a:List Str) (e:V) (c:List (Key×V)) (S:Addr->Prop),i=[.int r,.ref q,.ref h,.ref d,e]/\H q=some (.tup [.str f,.ref g])/\H g=some (.lst (b.map V.str))/\(f.length<=60/\PyData.strOk f=true)/\b.length<=3/\NmS b/\B0d c b/\D1c H c h a/\H d=some (.dK c)/\(e= .non\/(e= .ref g/\1<=b.length/\∀x∈b,x∈a))/\Fr S H/\D7f S c 4 (RdS c f b a e) H Q
theorem B7t (T:Txt K mg t):FO P w base T.ij 3 B9a:=by
 have Gc9:= @B9b P w K mg base t T;refine T.ij.F.ok A1q (by walk_at "ln") λ_ A _ s H _ Q E hr h=> ?_
 ·refine e0h h ?_;clear h;rintro r q al sc d an aa c ow lk S ⟨rfl,hq,a3,e7,i3,e8,c5,⟨d5,h9,g6,g0⟩,hd,f1,fr,k⟩;have hu:=A8b hr;refine i02 _ (@RS.r _ _ _ (rq1 (rq6 5 A1q.nd (@A1r _ _ _ _ A0c)) (rq1 (rq6 6 A1q.nd (@A1r _ _ _ _ A0c)) (rq1 (rq6 7 A1q.nd (B6b B0j A0d)) (rq2 (rq4 (A0p C7s (pv 4) B9t (A1b _)) (rq1 (rq6 7 A1q.nd (A0j A1j (pv 0) (A0q A0y (by rfl) T.ce Z0r (A0a (A1f A1h (pv 1) A0d (λ_ _=>rfl)) A0c)))) (rq3 (rq6 0 A1q.nd (A0j A1o (pv 0) A0d)))) ⟨A0x⟩) (rq1 (rq7 (A4a rfl T.dj (A0a (A0q A0y (by rfl) T.ce Z0r (A0a (A1f A1h (pv 1) A0d (λ_ _=>rfl)) A0c)) A0c)) (A0k (i:=8) A1q.nd rfl (.inl rfl)) (rq1 (rq6 9 A1q.nd (A2v hu (pv 3) (A1f A1n (A1f A1h (pv 1) A0d (λ_ _=>rfl)) (pv 8) (λ_ _=>rfl)) (λ_ _=>rfl))) (rq1 (rq6 10 A1q.nd (A1f A1n (A0j B0e (pv 2) (@A1r _ _ _ _ (A0a A1w A0c))) (A0j A1j (A0j A1o (pv 0) A0d) (A0j A2h (A0q A0y (by rfl) T.ce Z0r (A0a (pv 2) A0c)) A0d)) (λ_ _=>rfl))) (rq1 (rq6 11 A1q.nd (A0j A3v (A0j A1j (A0j A1o (pv 0) A0d) A0d) A0d)) (rq2 (rq4 (A0p B8r (pv 8) (pv 7) (A1b _)) (rq1 (rq6 10 A1q.nd (A1f A1n (pv 4) (pv 8) (λ_ _=>rfl))) (rq3 (rq6 11 A1q.nd A0d))) ⟨A0x⟩) (rq2 (rq4 (A0p A3d (pv 8) (pv 7) (A1b _)) (rq1 (rq6 10 A1q.nd (A1f A1n (pv 4) (pv 8) (λ_ _=>rfl))) (rq3 (rq6 11 A1q.nd (A0j A3v (B6b B0j A0d) (A0j A1j (pv 0) A0d))))) ⟨A0x⟩) (rq2 (rq4 (A0p A3d (pv 10) A1w (A1b _)) (rq3 (rq6 11 A1q.nd (A0j A1j (A0j A1o (pv 0) A0d) (pv 9)))) (rq3 ⟨A2r (A6y Z0k Z0n Z0o A2e (pv 6) (A0a (A1z (A0a (pv 10) (A0a (A0j A3v A0d (pv 11)) (A0a (A0j A3v (pv 9) (pv 11)) A0c)))) A0c))⟩)) (rq1 ⟨A2r (A6y Z0k Z0n Z0o A2e (pv 5) (A0a (A1z (A0a (pv 10) (A0a (pv 11) A0c))) A0c))⟩ (rq3 (rq6 0 A1q.nd (A0j A1o (pv 0) A0d))))))))))) (rq3 (rq5 (pcl Gc9 hr T.ko (A0a (A1z (A0a A1w (A0a (A1f A1h (pv 1) A0d (λ_ _=>rfl)) (A0a (pv 5) A0c)))) (A0a (pv 6) (A0a (pv 0) (A0a (pv 3) A0c))))))))))))) ?_;refine ⟨A0v rfl,λB b3=>⟨A0v rfl,λI a5=> ?_⟩⟩;have s1:=A0e (o:= .lst []) b3;have c3:=A0e (o:= .lst []) a5;have s2:=s1.trans c3;have gi:upd (upd H B (.lst [])) I (.lst []) B=some (.lst []):=c3 _ _ A0b;have gg:upd (upd H B (.lst [])) I (.lst []) I=some (.lst []):=A0b;have ig:B≠I:=λe=>by rw [<-e,A0b] at a5;cases a5
  have h0:H I=none:=s1.free a5;have Sil:=fr B b3;generalize upd (upd H B (.lst [])) I (.lst [])=G at s2 gi gg;refine i0e _ rfl (λZ H2=>H2=G/\∃(J C:Int),Z=[Sio J,Sro q,Sro sc,Sro d,some ow,Sro B,Sro I,Sio C,none,none,none,none]/\((ow= .non/\C= -1)\/(ow= .ref al/\0<=C/\C<aa.length/\∀x∈aa,x∈c))) ?_ ?_
  ·refine i0j _ rfl rfl _ rfl ?_;rcases f1 with rfl | ⟨rfl,l1,a0⟩
   ·exact A2m (i0b rfl r (-1) rfl (.inl ⟨rfl,rfl⟩))
   ·have p0:(0:Int)<((aa.map V.str).length:Int):=by rw [Z08];lia
    refine A5u (i17 _ rfl _ rfl q _ _ _ rfl rfl (SqT.of (s2 _ _ hq)) rfl (i0f al _ rfl (.inl (SqL.of (s2 _ _ a3))) (i0m _ _ rfl rfl p0 (i0s _ rfl _ _ rfl rfl ⟨by decide,by decide⟩ (i0b rfl _ _ rfl (.inr (i04 rfl (Z1v _ (by lia)) ?_ a0)))))));have:=Z1p r p0;rw [Z08] at this⊢;exact this
  rintro Z H2 ⟨rfl,r1,C,rfl,b6⟩;refine i0z _ rfl q _ _ _ rfl rfl (SqT.of (s2 _ _ hq)) (i0i rfl al _ rfl (.inl (SqL.of (s2 _ _ a3))) (i0c _ rfl (by lia) (by rw [Z08];lia) ?_))
  refine A4k (n:=(aa.map V.str).length) (λi Z O=>∃(J:Int) (o8 o9 c0 b7:Option V) (iv gv:List V) (W:List (Str×Int)) (l:List G3),Z=[Sio J,Sro q,Sro sc,Sro d,some ow,Sro B,Sro I,Sio C,o8,o9,c0,b7]/\A0u H O/\O B=some (.lst iv)/\O I=some (.lst gv)/\Paired (λ(v:V) (e:Str×Int)=>∃q,v= .ref q/\S q/\O q=some (.tup [.str e.1,.int e.2])) iv W/\Paired (E3i O) gv l/\W.length=i/\l.length<=i/\(∀e∈W,B4q e.1/\Sm e.2)/\(∀e∈l,B4q e.1/\Sm e.2.1/\Sm e.2.2)/\B0d lk (l.map (·.1))/\(∀e∈l,e.1∈c)/\Paired (λ(y:Str) (e:Str×Int)=>(e.1=""/\0<=e.2/\e.2<lnL lk y)\/(e.1∈c/\(e.1,0-e.2,lnL lk y-e.2)∈l)) (aa.take i) W/\(∀(k:Nat) (y:Str) (e:Str×Int),aa[k]? =some y->W[k]? =some e->((k:Int)<C->e=(y,0))/\((k:Int)=C->e.1=y/\e.2<0)))
   (i08 r1 none none (i1d none none [] [] [] [] rfl s2 gi gg .nil .nil rfl ⟨Z09 _,(i0h (λe b=>by cases b) (λe b=>by cases b) (λe b=>by cases b) (λe b=>by cases b) .nil (λk y e _ b=>by cases b))⟩)) ?_ ?_
  ·rintro i Z O hi zz;refine e0e zz ?_;clear zz;rintro J o8 o9 c0 b7 iv gv W ⟨l,rfl,s3,c1,b8,pi,pg,a8,c4,b5,b0,a6,a2,R,a7⟩;refine B2x ?_;intro D';rw [Z08] at hi;have nl:((0:Int)+(i:Int))=(i:Int):=by lia
   obtain ⟨y,X,ey⟩:=A6n (f:=V.str) (xs:=aa) (i:=(0:Int)+(i:Int)) (by lia) (by lia);have my:=Z13 X;obtain ⟨n,vn,n1,i0⟩:=c5 y my;have dg:=A9g.k (H:=O) (a:=d) (k:=Sum.inr y) (s3 _ _ hd);rw [vn] at dg;refine i17 _ rfl _ rfl q _ _ _ rfl rfl (SqT.of (s3 _ _ hq)) rfl (i0z _ rfl al _ _ _ rfl rfl (SqL.of (s3 _ _ a3)) (i0i ey d _ rfl dg ?_));refine i06 _ rfl (A0v rfl) λzl f7=> ?_;have sz:=A0e (o:= .lst [.str ""]) f7;refine i10 sc zl _ _ rfl rfl (sz _ _ (s3 _ _ d5)) A0b (A2a (by simp;lia)) λcl h5=> ?_;have e9:=A0e (o:= .lst (c.map V.str++[V.str ""])) h5;have s5:=sz.trans e9;have d2:upd (upd O zl (.lst [.str ""])) cl (.lst (c.map V.str++[V.str ""])) cl=some (.lst ((c++[("":Str)]).map V.str)):=by rw [A0b,Z0s];rfl
   generalize upd (upd O zl (.lst [.str ""])) cl (.lst (c.map V.str++[V.str ""]))=H5 at s5 d2;have p1:(0:Int)<((c.map V.str).length:Int)+1:=by lia
   obtain ⟨x,hx,ex⟩:=A6n (f:=V.str) (xs:=c++[("":Str)]) (i:=J/7%(((c.map V.str).length:Int)+1)) (Z1v _ (by lia)) (by have:=Z1p (J/7) p1;rw [Z08] at this⊢;rw [Z06,Z0j];lia)
   have d9:D8o lk x/\(x=""\/x∈c):=by
    rcases Z07.mp (Z13 hx) with z | z
    ·exact ⟨D9e g6 g0 z,.inr z⟩
    ·exact ⟨.inl (Z0w.mp z),.inl (Z0w.mp z)⟩
   have c6:lnL lk y=n:=A7d vn;refine i0s _ rfl _ _ rfl rfl ⟨by decide,by decide⟩ (i0o _ rfl sc _ rfl (.inl (SqL.of (s5 _ _ (s3 _ _ d5)))) (i0f _ _ rfl rfl (i0m _ _ rfl rfl p1 (i0y cl _ _ _ rfl rfl (SqL.of d2) ex ?_))));have a9:=s3.trans s5;refine i18 _ rfl _ _ rfl rfl ⟨by decide,by decide⟩ _ _ rfl rfl z_50 (i0f _ _ rfl rfl ?_);have yo:=D9e e8 c5 my;refine i02 (λZ U=>H5=U/\∃(x:Str) (z:Int),Z=[Sio J,Sro q,Sro sc,Sro d,some ow,Sro B,Sro I,Sio C,Sio (0+(i:Int)),Sio n,Sso x,Sio z]/\(D8o lk x/\(x=""\/x∈c))/\-2<=z/\z<=2/\((0+(i:Int))<C->x=y/\z=0)) ?_ ?_
   ·refine i0e _ rfl _ rfl (i0q _ _ rfl rfl _ rfl (A8x (λc2=> ?_) (λc2=>⟨rfl,(i0p x _ rfl d9 (by lia) (by lia) λh=>absurd h c2)⟩)));rcases b6 with ⟨_,e⟩ | ⟨rfl,_,_,a0⟩
    ·exact absurd c2 (by lia)
    ·exact i1b _ rfl _ rfl al _ _ _ rfl rfl (SqL.of (a9 _ _ a3)) ey rfl (i0p y 0 rfl ⟨yo,.inr (a0 y my)⟩ (by decide) (by decide) λ_=>⟨rfl,rfl⟩)
   rintro Z U ⟨rfl,x1,z1,rfl,h6,f0,g1,f5⟩;refine i02 (λZ U=>H5=U/\∃(x:Str) (z:Int),Z=[Sio J,Sro q,Sro sc,Sro d,some ow,Sro B,Sro I,Sio C,Sio (0+(i:Int)),Sio n,Sso x,Sio z]/\(D8o lk x/\(x=""\/x∈c))/\-2<=z/\z<=2/\((0+(i:Int))<C->x=y/\z=0)/\((0+(i:Int))=C->x=y/\z<0)) ?_ ?_
   ·refine i02 _ rfl (i0j _ rfl rfl _ rfl (A8x (λu=> ?_) (λu=>⟨rfl,(i0t x1 z1 rfl h6 f0 g1 f5 λh=>absurd (congrArg V.int h) u)⟩)));have u:(0:Int)+(i:Int)=C:=V.int.inj u;rcases b6 with ⟨_,e⟩ | ⟨rfl,_,_,a0⟩
    ·exact absurd u (by lia)
    ·exact i17 _ rfl _ rfl al _ _ _ rfl rfl (SqL.of (a9 _ _ a3)) ey (i02 _ rfl (i18 _ rfl _ _ rfl rfl D5z _ _ rfl rfl rfl (i0t y _ rfl ⟨yo,.inr (a0 y my)⟩ (by lia) (by lia) (λh=>absurd h (by lia)) λ_=>⟨rfl,by lia⟩)))
   rintro Z U ⟨rfl,D,M,rfl,⟨d0,d3⟩,g3,i4,b9,e5⟩;have d4:¬y="":=λz=>by have:=(e8 y my).2;rw [z] at this;exact absurd this (by decide +kernel)
   have a4:=s5 _ _ b8;obtain ⟨gt0,egt⟩:∃g,g=l:=⟨l,rfl⟩;refine i02 (λZ U=>∃(z:Int) (gv:List V) (l:List G3),Z=[Sio J,Sro q,Sro sc,Sro d,some ow,Sro B,Sro I,Sio C,Sio (0+(i:Int)),Sio n,Sso D,Sio z]/\-2<=z/\z<=60/\A0u H U/\KB I H5 U/\U I=some (.lst gv)/\Paired (E3i U) gv l/\l.length<=i+1/\(∀e∈l,B4q e.1/\Sm e.2.1/\Sm e.2.2)/\B0d lk (l.map (·.1))/\(∀e∈l,e.1∈c)/\(∀e∈gt0,e∈l)/\((D=""/\0<=z/\z<lnL lk y)\/(D∈c/\(D,0-z,lnL lk y-z)∈l))/\((0+(i:Int))<C->(D,z)=(y,0))/\((0+(i:Int))=C->D=y/\z<0)) ?_ ?_
   ·have e0:∀{q:Addr} {ys:List V},O q=some (.tup ys)->H5 q=some (.tup ys):=λ{q ys} e=>s5 _ _ e;refine i0j _ rfl rfl _ rfl (A8x (λu=> ?_) (λa1=> ?_))
    ·refine i0s _ rfl _ _ rfl rfl ⟨by decide,by decide⟩ (i0s _ rfl _ _ rfl rfl (by show (0:Int)<n;lia) (i0u _ gv l rfl ?_ ?_ a9 (i0h KB.refl a4 (Paired.mapP pg (by rintro v e ⟨q,e1,Y⟩;exact i02 q e1 (e0 Y))) (by lia) b0 (i0h a6 a2 (λe b=>egt▸b) (.inl (i00 (V.str.inj u) ?_ ?_)) (λh=>absurd ((b9 h).1.symm.trans (V.str.inj u)) d4) λh=>absurd ((e5 h).1.symm.trans (V.str.inj u)) d4))))
     ·have:=Z1v (J/63) (show n≠0 by lia)
      lia
     ·have:=Z1p (J/63) (show 0<n by lia)
      lia
     ·exact Z1v (J/63) (show n≠0 by lia)
     ·rw [c6];exact Z1p (J/63) (show 0<n by lia)
    ·have a1:¬D="":=λe=>a1 (by rw [e]);rcases d0 with e | ⟨_,nx,m,vm,m1,g2⟩
     ·exact absurd e a1
     have h8:=Paired.length pg;refine i06 _ rfl (.inl (i01 rfl _ (SqL.of a4))) (i0w _ rfl _ rfl _ _ rfl rfl (i0w _ rfl _ rfl _ _ rfl rfl ⟨A0v rfl,λtp L=> ?_⟩));have p:=A0e (o:= .tup [.str D,.int (0-M),.int (n-M)]) L;have eT:upd H5 tp (.tup [.str D,.int (0-M),.int (n-M)]) tp=some (.tup [.str D,.int (0-M),.int (n-M)]):=A0b;generalize upd H5 tp (.tup [.str D,.int (0-M),.int (n-M)])=H7 at p eT;have g7:=p _ _ a4;refine i0u I _ _ rfl rfl g7 (A1l (by lia)) (i0u M (gv++[.ref tp]) (l++[(D,0-M,n-M)]) rfl g3 (by lia) (A0o (a9.trans p) h0) (i0h ((KB.of p).trans KB.refl.upd) A0b ?_ (by rw [Z06];simp only [Z0y,Z2g];lia) (λe b=> ?_) (i0h (λy X=> ?_) (A6c a2 (d3.resolve_left a1)) (λe b=>Z07.mpr (.inl (egt▸b))) (.inr ⟨d3.resolve_left a1,by rw [c6];simp⟩) (λh=>by rw [(b9 h).1,(b9 h).2]) e5)))
     ·exact B2p (Paired.mapP pg (by rintro v e ⟨q,e1,Y⟩;exact i02 q e1 (by rw [A0i (A3j (p _ _ (e0 Y)) g7 (by intro h;cases h))];exact p _ _ (e0 Y)))) (.cons (i02 tp rfl (by rw [A0i (A3j eT g7 (by intro h;cases h))];exact eT)) .nil)
     ·rcases Z07.mp b with b | b
      ·exact b0 e b
      ·rw [Z0w.mp b];exact i00 nx (B5i (by show _<=0-M;lia) (by show 0-M<=_;lia)) (B5i (by show _<=n-M;lia) (by show n-M<=_;lia))
     ·rw [Z0s] at X;rcases Z07.mp X with X | X
      ·exact a6 y X
      ·rw [Z0w.mp X];exact i06 m vm m1 g2
   rintro Z U zz;refine e09 zz ?_;clear zz;rintro z3 g9 f8 rfl i1 h7 ⟨s6,e4,f6,h2,e6,d1,d6,c9,c7,f2,f9,g8⟩;subst egt;have d8:aa[i]? =some y:=by simpa using X
   have f4:=s5 _ _ c1;have c8:=e4 _ _ ig f4;have i2:=Paired.length pi;refine i06 _ rfl (.inl (i01 rfl _ (SqL.of c8))) (i0k _ rfl _ rfl (A0v rfl) λtp L=> ?_);have p:=A0e (o:= .tup [.str D,.int z3]) L;have eT:upd U tp (.tup [.str D,.int z3]) tp=some (.tup [.str D,.int z3]):=A0b;generalize upd U tp (.tup [.str D,.int z3])=H7 at p eT;have d7:=p _ _ c8;refine i0u B _ _ rfl rfl d7 (A1l (by lia)) ?_;have s7:=s6.trans p;have Stp:S tp:=(fr.same s6) tp L;refine i0s _ rfl _ _ rfl rfl ⟨by decide,by decide⟩ ?_;have N:∀{q:Addr} {ys:List V},H7 q=some (.tup ys)->upd H7 B (.lst (iv++[.ref tp])) q=some (.tup ys):=λ{q ys} e=>by rw [A0i (A3j e d7 (by intro h;cases h))];exact e
   have h1:∀{q:Addr} {ys:List V},O q=some (.tup ys)->H7 q=some (.tup ys):=λ{q ys} e=>p _ _ (e4 _ _ (A3j (s5 _ _ e) a4 (by intro h;cases h)) (s5 _ _ e));refine i08 _ _ _ (i1d _ _ (iv++[.ref tp]) g9 (W++[(D,z3)]) f8 rfl (A0o s7 b3) A0b (by rw [A0i ig.symm];exact p _ _ f6) (B2p (Paired.mapP pi (by rintro v e ⟨q,e1,Y,e3⟩;exact i06 q e1 Y (N (h1 e3)))) (.cons (i06 tp rfl Stp (N eT)) .nil)) (Paired.mapP h2 (by rintro v e ⟨q,e1,Y⟩;exact i02 q e1 (N (p _ _ Y)))) (by rw [Z06,a8];rfl) ⟨e6,(i0h (λe b=> ?_) d1 d6 c9 ?_ λk y' e b4 b=> ?_)⟩)
   ·rcases Z07.mp b with b | b
    ·exact b5 e b
    ·rw [Z0w.mp b];exact ⟨d0.nm,B5i (by lia) (by lia)⟩
   ·rw [Z14,d8];exact B2p (Paired.mapP R λy e h=>h.imp id λh=>⟨h.1,c7 _ h.2⟩) (.cons f2 .nil)
   ·by_cases hk:k<W.length
    ·rw [Z26 hk] at b;exact a7 k y' e b4 b
    ·have g4:k=i:=by have:=(Z03.mp b).1;simp at this;lia
     subst g4;rw [d8] at b4;cases b4;rw [<-a8,Z1l (Z09 _)] at b;simp at b;subst b;exact ⟨λh=>f9 (by lia),λh=>g8 (by lia)⟩
  ·rintro Z O zz;refine e0e zz ?_;clear zz;rintro J o8 o9 c0 b7 iv gv W ⟨l,rfl,s3,c1,b8,pi,pg,a8,c4,b5,b0,a6,a2,R,a7⟩;rw [Z08] at a8 c4 R;rw [Z18] at R;refine i13 _ rfl q _ _ _ rfl rfl (SqT.of (s3 _ _ hq)) rfl (i06 _ rfl (A0v rfl) λtp L=> ?_);have p:=A0e (o:= .tup [.str "read",.str an,.ref B]) L;have eT:upd O tp (.tup [.str "read",.str an,.ref B]) tp=some (.tup [.str "read",.str an,.ref B]):=A0b;generalize upd O tp (.tup [.str "read",.str an,.ref B])=H4 at p eT;have s4:=s3.trans p;have f3:=fr.same s3;have h3:Rep (A0s S H4) (.ref B) (A5b W):= .lst (A0h Sil (p _ _ c1)) (B7b (Paired.mapP pi (by rintro v e ⟨q,e1,Y,e3⟩;exact i02 q e1 (A0h Y (p _ _ e3)))));refine i0e _ rfl _ rfl (i0l _ rfl (.ref tp) I d (i1d J gv l (.read an W) lk S rfl (fr.same s4) (D7t (A0h (f3 tp L) eT) h3) (i00 e7.1 (by lia) b5) e7.2 (p _ _ b8) (Paired.mapP pg (by rintro v e ⟨q,e1,Y⟩;exact i02 q e1 (p _ _ Y))) (i04 b0 (s4 _ _ hd) a6 λv' u' H5 s5 rp wu tu du gp=>k v' u' H5 (s4.trans s5) rp wu tu ?_ ?_)))
   ·have:dep (.read an W)=1:=rfl
    lia
   ·intro h4 ok nm g5
    have tr:A6p nm c (.read an W):=λe b=>by
     obtain ⟨j,hj,ej⟩:=List.mem_iff_getElem.mp b;obtain ⟨y,_,h⟩:=A7a R (Z0b hj);rw [ej] at h;exact h.imp (·.1) (·.1)
    refine ⟨gp.ti nm c a2 tr,λρ hr=>gp.sf h4 ok ρ (λe b=>hr.2 _ (a2 e b)) λhg=>g5 ρ hr _ (C9t hr.1 hg R) λhn=> ?_⟩;rcases b6 with ⟨e,_⟩ | ⟨_,b1,b2,_⟩
    ·exact absurd e hn
    ·obtain ⟨n,rfl⟩:=Int.eq_ofNat_of_zero_le b1;exact B5q (n:=n) (by lia) (by lia) λk y e X b=>⟨λh=>(a7 k y e X b).1 (by lia),λh=>(a7 k y e X b).2 (by lia)⟩
def D8b (H:Hp) (lk:List (Key×V)) (a:Addr) (es:List (Str×List Str)):Prop:=∃b,H a=some (.lst b)/\Paired (D1b H lk) b es/\es.length<=100
def D7a (H:Hp) (lk:List (Key×V)) (v:V) (own:Option (Str×List Str)):Prop:=(v= .non/\own=none)\/∃e,D1b H lk v e/\own=some e
theorem D7a.same (h:D7a H lk v own) (s:A0u H H'):D7a H' lk v own:=by
 rcases h with h | ⟨e,h,a⟩
 ·exact .inl h
 ·exact .inr (i02 e (h.same s) a)
def okA (L:Str->Int) (es:List (Str×List Str)):OkP:=λ_ a c=>∃e∈es,e.1=a/\inC L e.2 c
def okO (L:Str->Int) (es:List (Str×List Str)) (own:Option (Str×List Str)):OkP:=λρ a c=>okA L es ρ a c\/∃e,own=some e/\a=e.1/\inC L e.2 c/\A6u c (e.2.map ρ)
def LfZ (lk:List (Key×V)) (es:List (Str×List Str)) (own:Option (Str×List Str)) (nm a:List Str) (u:Tm):Prop:=SfT (lnL lk) (okA (lnL lk) es) (okO (lnL lk) es own) nm a u
def OwS (own:Option (Str×List Str)) (a:List Str):Prop:=∀e,own=some e->∀x∈e.2,x∈a
def B8g:Sp:=λi H Q _=>∃(r:Int) (g f d:Addr) (e:V) (b:Option (Str×List Str)) (h:List (Str×List Str)) (a:List Str) (c:List (Key×V)) (S:Addr->Prop),i=[.int r,.ref g,.ref f,.ref d,e]/\D8b H c g h/\D1c H c f a/\H d=some (.dK c)/\D7a H c e b/\OwS b a/\Fr S H/\D7f S c 4 (λu=>∀j,LfZ c h b j a u) H Q
theorem C6s {c:TT} (b:Q false H) (f:∀a:Bool->Hp->Prop,a d1 H->t1 Z H a) (d:∀a:Bool->Hp->Prop,a d2 H->t2 Z H a) (e:Q false H->d1=true->d2=true->c Z H Q):D6x t1 (D6x t2 c) Z H Q:=by
 refine f _ ?_
 cases d1 with
 | false=>exact A2m b
 | true =>
  refine A5u (d _ ?_)
  cases d2 with
  | false=>exact A2m b
  | true=>exact A5u (e b rfl rfl)
theorem B8f (T:Txt K mg t):FO P w base T.ii 4 B8g:=by
 have Gc8:= @A6r P w K mg base t T;have Gd0:= @B7t P w K mg base t T;refine T.ii.F.ok A8s (by walk_at "ln") λ_ A _ s H _ Q E L h=> ?_
 ·refine e0e h ?_;clear h;rintro r ar C d ow a4 es a ⟨lk,S,rfl,a1,n,hd,W,a0,M,k⟩;obtain ⟨b,B,D,a7⟩:=id a1;obtain ⟨j,a3,X,a6⟩:=id n;have a5:=Paired.length D;refine i02 _ (@RS.r _ _ _ (rq1 (rq6 5 A8s.nd (A0j A1j (pv 0) A0d)) (rq1 (rq6 0 A8s.nd (A0j A1o (pv 0) A0d)) (rq1 (rq4 (PW.pt (A3x (A0p A8h (pv 5) A0d (A1b _)) (A3x (A0p C7s (pv 4) B9t (A1b _)) (A4f (A0p A8h (A0q A0y (by rfl) T.ce Z0r (A0a (A1f A1h (pv 4) A0d (λ_ _=>rfl)) A0c)) A0d (A1b _)))))) (rq3 (rq5 (pcl Gd0 L T.ij (A0a (pv 0) (A0a (pv 4) (A0a (pv 2) (A0a (pv 3) (A0a (A1f A1h (pv 4) A0d (λ_ _=>rfl)) A0c)))))))) ⟨A0x⟩) (rq1 (rq4 (PW.pt (A3x (A0p A3d (pv 5) A0d (A1b _)) (A4f (A0p A8h (A0q A0y (by rfl) T.ce Z0r (A0a (pv 2) A0c)) A0d (A1b _))))) (rq3 (rq5 (A1z (A0a A1w (A0a (A1f A1n (pv 2) (A0j A1j (pv 0) (A0q A0y (by rfl) T.ce Z0r (A0a (pv 2) A0c))) (λ_ _=>rfl)) A0c))))) ⟨A0x⟩) (rq1 (rq4 (PW.pt (B6l (A0p A3d (pv 5) A0d (A1b _)) (B6l (A0p A3d (A0q A0y (by rfl) T.ce Z0r (A0a (pv 1) A0c)) A0d (A1b _)) (B5s (PW.pt (A3x (A0p A3d (A0q A0y (by rfl) T.ce Z0r (A0a (pv 2) A0c)) A0d (A1b _)) (A4f (A0p B8r (pv 5) A0d (A1b _))))))))) (rq3 (rq5 (A1z (A0a A1w (A0a (pcl Gc8 L T.dh (A0a (pv 0) A0c)) A0c))))) ⟨A0x⟩) (rq3 (rq5 (pcl Gd0 L T.ij (A0a (A0j A1o (pv 0) A0d) (A0a (A1f A1n (pv 1) (A0j A1j (pv 0) (A0q A0y (by rfl) T.ce Z0r (A0a (pv 1) A0c))) (λ_ _=>rfl)) (A0a (pv 2) (A0a (pv 3) (A0a B9t A0c)))))))))))))) ?_;refine i0s _ rfl _ _ rfl rfl E2g (i0s _ rfl _ _ rfl rfl ⟨by decide,by decide⟩ ?_);have w0:0<=r%8/\r%8<8:=by lia
  dsimp only [A7n,D3l,D6u];refine C6s (d1:=decide (4<r%8)) (d2:= ! decide (ow= .non)) ?_ (λm q=>(i02 _ rfl (i0q _ _ rfl rfl _ rfl q))) (λm q=>(i0j _ rfl rfl _ rfl q)) (λhF _ hn=> ?_)
  ·refine A2m ?_;dsimp only [C7r,D3l,D6u];refine B3n (d1:=decide (r%8=1)) (d2:=decide (0<a.length)) (λm q=>(i0j _ rfl rfl _ rfl (by rw [show decide (V.int (r%8)=V.int 1)=decide (r%8=1) from decide_eq_decide.mpr ⟨λh=>V.int.inj h,λh=>by rw [h]⟩];exact q))) (λm q=>(i0o _ rfl C _ rfl (.inl (SqL.of j)) (i0q _ _ rfl rfl _ rfl (by rw [show decide ((0:Int)<((a.map V.str).length:Int))=decide (0<a.length) from decide_eq_decide.mpr (by rw [Z08];lia)];exact q)))) ?_
   cases hp:(decide (r%8=1)&&decide (0<a.length)) with
   | true =>
    have a2:0<a.length:=by simp at hp;lia
    have p2:(0:Int)<((a.map V.str).length:Int):=by rw [Z08];lia
    obtain ⟨x,hx,ex⟩:=A6n (f:=V.str) (xs:=a) (i:=r/8%((a.map V.str).length:Int)) (Z1v _ (by lia)) (by have:=Z1p (r/8) p2;rw [Z08] at this⊢;exact this);refine A5u (i12 _ rfl _ rfl _ rfl C _ rfl (.inl (SqL.of j)) (i0m _ _ rfl rfl p2 (i10 C _ _ _ rfl rfl (SqL.of j) ex (A0v rfl) λq1 g=> ?_)));exact k _ (.place x) _ (A0e g) (D2m (A0h (M q1 g) A0b)) (X x (Z13 hx)).1 True.intro (by show 1<=4;lia) λJ=>⟨Z13 hx,λ_ _=>True.intro⟩
   | false =>
    refine A2m ?_;have de:∀c:Int,decide (V.int (r%8)=V.int c)=decide (r%8=c):=λc=>decide_eq_decide.mpr ⟨λh=>V.int.inj h,λh=>by rw [h]⟩;have dl:∀{α:Type} (xs:List α),decide (V.int (xs.length:Int)=V.int 0)=decide (xs.length=0):=λxs=>decide_eq_decide.mpr ⟨λh=>by have:=V.int.inj h;lia,λh=>by rw [h];rfl⟩;refine E2p (d1:=decide (r%8=0)) (d2:=decide (b.length=0)) (d3:=decide ((a.map V.str).length=0)&&decide (r%8<3)) (λm q=>(i0j _ rfl rfl _ rfl (by rw [de];exact q))) (λm q=>(i0o _ rfl ar _ rfl (.inl (SqL.of B)) (i05 rfl _ rfl (by rw [dl];exact q)))) (λm q=>B3n (d1:=decide ((a.map V.str).length=0)) (d2:=decide (r%8<3)) (λm q=>(i0o _ rfl C _ rfl (.inl (SqL.of j)) (i05 rfl _ rfl (by rw [dl];exact q)))) (λm q=>(i02 _ rfl (i0q _ _ rfl rfl _ rfl q))) q) ?_
    cases ho:(decide (r%8=0)||(decide (b.length=0)||(decide ((a.map V.str).length=0)&&decide (r%8<3)))) with
    | true =>
     refine A5u (i0e _ rfl _ rfl λz hz=>⟨A0v rfl,λq1 g=> ?_⟩);exact k _ (.num z) _ (A0e g) (C9v (A0h (M q1 g) A0b)) hz True.intro (by show 1<=4;lia) λJ=>⟨True.intro,λ_ _=>True.intro⟩
    | false =>
     simp only [Bool.or_eq_false_iff,Bool.and_eq_false_iff,decide_eq_false_iff_not,Z08] at ho;obtain ⟨h0,h1,h2⟩:=ho;refine A2m ?_
     ·have p1:(0:Int)<(b.length:Int):=by lia
      obtain ⟨v,hv,ev⟩:=C3a (xs:=b) (i:=r/8%(b.length:Int)) (Z1v _ (by lia)) (Z1p _ p1);obtain ⟨e,he,q,I,rfl,G,l,u,p,y,o⟩:=B3r D hv;exact i0s _ rfl _ _ rfl rfl ⟨by decide,by decide⟩ (i12 _ rfl _ rfl _ rfl ar _ rfl (.inl (SqL.of B)) (i0m _ _ rfl rfl p1 (i0y ar _ _ _ rfl rfl (SqL.of B) ev (i0e _ rfl _ rfl (i11 _ q I C d e.1 e.2 a .non (i0t lk S rfl G l u p ⟨y,(i0h o n hd (.inl rfl) M λY u' U s R wu Z O N=>k Y u' U s R wu Z O λJ=>N _ _ J λρ L c hc _=> .inl (i06 e (Z13 he) rfl hc))⟩))))))
  ·rcases W with ⟨rfl,_⟩ | ⟨e,⟨q,I,rfl,G,l,u,p,y,o⟩,rfl⟩
   ·cases hn
   refine i0z _ rfl q _ _ _ rfl rfl (SqT.of G) (i0i rfl I _ rfl (.inl (SqL.of l)) (i0q _ _ rfl rfl _ rfl ?_));by_cases hl:(0:Int)<((e.2.map V.str).length:Int)
   ·rw [Z20 hl];rw [Z08] at hl;exact A5u (i02 _ rfl (i0e _ rfl _ rfl (i17 _ rfl _ rfl q _ _ _ rfl rfl (SqT.of G) rfl (i11 _ q I C d e.1 e.2 a (.ref I) (i0t lk S rfl G l u p ⟨y,(i0h o n hd (.inr (i00 rfl (by lia) (a0 e rfl))) M λY u' U s R wu Z O N=>k Y u' U s R wu Z O λJ=>N _ _ J λρ L c hc ha=> .inr (i0c e rfl rfl hc (ha (by intro h;cases h))))⟩)))))
   ·rw [Z1j hl];exact hF
def tg:Tm->Str
 | .num _=>"number"
 | .place _=>"place"
 | .read _ _=>"read"
 | .sum _ _=>"sum"
 | .pair k _ _=>opS k
 | .guard _ _ _ _ _=>"guard"
theorem B6j (h:Rep H v (A1s u)):∃q vs,v= .ref q/\H q=some (.tup (.str (tg u)::vs)):=by
 cases u <;> (unfold A1s at h;cases h with | @tup p xs _ e r=>cases r with | cons a r=>cases a;exact i07 p _ rfl e)
theorem B2t {l r:Tm} (h:Rep H v (A1s (.guard x lo hi l r))):∃q a b,v= .ref q/\H q=some (.tup [.str "guard",.str x,.int lo,.int hi,a,b])/\Rep H a (A1s l)/\Rep H b (A1s r):=by
 unfold A1s at h
 cases h with
 | @tup p xs _ e r =>
  cases r with
  | cons a r =>
   cases a
   cases r with
   | cons a r =>
    cases a
    cases r with
    | cons a r =>
     cases a
     cases r with
     | cons a r =>
      cases a
      cases r with
      | cons r1 r =>
       cases r with
       | cons r2 r =>
        cases r
        exact i0r p _ _ rfl e r1 r2
theorem D3w (k:Op3):¬opS k="guard"/\¬opS k="number":=by cases k <;> exact ⟨by decide +kernel,by decide +kernel⟩
theorem C9n (h:tg u="guard"):∃x lo hi l r,u= .guard x lo hi l r:=by
 cases u with
 | guard x lo hi l r=>exact i03 x lo (i08 hi l r rfl)
 | num _=>exact absurd h (show¬("number":Str)="guard" by decide +kernel)
 | place _=>exact absurd h (show¬("place":Str)="guard" by decide +kernel)
 | read _ _=>exact absurd h (show¬("read":Str)="guard" by decide +kernel)
 | sum _ _=>exact absurd h (show¬("sum":Str)="guard" by decide +kernel)
 | pair k _ _=>exact absurd h (D3w k).1
theorem D5h (h:tg u="number"):∃z,u= .num z:=by
 cases u with
 | num z=>exact ⟨z,rfl⟩
 | guard _ _ _ _ _=>exact absurd h (show¬("guard":Str)="number" by decide +kernel)
 | place _=>exact absurd h (show¬("place":Str)="number" by decide +kernel)
 | read _ _=>exact absurd h (show¬("read":Str)="number" by decide +kernel)
 | sum _ _=>exact absurd h (show¬("sum":Str)="number" by decide +kernel)
 | pair k _ _=>exact absurd h (D3w k).2
def KpR (S:Addr->Prop) (lk:List (Key×V)) (H:Hp) (v:V) (e:G3):Prop:=∃(q:Addr) (z:Int) (a b:V),v= .ref q/\H q=some (.tup [.str "guard",.str e.1,.int e.2.1,.int e.2.2,a,b])/\Rep (A0s S H) b (A1s (.num z))/\Sm z/\B4q e.1/\Sm e.2.1/\Sm e.2.2/\B0d lk [e.1]
theorem KpR.same {e:G3} (h:KpR S lk H v e) (s:A0u H H'):KpR S lk H' v e:=by
 obtain ⟨q,z,a,b,rfl,e,r,m⟩:=h;exact ⟨q,(i0r z a b rfl (s _ _ e) (r.same (A0g s)) m)⟩
theorem GdP.perm {gs a:List G3} {v:Tm} (h:GdP lk gs u v) (c:∀e,e∈gs↔e∈a):GdP lk a u v:=⟨λg i d=>h.ti g i λe b=>d e ((c e).mp b),λf l ρ j k=>h.sf f l ρ (λe b=>j e ((c e).mp b)) λd=>k λe b=>d e ((c e).mpr b)⟩
theorem GdP.out {gs:List G3} {v:Tm} {e:G3} {z:Int} (h:GdP lk gs u v) (m:∀y:Int,0<=y->y<lnL lk e.1->¬(lo<=y/\y<hi)->e.2.1<=y/\y<e.2.2):GdP lk (gs++[e]) u (.guard e.1 lo hi (.num z) v):=by
 refine ⟨λl i a g=>(i00 (a e (by simp)) True.intro (h.ti l i (λf b=>a f (by simp [b])) g)),λc k ρ d j=>⟨λ_=>True.intro,λn=> ?_⟩⟩;have:=d e (by simp);exact h.sf c k ρ (λf b=>d f (by simp [b])) λa=>j (A6c a (m _ this.1 this.2 n))
theorem B6c {α:Type} {xs:List α} {y:α}:∀e,e∈xs++[y]↔e∈y::xs:=λe=>by
 constructor
 ·intro h;rcases Z07.mp h with h | h
  ·exact .tail _ h
  ·rw [Z0w.mp h];exact .head _
 ·intro h;rcases Z0e.mp h with h | h
  ·rw [h];exact Z07.mpr (.inr (.head _))
  ·exact Z07.mpr (.inl h)
structure KpI (L:Str->Int) (x:Str) (u:Tm) (kd:List G3) (b:Tm):Prop where
 ti:∀nm sc,A6p nm sc u->A6p nm sc b/\∀e∈kd,e.1∈sc
 sf:∀(okn ok:OkP) (ρ:Env),A1y L okn ok ρ u->(∀e∈kd,e.2.1<=ρ e.1/\ρ e.1<e.2.2)->A1y L okn ok ρ b
 ne:∀e∈kd,¬e.1=x
theorem KpI.nil:KpI L x u [] u:=⟨λ_ _ h=>⟨h,λe a=>by cases a⟩,λ_ _ _ h _=>h,λe a=>by cases a⟩
theorem KpI.put {l r:Tm} (h:KpI L x u kd (.guard y lo hi l r)) (g:¬y=x):KpI L x u (kd++[(y,lo,hi)]) l:=by
 refine ⟨λf i d=> ?_,λa m ρ k c=> ?_,A6c h.ne g⟩
 ·obtain ⟨b,j⟩:=h.ti f i d;exact ⟨b.2.1,A6c j b.1⟩
 ·exact (h.sf a m ρ k λe n=>c e (by simp [n])).1 (c (y,lo,hi) (by simp))
def SmZ (lk:List (Key×V)) (x:Str) (u v:Tm):Prop:=∀(a d:OkP) (c b:List Str),x∈c->x∉b->A6p c (b++[x]) u->(∀ρ,InR (lnL lk) (b++[x]) ρ->A1y (lnL lk) a a ρ u)->SfT (lnL lk) a d c b v
theorem smZ {v:Tm} (s:¬x=("":Str)) (h:KpI (lnL lk) x u kd b) (g:GdP lk kd (.sum x b) v):SmZ lk x u v:=by
 intro d C n l r o p A;obtain ⟨B,t⟩:=h.ti n _ p
 have m:∀e∈kd,e.1∈l:=λe f=>by
  rcases Z07.mp (t e f) with z | z
  ·exact z
  ·exact absurd (Z0w.mp z) (h.ne e f)
 refine ⟨g.ti n l m (i00 r o B),λρ k=>g.sf d C ρ (λe f=>k.2 _ (m e f)) λw i F D=> ?_⟩;have a:∀y,¬y=x->B2n ρ x i y=ρ y:=λy j=>Z0t j;have c:B2n ρ x i x=i:=Z12 rfl;refine h.sf d d _ (A _ ⟨by rw [a _ (λz=>s z.symm)];exact k.1,λy j=> ?_⟩) λe f=> ?_
 ·rcases Z07.mp j with z | z
  ·rw [a y (λq=>o (q▸z))];exact k.2 y z
  ·rw [Z0w.mp z,c];exact ⟨F,D⟩
 ·rw [a e.1 (h.ne e f)];exact w e f
def C0t:Sp:=λb H Q _=>∃(x:Str) (v:V) (r:Int) (d:Addr) (u:Tm) (a:List (Key×V)) (S:Addr->Prop) (n:Nat),b=[.str x,v,.int r,.ref d]/\B4q x/\¬x=("":Str)/\B0d a [x]/\H d=some (.dK a)/\Fr S H/\Rep (A0s S H) v (A1s u)/\TmW u/\TmL a u/\dep u<=n/\n<=1000/\D7f S a (n+1) (SmZ a x u) H Q
theorem E3o {b:TT} {d3:Bool} (e:∀a:Bool->Hp->Prop,a d1 H->t1 Z H a) (c:∀a:Bool->Hp->Prop,a d2 H->t2 Z H a) (d:∀a:Bool->Hp->Prop,a d3 H->b Z H a) (h:Q (d1&&(d2&&d3)) H):D6x t1 (D6x t2 b) Z H Q:=B3n e (λa q=>B3n (d1:=d2) (d2:=d3) c d q) h
theorem C1h (T:Txt K mg t):FO P w base T.je 1 C0t:=by
 refine T.je.F.ok A3r (by walk_at "ln") λ_ A _ s H _ Q E hr h=> ?_
 ·refine e0e h ?_;clear h;rintro x v r d u N S n ⟨rfl,nx,xn,dx,hd,fr,rp,wu,tu,du,b4,k⟩;have hu:=A8b hr;refine i02 _ (@RS.r _ _ _ (rq1 (rq6 4 A3r.nd (@A1r _ _ _ _ A0c)) (rq1 ⟨@B0a _ _ _ _ _ _ PassesOwn.never (PW.pt (A3x (A0p A8h (A0j A1j (pv 2) A0d) A0d (A1b _)) (A3x (A0p A3d (A1f A1h (pv 1) A0d (λ_ _=>rfl)) A1w (A1b _)) (A3x (A0p D4q (A1f A1h (pv 1) A0d (λ_ _=>rfl)) (pv 0) (A1b _)) (A4f (A0p A3d (A1f A1h (A1f A1h (pv 1) A0d (λ_ _=>rfl)) A0d (λ_ _=>rfl)) A1w (A1b _))))))) (@A1u _ _ _ _ _ (A2r (A6y Z0k Z0n Z0o A2e (pv 4) (A0a (pv 1) A0c))) (@A2y _ _ _ (@A3f _ _ 1 _ _ _ _ A3r.nd rfl (.inl rfl) (A1f A1h (pv 1) A0d (λ_ _=>rfl)) rfl (.inl rfl))))⟩ (rq1 (rq6 5 A3r.nd (A1z (A0a A1w (A0a (pv 0) (A0a (pv 1) A0c))))) (rq1 (rq7 (C6w rfl T.py (A0a (pv 4) A0c)) (A0k (i:=6) A3r.nd rfl (.inl rfl)) (rq3 (rq4 (PW.pt (A3x (A0p A3d (A0j A1j (pv 2) A0d) A0d (A1b _)) (A3x (A0p A8h (A1f A1h (pv 6) A0d (λ_ _=>rfl)) A0d (A1b _)) (A4f (A0p E3g (A1f A1h (pv 6) A0d (λ_ _=>rfl)) (A2v hu (pv 3) (A1f A1h (pv 6) A0d (λ_ _=>rfl)) (λ_ _=>rfl)) (A1b _)))))) (rq3 (rq6 5 A3r.nd (A1z (A0a A1w (A0a (A1f A1h (pv 6) A0d (λ_ _=>rfl)) (A0a A0d (A0a (A1f A1h (pv 6) A0d (λ_ _=>rfl)) (A0a (A1f A1h (pv 6) A0d (λ_ _=>rfl)) (A0a (pv 5) A0c))))))))) (rq3 (rq4 (PW.pt (A3x (A0p A3d (A0j A1j (pv 2) A0d) A0d (A1b _)) (A4f (A0p D7n (A1f A1h (pv 6) A0d (λ_ _=>rfl)) A0d (A1b _))))) (rq3 (rq6 5 A3r.nd (A1z (A0a A1w (A0a (A1f A1h (pv 6) A0d (λ_ _=>rfl)) (A0a (A1f A1h (pv 6) A0d (λ_ _=>rfl)) (A0a (A2v hu (pv 3) (A1f A1h (pv 6) A0d (λ_ _=>rfl)) (λ_ _=>rfl)) (A0a (A1f A1h (pv 6) A0d (λ_ _=>rfl)) (A0a (pv 5) A0c))))))))) (rq3 (rq6 5 A3r.nd (A1z (A0a A1w (A0a (A1f A1h (pv 6) A0d (λ_ _=>rfl)) (A0a (A1f A1h (pv 6) A0d (λ_ _=>rfl)) (A0a (A1f A1h (pv 6) A0d (λ_ _=>rfl)) (A0a (pv 5) (A0a (A1f A1h (pv 6) A0d (λ_ _=>rfl)) A0c)))))))))))))) (rq3 (rq5 (pv 5)))))))) ?_;refine ⟨A0v rfl,λU a7=> ?_⟩;have s1:A0u H (upd H U (.lst [])):=A0e a7;refine i02 (λm Z H2=>∃(v':V) (f:Tm) (J:List V) (I:List G3),Z=[Sso x,some v',Sio r,Sro d,Sro U,none,none]/\A0u H H2/\H2 U=some (.lst J)/\Paired (KpR S N H) J I/\Rep (A0s S H) v' (A1s f)/\TmW f/\TmL N f/\J.length+dep f<=n/\m=dep f/\KpI (lnL N) x u I f) (i14 (dep u) v u [] [] rfl s1 A0b .nil rp (i09 wu tu (by show 0+dep u<=n;lia) rfl .nil)) ?_;rintro m Z H2 ⟨v',f,J,I,rfl,s2,h2,kp,a4,R,a2,a3,rfl,ki⟩;have b3:=Paired.length kp;obtain ⟨q,vs,rfl,eq⟩:=B6j a4;have eq:=A0m _ _ eq;have dp:=A6l f;have dt:∀(a b:Str),decide (V.str a=V.str b)=decide (a=b):=λa b=>decide_eq_decide.mpr ⟨λh=>V.str.inj h,λh=>by rw [h]⟩;refine C6s (d1:=decide (0<r%4)) (d2:=decide (tg f="guard")) ?_ (λQ' q=>(i0s _ rfl _ _ rfl rfl D9o (i0q _ _ rfl rfl _ rfl q))) (λQ' L=>(i1c _ rfl q _ _ _ rfl rfl (SqT.of (s2 _ _ eq)) (A3m (j:=0) rfl) rfl _ rfl (by rw [dt];exact L))) (λhF _ b1=> ?_)
  ·refine A2m ?_;refine i0k _ rfl _ rfl (A0v rfl) λtp a6=> ?_;have sT:=A0e (o:= .tup [.str "sum",.str x,.ref q]) a6;have eT:upd H2 tp (.tup [.str "sum",.str x,.ref q]) tp=some (.tup [.str "sum",.str x,.ref q]):=A0b;generalize upd H2 tp (.tup [.str "sum",.str x,.ref q])=H3 at sT eT;have s3:=s2.trans sT;have h3:=sT _ _ h2;have f2:=fr.same s2;refine i0o _ rfl U _ rfl (SqL.of h3) ?_;refine C0m (K:=K) (a:=U) (xs:=J) (λi Z G=>∃(v3:V) (u3:Tm) (o6:Option V),Z=[Sso x,Sro q,Sio r,Sro d,Sro U,some v3,o6]/\A0u H G/\G U=some (.lst J)/\Rep (A0s S G) v3 (A1s u3)/\TmW u3/\TmL N u3/\dep u3<=dep f+1+i/\GdP N (I.drop (I.length-i)) (.sum x f) u3) (i0n (.ref tp) (.sum x f) none rfl s3 (i0h h3 (D4j (A0h (f2 tp a6) eT) (a4.same (A0g s3))) ⟨nx,R⟩ ⟨dx,a2⟩ (by simp only [dep];lia) (by rw [Nat.sub_zero,Z2i];exact .nil))) (by rintro i Z G ⟨_,_,_,_,_,hG,_⟩;exact SqL.of hG) ?_ ?_
   ·rintro i y Z G hi hy ⟨v3,u3,o6,rfl,sG,hG,W,a0,Y,a1,O⟩;obtain ⟨e,he,b2⟩:=B3r kp hy;obtain ⟨M,z,a,b,rfl,ek,rb,hz,nk,a9,a8,dk⟩:=b2.same sG;have b0:=(Z03.mp he).1
    have ed:I.drop (I.length-(i+1))=e::I.drop (I.length-i):=by
     have e1:I.length-(i+1)=J.length-1-i:=by lia
     have e2:I.length-i=J.length-1-i+1:=by lia
     rw [e1,e2,Z1u b0];rw [Z0b b0] at he;rw [Z1a he]
    rw [ed];obtain ⟨xk,D,g⟩:=e;obtain ⟨nn,vn,n1,b5⟩:=dk xk (by simp);have dg:=A9g.k (H:=G) (a:=d) (k:=Sum.inr xk) (sG _ _ hd);rw [vn] at dg;have b6:lnL N xk=nn:=A7d vn;have fG:=fr.same sG;have C:=SqT.of (K:=K) ek
    have mk:∀(p B:Int) (v1 v2:V) (l r':Tm) (G2:Hp) (c:Addr),Sm p->Sm B->Rep (A0s S G) v1 (A1s l)->Rep (A0s S G) v2 (A1s r')->TmW l->TmW r'->TmL N l->TmL N r'->dep l<=dep f+1+i->dep r'<=dep f+1+i->G c=none->G2=upd G c (.tup [.str "guard",.str xk,.int p,.int B,v1,v2])->A0u H G2/\G2 U=some (.lst J)/\Rep (A0s S G2) (.ref c) (A1s (.guard xk p B l r'))/\TmW (.guard xk p B l r')/\TmL N (.guard xk p B l r')/\dep (.guard xk p B l r')<=dep f+1+(i+1):=λp B v1 v2 l r' G2 c m1 m2 r1 r2 w1 w2 t1 t2 d1 d2 ht e=>by
     subst e;have sN:=A0e (o:= .tup [.str "guard",.str xk,.int p,.int B,v1,v2]) ht;exact i0h (sG.trans sN) (sN _ _ hG) (B6t (A0h (fG c ht) A0b) (r1.same (A0g sN)) (r2.same (A0g sN))) (i09 nk m1 m2 w1 w2) (i00 dk t1 t2) (by simp only [dep];lia)
    refine E3o (d1:=decide (V.int (r%4)=V.int 1)) (d2:=decide (0<D)) (d3:=decide (nn<=g)) (λQ' L=>(i0o _ rfl _ _ rfl rfl (i0a D9o rfl _ rfl L))) (λQ' L=>(i13 _ rfl M _ _ _ rfl rfl C rfl (i0q _ _ rfl rfl _ rfl L))) (λQ' L=>(i13 _ rfl M _ _ _ rfl rfl C rfl (i17 _ rfl _ rfl M _ _ _ rfl rfl C rfl (i0f d _ rfl dg (i0q _ _ rfl rfl _ rfl L))))) ?_;have dn:dep (.num z)<=dep f+1+i:=by show 1<=_;lia
    cases hb1:(decide (V.int (r%4)=V.int 1)&&(decide (0<D)&&decide (nn<=g))) with
    | true =>
     simp only [Z1x,decide_eq_true_eq] at hb1;refine A5u (i13 _ rfl M _ _ _ rfl rfl C rfl (i13 _ rfl M _ _ _ rfl rfl C rfl (i13 _ rfl M _ _ _ rfl rfl C rfl (i06 _ rfl (A0v rfl) λc X=> ?_))));obtain ⟨m1,m2,m3,m4,m5,m6⟩:=mk 0 D b v3 (.num z) u3 _ c sm0 a9 rb W hz a0 True.intro Y dn a1 X rfl;exact i0n _ _ _ rfl m1 (i0h m2 m3 m4 m5 m6 ((O.out (e:=(xk,D,g)) λy y0 y1 hn=>⟨by show D<=y;lia,by have:y<lnL N xk:=y1;show y<g;lia⟩).perm B6c))
    | false =>
     refine A2m ?_;refine B3n (d1:=decide (V.int (r%4)=V.int 1)) (d2:=decide (D<=0)) (λQ' L=>(i0o _ rfl _ _ rfl rfl (i0a D9o rfl _ rfl L))) (λQ' L=>(i13 _ rfl M _ _ _ rfl rfl C rfl (i0q _ _ rfl rfl _ rfl L))) ?_
     cases hb2:(decide (V.int (r%4)=V.int 1)&&decide (D<=0)) with
     | true =>
      simp only [Z1x,decide_eq_true_eq] at hb2;refine A5u (i13 _ rfl M _ _ _ rfl rfl C rfl (i13 _ rfl M _ _ _ rfl rfl C rfl (i17 _ rfl _ rfl M _ _ _ rfl rfl C rfl (i0f d _ rfl dg (i13 _ rfl M _ _ _ rfl rfl C rfl (i06 _ rfl (A0v rfl) λc X=> ?_))))));obtain ⟨m1,m2,m3,m4,m5,m6⟩:=mk g nn b v3 (.num z) u3 _ c a8 (B5i (by lia) (by lia)) rb W hz a0 True.intro Y dn a1 X rfl;exact i0n _ _ _ rfl m1 (i0h m2 m3 m4 m5 m6 ((O.out (e:=(xk,D,g)) λy y0 y1 hn=>⟨by have:=hb2.2;show D<=y;lia,by have:y<lnL N xk:=y1;show y<g;lia⟩).perm B6c))
     | false =>
      refine A2m (i13 _ rfl M _ _ _ rfl rfl C rfl (i13 _ rfl M _ _ _ rfl rfl C rfl (i13 _ rfl M _ _ _ rfl rfl C rfl (i1b _ rfl _ rfl M _ _ _ rfl rfl C rfl (A0v rfl) λc X=> ?_))));obtain ⟨m1,m2,m3,m4,m5,m6⟩:=mk D g v3 b u3 (.num z) _ c a9 a8 W rb a0 hz Y True.intro a1 dn X rfl;exact i0n _ _ _ rfl m1 (i0h m2 m3 m4 m5 m6 ((O.put (e:=(xk,D,g))).perm B6c))
   ·rintro Z G ⟨v3,u3,o6,rfl,sG,hG,W,a0,Y,a1,O⟩;rw [b3,Nat.sub_self,List.drop_zero] at O;exact i02 _ rfl (k v3 u3 G sG W a0 Y (by lia) (smZ xn ki O))
  ·obtain ⟨y,D,hi,l,rr,rfl⟩:=C9n (of_decide_eq_true b1);obtain ⟨q',a,b,e1,e2,ra,rb⟩:=B2t a4;cases e1;obtain ⟨qb,vb,rfl,eb⟩:=B6j rb;have a5:=A0m _ _ e2;have e2:=s2 _ _ a5;have eb:=s2 _ _ (A0m _ _ eb);refine B3n (d1:= ! decide (y=x)) (d2:=decide (tg rr="number")) (λQ' L=>(i13 _ rfl q _ _ _ rfl rfl (SqT.of e2) rfl (i0j _ rfl rfl _ rfl (by rw [dt];exact L)))) (λQ' L=>(i13 _ rfl q _ _ _ rfl rfl (SqT.of e2) rfl (i0y qb _ _ _ rfl rfl (SqT.of eb) (A3m (j:=0) rfl) (i05 rfl _ rfl (by rw [dt];exact L))))) ?_
   cases hc:(! decide (y=x)&&decide (tg rr="number")) with
   | false=>exact hF
   | true =>
    simp only [Z1x,decide_eq_true_eq] at hc;obtain ⟨z,rfl⟩:=D5h hc.2;have a3:J.length+dep (.guard y D hi l (.num z))<=n:=a3;simp only [dep] at a3;refine A5u (i02 (λZ' H'=>∃m',m'<dep (.guard y D hi l (.num z))/\∃(v':V) (f:Tm) (J:List V) (I:List G3),Z'=[some (.str x),some v',some (.int r),some (.ref d),some (.ref U),none,none]/\A0u H H'/\H' U=some (.lst J)/\Paired (KpR S N H) J I/\Rep (A0s S H) v' (A1s f)/\TmW f/\TmL N f/\J.length+dep f<=n/\m'=dep f/\KpI (lnL N) x u I f) (λZ' H' z=>z) ?_);refine i0j _ rfl (.inl (i01 rfl _ (SqL.of h2))) _ rfl (i0u U _ _ rfl rfl h2 (A1l (by lia)) ?_);have qo:q≠U:=A3j e2 h2 (by intro h;cases h);refine i13 _ rfl q _ _ _ rfl rfl (SqT.of (by rw [A0i qo];exact e2)) rfl ?_;refine i13 (dep l) (by simp only [dep];lia) a l (J++[.ref q]) (I++[(y,D,hi)]) rfl (A0o s2 a7) A0b (B2p kp (.cons (i0y q z a (.ref qb) rfl a5 rb R.2.2.2.2 (i04 R.1 R.2.1 R.2.2.1 a2.1)) .nil)) (i0h ra R.2.2.2.1 a2.2.1 (by rw [Z06];simp only [Z0y,Z2g];lia) rfl (ki.put (by have:=hc.1;simpa using this)))
theorem C9r (h:Rep H v (A1s (.sum x b))):∃q a,v= .ref q/\H q=some (.tup [.str "sum",.str x,a])/\Rep H a (A1s b):=by
 unfold A1s at h
 cases h with
 | @tup p xs _ e r =>
  cases r with
  | cons a r =>
   cases a
   cases r with
   | cons a r =>
    cases a
    cases r with
    | cons r1 r =>
     cases r
     exact i0f p _ rfl e r1
theorem C4f {k:Op3} {l r:Tm} (h:Rep H v (A1s (.pair k l r))):∃q a b,v= .ref q/\H q=some (.tup [.str (opS k),a,b])/\Rep H a (A1s l)/\Rep H b (A1s r):=by
 unfold A1s at h
 cases h with
 | @tup p xs _ e r =>
  cases r with
  | cons a r =>
   cases a
   cases r with
   | cons r1 r =>
    cases r with
    | cons r2 r =>
     cases r
     exact i0r p _ _ rfl e r1 r2
def isF:Tm->Bool
 | .num _=>true
 | .place _=>true
 | .read _ _=>true
 | _=>false
theorem D4z (u:Tm):decide (tg u="sum")=isS u/\(decide (tg u="number")||(decide (tg u="place")||decide (tg u="read")))=isF u:=by
 cases u with
 | num _=>exact ⟨(show decide (("number":Str)="sum")=false by decide +kernel),(show (decide (("number":Str)="number")||(decide (("number":Str)="place")||decide (("number":Str)="read")))=true by decide +kernel)⟩
 | place _=>exact ⟨(show decide (("place":Str)="sum")=false by decide +kernel),(show (decide (("place":Str)="number")||(decide (("place":Str)="place")||decide (("place":Str)="read")))=true by decide +kernel)⟩
 | read _ _=>exact ⟨(show decide (("read":Str)="sum")=false by decide +kernel),(show (decide (("read":Str)="number")||(decide (("read":Str)="place")||decide (("read":Str)="read")))=true by decide +kernel)⟩
 | sum _ _=>exact ⟨(show decide (("sum":Str)="sum")=true by decide +kernel),(show (decide (("sum":Str)="number")||(decide (("sum":Str)="place")||decide (("sum":Str)="read")))=false by decide +kernel)⟩
 | guard _ _ _ _ _=>exact ⟨(show decide (("guard":Str)="sum")=false by decide +kernel),(show (decide (("guard":Str)="number")||(decide (("guard":Str)="place")||decide (("guard":Str)="read")))=false by decide +kernel)⟩
 | pair k _ _=>cases k with
  | plus=>exact ⟨(show decide (("plus":Str)="sum")=false by decide +kernel),(show (decide (("plus":Str)="number")||(decide (("plus":Str)="place")||decide (("plus":Str)="read")))=false by decide +kernel)⟩
  | minus=>exact ⟨(show decide (("minus":Str)="sum")=false by decide +kernel),(show (decide (("minus":Str)="number")||(decide (("minus":Str)="place")||decide (("minus":Str)="read")))=false by decide +kernel)⟩
  | times=>exact ⟨(show decide (("times":Str)="sum")=false by decide +kernel),(show (decide (("times":Str)="number")||(decide (("times":Str)="place")||decide (("times":Str)="read")))=false by decide +kernel)⟩
theorem dtS (a b:Str):decide (V.str a=V.str b)=decide (a=b):=decide_eq_decide.mpr ⟨λh=>V.str.inj h,λh=>by rw [h]⟩
def B2z (n:Nat):Sp:=λb H Q _=>∃(v:V) (d:Addr) (u:Tm) (a:List (Key×V)),b=[v,.ref d]/\Rep H v (A1s u)/\TmL a u/\H d=some (.dK a)/\dep u<=n/\∀z:Int,(nod u:Int)<=z->z=wtM (lnL a) u->Q (.int z) H
theorem B3i (T:Txt K mg t) (Gd1:A3i P w K mg base CX0 m t.jp t.jh C4w sp')
  (g:∀(v:V) (d:Addr) (u:Tm) (lk:List (Key×V)) (H:Hp) (Q:VK),Rep H v (A1s u)->TmL lk u->H d=some (.dK lk)->dep u+1<=n->(∀z:Int,(nod u:Int)<=z->z=wtM (lnL lk) u->Q (.int z) H)->sp' [v,.ref d] H Q E0):A3i P w K mg base CX0 (m+1) t.jp t.jh C4w (B2z n):=by
 refine T.eh.F.ok C1z (by walk_at "ln") λ_ A _ s H _ Q E D h=> ?_
 ·obtain ⟨v,d,u,lk,rfl,C,f,e,J,k⟩:=h;have hu:=A8b D;obtain ⟨q,vs,rfl,X⟩:=B6j C;obtain ⟨Z,Y⟩:=D4z u;have c:=SqT.of (K:=K) X;refine i02 _ (@RS.r _ _ _ (rq1 (rq4 (A0p A3d (A1f A1h (pv 0) A0d (λ_ _=>rfl)) A1w (A1b _)) (rq3 (rq5 (A0j A2h A0d (A0j A6b (A2v hu (pv 1) (A1f A1h (pv 0) A0d (λ_ _=>rfl)) (λ_ _=>rfl)) (pcl Gd1 D T.eh (A0a (A1f A1h (pv 0) A0d (λ_ _=>rfl)) (A0a (pv 1) A0c))))))) ⟨A0x⟩) (rq1 (rq4 (PW.pt (B6l (A0p A3d (A1f A1h (pv 0) A0d (λ_ _=>rfl)) A1w (A1b _)) (B6l (A0p A3d (A1f A1h (pv 0) A0d (λ_ _=>rfl)) A1w (A1b _)) (B5s (A0p A3d (A1f A1h (pv 0) A0d (λ_ _=>rfl)) A1w (A1b _)))))) (rq3 (rq5 A0d)) ⟨A0x⟩) (rq3 (rq5 (A0j A2h (A0j A2h A0d (pcl Gd1 D T.eh (A0a (A1f A1h (pv 0) (B6b B0j A0d) (λ_ _=>rfl)) (A0a (pv 1) A0c)))) (pcl Gd1 D T.eh (A0a (A1f A1h (pv 0) (B6b B0j A0d) (λ_ _=>rfl)) (A0a (pv 1) A0c))))))))) ?_;refine i1c _ rfl q _ _ _ rfl rfl c (A3m (j:=0) rfl) rfl _ rfl ?_;rw [dtS,Z]
  cases hS:isS u with
  | true =>
   cases u with
   | sum x b =>
    obtain ⟨R,a,p,y,B⟩:=C9r C;cases p;obtain ⟨G,U,n1,a0⟩:=f.1 x (by simp);have S:=A9g.k (H:=H) (a:=d) (k:=Sum.inr x) e;rw [U] at S;simp only [dep] at J;have c:=SqT.of (K:=K) y;refine A5u (i17 _ rfl _ rfl q _ _ _ rfl rfl c rfl (i0f d _ rfl S (i0z _ rfl q _ _ _ rfl rfl c (i05 rfl _ rfl (g a d b lk H _ B f.2 e (by lia) λz hz hw=> ?_)))))
    have zn:z<=G*z:=by
     have:0<=(G-1)*z:=Int.mul_nonneg (by lia) (by lia);rw [Int.sub_mul,Int.one_mul] at this
     lia
    refine i0f _ _ rfl rfl (i0i (.inl ⟨by lia,by lia⟩) _ _ rfl rfl (k _ ?_ ?_))
    ·simp only [nod]
     lia
    ·show 1+G*z=1+lnL lk x*wtM (lnL lk) b;rw [A7d U,hw]
   | num _=>cases hS
   | place _=>cases hS
   | read _ _=>cases hS
   | pair _ _ _=>cases hS
   | guard _ _ _ _ _=>cases hS
  | false =>
   refine A2m ?_;dsimp only [C7r,D3l,D6u];refine E2p (d1:=decide (tg u="number")) (d2:=decide (tg u="place")) (d3:=decide (tg u="read")) (λW i=>(i1c _ rfl q _ _ _ rfl rfl c (A3m (j:=0) rfl) rfl _ rfl (by rw [dtS];exact i))) (λW i=>(i1c _ rfl q _ _ _ rfl rfl c (A3m (j:=0) rfl) rfl _ rfl (by rw [dtS];exact i))) (λW i=>(i1c _ rfl q _ _ _ rfl rfl c (A3m (j:=0) rfl) rfl _ rfl (by rw [dtS];exact i))) ?_;rw [Y]
   cases u with
   | sum _ _=>cases hS
   | num _=>exact A5u (k 1 (by show ((1:Nat):Int)<=1;lia) rfl)
   | place _=>exact A5u (k 1 (by show ((1:Nat):Int)<=1;lia) rfl)
   | read _ _=>exact A5u (k 1 (by show ((1:Nat):Int)<=1;lia) rfl)
   | pair o l r =>
    obtain ⟨R,a,b,p,y,B,O⟩:=C4f C;cases p;simp only [dep] at J;have c:=SqT.of (K:=K) y;refine A2m (i17 _ rfl _ rfl q _ _ _ rfl rfl c rfl (i02 _ rfl (g a d l lk H _ B f.1 e (by lia) λN h1 L=>(i0f _ _ rfl rfl (i17 _ rfl _ rfl q _ _ _ rfl rfl c rfl (i02 _ rfl (g b d r lk H _ O f.2 e (by lia) λM h2 I=>(i0f _ _ rfl rfl (k _ ?_ ?_)))))))))
    ·simp only [nod]
     lia
    ·show 1+N+M=1+wtM (lnL lk) l+wtM (lnL lk) r;rw [L,I]
   | guard x lo hi l r =>
    obtain ⟨R,a,b,p,y,B,O⟩:=B2t C;cases p;simp only [dep] at J;have c:=SqT.of (K:=K) y;refine A2m (i17 _ rfl _ rfl q _ _ _ rfl rfl c rfl (i02 _ rfl (g a d l lk H _ B f.2.1 e (by lia) λN h1 L=>(i0f _ _ rfl rfl (i17 _ rfl _ rfl q _ _ _ rfl rfl c rfl (i02 _ rfl (g b d r lk H _ O f.2.2 e (by lia) λM h2 I=>(i0f _ _ rfl rfl (k _ ?_ ?_)))))))))
    ·simp only [nod]
     lia
    ·show 1+N+M=1+wtM (lnL lk) l+wtM (lnL lk) r;rw [L,I]
theorem B7v (T:Txt K mg t):∀n:Nat,A3i P w K mg base CX0 (n+1) t.jp t.jh C4w (B2z n)
 | 0=>B3i T (m:=0) (sp':=λ_ _ _ _=>False) (A3i.none λ_ _ _ _ h=>h) λv d u a H Q _ _ _ h=>absurd h (by lia)
 | n+1=>B3i T (m:=n+1) (B7v T n) λv d u a H Q r c b e k=>(i10 v d u a rfl r c b (by lia) k)
theorem C1r {a D:Addr} {o:Obj} {g:TG} {tc:TT} {te:TE} {QD:Hp->Prop} {Z₀:St} (Pv:Nat->List V->Hp->Prop) (r:Pv 0 [] (upd H D (.lst []))) (h:∀i ys H,Pv i ys H->H a=some (.frz o (.dK kvs)))
  (q:∀i k v ys H,kvs[i]? =some (k,v)->Pv i ys H->g (kV k) Z₀ H λZ4 H4=>A2w Z₀ Z4/\tc Z4 H4 λb c=>if b=true then te Z4 c (λy c=>c D=some (.lst ys)/\ys.length<sizeLine/\Pv (i+1) (ys++[y]) (upd c D (.lst (ys++[y])))) else Pv (i+1) ys c) (j:∀ys H,Pv kvs.length ys H->QD H) :
  ∃W:Nat->Nat->Hp->Prop,(∃m,W 0 m (upd H D (.lst [])))/\∀i m H2,W i m H2->
   ((Itd a o kvs).stop i H2/\QD H2)\/((Itd a o kvs).go i H2/\∃(N:VK) (M:Hp->Prop),(∀y c,N y c->∃xs,c D=some (.lst xs)/\xs.length<sizeLine/\∃d,d<m/\W (i+1) d (upd c D (.lst (xs++[y]))))/\(∀c,M c->∃d,d<m/\W (i+1) d c)/\
    ∀x f,(Itd a o kvs).yld i H2 x f->g x Z₀ f λZ4 H4=>A2w Z₀ Z4/\tc Z4 H4 λb c=>if b=true then te Z4 c N else M c):=by
 refine i02 (λi m H=>m=kvs.length-i/\i<=kvs.length/\∃ys,Pv i ys H) (i0d kvs.length (by simp) (Z1e _) [] r) ?_;rintro i m H2 ⟨rfl,t,ys,p⟩;by_cases hlt:i<kvs.length
 ·refine .inr (i0i ⟨h i ys H2 p,hlt⟩ (λy c=>c D=some (.lst ys)/\ys.length<sizeLine/\Pv (i+1) (ys++[y]) (upd c D (.lst (ys++[y])))) (λc=>Pv (i+1) ys c) (λy c n=>(i0v ys n.1 n.2.1 (kvs.length-(i+1)) (by lia) rfl hlt _ n.2.2)) (λc n=>(i0c (kvs.length-(i+1)) (by lia) rfl hlt ⟨_,n⟩)) λx f z=> ?_);obtain ⟨e,k,v,s,l⟩:=z;subst e l;exact q i k v ys _ s p
 ·have e:i=kvs.length:=by lia
  subst e;exact .inl ⟨⟨h _ ys H2 p,rfl⟩,j ys H2 p⟩
def gw:Nat->Nat
 | 0=>1
 | n+1=>2*gw n+1
theorem C2y:∀n,1<=gw n
 | 0=>Z09 _
 | n+1=>by show 1<=2*gw n+1;lia
structure D5n (H:Hp) (d:Addr) (lk:List (Key×V)) (nm:List Str):Prop where
 h:H d=some (.dK lk)
 ks:lk.map (·.1)=nm.map (Sum.inr:Str->Key)
 dk:B0d lk nm
 hn:NmS nm
 l:nm.length<=12
theorem D5n.same {nm:List Str} (h:D5n H d lk nm) (s:A0u H H'):D5n H' d lk nm:=⟨s _ _ h.h,h.ks,h.dk,h.hn,h.l⟩
theorem D1c.same {a:Addr} (h:D1c H lk a sc) (s:A0u H H'):D1c H' lk a sc:=⟨s _ _ h.1,h.2⟩
theorem D8b.same {a:Addr} (h:D8b H lk a es) (s:A0u H H'):D8b H' lk a es:=by
 obtain ⟨b,e,r,l⟩:=h;exact i06 b (s _ _ e) (Paired.mapP r λ_ _ z=>z.same s) l
theorem A1y.mono {L:Str->Int} {okn d b:OkP} (h:∀ρ a c,d ρ a c->b ρ a c):∀{u:Tm} {ρ:Env},A1y L okn d ρ u->A1y L okn b ρ u
 | .num _,_,_=>True.intro
 | .place _,_,_=>True.intro
 | .read _ _,_,s=>h _ _ _ s
 | .sum _ _,_,s=>s
 | .pair _ l r,_,s=>⟨A1y.mono h s.1,A1y.mono h s.2⟩
 | .guard _ _ _ l r,_,s=>⟨λz=>A1y.mono h (s.1 z),λz=>A1y.mono h (s.2 z)⟩
theorem D2p:∀(ρ:Env) (a:Str) (c:List Int),okO L es none ρ a c->okA L es ρ a c:=λρ a c h=>by
 rcases h with h | ⟨e,h,_⟩
 ·exact h
 ·cases h
theorem LfZ.non {nm:List Str} (h:LfZ lk es none nm sc u):SfT (lnL lk) (okA (lnL lk) es) (okA (lnL lk) es) nm sc u:=⟨h.ti,λρ a=>A1y.mono D2p (h.sf ρ a)⟩
theorem E2c (h:1<=x.length):¬x=("":Str):=λz=>by rw [z] at h;exact absurd h (by decide +kernel)
def B9x (n:Nat):Sp:=λt H Q _=>∃(q m j o d:Addr) (p a:Nat) (k:V) (c:Option (Str×List Str)) (u:List Int) (s:List (Str×List Str)) (b i:List Str) (e:List (Key×V)) (S:Addr->Prop),t=[.ref q,.int (p:Int),.ref m,.ref j,.int (a:Int)]/\H q=some (.lst (u.map V.int))/\p+gw a<=1000/\D1c H e m b/\b.length+2*a<=90/\H j=some (.tup [.ref o,.ref d,k])/\D8b H e o s/\D5n H d e i/\D7a H e k c/\OwS c b/\(∀x∈b,x∈i)/\a<=n/\Fr S H/\
 ∀(l:Addr) (r:V) (f:Tm) (h:Nat) (g:Hp),A0u H g->g l=some (.tup [r,.int (h:Int)])->Rep (A0s S g) r (A1s f)->TmW f->TmL e f->dep f<=4+3*a->p<h->h<=p+gw a->LfZ e s c i b f->Q (.ref l) g
theorem D1c.add {a:Addr} {nm:List Str} (e:H a=some (.lst ((sc++ys).map V.str))) (h1:NmS sc) (h2:B0d lk sc) (l:(sc++ys).length<=100) (d:NmS nm) (c:B0d lk nm) (m:∀y∈ys,y∈nm):D1c H lk a (sc++ys):=by
 refine i04 e l (λz b=> ?_) λz b=> ?_
 ·rcases Z07.mp b with b | b
  ·exact h1 z b
  ·exact d z (m z b)
 ·rcases Z07.mp b with b | b
  ·exact h2 z b
  ·exact c z (m z b)
theorem D7h (z:Int):∃o:Op3,atI [V.str "plus",V.str "minus",V.str "times"] (z%3)=some (.str (opS o)):=by
 have h:z%3=0\/z%3=1\/z%3=2:=by lia
 rcases h with h | h | h
 ·exact ⟨.plus,by rw [h];rfl⟩
 ·exact ⟨.minus,by rw [h];rfl⟩
 ·exact ⟨.times,by rw [h];rfl⟩
theorem B9c (T:Txt K mg t) (hm:4<=m) (Gd2:A3i P w K mg base CX0 m t.qp t.re C4x sp')
  (hs:∀(cl sc bk U d:Addr) (p v:Nat) (ow:V) (own:Option (Str×List Str)) (ns:List Int) (es:List (Str×List Str)) (g nm:List Str) (lk:List (Key×V)) (S:Addr->Prop) (H:Hp) (Q:VK),H cl=some (.lst (ns.map V.int))->p+gw v<=1000->D1c H lk sc g->g.length+2*v<=90->H bk=some (.tup [.ref U,.ref d,ow])->D8b H lk U es->D5n H d lk nm->D7a H lk ow own->OwS own g->(∀x∈g,x∈nm)->v+1<=n->Fr S H->∀(pa ra:Int),pa=(p:Int)->ra=(v:Int)->
   (∀(tp:Addr) (tv:V) (u':Tm) (p':Nat) (H':Hp),A0u H H'->H' tp=some (.tup [tv,.int (p':Int)])->Rep (A0s S H') tv (A1s u')->TmW u'->TmL lk u'->dep u'<=4+3*v->p<p'->p'<=p+gw v->LfZ lk es own nm g u'->Q (.ref tp) H')->sp' [.ref cl,.int pa,.ref sc,.ref bk,.int ra] H Q E0):A3i P w K mg base CX0 (m+1) t.qp t.re C4x (B9x n):=by
 have Gc7:= @A7c P w K mg base t T;have Gd3:= @A4x P w K mg base t T;have Gd4:= @B8f P w K mg base t T;have Gd5:= @C1h P w K mg base t T;refine T.gu.F.ok A1k (λvs H Q E h=> ?_) λ_ A _ s H _ Q E L h=> ?_
 ·refine e0h h ?_;clear h;rintro cl sc bk U d p v ow own ns es ⟨g,nm,lk,S,rfl,_⟩;rfl
 ·refine e0h h ?_;clear h;rintro cl sc bk U d p v ow own ns es ⟨g,nm,lk,S,rfl,a7,pb,J,j4,b3,b1,B,c7,b0,b4,j8,fr,k⟩;have hu:=A8b L;have g1:=C2y v;refine i02 _ (@RS.r _ _ _ (rq1 ⟨A9f (pv 3) (A3q (n:=3) rfl (A0r (A0k (i:=5) A1k.nd rfl (.inl rfl)) (A0r (A0k (i:=6) A1k.nd rfl (.inl rfl)) (A0r (A0k (i:=7) A1k.nd rfl (.inl rfl)) A2p))))⟩ (rq1 (rq6 8 A1k.nd (pcl Gc7 L T.fc (A0a (pcl Gd3 L T.bc (A0a (pv 0) (A0a (pv 1) A0c))) (A0a (pv 1) A0c)))) (rq1 (rq6 9 A1k.nd (A0j A1j (pv 8) A0d)) (rq1 (rq6 8 A1k.nd (A0j A1o (pv 8) A0d)) (rq1 ⟨B8k (i₀:=11) (N':=["_law_axis","_law_scope"]) (ix:=(List.replicate 1 none++[some 2])) (tc:=C0k (tOp (rIn K true) (C6p 0) (C6p 1))) A1k.nd rfl (.inl rfl) rfl (A7k (x:="_law_scope") rfl rfl rfl (by decide +kernel) (by decide +kernel)) (A5q (N0:=["_law_axis"]) rfl (.inl rfl) (by walk_at "ix")) (D0f (pv 6)) (λ_ _ _ _=>(A0k (i:=0) D0g rfl (.inl rfl))) (λ_ _ _ _=>(A0p A6d (pv 0) (pv 1) (by with_unfolding_all rfl))) (λ_ _ _ _=>(pv 0))⟩ ⟨@C3j _ _ _ (@A1u _ _ _ _ _ (@B5f _ _ _ _ _ _ _ _ (PW.pt (A3x (A0p A8h (pv 4) A0d (A1b _)) (A3x (A0p A3d (pv 9) A0d (A1b _)) (A4f (A0p A8h (A0q A0y (by rfl) T.ce Z0r (A0a (pv 11) A0c)) A0d (A1b _)))))) (@A1u _ _ _ _ _ (@A3f _ _ 10 _ _ _ _ A1k.nd rfl (.inl rfl) (A1f A1n (pv 11) (A0j A1j (pv 8) (A0q A0y (by rfl) T.ce Z0r (A0a (pv 11) A0c))) (λ_ _=>rfl)) rfl (.inl rfl)) (@A1u _ _ _ _ _ (A9f (pcl Gd2 L T.gu (A0a (pv 0) (A0a (A0j A2h (pv 1) A0d) (A0a (A0j B0e (pv 2) (@A1r _ _ _ _ (A0a (pv 10) A0c))) (A0a (A1z (A0a (pv 5) (A0a (pv 6) (A0a B9t A0c)))) (A0a (A0j A3v (pv 4) A0d) A0c)))))) (A3q (n:=2) rfl (A0r (A0k (i:=12) A1k.nd rfl (.inl rfl)) (A0r (A0k (i:=1) A1k.nd rfl (.inl rfl)) A2p)))) (@A1u _ _ _ _ _ (@A3f _ _ 13 _ _ _ _ A1k.nd rfl (.inl rfl) (A1f A1n (pv 11) (A0j A1j (A0j A2h (pv 8) A0d) (A0q A0y (by rfl) T.ce Z0r (A0a (pv 11) A0c))) (λ_ _=>rfl)) rfl (.inl rfl)) (@A9r _ _ _ _ _ (@B5f _ _ _ _ _ _ _ _ (PW.pt (A3x (A0p A3d (A0j A1j (A0j A1o (pv 8) A0d) A0d) A0d (A1b _)) (A4f (A0p D4q (pv 13) (pv 10) (A1b _))))) (@A1u _ _ _ _ _ (@A3f _ _ 14 _ _ _ _ A1k.nd rfl (.inl rfl) (pcl Gd4 L T.ii (A0a (A0j A1o (pv 8) A0d) (A0a (pv 5) (A0a (A0j B0e (pv 2) (@A1r _ _ _ _ (A0a (pv 10) (A0a (pv 13) A0c)))) (A0a (pv 6) (A0a B9t A0c)))))) rfl (.inl rfl)) (@A1u _ _ _ _ _ (@A3f _ _ 14 _ _ _ _ A1k.nd rfl (.inl rfl) (pcl Gd5 L T.je (A0a (pv 13) (A0a (pv 14) (A0a (A0j A1o (pv 8) A0d) (A0a (pv 6) A0c))))) rfl (.inl rfl)) (@A2y _ _ _ (@A3f _ _ 12 _ _ _ _ A1k.nd rfl (.inl rfl) (A1z (A0a (A1f A1n (@A1r _ _ _ _ (A0a A1w (A0a A1w (A0a A1w A0c)))) (A0j A1j (A0j A1o (pv 8) A0d) A0d) (λ_ _=>rfl)) (A0a (pv 12) (A0a (pv 14) A0c)))) rfl (.inl rfl))))) A0x) (@A2y _ _ _ (@B3j _ _ _ _ (A1z (A0a (pcl Gd5 L T.je (A0a (pv 10) (A0a (pv 12) (A0a (A0j A1o (pv 8) A0d) (A0a (pv 6) A0c))))) (A0a (pv 1) A0c))))))))) A0x) (@A1u _ _ _ _ _ (@B5f _ _ _ _ _ _ _ _ (PW.pt (A3x (A0p A8h (pv 4) A0d (A1b _)) (A3x (A0p A3d (pv 9) A0d (A1b _)) (A4f (A0p A8h (A0q A0y (by rfl) T.ce Z0r (A0a (pv 2) A0c)) A0d (A1b _)))))) (@A1u _ _ _ _ _ (@A3f _ _ 10 _ _ _ _ A1k.nd rfl (.inl rfl) (A1f A1n (pv 2) (A0j A1j (pv 8) (A0q A0y (by rfl) T.ce Z0r (A0a (pv 2) A0c))) (λ_ _=>rfl)) rfl (.inl rfl)) (@A1u _ _ _ _ _ (@A3f _ _ 15 _ _ _ _ A1k.nd rfl (.inl rfl) (A0j A3v (A0j A1j (A0j A1o (pv 8) A0d) (A0j A2h (A2v hu (pv 6) (pv 10) (λ_ _=>rfl)) A0d)) A0d) rfl (.inl rfl)) (@A1u _ _ _ _ _ (@A3f _ _ 16 _ _ _ _ A1k.nd rfl (.inl rfl) (A0j A2h (pv 15) (A0j A1j (A0j A1o (pv 8) A0d) (A0j A2h (A2v hu (pv 6) (pv 10) (λ_ _=>rfl)) A0d))) rfl (.inl rfl)) (@A9r _ _ _ _ _ (@B5f _ _ _ _ _ _ _ _ (A0p A3d (A0j A1j (A0j A1o (pv 8) A0d) A0d) A0d (A1b _)) (@A2y _ _ _ (@A3f _ _ 16 _ _ _ _ A1k.nd rfl (.inl rfl) (A0j A2h (pv 16) (A0j A6v A0d A0d)) rfl (.inl rfl))) A0x) (@A1u _ _ _ _ _ (A9f (pcl Gd2 L T.gu (A0a (pv 0) (A0a (A0j A2h (pv 1) A0d) (A0a (pv 2) (A0a (pv 3) (A0a (A0j A3v (pv 4) A0d) A0c)))))) (A3q (n:=2) rfl (A0r (A0k (i:=14) A1k.nd rfl (.inl rfl)) (A0r (A0k (i:=1) A1k.nd rfl (.inl rfl)) A2p)))) (@A1u _ _ _ _ _ (A9f (pcl Gd2 L T.gu (A0a (pv 0) (A0a (pv 1) (A0a (pv 2) (A0a (pv 3) (A0a (A0j A3v (pv 4) A0d) A0c)))))) (A3q (n:=2) rfl (A0r (A0k (i:=17) A1k.nd rfl (.inl rfl)) (A0r (A0k (i:=1) A1k.nd rfl (.inl rfl)) A2p)))) (@A9r _ _ _ _ _ (@B5f _ _ _ _ _ _ _ _ (A0p A3d (A0j A1j (A0j A1o (pv 8) A0d) A0d) A0d (A1b _)) (@A2y _ _ _ (@A3f _ _ 17 _ _ _ _ A1k.nd rfl (.inl rfl) (A1z (A0a A1w (A0a (pv 17) (A0a (pv 14) A0c)))) rfl (.inl rfl))) A0x) (@A2y _ _ _ (@B3j _ _ _ _ (A1z (A0a (A1z (A0a A1w (A0a (pv 10) (A0a (pv 15) (A0a (pv 16) (A0a (pv 14) (A0a (pv 17) A0c))))))) (A0a (pv 1) A0c)))))))))))) A0x) (@A1u _ _ _ _ _ (@B5f _ _ _ _ _ _ _ _ (PW.pt (A3x (A0p A8h (pv 4) A0d (A1b _)) (A3x (A0p A8h (pv 9) A0d (A1b _)) (A4f (A0p B8r (pv 9) A0d (A1b _)))))) (@A1u _ _ _ _ _ (A9f (pcl Gd2 L T.gu (A0a (pv 0) (A0a (A0j A2h (pv 1) A0d) (A0a (pv 2) (A0a (pv 3) (A0a (A0j A3v (pv 4) A0d) A0c)))))) (A3q (n:=2) rfl (A0r (A0k (i:=18) A1k.nd rfl (.inl rfl)) (A0r (A0k (i:=1) A1k.nd rfl (.inl rfl)) A2p)))) (@A1u _ _ _ _ _ (A9f (pcl Gd2 L T.gu (A0a (pv 0) (A0a (pv 1) (A0a (pv 2) (A0a (pv 3) (A0a (A0j A3v (pv 4) A0d) A0c)))))) (A3q (n:=2) rfl (A0r (A0k (i:=19) A1k.nd rfl (.inl rfl)) (A0r (A0k (i:=1) A1k.nd rfl (.inl rfl)) A2p)))) (@A2y _ _ _ (@B3j _ _ _ _ (A1z (A0a (A1z (A0a (A1f A1n (@A1r _ _ _ _ (A0a A1w (A0a A1w (A0a A1w A0c)))) (A0j A1j (pv 8) A0d) (λ_ _=>rfl)) (A0a (pv 18) (A0a (pv 19) A0c)))) (A0a (pv 1) A0c))))))) A0x) (@A2y _ _ _ (@B3j _ _ _ _ (A1z (A0a (pcl Gd4 L T.ii (A0a (pv 8) (A0a (pv 5) (A0a (pv 2) (A0a (pv 6) (A0a (pv 7) A0c)))))) (A0a (A0j A2h (pv 1) A0d) A0c))))))))⟩)))))) ?_;refine i0o _ rfl bk _ rfl (SqT.of b3) (i0b rfl _ _ rfl ⟨_,(i0o _ rfl _ _ rfl rfl ?_)⟩);refine i02 _ rfl (i0x _ rfl cl ns (p:Int) rfl (SqL.of a7) (by lia) λc0=>(i0s _ rfl c0 (p:Int) rfl (by lia) (by lia) λI=> ?_));refine i0s _ rfl _ _ rfl rfl E2g (i0s _ rfl _ _ rfl rfl ⟨by decide,by decide⟩ ?_);refine i0o _ rfl d lk rfl B.h λo=>λD hD=> ?_;have Dd:D≠d:=λe=>by rw [e,A0b] at hD;cases hD
  have j7:H D=none:=by rw [A0i Dd] at hD;exact hD
  refine C1r (a:=d) (D:=D) (o:=o) (kvs:=lk) (λj ys G=>A0u (upd H d (.frz o (.dK lk))) G/\G D=some (.lst ys)/\∃zs:List Str,ys=zs.map V.str/\zs.length<=j/\∀z∈zs,z∈nm/\z∉g) (i0a (A0e hD) A0b [] rfl ⟨Z09 _,(by intro z R;cases R)⟩) (λj ys G sG=>sG.1 _ _ A0b) ?_ ?_
  ·rintro j kk vv ys G f0 ⟨sG,hG,zs,rfl,lz,mz⟩;have hj:j<lk.length:=(Z03.mp f0).1;have ek:nm[j]?.map (Sum.inr:Str->Key)=some kk:=by rw [<-Z1z,<-B.ks,Z1z,f0];rfl
   obtain ⟨x,hx,rfl⟩:=Z0i.mp ek;have j3:lk.length=nm.length:=by rw [<-Z08 (f:=(·.1)) (as:=lk),B.ks,Z08]
   have j5:=B.l;have e0:G sc=some (.lst (g.map V.str)):=sG _ _ (by rw [A0i (A3j J.1 B.h (by intro h;cases h))];exact J.1);refine ⟨⟨rfl,True.intro⟩,(i0w _ rfl _ rfl sc _ rfl (.inl (SqL.of e0)) (i0a rfl (A7b g) _ rfl ?_))⟩;show if (! inV (V.str x) (g.map V.str))=true then _ else _
   rw [B1m];refine D8c (λf5=> ?_) (λ_=>(i0a sG hG zs rfl ⟨by lia,mz⟩));refine i0c _ rfl hG (A1l (by rw [Z08];lia)) (i0a (A0o sG hD) A0b (zs++[x]) (by rw [Z0s];rfl) ⟨by rw [Z06];simp only [Z0y,Z2g];lia,λz R=> ?_⟩);rcases Z07.mp R with R | R
   ·exact mz z R
   ·rw [Z0w.mp R];exact ⟨Z13 hx,f5⟩
  rintro ys G ⟨sG,hG,a6,rfl,j2,c4⟩;have i7:=sG _ _ (A0b (H:=H) (a:=d) (o:= .frz o (.dK lk)));refine i0n d o lk i7 (λo' u' e=>by have e:H d=some (.frz o' u'):=e;rw [B.h] at e;cases e) ?_
  have s1:A0u H (upd G d (.dK lk)):=λb u e=>by
   by_cases hb:b=d
   ·rw [hb] at e⊢;rw [B.h] at e;rw [A0b];exact e
   ·rw [A0i hb];exact sG _ _ (by rw [A0i hb];exact e)
  have X:upd G d (.dK lk) D=some (.lst (a6.map V.str)):=by rw [A0i Dd];exact hG
  generalize upd G d (.dK lk)=H1 at s1 X;have w0:0<=I%8/\I%8<8:=by lia
  have f1:=fr.same s1;have a1:=B.same s1;have b7:=b1.same s1;have N:=J.same s1;have a9:=c7.same s1;have de:∀a c:Int,decide (V.int a=V.int c)=decide (a=c):=λa c=>decide_eq_decide.mpr ⟨λh=>V.int.inj h,λh=>by rw [h]⟩;show D3l _ _ _ [some (.ref cl),some (.int (p:Int)),some (.ref sc),some (.ref bk),some (.int (v:Int)),some (.ref U),some (.ref d),some ow,some (.int (I/8)),some (.int (I%8)),none,some (.ref D),none,none,none,none,none,none,none,none] _;dsimp only [A7n,C7r,D3l,D6u];refine C6s (d1:=decide ((0:Int)<(v:Int))) (d2:=decide (I%8=6)) ?_ (λQ' q=>(i02 _ rfl (i0q _ _ rfl rfl _ rfl q))) (λQ' q=>(i0j _ rfl rfl _ rfl (by rw [de];exact q))) (λhF h1 h2=> ?_)
  ·refine A2m ?_;refine C6s (d1:=decide ((0:Int)<(v:Int))) (d2:=decide (I%8=5)) ?_ (λQ' q=>(i02 _ rfl (i0q _ _ rfl rfl _ rfl q))) (λQ' q=>(i0j _ rfl rfl _ rfl (by rw [de];exact q))) (λhF h1 h2=> ?_)
   ·refine A2m ?_;refine C6s (d1:=decide ((0:Int)<(v:Int))) (d2:=decide (2<I%8)) ?_ (λQ' q=>(i02 _ rfl (i0q _ _ rfl rfl _ rfl q))) (λQ' q=>(i02 _ rfl (i0q _ _ rfl rfl _ rfl q))) (λhF h1 h2=> ?_)
    ·refine A2m ?_;refine i0e _ rfl _ rfl (i0e _ rfl _ rfl (i0l _ rfl _ U sc ⟨d,(i1d ow own es g lk S rfl b7 N a1.h a9 b0 f1 λv' u' H2 s2 rp wu tu du lz=> ?_)⟩));refine i0s _ rfl _ _ rfl rfl (A0v rfl) λtp g8=> ?_;have sT:=A0e (o:= .tup [v',.int ((p:Int)+1)]) g8;exact k tp v' u' (p+1) _ (s1.trans (s2.trans sT)) A0b (rp.same (A0g sT)) wu tu (by lia) (by lia) (by lia) (lz nm)
    ·obtain ⟨ro,rfl⟩:∃ro,v=ro+1:=⟨v-1,by have:=of_decide_eq_true h1;lia⟩;have er:(((ro+1:Nat):Int)-1)=(ro:Int):=by lia
     have gp:=C2y ro;have pb:p+(2*gw ro+1)<=1000:=pb;refine i02 _ rfl (i0q _ _ rfl rfl _ rfl ?_);by_cases hc:I%8<5
     ·rw [Z20 hc];refine A5u (i0w _ rfl _ rfl _ _ rfl rfl (i12 _ rfl _ rfl _ rfl _ _ rfl rfl ?_));refine hs cl sc bk U d (p+1) ro ow own ns es g nm lk S H1 _ (s1 _ _ a7) (by lia) N (by lia) (s1 _ _ b3) b7 a1 a9 b0 b4 (by lia) f1 _ _ (by lia) (by lia) λt1 v1 u1 p1 H2 s2 h2 a3 a0 Y d9 d8 e9 O=> ?_;have C:=s1.trans s2;refine i1a t1 _ rfl (SqT.of h2) rfl _ _ rfl _ _ rfl rfl ?_;refine i0e _ rfl _ rfl (i12 _ rfl _ rfl _ rfl _ _ rfl rfl (hs cl sc bk U d p1 ro ow own ns es g nm lk S H2 _ (C _ _ a7) (by lia) (J.same C) (by lia) (C _ _ b3) (b1.same C) (B.same C) (c7.same C) b0 b4 (by lia) (fr.same C) _ _ (by lia) (by lia) λt2 v2 u2 p2 H3 s3 h3 a4 a5 a2 d0 h6 g7 W=> ?_));have a8:=C.trans s3;have f3:=fr.same a8;obtain ⟨op,c8⟩:=D7h (I/8);refine i1a t2 _ rfl (SqT.of h3) rfl _ _ rfl _ _ rfl rfl ?_;refine ⟨A0v rfl,λll d3=>(i0s _ rfl _ _ rfl rfl D7p (i0y ll _ _ _ rfl rfl (SqL.of A0b) c8 (i0k _ rfl _ rfl (A0v rfl) λq1 M=>(i06 _ rfl (A0v rfl) λq2 b2=> ?_))))⟩;have sA:=A0e (o:= .lst [.str "plus",.str "minus",.str "times"]) d3;have sB:=A0e (o:= .tup [.str (opS op),v1,v2]) M;have sC:=A0e (o:= .tup [.ref q1,.int (p2:Int)]) b2;have c6:=sA.trans (sB.trans sC);have gr:gw (ro+1)=2*gw ro+1:=rfl;refine k q2 (.ref q1) (.pair op u1 u2) p2 _ (a8.trans c6) A0b (B7p (A0h (f3 q1 (sA.free M)) (sC _ _ A0b)) ((a3.same (A0g s3)).same (A0g c6)) (a4.same (A0g c6))) ⟨a0,a5⟩ ⟨Y,a2⟩ (by simp only [dep];lia) (by lia) (by lia) ⟨⟨O.ti,W.ti⟩,λρ L=>⟨O.sf ρ L,W.sf ρ L⟩⟩
     ·rw [Z1j hc];exact hF
   ·obtain ⟨ro,rfl⟩:∃ro,v=ro+1:=⟨v-1,by have:=of_decide_eq_true h1;lia⟩;have gp:=C2y ro;have pb:p+(2*gw ro+1)<=1000:=pb;refine i0o _ rfl sc _ rfl (.inl (SqL.of N.1)) (i0q _ _ rfl rfl _ rfl ?_);by_cases hc:(0:Int)<((g.map V.str).length:Int)
    ·rw [Z20 hc];obtain ⟨x,hx,ex⟩:=A6n (f:=V.str) (xs:=g) (i:=I/8%((g.map V.str).length:Int)) (Z1v _ (by lia)) (by have:=Z1p (I/8) hc;rw [Z08] at this⊢;exact this);have mx:=Z13 hx;obtain ⟨nn,vn,n1,g9⟩:=J.2.2.2 x mx;have nx:=(J.2.2.1 x mx).1;have dg:=A9g.k (H:=H1) (a:=d) (k:=Sum.inr x) a1.h;rw [vn] at dg;refine A5u (i12 _ rfl _ rfl _ rfl sc _ rfl (.inl (SqL.of N.1)) (i0m _ _ rfl rfl hc (i0y sc _ _ _ rfl rfl (SqL.of N.1) ex ?_)));refine i0s _ rfl _ _ rfl rfl ⟨by decide,by decide⟩ (i0w _ rfl _ rfl d _ rfl dg (i07 _ _ rfl (i0i rfl _ _ rfl rfl (i0i (by show (0:Int)<nn+2;lia) _ _ rfl rfl ?_))));refine i0w _ rfl _ rfl _ _ rfl rfl ⟨⟨by decide,by decide⟩,(i0w _ rfl _ rfl d _ rfl dg (i07 _ _ rfl (i0i rfl _ _ rfl rfl (i0i (by show (0:Int)<nn+1;lia) _ _ rfl rfl ?_))))⟩;have z1:=Z1v (I/8/7) (show nn+2≠0 by lia);have z2:=Z1p (I/8/7) (show 0<nn+2 by lia);have z3:=Z1v (I/8/77) (show nn+1≠0 by lia);have z4:=Z1p (I/8/77) (show 0<nn+1 by lia);have e3:((10:Int)^(29:Int).toNat)=100000000000000000000000000000:=by decide +kernel
     refine i02 (λZ H6=>H1=H6/\∃(lo hi:Int),Z=[Sro cl,Sio (p:Int),Sro sc,Sro bk,Sio ((ro+1:Nat):Int),Sro U,Sro d,some ow,Sio (I/8),Sio (I%8),Sso x,Sro D,none,none,none,Sio lo,Sio hi,none,none,none]/\Sm lo/\Sm hi) ?_ ?_
     ·refine i18 _ rfl _ _ rfl rfl ⟨by decide,by decide⟩ _ _ rfl rfl E4t (i05 rfl _ rfl (D2r (λ_=> ?_) (λ_=>(i0i rfl _ _ rfl (B5i (by lia) (by lia)) (B5i (by lia) (by lia))))));refine i18 _ rfl _ _ rfl rfl (i00 (by decide) (by decide) (by decide)) _ _ rfl rfl rfl (i0f _ _ rfl (B5i (by lia) (by lia)) (B5i ?_ ?_))
      ·rw [e3];lia
      ·rw [e3];lia
     rintro Z H6 ⟨rfl,lo,hi,rfl,i5,i3⟩;refine i0w _ rfl _ rfl _ _ rfl rfl (i12 _ rfl _ rfl _ rfl _ _ rfl rfl ?_);refine hs cl sc bk U d (p+1) ro ow own ns es g nm lk S H1 _ (s1 _ _ a7) (by lia) N (by lia) (s1 _ _ b3) b7 a1 a9 b0 b4 (by lia) f1 _ _ (by lia) (by lia) λt1 v1 u1 p1 H2 s2 h2 a3 a0 Y d9 d8 e9 O=> ?_;have C:=s1.trans s2;refine i1a t1 _ rfl (SqT.of h2) rfl _ _ rfl _ _ rfl rfl ?_;refine i0e _ rfl _ rfl (i12 _ rfl _ rfl _ rfl _ _ rfl rfl (hs cl sc bk U d p1 ro ow own ns es g nm lk S H2 _ (C _ _ a7) (by lia) (J.same C) (by lia) (C _ _ b3) (b1.same C) (B.same C) (c7.same C) b0 b4 (by lia) (fr.same C) _ _ (by lia) (by lia) λt2 v2 u2 p2 H3 s3 h3 a4 a5 a2 d0 h6 g7 W=> ?_));have a8:=C.trans s3;have f3:=fr.same a8;refine i1a t2 _ rfl (SqT.of h3) rfl _ _ rfl _ _ rfl rfl ?_;have rq:=a3.same (A0g s3);refine i02 (λZ G=>∃(vo:V) (uo:Tm),Z=[Sro cl,Sio (p2:Int),Sro sc,Sro bk,Sio ((ro+1:Nat):Int),Sro U,Sro d,some ow,Sio (I/8),Sio (I%8),Sso x,Sro D,none,none,some v1,Sio lo,Sio hi,some vo,none,none]/\A0u H3 G/\Rep (A0s S G) vo (A1s uo)/\TmW uo/\TmL lk uo/\dep uo<=5+3*ro/\LfZ lk es own nm g uo) ?_ ?_
     ·refine i18 _ rfl _ _ rfl rfl ⟨by decide,by decide⟩ _ _ rfl rfl D7p (i05 rfl _ rfl (D2r (λ_=> ?_) (λ_=>(i0t v2 u2 rfl (A0u.refl _) a4 a5 a2 ⟨by lia,W⟩))));refine i0k _ rfl _ rfl (A0v rfl) λq1 M=> ?_;have sB:=A0e (o:= .tup [.str "plus",v2,v1]) M;exact i0t (.ref q1) (.pair .plus u2 u1) rfl sB (B7p (A0h (f3 q1 M) A0b) (a4.same (A0g sB)) (rq.same (A0g sB))) ⟨a5,a0⟩ ⟨a2,Y⟩ ⟨by simp only [dep];lia,⟨W.ti,O.ti⟩,λρ L=>⟨W.sf ρ L,O.sf ρ L⟩⟩
     rintro Z G ⟨vo,uo,rfl,sG,i9,h0,g5,k0,e5⟩;have fG:=f3.same sG;refine i02 _ rfl (i0e _ rfl _ rfl (i0k _ rfl _ rfl (A0v rfl) λq1 M=>(i06 _ rfl (A0v rfl) λq2 b2=> ?_)));have sB:=A0e (o:= .tup [.str "guard",.str x,.int lo,.int hi,v1,vo]) M;have sC:=A0e (o:= .tup [.ref q1,.int (p2:Int)]) b2;have c5:=sB.trans sC;have gr:gw (ro+1)=2*gw ro+1:=rfl;exact k q2 (.ref q1) (.guard x lo hi u1 uo) p2 _ (a8.trans (sG.trans c5)) A0b (B6t (A0h (fG q1 M) (sC _ _ A0b)) ((rq.same (A0g sG)).same (A0g c5)) (i9.same (A0g c5))) (i09 nx i5 i3 a0 h0) (i00 (dk1 vn n1 g9) Y g5) (by simp only [dep];lia) (by lia) (by lia) ⟨(i00 mx O.ti e5.ti),λρ L=>⟨λ_=>O.sf ρ L,λ_=>e5.sf ρ L⟩⟩
    ·rw [Z1j hc];exact hF
  ·obtain ⟨ro,rfl⟩:∃ro,v=ro+1:=⟨v-1,by have:=of_decide_eq_true h1;lia⟩;have gp:=C2y ro;have pb:p+(2*gw ro+1)<=1000:=pb;have gr:gw (ro+1)=2*gw ro+1:=rfl;refine i0o _ rfl D _ rfl (.inl (SqL.of X)) (i0q _ _ rfl rfl _ rfl ?_);by_cases hc:(0:Int)<((a6.map V.str).length:Int)
   ·rw [Z20 hc];obtain ⟨x,hx,ex⟩:=A6n (f:=V.str) (xs:=a6) (i:=I/8%((a6.map V.str).length:Int)) (Z1v _ (by lia)) (by have:=Z1p (I/8) hc;rw [Z08] at this⊢;exact this);obtain ⟨mx,h8⟩:=c4 x (Z13 hx);obtain ⟨y,hy,ey⟩:=A6n (f:=V.str) (xs:=a6) (i:=(I/8+1)%((a6.map V.str).length:Int)) (Z1v _ (by lia)) (by have:=Z1p (I/8+1) hc;rw [Z08] at this⊢;exact this);obtain ⟨my,g6⟩:=c4 y (Z13 hy);have j1:B0d lk [x]:=λz R=>by rw [Z0w.mp R];exact B.dk x mx
    have g0:B0d lk [y]:=λz R=>by rw [Z0w.mp R];exact B.dk y my
    refine A5u (i12 _ rfl _ rfl _ rfl D _ rfl (.inl (SqL.of X)) (i0m _ _ rfl rfl hc (i0y D _ _ _ rfl rfl (SqL.of X) ex ?_)));refine i0w _ rfl _ rfl _ _ rfl rfl (i0k _ rfl _ rfl (A0v rfl) λzl b8=>(i10 sc zl _ _ rfl rfl ((A0e b8) _ _ N.1) A0b (A2a (by simp;lia)) λc2 i6=> ?_));have s5:=(A0e (o:= .lst [.str x]) b8).trans (A0e (o:= .lst (g.map V.str++[V.str x])) i6);have e8:upd (upd H1 zl (.lst [.str x])) c2 (.lst (g.map V.str++[V.str x])) c2=some (.lst ((g++[x]).map V.str)):=by rw [A0b,Z0s];rfl
    generalize upd (upd H1 zl (.lst [.str x])) c2 (.lst (g.map V.str++[V.str x]))=H5 at s5 e8;refine i0k _ rfl _ rfl (A0v rfl) λtb f8=> ?_;have sT:=A0e (o:= .tup [.ref U,.ref d,.non]) f8;have eT:upd H5 tb (.tup [.ref U,.ref d,.non]) tb=some (.tup [.ref U,.ref d,.non]):=A0b;generalize upd H5 tb (.tup [.ref U,.ref d,.non])=H6 at sT eT;have s6:=s1.trans (s5.trans sT);refine i0o _ rfl _ _ rfl rfl ?_;refine hs cl c2 tb U d (p+1) ro .non none ns es (g++[x]) nm lk S H6 _ (s6 _ _ a7) (by lia) (.add (sT _ _ e8) J.2.2.1 J.2.2.2 (by simp;lia) B.hn B.dk λz R=>by rw [Z0w.mp R];exact mx) (by simp;lia) eT (b1.same s6) (B.same s6) (.inl ⟨rfl,rfl⟩) (λe he=>by cases he) (A6c b4 mx) (by lia) (fr.same s6) _ _ (by lia) (by lia) λt1 v1 u1 p1 H2 s2 h2 a3 a0 Y d9 d8 e9 O=> ?_;have c9:=O.non;have b9:=s6.trans s2;have b5:=s2 _ _ (sT _ _ (s5 _ _ X));refine i1a t1 _ rfl (SqT.of h2) rfl _ _ rfl _ _ rfl rfl ?_;refine i0w _ rfl _ rfl _ _ rfl rfl (i0o _ rfl D _ rfl (.inl (SqL.of b5)) (i0m _ _ rfl rfl hc (i0y D _ _ _ rfl rfl (SqL.of b5) ey ?_)));have f2:=fr.same b9;refine i02 (λZ G=>∃(vb:V) (ub:Tm) (oi:Option V),Z=[Sro cl,Sio (p1:Int),Sro sc,Sro bk,Sio ((ro+1:Nat):Int),Sro U,Sro d,some ow,Sio (I/8),Sio (I%8),Sso x,Sro D,some vb,Sso y,oi,none,none,none,none,none]/\A0u H2 G/\Rep (A0s S G) vb (A1s ub)/\TmW ub/\TmL lk ub/\dep ub<=6+3*ro/\SfT (lnL lk) (okA (lnL lk) es) (okA (lnL lk) es) nm (g++[x]) ub) ?_ ?_
    ·refine B3n (d1:=decide (V.int (I/8/1001%3)=V.int 0)) (d2:= ! decide (V.str y=V.str x)) (λQ' q=>(i18 _ rfl _ _ rfl rfl ⟨by decide,by decide⟩ _ _ rfl rfl D7p (i05 rfl _ rfl q))) (λQ' q=>(i02 _ rfl (i0j _ rfl rfl _ rfl q))) ?_
     cases hb:(decide (V.int (I/8/1001%3)=V.int 0)&& ! decide (V.str y=V.str x)) with
     | false=>exact A2m (i0g v1 u1 none rfl (i0h (A0u.refl _) a3 a0 Y (by lia) c9))
     | true =>
      have yx:¬y=x:=λz=>by rw [z] at hb;simp at hb
      refine A5u (i0s _ rfl _ _ rfl rfl ⟨by decide,by decide⟩ (i0e _ rfl _ rfl (i0k _ rfl _ rfl (A0v rfl) λzl b8=>(i10 sc zl _ _ rfl rfl ((A0e b8) _ _ (b9 _ _ J.1)) A0b (A2a (by simp;lia)) λc3 g4=> ?_))));have s7:=(A0e (o:= .lst [.str x,.str y]) b8).trans (A0e (o:= .lst (g.map V.str++[V.str x,V.str y])) g4);have d7:upd (upd H2 zl (.lst [.str x,.str y])) c3 (.lst (g.map V.str++[V.str x,V.str y])) c3=some (.lst ((g++[x,y]).map V.str)):=by rw [A0b,Z0s];rfl
      generalize upd (upd H2 zl (.lst [.str x,.str y])) c3 (.lst (g.map V.str++[V.str x,V.str y]))=H7 at s7 d7;have c1:=b9.trans s7;refine i0l _ rfl _ U c3 ⟨d,(i1d .non none es (g++[x,y]) lk S rfl (b1.same c1) (.add d7 J.2.2.1 J.2.2.2 (by simp;lia) B.hn B.dk (λz R=> ?_)) ((B.same c1).h) (.inl ⟨rfl,rfl⟩) (λe he=>by cases he) (fr.same c1) λv2 u2 G2 e4 a4 a5 a2 d0 W=> ?_)⟩
      ·rcases Z0e.mp R with R | R
       ·rw [R];exact mx
       ·rw [Z0w.mp R];exact my
      have d4:=c1.trans e4;refine i12 _ rfl _ rfl _ rfl _ _ rfl rfl (i05 ⟨by decide,by decide⟩ _ rfl (i03 y v2 (i1d _ d u2 lk S 4 rfl ((B.hn y my).1) (E2c (B.hn y my).2) g0 ((B.same d4).h) (fr.same d4) a4 (i09 a5 a2 d0 (by decide) λv3 u3 G3 e7 g2 j0 h9 j9 i0=> ?_))));have e2:g++[x,y]=g++[x]++[y]:=by simp
      have b6:=(W nm).non;rw [e2] at b6;have e6:=i0 (okA (lnL lk) es) (okA (lnL lk) es) nm (g++[x]) my (λz=>by rcases Z07.mp z with z | z;exact g6 z;exact yx (Z0w.mp z)) b6.ti b6.sf;have i4:=d4.trans e7;have f9:=fr.same i4;have f4:=s7.trans (e4.trans e7);obtain ⟨op,c8⟩:=D7h (I/8/11);refine ⟨A0v rfl,λll d3=>(i18 _ rfl _ _ rfl rfl ⟨by decide,by decide⟩ _ _ rfl rfl D7p (i0y ll _ _ _ rfl rfl (SqL.of A0b) c8 (i0k _ rfl _ rfl (A0v rfl) λq1 M=> ?_)))⟩
      have sA:=A0e (o:= .lst [.str "plus",.str "minus",.str "times"]) d3;have sB:=A0e (o:= .tup [.str (opS op),v1,v3]) M;have d6:=sA.trans sB;exact i0g (.ref q1) (.pair op u1 u3) _ rfl (i0h (f4.trans d6) (B7p (A0h (f9 q1 (sA.free M)) A0b) (a3.same (A0g (f4.trans d6))) (g2.same (A0g d6))) ⟨a0,j0⟩ ⟨Y,h9⟩ (by simp only [dep];lia) ⟨⟨c9.ti,e6.ti⟩,λρ L=>⟨c9.sf ρ L,e6.sf ρ L⟩⟩)
    rintro Z G ⟨vb,ub,oi,rfl,sG,f6,i1,i8,f7,e1⟩;have d5:=b9.trans sG;refine i12 _ rfl _ rfl _ rfl _ _ rfl rfl (i05 ⟨by decide,by decide⟩ _ rfl (i03 x vb (i1d _ d ub lk S (6+3*ro) rfl ((B.hn x mx).1) (E2c (B.hn x mx).2) j1 ((B.same d5).h) (fr.same d5) f6 (i09 i1 i8 f7 (by lia) λv4 u4 G4 h5 i2 h7 h4 j6 g3=>(i06 _ rfl (A0v rfl) λq2 b2=> ?_)))));have sC:=A0e (o:= .tup [v4,.int (p1:Int)]) b2;exact k q2 v4 u4 p1 _ (d5.trans (h5.trans sC)) A0b (i2.same (A0g sC)) h7 h4 (by lia) (by lia) (by lia) (g3 _ _ nm g mx h8 e1.ti e1.sf)
   ·rw [Z1j hc];exact hF
theorem C8d (T:Txt K mg t):∀n:Nat,A3i P w K mg base CX0 (n+5) t.qp t.re C4x (B9x n)
 | 0=>B9c T (m:=4) (sp':=λ_ _ _ _=>False) (by decide) (A3i.none λ_ _ _ _ h=>h) λ_ _ _ _ _ _ _ _ _ _ _ _ _ _ _ _ _ _ _ _ _ _ _ _ _ _ _ h=>absurd h (by lia)
 | n+1=>B9c T (m:=n+5) (by lia) (C8d T n) λo j f D d p a g b x I c u l S H Q r y i z C s G F k A J e L M v B q=>by
  subst v B;exact i11 o j f D d p a g b (i1d x I c u l S rfl r y i z C s ⟨G,(i0h F k A (by lia) e q)⟩)
def c60:Nat->Int
 | 0=>1
 | n+1=>c60 n*60
theorem E0x (h:n<=5):c60 n<=777600000:=by
 have h:n=0\/n=1\/n=2\/n=3\/n=4\/n=5:=by lia
 rcases h with rfl | rfl | rfl | rfl | rfl | rfl <;> decide
theorem B0b.le {z:Int} (h:B0b lk ys z):B0d lk ys->1<=z/\z<=c60 ys.length:=by
 induction h with
 | nil=>intro _;exact ⟨by decide,by decide⟩
 | @snoc ys y z n a b ih =>
  intro c;obtain ⟨k,f⟩:=ih λx g=>c x (Z07.mpr (.inl g));obtain ⟨m,e,j,d⟩:=c y (by simp);rw [b] at e;cases e;rw [Z06];have l:=Int.mul_le_mul k j (by lia) (by lia);have i:=Int.mul_le_mul f d (by lia) (by lia);exact ⟨by lia,i⟩
def TrB (Zz:Tm->Prop) (S:Addr->Prop) (lk:List (Key×V)) (n:Nat) (H:Hp) (v:V):Prop:=∃u,Rep (A0s S H) v (A1s u)/\TmW u/\TmL lk u/\dep u<=n/\nod u<=120/\Zz u
theorem TrB.mono {S':Addr->Prop} {b:Nat} (h:TrB Zz S lk n H v) (s:A0u H H') (c:∀a o,H a=some o->S a->S' a) (e:n<=b):TrB Zz S' lk b H' v:=by
 obtain ⟨u,r,w,t,d,k⟩:=h;exact ⟨u,(i09 (r.same (A2x s c)) w t (by lia) k)⟩
theorem TrB.same (h:TrB Zz S lk n H v) (s:A0u H H'):TrB Zz S lk n H' v:=h.mono s (λ_ _ _ q=>q) (Z09 _)
theorem TrB.lst (h:TrB Zz S lk n H v) (a:¬S l):TrB Zz S lk n (upd H l o) v:=by
 obtain ⟨u,r,w,t,d,k⟩:=h;exact ⟨u,(i09 (r.same (A2i (A0u.refl _) a)) w t d k)⟩
theorem tOr2 (c:∀a:Bool->Hp->Prop,a d1 H->t1 Z H a) (b:∀a:Bool->Hp->Prop,a d2 H->t2 Z H a) (h:Q (d1||d2) H):tOr t1 t2 Z H Q:=by
 refine c _ ?_
 cases d1 with
 | true=>exact h
 | false=>exact A2m (b _ h)
def LbI (Zz:Tm->Prop) (S:Addr->Prop) (lk:List (Key×V)) (H:Hp) (cl sc d c:Addr) (a z:Int) (m:Nat) (Z:St) (H2:Hp):Prop:=∃(b:List V) (p:Nat) (e:Option V),Z=[Sro cl,Sro sc,Sro d,Sio a,Sio z,Sro c,Sio (p:Int),e,none,none,none]/\A0u H H2/\H2 c=some (.lst b)/\b.length<=16/\p<=7*b.length/\(∀v∈b,TrB Zz S lk 10 H2 v)/\m=16-b.length
def LbJ (Zz:Tm->Prop) (S:Addr->Prop) (lk:List (Key×V)) (H:Hp) (cl sc e:Addr) (b z:Int) (p:Nat) (m:Nat) (Z:St) (H2:Hp):Prop:=∃(l:Addr) (c:List V) (h g f d:Option V) (S':Addr->Prop),Z=[Sro cl,Sro sc,Sro e,Sio b,Sio z,Sro l,Sio (p:Int),h,g,f,d]/\A0u H H2/\H2 l=some (.lst c)/\Fr S' H2/\(∀a,S' a->S a)/\1<=c.length/\c.length<=2^m/\m<=4/\∀v∈c,TrB Zz S' lk (14-m) H2 v
def C0u:Sp:=λp H Q _=>∃(m k i l d:Addr) (j:V) (c:Option (Str×List Str)) (b:Int) (q:List Int) (o:List (Str×List Str)) (a g:List Str) (e:List (Key×V)) (S:Addr->Prop),p=[.ref m,.ref k,.ref i,.int b]/\H m=some (.lst (q.map V.int))/\D1c H e k a/\a.length<=5/\H i=some (.tup [.ref l,.ref d,j])/\D8b H e l o/\D5n H d e g/\D7a H e j c/\OwS c a/\(∀x∈a,x∈g)/\b<=120/\Fr S H/\
 ∀(n:V) (f:Tm) (h:Hp),A0u H h->Rep (A0s S h) n (A1s f)->TmW f->TmL e f->dep f<=14->nod f<=120->LfZ e o c g a f->Q n h
theorem D4e {z w a:Int} (c:1<=z) (h:(n:Int)<=w) (b:a<=120) (d:¬a<z*w):n<=120:=by
 have:0<=(z-1)*w:=Int.mul_nonneg (by lia) (by lia);rw [Int.sub_mul,Int.one_mul] at this
 lia
theorem C1g (T:Txt K mg t):FO P w base T.ph 25 C0u:=by
 have Gc6:= @B3u P w K mg base t T;have Gc7:= @A7c P w K mg base t T;have Gd3:= @A4x P w K mg base t T;have Gc8:= @A6r P w K mg base t T;have Gd2:= @C8d P w K mg base t T 2;have Gd1:= @B7v P w K mg base t T 23;refine T.ph.F.ok A2j (λc H Q E h=> ?_) λ_ A _ s H _ Q E hr h=> ?_
 ·refine e0h h ?_;clear h;rintro O W N ar d ow I g ns es scn ⟨nm,x,S,rfl,_⟩;rfl
 ·refine e0h h ?_;clear h;rintro O W N ar d ow I g ns es scn ⟨nm,x,S,rfl,b4,a7,c7,a6,d0,a4,c6,c9,d4,c5,fr,k⟩;have zn:∀z,LfZ x es I nm scn (.num z):=λz=>⟨True.intro,λ_ _=>True.intro⟩;have zp:∀o a b,LfZ x es I nm scn a->LfZ x es I nm scn b->LfZ x es I nm scn (.pair o a b):=λo a b U hb=>⟨⟨U.ti,hb.ti⟩,λρ hr=>⟨U.sf ρ hr,hb.sf ρ hr⟩⟩;obtain ⟨Zz,hZ⟩:∃Zz,Zz=LfZ x es I nm scn:=⟨_,rfl⟩;rw [<-hZ] at zn zp k;refine i02 _ (@RS.r _ _ _ (rq1 (rq6 4 A2j.nd (pcl Gc6 hr T.kl (A0a (pv 1) (A0a (A1f A1h (pv 2) A0d (λ_ _=>rfl)) A0c)))) (rq1 (rq6 5 A2j.nd (@A1r _ _ _ _ A0c)) (rq1 (rq6 6 A2j.nd A0d) (rq1 ⟨@B0a _ _ _ _ _ _ PassesOwn.never (PW.pt (B6l (A0p A3d (A0q A0y (by rfl) T.ce Z0r (A0a (pv 5) A0c)) A0d (A1b _)) (B5s (PW.pt (A3x (A0p B8r (pv 6) (A0q A0y (by rfl) T.ce Z0r (A0a (pv 0) A0c)) (A1b _)) (A4f (A0p B8r (A0q A0y (by rfl) T.ce Z0r (A0a (pv 5) A0c)) A0d (A1b _)))))))) (@A1u _ _ _ _ _ (A9f (pcl Gd2 hr T.gu (A0a (pv 0) (A0a (pv 6) (A0a (pv 1) (A0a (pv 2) (A0a A0d A0c)))))) (A3q (n:=2) rfl (A0r (A0k (i:=7) A2j.nd rfl (.inl rfl)) (A0r (A0k (i:=6) A2j.nd rfl (.inl rfl)) A2p)))) (@A9r _ _ _ _ _ (@B5f _ _ _ _ _ _ _ _ (A0p A8h (A0j A6b (pv 4) (pcl Gd1 hr T.eh (A0a (pv 7) (A0a (A1f A1h (pv 2) A0d (λ_ _=>rfl)) A0c)))) (pv 3) (A1b _)) (@A2y _ _ _ (@A3f _ _ 7 _ _ _ _ A2j.nd rfl (.inl rfl) (A1z (A0a A1w (A0a (pcl Gc8 hr T.dh (A0a (pcl Gc7 hr T.fc (A0a (pcl Gd3 hr T.bc (A0a (pv 0) (A0a (pv 6) A0c))) (A0a (pv 6) A0c))) A0c)) A0c))) rfl (.inl rfl))) A0x) (@A2y _ _ _ (A2r (A6y Z0k Z0n Z0o A2e (pv 5) (A0a (pv 7) A0c))))))⟩ (rq1 ⟨@B0a _ _ _ _ _ _ PassesOwn.never (A0p A8h (A0q A0y (by rfl) T.ce Z0r (A0a (pv 5) A0c)) A0d (A1b _)) (@A1u _ _ _ _ _ (@A3f _ _ 8 _ _ _ _ A2j.nd rfl (.inl rfl) (@A1r _ _ _ _ A0c) rfl (.inl rfl)) (@A1u _ _ _ _ _ (C9a PassesOwn.never rfl (B9y rfl T.dj (A0a A0d (A0a (A0j A3v (A0q A0y (by rfl) T.ce Z0r (A0a (pv 5) A0c)) A0d) (A0a A0d A0c)))) (A0k (i:=9) A2j.nd rfl (.inl rfl)) (@A1u _ _ _ _ _ (@A3f _ _ 10 _ _ _ _ A2j.nd rfl (.inl rfl) (A1z (A0a (A1f A1n (@A1r _ _ _ _ (A0a A1w (A0a A1w (A0a A1w A0c)))) (A0j A1j (A0j A2h (pv 9) (A0q A0y (by rfl) T.ce Z0r (A0a (pv 5) A0c))) A0d) (λ_ _=>rfl)) (A0a (A1f A1n (pv 5) (pv 9) (λ_ _=>rfl)) (A0a (A1f A1n (pv 5) (A0j A2h (pv 9) A0d) (λ_ _=>rfl)) A0c)))) rfl (.inl rfl)) (@A9r _ _ _ _ _ (@B5f _ _ _ _ _ _ _ _ (A0p A8h (A0j A6b (pv 4) (pcl Gd1 hr T.eh (A0a (pv 10) (A0a (A1f A1h (pv 2) A0d (λ_ _=>rfl)) A0c)))) (pv 3) (A1b _)) (@A2y _ _ _ (@A3f _ _ 10 _ _ _ _ A2j.nd rfl (.inl rfl) (A1f A1n (pv 5) (pv 9) (λ_ _=>rfl)) rfl (.inl rfl))) A0x) (@A2y _ _ _ (A2r (A6y Z0k Z0n Z0o A2e (pv 8) (A0a (pv 10) A0c))))))) (@A9r _ _ _ _ _ (@B5f _ _ _ _ _ _ _ _ (A0p A3d (A0j A1j (A0q A0y (by rfl) T.ce Z0r (A0a (pv 5) A0c)) A0d) A0d (A1b _)) (@A2y _ _ _ (A2r (A6y Z0k Z0n Z0o A2e (pv 8) (A0a (A1f A1n (pv 5) (B6b B0j A0d) (λ_ _=>rfl)) A0c)))) A0x) (@A2y _ _ _ (@A3f _ _ 5 _ _ _ _ A2j.nd rfl (.inl rfl) (pv 8) rfl (.inl rfl))))))⟩ (rq3 (rq5 (A1f A1n (pv 5) A0d (λ_ _=>rfl)))))))))) ?_;refine i17 _ rfl _ rfl N _ _ _ rfl rfl (SqT.of a6) rfl (i0y W d scn x rfl a7.1 a4.h a7.2.2.2 λz z1 mo=> ?_);have zb:=Int.le_trans (mo.le a7.2.2.2).2 (E0x c7);refine ⟨A0v rfl,λM c2=> ?_⟩;have s1:=A0e (o:= .lst []) c2;refine i02 (LbI Zz (λb=>S b/\b≠M) x H O W N M g z) (i10 16 [] 0 none rfl s1 A0b (by decide) (by decide) ⟨(λv hv=>by cases hv),rfl⟩) ?_;rintro m Z H2 ⟨c,p,o7,rfl,D,R,b9,lp,b0,rfl⟩;have a8:∀{G:Hp},A0u H2 G->Fr (λb=>S b/\b≠M) G:=λ{G} s b hb=>⟨fr b ((D.trans s).free hb),λe=>by rw [e,s _ _ R] at hb;cases hb⟩;have dl:∀{α:Type} (xs:List α),decide (V.int (xs.length:Int)=V.int 0)=decide (xs.length=0):=λxs=>decide_eq_decide.mpr ⟨λh=>by have:=V.int.inj h;lia,λh=>by rw [h];rfl⟩;refine tOr2 (d1:=decide (c.length=0)) (d2:=decide ((p:Int)<((ns.map V.int).length:Int))&&decide ((c.length:Int)<16)) (λQ' q=>(i0o _ rfl M _ rfl (.inl (SqL.of R)) (i05 rfl _ rfl (by rw [dl];exact q)))) (λQ' q=>B3n (d1:=decide ((p:Int)<((ns.map V.int).length:Int))) (d2:=decide ((c.length:Int)<16)) (λQ' q=>(i0w _ rfl _ rfl O _ rfl (.inl (SqL.of (D _ _ b4))) (i0q _ _ rfl rfl _ rfl q))) (λQ' q=>(i0o _ rfl M _ rfl (.inl (SqL.of R)) (i0q _ _ rfl rfl _ rfl q))) q) ?_
  cases hb:(decide (c.length=0)||(decide ((p:Int)<((ns.map V.int).length:Int))&&decide ((c.length:Int)<16))) with
  | true =>
   have lv:c.length<16:=by
    simp only [Bool.or_eq_true,Z1x,decide_eq_true_eq] at hb
    lia
   refine A5u (i02 (λZ' H'=>∃m',m'<16-c.length/\LbI Zz (λb=>S b/\b≠M) x H O W N M g z m' Z' H') (λZ' H' z=>z) ?_);refine i0e _ rfl _ rfl (i0e _ rfl _ rfl (i11 O W N ar d p 2 ow I (i1d ns es scn nm x (λb=>S b/\b≠M) rfl (D _ _ b4) (by show p+7<=1000;lia) (a7.same D) (by lia) (D _ _ a6) (d0.same D) ⟨a4.same D,(i0h (c6.same D) c9 d4 (Z09 _) (a8 (A0u.refl _)) λtp tv u' p' H3 s3 e3 rp wu tu du lo hi lz=> ?_)⟩)));rw [<-hZ] at lz;have hi:p'<=p+7:=hi;have du:dep u'<=10:=du;have b3:=D.trans s3;refine i1a tp _ rfl (SqT.of e3) rfl _ _ rfl _ _ rfl rfl ?_;refine i02 (λZ G=>∃(v:V),Z=[Sro O,Sro W,Sro N,Sio g,Sio z,Sro M,Sio (p':Int),some v,none,none,none]/\A0u H3 G/\TrB Zz (λb=>S b/\b≠M) x 10 G v) ?_ ?_
   ·refine i02 _ rfl (i17 _ rfl _ rfl N _ _ _ rfl rfl (SqT.of (b3 _ _ a6)) rfl (i10 tv d u' x rfl (rp.same A0m) tu ((a4.same b3).h) (by lia) λwt hw _=> ?_));refine i07 _ _ rfl (i0a rfl (.inl ⟨by lia,by lia⟩) _ rfl (i0q _ _ rfl rfl _ rfl (A8x (λ_=> ?_) (λb6=> ?_))))
    ·refine i02 _ rfl (i0x _ rfl O ns (p':Int) rfl (SqL.of (b3 _ _ b4)) (by lia) λc0=>(i0s _ rfl c0 (p':Int) rfl (by lia) (by lia) λr0=>(i02 r0 rfl λn hn=>⟨A0v rfl,λq1 X=> ?_⟩)));exact i0d _ rfl (A0e X) (.num n) (i0h (C9v (A0h (a8 s3 q1 X) A0b)) hn True.intro (by show 1<=10;decide) (by show 1<=120;decide) (zn n))
    ·exact i0d tv rfl (A0u.refl _) u' (i0h rp wu tu du (D4e z1 hw c5 b6) lz)
   rintro Z G ⟨v,rfl,sG,d6⟩;have b5:=s3.trans sG;have hG:=b5 _ _ R;refine i0j _ rfl (.inl (i01 rfl _ (SqL.of hG))) _ rfl (i0u M _ _ rfl rfl hG (A1l (by lia)) ?_);refine i0x (15-c.length) (by lia) (c++[v]) p' _ rfl (A0o (D.trans b5) c2) A0b (i04 (by rw [Z06];simp only [Z0y,Z2g];lia) (by rw [Z06];simp only [Z0y,Z2g];lia) (λy B=> ?_) (by rw [Z06];simp only [Z0y,Z2g];lia));rcases Z07.mp B with B | B
   ·exact ((b0 y B).same b5).lst λq=>q.2 rfl
   ·rw [Z0w.mp B];exact d6.lst λq=>q.2 rfl
  | false =>
   have lv:1<=c.length:=by
    simp only [Bool.or_eq_false_iff,Bool.and_eq_false_iff,decide_eq_false_iff_not] at hb
    lia
   refine A2m ?_;refine i02 (LbJ Zz S x H O W N g z p) (i03 4 M (i1d c o7 none none none (λb=>S b/\b≠M) rfl D R (a8 (A0u.refl _)) (λa q=>q.1) lv b9 ⟨by decide,b0⟩)) ?_;clear a8 hb b9 lp b0 R D lv c;rintro m Z H2 zz;refine e08 zz ?_;clear zz;rintro l c o7 o8 o9 ⟨a3,S',rfl,D,R,b7,c3,v1,vm,m4,hv⟩;refine i0o _ rfl l _ rfl (.inl (SqL.of R)) (i0q _ _ rfl rfl _ rfl (A8x (λu=> ?_) (λu=> ?_)))
   ·have u:2<=c.length:=by
     have:(1:Int)<(c.length:Int):=u
     lia
    obtain ⟨n,rfl⟩:∃n,m=n+1:=by
     cases m with
     | zero=>simp at vm;lia
     | succ n=>exact ⟨n,rfl⟩
    rw [Nat.pow_succ] at vm
    have d8:c.length<=16:=by
     have:2^n<=2^3:=Nat.pow_le_pow_right (by decide) (by lia)
     lia
    refine i02 (λZ' H'=>∃m',m'<n+1/\LbJ Zz S x H O W N g z p m' Z' H') (λZ' H' z=>z) ?_;refine ⟨A0v rfl,λf hf=> ?_⟩;have s3:A0u H2 (upd H2 f (.lst [])):=A0e hf;refine i0o _ rfl l _ rfl (.inl (SqL.of (s3 _ _ R))) (i0f _ _ rfl rfl (i0n 0 _ 2 rfl (i0h (by decide) (by decide) (by lia) (by lia) (by decide) (by decide)) ?_));have a0:=C9q u;have b2:∀a o,H2 a=some o->S' a->S' a/\a≠f:=λa o U hs=>⟨hs,A0z U hf⟩
    refine C5t (n:=(Builtin.Range.rangeSize 0 ((c.length:Int)-1) 2).toNat) (λi Z H4=>∃(o9 a3:Option V) (L:List V),Z=[Sro O,Sro W,Sro N,Sio g,Sio z,Sro l,Sio (p:Int),o7,Sro f,o9,a3]/\A0u H2 H4/\H4 f=some (.lst L)/\L.length=i/\
     ∀v∈L,TrB Zz (λa=>S' a/\a≠f) x (14-n) H4 v) (i0u _ _ [] rfl s3 A0b rfl (by simp)) ?_ ?_
    ·rintro i Z H4 hi ⟨o9,a3,L,rfl,Y,h4,a5,hw⟩;refine B2x ?_;intro D';rw [a0] at hi;have ek:(0:Int)+(i:Int)*2=((2*i:Nat):Int):=by lia
     rw [ek];have d3:∀{G:Hp},A0u H4 G->Fr (λa=>S' a/\a≠f) G:=λ{G} s a U=>⟨b7 a ((Y.trans s).free U),λz=>by rw [z,s _ _ h4] at U;cases U⟩;have J:=Y _ _ R;obtain ⟨va,a1⟩:∃va,c[2*i]? =some va:=⟨c[2*i]'(by lia),by simp⟩;obtain ⟨vb,b1⟩:∃vb,c[2*i+1]? =some vb:=⟨c[2*i+1]'(by lia),by simp⟩;have ta:=(hv _ (Z13 a1)).mono Y b2 (Z09 _);have tb:=(hv _ (Z13 b1)).mono Y b2 (Z09 _);have eb:atI c (((2*i:Nat):Int)+1)=some vb:=A3m (j:=2*i+1) b1;obtain ⟨op,c8⟩:=D7h (((2*i:Nat):Int)+(c.length:Int));refine ⟨A0v rfl,λll d5=> ?_⟩;have sA:=A0e (o:= .lst [.str "plus",.str "minus",.str "times"]) d5;refine i0w _ rfl _ rfl l _ rfl (.inl (SqL.of (sA _ _ J))) (i0f _ _ rfl rfl (i0m _ _ rfl rfl D7p (i0y ll _ _ _ rfl rfl (SqL.of A0b) c8 ?_)));refine i17 _ rfl _ rfl l _ _ _ rfl rfl (SqL.of (sA _ _ J)) (A3m a1) (i0w _ rfl _ rfl _ _ rfl rfl (i10 l _ _ _ rfl rfl (SqL.of (sA _ _ J)) eb (A0v rfl) λq1 X=> ?_));have sB:=A0e (o:= .tup [.str (opS op),va,vb]) X;have C:=sA.trans sB;have fq:=d3 sA q1 X;have e5:upd (upd H4 ll (.lst [.str "plus",.str "minus",.str "times"])) q1 (.tup [.str (opS op),va,vb]) q1=some (.tup [.str (opS op),va,vb]):=A0b;generalize upd (upd H4 ll (.lst [.str "plus",.str "minus",.str "times"])) q1 (.tup [.str (opS op),va,vb])=H5 at C e5;have b8:=ta.same C;have d7:=tb.same C;obtain ⟨ua,ra,wa,la,da,na,za⟩:=id b8;obtain ⟨ub,rb,wb,lb,db,nb,zb⟩:=d7;have rq:Rep (A0s (λa=>S' a/\a≠f) H5) (.ref q1) (A1s (.pair op ua ub)):=B7p (A0h fq e5) ra rb;have dq:dep (.pair op ua ub)<=14-n:=by simp only [dep];lia
     have c1:=D.trans (Y.trans C);refine i02 (λZ H6=>H5=H6/\∃(v:V),Z=[Sro O,Sro W,Sro N,Sio g,Sio z,Sro l,Sio (p:Int),o7,Sro f,Sio ((2*i:Nat):Int),some v]/\TrB Zz (λa=>S' a/\a≠f) x (14-n) H5 v) ?_ ?_
     ·refine i02 _ rfl (i17 _ rfl _ rfl N _ _ _ rfl rfl (SqT.of (c1 _ _ a6)) rfl (i10 (.ref q1) d _ x rfl (rq.same A0m) ⟨la,lb⟩ ((a4.same c1).h) (by lia) λwt hw _=> ?_));refine i07 _ _ rfl (i0a rfl (.inl ⟨by lia,by lia⟩) _ rfl (i0q _ _ rfl rfl _ rfl (A8x (λ_=> ?_) (λb6=> ?_))))
      ·exact i02 _ rfl (i1c _ rfl l _ _ _ rfl rfl (SqL.of (C _ _ J)) (A3m a1) rfl va rfl (b8.mono (A0u.refl _) (λ_ _ _ q=>q) (by lia)))
      ·exact i05 rfl _ rfl ⟨_,(i0h rq ⟨wa,wb⟩ ⟨la,lb⟩ dq (D4e z1 hw c5 b6) (zp op ua ub za zb))⟩
     rintro Z H6 ⟨rfl,v6,rfl,t6⟩;have h6:=C _ _ h4;refine i0j _ rfl (.inl (i01 rfl _ (SqL.of h6))) _ rfl (i0u f _ _ rfl rfl h6 (A1l (by lia)) ?_);refine i0u _ _ (L++[v6]) rfl (A0o (Y.trans C) hf) A0b (by simp [a5]) λy B=> ?_;rcases Z07.mp B with B | B
     ·exact ((hw y B).same C).lst λq=>q.2 rfl
     ·rw [Z0w.mp B];exact t6.lst λq=>q.2 rfl
    rintro Z H4 ⟨o9,a3,L,rfl,Y,h4,a5,hw⟩;rw [a0] at a5;have J:=Y _ _ R;refine i02 (λZ H5=>∃L,Z=[Sro O,Sro W,Sro N,Sio g,Sio z,Sro l,Sio (p:Int),o7,Sro f,o9,a3]/\A0u H2 H5/\H5 f=some (.lst L)/\L.length=(c.length+1)/2/\∀v∈L,TrB Zz (λa=>S' a/\a≠f) x (14-n) H5 v) ?_ ?_
    ·refine i0o _ rfl l _ rfl (.inl (SqL.of J)) (i0f _ _ rfl rfl (i0a D5z rfl _ rfl (A8x (λa9=> ?_) (λc4=> ?_))))
     ·have a9:((c.length:Int)%2)=1:=by injection a9
      obtain ⟨va,a1,a2⟩:=C3e (xs:=c) (by lia);refine i06 _ rfl (.inl (i01 rfl _ (SqL.of h4))) (i17 _ rfl _ rfl l _ _ _ rfl rfl (SqL.of J) a2 (i0u f _ _ rfl rfl h4 (A1l (by lia)) ?_));refine ⟨L++[va],(i09 rfl (A0o Y hf) A0b (by simp;lia) λy B=> ?_)⟩;rcases Z07.mp B with B | B
      ·exact (hw y B).lst λq=>q.2 rfl
      ·rw [Z0w.mp B];exact ((hv _ (Z13 a1)).mono Y b2 (by lia)).lst λq=>q.2 rfl
     ·have c4:¬((c.length:Int)%2)=1:=λz=>c4 (congrArg V.int z);exact ⟨L,(i09 rfl Y h4 (by lia) hw)⟩
    rintro Z H5 ⟨L,rfl,s5,h5,a5,hw⟩;exact i0e _ rfl n (by lia) ⟨f,(i1d L _ _ _ _ _ rfl (D.trans s5) h5 (λa U=>⟨b7 a (s5.free U),λz=>by rw [z,h5] at U;cases U⟩) (λa q=>c3 a q.1) (by lia) (by lia) ⟨by lia,hw⟩)⟩
   ·have u:c.length=1:=by
     have:¬(1:Int)<(c.length:Int):=u
     lia
    obtain ⟨va,a1⟩:∃va,c[0]? =some va:=⟨c[0]'(by lia),by simp⟩;obtain ⟨ua,ra,wa,la,da,na,za⟩:=hv _ (Z13 a1);exact i13 _ rfl l _ _ _ rfl rfl (SqL.of R) (A3m (j:=0) a1) (k va ua H2 D (ra.same (A2x (A0u.refl _) λa _ _ q=>c3 a q)) wa la (by lia) na za)
theorem C1x {xs:List Nat} {i:Int} {b:Nat} (a:0<=i) (h1:i<xs.length) (e:∀x∈xs,x<=b):∃m:Nat,m<=b/\atI (xs.map λ(n:Nat)=>V.int (n:Int)) i=some (.int (m:Int)):=by
 obtain ⟨x,d,c⟩:=A6n (f:=λn:Nat=>V.int (n:Int)) a h1;exact i02 x (e x (Z13 d)) c
def AxL (ax:List (Str×Int)):Prop:=(∀e∈ax,1<=e.2/\e.2<=60)/\NmS (ax.map (·.1))/\(ax.map (·.1)).Nodup/\ax.length<=8
theorem D9x (h:H d=some (.dK (A2g ax))) (k:AxL ax):D5n H d (A2g ax) (ax.map (·.1)):=by
 have g:(A2g ax).map (·.1)=(ax.map (·.1)).map (Sum.inr:Str->Key):=by unfold A2g;rw [List.map_map,List.map_map];rfl
 refine ⟨h,g,λy m=> ?_,k.2.1,by have:=k.2.2.2;rw [Z08];lia⟩;obtain ⟨e,j,rfl⟩:=Z2c.mp m;obtain ⟨i,n,l⟩:=List.mem_iff_getElem.mp j;refine i02 e.2 (C3f (i:=i) ?_ ?_) (k.1 e j)
 ·rw [g];exact k.2.2.1.map (f:=(Sum.inr:Str->Key)) λa b c z=>c (Sum.inr.inj z)
 ·unfold A2g;rw [Z1z,Z0b n,l];rfl
def mxL (m:Nat):Int:=if 4<m then 2 else 4
def Bd (m:Nat) (ax:List (Str×Int)):Prop:=∀(j:Nat) (e:Str×Int),ax[j]? =some e->1<=j->e.2<=mxL m
def B3z (K:Frag):Sp:=λh H Q _=>∃(a g:Addr) (i:List Int) (c:List Str),h=[.ref a,.ref g]/\SqL K H a (i.map V.int)/\H g=some (.lst (c.map V.str))/\10<=c.length/\c.Nodup/\
 ∀(d:Addr) (b:List (Str×Int)) (f:Hp),H d=none->A0u H f->f d=some (.dK (A2g b))->b.map (·.1)=c.take b.length->b.length<=8->(∀e∈b,1<=e.2/\e.2<=60)->Bd b.length b->Q (.ref d) f
theorem B3f (T:Txt K mg t):FO P w base T.gx 3 (B3z K):=by
 have Gd6:= @B9g P w K mg base t T;have Gd3:= @A4x P w K mg base t T;refine T.gx.F.ok A3s (by walk_at "ln") λ_ A _ s H _ Q E O h=> ?_
 ·obtain ⟨a,y,ns,f,rfl,hS,B,a0,nd,k⟩:=h;have hu:=A8b O;refine i02 _ (@RS.r _ _ _ (rq1 (rq6 2 A3s.nd B2i) (rq1 (rq6 3 A3s.nd (A1f A1n (@A1r _ _ _ _ (A0a A0d (A0a A0d (A0a A0d (A0a A0d (A0a A0d (A0a A0d (A0a A0d (A0a A0d (A0a A0d (A0a A0d A0c))))))))))) (A0j A1j (A0j A1o (pcl Gd3 O T.bc (A0a (pv 0) (A0a A0d A0c))) A0d) A0d) (λ_ _=>rfl))) (rq1 (rq7 (A4a rfl T.dj (A0a (pv 3) A0c)) (A0k (i:=4) A3s.nd rfl (.inl rfl)) (rq1 (rq6 5 A3s.nd (pcl Gd6 O T.kq (A0a (pcl Gd3 O T.bc (A0a (pv 0) (A0a A0d A0c))) (A0a (pv 4) A0c)))) (rq1 ⟨@A6s _ _ _ _ _ _ _ _ _ hu (pv 2) (A1f A1n (pv 1) (pv 4) (λ_ _=>rfl)) (A0j A2h A0d (A0j A1j (pv 5) (A1f A1n (@A1r _ _ _ _ (A0a A0d (A0a A0d A0c))) (A2k B9k (by rfl) T.Av PyProof.Rows.boot_int (A0a (D0h A8h (pv 3) A0d (A1b _)) A0c)) (λ_ _=>rfl)))) rfl⟩ (rq3 (rq4 (PW.pt (A3x (A0p A3d (pv 4) A0d (A1b _)) (A4f (A0p A3d (A0j A1j (A0j A1o (pv 5) A0d) A0d) A0d (A1b _))))) (rq3 ⟨@A6s _ _ _ _ _ _ _ _ _ hu (pv 2) (A1f A1n (pv 1) (pv 4) (λ_ _=>rfl)) (A0j A2h A0d (A0j A1j (A0j A1o (pv 5) A0d) A0d)) rfl⟩) ⟨A0x⟩))))) (rq3 (rq5 (pv 2))))))) ?_;refine λd L=> ?_;have s0:A0u H (upd H d (.dK [])):=A0e L;refine ⟨A0v rfl,λzl J=> ?_⟩;have U:=s0.trans (A0e (o:= .lst [.int 0,.int 1,.int 2,.int 3,.int 4,.int 2,.int 3,.int 4,.int 6,.int 8]) J);have h1:=(A0e (o:= .lst [.int 0,.int 1,.int 2,.int 3,.int 4,.int 2,.int 3,.int 4,.int 6,.int 8]) J) d _ A0b;refine i0x _ rfl a ns 2 rfl (U.seq hS) (by decide) λc=> ?_;obtain ⟨m,m8,em⟩:=C1x (xs:=[0,1,2,3,4,2,3,4,6,8]) (i:=c/3%10) (b:=8) (by lia) (by show c/3%10<10;lia) (by decide);refine i0m _ _ rfl rfl ⟨by decide,by decide⟩ (i0m _ _ rfl rfl E3y (i0y zl _ _ _ rfl rfl (SqL.of A0b) em ?_));generalize upd (upd H d (.dK [])) zl (.lst [.int 0,.int 1,.int 2,.int 3,.int 4,.int 2,.int 3,.int 4,.int 6,.int 8])=H1 at U h1;refine i0k _ rfl _ rfl (by lia) ⟨by lia,?_⟩
  refine A4k (n:=((m:Nat):Int).toNat) (λi Z l=>∃(v I:Option V) (ax:List (Str×Int)),Z=[Sro a,Sro y,Sro d,Sio (m:Int),v,I]/\A0u H l/\l d=some (.dK (A2g ax))/\ax.length=i/\ax.map (·.1)=f.take i/\(∀e∈ax,1<=e.2/\e.2<=60)/\Bd m ax)
   (i0g none none [] rfl (i0h U h1 rfl rfl (by intro e g;cases g) (by intro j e g;cases g))) ?_ ?_
  ·rintro i Z l hi ⟨v,I,ax,rfl,C,Y,u,D,va,S⟩;refine B2x ?_;intro D';rw [Int.toNat_natCast] at hi;rw [Int.zero_add];have p:f[i]? =some f[i]:=Z0b (by lia);have ey:atI (f.map V.str) (i:Int)=some (.str f[i]):=A3m (by rw [Z1z,p];rfl);refine i0x _ rfl a ns 2 rfl (C.seq hS) (by decide) λc0=>(i0s _ rfl c0 (i:Int) rfl (by lia) (by lia) λr=> ?_)
   obtain ⟨b,b1,b4,bm,eb⟩:∃b:Int,1<=b/\b<=4/\b<=mxL m/\atI [V.int 4,V.int 2] (if decide ((4:Int)<(m:Int))=true then 1 else 0)=some (.int b):=by
    by_cases h4:4<m
    ·rw [Z20 (show (4:Int)<(m:Int) by lia)];exact i0c 2 (by decide) (by decide) (by unfold mxL;rw [Z12 h4];exact Int.le_refl _) rfl
    ·rw [Z1j (show¬(4:Int)<(m:Int) by lia)];exact i0c 4 (by decide) (by decide) (by unfold mxL;rw [Z0t h4];exact Int.le_refl _) rfl
   have a1:(A2g ax).length=i:=by unfold A2g;rw [Z08,u]
   have kk:(A2g ax).map (·.1)=(f.take i).map λx=>(Sum.inr x:Key):=by rw [<-D];unfold A2g;rw [List.map_map,List.map_map];rfl
   refine i06 _ rfl (A0v rfl) λM W=> ?_;have sz:=A0e (o:= .lst [.int 4,.int 2]) W;refine i0o _ rfl _ _ rfl rfl (.inr (i13 _ rfl M _ _ _ rfl rfl (SqL.of A0b) eb (i0m _ _ rfl rfl (by show 0<b;lia) (i0q _ _ rfl rfl _ rfl (i17 _ rfl _ rfl y _ _ _ rfl rfl (SqL.of (sz _ _ (C _ _ B))) ey (i0f d _ rfl (C0e.k (k:=Sum.inr f[i]) (sz _ _ Y) (A1l (by lia))) ?_))))));have r0:0<=r%b:=Z1v _ (by lia);have r1:r%b<b:=Z1p _ (by lia)
   have pn:A7y (A2g ax) (Sum.inr f[i]) (.int (1+r%b))=A2g (ax++[(f[i],1+r%b)]):=by
    rw [E1f nd p kk];unfold A2g;rw [Z0s];rfl
   have N:A0u H (upd (upd l M (.lst [.int 4,.int 2])) d (.dK (A2g (ax++[(f[i],1+r%b)])))):=A0o (C.trans sz) L;have X:upd (upd l M (.lst [.int 4,.int 2])) d (.dK (A2g (ax++[(f[i],1+r%b)]))) d=some (.dK (A2g (ax++[(f[i],1+r%b)]))):=A0b;rw [pn];generalize upd (upd l M (.lst [.int 4,.int 2])) d (.dK (A2g (ax++[(f[i],1+r%b)])))=H3 at N X
   have fin:∀(q:Int) (G:Hp),1<=q->q<=60->(1<=i->q<=mxL m)->A0u H G->G d=some (.dK (A2g (ax++[(f[i],q)])))->∃(v I:Option V) (ax:List (Str×Int)),[some (V.ref a),some (.ref y),some (.ref d),some (.int (m:Int)),some (.int (i:Int)),some (.int r)]=[some (.ref a),some (.ref y),some (.ref d),some (.int (m:Int)),v,I]/\A0u H G/\G d=some (.dK (A2g ax))/\ax.length=i+1/\ax.map (·.1)=f.take (i+1)/\(∀e∈ax,1<=e.2/\e.2<=60)/\Bd m ax:=λq G q1 q2 q3 sG hG=>by
    refine i0g _ _ (ax++[(f[i],q)]) rfl (i0h sG hG (by simp [u]) ?_ (λe g=> ?_) λj e g hj=> ?_)
    ·rw [Z0s,D,Z14,p];rfl
    ·rcases Z07.mp g with g | g
     ·exact va e g
     ·rw [Z0w.mp g];exact ⟨q1,q2⟩
    ·by_cases hji:j<ax.length
     ·rw [Z26 hji] at g;exact S j e g hj
     ·rw [Z1l (by lia)] at g;have:j-ax.length=0:=by have:=(Z03.mp g).1;simp at this;lia
      rw [this] at g;cases g;exact q3 (by lia)
   dsimp only [A7n,C7r,D3l,D6u];refine B3n (d1:=decide (V.int (i:Int)=V.int 0)) (d2:=decide (V.int (r/4%8)=V.int 5)) (λQ' q=>(i0j _ rfl rfl _ rfl q)) (λQ' q=>(i18 _ rfl _ _ rfl rfl ⟨by decide,by decide⟩ _ _ rfl rfl E2g (i05 rfl _ rfl q))) ?_
   cases hb:(decide (V.int (i:Int)=V.int 0)&&decide (V.int (r/4%8)=V.int 5)) with
   | false=>exact A2m (fin _ _ (by lia) (by lia) (λ_=>by lia) N X)
   | true =>
    have i0:i=0:=by
     have:=of_decide_eq_true (Z1x _ _▸hb).1;have:=V.int.inj this
     lia
    have R:ax=[]:=List.eq_nil_of_length_eq_zero (by lia);have r2:0<=r/32%60/\r/32%60<60:=by lia
    refine A5u (i18 _ rfl _ _ rfl rfl ⟨by decide,by decide⟩ _ _ rfl rfl E2v (i0q _ _ rfl rfl _ rfl (i17 _ rfl _ rfl y _ _ _ rfl rfl (SqL.of (N _ _ B)) ey (i0f d _ rfl (C0e.k (k:=Sum.inr f[i]) X (A1l (by unfold A2g;simp;lia))) ?_))));refine fin (1+r/32%60) _ (by lia) (by lia) (λz=>by lia) (A0o N L) ?_;rw [A0b];subst R;show some (HO.dK (A7y [(Sum.inr f[i],V.int (1+r%b))] (Sum.inr f[i]) (.int (1+r/32%60))))=some (.dK [(Sum.inr f[i],V.int (1+r/32%60))]);unfold A7y;simp
  ·rintro Z l ⟨v,I,ax,rfl,C,Y,u,D,va,S⟩;rw [Int.toNat_natCast] at u D;exact i02 _ rfl (k d ax l L C Y (by rw [u];exact D) (by lia) va (by rw [u];exact S))
theorem D7j {α:Type} (f:α->V) (nm:List α) (lo hi:Option Int):∃zs:List α,D0y (nm.map f) lo hi=zs.map f/\zs.length<=nm.length/\∀x∈zs,x∈nm:=by
 refine i06 ((nm.drop (HT.sIx nm.length 0 lo)).take (HT.sIx nm.length nm.length hi-HT.sIx nm.length 0 lo)) ?_ ?_ λx a=> ?_
 ·unfold D0y;rw [Z08,<-List.map_drop,<-List.map_take]
 ·rw [Z0x,List.length_drop];lia
 ·exact List.mem_of_mem_drop (Z2p a)
theorem D6q {α:Type} (f:α->V) (nm:List α) (lo hi:Option Int):∃zs:List α,D0y (nm.map f) lo hi=zs.map f/\zs.Sublist nm:=by
 refine i02 ((nm.drop (HT.sIx nm.length 0 lo)).take (HT.sIx nm.length nm.length hi-HT.sIx nm.length 0 lo)) ?_ ((Z2o _ _).trans (List.drop_sublist _ _));unfold D0y;rw [Z08,<-List.map_drop,<-List.map_take]
theorem E4m (xs:List V) (lo:Option Int) (n:Nat):(D0y xs lo (some (n:Int))).length<=n:=by
 unfold D0y;rw [Z0x]
 have:HT.sIx xs.length xs.length (some (n:Int))<=n:=by
  have e:=HT.sIx_nat xs.length xs.length n;have e:HT.sIx xs.length xs.length (some (n:Int))=min n xs.length:=e;rw [e];exact Nat.min_le_left _ _
 lia
theorem D6g {a b c:Int} (d:0<c) (h:i<(Builtin.Range.rangeSize a b c).toNat):a+(i:Int)*c<b:=by
 unfold Builtin.Range.rangeSize at h;rw [Z12 d] at h;by_cases hab:a<b
 ·rw [Z12 hab] at h;have e:(i:Int)<=(b-a-1)/c:=by lia
  have:=(Int.le_ediv_iff_mul_le d).mp e
  lia
 ·rw [Z0t hab] at h;simp at h
def TmS:Tm->Prop
 | .read a _=>PyData.strOk a=true
 | .sum _ b=>TmS b
 | .pair _ l r=>TmS l/\TmS r
 | .guard _ _ _ l r=>TmS l/\TmS r
 | _=>True
theorem D8h {lk:List (Key×V)}:∀u:Tm,TmL lk u->TmS u
 | .read _ _,h=>h
 | .sum _ b,h=>D8h b h.2
 | .pair _ l r,h=>⟨D8h l h.1,D8h r h.2⟩
 | .guard _ _ _ l r,h=>⟨D8h l h.2.1,D8h r h.2.2⟩
 | .num _,_=>True.intro
 | .place _,_=>True.intro
def E0j (H:Hp) (v:V) (e:Lt):Prop:=∃q b a,v= .ref q/\H q=some (.tup [.str e.1,.ref b,a])/\H b=some (.lst (e.2.1.map V.str))/\Rep H a (A1s e.2.2)
theorem E0j.same {e:Lt} (h:E0j H v e) (s:A0u H H'):E0j H' v e:=by
 obtain ⟨q,d,b,rfl,c,a,r⟩:=h;exact i0r q d b rfl (s _ _ c) (s _ _ a) (r.same s)
structure E2f (lk:List (Key×V)) (e:Lt):Prop where
 o:PyData.strOk e.1=true
 l1:e.1.length<=60
 l3:e.2.1.length<=3
 n:NmS e.2.1
 w:TmW e.2.2
 s:TmS e.2.2
 d:dep e.2.2<=16
 k:nod e.2.2<=122
def B2u:List Str->Tm->Tm
 | [],u=>u
 | x::s,u=> .sum x (B2u s u)
structure LtS (lk:List (Key×V)) (nm:List Str) (es:List (Str×List Str)) (e:Lt):Prop where
 ex:∃sums u,e.2.2=B2u sums u/\(e.2.1++sums).Nodup/\(∀x∈e.2.1++sums,x∈nm)/\LfZ lk es (some (e.1,e.2.1)) nm (e.2.1++sums) u
 tl:TmL lk e.2.2
abbrev C6c (ls:List Lt):List (Str×List Str):=ls.map λe=>(e.1,e.2.1)
theorem D6k {nm:List Str} (c:m<=6) (nd:nm.Nodup):((nm.drop 8).take m++(nm.drop 14).take i).Nodup:=by
 refine nd.sublist ?_
 have b:((nm.drop 8).take m).Sublist (nm.take 14):=by
  have e:(nm.drop 8).take m=((nm.take 14).drop 8).take m:=by rw [List.drop_take,List.take_take,Nat.min_eq_left (by lia)]
  rw [e];exact (Z2o _ _).trans (List.drop_sublist _ _)
 have a:((nm.drop 14).take i).Sublist (nm.drop 14):=Z2o _ _;have:=b.append a;rw [Z2e] at this;exact this
structure B2c (H:Hp) (p:Addr) (ax:List (Str×Int)) (tb:List (Str×List Str)) (ls:List Lt):Prop where
 ob:∃(wh:Int) (d tl ll ol:Addr) (tvs lvs:List V) (o:Str),H p=some (.tup [.int wh,.ref d,.ref tl,.ref ll,.ref ol])/\H d=some (.dK (A2g ax))/\H tl=some (.lst tvs)/\Paired (D1b H (A2g ax)) tvs tb/\H ll=some (.lst lvs)/\Paired (E0j H) lvs ls/\H ol=some (.lst [.str o])
 hx:AxL ax
 t:tb.length<=6
 l:ls.length<=8
 ok:∀e∈ls,E2f (A2g ax) e
 sf:∀(j:Nat) (e:Lt),ls[j]? =some e->LtS (A2g ax) (ax.map (·.1)) (tb++C6c (ls.take j)) e
 nd:(tb.map (·.1)++ls.map (·.1)).Nodup
 ng:∀x∈tb.map (·.1)++ls.map (·.1),NmG x
 pb:Bd ax.length ax
 wp:∀(wh:Int) (r:List V),H p=some (.tup (.int wh::r))->0<wh/\wh<=10^31
def B4i (K:Frag):Sp:=λd H Q _=>∃(a:Addr) (f:List Int),d=[.ref a]/\SqL K H a (f.map V.int)/\∀(p:Addr) (c:List (Str×Int)) (g:List (Str×List Str)) (e:List Lt) (b:Hp),A0u H b->B2c b p c g e->Q (.ref p) b
theorem D1y {k:Key}:∃g:Int,(A5l (A2g ax) k).getD (.int 1)= .int g:=by
 cases e:A5l (A2g ax) k with
 | none=>exact ⟨1,rfl⟩
 | some v =>
  obtain ⟨p,b,c,a⟩:=C3b e;obtain ⟨f,_,rfl⟩:=Z2c.mp b;exact ⟨f.2,a.symm⟩
abbrev S2P (a c:Addr):Addr->Prop:=λb=>b≠a/\b≠c
theorem B4l (T:Txt K mg t):FO P w base T.ia 26 (B4i K):=by
 have Gd7:= @B7n P w K mg base t T;have Gd8:= @B3f P w K mg base t T;have Gd6:= @B9g P w K mg base t T;have Gc7:= @A7c P w K mg base t T;have Gd3:= @A4x P w K mg base t T;have Gd9:= @B9j P w K mg base t T;have Gc6:= @B3u P w K mg base t T;have Ge0:= @C1g P w K mg base t T;refine T.ia.F.ok A0t (by walk_at "ln") λ_ A _ s H _ Q E W h=> ?_
 ·obtain ⟨a,ns,rfl,hS,k⟩:=h;have hu:=A8b W;refine i02 _ (@RS.r _ _ _ (rq1 (rq6 1 A0t.nd (pcl Gd7 W T.jg (A0a (pcl Gd3 W T.bc (A0a (pv 0) (A0a A0d A0c))) (A0a (pcl Gd3 W T.bc (A0a (pv 0) (A0a A0d A0c))) (A0a A0d A0c))))) (rq1 (rq6 2 A0t.nd (pcl Gd8 W T.gx (A0a (pv 0) (A0a (pv 1) A0c)))) (rq1 (rq6 3 A0t.nd (A2k (C4m rfl) (by rfl) T.ib Z1o (A0a (pv 2) A0c))) (rq1 (rq6 4 A0t.nd (@A1r _ _ _ _ A0c)) (rq1 (rq7 (A4a rfl T.dj (A0a (A1f A1n (@A1r _ _ _ _ (A0a A0d (A0a A0d (A0a A0d (A0a A0d (A0a A0d (A0a A0d (A0a A0d A0c)))))))) (A0j A1j (pcl Gd3 W T.bc (A0a (pv 0) (A0a A0d A0c))) A0d) (λ_ _=>rfl)) A0c)) (A0k (i:=5) A0t.nd rfl (.inl rfl)) (rq1 (rq6 6 A0t.nd (pcl Gd6 W T.kq (A0a (pcl Gd3 W T.bc (A0a (pv 0) (A0a A0d A0c))) (A0a (pv 5) A0c)))) (rq3 ⟨A2r (A6y Z0k Z0n Z0o A2e (pv 4) (A0a (A1z (A0a (A1f A1n (pv 1) (A0j A2h A0d (pv 5)) (λ_ _=>rfl)) (A0a (pcl Gd9 W T.fm (A0a (pv 6) (A0a (pv 3) (A0a (pv 2) (A0a A0d A0c))))) A0c))) A0c))⟩))) (rq1 (rq6 7 A0t.nd (A2k A4z (by rfl) T.ib Z1o (A0a (pv 4) A0c))) (rq1 (rq6 8 A0t.nd (@A1r _ _ _ _ A0c)) (rq1 (rq6 9 A0t.nd (A1f A1n (@A1r _ _ _ _ (A0a A0d (A0a A0d (A0a A0d (A0a A0d (A0a A0d (A0a A0d (A0a A0d (A0a A0d (A0a A0d A0c)))))))))) (A0j A1j (pcl Gd3 W T.bc (A0a (pv 0) (A0a A0d A0c))) A0d) (λ_ _=>rfl))) (rq2 (rq4 (PW.pt (A3x (A0p A3d (pv 9) A0d (A1b _)) (A4f (A0p A3d (A0q A0y (by rfl) T.ce Z0r (A0a (pv 7) A0c)) A0d (A1b _))))) (rq3 (rq6 9 A0t.nd A0d)) ⟨A0x⟩) (rq1 ⟨@A3f _ _ 10 _ _ _ _ A0t.nd rfl (.inr rfl) (B2q C6u (pv 0) (B3l A0d) (B3l A0d)) rfl (.inl rfl)⟩ (rq1 (rq7 (A4a rfl T.dj (A0a (pv 9) A0c)) (A0k (i:=11) A0t.nd rfl (.inl rfl)) (rq1 (rq6 6 A0t.nd (pcl Gd6 W T.kq (A0a (pcl Gd3 W T.bc (A0a (pv 0) (A0a A0d A0c))) (A0a (pv 11) A0c)))) (rq1 ⟨@A3f _ _ 12 _ _ _ _ A0t.nd rfl (.inr rfl) (pcl Gd9 W T.fm (A0a (pv 6) (A0a (pv 3) (A0a (pv 2) (A0a (A1f A1n (@A1r _ _ _ _ (A0a A0d (A0a A0d A0c))) (A2k B9k (by rfl) T.Av PyProof.Rows.boot_int (A0a (D0h A8h (C3l hu (pv 2) (A1f A1n (pv 1) A0d (λ_ _=>rfl)) A0d ⟨rfl,rfl,rfl,rfl⟩) A0d (A1b _)) A0c)) (λ_ _=>rfl)) A0c))))) rfl (.inl rfl)⟩ (rq1 (rq6 13 A0t.nd (A0q (C8p rfl) (by rfl) T.AG PyProof.Rows.boot_min (A0a A0d (A0a (A0q (C9y rfl) (by rfl) T.AL PyProof.Rows.boot_max (A0a A0d (A0a (A0j A1o A0d (pcl Gc6 W T.kl (A0a (pv 12) (A0a (pv 2) A0c)))) A0c))) A0c)))) (rq1 (rq6 15 A0t.nd (B2q C6u (B9n (N':=["_law_axis","_law_axes"]) (ix:=(List.replicate 1 none++[some 12])) (tc:=C0k (tOp (rIn K true) (C6p 0) (C6p 1))) rfl (A7k (x:="_law_axes") rfl rfl rfl (by decide +kernel) (by decide +kernel)) (A5q (N0:=["_law_axis"]) rfl (.inl rfl) (by walk_at "ix")) (A2c (pcl Gd9 W T.fm (A0a (A0j A1o (pv 6) (A0j A6v A0d A0d)) (A0a (pv 3) (A0a (pv 2) (A0a (pv 13) A0c)))))) (λ_ _ _ _=>(A0k (i:=0) C9j rfl (.inl rfl))) (λ_ _ _ _=>(A0p A6d (pv 0) (pv 1) (by with_unfolding_all rfl))) (λ_ _ _ _=>(pv 0))) C1l (B3l A0d))) (rq1 (rq6 16 A0t.nd (A1z (A0a (A2k A4z (by rfl) T.ib Z1o (A0a (pv 4) A0c)) (A0a (pv 2) (A0a (A1z (A0a (A1f A1n (pv 1) (A0j A2h A0d (pv 11)) (λ_ _=>rfl)) (A0a (pv 12) A0c))) A0c))))) (rq1 (rq6 17 A0t.nd (pcl Ge0 W T.ph (A0a (A4r (N':=["_law_k","_law_cells"]) (ix:=(List.replicate 1 none++[some 10])) rfl (A7k (x:="_law_cells") rfl rfl rfl (by decide +kernel) (by decide +kernel)) (A5q (N0:=["_law_k"]) rfl (.inl rfl) (by walk_at "ix")) (B9y rfl T.dj (A0a (pv 11) (A0a (A0q A0y (by rfl) T.ce Z0r (A0a (pv 10) A0c)) (A0a (pv 9) A0c)))) (λ_ _ _ _=>(A0k (i:=0) C9k rfl (.inl rfl))) (λ_ _ _ _=>(A1f (D1u (K:=K) rfl) (pv 1) (pv 0) (λ_ _=>rfl)))) (A0a (A0j B0e (pv 12) (pv 15)) (A0a (pv 16) (A0a (A0j A1o A0d (A0j A2h A0d (A0j A1o (pv 9) A0d))) A0c)))))) (rq1 (rq7 (C6w rfl T.py (A0a (pv 15) A0c)) (A0k (i:=14) A0t.nd rfl (.inl rfl)) (rq3 (rq6 17 A0t.nd (A1z (A0a A1w (A0a (pv 14) (A0a (pv 17) A0c))))))) (rq1 ⟨A2r (A6y Z0k Z0n Z0o A2e (pv 8) (A0a (A1z (A0a (A1f A1n (pv 1) (A0j A2h A0d (pv 11)) (λ_ _=>rfl)) (A0a (pv 12) (A0a (pv 17) A0c)))) A0c))⟩ (rq3 ⟨A2r (A6y Z0k Z0n Z0o A2e (pv 4) (A0a (A1z (A0a (A1f A1n (pv 1) (A0j A2h A0d (pv 11)) (λ_ _=>rfl)) (A0a (pv 12) A0c))) A0c))⟩)))))))))) (rq1 (rq6 6 A0t.nd (pcl Gc7 W T.fc (A0a (pcl Gd3 W T.bc (A0a (pv 0) (A0a A0d A0c))) (A0a A0d A0c)))) (rq1 (rq6 18 A0t.nd (A0j A2h A0d (A0j A1j (A0j A1o (pv 6) A0d) (A1f A1n (@A1r _ _ _ _ (A0a A0d (A0a (A0j A3v (A0j A6v A0d A0d) A0d) (A0a (A0j A3v (A0j A6v A0d A0d) A0d) (A0a (A0j A6v A0d A0d) A0c))))) (A0j A1j (pv 6) A0d) (λ_ _=>rfl))))) (rq3 (rq5 (A1z (A0a (pv 18) (A0a (pv 2) (A0a (pv 7) (A0a (pv 8) (A0a (@A1r _ _ _ _ (A0a (A1f A1h (A1f A1n (pv 4) (B6b B0j A0d) (λ_ _=>rfl)) A0d (λ_ _=>rfl)) A0c)) A0c)))))))))))))))))))))) ?_;refine i0x _ rfl a ns 0 rfl hS (by decide) λc0=>(i0x _ rfl a ns 1 rfl hS (by decide) λc1=>(i07 c0 c1 rfl λnl J H1 u3 s1 h1 u7 hn nd ng=> ?_));refine i1b _ rfl _ rfl a nl ns J rfl (s1.seq hS) h1 (by lia) nd λd ax H2 hd s2 h2 j8 o7 p6 p0=> ?_;have k9:AxL ax:=(i04 p6 (by rw [j8];exact λx hx=>hn x (Z2p hx)) (by rw [j8];exact nd.sublist (Z2o _ _)) o7);refine i0o _ rfl d _ rfl h2 λgl o0=> ?_;have d0:upd H2 gl (.lst ((A2g ax).map λp=>kV p.1)) gl=some (.lst ((ax.map (·.1)).map V.str)):=by rw [A0b];unfold A2g;rw [List.map_map,List.map_map];rfl
  have sg:=A0e (o:= .lst ((A2g ax).map λp=>kV p.1)) o0;have s3:=(s1.trans s2).trans sg;have O:=sg _ _ h2;have a5:=sg _ _ (s2 _ _ h1);generalize upd H2 gl (.lst ((A2g ax).map λp=>kV p.1))=H3 at d0 s3 O a5;clear sg;have L:=D9x O k9;have f5:(ax.map (·.1)).length<=1000:=by rw [Z08];lia
  refine ⟨A0v rfl,λg c5=> ?_⟩;refine ⟨A0v rfl,λzl p1=> ?_⟩;have sZ:=A0e (o:= .lst [.int 0,.int 1,.int 2,.int 3,.int 1,.int 2,.int 6]) p1;have g7:=(A0e (o:= .lst []) c5).trans sZ;have i3:=sZ _ _ (A0b (H:=H3) (a:=g) (o:= .lst []));refine i0x _ rfl a ns 3 rfl ((s3.trans g7).seq hS) (by decide) λc3=> ?_;obtain ⟨m,m6,em⟩:=C1x (xs:=[0,1,2,3,1,2,6]) (i:=c3%7) (b:=6) (by lia) (by show c3%7<7;lia) (by decide);refine i0m _ _ rfl rfl E4t (i0y zl _ _ _ rfl rfl (SqL.of A0b) em (i0c _ rfl (by lia) (by lia) ?_));generalize upd (upd H3 g (.lst [])) zl (.lst [.int 0,.int 1,.int 2,.int 3,.int 1,.int 2,.int 6])=H4 at g7 i3;clear sZ
  refine A4k (n:=((m:Nat):Int).toNat) (λi Z G=>∃(o5 o6:Option V) (B:List V) (es:List (Str×List Str)),Z=[Sro a,Sro nl,Sro d,Sro gl,Sro g,o5,o6,none,none,none,none,none,none,none,none,none,none,none,none]/\A0u H3 G/\G g=some (.lst B)/\Paired (D1b (A0s (λb=>b≠g) G) (A2g ax)) B es/\es.length=i/\es.map (·.1)=(J.drop 8).take i)
   (i10 none none [] [] rfl g7 i3 .nil rfl rfl) ?_ ?_
  ·rintro i Z G hi ⟨o5,o6,B,es,rfl,X,hG,pG,lG,nG⟩;refine B2x ?_;intro D';rw [Int.toNat_natCast] at hi;rw [Int.zero_add];have U:J[8+i]? =some J[8+i]:=Z0b (by lia);have ey:atI (J.map V.str) (8+(i:Int))=some (.str J[8+i]):=A3m (j:=8+i) (by rw [Z1z,U];rfl);have ny:=(hn _ (Z13 U)).1.1;have oy:=(hn _ (Z13 U)).1.2;refine i0x _ rfl a ns 3 rfl ((s3.trans X).seq hS) (by decide) λc=>(i0s _ rfl c (i:Int) rfl (by lia) (by lia) λr=> ?_);refine i06 _ rfl (.inl (i01 rfl _ (SqL.of hG))) (i0w _ rfl _ rfl _ _ rfl rfl (i0y nl _ _ _ rfl rfl (SqL.of (X _ _ a5)) ey (i02 _ rfl (i0e _ rfl _ rfl ⟨r,(i14 60 gl d (ax.map (·.1)) (A2g ax) rfl (X _ _ d0) f5 (X _ _ O) L.dk λl ys G2 hl b9 p4 a2 l3 pm _=>⟨A0v rfl,λq hq=> ?_⟩)⟩))));have sT:=A0e (o:= .tup [.str J[8+i],.ref l]) hq;have eT:upd G2 q (.tup [.str J[8+i],.ref l]) q=some (.tup [.str J[8+i],.ref l]):=A0b;have i5:=hq;generalize upd G2 q (.tup [.str J[8+i],.ref l])=G5 at sT eT;have g2:=b9.trans sT;have q5:=Paired.length pG;refine i0u g _ _ rfl rfl (g2 _ _ hG) (A1l (by lia)) ?_;have q1:q≠g:=λe=>by rw [e,b9 _ _ hG] at i5;cases i5
   have l1:l≠g:=λe=>by rw [e,hG] at hl;cases hl
   refine i10 _ _ (B++[.ref q]) (es++[(J[8+i],ys)]) rfl (A0o (X.trans g2) c5) A0b (B2p (Paired.mapP pG λv e z=>z.same (A2i (A0g g2) λq=>q rfl)) (.cons (i0t q l rfl (A0h q1 (by rw [A0i q1];exact eT)) (A0h l1 (by rw [A0i l1];exact sT _ _ p4)) ⟨by show J[8+i].length<=60;lia,oy⟩ l3 ⟨λy hy=>L.hn y (a2 y hy),λy hy=>L.dk y (a2 y hy)⟩) .nil)) (by simp [lG]) (by rw [Z0s,nG,Z14,List.getElem?_drop,U];rfl)
  rintro Z G ⟨o5,o6,N,tb,rfl,X,hG,pG,lG,nG⟩;rw [Int.toNat_natCast] at lG nG;have u1:tb.length<=6:=by lia
  refine i0o _ rfl g _ rfl (.inl (SqL.of hG)) λtl e5=> ?_;refine ⟨A0v rfl,λC d8=> ?_⟩;refine ⟨A0v rfl,λz9 q4=> ?_⟩;have g3:=A0e (o:= .lst N) e5;have f6:=A0e (o:= .lst []) d8;have d4:=A0e (o:= .lst [.int 0,.int 1,.int 2,.int 3,.int 4,.int 1,.int 2,.int 3,.int 8]) q4;have a0:=g3.trans (f6.trans d4);have a9:=d4 _ _ (f6 _ _ (A0b (H:=G) (a:=tl) (o:= .lst N)));have a8:=d4 _ _ (A0b (H:=upd G tl (.lst N)) (a:=C) (o:= .lst []));have d3:G C=none:=g3.free d8;refine i0x _ rfl a ns 4 rfl ((s3.trans (X.trans a0)).seq hS) (by decide) λc4=> ?_;obtain ⟨m2,m3,i7⟩:=C1x (xs:=[0,1,2,3,4,1,2,3,8]) (i:=c4%9) (b:=8) (by lia) (by show c4%9<9;lia) (by decide);refine i0m _ _ rfl rfl z_90 (i0y z9 _ _ _ rfl rfl (SqL.of A0b) i7 ?_);have n2:tl≠g:=λe=>by rw [e,hG] at e5;cases e5
  have o4:tl≠C:=λe=>by rw [<-e,A0b] at d8;cases d8
  generalize upd (upd (upd G tl (.lst N)) C (.lst [])) z9 (.lst [.int 0,.int 1,.int 2,.int 3,.int 4,.int 1,.int 2,.int 3,.int 8])=H5 at a0 a9 a8;clear g3 f6 d4;have t0:=Paired.length pG;refine i02 (λZ G'=>H5=G'/\∃m:Nat,Z=[Sro a,Sro nl,Sro d,Sro gl,Sro g,o5,o6,Sro tl,Sro C,Sio (m:Int),none,none,none,none,none,none,none,none,none]/\m<=8/\1<=tb.length+m) ?_ ?_
  ·refine B3n (d1:=decide (V.int (m2:Int)=V.int 0)) (d2:=decide (V.int (N.length:Int)=V.int 0)) (λQ' q=>(i0j _ rfl rfl _ rfl q)) (λQ' q=>(i0o _ rfl tl _ rfl (.inl (SqL.of a9)) (i05 rfl _ rfl q))) ?_
   cases hb:(decide (V.int (m2:Int)=V.int 0)&&decide (V.int (N.length:Int)=V.int 0)) with
   | true=>exact A5u ⟨rfl,(i06 1 rfl (by decide) (by lia))⟩
   | false =>
    refine A2m ⟨rfl,(i06 m2 rfl m3 ?_)⟩;by_cases z:m2=0
    ·by_cases z2:N.length=0
     ·rw [z,z2] at hb;exact absurd hb (by decide)
     ·lia
    ·lia
  rintro Z G' ⟨rfl,m,rfl,m8,mt⟩;have d9:∃m0,m0<=6/\tb.map (·.1)=(J.drop 8).take m0:=(i02 _ m6 nG);clear nG m6 em c3 m3 i7 c4 m2;obtain ⟨zs,i1,u4,_⟩:=D7j V.int ns (some 8) (some 71)
  have s0:zs.length<=71:=by
   have:=E4m (ns.map V.int) (some 8) 71;rw [show (some ((71:Nat):Int))=some (71:Int) from rfl,i1,Z08] at this;exact this
  refine i12 _ rfl _ rfl _ rfl a _ rfl ((s3.trans (X.trans a0)).seq hS) λcl a4=> ?_;rw [i1];have sC:=A0e (o:= .lst (zs.map V.int)) a4;have eC:upd H5 cl (.lst (zs.map V.int)) cl=some (.lst (zs.map V.int)):=A0b;have d6:=a0 _ _ hG;have c1:cl≠g:=λe=>by rw [e,d6] at a4;cases a4
  have c2:cl≠C:=λe=>by rw [e,a8] at a4;cases a4
  generalize upd H5 cl (.lst (zs.map V.int))=HB at sC eC;have a0:=a0.trans sC;have a9:=sC _ _ a9;have a8:=sC _ _ a8;have d6:=sC _ _ d6;clear sC a4;have p9:A0s (S2P g C) HB cl=some (.lst (zs.map V.int)):=A0h ⟨c1,c2⟩ eC;have p3:A0s (S2P g C) HB tl=some (.lst N):=A0h ⟨n2,o4⟩ a9;have m4:∀b o,G b=some o->b≠g->S2P g C b:=λb o hb h=>⟨h,λe=>by rw [e,d3] at hb;cases hb⟩;have pB:Paired (D1b (A0s (S2P g C) HB) (A2g ax)) N tb:=Paired.mapP pG λv e z=>z.same (A2x a0 m4);have q7:=X.trans a0;have p5:H3 C=none:=X.free d3;clear pG m4;refine i0k _ rfl _ rfl (by lia) ⟨by lia,?_⟩
  refine A4k (n:=((m:Nat):Int).toNat) (λi Z G=>∃(o5 o6 h7 h3 i0 b2 h0 h6 g9:Option V) (B M:List V) (es:List (Str×List Str)) (Y:List Lt),Z=[Sro a,Sro nl,Sro d,Sro gl,Sro g,o5,o6,Sro tl,Sro C,Sio (m:Int),Sro cl,h7,h3,i0,b2,h0,h6,g9,none]/\A0u H3 G/\A0u (A0s (S2P g C) HB) (A0s (S2P g C) G)/\G g=some (.lst B)/\Paired (D1b (A0s (S2P g C) G) (A2g ax)) B es/\es=tb++C6c Y/\G C=some (.lst M)/\Paired (E0j (A0s (S2P g C) G)) M Y/\Y.length=i/\(∀e∈Y,E2f (A2g ax) e)/\(∀(j:Nat) (e:Lt),Y[j]? =some e->LtS (A2g ax) (ax.map (·.1)) (tb++C6c (Y.take j)) e)/\Y.map (·.1)=(J.drop 14).take i)
   (i11 o5 o6 none none none none none none none (i10 N [] tb [] rfl q7 (A0u.refl _) d6 pB ⟨(Z0u _).symm,(i0h a8 .nil rfl (λe R=>by cases R) (λj e R=>by cases R) rfl)⟩)) ?_ ?_
  ·clear o5 o6;rintro i Z G hi zz;refine e0h zz ?_;clear zz;rintro o5 o6 h7 h3 i0 b2 h0 h6 g9 B M ⟨es,Y,rfl,X,sS,hA,pA,eA,hL,pL,lL,e8,g1,nL⟩;refine B2x ?_;intro D';rw [Int.toNat_natCast] at hi;have lA:es.length=tb.length+i:=by rw [eA,Z06,Z08,lL]
   rw [Int.zero_add];have U:J[14+i]? =some J[14+i]:=Z0b (by lia);have ey:atI (J.map V.str) (14+(i:Int))=some (.str J[14+i]):=A3m (j:=14+i) (by rw [Z1z,U];rfl);have ny:=(hn _ (Z13 U)).1.1;have oy:=(hn _ (Z13 U)).1.2;have k0:(J.drop 14).take (i+1)=Y.map (·.1)++[J[14+i]]:=by rw [nL,Z14,List.getElem?_drop,U];rfl
   generalize J[14+i]=y at ey ny oy k0;have r5:J[0]? =some J[0]:=Z0b (by lia);have o3:atI (J.map V.str) 0=some (.str J[0]):=A3m (j:=0) (by rw [Z1z,r5];rfl);refine i0x _ rfl a ns 5 rfl ((s3.trans X).seq hS) (by decide) λc=>(i0s _ rfl c (i:Int) rfl (by lia) (by lia) λr=> ?_);refine i02 _ rfl (i0k _ rfl _ rfl (A0v rfl) λz2 n9=> ?_);have sz:=A0e (o:= .lst [.int 12,.int 60]) n9;have m1:upd G z2 (.lst [.int 12,.int 60]) z2=some (.lst [.int 12,.int 60]):=A0b;generalize upd G z2 (.lst [.int 12,.int 60])=G1 at sz m1;have t1:=X.trans sz;obtain ⟨g0,q8⟩:=D1y (ax:=ax) (k:=Sum.inr J[0])
   obtain ⟨b,eb⟩:∃b:Int,atI [V.int 12,V.int 60] (if decide ((4:Int)<g0)=true then 1 else 0)=some (.int b):=by
    cases decide ((4:Int)<g0) with
    | true=>exact ⟨60,rfl⟩
    | false=>exact ⟨12,rfl⟩
   refine i0k _ rfl d rfl (.inl ⟨_,.inl (t1 _ _ O)⟩) (i13 _ rfl nl _ _ _ rfl rfl (SqL.of (t1 _ _ a5)) o3 (i0o _ (A9g.k (k:=Sum.inr J[0]) (t1 _ _ O)) g0 _ q8 rfl (.inr (i13 _ rfl z2 _ _ _ rfl rfl (SqL.of m1) eb ?_))));refine ⟨r,(i14 b gl d (ax.map (·.1)) (A2g ax) rfl (t1 _ _ d0) f5 (t1 _ _ O) L.dk λxl ys G2 c8 l5 g8 a2 l3 pm yn=> ?_)⟩;have t2:=t1.trans l5;have b6:B0d (A2g ax) ys:=λy hy=>L.dk y (a2 y hy);have d5:NmS ys:=λy hy=>L.hn y (a2 y hy);refine i17 _ rfl _ rfl xl d ys (A2g ax) rfl g8 (t2 _ _ O) b6 λzz z1 mo=> ?_;have zb:=(mo.le b6).2;have s5:=E0x (n:=ys.length) (by lia);refine i0f _ _ rfl rfl (i0b ⟨by lia,by lia⟩ _ _ rfl (i07 _ _ rfl ?_));refine i18 _ rfl _ _ rfl rfl (i00 (by decide) (by decide) (by decide)) _ _ rfl rfl ⟨by decide +kernel,by decide +kernel⟩ (i02 _ rfl (i0e _ rfl _ rfl ⟨_,(i14 _ gl d (ax.map (·.1)) (A2g ax) rfl (t2 _ _ d0) f5 (t2 _ _ O) L.dk λcs f7 G3 s6 c9 i4 l4 s7 _ o9=>(i06 cs rfl ⟨_,SqL.of i4⟩ λD hD=> ?_))⟩));have t3:=t2.trans c9
   refine A9u (K:=K) (a:=cs) (D:=D) (xs:=f7.map V.str) (λi zs H3=>A0u G3 H3/\H3 D=some (.lst zs)/\∃I:List Str,zs=I.map V.str/\I.length<=i/\I.Sublist (f7.take i)/\∀y∈I,y∉ys)
    (i00 (A0e hD) A0b (i0c [] rfl (Z09 _) (List.nil_sublist _) (by intro y hy;cases hy))) (λi zs H3 s3=>SqL.of (s3.1 _ _ i4)) ?_ ?_
   ·rintro i x zs H3 hx ⟨s3,j2,I,rfl,s8,a7,j5⟩;obtain ⟨y,hy,rfl⟩:=A6j hx;have hi:i<f7.length:=(Z03.mp hy).1;refine ⟨⟨rfl,True.intro⟩,(i0w _ rfl _ rfl xl _ rfl (.inl (SqL.of (s3 _ _ (c9 _ _ g8)))) (i0a rfl (A7b ys) _ rfl ?_))⟩;show if (! inV (V.str y) (ys.map V.str))=true then _ else _
    rw [B1m];refine D8c (λn1=> ?_) (λ_=>(i00 s3 j2 (i0c I rfl (by lia) (a7.trans (by rw [Z14];exact List.sublist_append_left _ _)) j5)));refine ⟨_,(i0h rfl j2 (A1l (by rw [Z08];lia)) (A0o s3 hD) A0b (i0c (I++[y]) (by simp) (by simp;lia) ?_ (A6c j5 n1)))⟩;rw [Z14,hy];exact a7.append (List.Sublist.refl _)
   rintro u2 G4 ⟨f3,o1,k7,rfl,r9,b8,m7⟩;rw [Z08,Z18] at b8;have t4:=t3.trans f3;obtain ⟨I,l6,a7⟩:=D6q V.str k7 none (some 2);have d7:∀x∈I,x∈ax.map (·.1):=λx hx=>l4 x (b8.mem (a7.mem hx));have n5:(ys++I).Nodup:=Z0l.mpr (i00 yn (o9.sublist (a7.trans b8)) λa ha b hb z=>m7 b (a7.mem hb) (z▸ha))
   have s4:I.length<=2:=by
    have:=E4m (k7.map V.str) none 2;rw [show (some ((2:Nat):Int))=some (2:Int) from rfl,l6,Z08] at this;exact this
   refine i0o _ rfl D _ rfl (SqL.of o1) λsl r3=> ?_;rw [l6];have e3:=A0e (o:= .lst (I.map V.str)) r3;have k8:upd G4 sl (.lst (I.map V.str)) sl=some (.lst (I.map V.str)):=A0b;generalize upd G4 sl (.lst (I.map V.str))=G5 at e3 k8;have t5:=t4.trans e3;have x5:=e3 _ _ (f3 _ _ (c9 _ _ g8));have m9:=sz.trans (l5.trans (c9.trans (f3.trans e3)));refine i0o _ rfl g _ rfl (.inl (SqL.of (m9 _ _ hA))) λcp p7=> ?_;have b1:=A0e (o:= .lst B) p7;have j7:upd G5 cp (.lst B) cp=some (.lst B):=A0b;generalize upd G5 cp (.lst B)=G6 at b1 j7;have t6:=t5.trans b1;refine i12 _ rfl _ rfl _ rfl _ _ rfl rfl (i0y nl _ _ _ rfl rfl (SqL.of (t6 _ _ a5)) ey (i06 _ rfl (A0v rfl) λot q3=>⟨A0v rfl,λbk q9=> ?_⟩));have k5:=A0e (o:= .tup [.str y,.ref xl]) q3;have f0:=A0e (o:= .tup [.ref cp,.ref d,.ref ot]) q9;have l9:=f0 _ _ (A0b (H:=G6) (a:=ot) (o:= .tup [.str y,.ref xl]));have k3:upd (upd G6 ot (.tup [.str y,.ref xl])) bk (.tup [.ref cp,.ref d,.ref ot]) bk=some (.tup [.ref cp,.ref d,.ref ot]):=A0b;have a3:=k5.trans f0;generalize upd (upd G6 ot (.tup [.str y,.ref xl])) bk (.tup [.ref cp,.ref d,.ref ot])=G8 at a3 l9 k3;clear k5 f0;have t8:=t6.trans a3;have l8:=m9.trans (b1.trans a3);have e4:G8 cl=some (.lst (zs.map V.int)):=l8 _ _ (A0m _ _ (sS _ _ p9));refine i0e _ rfl _ rfl (i0q cl _ rfl (.inl (SqL.of e4)) _ rfl (i0n (i:Int) _ (m:Int) rfl (i0h (by lia) (by lia) (by lia) (by rw [Z08];lia) (by lia) (by lia)) λF hF=> ?_));refine B2v (D:=F) (Builtin.Range.rangeSize (i:Int) ((zs.map V.int).length:Int) (m:Int)).toNat (λj ys H3=>A0u G8 H3/\H3 F=some (.lst ys)/\j<=(Builtin.Range.rangeSize (i:Int) ((zs.map V.int).length:Int) (m:Int)).toNat/\∃qs:List Int,ys=qs.map V.int/\qs.length=j) ⟨A0e hF,(i0a A0b (Z1e _) [] rfl rfl)⟩ (λi ys H3 hi _=>hi) (λys H3 _=>rfl) ?_ ?_
   ·rintro j r6 t7 hj ⟨j9,n8,_,qs,rfl,j3⟩ x s9 ⟨rfl,rfl⟩;refine C5y ?_;intro N';have lt:=D6g (by lia) hj;have mj:0<=(j:Int)*(m:Int):=Int.mul_nonneg (by lia) (by lia);obtain ⟨z,_,ez⟩:=A6n (f:=V.int) (xs:=zs) (i:=(i:Int)+(j:Int)*(m:Int)) (by lia) (by rw [Z08] at lt;exact lt);have u8:=(D5g (a:=(i:Int)) (b:=((zs.map V.int).length:Int)) (c:=(m:Int)) (i0h (by lia) (by lia) (by lia) (by rw [Z08];lia) (by lia) (by lia))).2;refine ⟨⟨rfl,True.intro⟩,(i17 _ rfl _ rfl cl _ _ _ rfl rfl (SqL.of (j9 _ _ e4)) ez (i04 n8 (A1l (by rw [Z08];lia)) (A0o j9 hF) (i0a A0b hj (qs++[z]) (by simp) (by simp [j3]))))⟩
   rintro r6 G9 ⟨b4,n3,_,qs,rfl,j3⟩;have t9:=t8.trans b4;have r8:=l8.trans b4;have x9:=b4 _ _ (a3 _ _ (b1 _ _ x5));have y9:=b4 _ _ (a3 _ _ (b1 _ _ k8));refine i1b _ rfl _ rfl xl sl _ _ rfl rfl x9 y9 (A2a (by rw [Z08,Z08];lia)) λsc r1=> ?_;have a1:=A0e (o:= .lst (ys.map V.str++I.map V.str)) r1;have l2:upd G9 sc (.lst (ys.map V.str++I.map V.str)) sc=some (.lst ((ys++I).map V.str)):=by rw [A0b,Z0s]
   generalize upd G9 sc (.lst (ys.map V.str++I.map V.str))=Ga at a1 l2;have ta:=t9.trans a1;have g4:=r8.trans a1;have e6:=b4.trans a1;have m5:0<=(m:Int)/5:=by lia
   refine i0w _ rfl _ rfl _ _ rfl rfl (i0i ⟨by decide,by decide⟩ _ _ rfl rfl (i0m _ _ rfl rfl ⟨by lia,by lia⟩ ?_));have h9:∀{F:Hp},A0u G F->Fr (S2P g C) F:=λ{F} s b hb=>⟨(λe=>by rw [e,s _ _ hA] at hb;cases hb),λe=>by rw [e,s _ _ hL] at hb;cases hb⟩;have q6:Paired (D1b Ga (A2g ax)) B es:=Paired.mapP pA λv e z=>(z.same A0m).same g4;have lm:(120:Int)/(1+(m:Int)/5)<=120:=Int.ediv_le_self _ (by decide);refine i11 F sc bk cp d (.ref ot) (some (y,ys)) _ qs (i14 es (ys++I) (ax.map (·.1)) (A2g ax) (S2P g C) rfl (a1 _ _ n3) (.add l2 d5 b6 (by rw [Z06];lia) L.hn L.dk (λz hz=>d7 z hz)) (by rw [Z06];lia) (e6 _ _ k3) (i00 (i06 B (e6 _ _ (a3 _ _ j7)) q6 (by lia)) (L.same ta) (i0h (.inr (i02 (y,ys) (i0t ot xl rfl (e6 _ _ l9) (a1 _ _ x9) ⟨by show y.length<=60;lia,oy⟩ l3 ⟨d5,b6⟩) rfl)) (λe R x hx=>by cases R;exact Z07.mpr (.inl hx)) (λz hz=>by rcases Z07.mp hz with hz | hz;exact a2 z hz;exact d7 z hz) lm (h9 g4) λtv u Gb e0 rp wu tu du nu lz=> ?_)))
   have l0:=g4.trans e0;have p8:=ta.trans e0;have yb:=e0 _ _ (a1 _ _ y9);refine i0o _ rfl sl _ rfl (SqL.of yb) ?_;obtain ⟨u0,eu0⟩:∃u0,u0=u:=⟨u,rfl⟩;refine C0m (K:=K) (a:=sl) (xs:=I.map V.str) (λj Z Gc=>∃(b2:Option V) (v:V) (u:Tm),Z=[Sro a,Sro nl,Sro d,Sro gl,Sro g,o5,Sio r,Sro tl,Sro C,Sio (m:Int),Sro cl,Sio (i:Int),some (.ref xl),_,b2,Sro sl,Sro bk,some v,none]/\A0u Gb Gc/\Rep (A0s (S2P g C) Gc) v (A1s u)/\TmW u/\TmS u/\dep u<=14+j/\nod u<=120+j/\u=B2u (I.drop (I.length-j)) u0/\TmL (A2g ax) u) (i0r _ tv u rfl (A0u.refl _) rp (i0h wu (D8h _ tu) du nu (by rw [Nat.sub_zero,Z2i,eu0];rfl) tu)) (by rintro j Z Gc ⟨_,_,_,_,sc,_⟩;exact SqL.of (sc _ _ yb)) ?_ ?_
   ·rintro j x Z Gc hj hx ⟨k4,v,u',rfl,i2,h8,g5,f9,j4,i6,b5,f4⟩;refine B2x ?_;intro D';obtain ⟨x0,b3,rfl⟩:=A6j hx;rw [Z08] at b3 hj;have k6:=d7 x0 (Z13 b3);have o8:=L.hn x0 k6;have n0:=(Z03.mp b3).1
    have ed:I.drop (I.length-(j+1))=x0::I.drop (I.length-j):=by
     have e1:I.length-(j+1)=I.length-1-j:=by lia
     have e2:I.length-j=I.length-1-j+1:=by lia
     rw [e1,e2,Z1u n0];rw [Z0b n0] at b3;rw [Z1a b3]
    refine i0k _ rfl _ rfl (A0v rfl) λtp i8=> ?_;have sT:=A0e (o:= .tup [.str "sum",.str x0,v]) i8;exact i0r _ _ (.sum x0 u') rfl (i2.trans sT) (D4j (A0h (h9 (l0.trans i2) tp i8) A0b) (h8.same (A0g sT))) (i0h ⟨o8.1,g5⟩ f9 (by simp only [dep];lia) (by simp only [nod];lia) (by rw [ed,b5];rfl) ⟨λz hz=>by rw [Z0w.mp hz];exact L.dk x0 k6,f4⟩)
   rintro Z Gc ⟨k4,v,u',rfl,f8,h8,g5,f9,j4,i6,b5,f4⟩;rw [Z08] at j4 i6 b5;rw [Nat.sub_self,List.drop_zero] at b5;subst eu0;have h5:=l0.trans f8;have tc:=p8.trans f8;have xc:=f8 _ _ (e0 _ _ (a1 _ _ x9));have u6:=Paired.length pL;have u5:=Paired.length pA;refine i06 _ rfl (.inl (i01 rfl _ (SqL.of (h5 _ _ hL)))) (i0w _ rfl _ rfl _ _ rfl rfl (i0y nl _ _ _ rfl rfl (SqL.of (tc _ _ a5)) ey (i0k _ rfl _ rfl (A0v rfl) λq1 j0=> ?_)));have a6:=A0e (o:= .tup [.str y,.ref xl,v]) j0;have j6:upd Gc q1 (.tup [.str y,.ref xl,v]) q1=some (.tup [.str y,.ref xl,v]):=A0b;have Sq1:=h9 h5 q1 j0;generalize upd Gc q1 (.tup [.str y,.ref xl,v])=Gd at a6 j6;have g6:=h5.trans a6;have td:=tc.trans a6;have r4:=g6 _ _ hL;have o2:=g6 _ _ hA;have Sxl:S2P g C xl:=⟨(λe=>by rw [e,sz _ _ hA] at c8;cases c8),λe=>by rw [e,sz _ _ hL] at c8;cases c8⟩;have la:C≠g:=λe=>by rw [e,hG] at d3;cases d3
   refine i0u C _ _ rfl rfl r4 (A1l (by lia)) ?_;have k1:A0u (A0s (S2P g C) Gd) (A0s (S2P g C) (upd Gd C (.lst (M++[.ref q1])))):=A2i (A0u.refl _) λz=>z.2 rfl;have te:A0u H3 (upd Gd C (.lst (M++[.ref q1]))):=A0o td p5;have c7:upd Gd C (.lst (M++[.ref q1])) g=some (.lst B):=by rw [A0i la.symm];exact o2
   have e7:upd Gd C (.lst (M++[.ref q1])) C=some (.lst (M++[.ref q1])):=A0b;generalize upd Gd C (.lst (M++[.ref q1]))=Ge at k1 te c7 e7;have r0:∀b,Ge b=none->S2P g C b:=λb hb=>⟨(λe=>by rw [e,c7] at hb;cases hb),λe=>by rw [e,e7] at hb;cases hb⟩;refine i06 _ rfl (.inl (i01 rfl _ (SqL.of c7))) (i0w _ rfl _ rfl _ _ rfl rfl (i0y nl _ _ _ rfl rfl (SqL.of (te _ _ a5)) ey (i06 _ rfl (A0v rfl) λq2 i9=> ?_)));have b7:=A0e (o:= .tup [.str y,.ref xl]) i9;have l7:upd Ge q2 (.tup [.str y,.ref xl]) q2=some (.tup [.str y,.ref xl]):=A0b;have Sq2:=r0 q2 i9;generalize upd Ge q2 (.tup [.str y,.ref xl])=Gf at b7 l7;refine i0u g _ _ rfl rfl (b7 _ _ c7) (A1l (by lia)) ?_;have k2:A0u (A0s (S2P g C) Gd) (A0s (S2P g C) (upd Gf g (.lst (B++[.ref q2])))):=A2i (k1.trans (A0g b7)) λz=>z.1 rfl;have kG:=(A0g (S:=S2P g C) g6).trans k2;refine i11 _ _ _ _ _ _ _ _ _ (i10 (B++[.ref q2]) (M++[.ref q1]) (es++[(y,ys)]) (Y++[(y,ys,u')]) rfl (A0o (te.trans b7) c5) (sS.trans kG) A0b (B2p (Paired.mapP pA λv e z=>z.same kG) (.cons (i0t q2 xl rfl (A0h Sq2 (by rw [A0i Sq2.1];exact l7)) (k2 _ _ (A0h Sxl (a6 _ _ xc))) ⟨by show y.length<=60;lia,oy⟩ l3 ⟨d5,b6⟩) .nil)) ⟨by rw [eA];show _=tb++(Y++[(y,ys,u')]).map _;rw [Z0s,Z0z];rfl,(i0h (by rw [A0i la];exact b7 _ _ e7) (B2p (Paired.mapP pL λv e z=>z.same kG) (.cons (i0r q1 xl v rfl (k2 _ _ (A0h Sq1 j6)) (k2 _ _ (A0h Sxl (a6 _ _ xc))) ((h8.same (A0g a6)).same k2)) .nil)) (by rw [Z06,lL];rfl) (λe R=> ?_) (λj e R=> ?_) (by rw [Z0s,k0];rfl))⟩)
   ·rcases Z07.mp R with R | R
    ·exact e8 e R
    ·rw [Z0w.mp R];exact ⟨oy,by show y.length<=60;lia,l3,d5,g5,f9,by show dep u'<=16;lia,by show nod u'<=122;lia⟩
   ·by_cases hj:j<Y.length
    ·rw [Z26 hj] at R;rw [List.take_append_of_le_length (by lia)];exact g1 j e R
    ·have n7:j=Y.length:=by
      have:=(Z03.mp R).1;simp at this
      lia
     subst n7;rw [Z1l (Z09 _)] at R;simp at R;subst R;rw [List.take_append_of_le_length (Z09 _),Z18,<-eA];exact ⟨(i0m I u0 b5 n5 (λz hz=>by rcases Z07.mp hz with hz | hz;exact a2 z hz;exact d7 z hz) lz),f4⟩
  clear o5 o6;rintro Z G zz;refine e0h zz ?_;clear zz;rintro o5 o6 h7 h3 i0 b2 h0 h6 g9 B M ⟨es,Y,rfl,X,sS,hA,pA,eA,hL,pL,lL,e8,g1,nL⟩;rw [Int.toNat_natCast] at lL nL;have lA:es.length=tb.length+m:=by rw [eA,Z06,Z08,lL]
  obtain ⟨m0,n4,d9⟩:=d9;have q0:(tb.map (·.1)++Y.map (·.1)).Nodup:=by rw [d9,nL];exact D6k n4 nd
  have r7:∀x∈tb.map (·.1)++Y.map (·.1),NmG x:=λx hx=>by
   rw [d9,nL] at hx;rcases Z07.mp hx with h | h
   ·exact ng x (List.mem_of_mem_drop (Z2p h))
   ·exact ng x (List.mem_of_mem_drop (Z2p h))
  refine i0x _ rfl a ns 6 rfl ((s3.trans X).seq hS) (by decide) λc6=>(i0m c6 1 rfl (by decide) (by decide) λr=> ?_)
  obtain ⟨b,b0,b31,eb⟩:∃b:Int,0<b/\b<=10^30/\atI [V.int 20,V.int ((10:Int)^(30:Int).toNat-2),V.int ((10:Int)^(30:Int).toNat-2),V.int ((10:Int)^(9:Int).toNat)] (r%4)=some (.int b):=by
   have h4:r%4=0\/r%4=1\/r%4=2\/r%4=3:=by lia
   have j1:(0:Int)<(10:Int)^(30:Int).toNat-2:=by decide +kernel
   have e9:(0:Int)<(10:Int)^(9:Int).toNat:=by decide +kernel
   rcases h4 with e | e | e | e <;> rw [e]
   ·exact i06 _ (by decide) (by decide +kernel) rfl
   ·exact i06 _ j1 (by decide +kernel) rfl
   ·exact i06 _ j1 (by decide +kernel) rfl
   ·exact i06 _ e9 (by decide +kernel) rfl
  refine i18 _ rfl _ _ rfl rfl ⟨by decide,by decide⟩ _ _ rfl rfl (i00 (by decide) (by decide) (by decide)) (i07 _ _ rfl (i0i rfl _ _ rfl rfl (i0i (i00 (by decide) (by decide) (by decide)) _ _ rfl rfl (i0p _ _ rfl rfl (i00 (by decide) (by decide) (by decide)) (A0v rfl) λwl n6=> ?_))));have sw:=A0e (o:= .lst [V.int 20,V.int ((10:Int)^(30:Int).toNat-2),V.int ((10:Int)^(30:Int).toNat-2),V.int ((10:Int)^(9:Int).toNat)]) n6;refine i0s _ rfl _ _ rfl rfl D9o (i0y wl _ _ _ rfl rfl (SqL.of A0b) eb (i0f _ _ rfl rfl (i0i b0 _ _ rfl rfl ?_)));generalize upd G wl (.lst [V.int 20,V.int ((10:Int)^(30:Int).toNat-2),V.int ((10:Int)^(30:Int).toNat-2),V.int ((10:Int)^(9:Int).toNat)])=G1 at sw;have q5:=Paired.length pA;obtain ⟨vl,f1,f2⟩:=C3e (xs:=B) (by lia);obtain ⟨e,R,q,al,rfl,hq,u9,_⟩:=B3r pA f1;refine i0e _ rfl _ rfl (i0e _ rfl _ rfl (i17 _ rfl _ rfl g _ _ _ rfl rfl (SqL.of (sw _ _ hA)) f2 (i10 q _ _ _ rfl rfl (SqT.of (sw _ _ (A0m _ _ hq))) rfl (A0v rfl) λol r2=>⟨A0v rfl,λp hp=> ?_⟩)));have p2:=A0e (o:= .lst [.str e.1]) r2;have b9:=A0e (o:= .tup [.int (2+r/4%b),.ref d,.ref tl,.ref C,.ref ol]) hp;have sE:=sw.trans (p2.trans b9);refine k p ax tb Y _ (s3.trans (X.trans sE)) ⟨(i08 (2+r/4%b) d tl (i14 C ol N M e.1 A0b (sE _ _ (X _ _ O)) (sE _ _ (A0m _ _ (sS _ _ p3))) (Paired.mapP pB λv e z=>((z.same sS).same A0m).same sE) (sE _ _ hL) ⟨Paired.mapP pL λv e z=>(z.same A0m).same sE,b9 _ _ A0b⟩)),k9,by lia,by lia,e8,g1,q0,r7,p0,λwh r' e'=> ?_⟩;have e':=e';rw [A0b] at e';cases e';have z1:=Z1v (r/4) (show b≠0 by lia);have z2:=Z1p (r/4) b0;have z3:(10:Int)^30+2<=10^31:=by decide +kernel
  lia
theorem E0q (n:Nat):(sN n).cps.toList=115::M84.figs n:=by
 unfold sN;rw [Str.cps_append,Array.toList_append];have h:(Str.ofString (toString (n:Int))).cps.toList=M84.figs n:=M84.sg_nat n;rw [h];rfl
theorem D4h (h:sN n=sN m):n=m:=by
 have a:=congrArg (λx:Str=>x.cps.toList) h;simp only [E0q] at a;injection a with _ h2;rw [<-M84.figs_val n,<-M84.figs_val m,h2]
theorem D7c (n:Nat):¬NmG (sN n):=λh=>by
 have a:=M84.figs_pos n
 cases e:M84.figs n with
 | nil=>rw [e] at a;simp at a
 | cons c r =>
  have d:=h c (by rw [E0q,e];simp);have b:=M84.figs_dg n c (by rw [e];simp)
  lia
structure NmR (z z':LS):Prop where
 ex:∃c,z'.1=z.1+c/\z'.2.map (·.1)=z.2.map (·.1)++(List.range c).map λi=>sN (z.1+i)
theorem NmR.refl:NmR z z:=⟨0,rfl,by simp⟩
theorem NmR.trans {a b c:LS} (h:NmR a b) (k:NmR b c):NmR a c:=by
 obtain ⟨m,d,f⟩:=h.ex;obtain ⟨n,g,e⟩:=k.ex;refine ⟨m+n,by lia,?_⟩;rw [e,f,Z0z,List.range_add,Z0s,List.map_map,d];congr 2;apply List.map_congr_left;intro i _;show sN (a.1+m+i)=sN (a.1+(m+i));rw [Nat.add_assoc]
theorem B8p {kn:List Str} (h:NmR z r.2):NmR z (fin kn pend g r).2:=by
 cases pend with
 | nil=>exact h
 | cons x s =>
  refine h.trans ⟨1,rfl,?_⟩;show (r.2.2++[lfL kn (x::s) r.2.1 (gdM g r.1)]).map (·.1)=_;rw [Z0s];rfl
theorem C4k {kn:List Str}:∀(u:Tm) (pend:List Str) (g:List Gd) (z:LS),NmR z (wsP kn u pend g z).2
 | .num _,_,_,_=>B8p (r:=(.num _,_)) .refl
 | .place _,_,_,_=>B8p (r:=(.place _,_)) .refl
 | .read _ _,_,_,_=>B8p (r:=(.read _ _,_)) .refl
 | .sum x b,pend,g,z=>C4k b (pend++[x]) g z
 | .pair k l r,pend,g,z=>B8p (r:=(.pair _ _ _,_)) ((C4k l _ _ _).trans (C4k r _ _ _))
 | .guard x lo hi l r,pend,g,z=>B8p (r:=(.guard _ _ _ _ _,_)) ((C4k l _ _ _).trans (C4k r _ _ _))
structure NmI (as:List Str) (z:LS):Prop where
 nd:(z.2.map (·.1)).Nodup
 ex:∀x∈z.2.map (·.1),(∃k,k<z.1/\x=sN k)\/x∈as
theorem NmI.lift {z':LS} (h:NmI as z) (r:NmR z z') (p:∀x∈as,NmG x):NmI as z':=by
 obtain ⟨c,t,m⟩:=r.ex;refine ⟨?_,λx g=> ?_⟩
 ·rw [m];refine Z0l.mpr (i00 h.nd ?_ λa n b s e=> ?_)
  ·exact List.Pairwise.map (f:=λi=>sN (z.1+i)) (λi j (l:i≠j) e=>l (by have:=D4h e;lia)) List.nodup_range
  ·obtain ⟨i,_,rfl⟩:=Z2c.mp s;rcases h.ex a n with ⟨k,q,d⟩ | d
   ·have:=D4h (d.symm.trans e)
    lia
   ·exact D7c _ (e▸p a d)
 ·rw [m] at g;rcases Z07.mp g with g | g
  ·rcases h.ex x g with ⟨k,q,d⟩ | d
   ·exact .inl (i02 k (by lia) d)
   ·exact .inr d
  ·obtain ⟨i,o,rfl⟩:=Z2c.mp g;have:=List.mem_range.mp o;exact .inl (i02 (z.1+i) (by lia) rfl)
theorem C4c:∀(s:List Str) (u:Tm),A3o (B2u s u)=s++A3o u/\inS (B2u s u)=inS u
 | [],u=>⟨rfl,rfl⟩
 | x::s,u=>by
  obtain ⟨b,a⟩:=C4c s u;exact ⟨by show x::A3o (B2u s u)=_;rw [b];rfl,a⟩
theorem C3u {nm:List Str}:∀{u:Tm} {sc:List Str},A6p nm sc u->sc.Nodup->A6p nm (sc++A3o u) (inS u)/\(∀x∈A3o u,x∈nm)/\(sc++A3o u).Nodup
 | .num _,sc,h,n=>(i00 True.intro (λx c=>by cases c) (by show (sc++[]).Nodup;rw [Z0u];exact n))
 | .place x,sc,h,n=>(i00 (by show x∈sc++[];rw [Z0u];exact h) (λx c=>by cases c) (by show (sc++[]).Nodup;rw [Z0u];exact n))
 | .read a ix,sc,h,n=>(i00 (by show A6p nm (sc++[]) (.read a ix);rw [Z0u];exact h) (λx c=>by cases c) (by show (sc++[]).Nodup;rw [Z0u];exact n))
 | .pair k l r,sc,h,n=>(i00 (by show A6p nm (sc++[]) (.pair k l r);rw [Z0u];exact h) (λx c=>by cases c) (by show (sc++[]).Nodup;rw [Z0u];exact n))
 | .guard x lo hi l r,sc,h,n=>(i00 (by show A6p nm (sc++[]) (.guard x lo hi l r);rw [Z0u];exact h) (λx c=>by cases c) (by show (sc++[]).Nodup;rw [Z0u];exact n))
 | .sum x b,sc,h,n=>by
  have o:(sc++[x]).Nodup:=Z0l.mpr (i00 n (by simp) λa g b j=>by rw [Z0w.mp j];intro z;exact h.2.1 (z▸g));obtain ⟨f,m,i⟩:=C3u h.2.2 o;have e:sc++A3o (.sum x b)=sc++[x]++A3o b:=by show sc++(x::A3o b)=_;simp
  rw [e];refine i00 f (λy d=> ?_) i;rcases Z0e.mp (show y∈x::A3o b from d) with rfl | d
  ·exact h.1
  ·exact m y d
theorem C2z {L:Str->Int} {okn d:OkP} {ρ:Env} (e:∀ρ a c,okn ρ a c->d ρ a c):∀{u:Tm},A1y L okn d ρ u->(∀x∈A3o u,0<=ρ x/\ρ x<L x)->A1y L okn d ρ (inS u)
 | .num _,h,_=>h
 | .place _,h,_=>h
 | .read _ _,h,_=>h
 | .pair _ _ _,h,_=>h
 | .guard _ _ _ _ _,h,_=>h
 | .sum x b,h,hr=>by
  have f:=hr x (.head _);have h:=h (ρ x) f.1 f.2;rw [B7x] at h;have g:A1y L okn d ρ b:=A1y.mono e h;show A1y L okn d ρ (inS b);exact C2z e g λy i=>hr y (.tail _ i)
theorem B6s {nm:List Str} {u:Tm}:∀{s sc:List Str},A6p nm (sc++s) u->(sc++s).Nodup->(∀x∈s,x∈nm)->A6p nm sc (B2u s u)
 | [],sc,h,_,_=>by rw [Z0u] at h;exact h
 | x::s,sc,h,n,hs=>by
  have e:sc++x::s=sc++[x]++s:=by simp
  rw [e] at h n;refine i00 (hs x (.head _)) (λa=> ?_) (B6s h n λy b=>hs y (.tail _ b));have:=(Z0l.mp n).1;exact (Z0l.mp this).2.2 x a x (by simp) rfl
structure KnC (lk:List (Key×V)) (nm:List Str):Prop where
 n:∀x∈nm,¬x=("":Str)
 l:∀x∈nm,1<=lnL lk x
 d:nm.Nodup
theorem D1o {nm:List Str} {e:Lt} (c:KnC lk nm) (h:LtS lk nm es e) (A:∀f∈es,f∈tb\/∃l∈z.2,l.1=f.1/\l.2.1=f.2) (M:B9e (lnL lk) tb z.2) :
  B9e (lnL lk) tb (C8f nm e z).2/\(∃ys,(C8f nm e z).2=z.2++ys++[(e.1,e.2.1,A3o e.2.2,(wsP nm (inS e.2.2) [] [] z).1)])/\NmR z (wsP nm (inS e.2.2) [] [] z).2:=by
 obtain ⟨k,u,v,o,m,C⟩:=h.ex;have O:A6p nm e.2.1 e.2.2:=by rw [v];exact B6s C.ti o λx b=>m x (Z07.mpr (.inr b))
 have B:=(Z0l.mp o).1;obtain ⟨J,G,X⟩:=C3u O B;obtain ⟨H,I⟩:=C4c k u
 have w:∀x∈e.2.1++A3o e.2.2,x∈nm:=λx b=>by
  rcases Z07.mp b with b | b
  ·exact m x (Z07.mpr (.inl b))
  ·exact G x b
 have S:WsC (lnL lk) nm (e.2.1++A3o e.2.2) [] []:=⟨c.n,c.l,λx b=>w x (by rw [Z0u] at b;exact b),λf i=>by cases i⟩
 have D:∀ρ a d,okA (lnL lk) es ρ a d->knM (lnL lk) tb z.2 a d:=λρ a d i=>by
  obtain ⟨f,i,s,t⟩:=i;rcases A f i with q | ⟨l,Q,K,W⟩
  ·exact .inl (i06 f q s t)
  ·exact .inr (i06 l Q (K.trans s) (by rw [W];exact t))
 have T:∀ρ,InR (lnL lk) (e.2.1++A3o e.2.2) ρ->A1y (lnL lk) (okA (lnL lk) es) (okO (lnL lk) es (some (e.1,e.2.1))) ρ (inS e.2.2):=λρ j=>by
  rw [v,I];rw [v,H] at j;refine C2z (λρ a d h=> .inl h) (C.sf ρ ⟨j.1,λx b=>j.2 x ?_⟩) λx b=>j.2 x ?_
  ·rw [<-Z0z];exact Z07.mpr (.inl b)
  ·rw [<-Z0z];exact Z07.mpr (.inr b)
 have g:=C4o (L:=lnL lk) (tb:=tb) (okn:=okA (lnL lk) es) (nm:=nm) (inS e.2.2) (okO (lnL lk) es (some (e.1,e.2.1))) (e.2.1++A3o e.2.2) [] [] z S D (λρ j _=>by rw [Z0u] at j;rw [B3x];exact T ρ j) (by rw [Z0u];exact J) M;have F:=C4k (kn:=nm) (inS e.2.2) [] [] z;obtain ⟨ys,y⟩:=g.pre;have R:(C8f nm e z).2=(wsP nm (inS e.2.2) [] [] z).2.2++[(e.1,e.2.1,A3o e.2.2,(wsP nm (inS e.2.2) [] [] z).1)]:=rfl;rw [R];generalize wsP nm (inS e.2.2) [] [] z=r at g F y;refine i00 (g.all.snoc ⟨g.ns,λU=>B5l g.ns g.ti,λρ j _ p P=> ?_⟩) ⟨ys,by rw [y]⟩ F
 ·rcases g.lk ρ j (λf i=>by cases i) p P with q | q
  ·rcases q with q | ⟨f,i,s,t,N⟩
   ·have:=D ρ _ _ q;rw [y];exact .inl this.mono
   ·cases i
    exact .inr (i00 s t N)
  ·exact .inl q
structure DuI (lk:List (Key×V)) (tb:List (Str×List Str)) (ls:List Lt) (z:LS):Prop where
 al:B9e (lnL lk) tb z.2
 ar:∀f∈C6c ls,∃l∈z.2,l.1=f.1/\l.2.1=f.2
 nm:NmI (ls.map (·.1)) z
theorem D8u {lk:List (Key×V)} {tb:List (Str×List Str)} {nm:List Str} {ls:List Lt} (c:KnC lk nm) (y:∀(j:Nat) (e:Lt),ls[j]? =some e->LtS lk nm (tb++C6c (ls.take j)) e) (nd:(ls.map (·.1)).Nodup) (s:∀x∈ls.map (·.1),NmG x):∀i,i<=ls.length->DuI lk tb (ls.take i) (duP nm (ls.take i))
 | 0,_=>⟨(λi e I=>by cases I),(λf m=>by cases m),⟨.nil,λx d=>by cases d⟩⟩
 | i+1,hi=>by
  have g:ls[i]? =some ls[i]:=Z0b (by lia);have r:=D8u c y nd s i (by lia);have h:=y i _ g;rw [B0g g];have w:ls.take (i+1)=ls.take i++[ls[i]]:=by rw [Z14,g];rfl
  rw [w]
  have p:((ls.take i).map (·.1)++[ls[i].1]).Nodup:=by
   have:=nd.sublist ((Z2o (i+1) ls).map (·.1));rw [w,Z0s] at this;exact this
  have t:∀x∈(ls.take i).map (·.1),NmG x:=λx d=>s x ((Z2o i ls).map (·.1) |>.mem d);have o:NmG ls[i].1:=s _ (Z2c.mpr (i02 _ (Z13 g) rfl));generalize ls[i]=e at h p o;generalize duP nm (ls.take i)=z at r;obtain ⟨D,⟨J,C⟩,A⟩:=D1o c h (λf m=>(Z07.mp m).elim .inl λq=> .inr (r.ar f q)) r.al;have u:=r.nm.lift A t;refine ⟨D,λf m=> ?_,?_⟩
  ·rw [C];unfold C6c at m;rw [Z0s] at m;rcases Z07.mp m with q | q
   ·obtain ⟨l,G,F⟩:=r.ar f q;exact i02 l (Z07.mpr (.inl (Z07.mpr (.inl G)))) F
   ·rw [Z0w.mp q];exact i06 _ (Z07.mpr (.inr (.head _))) rfl rfl
  ·have v:(C8f nm e z).2.map (·.1)=(wsP nm (inS e.2.2) [] [] z).2.2.map (·.1)++[e.1]:=by
    show ((wsP nm (inS e.2.2) [] [] z).2.2++[_]).map _=_;rw [Z0s];rfl
   refine ⟨?_,λx d=> ?_⟩
   ·rw [v];refine Z0l.mpr (i00 u.nd (by simp) λa B b H q=> ?_);rw [Z0w.mp H] at q;rcases u.ex a B with ⟨k,_,n⟩ | n
    ·exact D7c k (by rw [<-n,q];exact o)
    ·exact (Z0l.mp p).2.2 a n e.1 (by simp) q
   ·rw [v] at d;rw [Z0s];rcases Z07.mp d with d | d
    ·rcases u.ex x d with n | n
     ·exact .inl n
     ·exact .inr (Z07.mpr (.inl n))
    ·exact .inr (Z07.mpr (.inr d))
theorem A6a:∀u:Tm,A1s u=enc u
 | .num _=>rfl
 | .place _=>rfl
 | .read _ _=>rfl
 | .sum x b=>by show PyData.tuple [.str "sum",.str x,A1s b]= .tuple [.str "sum",.str x,enc b];rw [A6a b]
 | .pair k l r=>by cases k <;> (show PyData.tuple [_,A1s l,A1s r]= .tuple [_,enc l,enc r];rw [A6a l,A6a r];rfl)
 | .guard x lo hi l r=>by show PyData.tuple [.str "guard",.str x,.int lo,.int hi,A1s l,A1s r]= .tuple [.str "guard",.str x,.int lo,.int hi,enc l,enc r];rw [A6a l,A6a r]
theorem B5j:∀u:Tm,TmW u->TmS u->PyData.canLay0 (enc u)=true/\PyData.depth (enc u)<=dep u+2
 | .num z,_,_=>by simp [enc,PyData.canLay0,PyData.canLayAll0,PyData.depth,PyData.depthAll,dep];decide +kernel
 | .place x,h,_=>by
  have:PyData.strOk x=true:=h.2;simp [enc,PyData.canLay0,PyData.canLayAll0,PyData.depth,PyData.depthAll,dep,this];decide +kernel
 | .read a ix,h,hs=>by
  have d:PyData.strOk a=true:=hs;obtain ⟨c,e⟩:=E4r ix h.2.2;constructor
  ·simp [enc,A5b,PyData.canLay0,PyData.canLayAll0,d,c];decide +kernel
  ·simp [enc,A5b,PyData.depth,PyData.depthAll,dep];lia
 | .sum x b,h,hs=>by
  have d:PyData.strOk x=true:=h.1.2;obtain ⟨c,e⟩:=B5j b h.2 hs;constructor
  ·simp [enc,PyData.canLay0,PyData.canLayAll0,d,c];decide +kernel
  ·simp [enc,PyData.depth,PyData.depthAll,dep];lia
 | .pair k l r,h,hs=>by
  obtain ⟨c,e⟩:=B5j l h.1 hs.1;obtain ⟨f,g⟩:=B5j r h.2 hs.2;constructor
  ·simp [enc,PyData.canLay0,PyData.canLayAll0,D5w,c,f]
  ·simp [enc,PyData.depth,PyData.depthAll,dep];lia
 | .guard x lo hi l r,h,hs=>by
  have d:PyData.strOk x=true:=h.1.2;obtain ⟨c,e⟩:=B5j l h.2.2.2.1 hs.1;obtain ⟨f,g⟩:=B5j r h.2.2.2.2 hs.2;constructor
  ·simp [enc,PyData.canLay0,PyData.canLayAll0,d,c,f];decide +kernel
  ·simp [enc,PyData.depth,PyData.depthAll,dep];lia
theorem B8w (h:TmW u) (s:TmS u) (c:dep u<=40):SeqAt.shaped (A1s u)=true:=by
 obtain ⟨a,b⟩:=B5j u h s;rw [A6a];simp only [SeqAt.shaped,a,Bool.true_and,decide_eq_true_eq]
 lia
theorem E2b {a:Tm} (h:PyData.eqv (A1s a) (A1s b)=true):a=b:=D6c a b (by rw [A6a,A6a] at h;exact h)
theorem B8c {a:Addr} (k:KB a H H') (n:¬S a):A0u (A0s S H) (A0s S H'):=λb o e=>A0h (A0l e).1 (k b o (λz=>n (z▸(A0l e).1)) (A0l e).2)
theorem B1k {c b:Addr} (k:KB c H H') (h:H' c=some o) (a:H' b=none):H b=none:=by
 cases e:H b with
 | none=>rfl
 | some u =>
  have:b≠c:=λz=>by rw [z,h] at a;cases a
  rw [k b u this e] at a;cases a
def D5f (A:Adr) (H:Hp) (v:V):Prop:=∃(q:Addr) (b a:V) (u:Tm),v= .ref q/\H q=some (.tup [b,a])/\Rep H b (A1s u)/\TmW u/\TmS u/\dep u<=40/\Ob A H a u
theorem D5f.same (h:D5f A H v) (s:A0u H H'):D5f A H' v:=by
 obtain ⟨q,a,b,u,rfl,e,r,w,t,d,o⟩:=h;exact i10 q a b u rfl (s _ _ e) (r.same s) w t ⟨d,o.imp s⟩
structure E4n (A:Adr) (S:Addr->Prop) (H:Hp) (v:V) (kp:Addr) (kvs:List V) (u:Tm):Prop where
 ns:¬S kp
 fr:Fr S H
 hk:H kp=some (.lst kvs)
 kv:∀x∈kvs,D5f A (A0s S H) x
 l:kvs.length+nod u<=100000
 rp:Rep (A0s S H) v (A1s u)
 w:TmW u
 s:TmS u
 d:dep u<=40
def D9n (A:Adr) (S:Addr->Prop) (c:Addr) (kvs:List V) (n:Nat) (u:Tm) (H:Hp) (Q:VK):Prop:=∀(d:V) (a:List V) (b:Hp),KB c H b->b c=some (.lst a)->(∀x∈a,D5f A (A0s S b) x)->a.length+n<=kvs.length+nod u->Ob A (A0s S b) d u->Q d b
def B4p (A:Adr) (n:Nat):Sp:=λc H Q _=>∃(v:V) (b:Addr) (a:List V) (u:Tm) (S:Addr->Prop),c=[v,.ref b]/\E4n A S H v b a u/\dep u<=n/\D9n A S b a 0 u H Q
def C8z (A:Adr) (n:Nat):Sp:=λc H Q _=>∃(v:V) (b:Addr) (a:List V) (u:Tm) (S:Addr->Prop),c=[v,.ref b]/\E4n A S H v b a u/\dep u<=n/\D9n A S b a 1 u H Q
theorem sne {b:Str} {C:Prop} (h:V.str a=V.str b) (n:¬a=b):C:=absurd (V.str.inj h) n
theorem D4p (T:Txt K mg t) (hm:6<=m) (Ge1:A3i P w K mg base CX0 m t.rf t.qg B4j (B4p t n)):A3i P w K mg base CX0 (m+1) t.jq t.jb B4j (C8z t (n+1)):=by
 have Ga7:= @A9e P w K mg base t T;have Ge2:= @B6u P w K mg base t T;have Gb8:= @B1w P w K mg base t T;have Ga6:= @B0k P w K mg base t T;have Ga5:= @A6e P w K mg base t T;have Ge3:= @C0v P w K mg base t T;refine T.qu.F.ok A7p (by walk_at "ln") λ_ A _ s H _ Q E Y h=> ?_
 ·obtain ⟨v,kp,C,u,S,rfl,⟨M,I,hk,kv,lk,rp,wu,su,du⟩,hd,k⟩:=h;refine i02 _ (@RS.r _ _ _ (rq1 (rq4 (A0p A3d (A1f A1h (pv 0) A0d (λ_ _=>rfl)) A1w (A1b _)) (rq3 (rq5 (pmk T.sn Ga7 Y T.rc T.di.b (A0a (A1f A1h (pv 0) A0d (λ_ _=>rfl)) A0c)))) ⟨A0x⟩) (rq1 (rq4 (A0p A3d (A1f A1h (pv 0) A0d (λ_ _=>rfl)) A1w (A1b _)) (rq3 (rq5 (pmk T.zF Ge2 Y T.wy T.jd.b (A0a (A1f A1h (pv 0) A0d (λ_ _=>rfl)) A0c)))) ⟨A0x⟩) (rq1 (rq4 (A0p A3d (A1f A1h (pv 0) A0d (λ_ _=>rfl)) A1w (A1b _)) (rq3 (rq5 (pmk T.yL Gb8 Y T.wx T.ir.b (A0a (A1f A1h (pv 0) A0d (λ_ _=>rfl)) (A0a (A2k A4z (by rfl) T.ib Z1o (A0a (A1f A1h (pv 0) A0d (λ_ _=>rfl)) A0c)) A0c))))) ⟨A0x⟩) (rq1 (rq4 (A0p A3d (A1f A1h (pv 0) A0d (λ_ _=>rfl)) A1w (A1b _)) (rq3 (rq5 (pmk T.AC Ge3 Y T.ww T.p6.b (A0a (A1f A1h (pv 0) A0d (λ_ _=>rfl)) (A0a (pcl Ge1 Y T.lh (A0a (A1f A1h (pv 0) A0d (λ_ _=>rfl)) (A0a (pv 1) A0c))) A0c))))) ⟨A0x⟩) (rq1 (rq6 2 A7p.nd (pcl Ge1 Y T.lh (A0a (A1f A1h (pv 0) (B6b B0j A0d) (λ_ _=>rfl)) (A0a (pv 1) A0c)))) (rq1 (rq6 3 A7p.nd (pcl Ge1 Y T.lh (A0a (A1f A1h (pv 0) (B6b B0j A0d) (λ_ _=>rfl)) (A0a (pv 1) A0c)))) (rq1 (rq4 (A0p A3d (A1f A1h (pv 0) A0d (λ_ _=>rfl)) A1w (A1b _)) (rq3 (rq5 (pmk T.y8 Ga6 Y T.m_ T.gf.b (A0a (A1f A1h (pv 0) A0d (λ_ _=>rfl)) (A0a (A1f A1h (pv 0) A0d (λ_ _=>rfl)) (A0a (A1f A1h (pv 0) A0d (λ_ _=>rfl)) (A0a (pv 2) (A0a (pv 3) A0c)))))))) ⟨A0x⟩) (rq1 (rq4 (A0p A3d (A1f A1h (pv 0) A0d (λ_ _=>rfl)) A1w (A1b _)) (rq3 (rq5 (pmk T.yM Ga5 Y T.yD T.cn.b (A0a (pv 2) (A0a (pv 3) A0c))))) ⟨A0x⟩) (rq1 (rq4 (A0p A3d (A1f A1h (pv 0) A0d (λ_ _=>rfl)) A1w (A1b _)) (rq3 (rq5 (pmk T.x_ Ga5 Y T.xr T.cn.b (A0a (pv 2) (A0a (pv 3) A0c))))) ⟨A0x⟩) (rq3 (rq5 (pmk T.yp Ga5 Y T.yI T.cn.b (A0a (pv 2) (A0a (pv 3) A0c))))))))))))))) ?_;obtain ⟨q,xs,rfl,eq⟩:=B6j rp;have sq:=SqT.of (K:=K) (A0m _ _ eq);have G:∀(v':V) (X:List V) (H1 H':Hp),KB kp H H1->H1 kp=some (.lst X)->(∀x∈X,D5f t (A0s S H1) x)->X.length+1<=C.length+nod u->A0u H1 H'->Ob t (A0s S H') v' u->Q v' H':=λv' X H1 H' kb h1 hv hl s ob=>k v' X H' (kb.trans (KB.of s)) (s _ _ h1) (λx f=>(hv x f).same (A0g s)) hl ob
  cases u with
  | num z =>
   obtain ⟨q',J,d⟩:=D7k (z:=z) rp;cases J;have d:=SqT.of (K:=K) (A0m _ _ d);refine i1c _ rfl q _ _ _ rfl rfl d rfl rfl _ rfl (A8x (λ_=> ?_) (λh=>absurd rfl h));refine i13 _ rfl q _ _ _ rfl rfl d rfl λx g f c D=>(i10 x _ g _ rfl A0b T.cy T.cz rfl ?_);exact G _ C H _ KB.refl hk kv (Z09 _) (A2f f c) (.num (A0h (I x f) A0b))
  | place z =>
   obtain ⟨q',J,d⟩:=C7p (x:=z) rp;cases J;have d:=SqT.of (K:=K) (A0m _ _ d);refine i1c _ rfl q _ _ _ rfl rfl d rfl rfl _ rfl (A8x (λh=>sne h (by decide +kernel)) (λ_=> ?_));refine i1c _ rfl q _ _ _ rfl rfl d rfl rfl _ rfl (A8x (λ_=> ?_) (λh=>absurd rfl h));refine i13 _ rfl q _ _ _ rfl rfl d rfl λx g f c D=>(i10 x _ g _ rfl A0b T.ft T.j0 rfl ?_);exact G _ C H _ KB.refl hk kv (Z09 _) (A2f f c) (.place (A0h (I x f) A0b))
  | read a ix =>
   obtain ⟨q',l,iv,J,d,Z,ri⟩:=D1g (x:=a) (ix:=ix) rp;cases J;have d:=SqT.of (K:=K) (A0m _ _ d);refine i1c _ rfl q _ _ _ rfl rfl d rfl rfl _ rfl (A8x (λh=>sne h (by decide +kernel)) (λ_=> ?_));refine i1c _ rfl q _ _ _ rfl rfl d rfl rfl _ rfl (A8x (λh=>sne h (by decide +kernel)) (λ_=> ?_));refine i1c _ rfl q _ _ _ rfl rfl d rfl rfl _ rfl (A8x (λ_=> ?_) (λh=>absurd rfl h));refine i13 _ rfl q _ _ _ rfl rfl d rfl (i0z _ rfl q _ _ _ rfl rfl d (i0i rfl l _ rfl (.inl (SqL.of (A0m _ _ Z))) λl2 a6 x g f c D=> ?_));have v1:A0u H (upd H l2 (.lst iv)):=A0e a6;have a0:upd H l2 (.lst iv) l2=some (.lst iv):=A0b;generalize upd H l2 (.lst iv)=G1 at v1 a0 f c⊢;have v2:A0u G1 (upd (upd G1 g (.own x)) x (.ins t.aj g [])):=A0o (A0e c) f;have a4:upd (upd G1 g (.own x)) x (.ins t.aj g []) x=some (.ins t.aj g []):=A0b;generalize upd (upd G1 g (.own x)) x (.ins t.aj g [])=G2 at v2 a4⊢;have a9:=wu.2.1;refine ⟨x,(i0y g l2 a ix rfl a4 (.lst (v2 _ _ a0) (ri.same (A0m.trans (v1.trans v2)))) (by lia) λl' G3 a8 a5 a7=>⟨rfl,?_⟩)⟩;have v3:A0u G1 G3:=λb o e=>a7 b o (A0z e f) (v2 _ _ e);exact G (.ref x) C H G3 KB.refl hk kv (Z09 _) (v1.trans v3) (.read (A0h (I x (v1.free f)) a8) (a5.same (A2x (A0u.refl _) λa o _ h=>I a ((v1.trans v2).free h))))
  | sum x b =>
   obtain ⟨q',a,J,d,ra⟩:=C9r rp;cases J;have d:=SqT.of (K:=K) (A0m _ _ d);simp only [dep] at hd du;simp only [nod] at lk;refine i1c _ rfl q _ _ _ rfl rfl d rfl rfl _ rfl (A8x (λh=>sne h (by decide +kernel)) (λ_=> ?_));refine i1c _ rfl q _ _ _ rfl rfl d rfl rfl _ rfl (A8x (λh=>sne h (by decide +kernel)) (λ_=> ?_));refine i1c _ rfl q _ _ _ rfl rfl d rfl rfl _ rfl (A8x (λh=>sne h (by decide +kernel)) (λ_=> ?_));refine i1c _ rfl q _ _ _ rfl rfl d rfl rfl _ rfl (A8x (λ_=> ?_) (λh=>absurd rfl h));refine i13 _ rfl q _ _ _ rfl rfl d rfl (i13 _ rfl q _ _ _ rfl rfl d rfl (i0l _ rfl a kp C (i0m b S rfl ⟨M,I,hk,kv,by lia,ra,wu.2,su,by lia⟩ (by lia) λv1 W H1 j B p l1 R=>λy g f c D=>(i14 y _ g _ _ rfl A0b T.d_ T.fw T.ik ⟨rfl,?_⟩))));exact G (.ref y) W H1 _ j B p (by simp only [nod];lia) (A2f f c) (.sum (A0h (I y (B1k j B f)) A0b) (R.imp (A0g (A2f f c))))
  | pair kk l r =>
   obtain ⟨q',a,b,J,d,ra,rb⟩:=C4f rp;cases J;have U:=d;have d:=SqT.of (K:=K) (A0m _ _ d);simp only [dep] at hd du;simp only [nod] at lk;have tn:¬opS kk="number"/\¬opS kk="place"/\¬opS kk="read"/\¬opS kk="sum"/\¬opS kk="guard":=by cases kk <;> exact i09 (by decide +kernel) (by decide +kernel) (by decide +kernel) (by decide +kernel) (by decide +kernel)
   refine i1c _ rfl q _ _ _ rfl rfl d rfl rfl _ rfl (A8x (λh=>sne h tn.1) (λ_=> ?_));refine i1c _ rfl q _ _ _ rfl rfl d rfl rfl _ rfl (A8x (λh=>sne h tn.2.1) (λ_=> ?_));refine i1c _ rfl q _ _ _ rfl rfl d rfl rfl _ rfl (A8x (λh=>sne h tn.2.2.1) (λ_=> ?_));refine i1c _ rfl q _ _ _ rfl rfl d rfl rfl _ rfl (A8x (λh=>sne h tn.2.2.2.1) (λ_=> ?_));refine i17 _ rfl _ rfl q _ _ _ rfl rfl d rfl (i0l _ rfl a kp C (i0m l S rfl ⟨M,I,hk,kv,by lia,ra,wu.1,su.1,by lia⟩ (by lia) λv1 W H1 j B p l1 R=> ?_));have r1:=B8c j M;have a3:Fr S H1:=λy hy=>I y (B1k j B hy);refine i17 _ rfl _ rfl q _ _ _ rfl rfl (SqT.of (A0m _ _ (r1 _ _ U))) rfl (i0l _ rfl b kp W (i0m r S rfl ⟨M,a3,B,p,by lia,rb.same r1,wu.2,su.2,by lia⟩ (by lia) λv2 a1 H2 O N L l2 a2=> ?_));have i:=j.trans O;have r2:=B8c i M;have Z:=SqT.of (K:=K) (A0m _ _ (r2 _ _ U))
   have fin:∀(o:Op3) (x g:Addr),kk=o->H2 x=none->H2 g=none->Q (.ref x) (upd (upd (upd H2 g (.own x)) x (.ins (A6x t o) g [])) x (.ins (A6x t o) g [("left",v1),("right",v2)])):=by
    intro o x g eo f c;subst eo;exact G (.ref x) a1 H2 _ i N L (by simp only [nod];lia) (A2f f c) (.pair (A0h (I x (B1k i N f)) A0b) ((R.imp (B8c O M)).imp (A0g (A2f f c))) (a2.imp (A0g (A2f f c))))
   refine i1c _ rfl q _ _ _ rfl rfl Z rfl rfl _ rfl (A8x (λh=>sne h tn.2.2.2.2) (λ_=> ?_));refine i1c _ rfl q _ _ _ rfl rfl Z rfl rfl _ rfl (A8x (λh0=> ?_) (λh0=> ?_))
   ·exact i0e _ rfl _ rfl λx g f c D=>(i14 x _ g _ _ rfl A0b (A8o T .plus) (B9z T .plus) (B9o T .plus) ⟨rfl,fin .plus x g (by cases kk with | plus=>rfl | minus=>exact sne h0 (by decide +kernel) | times=>exact sne h0 (by decide +kernel)) f c⟩)
   refine i1c _ rfl q _ _ _ rfl rfl Z rfl rfl _ rfl (A8x (λh1=> ?_) (λh1=> ?_))
   ·exact i0e _ rfl _ rfl λx g f c D=>(i14 x _ g _ _ rfl A0b (A8o T .minus) (B9z T .minus) (B9o T .minus) ⟨rfl,fin .minus x g (by cases kk with | minus=>rfl | plus=>exact sne h1 (by decide +kernel) | times=>exact sne h1 (by decide +kernel)) f c⟩)
   exact i0e _ rfl _ rfl λx g f c D=>(i14 x _ g _ _ rfl A0b (A8o T .times) (B9z T .times) (B9o T .times) ⟨rfl,fin .times x g (by cases kk with | times=>rfl | plus=>exact absurd rfl h0 | minus=>exact absurd rfl h1) f c⟩)
  | guard x lo hi l r =>
   obtain ⟨q',a,b,J,d,ra,rb⟩:=B2t rp;cases J;have U:=d;have d:=SqT.of (K:=K) (A0m _ _ d);simp only [dep] at hd du;simp only [nod] at lk;refine i1c _ rfl q _ _ _ rfl rfl d rfl rfl _ rfl (A8x (λh=>sne h (by decide +kernel)) (λ_=> ?_));refine i1c _ rfl q _ _ _ rfl rfl d rfl rfl _ rfl (A8x (λh=>sne h (by decide +kernel)) (λ_=> ?_));refine i1c _ rfl q _ _ _ rfl rfl d rfl rfl _ rfl (A8x (λh=>sne h (by decide +kernel)) (λ_=> ?_));refine i1c _ rfl q _ _ _ rfl rfl d rfl rfl _ rfl (A8x (λh=>sne h (by decide +kernel)) (λ_=> ?_));refine i17 _ rfl _ rfl q _ _ _ rfl rfl d rfl (i0l _ rfl a kp C (i0m l S rfl ⟨M,I,hk,kv,by lia,ra,wu.2.2.2.1,su.1,by lia⟩ (by lia) λv1 W H1 j B p l1 R=> ?_));have r1:=B8c j M;have a3:Fr S H1:=λy hy=>I y (B1k j B hy);refine i17 _ rfl _ rfl q _ _ _ rfl rfl (SqT.of (A0m _ _ (r1 _ _ U))) rfl (i0l _ rfl b kp W (i0m r S rfl ⟨M,a3,B,p,by lia,rb.same r1,wu.2.2.2.2,su.2,by lia⟩ (by lia) λv2 a1 H2 O N L l2 a2=> ?_));have i:=j.trans O;have r2:=B8c i M;have Z:=SqT.of (K:=K) (A0m _ _ (r2 _ _ U));refine i1c _ rfl q _ _ _ rfl rfl Z rfl rfl _ rfl (A8x (λ_=> ?_) (λh=>absurd rfl h));refine i13 _ rfl q _ _ _ rfl rfl Z rfl (i13 _ rfl q _ _ _ rfl rfl Z rfl (i13 _ rfl q _ _ _ rfl rfl Z rfl (i0e _ rfl _ rfl λy g f c D=>(i08 y g _ ⟨_,(i0r _ _ _ rfl A0b rfl ?_)⟩))));exact G (.ref y) a1 H2 _ i N L (by simp only [nod];lia) (A2f f c) (.guard (A0h (I y (B1k i N f)) A0b) ((R.imp (B8c O M)).imp (A0g (A2f f c))) (a2.imp (A0g (A2f f c))))
theorem D4r (T:Txt K mg t) (Ge4:A3i P w K mg base CX0 m t.jq t.jb B4j (C8z t n)):A3i P w K mg base CX0 (m+1) t.rf t.qg B4j (B4p t n):=by
 refine T.lh.F.ok B0n (by walk_at "ln") λ_ A _ s H _ Q E hr h=> ?_
 ·obtain ⟨v,f,d,u,S,rfl,hi,hd,k⟩:=h;obtain ⟨L,fr,O,U,lk,Y,wu,su,X⟩:=id hi;refine i02 _ (@RS.r _ _ _ (rq1 (rq7 (A2c (pv 1)) (A3q (n:=2) rfl (A0r (A0k (i:=2) B0n.nd rfl (.inl rfl)) (A0r (A0k (i:=3) B0n.nd rfl (.inl rfl)) A2p))) (rq3 (rq4 (A0p (E0b hr.units) (pv 2) (pv 0) (A1b _)) (rq3 (rq5 (pv 3))) ⟨A0x⟩))) (rq1 (rq6 3 B0n.nd (pcl Ge4 hr T.qu (A0a (pv 0) (A0a (pv 1) A0c)))) (rq1 ⟨A2r (A6y Z0k Z0n Z0o A2e (pv 1) (A0a (A1z (A0a (pv 0) (A0a (pv 3) A0c))) A0c))⟩ (rq3 (rq5 (pv 3))))))) ?_;refine i0k _ rfl f rfl ⟨_,SqL.of O⟩ ?_;refine A2l (K:=K) (a:=f) (xs:=d) (λi Z D=>H=D/\∃(N M:Option V),Z=[some v,Sro f,N,M]) ⟨rfl,(i03 none none rfl)⟩ (λi Z D _ e=>SqL.of (by rw [<-e.1];exact O)) ?_ ?_
  ·rintro i x Z D c ⟨rfl,N,M,rfl⟩;refine B2x ?_;intro D';obtain ⟨q,tv,ov,R,rfl,e,rk,wk,sk,dk,ok⟩:=U x (Z13 c);refine i1a q _ rfl (SqT.of (A0m _ _ e)) rfl _ _ rfl _ _ rfl rfl ?_;refine i0w _ rfl _ rfl (A1s R) (A1s u) (rk.same A0m) (Y.same A0m) (i0a (B8w wk sk dk) (B8w wu su X) _ rfl ?_);show if (PyData.eqv (A1s R) (A1s u))=true then _ else _
   cases hb:PyData.eqv (A1s R) (A1s u) with
   | true =>
    cases E2b hb
    exact A5u (i02 _ rfl (k ov d H KB.refl O U (by lia) ok))
   | false=>exact A2m ⟨rfl,(i03 _ _ rfl)⟩
  ·rintro Z D ⟨rfl,N,M,rfl⟩;refine i02 _ rfl (i0l _ rfl v f d (i0m u S rfl hi hd λj y J b g p l1 B=> ?_));refine i06 _ rfl (.inl (i01 rfl _ (SqL.of g))) (i0k _ rfl _ rfl (A0v rfl) λtp l=> ?_);have C:=A0e (o:= .tup [v,j]) l;have W:upd J tp (.tup [v,j]) tp=some (.tup [v,j]):=A0b;have St:S tp:=fr tp (B1k b g l);generalize upd J tp (.tup [v,j])=H3 at C W;have I:=C _ _ g;refine i0u f _ _ rfl rfl I (A1l (by lia)) ?_;have G:A0u (A0s S J) (A0s S (upd H3 f (.lst (y++[.ref tp])))):=A2i (A0g C) L;refine i02 _ rfl (k j (y++[.ref tp]) _ ((b.trans (KB.of C)).upd) A0b (λx c=> ?_) (by rw [Z06];simp only [Z0y,Z2g];lia) (B.imp G));rcases Z07.mp c with c | c
   ·exact (p x c).same G
   ·rw [Z0w.mp c];have n1:tp≠f:=λz=>L (z▸St);exact i10 tp v j u rfl (A0h St (by rw [A0i n1];exact W)) ((Y.same (B8c b L)).same G) wu su ⟨X,B.imp G⟩
theorem E1v (T:Txt K mg t):∀n:Nat,A3i P w K mg base CX0 (2*n+8) t.rf t.qg B4j (B4p t n)
 | 0=>A3i.none (by rintro c H Q E ⟨v,b,a,u,S,_,_,h,_⟩;have:=A6l u;lia)
 | n+1=>D4r T (m:=2*n+9) (D4p T (by lia) (E1v T n))
theorem D9i {α β:Type} {R:α->β->Prop} {xs:List α} {ys:List β} (h:Paired R xs ys):∀y∈ys,∃x,R x y:=by
 induction h with
 | nil=>intro y b;cases b
 | cons a _ ih =>
  intro y b;rcases Z0e.mp b with rfl | b
  ·exact ⟨_,a⟩
  ·exact ih y b
theorem C7o {H:Hp}:∀{vs:List V} {tb:List (Str×List Str)},Paired (λ(v:V) (e:Str×List Str)=>∃q l,v= .ref q/\H q=some (.tup [.str e.1,.ref l])/\H l=some (.lst (e.2.map V.str))) vs tb->A5c H vs (tb.map C6b)
 | _,_,.nil=> .nil
 | _,_,.cons ⟨q,l,rfl,e1,e2⟩ r=> .cons (.tup e1 (.cons (.str _) (.cons (.lst e2 (A5c.strs _)) .nil))) (C7o r)
def D7d (A:Adr):Sp:=λf H Q _=>∃(p:Addr) (b:List (Str×Int)) (e:List (Str×List Str)) (d:List Lt),f=[.ref p]/\B2c H p b e d/\∀(r:Addr) (g:Int) (c:List Str) (a:Hp),A0u H a->D2a A a r g b e d c->c.length<=100->Q (.ref r) a
theorem B0t (T:Txt K mg t):FO P w base T.e_ 89 (D7d t):=by
 have Ge1:= @E1v P w K mg base t T 40;have Ge5:= @C0h P w K mg base t T;have Ge6:= @B4m P w K mg base t T;refine T.e_.F.ok A1p (by walk_at "ln") λ_ A _ s H _ Q E hr h=> ?_
 ·obtain ⟨p,C,tb,ls,rfl,a1,k⟩:=h;refine e0e a1.ob ?_;rintro wh d tl ll ol e5 d9 o0 ⟨hp,hd,c4,b3,c8,d4,f0⟩;have c6:=a1.hx;have g5:=a1.t;have g3:=a1.l;have d6:=a1.ok;have hu:=A8b hr;refine i02 _ (@RS.r _ _ _ (rq1 ⟨A9f (pv 0) (A3q (n:=5) rfl (A0r (A0k (i:=1) A1p.nd rfl (.inl rfl)) (A0r (A0k (i:=2) A1p.nd rfl (.inr rfl)) (A0r (A0k (i:=3) A1p.nd rfl (.inl rfl)) (A0r (A0k (i:=4) A1p.nd rfl (.inl rfl)) (A0r (A0k (i:=5) A1p.nd rfl (.inl rfl)) A2p))))))⟩ (rq1 ⟨B7c (i₀:=6) (N':=["_law_name","_law_lengths"]) (ix:=(List.replicate 1 none++[some 2])) A1p.nd rfl (.inl rfl) rfl (A7k (x:="_law_lengths") rfl rfl rfl (by decide +kernel) (by decide +kernel)) (A5q (N0:=["_law_name"]) rfl (.inl rfl) (by walk_at "ix")) (D0f (pv 2)) (λ_ _ _ _=>(A0k (i:=0) C5d rfl (.inl rfl))) (λ_ _ _ _=>(A1z (A0a (pv 0) (A0a (A2v hu (pv 1) (pv 0) (λ_ _=>rfl)) A0c))))⟩ ⟨@C3j _ _ _ (@A1u _ _ _ _ _ (B7c (i₀:=7) (N':=["_law_name","_law_own"]) (ix:=(List.replicate 2 none)) (g:=D8m K 2 (B2e (A7n 0) (B2e (A7n 1) D8i))) A1p.nd rfl (.inl rfl) rfl (A3a rfl (by decide +kernel) (by decide +kernel)) (A2z rfl) (A2c (pv 3)) (λ_ _ _ _=>(A3q (n:=2) rfl (A0r (A0k (i:=0) B5t rfl (.inl rfl)) (A0r (A0k (i:=1) B5t rfl (.inl rfl)) A2p)))) (λ_ _ _ _=>(A1z (A0a (pv 0) (A0a (A2k (B0l (K:=K) rfl) (by rfl) T.ib Z1o (A0a (pv 1) A0c)) A0c))))) (@A1u _ _ _ _ _ (@A3f _ _ 8 _ _ _ _ A1p.nd rfl (.inr rfl) (@A1r _ _ _ _ A0c) rfl (.inl rfl)) (@A1u _ _ _ _ _ (B7c (i₀:=9) (N':=["_law_name","_law_own","_law_tree","_law_kept"]) (ix:=(List.replicate 3 none++[some 8])) (g:=D8m K 3 (B2e (A7n 0) (B2e (A7n 1) (B2e (A7n 2) D8i)))) A1p.nd rfl (.inl rfl) rfl (A7k (x:="_law_kept") rfl rfl rfl (by decide +kernel) (by decide +kernel)) (A5q (N0:=["_law_name","_law_own","_law_tree"]) rfl (.inl rfl) (by walk_at "ix")) (A2c (pv 4)) (λ_ _ _ _=>(A3q (n:=3) rfl (A0r (A0k (i:=0) B0s rfl (.inl rfl)) (A0r (A0k (i:=1) B0s rfl (.inl rfl)) (A0r (A0k (i:=2) B0s rfl (.inl rfl)) A2p))))) (λ_ _ _ _=>(pmk T.AB Ge5 hr T.AK T.p_.b (A0a (pv 0) (A0a (A2k (B0l (K:=K) rfl) (by rfl) T.ib Z1o (A0a (pv 1) A0c)) (A0a (pcl Ge1 hr T.lh (A0a (pv 2) (A0a (pv 3) A0c))) A0c)))))) (@A2y _ _ _ (@B3j _ _ _ _ (pmk T.yB Ge6 hr T.zd T.gz.b (A0a (pv 1) (A0a (pv 6) (A0a (pv 7) (A0a (pv 9) (A0a (A2k A4z (by rfl) T.ib Z1o (A0a (pv 5) A0c)) A0c)))))))))))⟩))) ?_;refine i0o _ rfl p _ rfl (SqT.of hp) (i0b rfl _ _ rfl (i03 _ _ (i0b rfl _ _ rfl ⟨_,(i0o _ rfl _ _ rfl rfl ?_)⟩)))
  have f5:((A2g C).map (·.1)).Nodup:=by
   have ks:(A2g C).map (·.1)=(C.map (·.1)).map (Sum.inr:Str->Key):=by unfold A2g;rw [List.map_map,List.map_map];rfl
   rw [ks];exact c6.2.2.1.map (f:=(Sum.inr:Str->Key)) λa b f2 z=>f2 (Sum.inr.inj z)
  have f6:(A2g C).length=C.length:=by unfold A2g;rw [Z08]
  have l8:=c6.2.2.2;refine i0o _ rfl d (A2g C) rfl hd λo=>λD hD=> ?_;have Dd:D≠d:=λe=>by rw [e,A0b] at hD;cases hD
  refine B2v (D:=D) (A2g C).length (λj J G=>A0u (upd H d (.frz o (.dK (A2g C)))) G/\G D=some (.lst J)/\Paired (λ(v:V) (e:Str×Int)=>∃q,v= .ref q/\q≠D/\G q=some (.tup [.str e.1,.int e.2])) J (C.take j)) (i00 (A0e hD) A0b .nil) (by rintro j J G hj ⟨m,_⟩;exact ⟨m _ _ A0b,hj⟩) (by rintro J G ⟨m,_⟩;exact ⟨m _ _ A0b,rfl⟩) ?_ ?_
  ·rintro j J G0 hj ⟨m,Y,B⟩ x G ⟨rfl,kk,vv,N,rfl⟩;refine C5y ?_;intro N';have b4:C[j]? =some C[j]:=Z0b (by lia);have c5:=N;unfold A2g at N;rw [Z1z,b4] at N;generalize C[j]=e at b4 N;cases N;have dg:A9g G d (kV (Sum.inr e.1)) (A5l (A2g C) (Sum.inr e.1)):= .inl (i0f _ _ (.inr ⟨o,m _ _ A0b⟩) rfl rfl);rw [C3f f5 c5] at dg;have ly:=Paired.length B;rw [Z0x] at ly;refine ⟨⟨rfl,True.intro⟩,(i12 _ rfl _ rfl _ rfl d _ rfl dg ⟨A0v rfl,λtp S=> ?_⟩)⟩;have sT:=A0e (o:= .tup [.str e.1,.int e.2]) S;have tD:tp≠D:=λz=>by rw [z,Y] at S;cases S
   refine i09 (sT _ _ Y) (A1l (by lia)) (A0o (m.trans sT) hD) A0b ?_;rw [Z14,b4];refine B2p (Paired.mapP B (by rintro v e ⟨q,M,U,e3⟩;exact i06 q M U (by rw [A0i U];exact sT _ _ e3))) (.cons (i06 tp rfl tD (by rw [A0i tD];exact A0b)) .nil)
  rintro J G ⟨m,Y,B⟩;rw [f6,Z18] at B;have b7:=m _ _ (A0b (H:=H) (a:=d) (o:= .frz o (.dK (A2g C))));refine i0n d o (A2g C) b7 (λo' u' e=>by have e:H d=some (.frz o' u'):=e;rw [hd] at e;cases e) ?_
  have s1:A0u H (upd G d (.dK (A2g C))):=λb u e=>by
   by_cases hb:b=d
   ·rw [hb] at e⊢;rw [hd] at e;rw [A0b];exact e
   ·rw [A0i hb];exact m _ _ (by rw [A0i hb];exact e)
  have r1:Rep (upd G d (.dK (A2g C))) (.ref D) (A5b C):= .lst (by rw [A0i Dd];exact Y) (B7b (Paired.mapP B (by rintro v e ⟨q,M,U,e3⟩;exact i02 q M (by rw [A0i (A3j e3 b7 (by intro h;cases h))];exact e3))));generalize upd G d (.dK (A2g C))=H1 at s1 r1;clear B b7 m Y hD Dd;refine i0k _ rfl tl rfl ⟨_,SqL.of (s1 _ _ c4)⟩ λD2 c9=> ?_;have d8:=Paired.length b3;refine A4g (K:=K) (a:=tl) (D:=D2) (xs:=e5) (λj J G=>A0u H1 G/\G D2=some (.lst J)/\Paired (λ(v:V) (e:Str×List Str)=>∃q l,v= .ref q/\q≠D2/\l≠D2/\G q=some (.tup [.str e.1,.ref l])/\G l=some (.lst (e.2.map V.str))) J (tb.take j)) (i00 (A0e c9) A0b .nil) (by rintro j J G ⟨m,_⟩;exact SqL.of (m _ _ (s1 _ _ c4))) ?_ ?_
  ·rintro j x J G Z ⟨m,Y,B⟩;refine C5y ?_;intro N';obtain ⟨e,he,q,al,rfl,M,U,_⟩:=B3r b3 Z;have M:=m _ _ (s1 _ _ M);have U:=m _ _ (s1 _ _ U);have ly:=Paired.length B;rw [Z0x] at ly;refine i1a q _ rfl (SqT.of M) rfl _ _ rfl _ _ rfl rfl ⟨True.intro,(i0w _ rfl _ rfl al _ rfl (.inl (SqL.of U)) λl2 R=>⟨A0v rfl,λtp S=> ?_⟩)⟩;have sA:=A0e (o:= .lst (e.2.map V.str)) R;have sB:=A0e (o:= .tup [.str e.1,.ref l2]) S;have a7:=sA.trans sB;have lD:l2≠D2:=λz=>by rw [z,Y] at R;cases R
   have tD:tp≠D2:=λz=>by rw [z,sA _ _ Y] at S;cases S
   refine i09 (a7 _ _ Y) (A1l (by lia)) (A0o (m.trans a7) c9) A0b ?_;rw [Z14,he];exact B2p (Paired.mapP B (by rintro v e ⟨q,l,M,n1,n2,U,e3⟩;exact i0p q l M n1 n2 (by rw [A0i n1];exact a7 _ _ U) (by rw [A0i n2];exact a7 _ _ e3))) (.cons (i0p tp l2 rfl tD lD (by rw [A0i tD];exact A0b) (by rw [A0i lD];exact sB _ _ A0b)) .nil)
  rintro g4 H2 ⟨c7,g0,B⟩;rw [d8,Z18] at B;have s2:=s1.trans c7;have r2:Rep H2 (.ref D2) (B5a tb):= .lst g0 (C7o (Paired.mapP B (by rintro v e ⟨q,l,M,n1,n2,U,e3⟩;exact i0f q l M U e3)));have r1:=r1.same c7;clear B;refine ⟨A0v rfl,λO a6=> ?_⟩;have sk:=A0e (o:= .lst []) a6;have b2:upd H2 O (.lst []) O=some (.lst []):=A0b;generalize upd H2 O (.lst [])=H3 at sk b2;have s3:=s2.trans sk;refine i0k _ rfl ll rfl ⟨_,SqL.of (s3 _ _ c8)⟩ λL a5=> ?_;have e8:=Paired.length d4;have kD:O≠L:=λz=>by rw [<-z,b2] at a5;cases a5
  have b5:H2 L=none:=sk.free a5;refine A4g (K:=K) (a:=ll) (D:=L) (xs:=d9) (λj J G=>A0u H2 G/\G L=some (.lst J)/\∃X,G O=some (.lst X)/\X.length<=122*j/\(∀x∈X,D5f t (A0s (S2P O L) G) x)/\Paired (C0s t (λ_=>True) (A0s (S2P O L) G)) J (ls.take j)) (i00 (sk.trans (A0e a5)) A0b (i0c [] (by rw [A0i kD];exact b2) (by simp) (λx Z=>by cases Z) .nil)) (by rintro j J G ⟨m,_⟩;exact SqL.of (m _ _ (s2 _ _ c8))) ?_ ?_
  ·rintro j x J G Z ⟨m,Y,X,b9,e0,N,B⟩;refine C5y ?_;intro N';obtain ⟨e,he,q,al,tv,rfl,M,U,rt⟩:=B3r d4 Z;have W:=d6 e (Z13 he);have hj:=(Z03.mp he).1;have ly:=Paired.length B;rw [Z0x] at ly;have f1:∀{F:Hp},A0u H2 F->A0u H (A0s (S2P O L) F):=λ{F} s b u z=>A0h ⟨(λy=>by rw [y] at z;rw [s2 _ _ z] at a6;cases a6),λy=>by rw [y] at z;rw [s2 _ _ z] at b5;cases b5⟩ (s _ _ (s2 _ _ z));have M:=m _ _ (s2 _ _ M);have U:=m _ _ (s2 _ _ U);have l3:=W.l3;refine i0f q _ rfl (SqT.of M) (i0b rfl _ _ rfl ⟨_,(i0s _ rfl _ _ rfl rfl ⟨rfl,True.intro⟩ (i0w _ rfl _ rfl al _ rfl (.inl (SqL.of U)) λl2 R=> ?_))⟩);have sA:=A0e (o:= .lst (e.2.1.map V.str)) R;have a9:upd G l2 (.lst (e.2.1.map V.str)) l2=some (.lst (e.2.1.map V.str)):=A0b;generalize upd G l2 (.lst (e.2.1.map V.str))=G1 at sA a9;have d3:=m.trans sA;have a8:=sA _ _ b9;have d0:=sA _ _ Y;have f7:Fr (S2P O L) G1:=λb hb=>⟨(λz=>by rw [z,a8] at hb;cases hb),λz=>by rw [z,d0] at hb;cases hb⟩;have n3:=W.k;refine i02 _ rfl (i0l _ rfl tv O X (i0m e.2.2 (S2P O L) rfl ⟨λz=>z.1 rfl,f7,a8,λx Z=>(N x Z).same (A0g sA),by lia,rt.same (f1 d3),W.w,W.s,by have:=W.d;lia⟩ (by have:=W.d;lia) λv1 f8 G2 kb c0 g1 l1 ob=> ?_));have a0:=kb _ _ kD.symm d0;have f4:=kb _ _ (λz=>by rw [z,b9] at R;cases R) a9;intro y I hy b6 e7;have sM:A0u G2 (upd (upd G2 I (.own y)) y (.ins t.ci I [])):=A0o (A0e b6) hy;have a2:upd (upd G2 I (.own y)) y (.ins t.ci I []) y=some (.ins t.ci I []):=A0b;generalize upd (upd G2 I (.own y)) y (.ins t.ci I [])=G3 at sM a2;refine i03 y I (i0y l2 v1 e.1 e.2.1 rfl a2 (sM _ _ f4) (by lia) λc G4 hc b8 f3 d7=>⟨rfl,?_⟩);have a3:A0u G2 G4:=λb u z=>d7 b u (A0z z hy) (sM _ _ z);have f9:=a3 _ _ a0;have e6:=a3 _ _ c0;have c2:G2 c=none:=sM.free hc;have cS:S2P O L c:=⟨(λz=>by rw [z,c0] at c2;cases c2),λz=>by rw [z,a0] at c2;cases c2⟩;have yS:S2P O L y:=⟨(λz=>by rw [z,c0] at hy;cases hy),λz=>by rw [z,a0] at hy;cases hy⟩;have b0:A0u (A0s (S2P O L) G2) (A0s (S2P O L) (upd G4 L (.lst (J++[.ref y])))):=A2i (A0g a3) λz=>z.2 rfl;have e9:A0u (A0s (S2P O L) G) (A0s (S2P O L) (upd G4 L (.lst (J++[.ref y])))):=((A0g sA).trans (B8c kb λz=>z.1 rfl)).trans b0;have sE:A0u H2 G4:=λb u z=>a3 _ _ (kb b u (λy=>by rw [y,a6] at z;cases z) (d3 _ _ z));refine i09 f9 (A1l (by lia)) (A0o sE b5) A0b (i0c f8 (by rw [A0i kD];exact e6) (by lia) (λx Z=>(g1 x Z).same b0) ?_);rw [Z14,he];exact B2p (Paired.mapP B λv e z=>z.same e9) (.cons ⟨y,(i0y I c v1 () rfl (A0h yS (by rw [A0i yS.2];exact b8)) True.intro (A0h cS (by rw [A0i cS.2];exact f3)) (ob.imp b0))⟩ .nil)
  rintro b1 G ⟨m,Y,X,b9,e0,N,B⟩;rw [e8,Z18] at B;have g2:=Paired.length B;refine i0e _ rfl _ rfl (i12 _ rfl _ rfl _ rfl ol _ rfl (.inl (SqL.of (m _ _ (s2 _ _ f0)))) λa4 d1=> ?_);have sO:=A0e (o:= .lst [.str o0]) d1;have hO:upd G a4 (.lst [.str o0]) a4=some (.lst ([o0].map V.str)):=A0b;generalize upd G a4 (.lst [.str o0])=G1 at sO hO;intro y I hy b6 e7;have sM:A0u G1 (upd (upd G1 I (.own y)) y (.ins t.ai I [])):=A0o (A0e b6) hy;have a2:upd (upd G1 I (.own y)) y (.ins t.ai I []) y=some (.ins t.ai I []):=A0b;generalize upd (upd G1 I (.own y)) y (.ins t.ai I [])=G2 at sM a2;have d5:=sO.trans sM;have d2:=m.trans d5;have c1:Paired (C0s t (λ_=>True) G1) b1 ls:=Paired.mapP B λv e z=>(z.same A0m).same sO;refine i03 y I (i08 D D2 L (i1d a4 wh C tb b1 [o0] rfl a2 (r1.same d2) (by lia) (r2.same d2) (by lia) ?_ (i0h (d5 _ _ Y) (by lia) ?_ (sM _ _ hO) (by show 1<=1000;decide) λa' t' l' o' G3 b8 ra rt hl ho kb=>⟨rfl,?_⟩)))
  ·intro e he;obtain ⟨x,q,al,_,_,_,_,l3,_⟩:=D9i b3 e he
   lia
  ·intro x Z;obtain ⟨i,hi,ei⟩:=List.mem_iff_getElem.mp Z;obtain ⟨e,_,a,e4,c,n,dn,ex,M,_⟩:=B3r c1 (Z0b hi);rw [ei] at ex;exact i0n a e4 _ ex (A0z M hy) (sM _ _ M)
  ·have c3:A0u G1 G3:=λb u z=>kb b u (A0z z hy) (sM _ _ z);exact k y wh [o0] G3 (s2.trans (m.trans (sO.trans c3))) ⟨I,a',t',l',o',b8,ra,rt,(i02 b1 hl (Paired.mapP c1 λv e z=>z.same c3)),.lst ho (A5c.strs _)⟩ (by show 1<=100;decide)
theorem KT.at {u:HO} (e:H l=some u) (n:∀xs,u≠.tup xs):KT H (upd H l o):=λp xs z=>by rw [A0i (A3j z e (n xs).symm)];exact z
def A4l (H:Hp) (ps:List Addr) (cs:List (List Int)):Prop:=Paired (λ(p:Addr) (c:List Int)=>H p=some (.tup (c.map V.int))) ps cs
theorem A4l.imp {H H':Hp}:∀{ps:List Addr} {cs:List (List Int)},A4l H ps cs->(∀p xs,H p=some (.tup xs)->H' p=some (.tup xs))->A4l H' ps cs
 | _,_,.nil,_=> .nil
 | _,_,.cons r t,f=> .cons (f _ _ r) (A4l.imp t f)
theorem A4l.same {ps:List Addr} (h:A4l H ps cs) (s:A0u H H'):A4l H' ps cs:=h.imp λ_ _ e=>s _ _ e
theorem A4l.snoc {H:Hp} {p:Addr} {c:List Int} (e:H p=some (.tup (c.map V.int))):∀{ps:List Addr} {cs:List (List Int)},A4l H ps cs->A4l H (ps++[p]) (cs++[c])
 | _,_,.nil=> .cons e .nil
 | _,_,.cons r t=> .cons r (A4l.snoc e t)
theorem A4l.get {ps:List Addr} (h:A4l H ps cs) (a:ps[i]? =some p):∃c,cs[i]? =some c/\H p=some (.tup (c.map V.int)):=B3r h a
structure C6q (H:Hp) (a:Addr) (cs:List (List Int)):Prop where
 ex:∃ps:List Addr,H a=some (.lst (ps.map V.ref))/\A4l H ps cs
abbrev nxt (n:Int) (cs:List (List Int)):List (List Int):=cs.flatMap λc=>(List.range n.toNat).map λ(m:Nat)=>c++[(m:Int)]
def A1v (L:Str->Int) (ys:List Str):List (List Int):=ys.foldl (λa y=>nxt (L y) a) [[]]
theorem C5u (h:ys[i]? =some y):A1v L (ys.take (i+1))=nxt (L y) (A1v L (ys.take i)):=by
 unfold A1v;rw [Z14,h,List.foldl_append];rfl
theorem C4e {L:Str->Int}:∀(ys:List Str) (cs:List (List Int)) (c:List Int),c∈ys.foldl (λcs y=>nxt (L y) cs) cs↔∃p∈cs,∃s,c=p++s/\inC L ys s
 | [],cs,c=>by
  refine ⟨λh=>(i0e c h [] ((Z0u _).symm) True.intro),?_⟩;rintro ⟨p,d,s,e,h⟩
  cases s with
  | nil=>rw [e,Z0u];exact d
  | cons a b=>exact h.elim
 | y::ys,cs,c=>by
  show c∈ys.foldl (λcs y=>nxt (L y) cs) (nxt (L y) cs)↔_;rw [C4e ys];constructor
  ·rintro ⟨p,d,s,e,h⟩;obtain ⟨q,f,d⟩:=List.mem_flatMap.mp d;obtain ⟨m,g,rfl⟩:=Z2c.mp d;have:=List.mem_range.mp g;exact i0e q f ((m:Int)::s) (by rw [e,Z0z];rfl) ⟨⟨by lia,by lia⟩,h⟩
  ·rintro ⟨q,f,s,e,h⟩
   cases s with
   | nil=>exact h.elim
   | cons a s =>
    refine i0e (q++[a]) (List.mem_flatMap.mpr (i02 q f (Z2c.mpr (i02 a.toNat (List.mem_range.mpr ?_) ?_)))) s (by rw [e,Z0z];rfl) h.2
    ·have:=h.1;lia
    ·rw [Int.toNat_of_nonneg h.1.1]
theorem A4b:c∈A1v L ys↔inC L ys c:=by
 unfold A1v;rw [C4e];constructor
 ·rintro ⟨p,a,s,e,h⟩;rw [Z0w.mp a] at e;rw [e];exact h
 ·intro h;exact i0e [] (by simp) c rfl h
theorem C2b {n:Int} (a:0<=n):∀cs:List (List Int),((nxt n cs).length:Int)=cs.length*n
 | []=>(Int.zero_mul _).symm
 | c::cs=>by
  have:=C2b a cs;unfold nxt at this⊢;rw [List.flatMap_cons,Z06,Z08,List.length_range,Int.natCast_add,this,Z0y,Int.natCast_add,Int.add_mul,Int.toNat_of_nonneg a]
  lia
theorem C2j {L:Str->Int}:∀(ys:List Str) (cs:List (List Int)),(∀y∈ys,1<=L y)->((ys.foldl (λcs y=>nxt (L y) cs) cs).length:Int)=cs.length*A3l L ys
 | [],cs,_=>(Int.mul_one _).symm
 | y::ys,cs,h=>by
  show ((ys.foldl (λcs y=>nxt (L y) cs) (nxt (L y) cs)).length:Int)=cs.length*(L y*A3l L ys);rw [C2j ys _ λz a=>h z (.tail _ a),C2b (by have:=h y (.head _);lia),Int.mul_assoc]
theorem B2s (h:∀y∈ys,1<=L y):((A1v L ys).length:Int)=A3l L ys:=by
 unfold A1v;rw [C2j ys _ h];exact Int.one_mul _
theorem A5p {L:Str->Int}:∀{ys:List Str} {c:List Int},inC L ys c->c.length=ys.length
 | [],[],_=>rfl
 | _::_,_::_,h=>congrArg (· +1) (A5p h.2)
theorem B8u (h:∀y∈ys,1<=L y) (i:Nat):A3l L (ys.take i)<=A3l L ys:=by
 have e:A3l L ys=A3l L (ys.take i)*A3l L (ys.drop i):=by rw [<-A8g,Z2e]
 have a:=A6w (L:=L) (xs:=ys.take i) λx c=>h x (Z2p c);have b:=A6w (L:=L) (xs:=ys.drop i) λx c=>h x (List.mem_of_mem_drop c);have:=Z29 b (show 0<=A3l L (ys.take i) by lia)
 lia
def B7k:Sp:=λe H Q _=>∃(l d:Addr) (a:List Str) (b:List (Key×V)),e=[.ref l,.ref d]/\H l=some (.lst (a.map V.str))/\H d=some (.dK b)/\B0d b a/\A3l (lnL b) a<=216000/\a.length<=100/\∀(q:Addr) (c:Hp),H q=none->A0u H c->C6q c q (A1v (lnL b) a)->Q (.ref q) c
theorem A7f (T:Txt K mg t):FO P w base T.c_ 1 B7k:=by
 refine T.c_.F.ok A3w (by walk_at "ln") λ_ A _ s H _ Q E hr h=> ?_
 ·obtain ⟨l,d,ys,b,rfl,hl,hd,dk,pm,a6,k⟩:=h;have hu:=A8b hr
  have B:∀y∈ys,1<=lnL b y:=λy O=>by
   obtain ⟨n,e,n1,_⟩:=dk y O;rw [A7d e];exact n1
  refine i02 _ (@RS.r _ _ _ (rq1 (rq6 2 A3w.nd (@A1r _ _ _ _ (A0a (A1z A0c) A0c))) (rq1 (rq7 (A2c (pv 0)) (A0k (i:=3) A3w.nd rfl (.inl rfl)) (rq1 (rq6 4 A3w.nd (@A1r _ _ _ _ A0c)) (rq1 (rq7 (A2c (pv 2)) (A0k (i:=5) A3w.nd rfl (.inr rfl)) (rq3 ⟨A2r (A6y Z0k PySem.F.slot_list_extend PySem.F.type_list_extend B3e (pv 4) (A0a (A4r (N':=["_law_number","_law_cell_here"]) (ix:=(List.replicate 1 none++[some 5])) rfl (A7k (x:="_law_cell_here") rfl rfl rfl (by decide +kernel) (by decide +kernel)) (A5q (N0:=["_law_number"]) rfl (.inl rfl) (by walk_at "ix")) (A4a rfl T.dj (A0a (A2v hu (pv 1) (pv 3) (λ_ _=>rfl)) A0c)) (λ_ _ _ _=>(A0k (i:=0) C4h rfl (.inl rfl))) (λ_ _ _ _=>(A0j B5w (pv 1) (A1z (A0a (pv 0) A0c))))) A0c))⟩)) (rq3 (rq6 2 A3w.nd (pv 4)))))) (rq3 (rq5 (pv 2)))))) ?_;refine ⟨A0v rfl,λe he=>⟨A0v rfl,λq M=> ?_⟩⟩;have a0:H q=none:=(A0e he).free M;have s1:A0u H (upd (upd H e (.tup [])) q (.lst [V.ref e])):=(A0e he).trans (A0e M)
  refine ⟨_,rfl,l,rfl,⟨_,SqL.of (s1 _ _ hl)⟩,A2l (K:=K) (a:=l) (xs:=ys.map V.str) (λi Z o=>∃(o3 o4 I:Option V) (q:Addr),Z=[Sro l,Sro d,Sro q,o3,o4,I]/\A0u H o/\H q=none/\C6q o q (A1v (lnL b) (ys.take i)))
   ⟨none,(i0r none none q rfl s1 a0 ⟨[e],A0b,.cons (by rw [A0i (A0z A0b M)];exact A0b) .nil⟩)⟩ (by rintro i Z o _ ⟨_,_,_,_,_,G,_⟩;exact SqL.of (G _ _ hl)) ?_ ?_⟩
  ·rintro i y Z o hi ⟨o3,o4,I,q,rfl,G,M,X⟩;obtain ⟨y,O,rfl⟩:=A6j hi;obtain ⟨n,ev,n1,a8⟩:=dk y (Z13 O);have en:lnL b y=n:=A7d ev;have cl:=B2s (L:=lnL b) (ys:=ys.take i) λx hx=>B x (Z2p hx);have pl:=B8u B i;obtain ⟨ps,S,tp⟩:=X.ex;have a2:=Paired.length tp;refine ⟨A0v rfl,λL hL=> ?_⟩;have sL:A0u o (upd o L (.lst [])):=A0e hL
   refine ⟨_,rfl,q,rfl,⟨_,SqL.of (sL _ _ S)⟩,A2l (K:=K) (a:=q) (xs:=ps.map V.ref) (λj Z p=>∃(I:Option V) (v:List Addr),Z=[Sro l,Sro d,Sro q,Sso y,Sro L,I]/\A0u o p/\p L=some (.lst (v.map V.ref))/\A4l p v (nxt n ((A1v (lnL b) (ys.take i)).take j)))
    (i0m _ [] rfl sL A0b .nil) (by rintro j Z p _ ⟨_,_,_,C,_⟩;exact SqL.of (C _ _ S)) ?_ ?_⟩
   ·rintro j z Z p hz ⟨I,v,rfl,C,Y,R⟩;obtain ⟨pc,a4,rfl⟩:=A6j hz;obtain ⟨c,hc,a5⟩:=tp.get a4;have cw:=A5p (A4b.mp (Z13 hc));rw [Z0x] at cw;have gk:=A9g.k (H:=p) (a:=d) (k:=Sum.inr y) (C _ _ (G _ _ hd));rw [ev] at gk
    have a7:v.length<=216000:=by
     have e:=Paired.length R;have e2:=C2b (n:=n) (by lia) ((A1v (lnL b) (ys.take i)).take j);have e1:(((A1v (lnL b) (ys.take i)).take j).length:Int)<=(A1v (lnL b) (ys.take i)).length:=by rw [Z0x];lia
     have e3:=Int.mul_le_mul_of_nonneg_right e1 (show 0<=n by lia);have e4:=B8u B (i+1);rw [Z14,O,A8g] at e4;have e5:A3l (lnL b) [y]=n:=by show lnL b y*1=n;rw [en,Int.mul_one]
     rw [show (some y).toList=[y] from rfl,e5,<-cl] at e4
     lia
    refine i06 _ rfl (.inl (i01 rfl _ (SqL.of Y))) (i0w _ rfl _ rfl d _ rfl gk (i0c n rfl (by lia) (by lia) λD hD=> ?_));refine B2v (D:=D) n.toNat (λm J f=>A0u p f/\f D=some (.lst J)/\∃g:List Addr,J=g.map V.ref/\g.length=m/\A4l f g ((List.range m).map λ(m:Nat)=>c++[(m:Int)])) (i0a (A0e hD) A0b [] rfl ⟨rfl,.nil⟩) (λm J f hm _=>hm) (λJ f _=>Z09 _) ?_ ?_
    ·rintro m J f hm ⟨N,h4,g,rfl,lw,t4⟩ x H5 ⟨rfl,rfl⟩;refine C5y ?_;intro N';rw [Int.zero_add];refine ⟨⟨rfl,True.intro⟩,(i0k _ rfl _ rfl (A0v rfl) λu a3=> ?_)⟩;have W:A0u H5 (upd H5 u (.tup [V.int (m:Int)])):=A0e a3;refine i10 pc u (c.map V.int) [V.int (m:Int)] rfl rfl (W _ _ (N _ _ (C _ _ a5))) A0b (A2a (by simp;lia)) λq' H6 s6 a1=> ?_;have h6:=s6 _ _ (W _ _ h4);refine i09 h6 (A1l (by rw [Z08];lia)) (A0o (N.trans (W.trans s6)) hD) A0b (i06 (g++[q']) (by simp) (by simp [lw]) ?_);rw [List.range_succ,Z0s];have kD:KT H6 (upd H6 D (.lst (g.map V.ref++[.ref q']))):=KT.at h6 (by intro xs z;cases z);exact A4l.snoc (kD _ _ (by rw [a1,Z0s];rfl)) ((t4.same (W.trans s6)).imp kD)
    ·rintro J f ⟨N,h4,g,rfl,lw,t4⟩;have U:=N _ _ Y;refine i10 L D _ _ rfl rfl U h4 (A2a (by rw [Z08,Z08];lia)) ?_;have kL:KT f (upd f L (.lst (v.map V.ref++g.map V.ref))):=KT.at U (by intro xs z;cases z);refine i0m _ (v++g) rfl (A0o (C.trans N) hL) (by rw [A0b,Z0s]) ?_
     have e:nxt n ((A1v (lnL b) (ys.take i)).take (j+1))=nxt n ((A1v (lnL b) (ys.take i)).take j)++(List.range n.toNat).map λ(m:Nat)=>c++[(m:Int)]:=by
      rw [Z14,hc];simp [nxt]
     rw [e];exact B2p ((R.same N).imp kL) (t4.imp kL)
   ·rintro Z p ⟨I,v,rfl,C,Y,R⟩;refine i0z _ rfl _ _ _ L rfl (G.trans C) (G.free hL) ⟨v,Y,?_⟩;rw [Z08,a2,Z18] at R;rw [C5u O,en];exact R
  ·rintro Z o ⟨o3,o4,I,q,rfl,G,M,X⟩;rw [Z08,Z18] at X;exact i02 _ rfl (k q o M G X)
def C6r:Sp:=λe H Q _=>∃(v:V) (d:Addr) (a:List (Str×Int)) (c:List (Key×V)) (ρ:Env),e=[v,.ref d]/\Rep H v (A5b a)/\H d=some (.dK c)/\(∀x,(A5l c (Sum.inr x)).getD (.int 0)= .int (ρ x))/\a.length<=1000/\∀(q:Addr) (b:Hp),A0u H b->b q=some (.tup ((A5y ρ a).map V.int))->Q (.ref q) b
theorem C9c (T:Txt K mg t):FO P w base T.ul 1 C6r:=by
 refine T.ul.F.ok A8e (by walk_at "ln") λ_ A _ s H _ Q E hr h=> ?_
 ·obtain ⟨v,d,I,ak,ρ,rfl,U,C,X,l1,k⟩:=h;have W:=A8b hr;refine i02 _ (@RS.r _ _ _ (rq1 (rq6 2 A8e.nd (A1z A0c)) (rq1 (rq7 (A2c (pv 0)) (A3q (n:=2) rfl (A0r (A0k (i:=3) A8e.nd rfl (.inl rfl)) (A0r (A0k (i:=4) A8e.nd rfl (.inl rfl)) A2p))) (rq3 (rq6 2 A8e.nd (A0j B5w (pv 2) (A1z (A0a (A0j A2h (C3l W (pv 1) (pv 3) A0d ⟨rfl,rfl,rfl,rfl⟩) (pv 4)) A0c)))))) (rq3 (rq5 (pv 2)))))) ?_;refine ⟨A0v rfl,λe Y=> ?_⟩;obtain ⟨l,L,rfl,D,J⟩:=A5v (show Rep H v (.list (I.map B1o)) from U);have g:=J.len;rw [Z08] at g;have G:A0u H (upd H e (.tup [])):=A0e Y;refine i0k _ rfl l rfl ⟨_,SqL.of (G _ _ D)⟩ (A2l (K:=K) (a:=l) (xs:=L) (λi Z c=>∃(y o:Option V) (q:Addr),Z=[Sro l,Sro d,Sro q,y,o]/\A0u H c/\c q=some (.tup ((A5y ρ (I.take i)).map V.int))) (i0n none none e rfl G A0b) (by rintro i Z c _ ⟨_,_,_,_,f,_⟩;exact SqL.of (f _ _ D)) ?_ ?_)
  ·rintro i x Z c N ⟨y,o,q,rfl,f,m⟩;have hi:i<L.length:=(Z03.mp N).1;obtain ⟨j,z,R⟩:=C1s J N;obtain ⟨b,rfl,S⟩:=D6w R;refine i1a b _ rfl (SqT.of (f _ _ S)) rfl _ _ rfl _ _ rfl rfl (i02 _ rfl (i0k _ rfl d rfl (.inl ⟨_,.inl (f _ _ C)⟩) (i12 _ rfl _ (A9g.k (k:=Sum.inr j.1) (f _ _ C)) _ rfl _ _ (X j.1) rfl ⟨A0v rfl,λu p=> ?_⟩)));have M:A0u c (upd c u (.tup [V.int (ρ j.1+j.2)])):=A0e p;refine i10 q u _ _ rfl rfl (M _ _ m) A0b (A2a (by simp [A5y];lia)) λO H3 s4 B=>(i0n _ _ O rfl (f.trans (M.trans s4)) ?_);rw [B,Z14,z];simp [A5y]
  ·rintro Z c ⟨y,o,q,rfl,f,m⟩;rw [g,Z18] at m;exact i02 _ rfl (k q c f m)
theorem B1h:∀{xs:List Int},¬A6u xs xs
 | [],h=>h
 | a::as,h=>h.elim (λz=>by lia) λz=>B1h z.2
def LnN (nm:List Str) (e:Ln):Prop:=(e.2.1++e.2.2.1).Nodup/\∀x∈e.2.1++e.2.2.1,x∈nm
theorem B9p {nm:List Str} (f:nm.Nodup) (k:pend.Nodup) (sp:∀x∈pend,x∈nm) (h:∀e∈r.2.2,LnN nm e):∀e∈(fin nm pend g r).2.2,LnN nm e:=by
 cases pend with
 | nil=>exact h
 | cons x s =>
  intro e d;rcases Z07.mp d with d | d
  ·exact h e d
  ·rw [Z0w.mp d];refine ⟨Z0l.mpr (i00 (f.sublist List.filter_sublist) k λa j b l i=> ?_),λy c=> ?_⟩
   ·have:=(List.mem_filter.mp j).2;rw [Z1x] at this;exact of_decide_eq_true this.2 (i▸l)
   ·rcases Z07.mp c with c | c
    ·exact (List.mem_filter.mp c).1
    ·exact sp y c
theorem C5f {nm:List Str} (c:nm.Nodup):∀(u:Tm) (sc pend:List Str) (g:List Gd) (z:LS),A6p nm (sc++pend) u->pend.Nodup->(∀x∈pend,x∈nm)->(∀e∈z.2,LnN nm e)->∀e∈(wsP nm u pend g z).2.2,LnN nm e
 | .num _,_,_,_,_,_,np,sp,h=>B9p (r:=(.num _,_)) c np sp h
 | .place _,_,_,_,_,_,np,sp,h=>B9p (r:=(.place _,_)) c np sp h
 | .read _ _,_,_,_,_,_,np,sp,h=>B9p (r:=(.read _ _,_)) c np sp h
 | .sum x b,sc,pend,g,z,ti,np,sp,h=>by
  refine C5f c b sc (pend++[x]) g z (by rw [<-Z0z];exact ti.2.2) (Z0l.mpr (i00 np (by simp) λa i b j e=> ?_)) (λy f=> ?_) h
  ·rw [Z0w.mp j] at e;exact ti.2.1 (Z07.mpr (.inr (e▸i)))
  ·rcases Z07.mp f with f | f
   ·exact sp y f
   ·rw [Z0w.mp f];exact ti.1
 | .pair k l r,sc,pend,g,z,ti,np,sp,h=>B9p (r:=(.pair _ _ _,_)) c np sp (C5f c r (sc++pend) [] _ _ (by rw [Z0u];exact ti.2) .nil (λx d=>by cases d) (C5f c l (sc++pend) [] _ _ (by rw [Z0u];exact ti.1) .nil (λx d=>by cases d) h))
 | .guard x lo hi l r,sc,pend,g,z,ti,np,sp,h=>B9p (r:=(.guard _ _ _ _ _,_)) c np sp (C5f c r (sc++pend) [] _ _ (by rw [Z0u];exact ti.2.2) .nil (λx d=>by cases d) (C5f c l (sc++pend) [] _ _ (by rw [Z0u];exact ti.2.1) .nil (λx d=>by cases d) h))
theorem E0w {lk:List (Key×V)} {tb:List (Str×List Str)} {nm:List Str} {ls:List Lt} (g:nm.Nodup) (l:∀(j:Nat) (e:Lt),ls[j]? =some e->LtS lk nm (tb++C6c (ls.take j)) e):∀i,i<=ls.length->∀e∈(duP nm (ls.take i)).2,LnN nm e
 | 0,_=>λe t=>by cases t
 | i+1,hi=>by
  have h:ls[i]? =some ls[i]:=Z0b (by lia);have n:=E0w g l i (by lia);obtain ⟨k,u,o,c,b,m⟩:=(l i _ h).ex;rw [B0g h];generalize ls[i]=e at o c b m;generalize duP nm (ls.take i)=z at n;have s:A6p nm e.2.1 e.2.2:=by rw [o];exact B6s m.ti c λx a=>b x (Z07.mpr (.inr a))
  obtain ⟨r,p,q⟩:=C3u s (Z0l.mp c).1;intro f d;rcases Z07.mp d with d | d
  ·exact C5f g (inS e.2.2) (e.2.1++A3o e.2.2) [] [] z (by rw [Z0u];exact r) .nil (λx a=>by cases a) n f d
  ·rw [Z0w.mp d];refine ⟨q,λx a=> ?_⟩;rcases Z07.mp a with a | a
   ·exact b x (Z07.mpr (.inl a))
   ·exact p x a
def A5z:List Str->List Int->Env
 | x::xs,c::cs=>λy=>if y=x then c else A5z xs cs y
 | _,_=>λ_=>0
theorem C0o:∀{xs:List Str} {cs:List Int},xs.Nodup->cs.length=xs.length->xs.map (A5z xs cs)=cs
 | [],[],_,_=>rfl
 | x::xs,c::cs,n,l=>by
  have a:=Z15.mp n;rw [Z0p];congr 1
  ·show (if x=x then c else _)=c;rw [Z12 rfl]
  ·have h:∀y∈xs,A5z (x::xs) (c::cs) y=A5z xs cs y:=λy b=>by
    show (if y=x then c else A5z xs cs y)=_;rw [Z0t λe:y=x=>a.1 (e▸b)]
   rw [List.map_congr_left h];exact C0o a.2 (Nat.succ.inj l)
theorem B1r:∀{xs:List Str} {cs:List Int} {y:Str},y∉xs->A5z xs cs y=0
 | [],_,_,_=>rfl
 | _::_,[],_,_=>rfl
 | x::xs,c::cs,y,h=>by
  show (if y=x then c else A5z xs cs y)=0;rw [Z0t λe:y=x=>h (e▸.head _)];exact B1r λa=>h (.tail _ a)
theorem C6h {L:Str->Int}:∀{xs:List Str} {cs:List Int},inC L xs cs->∀x∈xs,0<=A5z xs cs x/\A5z xs cs x<L x
 | x::xs,c::cs,h,y,a=>by
  show 0<=(if y=x then c else A5z xs cs y)/\(if y=x then c else A5z xs cs y)<L y;by_cases e:y=x
  ·rw [Z12 e,e];exact h.1
  ·rw [Z0t e];rcases Z0e.mp a with a | a
   ·exact absurd a e
   ·exact C6h h.2 y a
theorem C1f {L:Str->Int}:∀{xs:List Str} {cs:List Int} {ys:List Str} {ds:List Int},inC L xs cs->inC L ys ds->inC L (xs++ys) (cs++ds)
 | [],[],_,_,_,h=>h
 | _::_,_::_,_,_,h,k=>⟨h.1,C1f h.2 k⟩
theorem C0q {L:Str->Int} {M:Int} (e:1<=M):∀{xs:List Str},(∀x∈xs,1<=L x/\L x<=M)->A3l L xs<=M^xs.length
 | [],_=>by show (1:Int)<=M^0;rw [Int.pow_zero];decide
 | x::xs,h=>by
  have a:=h x (.head _);have b:=C0q e λy d=>h y (.tail _ d);have c:=A6w (L:=L) (xs:=xs) λy d=>(h y (.tail _ d)).1;show L x*A3l L xs<=M^(xs.length+1);rw [Int.pow_succ,Int.mul_comm];exact Int.mul_le_mul b a.2 (by lia) (by lia)
theorem E3w (h:AxL ax) {e:Str×Int} (k:e∈ax):lnL (A2g ax) e.1=e.2:=by
 obtain ⟨i,j,d⟩:=List.mem_iff_getElem.mp k;refine A7d (C3f (i:=i) ?_ ?_)
 ·have g:(A2g ax).map (·.1)=(ax.map (·.1)).map (Sum.inr:Str->Key):=by unfold A2g;rw [List.map_map,List.map_map];rfl
  rw [g];exact h.2.2.1.map (f:=(Sum.inr:Str->Key)) λa b c z=>c (Sum.inr.inj z)
 ·unfold A2g;rw [Z1z,Z0b j,d];rfl
theorem D5r (h:AxL ax) (b:Bd ax.length ax):A3l (lnL (A2g ax)) (ax.map (·.1))<=8000:=by
 have c:=λe t=>E3w h (e:=e) t;have j:=h.1;have m:=h.2.2.2;generalize lnL (A2g ax)=L at c
 cases ax with
 | nil=>show (1:Int)<=8000;decide
 | cons e r =>
  have g:=(j e (.head _))
  have l:∀x∈r.map (·.1),1<=L x/\L x<=mxL (r.length+1):=λx d=>by
   obtain ⟨f,a,rfl⟩:=Z2c.mp d;rw [c f (.tail _ a)];obtain ⟨i,p,q⟩:=List.mem_iff_getElem.mp a;exact ⟨(j f (.tail _ a)).1,b (i+1) f (by rw [List.getElem?_cons_succ,Z0b p,q]) (by lia)⟩
  have u:=A6w (L:=L) (xs:=r.map (·.1)) λx d=>(l x d).1;have k:=C0q (by unfold mxL;split <;> decide) l;rw [Z08] at k
  have o:mxL (r.length+1)^r.length<=128:=by
   have s:r.length<=7:=by simp at m;lia
   generalize r.length=n at s;unfold mxL;have:∀n:Nat,n<8->(if 4<n+1 then (2:Int) else 4)^n<=128:=by decide
   exact this n (by lia)
  show L e.1*A3l L (r.map (·.1))<=8000;rw [c e (.head _)];have:=Int.mul_le_mul g.2 (Int.le_trans k o) (by lia) (by decide)
  lia
def opI:Op3->Int->Int->Int
 | .plus,a,b=>a+b
 | .minus,a,b=>a-b
 | .times,a,b=>a*b
def B5z (f:Nat->Int):Nat->Int
 | 0=>0
 | n+1=>B5z f n+f n
def B4c {α:Type} (f:α->Int):List α->Int
 | []=>0
 | x::r=>f x+B4c f r
theorem B2o {α:Type} (f:α->Int):∀xs ys:List α,B4c f (xs++ys)=B4c f xs+B4c f ys
 | [],ys=>(Int.zero_add _).symm
 | x::xs,ys=>by show f x+B4c f (xs++ys)=f x+B4c f xs+B4c f ys;rw [B2o f xs ys,Int.add_assoc]
theorem C3i {α β:Type} (f:β->Int) (g:α->β):∀xs:List α,B4c f (xs.map g)=B4c (λx=>f (g x)) xs
 | []=>rfl
 | x::xs=>by show f (g x)+B4c f (xs.map g)=_;rw [C3i f g xs];rfl
theorem A8y {α:Type} {f g:α->Int}:∀{xs:List α},(∀x∈xs,f x=g x)->B4c f xs=B4c g xs
 | [],_=>rfl
 | x::xs,h=>by show f x+_=g x+_;rw [h x (.head _),A8y λy a=>h y (.tail _ a)]
theorem B9w {α β:Type} (f:β->Int) (g:α->List β):∀xs:List α,B4c f (xs.flatMap g)=B4c (λx=>B4c f (g x)) xs
 | []=>rfl
 | x::xs=>by rw [List.flatMap_cons,B2o,B9w f g xs];rfl
theorem B5r (f:Nat->Int):∀n:Nat,B4c f (List.range n)=B5z f n
 | 0=>rfl
 | n+1=>by rw [List.range_succ,B2o,B5r f n];show _+(f n+0)=_;rw [Int.add_zero];rfl
theorem A9a {f g:Nat->Int}:∀{n:Nat},(∀i,i<n->f i=g i)->B5z f n=B5z g n
 | 0,_=>rfl
 | n+1,h=>by show B5z f n+f n=B5z g n+g n;rw [A9a λi a=>h i (by lia),h n (by lia)]
theorem B6w (f:Nat->Int) (W:Int):∀n:Nat,B5z (λi=>f i%W) n%W=B5z f n%W
 | 0=>rfl
 | n+1=>by
  show (B5z (λi=>f i%W) n+f n%W)%W=(B5z f n+f n)%W;rw [Int.add_emod,B6w f W n,Int.emod_emod_of_dvd _ (Int.dvd_refl W),<-Int.add_emod]
abbrev C8l:=Str->List Int->Int
def A3n (L:Str->Int) (W:Int) (N:C8l):Env->Tm->Int
 | _,.num z=>z%W
 | ρ,.place x=>ρ x%W
 | ρ,.read a ix=>N a (A5y ρ ix)
 | ρ,.guard x lo hi l r=>if lo<=ρ x/\ρ x<hi then A3n L W N ρ l else A3n L W N ρ r
 | ρ,.pair o l r=>opI o (A3n L W N ρ l) (A3n L W N ρ r)%W
 | ρ,.sum x b=>B5z (λi=>A3n L W N (B2n ρ x (i:Int)) b) (L x).toNat%W
theorem C9f {a:Env}:∀{ix:List (Str×Int)},(∀e∈ix,ρ e.1=a e.1)->A5y ρ ix=A5y a ix:=λ{ix} h=>List.map_congr_left λe b=>by show ρ e.1+e.2=a e.1+e.2;rw [h e b]
theorem A9v {L:Str->Int} {W:Int} {N:C8l} {nm:List Str}:∀{u:Tm} {sc:List Str} {ρ c:Env},A6p nm sc u->(∀x∈sc,ρ x=c x)->ρ ""=c ""->A3n L W N ρ u=A3n L W N c u
 | .num _,_,_,_,_,_,_=>rfl
 | .place x,_,ρ,c,t,h,_=>by show ρ x%W=c x%W;rw [h x t]
 | .read a ix,_,ρ,c,t,h,h0=>by
  show N a (A5y ρ ix)=N a (A5y c ix);rw [C9f λe f=> ?_];rcases t e f with z | z
  ·rw [z];exact h0
  ·exact h _ z
 | .guard x lo hi l r,_,ρ,c,t,h,h0=>by
  show (if lo<=ρ x/\ρ x<hi then A3n L W N ρ l else A3n L W N ρ r)=if lo<=c x/\c x<hi then A3n L W N c l else A3n L W N c r
  rw [h x t.1,A9v t.2.1 h h0,A9v t.2.2 h h0]
 | .pair o l r,_,ρ,c,t,h,h0=>by
  show opI o (A3n L W N ρ l) (A3n L W N ρ r)%W=opI o (A3n L W N c l) (A3n L W N c r)%W;rw [A9v t.1 h h0,A9v t.2 h h0]
 | .sum x b,sc,ρ,c,t,h,h0=>by
  show B5z (λi=>A3n L W N (B2n ρ x (i:Int)) b) (L x).toNat%W=B5z (λi=>A3n L W N (B2n c x (i:Int)) b) (L x).toNat%W;congr 1;refine A9a λi _=>A9v t.2.2 (λy d=> ?_) ?_
  ·unfold B2n;by_cases e:y=x
   ·rw [Z12 e,Z12 e]
   ·rw [Z0t e,Z0t e];rcases Z07.mp d with d | d
    ·exact h y d
    ·exact absurd (Z0w.mp d) e
  ·unfold B2n;by_cases e:("":Str)=x
   ·rw [Z12 e,Z12 e]
   ·rw [Z0t e,Z0t e,h0]
abbrev PrP:=Str->List Int->Prop
abbrev okC (pr:PrP):OkP:=λ_ a c=>pr a c
theorem A5r {L:Str->Int} {W:Int} {N N':C8l} {pr:PrP} (h:∀a c,pr a c->N a c=N' a c):∀{u:Tm} {ρ:Env},A1y L (okC pr) (okC pr) ρ u->A3n L W N ρ u=A3n L W N' ρ u
 | .num _,_,_=>rfl
 | .place _,_,_=>rfl
 | .read _ _,_,s=>h _ _ s
 | .guard x lo d l r,ρ,s=>by
  show (if lo<=ρ x/\ρ x<d then A3n L W N ρ l else A3n L W N ρ r)=if lo<=ρ x/\ρ x<d then A3n L W N' ρ l else A3n L W N' ρ r
  by_cases hc:lo<=ρ x/\ρ x<d
  ·rw [Z12 hc,Z12 hc];exact A5r h (s.1 hc)
  ·rw [Z0t hc,Z0t hc];exact A5r h (s.2 hc)
 | .pair o l r,ρ,s=>by
  show opI o (A3n L W N ρ l) (A3n L W N ρ r)%W=opI o (A3n L W N' ρ l) (A3n L W N' ρ r)%W;rw [A5r h s.1,A5r h s.2]
 | .sum x b,ρ,s=>by
  show B5z (λi=>A3n L W N (B2n ρ x (i:Int)) b) (L x).toNat%W=B5z (λi=>A3n L W N' (B2n ρ x (i:Int)) b) (L x).toNat%W;congr 1;exact A9a λi d=>A5r h (s (i:Int) (by lia) (by lia))
theorem A9k {L:Str->Int} {okn:OkP} {pr:PrP} (b:∀ρ a c,okn ρ a c->pr a c):∀{u:Tm} {d:OkP} {ρ:Env},(∀a c,d ρ a c->pr a c)->A1y L okn d ρ u->A1y L (okC pr) (okC pr) ρ u
 | .num _,_,_,_,_=>True.intro
 | .place _,_,_,_,_=>True.intro
 | .read _ _,_,_,h,s=>h _ _ s
 | .sum _ _,_,_,_,s=>λi f e=>A9k b (λa c z=>b _ a c z) (s i f e)
 | .pair _ l r,_,_,h,s=>⟨A9k b h s.1,A9k b h s.2⟩
 | .guard _ _ _ l r,_,_,h,s=>⟨λz=>A9k b h (s.1 z),λz=>A9k b h (s.2 z)⟩
theorem B3w {L:Str->Int} {pr:PrP}:∀{u:Tm} {ρ:Env},nsM u->(∀p∈A5h ρ u,pr p.1 p.2)->A1y L (okC pr) (okC pr) ρ u
 | .num _,_,_,_=>True.intro
 | .place _,_,_,_=>True.intro
 | .read a ix,ρ,_,h=>h (a,A5y ρ ix) (.head _)
 | .sum _ _,_,n,_=>n.elim
 | .pair _ l r,_,n,h=>⟨B3w n.1 λp b=>h p (Z07.mpr (.inl b)),B3w n.2 λp b=>h p (Z07.mpr (.inr b))⟩
 | .guard x lo hi l r,ρ,n,h=>by
  have h:∀p∈(if lo<=ρ x/\ρ x<hi then A5h ρ l else A5h ρ r),pr p.1 p.2:=h;refine ⟨λz=> ?_,λz=> ?_⟩
  ·rw [Z12 z] at h;exact B3w n.1 h
  ·rw [Z0t z] at h;exact B3w n.2 h
def C6j (ρ:Env):List Str->List Int->Env
 | x::xs,c::cs=>C6j (B2n ρ x c) xs cs
 | _,_=>ρ
theorem A4w {y:Str}:∀{xs:List Str} {cs:List Int} {ρ:Env},y∉xs->C6j ρ xs cs y=ρ y
 | [],_,_,_=>rfl
 | _::_,[],_,_=>rfl
 | x::xs,c::cs,ρ,h=>by
  show C6j (B2n ρ x c) xs cs y=ρ y;rw [A4w λz=>h (.tail _ z)];exact Z0t λe:y=x=>h (e▸.head _)
theorem B7j {y:Str}:∀{xs:List Str} {cs:List Int} {ρ:Env},xs.Nodup->cs.length=xs.length->y∈xs->C6j ρ xs cs y=A5z xs cs y
 | x::xs,c::cs,ρ,n,l,h=>by
  have a:=Z15.mp n;show C6j (B2n ρ x c) xs cs y=if y=x then c else A5z xs cs y
  by_cases e:y=x
  ·rw [Z12 e,e,A4w a.1];exact Z12 rfl
  ·rw [Z0t e];exact B7j a.2 (Nat.succ.inj l) ((Z0e.mp h).resolve_left e)
theorem C2c {y:Str}:∀{xs:List Str} {cs:List Int} {ys:List Str} {ds:List Int},cs.length=xs.length->A5z (xs++ys) (cs++ds) y=if y∈xs then A5z xs cs y else A5z ys ds y
 | [],[],ys,ds,_=>by rw [Z0t (by simp)];rfl
 | x::xs,c::cs,ys,ds,l=>by
  show (if y=x then c else A5z (xs++ys) (cs++ds) y)=if y∈x::xs then (if y=x then c else A5z xs cs y) else A5z ys ds y
  rw [C2c (Nat.succ.inj l)];by_cases e:y=x
  ·rw [Z12 e,Z12 (by rw [e];exact .head _),Z12 e]
  ·rw [Z0t e,Z0t e];by_cases h:y∈xs
   ·rw [Z12 h,Z12 (.tail _ h)]
   ·rw [Z0t h,Z0t λz=>h ((Z0e.mp z).resolve_left e)]
theorem B1e {L:Str->Int}:∀(ys:List Str) (cs:List (List Int)),ys.foldl (λcs y=>nxt (L y) cs) cs=cs.flatMap λp=>(A1v L ys).map λs=>p++s
 | [],cs=>by
  show cs=cs.flatMap λp=>[p++[]]
  induction cs with
  | nil=>rfl
  | cons c cs ih=>rw [List.flatMap_cons,<-ih,Z0u];rfl
 | y::ys,cs=>by
  show ys.foldl (λcs y=>nxt (L y) cs) (nxt (L y) cs)=cs.flatMap λp=>(ys.foldl (λcs y=>nxt (L y) cs) (nxt (L y) [[]])).map λs=>p++s;rw [B1e ys,B1e ys];unfold nxt;rw [List.flatMap_assoc];congr 1;funext p;simp [List.flatMap_map,List.map_flatMap,Function.comp_def]
theorem B5u (x:Str) (xs:List Str):A1v L (x::xs)=(List.range (L x).toNat).flatMap λ(i:Nat)=>(A1v L xs).map λs=>(i:Int)::s:=by
 show xs.foldl (λa y=>nxt (L y) a) (nxt (L x) [[]])=_;rw [B1e];unfold nxt;simp [List.flatMap_map,Function.comp_def]
theorem B6f {L:Str->Int} {W:Int} {N:C8l} {u:Tm}:∀(s:List Str) (ρ:Env),B4c (λt=>A3n L W N (C6j ρ s t) u) (A1v L s)%W=A3n L W N ρ (B2u s u)%W/\(s≠[]->A3n L W N ρ (B2u s u)%W=A3n L W N ρ (B2u s u))
 | [],ρ=>⟨by show (A3n L W N ρ u+0)%W=_;rw [Int.add_zero];rfl,λh=>absurd rfl h⟩
 | x::s,ρ=>by
  have a:A3n L W N ρ (B2u (x::s) u)%W=A3n L W N ρ (B2u (x::s) u):=by
   show B5z (λi=>A3n L W N (B2n ρ x (i:Int)) (B2u s u)) (L x).toNat%W%W=B5z _ _%W;exact Int.emod_emod_of_dvd _ (Int.dvd_refl W)
  refine ⟨?_,λ_=>a⟩;rw [a,B5u,B9w,B5r];show _=B5z (λi=>A3n L W N (B2n ρ x (i:Int)) (B2u s u)) (L x).toNat%W;rw [<-B6w,<-B6w (λi=>A3n L W N (B2n ρ x (i:Int)) (B2u s u))];congr 1;refine A9a λi _=> ?_;rw [C3i];exact (B6f s (B2n ρ x (i:Int))).1
theorem B8m {x:Str} {u:Tm}:∀s:List Str,B2u (s++[x]) u=B2u s (.sum x u)
 | []=>rfl
 | y::s=>by show Tm.sum y (B2u (s++[x]) u)=_;rw [B8m s];rfl
theorem C3d:∀u:Tm,B2u (A3o u) (inS u)=u
 | .num _=>rfl
 | .place _=>rfl
 | .read _ _=>rfl
 | .pair _ _ _=>rfl
 | .guard _ _ _ _ _=>rfl
 | .sum x b=>by show Tm.sum x (B2u (A3o b) (inS b))=_;rw [C3d b]
def C8q (L:Str->Int) (W:Int) (N:C8l) (e:Ln) (c:List Int):Int:=B4c (λt=>A3n L W N (A5z (e.2.1++e.2.2.1) (c++t)) e.2.2.2) (A1v L e.2.2.1)%W
def D8j (L:Str->Int) (W:Int) (N:C8l) (e:Ln):Prop:=∀c,inC L e.2.1 c->N e.1 c=C8q L W N e c
theorem A9w {kn:List Str} {e:Ln} (h:e∈r.2.2):e∈(fin kn pend g r).2.2:=by
 cases pend with
 | nil=>exact h
 | cons x s=>exact Z07.mpr (.inl h)
theorem B0p {kn:List Str} {e:Ln}:∀(u:Tm) (pend:List Str) (g:List Gd) (z:LS),e∈z.2->e∈(wsP kn u pend g z).2.2
 | .num _,_,_,_,h=>A9w (r:=(.num _,_)) h
 | .place _,_,_,_,h=>A9w (r:=(.place _,_)) h
 | .read _ _,_,_,_,h=>A9w (r:=(.read _ _,_)) h
 | .sum x b,pend,g,z,h=>B0p b (pend++[x]) g z h
 | .pair _ l r,_,_,_,h=>A9w (r:=(.pair _ _ _,_)) (B0p r _ _ _ (B0p l _ _ _ h))
 | .guard _ _ _ l r,_,_,_,h=>A9w (r:=(.guard _ _ _ _ _,_)) (B0p r _ _ _ (B0p l _ _ _ h))
theorem D3x {L:Str->Int} {W:Int} {N:C8l} {ρ:Env} {u:Tm}:∀{g:List Gd},C1c g ρ->A3n L W N ρ (gdM g u)=A3n L W N ρ u
 | [],_=>rfl
 | (x,lo,hi,b)::g,h=>by
  have a:=D3x (L:=L) (W:=W) (N:=N) (u:=u) λe d=>h e (.tail _ d);have c:=h _ (.head _)
  cases b with
  | true =>
   show (if lo<=ρ x/\ρ x<hi then A3n L W N ρ (gdM g u) else _)=_;rw [Z12 (c.mp rfl)];exact a
  | false =>
   show (if lo<=ρ x/\ρ x<hi then _ else A3n L W N ρ (gdM g u))=_;rw [Z0t λz=>Z0v (c.mpr z)];exact a
structure WsV (L:Str->Int) (W:Int) (N:C8l) (nm sc:List Str) (g:List Gd) (u:Tm) (r:Tm):Prop where
 ns:nsM r
 ti:A6p nm sc r
 v:∀ρ,InR L sc ρ->C1c g ρ->A3n L W N ρ r=A3n L W N ρ u
theorem D9y {ρ:Env}:∀ys:List Str,A5y ρ (ys.map λx=>(x,(0:Int)))=ys.map ρ
 | []=>rfl
 | y::ys=>by show (ρ y+0)::A5y ρ (ys.map λx=>(x,(0:Int)))=_;rw [D9y ys,Int.add_zero];rfl
theorem C9u {L:Str->Int} {ρ:Env}:∀{ys:List Str},(∀x∈ys,0<=ρ x/\ρ x<L x)->inC L ys (ys.map ρ)
 | [],_=>True.intro
 | y::ys,h=>⟨h y (.head _),C9u λx a=>h x (.tail _ a)⟩
theorem C2s {ρ:Env} {y:Str}:∀{ys:List Str},y∈ys->A5z ys (ys.map ρ) y=ρ y
 | x::ys,h=>by
  show (if y=x then ρ x else A5z ys (ys.map ρ) y)=ρ y;by_cases e:y=x
  ·rw [Z12 e,e]
  ·rw [Z0t e];exact C2s ((Z0e.mp h).resolve_left e)
theorem C3v {t:List Int} (b:InR L sc ρ) (e:¬("":Str)∈pend) (c:pend.Nodup) (a:inC L pend t):InR L (sc++pend) (C6j ρ pend t):=by
 have d:=A5p a;refine ⟨by rw [A4w e];exact b.1,λx f=> ?_⟩;by_cases hp:x∈pend
 ·rw [B7j c d hp];exact C6h a x hp
 ·rw [A4w hp];exact b.2 x ((Z07.mp f).resolve_right hp)
theorem B4f {N:C8l} {nm:List Str} (c:WsC L nm sc pend g) (nd:(sc++pend).Nodup) (y:∀e∈(fin nm pend g r).2.2,D8j L W N e) (h:WsV L W N nm (sc++pend) g u r.1):WsV L W N nm sc g (B2u pend u) (fin nm pend g r).1:=by
 by_cases hp:pend=[]
 ·subst hp;rw [Z0u] at h;exact h
 ·rw [C8t hp] at y⊢;have f:=D7o h.ns g;have d:A6p nm (sc++pend) (gdM g r.1):=D8a h.ti g λe i=>Z07.mpr (.inl (c.g e i));have B:=y (lfL nm pend r.2.1 (gdM g r.1)) (Z07.mpr (.inr (.head _)));obtain ⟨_,A,w⟩:=Z0l.mp nd;have C:∀ρ,InR L (sc++pend) ρ->C1c g ρ->A3n L W N ρ (gdM g r.1)=A3n L W N ρ u:=λρ k m=>by rw [D3x m];exact h.v ρ k m
  clear h y;generalize gdM g r.1=b at f d B C
  have j:∀x∈B3c nm pend b,x∈sc:=λx a=>by
   obtain ⟨_,J,I⟩:=A8w.mp a;rcases Z07.mp (A8f f d J) with z | z
   ·exact z
   ·exact absurd z I
  have o:A6p nm (B3c nm pend b++pend) b:=B1a (s:=[]) (g:=[]) f d (λx K a=>by
   by_cases hq:x∈pend
   ·exact Z07.mpr (.inr hq)
   ·exact Z07.mpr (.inl (A8w.mpr (i00 (c.s x (A8f f d a)) a hq)))) λx a=>c.n x (c.s x a)
  have q:¬("":Str)∈B3c nm pend b++pend:=λz=>by
   rcases Z07.mp z with z | z
   ·exact c.n _ (A8w.mp z).1 rfl
   ·exact c.n _ (c.s _ (Z07.mpr (.inr z))) rfl
  refine ⟨True.intro,λe i=> ?_,λρ k m=> ?_⟩
  ·obtain ⟨x,a,rfl⟩:=Z2c.mp i;exact .inr (j x a)
  ·show N (sN r.2.1) (A5y ρ ((B3c nm pend b).map λx=>(x,(0:Int))))=_;rw [D9y];have H:N (sN r.2.1) ((B3c nm pend b).map ρ)=C8q L W N (lfL nm pend r.2.1 b) ((B3c nm pend b).map ρ):=B _ (C9u λx a=>k.2 x (j x a));rw [H];show B4c (λt=>A3n L W N (A5z (B3c nm pend b++pend) ((B3c nm pend b).map ρ++t)) b) (A1v L pend)%W=_;obtain ⟨G,D⟩:=B6f (L:=L) (W:=W) (N:=N) (u:=u) pend ρ;rw [<-D hp,<-G];congr 1;refine A8y λt l=> ?_;have l:=A4b.mp l;have F:=A5p l;rw [<-C (C6j ρ pend t) (C3v k (λz=>q (Z07.mpr (.inr z))) A l) λe i=>by rw [A4w λz=>w _ (c.g e i) _ z rfl];exact m e i];refine A9v o (λx a=> ?_) ?_
   ·rw [C2c (by rw [Z08])];by_cases hq:x∈B3c nm pend b
    ·rw [Z12 hq,C2s hq,A4w (A8w.mp hq).2.2]
    ·have p:=(Z07.mp a).resolve_left hq;rw [Z0t hq,B7j A F p]
   ·rw [B1r q,A4w λz=>q (Z07.mpr (.inr z)),k.1]
theorem B5n {L:Str->Int} {W:Int} {N:C8l} {nm:List Str}:∀(u:Tm) (sc pend:List Str) (g:List Gd) (z:LS),WsC L nm sc pend g->(sc++pend).Nodup->A6p nm (sc++pend) u->(∀e∈(wsP nm u pend g z).2.2,D8j L W N e)->WsV L W N nm sc g (B2u pend u) (wsP nm u pend g z).1
 | .num n,sc,pend,g,z,c,nd,d,hl=>B4f c nd (r:=(.num n,z)) hl ⟨True.intro,True.intro,λ_ _ _=>rfl⟩
 | .place x,sc,pend,g,z,c,nd,d,hl=>B4f c nd (r:=(.place x,z)) hl ⟨True.intro,d,λ_ _ _=>rfl⟩
 | .read a ix,sc,pend,g,z,c,nd,d,hl=>B4f c nd (r:=(.read a ix,z)) hl ⟨True.intro,d,λ_ _ _=>rfl⟩
 | .sum x b,sc,pend,g,z,c,nd,d,hl=>by
  have e:sc++(pend++[x])=sc++pend++[x]:=(Z0z _ _ _).symm;have h:=B5n b sc (pend++[x]) g z ⟨c.n,c.l,λy i=> ?_,c.g⟩ (by rw [e];exact Z0l.mpr (i00 nd (by simp) λa q b t z=>d.2.1 (by rw [<-Z0w.mp t,<-z];exact q))) (by rw [e];exact d.2.2) hl
  ·rw [B8m] at h;exact h
  ·rw [e] at i;rcases Z07.mp i with i | i
   ·exact c.s y i
   ·rw [Z0w.mp i];exact d.1
 | .pair k l r,sc,pend,g,z,c,nd,d,hl=>by
  have o:WsC L nm (sc++pend) [] g:=⟨c.n,c.l,λy i=>c.s y (by rw [Z0u] at i;exact i),λe f=>Z07.mpr (.inl (c.g e f))⟩;have j:∀e∈(wsP nm r [] g (wsP nm l [] g z).2).2.2,D8j L W N e:=λe f=>hl e (A9w (r:=(.pair k _ _,_)) f);have b:=B5n r (sc++pend) [] g (wsP nm l [] g z).2 o (by rw [Z0u];exact nd) (by rw [Z0u];exact d.2) j;have a:=B5n l (sc++pend) [] g z o (by rw [Z0u];exact nd) (by rw [Z0u];exact d.1) λe f=>j e (B0p r [] g _ f);refine B4f c nd (r:=(.pair k _ _,_)) hl ⟨⟨a.ns,b.ns⟩,⟨a.ti,b.ti⟩,λρ p m=> ?_⟩;show opI k (A3n L W N ρ _) (A3n L W N ρ _)%W=opI k (A3n L W N ρ l) (A3n L W N ρ r)%W;rw [a.v ρ p m,b.v ρ p m];rfl
 | .guard x lo hi l r,sc,pend,g,z,c,nd,d,hl=>by
  have o:∀b:Bool,WsC L nm (sc++pend) [] (g++[(x,lo,hi,b)]):=λb=>by
   refine ⟨c.n,c.l,λy i=>c.s y (by rw [Z0u] at i;exact i),λe f=> ?_⟩;rcases Z07.mp f with f | f
   ·exact Z07.mpr (.inl (c.g e f))
   ·rw [Z0w.mp f];exact d.1
  have j:∀e∈(wsP nm r [] (g++[(x,lo,hi,false)]) (wsP nm l [] (g++[(x,lo,hi,true)]) z).2).2.2,D8j L W N e:=λe f=>hl e (A9w (r:=(.guard x lo hi _ _,_)) f);have b:=B5n r (sc++pend) [] (g++[(x,lo,hi,false)]) (wsP nm l [] (g++[(x,lo,hi,true)]) z).2 (o false) (by rw [Z0u];exact nd) (by rw [Z0u];exact d.2.2) j;have a:=B5n l (sc++pend) [] (g++[(x,lo,hi,true)]) z (o true) (by rw [Z0u];exact nd) (by rw [Z0u];exact d.2.1) λe f=>j e (B0p r [] _ _ f);refine B4f c nd (r:=(.guard x lo hi _ _,_)) hl ⟨⟨a.ns,b.ns⟩,(i00 d.1 a.ti b.ti),λρ p m=> ?_⟩;show (if lo<=ρ x/\ρ x<hi then A3n L W N ρ _ else A3n L W N ρ _)=if lo<=ρ x/\ρ x<hi then A3n L W N ρ l else A3n L W N ρ r
  by_cases hc:lo<=ρ x/\ρ x<hi
  ·rw [Z12 hc,Z12 hc];exact a.v ρ p (C1c.add.mpr ⟨m,λ_=>hc,λ_=>rfl⟩)
  ·rw [Z0t hc,Z0t hc];exact b.v ρ p (C1c.add.mpr ⟨m,(λz=>by cases z),λz=>absurd z hc⟩)
abbrev Dt:=List (Str×List (List Int×Int))
def luA {α β:Type} [DecidableEq α] (l:List (α×β)) (k:α):Option β:=(l.find? λe=>decide (e.1=k)).map (·.2)
theorem B2y {α β:Type} [DecidableEq α] (l m:List (α×β)) (k:α):luA (l++m) k=(luA l k).or (luA m k):=by
 unfold luA;rw [List.find?_append];cases l.find? λe=>decide (e.1=k) <;> rfl
theorem C1k {α β:Type} [DecidableEq α] (a k:α) (y:β):luA [(a,y)] k=if k=a then some y else none:=by
 unfold luA;rw [Z2h];by_cases h:a=k
 ·rw [Z20 h,Z12 h.symm];rfl
 ·rw [Z1j h,Z0t λz=>h z.symm];rfl
theorem B2r {α β:Type} [DecidableEq α] {l:List (α×β)} {k:α} (h:k∉l.map (·.1)):luA l k=none:=by
 unfold luA;rw [List.find?_eq_none.mpr λe a z=>h (Z2c.mpr (i02 e a (of_decide_eq_true z)))];rfl
theorem C9o {α β:Type} [DecidableEq α] {l:List (α×β)} {k:α} (h:k∈l.map (·.1)):∃v,luA l k=some v:=by
 obtain ⟨e,a,rfl⟩:=Z2c.mp h;unfold luA
 cases hf:l.find? λx=>decide (x.1=e.1) with
 | none=>exact absurd (Z20 rfl) (List.find?_eq_none.mp hf e a)
 | some x=>exact ⟨x.2,rfl⟩
def NO (D:Dt) (a:Str) (c:List Int):Option Int:=(luA D a).bind λf=>luA f c
def Nm (D:Dt):C8l:=λa c=>(NO D a c).getD 0
abbrev prD (D:Dt):PrP:=λa c=>∃v,NO D a c=some v
def Ext (D D':Dt):Prop:=∀a c v,NO D a c=some v->NO D' a c=some v
theorem Ext.refl (D:Dt):Ext D D:=λ_ _ _ h=>h
theorem Ext.trans {D'':Dt} (h:Ext D D') (k:Ext D' D''):Ext D D'':=λa c v z=>k a c v (h a c v z)
theorem Ext.nm (h:Ext D D') (p:prD D a c):Nm D a c=Nm D' a c:=by
 obtain ⟨v,e⟩:=p;unfold Nm;rw [e,h a c v e]
theorem B6k {b:Str} (h:a∉D.map (·.1)):NO (D++[(a,f)]) b c=if b=a then luA f c else NO D b c:=by
 unfold NO;rw [B2y,C1k];by_cases e:b=a
 ·rw [Z12 e,Z12 e,e,B2r h];rfl
 ·rw [Z0t e,Z0t e];cases luA D b <;> rfl
theorem Ext.new (h:a∉D.map (·.1)):Ext D (D++[(a,f)]):=λb c v z=>by
 rw [B6k h];by_cases e:b=a
 ·unfold NO at z;rw [e,B2r h] at z;cases z
 ·rw [Z0t e];exact z
theorem Ext.cell {g:List (List Int×Int)} (h:a∉D.map (·.1)):Ext (D++[(a,f)]) (D++[(a,f++g)]):=λb c v z=>by
 rw [B6k h] at z⊢;by_cases e:b=a
 ·rw [Z12 e] at z⊢;rw [B2y,z];rfl
 ·rw [Z0t e] at z⊢;exact z
structure B4x (L:Str->Int) (W:Int) (D:Dt) (e:Ln) (c:List Int):Prop where
 s:∀t∈A1v L e.2.2.1,A1y L (okC (prD D)) (okC (prD D)) (A5z (e.2.1++e.2.2.1) (c++t)) e.2.2.2
 v:NO D e.1 c=some (C8q L W (Nm D) e c)
theorem C7q {e:Ln} (x:Ext D D') (s:∀t∈A1v L e.2.2.1,A1y L (okC (prD D)) (okC (prD D)) (A5z (e.2.1++e.2.2.1) (c++t)) e.2.2.2):C8q L W (Nm D) e c=C8q L W (Nm D') e c:=by
 unfold C8q;rw [A8y λt b=>A5r (λa c p=>x.nm p) (s t b)]
theorem C3w (x:Ext D D') (s:A1y L (okC (prD D)) (okC (prD D)) ρ u):A1y L (okC (prD D')) (okC (prD D')) ρ u:=A9k (by rintro _ a c ⟨v,z⟩;exact ⟨v,x a c v z⟩) (by rintro a c ⟨v,z⟩;exact ⟨v,x a c v z⟩) s
theorem B4x.ext {e:Ln} (h:B4x L W D e c) (x:Ext D D'):B4x L W D' e c:=⟨λt a=>C3w x (h.s t a),by rw [<-C7q x h.s];exact x _ _ _ h.v⟩
theorem B4x.mk2 {e:Ln} (h:e.1∉D.map (·.1)) (b:c∉cur.map (·.1)) (s:∀t∈A1v L e.2.2.1,A1y L (okC (prD (D++[(e.1,cur)]))) (okC (prD (D++[(e.1,cur)]))) (A5z (e.2.1++e.2.2.1) (c++t)) e.2.2.2):B4x L W (D++[(e.1,cur++[(c,C8q L W (Nm (D++[(e.1,cur)])) e c)])]) e c:=by
 have x:Ext (D++[(e.1,cur)]) (D++[(e.1,cur++[(c,C8q L W (Nm (D++[(e.1,cur)])) e c)])]):=Ext.cell h;refine ⟨λt a=>C3w x (s t a),?_⟩;rw [<-C7q x s,B6k h,Z12 rfl,B2y,B2r b,C1k,Z12 rfl];rfl
def BdD (W:Int) (D:Dt):Prop:=∀f∈D,∀e∈f.2,0<=e.2/\e.2<W
theorem D4o {α β:Type} [DecidableEq α] {l:List (α×β)} {k:α} {v:β} (h:luA l k=some v):(k,v)∈l:=by
 unfold luA at h;obtain ⟨e,a,rfl⟩:=Z0i.mp h;have z:=List.find?_some a;have z:e.1=k:=by simpa using z
 rw [<-z];exact List.mem_of_find?_eq_some a
theorem BdD.no (h:BdD W D) {v:Int} (e:NO D a c=some v):0<=v/\v<W:=by
 obtain ⟨f,b,e⟩:=Option.bind_eq_some_iff.mp e;exact h _ (D4o b) _ (D4o e)
theorem C3t {L:Str->Int} {W:Int} {D:Dt} (c:0<W) (b:BdD W D):∀{u:Tm} {ρ:Env},A1y L (okC (prD D)) (okC (prD D)) ρ u->0<=A3n L W (Nm D) ρ u/\A3n L W (Nm D) ρ u<W
 | .num _,_,_=>⟨Z1v _ (by lia),Z1p _ c⟩
 | .place _,_,_=>⟨Z1v _ (by lia),Z1p _ c⟩
 | .sum _ _,_,_=>⟨Z1v _ (by lia),Z1p _ c⟩
 | .pair _ _ _,_,_=>⟨Z1v _ (by lia),Z1p _ c⟩
 | .read a ix,ρ,⟨v,e⟩=>by
  show 0<=Nm D a (A5y ρ ix)/\Nm D a (A5y ρ ix)<W;unfold Nm;rw [e];exact b.no e
 | .guard x lo hi l r,ρ,s=>by
  show 0<=(if lo<=ρ x/\ρ x<hi then A3n L W (Nm D) ρ l else A3n L W (Nm D) ρ r)/\(if lo<=ρ x/\ρ x<hi then A3n L W (Nm D) ρ l else A3n L W (Nm D) ρ r)<W;by_cases hc:lo<=ρ x/\ρ x<hi
  ·rw [Z12 hc];exact C3t c b (s.1 hc)
  ·rw [Z0t hc];exact C3t c b (s.2 hc)
def C2h (c:List Int):List Key:=c.map Sum.inl
def B6y (f:List (List Int×Int)):List (List Key×V):=f.map λe=>(C2h e.1,V.int e.2)
theorem B6h:∀{c d:List Int},C2h c=C2h d->c=d
 | [],[],_=>rfl
 | a::c,b::d,h=>by
  have h:(Sum.inl a:Key)::C2h c=Sum.inl b::C2h d:=h;injection h with h1 h2;rw [Sum.inl.inj h1,B6h h2]
theorem C6n (c:List Int):(C2h c).map kV=c.map V.int:=by unfold C2h;rw [List.map_map];rfl
theorem C4b (c:List Int):∀f:List (List Int×Int),A5l (B6y f) (C2h c)=(luA f c).map V.int
 | []=>rfl
 | e::f=>by
  have a:=C4b c f;unfold B6y A5l luA at a⊢;rw [Z0p,Z2h,Z2h];by_cases h:e.1=c
  ·rw [Z20 h,Z20 (show (C2h e.1)=C2h c by rw [h])];rfl
  ·rw [Z1j h,Z1j (λz:C2h e.1=C2h c=>h (B6h z))];exact a
abbrev D0x (H:Hp) (p:Key×V) (f:Str×List (List Int×Int)):Prop:=p.1=Sum.inr f.1/\∃q,p.2= .ref q/\H q=some (.dT (B6y f.2))
structure B1l (H:Hp) (nd:Addr) (D:Dt):Prop where
 ex:∃kk:List (Key×V),H nd=some (.dK kk)/\Paired (D0x H) kk D
theorem B1l.same (h:B1l H nd D) (s:A0u H H'):B1l H' nd D:=by
 obtain ⟨d,e,p⟩:=h.ex;exact ⟨d,s _ _ e,Paired.mapP p (by rintro _ _ ⟨a,q,b,c⟩;exact i05 a q b (s _ _ c))⟩
theorem C6k {H:Hp} {a:Str} {f:List (List Int×Int)}:∀{kk:List (Key×V)} {D:Dt},Paired (D0x H) kk D->luA D a=some f->∃q,A5l kk (Sum.inr a)=some (.ref q)/\H q=some (.dT (B6y f))
 | _,_,.nil,h=>by cases h
 | p::kk,g::D,.cons r t,h=>by
  obtain ⟨d,q,c,b⟩:=r;unfold luA at h;rw [Z2h] at h;unfold A5l;rw [Z2h,d];by_cases z:g.1=a
  ·rw [Z20 z] at h;cases h;rw [Z20 (show (Sum.inr g.1:Key)=Sum.inr a by rw [z])];exact i02 q (by rw [<-c];rfl) b
  ·rw [Z1j z] at h;rw [Z1j λy:(Sum.inr g.1:Key)=Sum.inr a=>z (Sum.inr.inj y)];exact C6k t h
theorem C8y {H:Hp} {a:Str}:∀{kk:List (Key×V)} {D:Dt},Paired (D0x H) kk D->a∉D.map (·.1)->(Sum.inr a:Key)∉kk.map (·.1)
 | _,_,.nil,_=>by simp
 | p::kk,g::D,.cons r t,h=>by
  intro z;rcases Z0e.mp z with z | z
  ·exact h (Z0e.mpr (.inl (Sum.inr.inj (z.trans r.1))))
  ·exact C8y t (λy=>h (.tail _ y)) z
theorem B1l.get (h:B1l H nd D) (e:luA D a=some f):∃q,A9g H nd (.str a) (some (.ref q))/\H q=some (.dT (B6y f)):=by
 obtain ⟨i,c,p⟩:=h.ex;obtain ⟨q,d,b⟩:=C6k p e;refine i02 q ?_ b;have g:=A9g.k (H:=H) (a:=nd) (k:=Sum.inr a) c;rw [d] at g;exact g
theorem D2w {b:Addr} {v:Int} (d:H q=some (.dT (B6y f))) (h:H b=some (.tup (c.map V.int))) (e:luA f c=some v):A9g H q (.ref b) (some (.int v)):=by
 have g:=A9g.t (H:=H) (a:=q) (b:=b) (k:=C2h c) d (by rw [C6n];exact h);rw [C4b,e] at g;exact g
theorem B6a {α:Type} [DecidableEq α] {kk:List (α×V)} {k:α} (h:k∉kk.map (·.1)):A7y kk k v=kk++[(k,v)]:=by
 unfold A7y;rw [Z0t];intro z;obtain ⟨p,a,e⟩:=List.any_eq_true.mp z;exact h (Z2c.mpr (i02 p a (of_decide_eq_true e)))
theorem C3y {b:Addr} {v:Int} (d:H q=some (.dT (B6y f))) (j:H b=some (.tup (c.map V.int))) (n:c∉f.map (·.1)) (l:f.length<300000):C0e H q (.ref b) (.int v) (upd H q (.dT (B6y (f++[(c,v)])))):=by
 have g:=C0e.t (H:=H) (a:=q) (b:=b) (k:=C2h c) (v:= .int v) d (by rw [C6n];exact j) (A1l (by unfold B6y;rw [Z08];lia))
 have e:A7y (B6y f) (C2h c) (V.int v)=B6y (f++[(c,v)]):=by
  rw [B6a]
  ·unfold B6y;rw [Z0s];rfl
  ·intro z;obtain ⟨x,h,m⟩:=Z2c.mp z;obtain ⟨y,i,rfl⟩:=Z2c.mp h;exact n (Z2c.mpr (i02 y i (B6h m)))
 rw [e] at g;exact g
structure PK (K:Frag) (t:Adr) (o:Op3):Prop where
 c2:findIn K (.ref (A6x t o)) "__class__"=some (some (.builtin "object.__class__"))
 c3:specialIn K (.builtin "object.__class__") "__get__"=some (some (.builtin "getset_descriptor.__get__"))
 c4:takesIn K (.builtin "object.__class__")=some true
 c5:mroIn K (A6x t o) (.type "object")=some true
 n:kitOne K (.ref (A6x t o)) (.ref t.ae)=some false
 p:kitOne K (.ref (A6x t o)) (.ref t.am)=some false
 r:kitOne K (.ref (A6x t o)) (.ref t.aj)=some false
 g:kitOne K (.ref (A6x t o)) (.ref t.af)=some false
 s:kitOne K (.ref (A6x t o)) (.ref t.bp)=some false
theorem E2w {K:Frag} {mg:Str->Option Value} {t:Adr} (T:Txt K mg t):∀o,PK K t o
 | .plus=>⟨T.bw.ha,T.bw.hn,T.bw.htk,T.bw.hm,T.ut,T.ox,T.qm,T.nw,T.m7⟩
 | .minus=>⟨T.bj.ha,T.bj.hn,T.bj.htk,T.bj.hm,T.u8,T.ms,T.ni,T.mf,T.j9⟩
 | .times=>⟨T.bn.ha,T.bn.hn,T.bn.htk,T.bn.hm,T.tz,T.kg,T.nh,T.m9,T.jr⟩
structure AtV (H:Hp) (d:Addr) (sc:List Str) (ρ:Env) (m:Nat):Prop where
 ex:∃ak:List (Key×V),H d=some (.dK ak)/\(∀x,(A5l ak (Sum.inr x)).getD (.int 0)= .int (ρ x))/\(∀x∈sc,A5l ak (Sum.inr x)=some (.int (ρ x)))/\ak.length<=m
theorem AtV.same (h:AtV H d sc ρ m) (s:A0u H H'):AtV H' d sc ρ m :=
 let ⟨ak,e,r⟩:=h.ex
 ⟨ak,s _ _ e,r⟩
theorem D8q {a:List (Key×V)} {i:Int} (e:H d=some (.dK (A7y a (Sum.inr x) (.int i)))) (h1:∀x,(A5l a (Sum.inr x)).getD (.int 0)= .int (ρ x)) (h2:∀x∈sc,A5l a (Sum.inr x)=some (.int (ρ x))) (l:a.length<=m):AtV H d (sc++[x]) (B2n ρ x i) (m+1):=by
 have c:=A7r a (Sum.inr x) (.int i)
 have v:∀y,A5l (A7y a (Sum.inr x) (.int i)) (Sum.inr y)=if y=x then some (.int i) else A5l a (Sum.inr y):=λy=>by
  rw [D2u];by_cases z:y=x
  ·rw [Z12 z,Z12 (by rw [z])]
  ·rw [Z0t z,Z0t λq=>z (Sum.inr.inj q)]
 refine ⟨_,e,λy=> ?_,λy b=> ?_,by lia⟩
 ·rw [v];unfold B2n;by_cases z:y=x
  ·rw [Z12 z,Z12 z];rfl
  ·rw [Z0t z,Z0t z];exact h1 y
 ·rw [v];unfold B2n;by_cases z:y=x
  ·rw [Z12 z,Z12 z]
  ·rw [Z0t z,Z0t z];rcases Z07.mp b with b | b
   ·exact h2 y b
   ·exact absurd (Z0w.mp b) z
structure WoIn (A:Adr) (H:Hp) (v:V) (da d nd:Addr) (W:Int) (u:Tm) (sc nm:List Str) (ρ:Env) (lk:List (Key×V)) (D:Dt) (m:Nat):Prop where
 ob:Ob A H v u
 at0:AtV H da sc ρ m
 hd:H d=some (.dK lk)
 nu:B1l H nd D
 w0:0<W
 w1:W<=10^31
 bd:BdD W D
 wu:TmW u
 ti:A6p nm sc u
 dk:B0d lk nm
 mm:m+dep u<=1000
 sf:A1y (lnL lk) (okC (prD D)) (okC (prD D)) ρ u
def B0y (A:Adr) (n:Nat):Sp:=λg H Q _=>∃(v:V) (b d e:Addr) (W:Int) (u:Tm) (f h:List Str) (ρ:Env) (a:List (Key×V)) (D:Dt) (m:Nat),g=[v,.ref b,.ref d,.ref e,.int W]/\WoIn A H v b d e W u f h ρ a D m/\dep u<=n/\∀c,A0u H c->Q (.int (A3n (lnL a) W (Nm D) ρ u)) c
theorem D4b {z:Int} (h:0<=z/\z<W) (w:W<=10^31):z.natAbs<2^4000:=by
 have a:z.natAbs<10^31:=by
  have:(10:Int)^31=((10^31:Nat):Int):=by norm_cast
  lia
 exact Nat.lt_trans a (by decide +kernel)
theorem D7m (T:Txt K mg t) (hm:6<=m) (Ge7:A3i P w K mg base CX0 m t.mw t.n8 C5a (B0y t n)):A3i P w K mg base CX0 (m+1) t.mw t.n8 C5a (B0y t (n+1)):=by
 have Ge8:= @C9c P w K mg base t T;refine T.fb.F.ok A4p (by walk_at "ln") λ_ A _ s H _ Q E hr h=> ?_
 ·refine e0h h ?_;clear h;rintro v L d nd W u sc nm ρ C D ⟨m,rfl,⟨ob,J,hd,nu,B,w1,Y,wu,U,dk,mm,S⟩,hn,k⟩;have hu:=A8b hr;obtain ⟨O,R,hρ,hs,a0⟩:=J.ex;refine i02 _ (@RS.r _ _ _ (rq1 (rq4 (A2s (A0q A1d (by rfl) T.ab Z0d (A0a (pv 0) (A0a (A3k (v:=V.ref t.ae) rfl T.rc rfl) A0c)))) (rq3 (rq5 (A0j A1j (A1c (pv 0) rfl) (pv 4)))) ⟨A0x⟩) (rq1 (rq4 (A2s (A0q A1d (by rfl) T.ab Z0d (A0a (pv 0) (A0a (A3k (v:=V.ref t.am) rfl T.wy rfl) A0c)))) (rq3 (rq5 (A0j A1j (A2v hu (pv 1) (A1c (pv 0) rfl) (λ_ _=>rfl)) (pv 4)))) ⟨A0x⟩) (rq1 (rq4 (A2s (A0q A1d (by rfl) T.ab Z0d (A0a (pv 0) (A0a (A3k (v:=V.ref t.aj) rfl T.wx rfl) A0c)))) (rq3 (rq5 (A2v hu (A2v hu (pv 3) (A1c (pv 0) rfl) (λ_ _=>rfl)) (pcl Ge8 hr T.ul (A0a (A1c (pv 0) rfl) (A0a (pv 1) A0c))) (λ_ _=>rfl)))) ⟨A0x⟩) (rq1 (rq4 (A2s (A0q A1d (by rfl) T.ab Z0d (A0a (pv 0) (A0a (A3k (v:=V.ref t.af) rfl T.m_ rfl) A0c)))) (rq1 (rq4 (D3i D7n B8r (A1c (pv 0) rfl) (A2v hu (pv 1) (A1c (pv 0) rfl) (λ_ _=>rfl)) (A1c (pv 0) rfl)) (rq3 (rq5 (pcl Ge7 hr T.fb (A0a (A1c (pv 0) rfl) (A0a (pv 1) (A0a (pv 2) (A0a (pv 3) (A0a (pv 4) A0c)))))))) ⟨A0x⟩) (rq3 (rq5 (pcl Ge7 hr T.fb (A0a (A1c (pv 0) rfl) (A0a (pv 1) (A0a (pv 2) (A0a (pv 3) (A0a (pv 4) A0c))))))))) ⟨A0x⟩) (rq1 (rq4 (A2s (A0q A1d (by rfl) T.ab Z0d (A0a (pv 0) (A0a (A3k (v:=V.ref t.bp) rfl T.ww rfl) A0c)))) (rq1 (rq6 5 A4p.nd A0d) (rq1 (rq7 (A4a rfl T.dj (A0a (A2v hu (pv 2) (A1c (pv 0) rfl) (λ_ _=>rfl)) A0c)) (A0k (i:=6) A4p.nd rfl (.inl rfl)) (rq1 (rq6 7 A4p.nd (A2k C5n (by rfl) T.mh Z2q (A0a (pv 1) A0c))) (rq1 ⟨@A6s _ _ _ _ _ _ _ _ _ hu (pv 7) (A1c (pv 0) rfl) (pv 6) rfl⟩ (rq3 (rq6 5 A4p.nd (A0j A2h (pv 5) (pcl Ge7 hr T.fb (A0a (A1c (pv 0) rfl) (A0a (pv 7) (A0a (pv 2) (A0a (pv 3) (A0a (pv 4) A0c)))))))))))) (rq3 (rq5 (A0j A1j (pv 5) (pv 4)))))) ⟨A0x⟩) (rq1 (rq6 8 A4p.nd (pcl Ge7 hr T.fb (A0a (A1c (pv 0) rfl) (A0a (pv 1) (A0a (pv 2) (A0a (pv 3) (A0a (pv 4) A0c))))))) (rq1 (rq6 9 A4p.nd (pcl Ge7 hr T.fb (A0a (A1c (pv 0) rfl) (A0a (pv 1) (A0a (pv 2) (A0a (pv 3) (A0a (pv 4) A0c))))))) (rq1 (rq4 (A2s (A0q A1d (by rfl) T.ab Z0d (A0a (pv 0) (A0a (A3k (v:=V.ref t.bf) rfl T.yD rfl) A0c)))) (rq3 (rq5 (A0j A1j (A0j A2h (pv 8) (pv 9)) (pv 4)))) ⟨A0x⟩) (rq1 (rq4 (A2s (A0q A1d (by rfl) T.ab Z0d (A0a (pv 0) (A0a (A3k (v:=V.ref t.av) rfl T.xr rfl) A0c)))) (rq3 (rq5 (A0j A1j (A0j A3v (pv 8) (pv 9)) (pv 4)))) ⟨A0x⟩) (rq3 (rq5 (A0j A1j (A0j D5d (pv 8) (pv 9)) (pv 4)))))))))))))) ?_
  cases ob with
  | @num a dx z e =>
   have j:A8a K H (.ref a) (.ref t.ae):= .ins e T.cy T.a_.ha T.a_.hn T.a_.htk T.a_.hm;refine i16 _ rfl _ _ _ _ rfl j (A1e T.r_) true rfl (A5u ?_);exact i19 _ rfl a _ dx _ _ rfl e T.cy T.cz (by walk_at "lk") (i0s _ rfl _ _ rfl rfl B (k _ (A0u.refl _)))
  | @place a dx x e =>
   have j:A8a K H (.ref a) (.ref t.am):= .ins e T.ft T.bo.ha T.bo.hn T.bo.htk T.bo.hm;have gk:=A9g.k (H:=H) (a:=L) (k:=Sum.inr x) R;rw [hs x U] at gk;refine i16 _ rfl _ _ _ _ rfl j (A1e T.uf) false rfl (A2m ?_);refine i16 _ rfl _ _ _ _ rfl j (A1e T.kr) true rfl (A5u ?_);exact i02 _ rfl (i19 _ rfl a _ dx _ _ rfl e T.ft T.j0 (by walk_at "lk") (i0f L _ rfl gk (i0s _ rfl _ _ rfl rfl B (k _ (A0u.refl _)))))
  | @read a dx l x ix e ri =>
   have j:A8a K H (.ref a) (.ref t.aj):= .ins e T.fg T.bx.ha T.bx.hn T.bx.htk T.bx.hm;refine i16 _ rfl _ _ _ _ rfl j (A1e T.ur) false rfl (A2m ?_);refine i16 _ rfl _ _ _ _ rfl j (A1e T.oh) false rfl (A2m ?_);refine i16 _ rfl _ _ _ _ rfl j (A1e T.qa) true rfl (A5u ?_);obtain ⟨z,ez⟩:=S;obtain ⟨f,hf,ef⟩:=Option.bind_eq_some_iff.mp ez;obtain ⟨q,dg,hq⟩:=nu.get hf;have a1:=wu.2.1;refine i02 _ rfl (i19 _ rfl a _ dx _ _ rfl e T.fg T.oo (by walk_at "lk") (i0f nd _ rfl dg (i19 _ rfl a _ dx _ _ rfl e T.fg T.fz (by walk_at "lk") (i19 _ rfl (.ref l) L ix O ρ rfl ri R hρ (by lia) λb H1 I hb=> ?_))))
   have en:A3n (lnL C) W (Nm D) ρ (.read x ix)=z:=by
    show (NO D x (A5y ρ ix)).getD 0=z;rw [ez];rfl
   rw [en] at k;exact i0f q _ rfl (D2w (I _ _ hq) hb ef) (k _ I)
  | @guard a dx x lo hi v1 v2 l r e o1 o2 =>
   have j:A8a K H (.ref a) (.ref t.af):= .ins e T.ay T.bh.ha T.bh.hn T.bh.htk T.bh.hm;simp only [dep] at hn mm;have gk:=A9g.k (H:=H) (a:=L) (k:=Sum.inr x) R;rw [hs x U.1] at gk;have fl:lo<=ρ x/\ρ x<hi->A3n (lnL C) W (Nm D) ρ (.guard x lo hi l r)=A3n (lnL C) W (Nm D) ρ l:=λh=>Z12 h;have fr:¬(lo<=ρ x/\ρ x<hi)->A3n (lnL C) W (Nm D) ρ (.guard x lo hi l r)=A3n (lnL C) W (Nm D) ρ r:=λh=>Z0t h;refine i16 _ rfl _ _ _ _ rfl j (A1e T.u7) false rfl (A2m ?_);refine i16 _ rfl _ _ _ _ rfl j (A1e T.lq) false rfl (A2m ?_);refine i16 _ rfl _ _ _ _ rfl j (A1e T.ou) false rfl (A2m ?_);refine i16 _ rfl _ _ _ _ rfl j (A1e T.h_) true rfl (A5u ?_);refine i19 _ rfl a _ dx _ _ rfl e T.ay T.jf (by walk_at "lk") (i02 _ rfl (i19 _ rfl a _ dx _ _ rfl e T.ay T.ff (by walk_at "lk") (i0f L _ rfl gk (i0q _ _ rfl rfl _ rfl (A8x (λh1=> ?_) (λh1=> ?_))))))
   ·refine i19 _ rfl a _ dx _ _ rfl e T.ay T.j7 (by walk_at "lk") (i0q _ _ rfl rfl _ rfl (A8x (λh2=> ?_) (λh2=> ?_)))
    ·exact i19 _ rfl a _ dx _ _ rfl e T.ay T.gn (by walk_at "lk") (i0e _ rfl _ rfl (i0e _ rfl _ rfl (i11 v1 L d nd W l sc nm ρ (i0r C D m rfl ⟨o1,J,hd,nu,B,w1,Y,wu.2.2.2.1,U.2.1,dk,by lia,S.1 ⟨h1,h2⟩⟩ (by lia) (by rw [<-fl ⟨h1,h2⟩];exact k)))))
    ·exact i19 _ rfl a _ dx _ _ rfl e T.ay T.dw (by walk_at "lk") (i0e _ rfl _ rfl (i0e _ rfl _ rfl (i11 v2 L d nd W r sc nm ρ (i0r C D m rfl ⟨o2,J,hd,nu,B,w1,Y,wu.2.2.2.2,U.2.2,dk,by lia,S.2 λz=>h2 z.2⟩ (by lia) (by rw [<-fr λz=>h2 z.2];exact k)))))
   ·exact i02 _ rfl (A2m (i19 _ rfl a _ dx _ _ rfl e T.ay T.dw (by walk_at "lk") (i0e _ rfl _ rfl (i0e _ rfl _ rfl (i11 v2 L d nd W r sc nm ρ (i0r C D m rfl ⟨o2,J,hd,nu,B,w1,Y,wu.2.2.2.2,U.2.2,dk,by lia,S.2 λz=>h1 z.1⟩ (by lia) (by rw [<-fr λz=>h1 z.1];exact k)))))))
  | @sum a dx x v1 b e o1 =>
   have j:A8a K H (.ref a) (.ref t.bp):= .ins e T.d_ T.cj.ha T.cj.hn T.cj.htk T.cj.hm;simp only [dep] at hn mm;obtain ⟨c,ev,c1,c60⟩:=dk x U.1;have ec:lnL C x=c:=A7d ev;have gk:=A9g.k (H:=H) (a:=d) (k:=Sum.inr x) hd;rw [ev] at gk;refine i16 _ rfl _ _ _ _ rfl j (A1e T.vk) false rfl (A2m ?_);refine i16 _ rfl _ _ _ _ rfl j (A1e T.q_) false rfl (A2m ?_);refine i16 _ rfl _ _ _ _ rfl j (A1e T.s_) false rfl (A2m ?_);refine i16 _ rfl _ _ _ _ rfl j (A1e T.qh) false rfl (A2m ?_);refine i16 _ rfl _ _ _ _ rfl j (A1e T.jn) true rfl (A5u ?_);refine i02 _ rfl (i19 _ rfl a _ dx _ _ rfl e T.d_ T.fw (by walk_at "lk") (i0f d _ rfl gk (i0c c rfl (by lia) (by lia) ?_)));refine A4k (n:=c.toNat) (λi Z G=>∃(o6 o7:Option V),Z=[Sro a,Sro L,Sro d,Sro nd,Sio W,Sio (B5z (λi=>A3n (lnL C) W (Nm D) (B2n ρ x (i:Int)) b) i),o6,o7,none,none]/\A0u H G) (i07 none none rfl (A0u.refl _)) ?_ ?_
   ·rintro i Z G hi ⟨o6,o7,rfl,sG⟩;refine B2x ?_;intro D';rw [Int.zero_add];refine i0o _ rfl L O rfl (.inl (sG _ _ R)) λp hp=> ?_;have I:=A0e (o:= .dK O) hp;have e1:upd G p (.dK O) p=some (.dK O):=A0b;generalize upd G p (.dK O)=G1 at I e1;refine i0e _ rfl _ rfl (i19 _ rfl a _ dx _ _ rfl (I _ _ (sG _ _ e)) T.d_ T.fw (by walk_at "lk") (i0f p _ rfl (C0e.k (k:=Sum.inr x) e1 (A1l (by lia))) ?_));have s2:A0u G (upd G1 p (.dK (A7y O (Sum.inr x) (.int (i:Int))))):=A0o I hp;have a2:=D8q (m:=m) (A0b (H:=G1) (a:=p) (o:= .dK (A7y O (Sum.inr x) (.int (i:Int))))) hρ hs a0;generalize upd G1 p (.dK (A7y O (Sum.inr x) (.int (i:Int))))=G2 at s2 a2;have M:=sG.trans s2;refine i02 _ rfl (i19 _ rfl a _ dx _ _ rfl (M _ _ e) T.d_ T.ik (by walk_at "lk") (i0e _ rfl _ rfl (i0e _ rfl _ rfl (i11 v1 p d nd W b (sc++[x]) nm (B2n ρ x (i:Int)) (i0r C D (m+1) rfl ⟨o1.imp M,a2,M _ _ hd,nu.same M,B,w1,Y,wu.2,U.2.2,dk,by lia,S (i:Int) (by lia) (by rw [ec];lia)⟩ (by lia) λG3 s3=>(i07 _ _ rfl (i0b rfl _ _ rfl (M.trans s3))))))))
   ·rintro Z G ⟨o6,o7,rfl,sG⟩;refine i0w _ rfl _ rfl _ _ rfl rfl ⟨B,?_⟩;rw [<-ec];exact k _ sG
  | @pair a dx kk v1 v2 l r e o1 o2 =>
   have N:=E2w T kk;have j:A8a K H (.ref a) (.ref (A6x t kk)):= .ins e (A8o T kk) N.c2 N.c3 N.c4 N.c5;simp only [dep] at hn mm;refine i16 _ rfl _ _ _ _ rfl j (A1e N.n) false rfl (A2m ?_);refine i16 _ rfl _ _ _ _ rfl j (A1e N.p) false rfl (A2m ?_);refine i16 _ rfl _ _ _ _ rfl j (A1e N.r) false rfl (A2m ?_);refine i16 _ rfl _ _ _ _ rfl j (A1e N.g) false rfl (A2m ?_);refine i16 _ rfl _ _ _ _ rfl j (A1e N.s) false rfl (A2m ?_);refine i19 _ rfl a _ dx _ _ rfl e (A8o T kk) (B9z T kk) (by walk_at "lk") (i0e _ rfl _ rfl (i0e _ rfl _ rfl (i11 v1 L d nd W l sc nm ρ (i0r C D m rfl ⟨o1,J,hd,nu,B,w1,Y,wu.1,U.1,dk,by lia,S.1⟩ (by lia) λH1 I=> ?_))));refine i19 _ rfl a _ dx _ _ rfl (I _ _ e) (A8o T kk) (B9o T kk) (by walk_at "lk") (i0e _ rfl _ rfl (i0e _ rfl _ rfl (i11 v2 L d nd W r sc nm ρ (i0r C D m rfl ⟨o2.imp I,J.same I,I _ _ hd,nu.same I,B,w1,Y,wu.2,U.2,dk,by lia,S.2⟩ (by lia) λH2 s2=> ?_))));have X:=I.trans s2;have e2:=X _ _ e;have b1:=C3t B Y S.1;have b2:=C3t B Y S.2
   cases kk with
   | plus =>
    have y:A8a K H2 (.ref a) (.ref t.bf):= .ins e2 T.qy T.bw.ha T.bw.hn T.bw.htk T.bw.hm;refine i16 _ rfl _ _ _ _ rfl y (A1e T.xh) true rfl (A5u ?_);exact i0w _ rfl _ rfl _ _ rfl rfl (i0s _ rfl _ _ rfl rfl B (k _ X))
   | minus =>
    have y:A8a K H2 (.ref a) (.ref t.av):= .ins e2 T.mq T.bj.ha T.bj.hn T.bj.htk T.bj.hm;refine i16 _ rfl _ _ _ _ rfl y (A1e T.wf) false rfl (A2m ?_);refine i16 _ rfl _ _ _ _ rfl y (A1e T.uq) true rfl (A5u ?_);exact i0w _ rfl _ rfl _ _ rfl rfl (i0s _ rfl _ _ rfl rfl B (k _ X))
   | times =>
    have y:A8a K H2 (.ref a) (.ref t.cg):= .ins e2 T.kj T.bn.ha T.bn.hn T.bn.htk T.bn.hm;refine i16 _ rfl _ _ _ _ rfl y (A1e T.vy) false rfl (A2m ?_);refine i16 _ rfl _ _ _ _ rfl y (A1e T.uu) false rfl (A2m ?_);exact i0w _ rfl _ rfl _ _ rfl rfl ⟨⟨D4b b1 w1,D4b b2 w1⟩,(i0s _ rfl _ _ rfl rfl B (k _ X))⟩
theorem E0n (T:Txt K mg t):∀n:Nat,A3i P w K mg base CX0 (n+7) t.mw t.n8 C5a (B0y t n)
 | 0=>A3i.none (by (rintro e H Q E a;refine e0h a ?_;clear a;rintro v g d i W u b f ρ c D ⟨m,_,_,h,_⟩);have:=A6l u;lia)
 | n+1=>D7m T (by lia) (E0n T n)
theorem C1p:∀{xs:List Str} {cs:List Int} (y:Str),cs.length=xs.length->A5l ((xs.map (Sum.inr:Str->Key)).zip (cs.map V.int)) (Sum.inr y)=if y∈xs then some (.int (A5z xs cs y)) else none
 | [],[],_,_=>rfl
 | x::xs,c::cs,y,l=>by
  have a:=C1p y (Nat.succ.inj l);unfold A5l at a⊢;rw [Z0p,Z0p,List.zip_cons_cons,Z2h];by_cases e:y=x
  ·subst e;simp [A5z]
  ·have b:¬(Sum.inr x:Key)=Sum.inr y:=λz=>e (Sum.inr.inj z).symm;rw [Z1j b];show _=if y∈x::xs then some (V.int (if y=x then c else A5z xs cs y)) else none
   rw [Z0t e];simp only [Z0e,e,false_or];exact a
theorem D9b {xs:List Str} {cs:List Int} (n:xs.Nodup) (l:cs.length=xs.length) (i:xs.length<=m) (h:H d=some (.dK (A4h [] ((xs.map (Sum.inr:Str->Key)).zip (cs.map V.int))))):AtV H d xs (A5z xs cs) m:=by
 have g:(((xs.map (Sum.inr:Str->Key)).zip (cs.map V.int)).map (·.1)).Nodup:=by
  have:((xs.map (Sum.inr:Str->Key)).zip (cs.map V.int)).map (·.1)=xs.map Sum.inr:=List.map_fst_zip (by simp [l]);rw [this];exact n.map (f:=(Sum.inr:Str->Key)) λa b e z=>e (Sum.inr.inj z)
 rw [B2w g] at h;refine ⟨_,h,λx=> ?_,λx c=> ?_,?_⟩
 ·rw [C1p x l];by_cases c:x∈xs
  ·rw [Z12 c];rfl
  ·rw [Z0t c,B1r c];rfl
 ·rw [C1p x l,Z12 c]
 ·rw [List.length_zip,Z08,Z08];lia
theorem B4n:∀{a b:List Int},A6u a b->¬A6u b a
 | a::as,b::bs,h,k=>by
  rcases h with h | ⟨e,c⟩
  ·rcases k with k | k
   ·lia
   ·lia
  ·rcases k with k | ⟨_,d⟩
   ·lia
   ·exact B4n c d
theorem B6e {L:Str->Int}:∀ys:List Str,(A1v L ys).Pairwise A6u
 | []=>List.pairwise_singleton _ _
 | x::ys=>by
  rw [B5u,List.pairwise_flatMap];refine ⟨λi _=>List.Pairwise.map _ (λa b h=> .inr ⟨rfl,h⟩) (B6e ys),?_⟩;refine List.Pairwise.imp ?_ (List.pairwise_lt_range (n:=(L x).toNat));intro i j d a c b e;obtain ⟨s,_,rfl⟩:=Z2c.mp c;obtain ⟨u,_,rfl⟩:=Z2c.mp e;exact .inl (by lia)
theorem C5q {d:List Int} (k:(A1v L ys)[i]? =some c) (e:inC L ys d) (h:A6u d c):d∈(A1v L ys).take i:=by
 obtain ⟨j,f,a⟩:=List.mem_iff_getElem.mp (A4b.mpr e);obtain ⟨g,b⟩:=Z03.mp k;rcases Nat.lt_trichotomy i j with z | z | z
 ·have:=List.pairwise_iff_getElem.mp (B6e (L:=L) ys) i j g f z;rw [b,a] at this;exact absurd h (B4n this)
 ·subst z;rw [<-a,<-b] at h;exact absurd h B1h
 ·exact List.mem_iff_getElem.mpr ⟨j,by rw [Z0x];lia,by rw [List.getElem_take];exact a⟩
theorem B7m (ys:List Str):(A1v L ys).Nodup:=List.Pairwise.imp (S:=λa b=>a≠b) (λ{a b} h e=>by rw [e] at h;exact B1h h) (B6e ys)
structure D7w (lk:List (Key×V)) (nm:List Str) (D:Dt) (e:Ln):Prop where
 dk:B0d lk nm
 sub:∀x∈e.2.1++e.2.2.1,x∈nm
 pa:A3l (lnL lk) e.2.1<=8000
 ps:A3l (lnL lk) e.2.2.1<=8000
 la:e.2.1.length<=100
 ls:e.2.2.1.length<=100
 nd:(e.2.1++e.2.2.1).Nodup
 ti:A6p nm (e.2.1++e.2.2.1) e.2.2.2
 w:TmW e.2.2.2
 d:dep e.2.2.2<=40
 nn:e.1∉D.map (·.1)
 sf:∀c,inC (lnL lk) e.2.1 c->∀t,inC (lnL lk) e.2.2.1 t->∀pr:PrP,(∀a d,prD D a d->pr a d)->(∀d,inC (lnL lk) e.2.1 d->A6u d c->pr e.1 d)->A1y (lnL lk) (okC pr) (okC pr) (A5z (e.2.1++e.2.2.1) (c++t)) e.2.2.2
structure LnG (A:Adr) (K:Frag) (H:Hp) (a:Addr) (e:Ln):Prop where
 ex:∃(C dx ca:Addr) (fs:List (Str×V)) (nv:V),H a=some (.ins C dx fs)/\Cls K C/\(A1m K C "name"/\A1m K C "axes"/\A1m K C "term")/\fs.lookup ("name":Str)=some (V.str e.1)/\fs.lookup ("axes":Str)=some (V.ref ca)/\fs.lookup ("term":Str)=some nv/\H ca=some (.lst (e.2.1.map V.str))/\Ob A H nv e.2.2.2
theorem LnG.same {a:Addr} {e:Ln} (h:LnG A K H a e) (s:A0u H H'):LnG A K H' a e:=by
 obtain ⟨C,b,m,j,o,d,n,i,g,c,k,l,f⟩:=h.ex;exact ⟨C,b,m,j,o,s _ _ d,n,i,g,c,k,s _ _ l,f.imp s⟩
theorem D1t {xs:List (List Int)} (h:cur.map (·.1)=xs) {d:List Int} (a:d∈xs):∃v,luA cur d=some v:=C9o (by rw [h];exact a)
theorem BdD.snoc (h:BdD W D) (k:∀e∈cur,0<=e.2/\e.2<W):BdD W (D++[(a,cur)]):=λf b=>by
 rcases Z07.mp b with b | b
 ·exact h f b
 ·rw [Z0w.mp b];exact k
structure D8l (G H2 B:Hp) (nd q:Addr) (kk:List (Key×V)) (D:Dt) (x:Str):Prop where
 g:A0u (A0s (λb=>b≠nd) G) B
 s:A0u B H2
 n:B q=none
 p:Paired (D0x B) kk D
 e1:H2 nd=some (.dK (kk++[(Sum.inr x,.ref q)]))
 e2:H2 q=some (.dT [])
 k:∀{b:Addr} {o:HO},H2 b=some o->(∀x,o≠.dK x)->(∀x,o≠.dT x)->B b=some o
 ne:nd≠q
 nk:(Sum.inr x:Key)∉kk.map (·.1)
theorem D8l.of {G:Hp} (i:G q=none) (c:G nd=some (.dK kk)) (m:Paired (D0x G) kk D) (p:(Sum.inr x:Key)∉kk.map (·.1)) (h:A0u (upd (upd G q (.dT [])) nd (.dK (kk++[(Sum.inr x,.ref q)]))) H2):∃B,D8l G H2 B nd q kk D x:=by
 have d:nd≠q:=λz=>by rw [z,i] at c;cases c
 have l:=h _ _ (A0b (H:=upd G q (.dT [])) (a:=nd) (o:= .dK (kk++[(Sum.inr x,.ref q)])));have k:=h _ _ (show upd (upd G q (.dT [])) nd (.dK (kk++[(Sum.inr x,.ref q)])) q=some (.dT []) by rw [A0i d.symm];exact A0b)
 have g:A0u (A0s (λb=>b≠nd) G) (A0s (λb=>b≠nd/\b≠q) H2):=λb o z=>by
  obtain ⟨f,e⟩:=A0l z;exact A0h ⟨f,λy=>by rw [y,i] at e;cases e⟩ (h _ _ (by rw [A0i f];exact A0e i _ _ e))
 refine ⟨A0s (λb=>b≠nd/\b≠q) H2,g,A0m,?_,Paired.mapP m (by rintro _ _ ⟨f,r,e,j⟩;exact i05 f r e (g _ _ (A0h (A3j j c (by intro z;cases z)) j))),l,k,λz n s=>A0h ⟨A3j z l (n _),A3j z k (s _)⟩ z,d,p⟩
 cases z:A0s (λb=>b≠nd/\b≠q) H2 q with
 | none=>rfl
 | some o=>exact absurd rfl (A0l z).1.2
theorem C8o {F:Hp} (f:(Sum.inr x:Key)∉kk.map (·.1)) (h:F nd=some (.dK (kk++[(Sum.inr x,.ref q)]))):A9g F nd (.str x) (some (.ref q)):=by
 have g:A5l kk (Sum.inr x)=none:=by
  cases hv:A5l kk (Sum.inr x) with
  | none=>rfl
  | some v =>
   obtain ⟨d,e,c,_⟩:=C3b hv;exact absurd (Z2c.mpr (i02 d e c)) f
 have b:=A9g.k (H:=F) (a:=nd) (k:=Sum.inr x) h;rw [B3v _ _ _ _ g,Z12 rfl] at b;exact b
theorem D8l.num {G B F:Hp} (h:D8l G H2 B nd q kk D x) (s:A0u B F) (h1:F nd=some (.dK (kk++[(Sum.inr x,.ref q)]))) (h2:F q=some (.dT (B6y cur))):B1l F nd (D++[(x,cur)]):=⟨_,h1,B2p (Paired.mapP h.p (by rintro _ _ ⟨a,b,d,c⟩;exact i05 a b d (s _ _ c))) (.cons (i05 rfl q rfl h2) .nil)⟩
def C7t (A:Adr) (K:Frag):Sp:=λk H Q _=>∃(a j d g:Addr) (W:Int) (e:Ln) (h:List (Key×V)) (l:List Str) (D:Dt),k=[.ref a,.ref j,.ref d,.ref g,.int W]/\LnG A K (A0s (λb=>b≠g) H) a e/\H j=some (.lst (e.2.2.1.map V.str))/\(H d=some (.dK h)/\d≠g)/\B1l H g D/\D.length<=2000/\(0<W/\W<=10^31)/\BdD W D/\D7w h l D e/\
 ∀(f:List (List Int×Int)) (i:Hp),KB g H i->B1l i g (D++[(e.1,f)])->f.map (·.1)=A1v (lnL h) e.2.1->(∀c,inC (lnL h) e.2.1 c->B4x (lnL h) W (D++[(e.1,f)]) e c)->BdD W (D++[(e.1,f)])->Q .non i
theorem C7a (T:Txt K mg t):FO P w base T.qi 51 (C7t t K):=by
 have Ge9:= @A7f P w K mg base t T;have Ge7:= @E0n P w K mg base t T 40;refine T.qi.F.ok A6z (by walk_at "ln") λ_ A _ s H _ Q E hr h=> ?_
 ·refine e0e h ?_;clear h;rintro a sl d X W e I nm ⟨D,rfl,ln,c5,⟨hd,d8⟩,nu,lD,⟨w0,w1⟩,bd,u,k⟩;have hu:=A8b hr;obtain ⟨C,dx,ca,fs,nv,ha,cl,⟨b3,b4,f3⟩,lk1,b7,e4,d4,ob⟩:=ln.ex;obtain ⟨kk,a6,pk⟩:=nu.ex;have f5:=Paired.length pk;have nk:=C8y pk u.nn;refine i02 _ (@RS.r _ _ _ (rq1 ⟨@A6s _ _ _ _ _ _ _ _ _ hu (pv 3) (A1c (pv 0) rfl) C2r rfl⟩ (rq3 (rq7 (A2c (pcl Ge9 hr T.c_ (A0a (A1c (pv 0) rfl) (A0a (pv 2) A0c)))) (A0k (i:=5) A6z.nd rfl (.inl rfl)) (rq1 (rq6 6 A6z.nd A0d) (rq1 (rq7 (A2c (pcl Ge9 hr T.c_ (A0a (pv 1) (A0a (pv 2) A0c)))) (A0k (i:=7) A6z.nd rfl (.inl rfl)) (rq1 (rq6 8 A6z.nd (C4v rfl (by rfl) T.mh (by rfl) T.AF (A0a (A0j B0e (A1c (pv 0) rfl) (pv 1)) (A0a (A0j B5w (pv 5) (pv 7)) A0c)))) (rq3 (rq6 6 A6z.nd (A0j A2h (pv 6) (pcl Ge7 hr T.fb (A0a (A1c (pv 0) rfl) (A0a (pv 8) (A0a (pv 2) (A0a (pv 3) (A0a (pv 4) A0c))))))))))) (rq3 ⟨@A6s _ _ _ _ _ _ _ _ _ hu (A2v hu (pv 3) (A1c (pv 0) rfl) (λ_ _=>rfl)) (pv 5) (A0j A1j (pv 6) (pv 4)) rfl⟩))))))) ?_;refine λq hq=>(i02 _ rfl (i19 _ rfl a _ dx _ _ rfl (A0e hq _ _ (A0m _ _ ha)) cl b3 lk1 (i0f X _ rfl (C0e.k (k:=Sum.inr e.1) (A0e hq _ _ a6) (A1l (by lia))) ?_)));rw [B6a nk]
  have s0:A0u (A0s (λb=>b≠X) H) (upd (upd H q (.dT [])) X (.dK (kk++[(Sum.inr e.1,.ref q)]))):=λb o z=>by
   obtain ⟨z1,z2⟩:=A0l z;rw [A0i z1];exact A0e hq _ _ z2
  have c1:B0d I e.2.1:=λy hy=>u.dk y (u.sub y (Z07.mpr (.inl hy)));have e9:B0d I e.2.2.1:=λy hy=>u.dk y (u.sub y (Z07.mpr (.inr hy)));have pa:=u.pa;have ps:=u.ps;have la:=u.la;have d6:=u.ls;have U:=A0h (S:=λb=>b≠X) d8 hd;have a1:=A0h (S:=λb=>b≠X) (A3j c5 a6 (by intro z;cases z)) c5;refine i19 _ rfl a _ dx _ _ rfl (s0 _ _ ha) cl b4 b7 (i15 _ rfl ca d e.2.1 I rfl (s0 _ _ d4) (s0 _ _ U) c1 (by lia) ⟨la,λqc H2 f7 s2 c2=> ?_⟩);obtain ⟨c4,a3,a4⟩:=c2.ex
  have f4:=B2s (L:=lnL I) (ys:=e.2.1) λy hy=>by
   obtain ⟨m,z,m1,_⟩:=c1 y hy;rw [A7d z];exact m1
  have d9:=Paired.length a4;obtain ⟨B,M⟩:=D8l.of hq a6 pk nk s2;have b6:=M.k a3 (by intro x z;cases z) (by intro x z;cases z);have e3:A4l B c4 (A1v (lnL I) e.2.1):=a4.imp λp xs z=>M.k z (by intro x z;cases z) (by intro x z;cases z);have a7:=M.g _ _ ha;have b8:=M.g _ _ d4;have f0:=ob.imp M.g;have U:=M.g _ _ U;have a1:=M.g _ _ a1;clear s0 s2 c2 a4;refine i06 qc rfl ⟨_,SqL.of a3⟩ (A2l (K:=K) (a:=qc) (xs:=c4.map V.ref) (λi Z G=>∃(o5 o6 o7 o8:Option V) (l:List (List Int×Int)),Z=[Sro a,Sro sl,Sro d,Sro X,Sio W,o5,o6,o7,o8]/\A0u B G/\G X=some (.dK (kk++[(Sum.inr e.1,.ref q)]))/\G q=some (.dT (B6y l))/\l.map (·.1)=(A1v (lnL I) e.2.1).take i/\(∀c∈(A1v (lnL I) e.2.1).take i,B4x (lnL I) W (D++[(e.1,l)]) e c)/\BdD W (D++[(e.1,l)])) (i14 none none none none [] rfl M.s M.e1 M.e2 rfl ⟨(λc hc=>by cases hc),bd.snoc λx hx=>by cases hx⟩) (by rintro i Z G _ ⟨_,_,_,_,_,_,s,_⟩;exact SqL.of (s _ _ b6)) ?_ ?_)
  ·rintro i y Z G hi ⟨o5,o6,o7,o8,l,rfl,Y,R,gq,kc,O,a0⟩;obtain ⟨pc,f2,rfl⟩:=A6j hi;obtain ⟨c,hc,c0⟩:=e3.get f2;have d2:=A4b.mp (Z13 hc);have e8:=A5p d2
   have a8:∀t,inC (lnL I) e.2.2.1 t->A1y (lnL I) (okC (prD (D++[(e.1,l)]))) (okC (prD (D++[(e.1,l)]))) (A5z (e.2.1++e.2.2.1) (c++t)) e.2.2.2:=λt ht=>u.sf c d2 t ht _ (by rintro a d ⟨v,z⟩;exact ⟨v,Ext.new u.nn a d v z⟩) λd hd ah=>by
    obtain ⟨v,z⟩:=D1t kc (C5q hc hd ah);exact ⟨v,by rw [B6k u.nn,Z12 rfl];exact z⟩
   have f1:=M.num Y R gq;refine i1b _ rfl _ rfl sl d e.2.2.1 I rfl (Y _ _ a1) (Y _ _ U) e9 (by lia) ⟨d6,λq2 G3 f6 s3 c3=> ?_⟩;obtain ⟨e5,c6,b9⟩:=c3.ex;have e0:=Paired.length b9;refine i06 q2 rfl ⟨_,SqL.of c6⟩ (A2l (K:=K) (a:=q2) (xs:=e5.map V.ref) (λj Z F=>∃(o7 o8:Option V),Z=[Sro a,Sro sl,Sro d,Sro X,Sio W,Sro pc,some (.int (B4c (λt=>A3n (lnL I) W (Nm (D++[(e.1,l)])) (A5z (e.2.1++e.2.2.1) (c++t)) e.2.2.2) ((A1v (lnL I) e.2.2.1).take j))),o7,o8]/\A0u G3 F) (i07 _ _ rfl (A0u.refl _)) (by rintro j Z F _ ⟨_,_,_,s⟩;exact SqL.of (s _ _ c6)) ?_ ?_)
   ·rintro j y Z F hj ⟨o7,o8,rfl,sF⟩;obtain ⟨b0,b2,rfl⟩:=A6j hj;obtain ⟨c2,d1,d0⟩:=b9.get b2;have a2:=A4b.mp (Z13 d1);have d7:=A5p a2;have N:=s3.trans sF;have J:=Y.trans N;refine i19 _ rfl a _ dx _ _ rfl (J _ _ a7) cl b4 b7 (i15 _ rfl ca sl _ _ rfl rfl (J _ _ b8) (J _ _ a1) (A2a (by simp;lia)) λcc e7=> ?_);have s5:=A0e (o:= .lst (e.2.1.map V.str++e.2.2.1.map V.str)) e7;have h5:upd F cc (.lst (e.2.1.map V.str++e.2.2.1.map V.str)) cc=some (.lst (e.2.1.map V.str++e.2.2.1.map V.str)):=A0b;generalize upd F cc (.lst (e.2.1.map V.str++e.2.2.1.map V.str))=F5 at s5 h5;refine i1b _ rfl _ rfl pc b0 _ _ rfl rfl (s5 _ _ (J _ _ c0)) (s5 _ _ (sF _ _ d0)) (A2a (by simp;lia)) λpz F6 s6 b1=> ?_;have ek:e.2.1.map V.str++e.2.2.1.map V.str=((e.2.1++e.2.2.1).map (Sum.inr:Str->Key)).map kV:=by rw [List.map_map,Z0s];rfl
    have eu:c.map V.int++c2.map V.int=(c++c2).map V.int:=by rw [Z0s]
    rw [ek] at h5;rw [eu] at b1;have lz:(c++c2).length=(e.2.1++e.2.2.1).length:=by rw [Z06,Z06,e8,d7]
    refine i0y cc pz ((e.2.1++e.2.2.1).map Sum.inr) ((c++c2).map V.int) rfl (SqL.of (s6 _ _ h5)) (SqT.of b1) (by rw [Z08,Z08,lz]) λdd e6=> ?_;have s7:=A0e (o:= .dK (A4h [] (((e.2.1++e.2.2.1).map (Sum.inr:Str->Key)).zip ((c++c2).map V.int)))) e6;have c9:=D9b (m:=200) u.nd lz (by rw [Z06];lia) (A0b (H:=F6) (a:=dd) (o:= .dK (A4h [] (((e.2.1++e.2.2.1).map (Sum.inr:Str->Key)).zip ((c++c2).map V.int)))));generalize upd F6 dd (.dK (A4h [] (((e.2.1++e.2.2.1).map (Sum.inr:Str->Key)).zip ((c++c2).map V.int))))=F7 at s7 c9;have b5:=s5.trans (s6.trans s7);have c7:=N.trans b5;have a5:=Y.trans c7;have gd:=u.d;refine i02 _ rfl (i19 _ rfl a _ dx _ _ rfl (a5 _ _ a7) cl f3 e4 (i0e _ rfl _ rfl (i0e _ rfl _ rfl (i11 nv dd d X W e.2.2.2 (e.2.1++e.2.2.1) nm (A5z (e.2.1++e.2.2.1) (c++c2)) (i0r I (D++[(e.1,l)]) 200 rfl ⟨f0.imp a5,c9,a5 _ _ U,f1.same c7,w0,w1,a0,u.w,u.ti,u.dk,by lia,a8 c2 a2⟩ (by lia) λF8 s8=>(i07 _ _ rfl (i0b rfl (some (.ref b0)) (some (.ref dd)) ?_ (sF.trans (b5.trans s8)))))))))
    have es:∀f:List Int->Int,B4c f ((A1v (lnL I) e.2.2.1).take (j+1))=B4c f ((A1v (lnL I) e.2.2.1).take j)+f c2:=λf=>by
     rw [Z14,d1,B2o];show _+(f c2+0)=_;rw [Int.add_zero]
    rw [es];rfl
   ·rintro Z F ⟨o7,o8,rfl,sF⟩;rw [Z08,e0,Z18];have N:=s3.trans sF;have J:=Y.trans N;have dg:=C8o M.nk (N _ _ R);have d5:=N _ _ gq
    have d3:c∉l.map (·.1):=by
     rw [kc];intro z;have n2:=(B7m (L:=lnL I) e.2.1).sublist (Z2o (i+1) _);rw [Z14,hc] at n2;exact (Z0l.mp n2).2.2 c z c (by simp) rfl
    have a9:l.length<300000:=by
     have z:=congrArg List.length kc;rw [Z08,Z0x] at z
     lia
    refine i0w _ rfl _ rfl _ _ rfl rfl (i05 w0 _ rfl (i19 _ rfl a _ dx _ _ rfl (J _ _ a7) cl b3 lk1 (i0f X _ rfl dg (i0o _ rfl _ _ rfl (C3y d5 (J _ _ c0) d3 a9) ?_))));refine i14 _ _ _ _ (l++[(c,C8q (lnL I) W (Nm (D++[(e.1,l)])) e c)]) rfl (A0o J M.n) (by rw [A0i M.ne];exact N _ _ R) A0b ?_ ⟨?_,?_⟩
    ·rw [Z0s,kc,Z14,hc];rfl
    ·intro c' c8;rw [Z14,hc] at c8;rcases Z07.mp c8 with z | z
     ·exact (O c' z).ext (Ext.cell u.nn)
     ·rw [Z0w.mp z];exact B4x.mk2 u.nn d3 λt ht=>a8 t (A4b.mp ht)
    ·refine bd.snoc λx hx=> ?_;rcases Z07.mp hx with z | z
     ·exact a0 (e.1,l) (Z07.mpr (.inr (.head _))) x z
     ·rw [Z0w.mp z];exact ⟨Z1v _ (by lia),Z1p _ w0⟩
  ·rintro Z G ⟨o5,o6,o7,o8,l,rfl,Y,R,gq,kc,O,a0⟩;rw [Z08,d9,Z18] at kc O;exact k l G (λb o hb z=>Y _ _ (M.g _ _ (A0h hb z))) (M.num Y R gq) kc (λc hc=>O c (A4b.mpr hc)) a0
theorem B2c.same (h:B2c H p ax tb ls) (s:A0u H H'):B2c H' p ax tb ls:=by
 refine e0e h.ob ?_;rintro u d g m q c e o ⟨b,j,f,i,v,n,k⟩;exact ⟨(i08 u d g (i14 m q c e o (s _ _ b) (s _ _ j) (s _ _ f) (Paired.mapP i λ_ _ z=>z.same s) (s _ _ v) ⟨Paired.mapP n λ_ _ z=>z.same s,s _ _ k⟩)),h.hx,h.t,h.l,h.ok,h.sf,h.nd,h.ng,h.pb,λa r z=>h.wp a r (by rw [s _ _ b] at z;rw [b];exact z)⟩
theorem E2f.lt {e:Lt} (h:E2f lk e):D6h e:=⟨h.l1,by have:=h.l3;lia,λx a=>(h.n x a).1,h.w,by have:=h.d;lia,h.k⟩
theorem B2c.pr (h:B2c H p ax tb ls) (d:os.length<=100):D8w ax tb ls os:=by
 obtain ⟨_,_,_,_,_,_,_,_,_,_,_,a,_⟩:=h.ob;refine ⟨h.hx.2.2.1,⟨by have:=h.hx.2.2.2;rw [Z08];lia,λx c=>(h.hx.2.1 x c).1⟩,by have:=h.t;lia,λe b=> ?_,h.l,λe b=>(h.ok e b).lt,d⟩;obtain ⟨x,q,g,_,_,_,_,f,_⟩:=D9i a e b
 lia
theorem B2c.dk (h:B2c H p ax tb ls):B0d (A2g ax) (ax.map (·.1)):=by
 obtain ⟨j,d,g,e,i,a,b,o,f,c,_⟩:=h.ob;exact (D9x c h.hx).dk
theorem B2c.axs (h:B2c H p ax tb ls) (n:ys.Nodup) (a:∀x∈ys,x∈ax.map (·.1)):A3l (lnL (A2g ax)) ys<=8000:=by
 refine Int.le_trans (C2x n a λx c=> ?_) (D5r h.hx h.pb);obtain ⟨m,e,b,_⟩:=h.dk x c;rw [A7d e];exact b
abbrev esU (tb:List (Str×List Str)) (zs:List Ln):List (Str×List Str):=tb++zs.map λe=>(e.1,e.2.1)
section
variable {H:Hp} {p:Addr} {ax:List (Str×Int)} {tb:List (Str×List Str)} {ls:List Lt}
theorem B2c.kn (h:B2c H p ax tb ls):KnC (A2g ax) (ax.map (·.1)):=by
 refine ⟨λx a e=> ?_,λx a=> ?_,h.hx.2.2.1⟩
 ·have:=(h.hx.2.1 x a).2;rw [e] at this;exact absurd this (by decide)
 ·obtain ⟨m,e,b,_⟩:=h.dk x a;rw [A7d e];exact b
theorem B2c.du (h:B2c H p ax tb ls):DuI (A2g ax) tb ls (duP (ax.map (·.1)) ls):=by
 have:=D8u h.kn h.sf (Z0l.mp h.nd).2.1 (λx a=>h.ng x (Z07.mpr (.inr a))) ls.length (Z09 _);rw [Z18] at this;exact this
theorem B2c.lnn (h:B2c H p ax tb ls):∀e∈C2n ax ls,LnN (ax.map (·.1)) e:=by
 have:=E0w h.hx.2.2.1 h.sf ls.length (Z09 _);rw [Z18] at this;exact this
theorem B2c.nms (h:B2c H p ax tb ls):(tb.map (·.1)++(C2n ax ls).map (·.1)).Nodup:=by
 obtain ⟨d,i,g⟩:=Z0l.mp h.nd;refine Z0l.mpr (i00 d h.du.nm.nd λa c b f e=> ?_);rcases h.du.nm.ex b f with ⟨k,_,z⟩ | z
 ·exact D7c k (z▸e▸h.ng a (Z07.mpr (.inl c)))
 ·exact g a c b z e
end
abbrev GvP (H:Hp) (p:Key×V) (g:Str×List Int):Prop:=p.1=Sum.inr g.1/\∃r,p.2= .ref r/\H r=some (.lst (g.2.map V.int))
structure D6m (H:Hp) (gd:Addr) (gs:List (Str×List Int)):Prop where
 ex:∃kk:List (Key×V),H gd=some (.dK kk)/\Paired (GvP H) kk gs
theorem GvP.same (s:A0u H H') (h:Paired (GvP H) kk gs):Paired (GvP H') kk gs:=Paired.mapP h (by rintro _ _ ⟨a,r,b,c⟩;exact i05 a r b (s _ _ c))
theorem D6m.same {a:Addr} (h:D6m H a gs) (s:A0u H H'):D6m H' a gs:=by
 obtain ⟨b,e,p⟩:=h.ex;exact ⟨b,s _ _ e,GvP.same s p⟩
theorem C1d {H:Hp}:∀{kk:List (Key×V)} {gs:List (Str×List Int)},Paired (GvP H) kk gs->kk.map (·.1)=(gs.map (·.1)).map Sum.inr
 | _,_,.nil=>rfl
 | _,_,.cons r t=>by rw [Z0p,Z0p,Z0p,r.1,C1d t]
theorem D6m.get {e:Addr} (h:D6m H e gs) (n:(gs.map (·.1)).Nodup) {g:Str×List Int} (o:gs[i]? =some g):∃r,A9g H e (.str g.1) (some (.ref r))/\H r=some (.lst (g.2.map V.int)):=by
 obtain ⟨j,s,p⟩:=h.ex;have u:=Paired.length p;have t:=(Z03.mp o).1;have d:j[i]? =some j[i]:=Z0b (by lia);obtain ⟨f,m,a,r,b,c⟩:=B3r p d;rw [o] at m;cases m;refine i02 r ?_ c;have q:(j.map (·.1)).Nodup:=by rw [C1d p];exact n.map (f:=(Sum.inr:Str->Key)) λa b l z=>l (Sum.inr.inj z)
 have v:=C3f (k:=Sum.inr g.1) (v:= .ref r) q (by rw [d,<-a,<-b]);have g:=A9g.k (H:=H) (a:=e) (k:=Sum.inr g.1) s;rw [v] at g;exact g
abbrev D4g (L:Str->Int):List (Str×List Int)->List (Str×List Str)->Prop:=Paired λg e=>g.1=e.1/\g.2.length=(A1v L e.2).length
theorem D4g.names {L:Str->Int}:∀{gs:List (Str×List Int)} {tb:List (Str×List Str)},D4g L gs tb->gs.map (·.1)=tb.map (·.1)
 | _,_,.nil=>rfl
 | _,_,.cons r t=>by rw [Z0p,Z0p,r.1,D4g.names t]
theorem D0a (l:ys.length<=3) (h:B0d lk ys):A3l (lnL lk) ys<=216000:=by
 have b:=C0q (L:=lnL lk) (M:=60) (by decide) (xs:=ys) λy c=>by
  obtain ⟨m,z,e,a⟩:=h y c;rw [A7d z];exact ⟨e,a⟩
 have d:∀n:Nat,n<4->(60:Int)^n<=216000:=by decide
 exact Int.le_trans b (d _ (by lia))
theorem D3k (h:B0d lk ys):((A1v (lnL lk) ys).length:Int)=A3l (lnL lk) ys:=B2s λy a=>by
 obtain ⟨m,z,b,_⟩:=h y a;rw [A7d z];exact b
def B4v:Sp:=λf H Q _=>∃(p:Addr) (h:Int) (b:List (Str×Int)) (e:List (Str×List Str)) (g:List Lt),f=[.ref p,.int h]/\B2c H p b e g/\∀(c:Addr) (d:List (Str×List Int)) (a:Hp),A0u H a->D6m a c d->D4g (lnL (A2g b)) d e->Q (.ref c) a
theorem B4u (T:Txt K mg t):FO P w base T.iz 2 B4v:=by
 have Ge9:= @A7f P w K mg base t T;have Gc7:= @A7c P w K mg base t T;refine T.iz.F.ok A1g (by walk_at "ln") λ_ A _ s H _ Q E hr h=> ?_
 ·obtain ⟨p,sd,ax,tb,ls,rfl,pg,k⟩:=h;have hu:=A8b hr;refine e0e pg.ob ?_;rintro wh d U ll ol a9 b5 o0 ⟨hp,hd,R,a2,b2,b7,b3⟩;have a7:=Paired.length a2;have t6:=pg.t;refine i02 _ (@RS.r _ _ _ (rq1 ⟨A9f (pv 0) (A3q (n:=5) rfl (A0r (A0k (i:=2) A1g.nd rfl (.inl rfl)) (A0r (A0k (i:=3) A1g.nd rfl (.inl rfl)) (A0r (A0k (i:=4) A1g.nd rfl (.inl rfl)) (A0r (A0k (i:=5) A1g.nd rfl (.inl rfl)) (A0r (A0k (i:=6) A1g.nd rfl (.inl rfl)) A2p))))))⟩ (rq1 (rq6 7 A1g.nd B2i) (rq1 (rq6 8 A1g.nd (A0j A1o (pv 1) A0d)) (rq1 (rq7 (A2c (pv 4)) (A3q (n:=2) rfl (A0r (A0k (i:=9) A1g.nd rfl (.inl rfl)) (A0r (A0k (i:=10) A1g.nd rfl (.inl rfl)) A2p))) (rq1 (rq6 11 A1g.nd (@A1r _ _ _ _ A0c)) (rq1 (rq7 (A2c (pcl Ge9 hr T.c_ (A0a (pv 10) (A0a (pv 3) A0c)))) (A0k (i:=12) A1g.nd rfl (.inl rfl)) (rq1 (rq6 13 A1g.nd (A0j A1j (pv 8) (A0j A3v (A0j A6b A0d (A0j A6v A0d A0d)) A0d))) (rq1 (rq6 8 A1g.nd (A0j C3o (pv 8) (A0j A3v (A0j A6b A0d (A0j A6v A0d A0d)) A0d))) (rq2 (rq4 (A0p A3d (A0j A1j (pv 1) A0d) A0d (A1b _)) (rq1 (rq6 13 A1g.nd (A0j A1o (pcl Gc7 hr T.fc (A0a (pv 1) (A0a (A0j A2h (A0q A0y (by rfl) T.ce Z0r (A0a (pv 11) A0c)) (A0j A6b A0d (A0q C7v (by rfl) T.ce Z0r (A0a (pv 7) A0c)))) A0c))) (A0j A6v A0d A0d))) (rq3 (rq6 13 A1g.nd (A0j A1j (A0j A1o (pv 13) A0d) (A1f A1n (@A1r _ _ _ _ (A0a A0d (A0a (A0j A3v (A0j A6b A0d (A0j A6v A0d A0d)) A0d) A0c))) (A0j A1j (pv 13) A0d) (λ_ _=>rfl)))))) ⟨A0x⟩) (rq3 ⟨A2r (A6y Z0k Z0n Z0o A2e (pv 11) (A0a (A1f A1n (@A1r _ _ _ _ (A0a (A0j A1o (pv 13) A0d) (A0a (A0j A3v (B6b B0j A0d) (A0j A1o (pv 13) A0d)) A0c))) (A0j A1j (pv 13) A0d) (λ_ _=>rfl)) A0c))⟩))))) (rq3 ⟨@A6s _ _ _ _ _ _ _ _ _ hu (pv 7) (pv 9) (pv 11) rfl⟩)))) (rq3 (rq5 (pv 7)))))))) ?_;refine i0o _ rfl p _ rfl (SqT.of hp) (i0b rfl _ _ rfl (i03 _ _ (i0b rfl _ _ rfl ⟨_,(i0o _ rfl _ _ rfl rfl ?_)⟩)));refine λc I=> ?_;have s0:=A0e (o:= .dK []) I;have h0:upd H c (.dK []) c=some (.dK []):=A0b;generalize upd H c (.dK [])=H0 at s0 h0;refine i0s _ rfl _ _ rfl rfl ⟨by decide,by decide⟩ ?_;refine i0k _ rfl U rfl ⟨_,SqL.of (s0 _ _ R)⟩ ?_;refine A2l (K:=K) (a:=U) (xs:=a9) (λi Z G=>∃(u:Int) (o9 J D l g:Option V) (q:List (Key×V)) (B:List (Str×List Int)),Z=[Sro p,Sio sd,Sio wh,Sro d,Sro U,Sro ll,Sro ol,Sro c,Sio u,o9,J,D,l,g]/\A0u H G/\G c=some (.dK q)/\Paired (GvP (A0s (λb=>b≠c) G)) q B/\D4g (lnL (A2g ax)) B (tb.take i)) (i08 _ none none ⟨none,(i0y none none [] [] rfl s0 h0 .nil .nil)⟩) (by rintro i Z G _ ⟨_,_,_,_,_,_,_,_,_,s,_⟩;exact SqL.of (s _ _ R)) ?_ ?_
  ·rintro i x Z G hx ⟨u,o9,J,D,l,g,q,B,rfl,S,Y,O,N⟩;refine B2x ?_;intro D';obtain ⟨e,he,qe,al,rfl,e1,e2,_,e3,_,e4⟩:=B3r a2 hx;have i6:i<tb.length:=(Z03.mp he).1;have b6:B.length=i:=by have:=Paired.length N;rw [Z0x] at this;lia
   have b4:=Paired.length O;refine i1a qe _ rfl (SqT.of (S _ _ e1)) rfl _ _ rfl _ _ rfl rfl ?_;refine ⟨A0v rfl,λm a1=> ?_⟩;have s1:=A0e (o:= .lst []) a1;have h1:upd G m (.lst []) m=some (.lst []):=A0b;generalize upd G m (.lst [])=G1 at s1 h1;have X:=S.trans s1;have pe:=D0a e3 e4;refine i1b _ rfl _ rfl al d e.2 (A2g ax) rfl (X _ _ e2) (X _ _ hd) e4 pe ⟨by lia,λqc G2 W s2 cc=> ?_⟩;obtain ⟨ps,a0,tp⟩:=cc.ex;have a8:=Paired.length tp;have b1:=D3k e4;have a5:=s1.trans s2;refine i06 qc rfl ⟨_,SqL.of a0⟩ (A2l (K:=K) (a:=qc) (xs:=ps.map V.ref) (λj Z F=>∃(u:Int) (l g:Option V) (M:List Int),Z=[Sro p,Sio sd,Sio wh,Sro d,Sro U,Sro ll,Sro ol,Sro c,Sio u,Sso e.1,Sro al,Sro m,l,g]/\A0u G F/\F qc=some (.lst (ps.map V.ref))/\F m=some (.lst (M.map V.int))/\M.length=j) (i0y _ _ _ [] rfl a5 a0 (s2 _ _ h1) rfl) (by rintro j Z F _ ⟨_,_,_,_,_,_,s,_⟩;exact SqL.of s) ?_ ?_)
   ·rintro j y Z F hj ⟨u,l,g,M,rfl,v,a3,f,lz⟩;have j1:j<ps.length:=by have:=(Z03.mp hj).1;rw [Z08] at this;exact this
    have C:(0:Int)<2*10^(60:Int).toNat-1:=by decide +kernel
    have a6:((2:Int)*10^(60:Int).toNat-1).natAbs<2^4000:=by decide +kernel
    refine i18 _ rfl _ _ rfl rfl (i00 (by decide) (by decide) (by decide)) _ _ rfl rfl (.inl ⟨by decide,by decide⟩) (i0f _ _ rfl rfl (i0m _ _ rfl rfl C ?_));refine i18 _ rfl _ _ rfl rfl (i00 (by decide) (by decide) (by decide)) _ _ rfl rfl (.inl ⟨by decide,by decide⟩) (i0f _ _ rfl rfl (i0m _ _ rfl rfl ⟨C,a6⟩ ?_));refine i02 (λZ F'=>∃n:Int,Z=[Sro p,Sio sd,Sio wh,Sro d,Sro U,Sro ll,Sro ol,Sro c,Sio (u/(2*10^(60:Int).toNat-1)),Sso e.1,Sro al,Sro m,some y,Sio n]/\A0u F F') ?_ ?_
    ·refine i0o _ rfl _ _ rfl rfl (i0a D5z rfl _ rfl (D2r (λ_=> ?_) (λ_=>(i02 _ rfl (A0u.refl _)))));refine i0w _ rfl _ rfl m _ rfl (.inl (SqL.of f)) (i0o _ rfl c q rfl (v _ _ Y) (i0f _ _ rfl rfl (i0i (.inl ⟨by decide,by decide⟩) _ _ rfl rfl (i0m sd _ rfl (by lia) (by rw [Z08];lia) λr=> ?_))));refine i0m _ _ rfl rfl (i00 (by decide) (by decide) (by decide)) (i0m _ _ rfl rfl ⟨by decide +kernel,by decide +kernel⟩ ?_)
     obtain ⟨b,b0,eb⟩:∃b:Int,0<b/\atI [V.int 21,V.int (2*10^(60:Int).toNat-1)] (r/10^(6:Int).toNat%2)=some (.int b):=by
      rcases Int.emod_two_eq (r/10^(6:Int).toNat) with e | e <;> rw [e]
      ·exact i02 21 (by decide) rfl
      ·exact i02 _ C rfl
     refine i18 _ rfl _ _ rfl rfl ⟨by decide,by decide⟩ _ _ rfl rfl (i00 (by decide) (by decide) (by decide)) (i0m _ _ rfl rfl (.inl ⟨by decide,by decide⟩) (i0m _ _ rfl rfl (A0v rfl) λzl L=>(i0s _ rfl _ _ rfl rfl D5z (i0y zl _ _ _ rfl rfl (SqL.of A0b) eb (i07 _ _ rfl (i0a rfl b0 _ rfl (A0e L)))))))
    ·rintro Z F' ⟨n,rfl,a4⟩
     obtain ⟨b,eb⟩:∃b:Int,atI [V.int (n/2),V.int (-1-n/2)] (n%2)=some (.int b):=by
      rcases Int.emod_two_eq n with e | e <;> rw [e]
      ·exact ⟨_,rfl⟩
      ·exact ⟨_,rfl⟩
     refine i06 _ rfl (.inl (i01 rfl _ (SqL.of (a4 _ _ f)))) (i0o _ rfl _ _ rfl rfl (i05 ⟨by decide,by decide⟩ _ rfl (i18 _ rfl _ _ rfl rfl ⟨by decide,by decide⟩ _ _ rfl rfl (A0v rfl) λzl L=>(i0s _ rfl _ _ rfl rfl D5z (i0y zl _ _ _ rfl rfl (SqL.of A0b) eb ?_)))));have sz:=a4.trans (A0e (o:= .lst [V.int (n/2),V.int (-1-n/2)]) L);refine i0u m _ _ rfl rfl (sz _ _ f) (A1l (by rw [Z08];lia)) ?_;have qr:qc≠m:=λz=>by rw [z,h1] at W;cases W
     refine i0y _ _ _ (M++[b]) rfl (A0o (v.trans sz) a1) (by rw [A0i qr];exact sz _ _ a3) (by rw [A0b,Z0s];rfl) (by simp [lz])
   ·rintro Z F ⟨u,l,g,M,rfl,v,a3,f,lz⟩;rw [Z08,a8] at lz
    have nk:(Sum.inr e.1:Key)∉q.map (·.1):=by
     rw [C1d O,N.names];intro z;obtain ⟨y,hy,ey⟩:=Z2c.mp z;have n2:=((Z0l.mp pg.nd).1).sublist ((Z2o (i+1) tb).map (·.1));rw [Z14,he,Z0s] at n2;exact (Z0l.mp n2).2.2 y hy e.1 (by simp) (Sum.inr.inj ey)
    refine i12 _ rfl _ rfl _ rfl c _ rfl (C0e.k (k:=Sum.inr e.1) (v _ _ Y) (A1l (by lia))) ?_;have rm:m≠c:=λz=>by rw [z,v _ _ Y] at f;cases f
    have b8:H c=none:=I;have sR:A0u (A0s (λb=>b≠c) G) (A0s (λb=>b≠c) (upd F c (.dK (A7y q (Sum.inr e.1) (.ref m))))):=A2i (A0g v) λz=>z rfl;rw [B6a nk] at sR⊢;refine i08 _ _ _ ⟨_,(i0y _ _ (q++[(Sum.inr e.1,.ref m)]) (B++[(e.1,M)]) rfl (A0o (S.trans v) I) A0b (B2p (GvP.same sR O) (.cons (i05 rfl m rfl (A0h rm (by rw [A0i rm];exact f))) .nil)) ?_)⟩;rw [Z14,he];exact B2p N (.cons ⟨rfl,lz⟩ .nil)
  ·rintro Z G ⟨u,o9,J,D,l,g,q,B,rfl,S,Y,O,N⟩;rw [a7,Z18] at N;exact i02 _ rfl (k c B G S ⟨q,Y,GvP.same A0m O⟩ N)
theorem C0d {L:Str->Int} {pr:PrP} {u:Tm}:∀{s:List Str} {ρ:Env},(∀t,inC L s t->A1y L (okC pr) (okC pr) (C6j ρ s t) u)->A1y L (okC pr) (okC pr) ρ (B2u s u)
 | [],_,h=>h [] True.intro
 | _::_,_,h=>λi a c=>C0d λt b=>h (i::t) ⟨⟨a,c⟩,b⟩
theorem LtS.ti {nm:List Str} {e:Lt} (h:LtS lk nm es e):A6p nm e.2.1 e.2.2/\e.2.1.Nodup/\∀x∈e.2.1,x∈nm:=by
 obtain ⟨d,u,f,b,a,g⟩:=h.ex;exact i00 (by rw [f];exact B6s g.ti b λx c=>a x (Z07.mpr (.inr c))) ((Z0l.mp b).1) λx c=>a x (Z07.mpr (.inl c))
theorem D3f {ax s:List Str} {t:List Int} (h:∀x∈ax,x∉s):ax.map (C6j ρ s t)=ax.map ρ:=List.map_congr_left λx a=>A4w (h x a)
theorem B5y {nm xs:List Str} (b:∀x∈nm,¬x=("":Str)) (a:∀x∈xs,x∈nm) (d:inC L xs c):InR L xs (A5z xs c):=⟨B1r λz=>b _ (a _ z) rfl,C6h d⟩
theorem D0q {nm:List Str} {e:Lt} (o:KnC lk nm) (h:LtS lk nm es e) (q:inC (lnL lk) e.2.1 c) {pr:PrP} (h1:∀f∈es,∀d,inC (lnL lk) f.2 d->pr f.1 d) (h2:∀d,inC (lnL lk) e.2.1 d->A6u d c->pr e.1 d):A1y (lnL lk) (okC pr) (okC pr) (A5z e.2.1 c) e.2.2:=by
 obtain ⟨g,u,C,m,j,B⟩:=h.ex;obtain ⟨w,D,A⟩:=Z0l.mp m;rw [C];refine C0d λt r=> ?_;have s:=B5y (L:=lnL lk) o.n (λx l=>j x (Z07.mpr (.inl l))) q;have v:=C3v s (λz=>o.n _ (j _ (Z07.mpr (.inr z))) rfl) D r;have y:e.2.1.map (C6j (A5z e.2.1 c) g t)=c:=by rw [D3f λx l z=>A x l x z rfl,C0o w (A5p q)]
 refine A9k (okn:=okA (lnL lk) es) (by rintro ρ a d ⟨f,b,i,k⟩;exact i▸h1 f b d k) (λa d z=> ?_) (B.sf _ v);rcases z with ⟨f,b,i,k⟩ | ⟨f,b,i,k,p⟩
 ·exact i▸h1 f b d k
 ·cases b
  rw [i];rw [y] at p;exact h2 d k p
abbrev ltL (e:Lt):Ln:=(e.1,e.2.1,[],e.2.2)
structure StI (L:Str->Int) (W:Int) (tb:List (Str×List Str)) (D0:Dt) (rs:List Ln) (D:Dt):Prop where
 nm:D.map (·.1)=tb.map (·.1)++rs.map (·.1)
 cov:∀f∈esU tb rs,∀d,inC L f.2 d->prD D f.1 d
 good:∀e∈rs,∀c,inC L e.2.1 c->B4x L W D e c
 ext:Ext D0 D
 bd:BdD W D
 row:∀e∈rs,∃cur,luA D e.1=some cur/\cur.map (·.1)=A1v L e.2.1
theorem StI.snoc {rs:List Ln} {e:Ln} (h:StI L W tb D0 rs D) (l:e.1∉D.map (·.1)) (o:cur.map (·.1)=A1v L e.2.1) (j:∀c,inC L e.2.1 c->B4x L W (D++[(e.1,cur)]) e c) (b:BdD W (D++[(e.1,cur)])):StI L W tb D0 (rs++[e]) (D++[(e.1,cur)]):=by
 have x:Ext D (D++[(e.1,cur)]):=Ext.new l;refine ⟨by rw [Z0s,Z0s,h.nm,Z0z];rfl,λf a d g=> ?_,λf a c i=> ?_,h.ext.trans x,b,λf a=> ?_⟩
 ·unfold esU at a;rw [Z0s,<-Z0z] at a;rcases Z07.mp a with a | a
  ·obtain ⟨v,z⟩:=h.cov f a d g;exact ⟨v,x _ _ _ z⟩
  ·rw [Z0w.mp a] at g⊢;exact ⟨_,(j d g).v⟩
 ·rcases Z07.mp a with a | a
  ·exact (h.good f a c i).ext x
  ·rw [Z0w.mp a] at i⊢;exact j c i
 ·rcases Z07.mp a with a | a
  ·obtain ⟨k,m,n⟩:=h.row f a;exact i02 k (by rw [B2y,m];rfl) n
  ·rw [Z0w.mp a];exact i02 cur (by rw [B2y,B2r l,C1k,Z12 rfl];rfl) o
theorem C8s {L:Str->Int}:∀{xs:List Str} {P:List Int->Prop},(∀c,inC L xs c->(∀d,inC L xs d->A6u d c->P d)->P c)->∀c,inC L xs c->P c
 | [],P,h,[],hc=>h [] hc λd _ b=>by cases d <;> exact b.elim
 | x::xs,P,h,c::a,hc=>by
  have g:∀(n:Nat) (a:List Int),(n:Int)<L x->inC L xs a->P ((n:Int)::a):=by
   intro n
   induction n using Nat.strongRecOn with
   | ind n ih =>
    intro a j e;refine C8s (P:=λa=>P ((n:Int)::a)) (λa e i=>h _ ⟨⟨by lia,j⟩,e⟩ λd f b=> ?_) a e
    cases d with
    | nil=>exact b.elim
    | cons d ds =>
     rcases b with b | ⟨rfl,b⟩
     ·have:=ih d.toNat (by have:=f.1;lia) ds (by have:=f.1;lia) f.2;rw [Int.toNat_of_nonneg f.1.1] at this;exact this
     ·exact i ds f.2 b
  have:=g c.toNat a (by have:=hc.1;lia) hc.2;rw [Int.toNat_of_nonneg hc.1.1] at this;exact this
theorem D3q:∀{f g:List (List Int×Int)},f.map (·.1)=g.map (·.1)->(f.map (·.1)).Nodup->(∀k∈f.map (·.1),luA f k=luA g k)->f=g
 | [],[],_,_,_=>rfl
 | a::f,b::g,e,n,h=>by
  rw [Z0p,Z0p] at e;injection e with e1 e2;rw [Z0p,Z15] at n;have d:=h a.1 (.head _);have m:luA (a::f) a.1=some a.2:=by unfold luA;rw [Z2h,Z20 rfl];rfl
  have l:luA (b::g) a.1=some b.2:=by unfold luA;rw [Z2h,Z20 e1.symm];rfl
  rw [m,l] at d;have c:a=b:=Prod.ext e1 (Z1a d);subst c;congr 1;refine D3q e2 n.2 λk i=> ?_;have:=h k (.tail _ i);have j:¬a.1=k:=λz=>n.1 (z▸i);unfold luA at this⊢;rw [Z2h,Z2h,Z1j j] at this;exact this
theorem B7l {nm:List Str} {ls:List Lt}:∀i,i<=ls.length->∀e∈ls.take i,∃z,(e.1,e.2.1,A3o e.2.2,(wsP nm (inS e.2.2) [] [] z).1)∈(duP nm (ls.take i)).2/\∀f∈(wsP nm (inS e.2.2) [] [] z).2.2,f∈(duP nm (ls.take i)).2
 | 0,_,e,a=>by cases a
 | i+1,hi,e,a=>by
  have b:ls[i]? =some ls[i]:=Z0b (by lia);rw [Z14,b] at a;rw [B0g b];rcases Z07.mp a with a | a
  ·obtain ⟨z,g,d⟩:=B7l i (by lia) e a;exact i02 z (Z07.mpr (.inl (B0p _ _ _ _ g))) λf c=>Z07.mpr (.inl (B0p _ _ _ _ (d f c)))
  ·rw [Z0w.mp a];exact i02 (duP nm (ls.take i)) (Z07.mpr (.inr (.head _))) λf c=>Z07.mpr (.inl c)
theorem D5y {nm:List Str} {e:Lt} (g:∀x∈nm,¬x=("":Str)) (w:∀x∈nm,1<=L x) (q:A6p nm e.2.1 e.2.2) (nd:e.2.1.Nodup) (d:∀x∈e.2.1,x∈nm) (k:∀f∈(wsP nm (inS e.2.2) [] [] z).2.2,D8j L W (Nm D) f) (l:inC L e.2.1 c):C8q L W (Nm D) (e.1,e.2.1,A3o e.2.2,(wsP nm (inS e.2.2) [] [] z).1) c=A3n L W (Nm D) (A5z e.2.1 c) e.2.2%W:=by
 obtain ⟨o,m,n⟩:=C3u q nd;obtain ⟨_,A,s⟩:=Z0l.mp n;have a:∀x∈e.2.1++A3o e.2.2,x∈nm:=λx b=>(Z07.mp b).elim (d x) (m x);have y:=B5n (L:=L) (W:=W) (N:=Nm D) (inS e.2.2) (e.2.1++A3o e.2.2) [] [] z ⟨g,w,λx b=>a x (by rw [Z0u] at b;exact b),λf j=>by cases j⟩ (by rw [Z0u];exact n) (by rw [Z0u];exact o) k;have r:=B5y (L:=L) g d l;have p:=(B6f (L:=L) (W:=W) (N:=Nm D) (u:=inS e.2.2) (A3o e.2.2) (A5z e.2.1 c)).1;rw [C3d] at p;rw [<-p];show B4c (λt=>A3n L W (Nm D) (A5z (e.2.1++A3o e.2.2) (c++t)) _) (A1v L (A3o e.2.2))%W=_;congr 1;refine A8y λt i=> ?_;have i:=A4b.mp i;rw [y.v _ (B5y g a (C1f l i)) (λf j=>by cases j)];refine A9v o (λx b=> ?_) ?_
 ·rw [C2c (A5p l)];by_cases h:x∈e.2.1
  ·rw [Z12 h,A4w λz=>s x h x z rfl]
  ·rw [Z0t h,B7j A (A5p i) ((Z07.mp b).resolve_left h)]
 ·rw [B1r λz=>g _ (a _ z) rfl,A4w λz=>g _ (m _ z) rfl,r.1]
theorem C0b {lk:List (Key×V)} {W:Int} {tb:List (Str×List Str)} {nm:List Str} {ls:List Lt} {D0 Dd Df:Dt} (k:KnC lk nm) (w:∀(j:Nat) (e:Lt),ls[j]? =some e->LtS lk nm (tb++C6c (ls.take j)) e) (A:∀f∈tb,∀d,inC (lnL lk) f.2 d->prD D0 f.1 d) (p:StI (lnL lk) W tb D0 (ls.map ltL) Dd) (m:StI (lnL lk) W tb D0 (duP nm ls).2 Df):∀j,j<=ls.length->∀f∈tb++C6c (ls.take j),∀d,inC (lnL lk) f.2 d->NO Dd f.1 d=NO Df f.1 d
 | 0,_,f,b,d,g=>by
  rw [List.take_zero] at b;obtain ⟨v,z⟩:=A f (by unfold C6c at b;rw [List.map_nil,Z0u] at b;exact b) d g;rw [p.ext _ _ _ z,m.ext _ _ _ z]
 | j+1,hj,f,b,d,g=>by
  have h:ls[j]? =some ls[j]:=Z0b (by lia);have B:=C0b k w A p m j (by lia);unfold C6c at b;rw [Z14,h,Z0s,<-Z0z] at b;rcases Z07.mp b with b | b
  ·exact B f b d g
  ·rw [Z0w.mp b] at g⊢;have o:=Z13 h;have s:=w j _ h;generalize ls[j]=e at s o g;obtain ⟨G,F,D⟩:=s.ti
   have r:∀f∈(duP nm ls).2,D8j (lnL lk) W (Nm Df) f:=λf b c i=>by
    have:=(m.good f b c i).v;unfold Nm at this⊢;rw [this];rfl
   obtain ⟨z,x,y⟩:=B7l (nm:=nm) (ls:=ls) ls.length (Z09 _) e (by rw [Z18];exact o);rw [Z18] at x y;refine C8s (L:=lnL lk) (xs:=e.2.1) (P:=λc=>NO Dd e.1 c=NO Df e.1 c) (λc i I=> ?_) d g;have u:=(p.good (ltL e) (Z2c.mpr (i02 e o rfl)) c i).v;have t:=(m.good _ x c i).v;rw [D5y k.n k.l G F D (λf b=>r f (y f b)) i] at t
   have C:C8q (lnL lk) W (Nm Dd) (ltL e) c=A3n (lnL lk) W (Nm Dd) (A5z e.2.1 c) e.2.2%W:=by
    show (A3n (lnL lk) W (Nm Dd) (A5z (e.2.1++[]) (c++[])) e.2.2+0)%W=_;rw [Z0u,Z0u,Int.add_zero]
   rw [C] at u;have H:=A5r (W:=W) (N:=Nm Dd) (N':=Nm Df) (pr:=λa d=>NO Dd a d=NO Df a d) (λa d q=>by unfold Nm;rw [q]) (D0q k s i (λf b d g=>B f b d g) I);show NO Dd e.1 c=NO Df e.1 c;rw [show NO Dd e.1 c=_ from u,show NO Df e.1 c=_ from t,H]
theorem D2f {nm:List Str} {Dd Df:Dt} (o:KnC lk nm) (p:∀(j:Nat) (e:Lt),ls[j]? =some e->LtS lk nm (tb++C6c (ls.take j)) e) (r:∀f∈tb,∀d,inC (lnL lk) f.2 d->prD D0 f.1 d) (h:StI (lnL lk) W tb D0 (ls.map ltL) Dd) (l:StI (lnL lk) W tb D0 (duP nm ls).2 Df) {e:Lt} (g:e∈ls):∃cur,luA Dd e.1=some cur/\luA Df e.1=some cur:=by
 obtain ⟨c1,b,c⟩:=h.row (ltL e) (Z2c.mpr (i02 e g rfl));obtain ⟨z,m,_⟩:=B7l (nm:=nm) (ls:=ls) ls.length (Z09 _) e (by rw [Z18];exact g);rw [Z18] at m;obtain ⟨c2,a,n⟩:=l.row _ m;have b:luA Dd e.1=some c1:=b;have a:luA Df e.1=some c2:=a
 have q:c1=c2:=by
  refine D3q (c.trans n.symm) (by rw [c];exact B7m _) λk i=> ?_;rw [c] at i;have:=C0b o p r h l ls.length (Z09 _) (e.1,e.2.1) (Z07.mpr (.inr (by rw [Z18];exact Z2c.mpr (i02 e g rfl)))) k (A4b.mp i);unfold NO at this;rw [show luA Dd (e.1,e.2.1).1=some c1 from b,show luA Df (e.1,e.2.1).1=some c2 from a] at this;exact this
 exact i02 c1 b (by rw [q];exact a)
abbrev tkR (L:Str->Int) (W:Int) (e:Str×List Str) (g:Str×List Int):List (List Int×Int):=((A1v L e.2).zip g.2).map λx=>(x.1,x.2%W)
def tkD (L:Str->Int) (W:Int):List (Str×List Str)->List (Str×List Int)->Dt
 | e::tb,g::gs=>(e.1,tkR L W e g)::tkD L W tb gs
 | _,_=>[]
theorem D4c {L:Str->Int} {W:Int}:∀{tb:List (Str×List Str)} {gs:List (Str×List Int)} {i:Nat} {e:Str×List Str} {g:Str×List Int},tb[i]? =some e->gs[i]? =some g->(tkD L W tb gs)[i]? =some (e.1,tkR L W e g)
 | _::_,_::_,0,_,_,h1,h2=>by cases h1;cases h2;rfl
 | _::tb,_::gs,i+1,e,g,h1,h2=>by
  show (tkD L W tb gs)[i]? =_;exact D4c (by simpa using h1) (by simpa using h2)
theorem C8m {L:Str->Int} {W:Int}:∀{tb:List (Str×List Str)} {gs:List (Str×List Int)},D4g L gs tb->(tkD L W tb gs).map (·.1)=tb.map (·.1)
 | _,_,.nil=>rfl
 | _,_,.cons r t=>by show _::(tkD L W _ _).map (·.1)=_;rw [C8m t];rfl
theorem C2m {g:Str×List Int} (h:g.2.length=(A1v L e.2).length):(tkR L W e g).map (·.1)=A1v L e.2:=by
 unfold tkR;rw [List.map_map];exact List.map_fst_zip (by lia)
theorem C6m {L:Str->Int} {W:Int}:∀{tb:List (Str×List Str)} {gs:List (Str×List Int)},D4g L gs tb->(tb.map (·.1)).Nodup->∀f∈tb,∀d,inC L f.2 d->prD (tkD L W tb gs) f.1 d
 | _,_,.nil,_,f,a,_,_=>by cases a
 | e::tb,g::gs,.cons r t,n,f,a,d,hd=>by
  rw [Z0p,Z15] at n;show∃v,(luA ((e.1,tkR L W e g)::tkD L W tb gs) f.1).bind (λh=>luA h d)=some v;unfold luA;rw [Z2h];rcases Z0e.mp a with rfl | a
  ·rw [Z20 rfl];obtain ⟨v,z⟩:=C9o (l:=tkR L W f g) (k:=d) (by rw [C2m r.2];exact A4b.mpr hd);exact ⟨v,z⟩
  ·have b:¬e.1=f.1:=λz=>n.1 (z▸Z2c.mpr (i02 f a rfl));rw [Z1j b];exact C6m t n.2 f a d hd
theorem D3z {L:Str->Int} {W:Int} (b:0<W):∀{tb:List (Str×List Str)} {gs:List (Str×List Int)},BdD W (tkD L W tb gs)
 | [],_,f,a=>by cases a
 | _::_,[],f,a=>by cases a
 | e::tb,g::gs,f,a=>by
  rcases Z0e.mp a with rfl | a
  ·intro x c;obtain ⟨y,_,rfl⟩:=Z2c.mp c;exact ⟨Z1v _ (by lia),Z1p _ b⟩
  ·exact D3z b f a
def C5x:Sp:=λh H Q _=>∃(p f:Addr) (a:List (Str×Int)) (c:List (Str×List Str)) (i:List Lt) (b:List (Str×List Int)) (g:Int) (r:List V),h=[.ref p,.ref f]/\B2c H p a c i/\H p=some (.tup (.int g::r))/\D6m H f b/\D4g (lnL (A2g a)) b c/\∀(e:Addr) (d:Hp),H e=none->A0u H d->B1l d e (tkD (lnL (A2g a)) g c b)->Q (.ref e) d
theorem C5w (T:Txt K mg t):FO P w base T.n6 2 C5x:=by
 have Ge9:= @A7f P w K mg base t T;refine T.n6.F.ok A3g (by walk_at "ln") λ_ A _ s H _ Q E hr h=> ?_
 ·obtain ⟨p,gd,f,N,ls,D,l,r,rfl,pg,a1,gv,og,k⟩:=h;have X:=A8b hr;refine e0e pg.ob ?_;rintro c0 d tl ll ol b1 b8 o0 ⟨hp,hd,O,Y,b9,c4,c1⟩;rw [hp] at a1;cases a1;have w0:=(pg.wp _ _ hp).1;have b4:=Paired.length Y;have c3:=Paired.length og;have t6:=pg.t;have a8:(D.map (·.1)).Nodup:=by rw [og.names];exact (Z0l.mp pg.nd).1
  have a2:=C8m (W:=l) og;have lD:(tkD (lnL (A2g f)) l N D).length=N.length:=by have:=congrArg List.length a2;rw [Z08,Z08] at this;exact this
  refine i02 _ (@RS.r _ _ _ (rq1 ⟨A9f (pv 0) (A3q (n:=5) rfl (A0r (A0k (i:=2) A3g.nd rfl (.inl rfl)) (A0r (A0k (i:=3) A3g.nd rfl (.inl rfl)) (A0r (A0k (i:=4) A3g.nd rfl (.inl rfl)) (A0r (A0k (i:=5) A3g.nd rfl (.inl rfl)) (A0r (A0k (i:=6) A3g.nd rfl (.inl rfl)) A2p))))))⟩ (rq1 (rq6 7 A3g.nd B2i) (rq1 (rq7 (A2c (pv 4)) (A3q (n:=2) rfl (A0r (A0k (i:=8) A3g.nd rfl (.inl rfl)) (A0r (A0k (i:=9) A3g.nd rfl (.inl rfl)) A2p))) (rq1 ⟨@A6s _ _ _ _ _ _ _ _ _ X (pv 7) (pv 8) C2r rfl⟩ (rq3 (rq7 (A2c (pcl Ge9 hr T.c_ (A0a (pv 9) (A0a (pv 3) A0c)))) (A0k (i:=10) A3g.nd rfl (.inl rfl)) (rq3 ⟨@A6s _ _ _ _ _ _ _ _ _ X (A2v X (pv 7) (pv 8) (λ_ _=>rfl)) (pv 10) (A0j A1j (A1f A1n (A2v X (pv 1) (pv 8) (λ_ _=>rfl)) (A0q C8i (by rfl) T.ce Z0r (A0a (A2v X (pv 7) (pv 8) (λ_ _=>rfl)) A0c)) (λ_ _=>rfl)) (pv 2)) rfl⟩))))) (rq3 (rq5 (pv 7))))))) ?_;refine i0o _ rfl p _ rfl (SqT.of hp) (i0b rfl _ _ rfl (i03 _ _ (i0b rfl _ _ rfl ⟨_,(i0o _ rfl _ _ rfl rfl ?_)⟩)));refine λu J=> ?_;have s0:=A0e (o:= .dK []) J;have h0:upd H u (.dK []) u=some (.dK []):=A0b;generalize upd H u (.dK [])=H0 at s0 h0;refine i0k _ rfl tl rfl ⟨_,SqL.of (s0 _ _ O)⟩ ?_;refine A2l (K:=K) (a:=tl) (xs:=b1) (λi Z G=>∃(o8 o9 m:Option V),Z=[Sro p,Sro gd,Sio l,Sro d,Sro tl,Sro ll,Sro ol,Sro u,o8,o9,m]/\A0u H G/\B1l G u ((tkD (lnL (A2g f)) l N D).take i)) (i0n none none none rfl s0 ⟨[],h0,.nil⟩) (by rintro i Z G _ ⟨_,_,_,_,s,_⟩;exact SqL.of (s _ _ O)) ?_ ?_
  ·rintro i x Z G hx ⟨o8,o9,m,rfl,sG,nu⟩;refine B2x ?_;intro D';obtain ⟨e,he,qe,al,rfl,e1,e2,_,e3,_,e4⟩:=B3r Y hx;have i6:i<N.length:=(Z03.mp he).1;have hg:D[i]? =some D[i]:=Z0b (by lia);obtain ⟨e',S,eg,lg⟩:=B3r og hg;rw [he] at S;cases S;have I:=D4c (L:=lnL (A2g f)) (W:=l) he hg;generalize D[i]=g at hg eg lg I
   have nn:e.1∉((tkD (lnL (A2g f)) l N D).take i).map (·.1):=λz=>by
    have n2:=((Z0l.mp pg.nd).1);rw [<-a2] at n2;have n3:=n2.sublist ((Z2o (i+1) (tkD (lnL (A2g f)) l N D)).map (·.1));rw [Z14,I,Z0s] at n3;exact (Z0l.mp n3).2.2 e.1 z e.1 (by simp) rfl
   obtain ⟨kk,hk,pk⟩:=nu.ex;have a5:=Paired.length pk;have nk:=C8y pk nn;refine i1a qe _ rfl (SqT.of (sG _ _ e1)) rfl _ _ rfl _ _ rfl rfl ?_;refine λq hq=>(i0w _ rfl _ rfl u _ rfl (C0e.k (k:=Sum.inr e.1) (A0e hq _ _ hk) (A1l (by rw [Z0x] at a5;lia))) ?_);rw [B6a nk];have sH:∀b o,H b=some o->A0s (λb=>b≠u) G b=some o:=λb o z=>A0h (λy=>by rw [y,J] at z;cases z) (sG _ _ z)
   have s1:A0u H (upd (upd G q (.dT [])) u (.dK (kk++[(Sum.inr e.1,.ref q)]))):=λb o z=>by
    obtain ⟨z1,z2⟩:=A0l (sH b o z);rw [A0i z1];exact A0e hq _ _ z2
   have pe:=D0a e3 e4;refine i1b _ rfl _ rfl al d e.2 (A2g f) rfl (s1 _ _ e2) (s1 _ _ hd) e4 pe ⟨by lia,λqc H2 c2 s2 cc=> ?_⟩;obtain ⟨ps,U,tp⟩:=cc.ex;have a9:=Paired.length tp;have b7:=D3k e4;obtain ⟨B,v⟩:=D8l.of hq hk pk nk s2;have a7:=v.k U (by intro x z;cases z) (by intro x z;cases z);have b0:A4l B ps (A1v (lnL (A2g f)) e.2):=tp.imp λp xs z=>v.k z (by intro x z;cases z) (by intro x z;cases z);have R:A0u H B:=λb o z=>v.g _ _ (sH b o z);clear s1 s2 cc tp;have a0:(tkR (lnL (A2g f)) l e g).length=(A1v (lnL (A2g f)) e.2).length:=by unfold tkR;rw [Z08,List.length_zip];lia
   refine i06 qc rfl ⟨_,SqL.of U⟩ (A2l (K:=K) (a:=qc) (xs:=ps.map V.ref) (λj Z F=>∃(m:Option V),Z=[Sro p,Sro gd,Sio l,Sro d,Sro tl,Sro ll,Sro ol,Sro u,Sso e.1,Sro al,m]/\A0u B F/\F u=some (.dK (kk++[(Sum.inr e.1,.ref q)]))/\F q=some (.dT (B6y ((tkR (lnL (A2g f)) l e g).take j)))) (i0c _ rfl v.s v.e1 v.e2) (by rintro j Z F _ ⟨_,_,s,_⟩;exact SqL.of (s _ _ a7)) ?_ ?_)
   ·rintro j y Z F hj ⟨m,rfl,M,C,fq⟩;obtain ⟨pc,b5,rfl⟩:=A6j hj;obtain ⟨c,hc,b2⟩:=b0.get b5;have c5:=(Z03.mp hc).1;have dg:=C8o v.nk C;have hz:g.2[j]? =some g.2[j]:=Z0b (by lia)
    have a4:(tkR (lnL (A2g f)) l e g)[j]? =some (c,g.2[j]%l):=by
     unfold tkR;rw [Z1z,(Z2m (z:=(c,g.2[j]))).mpr ⟨hc,hz⟩];rfl
    have lt:(B6y ((tkR (lnL (A2g f)) l e g).take j)).length=j:=by unfold B6y;rw [Z08,Z0x];lia
    have ez:atI (g.2.map V.int) (((B6y ((tkR (lnL (A2g f)) l e g).take j)).length:Nat):Int)=some (.int g.2[j]):=by rw [lt];exact A3m (by rw [Z1z,hz];rfl)
    have b6:c∉((tkR (lnL (A2g f)) l e g).take j).map (·.1):=λz=>by
     rw [List.map_take,C2m lg] at z;have n2:=(B7m (L:=lnL (A2g f)) e.2).sublist (Z2o (j+1) _);rw [Z14,hc] at n2;exact (Z0l.mp n2).2.2 c z c (by simp) rfl
    have b3:A0u H F:=R.trans M;obtain ⟨rr,a3,a6⟩:=(gv.same b3).get a8 hg;rw [eg] at a3;refine i0w _ rfl _ rfl gd _ rfl a3 (i0w _ rfl _ rfl u _ rfl dg (i0f q _ rfl fq (i0y rr _ _ _ rfl rfl (SqL.of a6) ez (i0s _ rfl _ _ rfl rfl w0 (i0w _ rfl _ rfl u _ rfl dg (i0o _ rfl q _ rfl (C3y fq (M _ _ b2) b6 (by rw [Z0x];lia)) ?_))))));refine i0c _ rfl (A0o M v.n) (by rw [A0i v.ne];exact C) ?_;rw [A0b,Z14,a4];rfl
   ·rintro Z F ⟨m,rfl,M,C,fq⟩;rw [Z08,a9,<-a0,Z18] at fq;refine i0n _ _ _ rfl (R.trans M) ?_;rw [Z14,I];exact v.num M C fq
  ·rintro Z G ⟨o8,o9,m,rfl,sG,nu⟩;rw [b4,<-lD,Z18] at nu;exact i02 _ rfl (k u G J sG nu)
theorem C8e {α:Type} {f:α->Str} {rs:List α} {e:α} (n:(as++rs.map f).Nodup) (c:rs[i]? =some e):f e∉as++(rs.take i).map f:=by
 have b:(rs.take i).map f++[f e]=(rs.take (i+1)).map f:=by rw [Z14,c,Z0s];rfl
 have a:(as++(rs.take i).map f++[f e]).Nodup:=by
  refine n.sublist ?_;rw [Z0z,b];exact List.Sublist.append (List.Sublist.refl _) ((Z2o _ _).map _)
 exact λz=>(Z0l.mp a).2.2 (f e) z (f e) (by simp) rfl
section
variable {H:Hp} {p:Addr} {ax:List (Str×Int)} {tb:List (Str×List Str)} {ls:List Lt}
theorem B2c.rowL (h:B2c H p ax tb ls) {j:Nat} {e:Lt} (g:ls[j]? =some e) (st:StI (lnL (A2g ax)) W tb D0 ((ls.take j).map ltL) D):D7w (A2g ax) (ax.map (·.1)) D (ltL e):=by
 have l:=h.sf j e g;obtain ⟨s,k,i⟩:=l.ti;have b:=h.ok e (Z13 g);have a:e.2.1++[]=e.2.1:=Z0u _;refine ⟨h.dk,λx r=>i x (by rw [<-a];exact r),h.axs k i,by show (1:Int)<=8000;decide,by have:=b.l3;show e.2.1.length<=100;lia,by show 0<=100;decide,by show (e.2.1++[]).Nodup;rw [a];exact k,by show A6p _ (e.2.1++[]) e.2.2;rw [a];exact s,b.w,by have:=b.d;show dep e.2.2<=40;lia,?_,λc v t n y o u=> ?_⟩
 ·rw [st.nm,List.map_map];exact C8e (f:=λe:Lt=>e.1) h.nd g
 ·cases t with
  | cons _ _=>exact n.elim
  | nil =>
   show A1y _ _ _ (A5z (e.2.1++[]) (c++[])) e.2.2;rw [a,Z0u];refine D0q h.kn l v (λf m d q=>o _ _ (st.cov f ?_ d q)) u;unfold esU;rw [List.map_map];exact m
theorem B2c.rowN (h:B2c H p ax tb ls) (lo:∀e∈C2n ax ls,C9b e) {e:Ln} (d:(C2n ax ls)[i]? =some e) (st:StI (lnL (A2g ax)) W tb D0 ((C2n ax ls).take i) D):D7w (A2g ax) (ax.map (·.1)) D e:=by
 have k:=h.du.al i e d;obtain ⟨b,g⟩:=h.lnn e (Z13 d);obtain ⟨_,K,_,C,A,w,L⟩:=lo e (Z13 d);refine ⟨h.dk,g,h.axs (Z0l.mp b).1 λx a=>g x (Z07.mpr (.inl a)),h.axs (Z0l.mp b).2.1 λx a=>g x (Z07.mpr (.inr a)),by lia,C,b,k.ti _,A,w,?_,λc v t o J r I=> ?_⟩
 ·rw [st.nm];exact C8e (f:=λe:Ln=>e.1) h.nms d
 ·have s:=A5p v;refine B3w k.ns λq F=> ?_
  have z:e.2.1.map (A5z (e.2.1++e.2.2.1) (c++t))=c:=by
   have:=C0o b (show (c++t).length=(e.2.1++e.2.2.1).length by rw [Z06,Z06,s,A5p o]);rw [Z0s] at this;exact (List.append_inj this (by rw [Z08,s])).1
  have u:=k.lk (A5z (e.2.1++e.2.2.1) (c++t)) (B5y h.kn.n g (C1f v o)) (λx a=>B1r a) q F;rw [z] at u;rcases u with (⟨f,j,l,m⟩ | ⟨f,j,l,m⟩) | ⟨B,G,y⟩
  ·rw [<-l];exact r _ _ (st.cov f (Z07.mpr (.inl j)) _ m)
  ·rw [<-l];exact r _ _ (st.cov (f.1,f.2.1) (Z07.mpr (.inr (Z2c.mpr (i02 f j rfl)))) _ m)
  ·rw [B];exact I _ G y
end
theorem D1d:∀e∈B6y f,∃i,e.2=V.int i:=λe a=>by
 obtain ⟨x,_,rfl⟩:=Z2c.mp a;exact ⟨x.2,rfl⟩
def D3a (K:Frag):Sp:=λd H Q _=>∃(a:Addr) (b:List Int),d=[.ref a]/\SqL K H a (b.map V.int)/\b.length<=63/\∀c,Q (.bl true) c
theorem E1m (T:Txt K mg t):FO P w base T.Ay 93 (D3a K):=by
 have Gf0:= @B4l P w K mg base t T;have Gf1:= @B4u P w K mg base t T;have Gd3:= @A4x P w K mg base t T;have Gf2:= @B0t P w K mg base t T;have Gf3:= @C5w P w K mg base t T;have Gf4:= @C7a P w K mg base t T;have Gf5:= @C1o P w K mg base t T;refine T.Ay.F.ok A7z (by walk_at "ln") λ_ A _ s H _ Q E N h=> ?_
 ·obtain ⟨a,ns,rfl,hS,_,k⟩:=h;have hu:=A8b N;refine i02 _ (@RS.r _ _ _ (rq1 (rq6 1 A7z.nd (pcl Gf0 N T.ia (A0a (pv 0) A0c))) (rq1 (rq6 2 A7z.nd (pcl Gf1 N T.iz (A0a (pv 1) (A0a (pcl Gd3 N T.bc (A0a (pv 0) (A0a A0d A0c))) A0c)))) (rq1 (rq6 3 A7z.nd (pcl Gf2 N T.e_ (A0a (pv 1) A0c))) (rq1 (rq6 4 A7z.nd (pcl Gf3 N T.n6 (A0a (pv 1) (A0a (pv 2) A0c)))) (rq1 (rq7 (A2c (A1c (pv 3) rfl)) (A0k (i:=5) A7z.nd rfl (.inl rfl)) (rq3 ⟨A2r (pcl Gf4 N T.qi (A0a (pv 5) (A0a (@A1r _ _ _ _ A0c) (A0a (A1f A1h (pv 1) A0d (λ_ _=>rfl)) (A0a (pv 4) (A0a (A1f A1h (pv 1) A0d (λ_ _=>rfl)) A0c))))))⟩)) (rq1 (rq6 6 A7z.nd (pcl Gf5 N T.pq (A0a (pv 3) A0c))) (rq1 (rq6 7 A7z.nd (pcl Gf3 N T.n6 (A0a (pv 1) (A0a (pv 2) A0c)))) (rq1 (rq7 (A2c (A1c (pv 6) rfl)) (A0k (i:=8) A7z.nd rfl (.inl rfl)) (rq3 ⟨A2r (pcl Gf4 N T.qi (A0a (pv 8) (A0a (A1c (pv 8) rfl) (A0a (A1f A1h (pv 1) A0d (λ_ _=>rfl)) (A0a (pv 7) (A0a (A1f A1h (pv 1) A0d (λ_ _=>rfl)) A0c))))))⟩)) (rq1 (rq7 (A2c (A1f A1h (pv 1) A0d (λ_ _=>rfl))) (A3q (n:=3) rfl (A0r (A0k (i:=9) A7z.nd rfl (.inl rfl)) (A0r (A0k (i:=10) A7z.nd rfl (.inl rfl)) (A0r (A0k (i:=11) A7z.nd rfl (.inl rfl)) A2p)))) (rq3 (rq4 (PW.pt (B6l (D8r (C6t hu (pv 9) (pv 7)) (by with_unfolding_all rfl)) (B5s (A0p (D6p N.units) (A2v hu (pv 7) (pv 9) (λ_ _=>rfl)) (A2v hu (pv 4) (pv 9) (λ_ _=>rfl)) (A1b _))))) (rq3 (rq5 D3b)) ⟨A0x⟩))) (rq3 (rq5 D3b)))))))))))) ?_;refine i0o _ rfl a ns rfl hS λp g C ls H1 s1 j=> ?_;refine e0e j.ob ?_;rintro B d tl ll ol e9 d0 o ⟨v,S,e6,e5,a1,b3,e4⟩;obtain ⟨w0,w1⟩:=j.wp _ _ v;refine i02 _ rfl (i0x _ rfl a ns 7 rfl (s1.seq hS) (by decide) λc7=>(i03 p c7 (i0n g C ls rfl j λgd gs H2 s2 gv og=> ?_)));refine i0l _ rfl p g C (i06 ls rfl (j.same s2) λr wr os H3 s3 b7 d2=> ?_);have m:=s2.trans s3;refine i02 _ rfl (i0l _ rfl p gd g (i14 C ls gs B _ rfl (j.same m) (m _ _ v) (gv.same s3) og λnd H4 b0 s4 c3=> ?_));have D0c:=C6m (W:=B) og (Z0l.mp j.nd).1;have D0n:=C8m (W:=B) og
  have a2:∀e:List Ln,e=[]->StI (lnL (A2g g)) B C (tkD (lnL (A2g g)) B C gs) e (tkD (lnL (A2g g)) B C gs):=λe I=>by
   subst I;exact ⟨by rw [D0n];simp,λf hf d hd=>D0c f (by unfold esU at hf;rw [List.map_nil,Z0u] at hf;exact hf) d hd,(λe I=>by cases I),Ext.refl _,D3z w0,λe I=>by cases I⟩
  generalize hD0:tkD (lnL (A2g g)) B C gs=D0 at c3 D0c a2;have t6:=j.t;have l8:=j.l;obtain ⟨dp,pa,pt,pl,po,c9,_,_,⟨xs,a0,X⟩,_⟩:=b7.ob;have e0:=Paired.length X
  have c0:∀{D:Dt} {rs:List Ln},StI (lnL (A2g g)) B C D0 rs D->D.length=C.length+rs.length:=λJ=>by
   have:=congrArg List.length J.nm;rw [Z08,Z06,Z08,Z08] at this;exact this
  refine i19 _ rfl r _ dp _ _ rfl (s4 _ _ c9) T.bu T.gb (by walk_at "lk") (i06 pl rfl ⟨_,SqL.of (s4 _ _ a0)⟩ ?_);refine A2l (K:=K) (a:=pl) (xs:=xs) (λi Z G=>∃(o5:Option V) (D:Dt),Z=[Sro a,Sro p,Sro gd,Sro r,Sro nd,o5,none,none,none,none,none,none]/\A0u H3 G/\B1l G nd D/\StI (lnL (A2g g)) B C D0 ((ls.take i).map ltL) D) (i0m none D0 rfl s4 c3 (a2 _ rfl)) (by rintro i Z G _ ⟨_,_,_,s,_⟩;exact SqL.of (s _ _ a0)) ?_ ?_
  ·rintro i x Z G hx ⟨o5,D,rfl,sG,a9,J⟩;refine B2x ?_;intro D';obtain ⟨e,I,a',dx,c,n,_,rfl,O,_,d9,a6⟩:=B3r X hx;have ro:=j.rowL I J;have lD:=c0 J;rw [Z08,Z0x] at lD;have M:=sG _ _ (m _ _ v);refine i06 _ rfl (A0v rfl) λsl d7=> ?_;have sS:=A0e (o:= .lst []) d7;have b2:A0u H3 (A0s (λb=>b≠nd) (upd G sl (.lst []))):=λb o z=>A0h (λy=>by rw [y,b0] at z;cases z) (sS _ _ (sG _ _ z));refine i13 _ rfl p _ _ _ rfl rfl (SqT.of (sS _ _ M)) rfl (i17 _ rfl _ rfl p _ _ _ rfl rfl (SqT.of (sS _ _ M)) rfl ?_);refine i08 a' sl d (i1d nd B (ltL e) (A2g g) (g.map (·.1)) D rfl (LnG.same ⟨_,dx,c,_,n,O,T.mr,(i00 T.lj T.ke T.mn),(by walk_at "lk"),(by walk_at "lk"),(by walk_at "lk"),d9,a6⟩ b2) A0b ⟨sS _ _ (sG _ _ (m _ _ S)),λy=>by have z:=m _ _ S;rw [y,b0] at z;cases z⟩ (a9.same sS) (by lia) ⟨w0,w1⟩ (i00 J.bd ro λc5 G' kb a4 kc L a7=>(i0m _ _ rfl (λb o z=>kb b o (λy=>by rw [y,b0] at z;cases z) (sS _ _ (sG _ _ z))) a4 ?_)));rw [Z14,I,Z0s];exact J.snoc ro.nn kc L a7
  rintro Z G ⟨o5,Dd,rfl,sG,a9,c2⟩;rw [e0,Z18] at c2;have b5:=j.pr d2;refine i0l _ rfl r wr g (i0r C ls os rfl (b7.same sG) b5 λq H5 s5 d4=> ?_);have b9:=sG.trans s5;have u:=m.trans b9;obtain ⟨dq,e8,lc,ac,tc,vc,oc,ak,ys,d8,_,_,Y,c4⟩:=d4.ob;obtain ⟨e7,d5⟩:=b5.due;have c8:=Paired.length c4;refine i02 _ rfl (i0l _ rfl p gd g (i14 C ls gs B _ rfl (j.same u) (u _ _ v) (gv.same (s3.trans b9)) og λnf H6 a5 s6 b6=> ?_));rw [hD0] at b6;refine i19 _ rfl q _ dq _ _ rfl (s6 _ _ d8) T.gy T.kf (by walk_at "lk") (i06 vc rfl ⟨_,SqL.of (s6 _ _ Y)⟩ ?_);refine A2l (K:=K) (a:=vc) (xs:=ys) (λi Z F=>∃(o8:Option V) (D:Dt),Z=[Sro a,Sro p,Sro gd,Sro r,Sro nd,o5,Sro q,Sro nf,o8,none,none,none]/\A0u H5 F/\B1l F nf D/\StI (lnL (A2g g)) B C D0 ((C2n g ls).take i) D) (i0m none D0 rfl s6 b6 (a2 _ rfl)) (by rintro i Z F _ ⟨_,_,_,s,_⟩;exact SqL.of (s _ _ Y)) ?_ ?_
  ·rintro i x Z F hx ⟨o8,D,rfl,U,a3,J⟩;refine B2x ?_;intro D';obtain ⟨e,I,a',dx,ca,cs,n,rfl,O,b4,b8,a6⟩:=B3r c4 hx;have ro:=j.rowN d5 I J;have lD:=c0 J;rw [Z0x] at lD;have M:=U _ _ (u _ _ v);have b2:A0u H5 (A0s (λb=>b≠nf) F):=λb o z=>A0h (λy=>by rw [y,a5] at z;cases z) (U _ _ z);refine i02 _ rfl (i19 _ rfl a' _ dx _ _ rfl (U _ _ O) T.gh T.r8 (by walk_at "lk") (i13 _ rfl p _ _ _ rfl rfl (SqT.of M) rfl (i17 _ rfl _ rfl p _ _ _ rfl rfl (SqT.of M) rfl ?_)));refine i08 a' cs d (i1d nf B e (A2g g) (g.map (·.1)) D rfl (LnG.same ⟨_,dx,ca,_,n,O,T.gh,(i00 T.jk T.jj T.qw),(by walk_at "lk"),(by walk_at "lk"),(by walk_at "lk"),b4,a6⟩ b2) (U _ _ b8) ⟨U _ _ (u _ _ S),λy=>by have z:=u _ _ S;rw [y,a5] at z;cases z⟩ a3 (by lia) ⟨w0,w1⟩ (i00 J.bd ro λc5 G' kb a4 kc L a7=>(i0m _ _ rfl (λb o z=>kb b o (λy=>by rw [y,a5] at z;cases z) (U _ _ z)) a4 ?_)));rw [Z14,I];exact J.snoc ro.nn kc L a7
  rintro Z F ⟨o8,Df,rfl,U,a3,c1⟩;rw [c8,Z18] at c1;have e3:=a9.same (s5.trans U);have R:=u.trans U;refine i13 _ rfl p _ _ _ rfl rfl (SqT.of (R _ _ v)) rfl (i06 ll rfl ⟨_,SqL.of (R _ _ a1)⟩ ?_);refine A2l (K:=K) (a:=ll) (xs:=d0) (λi Z G'=>F=G'/\∃(o9 b1 a8:Option V),Z=[Sro a,Sro p,Sro gd,Sro r,Sro nd,o5,Sro q,Sro nf,o8,o9,b1,a8]) ⟨rfl,(i08 none none none rfl)⟩ (by rintro i Z G' _ ⟨rfl,_⟩;exact SqL.of (R _ _ a1)) ?_ ?_
  ·rintro i x Z G' hx ⟨rfl,o9,b1,a8,rfl⟩;refine B2x ?_;intro D';obtain ⟨e,I,qe,al,tv,rfl,e1,e2,_⟩:=B3r b3 hx;obtain ⟨c5,z1,z2⟩:=D2f j.kn j.sf D0c c2 c1 (Z13 I);obtain ⟨qd,d3,d6⟩:=e3.get z1;obtain ⟨qf,c6,d1⟩:=a3.get z2;refine i0f qe _ rfl (SqT.of (R _ _ e1)) (i0b rfl _ _ rfl ⟨_,(i0o _ rfl _ _ rfl rfl ?_)⟩);refine i0e _ rfl _ rfl (i0q nf _ rfl c6 _ rfl (A2m ?_));exact i0w _ rfl _ rfl nf _ rfl c6 (i0w _ rfl _ rfl nd _ rfl d3 (i0r qf qd _ rfl rfl d1 (i0a d6 D1d _ rfl (A2m ⟨rfl,(i08 _ _ _ rfl)⟩))))
  ·rintro Z G' ⟨rfl,o9,b1,a8,rfl⟩;exact k F
end My
namespace PySem.W.Fast
def tw10527106348922523641:=()
def tw10936731298832431290:=()
def tw14255192515245427850:=()
def tw10658942667280162062:=()
def tw10357805338511182848:=()
def tw15158493296764424817:=()
def tw9077510320372852633:=()
def tw2058766673055997186:=()
def tw6764119048441109164:=()
def tw10892054641920420083:=()
def tw13264647763928129042:=()
def tw13396438407277699087:=()
def tw3507206511943803434:=()
def tw13148873193760475504:=()
def tw7999494692592763754:=()
def tw9776145700119162594:=()
def tw15685555374226492771:=()
def tw11073732903436217072:=()
def tw67979956869307677:=()
def tw11542371946342834260:=()
def tw12307523670485840992:=()
def tw7302599092954257343:=()
def tw14963414275611825881:=()
def tw17370436767193633375:=()
def tw7987691481190662019:=()
def tw8255142035467537603:=()
def tw15750546290396143210:=()
def tw4192663587937558816:=()
def tw1631300970832852620:=()
def tw17573595382097441994:=()
def tw16293902159010334966:=()
def tw4521156417710204991:=()
def tw1115142702475961466:=()
def tw5944059462956463966:=()
def tw17627787603994738053:=()
def tw11478597750418153660:=()
def tw2690225169459313309:=()
def tw3822742546859493184:=()
def tw11404139915340123704:=()
def tw7535186304242648000:=()
def tw799975513990982770:=()
def tw12427426117018111033:=()
def tw2551820658085429925:=()
def tw7016386313311294417:=()
def tw11580165152044917806:=()
def tw4310984573177939712:=()
def tw2486119197990026973:=()
def tw12300234447595222469:=()
def tw3555872102581751321:=()
def tw15909155762666047311:=()
def tw1870427459502957603:=()
def tw1894542694143326808:=()
def tw3608374500943302531:=()
def tw15906700581510877117:=()
def tw6574961143820846781:=()
def tw2456866084700195492:=()
def tw13554123862795936028:=()
def tw1261159782575332732:=()
def tw2464673479970946653:=()
def tw13785613246714939161:=()
def tw10133044725938377812:=()
def tw15374871642862508369:=()
def tw16998289124243612968:=()
def tw17939109733911123762:=()
def tw17247589494535558228:=()
def tw3210158250733305140:=()
def tw10115782600531779213:=()
def tw10413541896648186391:=()
def tw11791106223951015862:=()
def tw1950336800697837927:=()
def tw3283681777591440473:=()
def tw11384183737990541691:=()
def tw3513584378321656210:=()
def tw8017519867976530933:=()
def tw716674065461715202:=()
def tw13633359067606203683:=()
def tw6941834695455967801:=()
def tw13273290495055884774:=()
def tw3673298124637475650:=()
def tw11658705926983547862:=()
def tw1360889090101098594:=()
def tw12357236258225211581:=()
def tw4364617222555397569:=()
def tw5296104627095231913:=()
def tw10101182329907620605:=()
def tw4774350663944318883:=()
def tw17404273878615881632:=()
def tw14590762659006453325:=()
def tw3290872289503878648:=()
def tw7391149411980604540:=()
def tw14751982592983859794:=()
def tw7301631333152757028:=()
def tw4054988973571835610:=()
def tw14219382914815826772:=()
def tw10388627677705396079:=()
def tw14297831695734891143:=()
def tw14770431594625213420:=()
def tw16306565178669153405:=()
def tw13415205324925119806:=()
def tw7205875934011249153:=()
def tw17419551497151287525:=()
def tw7025949762497365198:=()
def tw2195188056117337131:=()
def tw2711406032622159182:=()
def tw14252431098212874883:=()
def tw2757544316408209294:=()
def tw9746029777116767754:=()
def tw15078339927169535998:=()
def tw12217307756125673692:=()
def tw14814884030270121545:=()
def tw117528126315133602:=()
def tw856625807522717807:=()
def tw13702838654600447152:=()
def tw13674897525205050072:=()
def tw17253258953679517019:=()
def tw4709317579966076650:=()
def tw15836807548635210092:=()
def tw7254759067155443589:=()
def tw6514120866533087964:=()
def tw18305447365916170873:=()
def tw10682514735381312593:=()
def tw12295741363139030735:=()
def tw2082579272972052256:=()
def tw16400314162154456244:=()
def tw4791440492658733729:=()
def tw16764892355281941459:=()
end PySem.W.Fast
namespace My
open PySem L2
variable {K:Frag} {sl:Array (Option Value)} {l:PySem.W.OpenLaw} {XP:(Str->Option Value)->Heap->Prop}
abbrev LkF (K:Frag) (x q:Str) (st:Stmt) (f:Addr):Prop:=∃(e:Value) (i:Option Addr) (kV h b:Value) (g:Option Addr) (a d:Value) (c:Array (Option Value)),K.lookup f=some ⟨e,i,.func (fnOf x q (A9o st) (A8r st) (A0n st) .none kV h b g a d),c⟩/\codeIn K a q=true/\keepIn K (.ref f)=true
theorem E2e {x q:Str} {st:Stmt} {f:Addr} {d:Value} {od:Option Addr} {kV g b:Value} {e:Option Addr} {cd a:Value} (l:K.lookup f=some ⟨d,od,.func (fnOf x q (A9o st) (A8r st) (A0n st) .none kV g b e cd a),sl⟩) (c:codeIn K cd q=true) (k:keepIn K (.ref f)=true):LkF K x q st f:=⟨_,_,_,_,_,_,_,_,_,l,c,k⟩
theorem A2b {x q:Str} {st:Stmt} {f:Addr} {ps:List Str} (l:LkF K x q st f) (h:∀(kV b e:Value) (i:Option Addr) (a g:Value) (us:List Value),us.length=ps.length->bindArgs (fnOf x q (A9o st) (A8r st) (A0n st) .none kV b e i a g) ⟨us,[]⟩=pure (ps.zip us)):∃d,Fun K x q st f d/\A9b K d ps []/\keepIn K (.ref f)=true:=by
 obtain ⟨_,_,_,_,_,_,_,_,_,l,c,k⟩:=l;have F:=D3p (st:=st) l c k;exact ⟨_,F,F.binds h,k⟩
theorem len0 {p:List Value->Prop} (h:p []):∀us:List Value,us.length=0->p us:=λus e=>by rw [List.length_eq_zero_iff.mp e];exact h
theorem lenS {n:Nat} {p:List Value->Prop} (h:∀(a:Value) (us:List Value),us.length=n->p (a::us)):∀us:List Value,us.length=n+1->p us
 | a::r,e=>h a r (Nat.succ.inj e)
local macro_rules | `(tactic| walk_at "le") => `(tactic| (intro _ _ _ _ _ _; (repeat (refine lenS fun _ => ?_)); exact len0 rfl))
theorem D9j {w:World} {h:Heap} {mg:Str->Option Value} {fa:Addr} (X:K.In h) (G:h.Ns mainGlobals mg) (o2:mg "law"=some (.ref fa))
  {m o rP i j g u f d r b a q n p k:Addr}
  (oW:nsIn K mainGlobals "Line"=zR0 m)
  (mY:nsIn K mainGlobals "Cloth"=zR0 o)
  (rJ:nsIn K mainGlobals "Term"=zR0 rP)
  (mE:nsIn K mainGlobals "Number"=zR0 i)
  (mZ:nsIn K mainGlobals "Place"=zR0 j)
  (oX:nsIn K mainGlobals "Read"=zR0 g)
  (oY:nsIn K mainGlobals "Pair"=zR0 u)
  (oZ:nsIn K mainGlobals "Plus"=zR0 f)
  (nA:nsIn K mainGlobals "Minus"=zR0 d)
  (nB:nsIn K mainGlobals "Times"=zR0 r)
  (qN:nsIn K mainGlobals "Sum"=zR0 b)
  (nC:nsIn K mainGlobals "Guard"=zR0 a)
  (pA:nsIn K mainGlobals "Part"=zR0 q)
  (qO:nsIn K mainGlobals "Let"=zR0 n)
  (lQ:nsIn K mainGlobals "Program"=zR0 p)
  (mF:nsIn K mainGlobals "Lifter"=zR0 k)
  {f0:Addr}
  (a0:nsIn K mainGlobals "copied"=zR0 f0)
  (l0:LkF K "copied" "copied" B7d f0)
  {f1:Addr}
  (a1:nsIn K mainGlobals "copied_dict"=zR0 f1)
  (l1:LkF K "copied_dict" "copied_dict" A7h f1)
  {f2:Addr}
  (a2:findIn K (.ref m) "__init__"=zR0 f2)
  (l2:LkF K "__init__" "Line.__init__" A9l f2)
  (i2:isFn K (.ref f2)=true)
  {W:Addr}
  (a3:findIn K (.ref o) "__init__"=zR0 W)
  (l3:LkF K "__init__" "Cloth.__init__" A8d W)
  (i3:isFn K (.ref W)=true)
  {f4:Addr}
  (a4:findIn K (.ref i) "__init__"=zR0 f4)
  (l4:LkF K "__init__" "Number.__init__" A7o f4)
  (i4:isFn K (.ref f4)=true)
  {f5:Addr}
  (a5:findIn K (.ref j) "__init__"=zR0 f5)
  (l5:LkF K "__init__" "Place.__init__" A8p f5)
  (i5:isFn K (.ref f5)=true)
  {T:Addr}
  (a6:findIn K (.ref g) "__init__"=zR0 T)
  (l6:LkF K "__init__" "Read.__init__" A9j T)
  (i6:isFn K (.ref T)=true)
  {S:Addr}
  (a7:findIn K (.ref u) "__init__"=zR0 S)
  (l7:LkF K "__init__" "Pair.__init__" A9m S)
  (i7:isFn K (.ref S)=true)
  {f8:Addr}
  (a8:findIn K (.ref f) "made_of"=zR0 f8)
  (l8:LkF K "made_of" "Plus.made_of" A6t f8)
  (i8:isFn K (.ref f8)=true)
  {f9:Addr}
  (a9:findIn K (.ref d) "made_of"=zR0 f9)
  (l9:LkF K "made_of" "Minus.made_of" A5t f9)
  (i9:isFn K (.ref f9)=true)
  {Y:Addr}
  (xM:findIn K (.ref r) "made_of"=zR0 Y)
  (sE:LkF K "made_of" "Times.made_of" A5w Y)
  (sF:isFn K (.ref Y)=true)
  {rS:Addr}
  (xN:findIn K (.ref b) "__init__"=zR0 rS)
  (sG:LkF K "__init__" "Sum.__init__" B1q rS)
  (sH:isFn K (.ref rS)=true)
  {rT:Addr}
  (xO:findIn K (.ref a) "__init__"=zR0 rT)
  (sI:LkF K "__init__" "Guard.__init__" A8k rT)
  (sJ:isFn K (.ref rT)=true)
  {rU:Addr}
  (xP:findIn K (.ref a) "made_of"=zR0 rU)
  (sK:LkF K "made_of" "Guard.made_of" A5m rU)
  (sL:isFn K (.ref rU)=true)
  {rV:Addr}
  (xQ:findIn K (.ref q) "__init__"=zR0 rV)
  (sM:LkF K "__init__" "Part.__init__" A9x rV)
  (sN:isFn K (.ref rV)=true)
  {wA:Addr}
  (sO:nsIn K mainGlobals "parts_of"=zR0 wA)
  (sP:LkF K "parts_of" "parts_of" B0v wA)
  {wB:Addr}
  (sQ:nsIn K mainGlobals "parts_from"=zR0 wB)
  (sR:LkF K "parts_from" "parts_from" A8j wB)
  {wC:Addr}
  (sS:nsIn K mainGlobals "parts_right_within"=zR0 wC)
  (sT:LkF K "parts_right_within" "parts_right_within" A3y wC)
  {wD:Addr}
  (sU:nsIn K mainGlobals "sums_at_top"=zR0 wD)
  (sV:LkF K "sums_at_top" "sums_at_top" A7s wD)
  {wE:Addr}
  (sW:nsIn K mainGlobals "within_sums"=zR0 wE)
  (sX:LkF K "within_sums" "within_sums" A7q wE)
  {rW:Addr}
  (xR:findIn K (.ref n) "__init__"=zR0 rW)
  (sY:LkF K "__init__" "Let.__init__" B1b rW)
  (sZ:isFn K (.ref rW)=true)
  {rX:Addr}
  (xS:findIn K (.ref p) "__init__"=zR0 rX)
  (tA:LkF K "__init__" "Program.__init__" A6o rX)
  (tB:isFn K (.ref rX)=true)
  {wF:Addr}
  (tC:nsIn K mainGlobals "axis_names"=zR0 wF)
  (tD:LkF K "axis_names" "axis_names" A8i wF)
  {wG:Addr}
  (tE:nsIn K mainGlobals "table_names"=zR0 wG)
  (tF:LkF K "table_names" "table_names" A7i wG)
  {wH:Addr}
  (tG:nsIn K mainGlobals "lengths_of"=zR0 wH)
  (tH:LkF K "lengths_of" "lengths_of" A8t wH)
  {wI:Addr}
  (tI:nsIn K mainGlobals "cloth_of"=zR0 wI)
  (tJ:LkF K "cloth_of" "cloth_of" B0z wI)
  {wJ:Addr}
  (tK:nsIn K mainGlobals "lines_of"=zR0 wJ)
  (tL:LkF K "lines_of" "lines_of" B1n wJ)
  {U:Addr}
  (xT:findIn K (.ref k) "__init__"=zR0 U)
  (tM:LkF K "__init__" "Lifter.__init__" A7u U)
  (tN:isFn K (.ref U)=true)
  {Z:Addr}
  (xU:findIn K (.ref k) "lift_let"=zR0 Z)
  (tO:LkF K "lift_let" "Lifter.lift_let" A4q Z)
  (tP:isFn K (.ref Z)=true)
  {sA:Addr}
  (xV:findIn K (.ref k) "without_sums"=zR0 sA)
  (tQ:LkF K "without_sums" "Lifter.without_sums" A3u sA)
  (tR:isFn K (.ref sA)=true)
  {sB:Addr}
  (xW:findIn K (.ref k) "lift"=zR0 sB)
  (tS:LkF K "lift" "Lifter.lift" A7g sB)
  (tT:isFn K (.ref sB)=true)
  {E:Addr}
  (xX:findIn K (.ref k) "fresh_name"=zR0 E)
  (tU:LkF K "fresh_name" "Lifter.fresh_name" A4e E)
  (tV:isFn K (.ref E)=true)
  {wK:Addr}
  (tW:nsIn K mainGlobals "guarded"=zR0 wK)
  (tX:LkF K "guarded" "guarded" B3t wK)
  {wL:Addr}
  (tY:nsIn K mainGlobals "axes_in"=zR0 wL)
  (tZ:LkF K "axes_in" "axes_in" B3s wL)
  {wM:Addr}
  (uA:nsIn K mainGlobals "axes_of"=zR0 wM)
  (uB:LkF K "axes_of" "axes_of" B3g wM)
  {wN:Addr}
  (uC:nsIn K mainGlobals "_law_cell_at"=zR0 wN)
  (uD:LkF K "_law_cell_at" "_law_cell_at" A9y wN)
  {wO:Addr}
  (uE:nsIn K mainGlobals "_law_mixed"=zR0 wO)
  (uF:LkF K "_law_mixed" "_law_mixed" B4a wO)
  {wP:Addr}
  (uG:nsIn K mainGlobals "_law_part"=zR0 wP)
  (uH:LkF K "_law_part" "_law_part" B7o wP)
  {wQ:Addr}
  (uI:nsIn K mainGlobals "_law_names_by"=zR0 wQ)
  (uJ:LkF K "_law_names_by" "_law_names_by" A8c wQ)
  {wR:Addr}
  (uK:nsIn K mainGlobals "_law_number_by"=zR0 wR)
  (uL:LkF K "_law_number_by" "_law_number_by" A7l wR)
  {wS:Addr}
  (uM:nsIn K mainGlobals "_law_many"=zR0 wS)
  (uN:LkF K "_law_many" "_law_many" B6i wS)
  {wT:Addr}
  (uO:nsIn K mainGlobals "_law_axes_by"=zR0 wT)
  (uP:LkF K "_law_axes_by" "_law_axes_by" A9p wT)
  {wU:Addr}
  (uQ:nsIn K mainGlobals "_law_guarded"=zR0 wU)
  (uR:LkF K "_law_guarded" "_law_guarded" A9t wU)
  {wV:Addr}
  (uS:nsIn K mainGlobals "_law_read_by"=zR0 wV)
  (uT:LkF K "_law_read_by" "_law_read_by" A9h wV)
  {wW:Addr}
  (uU:nsIn K mainGlobals "_law_leaf_by"=zR0 wW)
  (uV:LkF K "_law_leaf_by" "_law_leaf_by" A9n wW)
  {wX:Addr}
  (uW:nsIn K mainGlobals "_law_summed"=zR0 wX)
  (uX:LkF K "_law_summed" "_law_summed" B1i wX)
  {wY:Addr}
  (uY:nsIn K mainGlobals "_law_grow"=zR0 wY)
  (uZ:LkF K "_law_grow" "_law_grow" B7a wY)
  {wZ:Addr}
  (vA:nsIn K mainGlobals "_law_weight"=zR0 wZ)
  (vB:LkF K "_law_weight" "_law_weight" B1f wZ)
  {xA:Addr}
  (vC:nsIn K mainGlobals "_law_let_by"=zR0 xA)
  (vD:LkF K "_law_let_by" "_law_let_by" B0x xA)
  {xB:Addr}
  (vE:nsIn K mainGlobals "_law_lengths_by"=zR0 xB)
  (vF:LkF K "_law_lengths_by" "_law_lengths_by" A6k xB)
  {xC:Addr}
  (vG:nsIn K mainGlobals "_law_program_by"=zR0 xC)
  (vH:LkF K "_law_program_by" "_law_program_by" A6m xC)
  {xD:Addr}
  (vI:nsIn K mainGlobals "_law_made"=zR0 xD)
  (vJ:LkF K "_law_made" "_law_made" B7i xD)
  {xE:Addr}
  (vK:nsIn K mainGlobals "_law_made_new"=zR0 xE)
  (vL:LkF K "_law_made_new" "_law_made_new" A8u xE)
  {xF:Addr}
  (vM:nsIn K mainGlobals "_law_made_program"=zR0 xF)
  (vN:LkF K "_law_made_program" "_law_made_program" A5d xF)
  {xG:Addr}
  (vO:nsIn K mainGlobals "_law_cells_of"=zR0 xG)
  (vP:LkF K "_law_cells_of" "_law_cells_of" A8n xG)
  {xH:Addr}
  (vQ:nsIn K mainGlobals "_law_cell"=zR0 xH)
  (vR:LkF K "_law_cell" "_law_cell" B6g xH)
  {xI:Addr}
  (vS:nsIn K mainGlobals "_law_worth"=zR0 xI)
  (vT:LkF K "_law_worth" "_law_worth" B3b xI)
  {xJ:Addr}
  (vU:nsIn K mainGlobals "_law_tables_by"=zR0 xJ)
  (vV:LkF K "_law_tables_by" "_law_tables_by" A7v xJ)
  {xK:Addr}
  (vW:nsIn K mainGlobals "_law_taken"=zR0 xK)
  (vX:LkF K "_law_taken" "_law_taken" B3q xK)
  {xL:Addr}
  (vY:nsIn K mainGlobals "_law_told"=zR0 xL)
  (vZ:LkF K "_law_told" "_law_told" B5x xL)
  {xY:Addr}
  (sD:nsIn K mainGlobals "law"=zR0 xY)
  (rQ:LkF K "law" "law" D1l xY)
  (nD:plainGet K o Str.empty=true)
  (nE:hasDictIn K o=true)
  (nF:plainOver K o=true)
  (nG:findIn K (.ref o) "__setattr__"=some (some (.builtin "object.__setattr__")))
  (nH:makesIn K o=true)
  (nI:keepIn K (.ref o)=true)
  (nJ:findIn K (.ref o) "__init__"=zR0 W)
  (dM:findIn K (.ref o) "wheel"=zN0)
  (bL:findIn K (.ref o) "lengths"=zN0)
  (cA:findIn K (.ref o) "arrays"=zN0)
  (cB:findIn K (.ref o) "tables"=zN0)
  (dN:findIn K (.ref o) "lines"=zN0)
  (fR:findIn K (.ref o) "outs"=zN0)
  (nK:findIn K (.ref o) "__class__"=zC0)
  (R:specialIn K (.builtin "object.__class__") "__get__"=some (some (.builtin "getset_descriptor.__get__")))
  (D:takesIn K (.builtin "object.__class__")=some true)
  (nL:mroIn K o (.type "object")=some true)
  (O:isClsIn K a=true)
  (L:typeIn K (.ref a)=some (.type "type"))
  (dO:mroIn K o (.ref a)=some false)
  (dP:(Value.ref o == Value.ref a)=false)
  (J:isClsIn K d=true)
  (H:typeIn K (.ref d)=some (.type "type"))
  (dQ:mroIn K o (.ref d)=some false)
  (dR:(Value.ref o == Value.ref d)=false)
  (N:isClsIn K i=true)
  (Q:typeIn K (.ref i)=some (.type "type"))
  (cC:mroIn K o (.ref i)=some false)
  (cD:(Value.ref o == Value.ref i)=false)
  (P:isClsIn K u=true)
  (B:typeIn K (.ref u)=some (.type "type"))
  (fS:mroIn K o (.ref u)=some false)
  (fT:(Value.ref o == Value.ref u)=false)
  (z:isClsIn K j=true)
  (A:typeIn K (.ref j)=some (.type "type"))
  (dS:mroIn K o (.ref j)=some false)
  (dT:(Value.ref o == Value.ref j)=false)
  (y:isClsIn K f=true)
  (I:typeIn K (.ref f)=some (.type "type"))
  (fU:mroIn K o (.ref f)=some false)
  (fV:(Value.ref o == Value.ref f)=false)
  (C:isClsIn K g=true)
  (M:typeIn K (.ref g)=some (.type "type"))
  (fW:mroIn K o (.ref g)=some false)
  (fX:(Value.ref o == Value.ref g)=false)
  (x:isClsIn K b=true)
  (F:typeIn K (.ref b)=some (.type "type"))
  (iK:mroIn K o (.ref b)=some false)
  (iL:(Value.ref o == Value.ref b)=false)
  (nM:plainGet K a Str.empty=true)
  (nN:hasDictIn K a=true)
  (nO:plainOver K a=true)
  (nP:findIn K (.ref a) "__setattr__"=some (some (.builtin "object.__setattr__")))
  (nQ:makesIn K a=true)
  (nR:keepIn K (.ref a)=true)
  (nS:findIn K (.ref a) "__init__"=zR0 rT)
  (fY:findIn K (.ref a) "axis"=zN0)
  (iM:findIn K (.ref a) "low"=zN0)
  (fZ:findIn K (.ref a) "high"=zN0)
  (dU:findIn K (.ref a) "inner"=zN0)
  (dV:findIn K (.ref a) "outer"=zN0)
  (bM:findIn K (.ref a) "made_of"=zR0 rU)
  (nT:findIn K (.ref a) "__class__"=zC0)
  (nU:mroIn K a (.type "object")=some true)
  (dW:mroIn K a (.ref a)=some true)
  (dX:mroIn K a (.ref d)=some false)
  (dY:(Value.ref a == Value.ref d)=false)
  (cE:mroIn K a (.ref i)=some false)
  (cF:(Value.ref a == Value.ref i)=false)
  (gA:mroIn K a (.ref u)=some false)
  (gB:(Value.ref a == Value.ref u)=false)
  (dZ:mroIn K a (.ref j)=some false)
  (eA:(Value.ref a == Value.ref j)=false)
  (gC:mroIn K a (.ref f)=some false)
  (gD:(Value.ref a == Value.ref f)=false)
  (gE:mroIn K a (.ref g)=some false)
  (gF:(Value.ref a == Value.ref g)=false)
  (iN:mroIn K a (.ref b)=some false)
  (iO:(Value.ref a == Value.ref b)=false)
  (qP:plainGet K n Str.empty=true)
  (qQ:hasDictIn K n=true)
  (qR:plainOver K n=true)
  (qS:findIn K (.ref n) "__setattr__"=some (some (.builtin "object.__setattr__")))
  (qT:makesIn K n=true)
  (qU:keepIn K (.ref n)=true)
  (qV:findIn K (.ref n) "__init__"=zR0 rW)
  (kN:findIn K (.ref n) "name"=zN0)
  (kO:findIn K (.ref n) "axes"=zN0)
  (kP:findIn K (.ref n) "term"=zN0)
  (qW:findIn K (.ref n) "__class__"=zC0)
  (qX:mroIn K n (.type "object")=some true)
  (kQ:mroIn K n (.type "list")=some false)
  (iP:mroIn K n (.type "tuple")=some false)
  (kR:mroIn K n (.type "dict")=some false)
  (iQ:mroIn K n (.ref a)=some false)
  (iR:(Value.ref n == Value.ref a)=false)
  (iS:mroIn K n (.ref d)=some false)
  (iT:(Value.ref n == Value.ref d)=false)
  (gG:mroIn K n (.ref i)=some false)
  (gH:(Value.ref n == Value.ref i)=false)
  (kS:mroIn K n (.ref u)=some false)
  (kT:(Value.ref n == Value.ref u)=false)
  (iU:mroIn K n (.ref j)=some false)
  (iV:(Value.ref n == Value.ref j)=false)
  (kU:mroIn K n (.ref f)=some false)
  (kV:(Value.ref n == Value.ref f)=false)
  (kW:mroIn K n (.ref g)=some false)
  (kX:(Value.ref n == Value.ref g)=false)
  (lR:mroIn K n (.ref b)=some false)
  (lS:(Value.ref n == Value.ref b)=false)
  (mG:plainGet K k Str.empty=true)
  (mH:hasDictIn K k=true)
  (mI:plainOver K k=true)
  (mJ:findIn K (.ref k) "__setattr__"=some (some (.builtin "object.__setattr__")))
  (mK:makesIn K k=true)
  (mL:keepIn K (.ref k)=true)
  (mM:findIn K (.ref k) "__init__"=zR0 U)
  (cG:findIn K (.ref k) "known"=zN0)
  (cH:findIn K (.ref k) "lines"=zN0)
  (cI:findIn K (.ref k) "lifts"=zN0)
  (bE:findIn K (.ref k) "fresh_name"=zR0 E)
  (eB:findIn K (.ref k) "lift"=zR0 sB)
  (bH:findIn K (.ref k) "lift_let"=zR0 Z)
  (bD:findIn K (.ref k) "without_sums"=zR0 sA)
  (mN:findIn K (.ref k) "__class__"=zC0)
  (mO:mroIn K k (.type "object")=some true)
  (cJ:mroIn K k (.ref a)=some false)
  (cK:(Value.ref k == Value.ref a)=false)
  (cL:mroIn K k (.ref d)=some false)
  (cM:(Value.ref k == Value.ref d)=false)
  (bN:mroIn K k (.ref i)=some false)
  (bO:(Value.ref k == Value.ref i)=false)
  (eC:mroIn K k (.ref u)=some false)
  (eD:(Value.ref k == Value.ref u)=false)
  (cN:mroIn K k (.ref j)=some false)
  (cO:(Value.ref k == Value.ref j)=false)
  (eE:mroIn K k (.ref f)=some false)
  (eF:(Value.ref k == Value.ref f)=false)
  (eG:mroIn K k (.ref g)=some false)
  (eH:(Value.ref k == Value.ref g)=false)
  (gI:mroIn K k (.ref b)=some false)
  (gJ:(Value.ref k == Value.ref b)=false)
  (pB:plainGet K m Str.empty=true)
  (pC:hasDictIn K m=true)
  (pD:plainOver K m=true)
  (pE:findIn K (.ref m) "__setattr__"=some (some (.builtin "object.__setattr__")))
  (pF:makesIn K m=true)
  (pG:keepIn K (.ref m)=true)
  (pH:findIn K (.ref m) "__init__"=zR0 f2)
  (iW:findIn K (.ref m) "name"=zN0)
  (iX:findIn K (.ref m) "axes"=zN0)
  (iY:findIn K (.ref m) "sums"=zN0)
  (iZ:findIn K (.ref m) "term"=zN0)
  (pI:findIn K (.ref m) "__class__"=zC0)
  (pJ:mroIn K m (.type "object")=some true)
  (jA:mroIn K m (.type "list")=some false)
  (gK:mroIn K m (.type "tuple")=some false)
  (jB:mroIn K m (.type "dict")=some false)
  (gL:mroIn K m (.ref a)=some false)
  (gM:(Value.ref m == Value.ref a)=false)
  (gN:mroIn K m (.ref d)=some false)
  (gO:(Value.ref m == Value.ref d)=false)
  (eI:mroIn K m (.ref i)=some false)
  (eJ:(Value.ref m == Value.ref i)=false)
  (jC:mroIn K m (.ref u)=some false)
  (jD:(Value.ref m == Value.ref u)=false)
  (gP:mroIn K m (.ref j)=some false)
  (gQ:(Value.ref m == Value.ref j)=false)
  (jE:mroIn K m (.ref f)=some false)
  (jF:(Value.ref m == Value.ref f)=false)
  (jG:mroIn K m (.ref g)=some false)
  (jH:(Value.ref m == Value.ref g)=false)
  (kY:mroIn K m (.ref b)=some false)
  (kZ:(Value.ref m == Value.ref b)=false)
  (nV:plainGet K d Str.empty=true)
  (nW:hasDictIn K d=true)
  (nX:plainOver K d=true)
  (nY:findIn K (.ref d) "__setattr__"=some (some (.builtin "object.__setattr__")))
  (nZ:makesIn K d=true)
  (oA:keepIn K (.ref d)=true)
  (oB:findIn K (.ref d) "__init__"=zR0 S)
  (gR:findIn K (.ref d) "left"=zN0)
  (eK:findIn K (.ref d) "right"=zN0)
  (bP:findIn K (.ref d) "made_of"=zR0 f9)
  (oC:findIn K (.ref d) "__class__"=zC0)
  (oD:mroIn K d (.type "object")=some true)
  (eL:mroIn K d (.ref a)=some false)
  (eM:(Value.ref d == Value.ref a)=false)
  (eN:mroIn K d (.ref d)=some true)
  (cP:mroIn K d (.ref i)=some false)
  (cQ:(Value.ref d == Value.ref i)=false)
  (gS:mroIn K d (.ref u)=some true)
  (eO:mroIn K d (.ref j)=some false)
  (eP:(Value.ref d == Value.ref j)=false)
  (gT:mroIn K d (.ref f)=some false)
  (gU:(Value.ref d == Value.ref f)=false)
  (gV:mroIn K d (.ref g)=some false)
  (gW:(Value.ref d == Value.ref g)=false)
  (jI:mroIn K d (.ref b)=some false)
  (jJ:(Value.ref d == Value.ref b)=false)
  (mP:plainGet K i Str.empty=true)
  (mQ:hasDictIn K i=true)
  (mR:plainOver K i=true)
  (mS:findIn K (.ref i) "__setattr__"=some (some (.builtin "object.__setattr__")))
  (mT:makesIn K i=true)
  (mU:keepIn K (.ref i)=true)
  (mV:findIn K (.ref i) "__init__"=zR0 f4)
  (bQ:findIn K (.ref i) "number"=zN0)
  (mW:findIn K (.ref i) "__class__"=zC0)
  (mX:mroIn K i (.type "object")=some true)
  (cR:mroIn K i (.ref a)=some false)
  (cS:(Value.ref i == Value.ref a)=false)
  (cT:mroIn K i (.ref d)=some false)
  (cU:(Value.ref i == Value.ref d)=false)
  (bR:mroIn K i (.ref i)=some true)
  (eQ:mroIn K i (.ref u)=some false)
  (eR:(Value.ref i == Value.ref u)=false)
  (cV:mroIn K i (.ref j)=some false)
  (cW:(Value.ref i == Value.ref j)=false)
  (eS:mroIn K i (.ref f)=some false)
  (eT:(Value.ref i == Value.ref f)=false)
  (eU:mroIn K i (.ref g)=some false)
  (eV:(Value.ref i == Value.ref g)=false)
  (gX:mroIn K i (.ref b)=some false)
  (gY:(Value.ref i == Value.ref b)=false)
  (pK:plainGet K q Str.empty=true)
  (pL:hasDictIn K q=true)
  (pM:plainOver K q=true)
  (pN:findIn K (.ref q) "__setattr__"=some (some (.builtin "object.__setattr__")))
  (pO:makesIn K q=true)
  (pP:keepIn K (.ref q)=true)
  (pQ:findIn K (.ref q) "__init__"=zR0 rV)
  (jK:findIn K (.ref q) "term"=zN0)
  (jL:findIn K (.ref q) "sums"=zN0)
  (eW:findIn K (.ref q) "guards"=zN0)
  (pR:findIn K (.ref q) "__class__"=zC0)
  (pS:mroIn K q (.type "object")=some true)
  (gZ:mroIn K q (.ref a)=some false)
  (hA:(Value.ref q == Value.ref a)=false)
  (hB:mroIn K q (.ref d)=some false)
  (hC:(Value.ref q == Value.ref d)=false)
  (eX:mroIn K q (.ref i)=some false)
  (eY:(Value.ref q == Value.ref i)=false)
  (jM:mroIn K q (.ref u)=some false)
  (jN:(Value.ref q == Value.ref u)=false)
  (hD:mroIn K q (.ref j)=some false)
  (hE:(Value.ref q == Value.ref j)=false)
  (jO:mroIn K q (.ref f)=some false)
  (jP:(Value.ref q == Value.ref f)=false)
  (jQ:mroIn K q (.ref g)=some false)
  (jR:(Value.ref q == Value.ref g)=false)
  (lA:mroIn K q (.ref b)=some false)
  (lB:(Value.ref q == Value.ref b)=false)
  (oE:plainGet K j Str.empty=true)
  (oF:hasDictIn K j=true)
  (oG:plainOver K j=true)
  (oH:findIn K (.ref j) "__setattr__"=some (some (.builtin "object.__setattr__")))
  (oI:makesIn K j=true)
  (oJ:keepIn K (.ref j)=true)
  (oK:findIn K (.ref j) "__init__"=zR0 f5)
  (hF:findIn K (.ref j) "axis"=zN0)
  (oL:findIn K (.ref j) "__class__"=zC0)
  (oM:mroIn K j (.type "object")=some true)
  (eZ:mroIn K j (.ref a)=some false)
  (fA:(Value.ref j == Value.ref a)=false)
  (fB:mroIn K j (.ref d)=some false)
  (fC:(Value.ref j == Value.ref d)=false)
  (cX:mroIn K j (.ref i)=some false)
  (cY:(Value.ref j == Value.ref i)=false)
  (hG:mroIn K j (.ref u)=some false)
  (hH:(Value.ref j == Value.ref u)=false)
  (fD:mroIn K j (.ref j)=some true)
  (hI:mroIn K j (.ref f)=some false)
  (hJ:(Value.ref j == Value.ref f)=false)
  (hK:mroIn K j (.ref g)=some false)
  (hL:(Value.ref j == Value.ref g)=false)
  (jS:mroIn K j (.ref b)=some false)
  (jT:(Value.ref j == Value.ref b)=false)
  (pT:plainGet K f Str.empty=true)
  (pU:hasDictIn K f=true)
  (pV:plainOver K f=true)
  (pW:findIn K (.ref f) "__setattr__"=some (some (.builtin "object.__setattr__")))
  (pX:makesIn K f=true)
  (pY:keepIn K (.ref f)=true)
  (pZ:findIn K (.ref f) "__init__"=zR0 S)
  (jU:findIn K (.ref f) "left"=zN0)
  (hM:findIn K (.ref f) "right"=zN0)
  (cZ:findIn K (.ref f) "made_of"=zR0 f8)
  (qA:findIn K (.ref f) "__class__"=zC0)
  (qB:mroIn K f (.type "object")=some true)
  (hN:mroIn K f (.ref a)=some false)
  (hO:(Value.ref f == Value.ref a)=false)
  (hP:mroIn K f (.ref d)=some false)
  (hQ:(Value.ref f == Value.ref d)=false)
  (fE:mroIn K f (.ref i)=some false)
  (fF:(Value.ref f == Value.ref i)=false)
  (jV:mroIn K f (.ref u)=some true)
  (hR:mroIn K f (.ref j)=some false)
  (hT:(Value.ref f == Value.ref j)=false)
  (jW:mroIn K f (.ref f)=some true)
  (jX:mroIn K f (.ref g)=some false)
  (jY:(Value.ref f == Value.ref g)=false)
  (lC:mroIn K f (.ref b)=some false)
  (lD:(Value.ref f == Value.ref b)=false)
  (lT:plainGet K p Str.empty=true)
  (lU:hasDictIn K p=true)
  (lV:plainOver K p=true)
  (lW:findIn K (.ref p) "__setattr__"=some (some (.builtin "object.__setattr__")))
  (lX:makesIn K p=true)
  (lY:keepIn K (.ref p)=true)
  (lZ:findIn K (.ref p) "__init__"=zR0 rX)
  (bS:findIn K (.ref p) "wheel"=zN0)
  (dA:findIn K (.ref p) "axes"=zN0)
  (bI:findIn K (.ref p) "tables"=zN0)
  (dB:findIn K (.ref p) "lets"=zN0)
  (dC:findIn K (.ref p) "outs"=zN0)
  (mA:findIn K (.ref p) "__class__"=zC0)
  (mB:mroIn K p (.type "object")=some true)
  (bT:mroIn K p (.ref a)=some false)
  (bU:(Value.ref p == Value.ref a)=false)
  (bV:mroIn K p (.ref d)=some false)
  (bW:(Value.ref p == Value.ref d)=false)
  (bJ:mroIn K p (.ref i)=some false)
  (bK:(Value.ref p == Value.ref i)=false)
  (dD:mroIn K p (.ref u)=some false)
  (dE:(Value.ref p == Value.ref u)=false)
  (bX:mroIn K p (.ref j)=some false)
  (bY:(Value.ref p == Value.ref j)=false)
  (dF:mroIn K p (.ref f)=some false)
  (dG:(Value.ref p == Value.ref f)=false)
  (dH:mroIn K p (.ref g)=some false)
  (dI:(Value.ref p == Value.ref g)=false)
  (fG:mroIn K p (.ref b)=some false)
  (fH:(Value.ref p == Value.ref b)=false)
  (qC:plainGet K g Str.empty=true)
  (qD:hasDictIn K g=true)
  (qE:plainOver K g=true)
  (qF:findIn K (.ref g) "__setattr__"=some (some (.builtin "object.__setattr__")))
  (qG:makesIn K g=true)
  (qH:keepIn K (.ref g)=true)
  (qI:findIn K (.ref g) "__init__"=zR0 T)
  (hU:findIn K (.ref g) "array"=zN0)
  (dJ:findIn K (.ref g) "indexes"=zN0)
  (qJ:findIn K (.ref g) "__class__"=zC0)
  (qK:mroIn K g (.type "object")=some true)
  (hV:mroIn K g (.ref a)=some false)
  (hW:(Value.ref g == Value.ref a)=false)
  (hX:mroIn K g (.ref d)=some false)
  (hZ:(Value.ref g == Value.ref d)=false)
  (fI:mroIn K g (.ref i)=some false)
  (fJ:(Value.ref g == Value.ref i)=false)
  (jZ:mroIn K g (.ref u)=some false)
  (kA:(Value.ref g == Value.ref u)=false)
  (iA:mroIn K g (.ref j)=some false)
  (iB:(Value.ref g == Value.ref j)=false)
  (kB:mroIn K g (.ref f)=some false)
  (kC:(Value.ref g == Value.ref f)=false)
  (kD:mroIn K g (.ref g)=some true)
  (lE:mroIn K g (.ref b)=some false)
  (lF:(Value.ref g == Value.ref b)=false)
  (qY:plainGet K b Str.empty=true)
  (qZ:hasDictIn K b=true)
  (rA:plainOver K b=true)
  (rB:findIn K (.ref b) "__setattr__"=some (some (.builtin "object.__setattr__")))
  (rC:makesIn K b=true)
  (rD:keepIn K (.ref b)=true)
  (rE:findIn K (.ref b) "__init__"=zR0 rS)
  (lG:findIn K (.ref b) "axis"=zN0)
  (lH:findIn K (.ref b) "body"=zN0)
  (rF:findIn K (.ref b) "__class__"=zC0)
  (rG:mroIn K b (.type "object")=some true)
  (kE:mroIn K b (.ref a)=some false)
  (kF:(Value.ref b == Value.ref a)=false)
  (kG:mroIn K b (.ref d)=some false)
  (kH:(Value.ref b == Value.ref d)=false)
  (iC:mroIn K b (.ref i)=some false)
  (iD:(Value.ref b == Value.ref i)=false)
  (lI:mroIn K b (.ref u)=some false)
  (lJ:(Value.ref b == Value.ref u)=false)
  (kI:mroIn K b (.ref j)=some false)
  (kJ:(Value.ref b == Value.ref j)=false)
  (lK:mroIn K b (.ref f)=some false)
  (lL:(Value.ref b == Value.ref f)=false)
  (lM:mroIn K b (.ref g)=some false)
  (lN:(Value.ref b == Value.ref g)=false)
  (mC:mroIn K b (.ref b)=some true)
  (oN:plainGet K r Str.empty=true)
  (oO:hasDictIn K r=true)
  (oP:plainOver K r=true)
  (oQ:findIn K (.ref r) "__setattr__"=some (some (.builtin "object.__setattr__")))
  (oR:makesIn K r=true)
  (oS:keepIn K (.ref r)=true)
  (oT:findIn K (.ref r) "__init__"=zR0 S)
  (iE:findIn K (.ref r) "left"=zN0)
  (fK:findIn K (.ref r) "right"=zN0)
  (bZ:findIn K (.ref r) "made_of"=zR0 Y)
  (oU:findIn K (.ref r) "__class__"=zC0)
  (oV:mroIn K r (.type "object")=some true)
  (fL:mroIn K r (.ref a)=some false)
  (fM:(Value.ref r == Value.ref a)=false)
  (fN:mroIn K r (.ref d)=some false)
  (fO:(Value.ref r == Value.ref d)=false)
  (dK:mroIn K r (.ref i)=some false)
  (dL:(Value.ref r == Value.ref i)=false)
  (iF:mroIn K r (.ref u)=some true)
  (fP:mroIn K r (.ref j)=some false)
  (fQ:(Value.ref r == Value.ref j)=false)
  (iG:mroIn K r (.ref f)=some false)
  (iH:(Value.ref r == Value.ref f)=false)
  (iI:mroIn K r (.ref g)=some false)
  (iJ:(Value.ref r == Value.ref g)=false)
  (kK:mroIn K r (.ref b)=some false)
  (kL:(Value.ref r == Value.ref b)=false)
  (kM:nsIn K mainGlobals "isinstance"=zN0)
  (rH:nsIn K mainGlobals "list"=zN0)
  (qL:nsIn K mainGlobals "tuple"=zN0)
  (rI:nsIn K mainGlobals "dict"=zN0)
  (mD:nsIn K mainGlobals "reversed"=zN0)
  (rK:nsIn K mainGlobals "len"=zN0)
  (qM:nsIn K mainGlobals "range"=zN0)
  (rL:nsIn K mainGlobals "int"=zN0)
  (rM:nsIn K mainGlobals "min"=zN0)
  (rN:nsIn K mainGlobals "max"=zN0)
  (rO:nsIn K mainGlobals "zip"=zN0)
  :∃fd:FuncData,(∀(s:Shared) (v:Value),BindsTo s fd ⟨[v],[]⟩ [("_law_script",v)])/\∀base:Heap,K.In base->base.Ns mainGlobals mg->A3i l.prog w K mg base CX0 93 fa fd ["_law_script"] (D3a K):=by
 have e:=o2.symm.trans (Z0f X G sD);cases e;obtain ⟨d0,F0,b0,k0⟩:=A2b (ps:=C0f) l0 (by walk_at "le");obtain ⟨d1,F1,b1,k1⟩:=A2b (ps:=C0f) l1 (by walk_at "le");obtain ⟨d2,F2,b2,k2⟩:=A2b (ps:=E3f) l2 (by walk_at "le");obtain ⟨d3,F3,b3,k3⟩:=A2b (ps:=E3k) l3 (by walk_at "le");obtain ⟨d4,F4,b4,k4⟩:=A2b (ps:=E2j) l4 (by walk_at "le");obtain ⟨d5,F5,b5,k5⟩:=A2b (ps:=["self","axis"]) l5 (by walk_at "le");obtain ⟨d6,F6,b6,k6⟩:=A2b (ps:=E3m) l6 (by walk_at "le");obtain ⟨d7,F7,b7,k7⟩:=A2b (ps:=C5z) l7 (by walk_at "le");obtain ⟨d8,F8,b8,k8⟩:=A2b (ps:=C5z) l8 (by walk_at "le");obtain ⟨d9,F9,b9,k9⟩:=A2b (ps:=C5z) l9 (by walk_at "le");obtain ⟨x1,m4,o8,j6⟩:=A2b (ps:=C5z) sE (by walk_at "le");obtain ⟨x5,m5,j7,y1⟩:=A2b (ps:=E3l) sG (by walk_at "le");obtain ⟨v0,j2,q8,t9⟩:=A2b (ps:=E2o) sI (by walk_at "le");obtain ⟨z3,n2,m2,n1⟩:=A2b (ps:=E2r) sK (by walk_at "le");obtain ⟨v4,r4,m0,v7⟩:=A2b (ps:=E2z) sM (by walk_at "le");obtain ⟨w8,g6,m3,x7⟩:=A2b (ps:=B2b) sP (by walk_at "le");obtain ⟨y5,e8,h3,k16⟩:=A2b (ps:=["part"]) sR (by walk_at "le");obtain ⟨x3,g9,m8,s1⟩:=A2b (ps:=["part"]) sT (by walk_at "le");obtain ⟨u9,j5,e4,s0⟩:=A2b (ps:=B2b) sV (by walk_at "le");obtain ⟨t0,m9,q6,t8⟩:=A2b (ps:=["part"]) sX (by walk_at "le");obtain ⟨s5,j1,c5,s4⟩:=A2b (ps:=D6a) sY (by walk_at "le");obtain ⟨u0,q5,q1,v2⟩:=A2b (ps:=D4v) tA (by walk_at "le");obtain ⟨y8,g4,p6,k22⟩:=A2b (ps:=A9z) tD (by walk_at "le");obtain ⟨w5,p7,j3,t7⟩:=A2b (ps:=A9z) tF (by walk_at "le");obtain ⟨x0,j8,r6,v5⟩:=A2b (ps:=A9z) tH (by walk_at "le");obtain ⟨y4,h9,r0,w1⟩:=A2b (ps:=A9z) tJ (by walk_at "le");obtain ⟨d26,c6,n7,z7⟩:=A2b (ps:=A9z) tL (by walk_at "le");obtain ⟨u1,m1,r7,w4⟩:=A2b (ps:=["self","known"]) tM (by walk_at "le");obtain ⟨z1,p5,r5,e3⟩:=A2b (ps:=["self","let"]) tO (by walk_at "le");obtain ⟨x9,g5,q9,n4⟩:=A2b (ps:=B2h) tQ (by walk_at "le");obtain ⟨y3,p4,g1,g0⟩:=A2b (ps:=B2h) tS (by walk_at "le");obtain ⟨w7,j0,e5,o7⟩:=A2b (ps:=["self"]) tU (by walk_at "le");obtain ⟨d32,h7,o3,u7⟩:=A2b (ps:=["body","guards"]) tX (by walk_at "le");obtain ⟨z2,h4,o5,r9⟩:=A2b (ps:=B2b) tZ (by walk_at "le");obtain ⟨x8,e2,o1,v9⟩:=A2b (ps:=B2b) uB (by walk_at "le");obtain ⟨z5,p0,q0,k35⟩:=A2b (ps:=D6o) uD (by walk_at "le");obtain ⟨s7,j9,g7,u5⟩:=A2b (ps:=C4y) uF (by walk_at "le");obtain ⟨w6,e9,q2,u2⟩:=A2b (ps:=C4y) uH (by walk_at "le");obtain ⟨v1,r2,p9,v8⟩:=A2b (ps:=D4t) uJ (by walk_at "le");obtain ⟨t3,n0,h2,x6⟩:=A2b (ps:=["_law_rest"]) uL (by walk_at "le");obtain ⟨s6,g3,h0,u4⟩:=A2b (ps:=C4n) uN (by walk_at "le");obtain ⟨v3,o4,c8,w0⟩:=A2b (ps:=D6l) uP (by walk_at "le");obtain ⟨y0,e7,q7,u8⟩:=A2b (ps:=D5b) uR (by walk_at "le");obtain ⟨t2,e1,r3,v6⟩:=A2b (ps:=D7b) uT (by walk_at "le");obtain ⟨y9,n3,c1,k44⟩:=A2b (ps:=D7i) uV (by walk_at "le");obtain ⟨u6,n8,c9,k45⟩:=A2b (ps:=D5v) uX (by walk_at "le");obtain ⟨t4,h5,c3,w2⟩:=A2b (ps:=C4x) uZ (by walk_at "le");obtain ⟨d47,i1,q3,x4⟩:=A2b (ps:=C4w) vB (by walk_at "le");obtain ⟨z8,c4,p1,z9⟩:=A2b (ps:=D6z) vD (by walk_at "le");obtain ⟨s3,g2,c2,w3⟩:=A2b (ps:=D6j) vF (by walk_at "le");obtain ⟨d50,c7,p3,z4⟩:=A2b (ps:=C5j) vH (by walk_at "le");obtain ⟨r8,m7,r1,s2⟩:=A2b (ps:=B4j) vJ (by walk_at "le");obtain ⟨u3,g8,q4,k52⟩:=A2b (ps:=B4j) vL (by walk_at "le");obtain ⟨w9,n6,n5,z0⟩:=A2b (ps:=["_law_program"]) vN (by walk_at "le");obtain ⟨z6,p8,h8,s8⟩:=A2b (ps:=C4n) vP (by walk_at "le");obtain ⟨y6,i0,j4,t5⟩:=A2b (ps:=["_law_indexes","_law_at"]) vR (by walk_at "le");obtain ⟨t6,o9,h6,s9⟩:=A2b (ps:=C5a) vT (by walk_at "le");obtain ⟨d57,p2,m6,y7⟩:=A2b (ps:=D7v) vV (by walk_at "le");obtain ⟨y2,h1,e0,t1⟩:=A2b (ps:=D5m) vX (by walk_at "le");obtain ⟨x2,e6,n9,k59⟩:=A2b (ps:=D6d) vZ (by walk_at "le");obtain ⟨_,_,_,_,_,_,_,_,_,rQ,c,o0⟩:=rQ;have c0:=D3p (st:=D1l) rQ c o0;have o6:=c0.binds (ps:=C5j) (by walk_at "le");exact ⟨_,λs v=> .of_eq rfl,λbase _ _=>E1m (t:=⟨m,o,rP,i,j,g,u,f,d,r,b,a,q,n,p,k,f0,_,f1,_,f2,_,W,_,f4,_,f5,_,T,_,S,_,f8,_,f9,_,Y,_,rS,_,rT,_,rU,_,rV,_,wA,_,wB,_,wC,_,wD,_,wE,_,rW,_,rX,_,wF,_,wG,_,wH,_,wI,_,wJ,_,U,_,Z,_,sA,_,sB,_,E,_,wK,_,wL,_,wM,_,wN,_,wO,_,wP,_,wQ,_,wR,_,wS,_,wT,_,wU,_,wV,_,wW,_,wX,_,wY,_,wZ,_,xA,_,xB,_,xC,_,xD,_,xE,_,xF,_,xG,_,xH,_,xI,_,xJ,_,xK,_,xL,_,fa,_⟩) ⟨⟨F0,Z0f X G a0,b0⟩,⟨F1,Z0f X G a1,b1⟩,⟨F2,b2⟩,⟨F3,b3⟩,⟨F4,b4⟩,⟨F5,b5⟩,⟨F6,b6⟩,⟨F7,b7⟩,⟨F8,b8⟩,⟨F9,b9⟩,⟨m4,o8⟩,⟨m5,j7⟩,⟨j2,q8⟩,⟨n2,m2⟩,⟨r4,m0⟩,⟨g6,Z0f X G sO,m3⟩,⟨e8,Z0f X G sQ,h3⟩,⟨g9,Z0f X G sS,m8⟩,⟨j5,Z0f X G sU,e4⟩,⟨m9,Z0f X G sW,q6⟩,⟨j1,c5⟩,⟨q5,q1⟩,⟨g4,Z0f X G tC,p6⟩,⟨p7,Z0f X G tE,j3⟩,⟨j8,Z0f X G tG,r6⟩,⟨h9,Z0f X G tI,r0⟩,⟨c6,Z0f X G tK,n7⟩,⟨m1,r7⟩,⟨p5,r5⟩,⟨g5,q9⟩,⟨p4,g1⟩,⟨j0,e5⟩,⟨h7,Z0f X G tW,o3⟩,⟨h4,Z0f X G tY,o5⟩,⟨e2,Z0f X G uA,o1⟩,⟨p0,Z0f X G uC,q0⟩,⟨j9,Z0f X G uE,g7⟩,⟨e9,Z0f X G uG,q2⟩,⟨r2,Z0f X G uI,p9⟩,⟨n0,Z0f X G uK,h2⟩,⟨g3,Z0f X G uM,h0⟩,⟨o4,Z0f X G uO,c8⟩,⟨e7,Z0f X G uQ,q7⟩,⟨e1,Z0f X G uS,r3⟩,⟨n3,Z0f X G uU,c1⟩,⟨n8,Z0f X G uW,c9⟩,⟨h5,Z0f X G uY,c3⟩,⟨i1,Z0f X G vA,q3⟩,⟨c4,Z0f X G vC,p1⟩,⟨g2,Z0f X G vE,c2⟩,⟨c7,Z0f X G vG,p3⟩,⟨m7,Z0f X G vI,r1⟩,⟨g8,Z0f X G vK,q4⟩,⟨n6,Z0f X G vM,n5⟩,⟨p8,Z0f X G vO,h8⟩,⟨i0,Z0f X G vQ,j4⟩,⟨o9,Z0f X G vS,h6⟩,⟨p2,Z0f X G vU,m6⟩,⟨h1,Z0f X G vW,e0⟩,⟨e6,Z0f X G vY,n9⟩,⟨c0,Z0f X G sD,o6⟩,Z0f X G oW,Z0f X G mY,Z0f X G mE,Z0f X G mZ,Z0f X G oX,Z0f X G oY,Z0f X G oZ,Z0f X G nA,Z0f X G nB,Z0f X G qN,Z0f X G nC,Z0f X G pA,Z0f X G qO,Z0f X G lQ,Z0f X G mF,⟨nD,nE,nF,nG⟩,⟨nH,nJ,i3,nI⟩,dM,bL,cA,cB,dN,fR,⟨nK,R,D,nL⟩,A0f dP O L dO,A0f dR J H dQ,A0f cD N Q cC,A0f fT P B fS,A0f dT z A dS,A0f fV y I fU,A0f fX C M fW,A0f iL x F iK,⟨nM,nN,nO,nP⟩,⟨nQ,nS,sJ,nR⟩,fY,iM,fZ,dU,dV,⟨bM,sL,n1⟩,⟨nT,R,D,nU⟩,A4u O L dW,A0f dY J H dX,A0f cF N Q cE,A0f gB P B gA,A0f eA z A dZ,A0f gD y I gC,A0f gF C M gE,A0f iO x F iN,⟨qP,qQ,qR,qS⟩,⟨qT,qV,sZ,qU⟩,kN,kO,kP,⟨qW,R,D,qX⟩,kQ,iP,kR,A0f iR O L iQ,A0f iT J H iS,A0f gH N Q gG,A0f kT P B kS,A0f iV z A iU,A0f kV y I kU,A0f kX C M kW,A0f lS x F lR,⟨mG,mH,mI,mJ⟩,⟨mK,mM,tN,mL⟩,cG,cH,cI,⟨bE,tV,o7⟩,⟨eB,tT,g0⟩,⟨bH,tP,e3⟩,⟨bD,tR,n4⟩,⟨mN,R,D,mO⟩,A0f cK O L cJ,A0f cM J H cL,A0f bO N Q bN,A0f eD P B eC,A0f cO z A cN,A0f eF y I eE,A0f eH C M eG,A0f gJ x F gI,⟨pB,pC,pD,pE⟩,⟨pF,pH,i2,pG⟩,iW,iX,iY,iZ,⟨pI,R,D,pJ⟩,jA,gK,jB,A0f gM O L gL,A0f gO J H gN,A0f eJ N Q eI,A0f jD P B jC,A0f gQ z A gP,A0f jF y I jE,A0f jH C M jG,A0f kZ x F kY,⟨nV,nW,nX,nY⟩,⟨nZ,oB,i7,oA⟩,gR,eK,⟨bP,i9,k9⟩,⟨oC,R,D,oD⟩,A0f eM O L eL,A4u J H eN,A0f cQ N Q cP,A4u P B gS,A0f eP z A eO,A0f gU y I gT,A0f gW C M gV,A0f jJ x F jI,⟨mP,mQ,mR,mS⟩,⟨mT,mV,i4,mU⟩,bQ,⟨mW,R,D,mX⟩,A0f cS O L cR,A0f cU J H cT,A4u N Q bR,A0f eR P B eQ,A0f cW z A cV,A0f eT y I eS,A0f eV C M eU,A0f gY x F gX,⟨pK,pL,pM,pN⟩,⟨pO,pQ,sN,pP⟩,jK,jL,eW,⟨pR,R,D,pS⟩,A0f hA O L gZ,A0f hC J H hB,A0f eY N Q eX,A0f jN P B jM,A0f hE z A hD,A0f jP y I jO,A0f jR C M jQ,A0f lB x F lA,⟨oE,oF,oG,oH⟩,⟨oI,oK,i5,oJ⟩,hF,⟨oL,R,D,oM⟩,A0f fA O L eZ,A0f fC J H fB,A0f cY N Q cX,A0f hH P B hG,A4u z A fD,A0f hJ y I hI,A0f hL C M hK,A0f jT x F jS,⟨pT,pU,pV,pW⟩,⟨pX,pZ,i7,pY⟩,jU,hM,⟨cZ,i8,k8⟩,⟨qA,R,D,qB⟩,A0f hO O L hN,A0f hQ J H hP,A0f fF N Q fE,A4u P B jV,A0f hT z A hR,A4u y I jW,A0f jY C M jX,A0f lD x F lC,⟨lT,lU,lV,lW⟩,⟨lX,lZ,tB,lY⟩,bS,dA,bI,dB,dC,⟨mA,R,D,mB⟩,A0f bU O L bT,A0f bW J H bV,A0f bK N Q bJ,A0f dE P B dD,A0f bY z A bX,A0f dG y I dF,A0f dI C M dH,A0f fH x F fG,⟨qC,qD,qE,qF⟩,⟨qG,qI,i6,qH⟩,hU,dJ,⟨qJ,R,D,qK⟩,A0f hW O L hV,A0f hZ J H hX,A0f fJ N Q fI,A0f kA P B jZ,A0f iB z A iA,A0f kC y I kB,A4u C M kD,A0f lF x F lE,⟨qY,qZ,rA,rB⟩,⟨rC,rE,sH,rD⟩,lG,lH,⟨rF,R,D,rG⟩,A0f kF O L kE,A0f kH J H kG,A0f iD N Q iC,A0f lJ P B lI,A0f kJ z A kI,A0f lL y I lK,A0f lN C M lM,A4u x F mC,⟨oN,oO,oP,oQ⟩,⟨oR,oT,i7,oS⟩,iE,fK,⟨bZ,sF,j6⟩,⟨oU,R,D,oV⟩,A0f fM O L fL,A0f fO J H fN,A0f dL N Q dK,A4u P B iF,A0f fQ z A fP,A0f iH y I iG,A0f iJ C M iI,A0f kL x F kK,Z1c X G kM,Z1c X G rH,Z1c X G qL,Z1c X G rI,Z1c X G mD,Z1c X G rK,Z1c X G qM,Z1c X G rL,Z1c X G rM,Z1c X G rN,Z1c X G rO⟩⟩
theorem walk {q:Program} {b:List Str} {YP:World->Heap->Prop} {d:DefRec} {K:Params->Frag} (o:l.most=some 63) (c:d.params.defaults=[])
  (m:∀(w:World) (h:Heap),YP w h->(K w.params).In h)
  (F:∀(w:World) (mg:Str->Option Value) (e:Addr) (h:Heap),(K w.params).In h->h.Ns mainGlobals mg->mg d.name=some (.ref e)->
   ∃fd:FuncData,(∀(s:Shared) (u:Value),BindsTo s fd ⟨[u],[]⟩ [("_law_script",u)])/\∀base:Heap,(K w.params).In base->base.Ns mainGlobals mg->A3i l.prog w (K w.params) mg base CX0 93 e fd ["_law_script"] (D3a (K w.params))) :
  PySem.W.WalkO q b XP YP l.row.toRowW d [] (λf vs=>PySem.call f vs) :=
 L2.D6b (n:=63) (k:=93) (x:="_law_script") (CX:=λ_=>CX0) (sp:=λw=>D3a (K w.params)) o (by decide) c ⟨rfl,by decide,by decide,rfl⟩ m F (λ_ _ a j g _ i=>⟨a,j,rfl,i,g,λ_=>rfl⟩) λ_ _ _ _ _ z=>z
end My
local macro_rules | `(tactic| walk_at "kf") => `(tactic| (refine' My.E2e ?l ?c ?k; (case l => k_is); (case c => k_is); (case k => k_is)))
open PySem PySem.W PyProof.Rows
set_option maxRecDepth 100000 in
set_option maxHeartbeats 0 in
theorem PySem.Challenge.cw_arrayloom_k34_whole_lines_mean_the_lets_holds : PySem.Challenge.rw_arrayloom_k34_whole_lines_mean_the_lets.Holds := by
 w_on;o_law;k_head;(case hw=>w_witness2)
 k_fill
 refine My.walk (l:=PySem.Challenge.rw_arrayloom_k34_whole_lines_mean_the_lets) rfl rfl (λw h Y=>PySem.W.kIn_of Y) ?F
 case F =>
  intro w b c h KX G a;refine' My.D9j KX G a ?_ ?_ ?_ ?_ ?_ ?_ ?_ ?_ ?_ ?_ ?_ ?_ ?_ ?_ ?_ ?_ ?_ ?_ ?_ ?_ ?_ ?_ ?_ ?_ ?_ ?_ ?_ ?_ ?_ ?_ ?_ ?_ ?_ ?_ ?_ ?_ ?_ ?_ ?_ ?_ ?_ ?_ ?_ ?_ ?_ ?_ ?_ ?_ ?_ ?_ ?_ ?_ ?_ ?_ ?_ ?_ ?_ ?_ ?_ ?_ ?_ ?_ ?_ ?_ ?_ ?_ ?_ ?_ ?_ ?_ ?_ ?_ ?_ ?_ ?_ ?_ ?_ ?_ ?_ ?_ ?_ ?_ ?_ ?_ ?_ ?_ ?_ ?_ ?_ ?_ ?_ ?_ ?_ ?_ ?_ ?_ ?_ ?_ ?_ ?_ ?_ ?_ ?_ ?_ ?_ ?_ ?_ ?_ ?_ ?_ ?_ ?_ ?_ ?_ ?_ ?_ ?_ ?_ ?_ ?_ ?_ ?_ ?_ ?_ ?_ ?_ ?_ ?_ ?_ ?_ ?_ ?_ ?_ ?_ ?_ ?_ ?_ ?_ ?_ ?_ ?_ ?_ ?_ ?_ ?_ ?_ ?_ ?_ ?_ ?_ ?_ ?_ ?_ ?_ ?_ ?_ ?_ ?_ ?_ ?_ ?_ ?_ ?_ ?_ ?_ ?_ ?_ ?_ ?_ ?_ ?_ ?_ ?_ ?_ ?_ ?_ ?_ ?_ ?_ ?_ ?_ ?_ ?_ ?_ ?_ ?_ ?_ ?_ ?_ ?_ ?_ ?_ ?_ ?_ ?_ ?_ ?_ ?_ ?_ ?_ ?_ ?_ ?_ ?_ ?_ ?_ ?_ ?_ ?_ ?_ ?_ ?_ ?_ ?_ ?_ ?_ ?_ ?_ ?_ ?_ ?_ ?_ ?_ ?_ ?_ ?_ ?_ ?_ ?_ ?_ ?_ ?_ ?_ ?_ ?_ ?_ ?_ ?_ ?_ ?_ ?_ ?_ ?_ ?_ ?_ ?_ ?_ ?_ ?_ ?_ ?_ ?_ ?_ ?_ ?_ ?_ ?_ ?_ ?_ ?_ ?_ ?_ ?_ ?_ ?_ ?_ ?_ ?_ ?_ ?_ ?_ ?_ ?_ ?_ ?_ ?_ ?_ ?_ ?_ ?_ ?_ ?_ ?_ ?_ ?_ ?_ ?_ ?_ ?_ ?_ ?_ ?_ ?_ ?_ ?_ ?_ ?_ ?_ ?_ ?_ ?_ ?_ ?_ ?_ ?_ ?_ ?_ ?_ ?_ ?_ ?_ ?_ ?_ ?_ ?_ ?_ ?_ ?_ ?_ ?_ ?_ ?_ ?_ ?_ ?_ ?_ ?_ ?_ ?_ ?_ ?_ ?_ ?_ ?_ ?_ ?_ ?_ ?_ ?_ ?_ ?_ ?_ ?_ ?_ ?_ ?_ ?_ ?_ ?_ ?_ ?_ ?_ ?_ ?_ ?_ ?_ ?_ ?_ ?_ ?_ ?_ ?_ ?_ ?_ ?_ ?_ ?_ ?_ ?_ ?_ ?_ ?_ ?_ ?_ ?_ ?_ ?_ ?_ ?_ ?_ ?_ ?_ ?_ ?_ ?_ ?_ ?_ ?_ ?_ ?_ ?_ ?_ ?_ ?_ ?_ ?_ ?_ ?_ ?_ ?_ ?_ ?_ ?_ ?_ ?_ ?_ ?_ ?_ ?_ ?_ ?_ ?_ ?_ ?_ ?_ ?_ ?_ ?_ ?_ ?_ ?_ ?_ ?_ ?_ ?_ ?_ ?_ ?_ ?_ ?_ ?_ ?_ ?_ ?_ ?_ ?_ ?_ ?_ ?_ ?_ ?_ ?_ ?_ ?_ ?_ ?_ ?_ ?_ ?_ ?_ ?_ ?_ ?_ ?_ ?_ ?_ ?_ ?_ ?_ ?_ ?_ ?_ ?_ ?_ ?_ ?_ ?_ ?_ ?_ ?_ ?_ ?_ ?_ ?_ ?_ ?_ ?_ ?_ ?_ ?_ ?_ ?_ ?_ ?_ ?_ ?_ ?_ ?_ ?_ ?_ ?_ ?_ ?_ ?_ ?_ ?_ ?_ ?_ ?_ ?_ ?_ ?_ ?_ ?_ ?_ ?_ ?_ ?_ ?_ ?_ ?_ ?_ ?_ ?_ ?_ ?_ ?_ ?_ ?_ ?_ ?_ ?_ ?_ ?_ ?_ ?_ ?_ ?_ ?_ ?_ ?_ ?_ ?_ ?_ ?_ ?_ ?_ ?_ ?_ ?_ ?_ ?_ ?_ ?_ ?_ ?_ ?_ ?_ ?_ ?_ ?_ ?_ ?_ ?_ ?_ ?_ ?_ ?_ ?_ ?_ ?_ ?_ ?_ ?_ ?_ ?_ ?_ ?_ ?_ ?_ ?_ ?_ ?_ ?_ ?_ ?_ ?_ ?_ ?_ ?_ ?_ ?_
  rotate_left 16;iterate 16 k_is;iterate 3 (rotate_left 1;k_is;walk_at "kf");iterate 13 (k_is;rotate_left 1;k_is;walk_at "kf");iterate 5 (rotate_left 1;k_is;walk_at "kf");iterate 2 (k_is;rotate_left 1;k_is;walk_at "kf");iterate 5 (rotate_left 1;k_is;walk_at "kf");iterate 5 (k_is;rotate_left 1;k_is;walk_at "kf");iterate 28 (rotate_left 1;k_is;walk_at "kf");iterate 20 k_is;iterate 8 ((first | rfl | decide);k_is;k_is;k_is);iterate 14 k_is;iterate 7 ((first | rfl | decide);k_is);iterate 15 k_is;iterate 8 ((first | rfl | decide);k_is);iterate 16 k_is;iterate 8 ((first | rfl | decide);k_is);iterate 16 k_is;iterate 8 ((first | rfl | decide);k_is);iterate 12 k_is;iterate 2 ((first | rfl | decide);k_is;k_is);iterate 4 ((first | rfl | decide);k_is);iterate 10 k_is;iterate 2 ((first | rfl | decide);k_is);iterate 5 (k_is;(first | rfl | decide));iterate 13 k_is;iterate 8 ((first | rfl | decide);k_is);iterate 10 k_is;iterate 4 ((first | rfl | decide);k_is);iterate 3 (k_is;(first | rfl | decide));iterate 13 k_is;iterate 3 ((first | rfl | decide);k_is);iterate 2 (k_is;(first | rfl | decide);k_is);(first | rfl | decide);iterate 15 k_is;iterate 8 ((first | rfl | decide);k_is);iterate 11 k_is;iterate 6 ((first | rfl | decide);k_is);k_is;(first | rfl | decide);iterate 12 k_is;iterate 7 ((first | rfl | decide);k_is);iterate 13 k_is;iterate 3 ((first | rfl | decide);k_is);iterate 4 (k_is;(first | rfl | decide));iterate 11 k_is
