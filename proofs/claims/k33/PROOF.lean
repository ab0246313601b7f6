import PyProof.Rows.All
import Wide.All
import OpenK.AllK
import Wide.FinOn
import Lean
import PyProof.EqAt
import PyProof.EqKinds
import PyProof.TupleCall
import KE.KDictLaws
import KE.KDictList
import KE.KDictOf
import KE.KEqDict
import KE.KIntText
import KE.KTabLook
import KE.KTryMore
import KE.KUnpack
import PyProof.AttrMissHeap
import PyProof.AutoListH
import PyProof.CollectWalk
import PyProof.CompUse
import PyProof.ConsumeWalk
import PyProof.Conv_int_bool
import PyProof.DictItems
import PyProof.DictValues
import PyProof.DictWalks
import PyProof.Draws
import PyProof.EnumFor
import PyProof.EnumMake
import PyProof.EnumStmt
import PyProof.ExcClass3
import PyProof.ExcInit
import PyProof.FString4
import PyProof.FString5
import PyProof.FactsAll.list_3
import PyProof.FactsAll.set
import PyProof.FactsAll.subtypes_5
import PyProof.FactsAll.zip
import PyProof.NeKinds
import PyProof.P3Eq
import PyProof.RangeIter
import PyProof.ReprHeads
import PyProof.ReprLen
import PyProof.Rows.SeqMore2
import PyProof.Rows.SetFrom
import PyProof.Rows.SortKeyStr
import PyProof.Rows.SortRev
import PyProof.Rows.StrInSeq3
import PyProof.Rows.StrNews
import PyProof.Rows.StrNews2
import PyProof.Rows.TupIter
import PyProof.SetKind
import PyProof.SetRoads
import PyProof.StrLawsLast
import PyProof.StrLawsRepr
import PyProof.StrLawsTight
import PyProof.StrWalks
import PyProof.SumAny
import PyProof.TupleKey
import PyProof.WalkInts
import PyProof.Walks
import PySem.Challenge.RW_arrayloom_k33_lines_read_ahead
set_option compiler.extract_closed false
section
open PySem PySem.Spec PyProof.Rows PySem.Calls
abbrev Z00:=@wpAny_bind
abbrev Z01:=@Heap.get?_push_of_some
abbrev Z02:=@List.mem_append_right
abbrev Z03:=@List.getElem?_eq_some_iff
abbrev Z04:=@wpAny_pure
abbrev Z05:=@List.mem_append_left
abbrev Z06:=@List.length_append
abbrev Z07:=@List.mem_append
abbrev Z08:=@List.length_map
abbrev Z09:=@Nat.le_refl
abbrev Z0a:=@Heap.lt_size
abbrev Z0b:=@List.getElem?_eq_getElem
abbrev Z0c:=@Heap.get?_push_size
abbrev Z0d:=@PyProof.Rows.boot_isinstance
abbrev Z0e:=@List.mem_cons
abbrev Z0f:=@PySem.W.mg_of
abbrev Z0g:=@List.size_toArray
abbrev Z0h:=@Nat.ne_of_lt
abbrev Z0i:=@Option.map_eq_some_iff
abbrev Z0j:=@List.length_singleton
abbrev Z0k:=@PySem.F.plainAttrs_list
abbrev Z0l:=@List.nodup_append
abbrev Z0m:=@PyProof.Rows.boot_tuple
abbrev Z0n:=@PySem.F.slot_list_append
abbrev Z0o:=@PySem.F.type_list_append
abbrev Z0p:=@List.map_cons
abbrev Z0q:=@Nat.lt_of_lt_of_le
abbrev Z0r:=@PySem.boot_len
abbrev Z0s:=@List.map_append
abbrev Z0t:=@if_neg
abbrev Z0u:=@List.append_nil
abbrev Z0v:=@Bool.false_ne_true
abbrev Z0w:=@List.mem_singleton
abbrev Z0x:=@List.length_take
abbrev Z0y:=@List.length_cons
abbrev Z0z:=@List.append_assoc
abbrev Z10:=@wpAny_mono
abbrev Z11:=@wpAny_field
abbrev Z12:=@if_pos
abbrev Z13:=@List.mem_of_getElem?
abbrev Z14:=@List.take_add_one
abbrev Z15:=@List.nodup_cons
abbrev Z16:=@wpAny_newObj_type
abbrev Z18:=@List.take_length
abbrev Z1a:=@Option.some.inj
abbrev Z1b:=@wpAny_callSpecial?_slot
abbrev Z1c:=@PySem.W.mg_none_of
abbrev Z1e:=@Nat.zero_le
abbrev Z1f:=@List.mem_cons_of_mem
abbrev Z1g:=@wpAny_call_entry
abbrev Z1h:=@wpAny_setField_rec
abbrev Z1j:=@decide_eq_false
abbrev Z1l:=@List.getElem?_append_right
abbrev Z1n:=@Nat.le_trans
abbrev Z1o:=@PyProof.Rows.boot_list
abbrev Z1p:=@Int.emod_lt_of_pos
abbrev Z1q:=@Nat.ne_of_gt
abbrev Z1s:=@Heap.size_push
abbrev Z1t:=@wpAny_setField
abbrev Z1u:=@List.drop_eq_getElem_cons
abbrev Z1v:=@Int.emod_nonneg
abbrev Z1w:=@wpAny_holding
abbrev Z1x:=@Bool.and_eq_true
abbrev Z1y:=@wpAny_standAt
abbrev Z1z:=@List.getElem?_map
abbrev Z20:=@decide_eq_true
abbrev Z21:=@wpAny_seqItems
abbrev Z22:=@beq_eq_false_iff_ne
abbrev Z23:=@List.getElem?_set_self
abbrev Z26:=@List.getElem?_append_left
abbrev Z27:=@List.mem_cons_self
abbrev Z28:=@List.lookup_cons
abbrev Z29:=@Int.mul_le_mul_of_nonneg_left
abbrev Z2a:=@List.getElem?_set_ne
abbrev Z2b:=@wpAny_execs_nil
abbrev Z2c:=@List.mem_map
abbrev Z2d:=@Nat.lt_of_le_of_lt
abbrev Z2e:=@List.take_append_drop
abbrev Z2f:=@Option.toList_some
abbrev Z2g:=@List.length_nil
abbrev Z2h:=@List.find?_cons
abbrev Z2i:=@List.drop_length
abbrev Z2l:=@List.take_of_length_le
abbrev Z2o:=@List.take_sublist
abbrev Z2p:=@List.mem_of_mem_take
abbrev Z2q:=@PyProof.Rows.boot_dict
end
noncomputable section
open PySem.W (Frag findIn nsIn mroIn kitOne keepIn typeIn hideAll isFn plainGet isClsIn hasDictIn exmOne plainOver makesIn clsIn fnOf emptyDict instObj excIn kitAny takesIn specialIn subIn codeIn)
set_option Elab.async false
set_option bootstrap.genMatcherCode false
set_option linter.all false
set_option maxRecDepth 100000
set_option maxHeartbeats 4000000
section
variable {G:Prop} {T0 T1 T2 T3 T4 T5 T6 T7 T8:Sort _} {A0 A1 A2 A3 A4 A5:Prop} {B0 B1 B2 B3:T0->Prop} {C0 C1 C2 C3 C4 C5:T0->T1->Prop} {D0 D1 D2 D3 D4:T0->T1->T2->Prop} {E0 E1 E2 E3 E4 E5:T0->T1->T2->T3->Prop} {F0 F1 F2 F3 F4 F5:T0->T1->T2->T3->T4->Prop} {G0 G1 G2 G3 G4 G5 G6 G7:T0->T1->T2->T3->T4->T5->Prop} {H0:T0->T1->T2->T3->T4->T5->T6->Prop} {I0 I1 I2 I3 I4 I5 I6:T0->T1->T2->T3->T4->T5->T6->T7->Prop} {J0:T0->T1->T2->T3->T4->T5->T6->T7->T8->Prop}
theorem i00:A0->A1->A2->A0/\A1/\A2:=λm n i=>⟨m,n,i⟩
theorem i01:A0->∀x,B0 x->A0/\∃x,B0 x:=λm x n=>⟨m,x,n⟩
theorem i02:∀x,B0 x->B1 x->∃x,B0 x/\B1 x:=λx m n=>⟨x,m,n⟩
theorem i03:∀x y,C0 x y->∃x y,C0 x y:=λx y m=>⟨x,y,m⟩
theorem i04:A0->A1->A2->A3->A0/\A1/\A2/\A3:=λm n i j=>⟨m,n,i,j⟩
theorem i05:A0->∀x,B0 x->B1 x->A0/\∃x,B0 x/\B1 x:=λm x n i=>⟨m,x,n,i⟩
theorem i06:∀x,B0 x->B1 x->B2 x->∃x,B0 x/\B1 x/\B2 x:=λx m n i=>⟨x,m,n,i⟩
theorem i07:∀x y,C0 x y->C1 x y->∃x y,C0 x y/\C1 x y:=λx y m n=>⟨x,y,m,n⟩
theorem i08:∀x y z,D0 x y z->∃x y z,D0 x y z:=λx y z m=>⟨x,y,z,m⟩
theorem i09:A0->A1->A2->A3->A4->A0/\A1/\A2/\A3/\A4:=λm n i j k=>⟨m,n,i,j,k⟩
theorem i0a:A0->A1->∀x,B0 x->B1 x->A0/\A1/\∃x,B0 x/\B1 x:=λm n x i j=>⟨m,n,x,i,j⟩
theorem i0b:A0->∀x y,C0 x y->C1 x y->A0/\∃x y,C0 x y/\C1 x y:=λm x y n i=>⟨m,x,y,n,i⟩
theorem i0c:∀x,B0 x->B1 x->B2 x->B3 x->∃x,B0 x/\B1 x/\B2 x/\B3 x:=λx m n i j=>⟨x,m,n,i,j⟩
theorem i0d:∀x,B0 x->B1 x->∀y,C0 x y->∃x,B0 x/\B1 x/\∃y,C0 x y:=λx m n y i=>⟨x,m,n,y,i⟩
theorem i0e:∀x,B0 x->∀y,C0 x y->C1 x y->∃x,B0 x/\∃y,C0 x y/\C1 x y:=λx m y n i=>⟨x,m,y,n,i⟩
theorem i0f:∀x y,C0 x y->C1 x y->C2 x y->∃x y,C0 x y/\C1 x y/\C2 x y:=λx y m n i=>⟨x,y,m,n,i⟩
theorem i0g:∀x y z,D0 x y z->D1 x y z->∃x y z,D0 x y z/\D1 x y z:=λx y z m n=>⟨x,y,z,m,n⟩
theorem i0h:A0->A1->A2->A3->A4->A5->A0/\A1/\A2/\A3/\A4/\A5:=λm n i j k l=>⟨m,n,i,j,k,l⟩
theorem i0i:A0->∀x y,C0 x y->C1 x y->C2 x y->A0/\∃x y,C0 x y/\C1 x y/\C2 x y:=λm x y n i j=>⟨m,x,y,n,i,j⟩
theorem i0j:∀x,B0 x->B1 x->∀y,C0 x y->C1 x y->∃x,B0 x/\B1 x/\∃y,C0 x y/\C1 x y:=λx m n y i j=>⟨x,m,n,y,i,j⟩
theorem i0k:∀x,B0 x->∀y,C0 x y->C1 x y->C2 x y->∃x,B0 x/\∃y,C0 x y/\C1 x y/\C2 x y:=λx m y n i j=>⟨x,m,y,n,i,j⟩
theorem i0l:∀x y,C0 x y->C1 x y->C2 x y->C3 x y->∃x y,C0 x y/\C1 x y/\C2 x y/\C3 x y:=λx y m n i j=>⟨x,y,m,n,i,j⟩
theorem i0m:∀x y z,D0 x y z->D1 x y z->D2 x y z->∃x y z,D0 x y z/\D1 x y z/\D2 x y z:=λx y z m n i=>⟨x,y,z,m,n,i⟩
theorem i0n:∀x,B0 x->∀y z,D0 x y z->D1 x y z->D2 x y z->∃x,B0 x/\∃y z,D0 x y z/\D1 x y z/\D2 x y z:=λx m y z n i j=>⟨x,m,y,z,n,i,j⟩
theorem i0o:∀x y,C0 x y->C1 x y->C2 x y->C3 x y->C4 x y->∃x y,C0 x y/\C1 x y/\C2 x y/\C3 x y/\C4 x y:=λx y m n i j k=>⟨x,y,m,n,i,j,k⟩
theorem i0p:∀x y,C0 x y->C1 x y->∀z,D0 x y z->D1 x y z->∃x y,C0 x y/\C1 x y/\∃z,D0 x y z/\D1 x y z:=λx y m n z i j=>⟨x,y,m,n,z,i,j⟩
theorem i0q:∀x y z,D0 x y z->D1 x y z->D2 x y z->D3 x y z->∃x y z,D0 x y z/\D1 x y z/\D2 x y z/\D3 x y z:=λx y z m n i j=>⟨x,y,z,m,n,i,j⟩
theorem i0r:∀x,B0 x->∀y z,D0 x y z->D1 x y z->D2 x y z->D3 x y z->∃x,B0 x/\∃y z,D0 x y z/\D1 x y z/\D2 x y z/\D3 x y z:=λx m y z n i j k=>⟨x,m,y,z,n,i,j,k⟩
theorem i0s:∀x y,C0 x y->C1 x y->C2 x y->C3 x y->C4 x y->C5 x y->∃x y,C0 x y/\C1 x y/\C2 x y/\C3 x y/\C4 x y/\C5 x y:=λx y m n i j k l=>⟨x,y,m,n,i,j,k,l⟩
theorem i0t:∀x y z,D0 x y z->D1 x y z->D2 x y z->D3 x y z->D4 x y z->∃x y z,D0 x y z/\D1 x y z/\D2 x y z/\D3 x y z/\D4 x y z:=λx y z m n i j k=>⟨x,y,z,m,n,i,j,k⟩
theorem i0u:∀x y z u v w p,H0 x y z u v w p->∃x y z u v w p,H0 x y z u v w p:=λx y z u v w p m=>⟨x,y,z,u,v,w,p,m⟩
theorem i0v:∀x,B0 x->B1 x->∀y,C0 x y->C1 x y->C2 x y->∀z,D0 x y z->∃x,B0 x/\B1 x/\∃y,C0 x y/\C1 x y/\C2 x y/\∃z,D0 x y z:=λx m n y i j k z l=>⟨x,m,n,y,i,j,k,z,l⟩
theorem i0w:∀x,B0 x->∀y,C0 x y->∀z u,E0 x y z u->E1 x y z u->E2 x y z u->∃x,B0 x/\∃y,C0 x y/\∃z u,E0 x y z u/\E1 x y z u/\E2 x y z u:=λx m y n z u i j k=>⟨x,m,y,n,z,u,i,j,k⟩
theorem i0x:∀x,B0 x->∀y z u,E0 x y z u->E1 x y z u->E2 x y z u->E3 x y z u->∃x,B0 x/\∃y z u,E0 x y z u/\E1 x y z u/\E2 x y z u/\E3 x y z u:=λx m y z u n i j k=>⟨x,m,y,z,u,n,i,j,k⟩
theorem i0y:∀x y z u,E0 x y z u->E1 x y z u->E2 x y z u->E3 x y z u->E4 x y z u->∃x y z u,E0 x y z u/\E1 x y z u/\E2 x y z u/\E3 x y z u/\E4 x y z u:=λx y z u m n i j k=>⟨x,y,z,u,m,n,i,j,k⟩
theorem i0z:∀x,B0 x->∀y z u v,F0 x y z u v->F1 x y z u v->F2 x y z u v->F3 x y z u v->∃x,B0 x/\∃y z u v,F0 x y z u v/\F1 x y z u v/\F2 x y z u v/\F3 x y z u v:=λx m y z u v n i j k=>⟨x,m,y,z,u,v,n,i,j,k⟩
theorem i10:∀x y,C0 x y->C1 x y->C2 x y->∀z u,E0 x y z u->E1 x y z u->E2 x y z u->∃x y,C0 x y/\C1 x y/\C2 x y/\∃z u,E0 x y z u/\E1 x y z u/\E2 x y z u:=λx y m n i z u j k l=>⟨x,y,m,n,i,z,u,j,k,l⟩
theorem i11:∀x y z u,E0 x y z u->E1 x y z u->E2 x y z u->E3 x y z u->E4 x y z u->E5 x y z u->∃x y z u,E0 x y z u/\E1 x y z u/\E2 x y z u/\E3 x y z u/\E4 x y z u/\E5 x y z u:=λx y z u m n i j k l=>⟨x,y,z,u,m,n,i,j,k,l⟩
theorem i12:∀x,B0 x->∀y,C0 x y->∀z,D0 x y z->∀u v,F0 x y z u v->F1 x y z u v->F2 x y z u v->∃x,B0 x/\∃y,C0 x y/\∃z,D0 x y z/\∃u v,F0 x y z u v/\F1 x y z u v/\F2 x y z u v:=λx m y n z i u v j k l=>⟨x,m,y,n,z,i,u,v,j,k,l⟩
theorem i13:∀x,B0 x->∀y z u v,F0 x y z u v->F1 x y z u v->F2 x y z u v->F3 x y z u v->F4 x y z u v->∃x,B0 x/\∃y z u v,F0 x y z u v/\F1 x y z u v/\F2 x y z u v/\F3 x y z u v/\F4 x y z u v:=λx m y z u v n i j k l=>⟨x,m,y,z,u,v,n,i,j,k,l⟩
theorem i14:∀x y z u v,F0 x y z u v->F1 x y z u v->F2 x y z u v->F3 x y z u v->F4 x y z u v->F5 x y z u v->∃x y z u v,F0 x y z u v/\F1 x y z u v/\F2 x y z u v/\F3 x y z u v/\F4 x y z u v/\F5 x y z u v:=λx y z u v m n i j k l=>⟨x,y,z,u,v,m,n,i,j,k,l⟩
theorem i15:∀x,B0 x->∀y z u v,F0 x y z u v->F1 x y z u v->F2 x y z u v->F3 x y z u v->F4 x y z u v->F5 x y z u v->∃x,B0 x/\∃y z u v,F0 x y z u v/\F1 x y z u v/\F2 x y z u v/\F3 x y z u v/\F4 x y z u v/\F5 x y z u v:=λx m y z u v n i j k l o=>⟨x,m,y,z,u,v,n,i,j,k,l,o⟩
theorem i16:∀x,B0 x->∀y z u v,F0 x y z u v->F1 x y z u v->F2 x y z u v->∀w,G0 x y z u v w->G1 x y z u v w->∃x,B0 x/\∃y z u v,F0 x y z u v/\F1 x y z u v/\F2 x y z u v/\∃w,G0 x y z u v w/\G1 x y z u v w:=λx m y z u v n i j w k l=>⟨x,m,y,z,u,v,n,i,j,w,k,l⟩
theorem i17:∀x,B0 x->∀y,C0 x y->∀z u v w,G0 x y z u v w->G1 x y z u v w->G2 x y z u v w->G3 x y z u v w->G4 x y z u v w->∃x,B0 x/\∃y,C0 x y/\∃z u v w,G0 x y z u v w/\G1 x y z u v w/\G2 x y z u v w/\G3 x y z u v w/\G4 x y z u v w:=λx m y n z u v w i j k l o=>⟨x,m,y,n,z,u,v,w,i,j,k,l,o⟩
theorem i18:∀x,B0 x->∀y z u v w,G0 x y z u v w->G1 x y z u v w->G2 x y z u v w->G3 x y z u v w->G4 x y z u v w->G5 x y z u v w->∃x,B0 x/\∃y z u v w,G0 x y z u v w/\G1 x y z u v w/\G2 x y z u v w/\G3 x y z u v w/\G4 x y z u v w/\G5 x y z u v w:=λx m y z u v w n i j k l o=>⟨x,m,y,z,u,v,w,n,i,j,k,l,o⟩
theorem i19:∀x y,C0 x y->C1 x y->C2 x y->∀z u,E0 x y z u->∀v w,G0 x y z u v w->G1 x y z u v w->G2 x y z u v w->∃x y,C0 x y/\C1 x y/\C2 x y/\∃z u,E0 x y z u/\∃v w,G0 x y z u v w/\G1 x y z u v w/\G2 x y z u v w:=λx y m n i z u j v w k l o=>⟨x,y,m,n,i,z,u,j,v,w,k,l,o⟩
theorem i1a:∀x,B0 x->∀y,C0 x y->∀z u v w,G0 x y z u v w->G1 x y z u v w->G2 x y z u v w->G3 x y z u v w->G4 x y z u v w->G5 x y z u v w->∃x,B0 x/\∃y,C0 x y/\∃z u v w,G0 x y z u v w/\G1 x y z u v w/\G2 x y z u v w/\G3 x y z u v w/\G4 x y z u v w/\G5 x y z u v w:=λx m y n z u v w i j k l o m'=>⟨x,m,y,n,z,u,v,w,i,j,k,l,o,m'⟩
theorem i1b:∀x,B0 x->∀y z u v,F0 x y z u v->F1 x y z u v->F2 x y z u v->F3 x y z u v->F4 x y z u v->∀w,G0 x y z u v w->G1 x y z u v w->∃x,B0 x/\∃y z u v,F0 x y z u v/\F1 x y z u v/\F2 x y z u v/\F3 x y z u v/\F4 x y z u v/\∃w,G0 x y z u v w/\G1 x y z u v w:=λx m y z u v n i j k l w o m'=>⟨x,m,y,z,u,v,n,i,j,k,l,w,o,m'⟩
theorem i1c:∀x y z u v w,G0 x y z u v w->G1 x y z u v w->G2 x y z u v w->G3 x y z u v w->G4 x y z u v w->G5 x y z u v w->G6 x y z u v w->G7 x y z u v w->∃x y z u v w,G0 x y z u v w/\G1 x y z u v w/\G2 x y z u v w/\G3 x y z u v w/\G4 x y z u v w/\G5 x y z u v w/\G6 x y z u v w/\G7 x y z u v w:=λx y z u v w m n i j k l o m'=>⟨x,y,z,u,v,w,m,n,i,j,k,l,o,m'⟩
theorem i1d:∀x y z u v w p q,I0 x y z u v w p q->I1 x y z u v w p q->I2 x y z u v w p q->I3 x y z u v w p q->I4 x y z u v w p q->I5 x y z u v w p q->I6 x y z u v w p q->∃x y z u v w p q,I0 x y z u v w p q/\I1 x y z u v w p q/\I2 x y z u v w p q/\I3 x y z u v w p q/\I4 x y z u v w p q/\I5 x y z u v w p q/\I6 x y z u v w p q:=λx y z u v w p q m n i j k l o=>⟨x,y,z,u,v,w,p,q,m,n,i,j,k,l,o⟩
theorem e09 (h:∃x y z u v,F0 x y z u v) (f:∀x y z u v,F0 x y z u v->G):G:=by
 obtain ⟨x,y,z,u,v,m⟩:=h;exact f x y z u v m
theorem e0a (h:∃x y z,D0 x y z/\D1 x y z/\D2 x y z/\D3 x y z) (f:∀x y z,D0 x y z->D1 x y z->D2 x y z->D3 x y z->G):G:=by
 obtain ⟨x,y,z,m,n,i,j⟩:=h;exact f x y z m n i j
theorem e0c (h:∃x y,C0 x y/\C1 x y/\∃z u v,F0 x y z u v) (f:∀x y,C0 x y->C1 x y->∀z u v,F0 x y z u v->G):G:=by
 obtain ⟨x,y,m,n,z,u,v,i⟩:=h;exact f x y m n z u v i
theorem e0e (h:∃x y z u,E0 x y z u/\E1 x y z u/\E2 x y z u/\E3 x y z u/\E4 x y z u) (f:∀x y z u,E0 x y z u->E1 x y z u->E2 x y z u->E3 x y z u->E4 x y z u->G):G:=by
 obtain ⟨x,y,z,u,m,n,i,j,k⟩:=h;exact f x y z u m n i j k
theorem e0g (h:∃x y z u v w p q r,J0 x y z u v w p q r) (f:∀x y z u v w p q r,J0 x y z u v w p q r->G):G:=by
 obtain ⟨x,y,z,u,v,w,p,q,r,m⟩:=h;exact f x y z u v w p q r m
end
namespace L2
open PySem PySem.Spec PyProof.Rows
abbrev Key:=Sum Int Str
def B9m:Key->Value->Bool
 | .inl k,v=>Value.isInt k v
 | .inr x,v=>Value.isStrOf x v
def keyH (w:World):Key->Int
 | .inl k=>hashInt k
 | .inr x=>hashStr w x
theorem A2z:∀{k:Key} {v:Value},B9m k v=true->(∃i t,k=Sum.inl i/\v=Value.int i t)\/(∃x t,k=Sum.inr x/\v=Value.str x t)
 | .inl i,v,h=>by
  obtain ⟨t,e⟩:=Value.isInt_shape (k:=i) (v:=v) h;exact .inl (i07 i t rfl e)
 | .inr x,v,h=>by
  obtain ⟨t,e⟩:=Value.isStrOf_shape (x:=x) (v:=v) h;exact .inr (i07 x t rfl e)
theorem C6h (i:Int) (t:Tok):B9m (.inl i) (.int i t)=true:=by simp [B9m,Value.isInt]
theorem C7f (x:Str) (t:Tok):B9m (.inr x) (.str x t)=true:=by simp [B9m,Value.isStrOf]
theorem D8l (a b:Int):decide ((Sum.inl a:Key)=Sum.inl b)=(a == b):=by
 by_cases e:a=b
 ·subst e;simp
 ·have h:¬(Sum.inl a:Key)=Sum.inl b:=λq=>e (Sum.inl.inj q);rw [Z1j h];exact (Z22.mpr e).symm
theorem D8p (a b:Str):decide ((Sum.inr a:Key)=Sum.inr b)=decide (a=b):=by
 by_cases e:a=b
 ·subst e;simp
 ·have h:¬(Sum.inr a:Key)=Sum.inr b:=λq=>e (Sum.inr.inj q);rw [Z1j h,Z1j e]
theorem D7d (a:Int) (b:Str):decide ((Sum.inl a:Key)=Sum.inr b)=false:=Z1j (λq=>nomatch q)
theorem D5z (a:Str) (b:Int):decide ((Sum.inr a:Key)=Sum.inl b)=false:=Z1j (λq=>nomatch q)
def A2f (prog:Program) (w:World):PySem.KeyKind prog w Key where
 is:=B9m
 hash:=keyH w
 inj:=λv a b ha hb=>by
  rcases A2z ha with ⟨i,t,rfl,rfl⟩ | ⟨x,t,rfl,rfl⟩
  ·rcases A2z hb with ⟨j,u,rfl,e⟩ | ⟨y,u,rfl,e⟩
   ·injection e with e1 _;rw [e1]
   ·exact nomatch e
  ·rcases A2z hb with ⟨j,u,rfl,e⟩ | ⟨y,u,rfl,e⟩
   ·exact nomatch e
   ·injection e with e1 _;rw [e1]
 byValue:=λk v h=>by
  rcases A2z h with ⟨i,t,rfl,rfl⟩ | ⟨x,t,rfl,rfl⟩ <;> rfl
 pyHash:=λhv h=>by
  rcases A2z hv with ⟨i,t,rfl,rfl⟩ | ⟨x,t,rfl,rfl⟩
  ·exact wpAny_pyHash_int h
  ·exact wpAny_pyHash_str h
 eqBool:=λhu hv h=>by
  rcases A2z hu with ⟨i,t,rfl,rfl⟩ | ⟨x,t,rfl,rfl⟩
  ·rcases A2z hv with ⟨j,u,rfl,rfl⟩ | ⟨y,u,rfl,rfl⟩
   ·rw [D8l] at h;exact wpAny_eqBool_int h
   ·rw [D7d] at h;exact SeqAt.EqAt.int_str i t y u _ _ _ _ h
  ·rcases A2z hv with ⟨j,u,rfl,rfl⟩ | ⟨y,u,rfl,rfl⟩
   ·rw [D5z] at h;exact SeqAt.EqAt.str_int x t j u _ _ _ _ h
   ·rw [D8p] at h;exact wpAny_eqBool_str h
 «strs»:=λk x t v h=>by
  rcases A2z h with ⟨i,u,rfl,e⟩ | ⟨y,u,rfl,e⟩
  ·exact nomatch e
  ·injection e with e1 _;subst e1;cases v <;> rfl
theorem B9i (prog:Program) (w:World) (i:Int) (t:Tok):(A2f prog w).is (.inl i) (.int i t)=true:=C6h i t
theorem C0u (prog:Program) (w:World) (x:Str) (t:Tok):(A2f prog w).is (.inr x) (.str x t)=true:=C7f x t
inductive V where
 | non | bl (b:Bool) | int (i:Int) | str (x:Str) | byt (b:Array UInt8) | flt (b:UInt64) | ref (a:Addr) | ty (n:String)
 deriving DecidableEq
def A3i:V->Value->Prop
 | .non,u=>u=Value.none
 | .bl b,u=>u=Value.bool b
 | .int i,u=>∃t,u=Value.int i t
 | .str x,u=>∃t,u=Value.str x t
 | .byt b,u=>∃t,u=Value.bytes b t
 | .flt b,u=>∃t,u=Value.float b t
 | .ref a,u=>u=Value.ref a
 | .ty n,u=>u=Value.type n
abbrev A3y:List V->List Value->Prop:=Paired A3i
theorem A3y.length {xs:List V} {us:List Value} (r:A3y xs us):xs.length=us.length:=Paired.length r
theorem A3y.get:∀{xs:List V} {us:List Value} {i:Nat} {x:V},A3y xs us->xs[i]? =some x->∃u,us[i]? =some u/\A3i x u
 | _,_,_,_,.nil,e=>by simp at e
 | _,_,0,_,.cons r _,e=>by simp at e;subst e;exact i02 _ rfl r
 | _,_,i+1,x,.cons _ t,e=>by
  obtain ⟨u,h1,h2⟩:=A3y.get (i:=i) (x:=x) t (by simpa using e);exact i02 u (by simpa using h1) h2
theorem A3y.append:∀{xs ys:List V} {us ws:List Value},A3y xs us->A3y ys ws->A3y (xs++ys) (us++ws)
 | _,_,_,_,.nil,s=>s
 | _,_,_,_,.cons r t,s=> .cons r (A3y.append t s)
theorem A3y.take:∀{xs:List V} {us:List Value} (n:Nat),A3y xs us->A3y (xs.take n) (us.take n)
 | _,_,0,_=> .nil
 | _,_,_+1,.nil=> .nil
 | _,_,n+1,.cons r t=> .cons r (A3y.take n t)
theorem A3y.drop:∀{xs:List V} {us:List Value} (n:Nat),A3y xs us->A3y (xs.drop n) (us.drop n)
 | _,_,0,r=>r
 | _,_,_+1,.nil=> .nil
 | _,_,n+1,.cons _ t=>A3y.drop n t
def B6p:Option V->Option Value->Prop
 | some v,some u=>A3i v u
 | none,none=>True
 | _,_=>False
def KV {κ:Type}:List (κ×V)->List (κ×Value)->Prop:=Paired λ(p:κ×V) (q:κ×Value)=>p.1=q.1/\A3i p.2 q.2
def kV:Key->V
 | .inl i=> .int i
 | .inr x=> .str x
inductive HO where
 | lst (xs:List V)
 | tup (xs:List V)
 | dK (kvs:List (Key×V)) | dT (kvs:List (List Key×V))
 | set (S:Int->Bool) (n:Nat)
 | ins (C dx:Addr) (fs:List (Str×V))
 | own (x:Addr)
 | xd (fs:List (Str×V))
 | met (f x:Addr)
 | rng (lo hi:Int)
 | frz (o:Obj) (u:HO)
 | tbl (ps:Array Value)
 | ext (φ:Heap->Prop)
abbrev Hp:=Addr->Option HO
def upd (H:Hp) (a:Addr) (o:HO):Hp:=λb=>if b=a then some o else H b
theorem A0b {H:Hp} {a:Addr} {o:HO}:upd H a o a=some o:=by unfold upd;rw [Z12 rfl]
theorem A0k {H:Hp} {a b:Addr} {o:HO} (h:b≠a):upd H a o b=H b:=by unfold upd;rw [Z0t h]
theorem A5q {H:Hp} {a:Addr} {o u:HO}:upd (upd H a o) a u=upd H a u:=by
 funext b;unfold upd;split <;> rfl
theorem A3p {H:Hp} {a b:Addr} {o u:HO} (h:H a=some o) (h':H b=some u) (d:o≠u):a≠b:=by
 intro e;subst e;rw [h] at h';exact d (Z1a h')
theorem A1e {H:Hp} {a b:Addr} {o:HO} (h:H a=some o) (h':H b=none):a≠b:=by
 intro e;subst e;rw [h] at h';cases h'
section
variable (P:Program) (w:World)
def A2u (H:Hp) (h:Heap) (a:Addr):HO->Prop
 | .lst xs=>xs.length<=sizeLine/\∃(its:List Value) (n:Nat),A3y xs its/\h.get? a=some { cls:= .type "list",data:= .seq its.toArray n }
 | .tup xs=>xs.length<=sizeLine/\∃its:List Value,A3y xs its/\IsTup h a its.toArray
 | .dK kvs=>kvs.length<=sizeLine/\(a == sysModules)=false/\∃vs,KV kvs vs/\h.DictOf (A2f P w) a vs
 | .dT kvs=>kvs.length<=sizeLine/\(a == sysModules)=false/\∃xs:List (List Key×Addr×Value),
   Paired (λ(p:List Key×V) (q:List Key×Addr×Value)=>p.1=q.1/\H q.2.1=some (.tup (p.1.map kV))/\A3i p.2 q.2.2) kvs xs/\
   ∃o es ep,h.get? a=some o/\o.ExactDict/\o.data= .dict es ep/\es.toList=xs.map (entryOfKey (tupleKind (A2f P w)))/\(xs.map (·.1)).Nodup
 | .set S n=>h.SetOf (intKind P w) a S n
 | .ins C dx fs=>H dx=some (.own a)/\fs.length<=1000/\dx≠a/\h.get? a=some (instObj C dx)/\
   ∃mA,h.Ns1 dx mA/\(∀f,B6p (fs.lookup f) (mA f))/\PySem.Within mA (fs.map (·.1))
 | .own _=>∃o,h.get? a=some o
 | .xd fs=>∃mA,h.Ns1 a mA/\∀f,B6p (fs.lookup f) (mA f)
 | .rng lo hi=>∃t u v,h.get? a=some { cls:= .type "range",data:= .fields #[.int lo t,.int hi u,.int 1 v] }
 | .frz o u=>h.get? a=some o/\A2u H h a u
 | .tbl ps=>h.get? a=some { cls:= .none,data:= .fields ps }
 | .met f x=>h.get? a=some (PySem.W.methodObj (.ref f) (.ref x))
 | .ext φ=>φ h/\(∃o,h.get? a=some o)/\∀h1 h2:Heap,φ h1->(∀o,h1.get? a=some o->h2.get? a=some o)->φ h2
def HOk (H:Hp) (h:Heap):Prop:=∀a o,H a=some o->A2u P w H h a o
end
section
variable {P:Program} {w:World} {H H':Hp} {h h':Heap} {a:Addr} {o:HO}
theorem A2u.lt (x:A2u P w H h a o):a<h.objs.size:=by
 cases o with
 | lst xs=>obtain ⟨_,_,_,_,e⟩:=x;exact Z0a e
 | tup xs=>obtain ⟨_,_,_,p⟩:=x;exact p.lt
 | dK kvs=>obtain ⟨_,_,_,_,o,_,_,e,_⟩:=x;exact Z0a e
 | dT kvs=>obtain ⟨_,_,_,_,o,_,_,e,_⟩:=x;exact Z0a e
 | set S n=>obtain ⟨o,_,_,_,e,_⟩:=x;exact Z0a e
 | ins C dx fs=>obtain ⟨_,_,_,e,_⟩:=x;exact Z0a e
 | own y=>obtain ⟨_,e⟩:=x;exact Z0a e
 | xd fs=>obtain ⟨_,⟨_,_,_,e,_⟩,_⟩:=x;exact Z0a e
 | rng lo hi=>obtain ⟨_,_,_,e⟩:=x;exact Z0a e
 | frz ob u=>obtain ⟨e,_⟩:=x;exact Z0a e
 | tbl ps=>exact Z0a (show h.get? a=some _ from x)
 | met f y=>exact Z0a (show h.get? a=some _ from x)
 | ext φ=>obtain ⟨_,⟨_,e⟩,_⟩:=x;exact Z0a e
theorem Paired.mapP {α β:Type} {F G:α->β->Prop}:∀{l₁:List α} {l₂:List β},Paired F l₁ l₂->(∀a b,F a b->G a b)->Paired G l₁ l₂
 | _,_,.nil,_=> .nil
 | _,_,.cons r t,f=> .cons (f _ _ r) (Paired.mapP t f)
theorem A2u.stay (x:A2u P w H h a o) (k:∀b u,(b=a\/H b=some (.own a))->h.get? b=some u->h'.get? b=some u)
  (ho:∀b,H b=some (.own a)->H' b=some (.own a)) (ht:∀b xs,H b=some (.tup xs)->H' b=some (.tup xs)):A2u P w H' h' a o:=by
 induction o with
 | lst xs=>obtain ⟨z,its,n,r,e⟩:=x;exact i0b z its n r (k _ _ (.inl rfl) e)
 | tup xs=>obtain ⟨z,its,r,ob,e,c⟩:=x;exact ⟨z,(i0e its r ob (k _ _ (.inl rfl) e) c)⟩
 | dK kvs=>obtain ⟨z,y,vs,r,ob,es,ep,e,c⟩:=x;exact i0a z y vs r (i0g ob es ep (k _ _ (.inl rfl) e) c)
 | dT kvs =>
  obtain ⟨z,y,xs,r,ob,es,ep,e,c⟩:=x;exact i0a z y xs (Paired.mapP r λp q z=>(i00 z.1 (ht _ _ z.2.1) z.2.2)) (i0g ob es ep (k _ _ (.inl rfl) e) c)
 | set S n=>obtain ⟨ob,es,ep,t,e,c⟩:=x;exact ⟨ob,(i0g es ep t (k _ _ (.inl rfl) e) c)⟩
 | ins C dx fs =>
  obtain ⟨d,z,ne,e,mA,⟨od,es,ep,e2,c⟩,r⟩:=x;exact i00 (ho _ d) z (i0a ne (k _ _ (.inl rfl) e) mA (i0g od es ep (k _ _ (.inr d) e2) c) r)
 | own y=>obtain ⟨ob,e⟩:=x;exact ⟨ob,k _ _ (.inl rfl) e⟩
 | xd fs=>obtain ⟨mA,⟨od,es,ep,e,c⟩,r⟩:=x;exact i02 mA (i0g od es ep (k _ _ (.inl rfl) e) c) r
 | rng lo hi=>obtain ⟨t,u,v,e⟩:=x;exact i08 t u v (k _ _ (.inl rfl) e)
 | frz ob u ih=>obtain ⟨e,q⟩:=x;exact ⟨k _ _ (.inl rfl) e,ih q⟩
 | tbl ps =>
  have e:h.get? a=some { cls:= .none,data:= .fields ps }:=x;show h'.get? a=some { cls:= .none,data:= .fields ps };exact k a _ (.inl rfl) e
 | met f y =>
  have e:h.get? a=some (PySem.W.methodObj (.ref f) (.ref y)):=x;show h'.get? a=some (PySem.W.methodObj (.ref f) (.ref y));exact k a _ (.inl rfl) e
 | ext φ=>obtain ⟨p,⟨o,e⟩,st⟩:=x;exact i00 (st _ _ p λo q=>k _ _ (.inl rfl) q) ⟨o,k _ _ (.inl rfl) e⟩ st
theorem HOk.lt (x:HOk P w H h) (e:H a=some o):a<h.objs.size:=(x a o e).lt
theorem HOk.fresh (x:HOk P w H h) (e:h.objs.size<=a):H a=none:=by
 cases q:H a with
 | none=>rfl
 | some u=>exact absurd (Z0q (x.lt q) e) (Nat.lt_irrefl _)
theorem HOk.kept (x:HOk P w H h) (k:∀b u,h.get? b=some u->h'.get? b=some u):HOk P w H h':=λa o e =>
 (x a o e).stay (λb u _ q=>k b u q) (λ_ q=>q) λ_ _ q=>q
theorem HOk.laid (x:HOk P w H h) (k:∀b u,h.get? b=some u->h'.get? b=some u) (hp:h.objs.size<=a) (new:A2u P w (upd H a o) h' a o):HOk P w (upd H a o) h':=λb u e=>by
 have hn:=x.fresh hp;by_cases hb:b=a
 ·subst hb;rw [A0b] at e;cases e;exact new
 ·rw [A0k hb] at e;exact (x b u e).stay (λc v _ q=>k c v q) (λc q=>by rw [A0k (A1e q hn)];exact q) λc xs q=>by rw [A0k (A1e q hn)];exact q
end
def Rd (H:Hp) (a:Addr) (u:HO):Prop:=H a=some u\/∃o,H a=some (.frz o u)
theorem Rd.ok {P:Program} {w:World} {H:Hp} {h:Heap} {a:Addr} {u:HO} (r:Rd H a u) (x:HOk P w H h):A2u P w H h a u:=by
 rcases r with r | ⟨o,r⟩
 ·exact x a u r
 ·obtain ⟨_,q⟩:=x a _ r;exact q
def Mut:Option HO->Prop
 | some (.lst _)=>True
 | some (.dK _)=>True
 | some (.dT _)=>True
 | some (.set _ _)=>True
 | some (.ins _ _ _)=>True
 | some (.ext _)=>True
 | _=>False
section
variable {P:Program} {w:World} {H:Hp} {h h':Heap} {x e:Addr} {o':HO}
theorem HOk.write (ok:HOk P w H h) (mu:Mut (H x)) (he:e=x\/H e=some (.own x)) (k:∀b u,b≠e->h.get? b=some u->h'.get? b=some u) (heo:∃u,h'.get? e=some u)
  (new:A2u P w (upd H x o') h' x o'):HOk P w (upd H x o') h':=λb u q=>by
 have nown:∀c y,H c=some (.own y)->c≠x:=λc y r z=>by subst z;rw [r] at mu;exact mu
 have ntup:∀c xs,H c=some (.tup xs)->c≠x:=λc xs r z=>by subst z;rw [r] at mu;exact mu
 by_cases hb:b=x
 ·subst hb;rw [A0b] at q;cases q;exact new
 ·rw [A0k hb] at q;by_cases hbe:b=e
  ·have q':H b=some (.own x):=by
    rcases he with z | z
    ·exact absurd (hbe.trans z) hb
    ·rw [hbe];exact z
   rw [q] at q';cases q';obtain ⟨v,hv⟩:=heo;exact ⟨v,by rw [hbe];exact hv⟩
  ·refine (ok b u q).stay (λc v hc r=>k c v ?_ r) (λc r=>by rw [A0k (nown c b r)];exact r) λc xs r=>by rw [A0k (ntup c xs r)];exact r
   rcases hc with rfl | hc
   ·exact hbe
   ·rintro rfl;rcases he with z | z
    ·exact nown c b hc z
    ·rw [hc] at z;cases z;exact hb rfl
end
structure Un (fs ex:List Addr) (H H':Hp) (h h':Heap):Prop where
 keep:∀b o,h.get? b=some o->H b=none->b∉fs->b∉ex->h'.get? b=some o
 slot:∀b o,h.get? b=some o->H b=none->b∈fs->b∉ex->∃sl,h'.get? b=some { o with slots:=sl }
 free:∀b o,h.get? b=some o->H b=none->b∉ex->H' b=none
 there:∀b o,h.get? b=some o->b∉ex->∃o',h'.get? b=some o'
 tups:∀b xs,H b=some (.tup xs)->H' b=some (.tup xs)
 frzs:∀b o u,H b=some (.frz o u)->H' b=some (.frz o u)
 tbls:∀b ps,H b=some (.tbl ps)->∃more,H' b=some (.tbl (ps++more))
section
variable {fs fs' ex ex':List Addr} {H H1 H2:Hp} {h h1 h2 h':Heap} {a x e:Addr} {o:HO}
theorem Un.any (u:Un fs ex H H1 h h1) {b:Addr} {ob:Obj} (q:h.get? b=some ob) (n:H b=none) (hx:b∉ex):∃sl,h1.get? b=some { ob with slots:=sl }:=by
 by_cases hb:b∈fs
 ·exact u.slot b ob q n hb hx
 ·exact ⟨ob.slots,u.keep b ob q n hb hx⟩
theorem Un.kept (k:∀b u,h.get? b=some u->h'.get? b=some u):Un fs ex H H h h' :=
 ⟨λb ob q _ _ _=>k b ob q,λb ob q _ _ _=>⟨ob.slots,k b ob q⟩,λ_ _ _ n _=>n,λb ob q _=>⟨ob,k b ob q⟩,λ_ _ q=>q,λ_ _ _ q=>q,λ_ ps q=>⟨#[],by rw [q];simp⟩⟩
theorem Un.refl:Un fs ex H H h h:=Un.kept λ_ _ q=>q
theorem Un.laid (k:∀b u,h.get? b=some u->h'.get? b=some u) (hp:h.objs.size<=a) (hn:H a=none):Un fs ex H (upd H a o) h h' where
 keep:=λb u q _ _ _=>k b u q
 slot:=λb u q _ _ _=>⟨u.slots,k b u q⟩
 free:=λb u q n _=>by rw [A0k (Z0h (Z0q (Z0a q) hp))];exact n
 there:=λb u q _=>⟨u,k b u q⟩
 tups:=λb xs q=>by rw [A0k (A1e q hn)];exact q
 frzs:=λb u xs q=>by rw [A0k (A1e q hn)];exact q
 tbls:=λb ps q=>⟨#[],by rw [A0k (A1e q hn),q];simp⟩
theorem Un.write (mu:Mut (H x)) (he:e=x\/H e=some (.own x)) (k:∀b u,b≠e->h.get? b=some u->h'.get? b=some u) (heo:∃u,h'.get? e=some u):Un fs ex H (upd H x o) h h':=by
 have hx:∀b,H b=none->b≠x:=λb n z=>by subst z;rw [n] at mu;exact mu
 have hb:∀b,H b=none->b≠e:=λb n z=>by
  subst z;rcases he with r | r
  ·exact hx b n r
  ·rw [n] at r;cases r
 have hm:∀b u,H b=some u->¬Mut (some u)->b≠x:=λb u q nm z=>by subst z;rw [q] at mu;exact nm mu
 refine ⟨λb u q n _ _=>k b u (hb b n) q,λb u q n _ _=>⟨u.slots,k b u (hb b n) q⟩,λb u q n _=>by rw [A0k (hx b n)];exact n,λb u q _=> ?_,
  λb xs q=>by rw [A0k (hm b _ q λz=>z)];exact q,λb u xs q=>by rw [A0k (hm b _ q λz=>z)];exact q,λb ps q=>⟨#[],by rw [A0k (hm b _ q λz=>z),q];simp⟩⟩
 by_cases hbe:b=e
 ·subst hbe;exact heo
 ·exact ⟨u,k b u hbe q⟩
end
def trk (h:Heap) (H:Hp):List Addr:=(List.range h.objs.size).filter λa=>(H a).isSome
def D0h (h:Heap) (H:Hp):Heap:=hideAll h (trk h H)
theorem C6j (h:Heap) (H:Hp):(D0h h H).objs.size=h.objs.size:=PySem.W.hideAll_size _ _
theorem C9k {h:Heap} {H:Hp} {b:Addr} {o:Obj} (e:h.get? b=some o) (n:H b=none):(D0h h H).get? b=some o :=
 PySem.W.hideAll_get _ e λhm=>by
  have q:(H b).isSome=true:=(List.mem_filter.mp hm).2;rw [n] at q;simp at q
theorem D4t {h:Heap} {H:Hp} {b:Addr} {o:Obj} (e:(D0h h H).get? b=some o):h.get? b=some o/\H b=none:=by
 have e':h.get? b=some o:=PySem.W.of_hideAll (trk h H) e;refine ⟨e',?_⟩
 cases q:H b with
 | none=>rfl
 | some x =>
  have hm:b∈trk h H:=List.mem_filter.mpr ⟨List.mem_range.mpr (Z0a e'),by simp [q]⟩;have z:(D0h h H).get? b=none:=PySem.W.hideAll_none (trk h H) hm;rw [z] at e;cases e
structure Mod (K:Frag) (mg:Str->Option Value) (base:Heap):Prop where
 kin:K.In base
 glob:base.Ns mainGlobals mg
 blt:∃mb,base.Ns builtinsNs mb/\∀x:Str,x≠"__name__"->mb x=bootBuiltins x
 nolimit:base.NoLimit
structure Cx where
 prog:Program
 w:World
 K:Frag
 mg:Str->Option Value
 base:Heap
 A:Around
 N:List Str
 s₀:Shared
 H₀:Hp
 env:Env
 outer:List Env
 stack:List Env
 ex:List Addr
 fn:Str->Bool
 calm:Bool
 pn:List (Addr×Obj)
 xe:Value->Shared->Prop
def frs (l:List Env):List Addr:=l.filterMap (·.frame)
abbrev Cx.fs (X:Cx):List Addr:=frs X.outer
def Vis (sc:Scope) (x:Str):Prop:=sc.names.lookup x=some .local\/sc.names.lookup x=some .cell\/sc.names.lookup x=some .free
def Loc (sc:Scope) (x:Str):Prop:=sc.names.lookup x=some .local\/sc.names.lookup x=some .cell
def Look (env:Env) (h:Heap) (m:Str->Option Value) (x:Str) (u:Value):Prop :=
 (env.kindOf x=some .local/\m x=some u)\/((env.kindOf x=some .cell\/env.kindOf x=some .free)/\∃c,env.cells.lookup x=some c/\h.IsCell c (some u))
structure Cx.Ok (X:Cx):Prop where
 mod:Mod X.K X.mg X.base
 kind:X.env.scope.kind= .function
 glob:X.env.globals=mainGlobals
 blt:X.env.builtins=builtinsNs
 above:X.s₀.heap.objs.size<=X.env.locals
 inj:∀x y c,X.env.cells.lookup x=some c->X.env.cells.lookup y=some c->x=y
 has:∀x,(X.env.kindOf x=some .cell\/X.env.kindOf x=some .free)->∃c,X.env.cells.lookup x=some c
 cab:∀x c,X.fn x=true->X.env.cells.lookup x=some c->X.s₀.heap.objs.size<=c
 hd:X.calm=true->X.A.handled=none
 frames:X.A.frames=some X.stack
 stk:X.stack=X.outer\/(X.stack=X.env::X.outer/\X.env.frame=some X.env.locals)
 exf:∀b∈X.ex,b≠X.env.locals/\∀x c,X.env.cells.lookup x=some c->c≠b
 bs:∀b o,X.base.get? b=some o->X.s₀.heap.get? b=some o/\X.H₀ b=none
 bsz:X.base.objs.size<=X.s₀.heap.objs.size
 noex:∀b o,X.base.get? b=some o->b∉X.ex
 exfs:∀b∈X.ex,b∉X.fs
 funs:X.s₀.heap.FunFrames X.base X.outer
 frf:∀b∈X.fs,X.H₀ b=none
structure Inv (X:Cx) (pins:List (Addr×Obj)) (Z:List (Option V)) (H:Hp) (s:Shared):Prop where
 ok:X.Ok
 os:s.os=X.s₀.os
 bare:AllBare s.gens
 base:Un X.fs X.ex X.H₀ H X.s₀.heap s.heap
 loc:∃m,s.heap.Ns X.env.locals m/\∀(i:Nat) (x:Str) (v:V),X.N[i]? =some x->Z[i]? =some (some v)->Vis X.env.scope x->∃u,A3i v u/\Look X.env s.heap m x u
 cell:∀x c,X.env.cells.lookup x=some c->∃v,s.heap.IsCell c v
 free:H X.env.locals=none
 freeC:∀x c,X.env.cells.lookup x=some c->H c=none
 pin:∀p∈X.pn++pins,s.heap.get? p.1=some p.2/\H p.1=none/\p.1≠X.env.locals/\p.1∉X.fs/\∀v,p.2.data≠.cell v
 hok:HOk X.prog X.w H s.heap
 len:Z.length=X.N.length
section
variable {X:Cx} {pins:List (Addr×Obj)} {Z:List (Option V)} {H H':Hp} {s:Shared} {h':Heap}
theorem Cx.Ok.nofr (ok:X.Ok) {b:Addr} {o:Obj} (e:X.base.get? b=some o):b∉X.fs:=λhb=>by
 have:=(ok.funs.mem hb).1;rw [e] at this;cases this
theorem Inv.bs (I:Inv X pins Z H s):∀b o,X.base.get? b=some o->s.heap.get? b=some o/\H b=none:=λb o e =>
 ⟨I.base.keep b o (I.ok.bs b o e).1 (I.ok.bs b o e).2 (I.ok.nofr e) (I.ok.noex b o e),I.base.free b o (I.ok.bs b o e).1 (I.ok.bs b o e).2 (I.ok.noex b o e)⟩
theorem Inv.bk (I:Inv X pins Z H s):∀b o,X.base.get? b=some o->s.heap.get? b=some o:=λb o e=>(I.bs b o e).1
theorem Inv.mod (I:Inv X pins Z H s):Mod X.K X.mg X.base:=I.ok.mod
theorem Inv.kIn (I:Inv X pins Z H s):X.K.In s.heap:=I.ok.mod.kin.keeps I.bk
theorem Inv.lt (I:Inv X pins Z H s):X.env.locals<s.heap.objs.size:=let ⟨_,hn,_⟩:=I.loc;hn.lt
theorem Inv.sz (I:Inv X pins Z H s):X.s₀.heap.objs.size<=s.heap.objs.size:=Z1n I.ok.above (Nat.le_of_lt I.lt)
theorem Inv.nofs (I:Inv X pins Z H s) {a:Addr} (h:s.heap.objs.size<=a):a∉X.fs:=λhb=>by
 obtain ⟨_,o,ho,_⟩:=I.ok.funs.mem hb;exact absurd (Z0q (Z0a ho) (Z1n I.sz h)) (Nat.lt_irrefl _)
theorem Inv.cne (I:Inv X pins Z H s):∀x c,X.env.cells.lookup x=some c->c≠X.env.locals:=λx c e z=>by
 obtain ⟨v,o,ho,hd⟩:=I.cell x c e;obtain ⟨m,⟨o',es,ep,ho',hd',_⟩,_⟩:=I.loc;rw [z,ho'] at ho;cases ho;rw [hd'] at hd;cases hd
theorem Inv.funs (I:Inv X pins Z H s):s.heap.FunFrames X.base X.outer:=by
 have all:∀(l:List Env),(∀b∈frs l,b∈X.fs)->X.s₀.heap.FunFrames X.base l->s.heap.FunFrames X.base l:=by
  intro l
  induction l with
  | nil=>intro _ _;trivial
  | cons env r ih =>
   intro hs hl;obtain ⟨hk,⟨L,o,hf,hn,ho,hd⟩,hr⟩:=hl;have hL:L∈X.fs:=hs L (by unfold frs;rw [List.filterMap_cons,hf];exact Z27);obtain ⟨sl,e⟩:=I.base.slot L o ho (I.ok.frf L hL) hL λz=>I.ok.exfs L z hL;exact i00 hk (i0l L _ hf hn e hd) (ih (λb hb=>hs b (by unfold frs;rw [List.filterMap_cons,hf];exact Z1f _ hb)) hr)
 exact all X.outer (λ_ hb=>hb) I.ok.funs
theorem Inv.stack (I:Inv X pins Z H s):s.heap.FunFrames X.base X.stack:=by
 rcases I.ok.stk with e | ⟨e,hf⟩
 ·rw [e];exact I.funs
 ·rw [e];obtain ⟨m,hn,_⟩:=I.loc;refine .cons (by rw [I.ok.kind];decide) hf hn ?_ I.funs;exact Heap.get?_none_of_le (Z1n I.ok.bsz I.ok.above)
theorem Inv.stkSub (I:Inv X pins Z H s):∀b∈frs X.stack,b∈X.env.locals::X.fs:=λb hb=>by
 rcases I.ok.stk with e | ⟨e,hf⟩
 ·rw [e] at hb;exact Z1f _ hb
 ·rw [e] at hb;unfold frs at hb;rw [List.filterMap_cons,hf] at hb;exact hb
theorem Inv.stkFree (I:Inv X pins Z H s):∀b∈frs X.stack,H b=none:=λb hb=>by
 rcases Z0e.mp (I.stkSub b hb) with e | hb
 ·rw [e];exact I.free
 ·obtain ⟨_,o,ho,_⟩:=I.ok.funs.mem hb;exact I.base.free b o ho (I.ok.frf b hb) λz=>I.ok.exfs b z hb
theorem Inv.step {g':Array GenState} {t':Nat} {d':Drawn} {ch:List Addr} (I:Inv X pins Z H s)
  (hch:∀b∈ch,(b∈X.ex\/X.s₀.heap.objs.size<=b)/\b≠X.env.locals/\(∀x c,X.env.cells.lookup x=some c->c≠b)/\∀p∈X.pn++pins,p.1≠b)
  (keep:∀b o,b≠X.env.locals->b∉X.fs->b∉ch->s.heap.get? b=some o->H b=none->h'.get? b=some o)
  (slot:∀b o,b≠X.env.locals->b∈X.fs->b∉ch->s.heap.get? b=some o->H b=none->∃sl,h'.get? b=some { o with slots:=sl }) (free:∀b o,b∉ch->s.heap.get? b=some o->H b=none->H' b=none)
  (there:∀b o,b∉ch->s.heap.get? b=some o->∃o',h'.get? b=some o')
  (tups:∀b xs,H b=some (.tup xs)->H' b=some (.tup xs)) (frzs:∀b o u,H b=some (.frz o u)->H' b=some (.frz o u)) (tbls:∀b ps,H b=some (.tbl ps)->∃more,H' b=some (.tbl (ps++more)))
  (ns:∀m,s.heap.Ns X.env.locals m->h'.Ns X.env.locals m) (hok:HOk X.prog X.w H' h') (hg:AllBare g') :
  Inv X pins Z H' { s with heap:=h',gens:=g',drawn:=d',toks:=t' }:=by
 have neL:∀b o,X.s₀.heap.get? b=some o->b≠X.env.locals:=λb o e=>Z0h (Z0q (Z0a e) I.ok.above)
 have neC:∀b o,X.s₀.heap.get? b=some o->b∉X.ex->b∉ch:=λb o e hx hb=>by
  rcases (hch b hb).1 with z | z
  ·exact hx z
  ·exact absurd (Z0q (Z0a e) z) (Nat.lt_irrefl _)
 have cellK:∀x c,X.env.cells.lookup x=some c->∀v,s.heap.IsCell c v->h'.IsCell c v:=λx c e v ⟨o,ho,hd⟩=>by
  have nch:c∉ch:=λz=>(hch c z).2.2.1 x c e rfl;by_cases hc:c∈X.fs
  ·obtain ⟨sl,q⟩:=slot c o (I.cne x c e) hc nch ho (I.freeC x c e);exact i02 _ q hd
  ·exact i02 o (keep c o (I.cne x c e) hc nch ho (I.freeC x c e)) hd
 refine ⟨I.ok,I.os,hg,⟨λb o e n hb hx=> ?_,λb o e n hb hx=> ?_,λb o e n hx=> ?_,λb o e hx=> ?_,λb xs e=>tups b xs (I.base.tups b xs e),λb o xs e=>frzs b o xs (I.base.frzs b o xs e),λb ps e=> ?_⟩,?_,λx c e=> ?_,?_,λx c e=> ?_,λp hp=> ?_,hok,I.len⟩
 ·exact keep b o (neL b o e) hb (neC b o e hx) (I.base.keep b o e n hb hx) (I.base.free b o e n hx)
 ·obtain ⟨sl,e1⟩:=I.base.slot b o e n hb hx;obtain ⟨sl',e2⟩:=slot b _ (neL b o e) hb (neC b o e hx) e1 (I.base.free b o e n hx);exact ⟨sl',e2⟩
 ·obtain ⟨o',e1⟩:=I.base.there b o e hx;exact free b o' (neC b o e hx) e1 (I.base.free b o e n hx)
 ·obtain ⟨o',e1⟩:=I.base.there b o e hx;exact there b o' (neC b o e hx) e1
 ·obtain ⟨m1,e1⟩:=I.base.tbls b ps e;obtain ⟨m2,e2⟩:=tbls b _ e1;exact ⟨m1++m2,by rw [e2,Array.append_assoc]⟩
 ·obtain ⟨m,hn,hl⟩:=I.loc;refine i02 m (ns m hn) λi x v e1 e2 e3=> ?_;obtain ⟨u,r,l⟩:=hl i x v e1 e2 e3;refine i02 u r ?_;rcases l with l | ⟨k,c,e,z⟩
  ·exact .inl l
  ·exact .inr (i05 k c e (cellK x c e _ z))
 ·obtain ⟨v,z⟩:=I.cell x c e;exact ⟨v,cellK x c e v z⟩
 ·obtain ⟨m,⟨o,_,_,ho,_⟩,_⟩:=I.loc;exact free _ o (λz=>(hch _ z).2.1 rfl) ho I.free
 ·obtain ⟨v,o,ho,hd⟩:=I.cell x c e;exact free c o (λz=>(hch c z).2.2.1 x c e rfl) ho (I.freeC x c e)
 ·obtain ⟨e,n,ne,nf,d⟩:=I.pin p hp;have nch:p.1∉ch:=λz=>(hch p.1 z).2.2.2 p hp rfl;exact i09 (keep p.1 p.2 ne nf nch e n) (free p.1 p.2 nch e n) ne nf d
theorem Inv.un {t':Nat} (I:Inv X pins Z H s) (u:Un X.fs [] H H' s.heap h') (hok:HOk X.prog X.w H' h'):Inv X pins Z H' { s with heap:=h',toks:=t' }:=by
 obtain ⟨m,⟨o,es,ep,ho,r⟩,_⟩:=id I.loc;obtain ⟨sl,hL⟩:=u.any ho I.free (by simp)
 exact I.step (g':=s.gens) (d':=s.drawn) (ch:=[]) (λ_ z=>nomatch z) (λb o _ hb _ e n=>u.keep b o e n hb (by simp)) (λb o _ hb _ e n=>u.slot b o e n hb (by simp)) (λb o _ e n=>u.free b o e n (by simp)) (λb o _ e=>u.there b o e (by simp)) u.tups u.frzs u.tbls (λm' hm=>by
  obtain ⟨o',es',ep',ho',r'⟩:=hm;rw [ho] at ho';cases ho'
  exact i0g _ es' ep' hL r') hok I.bare
theorem Inv.call {g':Array GenState} {t':Nat} {d':Drawn} {ch:List Addr} (I:Inv X pins Z H s) (u:Un (frs X.stack) ch H H' s.heap h') (hok:HOk X.prog X.w H' h') (hg:AllBare g')
  (hch:∀b∈ch,(b∈X.ex\/X.s₀.heap.objs.size<=b)/\b≠X.env.locals/\(∀x c,X.env.cells.lookup x=some c->c≠b)/\∀p∈X.pn++pins,p.1≠b) :
  Inv X pins Z H' { s with heap:=h',gens:=g',drawn:=d',toks:=t' }:=by
 obtain ⟨m,⟨o,es,ep,ho,r⟩,_⟩:=id I.loc;obtain ⟨sl,hL⟩:=u.any ho I.free λz=>(hch _ z).2.1 rfl
 exact I.step (ch:=ch) hch (λb o hL hb hc e n=>u.keep b o e n (λz=>(Z0e.mp (I.stkSub b z)).elim hL hb) hc) (λb o _ _ hc e n=>u.any e n hc) (λb o hc e n=>u.free b o e n hc) (λb o hc e=>u.there b o e hc) u.tups u.frzs u.tbls (λm' hm=>by
  obtain ⟨o',es',ep',ho',r'⟩:=hm;rw [ho] at ho';cases ho'
  exact i0g _ es' ep' hL r') hok hg
theorem Inv.turned {t':Nat} {it:Addr} (I:Inv X pins Z H s) (k:∀b o,b≠it->s.heap.get? b=some o->h'.get? b=some o) (hn:H it=none) (hL:it≠X.env.locals)
  (h1:it∈X.ex\/X.s₀.heap.objs.size<=it) (h2:∀x c,X.env.cells.lookup x=some c->c≠it) (h3:∀p∈X.pn++pins,p.1≠it):Inv X pins Z H { s with heap:=h',toks:=t' }:=by
 have nit:∀b u,H b=some u->b≠it:=λb u e z=>by rw [z,hn] at e;cases e
 refine I.step (g':=s.gens) (d':=s.drawn) (ch:=[it]) (λb hb=> ?_) (λb o _ _ hc e _=>k b o (λz=>hc (by simp [z])) e) (λb o _ _ hc e _=>⟨o.slots,k b o (λz=>hc (by simp [z])) e⟩) (λ_ _ _ _ n=>n)
  (λb o hc e=>⟨o,k b o (λz=>hc (by simp [z])) e⟩) (λ_ _ e=>e) (λ_ _ _ e=>e) (λb ps e=>⟨#[],by rw [e];simp⟩) (λm hm=> ?_) (λb u e=> ?_) I.bare
 ·have e:b=it:=by simpa using hb
  subst e;exact i04 h1 hL h2 h3
 ·obtain ⟨o,es,ep,ho,r⟩:=hm;exact i0g o es ep (k _ o (Ne.symm hL) ho) r
 ·refine (I.hok b u e).stay (λc v hc q=>k c v ?_ q) (λ_ q=>q) λ_ _ q=>q;rcases hc with z | z
  ·rw [z];exact nit b u e
  ·exact nit c _ z
theorem Inv.tok (I:Inv X pins Z H s) (t:Nat):Inv X pins Z H { s with toks:=t }:=I.un (h':=s.heap) (t':=t) Un.refl I.hok
theorem Inv.kept {t':Nat} (I:Inv X pins Z H s) (k:∀b u,s.heap.get? b=some u->h'.get? b=some u):Inv X pins Z H { s with heap:=h',toks:=t' }:=I.un (Un.kept k) (I.hok.kept k)
theorem Inv.laid {a:Addr} {o:HO} {t':Nat} (I:Inv X pins Z H s) (k:∀b u,s.heap.get? b=some u->h'.get? b=some u) (hp:s.heap.objs.size<=a) (new:A2u X.prog X.w (upd H a o) h' a o) :
  Inv X pins Z (upd H a o) { s with heap:=h',toks:=t' }:=I.un (Un.laid k hp (I.hok.fresh hp)) (I.hok.laid k hp new)
theorem Inv.write {x e:Addr} {o:HO} {t':Nat} (I:Inv X pins Z H s) (mu:Mut (H x)) (he:e=x\/H e=some (.own x)) (k:∀b u,b≠e->s.heap.get? b=some u->h'.get? b=some u) (heo:∃u,h'.get? e=some u)
  (new:A2u X.prog X.w (upd H x o) h' x o):Inv X pins Z (upd H x o) { s with heap:=h',toks:=t' }:=I.un (Un.write mu he k heo) (I.hok.write mu he k heo new)
theorem Inv.weak {Z':List (Option V)} (I:Inv X pins Z H s) (hl:Z'.length=Z.length) (w:∀(i:Nat) v,Z'[i]? =some (some v)->Z[i]? =some (some v)):Inv X pins Z' H s :=
 ⟨I.ok,I.os,I.bare,I.base,let ⟨m,hn,hl'⟩:=I.loc;(i02 m hn λi x v e1 e2 e3=>hl' i x v e1 (w i v e2) e3),I.cell,I.free,I.freeC,I.pin,I.hok,hl.trans I.len⟩
theorem Inv.pins_of {pins':List (Addr×Obj)} (I:Inv X pins Z H s) (h:∀p∈pins',s.heap.get? p.1=some p.2/\H p.1=none/\p.1≠X.env.locals/\p.1∉X.fs/\∀v,p.2.data≠.cell v):Inv X pins' Z H s :=
 ⟨I.ok,I.os,I.bare,I.base,I.loc,I.cell,I.free,I.freeC,λp hp=>(Z07.mp hp).elim (λz=>I.pin p (Z05 _ z)) (h p),I.hok,I.len⟩
theorem C1w {N:List Str} (hN:N.Nodup) {i j:Nat} {x:Str} (a:N[i]? =some x) (b:N[j]? =some x):i=j:=by
 obtain ⟨h1,e1⟩:=Z03.mp a;obtain ⟨h2,e2⟩:=Z03.mp b;exact (List.getElem_inj hN).mp (e1.trans e2.symm)
theorem B7c {M:Model} {A:Around} {E:Value->Shared->Prop} {i:Nat} {x:Str} {v:V} {u:Value} {Q:Unit->Shared->Prop} (I:Inv X pins Z H s) (hN:X.N.Nodup) (hi:X.N[i]? =some x) (hx:Loc X.env.scope x) (r:A3i v u)
  (h:∀s',Inv X pins (Z.set i (some v)) H s'->(∃a,Heap.SameBut a s.heap s'.heap/\(a=X.env.locals\/X.env.cells.lookup x=some a))->Q () s') (hf:X.fn x=true\/X.env.scope.names.lookup x=some .local:=by first | exact .inl rfl | exact .inr rfl | assumption):wpAny M A (storeName X.env x u) Q E s:=by
 obtain ⟨m,hn,hl⟩:=id I.loc;have hcls:(X.env.scope.kind == .class||(X.env.scope.kind == .module&&X.env.locals != X.env.globals))=false:=by rw [I.ok.kind];rfl
 have hiZ:i<Z.length:=by rw [I.len];exact (Z03.mp hi).1
 have cne:=I.cne
 have tracked:∀{a:Addr} {h':Heap},(∃o,s.heap.get? a=some o/\H a=none)->Heap.SameBut a s.heap h'->HOk X.prog X.w H h':=λ{a h'} ha hs b ob e=>by
  obtain ⟨_,_,hfree⟩:=ha;refine (I.hok b ob e).stay (λc w' hc q=>(hs.2 c ?_).trans q) (λ_ q=>q) λ_ _ q=>q;rintro rfl;rcases hc with rfl | hc
  ·rw [hfree] at e;cases e
  ·rw [hfree] at hc;cases hc
 rcases hx with hk | hk
 ·refine wpAny_storeName_local hk hn (λh' hn' hs=> ?_) hcls;obtain ⟨oL,_,_,hoL,_⟩:=id hn;refine h _ ⟨I.ok,I.os,I.bare,⟨λb o e n hb hx=> ?_,λb o e n hb hx=> ?_,I.base.free,λb o e hx=> ?_,I.base.tups,I.base.frzs,I.base.tbls⟩,(i02 _ hn' λj y v' e1 e2 e3=> ?_),λy c e=> ?_,I.free,I.freeC,λp hp=> ?_,tracked (i02 oL hoL I.free) hs,by simpa using I.len⟩ (i02 _ hs (.inl rfl))
  ·exact (hs.2 b (Z0h (Z0q (Z0a e) I.ok.above))).trans (I.base.keep b o e n hb hx)
  ·obtain ⟨sl,e1⟩:=I.base.slot b o e n hb hx;exact ⟨sl,(hs.2 b (Z0h (Z0q (Z0a e) I.ok.above))).trans e1⟩
  ·obtain ⟨o',e1⟩:=I.base.there b o e hx;exact ⟨o',(hs.2 b (Z0h (Z0q (Z0a e) I.ok.above))).trans e1⟩
  ·by_cases hj:j=i
   ·subst hj;rw [hi] at e1;cases e1;rw [Z23 hiZ] at e2;cases e2;exact i02 u r (.inl ⟨hk,by simp⟩)
   ·rw [Z2a (Ne.symm hj)] at e2;obtain ⟨u',r',q⟩:=hl j y v' e1 e2 e3;refine i02 u' r' ?_;rcases q with ⟨k,e⟩ | ⟨k,c,e,z⟩
    ·refine .inl ⟨k,?_⟩;have:y≠x:=λe=>hj (C1w hN e1 (e▸hi));simp [this,e]
    ·exact .inr (i05 k c e (z.sameBut hs (cne y c e)))
  ·obtain ⟨w',z⟩:=I.cell y c e;exact ⟨w',z.sameBut hs (cne y c e)⟩
  ·obtain ⟨e,n,ne,nf,d⟩:=I.pin p hp;exact i09 ((hs.2 p.1 ne).trans e) n ne nf d
 ·have hfn:X.fn x=true:=by
   rcases hf with z | z
   ·exact z
   ·rw [z] at hk;cases hk
  obtain ⟨c,hc⟩:=I.ok.has x (.inl hk);obtain ⟨w',z⟩:=I.cell x c hc;refine wpAny_storeName_cell I.ok.kind hk hc z (λh' hc' hs=> ?_);obtain ⟨oc,hoc,hocd⟩:=id z;refine h { s with heap:=h' } ⟨I.ok,I.os,I.bare,⟨λb o e n hb hx=> ?_,λb o e n hb hx=> ?_,I.base.free,λb o e hx=> ?_,I.base.tups,I.base.frzs,I.base.tbls⟩,(i02 m (hn.sameBut hs (Ne.symm (cne x c hc))) λj y v' e1 e2 e3=> ?_),λy c' e=> ?_,I.free,I.freeC,λp hp=> ?_,tracked (i02 oc hoc (I.freeC x c hc)) hs,by simpa using I.len⟩ (i02 c hs (.inr hc))
  ·exact (hs.2 b (Z0h (Z0q (Z0a e) (I.ok.cab x c hfn hc)))).trans (I.base.keep b o e n hb hx)
  ·obtain ⟨sl,e1⟩:=I.base.slot b o e n hb hx;exact ⟨sl,(hs.2 b (Z0h (Z0q (Z0a e) (I.ok.cab x c hfn hc)))).trans e1⟩
  ·obtain ⟨o',e1⟩:=I.base.there b o e hx;exact ⟨o',(hs.2 b (Z0h (Z0q (Z0a e) (I.ok.cab x c hfn hc)))).trans e1⟩
  ·by_cases hj:j=i
   ·subst hj;rw [hi] at e1;cases e1;rw [Z23 hiZ] at e2;cases e2;exact i02 u r (.inr (i05 (.inl hk) c hc hc'))
   ·rw [Z2a (Ne.symm hj)] at e2;obtain ⟨u',r',q⟩:=hl j y v' e1 e2 e3;refine i02 u' r' ?_;rcases q with q | ⟨k,c',e,z'⟩
    ·exact .inl q
    ·refine .inr (i05 k c' e (z'.sameBut hs ?_));rintro rfl;exact hj (C1w hN e1 (I.ok.inj _ _ _ e hc▸hi))
  ·by_cases hcc:c'=c
   ·subst hcc;exact ⟨_,hc'⟩
   ·obtain ⟨w2,z2⟩:=I.cell y c' e;exact ⟨w2,z2.sameBut hs hcc⟩
  ·obtain ⟨e,n,ne,nf,d⟩:=I.pin p hp;refine i09 ((hs.2 p.1 ?_).trans e) n ne nf d;intro q;rw [q,hoc] at e;have q':oc=p.2:=Z1a e;exact d w' (by rw [<-q'];exact hocd)
theorem C1t {M:Model} {A:Around} {E:Value->Shared->Prop} {i:Nat} {x:Str} {v:V} {u:Value} {Q:Unit->Shared->Prop} (I:Inv X pins Z H s) (hN:X.N.Nodup) (hi:X.N[i]? =some x) (hx:Loc X.env.scope x) (r:A3i v u)
  (h:∀s',Inv X pins (Z.set i (some v)) H s'->Q () s') (hf:X.fn x=true\/X.env.scope.names.lookup x=some .local:=by first | exact .inl rfl | exact .inr rfl | assumption):wpAny M A (storeName X.env x u) Q E s :=
 B7c I hN hi hx r (λs' I' _=>h s' I') hf
theorem Inv.call' {s':Shared} {ch:List Addr} (I:Inv X pins Z H s) (ho:s'.os=s.os) (u:Un (frs X.stack) ch H H' s.heap s'.heap) (hok:HOk X.prog X.w H' s'.heap) (hg:AllBare s'.gens)
  (hch:∀b∈ch,(b∈X.ex\/X.s₀.heap.objs.size<=b)/\b≠X.env.locals/\(∀x c,X.env.cells.lookup x=some c->c≠b)/\∀p∈X.pn++pins,p.1≠b):Inv X pins Z H' s':=by
 obtain ⟨h',g',d',t',o'⟩:=s';have e:o'=s.os:=ho;subst e;exact I.call (g':=g') (t':=t') (d':=d') u hok hg hch
end
abbrev XK:=Value->Option Addr->Hp->Prop
abbrev St:=List (Option V)
abbrev VK:=V->Hp->Prop
abbrev TE:=St->Hp->VK->Prop
abbrev TT:=St->Hp->(Bool->Hp->Prop)->Prop
abbrev TA:=St->Hp->(List V->Hp->Prop)->Prop
structure C6p where
 nx:St->Hp->Prop
 rt:VK
 bk:St->Hp->Prop:=λ_ _=>False
 ct:St->Hp->Prop:=λ_ _=>False
abbrev TS:=C6p->St->Hp->Prop
def EP (X:Cx) (pins:List (Addr×Obj)) (Z:St) (Q:VK) (u:Value) (s':Shared):Prop:=∃v H',Inv X pins Z H' s'/\A3i v u/\Q v H'
def TP (X:Cx) (pins:List (Addr×Obj)) (Z:St) (Q:Bool->Hp->Prop) (b:Bool) (s':Shared):Prop:=∃H',Inv X pins Z H' s'/\Q b H'
def AP (X:Cx) (pins:List (Addr×Obj)) (Z:St) (Q:List V->Hp->Prop) (us:List Value) (s':Shared):Prop:=∃vs H',Inv X pins Z H' s'/\A3y vs us/\Q vs H'
def SP (X:Cx) (pins:List (Addr×Obj)) (D:C6p) (f:Flow) (s':Shared):Prop :=
 match f with
 | .next=>∃Z' H',Inv X pins Z' H' s'/\D.nx Z' H'
 | .brk=>∃Z' H',Inv X pins Z' H' s'/\D.bk Z' H'
 | .cont=>∃Z' H',Inv X pins Z' H' s'/\D.ct Z' H'
 | .ret u=>∃v Z' H',Inv X pins Z' H' s'/\A3i v u/\D.rt v H'
def PE (X:Cx) (e:Expr) (t:TE):Prop :=
 ∀(pins:List (Addr×Obj)) (s:Shared) (Z:St) (H:Hp) (Q:VK),Inv X pins Z H s->t Z H Q->wpAny (model X.prog X.w) X.A (eval e X.env) (EP X pins Z Q) X.xe s
def PT (X:Cx) (e:Expr) (t:TT):Prop :=
 ∀(pins:List (Addr×Obj)) (s:Shared) (Z:St) (H:Hp) (Q:Bool->Hp->Prop),Inv X pins Z H s->t Z H Q->wpAny (model X.prog X.w) X.A (isTrue e X.env (eval e X.env)) (TP X pins Z Q) X.xe s
def PW (X:Cx) (e:Expr) (t:TT):Prop :=
 ∀(whole:Sem Value) (pins:List (Addr×Obj)) (s:Shared) (Z:St) (H:Hp) (Q:Bool->Hp->Prop),Inv X pins Z H s->t Z H Q->wpAny (model X.prog X.w) X.A (isTrue e X.env whole) (TP X pins Z Q) X.xe s
theorem PW.pt {X:Cx} {e:Expr} {t:TT} (h:PW X e t):PT X e t:=h _
def PA (X:Cx) (es:List Expr) (t:TA):Prop :=
 ∀(pos:Pos) (pins:List (Addr×Obj)) (s:Shared) (Z:St) (H:Hp) (Q:List V->Hp->Prop),Inv X pins Z H s->t Z H Q->wpAny (model X.prog X.w) X.A (spliced (backTo pos (starEach es X.env))) (AP X pins Z Q) X.xe s
def PS (X:Cx) (st:Stmt) (t:TS):Prop :=
 ∀(pins:List (Addr×Obj)) (s:Shared) (Z:St) (H:Hp) (D:C6p),Inv X pins Z H s->t D Z H->wpAny (model X.prog X.w) X.A (exec st X.env) (SP X pins D) X.xe s
def PSs (X:Cx) (st:List Stmt) (t:TS):Prop :=
 ∀(pins:List (Addr×Obj)) (s:Shared) (Z:St) (H:Hp) (D:C6p),Inv X pins Z H s->t D Z H->wpAny (model X.prog X.w) X.A (execs st X.env) (SP X pins D) X.xe s
theorem thn {α:Type} {t:Sem α} {Q Q':α->Shared->Prop} {M:Model} {A:Around} {E:Value->Shared->Prop} {s:Shared} (h:wpAny M A t Q E s) (hQ:∀a s,Q a s->Q' a s):wpAny M A t Q' E s:=Z10 h hQ λ_ _ x=>x
section
variable {X:Cx}
def C7a (i:Nat):TE:=λZ H Q=>∃v,Z[i]? =some (some v)/\Q v H
def tC (v:V):TE:=λ_ H Q=>Q v H
theorem D6k {i:Nat} {x:Str} {pos:Pos} (hN:X.N[i]? =some x) (hv:Vis X.env.scope x) (hd:(x == ("__debug__":Str))=false:=by decide) (hcd:(x == ("__classdict__":Str))=false:=by decide):PE X (.Name x pos) (C7a i):=by
 intro pins s Z H Q I h;obtain ⟨v,e,h⟩:=h;obtain ⟨m,hn,hl⟩:=I.loc;obtain ⟨u,r,l⟩:=hl i x v hN e hv;have fin:EP X pins Z Q u s:=(i0f v H I r h);rcases l with ⟨hk,hm⟩ | ⟨hk,c,hc,hcell⟩
 ·exact wpAny_Name (wpAny_loadName_local I.ok.kind hk hn hm fin) hd
 ·rcases hk with hk | hk
  ·exact wpAny_Name (wpAny_loadName_cell I.ok.kind hk hc hcell fin) hd
  ·exact wpAny_Name (wpAny_loadName_free I.ok.kind hk hc hcell fin hcd) hd
theorem A0e {i j pos}:PE X (.Constant (.int i) j pos) (tC (.int i)):=λ_ _ _ H _ I h=>wpAny_Constant_int (i0f (.int i) H (I.tok _) ⟨_,rfl⟩ h)
theorem B9w {b j pos}:PE X (.Constant (.bool b) j pos) (tC (.bl b)):=λ_ _ _ H _ I h=>Constant_bool (i0f (.bl b) H I rfl h)
theorem A6p {j pos}:PE X (.Constant .none j pos) (tC .non):=λ_ _ _ H _ I h=>Constant_none (i0f .non H I rfl h)
theorem A1m {x j pos}:PE X (.Constant (.str x) j pos) (tC (.str x)):=λ_ _ _ H _ I h=>Calls.Constant_str (i0f (.str x) H (I.tok _) ⟨_,rfl⟩ h)
def Gl (X:Cx) (x:Str):Prop:=X.env.kindOf x=some .globalImplicit
theorem B9k {E:Value->Shared->Prop} {pins:List (Addr×Obj)} {s:Shared} {Z:St} {H:Hp} {x:Str} {u:Value} {pos:Pos} {Q:Value->Shared->Prop} (I:Inv X pins Z H s) (hg:Gl X x) (hm:X.mg x=some u) (h:Q u s)
  (hd:(x == ("__debug__":Str))=false:=by decide):wpAny (model X.prog X.w) X.A (eval (.Name x pos) X.env) Q E s :=
 Calls.Name_function_global I.ok.kind hg (Calls.loadGlobal_global (by rw [I.ok.glob];exact I.mod.glob.keeps I.bk) hm h) hd
theorem B1k {E:Value->Shared->Prop} {pins:List (Addr×Obj)} {s:Shared} {Z:St} {H:Hp} {x:Str} {u:Value} {pos:Pos} {Q:Value->Shared->Prop} (I:Inv X pins Z H s) (hg:Gl X x) (hm:X.mg x=none) (hv:bootBuiltins x=some u) (h:Q u s)
  (hn:x≠"__name__":=by decide) (hd:(x == ("__debug__":Str))=false:=by decide):wpAny (model X.prog X.w) X.A (eval (.Name x pos) X.env) Q E s:=by
 obtain ⟨mb,h1,h2⟩:=I.mod.blt;exact Calls.Name_function_global I.ok.kind hg (Calls.loadGlobal_builtin (by rw [I.ok.glob];exact I.mod.glob.keeps I.bk) hm (by rw [I.ok.blt];exact h1.keeps I.bk) ((h2 x hn).trans hv) h) hd
theorem A3a {x:Str} {v:V} {u:Value} {pos:Pos} (hg:Gl X x) (hm:X.mg x=some u) (r:A3i v u) (hd:(x == ("__debug__":Str))=false:=by decide):PE X (.Name x pos) (tC v) :=
 λ_ _ _ H _ I h=>B9k I hg hm (i0f v H I r h) hd
theorem A5j {x:Str} {v:V} {u:Value} {pos:Pos} (hg:Gl X x) (hm:X.mg x=none) (hv:bootBuiltins x=some u) (r:A3i v u) (hn:x≠"__name__":=by decide) (hd:(x == ("__debug__":Str))=false:=by decide):PE X (.Name x pos) (tC v) :=
 λ_ _ _ H _ I h=>B1k I hg hm hv (i0f v H I r h) hn hd
variable {a b:Expr} {ta tb:TE} {pos:Pos}
def PC (X:Cx) (op:CmpOp) (a b:Expr) (t:TE):Prop :=
 ∀(pins:List (Addr×Obj)) (s:Shared) (Z:St) (H:Hp) (Q:VK),Inv X pins Z H s->t Z H Q->
  wpAny (model X.prog X.w) X.A (eval a X.env) (λv s₁=>wpAny (model X.prog X.w) X.A (eval b X.env) (λu s₂=>wpAny (model X.prog X.w) X.A (compareOp op v u) (EP X pins Z Q) X.xe s₂) X.xe s₁) X.xe s
def tB (t:TE):TT:=λZ H Q=>t Z H λx H1=>∃c,x= .bl c/\Q c H1
theorem D1l {op:CmpOp} {t:TE} (h:PC X op a b t) (h1:behindInMarks op b=false:=by first | exact nobehind _ (by decide) (by decide) | rfl):PT X (.Compare a [op] [b] pos) (tB t):=by
 intro pins s Z H Q I hw;refine wpAny_isTrue_Compare1 (thn (h pins s Z H _ I hw) λv s1 h1=>thn h1 λu s2 h2=>thn h2 ?_) h1;rintro c s3 ⟨x,H1,I1,r1,q1⟩;obtain ⟨d,rfl,q⟩:=q1;cases r1;exact wpAny_truthy_bool (i02 H1 I1 q)
theorem A2t {e:Expr} {t:TE} (h:PE X e t) (he:∀whole,isTrue e X.env whole=(do let v<-whole;standAt e.pos;holding [v] (truthy v)):=by intro _;rfl):PT X e (tB t):=by
 intro pins s Z H Q I hw;refine isTrue_plain (thn (h pins s Z H _ I hw) ?_) (he _);rintro v s1 ⟨x,H1,I1,r1,q1⟩;obtain ⟨d,rfl,q⟩:=q1;cases r1;exact wpAny_truthy_bool (i02 H1 I1 q)
variable {tA tB':TT} {rest:List Expr}
def D2j (t u:TT):TT:=λZ H Q=>t Z H λc H1=>if c=true then u Z H1 Q else Q false H1
def tOr (t u:TT):TT:=λZ H Q=>t Z H λc H1=>if c=true then Q true H1 else u Z H1 Q
def tNot (t:TT):TT:=λZ H Q=>t Z H λc H1=>Q (! c) H1
theorem A4g (ha:PT X a tA):PW X (.BoolOp .And [a] pos) tA:=by
 intro wh pins s Z H Q I h;refine isTrue_and (thn (ha pins s Z H Q I h) λc s1 e=> ?_)
 cases c with
 | true=>exact isTrue_and_nil e
 | false=>exact e
theorem A8d (ha:PT X a tA):PW X (.BoolOp .Or [a] pos) tA:=by
 intro wh pins s Z H Q I h;refine isTrue_or (thn (ha pins s Z H Q I h) λc s1 e=> ?_)
 cases c with
 | false=>exact isTrue_or_nil e
 | true=>exact e
theorem A4a (ha:PT X a tA) (hb:PW X (.BoolOp .And (b::rest) pos) tB'):PW X (.BoolOp .And (a::b::rest) pos) (D2j tA tB'):=by
 intro wh pins s Z H Q I h;refine isTrue_and (thn (ha pins s Z H _ I h) ?_);rintro c s1 ⟨H1,I1,q1⟩
 cases c with
 | true=>exact hb wh pins s1 Z H1 Q I1 q1
 | false=>exact i02 H1 I1 q1
theorem A8z (ha:PT X a tA) (hb:PW X (.BoolOp .Or (b::rest) pos) tB'):PW X (.BoolOp .Or (a::b::rest) pos) (tOr tA tB'):=by
 intro wh pins s Z H Q I h;refine isTrue_or (thn (ha pins s Z H _ I h) ?_);rintro c s1 ⟨H1,I1,q1⟩
 cases c with
 | true=>exact i02 H1 I1 q1
 | false=>exact hb wh pins s1 Z H1 Q I1 q1
theorem C7n (ha:PT X a tA):PT X (.UnaryOp .Not a pos) (tNot tA):=by
 intro pins s Z H Q I h;exact isTrue_not (ha pins s Z H (λc H1=>Q (! c) H1) I h)
end
def SqL (K:Frag) (H:Hp) (a:Addr) (xs:List V):Prop :=
 Rd H a (.lst xs)\/
  ∃(o:Obj) (its:Array Value) (n:Nat),K.lookup a=some o/\o.cls= .type "list"/\o.dict=none/\o.data= .seq its n/\its.size<=sizeLine/\A3y xs its.toList
def SqT (K:Frag) (H:Hp) (a:Addr) (xs:List V):Prop :=
 Rd H a (.tup xs)\/
  ∃(o:Obj) (its:Array Value) (n:Nat),K.lookup a=some o/\o.cls= .type "tuple"/\o.data= .seq its n/\its.size<=sizeLine/\A3y xs its.toList
noncomputable def absV:Value->Option V
 | .none=>some .non
 | .bool b=>some (.bl b)
 | .int i _=>some (.int i)
 | .str x _=>some (.str x)
 | .bytes b _=>some (.byt b)
 | .float b _=>some (.flt b)
 | .ref a=>some (.ref a)
 | .type n=>some (.ty n)
 | _=>none
theorem A3i.abs {x:V} {u:Value} (r:A3i x u):absV u=some x:=by
 cases x with
 | non=>cases r;rfl
 | bl _=>cases r;rfl
 | int _=>obtain ⟨t,rfl⟩:=r;rfl
 | str _=>obtain ⟨t,rfl⟩:=r;rfl
 | byt _=>obtain ⟨t,rfl⟩:=r;rfl
 | flt _=>obtain ⟨t,rfl⟩:=r;rfl
 | ref _=>cases r;rfl
 | ty _=>cases r;rfl
theorem A3i.inj {x y:V} {u:Value} (r:A3i x u) (q:A3i y u):x=y:=Z1a (r.abs.symm.trans q.abs)
theorem A3y.inj:∀{xs ys:List V} {us:List Value},A3y xs us->A3y ys us->xs=ys
 | _,_,_,.nil,.nil=>rfl
 | _,_,_,.cons r t,.cons r' t'=>by rw [r.inj r',A3y.inj t t']
section
variable {X:Cx} {pins:List (Addr×Obj)} {Z:St} {H:Hp} {s:Shared} {a:Addr} {xs ys:List V}
theorem SqL.of {K:Frag} (h:H a=some (.lst xs)):SqL K H a xs:= .inl (.inl h)
theorem SqT.of {K:Frag} (h:H a=some (.tup xs)):SqT K H a xs:= .inl (.inl h)
theorem Inv.list (I:Inv X pins Z H s) (h:SqL X.K H a xs):∃its:List Value,A3y xs its/\PlainL s.heap a its.toArray/\xs.length<=sizeLine:=by
 rcases h with h | ⟨o,its,n,hk,hc,hd,hs,hz,r⟩
 ·obtain ⟨z,its,n,r,e⟩:=h.ok I.hok;exact i06 its r (i0l _ n e rfl rfl rfl) z
 ·refine i06 its.toList r (i0l o n (I.kIn a o hk) hc hd (by simpa using hs)) ?_;have e:=r.length;simp only [Array.length_toList] at e
  lia
theorem Inv.tuple (I:Inv X pins Z H s) (h:SqT X.K H a xs):∃its:List Value,A3y xs its/\IsTup s.heap a its.toArray/\xs.length<=sizeLine:=by
 rcases h with h | ⟨o,its,n,hk,hc,hs,hz,r⟩
 ·obtain ⟨z,its,r,p⟩:=h.ok I.hok;exact i06 its r p z
 ·refine i06 its.toList r (i0d o (I.kIn a o hk) hc n (by simpa using hs)) ?_;have e:=r.length;simp only [Array.length_toList] at e
  lia
theorem Inv.list_inj (I:Inv X pins Z H s) (h:SqL X.K H a xs) (h':SqL X.K H a ys):xs=ys:=by
 obtain ⟨its,r,⟨o,n,e,_,_,d⟩,_⟩:=I.list h;obtain ⟨its',r',⟨o',n',e',_,_,d'⟩,_⟩:=I.list h';rw [e] at e';cases e';rw [d] at d';injection d' with d1 _;have:its=its':=by simpa using congrArg Array.toList d1
 subst this;exact r.inj r'
theorem Inv.tuple_inj (I:Inv X pins Z H s) (h:SqT X.K H a xs) (h':SqT X.K H a ys):xs=ys:=by
 obtain ⟨its,r,⟨o,e,_,n,d⟩,_⟩:=I.tuple h;obtain ⟨its',r',⟨o',e',_,n',d'⟩,_⟩:=I.tuple h';rw [e] at e';cases e';rw [d] at d';injection d' with d1 _;have:its=its':=by simpa using congrArg Array.toList d1
 subst this;exact r.inj r'
end
abbrev Cx.wish (X:Cx) (E:Value->Shared->Prop):Cx:={ X with xe:=E }
abbrev Cx.nox (X:Cx):Cx:=X.wish λ_ _=>False
theorem Cx.Ok.wish {X:Cx} (ok:X.Ok) (E:Value->Shared->Prop):(X.wish E).Ok :=
 ⟨ok.mod,ok.kind,ok.glob,ok.blt,ok.above,ok.inj,ok.has,ok.cab,ok.hd,ok.frames,ok.stk,ok.exf,ok.bs,ok.bsz,ok.noex,ok.exfs,ok.funs,ok.frf⟩
theorem Cx.Ok.unwish {X:Cx} {E:Value->Shared->Prop} (ok:(X.wish E).Ok):X.Ok :=
 ⟨ok.mod,ok.kind,ok.glob,ok.blt,ok.above,ok.inj,ok.has,ok.cab,ok.hd,ok.frames,ok.stk,ok.exf,ok.bs,ok.bsz,ok.noex,ok.exfs,ok.funs,ok.frf⟩
section
variable {X:Cx} {pins:List (Addr×Obj)} {Z:St} {H:Hp} {s:Shared} {E:Value->Shared->Prop}
theorem Inv.wish (I:Inv X pins Z H s) (E:Value->Shared->Prop):Inv (X.wish E) pins Z H s:=⟨I.ok.wish E,I.os,I.bare,I.base,I.loc,I.cell,I.free,I.freeC,I.pin,I.hok,I.len⟩
theorem Inv.unwish (I:Inv (X.wish E) pins Z H s):Inv X pins Z H s:=⟨I.ok.unwish,I.os,I.bare,I.base,I.loc,I.cell,I.free,I.freeC,I.pin,I.hok,I.len⟩
theorem SP.unwish {D:C6p} {f:Flow} {s':Shared} (h:SP (X.wish E) pins D f s'):SP X pins D f s':=by
 cases f with
 | next=>obtain ⟨Z',H',I,q⟩:=h;exact i07 Z' H' I.unwish q
 | brk=>obtain ⟨Z',H',I,q⟩:=h;exact i07 Z' H' I.unwish q
 | cont=>obtain ⟨Z',H',I,q⟩:=h;exact i07 Z' H' I.unwish q
 | ret u=>obtain ⟨v,Z',H',I,r,q⟩:=h;exact i0m v Z' H' I.unwish r q
theorem PSs.nox {st:List Stmt} {t:TS} (h:PSs X.nox st t):PSs X st t:=λpins s Z H D I hw =>
 Z10 (h pins s Z H D (I.wish _) hw) (λ_ _ q=>q.unwish) λ_ _ z=>False.elim z
end
section
variable {X:Cx} {st:Stmt} {rest:List Stmt} {t u:TS} {e:Expr} {te:TE} {pos:Pos}
def C7k:TS:=λD Z H=>D.nx Z H
def D2s (t u:TS):TS:=λD Z H=>t { D with nx:=u D } Z H
theorem A0x:PSs X [] C7k:=λ_ _ Z H _ I h=>Z2b (i07 Z H I h)
theorem A0c (h1:PS X st t) (h2:PSs X rest u):PSs X (st::rest) (D2s t u):=by
 intro pins s Z H D I h;refine wpAny_execs_cons (thn (h1 pins s Z H { D with nx:=u D } I h) λf s1 q=> ?_)
 cases f with
 | next =>
  obtain ⟨Z',H',I',q⟩:=q;exact h2 pins s1 Z' H' D I' q
 | ret v=>exact q
 | brk=>exact q
 | cont=>exact q
theorem A0g (h1:PS X st t):PSs X [st] t:=by
 intro pins s Z H D I h;refine wpAny_execs_cons (thn (h1 pins s Z H D I h) λf s1 q=> ?_)
 cases f with
 | next=>exact Z2b q
 | ret v=>exact q
 | brk=>exact q
 | cont=>exact q
theorem Inv.quiet {pins:List (Addr×Obj)} {Z:St} {H:Hp} {s:Shared} (I:Inv X pins Z H s):interactive X.env=false:=by simp [interactive,I.ok.kind]
def E0g (te:TE):TS:=λD Z H=>te Z H λ_ H1=>D.nx Z H1
theorem A3n (he:PE X e te) (hs:swapsWith e none pos.line X.env=pure false:=by rfl):PS X (.Expr e pos) (E0g te):=by
 intro pins s Z H D I h;exact wpAny_Expr_any (thn (he pins s Z H _ I h) (by rintro v s1 ⟨x,H1,I1,r1,q1⟩;exact i07 Z H1 I1 q1)) I.quiet hs
def tRet (te:TE):TS:=λD Z H=>te Z H D.rt
theorem A0s (he:PE X e te):PS X (.Return (some e) pos) (tRet te):=by
 intro pins s Z H D I h;exact wpAny_Return_some (thn (he pins s Z H _ I h) (by rintro v s1 ⟨x,H1,I1,r1,q1⟩;exact i0m x Z H1 I1 r1 q1))
def D5h (c:TT) (t u:TS):TS:=λD Z H=>c Z H λb H1=>if b=true then t D Z H1 else u D Z H1
theorem A1v {c:Expr} {a b:List Stmt} {tc:TT} (hc:PT X c tc) (ha:PSs X a t) (hb:PSs X b u):PS X (.If c a b pos) (D5h tc t u):=by
 intro pins s Z H D I h;refine wpAny_If (thn (hc pins s Z H _ I h) ?_);rintro d s1 ⟨H1,I1,q1⟩
 cases d with
 | true=>exact ha pins s1 Z H1 D I1 q1
 | false=>exact hb pins s1 Z H1 D I1 q1
end
variable {es:List Expr} {u:Value} {g:Int->Int->Int} {pins:List (Addr×Obj)} {Z:St} {H:Hp} {s:Shared} {A:Around} {E Q:Value->Shared->Prop} {o:Option Value} {vs:List V} {P:Program} {w:World} {K:Frag} {R:Result->Shared->Prop} {pos:Pos} {fp:List Addr} {h base:Heap} {pl:Sem Bool} {body:List Stmt} {f:Value->Value->Sem Value} {op:CmpOp} {C:Addr} {us:List Value} {mA mg:Str->Option Value} {kw:List (Str×Value)} {CX:CXT} {fd:FuncData} {ps:List Str} {outer:List Env} {scope:Scope} {osl:Array (Option Value)}
abbrev TG:=V->St->Hp->(St->Hp->Prop)->Prop
abbrev TGs:=List V->St->Hp->(St->Hp->Prop)->Prop
def PG (X:Cx) (target:Expr) (t:TG):Prop :=
 ∀(pins:List (Addr×Obj)) (s:Shared) (Z:St) (H:Hp) (v:V) (u:Value) (Q:St->Hp->Prop),Inv X pins Z H s->A3i v u->t v Z H Q->
  wpAny (model X.prog X.w) X.A (assign target X.env u) (λ_ s'=>∃Z' H',Inv X pins Z' H' s'/\Q Z' H') X.xe s
def PGs (X:Cx) (ts:List Expr) (t:TGs):Prop :=
 ∀(pins:List (Addr×Obj)) (s:Shared) (Z:St) (H:Hp) (vs:List V) (us:List Value) (Q:St->Hp->Prop),Inv X pins Z H s->A3y vs us->t vs Z H Q->
  wpAny (model X.prog X.w) X.A (assignInOrder ((assignEach ts X.env).map (·.2)) us) (λ_ s'=>∃Z' H',Inv X pins Z' H' s'/\Q Z' H') X.xe s
section
variable {X:Cx} {pos:Pos}
def A6x (i:Nat):TG:=λv Z H Q=>Q (Z.set i (some v)) H
theorem A0m {i:Nat} {x:Str} (hN:X.N.Nodup) (hi:X.N[i]? =some x) (hx:Loc X.env.scope x) (hf:X.fn x=true\/X.env.scope.names.lookup x=some .local:=by first | exact .inl rfl | exact .inr rfl | assumption):PG X (.Name x pos) (A6x i):=by
 intro pins s Z H v u Q I r h;exact wpAny_assign_Name (C1t I hN hi hx r (λs' I'=>(i07 _ H I' h)) hf)
def D4n:TGs:=λvs Z H Q=>vs=[]/\Q Z H
def A9u (t:TG) (u:TGs):TGs:=λvs Z H Q=>∃v r,vs=v::r/\t v Z H λZ' H'=>u r Z' H' Q
theorem A2v:PGs X [] D4n:=by
 intro pins s Z H vs us Q I r h;obtain ⟨e,h⟩:=h;subst e;cases r;exact assignInOrder_nil (i07 Z H I h)
theorem A0y {e:Expr} {t:TG} {u:TGs} (h1:PG X e t) (h2:PGs X es u)
  (hs:(assignEach (e::es) X.env).map (·.2)=assign e X.env::(assignEach es X.env).map (·.2):=by rfl):PGs X (e::es) (A9u t u):=by
 intro pins s Z H vs us Q I r h;obtain ⟨v,vr,e1,h⟩:=h;subst e1
 cases r with
 | cons r rr =>
  rw [hs];refine assignInOrder_cons (thn (h1 pins s Z H _ _ _ I r h) ?_);rintro _ s1 ⟨Z1,H1,I1,q1⟩;exact h2 pins s1 Z1 H1 _ _ Q I1 rr q1
def D2y (K:Frag) (n:Nat) (t:TGs):TG:=λv Z H Q=>∃a xs,v= .ref a/\SqT K H a xs/\xs.length=n/\t xs Z H Q
theorem A3z {k:Nat} {t:TGs} {n:Nat} (hc:X.calm=true) (h:PGs X es t)
  (hn:(assignEach es X.env).length=n:=by rfl) (hst:(assignEach es X.env).findIdx? (·.1)=none:=by rfl):PG X (.Tuple es k pos) (D2y X.K n t):=by
 intro pins s Z H v u Q I r hw;obtain ⟨a,xs,e1,hq,hl,hw⟩:=hw;subst e1;cases r;obtain ⟨its,rv,ht,hz⟩:=I.tuple hq;refine assign_Tuple_tuple (I.ok.hd hc) ht (by simp [hn,<-hl,rv.length]) hst λh' hx=> ?_;have I1:Inv X pins Z H { s with heap:=h' }:=I.kept (t':=s.toks) λb o e=>hx b o (Z0h (Z0a e)) e
 exact h pins _ Z H xs _ Q I1 (by simpa using rv) hw
def D9a (te:TE) (g:TG):TS:=λD Z H=>te Z H λx H1=>g x Z H1 D.nx
theorem A9r {tg e:Expr} {te:TE} {g:TG} (he:PE X e te) (hg:PG X tg g) (hs:swapsWithSole [tg] e pos.line X.env=pure false:=by rfl) (hw:swappedStores [tg] e X.env=pure none:=by rfl)
  (h1:(assignEach [tg] X.env).map (·.2)=[assign tg X.env]:=by rfl):PS X (.Assign [tg] e pos) (D9a te g):=by
 intro pins s Z H D I h;refine wpAny_Assign_stores (thn (he pins s Z H _ I h) ?_) hs hw;rintro v s1 ⟨x,H1,I1,r1,q1⟩;rw [h1];exact thn (hg pins s1 Z H1 x v _ I1 r1 q1) λ_ s2 q=>q
theorem A0l {i:Nat} {x:Str} {e:Expr} {te:TE} {pos':Pos} (hN:X.N.Nodup) (hi:X.N[i]? =some x) (hx:Loc X.env.scope x) (he:PE X e te) (hs:swapsWith e (some (.Name x pos')) pos.line X.env=pure false:=by rfl) (hf:X.fn x=true\/X.env.scope.names.lookup x=some .local:=by first | exact .inl rfl | exact .inr rfl | assumption) :
  PS X (.Assign [.Name x pos'] e pos) (D9a te (A6x i)):=by
 intro pins s Z H D I h;refine wpAny_Assign_Name (thn (he pins s Z H _ I h) ?_) hs;rintro v s1 ⟨y,H1,I1,r1,q1⟩;exact C1t I1 hN hi hx r1 (λs2 I2=>(i07 _ H1 I2 q1)) hf
def D7k (c:TT) (tb:TS):TS:=λD Z H=>∃W:Nat->St->Hp->Prop,(∃m,W m Z H)/\∀m Z H,W m Z H->
 c Z H λb H1=>if b=true then∃N:St->Hp->Prop,(∀Z' H',N Z' H'->∃m',m'<m/\W m' Z' H')/\tb { D with nx:=N,ct:=N,bk:=D.nx } Z H1 else D.nx Z H1
theorem B0h {c:Expr} {body:List Stmt} {tc:TT} {tb:TS} (hp:PassesOwn (model X.prog X.w) X.A X.env X.xe) (hc:PT X c tc) (hb:PSs X body tb):PS X (.While c body [] pos) (D7k tc tb):=by
 intro pins s Z H D I h;obtain ⟨W,⟨m0,w0⟩,turn⟩:=h;refine wpAny_While (codeAny_whileLoop (λn s'=>∃Z' H',Inv X pins Z' H' s'/\W n Z' H') ?_ m0 (i07 Z H I w0));rintro n s1 ⟨Z1,H1,I1,w1⟩;refine wpAny_passesOwn hp (thn (hc pins s1 Z1 H1 _ I1 (turn n Z1 H1 w1)) ?_);rintro b s2 ⟨H2,I2,q2⟩
 cases b with
 | true =>
  obtain ⟨N,hN,q2⟩:=q2;rw [Z12 rfl];refine wpAny_passesOwn hp (thn (hb pins s2 Z1 H2 _ I2 q2) λf s3 q3=> ?_)
  cases f with
  | next =>
   obtain ⟨Z3,H3,I3,n3⟩:=q3;obtain ⟨m',hm,w3⟩:=hN Z3 H3 n3;exact ⟨m',(i0b hm Z3 H3 I3 w3)⟩
  | cont =>
   obtain ⟨Z3,H3,I3,n3⟩:=q3;obtain ⟨m',hm,w3⟩:=hN Z3 H3 n3;exact ⟨m',(i0b hm Z3 H3 I3 w3)⟩
  | brk=>exact q3
  | ret v=>exact q3
 | false =>
  rw [Z0t Z0v];exact Z2b (i07 Z1 H2 I2 q2)
end
structure It where
 go:Nat->Hp->Prop
 yld:Nat->Hp->V->Hp->Prop
 stop:Nat->Hp->Prop
def C0f (X:Cx) (pins:List (Addr×Obj)) (H:Hp) (b:Addr):Prop :=
 H b=none/\b≠X.env.locals/\b∉X.fs/\(b∈X.ex\/X.s₀.heap.objs.size<=b)/\(∀x c,X.env.cells.lookup x=some c->c≠b)/\∀p∈X.pn++pins,p.1≠b
theorem Inv.fpOk {X:Cx} {H':Hp} {b:Addr} (I:Inv X pins Z H s) (hb:s.heap.objs.size<=b) (hn:H' b=none):C0f X pins H' b:=by
 refine i0h hn (Z1q (Z0q I.lt hb)) (I.nofs hb) (.inr (Z1n I.sz hb)) (λx c e z=> ?_) λp hp z=> ?_
 ·obtain ⟨v,q⟩:=I.cell x c e;exact absurd (Z0q q.lt (by rw [z];exact hb)) (Nat.lt_irrefl _)
 ·exact absurd (Z0q (Z0a (I.pin p hp).1) (by rw [z];exact hb)) (Nat.lt_irrefl _)
structure D1m (P:Program) (w:World) (K:Frag) (tg:Expr) (J:It) (fp:List Addr) (it:Addr) (tn:Nat->Heap->Prop):Prop where
 mem:it∈fp
 obj:∀i h,tn i h->∀b∈fp,∃o,h.get? b=some o/\∀v,o.data≠.cell v
 keep:∀i h h',tn i h->(∀b∈fp,∀o,h.get? b=some o->h'.get? b=some o)->tn i h'
 item:∀(X:Cx),X.prog=P->X.w=w->X.K=K->X.calm=true->∀(i:Nat) (pins:List (Addr×Obj)) (s:Shared) (Z:St) (H:Hp) (E:Value->Shared->Prop),Inv X pins Z H s->(∀b∈fp,C0f X pins H b)->tn i s.heap->J.go i H->
  wpAny (model P w) X.A (pyNext (.ref it)) (λr s1=>∃u,r=some u/\
   wpAny (model P w) X.A (letOwnedTupleGo tg (.ref it) u) (λ_ s2=>∃x H',Inv X pins Z H' s2/\A3i x u/\J.yld i H x H'/\tn (i+1) s2.heap/\∀b∈fp,H' b=none) E s1) E s
 done:∀(X:Cx),X.prog=P->X.w=w->X.K=K->X.calm=true->∀(i:Nat) (pins:List (Addr×Obj)) (s:Shared) (Z:St) (H:Hp) (E:Value->Shared->Prop),Inv X pins Z H s->(∀b∈fp,C0f X pins H b)->tn i s.heap->J.stop i H->
  wpAny (model P w) X.A (pyNext (.ref it)) (λr s1=>r=none/\Inv X pins Z H s1) E s
 self:∀(A:Around) (i:Nat) (s:Shared) (Q:Value->Shared->Prop) (E:Value->Shared->Prop),tn i s.heap->Q (.ref it) s->wpAny (model P w) A (pyIter (.ref it)) Q E s
abbrev TI:=St->Hp->(It->Hp->Prop)->Prop
def PIE (X:Cx) (pins:List (Addr×Obj)) (Z:St) (tg:Expr) (R:It->Hp->Prop) (itv:Value) (s2:Shared):Prop :=
 ∃(it:Addr) (fp:List Addr) (tn:Nat->Heap->Prop) (J:It) (H':Hp),itv= .ref it/\Inv X pins Z H' s2/\D1m X.prog X.w X.K tg J fp it tn/\tn 0 s2.heap/\(∀b∈fp,C0f X pins H' b)/\R J H'
def PI (X:Cx) (tg iter:Expr) (wi:TI):Prop :=
 ∀(pins:List (Addr×Obj)) (s:Shared) (Z:St) (H:Hp) (R:It->Hp->Prop),Inv X pins Z H s->wi Z H R->
  wpAny (model X.prog X.w) X.A (eval iter X.env) (λv s1=>wpAny (model X.prog X.w) X.A (pyIter v) (PIE X pins Z tg R) X.xe s1) X.xe s
theorem C3p {M:Model} {tg:Expr} {it:Addr} {o:Obj} {n:String} {vs:Array Value} {Q:Unit->Shared->Prop} (ho:s.heap.get? it=some o) (hc:o.cls= .type n) (hd:o.data= .fields vs)
  (hn:["enumerate","zip","dict_itemiterator","dict_reverseitemiterator","odict_iterator","itertools.zip_longest","itertools.pairwise"].contains n=false) (hQ:Q () s):wpAny M A (letOwnedTupleGo tg (.ref it) u) Q E s:=by
 unfold letOwnedTupleGo
 cases tg <;> first
  | exact Z04 hQ
  | (cases u <;> first
    | exact Z04 hQ
    | (refine Z00 (wpAny_load ho ?_);rw [hc,hd];show wpAny M A (if (["enumerate","zip","dict_itemiterator","dict_reverseitemiterator","odict_iterator","itertools.zip_longest","itertools.pairwise"].contains n&&vs[0]? == some (rawInt _))=true then _ else _) Q E s;rw [Z0t (by intro h;rw [hn,Bool.false_and] at h;cases h)];exact Z04 hQ))
def Itl (K:Frag) (a:Addr):It :=
 ⟨λi H=>∃xs x,SqL K H a xs/\xs[i]? =some x,λi H x H'=>H'=H/\∀xs,SqL K H a xs->xs[i]? =some x,λi H=>∃xs,SqL K H a xs/\xs.length<=i⟩
def Itt (K:Frag) (a:Addr):It :=
 ⟨λi H=>∃xs x,SqT K H a xs/\xs[i]? =some x,λi H x H'=>H'=H/\∀xs,SqT K H a xs->xs[i]? =some x,λi H=>∃xs,SqT K H a xs/\xs.length<=i⟩
def Itr (lo:Int) (n:Nat):It:=⟨λi _=>i<n,λi H x H'=>H'=H/\x= .int (lo+i),λi _=>n<=i⟩
theorem C7s {tg:Expr} (a it:Addr):D1m P w K tg (Itl K a) [it] it (λi h=>h.IsListIter it a i) where
 mem:=by simp
 obj:=λi h st b hb=>by
  have e:b=it:=by simpa using hb
  subst e;obtain ⟨o,e,c,d⟩:=st;exact i02 o e λv z=>by rw [d] at z;cases z
 keep:=λi h h' st k=>st.at λo e=>k it (by simp) o e
 item:=by
  intro X hP hw hK hc i pins s Z H E I hf st hg;subst hP hw hK;obtain ⟨xs,x,hq,hx⟩:=hg;obtain ⟨its,rv,p,hz⟩:=I.list hq;obtain ⟨u,hu,ru⟩:=rv.get hx;obtain ⟨f0,f1,f2,f3,f4,f5⟩:=hf it (by simp);refine wpAny_pyNext_list_item st p.isList (x:=u) (by simpa using hu) λh' st' sb=> ?_;have I1:Inv X pins Z H { s with heap:=h' }:=I.turned (t':=s.toks) (λb o hb e=>(sb.2 b hb).trans e) f0 f1 f3 f4 f5
  obtain ⟨o,e,c,d⟩:=id st';exact i02 u rfl (C3p (s:={ s with heap:=h' }) e c d (by decide) (i0o x H I1 ru ⟨rfl,λys hy=>by rw [I.list_inj hy hq];exact hx⟩ st' λb hb=>(hf b hb).1))
 done:=by
  intro X hP hw hK hc i pins s Z H E I hf st hg;subst hP hw hK;obtain ⟨xs,hq,hx⟩:=hg;obtain ⟨its,rv,p,hz⟩:=I.list hq;obtain ⟨f0,f1,f2,f3,f4,f5⟩:=hf it (by simp);have hl:=rv.length;exact wpAny_pyNext_list_end (I.ok.hd hc) st p.isList (by simp;lia) λh' eb=>⟨rfl,I.turned (t':=s.toks) (λb o hb e=>eb b o hb e) f0 f1 f3 f4 f5⟩
 self:=λ_ _ _ _ _ st h=>wpAny_pyIter_listiter st h
theorem C3v {tg:Expr} (a it:Addr):D1m P w K tg (Itt K a) [it] it (λi h=>h.IsTupleIter it a i) where
 mem:=by simp
 obj:=λi h st b hb=>by
  have e:b=it:=by simpa using hb
  subst e;obtain ⟨o,e,c,d⟩:=st;exact i02 o e λv z=>by rw [d] at z;cases z
 keep:=λi h h' st k=>st.at λo e=>k it (by simp) o e
 item:=by
  intro X hP hw hK hc i pins s Z H E I hf st hg;subst hP hw hK;obtain ⟨xs,x,hq,hx⟩:=hg;obtain ⟨its,rv,p,hz⟩:=I.tuple hq;obtain ⟨u,hu,ru⟩:=rv.get hx;obtain ⟨f0,f1,f2,f3,f4,f5⟩:=hf it (by simp);refine wpAny_pyNext_tuple_item st (show s.heap.IsTuple a its.toArray from p) (x:=u) (by simpa using hu) λh' st' sb=> ?_;have I1:Inv X pins Z H { s with heap:=h' }:=I.turned (t':=s.toks) (λb o hb e=>(sb.2 b hb).trans e) f0 f1 f3 f4 f5
  obtain ⟨o,e,c,d⟩:=id st';exact i02 u rfl (C3p (s:={ s with heap:=h' }) e c d (by decide) (i0o x H I1 ru ⟨rfl,λys hy=>by rw [I.tuple_inj hy hq];exact hx⟩ st' λb hb=>(hf b hb).1))
 done:=by
  intro X hP hw hK hc i pins s Z H E I hf st hg;subst hP hw hK;obtain ⟨xs,hq,hx⟩:=hg;obtain ⟨its,rv,p,hz⟩:=I.tuple hq;obtain ⟨f0,f1,f2,f3,f4,f5⟩:=hf it (by simp);have hl:=rv.length;exact wpAny_pyNext_tuple_end (I.ok.hd hc) st (show s.heap.IsTuple a its.toArray from p) (by simp;lia) λh' eb=>⟨rfl,I.turned (t':=s.toks) (λb o hb e=>eb b o hb e) f0 f1 f3 f4 f5⟩
 self:=λ_ _ _ _ _ st h=>wpAny_pyIter_tupleiter st h
theorem C3c {tg:Expr} (it:Addr) (lo:Int) (n:Nat):D1m P w K tg (Itr lo n) [it] it (λi h=>IsRangeIter h it (lo+(i:Nat)*1) ((n:Int)-(i:Nat)) 1) where
 mem:=by simp
 obj:=λi h st b hb=>by
  have e:b=it:=by simpa using hb
  subst e
  exact ⟨_,st,λv z=>by
   have z':Data.fields _=Data.cell v:=z
   cases z'⟩
 keep:=λi h h' st k=>k it (by simp) _ st
 item:=by
  intro X hP hw hK hc i pins s Z H E I hf st hg;subst hP hw hK;obtain ⟨f0,f1,f2,f3,f4,f5⟩:=hf it (by simp);have W:=Walks.range (prog:=X.prog) (w:=X.w) (I.ok.hd hc) it lo 1 n;refine W.item i s _ _ hg st λv h' tk hv st' kk=> ?_;obtain ⟨t,rfl⟩:=hv;have I1:Inv X pins Z H { s with heap:=h',toks:=tk }:=I.turned (λb o hb e=>kk b o (by simpa using hb) e) f0 f1 f3 f4 f5
  refine i02 _ rfl (C3p (s:={ s with heap:=h',toks:=tk }) (n:="range_iterator") st' rfl rfl (by decide) (i0o (.int (lo+i)) H I1 ⟨t,?_⟩ ⟨rfl,rfl⟩ st' λb hb=>(hf b hb).1))
  rw [Int.mul_one]
 done:=by
  intro X hP hw hK hc i pins s Z H E I hf st hg;subst hP hw hK;obtain ⟨f0,f1,f2,f3,f4,f5⟩:=hf it (by simp);exact wpAny_pyNext_range_end (I.ok.hd hc) st (by have:n<=i:=hg;lia) λh' eb=>⟨rfl,I.turned (t':=s.toks) (λb o hb e=>eb b o hb e) f0 f1 f3 f4 f5⟩
 self:=λ_ _ _ _ _ st h=>wpAny_pyIter_rangeiter st h
section
variable {X:Cx} {tg:Expr}
def D7m (K:Frag) (tl:TE):TI:=λZ H R=>tl Z H λx H1=>∃a,x= .ref a/\(∃xs,SqL K H1 a xs)/\R (Itl K a) H1
def E0z (K:Frag) (tl:TE):TI:=λZ H R=>tl Z H λx H1=>∃a,x= .ref a/\(∃xs,SqT K H1 a xs)/\R (Itt K a) H1
theorem A2g {l:Expr} {tl:TE} (hl:PE X l tl):PI X tg l (D7m X.K tl):=by
 intro pins s Z H R I h;refine thn (hl pins s Z H _ I h) ?_;rintro v s1 ⟨x,H1,I1,r1,q1⟩;obtain ⟨a,e,⟨xs,hq⟩,q⟩:=q1;subst e;cases r1;obtain ⟨its,rv,p,hz⟩:=I1.list hq;refine wpAny_pyIter_list p.isList ?_;refine i14 s1.heap.objs.size [s1.heap.objs.size] _ _ H1 rfl (I1.kept (t':=s1.toks) λb o e=>Z01 _ e) (C7s a _) (i06 _ (Z0c _ rfl) rfl rfl) (λb hb=> ?_) q;have e:b=s1.heap.objs.size:=by simpa using hb
 subst e;exact I1.fpOk (Z09 _) (I1.hok.fresh (Z09 _))
theorem D8c {l:Expr} {tl:TE} (hl:PE X l tl):PI X tg l (E0z X.K tl):=by
 intro pins s Z H R I h;refine thn (hl pins s Z H _ I h) ?_;rintro v s1 ⟨x,H1,I1,r1,q1⟩;obtain ⟨a,e,⟨xs,hq⟩,q⟩:=q1;subst e;cases r1;obtain ⟨its,rv,p,hz⟩:=I1.tuple hq;refine wpAny_pyIter_tuple (show s1.heap.IsTuple a its.toArray from p) ?_;refine i14 s1.heap.objs.size [s1.heap.objs.size] _ _ H1 rfl (I1.kept (t':=s1.toks) λb o e=>Z01 _ e) (C3v a _) (i06 _ (Z0c _ rfl) rfl rfl) (λb hb=> ?_) q;have e:b=s1.heap.objs.size:=by simpa using hb
 subst e;exact I1.fpOk (Z09 _) (I1.hok.fresh (Z09 _))
theorem C9x {R:It->Hp->Prop} {lo hi:Int} {t u v:Tok} {tk:Nat} (I:Inv X pins Z H s) (h1: -(2^62)<=lo) (h2:lo<2^62) (h3: -(2^62)<=hi) (h4:hi<2^62)
  (q:R (Itr lo (hi-lo).toNat) H):wpAny (model X.prog X.w) X.A (pyIter (.ref s.heap.objs.size)) (PIE X pins Z tg R) E { s with heap:=s.heap.push { cls:= .type "range",data:= .fields #[.int lo t,.int hi u,.int 1 v] },toks:=tk }:=by
 refine wpAny_pyIter_range (IsRange.new ..) (small_one h1 h2 h3 h4) ?_;have I1:Inv X pins Z H { s with heap:=s.heap.push { cls:= .type "range",data:= .fields #[.int lo t,.int hi u,.int 1 v] },toks:=tk }:=I.kept λb o e=>Z01 _ e
 refine ⟨(s.heap.push { cls:= .type "range",data:= .fields #[.int lo t,.int hi u,.int 1 v] }).objs.size,[(s.heap.push { cls:= .type "range",data:= .fields #[.int lo t,.int hi u,.int 1 v] }).objs.size],_,_,H,rfl,
  I1.kept (t':=tk) λb o e=>Z01 _ e,C3c _ lo (hi-lo).toNat,?_,λb hb=> ?_,q⟩
 ·have e1:lo+((0:Nat):Int)*1=lo:=by simp
  have e2:(((hi-lo).toNat:Nat):Int)-((0:Nat):Int)=Builtin.Range.rangeSize lo hi 1:=by rw [rangeSize_one];split <;> lia
  show IsRangeIter _ _ (lo+((0:Nat):Int)*1) ((((hi-lo).toNat:Nat):Int)-((0:Nat):Int)) 1;rw [e1,e2];exact Z0c _ rfl
 ·have e:b=(s.heap.push { cls:= .type "range",data:= .fields #[.int lo t,.int hi u,.int 1 v] }).objs.size:=by simpa using hb
  subst e;exact I1.fpOk (Z09 _) (I1.hok.fresh (Z09 _))
def E0n (ta:TA):TI:=λZ H R=>ta Z H λvs H1=>∃j:Int,vs=[.int j]/\-(2^62)<=j/\j<2^62/\R (Itr 0 j.toNat) H1
theorem A4d {a:Expr} {ta:TA} {p:Pos} (hg:Gl X "range") (hm:X.mg "range"=none) (ha:PA X [a] ta) (hs:starEach [a] X.env=[(false,eval a X.env)]:=by rfl):PI X tg (.Call (.Name "range" p) [a] [] pos) (E0n ta):=by
 intro pins s Z H R I h;refine Call_ (B1k I hg hm boot_range (PyProof.Rows.callWith_type1 (thn (ha pos pins s Z H _ I h) ?_) hs rfl));rintro us s1 ⟨vs,H1,I1,r1,q1⟩;obtain ⟨j,e,q1,q2,q⟩:=q1;subst e
 cases r1 with
 | cons r rr =>
  cases rr
  obtain ⟨t,rfl⟩:=r;exact call_range_1 (C9x I1 (by lia) (by lia) q1 q2 (by simpa using q))
def tFor (wi:TI) (g:TG) (tb:TS):TS:=λD Z H=>wi Z H λJ H1=>∃W:Nat->Nat->St->Hp->Prop,(∃m,W 0 m Z H1)/\∀i m Z H,W i m Z H->
 (J.stop i H/\D.nx Z H)\/(J.go i H/\∃N:St->Hp->Prop,(∀Z' H',N Z' H'->∃m',m'<m/\W (i+1) m' Z' H')/\∀x H',J.yld i H x H'->g x Z H' λZ2 H2=>tb { D with nx:=N,ct:=N,bk:=D.nx } Z2 H2)
def B4u (fp:List Addr) (h:Heap):List (Addr×Obj):=fp.filterMap λb=>(h.get? b).map λo=>(b,o)
theorem A5n {b:Addr} {o:Obj} (hb:b∈fp) (e:h.get? b=some o):(b,o)∈B4u fp h:=List.mem_filterMap.mpr (i02 b hb (by rw [e];rfl))
theorem C8f {p:Addr×Obj} (hp:p∈B4u fp h):p.1∈fp/\h.get? p.1=some p.2:=by
 obtain ⟨b,hb,e⟩:=List.mem_filterMap.mp hp
 cases q:h.get? b with
 | none=>rw [q] at e;cases e
 | some o =>
  rw [q] at e;have e':(b,o)=p:=Z1a e;subst e';exact ⟨hb,q⟩
theorem Inv.pinned (I:Inv X pins Z H s) (hf:∀b∈fp,C0f X pins H b) (ho:∀b∈fp,∃o,s.heap.get? b=some o/\∀v,o.data≠.cell v):Inv X (pins++B4u fp s.heap) Z H s :=
 I.pins_of λp hp=>(Z07.mp hp).elim (λz=>I.pin p (Z02 _ z)) λz=>by
  obtain ⟨hb,e⟩:=C8f z;obtain ⟨f0,f1,f2,_⟩:=hf p.1 hb;obtain ⟨o,e',d⟩:=ho p.1 hb;rw [e] at e';cases e';exact i09 e f0 f1 f2 d
theorem Inv.unpinned {pl:List (Addr×Obj)} (I:Inv X (pins++pl) Z H s):Inv X pins Z H s:=I.pins_of λp hp=>I.pin p (Z02 _ (Z05 _ hp))
theorem A2y {iter:Expr} {wi:TI} {g:TG} {tb:TS} (hp:PassesOwn (model X.prog X.w) X.A X.env X.xe) (hc:X.calm=true) (hi:PI X tg iter wi) (hg:PG X tg g) (hb:PSs X body tb)
  (hs:∀x,foldedSetIterable iter X.env x=pure x:=by intro _;rfl):PS X (.For tg iter body [] pos) (tFor wi g tb):=by
 intro pins s Z H D I h;refine wpAny_For (thn (hi pins s Z H _ I h) λv s1 h1=>thn h1 λitv s2 h2=> ?_) hs;obtain ⟨it,fp,tn,J,H2,e,I2,T,st2,f2,W,⟨m0,w0⟩,turn⟩:=h2;subst e;have stat:∀{H':Hp},(∀b∈fp,H' b=none)->∀b∈fp,C0f X pins H' b:=λhn b hb=>⟨hn b hb,(f2 b hb).2⟩;refine codeAny_forLoop_any (λn s'=>∃i Z' H',Inv X pins Z' H' s'/\tn i s'.heap/\(∀b∈fp,H' b=none)/\W i n Z' H') ?_ m0 (i0q 0 Z H2 I2 st2 (λb hb=>(f2 b hb).1) w0);rintro n s3 ⟨i,Z3,H3,I3,st3,fr3,w3⟩;rcases turn i n Z3 H3 w3 with ⟨stop,qn⟩ | ⟨go,N,hN,step⟩
 ·refine wpAny_passesOwn hp (thn (T.done X rfl rfl rfl hc i pins s3 Z3 H3 X.xe I3 (stat fr3) st3 stop) ?_);rintro r s4 ⟨hr,I4⟩;subst hr;exact Z2b (i07 Z3 H3 I4 qn)
 ·refine wpAny_passesOwn hp (thn (T.item X rfl rfl rfl hc i pins s3 Z3 H3 X.xe I3 (stat fr3) st3 go) ?_);rintro r s4 ⟨u,hr,h4⟩;subst hr;refine wpAny_passesOwn hp (thn h4 ?_);rintro _ s5 ⟨x,H5,I5,r5,y5,st5,fr5⟩;have I5':=I5.pinned (stat fr5) (T.obj _ _ st5);refine wpAny_passesOwn hp (thn (hg _ s5 Z3 H5 x u _ I5' r5 (step x H5 y5)) ?_);rintro _ s6 ⟨Z6,H6,I6,q6⟩;refine wpAny_passesOwn hp (thn (hb _ s6 Z6 H6 _ I6 q6) λf s7 q7=> ?_)
  have again:∀{Z7:St} {H7:Hp},Inv X (pins++B4u fp s5.heap) Z7 H7 s7->N Z7 H7->∃m,m<n/\∃i Z' H',Inv X pins Z' H' s7/\tn i s7.heap/\(∀b∈fp,H' b=none)/\W i m Z' H':=λ{Z7 H7} I7 n7=>by
   obtain ⟨m',hm,w7⟩:=hN Z7 H7 n7;refine i0x m' hm (i+1) Z7 H7 I7.unpinned (T.keep _ _ _ st5 λb hb o e=>(I7.pin (b,o) (Z02 _ (Z02 _ (A5n hb e)))).1) (λb hb=> ?_) w7;obtain ⟨o,e,d⟩:=T.obj _ _ st5 b hb;exact (I7.pin (b,o) (Z02 _ (Z02 _ (A5n hb e)))).2.1
  cases f with
  | next=>obtain ⟨Z7,H7,I7,n7⟩:=q7;exact again I7 n7
  | cont=>obtain ⟨Z7,H7,I7,n7⟩:=q7;exact again I7 n7
  | brk=>obtain ⟨Z7,H7,I7,q7⟩:=q7;exact i07 Z7 H7 I7.unpinned q7
  | ret v=>obtain ⟨x7,Z7,H7,I7,r7,q7⟩:=q7;exact ⟨x7,Z7,H7,I7.unpinned,r7,q7⟩
end
theorem A3f {a:Addr} {xs:List V} {g:TG} {tb:TS} {D:C6p} (Pv:Nat->St->Hp->Prop) (h0:Pv 0 Z H) (hl:∀i Z H,i<=xs.length->Pv i Z H->SqL K H a xs)
  (hs:∀i x Z H,xs[i]? =some x->Pv i Z H->g x Z H λZ2 H2=>tb { D with nx:=Pv (i+1),ct:=Pv (i+1),bk:=D.nx } Z2 H2) (hd:∀Z H,Pv xs.length Z H->D.nx Z H) :
  ∃W:Nat->Nat->St->Hp->Prop,(∃m,W 0 m Z H)/\∀i m Z H,W i m Z H->
   ((Itl K a).stop i H/\D.nx Z H)\/((Itl K a).go i H/\∃N:St->Hp->Prop,(∀Z' H',N Z' H'->∃m',m'<m/\W (i+1) m' Z' H')/\∀x H',(Itl K a).yld i H x H'->g x Z H' λZ2 H2=>tb { D with nx:=N,ct:=N,bk:=D.nx } Z2 H2):=by
 refine i02 (λi m Z H=>m=xs.length-i/\i<=xs.length/\Pv i Z H) (i06 xs.length (by simp) (Z1e _) h0) ?_;rintro i m Z H ⟨rfl,hi,p⟩;have q:=hl i Z H hi p;by_cases hlt:i<xs.length
 ·refine .inr (i05 (i07 xs (xs[i]) q (by simp [hlt])) (Pv (i+1)) (λZ' H' p'=>(i0c (xs.length-(i+1)) (by lia) rfl hlt p')) λx H' y=> ?_);obtain ⟨e,y⟩:=y;subst e;exact hs i x Z _ (y xs q) p
 ·have e:i=xs.length:=by lia
  subst e;exact .inl ⟨(i02 xs q (Z09 _)),hd Z H p⟩
theorem A4q {lo:Int} {n:Nat} {g:TG} {tb:TS} {D:C6p} (Pv:Nat->St->Hp->Prop) (h0:Pv 0 Z H)
  (hs:∀i Z H,i<n->Pv i Z H->g (.int (lo+i)) Z H λZ2 H2=>tb { D with nx:=Pv (i+1),ct:=Pv (i+1),bk:=D.nx } Z2 H2) (hd:∀Z H,Pv n Z H->D.nx Z H) :
  ∃W:Nat->Nat->St->Hp->Prop,(∃m,W 0 m Z H)/\∀i m Z H,W i m Z H->
   ((Itr lo n).stop i H/\D.nx Z H)\/((Itr lo n).go i H/\∃N:St->Hp->Prop,(∀Z' H',N Z' H'->∃m',m'<m/\W (i+1) m' Z' H')/\∀x H',(Itr lo n).yld i H x H'->g x Z H' λZ2 H2=>tb { D with nx:=N,ct:=N,bk:=D.nx } Z2 H2):=by
 refine i02 (λi m Z H=>m=n-i/\i<=n/\Pv i Z H) (i06 n (by simp) (Z1e _) h0) ?_;rintro i m Z H ⟨rfl,hi,p⟩;by_cases hlt:i<n
 ·refine .inr (i05 hlt (Pv (i+1)) (λZ' H' p'=>(i0c (n-(i+1)) (by lia) rfl hlt p')) λx H' y=> ?_);obtain ⟨e,y⟩:=y;subst e y;exact hs i Z _ hlt p
 ·have e:i=n:=by lia
  subst e;exact .inl ⟨Z09 _,hd Z H p⟩
abbrev R2:=V->V->Hp->VK->Prop
def OpR (X:Cx) (f:Value->Value->Sem Value) (r:R2):Prop :=
 ∀(pins:List (Addr×Obj)) (s:Shared) (Z:St) (H:Hp) (x y:V) (v u:Value) (Q:VK),Inv X pins Z H s->A3i x v->A3i y u->r x y H Q->
  wpAny (model X.prog X.w) X.A (f v u) (EP X pins Z Q) X.xe s
def UnR (X:Cx) (f:Value->Sem Value) (r:V->Hp->VK->Prop):Prop :=
 ∀(pins:List (Addr×Obj)) (s:Shared) (Z:St) (H:Hp) (x:V) (v:Value) (Q:VK),Inv X pins Z H s->A3i x v->r x H Q->
  wpAny (model X.prog X.w) X.A (f v) (EP X pins Z Q) X.xe s
def B0c (X:Cx) (f:Value) (r:List V->Hp->VK->Prop):Prop :=
 ∀(pins:List (Addr×Obj)) (s:Shared) (Z:St) (H:Hp) (xs:List V) (us:List Value) (Q:VK),Inv X pins Z H s->A3y xs us->r xs H Q->
  wpAny (model X.prog X.w) X.A (call f us) (EP X pins Z Q) X.xe s
def tOp (r:R2) (ta tb:TE):TE:=λZ H Q=>ta Z H λx H1=>tb Z H1 λy H2=>r x y H2 Q
def tUn (r:V->Hp->VK->Prop) (ta:TE):TE:=λZ H Q=>ta Z H λx H1=>r x H1 Q
def rI (C:Int->Int->Prop) (g:Int->Int->V):R2:=λx y H Q=>∃i j,x= .int i/\y= .int j/\C i j/\Q (g i j) H
def rI0 (g:Int->Int->V):R2:=λx y H Q=>∃i j,x= .int i/\y= .int j/\Q (g i j) H
def rU (g:Int->V):V->Hp->VK->Prop:=λx H Q=>∃i,x= .int i/\Q (g i) H
section
variable {X:Cx} {a b c:Expr} {ta tb tc:TE} {pos:Pos}
theorem D9i (ha:PE X a ta) (hb:PE X b tb) {R:V->V->Hp->Prop} (I:Inv X pins Z H s)
  (h:ta Z H λx H1=>tb Z H1 λy H2=>R x y H2)
  (hf:∀v u s2 x y H2,Inv X pins Z H2 s2->A3i x v->A3i y u->R x y H2->wpAny (model X.prog X.w) X.A (f v u) Q X.xe s2) :
  wpAny (model X.prog X.w) X.A (eval a X.env) (λv s₁=>wpAny (model X.prog X.w) X.A (eval b X.env) (λu s₂=>wpAny (model X.prog X.w) X.A (f v u) Q X.xe s₂) X.xe s₁) X.xe s:=by
 refine thn (ha pins s Z H _ I h) ?_;rintro v s1 ⟨x,H1,I1,r1,q1⟩;refine thn (hb pins s1 Z H1 _ I1 q1) ?_;rintro u s2 ⟨y,H2,I2,r2,q2⟩;exact hf v u s2 x y H2 I2 r1 r2 q2
theorem A0o {op:Operator} {r:R2} (ho:OpR X (binaryOp op) r) (ha:PE X a ta) (hb:PE X b tb):PE X (.BinOp a op b pos) (tOp r ta tb):=by
 intro pins s Z H Q I h;exact wpAny_BinOp (D9i ha hb I h λv u s2 x y H2 I2 rx ry q=>ho pins s2 Z H2 x y v u Q I2 rx ry q)
theorem C3u {op:UnaryOp} {r:V->Hp->VK->Prop} (ho:UnR X (unaryOp op) r) (ha:PE X a ta):PE X (.UnaryOp op a pos) (tUn r ta):=by
 intro pins s Z H Q I h;exact UnaryOp_ (thn (ha pins s Z H _ I h) (by rintro v s1 ⟨x,H1,I1,r1,q1⟩;exact ho pins s1 Z H1 x v Q I1 r1 q1))
theorem opI {C:Int->Int->Prop}
  (rule:∀(i j:Int) (t u:Tok) (s:Shared) (Q:Value->Shared->Prop) (E:Value->Shared->Prop),C i j->Q (.int (g i j) s.toks) { s with toks:=s.toks+1 }->wpAny (model X.prog X.w) X.A (f (.int i t) (.int j u)) Q E s) :
  OpR X f (rI C λi j=> .int (g i j)):=by
 intro pins s Z H x y v u Q I rx ry h;obtain ⟨i,j,rfl,rfl,hc,q⟩:=h;obtain ⟨t,rfl⟩:=rx;obtain ⟨t',rfl⟩:=ry;exact rule i j t t' s _ _ hc (i0f (.int (g i j)) H (I.tok _) ⟨_,rfl⟩ q)
theorem E0y
  (rule:∀(i j:Int) (t u:Tok) (s:Shared) (Q:Value->Shared->Prop) (E:Value->Shared->Prop),Q (.int (g i j) s.toks) { s with toks:=s.toks+1 }->wpAny (model X.prog X.w) X.A (f (.int i t) (.int j u)) Q E s) :
  OpR X f (rI0 λi j=> .int (g i j)):=by
 intro pins s Z H x y v u Q I rx ry h;obtain ⟨i,j,rfl,rfl,q⟩:=h;obtain ⟨t,rfl⟩:=rx;obtain ⟨t',rfl⟩:=ry;exact rule i j t t' s _ _ (i0f (.int (g i j)) H (I.tok _) ⟨_,rfl⟩ q)
theorem D8x {g:Int->Int->Bool}
  (rule:∀(i j:Int) (t u:Tok) (s:Shared) (Q:Value->Shared->Prop) (E:Value->Shared->Prop),Q (.bool (g i j)) s->wpAny (model X.prog X.w) X.A (f (.int i t) (.int j u)) Q E s) :
  OpR X f (rI0 λi j=> .bl (g i j)):=by
 intro pins s Z H x y v u Q I rx ry h;obtain ⟨i,j,rfl,rfl,q⟩:=h;obtain ⟨t,rfl⟩:=rx;obtain ⟨t',rfl⟩:=ry;exact rule i j t t' s _ _ (i0f (.bl (g i j)) H I rfl q)
def CDiv (i j:Int):Prop:=0<j/\j<1073741824
def CPow (i j:Int):Prop:=0<=j/\j<=1000000/\i.natAbs<2^64
def E0k (i j:Int):Prop:=(-(2^64)<i/\i<2^64)\/(-(2^64)<j/\j<2^64)
theorem E0k.ok {i j:Int} (h:E0k i j):IntMulOk i j:=by
 rcases h with ⟨h1,h2⟩ | ⟨h1,h2⟩
 ·exact .of_left (intBits_le_64 h1 h2)
 ·exact .of_right (intBits_le_64 h1 h2)
theorem A2h:OpR X (binaryOp .Add) (rI0 λi j=> .int (i+j)):=E0y λ_ _ _ _ _ _ _ q=>add_int q
theorem A4n:OpR X (binaryOp .Sub) (rI0 λi j=> .int (i-j)):=E0y λ_ _ _ _ _ _ _ q=>sub_int q
theorem A7n:OpR X (binaryOp .Mult) (rI E0k λi j=> .int (i*j)):=opI λ_ _ _ _ _ _ _ hc q=>mul_int q hc.ok
theorem A1t:OpR X (binaryOp .FloorDiv) (rI CDiv λi j=> .int (i/j)):=opI λi j _ _ _ _ _ hc q=>by
 have h1:(0:Int)<j:=hc.1;have h2:j<1073741824:=hc.2;exact floordiv_int (by lia) (by rw [Int.fdiv_eq_ediv_of_nonneg i (by lia)];exact q) (.inl (PyProof.noPylong_small (by lia)))
theorem A1w:OpR X (binaryOp .Mod) (rI (λ_ j=>0<j) λi j=> .int (i%j)):=opI λi j _ _ _ _ _ hc q=>by
 have h1:(0:Int)<j:=hc;exact mod_int' (by lia) (by rw [Int.fmod_eq_emod_of_nonneg i (by lia)];exact q)
theorem A9s:OpR X (binaryOp .Pow) (rI CPow λi j=> .int (i^j.toNat)):=opI λ_ _ _ _ _ _ _ hc q=>pow_int_small hc.1 hc.2.1 hc.2.2 q
theorem unI {f:Value->Sem Value} {g:Int->Int}
  (rule:∀(i:Int) (t:Tok) (s:Shared) (Q:Value->Shared->Prop) (E:Value->Shared->Prop),Q (.int (g i) s.toks) { s with toks:=s.toks+1 }->wpAny (model X.prog X.w) X.A (f (.int i t)) Q E s) :
  UnR X f (rU λi=> .int (g i)):=by
 intro pins s Z H x v Q I rx h;obtain ⟨i,rfl,q⟩:=h;obtain ⟨t,rfl⟩:=rx;exact rule i t s _ _ (i0f (.int (g i)) H (I.tok _) ⟨_,rfl⟩ q)
theorem B4q:UnR X (unaryOp .USub) (rU λi=> .int (-i)):=unI λ_ _ _ _ _ q=>neg_int q
end
def E0v:V->V->Bool
 | .non,.non=>true | .non,.int _=>true | .int _,.non=>true | .non,.bl _=>true | .bl _,.non=>true | .non,.str _=>true | .str _,.non=>true
 | .int _,.int _=>true | .bl _,.bl _=>true | .str _,.str _=>true | .byt _,.byt _=>true
 | .int _,.str _=>true | .str _,.int _=>true | .bl _,.str _=>true | .str _,.bl _=>true
 | _,_=>false
def rEq:R2:=λx y H Q=>E0v x y=true/\Q (.bl (decide (x=y))) H
def rNe:R2:=λx y H Q=>E0v x y=true/\Q (.bl (! decide (x=y))) H
theorem C4x {i j:Int}:decide (V.int i=V.int j)=(i == j):=by
 rw [Bool.eq_iff_iff];simp
theorem D1j {i j:Bool}:decide (V.bl i=V.bl j)=(i == j):=by
 rw [Bool.eq_iff_iff];simp
theorem C7z {i j:Str}:decide (V.str i=V.str j)=(i == j):=by
 rw [Bool.eq_iff_iff];simp
theorem C8n {i j:Array UInt8}:decide (V.byt i=V.byt j)=(i.toList == j.toList):=by
 rw [Bool.eq_iff_iff];cases i;cases j;simp
section
variable {X:Cx} {a b c:Expr} {ta tb tc:TE} {pos:Pos}
theorem A2n {Q:VK} {k k':Bool} (I:Inv X pins Z H s) (q:Q (.bl k) H) (e:k=k'):EP X pins Z Q (.bool k') s:=by
 subst e;exact i0f (.bl k) H I rfl q
theorem A2x:OpR X (compareOp .Eq) rEq:=by
 intro pins s Z H x y v u Q I rx ry h;obtain ⟨hs,q⟩:=h
 cases x with
 | non =>
  cases rx
  cases y with
  | non=>cases ry;exact PySem.EqNone.eq_none_none (A2n I q (by simp))
  | bl j=>cases ry;exact PySem.EqNone.eq_none_bool (A2n I q (by simp))
  | int j=>obtain ⟨t',rfl⟩:=ry;exact PySem.EqNone.eq_none_int (A2n I q (by simp))
  | str j=>obtain ⟨t',rfl⟩:=ry;exact PySem.EqNone.eq_none_str (A2n I q (by simp))
  | _=>exact absurd (show false=true from hs) Z0v
 | bl i =>
  cases rx
  cases y with
  | non=>cases ry;exact PySem.EqNone.eq_bool_none (A2n I q (by simp))
  | bl j=>cases ry;exact eq_bool (A2n I q D1j)
  | str j=>obtain ⟨t',rfl⟩:=ry;exact PySem.EqMixed.eq_bool_str (A2n I q (by simp))
  | _=>exact absurd (show false=true from hs) Z0v
 | int i =>
  obtain ⟨t,rfl⟩:=rx
  cases y with
  | non=>cases ry;exact PySem.EqNone.eq_int_none (A2n I q (by simp))
  | int j=>obtain ⟨t',rfl⟩:=ry;exact eq_int (A2n I q C4x)
  | str j=>obtain ⟨t',rfl⟩:=ry;exact PySem.EqMixed.eq_int_str (A2n I q (by simp))
  | _=>exact absurd (show false=true from hs) Z0v
 | str i =>
  obtain ⟨t,rfl⟩:=rx
  cases y with
  | non=>cases ry;exact PySem.EqNone.eq_str_none (A2n I q (by simp))
  | bl j=>cases ry;exact PySem.EqMixed.eq_str_bool (A2n I q (by simp))
  | int j=>obtain ⟨t',rfl⟩:=ry;exact PySem.EqMixed.eq_str_int (A2n I q (by simp))
  | str j=>obtain ⟨t',rfl⟩:=ry;exact eq_str (A2n I q C7z)
  | _=>exact absurd (show false=true from hs) Z0v
 | byt i =>
  obtain ⟨t,rfl⟩:=rx
  cases y with
  | byt j=>obtain ⟨t',rfl⟩:=ry;exact PySem.W.eq_bytes (A2n I q C8n)
  | _=>exact absurd (show false=true from hs) Z0v
 | _=>cases y <;> exact absurd (show false=true from hs) Z0v
theorem D0t:OpR X (compareOp .NotEq) rNe:=by
 intro pins s Z H x y v u Q I rx ry h;obtain ⟨hs,q⟩:=h
 cases x with
 | non =>
  cases rx
  cases y with
  | non=>cases ry;exact PySem.EqNone.ne_none_none (A2n I q (by simp))
  | bl j=>cases ry;exact PySem.EqNone.ne_none_bool (A2n I q (by simp))
  | int j=>obtain ⟨t',rfl⟩:=ry;exact PySem.EqNone.ne_none_int (A2n I q (by simp))
  | str j=>obtain ⟨t',rfl⟩:=ry;exact PySem.EqNone.ne_none_str (A2n I q (by simp))
  | _=>exact absurd (show false=true from hs) Z0v
 | bl i =>
  cases rx
  cases y with
  | non=>cases ry;exact PySem.EqNone.ne_bool_none (A2n I q (by simp))
  | bl j=>cases ry;exact ne_bool (A2n I q (congrArg not D1j))
  | str j=>obtain ⟨t',rfl⟩:=ry;exact PySem.EqMixed.ne_bool_str (A2n I q (by simp))
  | _=>exact absurd (show false=true from hs) Z0v
 | int i =>
  obtain ⟨t,rfl⟩:=rx
  cases y with
  | non=>cases ry;exact PySem.EqNone.ne_int_none (A2n I q (by simp))
  | int j=>obtain ⟨t',rfl⟩:=ry;exact ne_int (A2n I q (congrArg not C4x))
  | str j=>obtain ⟨t',rfl⟩:=ry;exact PySem.EqMixed.ne_int_str (A2n I q (by simp))
  | _=>exact absurd (show false=true from hs) Z0v
 | str i =>
  obtain ⟨t,rfl⟩:=rx
  cases y with
  | non=>cases ry;exact PySem.EqNone.ne_str_none (A2n I q (by simp))
  | bl j=>cases ry;exact PySem.EqMixed.ne_str_bool (A2n I q (by simp))
  | int j=>obtain ⟨t',rfl⟩:=ry;exact PySem.EqMixed.ne_str_int (A2n I q (by simp))
  | str j=>obtain ⟨t',rfl⟩:=ry;exact ne_str (A2n I q (congrArg not C7z))
  | _=>exact absurd (show false=true from hs) Z0v
 | byt i =>
  obtain ⟨t,rfl⟩:=rx
  cases y with
  | byt j=>obtain ⟨t',rfl⟩:=ry;exact PySem.W.ne_bytes (A2n I q (congrArg not C8n))
  | _=>exact absurd (show false=true from hs) Z0v
 | _=>cases y <;> exact absurd (show false=true from hs) Z0v
theorem B5e:OpR X (compareOp .Lt) (rI0 λi j=> .bl (decide (i<j))):=D8x λ_ _ _ _ _ _ _ q=>lt_int q
theorem C9g:OpR X (compareOp .LtE) (rI0 λi j=> .bl (decide (i<=j))):=D8x λ_ _ _ _ _ _ _ q=>le_int q
theorem A7q:OpR X (compareOp .Gt) (rI0 λi j=> .bl (decide (j<i))):=D8x λ_ _ _ _ _ _ _ q=>gt_int q
theorem E0p:OpR X (compareOp .GtE) (rI0 λi j=> .bl (decide (j<=i))):=D8x λ_ _ _ _ _ _ _ q=>ge_int q
theorem B8g:OpR X (compareOp .Is) (λx y H Q=>y= .non/\Q (.bl (decide (x= .non))) H):=by
 intro pins s Z H x y v u Q I rx ry h;obtain ⟨rfl,q⟩:=h;cases ry;refine is_none_gen (A2n I q ?_)
 cases x <;> first
  | (cases rx;rfl)
  | (obtain ⟨t,rfl⟩:=rx;rfl)
theorem C7b:OpR X (compareOp .IsNot) (λx y H Q=>y= .non/\Q (.bl (! decide (x= .non))) H):=by
 intro pins s Z H x y v u Q I rx ry h;obtain ⟨rfl,q⟩:=h;cases ry;refine isnot_none_gen (A2n I q ?_)
 cases x <;> first
  | (cases rx;rfl)
  | (obtain ⟨t,rfl⟩:=rx;rfl)
theorem A1a (b:Expr) (h:op≠.In:=by decide) (h2:op≠.NotIn:=by decide):behindInMarks op b=false:=by
 have e1:(op == CmpOp.In)=false:=by cases op <;> first | rfl | exact absurd rfl h
 have e2:(op == CmpOp.NotIn)=false:=by cases op <;> first | rfl | exact absurd rfl h2
 cases b <;> simp [behindInMarks,e1,e2]
theorem B3s {r:R2} (ho:OpR X (compareOp op) r) (ha:PE X a ta) (hb:PE X b tb) (hm:behindInMarks op b=false):PE X (.Compare a [op] [b] pos) (tOp r ta tb):=by
 intro pins s Z H Q I h;exact wpAny_Compare1 (D9i ha hb I h λv u s2 x y H2 I2 rx ry q=>ho pins s2 Z H2 x y v u Q I2 rx ry q) hm
def C0p (t:TE):TT:=λZ H Q=>t Z H λx H'=>∃k,x= .bl k/\Q k H'
theorem A0q {r:R2} (ho:OpR X (compareOp op) r) (ha:PE X a ta) (hb:PE X b tb) (hm:behindInMarks op b=false):PT X (.Compare a [op] [b] pos) (C0p (tOp r ta tb)):=by
 intro pins s Z H Q I h
 refine wpAny_isTrue_Compare1 (thn (ha pins s Z H _ I h) λv s1 ⟨x,H1,I1,r1,q1⟩=>thn (hb pins s1 Z H1 _ I1 q1) λu s2 ⟨y,H2,I2,r2,q2⟩ =>
  thn (ho pins s2 Z H2 x y v u _ I2 r1 r2 q2) λc s3 ⟨z,H3,I3,r3,k,e,q3⟩=> ?_) hm
 subst e;cases r3;exact wpAny_truthy_bool (i02 H3 I3 q3)
def D8q (r r':R2) (ta tb tc:TE):TE:=λZ H Q=>ta Z H λx H1=>tb Z H1 λy H2=>r x y H2 λz H3=>∃k,z= .bl k/\
 (if k=true then tc Z H3 λw' H4=>r' y w' H4 Q else Q (.bl false) H3)
theorem C9y {op':CmpOp} {r r':R2} (ho:OpR X (compareOp op) r) (ho':OpR X (compareOp op') r') (ha:PE X a ta) (hb:PE X b tb) (hc:PE X c tc)
  (hm:lastMarks [op,op'] [b,c]=false:=by with_unfolding_all rfl):PT X (.Compare a [op,op'] [b,c] pos) (C0p (D8q r r' ta tb tc)):=by
 intro pins s Z H Q I h
 refine isTrue_chain (thn (ha pins s Z H _ I h) λv s1 ⟨x,H1,I1,r1,q1⟩=>test_link (thn (hb pins s1 Z H1 _ I1 q1) λu s2 ⟨y,H2,I2,r2,q2⟩ =>
  thn (ho pins s2 Z H2 x y v u _ I2 r1 r2 q2) λd s3 ⟨z,H3,I3,r3,k,e,q3⟩=> ?_)) hm
 subst e;cases r3;refine wpAny_truthy_bool ?_
 cases k with
 | false =>
  obtain ⟨k',e',q'⟩:=q3;cases e';exact ite_ff (i02 H3 I3 q')
 | true =>
  refine ite_tt (test_last (thn (hc pins s3 Z H3 _ I3 q3) ?_));rintro w' s4 ⟨z',H4,I4,r4,q4⟩;refine thn (ho' pins s4 Z H4 y z' u w' _ I4 r2 r4 q4) ?_;rintro d' s5 ⟨z2,H5,I5,r5,k2,e2,q5⟩;subst e2;cases r5;exact wpAny_truthy_bool (i02 H5 I5 q5)
theorem B8o:(sizeLine:Nat)<2^63:=by rw [sizeLine_eq];decide
theorem A8n:OpR X (binaryOp .Add) (λx y H Q=>∃i j,x= .str i/\y= .str j/\i.length+j.length<=sizeLine/\Q (.str (i++j)) H):=by
 intro pins s Z H x y v u Q I rx ry h;obtain ⟨i,j,rfl,rfl,hz,q⟩:=h;obtain ⟨t,rfl⟩:=rx;obtain ⟨t',rfl⟩:=ry;exact add_str (λt' tk=>(i0f (.str (i++j)) H (I.tok _) ⟨_,rfl⟩ q)) hz
theorem B4i {x:V} (r:A3y [x] us):∃u,us=[u]/\A3i x u:=by
 cases r with
 | cons r1 r2=>cases r2;exact i02 _ rfl r1
theorem C6v {x y:V} (r:A3y [x,y] us):∃u w',us=[u,w']/\A3i x u/\A3i y w':=by
 cases r with
 | cons r1 r2 =>
  cases r2 with
  | cons r3 r4=>cases r4;exact i0f _ _ rfl r1 r3
theorem C6c (hc:X.calm=true):B0c X (.builtin "max") (λxs H Q=>∃i j,xs=[.int i,.int j]/\Q (.int (if j>i then j else i)) H):=by
 intro pins s Z H xs us Q I r h;obtain ⟨i,j,rfl,q⟩:=h;obtain ⟨u,w',rfl,⟨t,rfl⟩,⟨t',rfl⟩⟩:=C6v r;refine max_two_ints (I.ok.hd hc) λh' tk k=>(i0f _ H (I.kept k) ?_ q);by_cases hj:j>i
 ·rw [Z12 hj,Z12 hj];exact ⟨_,rfl⟩
 ·rw [Z0t hj,Z0t hj];exact ⟨_,rfl⟩
theorem C6o (hc:X.calm=true):B0c X (.builtin "min") (λxs H Q=>∃i j,xs=[.int i,.int j]/\Q (.int (if j<i then j else i)) H):=by
 intro pins s Z H xs us Q I r h;obtain ⟨i,j,rfl,q⟩:=h;obtain ⟨u,w',rfl,⟨t,rfl⟩,⟨t',rfl⟩⟩:=C6v r;refine min_two_ints (I.ok.hd hc) λh' tk k=>(i0f _ H (I.kept k) ?_ q);by_cases hj:j<i
 ·rw [Z12 hj,Z12 hj];exact ⟨_,rfl⟩
 ·rw [Z0t hj,Z0t hj];exact ⟨_,rfl⟩
theorem B2h:B0c X (.type "int") (λxs H Q=>(∃i,xs=[.int i]/\Q (.int i) H)\/∃k,xs=[.bl k]/\Q (.int (if k then 1 else 0)) H):=by
 intro pins s Z H xs us Q I r h;rcases h with ⟨i,rfl,q⟩ | ⟨k,rfl,q⟩
 ·obtain ⟨u,rfl,t,rfl⟩:=B4i r;exact call_int_int (i0f (.int i) H I ⟨_,rfl⟩ q)
 ·obtain ⟨u,rfl,r1⟩:=B4i r;cases r1;exact call_int_bool (i0f (.int (if k then 1 else 0)) H (I.tok _) ⟨_,rfl⟩ q)
end
structure D5c (h:Heap) (x dx C:Addr) (mA:Str->Option Value):Prop where
 obj:h.get? x=some (instObj C dx)
 ns:h.Ns1 dx mA
 ne:dx≠x
theorem C8c {dx:Addr} (n:h.Ns1 dx mA):∃od,h.get? dx=some od/\∀name,PySem.W.lookIn name od=some (mA name):=by
 obtain ⟨o,es,ep,ho,hd,hk,_,hm⟩:=n;refine i02 o ho λname=> ?_;have e:=hm name;unfold nsFind findBy at e;rw [<-Array.find?_toList] at e;unfold PySem.W.lookIn;rw [hd];dsimp only;split
 ·rename_i y q;rw [q] at e;exact congrArg some e
 ·rename_i q;rw [q] at e
  have a:es.toList.any (·.refKey)=false:=by
   rw [List.any_eq_false];intro y hy;obtain ⟨z,t,hkey⟩:=hk y (Array.mem_toList_iff.mp hy);simp [DictEntry.refKey,hkey]
  have a':¬es.toList.any (·.refKey)=true:=by rw [a];exact Z0v
  rw [Z0t a'];exact congrArg some e
theorem D5c.look {x dx:Addr} (I:D5c h x dx C mA):∃od,PySem.W.InstAt h x (instObj C dx) C (some od)/\∀name,PySem.W.lookIn name od=some (mA name) :=
 let ⟨od,ho,hl⟩:=C8c I.ns
 (i02 od ⟨I.obj,rfl,rfl,ho⟩ hl)
section
variable {prog:Program} {w:World} {A:Around} {E:Value->Shared->Prop} {s:Shared} {K:Frag} {x dx C f:Addr} {mA:Str->Option Value} {name:Str} {v:Value}
theorem A7c {expr:Bool} (X:K.In s.heap) (I:D5c s.heap x dx C mA) (hg:plainGet K C name=true) (hh:hasDictIn K C=true)
  (ha:findIn K (.ref C) name=some none) (hv:mA name=some v) (hv':PySem.W.handedIn v=true) (h:Q v { s with toks:=s.toks+1 }) :
  wpAny (model prog w) A (getAttr (.ref x) name expr) Q E s:=by
 obtain ⟨od,J,hl⟩:=I.look;exact PySem.W.get_value X J (PySem.W.plainGet_of hg).1 (PySem.W.findObj_own hh ha rfl (by rw [hl,hv])) hv' h
theorem D0l {Q:Value×List Value->Shared->Prop} (X:K.In s.heap) (I:D5c s.heap x dx C mA) (hg:plainGet K C name=true)
  (hf:findIn K (.ref C) name=some (some (.ref f))) (ht:isFn K (.ref f)=true) (hv:mA name=none) (h:Q (.ref f,[.ref x]) s) :
  wpAny (model prog w) A (getMethod (.ref x) name pl) Q E s:=by
 obtain ⟨od,J,hl⟩:=I.look;exact PySem.W.method_fn X J (PySem.W.plainGet_of hg).1 (PySem.W.plainGet_of hg).2 hf (beq_iff_eq.mp ht) (by show (PySem.W.lookIn name od).map (·.isSome)=some false;rw [hl,hv];rfl) h
theorem D4h {ns:List Str} {Q:Unit->Shared->Prop} (X:K.In s.heap) (I:D5c s.heap x dx C mA)
  (hs:findIn K (.ref C) "__setattr__"=some (some (.builtin "object.__setattr__"))) (hp:plainOver K C=true) (ht:PySem.W.takerIn K C name=some none) (hh:hasDictIn K C=true)
  (hw:PySem.Within mA ns) (hsz:ns.length<=sizeLine)
  (h:∀h',D5c h' x dx C (λy=>if y=name then some v else mA y)->Heap.SameBut dx s.heap h'->Q () { s with heap:=h',toks:=s.toks+2 }) :
  wpAny (model prog w) A (setAttr (.ref x) name v) Q E s:=by
 obtain ⟨od,J,hl⟩:=I.look;refine PySem.W.set_plain X J hs (PySem.W.osa_open (s:={ s with toks:=s.toks+1 }) (r:=none) X J hp ht λb=> ?_)
 obtain ⟨cd,hc,hd'⟩:=PySem.W.any_some hh;have hx:s.heap.get? x=some ⟨.ref C,some dx,.plain,#[]⟩:=I.obj;refine Z00 (Z04 (Z00 (Z00 (wpAny_loadPart hx (Z00 (PySem.W.Looks.here (s:={ s with toks:=s.toks+1 }) (PySem.W.looks_clsIn X hc) ?_))))));rw [hd'];refine Z04 (a:=some dx) (Z00 (Z04 (Z00 ?_)));refine wpAny_nsSet1 (s:={ s with toks:=s.toks+1 }) I.ns λh' hn2 hs2=> ?_
 obtain ⟨oD,esD,epD,hoD,hdD,hcD⟩:=hn2.count (PySem.Within.cons name v hw);refine Z00 (wpAny_lookBehind hoD (by rw [hdD];exact pastItsLine_dict (Z1n hcD (by rw [Z0y];lia))) ?_);exact Z04 (h _ ⟨(hs2.2 _ (Ne.symm I.ne)).trans I.obj,hn2,I.ne⟩ hs2)
theorem C9z {vs:List Value} (X:K.In s.heap) (hm:makesIn K C=true)
  (hi:findIn K (.ref C) "__init__"=some (some (.ref f))) (hf:typeIn K (.ref f)=some (.type "function"))
  (h:codeAny (model prog w) (A.under (.builtin "type.__call__" ⟨.ref C::vs,kw⟩)) (.call (.ref f) ⟨.ref (s.heap.objs.size+1)::vs,kw⟩) (PySem.W.InitBack (s.heap.objs.size+1) R)
   { s with heap:=(s.heap.push emptyDict).push (instObj C s.heap.objs.size) }) :
  codeAny (model prog w) A (.call (.ref C) ⟨vs,kw⟩) R s:=by
 obtain ⟨hh,g,d,t,os⟩:=s;exact PySem.W.make_core (PySem.W.makes_of X hm) (PySem.W.looks_findIn X hi) (λself=>PySem.W.bind_fn X self hf) (.inl rfl) h
end
def A4r (f:Str) (v:V):List (Str×V)->List (Str×V)
 | []=>[(f,v)]
 | (g,x)::r=>if g=f then (g,v)::r else (g,x)::A4r f v r
theorem B3l (f g:Str) (v:V):∀fs:List (Str×V),(A4r f v fs).lookup g=if g=f then some v else fs.lookup g
 | []=>by
  show List.lookup g [(f,v)]=_;by_cases h:g=f
  ·have hb:(g == f)=true:=beq_iff_eq.mpr h;simp only [List.lookup,hb,Z12 h]
  ·have hb:(g == f)=false:=Z22.mpr h;simp only [List.lookup,hb,Z0t h]
 | (k,x)::r=>by
  have ih:=B3l f g v r;rw [show A4r f v ((k,x)::r)=(if k=f then (k,v)::r else (k,x)::A4r f v r) from rfl];by_cases hk:k=f
  ·rw [Z12 hk];by_cases h:g=k
   ·have hb:(g == k)=true:=beq_iff_eq.mpr h;simp only [List.lookup,hb,Z12 (h.trans hk)]
   ·have hb:(g == k)=false:=Z22.mpr h;simp only [List.lookup,hb,Z0t (λe:g=f=>h (e.trans hk.symm))]
  ·rw [Z0t hk];by_cases h:g=k
   ·have hb:(g == k)=true:=beq_iff_eq.mpr h;simp only [List.lookup,hb,Z0t (λe:g=f=>hk (h.symm.trans e))]
   ·have hb:(g == k)=false:=Z22.mpr h;simp only [List.lookup,hb];exact ih
theorem B2z (f:Str) (v:V):∀fs:List (Str×V),f∈(A4r f v fs).map (·.1)/\∀g,g∈fs.map (·.1)->g∈(A4r f v fs).map (·.1)
 | []=>⟨by simp [A4r],λg h=>by simp at h⟩
 | (k,x)::r=>by
  obtain ⟨i1,i2⟩:=B2z f v r;rw [show A4r f v ((k,x)::r)=(if k=f then (k,v)::r else (k,x)::A4r f v r) from rfl];by_cases hk:k=f
  ·rw [Z12 hk];subst hk;exact ⟨by simp,λg h=>by simpa using h⟩
  ·rw [Z0t hk];refine ⟨?_,λg h=> ?_⟩
   ·rw [Z0p];exact Z1f _ i1
   ·rw [Z0p] at h⊢;rcases Z0e.mp h with e | e
    ·exact Z0e.mpr (.inl e)
    ·exact Z1f _ (i2 g e)
theorem B2y (f:Str) (v:V):∀fs:List (Str×V),(A4r f v fs).length<=fs.length+1
 | []=>by simp [A4r]
 | (k,x)::r=>by
  have ih:=B2y f v r;rw [show A4r f v ((k,x)::r)=(if k=f then (k,v)::r else (k,x)::A4r f v r) from rfl];by_cases hk:k=f
  ·rw [Z12 hk,Z0y,Z0y];lia
  ·rw [Z0t hk,Z0y,Z0y];lia
theorem B6p.some_of {v:V} (r:B6p (some v) o):∃u,o=some u/\A3i v u:=by
 cases o with
 | none=>exact (show False from r).elim
 | some u=>exact i02 u rfl r
theorem B6p.none_of (r:B6p none o):o=none:=by
 cases o with
 | none=>rfl
 | some u=>exact (show False from r).elim
theorem C8d {v:V} (r:A3i v u):PySem.W.handedIn u=true:=by
 cases v with
 | non=>cases (show u=Value.none from r);rfl
 | bl b=>cases (show u=Value.bool b from r);rfl
 | int i=>obtain ⟨t,e⟩:=(show∃t,u=Value.int i t from r);cases e;rfl
 | str x=>obtain ⟨t,e⟩:=(show∃t,u=Value.str x t from r);cases e;rfl
 | byt b=>obtain ⟨t,e⟩:=(show∃t,u=Value.bytes b t from r);cases e;rfl
 | flt b=>obtain ⟨t,e⟩:=(show∃t,u=Value.float b t from r);cases e;rfl
 | ref a=>cases (show u=Value.ref a from r);rfl
 | ty n=>cases (show u=Value.type n from r);rfl
section
variable {P:Program} {w:World} {H H':Hp} {h h':Heap} {a C dx:Addr} {fs fs':List (Str×V)}
theorem B3o (hok:HOk P w H h) (e:H a=some (.ins C dx fs)):∃mA,D5c h a dx C mA/\(∀f,B6p (fs.lookup f) (mA f))/\PySem.Within mA (fs.map (·.1))/\fs.length<=1000/\H dx=some (.own a):=by
 obtain ⟨d,z,ne,ob,mA,n,r,q⟩:=(show A2u P w H h a (.ins C dx fs) from hok a _ e);exact ⟨mA,(i09 ⟨ob,n,ne⟩ r q z d)⟩
end
structure Cls (K:Frag) (C:Addr):Prop where
 pg:plainGet K C Str.empty=true
 hd:hasDictIn K C=true
 po:plainOver K C=true
 sa:findIn K (.ref C) "__setattr__"=some (some (.builtin "object.__setattr__"))
theorem Cls.get (c:Cls K C) (f:Str):plainGet K C f=true:=c.pg
def A1q (K:Frag) (C:Addr) (f:Str):Prop:=findIn K (.ref C) f=some none
theorem A1q.taker {f:Str} (n:A1q K C f):PySem.W.takerIn K C f=some none:=by
 unfold PySem.W.takerIn;rw [show findIn K (.ref C) f=some none from n];rfl
structure C1s (K:Frag) (C:Addr) (m:Str) (f:Addr):Prop where
 at_:findIn K (.ref C) m=some (some (.ref f))
 fn:isFn K (.ref f)=true
 kp:keepIn K (.ref f)=true
section
variable {X:Cx} {pins:List (Addr×Obj)} {Z:St} {H:Hp} {s:Shared} {a C dx:Addr} {fs:List (Str×V)} {f:Str} {v:V} {A:Around} {E:Value->Shared->Prop}
theorem C3g {b:Bool} (I:Inv X pins Z H s) (e:H a=some (.ins C dx fs)) (c:Cls X.K C) (n:A1q X.K C f) (l:fs.lookup f=some v)
  (h:∀u s',Inv X pins Z H s'->A3i v u->Q u s'):wpAny (model X.prog X.w) A (getAttr (.ref a) f b) Q E s:=by
 obtain ⟨mA,O,r,_,_,_⟩:=B3o I.hok e;obtain ⟨u,hu,ru⟩:=B6p.some_of (v:=v) (o:=mA f) (by rw [<-l];exact r f);exact A7c I.kIn O (c.get f) c.hd n hu (C8d ru) (h u _ (I.tok _) ru)
theorem B0v {m:Str} {g:Addr} {Q:Value×List Value->Shared->Prop} (I:Inv X pins Z H s) (e:H a=some (.ins C dx fs)) (c:Cls X.K C) (k:C1s X.K C m g) (l:fs.lookup m=none)
  (h:Q (.ref g,[.ref a]) s):wpAny (model X.prog X.w) A (getMethod (.ref a) m pl) Q E s:=by
 obtain ⟨mA,O,r,_,_,_⟩:=B3o I.hok e;have hn:mA m=none:=B6p.none_of (by rw [<-l];exact r m);exact D0l I.kIn O (c.get m) k.at_ k.fn hn h
theorem C2s {y:V} {Q:Unit->Shared->Prop} (I:Inv X pins Z H s) (e:H a=some (.ins C dx fs)) (c:Cls X.K C) (n:A1q X.K C f) (hl:fs.length<1000) (ry:A3i y u)
  (h:∀s',Inv X pins Z (upd H a (.ins C dx (A4r f y fs))) s'->Q () s'):wpAny (model X.prog X.w) A (setAttr (.ref a) f u) Q E s:=by
 obtain ⟨mA,O,r,wi,_,ho⟩:=B3o I.hok e;have hz:(fs.map (·.1)).length<=sizeLine:=by rw [Z08,sizeLine_eq];lia
 refine D4h I.kIn O c.sa c.po n.taker c.hd wi hz λh' O' sb=>h _ ?_;have hd:∃o,h'.get? dx=some o:=let ⟨o,_,_,e',_⟩:=O'.ns;⟨o,e'⟩;refine I.write (x:=a) (e:=dx) (by rw [e];exact True.intro) (.inr ho) (λb q hb z=>(sb.2 b hb).trans z) hd ?_;refine i09 (by rw [A0k O.ne];exact ho) ?_ O.ne O'.obj (i06 _ O'.ns (λg=> ?_) λg hg=> ?_)
 ·have:=B2y f y fs;lia
 ·show B6p ((A4r f y fs).lookup g) (if g=f then some u else mA g);rw [B3l];by_cases q:g=f
  ·rw [Z12 q,Z12 q];exact ry
  ·rw [Z0t q,Z0t q];exact r g
 ·by_cases q:g=f
  ·rw [q];exact (B2z f y fs).1
  ·refine (B2z f y fs).2 g (wi g λz=>hg ?_);show (if g=f then some u else mA g)=none;rw [Z0t q];exact z
theorem Inv.made (I:Inv X pins Z H s):Inv X pins Z (upd (upd H s.heap.objs.size (.own (s.heap.objs.size+1))) (s.heap.objs.size+1) (.ins C s.heap.objs.size []))
  { s with heap:=(s.heap.push emptyDict).push (instObj C s.heap.objs.size) }:=by
 have e1:(s.heap.push emptyDict).get? s.heap.objs.size=some emptyDict:=Z0c s.heap rfl
 have e2:((s.heap.push emptyDict).push (instObj C s.heap.objs.size)).get? (s.heap.objs.size+1)=some (instObj C s.heap.objs.size):=by
  have:=Z0c (s.heap.push emptyDict) (o:=instObj C s.heap.objs.size) rfl
  rwa [Z1s] at this
 have e3:(s.heap.push emptyDict).Ns s.heap.objs.size (λ_=>none):=(i0q emptyDict (#[]) _ e1 rfl (λe he=>absurd he (by simp)) λ_=>rfl);have I1:=I.laid (a:=s.heap.objs.size) (o:= .own (s.heap.objs.size+1)) (h':=s.heap.push emptyDict) (t':=s.toks) (λb u q=>Z01 _ q) (Z09 _) ⟨_,e1⟩;refine I1.laid (a:=s.heap.objs.size+1) (o:= .ins C s.heap.objs.size []) (t':=s.toks) (λb u q=>Z01 _ q) (Nat.le_of_eq (Z1s _ _)) ?_;have ne:s.heap.objs.size≠s.heap.objs.size+1:=Z0h (Nat.lt_succ_self _);refine i09 (by rw [A0k ne,A0b]) (Z1e _) ne e2 (i06 (λ_=>none) ((Heap.Ns1.of_empty e3).at λo q=>Z01 _ q) (λ_=>True.intro) λy hy=>absurd rfl hy)
theorem D3o {prog:Program} {env:Env} {e:Expr} {f:Str} (hb:attributeBase e f env (eval e env)=eval e env)
  (h:wpAny (model prog w) A (eval e env) (λo s₁=>wpAny (model prog w) A (getAttr o f true) Q E s₁) E s):wpAny (model prog w) A (eval (.Attribute e f pos) env) Q E s :=
 Attribute_any_ h (by rw [arm_eval_Attribute,hb])
end
def tFld (K:Frag) (ta:TE) (f:Str):TE:=λZ H Q=>ta Z H λx H1=>∃a C dx fs v,x= .ref a/\H1 a=some (.ins C dx fs)/\Cls K C/\A1q K C f/\fs.lookup f=some v/\Q v H1
def sFld (K:Frag) (ta tv:TE) (f:Str):TS:=λD Z H=>tv Z H λy H1=>ta Z H1 λx H2=>∃a C dx fs,x= .ref a/\H2 a=some (.ins C dx fs)/\Cls K C/\A1q K C f/\fs.length<1000/\
 D.nx Z (upd H2 a (.ins C dx (A4r f y fs)))
section
variable {X:Cx} {o e value:Expr} {f:Str} {pos pos' tpos:Pos} {ta tv:TE}
theorem A1h (he:PE X e ta) (hb:attributeBase e f X.env (eval e X.env)=eval e X.env):PE X (.Attribute e f pos) (tFld X.K ta f):=by
 intro pins s Z H Q I h;refine D3o hb (thn (he pins s Z H _ I h) ?_);rintro u s1 zz;refine e0c zz ?_;clear zz;rintro x H1 I1 rx a C dx ⟨fs,v,ex,ea,c,n,l,q⟩;subst ex;obtain rfl:u=Value.ref a:=rx;exact C3g I1 ea c n l λu' s2 I2 ru=>(i0f v H1 I2 ru q)
theorem A2d (ha:PE X o ta) (hv:PE X value tv) (hs:swapsWith value (some (.Attribute o f pos')) pos.line X.env=pure false):PS X (.Assign [.Attribute o f pos'] value pos) (sFld X.K ta tv f):=by
 intro pins s Z H D I h;refine plainObj_wpAny_Assign_Attribute (thn (hv pins s Z H _ I h) ?_) hs;rintro u s1 ⟨y,H1,I1,ry,q⟩;refine thn (ha pins s1 Z H1 _ I1 q) ?_;rintro ov s2 ⟨x,H2,I2,rx,a,C,dx,fs,ex,ea,c,n,l,q2⟩;subst ex;obtain rfl:ov=Value.ref a:=rx;exact C2s I2 ea c n l ry λs3 I3=>(i07 Z _ I3 q2)
end
section
variable {X:Cx} {pins:List (Addr×Obj)} {Z:St} {H:Hp} {s:Shared} {A:Around} {E:Value->Shared->Prop} {Q:Value->Shared->Prop} {c:Value} {b:Bool}
inductive A8j (K:Frag) (H:Hp):V->Value->Prop where
 | non:A8j K H .non (.type "NoneType")
 | bl (x:Bool):A8j K H (.bl x) (.type "bool")
 | int (i:Int):A8j K H (.int i) (.type "int")
 | str (x:Str):A8j K H (.str x) (.type "str")
 | flt (x:UInt64):A8j K H (.flt x) (.type "float")
 | lst {a:Addr} {xs:List V} (e:H a=some (.lst xs)):A8j K H (.ref a) (.type "list")
 | frz {a:Addr} {o:Obj} {xs:List V} (e:H a=some (.frz o (.lst xs))):A8j K H (.ref a) (.type "list")
 | tup {a:Addr} {xs:List V} (e:H a=some (.tup xs)):A8j K H (.ref a) (.type "tuple")
 | dK {a:Addr} {kvs:List (Key×V)} (e:H a=some (.dK kvs)):A8j K H (.ref a) (.type "dict")
 | dT {a:Addr} {kvs:List (List Key×V)} (e:H a=some (.dT kvs)):A8j K H (.ref a) (.type "dict")
 | ins {a C dx:Addr} {fs:List (Str×V)} (e:H a=some (.ins C dx fs)) (cl:Cls K C) (ha:findIn K (.ref C) "__class__"=some (some (.builtin "object.__class__")))
   (hn:specialIn K (.builtin "object.__class__") "__get__"=some (some (.builtin "getset_descriptor.__get__"))) (htk:takesIn K (.builtin "object.__class__")=some true)
   (hm:mroIn K C (.type "object")=some true):A8j K H (.ref a) (.ref C)
theorem C4y {x:V} {t:Value} (I:Inv X pins Z H s) (rx:A3i x u) (ty:A8j X.K H x t) (e:kitOne X.K t c=some b) (h:∀tk,Q (.bool b) { s with toks:=tk }) :
  wpAny (model X.prog X.w) A (call (.builtin "isinstance") [u,c]) Q E s:=by
 cases ty with
 | non=>cases (show u=Value.none from rx);exact PySem.W.kia_one PySem.W.kitx_none I.kIn True.intro e (λz=>nomatch z) h
 | bl y=>cases (show u=Value.bool y from rx);exact PySem.W.kia_one PySem.W.kitx_bool I.kIn True.intro e (λz=>nomatch z) h
 | int i=>obtain ⟨t,q⟩:=(show∃t,u=Value.int i t from rx);cases q;exact PySem.W.kia_one PySem.W.kitx_int I.kIn True.intro e (λz=>nomatch z) h
 | str y=>obtain ⟨t,q⟩:=(show∃t,u=Value.str y t from rx);cases q;exact PySem.W.kia_one PySem.W.kitx_str I.kIn True.intro e (λz=>nomatch z) h
 | flt y=>obtain ⟨t,q⟩:=(show∃t,u=Value.float y t from rx);cases q;exact PySem.W.kia_one PySem.W.kitx_float I.kIn True.intro e (λz=>nomatch z) h
 | @lst a xs ea =>
  cases (show u=Value.ref a from rx)
  obtain ⟨_,_,n,_,h1⟩:=(show A2u X.prog X.w H s.heap a (.lst xs) from I.hok a _ ea);exact PySem.W.kia_one PySem.W.kitx_list I.kIn (i02 _ h1 rfl) e (λz=>nomatch z) h
 | @frz a ob xs ea =>
  cases (show u=Value.ref a from rx)
  obtain ⟨_,_,_,n,_,h1⟩:=(show A2u X.prog X.w H s.heap a (.frz ob (.lst xs)) from I.hok a _ ea);exact PySem.W.kia_one PySem.W.kitx_list I.kIn (i02 _ h1 rfl) e (λz=>nomatch z) h
 | @tup a xs ea =>
  cases (show u=Value.ref a from rx)
  obtain ⟨_,_,_,p⟩:=(show A2u X.prog X.w H s.heap a (.tup xs) from I.hok a _ ea);obtain ⟨o,h1,h2,_⟩:=p;exact PySem.W.kia_one PySem.W.kitx_tuple I.kIn (i02 o h1 h2) e (λz=>nomatch z) h
 | @dK a kvs ea =>
  cases (show u=Value.ref a from rx)
  obtain ⟨_,_,vs,_,p⟩:=(show A2u X.prog X.w H s.heap a (.dK kvs) from I.hok a _ ea);obtain ⟨o,es,ep,h1,h2,_⟩:=p;exact PySem.W.kia_one PySem.W.kitx_dict I.kIn (i02 o h1 h2.1) e (λz=>nomatch z) h
 | @dT a kvs ea =>
  cases (show u=Value.ref a from rx)
  obtain ⟨_,_,xs,_,o,es,ep,h1,h2,_⟩:=(show A2u X.prog X.w H s.heap a (.dT kvs) from I.hok a _ ea);exact PySem.W.kia_one PySem.W.kitx_dict I.kIn (i02 o h1 h2.1) e (λz=>nomatch z) h
 | @ins a C dx fs ea cl ha hn htk hm =>
  cases (show u=Value.ref a from rx)
  obtain ⟨mA,O,_⟩:=B3o I.hok ea;obtain ⟨od,J,_⟩:=O.look;exact PySem.W.kia_one (PySem.W.kitx_own (cl.get _) cl.hd ha hn htk hm) I.kIn J e (λz=>nomatch z) h
end
structure A9p (k:Nat) (A:Around):Prop where
 hd:A.handled=none
 dp:A.depth+3*k+5<recursionLimit
 un:A.units+16*k+200<cLine
 gd:A.guards=some []
theorem A9p.mono {j k:Nat} (r:A9p k A) (h:j<=k):A9p j A:=⟨r.hd,by have:=r.dp;lia,by have:=r.un;lia,r.gd⟩
theorem A9p.deeper {k:Nat} (r:A9p (k+1) A) (env:Env):A9p k (A.deeper env) :=
 ⟨r.hd,by have:=r.dp;show A.depth+1+3*k+5<_;lia,by have:=r.un;show A.units+3+16*k+200<_;lia,r.gd⟩
theorem C3a:(A.under (.builtin "type.__call__" ⟨.ref C::us,kw⟩)).depth=A.depth+1:=by
 first | rfl | simp [Around.under,Code.weight,Code.isCreation,Code.isGuard,Code.isCaller,Code.frames,Code.isFrame,guardIds]
theorem C4a:(A.under (.builtin "type.__call__" ⟨.ref C::us,kw⟩)).units=A.units+1:=by
 first | rfl | simp [Around.under,Code.cUnits,Code.frames,Code.isFrame]
theorem B9u:(A.under (.builtin "type.__call__" ⟨.ref C::us,kw⟩)).guards=A.guards:=by
 show pushGuards (Code.guards (.builtin "type.__call__" ⟨.ref C::us,kw⟩)) A.guards=A.guards;have h:Code.isGuard (.builtin "type.__call__" ⟨.ref C::us,kw⟩)=false:=by first | rfl | (simp [Code.isGuard,guardIds]) | decide
 unfold Code.guards;rw [h];cases A.guards <;> rfl
theorem A9p.make {k:Nat} (r:A9p (k+1) A) (C:Addr) (us:List Value) (kw:List (Str×Value)):A9p k (A.under (.builtin "type.__call__" ⟨.ref C::us,kw⟩)) :=
 ⟨r.hd,by have:=r.dp;rw [C3a];lia,by have:=r.un;rw [C4a];lia,by rw [B9u];exact r.gd⟩
theorem A9p.depth {k:Nat} (r:A9p k A):A.depth<recursionLimit:=by have:=r.dp;lia
theorem A9p.units {k:Nat} (r:A9p k A):A.units+64<cLine:=by have:=r.un;lia
def E1c:TA:=λ_ H Q=>Q [] H
def E0o (ta:TE) (tr:TA):TA:=λZ H Q=>ta Z H λx H1=>tr Z H1 λxs H2=>Q (x::xs) H2
section
variable {X:Cx} {e:Expr} {es:List Expr} {te:TE} {t:TA} {pos:Pos}
theorem A0d:PA X [] E1c:=λ_ _ _ _ H Q I h=>Calls.spliced_nil (i0f [] H I .nil h)
theorem A0a (ha:PE X e te) (hr:PA X es t) (hs:starEach (e::es) X.env=(false,eval e X.env)::starEach es X.env:=by rfl):PA X (e::es) (E0o te t):=by
 intro pos pins s Z H Q I h;rw [hs];show wpAny _ _ (spliced ((false,eval e X.env)::backTo pos (starEach es X.env))) _ _ s;refine Calls.spliced_cons (thn (ha pins s Z H _ I h) ?_);rintro u s1 ⟨x,H1,I1,r1,q1⟩;exact thn (hr pos pins s1 Z H1 _ I1 q1) (by rintro us s2 ⟨xs,H2,I2,r2,q2⟩;exact i0f (x::xs) H2 I2 (.cons r1 r2) q2)
def tTup (t:TA):TE:=λZ H Q=>t Z H λxs H1=>xs.length<=sizeLine/\∀p,H1 p=none->Q (.ref p) (upd H1 p (.tup xs))
def tLst (t:TA):TE:=λZ H Q=>t Z H λxs H1=>xs.length<=sizeLine/\∀p,H1 p=none->Q (.ref p) (upd H1 p (.lst xs))
theorem A1n {x1} (h:PA X es t):PE X (.Tuple es x1 pos) (tTup t):=by
 intro pins s Z H Q I hq;refine wpAny_Tuple_spliced (thn (h pos pins s Z H _ I hq) λus s1 ⟨xs,H1,I1,r,z,q⟩=>⟨by rw [<-r.length];exact z,?_⟩);have hf:H1 s1.heap.objs.size=none:=I1.hok.fresh (Z09 _);refine i0f (.ref s1.heap.objs.size) (upd H1 s1.heap.objs.size (.tup xs)) (I1.laid (t':=s1.toks) (λb u e=>Z01 _ e) (Z09 _) ?_) rfl (q _ hf);exact i05 z us r (i0d _ (Z0c _ rfl) rfl _ rfl)
theorem A1z (h:PA X es t):PE X (.List es pos) (tLst t):=by
 intro pins s Z H Q I hq;refine wpAny_List_spliced (thn (h pos pins s Z H _ I hq) λus s1 ⟨xs,H1,I1,r,z,q⟩=>⟨by rw [<-r.length];exact z,?_⟩);have hf:H1 s1.heap.objs.size=none:=I1.hok.fresh (Z09 _);refine i0f (.ref s1.heap.objs.size) (upd H1 s1.heap.objs.size (.lst xs)) (I1.laid (t':=s1.toks) (λb u e=>Z01 _ e) (Z09 _) ?_) rfl (q _ hf);exact i0b z us 0 r (Z0c _ rfl)
end
abbrev Sp:=List V->Hp->VK->XK->Prop
abbrev CXT:=List Env->Hp->Shared->XK->Value->Shared->Prop
structure D4z (P:Program) (w:World) (K:Frag) (mg:Str->Option Value) (base:Heap) (A:Around) (outer:List Env) (s:Shared) (H:Hp):Prop where
 frames:A.frames=some outer
 mod:Mod K mg base
 bs:∀b o,base.get? b=some o->s.heap.get? b=some o/\H b=none
 bsz:base.objs.size<=s.heap.objs.size
 funs:s.heap.FunFrames base outer
 frf:∀b∈frs outer,H b=none
 hok:HOk P w H s.heap
 bare:AllBare s.gens
def CE (outer:List Env) (P:Program) (w:World) (H:Hp) (s:Shared) (Q:VK) (u:Value) (s':Shared):Prop :=
 ∃v H',s'.os=s.os/\AllBare s'.gens/\Un (frs outer) [] H H' s.heap s'.heap/\HOk P w H' s'.heap/\A3i v u/\Q v H'
def CR (CX:CXT) (outer:List Env) (P:Program) (w:World) (H:Hp) (s:Shared) (Q:VK) (E:XK) (r:Result) (s':Shared):Prop :=
 match r with
 | .ok (.ret u)=>CE outer P w H s Q u s'
 | .ok _=>False
 | .error e=>CX outer H s E e s'
structure A3h (P:Program) (w:World) (K:Frag) (mg:Str->Option Value) (base:Heap) (CX:CXT) (k:Nat) (f:Addr) (fd:FuncData) (ps:List Str) (sp:Sp):Prop where
 len:∀vs H Q E,sp vs H Q E->vs.length=ps.length
 run:∀(A:Around) (outer:List Env) (s:Shared) (H:Hp) (args:Args) (us:List Value) (vs:List V) (Q:VK) (E:XK),A9p k A->D4z P w K mg base A outer s H->BindsTo s fd args (ps.zip us)->A3y vs us->sp vs H Q E->
  codeAny (model P w) A (.call (.ref f) args) (CR CX outer P w H s Q E) s
theorem A3h.mono {j k:Nat} {f:Addr} {sp:Sp} (F:A3h P w K mg base CX j f fd ps sp) (h:j<=k) :
  A3h P w K mg base CX k f fd ps sp:=⟨F.len,λA outer s H args us vs Q E hr=>F.run A outer s H args us vs Q E (hr.mono h)⟩
theorem D4z.make (e:D4z P w K mg base A outer s H) (C:Addr) (us:List Value) (kw:List (Str×Value)) :
  D4z P w K mg base (A.under (.builtin "type.__call__" ⟨.ref C::us,kw⟩)) outer s H:=⟨by first | exact e.frames | (simpa [Around.under,Code.envs,Code.isFrame,pushEnvs] using e.frames),e.mod,e.bs,e.bsz,e.funs,e.frf,e.hok,e.bare⟩
section
variable {X:Cx} {pins:List (Addr×Obj)} {Z:St} {H:Hp} {s s':Shared}
theorem Inv.env0 (I:Inv X pins Z H s):D4z X.prog X.w X.K X.mg X.base X.A X.stack s H :=
 ⟨I.ok.frames,I.ok.mod,I.bs,Z1n I.ok.bsz I.sz,I.stack,I.stkFree,I.hok,I.bare⟩
theorem Inv.after {Q:VK} (I:Inv X pins Z H s) (h:CE X.stack X.prog X.w H s Q u s'):EP X pins Z Q u s':=by
 obtain ⟨v,H',os,bare,un,hok,r,q⟩:=h;obtain ⟨hh,g,d,t,os'⟩:=s';obtain rfl:os'=s.os:=os;exact i0f v H' (I.call (h':=hh) (g':=g) (d':=d) (t':=t) (ch:=[]) un hok bare (λb z=>absurd z (by simp))) r q
end
def D8h (sp:Sp) (dvs:List V) (E:XK) (t:TA):TE:=λZ H Q=>t Z H λvs H1=>sp (vs++dvs) H1 Q E
def D7w (C:Addr) (m:Str) (sp:Sp) (dvs:List V) (E:XK) (ta:TE) (t:TA):TE:=λZ H Q=>ta Z H λx H1=>∃a dx fs,x= .ref a/\H1 a=some (.ins C dx fs)/\fs.lookup m=none/\
 t Z H1 λvs H2=>sp (x::(vs++dvs)) H2 Q E
def D5x (C:Addr) (sp:Sp) (dvs:List V) (E:XK) (t:TA):TE:=λZ H Q=>t Z H λvs H1=>∀x dx,H1 x=none->H1 dx=none->dx≠x->
 sp (.ref x::(vs++dvs)) (upd (upd H1 dx (.own x)) x (.ins C dx [])) (λv H2=>v= .non/\Q (.ref x) H2) E
def A8o (K:Frag) (fd:FuncData) (ps:List Str) (ds:List Value):Prop :=
 ∀(s:Shared) (us:List Value),K.In s.heap->(us++ds).length=ps.length->BindsTo s fd ⟨us,[]⟩ (ps.zip (us++ds))
theorem A8o.all (h:∀us:List Value,us.length=ps.length->bindArgs fd ⟨us,[]⟩=pure (ps.zip us)):A8o K fd ps []:=λs us _ hl=>by
 rw [Z0u] at hl⊢;exact .of_eq (h us hl)
def B3e (CX:CXT) (X:Cx) (E:XK):Prop:=∀(pins:List (Addr×Obj)) (Z:St) (H:Hp) (s:Shared) (e:Value) (s':Shared),Inv X pins Z H s->CX X.stack H s E e s'->X.xe e s'
section
variable {X:Cx} {CX:CXT} {k:Nat} {f C:Addr} {fd:FuncData} {ps:List Str} {sp:Sp} {dvs:List V} {ds:List Value} {E:XK} {x m:Str} {p pos apos:Pos} {e o:Expr} {es:List Expr} {ta:TE} {t:TA}
theorem C1x {Q:VK} (F:A3h X.prog X.w X.K X.mg X.base CX k f fd ps sp) (hr:A9p k X.A) (hb:A8o X.K fd ps ds) (hd:A3y dvs ds) (hx:B3e CX X E)
  (I:Inv X pins Z H s) (r:A3y vs us) (h:sp (vs++dvs) H Q E):wpAny (model X.prog X.w) X.A (call (.ref f) us) (EP X pins Z Q) X.xe s:=by
 have r2:A3y (vs++dvs) (us++ds):=r.append hd;have hl:(us++ds).length=ps.length:=by rw [<-r2.length];exact F.len _ _ _ _ h
 refine wpAny_call (codeAny_mono (F.run X.A X.stack s H ⟨us,[]⟩ (us++ds) (vs++dvs) Q E hr I.env0 (hb s us I.kIn hl) r2 h) λr s' hq=> ?_)
 cases r with
 | error e=>exact hx pins Z H s e s' I hq
 | ok fl =>
  cases fl with
  | ret u=>exact I.after hq
  | next=>exact False.elim hq
  | brk=>exact False.elim hq
  | cont=>exact False.elim hq
theorem D3v (F:A3h X.prog X.w X.K X.mg X.base CX k f fd ps sp) (hr:A9p k X.A) (hg:Gl X x) (hm:X.mg x=some (.ref f)) (hk:keepIn X.K (.ref f)=true) (hb:A8o X.K fd ps ds) (hd:A3y dvs ds) (hx:B3e CX X E)
  (ha:PA X (e::es) t) (hdb:(x == ("__debug__":Str))=false:=by decide) (he:starEach (e::es) X.env=(false,eval e X.env)::starEach es X.env:=by rfl) (hpl:(backTo pos (starEach es X.env)).any (·.1)=false:=by rfl) :
  PE X (.Call (.Name x p) (e::es) [] pos) (D8h sp dvs E t):=by
 intro pins s Z H Q I h;refine wpAny_Call_Name_kw (B9k I hg hm ?_ hdb);refine PySem.W.callWith_K (h₀:=X.base) I.ok.mod.kin hk (thn (ha pos pins s Z H _ I h) λus s1 ⟨vs,H1,I1,r,q⟩=>⟨I1.kIn,?_⟩) he hpl;exact C1x F hr hb hd hx I1 r q
theorem B2x (he:PE X o ta) (c:Cls X.K C) (hm:C1s X.K C m f) (F:A3h X.prog X.w X.K X.mg X.base CX k f fd ps sp) (hr:A9p k X.A) (hb:A8o X.K fd ps ds) (hd:A3y dvs ds) (hx:B3e CX X E) (ha:PA X (e::es) t)
  (hst:starEach (e::es) X.env=(false,eval e X.env)::starEach es X.env:=by rfl) (hpl:(backTo pos (starEach es X.env)).any (·.1)=false:=by rfl)
  (ht:eval (.Call (.Attribute o m apos) (e::es) [] pos) X.env=(do
   let ov<-eval o X.env
   standAt apos.atName
   let (f,first)<-holding [ov] (getMethod ov m pl)
   callWith pos f first (backTo pos (starEach (e::es) X.env)) (backToKw pos (keywordEach [] X.env))):=by rfl) :
  PE X (.Call (.Attribute o m apos) (e::es) [] pos) (D7w C m sp dvs E ta t):=by
 intro pins s Z H Q I h;refine PySem.W.methodCall_KW (pl:=pl) (thn (he pins s Z H _ I h) ?_) ht;rintro u s1 ⟨x,H1,I1,rx,a,dx,fs,ex,ea,l,q⟩;subst ex;obtain rfl:u=Value.ref a:=rx;refine B0v I1 ea c hm l ?_;refine PySem.W.callWith_K (first:=[.ref a]) (h₀:=X.base) I.ok.mod.kin hm.kp (thn (ha pos pins s1 Z H1 _ I1 q) λus s2 ⟨vs,H2,I2,r,q2⟩=>⟨I2.kIn,?_⟩) hst hpl;exact C1x (us:= .ref a::us) (vs:= .ref a::vs) F hr hb hd hx I2 (.cons rfl r) q2
theorem C9h (he:PE X o ta) (c:Cls X.K C) (hm:C1s X.K C m f) (F:A3h X.prog X.w X.K X.mg X.base CX k f fd ps sp) (hr:A9p k X.A) (hb:A8o X.K fd ps ds) (hd:A3y dvs ds) (hx:B3e CX X E)
  (ht:eval (.Call (.Attribute o m apos) [] [] pos) X.env=(do
   let ov<-eval o X.env
   standAt apos.atName
   let (f,first)<-holding [ov] (getMethod ov m pl)
   callWith pos f first (backTo pos (starEach [] X.env)) (backToKw pos (keywordEach [] X.env))):=by rfl) :
  PE X (.Call (.Attribute o m apos) [] [] pos) (D7w C m sp dvs E ta E1c):=by
 intro pins s Z H Q I h;refine PySem.W.methodCall_KW (pl:=pl) (thn (he pins s Z H _ I h) ?_) ht;rintro u s1 ⟨x,H1,I1,rx,a,dx,fs,ex,ea,l,q⟩;subst ex;obtain rfl:u=Value.ref a:=rx;refine B0v I1 ea c hm l ?_;exact PySem.W.callWith_K0 (first:=[.ref a]) I1.kIn hm.kp (C1x (us:=[.ref a]) (vs:=[.ref a]) F hr hb hd hx I1 (.cons rfl .nil) q)
structure Mk (K:Frag) (C f:Addr):Prop where
 makes:makesIn K C=true
 init:findIn K (.ref C) "__init__"=some (some (.ref f))
 fn:isFn K (.ref f)=true
 kp:keepIn K (.ref C)=true
theorem C9e {Q:VK} (M:Mk X.K C f) (F:A3h X.prog X.w X.K X.mg X.base CX k f fd ps sp) (hr:A9p (k+1) X.A) (hb:A8o X.K fd ps ds) (hd:A3y dvs ds)
  (hx:B3e CX X E) (I:Inv X pins Z H s) (r:A3y vs us)
  (h:∀x dx,H x=none->H dx=none->dx≠x->sp (.ref x::(vs++dvs)) (upd (upd H dx (.own x)) x (.ins C dx [])) (λv H2=>v= .non/\Q (.ref x) H2) E) :
  wpAny (model X.prog X.w) X.A (call (.ref C) us) (EP X pins Z Q) X.xe s:=by
 have hq:=h (s.heap.objs.size+1) s.heap.objs.size (I.hok.fresh (Nat.le_succ _)) (I.hok.fresh (Z09 _)) (Z0h (Nat.lt_succ_self _));have I2:=Inv.made (C:=C) I;have r2:A3y (V.ref (s.heap.objs.size+1)::(vs++dvs)) (Value.ref (s.heap.objs.size+1)::(us++ds)):= .cons rfl (r.append hd)
 have hl:(Value.ref (s.heap.objs.size+1)::us++ds).length=ps.length:=by
  have e:=r2.length;rw [F.len _ _ _ _ hq] at e;exact e.symm
 refine wpAny_call (C9z (f:=f) I.kIn M.makes M.init (beq_iff_eq.mp M.fn) (codeAny_mono (F.run _ X.stack _ _ ⟨Value.ref (s.heap.objs.size+1)::us,[]⟩ (Value.ref (s.heap.objs.size+1)::(us++ds)) _ _ E (hr.make C us [])
  (I2.env0.make C us []) (hb _ (Value.ref (s.heap.objs.size+1)::us) I2.kIn hl) r2 hq) λr s' hq'=> ?_))
 cases r with
 | error e=>exact hx pins Z _ _ e s' I2 hq'
 | ok fl =>
  cases fl with
  | ret u =>
   obtain ⟨v,H',I3,rv,ev,q3⟩:=I2.after hq';subst ev;exact i0i rv (V.ref (s.heap.objs.size+1)) H' I3 rfl q3
  | next=>exact False.elim hq'
  | brk=>exact False.elim hq'
  | cont=>exact False.elim hq'
theorem D1z (M:Mk X.K C f) (F:A3h X.prog X.w X.K X.mg X.base CX k f fd ps sp) (hr:A9p (k+1) X.A) (hg:Gl X x) (hm:X.mg x=some (.ref C)) (hb:A8o X.K fd ps ds) (hd:A3y dvs ds) (hx:B3e CX X E)
  (ha:PA X (e::es) t) (hdb:(x == ("__debug__":Str))=false:=by decide) (he:starEach (e::es) X.env=(false,eval e X.env)::starEach es X.env:=by rfl) (hpl:(backTo pos (starEach es X.env)).any (·.1)=false:=by rfl) :
  PE X (.Call (.Name x p) (e::es) [] pos) (D5x C sp dvs E t):=by
 intro pins s Z H Q I h;refine wpAny_Call_Name_kw (B9k I hg hm ?_ hdb);refine PySem.W.callWith_K (h₀:=X.base) I.ok.mod.kin M.kp (thn (ha pos pins s Z H _ I h) λus s1 ⟨vs,H1,I1,r,q⟩=>⟨I1.kIn,?_⟩) he hpl;exact C9e M F hr hb hd hx I1 r q
end
section
variable {X:Cx} {CX:CXT} {k:Nat} {f C:Addr} {fd:FuncData} {ps ks:List Str} {sp:Sp} {E:XK} {x m:Str} {p pos apos kpos:Pos} {e o:Expr} {es:List Expr} {kws:List Keyword} {te ta:TE} {t tk:TA} {nm:Option Str}
variable {g:List Value->List Value->List Value} {gV:List V->List V->List V}
end
structure A0z (N P:List Str) (sc:Scope):Prop where
 kind:sc.kind= .function
 co:sc.isCoroutine=false
 gen:sc.isGenerator=false
 nd:N.Nodup
 pre:N.take P.length=P
 par:∀x∈P,sc.names.lookup x=some .local\/sc.names.lookup x=some .cell
 nofree:∀y∈sc.names,y.2≠.free
theorem B7e {kindOf:Str->Option NameKind} {x:Str}:∀{binds:List (Str×Value)} {m:Str->Option Value},(∀v,(x,v)∉binds)->bindL kindOf binds m x=m x
 | [],_,_=>rfl
 | (n,v)::r,m,h=>by
  unfold bindL;rw [B7e λw hw=>h w (Z1f _ hw)];split
  ·have:x≠n:=by rintro rfl;exact h v Z27
   simp [this]
  ·rfl
theorem B6w {kindOf:Str->Option NameKind} {x:Str}:∀{binds:List (Str×Value)} {m:Str->Option Value},(∀v,(x,v)∉binds)->bindC kindOf binds m x=m x
 | [],_,_=>rfl
 | (n,v)::r,m,h=>by
  unfold bindC;rw [B6w λw hw=>h w (Z1f _ hw)];split
  ·rfl
  ·have:x≠n:=by rintro rfl;exact h v Z27
   simp [this]
theorem B7j {kindOf:Str->Option NameKind} {x:Str} {v:Value}:∀{P:List Str} {vs:List Value} {i:Nat} {m:Str->Option Value},P.Nodup->P[i]? =some x->vs[i]? =some v->kindOf x=some .local->
  bindL kindOf (P.zip vs) m x=some v
 | [],_,_,_,_,h,_,_=>by simp at h
 | _::_,[],_,_,_,_,h,_=>by simp at h
 | p::P,w::vs,0,m,nd,h1,h2,hk=>by
  simp at h1 h2;subst h1;subst h2;show bindL kindOf ((p,w)::P.zip vs) m p=_;unfold bindL;rw [B7e λv hv=>(Z15.mp nd).1 (List.of_mem_zip hv).1,Z12 hk];simp
 | p::P,w::vs,i+1,m,nd,h1,h2,hk=>by
  show bindL kindOf ((p,w)::P.zip vs) m x=_;unfold bindL;exact B7j (i:=i) (Z15.mp nd).2 (by simpa using h1) (by simpa using h2) hk
theorem B8j {kindOf:Str->Option NameKind} {x:Str} {v:Value}:∀{P:List Str} {vs:List Value} {i:Nat} {m:Str->Option Value},P.Nodup->P[i]? =some x->vs[i]? =some v->kindOf x≠some .local->
  bindC kindOf (P.zip vs) m x=some v
 | [],_,_,_,_,h,_,_=>by simp at h
 | _::_,[],_,_,_,_,h,_=>by simp at h
 | p::P,w::vs,0,m,nd,h1,h2,hk=>by
  simp at h1 h2;subst h1;subst h2;show bindC kindOf ((p,w)::P.zip vs) m p=_;unfold bindC;rw [B6w λv hv=>(Z15.mp nd).1 (List.of_mem_zip hv).1,Z0t hk];simp
 | p::P,w::vs,i+1,m,nd,h1,h2,hk=>by
  show bindC kindOf ((p,w)::P.zip vs) m x=_;unfold bindC;exact B8j (i:=i) (Z15.mp nd).2 (by simpa using h1) (by simpa using h2) hk
def B7r (N:List Str) (vs:List V):St:=vs.map some++List.replicate (N.length-vs.length) none
def D5e (CX:CXT) (P:Program) (w:World) (K:Frag) (mg:Str->Option Value) (base:Heap) (N:List Str) (qual:Str) (scope:Scope) (f:Addr) (cd:Value) (A:Around) (outer:List Env) (s:Shared) (H:Hp) (E:XK):Cx where
 prog:=P
 w:=w
 K:=K
 mg:=mg
 base:=base
 A:=A.deeper (envOfC qual scope s.heap.objs.size f cd)
 N:=N
 s₀:=s
 H₀:=H
 env:=envOfC qual scope s.heap.objs.size f cd
 outer:=outer
 stack:=envOfC qual scope s.heap.objs.size f cd::outer
 ex:=[]
 calm:=true
 fn:=λ_=>true
 pn:=[]
 xe:=λe s'=>wpAny (model P w) (A.deeper (envOfC qual scope s.heap.objs.size f cd)) (leaving (envOfC qual scope s.heap.objs.size f cd) e) (λ_ s''=>CX outer H s E e s'') (λe' s''=>CX outer H s E e' s'') s'
theorem C2i {sc:Scope} {n:Nat} {x:Str} (h:sc.names.lookup x=some .cell):∃c,(cellsFrom n sc.names []).lookup x=some c:=by
 have q:=PySem.W.cellsFrom_some sc.names n [] (.inl h);exact Option.isSome_iff_exists.mp q
theorem C7r {N:List Str} {qual:Str} {f:Addr} {cd:Value} {s1:Shared} {E:XK}
  (S:A0z N ps scope) (hd:A.handled=none) (e0:D4z P w K mg base A outer s H) (hl:vs.length=ps.length) (r:A3y vs us)
  (x:InCallC s s.heap.objs.size (bindL (envOfC qual scope s.heap.objs.size f cd).kindOf (ps.zip us) λ_=>none) (cellsFrom (s.heap.objs.size+1) scope.names []) (bindC (envOfC qual scope s.heap.objs.size f cd).kindOf (ps.zip us) λ_=>none) s1) :
  Inv (D5e CX P w K mg base N qual scope f cd A outer s H E) [] (B7r N vs) H s1:=by
 have hpl:ps.length<=N.length:=by have:=congrArg List.length S.pre;rw [Z0x] at this;lia
 obtain ⟨h1,tk,rfl,hk⟩:=x.done;have noA:∀b:Addr,b∉(D5e CX P w K mg base N qual scope f cd A outer s H E).ex:=λb z=>absurd (show b∈([]:List Addr) from z) (by simp)
 refine ⟨⟨e0.mod,S.kind,rfl,rfl,Z09 _,λy z c h1 h2=> ?_,λy hy=> ?_,λy c _ h=> ?_,λ_=>hd,Around.frames_deeper e0.frames,.inr ⟨rfl,rfl⟩,λb z=>absurd z (noA b),e0.bs,e0.bsz,λb _ _=>noA b,λb z=>absurd z (noA b),e0.funs,e0.frf⟩,
  rfl,e0.bare,Un.kept hk,(i02 _ x.toInCall.ns λi y v h1 h2 h3=> ?_),λy c h=>⟨_,x.cell y c h⟩,e0.hok.fresh (Z09 _),λy c h=> ?_,λp hp=>absurd (show p∈([]:List (Addr×Obj)) from hp) (by simp),e0.hok.kept hk,?_⟩
 ·exact name_of_addr x.apart (PySem.mem_of_lookup h1) (PySem.mem_of_lookup h2)
 ·have hy:scope.names.lookup y=some .cell\/scope.names.lookup y=some .free:=hy;rcases hy with hy | hy
  ·exact C2i hy
  ·exact absurd rfl (S.nofree _ (PySem.mem_of_lookup hy))
 ·exact Nat.le_of_lt (x.above y c (PySem.mem_of_lookup h))
 ·have hi:i<vs.length:=by
   unfold B7r at h2;by_cases hi:i<vs.length
   ·exact hi
   ·rw [Z1l (by simpa using hi)] at h2;rw [List.getElem?_replicate] at h2;split at h2 <;> cases h2
  have ha:vs[i]? =some v:=by
   unfold B7r at h2;rw [Z26 (by simpa using hi),Z1z] at h2
   cases e:vs[i]? with
   | none=>rw [e] at h2;cases h2
   | some a=>rw [e] at h2;cases h2;rfl
  obtain ⟨u,hu,rv⟩:=r.get ha
  have hp:ps[i]? =some y:=by
   rw [<-S.pre,List.getElem?_take_of_lt (by lia)];exact h1
  have ndP:ps.Nodup:=by rw [<-S.pre];exact S.nd.sublist (Z2o _ _)
  refine i02 u rv ?_;rcases S.par y (Z13 hp) with k | k
  ·exact .inl ⟨k,B7j ndP hp hu k⟩
  ·obtain ⟨c,e⟩:=C2i (n:=s.heap.objs.size+1) k;refine .inr (i05 (.inl k) c e ?_);have q:=x.cell y c e;rw [B8j ndP hp hu (by show scope.names.lookup y≠_;rw [k];decide)] at q;exact q
 ·exact e0.hok.fresh (Nat.le_of_lt (x.above y c (PySem.mem_of_lookup h)))
 ·unfold B7r;show _=N.length;rw [Z06,Z08,List.length_replicate]
  lia
theorem D9u {k:Nat} {f:Addr} {name qual:Str} {params:Arguments} {dV kV doc pm cdv ct oc:Value} {an od:Option Addr}
 {N:List Str} {sp:Sp} (lk:K.lookup f=some ⟨oc,od,.func (fnOf name qual params body scope dV kV doc pm an cdv ct),osl⟩) (hcd:codeIn K cdv qual=true) (S:A0z N ps scope)
  (len:∀vs H Q E,sp vs H Q E->vs.length=ps.length)
  (hbody:∀(A:Around) (outer:List Env) (s:Shared) (H:Hp) (vs:List V) (Q:VK) (E:XK),A9p k (A.deeper (envOfC qual scope s.heap.objs.size f cdv))->sp vs H Q E->
   ∃t,PSs (D5e CX P w K mg base N qual scope f cdv A outer s H E) body t/\t { nx:=λ_ H'=>Q .non H',rt:=Q } (B7r N vs) H) :
  A3h P w K mg base CX (k+1) f (fnOf name qual params body scope dV kV doc pm an cdv ct) ps sp:=by
 refine ⟨len,λA outer s H args us vs Q E hr e0 hb r hsp=> ?_⟩;have hl:=len _ _ _ _ hsp;have KX:K.In s.heap:=e0.mod.kin.keeps λb o e=>(e0.bs b o e).1;have lim:s.heap.NoLimit:=e0.mod.nolimit.keeps λb o e=>(e0.bs b o e).1
 have hkind:∀y∈ps.zip us,scope.names.lookup y.1=some .local\/(scope.names.lookup y.1=some .cell/\((cellsFrom (s.heap.objs.size+1) scope.names []).lookup y.1).isSome=true):=λ⟨n,v⟩ hy=>by
  rcases S.par n (List.of_mem_zip hy).1 with q | q
  ·exact .inl q
  ·exact .inr ⟨q,PySem.W.cellsFrom_some _ _ _ (.inl q)⟩
 refine codeAny_call_function hr.depth (KX _ _ lk) rfl S.co S.gen rfl (PySem.W.codeRec_of KX hcd) (hb _ _ _ _ ?_);refine wpAny_newFunctionEnv_cells S.kind hkind λenv he s1 x=> ?_;subst he;refine ⟨lim.keeps x.toInCall.keep,codeAny_func ?_⟩;obtain ⟨t,ht,hq⟩:=hbody A outer s H vs Q E (hr.deeper _) hsp;have I:Inv (D5e CX P w K mg base N qual scope f cdv A outer s H E) [] (B7r N vs) H s1:=C7r S hr.hd e0 hl r x;refine Z10 (ht [] s1 (B7r N vs) H _ I hq) (λfl s' hs=> ?_) λe s' hs=>hs
 have fin:∀{Z':St} {H':Hp} {v:V} {u:Value},Inv (D5e CX P w K mg base N qual scope f cdv A outer s H E) [] Z' H' s'->A3i v u->Q v H'->CE outer P w H s Q u s' :=
  λ{Z' H' v u} J rv q=>(i0s v H' J.os J.bare J.base J.hok rv q)
 cases fl with
 | ret u =>
  obtain ⟨v,Z',H',J,rv,q⟩:=hs;exact fin J rv q
 | next =>
  obtain ⟨Z',H',J,q⟩:=hs;exact fin (v:=V.non) (u:=Value.none) J rfl q
 | brk =>
  obtain ⟨_,_,_,q⟩:=hs;exact False.elim q
 | cont =>
  obtain ⟨_,_,_,q⟩:=hs;exact False.elim q
section
variable {X:Cx} {x:Str} {p pos:Pos} {e:Expr} {es:List Expr} {t:TA} {id T:String} {r:List V->Hp->VK->Prop}
def tCB (r:List V->Hp->VK->Prop) (t:TA):TE:=λZ H Q=>t Z H λvs H1=>r vs H1 Q
theorem A0u (hc:B0c X (.builtin id) r) (hg:Gl X x) (hm:X.mg x=none) (hv:bootBuiltins x=some (.builtin id)) (ha:PA X (e::es) t) (hn:x≠"__name__":=by decide) (hdb:(x == ("__debug__":Str))=false:=by decide)
  (he:starEach (e::es) X.env=(false,eval e X.env)::starEach es X.env:=by rfl) (hpl:(backTo pos (starEach es X.env)).any (·.1)=false:=by rfl):PE X (.Call (.Name x p) (e::es) [] pos) (tCB r t):=by
 intro pins s Z H Q I h;refine wpAny_Call_Name_kw (B1k I hg hm hv ?_ hn hdb);exact PyProof.Rows.callWith_builtin1 (thn (ha pos pins s Z H _ I h) (by rintro us s1 ⟨vs,H1,I1,r1,q1⟩;exact hc pins s1 Z H1 vs us Q I1 r1 q1)) he hpl
theorem A2k (hc:B0c X (.type T) r) (hg:Gl X x) (hm:X.mg x=none) (hv:bootBuiltins x=some (.type T)) (ha:PA X (e::es) t) (hn:x≠"__name__":=by decide) (hdb:(x == ("__debug__":Str))=false:=by decide)
  (he:starEach (e::es) X.env=(false,eval e X.env)::starEach es X.env:=by rfl) (hpl:(backTo pos (starEach es X.env)).any (·.1)=false:=by rfl):PE X (.Call (.Name x p) (e::es) [] pos) (tCB r t):=by
 intro pins s Z H Q I h;refine wpAny_Call_Name_kw (B1k I hg hm hv ?_ hn hdb);exact PyProof.Rows.callWith_type1 (thn (ha pos pins s Z H _ I h) (by rintro us s1 ⟨vs,H1,I1,r1,q1⟩;exact hc pins s1 Z H1 vs us Q I1 r1 q1)) he hpl
end
end L2
namespace HT
open PySem PyProof.Rows
section
open PySem.SeqAt
open PySem.AutoSeq1 (wpAny_loadPart')
open PySem.MeetsSeq PySem.MeetsSeq2 PySem.MeetsSeq3
end
section
variable {prog:Program} {w:World} {A:Around} {E:Value->Shared->Prop} {s:Shared}
theorem cat_tup {t b:Addr} {vs ws:List Value} {Q:Value->Shared->Prop} (ht:IsTup s.heap t vs.toArray) (hb:IsTup s.heap b ws.toArray) (hv:vs≠[])
  (h1:ws=[]->Q (.ref t) s) (h2:ws≠[]->Q (.ref s.heap.objs.size) { s with heap:=s.heap.push { cls:= .type "tuple",data:= .seq (vs++ws).toArray } })
  (hsz:vs.length+ws.length<=sizeLine):wpAny (model prog w) A (binaryOp .Add (.ref t) (.ref b)) Q E s:=by
 obtain ⟨⟨cls,dd,data,sl⟩,ho,hc,n,hd⟩:=id ht;obtain ⟨⟨cls2,dd2,data2,sl2⟩,ho2,hc2,n2,hd2⟩:=id hb;simp only at hc hd hc2 hd2;subst hc hd hc2 hd2;have e:vs.toArray++ws.toArray=(vs++ws).toArray:=by simp
 by_cases hw:ws=[]
 ·exact concat_meets (i02 _ ho rfl) (i02 _ ho2 rfl) noFill_tuple_add seq_tuple_add PySem.F.slot_tuple_add PySem.F.entry_tuple_add (PySem.F.args_tuple_add_2 _ _)
   (tuple_addW1 t b vs.toArray ws.toArray n n2 dd dd2 sl sl2 (by simpa using hv) (by simp [hw])) (i00 ho ho2 (h1 hw))
 ·refine concat_meets (i02 _ ho rfl) (i02 _ ho2 rfl) noFill_tuple_add seq_tuple_add PySem.F.slot_tuple_add PySem.F.entry_tuple_add (PySem.F.args_tuple_add_2 _ _)
   (tuple_addW2 t b vs.toArray ws.toArray n n2 dd dd2 sl sl2 (by simpa using hv) (by simpa using hw) (by rw [Z0g,Z0g];exact hsz)) (i00 ho ho2 ?_)
  rw [e];exact h2 hw
def sIx (n d:Nat):Option Int->Nat
 | none=>d
 | some v=>if v<0 then (v+(n:Int)).toNat else min v.toNat n
theorem sIx_nat (n d k:Nat):sIx n d (some (k:Int))=min k n:=by
 show (if (k:Int)<0 then ((k:Int)+(n:Int)).toNat else min (k:Int).toNat n)=min k n;rw [Z0t (by lia),Int.toNat_natCast]
end
end HT
namespace L2
open PySem PySem.Spec PyProof.Rows
variable {r:V->Option Int->Option Int->Hp->VK->Prop} {xs:List (List Key×Addr×Value)} {s:Shared} {y:V} {u:Value} {pins:List (Addr×Obj)} {H:Hp} {its:List Value} {f:Array Value->Array Value} {t':Nat} {o:Option V} {P:Program} {w:World} {kvs:List (List Key×V)} {a:Addr} {Q:Value->Shared->Prop}
abbrev TO:=St->Hp->(Option Int->Hp->Prop)->Prop
def PO (X:Cx) (e:Option Expr) (t:TO):Prop :=
 ∀(pins:List (Addr×Obj)) (s:Shared) (Z:St) (H:Hp) (Q:Option Int->Hp->Prop),Inv X pins Z H s->t Z H Q->
  wpAny (model X.prog X.w) X.A (evalPart e X.env) (λu s'=>∃o H',Inv X pins Z H' s'/\IsPart u o/\Q o H') X.xe s
def D2l:TO:=λ_ H Q=>Q none H
def D9f (t:TE):TO:=λZ H Q=>t Z H λx H1=>∃i,x= .int i/\Q (some i) H1
section
variable {X:Cx} {e:Expr} {te:TE} {lo hi:Option Expr} {tl th:TO} {pos p2:Pos}
theorem C0d:PO X none D2l:=by
 intro pins s Z H Q I h;rw [evalPart_none];exact Z04 (i0f none H I .none h)
theorem B2m (h:PE X e te):PO X (some e) (D9f te):=by
 intro pins s Z H Q I hw;rw [evalPart_some];refine thn (h pins s Z H _ I hw) ?_;rintro u s1 ⟨x,H1,I1,r1,q1⟩;obtain ⟨i,rfl,q⟩:=q1;obtain ⟨t,rfl⟩:=r1;exact i0f (some i) H1 I1 (.int i t) q
def SlR (X:Cx) (r:V->Option Int->Option Int->Hp->VK->Prop):Prop :=
 ∀(pins:List (Addr×Obj)) (s:Shared) (Z:St) (H:Hp) (x:V) (v vl vu:Value) (lo hi:Option Int) (sl:Addr) (Q:VK),Inv X pins Z H s->A3i x v->s.heap.IsSliceOf sl vl vu .none->IsPart vl lo->IsPart vu hi->r x lo hi H Q->
  ∃T id,typeLookup (.type T) "__getitem__"=pure (some (.builtin id))/\s.TypeIs v T/\wpAny (model X.prog X.w) X.A (getItem v (.ref sl)) (EP X pins Z Q) X.xe s
def tSl (r:V->Option Int->Option Int->Hp->VK->Prop) (te:TE) (tl th:TO):TE:=λZ H Q=>te Z H λx H1=>tl Z H1 λl H2=>th Z H2 λu H3=>r x l u H3 Q
theorem B1x (hr:SlR X r) (he:PE X e te) (hl:PO X lo tl) (hu:PO X hi th):PE X (.Subscript e (.Slice lo hi none p2) pos) (tSl r te tl th):=by
 intro pins s Z H Q I h;refine Subscript_ (thn (he pins s Z H _ I h) ?_);rintro v s1 ⟨x,H1,I1,r1,q1⟩;refine wpAny_Slice (thn (hl pins s1 Z H1 _ I1 q1) ?_);rintro vl s2 ⟨l,H2,I2,pl,q2⟩;refine thn (hu pins s2 Z H2 _ I2 q2) ?_;rintro vu s3 ⟨u,H3,I3,pu,q3⟩;rw [evalPart_none];refine Z04 ?_;have I4:Inv X pins Z H3 { s3 with heap:=s3.heap.push { cls:= .type "slice",data:= .fields #[vl,vu,.none] } }:=I3.kept (t':=s3.toks) λb ob q=>Z01 _ q
 obtain ⟨T,id,hT,ht,hg⟩:=hr pins { s3 with heap:=s3.heap.push { cls:= .type "slice",data:= .fields #[vl,vu,.none] } } Z H3 x v vl vu l u s3.heap.objs.size Q I4 r1 (Heap.IsSliceOf.new ..) pl pu q3;show wpAny (model X.prog X.w) X.A (subscriptTail e (.Slice lo hi none p2) v (.ref s3.heap.objs.size)) (EP X pins Z Q) X.xe { s3 with heap:=s3.heap.push { cls:= .type "slice",data:= .fields #[vl,vu,.none] } };exact tail_any (ops:=[.ref s3.heap.objs.size,v]) ht hT hg (by with_unfolding_all rfl)
def C8u (xs:List V) (lo hi:Option Int):List V:=(xs.drop (HT.sIx xs.length 0 lo)).take (HT.sIx xs.length xs.length hi-HT.sIx xs.length 0 lo)
theorem C0k (xs:List V) (lo hi:Option Int):(C8u xs lo hi).length<=xs.length:=by
 unfold C8u;rw [Z0x,List.length_drop]
 lia
def E0c (K:Frag):R2:=λx y H Q=>∃a b xs ys,x= .ref a/\y= .ref b/\SqT K H a xs/\SqT K H b ys/\xs≠[]/\xs.length+ys.length<=sizeLine/\
 (ys=[]->Q (.ref a) H)/\(ys≠[]->∀p,H p=none->Q (.ref p) (upd H p (.tup (xs++ys))))
theorem A3y.nil_iff {xs:List V} {us:List Value} (r:A3y xs us):us=[]↔xs=[]:=by
 cases r with
 | nil=>simp
 | cons _ _=>simp
theorem D3h:OpR X (binaryOp .Add) (E0c X.K):=by
 intro pins s Z H x y v u Q I rx ry h;obtain ⟨a,b,xs,ys,rfl,rfl,ha,hb,hx,hz,q1,q2⟩:=h;cases rx;cases ry;obtain ⟨its,r1,p1,_⟩:=I.tuple ha;obtain ⟨its2,r2,p2,_⟩:=I.tuple hb;refine HT.cat_tup p1 p2 (λz=>hx (r1.nil_iff.mp z)) (λz=>(i0f (.ref a) H I rfl (q1 (r2.nil_iff.mp z)))) (λz=> ?_) (by rw [<-r1.length,<-r2.length];exact hz);refine i0f (.ref s.heap.objs.size) _ (I.laid (t':=s.toks) (o:= .tup (xs++ys)) (λb ob q=>Z01 _ q) (Z09 _) ?_) rfl (q2 (λw=>z (r2.nil_iff.mpr w)) _ (I.hok.fresh (Z09 _)));exact i05 (by rw [Z06];exact hz) _ (r1.append r2) (IsTup.new _ _)
end
def ixN (n:Nat) (i:Int):Option Nat:=if 0<=i then (if i<n then some i.toNat else none) else if -(n:Int)<=i then some (i+n).toNat else none
def atI {α:Type} (xs:List α) (i:Int):Option α:=(ixN xs.length i).bind λj=>xs[j]?
theorem D2v {n:Nat} {i:Int} {j:Nat} (h:ixN n i=some j):seqIndex? i n=some j/\j<n/\-(n:Int)<=i/\i<n:=by
 unfold ixN at h;by_cases h0:0<=i
 ·rw [Z12 h0] at h;by_cases h1:i<n
  ·rw [Z12 h1] at h;have e:i.toNat=j:=Z1a h;exact i04 (by rw [seqIndex_of h0 h1,e]) (by lia) (by lia) h1
  ·rw [Z0t h1] at h;cases h
 ·rw [Z0t h0] at h;by_cases h1: -(n:Int)<=i
  ·rw [Z12 h1] at h;have e:(i+n).toNat=j:=Z1a h;exact i04 (by rw [seqIndex_neg (by lia) h1,e]) (by lia) h1 (by lia)
  ·rw [Z0t h1] at h;cases h
theorem C0c {α:Type} {xs:List α} {i:Int} {v:α} (h:atI xs i=some v):∃j,seqIndex? i xs.length=some j/\xs[j]? =some v/\j<xs.length/\-(xs.length:Int)<=i/\i<xs.length:=by
 unfold atI at h
 cases e:ixN xs.length i with
 | none=>rw [e] at h;cases h
 | some j =>
  rw [e] at h;obtain ⟨h1,h2,h3,h4⟩:=D2v e;exact ⟨j,(i09 h1 h h2 h3 h4)⟩
theorem A3g {α:Type} {xs:List α} {j:Nat} {v:α} (h:xs[j]? =some v):atI xs (j:Int)=some v:=by
 have hj:j<xs.length:=(Z03.mp h).1
 have e:ixN xs.length (j:Int)=some j:=by
  unfold ixN;rw [Z12 (by lia),Z12 (by lia)];simp
 unfold atI;rw [e];exact h
def D4r (b:Expr):Prop:=∀o i,subscripted b false o i=operate [o,i] (getItem o i)
def IxR (X:Cx) (r:R2):Prop :=
 ∀(value slice:Expr) (pins:List (Addr×Obj)) (s:Shared) (Z:St) (H:Hp) (x y:V) (v u:Value) (Q:VK),Inv X pins Z H s->A3i x v->A3i y u->r x y H Q->
  subscripted slice false v u=operate [v,u] (getItem v u)->wpAny (model X.prog X.w) X.A (subscriptTail value slice v u) (EP X pins Z Q) X.xe s
def MtR (X:Cx) (id:String) (r:V->List V->Hp->VK->Prop):Prop :=
 ∀(pins:List (Addr×Obj)) (s:Shared) (Z:St) (H:Hp) (x:V) (xs:List V) (v:Value) (us:List Value) (Q:VK),Inv X pins Z H s->A3i x v->A3y xs us->r x xs H Q->
  wpAny (model X.prog X.w) X.A (call (.builtin id) (v::us)) (EP X pins Z Q) X.xe s
section
variable {X:Cx} {a b:Expr} {ta tb:TE} {pos:Pos}
theorem A1f {r:R2} (hr:IxR X r) (ha:PE X a ta) (hb:PE X b tb) (hs:D4r b):PE X (.Subscript a b pos) (tOp r ta tb):=by
 intro pins s Z H Q I h;exact Subscript_ (D9i ha hb I h λv u s2 x y H2 I2 rx ry q=>hr a b pins s2 Z H2 x y v u Q I2 rx ry q (hs _ _))
def E0w (K:Frag):R2:=λx y H Q=>∃p xs i v,x= .ref p/\y= .int i/\SqL K H p xs/\atI xs i=some v/\Q v H
def rIxT (K:Frag):R2:=λx y H Q=>∃p xs i v,x= .ref p/\y= .int i/\SqT K H p xs/\atI xs i=some v/\Q v H
def rIxS:R2:=λx y H Q=>∃z i c,x= .str z/\y= .int i/\z.length<=sizeLine/\atI z.cps.toList i=some c/\Q (.str ⟨#[c]⟩) H
theorem A1p:IxR X (E0w X.K):=by
 intro value slice pins s Z H x y v u Q I rx ry h hs;obtain ⟨p,xs,i,z,rfl,rfl,hq,he,q⟩:=h;cases rx;obtain ⟨t,rfl⟩:=ry;obtain ⟨its,r,pl,hz⟩:=I.list hq;obtain ⟨j,h1,h2,h3,h4,h5⟩:=C0c he;obtain ⟨w,ew,rw'⟩:=r.get h2;have hl:=r.length;have hn:=B8o;have fin:EP X pins Z Q w s:=(i0f z H I rw' q);by_cases h0:0<=i
 ·have hj:i.toNat=j:=by
   rw [seqIndex_of h0 h5] at h1;exact Z1a h1
  exact item_listR pl.isList h0 (by lia) (by rw [hj];simpa using ew) fin hs
 ·have hj:(i+(its.toArray.size:Int)).toNat=j:=by
   rw [seqIndex_neg (by lia) h4] at h1;rw [Z0g,<-hl];exact Z1a h1
  exact subscriptTail_builtinR (x:=w) pl.isList.typeIs slot_list_getitem.lookup
   (wpAny_getItem_list_neg (Q:=λr s'=>r=w/\EP X pins Z Q r s') pl.isList (by lia) (by rw [Z0g] <;> lia) (by lia) (by rw [hj];simpa using ew) ⟨rfl,fin⟩) hs
theorem A1g:IxR X (rIxT X.K):=by
 intro value slice pins s Z H x y v u Q I rx ry h hs;obtain ⟨p,xs,i,z,rfl,rfl,hq,he,q⟩:=h;cases rx;obtain ⟨t,rfl⟩:=ry;obtain ⟨its,r,pl,hz⟩:=I.tuple hq;obtain ⟨j,h1,h2,h3,h4,h5⟩:=C0c he;obtain ⟨w,ew,rw'⟩:=r.get h2;have hl:=r.length;have hn:=B8o;have fin:EP X pins Z Q w s:=(i0f z H I rw' q)
 exact subscriptTail_builtinR (x:=w) pl.typeIs slot_tuple_getitem.lookup
  (getItem_tuple (j:=j) (Q:=λr s'=>r=w/\EP X pins Z Q r s') pl (by lia) (by lia) (by rw [Z0g,<-hl];exact h1) (by simpa using ew) ⟨rfl,fin⟩) hs
theorem C5e:IxR X rIxS:=by
 intro value slice pins s Z H x y v u Q I rx ry h hs;obtain ⟨z,i,c,rfl,rfl,hz,he,q⟩:=h;obtain ⟨t,rfl⟩:=rx;obtain ⟨t',rfl⟩:=ry;obtain ⟨j,h1,h2,h3,h4,h5⟩:=C0c he;have hl:z.cps.toList.length=z.length:=by simp [Str.length]
 rw [hl] at h1 h4 h5;have hn:=B8o
 exact tail_any (typeIs_str s z t) slot_str_getitem.lookup (getItem_str (c:=c) (by
  have e1:decide (i< -(2^63:Int))=false:=Z1j (by lia);have e2:decide (i≥2^63)=false:=Z1j (by lia)
  rw [e1,e2,Bool.or_false]) (by rw [h1];simpa using h2) (i0f (.str ⟨#[c]⟩) H (I.tok _) ⟨_,rfl⟩ q)) hs
theorem B8l (lo hi:Option Int) (n:Nat):(sliceBounds lo hi none n).1=((HT.sIx n 0 lo:Nat):Int)/\(sliceBounds lo hi none n).2.1=((HT.sIx n n hi:Nat):Int)/\(sliceBounds lo hi none n).2.2=1:=by
 refine i00 ?_ ?_ rfl
 ·cases lo with
  | none=>simp [sliceBounds,HT.sIx]
  | some i =>
   simp only [sliceBounds,HT.sIx,Option.getD_none,show (1:Int)>0 by decide,if_true];by_cases h:i<0
   ·simp only [h,if_true] <;> lia
   ·simp only [h,if_false] <;> lia
 ·cases hi with
  | none=>simp [sliceBounds,HT.sIx]
  | some i =>
   simp only [sliceBounds,HT.sIx,Option.getD_none,show (1:Int)>0 by decide,if_true];by_cases h:i<0
   ·simp only [h,if_true] <;> lia
   ·simp only [h,if_false] <;> lia
theorem B5y (its:List Value) (lo hi:Option Int):slicePick its.toArray lo hi none=((its.drop (HT.sIx its.length 0 lo)).take (HT.sIx its.length its.length hi-HT.sIx its.length 0 lo)).toArray:=by
 obtain ⟨h1,h2,h3⟩:=B8l lo hi its.toArray.size;unfold slicePick;rw [h1,h2,h3];simp only [sliceRange_one,pick_run,Z0g] <;> rfl
def rSlL (K:Frag):V->Option Int->Option Int->Hp->VK->Prop:=λx lo hi H Q=>∃a xs,x= .ref a/\SqL K H a xs/\∀p,H p=none->Q (.ref p) (upd H p (.lst (C8u xs lo hi)))
theorem C4w:SlR X (rSlL X.K):=by
 intro pins s Z H x v vl vu lo hi sl Q I rx hs pl pu h;obtain ⟨a,xs,rfl,hx,q⟩:=h;cases rx;obtain ⟨its,r,ht,hz⟩:=I.list hx;have hlen:=r.length;refine i0f "list" _ slot_list_getitem.lookup ht.isList.typeIs ?_;refine wpAny_getItem_list_slice ht.isList hs pl pu .none (by simp) ?_ (by rw [Z0g] <;> lia);rw [B5y,<-hlen];refine i0f (.ref s.heap.objs.size) _ (I.laid (t':=s.toks) (o:= .lst (C8u xs lo hi)) (λb ob q=>Z01 _ q) (Z09 _) ?_) rfl (q _ (I.hok.fresh (Z09 _)));exact i0b (Z1n (C0k xs lo hi) hz) _ 0 ((r.drop (HT.sIx xs.length 0 lo)).take (HT.sIx xs.length xs.length hi-HT.sIx xs.length 0 lo)) (Z0c _ rfl)
def B5z:V->Bool
 | .non=>true
 | .bl _=>true
 | .int _=>true
 | .str _=>true
 | _=>false
noncomputable def eqV:V->V->Bool
 | .non,.non=>true
 | .bl a,.bl b=>a == b
 | .bl a,.int b=>(if a then 1 else 0) == b
 | .int a,.bl b=>a == (if b then 1 else 0)
 | .int a,.int b=>a == b
 | .str a,.str b=>a == b
 | _,_=>false
theorem D8t {A:Around} {x:V} {v:Value} (ry:A3i y u) (rx:A3i x v) (fy:B5z y=true) (fx:B5z x=true):SeqAt.EqAt A s u v (eqV y x):=by
 cases y with
 | non =>
  cases ry
  cases x with
  | non=>cases rx;exact SeqAt.EqAt.same _
  | bl b=>cases rx;exact SeqAt.EqAt.none_bool b
  | int b=>obtain ⟨t,rfl⟩:=rx;exact SeqAt.EqAt.none_int b t
  | str b=>obtain ⟨t,rfl⟩:=rx;exact SeqAt.EqAt.none_str b t
  | _=>exact absurd (show false=true from fx) Z0v
 | bl a =>
  cases ry
  cases x with
  | non=>cases rx;exact SeqAt.EqAt.bool_none a
  | bl b=>cases rx;exact SeqAt.EqAt.bool_bool a b
  | int b=>obtain ⟨t,rfl⟩:=rx;exact SeqAt.EqAt.bool_int a b t
  | str b=>obtain ⟨t,rfl⟩:=rx;exact SeqAt.EqAt.bool_str a b t
  | _=>exact absurd (show false=true from fx) Z0v
 | int a =>
  obtain ⟨t',rfl⟩:=ry
  cases x with
  | non=>cases rx;exact SeqAt.EqAt.int_none a t'
  | bl b=>cases rx;exact SeqAt.EqAt.int_bool a t' b
  | int b=>obtain ⟨t,rfl⟩:=rx;exact SeqAt.EqAt.int_int a t' b t
  | str b=>obtain ⟨t,rfl⟩:=rx;exact SeqAt.EqAt.int_str a t' b t
  | _=>exact absurd (show false=true from fx) Z0v
 | str a =>
  obtain ⟨t',rfl⟩:=ry
  cases x with
  | non=>cases rx;exact SeqAt.EqAt.str_none a t'
  | bl b=>cases rx;exact SeqAt.EqAt.str_bool a t' b
  | int b=>obtain ⟨t,rfl⟩:=rx;exact SeqAt.EqAt.str_int a t' b t
  | str b=>obtain ⟨t,rfl⟩:=rx;exact SeqAt.EqAt.str_str a t' b t
  | _=>exact absurd (show false=true from fx) Z0v
 | _=>exact absurd (show false=true from fy) Z0v
def eqU (x:V) (u:Value):Bool:=match u with
 | .none=>eqV .non x
 | .bool b=>eqV (.bl b) x
 | .int i _=>eqV (.int i) x
 | .str z _=>eqV (.str z) x
 | _=>false
theorem D1a {x:V} (r:A3i y u) (f:B5z y=true):eqU x u=eqV y x:=by
 cases y with
 | non=>cases r;rfl
 | bl b=>cases r;rfl
 | int i=>obtain ⟨t,rfl⟩:=r;rfl
 | str z=>obtain ⟨t,rfl⟩:=r;rfl
 | _=>exact absurd (show false=true from f) Z0v
theorem B2s {x:V}:∀{xs:List V} {us:List Value},A3y xs us->xs.all B5z=true->us.any (eqU x)=xs.any λy=>eqV y x
 | _,_,.nil,_=>rfl
 | y::xs,u::us,.cons r t,f=>by
  rw [List.all_cons,Z1x] at f;rw [List.any_cons,List.any_cons,D1a r f.1,B2s t f.2]
theorem A9q {A:Around} {s:Shared} {x:V} {v:Value} (rx:A3i x v) (fx:B5z x=true):∀{xs:List V} {us:List Value},A3y xs us->xs.all B5z=true->∀u∈us,SeqAt.EqAt A s u v (eqU x u)
 | _,_,.nil,_=>λu hu=>by cases hu
 | y::xs,u::us,.cons r t,f=>λu' hu=>by
  rw [List.all_cons,Z1x] at f;rcases Z0e.mp hu with rfl | hu
  ·rw [D1a r f.1];exact D8t r rx f.1 fx
  ·exact A9q rx fx t f.2 u' hu
def inV (x:V) (xs:List V):Bool:=xs.any λy=>eqV y x
def rIn (K:Frag) (neg:Bool):R2:=λx y H Q=>∃p xs,y= .ref p/\(SqL K H p xs\/SqT K H p xs)/\B5z x=true/\xs.all B5z=true/\Q (.bl (if neg then ! inV x xs else inV x xs)) H
theorem C8o:OpR X (compareOp .In) (rIn X.K false):=by
 intro pins s Z H x y v u Q I rx ry h;obtain ⟨p,xs,rfl,hq,fx,fs,q⟩:=h;cases ry;rcases hq with hq | hq
 ·obtain ⟨its,r,pl,hz⟩:=I.list hq;refine SeqAt.in_listAt (eqU x) pl.isList (λw hw=>A9q rx fx r fs w (by simpa using hw)) (i0f (.bl _) H I rfl ?_);rw [show its.toArray.any (eqU x)=its.any (eqU x) by simp,B2s r fs];exact q
 ·obtain ⟨its,r,pl,hz⟩:=I.tuple hq;refine SeqAt.in_tupleAt (eqU x) pl (λw hw=>A9q rx fx r fs w (by simpa using hw)) (i0f (.bl _) H I rfl ?_);rw [show its.toArray.any (eqU x)=its.any (eqU x) by simp,B2s r fs];exact q
theorem A6b:OpR X (compareOp .NotIn) (rIn X.K true):=by
 intro pins s Z H x y v u Q I rx ry h;obtain ⟨p,xs,rfl,hq,fx,fs,q⟩:=h;cases ry;rcases hq with hq | hq
 ·obtain ⟨its,r,pl,hz⟩:=I.list hq;refine SeqAt.notIn_listAt (eqU x) pl.isList (λw hw=>A9q rx fx r fs w (by simpa using hw)) (i0f (.bl _) H I rfl ?_);rw [show its.toArray.any (eqU x)=its.any (eqU x) by simp,B2s r fs];exact q
 ·obtain ⟨its,r,pl,hz⟩:=I.tuple hq;refine SeqAt.notIn_tupleAt (eqU x) pl (λw hw=>A9q rx fx r fs w (by simpa using hw)) (i0f (.bl _) H I rfl ?_);rw [show its.toArray.any (eqU x)=its.any (eqU x) by simp,B2s r fs];exact q
theorem A0v:B0c X (.builtin "len") (λxs H Q=>∃p ys,xs=[.ref p]/\(SqL X.K H p ys\/SqT X.K H p ys)/\Q (.int ys.length) H):=by
 intro pins s Z H xs us Q I r h;obtain ⟨p,ys,rfl,hq,q⟩:=h;obtain ⟨u,rfl,rx⟩:=B4i r;cases rx;have hn:=B8o;rcases hq with hq | hq
 ·obtain ⟨its,r',pl,hz⟩:=I.list hq;have hlen:=r'.length;exact Calls.call_len_list pl.isList (by simp only [Z0g] <;> lia) (i0f (.int ys.length) H (I.tok _) ⟨s.toks+1,by rw [Z0g,hlen]⟩ q)
 ·obtain ⟨its,r',pl,hz⟩:=I.tuple hq;have hlen:=r'.length;exact len_tuple pl (by simp only [Z0g] <;> lia) (i0f (.int ys.length) H (I.tok _) ⟨s.toks+1,by rw [Z0g,hlen]⟩ q)
theorem B7f:B0c X (.builtin "len") (λxs H Q=>∃z,xs=[.str z]/\z.length<=sizeLine/\Q (.int z.length) H):=by
 intro pins s Z H xs us Q I r h;obtain ⟨z,rfl,hz,q⟩:=h;obtain ⟨u,rfl,t,rfl⟩:=B4i r;have hn:=B8o;exact len_str (by lia) (i0f (.int z.length) H (I.tok _) ⟨_,rfl⟩ q)
theorem A5b:B0c X (.type "list") (λxs H Q=>∃p ys,xs=[.ref p]/\(SqL X.K H p ys\/SqT X.K H p ys)/\∀l,H l=none->Q (.ref l) (upd H l (.lst ys))):=by
 intro pins s Z H xs us Q I r h;obtain ⟨p,ys,rfl,hq,q⟩:=h;obtain ⟨u,rfl,rx⟩:=B4i r;cases rx
 have fin:∀(its:List Value),A3y ys its->ys.length<=sizeLine->∀(h':Heap) (c':Nat),(∀b o',s.heap.get? b=some o'->h'.get? b=some o')->
   h'.get? s.heap.objs.size=some { cls:= .type "list",dict:=none,data:= .seq its.toArray c',slots:= #[] }->EP X pins Z Q (.ref s.heap.objs.size) { s with heap:=h' }:=λits r' hz h' c' kp e =>
  (i0f (.ref s.heap.objs.size) _ (I.laid (t':=s.toks) kp (Z09 _) (show A2u X.prog X.w _ h' _ (.lst ys) from (i0b hz its c' r' e))) rfl (q _ (I.hok.fresh (Z09 _))))
 rcases hq with hq | hq
 ·obtain ⟨its,r',pl,hz⟩:=I.list hq;have hlen:=r'.length;obtain ⟨o,ho,hc,n,hd⟩:=pl.isList;exact call_list_seq p (.inl rfl) ho hc hd (λh' c' kp e=>fin its r' hz h' c' kp e) (by simp only [Z0g] <;> lia)
 ·obtain ⟨its,r',pl,hz⟩:=I.tuple hq;have hlen:=r'.length;obtain ⟨o,ho,hc,n,hd⟩:=pl;exact call_list_seq p (.inr rfl) ho hc hd (λh' c' kp e=>fin its r' hz h' c' kp e) (by simp only [Z0g] <;> lia)
theorem A5l:B0c X (.type "tuple") (λxs H Q=>∃p ys,xs=[.ref p]/\((SqL X.K H p ys/\∀l,H l=none->Q (.ref l) (upd H l (.tup ys)))\/(SqT X.K H p ys/\Q (.ref p) H))):=by
 intro pins s Z H xs us Q I r h;obtain ⟨p,ys,rfl,h⟩:=h;obtain ⟨u,rfl,rx⟩:=B4i r;cases rx;rcases h with ⟨hq,q⟩ | ⟨hq,q⟩
 ·obtain ⟨its,r',pl,hz⟩:=I.list hq;have hlen:=r'.length;refine call_tuple_list pl.isList (λh' kp=> ?_) (by simp only [Z0g] <;> lia);have I1:Inv X pins Z H { s with heap:=h' }:=I.kept (t':=s.toks) kp
  have I2:Inv X pins Z (upd H h'.objs.size (.tup ys)) { s with heap:=h'.push { cls:= .type "tuple",data:= .seq its.toArray } } :=
   I1.laid (t':=s.toks) (λb o e=>Z01 _ e) (Z09 _) (show A2u X.prog X.w _ _ _ (.tup ys) from (i05 hz its r' (IsTup.new _ _)))
  exact i0f (.ref h'.objs.size) _ I2 rfl (q _ (I1.hok.fresh (Z09 _)))
 ·obtain ⟨its,r',pl,hz⟩:=I.tuple hq;exact call_tuple_same pl (i0f (.ref p) H I rfl q)
def tyV (K:Frag) (T:String) (x:V) (H:Hp):Prop:=match x with
 | .str _=>T="str"
 | .int _=>T="int"
 | .ref p=>(T="list"/\∃xs,SqL K H p xs)\/(T="tuple"/\∃o,K.lookup p=some o/\o.cls= .type "tuple"/\o.dict=none)\/
   (T="dict"/\((∃kvs,H p=some (.dK kvs))\/∃kvs,H p=some (.dT kvs)))\/(T="set"/\∃S n,H p=some (.set S n))
 | _=>False
theorem D1r {Z:St} {T:String} {x:V} {v:Value} (I:Inv X pins Z H s) (r:A3i x v) (ty:tyV X.K T x H) :
  s.TypeIs v T/\∀a,v= .ref a->∃ob,s.heap.get? a=some ob/\ob.dict=none:=by
 cases x with
 | str z =>
  obtain ⟨t,rfl⟩:=r;cases (show T="str" from ty);exact ⟨typeIs_str s z t,λ_ e=>nomatch e⟩
 | int i =>
  obtain ⟨t,rfl⟩:=r;cases (show T="int" from ty);exact ⟨typeIs_int s i t,λ_ e=>nomatch e⟩
 | ref p =>
  cases r
  rcases ty with ⟨rfl,xs,hq⟩ | ⟨rfl,o,hk,hc,hd⟩ | ⟨rfl,hk⟩ | ⟨rfl,S,n,hk⟩
  ·obtain ⟨its,_,pl,_⟩:=I.list hq;refine ⟨pl.isList.typeIs,λa e=> ?_⟩;cases e;obtain ⟨o,n,e,c,hd,_⟩:=pl;exact i02 o e hd
  ·refine ⟨(i02 o (I.kIn p o hk) hc),λa e=> ?_⟩;cases e;exact i02 o (I.kIn _ o hk) hd
  ·have z:∃o,s.heap.get? p=some o/\o.ExactDict:=by
    rcases hk with ⟨kvs,hk⟩ | ⟨kvs,hk⟩
    ·obtain ⟨_,_,_,_,o,_,_,e,ex,_⟩:=I.hok p _ hk;exact i02 o e ex
    ·obtain ⟨_,_,_,_,o,_,_,e,ex,_⟩:=I.hok p _ hk;exact i02 o e ex
   obtain ⟨o,e,ex⟩:=z;refine ⟨(i02 o e ex.1),λa e2=> ?_⟩;cases e2;exact i02 o e ex.2.1
  ·obtain ⟨o,_,_,_,e,ex,_⟩:=I.hok p _ hk;refine ⟨(i02 o e ex.1),λa e2=> ?_⟩;cases e2;exact i02 o e ex.2.1
 | _=>exact False.elim ty
def tBM0 (K:Frag) (T:String) (r:V->List V->Hp->VK->Prop) (to:TE):TE:=λZ H Q=>to Z H λx H1=>tyV K T x H1/\r x [] H1 Q
def tBM (K:Frag) (T:String) (r:V->List V->Hp->VK->Prop) (to:TE) (t:TA):TE:=λZ H Q=>to Z H λx H1=>tyV K T x H1/\t Z H1 λxs H2=>r x xs H2 Q
variable {o e:Expr} {es:List Expr} {to:TE} {t:TA} {name:Str} {apos cpos:Pos} {T id:String} {r:V->List V->Hp->VK->Prop}
theorem D8d (pa:PlainAttrs T) (slot:Slot T name id) (hty:typeOf (.builtin id)=pure (.type "method_descriptor")) (hm:MtR X id r) (ho:PE X o to)
  (hbase:attributeBase o name X.env (eval o X.env)=eval o X.env:=by rfl) (hline:(apos.endLine == cpos.line)=true:=by rfl):PE X (.Call (.Attribute o name apos) [] [] cpos) (tBM0 X.K T r to):=by
 intro pins s Z H Q I h;refine wpAny_Call_method0_late hbase hline (thn (ho pins s Z H _ I h) ?_);rintro v s1 ⟨x,H1,I1,r1,ty,q1⟩;obtain ⟨h1,h2⟩:=D1r I1 r1 ty;exact i0s T id pa slot hty h1 h2 (Calls.callWith_builtin rfl (PySem.evalArgs_none (hm pins s1 Z H1 x [] v [] Q I1 r1 .nil q1)))
theorem A7p (pa:PlainAttrs T) (slot:Slot T name id) (hty:typeOf (.builtin id)=pure (.type "method_descriptor")) (hm:MtR X id r) (ho:PE X o to) (ha:PA X (e::es) t)
  (hbase:attributeBase o name X.env (eval o X.env)=eval o X.env:=by rfl)
  (hfew:((backTo cpos (starEach (e::es) X.env)).all (λx=> ! x.1)&&(backToKw cpos (keywordEach [] X.env)).all (λx=>x.1.isSome)
   && decide ((e::es).length+([]:List Keyword).length+(if ([]:List Keyword).isEmpty then 0 else 1)<30))=true:=by rfl)
  (hline:(apos.endLine == cpos.line)=true:=by rfl) (hs:starEach (e::es) X.env=(false,eval e X.env)::starEach es X.env:=by rfl) (hplain:(backTo cpos (starEach es X.env)).any (·.1)=false:=by rfl) :
  PE X (.Call (.Attribute o name apos) (e::es) [] cpos) (tBM X.K T r to t):=by
 intro pins s Z H Q I h;refine wpAny_Call_method_late hbase hfew hline rfl (thn (ho pins s Z H _ I h) ?_);rintro v s1 ⟨x,H1,I1,r1,ty,q1⟩;obtain ⟨h1,h2⟩:=D1r I1 r1 ty;refine i0s T id pa slot hty h1 h2 ?_;have hA:=ha cpos pins s1 Z H1 _ I1 q1;rw [hs] at hA⊢;refine Calls.callWith_builtin (by show (false||(backTo cpos (starEach es X.env)).any (·.1))=false;rw [hplain] <;> rfl) (Calls.evalArgs_plain ?_);exact thn hA (by rintro us s2 ⟨vs,H2,I2,r2,q2⟩;exact hm pins s2 Z H2 x vs v us Q I2 r1 r2 q2)
end
def MtM (X:Cx) (id:String) (r:V->List V->Hp->VK->Prop):Prop :=
 ∀(pins:List (Addr×Obj)) (s:Shared) (Z:St) (H:Hp) (x:V) (xs:List V) (v:Value) (us:List Value) (Q:VK),Inv X pins Z H s->A3i x v->A3y xs us->r x xs H Q->
  wpAny (model X.prog X.w) X.A (call (.builtin id) (v::us)) (EP X pins Z Q) X.xe s
theorem A3y.one:∀{x:V} {us:List Value},A3y [x] us->∃u,us=[u]/\A3i x u
 | _,_,.cons r .nil=>(i02 _ rfl r)
section
variable {X:Cx} {pins:List (Addr×Obj)} {Z:St} {H:Hp} {s:Shared} {l b:Addr} {xs ys zs:List V}
theorem Inv.lset {its':List Value} {n:Nat} (I:Inv X pins Z H s) (hH:H l=some (.lst xs))
  (e:s.heap.get? l=some { cls:= .type "list",data:= .seq its.toArray n }) (hf:f its.toArray=its'.toArray) (hv:A3y ys its') (hz:ys.length<=sizeLine) :
  Inv X pins Z (upd H l (.lst ys)) { s with heap:=s.heap.update l (Obj.mapSeq f),toks:=t' }:=by
 have q:=PySem.IsL.update e f;rw [hf] at q;refine I.write (x:=l) (e:=l) (by rw [hH];exact trivial) (.inl rfl) (λb' u hb hu=>(Heap.get?_update_other s.heap (Obj.mapSeq f) (Ne.symm hb)).trans hu) ⟨_,q⟩ ?_;exact i0b hz its' _ hv q
theorem Inv.lnew (I:Inv X pins Z H s) (hv:A3y ys its) (hz:ys.length<=sizeLine) :
  Inv X pins Z (upd H s.heap.objs.size (.lst ys)) { s with heap:=s.heap.push { cls:= .type "list",data:= .seq its.toArray },toks:=t' } :=
 I.laid (λ_ _ q=>Z01 _ q) (Z09 _) (i0b hz its 0 hv (Z0c _ rfl))
theorem Inv.fresh (I:Inv X pins Z H s):H s.heap.objs.size=none:=I.hok.fresh (Z09 _)
theorem Inv.lstM (I:Inv X pins Z H s) (hH:H l=some (.lst xs)):xs.length<=sizeLine/\∃(its:List Value) (n:Nat),A3y xs its/\xs.length=its.length/\s.heap.get? l=some { cls:= .type "list",data:= .seq its.toArray n }:=by
 obtain ⟨z,its,n,r,e⟩:=I.hok l _ hH;exact i0i z its n r r.length e
theorem D0k {n:Nat} (h:n<=sizeLine):Builtin.List.listTooLong n=false:=by
 unfold Builtin.List.listTooLong;exact Z1j (by lia)
end
section
variable {X:Cx}
def D4k:V->List V->Hp->VK->Prop:=λx vs H Q=>∃l xs y,x= .ref l/\vs=[y]/\H l=some (.lst xs)/\xs.length<sizeLine/\Q .non (upd H l (.lst (xs++[y])))
theorem A2l:MtM X "list.append" D4k:=by
 intro pins s Z H x vs v us Q I rx rv h;obtain ⟨l,xs,y,rfl,rfl,hH,hz,q⟩:=h;cases rx;obtain ⟨u,rfl,ru⟩:=rv.one;obtain ⟨z,its,n,r,hl,e⟩:=I.lstM hH;refine call_meets F.slot_list_append (i02 _ e rfl) F.entry_list_append (F.args_list_append_2 _ _) (PySem.list_append l its.toArray n u (by rw [Z0g];lia)) ⟨e,?_⟩;refine i0f .non _ (I.lset (its':=its++[u]) hH e (by simp) (r.append (.cons ru .nil)) ?_) rfl q;rw [Z06,Z0j]
 lia
def D4m:V->List V->Hp->VK->Prop:=λx vs H Q=>∃l b xs zs,x= .ref l/\vs=[.ref b]/\H l=some (.lst xs)/\H b=some (.lst zs)/\xs.length+zs.length<=sizeLine/\Q .non (upd H l (.lst (xs++zs)))
theorem B2l:MtM X "list.extend" D4m:=by
 intro pins s Z H x vs v us Q I rx rv h;obtain ⟨l,b,xs,zs,rfl,rfl,hH,hB,hz,q⟩:=h;cases rx;obtain ⟨u,rfl,ru⟩:=rv.one;cases ru;obtain ⟨z,its,n,r,hl,e⟩:=I.lstM hH;obtain ⟨z2,its2,n2,r2,hl2,e2⟩:=I.lstM hB;have hsz:its.toArray.size+its2.toArray.size<=sizeLine:=by rw [Z0g,Z0g];lia
 have hlong:¬(! its.toArray.isEmpty&&Builtin.List.listTooLong (its.toArray.size+its2.toArray.size))=true:=by
  rw [D0k hsz,Bool.and_false];exact Z0v
 refine call_meets F.slot_list_extend (i02 _ e rfl) F.entry_list_extend (F.args_list_extend_2 _ _)
  (AutoSeq1.list_extend_list_list_0 l its.toArray n b its2.toArray n2 hlong (by rw [Z0g];lia) (by lia)) (i00 e e2 ?_)
 refine i0f .non _ (I.lset (its':=its++its2) hH e (by simp) (r.append r2) ?_) rfl q;rw [Z06]
 lia
def rCat:R2:=λx y H Q=>∃l b xs zs,x= .ref l/\y= .ref b/\H l=some (.lst xs)/\H b=some (.lst zs)/\xs.length+zs.length<=sizeLine/\∀p,H p=none->Q (.ref p) (upd H p (.lst (xs++zs)))
theorem A8r:OpR X (binaryOp .Add) rCat:=by
 intro pins s Z H x y v u Q I rx ry h;obtain ⟨l,b,xs,zs,rfl,rfl,hH,hB,hz,q⟩:=h;cases rx;cases ry;obtain ⟨z,its,n,r,hl,e⟩:=I.lstM hH;obtain ⟨z2,its2,n2,r2,hl2,e2⟩:=I.lstM hB;refine PySem.P.add_list e e2 ?_ (by rw [Z0g,Z0g];lia);have ea:its.toArray++its2.toArray=(its++its2).toArray:=by simp
 rw [ea];exact i0f (.ref _) _ (I.lnew (t':=s.toks) (r.append r2) (by rw [Z06];lia)) rfl (q _ I.fresh)
end
section
variable {prog:Program} {w:World} {A:Around} {E:Value->Shared->Prop} {s:Shared}
set_option maxRecDepth 100000 in
end
section
variable {X:Cx}
end
section
variable {κ:Type} [DecidableEq κ]
def A9o (kvs:List (κ×V)) (k:κ):Option V:=(kvs.find? λkv=>decide (kv.1=k)).map (·.2)
def A9y (kvs:List (κ×V)) (k:κ) (v:V):List (κ×V) :=
 if (kvs.any λkv=>decide (kv.1=k))=true then kvs.map (λkv=>if kv.1=k then (kv.1,v) else kv) else kvs++[(k,v)]
theorem B2d {p:κ×V} {r:List (κ×V)} {k:κ} (e:p.1=k):A9o (p::r) k=some p.2:=by simp [A9o,Z2h,e]
theorem B1w {p:κ×V} {r:List (κ×V)} {k:κ} (e:¬p.1=k):A9o (p::r) k=A9o r k:=by simp [A9o,Z2h,e]
theorem C1m (k:κ):∀kvs:List (κ×V),(kvs.any λkv=>decide (kv.1=k))=(A9o kvs k).isSome
 | []=>rfl
 | p::r=>by
  rw [List.any_cons];by_cases e:p.1=k
  ·simp only [B2d e,Z20 e,Bool.true_or,Option.isSome_some]
  ·rw [B1w e,Z1j e,Bool.false_or];exact C1m k r
theorem A9d (kvs:List (κ×V)) (k:κ) (v:V):(A9y kvs k v).length<=kvs.length+1:=by
 unfold A9y;split
 ·rw [Z08];lia
 ·rw [Z06,Z0y,Z2g];lia
theorem B6p.isSome_eq {u:Option Value} (r:B6p o u):o.isSome=u.isSome:=by
 cases o with
 | none=>cases u with
  | none=>rfl
  | some _=>exact (show False from r).elim
 | some _=>cases u with
  | none=>exact (show False from r).elim
  | some _=>rfl
theorem B6p.getD {u:Option Value} {d:V} {d':Value} (r:B6p o u) (rd:A3i d d'):A3i (o.getD d) (u.getD d'):=by
 cases o with
 | none=>cases u with
  | none=>exact rd
  | some _=>exact (show False from r).elim
 | some _=>cases u with
  | none=>exact (show False from r).elim
  | some _=>exact r
theorem KV.val {kvs:List (κ×V)} {vs:List (κ×Value)} (r:KV kvs vs) (k:κ):B6p (A9o kvs k) (valueAt vs k):=by
 unfold KV at r
 induction r with
 | nil=>exact True.intro
 | @cons p q ps qs h t ih =>
  obtain ⟨h1,h2⟩:=h;by_cases e:p.1=k
  ·have e':q.1=k:=h1.symm.trans e;have b:valueAt (q::qs) k=some q.2:=by simp [valueAt,Z2h,e']
   rw [B2d e,b];exact h2
  ·have e':¬q.1=k:=λz=>e (h1.trans z);have b:valueAt (q::qs) k=valueAt qs k:=by simp [valueAt,Z2h,e']
   rw [B1w e,b];exact ih
theorem KV.any {kvs:List (κ×V)} {vs:List (κ×Value)} (r:KV kvs vs) (k:κ):(kvs.any λkv=>decide (kv.1=k))=vs.any λkv=>decide (kv.1=k):=by
 unfold KV at r
 induction r with
 | nil=>rfl
 | cons h t ih=>rw [List.any_cons,List.any_cons,ih,h.1]
theorem KV.repl {kvs:List (κ×V)} {vs:List (κ×Value)} (r:KV kvs vs) (k:κ) (ry:A3i y u) :
  KV (kvs.map λkv=>if kv.1=k then (kv.1,y) else kv) (vs.map λkv=>if kv.1=k then (kv.1,u) else kv):=by
 unfold KV at r⊢
 induction r with
 | nil=>exact .nil
 | @cons p q ps qs h t ih =>
  rw [Z0p,Z0p];refine .cons ?_ ih;obtain ⟨h1,h2⟩:=h;by_cases e:p.1=k
  ·rw [Z12 e,Z12 (h1.symm.trans e)];exact ⟨h1,ry⟩
  ·rw [Z0t e,Z0t (λz=>e (h1.trans z))];exact ⟨h1,h2⟩
theorem KV.put {kvs:List (κ×V)} {vs:List (κ×Value)} (r:KV kvs vs) (k:κ) (ry:A3i y u):KV (A9y kvs k y) (stored vs k u):=by
 unfold A9y stored;rw [r.any k];by_cases e:(vs.any λkv=>decide (kv.1=k))=true
 ·rw [Z12 e,Z12 e];exact r.repl k ry
 ·rw [Z0t e,Z0t e];exact Paired.snoc r ⟨rfl,ry⟩
theorem KV.length {kvs:List (κ×V)} {vs:List (κ×Value)} (r:KV kvs vs):kvs.length=vs.length:=Paired.length r
end
theorem B8m {k:Key} (r:A3i (kV k) u):(A2f P w).is k u=true:=by
 cases k with
 | inl i=>obtain ⟨t,e⟩:=(show∃t,u=Value.int i t from r);subst e;exact B9i P w i t
 | inr x=>obtain ⟨t,e⟩:=(show∃t,u=Value.str x t from r);subst e;exact C0u P w x t
theorem B8x {P:Program} {w:World}:∀{ks:List Key} {us:List Value},A3y (ks.map kV) us->ItemsAre (A2f P w) ks us
 | [],_,r=>by rw [List.map_nil] at r;cases r;exact .nil
 | k::ks,_,r=>by
  rw [Z0p] at r
  cases r with
  | cons h t=>exact .cons (B8m h) (B8x t)
abbrev KT (H:Hp):List (List Key×V)->List (List Key×Addr×Value)->Prop:=Paired λp q=>p.1=q.1/\H q.2.1=some (.tup (p.1.map kV))/\A3i p.2 q.2.2
theorem KT.val (r:KT H kvs xs) (k:List Key):B6p (A9o kvs k) ((atKey xs k).map (·.2)):=by
 induction r with
 | nil=>exact True.intro
 | @cons p q ps qs h t ih =>
  obtain ⟨h1,_,h2⟩:=h;by_cases e:p.1=k
  ·have e':q.1=k:=h1.symm.trans e;have b:atKey (q::qs) k=some q.2:=by simp [atKey,Z2h,e']
   rw [B2d e,b];exact h2
  ·have e':¬q.1=k:=λz=>e (h1.trans z);have b:atKey (q::qs) k=atKey qs k:=by simp [atKey,Z2h,e']
   rw [B1w e,b];exact ih
theorem KT.repl (r:KT H kvs xs) (k:List Key) (ry:A3i y u) :
  KT H (kvs.map λkv=>if kv.1=k then (kv.1,y) else kv) (xs.map (putAt k u)):=by
 induction r with
 | nil=>exact .nil
 | @cons p q ps qs h t ih =>
  rw [Z0p,Z0p];refine .cons ?_ ih;obtain ⟨h1,h2,h3⟩:=h;unfold putAt;by_cases e:p.1=k
  ·rw [Z12 e,Z12 (h1.symm.trans e)];exact i00 h1 h2 ry
  ·rw [Z0t e,Z0t (λz=>e (h1.trans z))];exact i00 h1 h2 h3
theorem KT.put (r:KT H kvs xs) (k:List Key) {b:Addr} (hb:H b=some (.tup (k.map kV))) (ry:A3i y u) :
  KT H (A9y kvs k y) (storedH xs k b u):=by
 have e:(kvs.any λkv=>decide (kv.1=k))=(atKey xs k).isSome:=by
  rw [C1m,(r.val k).isSome_eq,Option.isSome_map]
 unfold A9y storedH;rw [e];by_cases q:(atKey xs k).isSome=true
 ·rw [Z12 q,Z12 q];exact r.repl k ry
 ·rw [Z0t q,Z0t q];exact Paired.snoc r (i00 rfl hb ry)
theorem KT.keeps {H':Hp} (r:KT H kvs xs) (ht:∀b ys,H b=some (.tup ys)->H' b=some (.tup ys)):KT H' kvs xs :=
 Paired.mapP r λ_ _ z=>(i00 z.1 (ht _ _ z.2.1) z.2.2)
section
variable {P:Program} {w:World} {H:Hp} {h:Heap} {a:Addr}
theorem D8a {u:HO} (ok:HOk P w H h) (e:Rd H a u):A2u P w H h a u:=e.ok ok
theorem B9y {kvs:List (Key×V)} (ok:HOk P w H h) (e:Rd H a (.dK kvs)):kvs.length<=sizeLine/\(a == sysModules)=false/\∃vs,KV kvs vs/\h.DictOf (A2f P w) a vs :=
 show A2u P w H h a (.dK kvs) from D8a ok e
theorem C6n {kvs:List (Key×V)} (ok:HOk P w H h) (e:H a=some (.dK kvs)):kvs.length<=sizeLine/\(a == sysModules)=false/\∃vs,KV kvs vs/\h.DictOf (A2f P w) a vs:=B9y ok (.inl e)
theorem B5a {ks:List Key} (ok:HOk P w H h) (e:H a=some (.tup (ks.map kV))):(tupleKind (A2f P w)).is h ks a:=by
 obtain ⟨_,its,r,o,h1,h2,n,h3⟩:=(show A2u P w H h a (.tup (ks.map kV)) from ok a _ e);exact i0q o its.toArray n h1 h2 h3 (by simpa using B8x r)
theorem C0r (ok:HOk P w H h) (e:Rd H a (.dT kvs)):kvs.length<=sizeLine/\(a == sysModules)=false/\
  ∃xs,KT H kvs xs/\h.DictOfH (tupleKind (A2f P w)) a xs:=by
 obtain ⟨z,y,xs,r,o,es,ep,h1,h2,h3,h4,h5⟩:=(show A2u P w H h a (.dT kvs) from D8a ok e);refine i0a z y xs r ⟨o,(i0s es ep h1 h2 h3 h4 (λx hx=> ?_) h5)⟩
 have all:∀{l:List (List Key×V)} {m:List (List Key×Addr×Value)},KT H l m->∀x∈m,(tupleKind (A2f P w)).is h x.1 x.2.1:=by
  intro l m q
  induction q with
  | nil=>intro x hx;exact nomatch hx
  | @cons p q ps qs hq t ih =>
   intro x hx;rcases Z0e.mp hx with e | hx
   ·subst e;exact B5a ok (by rw [<-hq.1];exact hq.2.1)
   ·exact ih x hx
 exact all r x hx
theorem E0d (ok:HOk P w H h) (e:H a=some (.dT kvs)):kvs.length<=sizeLine/\(a == sysModules)=false/\
  ∃xs,KT H kvs xs/\h.DictOfH (tupleKind (A2f P w)) a xs:=C0r ok (.inl e)
end
def B0j (H:Hp) (a:Addr) (y:V) (r:Option V):Prop :=
 (∃kvs k,Rd H a (.dK kvs)/\y=kV k/\r=A9o kvs k)\/∃kvs k b,Rd H a (.dT kvs)/\y= .ref b/\H b=some (.tup (k.map kV))/\r=A9o kvs k
def C8s (H:Hp) (a:Addr) (y v:V) (H':Hp):Prop :=
 (∃kvs k,H a=some (.dK kvs)/\y=kV k/\kvs.length<sizeLine/\H'=upd H a (.dK (A9y kvs k v)))\/
 ∃kvs k b,H a=some (.dT kvs)/\y= .ref b/\H b=some (.tup (k.map kV))/\kvs.length<sizeLine/\H'=upd H a (.dT (A9y kvs k v))
theorem B0j.k {kvs:List (Key×V)} {k:Key} (e:H a=some (.dK kvs)):B0j H a (kV k) (A9o kvs k):= .inl (i0f kvs k (.inl e) rfl rfl)
theorem C8s.k {kvs:List (Key×V)} {k:Key} {v:V} (e:H a=some (.dK kvs)) (hl:kvs.length<sizeLine):C8s H a (kV k) v (upd H a (.dK (A9y kvs k v))):= .inl (i0l kvs k e rfl hl rfl)
section
variable {X:Cx} {pins:List (Addr×Obj)} {Z:St} {H:Hp} {s:Shared} {a:Addr} {y v:V} {u r:Value} {o:Option V} {A:Around} {E:Value->Shared->Prop}
theorem Inv.big (I:Inv X pins Z H s):sysModules<s.heap.objs.size:=by
 have h:mainGlobals<s.heap.objs.size:=(I.mod.glob.keeps I.bk).lt;exact Nat.lt_trans (by decide) h
theorem C7o (hu:A.units+1<cLine) (I:Inv X pins Z H s) (g:B0j H a y (some v)) (ry:A3i y u) (h:∀w' s',Inv X pins Z H s'->A3i v w'->Q w' s') :
  wpAny (model X.prog X.w) A (getItem (.ref a) u) Q E s:=by
 rcases g with ⟨kvs,k,e,ey,l⟩ | ⟨kvs,k,b,e,ey,eb,l⟩
 ·subst ey;obtain ⟨z,hd,vs,rel,dd⟩:=B9y I.hok e;obtain ⟨w',hw,rw'⟩:=B6p.some_of (v:=v) (o:=valueAt vs k) (by rw [l];exact rel.val k);exact wpAny_getItem_of (B8m ry) dd.mapOf hw (h w' _ (I.tok _) rw')
 ·subst ey;cases (show u=Value.ref b from ry);obtain ⟨z,hd,xs,rel,dd⟩:=C0r I.hok e;obtain ⟨w',hw,rw'⟩:=B6p.some_of (v:=v) (o:=(atKey xs k).map (·.2)) (by rw [l];exact rel.val k);obtain ⟨p,hp,hp2⟩:=Z0i.mp hw;refine wpAny_getItem_heap (tupleKind_room_in1 hu) (B5a I.hok eb) dd hp ?_;rw [hp2];exact h w' _ (I.tok _) rw'
theorem d_in (hu:A.units+1<cLine) (I:Inv X pins Z H s) (g:B0j H a y o) (ry:A3i y u) (h:∀s',Inv X pins Z H s'->Q (.bool o.isSome) s') :
  wpAny (model X.prog X.w) A (compareOp .In u (.ref a)) Q E s:=by
 rcases g with ⟨kvs,k,e,ey,l⟩ | ⟨kvs,k,b,e,ey,eb,l⟩
 ·subst ey;obtain ⟨z,hd,vs,rel,dd⟩:=B9y I.hok e;refine wpAny_in_of (B8m ry) hd dd.mapOf ?_;rw [<-(rel.val k).isSome_eq,<-l];exact h _ (I.tok _)
 ·subst ey;cases (show u=Value.ref b from ry);obtain ⟨z,hd,xs,rel,dd⟩:=C0r I.hok e;refine wpAny_in_heap (tupleKind_room_in1 hu) (B5a I.hok eb) hd dd ?_;have q:=(rel.val k).isSome_eq;rw [Option.isSome_map] at q;rw [<-q,<-l];exact h _ (I.tok _)
theorem D2e (hu:A.units+1<cLine) (I:Inv X pins Z H s) (g:B0j H a y o) (ry:A3i y u) (h:∀s',Inv X pins Z H s'->Q (.bool (! o.isSome)) s') :
  wpAny (model X.prog X.w) A (compareOp .NotIn u (.ref a)) Q E s:=by
 rcases g with ⟨kvs,k,e,ey,l⟩ | ⟨kvs,k,b,e,ey,eb,l⟩
 ·subst ey;obtain ⟨z,hd,vs,rel,dd⟩:=B9y I.hok e;refine wpAny_notIn_of (B8m ry) hd dd.mapOf ?_;rw [<-(rel.val k).isSome_eq,<-l];exact h _ (I.tok _)
 ·subst ey;cases (show u=Value.ref b from ry);obtain ⟨z,hd,xs,rel,dd⟩:=C0r I.hok e;refine wpAny_notIn_heap (tupleKind_room_in1 hu) (B5a I.hok eb) hd dd ?_;have q:=(rel.val k).isSome_eq;rw [Option.isSome_map] at q;rw [<-q,<-l];exact h _ (I.tok _)
theorem C5t {h':Heap} {ob:HO} (I:Inv X pins Z H s) (mu:Mut (H a)) (hs:Heap.SameBut a s.heap h') (he:∃q,h'.get? a=some q) (new:A2u X.prog X.w (upd H a ob) h' a ob) :
  Inv X pins Z (upd H a ob) { s with heap:=h',toks:=t' } :=
 I.write (x:=a) (e:=a) mu (.inl rfl) (λb q hb z=>(hs.2 b hb).trans z) he new
theorem D7x {H':Hp} {h':Heap} {kvs:List (Key×V)} {vs:List (Key×Value)} (z:kvs.length<=sizeLine) (hd:(a == sysModules)=false) (rel:KV kvs vs) (dd:h'.DictOf (A2f P w) a vs) :
  A2u P w H' h' a (.dK kvs):=(i0a z hd vs rel dd)
theorem C5g {H':Hp} {Q:Unit->Shared->Prop} (hu:A.units+1<cLine) (I:Inv X pins Z H s) (g:C8s H a y v H') (ry:A3i y u) (rv:A3i v r) (h:∀s',Inv X pins Z H' s'->Q () s') :
  wpAny (model X.prog X.w) A (setItem (.ref a) u r) Q E s:=by
 rcases g with ⟨kvs,k,e,ey,l,eH⟩ | ⟨kvs,k,b,e,ey,eb,l,eH⟩
 ·subst ey eH;obtain ⟨z,hd,vs,rel,dd⟩:=C6n I.hok e;have hz:vs.length<=sizeLine:=by rw [<-rel.length];exact z
  have hl:(A9y kvs k v).length<=sizeLine:=by have:=A9d kvs k v;lia
  refine wpAny_setItem_pairs (hsz:=hz) (B8m ry) dd λh' dd' hs=>h _ ?_;have he:∃q,h'.get? a=some q:=let ⟨q,_,_,hq,_⟩:=dd';⟨q,hq⟩;exact C5t I (by rw [e];exact True.intro) hs he (D7x hl hd (rel.put k rv) dd')
 ·subst ey eH;cases (show u=Value.ref b from ry);obtain ⟨z,hd,xs,rel,dd⟩:=E0d I.hok e;have hz:xs.length<=sizeLine:=by rw [<-Paired.length rel];exact z
  have hl:(A9y kvs k v).length<=sizeLine:=by have:=A9d kvs k v;lia
  refine wpAny_setItem_heap (hsz:=hz) (tupleKind_room_in1 hu) (B5a I.hok eb) dd λh' dd' hs=>h _ ?_;obtain ⟨q,es,ep,hq,h2,h3,h4,_,h5⟩:=dd';refine C5t I (by rw [e];exact True.intro) hs ⟨q,hq⟩ (i0a hl hd _ ((rel.put k eb rv).keeps λc ys ec=> ?_) (i0t q es ep hq h2 h3 h4 h5));rw [A0k (A3p ec e (λz=>nomatch z))];exact ec
end
section
variable {X:Cx} {pins:List (Addr×Obj)} {Z:St} {H:Hp} {s:Shared} {a:Addr} {kvs:List (Key×V)} {k:Key} {u:Value} {A:Around} {E:Value->Shared->Prop}
end
def E0u (i:Expr):Prop:=∀ov iv,subscripted i false ov iv=operate [ov,iv] (getItem ov iv)
theorem D2i {prog:Program} {A:Around} {E:Value->Shared->Prop} {env:Env} {value slice:Expr} {pos:Pos} {T id:String}
  (hl:typeLookup (.type T) "__getitem__"=pure (some (.builtin id))) (hs:E0u slice)
  (h:wpAny (model prog w) A (eval value env) (λo s₁=>wpAny (model prog w) A (eval slice env) (λi s₂=>s₂.TypeIs o T/\wpAny (model prog w) A (getItem o i) Q E s₂) E s₁) E s) :
  wpAny (model prog w) A (eval (.Subscript value slice pos) env) Q E s:=by
 refine Subscript_ (Z10 h (λo s₁ h₁=>Z10 h₁ (λi s₂ h₂=> ?_) λ_ _ x=>x) λ_ _ x=>x);obtain ⟨hT,h₂⟩:=h₂;unfold subscriptTail;refine Z00 ?_;rw [getitemInPython_of_ne hT.not_modules];refine Z00 (wpAny_specialOf hT hl ?_)
 have fin:wpAny (model prog w) A (subscripted slice false o i) (λr s₃=>wpAny (model prog w) A (letTemporaryGo value o r >>= λ_=>pure r) Q E s₃) E s₂:=by
  rw [hs o i];exact wpAny_operating (Z10 h₂ (λr s₃ h₃=>Z00 (wpAny_letTemporaryGo (Z04 h₃))) λ_ _ x=>x)
 first
  | exact Z04 (Z00 fin)
  | exact Z00 (Z04 (Z00 fin))
  | exact Z00 fin
theorem C0t {X:Cx} {Z:St} (I:Inv X pins Z H s) (g:B0j H a y o):s.TypeIs (.ref a) "dict":=by
 rcases g with ⟨kvs,k,e,_,_⟩ | ⟨kvs,k,b,e,_,_,_⟩
 ·obtain ⟨_,_,vs,_,dd⟩:=B9y I.hok e;exact dd.typeIs
 ·obtain ⟨_,_,xs,_,dd⟩:=C0r I.hok e;exact dd.typeIs
def D9l (td ty:TE):TE:=λZ H Q=>td Z H λx H1=>ty Z H1 λy H2=>∃a v,x= .ref a/\B0j H2 a y (some v)/\Q v H2
def tDIn (ty td:TE):TE:=λZ H Q=>ty Z H λy H1=>td Z H1 λx H2=>∃a o,x= .ref a/\B0j H2 a y o/\Q (.bl o.isSome) H2
def D3x (ty td:TE):TE:=λZ H Q=>ty Z H λy H1=>td Z H1 λx H2=>∃a o,x= .ref a/\B0j H2 a y o/\Q (.bl (! o.isSome)) H2
def D9t (td ty tv:TE):TS:=λD Z H=>tv Z H λv H1=>td Z H1 λx H2=>ty Z H2 λy H3=>∃a H4,x= .ref a/\C8s H3 a y v H4/\D.nx Z H4
section
variable {X:Cx} {o i e value:Expr} {pos pos' tpos:Pos} {td ty tv:TE}
theorem A4b (hu:X.A.units+1<cLine) (ho:PE X o td) (hi:PE X i ty) (hs:E0u i):PE X (.Subscript o i pos) (D9l td ty):=by
 intro pins s Z H Q I h;refine D2i PySem.F.slot_dict_getitem.lookup hs (thn (ho pins s Z H _ I h) ?_);rintro u s1 ⟨x,H1,I1,rx,q1⟩;refine thn (hi pins s1 Z H1 _ I1 q1) ?_;rintro iv s2 ⟨y,H2,I2,ry,a,v,ex,g,q2⟩;subst ex;obtain rfl:u=Value.ref a:=rx;exact ⟨C0t I2 g,C7o hu I2 g ry λw' s3 I3 rw'=>(i0f v H2 I3 rw' q2)⟩
theorem D5t (hu:X.A.units+1<cLine) (hi:PE X i ty) (ho:PE X o td):PC X .In i o (tDIn ty td):=by
 intro pins s Z H Q I h;refine thn (hi pins s Z H _ I h) ?_;rintro iv s1 ⟨y,H1,I1,ry,q1⟩;refine thn (ho pins s1 Z H1 _ I1 q1) ?_;rintro u s2 ⟨x,H2,I2,rx,a,ov,ex,g,q2⟩;subst ex;obtain rfl:u=Value.ref a:=rx;exact d_in hu I2 g ry λs3 I3=>(i0f (.bl ov.isSome) H2 I3 rfl q2)
theorem C6i (hu:X.A.units+1<cLine) (hi:PE X i ty) (ho:PE X o td):PC X .NotIn i o (D3x ty td):=by
 intro pins s Z H Q I h;refine thn (hi pins s Z H _ I h) ?_;rintro iv s1 ⟨y,H1,I1,ry,q1⟩;refine thn (ho pins s1 Z H1 _ I1 q1) ?_;rintro u s2 ⟨x,H2,I2,rx,a,ov,ex,g,q2⟩;subst ex;obtain rfl:u=Value.ref a:=rx;exact D2e hu I2 g ry λs3 I3=>(i0f (.bl (! ov.isSome)) H2 I3 rfl q2)
theorem B0w (hu:X.A.units+1<cLine) (ho:PE X o td) (hi:PE X i ty) (hv:PE X value tv) (hs:swapsWith value (some (.Subscript o i pos')) pos.line X.env=pure false) :
  PS X (.Assign [.Subscript o i pos'] value pos) (D9t td ty tv):=by
 intro pins s Z H D I h;refine wpAny_Assign_Subscript (thn (hv pins s Z H _ I h) ?_) hs;rintro r s1 ⟨v,H1,I1,rv,q1⟩;refine thn (ho pins s1 Z H1 _ I1 q1) ?_;rintro u s2 ⟨x,H2,I2,rx,q2⟩;refine thn (hi pins s2 Z H2 _ I2 q2) ?_;rintro iv s3 ⟨y,H3,I3,ry,a,H4,ex,g,q3⟩;subst ex;obtain rfl:u=Value.ref a:=rx;exact C5g hu I3 g ry rv λs4 I4=>(i07 Z H4 I4 q3)
end
theorem D0d (h:Heap) (hb:sysModules<h.objs.size):A2u P w H (h.push { cls:= .type "dict",data:= .dict #[] }) h.objs.size (.dK []) :=
 (i0a (Z1e _) (Z22.mpr (Ne.symm (Z0h hb))) [] .nil (Heap.DictOf.new h))
def D7v:TE:=λ_ H Q=>∀p,H p=none->Q (.ref p) (upd H p (.dK []))
section
variable {X:Cx} {pos:Pos}
theorem B5x:PE X (.Dict [] [] pos) D7v:=λpins s Z H Q I h =>
 wpAny_Dict_empty (i0f (.ref s.heap.objs.size) _ (I.laid (a:=s.heap.objs.size) (o:= .dK []) (t':=s.toks) (λ_ _ q=>Z01 _ q) (Z09 _) (D0d s.heap I.big)) rfl (h _ (I.hok.fresh (Z09 _))))
end
def A4h (kvs more:List (Key×V)):List (Key×V):=more.foldl (λacc kv=>A9y acc kv.1 kv.2) kvs
theorem KV.merge:∀{more:List (Key×V)} {rs:List (Key×Value)} {kvs:List (Key×V)} {vs:List (Key×Value)},KV more rs->KV kvs vs->KV (A4h kvs more) (merged vs rs):=by
 intro more rs kvs vs r;unfold KV at r
 induction r generalizing kvs vs with
 | nil=>intro q;exact q
 | @cons p q ps qs h t ih =>
  intro r0
  have e:KV (A9y kvs p.1 p.2) (stored vs q.1 q.2):=by
   have:=r0.put p.1 h.2;rw [<-h.1];exact this
  exact ih e
theorem A7j:∀(more kvs:List (Key×V)),(A4h kvs more).length<=kvs.length+more.length
 | [],kvs=>by show kvs.length<=kvs.length+0;lia
 | p::r,kvs=>by
  have h1:=A7j r (A9y kvs p.1 p.2);have h2:=A9d kvs p.1 p.2;show (A4h (A9y kvs p.1 p.2) r).length<=_;rw [Z0y];lia
structure M2 (X:Cx) (o:Expr) (m:Str) (apos:Pos) (e f:Expr) (cpos:Pos):Prop where
 base:attributeBase o m X.env (eval o X.env)=eval o X.env
 few:((backTo cpos (starEach [e,f] X.env)).all (λx=> ! x.1)&&(backToKw cpos (keywordEach [] X.env)).all (λx=>x.1.isSome)
  && decide (([e,f]:List Expr).length+([]:List Keyword).length+(if ([]:List Keyword).isEmpty then 0 else 1)<30))=true
 line:(apos.endLine == cpos.line)=true
 trees:backTo cpos (starEach [e,f] X.env)=[(false,eval e X.env),(false,eval f X.env)]
def IsD (H:Hp) (a:Addr):Prop:=(∃kvs,Rd H a (.dK kvs))\/∃kvs,Rd H a (.dT kvs)
theorem D7t {X:Cx} {Z:St} (I:Inv X pins Z H s) (d:IsD H a) :
  s.TypeIs (.ref a) "dict"/\(∀b,Value.ref a= .ref b->∃ob,s.heap.get? b=some ob/\ob.dict=none)/\(a == sysModules)=false:=by
 rcases d with ⟨kvs,e⟩ | ⟨kvs,e⟩
 ·obtain ⟨_,hd,vs,_,dd⟩:=B9y I.hok e;refine i00 dd.typeIs (λb q=> ?_) hd;cases q;obtain ⟨ob,_,_,h1,h2,_⟩:=dd;exact i02 ob h1 h2.2.1
 ·obtain ⟨_,hd,xs,_,dd⟩:=C0r I.hok e;refine i00 dd.typeIs (λb q=> ?_) hd;cases q;obtain ⟨ob,_,_,h1,h2,_⟩:=dd;exact i02 ob h1 h2.2.1
section
variable {X:Cx} {pins:List (Addr×Obj)} {Z:St} {H:Hp} {s:Shared} {a:Addr} {y d:V} {u r:Value} {o:Option V} {A:Around} {E:Value->Shared->Prop}
theorem D6p (hu:A.units+1<cLine) (I:Inv X pins Z H s) (g:B0j H a y o) (ry:A3i y u) (rd:A3i d r) (h:∀w' s',Inv X pins Z H s'->A3i (o.getD d) w'->Q w' s') :
  wpAny (model X.prog X.w) A (call (.builtin "dict.get") [.ref a,u,r]) Q E s:=by
 rcases g with ⟨kvs,k,e,ey,l⟩ | ⟨kvs,k,b,e,ey,eb,l⟩
 ·subst ey;obtain ⟨z,hd,vs,rel,dd⟩:=B9y I.hok e;refine call_meetsIn PySem.F.slot_dict_get dd.typeIs PySem.F.entry_dict_get (PySem.F.args_dict_get_3 _ _ _) (meets_dict_get_default (A2f X.prog X.w) a (B8m ry) hd r) (i02 _ dd.mapOf (h _ _ (I.tok _) ?_));rw [l];exact (rel.val k).getD rd
 ·subst ey;cases (show u=Value.ref b from ry);obtain ⟨z,hd,xs,rel,dd⟩:=C0r I.hok e;refine call_meetsIn PySem.F.slot_dict_get dd.typeIs PySem.F.entry_dict_get (PySem.F.args_dict_get_3 _ _ _) (meetsH_dict_get_default (tupleKind (A2f X.prog X.w)) a b hd r) (i0i (tupleKind_room_in1 hu) k xs (B5a I.hok eb) dd (h _ _ (I.tok _) ?_));rw [l];exact (rel.val k).getD rd
end
def D6f (td ty tx:TE):TE:=λZ H Q=>td Z H λx H1=>∃a,x= .ref a/\IsD H1 a/\ty Z H1 λy H2=>tx Z H2 λz H3=>∃o,B0j H3 a y o/\Q (o.getD z) H3
section
variable {X:Cx} {o e f:Expr} {apos cpos:Pos} {td ty tx:TE}
theorem C2e (hu:X.A.units+1<cLine) (ho:PE X o td) (he:PE X e ty) (hf:PE X f tx) (m:M2 X o "get" apos e f cpos):PE X (.Call (.Attribute o "get" apos) [e,f] [] cpos) (D6f td ty tx):=by
 intro pins s Z H Q I h;refine wpAny_Call_method m.base m.few m.line PySem.F.plainAttrs_dict PySem.F.slot_dict_get PySem.F.type_dict_get (thn (ho pins s Z H _ I h) ?_);rintro u s1 ⟨x,H1,I1,rx,a,ex,d,q1⟩;subst ex;obtain rfl:u=Value.ref a:=rx;obtain ⟨t1,t2,_⟩:=D7t I1 d;refine i00 t1 t2 ?_;rw [m.trees]
 refine Calls.callWith_builtin rfl (Calls.evalArgs_plain (Calls.spliced_cons (thn (he pins s1 Z H1 _ I1 q1) λiv s2 ⟨y,H2,I2,ry,q2⟩ =>
  Calls.spliced_cons (thn (hf pins s2 Z H2 _ I2 q2) λfv s3 ⟨z,H3,I3,rz,ov,g,q3⟩=>Calls.spliced_nil ?_))))
 exact D6p hu I3 g ry rz λw' s4 I4 rw'=>(i0f _ H3 I4 rw' q3)
end
section
variable {X:Cx} {pins:List (Addr×Obj)} {Z:St} {H:Hp} {s:Shared} {a:Addr} {kvs:List (Key×V)} {A:Around} {E:Value->Shared->Prop}
end
section
variable {X:Cx} {pins:List (Addr×Obj)} {Z:St} {H:Hp} {s:Shared} {a:Addr} {y:V} {u:Value} {A:Around} {E:Value->Shared->Prop}
end
end L2
namespace Att
open PySem PySem.W PySem.Calls PyProof.Rows
theorem B3p {P:Params} {h:Heap}:∀(ns:List Int) (vs:List Value),WellAll P h vs (ns.map WData.int)->IntsAre vs ns:=by
 intro ns
 induction ns with
 | nil =>
  intro vs w;rw [List.map_nil] at w;cases w;exact .nil
 | cons n ns ih =>
  intro vs w;rw [Z0p] at w
  cases w with
  | cons a b =>
   cases a
   exact .cons _ _ (ih _ b)
theorem C6f {l:OpenLaw} {n:Nat} (hn:l.most=some n) {P:Params} {h:Heap} {args:List WData} {vals:List Value}
  (hpre:l.row.toRowW.claim.pre args=true) (hwl:WellAll P h vals args) :
  ∃a vs ns,vals=[Value.ref a]/\args=[WData.list (ns.map WData.int)]/\h.get? a=some { cls:= .type "list",data:= .seq vs.toArray }/\IntsAre vs ns/\ns.length<=n:=by
 have hsh:WShape.hasAll [] args [.list .int]=true:=(pre_splitW hpre).1;have hc:l.pre.holds [] { args:=args }=true:=(pre_splitW hpre).2;obtain ⟨d,r,rfl,h1,h2⟩:=hasAllW_cons hsh;obtain rfl:=hasAllW_nil h2;obtain ⟨xs,rfl,h3⟩:=hasW_list h1;obtain ⟨ns,rfl⟩:=items_int h3
 have hlen:ns.length<=n:=by
  unfold OpenLaw.pre at hc
  have h4:(WTm.not (.lt (.lit (.int (n:Int))) (.len (.arg 0)))).holds [] { args:=[.list (ns.map .int)] }=true:=by
   have h4:=(holds_andW hc).1;rw [hn] at h4;exact h4
  have h5:=condW_of h4 (w_not (w_lt w_lit (w_len_list (w_arg rfl))));rw [Z08] at h5;refine Nat.le_of_not_lt λq=> ?_;have q':(n:Int)<((ns.length:Nat):Int):=by lia
  first
   | (rw [Z20 q'] at h5;exact absurd h5 (by decide))
   | (simp at h5;lia)
 cases hwl with
 | cons w1 w2 =>
  cases w2
  cases w1 with
  | list ho hall=>exact i0t _ _ ns rfl rfl ho (B3p ns _ hall) hlen
theorem C4p (l:OpenLaw) (args:List WData):l.row.toRowW.claim.post args (.bool true) args=true :=
 postW_of (r:=l.row.toRowW) (X:=(true == true))
  (show WShape.has [] (.bool true) .bool=true by first | rfl | decide | simp [WShape.has,WShape.arms,WShape.armsAll])
  (show (WTm.eq .res (.lit (.bool true))).value [] { args:=args,res:=some (.bool true),after:=args }=some (.bool (true == true)) from w_eq_bool (w_res rfl) w_lit) rfl
theorem attach_call {l:OpenLaw} {n:Nat} {q:Program} {loose:List Str} {XP:(Str->Option Value)->Heap->Prop} {YP:World->Heap->Prop} {d:DefRec}
  (hn:l.most=some n) (hdf:d.params.defaults=[])
  (call:∀(w:World) (s₀ s₁:Shared) (mg mb:Str->Option Value) (fa:Addr) (o:Obj) (pm cd doc:Value) (a:Addr) (vs:List Value) (ns:List Int),
   Ground q loose [] XP w s₀ mg mb s₁.heap->YP w s₁.heap->
   s₁.heap.get? fa=some o->o.data= .func (docDef d.name d.params d.body d.scope pm cd doc)->s₁.heap.CodeRec cd d.name->mg d.name=some (.ref fa)->
   s₁.heap.get? a=some { cls:= .type "list",data:= .seq vs.toArray }->IntsAre vs ns->ns.length<=n->s₁.gens= #[]->
   codeAny (model l.prog w) callerA (.call (.ref fa) ⟨[.ref a],[]⟩) (λr s'=>r= .ok (.ret (.bool true))/\OldK s₁.heap s'.heap/\s'.os=s₁.os/\AllBare s'.gens) s₁) :
  WalkO q loose XP YP l.row.toRowW d [] (λf vs=>PySem.call f vs):=by
 intro w s₀ s₁ mg mb G Y fa o pm cd doc dV kV ho hd hcd hD hmg hg args vals as hpre hlay hrd hwl hlo;obtain rfl:dV= .none:=Dflts.none hD hdf;obtain rfl:kV= .none:=Dflts.noKw hD;obtain ⟨a,vs,ns,rfl,rfl,hobj,hints,hlen⟩:=C6f hn hpre hwl;refine enter_call (codeAny_mono (call w s₀ s₁ mg mb fa o pm cd doc a vs ns G Y ho (fd_plain hd) hcd hmg hobj hints hlen hg) λr s' hq=> ?_);obtain ⟨rfl,h2,h3,h4⟩:=hq;exact i04 (.inl (i0t (.bool true) (.bool true) [] rfl (λ_=>rfl) (.bool true) (C4p l _) λ_=>⟨List.Pairwise.nil,λ_ hm=>(nomatch hm)⟩)) h2 h3 h4
section
variable {prog:Program} {w:World} {A:Around} {E:Value->Shared->Prop} {s:Shared} {K:Frag}
end
end Att
namespace L2
open PySem PySem.Spec PyProof.Rows
variable {P prog:Program} {w:World} {K:Frag} {mg:Str->Option Value} {a l d f it p C:Addr} {fd:FuncData} {x qual x₀:Str} {vs:List (Key×Value)} {n k1 k2 i ep i₀:Nat} {XP:(Str->Option Value)->Heap->Prop} {X:Cx} {st:Stmt} {ps N':List Str} {od o:Obj} {osl sl:Array (Option Value)} {A:Around} {pos pos₀ spos:Pos} {B:Prop} {H H':Hp} {xs ys:Array Value} {b:Bool} {Q:Option Value->Shared->Prop} {y:Value} {g:TG} {Z:St} {h' h:Heap} {v:V} {scope:Scope} {u:HO} {S:Addr->Prop} {r:List (Str×V)} {pins:List (Addr×Obj)} {s:Shared} {kvs:List (Key×V)} {es:Array DictEntry} {elt iter:Expr} {cs elts:List Expr} {ix:List (Option Nat)} {cl:List (Str×Addr)} {wi:TI} {tc:TT} {te:TE} {sts:List Stmt} {E:Value->Shared->Prop}
theorem B8a:∀{vs:List Value} {ns:List Int},IntsAre vs ns->A3y (ns.map V.int) vs
 | _,_,.nil=> .nil
 | _,_,.cons n t h=> .cons ⟨t,rfl⟩ (B8a h)
def D9n (H:Hp):Prop:=∀b,H b=none\/∃o xs,H b=some (.frz o (.lst xs))
theorem C8x {mb:Str->Option Value} {CX:CXT} {k:Nat} {fa:Addr} {sp:Sp} {s₁:Shared} {vs:List Value} {ns:List Int}
  (KX:K.In s₁.heap) (hns:s₁.heap.Ns mainGlobals mg) (hb:s₁.heap.Ns builtinsNs mb) (hbb:∀x:Str,x≠"__name__"->mb x=bootBuiltins x) (hlim:s₁.heap.NoLimit) (hg:s₁.gens= #[])
  (ha:s₁.heap.get? a=some { cls:= .type "list",data:= .seq vs.toArray }) (hi:IntsAre vs ns) (hl:ns.length<=sizeLine) (hr:A9p k callerA)
  (F:∀base:Heap,K.In base->base.Ns mainGlobals mg->A3h P w K mg base CX k fa fd [x] sp) (hbind:∀(s:Shared) (u:Value),BindsTo s fd ⟨[u],[]⟩ [(x,u)])
  (hsp:∀H:Hp,D9n H->SqL K H a (ns.map V.int)->sp [.ref a] H (λv _=>v= .bl true) λ_ _ _=>False)
  (hCX:∀H e s',CX [] H s₁ (λ_ _ _=>False) e s'->False) :
  codeAny (model P w) callerA (.call (.ref fa) ⟨[.ref a],[]⟩) (λr s'=>r= .ok (.ret (.bool true))/\OldK s₁.heap s'.heap/\s'.os=s₁.os/\AllBare s'.gens) s₁:=by
 have rv:=B8a hi;have lenV:=hi.length
 have core:∀H:Hp,D9n H->SqL K H a (ns.map V.int)->HOk P w H s₁.heap->(∀b,H b≠none->b=a)->(H a≠none->K.lookup a=none)->
   codeAny (model P w) callerA (.call (.ref fa) ⟨[.ref a],[]⟩) (λr s'=>r= .ok (.ret (.bool true))/\OldK s₁.heap s'.heap/\s'.os=s₁.os/\AllBare s'.gens) s₁:=by
  intro H hO hS hok hA hK;have base_of:∀{b:Addr} {o:Obj},s₁.heap.get? b=some o->H b=none->(D0h s₁.heap H).get? b=some o:=λe n=>C9k e n
  have noA:∀{b:Addr} {o:Obj} {es:Array DictEntry} {ep:Nat},s₁.heap.get? b=some o->o.data= .dict es ep->H b=none:=λ{b o es ep} e d=>by
   cases q:H b with
   | none=>rfl
   | some u =>
    have e':b=a:=hA b (by rw [q];simp);subst e';rw [ha] at e;cases e;have d':Data.seq vs.toArray _=Data.dict es ep:=d;cases d'
  have nsK:∀{b:Addr} {m:Str->Option Value},s₁.heap.Ns b m->(D0h s₁.heap H).Ns b m:=λ{b m} ⟨o,es,ep,e,d,r⟩=>(i0m o es ep (base_of e (noA e d)) d r)
  have hKb:K.In (D0h s₁.heap H):=λb o e=>base_of (KX b o e) (by
   cases q:H b with
   | none=>rfl
   | some u =>
    have e':b=a:=hA b (by rw [q];simp);subst e'
    rw [hK (by rw [q];simp)] at e;cases e)
  have hM:Mod K mg (D0h s₁.heap H):=⟨hKb,nsK hns,(i02 mb (nsK hb) hbb),let ⟨mc,h1,h2⟩:=hlim;(i02 mc (nsK h1) h2)⟩;have e0:D4z P w K mg (D0h s₁.heap H) callerA [] s₁ H:=⟨rfl,hM,λb o e=>D4t e,Nat.le_of_eq (C6j _ _),trivial,λb hb=>absurd (show b∈([]:List Addr) from hb) (by simp),hok,.of_eq hg⟩;refine codeAny_mono ((F _ hKb (nsK hns)).run callerA [] s₁ H ⟨[.ref a],[]⟩ [.ref a] [.ref a] _ _ hr e0 (hbind s₁ (.ref a)) (.cons rfl .nil) (hsp H hO hS)) λr s' h=> ?_
  cases r with
  | error e=>exact (hCX H e s' h).elim
  | ok fl =>
   cases fl with
   | next=>exact False.elim h
   | brk=>exact False.elim h
   | cont=>exact False.elim h
   | ret u =>
    obtain ⟨v,H',os,bare,un,hok',r',q⟩:=h;have q':v= .bl true:=q;subst q';obtain rfl:u=Value.bool true:=r';refine i04 rfl (OldK.of_keep λb o e=> ?_) os bare
    cases q:H b with
    | none=>exact un.keep b o e q (by intro z;exact absurd (show b∈([]:List Addr) from z) (by simp)) (by simp)
    | some u =>
     rcases hO b with z | ⟨ob,xs,z⟩
     ·rw [q] at z;cases z
     ·have z2:=un.frzs b ob _ z;obtain ⟨e1,_⟩:=hok b _ z;obtain ⟨e2,_⟩:=hok' b _ z2;rw [e] at e1;cases e1;exact e2
 cases hk:K.lookup a with
 | some o =>
  have e:=KX a o hk;rw [ha] at e;cases e;refine core (λ_=>none) (λ_=> .inl rfl) (.inr ⟨_,(i0s vs.toArray _ hk rfl rfl rfl (by rw [Z0g,lenV];exact hl) (by simpa using rv))⟩) (λb u z=>by have z':(none:Option HO)=some u:=z;cases z') (λb z=>absurd rfl z) λz=>absurd rfl z
 | none =>
  refine core (λb=>if b=a then some (.frz { cls:= .type "list",data:= .seq vs.toArray } (.lst (ns.map V.int))) else none) (λb=> ?_) (.inl (.inr ⟨{ cls:= .type "list",data:= .seq vs.toArray },Z12 rfl⟩)) (λb u z=> ?_) (λb z=> ?_) λ_=>hk
  ·by_cases hb:b=a
   ·exact .inr (i03 _ _ (Z12 hb))
   ·exact .inl (Z0t hb)
  ·by_cases hb:b=a
   ·have z':=(Z12 hb).symm.trans z;cases z';subst hb;exact ⟨ha,(i0b (by rw [Z08];exact hl) vs _ rv ha)⟩
   ·have z':=(Z0t hb).symm.trans z;cases z'
  ·by_cases hb:b=a
   ·exact hb
   ·exact absurd (Z0t hb) z
theorem D3c {l:PySem.W.OpenLaw} {k:Nat} {q:Program} {loose:List Str} {YP:World->Heap->Prop} {d:DefRec} {K:Params->Frag} {CX:World->CXT} {sp:World->Sp}
  (hn:l.most=some n) (hn2:n<=sizeLine) (hdf:d.params.defaults=[]) (hr:A9p k callerA)
  (hY:∀(w:World) (h:Heap),YP w h->(K w.params).In h)
  (F:∀(w:World) (mg:Str->Option Value) (fa:Addr) (h:Heap),(K w.params).In h->h.Ns mainGlobals mg->mg d.name=some (.ref fa)->
   ∃fd:FuncData,(∀(s:Shared) (u:Value),BindsTo s fd ⟨[u],[]⟩ [(x,u)])/\
    ∀base:Heap,(K w.params).In base->base.Ns mainGlobals mg->A3h l.prog w (K w.params) mg base (CX w) k fa fd [x] (sp w))
  (hsp:∀(w:World) (H:Hp) (a:Addr) (ns:List Int),ns.length<=n->D9n H->SqL (K w.params) H a (ns.map V.int)->sp w [.ref a] H (λv _=>v= .bl true) λ_ _ _=>False)
  (hCX:∀(w:World) (H:Hp) (s:Shared) (e:Value) (s':Shared),CX w [] H s (λ_ _ _=>False) e s'->False) :
  PySem.W.WalkO q loose XP YP l.row.toRowW d [] (λf vs=>PySem.call f vs):=by
 refine Att.attach_call hn hdf λw s₀ s₁ mg mb fa o pm cd doc a vs ns G Y ho hd hcd hmg hobj hints hlen hg=> ?_;have KX:=hY w _ Y;obtain ⟨fd,hb,hF⟩:=F w mg fa _ KX G.T.g hmg;exact C8x KX G.T.g G.T.b G.T.builtins G.T.nolimit hg hobj hints (Z1n hlen hn2) hr hF hb (λH hO hS=>hsp w H a ns hlen hO hS) λH e s'=>hCX w H s₁ e s'
def A3b (s:Stmt) (j:Nat):Stmt:=match s with
 | .ClassDef _ _ _ body _ _ _ _ _ _ _=>body.getD j (.Pass ⟨0,0,0,0⟩)
 | _=> .Pass ⟨0,0,0,0⟩
def A9g (s:Stmt):Arguments:=match s with
 | .FunctionDef _ a _ _ _ _ _ _ _ _=>a
 | _=>{ posonlyargs:=[],args:=[],vararg:=none,kwonlyargs:=[],kw_defaults:=[],kwarg:=none,defaults:=[] }
def A8c (s:Stmt):List Stmt:=match s with
 | .FunctionDef _ _ b _ _ _ _ _ _ _=>b
 | _=>[]
def A0n (s:Stmt):Scope:=match s with
 | .FunctionDef _ _ _ _ _ _ sc _ _ _=>sc
 | _=>{ kind:= .function,names:=[],isGenerator:=false,isCoroutine:=false }
abbrev CX0:CXT:=λ_ _ _ _ _ _=>False
abbrev E0:XK:=λ_ _ _=>False
theorem B6h:B3e CX0 X E0:=λ_ _ _ _ _ _ _ h=>h.elim
structure Fun (K:Frag) (x qual:Str) (st:Stmt) (f:Addr) (fd:FuncData):Prop where
 ex:∃(oc:Value) (od:Option Addr) (kV doc pm:Value) (an:Option Addr) (cdv ct:Value) (osl:Array (Option Value)),
  fd=fnOf x qual (A9g st) (A8c st) (A0n st) .none kV doc pm an cdv ct/\K.lookup f=some ⟨oc,od,.func fd,osl⟩/\codeIn K cdv qual=true
 kp:keepIn K (.ref f)=true
section
variable {P:Program} {w:World} {K:Frag} {mg:Str->Option Value} {base:Heap}
theorem Fun.ok {N:List Str} {k:Nat} {sp:Sp} (F:Fun K x qual st f fd) (S:A0z N ps (A0n st)) (len:∀vs H Q E,sp vs H Q E->vs.length=ps.length)
  (hbody:∀(cdv:Value) (A:Around) (outer:List Env) (s:Shared) (H:Hp) (vs:List V) (Q:VK) (E:XK),A9p k (A.deeper (envOfC qual (A0n st) s.heap.objs.size f cdv))->sp vs H Q E->
   ∃t,PSs (D5e CX0 P w K mg base N qual (A0n st) f cdv A outer s H E).nox (A8c st) t/\t { nx:=λ_ H'=>Q .non H',rt:=Q } (B7r N vs) H):A3h P w K mg base CX0 (k+1) f fd ps sp:=by
 obtain ⟨oc,od,kV,doc,pm,an,cdv,ct,osl,rfl,lk,hcd⟩:=F.ex;refine D9u lk hcd S len λA outer s H vs Q E hr hsp=> ?_;obtain ⟨t,h,q⟩:=hbody cdv A outer s H vs Q E hr hsp;exact i02 t h.nox q
theorem Fun.binds (F:Fun K x qual st f fd)
  (h:∀(kV doc pm:Value) (an:Option Addr) (cdv ct:Value) (us:List Value),us.length=ps.length->bindArgs (fnOf x qual (A9g st) (A8c st) (A0n st) .none kV doc pm an cdv ct) ⟨us,[]⟩=pure (ps.zip us)):A8o K fd ps []:=by
 obtain ⟨oc,od,kV,doc,pm,an,cdv,ct,osl,rfl,lk,hcd⟩:=F.ex;exact .all (h kV doc pm an cdv ct)
theorem D1x {oc:Value} {od an:Option Addr} {kV doc pm cdv ct:Value} (l:K.lookup f=some ⟨oc,od,.func (fnOf x qual (A9g st) (A8c st) (A0n st) .none kV doc pm an cdv ct),osl⟩)
  (c:codeIn K cdv qual=true) (k:keepIn K (.ref f)=true):Fun K x qual st f (fnOf x qual (A9g st) (A8c st) (A0n st) .none kV doc pm an cdv ct):=⟨(i0u oc od kV doc pm an cdv (i0f ct osl rfl l c)),k⟩
end
theorem A7r {k:Nat} (hr:A9p k A):A.units+1<cLine:=Z2d (Nat.add_le_add_left (by decide:1<=64) _) hr.units
section
variable {X:Cx}
theorem pv (i:Nat) (hN:X.N[i]? =some x:=by rfl) (hv:Vis X.env.scope x:=by first | exact Or.inl rfl | exact Or.inr (Or.inl rfl) | exact Or.inr (Or.inr rfl)) (hd:(x == ("__debug__":Str))=false:=by decide)
  (hcd:(x == ("__classdict__":Str))=false:=by decide):PE X (.Name x pos) (C7a i):=D6k hN hv hd hcd
end
theorem A2o {A:Prop} (h:B):if false=true then A else B:=by
 rw [Z0t Z0v];exact h
theorem A5z {A:Prop} (h:A):if true=true then A else B:=by
 rw [Z12 rfl];exact h
theorem D1b {c A:Prop} [Decidable c] (h1:c->A) (h2:¬c->B):if c then A else B:=by
 by_cases h:c
 ·rw [Z12 h];exact h1 h
 ·rw [Z0t h];exact h2 h
def A1c (H H':Hp):Prop:=∀b o,H b=some o->H' b=some o
theorem A1c.refl (H:Hp):A1c H H:=λ_ _ h=>h
theorem A1c.trans {H1 H2:Hp} (a:A1c H H1) (b:A1c H1 H2):A1c H H2:=λc o h=>b c o (a c o h)
theorem A1c.free (e:A1c H H') (h:H' l=Option.none):H l=Option.none:=by
 cases q:H l with
 | none=>rfl
 | some o =>
  rw [e l o q] at h;cases h
theorem A1c.seq {xs:List V} (e:A1c H H') (h:SqL K H a xs):SqL K H' a xs:=by
 rcases h with (h | ⟨o,h⟩) | h
 ·exact .inl (.inl (e _ _ h))
 ·exact .inl (.inr ⟨o,e _ _ h⟩)
 ·exact .inr h
section
variable {κ:Type} [DecidableEq κ]
end
section
variable {X:Cx}
def tCut (t u:TS):TS:=λD Z H=>∃M:St->Hp->Prop,t { D with nx:=M } Z H/\∀Z' H',M Z' H'->u D Z' H'
theorem A5h {st:Stmt} {rest:List Stmt} {t u:TS} (h1:PS X st t) (h2:PSs X rest u):PSs X (st::rest) (tCut t u):=by
 intro pins s Z H D I h;obtain ⟨M,h,hm⟩:=h;refine wpAny_execs_cons (thn (h1 pins s Z H { D with nx:=M } I h) λf s1 q=> ?_)
 cases f with
 | next =>
  obtain ⟨Z',H',I',q⟩:=q;exact h2 pins s1 Z' H' D I' (hm _ _ q)
 | ret v=>exact q
 | brk=>exact q
 | cont=>exact q
def rIsi (K:Frag):List V->Hp->VK->Prop:=λxs H Q=>∃x c t b,xs=[x,c]/\A8j K H x t/\(∀u,A3i c u->kitOne K t u=some b)/\Q (.bl b) H
theorem A1j:B0c X (.builtin "isinstance") (rIsi X.K):=by
 intro pins s Z H xs us Q I r h;obtain ⟨x,c,t,b,rfl,ty,e,q⟩:=h;obtain ⟨u,w',rfl,ru,rw'⟩:=C6v r;exact C4y I ru ty (e w' rw') λtk=>(i0f (.bl b) H (I.tok tk) rfl q)
theorem B1y (T:String):∀u,A3i (.ty T) u->kitOne K (.type T) u=some true:=by
 intro u h;cases (show u=Value.type T from h);unfold kitOne;rw [Z12 (beq_self_eq_true _)]
theorem B8e {T U:String} (h:(Value.type T == Value.type U)=false) (hm:PySem.W.kitMeta U=true) (hs:(PySem.fastBuiltinMro T).map (·.contains (Value.type U))=some b) :
  ∀u,A3i (.ty U) u->kitOne K (.type T) u=some b:=by
 intro u z;cases (show u=Value.type U from z);unfold kitOne;rw [Z0t (by rw [h];exact Z0v)];show (if PySem.W.kitMeta U=true then subIn K (.type T) (.type U) else none)=some b;rw [Z12 hm];exact hs
def D9k (_ j:Int):Prop:=0<j/\j.natAbs<2^4000
theorem C9l:OpR X (binaryOp .FloorDiv) (rI D9k λi j=> .int (i/j)):=opI λi j _ _ _ _ _ hc q=>by
 have h1:(0:Int)<j:=hc.1;have h2:j.natAbs.log2<9000:=Nat.lt_trans ((Nat.log2_lt (by lia)).mpr hc.2) (by decide);exact floordiv_int (by lia) (by rw [Int.fdiv_eq_ediv_of_nonneg i (by lia)];exact q) (.inl (PyProof.noPylong_of_log2 h2))
end
structure Nx (it l:Addr) (st:Nat->Heap->Prop) (src:Array Value->Heap->Prop):Prop where
 item:∀{prog:Program} {w:World} {A:Around} {E:Value->Shared->Prop} {s:Shared} {k:Nat} {xs:Array Value} {x:Value} {Q:Value->Shared->Prop},st k s.heap->src xs s.heap->xs[k]? =some x->
  (∀h',st (k+1) h'->Heap.SameBut it s.heap h'->Q x { s with heap:=h' })->wpAny (model prog w) A (Builtin.SmallTypes.nextOf (.ref it)) Q E s
 fin:∀{prog:Program} {w:World} {A:Around} {E:Value->Shared->Prop} {s:Shared} {k:Nat} {xs:Array Value} {Q:Value->Shared->Prop},A.handled=none->st k s.heap->src xs s.heap->xs[k]? =none->
  (∀h' e,Heap.ExtBut it s.heap h'->(∃o,h'.get? e=some o/\o.cls= .type "StopIteration")->E (.ref e) { s with heap:=h' })->wpAny (model prog w) A (Builtin.SmallTypes.nextOf (.ref it)) Q E s
 mv:∀{k:Nat} {h h':Heap},st k h->(∀o,h.get? it=some o->h'.get? it=some o)->st k h'
 mvS:∀{xs:Array Value} {h h':Heap},src xs h->(∀o,h.get? l=some o->h'.get? l=some o)->src xs h'
 ob:∀{k:Nat} {h:Heap},st k h->∃o,h.get? it=some o/\∀v,o.data≠.cell v
theorem A8i (it l:Addr):Nx it l (λk h=>h.IsListIter it l k) (λxs h=>h.IsList l xs) where
 item:=wpAny_nextOf_list_item
 fin:=wpAny_nextOf_list_end
 mv:=λx e=>x.at e
 mvS:=λx e=>x.at e
 ob:=λ⟨o,e,_,d⟩=>(i02 o e λv z=>by rw [d] at z;cases z)
section
variable {prog:Program} {w:World} {A:Around} {E:Value->Shared->Prop} {s:Shared}
theorem B1e {k:Nat} {x:Value} {Q:Value->Shared->Prop} (hi:s.heap.IsTupleIter it l k) (hl:s.heap.IsTuple l xs) (hx:xs[k]? =some x)
  (hQ:∀h',h'.IsTupleIter it l (k+1)->Heap.SameBut it s.heap h'->Q x { s with heap:=h' }):wpAny (model prog w) A (Builtin.SmallTypes.nextOf (.ref it)) Q E s:=by
 obtain ⟨o,ho,hc,hd⟩:=id hi;obtain ⟨ol,hol,_,nl,hdl⟩:=hl;unfold Builtin.SmallTypes.nextOf;refine Z00 (Z1b (name:=Str.ofString "__next__") hi.typeIs F.slot_tuple_iterator_next (Z1g F.slot_tuple_iterator_next hi.typeIs F.entry_tuple_iterator_next ?_ (F.args_tuple_iterator_next_1 _)));show wpAny _ _ (field (.ref it) 0 >>= _) _ _ s;refine Z00 (Z11 ho hd (x:= .ref l) rfl ?_);show wpAny _ _ (if (Value.ref l == Value.none)=true then _ else _) _ _ s;rw [Z0t (show¬((Value.ref l == Value.none)=true) from Z0v)];show wpAny _ _ (field (.ref it) 1 >>= _) _ _ s;refine Z00 (Z11 ho hd (x:= .int k 0) rfl ?_);show wpAny _ _ (seqItems? (.ref l) >>= _) _ _ s;refine Z00 (Z21 hol hdl ?_);simp only [Int.toNat_natCast,hx];refine Z00 (Z1t ho hd (by simp) (Z04 (i02 x rfl (Z04 (hQ _ ?_ (Heap.SameBut.update ..))))));exact i06 _ (Heap.get?_update_self _ ho (Obj.isFreed_of_fields (Obj.data_mapFields hd _))) ((Obj.cls_mapFields ..).trans hc) (by rw [Obj.data_mapFields hd];simp [rawInt])
theorem B1n {k:Nat} {Q:Value->Shared->Prop} (hh:A.handled=none) (hi:s.heap.IsTupleIter it l k) (hl:s.heap.IsTuple l xs) (hx:xs[k]? =none)
  (hE:∀h' e,Heap.ExtBut it s.heap h'->(∃o,h'.get? e=some o/\o.cls= .type "StopIteration")->E (.ref e) { s with heap:=h' }):wpAny (model prog w) A (Builtin.SmallTypes.nextOf (.ref it)) Q E s:=by
 obtain ⟨o,ho,hc,hd⟩:=id hi;obtain ⟨ol,hol,_,nl,hdl⟩:=hl;unfold Builtin.SmallTypes.nextOf;refine Z00 (Z1b (name:=Str.ofString "__next__") hi.typeIs F.slot_tuple_iterator_next (Z1g F.slot_tuple_iterator_next hi.typeIs F.entry_tuple_iterator_next ?_ (F.args_tuple_iterator_next_1 _)));show wpAny _ _ (field (.ref it) 0 >>= _) _ _ s;refine Z00 (Z11 ho hd (x:= .ref l) rfl ?_);show wpAny _ _ (if (Value.ref l == Value.none)=true then _ else _) _ _ s;rw [Z0t (show¬((Value.ref l == Value.none)=true) from Z0v)];show wpAny _ _ (field (.ref it) 1 >>= _) _ _ s;refine Z00 (Z11 ho hd (x:= .int k 0) rfl ?_);show wpAny _ _ (seqItems? (.ref l) >>= _) _ _ s;refine Z00 (Z21 hol hdl ?_);simp only [Int.toNat_natCast,hx];refine Z00 (wpAny_rule (Z00 (Z1t ho hd (by simp) ?_)));show wpAny _ _ (newExc (.type "StopIteration") [] >>= _) _ _ _;refine Z00 ?_;simp only [newExc,newTuple];refine Z00 (Z16 ?_ (by size_fits));refine Z00 (m:=firstArgMember _ _) (wpAny_of_eq (a:=Value.none) (by first | rfl | (simp only [firstArgMember];rfl)) ?_);refine Z16 ?_ (by size_fits);simp only [raiseNew];refine Z00 (wpAny_handled ?_)
 first | rw [show A.in1.handled=none from hh] | rw [hh]
 refine Z00 (Z04 (wpAny_throw ?_));exact hE _ _ (((Heap.SameBut.update ..).extBut.push _).push _) (i02 _ (Z0c _ rfl) rfl)
end
theorem A6a (it l:Addr):Nx it l (λk h=>h.IsTupleIter it l k) (λxs h=>h.IsTuple l xs) where
 item:=B1e
 fin:=B1n
 mv:=λ⟨o,e,r⟩ f=>(i02 o (f _ e) r)
 mvS:=λ⟨o,e,r⟩ f=>(i02 o (f _ e) r)
 ob:=λ⟨o,e,_,d⟩=>(i02 o e λv z=>by rw [d] at z;cases z)
section
variable {z TI TO i1 i2 l1 l2:Addr} {st1 st2:Nat->Heap->Prop} {src1 src2:Array Value->Heap->Prop} {prog:Program} {w:World} {A:Around} {E:Value->Shared->Prop} {s:Shared}
theorem D0j (N1:Nx i1 l1 st1 src1) (N2:Nx i2 l2 st2 src2) {x a b:Value} (D:ZipApart z TI TO i1 i2 l1 l2)
  (hz:IsZip s.heap z TI TO .none) (hTI:IsPair s.heap TI (.ref i1) (.ref i2)) (hTO:IsPair s.heap TO a b) (h1:st1 k1 s.heap) (h2:st2 k2 s.heap) (hl1:src1 xs s.heap) (hl2:src2 ys s.heap) (hx:xs[k1]? =some x) (hy:ys[k2]? =some y)
  (hQ:∀h',IsZip h' z TI TO (rawInt s.heap.objs.size)->IsPair h' TO x y->st1 (k1+1) h'->st2 (k2+1) h'->IsPair h' s.heap.objs.size x y->
   (∀c o,c≠z->c≠TO->c≠i1->c≠i2->s.heap.get? c=some o->h'.get? c=some o)->Q (some (.ref s.heap.objs.size)) { s with heap:=h' }):wpAny (model prog w) A (pyNext (.ref z)) Q E s:=by
 have hT:s.TypeIs (.ref z) "zip":=(i02 _ hz rfl);unfold pyNext;refine Z00 (wpAny_attempt (Z1b (name:=Str.ofString "__next__") hT F.slot_zip_next (Z1g F.slot_zip_next hT F.entry_zip_next ?_ (F.args_zip_next_1 _))));show wpAny _ _ (field (.ref z) 2 >>= _) _ _ _;refine Z00 (Z11 hz rfl (x:= .bool false) rfl ?_);show wpAny _ _ (field (.ref z) 3 >>= _) _ _ _;refine Z00 (Z11 hz rfl (x:= .ref TI) rfl ?_);refine Z00 (Z21 hTI rfl ?_);show wpAny _ _ (Builtin.SmallTypes.ownedTupleIsFree (.ref z) >>= _) _ _ _;refine Z00 ?_;unfold Builtin.SmallTypes.ownedTupleIsFree;refine Z00 (Z11 hz rfl (x:= .none) rfl (Z04 ?_));simp only [if_true];refine Z00 (wpAny_rule ?_);refine Z00 (Z11 hz rfl (x:= .ref TO) rfl ?_);refine Z00 (Z1h hz (by simp) λg1 z1 b1=> ?_)
 replace z1:IsZip g1 z TI TO .ellipsis:=z1
 refine Z00 ?_;simp only [List.zipIdx_cons,List.zipIdx_nil,List.forIn_cons,List.forIn_nil];refine Z00 (Z00 (wpAny_onRaise ?_));show wpAny _ _ (Builtin.SmallTypes.nextOf (.ref i1) >>= _) _ _ _;refine Z00 (N1.item (N1.mv h1 λo e=>b1.extBut _ _ D.i1z e) (N1.mvS hl1 λo e=>b1.extBut _ _ D.l1z e) hx λg2 t2 b2=>Z04 ?_);have p2:IsPair g2 TO a b:=b2.extBut _ _ D.TOi1 (b1.extBut _ _ D.TOz hTO);refine Z00 (Z21 p2 rfl ?_);refine Z00 (wpAny_updateSeq_pair p2 λg3 p3 b3=> ?_)
 replace p3:IsPair g3 TO x b:=p3
 refine Z00 (wpAny_letGo (Z04 ?_));refine Z00 (Z00 (wpAny_onRaise ?_));show wpAny _ _ (Builtin.SmallTypes.nextOf (.ref i2) >>= _) _ _ _;refine Z00 (N2.item (N2.mv h2 λo e=>b3.extBut _ _ D.TOi2.symm (b2.extBut _ _ D.i12.symm (b1.extBut _ _ D.i2z e))) (N2.mvS hl2 λo e=>b3.extBut _ _ D.l2TO (b2.extBut _ _ D.l2i1 (b1.extBut _ _ D.l2z e))) hy λg4 t4 b4=>Z04 ?_);have p4:IsPair g4 TO x b:=b4.extBut _ _ D.TOi2 p3;refine Z00 (Z21 p4 rfl ?_);refine Z00 (wpAny_updateSeq_pair p4 λg5 p5 b5=> ?_)
 replace p5:IsPair g5 TO x y:=p5
 refine Z00 (wpAny_letGo (Z04 (Z04 ?_)));refine Z00 (Z21 p5 rfl ?_);refine Z00 (wpAny_newTuple ?_);have hsz:g5.objs.size=s.heap.objs.size:=by rw [b5.1,b4.1,b3.1,b2.1,b1.1]
 have z5:IsZip g5 z TI TO .ellipsis:=b5.extBut _ _ D.TOz.symm (b4.extBut _ _ D.i2z.symm (b3.extBut _ _ D.TOz.symm (b2.extBut _ _ D.i1z.symm z1)));have k5:∀c o,c≠z->c≠TO->c≠i1->c≠i2->s.heap.get? c=some o->g5.get? c=some o:=λc o c1 c2 c3 c4 e=>b5.extBut _ _ c2 (b4.extBut _ _ c4 (b3.extBut _ _ c2 (b2.extBut _ _ c3 (b1.extBut _ _ c1 e))));have s1:st1 (k1+1) g5:=N1.mv t2 λo e=>b5.extBut _ _ D.TOi1.symm (b4.extBut _ _ D.i12 (b3.extBut _ _ D.TOi1.symm e));have s2:st2 (k2+1) g5:=N2.mv t4 λo e=>b5.extBut _ _ D.TOi2.symm e;have zlt:z<g5.objs.size:=Z0a z5;show wpAny _ _ (Builtin.SmallTypes.ownedTupleHandOut (.ref z) (.ref g5.objs.size) >>= _) _ _ _;refine Z00 ?_;unfold Builtin.SmallTypes.ownedTupleHandOut;have z6:IsZip (g5.push { cls:= .type "tuple",data:= .seq #[x,y] }) z TI TO .ellipsis:=Z01 _ z5;refine Z00 (Z1h z6 (by simp) λg7 z7 b7=> ?_)
 replace z7:IsZip g7 z TI TO (rawInt g5.objs.size):=z7
 refine Z1h z7 (by simp) λg8 z8 b8=> ?_
 replace z8:IsZip g8 z TI TO (rawInt g5.objs.size):=z8
 have up:∀c o,c≠z->g5.get? c=some o->g8.get? c=some o:=λc o c1 e=>b8.extBut _ _ c1 (b7.extBut _ _ c1 (Z01 _ e));have p8:IsPair g8 g5.objs.size x y:=b8.extBut _ _ (Z1q zlt) (b7.extBut _ _ (Z1q zlt) (Z0c _ rfl));rw [hsz] at z8 p8;refine Z04 (i02 _ rfl (Z04 ?_));show Q (some (.ref g5.objs.size)) _;rw [hsz];exact hQ g8 z8 (up _ _ D.TOz p5) (N1.mv s1 λo e=>up _ o D.i1z e) (N2.mv s2 λo e=>up _ o D.i2z e) p8 λc o c1 c2 c3 c4 e=>up c o c1 (k5 c o c1 c2 c3 c4 e)
theorem D4u (N1:Nx i1 l1 st1 src1) (N2:Nx i2 l2 st2 src2) {a b:Value} (hh:A.handled=none) (D:ZipApart z TI TO i1 i2 l1 l2)
  (hz:IsZip s.heap z TI TO .none) (hTI:IsPair s.heap TI (.ref i1) (.ref i2)) (hTO:IsPair s.heap TO a b) (h1:st1 k1 s.heap) (h2:st2 k2 s.heap) (hl1:src1 xs s.heap) (hl2:src2 ys s.heap) (hend:xs[k1]? =none\/ys[k2]? =none)
  (hQ:∀h',(∀c o,c≠z->c≠TO->c≠i1->c≠i2->s.heap.get? c=some o->h'.get? c=some o)->Q none { s with heap:=h' }):wpAny (model prog w) A (pyNext (.ref z)) Q E s:=by
 have hT:s.TypeIs (.ref z) "zip":=(i02 _ hz rfl);unfold pyNext
 have fin:∀(h':Heap) (e:Addr),(∀c o,c≠z->c≠TO->c≠i1->c≠i2->s.heap.get? c=some o->h'.get? c=some o)->(∃o,h'.get? e=some o/\o.cls= .type "StopIteration")->
   wpAny (model prog w) A (isInstance (.ref e) (.type "StopIteration") >>= λb=>if b=true then pure none else throw (.ref e)) Q E { s with heap:=h' }:=λh' e hk ⟨o,ho,hc⟩ =>
  Z00 (wpAny_isInstance (T:="StopIteration") (b:=true) (i02 o ho hc) isSubtype_stop (Z04 (hQ _ hk)))
 refine Z00 (wpAny_attempt (Z1b (name:=Str.ofString "__next__") hT F.slot_zip_next (Z1g F.slot_zip_next hT F.entry_zip_next ?_ (F.args_zip_next_1 _))));show wpAny _ _ (field (.ref z) 2 >>= _) _ _ _;refine Z00 (Z11 hz rfl (x:= .bool false) rfl ?_);show wpAny _ _ (field (.ref z) 3 >>= _) _ _ _;refine Z00 (Z11 hz rfl (x:= .ref TI) rfl ?_);refine Z00 (Z21 hTI rfl ?_);show wpAny _ _ (Builtin.SmallTypes.ownedTupleIsFree (.ref z) >>= _) _ _ _;refine Z00 ?_;unfold Builtin.SmallTypes.ownedTupleIsFree;refine Z00 (Z11 hz rfl (x:= .none) rfl (Z04 ?_));simp only [if_true];refine Z00 (wpAny_rule ?_);refine Z00 (Z11 hz rfl (x:= .ref TO) rfl ?_);refine Z00 (Z1h hz (by simp) λg1 z1 b1=> ?_)
 replace z1:IsZip g1 z TI TO .ellipsis:=z1
 refine Z00 ?_;simp only [List.zipIdx_cons,List.zipIdx_nil,List.forIn_cons,List.forIn_nil];refine Z00 (Z00 (wpAny_onRaise ?_));show wpAny _ _ (Builtin.SmallTypes.nextOf (.ref i1) >>= _) _ _ _;have u1:=N1.mv h1 λo e=>b1.extBut _ _ D.i1z e;have v1:=N1.mvS hl1 λo e=>b1.extBut _ _ D.l1z e
 cases hx:xs[k1]? with
 | none =>
  refine Z00 (N1.fin hh u1 v1 hx λg2 e b2 he=> ?_);obtain ⟨oe,hoe,hce⟩:=he;have z2:IsZip g2 z TI TO .ellipsis:=b2 _ _ D.i1z.symm z1;have ez:e≠z:=λx=>by subst x;rw [z2] at hoe;cases hoe;simp at hce
  exact Z1h z2 (by simp) λg3 _ b3=>fin g3 e (λc o c1 _ c3 _ x=>b3.extBut _ _ c1 (b2 _ _ c3 (b1.extBut _ _ c1 x))) (i02 oe (b3.extBut _ _ ez hoe) hce)
 | some x =>
  have hy:ys[k2]? =none:=by
   rcases hend with h | h
   ·rw [hx] at h;cases h
   ·exact h
  refine Z00 (N1.item u1 v1 hx λg2 t2 b2=>Z04 ?_);have p2:IsPair g2 TO a b:=b2.extBut _ _ D.TOi1 (b1.extBut _ _ D.TOz hTO);refine Z00 (Z21 p2 rfl ?_);refine Z00 (wpAny_updateSeq_pair p2 λg3 p3 b3=> ?_);refine Z00 (wpAny_letGo (Z04 ?_));refine Z00 (Z00 (wpAny_onRaise ?_));show wpAny _ _ (Builtin.SmallTypes.nextOf (.ref i2) >>= _) _ _ _;refine Z00 (N2.fin hh (N2.mv h2 λo e=>b3.extBut _ _ D.TOi2.symm (b2.extBut _ _ D.i12.symm (b1.extBut _ _ D.i2z e))) (N2.mvS hl2 λo e=>b3.extBut _ _ D.l2TO (b2.extBut _ _ D.l2i1 (b1.extBut _ _ D.l2z e))) hy λg4 e b4 he=> ?_);obtain ⟨oe,hoe,hce⟩:=he;have z4:IsZip g4 z TI TO .ellipsis:=b4 _ _ D.i2z.symm (b3.extBut _ _ D.TOz.symm (b2.extBut _ _ D.i1z.symm z1));have ez:e≠z:=λx=>by subst x;rw [z4] at hoe;cases hoe;simp at hce
  exact Z1h z4 (by simp) λg5 _ b5=>fin g5 e (λc o c1 c2 c3 c4 x=>b5.extBut _ _ c1 (b4 _ _ c4 (b3.extBut _ _ c2 (b2.extBut _ _ c3 (b1.extBut _ _ c1 x))))) (i02 oe (b5.extBut _ _ ez hoe) hce)
end
section
variable {X:Cx} {pins:List (Addr×Obj)} {Z:St} {H:Hp} {s:Shared} {h':Heap}
theorem Inv.turnedNew {t':Nat} {ts:List Addr} {o:HO} (I:Inv X pins Z H s) (k:∀b u,b∉ts->s.heap.get? b=some u->h'.get? b=some u) (f:∀b∈ts,C0f X pins H b) (hp:s.heap.objs.size<=a)
  (new:A2u X.prog X.w (upd H a o) h' a o):Inv X pins Z (upd H a o) { s with heap:=h',toks:=t' }:=by
 have nt:∀b u,H b=some u->b∉ts:=λb u e z=>by have:=(f b z).1;rw [e] at this;cases this
 have na:∀b u,s.heap.get? b=some u->b≠a:=λb u e=>Z0h (Z0q (Z0a e) hp);have ha:H a=none:=I.hok.fresh hp
 refine I.step (g':=s.gens) (d':=s.drawn) (ch:=ts) (λb hb=>(i04 ((f b hb).2.2.2.1) ((f b hb).2.1) ((f b hb).2.2.2.2.1) ((f b hb).2.2.2.2.2))) (λb u _ _ hc e _=>k b u hc e) (λb u _ _ hc e _=>⟨u.slots,k b u hc e⟩)
  (λb u _ e n=>by rw [A0k (na b u e)];exact n) (λb u hc e=>⟨u,k b u hc e⟩) (λb xs e=>by rw [A0k (A1e e ha)];exact e) (λb u xs e=>by rw [A0k (A1e e ha)];exact e)
  (λb ps e=>⟨#[],by rw [A0k (A1e e ha),e];simp⟩) (λm hm=> ?_) (λb u e=> ?_) I.bare
 ·obtain ⟨ob,es,ep,ho,r⟩:=hm;exact i0g ob es ep (k _ ob (λz=>(f _ z).2.1 rfl) ho) r
 ·by_cases hb:b=a
  ·subst hb;rw [A0b] at e;cases e;exact new
  ·rw [A0k hb] at e;refine (I.hok b u e).stay (λc v hc q=>k c v ?_ q) (λc q=>by rw [A0k (A1e q ha)];exact q) λc xs q=>by rw [A0k (A1e q ha)];exact q
   rcases hc with rfl | hc
   ·exact nt _ _ e
   ·exact nt _ _ hc
end
def SrK (k:Bool) (h:Heap) (l:Addr) (xs:Array Value):Prop:=match k with | true=>h.IsList l xs | false=>h.IsTuple l xs
def StK (k:Bool) (it l:Addr) (i:Nat) (h:Heap):Prop:=match k with | true=>h.IsListIter it l i | false=>h.IsTupleIter it l i
abbrev itK (k:Bool):String:=match k with | true=>"list_iterator" | false=>"tuple_iterator"
theorem nxK:∀(k:Bool) (it l:Addr),Nx it l (λi h=>StK k it l i h) (λxs h=>SrK k h l xs)
 | true=>A8i
 | false=>A6a
theorem D5l {prog:Program} {w:World} {A:Around} {E:Value->Shared->Prop} {s:Shared} {l:Addr} {xs:Array Value} {Q:Value->Shared->Prop}:∀{k:Bool},SrK k s.heap l xs->Q (.ref s.heap.objs.size) { s with heap:=s.heap.push { cls:= .type (itK k),data:= .fields #[.ref l,.int 0 0] } }->wpAny (model prog w) A (pyIter (.ref l)) Q E s
 | true,h,q=>wpAny_pyIter_list h q
 | false,h,q=>wpAny_pyIter_tuple h q
theorem E1e {h:Heap} {it l:Addr}:∀{k:Bool},h.get? it=some { cls:= .type (itK k),data:= .fields #[.ref l,.int 0 0] }->StK k it l 0 h
 | true,e=>(i06 _ e rfl rfl)
 | false,e=>(i06 _ e rfl rfl)
def D8j (k1 k2:Bool) (z TI TO i1 i2 a b:Addr) (i:Nat) (h:Heap):Prop:=IsZip h z TI TO .none/\IsPair h TI (.ref i1) (.ref i2)/\(∃u v,IsPair h TO u v)/\StK k1 i1 a i h/\StK k2 i2 b i h
abbrev D8w (k1:Bool) (h:Heap) (l1:Addr):Heap:=h.push { cls:= .type (itK k1),data:= .fields #[.ref l1,.int 0 0] }
abbrev D8v (k1 k2:Bool) (h:Heap) (l1 l2:Addr):Heap:=(D8w k1 h l1).push { cls:= .type (itK k2),data:= .fields #[.ref l2,.int 0 0] }
noncomputable abbrev D8z (k1 k2:Bool) (h:Heap) (l1 l2:Addr):Heap:=(D8v k1 k2 h l1 l2).push { cls:= .type "tuple",data:= .seq #[.ref h.objs.size,.ref (D8w k1 h l1).objs.size] }
noncomputable abbrev D9c (k1 k2:Bool) (h:Heap) (l1 l2:Addr):Heap:=(D8z k1 k2 h l1 l2).push { cls:= .type "tuple",data:= .seq #[.none,.none] }
noncomputable abbrev D5i (k1 k2:Bool) (h:Heap) (l1 l2:Addr):Heap:=(D9c k1 k2 h l1 l2).push { cls:= .type "zip",data:= .fields #[.none,.bool false,.bool false,.ref (D8v k1 k2 h l1 l2).objs.size,.ref (D8z k1 k2 h l1 l2).objs.size] }
theorem C3q (k1 k2:Bool) (l1 l2:Addr) (xs ys:Array Value):Meets (Builtin.«zip.__new__» ⟨[.type "zip",.ref l1,.ref l2],[]⟩) (λ_ R s=>SrK k1 s.heap l1 xs/\SrK k2 s.heap l2 ys/\
  R (.ok (.ret (.ref (D9c k1 k2 s.heap l1 l2).objs.size))) { s with heap:=D5i k1 k2 s.heap l1 l2 }) :=
 .of_wp λprog w A R s h=>by
  obtain ⟨hp,g,d,tk,os⟩:=s;obtain ⟨hl1,hl2,h⟩:=h;have hsub:=sub_zip;have hL1:SrK k1 (Shared.heap ⟨hp,g,d,tk,os⟩) l1 xs:=hl1;have hL2:SrK k2 (Shared.heap ⟨hp.push { cls:= .type (itK k1),data:= .fields #[.ref l1,.int 0 0] },g,d,tk,os⟩) l2 ys:=(nxK k2 0 l2).mvS hl2 λo e=>Z01 _ e
  wp_walk using D5l hL1,D5l hL2
  exact i02 _ rfl h
theorem C6u {k1 k2:Bool} {prog:Program} {w:World} {A:Around} {E:Value->Shared->Prop} {s:Shared} {l1 l2:Addr} {xs ys:Array Value} {Q:Value->Shared->Prop} (hl1:SrK k1 s.heap l1 xs) (hl2:SrK k2 s.heap l2 ys)
  (h:∀h',D8j k1 k2 (s.heap.objs.size+4) (s.heap.objs.size+2) (s.heap.objs.size+3) s.heap.objs.size (s.heap.objs.size+1) l1 l2 0 h'->(∀c o,s.heap.get? c=some o->h'.get? c=some o)->Q (.ref (s.heap.objs.size+4)) { s with heap:=h' }) :
  wpAny (model prog w) A (call (.type "zip") [.ref l1,.ref l2]) Q E s:=by
 refine callType_new F.called_zip (by decide) (F.typeCall_zip_2 _ _) (F.newCall_zip_2 _ _) (λobj=>F.args_object_init_3 obj _ _) F.entry_zip_new (C3q k1 k2 l1 l2 xs ys) (i00 hl1 hl2 ?_);have z1:(D8w k1 s.heap l1).objs.size=s.heap.objs.size+1:=Z1s ..;have z2:(D8v k1 k2 s.heap l1 l2).objs.size=s.heap.objs.size+2:=by rw [Z1s,z1]
 have z3:(D8z k1 k2 s.heap l1 l2).objs.size=s.heap.objs.size+3:=by rw [Z1s,z2]
 have z4:(D9c k1 k2 s.heap l1 l2).objs.size=s.heap.objs.size+4:=by rw [Z1s,z3]
 have q5:(D5i k1 k2 s.heap l1 l2).get? (D9c k1 k2 s.heap l1 l2).objs.size=some _:=Z0c _ rfl;have q4:(D5i k1 k2 s.heap l1 l2).get? (D8z k1 k2 s.heap l1 l2).objs.size=some _:=Z01 _ (Z0c _ rfl);have q3:(D5i k1 k2 s.heap l1 l2).get? (D8v k1 k2 s.heap l1 l2).objs.size=some _:=Z01 _ (Z01 _ (Z0c _ rfl));have q2:(D5i k1 k2 s.heap l1 l2).get? (D8w k1 s.heap l1).objs.size=some _:=Z01 _ (Z01 _ (Z01 _ (Z0c _ rfl)));have q1:(D5i k1 k2 s.heap l1 l2).get? s.heap.objs.size=some _:=Z01 _ (Z01 _ (Z01 _ (Z01 _ (Z0c _ rfl))));show _/\_;rw [z2,z3,z4] at q5;rw [z1,z2] at q3;rw [z3] at q4;rw [z1] at q2;rw [z4];exact ⟨(i02 _ q5 rfl),h _ (i09 q5 q3 (i03 _ _ q4) (E1e q1) (E1e q2)) λc o x=>Z01 _ (Z01 _ (Z01 _ (Z01 _ (Z01 _ x))))⟩
abbrev C0j:= @C6u true false
def Itv (K:Frag) (a:Addr) (n:Nat):It :=
 ⟨λi H=>∃xs x,SqL K H a xs/\xs.length=n/\i<n/\xs[n-1-i]? =some x,λi H x H'=>H'=H/\∀xs,SqL K H a xs->xs[n-1-i]? =some x,λi _=>i=n⟩
theorem C9m {tg:Expr} (a it:Addr) (n:Nat):D1m P w K tg (Itv K a n) [it] it (λi h=>h.IsRevIter it a ((n:Int)-1-(i:Int))) where
 mem:=by simp
 obj:=λi h st b hb=>by
  have e:b=it:=by simpa using hb
  subst e;obtain ⟨o,e,c,d⟩:=st;exact i02 o e λv z=>by rw [d] at z;cases z
 keep:=λi h h' st k=>st.at λo e=>k it (by simp) o e
 item:=by
  intro X hP hw hK hc i pins s Z H E I hf st hg;subst hP hw hK;obtain ⟨xs,x,hq,hn,hi,hx⟩:=hg;obtain ⟨its,rv,p,hz⟩:=I.list hq;obtain ⟨u,hu,ru⟩:=rv.get hx;obtain ⟨f0,f1,f2,f3,f4,f5⟩:=hf it (by simp);have e1:(n:Int)-1-(i:Int)=((n-1-i:Nat):Int):=by lia
  rw [e1] at st;refine wpAny_pyNext_rev_item st p.isList (x:=u) (by simpa using hu) λh' st' sb=> ?_;have I1:Inv X pins Z H { s with heap:=h' }:=I.turned (t':=s.toks) (λb o hb e=>(sb.2 b hb).trans e) f0 f1 f3 f4 f5
  have e2:((n-1-i:Nat):Int)-1=(n:Int)-1-((i+1:Nat):Int):=by lia
  rw [e2] at st';obtain ⟨o,e,c,d⟩:=id st';exact i02 u rfl (C3p (s:={ s with heap:=h' }) e c d (by decide) (i0o x H I1 ru ⟨rfl,λys hy=>by rw [I.list_inj hy hq];exact hx⟩ st' λb hb=>(hf b hb).1))
 done:=by
  intro X hP hw hK hc i pins s Z H E I hf st hg;subst hP hw hK;have hi:i=n:=hg;subst hi;obtain ⟨f0,f1,f2,f3,f4,f5⟩:=hf it (by simp);have e1:(i:Int)-1-(i:Int)= -1:=by lia
  rw [e1] at st;exact wpAny_pyNext_rev_end (I.ok.hd hc) st λh' eb=>⟨rfl,I.turned (t':=s.toks) (λb o hb e=>eb b o hb e) f0 f1 f3 f4 f5⟩
 self:=λ_ _ _ _ _ st h=>wpAny_pyIter_revIter st h
def iRev (K:Frag) (ta:TA):TI:=λZ H R=>ta Z H λvs H1=>∃a xs,vs=[.ref a]/\SqL K H1 a xs/\R (Itv K a xs.length) H1
theorem C8e {tg:Expr} {a:Expr} {ta:TA} {p:Pos} (hg:Gl X "reversed") (hm:X.mg "reversed"=none) (ha:PA X [a] ta) (hs:starEach [a] X.env=[(false,eval a X.env)]:=by rfl) :
  PI X tg (.Call (.Name "reversed" p) [a] [] pos) (iRev X.K ta):=by
 intro pins s Z H R I h;refine Call_ (B1k I hg hm boot_reversed (PyProof.Rows.callWith_type1 (thn (ha pos pins s Z H _ I h) λus s1 ⟨vs,H1,I1,r1,q1⟩=> ?_) hs rfl));obtain ⟨l,xs,e,hq,q⟩:=q1;subst e;obtain ⟨u,rfl,ru⟩:=B4i r1;cases ru;obtain ⟨its,rv,p1,_⟩:=I1.list hq;have en:(its.toArray.size:Int)-1=(xs.length:Int)-1-((0:Nat):Int):=by rw [Z0g,<-rv.length];lia
 refine call_reversed_list p1.isList ?_;rw [en];have st:(s1.heap.push (revObj l ((xs.length:Int)-1-((0:Nat):Int)))).IsRevIter s1.heap.objs.size l ((xs.length:Int)-1-((0:Nat):Int)):=(i06 _ (Z0c _ rfl) rfl rfl);refine wpAny_pyIter_revIter (s:={ s1 with heap:=s1.heap.push (revObj l ((xs.length:Int)-1-((0:Nat):Int))) }) st ?_;refine i14 _ [s1.heap.objs.size] _ _ H1 rfl (I1.kept (t':=s1.toks) λb o e=>Z01 _ e) (C9m l _ xs.length) st (λb hb=> ?_) q
 have e:b=s1.heap.objs.size:=by simpa using hb
 subst e;exact I1.fpOk (Z09 _) (I1.hok.fresh (Z09 _))
theorem C0b {xs:List V} {tb:TS} {D:C6p} (Pv:Nat->St->Hp->Prop) (h0:Pv 0 Z H) (hl:∀i Z H,Pv i Z H->SqL K H a xs)
  (hs:∀i x Z H,i<xs.length->xs[xs.length-1-i]? =some x->Pv i Z H->g x Z H λZ2 H2=>tb { D with nx:=Pv (i+1),ct:=Pv (i+1),bk:=D.nx } Z2 H2) (hd:∀Z H,Pv xs.length Z H->D.nx Z H) :
  ∃W:Nat->Nat->St->Hp->Prop,(∃m,W 0 m Z H)/\∀i m Z H,W i m Z H->
   ((Itv K a xs.length).stop i H/\D.nx Z H)\/((Itv K a xs.length).go i H/\∃N:St->Hp->Prop,(∀Z' H',N Z' H'->∃m',m'<m/\W (i+1) m' Z' H')/\∀x H',(Itv K a xs.length).yld i H x H'->g x Z H' λZ2 H2=>tb { D with nx:=N,ct:=N,bk:=D.nx } Z2 H2):=by
 refine i02 (λi m Z H=>m=xs.length-i/\i<=xs.length/\Pv i Z H) (i06 xs.length (by simp) (Z1e _) h0) ?_;rintro i m Z H ⟨rfl,hi,p⟩;have q:=hl i Z H p;by_cases hlt:i<xs.length
 ·refine .inr (i05 (i0l xs (xs[xs.length-1-i]) q rfl hlt (Z0b _)) (Pv (i+1)) (λZ' H' p'=>(i0c (xs.length-(i+1)) (by lia) rfl hlt p')) λx H' y=> ?_);obtain ⟨e,y⟩:=y;subst e;exact hs i x Z _ hlt (y xs q) p
 ·have e:i=xs.length:=by lia
  subst e;exact .inl ⟨rfl,hd Z H p⟩
structure C8p (X:Cx) (scope:Scope) (cl:List (Str×Addr)):Prop where
 eq:closureFor scope X.env=pure cl
 sub:∀x c,cl.lookup x=some c->X.env.cells.lookup x=some c
 has:∀x,((relabel scope X.env).names.lookup x=some .cell\/(relabel scope X.env).names.lookup x=some .free)->∃c,cl.lookup x=some c
 kind:scope.kind= .function
 ncell:∀y∈scope.names,y.2≠.cell
 names:∀y∈scope.names,y.2= .local->scope.names.lookup y.1=some .local
noncomputable def blk (X:Cx) (N':List Str) (scope:Scope) (cl:List (Str×Addr)) (C:Addr) (s₀:Shared) (H₀:Hp) (fp:List Addr):Cx :=
 { X with N:=N',s₀:=s₀,H₀:=H₀,env:=compEnvC scope cl C X.env,outer:=X.stack,ex:=fp,fn:=λ_=>false,pn:=[],xe:=λ_ _=>False }
def A6o (ix:List (Option Nat)) (Z:St):St:=ix.map λo=>o.bind λj=>(Z[j]?).bind id
section
variable {X:Cx} {pins:List (Addr×Obj)} {Z:St} {H:Hp} {s:Shared} {N':List Str} {scope:Scope} {cl:List (Str×Addr)} {fp:List Addr} {ix:List (Option Nat)}
def C8r (X:Cx) (N':List Str) (scope:Scope) (ix:List (Option Nat)):Prop :=
 ix.length=N'.length/\∀i j:Nat,ix[i]? =some (some j)->∃x,N'[i]? =some x/\X.N[j]? =some x/\(X.env.scope.names.lookup x=some .cell\/X.env.scope.names.lookup x=some .free)/\
  ((relabel scope X.env).names.lookup x=some .cell\/(relabel scope X.env).names.lookup x=some .free)
theorem D6w (I:Inv X pins Z H s) (ck:C8p X scope cl) (f:∀b∈fp,C0f X pins H b) (hlt:∀b∈fp,b<s.heap.objs.size):(blk X N' scope cl s.heap.objs.size s H fp).Ok where
 mod:=I.ok.mod
 kind:=ck.kind
 glob:=I.ok.glob
 blt:=I.ok.blt
 above:=Z09 _
 inj:=λx y c h1 h2=>I.ok.inj x y c (ck.sub x c h1) (ck.sub y c h2)
 has:=λx h=>ck.has x h
 cab:=λx c h=>by cases h
 hd:=I.ok.hd
 frames:=I.ok.frames
 stk:= .inl rfl
 exf:=λb hb=>⟨Z0h (hlt b hb),λx c h=>(f b hb).2.2.2.2.1 x c (ck.sub x c h)⟩
 bs:=I.bs
 bsz:=Z1n I.ok.bsz I.sz
 noex:=λb o e hb=>by
  rcases (f b hb).2.2.2.1 with z | z
  ·exact I.ok.noex b o e z
  ·exact absurd (Z0q (Z0a (I.ok.bs b o e).1) z) (Nat.lt_irrefl _)
 exfs:=λb hb hs=>by
  rcases Z0e.mp (I.stkSub b hs) with z | z
  ·exact (f b hb).2.1 z
  ·exact (f b hb).2.2.1 z
 funs:=I.stack
 frf:=I.stkFree
theorem B8c (I:Inv X pins Z H s) (ck:C8p X scope cl) (io:C8r X N' scope ix) (f:∀b∈fp,C0f X pins H b) (hlt:∀b∈fp,b<s.heap.objs.size) {m:Str->Option Value} {t':Nat}
  (hn:h'.Ns s.heap.objs.size m) (k:∀b o,s.heap.get? b=some o->h'.get? b=some o):Inv (blk X N' scope cl s.heap.objs.size s H fp) [] (A6o ix Z) H { s with heap:=h',toks:=t' }:=by
 have cl':∀x c,cl.lookup x=some c->∃v,s.heap.IsCell c v:=λx c h=>I.cell x c (ck.sub x c h);refine ⟨D6w I ck f hlt,rfl,I.bare,Un.kept k,(i02 m hn λi x v e1 e2 e3=> ?_),λx c e=> ?_,I.hok.fresh (Z09 _),λx c e=>I.freeC x c (ck.sub x c e),(λp hp=>by cases hp),I.hok.kept k,?_⟩
 ·unfold A6o at e2;rw [Z1z] at e2
  cases hi:ix[i]? with
  | none=>rw [hi] at e2;cases e2
  | some o =>
   rw [hi] at e2
   cases o with
   | none=>cases Z1a e2
   | some j =>
    have e2':(Z[j]?).bind id=some v:=Z1a e2;obtain ⟨x',n1,n2,k1,k2⟩:=io.2 i j hi;have ex:x'=x:=Z1a (n1.symm.trans e1);subst ex
    have es:Z[j]? =some (some v):=by
     cases q:Z[j]? with
     | none=>rw [q] at e2';cases e2'
     | some w =>
      rw [q] at e2';exact congrArg some e2'
    obtain ⟨m0,_,hl⟩:=I.loc;obtain ⟨u,ru,lo⟩:=hl j x' v n2 es (k1.elim (λz=> .inr (.inl z)) λz=> .inr (.inr z));refine i02 u ru (.inr ⟨k2,?_⟩);obtain ⟨c,hc⟩:=ck.has x' k2;refine i02 c hc ?_;rcases lo with ⟨z,_⟩ | ⟨_,c',hc',ic⟩
    ·exfalso;have z':X.env.scope.names.lookup x'=some .local:=z;rcases k1 with k1 | k1 <;> (rw [z'] at k1;cases k1)
    ·have ec:c'=c:=Z1a (hc'.symm.trans (ck.sub x' c hc));subst ec;obtain ⟨o,ho,hd⟩:=ic;exact i02 o (k _ _ ho) hd
 ·obtain ⟨v,o,ho,hd⟩:=cl' x c e;exact i07 v o (k _ _ ho) hd
 ·unfold A6o;rw [Z08];exact io.1
theorem C5l (I:Inv X pins Z H s) (f:∀b∈fp,C0f X pins H b) {Z':St} {s':Shared} {pl:List (Addr×Obj)} (J:Inv (blk X N' scope cl s.heap.objs.size s H fp) pl Z' H' s') (sb:Heap.SameBut s.heap.objs.size s'.heap h') :
  Inv X pins Z H' { s' with heap:=h' }:=by
 have nC:∀b o,s.heap.get? b=some o->b≠s.heap.objs.size:=λb o e=>Z0h (Z0a e);have hC:H' s.heap.objs.size=none:=J.free;have u:Un (frs X.stack) fp H H' s.heap s'.heap:=J.base
 refine I.call' (ch:=fp) (s':={ s' with heap:=h' }) J.os ⟨λb o e n hb hx=>(sb.2 b (nC b o e)).trans (u.keep b o e n hb hx),λb o e n hb hx=> ?_,u.free,λb o e hx=> ?_,u.tups,u.frzs,u.tbls⟩ (λb o e=> ?_) J.bare
  (λb hb=>(i04 ((f b hb).2.2.2.1) ((f b hb).2.1) ((f b hb).2.2.2.2.1) ((f b hb).2.2.2.2.2)))
 ·obtain ⟨sl,q⟩:=u.slot b o e n hb hx;exact ⟨sl,(sb.2 b (nC b o e)).trans q⟩
 ·obtain ⟨o',q⟩:=u.there b o e hx;exact ⟨o',(sb.2 b (nC b o e)).trans q⟩
 ·refine (J.hok b o e).stay (λc v hc q=>(sb.2 c ?_).trans q) (λc q=>q) λc xs q=>q;rcases hc with rfl | hc
  ·exact A1e e hC
  ·exact A1e hc hC
end
def A3e:St->St->Prop
 | [],_=>True
 | none::r,_::r'=>A3e r r'
 | none::r,[]=>A3e r []
 | some v::r,w::r'=>w=some v/\A3e r r'
 | some _::_,[]=>False
theorem A3e.get:∀{a b:St},A3e a b->∀(j:Nat) v,a[j]? =some (some v)->b[j]? =some (some v)
 | [],_,_,_,_,e=>by simp at e
 | none::r,_::r',h,0,v,e=>by simp at e
 | none::r,_::r',h,j+1,v,e=>by simpa using A3e.get (a:=r) (b:=r') h j v (by simpa using e)
 | none::r,[],h,0,v,e=>by simp at e
 | none::r,[],h,j+1,v,e=>by have:=A3e.get (a:=r) (b:=[]) h j v (by simpa using e);simp at this
 | some w::r,_::r',h,0,v,e=>by
  have e':w=v:=by simpa using e
  subst e'
  simpa using h.1
 | some _::r,_::r',h,j+1,v,e=>by simpa using A3e.get (a:=r) (b:=r') h.2 j v (by simpa using e)
section
variable {X:Cx}
def D5o (ix:List (Option Nat)) (wi:TI) (g:TG) (te:TE):TE:=λZ H Q=>wi Z H λJ H1=>∀D,H1 D=none->∃W:Nat->Nat->Hp->Prop,(∃m,W 0 m (upd H1 D (.lst [])))/\∀i m H2,W i m H2->
 (J.stop i H2/\Q (.ref D) H2)\/(J.go i H2/\∃N:VK,(∀y H5,N y H5->∃xs,H5 D=some (.lst xs)/\xs.length<sizeLine/\∃m',m'<m/\W (i+1) m' (upd H5 D (.lst (xs++[y]))))/\∀x H3,J.yld i H2 x H3->g x (A6o ix Z) H3 λZ4 H4=>A3e (A6o ix Z) Z4/\te Z4 H4 N)
end
section
variable {X:Cx} {m:Str} {pos apos:Pos} {e o:Expr} {es:List Expr} {ta:TE} {t:TA}
def D8k (X:Cx) (m:Str) (ta:TE) (t:TA):TE:=λZ H Q=>ta Z H λx H1=>∃(a C dx:Addr) (fs:List (Str×V)) (k:Nat) (f:Addr) (fd:FuncData) (ps:List Str) (sp:Sp),x= .ref a/\H1 a=some (.ins C dx fs)/\Cls X.K C/\C1s X.K C m f/\fs.lookup m=none/\
 A3h X.prog X.w X.K X.mg X.base CX0 k f fd ps sp/\A9p k X.A/\A8o X.K fd ps []/\t Z H1 λvs H2=>sp (x::vs) H2 Q E0
theorem B6b {pl:Sem Bool} (he:PE X o ta) (ha:PA X (e::es) t)
  (hst:starEach (e::es) X.env=(false,eval e X.env)::starEach es X.env:=by rfl) (hpl:(backTo pos (starEach es X.env)).any (·.1)=false:=by rfl)
  (ht:eval (.Call (.Attribute o m apos) (e::es) [] pos) X.env=(do
   let ov<-eval o X.env
   standAt apos.atName
   let (f,first)<-holding [ov] (getMethod ov m pl)
   callWith pos f first (backTo pos (starEach (e::es) X.env)) (backToKw pos (keywordEach [] X.env))):=by rfl) :
  PE X (.Call (.Attribute o m apos) (e::es) [] pos) (D8k X m ta t):=by
 intro pins s Z H Q I h;refine PySem.W.methodCall_KW (pl:=pl) (thn (he pins s Z H _ I h) ?_) ht;rintro u s1 zz;refine e0c zz ?_;clear zz;rintro x H1 I1 rx a C dx ⟨fs,k,f,fd,ps,sp,ex,ea,c,hm,l,F,hr,hb,q⟩;subst ex;obtain rfl:u=Value.ref a:=rx;refine B0v I1 ea c hm l ?_;refine PySem.W.callWith_K (first:=[.ref a]) (h₀:=X.base) I.ok.mod.kin hm.kp (thn (ha pos pins s1 Z H1 _ I1 q) λus s2 ⟨vs,H2,I2,r,q2⟩=>⟨I2.kIn,?_⟩) hst hpl;exact C1x (us:= .ref a::us) (vs:= .ref a::vs) (dvs:=[]) F hr hb .nil B6h I2 (.cons rfl r) (by rw [Z0u];exact q2)
end
mutual
inductive Rep (H:Hp):V->PyData->Prop
 | non:Rep H .non .none
 | bl (b:Bool):Rep H (.bl b) (.bool b)
 | int (i:Int):Rep H (.int i) (.int i)
 | str (x:Str):Rep H (.str x) (.str x)
 | lst {p:Addr} {xs:List V} {ds:List PyData}:H p=some (.lst xs)->A4w H xs ds->Rep H (.ref p) (.list ds)
 | tup {p:Addr} {xs:List V} {ds:List PyData}:H p=some (.tup xs)->A4w H xs ds->Rep H (.ref p) (.tuple ds)
inductive A4w (H:Hp):List V->List PyData->Prop
 | nil:A4w H [] []
 | cons {v:V} {vs:List V} {d:PyData} {ds:List PyData}:Rep H v d->A4w H vs ds->A4w H (v::vs) (d::ds)
end
mutual
theorem Rep.imp {H H':Hp} (f:∀p o,H p=some o->H' p=some o):∀{v:V} {d:PyData},Rep H v d->Rep H' v d
 | _,_,.non=> .non
 | _,_,.bl b=> .bl b
 | _,_,.int i=> .int i
 | _,_,.str x=> .str x
 | _,_,.lst e r=> .lst (f _ _ e) (A4w.imp f r)
 | _,_,.tup e r=> .tup (f _ _ e) (A4w.imp f r)
theorem A4w.imp {H H':Hp} (f:∀p o,H p=some o->H' p=some o):∀{vs:List V} {ds:List PyData},A4w H vs ds->A4w H' vs ds
 | _,_,.nil=> .nil
 | _,_,.cons a r=> .cons (Rep.imp f a) (A4w.imp f r)
end
theorem Rep.same {d:PyData} (h:Rep H v d) (s:A1c H H'):Rep H' v d:=h.imp s
theorem A4w.same {v:List V} {d:List PyData} (h:A4w H v d) (s:A1c H H'):A4w H' v d:=h.imp s
theorem A4w.len {H:Hp}:∀{vs:List V} {ds:List PyData},A4w H vs ds->vs.length=ds.length
 | _,_,.nil=>rfl
 | _,_,.cons _ r=>by rw [Z0y,Z0y,A4w.len r]
theorem A4w.snoc {H:Hp} {v:V} {d:PyData} (a:Rep H v d):∀{vs:List V} {ds:List PyData},A4w H vs ds->A4w H (vs++[v]) (ds++[d])
 | _,_,.nil=> .cons a .nil
 | _,_,.cons b r=> .cons b (A4w.snoc a r)
theorem A4w.strs {H:Hp}:∀xs:List Str,A4w H (xs.map V.str) (xs.map PyData.str)
 | []=> .nil
 | x::r=> .cons (.str x) (A4w.strs r)
section
variable {X:Cx} {pins:List (Addr×Obj)} {Z:St} {H:Hp} {s:Shared}
mutual
theorem B2f (I:Inv X pins Z H s):∀{v:V} {d:PyData} {u:Value},Rep H v d->A3i v u->∃as,Reads s.heap u d as
 | _,_,u,.non,r=>by cases (show u=Value.none from r);exact ⟨_,.none⟩
 | _,_,u,.bl b,r=>by cases (show u=Value.bool b from r);exact ⟨_,.bool b⟩
 | _,_,u,.int i,r=>by obtain ⟨t,q⟩:=(show∃t,u=Value.int i t from r);cases q;exact ⟨_,.int i t⟩
 | _,_,u,.str x,r=>by obtain ⟨t,q⟩:=(show∃t,u=Value.str x t from r);cases q;exact ⟨_,.str x t⟩
 | _,_,u,@Rep.lst _ p xs ds e q,r=>by
  cases (show u=Value.ref p from r)
  obtain ⟨_,its,n,rv,ho⟩:=(show A2u X.prog X.w H s.heap p (.lst xs) from I.hok p _ e);obtain ⟨as,z⟩:=B1b I q rv;exact ⟨_,Reads.list ho rfl rfl (by simpa using z)⟩
 | _,_,u,@Rep.tup _ p xs ds e q,r=>by
  cases (show u=Value.ref p from r)
  obtain ⟨_,its,rv,o,ho,hc,n,hd⟩:=(show A2u X.prog X.w H s.heap p (.tup xs) from I.hok p _ e);obtain ⟨as,z⟩:=B1b I q rv;exact ⟨_,Reads.tuple ho hc hd (by simpa using z)⟩
theorem B1b (I:Inv X pins Z H s):∀{vs:List V} {ds:List PyData} {us:List Value},A4w H vs ds->A3y vs us->∃as,ReadsAll s.heap us ds as
 | _,_,_,.nil,.nil=>⟨_,.nil⟩
 | _,_,_,.cons a r,.cons q rv=>by
  obtain ⟨as,z⟩:=B2f I a q;obtain ⟨bs,y⟩:=B1b I r rv;exact ⟨_,.cons z y⟩
end
end
section
variable {X:Cx}
def rSlS:V->Option Int->Option Int->Hp->VK->Prop:=λx lo hi H Q=>∃z,x= .str z/\z.length<=sizeLine/\Q (.str (Txt.slice z lo hi)) H
theorem D0z:SlR X rSlS:=by
 intro pins s Z H x v vl vu lo hi sl Q I rx hs pl pu h;obtain ⟨z,rfl,hz,q⟩:=h;obtain ⟨t,rfl⟩:=(show∃t,v=Value.str z t from rx);refine i0f "str" _ F.slot_str_getitem.lookup (typeIs_str _ _ _) ?_;obtain ⟨ob,ho,hc,hd⟩:=hs;have fin:∀t' k,EP X pins Z Q (.str (Txt.slice z lo hi) t') { s with toks:=k }:=λt' k=>(i0f (.str (Txt.slice z lo hi)) H (I.tok k) ⟨t',rfl⟩ q)
 cases pl with
 | none =>
  cases pu with
  | none=>exact wpAny_getItem_str_slice (l:=none) (u:=none) (st:=none) (i06 ob ho hc hd) rfl (post_val_or_str ⟨Z1n (Txt.slice_le z _ _) hz,fin⟩)
  | int j uj=>exact wpAny_getItem_str_slice (l:=none) (u:=some (j,uj)) (st:=none) (i06 ob ho hc hd) rfl (post_val_or_str ⟨Z1n (Txt.slice_le z _ _) hz,fin⟩)
 | int i ui =>
  cases pu with
  | none=>exact wpAny_getItem_str_slice (l:=some (i,ui)) (u:=none) (st:=none) (i06 ob ho hc hd) rfl (post_val_or_str ⟨Z1n (Txt.slice_le z _ _) hz,fin⟩)
  | int j uj=>exact wpAny_getItem_str_slice (l:=some (i,ui)) (u:=some (j,uj)) (st:=none) (i06 ob ho hc hd) rfl (post_val_or_str ⟨Z1n (Txt.slice_le z _ _) hz,fin⟩)
def E0e:V->List V->Hp->VK->Prop:=λx vs H Q=>∃z y,x= .str z/\vs=[.str y]/\Q (.int (Txt.find z y)) H
theorem D3a:MtR X "str.find" E0e:=by
 intro pins s Z H x xs v us Q I rx rv h;obtain ⟨z,y,rfl,rfl,q⟩:=h;obtain ⟨t,rfl⟩:=(show∃t,v=Value.str z t from rx);obtain ⟨u,rfl,ru⟩:=B4i rv;obtain ⟨t',rfl⟩:=(show∃t,u=Value.str y t from ru);exact SC.find (i0f (.int (Txt.find z y)) H (I.tok _) ⟨_,rfl⟩ q)
end
theorem A2s (hk:scope.kind= .function) (hn:∀y∈scope.names,y.2≠.free/\y.2≠.cell) (hl:∀y∈scope.names,y.2= .local->scope.names.lookup y.1=some .local):C8p X scope [] where
 eq:=closureFor_none λy hy=>(hn y hy).1
 sub:=λx c h=>by cases h
 has:=λx h=>by
  exfalso
  have e:(relabel scope X.env).names=scope.names:=map_eq_self λy hy=>by
   obtain ⟨n,k⟩:=y;have z:=(hn _ hy).1;have z':(k == NameKind.free)=false:=by simpa using z
   simp [z']
  rw [e] at h
  have mem:∀{k:NameKind},scope.names.lookup x=some k->(x,k)∈scope.names:=λ{k} q=>by
   generalize scope.names=l at q
   induction l with
   | nil=>cases q
   | cons a r ih =>
    obtain ⟨n,k'⟩:=a;rw [Z28] at q;split at q
    ·rename_i hb;have hb':x=n:=by simpa using hb
     cases q
     subst hb';exact .head _
    ·exact .tail _ (ih q)
  rcases h with h | h
  ·exact (hn _ (mem h)).2 rfl
  ·exact (hn _ (mem h)).1 rfl
 kind:=hk
 ncell:=λy hy=>(hn y hy).2
 names:=hl
theorem A2r (h:n=N'.length):C8r X N' scope (List.replicate n none):=⟨by rw [List.length_replicate];exact h,λi j e=>by
 rw [List.getElem?_replicate] at e
 split at e <;> cases e⟩
section
variable {K:Frag} {a D:Addr} {xs:List V} {g:TG} {te:TE} {Q:VK} {Z₀:St} {H:Hp}
theorem C8l (Pv:Nat->List V->Hp->Prop) (h0:Pv 0 [] (upd H D (.lst []))) (hl:∀i ys H,Pv i ys H->SqL K H a xs)
  (hs:∀i x ys H,xs[i]? =some x->Pv i ys H->g x Z₀ H λZ4 H4=>A3e Z₀ Z4/\te Z4 H4 λy H5=>H5 D=some (.lst ys)/\ys.length<sizeLine/\Pv (i+1) (ys++[y]) (upd H5 D (.lst (ys++[y])))) (hd:∀ys H,Pv xs.length ys H->Q (.ref D) H) :
  ∃W:Nat->Nat->Hp->Prop,(∃m,W 0 m (upd H D (.lst [])))/\∀i m H2,W i m H2->
   ((Itl K a).stop i H2/\Q (.ref D) H2)\/((Itl K a).go i H2/\∃N:VK,(∀y H5,N y H5->∃xs,H5 D=some (.lst xs)/\xs.length<sizeLine/\∃m',m'<m/\W (i+1) m' (upd H5 D (.lst (xs++[y]))))/\
    ∀x H3,(Itl K a).yld i H2 x H3->g x Z₀ H3 λZ4 H4=>A3e Z₀ Z4/\te Z4 H4 N):=by
 refine i02 (λi m H=>m=xs.length-i/\i<=xs.length/\∃ys,Pv i ys H) (i0d xs.length (by simp) (Z1e _) [] h0) ?_;rintro i m H2 ⟨rfl,hi,ys,p⟩;have q:=hl i ys H2 p;by_cases hlt:i<xs.length
 ·refine .inr (i05 (i07 xs (xs[i]) q (by simp [hlt])) (λy H5=>H5 D=some (.lst ys)/\ys.length<sizeLine/\Pv (i+1) (ys++[y]) (upd H5 D (.lst (ys++[y])))) (λy H5 n=>(i0v ys n.1 n.2.1 (xs.length-(i+1)) (by lia) rfl hlt _ n.2.2)) λx H3 z=> ?_);obtain ⟨e,z⟩:=z;subst e;exact hs i x ys _ (z xs q) p
 ·have e:i=xs.length:=by lia
  subst e;exact .inl ⟨(i02 xs q (Z09 _)),hd ys H2 p⟩
theorem C9d (Pv:Nat->List V->Hp->Prop) (h0:Pv 0 [] (upd H D (.lst []))) (hl:∀i ys H,Pv i ys H->SqT K H a xs)
  (hs:∀i x ys H,xs[i]? =some x->Pv i ys H->g x Z₀ H λZ4 H4=>A3e Z₀ Z4/\te Z4 H4 λy H5=>H5 D=some (.lst ys)/\ys.length<sizeLine/\Pv (i+1) (ys++[y]) (upd H5 D (.lst (ys++[y])))) (hd:∀ys H,Pv xs.length ys H->Q (.ref D) H) :
  ∃W:Nat->Nat->Hp->Prop,(∃m,W 0 m (upd H D (.lst [])))/\∀i m H2,W i m H2->
   ((Itt K a).stop i H2/\Q (.ref D) H2)\/((Itt K a).go i H2/\∃N:VK,(∀y H5,N y H5->∃xs,H5 D=some (.lst xs)/\xs.length<sizeLine/\∃m',m'<m/\W (i+1) m' (upd H5 D (.lst (xs++[y]))))/\
    ∀x H3,(Itt K a).yld i H2 x H3->g x Z₀ H3 λZ4 H4=>A3e Z₀ Z4/\te Z4 H4 N):=by
 refine i02 (λi m H=>m=xs.length-i/\i<=xs.length/\∃ys,Pv i ys H) (i0d xs.length (by simp) (Z1e _) [] h0) ?_;rintro i m H2 ⟨rfl,hi,ys,p⟩;have q:=hl i ys H2 p;by_cases hlt:i<xs.length
 ·refine .inr (i05 (i07 xs (xs[i]) q (by simp [hlt])) (λy H5=>H5 D=some (.lst ys)/\ys.length<sizeLine/\Pv (i+1) (ys++[y]) (upd H5 D (.lst (ys++[y])))) (λy H5 n=>(i0v ys n.1 n.2.1 (xs.length-(i+1)) (by lia) rfl hlt _ n.2.2)) λx H3 z=> ?_);obtain ⟨e,z⟩:=z;subst e;exact hs i x ys _ (z xs q) p
 ·have e:i=xs.length:=by lia
  subst e;exact .inl ⟨(i02 xs q (Z09 _)),hd ys H2 p⟩
end
abbrev TJ:=St->Hp->Str->(Str->Hp->Prop)->Prop
def PJ (X:Cx) (es:List Expr) (t:TJ):Prop :=
 ∀(pins:List (Addr×Obj)) (s:Shared) (Z:St) (H:Hp) (out:Str) (Q:Str->Hp->Prop),Inv X pins Z H s->t Z H out Q->wpAny (model X.prog X.w) X.A (joinParts out (evalEach es X.env)) (EP X pins Z λv H'=>∃z,v= .str z/\Q z H') X.xe s
def FmtV (x:V) (y:Str):Prop:=(x= .str y/\y.length<=sizeLine)\/∃i:Int,x= .int i/\i.natAbs.log2<1920/\y=(toString i:Str)
def D9h:TJ:=λ_ H out Q=>out.length<=sizeLine/\Q out H
def D7l (te:TE) (tr:TJ):TJ:=λZ H out Q=>te Z H λx H1=>∃y,FmtV x y/\(out++y).length<=sizeLine/\tr Z H1 (out++y) Q
def E0h (x:Str) (tr:TJ):TJ:=λZ H out Q=>(out++x).length<=sizeLine/\tr Z H (out++x) Q
section
variable {X:Cx} {e:Expr} {es:List Expr} {te:TE} {tr:TJ} {pos p2:Pos}
theorem D5y:PJ X [] D9h:=λpins s Z H out Q I h=>joinParts_nil (i0p (.str out) H (I.tok _) ⟨_,rfl⟩ out rfl h.2) h.1
theorem D6y (he:PE X e te) (hr:PJ X es tr) (hs:evalEach (.FormattedValue e (-1) none pos::es) X.env=eval (.FormattedValue e (-1) none pos) X.env::evalEach es X.env:=by rfl):PJ X (.FormattedValue e (-1) none pos::es) (D7l te tr):=by
 intro pins s Z H out Q I h;rw [hs];refine joinParts_cons (FormattedValue_plain (thn (he pins s Z H _ I h) ?_));rintro v s1 ⟨x,H1,I1,rx,y,f,hz,q⟩;rcases f with ⟨rfl,hy⟩ | ⟨i,rfl,hi,rfl⟩
 ·obtain ⟨t,rfl⟩:=(show∃t,v=Value.str y t from rx);exact formatField_str (λt' tk=>⟨hz,hr pins _ Z H1 _ Q (I1.tok tk) q⟩) hy
 ·obtain ⟨t,rfl⟩:=(show∃t,v=Value.int i t from rx);exact formatField_int_small hi ⟨hz,hr pins _ Z H1 _ Q (I1.tok _) q⟩
theorem D7r {j:Nat} (hr:PJ X es tr) (hs:evalEach (.Constant (.str x) j pos::es) X.env=eval (.Constant (.str x) j pos) X.env::evalEach es X.env:=by rfl):PJ X (.Constant (.str x) j pos::es) (E0h x tr):=by
 intro pins s Z H out Q I h;rw [hs];refine joinParts_cons (thn (A1m pins s Z H (λv H'=>v= .str x/\H'=H) I ⟨rfl,rfl⟩) ?_);rintro v s1 ⟨y,H1,I1,rx,ey,eH⟩;subst ey eH;obtain ⟨t,rfl⟩:=(show∃t,v=Value.str x t from rx);exact ⟨h.1,hr pins s1 Z H1 _ Q I1 h.2⟩
def D9p (tj:TJ):TE:=λZ H Q=>tj Z H Str.empty λz H'=>Q (.str z) H'
theorem D2t {a b:Expr} {tj:TJ} (h:PJ X (a::b::es) tj) (hs:evalEach (a::b::es) X.env=eval a X.env::eval b X.env::evalEach es X.env:=by rfl):PE X (.JoinedStr (a::b::es) pos) (D9p tj):=by
 intro pins s Z H Q I hq;refine JoinedStr_many ?_;rw [<-hs];exact thn (h pins s Z H _ _ I hq) (by rintro u s1 ⟨v,H1,I1,rv,z,ez,q⟩;subst ez;exact i0f (.str z) H1 I1 rv q)
end
theorem A6r {x:Str} {k:NameKind}:∀{l:List (Str×NameKind)},l.lookup x=some k->(x,k)∈l
 | [],q=>by cases q
 | (n,k')::r,q=>by
  rw [Z28] at q;split at q
  ·rename_i hb;have hb':x=n:=by simpa using hb
   cases q
   subst hb';exact .head _
  ·exact .tail _ (A6r q)
theorem A8m {c:Addr} (he:closureFor scope X.env=pure [(x,c)]) (hc:X.env.cells.lookup x=some c) (hk:scope.kind= .function) (hn:∀y∈scope.names,y.2≠.cell/\(y.2= .free->y.1=x))
  (hl:∀y∈scope.names,y.2= .local->scope.names.lookup y.1=some .local):C8p X scope [(x,c)] where
 eq:=he
 sub:=λy d h=>by
  rw [Z28] at h;split at h
  ·rename_i hb;have hb':y=x:=by simpa using hb
   cases h
   subst hb';exact hc
  ·cases h
 has:=λy h=>by
  have key:y=x:=by
   have m:∃k,(y,k)∈(relabel scope X.env).names/\(k= .cell\/k= .free):=h.elim (λz=>(i02 _ (A6r z) (.inl rfl))) λz=>(i02 _ (A6r z) (.inr rfl));obtain ⟨k,hm,hk⟩:=m;obtain ⟨⟨n,k0⟩,h0,e⟩:=Z2c.mp hm;dsimp only at e;by_cases hf:k0= .free
   ·have en:n=y:=by
     split at e
     ·exact congrArg Prod.fst e
     ·exact congrArg Prod.fst e
    rw [<-en];exact (hn _ h0).2 hf
   ·have hb:(k0 == NameKind.free)=false:=by simpa using hf
    simp only [hb,Bool.false_and,Bool.false_eq_true,if_false] at e;have e2:k0=k:=congrArg Prod.snd e;subst e2;rcases hk with hk | hk
    ·exact absurd hk (hn _ h0).1
    ·exact absurd hk hf
  subst key;exact ⟨c,by simp [Z28]⟩
 kind:=hk
 ncell:=λy hy=>(hn y hy).1
 names:=hl
theorem A6w {N0:List Str} {j:Nat} (hN:X.N[j]? =some x) (h1:X.env.scope.names.lookup x=some .cell\/X.env.scope.names.lookup x=some .free)
  (h2:(relabel scope X.env).names.lookup x=some .cell\/(relabel scope X.env).names.lookup x=some .free):C8r X (N0++[x]) scope (List.replicate N0.length none++[some j]):=by
 refine ⟨by simp,λi k e=> ?_⟩;by_cases hi:i<N0.length
 ·rw [Z26 (by simpa using hi),List.getElem?_replicate] at e;split at e <;> cases e
 ·have hi':i=N0.length:=by
   have:=(Z03.mp e).1;simp at this
   lia
  subst hi';rw [Z1l (by simp)] at e;have ek:j=k:=by simpa using e
  subst ek;exact i0c x (by simp) hN h1 h2
def D8m (lo c:Int) (n:Nat):It:=⟨λi _=>i<n,λi H x H'=>H'=H/\x= .int (lo+i*c),λi _=>i=n⟩
theorem B9f {tg:Expr} (it:Addr) (lo c:Int) (n:Nat):D1m P w K tg (D8m lo c n) [it] it (λi h=>IsRangeIter h it (lo+(i:Nat)*c) ((n:Int)-(i:Nat)) c) where
 mem:=by simp
 obj:=λi h st b hb=>by
  have e:b=it:=by simpa using hb
  subst e;exact i02 _ st λv z=>by cases (show Data.fields _=Data.cell v from z)
 keep:=λi h h' st k=>k it (by simp) _ st
 item:=by
  intro X hP hw hK hc i pins s Z H E I hf st hg;subst hP hw hK;obtain ⟨f0,f1,f2,f3,f4,f5⟩:=hf it (by simp);have W:=Walks.range (prog:=X.prog) (w:=X.w) (I.ok.hd hc) it lo c n;refine W.item i s _ _ hg st λv h' tk hv st' kk=> ?_;obtain ⟨t,rfl⟩:=hv;have I1:Inv X pins Z H { s with heap:=h',toks:=tk }:=I.turned (λb o hb e=>kk b o (by simpa using hb) e) f0 f1 f3 f4 f5
  exact i02 _ rfl (C3p (s:={ s with heap:=h',toks:=tk }) (n:="range_iterator") st' rfl rfl (by decide) (i0o (.int (lo+i*c)) H I1 ⟨t,rfl⟩ ⟨rfl,rfl⟩ st' λb hb=>(hf b hb).1))
 done:=by
  intro X hP hw hK hc i pins s Z H E I hf st hg;subst hP hw hK;obtain ⟨f0,f1,f2,f3,f4,f5⟩:=hf it (by simp);have W:=Walks.range (prog:=X.prog) (w:=X.w) (I.ok.hd hc) it lo c n;have e:i=n:=hg;subst e;exact W.done s _ _ st λh' tk kk=>⟨rfl,I.turned (λb o hb e=>kk b o (by simpa using hb) e) f0 f1 f3 f4 f5⟩
 self:=λA i s Q E st h=>wpAny_pyIter_rangeiter st h
def E0l (ta:TA):TI:=λZ H R=>ta Z H λvs H1=>∃a b c:Int,vs=[.int a,.int b,.int c]/\(0<=a/\a<=1000000/\-1000000<=b/\b<=1000000/\0<c/\c<=1000000)/\R (D8m a c (Builtin.Range.rangeSize a b c).toNat) H1
theorem D5b {a b c:Int} (h:0<=a/\a<=1000000/\-1000000<=b/\b<=1000000/\0<c/\c<=1000000):0<=Builtin.Range.rangeSize a b c/\Builtin.Range.rangeSize a b c<=1000000:=by
 unfold Builtin.Range.rangeSize;rw [Z12 h.2.2.2.2.1];split
 ·have h1:0<=(b-a-1)/c:=Int.ediv_nonneg (by lia) (by lia);have h2:(b-a-1)/c<=b-a-1:=Int.ediv_le_self _ (by lia)
  lia
 ·lia
theorem D7c {a b c:Int} (h:0<=a/\a<=1000000/\-1000000<=b/\b<=1000000/\0<c/\c<=1000000):Builtin.Range.small a b c=true:=by
 obtain ⟨s1,s2⟩:=D5b h;unfold Builtin.Range.small;simp only [Builtin.Range.rangeFitsLong,Z1x,Bool.or_eq_true,decide_eq_true_eq,beq_iff_eq,Z12 h.2.2.2.2.1]
 lia
theorem B7i {tg:Expr} {a b c:Expr} {ta:TA} {p:Pos} (hg:Gl X "range") (hm:X.mg "range"=none) (ha:PA X [a,b,c] ta) (hs:starEach [a,b,c] X.env=[(false,eval a X.env),(false,eval b X.env),(false,eval c X.env)]:=by rfl)
  (hs2:starEach [b,c] X.env=[(false,eval b X.env),(false,eval c X.env)]:=by rfl):PI X tg (.Call (.Name "range" p) [a,b,c] [] pos) (E0l ta):=by
 intro pins s Z H R I h;refine Call_ (B1k I hg hm boot_range (PyProof.Rows.callWith_type1 (thn (ha pos pins s Z H _ I h) ?_) (by rw [hs,hs2]) (by rw [hs2];rfl)));rintro us s1 ⟨vs,H1,I1,r1,q1⟩;obtain ⟨i,j,k,e,hb,q⟩:=q1;subst e
 cases r1 with
 | cons r rr =>
  cases rr with
  | cons r' rr =>
   cases rr with
   | cons r'' rr =>
    cases rr
    obtain ⟨t,rfl⟩:=r;obtain ⟨t',rfl⟩:=r';obtain ⟨t'',rfl⟩:=r'';refine call_range_3 (by lia) ?_ (.inl (PyProof.noPylong_small (by lia)));have I2:Inv X pins Z H1 { s1 with heap:=s1.heap.push { cls:= .type "range",data:= .fields #[.int i t,.int j t',.int k t''] },toks:=s1.toks }:=I1.kept λb o e=>Z01 _ e
    refine wpAny_pyIter_range (t:=t) (u:=t') (v:=t'') (s:={ s1 with heap:=s1.heap.push { cls:= .type "range",data:= .fields #[.int i t,.int j t',.int k t''] },toks:=s1.toks }) (Z0c _ rfl) (D7c hb) ?_;have e1:i+((0:Nat):Int)*k=i:=by simp
    have e2:(((Builtin.Range.rangeSize i j k).toNat:Nat):Int)-((0:Nat):Int)=Builtin.Range.rangeSize i j k:=by have:=(D5b hb).1;lia
    refine i14 _ [(s1.heap.push { cls:= .type "range",data:= .fields #[.int i t,.int j t',.int k t''] }).objs.size] _ _ H1 rfl (I2.kept (t':=s1.toks) λb o e=>Z01 _ e) (B9f _ i k _) ?_ (λb hb=> ?_) q
    ·show IsRangeIter _ _ (i+((0:Nat):Int)*k) _ k;rw [e1,e2];exact Z0c _ rfl
    ·have e:b=(s1.heap.push { cls:= .type "range",data:= .fields #[.int i t,.int j t',.int k t''] }).objs.size:=by simpa using hb
     subst e;exact I2.fpOk (Z09 _) (I2.hok.fresh (Z09 _))
theorem C3f {lo c:Int} {tb:TS} {D:C6p} (Pv:Nat->St->Hp->Prop) (h0:Pv 0 Z H)
  (hs:∀i Z H,i<n->Pv i Z H->g (.int (lo+i*c)) Z H λZ2 H2=>tb { D with nx:=Pv (i+1),ct:=Pv (i+1),bk:=D.nx } Z2 H2) (hd:∀Z H,Pv n Z H->D.nx Z H) :
  ∃W:Nat->Nat->St->Hp->Prop,(∃m,W 0 m Z H)/\∀i m Z H,W i m Z H->
   ((D8m lo c n).stop i H/\D.nx Z H)\/((D8m lo c n).go i H/\∃N:St->Hp->Prop,(∀Z' H',N Z' H'->∃m',m'<m/\W (i+1) m' Z' H')/\∀x H',(D8m lo c n).yld i H x H'->g x Z H' λZ2 H2=>tb { D with nx:=N,ct:=N,bk:=D.nx } Z2 H2):=by
 refine i02 (λi m Z H=>m=n-i/\i<=n/\Pv i Z H) (i06 n (by simp) (Z1e _) h0) ?_;rintro i m Z H ⟨rfl,hi,p⟩;by_cases hlt:i<n
 ·refine .inr (i05 hlt (Pv (i+1)) (λZ' H' p'=>(i0c (n-(i+1)) (by lia) rfl hlt p')) λx H' y=> ?_);obtain ⟨e,rfl⟩:=y;subst e;exact hs i Z _ hlt p
 ·have e:i=n:=by lia
  subst e;exact .inl ⟨rfl,hd Z H p⟩
theorem A0r {o:HO} (s:A1c H H') (hl:H l=none):A1c H (upd H' l o):=λb u e=>by
 rw [A0k (A1e e hl)];exact s b u e
theorem A0f {o:HO} (hl:H l=none):A1c H (upd H l o):=A0r (A1c.refl H) hl
theorem A2e {x dx:Addr} {o v:HO} (hx:H x=none) (hd:H dx=none):A1c H (upd (upd (upd H dx o) x u) x v):=A0r (A0r (A0f hd) hx) hx
theorem A2a (h:n<=1000000):n<=sizeLine:=by rw [sizeLine_eq];lia
theorem A1s (h:n<=1000000):n<sizeLine:=by rw [sizeLine_eq];lia
noncomputable def A1d (S:Addr->Prop) (H:Hp):Hp:=λa=> @ite _ (S a) (Classical.propDecidable _) (H a) none
theorem C2j (h:S a):A1d S H a=H a:=by unfold A1d;rw [Z12 h]
theorem C8i (h:¬S a):A1d S H a=none:=by unfold A1d;rw [Z0t h]
theorem A0p {o:HO} (h:A1d S H a=some o):S a/\H a=some o:=by
 by_cases hs:S a
 ·rw [C2j hs] at h;exact ⟨hs,h⟩
 ·rw [C8i hs] at h;cases h
theorem A0j {o:HO} (hs:S a) (h:H a=some o):A1d S H a=some o:=by rw [C2j hs];exact h
theorem A1b:A1c (A1d S H) H:=λ_ _ e=>(A0p e).2
theorem A0i (s:A1c H H'):A1c (A1d S H) (A1d S H'):=λb o e=>A0j (A0p e).1 (s _ _ (A0p e).2)
theorem A2q {S':Addr->Prop} (s:A1c H H') (h:∀a o,H a=some o->S a->S' a):A1c (A1d S H) (A1d S' H'):=λb o e=>A0j (h _ _ (A0p e).2 (A0p e).1) (s _ _ (A0p e).2)
theorem A2p {o:HO} (s:A1c (A1d S H) (A1d S H')) (h:¬S l):A1c (A1d S H) (A1d S (upd H' l o)):=λb u e=>by
 have q:=A0p (s _ _ e);have hne:b≠l:=λz=>h (by rw [<-z];exact q.1);exact A0j q.1 (by rw [A0k hne];exact q.2)
def Fr (S:Addr->Prop) (H:Hp):Prop:=∀a,H a=none->S a
theorem Fr.same (f:Fr S H) (s:A1c H H'):Fr S H':=λa h=>f a (s.free h)
mutual
theorem Rep.imp2 {H H':Hp} (f:∀p xs,H p=some (.lst xs)->H' p=some (.lst xs)) (g:∀p xs,H p=some (.tup xs)->H' p=some (.tup xs)):∀{v:V} {d:PyData},Rep H v d->Rep H' v d
 | _,_,.non=> .non
 | _,_,.bl b=> .bl b
 | _,_,.int i=> .int i
 | _,_,.str x=> .str x
 | _,_,.lst e r=> .lst (f _ _ e) (A4w.imp2 f g r)
 | _,_,.tup e r=> .tup (g _ _ e) (A4w.imp2 f g r)
theorem A4w.imp2 {H H':Hp} (f:∀p xs,H p=some (.lst xs)->H' p=some (.lst xs)) (g:∀p xs,H p=some (.tup xs)->H' p=some (.tup xs)):∀{vs:List V} {ds:List PyData},A4w H vs ds->A4w H' vs ds
 | _,_,.nil=> .nil
 | _,_,.cons a r=> .cons (Rep.imp2 f g a) (A4w.imp2 f g r)
end
theorem Rep.ins {d:PyData} {dx:Addr} {fs:List (Str×V)} {o:HO} (h:Rep H v d) (e:H p=some (.ins C dx fs)):Rep (upd H p o) v d :=
 h.imp2 (λq xs z=>by rw [A0k (A3p z e (by intro w;cases w))];exact z) (λq xs z=>by rw [A0k (A3p z e (by intro w;cases w))];exact z)
section
variable {G:Hp} {v:V} {vs:List V} {d:PyData} {ds:List PyData}
theorem B5v (h:Rep G v (.tuple ds)):∃p xs,v= .ref p/\G p=some (.tup xs)/\A4w G xs ds:=by
 cases h with
 | tup e r=>exact i0f _ _ rfl e r
theorem A5g (h:Rep G v (.list ds)):∃p xs,v= .ref p/\G p=some (.lst xs)/\A4w G xs ds:=by
 cases h with
 | lst e r=>exact i0f _ _ rfl e r
theorem B0y (h:Rep G v (.str x)):v= .str x:=by cases h;rfl
theorem C0n {x:Int} (h:Rep G v (.int x)):v= .int x:=by cases h;rfl
theorem A4o (h:A4w G vs (d::ds)):∃u r,vs=u::r/\Rep G u d/\A4w G r ds:=by
 cases h with
 | cons a r=>exact i0f _ _ rfl a r
theorem B1v (h:A4w G vs []):vs=[]:=by cases h;rfl
end
mutual
def cnt:PyData->Nat
 | .none=>1
 | .bool _=>1
 | .int _=>1
 | .str _=>1
 | .list xs=>A4p xs+1
 | .tuple xs=>A4p xs+1
 | .dict _=>1
def A4p:List PyData->Nat
 | []=>0
 | x::xs=>cnt x+A4p xs
end
theorem D3b (d:PyData):1<=cnt d:=by cases d <;> simp [cnt]
theorem C0w:∀ds:List PyData,ds.length<=A4p ds
 | []=>by simp [A4p]
 | d::r=>by
  have:=C0w r;have:=D3b d;simp only [A4p,Z0y]
  lia
theorem C5z:∀{ds:List PyData} {i:Nat} {d:PyData},ds[i]? =some d->cnt d<=A4p ds/\PyData.depth d<=PyData.depthAll ds
 | [],_,_,e=>by simp at e
 | d::r,0,_,e=>by
  simp at e;subst e;simp only [A4p,PyData.depthAll]
  lia
 | x::r,i+1,d,e=>by
  have:=C5z (ds:=r) (i:=i) (d:=d) (by simpa using e);simp only [A4p,PyData.depthAll]
  lia
theorem A4w.get2 {H:Hp}:∀{vs:List V} {ds:List PyData} {i:Nat} {v:V},A4w H vs ds->vs[i]? =some v->∃d,ds[i]? =some d/\Rep H v d
 | _,_,_,_,.nil,e=>by simp at e
 | _,_,0,_,.cons a _,e=>by simp at e;subst e;exact i02 _ rfl a
 | _,_,i+1,v,.cons _ r,e=>by
  obtain ⟨d,h1,h2⟩:=A4w.get2 (i:=i) (v:=v) r (by simpa using e);exact i02 d (by simpa using h1) h2
theorem lk0 {k:Str}:List.lookup k ((k,v)::r)=some v:=by simp [Z28]
theorem lk1 {k j:Str} {o:Option V} (h:(k == j)=false) (e:List.lookup k r=o):List.lookup k ((j,v)::r)=o:=by
 rw [Z28,h];exact e
theorem A1l {f:Str}:A4r f v []=[(f,v)]:=rfl
theorem A1i {f g:Str} {x:V} (h:¬g=f):A4r f v ((g,x)::r)=(g,x)::A4r f v r:=by rw [A4r,Z0t h]
theorem A4v {c A:Prop} [Decidable c] (h1:c->A) (h2:¬c->B):if decide c=true then A else B :=
 D1b (λh=>h1 (of_decide_eq_true h)) (λh=>h2 λhc=>h (Z20 hc))
theorem C9f {c A:Prop} [Decidable c] (h1:¬c->A) (h2:c->B):if (! decide c)=true then A else B :=
 D1b (λh=>h1 λhc=>by rw [Z20 hc] at h;cases h) (λh=>h2 (by
  by_cases hc:c
  ·exact hc
  ·rw [Z1j hc] at h;exact absurd rfl h))
section
variable {X:Cx}
theorem B1h {tg l:Expr} {tl:TE} (hl:PE X l tl):PI X tg l (λZ H R=>D7m X.K tl Z H R\/E0z X.K tl Z H R):=λpins s Z H R I h=>h.elim (A2g hl pins s Z H R I) (D8c hl pins s Z H R I)
end
theorem B8w {α:Type} {xs:List α} {i:Int} (h0:0<=i) (h1:i<xs.length):∃v,xs[i.toNat]? =some v/\atI xs i=some v:=by
 obtain ⟨n,rfl⟩:=Int.eq_ofNat_of_zero_le h0;have hn:n<xs.length:=by lia
 exact i02 (xs[n]) (by simp [hn]) (A3g (by simp [hn]))
theorem A5o {α:Type} {f:α->V} {xs:List α} {i:Int} (h0:0<=i) (h1:i<xs.length):∃x,xs[i.toNat]? =some x/\atI (xs.map f) i=some (f x):=by
 obtain ⟨n,rfl⟩:=Int.eq_ofNat_of_zero_le h0;have hn:n<xs.length:=by lia
 exact i02 (xs[n]) (by simp [hn]) (A3g (by simp [hn]))
theorem C2c {α:Type} {xs:List α} (h:0<xs.length):∃v,xs[xs.length-1]? =some v/\atI xs (-1)=some v:=by
 have hl:xs.length-1<xs.length:=by lia
 refine i02 (xs[xs.length-1]) (by simp [hl]) ?_
 have e:ixN xs.length (-1)=some (xs.length-1):=by
  unfold ixN;rw [Z0t (by decide),Z12 (by lia)];congr 1
  lia
 unfold atI;rw [e];simp [hl]
section
variable {K:Frag} {a D:Addr} {xs:List V} {g:TG} {te:TE} {QD:Hp->Prop} {Z₀:St} {H:Hp}
theorem A3k (Pv:Nat->List V->Hp->Prop) (h0:Pv 0 [] (upd H D (.lst []))) (hl:∀i ys H,Pv i ys H->SqL K H a xs)
  (hs:∀i x ys H,xs[i]? =some x->Pv i ys H->g x Z₀ H λZ4 H4=>A3e Z₀ Z4/\te Z4 H4 λy H5=>H5 D=some (.lst ys)/\ys.length<sizeLine/\Pv (i+1) (ys++[y]) (upd H5 D (.lst (ys++[y])))) (hd:∀ys H,Pv xs.length ys H->QD H) :
  ∃W:Nat->Nat->Hp->Prop,(∃m,W 0 m (upd H D (.lst [])))/\∀i m H2,W i m H2->
   ((Itl K a).stop i H2/\QD H2)\/((Itl K a).go i H2/\∃N:VK,(∀y H5,N y H5->∃xs,H5 D=some (.lst xs)/\xs.length<sizeLine/\∃m',m'<m/\W (i+1) m' (upd H5 D (.lst (xs++[y]))))/\
    ∀x H3,(Itl K a).yld i H2 x H3->g x Z₀ H3 λZ4 H4=>A3e Z₀ Z4/\te Z4 H4 N):=C8l (Q:=λ_ H=>QD H) Pv h0 hl hs hd
theorem C5s (Pv:Nat->List V->Hp->Prop) (h0:Pv 0 [] (upd H D (.lst []))) (hl:∀i ys H,Pv i ys H->SqT K H a xs)
  (hs:∀i x ys H,xs[i]? =some x->Pv i ys H->g x Z₀ H λZ4 H4=>A3e Z₀ Z4/\te Z4 H4 λy H5=>H5 D=some (.lst ys)/\ys.length<sizeLine/\Pv (i+1) (ys++[y]) (upd H5 D (.lst (ys++[y])))) (hd:∀ys H,Pv xs.length ys H->QD H) :
  ∃W:Nat->Nat->Hp->Prop,(∃m,W 0 m (upd H D (.lst [])))/\∀i m H2,W i m H2->
   ((Itt K a).stop i H2/\QD H2)\/((Itt K a).go i H2/\∃N:VK,(∀y H5,N y H5->∃xs,H5 D=some (.lst xs)/\xs.length<sizeLine/\∃m',m'<m/\W (i+1) m' (upd H5 D (.lst (xs++[y]))))/\
    ∀x H3,(Itt K a).yld i H2 x H3->g x Z₀ H3 λZ4 H4=>A3e Z₀ Z4/\te Z4 H4 N):=C9d (Q:=λ_ H=>QD H) Pv h0 hl hs hd
end
theorem A4l {D:Addr} (h1:isClsIn K D=true) (h2:typeIn K (.ref D)=some (.type "type")) (h3:mroIn K C (.ref D)=some true):kitOne K (.ref C) (.ref D)=some true:=by
 unfold kitOne;split
 ·rfl
 ·show (if ((clsIn K D).isSome&&typeIn K (.ref D) == some (.type "type"))=true then subIn K (.ref C) (.ref D) else none)=some true;have h1':(clsIn K D).isSome=true:=h1;rw [Z12 (by rw [h1',h2];rfl)];exact h3
theorem A0h {D:Addr} (h0:(Value.ref C == Value.ref D)=false) (h1:isClsIn K D=true) (h2:typeIn K (.ref D)=some (.type "type")) (h3:mroIn K C (.ref D)=some false):kitOne K (.ref C) (.ref D)=some false:=by
 unfold kitOne;rw [Z0t (by rw [h0];exact Z0v)];show (if ((clsIn K D).isSome&&typeIn K (.ref D) == some (.type "type"))=true then subIn K (.ref C) (.ref D) else none)=some false;have h1':(clsIn K D).isSome=true:=h1;rw [Z12 (by rw [h1',h2];rfl)];exact h3
section
variable {X:Cx}
theorem Inv.frozen (I:Inv X pins Z H s) (ha:H a=some (.dK kvs)) (ho:s.heap.get? a=some o):Inv X pins Z (upd H a (.frz o (.dK kvs))) s :=
 I.write (t':=s.toks) (h':=s.heap) (e:=a) (by rw [ha];trivial) (.inl rfl) (λ_ _ _ e=>e) ⟨o,ho⟩ ⟨ho,(show A2u X.prog X.w H s.heap a (.dK kvs) from I.hok a _ ha)⟩
theorem Inv.thaw (I:Inv X pins Z H s) (ha:H a=some (.frz o u)) (hu:∃kvs,u= .dK kvs) (h0:∀o' u',X.H₀ a≠some (.frz o' u')):Inv X pins Z (upd H a u) s:=by
 have nf:∀b,H b=none->upd H a u b=none:=λb e=>by rw [A0k (λz=>by subst z;rw [ha] at e;cases e)];exact e
 obtain ⟨kvs,rfl⟩:=hu
 refine ⟨I.ok,I.os,I.bare,⟨I.base.keep,I.base.slot,λb ob e n hx=>nf b (I.base.free b ob e n hx),I.base.there,λb xs e=> ?_,λb ob u' e=> ?_,λb ps e=> ?_⟩,I.loc,I.cell,nf _ I.free,λx c e=>nf _ (I.freeC x c e),
  λp hp=>(i00 ((I.pin p hp).1) (nf _ (I.pin p hp).2.1) ((I.pin p hp).2.2)),λb v e=> ?_,I.len⟩
 ·have q:=I.base.tups b xs e;rw [A0k (A3p q ha (by intro z;cases z))];exact q
 ·have q:=I.base.frzs b ob u' e;rw [A0k (λz=>by subst z;exact h0 _ _ e)];exact q
 ·obtain ⟨more,q⟩:=I.base.tbls b ps e;exact ⟨more,by rw [A0k (A3p q ha (by intro z;cases z))];exact q⟩
 ·by_cases hb:b=a
  ·subst hb;rw [A0b] at e;cases e;obtain ⟨_,q⟩:=(show A2u X.prog X.w H s.heap b (.frz o (.dK kvs)) from I.hok b _ ha);exact q
  ·rw [A0k hb] at e;exact (I.hok b v e).stay (λ_ _ _ q=>q) (λc q=>by rw [A0k (A3p q ha (by intro z;cases z))];exact q) λc xs q=>by rw [A0k (A3p q ha (by intro z;cases z))];exact q
def D9x (X:Cx) (t:TS):TS:=λD Z H=>∃a o kvs,H a=some (.frz o (.dK kvs))/\(∀o' u',X.H₀ a≠some (.frz o' u'))/\t D Z (upd H a (.dK kvs))
theorem C2n {sts:List Stmt} {t:TS} (h:PSs X sts t):PSs X sts (D9x X t):=by
 intro pins s Z H D I hw;obtain ⟨a,o,kvs,ha,h0,q⟩:=hw;exact h pins s Z _ D (I.thaw ha ⟨kvs,rfl⟩ h0) q
def Itd (a:Addr) (o:Obj) (kvs:List (Key×V)):It :=
 ⟨λi H=>H a=some (.frz o (.dK kvs))/\i<kvs.length,λi H x H'=>H'=H/\∃k v,kvs[i]? =some (k,v)/\x=kV k,λi H=>H a=some (.frz o (.dK kvs))/\i=kvs.length⟩
theorem D3d {k:Key} {u:Value} (h:(A2f P w).is k u=true):A3i (kV k) u:=by
 rcases A2z (show B9m k u=true from h) with ⟨i,t,rfl,rfl⟩ | ⟨x,t,rfl,rfl⟩
 ·exact ⟨t,rfl⟩
 ·exact ⟨t,rfl⟩
theorem KV.at:KV kvs vs->∀{i:Nat} {k:Key} {v:V},kvs[i]? =some (k,v)->∃u,vs[i]? =some (k,u)/\A3i v u:=by
 intro r;unfold KV at r
 induction r with
 | nil=>intro i k v e;simp at e
 | @cons p q ps qs h t ih =>
  intro i k v e
  cases i with
  | zero =>
   simp at e;subst e;obtain ⟨h1,h2⟩:=h;obtain ⟨q1,q2⟩:=q;cases h1;exact i02 q2 rfl h2
  | succ j =>
   obtain ⟨u,e1,e2⟩:=ih (i:=j) (by simpa using e);exact i02 u (by simpa using e1) e2
end
theorem C4u (ok:HOk P w H h) (ha:H a=some (.frz o (.dK kvs))) (ho:o.data= .dict es ep) :
  (a == sysModules)=false/\∃vs,KV kvs vs/\h.DictAt (A2f P w) a vs ep:=by
 obtain ⟨e1,hz,hs,vs,rel,o',es',ep',e2,c,d,r⟩:=(show A2u P w H h a (.frz o (.dK kvs)) from ok a _ ha);rw [e1] at e2;cases e2;rw [ho] at d;cases d;exact ⟨hs,(i0r vs rel o es e1 c ho r)⟩
theorem C7h {tg:Expr} (it a:Addr) (o:Obj) (kvs:List (Key×V)) (es:Array DictEntry) (ep:Nat) (ho:o.data= .dict es ep) :
  D1m P w K tg (Itd a o kvs) [it] it (λi h=>h.IsKeyIter it a i kvs.length ep) where
 mem:=by simp
 obj:=λi h st b hb=>by
  have e:b=it:=by simpa using hb
  subst e;obtain ⟨ob,e,_,d⟩:=st;exact i02 ob e λv z=>by rw [d] at z;cases z
 keep:=λi h h' st k=>st.at λob e=>k it (by simp) ob e
 item:=by
  intro X hP hw hK hc i pins s Z H E I hf st hg;subst hP hw hK;obtain ⟨ha,hi⟩:=hg;obtain ⟨f0,f1,f2,f3,f4,f5⟩:=hf it (by simp);obtain ⟨_,vs,rel,dd⟩:=C4u I.hok ha ho;have hl:=rel.length;obtain ⟨⟨k,v⟩,hkv⟩:∃p,kvs[i]? =some p:=⟨kvs[i],by simp [hi]⟩;obtain ⟨u,hu,_⟩:=rel.at hkv;rw [hl] at st;refine wpAny_pyNext_dict_item st dd hu λkey h' hk hit sb=> ?_;have I1:Inv X pins Z H { s with heap:=h',toks:=s.toks }:=I.turned (t':=s.toks) (λb ob hb e=>(sb.2 b hb).trans e) f0 f1 f3 f4 f5
  obtain ⟨ob,e,c,d⟩:=id hit;exact i02 key rfl (C3p (s:={ s with heap:=h' }) e c d (by decide) (i0o (kV k) H I1 (D3d hk) (i0b rfl k v hkv rfl) (by rw [hl];exact hit) λb hb=>(hf b hb).1))
 done:=by
  intro X hP hw hK hc i pins s Z H E I hf st hg;subst hP hw hK;obtain ⟨ha,hi⟩:=hg;obtain ⟨f0,f1,f2,f3,f4,f5⟩:=hf it (by simp);obtain ⟨_,vs,rel,dd⟩:=C4u I.hok ha ho;have hl:=rel.length;rw [hl] at st;exact wpAny_pyNext_dict_end (I.ok.hd hc) st dd (by simp;lia) λh' eb=>⟨rfl,I.turned (t':=s.toks) (λb ob hb e=>eb b ob hb e) f0 f1 f3 f4 f5⟩
 self:=λ_ _ _ _ _ st h=>wpAny_pyIter_keyiter st h
def D9y (tl:TE):TI:=λZ H R=>tl Z H λx H1=>∃a kvs,x= .ref a/\H1 a=some (.dK kvs)/\∀o,R (Itd a o kvs) (upd H1 a (.frz o (.dK kvs)))
theorem C7l {tg l:Expr} {tl:TE} (hl:PE X l tl):PI X tg l (D9y tl):=by
 intro pins s Z H R I h;refine thn (hl pins s Z H _ I h) ?_;rintro u s1 ⟨x,H1,I1,rx,a,kvs,ex,ha,q⟩;subst ex;cases rx;obtain ⟨hz,hs,vs,rel,o,es,ep,ho,hx,hd,r⟩:=C6n I1.hok ha;have dd:s1.heap.DictAt (A2f X.prog X.w) a vs ep:=(i0l o es ho hx hd r);refine wpAny_pyIter_dict hs dd ?_;have I2:Inv X pins Z H1 { s1 with heap:=s1.heap.push { cls:= .type "dict_keyiterator",data:= .fields #[.ref a,.int 0 0,.int vs.length 0,.int ep 0] },toks:=s1.toks }:=I1.kept λb ob e=>Z01 _ e
 have I3:=I2.frozen ha (Z01 _ ho);refine i14 _ [s1.heap.objs.size] _ _ _ rfl I3 (C7h _ a o kvs es ep hd) ?_ (λb hb=> ?_) (q o)
 ·rw [rel.length];exact i06 _ (Z0c _ rfl) rfl rfl
 ·have e:b=s1.heap.objs.size:=by simpa using hb
  subst e;refine I1.fpOk (Z09 _) ?_;rw [A0k (Z1q (I1.hok.lt ha))];exact I1.hok.fresh (Z09 _)
theorem C6m {H2:Hp} (ha:H a=some u) (s:A1c (upd H a (.frz o u)) H2):A1c H (upd H2 a u):=λb v e=>by
 by_cases hb:b=a
 ·subst hb;rw [ha] at e;cases e;exact A0b
 ·rw [A0k hb];exact s b v (by rw [A0k hb];exact e)
section
variable {X:Cx}
def C8k (ix:List (Option Nat)) (wi:TI) (g:TG) (tc:TT) (te:TE):TE:=λZ H Q=>wi Z H λJ H1=>∀D,H1 D=none->∃W:Nat->Nat->Hp->Prop,(∃m,W 0 m (upd H1 D (.lst [])))/\∀i m H2,W i m H2->
 (J.stop i H2/\Q (.ref D) H2)\/(J.go i H2/\∃(N:VK) (M:Hp->Prop),(∀y H5,N y H5->∃xs,H5 D=some (.lst xs)/\xs.length<sizeLine/\∃m',m'<m/\W (i+1) m' (upd H5 D (.lst (xs++[y]))))/\(∀H5,M H5->∃m',m'<m/\W (i+1) m' H5)/\∀x H3,J.yld i H2 x H3->g x (A6o ix Z) H3 λZ4 H4=>A3e (A6o ix Z) Z4/\tc Z4 H4 λb H5=>if b=true then te Z4 H5 N else M H5)
def PTs (X:Cx) (cs:List Expr) (t:TT):Prop :=
 ∀(pins:List (Addr×Obj)) (s:Shared) (Z:St) (H:Hp) (Q:Bool->Hp->Prop),Inv X pins Z H s->t Z H Q->wpAny (model X.prog X.w) X.A (forIn cs true λc r=>if r=true then do let ok<-isTrue c X.env (eval c X.env);pure (ForInStep.yield ok) else pure (ForInStep.yield r)) (TP X pins Z Q) X.xe s
theorem C2p {tg:Expr} (hc:X.calm=true) (ck:C8p X scope cl) (io:C8r X N' scope ix) (hi:PI X tg iter wi)
  (hg:∀C s₀ H₀ fp,PG (blk X N' scope cl C s₀ H₀ fp) tg g) (ht:∀C s₀ H₀ fp,PTs (blk X N' scope cl C s₀ H₀ fp) cs tc) (he:∀C s₀ H₀ fp,PE (blk X N' scope cl C s₀ H₀ fp) elt te) (R:VK->St->It->Hp->Prop) (hR:∀Q Z J H1,R Q Z J H1->∀D,H1 D=none->∃W:Nat->Nat->Hp->Prop,(∃m,W 0 m (upd H1 D (.lst [])))/\∀i m H2,W i m H2->
 (J.stop i H2/\Q (.ref D) H2)\/(J.go i H2/\∃(N:VK) (M:Hp->Prop),(∀y H5,N y H5->∃xs,H5 D=some (.lst xs)/\xs.length<sizeLine/\∃m',m'<m/\W (i+1) m' (upd H5 D (.lst (xs++[y]))))/\(∀H5,M H5->∃m',m'<m/\W (i+1) m' H5)/\∀x H3,J.yld i H2 x H3->g x (A6o ix Z) H3 λZ4 H4=>A3e (A6o ix Z) Z4/\tc Z4 H4 λb H5=>if b=true then te Z4 H5 N else M H5)) (hs:∀x,foldedSetIterable iter X.env x=pure x:=by intro _;rfl) :
  PE X (.ListComp elt [⟨tg,iter,cs,0⟩] scope pos) (λZ H Q=>wi Z H (R Q Z)):=by
 intro pins s Z H Q I h;rw [eval_ListComp];refine wpAny_comprehension_free (use:=none) rfl hs ck.eq ck.kind ck.names (thn (hi pins s Z H _ I h) λxv s1 h1=>thn h1 λitv s2 h2=> ?_);obtain ⟨it,fp,tn,J,H1,rfl,I1,T,st1,f1,R1⟩:=h2;refine Z16 ?_;have hD:H1 s2.heap.objs.size=none:=I1.hok.fresh (Z09 _);obtain ⟨W,⟨m0,w0⟩,turn⟩:=hR _ _ _ _ R1 _ hD;have hfD:∀b∈fp,b<s2.heap.objs.size:=λb hb=>let ⟨o,e,_⟩:=T.obj _ _ st1 b hb;Z0a e;have I2:Inv X pins Z (upd H1 s2.heap.objs.size (.lst [])) { s2 with heap:=s2.heap.push { cls:= .type "list",data:= .seq ([]:List Value).toArray },toks:=s2.toks }:=I1.lnew (its:=[]) .nil (Z1e _);have f2:∀b∈fp,C0f X pins (upd H1 s2.heap.objs.size (.lst [])) b:=λb hb=>⟨by rw [A0k (Z0h (hfD b hb))];exact (f1 b hb).1,(f1 b hb).2⟩
 have lt2:∀b∈fp,b<(s2.heap.push { cls:= .type "list",data:= .seq ([]:List Value).toArray }).objs.size:=λb hb=>by rw [Z1s];exact Nat.lt_succ_of_lt (hfD b hb)
 refine wpAny_newFunctionEnv ck.ncell (by intro y hy;simp at hy) (λh3 hns sb3=> ?_) ck.kind;dsimp only at hns sb3⊢;have k3:∀b o,(s2.heap.push { cls:= .type "list",data:= .seq ([]:List Value).toArray }).get? b=some o->h3.get? b=some o:=λb o e=>(sb3.2 b (Z0h (Z0a e))).trans (Z01 _ e);generalize hs2:({ s2 with heap:=s2.heap.push { cls:= .type "list",data:= .seq ([]:List Value).toArray },toks:=s2.toks }:Shared)=s3 at I2;have e3:s2.heap.push { cls:= .type "list",data:= .seq ([]:List Value).toArray }=s3.heap:=by rw [<-hs2]
 rw [e3] at hns k3 lt2;have I3:=B8c (N':=N') (ix:=ix) I2 ck io f2 lt2 (h':=h3) (t':=s2.toks+([]:List (Str×Value)).length) hns k3;have e4:({ s3 with heap:=h3,toks:=s2.toks+([]:List (Str×Value)).length }:Shared)={ s2 with heap:=h3,toks:=s2.toks+([]:List (Str×Value)).length }:=by rw [<-hs2]
 rw [e4] at I3;have st3:tn 0 h3:=T.keep _ _ _ st1 λb hb o e=>k3 b o (by rw [<-e3];exact Z01 _ e)
 have loop:∀s4:Shared,s4={ s2 with heap:=h3,toks:=s2.toks+([]:List (Str×Value)).length }->
   codeAny (model X.prog X.w) X.A (.compLoop (.ListComp elt [⟨tg,iter,cs,0⟩] scope pos) 0 (.ref it) (.ref s2.heap.objs.size) (compEnvC scope cl s3.heap.objs.size X.env))
    (compPost (model X.prog X.w) X.A X.xe none (EP X pins Z Q) (.ref s2.heap.objs.size) s3.heap.objs.size) s4:=by
  rintro s4 rfl
  have stat:∀{H':Hp},(∀b∈fp,H' b=none)->∀b∈fp,C0f (blk X N' scope cl s3.heap.objs.size s3 (upd H1 s2.heap.objs.size (.lst [])) fp) [] H' b:=λhn b hb =>
   (i0h (hn b hb) (Z0h (lt2 b hb)) (λhs=>I3.ok.exfs b hb hs) (.inl hb) (λx c e=>(f2 b hb).2.2.2.2.1 x c (ck.sub x c e)) (λp hp=>by cases hp))
  refine codeAny_loop rfl (λn s'=>∃i Z' H',Inv (blk X N' scope cl s3.heap.objs.size s3 (upd H1 s2.heap.objs.size (.lst [])) fp) [] Z' H' s'/\(∀(j:Nat) v,(A6o ix Z)[j]? =some (some v)->Z'[j]? =some (some v))/\tn i s'.heap/\(∀b∈fp,H' b=none)/\W i n H')
   (λn s' hI=> ?_) m0 (i0t 0 _ _ I3 (λ_ _ z=>z) st3 (λb hb=>(f2 b hb).1) w0)
  obtain ⟨i,Z5,H5,I5,wk,st5,fr5,w5⟩:=hI;show wpAny _ _ ((compTurn (.ListComp elt [⟨tg,iter,cs,0⟩] scope pos) 0 (.ref it) (.ref s2.heap.objs.size) (compEnvC scope cl s3.heap.objs.size X.env)).onRaise (λx=>do noteFrame x (compEnvC scope cl s3.heap.objs.size X.env);theTreesLotGoes x)) _ _ s';refine wpAny_noted ?_;rw [compTurn_list];refine Z00 (Z1y ?_);rcases turn i n H5 w5 with ⟨stop,qn⟩ | ⟨go,NN,MM,hNN,hMM,step⟩
  ·refine Z00 (Z10 (T.done (blk X N' scope cl s3.heap.objs.size s3 (upd H1 s2.heap.objs.size (.lst [])) fp) rfl rfl rfl hc i [] s' Z5 H5 (λ_ _=>False) I5 (stat fr5) st5 stop) (λr s6 h6=> ?_) λ_ _ z=>z.elim);obtain ⟨rfl,I6⟩:=h6;refine Z04 ?_;obtain ⟨mm,hm,_⟩:=id I6.loc;exact i02 mm hm λh' sb=>(i0f (.ref s2.heap.objs.size) H5 (C5l I2 f2 I6 sb) rfl qn)
  ·refine Z00 (Z10 (T.item (blk X N' scope cl s3.heap.objs.size s3 (upd H1 s2.heap.objs.size (.lst [])) fp) rfl rfl rfl hc i [] s' Z5 H5 (λ_ _=>False) I5 (stat fr5) st5 go) (λr s6 h6=> ?_) λ_ _ z=>z.elim);obtain ⟨u,rfl,h6⟩:=h6;refine Z00 (Z10 h6 (λ_ s7 h7=> ?_) λ_ _ z=>z.elim);obtain ⟨x,H7,I7,r7,y7,st7,fr7⟩:=h7;have I7w:Inv (blk X N' scope cl s3.heap.objs.size s3 (upd H1 s2.heap.objs.size (.lst [])) fp) [] (A6o ix Z) H7 s7:=I7.weak (by rw [I7.len];unfold A6o;rw [Z08];exact io.1) wk;have I7p:=I7w.pinned (stat fr7) (T.obj _ _ st7);refine Z00 (Z10 (hg _ _ _ _ _ s7 _ H7 x u _ I7p r7 (step x H7 y7)) (λ_ s8 h8=> ?_) λ_ _ z=>z.elim);obtain ⟨Z8,H8,I8,kp8,q8⟩:=h8
   have back:∀{s10:Shared} {Z10:St} {H10:Hp} {m':Nat},Inv (blk X N' scope cl s3.heap.objs.size s3 (upd H1 s2.heap.objs.size (.lst [])) fp) ([]++B4u fp s7.heap) Z10 H10 s10->(∀(j:Nat) v,(A6o ix Z)[j]? =some (some v)->Z10[j]? =some (some v))->W (i+1) m' H10->
     ∃i Z' H',Inv (blk X N' scope cl s3.heap.objs.size s3 (upd H1 s2.heap.objs.size (.lst [])) fp) [] Z' H' s10/\(∀(j:Nat) v,(A6o ix Z)[j]? =some (some v)->Z'[j]? =some (some v))/\tn i s10.heap/\(∀b∈fp,H' b=none)/\W i m' H':=by
    intro s10 Z10 H10 m' I10 kk w10;refine i0t (i+1) Z10 H10 I10.unpinned kk (T.keep _ _ _ st7 λb hb o e=>(I10.pin (b,o) (Z02 _ (Z02 _ (A5n hb e)))).1) (λb hb=> ?_) w10;obtain ⟨o,e,d⟩:=T.obj _ _ st7 b hb;exact (I10.pin (b,o) (Z02 _ (Z02 _ (A5n hb e)))).2.1
   refine Z00 (Z10 (ht _ _ _ _ _ s8 Z8 H8 _ I8 q8) (λok s9' h9'=> ?_) λ_ _ z=>z.elim);obtain ⟨H9',I9',q9'⟩:=h9'
   cases ok with
   | false =>
    have q9'':MM H9':=by simpa using q9'
    obtain ⟨m',hm',w9⟩:=hMM _ q9'';exact Z00 (Z04 (Z04 (i05 rfl m' hm' (back I9' kp8.get w9))))
   | true =>
    have q9'':te Z8 H9' NN:=by simpa using q9'
    refine Z00 (Z00 (Z10 (he _ _ _ _ _ s9' Z8 H9' _ I9' q9'') (λyv s9 h9=> ?_) λ_ _ z=>z.elim));obtain ⟨y,H9,I9,r9,n9⟩:=h9;obtain ⟨xs,hx9,hz9,m',hm',w9⟩:=hNN _ _ n9;refine Z00 (Z10 (A2l (X:=blk X N' scope cl s3.heap.objs.size s3 (upd H1 s2.heap.objs.size (.lst [])) fp) _ s9 Z8 H9 (.ref s2.heap.objs.size) [y] (.ref s2.heap.objs.size) [yv] (λ_ H'=>W (i+1) m' H') I9 rfl (.cons r9 .nil) (i0t _ xs y rfl rfl hx9 hz9 w9)) (λ_ s10 h10=> ?_) λ_ _ z=>z.elim);obtain ⟨_,H10,I10,_,w10⟩:=h10;exact Z04 (Z04 (i05 rfl m' hm' (back I10 kp8.get w10)))
 have e5:s3.heap.objs.size=(s2.heap.push { cls:= .type "list",data:= .seq ([]:List Value).toArray }).objs.size:=by rw [e3]
 rw [e5] at loop;exact codeAny_compStart_list (loop _ rfl) (T.self X.A 0 _ _ _ st3 (loop _ rfl))
theorem B7z {tg c:Expr} (hc:X.calm=true) (ck:C8p X scope cl) (io:C8r X N' scope ix) (hi:PI X tg iter wi)
  (hg:∀C s₀ H₀ fp,PG (blk X N' scope cl C s₀ H₀ fp) tg g) (ht:∀C s₀ H₀ fp,PT (blk X N' scope cl C s₀ H₀ fp) c tc) (he:∀C s₀ H₀ fp,PE (blk X N' scope cl C s₀ H₀ fp) elt te) (hs:∀x,foldedSetIterable iter X.env x=pure x:=by intro _;rfl) :
  PE X (.ListComp elt [⟨tg,iter,[c],0⟩] scope pos) (C8k ix wi g tc te) :=
 C2p hc ck io hi hg (λC s₀ H₀ fp pins s Z H Q I h=>wpAny_tests_one (ht C s₀ H₀ fp pins s Z H Q I h)) he _ (λ_ _ _ _ R=>R) hs
theorem A4e {tg:Expr} (hc:X.calm=true) (ck:C8p X scope cl) (io:C8r X N' scope ix) (hi:PI X tg iter wi)
  (hg:∀C s₀ H₀ fp,PG (blk X N' scope cl C s₀ H₀ fp) tg g) (he:∀C s₀ H₀ fp,PE (blk X N' scope cl C s₀ H₀ fp) elt te) (hs:∀x,foldedSetIterable iter X.env x=pure x:=by intro _;rfl) :
  PE X (.ListComp elt [⟨tg,iter,[],0⟩] scope pos) (D5o ix wi g te) :=
 C2p (tc:=λ_ H Q=>Q true H) hc ck io hi hg (λ_ _ _ _ _ _ _ _ _ I h=>wpAny_tests_nil (i02 _ I h)) he _ (λ_ _ _ _ R D2 hD=>by
  obtain ⟨W,w0,turn⟩:=R D2 hD;refine i02 W w0 λi m H2 w=>(turn i m H2 w).imp id λ⟨go,N,hN,step⟩=>(i0i go N (λ_=>False) hN (λ_ z=>z.elim) ?_)
  simpa using step) hs
end
section
variable {K:Frag} {a D:Addr} {xs:List V} {g:TG} {tc:TT} {te:TE} {QD:Hp->Prop} {Z₀:St} {H:Hp}
theorem A9k (Pv:Nat->List V->Hp->Prop) (h0:Pv 0 [] (upd H D (.lst []))) (hl:∀i ys H,Pv i ys H->SqL K H a xs)
  (hs:∀i x ys H,xs[i]? =some x->Pv i ys H->g x Z₀ H λZ4 H4=>A3e Z₀ Z4/\tc Z4 H4 λb H5=>if b=true then te Z4 H5 (λy H5=>H5 D=some (.lst ys)/\ys.length<sizeLine/\Pv (i+1) (ys++[y]) (upd H5 D (.lst (ys++[y])))) else Pv (i+1) ys H5) (hd:∀ys H,Pv xs.length ys H->QD H) :
  ∃W:Nat->Nat->Hp->Prop,(∃m,W 0 m (upd H D (.lst [])))/\∀i m H2,W i m H2->
   ((Itl K a).stop i H2/\QD H2)\/((Itl K a).go i H2/\∃(N:VK) (M:Hp->Prop),(∀y H5,N y H5->∃xs,H5 D=some (.lst xs)/\xs.length<sizeLine/\∃m',m'<m/\W (i+1) m' (upd H5 D (.lst (xs++[y]))))/\(∀H5,M H5->∃m',m'<m/\W (i+1) m' H5)/\
    ∀x H3,(Itl K a).yld i H2 x H3->g x Z₀ H3 λZ4 H4=>A3e Z₀ Z4/\tc Z4 H4 λb H5=>if b=true then te Z4 H5 N else M H5):=by
 refine i02 (λi m H=>m=xs.length-i/\i<=xs.length/\∃ys,Pv i ys H) (i0d xs.length (by simp) (Z1e _) [] h0) ?_;rintro i m H2 ⟨rfl,hi,ys,p⟩;have q:=hl i ys H2 p;by_cases hlt:i<xs.length
 ·refine .inr (i0i (i07 xs (xs[i]) q (by simp [hlt])) (λy H5=>H5 D=some (.lst ys)/\ys.length<sizeLine/\Pv (i+1) (ys++[y]) (upd H5 D (.lst (ys++[y])))) (λH5=>Pv (i+1) ys H5) (λy H5 n=>(i0v ys n.1 n.2.1 (xs.length-(i+1)) (by lia) rfl hlt _ n.2.2)) (λH5 n=>(i0c (xs.length-(i+1)) (by lia) rfl hlt ⟨_,n⟩)) λx H3 z=> ?_);obtain ⟨e,z⟩:=z;subst e;exact hs i x ys _ (z xs q) p
 ·have e:i=xs.length:=by lia
  subst e;exact .inl ⟨(i02 xs q (Z09 _)),hd ys H2 p⟩
end
section
variable {prog:Program} {w:World} {A:Around} {E:Value->Shared->Prop} {s:Shared}
theorem C4g {v:Addr} {Q:Value->Shared->Prop} (h1:s.heap.IsItemsView v d) (h2:s.heap.get? d=some od) (h3:od.data= .dict es ep)
  (q:Q (.ref s.heap.objs.size) { s with heap:=s.heap.push { cls:= .type "dict_itemiterator",data:= .fields #[.none,.bool false,.ref d,.int 0 0,.int es.size 0,.int ep 0,.none,.none] } }) :
  wpAny (model prog w) A (pyIter (.ref v)) Q E s:=by
 obtain ⟨ov,g1,g2,g3⟩:=id h1;refine wpAny_pyIter_slot h1.typeIs F.slot_dict_items_iter (Z1g F.slot_dict_items_iter h1.typeIs F.entry_dict_items_iter ?_ (F.args_dict_items_iter_1 _));unfold Builtin.«dict_items.__iter__»;refine Z00 (Z04 (Z00 ?_));unfold Builtin.Dict_items.dictOf;refine Z00 (Z11 g1 g3 (x:= .ref d) rfl (Z04 (Z00 ?_)));unfold Builtin.Dict_items.newIterator;refine Z00 (wpAny_dictEntries h2 h3 (Z00 (wpAny_dictEpoch h2 h3 ?_)));simp only [show Builtin.Dict_items.ownsTuple "dict_itemiterator"=true by decide,if_true]
 refine Z16 (Z04 (i0n _ rfl "dict_itemiterator" _ (i02 _ (Z0c _ rfl) rfl) F.slot_dict_itemiterator_next.lookup ?_)) (by
  simp only [sizeOk,Builtin.Dict_items.ownedTupleFields,Z0g,Z06,Z0y,Z2g,sizeLine_eq]
  lia)
 simpa [rawInt,Builtin.Dict_items.ownedTupleFields] using q
theorem C2y {e:DictEntry} {x:Value}
  (h1:IsItemIter s.heap it d i n ep x y) (h2:s.heap.get? d=some od) (h3:od.data= .dict es ep) (h4:es.size=n) (h5:es[i]? =some e)
  (q:∀h',IsItemIterOut h' it d (i+1) n ep e.key e.val s.heap.objs.size->h'.get? s.heap.objs.size=some { cls:= .type "tuple",data:= .seq #[e.key,e.val] }->
   (∀c u,c≠it->s.heap.get? c=some u->h'.get? c=some u)->Q (some (.ref s.heap.objs.size)) { s with heap:=h' }) :
  wpAny (model prog w) A (pyNext (.ref it)) Q E s:=by
 obtain ⟨hp,g,dr,tk,os⟩:=s;have ty:Shared.TypeIs ⟨hp,g,dr,tk,os⟩ (.ref it) "dict_itemiterator":=(i02 _ h1 rfl);unfold pyNext;refine Z00 (wpAny_attempt (Z1b (name:=Str.ofString "__next__") ty F.slot_dict_itemiterator_next (Z1g F.slot_dict_itemiterator_next ty F.entry_dict_itemiterator_next ?_ (F.args_dict_itemiterator_next_1 _))));refine Z00 (Z04 (Z00 (Z00 ?_)));refine Z00 (wpAny_typeNameOfWhole_itemiter ty (Z04 (Z00 (wpAny_fieldsOf h1 rfl ?_))));simp only [show Builtin.Dict_items.ownsTuple "dict_itemiterator"=true by decide,if_true];show wpAny _ _ (ite ((Value.ref d == Value.none)=true) _ _) _ _ _;rw [Z0t (show¬((Value.ref d == Value.none)=true) from Z0v)];refine Z00 (Z04 (Z00 (wpAny_dictEntries h2 h3 ?_)));rw [Z0t (by rw [h4];simp)];refine Z00 (Z04 (Z00 (wpAny_dictEpoch h2 h3 ?_)));rw [Z0t (by simp)];obtain ⟨lt,ee⟩:=Array.getElem?_eq_some_iff.mp h5;refine Z04 ?_;simp only [show¬((i:Int)<0) from by lia,if_false,Int.toNat_natCast,h5];refine Z00 (Z00 (wpAny_typeNameOfWhole_itemiter ty (Z04 (Z00 (wpAny_isOneOf_itemiter ty ?_)))));show wpAny _ _ (setField (.ref it) 3 (rawInt ((i:Int)+1)) >>= _) _ _ (⟨hp,g,dr,tk,os⟩:Shared);refine Z00 (Z1h h1 (by simp) λk1 e1 s1=> ?_)
 replace s1:Heap.SameBut it hp k1:=s1
 replace e1:IsItemIter k1 it d (i+1) n ep x y:=by
  have z:((i+1:Nat):Int)=(i:Int)+1:=by lia
  unfold IsItemIter;rw [z]
  simpa [rawInt] using e1
 have ty1:Shared.TypeIs ⟨k1,g,dr,tk,os⟩ (.ref it) "dict_itemiterator":=(i02 _ e1 rfl);refine Z00 (Z1w (Z00 (wpAny_isOneOf_itemiter ty1 (Z00 (wpAny_isOneOf_itemiter ty1 ?_)))));show wpAny _ _ (Builtin.Dict_items.pairFromOwner (.ref it) 6 e.key e.val) _ _ (⟨k1,g,dr,tk,os⟩:Shared);unfold Builtin.Dict_items.pairFromOwner;refine Z00 (wpAny_newTuple ?_);have z1:k1.objs.size=hp.objs.size:=s1.1;have li:it<hp.objs.size:=Z0a h1;have e2:IsItemIter (k1.push { cls:= .type "tuple",data:= .seq #[e.key,e.val] }) it d (i+1) n ep x y:=Z01 _ e1;have t2:(k1.push { cls:= .type "tuple",data:= .seq #[e.key,e.val] }).get? hp.objs.size=some { cls:= .type "tuple",data:= .seq #[e.key,e.val] }:=by rw [<-z1];exact Z0c _ rfl
 have m2:∀b o,b≠it->hp.get? b=some o->(k1.push { cls:= .type "tuple",data:= .seq #[e.key,e.val] }).get? b=some o:=λb o hb z=>Z01 _ (s1.extBut b o hb z);generalize k1.push { cls:= .type "tuple",data:= .seq #[e.key,e.val] }=k2 at e2 t2 m2;show wpAny _ _ (Builtin.Dict_items.ownedTupleIsFree (.ref it) >>= _) _ _ (⟨k2,g,dr,tk,os⟩:Shared);rw [z1];clear e1 s1 ty1 z1 k1;refine Z00 ?_;unfold Builtin.Dict_items.ownedTupleIsFree;refine Z00 (Z11 e2 rfl (x:= .none) rfl (Z04 ?_));simp only [if_true];refine Z00 (Z11 e2 rfl (x:=x) rfl (Z00 (Z11 e2 rfl (x:=y) rfl (Z00 (Z1h e2 (by simp) λk3 e3 s3=> ?_)))))
 replace s3:Heap.SameBut it k2 k3:=s3
 replace e3:IsItemIter k3 it d (i+1) n ep e.key y:=e3
 refine Z00 (Z1h e3 (by simp) λk4 e4 s4=> ?_)
 replace s4:Heap.SameBut it k3 k4:=s4
 replace e4:IsItemIter k4 it d (i+1) n ep e.key e.val:=e4
 refine Z00 (Z1h e4 (by simp) λk5 e5 s5=> ?_)
 replace s5:Heap.SameBut it k4 k5:=s5
 replace e5:IsItemIterOut k5 it d (i+1) n ep e.key e.val hp.objs.size:=e5
 refine Z00 (Z1h e5 (by simp) λk6 e6 s6=> ?_)
 replace s6:Heap.SameBut it k5 k6:=s6
 replace e6:IsItemIterOut k6 it d (i+1) n ep e.key e.val hp.objs.size:=e6
 have all:∀b o,b≠it->k2.get? b=some o->k6.get? b=some o:=λb o hb z=>s6.extBut b o hb (s5.extBut b o hb (s4.extBut b o hb (s3.extBut b o hb z)));exact Z00 (wpAny_letGo (Z04 (Z04 (i02 _ rfl (Z04 (q k6 e6 (all _ _ (Z1q li) t2) λb o hb z=>all b o hb (m2 b o hb z)))))))
theorem C5p {x:Value} (hh:A.handled=none)
  (h1:IsItemIter s.heap it d i n ep x y) (h2:s.heap.get? d=some od) (h3:od.data= .dict es ep) (h4:es.size=n) (h5:n<=i)
  (q:∀h',Heap.ExtBut it s.heap h'->Q none { s with heap:=h' }):wpAny (model prog w) A (pyNext (.ref it)) Q E s:=by
 have ty:s.TypeIs (.ref it) "dict_itemiterator":=(i02 _ h1 rfl);unfold pyNext;refine Z00 (wpAny_attempt (Z1b (name:=Str.ofString "__next__") ty F.slot_dict_itemiterator_next (Z1g F.slot_dict_itemiterator_next ty F.entry_dict_itemiterator_next ?_ (F.args_dict_itemiterator_next_1 _))));refine Z00 (Z04 (Z00 (Z00 ?_)));refine Z00 (wpAny_typeNameOfWhole_itemiter ty (Z04 (Z00 (wpAny_fieldsOf h1 rfl ?_))));simp only [show Builtin.Dict_items.ownsTuple "dict_itemiterator"=true by decide,if_true];show wpAny _ _ (ite ((Value.ref d == Value.none)=true) _ _) _ _ _;rw [Z0t (show¬((Value.ref d == Value.none)=true) from Z0v)];refine Z00 (Z04 (Z00 (wpAny_dictEntries h2 h3 ?_)));rw [Z0t (by rw [h4];simp)];refine Z00 (Z04 (Z00 (wpAny_dictEpoch h2 h3 ?_)));rw [Z0t (by simp)];refine Z04 ?_;simp only [show¬((i:Int)<0) from by lia,if_false,Int.toNat_natCast,Array.getElem?_eq_none (show es.size<=i by lia)];refine Z00 (Z00 (wpAny_typeNameOfWhole_itemiter ty (Z04 ?_)));show wpAny _ _ (setField (.ref it) 2 .none >>= _) _ _ _;refine Z00 (Z1t h1 rfl (by simp) ?_);show wpAny _ _ (newExc (.type "StopIteration") [] >>= _) _ _ (_:Shared);refine Z00 ?_;simp only [newExc,newTuple];refine Z00 (Z16 (Z00 (m:=firstArgMember _ _) (wpAny_of_eq (a:=Value.none) (by first | rfl | (simp only [firstArgMember];rfl)) (Z16 ?_ (by size_fits)))) (by size_fits));simp only [raiseNew];refine Z00 (wpAny_handled ?_);rw [show A.in1.handled=none from hh];refine Z00 (Z04 (wpAny_throw ?_));refine Z00 (wpAny_isInstance (T:="StopIteration") (b:=true) (i02 _ (Z0c _ rfl) rfl) isSubtype_stop (Z04 ?_));exact q _ (((Heap.SameBut.update ..).extBut.push _).push _)
theorem C0h:entryFor table "dict_itemiterator.__iter__"=some Builtin.«dict_keyiterator.__iter__»:=entryFor_alias (id':="dict_keyiterator.__iter__") (by kernel_rfl) rfl (by decide +kernel) (by kernel_rfl)
theorem C4b {x:Value} {Q:Value->Shared->Prop} (st:IsItemIter s.heap it d i n ep x y) (h:Q (.ref it) s):wpAny (model prog w) A (pyIter (.ref it)) Q E s:=by
 have ty:s.TypeIs (.ref it) "dict_itemiterator":=(i02 _ st rfl);refine wpAny_pyIter_slot ty F.slot_dict_itemiterator_iter (Z1g F.slot_dict_itemiterator_iter ty C0h ?_ (F.args_dict_itemiterator_iter_1 _));show wpAny _ _ (ret (.ref it)) _ _ s;exact Z04 (i0n _ rfl "dict_itemiterator" _ ty F.slot_dict_itemiterator_next.lookup h)
theorem C3e (d:Addr) (hd:(d == sysModules)=false) :
  MeetsIn prog w (Builtin.«dict.items» ⟨[.ref d],[]⟩) (λ_ R s=>s.TypeIs (.ref d) "dict"/\R (.ok (.ret (.ref s.heap.objs.size))) { s with heap:=s.heap.push { cls:= .type "dict_items",data:= .fields #[.ref d] } }) :=
 .of_wp λA R s ⟨ty,q⟩=>by
  unfold Builtin.«dict.items»;refine Z00 ?_;unfold Builtin.Dict.noArgs;refine Z00 (wpAny_notOrdered_dict ty ?_);show wpAny _ _ (pure d) _ _ s;refine Z04 ?_;show wpAny _ _ (Builtin.Dict.showsAll d >>= _) _ _ s;unfold Builtin.Dict.showsAll;rw [Z0t (by rw [hd];exact Z0v)];exact Z00 (Z04 (Z00 (Z16 (Z04 (i02 _ rfl q)))))
end
section
variable {X:Cx}
def isD (u:HO):Prop:=(∃kvs,u= .dK kvs)\/∃kvs,u= .dT kvs
def C3l (v d:Addr):HO:= .ext λh=>h.IsItemsView v d
theorem D0c {v:Addr} (e:h.IsItemsView v d):A2u P w H h v (C3l v d) :=
 (i00 e (let ⟨o,e1,_⟩:=e;⟨o,e1⟩) (by rintro h1 h2 ⟨o,e1,e2⟩ k;exact i02 o (k o e1) e2))
theorem D2m (hu:isD u) (x:A2u P w H h a u):(a == sysModules)=false/\∃o es ep,h.get? a=some o/\o.ExactDict/\o.data= .dict es ep:=by
 rcases hu with ⟨kvs,rfl⟩ | ⟨kvs,rfl⟩
 ·obtain ⟨hz,hs,vs,rel,o,es,ep,ho,hx,hd,r⟩:=x;exact ⟨hs,(i0m o es ep ho hx hd)⟩
 ·obtain ⟨hz,hs,vs,rel,o,es,ep,ho,hx,hd,r⟩:=x;exact ⟨hs,(i0m o es ep ho hx hd)⟩
def D8u:V->List V->Hp->VK->Prop:=λx vs H Q=>∃a u,x= .ref a/\vs=[]/\H a=some u/\isD u/\∀p,H p=none->Q (.ref p) (upd H p (C3l p a))
theorem D0s:MtR X "dict.items" D8u:=by
 intro pins s Z H x xs v us Q I rx rv h;obtain ⟨a,u,rfl,rfl,ha,hu,q⟩:=h;cases rx;cases rv;obtain ⟨hs,o,es,ep,ho,hx,hd⟩:=D2m hu (I.hok a u ha);have ty:s.TypeIs (.ref a) "dict":=(i02 o ho hx.1);refine call_meetsIn PySem.F.slot_dict_items ty PySem.F.entry_dict_items (PySem.F.args_dict_items_1 _) (C3e a hs) ⟨ty,?_⟩;exact i0f (.ref s.heap.objs.size) _ (I.laid (t':=s.toks) (o:=C3l s.heap.objs.size a) (λb u e=>Z01 _ e) (Z09 _) (D0c (i06 _ (Z0c _ rfl) rfl rfl))) rfl (q _ (I.hok.fresh (Z09 _)))
theorem Inv.frozenD (I:Inv X pins Z H s) (ha:H a=some u) (hu:isD u) (ho:s.heap.get? a=some o):Inv X pins Z (upd H a (.frz o u)) s:=by
 have nt:∀b xs,H b=some (.tup xs)->upd H a (.frz o u) b=some (.tup xs):=λb xs q=>by
  rw [A0k (A3p q ha (by rcases hu with ⟨_,rfl⟩ | ⟨_,rfl⟩ <;> intro z <;> cases z))];exact q
 have no:∀b,H b=some (.own a)->upd H a (.frz o u) b=some (.own a):=λb q=>by
  rw [A0k (A3p q ha (by rcases hu with ⟨_,rfl⟩ | ⟨_,rfl⟩ <;> intro z <;> cases z))];exact q
 have new:A2u X.prog X.w (upd H a (.frz o u)) s.heap a (.frz o u):=⟨ho,(I.hok a u ha).stay (λ_ _ _ q=>q) no nt⟩;exact I.write (t':=s.toks) (h':=s.heap) (e:=a) (by rw [ha];rcases hu with ⟨_,rfl⟩ | ⟨_,rfl⟩ <;> trivial) (.inl rfl) (λ_ _ _ e=>e) ⟨o,ho⟩ new
theorem Inv.thawD (I:Inv X pins Z H s) (ha:H a=some (.frz o u)) (hu:isD u) (h0:∀o' u',X.H₀ a≠some (.frz o' u')):Inv X pins Z (upd H a u) s:=by
 have nf:∀b,H b=none->upd H a u b=none:=λb e=>by rw [A0k (λz=>by subst z;rw [ha] at e;cases e)];exact e
 have nt:∀b xs,H b=some (.tup xs)->upd H a u b=some (.tup xs):=λb xs q=>by rw [A0k (A3p q ha (by intro z;cases z))];exact q
 have no:∀b c,H b=some (.own c)->upd H a u b=some (.own c):=λb c q=>by rw [A0k (A3p q ha (by intro z;cases z))];exact q
 refine ⟨I.ok,I.os,I.bare,⟨I.base.keep,I.base.slot,λb ob e n hx=>nf b (I.base.free b ob e n hx),I.base.there,λb xs e=>nt b xs (I.base.tups b xs e),λb ob u' e=> ?_,λb ps e=> ?_⟩,I.loc,I.cell,nf _ I.free,λx c e=>nf _ (I.freeC x c e),
  λp hp=>(i00 ((I.pin p hp).1) (nf _ (I.pin p hp).2.1) ((I.pin p hp).2.2)),λb v e=> ?_,I.len⟩
 ·have q:=I.base.frzs b ob u' e;rw [A0k (λz=>by subst z;exact h0 _ _ e)];exact q
 ·obtain ⟨more,q⟩:=I.base.tbls b ps e;exact ⟨more,by rw [A0k (A3p q ha (by intro z;cases z))];exact q⟩
 ·by_cases hb:b=a
  ·subst hb;rw [A0b] at e;cases e;obtain ⟨_,q⟩:=(show A2u X.prog X.w H s.heap b (.frz o u) from I.hok b _ ha);exact q.stay (λ_ _ _ q=>q) (λc q=>no c b q) λc xs q=>nt c xs q
  ·rw [A0k hb] at e;exact (I.hok b v e).stay (λ_ _ _ q=>q) (λc q=>no c b q) λc xs q=>nt c xs q
def D6z (X:Cx) (t:TS):TS:=λD Z H=>∃a o u,H a=some (.frz o u)/\isD u/\(∀o' u',X.H₀ a≠some (.frz o' u'))/\t D Z (upd H a u)
theorem C4v {t:TS} (h:PSs X sts t):PSs X sts (D6z X t):=by
 intro pins s Z H D I hw;obtain ⟨a,o,u,ha,hu,h0,q⟩:=hw;exact h pins s Z _ D (I.thawD ha hu h0) q
abbrev D9b (es:Array DictEntry) (L:List (V×V)):Prop:=Paired (λ(e:DictEntry) (p:V×V)=>A3i p.1 e.key/\A3i p.2 e.val) es.toList L
def Iti (a:Addr) (o:Obj) (u:HO) (L:List (V×V)):It :=
 ⟨λi H=>H a=some (.frz o u)/\i<L.length,λi H x H'=>∃k v p,L[i]? =some (k,v)/\H p=none/\x= .ref p/\H'=upd H p (.tup [k,v]),λi H=>H a=some (.frz o u)/\i=L.length⟩
theorem B0s {α β:Type} {F:α->β->Prop}:∀{l:List α} {m:List β},Paired F l m->l.length=m.length
 | _,_,.nil=>rfl
 | _,_,.cons _ t=>by simp [B0s t]
theorem A6s {α β:Type} {F:α->β->Prop}:∀{l:List α} {m:List β},Paired F l m->∀{i:Nat} {y:β},m[i]? =some y->∃x,l[i]? =some x/\F x y
 | _,_,.nil,i,y,e=>by simp at e
 | _,_,.cons r t,0,y,e=>by simp at e;subst e;exact i02 _ rfl r
 | _,_,.cons r t,i+1,y,e=>by
  obtain ⟨x,e1,e2⟩:=A6s t (i:=i) (by simpa using e);exact i02 x (by simpa using e1) e2
theorem C3x {kk:Nat} (it a:Addr) (o:Obj) (u:HO) (L:List (V×V)) (es:Array DictEntry) (ep:Nat) (ho:o.data= .dict es ep) (rl:D9b es L) :
  D1m P w K (.Tuple elts kk pos) (Iti a o u L) [it] it (λi h=>∃x y,IsItemIter h it a i es.size ep x y) where
 mem:=by simp
 obj:=λi h st b hb=>by
  have e:b=it:=by simpa using hb
  subst e;obtain ⟨x,y,e⟩:=st;exact i02 _ e λv z=>by cases (show Data.fields _=Data.cell v from z)
 keep:=λi h h' st k=>let ⟨x,y,e⟩:=st;(i03 x y (k it (by simp) _ e))
 item:=by
  intro X hP hw hK hc i pins s Z H E I hf st hg;subst hP hw hK;obtain ⟨ha,hi⟩:=hg;obtain ⟨x,y,st⟩:=st;have hl:es.size=L.length:=by have:=B0s rl;simpa using this
  obtain ⟨⟨k,v⟩,hkv⟩:∃p,L[i]? =some p:=⟨L[i],by simp [hi]⟩;obtain ⟨e,he,r1,r2⟩:=A6s rl hkv;obtain ⟨hob,_⟩:=(show A2u X.prog X.w H s.heap a (.frz o u) from I.hok a _ ha);refine C2y st hob ho rfl (e:=e) (by simpa using he) λh' z1 z2 kp=> ?_;refine i02 _ rfl (wpAny_letOwnedTupleGo_items (s:={ s with heap:=h' }) z1 λg zg sb=> ?_)
  have nz:s.heap.objs.size≠it:=Z1q (Z0a st)
  have I1:Inv X pins Z (upd H s.heap.objs.size (.tup [k,v])) { s with heap:=g,toks:=s.toks }:=I.turnedNew (ts:=[it]) (λc o hc e=>by
   have hc':c≠it:=by simpa using hc
   exact sb.extBut _ _ hc' (kp c o hc' e)) hf (Z09 _) (i05 (by show 2<=sizeLine;decide) [e.key,e.val] (.cons r1 (.cons r2 .nil)) (i0d _ (sb.extBut _ _ nz z2) rfl _ rfl))
  refine i0o (.ref s.heap.objs.size) _ I1 rfl (i0q k v _ hkv (I.hok.fresh (Z09 _)) rfl rfl) (i03 _ _ zg) λc hc=> ?_;have hcn:c=it:=by simpa using hc
  subst hcn;rw [A0k nz.symm];exact (hf c hc).1
 done:=by
  intro X hP hw hK hc i pins s Z H E I hf st hg;subst hP hw hK;obtain ⟨ha,hi⟩:=hg;obtain ⟨x,y,st⟩:=st;have hl:es.size=L.length:=by have:=B0s rl;simpa using this
  obtain ⟨hob,_⟩:=(show A2u X.prog X.w H s.heap a (.frz o u) from I.hok a _ ha);obtain ⟨f0,f1,f2,f3,f4,f5⟩:=hf it (by simp);exact C5p (I.ok.hd hc) st hob ho rfl (by lia) λh' eb=>⟨rfl,I.turned (t':=s.toks) (λb ob hb e=>eb b ob hb e) f0 f1 f3 f4 f5⟩
 self:=λ_ _ s _ _ st h=>by
  obtain ⟨x,y,st⟩:=st;exact C4b st h
end
section
abbrev KL (H:Hp) (kvs:List (List Key×V)) (L:List (V×V)):Prop:=Paired (λ(p:List Key×V) (q:V×V)=>∃b,q.1= .ref b/\H b=some (.tup (p.1.map kV))/\q.2=p.2) kvs L
theorem B2u {α β:Type} {F:α->β->Prop}:∀{l:List α} {m:List β},l.length=m.length->(∀(i:Nat) (x:α) (y:β),l[i]? =some x->m[i]? =some y->F x y)->Paired F l m
 | [],[],_,_=> .nil
 | [],_::_,e,_=>by simp at e
 | _::_,[],e,_=>by simp at e
 | x::l,y::m,e,h=> .cons (h 0 x y rfl rfl) (B2u (by simpa using e) λi a b p q=>h (i+1) a b (by simpa using p) (by simpa using q))
theorem D5n (r:KV kvs vs) (p:Pairs (A2f P w) es.toList vs):D9b es (kvs.map λq=>(kV q.1,q.2)):=by
 refine B2u (by rw [p.length,Z08];exact r.length.symm) λi e y he hy=> ?_;rw [Z1z] at hy;obtain ⟨⟨k,v⟩,hk,rfl⟩:=Z0i.mp hy;obtain ⟨u,hu,ru⟩:=r.at hk;obtain ⟨h1,h2⟩:=p.get? he hu;subst h2;exact ⟨D3d h1,ru⟩
theorem D1d {P:Program} {w:World} {H:Hp}:∀{kvs:List (List Key×V)} {xs:List (List Key×Addr×Value)},KT H kvs xs->
  ∃L,Paired (λ(e:DictEntry) (p:V×V)=>A3i p.1 e.key/\A3i p.2 e.val) (xs.map (entryOfKey (tupleKind (A2f P w)))) L/\KL H kvs L
 | _,_,.nil=>(i02 [] .nil .nil)
 | _,_,@Paired.cons _ _ _ p q _ _ h t=>by
  obtain ⟨L,h1,h2⟩:=D1d (P:=P) (w:=w) t;exact i02 ((.ref q.2.1,p.2)::L) (.cons ⟨rfl,h.2.2⟩ h1) (.cons (i06 q.2.1 rfl h.2.1 rfl) h2)
def D8s (tl:TE):TI:=λZ H R=>tl Z H λx H1=>∃v a u,x= .ref v/\H1 v=some (C3l v a)/\H1 a=some u/\
 ((∃kvs,u= .dK kvs/\∀o,R (Iti a o u (kvs.map λq=>(kV q.1,q.2))) (upd H1 a (.frz o u)))\/∃kvs,u= .dT kvs/\∀o L,KL H1 kvs L->R (Iti a o u L) (upd H1 a (.frz o u)))
theorem C9t {l:Expr} {tl:TE} {kk:Nat} (hl:PE X l tl):PI X (.Tuple elts kk pos) l (D8s tl):=by
 intro pins s Z H R I h;refine thn (hl pins s Z H _ I h) ?_;rintro y s1 ⟨x,H1,I1,rx,v,a,u,ex,hv,ha,q⟩;subst ex;cases rx;obtain ⟨vw,_⟩:=(show A2u X.prog X.w H1 s1.heap v (C3l v a) from I1.hok v _ hv)
 have go:∀(o:Obj) (es:Array DictEntry) (ep:Nat) (L:List (V×V)),s1.heap.get? a=some o->o.data= .dict es ep->isD u->D9b es L->R (Iti a o u L) (upd H1 a (.frz o u))->
   wpAny (model X.prog X.w) X.A (pyIter (.ref v)) (PIE X pins Z (.Tuple elts kk pos) R) X.xe s1:=by
  intro o es ep L ho hd hu rl qq;refine C4g vw ho hd ?_;have I2:Inv X pins Z H1 { s1 with heap:=s1.heap.push { cls:= .type "dict_itemiterator",data:= .fields #[.none,.bool false,.ref a,.int 0 0,.int es.size 0,.int ep 0,.none,.none] },toks:=s1.toks }:=I1.kept λb ob e=>Z01 _ e
  have I3:=I2.frozenD ha hu (Z01 _ ho);refine i14 _ [s1.heap.objs.size] _ _ _ rfl I3 (C3x _ a o u L es ep hd rl) (i03 .none .none (Z0c _ rfl)) (λb hb=> ?_) qq;have e:b=s1.heap.objs.size:=by simpa using hb
  subst e;refine I1.fpOk (Z09 _) ?_;rw [A0k (Z1q (I1.hok.lt ha))];exact I1.hok.fresh (Z09 _)
 rcases q with ⟨kvs,rfl,q⟩ | ⟨kvs,rfl,q⟩
 ·obtain ⟨hz,hs,vs,rel,o,es,ep,ho,hx,hd,_,r,_⟩:=C6n I1.hok ha;exact go o es ep _ ho hd (.inl ⟨_,rfl⟩) (D5n rel r) (q o)
 ·obtain ⟨hz,hs,xs,rel,o,es,ep,ho,hx,hd,he,_⟩:=(show A2u X.prog X.w H1 s1.heap a (.dT kvs) from I1.hok a _ ha);obtain ⟨L,h1,h2⟩:=D1d (P:=X.prog) (w:=X.w) rel;exact go o es ep L ho hd (.inr ⟨_,rfl⟩) (by unfold D9b;rw [he];exact h1) (q o L h2)
theorem C8g {L:List (V×V)} {tb:TS} {D:C6p} (Pv:Nat->St->Hp->Prop) (h0:Pv 0 Z H) (hl:∀i Z H,Pv i Z H->H a=some (.frz o u))
  (hs:∀i k v p Z H,L[i]? =some (k,v)->H p=none->Pv i Z H->g (.ref p) Z (upd H p (.tup [k,v])) λZ2 H2=>tb { D with nx:=Pv (i+1),ct:=Pv (i+1),bk:=D.nx } Z2 H2) (hd:∀Z H,Pv L.length Z H->D.nx Z H) :
  ∃W:Nat->Nat->St->Hp->Prop,(∃m,W 0 m Z H)/\∀i m Z H,W i m Z H->
   ((Iti a o u L).stop i H/\D.nx Z H)\/((Iti a o u L).go i H/\∃N:St->Hp->Prop,(∀Z' H',N Z' H'->∃m',m'<m/\W (i+1) m' Z' H')/\∀x H',(Iti a o u L).yld i H x H'->g x Z H' λZ2 H2=>tb { D with nx:=N,ct:=N,bk:=D.nx } Z2 H2):=by
 refine i02 (λi m Z H=>m=L.length-i/\i<=L.length/\Pv i Z H) (i06 L.length (by simp) (Z1e _) h0) ?_;rintro i m Z H ⟨rfl,hi,p⟩;by_cases hlt:i<L.length
 ·refine .inr (i05 ⟨hl i Z H p,hlt⟩ (Pv (i+1)) (λZ' H' p'=>(i0c (L.length-(i+1)) (by lia) rfl hlt p')) λx H' y=> ?_);obtain ⟨k,v,q,e1,e2,rfl,rfl⟩:=y;exact hs i k v q Z _ e1 e2 p
 ·have e:i=L.length:=by lia
  subst e;exact .inl ⟨⟨hl _ Z H p,rfl⟩,hd Z H p⟩
end
section
variable {X:Cx}
def D7h (H:Hp):Prop:=(∀a kvs,H a=some (.dK kvs)->(kvs.map (·.1)).Nodup)/\∀a kvs,H a=some (.dT kvs)->(kvs.map (·.1)).Nodup
theorem D2z (r:KV kvs vs):kvs.map (·.1)=vs.map (·.1):=by
 unfold KV at r
 induction r with
 | nil=>rfl
 | cons h t ih=>rw [Z0p,Z0p,ih,h.1]
theorem D3g {kvs:List (List Key×V)} {xs:List (List Key×Addr×Value)} (r:KT H kvs xs):kvs.map (·.1)=xs.map (·.1):=by
 induction r with
 | nil=>rfl
 | cons h t ih=>rw [Z0p,Z0p,ih,h.1]
theorem Inv.apart (I:Inv X pins Z H s):D7h H:=by
 refine ⟨λa kvs e=> ?_,λa kvs e=> ?_⟩
 ·obtain ⟨_,_,vs,rel,o,es,ep,_,_,_,_,_,n⟩:=C6n I.hok e;rw [D2z rel];exact n
 ·obtain ⟨_,_,xs,rel,o,es,ep,_,_,_,_,n⟩:=(show A2u X.prog X.w H s.heap a (.dT kvs) from I.hok a _ e);rw [D3g rel];exact n
theorem D0m {t:TS} (h:PSs X sts t):PSs X sts (λD Z H=>D7h H->t D Z H):=λpins s Z H D I q=>h pins s Z H D I (q I.apart)
theorem B2b {κ:Type} [DecidableEq κ] {kvs:List (κ×V)} {k:κ} (n:(kvs.map (·.1)).Nodup) (h:kvs[i]? =some (k,v)) (ws:List (κ×V)) (e:ws.map (·.1)=(kvs.take i).map (·.1)) (u:V):A9y ws k u=ws++[(k,u)]:=by
 unfold A9y;rw [Z0t];intro a;obtain ⟨p,hp,ek⟩:=List.any_eq_true.mp a;have ek:p.1=k:=by simpa using ek
 have hm:k∈ws.map (·.1):=Z2c.mpr (i02 p hp ek);rw [e] at hm;obtain ⟨q,hq,eq⟩:=Z2c.mp hm;obtain ⟨j,hj,ej⟩:=List.mem_iff_getElem.mp hq;have hji:j<i:=by have:=List.length_take_le i kvs;lia
 rw [List.getElem_take] at ej;obtain ⟨hi,ei⟩:=Z03.mp h;have hjl:j<kvs.length:=by lia
 have h1:(kvs.map λx=>x.1)[j]? =some k:=by rw [Z1z,Z0b hjl,ej];exact congrArg some eq
 have h2:(kvs.map λx=>x.1)[i]? =some k:=by rw [Z1z,h];rfl
 obtain ⟨l1,e1⟩:=Z03.mp h1;obtain ⟨l2,e2⟩:=Z03.mp h2;have:j=i:=(List.getElem_inj n).mp (e1.trans e2.symm)
 lia
end
theorem C6s:typeLookup (.type "list") "keys"=pure none:=by rw [typeLookup_type,builtinLookup_eq_fast];kernel_rfl
theorem A5a:entryFor table "dict.update.loop"=some Builtin.«dict.update.loop»:=entryFor_of_tree (by kernel_rfl)
theorem A2m:plainId "dict.update.loop"=true:=by decide +kernel
theorem C5n {k:Nat}
  (hx:s.heap.get? a=some o) (hc:o.cls= .type "list") (hdat:o.data= .seq xs k) (hd:o.dict=none) (hA:A.handled=none)
  (h:∀h' tk,(∀b ob,s.heap.get? b=some ob->h'.get? b=some ob)->Q none { s with heap:=h',toks:=tk }):wpAny (model prog w) A (getAttr? (.ref a) "keys") Q E s:=by
 obtain ⟨c,dct,dat,sl⟩:=o;simp only at hc hdat hd;subst hc hdat hd;obtain ⟨hp,g,d,tk,os⟩:=s;have hT:∀tk',(⟨hp,g,d,tk',os⟩:Shared).TypeIs (.ref a) "list":=λ_=>(i02 _ hx rfl);have f1:=sub_AttributeError;have f3:=F.slot_list_getattribute.lookup;have f4:=F.slot_list_getattribute.bind (.ref a);have f5:=am_list_getattr_none;unfold getAttr? getAttrBy? getAttrBy
 repeat (any_goals (first | assumption | exact hT _ | ((with_reducible show wpAny _ _ (call (Value.builtin "list.__getattribute__") _ _) _ _ _);refine call_meets F.slot_list_getattribute (hT _) am_entry_list_getattribute (F.args_list_getattribute_2 _ _) (meets_getattribute_miss_list a xs k sl "keys" _ C6s (by decide) (by decide)) (i00 hx hA λh' tk' e hx'=> ?_)) | wp_step))
 obtain ⟨t',u',he⟩:=hx'.there;show wpAny _ _ (getattributeRaised _ _ _ _ _ _ _) _ _ _;unfold getattributeRaised
 repeat (any_goals (first | assumption | wp_step))
 all_goals exact h _ _ hx'.1
section
variable {prog:Program} {w:World} {K:Type} [DecidableEq K] {knd:KeyKind prog w K} {A:Around} {R:Result->Shared->Prop} {I l d:Addr} {items:Array Value} {rs:List (K×Value)} {h₀:Heap} {g:Array GenState} {dr:Drawn} {os:OsState}
def D4x (knd:KeyKind prog w K) (h:Heap) (I d:Addr) (items:Array Value) (rs:List (K×Value)):Prop:=items.size=rs.length/\∀(i:Nat) (v:Value) (k:K) (u:Value),items[i]? =some v->rs[i]? =some (k,u)->
 ∃(b:Addr) (o:Obj) (n:Nat) (kv:Value),v= .ref b/\b≠I/\b≠d/\h.get? b=some o/\o.cls= .type "tuple"/\o.data= .seq #[kv,u] n/\knd.is k kv=true
theorem C9o (hh:A.handled=none) (hne:l≠I) (hdI:d≠I) (hdl:d≠l) (hsz:rs.length<=sizeLine) (pa:D4x knd h₀ I d items rs) (hl:h₀.IsList l items)
  (fin:∀h' tk,h'.DictOf knd d (merged [] rs)->(∀b o,b≠I->b≠d->h₀.get? b=some o->h'.get? b=some o)->R (.ok (.ret .none)) ⟨h',g,dr,tk,os⟩) :
  ∀(k i:Nat) (h:Heap) (tk:Nat),rs.length-i=k->i<=rs.length->h.IsListIter I l i->(∀b o,b≠I->b≠d->h₀.get? b=some o->h.get? b=some o)->h.DictOf knd d (merged [] (rs.take i))->
   codeAny (model prog w) A (.builtin "dict.update.loop" ⟨[.ref d,.ref I,rawInt i,.none],[]⟩) R ⟨h,g,dr,tk,os⟩:=by
 have W:=Walks.list (prog:=prog) (w:=w) (A:=A.in1) hh I l hne items;intro k
 induction k with
 | zero =>
  intro i h tk hk hi hit kp hD;have hin:i=items.size:=by have:=pa.1;lia
  have hin':i=rs.length:=by lia
  refine codeAny_builtin A5a ?_;rw [Around.under_plainId A2m _];show wpAny _ A.in1 (pyNext (.ref I) >>= _) _ _ _;refine Z00 (W.done ⟨h,g,dr,tk,os⟩ _ _ (by rw [<-hin];exact ⟨hit,hl.at λo e=>kp l o hne (Ne.symm hdl) e⟩) λh' tk' kp'=> ?_);show wpAny _ A.in1 (Builtin.Dict.addKeywords d [] >>= λ_=>ret Value.none) _ _ _;rw [hin',Z18] at hD;obtain ⟨od,es,ep,ho,r⟩:=hD;refine Z00 (Z04 (Z04 (fin h' tk' (i0g od es ep (kp' d od (by simpa using hdI) ho) r) λb o h1 h2 e=>kp' b o (by simpa using h1) (kp b o h1 h2 e))))
 | succ k ih =>
  intro i h tk hk hi hit kp hD;have hlt:i<items.size:=by have:=pa.1;lia
  refine codeAny_builtin A5a ?_;rw [Around.under_plainId A2m _];show wpAny _ A.in1 (pyNext (.ref I) >>= _) _ _ _;refine Z00 (W.item i ⟨h,g,dr,tk,os⟩ _ _ hlt ⟨hit,hl.at λo e=>kp l o hne (Ne.symm hdl) e⟩ λv h' tk' hv hst' kp'=> ?_);obtain ⟨⟨k',u⟩,hku⟩:∃p,rs[i]? =some p:=⟨rs[i]'(by have:=pa.1;lia),Z0b _⟩;obtain ⟨b,o,n,kv,rfl,hbI,hbd,hb,hcl,hdat,his⟩:=pa.2 i v k' u hv hku;have hb':h'.get? b=some o:=kp' b o (by simpa using hbI) (kp b o hbI hbd hb);have hT:(⟨h',g,dr,tk',os⟩:Shared).TypeIs (.ref b) "tuple":=(i02 _ hb' hcl);show wpAny _ A.in1 (holding [Value.ref b] _ >>= _) _ _ _;refine Z00 (Z1w (Z00 (wpAny_tryCatch ?_)));unfold Builtin.Dict.pairItems;refine Z00 (wpAny_typeOf hT ?_);rw [Z12 (by decide)];refine Z00 (Z21 hb' hdat (Z04 ?_));show wpAny _ A.in1 (holding [kv,u] (dictSet d kv u)) _ _ _
  have hD':h'.DictOf knd d (merged [] (rs.take i)):=by
   obtain ⟨od,es,ep,ho,r⟩:=hD;exact i0g od es ep (kp' d od (by simpa using hdI) ho) r
  have hlen:(merged [] (rs.take i)).length<=sizeLine:=by
   have e1:=merged_length_le ([]:List (K×Value)) (rs.take i);have e2:(rs.take i).length<=rs.length:=by rw [Z0x];lia
   simp only [Z2g,Nat.zero_add] at e1
   lia
  refine Z1w (wpAny_dictSet_pairs (hsz:=hlen) (s:=⟨h',g,dr,tk',os⟩) his hD' λh2 hD2 sb=> ?_);rw [<-merged_take_succ [] rs i (k',u) hku] at hD2;refine Z04 ⟨plainId_quiet A2m _,ih (i+1) h2 _ (by lia) (by have:=pa.1;lia) ?_ ?_ hD2⟩
  ·exact hst'.1.at λo e=>(sb.2 I (Ne.symm hdI)).trans e
  ·intro c oc h1 h2' e;exact (sb.2 c h2').trans (kp' c oc (by simpa using h1) (kp c oc h1 h2' e))
end
def B3n (env:Env):List (Str×Addr)->Prop
 | []=>True
 | p::r=>env.cells.lookup p.1=some p.2/\B3n env r
theorem B3n.get {env:Env}:∀{cl:List (Str×Addr)},B3n env cl->∀{x:Str} {c:Addr},cl.lookup x=some c->env.cells.lookup x=some c
 | [],_,_,_,h=>by cases h
 | (y,d)::r,h,x,c,e=>by
  rw [Z28] at e;split at e
  ·rename_i hb;have hb':x=y:=by simpa using hb
   cases e
   subst hb';exact h.1
  ·exact B3n.get h.2 e
theorem A9x {x:Str}:∀{cl:List (Str×Addr)},x∈cl.map (·.1)->∃c,cl.lookup x=some c
 | [],h=>by cases h
 | (y,d)::r,h=>by
  rw [Z28]
  cases hb:(x == y) with
  | true=>exact ⟨d,rfl⟩
  | false =>
   have hne:x≠y:=by simpa using hb
   rcases Z0e.mp h with e | e
   ·exact absurd e hne
   ·exact A9x e
theorem B7u {xs:List Str} (he:closureFor scope X.env=pure cl) (hc:B3n X.env cl) (hx:cl.map (·.1)=xs) (hk:scope.kind= .function) (hn:∀y∈scope.names,y.2≠.cell/\(y.2= .free->y.1∈xs))
  (hl:∀y∈scope.names,y.2= .local->scope.names.lookup y.1=some .local):C8p X scope cl where
 eq:=he
 sub:=λy d h=>hc.get h
 has:=λy h=>by
  have key:y∈xs:=by
   have m:∃k,(y,k)∈(relabel scope X.env).names/\(k= .cell\/k= .free):=h.elim (λz=>(i02 _ (A6r z) (.inl rfl))) λz=>(i02 _ (A6r z) (.inr rfl));obtain ⟨k,hm,hk⟩:=m;obtain ⟨⟨n,k0⟩,h0,e⟩:=Z2c.mp hm;dsimp only at e;by_cases hf:k0= .free
   ·have en:n=y:=by
     split at e
     ·exact congrArg Prod.fst e
     ·exact congrArg Prod.fst e
    rw [<-en];exact (hn _ h0).2 hf
   ·have hb:(k0 == NameKind.free)=false:=by simpa using hf
    simp only [hb,Bool.false_and,Bool.false_eq_true,if_false] at e;have e2:k0=k:=congrArg Prod.snd e;subst e2;rcases hk with hk | hk
    ·exact absurd hk (hn _ h0).1
    ·exact absurd hk hf
  rw [<-hx] at key;exact A9x key
 kind:=hk
 ncell:=λy hy=>(hn y hy).1
 names:=hl
def B8v (X:Cx) (scope:Scope):List Str->List Nat->Prop
 | [],[]=>True
 | x::xs,j::js=>(X.N[j]? =some x/\(X.env.scope.names.lookup x=some .cell\/X.env.scope.names.lookup x=some .free)/\((relabel scope X.env).names.lookup x=some .cell\/(relabel scope X.env).names.lookup x=some .free))/\B8v X scope xs js
 | _,_=>False
theorem B8v.get {X:Cx} {scope:Scope}:∀{xs:List Str} {js:List Nat},B8v X scope xs js->xs.length=js.length/\∀(i j:Nat),js[i]? =some j->∃x,xs[i]? =some x/\X.N[j]? =some x/\(X.env.scope.names.lookup x=some .cell\/X.env.scope.names.lookup x=some .free)/\((relabel scope X.env).names.lookup x=some .cell\/(relabel scope X.env).names.lookup x=some .free)
 | [],[],_=>⟨rfl,λi j e=>by simp at e⟩
 | x::xs,j::js,h=>by
  obtain ⟨e,f⟩:=B8v.get h.2;refine ⟨by simp [e],λi k ek=> ?_⟩
  cases i with
  | zero=>simp at ek;subst ek;exact i02 x rfl h.1
  | succ i=>exact f i k (by simpa using ek)
 | [],_::_,h=>h.elim
 | _::_,[],h=>h.elim
theorem B7a {N0 xs:List Str} {js:List Nat} (h:B8v X scope xs js):C8r X (N0++xs) scope (List.replicate N0.length none++js.map some):=by
 obtain ⟨hl,hf⟩:=h.get;refine ⟨by simp [hl],λi k e=> ?_⟩;by_cases hi:i<N0.length
 ·rw [Z26 (by simpa using hi),List.getElem?_replicate] at e;split at e <;> cases e
 ·rw [Z1l (by simpa using hi),List.length_replicate,Z1z] at e;obtain ⟨j,ej,ek⟩:=Z0i.mp e;cases ek;obtain ⟨x,h1,h2,h3,h4⟩:=hf _ _ ej;exact i0c x (by rw [Z1l (by lia)];exact h1) h2 h3 h4
abbrev PL (H:Hp) (xs:List V) (kvs:List (Key×V)):Prop:=Paired (λ(x:V) (p:Key×V)=>∃b,x= .ref b/\H b=some (.tup [kV p.1,p.2])) xs kvs
section
variable {X:Cx}
theorem D1k {pins:List (Addr×Obj)} {Z:St} {H:Hp} {s:Shared} (I:Inv X pins Z H s):∀{xs:List V} {kvs:List (Key×V)} {its:List Value},PL H xs kvs->A3y xs its->
  ∃rs,KV kvs rs/\Paired (λ(v:Value) (p:Key×Value)=>∃(b:Addr) (o:Obj) (n:Nat) (kv:Value),v= .ref b/\s.heap.get? b=some o/\o.cls= .type "tuple"/\o.data= .seq #[kv,p.2] n/\(A2f X.prog X.w).is p.1 kv=true) its rs
 | _,_,_,.nil,.nil=>(i02 [] .nil .nil)
 | _,_,_,@Paired.cons _ _ _ x p _ _ ⟨b,e,hb⟩ t,.cons rv vs=>by
  obtain ⟨rs,h1,h2⟩:=D1k I t vs;subst e;cases rv;obtain ⟨_,its,r,o,g1,g2,n,g3⟩:=(show A2u X.prog X.w H s.heap b (.tup [kV p.1,p.2]) from I.hok b _ hb)
  cases r with
  | cons r1 r =>
   cases r with
   | cons r2 r =>
    cases r
    exact i02 ((p.1,_)::rs) (.cons ⟨rfl,r2⟩ h1) (.cons (i0y b o n _ rfl g1 g2 g3 (B8m r1)) h2)
theorem B4w (hc:X.calm=true):B0c X (.type "dict") (λvs H Q=>∃a xs kvs,vs=[V.ref a]/\H a=some (.lst xs)/\PL H xs kvs/\∀p,H p=none->Q (.ref p) (upd H p (.dK (A4h [] kvs)))):=by
 intro pins s Z H vs us Q I r h;obtain ⟨a,xs,kvs,rfl,ha,pl,q⟩:=h;obtain ⟨u,rfl,ru⟩:=B4i r;cases ru;obtain ⟨z,its,n,rv,hl,e⟩:=I.lstM ha;obtain ⟨rs,kv,rp⟩:=D1k I pl rv;have hh:X.A.handled=none:=I.ok.hd hc;have lk:kvs.length=xs.length:=(Paired.length pl).symm;have lr:rs.length=kvs.length:=kv.length.symm;have hn:=I.hok.fresh (Z09 s.heap.objs.size);refine callType_codes (Q₁:=λobj s₁=>obj= .ref s.heap.objs.size/\s₁={ s with heap:=s.heap.push { cls:= .type "dict",data:= .dict #[] } }) F.kt_called_dict (F.kt_typeCall_dict_1 _) F.entry_dict_init (kt_code_dict_new _ ⟨rfl,rfl⟩) ?_;rintro obj s₁ ⟨rfl,rfl⟩;have hnew:(s.heap.push { cls:= .type "dict",data:= .dict #[] }).DictOf (A2f X.prog X.w) s.heap.objs.size []:=Heap.DictOf.new s.heap;have e1:(s.heap.push { cls:= .type "dict",data:= .dict #[] }).get? a=some { cls:= .type "list",data:= .seq its.toArray n }:=Z01 _ e;have hTl:Shared.TypeIs { s with heap:=s.heap.push { cls:= .type "dict",data:= .dict #[] } } (.ref a) "list":=(i02 _ e1 rfl);refine i00 hnew.typeIs (F.args_dict_init_2 _ _) ?_;unfold Builtin.«dict.__init__»;refine Z00 ?_;unfold Builtin.Dict.selfAndRest;refine Z00 (wpAny_notOrdered_dict hnew.typeIs ?_);show wpAny _ _ (pure (s.heap.objs.size,[Value.ref a])) _ _ _;refine Z04 ?_;show wpAny _ _ (Builtin.Dict.updateFrom "dict.__init__" s.heap.objs.size (.ref a) [] .none) _ _ _;unfold Builtin.Dict.updateFrom;refine Z00 (wpAny_typeOf hTl ?_);rw [Z12 (by decide)];refine Z00 (C5n (o:={ cls:= .type "list",data:= .seq its.toArray n }) e1 rfl rfl rfl (by simpa using hh) λh1 tk1 kp1=> ?_)
 rw [Z12 (show (none:Option Value).isNone=true from rfl)];refine Z00 (wpAny_rule ?_);have hl1:h1.IsList a its.toArray:=(i0d _ (kp1 _ _ e1) rfl n rfl);refine Z00 (wpAny_pyIter_list (s:={ s with heap:=h1,toks:=tk1 }) hl1 ?_);have la:a<h1.objs.size:=Z0a (kp1 _ _ e1);have ld:s.heap.objs.size<h1.objs.size:=let ⟨_,_,_,g,_⟩:=hnew;Z0a (kp1 _ _ g);have las:a<s.heap.objs.size:=Z0a e;refine Z04 ⟨plainId_quiet A2m _,C9o (knd:=A2f X.prog X.w) (rs:=rs) (l:=a) (items:=its.toArray) (h₀:=h1.push { cls:= .type "list_iterator",data:= .fields #[.ref a,.int 0 0] }) (by simpa using hh) (Z0h la) (Z0h ld) (Z1q las) (by lia) ?_ (hl1.push _) ?_ rs.length 0 _ _ (by lia) (Z1e _) (i06 _ (Z0c _ rfl) rfl rfl) (λ_ _ _ _ z=>z) ?_⟩
 ·refine ⟨by simp;lia,λi v k u hv hku=> ?_⟩;obtain ⟨x,hx,b,o,m,kv,ev,g1,g2,g3,g4⟩:=A6s rp hku
  have ex:x=v:=by
   have hv:its[i]? =some v:=by simpa using hv
   rw [hx] at hv;exact Z1a hv
  subst ex;have lb:=Z0a g1;exact i11 b o m kv ev (Z0h (Nat.lt_trans lb ld)) (Z0h lb) (Z01 _ (kp1 _ _ (Z01 _ g1))) g2 ⟨g3,g4⟩
 ·intro h' tk dd kp;refine i0i rfl (.ref s.heap.objs.size) _ (I.laid (t':=tk) (o:= .dK (A4h [] kvs)) (λb u eb=>kp b u (Z0h (Nat.lt_trans (Z0a eb) ld)) (Z0h (Z0a eb)) (Z01 _ (kp1 _ _ (Z01 _ eb)))) (Z09 _) (i0a ?_ ?_ _ (KV.merge kv .nil) dd)) rfl (q _ hn)
  ·have:=A7j kvs [];simp only [Z2g] at this
   lia
  ·have:=I.big;have hne:s.heap.objs.size≠sysModules:=Z1q this
   simpa using hne
 ·obtain ⟨od,es,ep,g,r⟩:=hnew;exact i0g od es ep (Z01 _ (kp1 _ _ g)) r
end
section
variable {D:Addr} {g:TG} {te:TE} {QD:Hp->Prop} {Z₀:St} {H:Hp}
theorem B3j {J:It} (n:Nat) (Pv:Nat->List V->Hp->Prop) (h0:Pv 0 [] (upd H D (.lst []))) (hgo:∀i ys H,i<n->Pv i ys H->J.go i H) (hst:∀ys H,Pv n ys H->J.stop n H)
  (hs:∀i ys H,i<n->Pv i ys H->∀x H3,J.yld i H x H3->g x Z₀ H3 λZ4 H4=>A3e Z₀ Z4/\te Z4 H4 λy H5=>H5 D=some (.lst ys)/\ys.length<sizeLine/\Pv (i+1) (ys++[y]) (upd H5 D (.lst (ys++[y])))) (hd:∀ys H,Pv n ys H->QD H) :
  ∃W:Nat->Nat->Hp->Prop,(∃m,W 0 m (upd H D (.lst [])))/\∀i m H2,W i m H2->
   (J.stop i H2/\QD H2)\/(J.go i H2/\∃N:VK,(∀y H5,N y H5->∃xs,H5 D=some (.lst xs)/\xs.length<sizeLine/\∃m',m'<m/\W (i+1) m' (upd H5 D (.lst (xs++[y]))))/\
    ∀x H3,J.yld i H2 x H3->g x Z₀ H3 λZ4 H4=>A3e Z₀ Z4/\te Z4 H4 N):=by
 refine i02 (λi m H=>m=n-i/\i<=n/\∃ys,Pv i ys H) (i0d n (by simp) (Z1e _) [] h0) ?_;rintro i m H2 ⟨rfl,hi,ys,p⟩;by_cases hlt:i<n
 ·exact .inr (i05 (hgo i ys H2 hlt p) (λy H5=>H5 D=some (.lst ys)/\ys.length<sizeLine/\Pv (i+1) (ys++[y]) (upd H5 D (.lst (ys++[y])))) (λy H5 z=>(i0v ys z.1 z.2.1 (n-(i+1)) (by lia) rfl hlt _ z.2.2)) λx H3 z=>hs i ys H2 hlt p x H3 z)
 ·have e:i=n:=by lia
  subst e;exact .inl ⟨hst ys H2 p,hd ys H2 p⟩
end
theorem C9j (h:X.K=K):IxR X (E0w K):=h▸A1p
theorem C5v {U:String} (h:mroIn K C (.type U)=some b) (hm:PySem.W.kitMeta U=true):∀u,A3i (.ty U) u->kitOne K (.ref C) u=some b:=by
 intro u z;cases (show u=Value.type U from z);unfold kitOne;rw [Z0t (show¬(Value.ref C == Value.type U)=true from Z0v)];show (if PySem.W.kitMeta U=true then subIn K (.ref C) (.type U) else none)=some b;rw [Z12 hm];exact h
theorem A3h.or {base:Heap} {CX:CXT} {k:Nat} {sp sp':Sp} (F:A3h P w K mg base CX k f fd ps sp) (F':A3h P w K mg base CX k f fd ps sp') :
  A3h P w K mg base CX k f fd ps (λvs H Q E=>sp vs H Q E\/sp' vs H Q E) :=
 ⟨λvs H Q E q=>q.elim (F.len vs H Q E) (F'.len vs H Q E),λA outer s H args us vs Q E hr he hb hv q=>q.elim (F.run A outer s H args us vs Q E hr he hb hv) (F'.run A outer s H args us vs Q E hr he hb hv)⟩
theorem C0m (acc ws:List (Key×V)) (w:Key×V):A4h acc (ws++[w])=A9y (A4h acc ws) w.1 w.2:=by unfold A4h;rw [List.foldl_append];rfl
section
variable {X:Cx}
theorem C2b {tg:Expr} (hN₀:X.N.Nodup) (hi₀:X.N[i₀]? =some x₀) (hx₀:Loc X.env.scope x₀) (hc:X.calm=true) (ck:C8p X scope cl) (io:C8r X N' scope ix) (hi:PI X tg iter wi)
  (hg:∀C s₀ H₀ fp,PG (blk X N' scope cl C s₀ H₀ fp) tg g) (ht:∀C s₀ H₀ fp,PTs (blk X N' scope cl C s₀ H₀ fp) cs tc) (he:∀C s₀ H₀ fp,PE (blk X N' scope cl C s₀ H₀ fp) elt te) (R:C6p->St->It->Hp->Prop) (hR:∀D Z J H1,R D Z J H1->∀D2,H1 D2=none->∃W:Nat->Nat->Hp->Prop,(∃m,W 0 m (upd H1 D2 (.lst [])))/\∀i m H2,W i m H2->
   (J.stop i H2/\D.nx (Z.set i₀ (some (.ref D2))) H2)\/(J.go i H2/\∃(N:VK) (M:Hp->Prop),(∀y H5,N y H5->∃xs,H5 D2=some (.lst xs)/\xs.length<sizeLine/\∃m',m'<m/\W (i+1) m' (upd H5 D2 (.lst (xs++[y]))))/\(∀H5,M H5->∃m',m'<m/\W (i+1) m' H5)/\∀x H3,J.yld i H2 x H3->g x (A6o ix Z) H3 λZ4 H4=>A3e (A6o ix Z) Z4/\tc Z4 H4 λb H5=>if b=true then te Z4 H5 N else M H5)) (hs:∀x,foldedSetIterable iter X.env x=pure x:=by intro _;rfl)
  (hsw:swapsWith (.ListComp elt [⟨tg,iter,cs,0⟩] scope pos) (some (.Name x₀ pos₀)) spos.line X.env=pure true:=by rfl) (hf₀:X.fn x₀=true\/X.env.scope.names.lookup x₀=some .local:=by first | exact .inl rfl | exact .inr rfl | assumption) :
  PS X (.Assign [.Name x₀ pos₀] (.ListComp elt [⟨tg,iter,cs,0⟩] scope pos) spos) (λD Z H=>wi Z H (R D Z)):=by
 intro pins s Z H D₀ I h;rw [exec_Assign_Name_used _ _ _ _ hsw];refine Z00 (Z1y (Z00 ?_));show wpAny _ X.A (do let _<-comprehension (.ListComp elt [⟨tg,iter,cs,0⟩] scope pos) scope X.env _ (newList []) false (eval iter X.env) (some (assign (.Name x₀ pos₀) X.env))) _ _ s;refine Z00 (Z10 (wpAny_comprehension_free (use:=some (assign (.Name x₀ pos₀) X.env)) (Q:=λ_ s'=>∃Z' H',Inv X pins Z' H' s'/\D₀.nx Z' H') rfl hs ck.eq ck.kind ck.names (thn (hi pins s Z H _ I h) λxv s1 h1=>thn h1 λitv s2 h2=> ?_)) (λ_ s' hq=>Z04 (Z04 hq)) λ_ _ e=>e);obtain ⟨it,fp,tn,J,H1,rfl,I1,T,st1,f1,R1⟩:=h2;refine Z16 ?_;have hD:H1 s2.heap.objs.size=none:=I1.hok.fresh (Z09 _);obtain ⟨W,⟨m0,w0⟩,turn⟩:=hR _ _ _ _ R1 _ hD;have hfD:∀b∈fp,b<s2.heap.objs.size:=λb hb=>let ⟨o,e,_⟩:=T.obj _ _ st1 b hb;Z0a e;have I2:Inv X pins Z (upd H1 s2.heap.objs.size (.lst [])) { s2 with heap:=s2.heap.push { cls:= .type "list",data:= .seq ([]:List Value).toArray },toks:=s2.toks }:=I1.lnew (its:=[]) .nil (Z1e _);have f2:∀b∈fp,C0f X pins (upd H1 s2.heap.objs.size (.lst [])) b:=λb hb=>⟨by rw [A0k (Z0h (hfD b hb))];exact (f1 b hb).1,(f1 b hb).2⟩
 have lt2:∀b∈fp,b<(s2.heap.push { cls:= .type "list",data:= .seq ([]:List Value).toArray }).objs.size:=λb hb=>by rw [Z1s];exact Nat.lt_succ_of_lt (hfD b hb)
 refine wpAny_newFunctionEnv ck.ncell (by intro y hy;simp at hy) (λh3 hns sb3=> ?_) ck.kind;dsimp only at hns sb3⊢;have k3:∀b o,(s2.heap.push { cls:= .type "list",data:= .seq ([]:List Value).toArray }).get? b=some o->h3.get? b=some o:=λb o e=>(sb3.2 b (Z0h (Z0a e))).trans (Z01 _ e);generalize hs2:({ s2 with heap:=s2.heap.push { cls:= .type "list",data:= .seq ([]:List Value).toArray },toks:=s2.toks }:Shared)=s3 at I2;have e3:s2.heap.push { cls:= .type "list",data:= .seq ([]:List Value).toArray }=s3.heap:=by rw [<-hs2]
 rw [e3] at hns k3 lt2;have I3:=B8c (N':=N') (ix:=ix) I2 ck io f2 lt2 (h':=h3) (t':=s2.toks+([]:List (Str×Value)).length) hns k3;have e4:({ s3 with heap:=h3,toks:=s2.toks+([]:List (Str×Value)).length }:Shared)={ s2 with heap:=h3,toks:=s2.toks+([]:List (Str×Value)).length }:=by rw [<-hs2]
 rw [e4] at I3;have st3:tn 0 h3:=T.keep _ _ _ st1 λb hb o e=>k3 b o (by rw [<-e3];exact Z01 _ e)
 have loop:∀s4:Shared,s4={ s2 with heap:=h3,toks:=s2.toks+([]:List (Str×Value)).length }->
   codeAny (model X.prog X.w) X.A (.compLoop (.ListComp elt [⟨tg,iter,cs,0⟩] scope pos) 0 (.ref it) (.ref s2.heap.objs.size) (compEnvC scope cl s3.heap.objs.size X.env))
    (compPost (model X.prog X.w) X.A X.xe (some (assign (.Name x₀ pos₀) X.env)) (λ_ s'=>∃Z' H',Inv X pins Z' H' s'/\D₀.nx Z' H') (.ref s2.heap.objs.size) s3.heap.objs.size) s4:=by
  rintro s4 rfl
  have stat:∀{H':Hp},(∀b∈fp,H' b=none)->∀b∈fp,C0f (blk X N' scope cl s3.heap.objs.size s3 (upd H1 s2.heap.objs.size (.lst [])) fp) [] H' b:=λhn b hb =>
   (i0h (hn b hb) (Z0h (lt2 b hb)) (λhs=>I3.ok.exfs b hb hs) (.inl hb) (λx c e=>(f2 b hb).2.2.2.2.1 x c (ck.sub x c e)) (λp hp=>by cases hp))
  refine codeAny_loop rfl (λn s'=>∃i Z' H',Inv (blk X N' scope cl s3.heap.objs.size s3 (upd H1 s2.heap.objs.size (.lst [])) fp) [] Z' H' s'/\(∀(j:Nat) v,(A6o ix Z)[j]? =some (some v)->Z'[j]? =some (some v))/\tn i s'.heap/\(∀b∈fp,H' b=none)/\W i n H')
   (λn s' hI=> ?_) m0 (i0t 0 _ _ I3 (λ_ _ z=>z) st3 (λb hb=>(f2 b hb).1) w0)
  obtain ⟨i,Z5,H5,I5,wk,st5,fr5,w5⟩:=hI;show wpAny _ _ ((compTurn (.ListComp elt [⟨tg,iter,cs,0⟩] scope pos) 0 (.ref it) (.ref s2.heap.objs.size) (compEnvC scope cl s3.heap.objs.size X.env)).onRaise (λx=>do noteFrame x (compEnvC scope cl s3.heap.objs.size X.env);theTreesLotGoes x)) _ _ s';refine wpAny_noted ?_;rw [compTurn_list];refine Z00 (Z1y ?_);rcases turn i n H5 w5 with ⟨stop,qn⟩ | ⟨go,NN,MM,hNN,hMM,step⟩
  ·refine Z00 (Z10 (T.done (blk X N' scope cl s3.heap.objs.size s3 (upd H1 s2.heap.objs.size (.lst [])) fp) rfl rfl rfl hc i [] s' Z5 H5 (λ_ _=>False) I5 (stat fr5) st5 stop) (λr s6 h6=> ?_) λ_ _ z=>z.elim);obtain ⟨rfl,I6⟩:=h6;refine Z04 ?_;obtain ⟨mm,hm,_⟩:=id I6.loc;have fC:C0f X pins H5 s3.heap.objs.size:=I2.fpOk (Z09 _) I6.free;have Io:Inv X pins Z H5 s6:=C5l I2 f2 I6 (Heap.SameBut.refl _ _);show wpAny _ X.A (assign (.Name x₀ pos₀) X.env (.ref s2.heap.objs.size)) _ _ s6;refine wpAny_assign_Name (B7c Io hN₀ hi₀ hx₀ (v:= .ref s2.heap.objs.size) rfl (λs7 I7 sb7=> ?_) hf₀);obtain ⟨a,sb,ha⟩:=sb7
   have ca:s3.heap.objs.size≠a:=by
    rcases ha with ha | ha
    ·rw [ha];exact fC.2.1
    ·exact λz=>fC.2.2.2.2.1 _ _ ha z.symm
   obtain ⟨oC,es,ep,ho,r⟩:=hm;exact i02 mm (i0g oC es ep ((sb.2 _ ca).trans ho) r) λh' sb'=>(i07 _ H5 (I7.turned (t':=s7.toks) (λb o hb e=>(sb'.2 b hb).trans e) fC.1 fC.2.1 fC.2.2.2.1 fC.2.2.2.2.1 fC.2.2.2.2.2) qn)
  ·refine Z00 (Z10 (T.item (blk X N' scope cl s3.heap.objs.size s3 (upd H1 s2.heap.objs.size (.lst [])) fp) rfl rfl rfl hc i [] s' Z5 H5 (λ_ _=>False) I5 (stat fr5) st5 go) (λr s6 h6=> ?_) λ_ _ z=>z.elim);obtain ⟨u,rfl,h6⟩:=h6;refine Z00 (Z10 h6 (λ_ s7 h7=> ?_) λ_ _ z=>z.elim);obtain ⟨x,H7,I7,r7,y7,st7,fr7⟩:=h7;have I7w:Inv (blk X N' scope cl s3.heap.objs.size s3 (upd H1 s2.heap.objs.size (.lst [])) fp) [] (A6o ix Z) H7 s7:=I7.weak (by rw [I7.len];unfold A6o;rw [Z08];exact io.1) wk;have I7p:=I7w.pinned (stat fr7) (T.obj _ _ st7);refine Z00 (Z10 (hg _ _ _ _ _ s7 _ H7 x u _ I7p r7 (step x H7 y7)) (λ_ s8 h8=> ?_) λ_ _ z=>z.elim);obtain ⟨Z8,H8,I8,kp8,q8⟩:=h8
   have back:∀{s10:Shared} {Z10:St} {H10:Hp} {m':Nat},Inv (blk X N' scope cl s3.heap.objs.size s3 (upd H1 s2.heap.objs.size (.lst [])) fp) ([]++B4u fp s7.heap) Z10 H10 s10->(∀(j:Nat) v,(A6o ix Z)[j]? =some (some v)->Z10[j]? =some (some v))->W (i+1) m' H10->
     ∃i Z' H',Inv (blk X N' scope cl s3.heap.objs.size s3 (upd H1 s2.heap.objs.size (.lst [])) fp) [] Z' H' s10/\(∀(j:Nat) v,(A6o ix Z)[j]? =some (some v)->Z'[j]? =some (some v))/\tn i s10.heap/\(∀b∈fp,H' b=none)/\W i m' H':=by
    intro s10 Z10 H10 m' I10 kk w10;refine i0t (i+1) Z10 H10 I10.unpinned kk (T.keep _ _ _ st7 λb hb o e=>(I10.pin (b,o) (Z02 _ (Z02 _ (A5n hb e)))).1) (λb hb=> ?_) w10;obtain ⟨o,e,d⟩:=T.obj _ _ st7 b hb;exact (I10.pin (b,o) (Z02 _ (Z02 _ (A5n hb e)))).2.1
   refine Z00 (Z10 (ht _ _ _ _ _ s8 Z8 H8 _ I8 q8) (λok s9' h9'=> ?_) λ_ _ z=>z.elim);obtain ⟨H9',I9',q9'⟩:=h9'
   cases ok with
   | false =>
    have q9'':MM H9':=by simpa using q9'
    obtain ⟨m',hm',w9⟩:=hMM _ q9'';exact Z00 (Z04 (Z04 (i05 rfl m' hm' (back I9' kp8.get w9))))
   | true =>
    have q9'':te Z8 H9' NN:=by simpa using q9'
    refine Z00 (Z00 (Z10 (he _ _ _ _ _ s9' Z8 H9' _ I9' q9'') (λyv s9 h9=> ?_) λ_ _ z=>z.elim));obtain ⟨y,H9,I9,r9,n9⟩:=h9;obtain ⟨xs,hx9,hz9,m',hm',w9⟩:=hNN _ _ n9;refine Z00 (Z10 (A2l (X:=blk X N' scope cl s3.heap.objs.size s3 (upd H1 s2.heap.objs.size (.lst [])) fp) _ s9 Z8 H9 (.ref s2.heap.objs.size) [y] (.ref s2.heap.objs.size) [yv] (λ_ H'=>W (i+1) m' H') I9 rfl (.cons r9 .nil) (i0t _ xs y rfl rfl hx9 hz9 w9)) (λ_ s10 h10=> ?_) λ_ _ z=>z.elim);obtain ⟨_,H10,I10,_,w10⟩:=h10;exact Z04 (Z04 (i05 rfl m' hm' (back I10 kp8.get w10)))
 have e5:s3.heap.objs.size=(s2.heap.push { cls:= .type "list",data:= .seq ([]:List Value).toArray }).objs.size:=by rw [e3]
 rw [e5] at loop;exact codeAny_compStart_list (loop _ rfl) (T.self X.A 0 _ _ _ st3 (loop _ rfl))
theorem B5m {tg:Expr} (hN₀:X.N.Nodup) (hi₀:X.N[i₀]? =some x₀) (hx₀:Loc X.env.scope x₀) (hc:X.calm=true) (ck:C8p X scope cl) (io:C8r X N' scope ix) (hi:PI X tg iter wi)
  (hg:∀C s₀ H₀ fp,PG (blk X N' scope cl C s₀ H₀ fp) tg g) (he:∀C s₀ H₀ fp,PE (blk X N' scope cl C s₀ H₀ fp) elt te) (hs:∀x,foldedSetIterable iter X.env x=pure x:=by intro _;rfl)
  (hsw:swapsWith (.ListComp elt [⟨tg,iter,[],0⟩] scope pos) (some (.Name x₀ pos₀)) spos.line X.env=pure true:=by rfl) (hf₀:X.fn x₀=true\/X.env.scope.names.lookup x₀=some .local:=by first | exact .inl rfl | exact .inr rfl | assumption) :
  PS X (.Assign [.Name x₀ pos₀] (.ListComp elt [⟨tg,iter,[],0⟩] scope pos) spos) (D9a (D5o ix wi g te) (A6x i₀)) :=
 C2b (tc:=λ_ H Q=>Q true H) hN₀ hi₀ hx₀ hc ck io hi hg (λ_ _ _ _ _ _ _ _ _ I h=>wpAny_tests_nil (i02 _ I h)) he _ (λ_ _ _ _ R D2 hD=>by
  obtain ⟨W,w0,turn⟩:=R D2 hD;refine i02 W w0 λi m H2 w=>(turn i m H2 w).imp id λ⟨go,N,hN,step⟩=>(i0i go N (λ_=>False) hN (λ_ z=>z.elim) ?_)
  simpa using step) hs hsw hf₀
theorem B7o {tg c:Expr} (hN₀:X.N.Nodup) (hi₀:X.N[i₀]? =some x₀) (hx₀:Loc X.env.scope x₀) (hc:X.calm=true) (ck:C8p X scope cl) (io:C8r X N' scope ix) (hi:PI X tg iter wi)
  (hg:∀C s₀ H₀ fp,PG (blk X N' scope cl C s₀ H₀ fp) tg g) (ht:∀C s₀ H₀ fp,PT (blk X N' scope cl C s₀ H₀ fp) c tc) (he:∀C s₀ H₀ fp,PE (blk X N' scope cl C s₀ H₀ fp) elt te) (hs:∀x,foldedSetIterable iter X.env x=pure x:=by intro _;rfl)
  (hsw:swapsWith (.ListComp elt [⟨tg,iter,[c],0⟩] scope pos) (some (.Name x₀ pos₀)) spos.line X.env=pure true:=by rfl) (hf₀:X.fn x₀=true\/X.env.scope.names.lookup x₀=some .local:=by first | exact .inl rfl | exact .inr rfl | assumption) :
  PS X (.Assign [.Name x₀ pos₀] (.ListComp elt [⟨tg,iter,[c],0⟩] scope pos) spos) (D9a (C8k ix wi g tc te) (A6x i₀)) :=
 C2b hN₀ hi₀ hx₀ hc ck io hi hg (λC s₀ H₀ fp pins s Z H Q I h=>wpAny_tests_one (ht C s₀ H₀ fp pins s Z H Q I h)) he _ (λ_ _ _ _ R=>R) hs hsw hf₀
end
theorem A9t (h:X.K=K):B0c X (.type "list") (λxs H Q=>∃p ys,xs=[.ref p]/\(SqL K H p ys\/SqT K H p ys)/\∀l,H l=none->Q (.ref l) (upd H l (.lst ys))):=h▸A5b
section
variable {X:Cx}
theorem C3t (hc:X.calm=true):B0c X (.type "list") (λvs H Q=>∃a kvs,vs=[V.ref a]/\H a=some (.dK kvs)/\∀l,H l=none->Q (.ref l) (upd H l (.lst (kvs.map λp=>kV p.1)))):=by
 intro pins s Z H vs us Q I r h;obtain ⟨a,kvs,rfl,ha,q⟩:=h;obtain ⟨u,rfl,ru⟩:=B4i r;cases ru;obtain ⟨hz,hs,ws,rel,o,es,ep,ho,hx,hd,rr⟩:=C6n I.hok ha;have dd:s.heap.DictAt (A2f X.prog X.w) a ws ep:=(i0l o es ho hx hd rr);have ll:=rel.length;refine PySem.W.kdl_call (PySem.W.kdl_dict hs) (I.ok.hd hc) dd (by rw [<-ll];exact hz) λh' tk acc c kp hD hacc=> ?_
 have rv:A3y (kvs.map λp=>kV p.1) acc.toList:=B2u (by rw [Z08,ll];exact hacc.1.symm) λi x y hx hy=>by
  rw [Z1z] at hx;obtain ⟨⟨k,v⟩,hkv,rfl⟩:=Z0i.mp hx;obtain ⟨k',v',e1,e2⟩:=hacc.2 i y (by rw [<-Array.getElem?_toList];exact hy);obtain ⟨u,e3,_⟩:=rel.at hkv;rw [e3] at e1;cases e1;exact D3d e2
 exact i0f (.ref s.heap.objs.size) _ (I.laid (t':=tk) kp (Z09 _) (show A2u X.prog X.w _ h' _ (.lst _) from (i0b (by rw [Z08];exact hz) acc.toList c rv (by simpa using hD)))) rfl (q _ (I.hok.fresh (Z09 _)))
end
def D8o (K:Frag):List V->Hp->VK->Prop:=λxs H Q=>∃a C dx fs tp cs b,xs=[.ref a,.ref tp]/\H a=some (.ins C dx fs)/\Cls K C/\findIn K (.ref C) "__class__"=some (some (.builtin "object.__class__"))/\
 specialIn K (.builtin "object.__class__") "__get__"=some (some (.builtin "getset_descriptor.__get__"))/\takesIn K (.builtin "object.__class__")=some true/\mroIn K C (.type "object")=some true/\
 H tp=some (.tup cs)/\(∀us,A3y cs us->kitAny K (.ref C) us=some b)/\Q (.bl b) H
theorem B0o:B0c X (.builtin "isinstance") (D8o X.K):=by
 intro pins s Z H xs us Q I r h;refine e09 h ?_;clear h;rintro a C dx fs tp ⟨cs,b,rfl,ea,cl,ha,hn,htk,hm,ht,k,q⟩;obtain ⟨u,w',rfl,ru,rw'⟩:=C6v r;cases ru;cases rw';obtain ⟨_,its,rv,ob,hob,hc,n,hd⟩:=(show A2u X.prog X.w H s.heap tp (.tup cs) from I.hok tp _ ht);obtain ⟨oc,od,oda,osl⟩:=ob;dsimp only at hc hd;subst hc hd;obtain ⟨mA,O,_⟩:=B3o I.hok ea;obtain ⟨od2,J,_⟩:=O.look;exact PySem.W.kia_tup (PySem.W.kitx_own (cl.get _) cl.hd ha hn htk hm) I.kIn J hob (k its rv) (λz=>nomatch z) λtk=>(i0f (.bl b) H (I.tok tk) rfl q)
abbrev B2o (h:Heap) (z TI TO:Addr) (f0:Value) (b:Bool):Prop :=
 h.get? z=some { cls:= .type "zip",dict:=none,data:= .fields #[f0,.bool b,.bool false,.ref TI,.ref TO],slots:= #[] }
section
variable {prog:Program} {w:World} {A:Around} {E:Value->Shared->Prop} {s:Shared}
theorem B9v {Q:Option Obj->Shared->Prop} (h:Q (s.heap.get? a) s):wpAny (model prog w) A (loadIfAlive a) Q E s:=λΓ p _=>by
 show PySem.Sem.wp _ Γ (.loadIfAlive a .pure) _ _ p s;rw [PySem.Sem.wp];exact h
theorem B3c {z TI TO:Addr} {Q:Bool->Shared->Prop} (hz:B2o s.heap z TI TO (rawInt (p:Int)) b) (hp:s.heap.get? p=some o)
  (q:∀h',B2o h' z TI TO (rawInt (p:Int)) true->Heap.SameBut z s.heap h'->Q false { s with heap:=h' }):wpAny (model prog w) A (Builtin.SmallTypes.ownedTupleIsFree (.ref z)) Q E s:=by
 unfold Builtin.SmallTypes.ownedTupleIsFree;refine Z00 (Z11 hz rfl (x:=rawInt (p:Int)) rfl ?_);show wpAny _ _ (loadIfAlive (Int.toNat (p:Int)) >>= _) _ _ _;refine Z00 (B9v ?_);rw [Int.toNat_natCast,hp];show wpAny _ _ (field (.ref z) 1 >>= _) _ _ _;refine Z00 (Z11 hz rfl (x:= .bool b) rfl ?_)
 cases b with
 | true =>
  show wpAny _ _ (pure false) _ _ _;exact Z04 (q s.heap hz ⟨rfl,λ_ _=>rfl⟩)
 | false =>
  show wpAny _ _ (setField (.ref z) 1 (.bool true) >>= _) _ _ _;refine Z00 (Z1h hz (by simp) λg1 z1 b1=> ?_);exact Z04 (q g1 z1 b1)
end
section
variable {z TI TO i1 i2 l1 l2:Addr} {st1 st2:Nat->Heap->Prop} {src1 src2:Array Value->Heap->Prop} {prog:Program} {w:World} {A:Around} {E:Value->Shared->Prop} {s:Shared}
theorem C8z (N1:Nx i1 l1 st1 src1) (N2:Nx i2 l2 st2 src2) {x:Value} (D:ZipApart z TI TO i1 i2 l1 l2)
  (hz:B2o s.heap z TI TO (rawInt (p:Int)) b) (hp:s.heap.get? p=some o) (hTI:IsPair s.heap TI (.ref i1) (.ref i2)) (h1:st1 k1 s.heap) (h2:st2 k2 s.heap) (hl1:src1 xs s.heap) (hl2:src2 ys s.heap) (hx:xs[k1]? =some x) (hy:ys[k2]? =some y)
  (hQ:∀h',B2o h' z TI TO (rawInt (p:Int)) true->st1 (k1+1) h'->st2 (k2+1) h'->IsPair h' s.heap.objs.size x y->
   (∀c o,c≠z->c≠i1->c≠i2->s.heap.get? c=some o->h'.get? c=some o)->Q (some (.ref s.heap.objs.size)) { s with heap:=h' }):wpAny (model prog w) A (pyNext (.ref z)) Q E s:=by
 have hT:s.TypeIs (.ref z) "zip":=(i02 _ hz rfl);unfold pyNext;refine Z00 (wpAny_attempt (Z1b (name:=Str.ofString "__next__") hT F.slot_zip_next (Z1g F.slot_zip_next hT F.entry_zip_next ?_ (F.args_zip_next_1 _))));show wpAny _ _ (field (.ref z) 2 >>= _) _ _ _;refine Z00 (Z11 hz rfl (x:= .bool false) rfl ?_);show wpAny _ _ (field (.ref z) 3 >>= _) _ _ _;refine Z00 (Z11 hz rfl (x:= .ref TI) rfl ?_);refine Z00 (Z21 hTI rfl ?_);show wpAny _ _ (Builtin.SmallTypes.ownedTupleIsFree (.ref z) >>= _) _ _ _;refine Z00 (B3c hz hp λg1 z1 b1=> ?_);simp only [Bool.false_eq_true,if_false];refine Z00 ?_;simp only [<-Array.forIn_toList,List.forIn_cons,List.forIn_nil];refine Z00 (Z00 (Z1w ?_));show wpAny _ _ (Builtin.SmallTypes.nextOf (.ref i1) >>= _) _ _ _;refine Z00 (N1.item (N1.mv h1 λo e=>b1.extBut _ _ D.i1z e) (N1.mvS hl1 λo e=>b1.extBut _ _ D.l1z e) hx λg2 t2 b2=>Z04 (Z04 ?_));refine Z00 (Z00 (Z1w ?_));show wpAny _ _ (Builtin.SmallTypes.nextOf (.ref i2) >>= _) _ _ _;refine Z00 (N2.item (N2.mv h2 λo e=>b2.extBut _ _ D.i12.symm (b1.extBut _ _ D.i2z e)) (N2.mvS hl2 λo e=>b2.extBut _ _ D.l2i1 (b1.extBut _ _ D.l2z e)) hy λg3 t3 b3=>Z04 (Z04 (Z04 ?_)));have hsz:g3.objs.size=s.heap.objs.size:=by rw [b3.1,b2.1,b1.1]
 have zlt:z<g3.objs.size:=by rw [hsz];exact Z0a hz
 show wpAny _ _ (newTuple [x,y] >>= _) _ _ _;refine Z00 (wpAny_newTuple ?_);have z3:B2o g3 z TI TO (rawInt (p:Int)) true:=b3.extBut _ _ D.i2z.symm (b2.extBut _ _ D.i1z.symm z1);have k3:∀c o,c≠z->c≠i1->c≠i2->s.heap.get? c=some o->g3.get? c=some o:=λc o c1 c3 c4 e=>b3.extBut _ _ c4 (b2.extBut _ _ c3 (b1.extBut _ _ c1 e));have u1:st1 (k1+1) g3:=N1.mv t2 λo e=>b3.extBut _ _ D.i12 e;have pr:IsPair (g3.push { cls:= .type "tuple",data:= .seq #[x,y] }) g3.objs.size x y:=Z0c _ rfl;rw [hsz] at pr;refine Z04 (i02 _ rfl (Z04 ?_));show Q (some (.ref g3.objs.size)) _;rw [hsz];exact hQ _ (Z01 _ z3) (N1.mv u1 λo e=>Z01 _ e) (N2.mv t3 λo e=>Z01 _ e) pr λc o c1 c3 c4 e=>Z01 _ (k3 c o c1 c3 c4 e)
theorem D4y (N1:Nx i1 l1 st1 src1) (N2:Nx i2 l2 st2 src2) (hh:A.handled=none) (D:ZipApart z TI TO i1 i2 l1 l2)
  (hz:B2o s.heap z TI TO (rawInt (p:Int)) b) (hp:s.heap.get? p=some o) (hTI:IsPair s.heap TI (.ref i1) (.ref i2)) (h1:st1 k1 s.heap) (h2:st2 k2 s.heap) (hl1:src1 xs s.heap) (hl2:src2 ys s.heap) (hend:xs[k1]? =none\/ys[k2]? =none)
  (hQ:∀h',(∀c o,c≠z->c≠i1->c≠i2->s.heap.get? c=some o->h'.get? c=some o)->Q none { s with heap:=h' }):wpAny (model prog w) A (pyNext (.ref z)) Q E s:=by
 have hT:s.TypeIs (.ref z) "zip":=(i02 _ hz rfl);unfold pyNext
 have fin:∀(h':Heap) (e:Addr),(∀c o,c≠z->c≠i1->c≠i2->s.heap.get? c=some o->h'.get? c=some o)->(∃o,h'.get? e=some o/\o.cls= .type "StopIteration")->
   wpAny (model prog w) A (isInstance (.ref e) (.type "StopIteration") >>= λb=>if b=true then pure none else throw (.ref e)) Q E { s with heap:=h' }:=λh' e hk ⟨o,ho,hc⟩ =>
  Z00 (wpAny_isInstance (T:="StopIteration") (b:=true) (i02 o ho hc) isSubtype_stop (Z04 (hQ _ hk)))
 refine Z00 (wpAny_attempt (Z1b (name:=Str.ofString "__next__") hT F.slot_zip_next (Z1g F.slot_zip_next hT F.entry_zip_next ?_ (F.args_zip_next_1 _))));show wpAny _ _ (field (.ref z) 2 >>= _) _ _ _;refine Z00 (Z11 hz rfl (x:= .bool false) rfl ?_);show wpAny _ _ (field (.ref z) 3 >>= _) _ _ _;refine Z00 (Z11 hz rfl (x:= .ref TI) rfl ?_);refine Z00 (Z21 hTI rfl ?_);show wpAny _ _ (Builtin.SmallTypes.ownedTupleIsFree (.ref z) >>= _) _ _ _;refine Z00 (B3c hz hp λg1 z1 b1=> ?_);simp only [Bool.false_eq_true,if_false];refine Z00 ?_;simp only [<-Array.forIn_toList,List.forIn_cons,List.forIn_nil];refine Z00 (Z00 (Z1w ?_));show wpAny _ _ (Builtin.SmallTypes.nextOf (.ref i1) >>= _) _ _ _;have u1:=N1.mv h1 λo e=>b1.extBut _ _ D.i1z e;have v1:=N1.mvS hl1 λo e=>b1.extBut _ _ D.l1z e
 cases hx:xs[k1]? with
 | none =>
  refine Z00 (N1.fin hh u1 v1 hx λg2 e b2 he=> ?_);exact fin g2 e (λc o c1 c3 _ x=>b2 _ _ c3 (b1.extBut _ _ c1 x)) he
 | some x =>
  have hy:ys[k2]? =none:=by
   rcases hend with h | h
   ·rw [hx] at h;cases h
   ·exact h
  refine Z00 (N1.item u1 v1 hx λg2 t2 b2=>Z04 (Z04 ?_));refine Z00 (Z00 (Z1w ?_));show wpAny _ _ (Builtin.SmallTypes.nextOf (.ref i2) >>= _) _ _ _;refine Z00 (N2.fin hh (N2.mv h2 λo e=>b2.extBut _ _ D.i12.symm (b1.extBut _ _ D.i2z e)) (N2.mvS hl2 λo e=>b2.extBut _ _ D.l2i1 (b1.extBut _ _ D.l2z e)) hy λg4 e b4 he=> ?_);exact fin g4 e (λc o c1 c3 c4 x=>b4 _ _ c4 (b2.extBut _ _ c3 (b1.extBut _ _ c1 x))) he
end
def ZS (z TI TO i1 i2 a b d:Addr) (i:Nat) (h:Heap):Prop:=IsPair h TI (.ref i1) (.ref i2)/\h.IsListIter i1 a i/\h.IsTupleIter i2 b i/\
 ((IsZip h z TI TO .none/\∃u v,IsPair h TO u v)\/∃(p:Addr) (o:Obj) (bb:Bool),B2o h z TI TO (rawInt (p:Int)) bb/\h.get? p=some o/\p≠z/\p≠i1/\p≠i2/\p≠d)
theorem ZS.at {z TI TO i1 i2 b:Addr} (x:ZS z TI TO i1 i2 a b d i h) (nz:z≠d) (n1:TI≠d) (n2:TO≠d) (n3:i1≠d) (n4:i2≠d) (f:∀c o,c≠d->h.get? c=some o->h'.get? c=some o):ZS z TI TO i1 i2 a b d i h':=by
 obtain ⟨h1,h2,h3,h4⟩:=x;refine i04 (f _ _ n1 h1) ((A8i i1 a).mv h2 λo e=>f _ _ n3 e) ((A6a i2 b).mv h3 λo e=>f _ _ n4 e) ?_;rcases h4 with ⟨h4,u,v,h5⟩ | ⟨p,o,bb,h4,h5,m1,m2,m3,m4⟩
 ·exact .inl ⟨f _ _ nz h4,(i03 u v (f _ _ n2 h5))⟩
 ·exact .inr ⟨p,(i0s o bb (f _ _ nz h4) (f _ _ m4 h5) m1 m2 m3 m4)⟩
section
variable {z TI TO i1 i2 a b d:Addr} {prog:Program} {w:World} {A:Around} {E:Value->Shared->Prop} {s:Shared}
theorem D3m {x:Value} (D:ZipApart z TI TO i1 i2 a b) (ld:d<s.heap.objs.size) (hz:ZS z TI TO i1 i2 a b d i s.heap) (hl:s.heap.IsList a xs) (ht:s.heap.IsTuple b ys) (hx:xs[i]? =some x) (hy:ys[i]? =some y)
  (hQ:∀h',ZS z TI TO i1 i2 a b d (i+1) h'->IsPair h' s.heap.objs.size x y->(∀c o,c≠z->c≠TO->c≠i1->c≠i2->s.heap.get? c=some o->h'.get? c=some o)->Q (some (.ref s.heap.objs.size)) { s with heap:=h' }) :
  wpAny (model prog w) A (pyNext (.ref z)) Q E s:=by
 obtain ⟨h1,h2,h3,h4⟩:=hz;have n4:i1<s.heap.objs.size:=let ⟨_,e,_⟩:=(A8i i1 a).ob h2;Z0a e;have n5:i2<s.heap.objs.size:=let ⟨_,e,_⟩:=(A6a i2 b).ob h3;Z0a e;rcases h4 with ⟨h4,u,v,h5⟩ | ⟨p,o,bb,h4,h5,m1,m2,m3,m4⟩
 ·have nz:z<s.heap.objs.size:=Z0a h4;refine D0j (A8i i1 a) (A6a i2 b) D h4 h1 h5 h2 h3 hl ht hx hy λh' z1 z2 z3 z4 z5 kp=> ?_;exact hQ h' (i04 (kp _ _ D.TIz D.TITO D.TIi1 D.TIi2 h1) z3 z4 (.inr ⟨s.heap.objs.size,(i0s _ false z1 z5 (Z1q nz) (Z1q n4) (Z1q n5) (Z1q ld))⟩)) z5 kp
 ·refine C8z (A8i i1 a) (A6a i2 b) D h4 h5 h1 h2 h3 hl ht hx hy λh' z1 z3 z4 z5 kp=> ?_;exact hQ h' (i04 (kp _ _ D.TIz D.TIi1 D.TIi2 h1) z3 z4 (.inr ⟨p,(i0s o true z1 (kp _ _ m1 m2 m3 h5) m1 m2 m3 m4)⟩)) z5 λc o c1 _ c3 c4 e=>kp c o c1 c3 c4 e
theorem D6e (hh:A.handled=none) (D:ZipApart z TI TO i1 i2 a b) (hz:ZS z TI TO i1 i2 a b d i s.heap) (hl:s.heap.IsList a xs) (ht:s.heap.IsTuple b ys) (he:xs[i]? =none\/ys[i]? =none)
  (hQ:∀h',(∀c o,c≠z->c≠TO->c≠i1->c≠i2->s.heap.get? c=some o->h'.get? c=some o)->Q none { s with heap:=h' }):wpAny (model prog w) A (pyNext (.ref z)) Q E s:=by
 obtain ⟨h1,h2,h3,h4⟩:=hz;rcases h4 with ⟨h4,u,v,h5⟩ | ⟨p,o,bb,h4,h5,m1,m2,m3,m4⟩
 ·exact D4u (A8i i1 a) (A6a i2 b) hh D h4 h1 h5 h2 h3 hl ht he hQ
 ·exact D4y (A8i i1 a) (A6a i2 b) hh D h4 h5 h1 h2 h3 hl ht he λh' kp=>hQ h' λc o c1 _ c3 c4 e=>kp c o c1 c3 c4 e
end
section
variable {prog:Program} {w:World} {K:Type} [DecidableEq K] {knd:KeyKind prog w K} {A:Around} {R:Result->Shared->Prop} {z TI TO i1 i2 a b d:Addr} {xs ys:Array Value} {rs:List (K×Value)} {h₀:Heap} {g:Array GenState} {dr:Drawn} {os:OsState}
theorem C6d (hh:A.handled=none) (D:ZipApart z TI TO i1 i2 a b) (nz:z≠d) (n1:TI≠d) (n2:TO≠d) (n3:i1≠d) (n4:i2≠d) (na:a≠d) (nb:b≠d) (hsz:rs.length<=sizeLine)
  (pa:∀(i:Nat) (k:K) (u:Value),rs[i]? =some (k,u)->∃kv,xs[i]? =some kv/\ys[i]? =some u/\knd.is k kv=true) (he:xs[rs.length]? =none\/ys[rs.length]? =none) (hl:h₀.IsList a xs) (ht:h₀.IsTuple b ys) (aTO:a≠TO) (a1:a≠i1) (a2:a≠i2) (az:a≠z) (bTO:b≠TO) (b1:b≠i1) (b2:b≠i2) (bz:b≠z)
  (fin:∀h' tk,h'.DictOf knd d (merged [] rs)->(∀c o,c≠z->c≠TO->c≠i1->c≠i2->c≠d->h₀.get? c=some o->h'.get? c=some o)->R (.ok (.ret .none)) ⟨h',g,dr,tk,os⟩) :
  ∀(k i:Nat) (h:Heap) (tk:Nat),rs.length-i=k->i<=rs.length->ZS z TI TO i1 i2 a b d i h->(∀c o,c≠z->c≠TO->c≠i1->c≠i2->c≠d->h₀.get? c=some o->h.get? c=some o)->h.DictOf knd d (merged [] (rs.take i))->
   codeAny (model prog w) A (.builtin "dict.update.loop" ⟨[.ref d,.ref z,rawInt i,.none],[]⟩) R ⟨h,g,dr,tk,os⟩:=by
 intro k
 induction k with
 | zero =>
  intro i h tk hk hi hit kp hD;have hin':i=rs.length:=by lia
  refine codeAny_builtin A5a ?_;rw [Around.under_plainId A2m _];show wpAny _ A.in1 (pyNext (.ref z) >>= _) _ _ _;refine Z00 (D6e (s:=⟨h,g,dr,tk,os⟩) (by simpa using hh) D hit (hl.at λo e=>kp a o az aTO a1 a2 na e) (let ⟨o,e,r⟩:=ht;(i02 o (kp b o bz bTO b1 b2 nb e) r)) (by rw [hin'];exact he) λh' kp'=> ?_);show wpAny _ A.in1 (Builtin.Dict.addKeywords d [] >>= λ_=>ret Value.none) _ _ _;rw [hin',Z18] at hD;obtain ⟨od,es,ep,ho,r⟩:=hD;exact Z00 (Z04 (Z04 (fin h' tk (i0g od es ep (kp' d od nz.symm n2.symm n3.symm n4.symm ho) r) λc o c1 c2 c3 c4 c5 e=>kp' c o c1 c2 c3 c4 (kp c o c1 c2 c3 c4 c5 e))))
 | succ k ih =>
  intro i h tk hk hi hit kp hD;have hlt:i<rs.length:=by lia
  obtain ⟨⟨k',u⟩,hku⟩:∃p,rs[i]? =some p:=⟨rs[i],Z0b _⟩;obtain ⟨kv,hx,hy,his⟩:=pa i k' u hku;refine codeAny_builtin A5a ?_;rw [Around.under_plainId A2m _];show wpAny _ A.in1 (pyNext (.ref z) >>= _) _ _ _;have ld:d<h.objs.size:=let ⟨_,_,_,e,_⟩:=hD;Z0a e;refine Z00 (D3m (s:=⟨h,g,dr,tk,os⟩) D ld hit (hl.at λo e=>kp a o az aTO a1 a2 na e) (let ⟨o,e,r⟩:=ht;(i02 o (kp b o bz bTO b1 b2 nb e) r)) hx hy λh' zs pr kp'=> ?_);have pr:IsPair h' h.objs.size kv u:=pr;have hT:(⟨h',g,dr,tk,os⟩:Shared).TypeIs (.ref h.objs.size) "tuple":=(i02 _ pr rfl);show wpAny _ A.in1 (holding [Value.ref h.objs.size] _ >>= _) _ _ _;refine Z00 (Z1w (Z00 (wpAny_tryCatch ?_)));unfold Builtin.Dict.pairItems;refine Z00 (wpAny_typeOf hT ?_);rw [Z12 (by decide)];refine Z00 (Z21 pr rfl (Z04 ?_));show wpAny _ A.in1 (holding [kv,u] (dictSet d kv u)) _ _ _
  have hD':h'.DictOf knd d (merged [] (rs.take i)):=by
   obtain ⟨od,es,ep,ho,r⟩:=hD;exact i0g od es ep (kp' d od nz.symm n2.symm n3.symm n4.symm ho) r
  have hlen:(merged [] (rs.take i)).length<=sizeLine:=by
   have e1:=merged_length_le ([]:List (K×Value)) (rs.take i);have e2:(rs.take i).length<=rs.length:=by rw [Z0x];lia
   simp only [Z2g,Nat.zero_add] at e1
   lia
  refine Z1w (wpAny_dictSet_pairs (hsz:=hlen) (s:=⟨h',g,dr,tk,os⟩) his hD' λh2 hD2 sb=> ?_);rw [<-merged_take_succ [] rs i (k',u) hku] at hD2;refine Z04 ⟨plainId_quiet A2m _,ih (i+1) h2 _ (by lia) (by lia) (zs.at nz n1 n2 n3 n4 λc o hc e=>(sb.2 c hc).trans e) ?_ hD2⟩;intro c oc c1 c2 c3 c4 c5 e;exact (sb.2 c c5).trans (kp' c oc c1 c2 c3 c4 (kp c oc c1 c2 c3 c4 c5 e))
end
theorem A9e:typeLookup (.type "zip") "__getattr__"=pure none:=by rw [typeLookup_type,builtinLookup_eq_fast];kernel_rfl
theorem A6j:entryFor table "zip.__getattribute__"=some Builtin.«object.__getattribute__» :=
 entryFor_alias (id':="object.__getattribute__") (by kernel_rfl) (by decide +kernel) (by decide +kernel) (by kernel_rfl)
theorem C3i:typeLookup (.type "zip") "keys"=pure none:=by rw [typeLookup_type,builtinLookup_eq_fast];kernel_rfl
theorem B4h (a:Addr) (fs:Array Value) (sl:Array (Option Value)) (name:Str) (u:Tok) (hmiss:typeLookup (.type "zip") name=pure none) (hname:(["__module__","__name__","__qualname__","__doc__","__annotations__"]:List Str).contains name=false) (hsz:name.length+100<=sizeLine:=by size_fits) :
  Meets (Builtin.«object.__getattribute__» ⟨[.ref a,.str name u],[]⟩) (λA R s=>s.heap.get? a=some { cls:= .type "zip",dict:=none,data:= .fields fs,slots:=sl }/\raisesAttr (.ref a) name A R s) :=
 Meets.of_wp λprog w A R s hs=>by
  obtain ⟨hp,g,d,tk,os⟩:=s;obtain ⟨hx,hs⟩:=hs;have hT:(⟨hp,g,d,tk,os⟩:Shared).TypeIs (.ref a) "zip":=(i02 _ hx rfl);unfold Builtin.«object.__getattribute__»
  repeat (any_goals (first | assumption | wp_step))
  simp only [hname,Bool.false_eq_true,if_false]
  repeat (any_goals (first | assumption | wp_step))
  exact wpAny_raiseAttrError hs.1 hs.2 (attrMsg_fits (by decide +kernel) hsz)
theorem C3j {fs:Array Value}
  (hx:s.heap.get? a=some { cls:= .type "zip",dict:=none,data:= .fields fs,slots:=sl }) (hA:A.handled=none)
  (h:∀h' tk,(∀b ob,s.heap.get? b=some ob->h'.get? b=some ob)->Q none { s with heap:=h',toks:=tk }):wpAny (model prog w) A (getAttr? (.ref a) "keys") Q E s:=by
 obtain ⟨hp,g,d,tk,os⟩:=s;have hT:∀tk',(⟨hp,g,d,tk',os⟩:Shared).TypeIs (.ref a) "zip":=λ_=>(i02 _ hx rfl);have f1:=sub_AttributeError;have f3:=F.slot_zip_getattribute.lookup;have f4:=F.slot_zip_getattribute.bind (.ref a);have f5:=A9e;unfold getAttr? getAttrBy? getAttrBy
 repeat (any_goals (first | assumption | exact hT _ | ((with_reducible show wpAny _ _ (call (Value.builtin "zip.__getattribute__") _ _) _ _ _);refine call_meets F.slot_zip_getattribute (hT _) A6j (F.args_zip_getattribute_2 _ _) (B4h a fs sl "keys" _ C3i (by decide) (by decide)) (i00 hx hA λh' tk' e hx'=> ?_)) | wp_step))
 obtain ⟨t',u',he⟩:=hx'.there;show wpAny _ _ (getattributeRaised _ _ _ _ _ _ _) _ _ _;unfold getattributeRaised
 repeat (any_goals (first | assumption | wp_step))
 all_goals exact h _ _ hx'.1
def tDZ (K:Frag) (ta:TA):TE:=λZ H Q=>ta Z H λvs H1=>∃l t ks us,vs=[.ref l,.ref t]/\SqL K H1 l ((ks:List Key).map kV)/\SqT K H1 t us/\ks.length=us.length/\∀p,H1 p=none->Q (.ref p) (upd H1 p (.dK (A4h [] (ks.zip us))))
theorem D1c:∀{ks:List Key} {us:List V} {vs:List Value},ks.length=us.length->A3y us vs->KV (ks.zip us) (ks.zip vs)
 | [],[],_,_,.nil=> .nil
 | k::ks,u::us,_,h,.cons r t=> .cons ⟨rfl,r⟩ (D1c (by simpa using h) t)
theorem C1j {P:Program} {w:World}:∀{ks:List Key} {its:List Value},A3y (ks.map kV) its->∀{i:Nat} {k:Key},ks[i]? =some k->∃v,its[i]? =some v/\(A2f P w).is k v=true
 | [],_,.nil,i,k,h=>by simp at h
 | _::_,_,.cons r t,0,k,h=>by simp at h;subst h;exact i02 _ rfl (B8m r)
 | _::_,_,.cons r t,i+1,k,h=>by
  obtain ⟨v,e1,e2⟩:=C1j (P:=P) (w:=w) t (i:=i) (k:=k) (by simpa using h);exact i02 v (by simpa using e1) e2
section
variable {X:Cx}
theorem C4h {a b:Expr} {ta:TA} {p1 p2 pos1 pos2:Pos} (hc:X.calm=true) (hgd:Gl X "dict") (hmd:X.mg "dict"=none) (hgz:Gl X "zip") (hmz:X.mg "zip"=none) (ha:PA X [a,b] ta)
  (hs0:starEach [.Call (.Name "zip" p2) [a,b] [] pos2] X.env=(false,eval (.Call (.Name "zip" p2) [a,b] [] pos2) X.env)::starEach [] X.env:=by rfl)
  (hs:starEach [a,b] X.env=[(false,eval a X.env),(false,eval b X.env)]:=by rfl) (hs2:starEach [b] X.env=[(false,eval b X.env)]:=by rfl) :
  PE X (.Call (.Name "dict" p1) [.Call (.Name "zip" p2) [a,b] [] pos2] [] pos1) (tDZ X.K ta):=by
 intro pins s Z H Q I h;have hh:X.A.handled=none:=I.ok.hd hc;refine wpAny_Call_Name_kw (B1k I hgd hmd boot_dict ?_);refine PyProof.Rows.callWith_type1 ?_ hs0 (by rfl);rw [hs0];show wpAny _ _ (spliced ((false,eval _ X.env)::backTo pos1 (starEach [] X.env))) _ _ s;refine Calls.spliced_cons ?_;refine Call_ (B1k I hgz hmz boot_zip (PyProof.Rows.callWith_type1 (thn (ha pos2 pins s Z H _ I h) ?_) (by rw [hs,hs2]) (by rw [hs2];rfl)));rintro us s1 ⟨vs,H1,I1,r1,q1⟩;obtain ⟨l1,l2,ks,ws,e,hq1,hq2,hle,q⟩:=q1;subst e;obtain ⟨u,u2,rfl,ru,ru2⟩:=C6v r1;cases ru;cases ru2;obtain ⟨its,rv,p1',zk⟩:=I1.list hq1;obtain ⟨its2,rv2,p2',_⟩:=I1.tuple hq2;have t1:l1<s1.heap.objs.size:=let ⟨_,e,_⟩:=p1'.isList;Z0a e;have t2:l2<s1.heap.objs.size:=p2'.lt;have e1:=rv.length;have e2:=rv2.length;rw [Z08] at e1;have hn:=I1.hok.fresh (Z09 s1.heap.objs.size);refine C0j p1'.isList (show s1.heap.IsTuple l2 its2.toArray from p2') λh' zs kp=>Calls.spliced_nil ?_;obtain ⟨hz,hTI,⟨tu,tv,hTO⟩,hi1,hi2⟩:=zs;have D:=zipApart_new t1 t2;have lz:s1.heap.objs.size+4<h'.objs.size:=Z0a hz;refine callType_codes (Q₁:=λobj s₁=>obj= .ref h'.objs.size/\s₁={ s1 with heap:=h'.push { cls:= .type "dict",data:= .dict #[] } }) F.kt_called_dict (F.kt_typeCall_dict_1 _) F.entry_dict_init (kt_code_dict_new (s:={ s1 with heap:=h' }) _ ⟨rfl,rfl⟩) ?_;rintro obj s₁ ⟨rfl,rfl⟩;have hnew:(h'.push { cls:= .type "dict",data:= .dict #[] }).DictOf (A2f X.prog X.w) h'.objs.size []:=Heap.DictOf.new h';have ez:(h'.push { cls:= .type "dict",data:= .dict #[] }).get? (s1.heap.objs.size+4)=some _:=Z01 _ hz;have hTz:Shared.TypeIs { s1 with heap:=h'.push { cls:= .type "dict",data:= .dict #[] } } (.ref (s1.heap.objs.size+4)) "zip":=(i02 _ ez rfl);refine i00 hnew.typeIs (F.args_dict_init_2 _ _) ?_;unfold Builtin.«dict.__init__»;refine Z00 ?_;unfold Builtin.Dict.selfAndRest;refine Z00 (wpAny_notOrdered_dict hnew.typeIs ?_);show wpAny _ _ (pure (h'.objs.size,[Value.ref (s1.heap.objs.size+4)])) _ _ _;refine Z04 ?_;show wpAny _ _ (Builtin.Dict.updateFrom "dict.__init__" h'.objs.size (.ref (s1.heap.objs.size+4)) [] .none) _ _ _;unfold Builtin.Dict.updateFrom;refine Z00 (wpAny_typeOf hTz ?_);rw [Z12 (by decide)];refine Z00 (C3j ez (by simpa using hh) λh1 tk1 kp1=> ?_)
 rw [Z12 (show (none:Option Value).isNone=true from rfl)];refine Z00 (wpAny_rule ?_);refine Z00 (wpAny_pyIter_zip (s:={ s1 with heap:=h1,toks:=tk1 }) (kp1 _ _ ez) ?_);have up:∀c o,h'.get? c=some o->h1.get? c=some o:=λc o e=>kp1 _ _ (Z01 _ e)
 have lr:(ks.zip its2).length=ks.length:=by rw [List.length_zip];lia
 have q1:∀i:Nat,i<=4->s1.heap.objs.size+i≠h'.objs.size:=λi hi z=>by lia
 have q2:∀c:Nat,c<s1.heap.objs.size->c≠h'.objs.size:=λc hc z=>by lia
 have q3:∀c i:Nat,c<s1.heap.objs.size->c≠s1.heap.objs.size+i:=λc i hc z=>by lia
 have le':s1.heap.objs.size<=h'.objs.size:=by lia
 have z1:ks.length<=sizeLine:=by rw [Z08] at zk;exact zk
 refine Z04 ⟨plainId_quiet A2m _,C6d (knd:=A2f X.prog X.w) (rs:=ks.zip its2) (xs:=its.toArray) (ys:=its2.toArray) (h₀:=h1) (by simpa using hh) D (q1 4 (by decide)) (q1 2 (by decide)) (q1 3 (by decide)) (q1 0 (by decide)) (q1 1 (by decide)) (q2 _ t1) (q2 _ t2) (by rw [lr];exact z1) (λi k u hr=> ?_) ?_ (p1'.isList.at λo e=>up _ _ (kp _ _ e)) (let ⟨o,e,r⟩:=p2';(i02 o (up _ _ (kp _ _ e)) r)) (q3 _ 3 t1) (q3 _ 0 t1) (q3 _ 1 t1) (q3 _ 4 t1) (q3 _ 3 t2) (q3 _ 0 t2) (q3 _ 1 t2) (q3 _ 4 t2) (λh2 tk dd kp2=> ?_) (ks.zip its2).length 0 h1 _ (by lia) (Z1e _) (i04 (up _ _ hTI) ((A8i _ l1).mv hi1 λo e=>up _ _ e) ((A6a _ l2).mv hi2 λo e=>up _ _ e) (.inl ⟨up _ _ hz,(i03 tu tv (up _ _ hTO))⟩)) (λ_ _ _ _ _ _ _ z=>z) ?_⟩
 ·obtain ⟨g1,g2⟩:=List.getElem?_zip_eq_some.mp hr;obtain ⟨kv,g3,g4⟩:=C1j (P:=X.prog) (w:=X.w) rv g1;exact i06 kv (by simpa using g3) (by simpa using g2) g4
 ·left;rw [lr];simp
  lia
 ·have kv:=D1c hle rv2;refine i0i rfl (.ref h'.objs.size) _ (I1.laid (t':=tk) (o:= .dK (A4h [] (ks.zip ws))) (λb u eb=> ?_) le' (i0a ?_ ?_ _ (KV.merge kv .nil) dd)) rfl (q _ (I1.hok.fresh le'))
  ·have lb:=Z0a eb;exact kp2 b u (q3 _ 4 lb) (q3 _ 3 lb) (q3 _ 0 lb) (q3 _ 1 lb) (q2 _ lb) (up _ _ (kp _ _ eb))
  ·have:=A7j (ks.zip ws) [];have lw:(ks.zip ws).length=ks.length:=by rw [List.length_zip];lia
   simp only [Z2g] at this
   lia
  ·have:=I1.big;have hne:h'.objs.size≠sysModules:=Z1q (Z0q this le')
   simpa using hne
 ·obtain ⟨od,es,ep,g,r⟩:=hnew;exact i0g od es ep (kp1 _ _ g) r
def D7u (K:Frag):R2:=λx y H Q=>∃a b xs ys,x= .ref a/\y= .ref b/\SqT K H a xs/\SqT K H b ys/\xs.length+ys.length<=sizeLine/\
 (xs=[]->Q (.ref b) H)/\(xs≠[]->ys=[]->Q (.ref a) H)/\(xs≠[]->ys≠[]->∀p,H p=none->Q (.ref p) (upd H p (.tup (xs++ys))))
theorem C9c:OpR X (binaryOp .Add) (D7u X.K):=by
 intro pins s Z H x y v u Q I rx ry h;obtain ⟨a,b,xs,ys,rfl,rfl,ha,hb,hz,q1,q2,q3⟩:=h;by_cases hx:xs=[]
 ·subst hx;cases rx;cases ry;obtain ⟨its,r1,p1,_⟩:=I.tuple ha;obtain ⟨its2,r2,p2,_⟩:=I.tuple hb;have e1:its=[]:=r1.nil_iff.mpr rfl;obtain ⟨⟨cls,dd,data,sl⟩,ho,hc,n,hd⟩:=id p1;obtain ⟨⟨cls2,dd2,data2,sl2⟩,ho2,hc2,n2,hd2⟩:=id p2;simp only at hc hd hc2 hd2;subst hc hd hc2 hd2
  exact concat_meets (i02 _ ho rfl) (i02 _ ho2 rfl) noFill_tuple_add seq_tuple_add PySem.F.slot_tuple_add PySem.F.entry_tuple_add (PySem.F.args_tuple_add_2 _ _)
   (tuple_addW0 a b its.toArray its2.toArray n n2 dd dd2 sl sl2 (by simp [e1])) ⟨ho,(i0i ho2 (.ref b) H I rfl (q1 rfl))⟩
 ·exact D3h pins s Z H _ _ v u Q I rx ry (i0y a b xs ys rfl rfl ha hb (i04 hx hz (λz=>q2 hx z) λz=>q3 hx z))
def D8g:R2:=λx y H Q=>∃a b xs ys,x= .ref a/\y= .ref b/\H a=some (.tup xs)/\H b=some (.tup ys)/\xs.length+ys.length<=sizeLine/\∀q H',A1c H H'->H' q=some (.tup (xs++ys))->Q (.ref q) H'
theorem B6e:OpR X (binaryOp .Add) D8g:=λpins s Z H x y v u Q I rx ry h=>by
 obtain ⟨a,b,xs,ys,e1,e2,ha,hb,hz,q⟩:=h;refine C9c pins s Z H x y v u Q I rx ry (i0y a b xs ys e1 e2 (SqT.of ha) (SqT.of hb) (i04 hz (λz=> ?_) (λ_ z=> ?_) λ_ _ p hp=> ?_))
 ·subst z;exact q b H (A1c.refl _) hb
 ·subst z;exact q a H (A1c.refl _) (by rw [Z0u];exact ha)
 ·exact q p _ (A0f hp) A0b
end
open PySem PySem.W PyProof.Rows
theorem E1a {k:Nat} (hr:A9p k A):A.units+70<cLine:=by have:=hr.un;lia
section
variable {X:Cx}
theorem D0o {xs:List V} {us:List Value} (h:A3y xs us):∀u∈us,∃v∈xs,A3i v u:=by
 induction h with
 | nil=>intro u hu;cases hu
 | cons r _ ih =>
  intro u hu;rcases Z0e.mp hu with e | hu
  ·subst e;exact i02 _ (.head _) r
  ·obtain ⟨v,hv,rv⟩:=ih u hu;exact i02 v (.tail _ hv) rv
end
open PySem PySem.Spec PyProof.Rows PySem.W
section
variable {X:Cx}
def fOf (kf:V->PyData) (d:PyData):Value->Bool
 | .ref a=>PyData.eqv (kf (.ref a)) d
 | _=>false
theorem C5f {kf:V->PyData} {d:PyData}:∀{xs:List V} {us:List Value},A3y xs us->(∀v∈xs,∃b,v= .ref b)->us.any (fOf kf d)=xs.any λv=>PyData.eqv (kf v) d
 | _,_,.nil,_=>rfl
 | y::xs,u::us,.cons r t,f=>by
  obtain ⟨b,rfl⟩:=f y Z27;cases r;rw [List.any_cons,List.any_cons,C5f t λv hv=>f v (Z1f _ hv)];rfl
def C6y (K:Frag):R2:=λx y H Q=>∃(p:Addr) (xs:List V) (kf:V->PyData) (d:PyData),y= .ref p/\SqL K H p xs/\Rep H x d/\SeqAt.shaped d=true/\(∀v∈xs,∃b,v= .ref b/\Rep H v (kf v)/\SeqAt.shaped (kf v)=true)/\Q (.bl (!(xs.any λv=>PyData.eqv (kf v) d))) H
theorem B7s (hu:X.A.units+70<cLine):OpR X (compareOp .NotIn) (C6y X.K):=by
 intro pins s Z H x y v u Q I rx ry h;obtain ⟨p,xs,kf,d,rfl,hq,hx,sx,hxs,q⟩:=h;cases ry;obtain ⟨ax,r1⟩:=B2f I hx rx;obtain ⟨its,r,pl,hz⟩:=I.list hq;refine SeqAt.notIn_listAt (fOf kf d) pl.isList (λw hw=> ?_) (i0f (.bl _) H I rfl ?_)
 ·have hw:w∈its:=by simpa using hw
  obtain ⟨y,hy,ry⟩:=D0o r w hw;obtain ⟨b,rfl,hr,hs⟩:=hxs y hy;obtain ⟨as,r2⟩:=B2f I hr ry;cases ry;exact keq_at r2 r1 hs sx (by show X.A.units+1+64<cLine;lia)
 ·rw [show its.toArray.any (fOf kf d)=its.any (fOf kf d) by simp,C5f r λv hv=>by obtain ⟨b,e,_⟩:=hxs v hv;exact ⟨b,e⟩];exact q
end
end L2
namespace My
open PySem L2
inductive Op3 | plus | minus | times
inductive Tm
 | num (z:Int) | place (x:Str) | read (a:Str) (ix:List (Str×Int)) | sum (x:Str) (b:Tm) | pair (k:Op3) (l r:Tm) | guard (x:Str) (lo hi:Int) (l r:Tm)
def Op3.name:Op3->Str | .plus=>"plus" | .minus=>"minus" | .times=>"times"
def B4a (e:Str×Int):PyData:= .tuple [.str e.1,.int e.2]
def A5w (ix:List (Str×Int)):PyData:= .list (ix.map B4a)
def enc:Tm->PyData
 | .num z=> .tuple [.str "number",.int z]
 | .place x=> .tuple [.str "place",.str x]
 | .read a ix=> .tuple [.str "read",.str a,A5w ix]
 | .sum x b=> .tuple [.str "sum",.str x,enc b]
 | .pair k l r=> .tuple [.str k.name,enc l,enc r]
 | .guard x lo hi l r=> .tuple [.str "guard",.str x,.int lo,.int hi,enc l,enc r]
def dep:Tm->Nat
 | .sum _ b=>dep b+1
 | .pair _ l r=>max (dep l) (dep r)+1
 | .guard _ _ _ l r=>max (dep l) (dep r)+1
 | _=>1
def nod:Tm->Nat
 | .sum _ b=>nod b+1
 | .pair _ l r=>nod l+nod r+1
 | .guard _ _ _ l r=>nod l+nod r+1
 | _=>1
def Sm (z:Int):Prop:=z.natAbs<=10^32
def B3y (x:Str):Prop:=x.length<=20/\PyData.strOk x=true
theorem A5x:∀t:Tm,1<=dep t
 | .num z=>by simp [dep]
 | .place x=>by simp [dep]
 | .read a ix=>by simp [dep]
 | .sum x b=>by simp [dep]
 | .pair k l r=>by simp [dep]
 | .guard x lo hi l r=>by simp [dep]
theorem C5h {n:Nat} (h:n<10^33):(Str.ofString (Nat.repr n)).length<=33:=by
 rw [PyProof.Rows.ofString_len]
 simpa [Nat.repr] using PySem.toDigits_len_pow (b:=10) (k:=33) (by decide) (by decide) h
theorem D3r (a b:String):Str.ofString (a++b)=Str.ofString a++Str.ofString b:=by
 rw [Str.ofString_eq_toList,Str.ofString_eq_toList,Str.ofString_eq_toList];apply Str.ext';simp [Str.cps_append,String.toList_append]
theorem C7e {z:Int} (h:Sm z):(toString z:Str).length<=34:=by
 unfold Sm at h
 cases z with
 | ofNat m =>
  have hm:m<10^33:=Z2d (show m<=10^32 from h) (by decide);exact Nat.le_succ_of_le (C5h hm)
 | negSucc m =>
  have hm:m+1<10^33:=Z2d (show m+1<=10^32 from h) (by decide);have e:(toString (Int.negSucc m):Str)=Str.ofString "-"++Str.ofString (Nat.repr (m+1)):=D3r "-" (Nat.repr (m+1));rw [e,Str.length_append];have h1:=C5h hm;have h2:(Str.ofString "-").length=1:=by decide +kernel
  lia
theorem D7b {z:Int} (h:Sm z):z.natAbs.log2<1920:=by
 by_cases h0:z.natAbs=0
 ·rw [h0];decide
 ·exact (Nat.log2_lt h0).mpr (Z2d h (Z0q (show 10^32<2^110 by decide) (Nat.pow_le_pow_right (by decide) (by decide))))
theorem B0g {z:Int} (h1: -100000000000000000000000000000000<=z) (h2:z<=100000000000000000000000000000000):Sm z:=by
 unfold Sm;have:(10:Nat)^32=100000000000000000000000000000000:=by decide
 lia
abbrev abc:Str:="abcdefghijklmnopqrstuvwxyz"
theorem C8j:abc.cps.toList.length=26:=by decide +kernel
theorem C2a:abc.length=26:=by decide +kernel
theorem D1i:∀c∈abc.cps.toList,c<0x110000:=by decide +kernel
theorem C6g {x:Str}:PyData.strOk x=true↔∀c∈x.cps.toList,c<0x110000:=by
 unfold PyData.strOk;rw [<-Array.all_toList,List.all_eq_true];simp
theorem C2l {x y:Str} (hx:PyData.strOk x=true) (hy:PyData.strOk y=true):PyData.strOk (x++y)=true:=by
 rw [C6g] at *;intro c hc;rw [Str.cps_append,Array.toList_append] at hc;rcases Z07.mp hc with h | h
 ·exact hx c h
 ·exact hy c h
theorem D1h {c:Nat} (h:c<0x110000):PyData.strOk ⟨#[c]⟩=true:=by
 rw [C6g];intro d hd;simp at hd
 lia
theorem C2o {x:Str} {l u:Option Int} (hx:PyData.strOk x=true):PyData.strOk (Txt.slice x l u)=true:=by
 unfold Txt.slice;split
 ·exact hx
 ·rw [C6g] at *;intro c hc;simp only [List.mem_filterMap] at hc;obtain ⟨i,_,hi⟩:=hc;refine hx c ?_;rw [Array.getElem?_toList.symm] at hi;exact Z13 hi
theorem lenC (x:Str):x.cps.toList.length=x.length:=by rfl
theorem C8w {ix:List (Str×Int)}:PyData.depth (A5w ix)<=2:=by
 have h:∀l:List (Str×Int),PyData.depthAll (l.map B4a)<=1:=by
  intro l
  induction l with
  | nil=>simp [PyData.depthAll]
  | cons e r ih=>simp [B4a,PyData.depthAll,PyData.depth] at *;lia
 have:=h ix;simp only [A5w,PyData.depth]
 lia
theorem D1w {ix:List (Str×Int)}:cnt (A5w ix)<=1+3*ix.length:=by
 have h:∀l:List (Str×Int),A4p (l.map B4a)<=3*l.length:=by
  intro l
  induction l with
  | nil=>simp [A4p]
  | cons e r ih=>simp only [B4a,A4p,cnt,Z0p,Z0y] at *;lia
 have:=h ix;simp only [A5w,cnt]
 lia
theorem C7p {n:Nat} (h:2<=n):(Builtin.Range.rangeSize 0 ((n:Int)-1) 2).toNat=n/2:=by
 unfold Builtin.Range.rangeSize;rw [Z12 (by decide),Z12 (by lia)]
 lia
section
variable {G:Hp} {v:V}
theorem C6l {z:Int} (h:Rep G v (enc (.num z))):∃p,v= .ref p/\G p=some (.tup [.str "number",.int z]):=by
 obtain ⟨p,xs,rfl,e,r⟩:=B5v (show Rep G v (.tuple [.str "number",.int z]) from h);obtain ⟨a,r1,rfl,ha,r⟩:=A4o r;obtain ⟨b,r2,rfl,hb,r⟩:=A4o r;cases B1v r;cases B0y ha;cases C0n hb;exact i02 p rfl e
theorem B8z {x:Str} (h:Rep G v (enc (.place x))):∃p,v= .ref p/\G p=some (.tup [.str "place",.str x]):=by
 obtain ⟨p,xs,rfl,e,r⟩:=B5v (show Rep G v (.tuple [.str "place",.str x]) from h);obtain ⟨a,r1,rfl,ha,r⟩:=A4o r;obtain ⟨b,r2,rfl,hb,r⟩:=A4o r;cases B1v r;cases B0y ha;cases B0y hb;exact i02 p rfl e
theorem C1u {x:Str} {ix:List (Str×Int)} (h:Rep G v (enc (.read x ix))):∃p q xs,v= .ref p/\G p=some (.tup [.str "read",.str x,.ref q])/\G q=some (.lst xs)/\A4w G xs (ix.map B4a):=by
 obtain ⟨p,xs,rfl,e,r⟩:=B5v (show Rep G v (.tuple [.str "read",.str x,A5w ix]) from h);obtain ⟨a,r1,rfl,ha,r⟩:=A4o r;obtain ⟨b,r2,rfl,hb,r⟩:=A4o r;obtain ⟨c,r3,rfl,hc,r⟩:=A4o r;cases B1v r;cases B0y ha;cases B0y hb;obtain ⟨q,ys,rfl,e2,r2⟩:=A5g (show Rep G c (.list (ix.map B4a)) from hc);exact i0q p q ys rfl e e2 r2
theorem D5u {e:Str×Int} (h:Rep G v (B4a e)):∃p,v= .ref p/\G p=some (.tup [.str e.1,.int e.2]):=by
 obtain ⟨p,xs,rfl,q,r⟩:=B5v (show Rep G v (.tuple [.str e.1,.int e.2]) from h);obtain ⟨a,r1,rfl,ha,r⟩:=A4o r;obtain ⟨b,r2,rfl,hb,r⟩:=A4o r;cases B1v r;cases B0y ha;cases C0n hb;exact i02 p rfl q
end
end My
namespace M84
open PySem PySem.NumText
abbrev sg (x:Str):List Nat:=x.cps.toList
def figs (n:Nat):List Nat:=(Nat.toDigits 10 n).map Char.toNat
theorem sg_nat (n:Nat):sg (Str.ofString (toString (n:Int)))=figs n:=PySem.W.KIN.signs_num n
theorem figs_val (n:Nat):digitsVal (figs n)=n:=PySem.W.KIN.val_back n
theorem D7g:∀d:Nat,d<10->(Nat.digitChar d).toNat=48+d:=by decide
theorem B9h {n:Nat} (h:n<10):figs n=[48+n]:=by
 unfold figs;rw [Nat.toDigits_of_lt_base h];simp [D7g n h]
theorem C7q {n:Nat} (h:10<=n):figs n=figs (n/10)++[48+n%10]:=by
 have hm:n%10<10:=Nat.mod_lt n (by decide);have t:Nat.toDigits 10 (n/10)++Nat.toDigits 10 (n%10)=Nat.toDigits 10 (10*(n/10)+n%10):=Nat.toDigits_append_toDigits (by decide) (by lia) hm;rw [Nat.div_add_mod] at t;show (Nat.toDigits 10 n).map Char.toNat=_;rw [<-t,Z0s];show figs (n/10)++figs (n%10)=_;rw [B9h hm]
theorem figs_dg (n:Nat):∀c∈figs n,48<=c/\c<=57:=by
 induction n using Nat.strongRecOn with
 | _ n ih =>
  intro c hc;by_cases h:n<10
  ·rw [B9h h] at hc;rw [Z0w.mp hc];lia
  ·rw [C7q (by lia)] at hc;rcases Z07.mp hc with hc | hc
   ·exact ih (n/10) (by lia) c hc
   ·rw [Z0w.mp hc];lia
theorem figs_pos (n:Nat):1<=(figs n).length:=by
 by_cases h:n<10
 ·rw [B9h h];simp
 ·rw [C7q (by lia)];simp
section
variable {w:List Nat} {ns:List Nat}
end
end M84
namespace My
open PySem L2
variable {f p d a l kd:Addr} {fd:FuncData} {ps ys os pend sc:List Str} {x y:Str} {e:Str×List Str} {es tb:List (Str×List Str)} {n i m:Nat} {H H':Hp} {o:HO} {K:Frag} {mg:Str->Option Value} {v:V} {A:Adr} {S:Addr->Prop} {ax:List (Str×Int)} {ls:List Lt} {u b:Tm} {g:List Gd} {T:String} {sp':Sp} {kvs ws lk kk:List (Key×V)} {c:List Int} {lo hi:Int} {z:LS} {r:Tm×LS} {t1 t2:TT} {Z:St} {Q:Bool->Hp->Prop} {d1 d2:Bool} {L:Str->Int} {zs:List Ln} {gs:List G3} {own:Option (Str×List Str)} {Zz:Tm->Prop} {cs:List (List Int)}
def top (i:Nat):Stmt:=PySem.Challenge.pw_arrayloom_k33_lines_read_ahead.main.body.getD i (.Pass ⟨0,0,0,0⟩)
abbrev B5w:Stmt:=top 2
abbrev A7i:Stmt:=top 3
abbrev A9b:Stmt:=A3b (top 5) 0
abbrev A7v:Stmt:=A3b (top 6) 0
abbrev A7h:Stmt:=A3b (top 9) 0
abbrev A7t:Stmt:=A3b (top 10) 0
abbrev A9j:Stmt:=A3b (top 11) 0
abbrev A9l:Stmt:=A3b (top 12) 0
abbrev A6m:Stmt:=A3b (top 13) 2
abbrev A5u:Stmt:=A3b (top 14) 2
abbrev A5p:Stmt:=A3b (top 15) 2
abbrev B1a:Stmt:=A3b (top 16) 0
abbrev A7w:Stmt:=A3b (top 17) 0
abbrev A5r:Stmt:=A3b (top 17) 2
abbrev A8y:Stmt:=A3b (top 19) 0
abbrev B0p:Stmt:=top 20
abbrev A8b:Stmt:=top 21
abbrev A4c:Stmt:=top 22
abbrev A6z:Stmt:=top 23
abbrev A7a:Stmt:=top 24
abbrev B0q:Stmt:=A3b (top 26) 0
abbrev A6n:Stmt:=A3b (top 27) 0
abbrev A7y:Stmt:=top 28
abbrev A7l:Stmt:=top 29
abbrev A7x:Stmt:=top 30
abbrev B0r:Stmt:=top 32
abbrev B0l:Stmt:=top 33
abbrev A7d:Stmt:=A3b (top 34) 0
abbrev A4u:Stmt:=A3b (top 34) 1
abbrev A3q:Stmt:=A3b (top 34) 2
abbrev A6y:Stmt:=A3b (top 34) 3
abbrev A4f:Stmt:=A3b (top 34) 4
abbrev B3a:Stmt:=top 35
abbrev B3g:Stmt:=top 36
abbrev B3m:Stmt:=top 37
abbrev A9m:Stmt:=top 39
abbrev B3v:Stmt:=top 40
abbrev B5d:Stmt:=top 41
abbrev A8h:Stmt:=top 42
abbrev A7g:Stmt:=top 43
abbrev B5o:Stmt:=top 44
abbrev A8w:Stmt:=top 45
abbrev A9c:Stmt:=top 46
abbrev A9a:Stmt:=top 47
abbrev A8u:Stmt:=top 48
abbrev A9f:Stmt:=top 49
abbrev B0x:Stmt:=top 50
abbrev B6k:Stmt:=top 51
abbrev B0m:Stmt:=top 52
abbrev B0t:Stmt:=top 53
abbrev A6h:Stmt:=top 54
abbrev A6l:Stmt:=top 55
abbrev B5t:Stmt:=top 56
abbrev A5f:Stmt:=top 57
abbrev A7u:Stmt:=top 58
abbrev B5i:Stmt:=top 59
abbrev A8x:Stmt:=top 60
abbrev B2j:Stmt:=top 61
abbrev B3k:Stmt:=top 62
abbrev A7f:Stmt:=top 63
abbrev B5c:Stmt:=top 64
abbrev C9p:Stmt:=top 65
structure TyC (K:Frag) (C:Addr):Prop where
 ha:findIn K (.ref C) "__class__"=some (some (.builtin "object.__class__"))
 hn:specialIn K (.builtin "object.__class__") "__get__"=some (some (.builtin "getset_descriptor.__get__"))
 htk:takesIn K (.builtin "object.__class__")=some true
 hm:mroIn K C (.type "object")=some true
abbrev B9d:List Str:=["value"]
abbrev E0j:List Str:=["self","name","axes","sums","term"]
abbrev D9s:List Str:=["self","wheel","lengths","arrays","tables","lines","outs"]
abbrev D9d:List Str:=["self","number"]
abbrev E0a:List Str:=["self","array","indexes"]
abbrev C4m:List Str:=["self","left","right"]
abbrev D9w:List Str:=["self","axis","body"]
abbrev E0b:List Str:=["self","axis","low","high","inner","outer"]
abbrev E0s:List Str:=["self","inner","outer"]
abbrev D9g:List Str:=["self","term","sums","guards"]
abbrev B1s:List Str:=["term"]
abbrev D2g:List Str:=["self","name","axes","term"]
abbrev D4p:List Str:=["self","wheel","axes","tables","lets","outs"]
abbrev A9h:List Str:=["program"]
abbrev B1m:List Str:=["self","part"]
abbrev D2p:List Str:=["_law_script","_law_k"]
abbrev C4k:List Str:=["_law_cell_here","_law_k"]
abbrev D4g:List Str:=["_law_cell_here","_law_other","_law_many_here"]
abbrev C2z:List Str:=["_law_axes","_law_lengths"]
abbrev D2w:List Str:=["_law_rest","_law_given","_law_lengths","_law_most"]
abbrev D3n:List Str:=["_law_read","_law_guards","_law_rest","_law_lengths"]
abbrev D3t:List Str:=["_law_rest","_law_array","_law_scope","_law_lengths","_law_own"]
abbrev D4s:List Str:=["_law_rest","_law_arrays","_law_scope","_law_lengths"]
abbrev D4e:List Str:=["_law_rest","_law_arrays","_law_scope","_law_lengths","_law_own"]
abbrev D4f:List Str:=["_law_axis","_law_body","_law_rest","_law_lengths"]
abbrev C2x:List Str:=["_law_cells","_law_at","_law_scope","_law_book","_law_room"]
abbrev C4c:List Str:=["_law_tree","_law_lengths"]
abbrev D2f:List Str:=["_law_cells","_law_scope","_law_book","_law_most"]
abbrev D3i:List Str:=["_law_script","_law_names"]
abbrev C4f:List Str:=["_law_script"]
abbrev C2t:List Str:=["_law_tree"]
abbrev C3s:List Str:=["_law_program"]
abbrev C3z:List Str:=["_law_term"]
abbrev C3d:List Str:=["_law_tree","_law_at"]
abbrev D4v:List Str:=["_law_line","_law_tree","_law_known","_law_lengths"]
set_option genInjectivity false in
set_option genSizeOf false in
structure Adr where
 ay:Addr
 aj:Addr
 Bm:Addr
 ab:Addr
 ai:Addr
 ah:Addr
 c8:Addr
 a_:Addr
 am:Addr
 ao:Addr
 bn:Addr
 af:Addr
 av:Addr
 ce:Addr
 ag:Addr
 au:Addr
 fk:Addr
 fm:FuncData
 fh:Addr
 fi:FuncData
 rh:Addr
 xu:FuncData
 q9:Addr
 vj:FuncData
 mh:Addr
 uv:FuncData
 qf:Addr
 x6:FuncData
 rg:Addr
 xx:FuncData
 iq:Addr
 x8:FuncData
 ke:Addr
 u8:FuncData
 jp:Addr
 se:FuncData
 jt:Addr
 sd:FuncData
 uf:Addr
 yi:FuncData
 qd:Addr
 wm:FuncData
 jn:Addr
 sh:FuncData
 rf:Addr
 xm:FuncData
 yp:Addr
 yt:FuncData
 ge:Addr
 gb:FuncData
 kg:Addr
 lh:FuncData
 vd:Addr
 vf:FuncData
 uw:Addr
 uq:FuncData
 ug:Addr
 yl:FuncData
 kc:Addr
 sy:FuncData
 wo:Addr
 w8:FuncData
 uy:Addr
 v9:FuncData
 vy:Addr
 w6:FuncData
 yk:Addr
 yu:FuncData
 yq:Addr
 yg:FuncData
 n6:Addr
 um:FuncData
 ip:Addr
 pd:FuncData
 bc:Addr
 bo:FuncData
 fc:Addr
 iw:FuncData
 ga:Addr
 m9:FuncData
 zf:Addr
 zr:FuncData
 zy:Addr
 zd:FuncData
 zh:Addr
 zw:FuncData
 xi:Addr
 y8:FuncData
 zc:Addr
 zj:FuncData
 zY:Addr
 Ab:FuncData
 wf:Addr
 wz:FuncData
 uo:Addr
 ut:FuncData
 Ac:Addr
 zX:FuncData
 xr:Addr
 xq:FuncData
 x_:Addr
 xh:FuncData
 xj:Addr
 xy:FuncData
 ye:Addr
 xz:FuncData
 xw:Addr
 xg:FuncData
 yj:Addr
 yh:FuncData
 ox:Addr
 q0:FuncData
 jl:Addr
 ji:FuncData
 ym:Addr
 yr:FuncData
 tq:Addr
 uk:FuncData
 u9:Addr
 t7:FuncData
 py:Addr
 o_:FuncData
 qj:Addr
 qy:FuncData
 w_:Addr
 wg:FuncData
 zV:Addr
 Ah:FuncData
 iu:Addr
 ie:FuncData
 l_:Addr
 lq:FuncData
 zt:Addr
 zv:FuncData
 v7:Addr
 vg:FuncData
 zZ:Addr
 Aa:FuncData
 Bg:Addr
 Bj:FuncData
structure FQ (K:Frag) (mg:Str->Option Value) (x q:Str) (st:Stmt) (f:Addr) (fd:FuncData) (ps:List Str):Prop where
 F:Fun K x q st f fd
 m:mg x=some (.ref f)
 b:A8o K fd ps []
structure FM (K:Frag) (x q:Str) (st:Stmt) (f:Addr) (fd:FuncData) (ps:List Str):Prop where
 F:Fun K x q st f fd
 b:A8o K fd ps []
structure Txt (K:Frag) (mg:Str->Option Value) (t:Adr):Prop where
 aq:FQ K mg "copied" "copied" B5w t.fk t.fm B9d
 cr:FQ K mg "copied_dict" "copied_dict" A7i t.fh t.fi B9d
 im:FM K "__init__" "Line.__init__" A9b t.rh t.xu E0j
 jk:FM K "__init__" "Cloth.__init__" A7v t.q9 t.vj D9s
 dj:FM K "__init__" "Number.__init__" A7h t.mh t.uv D9d
 jb:FM K "__init__" "Place.__init__" A7t t.qf t.x6 ["self","axis"]
 ik:FM K "__init__" "Read.__init__" A9j t.rg t.xx E0a
 cg:FM K "__init__" "Pair.__init__" A9l t.iq t.x8 C4m
 gu:FM K "made_of" "Plus.made_of" A6m t.ke t.u8 C4m
 fw:FM K "made_of" "Minus.made_of" A5u t.jp t.se C4m
 g9:FM K "made_of" "Times.made_of" A5p t.jt t.sd C4m
 on:FM K "__init__" "Sum.__init__" B1a t.uf t.yi D9w
 gc:FM K "__init__" "Guard.__init__" A7w t.qd t.wm E0b
 cq:FM K "made_of" "Guard.made_of" A5r t.jn t.sh E0s
 cb:FM K "__init__" "Part.__init__" A8y t.rf t.xm D9g
 om:FQ K mg "parts_of" "parts_of" B0p t.yp t.yt B1s
 jj:FQ K mg "parts_from" "parts_from" A8b t.ge t.gb ["part"]
 bq:FQ K mg "parts_right_within" "parts_right_within" A4c t.kg t.lh ["part"]
 j0:FQ K mg "sums_at_top" "sums_at_top" A6z t.vd t.vf B1s
 fe:FQ K mg "within_sums" "within_sums" A7a t.uw t.uq ["part"]
 oq:FM K "__init__" "Let.__init__" B0q t.ug t.yl D2g
 gz:FM K "__init__" "Program.__init__" A6n t.kc t.sy D4p
 jm:FQ K mg "axis_names" "axis_names" A7y t.wo t.w8 A9h
 iy:FQ K mg "table_names" "table_names" A7l t.uy t.v9 A9h
 ja:FQ K mg "lengths_of" "lengths_of" A7x t.vy t.w6 A9h
 oo:FQ K mg "cloth_of" "cloth_of" B0r t.yk t.yu A9h
 ni:FQ K mg "lines_of" "lines_of" B0l t.yq t.yg A9h
 iz:FM K "__init__" "Lifter.__init__" A7d t.n6 t.um ["self","known"]
 ef:FM K "lift_let" "Lifter.lift_let" A4u t.ip t.pd ["self","let"]
 c9:FM K "without_sums" "Lifter.without_sums" A3q t.bc t.bo B1m
 nc:FM K "lift" "Lifter.lift" A6y t.fc t.iw B1m
 dh:FM K "fresh_name" "Lifter.fresh_name" A4f t.ga t.m9 ["self"]
 qw:FQ K mg "guarded" "guarded" B3a t.zf t.zr ["body","guards"]
 qr:FQ K mg "axes_in" "axes_in" B3g t.zy t.zd B1s
 qi:FQ K mg "axes_of" "axes_of" B3m t.zh t.zw B1s
 bh:FQ K mg "_law_cell_at" "_law_cell_at" A9m t.xi t.y8 D2p
 gh:FQ K mg "_law_mixed" "_law_mixed" B3v t.zc t.zj C4k
 j_:FQ K mg "_law_part" "_law_part" B5d t.zY t.Ab C4k
 jh:FQ K mg "_law_names_by" "_law_names_by" A8h t.wf t.wz D4g
 cv:FQ K mg "_law_number_by" "_law_number_by" A7g t.uo t.ut ["_law_rest"]
 ib:FQ K mg "_law_many" "_law_many" B5o t.Ac t.zX C2z
 fj:FQ K mg "_law_axes_by" "_law_axes_by" A8w t.xr t.xq D2w
 jx:FQ K mg "_law_guarded" "_law_guarded" A9c t.x_ t.xh D3n
 ir:FQ K mg "_law_read_by" "_law_read_by" A9a t.xj t.xy D3t
 kr:FQ K mg "_law_wild_by" "_law_wild_by" A8u t.ye t.xz D4s
 ij:FQ K mg "_law_leaf_by" "_law_leaf_by" A9f t.xw t.xg D4e
 jg:FQ K mg "_law_summed" "_law_summed" B0x t.yj t.yh D4f
 gq:FQ K mg "_law_grow" "_law_grow" B6k t.ox t.q0 C2x
 dy:FQ K mg "_law_weight" "_law_weight" B0m t.jl t.ji C4c
 oj:FQ K mg "_law_let_by" "_law_let_by" B0t t.ym t.yr D2f
 ia:FQ K mg "_law_lengths_by" "_law_lengths_by" A6h t.tq t.uk D3i
 gj:FQ K mg "_law_program_by" "_law_program_by" A6l t.u9 t.t7 C4f
 gy:FQ K mg "_law_made" "_law_made" B5t t.py t.o_ C2t
 e_:FQ K mg "_law_made_program" "_law_made_program" A5f t.qj t.qy C3s
 cz:FQ K mg "_law_cells_of" "_law_cells_of" A7u t.w_ t.wg C2z
 s_:FQ K mg "_law_cell" "_law_cell" B5i t.zV t.Ah ["_law_indexes","_law_at"]
 dz:FQ K mg "_law_tree_of" "_law_tree_of" A8x t.iu t.ie C3z
 gf:FQ K mg "_law_looks" "_law_looks" B2j t.l_ t.lq C3d
 qp:FQ K mg "_law_ahead" "_law_ahead" B3k t.zt t.zv ["_law_one","_law_other"]
 j7:FQ K mg "_law_good_line" "_law_good_line" A7f t.v7 t.vg D4v
 u7:FQ K mg "_law_work" "_law_work" B5c t.zZ t.Aa C3s
 AZ:FQ K mg "law" "law" C9p t.Bg t.Bj C4f
 zR:mg "Line"=some (.ref t.ay)
 AG:mg "Cloth"=some (.ref t.aj)
 pf:mg "Number"=some (.ref t.ab)
 wn:mg "Place"=some (.ref t.ai)
 ww:mg "Read"=some (.ref t.ah)
 zU:mg "Pair"=some (.ref t.c8)
 wq:mg "Plus"=some (.ref t.a_)
 sv:mg "Minus"=some (.ref t.am)
 wv:mg "Times"=some (.ref t.ao)
 yd:mg "Sum"=some (.ref t.bn)
 m7:mg "Guard"=some (.ref t.af)
 nj:mg "Part"=some (.ref t.av)
 Bh:mg "Let"=some (.ref t.ce)
 zm:mg "Program"=some (.ref t.ag)
 A7:mg "Lifter"=some (.ref t.au)
 gx:Cls K t.aj
 Ad:Mk K t.aj t.q9
 tf:A1q K t.aj "wheel"
 qu:A1q K t.aj "lengths"
 sj:A1q K t.aj "arrays"
 rm:A1q K t.aj "tables"
 lj:A1q K t.aj "lines"
 v8:A1q K t.aj "outs"
 Bk:TyC K t.aj
 Al:kitOne K (.ref t.aj) (.ref t.af)=some false
 z_:kitOne K (.ref t.aj) (.ref t.am)=some false
 zO:kitOne K (.ref t.aj) (.ref t.ab)=some false
 AD:kitOne K (.ref t.aj) (.ref t.c8)=some false
 zW:kitOne K (.ref t.aj) (.ref t.ai)=some false
 Ao:kitOne K (.ref t.aj) (.ref t.a_)=some false
 An:kitOne K (.ref t.aj) (.ref t.ah)=some false
 AN:kitOne K (.ref t.aj) (.ref t.bn)=some false
 Ak:kitOne K (.ref t.aj) (.ref t.ao)=some false
 ba:Cls K t.af
 y6:Mk K t.af t.qd
 fg:A1q K t.af "axis"
 j9:A1q K t.af "low"
 j6:A1q K t.af "high"
 g_:A1q K t.af "inner"
 gn:A1q K t.af "outer"
 fb:C1s K t.af "made_of" t.jn
 be:TyC K t.af
 h_:kitOne K (.ref t.af) (.ref t.af)=some true
 Am:kitOne K (.ref t.af) (.ref t.am)=some false
 rj:kitOne K (.ref t.af) (.ref t.ab)=some false
 m_:kitOne K (.ref t.af) (.ref t.c8)=some false
 kj:kitOne K (.ref t.af) (.ref t.ai)=some false
 AC:kitOne K (.ref t.af) (.ref t.a_)=some false
 ml:kitOne K (.ref t.af) (.ref t.ah)=some false
 jf:kitOne K (.ref t.af) (.ref t.bn)=some false
 zS:kitOne K (.ref t.af) (.ref t.ao)=some false
 og:Cls K t.ce
 Ba:Mk K t.ce t.ug
 r8:A1q K t.ce "name"
 re:A1q K t.ce "axes"
 rc:A1q K t.ce "term"
 B8:TyC K t.ce
 xo:mroIn K t.ce (.type "list")=some false
 vz:mroIn K t.ce (.type "tuple")=some false
 xb:mroIn K t.ce (.type "dict")=some false
 AI:kitOne K (.ref t.ce) (.ref t.af)=some false
 AM:kitOne K (.ref t.ce) (.ref t.am)=some false
 Ar:kitOne K (.ref t.ce) (.ref t.ab)=some false
 B4:kitOne K (.ref t.ce) (.ref t.c8)=some false
 AW:kitOne K (.ref t.ce) (.ref t.ai)=some false
 AX:kitOne K (.ref t.ce) (.ref t.a_)=some false
 AY:kitOne K (.ref t.ce) (.ref t.ah)=some false
 B7:kitOne K (.ref t.ce) (.ref t.bn)=some false
 AJ:kitOne K (.ref t.ce) (.ref t.ao)=some false
 bp:Cls K t.au
 zq:Mk K t.au t.n6
 jr:A1q K t.au "known"
 dm:A1q K t.au "lines"
 fz:A1q K t.au "lifts"
 kz:C1s K t.au "fresh_name" t.ga
 u5:C1s K t.au "lift" t.fc
 nw:C1s K t.au "lift_let" t.ip
 cj:C1s K t.au "without_sums" t.bc
 Bc:TyC K t.au
 zJ:kitOne K (.ref t.au) (.ref t.af)=some false
 zN:kitOne K (.ref t.au) (.ref t.am)=some false
 ze:kitOne K (.ref t.au) (.ref t.ab)=some false
 zP:kitOne K (.ref t.au) (.ref t.c8)=some false
 zG:kitOne K (.ref t.au) (.ref t.ai)=some false
 zT:kitOne K (.ref t.au) (.ref t.a_)=some false
 Ae:kitOne K (.ref t.au) (.ref t.ah)=some false
 AE:kitOne K (.ref t.au) (.ref t.bn)=some false
 zK:kitOne K (.ref t.au) (.ref t.ao)=some false
 bw:Cls K t.ay
 yy:Mk K t.ay t.rh
 c_:A1q K t.ay "name"
 d_:A1q K t.ay "axes"
 e8:A1q K t.ay "sums"
 p6:A1q K t.ay "term"
 AF:TyC K t.ay
 vk:mroIn K t.ay (.type "list")=some false
 u_:mroIn K t.ay (.type "tuple")=some false
 wx:mroIn K t.ay (.type "dict")=some false
 Aw:kitOne K (.ref t.ay) (.ref t.af)=some false
 Az:kitOne K (.ref t.ay) (.ref t.am)=some false
 Af:kitOne K (.ref t.ay) (.ref t.ab)=some false
 AL:kitOne K (.ref t.ay) (.ref t.c8)=some false
 Av:kitOne K (.ref t.ay) (.ref t.ai)=some false
 AV:kitOne K (.ref t.ay) (.ref t.a_)=some false
 AQ:kitOne K (.ref t.ay) (.ref t.ah)=some false
 B6:kitOne K (.ref t.ay) (.ref t.bn)=some false
 As:kitOne K (.ref t.ay) (.ref t.ao)=some false
 ou:Cls K t.am
 xp:Mk K t.am t.iq
 ur:A1q K t.am "left"
 u6:A1q K t.am "right"
 qv:C1s K t.am "made_of" t.jp
 bu:TyC K t.am
 ky:kitOne K (.ref t.am) (.ref t.af)=some false
 tz:kitOne K (.ref t.am) (.ref t.am)=some true
 rk:kitOne K (.ref t.am) (.ref t.ab)=some false
 mw:kitOne K (.ref t.am) (.ref t.c8)=some true
 kq:kitOne K (.ref t.am) (.ref t.ai)=some false
 vi:kitOne K (.ref t.am) (.ref t.a_)=some false
 mf:kitOne K (.ref t.am) (.ref t.ah)=some false
 pq:kitOne K (.ref t.am) (.ref t.bn)=some false
 ud:kitOne K (.ref t.am) (.ref t.ao)=some false
 cy:Cls K t.ab
 qh:Mk K t.ab t.mh
 df:A1q K t.ab "number"
 aw:TyC K t.ab
 jq:kitOne K (.ref t.ab) (.ref t.af)=some false
 zI:kitOne K (.ref t.ab) (.ref t.am)=some false
 qm:kitOne K (.ref t.ab) (.ref t.ab)=some true
 jz:kitOne K (.ref t.ab) (.ref t.c8)=some false
 sn:kitOne K (.ref t.ab) (.ref t.ai)=some false
 A8:kitOne K (.ref t.ab) (.ref t.a_)=some false
 ul:kitOne K (.ref t.ab) (.ref t.ah)=some false
 j1:kitOne K (.ref t.ab) (.ref t.bn)=some false
 zM:kitOne K (.ref t.ab) (.ref t.ao)=some false
 bj:Cls K t.av
 jc:Mk K t.av t.rf
 bx:A1q K t.av "term"
 ci:A1q K t.av "sums"
 c7:A1q K t.av "guards"
 Bl:TyC K t.av
 Au:kitOne K (.ref t.av) (.ref t.af)=some false
 Ap:kitOne K (.ref t.av) (.ref t.am)=some false
 A9:kitOne K (.ref t.av) (.ref t.ab)=some false
 AH:kitOne K (.ref t.av) (.ref t.c8)=some false
 AB:kitOne K (.ref t.av) (.ref t.ai)=some false
 AS:kitOne K (.ref t.av) (.ref t.a_)=some false
 AO:kitOne K (.ref t.av) (.ref t.ah)=some false
 A_:kitOne K (.ref t.av) (.ref t.bn)=some false
 Ax:kitOne K (.ref t.av) (.ref t.ao)=some false
 ft:Cls K t.ai
 Ai:Mk K t.ai t.qf
 i_:A1q K t.ai "axis"
 bf:TyC K t.ai
 jw:kitOne K (.ref t.ai) (.ref t.af)=some false
 A6:kitOne K (.ref t.ai) (.ref t.am)=some false
 r_:kitOne K (.ref t.ai) (.ref t.ab)=some false
 nh:kitOne K (.ref t.ai) (.ref t.c8)=some false
 kh:kitOne K (.ref t.ai) (.ref t.ai)=some true
 Aq:kitOne K (.ref t.ai) (.ref t.a_)=some false
 vh:kitOne K (.ref t.ai) (.ref t.ah)=some false
 jd:kitOne K (.ref t.ai) (.ref t.bn)=some false
 zQ:kitOne K (.ref t.ai) (.ref t.ao)=some false
 sr:Cls K t.a_
 yz:Mk K t.a_ t.iq
 wj:A1q K t.a_ "left"
 ve:A1q K t.a_ "right"
 si:C1s K t.a_ "made_of" t.ke
 cf:TyC K t.a_
 n8:kitOne K (.ref t.a_) (.ref t.af)=some false
 uu:kitOne K (.ref t.a_) (.ref t.am)=some false
 uc:kitOne K (.ref t.a_) (.ref t.ab)=some false
 px:kitOne K (.ref t.a_) (.ref t.c8)=some true
 ma:kitOne K (.ref t.a_) (.ref t.ai)=some false
 v_:kitOne K (.ref t.a_) (.ref t.a_)=some true
 qa:kitOne K (.ref t.a_) (.ref t.ah)=some false
 qz:kitOne K (.ref t.a_) (.ref t.bn)=some false
 ux:kitOne K (.ref t.a_) (.ref t.ao)=some false
 bt:Cls K t.ag
 yf:Mk K t.ag t.kc
 j8:A1q K t.ag "wheel"
 fu:A1q K t.ag "axes"
 eh:A1q K t.ag "tables"
 jo:A1q K t.ag "lets"
 ju:A1q K t.ag "outs"
 B9:TyC K t.ag
 zu:kitOne K (.ref t.ag) (.ref t.af)=some false
 zo:kitOne K (.ref t.ag) (.ref t.am)=some false
 y_:kitOne K (.ref t.ag) (.ref t.ab)=some false
 zL:kitOne K (.ref t.ag) (.ref t.c8)=some false
 zi:kitOne K (.ref t.ag) (.ref t.ai)=some false
 zF:kitOne K (.ref t.ag) (.ref t.a_)=some false
 zH:kitOne K (.ref t.ag) (.ref t.ah)=some false
 Aj:kitOne K (.ref t.ag) (.ref t.bn)=some false
 zx:kitOne K (.ref t.ag) (.ref t.ao)=some false
 ff:Cls K t.ah
 yw:Mk K t.ah t.rg
 n0:A1q K t.ah "array"
 f_:A1q K t.ah "indexes"
 br:TyC K t.ah
 mi:kitOne K (.ref t.ah) (.ref t.af)=some false
 Ay:kitOne K (.ref t.ah) (.ref t.am)=some false
 uh:kitOne K (.ref t.ah) (.ref t.ab)=some false
 ph:kitOne K (.ref t.ah) (.ref t.c8)=some false
 mn:kitOne K (.ref t.ah) (.ref t.ai)=some false
 AT:kitOne K (.ref t.ah) (.ref t.a_)=some false
 oz:kitOne K (.ref t.ah) (.ref t.ah)=some true
 jy:kitOne K (.ref t.ah) (.ref t.bn)=some false
 At:kitOne K (.ref t.ah) (.ref t.ao)=some false
 je:Cls K t.bn
 Bb:Mk K t.bn t.uf
 ko:A1q K t.bn "axis"
 k_:A1q K t.bn "body"
 di:TyC K t.bn
 wy:kitOne K (.ref t.bn) (.ref t.af)=some false
 AU:kitOne K (.ref t.bn) (.ref t.am)=some false
 AA:kitOne K (.ref t.bn) (.ref t.ab)=some false
 q_:kitOne K (.ref t.bn) (.ref t.c8)=some false
 vq:kitOne K (.ref t.bn) (.ref t.ai)=some false
 B5:kitOne K (.ref t.bn) (.ref t.a_)=some false
 xf:kitOne K (.ref t.bn) (.ref t.ah)=some false
 oh:kitOne K (.ref t.bn) (.ref t.bn)=some true
 AK:kitOne K (.ref t.bn) (.ref t.ao)=some false
 p_:Cls K t.ao
 yc:Mk K t.ao t.iq
 v0:A1q K t.ao "left"
 tw:A1q K t.ao "right"
 qg:C1s K t.ao "made_of" t.jt
 bv:TyC K t.ao
 kl:kitOne K (.ref t.ao) (.ref t.af)=some false
 t_:kitOne K (.ref t.ao) (.ref t.am)=some false
 rn:kitOne K (.ref t.ao) (.ref t.ab)=some false
 mr:kitOne K (.ref t.ao) (.ref t.c8)=some true
 jv:kitOne K (.ref t.ao) (.ref t.ai)=some false
 uz:kitOne K (.ref t.ao) (.ref t.a_)=some false
 mq:kitOne K (.ref t.ao) (.ref t.ah)=some false
 pw:kitOne K (.ref t.ao) (.ref t.bn)=some false
 ue:kitOne K (.ref t.ao) (.ref t.ao)=some true
 ae:mg "isinstance"=none
 gm:mg "list"=none
 ii:mg "tuple"=none
 nq:mg "dict"=none
 n_:mg "reversed"=none
 b_:mg "len"=none
 dw:mg "range"=none
 Ag:mg "int"=none
 Bf:mg "min"=none
 Bi:mg "max"=none
 Be:mg "zip"=none
abbrev FO (P:Program) (w:World) (base:Heap) {K:Frag} {mg:Str->Option Value} {x q:Str} {st:Stmt} {f:Addr} {fd:FuncData} {ps:List Str} (_:FQ K mg x q st f fd ps) (n:Nat) (sp:Sp):Prop:=A3h P w K mg base CX0 n f fd ps sp
abbrev FP (P:Program) (w:World) (mg:Str->Option Value) (base:Heap) {K:Frag} {x q:Str} {st:Stmt} {f:Addr} {fd:FuncData} {ps:List Str} (_:FM K x q st f fd ps) (n:Nat) (sp:Sp):Prop:=A3h P w K mg base CX0 n f fd ps sp
theorem pcl {X:Cx} {k k2:Nat} {sp:Sp} {q:Str} {st:Stmt} {e:Expr} {es:List Expr} {t:TA} {p pos:Pos} (F:A3h X.prog X.w X.K X.mg X.base CX0 k f fd ps sp) (hr:A9p k2 X.A) (Zz:FQ X.K X.mg x q st f fd ps) (ha:PA X (e::es) t) (hk:k<=k2:=by lia) (hg:Gl X x:=by rfl) (hdb:(x == ("__debug__":Str))=false:=by decide) (he:starEach (e::es) X.env=(false,eval e X.env)::starEach es X.env:=by rfl) (hpl:(backTo pos (starEach es X.env)).any (·.1)=false:=by rfl):PE X (.Call (.Name x p) (e::es) [] pos) (D8h sp [] E0 t):=D3v F (hr.mono hk) hg Zz.m Zz.F.kp Zz.b .nil B6h ha hdb he hpl
theorem pmk {X:Cx} {C:Addr} {k k2:Nat} {sp:Sp} {e:Expr} {es:List Expr} {t:TA} {p pos:Pos} (M:Mk X.K C f) (F:A3h X.prog X.w X.K X.mg X.base CX0 k f fd ps sp) (hr:A9p k2 X.A) (hm:X.mg x=some (.ref C)) (hb:A8o X.K fd ps []) (ha:PA X (e::es) t) (hk:k+1<=k2:=by lia) (hg:Gl X x:=by rfl) (hdb:(x == ("__debug__":Str))=false:=by decide) (he:starEach (e::es) X.env=(false,eval e X.env)::starEach es X.env:=by rfl) (hpl:(backTo pos (starEach es X.env)).any (·.1)=false:=by rfl):PE X (.Call (.Name x p) (e::es) [] pos) (D5x C sp [] E0 t):=D1z M F (hr.mono hk) hg hm hb .nil B6h ha hdb he hpl
theorem A0t (h:Nat.ble n 1000000=true):n<=sizeLine:=A2a (Nat.le_of_ble_eq_true h)
theorem E0r:(0:Int)<10:=by decide
theorem E0q:(0:Int)<15:=by decide
theorem D6r:(0:Int)<2:=by decide
theorem D7q:(0:Int)<26:=by decide
theorem D2h:(0:Int)<3:=by decide
theorem D6l:(0:Int)<4:=by decide
theorem E1b:(0:Int)<5:=by decide
theorem D9q:(0:Int)<60:=by decide
theorem E0x:(0:Int)<7:=by decide
theorem D8y:(0:Int)<8:=by decide
theorem z_90:(0:Int)<9:=by decide
theorem nH {x:Addr} (h:H x=none):∃H',A1c H H'/\H' x=some o/\upd H x o=H':=⟨_,A0f h,A0b,rfl⟩
abbrev Sro (a:Addr):Option V:=some (.ref a)
abbrev Sio (a:Int):Option V:=some (.int a)
abbrev Sso (a:Str):Option V:=some (.str a)
abbrev Sbo (a:Bool):Option V:=some (.bl a)
local macro_rules | `(tactic| walk_at "ix") => `(tactic| first | exact Or.inl rfl | exact Or.inr rfl | (simp [relabel]; rfl) | (with_unfolding_all exact Or.inl rfl) | (with_unfolding_all exact Or.inr rfl) | (with_unfolding_all decide))
local macro_rules | `(tactic| walk_at "sc") => `(tactic| exact ⟨rfl, rfl, rfl, by decide +kernel, rfl, by decide +kernel, by decide +kernel⟩)
local macro_rules | `(tactic| walk_at "ln") => `(tactic| (intro _ _ _ _ h; first | (cases h; subst_vars; rfl) | ((repeat (obtain ⟨_, h⟩ := h)); subst_vars; rfl)))
theorem B0b:A0z B9d ["value"] (A0n B5w):=by walk_at "sc"
theorem A4y:A0z ["value","fresh","key","member"] B9d (A0n A7i):=by walk_at "sc"
theorem B6v:A0z E0j ["self","name","axes","sums","term"] (A0n A9b):=by walk_at "sc"
theorem B6d:A0z D9s ["self","wheel","lengths","arrays","tables","lines","outs"] (A0n A7v):=by walk_at "sc"
theorem B4c:A0z D9d ["self","number"] (A0n A7h):=by walk_at "sc"
theorem B6m:A0z ["self","axis"] ["self","axis"] (A0n A7t):=by walk_at "sc"
theorem B8h:A0z E0a ["self","array","indexes"] (A0n A9j):=by walk_at "sc"
theorem B8t:A0z C4m ["self","left","right"] (A0n A9l):=by walk_at "sc"
theorem B2v:A0z C4m ["self","left","right"] (A0n A6m):=by walk_at "sc"
theorem B1l:A0z C4m ["self","left","right"] (A0n A5u):=by walk_at "sc"
theorem B1r:A0z C4m ["self","left","right"] (A0n A5p):=by walk_at "sc"
theorem C0y:A0z D9w ["self","axis","body"] (A0n B1a):=by walk_at "sc"
theorem B6g:A0z E0b ["self","axis","low","high","inner","outer"] (A0n A7w):=by walk_at "sc"
theorem B1q:A0z E0s ["self","inner","outer"] (A0n A5r):=by walk_at "sc"
theorem B8u:A0z D9g ["self","term","sums","guards"] (A0n A8y):=by walk_at "sc"
theorem B9l:A0z B1s ["term"] (A0n B0p):=by walk_at "sc"
theorem A7k:A0z ["part","parts","inner"] ["part"] (A0n A8b):=by walk_at "sc"
theorem A2w:A0z ["part","term","inner","outer"] ["part"] (A0n A4c):=by walk_at "sc"
theorem A4z:A0z ["term","axes","rest"] B1s (A0n A6z):=by walk_at "sc"
theorem A6k:A0z ["part","rest"] ["part"] (A0n A7a):=by walk_at "sc"
theorem B9z:A0z D2g ["self","name","axes","term"] (A0n B0q):=by walk_at "sc"
theorem B3u:A0z D4p ["self","wheel","axes","tables","lets","outs"] (A0n A6n):=by walk_at "sc"
theorem B5n:A0z A9h ["program"] (A0n A7y):=by walk_at "sc"
theorem B4j:A0z A9h ["program"] (A0n A7l):=by walk_at "sc"
theorem B6j:A0z A9h ["program"] (A0n A7x):=by walk_at "sc"
theorem A7e:A0z ["program","lines","arrays","line"] A9h (A0n B0r):=by walk_at "sc"
theorem A8v:A0z ["program","lifter","let"] A9h (A0n B0l):=by walk_at "sc"
theorem B4e:A0z ["self","known"] ["self","known"] (A0n A7d):=by walk_at "sc"
theorem A4k:A0z ["self","let","body","term"] ["self","let"] (A0n A4u):=by walk_at "sc"
theorem A4s:A0z ["self","part","within"] B1m (A0n A3q):=by walk_at "sc"
theorem A3l:A0z ["self","part","sums","term","coming","axes","name"] B1m (A0n A6y):=by walk_at "sc"
theorem A5k:A0z D9d ["self"] (A0n A4f):=by walk_at "sc"
theorem A5m:A0z ["body","guards","term","guard","inner"] ["body","guards"] (A0n B3a):=by walk_at "sc"
theorem B0k:A0z ["term","axes","part"] B1s (A0n B3g):=by walk_at "sc"
theorem C2r:A0z B1s ["term"] (A0n B3m):=by walk_at "sc"
theorem B9a:A0z D2p ["_law_script","_law_k"] (A0n A9m):=by walk_at "sc"
theorem C4i:A0z C4k ["_law_cell_here","_law_k"] (A0n B3v):=by walk_at "sc"
theorem A9z:A0z ["_law_cell_here","_law_k","_law_rest","_law_turn"] C4k (A0n B5d):=by walk_at "sc"
theorem A1y:A0z ["_law_cell_here","_law_other","_law_many_here","_law_some","_law_word","_law_rest","_law_k","_law_spot","_law_names","_law_sign","_law_made_here"] D4g (A0n A8h):=by walk_at "sc"
theorem B4k:A0z ["_law_rest"] ["_law_rest"] (A0n A7g):=by walk_at "sc"
theorem B0a:A0z ["_law_axes","_law_lengths","_law_many_here","_law_axis"] C2z (A0n B5o):=by walk_at "sc"
theorem A5e:A0z ["_law_rest","_law_given","_law_lengths","_law_most","_law_axes","_law_k","_law_axis"] D2w (A0n A8w):=by walk_at "sc"
theorem A3t:A0z ["_law_read","_law_guards","_law_rest","_law_lengths","_law_tree","_law_axis","_law_low","_law_high"] D3n (A0n A9c):=by walk_at "sc"
theorem A1u:A0z ["_law_rest","_law_array","_law_scope","_law_lengths","_law_own","_law_indexes","_law_guards","_law_step","_law_k","_law_length","_law_axis","_law_shift"] D3t (A0n A9a):=by walk_at "sc"
theorem A6e:A0z ["_law_rest","_law_arrays","_law_scope","_law_lengths","_law_array","_law_axis","_law_wild"] D4s (A0n A8u):=by walk_at "sc"
theorem A7z:A0z ["_law_rest","_law_arrays","_law_scope","_law_lengths","_law_own","_law_way"] D4e (A0n A9f):=by walk_at "sc"
theorem A3s:A0z ["_law_axis","_law_body","_law_rest","_law_lengths","_law_outside","_law_tree","_law_kept"] D4f (A0n B0x):=by walk_at "sc"
theorem A1o:A0z ["_law_cells","_law_at","_law_scope","_law_book","_law_room","_law_arrays","_law_lengths","_law_own","_law_rest","_law_way","_law_axis","_law_free","_law_body","_law_second","_law_inner","_law_low","_law_high","_law_outer","_law_left","_law_right"] C2x (A0n B6k):=by walk_at "sc"
theorem C0o:A0z C4c ["_law_tree","_law_lengths"] (A0n B0m):=by walk_at "sc"
theorem A2j:A0z ["_law_cells","_law_scope","_law_book","_law_most","_law_base","_law_row","_law_at","_law_tree","_law_fewer","_law_k","_law_made_here"] D2f (A0n B0t):=by walk_at "sc"
theorem A3w:A0z ["_law_script","_law_names","_law_lengths","_law_many_here","_law_k","_law_rest"] D3i (A0n A6h):=by walk_at "sc"
theorem A0w:A0z ["_law_script","_law_names","_law_lengths","_law_given","_law_arrays","_law_k","_law_rest","_law_tables","_law_lets","_law_many_here","_law_cells","_law_j","_law_axes","_law_most","_law_axis","_law_sums","_law_book","_law_tree","_law_wheel"] C4f (A0n A6l):=by walk_at "sc"
theorem B3d:A0z ["_law_tree","_law_left","_law_right"] C2t (A0n B5t):=by walk_at "sc"
theorem A1x:A0z ["_law_program","_law_wheel","_law_lengths","_law_tables","_law_lets","_law_outs","_law_axes","_law_some","_law_told"] C3s (A0n A5f):=by walk_at "sc"
theorem A3x:A0z ["_law_axes","_law_lengths","_law_found","_law_axis","_law_longer","_law_cell_here"] C2z (A0n A7u):=by walk_at "sc"
theorem A8e:A0z ["_law_indexes","_law_at","_law_cell_here","_law_axis","_law_shift"] ["_law_indexes","_law_at"] (A0n B5i):=by walk_at "sc"
theorem A5d:A0z ["_law_term","_law_inner","_law_outer","_law_left","_law_right"] C3z (A0n A8x):=by walk_at "sc"
theorem C3o:A0z C3d ["_law_tree","_law_at"] (A0n B2j):=by walk_at "sc"
theorem B4t:A0z ["_law_one","_law_other","_law_k"] ["_law_one","_law_other"] (A0n B3k):=by walk_at "sc"
theorem A3m:A0z ["_law_line","_law_tree","_law_known","_law_lengths","_law_own","_law_cell_here","_law_turn","_law_array","_law_looked"] D4v (A0n A7f):=by walk_at "sc"
theorem A3u:A0z ["_law_program","_law_wheel","_law_lengths","_law_tables","_law_lets","_law_outs","_law_work_here","_law_name","_law_axes","_law_tree"] C3s (A0n B5c):=by walk_at "sc"
theorem A7m:A0z ["_law_script","_law_program","_law_lengths","_law_cloth","_law_known","_law_name","_law_axes","_law_steps","_law_line","_law_tree","_law_turns"] C4f (A0n C9p):=by walk_at "sc"
theorem A5c:(["member"]:List Str).Nodup:=by decide +kernel
theorem B6y:(["name","length"]:List Str).Nodup:=by decide +kernel
theorem B7t:(["name","axes"]:List Str).Nodup:=by decide +kernel
theorem C6w:(["inner","self"]:List Str).Nodup:=by decide +kernel
theorem C6a:(["axis","coming","sums"]:List Str).Nodup:=by decide +kernel
theorem C5x:(["axis"]:List Str).Nodup:=by decide +kernel
theorem B7b:(["axis","shift"]:List Str).Nodup:=by decide +kernel
theorem C6t:(["_law_name","_law_axis","_law_rest"]:List Str).Nodup:=by decide +kernel
theorem C4s:(["_law_axis","_law_scope"]:List Str).Nodup:=by decide +kernel
theorem C8m:(["_law_axis","_law_axes"]:List Str).Nodup:=by decide +kernel
theorem C3r:(["_law_k","_law_cells"]:List Str).Nodup:=by decide +kernel
theorem C3k:(["_law_name","_law_lengths"]:List Str).Nodup:=by decide +kernel
theorem B4y:(["_law_name","_law_own"]:List Str).Nodup:=by decide +kernel
theorem B1d:(["_law_name","_law_own","_law_tree"]:List Str).Nodup:=by decide +kernel
theorem C3b:(["_law_number","_law_cell_here"]:List Str).Nodup:=by decide +kernel
theorem B4s:(["_law_axis","_law_shift"]:List Str).Nodup:=by decide +kernel
theorem A3h.none {P:Program} {w:World} {base:Heap} {CX:CXT} {k:Nat} {sp:Sp} (h:∀vs H Q E,¬sp vs H Q E):A3h P w K mg base CX k f fd ps sp :=
 ⟨λvs H Q E q=>(h vs H Q E q).elim,λ_ _ _ H _ _ vs Q E _ _ _ _ q=>(h vs H Q E q).elim⟩
def C4o (e:Str×List Str):PyData:= .tuple [.str e.1,.list (e.2.map PyData.str)]
def B4m (ts:List (Str×List Str)):PyData:= .list (ts.map C4o)
def B9e (xs:List Str):PyData:= .list (xs.map PyData.str)
theorem C0e:∀xs:List Str,PyData.depthAll (xs.map PyData.str)=0/\A4p (xs.map PyData.str)=xs.length
 | []=>⟨rfl,rfl⟩
 | x::r=>by
  obtain ⟨h2,h3⟩:=C0e r;refine ⟨?_,?_⟩
  ·simp [PyData.depthAll,PyData.depth,h2]
  ·simp [A4p,cnt,h3];lia
theorem A9n (xs:List Str):(B9e xs).depth<=1/\cnt (B9e xs)<=1+xs.length:=by
 obtain ⟨h2,h3⟩:=C0e xs;refine ⟨?_,?_⟩
 ·simp [B9e,PyData.depth,h2]
 ·simp only [B9e,cnt,h3];lia
theorem D8e {n:Nat}:∀ts:List (Str×List Str),(∀e∈ts,e.2.length<=n)->PyData.depthAll (ts.map C4o)<=2/\A4p (ts.map C4o)<=ts.length*(n+4)
 | [],_=>⟨by simp [PyData.depthAll],by simp [A4p]⟩
 | e::r,h=>by
  obtain ⟨h2,h3⟩:=D8e r λx hx=>h x (.tail _ hx);obtain ⟨g2,g3⟩:=C0e e.2;have hl:=h e (.head _);refine ⟨?_,?_⟩
  ·simp only [Z0p,C4o,PyData.depthAll,PyData.depth,g2]
   lia
  ·simp only [Z0p,C4o,A4p,cnt,g3,Z0y,Nat.add_mul,Nat.one_mul]
   lia
theorem C9q (ts:List (Str×List Str)) (h:∀e∈ts,e.2.length<=n):(B4m ts).depth<=3/\cnt (B4m ts)<=1+ts.length*(n+4):=by
 obtain ⟨h2,h3⟩:=D8e ts h;refine ⟨?_,?_⟩
 ·simp only [B4m,PyData.depth];lia
 ·simp only [B4m,cnt];lia
theorem D7p:∀ts:List (Str×Int),PyData.depthAll (ts.map B4a)<=1
 | []=>by simp [PyData.depthAll]
 | e::r=>by
  have h2:=D7p r;simp only [Z0p,B4a,PyData.depthAll,PyData.depth];lia
theorem C9n (ts:List (Str×Int)):(A5w ts).depth<=2:=by
 have h2:=D7p ts;simp only [A5w,PyData.depth];lia
theorem C7j {d:PyData} (h:d.canLay0=true) (hd:d.depth<=60):SeqAt.shaped d=true:=by
 unfold SeqAt.shaped;rw [h,Bool.true_and];exact Z20 (by lia)
theorem B9b {H:Hp}:∀{ys:List Str} {xs:List V},A4w H xs (ys.map PyData.str)->xs=ys.map V.str
 | [],_,r=>by cases r;rfl
 | y::ys,_,r=>by
  rw [Z0p] at r
  cases r with
  | cons a r =>
   cases a
   rw [Z0p,B9b r]
theorem B6a (h:Rep H v (B9e ys)):∃p,v= .ref p/\H p=some (.lst (ys.map V.str)):=by
 obtain ⟨p,xs,rfl,e,r⟩:=A5g (show Rep H v (.list (ys.map PyData.str)) from h);rw [B9b r] at e;exact i02 p rfl e
theorem C1a (e:H p=some (.lst (ys.map V.str))):Rep H (.ref p) (B9e ys):= .lst e (A4w.strs ys)
theorem D6o (h:Rep H v (C4o e)):∃b c,v= .ref b/\H b=some (.tup [.str e.1,.ref c])/\H c=some (.lst (e.2.map V.str)):=by
 unfold C4o at h
 cases h with
 | @tup b xs _ eb r =>
  cases r with
  | cons a r =>
   cases r with
   | cons a2 r =>
    cases r
    cases a
    obtain ⟨c,rfl,ec⟩:=B6a a2;exact i0f b c rfl eb ec
theorem D0a {e:Str×Int} (h:Rep H v (B4a e)):∃b,v= .ref b/\H b=some (.tup [.str e.1,.int e.2]):=by
 unfold B4a at h
 cases h with
 | @tup b xs _ eb r =>
  cases r with
  | cons a r =>
   cases r with
   | cons a2 r =>
    cases r
    cases a
    cases a2
    exact i02 b rfl eb
theorem B5s {α:Type} {f:α->PyData} {ts:List α} {xs:List V} (r:A4w H xs (ts.map f)) {x:V} (hx:xs[i]? =some x):∃e,ts[i]? =some e/\Rep H x (f e):=by
 obtain ⟨d,hd,rx⟩:=r.get2 hx;rw [Z1z] at hd;obtain ⟨e,he,rfl⟩:=Z0i.mp hd;exact i02 e he rx
def A5y (A:Adr):Op3->Addr
 | .plus=>A.a_
 | .minus=>A.am
 | .times=>A.ao
inductive Ob (A:Adr) (H:Hp):V->Tm->Prop
 | num {a dx:Addr} {z:Int}:H a=some (.ins A.ab dx [("number",.int z)])->Ob A H (.ref a) (.num z)
 | place {a dx:Addr} {x:Str}:H a=some (.ins A.ai dx [("axis",.str x)])->Ob A H (.ref a) (.place x)
 | read {a dx l:Addr} {x:Str} {ix:List (Str×Int)}:H a=some (.ins A.ah dx [("array",.str x),("indexes",.ref l)])->Rep H (.ref l) (A5w ix)->Ob A H (.ref a) (.read x ix)
 | sum {a dx:Addr} {x:Str} {u:V} {b:Tm}:H a=some (.ins A.bn dx [("axis",.str x),("body",u)])->Ob A H u b->Ob A H (.ref a) (.sum x b)
 | pair {a dx:Addr} {k:Op3} {u w:V} {l r:Tm}:H a=some (.ins (A5y A k) dx [("left",u),("right",w)])->Ob A H u l->Ob A H w r->Ob A H (.ref a) (.pair k l r)
 | guard {a dx:Addr} {x:Str} {lo hi:Int} {u w:V} {l r:Tm}:H a=some (.ins A.af dx [("axis",.str x),("low",.int lo),("high",.int hi),("inner",u),("outer",w)])->Ob A H u l->Ob A H w r->Ob A H (.ref a) (.guard x lo hi l r)
theorem Ob.imp (f:A1c H H') {t:Tm} (h:Ob A H v t):Ob A H' v t:=by
 induction h with
 | num e=>exact .num (f _ _ e)
 | place e=>exact .place (f _ _ e)
 | read e r=>exact .read (f _ _ e) (r.same f)
 | sum e _ ih=>exact .sum (f _ _ e) ih
 | pair e _ _ i1 i2=>exact .pair (f _ _ e) i1 i2
 | guard e _ _ i1 i2=>exact .guard (f _ _ e) i1 i2
abbrev Lt:=Str×List Str×Tm
def B9o (A:Adr) (S:Addr->Prop) (H:Hp) (v:V) (e:Lt):Prop:=∃(a dx c:Addr) (n:V) (dn:Unit),v= .ref a/\H a=some (.ins A.ce dx [("name",.str e.1),("axes",.ref c),("term",n)])/\S c/\H c=some (.lst (e.2.1.map V.str))/\Ob A H n e.2.2
abbrev D6u (A:Adr) (S:Addr->Prop) (H:Hp) (xs:List V) (ls:List Lt):Prop:=Paired (B9o A S H) xs ls
theorem B9o.same {e:Lt} (h:B9o A S H v e) (s:A1c H H'):B9o A S H' v e:=by
 obtain ⟨a,dx,c,n,dn,rfl,e1,s1,e2,e3⟩:=h;exact ⟨a,(i0y dx c n dn rfl (s _ _ e1) s1 (s _ _ e2) (e3.imp s))⟩
structure D0p (A:Adr) (H:Hp) (p:Addr) (wh:Int) (ax:List (Str×Int)) (tb:List (Str×List Str)) (ls:List Lt) (os:List Str):Prop where
 ob:∃dx a t l o,H p=some (.ins A.ag dx [("wheel",.int wh),("axes",.ref a),("tables",.ref t),("lets",.ref l),("outs",.ref o)])/\Rep H (.ref a) (A5w ax)/\Rep H (.ref t) (B4m tb)/\(∃xs,H l=some (.lst xs)/\D6u A (λ_=>True) H xs ls)/\Rep H (.ref o) (B9e os)
theorem D0p.same {wh:Int} (h:D0p A H p wh ax tb ls os) (s:A1c H H'):D0p A H' p wh ax tb ls os:=by
 obtain ⟨dx,a,t,l,o,e,r1,r2,⟨xs,e2,r3⟩,r4⟩:=h.ob;exact ⟨dx,a,t,l,o,s _ _ e,r1.same s,r2.same s,(i02 xs (s _ _ e2) (Paired.mapP r3 λ_ _ z=>z.same s)),r4.same s⟩
abbrev Gd:=Str×Int×Int×Bool
abbrev PT:=Tm×List Str×List Gd
noncomputable def prT:Tm->List Str->List Gd->List PT
 | .sum x b,s,g=>(.sum x b,s,g)::prT b (s++[x]) g
 | .pair k l r,s,g=>(.pair k l r,s,g)::(prT l s g++prT r s g)
 | .guard x lo hi l r,s,g=>(.guard x lo hi l r,s,g)::(prT l s (g++[(x,lo,hi,true)])++prT r s (g++[(x,lo,hi,false)]))
 | .num z,s,g=>[(.num z,s,g)]
 | .place x,s,g=>[(.place x,s,g)]
 | .read a i,s,g=>[(.read a i,s,g)]
noncomputable def B6n:Tm->List Str->List Gd->List PT
 | .sum x b,s,g=>[(b,s++[x],g)]
 | .pair _ l r,s,g=>[(l,s,g),(r,s,g)]
 | .guard x lo hi l r,s,g=>[(l,s,g++[(x,lo,hi,true)]),(r,s,g++[(x,lo,hi,false)])]
 | _,_,_=>[]
theorem C1y:∀(u:Tm) (s:List Str) (g:List Gd),prT u s g=(u,s,g)::(B6n u s g).flatMap λk=>prT k.1 k.2.1 k.2.2
 | .num _,_,_=>rfl
 | .place _,_,_=>rfl
 | .read _ _,_,_=>rfl
 | .sum x b,s,g=>by simp [prT,B6n]
 | .pair k l r,s,g=>by simp [prT,B6n]
 | .guard x lo hi l r,s,g=>by simp [prT,B6n]
theorem C9r {s:List Str} {k:PT} (h:k∈B6n u s g):dep k.1+1<=dep u:=by
 cases u with
 | num z=>cases h
 | place x=>cases h
 | read a ix=>cases h
 | sum x b=>rw [Z0w.mp h];simp [dep]
 | pair o l r =>
  simp only [B6n,Z0e,List.not_mem_nil,or_false] at h;rcases h with rfl | rfl <;> simp only [dep] <;> lia
 | guard x lo hi l r =>
  simp only [B6n,Z0e,List.not_mem_nil,or_false] at h;rcases h with rfl | rfl <;> simp only [dep] <;> lia
theorem A5t:∀(u:Tm) (s:List Str) (g:List Gd),(prT u s g).length=nod u
 | .num _,_,_=>rfl
 | .place _,_,_=>rfl
 | .read _ _,_,_=>rfl
 | .sum x b,s,g=>by simp [prT,nod,A5t b]
 | .pair k l r,s,g=>by simp [prT,nod,A5t l,A5t r]
 | .guard x lo hi l r,s,g=>by simp [prT,nod,A5t l,A5t r]
def D6t (A:Adr) (H:Hp) (v:V) (g:Gd):Prop:=∃(tp go dx:Addr) (u w:V),v= .ref tp/\H tp=some (.tup [.ref go,.bl g.2.2.2])/\H go=some (.ins A.af dx [("axis",.str g.1),("low",.int g.2.1),("high",.int g.2.2.1),("inner",u),("outer",w)])
theorem D6t.same {g:Gd} (h:D6t A H v g) (s:A1c H H'):D6t A H' v g:=by
 obtain ⟨tp,go,dx,u,w,rfl,e1,e2⟩:=h;exact i03 tp go (i0m dx u w rfl (s _ _ e1) (s _ _ e2))
def A3j (A:Adr) (H:Hp) (v:V) (e:PT):Prop:=∃a dx tv sl gl gs,v= .ref a/\H a=some (.ins A.av dx [("term",tv),("sums",.ref sl),("guards",.ref gl)])/\Ob A H tv e.1/\H sl=some (.lst (e.2.1.map V.str))/\H gl=some (.lst gs)/\gs.length+dep e.1<=100/\e.2.1.length+dep e.1<=100/\Paired (D6t A H) gs e.2.2
theorem A3j.same {e:PT} (h:A3j A H v e) (s:A1c H H'):A3j A H' v e:=by
 obtain ⟨a,dx,tv,sl,gl,gs,rfl,e1,o,e2,e3,r1,r2,r3⟩:=h;exact i1c a dx tv sl gl gs rfl (s _ _ e1) (o.imp s) (s _ _ e2) (s _ _ e3) r1 r2 (Paired.mapP r3 λ_ _ z=>z.same s)
local macro_rules | `(tactic| walk_at "lk") => `(tactic| first | with_reducible exact lk0 | (refine lk1 (by decide +kernel) ?_; walk_at "lk") | rfl)
theorem B3x {α β:Type} {F:α->β->Prop}:∀{l:List α} {m:List β},Paired F l m->∀{i:Nat} {x:α},l[i]? =some x->∃y,m[i]? =some y/\F x y
 | _,_,.nil,i,x,e=>by simp at e
 | _,_,.cons r t,0,x,e=>by simp at e;subst e;exact i02 _ rfl r
 | _,_,.cons r t,i+1,x,e=>by
  obtain ⟨y,e1,e2⟩:=B3x t (i:=i) (by simpa using e);exact i02 y (by simpa using e1) e2
theorem B1t {α β:Type} {F:α->β->Prop}:∀{a c:List α} {b d:List β},Paired F a b->Paired F c d->Paired F (a++c) (b++d)
 | _,_,_,_,.nil,h=>h
 | _,_,_,_,.cons r t,h=> .cons r (B1t t h)
def C2d (K:Frag) (f:Str):Sp:=λvs H Q _=>∃(p C dx:Addr) (v:V),vs=[.ref p,v]/\H p=some (.ins C dx [])/\Cls K C/\A1q K C f/\Q .non (upd H p (.ins C dx [(f,v)]))
def C1q (K:Frag) (f g:Str):Sp:=λvs H Q _=>∃(p C dx:Addr) (v u:V),vs=[.ref p,v,u]/\H p=some (.ins C dx [])/\Cls K C/\A1q K C f/\A1q K C g/\Q .non (upd H p (.ins C dx [(f,v),(g,u)]))
def C5q (n:Nat):Sp:=λvs H Q _=>∃(v:V) (d:PyData),vs=[v]/\Rep H v d/\PyData.depth d<=n/\cnt d<=100000/\∀(v':V) (H':Hp),A1c H H'->Rep (A1d (λa=>H a=none) H') v' d->Q v' H'
def D5s (C:Addr):Sp:=λvs H Q _=>∃(a dx:Addr) (fs:List (Str×V)),vs=[.ref a]/\H a=some (.ins C dx fs)/\Q (.ref a) H
def C7i (C:Addr):Sp:=λvs H Q _=>∃(p:Addr) (xs:List V),vs=[.ref p]/\H p=some (.lst xs)/\xs.length<=1000/\(∀x∈xs,∃a dx fs,x= .ref a/\H a=some (.ins C dx fs))/\∀(D:Addr) (H':Hp),H D=none->A1c H H'->H' D=some (.lst xs)->Q (.ref D) H'
def D5d:Sp:=λvs H Q _=>∃(d:Addr) (kvs:List (Key×V)) (ds:List PyData),vs=[.ref d]/\H d=some (.dK kvs)/\kvs.length<=100000/\Paired (λ(a:Key×V) (x:PyData)=>Rep H a.2 x/\PyData.depth x<=1/\cnt x<=100000) kvs ds/\
 ∀(p:Addr) (kvs':List (Key×V)) (H':Hp),H p=none->A1c H H'->H' p=some (.dK kvs')->kvs'.map (·.1)=kvs.map (·.1)->Paired (λ(b:Key×V) (x:PyData)=>Rep (A1d (λa=>H a=none) H') b.2 x) kvs' ds->Q (.ref p) H'
def C9a (A:Adr):Sp:=λvs H Q _=>∃(p dx:Addr) (a b c d e:V),vs=[.ref p,a,b,c,d,e]/\H p=some (.ins A.af dx [])/\Q .non (upd H p (.ins A.af dx [("axis",a),("low",b),("high",c),("inner",d),("outer",e)]))
def D0b (A:Adr):Sp:=λvs H Q _=>∃(p dx l:Addr) (x:Str) (ix:List (Str×Int)),vs=[.ref p,.str x,.ref l]/\H p=some (.ins A.ah dx [])/\Rep H (.ref l) (A5w ix)/\ix.length<=1000/\
 ∀(l':Addr) (H':Hp),H' p=some (.ins A.ah dx [("array",.str x),("indexes",.ref l')])->Rep (A1d (λb=>H b=none) H') (.ref l') (A5w ix)->(∀b o,b≠p->H b=some o->H' b=some o)->Q .non H'
variable {P:Program} {w:World} {K:Frag} {mg:Str->Option Value} {base:Heap} {t:Adr}
theorem A8t (T:Txt K mg t):FP P w mg base T.dj 1 (C2d K "number"):=by
 refine T.dj.F.ok B4c (by walk_at "ln") λ_ A _ s H _ Q E hr h=> ?_
 ·obtain ⟨p,C,dx,v,rfl,hp,cl,na,k⟩:=h;exact i02 _ (@A0g _ _ _ (A2d (pv 0) (pv 1) rfl)) (i1a _ rfl _ rfl p C dx [] rfl hp cl na (by decide) k)
theorem B6l (T:Txt K mg t):FP P w mg base T.jb 1 (C2d K "axis"):=by
 refine T.jb.F.ok B6m (by walk_at "ln") λ_ A _ s H _ Q E hr h=> ?_
 ·obtain ⟨p,C,dx,v,rfl,hp,cl,na,k⟩:=h;exact i02 _ (@A0g _ _ _ (A2d (pv 0) (pv 1) rfl)) (i1a _ rfl _ rfl p C dx [] rfl hp cl na (by decide) k)
theorem A6f (T:Txt K mg t):FP P w mg base T.cg 1 (C1q K "left" "right"):=by
 refine T.cg.F.ok B8t (by walk_at "ln") λ_ A _ s H _ Q E hr h=> ?_
 ·obtain ⟨p,C,dx,v,u,rfl,hp,cl,n1,n2,k⟩:=h;refine i02 _ (@A0c _ _ _ _ _ (A2d (pv 0) (pv 1) rfl) (@A0g _ _ _ (A2d (pv 0) (pv 2) rfl))) (i1a _ rfl _ rfl p C dx [] rfl hp cl n1 (by decide) (i1a _ rfl _ rfl p C dx _ rfl A0b cl n2 (by show 1<1000;decide) ?_));show Q V.non (upd (upd H p _) p (.ins C dx (A4r "right" u (A4r "left" v []))));rw [A5q,A1l,A1i (by decide +kernel),A1l];exact k
theorem B9p (T:Txt K mg t):FP P w mg base T.on 1 (C1q K "axis" "body"):=by
 refine T.on.F.ok C0y (by walk_at "ln") λ_ A _ s H _ Q E hr h=> ?_
 ·obtain ⟨p,C,dx,v,u,rfl,hp,cl,n1,n2,k⟩:=h;refine i02 _ (@A0c _ _ _ _ _ (A2d (pv 0) (pv 1) rfl) (@A0g _ _ _ (A2d (pv 0) (pv 2) rfl))) (i1a _ rfl _ rfl p C dx [] rfl hp cl n1 (by decide) (i1a _ rfl _ rfl p C dx _ rfl A0b cl n2 (by show 1<1000;decide) ?_));show Q V.non (upd (upd H p _) p (.ins C dx (A4r "body" u (A4r "axis" v []))));rw [A5q,A1l,A1i (by decide +kernel),A1l];exact k
theorem A5v (h:T="NoneType"\/T="bool"\/T="int"\/T="str"\/T="tuple"):∀u,A3i (.ty "list") u->kitOne K (.type T) u=some false:=by
 rcases h with rfl | rfl | rfl | rfl | rfl <;> exact B8e (by decide +kernel) (by decide +kernel) (by decide +kernel)
theorem A6d (h:T="NoneType"\/T="bool"\/T="int"\/T="str"):∀u,A3i (.ty "tuple") u->kitOne K (.type T) u=some false:=by
 rcases h with rfl | rfl | rfl | rfl <;> exact B8e (by decide +kernel) (by decide +kernel) (by decide +kernel)
theorem A7b (h:T="NoneType"\/T="bool"\/T="int"\/T="str"):∀u,A3i (.ty "dict") u->kitOne K (.type T) u=some false:=by
 rcases h with rfl | rfl | rfl | rfl <;> exact B8e (by decide +kernel) (by decide +kernel) (by decide +kernel)
theorem C1h (T:Txt K mg t) (Ga0:A3h P w K mg base CX0 m t.fk t.fm B9d sp')
  (hs:∀(v:V) (d:PyData) (H:Hp) (Q:VK),Rep H v d->PyData.depth d+1<=n->cnt d<=100000->(∀(v':V) (H':Hp),A1c H H'->Rep (A1d (λa=>H a=none) H') v' d->Q v' H')->sp' [v] H Q E0) :
  A3h P w K mg base CX0 (m+1) t.fk t.fm B9d (C5q n):=by
 refine T.aq.F.ok B0b (by walk_at "ln") λ_ A _ s H _ Q E hr h=> ?_
 ·obtain ⟨v,d,rfl,rp,hd,hc,k⟩:=h;have Ga1:A3h P w K mg base CX0 0 t.fh t.fi B9d (λ_ _ _ _=>False):=A3h.none λ_ _ _ _ h=>h;refine i02 _ (@A0c _ _ _ _ _ (@A1v _ _ _ _ _ _ _ _ (A2t (A0u A1j (by rfl) T.ae Z0d (A0a (pv 0) (A0a (A5j (v:=V.ty "list") rfl T.gm Z1o rfl) A0d)))) (@A0g _ _ _ (@A0s _ _ _ _ (A4e (N':=["member"]) (ix:=(List.replicate 1 none)) rfl (A2s rfl (by decide +kernel) (by decide +kernel)) (A2r rfl) (B1h (pv 0)) (λ_ _ _ _=>(A0m (i:=0) A5c rfl (.inl rfl))) (λ_ _ _ _=>(pcl Ga0 hr T.aq (A0a (pv 0) A0d)))))) A0x) (@A0c _ _ _ _ _ (@A1v _ _ _ _ _ _ _ _ (A2t (A0u A1j (by rfl) T.ae Z0d (A0a (pv 0) (A0a (A5j (v:=V.ty "tuple") rfl T.ii Z0m rfl) A0d)))) (@A0g _ _ _ (@A0s _ _ _ _ (A2k A5l (by rfl) T.ii Z0m (A0a (A4e (N':=["member"]) (ix:=(List.replicate 1 none)) rfl (A2s rfl (by decide +kernel) (by decide +kernel)) (A2r rfl) (B1h (pv 0)) (λ_ _ _ _=>(A0m (i:=0) A5c rfl (.inl rfl))) (λ_ _ _ _=>(pcl Ga0 hr T.aq (A0a (pv 0) A0d)))) A0d)))) A0x) (@A0c _ _ _ _ _ (@A1v _ _ _ _ _ _ _ _ (A2t (A0u A1j (by rfl) T.ae Z0d (A0a (pv 0) (A0a (A5j (v:=V.ty "dict") rfl T.nq Z2q rfl) A0d)))) (@A0g _ _ _ (@A0s _ _ _ _ (pcl Ga1 hr T.cr (A0a (pv 0) A0d)))) A0x) (@A0g _ _ _ (@A0s _ _ _ _ (pv 0)))))) ?_
  cases rp with
  | non =>
   refine i16 _ rfl _ _ _ _ rfl .non (A5v (.inl rfl)) false rfl (A2o ?_);refine i16 _ rfl _ _ _ _ rfl .non (A6d (.inl rfl)) false rfl (A2o ?_);exact i16 _ rfl _ _ _ _ rfl .non (A7b (.inl rfl)) false rfl (A2o (i02 _ rfl (k _ _ (A1c.refl _) .non)))
  | bl b =>
   refine i16 _ rfl _ _ _ _ rfl (.bl b) (A5v (.inr (.inl rfl))) false rfl (A2o ?_);refine i16 _ rfl _ _ _ _ rfl (.bl b) (A6d (.inr (.inl rfl))) false rfl (A2o ?_);exact i16 _ rfl _ _ _ _ rfl (.bl b) (A7b (.inr (.inl rfl))) false rfl (A2o (i02 _ rfl (k _ _ (A1c.refl _) (.bl b))))
  | int b =>
   refine i16 _ rfl _ _ _ _ rfl (.int b) (A5v (.inr (.inr (.inl rfl)))) false rfl (A2o ?_);refine i16 _ rfl _ _ _ _ rfl (.int b) (A6d (.inr (.inr (.inl rfl)))) false rfl (A2o ?_);exact i16 _ rfl _ _ _ _ rfl (.int b) (A7b (.inr (.inr (.inl rfl)))) false rfl (A2o (i02 _ rfl (k _ _ (A1c.refl _) (.int b))))
  | str b =>
   refine i16 _ rfl _ _ _ _ rfl (.str b) (A5v (.inr (.inr (.inr (.inl rfl))))) false rfl (A2o ?_);refine i16 _ rfl _ _ _ _ rfl (.str b) (A6d (.inr (.inr (.inr rfl)))) false rfl (A2o ?_);exact i16 _ rfl _ _ _ _ rfl (.str b) (A7b (.inr (.inr (.inr rfl)))) false rfl (A2o (i02 _ rfl (k _ _ (A1c.refl _) (.str b))))
  | @lst p xs ds e r =>
   have hl1:=r.len;have hl2:=C0w ds;have hc':A4p ds+1<=100000:=hc;have hd':PyData.depthAll ds+1<=n:=hd;refine i16 _ rfl _ _ _ _ rfl (.lst e) (B1y "list") true rfl (A5z ?_);refine .inl (i0k _ rfl p rfl ⟨_,SqL.of e⟩ λD hD=> ?_)
   refine A3k (K:=K) (a:=p) (D:=D) (xs:=xs) (λi ys H2=>A1c H H2/\H2 D=some (.lst ys)/\A4w (A1d (λa=>H a=none/\a≠D) H2) ys (ds.take i)/\ys.length=i)
    (i04 (A0f hD) A0b (by rw [List.take_zero];exact .nil) rfl) (λi ys H2 ⟨s2,_⟩=>SqL.of (s2 _ _ e)) ?_ ?_
   ·rintro i x ys H2 hx ⟨s2,hD2,rs,hyl⟩;obtain ⟨d,hdi,rx⟩:=r.get2 hx;obtain ⟨c1,c2⟩:=C5z hdi;have hi:i<xs.length:=(Z03.mp hx).1;refine i05 True.intro _ rfl (hs x d H2 _ (rx.same s2) (by lia) (by lia) λv' H5 s5 rp5=> ?_);have hnS:¬(H D=none/\D≠D):=λz=>z.2 rfl;refine i0h (s5 _ _ hD2) (A1s (by lia)) (A0r (s2.trans s5) hD) A0b ?_ (by simp [hyl]);rw [Z14,hdi];show A4w _ (ys++[v']) (ds.take i++[d]);refine (rs.same (A2p (A0i s5) hnS)).snoc (rp5.same ((A2q (A1c.refl _) λa o _ ha=>⟨s2.free ha,λz=> ?_⟩).trans (A2p (A1c.refl _) hnS)));subst z;rw [hD2] at ha;cases ha
   ·rintro ys H2 ⟨s2,hD2,rs,hyl⟩;refine k (.ref D) H2 s2 (.lst (A0j hD hD2) ?_);rw [hl1,Z18] at rs;exact rs.same (A2q (A1c.refl _) λa o _ h=>h.1)
  | @tup p xs ds e r =>
   have hl1:=r.len;have hl2:=C0w ds;have hc':A4p ds+1<=100000:=hc;have hd':PyData.depthAll ds+1<=n:=hd;refine i16 _ rfl _ _ _ _ rfl (.tup e) (A5v (.inr (.inr (.inr (.inr rfl))))) false rfl (A2o ?_);refine i16 _ rfl _ _ _ _ rfl (.tup e) (B1y "tuple") true rfl (A5z ?_);refine .inr (i0k _ rfl p rfl ⟨_,SqT.of e⟩ λD hD=> ?_)
   refine C5s (K:=K) (a:=p) (D:=D) (xs:=xs) (λi ys H2=>A1c H H2/\H2 D=some (.lst ys)/\A4w (A1d (λa=>H a=none/\a≠D) H2) ys (ds.take i)/\ys.length=i)
    (i04 (A0f hD) A0b (by rw [List.take_zero];exact .nil) rfl) (λi ys H2 ⟨s2,_⟩=>SqT.of (s2 _ _ e)) ?_ ?_
   ·rintro i x ys H2 hx ⟨s2,hD2,rs,hyl⟩;obtain ⟨d,hdi,rx⟩:=r.get2 hx;obtain ⟨c1,c2⟩:=C5z hdi;have hi:i<xs.length:=(Z03.mp hx).1;refine i05 True.intro _ rfl (hs x d H2 _ (rx.same s2) (by lia) (by lia) λv' H5 s5 rp5=> ?_);have hnS:¬(H D=none/\D≠D):=λz=>z.2 rfl;refine i0h (s5 _ _ hD2) (A1s (by lia)) (A0r (s2.trans s5) hD) A0b ?_ (by simp [hyl]);rw [Z14,hdi];show A4w _ (ys++[v']) (ds.take i++[d]);refine (rs.same (A2p (A0i s5) hnS)).snoc (rp5.same ((A2q (A1c.refl _) λa o _ ha=>⟨s2.free ha,λz=> ?_⟩).trans (A2p (A1c.refl _) hnS)));subst z;rw [hD2] at ha;cases ha
   ·rintro ys H2 ⟨s2,hD2,rs,hyl⟩;refine i07 D ys rfl (.inl ⟨SqL.of hD2,λl hl=> ?_⟩);refine k (.ref l) _ (s2.trans (A0f hl)) (.tup (A0j (s2.free hl) A0b) ?_);rw [hl1,Z18] at rs;exact rs.same ((A2q (A1c.refl _) λa o _ h=>h.1).trans (A0i (A0f hl)))
theorem B0d (T:Txt K mg t):∀n:Nat,A3h P w K mg base CX0 (n+1) t.fk t.fm B9d (C5q n)
 | 0=>C1h T (sp':=λ_ _ _ _=>False) (m:=0) (A3h.none λ_ _ _ _ h=>h) λv d H Q _ h=>absurd h (by lia)
 | n+1=>C1h T (B0d T n) λv d H Q rp hd hc k=>(i0o v d rfl rp (by lia) hc k)
theorem D3z (T:Txt K mg t) {C:Addr} (cl:Cls K C) (tc:TyC K C) (m1:mroIn K C (.type "list")=some false) (m2:mroIn K C (.type "tuple")=some false) (m3:mroIn K C (.type "dict")=some false):A3h P w K mg base CX0 1 t.fk t.fm B9d (D5s C):=by
 refine T.aq.F.ok B0b (by walk_at "ln") λ_ A _ s H _ Q E hr h=> ?_
 ·obtain ⟨a,dx,fs,rfl,e,k⟩:=h;have Ga0:A3h P w K mg base CX0 0 t.fk t.fm B9d (λ_ _ _ _=>False):=A3h.none λ_ _ _ _ h=>h;have ty:A8j K H (.ref a) (.ref C):= .ins e cl tc.ha tc.hn tc.htk tc.hm;have Ga1:A3h P w K mg base CX0 0 t.fh t.fi B9d (λ_ _ _ _=>False):=A3h.none λ_ _ _ _ h=>h;refine i02 _ (@A0c _ _ _ _ _ (@A1v _ _ _ _ _ _ _ _ (A2t (A0u A1j (by rfl) T.ae Z0d (A0a (pv 0) (A0a (A5j (v:=V.ty "list") rfl T.gm Z1o rfl) A0d)))) (@A0g _ _ _ (@A0s _ _ _ _ (A4e (N':=["member"]) (ix:=(List.replicate 1 none)) rfl (A2s rfl (by decide +kernel) (by decide +kernel)) (A2r rfl) (B1h (pv 0)) (λ_ _ _ _=>(A0m (i:=0) A5c rfl (.inl rfl))) (λ_ _ _ _=>(pcl Ga0 hr T.aq (A0a (pv 0) A0d)))))) A0x) (@A0c _ _ _ _ _ (@A1v _ _ _ _ _ _ _ _ (A2t (A0u A1j (by rfl) T.ae Z0d (A0a (pv 0) (A0a (A5j (v:=V.ty "tuple") rfl T.ii Z0m rfl) A0d)))) (@A0g _ _ _ (@A0s _ _ _ _ (A2k A5l (by rfl) T.ii Z0m (A0a (A4e (N':=["member"]) (ix:=(List.replicate 1 none)) rfl (A2s rfl (by decide +kernel) (by decide +kernel)) (A2r rfl) (B1h (pv 0)) (λ_ _ _ _=>(A0m (i:=0) A5c rfl (.inl rfl))) (λ_ _ _ _=>(pcl Ga0 hr T.aq (A0a (pv 0) A0d)))) A0d)))) A0x) (@A0c _ _ _ _ _ (@A1v _ _ _ _ _ _ _ _ (A2t (A0u A1j (by rfl) T.ae Z0d (A0a (pv 0) (A0a (A5j (v:=V.ty "dict") rfl T.nq Z2q rfl) A0d)))) (@A0g _ _ _ (@A0s _ _ _ _ (pcl Ga1 hr T.cr (A0a (pv 0) A0d)))) A0x) (@A0g _ _ _ (@A0s _ _ _ _ (pv 0)))))) ?_;refine i16 _ rfl _ _ _ _ rfl ty (C5v m1 (by decide +kernel)) false rfl (A2o ?_);refine i16 _ rfl _ _ _ _ rfl ty (C5v m2 (by decide +kernel)) false rfl (A2o ?_);exact i16 _ rfl _ _ _ _ rfl ty (C5v m3 (by decide +kernel)) false rfl (A2o (i02 _ rfl k))
theorem C5k (T:Txt K mg t) {C:Addr} (cl:Cls K C) (tc:TyC K C) (m1:mroIn K C (.type "list")=some false) (m2:mroIn K C (.type "tuple")=some false) (m3:mroIn K C (.type "dict")=some false):A3h P w K mg base CX0 2 t.fk t.fm B9d (C7i C):=by
 have Ga0:= @D3z P w K mg base t T _ cl tc m1 m2 m3;refine T.aq.F.ok B0b (by walk_at "ln") λ_ A _ s H _ Q E hr h=> ?_
 ·obtain ⟨p,xs,rfl,e,hl,hx,k⟩:=h;have Ga1:A3h P w K mg base CX0 0 t.fh t.fi B9d (λ_ _ _ _=>False):=A3h.none λ_ _ _ _ h=>h;refine i02 _ (@A0c _ _ _ _ _ (@A1v _ _ _ _ _ _ _ _ (A2t (A0u A1j (by rfl) T.ae Z0d (A0a (pv 0) (A0a (A5j (v:=V.ty "list") rfl T.gm Z1o rfl) A0d)))) (@A0g _ _ _ (@A0s _ _ _ _ (A4e (N':=["member"]) (ix:=(List.replicate 1 none)) rfl (A2s rfl (by decide +kernel) (by decide +kernel)) (A2r rfl) (B1h (pv 0)) (λ_ _ _ _=>(A0m (i:=0) A5c rfl (.inl rfl))) (λ_ _ _ _=>(pcl Ga0 hr T.aq (A0a (pv 0) A0d)))))) A0x) (@A0c _ _ _ _ _ (@A1v _ _ _ _ _ _ _ _ (A2t (A0u A1j (by rfl) T.ae Z0d (A0a (pv 0) (A0a (A5j (v:=V.ty "tuple") rfl T.ii Z0m rfl) A0d)))) (@A0g _ _ _ (@A0s _ _ _ _ (A2k A5l (by rfl) T.ii Z0m (A0a (A4e (N':=["member"]) (ix:=(List.replicate 1 none)) rfl (A2s rfl (by decide +kernel) (by decide +kernel)) (A2r rfl) (B1h (pv 0)) (λ_ _ _ _=>(A0m (i:=0) A5c rfl (.inl rfl))) (λ_ _ _ _=>(pcl Ga0 hr T.aq (A0a (pv 0) A0d)))) A0d)))) A0x) (@A0c _ _ _ _ _ (@A1v _ _ _ _ _ _ _ _ (A2t (A0u A1j (by rfl) T.ae Z0d (A0a (pv 0) (A0a (A5j (v:=V.ty "dict") rfl T.nq Z2q rfl) A0d)))) (@A0g _ _ _ (@A0s _ _ _ _ (pcl Ga1 hr T.cr (A0a (pv 0) A0d)))) A0x) (@A0g _ _ _ (@A0s _ _ _ _ (pv 0)))))) ?_;refine i16 _ rfl _ _ _ _ rfl (.lst e) (B1y "list") true rfl (A5z ?_);refine .inl (i0k _ rfl p rfl ⟨_,SqL.of e⟩ λD hD=> ?_)
  refine A3k (K:=K) (a:=p) (D:=D) (xs:=xs) (λi ys H2=>A1c H H2/\H2 D=some (.lst ys)/\ys=xs.take i)
   (i00 (A0f hD) A0b rfl) (λi ys H2 ⟨s2,_⟩=>SqL.of (s2 _ _ e)) ?_ ?_
  ·rintro i x ys H2 hxi ⟨s2,hD2,rfl⟩;obtain ⟨a,dx,fs,rfl,ea⟩:=hx x (Z13 hxi);have hlt:(xs.take i).length<=xs.length:=by rw [Z0x];lia
   refine ⟨True.intro,(i0x _ rfl a dx fs rfl (s2 _ _ ea) hD2 (i04 (A1s (by lia)) (A0r s2 hD) A0b ?_))⟩;rw [Z14,hxi];rfl
  ·rintro ys H2 ⟨s2,hD2,rfl⟩;rw [Z18] at hD2;exact k D H2 hD s2 hD2
theorem B4l (T:Txt K mg t):FO P w base T.cr 3 D5d:=by
 have Ga0:= @B0d P w K mg base t T 1;refine T.cr.F.ok A4y (by walk_at "ln") λ_ A _ s H _ Q E hr h=> ?_
 ·obtain ⟨d,kvs,ds,rfl,hd,hl,src,k⟩:=h;have hu:=A7r hr;refine i02 _ (D0m (@A0c _ _ _ _ _ (@A0l _ _ 1 _ _ _ _ A4y.nd rfl (.inl rfl) B5x rfl (.inl rfl)) (@A0c _ _ _ _ _ (A2y PassesOwn.never rfl (C9t (D8d PySem.F.plainAttrs_dict PySem.F.slot_dict_items PySem.F.type_dict_items D0s (pv 0))) (A3z (n:=2) rfl (A0y (A0m (i:=2) A4y.nd rfl (.inl rfl)) (A0y (A0m (i:=3) A4y.nd rfl (.inl rfl)) A2v))) (@A0g _ _ _ (@B0w _ _ _ _ _ _ _ _ _ hu (pv 1) (pv 2) (pcl Ga0 hr T.aq (A0a (pv 3) A0d)) rfl))) (C4v (@A0g _ _ _ (@A0s _ _ _ _ (pv 1))))))) ?_;intro ap;have nd:=ap.1 d kvs hd;refine λp hp=> ?_;have dp:d≠p:=A1e hd hp;have hd1:upd H p (.dK []) d=some (.dK kvs):=by rw [A0k dp];exact hd
  refine i06 _ rfl (.inr (.inr (.inl ⟨rfl,.inl ⟨_,hd1⟩⟩))) (i0o d _ rfl rfl hd1 (.inl ⟨_,rfl⟩) λvw hvw=> ?_);have vp:p≠vw:=A1e A0b hvw;have dv:d≠vw:=A1e hd1 hvw;refine i0q vw d _ rfl A0b (by rw [A0k dv];exact hd1) (.inl (i02 kvs rfl λo=> ?_));have hv0:H vw=none:=by rw [A0k vp.symm] at hvw;exact hvw
  have g0:A1c (upd H d (.frz o (.dK kvs))) (upd (upd (upd H p (.dK [])) vw (C3l vw d)) d (.frz o (.dK kvs))):=λb v e=>by
   by_cases hb:b=d
   ·subst hb;rw [A0b] at e⊢;exact e
   ·rw [A0k hb] at e⊢;rw [A0k (A1e e hv0),A0k (A1e e hp)];exact e
  have hpG:upd H d (.frz o (.dK kvs)) p=none:=by rw [A0k dp.symm];exact hp
  have nd0:∀b,upd H d (.frz o (.dK kvs)) b=none->H b=none:=λb e=>by
   by_cases hb:b=d
   ·subst hb;rw [A0b] at e;cases e
   ·rw [A0k hb] at e;exact e
  refine C8g (L:=kvs.map λq=>(kV q.1,q.2)) (λi Z H4=>∃(o2 o3:Option V) (ws:List (Key×V)),Z=[Sro d,Sro p,o2,o3]/\A1c (upd H d (.frz o (.dK kvs))) H4/\H4 p=some (.dK ws)/\ws.map (·.1)=(kvs.take i).map (·.1)/\Paired (λ(b:Key×V) (x:PyData)=>Rep (A1d (λa=>H a=none/\a≠p) H4) b.2 x) ws (ds.take i))
   (i0t none none [] rfl g0 (by rw [A0k dp.symm,A0k vp,A0b]) rfl .nil) (λi Z H4 zq=>by obtain ⟨_,_,_,_,s4,_⟩:=zq;exact s4 _ _ A0b) ?_ ?_
  ·rintro i kx vx q Z H4 hx hq ⟨o2,o3,ws,rfl,s4,h4,ks,cp⟩;rw [Z1z] at hx;obtain ⟨⟨k',v⟩,hk,e⟩:=Z0i.mp hx;cases e;obtain ⟨x,hxd,rv,dv1,cv1⟩:=B3x src hk;have sq:A1c H4 (upd H4 q (.tup [kV k',v])):=A0f hq;have rv4:Rep (upd H4 q (.tup [kV k',v])) v x:=(rv.imp2 (λb ys z=>s4 _ _ (by rw [A0k (A3p z hd (by intro w;cases w))];exact z)) λb ys z=>s4 _ _ (by rw [A0k (A3p z hd (by intro w;cases w))];exact z)).same sq;refine i19 q _ rfl (SqT.of A0b) rfl _ _ rfl _ _ rfl rfl (i0r _ rfl v x rfl rv4 dv1 ⟨cv1,λv' H6 s6 r6=> ?_⟩);have h6:=s6 _ _ (sq _ _ h4);have lw:ws.length=(kvs.take i).length:=by have:=congrArg List.length ks;simpa using this
   have lt2:(kvs.take i).length<=kvs.length:=by rw [Z0x];lia
   refine i0w _ rfl _ rfl p _ rfl (C8s.k (k:=k') h6 (A1s (by lia))) ?_;have hnS:¬(H p=none/\p≠p):=λz=>z.2 rfl;refine i0t _ _ _ rfl (A0r (s4.trans (sq.trans s6)) hpG) A0b ?_ ?_
   ·rw [B2b nd hk ws ks v',Z14,hk,Z0s,Z0s,ks];rfl
   ·rw [B2b nd hk ws ks v',Z14,hxd];refine B1t (Paired.mapP cp λ_ _ z=>z.same (A2p (A0i (sq.trans s6)) hnS)) (.cons (r6.same ((A2q (A1c.refl _) λa ob ea ha=>⟨?_,λz=> ?_⟩).trans (A2p (A1c.refl _) hnS))) .nil)
    ·exact nd0 a (s4.free (sq.free ha))
    ·subst z;rw [sq _ _ h4] at ha;cases ha
  ·rintro Z H4 ⟨o2,o3,ws,rfl,s4,h4,ks,cp⟩;have ld:=Paired.length src;rw [Z08,Z18] at ks;rw [Z08,ld,Z18] at cp;have hd4:H4 d=some (.frz o (.dK kvs)):=s4 _ _ A0b;refine i0g d o _ hd4 (i0a (.inl ⟨_,rfl⟩) (λo' u' z=>by have z:H d=some (.frz o' u'):=z;rw [hd] at z;cases z) _ rfl ?_);have hnd:¬(H d=none/\d≠p):=λz=>by rw [hd] at z;cases z.1
   exact k p ws _ hp (C6m hd s4) (by rw [A0k dp.symm];exact h4) ks (Paired.mapP cp λ_ _ z=>z.same ((A2p (A1c.refl _) hnd).trans (A2q (A1c.refl _) λa ob _ h=>h.1)))
theorem D3y (T:Txt K mg t):FO P w base T.aq 4 D5d:=by
 have Ga1:= @B4l P w K mg base t T;have Ga0:A3h P w K mg base CX0 0 t.fk t.fm B9d (λ_ _ _ _=>False):=A3h.none λ_ _ _ _ h=>h;refine T.aq.F.ok B0b (by walk_at "ln") λ_ A _ s H _ Q E hr h=> ?_
 ·have h0:=h;obtain ⟨d,kvs,ds,rfl,hd,_⟩:=h;refine i02 _ (@A0c _ _ _ _ _ (@A1v _ _ _ _ _ _ _ _ (A2t (A0u A1j (by rfl) T.ae Z0d (A0a (pv 0) (A0a (A5j (v:=V.ty "list") rfl T.gm Z1o rfl) A0d)))) (@A0g _ _ _ (@A0s _ _ _ _ (A4e (N':=["member"]) (ix:=(List.replicate 1 none)) rfl (A2s rfl (by decide +kernel) (by decide +kernel)) (A2r rfl) (B1h (pv 0)) (λ_ _ _ _=>(A0m (i:=0) A5c rfl (.inl rfl))) (λ_ _ _ _=>(pcl Ga0 hr T.aq (A0a (pv 0) A0d)))))) A0x) (@A0c _ _ _ _ _ (@A1v _ _ _ _ _ _ _ _ (A2t (A0u A1j (by rfl) T.ae Z0d (A0a (pv 0) (A0a (A5j (v:=V.ty "tuple") rfl T.ii Z0m rfl) A0d)))) (@A0g _ _ _ (@A0s _ _ _ _ (A2k A5l (by rfl) T.ii Z0m (A0a (A4e (N':=["member"]) (ix:=(List.replicate 1 none)) rfl (A2s rfl (by decide +kernel) (by decide +kernel)) (A2r rfl) (B1h (pv 0)) (λ_ _ _ _=>(A0m (i:=0) A5c rfl (.inl rfl))) (λ_ _ _ _=>(pcl Ga0 hr T.aq (A0a (pv 0) A0d)))) A0d)))) A0x) (@A0c _ _ _ _ _ (@A1v _ _ _ _ _ _ _ _ (A2t (A0u A1j (by rfl) T.ae Z0d (A0a (pv 0) (A0a (A5j (v:=V.ty "dict") rfl T.nq Z2q rfl) A0d)))) (@A0g _ _ _ (@A0s _ _ _ _ (pcl Ga1 hr T.cr (A0a (pv 0) A0d)))) A0x) (@A0g _ _ _ (@A0s _ _ _ _ (pv 0)))))) ?_;refine i16 _ rfl _ _ _ _ rfl (.dK hd) (B8e (by decide +kernel) (by decide +kernel) (by decide +kernel)) false rfl (A2o ?_);refine i16 _ rfl _ _ _ _ rfl (.dK hd) (B8e (by decide +kernel) (by decide +kernel) (by decide +kernel)) false rfl (A2o ?_);exact i16 _ rfl _ _ _ _ rfl (.dK hd) (B1y "dict") true rfl (A5z (i02 _ rfl h0))
def D6a (A:Adr):Sp:=λvs H Q E=>((C5q 3 vs H Q E\/C7i A.ce vs H Q E)\/C7i A.ay vs H Q E)\/D5d vs H Q E
theorem C1p (T:Txt K mg t):FO P w base T.aq 4 (D6a t) :=
 A3h.or (A3h.or (A3h.or (B0d T 3) ((C5k T T.og T.B8 T.xo T.vz T.xb).mono (by lia))) ((C5k T T.bw T.AF T.vk T.u_ T.wx).mono (by lia))) (D3y T)
theorem B0i (T:Txt K mg t):FP P w mg base T.gc 1 (C9a t):=by
 refine T.gc.F.ok B6g (by walk_at "ln") λ_ A _ s H _ Q E hr h=> ?_
 ·obtain ⟨p,dx,a,b,c,d,e,rfl,hp,k⟩:=h;have e1:A4r "low" b (A4r "axis" a [])=([("axis",a),("low",b)]:List (Str×V)):=by rw [A1l,A1i (by decide +kernel),A1l]
  have e2:A4r "high" c ([("axis",a),("low",b)]:List (Str×V))=([("axis",a),("low",b),("high",c)]:List (Str×V)):=by rw [A1i (by decide +kernel),A1i (by decide +kernel),A1l]
  have e3:A4r "inner" d ([("axis",a),("low",b),("high",c)]:List (Str×V))=([("axis",a),("low",b),("high",c),("inner",d)]:List (Str×V)):=by rw [A1i (by decide +kernel),A1i (by decide +kernel),A1i (by decide +kernel),A1l]
  have e4:A4r "outer" e ([("axis",a),("low",b),("high",c),("inner",d)]:List (Str×V))=([("axis",a),("low",b),("high",c),("inner",d),("outer",e)]:List (Str×V)):=by rw [A1i (by decide +kernel),A1i (by decide +kernel),A1i (by decide +kernel),A1i (by decide +kernel),A1l]
  refine i02 _ (@A0c _ _ _ _ _ (A2d (pv 0) (pv 1) rfl) (@A0c _ _ _ _ _ (A2d (pv 0) (pv 2) rfl) (@A0c _ _ _ _ _ (A2d (pv 0) (pv 3) rfl) (@A0c _ _ _ _ _ (A2d (pv 0) (pv 4) rfl) (@A0g _ _ _ (A2d (pv 0) (pv 5) rfl)))))) (i1a _ rfl _ rfl p _ dx [] rfl hp T.ba T.fg (by decide) (i1a _ rfl _ rfl p _ dx _ rfl A0b T.ba T.j9 (by show 1<1000;decide) ?_));rw [A5q,e1];refine i1a _ rfl _ rfl p _ dx _ rfl A0b T.ba T.j6 (by show 2<1000;decide) ?_;rw [A5q,e2];refine i1a _ rfl _ rfl p _ dx _ rfl A0b T.ba T.g_ (by show 3<1000;decide) ?_;rw [A5q,e3];refine i1a _ rfl _ rfl p _ dx _ rfl A0b T.ba T.gn (by show 4<1000;decide) ?_;show Q V.non (upd (upd H p _) p _);rw [A5q,e4];exact k
theorem B1i (T:Txt K mg t):FP P w mg base T.ik 5 (D0b t):=by
 have Ga0:= @B0d P w K mg base t T 2;refine T.ik.F.ok B8h (by walk_at "ln") λ_ A _ s H _ Q E hr h=> ?_
 ·obtain ⟨p,dx,l,x,ix,rfl,hp,rp,hix,k⟩:=h;have hcn:=D1w (ix:=ix);refine i02 _ (@A0c _ _ _ _ _ (A2d (pv 0) (pv 1) rfl) (@A0g _ _ _ (A2d (pv 0) (pcl Ga0 hr T.aq (A0a (pv 2) A0d)) rfl))) (i1a _ rfl _ rfl p _ dx [] rfl hp T.ff T.n0 (by decide) ?_);refine i0r _ rfl (.ref l) (A5w ix) rfl (rp.ins hp) C8w ⟨by lia,λv' H2 s2 rp2=> ?_⟩;have hp2:=s2 _ _ (A0b (H:=H) (a:=p));obtain ⟨l',xs,rfl,el,rs⟩:=A5g (show Rep _ v' (.list (ix.map B4a)) from rp2);refine i15 _ rfl p _ dx _ rfl hp2 T.ff T.f_ (by show 1<1000;decide) ?_;show Q V.non (upd H2 p (.ins t.ah dx (A4r "indexes" (.ref l') (A4r "array" (.str x) []))));rw [A1l,A1i (by decide +kernel),A1l]
  have fr:∀{q:Addr},upd H p (.ins t.ah dx (A4r "array" (.str x) [])) q=none->H q=none:=λ{q} z=>by
   by_cases zb:q=p
   ·subst zb;rw [A0b] at z;cases z
   ·rw [A0k zb] at z;exact z
  refine k l' _ A0b (rp2.imp2 (λq ys z=>A0j (fr (A0p z).1) (by rw [A0k (A3p (A0p z).2 hp2 (by intro z;cases z))];exact (A0p z).2)) λq ys z=>A0j (fr (A0p z).1) (by rw [A0k (A3p (A0p z).2 hp2 (by intro z;cases z))];exact (A0p z).2)) λb o hb e=> ?_;rw [A0k hb];exact s2 _ _ (by rw [A0k hb];exact e)
def KT (H H':Hp):Prop:=∀p xs,H p=some (.tup xs)->H' p=some (.tup xs)
def KB (p:Addr) (H H':Hp):Prop:=∀b o,b≠p->H b=some o->H' b=some o
theorem KB.upd (k:KB p H H'):KB p H (upd H' p o):=λb u hb e=>by rw [A0k hb];exact k b u hb e
theorem KB.refl:KB p H H:=λ_ _ _ e=>e
theorem KB.trans {H2:Hp} (a:KB p H H') (b:KB p H' H2):KB p H H2:=λc o hc e=>b c o hc (a c o hc e)
theorem KB.of (s:A1c H H'):KB p H H':=λb o _ e=>s _ _ e
theorem KB.free {b:Addr} {u:HO} (k:KB p H H') (hp:H' p=some u) (hb:H' b=none):H b=none:=by
 cases e:H b with
 | none=>rfl
 | some o =>
  have hne:b≠p:=λz=>by subst z;rw [hp] at hb;cases hb
  rw [k b o hne e] at hb;cases hb
theorem KB.same {H2:Hp} (s:A1c H H2) (k:KB p H2 H') (hp:H p=none):A1c H H':=λb o e=>k b o (A1e e hp) (s _ _ e)
abbrev AR (S:Addr->Prop) (H:Hp) (kvs:List (Key×V)) (es:List (Str×List Str)):Prop:=Paired (λ(p:Key×V) (e:Str×List Str)=>p.1=Sum.inr e.1/\∃b,p.2= .ref b/\S b/\H b=some (.lst (e.2.map V.str))) kvs es
theorem AR.imp {S':Addr->Prop} (h:AR S H kvs es) (f:∀b xs,S b->H b=some (.lst xs)->S' b/\H' b=some (.lst xs)):AR S' H' kvs es :=
 Paired.mapP h λ_ _ ⟨z1,b,z2,z3,z4⟩=>⟨z1,(i06 b z2 ((f b _ z3 z4).1) ((f b _ z3 z4).2))⟩
theorem AR.same (h:AR S H kvs es) (s:A1c H H'):AR S H' kvs es:=h.imp λb xs z e=>⟨z,s _ _ e⟩
theorem AR.src {S:Addr->Prop} {H:Hp}:∀{kvs:List (Key×V)} {es:List (Str×List Str)},AR S H kvs es->(∀e∈es,e.2.length<=100)->Paired (λ(a:Key×V) (x:PyData)=>Rep H a.2 x/\PyData.depth x<=1/\cnt x<=100000) kvs (es.map λe=>B9e e.2)
 | _,_,.nil,_=> .nil
 | _,_,@Paired.cons _ _ _ p e _ _ ⟨_,b,z2,_,z4⟩ t,h=>by
  obtain ⟨c2,c3⟩:=A9n e.2;have:=h e (.head _);exact .cons (i00 (by rw [z2];exact C1a z4) c2 (by show cnt (B9e e.2)<=100000;lia)) (AR.src t λx hx=>h x (.tail _ hx))
theorem D5q {S S':Addr->Prop} {H H':Hp}:∀{kvs kvs':List (Key×V)} {es:List (Str×List Str)},AR S H kvs es->kvs'.map (·.1)=kvs.map (·.1)->Paired (λ(b:Key×V) (x:PyData)=>Rep (A1d S' H') b.2 x) kvs' (es.map λe=>B9e e.2)->AR S' H' kvs' es
 | _,[],_,.nil,_,_=> .nil
 | _,_::_,_,.nil,ks,_=>by cases ks
 | _,[],_,.cons _ _,ks,_=>by cases ks
 | _,q::r,_,@Paired.cons _ _ _ p e _ _ ⟨z1,_⟩ t,ks,pr=>by
  rw [Z0p,Z0p] at ks;injection ks with k1 k2;rw [Z0p] at pr
  cases pr with
  | cons a pr =>
   obtain ⟨b,e1,e2⟩:=B6a a;exact .cons ⟨k1.trans z1,(i06 b e1 ((A0p e2).1) ((A0p e2).2))⟩ (D5q t k2 pr)
abbrev C9u (kvs:List (Key×V)) (is:List Int):Prop:=Paired (λ(p:Key×V) (i:Int)=>p.2= .int i) kvs is
theorem C2h {H:Hp}:∀{kvs:List (Key×V)} {is:List Int},C9u kvs is->Paired (λ(a:Key×V) (x:PyData)=>Rep H a.2 x/\PyData.depth x<=1/\cnt x<=100000) kvs (is.map PyData.int)
 | _,_,.nil=> .nil
 | _,_,.cons a t=> .cons (i00 (by rw [a];exact .int _) (by simp [PyData.depth]) (by simp [cnt])) (C2h t)
theorem C4q {S:Addr->Prop} {H:Hp}:∀{kvs kvs':List (Key×V)} {is:List Int},C9u kvs is->kvs'.map (·.1)=kvs.map (·.1)->Paired (λ(b:Key×V) (x:PyData)=>Rep (A1d S H) b.2 x) kvs' (is.map PyData.int)->kvs'=kvs
 | _,[],_,.nil,_,_=>rfl
 | _,_::_,_,.nil,ks,_=>by cases ks
 | _,[],_,.cons _ _,ks,_=>by cases ks
 | _,q::r,_,@Paired.cons _ _ _ p i _ _ a t,ks,pr=>by
  rw [Z0p,Z0p] at ks;injection ks with k1 k2;rw [Z0p] at pr
  cases pr with
  | cons b pr =>
   rw [C4q t k2 pr];have hb:=C0n b;have:q=p:=Prod.ext k1 (hb.trans a.symm);rw [this]
def C5r (A:Adr):Sp:=λvs H Q _=>∃(p dx l m:Addr) (n:V) (x:Str) (ys zs:List Str),vs=[.ref p,.str x,.ref l,.ref m,n]/\H p=some (.ins A.ay dx [])/\H l=some (.lst (ys.map V.str))/\H m=some (.lst (zs.map V.str))/\ys.length<=1000/\zs.length<=1000/\
 ∀(c u:Addr) (H':Hp),H c=none->H u=none->H' p=some (.ins A.ay dx [("name",.str x),("axes",.ref c),("sums",.ref u),("term",n)])->H' c=some (.lst (ys.map V.str))->H' u=some (.lst (zs.map V.str))->KB p H H'->Q .non H'
abbrev clo (A:Adr) (dx:Addr) (wh:Int) (l a tb ln o:Addr):HO:= .ins A.aj dx [("wheel",.int wh),("lengths",.ref l),("arrays",.ref a),("tables",.ref tb),("lines",.ref ln),("outs",.ref o)]
def C9w (A:Adr):Sp:=λvs H Q _=>∃(p dx ld ad tl lv ol:Addr) (wh:Int) (lk ak:List (Key×V)) (is:List Int) (es:List (Str×List Str)) (tb os:List Str) (xs:List V) (S:Addr->Prop),vs=[.ref p,.int wh,.ref ld,.ref ad,.ref tl,.ref lv,.ref ol]/\H p=some (.ins A.aj dx [])/\
 H ld=some (.dK lk)/\C9u lk is/\lk.length<=1000/\H ad=some (.dK ak)/\AR S H ak es/\es.length<=1000/\(∀e∈es,e.2.length<=100)/\H tl=some (.lst (tb.map V.str))/\tb.length<=1000/\H lv=some (.lst xs)/\xs.length<=1000/\(∀x∈xs,∃a dx fs,x= .ref a/\a≠p/\H a=some (.ins A.ay dx fs))/\H ol=some (.lst (os.map V.str))/\os.length<=1000/\
 ∀(l' a' t' v' o':Addr) (ak':List (Key×V)) (H':Hp),H' p=some (clo A dx wh l' a' t' v' o')->H l'=none->H' l'=some (.dK lk)->H a'=none->H' a'=some (.dK ak')->AR (λb=>H b=none) H' ak' es->H t'=none->H' t'=some (.lst (tb.map V.str))->H v'=none->H' v'=some (.lst xs)->H o'=none->H' o'=some (.lst (os.map V.str))->KB p H H'->Q .non H'
def C9i (A:Adr):Sp:=λvs H Q _=>∃(p dx l:Addr) (n:V) (x:Str) (ys:List Str),vs=[.ref p,.str x,.ref l,n]/\H p=some (.ins A.ce dx [])/\H l=some (.lst (ys.map V.str))/\ys.length<=1000/\
 ∀(c:Addr) (H':Hp),H c=none->H' p=some (.ins A.ce dx [("name",.str x),("axes",.ref c),("term",n)])->H' c=some (.lst (ys.map V.str))->(∀b o,b≠p->H b=some o->H' b=some o)->Q .non H'
def D0f (A:Adr):Sp:=λvs H Q _=>∃(p dx a t l o:Addr) (wh:Int) (ax:List (Str×Int)) (tb:List (Str×List Str)) (xs:List V) (os:List Str),vs=[.ref p,.int wh,.ref a,.ref t,.ref l,.ref o]/\H p=some (.ins A.ag dx [])/\
 Rep H (.ref a) (A5w ax)/\ax.length<=1000/\Rep H (.ref t) (B4m tb)/\tb.length<=1000/\(∀e∈tb,e.2.length<=10)/\H l=some (.lst xs)/\xs.length<=1000/\(∀x∈xs,∃a dx fs,x= .ref a/\a≠p/\H a=some (.ins A.ce dx fs))/\H o=some (.lst (os.map V.str))/\os.length<=1000/\
 ∀(a' t' l' o':Addr) (H':Hp),H' p=some (.ins A.ag dx [("wheel",.int wh),("axes",.ref a'),("tables",.ref t'),("lets",.ref l'),("outs",.ref o')])->Rep H' (.ref a') (A5w ax)->Rep H' (.ref t') (B4m tb)->H' l'=some (.lst xs)->H' o'=some (.lst (os.map V.str))->KB p H H'->Q .non H'
def C5a (A:Adr):Sp:=λvs H Q _=>∃(p dx:Addr) (v:V),vs=[.ref p,v]/\H p=some (.ins A.au dx [])/\∀(l:Addr) (H':Hp),H l=none->H' p=some (.ins A.au dx [("known",v),("lines",.ref l),("lifts",.int 0)])->H' l=some (.lst [])->KB p H H'->Q .non H'
def D6x (A:Adr):Sp:=λvs H Q _=>∃(p:Addr) (wh:Int) (ax:List (Str×Int)) (tb:List (Str×List Str)) (ls:List Lt) (os:List Str),vs=[.ref p]/\D0p A H p wh ax tb ls os/\ax.length<=100/\∀(q:Addr) (H':Hp),H q=none->A1c H H'->H' q=some (.lst ((ax.map (·.1)).map V.str))->Q (.ref q) H'
def D7e (A:Adr):Sp:=λvs H Q _=>∃(p:Addr) (wh:Int) (ax:List (Str×Int)) (tb:List (Str×List Str)) (ls:List Lt) (os:List Str),vs=[.ref p]/\D0p A H p wh ax tb ls os/\tb.length<=100/\∀(q:Addr) (H':Hp),H q=none->A1c H H'->H' q=some (.lst ((tb.map (·.1)).map V.str))->Q (.ref q) H'
def A2i (ax:List (Str×Int)):List (Key×V):=ax.map λe=>(Sum.inr e.1,V.int e.2)
theorem D5m {H:Hp}:∀{ax:List (Str×Int)} {xs:List V},A4w H xs (ax.map B4a)->PL H xs (A2i ax)
 | [],_,r=>by cases r;exact .nil
 | e::ax,_,r=>by
  rw [Z0p] at r
  cases r with
  | cons a r =>
   obtain ⟨b,rfl,eb⟩:=D0a a;exact .cons (i02 b rfl eb) (D5m r)
theorem D8f {H:Hp}:∀{tb:List (Str×List Str)} {xs:List V},A4w H xs (tb.map C4o)->∃kvs,PL H xs kvs/\AR (λ_=>True) H kvs tb
 | [],_,r=>by cases r;exact i02 [] .nil .nil
 | e::tb,_,r=>by
  rw [Z0p] at r
  cases r with
  | cons a r =>
   obtain ⟨b,c,rfl,eb,ec⟩:=D6o a;obtain ⟨kvs,h1,h2⟩:=D8f r;exact i02 ((Sum.inr e.1,.ref c)::kvs) (.cons (i02 b rfl eb) h1) (.cons ⟨rfl,(i06 c rfl True.intro ec)⟩ h2)
theorem B2k (n:(ws.map (·.1)).Nodup):A4h [] ws=ws:=by
 have key:∀i,i<=ws.length->A4h [] (ws.take i)=ws.take i:=by
  intro i
  induction i with
  | zero=>intro _;rfl
  | succ i ih =>
   intro hi;have e:ws[i]? =some ws[i]:=Z0b (by lia);rw [Z14,e,Z2f,C0m,ih (by lia)];exact B2b (k:=ws[i].1) (v:=ws[i].2) n e (ws.take i) rfl ws[i].2
 have:=key ws.length (Z09 _)
 rwa [Z18] at this
theorem D5a (n:(es.map (·.1)).Nodup) (h:es[i]? =some e) (ks:ws.map (·.1)=(es.take i).map λe=>(Sum.inr e.1:Key)) (u:V):A9y ws (Sum.inr e.1) u=ws++[(Sum.inr e.1,u)]:=by
 have nd:((es.map λe=>((Sum.inr e.1:Key),V.non)).map (·.1)).Nodup:=by
  rw [List.map_map];have:(es.map ((λx=>x.1)∘λe=>((Sum.inr e.1:Key),V.non)))=(es.map (·.1)).map (Sum.inr:Str->Key):=by rw [List.map_map];rfl
  rw [this];exact List.Pairwise.map _ (λa b h z=>h (by injection z)) n
 exact B2b (v:=V.non) nd (by rw [Z1z,h];rfl) ws (by rw [ks,<-List.map_take,List.map_map];rfl) u
def D8i (A:Adr):Sp:=λvs H Q _=>∃(p:Addr) (wh:Int) (ax:List (Str×Int)) (tb:List (Str×List Str)) (ls:List Lt) (os:List Str),vs=[.ref p]/\D0p A H p wh ax tb ls os/\(ax.map (·.1)).Nodup/\∀q,H q=none->Q (.ref q) (upd H q (.dK (A2i ax)))
theorem B1f (T:Txt K mg t):FP P w mg base T.im 5 (C5r t):=by
 have Ga0:= @C1p P w K mg base t T;refine T.im.F.ok B6v (by walk_at "ln") λ_ A _ s H _ Q E hr h=> ?_
 ·refine e09 h ?_;clear h;rintro p dx l m n ⟨x,ys,zs,rfl,hp,hl,hm,ly,lz,k⟩;obtain ⟨c2,c3⟩:=A9n ys;obtain ⟨d2,d3⟩:=A9n zs;have lp:l≠p:=A3p hl hp (by intro z;cases z);have mp:m≠p:=A3p hm hp (by intro z;cases z);have e1:∀v:V,A4r "axes" v [("name",.str x)]=([("name",.str x),("axes",v)]:List (Str×V)):=λv=>by rw [A1i (by decide +kernel),A1l]
  have e2:∀u v:V,A4r "sums" v [("name",.str x),("axes",u)]=([("name",.str x),("axes",u),("sums",v)]:List (Str×V)):=λu v=>by rw [A1i (by decide +kernel),A1i (by decide +kernel),A1l]
  have e3:∀u1 u v:V,A4r "term" v [("name",.str x),("axes",u1),("sums",u)]=([("name",.str x),("axes",u1),("sums",u),("term",v)]:List (Str×V)):=λu1 u v=>by rw [A1i (by decide +kernel),A1i (by decide +kernel),A1i (by decide +kernel),A1l]
  refine i02 _ (@A0c _ _ _ _ _ (A2d (pv 0) (pv 1) rfl) (@A0c _ _ _ _ _ (A2d (pv 0) (pcl Ga0 hr T.aq (A0a (pv 2) A0d)) rfl) (@A0c _ _ _ _ _ (A2d (pv 0) (pcl Ga0 hr T.aq (A0a (pv 3) A0d)) rfl) (@A0g _ _ _ (A2d (pv 0) (pv 4) rfl))))) (i1a _ rfl _ rfl p _ dx [] rfl hp T.bw T.c_ (by decide) ?_);rw [A1l];have k1:KB p H (upd H p (.ins t.ay dx [("name",.str x)])):=KB.refl.upd;refine i02 _ rfl (.inl (.inl (.inl (i0o (.ref l) (B9e ys) rfl (C1a (k1 _ _ lp hl)) (by lia) (by lia) λv' H2 s2 rp2=> ?_))));have hp2:=s2 _ _ (A0b (H:=H) (a:=p));obtain ⟨c,rfl,ec⟩:=B6a rp2;obtain ⟨hc1,ec⟩:=A0p ec;have hcn:H c=none:=k1.free A0b hc1;have cp:c≠p:=λz=>by subst z;rw [hp] at hcn;cases hcn
  refine i15 _ rfl p _ dx _ rfl hp2 T.bw T.d_ (by show 1<1000;decide) ?_;rw [e1];have k2:KB p H (upd H2 p (.ins t.ay dx [("name",.str x),("axes",.ref c)])):=(k1.trans (KB.of s2)).upd;refine i02 _ rfl (.inl (.inl (.inl (i0o (.ref m) (B9e zs) rfl (C1a (k2 _ _ mp hm)) (by lia) (by lia) λv'' H3 s3 rp3=> ?_))));have hp3:=s3 _ _ (A0b (H:=H2) (a:=p));obtain ⟨u,rfl,eu⟩:=B6a rp3;obtain ⟨hu1,eu⟩:=A0p eu;have hun:H u=none:=k2.free A0b hu1;have up:u≠p:=λz=>by subst z;rw [hp] at hun;cases hun
  refine i15 _ rfl p _ dx _ rfl hp3 T.bw T.e8 (by show 2<1000;decide) ?_;rw [e2];refine i1a _ rfl _ rfl p _ dx _ rfl A0b T.bw T.p6 (by show 3<1000;decide) ?_;show Q V.non (upd (upd H3 p _) p _);rw [A5q,e3];exact k c u _ hcn hun A0b (by rw [A0k cp];exact s3 _ _ (by rw [A0k cp];exact ec)) (by rw [A0k up];exact eu) (k2.trans (KB.of s3)).upd
theorem B6c (T:Txt K mg t):FP P w mg base T.jk 5 (C9w t):=by
 have Ga0:= @C1p P w K mg base t T;refine T.jk.F.ok B6d (λvs H Q E h=> ?_) λ_ A _ s H _ Q E hr h=> ?_
 ·refine e0g h ?_;clear h;rintro p dx ld ad tl lv ol wh lk ⟨ak,is,es,tb,os,xs,S,rfl,_⟩;rfl
 ·refine e0g h ?_;clear h;rintro p dx ld ad tl lv ol wh lk ⟨ak,is,es,tb,os,xs,S,rfl,hp,hld,il,ll,had,ar,les,les2,htl,ltb,hlv,lxs,hxs,hol,los,k⟩;have f1:∀v:V,A4r "lengths" v [("wheel",.int wh)]=([("wheel",.int wh),("lengths",v)]:List (Str×V)):=λv=>by rw [A1i (by decide +kernel),A1l]
  have f2:∀u v:V,A4r "arrays" v [("wheel",.int wh),("lengths",u)]=([("wheel",.int wh),("lengths",u),("arrays",v)]:List (Str×V)):=λu v=>by rw [A1i (by decide +kernel),A1i (by decide +kernel),A1l]
  have f3:∀u1 u v:V,A4r "tables" v [("wheel",.int wh),("lengths",u1),("arrays",u)]=([("wheel",.int wh),("lengths",u1),("arrays",u),("tables",v)]:List (Str×V)):=λu1 u v=>by rw [A1i (by decide +kernel),A1i (by decide +kernel),A1i (by decide +kernel),A1l]
  have f4:∀u1 u2 u v:V,A4r "lines" v [("wheel",.int wh),("lengths",u1),("arrays",u2),("tables",u)]=([("wheel",.int wh),("lengths",u1),("arrays",u2),("tables",u),("lines",v)]:List (Str×V)):=λu1 u2 u v=>by rw [A1i (by decide +kernel),A1i (by decide +kernel),A1i (by decide +kernel),A1i (by decide +kernel),A1l]
  have f5:∀u1 u2 u3 u v:V,A4r "outs" v [("wheel",.int wh),("lengths",u1),("arrays",u2),("tables",u3),("lines",u)]=([("wheel",.int wh),("lengths",u1),("arrays",u2),("tables",u3),("lines",u),("outs",v)]:List (Str×V)):=λu1 u2 u3 u v=>by rw [A1i (by decide +kernel),A1i (by decide +kernel),A1i (by decide +kernel),A1i (by decide +kernel),A1i (by decide +kernel),A1l]
  have np:∀{b:Addr} {u:HO},H b=some u->(∀C d fs,u≠.ins C d fs)->b≠p:=λe n z=>by subst z;rw [hp] at e;cases e;exact n _ _ _ rfl
  have nn:∀{b:Addr},H b=none->b≠p:=λe z=>by subst z;rw [hp] at e;cases e
  refine i02 _ (@A0c _ _ _ _ _ (A2d (pv 0) (pv 1) rfl) (@A0c _ _ _ _ _ (A2d (pv 0) (pcl Ga0 hr T.aq (A0a (pv 2) A0d)) rfl) (@A0c _ _ _ _ _ (A2d (pv 0) (pcl Ga0 hr T.aq (A0a (pv 3) A0d)) rfl) (@A0c _ _ _ _ _ (A2d (pv 0) (pcl Ga0 hr T.aq (A0a (pv 4) A0d)) rfl) (@A0c _ _ _ _ _ (A2d (pv 0) (pcl Ga0 hr T.aq (A0a (pv 5) A0d)) rfl) (@A0g _ _ _ (A2d (pv 0) (pcl Ga0 hr T.aq (A0a (pv 6) A0d)) rfl))))))) (i1a _ rfl _ rfl p _ dx [] rfl hp T.gx T.tf (by decide) ?_);rw [A1l];obtain ⟨G0,hG0⟩:∃G0,G0=upd H p (.ins t.aj dx [("wheel",.int wh)]):=⟨_,rfl⟩;rw [<-hG0];have p0:G0 p=some (.ins t.aj dx [("wheel",.int wh)]):=by rw [hG0];exact A0b
  have k0:KB p H G0:=by rw [hG0];exact KB.refl.upd
  refine i02 _ rfl (.inr (i0t ld lk (is.map PyData.int) rfl (k0 _ _ (np hld (by intros;intro z;cases z)) hld) (by lia) (C2h il) λl' lk' H1 hl' s1 h1 ks cp=> ?_));have ek:=C4q il ks cp;subst ek;have nl:H l'=none:=k0.free p0 hl';refine i15 _ rfl p _ dx _ rfl (s1 _ _ p0) T.gx T.qu (by show 1<1000;decide) ?_;rw [f1];obtain ⟨G1,hG1⟩:∃G1,G1=upd H1 p (.ins t.aj dx [("wheel",.int wh),("lengths",.ref l')]):=⟨_,rfl⟩;rw [<-hG1];have p1:G1 p=some (.ins t.aj dx [("wheel",.int wh),("lengths",.ref l')]):=by rw [hG1];exact A0b
  have k1:KB p H G1:=by rw [hG1];exact (k0.trans (KB.of s1)).upd
  have gl1:G1 l'=some (.dK lk'):=by rw [hG1,A0k (nn nl)];exact h1
  have ar1:AR (λb=>S b) G1 ak es:=ar.imp λb ys z e=>⟨z,k1 _ _ (np e (by intros;intro z;cases z)) e⟩;refine i02 _ rfl (.inr (i0t ad ak _ rfl (k1 _ _ (np had (by intros;intro z;cases z)) had) (by have:=Paired.length ar;lia) (ar1.src les2) λa' ak' H2 ha' s2 h2 ks2 cp2=> ?_));have arc:=D5q ar1 ks2 cp2;have na:H a'=none:=k1.free p1 ha';refine i15 _ rfl p _ dx _ rfl (s2 _ _ p1) T.gx T.sj (by show 2<1000;decide) ?_;rw [f2];obtain ⟨G2,hG2⟩:∃G2,G2=upd H2 p (.ins t.aj dx [("wheel",.int wh),("lengths",.ref l'),("arrays",.ref a')]):=⟨_,rfl⟩;rw [<-hG2];have p2:G2 p=some (.ins t.aj dx [("wheel",.int wh),("lengths",.ref l'),("arrays",.ref a')]):=by rw [hG2];exact A0b
  have j2:KB p G1 G2:=by rw [hG2];exact (KB.of s2).upd
  have k2:=k1.trans j2;have ga2:G2 a'=some (.dK ak'):=by rw [hG2,A0k (nn na)];exact h2
  have ar2:AR (λb=>H b=none) G2 ak' es:=arc.imp λb ys z e=>⟨k1.free p1 z,by rw [hG2,A0k (nn (k1.free p1 z))];exact e⟩;obtain ⟨c2,c3⟩:=A9n tb;refine i02 _ rfl (.inl (.inl (.inl (i0o (.ref tl) (B9e tb) rfl (C1a (k2 _ _ (np htl (by intros;intro z;cases z)) htl)) (by lia) (by lia) λvt H3 s3 rp3=> ?_))));obtain ⟨t',rfl,et⟩:=B6a rp3;obtain ⟨ht1,et⟩:=A0p et;have nt:H t'=none:=k2.free p2 ht1;refine i15 _ rfl p _ dx _ rfl (s3 _ _ p2) T.gx T.rm (by show 3<1000;decide) ?_;rw [f3];obtain ⟨G3,hG3⟩:∃G3,G3=upd H3 p (.ins t.aj dx [("wheel",.int wh),("lengths",.ref l'),("arrays",.ref a'),("tables",.ref t')]):=⟨_,rfl⟩;rw [<-hG3];have p3:G3 p=some (.ins t.aj dx [("wheel",.int wh),("lengths",.ref l'),("arrays",.ref a'),("tables",.ref t')]):=by rw [hG3];exact A0b
  have j3:KB p G2 G3:=by rw [hG3];exact (KB.of s3).upd
  have k3:=k2.trans j3;have gt3:G3 t'=some (.lst (tb.map V.str)):=by rw [hG3,A0k (nn nt)];exact et
  refine i02 _ rfl (.inl (.inr (i0o lv xs rfl (k3 _ _ (np hlv (by intros;intro z;cases z)) hlv) lxs (λx hx=> ?_) λv' H4 hv' s4 hv4=> ?_)))
  ·obtain ⟨b,db,fs,rfl,nb,eb⟩:=hxs x hx;exact i0g b db fs rfl (k3 _ _ nb eb)
  have nv:H v'=none:=k3.free p3 hv';refine i15 _ rfl p _ dx _ rfl (s4 _ _ p3) T.gx T.lj (by show 4<1000;decide) ?_;rw [f4];obtain ⟨G4,hG4⟩:∃G4,G4=upd H4 p (.ins t.aj dx [("wheel",.int wh),("lengths",.ref l'),("arrays",.ref a'),("tables",.ref t'),("lines",.ref v')]):=⟨_,rfl⟩;rw [<-hG4];have p4:G4 p=some (.ins t.aj dx [("wheel",.int wh),("lengths",.ref l'),("arrays",.ref a'),("tables",.ref t'),("lines",.ref v')]):=by rw [hG4];exact A0b
  have j4:KB p G3 G4:=by rw [hG4];exact (KB.of s4).upd
  have k4:=k3.trans j4;have gv4:G4 v'=some (.lst xs):=by rw [hG4,A0k (nn nv)];exact hv4
  obtain ⟨o2,o3⟩:=A9n os;refine i02 _ rfl (.inl (.inl (.inl (i0o (.ref ol) (B9e os) rfl (C1a (k4 _ _ (np hol (by intros;intro z;cases z)) hol)) (by lia) (by lia) λvo H5 s5 rp5=> ?_))));obtain ⟨o',rfl,eo⟩:=B6a rp5;obtain ⟨ho1,eo⟩:=A0p eo;have no:H o'=none:=k4.free p4 ho1;refine i15 _ rfl p _ dx _ rfl (s5 _ _ p4) T.gx T.v8 (by show 5<1000;decide) ?_;show Q V.non (upd H5 p _);rw [f5];have j5:KB p G4 (upd H5 p (clo t dx wh l' a' t' v' o')):=(KB.of s5).upd;have up:=λ{b:Addr} (hb:H b=none) {u:HO} (e:G4 b=some u)=>j5 _ _ (nn hb) e;exact k l' a' t' v' o' ak' _ A0b nl (up nl (j4 _ _ (nn nl) (j3 _ _ (nn nl) (j2 _ _ (nn nl) gl1)))) na (up na (j4 _ _ (nn na) (j3 _ _ (nn na) ga2))) (ar2.imp λb ys z e=>⟨z,up z (j4 _ _ (nn z) (j3 _ _ (nn z) e))⟩) nt (up nt (j4 _ _ (nn nt) gt3)) nv (up nv gv4) no (by rw [A0k (nn no)];exact eo) (k4.trans j5)
theorem B9g (T:Txt K mg t):FP P w mg base T.oq 5 (C9i t):=by
 have Ga0:= @C1p P w K mg base t T;refine T.oq.F.ok B9z (by walk_at "ln") λ_ A _ s H _ Q E hr h=> ?_
 ·obtain ⟨p,dx,l,n,x,ys,rfl,hp,hl,hy,k⟩:=h;obtain ⟨c2,c3⟩:=A9n ys;have lp:l≠p:=A3p hl hp (by intro z;cases z);refine i02 _ (@A0c _ _ _ _ _ (A2d (pv 0) (pv 1) rfl) (@A0c _ _ _ _ _ (A2d (pv 0) (pcl Ga0 hr T.aq (A0a (pv 2) A0d)) rfl) (@A0g _ _ _ (A2d (pv 0) (pv 3) rfl)))) (i1a _ rfl _ rfl p _ dx [] rfl hp T.og T.r8 (by decide) ?_);refine i02 _ rfl (.inl (.inl (.inl (i0o (.ref l) (B9e ys) rfl ((C1a hl).ins hp) (by lia) (by lia) λv' H2 s2 rp2=> ?_))));have hp2:=s2 _ _ (A0b (H:=H) (a:=p));obtain ⟨c,rfl,ec⟩:=B6a rp2;obtain ⟨hc0,ec⟩:=A0p ec
  have hcn:H c=none:=by
   by_cases z:c=p
   ·subst z;rw [A0b] at hc0;cases hc0
   ·rw [A0k z] at hc0;exact hc0
  have cp:c≠p:=λz=>by subst z;rw [hp] at hcn;cases hcn
  refine i15 _ rfl p _ dx _ rfl hp2 T.og T.re (by show 1<1000;decide) ?_;refine i1a _ rfl _ rfl p _ dx _ rfl A0b T.og T.rc (by show 2<1000;decide) ?_;show Q V.non (upd (upd H2 p _) p (.ins t.ce dx (A4r "term" n (A4r "axes" (.ref c) (A4r "name" (.str x) [])))));have e1:A4r "axes" (V.ref c) (A4r "name" (.str x) [])=([("name",.str x),("axes",.ref c)]:List (Str×V)):=by rw [A1l,A1i (by decide +kernel),A1l]
  have e2:A4r "term" n ([("name",.str x),("axes",.ref c)]:List (Str×V))=([("name",.str x),("axes",.ref c),("term",n)]:List (Str×V)):=by rw [A1i (by decide +kernel),A1i (by decide +kernel),A1l]
  rw [A5q,e1,e2];refine k c _ hcn A0b (by rw [A0k cp];exact ec) λb o hb e=> ?_;rw [A0k hb];exact s2 _ _ (by rw [A0k hb];exact e)
theorem A1k {A:Addr} {B:Addr} {b:Bool} (h:kitOne K (.ref A) (.ref B)=some b):∀u,A3i (.ref B) u->kitOne K (.ref A) u=some b:=λu z=>by
 cases (show u=Value.ref B from z)
 exact h
theorem B3w (T:Txt K mg t):FP P w mg base T.gz 5 (D0f t):=by
 have Ga0:= @C1p P w K mg base t T;refine T.gz.F.ok B3u (by walk_at "ln") λ_ A _ s H _ Q E hr h=> ?_
 ·refine e0g h ?_;clear h;rintro p dx a tt l o wh ax tb ⟨xs,os,rfl,hp,ra,la,rt,lt,lt2,hl,ll,hx,ho,lo,k⟩;have a2:=C9n ax;have a3:=D1w (ix:=ax);obtain ⟨t2,t3⟩:=C9q tb lt2;obtain ⟨o2,o3⟩:=A9n os;have f1:∀v:V,A4r "axes" v [("wheel",.int wh)]=([("wheel",.int wh),("axes",v)]:List (Str×V)):=λv=>by rw [A1i (by decide +kernel),A1l]
  have f2:∀u v:V,A4r "tables" v [("wheel",.int wh),("axes",u)]=([("wheel",.int wh),("axes",u),("tables",v)]:List (Str×V)):=λu v=>by rw [A1i (by decide +kernel),A1i (by decide +kernel),A1l]
  have f3:∀u1 u v:V,A4r "lets" v [("wheel",.int wh),("axes",u1),("tables",u)]=([("wheel",.int wh),("axes",u1),("tables",u),("lets",v)]:List (Str×V)):=λu1 u v=>by rw [A1i (by decide +kernel),A1i (by decide +kernel),A1i (by decide +kernel),A1l]
  have f4:∀u1 u2 u v:V,A4r "outs" v [("wheel",.int wh),("axes",u1),("tables",u2),("lets",u)]=([("wheel",.int wh),("axes",u1),("tables",u2),("lets",u),("outs",v)]:List (Str×V)):=λu1 u2 u v=>by rw [A1i (by decide +kernel),A1i (by decide +kernel),A1i (by decide +kernel),A1i (by decide +kernel),A1l]
  have np:∀{b:Addr} {u:HO},H b=some u->(∀C d fs,u≠.ins C d fs)->b≠p:=λe n z=>by subst z;rw [hp] at e;cases e;exact n _ _ _ rfl
  have rp:∀{v:V} {d:PyData} {G:Hp},KB p H G->Rep H v d->Rep G v d:=λkb r=>r.imp2 (λq ys z=>kb _ _ (np z (by intros;intro z;cases z)) z) λq ys z=>kb _ _ (np z (by intros;intro z;cases z)) z;have rq:∀{v:V} {d:PyData} {G G':Hp} {C dd:Addr} {fs:List (Str×V)},KB p G G'->G p=some (.ins C dd fs)->Rep G v d->Rep G' v d:=λkb hG r=>r.imp2 (λq ys z=>kb _ _ (A3p z hG (by intro w;cases w)) z) λq ys z=>kb _ _ (A3p z hG (by intro w;cases w)) z;refine i02 _ (@A0c _ _ _ _ _ (A2d (pv 0) (pv 1) rfl) (@A0c _ _ _ _ _ (A2d (pv 0) (pcl Ga0 hr T.aq (A0a (pv 2) A0d)) rfl) (@A0c _ _ _ _ _ (A2d (pv 0) (pcl Ga0 hr T.aq (A0a (pv 3) A0d)) rfl) (@A0c _ _ _ _ _ (A2d (pv 0) (pcl Ga0 hr T.aq (A0a (pv 4) A0d)) rfl) (@A0g _ _ _ (A2d (pv 0) (pcl Ga0 hr T.aq (A0a (pv 5) A0d)) rfl)))))) (i1a _ rfl _ rfl p _ dx [] rfl hp T.bt T.j8 (by decide) ?_);rw [A1l];obtain ⟨G0,hG0⟩:∃G0,G0=upd H p (.ins t.ag dx [("wheel",.int wh)]):=⟨_,rfl⟩;rw [<-hG0];have p0:G0 p=some (.ins t.ag dx [("wheel",.int wh)]):=by rw [hG0];exact A0b
  have k0:KB p H G0:=by rw [hG0];exact KB.refl.upd
  refine i02 _ rfl (.inl (.inl (.inl (i0o (.ref a) (A5w ax) rfl (rp k0 ra) (by lia) (by lia) λva H1 s1 r1=> ?_))));obtain ⟨a',xa,rfl,ea,_⟩:=A5g (show Rep _ va (.list (ax.map B4a)) from r1);refine i15 _ rfl p _ dx _ rfl (s1 _ _ p0) T.bt T.fu (by show 1<1000;decide) ?_;rw [f1];obtain ⟨G1,hG1⟩:∃G1,G1=upd H1 p (.ins t.ag dx [("wheel",.int wh),("axes",.ref a')]):=⟨_,rfl⟩;rw [<-hG1];have p1:G1 p=some (.ins t.ag dx [("wheel",.int wh),("axes",.ref a')]):=by rw [hG1];exact A0b
  have k1:KB p H G1:=by rw [hG1];exact (k0.trans (KB.of s1)).upd
  have ra1:Rep G1 (.ref a') (A5w ax):=by rw [hG1];exact rq (KB.refl.upd) (s1 _ _ p0) (r1.same A1b)
  refine i02 _ rfl (.inl (.inl (.inl (i0o (.ref tt) (B4m tb) rfl (rp k1 rt) (by lia) (by lia) λvt H2 s2 r2=> ?_))));obtain ⟨t',xt,rfl,et,_⟩:=A5g (show Rep _ vt (.list (tb.map C4o)) from r2);refine i15 _ rfl p _ dx _ rfl (s2 _ _ p1) T.bt T.eh (by show 2<1000;decide) ?_;rw [f2];obtain ⟨G2,hG2⟩:∃G2,G2=upd H2 p (.ins t.ag dx [("wheel",.int wh),("axes",.ref a'),("tables",.ref t')]):=⟨_,rfl⟩;rw [<-hG2];have p2:G2 p=some (.ins t.ag dx [("wheel",.int wh),("axes",.ref a'),("tables",.ref t')]):=by rw [hG2];exact A0b
  have j2:KB p G1 G2:=by rw [hG2];exact (KB.of s2).upd
  have k2:=k1.trans j2;have rt2:Rep G2 (.ref t') (B4m tb):=by rw [hG2];exact rq (KB.refl.upd) (s2 _ _ p1) (r2.same A1b)
  refine i02 _ rfl (.inl (.inl (.inr (i0o l xs rfl (k2 _ _ (np hl (by intros;intro z;cases z)) hl) ll (λx hxx=> ?_) λl' H3 hl' s3 hl3=> ?_))))
  ·obtain ⟨b,db,fs,rfl,nb,eb⟩:=hx x hxx;exact i0g b db fs rfl (k2 _ _ nb eb)
  have lp:l'≠p:=λz=>by subst z;rw [p2] at hl';cases hl'
  refine i15 _ rfl p _ dx _ rfl (s3 _ _ p2) T.bt T.jo (by show 3<1000;decide) ?_;rw [f3];obtain ⟨G3,hG3⟩:∃G3,G3=upd H3 p (.ins t.ag dx [("wheel",.int wh),("axes",.ref a'),("tables",.ref t'),("lets",.ref l')]):=⟨_,rfl⟩;rw [<-hG3];have p3:G3 p=some (.ins t.ag dx [("wheel",.int wh),("axes",.ref a'),("tables",.ref t'),("lets",.ref l')]):=by rw [hG3];exact A0b
  have j3:KB p G2 G3:=by rw [hG3];exact (KB.of s3).upd
  have k3:=k2.trans j3;have gl3:G3 l'=some (.lst xs):=by rw [hG3,A0k lp];exact hl3
  refine i02 _ rfl (.inl (.inl (.inl (i0o (.ref o) (B9e os) rfl (C1a (k3 _ _ (np ho (by intros;intro z;cases z)) ho)) (by lia) (by lia) λvo H4 s4 r4=> ?_))));obtain ⟨o',rfl,eo⟩:=B6a r4;have eo:=(A0p eo).2;refine i15 _ rfl p _ dx _ rfl (s4 _ _ p3) T.bt T.ju (by show 4<1000;decide) ?_;show Q V.non (upd H4 p _);rw [f4];have j4:KB p G3 (upd H4 p (.ins t.ag dx [("wheel",.int wh),("axes",.ref a'),("tables",.ref t'),("lets",.ref l'),("outs",.ref o')])):=(KB.of s4).upd;exact k a' t' l' o' _ A0b (rq ((j2.trans j3).trans j4) p1 ra1) (rq (j3.trans j4) p2 rt2) (j4 _ _ lp gl3) (by rw [A0k (A3p eo (s4 _ _ p3) (by intro z;cases z))];exact eo) (k3.trans j4)
theorem B4o (T:Txt K mg t):FP P w mg base T.iz 1 (C5a t):=by
 refine T.iz.F.ok B4e (by walk_at "ln") λ_ A _ s H _ Q E hr h=> ?_
 ·obtain ⟨p,dx,v,rfl,hp,k⟩:=h;have f1:∀u:V,A4r "lines" u [("known",v)]=([("known",v),("lines",u)]:List (Str×V)):=λu=>by rw [A1i (by decide +kernel),A1l]
  have f2:∀u z:V,A4r "lifts" z [("known",v),("lines",u)]=([("known",v),("lines",u),("lifts",z)]:List (Str×V)):=λu z=>by rw [A1i (by decide +kernel),A1i (by decide +kernel),A1l]
  refine i02 _ (@A0c _ _ _ _ _ (A2d (pv 0) (pv 1) rfl) (@A0c _ _ _ _ _ (A2d (pv 0) (@A1z _ _ _ _ A0d) rfl) (@A0g _ _ _ (A2d (pv 0) A0e rfl)))) (i1a _ rfl _ rfl p _ dx [] rfl hp T.bp T.jr (by decide) ?_);rw [A1l];refine ⟨A0t rfl,λl hl=>(i15 _ rfl p _ dx _ rfl ((A0f hl) _ _ A0b) T.bp T.dm (by show 1<1000;decide) ?_)⟩;rw [f1];have k1:KB p H (upd H p (.ins t.au dx [("known",v)])):=KB.refl.upd;have l0:H l=none:=k1.free A0b hl;have lp:l≠p:=λz=>by subst z;rw [A0b] at hl;cases hl
  refine i15 _ rfl p _ dx _ rfl A0b T.bp T.fz (by show 2<1000;decide) ?_;show Q V.non (upd (upd _ p _) p _);rw [A5q,f2];exact k l _ l0 A0b (by rw [A0k lp];exact A0b) (k1.trans (KB.of (A0f hl))).upd
theorem B5g (T:Txt K mg t):FO P w base T.jm 1 (D6x t):=by
 refine T.jm.F.ok B5n (by walk_at "ln") λ_ A _ s H _ Q E hr h=> ?_
 ·obtain ⟨p,wh,ax,tb,ls,os,rfl,pr,la,k⟩:=h;obtain ⟨dx,a,tt,l,o,e,ra,_⟩:=pr.ob;obtain ⟨a2,xs,ea,hx,rs⟩:=A5g (show Rep H (.ref a) (.list (ax.map B4a)) from ra);cases ea;have lxs:=rs.len;rw [Z08] at lxs;refine i02 _ (@A0g _ _ _ (@A0s _ _ _ _ (A4e (N':=["name","length"]) (ix:=(List.replicate 2 none)) (g:=D2y K 2 (A9u (A6x 0) (A9u (A6x 1) D4n))) rfl (A2s rfl (by decide +kernel) (by decide +kernel)) (A2r rfl) (A2g (A1h (pv 0) rfl)) (λ_ _ _ _=>(A3z (n:=2) rfl (A0y (A0m (i:=0) B6y rfl (.inl rfl)) (A0y (A0m (i:=1) B6y rfl (.inl rfl)) A2v)))) (λ_ _ _ _=>(pv 0))))) ?_;refine i18 _ rfl p _ dx _ _ rfl e T.bt T.fu (by walk_at "lk") (i06 a rfl ⟨_,SqL.of hx⟩ λD hD=> ?_);refine A3k (K:=K) (a:=a) (D:=D) (xs:=xs) (λi zs H2=>A1c H H2/\H2 D=some (.lst zs)/\zs=((ax.take i).map (·.1)).map V.str) (i00 (A0f hD) A0b rfl) (λi zs H2 ⟨s2,_⟩=>SqL.of (s2 _ _ hx)) ?_ ?_
  ·rintro i x zs H2 hy ⟨s2,hD2,rfl⟩;have hi:i<xs.length:=(Z03.mp hy).1;obtain ⟨te,hte,ry⟩:=B5s rs hy;obtain ⟨b,rfl,eb⟩:=D0a ry;refine i19 b _ rfl (SqT.of (s2 _ _ eb)) rfl _ _ rfl _ _ rfl rfl ?_;refine i01 True.intro _ (i0h rfl hD2 (A1s (by simp;lia)) (A0r s2 hD) A0b ?_);rw [Z14,hte,Z2f];simp
  ·rintro zs H2 ⟨s2,hD2,rfl⟩;rw [lxs,Z18] at hD2;exact k D H2 hD s2 hD2
theorem B4f (T:Txt K mg t):FO P w base T.iy 1 (D7e t):=by
 refine T.iy.F.ok B4j (by walk_at "ln") λ_ A _ s H _ Q E hr h=> ?_
 ·obtain ⟨p,wh,ax,tb,ls,os,rfl,pr,lt,k⟩:=h;obtain ⟨dx,a,tt,l,o,e,ra,rt,_⟩:=pr.ob;obtain ⟨t2,xs,et,hx,rs⟩:=A5g (show Rep H (.ref tt) (.list (tb.map C4o)) from rt);cases et;have lxs:=rs.len;rw [Z08] at lxs;refine i02 _ (@A0g _ _ _ (@A0s _ _ _ _ (A4e (N':=["name","axes"]) (ix:=(List.replicate 2 none)) (g:=D2y K 2 (A9u (A6x 0) (A9u (A6x 1) D4n))) rfl (A2s rfl (by decide +kernel) (by decide +kernel)) (A2r rfl) (A2g (A1h (pv 0) rfl)) (λ_ _ _ _=>(A3z (n:=2) rfl (A0y (A0m (i:=0) B7t rfl (.inl rfl)) (A0y (A0m (i:=1) B7t rfl (.inl rfl)) A2v)))) (λ_ _ _ _=>(pv 0))))) ?_;refine i18 _ rfl p _ dx _ _ rfl e T.bt T.eh (by walk_at "lk") (i06 tt rfl ⟨_,SqL.of hx⟩ λD hD=> ?_);refine A3k (K:=K) (a:=tt) (D:=D) (xs:=xs) (λi zs H2=>A1c H H2/\H2 D=some (.lst zs)/\zs=((tb.take i).map (·.1)).map V.str) (i00 (A0f hD) A0b rfl) (λi zs H2 ⟨s2,_⟩=>SqL.of (s2 _ _ hx)) ?_ ?_
  ·rintro i x zs H2 hy ⟨s2,hD2,rfl⟩;have hi:i<xs.length:=(Z03.mp hy).1;obtain ⟨te,hte,ry⟩:=B5s rs hy;obtain ⟨b,c,rfl,eb,ec⟩:=D6o ry;refine i19 b _ rfl (SqT.of (s2 _ _ eb)) rfl _ _ rfl _ _ rfl rfl ?_;refine i01 True.intro _ (i0h rfl hD2 (A1s (by simp;lia)) (A0r s2 hD) A0b ?_);rw [Z14,hte,Z2f];simp
  ·rintro zs H2 ⟨s2,hD2,rfl⟩;rw [lxs,Z18] at hD2;exact k D H2 hD s2 hD2
theorem B5p (T:Txt K mg t):FO P w base T.ja 1 (D8i t):=by
 refine T.ja.F.ok B6j (by walk_at "ln") λ_ A _ s H _ Q E hr h=> ?_
 ·obtain ⟨p,wh,ax,tb,ls,os,rfl,pr,nd,k⟩:=h;obtain ⟨dx,a,tt,l,o,e,ra,_⟩:=pr.ob;obtain ⟨a2,xs,ea,hx,rs⟩:=A5g (show Rep H (.ref a) (.list (ax.map B4a)) from ra);cases ea
  have nk:((A2i ax).map (·.1)).Nodup:=by
   have:(A2i ax).map (·.1)=(ax.map (·.1)).map (Sum.inr:Str->Key):=by unfold A2i;rw [List.map_map,List.map_map];rfl
   rw [this];exact List.Pairwise.map _ (λa b h z=>h (by injection z)) nd
  refine i02 _ (@A0g _ _ _ (@A0s _ _ _ _ (A2k (B4w rfl) (by rfl) T.nq Z2q (A0a (A1h (pv 0) rfl) A0d)))) ?_;refine i18 _ rfl p _ dx _ _ rfl e T.bt T.fu (by walk_at "lk") (i0q a xs _ rfl hx (D5m rs) λq hq=> ?_);rw [B2k nk];exact k q hq
def C5m (A:Adr):Sp:=λvs H Q _=>∃(p dx:Addr) (a b c:V),vs=[.ref p,a,b,c]/\H p=some (.ins A.av dx [])/\Q .non (upd H p (.ins A.av dx [("term",a),("sums",b),("guards",c)]))
def C4t (A:Adr):Sp:=λvs H Q _=>∃(p:V) (u:Tm) (s:List Str) (g:List Gd) (S:Addr->Prop),vs=[p]/\Fr S H/\A3j A (A1d S H) p (u,s,g)/\∀(q:Addr) (xs:List V) (H':Hp),H q=none->A1c H H'->H' q=some (.lst xs)->Paired (A3j A (A1d S H')) xs (B6n u s g)->Q (.ref q) H'
def C6e (A:Adr) (n:Nat):Sp:=λvs H Q _=>∃(p:V) (u:Tm) (s:List Str) (g:List Gd) (S:Addr->Prop),vs=[p]/\Fr S H/\A3j A (A1d S H) p (u,s,g)/\dep u<=n/\nod u<=1000/\∀(q:Addr) (xs:List V) (H':Hp),H q=none->A1c H H'->H' q=some (.lst xs)->Paired (A3j A (A1d S H')) xs (prT u s g)->Q (.ref q) H'
def D0v (A:Adr):Sp:=λvs H Q _=>∃(v:V) (u:Tm) (S:Addr->Prop),vs=[v]/\Fr S H/\Ob A (A1d S H) v u/\dep u<=40/\nod u<=1000/\∀(q:Addr) (xs:List V) (H':Hp),H q=none->A1c H H'->H' q=some (.lst xs)->Paired (A3j A (A1d S H')) xs (prT u [] [])->Q (.ref q) H'
theorem A5s {x dx:Addr} {u v:HO} (hx:H x=none) (hd:H dx=none):A1c H (upd (upd (upd H dx o) x u) x v):=A2e hx hd
theorem A8f (T:Txt K mg t):FP P w mg base T.cb 1 (C5m t):=by
 refine T.cb.F.ok B8u (by walk_at "ln") λ_ A _ s H _ Q E hr h=> ?_
 ·obtain ⟨p,dx,a,b,c,rfl,hp,k⟩:=h;have e1:A4r "sums" b (A4r "term" a [])=([("term",a),("sums",b)]:List (Str×V)):=by rw [A1l,A1i (by decide +kernel),A1l]
  have e2:A4r "guards" c ([("term",a),("sums",b)]:List (Str×V))=([("term",a),("sums",b),("guards",c)]:List (Str×V)):=by rw [A1i (by decide +kernel),A1i (by decide +kernel),A1l]
  refine i02 _ (@A0c _ _ _ _ _ (A2d (pv 0) (pv 1) rfl) (@A0c _ _ _ _ _ (A2d (pv 0) (pv 2) rfl) (@A0g _ _ _ (A2d (pv 0) (pv 3) rfl)))) (i1a _ rfl _ rfl p _ dx [] rfl hp T.bj T.bx (by decide) (i1a _ rfl _ rfl p _ dx _ rfl A0b T.bj T.ci (by show 1<1000;decide) ?_));rw [A5q,e1];refine i1a _ rfl _ rfl p _ dx _ rfl A0b T.bj T.c7 (by show 2<1000;decide) ?_;show Q V.non (upd (upd H p _) p _);rw [A5q,e2];exact k
theorem C7c (T:Txt K mg t) {dx:Addr} {k:Op3} {fs:List (Str×V)} (e:H a=some (.ins (A5y t k) dx fs)):A8j K H (.ref a) (.ref (A5y t k)):=by
 cases k with
 | plus=>exact .ins e T.sr T.cf.ha T.cf.hn T.cf.htk T.cf.hm
 | minus=>exact .ins e T.ou T.bu.ha T.bu.hn T.bu.htk T.bu.hm
 | times=>exact .ins e T.p_ T.bv.ha T.bv.hn T.bv.htk T.bv.hm
theorem D4b (T:Txt K mg t) (k:Op3):kitOne K (.ref (A5y t k)) (.ref t.c8)=some true:=by
 cases k with
 | plus=>exact T.px
 | minus=>exact T.mw
 | times=>exact T.mr
theorem A6t (T:Txt K mg t) (k:Op3):Cls K (A5y t k):=by cases k with
 | plus=>exact T.sr
 | minus=>exact T.ou
 | times=>exact T.p_
theorem B8b (T:Txt K mg t) (k:Op3):A1q K (A5y t k) "left":=by cases k with
 | plus=>exact T.wj
 | minus=>exact T.ur
 | times=>exact T.v0
theorem B7w (T:Txt K mg t) (k:Op3):A1q K (A5y t k) "right":=by cases k with
 | plus=>exact T.ve
 | minus=>exact T.u6
 | times=>exact T.tw
theorem A3r (T:Txt K mg t):FO P w base T.bq 3 (C4t t):=by
 have Ga2:= @A8f P w K mg base t T;refine T.bq.F.ok A2w (by walk_at "ln") λ_ A _ s H _ Q E hr h=> ?_
 ·obtain ⟨p,u,ss,gg,S,rfl,fr,⟨a,dx,tv,sl,gl,gs,rfl,e0,ob,hs0,hg0,bg,bs,pg⟩,k⟩:=h;have e:=A1b _ _ e0;have hs:=A1b _ _ hs0;have hg:=A1b _ _ hg0;refine i02 _ (@A0c _ _ _ _ _ (@A0l _ _ 1 _ _ _ _ A2w.nd rfl (.inl rfl) (A1h (pv 0) rfl) rfl (.inl rfl)) (@A0c _ _ _ _ _ (@A1v _ _ _ _ _ _ _ _ (A2t (A0u A1j (by rfl) T.ae Z0d (A0a (pv 1) (A0a (A3a (v:=V.ref t.c8) rfl T.zU rfl) A0d)))) (@A0g _ _ _ (@A0s _ _ _ _ (@A1z _ _ _ _ (A0a (pmk T.jc Ga2 hr T.nj T.cb.b (A0a (A1h (pv 1) rfl) (A0a (A1h (pv 0) rfl) (A0a (A1h (pv 0) rfl) A0d)))) (A0a (pmk T.jc Ga2 hr T.nj T.cb.b (A0a (A1h (pv 1) rfl) (A0a (A1h (pv 0) rfl) (A0a (A1h (pv 0) rfl) A0d)))) A0d))))) A0x) (@A0c _ _ _ _ _ (@A1v _ _ _ _ _ _ _ _ (A2t (A0u A1j (by rfl) T.ae Z0d (A0a (pv 1) (A0a (A3a (v:=V.ref t.bn) rfl T.yd rfl) A0d)))) (@A0g _ _ _ (@A0s _ _ _ _ (@A1z _ _ _ _ (A0a (pmk T.jc Ga2 hr T.nj T.cb.b (A0a (A1h (pv 1) rfl) (A0a (A0o A8r (A1h (pv 0) rfl) (@A1z _ _ _ _ (A0a (A1h (pv 1) rfl) A0d))) (A0a (A1h (pv 0) rfl) A0d)))) A0d)))) A0x) (@A0c _ _ _ _ _ (@A1v _ _ _ _ _ _ _ _ (A2t (A0u A1j (by rfl) T.ae Z0d (A0a (pv 1) (A0a (A3a (v:=V.ref t.af) rfl T.m7 rfl) A0d)))) (@A0c _ _ _ _ _ (@A0l _ _ 2 _ _ _ _ A2w.nd rfl (.inl rfl) (pmk T.jc Ga2 hr T.nj T.cb.b (A0a (A1h (pv 1) rfl) (A0a (A1h (pv 0) rfl) (A0a (A0o A8r (A1h (pv 0) rfl) (@A1z _ _ _ _ (A0a (A1n (A0a (pv 1) (A0a B9w A0d))) A0d))) A0d)))) rfl (.inl rfl)) (@A0c _ _ _ _ _ (@A0l _ _ 3 _ _ _ _ A2w.nd rfl (.inl rfl) (pmk T.jc Ga2 hr T.nj T.cb.b (A0a (A1h (pv 1) rfl) (A0a (A1h (pv 0) rfl) (A0a (A0o A8r (A1h (pv 0) rfl) (@A1z _ _ _ _ (A0a (A1n (A0a (pv 1) (A0a B9w A0d))) A0d))) A0d)))) rfl (.inl rfl)) (@A0g _ _ _ (@A0s _ _ _ _ (@A1z _ _ _ _ (A0a (pv 2) (A0a (pv 3) A0d))))))) A0x) (@A0g _ _ _ (@A0s _ _ _ _ (@A1z _ _ _ _ A0d))))))) ?_;refine i18 _ rfl a _ dx _ _ rfl e T.bj T.bx (by walk_at "lk") ?_
  cases id ob with
  | @num o dd z eo0 =>
   have eo:=A1b _ _ eo0;have ty:A8j K H (.ref o) (.ref t.ab):= .ins eo T.cy T.aw.ha T.aw.hn T.aw.htk T.aw.hm;refine i16 _ rfl _ _ _ _ rfl ty (A1k T.jz) false rfl (A2o ?_);refine i16 _ rfl _ _ _ _ rfl ty (A1k T.j1) false rfl (A2o ?_);refine i16 _ rfl _ _ _ _ rfl ty (A1k T.jq) false rfl (A2o ?_);exact ⟨A0t rfl,λq hq=>k q [] _ hq (A0f hq) A0b .nil⟩
  | @place o dd x eo0 =>
   have eo:=A1b _ _ eo0;have ty:A8j K H (.ref o) (.ref t.ai):= .ins eo T.ft T.bf.ha T.bf.hn T.bf.htk T.bf.hm;refine i16 _ rfl _ _ _ _ rfl ty (A1k T.nh) false rfl (A2o ?_);refine i16 _ rfl _ _ _ _ rfl ty (A1k T.jd) false rfl (A2o ?_);refine i16 _ rfl _ _ _ _ rfl ty (A1k T.jw) false rfl (A2o ?_);exact ⟨A0t rfl,λq hq=>k q [] _ hq (A0f hq) A0b .nil⟩
  | @read o dd ll x ix eo0 rp0 =>
   have eo:=A1b _ _ eo0;have ty:A8j K H (.ref o) (.ref t.ah):= .ins eo T.ff T.br.ha T.br.hn T.br.htk T.br.hm;refine i16 _ rfl _ _ _ _ rfl ty (A1k T.ph) false rfl (A2o ?_);refine i16 _ rfl _ _ _ _ rfl ty (A1k T.jy) false rfl (A2o ?_);refine i16 _ rfl _ _ _ _ rfl ty (A1k T.mi) false rfl (A2o ?_);exact ⟨A0t rfl,λq hq=>k q [] _ hq (A0f hq) A0b .nil⟩
  | @sum o dd x v b eo0 ob1 =>
   have eo:=A1b _ _ eo0;have ty:A8j K H (.ref o) (.ref t.bn):= .ins eo T.je T.di.ha T.di.hn T.di.htk T.di.hm;simp only [dep] at bg bs;refine i16 _ rfl _ _ _ _ rfl ty (A1k T.q_) false rfl (A2o ?_);refine i16 _ rfl _ _ _ _ rfl ty (A1k T.oh) true rfl (A5z ?_);refine i18 _ rfl o _ dd _ _ rfl eo T.je T.k_ (by walk_at "lk") (i18 _ rfl a _ dx _ _ rfl e T.bj T.ci (by walk_at "lk") (i18 _ rfl o _ dd _ _ rfl eo T.je T.ko (by walk_at "lk") ⟨A0t rfl,λl1 hl1=> ?_⟩));have s1:A1c H (upd H l1 (.lst [.str x])):=A0f hl1;refine i11 sl l1 _ _ rfl rfl (s1 _ _ hs) A0b (A2a (by simp;lia)) λl2 hl2=> ?_;have s2:=s1.trans (A0f (o:= .lst (ss.map V.str++[.str x])) hl2);refine i18 _ rfl a _ dx _ _ rfl (s2 _ _ e) T.bj T.c7 (by walk_at "lk") λnp dn hn hdn ndn=>⟨np,(i0y dn _ _ _ rfl A0b rfl (A0t rfl) λq hq=> ?_)⟩;have s3:=s2.trans (A5s (o:= .own np) (u:= .ins t.av dn []) (v:= .ins t.av dn [("term",v),("sums",.ref l2),("guards",.ref gl)]) hn hdn);have s4:=s3.trans (A0f (o:= .lst [.ref np]) hq);refine k q _ _ (s3.free hq) s4 A0b (.cons (i1c np dn v l2 gl gs rfl (A0j (fr _ (s2.free hn)) ?_) (ob1.imp (A0i s4)) (A0j (fr _ (s1.free hl2)) ?_) (A0i s4 _ _ hg0) (by show gs.length+dep b<=100;lia) (by show (ss++[x]).length+dep b<=100;rw [Z06];simp only [Z0y,Z2g];lia) (Paired.mapP pg λ_ _ z=>z.same (A0i s4))) .nil)
   ·exact (A0f hq) _ _ A0b
   ·have e2:=((A5s (o:= .own np) (u:= .ins t.av dn []) (v:= .ins t.av dn [("term",v),("sums",.ref l2),("guards",.ref gl)]) hn hdn).trans (A0f (o:= .lst [.ref np]) hq)) _ _ (A0b (H:=upd H l1 (.lst [.str x])) (a:=l2) (o:= .lst (ss.map V.str++[.str x])));rw [Z0s];exact e2
  | @pair o dd op v1 v2 l r eo0 ob1 ob2 =>
   have eo:=A1b _ _ eo0;simp only [dep] at bg bs;refine i16 _ rfl _ _ _ _ rfl (C7c T eo) (A1k (D4b T op)) true rfl (A5z ?_);refine i18 _ rfl o _ dd _ _ rfl eo (A6t T op) (B8b T op) (by walk_at "lk") (i18 _ rfl a _ dx _ _ rfl e T.bj T.ci (by walk_at "lk") (i18 _ rfl a _ dx _ _ rfl e T.bj T.c7 (by walk_at "lk") λn1 d1 hn1 hd1 nd1=>(i03 n1 d1 (i0q _ _ _ rfl A0b rfl ?_))));have s1:=A5s (o:= .own n1) (u:= .ins t.av d1 []) (v:= .ins t.av d1 [("term",v1),("sums",.ref sl),("guards",.ref gl)]) hn1 hd1;refine i18 _ rfl o _ dd _ _ rfl (s1 _ _ eo) (A6t T op) (B7w T op) (by walk_at "lk") (i18 _ rfl a _ dx _ _ rfl (s1 _ _ e) T.bj T.ci (by walk_at "lk") (i18 _ rfl a _ dx _ _ rfl (s1 _ _ e) T.bj T.c7 (by walk_at "lk") λn2 d2 hn2 hd2 nd2=>⟨n2,(i0y d2 _ _ _ rfl A0b rfl (A0t rfl) λq hq=> ?_)⟩));have s2:=A5s (o:= .own n2) (u:= .ins t.av d2 []) (v:= .ins t.av d2 [("term",v2),("sums",.ref sl),("guards",.ref gl)]) hn2 hd2;have s3:=A0f (o:= .lst [.ref n1,.ref n2]) hq;have s4:=s1.trans (s2.trans s3);refine k q _ _ ((s1.trans s2).free hq) s4 A0b (.cons (i1c n1 d1 v1 sl gl gs rfl (A0j (fr _ hn1) (s3 _ _ (s2 _ _ A0b))) (ob1.imp (A0i s4)) (A0i s4 _ _ hs0) (A0i s4 _ _ hg0) (by show gs.length+dep l<=100;lia) (by show ss.length+dep l<=100;lia) (Paired.mapP pg λ_ _ z=>z.same (A0i s4))) (.cons (i1c n2 d2 v2 sl gl gs rfl (A0j (fr _ (s1.free hn2)) (s3 _ _ A0b)) (ob2.imp (A0i s4)) (A0i s4 _ _ hs0) (A0i s4 _ _ hg0) (by show gs.length+dep r<=100;lia) (by show ss.length+dep r<=100;lia) (Paired.mapP pg λ_ _ z=>z.same (A0i s4))) .nil))
  | @guard o dd x lo hi v1 v2 l r eo0 ob1 ob2 =>
   have eo:=A1b _ _ eo0;have ty:A8j K H (.ref o) (.ref t.af):= .ins eo T.ba T.be.ha T.be.hn T.be.htk T.be.hm;simp only [dep] at bg bs;refine i16 _ rfl _ _ _ _ rfl ty (A1k T.m_) false rfl (A2o ?_);refine i16 _ rfl _ _ _ _ rfl ty (A1k T.jf) false rfl (A2o ?_);refine i16 _ rfl _ _ _ _ rfl ty (A1k T.h_) true rfl (A5z ?_);refine i18 _ rfl o _ dd _ _ rfl eo T.ba T.g_ (by walk_at "lk") (i18 _ rfl a _ dx _ _ rfl e T.bj T.ci (by walk_at "lk") (i18 _ rfl a _ dx _ _ rfl e T.bj T.c7 (by walk_at "lk") (i06 _ rfl (A0t rfl) λt1 ht1=>⟨A0t rfl,λl1 hl1=> ?_⟩)));have z1:=(A0f (o:= .tup [.ref o,.bl true]) ht1).trans (A0f (o:= .lst [.ref t1]) hl1);refine i11 gl l1 _ _ rfl rfl (z1 _ _ hg) A0b (A2a (by simp;lia)) λg1 hg1=> ?_;have z2:=z1.trans (A0f (o:= .lst (gs++[.ref t1])) hg1);refine λn1 d1 hn1 hd1 nd1=>(i03 n1 d1 (i0q _ _ _ rfl A0b rfl ?_));have y1:=A5s (o:= .own n1) (u:= .ins t.av d1 []) (v:= .ins t.av d1 [("term",v1),("sums",.ref sl),("guards",.ref g1)]) hn1 hd1;have z3:=z2.trans y1;refine i18 _ rfl o _ dd _ _ rfl (z3 _ _ eo) T.ba T.gn (by walk_at "lk") (i18 _ rfl a _ dx _ _ rfl (z3 _ _ e) T.bj T.ci (by walk_at "lk") (i18 _ rfl a _ dx _ _ rfl (z3 _ _ e) T.bj T.c7 (by walk_at "lk") (i06 _ rfl (A0t rfl) λt2 ht2=>⟨A0t rfl,λl2 hl2=> ?_⟩)));have y2:=(A0f (o:= .tup [.ref o,.bl false]) ht2).trans (A0f (o:= .lst [.ref t2]) hl2);refine i11 gl l2 _ _ rfl rfl (y2 _ _ (z3 _ _ hg)) A0b (A2a (by simp;lia)) λg2 hg2=> ?_;have y3:=y2.trans (A0f (o:= .lst (gs++[.ref t2])) hg2);refine λn2 d2 hn2 hd2 nd2=>(i03 n2 d2 (i0q _ _ _ rfl A0b rfl (i0k _ rfl _ rfl (A0t rfl) λq hq=> ?_)));have y4:=A5s (o:= .own n2) (u:= .ins t.av d2 []) (v:= .ins t.av d2 [("term",v2),("sums",.ref sl),("guards",.ref g2)]) hn2 hd2;have y5:=A0f (o:= .lst [.ref n1,.ref n2]) hq;have s4:=z3.trans (y3.trans (y4.trans y5));refine k q _ _ ((z3.trans (y3.trans y4)).free hq) s4 A0b (.cons (i1c n1 d1 v1 sl g1 _ rfl (A0j (fr _ (z2.free hn1)) ((y3.trans (y4.trans y5)) _ _ A0b)) (ob1.imp (A0i s4)) (A0i s4 _ _ hs0) (A0j (fr _ (z1.free hg1)) ((y1.trans (y3.trans (y4.trans y5))) _ _ A0b)) (by show (gs++[V.ref t1]).length+dep l<=100;rw [Z06];simp only [Z0y,Z2g];lia) (by show ss.length+dep l<=100;lia) (B1t (Paired.mapP pg λ_ _ z=>z.same (A0i s4)) (.cons (i03 t1 o (i0m dd v1 v2 rfl (A0j (fr _ ht1) (((A0f hl1).trans ((A0f hg1).trans (y1.trans (y3.trans (y4.trans y5))))) _ _ A0b)) (A0i s4 _ _ eo0))) .nil))) (.cons (i1c n2 d2 v2 sl g2 _ rfl (A0j (fr _ ((z3.trans y3).free hn2)) (y5 _ _ A0b)) (ob2.imp (A0i s4)) (A0i s4 _ _ hs0) (A0j (fr _ ((z3.trans y2).free hg2)) ((y4.trans y5) _ _ A0b)) (by show (gs++[V.ref t2]).length+dep r<=100;rw [Z06];simp only [Z0y,Z2g];lia) (by show ss.length+dep r<=100;lia) (B1t (Paired.mapP pg λ_ _ z=>z.same (A0i s4)) (.cons (i03 t2 o (i0m dd v1 v2 rfl (A0j (fr _ (z3.free ht2)) (((A0f hl2).trans ((A0f hg2).trans (y4.trans y5))) _ _ A0b)) (A0i s4 _ _ eo0))) .nil))) .nil))
theorem B8d (T:Txt K mg t) (hm:3<=m) (Ga3:A3h P w K mg base CX0 m t.ge t.gb ["part"] sp')
  (hs:∀(p:V) (u:Tm) (s:List Str) (g:List Gd) (S:Addr->Prop) (H:Hp) (Q:VK),Fr S H->A3j t (A1d S H) p (u,s,g)->dep u+1<=n->nod u<=1000->(∀(q:Addr) (xs:List V) (H':Hp),H q=none->A1c H H'->H' q=some (.lst xs)->Paired (A3j t (A1d S H')) xs (prT u s g)->Q (.ref q) H')->sp' [p] H Q E0) :
  A3h P w K mg base CX0 (m+1) t.ge t.gb ["part"] (C6e t n):=by
 have Ga4:= @A3r P w K mg base t T;refine T.jj.F.ok A7k (by walk_at "ln") λ_ A _ s H _ Q E hr h=> ?_
 ·obtain ⟨p,u,ss,gg,S,rfl,fr,pa,hd,hn,k⟩:=h;obtain ⟨a,dx,tv,sl,gl,gs,rfl,e0,ob,hs0,hg0,bg,bs,pg⟩:=id pa;have dp:=A5x u;refine i02 _ (@A0c _ _ _ _ _ (@A0l _ _ 1 _ _ _ _ A7k.nd rfl (.inl rfl) (@A1z _ _ _ _ (A0a (pv 0) A0d)) rfl (.inl rfl)) (@A0c _ _ _ _ _ (A2y PassesOwn.never rfl (A2g (pcl Ga4 hr T.bq (A0a (pv 0) A0d))) (A0m (i:=2) A7k.nd rfl (.inl rfl)) (@A0g _ _ _ (A3n (A7p Z0k PySem.F.slot_list_extend PySem.F.type_list_extend B2l (pv 1) (A0a (pcl Ga3 hr T.jj (A0a (pv 2) A0d)) A0d))))) (@A0g _ _ _ (@A0s _ _ _ _ (pv 1))))) ?_;refine i06 _ rfl (A0t rfl) λl hl=> ?_;have s1:A1c H (upd H l (.lst [.ref a])):=A0f hl;have m1:A1c (A1d S H) (A1d (λb=>S b/\b≠l) (upd H l (.lst [.ref a]))):=λb o z=>A0j ⟨(A0p z).1,A1e (A0p z).2 hl⟩ (s1 _ _ (A0p z).2);have fr1:∀{G:Hp},A1c (upd H l (.lst [.ref a])) G->Fr (λb=>S b/\b≠l) G:=λ{G} s b hb=>⟨fr b (s1.free (s.free hb)),λz=>by subst z;rw [s _ _ A0b] at hb;cases hb⟩;have nl:¬(S l/\l≠l):=λz=>z.2 rfl;refine i02 _ rfl (i03 (.ref a) u (i0q ss gg (λb=>S b/\b≠l) rfl (fr1 (A1c.refl _)) (pa.same m1) λq ks H2 hq s2 h2 pk=>(i06 q rfl ⟨_,SqL.of h2⟩ ?_)));have ql:q≠l:=λz=>by subst z;rw [A0b] at hq;cases hq
  have hlk:=Paired.length pk
  have tot:((B6n u ss gg).flatMap λk=>prT k.1 k.2.1 k.2.2).length+1=nod u:=by
   have h1:(prT u ss gg).length=nod u:=A5t u ss gg;rw [C1y,Z0y] at h1;exact h1
  have bnd:∀(i:Nat),(((B6n u ss gg).take i).flatMap λk=>prT k.1 k.2.1 k.2.2).length<=nod u:=λi=>by
   have e:=Z2e i (B6n u ss gg);have e2:((B6n u ss gg).flatMap λk=>prT k.1 k.2.1 k.2.2)=(((B6n u ss gg).take i).flatMap λk=>prT k.1 k.2.1 k.2.2)++(((B6n u ss gg).drop i).flatMap λk=>prT k.1 k.2.1 k.2.2):=by rw [<-List.flatMap_append,e]
   rw [e2,Z06] at tot;lia
  refine A3f (K:=K) (a:=q) (xs:=ks) (λi Z H3=>∃(o2:Option V) (xs:List V),Z=[Sro a,Sro l,o2]/\A1c H H3/\(∀b,H3 b=none->upd H l (.lst [.ref a]) b=none)/\H3 q=some (.lst ks)/\Paired (A3j t (A1d (λb=>S b/\b≠l) H3)) ks (B6n u ss gg)/\H3 l=some (.lst (.ref a::xs))/\Paired (A3j t (A1d (λb=>S b/\b≠l) H3)) xs (((B6n u ss gg).take i).flatMap λk=>prT k.1 k.2.1 k.2.2))
   (i0s none [] rfl (s1.trans s2) (λb hb=>s2.free hb) h2 pk ⟨s2 _ _ A0b,.nil⟩) (λi Z H3 _ zq=>by obtain ⟨_,_,_,_,_,h,_⟩:=zq;exact SqL.of h) ?_ ?_
  ·rintro i y Z H3 hy ⟨o2,xs,rfl,s3,f3,h3,pk3,hl3,ps⟩;obtain ⟨kd,hkd,pkd⟩:=B3x pk3 hy;have km:=Z13 hkd;have kd1:=C9r km
   have nk:nod kd.1<=1000:=by
    have h2:(prT kd.1 kd.2.1 kd.2.2).length<=((B6n u ss gg).flatMap λk=>prT k.1 k.2.1 k.2.2).length:=by
     obtain ⟨l1,l2,e2⟩:=List.append_of_mem km;rw [e2,List.flatMap_append,List.flatMap_cons,Z06,Z06];lia
    rw [A5t] at h2
    lia
   have fr3:Fr (λb=>S b/\b≠l) H3:=λb hb=>⟨fr b (s1.free (f3 b hb)),λz=>by subst z;rw [hl3] at hb;cases hb⟩;refine i0j _ rfl (.inl (i01 rfl _ (SqL.of hl3))) _ rfl (hs y kd.1 kd.2.1 kd.2.2 _ H3 _ fr3 pkd (by lia) nk λq2 zs H4 hq2 s4 h4 pz=> ?_);have lxs:=Paired.length ps;have lzs:=Paired.length pz;rw [A5t] at lzs;have b1:=bnd i;refine i11 l q2 _ _ rfl rfl (s4 _ _ hl3) h4 (A2a (by simp;lia)) ?_;have u4:A1c (A1d (λb=>S b/\b≠l) H4) (A1d (λb=>S b/\b≠l) (upd H4 l (.lst (.ref a::xs++zs)))):=A2p (A1c.refl _) nl;have v4:=(A0i (S:=λb=>S b/\b≠l) s4).trans u4;refine i0s _ (xs++zs) rfl (A0r (s3.trans s4) hl) (λb hb=> ?_) ?_ (Paired.mapP pk3 λ_ _ z=>z.same v4) ⟨A0b,?_⟩
   ·by_cases z:b=l
    ·subst z;rw [A0b] at hb;cases hb
    ·rw [A0k z] at hb;exact f3 b (s4.free hb)
   ·rw [A0k ql];exact s4 _ _ h3
   ·rw [Z14,hkd,Z2f,List.flatMap_append,List.flatMap_cons,List.flatMap_nil,Z0u];exact B1t (Paired.mapP ps λ_ _ z=>z.same v4) (Paired.mapP pz λ_ _ z=>z.same u4)
  ·rintro Z H3 ⟨o2,xs,rfl,s3,f3,h3,pk3,hl3,ps⟩;rw [hlk,Z18] at ps;refine i02 _ rfl (k l _ H3 hl s3 hl3 ?_);rw [C1y];refine .cons (pa.same (A0i s3)) (Paired.mapP ps λ_ _ z=>z.same (A2q (A1c.refl _) λb o _ h=>h.1))
theorem C5i (T:Txt K mg t):∀n:Nat,A3h P w K mg base CX0 (n+4) t.ge t.gb ["part"] (C6e t n)
 | 0=>B8d T (sp':=λ_ _ _ _=>False) (m:=3) (by lia) (A3h.none λ_ _ _ _ h=>h) λp u s g S H Q _ _ h=>absurd h (by lia)
 | n+1=>B8d T (m:=n+4) (by lia) (C5i T n) λp u s g S H Q fr pa hd hn k=>(i14 p u s g S rfl fr pa (by lia) hn k)
theorem C0v (T:Txt K mg t):FO P w base T.om 46 (D0v t):=by
 have Ga3:= @C5i P w K mg base t T 40;have Ga2:= @A8f P w K mg base t T;refine T.om.F.ok B9l (by walk_at "ln") λ_ A _ s H _ Q E hr h=> ?_
 ·obtain ⟨v,u,S,rfl,fr,ob,hd,hn,k⟩:=h;refine i02 _ (@A0g _ _ _ (@A0s _ _ _ _ (pcl Ga3 hr T.jj (A0a (pmk T.jc Ga2 hr T.nj T.cb.b (A0a (pv 0) (A0a (@A1z _ _ _ _ A0d) (A0a (@A1z _ _ _ _ A0d) A0d)))) A0d)))) ?_;refine i06 _ rfl (A0t rfl) λl1 hl1=>⟨A0t rfl,λl2 hl2=> ?_⟩;refine λn dn hnn hdn nd=>(i03 n dn (i0q _ _ _ rfl A0b rfl ?_));have s1:=(A0f (o:= .lst []) hl1).trans (A0f (o:= .lst []) hl2);have s2:=A5s (o:= .own n) (u:= .ins t.av dn []) (v:= .ins t.av dn [("term",v),("sums",.ref l1),("guards",.ref l2)]) hnn hdn;have s3:=s1.trans s2;refine i14 (.ref n) u [] [] S rfl (λb hb=>fr b (s3.free hb)) (i1c n dn v l1 l2 [] rfl (A0j (fr _ (s1.free hnn)) A0b) (ob.imp (A0i s3)) (A0j (fr _ hl1) (s2 _ _ ((A0f hl2) _ _ A0b))) (A0j (fr _ ((A0f hl1).free hl2)) (s2 _ _ A0b)) (by show 0+dep u<=100;lia) (by show 0+dep u<=100;lia) .nil) hd hn λq xs H4 hq s4 h4 ps=> ?_;exact k q xs H4 (s3.free hq) (s3.trans s4) h4 ps
def TmW:Tm->Prop
 | .num z=>Sm z
 | .place x=>B3y x
 | .read a ix=>a.length<=60/\ix.length<=12/\∀e∈ix,B3y e.1/\Sm e.2
 | .sum x b=>B3y x/\TmW b
 | .pair _ l r=>TmW l/\TmW r
 | .guard x lo hi l r=>B3y x/\Sm lo/\Sm hi/\TmW l/\TmW r
def isS:Tm->Bool
 | .sum _ _=>true
 | _=>false
def isP:Tm->Bool
 | .pair _ _ _=>true
 | _=>false
def isG:Tm->Bool
 | .guard _ _ _ _ _=>true
 | _=>false
def isL:Tm->Bool
 | .place _=>true
 | _=>false
def isR:Tm->Bool
 | .read _ _=>true
 | _=>false
theorem D9z {v:Value} {c:Addr} {b1 b2:Bool} (h1:kitOne K v (.ref c)=some b1) (h2:kitOne K v (.ref d)=some b2):∀us,A3y ([V.ref c,V.ref d]) us->kitAny K v us=some (b1||b2):=λus r=>by
 cases r with
 | cons a r =>
  cases a
  cases r with
  | cons a r =>
   cases a
   cases r
   unfold kitAny;rw [h1]
   cases b1 with
   | true=>rfl
   | false =>
    unfold kitAny;rw [h2];cases b2 <;> rfl
structure Kit (K:Frag) (t:Adr) (H:Hp) (v:V) (u:Tm):Prop where
 ex:∃(a C dx:Addr) (fs:List (Str×V)),v= .ref a/\H a=some (.ins C dx fs)/\Cls K C/\findIn K (.ref C) "__class__"=some (some (.builtin "object.__class__"))/\
 specialIn K (.builtin "object.__class__") "__get__"=some (some (.builtin "getset_descriptor.__get__"))/\takesIn K (.builtin "object.__class__")=some true/\mroIn K C (.type "object")=some true/\A8j K H (.ref a) (.ref C)/\kitOne K (.ref C) (.ref t.bn)=some (isS u)/\kitOne K (.ref C) (.ref t.c8)=some (isP u)/\kitOne K (.ref C) (.ref t.af)=some (isG u)/\kitOne K (.ref C) (.ref t.ai)=some (isL u)/\kitOne K (.ref C) (.ref t.ah)=some (isR u)
theorem C7g {t:Adr} (T:Txt K mg t) (ob:Ob t H v u):Kit K t H v u:=by
 cases ob with
 | num e=>exact ⟨_,_,_,_,rfl,e,T.cy,T.aw.ha,T.aw.hn,T.aw.htk,T.aw.hm,.ins e T.cy T.aw.ha T.aw.hn T.aw.htk T.aw.hm,T.j1,T.jz,T.jq,T.sn,T.ul⟩
 | place e=>exact ⟨_,_,_,_,rfl,e,T.ft,T.bf.ha,T.bf.hn,T.bf.htk,T.bf.hm,.ins e T.ft T.bf.ha T.bf.hn T.bf.htk T.bf.hm,T.jd,T.nh,T.jw,T.kh,T.vh⟩
 | read e _=>exact ⟨_,_,_,_,rfl,e,T.ff,T.br.ha,T.br.hn,T.br.htk,T.br.hm,.ins e T.ff T.br.ha T.br.hn T.br.htk T.br.hm,T.jy,T.ph,T.mi,T.mn,T.oz⟩
 | sum e _=>exact ⟨_,_,_,_,rfl,e,T.je,T.di.ha,T.di.hn,T.di.htk,T.di.hm,.ins e T.je T.di.ha T.di.hn T.di.htk T.di.hm,T.oh,T.q_,T.wy,T.vq,T.xf⟩
 | guard e _ _=>exact ⟨_,_,_,_,rfl,e,T.ba,T.be.ha,T.be.hn,T.be.htk,T.be.hm,.ins e T.ba T.be.ha T.be.hn T.be.htk T.be.hm,T.jf,T.m_,T.h_,T.kj,T.ml⟩
 | @pair _ _ k _ _ _ _ e _ _ =>
  cases k with
  | plus=>exact ⟨_,_,_,_,rfl,e,T.sr,T.cf.ha,T.cf.hn,T.cf.htk,T.cf.hm,.ins e T.sr T.cf.ha T.cf.hn T.cf.htk T.cf.hm,T.qz,T.px,T.n8,T.ma,T.qa⟩
  | minus=>exact ⟨_,_,_,_,rfl,e,T.ou,T.bu.ha,T.bu.hn,T.bu.htk,T.bu.hm,.ins e T.ou T.bu.ha T.bu.hn T.bu.htk T.bu.hm,T.pq,T.mw,T.ky,T.kq,T.mf⟩
  | times=>exact ⟨_,_,_,_,rfl,e,T.p_,T.bv.ha,T.bv.hn,T.bv.htk,T.bv.hm,.ins e T.p_ T.bv.ha T.bv.hn T.bv.htk T.bv.hm,T.pw,T.mr,T.kl,T.jv,T.mq⟩
def A3o:Tm->List Str
 | .sum x b=>x::A3o b
 | _=>[]
def inS:Tm->Tm
 | .sum _ b=>inS b
 | u=>u
def axO:Tm->List Str
 | .place x=>[x]
 | .guard x _ _ _ _=>[x]
 | .read _ ix=>(ix.filter λe=>decide (¬e.1=("":Str))).map (·.1)
 | _=>[]
def B9t (u:Tm):List Str:=(prT u [] []).flatMap λe=>axO e.1
def gd1 (e:Gd) (u:Tm):Tm:=match e.2.2.2 with
 | true=> .guard e.1 e.2.1 e.2.2.1 u (.num 0)
 | false=> .guard e.1 e.2.1 e.2.2.1 (.num 0) u
def gdM (g:List Gd) (u:Tm):Tm:=g.foldr gd1 u
def D7a (A:Adr):Sp:=λvs H Q _=>∃(v:V) (u:Tm),vs=[v]/\Ob A H v u/\dep u<=100/\∀(q:Addr) (H':Hp),H q=none->A1c H H'->H' q=some (.lst ((A3o u).map V.str))->Q (.ref q) H'
def E0i (A:Adr):Sp:=λvs H Q _=>∃(v:V) (u:Tm) (s:List Str) (g:List Gd) (S:Addr->Prop),vs=[v]/\Fr S H/\A3j A (A1d S H) v (u,s,g)/\∀(v':V) (H':Hp),A1c H H'->A3j A (A1d S H') v' (inS u,s++A3o u,g)->Q v' H'
def C9v (A:Adr) (o:Op3):Sp:=λvs H Q _=>∃(v a b:V),vs=[v,a,b]/\∀(x dx:Addr) (H':Hp),H x=none->A1c H H'->H' x=some (.ins (A5y A o) dx [("left",a),("right",b)])->Q (.ref x) H'
def D8r (A:Adr):Sp:=λvs H Q _=>∃(g d:Addr) (x lo hi u v a b:V),vs=[.ref g,a,b]/\H g=some (.ins A.af d [("axis",x),("low",lo),("high",hi),("inner",u),("outer",v)])/\∀(n dx:Addr) (H':Hp),H n=none->A1c H H'->H' n=some (.ins A.af dx [("axis",x),("low",lo),("high",hi),("inner",a),("outer",b)])->Q (.ref n) H'
def C4j (A:Adr):Sp:=λvs H Q _=>∃(v:V) (gl:Addr) (gs:List V) (g:List Gd) (u:Tm) (S:Addr->Prop),vs=[v,.ref gl]/\Fr S H/\Ob A (A1d S H) v u/\H gl=some (.lst gs)/\Paired (D6t A (A1d S H)) gs g/\∀(v':V) (H':Hp),A1c H H'->Ob A (A1d S H') v' (gdM g u)->Q v' H'
def D5v (A:Adr):Sp:=λvs H Q _=>∃(v:V) (u:Tm),vs=[v]/\Ob A H v u/\TmW u/\∀(q:Addr) (H':Hp),H q=none->A1c H H'->H' q=some (.lst ((axO u).map V.str))->Q (.ref q) H'
def D8b (A:Adr):Sp:=λvs H Q _=>∃(v:V) (u:Tm),vs=[v]/\Ob A H v u/\TmW u/\dep u<=40/\nod u<=1000/\∀(q:Addr) (H':Hp),H q=none->A1c H H'->H' q=some (.lst ((B9t u).map V.str))->Q (.ref q) H'
abbrev lfO (A:Adr) (d:Addr) (kn l:Addr) (n:Nat):HO:= .ins A.au d [("known",.ref kn),("lines",.ref l),("lifts",.int (n:Int))]
def sN (n:Nat):Str:="s"++(toString (n:Int):Str)
def D0u (A:Adr):Sp:=λvs H Q _=>∃(p d kn l:Addr) (n:Nat),vs=[.ref p]/\H p=some (lfO A d kn l n)/\n<=100000/\Q (.str (sN n)) (upd H p (lfO A d kn l (n+1)))
theorem B4n (T:Txt K mg t):FO P w base T.j0 1 (D7a t):=by
 refine T.j0.F.ok A4z (by walk_at "ln") λ_ A _ s H _ Q E hr h=> ?_
 ·obtain ⟨v,u,rfl,ob,hd,k⟩:=h;refine i02 _ (@A0c _ _ _ _ _ (@A0l _ _ 1 _ _ _ _ A4z.nd rfl (.inl rfl) (@A1z _ _ _ _ A0d) rfl (.inl rfl)) (@A0c _ _ _ _ _ (@A0l _ _ 2 _ _ _ _ A4z.nd rfl (.inl rfl) (pv 0) rfl (.inl rfl)) (@A0c _ _ _ _ _ (@B0h _ _ _ _ _ _ PassesOwn.never (A2t (A0u A1j (by rfl) T.ae Z0d (A0a (pv 2) (A0a (A3a (v:=V.ref t.bn) rfl T.yd rfl) A0d)))) (@A0c _ _ _ _ _ (A3n (A7p Z0k Z0n Z0o A2l (pv 1) (A0a (A1h (pv 2) rfl) A0d))) (@A0g _ _ _ (@A0l _ _ 2 _ _ _ _ A4z.nd rfl (.inl rfl) (A1h (pv 2) rfl) rfl (.inl rfl))))) (@A0g _ _ _ (@A0s _ _ _ _ (pv 1)))))) ?_;refine ⟨A0t rfl,λl hl=> ?_⟩;have s1:A1c H (upd H l (.lst [])):=A0f hl;refine i02 _ rfl ?_;refine i02 (λm Z H2=>∃(rest:V) (u':Tm) (dn:List Str),Z=[some v,Sro l,some rest]/\Ob t H rest u'/\A1c H H2/\H2 l=some (.lst (dn.map V.str))/\dn++A3o u'=A3o u/\dn.length+dep u'<=100/\m=dep u') (i11 (dep u) v u [] rfl ob s1 A0b rfl ⟨by show 0+dep u<=100;lia,rfl⟩) ?_;rintro m Z H2 ⟨rest,u',dn,rfl,ob',s2,h2,ed,bd,rfl⟩
  cases id ob' with
  | @num o dd z eo =>
   have ty:A8j K H2 (.ref o) (.ref t.ab):= .ins (s2 _ _ eo) T.cy T.aw.ha T.aw.hn T.aw.htk T.aw.hm;have e:dn=A3o u:=by rw [<-ed];exact (Z0u _).symm
   exact i16 _ rfl _ _ _ _ rfl ty (A1k T.j1) false rfl (A2o (i02 _ rfl (k l H2 hl s2 (by rw [<-e];exact h2))))
  | @place o dd x eo =>
   have ty:A8j K H2 (.ref o) (.ref t.ai):= .ins (s2 _ _ eo) T.ft T.bf.ha T.bf.hn T.bf.htk T.bf.hm;have e:dn=A3o u:=by rw [<-ed];exact (Z0u _).symm
   exact i16 _ rfl _ _ _ _ rfl ty (A1k T.jd) false rfl (A2o (i02 _ rfl (k l H2 hl s2 (by rw [<-e];exact h2))))
  | @read o dd ll x ix eo rp =>
   have ty:A8j K H2 (.ref o) (.ref t.ah):= .ins (s2 _ _ eo) T.ff T.br.ha T.br.hn T.br.htk T.br.hm;have e:dn=A3o u:=by rw [<-ed];exact (Z0u _).symm
   exact i16 _ rfl _ _ _ _ rfl ty (A1k T.jy) false rfl (A2o (i02 _ rfl (k l H2 hl s2 (by rw [<-e];exact h2))))
  | @pair o dd op v1 v2 ll r eo ob1 ob2 =>
   have e:dn=A3o u:=by rw [<-ed];exact (Z0u _).symm
   have ki:kitOne K (.ref (A5y t op)) (.ref t.bn)=some false:=by cases op with
    | plus=>exact T.qz
    | minus=>exact T.pq
    | times=>exact T.pw
   exact i16 _ rfl _ _ _ _ rfl (C7c T (s2 _ _ eo)) (A1k ki) false rfl (A2o (i02 _ rfl (k l H2 hl s2 (by rw [<-e];exact h2))))
  | @guard o dd x lo hi v1 v2 ll r eo ob1 ob2 =>
   have ty:A8j K H2 (.ref o) (.ref t.af):= .ins (s2 _ _ eo) T.ba T.be.ha T.be.hn T.be.htk T.be.hm;have e:dn=A3o u:=by rw [<-ed];exact (Z0u _).symm
   exact i16 _ rfl _ _ _ _ rfl ty (A1k T.jf) false rfl (A2o (i02 _ rfl (k l H2 hl s2 (by rw [<-e];exact h2))))
  | @sum o dd x v2 bb eo ob1 =>
   have ty:A8j K H2 (.ref o) (.ref t.bn):= .ins (s2 _ _ eo) T.je T.di.ha T.di.hn T.di.htk T.di.hm;have bd:dn.length+(dep bb+1)<=100:=bd;refine i16 _ rfl _ _ _ _ rfl ty (A1k T.oh) true rfl (A5z ?_);refine i02 (λZ' H'=>∃m',m'<dep (.sum x bb)/\∃(rest:V) (u':Tm) (dn:List Str),Z'=[some v,some (.ref l),some rest]/\Ob t H rest u'/\A1c H H'/\H' l=some (.lst (dn.map V.str))/\dn++A3o u'=A3o u/\dn.length+dep u'<=100/\m'=dep u') (λZ' H' z=>z) ?_;refine i06 _ rfl (.inl (i01 rfl _ (SqL.of h2))) (i18 _ rfl o _ dd _ _ rfl (s2 _ _ eo) T.je T.ko (by walk_at "lk") (i0t l _ _ rfl rfl h2 (A1s (by rw [Z08];lia)) ?_));have ol:o≠l:=λz=>by subst z;rw [hl] at eo;cases eo
   refine i18 _ rfl o _ dd _ _ rfl (by rw [A0k ol];exact s2 _ _ eo) T.je T.k_ (by walk_at "lk") ?_;refine i0x (dep bb) (by show dep bb<dep bb+1;lia) v2 bb (dn++[x]) rfl ob1 (A0r s2 hl) (i04 (by rw [A0b,Z0s];rfl) ?_ ?_ rfl)
   ·rw [<-ed,Z0z];rfl
   ·rw [Z06];show dn.length+1+dep bb<=100;lia
theorem A8s (T:Txt K mg t):FO P w base T.fe 4 (E0i t):=by
 have Ga4:= @A3r P w K mg base t T;refine T.fe.F.ok A6k (by walk_at "ln") λ_ A _ s H _ Q E hr h=> ?_
 ·obtain ⟨v,u,ss,g,S,rfl,fr,pa,k⟩:=h;refine i02 _ (@A0c _ _ _ _ _ (@A0l _ _ 1 _ _ _ _ A6k.nd rfl (.inl rfl) (pv 0) rfl (.inl rfl)) (@A0c _ _ _ _ _ (@B0h _ _ _ _ _ _ PassesOwn.never (A2t (A0u A1j (by rfl) T.ae Z0d (A0a (A1h (pv 1) rfl) (A0a (A3a (v:=V.ref t.bn) rfl T.yd rfl) A0d)))) (@A0g _ _ _ (@A0l _ _ 1 _ _ _ _ A6k.nd rfl (.inl rfl) (A1f A1p (pcl Ga4 hr T.bq (A0a (pv 1) A0d)) A0e (λ_ _=>rfl)) rfl (.inl rfl)))) (@A0g _ _ _ (@A0s _ _ _ _ (pv 1))))) ?_;refine i02 _ rfl ?_;refine i02 (λm Z H2=>∃(rest:V) (u':Tm) (s':List Str),Z=[some v,some rest]/\A1c H H2/\A3j t (A1d S H2) rest (u',s',g)/\inS u'=inS u/\s'++A3o u'=ss++A3o u/\m=dep u') (i11 (dep u) v u ss rfl (A1c.refl _) pa rfl rfl rfl) ?_;rintro m Z H2 ⟨rest,u',s',rfl,s2,pa2,ei,et,rfl⟩;obtain ⟨a,dx,tv,sl,gl,gs,rfl,e0,ob0,hs0,hg0,bg,bs,pg⟩:=id pa2;have e2:=A1b _ _ e0;obtain ⟨o,C,dd,fs,rfl,eo,_,_,_,_,_,ty,k1,_⟩:=(C7g T (ob0.imp A1b)).ex;refine i18 _ rfl a _ dx _ _ rfl e2 T.bj T.bx (by walk_at "lk") ⟨_,(i0g _ _ _ rfl (i0a ty (A1k k1) (isS u') rfl ?_))⟩
  cases u' with
  | sum x b =>
   refine A5z ?_;refine i02 (λZ' H'=>∃m',m'<dep (.sum x b)/\∃(rest:V) (u':Tm) (s':List Str),Z'=[some v,some rest]/\A1c H H'/\A3j t (A1d S H') rest (u',s',g)/\inS u'=inS u/\s'++A3o u'=ss++A3o u/\m'=dep u') (λZ' H' z=>z) ?_;have fr2:Fr S H2:=λb hb=>fr b (s2.free hb);refine i02 _ rfl (i03 (.ref a) (.sum x b) (i0q s' g S rfl fr2 pa2 λq xs H3 hq s3 h3 ps=> ?_))
   cases ps with
   | cons p1 ps =>
    cases ps
    refine i0y q _ _ _ rfl rfl (SqL.of h3) (A3g (j:=0) rfl) ?_;exact i0x (dep b) (by show dep b<dep b+1;lia) _ b (s'++[x]) rfl (s2.trans s3) p1 (i00 ei (by rw [<-et,Z0z];rfl) rfl)
  | num z=>exact A2o (i02 _ rfl (k _ H2 s2 (by rw [show inS u= .num z from ei.symm,<-et];show A3j t (A1d S H2) _ (.num z,s'++[],g);rw [Z0u];exact pa2)))
  | place z=>exact A2o (i02 _ rfl (k _ H2 s2 (by rw [show inS u= .place z from ei.symm,<-et];show A3j t (A1d S H2) _ (.place z,s'++[],g);rw [Z0u];exact pa2)))
  | read z i=>exact A2o (i02 _ rfl (k _ H2 s2 (by rw [show inS u= .read z i from ei.symm,<-et];show A3j t (A1d S H2) _ (.read z i,s'++[],g);rw [Z0u];exact pa2)))
  | pair z l r=>exact A2o (i02 _ rfl (k _ H2 s2 (by rw [show inS u= .pair z l r from ei.symm,<-et];show A3j t (A1d S H2) _ (.pair z l r,s'++[],g);rw [Z0u];exact pa2)))
  | guard z i j l r=>exact A2o (i02 _ rfl (k _ H2 s2 (by rw [show inS u= .guard z i j l r from ei.symm,<-et];show A3j t (A1d S H2) _ (.guard z i j l r,s'++[],g);rw [Z0u];exact pa2)))
theorem B2n (T:Txt K mg t):FP P w mg base T.gu 3 (C9v t .plus):=by
 have Ga5:= @A6f P w K mg base t T;refine T.gu.F.ok B2v (by walk_at "ln") λ_ A _ s H _ Q E hr h=> ?_
 ·obtain ⟨v,a,b,rfl,k⟩:=h;refine i02 _ (@A0g _ _ _ (@A0s _ _ _ _ (pmk T.yz Ga5 hr T.wq T.cg.b (A0a (pv 1) (A0a (pv 2) A0d))))) ?_;exact i0e _ rfl _ rfl λx dx hx hdx hne=>(i14 x _ dx _ _ rfl A0b (A6t T .plus) (B8b T .plus) (B7w T .plus) ⟨rfl,k x dx _ hx (A2e hx hdx) A0b⟩)
theorem B1o (T:Txt K mg t):FP P w mg base T.fw 3 (C9v t .minus):=by
 have Ga5:= @A6f P w K mg base t T;refine T.fw.F.ok B1l (by walk_at "ln") λ_ A _ s H _ Q E hr h=> ?_
 ·obtain ⟨v,a,b,rfl,k⟩:=h;refine i02 _ (@A0g _ _ _ (@A0s _ _ _ _ (pmk T.xp Ga5 hr T.sv T.cg.b (A0a (pv 1) (A0a (pv 2) A0d))))) ?_;exact i0e _ rfl _ rfl λx dx hx hdx hne=>(i14 x _ dx _ _ rfl A0b (A6t T .minus) (B8b T .minus) (B7w T .minus) ⟨rfl,k x dx _ hx (A2e hx hdx) A0b⟩)
theorem B1p (T:Txt K mg t):FP P w mg base T.g9 3 (C9v t .times):=by
 have Ga5:= @A6f P w K mg base t T;refine T.g9.F.ok B1r (by walk_at "ln") λ_ A _ s H _ Q E hr h=> ?_
 ·obtain ⟨v,a,b,rfl,k⟩:=h;refine i02 _ (@A0g _ _ _ (@A0s _ _ _ _ (pmk T.yc Ga5 hr T.wv T.cg.b (A0a (pv 1) (A0a (pv 2) A0d))))) ?_;exact i0e _ rfl _ rfl λx dx hx hdx hne=>(i14 x _ dx _ _ rfl A0b (A6t T .times) (B8b T .times) (B7w T .times) ⟨rfl,k x dx _ hx (A2e hx hdx) A0b⟩)
theorem moOk (T:Txt K mg t) (o:Op3):∃f fd,C1s K (A5y t o) "made_of" f/\A3h P w K mg base CX0 3 f fd ["self","left","right"] (C9v t o)/\A8o K fd ["self","left","right"] []:=by cases o with
 | plus=>exact i0f _ _ T.si (B2n T) T.gu.b
 | minus=>exact i0f _ _ T.qv (B1o T) T.fw.b
 | times=>exact i0f _ _ T.qg (B1p T) T.g9.b
theorem A5i (T:Txt K mg t):FP P w mg base T.cq 3 (D8r t):=by
 have Ga6:= @B0i P w K mg base t T;refine T.cq.F.ok B1q (by walk_at "ln") λ_ A _ s H _ Q E hr h=> ?_
 ·obtain ⟨g,d,x,lo,hi,u,v,a,b,rfl,e,k⟩:=h;refine i02 _ (@A0g _ _ _ (@A0s _ _ _ _ (pmk T.y6 Ga6 hr T.m7 T.gc.b (A0a (A1h (pv 0) rfl) (A0a (A1h (pv 0) rfl) (A0a (A1h (pv 0) rfl) (A0a (pv 1) (A0a (pv 2) A0d)))))))) ?_;exact i18 _ rfl g _ d _ _ rfl e T.ba T.fg (by walk_at "lk") (i18 _ rfl g _ d _ _ rfl e T.ba T.j9 (by walk_at "lk") (i18 _ rfl g _ d _ _ rfl e T.ba T.j6 (by walk_at "lk") (i0e _ rfl _ rfl λn dx hn hdx hne=>(i0u n dx _ _ _ _ _ (i04 rfl A0b rfl (k n dx _ hn (A2e hn hdx) A0b))))))
theorem C3m (T:Txt K mg t):FO P w base T.qw 5 (C4j t):=by
 have Ga7:= @A8t P w K mg base t T;refine T.qw.F.ok A5m (by walk_at "ln") λ_ A _ s H _ Q E hr h=> ?_
 ·obtain ⟨v,gl,gs,g,u,S,rfl,fr,ob,hgl,pg,k⟩:=h;have lg:=Paired.length pg;refine i02 _ (@A0c _ _ _ _ _ (@A0l _ _ 2 _ _ _ _ A5m.nd rfl (.inl rfl) (pv 0) rfl (.inl rfl)) (@A0c _ _ _ _ _ (A2y PassesOwn.never rfl (C8e rfl T.n_ (A0a (pv 1) A0d)) (A3z (n:=2) rfl (A0y (A0m (i:=3) A5m.nd rfl (.inl rfl)) (A0y (A0m (i:=4) A5m.nd rfl (.inl rfl)) A2v))) (@A0g _ _ _ (@A1v _ _ _ _ _ _ _ _ (A2t (pv 4)) (@A0g _ _ _ (@A0l _ _ 2 _ _ _ _ A5m.nd rfl (.inl rfl) (B6b (pv 3) (A0a (pv 2) (A0a (pmk T.qh Ga7 hr T.pf T.dj.b (A0a A0e A0d)) A0d))) rfl (.inl rfl))) (@A0g _ _ _ (@A0l _ _ 2 _ _ _ _ A5m.nd rfl (.inl rfl) (B6b (pv 3) (A0a (pmk T.qh Ga7 hr T.pf T.dj.b (A0a A0e A0d)) (A0a (pv 2) A0d))) rfl (.inl rfl)))))) (@A0g _ _ _ (@A0s _ _ _ _ (pv 2))))) ?_;refine i0w _ rfl _ rfl gl _ rfl (SqL.of hgl) ?_;refine C0b (K:=K) (a:=gl) (xs:=gs) (λi Z G=>∃(o3 o4:Option V) (v':V),Z=[some v,Sro gl,some v',o3,o4]/\A1c H G/\Ob t (A1d S G) v' (gdM (g.drop (g.length-i)) u)) (i0m none none v rfl (A1c.refl _) (by rw [Nat.sub_zero,Z2i];exact ob)) (by rintro i Z G ⟨_,_,_,_,sg,_⟩;exact SqL.of (sg _ _ hgl)) ?_ ?_
  ·rintro i y Z G hi hy ⟨o3,o4,v',rfl,sg,ob'⟩;obtain ⟨e,he,tp,go,dx,u1,w1,rfl,htp,hgo⟩:=B3x pg hy;have htp':=sg _ _ (A1b _ _ htp);have hgo':=sg _ _ (A1b _ _ hgo)
   have ed:g.drop (g.length-(i+1))=e::g.drop (g.length-i):=by
    have hlt:=(Z03.mp he);have e1:gs.length-1-i=g.length-(i+1):=by lia
    rw [e1] at he;have h1:=(Z03.mp he);rw [Z1u h1.1,h1.2];congr 2
    lia
   have eg:gdM (g.drop (g.length-(i+1))) u=gd1 e (gdM (g.drop (g.length-i)) u):=by rw [ed];rfl
   rw [eg];generalize gdM (g.drop (g.length-i)) u=tm at ob';refine i19 tp _ rfl (SqT.of htp') rfl _ _ rfl _ _ rfl rfl ?_;obtain ⟨x,lo,hi',bb⟩:=e;refine i0e _ rfl bb rfl ?_;have frG:∀{G':Hp},A1c G G'->Fr S G':=λs b hb=>fr b (sg.free (s.free hb))
   cases bb with
   | true =>
    refine A5z ?_;refine ⟨_,(i01 rfl go (i1d _ dx _ _ _ _ _ _ rfl hgo' T.ba T.fb (by walk_at "lk") (A5i T) (i0a (hr.mono (by lia)) T.cq.b _ rfl λn dn hn hdn hne=>(i11 n _ dn _ rfl A0b T.cy T.df rfl ?_))))⟩;have s1:A1c G (upd (upd (upd G dn (.own n)) n (.ins t.ab dn [])) n (.ins t.ab dn [("number",.int 0)])):=A2e hn hdn;have en:upd (upd (upd G dn (.own n)) n (.ins t.ab dn [])) n (.ins t.ab dn [("number",.int 0)]) n=some (.ins t.ab dn [("number",.int 0)]):=A0b;generalize upd (upd (upd G dn (.own n)) n (.ins t.ab dn [])) n (.ins t.ab dn [("number",.int 0)])=G1 at s1 en;refine i0u go dx (.str x) (.int lo) (.int hi') u1 w1 (i0f v' (.ref n) rfl (s1 _ _ hgo') λq dq G2 hq s2 hq2=> ?_);exact i0m _ _ (.ref q) rfl (sg.trans (s1.trans s2)) (.guard (A0j (frG s1 q hq) hq2) (ob'.imp (A0i (s1.trans s2))) (.num (A0j (frG (A1c.refl _) n hn) (s2 _ _ en))))
   | false =>
    refine A2o ?_;refine i02 _ rfl (i08 go _ dx (i1c _ _ _ _ _ _ rfl hgo' T.ba T.fb (by walk_at "lk") (A5i T) (hr.mono (by lia)) ⟨T.cq.b,λn dn hn hdn hne=>(i0y n _ dn _ rfl A0b T.cy T.df (i05 rfl _ rfl ?_))⟩));have s1:A1c G (upd (upd (upd G dn (.own n)) n (.ins t.ab dn [])) n (.ins t.ab dn [("number",.int 0)])):=A2e hn hdn;have en:upd (upd (upd G dn (.own n)) n (.ins t.ab dn [])) n (.ins t.ab dn [("number",.int 0)]) n=some (.ins t.ab dn [("number",.int 0)]):=A0b;generalize upd (upd (upd G dn (.own n)) n (.ins t.ab dn [])) n (.ins t.ab dn [("number",.int 0)])=G1 at s1 en;refine i0u go dx (.str x) (.int lo) (.int hi') u1 w1 (i0f (.ref n) v' rfl (s1 _ _ hgo') λq dq G2 hq s2 hq2=> ?_);exact i0m _ _ (.ref q) rfl (sg.trans (s1.trans s2)) (.guard (A0j (frG s1 q hq) hq2) (.num (A0j (frG (A1c.refl _) n hn) (s2 _ _ en))) (ob'.imp (A0i (s1.trans s2))))
  ·rintro Z G ⟨o3,o4,v',rfl,sg,ob'⟩;have e0:g.drop (g.length-gs.length)=g:=by rw [lg,Nat.sub_self];rfl
   rw [e0] at ob';exact i02 _ rfl (k v' G sg ob')
theorem A8p (T:Txt K mg t):FP P w mg base T.dh 1 (D0u t):=by
 refine T.dh.F.ok A5k (by walk_at "ln") λ_ A _ s H _ Q E hr h=> ?_
 ·obtain ⟨p,d,kn,l,n,rfl,e,ln,k⟩:=h;refine i02 _ (@A0c _ _ _ _ _ (@A0l _ _ 1 _ _ _ _ A5k.nd rfl (.inl rfl) (A1h (pv 0) rfl) rfl (.inl rfl)) (@A0c _ _ _ _ _ (A2d (pv 0) (A0o A2h (pv 1) A0e) rfl) (@A0g _ _ _ (@A0s _ _ _ _ (D2t (D7r (D6y (pv 1) D5y))))))) ?_;refine i18 _ rfl p _ d _ _ rfl e T.bp T.fz (by walk_at "lk") ?_;have z0:Sm (n:Int):=by unfold Sm;lia
  have l1:=C7e z0;have e0:(Str.empty++("s":Str)).length<=1:=by decide +kernel
  have e1:(Str.empty++("s":Str)++(toString (n:Int):Str)).length<=60:=by rw [Str.length_append];lia
  have e2:A4r "lifts" (V.int ((n:Int)+1)) ([("known",.ref kn),("lines",.ref l),("lifts",.int (n:Int))]:List (Str×V))=([("known",.ref kn),("lines",.ref l),("lifts",.int ((n+1:Nat):Int))]:List (Str×V)):=by rw [A1i (by decide +kernel),A1i (by decide +kernel),A4r,Z12 rfl];rfl
  refine i0n _ rfl _ _ rfl rfl (i15 _ rfl p _ d _ rfl e T.bp T.fz (by show 3<1000;decide) ?_);rw [e2];refine i05 (A2a (by lia)) _ rfl (i0c _ (.inr (i06 _ rfl (D7b z0) rfl)) (A2a (by lia)) (A2a (by lia)) ?_);have e3:Str.empty++("s":Str)++(toString (n:Int):Str)=sN n:=by rw [Str.empty_append];rfl
  rw [e3];exact k
theorem B9c:∀(u:Tm) (s:List Str) (g:List Gd),TmW u->∀e∈prT u s g,TmW e.1
 | .num _,_,_,h=>λe m=>by rw [Z0w.mp m];exact h
 | .place _,_,_,h=>λe m=>by rw [Z0w.mp m];exact h
 | .read _ _,_,_,h=>λe m=>by rw [Z0w.mp m];exact h
 | .sum x b,s,g,h=>λe m=>by
  rcases Z0e.mp m with rfl | m
  ·exact h
  ·exact B9c b _ _ h.2 e m
 | .pair k l r,s,g,h=>λe m=>by
  rcases Z0e.mp m with rfl | m
  ·exact h
  ·rcases Z07.mp m with m | m
   ·exact B9c l _ _ h.1 e m
   ·exact B9c r _ _ h.2 e m
 | .guard x lo hi l r,s,g,h=>λe m=>by
  rcases Z0e.mp m with rfl | m
  ·exact h
  ·rcases Z07.mp m with m | m
   ·exact B9c l _ _ h.2.2.2.1 e m
   ·exact B9c r _ _ h.2.2.2.2 e m
theorem C5j (h:TmW u):(axO u).length<=12:=by
 cases u with
 | read a ix =>
  show ((ix.filter _).map _).length<=12;rw [Z08];have h1:=List.length_filter_le (λe:Str×Int=>decide (¬e.1=("":Str))) ix;have h2:=h.2.1
  lia
 | num z=>exact Z1e _
 | place z=>show 1<=12;lia
 | sum x b=>exact Z1e _
 | pair k l r=>exact Z1e _
 | guard x lo hi l r=>show 1<=12;lia
theorem B9r:∀(es:List PT),(∀e∈es,TmW e.1)->(es.flatMap λe=>axO e.1).length<=12*es.length
 | [],_=>Z1e _
 | e::es,h=>by
  have h1:=C5j (h e (by simp));have h2:=B9r es λe he=>h e (by simp [he]);rw [List.flatMap_cons,Z06,Z0y]
  lia
theorem C2q (T:Txt K mg t):FO P w base T.qi 1 (D5v t):=by
 refine T.qi.F.ok C2r (by walk_at "ln") λ_ A _ s H _ Q E hr h=> ?_
 ·obtain ⟨v,u,rfl,ob,hw,k⟩:=h;refine e0e ((C7g T ob).ex) ?_;rintro o C dd fs rfl eo c1 c2 ⟨c3,c4,c5,ty,k1,k2,k3,k4,k5⟩;refine i02 _ (@A0c _ _ _ _ _ (@A1v _ _ _ _ _ _ _ _ (A2t (A0u B0o (by rfl) T.ae Z0d (A0a (pv 0) (A0a (A1n (A0a (A3a (v:=V.ref t.ai) rfl T.wn rfl) (A0a (A3a (v:=V.ref t.af) rfl T.m7 rfl) A0d))) A0d)))) (@A0g _ _ _ (@A0s _ _ _ _ (@A1z _ _ _ _ (A0a (A1h (pv 0) rfl) A0d)))) A0x) (@A0c _ _ _ _ _ (@A1v _ _ _ _ _ _ _ _ (A2t (A0u A1j (by rfl) T.ae Z0d (A0a (pv 0) (A0a (A3a (v:=V.ref t.ah) rfl T.ww rfl) A0d)))) (@A0g _ _ _ (@A0s _ _ _ _ (B7z (N':=["axis","shift"]) (ix:=(List.replicate 2 none)) (g:=D2y K 2 (A9u (A6x 0) (A9u (A6x 1) D4n))) (tc:=C0p (tOp rNe (C7a 0) (tC (.str "")))) rfl (A2s rfl (by decide +kernel) (by decide +kernel)) (A2r rfl) (A2g (A1h (pv 0) rfl)) (λ_ _ _ _=>(A3z (n:=2) rfl (A0y (A0m (i:=0) B7b rfl (.inl rfl)) (A0y (A0m (i:=1) B7b rfl (.inl rfl)) A2v)))) (λ_ _ _ _=>(A0q D0t (pv 0) A1m (A1a _))) (λ_ _ _ _=>(pv 0))))) A0x) (@A0g _ _ _ (@A0s _ _ _ _ (@A1z _ _ _ _ A0d))))) ?_;refine i06 _ rfl (A0t rfl) λtp htp=> ?_;obtain ⟨H1,s1,h1,eNH⟩:=nH (o:= .tup [.ref t.ai,.ref t.af]) htp
  try rw [eNH]
  refine ⟨o,(i1c C dd fs tp _ _ rfl (s1 _ _ eo) c1 c2 c3 c4 c5 (i0a h1 (D9z k4 k3) _ rfl ?_))⟩;have ty1:A8j K H1 (.ref o) (.ref C):= .ins (s1 _ _ eo) c1 c2 c3 c4 c5
  cases u with
  | num z=>exact A2o (i16 _ rfl _ _ _ _ rfl ty1 (A1k k5) false rfl (A2o ⟨A0t rfl,λq hq=>k q _ (s1.free hq) (s1.trans (A0f hq)) A0b⟩))
  | sum x b=>exact A2o (i16 _ rfl _ _ _ _ rfl ty1 (A1k k5) false rfl (A2o ⟨A0t rfl,λq hq=>k q _ (s1.free hq) (s1.trans (A0f hq)) A0b⟩))
  | pair x l r=>exact A2o (i16 _ rfl _ _ _ _ rfl ty1 (A1k k5) false rfl (A2o ⟨A0t rfl,λq hq=>k q _ (s1.free hq) (s1.trans (A0f hq)) A0b⟩))
  | place x =>
   cases ob with
   | @place a dx _ e=>exact A5z (i18 _ rfl o _ dx _ _ rfl (s1 _ _ e) T.ft T.i_ (by walk_at "lk") ⟨A0t rfl,λq hq=>k q _ (s1.free hq) (s1.trans (A0f hq)) A0b⟩)
  | guard x lo hi l r =>
   cases ob with
   | @guard a dx _ _ _ _ _ _ _ e _ _=>exact A5z (i18 _ rfl o _ dx _ _ rfl (s1 _ _ e) T.ba T.fg (by walk_at "lk") ⟨A0t rfl,λq hq=>k q _ (s1.free hq) (s1.trans (A0f hq)) A0b⟩)
  | read z ix =>
   cases ob with
   | @read a dx l _ _ e rp =>
    obtain ⟨_,es,q,el,rs⟩:=A5g (show Rep H (.ref l) (.list (ix.map B4a)) from rp);cases q;have hl:=rs.len;rw [Z08] at hl;have hl12:=hw.2.1;refine A2o (i16 _ rfl _ _ _ _ rfl ty1 (A1k k5) true rfl (A5z ?_));refine i18 _ rfl o _ dx _ _ rfl (s1 _ _ e) T.ff T.f_ (by walk_at "lk") (i06 l rfl ⟨_,SqL.of (s1 _ _ el)⟩ λD hD=> ?_);refine A9k (K:=K) (a:=l) (D:=D) (xs:=es) (λi ys H2=>A1c H1 H2/\H2 D=some (.lst ys)/\ys=(axO (.read z (ix.take i))).map V.str/\ys.length<=i) (i04 (A0f hD) A0b rfl (Z09 _)) (λi ys H2 ⟨s2,_⟩=>SqL.of (s2 _ _ (s1 _ _ el))) ?_ ?_
    ·rintro i x ys H2 hx ⟨s2,hD2,ey,ly⟩;have hi:i<ix.length:=by have:=(Z03.mp hx).1;lia
     obtain ⟨d,hd,rx⟩:=rs.get2 hx;have hie:ix[i]? =some ix[i]:=Z0b hi;rw [Z1z,hie] at hd;cases hd;obtain ⟨q,rfl,eq⟩:=D5u rx;generalize ix[i]=e0 at hie eq
     have ea:axO (.read z (ix.take (i+1)))=axO (.read z (ix.take i))++(if e0.1=("":Str) then [] else [e0.1]):=by
      show ((ix.take (i+1)).filter _).map _=((ix.take i).filter _).map _++_;rw [Z14,hie,Z2f,List.filter_append,Z0s,List.filter_cons,List.filter_nil];by_cases z0:e0.1=("":Str)
      ·rw [Z12 z0,Z1j (λh=>h z0)];rfl
      ·rw [Z0t z0,Z20 z0];rfl
     refine i19 q _ rfl (SqT.of (s2 _ _ (s1 _ _ eq))) rfl _ _ rfl _ _ rfl rfl (i05 True.intro _ rfl ?_);refine i05 rfl _ rfl ?_;by_cases z0:e0.1=("":Str)
     ·rw [z0];refine A2o (i04 s2 hD2 ?_ (by lia));rw [ey,ea,Z12 z0,Z0u]
     ·rw [Z1j (λh=>z0 (V.str.inj h))];refine A5z (i02 _ rfl (i0h hD2 (A1s (by lia)) (A0r s2 hD) A0b ?_ (by rw [Z06];simp only [Z0y,Z2g];lia)));rw [ey,ea,Z0t z0,Z0s];rfl
    ·rintro ys H2 ⟨s2,hD2,rfl,_⟩;rw [hl,Z18] at hD2;exact k D H2 (s1.free hD) (s1.trans s2) hD2
theorem C2w (T:Txt K mg t):FO P w base T.qr 47 (D8b t):=by
 have Ga8:= @C0v P w K mg base t T;have Ga9:= @C2q P w K mg base t T;refine T.qr.F.ok B0k (by walk_at "ln") λ_ A _ s H _ Q E hr h=> ?_
 ·obtain ⟨v,u,rfl,ob,hw,hd,hn,k⟩:=h;refine i02 _ (@A0c _ _ _ _ _ (@A0l _ _ 1 _ _ _ _ B0k.nd rfl (.inl rfl) (@A1z _ _ _ _ A0d) rfl (.inl rfl)) (@A0c _ _ _ _ _ (A2y PassesOwn.never rfl (A2g (pcl Ga8 hr T.om (A0a (pv 0) A0d))) (A0m (i:=2) B0k.nd rfl (.inl rfl)) (@A0g _ _ _ (A3n (A7p Z0k PySem.F.slot_list_extend PySem.F.type_list_extend B2l (pv 1) (A0a (pcl Ga9 hr T.qi (A0a (A1h (pv 2) rfl) A0d)) A0d))))) (@A0g _ _ _ (@A0s _ _ _ _ (pv 1))))) ?_;refine ⟨A0t rfl,λl hl=> ?_⟩;have s1:A1c H (upd H l (.lst [])):=A0f hl;refine i0x _ rfl v u (λb=>b≠l) rfl (λb hb z=>by subst z;rw [A0b] at hb;cases hb) (ob.imp (λb o z=>A0j (S:=λb=>b≠l) (A1e z hl) (s1 _ _ z))) (i00 hd hn λq xs H2 hq s2 h2 ps=>(i06 q rfl ⟨_,SqL.of h2⟩ ?_));have ql:q≠l:=λz=>by subst z;rw [A0b] at hq;cases hq
  have lp:=Paired.length ps;have tot:=B9r (prT u [] []) (B9c u [] [] hw);rw [A5t] at lp;rw [A5t] at tot;have hl2:=s2 _ _ (A0b (H:=H) (a:=l) (o:= .lst []))
  refine A3f (K:=K) (a:=q) (xs:=xs) (λi Z H3=>∃(o2:Option V),Z=[some v,Sro l,o2]/\A1c H H3/\A1c (A1d (λb=>b≠l) H2) H3/\H3 l=some (.lst ((((prT u [] []).take i).flatMap λe=>axO e.1).map V.str)))
   (i0c none rfl (s1.trans s2) A1b hl2) (λi Z H3 _ zq=>by obtain ⟨_,_,_,s3,_⟩:=zq;exact SqL.of (s3 _ _ (A0j ql h2))) ?_ ?_
  ·rintro i y Z H3 hy ⟨o2,rfl,s3,r3,hl3⟩;obtain ⟨e,he,pe⟩:=B3x ps hy;have hm:=Z13 he;have we:=B9c u [] [] hw e hm;obtain ⟨a,dx,tv,sl,gl,gs,rfl,e0,ob0,_⟩:=pe;refine i06 _ rfl (.inl (i01 rfl _ (SqL.of hl3))) (i18 _ rfl a _ dx _ _ rfl (r3 _ _ e0) T.bj T.bx (by walk_at "lk") (i0l tv e.1 rfl (ob0.imp r3) we λq2 H4 hq2 s4 h4=> ?_));have lt:=B9r ((prT u [] []).take i) λe he=>B9c u [] [] hw e (Z2p he);rw [Z0x,A5t] at lt;have la:=C5j we;refine i11 l q2 _ _ rfl rfl (s4 _ _ hl3) h4 (A2a (by rw [Z08,Z08];lia)) ?_;refine i0c _ rfl (A0r (s3.trans s4) hl) (λb o z=> ?_) ?_
   ·rw [A0k (A0p z).1];exact s4 _ _ (r3 _ _ z)
   ·rw [A0b,Z14,he,Z2f,List.flatMap_append,Z0s,List.flatMap_cons,List.flatMap_nil,Z0u]
  ·rintro Z H3 ⟨o2,rfl,s3,r3,hl3⟩;have lp2:xs.length=(prT u [] []).length:=Paired.length ps;rw [lp2,Z18] at hl3;exact i02 _ rfl (k l H3 hl s3 hl3)
abbrev Ln:=Str×List Str×List Str×Tm
abbrev LS:=Nat×List Ln
def B6q (kn pend:List Str) (b:Tm):List Str:=kn.filter λx=>decide (x∈B9t b)&&decide (x∉pend)
def lfR (kn pend:List Str) (n:Nat) (b:Tm):Tm:= .read (sN n) ((B6q kn pend b).map λx=>(x,(0:Int)))
def lfL (kn pend:List Str) (n:Nat) (b:Tm):Ln:=(sN n,B6q kn pend b,pend,b)
def fin (kn pend:List Str) (g:List Gd) (r:Tm×LS):Tm×LS:=match pend with
 | []=>r
 | x::s=>(lfR kn (x::s) r.2.1 (gdM g r.1),r.2.1+1,r.2.2++[lfL kn (x::s) r.2.1 (gdM g r.1)])
def wsP (kn:List Str):Tm->List Str->List Gd->LS->Tm×LS
 | .sum x b,pend,g,z=>wsP kn b (pend++[x]) g z
 | .pair k l r,pend,g,z=>fin kn pend g (.pair k (wsP kn l [] g z).1 (wsP kn r [] g (wsP kn l [] g z).2).1,(wsP kn r [] g (wsP kn l [] g z).2).2)
 | .guard x lo hi l r,pend,g,z=>fin kn pend g (.guard x lo hi (wsP kn l [] (g++[(x,lo,hi,true)]) z).1 (wsP kn r [] (g++[(x,lo,hi,false)]) (wsP kn l [] (g++[(x,lo,hi,true)]) z).2).1,(wsP kn r [] (g++[(x,lo,hi,false)]) (wsP kn l [] (g++[(x,lo,hi,true)]) z).2).2)
 | .num n,pend,g,z=>fin kn pend g (.num n,z)
 | .place x,pend,g,z=>fin kn pend g (.place x,z)
 | .read a ix,pend,g,z=>fin kn pend g (.read a ix,z)
theorem D1u {kn:List Str}:∀(u:Tm) (pend:List Str) (g:List Gd) (z:LS),wsP kn u pend g z=fin kn (pend++A3o u) g (wsP kn (inS u) [] g z)
 | .num _,pend,_,_=>by show _=fin kn (pend++[]) _ _;rw [Z0u];rfl
 | .place _,pend,_,_=>by show _=fin kn (pend++[]) _ _;rw [Z0u];rfl
 | .read _ _,pend,_,_=>by show _=fin kn (pend++[]) _ _;rw [Z0u];rfl
 | .pair _ _ _,pend,_,_=>by show _=fin kn (pend++[]) _ _;rw [Z0u];rfl
 | .guard _ _ _ _ _,pend,_,_=>by show _=fin kn (pend++[]) _ _;rw [Z0u];rfl
 | .sum x b,pend,g,z=>by
  show wsP kn b (pend++[x]) g z=fin kn (pend++x::A3o b) g (wsP kn (inS b) [] g z);rw [D1u b,Z0z];rfl
def GdW (g:List Gd):Prop:=∀e∈g,B3y e.1/\Sm e.2.1/\Sm e.2.2.1
theorem GdW.add (h:GdW g) {b:Bool} (hx:B3y x) (h1:Sm lo) (h2:Sm hi):GdW (g++[(x,lo,hi,b)]):=λe he=>by
 rcases Z07.mp he with he | he
 ·exact h e he
 ·rw [Z0w.mp he];exact i00 hx h1 h2
theorem sm0:Sm 0:=by unfold Sm;decide
theorem C6b:∀(g:List Gd) (u:Tm),GdW g->TmW u->TmW (gdM g u)/\dep (gdM g u)<=g.length+dep u/\nod (gdM g u)=2*g.length+nod u
 | [],u,_,hu=>(i00 hu (by show dep u<=0+dep u;lia) (by show nod u=2*0+nod u;lia))
 | e::g,u,hg,hu=>by
  obtain ⟨h1,h2,h3⟩:=C6b g u (λe he=>hg e (by simp [he])) hu;obtain ⟨g1,g2,g3⟩:=hg e (by simp);have dp:=A5x u;obtain ⟨x,lo,hi,b⟩:=e;have e1:gdM ((x,lo,hi,b)::g) u=gd1 (x,lo,hi,b) (gdM g u):=rfl;rw [e1];have dq:=A5x (gdM g u);generalize gdM g u=m at h1 h2 h3 dq
  cases b with
  | true=>exact i00 (i09 g1 g2 g3 h1 sm0) (by simp only [gd1,dep,Z0y];lia) (by simp only [gd1,nod,Z0y];lia)
  | false=>exact i00 (i09 g1 g2 g3 sm0 h1) (by simp only [gd1,dep,Z0y];lia) (by simp only [gd1,nod,Z0y];lia)
def C5b (e:Ln):Prop:=e.1.length<=60/\e.2.1.length<=12/\(∀x∈e.2.1,B3y x)/\e.2.2.1.length<=100/\TmW e.2.2.2/\dep e.2.2.2<=40/\nod e.2.2.2<=1000
def C8t (kn:List Str):Prop:=kn.length<=12/\∀x∈kn,B3y x
structure WsR (z:LS) (u:Tm) (c:Nat) (r:Tm×LS):Prop where
 w:TmW r.1
 d:dep r.1<=dep u
 n:nod r.1<=nod u
 k:r.2.1<=z.1+nod u+c
 l:r.2.2.length<=z.2.length+nod u+c
 a:∀e∈r.2.2,C5b e
theorem C1b {kn:List Str} (h:C8t kn):(B6q kn pend b).length<=12/\∀x∈B6q kn pend b,B3y x:=⟨Z1n (List.length_filter_le _ _) h.1,λx hx=>h.2 x (List.mem_filter.mp hx).1⟩
theorem D0w (h:n<=200000):(sN n).length<=60:=by
 have z0:Sm (n:Int):=by unfold Sm;lia
 have l1:=C7e z0;have e0:(("s":Str)).length=1:=by decide +kernel
 unfold sN;rw [Str.length_append,e0]
 lia
theorem D6h {kn:List Str} (h:C8t kn) (hn:n<=200000):TmW (lfR kn pend n b):=by
 obtain ⟨h1,h2⟩:=C1b (pend:=pend) (b:=b) h;refine i00 (D0w hn) (by rw [Z08];exact h1) λe he=> ?_;obtain ⟨x,hx,rfl⟩:=Z2c.mp he;exact ⟨h2 x hx,sm0⟩
theorem B6z {kn:List Str} (hk:C8t kn) (h:WsR z u 0 r) (hg:GdW g) (hd:g.length+dep u<=40) (hp:pend.length<=100) (hn:nod u<=500) (hz:z.1+nod u<=200000) (c:Nat) (hc:pend=[]\/c=1):WsR z u c (fin kn pend g r):=by
 cases pend with
 | nil=>exact ⟨h.w,h.d,h.n,by have:=h.k;show r.2.1<=_;lia,by have:=h.l;show r.2.2.length<=_;lia,h.a⟩
 | cons x s =>
  have hc:c=1:=by rcases hc with hc | hc;cases hc;exact hc
  subst hc;have hk2:=h.k;have hl:=h.l;have hd2:=h.d;have hn2:=h.n;have dp:=A5x u;have np:1<=nod u:=by cases u <;> simp only [nod] <;> lia
  obtain ⟨g1,g2,g3⟩:=C6b g r.1 hg h.w;obtain ⟨a1,a2⟩:=C1b (pend:=x::s) (b:=gdM g r.1) hk;refine ⟨D6h hk (by lia),by show dep (.read _ _)<=_;simp only [dep];lia,by show nod (.read _ _)<=_;simp only [nod];lia,by show r.2.1+1<=_;lia,by show (r.2.2++[_]).length<=_;rw [Z06];simp only [Z0y,Z2g];lia,λe he=> ?_⟩;rcases Z07.mp he with he | he
  ·exact h.a e he
  ·rw [Z0w.mp he];exact ⟨D0w (by lia),(i0h a1 a2 hp g1 (by show dep (gdM g r.1)<=40;lia) (by show nod (gdM g r.1)<=1000;lia))⟩
theorem C2u {kn:List Str} (hk:C8t kn):∀(u:Tm) (pend:List Str) (g:List Gd) (z:LS),TmW u->GdW g->g.length+dep u<=40->pend.length+dep u<=100->nod u<=500->z.1+nod u<=200000->(∀e∈z.2,C5b e)->∀(c:Nat),(pend=[]\/c=1)->WsR z u c (wsP kn u pend g z)
 | .num n,pend,g,z,hw,hg,hd,hp,hn,hz,hl,c,hc=>B6z hk (z:=z) (u:= .num n) (r:=(.num n,z)) ⟨hw,Z09 _,Z09 _,by show z.1<=_;lia,by show z.2.length<=_;lia,hl⟩ hg hd (by lia) hn hz c hc
 | .place x,pend,g,z,hw,hg,hd,hp,hn,hz,hl,c,hc=>B6z hk (z:=z) (u:= .place x) (r:=(.place x,z)) ⟨hw,Z09 _,Z09 _,by show z.1<=_;lia,by show z.2.length<=_;lia,hl⟩ hg hd (by lia) hn hz c hc
 | .read a ix,pend,g,z,hw,hg,hd,hp,hn,hz,hl,c,hc=>B6z hk (z:=z) (u:= .read a ix) (r:=(.read a ix,z)) ⟨hw,Z09 _,Z09 _,by show z.1<=_;lia,by show z.2.length<=_;lia,hl⟩ hg hd (by lia) hn hz c hc
 | .sum x b,pend,g,z,hw,hg,hd,hp,hn,hz,hl,c,hc=>by
  simp only [dep,nod] at hd hp hn hz;have h:=C2u hk b (pend++[x]) g z hw.2 hg (by lia) (by rw [Z06];simp only [Z0y,Z2g];lia) (by lia) (by lia) hl 1 (.inr rfl);have h1:=h.d;have h2:=h.n;have h3:=h.k;have h4:=h.l;exact ⟨h.w,by show dep (wsP kn b (pend++[x]) g z).1<=_;simp only [dep];lia,by show nod (wsP kn b (pend++[x]) g z).1<=_;simp only [nod];lia,by show (wsP kn b (pend++[x]) g z).2.1<=_;simp only [nod];lia,by show (wsP kn b (pend++[x]) g z).2.2.length<=_;simp only [nod];lia,h.a⟩
 | .pair k l r,pend,g,z,hw,hg,hd,hp,hn,hz,hl,c,hc=>by
  have hd':=hd;have hp':=hp;have hn':=hn;have hz':=hz;simp only [dep,nod] at hd' hp' hn' hz';have a:=C2u hk l [] g z hw.1 hg (by lia) (by show 0+dep l<=100;lia) (by lia) (by lia) hl 0 (.inl rfl);have a3:=a.k;have b:=C2u hk r [] g (wsP kn l [] g z).2 hw.2 hg (by lia) (by show 0+dep r<=100;lia) (by lia) (by lia) a.a 0 (.inl rfl);have a1:=a.d;have a2:=a.n;have a4:=a.l;have b1:=b.d;have b2:=b.n;have b3:=b.k;have b4:=b.l;refine B6z hk (z:=z) (u:= .pair k l r) (r:=(.pair k (wsP kn l [] g z).1 (wsP kn r [] g (wsP kn l [] g z).2).1,(wsP kn r [] g (wsP kn l [] g z).2).2)) ⟨⟨a.w,b.w⟩,?_,?_,?_,?_,b.a⟩ hg hd (by lia) hn hz c hc
  ·simp only [dep];lia
  ·simp only [nod];lia
  ·simp only [nod];lia
  ·simp only [nod];lia
 | .guard x lo hi l r,pend,g,z,hw,hg,hd,hp,hn,hz,hl,c,hc=>by
  have hd':=hd;have hp':=hp;have hn':=hn;have hz':=hz;simp only [dep,nod] at hd' hp' hn' hz';obtain ⟨w1,w2,w3,w4,w5⟩:=hw;have lg:∀b:Bool,(g++[(x,lo,hi,b)]).length=g.length+1:=λb=>by simp
  have a:=C2u hk l [] (g++[(x,lo,hi,true)]) z w4 (hg.add w1 w2 w3) (by rw [lg];lia) (by show 0+dep l<=100;lia) (by lia) (by lia) hl 0 (.inl rfl);have a3:=a.k;have b:=C2u hk r [] (g++[(x,lo,hi,false)]) (wsP kn l [] (g++[(x,lo,hi,true)]) z).2 w5 (hg.add w1 w2 w3) (by rw [lg];lia) (by show 0+dep r<=100;lia) (by lia) (by lia) a.a 0 (.inl rfl);have a1:=a.d;have a2:=a.n;have a4:=a.l;have b1:=b.d;have b2:=b.n;have b3:=b.k;have b4:=b.l;refine B6z hk (z:=z) (u:= .guard x lo hi l r) (r:=(.guard x lo hi (wsP kn l [] (g++[(x,lo,hi,true)]) z).1 (wsP kn r [] (g++[(x,lo,hi,false)]) (wsP kn l [] (g++[(x,lo,hi,true)]) z).2).1,(wsP kn r [] (g++[(x,lo,hi,false)]) (wsP kn l [] (g++[(x,lo,hi,true)]) z).2).2)) ⟨(i09 w1 w2 w3 a.w b.w),?_,?_,?_,?_,b.a⟩ hg hd (by lia) hn hz c hc
  ·simp only [dep];lia
  ·simp only [nod];lia
  ·simp only [nod];lia
  ·simp only [nod];lia
abbrev S2 (p l:Addr):Addr->Prop:=λb=>b≠p/\b≠l
def K2 (p l:Addr) (H H':Hp):Prop:=∀b o,S2 p l b->H b=some o->H' b=some o
theorem K2.of (s:A1c H H'):K2 p l H H':=λb o _ e=>s _ _ e
theorem K2.trans {H2:Hp} (a:K2 p l H H') (b:K2 p l H' H2):K2 p l H H2:=λc o hc e=>b c o hc (a c o hc e)
theorem K2.atp:K2 p l H (upd H p o):=λb u hb e=>by rw [A0k hb.1];exact e
theorem K2.atl:K2 p l H (upd H l o):=λb u hb e=>by rw [A0k hb.2];exact e
theorem K2.rs (k:K2 p l H H') (np:¬S p) (nl:¬S l):A1c (A1d S H) (A1d S H'):=λb o z=>by
 have hb:=(A0p z).1;exact A0j hb (k b o ⟨λe=>np (e▸hb),λe=>nl (e▸hb)⟩ (A0p z).2)
theorem K2.free {b:Addr} {o':HO} (k:K2 p l H H') (hp:H' p=some o) (hl:H' l=some o') (hb:H' b=none):H b=none:=by
 cases e:H b with
 | none=>rfl
 | some u =>
  have h1:b≠p:=λz=>by subst z;rw [hp] at hb;cases hb
  have h2:b≠l:=λz=>by subst z;rw [hl] at hb;cases hb
  rw [k b u ⟨h1,h2⟩ e] at hb;cases hb
def D2q (A:Adr) (H:Hp) (v:V) (e:Ln):Prop:=∃(a dx c s:Addr) (n:V),v= .ref a/\H a=some (.ins A.ay dx [("name",.str e.1),("axes",.ref c),("sums",.ref s),("term",n)])/\H c=some (.lst (e.2.1.map V.str))/\H s=some (.lst (e.2.2.1.map V.str))/\Ob A H n e.2.2.2
theorem D2q.same {e:Ln} (h:D2q A H v e) (s:A1c H H'):D2q A H' v e:=by
 obtain ⟨a,dx,c,b,n,rfl,e1,e2,e3,e4⟩:=h;exact ⟨a,(i0y dx c b n rfl (s _ _ e1) (s _ _ e2) (s _ _ e3) (e4.imp s))⟩
structure B1g (A:Adr) (S:Addr->Prop) (H:Hp) (p l d ka:Addr) (kn:List Str) (z:LS):Prop where
 np:¬S p
 nl:¬S l
 fr:Fr S H
 ep:H p=some (lfO A d ka l z.1)
 hk:A1d S H ka=some (.lst (kn.map V.str))
 hl:∃xs,H l=some (.lst xs)/\Paired (D2q A (A1d S H)) xs z.2
theorem B1g.same {ka:Addr} {kn:List Str} (h:B1g A S H p l d ka kn z) (s:A1c H H'):B1g A S H' p l d ka kn z:=by
 obtain ⟨xs,e,r⟩:=h.hl;exact ⟨h.np,h.nl,λb hb=>h.fr b (s.free hb),s _ _ h.ep,A0i s _ _ h.hk,xs,s _ _ e,Paired.mapP r λ_ _ q=>q.same (A0i s)⟩
theorem B1g.out {ka D:Addr} {kn:List Str} (h:B1g A S H p l d ka kn z) (hD:H D=none):B1g A (λb=>S b/\b≠D) (upd H D o) p l d ka kn z:=by
 obtain ⟨xs,e,r⟩:=h.hl;have m:A1c (A1d S H) (A1d (λb=>S b/\b≠D) (upd H D o)):=λb u q=>A0j ⟨(A0p q).1,A1e (A0p q).2 hD⟩ ((A0f hD) _ _ (A0p q).2);refine ⟨λq=>h.np q.1,λq=>h.nl q.1,λb hb=> ?_,(A0f hD) _ _ h.ep,m _ _ h.hk,xs,(A0f hD) _ _ e,Paired.mapP r λ_ _ q=>q.same m⟩;have hne:b≠D:=λq=>by rw [q,A0b] at hb;cases hb
 rw [A0k hne] at hb;exact ⟨h.fr b hb,hne⟩
theorem B1g.upD {ka D:Addr} {kn:List Str} (h:B1g A (λb=>S b/\b≠D) H p l d ka kn z) (hp:D≠p) (hl:D≠l):B1g A (λb=>S b/\b≠D) (upd H D o) p l d ka kn z:=by
 obtain ⟨xs,e,r⟩:=h.hl;have m:A1c (A1d (λb=>S b/\b≠D) H) (A1d (λb=>S b/\b≠D) (upd H D o)):=A2p (A1c.refl _) λq=>q.2 rfl;refine ⟨h.np,h.nl,λb hb=> ?_,by rw [A0k hp.symm];exact h.ep,m _ _ h.hk,xs,by rw [A0k hl.symm];exact e,Paired.mapP r λ_ _ q=>q.same m⟩;have hne:b≠D:=λq=>by rw [q,A0b] at hb;cases hb
 rw [A0k hne] at hb;exact h.fr b hb
theorem B1g.back {ka D:Addr} {kn:List Str} (h:B1g A (λb=>S b/\b≠D) H p l d ka kn z) (np:¬S p) (nl:¬S l):B1g A S H p l d ka kn z:=by
 obtain ⟨xs,e,r⟩:=h.hl;have m:A1c (A1d (λb=>S b/\b≠D) H) (A1d S H):=A2q (A1c.refl _) λb o _ q=>q.1;exact ⟨np,nl,λb hb=>(h.fr b hb).1,h.ep,m _ _ h.hk,xs,e,Paired.mapP r λ_ _ q=>q.same m⟩
structure Lim (kn:List Str) (u:Tm) (g:List Gd) (z:LS):Prop where
 hk:C8t kn
 hw:TmW u
 hg:GdW g
 hd:g.length+dep u<=40
 hn:nod u<=500
 hz:z.1+nod u<=100000
 hl:z.2.length+nod u<=100000
 ha:∀e∈z.2,C5b e
theorem Lim.ok {kn:List Str} (h:Lim kn u g z):WsR z u 0 (wsP kn u [] g z):=by
 have:=h.hd;have:=h.hz;exact C2u h.hk u [] g z h.hw h.hg h.hd (by show 0+dep u<=100;lia) h.hn (by lia) h.ha 0 (.inl rfl)
def D2r (A:Adr) (n:Nat):Sp:=λvs H Q _=>∃(p l d ka:Addr) (S:Addr->Prop) (kn:List Str) (z:LS) (v:V) (u:Tm) (s:List Str) (g:List Gd),vs=[.ref p,v]/\B1g A S H p l d ka kn z/\A3j A (A1d S H) v (u,s,g)/\Lim kn u g z/\dep u<=n/\
 ∀(v':V) (H':Hp),K2 p l H H'->B1g A S H' p l d ka kn (wsP kn u [] g z).2->Ob A (A1d S H') v' (wsP kn u [] g z).1->Q v' H'
def D7j (A:Adr) (n:Nat):Sp:=λvs H Q _=>∃(p l d ka:Addr) (S:Addr->Prop) (kn:List Str) (z:LS) (v:V) (u:Tm) (s:List Str) (g:List Gd),vs=[.ref p,v]/\B1g A S H p l d ka kn z/\A3j A (A1d S H) v (u,s,g)/\Lim kn u g z/\dep u<=n/\isS u=true/\
 ∀(v':V) (H':Hp),K2 p l H H'->B1g A S H' p l d ka kn (wsP kn u [] g z).2->Ob A (A1d S H') v' (wsP kn u [] g z).1->Q v' H'
theorem D2o (T:Txt K mg t) {m0:Nat} (hm:5<=m) (hm0:m0<=m) (Gb0:A3h P w K mg base CX0 m t.fc t.iw B1m (D7j t n)) (Gb1:A3h P w K mg base CX0 m0 t.bc t.bo B1m sp')
  (hs:∀(p l d ka:Addr) (S:Addr->Prop) (kn:List Str) (z:LS) (v:V) (u:Tm) (s:List Str) (g:List Gd) (H:Hp) (Q:VK),B1g t S H p l d ka kn z->A3j t (A1d S H) v (u,s,g)->Lim kn u g z->dep u+1<=n->(∀(v':V) (H':Hp),K2 p l H H'->B1g t S H' p l d ka kn (wsP kn u [] g z).2->Ob t (A1d S H') v' (wsP kn u [] g z).1->Q v' H')->sp' [.ref p,v] H Q E0) :
  A3h P w K mg base CX0 (m+1) t.bc t.bo B1m (D2r t n):=by
 have Ga4:= @A3r P w K mg base t T;refine T.c9.F.ok A4s (by walk_at "ln") λ_ A _ s H _ Q E hr h=> ?_
 ·refine e0g h ?_;clear h;rintro p l d ka S kn z v u ⟨ss,g,rfl,lf,pa,lm,hd,k⟩;obtain ⟨q,dq,tv,sl,gl,gs,rfl,e0,ob0,hs0,hg0,bg,bs,pg⟩:=id pa;have eq:=A1b _ _ e0;have ob:=ob0.imp A1b;have kt:=(C7g T ob0).ex;refine e0e kt ?_;clear kt;rintro o C dd fs rfl eo0 c1 c2 ⟨c3,c4,c5,_,k1,k2,k3,k4,k5⟩;have eo:=A1b _ _ eo0;have ty:A8j K H (.ref o) (.ref C):= .ins eo c1 c2 c3 c4 c5;refine i02 _ (@A0c _ _ _ _ _ (@A1v _ _ _ _ _ _ _ _ (A2t (A0u A1j (by rfl) T.ae Z0d (A0a (A1h (pv 1) rfl) (A0a (A3a (v:=V.ref t.bn) rfl T.yd rfl) A0d)))) (@A0g _ _ _ (@A0s _ _ _ _ (B2x (pv 0) T.bp T.u5 Gb0 (hr.mono (by lia)) T.nc.b .nil B6h (A0a (pv 1) A0d)))) A0x) (@A0c _ _ _ _ _ (@A1v _ _ _ _ _ _ _ _ (A2t (A0u B0o (by rfl) T.ae Z0d (A0a (A1h (pv 1) rfl) (A0a (A1n (A0a (A3a (v:=V.ref t.c8) rfl T.zU rfl) (A0a (A3a (v:=V.ref t.af) rfl T.m7 rfl) A0d))) A0d)))) (@A0c _ _ _ _ _ (B5m (i₀:=2) (N':=["inner","self"]) (ix:=(List.replicate 1 none++[some 0])) A4s.nd rfl (.inl rfl) rfl (A8m (x:="self") rfl rfl rfl (by decide +kernel) (by decide +kernel)) (A6w (N0:=["inner"]) rfl (.inl rfl) (by walk_at "ix")) (A2g (pcl Ga4 hr T.bq (A0a (pv 1) A0d))) (λ_ _ _ _=>(A0m (i:=0) C6w rfl (.inl rfl))) (λ_ _ _ _=>(B2x (pv 1) T.bp T.cj Gb1 (hr.mono (by lia)) T.c9.b .nil B6h (A0a (pv 0) A0d)))) (@A0g _ _ _ (@A0s _ _ _ _ (B6b (A1h (pv 1) rfl) (A0a (A1f A1p (pv 2) A0e (λ_ _=>rfl)) (A0a (A1f A1p (pv 2) A0e (λ_ _=>rfl)) A0d)))))) A0x) (@A0g _ _ _ (@A0s _ _ _ _ (A1h (pv 1) rfl))))) ?_;refine i18 _ rfl q _ dq _ _ rfl eq T.bj T.bx (by walk_at "lk") ⟨_,(i0g _ _ _ rfl (i0a ty (A1k k1) _ rfl ?_))⟩
  cases hS:isS u with
  | true=>exact A5z (i0x _ rfl p d _ rfl lf.ep (by walk_at "lk") (i02 _ rfl (i08 p l d (i1d ka S kn z _ u ss g rfl lf pa lm hd hS k))))
  | false =>
   refine A2o ?_;refine i18 _ rfl q _ dq _ _ rfl eq T.bj T.bx (by walk_at "lk") ⟨A0t rfl,λtp htp=> ?_⟩;have s2:=A0f (o:= .tup [.ref t.c8,.ref t.af]) htp;have h2:upd H tp (.tup [.ref t.c8,.ref t.af]) tp=some (.tup [.ref t.c8,.ref t.af]):=A0b;generalize upd H tp (.tup [.ref t.c8,.ref t.af])=G at s2 h2;refine ⟨o,(i1c C dd fs tp _ _ rfl (s2 _ _ eo) c1 c2 c3 c4 c5 (i0a h2 (D9z k2 k3) _ rfl ?_))⟩;have lf2:=lf.same s2;have pa2:=pa.same (A0i (S:=S) s2);have eq2:=s2 _ _ eq;have eo2:=s2 _ _ eo;have leaf:isP u=false->isG u=false->wsP kn u [] g z=(u,z)->(λ(b:Bool)=>b) (isP u||isG u)=false:=λh1 h2 _=>by rw [h1,h2];rfl
   cases hB:(isP u||isG u) with
   | false =>
    have ew:wsP kn u [] g z=(u,z):=by
     cases u with
     | num _=>rfl
     | place _=>rfl
     | read _ _=>rfl
     | sum _ _=>cases hS
     | pair _ _ _=>cases hB
     | guard _ _ _ _ _=>cases hB
    refine A2o (i18 _ rfl q _ dq _ _ rfl eq2 T.bj T.bx (by walk_at "lk") (k _ G (K2.of s2) (by rw [ew];exact lf2) (by rw [ew];exact ob0.imp (A0i s2))))
   | true =>
    refine A5z ?_
    obtain ⟨l',r',g1,g2,ek,m1,m2,d1,d2,ew,f,fd,ps,sp,lv,me,lu,fo,lv3,bi,mk⟩:∃(l' r':Tm) (g1 g2:List Gd),B6n u ss g=[(l',ss,g1),(r',ss,g2)]/\Lim kn l' g1 z/\Lim kn r' g2 (wsP kn l' [] g1 z).2/\dep l'+1<=n/\dep r'+1<=n/\(wsP kn u [] g z).2=(wsP kn r' [] g2 (wsP kn l' [] g1 z).2).2/\
      ∃(f:Addr) (fd:FuncData) (ps:List Str) (sp:Sp) (lv:Nat),C1s K C "made_of" f/\fs.lookup ("made_of":Str)=none/\A3h P w K mg base CX0 lv f fd ps sp/\lv<=3/\A8o K fd ps []/\∀(a b:V) (H6:Hp) (Q:VK),Fr S H6->H6 o=some (.ins C dd fs)->Ob t (A1d S H6) a (wsP kn l' [] g1 z).1->Ob t (A1d S H6) b (wsP kn r' [] g2 (wsP kn l' [] g1 z).2).1->(∀(v':V) (H7:Hp),A1c H6 H7->Ob t (A1d S H7) v' (wsP kn u [] g z).1->Q v' H7)->sp [.ref o,a,b] H6 Q E0:=by
     cases u with
     | num _=>cases hB
     | place _=>cases hB
     | read _ _=>cases hB
     | sum _ _=>cases hS
     | pair op l' r' =>
      cases ob with
      | @pair _ dx _ v1 v2 _ _ e o1 o2 =>
       cases e.symm.trans eo
       have x1:=lm.hd;have x2:=lm.hn;have x3:=lm.hz;have x4:=lm.hl;simp only [dep,nod] at x1 x2 x3 x4 hd;have m1:Lim kn l' g z:=⟨lm.hk,lm.hw.1,lm.hg,by lia,by lia,by lia,by lia,lm.ha⟩;have y1:=m1.ok.k;have y2:=m1.ok.l;obtain ⟨f,fd,me,fo,bi⟩:=moOk (P:=P) (w:=w) (base:=base) T op;refine i11 l' r' g g rfl m1 ⟨lm.hk,lm.hw.2,lm.hg,by lia,by lia,by lia,by lia,m1.ok.a⟩ (by lia) (by lia) ⟨rfl,(i14 f fd _ _ _ me (by walk_at "lk") fo (Z09 _) bi λa b H6 Q f6 e6 oa ob k6=> ?_)⟩;exact i0g _ a b rfl λx dx' H7 hx s7 h7=>k6 _ H7 s7 (.pair (A0j (f6 x hx) h7) (oa.imp (A0i s7)) (ob.imp (A0i s7)))
     | guard x lo hi l' r' =>
      cases ob with
      | @guard _ dx _ _ _ v1 v2 _ _ e o1 o2 =>
       cases e.symm.trans eo
       have x1:=lm.hd;have x2:=lm.hn;have x3:=lm.hz;have x4:=lm.hl;simp only [dep,nod] at x1 x2 x3 x4 hd;obtain ⟨w1,w2,w3,w4,w5⟩:=lm.hw;have lg:∀b:Bool,(g++[(x,lo,hi,b)]).length=g.length+1:=λb=>by simp
       have m1:Lim kn l' (g++[(x,lo,hi,true)]) z:=⟨lm.hk,w4,lm.hg.add w1 w2 w3,by rw [lg];lia,by lia,by lia,by lia,lm.ha⟩;have y1:=m1.ok.k;have y2:=m1.ok.l;refine i11 l' r' _ (g++[(x,lo,hi,false)]) rfl m1 ⟨lm.hk,w5,lm.hg.add w1 w2 w3,by rw [lg];lia,by lia,by lia,by lia,m1.ok.a⟩ (by lia) (by lia) ⟨rfl,(i14 _ _ _ _ _ T.fb (by walk_at "lk") (A5i T) (Z09 _) T.cq.b λa b H6 Q f6 e6 oa ob k6=> ?_)⟩;exact i0u o dd _ _ _ _ _ (i0f a b rfl e6 λx dx' H7 hx s7 h7=>k6 _ H7 s7 (.guard (A0j (f6 x hx) h7) (oa.imp (A0i s7)) (ob.imp (A0i s7))))
    refine i02 _ rfl (i03 (.ref q) u (i0q ss g S rfl lf2.fr pa2 λlp xs H3 hlp s3 h3 pp=> ?_));rw [ek] at pp
    cases pp with
    | @cons x1 _ _ _ p1 pp =>
    cases pp with
    | @cons x2 _ _ _ p2 pp =>
    cases pp
    have lf3:=lf2.same s3;refine i06 lp rfl ⟨_,SqL.of h3⟩ λD hD=> ?_;have Dp:D≠p:=λe=>by rw [e,lf3.ep] at hD;cases hD
    have Dl:D≠l:=λe=>by obtain ⟨_,e2,_⟩:=lf3.hl;rw [e,e2] at hD;cases hD
    have sq:S2 p l q:=⟨λe=>lf.np (e▸(A0p e0).1),λe=>lf.nl (e▸(A0p e0).1)⟩;have so:S2 p l o:=⟨λe=>lf.np (e▸(A0p eo0).1),λe=>lf.nl (e▸(A0p eo0).1)⟩;have slp1:lp≠p:=λe=>by rw [e,lf2.ep] at hlp;cases hlp
    have slp2:lp≠l:=λe=>by obtain ⟨_,e2,_⟩:=lf2.hl;rw [e,e2] at hlp;cases hlp
    have slp:S2 p l lp:=⟨slp1,slp2⟩
    have mm:∀{H4:Hp},K2 p l H3 H4->A1c (A1d S H3) (A1d (λb=>S b/\b≠D) H4):=λ{H4} kk b u e=>by
     obtain ⟨e1,e2⟩:=A0p e;exact A0j ⟨e1,A1e e2 hD⟩ (kk b u ⟨λe=>lf.np (e▸e1),λe=>lf.nl (e▸e1)⟩ e2)
    have ku:∀{H4:Hp} {o:HO},K2 p l H3 H4->K2 p l H3 (upd H4 D o):=λ{H4 o} kk b u hb e=>by rw [A0k (A1e e hD)];exact kk b u hb e
    have mu:∀{H4:Hp} {o:HO},A1c (A1d (λb=>S b/\b≠D) H4) (A1d (λb=>S b/\b≠D) (upd H4 D o)):=A2p (A1c.refl _) λq=>q.2 rfl
    refine A3k (K:=K) (a:=lp) (D:=D) (xs:=[x1,x2]) (λi ys H4=>K2 p l H3 H4/\H4 D=some (.lst ys)/\((i=0/\ys=[]/\B1g t (λb=>S b/\b≠D) H4 p l d ka kn z)\/(i=1/\∃a,ys=[a]/\B1g t (λb=>S b/\b≠D) H4 p l d ka kn (wsP kn l' [] g1 z).2/\Ob t (A1d (λb=>S b/\b≠D) H4) a (wsP kn l' [] g1 z).1)\/(i=2/\∃a b,ys=[a,b]/\B1g t (λb=>S b/\b≠D) H4 p l d ka kn (wsP kn r' [] g2 (wsP kn l' [] g1 z).2).2/\Ob t (A1d (λb=>S b/\b≠D) H4) a (wsP kn l' [] g1 z).1/\Ob t (A1d (λb=>S b/\b≠D) H4) b (wsP kn r' [] g2 (wsP kn l' [] g1 z).2).1)))
     (i00 (K2.of (A0f hD)) A0b (.inl (i00 rfl rfl (lf3.out hD)))) (λi ys H4 ⟨kk,_⟩=>SqL.of (kk _ _ slp h3)) ?_ ?_
    ·rintro i y ys H4 hy ⟨kk,hD4,h4⟩;rcases h4 with ⟨rfl,rfl,lf4⟩ | ⟨rfl,a,rfl,lf4,oa⟩ | ⟨rfl,_⟩
     ·have e:x1=y:=by simpa using hy
      subst e;refine ⟨⟨rfl,True.intro⟩,(i0x _ rfl p d _ rfl lf4.ep (by walk_at "lk") (i02 _ rfl (hs p l d ka _ kn z x1 l' ss g1 H4 _ lf4 (p1.same (mm kk)) m1 d1 λv' H5 k5 lf5 o5=> ?_)))⟩;exact i09 (k5 _ _ ⟨Dp,Dl⟩ hD4) (A1s (by simp)) (ku (kk.trans k5)) A0b (.inr (.inl ⟨rfl,(i06 v' rfl (lf5.upD Dp Dl) (o5.imp mu))⟩))
     ·have e:x2=y:=by simpa using hy
      subst e;refine ⟨⟨rfl,True.intro⟩,(i0x _ rfl p d _ rfl lf4.ep (by walk_at "lk") (i02 _ rfl (hs p l d ka _ kn _ x2 r' ss g2 H4 _ lf4 (p2.same (mm kk)) m2 d2 λv' H5 k5 lf5 o5=> ?_)))⟩;exact i09 (k5 _ _ ⟨Dp,Dl⟩ hD4) (A1s (by simp)) (ku (kk.trans k5)) A0b (.inr (.inr ⟨rfl,(i0l a v' rfl (lf5.upD Dp Dl) ((oa.imp (k5.rs lf4.np lf4.nl)).imp mu) (o5.imp mu))⟩))
     ·simp at hy
    ·rintro ys H4 ⟨kk,hD4,h4⟩;rcases h4 with ⟨h0,_⟩ | ⟨h0,_⟩ | ⟨_,a,b,rfl,lf4,oa,ob4⟩
     ·cases h0
     ·cases h0
     have kk0:K2 p l H H4:=(K2.of (s2.trans s3)).trans kk;have e4:=kk0 _ _ sq eq;have o4:=kk0 _ _ so eo;have bk:A1c (A1d (λb=>S b/\b≠D) H4) (A1d S H4):=A2q (A1c.refl _) λb o _ q=>q.1;refine i18 _ rfl q _ dq _ _ rfl e4 T.bj T.bx (by walk_at "lk") (i08 o C dd (i1c fs lv f fd ps sp rfl o4 c1 me lu fo (hr.mono (by lia)) ⟨bi,?_⟩));refine i13 _ rfl D _ _ _ rfl rfl (SqL.of hD4) rfl (i13 _ rfl D _ _ _ rfl rfl (SqL.of hD4) rfl (mk a b H4 Q (λb hb=>(lf4.fr b hb).1) o4 (oa.imp bk) (ob4.imp bk) λv' H7 s7 o7=> ?_));exact k v' H7 (kk0.trans (K2.of s7)) (by rw [ew];exact (lf4.back lf.np lf.nl).same s7) o7
theorem B2i (e1:∀Q':Bool->Hp->Prop,Q' d1 H->t1 Z H Q') (e2:∀Q':Bool->Hp->Prop,Q' d2 H->t2 Z H Q') (h:Q (d1&&d2) H):D2j t1 t2 Z H Q:=by
 refine e1 _ ?_
 cases d1 with
 | false=>exact h
 | true=>exact e2 _ h
theorem B1c (z:Str):∀bs:List Str,inV (.str z) (bs.map V.str)=decide (z∈bs)
 | []=>rfl
 | b::r=>by
  have ih:=B1c z r;unfold inV at ih⊢;rw [Z0p,List.any_cons,ih];show ((b == z)||decide (z∈r))=decide (z∈b::r);by_cases e:b=z
  ·subst e;simp
  ·have:¬z=b:=λh=>e h.symm;simp [e,this]
theorem A6v:∀bs:List Str,(bs.map V.str).all B5z=true
 | []=>rfl
 | b::r=>by rw [Z0p,List.all_cons,A6v r];rfl
theorem B0n {H:Hp}:∀{vs:List V} {ax:List (Str×Int)},Paired (λ(v:V) (e:Str×Int)=>∃q,v= .ref q/\H q=some (.tup [.str e.1,.int e.2])) vs ax->A4w H vs (ax.map B4a)
 | _,_,.nil=> .nil
 | _,_,@Paired.cons _ _ _ v e _ _ r t=>by
  obtain ⟨q,rfl,hq⟩:=r;exact .cons (.tup hq (.cons (.str _) (.cons (.int _) .nil))) (B0n t)
theorem B6x:∀(u:Tm),TmW u->TmW (inS u)/\dep (inS u)<=dep u/\nod (inS u)<=nod u/\(A3o u).length+dep (inS u)=dep u
 | .num _,h=>(i04 h (Z09 _) (Z09 _) (Nat.zero_add _))
 | .place _,h=>(i04 h (Z09 _) (Z09 _) (Nat.zero_add _))
 | .read _ _,h=>(i04 h (Z09 _) (Z09 _) (Nat.zero_add _))
 | .pair _ _ _,h=>(i04 h (Z09 _) (Z09 _) (Nat.zero_add _))
 | .guard _ _ _ _ _,h=>(i04 h (Z09 _) (Z09 _) (Nat.zero_add _))
 | .sum x b,h=>by
  obtain ⟨h1,h2,h3,h4⟩:=B6x b h.2;exact i04 h1 (by show dep (inS b)<=_;simp only [dep];lia) (by show nod (inS b)<=_;simp only [nod];lia) (by show (x::A3o b).length+dep (inS b)=_;simp only [dep,Z0y];lia)
theorem D6j (h:isS u=true):A3o u≠[]:=by
 cases u with
 | sum x b=>exact λe=>by cases e
 | num _=>cases h
 | place _=>cases h
 | read _ _=>cases h
 | pair _ _ _=>cases h
 | guard _ _ _ _ _=>cases h
theorem C2m {kn:List Str} (h:pend≠[]):fin kn pend g r=(lfR kn pend r.2.1 (gdM g r.1),r.2.1+1,r.2.2++[lfL kn pend r.2.1 (gdM g r.1)]):=by
 cases pend with
 | nil=>exact absurd rfl h
 | cons x s=>rfl
theorem D3j (T:Txt K mg t) (hm:47<=m) (Gb1:A3h P w K mg base CX0 m t.bc t.bo B1m (D2r t n)) :
  A3h P w K mg base CX0 (m+1) t.fc t.iw B1m (D7j t (n+1)):=by
 have Gb2:= @B4n P w K mg base t T;have Gb3:= @A8s P w K mg base t T;have Gb4:= @C3m P w K mg base t T;have Gb5:= @C2w P w K mg base t T;have Gb6:= @A8p P w K mg base t T;have Gb7:= @B1f P w K mg base t T;have Gb8:= @B1i P w K mg base t T;refine T.nc.F.ok A3l (by walk_at "ln") λ_ A _ s H _ Q E hr h=> ?_
 ·refine e0g h ?_;clear h;rintro p l d ka S kn z v u ⟨ss,g,rfl,lf,pa,lm,hd,hS,k⟩;obtain ⟨q,dq,tv,sl,gl,gs,rfl,e0,ob0,hs0,hg0,bg,bs,pg⟩:=id pa;have eq:=A1b _ _ e0;have sq:S2 p l q:=⟨λe=>lf.np (e▸(A0p e0).1),λe=>lf.nl (e▸(A0p e0).1)⟩;have sgl:S2 p l gl:=⟨λe=>lf.np (e▸(A0p hg0).1),λe=>lf.nl (e▸(A0p hg0).1)⟩;have tn:=D6j hS;obtain ⟨i1,i2,i3,i4⟩:=B6x u lm.hw;have tl:1<=(A3o u).length:=by cases h:A3o u with | nil=>exact absurd h tn | cons _ _=>simp
  have l1:=lm.hd;have l2:=lm.hn;have l3:=lm.hz;have l4:=lm.hl;have dp:=A5x (inS u);have m1:Lim kn (inS u) g z:=⟨lm.hk,i1,lm.hg,by lia,by lia,by lia,by lia,lm.ha⟩;have ro:=m1.ok;have ew:wsP kn u [] g z=fin kn (A3o u) g (wsP kn (inS u) [] g z):=D1u u [] g z;rw [C2m tn] at ew;rw [ew] at k;generalize hr0:wsP kn (inS u) [] g z=r at ro k;refine i02 _ (@A0c _ _ _ _ _ (@A0l _ _ 2 _ _ _ _ A3l.nd rfl (.inr rfl) (pcl Gb2 hr T.j0 (A0a (A1h (pv 1) rfl) A0d)) rfl (.inl rfl)) (@A0c _ _ _ _ _ (@A0l _ _ 3 _ _ _ _ A3l.nd rfl (.inl rfl) (pcl Gb4 hr T.qw (A0a (B2x (pv 0) T.bp T.cj Gb1 (hr.mono (by lia)) T.c9.b .nil B6h (A0a (pcl Gb3 hr T.fe (A0a (pv 1) A0d)) A0d)) (A0a (A1h (pv 1) rfl) A0d))) rfl (.inl rfl)) (@A0c _ _ _ _ _ (@A0l _ _ 4 _ _ _ _ A3l.nd rfl (.inr rfl) (pcl Gb5 hr T.qr (A0a (pv 3) A0d)) rfl (.inl rfl)) (@A0c _ _ _ _ _ (B7o (i₀:=5) (N':=["axis","coming","sums"]) (ix:=(List.replicate 1 none++[some 4,some 2])) (tc:=D2j (C0p (tOp (rIn K false) (C7a 0) (C7a 1))) (C0p (tOp (rIn K true) (C7a 0) (C7a 2)))) A3l.nd rfl (.inl rfl) rfl (B7u (cl:=[("sums",_),("coming",_)]) (xs:=["sums","coming"]) rfl (i00 rfl rfl trivial) rfl rfl (by decide +kernel) (by decide +kernel)) (B7a (N0:=["axis"]) (xs:=["coming","sums"]) (js:=[4,2]) (i00 (i00 rfl (.inl rfl) (by walk_at "ix")) (i00 rfl (.inl rfl) (by walk_at "ix")) trivial)) (A2g (A1h (pv 0) rfl)) (λ_ _ _ _=>(A0m (i:=0) C6a rfl (.inl rfl))) (λ_ _ _ _=>(PW.pt (A4a (A0q C8o (pv 0) (pv 1) (by with_unfolding_all rfl)) (A4g (A0q A6b (pv 0) (pv 2) (by with_unfolding_all rfl)))))) (λ_ _ _ _=>(pv 0))) (@A0c _ _ _ _ _ (@A0l _ _ 6 _ _ _ _ A3l.nd rfl (.inl rfl) (C9h (pv 0) T.bp T.kz Gb6 (hr.mono (by lia)) T.dh.b .nil B6h) rfl (.inl rfl)) (@A0c _ _ _ _ _ (A3n (A7p Z0k Z0n Z0o A2l (A1h (pv 0) rfl) (A0a (pmk T.yy Gb7 hr T.zR T.im.b (A0a (pv 6) (A0a (pv 5) (A0a (pv 2) (A0a (pv 3) A0d))))) A0d))) (@A0g _ _ _ (@A0s _ _ _ _ (pmk T.yw Gb8 hr T.ww T.ik.b (A0a (pv 6) (A0a (A4e (N':=["axis"]) (ix:=(List.replicate 1 none)) rfl (A2s rfl (by decide +kernel) (by decide +kernel)) (A2r rfl) (A2g (pv 5)) (λ_ _ _ _=>(A0m (i:=0) C5x rfl (.inl rfl))) (λ_ _ _ _=>(A1n (A0a (pv 0) (A0a A0e A0d))))) A0d))))))))))) ?_;refine i18 _ rfl q _ dq _ _ rfl eq T.bj T.bx (by walk_at "lk") (i0l tv u rfl (ob0.imp A1b) (by lia) λsm H1 hsm s1 h1=> ?_);have lf1:=lf.same s1;have smp:sm≠p:=λe=>by rw [e,lf.ep] at hsm;cases hsm
  have sml:sm≠l:=λe=>by obtain ⟨_,e2,_⟩:=lf.hl;rw [e,e2] at hsm;cases hsm
  have Ssm:S sm:=lf.fr sm hsm;refine i0x _ rfl p d _ rfl lf1.ep (by walk_at "lk") (i02 _ rfl (i03 (.ref q) u (i0q ss g S rfl lf1.fr (pa.same (A0i s1)) λv2 H2 s2 pa2=> ?_)));have lf2:=lf1.same s2;refine i0u p l d ka S kn z (i11 v2 (inS u) (ss++A3o u) g rfl lf2 pa2 m1 (by lia) λv3 H3 k3 lf3 o3=> ?_);rw [hr0] at lf3 o3;have k03:K2 p l H H3:=(K2.of (s1.trans s2)).trans k3;have g3:H3 gl=some (.lst gs):=k03 _ _ sgl (A1b _ _ hg0);refine i18 _ rfl q _ dq _ _ rfl (k03 _ _ sq eq) T.bj T.c7 (by walk_at "lk") ⟨v3,(i14 gl gs g r.1 S rfl lf3.fr o3 g3 (Paired.mapP pg λ_ _ q=>q.same (k03.rs lf.np lf.nl)) λv4 H4 s4 o4=> ?_)⟩;have lf4:=lf3.same s4;obtain ⟨q1,q2,q3⟩:=C6b g r.1 lm.hg ro.w;have r1:=ro.d;have r2:=ro.n;have r3:=ro.k;have r4:=ro.l;generalize hb:gdM g r.1=b at o4 k q1 q2 q3;refine i02 _ rfl (i0s v4 b rfl (o4.imp A1b) q1 (by lia) (by lia) λcm H5 hcm s5 h5=> ?_);have lf5:=lf4.same s5;have k05:K2 p l H H5:=k03.trans (K2.of (s4.trans s5));have sm5:H5 sm=some (.lst ((A3o u).map V.str)):=(K2.of s2).trans (k3.trans (K2.of (s4.trans s5))) _ _ ⟨smp,sml⟩ h1;have o5:=o4.imp (A0i (S:=S) s5);obtain ⟨n1,n2⟩:=C1b (pend:=A3o u) (b:=b) lm.hk;refine i18 _ rfl p _ d _ _ rfl lf5.ep T.bp T.jr (by walk_at "lk") (i06 ka rfl ⟨_,SqL.of (A1b _ _ lf5.hk)⟩ λD hD=> ?_);refine A9k (K:=K) (a:=ka) (D:=D) (xs:=kn.map V.str) (λj ys H6=>A1c H5 H6/\H6 D=some (.lst ys)/\ys=(B6q (kn.take j) (A3o u) b).map V.str/\ys.length<=j) (i04 (A0f hD) A0b rfl (Z09 _)) (λj ys H6 ⟨s6,_⟩=>SqL.of (s6 _ _ (A1b _ _ lf5.hk))) ?_ ?_
  ·rintro j y ys H6 hy ⟨s6,h6,ey,ly⟩;rw [Z1z] at hy;obtain ⟨x,hx,rfl⟩:=Z0i.mp hy;have hj:j<kn.length:=(Z03.mp hx).1;have lk:=lm.hk.1
   have ea:B6q (kn.take (j+1)) (A3o u) b=B6q (kn.take j) (A3o u) b++(if (decide (x∈B9t b)&&decide (x∉A3o u))=true then [x] else []):=by
    show (kn.take (j+1)).filter _=(kn.take j).filter _++_;rw [Z14,hx,Z2f,List.filter_append,List.filter_cons,List.filter_nil]
   refine ⟨(i00 rfl rfl True.intro),?_⟩;refine B2i (d1:=decide (x∈B9t b)) (d2:=decide (x∉A3o u)) (λQ' q=> ?_) (λQ' q=> ?_) ?_
   ·refine i0w _ rfl _ rfl cm _ rfl (.inl (SqL.of (s6 _ _ h5))) (i0a rfl (A6v _) _ rfl ?_);show Q' (inV (V.str x) ((B9t b).map V.str)) H6;rw [B1c];exact q
   ·refine i0w _ rfl _ rfl sm _ rfl (.inl (SqL.of (s6 _ _ sm5))) (i0a rfl (A6v _) _ rfl ?_);show Q' (! inV (V.str x) ((A3o u).map V.str)) H6;rw [B1c];have e:(! decide (x∈A3o u))=decide (x∉A3o u):=by by_cases h:x∈A3o u <;> simp [h]
    rw [e];exact q
   ·cases hc:(decide (x∈B9t b)&&decide (x∉A3o u)) with
    | false =>
     rw [hc] at ea;exact A2o (i04 s6 h6 (by rw [ey,ea];simp) (by lia))
    | true =>
     rw [hc] at ea;exact A5z (i02 _ rfl (i0h h6 (A1s (by lia)) (A0r s6 hD) A0b (by rw [ey,ea,Z0s];rfl) (by rw [Z06];simp only [Z0y,Z2g];lia)))
  rintro ys H6 ⟨s6,h6,rfl,_⟩;rw [Z08,Z18] at h6;have lf6:=lf5.same s6;have Dp:D≠p:=λe=>by rw [e,lf5.ep] at hD;cases hD
  have Dl:D≠l:=λe=>by obtain ⟨_,e2,_⟩:=lf5.hl;rw [e,e2] at hD;cases hD
  obtain ⟨xs,hl6,pl6⟩:=lf6.hl;have pl:p≠l:=λe=>by rw [<-e,lf6.ep] at hl6;cases hl6
  generalize hax:B6q kn (A3o u) b=ax at h6 n1 n2;refine i0x _ rfl p d _ rfl lf6.ep (by walk_at "lk") (i03 p d (i0q ka l r.2.1 rfl lf6.ep (by lia) ?_));have k67:K2 p l H6 (upd H6 p (lfO t d ka l (r.2.1+1))):=K2.atp;have p7:upd H6 p (lfO t d ka l (r.2.1+1)) p=some (lfO t d ka l (r.2.1+1)):=A0b;have l7:upd H6 p (lfO t d ka l (r.2.1+1)) l=some (.lst xs):=by rw [A0k pl.symm];exact hl6
  generalize upd H6 p (lfO t d ka l (r.2.1+1))=H7 at k67 p7 l7;have D7:=k67 _ _ ⟨Dp,Dl⟩ h6;have sm7:=k67 _ _ ⟨smp,sml⟩ (s6 _ _ sm5);have o7:=(o5.imp (A0i (S:=S) s6)).imp (k67.rs lf.np lf.nl);have fr7:Fr S H7:=λb hb=>lf6.fr b (k67.free p7 l7 hb);refine i18 _ rfl p _ d _ (.ref l) rfl p7 T.bp T.dm (by walk_at "lk") ⟨.inl (i01 rfl _ (SqL.of l7)),?_⟩;refine i0e _ rfl _ rfl (i0e _ rfl _ rfl λx dx hx hdx hne=> ?_);have s78:A1c H7 (upd (upd H7 dx (.own x)) x (.ins t.ay dx [])):=A0r (A0f hdx) hx;have g78:upd (upd H7 dx (.own x)) x (.ins t.ay dx []) x=some (.ins t.ay dx []):=A0b;generalize upd (upd H7 dx (.own x)) x (.ins t.ay dx [])=G8 at s78 g78;refine i1d x dx D sm v4 (sN r.2.1) ax (A3o u) rfl g78 (s78 _ _ D7) (s78 _ _ sm7) (by lia) (by lia) λcc cu H8 hc0 hu0 hx8 hcc hcu kb=>⟨rfl,?_⟩;have s8:A1c H7 H8:=KB.same s78 kb hx;have l8:=s8 _ _ l7;have lxs:=Paired.length pl6;refine i0t l _ _ rfl rfl l8 (A1s (by lia)) ?_;have Sx:S x:=fr7 x hx;have Sc:S cc:=fr7 cc (s78.free hc0);have Su:S cu:=fr7 cu (s78.free hu0);have k79:K2 p l H7 (upd H8 l (.lst (xs++[.ref x]))):=(K2.of s8).trans K2.atl;have k89:K2 p l H8 (upd H8 l (.lst (xs++[.ref x]))):=K2.atl;have p9:upd H8 l (.lst (xs++[.ref x])) p=some (lfO t d ka l (r.2.1+1)):=by rw [A0k pl];exact s8 _ _ p7
  have l9:upd H8 l (.lst (xs++[.ref x])) l=some (.lst (xs++[.ref x])):=A0b;generalize upd H8 l (.lst (xs++[.ref x]))=H9 at k79 k89 p9 l9;have rs9:=k89.rs (S:=S) lf.np lf.nl
  have lf9:B1g t S H9 p l d ka kn (r.2.1+1,r.2.2++[lfL kn (A3o u) r.2.1 b]):=by
   have k69:=(k67.trans k79).rs (S:=S) lf.np lf.nl;refine ⟨lf.np,lf.nl,λb hb=>fr7 b (k79.free p9 l9 hb),p9,k69 _ _ lf6.hk,xs++[.ref x],l9,B1t (Paired.mapP pl6 λ_ _ q=>q.same k69) (.cons ⟨x,(i0y dx cc cu v4 rfl (rs9 _ _ (A0j Sx hx8)) ?_ (rs9 _ _ (A0j Su hcu)) ((o7.imp (A0i s8)).imp rs9))⟩ .nil)⟩;show A1d S H9 cc=some (.lst ((B6q kn (A3o u) b).map V.str));rw [hax];exact rs9 _ _ (A0j Sc hcc)
  have D9:=k79 _ _ ⟨Dp,Dl⟩ D7;have k09:K2 p l H H9:=k05.trans ((K2.of s6).trans (k67.trans k79));have er:lfR kn (A3o u) r.2.1 b= .read (sN r.2.1) (ax.map λx=>(x,(0:Int))):=by rw [<-hax];rfl
  rw [er] at k;refine i02 _ rfl (i0k _ rfl D rfl ⟨_,SqL.of D9⟩ λD2 hD2=> ?_);refine A3k (K:=K) (a:=D) (D:=D2) (xs:=ax.map V.str) (λi ys G=>A1c H9 G/\G D2=some (.lst ys)/\Paired (λ(v:V) (e:Str×Int)=>∃q,v= .ref q/\G q=some (.tup [.str e.1,.int e.2])) ys ((ax.take i).map λx=>(x,(0:Int)))) (i00 (A0f hD2) A0b .nil) (λi ys G ⟨s,_⟩=>SqL.of (s _ _ D9)) ?_ ?_
  ·rintro i y0 ys G hy0 ⟨sG,hG,pG⟩;rw [Z1z] at hy0;obtain ⟨y,hy,rfl⟩:=Z0i.mp hy0;have hi:=(Z03.mp hy).1;have lG:=Paired.length pG;rw [Z08,Z0x] at lG;refine ⟨True.intro,(i06 _ rfl (A0t rfl) λtp htp=> ?_)⟩;have sT:=A0f (o:= .tup [.str y,.int 0]) htp;have eT:upd G tp (.tup [.str y,.int 0]) tp=some (.tup [.str y,.int 0]):=A0b;generalize upd G tp (.tup [.str y,.int 0])=G2 at sT eT;refine i09 (sT _ _ hG) (A1s (by lia)) (A0r (sG.trans sT) hD2) A0b ?_;have tD:tp≠D2:=λe=>by rw [e,hG] at htp;cases htp
   rw [Z14,hy,Z2f,Z0s];exact B1t (Paired.mapP pG λv e ⟨q,e1,e2⟩=>(i02 q e1 (by rw [A0k (A3p e2 hG (by intro h;cases h))];exact sT _ _ e2))) (.cons (i02 tp rfl (by rw [A0k tD];exact eT)) .nil)
  rintro ys G ⟨sG,hG,pG⟩;rw [Z08,Z18] at pG;have lfG:=lf9.same sG;have rpG:Rep G (.ref D2) (A5w (ax.map λx=>(x,(0:Int)))):= .lst hG (B0n pG);refine λrx rd hrx hrd hrn=> ?_;have sX:A1c G (upd (upd G rd (.own rx)) rx (.ins t.ah rd [])):=A0r (A0f hrd) hrx;have gX:upd (upd G rd (.own rx)) rx (.ins t.ah rd []) rx=some (.ins t.ah rd []):=A0b;generalize upd (upd G rd (.own rx)) rx (.ins t.ah rd [])=GX at sX gX;refine ⟨rx,(i0y rd D2 (sN r.2.1) _ rfl gX (rpG.same sX) (by rw [Z08];lia) λl' GY hY rY kY=>⟨rfl,?_⟩)⟩;have sY:A1c G GY:=KB.same sX kY hrx;have lfY:=lfG.same sY;refine k _ GY (k09.trans (K2.of (sG.trans sY))) lfY (.read (A0j (lfG.fr rx hrx) hY) (rY.same λb o e=> ?_));obtain ⟨z1,z2⟩:=A0p e;exact A0j (lfG.fr b (sX.free z1)) z2
theorem D4o (T:Txt K mg t):∀n:Nat,A3h P w K mg base CX0 (49+2*n) t.bc t.bo B1m (D2r t n)
 | 0=>A3h.none λvs H Q E h=>by
  refine e0g h ?_;clear h;rintro p l d ka S kn z v u ⟨ss,g,_,_,_,_,hd,_⟩;have:=A5x u
  lia
 | n+1=>D2o T (m:=49+2*n+1) (m0:=49+2*n) (by lia) (by lia) (D3j T (by lia) (D4o T n)) (D4o T n) λp l d ka S kn z v u s g H Q lf pa lm hd k=>(i0u p l d ka S kn z (i11 v u s g rfl lf pa lm (by lia) k))
structure D3e (e:Lt):Prop where
 l1:e.1.length<=60
 l2:e.2.1.length<=12
 l3:∀x∈e.2.1,B3y x
 w:TmW e.2.2
 d:dep e.2.2<=20
 n:nod e.2.2<=122
def C4n (kn:List Str) (e:Lt) (z:LS):LS:=((wsP kn (inS e.2.2) [] [] z).2.1,(wsP kn (inS e.2.2) [] [] z).2.2++[(e.1,e.2.1,A3o e.2.2,(wsP kn (inS e.2.2) [] [] z).1)])
theorem D3e.lim {e:Lt} (h:D3e e) {kn:List Str} (hk:C8t kn) (hz:z.1<=90000) (hl:z.2.length<=90000) (ha:∀e∈z.2,C5b e):Lim kn (inS e.2.2) [] z:=by
 obtain ⟨i1,i2,i3,_⟩:=B6x e.2.2 h.w;have:=h.d;have:=h.n;exact ⟨hk,i1,(λe he=>by cases he),by show 0+dep (inS e.2.2)<=40;lia,by lia,by lia,by lia,ha⟩
theorem D3s {e:Lt} (h:D3e e) {kn:List Str} (hk:C8t kn) (hz:z.1<=90000) (hl:z.2.length<=90000) (ha:∀e∈z.2,C5b e):(C4n kn e z).1<=z.1+122/\(C4n kn e z).2.length<=z.2.length+123/\∀e'∈(C4n kn e z).2,C5b e':=by
 have ro:=(h.lim hk hz hl ha).ok;obtain ⟨i1,i2,i3,i4⟩:=B6x e.2.2 h.w;have r1:=ro.d;have r2:=ro.n;have r3:=ro.k;have r4:=ro.l;have h1:=h.d;have h2:=h.n;refine i00 (by show (wsP kn (inS e.2.2) [] [] z).2.1<=_;lia) (by show ((wsP kn (inS e.2.2) [] [] z).2.2++[_]).length<=_;rw [Z06];simp only [Z0y,Z2g];lia) λe' he=> ?_;rcases Z07.mp he with he | he
 ·exact ro.a e' he
 ·rw [Z0w.mp he];exact ⟨h.l1,(i0h h.l2 h.l3 (by show (A3o e.2.2).length<=100;lia) ro.w (by show dep (wsP kn (inS e.2.2) [] [] z).1<=40;lia) (by show nod (wsP kn (inS e.2.2) [] [] z).1<=1000;lia))⟩
def duP (kn:List Str) (ls:List Lt):LS:=ls.foldl (λz e=>C4n kn e z) (0,[])
theorem B2c {kn:List Str} {e:Lt} (h:ls[i]? =some e):duP kn (ls.take (i+1))=C4n kn e (duP kn (ls.take i)):=by
 unfold duP;rw [Z14,h,Z2f,List.foldl_append];rfl
theorem C6z {kn:List Str} (hk:C8t kn) {ls:List Lt} (h:∀e∈ls,D3e e) (hl:ls.length<=100):∀i,i<=ls.length->(duP kn (ls.take i)).1<=122*i/\(duP kn (ls.take i)).2.length<=123*i/\∀e∈(duP kn (ls.take i)).2,C5b e
 | 0,_=>(i00 (Z1e _) (Z1e _) λe he=>by cases he)
 | i+1,hi=>by
  obtain ⟨h1,h2,h3⟩:=C6z hk h hl i (by lia);have he:ls[i]? =some ls[i]:=Z0b (by lia);rw [B2c he];obtain ⟨a1,a2,a3⟩:=D3s (h _ (Z13 he)) hk (z:=duP kn (ls.take i)) (by lia) (by lia) h3;exact i00 (by lia) (by lia) a3
def D9v (A:Adr):Sp:=λvs H Q _=>∃(p l d ka:Addr) (S:Addr->Prop) (kn:List Str) (z:LS) (v:V) (e:Lt),vs=[.ref p,v]/\B1g A S H p l d ka kn z/\B9o A (λ_=>True) (A1d S H) v e/\D3e e/\C8t kn/\z.1<=90000/\z.2.length<=90000/\(∀e∈z.2,C5b e)/\
 ∀(H':Hp),K2 p l H H'->B1g A S H' p l d ka kn (C4n kn e z)->Q .non H'
theorem A9w (T:Txt K mg t):FP P w mg base T.ef 90 (D9v t):=by
 have Gb3:= @A8s P w K mg base t T;have Ga2:= @A8f P w K mg base t T;have Gb7:= @B1f P w K mg base t T;have Gb1:= @D4o P w K mg base t T 20;refine T.ef.F.ok A4k (by walk_at "ln") λ_ A _ s H _ Q E hr h=> ?_
 ·refine e0g h ?_;clear h;rintro p l d ka S kn z v e ⟨rfl,lf,la,ok,hk,hz,hl,ha,k⟩;obtain ⟨a,da,c,tv,_,rfl,ea0,_,hc0,ob0⟩:=la;have ea:=A1b _ _ ea0;have sa:S2 p l a:=⟨λe=>lf.np (e▸(A0p ea0).1),λe=>lf.nl (e▸(A0p ea0).1)⟩;have sc:S2 p l c:=⟨λe=>lf.np (e▸(A0p hc0).1),λe=>lf.nl (e▸(A0p hc0).1)⟩;have m1:=ok.lim hk hz hl ha;have ro:=m1.ok;obtain ⟨i1,i2,i3,i4⟩:=B6x e.2.2 ok.w;have o1:=ok.d;have o2:=ok.n;have o3:=ok.l2;have r4:=ro.l;refine i02 _ (@A0c _ _ _ _ _ (@A0l _ _ 2 _ _ _ _ A4k.nd rfl (.inl rfl) (pcl Gb3 hr T.fe (A0a (pmk T.jc Ga2 hr T.nj T.cb.b (A0a (A1h (pv 1) rfl) (A0a (@A1z _ _ _ _ A0d) (A0a (@A1z _ _ _ _ A0d) A0d)))) A0d)) rfl (.inl rfl)) (@A0c _ _ _ _ _ (@A0l _ _ 3 _ _ _ _ A4k.nd rfl (.inl rfl) (B2x (pv 0) T.bp T.cj Gb1 (hr.mono (by lia)) T.c9.b .nil B6h (A0a (pv 2) A0d)) rfl (.inl rfl)) (@A0g _ _ _ (A3n (A7p Z0k Z0n Z0o A2l (A1h (pv 0) rfl) (A0a (pmk T.yy Gb7 hr T.zR T.im.b (A0a (A1h (pv 1) rfl) (A0a (A1h (pv 1) rfl) (A0a (A1h (pv 2) rfl) (A0a (pv 3) A0d))))) A0d)))))) ?_;refine i18 _ rfl a _ da _ _ rfl ea T.og T.rc (by walk_at "lk") ⟨A0t rfl,λl1 hl1=>⟨A0t rfl,λl2 hl2=> ?_⟩⟩;have s1:A1c H (upd H l1 (.lst [])):=A0f hl1;have s2':=A0f (o:= .lst []) hl2;have s2:=s1.trans s2';have g1:upd (upd H l1 (.lst [])) l2 (.lst []) l1=some (.lst []):=s2' _ _ A0b;have g2:upd (upd H l1 (.lst [])) l2 (.lst []) l2=some (.lst []):=A0b;have f1:=lf.fr l1 hl1;have f2:=lf.fr l2 (s1.free hl2);generalize upd (upd H l1 (.lst [])) l2 (.lst [])=G at s2 g1 g2;refine λnp dn hn hdn ndn=>(i03 np dn (i0q _ _ _ rfl A0b rfl ?_));have s3:A1c G (upd (upd (upd G dn (.own np)) np (.ins t.av dn [])) np (.ins t.av dn [("term",tv),("sums",.ref l1),("guards",.ref l2)])):=A2e hn hdn;have e3:upd (upd (upd G dn (.own np)) np (.ins t.av dn [])) np (.ins t.av dn [("term",tv),("sums",.ref l1),("guards",.ref l2)]) np=some (.ins t.av dn [("term",tv),("sums",.ref l1),("guards",.ref l2)]):=A0b;generalize upd (upd (upd G dn (.own np)) np (.ins t.av dn [])) np (.ins t.av dn [("term",tv),("sums",.ref l1),("guards",.ref l2)])=G3 at s3 e3;have s03:=s2.trans s3;have lf3:=lf.same s03;have pa3:A3j t (A1d S G3) (.ref np) (e.2.2,[],[]):=(i1c np dn tv l1 l2 [] rfl (A0j (lf.fr np (s2.free hn)) e3) (ob0.imp (A0i s03)) (A0j f1 (s3 _ _ g1)) (A0j f2 (s3 _ _ g2)) (by show 0+dep e.2.2<=100;lia) (by show 0+dep e.2.2<=100;lia) .nil);refine i03 (.ref np) e.2.2 (i0q [] [] S rfl lf3.fr pa3 λv4 H4 s4 pa4=> ?_);have s04:=s03.trans s4;have lf4:=lf.same s04;obtain ⟨b4,db4,tv4,sl4,gl4,gs4,rfl,eb4,_,hs4,_⟩:=id pa4;have sb:S2 p l b4:=⟨λe=>lf.np (e▸(A0p eb4).1),λe=>lf.nl (e▸(A0p eb4).1)⟩;have ssl:S2 p l sl4:=⟨λe=>lf.np (e▸(A0p hs4).1),λe=>lf.nl (e▸(A0p hs4).1)⟩;refine i0x _ rfl p d _ rfl lf4.ep (by walk_at "lk") (i02 _ rfl (i0u p l d ka S kn z (i11 _ (inS e.2.2) _ [] rfl lf4 pa4 m1 (by lia) λv5 H5 k5 lf5 o5=> ?_)));have k05:K2 p l H H5:=(K2.of s04).trans k5;obtain ⟨xs,hl5,pl5⟩:=lf5.hl;have lxs:=Paired.length pl5;have pl:p≠l:=λe=>by rw [<-e,lf5.ep] at hl5;cases hl5
  refine i18 _ rfl p _ d _ (.ref l) rfl lf5.ep T.bp T.dm (by walk_at "lk") ⟨.inl (i01 rfl _ (SqL.of hl5)),?_⟩;have ea5:=k05 _ _ sa ea;refine i18 _ rfl a _ da _ _ rfl ea5 T.og T.r8 (by walk_at "lk") (i18 _ rfl a _ da _ _ rfl ea5 T.og T.re (by walk_at "lk") (i18 _ rfl b4 _ db4 _ _ rfl (k5 _ _ sb (A1b _ _ eb4)) T.bj T.ci (by walk_at "lk") (i02 _ rfl λx dx hx hdx hne=> ?_)));have s78:A1c H5 (upd (upd H5 dx (.own x)) x (.ins t.ay dx [])):=A0r (A0f hdx) hx;have g78:upd (upd H5 dx (.own x)) x (.ins t.ay dx []) x=some (.ins t.ay dx []):=A0b;generalize upd (upd H5 dx (.own x)) x (.ins t.ay dx [])=G8 at s78 g78;refine i1d x dx c sl4 v5 e.1 e.2.1 (A3o e.2.2) rfl g78 (s78 _ _ (k05 _ _ sc (A1b _ _ hc0))) (s78 _ _ (k5 _ _ ssl (A1b _ _ hs4))) (by lia) (by lia) λcc cu H8 hcc0 hu0 hx8 hcc hcu kb=>⟨rfl,?_⟩;have s8:A1c H5 H8:=KB.same s78 kb hx;refine i0t l _ _ rfl rfl (s8 _ _ hl5) (A1s (by lia)) ?_;have Sx:S x:=lf5.fr x hx;have Sc:S cc:=lf5.fr cc (s78.free hcc0);have Su:S cu:=lf5.fr cu (s78.free hu0);have k59:K2 p l H5 (upd H8 l (.lst (xs++[.ref x]))):=(K2.of s8).trans K2.atl;have k89:K2 p l H8 (upd H8 l (.lst (xs++[.ref x]))):=K2.atl;have p9:upd H8 l (.lst (xs++[.ref x])) p=some (lfO t d ka l (C4n kn e z).1):=by rw [A0k pl];exact s8 _ _ lf5.ep
  have l9:upd H8 l (.lst (xs++[.ref x])) l=some (.lst (xs++[.ref x])):=A0b;generalize upd H8 l (.lst (xs++[.ref x]))=H9 at k59 k89 p9 l9;have rs9:=k89.rs (S:=S) lf.np lf.nl;have rs5:=k59.rs (S:=S) lf.np lf.nl;exact k H9 (k05.trans k59) ⟨lf.np,lf.nl,λb hb=>lf5.fr b (k59.free p9 l9 hb),p9,rs5 _ _ lf5.hk,xs++[.ref x],l9,B1t (Paired.mapP pl5 λ_ _ q=>q.same rs5) (.cons ⟨x,(i0y dx cc cu v5 rfl (rs9 _ _ (A0j Sx hx8)) (rs9 _ _ (A0j Sc hcc)) (rs9 _ _ (A0j Su hcu)) (o5.imp rs5))⟩ .nil)⟩
theorem C1k:∀(ax:List (Str×Int)),C9u (A2i ax) (ax.map (·.2))
 | []=> .nil
 | _::r=> .cons rfl (C1k r)
def B8r (es:List (Str×List Str)) (e:Str×List Str):List (Str×List Str):=if (es.any λf=>decide (f.1=e.1))=true then es.map (λf=>if f.1=e.1 then (f.1,e.2) else f) else es++[e]
theorem D1s {S:Addr->Prop} {H:Hp} {x:Str}:∀{ws:List (Key×V)} {es:List (Str×List Str)},AR S H ws es->(ws.any λkv=>decide (kv.1=(Sum.inr x:Key)))=es.any λf=>decide (f.1=x)
 | _,_,.nil=>rfl
 | _,_,.cons r t=>by
  rw [List.any_cons,List.any_cons,D1s t,r.1];congr 1;exact decide_eq_decide.mpr ⟨λh=>by injection h,λh=>by rw [h]⟩
theorem D1q {S:Addr->Prop} {H:Hp} {x:Str} {c:Addr} {ys:List Str} (sc:S c) (hc:H c=some (.lst (ys.map V.str))):∀{ws:List (Key×V)} {es:List (Str×List Str)},AR S H ws es->AR S H (ws.map λkv=>if kv.1=(Sum.inr x:Key) then (kv.1,V.ref c) else kv) (es.map λf=>if f.1=x then (f.1,ys) else f)
 | _,_,.nil=> .nil
 | _,_,@Paired.cons _ _ _ p e _ _ ⟨z1,b,z2,z3,z4⟩ t=>by
  refine .cons ?_ (D1q sc hc t);dsimp only;by_cases h:e.1=x
  ·have h':p.1=(Sum.inr x:Key):=by rw [z1,h]
   rw [Z12 h,Z12 h'];exact ⟨z1,(i06 c rfl sc hc)⟩
  ·have h':¬p.1=(Sum.inr x:Key):=λq=>h (by rw [z1] at q;injection q);rw [Z0t h,Z0t h'];exact ⟨z1,(i06 b z2 z3 z4)⟩
theorem D1n {c:Addr} (sc:S c) (hc:H c=some (.lst (e.2.map V.str))) (h:AR S H ws es):AR S H (A9y ws (Sum.inr e.1) (.ref c)) (B8r es e):=by
 unfold A9y B8r;rw [D1s h];by_cases q:(es.any λf=>decide (f.1=e.1))=true
 ·rw [Z12 q,Z12 q];exact D1q sc hc h
 ·rw [Z0t q,Z0t q];exact B1t h (.cons ⟨rfl,(i06 c rfl sc hc)⟩ .nil)
theorem C1n {S:Addr->Prop} {H:Hp}:∀{ws:List (Key×V)} {es:List (Str×List Str)} {as:List (Key×V)} {bs:List (Str×List Str)},AR S H as bs->AR S H ws es->AR S H (A4h as ws) (es.foldl B8r bs)
 | _,_,_,_,ha,.nil=>ha
 | _,_,as,bs,ha,@Paired.cons _ _ _ p e ws es ⟨z1,b,z2,z3,z4⟩ t=>by
  obtain ⟨p1,p2⟩:=p;cases z1;cases z2;have h:=D1n (e:=e) z3 z4 ha;show AR S H (A4h (A9y as (Sum.inr e.1) (.ref b)) ws) (es.foldl B8r (B8r bs e));exact C1n h t
theorem D4i (h:(es.map (·.1)).Nodup):((B8r es e).map (·.1)).Nodup:=by
 unfold B8r;by_cases q:(es.any λf=>decide (f.1=e.1))=true
 ·rw [Z12 q,List.map_map]
  have:((λx:Str×List Str=>x.1)∘λf:Str×List Str=>if f.1=e.1 then (f.1,e.2) else f)=λf=>f.1:=by
   funext f;by_cases z:f.1=e.1
   ·show (if f.1=e.1 then (f.1,e.2) else f).1=f.1;rw [Z12 z]
   ·show (if f.1=e.1 then (f.1,e.2) else f).1=f.1;rw [Z0t z]
  rw [this];exact h
 ·rw [Z0t q,Z0s];refine Z0l.mpr (i00 h (by simp) λa ha b hb=> ?_);have hb:=Z0w.mp hb;subst hb;intro z;subst z;obtain ⟨f,hf,e1⟩:=Z2c.mp ha;exact q (List.any_eq_true.mpr (i02 f hf (by simpa using e1)))
theorem D0r:(B8r es e).length<=es.length+1:=by
 unfold B8r;by_cases q:(es.any λf=>decide (f.1=e.1))=true
 ·rw [Z12 q,Z08];lia
 ·rw [Z0t q,Z06];simp
theorem C8y {p:List Str->Prop} (h:∀f∈es,p f.2) (he:p e.2):∀f∈B8r es e,p f.2:=λf hf=>by
 unfold B8r at hf;by_cases q:(es.any λf=>decide (f.1=e.1))=true
 ·rw [Z12 q] at hf;obtain ⟨f',h1,rfl⟩:=Z2c.mp hf;by_cases z:f'.1=e.1
  ·rw [Z12 z];exact he
  ·rw [Z0t z];exact h f' h1
 ·rw [Z0t q] at hf;rcases Z07.mp hf with hf | hf
  ·exact h f hf
  ·rw [Z0w.mp hf];exact he
structure C4z (es:List (Str×List Str)) (n:Nat):Prop where
 nd:(es.map (·.1)).Nodup
 l:es.length<=n
 a:∀e∈es,e.2.length<=100
theorem C4z.put (h:C4z es n) (he:e.2.length<=100):C4z (B8r es e) (n+1):=⟨D4i h.nd,Z1n D0r (by have:=h.l;lia),C8y (p:=λys=>ys.length<=100) h.a he⟩
theorem C4z.fold:∀(fs:List (Str×List Str)) {es:List (Str×List Str)} {n:Nat},C4z es n->(∀e∈fs,e.2.length<=100)->C4z (fs.foldl B8r es) (n+fs.length)
 | [],_,_,h,_=>h
 | f::fs,es,n,h,hf=>by
  have:=C4z.fold fs (h.put (hf f (by simp))) λe he=>hf e (by simp [he]);rw [Z0y,show n+(fs.length+1)=n+1+fs.length by lia];exact this
def arP (tb:List (Str×List Str)) (z:List Ln):List (Str×List Str):=(z.map λe=>(e.1,e.2.1)).foldl B8r (tb.foldl B8r [])
theorem D0i {z:List Ln} {e:Ln} (h:z[i]? =some e):arP tb (z.take (i+1))=B8r (arP tb (z.take i)) (e.1,e.2.1):=by
 unfold arP;rw [Z14,h,Z2f,Z0s,List.foldl_append];rfl
theorem D1g {z:List Ln} (h:∀e∈tb,e.2.length<=100) (hz:∀e∈z,C5b e):C4z (arP tb z) (tb.length+z.length):=by
 have h0:C4z ([]:List (Str×List Str)) 0:=⟨.nil,Z09 _,λe he=>by cases he⟩;have h1:=C4z.fold tb h0 h
 have h2:=C4z.fold (z.map λe=>(e.1,e.2.1)) h1 λe he=>by
  obtain ⟨f,hf,rfl⟩:=Z2c.mp he;have:=(hz f hf).2.1;show f.2.1.length<=100
  lia
 rw [Z08,Nat.zero_add] at h2;exact h2
structure D6i (ax:List (Str×Int)) (tb:List (Str×List Str)) (ls:List Lt) (os:List Str):Prop where
 nd:(ax.map (·.1)).Nodup
 k:C8t (ax.map (·.1))
 t1:tb.length<=10
 t2:∀e∈tb,e.2.length<=100
 l1:ls.length<=8
 l2:∀e∈ls,D3e e
 o:os.length<=100
abbrev B1z (ax:List (Str×Int)) (ls:List Lt):List Ln:=(duP (ax.map (·.1)) ls).2
theorem D6i.due (h:D6i ax tb ls os):(B1z ax ls).length<=984/\∀e∈B1z ax ls,C5b e:=by
 have l1:=h.l1;obtain ⟨_,h2,h3⟩:=C6z h.k h.l2 (by lia) ls.length (Z09 _);rw [Z18] at h2 h3;exact ⟨by show (duP _ ls).2.length<=984;lia,h3⟩
def E0t (A:Adr):Sp:=λvs H Q _=>∃(p:Addr) (wh:Int) (ax:List (Str×Int)) (tb:List (Str×List Str)) (ls:List Lt) (os:List Str),vs=[.ref p]/\D0p A H p wh ax tb ls os/\D6i ax tb ls os/\∀(l:Addr) (xs:List V) (H':Hp),H l=none->A1c H H'->H' l=some (.lst xs)->Paired (D2q A H') xs (B1z ax ls)->Q (.ref l) H'
structure ClAt (A:Adr) (H:Hp) (q:Addr) (ax:List (Str×Int)) (tb:List (Str×List Str)) (ls:List Lt):Prop where
 ob:∃(dc:Addr) (wh:Int) (l a t v o:Addr) (ak:List (Key×V)) (xs:List V),H q=some (clo A dc wh l a t v o)/\H a=some (.dK ak)/\AR (λ_=>True) H ak (arP tb (B1z ax ls))/\H v=some (.lst xs)/\Paired (D2q A H) xs (B1z ax ls)
def D8n (A:Adr):Sp:=λvs H Q _=>∃(p:Addr) (wh:Int) (ax:List (Str×Int)) (tb:List (Str×List Str)) (ls:List Lt) (os:List Str),vs=[.ref p]/\D0p A H p wh ax tb ls os/\D6i ax tb ls os/\∀(q:Addr) (H':Hp),A1c H H'->ClAt A H' q ax tb ls->Q (.ref q) H'
theorem C0s (T:Txt K mg t):FO P w base T.ni 91 (E0t t):=by
 have Gb9:= @B5g P w K mg base t T;have Gc0:= @B4o P w K mg base t T;have Gc1:= @A9w P w K mg base t T;refine T.ni.F.ok A8v (by walk_at "ln") λ_ A _ s H _ Q E hr h=> ?_
 ·obtain ⟨p,wh,ax,tb,ls,os,rfl,pr,ok,k⟩:=h;obtain ⟨dx,a,tt,ll,o,e,ra,rt,⟨xl,hxl,lets⟩,ho⟩:=pr.ob;have lxl:=Paired.length lets;have l8:=ok.l1;have k12:=ok.k.1;rw [Z08] at k12;refine i02 _ (@A0c _ _ _ _ _ (@A0l _ _ 1 _ _ _ _ A8v.nd rfl (.inl rfl) (pmk T.zq Gc0 hr T.A7 T.iz.b (A0a (pcl Gb9 hr T.jm (A0a (pv 0) A0d)) A0d)) rfl (.inl rfl)) (@A0c _ _ _ _ _ (A2y PassesOwn.never rfl (A2g (A1h (pv 0) rfl)) (A0m (i:=2) A8v.nd rfl (.inl rfl)) (@A0g _ _ _ (A3n (B2x (pv 1) T.bp T.nw Gc1 (hr.mono (by lia)) T.ef.b .nil B6h (A0a (pv 2) A0d))))) (@A0g _ _ _ (@A0s _ _ _ _ (A1h (pv 1) rfl))))) ?_;refine i02 _ rfl (i08 p wh ax (i0q tb ls os rfl pr (by lia) λq H1 hq s1 h1=> ?_));refine λlf dlf hlf hdlf hne=> ?_;have sG:A1c H1 (upd (upd H1 dlf (.own lf)) lf (.ins t.au dlf [])):=A0r (A0f hdlf) hlf;have gG:upd (upd H1 dlf (.own lf)) lf (.ins t.au dlf []) lf=some (.ins t.au dlf []):=A0b;generalize upd (upd H1 dlf (.own lf)) lf (.ins t.au dlf [])=G at sG gG;refine i0m lf dlf (.ref q) rfl gG λl H2 hl0 hp2 hl2 kb2=>⟨rfl,?_⟩;have s12:A1c H1 H2:=KB.same sG kb2 hlf;have s02:=s1.trans s12;have lfH:H lf=none:=s1.free hlf;have lH:H l=none:=s1.free (sG.free hl0);have l1H:H1 l=none:=sG.free hl0;have inS2:A1c H1 (A1d (S2 lf l) H2):=λb o e=>A0j ⟨A1e e hlf,A1e e l1H⟩ (s12 _ _ e);have k2s:∀{H3:Hp},K2 lf l H2 H3->A1c H H3:=λ{H3} kk b o e=>kk b o ⟨A1e e lfH,A1e e lH⟩ (s02 _ _ e)
  have lf2:B1g t (S2 lf l) H2 lf l dlf q (ax.map (·.1)) (0,[]):=by
   refine ⟨λz=>z.1 rfl,λz=>z.2 rfl,λb hb=> ?_,hp2,inS2 _ _ h1,[],hl2,.nil⟩;have z1:b≠lf:=λz=>by rw [z,hp2] at hb;cases hb
   have z2:b≠l:=λz=>by rw [z,hl2] at hb;cases hb
   exact ⟨z1,z2⟩
  refine i18 _ rfl p _ dx _ (.ref ll) rfl (s02 _ _ e) T.bt T.jo (by walk_at "lk") (i06 ll rfl ⟨_,SqL.of (s02 _ _ hxl)⟩ ?_)
  refine A3f (K:=K) (a:=ll) (xs:=xl) (λi Z H3=>∃(o2:Option V),Z=[Sro p,Sro lf,o2]/\K2 lf l H2 H3/\B1g t (S2 lf l) H3 lf l dlf q (ax.map (·.1)) (duP (ax.map (·.1)) (ls.take i)))
   (i06 none rfl (K2.of (A1c.refl _)) lf2) (λi Z H3 _ zq=>by obtain ⟨_,_,kk,_⟩:=zq;exact SqL.of (k2s kk _ _ hxl)) ?_ ?_
  ·rintro i y Z H3 hy ⟨o2,rfl,kk,lf3⟩;obtain ⟨le,hle,lt⟩:=B3x lets hy;have hi:i<ls.length:=(Z03.mp hle).1;obtain ⟨d1,d2,d3⟩:=C6z ok.k ok.l2 (by lia) i (by lia);have lt3:=lt.same ((s1.trans inS2).trans (kk.rs lf2.np lf2.nl));refine i0x _ rfl lf dlf _ rfl lf3.ep (by walk_at "lk") (i02 _ rfl (i08 lf l dlf (i1c q _ _ _ y le rfl lf3 lt3 (ok.l2 le (Z13 hle)) ok.k (by lia) (by lia) ⟨d3,λH4 k4 lf4=> ?_⟩)));rw [<-B2c hle] at lf4;exact i06 _ rfl (kk.trans k4) lf4
  ·rintro Z H3 ⟨o2,rfl,kk,lf3⟩;rw [lxl,Z18] at lf3;obtain ⟨xs,h3,lns⟩:=lf3.hl;exact i18 _ rfl lf _ dlf _ (.ref l) rfl lf3.ep T.bp T.dm (by walk_at "lk") (k l xs H3 lH (k2s kk) h3 (Paired.mapP lns λ_ _ z=>z.same A1b))
theorem C1c (T:Txt K mg t):FO P w base T.oo 92 (D8n t):=by
 have Gc2:= @B6c P w K mg base t T;have Gc3:= @B5p P w K mg base t T;have Gc4:= @C0s P w K mg base t T;have Gc5:= @B4f P w K mg base t T;refine T.oo.F.ok A7e (by walk_at "ln") λ_ A _ s H _ Q E hr h=> ?_
 ·obtain ⟨p,wh,ax,tb,ls,os,rfl,pr,ok,k⟩:=h;have hu:=A7r hr;obtain ⟨du1,du2⟩:=ok.due;have t10:=ok.t1;have k12:=ok.k.1;rw [Z08] at k12;have lo:=ok.o;refine i02 _ (@A0c _ _ _ _ _ (@A0l _ _ 1 _ _ _ _ A7e.nd rfl (.inl rfl) (pcl Gc4 hr T.ni (A0a (pv 0) A0d)) rfl (.inl rfl)) (@A0c _ _ _ _ _ (@A0l _ _ 2 _ _ _ _ A7e.nd rfl (.inl rfl) (A2k (B4w rfl) (by rfl) T.nq Z2q (A0a (A1h (pv 0) rfl) A0d)) rfl (.inl rfl)) (@A0c _ _ _ _ _ (A2y PassesOwn.never rfl (A2g (pv 1)) (A0m (i:=3) A7e.nd rfl (.inl rfl)) (@A0g _ _ _ (@B0w _ _ _ _ _ _ _ _ _ hu (pv 2) (A1h (pv 3) rfl) (A1h (pv 3) rfl) rfl))) (@A0g _ _ _ (@A0s _ _ _ _ (pmk T.Ad Gc2 hr T.AG T.jk.b (A0a (A1h (pv 0) rfl) (A0a (pcl Gc3 hr T.ja (A0a (pv 0) A0d)) (A0a (pv 2) (A0a (pcl Gc5 hr T.iy (A0a (pv 0) A0d)) (A0a (pv 1) (A0a (A1h (pv 0) rfl) A0d)))))))))))) ?_;refine i02 _ rfl (i08 p wh ax (i0q tb ls os rfl pr ok λl xs H1 hl0 s1 hl1 lns=> ?_));have lxs:=Paired.length lns;obtain ⟨dx,a,tt,ll,o,e,ra,rt,_,ho⟩:=(pr.same s1).ob;obtain ⟨t2,xt,et,hxt,rst⟩:=A5g (show Rep H1 (.ref tt) (.list (tb.map C4o)) from rt);cases et;obtain ⟨kvs,pl,ar⟩:=D8f rst;have ar0:AR (λ_=>True) H1 (A4h [] kvs) (tb.foldl B8r []):=C1n .nil ar;refine i18 _ rfl p _ dx _ (.ref tt) rfl e T.bt T.eh (by walk_at "lk") (i0q tt xt kvs rfl hxt pl λad had=> ?_);generalize A4h [] kvs=kv0 at ar0;have s2:A1c H1 (upd H1 ad (.dK kv0)):=A0f had;refine i0k _ rfl l rfl ⟨_,SqL.of (s2 _ _ hl1)⟩ ?_
  refine A3f (K:=K) (a:=l) (xs:=xs) (λi Z H3=>∃(o3:Option V) (ws:List (Key×V)),Z=[Sro p,Sro l,Sro ad,o3]/\A1c H1 H3/\H3 ad=some (.dK ws)/\AR (λ_=>True) H3 ws (arP tb ((B1z ax ls).take i)))
   (i0l none kv0 rfl s2 A0b (ar0.same s2)) (λi Z H3 _ zq=>by obtain ⟨_,_,_,s3,_⟩:=zq;exact SqL.of (s3 _ _ hl1)) ?_ ?_
  ·rintro i y Z H3 hy ⟨o3,ws,rfl,s3,h3,ar3⟩;obtain ⟨le,hle,lb,db,c,u,tv,rfl,eb,hc,_⟩:=B3x lns hy;have lw:=Paired.length ar3;have eo:=D1g (tb:=tb) (z:=(B1z ax ls).take i) ok.t2 λe he=>du2 e (Z2p he);have eol:=eo.l;rw [Z0x] at eol;have hc3:=s3 _ _ hc;refine i18 _ rfl lb _ db _ (.ref c) rfl (s3 _ _ eb) T.bw T.d_ (by walk_at "lk") (i02 _ rfl (i18 _ rfl lb _ db _ (.str le.1) rfl (s3 _ _ eb) T.bw T.c_ (by walk_at "lk") (i0f ad _ rfl (C8s.k (k:=Sum.inr le.1) h3 (A1s (by lia))) ?_)));refine i0l _ _ rfl (A0r s3 had) A0b ?_;rw [D0i hle];refine D1n (e:=(le.1,le.2.1)) (c:=c) True.intro ?_ (ar3.imp λb zs _ z=>⟨True.intro,by rw [A0k (A3p z h3 (by intro w;cases w))];exact z⟩);rw [A0k (A3p hc3 h3 (by intro w;cases w))];exact hc3
  ·rintro Z H3 ⟨o3,ws,rfl,s3,h3,ar3⟩;rw [lxs,Z18] at ar3;have eo:=D1g (tb:=tb) (z:=B1z ax ls) ok.t2 du2;have eol:=eo.l;have lw:=Paired.length ar3;have s03:=s1.trans s3;refine i18 _ rfl p _ dx _ (.int wh) rfl (s3 _ _ e) T.bt T.j8 (by walk_at "lk") (i02 _ rfl (i08 p wh ax (i0q tb ls os rfl (pr.same s03) ok.nd λql hql=> ?_)));obtain ⟨G4,s4,gql,eNH⟩:=nH (o:= .dK (A2i ax)) hql
   try rw [eNH]
   refine i0e _ rfl _ rfl (i08 p wh ax (i0q tb ls os rfl (pr.same (s03.trans s4)) (by lia) λqt H5 hqt s5 h5=> ?_));have s35:=s4.trans s5;refine i02 _ rfl (i18 _ rfl p _ dx _ (.ref o) rfl (s35 _ _ (s3 _ _ e)) T.bt T.ju (by walk_at "lk") λcp dc hcp hdc hne=> ?_);have s6:A1c H5 (upd (upd H5 dc (.own cp)) cp (.ins t.aj dc [])):=A0r (A0f hdc) hcp;have g6:upd (upd H5 dc (.own cp)) cp (.ins t.aj dc []) cp=some (.ins t.aj dc []):=A0b;generalize upd (upd H5 dc (.own cp)) cp (.ins t.aj dc [])=G6 at s6 g6;have s36:=s35.trans s6;have s16:=s3.trans s36
   have ho1:H1 o=some (.lst (os.map V.str)):=by
    obtain ⟨_,e1,e2⟩:=B6a ho;cases e1;exact e2
   refine ⟨cp,(i0u dc ql ad qt l o wh (i1d (A2i ax) ws (ax.map (·.2)) _ (tb.map (·.1)) os xs _ rfl g6 (s6 _ _ (s5 _ _ gql)) (C1k ax) (by unfold A2i;rw [Z08];lia) (s36 _ _ h3) (i0h (ar3.same s36) (by lia) eo.a (s6 _ _ h5) (by rw [Z08];lia) (i0h (s16 _ _ hl1) (by lia) (λx hx=> ?_) (s16 _ _ ho1) (by lia) λl' a' t' v' o' ak' H9 hp9 nl' hl9 na' ha9 ar9 nt' ht9 nv' hv9 no' ho9 kb9=>⟨rfl,?_⟩))))⟩
   ·obtain ⟨j,hj⟩:=List.getElem?_of_mem hx;obtain ⟨le,_,x0,d0,_,_,_,rfl,e0,_⟩:=B3x lns hj;have e5:=s35 _ _ (s3 _ _ e0);exact i0m x0 d0 _ rfl (λz=>by subst z;rw [e5] at hcp;cases hcp) (s6 _ _ e5)
   have s59:A1c H5 H9:=KB.same s6 kb9 hcp;have s19:=s3.trans (s35.trans s59);exact k cp H9 (s1.trans s19) ⟨dc,wh,l',a',t',v',o',ak',xs,hp9,ha9,ar9.imp λb zs _ z=>⟨True.intro,z⟩,hv9,Paired.mapP lns λ_ _ z=>z.same s19⟩
abbrev Env:=Str->Int
def B4g (ρ:Env) (ix:List (Str×Int)):List Int:=ix.map λe=>ρ e.1+e.2
def A3d (ρ:Env):Tm->List (Str×List Int)
 | .read a ix=>[(a,B4g ρ ix)]
 | .guard x lo hi l r=>if lo<=ρ x/\ρ x<hi then A3d ρ l else A3d ρ r
 | .pair _ l r=>A3d ρ l++A3d ρ r
 | _=>[]
def inC (L:Str->Int):List Str->List Int->Prop
 | [],[]=>True
 | x::xs,c::cs=>(0<=c/\c<L x)/\inC L xs cs
 | _,_=>False
def B0f:List Int->List Int->Prop
 | a::as,b::bs=>a<b\/(a=b/\B0f as bs)
 | _,_=>False
abbrev OkP:=Env->Str->List Int->Prop
def D7y (ρ:Env) (x:Str) (i:Int):Env:=λy=>if y=x then i else ρ y
theorem B8s (ρ:Env) (x:Str):D7y ρ x (ρ x)=ρ:=by
 funext y;unfold D7y;split
 ·next h=>rw [h]
 ·rfl
def A3c (L:Str->Int) (okn:OkP):OkP->Env->Tm->Prop
 | ok,ρ,.read a ix=>ok ρ a (B4g ρ ix)
 | ok,ρ,.guard x lo hi l r=>(lo<=ρ x/\ρ x<hi->A3c L okn ok ρ l)/\(¬(lo<=ρ x/\ρ x<hi)->A3c L okn ok ρ r)
 | ok,ρ,.pair _ l r=>A3c L okn ok ρ l/\A3c L okn ok ρ r
 | _,ρ,.sum x b=>∀i,0<=i->i<L x->A3c L okn okn (D7y ρ x i) b
 | _,_,.num _=>True
 | _,_,.place _=>True
def InR (L:Str->Int) (sc:List Str) (ρ:Env):Prop:=ρ ""=0/\∀x∈sc,0<=ρ x/\ρ x<L x
def C8q (g:List Gd) (ρ:Env):Prop:=∀e∈g,(e.2.2.2=true↔(e.2.1<=ρ e.1/\ρ e.1<e.2.2.1))
def A6i (nm:List Str):List Str->Tm->Prop
 | sc,.place x=>x∈sc
 | sc,.read _ ix=>∀e∈ix,e.1=""\/e.1∈sc
 | sc,.guard x _ _ l r=>x∈sc/\A6i nm sc l/\A6i nm sc r
 | sc,.pair _ l r=>A6i nm sc l/\A6i nm sc r
 | sc,.sum x b=>x∈nm/\x∉sc/\A6i nm (sc++[x]) b
 | _,.num _=>True
def nsM:Tm->Prop
 | .sum _ _=>False
 | .pair _ l r=>nsM l/\nsM r
 | .guard _ _ _ l r=>nsM l/\nsM r
 | _=>True
def knM (L:Str->Int) (tb:List (Str×List Str)) (zs:List Ln) (a:Str) (c:List Int):Prop:=(∃e∈tb,e.1=a/\inC L e.2 c)\/∃e∈zs,e.1=a/\inC L e.2.1 c
theorem knM.mono {ys:List Ln} {a:Str} (h:knM L tb zs a c):knM L tb (zs++ys) a c:=by
 rcases h with h | ⟨e,he,h⟩
 ·exact .inl h
 ·exact .inr (i02 e (Z07.mpr (.inl he)) h)
structure E0m (L:Str->Int) (tb:List (Str×List Str)) (zs:List Ln) (e:Ln):Prop where
 ns:nsM e.2.2.2
 ti:∀nm,A6i nm (e.2.1++e.2.2.1) e.2.2.2
 lk:∀ρ:Env,InR L (e.2.1++e.2.2.1) ρ->(∀x,x∉e.2.1++e.2.2.1->ρ x=0)->∀p∈A3d ρ e.2.2.2,knM L tb zs p.1 p.2\/(p.1=e.1/\inC L e.2.1 p.2/\B0f p.2 (e.2.1.map ρ))
def B7x (L:Str->Int) (tb:List (Str×List Str)) (zs:List Ln):Prop:=∀(i:Nat) (e:Ln),zs[i]? =some e->E0m L tb (zs.take i) e
theorem B7x.snoc {e:Ln} (h:B7x L tb zs) (he:E0m L tb zs e):B7x L tb (zs++[e]):=by
 intro i f hf;by_cases hi:i<zs.length
 ·rw [Z26 hi] at hf;rw [List.take_append_of_le_length (by lia)];exact h i f hf
 ·have:i=zs.length:=by
   have:=(Z03.mp hf).1;simp at this
   lia
  subst this;rw [Z1l (Z09 _)] at hf;simp at hf;subst hf;rw [List.take_append_of_le_length (Z09 _),Z18];exact he
theorem B9n {ρ:Env} {u:Tm}:∀{g:List Gd} {p:Str×List Int},p∈A3d ρ (gdM g u)->C8q g ρ/\p∈A3d ρ u
 | [],p,h=>⟨(λe he=>by cases he),h⟩
 | (x,lo,hi,b)::g,p,h=>by
  cases b with
  | true =>
   have h:p∈(if lo<=ρ x/\ρ x<hi then A3d ρ (gdM g u) else []):=h;split at h
   ·next hc =>
    obtain ⟨h1,h2⟩:=B9n h;refine ⟨λe he=> ?_,h2⟩;rcases Z0e.mp he with rfl | he
    ·exact ⟨λ_=>hc,λ_=>rfl⟩
    ·exact h1 e he
   ·cases h
  | false =>
   have h:p∈(if lo<=ρ x/\ρ x<hi then [] else A3d ρ (gdM g u)):=h;split at h
   ·cases h
   ·next hc =>
    obtain ⟨h1,h2⟩:=B9n h;refine ⟨λe he=> ?_,h2⟩;rcases Z0e.mp he with rfl | he
    ·exact ⟨(λz=>by cases z),λz=>absurd z hc⟩
    ·exact h1 e he
theorem D3u {u:Tm} (h:nsM u):∀g:List Gd,nsM (gdM g u)
 | []=>h
 | (x,lo,hi,b)::g=>by
  have:=D3u h g
  cases b with
  | true=>exact ⟨this,True.intro⟩
  | false=>exact ⟨True.intro,this⟩
theorem D3k {nm sc:List Str} {u:Tm} (h:A6i nm sc u):∀g:List Gd,(∀e∈g,e.1∈sc)->A6i nm sc (gdM g u)
 | [],_=>h
 | (x,lo,hi,b)::g,hg=>by
  have:=D3k h g λe he=>hg e (.tail _ he)
  cases b with
  | true=>exact i00 (hg _ (.head _)) this True.intro
  | false=>exact i00 (hg _ (.head _)) True.intro this
theorem B2t {nm:List Str}:∀{u:Tm} {s:List Str} {g:List Gd} {sc:List Str},nsM u->A6i nm sc u->∀{sc':List Str},(∀x,¬x=("":Str)->x∈((prT u s g).flatMap λe=>axO e.1)->x∈sc')->(∀x∈sc,¬x=("":Str))->A6i nm sc' u
 | .num _,_,_,_,_,_,_,_,_=>True.intro
 | .place x,_,_,_,_,h,_,hc,hn=>hc x (hn x h) (by simp [prT,axO])
 | .read a ix,_,_,_,_,h,_,hc,hn=>λe he=>by
  rcases h e he with z | z
  ·exact .inl z
  ·refine .inr (hc e.1 (hn _ z) ?_);simp only [prT,List.flatMap_cons,List.flatMap_nil,Z0u];show e.1∈(ix.filter _).map _;exact Z2c.mpr (i02 e (List.mem_filter.mpr ⟨he,Z20 (hn _ z)⟩) rfl)
 | .pair k l r,s,g,_,n,h,_,hc,hn=>by
  refine ⟨B2t (s:=s) (g:=g) n.1 h.1 (λx h0 hx=>hc x h0 ?_) hn,B2t (s:=s) (g:=g) n.2 h.2 (λx h0 hx=>hc x h0 ?_) hn⟩
  ·simp only [prT,List.flatMap_cons,List.flatMap_append,Z07];exact .inr (.inl hx)
  ·simp only [prT,List.flatMap_cons,List.flatMap_append,Z07];exact .inr (.inr hx)
 | .guard y lo hi l r,s,g,_,n,h,_,hc,hn=>by
  refine i00 (hc y (hn y h.1) ?_) (B2t (s:=s) (g:=g++[(y,lo,hi,true)]) n.1 h.2.1 (λx h0 hx=>hc x h0 ?_) hn) (B2t (s:=s) (g:=g++[(y,lo,hi,false)]) n.2 h.2.2 (λx h0 hx=>hc x h0 ?_) hn)
  ·simp only [prT,List.flatMap_cons,List.flatMap_append,Z07];exact .inl (by show y∈[y];simp)
  ·simp only [prT,List.flatMap_cons,List.flatMap_append,Z07];exact .inr (.inl hx)
  ·simp only [prT,List.flatMap_cons,List.flatMap_append,Z07];exact .inr (.inr hx)
 | .sum _ _,_,_,_,n,_,_,_,_=>n.elim
theorem A9i {nm:List Str} {x:Str}:∀{u:Tm} {s:List Str} {g:List Gd} {sc:List Str},nsM u->A6i nm sc u->x∈((prT u s g).flatMap λe=>axO e.1)->x∈sc
 | .num _,_,_,_,_,_,h=>by simp [prT,axO] at h
 | .place y,_,_,_,_,t,h=>by
  have:x=y:=by simpa [prT,axO] using h
  rw [this];exact t
 | .read a ix,_,_,_,_,t,h=>by
  simp only [prT,List.flatMap_cons,List.flatMap_nil,Z0u] at h;obtain ⟨e,he,rfl⟩:=Z2c.mp (show x∈(ix.filter λe=>decide (¬e.1=("":Str))).map (·.1) from h);obtain ⟨h1,h2⟩:=List.mem_filter.mp he;exact (t e h1).resolve_left (of_decide_eq_true h2)
 | .pair k l r,_,_,_,n,t,h=>by
  simp only [prT,List.flatMap_cons,List.flatMap_append,Z07] at h;rcases h with h | h | h
  ·cases h
  ·exact A9i n.1 t.1 h
  ·exact A9i n.2 t.2 h
 | .guard y lo hi l r,_,_,_,n,t,h=>by
  simp only [prT,List.flatMap_cons,List.flatMap_append,Z07] at h;rcases h with h | h | h
  ·have:x=y:=by simpa [axO] using h
   rw [this];exact t.1
  ·exact A9i n.1 t.2.1 h
  ·exact A9i n.2 t.2.2 h
 | .sum _ _,_,_,_,n,_,_=>n.elim
theorem C4r {L:Str->Int} {ρ:Env}:∀{ys:List Str},(∀x∈ys,0<=ρ x/\ρ x<L x)->inC L ys (B4g ρ (ys.map λx=>(x,(0:Int))))
 | [],_=>True.intro
 | y::ys,h=>by
  have h1:=h y (.head _);refine ⟨?_,C4r λx hx=>h x (.tail _ hx)⟩;show 0<=ρ y+0/\ρ y+0<L y
  lia
theorem B4r {nm nm':List Str}:∀{u:Tm} {sc:List Str},nsM u->A6i nm sc u->A6i nm' sc u
 | .num _,_,_,_=>True.intro
 | .place _,_,_,h=>h
 | .read _ _,_,_,h=>h
 | .guard _ _ _ l r,_,n,h=>(i00 h.1 (B4r n.1 h.2.1) (B4r n.2 h.2.2))
 | .pair _ l r,_,n,h=>⟨B4r n.1 h.1,B4r n.2 h.2⟩
 | .sum _ _,_,n,_=>n.elim
structure WsG (L:Str->Int) (tb:List (Str×List Str)) (ok:OkP) (nm sc:List Str) (g:List Gd) (z:LS) (r:Tm×LS):Prop where
 pre:∃ys,r.2.2=z.2++ys
 all:B7x L tb r.2.2
 ns:nsM r.1
 ti:A6i nm sc r.1
 lk:∀ρ,InR L sc ρ->C8q g ρ->∀p∈A3d ρ r.1,ok ρ p.1 p.2\/knM L tb r.2.2 p.1 p.2
def okP (okn ok:OkP) (pend:List Str):OkP:=if pend=[] then ok else okn
structure WsC (L:Str->Int) (nm sc pend:List Str) (g:List Gd):Prop where
 n:∀x∈nm,¬x=("":Str)
 l:∀x∈nm,1<=L x
 s:∀x∈sc++pend,x∈nm
 g:∀e∈g,e.1∈sc
theorem B6i {nm:List Str}:x∈B6q nm pend b↔x∈nm/\x∈B9t b/\x∉pend:=by
 unfold B6q;rw [List.mem_filter];simp
theorem B8y {okn ok:OkP} {nm:List Str} (c:WsC L nm sc pend g) (hk:∀ρ a d,okn ρ a d->knM L tb z.2 a d) (h:WsG L tb (okP okn ok pend) nm (sc++pend) g z r):WsG L tb ok nm sc g z (fin nm pend g r):=by
 by_cases hp:pend=[]
 ·subst hp;have h:WsG L tb ok nm (sc++[]) g z r:=h;rw [Z0u] at h;exact h
 ·have hok:okP okn ok pend=okn:=by unfold okP;rw [Z0t hp]
  rw [hok] at h;rw [C2m hp];have nsb:=D3u h.ns g;have tib:A6i nm (sc++pend) (gdM g r.1):=D3k h.ti g λe he=>Z07.mpr (.inl (c.g e he));have hb:=h.lk
  have lkb:∀ρ,InR L (sc++pend) ρ->∀p∈A3d ρ (gdM g r.1),okn ρ p.1 p.2\/knM L tb r.2.2 p.1 p.2:=λρ hr p hp=>by
   obtain ⟨h1,h2⟩:=B9n hp;exact hb ρ hr h1 p h2
  obtain ⟨ys,hy⟩:=h.pre;have al:=h.all;clear hb h;generalize gdM g r.1=b at nsb tib lkb
  have axs:∀x∈B6q nm pend b,x∈sc:=λx hx=>by
   obtain ⟨_,h2,h3⟩:=B6i.mp hx;rcases Z07.mp (A9i nsb tib h2) with z | z
   ·exact z
   ·exact absurd z h3
  have gl:E0m L tb r.2.2 (lfL nm pend r.2.1 b):=by
   refine ⟨nsb,λnm'=>B4r nsb (B2t (s:=[]) (g:=[]) nsb tib (λx x0 hx=> ?_) λx hx=>c.n x (c.s x hx)),λρ hr h0 p hp=> .inl ?_⟩
   ·by_cases hq:x∈pend
    ·exact Z07.mpr (.inr hq)
    ·exact Z07.mpr (.inl (B6i.mpr (i00 (c.s x (A9i nsb tib hx)) hx hq)))
   ·have hin:InR L (sc++pend) ρ:=by
     refine ⟨hr.1,λx hx=> ?_⟩;by_cases hq:x∈B6q nm pend b++pend
     ·exact hr.2 x hq
     ·rw [h0 x hq];have:=c.l x (c.s x hx)
      lia
    rcases lkb ρ hin p hp with z | z
    ·have:=hk ρ _ _ z;rw [hy];exact this.mono
    ·exact z
  refine ⟨⟨ys++[lfL nm pend r.2.1 b],by show r.2.2++_=_;rw [hy,Z0z]⟩,al.snoc gl,True.intro,λe he=> ?_,λρ hr _ p hp=> .inr ?_⟩
  ·obtain ⟨x,hx,rfl⟩:=Z2c.mp he;exact .inr (axs x hx)
  ·have hp:p=(sN r.2.1,B4g ρ ((B6q nm pend b).map λx=>(x,(0:Int)))):=Z0w.mp hp;rw [hp];exact .inr (i06 (lfL nm pend r.2.1 b) (Z07.mpr (.inr (.head _))) rfl (C4r λx hx=>hr.2 x (axs x hx)))
theorem C8q.add {ρ:Env} {b:Bool}:C8q (g++[(x,lo,hi,b)]) ρ↔C8q g ρ/\(b=true↔(lo<=ρ x/\ρ x<hi)):=by
 constructor
 ·intro h;exact ⟨λe he=>h e (Z07.mpr (.inl he)),h _ (Z07.mpr (.inr (.head _)))⟩
 ·rintro ⟨h1,h2⟩ e he;rcases Z07.mp he with he | he
  ·exact h1 e he
  ·rw [Z0w.mp he];exact h2
theorem B2w {okn ok:OkP}:okP okn ok []=ok:=Z12 rfl
theorem C4d {L:Str->Int} {tb:List (Str×List Str)} {okn:OkP} {nm:List Str}:∀(u:Tm) (ok:OkP) (sc pend:List Str) (g:List Gd) (z:LS),WsC L nm sc pend g->(∀ρ a d,okn ρ a d->knM L tb z.2 a d)->(∀ρ,InR L (sc++pend) ρ->C8q g ρ->A3c L okn (okP okn ok pend) ρ u)->A6i nm (sc++pend) u->B7x L tb z.2->WsG L tb ok nm sc g z (wsP nm u pend g z)
 | .num n,ok,sc,pend,g,z,c,hk,hs,ti,al=>B8y c hk (r:=(.num n,z)) ⟨⟨[],(Z0u _).symm⟩,al,True.intro,True.intro,λρ _ _ p hp=>by cases hp⟩
 | .place x,ok,sc,pend,g,z,c,hk,hs,ti,al=>B8y c hk (r:=(.place x,z)) ⟨⟨[],(Z0u _).symm⟩,al,True.intro,ti,λρ _ _ p hp=>by cases hp⟩
 | .read a ix,ok,sc,pend,g,z,c,hk,hs,ti,al=>B8y c hk (r:=(.read a ix,z)) ⟨⟨[],(Z0u _).symm⟩,al,True.intro,ti,λρ hr hg p hp=>by rw [Z0w.mp hp];exact .inl (hs ρ hr hg)⟩
 | .sum x b,ok,sc,pend,g,z,c,hk,hs,ti,al=>by
  have e:sc++(pend++[x])=sc++pend++[x]:=(Z0z _ _ _).symm;have eo:okP okn ok (pend++[x])=okn:=by unfold okP;rw [Z0t (by simp)]
  refine C4d b ok sc (pend++[x]) g z ⟨c.n,c.l,λy hy=> ?_,c.g⟩ hk (λρ hr hg=> ?_) (by rw [e];exact ti.2.2) al
  ·rw [e] at hy;rcases Z07.mp hy with hy | hy
   ·exact c.s y hy
   ·rw [Z0w.mp hy];exact ti.1
  ·rw [eo];rw [e] at hr;have hx:=hr.2 x (by simp);have h:=hs ρ ⟨hr.1,λy hy=>hr.2 y (Z07.mpr (.inl hy))⟩ hg (ρ x) hx.1 hx.2;rw [B8s] at h;exact h
 | .pair k l r,ok,sc,pend,g,z,c,hk,hs,ti,al=>by
  have c2:WsC L nm (sc++pend) [] g:=⟨c.n,c.l,λy hy=>c.s y (by rw [Z0u] at hy;exact hy),λe he=>Z07.mpr (.inl (c.g e he))⟩;have a:=C4d (L:=L) (tb:=tb) (okn:=okn) l (okP okn ok pend) (sc++pend) [] g z c2 hk (λρ hr hg=>by rw [Z0u] at hr;rw [B2w];exact (hs ρ hr hg).1) (by rw [Z0u];exact ti.1) al;obtain ⟨ya,ea⟩:=a.pre;have b:=C4d (L:=L) (tb:=tb) (okn:=okn) r (okP okn ok pend) (sc++pend) [] g (wsP nm l [] g z).2 c2 (λρ a d h=>by rw [ea];exact (hk ρ a d h).mono) (λρ hr hg=>by rw [Z0u] at hr;rw [B2w];exact (hs ρ hr hg).2) (by rw [Z0u];exact ti.2) a.all;obtain ⟨yb,eb⟩:=b.pre;refine B8y c hk (r:=(.pair k _ _,_)) ⟨⟨ya++yb,by rw [eb,ea,Z0z]⟩,b.all,⟨a.ns,b.ns⟩,⟨a.ti,b.ti⟩,λρ hr hg p hp=> ?_⟩;rcases Z07.mp hp with hp | hp
  ·refine (a.lk ρ hr hg p hp).imp id λh=> ?_;rw [eb];exact h.mono
  ·exact b.lk ρ hr hg p hp
 | .guard x lo hi l r,ok,sc,pend,g,z,c,hk,hs,ti,al=>by
  have c2:∀b:Bool,WsC L nm (sc++pend) [] (g++[(x,lo,hi,b)]):=λb=>by
   refine ⟨c.n,c.l,λy hy=>c.s y (by rw [Z0u] at hy;exact hy),λe he=> ?_⟩;rcases Z07.mp he with he | he
   ·exact Z07.mpr (.inl (c.g e he))
   ·rw [Z0w.mp he];exact ti.1
  have a:=C4d (L:=L) (tb:=tb) (okn:=okn) l (okP okn ok pend) (sc++pend) [] (g++[(x,lo,hi,true)]) z (c2 true) hk (λρ hr hg=>by rw [Z0u] at hr;rw [B2w];obtain ⟨g1,g2⟩:=C8q.add.mp hg;exact (hs ρ hr g1).1 (g2.mp rfl)) (by rw [Z0u];exact ti.2.1) al;obtain ⟨ya,ea⟩:=a.pre;have b:=C4d (L:=L) (tb:=tb) (okn:=okn) r (okP okn ok pend) (sc++pend) [] (g++[(x,lo,hi,false)]) (wsP nm l [] (g++[(x,lo,hi,true)]) z).2 (c2 false) (λρ a d h=>by rw [ea];exact (hk ρ a d h).mono) (λρ hr hg=>by rw [Z0u] at hr;rw [B2w];obtain ⟨g1,g2⟩:=C8q.add.mp hg;exact (hs ρ hr g1).2 λz=>absurd (g2.mpr z) (by decide)) (by rw [Z0u];exact ti.2.2) a.all;obtain ⟨yb,eb⟩:=b.pre;refine B8y c hk (r:=(.guard x lo hi _ _,_)) ⟨⟨ya++yb,by rw [eb,ea,Z0z]⟩,b.all,⟨a.ns,b.ns⟩,(i00 ti.1 a.ti b.ti),λρ hr hg p hp=> ?_⟩;by_cases hc:lo<=ρ x/\ρ x<hi
  ·have hp:p∈(if lo<=ρ x/\ρ x<hi then A3d ρ (wsP nm l [] (g++[(x,lo,hi,true)]) z).1 else _):=hp;rw [Z12 hc] at hp;refine (a.lk ρ hr (C8q.add.mpr ⟨hg,λ_=>hc,λ_=>rfl⟩) p hp).imp id λh=> ?_;rw [eb];exact h.mono
  ·have hp:p∈(if lo<=ρ x/\ρ x<hi then _ else A3d ρ (wsP nm r [] (g++[(x,lo,hi,false)]) (wsP nm l [] (g++[(x,lo,hi,true)]) z).2).1):=hp;rw [Z0t hc] at hp;exact b.lk ρ hr (C8q.add.mpr ⟨hg,(λz=>by cases z),λz=>absurd z hc⟩) p hp
def A1r (L:Str->Int):List Str->Int
 | []=>1
 | x::xs=>L x*A1r L xs
theorem A4j {L:Str->Int}:∀xs ys:List Str,A1r L (xs++ys)=A1r L xs*A1r L ys
 | [],ys=>(Int.one_mul _).symm
 | x::xs,ys=>by
  show L x*A1r L (xs++ys)=L x*A1r L xs*A1r L ys;rw [A4j xs ys,Int.mul_assoc]
theorem A3v {L:Str->Int}:∀{xs:List Str},(∀x∈xs,1<=L x)->1<=A1r L xs
 | [],_=>Int.le_refl 1
 | x::xs,h=>by
  have h1:=h x (.head _);have h2:=A3v λy hy=>h y (.tail _ hy);have:=Int.mul_le_mul h1 h2 (by lia) (by lia);show 1<=L x*A1r L xs
  lia
theorem B5u {L:Str->Int}:∀{ax sc:List Str},ax.Nodup->(∀x∈ax,x∈sc)->(∀x∈sc,1<=L x)->A1r L ax<=A1r L sc
 | [],sc,_,_,h=>A3v h
 | x::ax,sc,n,hs,h=>by
  obtain ⟨n1,n2⟩:=Z15.mp n;obtain ⟨s1,s2,rfl⟩:=List.append_of_mem (hs x (.head _))
  have e:A1r L (s1++x::s2)=L x*A1r L (s1++s2):=by
   rw [A4j,A4j];show A1r L s1*(L x*A1r L s2)=L x*(A1r L s1*A1r L s2);rw [Int.mul_left_comm]
  rw [e];refine Z29 (B5u n2 (λy hy=> ?_) λy hy=>h y ?_) (by have:=h x (by simp);lia)
  ·have:=hs y (.tail _ hy);rcases Z07.mp this with z | z
   ·exact Z07.mpr (.inl z)
   ·rcases Z0e.mp z with z | z
    ·rw [z] at hy;exact absurd hy n1
    ·exact Z07.mpr (.inr z)
  ·rcases Z07.mp hy with z | z
   ·exact Z07.mpr (.inl z)
   ·exact Z07.mpr (.inr (.tail _ z))
def wtM (L:Str->Int):Tm->Int
 | .sum x b=>1+L x*wtM L b
 | .pair _ l r=>1+wtM L l+wtM L r
 | .guard _ _ _ l r=>1+wtM L l+wtM L r
 | _=>1
def stp (L:Str->Int) (e:Ln):Int:=A1r L e.2.1*(A1r L e.2.2.1+(if e.2.2.1=[] then 0 else 1))
def A7o (L:Str->Int):List Ln->Int
 | []=>0
 | e::es=>stp L e+A7o L es
theorem B1u {L:Str->Int}:∀xs ys:List Ln,A7o L (xs++ys)=A7o L xs+A7o L ys
 | [],ys=>(Int.zero_add _).symm
 | x::xs,ys=>by
  show stp L x+A7o L (xs++ys)=stp L x+A7o L xs+A7o L ys;rw [B1u xs ys,Int.add_assoc]
theorem B4x {nm:List Str} (c:WsC L nm sc pend g) (hn:nsM r.1) (ht:A6i nm (sc++pend) r.1):(nsM (fin nm pend g r).1/\A6i nm sc (fin nm pend g r).1)/\∀x∈B6q nm pend (gdM g r.1),x∈sc:=by
 have nsb:=D3u hn g;have tib:A6i nm (sc++pend) (gdM g r.1):=D3k ht g λe he=>Z07.mpr (.inl (c.g e he))
 have axs:∀x∈B6q nm pend (gdM g r.1),x∈sc:=λx hx=>by
  obtain ⟨_,h2,h3⟩:=B6i.mp hx;rcases Z07.mp (A9i nsb tib h2) with z | z
  ·exact z
  ·exact absurd z h3
 refine ⟨?_,axs⟩;by_cases hp:pend=[]
 ·subst hp;rw [Z0u] at ht;exact ⟨hn,ht⟩
 ·rw [C2m hp];refine ⟨True.intro,λe he=> ?_⟩;obtain ⟨x,hx,rfl⟩:=Z2c.mp he;exact .inr (axs x hx)
def bdM (L:Str->Int) (sc pend:List Str) (u:Tm):Int:=if pend=[] then A1r L sc*(wtM L u-(if isS u=true then 0 else 1)) else A1r L sc*(1+A1r L pend*wtM L u)
theorem B6t {nm:List Str} (c:WsC L nm sc pend g) (nd:nm.Nodup) (hn:nsM r.1) (ht:A6i nm (sc++pend) r.1) (hS:isS u=false) (h:A7o L r.2.2<=A7o L z.2+A1r L (sc++pend)*(wtM L u-1)):A7o L (fin nm pend g r).2.2<=A7o L z.2+bdM L sc pend u:=by
 obtain ⟨_,axs⟩:=B4x c hn ht;unfold bdM;by_cases hp:pend=[]
 ·subst hp;rw [Z0u] at h;rw [Z12 rfl,hS,Z0t (by decide)];exact h
 ·rw [Z0t hp,C2m hp];show A7o L (r.2.2++[lfL nm pend r.2.1 (gdM g r.1)])<=_;rw [B1u]
  have e1:A7o L [lfL nm pend r.2.1 (gdM g r.1)]=A1r L (B6q nm pend (gdM g r.1))*(A1r L pend+1):=by
   show stp L _+0=_;rw [Int.add_zero];unfold stp lfL;rw [Z0t hp]
  rw [e1];have l1:∀x∈sc,1<=L x:=λx hx=>c.l x (c.s x (Z07.mpr (.inl hx)));have l2:∀x∈pend,1<=L x:=λx hx=>c.l x (c.s x (Z07.mpr (.inr hx)));have h1:=B5u (L:=L) (nd.filter _) axs l1;have h2:=A3v l2;have h3:=Int.mul_le_mul_of_nonneg_right h1 (show 0<=A1r L pend+1 by lia);rw [A4j] at h;generalize A1r L sc=a at h h3;generalize A1r L pend=b at h h3;generalize wtM L u=w at h;have h3:A1r L (B6q nm pend (gdM g r.1))*(b+1)<=a*(b+1):=h3;have e2:a*b*(w-1)+a*(b+1)=a*(1+b*w):=by grind
  lia
theorem D0g (h:∀x∈sc,1<=L x):bdM L sc [] u<=A1r L sc*wtM L u:=by
 unfold bdM;rw [Z12 rfl];have:=A3v h;refine Z29 ?_ (by lia);split <;> lia
theorem C4l {L:Str->Int} {nm:List Str} (nd:nm.Nodup):∀(u:Tm) (sc pend:List Str) (g:List Gd) (z:LS),WsC L nm sc pend g->A6i nm (sc++pend) u->(nsM (wsP nm u pend g z).1/\A6i nm sc (wsP nm u pend g z).1)/\A7o L (wsP nm u pend g z).2.2<=A7o L z.2+bdM L sc pend u
 | .num n,sc,pend,g,z,c,ti=>⟨(B4x c (r:=(.num n,z)) True.intro True.intro).1,B6t c nd (r:=(.num n,z)) (u:= .num n) True.intro True.intro rfl (by show A7o L z.2<=A7o L z.2+A1r L (sc++pend)*(1-1);rw [Int.sub_self,Int.mul_zero];lia)⟩
 | .place x,sc,pend,g,z,c,ti=>⟨(B4x c (r:=(.place x,z)) True.intro ti).1,B6t c nd (r:=(.place x,z)) (u:= .place x) True.intro ti rfl (by show A7o L z.2<=A7o L z.2+A1r L (sc++pend)*(1-1);rw [Int.sub_self,Int.mul_zero];lia)⟩
 | .read a ix,sc,pend,g,z,c,ti=>⟨(B4x c (r:=(.read a ix,z)) True.intro ti).1,B6t c nd (r:=(.read a ix,z)) (u:= .read a ix) True.intro ti rfl (by show A7o L z.2<=A7o L z.2+A1r L (sc++pend)*(1-1);rw [Int.sub_self,Int.mul_zero];lia)⟩
 | .sum x b,sc,pend,g,z,c,ti=>by
  have e:sc++(pend++[x])=sc++pend++[x]:=(Z0z _ _ _).symm
  have c2:WsC L nm sc (pend++[x]) g:=by
   refine ⟨c.n,c.l,λy hy=> ?_,c.g⟩;rw [e] at hy;rcases Z07.mp hy with hy | hy
   ·exact c.s y hy
   ·rw [Z0w.mp hy];exact ti.1
  obtain ⟨h1,h2⟩:=C4l nd b sc (pend++[x]) g z c2 (by rw [e];exact ti.2.2);refine ⟨h1,Int.le_trans h2 ?_⟩;have l1:∀x∈sc,1<=L x:=λx hx=>c.l x (c.s x (Z07.mpr (.inl hx)));have l2:∀x∈pend,1<=L x:=λx hx=>c.l x (c.s x (Z07.mpr (.inr hx)));have p1:=A3v l1;have p2:=A3v l2;have e2:A1r L (pend++[x])=A1r L pend*L x:=by rw [A4j];show A1r L pend*(L x*1)=_;rw [Int.mul_one]
  unfold bdM;rw [Z0t (show¬pend++[x]=[] by simp),e2];have ew:wtM L (.sum x b)=1+L x*wtM L b:=rfl;rw [ew];generalize wtM L b=w;by_cases hp:pend=[]
  ·rw [Z12 hp,Z12 (show isS (.sum x b)=true from rfl),hp];show A7o L z.2+A1r L sc*(1+1*L x*w)<=_;rw [Int.one_mul,Int.sub_zero];exact Int.le_refl _
  ·rw [Z0t hp];generalize A1r L sc=a at p1;generalize A1r L pend=d at p2;generalize L x=l;have e3:a*(1+d*(1+l*w))=a*(1+d*l*w)+a*d:=by grind
   have e4:=Int.mul_le_mul p1 p2 (by lia) (by lia)
   lia
 | .pair k l r,sc,pend,g,z,c,ti=>by
  have c2:WsC L nm (sc++pend) [] g:=⟨c.n,c.l,λy hy=>c.s y (by rw [Z0u] at hy;exact hy),λe he=>Z07.mpr (.inl (c.g e he))⟩;have ll:∀x∈sc++pend,1<=L x:=λx hx=>c.l x (c.s x hx);obtain ⟨⟨a1,a2⟩,a3⟩:=C4l nd l (sc++pend) [] g z c2 (by rw [Z0u];exact ti.1);obtain ⟨⟨b1,b2⟩,b3⟩:=C4l nd r (sc++pend) [] g (wsP nm l [] g z).2 c2 (by rw [Z0u];exact ti.2);have a4:=D0g (u:=l) ll;have b4:=D0g (u:=r) ll;refine ⟨(B4x c (r:=(.pair k _ _,_)) ⟨a1,b1⟩ ⟨a2,b2⟩).1,B6t c nd (r:=(.pair k _ _,_)) (u:= .pair k l r) ⟨a1,b1⟩ ⟨a2,b2⟩ rfl ?_⟩;show A7o L (wsP nm r [] g (wsP nm l [] g z).2).2.2<=A7o L z.2+A1r L (sc++pend)*(1+wtM L l+wtM L r-1);rw [show 1+wtM L l+wtM L r-1=wtM L l+wtM L r by lia,Int.mul_add]
  lia
 | .guard x lo hi l r,sc,pend,g,z,c,ti=>by
  have c2:∀b:Bool,WsC L nm (sc++pend) [] (g++[(x,lo,hi,b)]):=λb=>by
   refine ⟨c.n,c.l,λy hy=>c.s y (by rw [Z0u] at hy;exact hy),λe he=> ?_⟩;rcases Z07.mp he with he | he
   ·exact Z07.mpr (.inl (c.g e he))
   ·rw [Z0w.mp he];exact ti.1
  have ll:∀x∈sc++pend,1<=L x:=λx hx=>c.l x (c.s x hx);obtain ⟨⟨a1,a2⟩,a3⟩:=C4l nd l (sc++pend) [] (g++[(x,lo,hi,true)]) z (c2 true) (by rw [Z0u];exact ti.2.1);obtain ⟨⟨b1,b2⟩,b3⟩:=C4l nd r (sc++pend) [] (g++[(x,lo,hi,false)]) (wsP nm l [] (g++[(x,lo,hi,true)]) z).2 (c2 false) (by rw [Z0u];exact ti.2.2);have a4:=D0g (u:=l) ll;have b4:=D0g (u:=r) ll;refine ⟨(B4x c (r:=(.guard x lo hi _ _,_)) ⟨a1,b1⟩ (i00 ti.1 a2 b2)).1,B6t c nd (r:=(.guard x lo hi _ _,_)) (u:= .guard x lo hi l r) ⟨a1,b1⟩ (i00 ti.1 a2 b2) rfl ?_⟩;show A7o L (wsP nm r [] (g++[(x,lo,hi,false)]) (wsP nm l [] (g++[(x,lo,hi,true)]) z).2).2.2<=A7o L z.2+A1r L (sc++pend)*(1+wtM L l+wtM L r-1);rw [show 1+wtM L l+wtM L r-1=wtM L l+wtM L r by lia,Int.mul_add]
  lia
theorem A7c {α:Type} {f:α->V} {xs:List α} (h:(xs.map f)[i]? =some v):∃x,xs[i]? =some x/\v=f x:=by
 rw [Z1z] at h
 cases e:xs[i]? with
 | none=>rw [e] at h;cases h
 | some x=>rw [e] at h;exact i02 x rfl ((Z1a h).symm)
def B4d:Sp:=λvs H Q _=>∃r:Int,vs=[.int r]/\∀z:Int,Sm z->Q (.int z) H
def B1j (lk:List (Key×V)) (nm:List Str):Prop:=∀y∈nm,∃n:Int,A9o lk (Sum.inr y)=some (.int n)/\1<=n/\n<=60
inductive A8q (lk:List (Key×V)):List Str->Int->Prop
 | nil:A8q lk [] 1
 | snoc {ys:List Str} {y:Str} {z n:Int}:A8q lk ys z->A9o lk (Sum.inr y)=some (.int n)->A8q lk (ys++[y]) (z*n)
def C5y:Sp:=λvs H Q _=>∃(l d:Addr) (ys:List Str) (lk:List (Key×V)),vs=[.ref l,.ref d]/\H l=some (.lst (ys.map V.str))/\H d=some (.dK lk)/\B1j lk ys/\∀(z:Int),1<=z->A8q lk ys z->Q (.int z) H
def B7p:Sp:=λvs H Q _=>∃(r most:Int) (g d:Addr) (nm:List Str) (lk:List (Key×V)),vs=[.int r,.ref g,.ref d,.int most]/\H g=some (.lst (nm.map V.str))/\nm.length<=1000/\H d=some (.dK lk)/\B1j lk nm/\
 ∀(l:Addr) (ys:List Str) (H':Hp),H l=none->A1c H H'->H' l=some (.lst (ys.map V.str))->(∀y∈ys,y∈nm)->ys.length<=3->(ys≠[]->∃z,A8q lk ys z/\z<=most)->ys.Nodup->Q (.ref l) H'
theorem C1i {k:Key}:(kvs.map (·.1)).Nodup->kvs[i]? =some (k,v)->A9o kvs k=some v:=by
 induction kvs generalizing i with
 | nil=>intro _ h;simp at h
 | cons p r ih =>
  intro n h;have n:(p.1::r.map (·.1)).Nodup:=n;obtain ⟨n1,n2⟩:=Z15.mp n
  cases i with
  | zero =>
   simp at h;subst h;exact B2d rfl
  | succ j =>
   have h:r[j]? =some (k,v):=by simpa using h
   rw [B1w (λe=>n1 (by rw [e];exact Z2c.mpr (i02 _ (Z13 h) rfl)))];exact ih n2 h
theorem C2f {k:Key} (h:A9o kvs k=some v):∃p∈kvs,p.1=k/\p.2=v:=by
 unfold A9o at h;obtain ⟨p,hp,e⟩:=Z0i.mp h;have:=List.find?_some hp;exact i06 p (List.mem_of_find?_eq_some hp) (of_decide_eq_true this) e
def B7q (K:Frag):Sp:=λvs H Q _=>∃(a:Addr) (ns:List Int) (k:Int),vs=[.ref a,.int k]/\SqL K H a (ns.map V.int)/\0<=k/\∀z:Int,Q (.int z) H
def Dsc (pre suf:Str) (F:Int) (j:Nat) (x:Str):Prop:=∃ch,abc.cps.toList[((F+(j:Int))%26).toNat]? =some ch/\(x=pre++⟨#[ch]⟩++suf\/x=pre++⟨#[ch]⟩++suf++"s")
theorem C7u:abc.cps.toList.Nodup:=by decide +kernel
theorem B6f (h:x=y):x.cps.toList=y.cps.toList:=by rw [h]
theorem D1y (a b c:Str):(a++b++c).cps.toList=a.cps.toList++b.cps.toList++c.cps.toList:=by rw [Str.cps_append,Array.toList_append,Str.cps_append,Array.toList_append]
theorem D7z {pre suf:Str} {F:Int} {j:Nat} (hi:i<26) (hj:j<26) (hx:Dsc pre suf F i x) (hy:Dsc pre suf F j y) (ne:i≠j):x≠y:=by
 obtain ⟨c,h1,h2⟩:=hx;obtain ⟨d,h3,h4⟩:=hy
 have cd:c≠d:=λz=>by
  subst z;have a1:=(Z03.mp h1).1;have a2:=(Z03.mp h3).1;have:=(List.getElem?_inj a1 C7u).mp (h1.trans h3.symm)
  lia
 have l1:(⟨#[c]⟩:Str).cps.toList=[c]:=rfl;have l2:(⟨#[d]⟩:Str).cps.toList=[d]:=rfl
 have core:pre.cps.toList++[c]++suf.cps.toList≠pre.cps.toList++[d]++suf.cps.toList:=λz=>by
  rw [Z0z,Z0z] at z;have:=List.append_cancel_left z;injection this with z1 z2;exact cd z1
 have ls:("s":Str).cps.toList.length=1:=by decide +kernel
 intro e;rcases h2 with rfl | rfl <;> rcases h4 with rfl | rfl
 ·have:=B6f e;rw [D1y,D1y,l1,l2] at this;exact core this
 ·have:=congrArg List.length (B6f e);rw [Str.cps_append _ ("s":Str),Array.toList_append,D1y,D1y,l1,l2] at this;simp only [Z06,Z0y,Z2g,ls] at this
  lia
 ·have:=congrArg List.length (B6f e);rw [Str.cps_append _ ("s":Str),Array.toList_append,D1y,D1y,l1,l2] at this;simp only [Z06,Z0y,Z2g,ls] at this
  lia
 ·have:=B6f e;rw [Str.cps_append _ ("s":Str),Array.toList_append,Str.cps_append _ ("s":Str),Array.toList_append,D1y,D1y,l1,l2] at this;exact core (List.append_cancel_right this)
theorem C7x {pre suf:Str} {F:Int} {nm:List Str} (hn:n<=26) (h:Paired (Dsc pre suf F) (List.range n) nm):nm.Nodup:=by
 have hl:=Paired.length h;rw [List.length_range] at hl;refine List.pairwise_iff_getElem.mpr λi j hi hj hij=> ?_;obtain ⟨a,ha,ra⟩:=A6s h (Z0b hi);obtain ⟨b,hb,rb⟩:=A6s h (Z0b hj);rw [List.getElem?_range (by lia)] at ha hb;cases ha;cases hb;exact D7z (by lia) (by lia) ra rb (by lia)
def NmG (x:Str):Prop:=∀c∈x.cps.toList,97<=c
theorem D5r:∀c∈abc.cps.toList,97<=c:=by decide +kernel
theorem NmG.app (hx:NmG x) (hy:NmG y):NmG (x++y):=by
 intro c hc;rw [Str.cps_append,Array.toList_append] at hc;rcases Z07.mp hc with h | h
 ·exact hx c h
 ·exact hy c h
theorem NmG.one {c:Nat} (h:97<=c):NmG ⟨#[c]⟩:=by
 intro d hd;simp at hd
 lia
theorem NmG.slice {l u:Option Int} (hx:NmG x):NmG (Txt.slice x l u):=by
 unfold Txt.slice;split
 ·exact hx
 ·intro c hc;simp only [List.mem_filterMap] at hc;obtain ⟨i,_,hi⟩:=hc;refine hx c ?_;rw [Array.getElem?_toList.symm] at hi;exact Z13 hi
def B5r:Sp:=λvs H Q _=>∃c o:Int,vs=[.int c,.int o,.int 22]/\∀(p:Addr) (nm:List Str) (H':Hp),H p=none->A1c H H'->H' p=some (.lst (nm.map V.str))->nm.length=22->(∀x∈nm,B3y x/\1<=x.length)->nm.Nodup->(∀x∈nm,NmG x)->Q (.ref p) H'
theorem D6s {nm:List Str} (n:nm.Nodup) (h:nm[i]? =some y) (ks:ws.map (·.1)=(nm.take i).map λx=>(Sum.inr x:Key)) (u:V):A9y ws (Sum.inr y) u=ws++[(Sum.inr y,u)]:=by
 have nd:((nm.map λx=>(x,([]:List Str))).map (·.1)).Nodup:=by rw [List.map_map,show ((λx:Str×List Str=>x.1)∘λx=>(x,([]:List Str)))=id from rfl,List.map_id];exact n
 exact D5a (es:=nm.map λx=>(x,([]:List Str))) (e:=(y,[])) nd (by rw [Z1z,h];rfl) (by rw [ks,<-List.map_take,List.map_map];rfl) u
def C3w:Sp:=λvs H Q _=>∃c k:Int,vs=[.int c,.int k]/\0<=k/\k<=1000/\∀z:Int,Q (.int z) H
def C7m:Sp:=λvs H Q _=>∃c k:Int,vs=[.int c,.int k]/\0<=k/\k<=1000/\∀z:Int,Q (.int z) H
theorem A6c (T:Txt K mg t):FO P w base T.bh 1 (B7q K):=by
 refine T.bh.F.ok B9a (by walk_at "ln") λ_ A _ s H _ Q E hr h=> ?_
 ·obtain ⟨a,ns,k,rfl,hS,k0,q⟩:=h;refine i02 _ (@A0c _ _ _ _ _ (@A1v _ _ _ _ _ _ _ _ (A0q B5e (pv 1) (A0u A0v (by rfl) T.b_ Z0r (A0a (pv 0) A0d)) (A1a _)) (@A0g _ _ _ (@A0s _ _ _ _ (A1f A1p (pv 0) (pv 1) (λ_ _=>rfl)))) A0x) (@A0g _ _ _ (@A0s _ _ _ _ (A0o A2h (A0o A7n A0e (pv 1)) A0e)))) ?_;refine i0w _ rfl _ rfl a _ rfl (.inl hS) (i0p _ _ rfl rfl _ rfl ?_);refine A4v (λhk=> ?_) (λ_=>(i02 _ rfl (i10 _ _ rfl rfl (.inl ⟨by decide,by decide⟩) _ _ rfl rfl (q _))));obtain ⟨z,_,e⟩:=A5o (f:=V.int) (xs:=ns) k0 (by simpa using hk);exact i17 _ rfl _ rfl a _ _ _ rfl rfl hS e (q _)
theorem B5k (T:Txt K mg t):FO P w base T.jh 1 B5r:=by
 refine T.jh.F.ok A1y (by walk_at "ln") λ_ A _ s H _ Q E hr h=> ?_
 ·obtain ⟨c,o,rfl,k⟩:=h;refine i02 _ (@A0c _ _ _ _ _ (@A0l _ _ 3 _ _ _ _ A1y.nd rfl (.inl rfl) A1m rfl (.inl rfl)) (@A0c _ _ _ _ _ (@A0l _ _ 4 _ _ _ _ A1y.nd rfl (.inl rfl) A1m rfl (.inl rfl)) (@A0c _ _ _ _ _ (@A0l _ _ 5 _ _ _ _ A1y.nd rfl (.inl rfl) (A0o A1t (pv 0) A0e) rfl (.inl rfl)) (@A0c _ _ _ _ _ (A2y PassesOwn.never rfl (A4d rfl T.dw (A0a (A0o A2h A0e (A0o A1w (pv 0) A0e)) A0d)) (A0m (i:=6) A1y.nd rfl (.inl rfl)) (@A0c _ _ _ _ _ (@A0l _ _ 4 _ _ _ _ A1y.nd rfl (.inl rfl) (A0o A8n (pv 4) (A1f C5e (pv 3) (A0o A1w (pv 5) A0e) (λ_ _=>rfl))) rfl (.inl rfl)) (@A0g _ _ _ (@A0l _ _ 5 _ _ _ _ A1y.nd rfl (.inl rfl) (A0o A1t (pv 5) A0e) rfl (.inl rfl))))) (@A0c _ _ _ _ _ (@A0l _ _ 7 _ _ _ _ A1y.nd rfl (.inl rfl) (A0o A1w (pv 1) (A0u B7f (by rfl) T.b_ Z0r (A0a (pv 4) A0d))) rfl (.inl rfl)) (@A0c _ _ _ _ _ (@A0l _ _ 8 _ _ _ _ A1y.nd rfl (.inl rfl) (@A1z _ _ _ _ A0d) rfl (.inl rfl)) (@A0c _ _ _ _ _ (A2y PassesOwn.never rfl (A4d rfl T.dw (A0a (pv 2) A0d)) (A0m (i:=6) A1y.nd rfl (.inl rfl)) (@A0c _ _ _ _ _ (@A0l _ _ 9 _ _ _ _ A1y.nd rfl (.inl rfl) (A1f C5e (pv 3) (A0o A1w (A0o A2h (A7p PySem.F.plainAttrs_str PySem.F.slot_str_find PySem.F.type_str_find D3a (pv 3) (A0a (A1f C5e (pv 4) (pv 7) (λ_ _=>rfl)) A0d)) (pv 6)) A0e) (λ_ _=>rfl)) rfl (.inl rfl)) (@A0c _ _ _ _ _ (@A0l _ _ 10 _ _ _ _ A1y.nd rfl (.inl rfl) (A0o A8n (A0o A8n (B1x D0z (pv 4) C0d (B2m (pv 7))) (pv 9)) (B1x D0z (pv 4) (B2m (A0o A2h (pv 7) A0e)) C0d)) rfl (.inl rfl)) (@A5h _ _ _ _ _ (@A1v _ _ _ _ _ _ _ _ (PW.pt (A8z (A0q A2x (pv 10) A1m (A1a _)) (A8d (A0q A2x (pv 10) A1m (A1a _))))) (@A0g _ _ _ (@A0l _ _ 10 _ _ _ _ A1y.nd rfl (.inl rfl) (A0o A8n (pv 10) A1m) rfl (.inl rfl))) A0x) (@A0g _ _ _ (A3n (A7p Z0k Z0n Z0o A2l (pv 8) (A0a (pv 10) A0d)))))))) (@A0g _ _ _ (@A0s _ _ _ _ (pv 8)))))))))) ?_;have c1:1<=1+c%8/\1+c%8<=8:=by lia
  refine i0n _ rfl _ _ rfl rfl (i05 ⟨by decide,by decide⟩ _ rfl (i10 _ _ rfl rfl D8y _ _ rfl rfl (i0c _ rfl (by lia) (by lia) ?_)))
  refine A4q (n:=(1+c%8).toNat) (λi Z H2=>H=H2/\∃(wd:Str) (r:Int) (o5:Option V),Z=[Sio c,Sio o,Sio 22,Sso abc,Sso wd,Sio r,o5,none,none,none,none]/\wd.length=i/\PyData.strOk wd=true/\NmG wd)
   ⟨rfl,(i0q _ _ none rfl rfl (by decide +kernel) (λc hc=>by cases hc))⟩ ?_ ?_
  ·rintro i Z H2 hi ⟨rfl,wd,r,o5,rfl,hl,ho,hg⟩;obtain ⟨ch,e1,e2⟩:=B8w (xs:=abc.cps.toList) (i:=r%26) (by lia) (by rw [C8j];lia);have hc:ch<0x110000:=D1i ch (Z13 e1);have l1:(⟨#[ch]⟩:Str).length=1:=rfl;refine i12 _ rfl _ rfl _ rfl _ _ rfl rfl ⟨D7q,(i0t _ _ ch rfl rfl (A2a (by rw [C2a];decide)) e2 (i0l _ _ rfl rfl (A2a (by lia)) ?_))⟩;refine i0r _ rfl _ _ rfl rfl ⟨by decide,by decide⟩ ⟨rfl,(i0q (wd++⟨#[ch]⟩) _ _ rfl (by rw [Str.length_append,l1,hl]) (C2l ho (D1h hc)) (hg.app (.one (D5r ch (Z13 e1)))))⟩
  rintro Z H2 ⟨rfl,wd,r,o5,rfl,hl,ho,hg⟩;have hl1:1<=wd.length/\wd.length<=8:=by lia
  refine i02 _ rfl (i0k _ rfl wd rfl (A2a (by lia)) (i0o _ _ rfl rfl (by show (0:Int)<(wd.length:Int);lia) (A0t rfl) λl hl=> ?_));have s0:0<=o%(wd.length:Int):=Z1v _ (by lia);have s1:o%(wd.length:Int)<wd.length:=Z1p _ (by lia);obtain ⟨cs,f1,f2⟩:=B8w (xs:=wd.cps.toList) s0 (by rw [lenC];exact s1)
  refine ⟨_,rfl,22,rfl,by decide,by decide,A4q (n:=22) (λi Z H2=>∃(nm:List Str) (o5 o8 o9:Option V),Z=[Sio c,Sio o,Sio 22,Sso abc,Sso wd,Sio r,o5,Sio (o%(wd.length:Int)),Sro l,o8,o9]/\A1c H H2/\
   H2 l=some (.lst (nm.map V.str))/\nm.length=i/\(∀x∈nm,(B3y x/\1<=x.length)/\NmG x)/\Paired (Dsc (Txt.slice wd none (some (o%(wd.length:Int)))) (Txt.slice wd (some (o%(wd.length:Int)+1)) none) (Txt.find abc ⟨#[cs]⟩)) (List.range i) nm) (i11 [] o5 none none rfl (A0f hl) A0b rfl (by intro x hx;cases hx) .nil) ?_ ?_⟩
  ·rintro i Z H2 hi ⟨nm,o5,o8,o9,rfl,s2,h2,hn,hx,ds⟩;rw [Int.zero_add];obtain ⟨ch,e1,e2⟩:=B8w (xs:=abc.cps.toList) (i:=(Txt.find abc ⟨#[cs]⟩+(i:Int))%26) (by lia) (by rw [C8j];lia);have hc:ch<0x110000:=D1i ch (Z13 e1);have l1:(⟨#[ch]⟩:Str).length=1:=rfl;have la:=Txt.slice_le wd none (some (o%(wd.length:Int)));have lb:=Txt.slice_le wd (some (o%(wd.length:Int)+1)) none;refine i02 _ rfl (i0j _ rfl rfl _ rfl (i0x _ rfl _ _ cs rfl rfl (A2a (by lia)) (i0i f2 _ _ rfl rfl (i0n _ rfl _ _ rfl rfl (i0l _ _ rfl rfl D7q (i0t _ _ ch rfl rfl (A2a (by rw [C2a];decide)) e2 ?_))))));refine i0e _ rfl _ rfl (i0k _ rfl wd rfl (A2a (by lia)) (i0r _ rfl _ _ rfl rfl (A2a (by lia)) (i0w _ rfl _ rfl _ _ rfl rfl (i0k _ rfl wd rfl (A2a (by lia)) (i0l _ _ rfl rfl (A2a (by rw [Str.length_append];lia)) ?_)))));have okg:=(hg.slice (l:=none) (u:=some (o%(wd.length:Int)))).app (.one (D5r ch (Z13 e1))) |>.app (hg.slice (l:=some (o%(wd.length:Int)+1)) (u:=none));have okm:PyData.strOk (Txt.slice wd none (some (o%(wd.length:Int)))++⟨#[ch]⟩++Txt.slice wd (some (o%(wd.length:Int)+1)) none)=true:=C2l (C2l (C2o ho) (D1h hc)) (C2o ho);have lm:(Txt.slice wd none (some (o%(wd.length:Int)))++⟨#[ch]⟩++Txt.slice wd (some (o%(wd.length:Int)+1)) none).length<=17:=by rw [Str.length_append,Str.length_append];lia
   have ls:("s":Str).length=1:=by decide +kernel
   have m1:1<=(Txt.slice wd none (some (o%(wd.length:Int)))++⟨#[ch]⟩++Txt.slice wd (some (o%(wd.length:Int)+1)) none).length:=by rw [Str.length_append,Str.length_append];lia
   generalize hmd:(Txt.slice wd none (some (o%(wd.length:Int)))++⟨#[ch]⟩++Txt.slice wd (some (o%(wd.length:Int)+1)) none)=md at okm okg lm m1;refine i02 (λZ H3=>H2=H3/\∃x,PyData.strOk x=true/\(x=md\/x=md++"s")/\Z=[Sio c,Sio o,Sio 22,Sso abc,Sso wd,Sio r,Sio (i:Int),Sio (o%(wd.length:Int)),Sro l,some (.str ⟨#[ch]⟩),Sso x]) ?_ ?_
   ·have yes:PyData.strOk (md++"s")=true:=C2l okm (by decide +kernel);refine i0j _ rfl rfl _ rfl (D1b (λ_=>A5z (i0n _ rfl _ _ rfl rfl (i0a (A2a (by lia)) rfl _ yes ⟨.inr rfl,rfl⟩))) (λ_=> ?_));exact i0j _ rfl rfl _ rfl (D1b (λ_=>(i0n _ rfl _ _ rfl rfl (i0a (A2a (by lia)) rfl _ yes ⟨.inr rfl,rfl⟩))) (λ_=>⟨rfl,(i06 _ okm (.inl rfl) rfl)⟩))
   rintro Z H3 ⟨rfl,x,okx,xe,rfl⟩;refine i0j _ rfl (.inl (i01 rfl _ (SqL.of h2))) _ rfl (i0t l _ _ rfl rfl h2 (A1s (by simp;lia)) (i11 (nm++[x]) _ _ _ rfl (A0r s2 hl) (by rw [A0b,Z0s];rfl) (by simp [hn]) (λy hy=> ?_) ?_))
   ·rcases Z07.mp hy with hy | hy
    ·exact hx y hy
    ·have:y=x:=by simpa using hy
     subst this;rcases xe with e | e
     ·rw [e] at okx⊢;exact ⟨⟨⟨by lia,okx⟩,m1⟩,okg⟩
     ·have:=Str.length_append md ("s":Str);rw [e] at okx⊢;exact ⟨⟨⟨by lia,okx⟩,by lia⟩,okg.app (by intro c hc;have:c∈[115]:=hc;rw [Z0w.mp this];decide)⟩
   ·rw [List.range_succ];exact B1t ds (.cons (i02 ch e1 (by rw [hmd];exact xe)) .nil)
  ·rintro Z H2 ⟨nm,o5,o8,o9,rfl,s2,h2,hn,hx,ds⟩;exact i02 _ rfl (k l nm H2 hl s2 h2 hn (λx h=>(hx x h).1) (C7x (by decide) ds) λx h=>(hx x h).2)
theorem A8g (T:Txt K mg t):FO P w base T.ib 1 C5y:=by
 refine T.ib.F.ok B0a (by walk_at "ln") λ_ A _ s H _ Q E hr h=> ?_
 ·obtain ⟨l,d,ys,lk,rfl,hl,hd,dk,k⟩:=h;have hu:=A7r hr;refine i02 _ (@A0c _ _ _ _ _ (@A0l _ _ 2 _ _ _ _ B0a.nd rfl (.inl rfl) A0e rfl (.inl rfl)) (@A0c _ _ _ _ _ (A2y PassesOwn.never rfl (A2g (pv 0)) (A0m (i:=3) B0a.nd rfl (.inl rfl)) (@A0g _ _ _ (@A0l _ _ 2 _ _ _ _ B0a.nd rfl (.inl rfl) (A0o A7n (pv 2) (A4b hu (pv 1) (pv 3) (λ_ _=>rfl))) rfl (.inl rfl)))) (@A0g _ _ _ (@A0s _ _ _ _ (pv 2))))) ?_;refine i0k _ rfl l rfl ⟨_,SqL.of hl⟩ ?_;refine A3f (K:=K) (a:=l) (xs:=ys.map V.str) (λi Z H2=>H=H2/\∃(o3:Option V) (z:Int),Z=[Sro l,Sro d,Sio z,o3]/\1<=z/\A8q lk (ys.take i) z) (i0i rfl none 1 rfl (by decide) .nil) (λi Z H2 _ ⟨e,_⟩=>SqL.of (by rw [<-e];exact hl)) ?_ ?_
  ·rintro i x Z H2 hx ⟨rfl,o3,z,rfl,z1,mo⟩;obtain ⟨y,hy,rfl⟩:=A7c hx;obtain ⟨n,vn,n1,n60⟩:=dk y (Z13 hy);have g:=B0j.k (H:=H) (a:=d) (k:=Sum.inr y) hd;rw [vn] at g
   have zn:1<=z*n:=by
    have:=Int.mul_le_mul z1 n1 (by lia) (by lia)
    lia
   refine i12 _ rfl _ rfl _ rfl d _ rfl g (i0l _ _ rfl rfl (.inr ⟨by lia,by lia⟩) (i0i rfl _ (z*n) rfl zn ?_));rw [Z14,hy];exact mo.snoc vn
  ·rintro Z H2 ⟨rfl,o3,z,rfl,z1,mo⟩;rw [Z08,Z18] at mo;exact i02 _ rfl (k z z1 mo)
theorem B6r (T:Txt K mg t):FO P w base T.fj 2 B7p:=by
 have Gc6:= @A8g P w K mg base t T;refine T.fj.F.ok A5e (by walk_at "ln") λ_ A _ s H _ Q E hr h=> ?_
 ·obtain ⟨r,most,g,d,nm,lk,rfl,hg,lnm,hd,dk,k⟩:=h;refine i02 _ (@A0c _ _ _ _ _ (@A0l _ _ 4 _ _ _ _ A5e.nd rfl (.inl rfl) (@A1z _ _ _ _ A0d) rfl (.inl rfl)) (@A0c _ _ _ _ _ (@A1v _ _ _ _ _ _ _ _ (A0q A2x (A0u A0v (by rfl) T.b_ Z0r (A0a (pv 1) A0d)) A0e (A1a _)) (@A0g _ _ _ (@A0s _ _ _ _ (pv 4))) A0x) (@A0c _ _ _ _ _ (A2y PassesOwn.never rfl (A4d rfl T.dw (A0a (A0o A1w (pv 0) A0e) A0d)) (A0m (i:=5) A5e.nd rfl (.inl rfl)) (@A0c _ _ _ _ _ (@A0l _ _ 0 _ _ _ _ A5e.nd rfl (.inl rfl) (A0o A1t (pv 0) A0e) rfl (.inl rfl)) (@A0c _ _ _ _ _ (@A0l _ _ 6 _ _ _ _ A5e.nd rfl (.inl rfl) (A1f A1p (pv 1) (A0o A1w (pv 0) (A0u A0v (by rfl) T.b_ Z0r (A0a (pv 1) A0d))) (λ_ _=>rfl)) rfl (.inl rfl)) (@A0g _ _ _ (@A1v _ _ _ _ _ _ _ _ (PW.pt (A4a (A0q A6b (pv 6) (pv 4) (by with_unfolding_all rfl)) (A4g (A0q C9g (pcl Gc6 hr T.ib (A0a (A0o A8r (pv 4) (@A1z _ _ _ _ (A0a (pv 6) A0d))) (A0a (pv 2) A0d))) (pv 3) (A1a _))))) (@A0g _ _ _ (A3n (A7p Z0k Z0n Z0o A2l (pv 4) (A0a (pv 6) A0d)))) A0x))))) (@A0g _ _ _ (@A0s _ _ _ _ (pv 4)))))) ?_;refine ⟨A0t rfl,λL hL=> ?_⟩;have s0:A1c H (upd H L (.lst [])):=A0f hL;refine i0n _ rfl g _ rfl (.inl (SqL.of (s0 _ _ hg))) (i05 rfl _ rfl (A4v (λ_=> ?_) (λhne=> ?_)))
  ·exact i02 _ rfl (k L [] _ hL s0 A0b (by intro y hy;cases hy) (by simp) (λz=>absurd rfl z) .nil)
  have hpos:0<nm.length:=by
   rcases Nat.eq_zero_or_pos nm.length with z | z
   ·exact absurd (by rw [Z08,z];rfl) hne
   ·exact z
  have m4:0<=r%4/\r%4<4:=by lia
  refine i0r _ rfl _ _ rfl rfl D6l (i0c _ rfl (by lia) (by lia) ?_)
  refine A4q (n:=(r%4).toNat) (λi Z H2=>∃(r':Int) (o5 o6:Option V) (ys:List Str),Z=[Sio r',Sro g,Sro d,Sio most,Sro L,o5,o6]/\A1c H H2/\H2 L=some (.lst (ys.map V.str))/\(∀y∈ys,y∈nm)/\ys.length<=i/\(ys≠[]->∃z,A8q lk ys z/\z<=most)/\ys.Nodup)
   (i11 r none none [] rfl s0 A0b (by intro y hy;cases hy) (Z09 _) ⟨(λz=>absurd rfl z),.nil⟩) ?_ ?_
  ·rintro i Z H2 hi ⟨r',o5,o6,ys,rfl,s2,h2,sub,ly,pm,yn⟩;have lpos:(0:Int)<((nm.map V.str).length:Int):=by rw [Z08];lia
   refine i0r _ rfl _ _ rfl rfl ⟨by decide,by decide⟩ ?_;obtain ⟨y,hy,ey⟩:=A5o (f:=V.str) (xs:=nm) (i:=r'/4%((nm.map V.str).length:Int)) (Z1v _ (by lia)) (by have:=Z1p (r'/4) lpos;rw [Z08] at this⊢;exact this);refine i12 _ rfl _ rfl _ rfl g _ rfl (.inl (SqL.of (s2 _ _ hg))) (i0l _ _ rfl rfl lpos (i0y g _ _ _ rfl rfl (SqL.of (s2 _ _ hg)) ey ?_));have my:=Z13 hy;refine i0w _ rfl _ rfl L _ rfl (.inl (SqL.of h2)) (i0a rfl (A6v ys) _ rfl ?_);show if (! inV (V.str y) (ys.map V.str))=true then _ else _
   rw [B1c];refine C9f (λhnot=> ?_) (λhin=>A2o (i11 _ _ _ ys rfl s2 h2 sub (by lia) ⟨pm,yn⟩));refine i0k _ rfl _ rfl (A0t rfl) λz hz=> ?_;have sz:A1c H2 (upd H2 z (.lst [.str y])):=A0f hz;refine i11 L z _ _ rfl rfl (sz _ _ h2) A0b (A2a (by simp;lia)) λc hc=> ?_;have sc':=A0f (o:= .lst (ys.map V.str++[V.str y])) hc;have sc:=sz.trans sc';have hcc:upd (upd H2 z (.lst [.str y])) c (.lst (ys.map V.str++[V.str y])) c=some (.lst ((ys++[y]).map V.str)):=by rw [A0b,Z0s];rfl
   generalize upd (upd H2 z (.lst [.str y])) c (.lst (ys.map V.str++[V.str y]))=G at sc hcc
   have sub':∀x∈ys++[y],x∈nm:=λx hx=>by
    rcases Z07.mp hx with hx | hx
    ·exact sub x hx
    ·rw [Z0w.mp hx];exact my
   refine i13 _ rfl c d (ys++[y]) lk rfl hcc (sc _ _ (s2 _ _ hd)) (λx hx=>dk x (sub' x hx)) λzz z1 mo=> ?_;refine i02 _ rfl (i0p _ _ rfl rfl _ rfl (A4v (λhle=> ?_) (λ_=>(i11 _ _ _ ys rfl (s2.trans sc) (sc _ _ h2) sub (by lia) ⟨pm,yn⟩))));refine i0j _ rfl (.inl (i01 rfl _ (SqL.of (sc _ _ h2)))) _ rfl (i0t L _ _ rfl rfl (sc _ _ h2) (A1s (by simp;lia)) ?_);exact i11 _ _ _ (ys++[y]) rfl (A0r (s2.trans sc) hL) (by rw [A0b,Z0s];rfl) sub' (by simp;lia) ⟨(λ_=>(i02 zz mo hle)),Z0l.mpr (i00 yn (by simp) λa ha b hb=>by rw [Z0w.mp hb];intro z;exact hnot (z▸ha))⟩
  ·rintro Z H2 ⟨r',o5,o6,ys,rfl,s2,h2,sub,ly,pm,yn⟩;exact i02 _ rfl (k L ys H2 hL s2 h2 sub (by lia) pm yn)
theorem A4x (T:Txt K mg t):FO P w base T.cv 1 B4d:=by
 refine T.cv.F.ok B4k (by walk_at "ln") λ_ A _ s H _ Q E hr h=> ?_
 ·obtain ⟨r,rfl,q⟩:=h;refine i02 _ (@A0c _ _ _ _ _ (@A1v _ _ _ _ _ _ _ _ (A0q A2x (A0o A1w (pv 0) A0e) A0e (A1a _)) (@A0g _ _ _ (@A0s _ _ _ _ (A0o A4n (A0o A1w (A0o A1t (pv 0) A0e) (A0o A4n (A0o A7n A0e (A0o A9s A0e A0e)) A0e)) (A0o A4n (A0o A9s A0e A0e) A0e)))) A0x) (@A0g _ _ _ (@A0s _ _ _ _ (A0o A4n (A0o A1w (A0o A1t (pv 0) A0e) A0e) A0e)))) ?_;have e30:((10:Int)^(30:Int).toNat)=1000000000000000000000000000000:=by decide +kernel
  have hp:(0:Int)<2*(10:Int)^(30:Int).toNat-1:=by rw [e30];decide
  refine i0n _ rfl _ _ rfl rfl (i0a D2h rfl _ rfl (D1b (λ_=> ?_) (λ_=> ?_)))
  ·refine i0r _ rfl _ _ rfl rfl ⟨by decide,by decide⟩ (i0l _ _ rfl rfl (i00 (by decide) (by decide) (by decide)) (i10 _ _ rfl rfl (.inl ⟨by decide,by decide⟩) _ _ rfl rfl (i0l _ _ rfl rfl hp (i10 _ _ rfl rfl (i00 (by decide) (by decide) (by decide)) _ _ rfl rfl (i0f _ _ rfl rfl (q _ (B0g ?_ ?_)))))))
   ·have:=Z1v (r/3) (show (2*(10:Int)^(30:Int).toNat-1)≠0 by lia);rw [e30] at this⊢
    lia
   ·have:=Z1p (r/3) hp;rw [e30] at this⊢
    lia
  ·refine (i0r _ rfl _ _ rfl rfl ⟨by decide,by decide⟩ (i10 _ _ rfl rfl E0q _ _ rfl rfl (q _ (B0g ?_ ?_)))) <;> lia
theorem A8l (T:Txt K mg t):FO P w base T.gh 1 C3w:=by
 refine T.gh.F.ok C4i (by walk_at "ln") λ_ A _ s H _ Q E hr h=> ?_
 ·obtain ⟨c,k,rfl,k0,k1,q⟩:=h;have pow60:(0:Int)<10^(60:Int).toNat:=by decide +kernel
  refine i02 _ (@A0c _ _ _ _ _ (@A1v _ _ _ _ _ _ _ _ (A0q A2x (A0o A1w (pv 0) A0e) A0e (A1a _)) (@A0g _ _ _ (@A0s _ _ _ _ (A0o A1t (pv 0) A0e))) A0x) (@A0g _ _ _ (@A0s _ _ _ _ (A0o A2h (A0o A7n (A0o A2h (A0o A1w (A0o A1t (pv 0) A0e) (A0o A9s A0e A0e)) (A0o A7n (pv 1) (pv 1))) A0e) (A0o A7n (A0o A2h (pv 1) A0e) A0e))))) ?_;refine i0n _ rfl _ _ rfl rfl (i0a D6r rfl _ rfl (D1b (λ_=> ?_) (λ_=> ?_)))
  ·exact i0r _ rfl _ _ rfl rfl ⟨by decide,by decide⟩ (q _)
  ·exact i0r _ rfl _ _ rfl rfl ⟨by decide,by decide⟩ (i10 _ _ rfl rfl (i00 (by decide) (by decide) (by decide)) _ _ rfl rfl ⟨pow60,(i0e _ rfl _ rfl (i10 _ _ rfl rfl (.inr ⟨by lia,by lia⟩) _ _ rfl rfl (i0l _ _ rfl rfl (.inr ⟨by decide,by decide⟩) (i0n _ rfl _ _ rfl rfl (i10 _ _ rfl rfl (.inr ⟨by decide,by decide⟩) _ _ rfl rfl (q _))))))⟩)
theorem B7n (T:Txt K mg t):FO P w base T.j_ 2 C7m:=by
 have Gc7:= @A8l P w K mg base t T;refine T.j_.F.ok A9z (by walk_at "ln") λ_ A _ s H _ Q E hr h=> ?_
 ·obtain ⟨c,k,rfl,k0,k1,q⟩:=h;refine i02 _ (@A0c _ _ _ _ _ (@A0l _ _ 2 _ _ _ _ A9z.nd rfl (.inl rfl) (pcl Gc7 hr T.gh (A0a (pv 0) (A0a (pv 1) A0d))) rfl (.inl rfl)) (@A0c _ _ _ _ _ (A2y PassesOwn.never rfl (A4d rfl T.dw (A0a (A0o A7n (pv 1) (A0o A4n A0e (A0o A1w (pv 0) A0e))) A0d)) (A0m (i:=3) A9z.nd rfl (.inl rfl)) (@A0g _ _ _ (@A0l _ _ 2 _ _ _ _ A9z.nd rfl (.inl rfl) (A0o C9l (pv 2) (A0o A9s A0e A0e)) rfl (.inl rfl)))) (@A0g _ _ _ (@A0s _ _ _ _ (pv 2))))) ?_;refine i0w _ rfl _ rfl c k rfl k0 ⟨k1,λz=> ?_⟩
  have m:0<=k*(1-c%2)/\k*(1-c%2)<=1000:=by
   rcases Int.emod_two_eq c with e | e
   ·rw [e];lia
   ·rw [e];lia
  refine i0e _ rfl _ rfl (i10 _ _ rfl rfl D6r _ _ rfl rfl (i0l _ _ rfl rfl (.inl ⟨by lia,by lia⟩) (i0c _ rfl (by lia) (by lia) ?_)));refine A4q (n:=(k*(1-c%2)).toNat) (λi Z H2=>H=H2/\∃(z:Int) (o3:Option V),Z=[Sio c,Sio k,Sio z,o3]) ⟨rfl,(i03 z none rfl)⟩ ?_ ?_
  ·rintro i Z H2 hi ⟨rfl,z,o3,rfl⟩;exact i0r _ rfl _ _ rfl rfl (i00 (by decide) (by decide) (by decide)) (i0o _ _ rfl rfl ⟨by decide +kernel,by decide +kernel⟩ rfl (i03 _ _ rfl))
  ·rintro Z H2 ⟨rfl,z,o3,rfl⟩;exact i02 _ rfl (q z)
def opS:Op3->Str
 | .plus=>"plus"
 | .minus=>"minus"
 | .times=>"times"
def A2c:Tm->PyData
 | .num z=> .tuple [.str "number",.int z]
 | .place x=> .tuple [.str "place",.str x]
 | .read a ix=> .tuple [.str "read",.str a,A5w ix]
 | .sum x b=> .tuple [.str "sum",.str x,A2c b]
 | .pair k l r=> .tuple [.str (opS k),A2c l,A2c r]
 | .guard x lo hi l r=> .tuple [.str "guard",.str x,.int lo,.int hi,A2c l,A2c r]
theorem C1r {z:Int} (h:H p=some (.tup [.str "number",.int z])):Rep H (.ref p) (A2c (.num z)):= .tup h (.cons (.str _) (.cons (.int _) .nil))
theorem B2a (h:H p=some (.tup [.str "place",.str x])):Rep H (.ref p) (A2c (.place x)):= .tup h (.cons (.str _) (.cons (.str _) .nil))
theorem B9x {a:Str} {ix:List (Str×Int)} (h:H p=some (.tup [.str "read",.str a,v])) (r:Rep H v (A5w ix)):Rep H (.ref p) (A2c (.read a ix)):= .tup h (.cons (.str _) (.cons (.str _) (.cons r .nil)))
theorem D1o (h:H p=some (.tup [.str "sum",.str x,v])) (r:Rep H v (A2c b)):Rep H (.ref p) (A2c (.sum x b)):= .tup h (.cons (.str _) (.cons (.str _) (.cons r .nil)))
theorem B5q {k:Op3} {u:V} {l r:Tm} (h:H p=some (.tup [.str (opS k),v,u])) (r1:Rep H v (A2c l)) (r2:Rep H u (A2c r)):Rep H (.ref p) (A2c (.pair k l r)):= .tup h (.cons (.str _) (.cons r1 (.cons r2 .nil)))
theorem A8k {u:V} {l r:Tm} (h:H p=some (.tup [.str "guard",.str x,.int lo,.int hi,v,u])) (r1:Rep H v (A2c l)) (r2:Rep H u (A2c r)):Rep H (.ref p) (A2c (.guard x lo hi l r)):= .tup h (.cons (.str _) (.cons (.str _) (.cons (.int _) (.cons (.int _) (.cons r1 (.cons r2 .nil))))))
def TmL (lk:List (Key×V)):Tm->Prop
 | .sum x b=>B1j lk [x]/\TmL lk b
 | .pair _ l r=>TmL lk l/\TmL lk r
 | .guard x _ _ l r=>B1j lk [x]/\TmL lk l/\TmL lk r
 | .read a _=>PyData.strOk a=true
 | _=>True
theorem dk1 {n:Int} (h:A9o lk (Sum.inr x)=some (.int n)) (h1:1<=n) (h2:n<=60):B1j lk [x]:=λy hy=>by
 rw [Z0w.mp hy];exact i06 n h h1 h2
def NmS (nm:List Str):Prop:=∀x∈nm,B3y x/\1<=x.length
abbrev G3:=Str×Int×Int
def D9o (H:Hp) (v:V) (e:G3):Prop:=∃q,v= .ref q/\H q=some (.tup [.str e.1,.int e.2.1,.int e.2.2])
def lnL (lk:List (Key×V)) (x:Str):Int:=match A9o lk (Sum.inr x) with | some (.int n)=>n | _=>0
theorem A6u {n:Int} (h:A9o lk (Sum.inr x)=some (.int n)):lnL lk x=n:=by unfold lnL;rw [h]
structure GdP (lk:List (Key×V)) (gs:List G3) (u v:Tm):Prop where
 ti:∀nm sc,(∀e∈gs,e.1∈sc)->A6i nm sc u->A6i nm sc v
 sf:∀(okn ok:OkP) (ρ:Env),(∀e∈gs,0<=ρ e.1/\ρ e.1<lnL lk e.1)->((∀e∈gs,e.2.1<=ρ e.1/\ρ e.1<e.2.2)->A3c (lnL lk) okn ok ρ u)->A3c (lnL lk) okn ok ρ v
theorem GdP.nil:GdP lk [] u u:=⟨λ_ _ _ h=>h,λ_ _ _ _ h=>h λe he=>by cases he⟩
theorem A6g {α:Type} {xs:List α} {y:α} {p:α->Prop} (h:∀x∈xs,p x) (hy:p y):∀x∈xs++[y],p x:=λx hx=>by
 rcases Z07.mp hx with hx | hx
 ·exact h x hx
 ·rw [Z0w.mp hx];exact hy
theorem GdP.put {v:Tm} {e:G3} {z:Int} (h:GdP lk gs u v):GdP lk (gs++[e]) u (.guard e.1 e.2.1 e.2.2 v (.num z)):=by
 refine ⟨λnm sc hg ht=>(i00 (hg e (by simp)) (h.ti nm sc (λf hf=>hg f (by simp [hf])) ht) True.intro),λokn ok ρ hr hs=>⟨λhe=> ?_,λ_=>True.intro⟩⟩;exact h.sf okn ok ρ (λf hf=>hr f (by simp [hf])) λhg=>hs (A6g hg he)
theorem GdP.skip {v:Tm} {e:G3} (h:GdP lk gs u v) (h1:¬0<e.2.1) (h2:¬e.2.2<lnL lk e.1):GdP lk (gs++[e]) u v:=by
 refine ⟨λnm sc hg ht=>h.ti nm sc (λf hf=>hg f (by simp [hf])) ht,λokn ok ρ hr hs=>h.sf okn ok ρ (λf hf=>hr f (by simp [hf])) λhg=>hs (A6g hg ?_)⟩;have:=hr e (by simp)
 lia
theorem D9r {t3:TT} {d3:Bool} (e1:∀Q':Bool->Hp->Prop,Q' d1 H->t1 Z H Q') (e2:∀Q':Bool->Hp->Prop,Q' d2 H->t2 Z H Q') (e3:∀Q':Bool->Hp->Prop,Q' d3 H->t3 Z H Q') (h:Q (d1||(d2||d3)) H):tOr t1 (tOr t2 t3) Z H Q:=by
 refine e1 _ ?_
 cases d1 with
 | true=>exact h
 | false =>
  refine A2o (e2 _ ?_)
  cases d2 with
  | true=>exact h
  | false=>exact A2o (e3 _ h)
def B8p:Sp:=λvs H Q _=>∃(v:V) (gl d:Addr) (r:Int) (gs:List V) (gt:List G3) (u:Tm) (lk:List (Key×V)) (S:Addr->Prop),vs=[v,.ref gl,.int r,.ref d]/\Fr S H/\Rep (A1d S H) v (A2c u)/\TmW u/\TmL lk u/\H gl=some (.lst gs)/\Paired (D9o H) gs gt/\(∀e∈gt,B3y e.1/\Sm e.2.1/\Sm e.2.2)/\H d=some (.dK lk)/\B1j lk (gt.map (·.1))/\
 ∀(v':V) (u':Tm) (H':Hp),A1c H H'->Rep (A1d S H') v' (A2c u')->TmW u'->TmL lk u'->dep u'<=dep u+gt.length->GdP lk gt u u'->Q v' H'
theorem B7y (T:Txt K mg t):FO P w base T.jx 2 B8p:=by
 have Gc8:= @A4x P w K mg base t T;refine T.jx.F.ok A3t (by walk_at "ln") λ_ A _ s H _ Q E hr h=> ?_
 ·refine e0g h ?_;clear h;rintro v gl d r gs gt u lk S ⟨rfl,fr,rp,wu,tu,hgl,pg,hg,hd,dk,k⟩;have hu:=A7r hr;have lg:=Paired.length pg;refine i02 _ (@A0c _ _ _ _ _ (@A0l _ _ 4 _ _ _ _ A3t.nd rfl (.inl rfl) (pv 0) rfl (.inl rfl)) (@A0c _ _ _ _ _ (A2y PassesOwn.never rfl (A2g (pv 1)) (A3z (n:=3) rfl (A0y (A0m (i:=5) A3t.nd rfl (.inl rfl)) (A0y (A0m (i:=6) A3t.nd rfl (.inl rfl)) (A0y (A0m (i:=7) A3t.nd rfl (.inl rfl)) A2v)))) (@A5h _ _ _ _ _ (@A1v _ _ _ _ _ _ _ _ (PW.pt (A8z (A0q A7q (pv 6) A0e (A1a _)) (A8z (A0q B5e (pv 7) (A4b hu (pv 3) (pv 5) (λ_ _=>rfl)) (A1a _)) (A8d (A0q A2x (A0o A1w (pv 2) A0e) A0e (A1a _)))))) (@A0g _ _ _ (@A0l _ _ 4 _ _ _ _ A3t.nd rfl (.inl rfl) (A1n (A0a A1m (A0a (pv 5) (A0a (pv 6) (A0a (pv 7) (A0a (pv 4) (A0a (A1n (A0a A1m (A0a (pcl Gc8 hr T.cv (A0a (A0o A1t (pv 2) A0e) A0d)) A0d))) A0d))))))) rfl (.inl rfl))) A0x) (@A0g _ _ _ (@A0l _ _ 2 _ _ _ _ A3t.nd rfl (.inl rfl) (A0o A1t (pv 2) A0e) rfl (.inl rfl))))) (@A0g _ _ _ (@A0s _ _ _ _ (pv 4))))) ?_;refine i02 _ rfl (i0k _ rfl gl rfl ⟨_,SqL.of hgl⟩ ?_);refine A3f (K:=K) (a:=gl) (xs:=gs) (λi Z H2=>∃(r':Int) (v':V) (u':Tm) (o5 o6 o7:Option V),Z=[some v,Sro gl,Sio r',Sro d,some v',o5,o6,o7]/\A1c H H2/\Rep (A1d S H2) v' (A2c u')/\TmW u'/\TmL lk u'/\dep u'<=dep u+i/\GdP lk (gt.take i) u u') ⟨r,(i14 v u none none none rfl (A1c.refl _) rp wu tu ⟨Z09 _,.nil⟩)⟩ (λi Z H2 _ zq=>by obtain ⟨_,_,_,_,_,_,_,s2,_⟩:=zq;exact SqL.of (s2 _ _ hgl)) ?_ ?_
  ·rintro i y Z H2 hy ⟨r',v',u',o5,o6,o7,rfl,s2,rp2,wu2,tu2,du2,gp⟩;obtain ⟨e,he,q,rfl,eq⟩:=B3x pg hy;obtain ⟨x,lo,hi⟩:=e;have hm:=Z13 he;obtain ⟨g1,g2,g3⟩:=hg _ hm;obtain ⟨n,vn,n1,n60⟩:=dk x (Z2c.mpr (i02 _ hm rfl));have dp:=A5x u';have dg:=B0j.k (H:=H2) (a:=d) (k:=Sum.inr x) (s2 _ _ hd);rw [vn] at dg;refine i0f q _ rfl (SqT.of (s2 _ _ eq)) (i0b rfl _ _ rfl ⟨_,(i0n _ rfl _ _ rfl rfl ?_)⟩);refine i02 (λZ H3=>∃(v':V) (u':Tm),Z=[some v,Sro gl,Sio r',Sro d,some v',Sso x,Sio lo,Sio hi]/\A1c H H3/\Rep (A1d S H3) v' (A2c u')/\TmW u'/\TmL lk u'/\dep u'<=dep u+(i+1)/\GdP lk (gt.take (i+1)) u u') ?_ ?_
   ·have tk:gt.take (i+1)=gt.take i++[(x,lo,hi)]:=by rw [Z14,he];rfl
    rw [tk];refine D9r (d1:=decide (0<lo)) (d2:=decide (hi<n)) (d3:=decide (V.int (r'%3)=V.int 0)) (λQ' q=>(i02 _ rfl (i0p _ _ rfl rfl _ rfl q))) (λQ' q=>(i12 _ rfl _ rfl _ rfl d _ rfl dg (i0p _ _ rfl rfl _ rfl q))) (λQ' q=>(i0n _ rfl _ _ rfl rfl (i0a D2h rfl _ rfl q))) ?_
    cases hb:(decide (0<lo)||(decide (hi<n)||decide (V.int (r'%3)=V.int 0))) with
    | false =>
     simp only [Bool.or_eq_false_iff,decide_eq_false_iff_not] at hb;exact A2o (i0s v' u' rfl s2 rp2 wu2 tu2 ⟨by lia,gp.skip hb.1 (by show¬hi<lnL lk x;rw [A6u vn];exact hb.2.1)⟩)
    | true =>
     refine A5z (i0e _ rfl _ rfl (i12 _ rfl _ rfl _ rfl _ _ rfl rfl (i05 ⟨by decide,by decide⟩ _ rfl λz hz=>⟨A0t rfl,λq1 hq1=>⟨A0t rfl,λq2 hq2=> ?_⟩⟩)));have sA:=A0f (o:= .tup [.str "number",.int z]) hq1;have sB:=A0f (o:= .tup [.str "guard",.str x,.int lo,.int hi,v',.ref q1]) hq2;have f2:=fr.same s2;refine i0s (.ref q2) (.guard x lo hi u' (.num z)) rfl (s2.trans (sA.trans sB)) (A8k (A0j (f2 q2 (sA.free hq2)) A0b) (rp2.same (A0i (sA.trans sB))) (C1r (A0j (f2 q1 hq1) (sB _ _ A0b)))) (i09 g1 g2 g3 wu2 hz) (i00 (dk1 vn n1 n60) tu2 True.intro) ⟨?_,gp.put⟩;simp only [dep]
     lia
   ·rintro Z H3 ⟨v3,u3,rfl,s3,rp3,wu3,tu3,du3,gp3⟩;exact i0r _ rfl _ _ rfl rfl ⟨by decide,by decide⟩ ⟨_,(i14 v3 u3 _ _ _ rfl s3 rp3 wu3 tu3 ⟨du3,gp3⟩)⟩
  ·rintro Z H2 ⟨r',v',u',o5,o6,o7,rfl,s2,rp2,wu2,tu2,du2,gp⟩;rw [lg,Z18] at gp;exact i02 _ rfl (k v' u' H2 s2 rp2 wu2 tu2 (by lia) gp)
def C8v (H:Hp) (lk:List (Key×V)) (v:V) (e:Str×List Str):Prop:=∃q al,v= .ref q/\H q=some (.tup [.str e.1,.ref al])/\H al=some (.lst (e.2.map V.str))/\(e.1.length<=60/\PyData.strOk e.1=true)/\e.2.length<=3/\NmS e.2/\B1j lk e.2
theorem C8v.same (h:C8v H lk v e) (s:A1c H H'):C8v H' lk v e:=by
 obtain ⟨q,al,rfl,e1,e2,r⟩:=h;exact i0l q al rfl (s _ _ e1) (s _ _ e2) r
def C5c (H:Hp) (lk:List (Key×V)) (a:Addr) (sc:List Str):Prop:=H a=some (.lst (sc.map V.str))/\sc.length<=100/\NmS sc/\B1j lk sc
structure SfT (L:Str->Int) (okn ok:OkP) (nm sc:List Str) (u:Tm):Prop where
 ti:A6i nm sc u
 sf:∀ρ,InR L sc ρ->A3c L okn ok ρ u
def RdS (lk:List (Key×V)) (an:Str) (aa scn:List Str) (ow:V) (u:Tm):Prop:=∀(okn ok:OkP) (nm:List Str),(∀ρ,InR (lnL lk) scn ρ->∀c,inC (lnL lk) aa c->(¬ow= .non->B0f c (aa.map ρ))->ok ρ an c)->SfT (lnL lk) okn ok nm scn u
def D0e (S:Addr->Prop) (lk:List (Key×V)) (n:Nat) (Zz:Tm->Prop) (H:Hp) (Q:VK):Prop:=∀(v':V) (u':Tm) (H':Hp),A1c H H'->Rep (A1d S H') v' (A2c u')->TmW u'->TmL lk u'->dep u'<=n->Zz u'->Q v' H'
theorem C8h {lk:List (Key×V)} {ρ:Env} {gt:List G3} {scn:List Str} (h0:ρ ""=0) (hg:∀e∈gt,e.2.1<=ρ e.1/\ρ e.1<e.2.2):∀{aa:List Str} {ix:List (Str×Int)},Paired (λ(y:Str) (e:Str×Int)=>(e.1=""/\0<=e.2/\e.2<lnL lk y)\/(e.1∈scn/\(e.1,0-e.2,lnL lk y-e.2)∈gt)) aa ix->inC (lnL lk) aa (B4g ρ ix)
 | [],_,.nil=>True.intro
 | y::aa,_,.cons (b:=e) h r=>by
  refine ⟨?_,C8h h0 hg r⟩;show 0<=ρ e.1+e.2/\ρ e.1+e.2<lnL lk y;rcases h with ⟨h1,h2,h3⟩ | ⟨_,h2⟩
  ·rw [h1,h0];lia
  ·have h3:0-e.2<=ρ e.1/\ρ e.1<lnL lk y-e.2:=hg _ h2
   lia
theorem B4v {ρ:Env}:∀{aa:List Str} {ix:List (Str×Int)} {n:Nat},n<aa.length->aa.length=ix.length->(∀(k:Nat) (y:Str) (e:Str×Int),aa[k]? =some y->ix[k]? =some e->(k<n->e=(y,0))/\(k=n->e.1=y/\e.2<0))->B0f (B4g ρ ix) (aa.map ρ)
 | [],_,_,h,_,_=>absurd h (by simp)
 | y::aa,[],_,_,h,_=>absurd h (by simp)
 | y::aa,e::ix,0,_,_,h=>by
  obtain ⟨h1,h2⟩:=(h 0 y e rfl rfl).2 rfl;refine .inl ?_;show ρ e.1+e.2<ρ y;rw [h1];lia
 | y::aa,e::ix,n+1,hn,hl,h=>by
  have h1:=(h 0 y e rfl rfl).1 (by lia);refine .inr ⟨?_,B4v (n:=n) (by simpa using hn) (by simpa using hl) λk z f hz hf=> ?_⟩
  ·show ρ e.1+e.2=ρ y;rw [h1];show ρ y+0=ρ y;lia
  ·have:=h (k+1) z f (by simpa using hz) (by simpa using hf);exact ⟨λhk=>this.1 (by lia),λhk=>this.2 (by lia)⟩
def D5g (lk:List (Key×V)) (x:Str):Prop:=x=""\/(¬x=""/\B3y x/\∃n:Int,A9o lk (Sum.inr x)=some (.int n)/\1<=n/\n<=60)
theorem D5g.nm (h:D5g lk x):B3y x:=by
 rcases h with rfl | h
 ·exact ⟨by decide +kernel,by decide +kernel⟩
 ·exact h.2.1
theorem D6c {nm:List Str} (h1:NmS nm) (h2:B1j lk nm) (h:x∈nm):D5g lk x:= .inr (i00 (λz=>by have:=(h1 x h).2;rw [z] at this;exact absurd this (by decide +kernel)) ((h1 x h).1) (h2 x h))
def B6s:Sp:=λvs H Q _=>∃(r:Int) (q al sc d:Addr) (an:Str) (aa scn:List Str) (ow:V) (lk:List (Key×V)) (S:Addr->Prop),vs=[.int r,.ref q,.ref sc,.ref d,ow]/\H q=some (.tup [.str an,.ref al])/\H al=some (.lst (aa.map V.str))/\(an.length<=60/\PyData.strOk an=true)/\aa.length<=3/\NmS aa/\B1j lk aa/\C5c H lk sc scn/\H d=some (.dK lk)/\(ow= .non\/(ow= .ref al/\1<=aa.length/\∀x∈aa,x∈scn))/\Fr S H/\D0e S lk 4 (RdS lk an aa scn ow) H Q
theorem B8n (T:Txt K mg t):FO P w base T.ir 3 B6s:=by
 have Gc9:= @B7y P w K mg base t T;refine T.ir.F.ok A1u (by walk_at "ln") λ_ A _ s H _ Q E hr h=> ?_
 ·refine e0g h ?_;clear h;rintro r q al sc d an aa scn ow ⟨lk,S,rfl,hq,hal,lan,laa,naa,daa,⟨hsc,lsc,nsc,dsc⟩,hd,how,fr,k⟩;have hu:=A7r hr;refine i02 _ (@A0c _ _ _ _ _ (@A0l _ _ 5 _ _ _ _ A1u.nd rfl (.inl rfl) (@A1z _ _ _ _ A0d) rfl (.inl rfl)) (@A0c _ _ _ _ _ (@A0l _ _ 6 _ _ _ _ A1u.nd rfl (.inl rfl) (@A1z _ _ _ _ A0d) rfl (.inl rfl)) (@A0c _ _ _ _ _ (@A0l _ _ 7 _ _ _ _ A1u.nd rfl (.inl rfl) (C3u B4q A0e) rfl (.inl rfl)) (@A5h _ _ _ _ _ (@A1v _ _ _ _ _ _ _ _ (A0q C7b (pv 4) A6p (A1a _)) (@A0c _ _ _ _ _ (@A0l _ _ 7 _ _ _ _ A1u.nd rfl (.inl rfl) (A0o A1w (pv 0) (A0u A0v (by rfl) T.b_ Z0r (A0a (A1f A1g (pv 1) A0e (λ_ _=>rfl)) A0d))) rfl (.inl rfl)) (@A0g _ _ _ (@A0l _ _ 0 _ _ _ _ A1u.nd rfl (.inl rfl) (A0o A1t (pv 0) A0e) rfl (.inl rfl)))) A0x) (@A0c _ _ _ _ _ (A2y PassesOwn.never rfl (A4d rfl T.dw (A0a (A0u A0v (by rfl) T.b_ Z0r (A0a (A1f A1g (pv 1) A0e (λ_ _=>rfl)) A0d)) A0d)) (A0m (i:=8) A1u.nd rfl (.inl rfl)) (@A0c _ _ _ _ _ (@A0l _ _ 9 _ _ _ _ A1u.nd rfl (.inl rfl) (A4b hu (pv 3) (A1f A1p (A1f A1g (pv 1) A0e (λ_ _=>rfl)) (pv 8) (λ_ _=>rfl)) (λ_ _=>rfl)) rfl (.inl rfl)) (@A0c _ _ _ _ _ (@A0l _ _ 10 _ _ _ _ A1u.nd rfl (.inl rfl) (A1f A1p (A0o A8r (pv 2) (@A1z _ _ _ _ (A0a A1m A0d))) (A0o A1w (A0o A1t (pv 0) A0e) (A0o A2h (A0u A0v (by rfl) T.b_ Z0r (A0a (pv 2) A0d)) A0e)) (λ_ _=>rfl)) rfl (.inl rfl)) (@A0c _ _ _ _ _ (@A0l _ _ 11 _ _ _ _ A1u.nd rfl (.inl rfl) (A0o A4n (A0o A1w (A0o A1t (pv 0) A0e) A0e) A0e) rfl (.inl rfl)) (@A5h _ _ _ _ _ (@A1v _ _ _ _ _ _ _ _ (A0q B5e (pv 8) (pv 7) (A1a _)) (@A0c _ _ _ _ _ (@A0l _ _ 10 _ _ _ _ A1u.nd rfl (.inl rfl) (A1f A1p (pv 4) (pv 8) (λ_ _=>rfl)) rfl (.inl rfl)) (@A0g _ _ _ (@A0l _ _ 11 _ _ _ _ A1u.nd rfl (.inl rfl) A0e rfl (.inl rfl)))) A0x) (@A5h _ _ _ _ _ (@A1v _ _ _ _ _ _ _ _ (A0q A2x (pv 8) (pv 7) (A1a _)) (@A0c _ _ _ _ _ (@A0l _ _ 10 _ _ _ _ A1u.nd rfl (.inl rfl) (A1f A1p (pv 4) (pv 8) (λ_ _=>rfl)) rfl (.inl rfl)) (@A0g _ _ _ (@A0l _ _ 11 _ _ _ _ A1u.nd rfl (.inl rfl) (A0o A4n (C3u B4q A0e) (A0o A1w (pv 0) A0e)) rfl (.inl rfl)))) A0x) (@A5h _ _ _ _ _ (@A1v _ _ _ _ _ _ _ _ (A0q A2x (pv 10) A1m (A1a _)) (@A0g _ _ _ (@A0l _ _ 11 _ _ _ _ A1u.nd rfl (.inl rfl) (A0o A1w (A0o A1t (pv 0) A0e) (pv 9)) rfl (.inl rfl))) (@A0g _ _ _ (A3n (A7p Z0k Z0n Z0o A2l (pv 6) (A0a (A1n (A0a (pv 10) (A0a (A0o A4n A0e (pv 11)) (A0a (A0o A4n (pv 9) (pv 11)) A0d)))) A0d))))) (@A0c _ _ _ _ _ (A3n (A7p Z0k Z0n Z0o A2l (pv 5) (A0a (A1n (A0a (pv 10) (A0a (pv 11) A0d))) A0d))) (@A0g _ _ _ (@A0l _ _ 0 _ _ _ _ A1u.nd rfl (.inl rfl) (A0o A1t (pv 0) A0e) rfl (.inl rfl))))))))))) (@A0g _ _ _ (@A0s _ _ _ _ (pcl Gc9 hr T.jx (A0a (A1n (A0a A1m (A0a (A1f A1g (pv 1) A0e (λ_ _=>rfl)) (A0a (pv 5) A0d)))) (A0a (pv 6) (A0a (pv 0) (A0a (pv 3) A0d)))))))))))) ?_;refine ⟨A0t rfl,λil hil=>⟨A0t rfl,λgl hgl=> ?_⟩⟩;have s1:=A0f (o:= .lst []) hil;have s1':=A0f (o:= .lst []) hgl;have s2:=s1.trans s1';have gi:upd (upd H il (.lst [])) gl (.lst []) il=some (.lst []):=s1' _ _ A0b;have gg:upd (upd H il (.lst [])) gl (.lst []) gl=some (.lst []):=A0b;have ig:il≠gl:=λe=>by rw [<-e,A0b] at hgl;cases hgl
  have glH:H gl=none:=s1.free hgl;have Sil:=fr il hil;generalize upd (upd H il (.lst [])) gl (.lst [])=G at s2 gi gg;refine i0e _ rfl (λZ H2=>H2=G/\∃(r' st:Int),Z=[Sio r',Sro q,Sro sc,Sro d,some ow,Sro il,Sro gl,Sio st,none,none,none,none]/\((ow= .non/\st= -1)\/(ow= .ref al/\0<=st/\st<aa.length/\∀x∈aa,x∈scn))) ?_ ?_
  ·refine i0j _ rfl rfl _ rfl ?_;rcases how with rfl | ⟨rfl,l1,aas⟩
   ·exact A2o (i0b rfl r (-1) rfl (.inl ⟨rfl,rfl⟩))
   ·have p0:(0:Int)<((aa.map V.str).length:Int):=by rw [Z08];lia
    refine A5z (i17 _ rfl _ rfl q _ _ _ rfl rfl (SqT.of (s2 _ _ hq)) rfl (i0f al _ rfl (.inl (SqL.of (s2 _ _ hal))) (i0l _ _ rfl rfl p0 (i0r _ rfl _ _ rfl rfl ⟨by decide,by decide⟩ (i0b rfl _ _ rfl (.inr (i04 rfl (Z1v _ (by lia)) ?_ aas)))))));have:=Z1p r p0;rw [Z08] at this⊢;exact this
  rintro Z H2 ⟨rfl,r1,st,rfl,hst⟩;refine i0z _ rfl q _ _ _ rfl rfl (SqT.of (s2 _ _ hq)) (i0i rfl al _ rfl (.inl (SqL.of (s2 _ _ hal))) (i0c _ rfl (by lia) (by rw [Z08];lia) ?_))
  refine A4q (n:=(aa.map V.str).length) (λi Z H3=>∃(r':Int) (o8 o9 o10 o11:Option V) (iv gv:List V) (ix:List (Str×Int)) (gt:List G3),Z=[Sio r',Sro q,Sro sc,Sro d,some ow,Sro il,Sro gl,Sio st,o8,o9,o10,o11]/\A1c H H3/\H3 il=some (.lst iv)/\H3 gl=some (.lst gv)/\Paired (λ(v:V) (e:Str×Int)=>∃q,v= .ref q/\S q/\H3 q=some (.tup [.str e.1,.int e.2])) iv ix/\Paired (D9o H3) gv gt/\ix.length=i/\gt.length<=i/\(∀e∈ix,B3y e.1/\Sm e.2)/\(∀e∈gt,B3y e.1/\Sm e.2.1/\Sm e.2.2)/\B1j lk (gt.map (·.1))/\(∀e∈gt,e.1∈scn)/\Paired (λ(y:Str) (e:Str×Int)=>(e.1=""/\0<=e.2/\e.2<lnL lk y)\/(e.1∈scn/\(e.1,0-e.2,lnL lk y-e.2)∈gt)) (aa.take i) ix/\(∀(k:Nat) (y:Str) (e:Str×Int),aa[k]? =some y->ix[k]? =some e->((k:Int)<st->e=(y,0))/\((k:Int)=st->e.1=y/\e.2<0)))
   (i08 r1 none none (i1c none none [] [] [] [] rfl s2 gi gg .nil .nil rfl ⟨Z09 _,(i0h (λe he=>by cases he) (λe he=>by cases he) (λe he=>by cases he) (λe he=>by cases he) .nil (λk y e _ he=>by cases he))⟩)) ?_ ?_
  ·rintro i Z H3 hi zz;refine e0g zz ?_;clear zz;rintro r' o8 o9 o10 o11 iv gv ix gt ⟨rfl,s3,hi3,hg3,pi,pg,lix,lgt,okx,okg,dkg,gsc,pix,oix⟩;rw [Z08] at hi;have nl:((0:Int)+(i:Int))=(i:Int):=by lia
   obtain ⟨y,hy,ey⟩:=A5o (f:=V.str) (xs:=aa) (i:=(0:Int)+(i:Int)) (by lia) (by lia);have my:=Z13 hy;obtain ⟨n,vn,n1,n60⟩:=daa y my;have dg:=B0j.k (H:=H3) (a:=d) (k:=Sum.inr y) (s3 _ _ hd);rw [vn] at dg;refine i17 _ rfl _ rfl q _ _ _ rfl rfl (SqT.of (s3 _ _ hq)) rfl (i0z _ rfl al _ _ _ rfl rfl (SqL.of (s3 _ _ hal)) (i0i ey d _ rfl dg ?_));refine i06 _ rfl (A0t rfl) λzl hzl=> ?_;have sz:=A0f (o:= .lst [.str ""]) hzl;refine i11 sc zl _ _ rfl rfl (sz _ _ (s3 _ _ hsc)) A0b (A2a (by simp;lia)) λcl hcl=> ?_;have sc':=A0f (o:= .lst (scn.map V.str++[V.str ""])) hcl;have s5:=sz.trans sc';have hcc:upd (upd H3 zl (.lst [.str ""])) cl (.lst (scn.map V.str++[V.str ""])) cl=some (.lst ((scn++[("":Str)]).map V.str)):=by rw [A0b,Z0s];rfl
   generalize upd (upd H3 zl (.lst [.str ""])) cl (.lst (scn.map V.str++[V.str ""]))=H5 at s5 hcc;have p1:(0:Int)<((scn.map V.str).length:Int)+1:=by lia
   obtain ⟨x,hx,ex⟩:=A5o (f:=V.str) (xs:=scn++[("":Str)]) (i:=r'/7%(((scn.map V.str).length:Int)+1)) (Z1v _ (by lia)) (by have:=Z1p (r'/7) p1;rw [Z08] at this⊢;rw [Z06,Z0j];lia)
   have okx0:D5g lk x/\(x=""\/x∈scn):=by
    rcases Z07.mp (Z13 hx) with z | z
    ·exact ⟨D6c nsc dsc z,.inr z⟩
    ·exact ⟨.inl (Z0w.mp z),.inl (Z0w.mp z)⟩
   have lny:lnL lk y=n:=A6u vn;refine i0r _ rfl _ _ rfl rfl ⟨by decide,by decide⟩ (i0n _ rfl sc _ rfl (.inl (SqL.of (s5 _ _ (s3 _ _ hsc)))) (i0f _ _ rfl rfl (i0l _ _ rfl rfl p1 (i0y cl _ _ _ rfl rfl (SqL.of hcc) ex ?_))));have s35:=s3.trans s5;refine i0r _ rfl _ _ rfl rfl ⟨by decide,by decide⟩ (i10 _ _ rfl rfl E1b _ _ rfl rfl ?_);have yo:=D6c naa daa my;refine i02 (λZ H6=>H5=H6/\∃(x:Str) (z:Int),Z=[Sio r',Sro q,Sro sc,Sro d,some ow,Sro il,Sro gl,Sio st,Sio (0+(i:Int)),Sio n,Sso x,Sio z]/\(D5g lk x/\(x=""\/x∈scn))/\-2<=z/\z<=2/\((0+(i:Int))<st->x=y/\z=0)) ?_ ?_
   ·refine i0e _ rfl _ rfl (i0p _ _ rfl rfl _ rfl (A4v (λhlt=> ?_) (λhlt=>⟨rfl,(i0o x _ rfl okx0 (by lia) (by lia) λh=>absurd h hlt)⟩)));rcases hst with ⟨_,e⟩ | ⟨rfl,_,_,aas⟩
    ·exact absurd hlt (by lia)
    ·exact i1a _ rfl _ rfl al _ _ _ rfl rfl (SqL.of (s35 _ _ hal)) ey rfl (i0o y 0 rfl ⟨yo,.inr (aas y my)⟩ (by decide) (by decide) λ_=>⟨rfl,rfl⟩)
   rintro Z H6 ⟨rfl,x1,z1,rfl,ox1,lo1,hi1,cc1⟩;refine i02 (λZ H6=>H5=H6/\∃(x:Str) (z:Int),Z=[Sio r',Sro q,Sro sc,Sro d,some ow,Sro il,Sro gl,Sio st,Sio (0+(i:Int)),Sio n,Sso x,Sio z]/\(D5g lk x/\(x=""\/x∈scn))/\-2<=z/\z<=2/\((0+(i:Int))<st->x=y/\z=0)/\((0+(i:Int))=st->x=y/\z<0)) ?_ ?_
   ·refine i02 _ rfl (i0j _ rfl rfl _ rfl (A4v (λheq=> ?_) (λheq=>⟨rfl,(i0s x1 z1 rfl ox1 lo1 hi1 cc1 λh=>absurd (congrArg V.int h) heq)⟩)));have heq:(0:Int)+(i:Int)=st:=V.int.inj heq;rcases hst with ⟨_,e⟩ | ⟨rfl,_,_,aas⟩
    ·exact absurd heq (by lia)
    ·exact i17 _ rfl _ rfl al _ _ _ rfl rfl (SqL.of (s35 _ _ hal)) ey (i0e _ rfl _ rfl (i10 _ _ rfl rfl D6r _ _ rfl rfl ⟨rfl,(i0s y _ rfl ⟨yo,.inr (aas y my)⟩ (by lia) (by lia) (λh=>absurd h (by lia)) λ_=>⟨rfl,by lia⟩)⟩))
   rintro Z H6 ⟨rfl,x2,z2,rfl,⟨ox2,ax2⟩,lo2,hi2,cc2,cd2⟩;have yne:¬y="":=λz=>by have:=(naa y my).2;rw [z] at this;exact absurd this (by decide +kernel)
   have ge5:=s5 _ _ hg3;obtain ⟨gt0,egt⟩:∃g,g=gt:=⟨gt,rfl⟩;refine i02 (λZ H6=>∃(z:Int) (gv:List V) (gt:List G3),Z=[Sio r',Sro q,Sro sc,Sro d,some ow,Sro il,Sro gl,Sio st,Sio (0+(i:Int)),Sio n,Sso x2,Sio z]/\-2<=z/\z<=60/\A1c H H6/\KB gl H5 H6/\H6 gl=some (.lst gv)/\Paired (D9o H6) gv gt/\gt.length<=i+1/\(∀e∈gt,B3y e.1/\Sm e.2.1/\Sm e.2.2)/\B1j lk (gt.map (·.1))/\(∀e∈gt,e.1∈scn)/\(∀e∈gt0,e∈gt)/\((x2=""/\0<=z/\z<lnL lk y)\/(x2∈scn/\(x2,0-z,lnL lk y-z)∈gt))/\((0+(i:Int))<st->(x2,z)=(y,0))/\((0+(i:Int))=st->x2=y/\z<0)) ?_ ?_
   ·have e0:∀{q:Addr} {ys:List V},H3 q=some (.tup ys)->H5 q=some (.tup ys):=λ{q ys} e=>s5 _ _ e;refine i0j _ rfl rfl _ rfl (A4v (λheq=> ?_) (λhne=> ?_))
    ·refine i0r _ rfl _ _ rfl rfl ⟨by decide,by decide⟩ (i0r _ rfl _ _ rfl rfl (by show (0:Int)<n;lia) (i0t _ gv gt rfl ?_ ?_ s35 (i0h KB.refl ge5 (Paired.mapP pg λv e ⟨q,e1,e2⟩=>(i02 q e1 (e0 e2))) (by lia) okg (i0h dkg gsc (λe he=>egt▸he) (.inl (i00 (V.str.inj heq) ?_ ?_)) (λh=>absurd ((cc2 h).1.symm.trans (V.str.inj heq)) yne) λh=>absurd ((cd2 h).1.symm.trans (V.str.inj heq)) yne))))
     ·have:=Z1v (r'/63) (show n≠0 by lia)
      lia
     ·have:=Z1p (r'/63) (show 0<n by lia)
      lia
     ·exact Z1v (r'/63) (show n≠0 by lia)
     ·rw [lny];exact Z1p (r'/63) (show 0<n by lia)
    ·have hne:¬x2="":=λe=>hne (by rw [e]);rcases ox2 with e | ⟨_,nx,m,vm,m1,m60⟩
     ·exact absurd e hne
     have lgv:=Paired.length pg;refine i06 _ rfl (.inl (i01 rfl _ (SqL.of ge5))) (i0w _ rfl _ rfl _ _ rfl rfl (i0w _ rfl _ rfl _ _ rfl rfl ⟨A0t rfl,λtp htp=> ?_⟩));have sT:=A0f (o:= .tup [.str x2,.int (0-z2),.int (n-z2)]) htp;have eT:upd H5 tp (.tup [.str x2,.int (0-z2),.int (n-z2)]) tp=some (.tup [.str x2,.int (0-z2),.int (n-z2)]):=A0b;generalize upd H5 tp (.tup [.str x2,.int (0-z2),.int (n-z2)])=H7 at sT eT;have g7:=sT _ _ ge5;refine i0t gl _ _ rfl rfl g7 (A1s (by lia)) (i0t z2 (gv++[.ref tp]) (gt++[(x2,0-z2,n-z2)]) rfl lo2 (by lia) (A0r (s35.trans sT) glH) (i0h ((KB.of sT).trans KB.refl.upd) A0b ?_ (by rw [Z06];simp only [Z0y,Z2g];lia) (λe he=> ?_) (i0h (λy hy=> ?_) (A6g gsc (ax2.resolve_left hne)) (λe he=>Z07.mpr (.inl (egt▸he))) (.inr ⟨ax2.resolve_left hne,by rw [lny];simp⟩) (λh=>by rw [(cc2 h).1,(cc2 h).2]) cd2)))
     ·exact B1t (Paired.mapP pg λv e ⟨q,e1,e2⟩=>(i02 q e1 (by rw [A0k (A3p (sT _ _ (e0 e2)) g7 (by intro h;cases h))];exact sT _ _ (e0 e2)))) (.cons (i02 tp rfl (by rw [A0k (A3p eT g7 (by intro h;cases h))];exact eT)) .nil)
     ·rcases Z07.mp he with he | he
      ·exact okg e he
      ·rw [Z0w.mp he];exact i00 nx (B0g (by show _<=0-z2;lia) (by show 0-z2<=_;lia)) (B0g (by show _<=n-z2;lia) (by show n-z2<=_;lia))
     ·rw [Z0s] at hy;rcases Z07.mp hy with hy | hy
      ·exact dkg y hy
      ·rw [Z0w.mp hy];exact i06 m vm m1 m60
   rintro Z H6 zz;refine e0a zz ?_;clear zz;rintro z3 gv6 gt6 rfl lo3 hi3' ⟨s6,kb6,hg6,pg6,lgt6,okg6,dkg6,gsc6,sub6,cx6,ca6,cb6⟩;subst egt;have hyi:aa[i]? =some y:=by simpa using hy
   have il5:=s5 _ _ hi3;have il6:=kb6 _ _ ig il5;have liv:=Paired.length pi;refine i06 _ rfl (.inl (i01 rfl _ (SqL.of il6))) (i0k _ rfl _ rfl (A0t rfl) λtp htp=> ?_);have sT:=A0f (o:= .tup [.str x2,.int z3]) htp;have eT:upd H6 tp (.tup [.str x2,.int z3]) tp=some (.tup [.str x2,.int z3]):=A0b;generalize upd H6 tp (.tup [.str x2,.int z3])=H7 at sT eT;have il7:=sT _ _ il6;refine i0t il _ _ rfl rfl il7 (A1s (by lia)) ?_;have s7:=s6.trans sT;have Stp:S tp:=(fr.same s6) tp htp;refine i0r _ rfl _ _ rfl rfl ⟨by decide,by decide⟩ ?_;have keepT:∀{q:Addr} {ys:List V},H7 q=some (.tup ys)->upd H7 il (.lst (iv++[.ref tp])) q=some (.tup ys):=λ{q ys} e=>by rw [A0k (A3p e il7 (by intro h;cases h))];exact e
   have old:∀{q:Addr} {ys:List V},H3 q=some (.tup ys)->H7 q=some (.tup ys):=λ{q ys} e=>sT _ _ (kb6 _ _ (A3p (s5 _ _ e) ge5 (by intro h;cases h)) (s5 _ _ e));refine i08 _ _ _ (i1c _ _ (iv++[.ref tp]) gv6 (ix++[(x2,z3)]) gt6 rfl (A0r s7 hil) A0b (by rw [A0k ig.symm];exact sT _ _ hg6) (B1t (Paired.mapP pi λv e ⟨q,e1,e2,e3⟩=>(i06 q e1 e2 (keepT (old e3)))) (.cons (i06 tp rfl Stp (keepT eT)) .nil)) (Paired.mapP pg6 λv e ⟨q,e1,e2⟩=>(i02 q e1 (keepT (sT _ _ e2)))) (by rw [Z06,lix];rfl) ⟨lgt6,(i0h (λe he=> ?_) okg6 dkg6 gsc6 ?_ λk y' e hy' he=> ?_)⟩)
   ·rcases Z07.mp he with he | he
    ·exact okx e he
    ·rw [Z0w.mp he];exact ⟨ox2.nm,B0g (by lia) (by lia)⟩
   ·rw [Z14,hyi];exact B1t (Paired.mapP pix λy e h=>h.imp id λh=>⟨h.1,sub6 _ h.2⟩) (.cons cx6 .nil)
   ·by_cases hk:k<ix.length
    ·rw [Z26 hk] at he;exact oix k y' e hy' he
    ·have hk2:k=i:=by have:=(Z03.mp he).1;simp at this;lia
     subst hk2;rw [hyi] at hy';cases hy';rw [<-lix,Z1l (Z09 _)] at he;simp at he;subst he;exact ⟨λh=>ca6 (by lia),λh=>cb6 (by lia)⟩
  ·rintro Z H3 zz;refine e0g zz ?_;clear zz;rintro r' o8 o9 o10 o11 iv gv ix gt ⟨rfl,s3,hi3,hg3,pi,pg,lix,lgt,okx,okg,dkg,gsc,pix,oix⟩;rw [Z08] at lix lgt pix;rw [Z18] at pix;refine i13 _ rfl q _ _ _ rfl rfl (SqT.of (s3 _ _ hq)) rfl (i06 _ rfl (A0t rfl) λtp htp=> ?_);have sT:=A0f (o:= .tup [.str "read",.str an,.ref il]) htp;have eT:upd H3 tp (.tup [.str "read",.str an,.ref il]) tp=some (.tup [.str "read",.str an,.ref il]):=A0b;generalize upd H3 tp (.tup [.str "read",.str an,.ref il])=H4 at sT eT;have s4:=s3.trans sT;have f3:=fr.same s3;have rix:Rep (A1d S H4) (.ref il) (A5w ix):= .lst (A0j Sil (sT _ _ hi3)) (B0n (Paired.mapP pi λv e ⟨q,e1,e2,e3⟩=>(i02 q e1 (A0j e2 (sT _ _ e3)))));refine i02 _ rfl (i0e _ rfl _ rfl ⟨.ref tp,(i1d gl d r' gv gt (.read an ix) lk S rfl (fr.same s4) (B9x (A0j (f3 tp htp) eT) rix) (i00 lan.1 (by lia) okx) lan.2 (sT _ _ hg3) (i09 (Paired.mapP pg λv e ⟨q,e1,e2⟩=>(i02 q e1 (sT _ _ e2))) okg (s4 _ _ hd) dkg λv' u' H5 s5 rp wu tu du gp=>k v' u' H5 (s4.trans s5) rp wu tu ?_ ?_))⟩)
   ·have:dep (.read an ix)=1:=rfl
    lia
   ·intro okn ok nm hok
    have tr:A6i nm scn (.read an ix):=λe he=>by
     obtain ⟨j,hj,ej⟩:=List.mem_iff_getElem.mp he;obtain ⟨y,_,h⟩:=A6s pix (Z0b hj);rw [ej] at h;exact h.imp (·.1) (·.1)
    refine ⟨gp.ti nm scn gsc tr,λρ hr=>gp.sf okn ok ρ (λe he=>hr.2 _ (gsc e he)) λhg=>hok ρ hr _ (C8h hr.1 hg pix) λhn=> ?_⟩;rcases hst with ⟨e,_⟩ | ⟨_,b1,b2,_⟩
    ·exact absurd e hn
    ·obtain ⟨n,rfl⟩:=Int.eq_ofNat_of_zero_le b1;exact B4v (n:=n) (by lia) (by lia) λk y e hy he=>⟨λh=>(oix k y e hy he).1 (by lia),λh=>(oix k y e hy he).2 (by lia)⟩
def D0x (H:Hp) (lk:List (Key×V)) (a:Addr) (es:List (Str×List Str)):Prop:=∃avs,H a=some (.lst avs)/\Paired (C8v H lk) avs es/\es.length<=100
def B7l:Sp:=λvs H Q _=>∃(r:Int) (ar sc d:Addr) (es:List (Str×List Str)) (scn:List Str) (lk:List (Key×V)) (S:Addr->Prop),vs=[.int r,.ref ar,.ref sc,.ref d]/\D0x H lk ar es/\1<=es.length/\C5c H lk sc scn/\1<=scn.length/\H d=some (.dK lk)/\Fr S H/\D0e S lk 4 (λu'=>∀(okn ok:OkP) (nm:List Str),SfT (lnL lk) okn ok nm scn u') H Q
theorem B7k (T:Txt K mg t):FO P w base T.kr 2 B7l:=by
 have Gc8:= @A4x P w K mg base t T;refine T.kr.F.ok A6e (by walk_at "ln") λ_ A _ s H _ Q E hr h=> ?_
 ·refine e09 h ?_;clear h;rintro r ar sc d es ⟨scn,lk,S,rfl,⟨avs,har,pav,les⟩,l1,⟨hsc,lsc,nsc,dsc⟩,l2,hd,fr,k⟩;have hu:=A7r hr;have lav:=Paired.length pav;have p1:(0:Int)<(avs.length:Int):=by lia
  have p2:(0:Int)<((scn.map V.str).length:Int):=by rw [Z08];lia
  obtain ⟨v,hv,ev⟩:=B8w (xs:=avs) (i:=r%(avs.length:Int)) (Z1v _ (by lia)) (Z1p _ p1);obtain ⟨e,he,q,al,rfl,hq,hal,lan,laa,naa,daa⟩:=B3x pav hv;obtain ⟨x,hx,ex⟩:=A5o (f:=V.str) (xs:=scn) (i:=r/7%((scn.map V.str).length:Int)) (Z1v _ (by lia)) (by have:=Z1p (r/7) p2;rw [Z08] at this⊢;exact this);have mx:=Z13 hx;obtain ⟨n,vn,n1,n60⟩:=dsc x mx;have nx:=(nsc x mx).1
  have dgr:∀{G:Hp},G d=some (.dK lk)->B0j G d (.str x) (some (.int n)):=λ{G} h=>by
   have g:=B0j.k (H:=G) (a:=d) (k:=Sum.inr x) h;rw [vn] at g;exact g
  refine i02 _ (@A0c _ _ _ _ _ (@A0l _ _ 4 _ _ _ _ A6e.nd rfl (.inl rfl) (A1f A1p (pv 1) (A0o A1w (pv 0) (A0u A0v (by rfl) T.b_ Z0r (A0a (pv 1) A0d))) (λ_ _=>rfl)) rfl (.inl rfl)) (@A0c _ _ _ _ _ (@A0l _ _ 5 _ _ _ _ A6e.nd rfl (.inr rfl) (A1f A1p (pv 2) (A0o A1w (A0o A1t (pv 0) A0e) (A0u A0v (by rfl) T.b_ Z0r (A0a (pv 2) A0d))) (λ_ _=>rfl)) rfl (.inl rfl)) (@A0c _ _ _ _ _ (@A0l _ _ 6 _ _ _ _ A6e.nd rfl (.inl rfl) (A1n (A0a A1m (A0a (A1f A1g (pv 4) A0e (λ_ _=>rfl)) (A0a (A4e (N':=["_law_name","_law_axis","_law_rest"]) (ix:=(List.replicate 1 none++[some 5,some 0])) rfl (B7u (cl:=[("_law_rest",_),("_law_axis",_)]) (xs:=["_law_rest","_law_axis"]) rfl (i00 rfl rfl trivial) rfl rfl (by decide +kernel) (by decide +kernel)) (B7a (N0:=["_law_name"]) (xs:=["_law_axis","_law_rest"]) (js:=[5,0]) (i00 (i00 rfl (.inl rfl) (by walk_at "ix")) (i00 rfl (.inl rfl) (by walk_at "ix")) trivial)) (A2g (A1f A1g (pv 4) A0e (λ_ _=>rfl))) (λ_ _ _ _=>(A0m (i:=0) C6t rfl (.inl rfl))) (λ_ _ _ _=>(A1n (A0a (pv 1) (A0a (pcl Gc8 hr T.cv (A0a (A0o A1t (pv 2) A0e) A0d)) A0d))))) A0d)))) rfl (.inl rfl)) (@A0c _ _ _ _ _ (@A1v _ _ _ _ _ _ _ _ (A0q A2x (A0o A1w (A0o A1t (pv 0) A0e) A0e) A0e (A1a _)) (@A0g _ _ _ (@A0s _ _ _ _ (A1n (A0a A1m (A0a (pv 5) (A0a (A4b hu (pv 3) (pv 5) (λ_ _=>rfl)) (A0a (A0o A2h (A4b hu (pv 3) (pv 5) (λ_ _=>rfl)) (A0o A1w (A0o A1t (pv 0) A0e) A0e)) (A0a (pv 6) (A0a (A1n (A0a A1m (A0a (pv 5) A0d))) A0d))))))))) A0x) (@A0g _ _ _ (@A0s _ _ _ _ (A1n (A0a A1m (A0a (pv 5) (A0a (A0o A4n A0e (A0o A1w (A0o A1t (pv 0) A0e) A0e)) (A0a (A4b hu (pv 3) (pv 5) (λ_ _=>rfl)) (A0a (A1n (A0a A1m (A0a (pv 5) A0d))) (A0a (pv 6) A0d))))))))))))) ?_;refine i12 _ rfl _ rfl _ rfl ar _ rfl (.inl (SqL.of har)) (i0l _ _ rfl rfl p1 (i0y ar _ _ _ rfl rfl (SqL.of har) ev ?_));refine i0w _ rfl _ rfl _ _ rfl rfl ⟨⟨by decide,by decide⟩,(i0n _ rfl sc _ rfl (.inl (SqL.of hsc)) (i0l _ _ rfl rfl p2 (i0y sc _ _ _ rfl rfl (SqL.of hsc) ex ?_)))⟩;refine i13 _ rfl q _ _ _ rfl rfl (SqT.of hq) rfl (i13 _ rfl q _ _ _ rfl rfl (SqT.of hq) rfl (i06 al rfl ⟨_,SqL.of hal⟩ λD hD=> ?_));refine A3k (K:=K) (a:=al) (D:=D) (xs:=e.2.map V.str) (λi ys G=>A1c H G/\G D=some (.lst ys)/\∃ix:List (Str×Int),Paired (λ(v:V) (e:Str×Int)=>∃q,v= .ref q/\S q/\G q=some (.tup [.str e.1,.int e.2])) ys ix/\ix.length=i/\∀e∈ix,(B3y e.1/\Sm e.2)/\e.1=x) (i0a (A0f hD) A0b [] .nil ⟨rfl,λe he=>by cases he⟩) (λi ys G ⟨s,_⟩=>SqL.of (s _ _ hal)) ?_ ?_
  ·rintro i y ys G hy ⟨sG,hG,ix,pG,lix,okx⟩;have hi:=(Z03.mp hy).1;rw [Z08] at hi;have lG:=Paired.length pG;refine ⟨(i00 rfl rfl True.intro),(i0w _ rfl _ rfl _ _ rfl rfl (i05 ⟨by decide,by decide⟩ _ rfl λz hz=>⟨A0t rfl,λtp htp=> ?_⟩))⟩;have sT:=A0f (o:= .tup [.str x,.int z]) htp;have eT:upd G tp (.tup [.str x,.int z]) tp=some (.tup [.str x,.int z]):=A0b;generalize upd G tp (.tup [.str x,.int z])=G2 at sT eT;refine i09 (sT _ _ hG) (A1s (by lia)) (A0r (sG.trans sT) hD) A0b (i06 (ix++[(x,z)]) ?_ (by rw [Z06,lix];rfl) λe he=> ?_)
   ·have tD:tp≠D:=λe=>by rw [e,hG] at htp;cases htp
    exact B1t (Paired.mapP pG λv e ⟨q,e1,e2,e3⟩=>(i06 q e1 e2 (by rw [A0k (A3p e3 hG (by intro h;cases h))];exact sT _ _ e3))) (.cons (i06 tp rfl ((fr.same sG) tp htp) (by rw [A0k tD];exact eT)) .nil)
   ·rcases Z07.mp he with he | he
    ·exact okx e he
    ·rw [Z0w.mp he];exact ⟨⟨nx,hz⟩,rfl⟩
  rintro ys G ⟨sG,hG,ix,pG,lix,okx⟩;rw [Z08] at lix;refine ⟨A0t rfl,λtp htp=> ?_⟩;have fG:=fr.same sG;have sT:=A0f (o:= .tup [.str "read",.str e.1,.ref D]) htp;have eT:upd G tp (.tup [.str "read",.str e.1,.ref D]) tp=some (.tup [.str "read",.str e.1,.ref D]):=A0b;generalize upd G tp (.tup [.str "read",.str e.1,.ref D])=G2 at sT eT;have rd:Rep (A1d S G2) (.ref tp) (A2c (.read e.1 ix)):=B9x (A0j (fG tp htp) eT) (.lst (A0j (fr D hD) (sT _ _ hG)) (B0n (Paired.mapP pG λv e ⟨q,e1,e2,e3⟩=>(i02 q e1 (A0j e2 (sT _ _ e3))))));have s2:=sG.trans sT;have f2:=fr.same s2;have wr:TmW (.read e.1 ix):=(i00 lan.1 (by lia) λe he=>(okx e he).1);have hd2:=s2 _ _ hd;have lnx:=A6u vn;have tr:∀nm,A6i nm scn (.read e.1 ix):=λnm f hf=> .inr (by rw [(okx f hf).2];exact mx);refine i02 _ rfl (i10 _ _ rfl rfl ⟨by decide,by decide⟩ _ _ rfl rfl (i0a D6r rfl _ rfl (D1b (λ_=> ?_) (λ_=> ?_))))
  ·refine i12 _ rfl _ rfl _ rfl d _ rfl (dgr hd2) (i0w _ rfl _ rfl d _ rfl (dgr hd2) (i0r _ rfl _ _ rfl rfl ⟨by decide,by decide⟩ (i10 _ _ rfl rfl E1b _ _ rfl rfl (i0k _ rfl _ rfl (A0t rfl) λq1 hq1=>⟨A0t rfl,λq2 hq2=> ?_⟩))));have sA:=A0f (o:= .tup [.str "place",.str x]) hq1;have sB:=A0f (o:= .tup [.str "guard",.str x,.int n,.int (n+r/99%5),.ref tp,.ref q1]) hq2;refine k _ (.guard x n (n+r/99%5) (.read e.1 ix) (.place x)) _ (s2.trans (sA.trans sB)) (A8k (A0j (f2 q2 (sA.free hq2)) A0b) (rd.same (A0i (sA.trans sB))) (B2a (A0j (f2 q1 hq1) (sB _ _ A0b)))) (i09 nx (B0g (by lia) (by lia)) (B0g (by lia) (by lia)) wr nx) (i00 (dk1 vn n1 n60) lan.2 True.intro) (by simp only [dep];lia) λokn ok nm=>⟨(i00 mx (tr nm) mx),λρ hr=>⟨λh=>absurd h.1 ?_,λ_=>True.intro⟩⟩;have:=(hr.2 x mx).2
   lia
  ·refine i0w _ rfl _ rfl _ _ rfl rfl ⟨⟨by decide,by decide⟩,(i10 _ _ rfl rfl D2h _ _ rfl rfl (i0w _ rfl _ rfl d _ rfl (dgr hd2) (i06 _ rfl (A0t rfl) λq1 hq1=>(i06 _ rfl (A0t rfl) λq2 hq2=> ?_))))⟩;have sA:=A0f (o:= .tup [.str "place",.str x]) hq1;have sB:=A0f (o:= .tup [.str "guard",.str x,.int (0-r/99%3),.int n,.ref q1,.ref tp]) hq2;refine k _ (.guard x (0-r/99%3) n (.place x) (.read e.1 ix)) _ (s2.trans (sA.trans sB)) (A8k (A0j (f2 q2 (sA.free hq2)) A0b) (B2a (A0j (f2 q1 hq1) (sB _ _ A0b))) (rd.same (A0i (sA.trans sB)))) (i09 nx (B0g (by lia) (by lia)) (B0g (by lia) (by lia)) nx wr) (i00 (dk1 vn n1 n60) True.intro lan.2) (by simp only [dep];lia) λokn ok nm=>⟨(i00 mx mx (tr nm)),λρ hr=>⟨λ_=>True.intro,λh=>absurd ⟨?_,?_⟩ h⟩⟩
   ·have:=(hr.2 x mx).1
    lia
   ·have:=(hr.2 x mx).2
    lia
def D2b (H:Hp) (lk:List (Key×V)) (v:V) (own:Option (Str×List Str)):Prop:=(v= .non/\own=none)\/∃e,C8v H lk v e/\own=some e
theorem D2b.same (h:D2b H lk v own) (s:A1c H H'):D2b H' lk v own:=by
 rcases h with h | ⟨e,h,h2⟩
 ·exact .inl h
 ·exact .inr (i02 e (h.same s) h2)
def okA (L:Str->Int) (es:List (Str×List Str)):OkP:=λ_ a c=>∃e∈es,e.1=a/\inC L e.2 c
def okO (L:Str->Int) (es:List (Str×List Str)) (own:Option (Str×List Str)):OkP:=λρ a c=>okA L es ρ a c\/∃e,own=some e/\a=e.1/\inC L e.2 c/\B0f c (e.2.map ρ)
def LfZ (lk:List (Key×V)) (es:List (Str×List Str)) (own:Option (Str×List Str)) (nm scn:List Str) (u:Tm):Prop:=SfT (lnL lk) (okA (lnL lk) es) (okO (lnL lk) es own) nm scn u
def OwS (own:Option (Str×List Str)) (scn:List Str):Prop:=∀e,own=some e->∀x∈e.2,x∈scn
def B7h:Sp:=λvs H Q _=>∃(r:Int) (ar sc d:Addr) (ow:V) (own:Option (Str×List Str)) (es:List (Str×List Str)) (scn:List Str) (lk:List (Key×V)) (S:Addr->Prop),vs=[.int r,.ref ar,.ref sc,.ref d,ow]/\D0x H lk ar es/\C5c H lk sc scn/\H d=some (.dK lk)/\D2b H lk ow own/\OwS own scn/\Fr S H/\D0e S lk 4 (λu=>∀nm,LfZ lk es own nm scn u) H Q
theorem C7v {t3:TT} (hF:Q false H) (e1:∀Q':Bool->Hp->Prop,Q' d1 H->t1 Z H Q') (e2:∀Q':Bool->Hp->Prop,Q' d2 H->t2 Z H Q') (e3:Q false H->d1=true->d2=true->t3 Z H Q):D2j t1 (D2j t2 t3) Z H Q:=by
 refine e1 _ ?_
 cases d1 with
 | false=>exact A2o hF
 | true =>
  refine A5z (e2 _ ?_)
  cases d2 with
  | false=>exact A2o hF
  | true=>exact A5z (e3 hF rfl rfl)
theorem B7m (T:Txt K mg t):FO P w base T.ij 4 B7h:=by
 have Gc8:= @A4x P w K mg base t T;have Gd0:= @B8n P w K mg base t T;have Gd1:= @B7k P w K mg base t T;refine T.ij.F.ok A7z (by walk_at "ln") λ_ A _ s H _ Q E hr h=> ?_
 ·refine e0g h ?_;clear h;rintro r ar sc d ow own es scn lk ⟨S,rfl,has,hsc,hd,how,ows,fr,k⟩;obtain ⟨avs,har,pav,les⟩:=id has;obtain ⟨hsl,lsc,nsc,dsc⟩:=id hsc;have lav:=Paired.length pav;refine i02 _ (@A0c _ _ _ _ _ (@A0l _ _ 5 _ _ _ _ A7z.nd rfl (.inl rfl) (A0o A1w (pv 0) A0e) rfl (.inl rfl)) (@A0c _ _ _ _ _ (@A0l _ _ 0 _ _ _ _ A7z.nd rfl (.inl rfl) (A0o A1t (pv 0) A0e) rfl (.inl rfl)) (@A0c _ _ _ _ _ (@A1v _ _ _ _ _ _ _ _ (PW.pt (A4a (A0q A7q (pv 5) A0e (A1a _)) (A4a (A0q C7b (pv 4) A6p (A1a _)) (A4g (A0q A7q (A0u A0v (by rfl) T.b_ Z0r (A0a (A1f A1g (pv 4) A0e (λ_ _=>rfl)) A0d)) A0e (A1a _)))))) (@A0g _ _ _ (@A0s _ _ _ _ (pcl Gd0 hr T.ir (A0a (pv 0) (A0a (pv 4) (A0a (pv 2) (A0a (pv 3) (A0a (A1f A1g (pv 4) A0e (λ_ _=>rfl)) A0d)))))))) A0x) (@A0c _ _ _ _ _ (@A1v _ _ _ _ _ _ _ _ (PW.pt (A4a (A0q A2x (pv 5) A0e (A1a _)) (A4g (A0q A7q (A0u A0v (by rfl) T.b_ Z0r (A0a (pv 2) A0d)) A0e (A1a _))))) (@A0g _ _ _ (@A0s _ _ _ _ (A1n (A0a A1m (A0a (A1f A1p (pv 2) (A0o A1w (pv 0) (A0u A0v (by rfl) T.b_ Z0r (A0a (pv 2) A0d))) (λ_ _=>rfl)) A0d))))) A0x) (@A0c _ _ _ _ _ (@A1v _ _ _ _ _ _ _ _ (PW.pt (A8z (A0q A2x (pv 5) A0e (A1a _)) (A8z (A0q A2x (A0u A0v (by rfl) T.b_ Z0r (A0a (pv 1) A0d)) A0e (A1a _)) (A8d (PW.pt (A4a (A0q A2x (A0u A0v (by rfl) T.b_ Z0r (A0a (pv 2) A0d)) A0e (A1a _)) (A4g (A0q B5e (pv 5) A0e (A1a _))))))))) (@A0g _ _ _ (@A0s _ _ _ _ (A1n (A0a A1m (A0a (pcl Gc8 hr T.cv (A0a (pv 0) A0d)) A0d))))) A0x) (@A0c _ _ _ _ _ (@A1v _ _ _ _ _ _ _ _ (A0q A2x (pv 5) A0e (A1a _)) (@A0g _ _ _ (@A0s _ _ _ _ (pcl Gd1 hr T.kr (A0a (pv 0) (A0a (pv 1) (A0a (pv 2) (A0a (pv 3) A0d))))))) A0x) (@A0g _ _ _ (@A0s _ _ _ _ (pcl Gd0 hr T.ir (A0a (A0o A1t (pv 0) A0e) (A0a (A1f A1p (pv 1) (A0o A1w (pv 0) (A0u A0v (by rfl) T.b_ Z0r (A0a (pv 1) A0d))) (λ_ _=>rfl)) (A0a (pv 2) (A0a (pv 3) (A0a A6p A0d)))))))))))))) ?_;refine i0r _ rfl _ _ rfl rfl D8y (i0r _ rfl _ _ rfl rfl ⟨by decide,by decide⟩ ?_);have w0:0<=r%8/\r%8<8:=by lia
  dsimp only [A6x,D2s,D5h];refine C7v (d1:=decide (4<r%8)) (d2:= ! decide (ow= .non)) ?_ (λQ' q=>(i02 _ rfl (i0p _ _ rfl rfl _ rfl q))) (λQ' q=>(i0j _ rfl rfl _ rfl q)) (λhF _ hn=> ?_)
  ·refine A2o ?_;dsimp only [C7k,D2s,D5h];refine B2i (d1:=decide (r%8=1)) (d2:=decide (0<scn.length)) (λQ' q=>(i0j _ rfl rfl _ rfl (by rw [show decide (V.int (r%8)=V.int 1)=decide (r%8=1) from decide_eq_decide.mpr ⟨λh=>V.int.inj h,λh=>by rw [h]⟩];exact q))) (λQ' q=>(i0n _ rfl sc _ rfl (.inl (SqL.of hsl)) (i0p _ _ rfl rfl _ rfl (by rw [show decide ((0:Int)<((scn.map V.str).length:Int))=decide (0<scn.length) from decide_eq_decide.mpr (by rw [Z08];lia)];exact q)))) ?_
   cases hp:(decide (r%8=1)&&decide (0<scn.length)) with
   | true =>
    have hp2:0<scn.length:=by simp at hp;lia
    have p2:(0:Int)<((scn.map V.str).length:Int):=by rw [Z08];lia
    obtain ⟨x,hx,ex⟩:=A5o (f:=V.str) (xs:=scn) (i:=r/8%((scn.map V.str).length:Int)) (Z1v _ (by lia)) (by have:=Z1p (r/8) p2;rw [Z08] at this⊢;exact this);refine A5z (i12 _ rfl _ rfl _ rfl sc _ rfl (.inl (SqL.of hsl)) (i0l _ _ rfl rfl p2 (i11 sc _ _ _ rfl rfl (SqL.of hsl) ex (A0t rfl) λq1 hq1=> ?_)));exact k _ (.place x) _ (A0f hq1) (B2a (A0j (fr q1 hq1) A0b)) (nsc x (Z13 hx)).1 True.intro (by show 1<=4;lia) λnm=>⟨Z13 hx,λ_ _=>True.intro⟩
   | false =>
    refine A2o ?_;have de:∀c:Int,decide (V.int (r%8)=V.int c)=decide (r%8=c):=λc=>decide_eq_decide.mpr ⟨λh=>V.int.inj h,λh=>by rw [h]⟩;have dl:∀{α:Type} (xs:List α),decide (V.int (xs.length:Int)=V.int 0)=decide (xs.length=0):=λxs=>decide_eq_decide.mpr ⟨λh=>by have:=V.int.inj h;lia,λh=>by rw [h];rfl⟩;refine D9r (d1:=decide (r%8=0)) (d2:=decide (avs.length=0)) (d3:=decide ((scn.map V.str).length=0)&&decide (r%8<3)) (λQ' q=>(i0j _ rfl rfl _ rfl (by rw [de];exact q))) (λQ' q=>(i0n _ rfl ar _ rfl (.inl (SqL.of har)) (i05 rfl _ rfl (by rw [dl];exact q)))) (λQ' q=>B2i (d1:=decide ((scn.map V.str).length=0)) (d2:=decide (r%8<3)) (λQ' q=>(i0n _ rfl sc _ rfl (.inl (SqL.of hsl)) (i05 rfl _ rfl (by rw [dl];exact q)))) (λQ' q=>(i02 _ rfl (i0p _ _ rfl rfl _ rfl q))) q) ?_
    cases ho:(decide (r%8=0)||(decide (avs.length=0)||(decide ((scn.map V.str).length=0)&&decide (r%8<3)))) with
    | true =>
     refine A5z (i0e _ rfl _ rfl λz hz=>⟨A0t rfl,λq1 hq1=> ?_⟩);exact k _ (.num z) _ (A0f hq1) (C1r (A0j (fr q1 hq1) A0b)) hz True.intro (by show 1<=4;lia) λnm=>⟨True.intro,λ_ _=>True.intro⟩
    | false =>
     simp only [Bool.or_eq_false_iff,Bool.and_eq_false_iff,decide_eq_false_iff_not,Z08] at ho;obtain ⟨h0,h1,h2⟩:=ho;refine A2o (i0j _ rfl rfl _ rfl (A4v (λhw=> ?_) (λ_=> ?_)))
     ·have hw:r%8=2:=V.int.inj hw;exact i0e _ rfl _ rfl (i0e _ rfl _ rfl (i1d _ ar sc d es scn lk S rfl has (by lia) hsc (by lia) hd ⟨fr,λv' u' H' s rp wu tu du rd=>k v' u' H' s rp wu tu du λnm=>rd _ _ nm⟩))
     ·have p1:(0:Int)<(avs.length:Int):=by lia
      obtain ⟨v,hv,ev⟩:=B8w (xs:=avs) (i:=r/8%(avs.length:Int)) (Z1v _ (by lia)) (Z1p _ p1);obtain ⟨e,he,q,al,rfl,hq,hal,lan,laa,naa,daa⟩:=B3x pav hv;exact i0r _ rfl _ _ rfl rfl ⟨by decide,by decide⟩ (i12 _ rfl _ rfl _ rfl ar _ rfl (.inl (SqL.of har)) (i0l _ _ rfl rfl p1 (i0y ar _ _ _ rfl rfl (SqL.of har) ev (i0e _ rfl _ rfl (i08 _ q al (i1d sc d e.1 e.2 scn .non lk S rfl hq hal lan laa naa (i0h daa hsc hd (.inl rfl) fr λv' u' H' s rp wu tu du rd=>k v' u' H' s rp wu tu du λnm=>rd _ _ nm λρ hr c hc _=> .inl (i06 e (Z13 he) rfl hc))))))))
  ·rcases how with ⟨rfl,_⟩ | ⟨e,⟨q,al,rfl,hq,hal,lan,laa,naa,daa⟩,rfl⟩
   ·cases hn
   refine i0z _ rfl q _ _ _ rfl rfl (SqT.of hq) (i0i rfl al _ rfl (.inl (SqL.of hal)) (i0p _ _ rfl rfl _ rfl ?_));by_cases hl:(0:Int)<((e.2.map V.str).length:Int)
   ·rw [Z20 hl];rw [Z08] at hl;exact A5z (i02 _ rfl (i0e _ rfl _ rfl (i17 _ rfl _ rfl q _ _ _ rfl rfl (SqT.of hq) rfl (i08 _ q al (i1d sc d e.1 e.2 scn (.ref al) lk S rfl hq hal lan laa naa (i0h daa hsc hd (.inr (i00 rfl (by lia) (ows e rfl))) fr λv' u' H' s rp wu tu du rd=>k v' u' H' s rp wu tu du λnm=>rd _ _ nm λρ hr c hc ha=> .inr (i0c e rfl rfl hc (ha (by intro h;cases h)))))))))
   ·rw [Z1j hl];exact hF
def tg:Tm->Str
 | .num _=>"number"
 | .place _=>"place"
 | .read _ _=>"read"
 | .sum _ _=>"sum"
 | .pair k _ _=>opS k
 | .guard _ _ _ _ _=>"guard"
theorem B3t (h:Rep H v (A2c u)):∃q vs,v= .ref q/\H q=some (.tup (.str (tg u)::vs)):=by
 cases u <;> (unfold A2c at h;cases h with | @tup p xs _ e r=>cases r with | cons a r=>cases a;exact i07 p _ rfl e)
theorem B0e {l r:Tm} (h:Rep H v (A2c (.guard x lo hi l r))):∃q a b,v= .ref q/\H q=some (.tup [.str "guard",.str x,.int lo,.int hi,a,b])/\Rep H a (A2c l)/\Rep H b (A2c r):=by
 unfold A2c at h
 cases h with
 | @tup p xs _ e r =>
  cases r with
  | cons a r =>
   cases a
   cases r with
   | cons a r =>
    cases a
    cases r with
    | cons a r =>
     cases a
     cases r with
     | cons a r =>
      cases a
      cases r with
      | cons r1 r =>
       cases r with
       | cons r2 r =>
        cases r
        exact i0q p _ _ rfl e r1 r2
theorem D1f (k:Op3):¬opS k="guard"/\¬opS k="number":=by cases k <;> exact ⟨by decide +kernel,by decide +kernel⟩
theorem C7d (h:tg u="guard"):∃x lo hi l r,u= .guard x lo hi l r:=by
 cases u with
 | guard x lo hi l r=>exact i03 x lo (i08 hi l r rfl)
 | num _=>exact absurd h (show¬("number":Str)="guard" by decide +kernel)
 | place _=>exact absurd h (show¬("place":Str)="guard" by decide +kernel)
 | read _ _=>exact absurd h (show¬("read":Str)="guard" by decide +kernel)
 | sum _ _=>exact absurd h (show¬("sum":Str)="guard" by decide +kernel)
 | pair k _ _=>exact absurd h (D1f k).1
theorem D2n (h:tg u="number"):∃z,u= .num z:=by
 cases u with
 | num z=>exact ⟨z,rfl⟩
 | guard _ _ _ _ _=>exact absurd h (show¬("guard":Str)="number" by decide +kernel)
 | place _=>exact absurd h (show¬("place":Str)="number" by decide +kernel)
 | read _ _=>exact absurd h (show¬("read":Str)="number" by decide +kernel)
 | sum _ _=>exact absurd h (show¬("sum":Str)="number" by decide +kernel)
 | pair k _ _=>exact absurd h (D1f k).2
def KpR (S:Addr->Prop) (lk:List (Key×V)) (H:Hp) (v:V) (e:G3):Prop:=∃(q:Addr) (z:Int) (a b:V),v= .ref q/\H q=some (.tup [.str "guard",.str e.1,.int e.2.1,.int e.2.2,a,b])/\Rep (A1d S H) b (A2c (.num z))/\Sm z/\B3y e.1/\Sm e.2.1/\Sm e.2.2/\B1j lk [e.1]
theorem KpR.same {e:G3} (h:KpR S lk H v e) (s:A1c H H'):KpR S lk H' v e:=by
 obtain ⟨q,z,a,b,rfl,e,r,m⟩:=h;exact ⟨q,(i0q z a b rfl (s _ _ e) (r.same (A0i s)) m)⟩
theorem GdP.perm {gs':List G3} {v:Tm} (h:GdP lk gs u v) (hp:∀e,e∈gs↔e∈gs'):GdP lk gs' u v:=⟨λnm sc hg=>h.ti nm sc λe he=>hg e ((hp e).mp he),λokn ok ρ hr hs=>h.sf okn ok ρ (λe he=>hr e ((hp e).mp he)) λhg=>hs λe he=>hg e ((hp e).mpr he)⟩
theorem GdP.out {v:Tm} {e:G3} {z:Int} (h:GdP lk gs u v) (hh:∀y:Int,0<=y->y<lnL lk e.1->¬(lo<=y/\y<hi)->e.2.1<=y/\y<e.2.2):GdP lk (gs++[e]) u (.guard e.1 lo hi (.num z) v):=by
 refine ⟨λnm sc hg ht=>(i00 (hg e (by simp)) True.intro (h.ti nm sc (λf hf=>hg f (by simp [hf])) ht)),λokn ok ρ hr hs=>⟨λ_=>True.intro,λhe=> ?_⟩⟩;have:=hr e (by simp);exact h.sf okn ok ρ (λf hf=>hr f (by simp [hf])) λhg=>hs (A6g hg (hh _ this.1 this.2 he))
theorem B5j {α:Type} {xs:List α} {y:α}:∀e,e∈xs++[y]↔e∈y::xs:=λe=>by
 constructor
 ·intro h;rcases Z07.mp h with h | h
  ·exact .tail _ h
  ·rw [Z0w.mp h];exact .head _
 ·intro h;rcases Z0e.mp h with h | h
  ·rw [h];exact Z07.mpr (.inr (.head _))
  ·exact Z07.mpr (.inl h)
structure KpI (L:Str->Int) (x:Str) (u:Tm) (kd:List G3) (b:Tm):Prop where
 ti:∀nm sc,A6i nm sc u->A6i nm sc b/\∀e∈kd,e.1∈sc
 sf:∀(okn ok:OkP) (ρ:Env),A3c L okn ok ρ u->(∀e∈kd,e.2.1<=ρ e.1/\ρ e.1<e.2.2)->A3c L okn ok ρ b
 ne:∀e∈kd,¬e.1=x
theorem KpI.nil:KpI L x u [] u:=⟨λ_ _ h=>⟨h,λe he=>by cases he⟩,λ_ _ _ h _=>h,λe he=>by cases he⟩
theorem KpI.put {l r:Tm} {kd:List G3} (h:KpI L x u kd (.guard y lo hi l r)) (hy:¬y=x):KpI L x u (kd++[(y,lo,hi)]) l:=by
 refine ⟨λnm sc ht=> ?_,λokn ok ρ hs hg=> ?_,A6g h.ne hy⟩
 ·obtain ⟨h1,h2⟩:=h.ti nm sc ht;exact ⟨h1.2.1,A6g h2 h1.1⟩
 ·exact (h.sf okn ok ρ hs λe he=>hg e (by simp [he])).1 (hg (y,lo,hi) (by simp))
def SmZ (lk:List (Key×V)) (x:Str) (u v:Tm):Prop:=∀(okn ok:OkP) (nm sc:List Str),x∈nm->x∉sc->A6i nm (sc++[x]) u->(∀ρ,InR (lnL lk) (sc++[x]) ρ->A3c (lnL lk) okn okn ρ u)->SfT (lnL lk) okn ok nm sc v
theorem smZ {v:Tm} {kd:List G3} (xn:¬x=("":Str)) (h:KpI (lnL lk) x u kd b) (g:GdP lk kd (.sum x b) v):SmZ lk x u v:=by
 intro okn ok nm sc h1 h2 ht hs;obtain ⟨t1,t2⟩:=h.ti nm _ ht
 have t3:∀e∈kd,e.1∈sc:=λe he=>by
  rcases Z07.mp (t2 e he) with z | z
  ·exact z
  ·exact absurd (Z0w.mp z) (h.ne e he)
 refine ⟨g.ti nm sc t3 (i00 h1 h2 t1),λρ hr=>g.sf okn ok ρ (λe he=>hr.2 _ (t3 e he)) λhg i i0 i1=> ?_⟩;have same:∀y,¬y=x->D7y ρ x i y=ρ y:=λy hy=>Z0t hy;have selfx:D7y ρ x i x=i:=Z12 rfl;refine h.sf okn okn _ (hs _ ⟨by rw [same _ (λz=>xn z.symm)];exact hr.1,λy hy=> ?_⟩) λe he=> ?_
 ·rcases Z07.mp hy with z | z
  ·rw [same y (λq=>h2 (q▸z))];exact hr.2 y z
  ·rw [Z0w.mp z,selfx];exact ⟨i0,i1⟩
 ·rw [same e.1 (h.ne e he)];exact hg e he
def C0q:Sp:=λvs H Q _=>∃(x:Str) (v:V) (r:Int) (d:Addr) (u:Tm) (lk:List (Key×V)) (S:Addr->Prop) (n:Nat),vs=[.str x,v,.int r,.ref d]/\B3y x/\¬x=("":Str)/\B1j lk [x]/\H d=some (.dK lk)/\Fr S H/\Rep (A1d S H) v (A2c u)/\TmW u/\TmL lk u/\dep u<=n/\n<=1000/\D0e S lk (n+1) (SmZ lk x u) H Q
theorem D9m {t3:TT} {d3:Bool} (e1:∀Q':Bool->Hp->Prop,Q' d1 H->t1 Z H Q') (e2:∀Q':Bool->Hp->Prop,Q' d2 H->t2 Z H Q') (e3:∀Q':Bool->Hp->Prop,Q' d3 H->t3 Z H Q') (h:Q (d1&&(d2&&d3)) H):D2j t1 (D2j t2 t3) Z H Q:=B2i e1 (λQ' q=>B2i (d1:=d2) (d2:=d3) e2 e3 q) h
theorem C0l (T:Txt K mg t):FO P w base T.jg 1 C0q:=by
 refine T.jg.F.ok A3s (by walk_at "ln") λ_ A _ s H _ Q E hr h=> ?_
 ·refine e09 h ?_;clear h;rintro x v r d u ⟨lk,S,n,rfl,nx,xn,dx,hd,fr,rp,wu,tu,du,n1000,k⟩;have hu:=A7r hr;refine i02 _ (@A0c _ _ _ _ _ (@A0l _ _ 4 _ _ _ _ A3s.nd rfl (.inl rfl) (@A1z _ _ _ _ A0d) rfl (.inl rfl)) (@A0c _ _ _ _ _ (@B0h _ _ _ _ _ _ PassesOwn.never (PW.pt (A4a (A0q A7q (A0o A1w (pv 2) A0e) A0e (A1a _)) (A4a (A0q A2x (A1f A1g (pv 1) A0e (λ_ _=>rfl)) A1m (A1a _)) (A4a (A0q D0t (A1f A1g (pv 1) A0e (λ_ _=>rfl)) (pv 0) (A1a _)) (A4g (A0q A2x (A1f A1g (A1f A1g (pv 1) A0e (λ_ _=>rfl)) A0e (λ_ _=>rfl)) A1m (A1a _))))))) (@A0c _ _ _ _ _ (A3n (A7p Z0k Z0n Z0o A2l (pv 4) (A0a (pv 1) A0d))) (@A0g _ _ _ (@A0l _ _ 1 _ _ _ _ A3s.nd rfl (.inl rfl) (A1f A1g (pv 1) A0e (λ_ _=>rfl)) rfl (.inl rfl))))) (@A0c _ _ _ _ _ (@A0l _ _ 5 _ _ _ _ A3s.nd rfl (.inl rfl) (A1n (A0a A1m (A0a (pv 0) (A0a (pv 1) A0d)))) rfl (.inl rfl)) (@A0c _ _ _ _ _ (A2y PassesOwn.never rfl (C8e rfl T.n_ (A0a (pv 4) A0d)) (A0m (i:=6) A3s.nd rfl (.inl rfl)) (@A0g _ _ _ (@A1v _ _ _ _ _ _ _ _ (PW.pt (A4a (A0q A2x (A0o A1w (pv 2) A0e) A0e (A1a _)) (A4a (A0q A7q (A1f A1g (pv 6) A0e (λ_ _=>rfl)) A0e (A1a _)) (A4g (A0q E0p (A1f A1g (pv 6) A0e (λ_ _=>rfl)) (A4b hu (pv 3) (A1f A1g (pv 6) A0e (λ_ _=>rfl)) (λ_ _=>rfl)) (A1a _)))))) (@A0g _ _ _ (@A0l _ _ 5 _ _ _ _ A3s.nd rfl (.inl rfl) (A1n (A0a A1m (A0a (A1f A1g (pv 6) A0e (λ_ _=>rfl)) (A0a A0e (A0a (A1f A1g (pv 6) A0e (λ_ _=>rfl)) (A0a (A1f A1g (pv 6) A0e (λ_ _=>rfl)) (A0a (pv 5) A0d))))))) rfl (.inl rfl))) (@A0g _ _ _ (@A1v _ _ _ _ _ _ _ _ (PW.pt (A4a (A0q A2x (A0o A1w (pv 2) A0e) A0e (A1a _)) (A4g (A0q C9g (A1f A1g (pv 6) A0e (λ_ _=>rfl)) A0e (A1a _))))) (@A0g _ _ _ (@A0l _ _ 5 _ _ _ _ A3s.nd rfl (.inl rfl) (A1n (A0a A1m (A0a (A1f A1g (pv 6) A0e (λ_ _=>rfl)) (A0a (A1f A1g (pv 6) A0e (λ_ _=>rfl)) (A0a (A4b hu (pv 3) (A1f A1g (pv 6) A0e (λ_ _=>rfl)) (λ_ _=>rfl)) (A0a (A1f A1g (pv 6) A0e (λ_ _=>rfl)) (A0a (pv 5) A0d))))))) rfl (.inl rfl))) (@A0g _ _ _ (@A0l _ _ 5 _ _ _ _ A3s.nd rfl (.inl rfl) (A1n (A0a A1m (A0a (A1f A1g (pv 6) A0e (λ_ _=>rfl)) (A0a (A1f A1g (pv 6) A0e (λ_ _=>rfl)) (A0a (A1f A1g (pv 6) A0e (λ_ _=>rfl)) (A0a (pv 5) (A0a (A1f A1g (pv 6) A0e (λ_ _=>rfl)) A0d))))))) rfl (.inl rfl)))))))) (@A0g _ _ _ (@A0s _ _ _ _ (pv 5))))))) ?_;refine ⟨A0t rfl,λol hol=> ?_⟩;have s1:A1c H (upd H ol (.lst [])):=A0f hol;refine i02 (λm Z H2=>∃(v':V) (u':Tm) (ks:List V) (kd:List G3),Z=[Sso x,some v',Sio r,Sro d,Sro ol,none,none]/\A1c H H2/\H2 ol=some (.lst ks)/\Paired (KpR S lk H) ks kd/\Rep (A1d S H) v' (A2c u')/\TmW u'/\TmL lk u'/\ks.length+dep u'<=n/\m=dep u'/\KpI (lnL lk) x u kd u') (i14 (dep u) v u [] [] rfl s1 A0b .nil rp (i09 wu tu (by show 0+dep u<=n;lia) rfl .nil)) ?_;rintro m Z H2 ⟨v',u',ks,kd,rfl,s2,h2,kp,rp2,wu2,tu2,du2,rfl,ki⟩;have lks:=Paired.length kp;obtain ⟨q,vs,rfl,eq⟩:=B3t rp2;have eq:=A1b _ _ eq;have dp:=A5x u';have dt:∀(a b:Str),decide (V.str a=V.str b)=decide (a=b):=λa b=>decide_eq_decide.mpr ⟨λh=>V.str.inj h,λh=>by rw [h]⟩;refine C7v (d1:=decide (0<r%4)) (d2:=decide (tg u'="guard")) ?_ (λQ' q=>(i0r _ rfl _ _ rfl rfl D6l (i0p _ _ rfl rfl _ rfl q))) (λQ' qq=>(i1b _ rfl q _ _ _ rfl rfl (SqT.of (s2 _ _ eq)) (A3g (j:=0) rfl) rfl _ rfl (by rw [dt];exact qq))) (λhF _ h2'=> ?_)
  ·refine A2o ?_;refine i0k _ rfl _ rfl (A0t rfl) λtp htp=> ?_;have sT:=A0f (o:= .tup [.str "sum",.str x,.ref q]) htp;have eT:upd H2 tp (.tup [.str "sum",.str x,.ref q]) tp=some (.tup [.str "sum",.str x,.ref q]):=A0b;generalize upd H2 tp (.tup [.str "sum",.str x,.ref q])=H3 at sT eT;have s3:=s2.trans sT;have h3:=sT _ _ h2;have f2:=fr.same s2;refine i0n _ rfl ol _ rfl (SqL.of h3) ?_;refine C0b (K:=K) (a:=ol) (xs:=ks) (λi Z G=>∃(v3:V) (u3:Tm) (o6:Option V),Z=[Sso x,Sro q,Sio r,Sro d,Sro ol,some v3,o6]/\A1c H G/\G ol=some (.lst ks)/\Rep (A1d S G) v3 (A2c u3)/\TmW u3/\TmL lk u3/\dep u3<=dep u'+1+i/\GdP lk (kd.drop (kd.length-i)) (.sum x u') u3) (i0m (.ref tp) (.sum x u') none rfl s3 (i0h h3 (D1o (A0j (f2 tp htp) eT) (rp2.same (A0i s3))) ⟨nx,wu2⟩ ⟨dx,tu2⟩ (by simp only [dep];lia) (by rw [Nat.sub_zero,Z2i];exact .nil))) (by rintro i Z G ⟨_,_,_,_,_,hG,_⟩;exact SqL.of hG) ?_ ?_
   ·rintro i y Z G hi hy ⟨v3,u3,o6,rfl,sG,hG,rp3,wu3,tu3,du3,gp3⟩;obtain ⟨e,he,hke⟩:=B3x kp hy;obtain ⟨qk,z,a,b,rfl,ek,rb,hz,nk,slo,shi,dk⟩:=hke.same sG;have hlt:=(Z03.mp he).1
    have ed:kd.drop (kd.length-(i+1))=e::kd.drop (kd.length-i):=by
     have e1:kd.length-(i+1)=ks.length-1-i:=by lia
     have e2:kd.length-i=ks.length-1-i+1:=by lia
     rw [e1,e2,Z1u hlt];rw [Z0b hlt] at he;rw [Z1a he]
    rw [ed];obtain ⟨xk,lo,hi'⟩:=e;obtain ⟨nn,vn,n1,n60⟩:=dk xk (by simp);have dg:=B0j.k (H:=G) (a:=d) (k:=Sum.inr xk) (sG _ _ hd);rw [vn] at dg;have lnk:lnL lk xk=nn:=A6u vn;have fG:=fr.same sG;have sk:=SqT.of (K:=K) ek
    have mk:∀(lo2 hi2:Int) (v1 v2:V) (l r':Tm) (G2:Hp) (tp2:Addr),Sm lo2->Sm hi2->Rep (A1d S G) v1 (A2c l)->Rep (A1d S G) v2 (A2c r')->TmW l->TmW r'->TmL lk l->TmL lk r'->dep l<=dep u'+1+i->dep r'<=dep u'+1+i->G tp2=none->G2=upd G tp2 (.tup [.str "guard",.str xk,.int lo2,.int hi2,v1,v2])->A1c H G2/\G2 ol=some (.lst ks)/\Rep (A1d S G2) (.ref tp2) (A2c (.guard xk lo2 hi2 l r'))/\TmW (.guard xk lo2 hi2 l r')/\TmL lk (.guard xk lo2 hi2 l r')/\dep (.guard xk lo2 hi2 l r')<=dep u'+1+(i+1):=λlo2 hi2 v1 v2 l r' G2 tp2 m1 m2 r1 r2 w1 w2 t1 t2 d1 d2 ht e=>by
     subst e;have sN:=A0f (o:= .tup [.str "guard",.str xk,.int lo2,.int hi2,v1,v2]) ht;exact i0h (sG.trans sN) (sN _ _ hG) (A8k (A0j (fG tp2 ht) A0b) (r1.same (A0i sN)) (r2.same (A0i sN))) (i09 nk m1 m2 w1 w2) (i00 dk t1 t2) (by simp only [dep];lia)
    refine D9m (d1:=decide (V.int (r%4)=V.int 1)) (d2:=decide (0<lo)) (d3:=decide (nn<=hi')) (λQ' qq=>(i0n _ rfl _ _ rfl rfl (i0a D6l rfl _ rfl qq))) (λQ' qq=>(i13 _ rfl qk _ _ _ rfl rfl sk rfl (i0p _ _ rfl rfl _ rfl qq))) (λQ' qq=>(i13 _ rfl qk _ _ _ rfl rfl sk rfl (i17 _ rfl _ rfl qk _ _ _ rfl rfl sk rfl (i0f d _ rfl dg (i0p _ _ rfl rfl _ rfl qq))))) ?_;have dn:dep (.num z)<=dep u'+1+i:=by show 1<=_;lia
    cases hb1:(decide (V.int (r%4)=V.int 1)&&(decide (0<lo)&&decide (nn<=hi'))) with
    | true =>
     simp only [Z1x,decide_eq_true_eq] at hb1;refine A5z (i13 _ rfl qk _ _ _ rfl rfl sk rfl (i13 _ rfl qk _ _ _ rfl rfl sk rfl (i13 _ rfl qk _ _ _ rfl rfl sk rfl (i06 _ rfl (A0t rfl) λtp2 ht2=> ?_))));obtain ⟨m1,m2,m3,m4,m5,m6⟩:=mk 0 lo b v3 (.num z) u3 _ tp2 sm0 slo rb rp3 hz wu3 True.intro tu3 dn du3 ht2 rfl;exact i0m _ _ _ rfl m1 (i0h m2 m3 m4 m5 m6 ((gp3.out (e:=(xk,lo,hi')) λy y0 y1 hn=>⟨by show lo<=y;lia,by have:y<lnL lk xk:=y1;show y<hi';lia⟩).perm B5j))
    | false =>
     refine A2o ?_;refine B2i (d1:=decide (V.int (r%4)=V.int 1)) (d2:=decide (lo<=0)) (λQ' qq=>(i0n _ rfl _ _ rfl rfl (i0a D6l rfl _ rfl qq))) (λQ' qq=>(i13 _ rfl qk _ _ _ rfl rfl sk rfl (i0p _ _ rfl rfl _ rfl qq))) ?_
     cases hb2:(decide (V.int (r%4)=V.int 1)&&decide (lo<=0)) with
     | true =>
      simp only [Z1x,decide_eq_true_eq] at hb2;refine A5z (i13 _ rfl qk _ _ _ rfl rfl sk rfl (i13 _ rfl qk _ _ _ rfl rfl sk rfl (i17 _ rfl _ rfl qk _ _ _ rfl rfl sk rfl (i0f d _ rfl dg (i13 _ rfl qk _ _ _ rfl rfl sk rfl (i06 _ rfl (A0t rfl) λtp2 ht2=> ?_))))));obtain ⟨m1,m2,m3,m4,m5,m6⟩:=mk hi' nn b v3 (.num z) u3 _ tp2 shi (B0g (by lia) (by lia)) rb rp3 hz wu3 True.intro tu3 dn du3 ht2 rfl;exact i0m _ _ _ rfl m1 (i0h m2 m3 m4 m5 m6 ((gp3.out (e:=(xk,lo,hi')) λy y0 y1 hn=>⟨by have:=hb2.2;show lo<=y;lia,by have:y<lnL lk xk:=y1;show y<hi';lia⟩).perm B5j))
     | false =>
      refine A2o (i13 _ rfl qk _ _ _ rfl rfl sk rfl (i13 _ rfl qk _ _ _ rfl rfl sk rfl (i13 _ rfl qk _ _ _ rfl rfl sk rfl (i1a _ rfl _ rfl qk _ _ _ rfl rfl sk rfl (A0t rfl) λtp2 ht2=> ?_))));obtain ⟨m1,m2,m3,m4,m5,m6⟩:=mk lo hi' v3 b u3 (.num z) _ tp2 slo shi rp3 rb wu3 hz tu3 True.intro du3 dn ht2 rfl;exact i0m _ _ _ rfl m1 (i0h m2 m3 m4 m5 m6 ((gp3.put (e:=(xk,lo,hi'))).perm B5j))
   ·rintro Z G ⟨v3,u3,o6,rfl,sG,hG,rp3,wu3,tu3,du3,gp3⟩;rw [lks,Nat.sub_self,List.drop_zero] at gp3;exact i02 _ rfl (k v3 u3 G sG rp3 wu3 tu3 (by lia) (smZ xn ki gp3))
  ·obtain ⟨y,lo,hi,l,rr,rfl⟩:=C7d (of_decide_eq_true h2');obtain ⟨q',a,b,e1,e2,ra,rb⟩:=B0e rp2;cases e1;obtain ⟨qb,vb,rfl,eb⟩:=B3t rb;have e20:=A1b _ _ e2;have e2:=s2 _ _ e20;have eb:=s2 _ _ (A1b _ _ eb);refine B2i (d1:= ! decide (y=x)) (d2:=decide (tg rr="number")) (λQ' qq=>(i13 _ rfl q _ _ _ rfl rfl (SqT.of e2) rfl (i0j _ rfl rfl _ rfl (by rw [dt];exact qq)))) (λQ' qq=>(i13 _ rfl q _ _ _ rfl rfl (SqT.of e2) rfl (i0y qb _ _ _ rfl rfl (SqT.of eb) (A3g (j:=0) rfl) (i05 rfl _ rfl (by rw [dt];exact qq))))) ?_
   cases hc:(! decide (y=x)&&decide (tg rr="number")) with
   | false=>exact hF
   | true =>
    simp only [Z1x,decide_eq_true_eq] at hc;obtain ⟨z,rfl⟩:=D2n hc.2;have du2:ks.length+dep (.guard y lo hi l (.num z))<=n:=du2;simp only [dep] at du2;refine A5z (i02 (λZ' H'=>∃m',m'<dep (.guard y lo hi l (.num z))/\∃(v':V) (u':Tm) (ks:List V) (kd:List G3),Z'=[some (.str x),some v',some (.int r),some (.ref d),some (.ref ol),none,none]/\A1c H H'/\H' ol=some (.lst ks)/\Paired (KpR S lk H) ks kd/\Rep (A1d S H) v' (A2c u')/\TmW u'/\TmL lk u'/\ks.length+dep u'<=n/\m'=dep u'/\KpI (lnL lk) x u kd u') (λZ' H' z=>z) ?_);refine i0j _ rfl (.inl (i01 rfl _ (SqL.of h2))) _ rfl (i0t ol _ _ rfl rfl h2 (A1s (by lia)) ?_);have qo:q≠ol:=A3p e2 h2 (by intro h;cases h);refine i13 _ rfl q _ _ _ rfl rfl (SqT.of (by rw [A0k qo];exact e2)) rfl ?_;refine i13 (dep l) (by simp only [dep];lia) a l (ks++[.ref q]) (kd++[(y,lo,hi)]) rfl (A0r s2 hol) A0b (B1t kp (.cons (i0y q z a (.ref qb) rfl e20 rb wu2.2.2.2.2 (i04 wu2.1 wu2.2.1 wu2.2.2.1 tu2.1)) .nil)) (i0h ra wu2.2.2.2.1 tu2.2.1 (by rw [Z06];simp only [Z0y,Z2g];lia) rfl (ki.put (by have:=hc.1;simpa using this)))
theorem C7t (h:Rep H v (A2c (.sum x b))):∃q a,v= .ref q/\H q=some (.tup [.str "sum",.str x,a])/\Rep H a (A2c b):=by
 unfold A2c at h
 cases h with
 | @tup p xs _ e r =>
  cases r with
  | cons a r =>
   cases a
   cases r with
   | cons a r =>
    cases a
    cases r with
    | cons r1 r =>
     cases r
     exact i0f p _ rfl e r1
theorem B5l {k:Op3} {l r:Tm} (h:Rep H v (A2c (.pair k l r))):∃q a b,v= .ref q/\H q=some (.tup [.str (opS k),a,b])/\Rep H a (A2c l)/\Rep H b (A2c r):=by
 unfold A2c at h
 cases h with
 | @tup p xs _ e r =>
  cases r with
  | cons a r =>
   cases a
   cases r with
   | cons r1 r =>
    cases r with
    | cons r2 r =>
     cases r
     exact i0q p _ _ rfl e r1 r2
def isF:Tm->Bool
 | .num _=>true
 | .place _=>true
 | .read _ _=>true
 | _=>false
theorem D3f (u:Tm):decide (tg u="sum")=isS u/\(decide (tg u="number")||(decide (tg u="place")||decide (tg u="read")))=isF u:=by
 cases u with
 | num _=>exact ⟨(show decide (("number":Str)="sum")=false by decide +kernel),(show (decide (("number":Str)="number")||(decide (("number":Str)="place")||decide (("number":Str)="read")))=true by decide +kernel)⟩
 | place _=>exact ⟨(show decide (("place":Str)="sum")=false by decide +kernel),(show (decide (("place":Str)="number")||(decide (("place":Str)="place")||decide (("place":Str)="read")))=true by decide +kernel)⟩
 | read _ _=>exact ⟨(show decide (("read":Str)="sum")=false by decide +kernel),(show (decide (("read":Str)="number")||(decide (("read":Str)="place")||decide (("read":Str)="read")))=true by decide +kernel)⟩
 | sum _ _=>exact ⟨(show decide (("sum":Str)="sum")=true by decide +kernel),(show (decide (("sum":Str)="number")||(decide (("sum":Str)="place")||decide (("sum":Str)="read")))=false by decide +kernel)⟩
 | guard _ _ _ _ _=>exact ⟨(show decide (("guard":Str)="sum")=false by decide +kernel),(show (decide (("guard":Str)="number")||(decide (("guard":Str)="place")||decide (("guard":Str)="read")))=false by decide +kernel)⟩
 | pair k _ _=>cases k with
  | plus=>exact ⟨(show decide (("plus":Str)="sum")=false by decide +kernel),(show (decide (("plus":Str)="number")||(decide (("plus":Str)="place")||decide (("plus":Str)="read")))=false by decide +kernel)⟩
  | minus=>exact ⟨(show decide (("minus":Str)="sum")=false by decide +kernel),(show (decide (("minus":Str)="number")||(decide (("minus":Str)="place")||decide (("minus":Str)="read")))=false by decide +kernel)⟩
  | times=>exact ⟨(show decide (("times":Str)="sum")=false by decide +kernel),(show (decide (("times":Str)="number")||(decide (("times":Str)="place")||decide (("times":Str)="read")))=false by decide +kernel)⟩
theorem dtS (a b:Str):decide (V.str a=V.str b)=decide (a=b):=decide_eq_decide.mpr ⟨λh=>V.str.inj h,λh=>by rw [h]⟩
def B3b (n:Nat):Sp:=λvs H Q _=>∃(v:V) (d:Addr) (u:Tm) (lk:List (Key×V)),vs=[v,.ref d]/\Rep H v (A2c u)/\TmL lk u/\H d=some (.dK lk)/\dep u<=n/\∀z:Int,(nod u:Int)<=z->z=wtM (lnL lk) u->Q (.int z) H
theorem B2r (T:Txt K mg t) (Gd2:A3h P w K mg base CX0 m t.jl t.ji C4c sp')
  (hs:∀(v:V) (d:Addr) (u:Tm) (lk:List (Key×V)) (H:Hp) (Q:VK),Rep H v (A2c u)->TmL lk u->H d=some (.dK lk)->dep u+1<=n->(∀z:Int,(nod u:Int)<=z->z=wtM (lnL lk) u->Q (.int z) H)->sp' [v,.ref d] H Q E0):A3h P w K mg base CX0 (m+1) t.jl t.ji C4c (B3b n):=by
 refine T.dy.F.ok C0o (by walk_at "ln") λ_ A _ s H _ Q E hr h=> ?_
 ·obtain ⟨v,d,u,lk,rfl,rp,tu,hd,du,k⟩:=h;have hu:=A7r hr;obtain ⟨q,vs,rfl,eq⟩:=B3t rp;obtain ⟨t1,t2⟩:=D3f u;have sq:=SqT.of (K:=K) eq;refine i02 _ (@A0c _ _ _ _ _ (@A1v _ _ _ _ _ _ _ _ (A0q A2x (A1f A1g (pv 0) A0e (λ_ _=>rfl)) A1m (A1a _)) (@A0g _ _ _ (@A0s _ _ _ _ (A0o A2h A0e (A0o A7n (A4b hu (pv 1) (A1f A1g (pv 0) A0e (λ_ _=>rfl)) (λ_ _=>rfl)) (pcl Gd2 hr T.dy (A0a (A1f A1g (pv 0) A0e (λ_ _=>rfl)) (A0a (pv 1) A0d))))))) A0x) (@A0c _ _ _ _ _ (@A1v _ _ _ _ _ _ _ _ (PW.pt (A8z (A0q A2x (A1f A1g (pv 0) A0e (λ_ _=>rfl)) A1m (A1a _)) (A8z (A0q A2x (A1f A1g (pv 0) A0e (λ_ _=>rfl)) A1m (A1a _)) (A8d (A0q A2x (A1f A1g (pv 0) A0e (λ_ _=>rfl)) A1m (A1a _)))))) (@A0g _ _ _ (@A0s _ _ _ _ A0e)) A0x) (@A0g _ _ _ (@A0s _ _ _ _ (A0o A2h (A0o A2h A0e (pcl Gd2 hr T.dy (A0a (A1f A1g (pv 0) (C3u B4q A0e) (λ_ _=>rfl)) (A0a (pv 1) A0d)))) (pcl Gd2 hr T.dy (A0a (A1f A1g (pv 0) (C3u B4q A0e) (λ_ _=>rfl)) (A0a (pv 1) A0d)))))))) ?_;refine i1b _ rfl q _ _ _ rfl rfl sq (A3g (j:=0) rfl) rfl _ rfl ?_;rw [dtS,t1]
  cases hS:isS u with
  | true =>
   cases u with
   | sum x b =>
    obtain ⟨q',a,e1,e2,ra⟩:=C7t rp;cases e1;obtain ⟨nn,vn,n1,n60⟩:=tu.1 x (by simp);have dg:=B0j.k (H:=H) (a:=d) (k:=Sum.inr x) hd;rw [vn] at dg;simp only [dep] at du;have sq:=SqT.of (K:=K) e2;refine A5z (i17 _ rfl _ rfl q _ _ _ rfl rfl sq rfl (i0f d _ rfl dg (i0z _ rfl q _ _ _ rfl rfl sq (i05 rfl _ rfl (hs a d b lk H _ ra tu.2 hd (by lia) λz hz hw=> ?_)))))
    have zn:z<=nn*z:=by
     have:0<=(nn-1)*z:=Int.mul_nonneg (by lia) (by lia);rw [Int.sub_mul,Int.one_mul] at this
     lia
    refine i10 _ _ rfl rfl (.inl ⟨by lia,by lia⟩) _ _ rfl rfl (k _ ?_ ?_)
    ·simp only [nod]
     lia
    ·show 1+nn*z=1+lnL lk x*wtM (lnL lk) b;rw [A6u vn,hw]
   | num _=>cases hS
   | place _=>cases hS
   | read _ _=>cases hS
   | pair _ _ _=>cases hS
   | guard _ _ _ _ _=>cases hS
  | false =>
   refine A2o ?_;dsimp only [C7k,D2s,D5h];refine D9r (d1:=decide (tg u="number")) (d2:=decide (tg u="place")) (d3:=decide (tg u="read")) (λQ' qq=>(i1b _ rfl q _ _ _ rfl rfl sq (A3g (j:=0) rfl) rfl _ rfl (by rw [dtS];exact qq))) (λQ' qq=>(i1b _ rfl q _ _ _ rfl rfl sq (A3g (j:=0) rfl) rfl _ rfl (by rw [dtS];exact qq))) (λQ' qq=>(i1b _ rfl q _ _ _ rfl rfl sq (A3g (j:=0) rfl) rfl _ rfl (by rw [dtS];exact qq))) ?_;rw [t2]
   cases u with
   | sum _ _=>cases hS
   | num _=>exact A5z (k 1 (by show ((1:Nat):Int)<=1;lia) rfl)
   | place _=>exact A5z (k 1 (by show ((1:Nat):Int)<=1;lia) rfl)
   | read _ _=>exact A5z (k 1 (by show ((1:Nat):Int)<=1;lia) rfl)
   | pair o l r =>
    obtain ⟨q',a,b,e1,e2,ra,rb⟩:=B5l rp;cases e1;simp only [dep] at du;have sq:=SqT.of (K:=K) e2;refine A2o (i17 _ rfl _ rfl q _ _ _ rfl rfl sq rfl (i02 _ rfl (hs a d l lk H _ ra tu.1 hd (by lia) λz1 h1 w1=>(i0f _ _ rfl rfl (i17 _ rfl _ rfl q _ _ _ rfl rfl sq rfl (i02 _ rfl (hs b d r lk H _ rb tu.2 hd (by lia) λz2 h2 w2=>(i0f _ _ rfl rfl (k _ ?_ ?_)))))))))
    ·simp only [nod]
     lia
    ·show 1+z1+z2=1+wtM (lnL lk) l+wtM (lnL lk) r;rw [w1,w2]
   | guard x lo hi l r =>
    obtain ⟨q',a,b,e1,e2,ra,rb⟩:=B0e rp;cases e1;simp only [dep] at du;have sq:=SqT.of (K:=K) e2;refine A2o (i17 _ rfl _ rfl q _ _ _ rfl rfl sq rfl (i02 _ rfl (hs a d l lk H _ ra tu.2.1 hd (by lia) λz1 h1 w1=>(i0f _ _ rfl rfl (i17 _ rfl _ rfl q _ _ _ rfl rfl sq rfl (i02 _ rfl (hs b d r lk H _ rb tu.2.2 hd (by lia) λz2 h2 w2=>(i0f _ _ rfl rfl (k _ ?_ ?_)))))))))
    ·simp only [nod]
     lia
    ·show 1+z1+z2=1+wtM (lnL lk) l+wtM (lnL lk) r;rw [w1,w2]
theorem B3q (T:Txt K mg t):∀n:Nat,A3h P w K mg base CX0 (n+1) t.jl t.ji C4c (B3b n)
 | 0=>B2r T (m:=0) (sp':=λ_ _ _ _=>False) (A3h.none λ_ _ _ _ h=>h) λv d u lk H Q _ _ _ h=>absurd h (by lia)
 | n+1=>B2r T (m:=n+1) (B3q T n) λv d u lk H Q r tl hd du k=>(i11 v d u lk rfl r tl hd (by lia) k)
theorem C1d {D:Addr} {o:Obj} {g:TG} {tc:TT} {te:TE} {QD:Hp->Prop} {Z₀:St} (Pv:Nat->List V->Hp->Prop) (h0:Pv 0 [] (upd H D (.lst []))) (hl:∀i ys H,Pv i ys H->H a=some (.frz o (.dK kvs)))
  (hs:∀i k v ys H,kvs[i]? =some (k,v)->Pv i ys H->g (kV k) Z₀ H λZ4 H4=>A3e Z₀ Z4/\tc Z4 H4 λb H5=>if b=true then te Z4 H5 (λy H5=>H5 D=some (.lst ys)/\ys.length<sizeLine/\Pv (i+1) (ys++[y]) (upd H5 D (.lst (ys++[y])))) else Pv (i+1) ys H5) (hd:∀ys H,Pv kvs.length ys H->QD H) :
  ∃W:Nat->Nat->Hp->Prop,(∃m,W 0 m (upd H D (.lst [])))/\∀i m H2,W i m H2->
   ((Itd a o kvs).stop i H2/\QD H2)\/((Itd a o kvs).go i H2/\∃(N:VK) (M:Hp->Prop),(∀y H5,N y H5->∃xs,H5 D=some (.lst xs)/\xs.length<sizeLine/\∃m',m'<m/\W (i+1) m' (upd H5 D (.lst (xs++[y]))))/\(∀H5,M H5->∃m',m'<m/\W (i+1) m' H5)/\
    ∀x H3,(Itd a o kvs).yld i H2 x H3->g x Z₀ H3 λZ4 H4=>A3e Z₀ Z4/\tc Z4 H4 λb H5=>if b=true then te Z4 H5 N else M H5):=by
 refine i02 (λi m H=>m=kvs.length-i/\i<=kvs.length/\∃ys,Pv i ys H) (i0d kvs.length (by simp) (Z1e _) [] h0) ?_;rintro i m H2 ⟨rfl,hi,ys,p⟩;by_cases hlt:i<kvs.length
 ·refine .inr (i0i ⟨hl i ys H2 p,hlt⟩ (λy H5=>H5 D=some (.lst ys)/\ys.length<sizeLine/\Pv (i+1) (ys++[y]) (upd H5 D (.lst (ys++[y])))) (λH5=>Pv (i+1) ys H5) (λy H5 n=>(i0v ys n.1 n.2.1 (kvs.length-(i+1)) (by lia) rfl hlt _ n.2.2)) (λH5 n=>(i0c (kvs.length-(i+1)) (by lia) rfl hlt ⟨_,n⟩)) λx H3 z=> ?_);obtain ⟨e,k,v,e1,e2⟩:=z;subst e e2;exact hs i k v ys _ e1 p
 ·have e:i=kvs.length:=by lia
  subst e;exact .inl ⟨⟨hl _ ys H2 p,rfl⟩,hd ys H2 p⟩
def gw:Nat->Nat
 | 0=>1
 | n+1=>2*gw n+1
theorem C1o:∀n,1<=gw n
 | 0=>Z09 _
 | n+1=>by show 1<=2*gw n+1;lia
structure D3w (H:Hp) (d:Addr) (lk:List (Key×V)) (nm:List Str):Prop where
 h:H d=some (.dK lk)
 ks:lk.map (·.1)=nm.map (Sum.inr:Str->Key)
 dk:B1j lk nm
 hn:NmS nm
 l:nm.length<=12
theorem D3w.same {nm:List Str} (h:D3w H d lk nm) (s:A1c H H'):D3w H' d lk nm:=⟨s _ _ h.h,h.ks,h.dk,h.hn,h.l⟩
theorem C5c.same (h:C5c H lk a sc) (s:A1c H H'):C5c H' lk a sc:=⟨s _ _ h.1,h.2⟩
theorem D0x.same (h:D0x H lk a es) (s:A1c H H'):D0x H' lk a es:=by
 obtain ⟨avs,e,r,l⟩:=h;exact i06 avs (s _ _ e) (Paired.mapP r λ_ _ z=>z.same s) l
theorem A3c.mono {L:Str->Int} {okn ok ok':OkP} (h:∀ρ a c,ok ρ a c->ok' ρ a c):∀{u:Tm} {ρ:Env},A3c L okn ok ρ u->A3c L okn ok' ρ u
 | .num _,_,_=>True.intro
 | .place _,_,_=>True.intro
 | .read _ _,_,s=>h _ _ _ s
 | .sum _ _,_,s=>s
 | .pair _ l r,_,s=>⟨A3c.mono h s.1,A3c.mono h s.2⟩
 | .guard _ _ _ l r,_,s=>⟨λz=>A3c.mono h (s.1 z),λz=>A3c.mono h (s.2 z)⟩
theorem D0q:∀(ρ:Env) (a:Str) (c:List Int),okO L es none ρ a c->okA L es ρ a c:=λρ a c h=>by
 rcases h with h | ⟨e,h,_⟩
 ·exact h
 ·cases h
theorem LfZ.non {nm:List Str} (h:LfZ lk es none nm sc u):SfT (lnL lk) (okA (lnL lk) es) (okA (lnL lk) es) nm sc u:=⟨h.ti,λρ hr=>A3c.mono D0q (h.sf ρ hr)⟩
theorem D6n (h:1<=x.length):¬x=("":Str):=λz=>by rw [z] at h;exact absurd h (by decide +kernel)
def B7v (n:Nat):Sp:=λvs H Q _=>∃(cl sc bk ar d:Addr) (p room:Nat) (ow:V) (own:Option (Str×List Str)) (ns:List Int) (es:List (Str×List Str)) (scn nm:List Str) (lk:List (Key×V)) (S:Addr->Prop),vs=[.ref cl,.int (p:Int),.ref sc,.ref bk,.int (room:Int)]/\H cl=some (.lst (ns.map V.int))/\p+gw room<=1000/\C5c H lk sc scn/\scn.length+2*room<=90/\H bk=some (.tup [.ref ar,.ref d,ow])/\D0x H lk ar es/\D3w H d lk nm/\D2b H lk ow own/\OwS own scn/\(∀x∈scn,x∈nm)/\room<=n/\Fr S H/\
 ∀(tp:Addr) (tv:V) (u':Tm) (p':Nat) (H':Hp),A1c H H'->H' tp=some (.tup [tv,.int (p':Int)])->Rep (A1d S H') tv (A2c u')->TmW u'->TmL lk u'->dep u'<=4+3*room->p<p'->p'<=p+gw room->LfZ lk es own nm scn u'->Q (.ref tp) H'
theorem C5c.add {nm:List Str} (e:H a=some (.lst ((sc++ys).map V.str))) (h1:NmS sc) (h2:B1j lk sc) (l:(sc++ys).length<=100) (hn:NmS nm) (dk:B1j lk nm) (m:∀y∈ys,y∈nm):C5c H lk a (sc++ys):=by
 refine i04 e l (λz hz=> ?_) λz hz=> ?_
 ·rcases Z07.mp hz with hz | hz
  ·exact h1 z hz
  ·exact hn z (m z hz)
 ·rcases Z07.mp hz with hz | hz
  ·exact h2 z hz
  ·exact dk z (m z hz)
theorem D4j (z:Int):∃o:Op3,atI [V.str "plus",V.str "minus",V.str "times"] (z%3)=some (.str (opS o)):=by
 have h:z%3=0\/z%3=1\/z%3=2:=by lia
 rcases h with h | h | h
 ·exact ⟨.plus,by rw [h];rfl⟩
 ·exact ⟨.minus,by rw [h];rfl⟩
 ·exact ⟨.times,by rw [h];rfl⟩
theorem B7d (T:Txt K mg t) (hm:4<=m) (Gd3:A3h P w K mg base CX0 m t.ox t.q0 C2x sp')
  (hs:∀(cl sc bk ar d:Addr) (p room:Nat) (ow:V) (own:Option (Str×List Str)) (ns:List Int) (es:List (Str×List Str)) (scn nm:List Str) (lk:List (Key×V)) (S:Addr->Prop) (H:Hp) (Q:VK),H cl=some (.lst (ns.map V.int))->p+gw room<=1000->C5c H lk sc scn->scn.length+2*room<=90->H bk=some (.tup [.ref ar,.ref d,ow])->D0x H lk ar es->D3w H d lk nm->D2b H lk ow own->OwS own scn->(∀x∈scn,x∈nm)->room+1<=n->Fr S H->∀(pa ra:Int),pa=(p:Int)->ra=(room:Int)->
   (∀(tp:Addr) (tv:V) (u':Tm) (p':Nat) (H':Hp),A1c H H'->H' tp=some (.tup [tv,.int (p':Int)])->Rep (A1d S H') tv (A2c u')->TmW u'->TmL lk u'->dep u'<=4+3*room->p<p'->p'<=p+gw room->LfZ lk es own nm scn u'->Q (.ref tp) H')->sp' [.ref cl,.int pa,.ref sc,.ref bk,.int ra] H Q E0):A3h P w K mg base CX0 (m+1) t.ox t.q0 C2x (B7v n):=by
 have Gc7:= @A8l P w K mg base t T;have Gd4:= @A6c P w K mg base t T;have Gd5:= @B7m P w K mg base t T;have Gd6:= @C0l P w K mg base t T;refine T.gq.F.ok A1o (λvs H Q E h=> ?_) λ_ A _ s H _ Q E hr h=> ?_
 ·refine e0g h ?_;clear h;rintro cl sc bk ar d p room ow own ⟨ns,es,scn,nm,lk,S,rfl,_⟩;rfl
 ·refine e0g h ?_;clear h;rintro cl sc bk ar d p room ow own ⟨ns,es,scn,nm,lk,S,rfl,hcl,pb,hsc,lsc,hbk,has,hlk,how,ows,snm,hrm,fr,k⟩;have hu:=A7r hr;have g1:=C1o room;refine i02 _ (@A0c _ _ _ _ _ (A9r (pv 3) (A3z (n:=3) rfl (A0y (A0m (i:=5) A1o.nd rfl (.inl rfl)) (A0y (A0m (i:=6) A1o.nd rfl (.inl rfl)) (A0y (A0m (i:=7) A1o.nd rfl (.inl rfl)) A2v))))) (@A0c _ _ _ _ _ (@A0l _ _ 8 _ _ _ _ A1o.nd rfl (.inl rfl) (pcl Gc7 hr T.gh (A0a (pcl Gd4 hr T.bh (A0a (pv 0) (A0a (pv 1) A0d))) (A0a (pv 1) A0d))) rfl (.inl rfl)) (@A0c _ _ _ _ _ (@A0l _ _ 9 _ _ _ _ A1o.nd rfl (.inl rfl) (A0o A1w (pv 8) A0e) rfl (.inl rfl)) (@A0c _ _ _ _ _ (@A0l _ _ 8 _ _ _ _ A1o.nd rfl (.inl rfl) (A0o A1t (pv 8) A0e) rfl (.inl rfl)) (@A0c _ _ _ _ _ (B7o (i₀:=11) (N':=["_law_axis","_law_scope"]) (ix:=(List.replicate 1 none++[some 2])) (tc:=C0p (tOp (rIn K true) (C7a 0) (C7a 1))) A1o.nd rfl (.inl rfl) rfl (A8m (x:="_law_scope") rfl rfl rfl (by decide +kernel) (by decide +kernel)) (A6w (N0:=["_law_axis"]) rfl (.inl rfl) (by walk_at "ix")) (C7l (pv 6)) (λ_ _ _ _=>(A0m (i:=0) C4s rfl (.inl rfl))) (λ_ _ _ _=>(A0q A6b (pv 0) (pv 1) (by with_unfolding_all rfl))) (λ_ _ _ _=>(pv 0))) (@C2n _ _ _ (@A0c _ _ _ _ _ (@A1v _ _ _ _ _ _ _ _ (PW.pt (A4a (A0q A7q (pv 4) A0e (A1a _)) (A4a (A0q A2x (pv 9) A0e (A1a _)) (A4g (A0q A7q (A0u A0v (by rfl) T.b_ Z0r (A0a (pv 11) A0d)) A0e (A1a _)))))) (@A0c _ _ _ _ _ (@A0l _ _ 10 _ _ _ _ A1o.nd rfl (.inl rfl) (A1f A1p (pv 11) (A0o A1w (pv 8) (A0u A0v (by rfl) T.b_ Z0r (A0a (pv 11) A0d))) (λ_ _=>rfl)) rfl (.inl rfl)) (@A0c _ _ _ _ _ (A9r (pcl Gd3 hr T.gq (A0a (pv 0) (A0a (A0o A2h (pv 1) A0e) (A0a (A0o A8r (pv 2) (@A1z _ _ _ _ (A0a (pv 10) A0d))) (A0a (A1n (A0a (pv 5) (A0a (pv 6) (A0a A6p A0d)))) (A0a (A0o A4n (pv 4) A0e) A0d)))))) (A3z (n:=2) rfl (A0y (A0m (i:=12) A1o.nd rfl (.inl rfl)) (A0y (A0m (i:=1) A1o.nd rfl (.inl rfl)) A2v)))) (@A0c _ _ _ _ _ (@A0l _ _ 13 _ _ _ _ A1o.nd rfl (.inl rfl) (A1f A1p (pv 11) (A0o A1w (A0o A2h (pv 8) A0e) (A0u A0v (by rfl) T.b_ Z0r (A0a (pv 11) A0d))) (λ_ _=>rfl)) rfl (.inl rfl)) (@A5h _ _ _ _ _ (@A1v _ _ _ _ _ _ _ _ (PW.pt (A4a (A0q A2x (A0o A1w (A0o A1t (pv 8) A0e) A0e) A0e (A1a _)) (A4g (A0q D0t (pv 13) (pv 10) (A1a _))))) (@A0c _ _ _ _ _ (@A0l _ _ 14 _ _ _ _ A1o.nd rfl (.inl rfl) (pcl Gd5 hr T.ij (A0a (A0o A1t (pv 8) A0e) (A0a (pv 5) (A0a (A0o A8r (pv 2) (@A1z _ _ _ _ (A0a (pv 10) (A0a (pv 13) A0d)))) (A0a (pv 6) (A0a A6p A0d)))))) rfl (.inl rfl)) (@A0c _ _ _ _ _ (@A0l _ _ 14 _ _ _ _ A1o.nd rfl (.inl rfl) (pcl Gd6 hr T.jg (A0a (pv 13) (A0a (pv 14) (A0a (A0o A1t (pv 8) A0e) (A0a (pv 6) A0d))))) rfl (.inl rfl)) (@A0g _ _ _ (@A0l _ _ 12 _ _ _ _ A1o.nd rfl (.inl rfl) (A1n (A0a (A1f A1p (@A1z _ _ _ _ (A0a A1m (A0a A1m (A0a A1m A0d)))) (A0o A1w (A0o A1t (pv 8) A0e) A0e) (λ_ _=>rfl)) (A0a (pv 12) (A0a (pv 14) A0d)))) rfl (.inl rfl))))) A0x) (@A0g _ _ _ (@A0s _ _ _ _ (A1n (A0a (pcl Gd6 hr T.jg (A0a (pv 10) (A0a (pv 12) (A0a (A0o A1t (pv 8) A0e) (A0a (pv 6) A0d))))) (A0a (pv 1) A0d))))))))) A0x) (@A0c _ _ _ _ _ (@A1v _ _ _ _ _ _ _ _ (PW.pt (A4a (A0q A7q (pv 4) A0e (A1a _)) (A4a (A0q A2x (pv 9) A0e (A1a _)) (A4g (A0q A7q (A0u A0v (by rfl) T.b_ Z0r (A0a (pv 2) A0d)) A0e (A1a _)))))) (@A0c _ _ _ _ _ (@A0l _ _ 10 _ _ _ _ A1o.nd rfl (.inl rfl) (A1f A1p (pv 2) (A0o A1w (pv 8) (A0u A0v (by rfl) T.b_ Z0r (A0a (pv 2) A0d))) (λ_ _=>rfl)) rfl (.inl rfl)) (@A0c _ _ _ _ _ (@A0l _ _ 15 _ _ _ _ A1o.nd rfl (.inl rfl) (A0o A4n (A0o A1w (A0o A1t (pv 8) A0e) (A0o A2h (A4b hu (pv 6) (pv 10) (λ_ _=>rfl)) A0e)) A0e) rfl (.inl rfl)) (@A0c _ _ _ _ _ (@A0l _ _ 16 _ _ _ _ A1o.nd rfl (.inl rfl) (A0o A2h (pv 15) (A0o A1w (A0o A1t (pv 8) A0e) (A0o A2h (A4b hu (pv 6) (pv 10) (λ_ _=>rfl)) A0e))) rfl (.inl rfl)) (@A5h _ _ _ _ _ (@A1v _ _ _ _ _ _ _ _ (A0q A2x (A0o A1w (A0o A1t (pv 8) A0e) A0e) A0e (A1a _)) (@A0g _ _ _ (@A0l _ _ 16 _ _ _ _ A1o.nd rfl (.inl rfl) (A0o A2h (pv 16) (A0o A9s A0e A0e)) rfl (.inl rfl))) A0x) (@A0c _ _ _ _ _ (A9r (pcl Gd3 hr T.gq (A0a (pv 0) (A0a (A0o A2h (pv 1) A0e) (A0a (pv 2) (A0a (pv 3) (A0a (A0o A4n (pv 4) A0e) A0d)))))) (A3z (n:=2) rfl (A0y (A0m (i:=14) A1o.nd rfl (.inl rfl)) (A0y (A0m (i:=1) A1o.nd rfl (.inl rfl)) A2v)))) (@A0c _ _ _ _ _ (A9r (pcl Gd3 hr T.gq (A0a (pv 0) (A0a (pv 1) (A0a (pv 2) (A0a (pv 3) (A0a (A0o A4n (pv 4) A0e) A0d)))))) (A3z (n:=2) rfl (A0y (A0m (i:=17) A1o.nd rfl (.inl rfl)) (A0y (A0m (i:=1) A1o.nd rfl (.inl rfl)) A2v)))) (@A0g _ _ _ (@A0s _ _ _ _ (A1n (A0a (A1n (A0a A1m (A0a (pv 10) (A0a (pv 15) (A0a (pv 16) (A0a (pv 14) (A0a (pv 17) A0d))))))) (A0a (pv 1) A0d))))))))))) A0x) (@A0c _ _ _ _ _ (@A1v _ _ _ _ _ _ _ _ (PW.pt (A4a (A0q A7q (pv 4) A0e (A1a _)) (A4a (A0q A7q (pv 9) A0e (A1a _)) (A4g (A0q B5e (pv 9) A0e (A1a _)))))) (@A0c _ _ _ _ _ (A9r (pcl Gd3 hr T.gq (A0a (pv 0) (A0a (A0o A2h (pv 1) A0e) (A0a (pv 2) (A0a (pv 3) (A0a (A0o A4n (pv 4) A0e) A0d)))))) (A3z (n:=2) rfl (A0y (A0m (i:=18) A1o.nd rfl (.inl rfl)) (A0y (A0m (i:=1) A1o.nd rfl (.inl rfl)) A2v)))) (@A0c _ _ _ _ _ (A9r (pcl Gd3 hr T.gq (A0a (pv 0) (A0a (pv 1) (A0a (pv 2) (A0a (pv 3) (A0a (A0o A4n (pv 4) A0e) A0d)))))) (A3z (n:=2) rfl (A0y (A0m (i:=19) A1o.nd rfl (.inl rfl)) (A0y (A0m (i:=1) A1o.nd rfl (.inl rfl)) A2v)))) (@A0g _ _ _ (@A0s _ _ _ _ (A1n (A0a (A1n (A0a (A1f A1p (@A1z _ _ _ _ (A0a A1m (A0a A1m (A0a A1m A0d)))) (A0o A1w (pv 8) A0e) (λ_ _=>rfl)) (A0a (pv 18) (A0a (pv 19) A0d)))) (A0a (pv 1) A0d))))))) A0x) (@A0g _ _ _ (@A0s _ _ _ _ (A1n (A0a (pcl Gd5 hr T.ij (A0a (pv 8) (A0a (pv 5) (A0a (pv 2) (A0a (pv 6) (A0a (pv 7) A0d)))))) (A0a (A0o A2h (pv 1) A0e) A0d)))))))))))))) ?_;refine i0n _ rfl bk _ rfl (SqT.of hbk) (i0b rfl _ _ rfl ⟨_,(i0n _ rfl _ _ rfl rfl ?_)⟩);refine i02 _ rfl (i0x _ rfl cl ns (p:Int) rfl (SqL.of hcl) (by lia) λc0=>(i0r _ rfl c0 (p:Int) rfl (by lia) (by lia) λr0=> ?_));refine i0r _ rfl _ _ rfl rfl D8y (i0r _ rfl _ _ rfl rfl ⟨by decide,by decide⟩ ?_);refine i0n _ rfl d lk rfl hlk.h λo=>λD hD=> ?_;have Dd:D≠d:=λe=>by rw [e,A0b] at hD;cases hD
  have hD0:H D=none:=by rw [A0k Dd] at hD;exact hD
  refine C1d (a:=d) (D:=D) (o:=o) (kvs:=lk) (λj ys G=>A1c (upd H d (.frz o (.dK lk))) G/\G D=some (.lst ys)/\∃zs:List Str,ys=zs.map V.str/\zs.length<=j/\∀z∈zs,z∈nm/\z∉scn) (i0a (A0f hD) A0b [] rfl ⟨Z09 _,(by intro z hz;cases hz)⟩) (λj ys G ⟨sG,_⟩=>sG _ _ A0b) ?_ ?_
  ·rintro j kk vv ys G hkv ⟨sG,hG,zs,rfl,lz,mz⟩;have hj:j<lk.length:=(Z03.mp hkv).1;have ek:nm[j]?.map (Sum.inr:Str->Key)=some kk:=by rw [<-Z1z,<-hlk.ks,Z1z,hkv];rfl
   obtain ⟨x,hx,rfl⟩:=Z0i.mp ek;have lk12:lk.length=nm.length:=by rw [<-Z08 (f:=(·.1)) (as:=lk),hlk.ks,Z08]
   have l12:=hlk.l;have hsc2:G sc=some (.lst (scn.map V.str)):=sG _ _ (by rw [A0k (A3p hsc.1 hlk.h (by intro h;cases h))];exact hsc.1);refine ⟨⟨rfl,True.intro⟩,(i0w _ rfl _ rfl sc _ rfl (.inl (SqL.of hsc2)) (i0a rfl (A6v scn) _ rfl ?_))⟩;show if (! inV (V.str x) (scn.map V.str))=true then _ else _
   rw [B1c];refine C9f (λhnot=> ?_) (λ_=>(i0a sG hG zs rfl ⟨by lia,mz⟩));refine i0c _ rfl hG (A1s (by rw [Z08];lia)) (i0a (A0r sG hD) A0b (zs++[x]) (by rw [Z0s];rfl) ⟨by rw [Z06];simp only [Z0y,Z2g];lia,λz hz=> ?_⟩);rcases Z07.mp hz with hz | hz
   ·exact mz z hz
   ·rw [Z0w.mp hz];exact ⟨Z13 hx,hnot⟩
  rintro ys G ⟨sG,hG,fre,rfl,lfre,mfre⟩;have hGd:=sG _ _ (A0b (H:=H) (a:=d) (o:= .frz o (.dK lk)));refine i0m d o lk hGd (λo' u' e=>by have e:H d=some (.frz o' u'):=e;rw [hlk.h] at e;cases e) ?_
  have s1:A1c H (upd G d (.dK lk)):=λb u e=>by
   by_cases hb:b=d
   ·rw [hb] at e⊢;rw [hlk.h] at e;rw [A0b];exact e
   ·rw [A0k hb];exact sG _ _ (by rw [A0k hb];exact e)
  have hfre:upd G d (.dK lk) D=some (.lst (fre.map V.str)):=by rw [A0k Dd];exact hG
  generalize upd G d (.dK lk)=H1 at s1 hfre;have w0:0<=r0%8/\r0%8<8:=by lia
  have f1:=fr.same s1;have hlk1:=hlk.same s1;have has1:=has.same s1;have hsc1:=hsc.same s1;have how1:=how.same s1;have de:∀a c:Int,decide (V.int a=V.int c)=decide (a=c):=λa c=>decide_eq_decide.mpr ⟨λh=>V.int.inj h,λh=>by rw [h]⟩;show D2s _ _ _ [some (.ref cl),some (.int (p:Int)),some (.ref sc),some (.ref bk),some (.int (room:Int)),some (.ref ar),some (.ref d),some ow,some (.int (r0/8)),some (.int (r0%8)),none,some (.ref D),none,none,none,none,none,none,none,none] _;dsimp only [A6x,C7k,D2s,D5h];refine C7v (d1:=decide ((0:Int)<(room:Int))) (d2:=decide (r0%8=6)) ?_ (λQ' q=>(i02 _ rfl (i0p _ _ rfl rfl _ rfl q))) (λQ' q=>(i0j _ rfl rfl _ rfl (by rw [de];exact q))) (λhF h1 h2=> ?_)
  ·refine A2o ?_;refine C7v (d1:=decide ((0:Int)<(room:Int))) (d2:=decide (r0%8=5)) ?_ (λQ' q=>(i02 _ rfl (i0p _ _ rfl rfl _ rfl q))) (λQ' q=>(i0j _ rfl rfl _ rfl (by rw [de];exact q))) (λhF h1 h2=> ?_)
   ·refine A2o ?_;refine C7v (d1:=decide ((0:Int)<(room:Int))) (d2:=decide (2<r0%8)) ?_ (λQ' q=>(i02 _ rfl (i0p _ _ rfl rfl _ rfl q))) (λQ' q=>(i02 _ rfl (i0p _ _ rfl rfl _ rfl q))) (λhF h1 h2=> ?_)
    ·refine A2o ?_;refine i02 _ rfl (i0e _ rfl _ rfl (i0e _ rfl _ rfl (i03 _ ar (i1d sc d ow own es scn lk S rfl has1 hsc1 hlk1.h how1 ows ⟨f1,λv' u' H2 s2 rp wu tu du lz=> ?_⟩))));refine i0r _ rfl _ _ rfl rfl (A0t rfl) λtp htp=> ?_;have sT:=A0f (o:= .tup [v',.int ((p:Int)+1)]) htp;exact k tp v' u' (p+1) _ (s1.trans (s2.trans sT)) A0b (rp.same (A0i sT)) wu tu (by lia) (by lia) (by lia) (lz nm)
    ·obtain ⟨ro,rfl⟩:∃ro,room=ro+1:=⟨room-1,by have:=of_decide_eq_true h1;lia⟩;have er:(((ro+1:Nat):Int)-1)=(ro:Int):=by lia
     have gp:=C1o ro;have pb:p+(2*gw ro+1)<=1000:=pb;refine i02 _ rfl (i0p _ _ rfl rfl _ rfl ?_);by_cases hc:r0%8<5
     ·rw [Z20 hc];refine A5z (i0w _ rfl _ rfl _ _ rfl rfl (i12 _ rfl _ rfl _ rfl _ _ rfl rfl ?_));refine hs cl sc bk ar d (p+1) ro ow own ns es scn nm lk S H1 _ (s1 _ _ hcl) (by lia) hsc1 (by lia) (s1 _ _ hbk) has1 hlk1 how1 ows snm (by lia) f1 _ _ (by lia) (by lia) λt1 v1 u1 p1 H2 s2 h2 rp1 wu1 tu1 du1 lo1 hi1 lz1=> ?_;have s12:=s1.trans s2;refine i19 t1 _ rfl (SqT.of h2) rfl _ _ rfl _ _ rfl rfl ?_;refine i0e _ rfl _ rfl (i12 _ rfl _ rfl _ rfl _ _ rfl rfl (hs cl sc bk ar d p1 ro ow own ns es scn nm lk S H2 _ (s12 _ _ hcl) (by lia) (hsc.same s12) (by lia) (s12 _ _ hbk) (has.same s12) (hlk.same s12) (how.same s12) ows snm (by lia) (fr.same s12) _ _ (by lia) (by lia) λt2 v2 u2 p2 H3 s3 h3 rp2 wu2 tu2 du2 lo2 hi2 lz2=> ?_));have s13:=s12.trans s3;have f3:=fr.same s13;obtain ⟨op,eop⟩:=D4j (r0/8);refine i19 t2 _ rfl (SqT.of h3) rfl _ _ rfl _ _ rfl rfl ?_;refine ⟨A0t rfl,λll hll=>(i0r _ rfl _ _ rfl rfl D2h (i0y ll _ _ _ rfl rfl (SqL.of A0b) eop (i0k _ rfl _ rfl (A0t rfl) λq1 hq1=>(i06 _ rfl (A0t rfl) λq2 hq2=> ?_))))⟩;have sA:=A0f (o:= .lst [.str "plus",.str "minus",.str "times"]) hll;have sB:=A0f (o:= .tup [.str (opS op),v1,v2]) hq1;have sC:=A0f (o:= .tup [.ref q1,.int (p2:Int)]) hq2;have sAC:=sA.trans (sB.trans sC);have gr:gw (ro+1)=2*gw ro+1:=rfl;refine k q2 (.ref q1) (.pair op u1 u2) p2 _ (s13.trans sAC) A0b (B5q (A0j (f3 q1 (sA.free hq1)) (sC _ _ A0b)) ((rp1.same (A0i s3)).same (A0i sAC)) (rp2.same (A0i sAC))) ⟨wu1,wu2⟩ ⟨tu1,tu2⟩ (by simp only [dep];lia) (by lia) (by lia) ⟨⟨lz1.ti,lz2.ti⟩,λρ hr=>⟨lz1.sf ρ hr,lz2.sf ρ hr⟩⟩
     ·rw [Z1j hc];exact hF
   ·obtain ⟨ro,rfl⟩:∃ro,room=ro+1:=⟨room-1,by have:=of_decide_eq_true h1;lia⟩;have gp:=C1o ro;have pb:p+(2*gw ro+1)<=1000:=pb;refine i0n _ rfl sc _ rfl (.inl (SqL.of hsc1.1)) (i0p _ _ rfl rfl _ rfl ?_);by_cases hc:(0:Int)<((scn.map V.str).length:Int)
    ·rw [Z20 hc];obtain ⟨x,hx,ex⟩:=A5o (f:=V.str) (xs:=scn) (i:=r0/8%((scn.map V.str).length:Int)) (Z1v _ (by lia)) (by have:=Z1p (r0/8) hc;rw [Z08] at this⊢;exact this);have mx:=Z13 hx;obtain ⟨nn,vn,n1,n60⟩:=hsc.2.2.2 x mx;have nx:=(hsc.2.2.1 x mx).1;have dg:=B0j.k (H:=H1) (a:=d) (k:=Sum.inr x) hlk1.h;rw [vn] at dg;refine A5z (i12 _ rfl _ rfl _ rfl sc _ rfl (.inl (SqL.of hsc1.1)) (i0l _ _ rfl rfl hc (i0y sc _ _ _ rfl rfl (SqL.of hsc1.1) ex ?_)));refine i0r _ rfl _ _ rfl rfl ⟨by decide,by decide⟩ (i0w _ rfl _ rfl d _ rfl dg (i0f _ _ rfl rfl (i10 _ _ rfl rfl (by show (0:Int)<nn+2;lia) _ _ rfl rfl ?_)));refine i0w _ rfl _ rfl _ _ rfl rfl ⟨⟨by decide,by decide⟩,(i0w _ rfl _ rfl d _ rfl dg (i0f _ _ rfl rfl (i10 _ _ rfl rfl (by show (0:Int)<nn+1;lia) _ _ rfl rfl ?_)))⟩;have z1:=Z1v (r0/8/7) (show nn+2≠0 by lia);have z2:=Z1p (r0/8/7) (show 0<nn+2 by lia);have z3:=Z1v (r0/8/77) (show nn+1≠0 by lia);have z4:=Z1p (r0/8/77) (show 0<nn+1 by lia);have e29:((10:Int)^(29:Int).toNat)=100000000000000000000000000000:=by decide +kernel
     refine i02 (λZ H6=>H1=H6/\∃(lo hi:Int),Z=[Sro cl,Sio (p:Int),Sro sc,Sro bk,Sio ((ro+1:Nat):Int),Sro ar,Sro d,some ow,Sio (r0/8),Sio (r0%8),Sso x,Sro D,none,none,none,Sio lo,Sio hi,none,none,none]/\Sm lo/\Sm hi) ?_ ?_
     ·refine i02 _ rfl (i10 _ _ rfl rfl ⟨by decide,by decide⟩ _ _ rfl rfl (i0a E0x rfl _ rfl (D1b (λ_=> ?_) (λ_=>(i0i rfl _ _ rfl (B0g (by lia) (by lia)) (B0g (by lia) (by lia)))))));refine i0r _ rfl _ _ rfl rfl (i00 (by decide) (by decide) (by decide)) (i10 _ _ rfl rfl rfl _ _ rfl (B0g (by lia) (by lia)) (B0g ?_ ?_))
      ·rw [e29];lia
      ·rw [e29];lia
     rintro Z H6 ⟨rfl,lo,hi,rfl,slo,shi⟩;refine i0w _ rfl _ rfl _ _ rfl rfl (i12 _ rfl _ rfl _ rfl _ _ rfl rfl ?_);refine hs cl sc bk ar d (p+1) ro ow own ns es scn nm lk S H1 _ (s1 _ _ hcl) (by lia) hsc1 (by lia) (s1 _ _ hbk) has1 hlk1 how1 ows snm (by lia) f1 _ _ (by lia) (by lia) λt1 v1 u1 p1 H2 s2 h2 rp1 wu1 tu1 du1 lo1 hi1 lz1=> ?_;have s12:=s1.trans s2;refine i19 t1 _ rfl (SqT.of h2) rfl _ _ rfl _ _ rfl rfl ?_;refine i0e _ rfl _ rfl (i12 _ rfl _ rfl _ rfl _ _ rfl rfl (hs cl sc bk ar d p1 ro ow own ns es scn nm lk S H2 _ (s12 _ _ hcl) (by lia) (hsc.same s12) (by lia) (s12 _ _ hbk) (has.same s12) (hlk.same s12) (how.same s12) ows snm (by lia) (fr.same s12) _ _ (by lia) (by lia) λt2 v2 u2 p2 H3 s3 h3 rp2 wu2 tu2 du2 lo2 hi2 lz2=> ?_));have s13:=s12.trans s3;have f3:=fr.same s13;refine i19 t2 _ rfl (SqT.of h3) rfl _ _ rfl _ _ rfl rfl ?_;have rq:=rp1.same (A0i s3);refine i02 _ rfl (i0e _ rfl _ rfl (i0k _ rfl _ rfl (A0t rfl) λq1 hq1=>(i06 _ rfl (A0t rfl) λq2 hq2=> ?_)));have sB:=A0f (o:= .tup [.str "guard",.str x,.int lo,.int hi,v1,v2]) hq1;have sC:=A0f (o:= .tup [.ref q1,.int (p2:Int)]) hq2;have sBC:=sB.trans sC;have gr:gw (ro+1)=2*gw ro+1:=rfl;exact k q2 (.ref q1) (.guard x lo hi u1 u2) p2 _ (s13.trans sBC) A0b (A8k (A0j (f3 q1 hq1) (sC _ _ A0b)) (rq.same (A0i sBC)) (rp2.same (A0i sBC))) (i09 nx slo shi wu1 wu2) (i00 (dk1 vn n1 n60) tu1 tu2) (by simp only [dep];lia) (by lia) (by lia) ⟨(i00 mx lz1.ti lz2.ti),λρ hr=>⟨λ_=>lz1.sf ρ hr,λ_=>lz2.sf ρ hr⟩⟩
    ·rw [Z1j hc];exact hF
  ·obtain ⟨ro,rfl⟩:∃ro,room=ro+1:=⟨room-1,by have:=of_decide_eq_true h1;lia⟩;have gp:=C1o ro;have pb:p+(2*gw ro+1)<=1000:=pb;have gr:gw (ro+1)=2*gw ro+1:=rfl;refine i0n _ rfl D _ rfl (.inl (SqL.of hfre)) (i0p _ _ rfl rfl _ rfl ?_);by_cases hc:(0:Int)<((fre.map V.str).length:Int)
   ·rw [Z20 hc];obtain ⟨x,hx,ex⟩:=A5o (f:=V.str) (xs:=fre) (i:=r0/8%((fre.map V.str).length:Int)) (Z1v _ (by lia)) (by have:=Z1p (r0/8) hc;rw [Z08] at this⊢;exact this);obtain ⟨mx,xsc⟩:=mfre x (Z13 hx);obtain ⟨y,hy,ey⟩:=A5o (f:=V.str) (xs:=fre) (i:=(r0/8+1)%((fre.map V.str).length:Int)) (Z1v _ (by lia)) (by have:=Z1p (r0/8+1) hc;rw [Z08] at this⊢;exact this);obtain ⟨my,ysc⟩:=mfre y (Z13 hy);have dkx:B1j lk [x]:=λz hz=>by rw [Z0w.mp hz];exact hlk.dk x mx
    have dky:B1j lk [y]:=λz hz=>by rw [Z0w.mp hz];exact hlk.dk y my
    refine A5z (i12 _ rfl _ rfl _ rfl D _ rfl (.inl (SqL.of hfre)) (i0l _ _ rfl rfl hc (i0y D _ _ _ rfl rfl (SqL.of hfre) ex ?_)));refine i0w _ rfl _ rfl _ _ rfl rfl (i0k _ rfl _ rfl (A0t rfl) λzl hzl=>(i11 sc zl _ _ rfl rfl ((A0f hzl) _ _ hsc1.1) A0b (A2a (by simp;lia)) λc2 hc2=> ?_));have s5:=(A0f (o:= .lst [.str x]) hzl).trans (A0f (o:= .lst (scn.map V.str++[V.str x])) hc2);have hcc:upd (upd H1 zl (.lst [.str x])) c2 (.lst (scn.map V.str++[V.str x])) c2=some (.lst ((scn++[x]).map V.str)):=by rw [A0b,Z0s];rfl
    generalize upd (upd H1 zl (.lst [.str x])) c2 (.lst (scn.map V.str++[V.str x]))=H5 at s5 hcc;refine i0k _ rfl _ rfl (A0t rfl) λtb htb=> ?_;have sT:=A0f (o:= .tup [.ref ar,.ref d,.non]) htb;have eT:upd H5 tb (.tup [.ref ar,.ref d,.non]) tb=some (.tup [.ref ar,.ref d,.non]):=A0b;generalize upd H5 tb (.tup [.ref ar,.ref d,.non])=H6 at sT eT;have s6:=s1.trans (s5.trans sT);refine i0n _ rfl _ _ rfl rfl ?_;refine hs cl c2 tb ar d (p+1) ro .non none ns es (scn++[x]) nm lk S H6 _ (s6 _ _ hcl) (by lia) (.add (sT _ _ hcc) hsc.2.2.1 hsc.2.2.2 (by simp;lia) hlk.hn hlk.dk λz hz=>by rw [Z0w.mp hz];exact mx) (by simp;lia) eT (has.same s6) (hlk.same s6) (.inl ⟨rfl,rfl⟩) (λe he=>by cases he) (A6g snm mx) (by lia) (fr.same s6) _ _ (by lia) (by lia) λt1 v1 u1 p1 H2 s2 h2 rp1 wu1 tu1 du1 lo1 hi1 lz1=> ?_;have sz1:=lz1.non;have s02:=s6.trans s2;have hfre2:=s2 _ _ (sT _ _ (s5 _ _ hfre));refine i19 t1 _ rfl (SqT.of h2) rfl _ _ rfl _ _ rfl rfl ?_;refine i0w _ rfl _ rfl _ _ rfl rfl (i0n _ rfl D _ rfl (.inl (SqL.of hfre2)) (i0l _ _ rfl rfl hc (i0y D _ _ _ rfl rfl (SqL.of hfre2) ey ?_)));have f2:=fr.same s02;refine i02 (λZ G=>∃(vb:V) (ub:Tm) (oi:Option V),Z=[Sro cl,Sio (p1:Int),Sro sc,Sro bk,Sio ((ro+1:Nat):Int),Sro ar,Sro d,some ow,Sio (r0/8),Sio (r0%8),Sso x,Sro D,some vb,Sso y,oi,none,none,none,none,none]/\A1c H2 G/\Rep (A1d S G) vb (A2c ub)/\TmW ub/\TmL lk ub/\dep ub<=6+3*ro/\SfT (lnL lk) (okA (lnL lk) es) (okA (lnL lk) es) nm (scn++[x]) ub) ?_ ?_
    ·refine B2i (d1:=decide (V.int (r0/8/1001%3)=V.int 0)) (d2:= ! decide (V.str y=V.str x)) (λQ' q=>(i02 _ rfl (i10 _ _ rfl rfl ⟨by decide,by decide⟩ _ _ rfl rfl (i0a D2h rfl _ rfl q)))) (λQ' q=>(i02 _ rfl (i0j _ rfl rfl _ rfl q))) ?_
     cases hb:(decide (V.int (r0/8/1001%3)=V.int 0)&& ! decide (V.str y=V.str x)) with
     | false=>exact A2o (i0g v1 u1 none rfl (i0h (A1c.refl _) rp1 wu1 tu1 (by lia) sz1))
     | true =>
      have yx:¬y=x:=λz=>by rw [z] at hb;simp at hb
      refine A5z (i0r _ rfl _ _ rfl rfl ⟨by decide,by decide⟩ (i0e _ rfl _ rfl (i0k _ rfl _ rfl (A0t rfl) λzl hzl=>(i11 sc zl _ _ rfl rfl ((A0f hzl) _ _ (s02 _ _ hsc.1)) A0b (A2a (by simp;lia)) λc3 hc3=> ?_))));have s7:=(A0f (o:= .lst [.str x,.str y]) hzl).trans (A0f (o:= .lst (scn.map V.str++[V.str x,V.str y])) hc3);have hc7:upd (upd H2 zl (.lst [.str x,.str y])) c3 (.lst (scn.map V.str++[V.str x,V.str y])) c3=some (.lst ((scn++[x,y]).map V.str)):=by rw [A0b,Z0s];rfl
      generalize upd (upd H2 zl (.lst [.str x,.str y])) c3 (.lst (scn.map V.str++[V.str x,V.str y]))=H7 at s7 hc7;have s07:=s02.trans s7;refine i02 _ rfl (i03 _ ar (i1d c3 d .non none es (scn++[x,y]) lk S rfl (has.same s07) (.add hc7 hsc.2.2.1 hsc.2.2.2 (by simp;lia) hlk.hn hlk.dk (λz hz=> ?_)) ((hlk.same s07).h) (.inl ⟨rfl,rfl⟩) (λe he=>by cases he) ⟨fr.same s07,λv2 u2 G2 sg2 rp2 wu2 tu2 du2 lz2=> ?_⟩))
      ·rcases Z0e.mp hz with hz | hz
       ·rw [hz];exact mx
       ·rw [Z0w.mp hz];exact my
      have s08:=s07.trans sg2;refine i12 _ rfl _ rfl _ rfl _ _ rfl rfl (i05 ⟨by decide,by decide⟩ _ rfl (i1d y v2 _ d u2 lk S 4 rfl ((hlk.hn y my).1) (D6n (hlk.hn y my).2) dky ((hlk.same s08).h) (fr.same s08) (i0h rp2 wu2 tu2 du2 (by decide) λv3 u3 G3 sg3 rp3 wu3 tu3 du3 sm3=> ?_)));have e2:scn++[x,y]=scn++[x]++[y]:=by simp
      have lz2':=(lz2 nm).non;rw [e2] at lz2';have sz3:=sm3 (okA (lnL lk) es) (okA (lnL lk) es) nm (scn++[x]) my (λz=>by rcases Z07.mp z with z | z;exact ysc z;exact yx (Z0w.mp z)) lz2'.ti lz2'.sf;have s09:=s08.trans sg3;have f9:=fr.same s09;have s29:=s7.trans (sg2.trans sg3);obtain ⟨op,eop⟩:=D4j (r0/8/11);refine ⟨A0t rfl,λll hll=>(i0r _ rfl _ _ rfl rfl ⟨by decide,by decide⟩ (i0l _ _ rfl rfl D2h (i0y ll _ _ _ rfl rfl (SqL.of A0b) eop (i0k _ rfl _ rfl (A0t rfl) λq1 hq1=> ?_))))⟩
      have sA:=A0f (o:= .lst [.str "plus",.str "minus",.str "times"]) hll;have sB:=A0f (o:= .tup [.str (opS op),v1,v3]) hq1;have sAB:=sA.trans sB;exact i0g (.ref q1) (.pair op u1 u3) _ rfl (i0h (s29.trans sAB) (B5q (A0j (f9 q1 (sA.free hq1)) A0b) (rp1.same (A0i (s29.trans sAB))) (rp3.same (A0i sAB))) ⟨wu1,wu3⟩ ⟨tu1,tu3⟩ (by simp only [dep];lia) ⟨⟨sz1.ti,sz3.ti⟩,λρ hr=>⟨sz1.sf ρ hr,sz3.sf ρ hr⟩⟩)
    rintro Z G ⟨vb,ub,oi,rfl,sG,rpb,wub,tub,dub,szb⟩;have s0G:=s02.trans sG;refine i12 _ rfl _ rfl _ rfl _ _ rfl rfl (i05 ⟨by decide,by decide⟩ _ rfl (i1d x vb _ d ub lk S (6+3*ro) rfl ((hlk.hn x mx).1) (D6n (hlk.hn x mx).2) dkx ((hlk.same s0G).h) (fr.same s0G) (i0h rpb wub tub dub (by lia) λv4 u4 G4 sg4 rp4 wu4 tu4 du4 sm4=>(i06 _ rfl (A0t rfl) λq2 hq2=> ?_))));have sC:=A0f (o:= .tup [v4,.int (p1:Int)]) hq2;exact k q2 v4 u4 p1 _ (s0G.trans (sg4.trans sC)) A0b (rp4.same (A0i sC)) wu4 tu4 (by lia) (by lia) (by lia) (sm4 _ _ nm scn mx xsc szb.ti szb.sf)
   ·rw [Z1j hc];exact hF
theorem C8b (T:Txt K mg t):∀n:Nat,A3h P w K mg base CX0 (n+5) t.ox t.q0 C2x (B7v n)
 | 0=>B7d T (m:=4) (sp':=λ_ _ _ _=>False) (by decide) (A3h.none λ_ _ _ _ h=>h) λ_ _ _ _ _ _ _ _ _ _ _ _ _ _ _ _ _ _ _ _ _ _ _ _ _ _ _ h=>absurd h (by lia)
 | n+1=>B7d T (m:=n+5) (by lia) (C8b T n) λcl sc bk ar d p room ow own ns es scn nm lk S H Q a1 a2 a3 a4 a5 a6 a7 a8 b1 b2 a9 a10 pa ra e1 e2 q=>by
  subst e1 e2;exact i0u cl sc bk ar d p room (i1d ow own ns es scn nm lk S rfl a1 a2 a3 a4 a5 (i00 a6 a7 (i0h a8 b1 b2 (by lia) a10 q)))
def c60:Nat->Int
 | 0=>1
 | n+1=>c60 n*60
theorem D7i (h:n<=5):c60 n<=777600000:=by
 have h:n=0\/n=1\/n=2\/n=3\/n=4\/n=5:=by lia
 rcases h with rfl | rfl | rfl | rfl | rfl | rfl <;> decide
theorem A8q.le {z:Int} (h:A8q lk ys z):B1j lk ys->1<=z/\z<=c60 ys.length:=by
 induction h with
 | nil=>intro _;exact ⟨by decide,by decide⟩
 | @snoc ys y z n a b ih =>
  intro dk;obtain ⟨i1,i2⟩:=ih λx hx=>dk x (Z07.mpr (.inl hx));obtain ⟨m,e,m1,m2⟩:=dk y (by simp);rw [b] at e;cases e;rw [Z06];have h1:=Int.mul_le_mul i1 m1 (by lia) (by lia);have h2:=Int.mul_le_mul i2 m2 (by lia) (by lia);exact ⟨by lia,h2⟩
def TrB (Zz:Tm->Prop) (S:Addr->Prop) (lk:List (Key×V)) (n:Nat) (H:Hp) (v:V):Prop:=∃u,Rep (A1d S H) v (A2c u)/\TmW u/\TmL lk u/\dep u<=n/\nod u<=120/\Zz u
theorem TrB.mono {S':Addr->Prop} {n':Nat} (h:TrB Zz S lk n H v) (s:A1c H H') (hs:∀a o,H a=some o->S a->S' a) (hn:n<=n'):TrB Zz S' lk n' H' v:=by
 obtain ⟨u,r,w,t,d,k⟩:=h;exact ⟨u,(i09 (r.same (A2q s hs)) w t (by lia) k)⟩
theorem TrB.same (h:TrB Zz S lk n H v) (s:A1c H H'):TrB Zz S lk n H' v:=h.mono s (λ_ _ _ q=>q) (Z09 _)
theorem TrB.lst (h:TrB Zz S lk n H v) (hl:¬S l):TrB Zz S lk n (upd H l o) v:=by
 obtain ⟨u,r,w,t,d,k⟩:=h;exact ⟨u,(i09 (r.same (A2p (A1c.refl _) hl)) w t d k)⟩
theorem tOr2 (e1:∀Q':Bool->Hp->Prop,Q' d1 H->t1 Z H Q') (e2:∀Q':Bool->Hp->Prop,Q' d2 H->t2 Z H Q') (h:Q (d1||d2) H):tOr t1 t2 Z H Q:=by
 refine e1 _ ?_
 cases d1 with
 | true=>exact h
 | false=>exact A2o (e2 _ h)
def LbI (Zz:Tm->Prop) (S:Addr->Prop) (lk:List (Key×V)) (H:Hp) (cl sc bk rl:Addr) (most z:Int) (m:Nat) (Z:St) (H2:Hp):Prop:=∃(vs:List V) (p:Nat) (o7:Option V),Z=[Sro cl,Sro sc,Sro bk,Sio most,Sio z,Sro rl,Sio (p:Int),o7,none,none,none]/\A1c H H2/\H2 rl=some (.lst vs)/\vs.length<=16/\p<=7*vs.length/\(∀v∈vs,TrB Zz S lk 10 H2 v)/\m=16-vs.length
def LbJ (Zz:Tm->Prop) (S:Addr->Prop) (lk:List (Key×V)) (H:Hp) (cl sc bk:Addr) (most z:Int) (p:Nat) (m:Nat) (Z:St) (H2:Hp):Prop:=∃(l:Addr) (vs:List V) (o7 o8 o9 o10:Option V) (S':Addr->Prop),Z=[Sro cl,Sro sc,Sro bk,Sio most,Sio z,Sro l,Sio (p:Int),o7,o8,o9,o10]/\A1c H H2/\H2 l=some (.lst vs)/\Fr S' H2/\(∀a,S' a->S a)/\1<=vs.length/\vs.length<=2^m/\m<=4/\∀v∈vs,TrB Zz S' lk (14-m) H2 v
def C0z:Sp:=λvs H Q _=>∃(cl sc bk ar d:Addr) (ow:V) (own:Option (Str×List Str)) (most:Int) (ns:List Int) (es:List (Str×List Str)) (scn nm:List Str) (lk:List (Key×V)) (S:Addr->Prop),vs=[.ref cl,.ref sc,.ref bk,.int most]/\H cl=some (.lst (ns.map V.int))/\C5c H lk sc scn/\scn.length<=5/\H bk=some (.tup [.ref ar,.ref d,ow])/\D0x H lk ar es/\D3w H d lk nm/\D2b H lk ow own/\OwS own scn/\(∀x∈scn,x∈nm)/\most<=120/\Fr S H/\
 ∀(v':V) (u':Tm) (H':Hp),A1c H H'->Rep (A1d S H') v' (A2c u')->TmW u'->TmL lk u'->dep u'<=14->nod u'<=120->LfZ lk es own nm scn u'->Q v' H'
theorem D1v {z w most:Int} (z1:1<=z) (h:(n:Int)<=w) (hm:most<=120) (hc:¬most<z*w):n<=120:=by
 have:0<=(z-1)*w:=Int.mul_nonneg (by lia) (by lia);rw [Int.sub_mul,Int.one_mul] at this
 lia
theorem B9j (T:Txt K mg t):FO P w base T.oj 25 C0z:=by
 have Gc6:= @A8g P w K mg base t T;have Gc7:= @A8l P w K mg base t T;have Gd4:= @A6c P w K mg base t T;have Gc8:= @A4x P w K mg base t T;have Gd3:= @C8b P w K mg base t T 2;have Gd2:= @B3q P w K mg base t T 23;refine T.oj.F.ok A2j (λvs H Q E h=> ?_) λ_ A _ s H _ Q E hr h=> ?_
 ·refine e0g h ?_;clear h;rintro cl sc bk ar d ow own most ns ⟨es,scn,nm,lk,S,rfl,_⟩;rfl
 ·refine e0g h ?_;clear h;rintro cl sc bk ar d ow own most ns ⟨es,scn,nm,lk,S,rfl,hcl,hsc,lsc,hbk,has,hlk,how,ows,snm,hmo,fr,k⟩;have zn:∀z,LfZ lk es own nm scn (.num z):=λz=>⟨True.intro,λ_ _=>True.intro⟩;have zp:∀o a b,LfZ lk es own nm scn a->LfZ lk es own nm scn b->LfZ lk es own nm scn (.pair o a b):=λo a b ha hb=>⟨⟨ha.ti,hb.ti⟩,λρ hr=>⟨ha.sf ρ hr,hb.sf ρ hr⟩⟩;obtain ⟨Zz,hZ⟩:∃Zz,Zz=LfZ lk es own nm scn:=⟨_,rfl⟩;rw [<-hZ] at zn zp k;refine i02 _ (@A0c _ _ _ _ _ (@A0l _ _ 4 _ _ _ _ A2j.nd rfl (.inl rfl) (pcl Gc6 hr T.ib (A0a (pv 1) (A0a (A1f A1g (pv 2) A0e (λ_ _=>rfl)) A0d))) rfl (.inl rfl)) (@A0c _ _ _ _ _ (@A0l _ _ 5 _ _ _ _ A2j.nd rfl (.inl rfl) (@A1z _ _ _ _ A0d) rfl (.inl rfl)) (@A0c _ _ _ _ _ (@A0l _ _ 6 _ _ _ _ A2j.nd rfl (.inl rfl) A0e rfl (.inl rfl)) (@A0c _ _ _ _ _ (@B0h _ _ _ _ _ _ PassesOwn.never (PW.pt (A8z (A0q A2x (A0u A0v (by rfl) T.b_ Z0r (A0a (pv 5) A0d)) A0e (A1a _)) (A8d (PW.pt (A4a (A0q B5e (pv 6) (A0u A0v (by rfl) T.b_ Z0r (A0a (pv 0) A0d)) (A1a _)) (A4g (A0q B5e (A0u A0v (by rfl) T.b_ Z0r (A0a (pv 5) A0d)) A0e (A1a _)))))))) (@A0c _ _ _ _ _ (A9r (pcl Gd3 hr T.gq (A0a (pv 0) (A0a (pv 6) (A0a (pv 1) (A0a (pv 2) (A0a A0e A0d)))))) (A3z (n:=2) rfl (A0y (A0m (i:=7) A2j.nd rfl (.inl rfl)) (A0y (A0m (i:=6) A2j.nd rfl (.inl rfl)) A2v)))) (@A5h _ _ _ _ _ (@A1v _ _ _ _ _ _ _ _ (A0q A7q (A0o A7n (pv 4) (pcl Gd2 hr T.dy (A0a (pv 7) (A0a (A1f A1g (pv 2) A0e (λ_ _=>rfl)) A0d)))) (pv 3) (A1a _)) (@A0g _ _ _ (@A0l _ _ 7 _ _ _ _ A2j.nd rfl (.inl rfl) (A1n (A0a A1m (A0a (pcl Gc8 hr T.cv (A0a (pcl Gc7 hr T.gh (A0a (pcl Gd4 hr T.bh (A0a (pv 0) (A0a (pv 6) A0d))) (A0a (pv 6) A0d))) A0d)) A0d))) rfl (.inl rfl))) A0x) (@A0g _ _ _ (A3n (A7p Z0k Z0n Z0o A2l (pv 5) (A0a (pv 7) A0d))))))) (@A0c _ _ _ _ _ (@B0h _ _ _ _ _ _ PassesOwn.never (A0q A7q (A0u A0v (by rfl) T.b_ Z0r (A0a (pv 5) A0d)) A0e (A1a _)) (@A0c _ _ _ _ _ (@A0l _ _ 8 _ _ _ _ A2j.nd rfl (.inl rfl) (@A1z _ _ _ _ A0d) rfl (.inl rfl)) (@A0c _ _ _ _ _ (A2y PassesOwn.never rfl (B7i rfl T.dw (A0a A0e (A0a (A0o A4n (A0u A0v (by rfl) T.b_ Z0r (A0a (pv 5) A0d)) A0e) (A0a A0e A0d)))) (A0m (i:=9) A2j.nd rfl (.inl rfl)) (@A0c _ _ _ _ _ (@A0l _ _ 10 _ _ _ _ A2j.nd rfl (.inl rfl) (A1n (A0a (A1f A1p (@A1z _ _ _ _ (A0a A1m (A0a A1m (A0a A1m A0d)))) (A0o A1w (A0o A2h (pv 9) (A0u A0v (by rfl) T.b_ Z0r (A0a (pv 5) A0d))) A0e) (λ_ _=>rfl)) (A0a (A1f A1p (pv 5) (pv 9) (λ_ _=>rfl)) (A0a (A1f A1p (pv 5) (A0o A2h (pv 9) A0e) (λ_ _=>rfl)) A0d)))) rfl (.inl rfl)) (@A5h _ _ _ _ _ (@A1v _ _ _ _ _ _ _ _ (A0q A7q (A0o A7n (pv 4) (pcl Gd2 hr T.dy (A0a (pv 10) (A0a (A1f A1g (pv 2) A0e (λ_ _=>rfl)) A0d)))) (pv 3) (A1a _)) (@A0g _ _ _ (@A0l _ _ 10 _ _ _ _ A2j.nd rfl (.inl rfl) (A1f A1p (pv 5) (pv 9) (λ_ _=>rfl)) rfl (.inl rfl))) A0x) (@A0g _ _ _ (A3n (A7p Z0k Z0n Z0o A2l (pv 8) (A0a (pv 10) A0d))))))) (@A5h _ _ _ _ _ (@A1v _ _ _ _ _ _ _ _ (A0q A2x (A0o A1w (A0u A0v (by rfl) T.b_ Z0r (A0a (pv 5) A0d)) A0e) A0e (A1a _)) (@A0g _ _ _ (A3n (A7p Z0k Z0n Z0o A2l (pv 8) (A0a (A1f A1p (pv 5) (C3u B4q A0e) (λ_ _=>rfl)) A0d)))) A0x) (@A0g _ _ _ (@A0l _ _ 5 _ _ _ _ A2j.nd rfl (.inl rfl) (pv 8) rfl (.inl rfl))))))) (@A0g _ _ _ (@A0s _ _ _ _ (A1f A1p (pv 5) A0e (λ_ _=>rfl))))))))) ?_;refine i17 _ rfl _ rfl bk _ _ _ rfl rfl (SqT.of hbk) rfl (i0y sc d scn lk rfl hsc.1 hlk.h hsc.2.2.2 λz z1 mo=> ?_);have zb:=Int.le_trans (mo.le hsc.2.2.2).2 (D7i lsc);refine ⟨A0t rfl,λrl hrl=> ?_⟩;have s1:=A0f (o:= .lst []) hrl;refine i02 (LbI Zz (λb=>S b/\b≠rl) lk H cl sc bk rl most z) (i11 16 [] 0 none rfl s1 A0b (by decide) (by decide) ⟨(λv hv=>by cases hv),rfl⟩) ?_;rintro m Z H2 ⟨vs,p,o7,rfl,s2,h2,lvs,lp,hvs,rfl⟩;have fr1:∀{G:Hp},A1c H2 G->Fr (λb=>S b/\b≠rl) G:=λ{G} s b hb=>⟨fr b ((s2.trans s).free hb),λe=>by rw [e,s _ _ h2] at hb;cases hb⟩;have dl:∀{α:Type} (xs:List α),decide (V.int (xs.length:Int)=V.int 0)=decide (xs.length=0):=λxs=>decide_eq_decide.mpr ⟨λh=>by have:=V.int.inj h;lia,λh=>by rw [h];rfl⟩;refine tOr2 (d1:=decide (vs.length=0)) (d2:=decide ((p:Int)<((ns.map V.int).length:Int))&&decide ((vs.length:Int)<16)) (λQ' q=>(i0n _ rfl rl _ rfl (.inl (SqL.of h2)) (i05 rfl _ rfl (by rw [dl];exact q)))) (λQ' q=>B2i (d1:=decide ((p:Int)<((ns.map V.int).length:Int))) (d2:=decide ((vs.length:Int)<16)) (λQ' q=>(i0w _ rfl _ rfl cl _ rfl (.inl (SqL.of (s2 _ _ hcl))) (i0p _ _ rfl rfl _ rfl q))) (λQ' q=>(i0n _ rfl rl _ rfl (.inl (SqL.of h2)) (i0p _ _ rfl rfl _ rfl q))) q) ?_
  cases hb:(decide (vs.length=0)||(decide ((p:Int)<((ns.map V.int).length:Int))&&decide ((vs.length:Int)<16))) with
  | true =>
   have lv:vs.length<16:=by
    simp only [Bool.or_eq_true,Z1x,decide_eq_true_eq] at hb
    lia
   refine A5z (i02 (λZ' H'=>∃m',m'<16-vs.length/\LbI Zz (λb=>S b/\b≠rl) lk H cl sc bk rl most z m' Z' H') (λZ' H' z=>z) ?_);refine i0e _ rfl _ rfl (i0e _ rfl _ rfl (i0u cl sc bk ar d p 2 (i1d ow own ns es scn nm lk (λb=>S b/\b≠rl) rfl (s2 _ _ hcl) (by show p+7<=1000;lia) (hsc.same s2) (by lia) (s2 _ _ hbk) (i00 (has.same s2) (hlk.same s2) (i0h (how.same s2) ows snm (Z09 _) (fr1 (A1c.refl _)) λtp tv u' p' H3 s3 e3 rp wu tu du lo hi lz=> ?_)))));rw [<-hZ] at lz;have hi:p'<=p+7:=hi;have du:dep u'<=10:=du;have s23:=s2.trans s3;refine i19 tp _ rfl (SqT.of e3) rfl _ _ rfl _ _ rfl rfl ?_;refine i02 (λZ G=>∃(v:V),Z=[Sro cl,Sro sc,Sro bk,Sio most,Sio z,Sro rl,Sio (p':Int),some v,none,none,none]/\A1c H3 G/\TrB Zz (λb=>S b/\b≠rl) lk 10 G v) ?_ ?_
   ·refine i02 _ rfl (i17 _ rfl _ rfl bk _ _ _ rfl rfl (SqT.of (s23 _ _ hbk)) rfl (i11 tv d u' lk rfl (rp.same A1b) tu ((hlk.same s23).h) (by lia) λwt hw _=> ?_));refine i07 _ _ rfl (i0a rfl (.inl ⟨by lia,by lia⟩) _ rfl (i0p _ _ rfl rfl _ rfl (A4v (λ_=> ?_) (λhle=> ?_))))
    ·refine i02 _ rfl (i0x _ rfl cl ns (p':Int) rfl (SqL.of (s23 _ _ hcl)) (by lia) λc0=>(i0r _ rfl c0 (p':Int) rfl (by lia) (by lia) λr0=>(i02 r0 rfl λn hn=>⟨A0t rfl,λq1 hq1=> ?_⟩)));exact i0d _ rfl (A0f hq1) (.num n) (i0h (C1r (A0j (fr1 s3 q1 hq1) A0b)) hn True.intro (by show 1<=10;decide) (by show 1<=120;decide) (zn n))
    ·exact i0d tv rfl (A1c.refl _) u' (i0h rp wu tu du (D1v z1 hw hmo hle) lz)
   rintro Z G ⟨v,rfl,sG,tv'⟩;have s3G:=s3.trans sG;have hG:=s3G _ _ h2;refine i0j _ rfl (.inl (i01 rfl _ (SqL.of hG))) _ rfl (i0t rl _ _ rfl rfl hG (A1s (by lia)) ?_);refine i0x (15-vs.length) (by lia) (vs++[v]) p' _ rfl (A0r (s2.trans s3G) hrl) A0b (i04 (by rw [Z06];simp only [Z0y,Z2g];lia) (by rw [Z06];simp only [Z0y,Z2g];lia) (λy hy=> ?_) (by rw [Z06];simp only [Z0y,Z2g];lia));rcases Z07.mp hy with hy | hy
   ·exact ((hvs y hy).same s3G).lst λq=>q.2 rfl
   ·rw [Z0w.mp hy];exact tv'.lst λq=>q.2 rfl
  | false =>
   have lv:1<=vs.length:=by
    simp only [Bool.or_eq_false_iff,Bool.and_eq_false_iff,decide_eq_false_iff_not] at hb
    lia
   refine A2o ?_;refine i02 (LbJ Zz S lk H cl sc bk most z p) (i1d 4 rl vs o7 none none none (λb=>S b/\b≠rl) rfl s2 h2 (fr1 (A1c.refl _)) (λa q=>q.1) lv (i00 lvs (by decide) hvs)) ?_;clear fr1 hb lvs lp hvs h2 s2 lv vs;rintro m Z H2 zz;refine e09 zz ?_;clear zz;rintro l vs o7 o8 o9 ⟨o10,S',rfl,s2,h2,fr',sub,v1,vm,m4,hv⟩;refine i0n _ rfl l _ rfl (.inl (SqL.of h2)) (i0p _ _ rfl rfl _ rfl (A4v (λhlen=> ?_) (λhlen=> ?_)))
   ·have hlen:2<=vs.length:=by
     have:(1:Int)<(vs.length:Int):=hlen
     lia
    obtain ⟨n,rfl⟩:∃n,m=n+1:=by
     cases m with
     | zero=>simp at vm;lia
     | succ n=>exact ⟨n,rfl⟩
    rw [Nat.pow_succ] at vm
    have v16:vs.length<=16:=by
     have:2^n<=2^3:=Nat.pow_le_pow_right (by decide) (by lia)
     lia
    refine i02 (λZ' H'=>∃m',m'<n+1/\LbJ Zz S lk H cl sc bk most z p m' Z' H') (λZ' H' z=>z) ?_;refine ⟨A0t rfl,λf hf=> ?_⟩;have s3:A1c H2 (upd H2 f (.lst [])):=A0f hf;refine i0n _ rfl l _ rfl (.inl (SqL.of (s3 _ _ h2))) (i0f _ _ rfl rfl (i0m 0 _ 2 rfl (i0h (by decide) (by decide) (by lia) (by lia) (by decide) (by decide)) ?_));have hhalf:=C7p hlen;have toS:∀a o,H2 a=some o->S' a->S' a/\a≠f:=λa o ha hs=>⟨hs,A1e ha hf⟩
    refine C3f (n:=(Builtin.Range.rangeSize 0 ((vs.length:Int)-1) 2).toNat) (λi Z H4=>∃(o9 o10:Option V) (ws:List V),Z=[Sro cl,Sro sc,Sro bk,Sio most,Sio z,Sro l,Sio (p:Int),o7,Sro f,o9,o10]/\A1c H2 H4/\H4 f=some (.lst ws)/\ws.length=i/\
     ∀v∈ws,TrB Zz (λa=>S' a/\a≠f) lk (14-n) H4 v) (i0t _ _ [] rfl s3 A0b rfl (by simp)) ?_ ?_
    ·rintro i Z H4 hi ⟨o9,o10,ws,rfl,s4,h4,hwl,hw⟩;rw [hhalf] at hi;have ek:(0:Int)+(i:Int)*2=((2*i:Nat):Int):=by lia
     rw [ek];have fr4:∀{G:Hp},A1c H4 G->Fr (λa=>S' a/\a≠f) G:=λ{G} s a ha=>⟨fr' a ((s4.trans s).free ha),λz=>by rw [z,s _ _ h4] at ha;cases ha⟩;have h4l:=s4 _ _ h2;obtain ⟨va,a1⟩:∃va,vs[2*i]? =some va:=⟨vs[2*i]'(by lia),by simp⟩;obtain ⟨vb,b1⟩:∃vb,vs[2*i+1]? =some vb:=⟨vs[2*i+1]'(by lia),by simp⟩;have ta:=(hv _ (Z13 a1)).mono s4 toS (Z09 _);have tb:=(hv _ (Z13 b1)).mono s4 toS (Z09 _);have eb:atI vs (((2*i:Nat):Int)+1)=some vb:=A3g (j:=2*i+1) b1;obtain ⟨op,eop⟩:=D4j (((2*i:Nat):Int)+(vs.length:Int));refine ⟨A0t rfl,λll hll=> ?_⟩;have sA:=A0f (o:= .lst [.str "plus",.str "minus",.str "times"]) hll;refine i0w _ rfl _ rfl l _ rfl (.inl (SqL.of (sA _ _ h4l))) (i0f _ _ rfl rfl (i0l _ _ rfl rfl D2h (i0y ll _ _ _ rfl rfl (SqL.of A0b) eop ?_)));refine i17 _ rfl _ rfl l _ _ _ rfl rfl (SqL.of (sA _ _ h4l)) (A3g a1) (i0w _ rfl _ rfl _ _ rfl rfl (i11 l _ _ _ rfl rfl (SqL.of (sA _ _ h4l)) eb (A0t rfl) λq1 hq1=> ?_));have sB:=A0f (o:= .tup [.str (opS op),va,vb]) hq1;have sAB:=sA.trans sB;have fq:=fr4 sA q1 hq1;have e5:upd (upd H4 ll (.lst [.str "plus",.str "minus",.str "times"])) q1 (.tup [.str (opS op),va,vb]) q1=some (.tup [.str (opS op),va,vb]):=A0b;generalize upd (upd H4 ll (.lst [.str "plus",.str "minus",.str "times"])) q1 (.tup [.str (opS op),va,vb])=H5 at sAB e5;have ta5:=ta.same sAB;have tb5:=tb.same sAB;obtain ⟨ua,ra,wa,la,da,na,za⟩:=id ta5;obtain ⟨ub,rb,wb,lb,db,nb,zb⟩:=tb5;have rq:Rep (A1d (λa=>S' a/\a≠f) H5) (.ref q1) (A2c (.pair op ua ub)):=B5q (A0j fq e5) ra rb;have dq:dep (.pair op ua ub)<=14-n:=by simp only [dep];lia
     have s05:=s2.trans (s4.trans sAB);refine i02 (λZ H6=>H5=H6/\∃(v:V),Z=[Sro cl,Sro sc,Sro bk,Sio most,Sio z,Sro l,Sio (p:Int),o7,Sro f,Sio ((2*i:Nat):Int),some v]/\TrB Zz (λa=>S' a/\a≠f) lk (14-n) H5 v) ?_ ?_
     ·refine i02 _ rfl (i17 _ rfl _ rfl bk _ _ _ rfl rfl (SqT.of (s05 _ _ hbk)) rfl (i11 (.ref q1) d _ lk rfl (rq.same A1b) ⟨la,lb⟩ ((hlk.same s05).h) (by lia) λwt hw _=> ?_));refine i07 _ _ rfl (i0a rfl (.inl ⟨by lia,by lia⟩) _ rfl (i0p _ _ rfl rfl _ rfl (A4v (λ_=> ?_) (λhle=> ?_))))
      ·exact i02 _ rfl (i1b _ rfl l _ _ _ rfl rfl (SqL.of (sAB _ _ h4l)) (A3g a1) rfl va rfl (ta5.mono (A1c.refl _) (λ_ _ _ q=>q) (by lia)))
      ·exact i05 rfl _ rfl ⟨_,(i0h rq ⟨wa,wb⟩ ⟨la,lb⟩ dq (D1v z1 hw hmo hle) (zp op ua ub za zb))⟩
     rintro Z H6 ⟨rfl,v6,rfl,t6⟩;have h6:=sAB _ _ h4;refine i0j _ rfl (.inl (i01 rfl _ (SqL.of h6))) _ rfl (i0t f _ _ rfl rfl h6 (A1s (by lia)) ?_);refine i0t _ _ (ws++[v6]) rfl (A0r (s4.trans sAB) hf) A0b (by simp [hwl]) λy hy=> ?_;rcases Z07.mp hy with hy | hy
     ·exact ((hw y hy).same sAB).lst λq=>q.2 rfl
     ·rw [Z0w.mp hy];exact t6.lst λq=>q.2 rfl
    rintro Z H4 ⟨o9,o10,ws,rfl,s4,h4,hwl,hw⟩;rw [hhalf] at hwl;have h4l:=s4 _ _ h2;refine i02 (λZ H5=>∃ws,Z=[Sro cl,Sro sc,Sro bk,Sio most,Sio z,Sro l,Sio (p:Int),o7,Sro f,o9,o10]/\A1c H2 H5/\H5 f=some (.lst ws)/\ws.length=(vs.length+1)/2/\∀v∈ws,TrB Zz (λa=>S' a/\a≠f) lk (14-n) H5 v) ?_ ?_
    ·refine i0n _ rfl l _ rfl (.inl (SqL.of h4l)) (i0f _ _ rfl rfl (i0a D6r rfl _ rfl (A4v (λhodd=> ?_) (λhev=> ?_))))
     ·have hodd:((vs.length:Int)%2)=1:=by injection hodd
      obtain ⟨va,a1,a2⟩:=C2c (xs:=vs) (by lia);refine i06 _ rfl (.inl (i01 rfl _ (SqL.of h4))) (i17 _ rfl _ rfl l _ _ _ rfl rfl (SqL.of h4l) a2 (i0t f _ _ rfl rfl h4 (A1s (by lia)) ?_));refine ⟨ws++[va],(i09 rfl (A0r s4 hf) A0b (by simp;lia) λy hy=> ?_)⟩;rcases Z07.mp hy with hy | hy
      ·exact (hw y hy).lst λq=>q.2 rfl
      ·rw [Z0w.mp hy];exact ((hv _ (Z13 a1)).mono s4 toS (by lia)).lst λq=>q.2 rfl
     ·have hev:¬((vs.length:Int)%2)=1:=λz=>hev (congrArg V.int z);exact ⟨ws,(i09 rfl s4 h4 (by lia) hw)⟩
    rintro Z H5 ⟨ws,rfl,s5,h5,hwl,hw⟩;exact i0e _ rfl n (by lia) ⟨f,(i1c ws _ _ _ _ _ rfl (s2.trans s5) h5 (λa ha=>⟨fr' a (s5.free ha),λz=>by rw [z,h5] at ha;cases ha⟩) (λa q=>sub a q.1) (by lia) (by lia) ⟨by lia,hw⟩)⟩
   ·have hlen:vs.length=1:=by
     have:¬(1:Int)<(vs.length:Int):=hlen
     lia
    obtain ⟨va,a1⟩:∃va,vs[0]? =some va:=⟨vs[0]'(by lia),by simp⟩;obtain ⟨ua,ra,wa,la,da,na,za⟩:=hv _ (Z13 a1);exact i13 _ rfl l _ _ _ rfl rfl (SqL.of h2) (A3g (j:=0) a1) (k va ua H2 s2 (ra.same (A2q (A1c.refl _) λa _ _ q=>sub a q)) wa la (by lia) na za)
theorem B9s {xs:List Nat} {i:Int} {b:Nat} (h0:0<=i) (h1:i<xs.length) (hb:∀x∈xs,x<=b):∃m:Nat,m<=b/\atI (xs.map λ(n:Nat)=>V.int (n:Int)) i=some (.int (m:Int)):=by
 obtain ⟨x,hx,ex⟩:=A5o (f:=λn:Nat=>V.int (n:Int)) h0 h1;exact i02 x (hb x (Z13 hx)) ex
def AxL (ax:List (Str×Int)):Prop:=(∀e∈ax,1<=e.2/\e.2<=60)/\NmS (ax.map (·.1))/\(ax.map (·.1)).Nodup/\ax.length<=8
theorem D6g (h:H d=some (.dK (A2i ax))) (k:AxL ax):D3w H d (A2i ax) (ax.map (·.1)):=by
 have ks:(A2i ax).map (·.1)=(ax.map (·.1)).map (Sum.inr:Str->Key):=by unfold A2i;rw [List.map_map,List.map_map];rfl
 refine ⟨h,ks,λy hy=> ?_,k.2.1,by have:=k.2.2.2;rw [Z08];lia⟩;obtain ⟨e,he,rfl⟩:=Z2c.mp hy;obtain ⟨i,hi,ei⟩:=List.mem_iff_getElem.mp he;refine i02 e.2 (C1i (i:=i) ?_ ?_) (k.1 e he)
 ·rw [ks];exact k.2.2.1.map (f:=(Sum.inr:Str->Key)) λa b hab z=>hab (Sum.inr.inj z)
 ·unfold A2i;rw [Z1z,Z0b hi,ei];rfl
def mxL (m:Nat):Int:=if 4<m then 2 else 4
def Bd (m:Nat) (ax:List (Str×Int)):Prop:=∀(j:Nat) (e:Str×Int),ax[j]? =some e->1<=j->e.2<=mxL m
def B3r (K:Frag):Sp:=λvs H Q _=>∃(a nl:Addr) (ns:List Int) (nm:List Str),vs=[.ref a,.ref nl]/\SqL K H a (ns.map V.int)/\H nl=some (.lst (nm.map V.str))/\10<=nm.length/\nm.Nodup/\
 ∀(d:Addr) (ax:List (Str×Int)) (H':Hp),H d=none->A1c H H'->H' d=some (.dK (A2i ax))->ax.map (·.1)=nm.take ax.length->ax.length<=8->(∀e∈ax,1<=e.2/\e.2<=60)->Bd ax.length ax->Q (.ref d) H'
theorem B2q (T:Txt K mg t):FO P w base T.ia 3 (B3r K):=by
 have Gd7:= @B7n P w K mg base t T;have Gd4:= @A6c P w K mg base t T;refine T.ia.F.ok A3w (by walk_at "ln") λ_ A _ s H _ Q E hr h=> ?_
 ·obtain ⟨a,nl,ns,nm,rfl,hS,hnl,l10,nd,k⟩:=h;have hu:=A7r hr;refine i02 _ (@A0c _ _ _ _ _ (@A0l _ _ 2 _ _ _ _ A3w.nd rfl (.inl rfl) B5x rfl (.inl rfl)) (@A0c _ _ _ _ _ (@A0l _ _ 3 _ _ _ _ A3w.nd rfl (.inl rfl) (A1f A1p (@A1z _ _ _ _ (A0a A0e (A0a A0e (A0a A0e (A0a A0e (A0a A0e (A0a A0e (A0a A0e (A0a A0e (A0a A0e (A0a A0e A0d))))))))))) (A0o A1w (A0o A1t (pcl Gd4 hr T.bh (A0a (pv 0) (A0a A0e A0d))) A0e) A0e) (λ_ _=>rfl)) rfl (.inl rfl)) (@A0c _ _ _ _ _ (A2y PassesOwn.never rfl (A4d rfl T.dw (A0a (pv 3) A0d)) (A0m (i:=4) A3w.nd rfl (.inl rfl)) (@A0c _ _ _ _ _ (@A0l _ _ 5 _ _ _ _ A3w.nd rfl (.inl rfl) (pcl Gd7 hr T.j_ (A0a (pcl Gd4 hr T.bh (A0a (pv 0) (A0a A0e A0d))) (A0a (pv 4) A0d))) rfl (.inl rfl)) (@A0c _ _ _ _ _ (@B0w _ _ _ _ _ _ _ _ _ hu (pv 2) (A1f A1p (pv 1) (pv 4) (λ_ _=>rfl)) (A0o A2h A0e (A0o A1w (pv 5) (A1f A1p (@A1z _ _ _ _ (A0a A0e (A0a A0e A0d))) (A2k B2h (by rfl) T.Ag PyProof.Rows.boot_int (A0a (B3s A7q (pv 3) A0e (A1a _)) A0d)) (λ_ _=>rfl)))) rfl) (@A0g _ _ _ (@A1v _ _ _ _ _ _ _ _ (PW.pt (A4a (A0q A2x (pv 4) A0e (A1a _)) (A4g (A0q A2x (A0o A1w (A0o A1t (pv 5) A0e) A0e) A0e (A1a _))))) (@A0g _ _ _ (@B0w _ _ _ _ _ _ _ _ _ hu (pv 2) (A1f A1p (pv 1) (pv 4) (λ_ _=>rfl)) (A0o A2h A0e (A0o A1w (A0o A1t (pv 5) A0e) A0e)) rfl)) A0x))))) (@A0g _ _ _ (@A0s _ _ _ _ (pv 2)))))) ?_;refine λd hd=> ?_;have s0:A1c H (upd H d (.dK [])):=A0f hd;refine ⟨A0t rfl,λzl hzl=> ?_⟩;have s1:=s0.trans (A0f (o:= .lst [.int 0,.int 1,.int 2,.int 3,.int 4,.int 2,.int 3,.int 4,.int 6,.int 8]) hzl);have h1:=(A0f (o:= .lst [.int 0,.int 1,.int 2,.int 3,.int 4,.int 2,.int 3,.int 4,.int 6,.int 8]) hzl) d _ A0b;refine i0x _ rfl a ns 2 rfl (s1.seq hS) (by decide) λc=> ?_;obtain ⟨m,m8,em⟩:=B9s (xs:=[0,1,2,3,4,2,3,4,6,8]) (i:=c/3%10) (b:=8) (by lia) (by show c/3%10<10;lia) (by decide);refine i10 _ _ rfl rfl ⟨by decide,by decide⟩ _ _ rfl rfl ⟨E0r,(i0y zl _ _ _ rfl rfl (SqL.of A0b) em ?_)⟩;generalize upd (upd H d (.dK [])) zl (.lst [.int 0,.int 1,.int 2,.int 3,.int 4,.int 2,.int 3,.int 4,.int 6,.int 8])=H1 at s1 h1;refine i0k _ rfl _ rfl (by lia) ⟨by lia,?_⟩
  refine A4q (n:=((m:Nat):Int).toNat) (λi Z H2=>∃(o4 o5:Option V) (ax:List (Str×Int)),Z=[Sro a,Sro nl,Sro d,Sio (m:Int),o4,o5]/\A1c H H2/\H2 d=some (.dK (A2i ax))/\ax.length=i/\ax.map (·.1)=nm.take i/\(∀e∈ax,1<=e.2/\e.2<=60)/\Bd m ax)
   (i0g none none [] rfl (i0h s1 h1 rfl rfl (by intro e he;cases he) (by intro j e he;cases he))) ?_ ?_
  ·rintro i Z H2 hi ⟨o4,o5,ax,rfl,s2,h2,la,ks,va,bd⟩;rw [Int.toNat_natCast] at hi;rw [Int.zero_add];have hyi:nm[i]? =some nm[i]:=Z0b (by lia);have ey:atI (nm.map V.str) (i:Int)=some (.str nm[i]):=A3g (by rw [Z1z,hyi];rfl);refine i0x _ rfl a ns 2 rfl (s2.seq hS) (by decide) λc0=>(i0r _ rfl c0 (i:Int) rfl (by lia) (by lia) λr=> ?_)
   obtain ⟨b,b1,b4,bm,eb⟩:∃b:Int,1<=b/\b<=4/\b<=mxL m/\atI [V.int 4,V.int 2] (if decide ((4:Int)<(m:Int))=true then 1 else 0)=some (.int b):=by
    by_cases h4:4<m
    ·rw [Z20 (show (4:Int)<(m:Int) by lia)];exact i0c 2 (by decide) (by decide) (by unfold mxL;rw [Z12 h4];exact Int.le_refl _) rfl
    ·rw [Z1j (show¬(4:Int)<(m:Int) by lia)];exact i0c 4 (by decide) (by decide) (by unfold mxL;rw [Z0t h4];exact Int.le_refl _) rfl
   have llk:(A2i ax).length=i:=by unfold A2i;rw [Z08,la]
   have kk:(A2i ax).map (·.1)=(nm.take i).map λx=>(Sum.inr x:Key):=by rw [<-ks];unfold A2i;rw [List.map_map,List.map_map];rfl
   refine i06 _ rfl (A0t rfl) λz2 hz2=> ?_;have sz:=A0f (o:= .lst [.int 4,.int 2]) hz2;refine i0n _ rfl _ _ rfl rfl (.inr (i13 _ rfl z2 _ _ _ rfl rfl (SqL.of A0b) eb (i0l _ _ rfl rfl (by show 0<b;lia) (i0p _ _ rfl rfl _ rfl (i17 _ rfl _ rfl nl _ _ _ rfl rfl (SqL.of (sz _ _ (s2 _ _ hnl))) ey (i0f d _ rfl (C8s.k (k:=Sum.inr nm[i]) (sz _ _ h2) (A1s (by lia))) ?_))))));have r0:0<=r%b:=Z1v _ (by lia);have r1:r%b<b:=Z1p _ (by lia)
   have pn:A9y (A2i ax) (Sum.inr nm[i]) (.int (1+r%b))=A2i (ax++[(nm[i],1+r%b)]):=by
    rw [D6s nd hyi kk];unfold A2i;rw [Z0s];rfl
   have s3:A1c H (upd (upd H2 z2 (.lst [.int 4,.int 2])) d (.dK (A2i (ax++[(nm[i],1+r%b)])))):=A0r (s2.trans sz) hd;have h3:upd (upd H2 z2 (.lst [.int 4,.int 2])) d (.dK (A2i (ax++[(nm[i],1+r%b)]))) d=some (.dK (A2i (ax++[(nm[i],1+r%b)]))):=A0b;rw [pn];generalize upd (upd H2 z2 (.lst [.int 4,.int 2])) d (.dK (A2i (ax++[(nm[i],1+r%b)])))=H3 at s3 h3
   have fin:∀(q:Int) (G:Hp),1<=q->q<=60->(1<=i->q<=mxL m)->A1c H G->G d=some (.dK (A2i (ax++[(nm[i],q)])))->∃(o4 o5:Option V) (ax:List (Str×Int)),[some (V.ref a),some (.ref nl),some (.ref d),some (.int (m:Int)),some (.int (i:Int)),some (.int r)]=[some (.ref a),some (.ref nl),some (.ref d),some (.int (m:Int)),o4,o5]/\A1c H G/\G d=some (.dK (A2i ax))/\ax.length=i+1/\ax.map (·.1)=nm.take (i+1)/\(∀e∈ax,1<=e.2/\e.2<=60)/\Bd m ax:=λq G q1 q2 q3 sG hG=>by
    refine i0g _ _ (ax++[(nm[i],q)]) rfl (i0h sG hG (by simp [la]) ?_ (λe he=> ?_) λj e he hj=> ?_)
    ·rw [Z0s,ks,Z14,hyi];rfl
    ·rcases Z07.mp he with he | he
     ·exact va e he
     ·rw [Z0w.mp he];exact ⟨q1,q2⟩
    ·by_cases hji:j<ax.length
     ·rw [Z26 hji] at he;exact bd j e he hj
     ·rw [Z1l (by lia)] at he;have:j-ax.length=0:=by have:=(Z03.mp he).1;simp at this;lia
      rw [this] at he;cases he;exact q3 (by lia)
   dsimp only [A6x,C7k,D2s,D5h];refine B2i (d1:=decide (V.int (i:Int)=V.int 0)) (d2:=decide (V.int (r/4%8)=V.int 5)) (λQ' q=>(i0j _ rfl rfl _ rfl q)) (λQ' q=>(i02 _ rfl (i10 _ _ rfl rfl ⟨by decide,by decide⟩ _ _ rfl rfl (i0a D8y rfl _ rfl q)))) ?_
   cases hb:(decide (V.int (i:Int)=V.int 0)&&decide (V.int (r/4%8)=V.int 5)) with
   | false=>exact A2o (fin _ _ (by lia) (by lia) (λ_=>by lia) s3 h3)
   | true =>
    have i0:i=0:=by
     have:=of_decide_eq_true (Z1x _ _▸hb).1;have:=V.int.inj this
     lia
    have ax0:ax=[]:=List.eq_nil_of_length_eq_zero (by lia);have r2:0<=r/32%60/\r/32%60<60:=by lia
    refine A5z (i0r _ rfl _ _ rfl rfl ⟨by decide,by decide⟩ (i0l _ _ rfl rfl D9q (i0p _ _ rfl rfl _ rfl (i17 _ rfl _ rfl nl _ _ _ rfl rfl (SqL.of (s3 _ _ hnl)) ey (i0f d _ rfl (C8s.k (k:=Sum.inr nm[i]) h3 (A1s (by unfold A2i;simp;lia))) ?_)))));refine fin (1+r/32%60) _ (by lia) (by lia) (λz=>by lia) (A0r s3 hd) ?_;rw [A0b];subst ax0;show some (HO.dK (A9y [(Sum.inr nm[i],V.int (1+r%b))] (Sum.inr nm[i]) (.int (1+r/32%60))))=some (.dK [(Sum.inr nm[i],V.int (1+r/32%60))]);unfold A9y;simp
  ·rintro Z H2 ⟨o4,o5,ax,rfl,s2,h2,la,ks,va,bd⟩;rw [Int.toNat_natCast] at la ks;exact i02 _ rfl (k d ax H2 hd s2 h2 (by rw [la];exact ks) (by lia) va (by rw [la];exact bd))
theorem D2d {α:Type} (f:α->V) (nm:List α) (lo hi:Option Int):∃zs:List α,C8u (nm.map f) lo hi=zs.map f/\zs.length<=nm.length/\∀x∈zs,x∈nm:=by
 refine i06 ((nm.drop (HT.sIx nm.length 0 lo)).take (HT.sIx nm.length nm.length hi-HT.sIx nm.length 0 lo)) ?_ ?_ λx hx=> ?_
 ·unfold C8u;rw [Z08,<-List.map_drop,<-List.map_take]
 ·rw [Z0x,List.length_drop];lia
 ·exact List.mem_of_mem_drop (Z2p hx)
theorem D3l {α:Type} (f:α->V) (nm:List α) (lo hi:Option Int):∃zs:List α,C8u (nm.map f) lo hi=zs.map f/\zs.Sublist nm:=by
 refine i02 ((nm.drop (HT.sIx nm.length 0 lo)).take (HT.sIx nm.length nm.length hi-HT.sIx nm.length 0 lo)) ?_ ((Z2o _ _).trans (List.drop_sublist _ _));unfold C8u;rw [Z08,<-List.map_drop,<-List.map_take]
theorem E1d (xs:List V) (lo:Option Int) (n:Nat):(C8u xs lo (some (n:Int))).length<=n:=by
 unfold C8u;rw [Z0x]
 have:HT.sIx xs.length xs.length (some (n:Int))<=n:=by
  have e:=HT.sIx_nat xs.length xs.length n;have e:HT.sIx xs.length xs.length (some (n:Int))=min n xs.length:=e;rw [e];exact Nat.min_le_left _ _
 lia
theorem D4c {a b c:Int} (hc:0<c) (h:i<(Builtin.Range.rangeSize a b c).toNat):a+(i:Int)*c<b:=by
 unfold Builtin.Range.rangeSize at h;rw [Z12 hc] at h;by_cases hab:a<b
 ·rw [Z12 hab] at h;have h1:(i:Int)<=(b-a-1)/c:=by lia
  have:=(Int.le_ediv_iff_mul_le hc).mp h1
  lia
 ·rw [Z0t hab] at h;simp at h
def TmS:Tm->Prop
 | .read a _=>PyData.strOk a=true
 | .sum _ b=>TmS b
 | .pair _ l r=>TmS l/\TmS r
 | .guard _ _ _ l r=>TmS l/\TmS r
 | _=>True
theorem D5f {lk:List (Key×V)}:∀u:Tm,TmL lk u->TmS u
 | .read _ _,h=>h
 | .sum _ b,h=>D5f b h.2
 | .pair _ l r,h=>⟨D5f l h.1,D5f r h.2⟩
 | .guard _ _ _ l r,h=>⟨D5f l h.2.1,D5f r h.2.2⟩
 | .num _,_=>True.intro
 | .place _,_=>True.intro
def D6d (H:Hp) (v:V) (e:Lt):Prop:=∃q al tv,v= .ref q/\H q=some (.tup [.str e.1,.ref al,tv])/\H al=some (.lst (e.2.1.map V.str))/\Rep H tv (A2c e.2.2)
theorem D6d.same {e:Lt} (h:D6d H v e) (s:A1c H H'):D6d H' v e:=by
 obtain ⟨q,al,tv,rfl,e1,e2,r⟩:=h;exact i0q q al tv rfl (s _ _ e1) (s _ _ e2) (r.same s)
structure D9e (lk:List (Key×V)) (e:Lt):Prop where
 o:PyData.strOk e.1=true
 l1:e.1.length<=60
 l3:e.2.1.length<=3
 n:NmS e.2.1
 w:TmW e.2.2
 s:TmS e.2.2
 d:dep e.2.2<=16
 k:nod e.2.2<=122
def D3q:List Str->Tm->Tm
 | [],u=>u
 | x::s,u=> .sum x (D3q s u)
structure LtS (lk:List (Key×V)) (nm:List Str) (es:List (Str×List Str)) (e:Lt):Prop where
 ex:∃sums u,e.2.2=D3q sums u/\(e.2.1++sums).Nodup/\(∀x∈e.2.1++sums,x∈nm)/\LfZ lk es (some (e.1,e.2.1)) nm (e.2.1++sums) u
 tl:TmL lk e.2.2
abbrev D2u (ls:List Lt):List (Str×List Str):=ls.map λe=>(e.1,e.2.1)
theorem D2a {nm:List Str} (hm:m<=6) (nd:nm.Nodup):((nm.drop 8).take m++(nm.drop 14).take i).Nodup:=by
 refine nd.sublist ?_
 have h1:((nm.drop 8).take m).Sublist (nm.take 14):=by
  have e:(nm.drop 8).take m=((nm.take 14).drop 8).take m:=by rw [List.drop_take,List.take_take,Nat.min_eq_left (by lia)]
  rw [e];exact (Z2o _ _).trans (List.drop_sublist _ _)
 have h2:((nm.drop 14).take i).Sublist (nm.drop 14):=Z2o _ _;have:=h1.append h2;rw [Z2e] at this;exact this
structure B3z (H:Hp) (p:Addr) (ax:List (Str×Int)) (tb:List (Str×List Str)) (ls:List Lt):Prop where
 ob:∃(wh:Int) (d tl ll ol:Addr) (tvs lvs:List V) (o:Str),H p=some (.tup [.int wh,.ref d,.ref tl,.ref ll,.ref ol])/\H d=some (.dK (A2i ax))/\H tl=some (.lst tvs)/\Paired (C8v H (A2i ax)) tvs tb/\H ll=some (.lst lvs)/\Paired (D6d H) lvs ls/\H ol=some (.lst [.str o])
 hx:AxL ax
 t:tb.length<=6
 l:ls.length<=8
 ok:∀e∈ls,D9e (A2i ax) e
 sf:∀(j:Nat) (e:Lt),ls[j]? =some e->LtS (A2i ax) (ax.map (·.1)) (tb++D2u (ls.take j)) e
 nd:(tb.map (·.1)++ls.map (·.1)).Nodup
 ng:∀x∈tb.map (·.1)++ls.map (·.1),NmG x
 pb:Bd ax.length ax
def B3h (K:Frag):Sp:=λvs H Q _=>∃(a:Addr) (ns:List Int),vs=[.ref a]/\SqL K H a (ns.map V.int)/\∀(p:Addr) (ax:List (Str×Int)) (tb:List (Str×List Str)) (ls:List Lt) (H':Hp),A1c H H'->B3z H' p ax tb ls->Q (.ref p) H'
theorem C9s {k:Key}:∃g:Int,(A9o (A2i ax) k).getD (.int 1)= .int g:=by
 cases e:A9o (A2i ax) k with
 | none=>exact ⟨1,rfl⟩
 | some v =>
  obtain ⟨p,hp,e1,e2⟩:=C2f e;obtain ⟨f,_,rfl⟩:=Z2c.mp hp;exact ⟨f.2,e2.symm⟩
abbrev S2P (arl ll:Addr):Addr->Prop:=λb=>b≠arl/\b≠ll
theorem B3i (T:Txt K mg t):FO P w base T.gj 26 (B3h K):=by
 have Gd8:= @B5k P w K mg base t T;have Gd9:= @B2q P w K mg base t T;have Gd7:= @B7n P w K mg base t T;have Gc7:= @A8l P w K mg base t T;have Gd4:= @A6c P w K mg base t T;have Ge0:= @B6r P w K mg base t T;have Gc6:= @A8g P w K mg base t T;have Ge1:= @B9j P w K mg base t T;refine T.gj.F.ok A0w (by walk_at "ln") λ_ A _ s H _ Q E hr h=> ?_
 ·obtain ⟨a,ns,rfl,hS,k⟩:=h;have hu:=A7r hr;refine i02 _ (@A0c _ _ _ _ _ (@A0l _ _ 1 _ _ _ _ A0w.nd rfl (.inl rfl) (pcl Gd8 hr T.jh (A0a (pcl Gd4 hr T.bh (A0a (pv 0) (A0a A0e A0d))) (A0a (pcl Gd4 hr T.bh (A0a (pv 0) (A0a A0e A0d))) (A0a A0e A0d)))) rfl (.inl rfl)) (@A0c _ _ _ _ _ (@A0l _ _ 2 _ _ _ _ A0w.nd rfl (.inl rfl) (pcl Gd9 hr T.ia (A0a (pv 0) (A0a (pv 1) A0d))) rfl (.inl rfl)) (@A0c _ _ _ _ _ (@A0l _ _ 3 _ _ _ _ A0w.nd rfl (.inl rfl) (A2k (C3t rfl) (by rfl) T.gm Z1o (A0a (pv 2) A0d)) rfl (.inl rfl)) (@A0c _ _ _ _ _ (@A0l _ _ 4 _ _ _ _ A0w.nd rfl (.inl rfl) (@A1z _ _ _ _ A0d) rfl (.inl rfl)) (@A0c _ _ _ _ _ (A2y PassesOwn.never rfl (A4d rfl T.dw (A0a (A1f A1p (@A1z _ _ _ _ (A0a A0e (A0a A0e (A0a A0e (A0a A0e (A0a A0e (A0a A0e (A0a A0e A0d)))))))) (A0o A1w (pcl Gd4 hr T.bh (A0a (pv 0) (A0a A0e A0d))) A0e) (λ_ _=>rfl)) A0d)) (A0m (i:=5) A0w.nd rfl (.inl rfl)) (@A0c _ _ _ _ _ (@A0l _ _ 6 _ _ _ _ A0w.nd rfl (.inl rfl) (pcl Gd7 hr T.j_ (A0a (pcl Gd4 hr T.bh (A0a (pv 0) (A0a A0e A0d))) (A0a (pv 5) A0d))) rfl (.inl rfl)) (@A0g _ _ _ (A3n (A7p Z0k Z0n Z0o A2l (pv 4) (A0a (A1n (A0a (A1f A1p (pv 1) (A0o A2h A0e (pv 5)) (λ_ _=>rfl)) (A0a (pcl Ge0 hr T.fj (A0a (pv 6) (A0a (pv 3) (A0a (pv 2) (A0a A0e A0d))))) A0d))) A0d)))))) (@A0c _ _ _ _ _ (@A0l _ _ 7 _ _ _ _ A0w.nd rfl (.inl rfl) (A2k A5b (by rfl) T.gm Z1o (A0a (pv 4) A0d)) rfl (.inl rfl)) (@A0c _ _ _ _ _ (@A0l _ _ 8 _ _ _ _ A0w.nd rfl (.inl rfl) (@A1z _ _ _ _ A0d) rfl (.inl rfl)) (@A0c _ _ _ _ _ (@A0l _ _ 9 _ _ _ _ A0w.nd rfl (.inl rfl) (A1f A1p (@A1z _ _ _ _ (A0a A0e (A0a A0e (A0a A0e (A0a A0e (A0a A0e (A0a A0e (A0a A0e (A0a A0e (A0a A0e A0d)))))))))) (A0o A1w (pcl Gd4 hr T.bh (A0a (pv 0) (A0a A0e A0d))) A0e) (λ_ _=>rfl)) rfl (.inl rfl)) (@A5h _ _ _ _ _ (@A1v _ _ _ _ _ _ _ _ (PW.pt (A4a (A0q A2x (pv 9) A0e (A1a _)) (A4g (A0q A2x (A0u A0v (by rfl) T.b_ Z0r (A0a (pv 7) A0d)) A0e (A1a _))))) (@A0g _ _ _ (@A0l _ _ 9 _ _ _ _ A0w.nd rfl (.inl rfl) A0e rfl (.inl rfl))) A0x) (@A0c _ _ _ _ _ (@A0l _ _ 10 _ _ _ _ A0w.nd rfl (.inr rfl) (B1x C4w (pv 0) (B2m A0e) (B2m A0e)) rfl (.inl rfl)) (@A0c _ _ _ _ _ (A2y PassesOwn.never rfl (A4d rfl T.dw (A0a (pv 9) A0d)) (A0m (i:=11) A0w.nd rfl (.inl rfl)) (@A0c _ _ _ _ _ (@A0l _ _ 6 _ _ _ _ A0w.nd rfl (.inl rfl) (pcl Gd7 hr T.j_ (A0a (pcl Gd4 hr T.bh (A0a (pv 0) (A0a A0e A0d))) (A0a (pv 11) A0d))) rfl (.inl rfl)) (@A0c _ _ _ _ _ (@A0l _ _ 12 _ _ _ _ A0w.nd rfl (.inr rfl) (pcl Ge0 hr T.fj (A0a (pv 6) (A0a (pv 3) (A0a (pv 2) (A0a (A1f A1p (@A1z _ _ _ _ (A0a A0e (A0a A0e A0d))) (A2k B2h (by rfl) T.Ag PyProof.Rows.boot_int (A0a (B3s A7q (C2e hu (pv 2) (A1f A1p (pv 1) A0e (λ_ _=>rfl)) A0e ⟨rfl,rfl,rfl,rfl⟩) A0e (A1a _)) A0d)) (λ_ _=>rfl)) A0d))))) rfl (.inl rfl)) (@A0c _ _ _ _ _ (@A0l _ _ 13 _ _ _ _ A0w.nd rfl (.inl rfl) (A0u (C6o rfl) (by rfl) T.Bf PyProof.Rows.boot_min (A0a A0e (A0a (A0u (C6c rfl) (by rfl) T.Bi PyProof.Rows.boot_max (A0a A0e (A0a (A0o A1t A0e (pcl Gc6 hr T.ib (A0a (pv 12) (A0a (pv 2) A0d)))) A0d))) A0d))) rfl (.inl rfl)) (@A0c _ _ _ _ _ (@A0l _ _ 15 _ _ _ _ A0w.nd rfl (.inl rfl) (B1x C4w (B7z (N':=["_law_axis","_law_axes"]) (ix:=(List.replicate 1 none++[some 12])) (tc:=C0p (tOp (rIn K true) (C7a 0) (C7a 1))) rfl (A8m (x:="_law_axes") rfl rfl rfl (by decide +kernel) (by decide +kernel)) (A6w (N0:=["_law_axis"]) rfl (.inl rfl) (by walk_at "ix")) (A2g (pcl Ge0 hr T.fj (A0a (A0o A1t (pv 6) (A0o A9s A0e A0e)) (A0a (pv 3) (A0a (pv 2) (A0a (pv 13) A0d)))))) (λ_ _ _ _=>(A0m (i:=0) C8m rfl (.inl rfl))) (λ_ _ _ _=>(A0q A6b (pv 0) (pv 1) (by with_unfolding_all rfl))) (λ_ _ _ _=>(pv 0))) C0d (B2m A0e)) rfl (.inl rfl)) (@A0c _ _ _ _ _ (@A0l _ _ 16 _ _ _ _ A0w.nd rfl (.inl rfl) (A1n (A0a (A2k A5b (by rfl) T.gm Z1o (A0a (pv 4) A0d)) (A0a (pv 2) (A0a (A1n (A0a (A1f A1p (pv 1) (A0o A2h A0e (pv 11)) (λ_ _=>rfl)) (A0a (pv 12) A0d))) A0d)))) rfl (.inl rfl)) (@A0c _ _ _ _ _ (@A0l _ _ 17 _ _ _ _ A0w.nd rfl (.inl rfl) (pcl Ge1 hr T.oj (A0a (A4e (N':=["_law_k","_law_cells"]) (ix:=(List.replicate 1 none++[some 10])) rfl (A8m (x:="_law_cells") rfl rfl rfl (by decide +kernel) (by decide +kernel)) (A6w (N0:=["_law_k"]) rfl (.inl rfl) (by walk_at "ix")) (B7i rfl T.dw (A0a (pv 11) (A0a (A0u A0v (by rfl) T.b_ Z0r (A0a (pv 10) A0d)) (A0a (pv 9) A0d)))) (λ_ _ _ _=>(A0m (i:=0) C3r rfl (.inl rfl))) (λ_ _ _ _=>(A1f (C9j (K:=K) rfl) (pv 1) (pv 0) (λ_ _=>rfl)))) (A0a (A0o A8r (pv 12) (pv 15)) (A0a (pv 16) (A0a (A0o A1t A0e (A0o A2h A0e (A0o A1t (pv 9) A0e))) A0d))))) rfl (.inl rfl)) (@A0c _ _ _ _ _ (A2y PassesOwn.never rfl (C8e rfl T.n_ (A0a (pv 15) A0d)) (A0m (i:=14) A0w.nd rfl (.inl rfl)) (@A0g _ _ _ (@A0l _ _ 17 _ _ _ _ A0w.nd rfl (.inl rfl) (A1n (A0a A1m (A0a (pv 14) (A0a (pv 17) A0d)))) rfl (.inl rfl)))) (@A0c _ _ _ _ _ (A3n (A7p Z0k Z0n Z0o A2l (pv 8) (A0a (A1n (A0a (A1f A1p (pv 1) (A0o A2h A0e (pv 11)) (λ_ _=>rfl)) (A0a (pv 12) (A0a (pv 17) A0d)))) A0d))) (@A0g _ _ _ (A3n (A7p Z0k Z0n Z0o A2l (pv 4) (A0a (A1n (A0a (A1f A1p (pv 1) (A0o A2h A0e (pv 11)) (λ_ _=>rfl)) (A0a (pv 12) A0d))) A0d))))))))))))) (@A0c _ _ _ _ _ (@A0l _ _ 6 _ _ _ _ A0w.nd rfl (.inl rfl) (pcl Gc7 hr T.gh (A0a (pcl Gd4 hr T.bh (A0a (pv 0) (A0a A0e A0d))) (A0a A0e A0d))) rfl (.inl rfl)) (@A0c _ _ _ _ _ (@A0l _ _ 18 _ _ _ _ A0w.nd rfl (.inl rfl) (A0o A2h A0e (A0o A1w (A0o A1t (pv 6) A0e) (A1f A1p (@A1z _ _ _ _ (A0a A0e (A0a (A0o A4n (A0o A9s A0e A0e) A0e) (A0a (A0o A4n (A0o A9s A0e A0e) A0e) (A0a (A0o A9s A0e A0e) A0d))))) (A0o A1w (pv 6) A0e) (λ_ _=>rfl)))) rfl (.inl rfl)) (@A0g _ _ _ (@A0s _ _ _ _ (A1n (A0a (pv 18) (A0a (pv 2) (A0a (pv 7) (A0a (pv 8) (A0a (@A1z _ _ _ _ (A0a (A1f A1g (A1f A1p (pv 4) (C3u B4q A0e) (λ_ _=>rfl)) A0e (λ_ _=>rfl)) A0d)) A0d))))))))))))))))))))) ?_;refine i0x _ rfl a ns 0 rfl hS (by decide) λc0=>(i0x _ rfl a ns 1 rfl hS (by decide) λc1=>(i07 c0 c1 rfl λnl nm H1 hnl s1 h1 l22 hn nd ng=> ?_));refine i1a _ rfl _ rfl a nl ns nm rfl (s1.seq hS) h1 (by lia) nd λd ax H2 hd s2 h2 kax lax vax bax=> ?_;have hax:AxL ax:=(i04 vax (by rw [kax];exact λx hx=>hn x (Z2p hx)) (by rw [kax];exact nd.sublist (Z2o _ _)) lax);refine i0n _ rfl d _ rfl h2 λgl hgl=> ?_;have h3g:upd H2 gl (.lst ((A2i ax).map λp=>kV p.1)) gl=some (.lst ((ax.map (·.1)).map V.str)):=by rw [A0b];unfold A2i;rw [List.map_map,List.map_map];rfl
  have sg:=A0f (o:= .lst ((A2i ax).map λp=>kV p.1)) hgl;have s3:=(s1.trans s2).trans sg;have h3d:=sg _ _ h2;have h3n:=sg _ _ (s2 _ _ h1);generalize upd H2 gl (.lst ((A2i ax).map λp=>kV p.1))=H3 at h3g s3 h3d h3n;clear sg;have lkk:=D6g h3d hax;have axl:(ax.map (·.1)).length<=1000:=by rw [Z08];lia
  refine ⟨A0t rfl,λarl harl=> ?_⟩;refine ⟨A0t rfl,λzl hzl=> ?_⟩;have sZ:=A0f (o:= .lst [.int 0,.int 1,.int 2,.int 3,.int 1,.int 2,.int 6]) hzl;have sAZ:=(A0f (o:= .lst []) harl).trans sZ;have hr1:=sZ _ _ (A0b (H:=H3) (a:=arl) (o:= .lst []));refine i0x _ rfl a ns 3 rfl ((s3.trans sAZ).seq hS) (by decide) λc3=> ?_;obtain ⟨m,m6,em⟩:=B9s (xs:=[0,1,2,3,1,2,6]) (i:=c3%7) (b:=6) (by lia) (by show c3%7<7;lia) (by decide);refine i0l _ _ rfl rfl E0x (i0y zl _ _ _ rfl rfl (SqL.of A0b) em (i0c _ rfl (by lia) (by lia) ?_));generalize upd (upd H3 arl (.lst [])) zl (.lst [.int 0,.int 1,.int 2,.int 3,.int 1,.int 2,.int 6])=H4 at sAZ hr1;clear sZ
  refine A4q (n:=((m:Nat):Int).toNat) (λi Z G=>∃(o5 o6:Option V) (avs:List V) (es:List (Str×List Str)),Z=[Sro a,Sro nl,Sro d,Sro gl,Sro arl,o5,o6,none,none,none,none,none,none,none,none,none,none,none,none]/\A1c H3 G/\G arl=some (.lst avs)/\Paired (C8v (A1d (λb=>b≠arl) G) (A2i ax)) avs es/\es.length=i/\es.map (·.1)=(nm.drop 8).take i)
   (i11 none none [] [] rfl sAZ hr1 .nil rfl rfl) ?_ ?_
  ·rintro i Z G hi ⟨o5,o6,avs,es,rfl,sG,hG,pG,lG,nG⟩;rw [Int.toNat_natCast] at hi;rw [Int.zero_add];have hyi:nm[8+i]? =some nm[8+i]:=Z0b (by lia);have ey:atI (nm.map V.str) (8+(i:Int))=some (.str nm[8+i]):=A3g (j:=8+i) (by rw [Z1z,hyi];rfl);have ny:=(hn _ (Z13 hyi)).1.1;have oy:=(hn _ (Z13 hyi)).1.2;refine i0x _ rfl a ns 3 rfl ((s3.trans sG).seq hS) (by decide) λc=>(i0r _ rfl c (i:Int) rfl (by lia) (by lia) λr=> ?_);refine i06 _ rfl (.inl (i01 rfl _ (SqL.of hG))) (i0w _ rfl _ rfl _ _ rfl rfl (i0y nl _ _ _ rfl rfl (SqL.of (sG _ _ h3n)) ey (i02 _ rfl (i0e _ rfl _ rfl ⟨r,(i14 60 gl d (ax.map (·.1)) (A2i ax) rfl (sG _ _ h3g) axl (sG _ _ h3d) lkk.dk λl ys G2 hl s2' h2' sub l3 pm _=>⟨A0t rfl,λq hq=> ?_⟩)⟩))));have sT:=A0f (o:= .tup [.str nm[8+i],.ref l]) hq;have eT:upd G2 q (.tup [.str nm[8+i],.ref l]) q=some (.tup [.str nm[8+i],.ref l]):=A0b;have hq0:=hq;generalize upd G2 q (.tup [.str nm[8+i],.ref l])=G5 at sT eT;have s25:=s2'.trans sT;have lav:=Paired.length pG;refine i0t arl _ _ rfl rfl (s25 _ _ hG) (A1s (by lia)) ?_;have q1:q≠arl:=λe=>by rw [e,s2' _ _ hG] at hq0;cases hq0
   have l1:l≠arl:=λe=>by rw [e,hG] at hl;cases hl
   refine i11 _ _ (avs++[.ref q]) (es++[(nm[8+i],ys)]) rfl (A0r (sG.trans s25) harl) A0b (B1t (Paired.mapP pG λv e z=>z.same (A2p (A0i s25) λq=>q rfl)) (.cons (i0s q l rfl (A0j q1 (by rw [A0k q1];exact eT)) (A0j l1 (by rw [A0k l1];exact sT _ _ h2')) ⟨by show nm[8+i].length<=60;lia,oy⟩ l3 ⟨λy hy=>lkk.hn y (sub y hy),λy hy=>lkk.dk y (sub y hy)⟩) .nil)) (by simp [lG]) (by rw [Z0s,nG,Z14,List.getElem?_drop,hyi];rfl)
  rintro Z G ⟨o5,o6,tvs,tb,rfl,sG,hG,pG,lG,nG⟩;rw [Int.toNat_natCast] at lG nG;have tb6:tb.length<=6:=by lia
  refine i0n _ rfl arl _ rfl (.inl (SqL.of hG)) λtl htl=> ?_;refine ⟨A0t rfl,λll hll=> ?_⟩;refine ⟨A0t rfl,λz9 hz9=> ?_⟩;have sX1:=A0f (o:= .lst tvs) htl;have sX2:=A0f (o:= .lst []) hll;have sX3:=A0f (o:= .lst [.int 0,.int 1,.int 2,.int 3,.int 4,.int 1,.int 2,.int 3,.int 8]) hz9;have sGB:=sX1.trans (sX2.trans sX3);have hBt:=sX3 _ _ (sX2 _ _ (A0b (H:=G) (a:=tl) (o:= .lst tvs)));have hBl:=sX3 _ _ (A0b (H:=upd G tl (.lst tvs)) (a:=ll) (o:= .lst []));have llG:G ll=none:=sX1.free hll;refine i0x _ rfl a ns 4 rfl ((s3.trans (sG.trans sGB)).seq hS) (by decide) λc4=> ?_;obtain ⟨m2,m28,em2⟩:=B9s (xs:=[0,1,2,3,4,1,2,3,8]) (i:=c4%9) (b:=8) (by lia) (by show c4%9<9;lia) (by decide);refine i0l _ _ rfl rfl z_90 (i0y z9 _ _ _ rfl rfl (SqL.of A0b) em2 ?_);have tlG:tl≠arl:=λe=>by rw [e,hG] at htl;cases htl
  have tlL:tl≠ll:=λe=>by rw [<-e,A0b] at hll;cases hll
  generalize upd (upd (upd G tl (.lst tvs)) ll (.lst [])) z9 (.lst [.int 0,.int 1,.int 2,.int 3,.int 4,.int 1,.int 2,.int 3,.int 8])=H5 at sGB hBt hBl;clear sX1 sX2 sX3;have ltv:=Paired.length pG;refine i02 (λZ G'=>H5=G'/\∃m:Nat,Z=[Sro a,Sro nl,Sro d,Sro gl,Sro arl,o5,o6,Sro tl,Sro ll,Sio (m:Int),none,none,none,none,none,none,none,none,none]/\m<=8/\1<=tb.length+m) ?_ ?_
  ·refine B2i (d1:=decide (V.int (m2:Int)=V.int 0)) (d2:=decide (V.int (tvs.length:Int)=V.int 0)) (λQ' q=>(i0j _ rfl rfl _ rfl q)) (λQ' q=>(i0n _ rfl tl _ rfl (.inl (SqL.of hBt)) (i05 rfl _ rfl q))) ?_
   cases hb:(decide (V.int (m2:Int)=V.int 0)&&decide (V.int (tvs.length:Int)=V.int 0)) with
   | true=>exact A5z ⟨rfl,(i06 1 rfl (by decide) (by lia))⟩
   | false =>
    refine A2o ⟨rfl,(i06 m2 rfl m28 ?_)⟩;by_cases z:m2=0
    ·by_cases z2:tvs.length=0
     ·rw [z,z2] at hb;exact absurd hb (by decide)
     ·lia
    ·lia
  rintro Z G' ⟨rfl,m,rfl,m8,mt⟩;have ntb:∃m0,m0<=6/\tb.map (·.1)=(nm.drop 8).take m0:=(i02 _ m6 nG);clear nG m6 em c3 m28 em2 c4 m2;obtain ⟨zs,ezs,lzs,_⟩:=D2d V.int ns (some 8) (some 71)
  have lz71:zs.length<=71:=by
   have:=E1d (ns.map V.int) (some 8) 71;rw [show (some ((71:Nat):Int))=some (71:Int) from rfl,ezs,Z08] at this;exact this
  refine i12 _ rfl _ rfl _ rfl a _ rfl ((s3.trans (sG.trans sGB)).seq hS) λcl hcl=> ?_;rw [ezs];have sC:=A0f (o:= .lst (zs.map V.int)) hcl;have eC:upd H5 cl (.lst (zs.map V.int)) cl=some (.lst (zs.map V.int)):=A0b;have hB0:=sGB _ _ hG;have c1:cl≠arl:=λe=>by rw [e,hB0] at hcl;cases hcl
  have c2:cl≠ll:=λe=>by rw [e,hBl] at hcl;cases hcl
  generalize upd H5 cl (.lst (zs.map V.int))=HB at sC eC;have sGB:=sGB.trans sC;have hBt:=sC _ _ hBt;have hBl:=sC _ _ hBl;have hB0:=sC _ _ hB0;clear sC hcl;have rBc:A1d (S2P arl ll) HB cl=some (.lst (zs.map V.int)):=A0j ⟨c1,c2⟩ eC;have rBt:A1d (S2P arl ll) HB tl=some (.lst tvs):=A0j ⟨tlG,tlL⟩ hBt;have toS:∀b o,G b=some o->b≠arl->S2P arl ll b:=λb o hb h=>⟨h,λe=>by rw [e,llG] at hb;cases hb⟩;have pB:Paired (C8v (A1d (S2P arl ll) HB) (A2i ax)) tvs tb:=Paired.mapP pG λv e z=>z.same (A2q sGB toS);have s3B:=sG.trans sGB;have llH:H3 ll=none:=sG.free llG;clear pG toS;refine i0k _ rfl _ rfl (by lia) ⟨by lia,?_⟩
  refine A4q (n:=((m:Nat):Int).toNat) (λi Z G=>∃(o5 o6 o11 o12 o13 o14 o15 o16 o17:Option V) (avs lvs:List V) (es:List (Str×List Str)) (ls:List Lt),Z=[Sro a,Sro nl,Sro d,Sro gl,Sro arl,o5,o6,Sro tl,Sro ll,Sio (m:Int),Sro cl,o11,o12,o13,o14,o15,o16,o17,none]/\A1c H3 G/\A1c (A1d (S2P arl ll) HB) (A1d (S2P arl ll) G)/\G arl=some (.lst avs)/\Paired (C8v (A1d (S2P arl ll) G) (A2i ax)) avs es/\es=tb++D2u ls/\G ll=some (.lst lvs)/\Paired (D6d (A1d (S2P arl ll) G)) lvs ls/\ls.length=i/\(∀e∈ls,D9e (A2i ax) e)/\(∀(j:Nat) (e:Lt),ls[j]? =some e->LtS (A2i ax) (ax.map (·.1)) (tb++D2u (ls.take j)) e)/\ls.map (·.1)=(nm.drop 14).take i)
   (i0u o5 o6 none none none none none (i1c none none tvs [] tb [] rfl s3B (A1c.refl _) hB0 pB ((Z0u _).symm) hBl (i09 .nil rfl (λe he=>by cases he) (λj e he=>by cases he) rfl))) ?_ ?_
  ·clear o5 o6;rintro i Z G hi zz;refine e0g zz ?_;clear zz;rintro o5 o6 o11 o12 o13 o14 o15 o16 o17 ⟨avs,lvs,es,ls,rfl,sG,sS,hA,pA,eA,hL,pL,lL,okL,sfL,nL⟩;rw [Int.toNat_natCast] at hi;have lA:es.length=tb.length+i:=by rw [eA,Z06,Z08,lL]
   rw [Int.zero_add];have hyi:nm[14+i]? =some nm[14+i]:=Z0b (by lia);have ey:atI (nm.map V.str) (14+(i:Int))=some (.str nm[14+i]):=A3g (j:=14+i) (by rw [Z1z,hyi];rfl);have ny:=(hn _ (Z13 hyi)).1.1;have oy:=(hn _ (Z13 hyi)).1.2;have nL2:(nm.drop 14).take (i+1)=ls.map (·.1)++[nm[14+i]]:=by rw [nL,Z14,List.getElem?_drop,hyi];rfl
   generalize nm[14+i]=y at ey ny oy nL2;have hy0:nm[0]? =some nm[0]:=Z0b (by lia);have ey0:atI (nm.map V.str) 0=some (.str nm[0]):=A3g (j:=0) (by rw [Z1z,hy0];rfl);refine i0x _ rfl a ns 5 rfl ((s3.trans sG).seq hS) (by decide) λc=>(i0r _ rfl c (i:Int) rfl (by lia) (by lia) λr=> ?_);refine i02 _ rfl (i0k _ rfl _ rfl (A0t rfl) λz2 hz2=> ?_);have sz:=A0f (o:= .lst [.int 12,.int 60]) hz2;have hz3:upd G z2 (.lst [.int 12,.int 60]) z2=some (.lst [.int 12,.int 60]):=A0b;generalize upd G z2 (.lst [.int 12,.int 60])=G1 at sz hz3;have t1:=sG.trans sz;obtain ⟨g0,eg0⟩:=C9s (ax:=ax) (k:=Sum.inr nm[0])
   obtain ⟨b,eb⟩:∃b:Int,atI [V.int 12,V.int 60] (if decide ((4:Int)<g0)=true then 1 else 0)=some (.int b):=by
    cases decide ((4:Int)<g0) with
    | true=>exact ⟨60,rfl⟩
    | false=>exact ⟨12,rfl⟩
   refine i0k _ rfl d rfl (.inl ⟨_,.inl (t1 _ _ h3d)⟩) (i13 _ rfl nl _ _ _ rfl rfl (SqL.of (t1 _ _ h3n)) ey0 (i0n _ (B0j.k (k:=Sum.inr nm[0]) (t1 _ _ h3d)) g0 _ eg0 rfl (.inr (i13 _ rfl z2 _ _ _ rfl rfl (SqL.of hz3) eb ?_))));refine ⟨r,(i14 b gl d (ax.map (·.1)) (A2i ax) rfl (t1 _ _ h3g) axl (t1 _ _ h3d) lkk.dk λxl ys G2 hxl s12 hx2 sub l3 pm yn=> ?_)⟩;have t2:=t1.trans s12;have dky:B1j (A2i ax) ys:=λy hy=>lkk.dk y (sub y hy);have nky:NmS ys:=λy hy=>lkk.hn y (sub y hy);refine i17 _ rfl _ rfl xl d ys (A2i ax) rfl hx2 (t2 _ _ h3d) dky λzz z1 mo=> ?_;have zb:=(mo.le dky).2;have zb5:=D7i (n:=ys.length) (by lia);refine i0f _ _ rfl rfl (i0b ⟨by lia,by lia⟩ _ _ rfl (i07 _ _ rfl ?_));refine i02 _ rfl (i10 _ _ rfl rfl (i00 (by decide) (by decide) (by decide)) _ _ rfl rfl (i05 ⟨by decide +kernel,by decide +kernel⟩ _ rfl (i0e _ rfl _ rfl ⟨_,(i14 _ gl d (ax.map (·.1)) (A2i ax) rfl (t2 _ _ h3g) axl (t2 _ _ h3d) lkk.dk λcs ys2 G3 hcs s23 hc3 sub2 l32 _ yn2=>(i06 cs rfl ⟨_,SqL.of hc3⟩ λD hD=> ?_))⟩)));have t3:=t2.trans s23
   refine A9k (K:=K) (a:=cs) (D:=D) (xs:=ys2.map V.str) (λi zs H3=>A1c G3 H3/\H3 D=some (.lst zs)/\∃su:List Str,zs=su.map V.str/\su.length<=i/\su.Sublist (ys2.take i)/\∀y∈su,y∉ys)
    (i00 (A0f hD) A0b (i0c [] rfl (Z09 _) (List.nil_sublist _) (by intro y hy;cases hy))) (λi zs H3 ⟨s3,_⟩=>SqL.of (s3 _ _ hc3)) ?_ ?_
   ·rintro i x zs H3 hx ⟨s3,hD3,su,rfl,lsu,ssu,nsu⟩;obtain ⟨y,hy,rfl⟩:=A7c hx;have hi:i<ys2.length:=(Z03.mp hy).1;refine ⟨⟨rfl,True.intro⟩,(i0w _ rfl _ rfl xl _ rfl (.inl (SqL.of (s3 _ _ (s23 _ _ hx2)))) (i0a rfl (A6v ys) _ rfl ?_))⟩;show if (! inV (V.str y) (ys.map V.str))=true then _ else _
    rw [B1c];refine C9f (λhnot=> ?_) (λ_=>(i00 s3 hD3 (i0c su rfl (by lia) (ssu.trans (by rw [Z14];exact List.sublist_append_left _ _)) nsu)));refine ⟨_,(i0h rfl hD3 (A1s (by rw [Z08];lia)) (A0r s3 hD) A0b (i0c (su++[y]) (by simp) (by simp;lia) ?_ (A6g nsu hnot)))⟩;rw [Z14,hy];exact ssu.append (List.Sublist.refl _)
   rintro zs2 G4 ⟨s34,hD4,su0,rfl,lsu0,ssu0,nsu0⟩;rw [Z08,Z18] at ssu0;have t4:=t3.trans s34;obtain ⟨su,esu,ssu⟩:=D3l V.str su0 none (some 2);have msu:∀x∈su,x∈ax.map (·.1):=λx hx=>sub2 x (ssu0.mem (ssu.mem hx));have nds:(ys++su).Nodup:=Z0l.mpr (i00 yn (yn2.sublist (ssu.trans ssu0)) λa ha b hb z=>nsu0 b (ssu.mem hb) (z▸ha))
   have lsu2:su.length<=2:=by
    have:=E1d (su0.map V.str) none 2;rw [show (some ((2:Nat):Int))=some (2:Int) from rfl,esu,Z08] at this;exact this
   refine i0n _ rfl D _ rfl (SqL.of hD4) λsl hsl=> ?_;rw [esu];have s45:=A0f (o:= .lst (su.map V.str)) hsl;have hs5:upd G4 sl (.lst (su.map V.str)) sl=some (.lst (su.map V.str)):=A0b;generalize upd G4 sl (.lst (su.map V.str))=G5 at s45 hs5;have t5:=t4.trans s45;have x5:=s45 _ _ (s34 _ _ (s23 _ _ hx2));have sG5:=sz.trans (s12.trans (s23.trans (s34.trans s45)));refine i0n _ rfl arl _ rfl (.inl (SqL.of (sG5 _ _ hA))) λcp hcp=> ?_;have s56:=A0f (o:= .lst avs) hcp;have hc6:upd G5 cp (.lst avs) cp=some (.lst avs):=A0b;generalize upd G5 cp (.lst avs)=G6 at s56 hc6;have t6:=t5.trans s56;refine i12 _ rfl _ rfl _ rfl _ _ rfl rfl (i0y nl _ _ _ rfl rfl (SqL.of (t6 _ _ h3n)) ey (i06 _ rfl (A0t rfl) λot hot=>⟨A0t rfl,λbk hbk=> ?_⟩));have s67:=A0f (o:= .tup [.str y,.ref xl]) hot;have s78:=A0f (o:= .tup [.ref cp,.ref d,.ref ot]) hbk;have ho8:=s78 _ _ (A0b (H:=G6) (a:=ot) (o:= .tup [.str y,.ref xl]));have hb8:upd (upd G6 ot (.tup [.str y,.ref xl])) bk (.tup [.ref cp,.ref d,.ref ot]) bk=some (.tup [.ref cp,.ref d,.ref ot]):=A0b;have s68:=s67.trans s78;generalize upd (upd G6 ot (.tup [.str y,.ref xl])) bk (.tup [.ref cp,.ref d,.ref ot])=G8 at s68 ho8 hb8;clear s67 s78;have t8:=t6.trans s68;have sG8:=sG5.trans (s56.trans s68);have hcl8:G8 cl=some (.lst (zs.map V.int)):=sG8 _ _ (A1b _ _ (sS _ _ rBc));refine i0e _ rfl _ rfl (i0p cl _ rfl (.inl (SqL.of hcl8)) _ rfl (i0m (i:Int) _ (m:Int) rfl (i0h (by lia) (by lia) (by lia) (by rw [Z08];lia) (by lia) (by lia)) λF hF=> ?_));refine B3j (D:=F) (Builtin.Range.rangeSize (i:Int) ((zs.map V.int).length:Int) (m:Int)).toNat (λj ys H3=>A1c G8 H3/\H3 F=some (.lst ys)/\j<=(Builtin.Range.rangeSize (i:Int) ((zs.map V.int).length:Int) (m:Int)).toNat/\∃qs:List Int,ys=qs.map V.int/\qs.length=j) ⟨A0f hF,(i0a A0b (Z1e _) [] rfl rfl)⟩ (λi ys H3 hi _=>hi) (λys H3 _=>rfl) ?_ ?_
   ·rintro j ys' H3' hj ⟨s3',hF3,_,qs,rfl,lqs⟩ x H4' ⟨rfl,rfl⟩;have lt:=D4c (by lia) hj;have mj:0<=(j:Int)*(m:Int):=Int.mul_nonneg (by lia) (by lia);obtain ⟨z,_,ez⟩:=A5o (f:=V.int) (xs:=zs) (i:=(i:Int)+(j:Int)*(m:Int)) (by lia) (by rw [Z08] at lt;exact lt);have lsz:=(D5b (a:=(i:Int)) (b:=((zs.map V.int).length:Int)) (c:=(m:Int)) (i0h (by lia) (by lia) (by lia) (by rw [Z08];lia) (by lia) (by lia))).2;refine ⟨⟨rfl,True.intro⟩,(i17 _ rfl _ rfl cl _ _ _ rfl rfl (SqL.of (s3' _ _ hcl8)) ez (i04 hF3 (A1s (by rw [Z08];lia)) (A0r s3' hF) (i0a A0b hj (qs++[z]) (by simp) (by simp [lqs]))))⟩
   rintro ys' G9 ⟨s89,hF9,_,qs,rfl,lqs⟩;have t9:=t8.trans s89;have sG9:=sG8.trans s89;have x9:=s89 _ _ (s68 _ _ (s56 _ _ x5));have y9:=s89 _ _ (s68 _ _ (s56 _ _ hs5));refine i1a _ rfl _ rfl xl sl _ _ rfl rfl x9 y9 (A2a (by rw [Z08,Z08];lia)) λsc hsc=> ?_;have s9a:=A0f (o:= .lst (ys.map V.str++su.map V.str)) hsc;have hsa:upd G9 sc (.lst (ys.map V.str++su.map V.str)) sc=some (.lst ((ys++su).map V.str)):=by rw [A0b,Z0s]
   generalize upd G9 sc (.lst (ys.map V.str++su.map V.str))=Ga at s9a hsa;have ta:=t9.trans s9a;have sGa:=sG9.trans s9a;have s8a:=s89.trans s9a;have m5:0<=(m:Int)/5:=by lia
   refine i0e _ rfl _ rfl (i10 _ _ rfl rfl ⟨by decide,by decide⟩ _ _ rfl rfl (i0l _ _ rfl rfl ⟨by lia,by lia⟩ ?_));have frS:∀{F:Hp},A1c G F->Fr (S2P arl ll) F:=λ{F} s b hb=>⟨(λe=>by rw [e,s _ _ hA] at hb;cases hb),λe=>by rw [e,s _ _ hL] at hb;cases hb⟩;have pA':Paired (C8v Ga (A2i ax)) avs es:=Paired.mapP pA λv e z=>(z.same A1b).same sGa;have lm:(120:Int)/(1+(m:Int)/5)<=120:=Int.ediv_le_self _ (by decide);refine ⟨F,(i0u sc bk cp d (.ref ot) (some (y,ys)) _ (i1c qs es (ys++su) (ax.map (·.1)) (A2i ax) (S2P arl ll) rfl (s9a _ _ hF9) (.add hsa nky dky (by rw [Z06];lia) lkk.hn lkk.dk (λz hz=>msu z hz)) (by rw [Z06];lia) (s8a _ _ hb8) (i06 avs (s8a _ _ (s68 _ _ hc6)) pA' (by lia)) (lkk.same ta) (i0h (.inr (i02 (y,ys) (i0s ot xl rfl (s8a _ _ ho8) (s9a _ _ x9) ⟨by show y.length<=60;lia,oy⟩ l3 ⟨nky,dky⟩) rfl)) (λe he x hx=>by cases he;exact Z07.mpr (.inl hx)) (λz hz=>by rcases Z07.mp hz with hz | hz;exact sub z hz;exact msu z hz) lm (frS sGa) λtv u Gb sab rp wu tu du nu lz=> ?_)))⟩
   have sGb:=sGa.trans sab;have tb':=ta.trans sab;have yb:=sab _ _ (s9a _ _ y9);refine i0n _ rfl sl _ rfl (SqL.of yb) ?_;obtain ⟨u0,eu0⟩:∃u0,u0=u:=⟨u,rfl⟩;refine C0b (K:=K) (a:=sl) (xs:=su.map V.str) (λj Z Gc=>∃(o14:Option V) (v:V) (u:Tm),Z=[Sro a,Sro nl,Sro d,Sro gl,Sro arl,o5,Sio r,Sro tl,Sro ll,Sio (m:Int),Sro cl,Sio (i:Int),some (.ref xl),_,o14,Sro sl,Sro bk,some v,none]/\A1c Gb Gc/\Rep (A1d (S2P arl ll) Gc) v (A2c u)/\TmW u/\TmS u/\dep u<=14+j/\nod u<=120+j/\u=D3q (su.drop (su.length-j)) u0/\TmL (A2i ax) u) (i0q _ tv u rfl (A1c.refl _) rp (i0h wu (D5f _ tu) du nu (by rw [Nat.sub_zero,Z2i,eu0];rfl) tu)) (by rintro j Z Gc ⟨_,_,_,_,sc,_⟩;exact SqL.of (sc _ _ yb)) ?_ ?_
   ·rintro j x Z Gc hj hx ⟨o14',v,u',rfl,sc',rp',wu',ts',du',nu',eu',tu'⟩;obtain ⟨x0,hx0,rfl⟩:=A7c hx;rw [Z08] at hx0 hj;have hx1:=msu x0 (Z13 hx0);have mx0:=lkk.hn x0 hx1;have hlt:=(Z03.mp hx0).1
    have ed:su.drop (su.length-(j+1))=x0::su.drop (su.length-j):=by
     have e1:su.length-(j+1)=su.length-1-j:=by lia
     have e2:su.length-j=su.length-1-j+1:=by lia
     rw [e1,e2,Z1u hlt];rw [Z0b hlt] at hx0;rw [Z1a hx0]
    refine i0k _ rfl _ rfl (A0t rfl) λtp htp=> ?_;have sT:=A0f (o:= .tup [.str "sum",.str x0,v]) htp;exact i0q _ _ (.sum x0 u') rfl (sc'.trans sT) (D1o (A0j (frS (sGb.trans sc') tp htp) A0b) (rp'.same (A0i sT))) (i0h ⟨mx0.1,wu'⟩ ts' (by simp only [dep];lia) (by simp only [nod];lia) (by rw [ed,eu'];rfl) ⟨λz hz=>by rw [Z0w.mp hz];exact lkk.dk x0 hx1,tu'⟩)
   rintro Z Gc ⟨o14',v,u',rfl,sbc,rp',wu',ts',du',nu',eu',tu'⟩;rw [Z08] at du' nu' eu';rw [Nat.sub_self,List.drop_zero] at eu';subst eu0;have sGc:=sGb.trans sbc;have tc:=tb'.trans sbc;have xc:=sbc _ _ (sab _ _ (s9a _ _ x9));have lvl:=Paired.length pL;have avl:=Paired.length pA;refine i06 _ rfl (.inl (i01 rfl _ (SqL.of (sGc _ _ hL)))) (i0w _ rfl _ rfl _ _ rfl rfl (i0y nl _ _ _ rfl rfl (SqL.of (tc _ _ h3n)) ey (i0k _ rfl _ rfl (A0t rfl) λq1 hq1=> ?_)));have sq1:=A0f (o:= .tup [.str y,.ref xl,v]) hq1;have eq1:upd Gc q1 (.tup [.str y,.ref xl,v]) q1=some (.tup [.str y,.ref xl,v]):=A0b;have Sq1:=frS sGc q1 hq1;generalize upd Gc q1 (.tup [.str y,.ref xl,v])=Gd at sq1 eq1;have sGd:=sGc.trans sq1;have td:=tc.trans sq1;have hLd:=sGd _ _ hL;have hAd:=sGd _ _ hA;have Sxl:S2P arl ll xl:=⟨(λe=>by rw [e,sz _ _ hA] at hxl;cases hxl),λe=>by rw [e,sz _ _ hL] at hxl;cases hxl⟩;have la:ll≠arl:=λe=>by rw [e,hG] at llG;cases llG
   refine i0t ll _ _ rfl rfl hLd (A1s (by lia)) ?_;have k1:A1c (A1d (S2P arl ll) Gd) (A1d (S2P arl ll) (upd Gd ll (.lst (lvs++[.ref q1])))):=A2p (A1c.refl _) λz=>z.2 rfl;have te:A1c H3 (upd Gd ll (.lst (lvs++[.ref q1]))):=A0r td llH;have hAe:upd Gd ll (.lst (lvs++[.ref q1])) arl=some (.lst avs):=by rw [A0k la.symm];exact hAd
   have hLe:upd Gd ll (.lst (lvs++[.ref q1])) ll=some (.lst (lvs++[.ref q1])):=A0b;generalize upd Gd ll (.lst (lvs++[.ref q1]))=Ge at k1 te hAe hLe;have frE:∀b,Ge b=none->S2P arl ll b:=λb hb=>⟨(λe=>by rw [e,hAe] at hb;cases hb),λe=>by rw [e,hLe] at hb;cases hb⟩;refine i06 _ rfl (.inl (i01 rfl _ (SqL.of hAe))) (i0w _ rfl _ rfl _ _ rfl rfl (i0y nl _ _ _ rfl rfl (SqL.of (te _ _ h3n)) ey (i06 _ rfl (A0t rfl) λq2 hq2=> ?_)));have sq2:=A0f (o:= .tup [.str y,.ref xl]) hq2;have eq2:upd Ge q2 (.tup [.str y,.ref xl]) q2=some (.tup [.str y,.ref xl]):=A0b;have Sq2:=frE q2 hq2;generalize upd Ge q2 (.tup [.str y,.ref xl])=Gf at sq2 eq2;refine i0t arl _ _ rfl rfl (sq2 _ _ hAe) (A1s (by lia)) ?_;have k2:A1c (A1d (S2P arl ll) Gd) (A1d (S2P arl ll) (upd Gf arl (.lst (avs++[.ref q2])))):=A2p (k1.trans (A0i sq2)) λz=>z.1 rfl;have kG:=(A0i (S:=S2P arl ll) sGd).trans k2;refine i0u _ _ _ _ _ _ _ (i1c _ _ (avs++[.ref q2]) (lvs++[.ref q1]) (es++[(y,ys)]) (ls++[(y,ys,u')]) rfl (A0r (te.trans sq2) harl) (sS.trans kG) A0b (B1t (Paired.mapP pA λv e z=>z.same kG) (.cons (i0s q2 xl rfl (A0j Sq2 (by rw [A0k Sq2.1];exact eq2)) (k2 _ _ (A0j Sxl (sq1 _ _ xc))) ⟨by show y.length<=60;lia,oy⟩ l3 ⟨nky,dky⟩) .nil)) (by rw [eA];show _=tb++(ls++[(y,ys,u')]).map _;rw [Z0s,Z0z];rfl) (by rw [A0k la];exact sq2 _ _ hLe) (i09 (B1t (Paired.mapP pL λv e z=>z.same kG) (.cons (i0q q1 xl v rfl (k2 _ _ (A0j Sq1 eq1)) (k2 _ _ (A0j Sxl (sq1 _ _ xc))) ((rp'.same (A0i sq1)).same k2)) .nil)) (by rw [Z06,lL];rfl) (λe he=> ?_) (λj e he=> ?_) (by rw [Z0s,nL2];rfl)))
   ·rcases Z07.mp he with he | he
    ·exact okL e he
    ·rw [Z0w.mp he];exact ⟨oy,by show y.length<=60;lia,l3,nky,wu',ts',by show dep u'<=16;lia,by show nod u'<=122;lia⟩
   ·by_cases hj:j<ls.length
    ·rw [Z26 hj] at he;rw [List.take_append_of_le_length (by lia)];exact sfL j e he
    ·have hj2:j=ls.length:=by
      have:=(Z03.mp he).1;simp at this
      lia
     subst hj2;rw [Z1l (Z09 _)] at he;simp at he;subst he;rw [List.take_append_of_le_length (Z09 _),Z18,<-eA];exact ⟨(i0l su u0 eu' nds (λz hz=>by rcases Z07.mp hz with hz | hz;exact sub z hz;exact msu z hz) lz),tu'⟩
  clear o5 o6;rintro Z G zz;refine e0g zz ?_;clear zz;rintro o5 o6 o11 o12 o13 o14 o15 o16 o17 ⟨avs,lvs,es,ls,rfl,sG,sS,hA,pA,eA,hL,pL,lL,okL,sfL,nL⟩;rw [Int.toNat_natCast] at lL nL;have lA:es.length=tb.length+m:=by rw [eA,Z06,Z08,lL]
  obtain ⟨m0,m06,ntb⟩:=ntb;have ndA:(tb.map (·.1)++ls.map (·.1)).Nodup:=by rw [ntb,nL];exact D2a m06 nd
  have ngA:∀x∈tb.map (·.1)++ls.map (·.1),NmG x:=λx hx=>by
   rw [ntb,nL] at hx;rcases Z07.mp hx with h | h
   ·exact ng x (List.mem_of_mem_drop (Z2p h))
   ·exact ng x (List.mem_of_mem_drop (Z2p h))
  refine i0x _ rfl a ns 6 rfl ((s3.trans sG).seq hS) (by decide) λc6=>(i0l c6 1 rfl (by decide) (by decide) λr=> ?_)
  obtain ⟨b,b0,eb⟩:∃b:Int,0<b/\atI [V.int 20,V.int ((10:Int)^(30:Int).toNat-2),V.int ((10:Int)^(30:Int).toNat-2),V.int ((10:Int)^(9:Int).toNat)] (r%4)=some (.int b):=by
   have h4:r%4=0\/r%4=1\/r%4=2\/r%4=3:=by lia
   have e30:(0:Int)<(10:Int)^(30:Int).toNat-2:=by decide +kernel
   have e9:(0:Int)<(10:Int)^(9:Int).toNat:=by decide +kernel
   rcases h4 with e | e | e | e <;> rw [e]
   ·exact i02 _ (by decide) rfl
   ·exact i02 _ e30 rfl
   ·exact i02 _ e30 rfl
   ·exact i02 _ e9 rfl
  refine i0r _ rfl _ _ rfl rfl ⟨by decide,by decide⟩ (i10 _ _ rfl rfl (i00 (by decide) (by decide) (by decide)) _ _ rfl rfl (i10 _ _ rfl rfl (i00 (by decide) (by decide) (by decide)) _ _ rfl rfl (i0o _ _ rfl rfl (i00 (by decide) (by decide) (by decide)) (A0t rfl) λwl hwl=> ?_)));have sw:=A0f (o:= .lst [V.int 20,V.int ((10:Int)^(30:Int).toNat-2),V.int ((10:Int)^(30:Int).toNat-2),V.int ((10:Int)^(9:Int).toNat)]) hwl;refine i0r _ rfl _ _ rfl rfl D6l (i0y wl _ _ _ rfl rfl (SqL.of A0b) eb (i10 _ _ rfl rfl b0 _ _ rfl rfl ?_));generalize upd G wl (.lst [V.int 20,V.int ((10:Int)^(30:Int).toNat-2),V.int ((10:Int)^(30:Int).toNat-2),V.int ((10:Int)^(9:Int).toNat)])=G1 at sw;have lav:=Paired.length pA;obtain ⟨vl,f1,f2⟩:=C2c (xs:=avs) (by lia);obtain ⟨e,he,q,al,rfl,hq,hal,_⟩:=B3x pA f1;refine i0e _ rfl _ rfl (i0e _ rfl _ rfl (i17 _ rfl _ rfl arl _ _ _ rfl rfl (SqL.of (sw _ _ hA)) f2 (i11 q _ _ _ rfl rfl (SqT.of (sw _ _ (A1b _ _ hq))) rfl (A0t rfl) λol hol=>⟨A0t rfl,λp hp=> ?_⟩)));have s1':=A0f (o:= .lst [.str e.1]) hol;have s2':=A0f (o:= .tup [.int (2+r/4%b),.ref d,.ref tl,.ref ll,.ref ol]) hp;have sE:=sw.trans (s1'.trans s2');refine k p ax tb ls _ (s3.trans (sG.trans sE)) ⟨(i1d (2+r/4%b) d tl ll ol tvs lvs e.1 A0b (sE _ _ (sG _ _ h3d)) (sE _ _ (A1b _ _ (sS _ _ rBt))) (Paired.mapP pB λv e z=>((z.same sS).same A1b).same sE) (sE _ _ hL) (Paired.mapP pL λv e z=>(z.same A1b).same sE) (s2' _ _ A0b)),hax,by lia,by lia,okL,sfL,ndA,ngA,bax⟩
theorem D6m (n:Nat):(sN n).cps.toList=115::M84.figs n:=by
 unfold sN;rw [Str.cps_append,Array.toList_append];have h:(Str.ofString (toString (n:Int))).cps.toList=M84.figs n:=M84.sg_nat n;rw [h];rfl
theorem D1t (h:sN n=sN m):n=m:=by
 have h1:=congrArg (λx:Str=>x.cps.toList) h;simp only [D6m] at h1;injection h1 with _ h2;rw [<-M84.figs_val n,<-M84.figs_val m,h2]
theorem D4a (n:Nat):¬NmG (sN n):=λh=>by
 have hp:=M84.figs_pos n
 cases e:M84.figs n with
 | nil=>rw [e] at hp;simp at hp
 | cons c r =>
  have h1:=h c (by rw [D6m,e];simp);have h2:=M84.figs_dg n c (by rw [e];simp)
  lia
structure NmR (z z':LS):Prop where
 ex:∃c,z'.1=z.1+c/\z'.2.map (·.1)=z.2.map (·.1)++(List.range c).map λi=>sN (z.1+i)
theorem NmR.refl:NmR z z:=⟨0,rfl,by simp⟩
theorem NmR.trans {a b c:LS} (h:NmR a b) (k:NmR b c):NmR a c:=by
 obtain ⟨m,h1,h2⟩:=h.ex;obtain ⟨n,k1,k2⟩:=k.ex;refine ⟨m+n,by lia,?_⟩;rw [k2,h2,Z0z,List.range_add,Z0s,List.map_map,h1];congr 2;apply List.map_congr_left;intro i _;show sN (a.1+m+i)=sN (a.1+(m+i));rw [Nat.add_assoc]
theorem B8f {kn:List Str} (h:NmR z r.2):NmR z (fin kn pend g r).2:=by
 cases pend with
 | nil=>exact h
 | cons x s =>
  refine h.trans ⟨1,rfl,?_⟩;show (r.2.2++[lfL kn (x::s) r.2.1 (gdM g r.1)]).map (·.1)=_;rw [Z0s];rfl
theorem C2v {kn:List Str}:∀(u:Tm) (pend:List Str) (g:List Gd) (z:LS),NmR z (wsP kn u pend g z).2
 | .num _,_,_,_=>B8f (r:=(.num _,_)) .refl
 | .place _,_,_,_=>B8f (r:=(.place _,_)) .refl
 | .read _ _,_,_,_=>B8f (r:=(.read _ _,_)) .refl
 | .sum x b,pend,g,z=>C2v b (pend++[x]) g z
 | .pair k l r,pend,g,z=>B8f (r:=(.pair _ _ _,_)) ((C2v l _ _ _).trans (C2v r _ _ _))
 | .guard x lo hi l r,pend,g,z=>B8f (r:=(.guard _ _ _ _ _,_)) ((C2v l _ _ _).trans (C2v r _ _ _))
structure NmI (as:List Str) (z:LS):Prop where
 nd:(z.2.map (·.1)).Nodup
 ex:∀x∈z.2.map (·.1),(∃k,k<z.1/\x=sN k)\/x∈as
theorem NmI.lift {as:List Str} {z':LS} (h:NmI as z) (r:NmR z z') (hg:∀x∈as,NmG x):NmI as z':=by
 obtain ⟨c,h1,h2⟩:=r.ex;refine ⟨?_,λx hx=> ?_⟩
 ·rw [h2];refine Z0l.mpr (i00 h.nd ?_ λa ha b hb e=> ?_)
  ·exact List.Pairwise.map (f:=λi=>sN (z.1+i)) (λi j (hij:i≠j) e=>hij (by have:=D1t e;lia)) List.nodup_range
  ·obtain ⟨i,_,rfl⟩:=Z2c.mp hb;rcases h.ex a ha with ⟨k,hk,z1⟩ | z1
   ·have:=D1t (z1.symm.trans e)
    lia
   ·exact D4a _ (e▸hg a z1)
 ·rw [h2] at hx;rcases Z07.mp hx with hx | hx
  ·rcases h.ex x hx with ⟨k,hk,z1⟩ | z1
   ·exact .inl (i02 k (by lia) z1)
   ·exact .inr z1
  ·obtain ⟨i,hi,rfl⟩:=Z2c.mp hx;have:=List.mem_range.mp hi;exact .inl (i02 (z.1+i) (by lia) rfl)
theorem C1l:∀(s:List Str) (u:Tm),A3o (D3q s u)=s++A3o u/\inS (D3q s u)=inS u
 | [],u=>⟨rfl,rfl⟩
 | x::s,u=>by
  obtain ⟨h1,h2⟩:=C1l s u;exact ⟨by show x::A3o (D3q s u)=_;rw [h1];rfl,h2⟩
theorem C7y {nm:List Str}:∀{u:Tm} {sc:List Str},A6i nm sc u->sc.Nodup->A6i nm (sc++A3o u) (inS u)/\(∀x∈A3o u,x∈nm)/\(sc++A3o u).Nodup
 | .num _,sc,h,n=>(i00 True.intro (λx hx=>by cases hx) (by show (sc++[]).Nodup;rw [Z0u];exact n))
 | .place x,sc,h,n=>(i00 (by show x∈sc++[];rw [Z0u];exact h) (λx hx=>by cases hx) (by show (sc++[]).Nodup;rw [Z0u];exact n))
 | .read a ix,sc,h,n=>(i00 (by show A6i nm (sc++[]) (.read a ix);rw [Z0u];exact h) (λx hx=>by cases hx) (by show (sc++[]).Nodup;rw [Z0u];exact n))
 | .pair k l r,sc,h,n=>(i00 (by show A6i nm (sc++[]) (.pair k l r);rw [Z0u];exact h) (λx hx=>by cases hx) (by show (sc++[]).Nodup;rw [Z0u];exact n))
 | .guard x lo hi l r,sc,h,n=>(i00 (by show A6i nm (sc++[]) (.guard x lo hi l r);rw [Z0u];exact h) (λx hx=>by cases hx) (by show (sc++[]).Nodup;rw [Z0u];exact n))
 | .sum x b,sc,h,n=>by
  have n2:(sc++[x]).Nodup:=Z0l.mpr (i00 n (by simp) λa ha b hb=>by rw [Z0w.mp hb];intro z;exact h.2.1 (z▸ha));obtain ⟨h1,h2,h3⟩:=C7y h.2.2 n2;have e:sc++A3o (.sum x b)=sc++[x]++A3o b:=by show sc++(x::A3o b)=_;simp
  rw [e];refine i00 h1 (λy hy=> ?_) h3;rcases Z0e.mp (show y∈x::A3o b from hy) with rfl | hy
  ·exact h.1
  ·exact h2 y hy
theorem C2g {L:Str->Int} {okn ok:OkP} {ρ:Env} (hk:∀ρ a c,okn ρ a c->ok ρ a c):∀{u:Tm},A3c L okn ok ρ u->(∀x∈A3o u,0<=ρ x/\ρ x<L x)->A3c L okn ok ρ (inS u)
 | .num _,h,_=>h
 | .place _,h,_=>h
 | .read _ _,h,_=>h
 | .pair _ _ _,h,_=>h
 | .guard _ _ _ _ _,h,_=>h
 | .sum x b,h,hr=>by
  have hx:=hr x (.head _);have h:=h (ρ x) hx.1 hx.2;rw [B8s] at h;have h2:A3c L okn ok ρ b:=A3c.mono hk h;show A3c L okn ok ρ (inS b);exact C2g hk h2 λy hy=>hr y (.tail _ hy)
theorem D0y:∀u:Tm,isS (inS u)=false
 | .num _=>rfl
 | .place _=>rfl
 | .read _ _=>rfl
 | .pair _ _ _=>rfl
 | .guard _ _ _ _ _=>rfl
 | .sum _ b=>D0y b
theorem D1e {L:Str->Int} {nm:List Str} (hl:∀x∈nm,1<=L x):∀{u:Tm} {sc:List Str},A6i nm sc u->(A3o u=[]->inS u=u)/\(A3o u≠[]->1+A1r L (A3o u)*wtM L (inS u)<=wtM L u)
 | .num _,_,_=>⟨λ_=>rfl,λh=>absurd rfl h⟩
 | .place _,_,_=>⟨λ_=>rfl,λh=>absurd rfl h⟩
 | .read _ _,_,_=>⟨λ_=>rfl,λh=>absurd rfl h⟩
 | .pair _ _ _,_,_=>⟨λ_=>rfl,λh=>absurd rfl h⟩
 | .guard _ _ _ _ _,_,_=>⟨λ_=>rfl,λh=>absurd rfl h⟩
 | .sum x b,_,t=>by
  obtain ⟨h1,h2⟩:=D1e hl t.2.2;refine ⟨(λh=>by cases h),λ_=> ?_⟩;have lx:=hl x t.1;show 1+L x*A1r L (A3o b)*wtM L (inS b)<=1+L x*wtM L b;by_cases hb:A3o b=[]
  ·rw [hb,h1 hb];show 1+L x*1*wtM L b<=_;rw [Int.mul_one];exact Int.le_refl _
  ·have:=Z29 (h2 hb) (show 0<=L x by lia);rw [Int.mul_add,Int.mul_one] at this;rw [Int.mul_assoc]
   lia
theorem C0i {nm:List Str} {u:Tm}:∀{s sc:List Str},A6i nm (sc++s) u->(sc++s).Nodup->(∀x∈s,x∈nm)->A6i nm sc (D3q s u)
 | [],sc,h,_,_=>by rw [Z0u] at h;exact h
 | x::s,sc,h,n,hs=>by
  have e:sc++x::s=sc++[x]++s:=by simp
  rw [e] at h n;refine i00 (hs x (.head _)) (λhx=> ?_) (C0i h n λy hy=>hs y (.tail _ hy));have:=(Z0l.mp n).1;exact (Z0l.mp this).2.2 x hx x (by simp) rfl
def wkM (L:Str->Int):List Lt->Int
 | []=>0
 | e::r=>A1r L e.2.1*wtM L e.2.2+wkM L r
theorem B9q {L:Str->Int}:∀xs ys:List Lt,wkM L (xs++ys)=wkM L xs+wkM L ys
 | [],ys=>(Int.zero_add _).symm
 | x::xs,ys=>by
  show A1r L x.2.1*wtM L x.2.2+wkM L (xs++ys)=A1r L x.2.1*wtM L x.2.2+wkM L xs+wkM L ys;rw [B9q xs ys,Int.add_assoc]
structure KnC (lk:List (Key×V)) (nm:List Str):Prop where
 n:∀x∈nm,¬x=("":Str)
 l:∀x∈nm,1<=lnL lk x
 d:nm.Nodup
theorem C9b {nm:List Str} {e:Lt} (c:KnC lk nm) (h:LtS lk nm es e) (hes:∀f∈es,f∈tb\/∃l∈z.2,l.1=f.1/\l.2.1=f.2) (al:B7x (lnL lk) tb z.2) :
  B7x (lnL lk) tb (C4n nm e z).2/\A7o (lnL lk) (C4n nm e z).2<=A7o (lnL lk) z.2+A1r (lnL lk) e.2.1*wtM (lnL lk) e.2.2/\(∃ys,(C4n nm e z).2=z.2++ys++[(e.1,e.2.1,A3o e.2.2,(wsP nm (inS e.2.2) [] [] z).1)])/\NmR z (wsP nm (inS e.2.2) [] [] z).2:=by
 obtain ⟨sums,u,et,nds,sub,lz⟩:=h.ex;have t0:A6i nm e.2.1 e.2.2:=by rw [et];exact C0i lz.ti nds λx hx=>sub x (Z07.mpr (.inr hx))
 have nda:=(Z0l.mp nds).1;obtain ⟨t1,t2,t3⟩:=C7y t0 nda;obtain ⟨w1,w2⟩:=D1e c.l t0;obtain ⟨p1,p2⟩:=C1l sums u
 have sca:∀x∈e.2.1++A3o e.2.2,x∈nm:=λx hx=>by
  rcases Z07.mp hx with hx | hx
  ·exact sub x (Z07.mpr (.inl hx))
  ·exact t2 x hx
 have wc:WsC (lnL lk) nm (e.2.1++A3o e.2.2) [] []:=⟨c.n,c.l,λx hx=>sca x (by rw [Z0u] at hx;exact hx),λf hf=>by cases hf⟩
 have hk:∀ρ a d,okA (lnL lk) es ρ a d->knM (lnL lk) tb z.2 a d:=λρ a d hf=>by
  obtain ⟨f,hf,f1,f2⟩:=hf;rcases hes f hf with q | ⟨l,hl,l1,l2⟩
  ·exact .inl (i06 f q f1 f2)
  ·exact .inr (i06 l hl (l1.trans f1) (by rw [l2];exact f2))
 have sf:∀ρ,InR (lnL lk) (e.2.1++A3o e.2.2) ρ->A3c (lnL lk) (okA (lnL lk) es) (okO (lnL lk) es (some (e.1,e.2.1))) ρ (inS e.2.2):=λρ hr=>by
  rw [et,p2];rw [et,p1] at hr;refine C2g (λρ a d h=> .inl h) (lz.sf ρ ⟨hr.1,λx hx=>hr.2 x ?_⟩) λx hx=>hr.2 x ?_
  ·rw [<-Z0z];exact Z07.mpr (.inl hx)
  ·rw [<-Z0z];exact Z07.mpr (.inr hx)
 have g:=C4d (L:=lnL lk) (tb:=tb) (okn:=okA (lnL lk) es) (nm:=nm) (inS e.2.2) (okO (lnL lk) es (some (e.1,e.2.1))) (e.2.1++A3o e.2.2) [] [] z wc hk (λρ hr _=>by rw [Z0u] at hr;rw [B2w];exact sf ρ hr) (by rw [Z0u];exact t1) al;obtain ⟨_,st⟩:=C4l (L:=lnL lk) c.d (inS e.2.2) (e.2.1++A3o e.2.2) [] [] z wc (by rw [Z0u];exact t1);have nr:=C2v (kn:=nm) (inS e.2.2) [] [] z;obtain ⟨ys,ey⟩:=g.pre;have e2:(C4n nm e z).2=(wsP nm (inS e.2.2) [] [] z).2.2++[(e.1,e.2.1,A3o e.2.2,(wsP nm (inS e.2.2) [] [] z).1)]:=rfl;rw [e2];generalize wsP nm (inS e.2.2) [] [] z=r at g st nr ey;refine i04 (g.all.snoc ⟨g.ns,λnm'=>B4r g.ns g.ti,λρ hr _ p hp=> ?_⟩) ?_ ⟨ys,by rw [ey]⟩ nr
 ·rcases g.lk ρ hr (λf hf=>by cases hf) p hp with q | q
  ·rcases q with q | ⟨f,hf,f1,f2,f3⟩
   ·have:=hk ρ _ _ q;rw [ey];exact .inl this.mono
   ·cases hf
    exact .inr (i00 f1 f2 f3)
  ·exact .inl q
 ·rw [B1u]
  have e3:A7o (lnL lk) [(e.1,e.2.1,A3o e.2.2,r.1)]=A1r (lnL lk) e.2.1*(A1r (lnL lk) (A3o e.2.2)+(if A3o e.2.2=[] then 0 else 1)):=by
   show stp _ _+0=_;rw [Int.add_zero];rfl
  rw [e3];unfold bdM at st;rw [Z12 rfl,D0y,Z0t (by decide),A4j] at st;have a1:=A3v (L:=lnL lk) (xs:=e.2.1) λx hx=>c.l x (sca x (Z07.mpr (.inl hx)));by_cases hp:A3o e.2.2=[]
  ·rw [w1 hp,hp] at st;rw [Z12 hp,hp];show A7o (lnL lk) r.2.2+A1r (lnL lk) e.2.1*(1+0)<=_;have st:A7o (lnL lk) r.2.2<=A7o (lnL lk) z.2+A1r (lnL lk) e.2.1*1*(wtM (lnL lk) e.2.2-1):=st;generalize A1r (lnL lk) e.2.1=a at st;generalize wtM (lnL lk) e.2.2=w at st;have e4:a*1*(w-1)+a*(1+0)=a*w:=by grind
   lia
  ·rw [Z0t hp];have h2:=Z29 (w2 hp) (show 0<=A1r (lnL lk) e.2.1 by lia);generalize A1r (lnL lk) e.2.1=a at st h2;generalize A1r (lnL lk) (A3o e.2.2)=d at st h2;generalize wtM (lnL lk) (inS e.2.2)=w at st h2;generalize wtM (lnL lk) e.2.2=v at h2;have e4:a*d*(w-1)+a*(d+1)=a*(1+d*w):=by grind
   lia
structure DuI (lk:List (Key×V)) (tb:List (Str×List Str)) (ls:List Lt) (z:LS):Prop where
 al:B7x (lnL lk) tb z.2
 ar:∀f∈D2u ls,∃l∈z.2,l.1=f.1/\l.2.1=f.2
 st:A7o (lnL lk) z.2<=wkM (lnL lk) ls
 nm:NmI (ls.map (·.1)) z
theorem D6b {lk:List (Key×V)} {tb:List (Str×List Str)} {nm:List Str} {ls:List Lt} (c:KnC lk nm) (hs:∀(j:Nat) (e:Lt),ls[j]? =some e->LtS lk nm (tb++D2u (ls.take j)) e) (nd:(ls.map (·.1)).Nodup) (ng:∀x∈ls.map (·.1),NmG x):∀i,i<=ls.length->DuI lk tb (ls.take i) (duP nm (ls.take i))
 | 0,_=>⟨(λi e he=>by cases he),(λf hf=>by cases hf),Int.le_refl _,⟨.nil,λx hx=>by cases hx⟩⟩
 | i+1,hi=>by
  have hle:ls[i]? =some ls[i]:=Z0b (by lia);have ih:=D6b c hs nd ng i (by lia);have h:=hs i _ hle;rw [B2c hle];have tk:ls.take (i+1)=ls.take i++[ls[i]]:=by rw [Z14,hle];rfl
  rw [tk]
  have hsp:((ls.take i).map (·.1)++[ls[i].1]).Nodup:=by
   have:=nd.sublist ((Z2o (i+1) ls).map (·.1));rw [tk,Z0s] at this;exact this
  have ngt:∀x∈(ls.take i).map (·.1),NmG x:=λx hx=>ng x ((Z2o i ls).map (·.1) |>.mem hx);have nge:NmG ls[i].1:=ng _ (Z2c.mpr (i02 _ (Z13 hle) rfl));generalize ls[i]=e at h hsp nge;generalize duP nm (ls.take i)=z at ih;obtain ⟨s1,s2,⟨ys,s3⟩,s4⟩:=C9b c h (λf hf=>(Z07.mp hf).elim .inl λq=> .inr (ih.ar f q)) ih.al;have ln:=ih.nm.lift s4 ngt;refine ⟨s1,λf hf=> ?_,?_,?_⟩
  ·rw [s3];unfold D2u at hf;rw [Z0s] at hf;rcases Z07.mp hf with q | q
   ·obtain ⟨l,hl,l1⟩:=ih.ar f q;exact i02 l (Z07.mpr (.inl (Z07.mpr (.inl hl)))) l1
   ·rw [Z0w.mp q];exact i06 _ (Z07.mpr (.inr (.head _))) rfl rfl
  ·rw [B9q];have:=ih.st;show _<=wkM (lnL lk) (ls.take i)+(A1r (lnL lk) e.2.1*wtM (lnL lk) e.2.2+0)
   lia
  ·have en:(C4n nm e z).2.map (·.1)=(wsP nm (inS e.2.2) [] [] z).2.2.map (·.1)++[e.1]:=by
    show ((wsP nm (inS e.2.2) [] [] z).2.2++[_]).map _=_;rw [Z0s];rfl
   refine ⟨?_,λx hx=> ?_⟩
   ·rw [en];refine Z0l.mpr (i00 ln.nd (by simp) λa ha b hb q=> ?_);rw [Z0w.mp hb] at q;rcases ln.ex a ha with ⟨k,_,z1⟩ | z1
    ·exact D4a k (by rw [<-z1,q];exact nge)
    ·exact (Z0l.mp hsp).2.2 a z1 e.1 (by simp) q
   ·rw [en] at hx;rw [Z0s];rcases Z07.mp hx with hx | hx
    ·rcases ln.ex x hx with z1 | z1
     ·exact .inl z1
     ·exact .inr (Z07.mpr (.inl z1))
    ·exact .inr (Z07.mpr (.inr hx))
def B2p (A:Adr) (n:Nat):Sp:=λvs H Q _=>∃(v:V) (u:Tm),vs=[v]/\Rep H v (A2c u)/\TmW u/\dep u<=n/\∀(v':V) (H':Hp),A1c H H'->Ob A (A1d (λb=>H b=none) H') v' u->Q v' H'
theorem sne {a b:Str} {C:Prop} (h:V.str a=V.str b) (n:¬a=b):C:=absurd (V.str.inj h) n
theorem D4d (T:Txt K mg t) (hm:6<=m) (Ge2:A3h P w K mg base CX0 m t.py t.o_ C2t (B2p t n)):A3h P w K mg base CX0 (m+1) t.py t.o_ C2t (B2p t (n+1)):=by
 have Ga7:= @A8t P w K mg base t T;have Ge3:= @B6l P w K mg base t T;have Gb8:= @B1i P w K mg base t T;have Ga6:= @B0i P w K mg base t T;have Ga5:= @A6f P w K mg base t T;have Ge4:= @B9p P w K mg base t T;refine T.gy.F.ok B3d (by walk_at "ln") λ_ A _ s H _ Q E hr h=> ?_
 ·obtain ⟨v,u,rfl,rp,wu,hd,k⟩:=h;refine i02 _ (@A0c _ _ _ _ _ (@A1v _ _ _ _ _ _ _ _ (A0q A2x (A1f A1g (pv 0) A0e (λ_ _=>rfl)) A1m (A1a _)) (@A0g _ _ _ (@A0s _ _ _ _ (pmk T.qh Ga7 hr T.pf T.dj.b (A0a (A1f A1g (pv 0) A0e (λ_ _=>rfl)) A0d)))) A0x) (@A0c _ _ _ _ _ (@A1v _ _ _ _ _ _ _ _ (A0q A2x (A1f A1g (pv 0) A0e (λ_ _=>rfl)) A1m (A1a _)) (@A0g _ _ _ (@A0s _ _ _ _ (pmk T.Ai Ge3 hr T.wn T.jb.b (A0a (A1f A1g (pv 0) A0e (λ_ _=>rfl)) A0d)))) A0x) (@A0c _ _ _ _ _ (@A1v _ _ _ _ _ _ _ _ (A0q A2x (A1f A1g (pv 0) A0e (λ_ _=>rfl)) A1m (A1a _)) (@A0g _ _ _ (@A0s _ _ _ _ (pmk T.yw Gb8 hr T.ww T.ik.b (A0a (A1f A1g (pv 0) A0e (λ_ _=>rfl)) (A0a (A2k A5b (by rfl) T.gm Z1o (A0a (A1f A1g (pv 0) A0e (λ_ _=>rfl)) A0d)) A0d))))) A0x) (@A0c _ _ _ _ _ (@A1v _ _ _ _ _ _ _ _ (A0q A2x (A1f A1g (pv 0) A0e (λ_ _=>rfl)) A1m (A1a _)) (@A0g _ _ _ (@A0s _ _ _ _ (pmk T.Bb Ge4 hr T.yd T.on.b (A0a (A1f A1g (pv 0) A0e (λ_ _=>rfl)) (A0a (pcl Ge2 hr T.gy (A0a (A1f A1g (pv 0) A0e (λ_ _=>rfl)) A0d)) A0d))))) A0x) (@A0c _ _ _ _ _ (@A1v _ _ _ _ _ _ _ _ (A0q A2x (A1f A1g (pv 0) A0e (λ_ _=>rfl)) A1m (A1a _)) (@A0g _ _ _ (@A0s _ _ _ _ (pmk T.y6 Ga6 hr T.m7 T.gc.b (A0a (A1f A1g (pv 0) A0e (λ_ _=>rfl)) (A0a (A1f A1g (pv 0) A0e (λ_ _=>rfl)) (A0a (A1f A1g (pv 0) A0e (λ_ _=>rfl)) (A0a (pcl Ge2 hr T.gy (A0a (A1f A1g (pv 0) A0e (λ_ _=>rfl)) A0d)) (A0a (pcl Ge2 hr T.gy (A0a (A1f A1g (pv 0) A0e (λ_ _=>rfl)) A0d)) A0d)))))))) A0x) (@A0c _ _ _ _ _ (@A0l _ _ 1 _ _ _ _ B3d.nd rfl (.inl rfl) (pcl Ge2 hr T.gy (A0a (A1f A1g (pv 0) A0e (λ_ _=>rfl)) A0d)) rfl (.inl rfl)) (@A0c _ _ _ _ _ (@A0l _ _ 2 _ _ _ _ B3d.nd rfl (.inl rfl) (pcl Ge2 hr T.gy (A0a (A1f A1g (pv 0) A0e (λ_ _=>rfl)) A0d)) rfl (.inl rfl)) (@A0c _ _ _ _ _ (@A1v _ _ _ _ _ _ _ _ (A0q A2x (A1f A1g (pv 0) A0e (λ_ _=>rfl)) A1m (A1a _)) (@A0g _ _ _ (@A0s _ _ _ _ (pmk T.yz Ga5 hr T.wq T.cg.b (A0a (pv 1) (A0a (pv 2) A0d))))) A0x) (@A0c _ _ _ _ _ (@A1v _ _ _ _ _ _ _ _ (A0q A2x (A1f A1g (pv 0) A0e (λ_ _=>rfl)) A1m (A1a _)) (@A0g _ _ _ (@A0s _ _ _ _ (pmk T.xp Ga5 hr T.sv T.cg.b (A0a (pv 1) (A0a (pv 2) A0d))))) A0x) (@A0g _ _ _ (@A0s _ _ _ _ (pmk T.yc Ga5 hr T.wv T.cg.b (A0a (pv 1) (A0a (pv 2) A0d)))))))))))))) ?_;obtain ⟨q,xs,rfl,eq⟩:=B3t rp;have sq:=SqT.of (K:=K) (eq)
  cases u with
  | num z =>
   obtain ⟨q',e1,e2⟩:=C6l (z:=z) rp;cases e1;have e2:=SqT.of (K:=K) e2;refine i1b _ rfl q _ _ _ rfl rfl e2 rfl rfl _ rfl (A4v (λ_=> ?_) (λh=>absurd rfl h));refine i13 _ rfl q _ _ _ rfl rfl e2 rfl λx dx hx hdx hne=>(i11 x _ dx _ rfl A0b T.cy T.df rfl ?_);exact k _ _ (A2e hx hdx) (.num (A0j hx A0b))
  | place z =>
   obtain ⟨q',e1,e2⟩:=B8z (x:=z) rp;cases e1;have e2:=SqT.of (K:=K) e2;refine i1b _ rfl q _ _ _ rfl rfl e2 rfl rfl _ rfl (A4v (λh=>sne h (by decide +kernel)) (λ_=> ?_));refine i1b _ rfl q _ _ _ rfl rfl e2 rfl rfl _ rfl (A4v (λ_=> ?_) (λh=>absurd rfl h));refine i13 _ rfl q _ _ _ rfl rfl e2 rfl λx dx hx hdx hne=>(i11 x _ dx _ rfl A0b T.ft T.i_ rfl ?_);exact k _ _ (A2e hx hdx) (.place (A0j hx A0b))
  | read a ix =>
   obtain ⟨q',l,iv,e1,e2,e3,ri⟩:=C1u (x:=a) (ix:=ix) rp;cases e1;have e2:=SqT.of (K:=K) e2;refine i1b _ rfl q _ _ _ rfl rfl e2 rfl rfl _ rfl (A4v (λh=>sne h (by decide +kernel)) (λ_=> ?_));refine i1b _ rfl q _ _ _ rfl rfl e2 rfl rfl _ rfl (A4v (λh=>sne h (by decide +kernel)) (λ_=> ?_));refine i1b _ rfl q _ _ _ rfl rfl e2 rfl rfl _ rfl (A4v (λ_=> ?_) (λh=>absurd rfl h));refine i13 _ rfl q _ _ _ rfl rfl e2 rfl (i0z _ rfl q _ _ _ rfl rfl e2 (i0i rfl l _ rfl (.inl (SqL.of e3)) λl2 hl2 x dx hx hdx hne=> ?_));have v1:A1c H (upd H l2 (.lst iv)):=A0f hl2;have hl21:upd H l2 (.lst iv) l2=some (.lst iv):=A0b;generalize upd H l2 (.lst iv)=G1 at v1 hl21 hx hdx⊢;have v2:A1c G1 (upd (upd G1 dx (.own x)) x (.ins t.ah dx [])):=A0r (A0f hdx) hx;have hx2:upd (upd G1 dx (.own x)) x (.ins t.ah dx []) x=some (.ins t.ah dx []):=A0b;generalize upd (upd G1 dx (.own x)) x (.ins t.ah dx [])=G2 at v2 hx2⊢;have wix:=wu.2.1;refine ⟨x,(i0y dx l2 a ix rfl hx2 (.lst (v2 _ _ hl21) (ri.same (v1.trans v2))) (by lia) λl' G3 hx3 rp3 kb3=>⟨rfl,?_⟩)⟩;have v3:A1c G1 G3:=λb o e=>kb3 b o (A1e e hx) (v2 _ _ e);exact k (.ref x) G3 (v1.trans v3) (.read (A0j (v1.free hx) hx3) (rp3.same (A2q (A1c.refl _) λa o _ h=>(v1.trans v2).free h)))
  | sum x b =>
   obtain ⟨q',a,e1,e2,ra⟩:=C7t rp;cases e1;have e2:=SqT.of (K:=K) e2;simp only [dep] at hd;refine i1b _ rfl q _ _ _ rfl rfl e2 rfl rfl _ rfl (A4v (λh=>sne h (by decide +kernel)) (λ_=> ?_));refine i1b _ rfl q _ _ _ rfl rfl e2 rfl rfl _ rfl (A4v (λh=>sne h (by decide +kernel)) (λ_=> ?_));refine i1b _ rfl q _ _ _ rfl rfl e2 rfl rfl _ rfl (A4v (λh=>sne h (by decide +kernel)) (λ_=> ?_));refine i1b _ rfl q _ _ _ rfl rfl e2 rfl rfl _ rfl (A4v (λ_=> ?_) (λh=>absurd rfl h));refine i13 _ rfl q _ _ _ rfl rfl e2 rfl (i13 _ rfl q _ _ _ rfl rfl e2 rfl (i0o a b rfl ra wu.2 (by lia) λv1 H1 s1 ob1=>λy dx hx hdx hne=>(i14 y _ dx _ _ rfl A0b T.je T.ko T.k_ ⟨rfl,?_⟩)));exact k (.ref y) _ (s1.trans (A2e hx hdx)) (.sum (A0j (s1.free hx) A0b) (ob1.imp (A0i (S:=λb=>H b=none) (A2e hx hdx))))
  | pair kk l r =>
   obtain ⟨q',a,b,e1,e2,ra,rb⟩:=B5l rp;cases e1;have e20:=e2;have e2:=SqT.of (K:=K) e2;simp only [dep] at hd;have tn:¬opS kk="number"/\¬opS kk="place"/\¬opS kk="read"/\¬opS kk="sum"/\¬opS kk="guard":=by cases kk <;> exact i09 (by decide +kernel) (by decide +kernel) (by decide +kernel) (by decide +kernel) (by decide +kernel)
   refine i1b _ rfl q _ _ _ rfl rfl e2 rfl rfl _ rfl (A4v (λh=>sne h tn.1) (λ_=> ?_));refine i1b _ rfl q _ _ _ rfl rfl e2 rfl rfl _ rfl (A4v (λh=>sne h tn.2.1) (λ_=> ?_));refine i1b _ rfl q _ _ _ rfl rfl e2 rfl rfl _ rfl (A4v (λh=>sne h tn.2.2.1) (λ_=> ?_));refine i1b _ rfl q _ _ _ rfl rfl e2 rfl rfl _ rfl (A4v (λh=>sne h tn.2.2.2.1) (λ_=> ?_));refine i1b _ rfl q _ _ _ rfl rfl e2 rfl rfl _ rfl (A4v (λh=>sne h tn.2.2.2.2) (λ_=> ?_));refine i13 _ rfl q _ _ _ rfl rfl e2 rfl (i0o a l rfl ra wu.1 (by lia) λv1 H1 s1 ob1=> ?_);refine i13 _ rfl q _ _ _ rfl rfl (SqT.of (s1 _ _ e20)) rfl (i0o b r rfl (rb.same s1) wu.2 (by lia) λv2 H2 s2 ob2=> ?_);have s12:=s1.trans s2;have e3:=SqT.of (K:=K) (s12 _ _ e20)
   have fin:∀(o:Op3) (x dx:Addr),kk=o->H2 x=none->H2 dx=none->Q (.ref x) (upd (upd (upd H2 dx (.own x)) x (.ins (A5y t o) dx [])) x (.ins (A5y t o) dx [("left",v1),("right",v2)])):=by
    intro o x dx eo hx hdx;subst eo;exact k (.ref x) _ (s12.trans (A2e hx hdx)) (.pair (A0j (s12.free hx) A0b) (ob1.imp (A0i (S:=λb=>H b=none) (s2.trans (A2e hx hdx)))) (ob2.imp (A2q (A2e hx hdx) λa o _ h=>s1.free h)))
   refine i1b _ rfl q _ _ _ rfl rfl e3 rfl rfl _ rfl (A4v (λh0=> ?_) (λh0=> ?_))
   ·exact i0e _ rfl _ rfl λx dx hx hdx hne=>(i14 x _ dx _ _ rfl A0b (A6t T .plus) (B8b T .plus) (B7w T .plus) ⟨rfl,fin .plus x dx (by cases kk with | plus=>rfl | minus=>exact sne h0 (by decide +kernel) | times=>exact sne h0 (by decide +kernel)) hx hdx⟩)
   refine i1b _ rfl q _ _ _ rfl rfl e3 rfl rfl _ rfl (A4v (λh1=> ?_) (λh1=> ?_))
   ·exact i0e _ rfl _ rfl λx dx hx hdx hne=>(i14 x _ dx _ _ rfl A0b (A6t T .minus) (B8b T .minus) (B7w T .minus) ⟨rfl,fin .minus x dx (by cases kk with | minus=>rfl | plus=>exact sne h1 (by decide +kernel) | times=>exact sne h1 (by decide +kernel)) hx hdx⟩)
   exact i0e _ rfl _ rfl λx dx hx hdx hne=>(i14 x _ dx _ _ rfl A0b (A6t T .times) (B8b T .times) (B7w T .times) ⟨rfl,fin .times x dx (by cases kk with | times=>rfl | plus=>exact absurd rfl h0 | minus=>exact absurd rfl h1) hx hdx⟩)
  | guard x lo hi l r =>
   obtain ⟨q',a,b,e1,e2,ra,rb⟩:=B0e rp;cases e1;have e20:=e2;have e2:=SqT.of (K:=K) e2;simp only [dep] at hd;refine i1b _ rfl q _ _ _ rfl rfl e2 rfl rfl _ rfl (A4v (λh=>sne h (by decide +kernel)) (λ_=> ?_));refine i1b _ rfl q _ _ _ rfl rfl e2 rfl rfl _ rfl (A4v (λh=>sne h (by decide +kernel)) (λ_=> ?_));refine i1b _ rfl q _ _ _ rfl rfl e2 rfl rfl _ rfl (A4v (λh=>sne h (by decide +kernel)) (λ_=> ?_));refine i1b _ rfl q _ _ _ rfl rfl e2 rfl rfl _ rfl (A4v (λh=>sne h (by decide +kernel)) (λ_=> ?_));refine i1b _ rfl q _ _ _ rfl rfl e2 rfl rfl _ rfl (A4v (λ_=> ?_) (λh=>absurd rfl h));refine i13 _ rfl q _ _ _ rfl rfl e2 rfl (i13 _ rfl q _ _ _ rfl rfl e2 rfl (i13 _ rfl q _ _ _ rfl rfl e2 rfl (i13 _ rfl q _ _ _ rfl rfl e2 rfl (i0o a l rfl ra wu.2.2.2.1 (by lia) λv1 H1 s1 ob1=> ?_))));refine i13 _ rfl q _ _ _ rfl rfl (SqT.of (s1 _ _ e20)) rfl (i0o b r rfl (rb.same s1) wu.2.2.2.2 (by lia) λv2 H2 s2 ob2=>λy dx hx hdx hne=>(i0u y dx _ _ _ _ _ (i04 rfl A0b rfl ?_)));exact k (.ref y) _ (s1.trans (s2.trans (A2e hx hdx))) (.guard (A0j ((s1.trans s2).free hx) A0b) (ob1.imp (A0i (S:=λb=>H b=none) (s2.trans (A2e hx hdx)))) (ob2.imp (A2q (A2e hx hdx) λa o _ h=>s1.free h)))
theorem D7s (T:Txt K mg t):∀n:Nat,A3h P w K mg base CX0 (n+6) t.py t.o_ C2t (B2p t n)
 | 0=>A3h.none (by rintro vs H Q E ⟨v,u,_,_,_,h,_⟩;have:=A5x u;lia)
 | n+1=>D4d T (by lia) (D7s T n)
theorem D7n {α β:Type} {R:α->β->Prop} {xs:List α} {ys:List β} (h:Paired R xs ys):∀y∈ys,∃x,R x y:=by
 induction h with
 | nil=>intro y hy;cases hy
 | cons a _ ih =>
  intro y hy;rcases Z0e.mp hy with rfl | hy
  ·exact ⟨_,a⟩
  ·exact ih y hy
theorem C6x {H:Hp}:∀{vs:List V} {tb:List (Str×List Str)},Paired (λ(v:V) (e:Str×List Str)=>∃q l,v= .ref q/\H q=some (.tup [.str e.1,.ref l])/\H l=some (.lst (e.2.map V.str))) vs tb->A4w H vs (tb.map C4o)
 | _,_,.nil=> .nil
 | _,_,.cons ⟨q,l,rfl,e1,e2⟩ r=> .cons (.tup e1 (.cons (.str _) (.cons (.lst e2 (A4w.strs _)) .nil))) (C6x r)
def D2c (A:Adr):Sp:=λvs H Q _=>∃(p:Addr) (ax:List (Str×Int)) (tb:List (Str×List Str)) (ls:List Lt),vs=[.ref p]/\B3z H p ax tb ls/\∀(r:Addr) (wh:Int) (os:List Str) (H':Hp),A1c H H'->D0p A H' r wh ax tb ls os->os.length<=100->Q (.ref r) H'
theorem B0z (T:Txt K mg t):FO P w base T.e_ 47 (D2c t):=by
 have Ge2:= @D7s P w K mg base t T 40;have Ge5:= @B9g P w K mg base t T;have Ge6:= @B3w P w K mg base t T;refine T.e_.F.ok A1x (by walk_at "ln") λ_ A _ s H _ Q E hr h=> ?_
 ·obtain ⟨p,ax,tb,ls,rfl,hpg,k⟩:=h;refine e09 hpg.ob ?_;rintro wh d tl ll ol ⟨tvs,lvs,o0,hp,hd,htl,ptb,hll,pls,hol⟩;have hax:=hpg.hx;have lt6:=hpg.t;have ll8:=hpg.l;have okl:=hpg.ok;have hu:=A7r hr;refine i02 _ (@A0c _ _ _ _ _ (A9r (pv 0) (A3z (n:=5) rfl (A0y (A0m (i:=1) A1x.nd rfl (.inl rfl)) (A0y (A0m (i:=2) A1x.nd rfl (.inr rfl)) (A0y (A0m (i:=3) A1x.nd rfl (.inl rfl)) (A0y (A0m (i:=4) A1x.nd rfl (.inl rfl)) (A0y (A0m (i:=5) A1x.nd rfl (.inl rfl)) A2v))))))) (@A0c _ _ _ _ _ (B5m (i₀:=6) (N':=["_law_name","_law_lengths"]) (ix:=(List.replicate 1 none++[some 2])) A1x.nd rfl (.inl rfl) rfl (A8m (x:="_law_lengths") rfl rfl rfl (by decide +kernel) (by decide +kernel)) (A6w (N0:=["_law_name"]) rfl (.inl rfl) (by walk_at "ix")) (C7l (pv 2)) (λ_ _ _ _=>(A0m (i:=0) C3k rfl (.inl rfl))) (λ_ _ _ _=>(A1n (A0a (pv 0) (A0a (A4b hu (pv 1) (pv 0) (λ_ _=>rfl)) A0d))))) (@C2n _ _ _ (@A0c _ _ _ _ _ (B5m (i₀:=7) (N':=["_law_name","_law_own"]) (ix:=(List.replicate 2 none)) (g:=D2y K 2 (A9u (A6x 0) (A9u (A6x 1) D4n))) A1x.nd rfl (.inl rfl) rfl (A2s rfl (by decide +kernel) (by decide +kernel)) (A2r rfl) (A2g (pv 3)) (λ_ _ _ _=>(A3z (n:=2) rfl (A0y (A0m (i:=0) B4y rfl (.inl rfl)) (A0y (A0m (i:=1) B4y rfl (.inl rfl)) A2v)))) (λ_ _ _ _=>(A1n (A0a (pv 0) (A0a (A2k (A9t (K:=K) rfl) (by rfl) T.gm Z1o (A0a (pv 1) A0d)) A0d))))) (@A0c _ _ _ _ _ (B5m (i₀:=8) (N':=["_law_name","_law_own","_law_tree"]) (ix:=(List.replicate 3 none)) (g:=D2y K 3 (A9u (A6x 0) (A9u (A6x 1) (A9u (A6x 2) D4n)))) A1x.nd rfl (.inl rfl) rfl (A2s rfl (by decide +kernel) (by decide +kernel)) (A2r rfl) (A2g (pv 4)) (λ_ _ _ _=>(A3z (n:=3) rfl (A0y (A0m (i:=0) B1d rfl (.inl rfl)) (A0y (A0m (i:=1) B1d rfl (.inl rfl)) (A0y (A0m (i:=2) B1d rfl (.inl rfl)) A2v))))) (λ_ _ _ _=>(pmk T.Ba Ge5 hr T.Bh T.oq.b (A0a (pv 0) (A0a (A2k (A9t (K:=K) rfl) (by rfl) T.gm Z1o (A0a (pv 1) A0d)) (A0a (pcl Ge2 hr T.gy (A0a (pv 2) A0d)) A0d)))))) (@A0g _ _ _ (@A0s _ _ _ _ (pmk T.yf Ge6 hr T.zm T.gz.b (A0a (pv 1) (A0a (pv 6) (A0a (pv 7) (A0a (pv 8) (A0a (A2k A5b (by rfl) T.gm Z1o (A0a (pv 5) A0d)) A0d))))))))))))) ?_;refine i0n _ rfl p _ rfl (SqT.of hp) (i0b rfl _ _ rfl (i03 _ _ (i0b rfl _ _ rfl ⟨_,(i0n _ rfl _ _ rfl rfl ?_)⟩)))
  have ndk:((A2i ax).map (·.1)).Nodup:=by
   have ks:(A2i ax).map (·.1)=(ax.map (·.1)).map (Sum.inr:Str->Key):=by unfold A2i;rw [List.map_map,List.map_map];rfl
   rw [ks];exact hax.2.2.1.map (f:=(Sum.inr:Str->Key)) λa b hab z=>hab (Sum.inr.inj z)
  have lla:(A2i ax).length=ax.length:=by unfold A2i;rw [Z08]
  have l8:=hax.2.2.2;refine i0n _ rfl d (A2i ax) rfl hd λo=>λD hD=> ?_;have Dd:D≠d:=λe=>by rw [e,A0b] at hD;cases hD
  refine B3j (D:=D) (A2i ax).length (λj ys G=>A1c (upd H d (.frz o (.dK (A2i ax)))) G/\G D=some (.lst ys)/\Paired (λ(v:V) (e:Str×Int)=>∃q,v= .ref q/\q≠D/\G q=some (.tup [.str e.1,.int e.2])) ys (ax.take j)) (i00 (A0f hD) A0b .nil) (by rintro j ys G hj ⟨sG,_⟩;exact ⟨sG _ _ A0b,hj⟩) (by rintro ys G ⟨sG,_⟩;exact ⟨sG _ _ A0b,rfl⟩) ?_ ?_
  ·rintro j ys G0 hj ⟨sG,hG,pj⟩ x G ⟨rfl,kk,vv,hkv,rfl⟩;have hje:ax[j]? =some ax[j]:=Z0b (by lia);have hkv0:=hkv;unfold A2i at hkv;rw [Z1z,hje] at hkv;generalize ax[j]=e at hje hkv;cases hkv;have dg:B0j G d (kV (Sum.inr e.1)) (A9o (A2i ax) (Sum.inr e.1)):= .inl (i0f _ _ (.inr ⟨o,sG _ _ A0b⟩) rfl rfl);rw [C1i ndk hkv0] at dg;have ly:=Paired.length pj;rw [Z0x] at ly;refine ⟨⟨rfl,True.intro⟩,(i12 _ rfl _ rfl _ rfl d _ rfl dg ⟨A0t rfl,λtp htp=> ?_⟩)⟩;have sT:=A0f (o:= .tup [.str e.1,.int e.2]) htp;have tD:tp≠D:=λz=>by rw [z,hG] at htp;cases htp
   refine i09 (sT _ _ hG) (A1s (by lia)) (A0r (sG.trans sT) hD) A0b ?_;rw [Z14,hje];refine B1t (Paired.mapP pj λv e ⟨q,e1,e2,e3⟩=>(i06 q e1 e2 (by rw [A0k e2];exact sT _ _ e3))) (.cons (i06 tp rfl tD (by rw [A0k tD];exact A0b)) .nil)
  rintro ys G ⟨sG,hG,pj⟩;rw [lla,Z18] at pj;have hGd:=sG _ _ (A0b (H:=H) (a:=d) (o:= .frz o (.dK (A2i ax))));refine i0m d o (A2i ax) hGd (λo' u' e=>by have e:H d=some (.frz o' u'):=e;rw [hd] at e;cases e) ?_
  have s1:A1c H (upd G d (.dK (A2i ax))):=λb u e=>by
   by_cases hb:b=d
   ·rw [hb] at e⊢;rw [hd] at e;rw [A0b];exact e
   ·rw [A0k hb];exact sG _ _ (by rw [A0k hb];exact e)
  have r1:Rep (upd G d (.dK (A2i ax))) (.ref D) (A5w ax):= .lst (by rw [A0k Dd];exact hG) (B0n (Paired.mapP pj λv e ⟨q,e1,e2,e3⟩=>(i02 q e1 (by rw [A0k (A3p e3 hGd (by intro h;cases h))];exact e3))));generalize upd G d (.dK (A2i ax))=H1 at s1 r1;clear pj hGd sG hG hD Dd;refine i0k _ rfl tl rfl ⟨_,SqL.of (s1 _ _ htl)⟩ λD2 hD2=> ?_;have ltb:=Paired.length ptb;refine A3k (K:=K) (a:=tl) (D:=D2) (xs:=tvs) (λj ys G=>A1c H1 G/\G D2=some (.lst ys)/\Paired (λ(v:V) (e:Str×List Str)=>∃q l,v= .ref q/\q≠D2/\l≠D2/\G q=some (.tup [.str e.1,.ref l])/\G l=some (.lst (e.2.map V.str))) ys (tb.take j)) (i00 (A0f hD2) A0b .nil) (by rintro j ys G ⟨sG,_⟩;exact SqL.of (sG _ _ (s1 _ _ htl))) ?_ ?_
  ·rintro j x ys G hx ⟨sG,hG,pj⟩;obtain ⟨e,he,q,al,rfl,e1,e2,_⟩:=B3x ptb hx;have e1:=sG _ _ (s1 _ _ e1);have e2:=sG _ _ (s1 _ _ e2);have ly:=Paired.length pj;rw [Z0x] at ly;refine i19 q _ rfl (SqT.of e1) rfl _ _ rfl _ _ rfl rfl ⟨True.intro,(i0w _ rfl _ rfl al _ rfl (.inl (SqL.of e2)) λl2 hl2=>⟨A0t rfl,λtp htp=> ?_⟩)⟩;have sA:=A0f (o:= .lst (e.2.map V.str)) hl2;have sB:=A0f (o:= .tup [.str e.1,.ref l2]) htp;have sAB:=sA.trans sB;have lD:l2≠D2:=λz=>by rw [z,hG] at hl2;cases hl2
   have tD:tp≠D2:=λz=>by rw [z,sA _ _ hG] at htp;cases htp
   refine i09 (sAB _ _ hG) (A1s (by lia)) (A0r (sG.trans sAB) hD2) A0b ?_;rw [Z14,he];exact B1t (Paired.mapP pj λv e ⟨q,l,e1,n1,n2,e2,e3⟩=>(i0o q l e1 n1 n2 (by rw [A0k n1];exact sAB _ _ e2) (by rw [A0k n2];exact sAB _ _ e3))) (.cons (i0o tp l2 rfl tD lD (by rw [A0k tD];exact A0b) (by rw [A0k lD];exact sB _ _ A0b)) .nil)
  rintro ys2 H2 ⟨s12,hG2,pj⟩;rw [ltb,Z18] at pj;have s2:=s1.trans s12;have r2:Rep H2 (.ref D2) (B4m tb):= .lst hG2 (C6x (Paired.mapP pj λv e ⟨q,l,e1,n1,n2,e2,e3⟩=>(i0f q l e1 e2 e3)));have r1:=r1.same s12;clear pj;refine i0k _ rfl ll rfl ⟨_,SqL.of (s2 _ _ hll)⟩ λD3 hD3=> ?_;have lls:=Paired.length pls;refine A3k (K:=K) (a:=ll) (D:=D3) (xs:=lvs) (λj ys G=>A1c H2 G/\G D3=some (.lst ys)/\Paired (B9o t (λ_=>True) (A1d (λb=>b≠D3) G)) ys (ls.take j)) (i00 (A0f hD3) A0b .nil) (by rintro j ys G ⟨sG,_⟩;exact SqL.of (sG _ _ (s2 _ _ hll))) ?_ ?_
  ·rintro j x ys G hx ⟨sG,hG,pj⟩;obtain ⟨e,he,q,al,tv,rfl,e1,e2,rt⟩:=B3x pls hx;have oke:=okl e (Z13 he);have hj:=(Z03.mp he).1;have ly:=Paired.length pj;rw [Z0x] at ly;have e1:=sG _ _ (s2 _ _ e1);have e2:=sG _ _ (s2 _ _ e2);have l3:=oke.l3;refine i0f q _ rfl (SqT.of e1) (i0b rfl _ _ rfl ⟨_,(i0r _ rfl _ _ rfl rfl True.intro (i0w _ rfl _ rfl al _ rfl (.inl (SqL.of e2)) λl2 hl2=> ?_))⟩);have sA:=A0f (o:= .lst (e.2.1.map V.str)) hl2;have hl2':upd G l2 (.lst (e.2.1.map V.str)) l2=some (.lst (e.2.1.map V.str)):=A0b;generalize upd G l2 (.lst (e.2.1.map V.str))=G1 at sA hl2';have hG1:=sA _ _ hG;refine i0r _ rfl tv e.2.2 rfl (rt.same (s2.trans (sG.trans sA))) oke.w ⟨by have:=oke.d;lia,λv1 G2 sB ob=> ?_⟩;have hG2':=sB _ _ hG1;have l22:=sB _ _ hl2';intro y dx hy hdx hne;have sM:A1c G2 (upd (upd G2 dx (.own y)) y (.ins t.ce dx [])):=A0r (A0f hdx) hy;have hy3:upd (upd G2 dx (.own y)) y (.ins t.ce dx []) y=some (.ins t.ce dx []):=A0b;generalize upd (upd G2 dx (.own y)) y (.ins t.ce dx [])=G3 at sM hy3;refine i03 y dx (i0y l2 v1 e.1 e.2.1 rfl hy3 (sM _ _ l22) (by lia) λc G4 hc hy4 hc4 kb4=>⟨rfl,?_⟩);have s24:A1c G2 G4:=λb u z=>kb4 b u (A1e z hy) (sM _ _ z);have hG4:=s24 _ _ hG2';have c2:G2 c=none:=sM.free hc;have cS:c≠D3:=λz=>by rw [z,hG2'] at c2;cases c2
   have yS:y≠D3:=λz=>by rw [z,hG2'] at hy;cases hy
   have toR:A1c (A1d (λb=>G1 b=none) G2) (A1d (λb=>b≠D3) (upd G4 D3 (.lst (ys++[.ref y])))):=λb u z=>by
    have z1:=(A0p z).1;have n1:b≠D3:=λq=>by rw [q,hG1] at z1;cases z1
    exact A0j n1 (by rw [A0k n1];exact s24 _ _ (A0p z).2)
   have rG4:A1c (A1d (λb=>b≠D3) G) (A1d (λb=>b≠D3) (upd G4 D3 (.lst (ys++[.ref y])))):=A2p (A0i (sA.trans (sB.trans s24))) λz=>z rfl;refine i09 hG4 (A1s (by lia)) (A0r (sG.trans (sA.trans (sB.trans s24))) hD3) A0b ?_;rw [Z14,he];exact B1t (Paired.mapP pj λv e z=>z.same rG4) (.cons ⟨y,(i0y dx c v1 () rfl (A0j yS (by rw [A0k yS];exact hy4)) True.intro (A0j cS (by rw [A0k cS];exact hc4)) (ob.imp toR))⟩ .nil)
  rintro ys3 G ⟨sG,hG,pj⟩;rw [lls,Z18] at pj;have lys:=Paired.length pj;refine i0e _ rfl _ rfl (i12 _ rfl _ rfl _ rfl ol _ rfl (.inl (SqL.of (sG _ _ (s2 _ _ hol)))) λol2 hol2=> ?_);have sO:=A0f (o:= .lst [.str o0]) hol2;have hO:upd G ol2 (.lst [.str o0]) ol2=some (.lst ([o0].map V.str)):=A0b;generalize upd G ol2 (.lst [.str o0])=G1 at sO hO;intro y dx hy hdx hne;have sM:A1c G1 (upd (upd G1 dx (.own y)) y (.ins t.ag dx [])):=A0r (A0f hdx) hy;have hy3:upd (upd G1 dx (.own y)) y (.ins t.ag dx []) y=some (.ins t.ag dx []):=A0b;generalize upd (upd G1 dx (.own y)) y (.ins t.ag dx [])=G2 at sM hy3;have sOM:=sO.trans sM;have s22:=sG.trans sOM;have pl2:Paired (B9o t (λ_=>True) G1) ys3 ls:=Paired.mapP pj λv e z=>(z.same A1b).same sO;refine i08 y dx D (i1d D2 D3 ol2 wh ax tb ys3 [o0] rfl hy3 (r1.same s22) (by lia) (r2.same s22) (by lia) ⟨?_,(i0h (sOM _ _ hG) (by lia) ?_ (sM _ _ hO) (by show 1<=1000;decide) λa' t' l' o' G3 hy4 ra rt hl ho kb=>⟨rfl,?_⟩)⟩)
  ·intro e he;obtain ⟨x,q,al,_,_,_,_,l3,_⟩:=D7n ptb e he
   lia
  ·intro x hx;obtain ⟨i,hi,ei⟩:=List.mem_iff_getElem.mp hx;obtain ⟨e,_,a,dx',c,n,dn,ex,e1,_⟩:=B3x pl2 (Z0b hi);rw [ei] at ex;exact i0m a dx' _ ex (A1e e1 hy) (sM _ _ e1)
  ·have s13:A1c G1 G3:=λb u z=>kb b u (A1e z hy) (sM _ _ z);exact k y wh [o0] G3 (s2.trans (sG.trans (sO.trans s13))) ⟨dx,a',t',l',o',hy4,ra,rt,(i02 ys3 hl (Paired.mapP pl2 λv e z=>z.same s13)),.lst ho (A4w.strs _)⟩ (by show 1<=100;decide)
theorem KT.at {u:HO} (e:H l=some u) (n:∀xs,u≠.tup xs):KT H (upd H l o):=λp xs z=>by rw [A0k (A3p z e (n xs).symm)];exact z
def A4t (H:Hp) (ps:List Addr) (cs:List (List Int)):Prop:=Paired (λ(p:Addr) (c:List Int)=>H p=some (.tup (c.map V.int))) ps cs
theorem A4t.imp {H H':Hp}:∀{ps:List Addr} {cs:List (List Int)},A4t H ps cs->(∀p xs,H p=some (.tup xs)->H' p=some (.tup xs))->A4t H' ps cs
 | _,_,.nil,_=> .nil
 | _,_,.cons r t,f=> .cons (f _ _ r) (A4t.imp t f)
theorem A4t.same {ps:List Addr} (h:A4t H ps cs) (s:A1c H H'):A4t H' ps cs:=h.imp λ_ _ e=>s _ _ e
theorem A4t.snoc {H:Hp} {p:Addr} {c:List Int} (e:H p=some (.tup (c.map V.int))):∀{ps:List Addr} {cs:List (List Int)},A4t H ps cs->A4t H (ps++[p]) (cs++[c])
 | _,_,.nil=> .cons e .nil
 | _,_,.cons r t=> .cons r (A4t.snoc e t)
theorem A4t.get {ps:List Addr} (h:A4t H ps cs) (hp:ps[i]? =some p):∃c,cs[i]? =some c/\H p=some (.tup (c.map V.int)):=B3x h hp
structure A4m (H:Hp) (a:Addr) (cs:List (List Int)):Prop where
 ex:∃ps:List Addr,H a=some (.lst (ps.map V.ref))/\A4t H ps cs
theorem A4m.same (h:A4m H a cs) (s:A1c H H'):A4m H' a cs :=
 let ⟨ps,h1,h2⟩:=h.ex
 ⟨ps,s _ _ h1,h2.same s⟩
abbrev nxt (n:Int) (cs:List (List Int)):List (List Int):=cs.flatMap λc=>(List.range n.toNat).map λ(m:Nat)=>c++[(m:Int)]
def A4i (L:Str->Int) (ys:List Str):List (List Int):=ys.foldl (λcs y=>nxt (L y) cs) [[]]
theorem C3h (h:ys[i]? =some y):A4i L (ys.take (i+1))=nxt (L y) (A4i L (ys.take i)):=by
 unfold A4i;rw [Z14,h,List.foldl_append];rfl
theorem C1e {L:Str->Int}:∀(ys:List Str) (cs:List (List Int)) (c:List Int),c∈ys.foldl (λcs y=>nxt (L y) cs) cs↔∃p∈cs,∃s,c=p++s/\inC L ys s
 | [],cs,c=>by
  refine ⟨λh=>(i0e c h [] ((Z0u _).symm) True.intro),?_⟩;rintro ⟨p,hp,s,e,h⟩
  cases s with
  | nil=>rw [e,Z0u];exact hp
  | cons a b=>exact h.elim
 | y::ys,cs,c=>by
  show c∈ys.foldl (λcs y=>nxt (L y) cs) (nxt (L y) cs)↔_;rw [C1e ys];constructor
  ·rintro ⟨p,hp,s,e,h⟩;obtain ⟨q,hq,hp⟩:=List.mem_flatMap.mp hp;obtain ⟨m,hm,rfl⟩:=Z2c.mp hp;have:=List.mem_range.mp hm;exact i0e q hq ((m:Int)::s) (by rw [e,Z0z];rfl) ⟨⟨by lia,by lia⟩,h⟩
  ·rintro ⟨q,hq,s,e,h⟩
   cases s with
   | nil=>exact h.elim
   | cons a s =>
    refine i0e (q++[a]) (List.mem_flatMap.mpr (i02 q hq (Z2c.mpr (i02 a.toNat (List.mem_range.mpr ?_) ?_)))) s (by rw [e,Z0z];rfl) h.2
    ·have:=h.1;lia
    ·rw [Int.toNat_of_nonneg h.1.1]
theorem A8a:c∈A4i L ys↔inC L ys c:=by
 unfold A4i;rw [C1e];constructor
 ·rintro ⟨p,hp,s,e,h⟩;rw [Z0w.mp hp] at e;rw [e];exact h
 ·intro h;exact i0e [] (by simp) c rfl h
theorem C0a {n:Int} (hn:0<=n):∀cs:List (List Int),((nxt n cs).length:Int)=cs.length*n
 | []=>(Int.zero_mul _).symm
 | c::cs=>by
  have:=C0a hn cs;unfold nxt at this⊢;rw [List.flatMap_cons,Z06,Z08,List.length_range,Int.natCast_add,this,Z0y,Int.natCast_add,Int.add_mul,Int.toNat_of_nonneg hn]
  lia
theorem C1g {L:Str->Int}:∀(ys:List Str) (cs:List (List Int)),(∀y∈ys,1<=L y)->((ys.foldl (λcs y=>nxt (L y) cs) cs).length:Int)=cs.length*A1r L ys
 | [],cs,_=>(Int.mul_one _).symm
 | y::ys,cs,h=>by
  show ((ys.foldl (λcs y=>nxt (L y) cs) (nxt (L y) cs)).length:Int)=cs.length*(L y*A1r L ys);rw [C1g ys _ λz hz=>h z (.tail _ hz),C0a (by have:=h y (.head _);lia),Int.mul_assoc]
theorem B8q (h:∀y∈ys,1<=L y):((A4i L ys).length:Int)=A1r L ys:=by
 unfold A4i;rw [C1g ys _ h];exact Int.one_mul _
theorem B2e {L:Str->Int}:∀{ys:List Str} {c:List Int},inC L ys c->c.length=ys.length
 | [],[],_=>rfl
 | _::_,_::_,h=>congrArg (· +1) (B2e h.2)
theorem B8i (h:∀y∈ys,1<=L y) (i:Nat):A1r L (ys.take i)<=A1r L ys:=by
 have e:A1r L ys=A1r L (ys.take i)*A1r L (ys.drop i):=by rw [<-A4j,Z2e]
 have a:=A3v (L:=L) (xs:=ys.take i) λx hx=>h x (Z2p hx);have b:=A3v (L:=L) (xs:=ys.drop i) λx hx=>h x (List.mem_of_mem_drop hx);have:=Z29 b (show 0<=A1r L (ys.take i) by lia)
 lia
def B5f:Sp:=λvs H Q _=>∃(l d:Addr) (ys:List Str) (lk:List (Key×V)),vs=[.ref l,.ref d]/\H l=some (.lst (ys.map V.str))/\H d=some (.dK lk)/\B1j lk ys/\A1r (lnL lk) ys<=216000/\ys.length<=100/\∀(q:Addr) (H':Hp),H q=none->A1c H H'->A4m H' q (A4i (lnL lk) ys)->Q (.ref q) H'
theorem A9v (T:Txt K mg t):FO P w base T.cz 1 B5f:=by
 refine T.cz.F.ok A3x (by walk_at "ln") λ_ A _ s H _ Q E hr h=> ?_
 ·obtain ⟨l,d,ys,lk,rfl,hl,hd,dk,pm,l100,k⟩:=h;have hu:=A7r hr
  have one:∀y∈ys,1<=lnL lk y:=λy hy=>by
   obtain ⟨n,e,n1,_⟩:=dk y hy;rw [A6u e];exact n1
  refine i02 _ (@A0c _ _ _ _ _ (@A0l _ _ 2 _ _ _ _ A3x.nd rfl (.inl rfl) (@A1z _ _ _ _ (A0a (A1n A0d) A0d)) rfl (.inl rfl)) (@A0c _ _ _ _ _ (A2y PassesOwn.never rfl (A2g (pv 0)) (A0m (i:=3) A3x.nd rfl (.inl rfl)) (@A0c _ _ _ _ _ (@A0l _ _ 4 _ _ _ _ A3x.nd rfl (.inl rfl) (@A1z _ _ _ _ A0d) rfl (.inl rfl)) (@A0c _ _ _ _ _ (A2y PassesOwn.never rfl (A2g (pv 2)) (A0m (i:=5) A3x.nd rfl (.inr rfl)) (@A0g _ _ _ (A3n (A7p Z0k PySem.F.slot_list_extend PySem.F.type_list_extend B2l (pv 4) (A0a (A4e (N':=["_law_number","_law_cell_here"]) (ix:=(List.replicate 1 none++[some 5])) rfl (A8m (x:="_law_cell_here") rfl rfl rfl (by decide +kernel) (by decide +kernel)) (A6w (N0:=["_law_number"]) rfl (.inl rfl) (by walk_at "ix")) (A4d rfl T.dw (A0a (A4b hu (pv 1) (pv 3) (λ_ _=>rfl)) A0d)) (λ_ _ _ _=>(A0m (i:=0) C3b rfl (.inl rfl))) (λ_ _ _ _=>(A0o B6e (pv 1) (A1n (A0a (pv 0) A0d))))) A0d))))) (@A0g _ _ _ (@A0l _ _ 2 _ _ _ _ A3x.nd rfl (.inl rfl) (pv 4) rfl (.inl rfl)))))) (@A0g _ _ _ (@A0s _ _ _ _ (pv 2))))) ?_;refine ⟨A0t rfl,λe he=>⟨A0t rfl,λq hq=> ?_⟩⟩;have hq0:H q=none:=(A0f he).free hq;have s1:A1c H (upd (upd H e (.tup [])) q (.lst [V.ref e])):=(A0f he).trans (A0f hq)
  refine ⟨_,rfl,l,rfl,⟨_,SqL.of (s1 _ _ hl)⟩,A3f (K:=K) (a:=l) (xs:=ys.map V.str) (λi Z H2=>∃(o3 o4 o5:Option V) (q:Addr),Z=[Sro l,Sro d,Sro q,o3,o4,o5]/\A1c H H2/\H q=none/\A4m H2 q (A4i (lnL lk) (ys.take i)))
   ⟨none,(i0q none none q rfl s1 hq0 ⟨[e],A0b,.cons (by rw [A0k (A1e A0b hq)];exact A0b) .nil⟩)⟩ (by rintro i Z H2 _ ⟨_,_,_,_,_,s2,_⟩;exact SqL.of (s2 _ _ hl)) ?_ ?_⟩
  ·rintro i y Z H2 hi ⟨o3,o4,o5,q,rfl,s2,hq,c2⟩;obtain ⟨y,hy,rfl⟩:=A7c hi;obtain ⟨n,ev,n1,n60⟩:=dk y (Z13 hy);have en:lnL lk y=n:=A6u ev;have cl:=B8q (L:=lnL lk) (ys:=ys.take i) λx hx=>one x (Z2p hx);have pl:=B8i one i;obtain ⟨ps,hq2,tp⟩:=c2.ex;have lps:=Paired.length tp;refine ⟨A0t rfl,λL hL=> ?_⟩;have sL:A1c H2 (upd H2 L (.lst [])):=A0f hL
   refine ⟨_,rfl,q,rfl,⟨_,SqL.of (sL _ _ hq2)⟩,A3f (K:=K) (a:=q) (xs:=ps.map V.ref) (λj Z H3=>∃(o5:Option V) (qs:List Addr),Z=[Sro l,Sro d,Sro q,Sso y,Sro L,o5]/\A1c H2 H3/\H3 L=some (.lst (qs.map V.ref))/\A4t H3 qs (nxt n ((A4i (lnL lk) (ys.take i)).take j)))
    (i0l _ [] rfl sL A0b .nil) (by rintro j Z H3 _ ⟨_,_,_,s3,_⟩;exact SqL.of (s3 _ _ hq2)) ?_ ?_⟩
   ·rintro j z Z H3 hz ⟨o5,qs,rfl,s3,h3,t3⟩;obtain ⟨pc,hpc,rfl⟩:=A7c hz;obtain ⟨c,hc,hpt⟩:=tp.get hpc;have cw:=B2e (A8a.mp (Z13 hc));rw [Z0x] at cw;have gk:=B0j.k (H:=H3) (a:=d) (k:=Sum.inr y) (s3 _ _ (s2 _ _ hd));rw [ev] at gk
    have hql:qs.length<=216000:=by
     have e:=Paired.length t3;have e2:=C0a (n:=n) (by lia) ((A4i (lnL lk) (ys.take i)).take j);have e1:(((A4i (lnL lk) (ys.take i)).take j).length:Int)<=(A4i (lnL lk) (ys.take i)).length:=by rw [Z0x];lia
     have e3:=Int.mul_le_mul_of_nonneg_right e1 (show 0<=n by lia);have e4:=B8i one (i+1);rw [Z14,hy,A4j] at e4;have e5:A1r (lnL lk) [y]=n:=by show lnL lk y*1=n;rw [en,Int.mul_one]
     rw [show (some y).toList=[y] from rfl,e5,<-cl] at e4
     lia
    refine i06 _ rfl (.inl (i01 rfl _ (SqL.of h3))) (i0w _ rfl _ rfl d _ rfl gk (i0c n rfl (by lia) (by lia) λD hD=> ?_));refine B3j (D:=D) n.toNat (λm zs H4=>A1c H3 H4/\H4 D=some (.lst zs)/\∃ws:List Addr,zs=ws.map V.ref/\ws.length=m/\A4t H4 ws ((List.range m).map λ(m:Nat)=>c++[(m:Int)])) (i0a (A0f hD) A0b [] rfl ⟨rfl,.nil⟩) (λm zs H4 hm _=>hm) (λzs H4 _=>Z09 _) ?_ ?_
    ·rintro m zs H4 hm ⟨s4,h4,ws,rfl,lw,t4⟩ x H5 ⟨rfl,rfl⟩;rw [Int.zero_add];refine ⟨⟨rfl,True.intro⟩,(i0k _ rfl _ rfl (A0t rfl) λu hu'=> ?_)⟩;have s5:A1c H5 (upd H5 u (.tup [V.int (m:Int)])):=A0f hu';refine i11 pc u (c.map V.int) [V.int (m:Int)] rfl rfl (s5 _ _ (s4 _ _ (s3 _ _ hpt))) A0b (A2a (by simp;lia)) λq' H6 s6 hq'=> ?_;have h6:=s6 _ _ (s5 _ _ h4);refine i09 h6 (A1s (by rw [Z08];lia)) (A0r (s4.trans (s5.trans s6)) hD) A0b (i06 (ws++[q']) (by simp) (by simp [lw]) ?_);rw [List.range_succ,Z0s];have kD:KT H6 (upd H6 D (.lst (ws.map V.ref++[.ref q']))):=KT.at h6 (by intro xs z;cases z);exact A4t.snoc (kD _ _ (by rw [hq',Z0s];rfl)) ((t4.same (s5.trans s6)).imp kD)
    ·rintro zs H4 ⟨s4,h4,ws,rfl,lw,t4⟩;have h4L:=s4 _ _ h3;refine i11 L D _ _ rfl rfl h4L h4 (A2a (by rw [Z08,Z08];lia)) ?_;have kL:KT H4 (upd H4 L (.lst (qs.map V.ref++ws.map V.ref))):=KT.at h4L (by intro xs z;cases z);refine i0l _ (qs++ws) rfl (A0r (s3.trans s4) hL) (by rw [A0b,Z0s]) ?_
     have e:nxt n ((A4i (lnL lk) (ys.take i)).take (j+1))=nxt n ((A4i (lnL lk) (ys.take i)).take j)++(List.range n.toNat).map λ(m:Nat)=>c++[(m:Int)]:=by
      rw [Z14,hc];simp [nxt]
     rw [e];exact B1t ((t3.same s4).imp kL) (t4.imp kL)
   ·rintro Z H3 ⟨o5,qs,rfl,s3,h3,t3⟩;refine i0z _ rfl _ _ _ L rfl (s2.trans s3) (s2.free hL) ⟨qs,h3,?_⟩;rw [Z08,lps,Z18] at t3;rw [C3h hy,en];exact t3
  ·rintro Z H2 ⟨o3,o4,o5,q,rfl,s2,hq,c2⟩;rw [Z08,Z18] at c2;exact i02 _ rfl (k q H2 hq s2 c2)
def C6r:Sp:=λvs H Q _=>∃(v:V) (d:Addr) (ix:List (Str×Int)) (ak:List (Key×V)) (ρ:Env),vs=[v,.ref d]/\Rep H v (A5w ix)/\H d=some (.dK ak)/\(∀x,(A9o ak (Sum.inr x)).getD (.int 0)= .int (ρ x))/\ix.length<=1000/\∀(q:Addr) (H':Hp),A1c H H'->H' q=some (.tup ((B4g ρ ix).map V.int))->Q (.ref q) H'
theorem C6k (T:Txt K mg t):FO P w base T.s_ 1 C6r:=by
 refine T.s_.F.ok A8e (by walk_at "ln") λ_ A _ s H _ Q E hr h=> ?_
 ·obtain ⟨v,d,ix,ak,ρ,rfl,rp,hd,hρ,l1,k⟩:=h;have hu:=A7r hr;refine i02 _ (@A0c _ _ _ _ _ (@A0l _ _ 2 _ _ _ _ A8e.nd rfl (.inl rfl) (A1n A0d) rfl (.inl rfl)) (@A0c _ _ _ _ _ (A2y PassesOwn.never rfl (A2g (pv 0)) (A3z (n:=2) rfl (A0y (A0m (i:=3) A8e.nd rfl (.inl rfl)) (A0y (A0m (i:=4) A8e.nd rfl (.inl rfl)) A2v))) (@A0g _ _ _ (@A0l _ _ 2 _ _ _ _ A8e.nd rfl (.inl rfl) (A0o B6e (pv 2) (A1n (A0a (A0o A2h (C2e hu (pv 1) (pv 3) A0e ⟨rfl,rfl,rfl,rfl⟩) (pv 4)) A0d))) rfl (.inl rfl)))) (@A0g _ _ _ (@A0s _ _ _ _ (pv 2))))) ?_;refine ⟨A0t rfl,λe he=> ?_⟩;obtain ⟨l,iv,rfl,hx,rs⟩:=A5g (show Rep H v (.list (ix.map B4a)) from rp);have lxs:=rs.len;rw [Z08] at lxs;have s1:A1c H (upd H e (.tup [])):=A0f he;refine i0k _ rfl l rfl ⟨_,SqL.of (s1 _ _ hx)⟩ (A3f (K:=K) (a:=l) (xs:=iv) (λi Z H2=>∃(o3 o4:Option V) (q:Addr),Z=[Sro l,Sro d,Sro q,o3,o4]/\A1c H H2/\H2 q=some (.tup ((B4g ρ (ix.take i)).map V.int))) (i0m none none e rfl s1 A0b) (by rintro i Z H2 _ ⟨_,_,_,_,s2,_⟩;exact SqL.of (s2 _ _ hx)) ?_ ?_)
  ·rintro i x Z H2 hy ⟨o3,o4,q,rfl,s2,hq⟩;have hi:i<iv.length:=(Z03.mp hy).1;obtain ⟨te,hte,ry⟩:=B5s rs hy;obtain ⟨b,rfl,eb⟩:=D0a ry;refine i19 b _ rfl (SqT.of (s2 _ _ eb)) rfl _ _ rfl _ _ rfl rfl (i02 _ rfl (i0k _ rfl d rfl (.inl ⟨_,.inl (s2 _ _ hd)⟩) (i12 _ rfl _ (B0j.k (k:=Sum.inr te.1) (s2 _ _ hd)) _ rfl _ _ (hρ te.1) rfl ⟨A0t rfl,λu hu'=> ?_⟩)));have s3:A1c H2 (upd H2 u (.tup [V.int (ρ te.1+te.2)])):=A0f hu';refine i11 q u _ _ rfl rfl (s3 _ _ hq) A0b (A2a (by simp [B4g];lia)) λq' H3 s4 hq'=>(i0m _ _ q' rfl (s2.trans (s3.trans s4)) ?_);rw [hq',Z14,hte];simp [B4g]
  ·rintro Z H2 ⟨o3,o4,q,rfl,s2,hq⟩;rw [lxs,Z18] at hq;exact i02 _ rfl (k q H2 s2 hq)
theorem C1f:∀{i:Nat} {xs ys:List Int} {x y:Int},xs.take i=ys.take i->xs[i]? =some x->ys[i]? =some y->¬x=y->(B0f xs ys↔x<y)
 | 0,a::as,b::bs,x,y,_,hx,hy,n=>by
  cases hx;cases hy
  exact ⟨λh=>h.elim id λh=>absurd h.1 n,λh=> .inl h⟩
 | i+1,a::as,b::bs,x,y,ht,hx,hy,n=>by
  have e:a=b/\as.take i=bs.take i:=by simpa using ht
  have ih:=C1f e.2 (by simpa using hx) (by simpa using hy) n;rw [<-ih];exact ⟨λh=>h.elim (λz=>absurd z (by lia)) (·.2),λh=> .inr ⟨e.1,h⟩⟩
 | _,[],_,_,_,_,hx,_,_=>by simp at hx
 | _,_::_,[],_,_,_,_,hy,_=>by simp at hy
theorem B4z:∀{xs:List Int},¬B0f xs xs
 | [],h=>h
 | a::as,h=>h.elim (λz=>by lia) λz=>B4z z.2
def C4e:Sp:=λvs H Q _=>∃(p q:Addr) (xs ys:List Int),vs=[.ref p,.ref q]/\H p=some (.tup (xs.map V.int))/\H q=some (.tup (ys.map V.int))/\xs.length=ys.length/\xs.length<=1000/\∀b:Bool,(b=true↔B0f xs ys)->Q (.bl b) H
theorem C3y (T:Txt K mg t):FO P w base T.qp 1 C4e:=by
 refine T.qp.F.ok B4t (by walk_at "ln") λ_ A _ s H _ Q E hr h=> ?_
 ·obtain ⟨p,q,xs,ys,rfl,hp,hq,le,l1,k⟩:=h;have hu:=A7r hr;refine i02 _ (@A0c _ _ _ _ _ (A2y PassesOwn.never rfl (A4d rfl T.dw (A0a (A0u A0v (by rfl) T.b_ Z0r (A0a (pv 0) A0d)) A0d)) (A0m (i:=2) B4t.nd rfl (.inl rfl)) (@A0g _ _ _ (@A1v _ _ _ _ _ _ _ _ (A0q D0t (A1f A1g (pv 0) (pv 2) (λ_ _=>rfl)) (A1f A1g (pv 1) (pv 2) (λ_ _=>rfl)) (A1a _)) (@A0g _ _ _ (@A0s _ _ _ _ (B3s B5e (A1f A1g (pv 0) (pv 2) (λ_ _=>rfl)) (A1f A1g (pv 1) (pv 2) (λ_ _=>rfl)) (A1a _)))) A0x))) (@A0g _ _ _ (@A0s _ _ _ _ B9w))) ?_;refine i0n _ rfl p _ rfl (.inr (SqT.of hp)) (i0c _ rfl (by simp) (by simp;lia) ?_);refine A4q (n:=((xs.map V.int).length:Int).toNat) (λi Z H2=>H=H2/\∃o2:Option V,Z=[Sro p,Sro q,o2]/\xs.take i=ys.take i) (i05 rfl none rfl rfl) ?_ ?_
  ·rintro i Z H2 hi ⟨rfl,o2,rfl,ht⟩;rw [Int.toNat_natCast,Z08] at hi;rw [Int.zero_add];have hx:xs[i]? =some xs[i]:=Z0b hi;have hy:ys[i]? =some ys[i]:=Z0b (by lia);have ex:atI (xs.map V.int) (i:Int)=some (.int xs[i]):=A3g (by rw [Z1z,hx];rfl);have ey:atI (ys.map V.int) (i:Int)=some (.int ys[i]):=A3g (by rw [Z1z,hy];rfl);generalize xs[i]=x at hx ex;generalize ys[i]=y at hy ey;refine i17 _ rfl _ rfl p _ _ _ rfl rfl (SqT.of hp) ex (i02 _ rfl (i1b _ rfl q _ _ _ rfl rfl (SqT.of hq) ey rfl _ rfl ?_));refine C9f (c:=V.int x=V.int y) (λhne=> ?_) (λhq2=> ?_)
   ·have nx:¬x=y:=λz=>hne (by rw [z]);refine i17 _ rfl _ rfl p _ _ _ rfl rfl (SqT.of hp) ex (i17 _ rfl _ rfl q _ _ _ rfl rfl (SqT.of hq) ey (i0f _ _ rfl rfl (k _ ?_)));rw [C1f ht hx hy nx];exact decide_eq_true_iff
   ·refine i05 rfl _ rfl ?_;rw [Z14,Z14,hx,hy,ht,V.int.inj hq2]
  ·rintro Z H2 ⟨rfl,o2,rfl,ht⟩
   have e:xs=ys:=by
    have a1:xs.take ((xs.map V.int).length:Int).toNat=xs:=Z2l (by simp);have a2:ys.take ((xs.map V.int).length:Int).toNat=ys:=Z2l (by simp;lia);rw [a1,a2] at ht;exact ht
   exact k false ⟨(λz=>by cases z),(λz=>by rw [e] at z;exact absurd z B4z)⟩
theorem kit3 {v:Value} {c:Addr} {b1 b2 b3:Bool} (h1:kitOne K v (.ref c)=some b1) (h2:kitOne K v (.ref d)=some b2) (h3:kitOne K v (.ref f)=some b3):∀us,A3y ([V.ref c,V.ref d,V.ref f]) us->kitAny K v us=some (b1||b2||b3):=λus r=>by
 cases r with
 | cons a r =>
  cases a
  unfold kitAny;rw [h1]
  cases b1 with
  | true=>rfl
  | false =>
   have:=D9z h2 h3 _ r;cases b2 <;> cases b3 <;> exact this
def eqO:Op3->Op3->Bool
 | .plus,.plus=>true
 | .minus,.minus=>true
 | .times,.times=>true
 | _,_=>false
structure PK (K:Frag) (t:Adr) (o:Op3):Prop where
 c2:findIn K (.ref (A5y t o)) "__class__"=some (some (.builtin "object.__class__"))
 c3:specialIn K (.builtin "object.__class__") "__get__"=some (some (.builtin "getset_descriptor.__get__"))
 c4:takesIn K (.builtin "object.__class__")=some true
 c5:mroIn K (A5y t o) (.type "object")=some true
 n:kitOne K (.ref (A5y t o)) (.ref t.ab)=some false
 p:kitOne K (.ref (A5y t o)) (.ref t.ai)=some false
 r:kitOne K (.ref (A5y t o)) (.ref t.ah)=some false
 g:kitOne K (.ref (A5y t o)) (.ref t.af)=some false
 k1:kitOne K (.ref (A5y t o)) (.ref t.a_)=some (eqO o .plus)
 k2:kitOne K (.ref (A5y t o)) (.ref t.am)=some (eqO o .minus)
 k3:kitOne K (.ref (A5y t o)) (.ref t.ao)=some (eqO o .times)
theorem E0f {K:Frag} {mg:Str->Option Value} {t:Adr} (T:Txt K mg t):∀o,PK K t o
 | .plus=>⟨T.cf.ha,T.cf.hn,T.cf.htk,T.cf.hm,T.uc,T.ma,T.qa,T.n8,T.v_,T.uu,T.ux⟩
 | .minus=>⟨T.bu.ha,T.bu.hn,T.bu.htk,T.bu.hm,T.rk,T.kq,T.mf,T.ky,T.vi,T.tz,T.ud⟩
 | .times=>⟨T.bv.ha,T.bv.hn,T.bv.htk,T.bv.hm,T.rn,T.jv,T.mq,T.kl,T.uz,T.t_,T.ue⟩
def A7s (A:Adr) (n:Nat):Sp:=λvs H Q _=>∃(v:V) (u:Tm),vs=[v]/\Ob A H v u/\nsM u/\TmW u/\dep u<=n/\∀(v':V) (H':Hp),A1c H H'->Rep H' v' (A2c u)->Q v' H'
theorem noN (h:Rep H v (A2c u)):¬v= .non:=λz=>by
 obtain ⟨q,vs,e,_⟩:=B3t h;rw [e] at z;cases z
theorem D4q (T:Txt K mg t) (Ge7:A3h P w K mg base CX0 m t.iu t.ie C3z (A7s t n)):A3h P w K mg base CX0 (m+1) t.iu t.ie C3z (A7s t (n+1)):=by
 refine T.dz.F.ok A5d (by walk_at "ln") λ_ A _ s H _ Q E hr h=> ?_
 ·obtain ⟨v,u,rfl,ob,ns,wu,hd,k⟩:=h;refine i02 _ (@A0c _ _ _ _ _ (@A1v _ _ _ _ _ _ _ _ (A2t (A0u A1j (by rfl) T.ae Z0d (A0a (pv 0) (A0a (A3a (v:=V.ref t.ab) rfl T.pf rfl) A0d)))) (@A0g _ _ _ (@A0s _ _ _ _ (A1n (A0a A1m (A0a (A1h (pv 0) rfl) A0d))))) A0x) (@A0c _ _ _ _ _ (@A1v _ _ _ _ _ _ _ _ (A2t (A0u A1j (by rfl) T.ae Z0d (A0a (pv 0) (A0a (A3a (v:=V.ref t.ai) rfl T.wn rfl) A0d)))) (@A0g _ _ _ (@A0s _ _ _ _ (A1n (A0a A1m (A0a (A1h (pv 0) rfl) A0d))))) A0x) (@A0c _ _ _ _ _ (@A1v _ _ _ _ _ _ _ _ (A2t (A0u A1j (by rfl) T.ae Z0d (A0a (pv 0) (A0a (A3a (v:=V.ref t.ah) rfl T.ww rfl) A0d)))) (@A0g _ _ _ (@A0s _ _ _ _ (A1n (A0a A1m (A0a (A1h (pv 0) rfl) (A0a (A4e (N':=["_law_axis","_law_shift"]) (ix:=(List.replicate 2 none)) (g:=D2y K 2 (A9u (A6x 0) (A9u (A6x 1) D4n))) rfl (A2s rfl (by decide +kernel) (by decide +kernel)) (A2r rfl) (A2g (A1h (pv 0) rfl)) (λ_ _ _ _=>(A3z (n:=2) rfl (A0y (A0m (i:=0) B4s rfl (.inl rfl)) (A0y (A0m (i:=1) B4s rfl (.inl rfl)) A2v)))) (λ_ _ _ _=>(A1n (A0a (pv 0) (A0a (pv 1) A0d))))) A0d)))))) A0x) (@A0c _ _ _ _ _ (@A1v _ _ _ _ _ _ _ _ (A2t (A0u A1j (by rfl) T.ae Z0d (A0a (pv 0) (A0a (A3a (v:=V.ref t.af) rfl T.m7 rfl) A0d)))) (@A0c _ _ _ _ _ (@A0l _ _ 1 _ _ _ _ A5d.nd rfl (.inl rfl) (pcl Ge7 hr T.dz (A0a (A1h (pv 0) rfl) A0d)) rfl (.inl rfl)) (@A0c _ _ _ _ _ (@A0l _ _ 2 _ _ _ _ A5d.nd rfl (.inl rfl) (pcl Ge7 hr T.dz (A0a (A1h (pv 0) rfl) A0d)) rfl (.inl rfl)) (@A0c _ _ _ _ _ (@A1v _ _ _ _ _ _ _ _ (PW.pt (A8z (A0q B8g (pv 1) A6p (A1a _)) (A8d (A0q B8g (pv 2) A6p (A1a _))))) (@A0g _ _ _ (@A0s _ _ _ _ A6p)) A0x) (@A0g _ _ _ (@A0s _ _ _ _ (A1n (A0a A1m (A0a (A1h (pv 0) rfl) (A0a (A1h (pv 0) rfl) (A0a (A1h (pv 0) rfl) (A0a (pv 1) (A0a (pv 2) A0d)))))))))))) A0x) (@A0c _ _ _ _ _ (@A1v _ _ _ _ _ _ _ _ (C7n (A2t (A0u B0o (by rfl) T.ae Z0d (A0a (pv 0) (A0a (A1n (A0a (A3a (v:=V.ref t.a_) rfl T.wq rfl) (A0a (A3a (v:=V.ref t.am) rfl T.sv rfl) (A0a (A3a (v:=V.ref t.ao) rfl T.wv rfl) A0d)))) A0d))))) (@A0g _ _ _ (@A0s _ _ _ _ A6p)) A0x) (@A0c _ _ _ _ _ (@A0l _ _ 3 _ _ _ _ A5d.nd rfl (.inl rfl) (pcl Ge7 hr T.dz (A0a (A1h (pv 0) rfl) A0d)) rfl (.inl rfl)) (@A0c _ _ _ _ _ (@A0l _ _ 4 _ _ _ _ A5d.nd rfl (.inl rfl) (pcl Ge7 hr T.dz (A0a (A1h (pv 0) rfl) A0d)) rfl (.inl rfl)) (@A0c _ _ _ _ _ (@A1v _ _ _ _ _ _ _ _ (PW.pt (A8z (A0q B8g (pv 3) A6p (A1a _)) (A8d (A0q B8g (pv 4) A6p (A1a _))))) (@A0g _ _ _ (@A0s _ _ _ _ A6p)) A0x) (@A0c _ _ _ _ _ (@A1v _ _ _ _ _ _ _ _ (A2t (A0u A1j (by rfl) T.ae Z0d (A0a (pv 0) (A0a (A3a (v:=V.ref t.a_) rfl T.wq rfl) A0d)))) (@A0g _ _ _ (@A0s _ _ _ _ (A1n (A0a A1m (A0a (pv 3) (A0a (pv 4) A0d)))))) A0x) (@A0c _ _ _ _ _ (@A1v _ _ _ _ _ _ _ _ (A2t (A0u A1j (by rfl) T.ae Z0d (A0a (pv 0) (A0a (A3a (v:=V.ref t.am) rfl T.sv rfl) A0d)))) (@A0g _ _ _ (@A0s _ _ _ _ (A1n (A0a A1m (A0a (pv 3) (A0a (pv 4) A0d)))))) A0x) (@A0g _ _ _ (@A0s _ _ _ _ (A1n (A0a A1m (A0a (pv 3) (A0a (pv 4) A0d)))))))))))))))) ?_
  cases ob with
  | @num a dx z e =>
   have ty:A8j K H (.ref a) (.ref t.ab):= .ins e T.cy T.aw.ha T.aw.hn T.aw.htk T.aw.hm;refine i16 _ rfl _ _ _ _ rfl ty (A1k T.qm) true rfl (A5z ?_);exact i18 _ rfl a _ dx _ _ rfl e T.cy T.df (by walk_at "lk") ⟨A0t rfl,λq hq=>k _ _ (A0f hq) (C1r A0b)⟩
  | @place a dx x e =>
   have ty:A8j K H (.ref a) (.ref t.ai):= .ins e T.ft T.bf.ha T.bf.hn T.bf.htk T.bf.hm;refine i16 _ rfl _ _ _ _ rfl ty (A1k T.r_) false rfl (A2o ?_);refine i16 _ rfl _ _ _ _ rfl ty (A1k T.kh) true rfl (A5z ?_);exact i18 _ rfl a _ dx _ _ rfl e T.ft T.i_ (by walk_at "lk") ⟨A0t rfl,λq hq=>k _ _ (A0f hq) (B2a A0b)⟩
  | @read a dx l x ix e ri =>
   have ty:A8j K H (.ref a) (.ref t.ah):= .ins e T.ff T.br.ha T.br.hn T.br.htk T.br.hm;refine i16 _ rfl _ _ _ _ rfl ty (A1k T.uh) false rfl (A2o ?_);refine i16 _ rfl _ _ _ _ rfl ty (A1k T.mn) false rfl (A2o ?_);refine i16 _ rfl _ _ _ _ rfl ty (A1k T.oz) true rfl (A5z ?_);obtain ⟨l2,iv,el,hl,rs⟩:=A5g (show Rep H (.ref l) (.list (ix.map B4a)) from ri);cases el;have lxs:=rs.len;rw [Z08] at lxs;have l12:=wu.2.1;refine i18 _ rfl a _ dx _ _ rfl e T.ff T.n0 (by walk_at "lk") (i18 _ rfl a _ dx _ _ rfl e T.ff T.f_ (by walk_at "lk") (i06 l rfl ⟨_,SqL.of hl⟩ λD hD=> ?_));refine A3k (K:=K) (a:=l) (D:=D) (xs:=iv) (λi zs H2=>A1c H H2/\H2 D=some (.lst zs)/\Paired (λ(v:V) (e:Str×Int)=>∃q,v= .ref q/\q≠D/\H2 q=some (.tup [.str e.1,.int e.2])) zs (ix.take i)) (i00 (A0f hD) A0b .nil) (λi zs H2 ⟨s2,_⟩=>SqL.of (s2 _ _ hl)) ?_ ?_
   ·rintro i y zs H2 hy ⟨s2,hD2,pj⟩;have hi:i<iv.length:=(Z03.mp hy).1;obtain ⟨te,hte,ry⟩:=B5s rs hy;obtain ⟨b,rfl,eb⟩:=D0a ry;have lz:=Paired.length pj;rw [Z0x] at lz;refine i19 b _ rfl (SqT.of (s2 _ _ eb)) rfl _ _ rfl _ _ rfl rfl ?_;refine ⟨True.intro,(i0k _ rfl _ rfl (A0t rfl) λtp htp=> ?_)⟩;have sT:=A0f (o:= .tup [.str te.1,.int te.2]) htp;have tD:tp≠D:=λz=>by rw [z,hD2] at htp;cases htp
    refine i09 (sT _ _ hD2) (A1s (by lia)) (A0r (s2.trans sT) hD) A0b ?_;rw [Z14,hte];refine B1t (Paired.mapP pj λv e ⟨q,e1,e2,e3⟩=>(i06 q e1 e2 (by rw [A0k e2];exact sT _ _ e3))) (.cons (i06 tp rfl tD (by rw [A0k tD];exact A0b)) .nil)
   ·rintro zs H2 ⟨s2,hD2,pj⟩;rw [lxs,Z18] at pj;refine ⟨A0t rfl,λq hq=> ?_⟩;have s3:=A0f (o:= .tup [.str "read",.str x,.ref D]) hq;exact k _ _ (s2.trans s3) (B9x A0b ((Rep.lst hD2 (B0n (Paired.mapP pj λv e ⟨q,e1,e2,e3⟩=>(i02 q e1 e3)))).same s3))
  | sum e _=>exact ns.elim
  | @guard a dx x lo hi v1 v2 l r e o1 o2 =>
   have ty:A8j K H (.ref a) (.ref t.af):= .ins e T.ba T.be.ha T.be.hn T.be.htk T.be.hm;simp only [dep] at hd;refine i16 _ rfl _ _ _ _ rfl ty (A1k T.rj) false rfl (A2o ?_);refine i16 _ rfl _ _ _ _ rfl ty (A1k T.kj) false rfl (A2o ?_);refine i16 _ rfl _ _ _ _ rfl ty (A1k T.ml) false rfl (A2o ?_);refine i16 _ rfl _ _ _ _ rfl ty (A1k T.h_) true rfl (A5z ?_);refine i18 _ rfl a _ dx _ _ rfl e T.ba T.g_ (by walk_at "lk") (i0s v1 l rfl o1 ns.1 wu.2.2.2.1 (by lia) λw1 H1 s1 r1=> ?_);refine i18 _ rfl a _ dx _ _ rfl (s1 _ _ e) T.ba T.gn (by walk_at "lk") (i0s v2 r rfl (o2.imp s1) ns.2 wu.2.2.2.2 (by lia) λw2 H2 s2 r2=> ?_);have s12:=s1.trans s2;have e2:=s12 _ _ e;refine i0j _ rfl rfl _ rfl (A4v (λh=>absurd h (noN r1)) (λ_=>(i0j _ rfl rfl _ rfl (A4v (λh=>absurd h (noN r2)) (λ_=> ?_)))));refine i18 _ rfl a _ dx _ _ rfl e2 T.ba T.fg (by walk_at "lk") (i18 _ rfl a _ dx _ _ rfl e2 T.ba T.j9 (by walk_at "lk") (i18 _ rfl a _ dx _ _ rfl e2 T.ba T.j6 (by walk_at "lk") (i0k _ rfl _ rfl (A0t rfl) λq hq=> ?_)));have s3:=A0f (o:= .tup [.str "guard",.str x,.int lo,.int hi,w1,w2]) hq;exact k _ _ (s12.trans s3) (A8k A0b (r1.same (s2.trans s3)) (r2.same s3))
  | @pair a dx kk v1 v2 l r e o1 o2 =>
   have pk:=E0f T kk;have ty:A8j K H (.ref a) (.ref (A5y t kk)):= .ins e (A6t T kk) pk.c2 pk.c3 pk.c4 pk.c5;simp only [dep] at hd;refine i16 _ rfl _ _ _ _ rfl ty (A1k pk.n) false rfl (A2o ?_);refine i16 _ rfl _ _ _ _ rfl ty (A1k pk.p) false rfl (A2o ?_);refine i16 _ rfl _ _ _ _ rfl ty (A1k pk.r) false rfl (A2o ?_);refine i16 _ rfl _ _ _ _ rfl ty (A1k pk.g) false rfl (A2o ?_);refine i06 _ rfl (A0t rfl) λtp htp=> ?_;obtain ⟨H0,s0,h0,eNH⟩:=nH (o:= .tup [.ref t.a_,.ref t.am,.ref t.ao]) htp
   try rw [eNH]
   have e0:=s0 _ _ e;have tt:(eqO kk .plus||eqO kk .minus||eqO kk .times)=true:=by cases kk <;> rfl
   refine ⟨a,(i1c _ dx _ tp _ _ rfl e0 (A6t T kk) pk.c2 pk.c3 pk.c4 pk.c5 (i0a h0 (kit3 pk.k1 pk.k2 pk.k3) _ rfl ?_))⟩;rw [tt];refine A2o ?_;refine i18 _ rfl a _ dx _ _ rfl e0 (A6t T kk) (B8b T kk) (by walk_at "lk") (i0s v1 l rfl (o1.imp s0) ns.1 wu.1 (by lia) λw1 H1 s1 r1=> ?_);have e1:=s1 _ _ e0;refine i18 _ rfl a _ dx _ _ rfl e1 (A6t T kk) (B7w T kk) (by walk_at "lk") (i0s v2 r rfl (o2.imp (s0.trans s1)) ns.2 wu.2 (by lia) λw2 H2 s2 r2=> ?_);have s12:=(s0.trans s1).trans s2;have e2:=s2 _ _ e1;refine i0j _ rfl rfl _ rfl (A4v (λh=>absurd h (noN r1)) (λ_=>(i0j _ rfl rfl _ rfl (A4v (λh=>absurd h (noN r2)) (λ_=> ?_)))));have ty2:A8j K H2 (.ref a) (.ref (A5y t kk)):= .ins e2 (A6t T kk) pk.c2 pk.c3 pk.c4 pk.c5
   have fin:∀(o:Op3) (q:Addr),kk=o->H2 q=none->Q (.ref q) (upd H2 q (.tup [.str (opS o),w1,w2])):=by
    intro o q eo hq;subst eo;have s3:=A0f (o:= .tup [.str (opS kk),w1,w2]) hq;exact k _ _ (s12.trans s3) (B5q A0b (r1.same (s2.trans s3)) (r2.same s3))
   cases kk with
   | plus =>
    refine i16 _ rfl _ _ _ _ rfl ty2 (A1k pk.k1) true rfl (A5z ?_);exact i0k _ rfl _ rfl (A0t rfl) λq hq=>fin .plus q rfl hq
   | minus =>
    refine i16 _ rfl _ _ _ _ rfl ty2 (A1k pk.k1) false rfl (A2o ?_);refine i16 _ rfl _ _ _ _ rfl ty2 (A1k pk.k2) true rfl (A5z ?_);exact i0k _ rfl _ rfl (A0t rfl) λq hq=>fin .minus q rfl hq
   | times =>
    refine i16 _ rfl _ _ _ _ rfl ty2 (A1k pk.k1) false rfl (A2o ?_);refine i16 _ rfl _ _ _ _ rfl ty2 (A1k pk.k2) false rfl (A2o ?_);exact i0k _ rfl _ rfl (A0t rfl) λq hq=>fin .times q rfl hq
theorem D7f (T:Txt K mg t):∀n:Nat,A3h P w K mg base CX0 (n+2) t.iu t.ie C3z (A7s t n)
 | 0=>A3h.none (by rintro vs H Q E ⟨v,u,_,_,_,_,h,_⟩;have:=A5x u;lia)
 | n+1=>D4q T (D7f T n)
abbrev LkP (H:Hp) (v:V) (e:Str×List Int):Prop:=∃p c,v= .ref p/\H p=some (.tup [.str e.1,.ref c])/\H c=some (.tup (e.2.map V.int))
theorem LkP.same (s:A1c H H') {vs:List V} {es:List (Str×List Int)} (h:Paired (LkP H) vs es):Paired (LkP H') vs es:=Paired.mapP h λ_ _ ⟨p,c,e1,e2,e3⟩=>(i0f p c e1 (s _ _ e2) (s _ _ e3))
structure D4w (H:Hp) (q:Addr) (es:List (Str×List Int)):Prop where
 ex:∃vs,H q=some (.lst vs)/\Paired (LkP H) vs es
theorem A6q {ρ:Env}:∀u:Tm,(A3d ρ u).length<=nod u
 | .num z=>by simp [A3d]
 | .place y=>by simp [A3d]
 | .read a ix=>by simp [A3d,nod]
 | .sum _ _=>by simp [A3d]
 | .pair k l r=>by
  have:=A6q (ρ:=ρ) l;have:=A6q (ρ:=ρ) r;simp only [A3d,nod,Z06]
  lia
 | .guard y lo hi l r=>by
  have:=A6q (ρ:=ρ) l;have:=A6q (ρ:=ρ) r;simp only [A3d,nod];split <;> lia
structure D5w (H:Hp) (d:Addr) (sc:List Str) (ρ:Env):Prop where
 ex:∃ak:List (Key×V),H d=some (.dK ak)/\(∀x,(A9o ak (Sum.inr x)).getD (.int 0)= .int (ρ x))/\∀x∈sc,A9o ak (Sum.inr x)=some (.int (ρ x))
theorem D5w.same {ρ:Env} (h:D5w H d sc ρ) (s:A1c H H'):D5w H' d sc ρ :=
 let ⟨ak,e,r⟩:=h.ex
 ⟨ak,s _ _ e,r⟩
def B0u (n:Nat):Sp:=λvs H Q _=>∃(v:V) (d:Addr) (u:Tm) (sc:List Str) (ρ:Env),vs=[v,.ref d]/\Rep H v (A2c u)/\D5w H d sc ρ/\nsM u/\A6i [] sc u/\TmW u/\dep u<=n/\nod u<=1000/\∀(q:Addr) (H':Hp),H q=none->A1c H H'->D4w H' q (A3d ρ u)->Q (.ref q) H'
theorem D3p (T:Txt K mg t) (hm:1<=m) (Ge8:A3h P w K mg base CX0 m t.l_ t.lq C3d (B0u n)):A3h P w K mg base CX0 (m+1) t.l_ t.lq C3d (B0u (n+1)):=by
 have Ge9:= @C6k P w K mg base t T;refine T.gf.F.ok C3o (by walk_at "ln") λ_ A _ s H _ Q E hr h=> ?_
 ·obtain ⟨v,d,u,sc,ρ,rfl,rp,at0,ns,ti,wu,du,ku,k⟩:=h;have hu:=A7r hr;refine i02 _ (@A0c _ _ _ _ _ (@A1v _ _ _ _ _ _ _ _ (A0q A2x (A1f A1g (pv 0) A0e (λ_ _=>rfl)) A1m (A1a _)) (@A0g _ _ _ (@A0s _ _ _ _ (@A1z _ _ _ _ (A0a (A1n (A0a (A1f A1g (pv 0) A0e (λ_ _=>rfl)) (A0a (pcl Ge9 hr T.s_ (A0a (A1f A1g (pv 0) A0e (λ_ _=>rfl)) (A0a (pv 1) A0d))) A0d))) A0d)))) A0x) (@A0c _ _ _ _ _ (@A1v _ _ _ _ _ _ _ _ (A0q A2x (A1f A1g (pv 0) A0e (λ_ _=>rfl)) A1m (A1a _)) (@A0c _ _ _ _ _ (@A1v _ _ _ _ _ _ _ _ (C9y C9g B5e (A1f A1g (pv 0) A0e (λ_ _=>rfl)) (A4b hu (pv 1) (A1f A1g (pv 0) A0e (λ_ _=>rfl)) (λ_ _=>rfl)) (A1f A1g (pv 0) A0e (λ_ _=>rfl))) (@A0g _ _ _ (@A0s _ _ _ _ (pcl Ge8 hr T.gf (A0a (A1f A1g (pv 0) A0e (λ_ _=>rfl)) (A0a (pv 1) A0d))))) A0x) (@A0g _ _ _ (@A0s _ _ _ _ (pcl Ge8 hr T.gf (A0a (A1f A1g (pv 0) A0e (λ_ _=>rfl)) (A0a (pv 1) A0d)))))) A0x) (@A0c _ _ _ _ _ (@A1v _ _ _ _ _ _ _ _ (PW.pt (A8z (A0q A2x (A1f A1g (pv 0) A0e (λ_ _=>rfl)) A1m (A1a _)) (A8d (A0q A2x (A1f A1g (pv 0) A0e (λ_ _=>rfl)) A1m (A1a _))))) (@A0g _ _ _ (@A0s _ _ _ _ (@A1z _ _ _ _ A0d))) A0x) (@A0g _ _ _ (@A0s _ _ _ _ (A0o A8r (pcl Ge8 hr T.gf (A0a (A1f A1g (pv 0) A0e (λ_ _=>rfl)) (A0a (pv 1) A0d))) (pcl Ge8 hr T.gf (A0a (A1f A1g (pv 0) A0e (λ_ _=>rfl)) (A0a (pv 1) A0d))))))))) ?_
  cases u with
  | sum _ _=>exact ns.elim
  | read a ix =>
   obtain ⟨q,l,iv,rfl,e,el,rs⟩:=C1u (x:=a) (ix:=ix) rp;have e:=SqT.of (K:=K) e;obtain ⟨ak,hd,hρ,_⟩:=at0.ex;have wix:=wu.2.1;refine i1b _ rfl q _ _ _ rfl rfl e rfl rfl _ rfl (A4v (λ_=> ?_) (λh=>absurd rfl h));refine i13 _ rfl q _ _ _ rfl rfl e rfl (i13 _ rfl q _ _ _ rfl rfl e rfl (i18 _ rfl (.ref l) d ix ak ρ rfl (.lst el rs) hd hρ (by lia) λc H1 s1 hc=> ?_));refine ⟨A0t rfl,λp hp=>⟨A0t rfl,λL hL=> ?_⟩⟩;have s2:=A0f (o:= .tup [.str a,.ref c]) hp;have s3:=A0f (o:= .lst [.ref p]) hL;exact k L _ ((s1.trans s2).free hL) (s1.trans (s2.trans s3)) ⟨_,A0b,.cons (i0f p c rfl (s3 _ _ A0b) (s3 _ _ (s2 _ _ hc))) .nil⟩
  | num z =>
   obtain ⟨q,rfl,e⟩:=C6l (z:=z) rp;have e:=SqT.of (K:=K) e;refine i1b _ rfl q _ _ _ rfl rfl e rfl rfl _ rfl (A4v (λh=>sne h (by decide +kernel)) (λ_=> ?_));refine i1b _ rfl q _ _ _ rfl rfl e rfl rfl _ rfl (A4v (λh=>sne h (by decide +kernel)) (λ_=> ?_));refine i1b _ rfl q _ _ _ rfl rfl e rfl rfl _ rfl (A4v (λ_=> ?_) (λh=>absurd rfl h));exact A5z ⟨A0t rfl,λl hl=>k l _ hl (A0f hl) ⟨_,A0b,.nil⟩⟩
  | place z =>
   obtain ⟨q,rfl,e⟩:=B8z (x:=z) rp;have e:=SqT.of (K:=K) e;refine i1b _ rfl q _ _ _ rfl rfl e rfl rfl _ rfl (A4v (λh=>sne h (by decide +kernel)) (λ_=> ?_));refine i1b _ rfl q _ _ _ rfl rfl e rfl rfl _ rfl (A4v (λh=>sne h (by decide +kernel)) (λ_=> ?_));refine i1b _ rfl q _ _ _ rfl rfl e rfl rfl _ rfl (A4v (λh=>sne h (by decide +kernel)) (λ_=> ?_));refine i1b _ rfl q _ _ _ rfl rfl e rfl rfl _ rfl (A4v (λ_=> ?_) (λh=>absurd rfl h));exact ⟨A0t rfl,λl hl=>k l _ hl (A0f hl) ⟨_,A0b,.nil⟩⟩
  | guard x lo hi l r =>
   obtain ⟨q,a,b,rfl,e,ra,rb⟩:=B0e rp;have e1:=SqT.of (K:=K) e;simp only [dep] at du;simp only [nod] at ku;obtain ⟨ak,hd,hρ,hs⟩:=at0.ex;have gk:=B0j.k (H:=H) (a:=d) (k:=Sum.inr x) hd;rw [hs x ti.1] at gk;have fl:lo<=ρ x/\ρ x<hi->A3d ρ (.guard x lo hi l r)=A3d ρ l:=λh=>Z12 h;have fr:¬(lo<=ρ x/\ρ x<hi)->A3d ρ (.guard x lo hi l r)=A3d ρ r:=λh=>Z0t h;refine i1b _ rfl q _ _ _ rfl rfl e1 rfl rfl _ rfl (A4v (λh=>sne h (by decide +kernel)) (λ_=> ?_));refine i1b _ rfl q _ _ _ rfl rfl e1 rfl rfl _ rfl (A4v (λ_=> ?_) (λh=>absurd rfl h));refine i13 _ rfl q _ _ _ rfl rfl e1 rfl (i17 _ rfl _ rfl q _ _ _ rfl rfl e1 rfl (i0f d _ rfl gk (i0p _ _ rfl rfl _ rfl (A4v (λh1=> ?_) (λh1=> ?_)))))
   ·refine i13 _ rfl q _ _ _ rfl rfl e1 rfl (i0p _ _ rfl rfl _ rfl (A4v (λh2=> ?_) (λh2=> ?_)))
    ·exact i13 _ rfl q _ _ _ rfl rfl e1 rfl (i18 _ rfl a d l sc ρ rfl ra at0 ns.1 ti.2.1 (i04 wu.2.2.2.1 (by lia) (by lia) λq1 H1 hq1 s1 l1=>k q1 H1 hq1 s1 (by rw [fl ⟨h1,h2⟩];exact l1)))
    ·exact i13 _ rfl q _ _ _ rfl rfl e1 rfl (i18 _ rfl b d r sc ρ rfl rb at0 ns.2 ti.2.2 (i04 wu.2.2.2.2 (by lia) (by lia) λq1 H1 hq1 s1 l1=>k q1 H1 hq1 s1 (by rw [fr λz=>h2 z.2];exact l1)))
   ·exact i02 _ rfl (A2o (i13 _ rfl q _ _ _ rfl rfl e1 rfl (i18 _ rfl b d r sc ρ rfl rb at0 ns.2 ti.2.2 (i04 wu.2.2.2.2 (by lia) (by lia) λq1 H1 hq1 s1 l1=>k q1 H1 hq1 s1 (by rw [fr λz=>h1 z.1];exact l1)))))
  | pair o l r =>
   obtain ⟨q,a,b,rfl,e,ra,rb⟩:=B5l rp;have e1:=SqT.of (K:=K) e;simp only [dep] at du;simp only [nod] at ku;have tn:¬opS o="number"/\¬opS o="place"/\¬opS o="read"/\¬opS o="guard":=by cases o <;> exact i04 (by decide +kernel) (by decide +kernel) (by decide +kernel) (by decide +kernel)
   have ll:=A6q (ρ:=ρ) l;have lr:=A6q (ρ:=ρ) r;refine i1b _ rfl q _ _ _ rfl rfl e1 rfl rfl _ rfl (A4v (λh=>sne h tn.2.2.1) (λ_=> ?_));refine i1b _ rfl q _ _ _ rfl rfl e1 rfl rfl _ rfl (A4v (λh=>sne h tn.2.2.2) (λ_=> ?_));refine i1b _ rfl q _ _ _ rfl rfl e1 rfl rfl _ rfl (A4v (λh=>sne h tn.1) (λ_=> ?_));refine i1b _ rfl q _ _ _ rfl rfl e1 rfl rfl _ rfl (A4v (λh=>sne h tn.2.1) (λ_=> ?_));refine i13 _ rfl q _ _ _ rfl rfl e1 rfl (i18 _ rfl a d l sc ρ rfl ra at0 ns.1 ti.1 (i04 wu.1 (by lia) (by lia) λq1 H1 hq1 s1 l1=> ?_));refine i13 _ rfl q _ _ _ rfl rfl (SqT.of (s1 _ _ e)) rfl (i18 _ rfl b d r sc ρ rfl (rb.same s1) (at0.same s1) ns.2 ti.2 (i04 wu.2 (by lia) (by lia) λq2 H2 hq2 s2 l2=> ?_));obtain ⟨v1,a1,p1⟩:=l1.ex;obtain ⟨v2,a2,p2⟩:=l2.ex;have g1:=Paired.length p1;have g2:=Paired.length p2;refine i11 q1 q2 _ _ rfl rfl (s2 _ _ a1) a2 (A2a (by lia)) λc hc=> ?_;have s3:=A0f (o:= .lst (v1++v2)) hc;exact k c _ ((s1.trans s2).free hc) (s1.trans (s2.trans s3)) ⟨_,A0b,B1t (LkP.same (s2.trans s3) p1) (LkP.same s3 p2)⟩
theorem D6q (T:Txt K mg t):∀n:Nat,A3h P w K mg base CX0 (n+2) t.l_ t.lq C3d (B0u n)
 | 0=>A3h.none (by rintro vs H Q E ⟨v,d,u,_,_,_,_,_,_,_,_,h,_⟩;have:=A5x u;lia)
 | n+1=>D3p T (by lia) (D6q T n)
def LnN (nm:List Str) (e:Ln):Prop:=(e.2.1++e.2.2.1).Nodup/\∀x∈e.2.1++e.2.2.1,x∈nm
theorem B8k {nm:List Str} (ndm:nm.Nodup) (np:pend.Nodup) (sp:∀x∈pend,x∈nm) (h:∀e∈r.2.2,LnN nm e):∀e∈(fin nm pend g r).2.2,LnN nm e:=by
 cases pend with
 | nil=>exact h
 | cons x s =>
  intro e he;rcases Z07.mp he with he | he
  ·exact h e he
  ·rw [Z0w.mp he];refine ⟨Z0l.mpr (i00 (ndm.sublist List.filter_sublist) np λa ha b hb eab=> ?_),λy hy=> ?_⟩
   ·have:=(List.mem_filter.mp ha).2;rw [Z1x] at this;exact of_decide_eq_true this.2 (eab▸hb)
   ·rcases Z07.mp hy with hy | hy
    ·exact (List.mem_filter.mp hy).1
    ·exact sp y hy
theorem C3n {nm:List Str} (ndm:nm.Nodup):∀(u:Tm) (sc pend:List Str) (g:List Gd) (z:LS),A6i nm (sc++pend) u->pend.Nodup->(∀x∈pend,x∈nm)->(∀e∈z.2,LnN nm e)->∀e∈(wsP nm u pend g z).2.2,LnN nm e
 | .num _,_,_,_,_,_,np,sp,h=>B8k (r:=(.num _,_)) ndm np sp h
 | .place _,_,_,_,_,_,np,sp,h=>B8k (r:=(.place _,_)) ndm np sp h
 | .read _ _,_,_,_,_,_,np,sp,h=>B8k (r:=(.read _ _,_)) ndm np sp h
 | .sum x b,sc,pend,g,z,ti,np,sp,h=>by
  refine C3n ndm b sc (pend++[x]) g z (by rw [<-Z0z];exact ti.2.2) (Z0l.mpr (i00 np (by simp) λa ha b hb e=> ?_)) (λy hy=> ?_) h
  ·rw [Z0w.mp hb] at e;exact ti.2.1 (Z07.mpr (.inr (e▸ha)))
  ·rcases Z07.mp hy with hy | hy
   ·exact sp y hy
   ·rw [Z0w.mp hy];exact ti.1
 | .pair k l r,sc,pend,g,z,ti,np,sp,h=>B8k (r:=(.pair _ _ _,_)) ndm np sp (C3n ndm r (sc++pend) [] _ _ (by rw [Z0u];exact ti.2) .nil (λx hx=>by cases hx) (C3n ndm l (sc++pend) [] _ _ (by rw [Z0u];exact ti.1) .nil (λx hx=>by cases hx) h))
 | .guard x lo hi l r,sc,pend,g,z,ti,np,sp,h=>B8k (r:=(.guard _ _ _ _ _,_)) ndm np sp (C3n ndm r (sc++pend) [] _ _ (by rw [Z0u];exact ti.2.2) .nil (λx hx=>by cases hx) (C3n ndm l (sc++pend) [] _ _ (by rw [Z0u];exact ti.2.1) .nil (λx hx=>by cases hx) h))
theorem D7o {lk:List (Key×V)} {tb:List (Str×List Str)} {nm:List Str} {ls:List Lt} (ndm:nm.Nodup) (hs:∀(j:Nat) (e:Lt),ls[j]? =some e->LtS lk nm (tb++D2u (ls.take j)) e):∀i,i<=ls.length->∀e∈(duP nm (ls.take i)).2,LnN nm e
 | 0,_=>λe he=>by cases he
 | i+1,hi=>by
  have hle:ls[i]? =some ls[i]:=Z0b (by lia);have ih:=D7o ndm hs i (by lia);obtain ⟨sums,u,et,nds,sub,lz⟩:=(hs i _ hle).ex;rw [B2c hle];generalize ls[i]=e at et nds sub lz;generalize duP nm (ls.take i)=z at ih;have t0:A6i nm e.2.1 e.2.2:=by rw [et];exact C0i lz.ti nds λx hx=>sub x (Z07.mpr (.inr hx))
  obtain ⟨t1,t2,t3⟩:=C7y t0 (Z0l.mp nds).1;intro f hf;rcases Z07.mp hf with hf | hf
  ·exact C3n ndm (inS e.2.2) (e.2.1++A3o e.2.2) [] [] z (by rw [Z0u];exact t1) .nil (λx hx=>by cases hx) ih f hf
  ·rw [Z0w.mp hf];refine ⟨t3,λx hx=> ?_⟩;rcases Z07.mp hx with hx | hx
   ·exact sub x (Z07.mpr (.inl hx))
   ·exact t2 x hx
def B6o:List Str->List Int->Env
 | x::xs,c::cs=>λy=>if y=x then c else B6o xs cs y
 | _,_=>λ_=>0
theorem C7w:∀{xs:List Str} {cs:List Int},xs.Nodup->cs.length=xs.length->xs.map (B6o xs cs)=cs
 | [],[],_,_=>rfl
 | x::xs,c::cs,n,l=>by
  have n2:=Z15.mp n;rw [Z0p];congr 1
  ·show (if x=x then c else _)=c;rw [Z12 rfl]
  ·have h:∀y∈xs,B6o (x::xs) (c::cs) y=B6o xs cs y:=λy hy=>by
    show (if y=x then c else B6o xs cs y)=_;rw [Z0t λe:y=x=>n2.1 (e▸hy)]
   rw [List.map_congr_left h];exact C7w n2.2 (Nat.succ.inj l)
theorem B5b:∀{xs:List Str} {cs:List Int} {y:Str},y∉xs->B6o xs cs y=0
 | [],_,_,_=>rfl
 | _::_,[],_,_=>rfl
 | x::xs,c::cs,y,h=>by
  show (if y=x then c else B6o xs cs y)=0;rw [Z0t λe:y=x=>h (e▸.head _)];exact B5b λhy=>h (.tail _ hy)
theorem D1p {L:Str->Int}:∀{xs:List Str} {cs:List Int},inC L xs cs->∀x∈xs,0<=B6o xs cs x/\B6o xs cs x<L x
 | x::xs,c::cs,h,y,hy=>by
  show 0<=(if y=x then c else B6o xs cs y)/\(if y=x then c else B6o xs cs y)<L y;by_cases e:y=x
  ·rw [Z12 e,e];exact h.1
  ·rw [Z0t e];rcases Z0e.mp hy with hy | hy
   ·exact absurd hy e
   ·exact D1p h.2 y hy
theorem C5o {L:Str->Int}:∀{xs:List Str} {cs:List Int} {ys:List Str} {ds:List Int},inC L xs cs->inC L ys ds->inC L (xs++ys) (cs++ds)
 | [],[],_,_,_,h=>h
 | _::_,_::_,_,_,h,k=>⟨h.1,C5o h.2 k⟩
theorem C0x {L:Str->Int} {M:Int} (hM:1<=M):∀{xs:List Str},(∀x∈xs,1<=L x/\L x<=M)->A1r L xs<=M^xs.length
 | [],_=>by show (1:Int)<=M^0;rw [Int.pow_zero];decide
 | x::xs,h=>by
  have a:=h x (.head _);have b:=C0x hM λy hy=>h y (.tail _ hy);have c:=A3v (L:=L) (xs:=xs) λy hy=>(h y (.tail _ hy)).1;show L x*A1r L xs<=M^(xs.length+1);rw [Int.pow_succ,Int.mul_comm];exact Int.mul_le_mul b a.2 (by lia) (by lia)
theorem D9j (h:AxL ax) {e:Str×Int} (he:e∈ax):lnL (A2i ax) e.1=e.2:=by
 obtain ⟨i,hi,ei⟩:=List.mem_iff_getElem.mp he;refine A6u (C1i (i:=i) ?_ ?_)
 ·have ks:(A2i ax).map (·.1)=(ax.map (·.1)).map (Sum.inr:Str->Key):=by unfold A2i;rw [List.map_map,List.map_map];rfl
  rw [ks];exact h.2.2.1.map (f:=(Sum.inr:Str->Key)) λa b hab z=>hab (Sum.inr.inj z)
 ·unfold A2i;rw [Z1z,Z0b hi,ei];rfl
theorem D4l (h:AxL ax) (b:Bd ax.length ax):A1r (lnL (A2i ax)) (ax.map (·.1))<=8000:=by
 have ha:=λe he=>D9j h (e:=e) he;have h1:=h.1;have h8:=h.2.2.2;generalize lnL (A2i ax)=L at ha
 cases ax with
 | nil=>show (1:Int)<=8000;decide
 | cons e r =>
  have e60:=(h1 e (.head _))
  have hr:∀x∈r.map (·.1),1<=L x/\L x<=mxL (r.length+1):=λx hx=>by
   obtain ⟨f,hf,rfl⟩:=Z2c.mp hx;rw [ha f (.tail _ hf)];obtain ⟨i,hi,ei⟩:=List.mem_iff_getElem.mp hf;exact ⟨(h1 f (.tail _ hf)).1,b (i+1) f (by rw [List.getElem?_cons_succ,Z0b hi,ei]) (by lia)⟩
  have p1:=A3v (L:=L) (xs:=r.map (·.1)) λx hx=>(hr x hx).1;have p2:=C0x (by unfold mxL;split <;> decide) hr;rw [Z08] at p2
  have p3:mxL (r.length+1)^r.length<=128:=by
   have l7:r.length<=7:=by simp at h8;lia
   generalize r.length=n at l7;unfold mxL;have:∀n:Nat,n<8->(if 4<n+1 then (2:Int) else 4)^n<=128:=by decide
   exact this n (by lia)
  show L e.1*A1r L (r.map (·.1))<=8000;rw [ha e (.head _)];have:=Int.mul_le_mul e60.2 (Int.le_trans p2 p3) (by lia) (by decide)
  lia
def vD:V->PyData
 | .int z=> .int z
 | _=> .int 0
def kfI (H:Hp):V->PyData
 | .ref b=>(match H b with | some (.tup xs)=> .tuple (xs.map vD) | _=> .int 0)
 | _=> .int 0
theorem C5w {b:Addr} (h:H b=some (.tup (c.map V.int))):kfI H (.ref b)= .tuple (c.map PyData.int):=by
 show (match H b with | some (.tup xs)=>PyData.tuple (xs.map vD) | _=> .int 0)=_
 rw [h];show PyData.tuple ((c.map V.int).map vD)=_;rw [List.map_map];rfl
theorem D2k {ns ms:List Int}:PyData.eqv (.tuple (ns.map PyData.int)) (.tuple (ms.map PyData.int))=decide (ns=ms):=by
 rw [PyData.eqv];exact PySem.W.ked_eqvAll ns ms
theorem C2k:∀(ns:List Int),PyData.canLayAll0 (ns.map PyData.int)=true
 | []=>rfl
 | _::ns=>by simp [PyData.canLayAll0,PyData.canLay0,C2k ns]
theorem C1v:∀(ns:List Int),PyData.depthAll (ns.map PyData.int)<=0
 | []=>by simp [PyData.depthAll]
 | _::ns=>by have:=C1v ns;simp [PyData.depthAll,PyData.depth];lia
theorem B4p (ns:List Int):SeqAt.shaped (.tuple (ns.map PyData.int))=true:=C7j (by simp [PyData.canLay0,C2k ns]) (by have:=C1v ns;simp [PyData.depth];lia)
theorem B2g {H:Hp}:∀(ns:List Int),A4w H (ns.map V.int) (ns.map PyData.int)
 | []=> .nil
 | _::ns=> .cons (.int _) (B2g ns)
theorem B7g {H:Hp} {c:List Int}:∀{ps:List Addr} {cs:List (List Int)},A4t H ps cs->((ps.map V.ref).any λv=>PyData.eqv (kfI H v) (.tuple (c.map PyData.int)))=decide (c∈cs)
 | _,_,.nil=>rfl
 | p::ps,d::cs,.cons r t=>by
  rw [Z0p,List.any_cons,B7g t,C5w r,D2k];by_cases h1:d=c
  ·simp [h1]
  ·have:¬c=d:=λz=>h1 z.symm;simp [h1,this]
theorem B3f {q:Addr} {Q:VK} (hc:A4m H q cs) (hp:H p=some (.tup (c.map V.int))) (h:Q (.bl (! decide (c∈cs))) H):C6y K (.ref p) (.ref q) H Q:=by
 obtain ⟨ps,hq,tp⟩:=hc.ex;refine i11 q (ps.map V.ref) (kfI H) (.tuple (c.map PyData.int)) rfl (SqL.of hq) (.tup hp (B2g c)) (B4p c) (λv hv=> ?_) ?_
 ·obtain ⟨b,hb,rfl⟩:=Z2c.mp hv;obtain ⟨i,hi,ei⟩:=List.mem_iff_getElem.mp hb;obtain ⟨d,_,hd⟩:=tp.get (show ps[i]? =some b by rw [Z0b hi,ei]);exact i06 b rfl (by rw [C5w hd];exact .tup hd (B2g d)) (by rw [C5w hd];exact B4p d)
 ·rw [B7g tp];exact h
theorem C0g:∀{xs:List Str} {cs:List Int} (y:Str),cs.length=xs.length->A9o ((xs.map (Sum.inr:Str->Key)).zip (cs.map V.int)) (Sum.inr y)=if y∈xs then some (.int (B6o xs cs y)) else none
 | [],[],_,_=>rfl
 | x::xs,c::cs,y,l=>by
  have ih:=C0g y (Nat.succ.inj l);unfold A9o at ih⊢;rw [Z0p,Z0p,List.zip_cons_cons,Z2h];by_cases e:y=x
  ·subst e;simp [B6o]
  ·have e2:¬(Sum.inr x:Key)=Sum.inr y:=λz=>e (Sum.inr.inj z).symm;rw [Z1j e2];show _=if y∈x::xs then some (V.int (if y=x then c else B6o xs cs y)) else none
   rw [Z0t e];simp only [Z0e,e,false_or];exact ih
theorem D5j {xs:List Str} {cs:List Int} (n:xs.Nodup) (l:cs.length=xs.length) (h:H d=some (.dK (A4h [] ((xs.map (Sum.inr:Str->Key)).zip (cs.map V.int))))):D5w H d xs (B6o xs cs):=by
 have nk:(((xs.map (Sum.inr:Str->Key)).zip (cs.map V.int)).map (·.1)).Nodup:=by
  have:((xs.map (Sum.inr:Str->Key)).zip (cs.map V.int)).map (·.1)=xs.map Sum.inr:=List.map_fst_zip (by simp [l]);rw [this];exact n.map (f:=(Sum.inr:Str->Key)) λa b hab z=>hab (Sum.inr.inj z)
 rw [B2k nk] at h;refine ⟨_,h,λx=> ?_,λx hx=> ?_⟩
 ·rw [C0g x l];by_cases hx:x∈xs
  ·rw [Z12 hx];rfl
  ·rw [Z0t hx,B5b hx];rfl
 ·rw [C0g x l,Z12 hx]
structure KnD (H:Hp) (L:Str->Int) (kd:Addr) (es:List (Str×List Str)):Prop where
 ex:∃kk:List (Key×V),H kd=some (.dK kk)/\Paired (λ(p:Key×V) (e:Str×List Str)=>p.1=Sum.inr e.1/\∃q,p.2= .ref q/\A4m H q (A4i L e.2)) kk es
theorem KnD.same (h:KnD H L kd es) (s:A1c H H'):KnD H' L kd es:=by
 obtain ⟨kk,e,p⟩:=h.ex;exact ⟨kk,s _ _ e,Paired.mapP p λ_ _ ⟨a,q,b,c⟩=>(i05 a q b (c.same s))⟩
theorem B5h {H:Hp} {L:Str->Int}:∀{kk:List (Key×V)} {es:List (Str×List Str)},Paired (λ(p:Key×V) (e:Str×List Str)=>p.1=Sum.inr e.1/\∃q,p.2= .ref q/\A4m H q (A4i L e.2)) kk es->kk.map (·.1)=(es.map (·.1)).map Sum.inr
 | _,_,.nil=>rfl
 | _,_,.cons r t=>by rw [Z0p,Z0p,Z0p,r.1,B5h t]
theorem KnD.val (h:KnD H L kd es) (n:(es.map (·.1)).Nodup) (he:e∈es):∃q,B0j H kd (.str e.1) (some (.ref q))/\A4m H q (A4i L e.2):=by
 obtain ⟨kk,hk,p⟩:=h.ex;obtain ⟨i,hi,ei⟩:=List.mem_iff_getElem.mp he;have lp:=Paired.length p;have hkk:kk[i]? =some kk[i]:=Z0b (by lia);obtain ⟨f,hf,a,q,b,c⟩:=B3x p hkk;rw [Z0b hi,ei] at hf;cases hf;refine i02 q ?_ c;have nk:(kk.map (·.1)).Nodup:=by rw [B5h p];exact n.map (f:=(Sum.inr:Str->Key)) λa b hab z=>hab (Sum.inr.inj z)
 have v:=C1i (k:=Sum.inr e.1) (v:= .ref q) nk (by rw [hkk,<-a,<-b]);have g:=B0j.k (H:=H) (a:=kd) (k:=Sum.inr e.1) hk;rw [v] at g;exact g
structure GdE (lk:List (Key×V)) (es:List (Str×List Str)) (e:Ln):Prop where
 dk:B1j lk (e.2.1++e.2.2.1)
 pa:A1r (lnL lk) e.2.1<=8000
 ps:A1r (lnL lk) e.2.2.1<=8000
 la:e.2.1.length<=100
 ls:e.2.2.1.length<=100
 nd:(e.2.1++e.2.2.1).Nodup
 ne:¬("":Str)∈e.2.1++e.2.2.1
 ns:nsM e.2.2.2
 ti:A6i [] (e.2.1++e.2.2.1) e.2.2.2
 w:TmW e.2.2.2
 d:dep e.2.2.2<=40
 n:nod e.2.2.2<=1000
 lk:∀ρ:Env,InR (lnL lk) (e.2.1++e.2.2.1) ρ->(∀x,x∉e.2.1++e.2.2.1->ρ x=0)->∀p∈A3d ρ e.2.2.2,(∃f∈es,f.1=p.1/\inC (lnL lk) f.2 p.2)\/(p.1=e.1/\inC (lnL lk) e.2.1 p.2/\B0f p.2 (e.2.1.map ρ))
 nn:¬e.1∈es.map (·.1)
 en:(es.map (·.1)).Nodup
def C5u (A:Adr):Sp:=λvs H Q _=>∃(lv tv:V) (kd d:Addr) (e:Ln) (es:List (Str×List Str)) (lk:List (Key×V)),vs=[lv,tv,.ref kd,.ref d]/\D2q A H lv e/\Rep H tv (A2c e.2.2.2)/\KnD H (lnL lk) kd es/\H d=some (.dK lk)/\GdE lk es e/\∀H',A1c H H'->Q (.bl true) H'
theorem B4b (T:Txt K mg t):FO P w base T.j7 44 (C5u t):=by
 have Gf0:= @A9v P w K mg base t T;have Gf1:= @C3y P w K mg base t T;have Ge8:= @D6q P w K mg base t T 41;refine T.j7.F.ok A3m (by walk_at "ln") λ_ A _ s H _ Q E hr h=> ?_
 ·obtain ⟨lv,tv,kd,d,e,es,lk,rfl,ln,rp,kn,hd,g,k⟩:=h;have hu:=A7r hr;obtain ⟨a,dx,ca,cs,nv,rfl,ha,hca,hcs,_⟩:=ln;refine i02 _ (@A0c _ _ _ _ _ (@A0l _ _ 4 _ _ _ _ A3m.nd rfl (.inl rfl) (pcl Gf0 hr T.cz (A0a (A1h (pv 0) rfl) (A0a (pv 3) A0d))) rfl (.inl rfl)) (@A0c _ _ _ _ _ (A2y PassesOwn.never rfl (A2g (pv 4)) (A0m (i:=5) A3m.nd rfl (.inl rfl)) (@A0g _ _ _ (A2y PassesOwn.never rfl (A2g (pcl Gf0 hr T.cz (A0a (A1h (pv 0) rfl) (A0a (pv 3) A0d)))) (A0m (i:=6) A3m.nd rfl (.inl rfl)) (@A0g _ _ _ (A2y PassesOwn.never rfl (A2g (pcl Ge8 hr T.gf (A0a (pv 1) (A0a (C4h rfl (by rfl) T.nq (by rfl) T.Be (A0a (A0o A8r (A1h (pv 0) rfl) (A1h (pv 0) rfl)) (A0a (A0o B6e (pv 5) (pv 6)) A0d))) A0d)))) (A3z (n:=2) rfl (A0y (A0m (i:=7) A3m.nd rfl (.inl rfl)) (A0y (A0m (i:=8) A3m.nd rfl (.inl rfl)) A2v))) (@A0g _ _ _ (@A1v _ _ _ _ _ _ _ _ (A0q A2x (pv 7) (A1h (pv 0) rfl) (A1a _)) (@A0g _ _ _ (@A1v _ _ _ _ _ _ _ _ (PW.pt (A8z (A0q (B7s (E1a hr)) (pv 8) (pv 4) (by with_unfolding_all rfl)) (A8d (C7n (A2t (pcl Gf1 hr T.qp (A0a (pv 8) (A0a (pv 5) A0d)))))))) (@A0g _ _ _ (@A0s _ _ _ _ B9w)) A0x)) (@A0g _ _ _ (@A1v _ _ _ _ _ _ _ _ (PW.pt (A8z (D1l (C6i hu (pv 7) (pv 2)) (by with_unfolding_all rfl)) (A8d (A0q (B7s (E1a hr)) (pv 8) (A4b hu (pv 2) (pv 7) (λ_ _=>rfl)) (by with_unfolding_all rfl))))) (@A0g _ _ _ (@A0s _ _ _ _ B9w)) A0x))))))))) (@A0g _ _ _ (@A0s _ _ _ _ B9w)))) ?_;refine i18 _ rfl a _ dx _ _ rfl ha T.bw T.d_ (by walk_at "lk") (i15 _ rfl ca d e.2.1 lk rfl hca hd (λy hy=>g.dk y (Z07.mpr (.inl hy))) (by have:=g.pa;lia) ⟨g.la,λq H1 hq s1 c1=> ?_⟩);obtain ⟨ps,hq1,tp⟩:=c1.ex;refine i0k _ rfl q rfl ⟨_,SqL.of hq1⟩ (A3f (K:=K) (a:=q) (xs:=ps.map V.ref) (λi Z H2=>∃(o5 o6 o7 o8:Option V),Z=[Sro a,some tv,Sro kd,Sro d,Sro q,o5,o6,o7,o8]/\A1c H1 H2) ⟨none,(i0g none none none rfl (A1c.refl _))⟩ (by rintro i Z H2 _ ⟨_,_,_,_,_,s2⟩;exact SqL.of (s2 _ _ hq1)) ?_ ?_)
  ·rintro i y Z H2 hi ⟨o5,o6,o7,o8,rfl,s2⟩;obtain ⟨pc,hpc,rfl⟩:=A7c hi;obtain ⟨c,hc,hpt⟩:=tp.get hpc;have cin:=A8a.mp (Z13 hc);have cl:=B2e cin;have s12:=s1.trans s2;refine i18 _ rfl a _ dx _ _ rfl (s12 _ _ ha) T.bw T.e8 (by walk_at "lk") (i15 _ rfl cs d e.2.2.1 lk rfl (s12 _ _ hcs) (s12 _ _ hd) (λy hy=>g.dk y (Z07.mpr (.inr hy))) (by have:=g.ps;lia) ⟨g.ls,λq2 H3 hq2 s3 c3=> ?_⟩);obtain ⟨ps2,hq3,tp2⟩:=c3.ex;refine i06 q2 rfl ⟨_,SqL.of hq3⟩ (A3f (K:=K) (a:=q2) (xs:=ps2.map V.ref) (λi Z H4=>∃(o6 o7 o8:Option V),Z=[Sro a,some tv,Sro kd,Sro d,Sro q,Sro pc,o6,o7,o8]/\A1c H3 H4) (i0g _ _ _ rfl (A1c.refl _)) (by rintro i Z H2 _ ⟨_,_,_,_,s2⟩;exact SqL.of (s2 _ _ hq3)) ?_ ?_)
   ·rintro i2 y Z H4 hi2 ⟨o6,o7,o8,rfl,s4⟩;obtain ⟨pc2,hpc2,rfl⟩:=A7c hi2;obtain ⟨c2,hc2,hpt2⟩:=tp2.get hpc2;have cin2:=A8a.mp (Z13 hc2);have cl2:=B2e cin2;have s14:=s12.trans (s3.trans s4);have la:=g.la;have ls:=g.ls;refine i02 _ rfl (i18 _ rfl a _ dx _ _ rfl (s14 _ _ ha) T.bw T.d_ (by walk_at "lk") (i18 _ rfl a _ dx _ _ rfl (s14 _ _ ha) T.bw T.e8 (by walk_at "lk") (i11 ca cs _ _ rfl rfl (s14 _ _ hca) (s14 _ _ hcs) (A2a (by simp;lia)) λcc hcc=> ?_)));have s5:=A0f (o:= .lst (e.2.1.map V.str++e.2.2.1.map V.str)) hcc;have h5:upd H4 cc (.lst (e.2.1.map V.str++e.2.2.1.map V.str)) cc=some (.lst (e.2.1.map V.str++e.2.2.1.map V.str)):=A0b;generalize upd H4 cc (.lst (e.2.1.map V.str++e.2.2.1.map V.str))=H5 at s5 h5;have s15:=s14.trans s5;refine i1a _ rfl _ rfl pc pc2 _ _ rfl rfl (s5 _ _ (s4 _ _ (s3 _ _ (s2 _ _ hpt)))) (s5 _ _ (s4 _ _ hpt2)) (A2a (by simp;lia)) λpz H6 s6 hpz=> ?_;have ek:e.2.1.map V.str++e.2.2.1.map V.str=((e.2.1++e.2.2.1).map (Sum.inr:Str->Key)).map kV:=by rw [List.map_map,Z0s];rfl
    have eu:c.map V.int++c2.map V.int=(c++c2).map V.int:=by rw [Z0s]
    rw [ek] at h5;rw [eu] at hpz;have lz:(c++c2).length=(e.2.1++e.2.2.1).length:=by rw [Z06,Z06,cl,cl2]
    refine i0y cc pz ((e.2.1++e.2.2.1).map Sum.inr) ((c++c2).map V.int) rfl (SqL.of (s6 _ _ h5)) (SqT.of hpz) (by rw [Z08,Z08,lz]) λdd hdd=> ?_;have s7:=A0f (o:= .dK (A4h [] (((e.2.1++e.2.2.1).map (Sum.inr:Str->Key)).zip ((c++c2).map V.int)))) hdd;have at7:=D5j g.nd lz (A0b (H:=H6) (a:=dd) (o:= .dK (A4h [] (((e.2.1++e.2.2.1).map (Sum.inr:Str->Key)).zip ((c++c2).map V.int)))));generalize upd H6 dd (.dK (A4h [] (((e.2.1++e.2.2.1).map (Sum.inr:Str->Key)).zip ((c++c2).map V.int))))=H7 at s7 at7;have s17:=s15.trans (s6.trans s7);have gd:=g.d;refine i14 tv dd e.2.2.2 (e.2.1++e.2.2.1) (B6o (e.2.1++e.2.2.1) (c++c2)) rfl (rp.same s17) at7 g.ns g.ti (i04 g.w (by lia) g.n λql H8 hql s8 l8=> ?_);have s18:=s17.trans s8;have s48:=s5.trans (s6.trans (s7.trans s8));obtain ⟨lvs,hl8,pl8⟩:=l8.ex;have lkk:=g.lk (B6o (e.2.1++e.2.2.1) (c++c2)) ⟨B5b g.ne,D1p (C5o cin cin2)⟩ λx hx=>B5b hx
    have emap:e.2.1.map (B6o (e.2.1++e.2.2.1) (c++c2))=c:=by
     have:=C7w g.nd lz;rw [Z0s] at this;exact (List.append_inj this (by rw [Z08,cl])).1
    rw [emap] at lkk;refine i06 ql rfl ⟨_,SqL.of hl8⟩ (A3f (K:=K) (a:=ql) (xs:=lvs) (λi Z H9=>H8=H9/\∃(o7 o8:Option V),Z=[Sro a,some tv,Sro kd,Sro d,Sro q,Sro pc,Sro pc2,o7,o8]) ⟨rfl,(i03 _ _ rfl)⟩ (by rintro i Z H9 _ ⟨rfl,_⟩;exact SqL.of hl8) ?_ ?_)
    ·rintro i3 y Z H9 hi3 ⟨rfl,o7,o8,rfl⟩;obtain ⟨f,hf,pp,pcl,rfl,hpp,hpcl⟩:=B3x pl8 hi3;have lf:=lkk f (Z13 hf);refine i19 pp _ rfl (SqT.of hpp) rfl _ _ rfl _ _ rfl rfl ?_;refine i02 _ rfl (i18 _ rfl a _ dx _ _ rfl (s18 _ _ ha) T.bw T.c_ (by walk_at "lk") (i05 rfl _ rfl (A4v (λhe=> ?_) (λhe=> ?_))))
     ·have he:f.1=e.1:=V.str.inj he;obtain ⟨_,f2,f3⟩:=lf.resolve_left λ⟨x,hx,e1,_⟩=>g.nn (Z2c.mpr (i02 x hx (e1.trans he)));refine i0e _ rfl _ rfl (B3f (c1.same (s2.trans (s3.trans (s4.trans s48)))) hpcl (i02 _ rfl ?_));rw [Z20 (A8a.mpr f2)];refine A2o ?_;have fl:=B2e f2;refine i1a _ rfl _ rfl pcl pc f.2 c rfl hpcl (s48 _ _ (s4 _ _ (s3 _ _ (s2 _ _ hpt)))) (by lia) (by lia) λb hb=>(i02 _ rfl ?_);rw [hb.mpr f3];exact A2o ⟨rfl,(i03 _ _ rfl)⟩
     ·have he:¬f.1=e.1:=λz=>he (by rw [z]);obtain ⟨x,hx,e1,f2⟩:=lf.resolve_right λz=>he z.1;obtain ⟨qx,dg,cx⟩:=(kn.same s18).val g.en hx;rw [e1] at dg;refine i0e _ rfl _ rfl (i0p kd _ rfl dg _ rfl (A2o ?_));refine i12 _ rfl _ rfl _ rfl kd _ rfl dg (B3f cx hpcl (i02 _ rfl ?_));rw [Z20 (A8a.mpr f2)];exact A2o ⟨rfl,(i03 _ _ rfl)⟩
    ·rintro Z H9 ⟨rfl,o7,o8,rfl⟩;exact i0g _ _ _ rfl (s4.trans s48)
   ·rintro Z H4 ⟨o6,o7,o8,rfl,s4⟩;exact ⟨_,(i0g _ _ _ rfl (s2.trans (s3.trans s4)))⟩
  ·rintro Z H2 ⟨o5,o6,o7,o8,rfl,s2⟩;exact k H2 (s1.trans s2)
theorem B6u {z:Int} (h:A8q lk ys z):z=A1r (lnL lk) ys:=by
 induction h with
 | nil=>rfl
 | @snoc ys y z n _ e ih =>
  rw [A4j,<-ih];show z*n=z*(lnL lk y*1);rw [A6u e,Int.mul_one]
theorem B3z.same (h:B3z H p ax tb ls) (s:A1c H H'):B3z H' p ax tb ls:=by
 refine e09 h.ob ?_;rintro wh d tl ll ol ⟨tvs,lvs,o,e1,e2,e3,e4,e5,e6,e7⟩;exact ⟨(i1d wh d tl ll ol tvs lvs o (s _ _ e1) (s _ _ e2) (s _ _ e3) (Paired.mapP e4 λ_ _ z=>z.same s) (s _ _ e5) (Paired.mapP e6 λ_ _ z=>z.same s) (s _ _ e7)),h.hx,h.t,h.l,h.ok,h.sf,h.nd,h.ng,h.pb⟩
theorem D9e.lt {e:Lt} (h:D9e lk e):D3e e:=⟨h.l1,by have:=h.l3;lia,λx hx=>(h.n x hx).1,h.w,by have:=h.d;lia,h.k⟩
theorem B3z.pr (h:B3z H p ax tb ls) (ho:os.length<=100):D6i ax tb ls os:=by
 obtain ⟨_,_,_,_,_,_,_,_,_,_,_,ptb,_⟩:=h.ob;refine ⟨h.hx.2.2.1,⟨by have:=h.hx.2.2.2;rw [Z08];lia,λx hx=>(h.hx.2.1 x hx).1⟩,by have:=h.t;lia,λe he=> ?_,h.l,λe he=>(h.ok e he).lt,ho⟩;obtain ⟨x,q,al,_,_,_,_,l3,_⟩:=D7n ptb e he
 lia
theorem B3z.dk (h:B3z H p ax tb ls):B1j (A2i ax) (ax.map (·.1)):=by
 obtain ⟨wh,d,tl,ll,ol,tvs,lvs,o,e1,e2,_⟩:=h.ob;exact (D6g e2 h.hx).dk
theorem B3z.axs (h:B3z H p ax tb ls) (n:ys.Nodup) (sub:∀x∈ys,x∈ax.map (·.1)):A1r (lnL (A2i ax)) ys<=8000:=by
 refine Int.le_trans (B5u n sub λx hx=> ?_) (D4l h.hx h.pb);obtain ⟨m,e,m1,_⟩:=h.dk x hx;rw [A6u e];exact m1
def C8a:Sp:=λvs H Q _=>∃(p:Addr) (ax:List (Str×Int)) (tb:List (Str×List Str)) (ls:List Lt),vs=[.ref p]/\B3z H p ax tb ls/\Q (.int (wkM (lnL (A2i ax)) ls)) H
theorem C5d (T:Txt K mg t):FO P w base T.u7 25 C8a:=by
 have Gc6:= @A8g P w K mg base t T;have Gd2:= @B3q P w K mg base t T 23;refine T.u7.F.ok A3u (by walk_at "ln") λ_ A _ s H _ Q E hr h=> ?_
 ·obtain ⟨p,ax,tb,ls,rfl,pg,k⟩:=h;refine e09 pg.ob ?_;rintro wh d tl ll ol ⟨tvs,lvs,o0,hp,hd,htl,ptb,hll,pls,hol⟩;have lls:=Paired.length pls;refine i02 _ (@A0c _ _ _ _ _ (A9r (pv 0) (A3z (n:=5) rfl (A0y (A0m (i:=1) A3u.nd rfl (.inl rfl)) (A0y (A0m (i:=2) A3u.nd rfl (.inl rfl)) (A0y (A0m (i:=3) A3u.nd rfl (.inl rfl)) (A0y (A0m (i:=4) A3u.nd rfl (.inl rfl)) (A0y (A0m (i:=5) A3u.nd rfl (.inl rfl)) A2v))))))) (@A0c _ _ _ _ _ (@A0l _ _ 6 _ _ _ _ A3u.nd rfl (.inl rfl) A0e rfl (.inl rfl)) (@A0c _ _ _ _ _ (A2y PassesOwn.never rfl (A2g (pv 4)) (A3z (n:=3) rfl (A0y (A0m (i:=7) A3u.nd rfl (.inl rfl)) (A0y (A0m (i:=8) A3u.nd rfl (.inl rfl)) (A0y (A0m (i:=9) A3u.nd rfl (.inl rfl)) A2v)))) (@A0g _ _ _ (@A0l _ _ 6 _ _ _ _ A3u.nd rfl (.inl rfl) (A0o A2h (pv 6) (A0o A7n (pcl Gc6 hr T.ib (A0a (pv 8) (A0a (pv 2) A0d))) (pcl Gd2 hr T.dy (A0a (pv 9) (A0a (pv 2) A0d))))) rfl (.inl rfl)))) (@A0g _ _ _ (@A0s _ _ _ _ (pv 6)))))) ?_;refine i0n _ rfl p _ rfl (SqT.of hp) (i0b rfl _ _ rfl (i03 _ _ (i0b rfl _ _ rfl ⟨_,(i0n _ rfl _ _ rfl rfl ?_)⟩)));refine i0k _ rfl ll rfl ⟨_,SqL.of hll⟩ (A3f (K:=K) (a:=ll) (xs:=lvs) (λi Z H2=>H=H2/\∃(o7 o8 o9:Option V),Z=[Sro p,Sio wh,Sro d,Sro tl,Sro ll,Sro ol,Sio (wkM (lnL (A2i ax)) (ls.take i)),o7,o8,o9]) ⟨rfl,(i08 none none none rfl)⟩ (by rintro i Z H2 _ ⟨rfl,_⟩;exact SqL.of hll) ?_ ?_)
  ·rintro i x Z H2 hx ⟨rfl,o7,o8,o9,rfl⟩;obtain ⟨e,he,q,al,tv,rfl,hq,hal,rt⟩:=B3x pls hx;have lts:=pg.sf i e he;obtain ⟨sums,u,et,nds,sub,_⟩:=lts.ex;have suba:∀x∈e.2.1,x∈ax.map (·.1):=λx hx=>sub x (Z07.mpr (.inl hx));have pa:=pg.axs (Z0l.mp nds).1 suba;have dd:=(pg.ok e (Z13 he)).d;refine i0f q _ rfl (SqT.of hq) (i0b rfl _ _ rfl ⟨_,(i0n _ rfl _ _ rfl rfl ?_)⟩);refine i02 _ rfl (i17 _ rfl _ rfl al d e.2.1 (A2i ax) rfl hal hd (λy hy=>pg.dk y (suba y hy)) λz z1 mo=> ?_);have ez:=B6u mo;refine i1a _ rfl _ rfl tv d e.2.2 (A2i ax) rfl rt lts.tl hd (by lia) λz2 _ e2=> ?_;refine i10 _ _ rfl rfl (.inl ⟨by lia,by lia⟩) _ _ rfl rfl ⟨rfl,(i08 (some (.str e.1)) (some (.ref al)) (some tv) ?_)⟩
   have:wkM (lnL (A2i ax)) (ls.take (i+1))=wkM (lnL (A2i ax)) (ls.take i)+z*z2:=by
    rw [Z14,he,B9q,ez,e2];show _+(A1r (lnL (A2i ax)) e.2.1*wtM (lnL (A2i ax)) e.2.2+0)=_;rw [Int.add_zero]
   rw [this];rfl
  ·rintro Z H2 ⟨rfl,o7,o8,o9,rfl⟩;rw [lls,Z18];exact i02 _ rfl k
theorem A4m.dk {kk':List (Key×V)} (h:A4m H a cs) (e:H kd=some (.dK kk)):A4m (upd H kd (.dK kk')) a cs:=by
 obtain ⟨ps,h1,h2⟩:=h.ex;exact ⟨ps,by rw [A0k (A3p h1 e (by intro z;cases z))];exact h1,h2.imp λp xs z=>by rw [A0k (A3p z e (by intro w;cases w))];exact z⟩
theorem D2x {k:Key} (h:k∉kk.map (·.1)):A9y kk k v=kk++[(k,v)]:=by
 unfold A9y;rw [Z0t];intro z;obtain ⟨p,hp,e⟩:=List.any_eq_true.mp z;exact h (Z2c.mpr (i02 p hp (of_decide_eq_true e)))
theorem KnD.put {q:Addr} (h:KnD H L kd es) (n:¬x∈es.map (·.1)) (hc:A4m H q (A4i L ys)) (l:es.length<2000):∃kk:List (Key×V),C8s H kd (.str x) (.ref q) (upd H kd (.dK kk))/\KnD (upd H kd (.dK kk)) L kd (es++[(x,ys)])/\H kd≠none:=by
 obtain ⟨kk,e,p⟩:=h.ex;have lp:=Paired.length p
 have nk:(Sum.inr x:Key)∉kk.map (·.1):=by
  rw [B5h p];intro z;obtain ⟨y,hy,e⟩:=Z2c.mp z;exact n (Sum.inr.inj e▸hy)
 refine i06 (A9y kk (Sum.inr x) (.ref q)) (C8s.k (k:=Sum.inr x) e (A1s (by lia))) ⟨_,A0b,?_⟩ (by rw [e];intro z;cases z);rw [D2x nk];exact B1t (Paired.mapP p λ_ _ ⟨a,q,b,c⟩=>(i05 a q b (c.dk e))) (.cons (i05 rfl q rfl (hc.dk e)) .nil)
theorem KnD.no (h:KnD H L kd es) (n:¬x∈es.map (·.1)):B0j H kd (.str x) none:=by
 obtain ⟨kk,e,p⟩:=h.ex;have g:=B0j.k (H:=H) (a:=kd) (k:=Sum.inr x) e
 have:A9o kk (Sum.inr x)=none:=by
  cases hv:A9o kk (Sum.inr x) with
  | none=>rfl
  | some v =>
   obtain ⟨p',hp,e1,_⟩:=C2f hv;have:(Sum.inr x:Key)∈kk.map (·.1):=Z2c.mpr (i02 p' hp e1);rw [B5h p] at this;obtain ⟨y,hy,e⟩:=Z2c.mp this;exact absurd (Sum.inr.inj e▸hy) n
 rw [this] at g;exact g
abbrev esU (tb:List (Str×List Str)) (zs:List Ln):List (Str×List Str):=tb++zs.map λe=>(e.1,e.2.1)
theorem C1z:(esU tb zs).map (·.1)=tb.map (·.1)++zs.map (·.1):=by
 unfold esU;rw [Z0s,List.map_map];rfl
section
variable {H:Hp} {p:Addr} {ax:List (Str×Int)} {tb:List (Str×List Str)} {ls:List Lt}
theorem B3z.kn (h:B3z H p ax tb ls):KnC (A2i ax) (ax.map (·.1)):=by
 refine ⟨λx hx e=> ?_,λx hx=> ?_,h.hx.2.2.1⟩
 ·have:=(h.hx.2.1 x hx).2;rw [e] at this;exact absurd this (by decide)
 ·obtain ⟨m,e,m1,_⟩:=h.dk x hx;rw [A6u e];exact m1
theorem B3z.du (h:B3z H p ax tb ls):DuI (A2i ax) tb ls (duP (ax.map (·.1)) ls):=by
 have:=D6b h.kn h.sf (Z0l.mp h.nd).2.1 (λx hx=>h.ng x (Z07.mpr (.inr hx))) ls.length (Z09 _);rw [Z18] at this;exact this
theorem B3z.lnn (h:B3z H p ax tb ls):∀e∈B1z ax ls,LnN (ax.map (·.1)) e:=by
 have:=D7o h.hx.2.2.1 h.sf ls.length (Z09 _);rw [Z18] at this;exact this
theorem B3z.nms (h:B3z H p ax tb ls):(tb.map (·.1)++(B1z ax ls).map (·.1)).Nodup:=by
 obtain ⟨n1,n2,n3⟩:=Z0l.mp h.nd;refine Z0l.mpr (i00 n1 h.du.nm.nd λa ha b hb e=> ?_);rcases h.du.nm.ex b hb with ⟨k,_,z⟩ | z
 ·exact D4a k (z▸e▸h.ng a (Z07.mpr (.inl ha)))
 ·exact n3 a ha b z e
theorem B3z.gde (h:B3z H p ax tb ls) (lo:∀e∈B1z ax ls,C5b e) {e:Ln} (he:(B1z ax ls)[i]? =some e):GdE (A2i ax) (esU tb ((B1z ax ls).take i)) e:=by
 have gl:=h.du.al i e he;obtain ⟨n1,n2⟩:=h.lnn e (Z13 he);obtain ⟨_,l1,_,l2,l3,l4,l5⟩:=lo e (Z13 he);have nn:=h.nms;have tk:(B1z ax ls).take (i+1)=(B1z ax ls).take i++[e]:=by rw [Z14,he];rfl
 have nd1:(tb.map (·.1)++((B1z ax ls).take i).map (·.1)++[e.1]).Nodup:=by
  refine nn.sublist ?_;rw [Z0z];refine List.Sublist.append (List.Sublist.refl _) ?_;have:((B1z ax ls).take i).map (·.1)++[e.1]=((B1z ax ls).take (i+1)).map (·.1):=by rw [tk,Z0s];rfl
  rw [this];exact (Z2o _ _).map _
 obtain ⟨d1,_,d3⟩:=Z0l.mp nd1;refine ⟨λy hy=>h.dk y (n2 y hy),h.axs (Z0l.mp n1).1 λx hx=>n2 x (Z07.mpr (.inl hx)),h.axs (Z0l.mp n1).2.1 λx hx=>n2 x (Z07.mpr (.inr hx)),by lia,l2,n1,λz=>h.kn.n _ (n2 _ z) rfl,gl.ns,gl.ti [],l3,l4,l5,λρ hr ho p hp=> ?_,?_,?_⟩
 ·rcases gl.lk ρ hr ho p hp with (⟨f,hf,f1,f2⟩ | ⟨f,hf,f1,f2⟩) | z
  ·exact .inl (i06 f (Z07.mpr (.inl hf)) f1 f2)
  ·exact .inl (i06 (f.1,f.2.1) (Z07.mpr (.inr (Z2c.mpr (i02 f hf rfl)))) f1 f2)
  ·exact .inr z
 ·rw [C1z];exact λz=>d3 e.1 z e.1 (by simp) rfl
 ·rw [C1z];exact d1
end
theorem C6q {e:Ln} (h:zs[i]? =some e):A7o L (zs.take (i+1))=A7o L (zs.take i)+stp L e:=by
 rw [Z14,h,B1u];show _+(stp L e+0)=_;rw [Int.add_zero]
def D0n (K:Frag):Sp:=λvs H Q _=>∃(a:Addr) (ns:List Int),vs=[.ref a]/\SqL K H a (ns.map V.int)/\ns.length<=63/\∀H',Q (.bl true) H'
theorem D5k (T:Txt K mg t):FO P w base T.AZ 93 (D0n K):=by
 have Gf2:= @B3i P w K mg base t T;have Gf3:= @B0z P w K mg base t T;have Gf4:= @C1c P w K mg base t T;have Gf0:= @A9v P w K mg base t T;have Ge7:= @D7f P w K mg base t T 40;have Gf5:= @B4b P w K mg base t T;have Gc6:= @A8g P w K mg base t T;have Gf6:= @C5d P w K mg base t T;refine T.AZ.F.ok A7m (by walk_at "ln") λ_ A _ s H _ Q E hr h=> ?_
 ·obtain ⟨a,ns,rfl,hS,_,k⟩:=h;have hu:=A7r hr;refine i02 _ (@A0c _ _ _ _ _ (@A0l _ _ 1 _ _ _ _ A7m.nd rfl (.inl rfl) (pcl Gf2 hr T.gj (A0a (pv 0) A0d)) rfl (.inl rfl)) (@A0c _ _ _ _ _ (@A0l _ _ 2 _ _ _ _ A7m.nd rfl (.inl rfl) (A1f A1g (pv 1) A0e (λ_ _=>rfl)) rfl (.inl rfl)) (@A0c _ _ _ _ _ (@A0l _ _ 3 _ _ _ _ A7m.nd rfl (.inl rfl) (pcl Gf4 hr T.oo (A0a (pcl Gf3 hr T.e_ (A0a (pv 1) A0d)) A0d)) rfl (.inl rfl)) (@A0c _ _ _ _ _ (@A0l _ _ 4 _ _ _ _ A7m.nd rfl (.inl rfl) B5x rfl (.inl rfl)) (@A0c _ _ _ _ _ (A2y PassesOwn.never rfl (A2g (A1f A1g (pv 1) A0e (λ_ _=>rfl))) (A3z (n:=2) rfl (A0y (A0m (i:=5) A7m.nd rfl (.inl rfl)) (A0y (A0m (i:=6) A7m.nd rfl (.inl rfl)) A2v))) (@A0g _ _ _ (@B0w _ _ _ _ _ _ _ _ _ hu (pv 4) (pv 5) (pcl Gf0 hr T.cz (A0a (pv 6) (A0a (pv 2) A0d))) rfl))) (@A0c _ _ _ _ _ (@A0l _ _ 7 _ _ _ _ A7m.nd rfl (.inl rfl) A0e rfl (.inl rfl)) (@A0c _ _ _ _ _ (A2y PassesOwn.never rfl (A2g (A1h (pv 3) rfl)) (A0m (i:=8) A7m.nd rfl (.inl rfl)) (@A0c _ _ _ _ _ (@A0l _ _ 9 _ _ _ _ A7m.nd rfl (.inl rfl) (pcl Ge7 hr T.dz (A0a (A1h (pv 8) rfl) A0d)) rfl (.inl rfl)) (@A0c _ _ _ _ _ (@A1v _ _ _ _ _ _ _ _ (PW.pt (A8z (A0q B8g (pv 9) A6p (A1a _)) (A8z (D1l (D5t hu (A1h (pv 8) rfl) (pv 4)) (by with_unfolding_all rfl)) (A8d (C7n (A2t (pcl Gf5 hr T.j7 (A0a (pv 8) (A0a (pv 9) (A0a (pv 4) (A0a (pv 2) A0d))))))))))) (@A0g _ _ _ (@A0s _ _ _ _ B9w)) A0x) (@A0c _ _ _ _ _ (@B0w _ _ _ _ _ _ _ _ _ hu (pv 4) (A1h (pv 8) rfl) (pcl Gf0 hr T.cz (A0a (A1h (pv 8) rfl) (A0a (pv 2) A0d))) rfl) (@A0c _ _ _ _ _ (@A0l _ _ 10 _ _ _ _ A7m.nd rfl (.inl rfl) (A0o A2h (pcl Gc6 hr T.ib (A0a (A1h (pv 8) rfl) (A0a (pv 2) A0d))) (A2k B2h (by rfl) T.Ag PyProof.Rows.boot_int (A0a (B3s A7q (A0u A0v (by rfl) T.b_ Z0r (A0a (A1h (pv 8) rfl) A0d)) A0e (A1a _)) A0d))) rfl (.inl rfl)) (@A0g _ _ _ (@A0l _ _ 7 _ _ _ _ A7m.nd rfl (.inl rfl) (A0o A2h (pv 7) (A0o A7n (A0u A0v (by rfl) T.b_ Z0r (A0a (A4b hu (pv 4) (A1h (pv 8) rfl) (λ_ _=>rfl)) A0d)) (pv 10))) rfl (.inl rfl)))))))) (@A0g _ _ _ (@A0s _ _ _ _ (B3s C9g (pv 7) (pcl Gf6 hr T.u7 (A0a (pv 1) A0d)) (A1a _))))))))))) ?_;refine i0n _ rfl a ns rfl hS λp ax tb ls H1 s1 pg=> ?_;refine e09 pg.ob ?_;rintro wh0 d tl ll ol ⟨tvs,lvs,o,hp1,hd1,htl1,ptb1,hll1,pls1,hol1⟩;refine i13 _ rfl p _ _ _ rfl rfl (SqT.of hp1) rfl ?_;refine i02 _ rfl ⟨p,(i0m ax tb ls rfl pg λr wh os H3 s3 pr3 los=> ?_)⟩;have pro:=pg.pr los;refine i08 r wh ax (i0q tb ls os rfl pr3 pro λq H4 s4 cl4=> ?_);have s14:=s3.trans s4;have pg4:=pg.same s14;obtain ⟨dq,whc,lc,ac,tc,vc,oc,ak,xs,hq4,_,_,hvc4,px4⟩:=cl4.ob;obtain ⟨du1,du2⟩:=pro.due;have ltv:=Paired.length ptb1;have lxs:=Paired.length px4;have t10:=pro.t1;have hd4:=s14 _ _ hd1;have dk:=pg.dk;have nms:=pg.nms;refine λkd hkd=> ?_;have s5:=A0f (o:= .dK []) hkd;have h5:upd H4 kd (.dK []) kd=some (.dK []):=A0b;refine i13 _ rfl p _ _ _ rfl rfl (SqT.of (s5 _ _ (s14 _ _ hp1))) rfl (i06 tl rfl ⟨_,SqL.of (s5 _ _ (s14 _ _ htl1))⟩ ?_);refine A3f (K:=K) (a:=tl) (xs:=tvs) (λi Z G=>∃(o5 o6:Option V),Z=[Sro a,Sro p,Sro d,Sro q,Sro kd,o5,o6,none,none,none,none]/\A1c H4 G/\KnD G (lnL (A2i ax)) kd (tb.take i)) (i0f none none rfl s5 ⟨_,h5,.nil⟩) (by rintro i Z G _ ⟨_,_,_,s,_⟩;exact SqL.of (s _ _ (s14 _ _ htl1))) ?_ ?_
  ·rintro i x Z G hx ⟨o5,o6,rfl,sG,kG⟩;obtain ⟨e,he,qe,al,rfl,e1,e2,_,e3,_,e4⟩:=B3x ptb1 hx;have e1:=sG _ _ (s14 _ _ e1);have e2:=sG _ _ (s14 _ _ e2);refine i19 qe _ rfl (SqT.of e1) rfl _ _ rfl _ _ rfl rfl ?_
   have pe:A1r (lnL (A2i ax)) e.2<=216000:=by
    have a1:=C0x (L:=lnL (A2i ax)) (M:=60) (by decide) (xs:=e.2) λy hy=>by
     obtain ⟨m,z,m1,m2⟩:=e4 y hy;rw [A6u z];exact ⟨m1,m2⟩
    have a2:∀n:Nat,n<4->(60:Int)^n<=216000:=by decide
    exact Int.le_trans a1 (a2 _ (by lia))
   refine i1a _ rfl _ rfl al d e.2 (A2i ax) rfl e2 (sG _ _ hd4) e4 pe ⟨by lia,λqc G2 hqc s2 cc=> ?_⟩;have tk:tb.take (i+1)=tb.take i++[e]:=by rw [Z14,he];rfl
   have nx:¬e.1∈(tb.take i).map (·.1):=λz=>by
    have:=((Z0l.mp nms).1).sublist ((Z2o (i+1) tb).map (·.1));rw [tk,Z0s] at this;exact (Z0l.mp this).2.2 e.1 z e.1 (by simp) rfl
   obtain ⟨kk,dp,kn2,_⟩:=(kG.same s2).put nx cc (by rw [Z0x];lia);refine i0w _ rfl _ rfl kd _ rfl dp (i0f _ _ rfl (A0r (sG.trans s2) hkd) ?_);rw [tk];exact kn2
  rintro Z G ⟨o5,o6,rfl,sG,kG⟩;rw [ltv,Z18] at kG;have e0:esU tb ((B1z ax ls).take 0)=tb:=by show tb++[]=tb;rw [Z0u]
  refine i18 _ rfl q _ dq _ _ rfl (sG _ _ hq4) T.gx T.lj (by walk_at "lk") (i06 vc rfl ⟨_,SqL.of (sG _ _ hvc4)⟩ ?_);refine A3f (K:=K) (a:=vc) (xs:=xs) (λi Z F=>∃(o8 o9 o10:Option V),Z=[Sro a,Sro p,Sro d,Sro q,Sro kd,o5,o6,Sio (A7o (lnL (A2i ax)) ((B1z ax ls).take i)),o8,o9,o10]/\A1c H4 F/\KnD F (lnL (A2i ax)) kd (esU tb ((B1z ax ls).take i))) (i0m none none none rfl sG (by rw [e0];exact kG)) (by rintro i Z F _ ⟨_,_,_,_,s,_⟩;exact SqL.of (s _ _ hvc4)) ?_ ?_
  ·rintro i x Z F hx ⟨o8,o9,o10,rfl,sF,kF⟩;obtain ⟨e,he,ln4⟩:=B3x px4 hx;have ln:=ln4.same sF;have gd:=pg.gde du2 he;obtain ⟨a',dx',ca,cs,nv,rfl,ha4,hca4,hcs4,ob4⟩:=id ln4;have ha:=sF _ _ ha4;have hca:=sF _ _ hca4;have ob:=ob4.imp sF;refine i18 _ rfl a' _ dx' _ _ rfl ha T.bw T.p6 (by walk_at "lk") (i0s nv e.2.2.2 rfl ob gd.ns gd.w gd.d λtv F1 s1' rp=> ?_);refine i0j _ rfl rfl _ rfl (A4v (λh=>absurd h (noN rp)) (λ_=> ?_));refine i18 _ rfl a' _ dx' _ _ rfl (s1' _ _ ha) T.bw T.c_ (by walk_at "lk") (i02 _ rfl (i0p kd _ rfl ((kF.same s1').no gd.nn) _ rfl (A2o ?_)));refine i0e _ rfl _ rfl (i0e _ rfl _ rfl (i03 (.ref a') tv (i14 kd d e _ (A2i ax) rfl (ln.same s1') rp (kF.same s1') (s1' _ _ (sF _ _ hd4)) ⟨gd,λF2 s2'=>(i02 _ rfl (A2o ?_))⟩)));have s02:=s1'.trans s2';have dka:B1j (A2i ax) e.2.1:=λy hy=>gd.dk y (Z07.mpr (.inl hy));have dks:B1j (A2i ax) e.2.2.1:=λy hy=>gd.dk y (Z07.mpr (.inr hy));refine i18 _ rfl a' _ dx' _ _ rfl (s02 _ _ ha) T.bw T.d_ (by walk_at "lk") (i15 _ rfl ca d e.2.1 (A2i ax) rfl (s02 _ _ hca) (s02 _ _ (sF _ _ hd4)) dka (by have:=gd.pa;lia) ⟨gd.la,λqc F3 hqc s3' cc=> ?_⟩);have s03:=s02.trans s3';obtain ⟨kk,dp,kn2,kne⟩:=(kF.same s03).put gd.nn cc (by show (tb++_).length<2000;rw [Z06,Z08,Z0x];lia);have sU:A1c H4 (upd F3 kd (.dK kk)):=A0r (sF.trans s03) hkd;refine i02 _ rfl (i18 _ rfl a' _ dx' _ _ rfl (s03 _ _ ha) T.bw T.c_ (by walk_at "lk") (i0f kd _ rfl dp ?_));generalize upd F3 kd (.dK kk)=F4 at kn2 sU;have haU:=sU _ _ ha4;have hcU:=sU _ _ hcs4;refine i18 _ rfl a' _ dx' _ _ rfl haU T.bw T.e8 (by walk_at "lk") (i13 _ rfl cs d e.2.2.1 (A2i ax) rfl hcU (sU _ _ hd4) dks λz z1 mo=> ?_);have ez:=B6u mo;refine i18 _ rfl a' _ dx' _ _ rfl haU T.bw T.e8 (by walk_at "lk") (i07 cs _ rfl (i0i (.inl (SqL.of hcU)) _ _ rfl rfl (.inr (i0n _ rfl _ _ rfl rfl ?_))));obtain ⟨qn,dg,cn⟩:=kn2.val (by rw [Z0s];exact Z0l.mpr (i00 gd.en (by simp) λa ha b hb z=>gd.nn (by have z2:a=e.1:=z.trans (Z0w.mp hb);rw [<-z2];exact ha))) (Z07.mpr (.inr (.head _)));have cn:A4m F4 qn (A4i (lnL (A2i ax)) e.2.1):=cn;obtain ⟨pcs,hqn,tpn⟩:=cn.ex;have lpc:=Paired.length tpn
   have clen:=B8q (L:=lnL (A2i ax)) (ys:=e.2.1) λy hy=>by
    obtain ⟨m,z,m1,_⟩:=dka y hy;rw [A6u z];exact m1
   have pa:=gd.pa;refine i0e _ rfl _ rfl (i18 _ rfl a' _ dx' _ _ rfl haU T.bw T.c_ (by walk_at "lk") (i0f kd _ rfl dg (i0p qn _ rfl (.inl (SqL.of hqn)) _ rfl (i10 _ _ rfl rfl (.inl ⟨by lia,by rw [Z08];lia⟩) _ _ rfl rfl (i0m (some (.ref a')) (some tv) (some (.int (z+(if decide ((0:Int)<((e.2.2.1.map V.str).length:Int))=true then 1 else 0)))) ?_ sU ?_)))))
   ·rw [C6q he]
    have st:((pcs.map V.ref).length:Int)*(z+(if decide ((0:Int)<((e.2.2.1.map V.str).length:Int))=true then 1 else 0))=stp (lnL (A2i ax)) e:=by
     unfold stp;rw [Z08,lpc,clen,ez];congr 2
     cases e.2.2.1 with
     | nil=>rfl
     | cons y ys=>simp
    rw [<-st];rfl
   ·have tk:(B1z ax ls).take (i+1)=(B1z ax ls).take i++[e]:=by rw [Z14,he];rfl
    rw [tk];unfold esU;rw [Z0s,<-Z0z];exact kn2
  ·rintro Z F ⟨o8,o9,o10,rfl,sF,kF⟩;rw [lxs,Z18];refine i0e _ rfl _ rfl ⟨p,(i0g ax tb ls rfl (i0i (pg4.same sF) _ _ rfl rfl ?_))⟩;have:=pg.du.st;show Q (.bl (decide (A7o (lnL (A2i ax)) (B1z ax ls)<=wkM (lnL (A2i ax)) ls))) F;rw [Z20 this];exact k F
end My
namespace PySem.W.Fast
def tw274574448806871613:=()
def tw13140636374325981997:=()
def tw17116395325958652925:=()
def tw14558111442670571831:=()
def tw10392078814798553903:=()
def tw6337321598747237408:=()
def tw6129390743802738072:=()
def tw9999839700364445315:=()
def tw5316060705466098309:=()
def tw17144081979975863282:=()
def tw13908842861518535524:=()
def tw16537861631415419446:=()
def tw6692957109074374011:=()
def tw5660977013574227905:=()
def tw11214300844001369147:=()
def tw9696706386650399587:=()
def tw2072309130944023853:=()
def tw5525404393913169473:=()
def tw8919964156397367668:=()
def tw15562803198772455398:=()
def tw7320327295572084989:=()
def tw8686011911156734552:=()
def tw12818249866801727639:=()
def tw5684603478477150162:=()
def tw4744690066189743652:=()
def tw2318711681705768055:=()
def tw11476352514641915379:=()
def tw626873639199142984:=()
def tw99612445883793373:=()
def tw6986824765995597851:=()
def tw11642688441738942799:=()
def tw4920735556541410695:=()
def tw12169013085131969389:=()
def tw13868324461960765356:=()
def tw18121283892272371714:=()
def tw16577350732786969519:=()
def tw11598829097515071326:=()
def tw12135073996914307601:=()
def tw4092676507892187698:=()
def tw16205192671558913465:=()
def tw16798276182372406396:=()
def tw15041333994964808081:=()
def tw6002936869922982003:=()
def tw8052470524711522232:=()
def tw11259844782886045004:=()
def tw8700761654057776886:=()
def tw12125615046919576098:=()
def tw14076612859637804824:=()
def tw8370729929759028953:=()
def tw14026356869275013780:=()
def tw12896798982105029012:=()
def tw17963770336820027725:=()
def tw18282551351959980405:=()
def tw7253838843499220327:=()
def tw4347955180587398846:=()
def tw14716582448978319317:=()
def tw14775924976099434548:=()
def tw547098291051871634:=()
def tw17428130957352759095:=()
def tw16587704024803382525:=()
def tw14736259843619992273:=()
def tw5005405339771759128:=()
def tw10785567933924843835:=()
def tw13932289744749358775:=()
def tw8061423416131826670:=()
def tw13613461929044355507:=()
def tw6551986125006526833:=()
def tw2571759883882912110:=()
def tw8010432382173508158:=()
def tw14382502165811454598:=()
def tw2647646612738559530:=()
def tw16367008536198545052:=()
def tw11604173795027605011:=()
def tw13394178297677034115:=()
def tw18024981256229052706:=()
def tw10877427666333961656:=()
def tw6810966313533222979:=()
def tw16053972136667765442:=()
def tw13909240539819198947:=()
def tw17560549111809250724:=()
def tw17335702040893513584:=()
def tw15900946617717107624:=()
def tw6041238255065553316:=()
def tw15424426222514121300:=()
def tw4040345204566299298:=()
def tw3322316123256431714:=()
def tw3707903906529362673:=()
def tw5278840397206732977:=()
def tw16264339579072903673:=()
def tw1484630898741494997:=()
def tw9444821877116792738:=()
def tw9099278598275877203:=()
def tw1822817759395926664:=()
def tw11853034162826893005:=()
def tw16148445935113444523:=()
def tw15081343240672156157:=()
def tw13308830230096279574:=()
def tw7524549577801248350:=()
def tw9245674763603315013:=()
def tw13006545653286119636:=()
def tw6946841034095906407:=()
def tw12053959062434369328:=()
def tw8732770927922318092:=()
def tw863252194816552311:=()
def tw6782697274172365658:=()
def tw4853163839916665090:=()
def tw8856616962484544500:=()
def tw12495058881345470135:=()
def tw1659538390177021659:=()
def tw6689085379628891047:=()
def tw9004692143106127285:=()
end PySem.W.Fast
namespace My
open PySem L2
variable {K:Frag} {sl:Array (Option Value)} {l:PySem.W.OpenLaw} {XP:(Str->Option Value)->Heap->Prop}
abbrev LkF (K:Frag) (x q:Str) (st:Stmt) (f:Addr):Prop:=∃(oc:Value) (od:Option Addr) (kV dc pm:Value) (an:Option Addr) (cd ct:Value) (sl:Array (Option Value)),K.lookup f=some ⟨oc,od,.func (fnOf x q (A9g st) (A8c st) (A0n st) .none kV dc pm an cd ct),sl⟩/\codeIn K cd q=true/\keepIn K (.ref f)=true
theorem D5p {x q:Str} {st:Stmt} {f:Addr} {oc:Value} {od:Option Addr} {kV dc pm:Value} {an:Option Addr} {cd ct:Value} (l:K.lookup f=some ⟨oc,od,.func (fnOf x q (A9g st) (A8c st) (A0n st) .none kV dc pm an cd ct),sl⟩) (c:codeIn K cd q=true) (k:keepIn K (.ref f)=true):LkF K x q st f:=⟨_,_,_,_,_,_,_,_,_,l,c,k⟩
theorem A2b {x q:Str} {st:Stmt} {f:Addr} {ps:List Str} (l:LkF K x q st f) (h:∀(kV doc pm:Value) (an:Option Addr) (cdv ct:Value) (us:List Value),us.length=ps.length->bindArgs (fnOf x q (A9g st) (A8c st) (A0n st) .none kV doc pm an cdv ct) ⟨us,[]⟩=pure (ps.zip us)):∃d,Fun K x q st f d/\A8o K d ps []/\keepIn K (.ref f)=true:=by
 obtain ⟨_,_,_,_,_,_,_,_,_,l,c,k⟩:=l;have F:=D1x (st:=st) l c k;exact ⟨_,F,F.binds h,k⟩
theorem len0 {p:List Value->Prop} (h:p []):∀us:List Value,us.length=0->p us:=λus e=>by rw [List.length_eq_zero_iff.mp e];exact h
theorem lenS {n:Nat} {p:List Value->Prop} (h:∀(a:Value) (us:List Value),us.length=n->p (a::us)):∀us:List Value,us.length=n+1->p us
 | a::r,e=>h a r (Nat.succ.inj e)
local macro_rules | `(tactic| walk_at "le") => `(tactic| (intro _ _ _ _ _ _; (repeat (refine lenS fun _ => ?_)); exact len0 rfl))
theorem D6v {w:World} {h:Heap} {mg:Str->Option Value} {fa:Addr} (X:K.In h) (G:h.Ns mainGlobals mg) (hfa:mg "law"=some (.ref fa))
  {aL aJ sS aA aE aH aN aI aC aD aK aB aM aQ aF aG:Addr}
  (pZ:nsIn K mainGlobals "Line"=some (some (.ref aL)))
  (oB:nsIn K mainGlobals "Cloth"=some (some (.ref aJ)))
  (sM:nsIn K mainGlobals "Term"=some (some (.ref sS)))
  (nH:nsIn K mainGlobals "Number"=some (some (.ref aA)))
  (oC:nsIn K mainGlobals "Place"=some (some (.ref aE)))
  (qA:nsIn K mainGlobals "Read"=some (some (.ref aH)))
  (qB:nsIn K mainGlobals "Pair"=some (some (.ref aN)))
  (qC:nsIn K mainGlobals "Plus"=some (some (.ref aI)))
  (oD:nsIn K mainGlobals "Minus"=some (some (.ref aC)))
  (oE:nsIn K mainGlobals "Times"=some (some (.ref aD)))
  (rQ:nsIn K mainGlobals "Sum"=some (some (.ref aK)))
  (oF:nsIn K mainGlobals "Guard"=some (some (.ref aB)))
  (qD:nsIn K mainGlobals "Part"=some (some (.ref aM)))
  (rR:nsIn K mainGlobals "Let"=some (some (.ref aQ)))
  (mT:nsIn K mainGlobals "Program"=some (some (.ref aF)))
  (nI:nsIn K mainGlobals "Lifter"=some (some (.ref aG)))
  {f0:Addr}
  (a0:nsIn K mainGlobals "copied"=some (some (.ref f0)))
  (l0:LkF K "copied" "copied" B5w f0)
  {f1:Addr}
  (a1:nsIn K mainGlobals "copied_dict"=some (some (.ref f1)))
  (l1:LkF K "copied_dict" "copied_dict" A7i f1)
  {f2:Addr}
  (a2:findIn K (.ref aL) "__init__"=some (some (.ref f2)))
  (l2:LkF K "__init__" "Line.__init__" A9b f2)
  (i2:isFn K (.ref f2)=true)
  {f3:Addr}
  (a3:findIn K (.ref aJ) "__init__"=some (some (.ref f3)))
  (l3:LkF K "__init__" "Cloth.__init__" A7v f3)
  (i3:isFn K (.ref f3)=true)
  {f4:Addr}
  (a4:findIn K (.ref aA) "__init__"=some (some (.ref f4)))
  (l4:LkF K "__init__" "Number.__init__" A7h f4)
  (i4:isFn K (.ref f4)=true)
  {f5:Addr}
  (a5:findIn K (.ref aE) "__init__"=some (some (.ref f5)))
  (l5:LkF K "__init__" "Place.__init__" A7t f5)
  (i5:isFn K (.ref f5)=true)
  {f6:Addr}
  (a6:findIn K (.ref aH) "__init__"=some (some (.ref f6)))
  (l6:LkF K "__init__" "Read.__init__" A9j f6)
  (i6:isFn K (.ref f6)=true)
  {f7:Addr}
  (a7:findIn K (.ref aN) "__init__"=some (some (.ref f7)))
  (l7:LkF K "__init__" "Pair.__init__" A9l f7)
  (i7:isFn K (.ref f7)=true)
  {f8:Addr}
  (a8:findIn K (.ref aI) "made_of"=some (some (.ref f8)))
  (l8:LkF K "made_of" "Plus.made_of" A6m f8)
  (i8:isFn K (.ref f8)=true)
  {f9:Addr}
  (a9:findIn K (.ref aC) "made_of"=some (some (.ref f9)))
  (l9:LkF K "made_of" "Minus.made_of" A5u f9)
  (i9:isFn K (.ref f9)=true)
  {sU:Addr}
  (yS:findIn K (.ref aD) "made_of"=some (some (.ref sU)))
  (tH:LkF K "made_of" "Times.made_of" A5p sU)
  (tI:isFn K (.ref sU)=true)
  {sV:Addr}
  (yT:findIn K (.ref aK) "__init__"=some (some (.ref sV)))
  (tJ:LkF K "__init__" "Sum.__init__" B1a sV)
  (tK:isFn K (.ref sV)=true)
  {sW:Addr}
  (yU:findIn K (.ref aB) "__init__"=some (some (.ref sW)))
  (tL:LkF K "__init__" "Guard.__init__" A7w sW)
  (tM:isFn K (.ref sW)=true)
  {sX:Addr}
  (yV:findIn K (.ref aB) "made_of"=some (some (.ref sX)))
  (tN:LkF K "made_of" "Guard.made_of" A5r sX)
  (tO:isFn K (.ref sX)=true)
  {sY:Addr}
  (yW:findIn K (.ref aM) "__init__"=some (some (.ref sY)))
  (tP:LkF K "__init__" "Part.__init__" A8y sY)
  (tQ:isFn K (.ref sY)=true)
  {xF:Addr}
  (tR:nsIn K mainGlobals "parts_of"=some (some (.ref xF)))
  (tS:LkF K "parts_of" "parts_of" B0p xF)
  {xG:Addr}
  (tT:nsIn K mainGlobals "parts_from"=some (some (.ref xG)))
  (tU:LkF K "parts_from" "parts_from" A8b xG)
  {xH:Addr}
  (tV:nsIn K mainGlobals "parts_right_within"=some (some (.ref xH)))
  (tW:LkF K "parts_right_within" "parts_right_within" A4c xH)
  {xI:Addr}
  (tX:nsIn K mainGlobals "sums_at_top"=some (some (.ref xI)))
  (tY:LkF K "sums_at_top" "sums_at_top" A6z xI)
  {xJ:Addr}
  (tZ:nsIn K mainGlobals "within_sums"=some (some (.ref xJ)))
  (uA:LkF K "within_sums" "within_sums" A7a xJ)
  {sZ:Addr}
  (yX:findIn K (.ref aQ) "__init__"=some (some (.ref sZ)))
  (uB:LkF K "__init__" "Let.__init__" B0q sZ)
  (uC:isFn K (.ref sZ)=true)
  {tA:Addr}
  (yY:findIn K (.ref aF) "__init__"=some (some (.ref tA)))
  (uD:LkF K "__init__" "Program.__init__" A6n tA)
  (uE:isFn K (.ref tA)=true)
  {xK:Addr}
  (uF:nsIn K mainGlobals "axis_names"=some (some (.ref xK)))
  (uG:LkF K "axis_names" "axis_names" A7y xK)
  {xL:Addr}
  (uH:nsIn K mainGlobals "table_names"=some (some (.ref xL)))
  (uI:LkF K "table_names" "table_names" A7l xL)
  {xM:Addr}
  (uJ:nsIn K mainGlobals "lengths_of"=some (some (.ref xM)))
  (uK:LkF K "lengths_of" "lengths_of" A7x xM)
  {xN:Addr}
  (uL:nsIn K mainGlobals "cloth_of"=some (some (.ref xN)))
  (uM:LkF K "cloth_of" "cloth_of" B0r xN)
  {xO:Addr}
  (uN:nsIn K mainGlobals "lines_of"=some (some (.ref xO)))
  (uO:LkF K "lines_of" "lines_of" B0l xO)
  {tB:Addr}
  (yZ:findIn K (.ref aG) "__init__"=some (some (.ref tB)))
  (uP:LkF K "__init__" "Lifter.__init__" A7d tB)
  (uQ:isFn K (.ref tB)=true)
  {tC:Addr}
  (zA:findIn K (.ref aG) "lift_let"=some (some (.ref tC)))
  (uR:LkF K "lift_let" "Lifter.lift_let" A4u tC)
  (uS:isFn K (.ref tC)=true)
  {tD:Addr}
  (zB:findIn K (.ref aG) "without_sums"=some (some (.ref tD)))
  (uT:LkF K "without_sums" "Lifter.without_sums" A3q tD)
  (uU:isFn K (.ref tD)=true)
  {tE:Addr}
  (zC:findIn K (.ref aG) "lift"=some (some (.ref tE)))
  (uV:LkF K "lift" "Lifter.lift" A6y tE)
  (uW:isFn K (.ref tE)=true)
  {tF:Addr}
  (zD:findIn K (.ref aG) "fresh_name"=some (some (.ref tF)))
  (uX:LkF K "fresh_name" "Lifter.fresh_name" A4f tF)
  (uY:isFn K (.ref tF)=true)
  {xP:Addr}
  (uZ:nsIn K mainGlobals "guarded"=some (some (.ref xP)))
  (vA:LkF K "guarded" "guarded" B3a xP)
  {xQ:Addr}
  (vB:nsIn K mainGlobals "axes_in"=some (some (.ref xQ)))
  (vC:LkF K "axes_in" "axes_in" B3g xQ)
  {xR:Addr}
  (vD:nsIn K mainGlobals "axes_of"=some (some (.ref xR)))
  (vE:LkF K "axes_of" "axes_of" B3m xR)
  {xS:Addr}
  (vF:nsIn K mainGlobals "_law_cell_at"=some (some (.ref xS)))
  (vG:LkF K "_law_cell_at" "_law_cell_at" A9m xS)
  {xT:Addr}
  (vH:nsIn K mainGlobals "_law_mixed"=some (some (.ref xT)))
  (vI:LkF K "_law_mixed" "_law_mixed" B3v xT)
  {xU:Addr}
  (vJ:nsIn K mainGlobals "_law_part"=some (some (.ref xU)))
  (vK:LkF K "_law_part" "_law_part" B5d xU)
  {xV:Addr}
  (vL:nsIn K mainGlobals "_law_names_by"=some (some (.ref xV)))
  (vM:LkF K "_law_names_by" "_law_names_by" A8h xV)
  {xW:Addr}
  (vN:nsIn K mainGlobals "_law_number_by"=some (some (.ref xW)))
  (vO:LkF K "_law_number_by" "_law_number_by" A7g xW)
  {xX:Addr}
  (vP:nsIn K mainGlobals "_law_many"=some (some (.ref xX)))
  (vQ:LkF K "_law_many" "_law_many" B5o xX)
  {xY:Addr}
  (vR:nsIn K mainGlobals "_law_axes_by"=some (some (.ref xY)))
  (vS:LkF K "_law_axes_by" "_law_axes_by" A8w xY)
  {xZ:Addr}
  (vT:nsIn K mainGlobals "_law_guarded"=some (some (.ref xZ)))
  (vU:LkF K "_law_guarded" "_law_guarded" A9c xZ)
  {yA:Addr}
  (vV:nsIn K mainGlobals "_law_read_by"=some (some (.ref yA)))
  (vW:LkF K "_law_read_by" "_law_read_by" A9a yA)
  {yB:Addr}
  (vX:nsIn K mainGlobals "_law_wild_by"=some (some (.ref yB)))
  (vY:LkF K "_law_wild_by" "_law_wild_by" A8u yB)
  {yC:Addr}
  (vZ:nsIn K mainGlobals "_law_leaf_by"=some (some (.ref yC)))
  (wA:LkF K "_law_leaf_by" "_law_leaf_by" A9f yC)
  {yD:Addr}
  (wB:nsIn K mainGlobals "_law_summed"=some (some (.ref yD)))
  (wC:LkF K "_law_summed" "_law_summed" B0x yD)
  {yE:Addr}
  (wD:nsIn K mainGlobals "_law_grow"=some (some (.ref yE)))
  (wE:LkF K "_law_grow" "_law_grow" B6k yE)
  {yF:Addr}
  (wF:nsIn K mainGlobals "_law_weight"=some (some (.ref yF)))
  (wG:LkF K "_law_weight" "_law_weight" B0m yF)
  {yG:Addr}
  (wH:nsIn K mainGlobals "_law_let_by"=some (some (.ref yG)))
  (wI:LkF K "_law_let_by" "_law_let_by" B0t yG)
  {yH:Addr}
  (wJ:nsIn K mainGlobals "_law_lengths_by"=some (some (.ref yH)))
  (wK:LkF K "_law_lengths_by" "_law_lengths_by" A6h yH)
  {yI:Addr}
  (wL:nsIn K mainGlobals "_law_program_by"=some (some (.ref yI)))
  (wM:LkF K "_law_program_by" "_law_program_by" A6l yI)
  {yJ:Addr}
  (wN:nsIn K mainGlobals "_law_made"=some (some (.ref yJ)))
  (wO:LkF K "_law_made" "_law_made" B5t yJ)
  {yK:Addr}
  (wP:nsIn K mainGlobals "_law_made_program"=some (some (.ref yK)))
  (wQ:LkF K "_law_made_program" "_law_made_program" A5f yK)
  {yL:Addr}
  (wR:nsIn K mainGlobals "_law_cells_of"=some (some (.ref yL)))
  (wS:LkF K "_law_cells_of" "_law_cells_of" A7u yL)
  {yM:Addr}
  (wT:nsIn K mainGlobals "_law_cell"=some (some (.ref yM)))
  (wU:LkF K "_law_cell" "_law_cell" B5i yM)
  {yN:Addr}
  (wV:nsIn K mainGlobals "_law_tree_of"=some (some (.ref yN)))
  (wW:LkF K "_law_tree_of" "_law_tree_of" A8x yN)
  {yO:Addr}
  (wX:nsIn K mainGlobals "_law_looks"=some (some (.ref yO)))
  (wY:LkF K "_law_looks" "_law_looks" B2j yO)
  {yP:Addr}
  (wZ:nsIn K mainGlobals "_law_ahead"=some (some (.ref yP)))
  (xA:LkF K "_law_ahead" "_law_ahead" B3k yP)
  {yQ:Addr}
  (xB:nsIn K mainGlobals "_law_good_line"=some (some (.ref yQ)))
  (xC:LkF K "_law_good_line" "_law_good_line" A7f yQ)
  {yR:Addr}
  (xD:nsIn K mainGlobals "_law_work"=some (some (.ref yR)))
  (xE:LkF K "_law_work" "_law_work" B5c yR)
  {zE:Addr}
  (tG:nsIn K mainGlobals "law"=some (some (.ref zE)))
  (sT:LkF K "law" "law" C9p zE)
  (oG:plainGet K aJ Str.empty=true)
  (oH:hasDictIn K aJ=true)
  (oI:plainOver K aJ=true)
  (oJ:findIn K (.ref aJ) "__setattr__"=some (some (.builtin "object.__setattr__")))
  (oK:makesIn K aJ=true)
  (oL:keepIn K (.ref aJ)=true)
  (oM:findIn K (.ref aJ) "__init__"=some (some (.ref f3)))
  (dU:findIn K (.ref aJ) "wheel"=some none)
  (bN:findIn K (.ref aJ) "lengths"=some none)
  (cE:findIn K (.ref aJ) "arrays"=some none)
  (cF:findIn K (.ref aJ) "tables"=some none)
  (dV:findIn K (.ref aJ) "lines"=some none)
  (gI:findIn K (.ref aJ) "outs"=some none)
  (oN:findIn K (.ref aJ) "__class__"=some (some (.builtin "object.__class__")))
  (mR:specialIn K (.builtin "object.__class__") "__get__"=some (some (.builtin "getset_descriptor.__get__")))
  (mS:takesIn K (.builtin "object.__class__")=some true)
  (oO:mroIn K aJ (.type "object")=some true)
  (aR:isClsIn K aB=true)
  (aS:typeIn K (.ref aB)=some (.type "type"))
  (dW:mroIn K aJ (.ref aB)=some false)
  (dX:(Value.ref aJ == Value.ref aB)=false)
  (aT:isClsIn K aC=true)
  (aU:typeIn K (.ref aC)=some (.type "type"))
  (dY:mroIn K aJ (.ref aC)=some false)
  (dZ:(Value.ref aJ == Value.ref aC)=false)
  (aO:isClsIn K aA=true)
  (aP:typeIn K (.ref aA)=some (.type "type"))
  (cG:mroIn K aJ (.ref aA)=some false)
  (cH:(Value.ref aJ == Value.ref aA)=false)
  (aZ:isClsIn K aN=true)
  (bA:typeIn K (.ref aN)=some (.type "type"))
  (gJ:mroIn K aJ (.ref aN)=some false)
  (gK:(Value.ref aJ == Value.ref aN)=false)
  (aV:isClsIn K aE=true)
  (aW:typeIn K (.ref aE)=some (.type "type"))
  (eA:mroIn K aJ (.ref aE)=some false)
  (eB:(Value.ref aJ == Value.ref aE)=false)
  (bB:isClsIn K aI=true)
  (bC:typeIn K (.ref aI)=some (.type "type"))
  (gL:mroIn K aJ (.ref aI)=some false)
  (gM:(Value.ref aJ == Value.ref aI)=false)
  (bD:isClsIn K aH=true)
  (bE:typeIn K (.ref aH)=some (.type "type"))
  (gN:mroIn K aJ (.ref aH)=some false)
  (gO:(Value.ref aJ == Value.ref aH)=false)
  (bH:isClsIn K aK=true)
  (bI:typeIn K (.ref aK)=some (.type "type"))
  (jJ:mroIn K aJ (.ref aK)=some false)
  (jK:(Value.ref aJ == Value.ref aK)=false)
  (aX:isClsIn K aD=true)
  (aY:typeIn K (.ref aD)=some (.type "type"))
  (eC:mroIn K aJ (.ref aD)=some false)
  (eD:(Value.ref aJ == Value.ref aD)=false)
  (oP:plainGet K aB Str.empty=true)
  (oQ:hasDictIn K aB=true)
  (oR:plainOver K aB=true)
  (oS:findIn K (.ref aB) "__setattr__"=some (some (.builtin "object.__setattr__")))
  (oT:makesIn K aB=true)
  (oU:keepIn K (.ref aB)=true)
  (oV:findIn K (.ref aB) "__init__"=some (some (.ref sW)))
  (gP:findIn K (.ref aB) "axis"=some none)
  (jL:findIn K (.ref aB) "low"=some none)
  (gQ:findIn K (.ref aB) "high"=some none)
  (eE:findIn K (.ref aB) "inner"=some none)
  (eF:findIn K (.ref aB) "outer"=some none)
  (bO:findIn K (.ref aB) "made_of"=some (some (.ref sX)))
  (oW:findIn K (.ref aB) "__class__"=some (some (.builtin "object.__class__")))
  (oX:mroIn K aB (.type "object")=some true)
  (eG:mroIn K aB (.ref aB)=some true)
  (eH:mroIn K aB (.ref aC)=some false)
  (eI:(Value.ref aB == Value.ref aC)=false)
  (cI:mroIn K aB (.ref aA)=some false)
  (cJ:(Value.ref aB == Value.ref aA)=false)
  (gR:mroIn K aB (.ref aN)=some false)
  (gS:(Value.ref aB == Value.ref aN)=false)
  (eJ:mroIn K aB (.ref aE)=some false)
  (eK:(Value.ref aB == Value.ref aE)=false)
  (gT:mroIn K aB (.ref aI)=some false)
  (gU:(Value.ref aB == Value.ref aI)=false)
  (gV:mroIn K aB (.ref aH)=some false)
  (gW:(Value.ref aB == Value.ref aH)=false)
  (jM:mroIn K aB (.ref aK)=some false)
  (jN:(Value.ref aB == Value.ref aK)=false)
  (eL:mroIn K aB (.ref aD)=some false)
  (eM:(Value.ref aB == Value.ref aD)=false)
  (rS:plainGet K aQ Str.empty=true)
  (rT:hasDictIn K aQ=true)
  (rU:plainOver K aQ=true)
  (rV:findIn K (.ref aQ) "__setattr__"=some (some (.builtin "object.__setattr__")))
  (rW:makesIn K aQ=true)
  (rX:keepIn K (.ref aQ)=true)
  (rY:findIn K (.ref aQ) "__init__"=some (some (.ref sZ)))
  (lQ:findIn K (.ref aQ) "name"=some none)
  (lR:findIn K (.ref aQ) "axes"=some none)
  (lS:findIn K (.ref aQ) "term"=some none)
  (rZ:findIn K (.ref aQ) "__class__"=some (some (.builtin "object.__class__")))
  (sA:mroIn K aQ (.type "object")=some true)
  (lT:mroIn K aQ (.type "list")=some false)
  (jO:mroIn K aQ (.type "tuple")=some false)
  (lU:mroIn K aQ (.type "dict")=some false)
  (jP:mroIn K aQ (.ref aB)=some false)
  (jQ:(Value.ref aQ == Value.ref aB)=false)
  (jR:mroIn K aQ (.ref aC)=some false)
  (jS:(Value.ref aQ == Value.ref aC)=false)
  (gX:mroIn K aQ (.ref aA)=some false)
  (gY:(Value.ref aQ == Value.ref aA)=false)
  (lV:mroIn K aQ (.ref aN)=some false)
  (lW:(Value.ref aQ == Value.ref aN)=false)
  (jT:mroIn K aQ (.ref aE)=some false)
  (jU:(Value.ref aQ == Value.ref aE)=false)
  (lX:mroIn K aQ (.ref aI)=some false)
  (lY:(Value.ref aQ == Value.ref aI)=false)
  (lZ:mroIn K aQ (.ref aH)=some false)
  (mA:(Value.ref aQ == Value.ref aH)=false)
  (mU:mroIn K aQ (.ref aK)=some false)
  (mV:(Value.ref aQ == Value.ref aK)=false)
  (jV:mroIn K aQ (.ref aD)=some false)
  (jW:(Value.ref aQ == Value.ref aD)=false)
  (nJ:plainGet K aG Str.empty=true)
  (nK:hasDictIn K aG=true)
  (nL:plainOver K aG=true)
  (nM:findIn K (.ref aG) "__setattr__"=some (some (.builtin "object.__setattr__")))
  (nN:makesIn K aG=true)
  (nO:keepIn K (.ref aG)=true)
  (nP:findIn K (.ref aG) "__init__"=some (some (.ref tB)))
  (cK:findIn K (.ref aG) "known"=some none)
  (cL:findIn K (.ref aG) "lines"=some none)
  (cM:findIn K (.ref aG) "lifts"=some none)
  (bG:findIn K (.ref aG) "fresh_name"=some (some (.ref tF)))
  (eN:findIn K (.ref aG) "lift"=some (some (.ref tE)))
  (bJ:findIn K (.ref aG) "lift_let"=some (some (.ref tC)))
  (bF:findIn K (.ref aG) "without_sums"=some (some (.ref tD)))
  (nQ:findIn K (.ref aG) "__class__"=some (some (.builtin "object.__class__")))
  (nR:mroIn K aG (.type "object")=some true)
  (cN:mroIn K aG (.ref aB)=some false)
  (cO:(Value.ref aG == Value.ref aB)=false)
  (cP:mroIn K aG (.ref aC)=some false)
  (cQ:(Value.ref aG == Value.ref aC)=false)
  (bP:mroIn K aG (.ref aA)=some false)
  (bQ:(Value.ref aG == Value.ref aA)=false)
  (eO:mroIn K aG (.ref aN)=some false)
  (eP:(Value.ref aG == Value.ref aN)=false)
  (cR:mroIn K aG (.ref aE)=some false)
  (cS:(Value.ref aG == Value.ref aE)=false)
  (eQ:mroIn K aG (.ref aI)=some false)
  (eR:(Value.ref aG == Value.ref aI)=false)
  (eS:mroIn K aG (.ref aH)=some false)
  (eT:(Value.ref aG == Value.ref aH)=false)
  (gZ:mroIn K aG (.ref aK)=some false)
  (hA:(Value.ref aG == Value.ref aK)=false)
  (cT:mroIn K aG (.ref aD)=some false)
  (cU:(Value.ref aG == Value.ref aD)=false)
  (qE:plainGet K aL Str.empty=true)
  (qF:hasDictIn K aL=true)
  (qG:plainOver K aL=true)
  (qH:findIn K (.ref aL) "__setattr__"=some (some (.builtin "object.__setattr__")))
  (qI:makesIn K aL=true)
  (qJ:keepIn K (.ref aL)=true)
  (qK:findIn K (.ref aL) "__init__"=some (some (.ref f2)))
  (jX:findIn K (.ref aL) "name"=some none)
  (jY:findIn K (.ref aL) "axes"=some none)
  (jZ:findIn K (.ref aL) "sums"=some none)
  (kA:findIn K (.ref aL) "term"=some none)
  (qL:findIn K (.ref aL) "__class__"=some (some (.builtin "object.__class__")))
  (qM:mroIn K aL (.type "object")=some true)
  (kB:mroIn K aL (.type "list")=some false)
  (hB:mroIn K aL (.type "tuple")=some false)
  (kC:mroIn K aL (.type "dict")=some false)
  (hC:mroIn K aL (.ref aB)=some false)
  (hD:(Value.ref aL == Value.ref aB)=false)
  (hE:mroIn K aL (.ref aC)=some false)
  (hF:(Value.ref aL == Value.ref aC)=false)
  (eU:mroIn K aL (.ref aA)=some false)
  (eV:(Value.ref aL == Value.ref aA)=false)
  (kD:mroIn K aL (.ref aN)=some false)
  (kE:(Value.ref aL == Value.ref aN)=false)
  (hG:mroIn K aL (.ref aE)=some false)
  (hH:(Value.ref aL == Value.ref aE)=false)
  (kF:mroIn K aL (.ref aI)=some false)
  (kG:(Value.ref aL == Value.ref aI)=false)
  (kH:mroIn K aL (.ref aH)=some false)
  (kI:(Value.ref aL == Value.ref aH)=false)
  (mB:mroIn K aL (.ref aK)=some false)
  (mC:(Value.ref aL == Value.ref aK)=false)
  (hI:mroIn K aL (.ref aD)=some false)
  (hJ:(Value.ref aL == Value.ref aD)=false)
  (oY:plainGet K aC Str.empty=true)
  (oZ:hasDictIn K aC=true)
  (pA:plainOver K aC=true)
  (pB:findIn K (.ref aC) "__setattr__"=some (some (.builtin "object.__setattr__")))
  (pC:makesIn K aC=true)
  (pD:keepIn K (.ref aC)=true)
  (pE:findIn K (.ref aC) "__init__"=some (some (.ref f7)))
  (hK:findIn K (.ref aC) "left"=some none)
  (eW:findIn K (.ref aC) "right"=some none)
  (bR:findIn K (.ref aC) "made_of"=some (some (.ref f9)))
  (pF:findIn K (.ref aC) "__class__"=some (some (.builtin "object.__class__")))
  (pG:mroIn K aC (.type "object")=some true)
  (eX:mroIn K aC (.ref aB)=some false)
  (eY:(Value.ref aC == Value.ref aB)=false)
  (eZ:mroIn K aC (.ref aC)=some true)
  (cV:mroIn K aC (.ref aA)=some false)
  (cW:(Value.ref aC == Value.ref aA)=false)
  (hL:mroIn K aC (.ref aN)=some true)
  (fA:mroIn K aC (.ref aE)=some false)
  (fB:(Value.ref aC == Value.ref aE)=false)
  (hM:mroIn K aC (.ref aI)=some false)
  (hN:(Value.ref aC == Value.ref aI)=false)
  (hO:mroIn K aC (.ref aH)=some false)
  (hP:(Value.ref aC == Value.ref aH)=false)
  (kJ:mroIn K aC (.ref aK)=some false)
  (kK:(Value.ref aC == Value.ref aK)=false)
  (fC:mroIn K aC (.ref aD)=some false)
  (fD:(Value.ref aC == Value.ref aD)=false)
  (nS:plainGet K aA Str.empty=true)
  (nT:hasDictIn K aA=true)
  (nU:plainOver K aA=true)
  (nV:findIn K (.ref aA) "__setattr__"=some (some (.builtin "object.__setattr__")))
  (nW:makesIn K aA=true)
  (nX:keepIn K (.ref aA)=true)
  (nY:findIn K (.ref aA) "__init__"=some (some (.ref f4)))
  (bS:findIn K (.ref aA) "number"=some none)
  (nZ:findIn K (.ref aA) "__class__"=some (some (.builtin "object.__class__")))
  (oA:mroIn K aA (.type "object")=some true)
  (cX:mroIn K aA (.ref aB)=some false)
  (cY:(Value.ref aA == Value.ref aB)=false)
  (cZ:mroIn K aA (.ref aC)=some false)
  (dA:(Value.ref aA == Value.ref aC)=false)
  (bT:mroIn K aA (.ref aA)=some true)
  (fE:mroIn K aA (.ref aN)=some false)
  (fF:(Value.ref aA == Value.ref aN)=false)
  (dB:mroIn K aA (.ref aE)=some false)
  (dC:(Value.ref aA == Value.ref aE)=false)
  (fG:mroIn K aA (.ref aI)=some false)
  (fH:(Value.ref aA == Value.ref aI)=false)
  (fI:mroIn K aA (.ref aH)=some false)
  (fJ:(Value.ref aA == Value.ref aH)=false)
  (hQ:mroIn K aA (.ref aK)=some false)
  (hR:(Value.ref aA == Value.ref aK)=false)
  (dD:mroIn K aA (.ref aD)=some false)
  (dE:(Value.ref aA == Value.ref aD)=false)
  (qN:plainGet K aM Str.empty=true)
  (qO:hasDictIn K aM=true)
  (qP:plainOver K aM=true)
  (qQ:findIn K (.ref aM) "__setattr__"=some (some (.builtin "object.__setattr__")))
  (qR:makesIn K aM=true)
  (qS:keepIn K (.ref aM)=true)
  (qT:findIn K (.ref aM) "__init__"=some (some (.ref sY)))
  (kL:findIn K (.ref aM) "term"=some none)
  (kM:findIn K (.ref aM) "sums"=some none)
  (fK:findIn K (.ref aM) "guards"=some none)
  (qU:findIn K (.ref aM) "__class__"=some (some (.builtin "object.__class__")))
  (qV:mroIn K aM (.type "object")=some true)
  (hT:mroIn K aM (.ref aB)=some false)
  (hU:(Value.ref aM == Value.ref aB)=false)
  (hV:mroIn K aM (.ref aC)=some false)
  (hW:(Value.ref aM == Value.ref aC)=false)
  (fL:mroIn K aM (.ref aA)=some false)
  (fM:(Value.ref aM == Value.ref aA)=false)
  (kN:mroIn K aM (.ref aN)=some false)
  (kO:(Value.ref aM == Value.ref aN)=false)
  (hX:mroIn K aM (.ref aE)=some false)
  (hZ:(Value.ref aM == Value.ref aE)=false)
  (kP:mroIn K aM (.ref aI)=some false)
  (kQ:(Value.ref aM == Value.ref aI)=false)
  (kR:mroIn K aM (.ref aH)=some false)
  (kS:(Value.ref aM == Value.ref aH)=false)
  (mD:mroIn K aM (.ref aK)=some false)
  (mE:(Value.ref aM == Value.ref aK)=false)
  (iA:mroIn K aM (.ref aD)=some false)
  (iB:(Value.ref aM == Value.ref aD)=false)
  (pH:plainGet K aE Str.empty=true)
  (pI:hasDictIn K aE=true)
  (pJ:plainOver K aE=true)
  (pK:findIn K (.ref aE) "__setattr__"=some (some (.builtin "object.__setattr__")))
  (pL:makesIn K aE=true)
  (pM:keepIn K (.ref aE)=true)
  (pN:findIn K (.ref aE) "__init__"=some (some (.ref f5)))
  (iC:findIn K (.ref aE) "axis"=some none)
  (pO:findIn K (.ref aE) "__class__"=some (some (.builtin "object.__class__")))
  (pP:mroIn K aE (.type "object")=some true)
  (fN:mroIn K aE (.ref aB)=some false)
  (fO:(Value.ref aE == Value.ref aB)=false)
  (fP:mroIn K aE (.ref aC)=some false)
  (fQ:(Value.ref aE == Value.ref aC)=false)
  (dF:mroIn K aE (.ref aA)=some false)
  (dG:(Value.ref aE == Value.ref aA)=false)
  (iD:mroIn K aE (.ref aN)=some false)
  (iE:(Value.ref aE == Value.ref aN)=false)
  (fR:mroIn K aE (.ref aE)=some true)
  (iF:mroIn K aE (.ref aI)=some false)
  (iG:(Value.ref aE == Value.ref aI)=false)
  (iH:mroIn K aE (.ref aH)=some false)
  (iI:(Value.ref aE == Value.ref aH)=false)
  (kT:mroIn K aE (.ref aK)=some false)
  (kU:(Value.ref aE == Value.ref aK)=false)
  (fS:mroIn K aE (.ref aD)=some false)
  (fT:(Value.ref aE == Value.ref aD)=false)
  (qW:plainGet K aI Str.empty=true)
  (qX:hasDictIn K aI=true)
  (qY:plainOver K aI=true)
  (qZ:findIn K (.ref aI) "__setattr__"=some (some (.builtin "object.__setattr__")))
  (rA:makesIn K aI=true)
  (rB:keepIn K (.ref aI)=true)
  (rC:findIn K (.ref aI) "__init__"=some (some (.ref f7)))
  (kV:findIn K (.ref aI) "left"=some none)
  (iJ:findIn K (.ref aI) "right"=some none)
  (dH:findIn K (.ref aI) "made_of"=some (some (.ref f8)))
  (rD:findIn K (.ref aI) "__class__"=some (some (.builtin "object.__class__")))
  (rE:mroIn K aI (.type "object")=some true)
  (iK:mroIn K aI (.ref aB)=some false)
  (iL:(Value.ref aI == Value.ref aB)=false)
  (iM:mroIn K aI (.ref aC)=some false)
  (iN:(Value.ref aI == Value.ref aC)=false)
  (fU:mroIn K aI (.ref aA)=some false)
  (fV:(Value.ref aI == Value.ref aA)=false)
  (kW:mroIn K aI (.ref aN)=some true)
  (iO:mroIn K aI (.ref aE)=some false)
  (iP:(Value.ref aI == Value.ref aE)=false)
  (kX:mroIn K aI (.ref aI)=some true)
  (kY:mroIn K aI (.ref aH)=some false)
  (kZ:(Value.ref aI == Value.ref aH)=false)
  (mF:mroIn K aI (.ref aK)=some false)
  (mG:(Value.ref aI == Value.ref aK)=false)
  (iQ:mroIn K aI (.ref aD)=some false)
  (iR:(Value.ref aI == Value.ref aD)=false)
  (mW:plainGet K aF Str.empty=true)
  (mX:hasDictIn K aF=true)
  (mY:plainOver K aF=true)
  (mZ:findIn K (.ref aF) "__setattr__"=some (some (.builtin "object.__setattr__")))
  (nA:makesIn K aF=true)
  (nB:keepIn K (.ref aF)=true)
  (nC:findIn K (.ref aF) "__init__"=some (some (.ref tA)))
  (bU:findIn K (.ref aF) "wheel"=some none)
  (dI:findIn K (.ref aF) "axes"=some none)
  (bK:findIn K (.ref aF) "tables"=some none)
  (dJ:findIn K (.ref aF) "lets"=some none)
  (dK:findIn K (.ref aF) "outs"=some none)
  (nD:findIn K (.ref aF) "__class__"=some (some (.builtin "object.__class__")))
  (nE:mroIn K aF (.type "object")=some true)
  (bV:mroIn K aF (.ref aB)=some false)
  (bW:(Value.ref aF == Value.ref aB)=false)
  (bX:mroIn K aF (.ref aC)=some false)
  (bY:(Value.ref aF == Value.ref aC)=false)
  (bL:mroIn K aF (.ref aA)=some false)
  (bM:(Value.ref aF == Value.ref aA)=false)
  (dL:mroIn K aF (.ref aN)=some false)
  (dM:(Value.ref aF == Value.ref aN)=false)
  (bZ:mroIn K aF (.ref aE)=some false)
  (cA:(Value.ref aF == Value.ref aE)=false)
  (dN:mroIn K aF (.ref aI)=some false)
  (dO:(Value.ref aF == Value.ref aI)=false)
  (dP:mroIn K aF (.ref aH)=some false)
  (dQ:(Value.ref aF == Value.ref aH)=false)
  (fW:mroIn K aF (.ref aK)=some false)
  (fX:(Value.ref aF == Value.ref aK)=false)
  (cB:mroIn K aF (.ref aD)=some false)
  (cC:(Value.ref aF == Value.ref aD)=false)
  (rF:plainGet K aH Str.empty=true)
  (rG:hasDictIn K aH=true)
  (rH:plainOver K aH=true)
  (rI:findIn K (.ref aH) "__setattr__"=some (some (.builtin "object.__setattr__")))
  (rJ:makesIn K aH=true)
  (rK:keepIn K (.ref aH)=true)
  (rL:findIn K (.ref aH) "__init__"=some (some (.ref f6)))
  (iS:findIn K (.ref aH) "array"=some none)
  (dR:findIn K (.ref aH) "indexes"=some none)
  (rM:findIn K (.ref aH) "__class__"=some (some (.builtin "object.__class__")))
  (rN:mroIn K aH (.type "object")=some true)
  (iT:mroIn K aH (.ref aB)=some false)
  (iU:(Value.ref aH == Value.ref aB)=false)
  (iV:mroIn K aH (.ref aC)=some false)
  (iW:(Value.ref aH == Value.ref aC)=false)
  (fY:mroIn K aH (.ref aA)=some false)
  (fZ:(Value.ref aH == Value.ref aA)=false)
  (lA:mroIn K aH (.ref aN)=some false)
  (lB:(Value.ref aH == Value.ref aN)=false)
  (iX:mroIn K aH (.ref aE)=some false)
  (iY:(Value.ref aH == Value.ref aE)=false)
  (lC:mroIn K aH (.ref aI)=some false)
  (lD:(Value.ref aH == Value.ref aI)=false)
  (lE:mroIn K aH (.ref aH)=some true)
  (mH:mroIn K aH (.ref aK)=some false)
  (mI:(Value.ref aH == Value.ref aK)=false)
  (iZ:mroIn K aH (.ref aD)=some false)
  (jA:(Value.ref aH == Value.ref aD)=false)
  (sB:plainGet K aK Str.empty=true)
  (sC:hasDictIn K aK=true)
  (sD:plainOver K aK=true)
  (sE:findIn K (.ref aK) "__setattr__"=some (some (.builtin "object.__setattr__")))
  (sF:makesIn K aK=true)
  (sG:keepIn K (.ref aK)=true)
  (sH:findIn K (.ref aK) "__init__"=some (some (.ref sV)))
  (mJ:findIn K (.ref aK) "axis"=some none)
  (mK:findIn K (.ref aK) "body"=some none)
  (sI:findIn K (.ref aK) "__class__"=some (some (.builtin "object.__class__")))
  (sJ:mroIn K aK (.type "object")=some true)
  (lF:mroIn K aK (.ref aB)=some false)
  (lG:(Value.ref aK == Value.ref aB)=false)
  (lH:mroIn K aK (.ref aC)=some false)
  (lI:(Value.ref aK == Value.ref aC)=false)
  (jB:mroIn K aK (.ref aA)=some false)
  (jC:(Value.ref aK == Value.ref aA)=false)
  (mL:mroIn K aK (.ref aN)=some false)
  (mM:(Value.ref aK == Value.ref aN)=false)
  (lJ:mroIn K aK (.ref aE)=some false)
  (lK:(Value.ref aK == Value.ref aE)=false)
  (mN:mroIn K aK (.ref aI)=some false)
  (mO:(Value.ref aK == Value.ref aI)=false)
  (mP:mroIn K aK (.ref aH)=some false)
  (mQ:(Value.ref aK == Value.ref aH)=false)
  (nF:mroIn K aK (.ref aK)=some true)
  (lL:mroIn K aK (.ref aD)=some false)
  (lM:(Value.ref aK == Value.ref aD)=false)
  (pQ:plainGet K aD Str.empty=true)
  (pR:hasDictIn K aD=true)
  (pS:plainOver K aD=true)
  (pT:findIn K (.ref aD) "__setattr__"=some (some (.builtin "object.__setattr__")))
  (pU:makesIn K aD=true)
  (pV:keepIn K (.ref aD)=true)
  (pW:findIn K (.ref aD) "__init__"=some (some (.ref f7)))
  (jD:findIn K (.ref aD) "left"=some none)
  (gA:findIn K (.ref aD) "right"=some none)
  (cD:findIn K (.ref aD) "made_of"=some (some (.ref sU)))
  (pX:findIn K (.ref aD) "__class__"=some (some (.builtin "object.__class__")))
  (pY:mroIn K aD (.type "object")=some true)
  (gB:mroIn K aD (.ref aB)=some false)
  (gC:(Value.ref aD == Value.ref aB)=false)
  (gD:mroIn K aD (.ref aC)=some false)
  (gE:(Value.ref aD == Value.ref aC)=false)
  (dS:mroIn K aD (.ref aA)=some false)
  (dT:(Value.ref aD == Value.ref aA)=false)
  (jE:mroIn K aD (.ref aN)=some true)
  (gF:mroIn K aD (.ref aE)=some false)
  (gG:(Value.ref aD == Value.ref aE)=false)
  (jF:mroIn K aD (.ref aI)=some false)
  (jG:(Value.ref aD == Value.ref aI)=false)
  (jH:mroIn K aD (.ref aH)=some false)
  (jI:(Value.ref aD == Value.ref aH)=false)
  (lN:mroIn K aD (.ref aK)=some false)
  (lO:(Value.ref aD == Value.ref aK)=false)
  (gH:mroIn K aD (.ref aD)=some true)
  (lP:nsIn K mainGlobals "isinstance"=some none)
  (sK:nsIn K mainGlobals "list"=some none)
  (rO:nsIn K mainGlobals "tuple"=some none)
  (sL:nsIn K mainGlobals "dict"=some none)
  (nG:nsIn K mainGlobals "reversed"=some none)
  (sN:nsIn K mainGlobals "len"=some none)
  (rP:nsIn K mainGlobals "range"=some none)
  (sO:nsIn K mainGlobals "int"=some none)
  (sP:nsIn K mainGlobals "min"=some none)
  (sQ:nsIn K mainGlobals "max"=some none)
  (sR:nsIn K mainGlobals "zip"=some none)
  :∃fd:FuncData,(∀(s:Shared) (v:Value),BindsTo s fd ⟨[v],[]⟩ [("_law_script",v)])/\∀base:Heap,K.In base->base.Ns mainGlobals mg->A3h l.prog w K mg base CX0 93 fa fd ["_law_script"] (D0n K):=by
 have e:=hfa.symm.trans (Z0f X G tG);cases e;obtain ⟨d0,F0,b0,k0⟩:=A2b (ps:=B9d) l0 (by walk_at "le");obtain ⟨d1,F1,b1,k1⟩:=A2b (ps:=B9d) l1 (by walk_at "le");obtain ⟨d2,F2,b2,k2⟩:=A2b (ps:=E0j) l2 (by walk_at "le");obtain ⟨d3,F3,b3,k3⟩:=A2b (ps:=D9s) l3 (by walk_at "le");obtain ⟨d4,F4,b4,k4⟩:=A2b (ps:=D9d) l4 (by walk_at "le");obtain ⟨d5,F5,b5,k5⟩:=A2b (ps:=["self","axis"]) l5 (by walk_at "le");obtain ⟨d6,F6,b6,k6⟩:=A2b (ps:=E0a) l6 (by walk_at "le");obtain ⟨d7,F7,b7,k7⟩:=A2b (ps:=C4m) l7 (by walk_at "le");obtain ⟨d8,F8,b8,k8⟩:=A2b (ps:=C4m) l8 (by walk_at "le");obtain ⟨d9,F9,b9,k9⟩:=A2b (ps:=C4m) l9 (by walk_at "le");obtain ⟨d10,F10,b10,k10⟩:=A2b (ps:=C4m) tH (by walk_at "le");obtain ⟨d11,F11,b11,k11⟩:=A2b (ps:=D9w) tJ (by walk_at "le");obtain ⟨d12,F12,b12,k12⟩:=A2b (ps:=E0b) tL (by walk_at "le");obtain ⟨d13,F13,b13,k13⟩:=A2b (ps:=E0s) tN (by walk_at "le");obtain ⟨d14,F14,b14,k14⟩:=A2b (ps:=D9g) tP (by walk_at "le");obtain ⟨d15,F15,b15,k15⟩:=A2b (ps:=B1s) tS (by walk_at "le");obtain ⟨d16,F16,b16,k16⟩:=A2b (ps:=["part"]) tU (by walk_at "le");obtain ⟨d17,F17,b17,k17⟩:=A2b (ps:=["part"]) tW (by walk_at "le");obtain ⟨d18,F18,b18,k18⟩:=A2b (ps:=B1s) tY (by walk_at "le");obtain ⟨d19,F19,b19,k19⟩:=A2b (ps:=["part"]) uA (by walk_at "le");obtain ⟨d20,F20,b20,k20⟩:=A2b (ps:=D2g) uB (by walk_at "le");obtain ⟨d21,F21,b21,k21⟩:=A2b (ps:=D4p) uD (by walk_at "le");obtain ⟨d22,F22,b22,k22⟩:=A2b (ps:=A9h) uG (by walk_at "le");obtain ⟨d23,F23,b23,k23⟩:=A2b (ps:=A9h) uI (by walk_at "le");obtain ⟨d24,F24,b24,k24⟩:=A2b (ps:=A9h) uK (by walk_at "le");obtain ⟨d25,F25,b25,k25⟩:=A2b (ps:=A9h) uM (by walk_at "le");obtain ⟨d26,F26,b26,k26⟩:=A2b (ps:=A9h) uO (by walk_at "le");obtain ⟨d27,F27,b27,k27⟩:=A2b (ps:=["self","known"]) uP (by walk_at "le");obtain ⟨d28,F28,b28,k28⟩:=A2b (ps:=["self","let"]) uR (by walk_at "le");obtain ⟨d29,F29,b29,k29⟩:=A2b (ps:=B1m) uT (by walk_at "le");obtain ⟨d30,F30,b30,k30⟩:=A2b (ps:=B1m) uV (by walk_at "le");obtain ⟨d31,F31,b31,k31⟩:=A2b (ps:=["self"]) uX (by walk_at "le");obtain ⟨d32,F32,b32,k32⟩:=A2b (ps:=["body","guards"]) vA (by walk_at "le");obtain ⟨d33,F33,b33,k33⟩:=A2b (ps:=B1s) vC (by walk_at "le");obtain ⟨d34,F34,b34,k34⟩:=A2b (ps:=B1s) vE (by walk_at "le");obtain ⟨d35,F35,b35,k35⟩:=A2b (ps:=D2p) vG (by walk_at "le");obtain ⟨d36,F36,b36,k36⟩:=A2b (ps:=C4k) vI (by walk_at "le");obtain ⟨d37,F37,b37,k37⟩:=A2b (ps:=C4k) vK (by walk_at "le");obtain ⟨d38,F38,b38,k38⟩:=A2b (ps:=D4g) vM (by walk_at "le");obtain ⟨d39,F39,b39,k39⟩:=A2b (ps:=["_law_rest"]) vO (by walk_at "le");obtain ⟨d40,F40,b40,k40⟩:=A2b (ps:=C2z) vQ (by walk_at "le");obtain ⟨d41,F41,b41,k41⟩:=A2b (ps:=D2w) vS (by walk_at "le");obtain ⟨d42,F42,b42,k42⟩:=A2b (ps:=D3n) vU (by walk_at "le");obtain ⟨d43,F43,b43,k43⟩:=A2b (ps:=D3t) vW (by walk_at "le");obtain ⟨d44,F44,b44,k44⟩:=A2b (ps:=D4s) vY (by walk_at "le");obtain ⟨d45,F45,b45,k45⟩:=A2b (ps:=D4e) wA (by walk_at "le");obtain ⟨d46,F46,b46,k46⟩:=A2b (ps:=D4f) wC (by walk_at "le");obtain ⟨d47,F47,b47,k47⟩:=A2b (ps:=C2x) wE (by walk_at "le");obtain ⟨d48,F48,b48,k48⟩:=A2b (ps:=C4c) wG (by walk_at "le");obtain ⟨d49,F49,b49,k49⟩:=A2b (ps:=D2f) wI (by walk_at "le");obtain ⟨d50,F50,b50,k50⟩:=A2b (ps:=D3i) wK (by walk_at "le");obtain ⟨d51,F51,b51,k51⟩:=A2b (ps:=C4f) wM (by walk_at "le");obtain ⟨d52,F52,b52,k52⟩:=A2b (ps:=C2t) wO (by walk_at "le");obtain ⟨d53,F53,b53,k53⟩:=A2b (ps:=C3s) wQ (by walk_at "le");obtain ⟨d54,F54,b54,k54⟩:=A2b (ps:=C2z) wS (by walk_at "le");obtain ⟨d55,F55,b55,k55⟩:=A2b (ps:=["_law_indexes","_law_at"]) wU (by walk_at "le");obtain ⟨d56,F56,b56,k56⟩:=A2b (ps:=C3z) wW (by walk_at "le");obtain ⟨d57,F57,b57,k57⟩:=A2b (ps:=C3d) wY (by walk_at "le");obtain ⟨d58,F58,b58,k58⟩:=A2b (ps:=["_law_one","_law_other"]) xA (by walk_at "le");obtain ⟨d59,F59,b59,k59⟩:=A2b (ps:=D4v) xC (by walk_at "le");obtain ⟨d60,F60,b60,k60⟩:=A2b (ps:=C3s) xE (by walk_at "le");obtain ⟨_,_,_,_,_,_,_,_,_,sT,c,k61⟩:=sT;have F61:=D1x (st:=C9p) sT c k61;have b61:=F61.binds (ps:=C4f) (by walk_at "le");exact ⟨_,λs v=> .of_eq rfl,λbase _ _=>D5k (t:=⟨aL,aJ,sS,aA,aE,aH,aN,aI,aC,aD,aK,aB,aM,aQ,aF,aG,f0,_,f1,_,f2,_,f3,_,f4,_,f5,_,f6,_,f7,_,f8,_,f9,_,sU,_,sV,_,sW,_,sX,_,sY,_,xF,_,xG,_,xH,_,xI,_,xJ,_,sZ,_,tA,_,xK,_,xL,_,xM,_,xN,_,xO,_,tB,_,tC,_,tD,_,tE,_,tF,_,xP,_,xQ,_,xR,_,xS,_,xT,_,xU,_,xV,_,xW,_,xX,_,xY,_,xZ,_,yA,_,yB,_,yC,_,yD,_,yE,_,yF,_,yG,_,yH,_,yI,_,yJ,_,yK,_,yL,_,yM,_,yN,_,yO,_,yP,_,yQ,_,yR,_,fa,_⟩) ⟨⟨F0,Z0f X G a0,b0⟩,⟨F1,Z0f X G a1,b1⟩,⟨F2,b2⟩,⟨F3,b3⟩,⟨F4,b4⟩,⟨F5,b5⟩,⟨F6,b6⟩,⟨F7,b7⟩,⟨F8,b8⟩,⟨F9,b9⟩,⟨F10,b10⟩,⟨F11,b11⟩,⟨F12,b12⟩,⟨F13,b13⟩,⟨F14,b14⟩,⟨F15,Z0f X G tR,b15⟩,⟨F16,Z0f X G tT,b16⟩,⟨F17,Z0f X G tV,b17⟩,⟨F18,Z0f X G tX,b18⟩,⟨F19,Z0f X G tZ,b19⟩,⟨F20,b20⟩,⟨F21,b21⟩,⟨F22,Z0f X G uF,b22⟩,⟨F23,Z0f X G uH,b23⟩,⟨F24,Z0f X G uJ,b24⟩,⟨F25,Z0f X G uL,b25⟩,⟨F26,Z0f X G uN,b26⟩,⟨F27,b27⟩,⟨F28,b28⟩,⟨F29,b29⟩,⟨F30,b30⟩,⟨F31,b31⟩,⟨F32,Z0f X G uZ,b32⟩,⟨F33,Z0f X G vB,b33⟩,⟨F34,Z0f X G vD,b34⟩,⟨F35,Z0f X G vF,b35⟩,⟨F36,Z0f X G vH,b36⟩,⟨F37,Z0f X G vJ,b37⟩,⟨F38,Z0f X G vL,b38⟩,⟨F39,Z0f X G vN,b39⟩,⟨F40,Z0f X G vP,b40⟩,⟨F41,Z0f X G vR,b41⟩,⟨F42,Z0f X G vT,b42⟩,⟨F43,Z0f X G vV,b43⟩,⟨F44,Z0f X G vX,b44⟩,⟨F45,Z0f X G vZ,b45⟩,⟨F46,Z0f X G wB,b46⟩,⟨F47,Z0f X G wD,b47⟩,⟨F48,Z0f X G wF,b48⟩,⟨F49,Z0f X G wH,b49⟩,⟨F50,Z0f X G wJ,b50⟩,⟨F51,Z0f X G wL,b51⟩,⟨F52,Z0f X G wN,b52⟩,⟨F53,Z0f X G wP,b53⟩,⟨F54,Z0f X G wR,b54⟩,⟨F55,Z0f X G wT,b55⟩,⟨F56,Z0f X G wV,b56⟩,⟨F57,Z0f X G wX,b57⟩,⟨F58,Z0f X G wZ,b58⟩,⟨F59,Z0f X G xB,b59⟩,⟨F60,Z0f X G xD,b60⟩,⟨F61,Z0f X G tG,b61⟩,Z0f X G pZ,Z0f X G oB,Z0f X G nH,Z0f X G oC,Z0f X G qA,Z0f X G qB,Z0f X G qC,Z0f X G oD,Z0f X G oE,Z0f X G rQ,Z0f X G oF,Z0f X G qD,Z0f X G rR,Z0f X G mT,Z0f X G nI,⟨oG,oH,oI,oJ⟩,⟨oK,oM,i3,oL⟩,dU,bN,cE,cF,dV,gI,⟨oN,mR,mS,oO⟩,A0h dX aR aS dW,A0h dZ aT aU dY,A0h cH aO aP cG,A0h gK aZ bA gJ,A0h eB aV aW eA,A0h gM bB bC gL,A0h gO bD bE gN,A0h jK bH bI jJ,A0h eD aX aY eC,⟨oP,oQ,oR,oS⟩,⟨oT,oV,tM,oU⟩,gP,jL,gQ,eE,eF,⟨bO,tO,k13⟩,⟨oW,mR,mS,oX⟩,A4l aR aS eG,A0h eI aT aU eH,A0h cJ aO aP cI,A0h gS aZ bA gR,A0h eK aV aW eJ,A0h gU bB bC gT,A0h gW bD bE gV,A0h jN bH bI jM,A0h eM aX aY eL,⟨rS,rT,rU,rV⟩,⟨rW,rY,uC,rX⟩,lQ,lR,lS,⟨rZ,mR,mS,sA⟩,lT,jO,lU,A0h jQ aR aS jP,A0h jS aT aU jR,A0h gY aO aP gX,A0h lW aZ bA lV,A0h jU aV aW jT,A0h lY bB bC lX,A0h mA bD bE lZ,A0h mV bH bI mU,A0h jW aX aY jV,⟨nJ,nK,nL,nM⟩,⟨nN,nP,uQ,nO⟩,cK,cL,cM,⟨bG,uY,k31⟩,⟨eN,uW,k30⟩,⟨bJ,uS,k28⟩,⟨bF,uU,k29⟩,⟨nQ,mR,mS,nR⟩,A0h cO aR aS cN,A0h cQ aT aU cP,A0h bQ aO aP bP,A0h eP aZ bA eO,A0h cS aV aW cR,A0h eR bB bC eQ,A0h eT bD bE eS,A0h hA bH bI gZ,A0h cU aX aY cT,⟨qE,qF,qG,qH⟩,⟨qI,qK,i2,qJ⟩,jX,jY,jZ,kA,⟨qL,mR,mS,qM⟩,kB,hB,kC,A0h hD aR aS hC,A0h hF aT aU hE,A0h eV aO aP eU,A0h kE aZ bA kD,A0h hH aV aW hG,A0h kG bB bC kF,A0h kI bD bE kH,A0h mC bH bI mB,A0h hJ aX aY hI,⟨oY,oZ,pA,pB⟩,⟨pC,pE,i7,pD⟩,hK,eW,⟨bR,i9,k9⟩,⟨pF,mR,mS,pG⟩,A0h eY aR aS eX,A4l aT aU eZ,A0h cW aO aP cV,A4l aZ bA hL,A0h fB aV aW fA,A0h hN bB bC hM,A0h hP bD bE hO,A0h kK bH bI kJ,A0h fD aX aY fC,⟨nS,nT,nU,nV⟩,⟨nW,nY,i4,nX⟩,bS,⟨nZ,mR,mS,oA⟩,A0h cY aR aS cX,A0h dA aT aU cZ,A4l aO aP bT,A0h fF aZ bA fE,A0h dC aV aW dB,A0h fH bB bC fG,A0h fJ bD bE fI,A0h hR bH bI hQ,A0h dE aX aY dD,⟨qN,qO,qP,qQ⟩,⟨qR,qT,tQ,qS⟩,kL,kM,fK,⟨qU,mR,mS,qV⟩,A0h hU aR aS hT,A0h hW aT aU hV,A0h fM aO aP fL,A0h kO aZ bA kN,A0h hZ aV aW hX,A0h kQ bB bC kP,A0h kS bD bE kR,A0h mE bH bI mD,A0h iB aX aY iA,⟨pH,pI,pJ,pK⟩,⟨pL,pN,i5,pM⟩,iC,⟨pO,mR,mS,pP⟩,A0h fO aR aS fN,A0h fQ aT aU fP,A0h dG aO aP dF,A0h iE aZ bA iD,A4l aV aW fR,A0h iG bB bC iF,A0h iI bD bE iH,A0h kU bH bI kT,A0h fT aX aY fS,⟨qW,qX,qY,qZ⟩,⟨rA,rC,i7,rB⟩,kV,iJ,⟨dH,i8,k8⟩,⟨rD,mR,mS,rE⟩,A0h iL aR aS iK,A0h iN aT aU iM,A0h fV aO aP fU,A4l aZ bA kW,A0h iP aV aW iO,A4l bB bC kX,A0h kZ bD bE kY,A0h mG bH bI mF,A0h iR aX aY iQ,⟨mW,mX,mY,mZ⟩,⟨nA,nC,uE,nB⟩,bU,dI,bK,dJ,dK,⟨nD,mR,mS,nE⟩,A0h bW aR aS bV,A0h bY aT aU bX,A0h bM aO aP bL,A0h dM aZ bA dL,A0h cA aV aW bZ,A0h dO bB bC dN,A0h dQ bD bE dP,A0h fX bH bI fW,A0h cC aX aY cB,⟨rF,rG,rH,rI⟩,⟨rJ,rL,i6,rK⟩,iS,dR,⟨rM,mR,mS,rN⟩,A0h iU aR aS iT,A0h iW aT aU iV,A0h fZ aO aP fY,A0h lB aZ bA lA,A0h iY aV aW iX,A0h lD bB bC lC,A4l bD bE lE,A0h mI bH bI mH,A0h jA aX aY iZ,⟨sB,sC,sD,sE⟩,⟨sF,sH,tK,sG⟩,mJ,mK,⟨sI,mR,mS,sJ⟩,A0h lG aR aS lF,A0h lI aT aU lH,A0h jC aO aP jB,A0h mM aZ bA mL,A0h lK aV aW lJ,A0h mO bB bC mN,A0h mQ bD bE mP,A4l bH bI nF,A0h lM aX aY lL,⟨pQ,pR,pS,pT⟩,⟨pU,pW,i7,pV⟩,jD,gA,⟨cD,tI,k10⟩,⟨pX,mR,mS,pY⟩,A0h gC aR aS gB,A0h gE aT aU gD,A0h dT aO aP dS,A4l aZ bA jE,A0h gG aV aW gF,A0h jG bB bC jF,A0h jI bD bE jH,A0h lO bH bI lN,A4l aX aY gH,Z1c X G lP,Z1c X G sK,Z1c X G rO,Z1c X G sL,Z1c X G nG,Z1c X G sN,Z1c X G rP,Z1c X G sO,Z1c X G sP,Z1c X G sQ,Z1c X G sR⟩⟩
theorem walk {q:Program} {loose:List Str} {YP:World->Heap->Prop} {d:DefRec} {K:Params->Frag} (hn:l.most=some 63) (hdf:d.params.defaults=[])
  (hY:∀(w:World) (h:Heap),YP w h->(K w.params).In h)
  (F:∀(w:World) (mg:Str->Option Value) (fa:Addr) (h:Heap),(K w.params).In h->h.Ns mainGlobals mg->mg d.name=some (.ref fa)->
   ∃fd:FuncData,(∀(s:Shared) (u:Value),BindsTo s fd ⟨[u],[]⟩ [("_law_script",u)])/\∀base:Heap,(K w.params).In base->base.Ns mainGlobals mg->A3h l.prog w (K w.params) mg base CX0 93 fa fd ["_law_script"] (D0n (K w.params))) :
  PySem.W.WalkO q loose XP YP l.row.toRowW d [] (λf vs=>PySem.call f vs) :=
 L2.D3c (n:=63) (k:=93) (x:="_law_script") (CX:=λ_=>CX0) (sp:=λw=>D0n (K w.params)) hn (by decide) hdf ⟨rfl,by decide,by decide,rfl⟩ hY F (λ_ _ a ns hl _ hS=>⟨a,ns,rfl,hS,hl,λ_=>rfl⟩) λ_ _ _ _ _ z=>z
end My
local macro_rules | `(tactic| walk_at "kf") => `(tactic| (refine' My.D5p ?l ?c ?k; (case l => k_is); (case c => k_is); (case k => k_is)))
open PySem PySem.W PyProof.Rows
set_option maxRecDepth 100000 in
set_option maxHeartbeats 0 in
theorem PySem.Challenge.cw_arrayloom_k33_lines_read_ahead_holds : PySem.Challenge.rw_arrayloom_k33_lines_read_ahead.Holds := by
 w_on;o_law;k_head;(case hw=>w_witness2)
 k_fill
 refine My.walk (l:=PySem.Challenge.rw_arrayloom_k33_lines_read_ahead) rfl rfl (λw h Y=>PySem.W.kIn_of Y) ?F
 case F =>
  intro w mg fa h KX G hmg;refine' My.D6v KX G hmg ?pZ ?oB ?sM ?nH ?oC ?qA ?qB ?qC ?oD ?oE ?rQ ?oF ?qD ?rR ?mT ?nI ?a0 ?l0 ?a1 ?l1 ?a2 ?l2 ?i2 ?a3 ?l3 ?i3 ?a4 ?l4 ?i4 ?a5 ?l5 ?i5 ?a6 ?l6 ?i6 ?a7 ?l7 ?i7 ?a8 ?l8 ?i8 ?a9 ?l9 ?i9 ?yS ?tH ?tI ?yT ?tJ ?tK ?yU ?tL ?tM ?yV ?tN ?tO ?yW ?tP ?tQ ?tR ?tS ?tT ?tU ?tV ?tW ?tX ?tY ?tZ ?uA ?yX ?uB ?uC ?yY ?uD ?uE ?uF ?uG ?uH ?uI ?uJ ?uK ?uL ?uM ?uN ?uO ?yZ ?uP ?uQ ?zA ?uR ?uS ?zB ?uT ?uU ?zC ?uV ?uW ?zD ?uX ?uY ?uZ ?vA ?vB ?vC ?vD ?vE ?vF ?vG ?vH ?vI ?vJ ?vK ?vL ?vM ?vN ?vO ?vP ?vQ ?vR ?vS ?vT ?vU ?vV ?vW ?vX ?vY ?vZ ?wA ?wB ?wC ?wD ?wE ?wF ?wG ?wH ?wI ?wJ ?wK ?wL ?wM ?wN ?wO ?wP ?wQ ?wR ?wS ?wT ?wU ?wV ?wW ?wX ?wY ?wZ ?xA ?xB ?xC ?xD ?xE ?tG ?sT ?oG ?oH ?oI ?oJ ?oK ?oL ?oM ?dU ?bN ?cE ?cF ?dV ?gI ?oN ?mR ?mS ?oO ?aR ?aS ?dW ?dX ?aT ?aU ?dY ?dZ ?aO ?aP ?cG ?cH ?aZ ?bA ?gJ ?gK ?aV ?aW ?eA ?eB ?bB ?bC ?gL ?gM ?bD ?bE ?gN ?gO ?bH ?bI ?jJ ?jK ?aX ?aY ?eC ?eD ?oP ?oQ ?oR ?oS ?oT ?oU ?oV ?gP ?jL ?gQ ?eE ?eF ?bO ?oW ?oX ?eG ?eH ?eI ?cI ?cJ ?gR ?gS ?eJ ?eK ?gT ?gU ?gV ?gW ?jM ?jN ?eL ?eM ?rS ?rT ?rU ?rV ?rW ?rX ?rY ?lQ ?lR ?lS ?rZ ?sA ?lT ?jO ?lU ?jP ?jQ ?jR ?jS ?gX ?gY ?lV ?lW ?jT ?jU ?lX ?lY ?lZ ?mA ?mU ?mV ?jV ?jW ?nJ ?nK ?nL ?nM ?nN ?nO ?nP ?cK ?cL ?cM ?bG ?eN ?bJ ?bF ?nQ ?nR ?cN ?cO ?cP ?cQ ?bP ?bQ ?eO ?eP ?cR ?cS ?eQ ?eR ?eS ?eT ?gZ ?hA ?cT ?cU ?qE ?qF ?qG ?qH ?qI ?qJ ?qK ?jX ?jY ?jZ ?kA ?qL ?qM ?kB ?hB ?kC ?hC ?hD ?hE ?hF ?eU ?eV ?kD ?kE ?hG ?hH ?kF ?kG ?kH ?kI ?mB ?mC ?hI ?hJ ?oY ?oZ ?pA ?pB ?pC ?pD ?pE ?hK ?eW ?bR ?pF ?pG ?eX ?eY ?eZ ?cV ?cW ?hL ?fA ?fB ?hM ?hN ?hO ?hP ?kJ ?kK ?fC ?fD ?nS ?nT ?nU ?nV ?nW ?nX ?nY ?bS ?nZ ?oA ?cX ?cY ?cZ ?dA ?bT ?fE ?fF ?dB ?dC ?fG ?fH ?fI ?fJ ?hQ ?hR ?dD ?dE ?qN ?qO ?qP ?qQ ?qR ?qS ?qT ?kL ?kM ?fK ?qU ?qV ?hT ?hU ?hV ?hW ?fL ?fM ?kN ?kO ?hX ?hZ ?kP ?kQ ?kR ?kS ?mD ?mE ?iA ?iB ?pH ?pI ?pJ ?pK ?pL ?pM ?pN ?iC ?pO ?pP ?fN ?fO ?fP ?fQ ?dF ?dG ?iD ?iE ?fR ?iF ?iG ?iH ?iI ?kT ?kU ?fS ?fT ?qW ?qX ?qY ?qZ ?rA ?rB ?rC ?kV ?iJ ?dH ?rD ?rE ?iK ?iL ?iM ?iN ?fU ?fV ?kW ?iO ?iP ?kX ?kY ?kZ ?mF ?mG ?iQ ?iR ?mW ?mX ?mY ?mZ ?nA ?nB ?nC ?bU ?dI ?bK ?dJ ?dK ?nD ?nE ?bV ?bW ?bX ?bY ?bL ?bM ?dL ?dM ?bZ ?cA ?dN ?dO ?dP ?dQ ?fW ?fX ?cB ?cC ?rF ?rG ?rH ?rI ?rJ ?rK ?rL ?iS ?dR ?rM ?rN ?iT ?iU ?iV ?iW ?fY ?fZ ?lA ?lB ?iX ?iY ?lC ?lD ?lE ?mH ?mI ?iZ ?jA ?sB ?sC ?sD ?sE ?sF ?sG ?sH ?mJ ?mK ?sI ?sJ ?lF ?lG ?lH ?lI ?jB ?jC ?mL ?mM ?lJ ?lK ?mN ?mO ?mP ?mQ ?nF ?lL ?lM ?pQ ?pR ?pS ?pT ?pU ?pV ?pW ?jD ?gA ?cD ?pX ?pY ?gB ?gC ?gD ?gE ?dS ?dT ?jE ?gF ?gG ?jF ?jG ?jH ?jI ?lN ?lO ?gH ?lP ?sK ?rO ?sL ?nG ?sN ?rP ?sO ?sP ?sQ ?sR
  (case pZ | oB | sM | nH | oC | qA | qB | qC | oD | oE | rQ=>k_is)
  (case oF | qD | rR | mT | nI=>k_is)
  (case a0=>k_is);(case l0=>walk_at "kf")
  (case a1=>k_is);(case l1=>walk_at "kf")
  (case a2=>k_is);(case l2=>walk_at "kf")
  (case i2=>k_is)
  (case a3=>k_is);(case l3=>walk_at "kf")
  (case i3=>k_is)
  (case a4=>k_is);(case l4=>walk_at "kf")
  (case i4=>k_is)
  (case a5=>k_is);(case l5=>walk_at "kf")
  (case i5=>k_is)
  (case a6=>k_is);(case l6=>walk_at "kf")
  (case i6=>k_is)
  (case a7=>k_is);(case l7=>walk_at "kf")
  (case i7=>k_is)
  (case a8=>k_is);(case l8=>walk_at "kf")
  (case i8=>k_is)
  (case a9=>k_is);(case l9=>walk_at "kf")
  (case i9=>k_is)
  (case yS=>k_is);(case tH=>walk_at "kf")
  (case tI=>k_is)
  (case yT=>k_is);(case tJ=>walk_at "kf")
  (case tK=>k_is)
  (case yU=>k_is);(case tL=>walk_at "kf")
  (case tM=>k_is)
  (case yV=>k_is);(case tN=>walk_at "kf")
  (case tO=>k_is)
  (case yW=>k_is);(case tP=>walk_at "kf")
  (case tQ=>k_is)
  (case tR=>k_is);(case tS=>walk_at "kf")
  (case tT=>k_is);(case tU=>walk_at "kf")
  (case tV=>k_is);(case tW=>walk_at "kf")
  (case tX=>k_is);(case tY=>walk_at "kf")
  (case tZ=>k_is);(case uA=>walk_at "kf")
  (case yX=>k_is);(case uB=>walk_at "kf")
  (case uC=>k_is)
  (case yY=>k_is);(case uD=>walk_at "kf")
  (case uE=>k_is)
  (case uF=>k_is);(case uG=>walk_at "kf")
  (case uH=>k_is);(case uI=>walk_at "kf")
  (case uJ=>k_is);(case uK=>walk_at "kf")
  (case uL=>k_is);(case uM=>walk_at "kf")
  (case uN=>k_is);(case uO=>walk_at "kf")
  (case yZ=>k_is);(case uP=>walk_at "kf")
  (case uQ=>k_is)
  (case zA=>k_is);(case uR=>walk_at "kf")
  (case uS=>k_is)
  (case zB=>k_is);(case uT=>walk_at "kf")
  (case uU=>k_is)
  (case zC=>k_is);(case uV=>walk_at "kf")
  (case uW=>k_is)
  (case zD=>k_is);(case uX=>walk_at "kf")
  (case uY=>k_is)
  (case uZ=>k_is);(case vA=>walk_at "kf")
  (case vB=>k_is);(case vC=>walk_at "kf")
  (case vD=>k_is);(case vE=>walk_at "kf")
  (case vF=>k_is);(case vG=>walk_at "kf")
  (case vH=>k_is);(case vI=>walk_at "kf")
  (case vJ=>k_is);(case vK=>walk_at "kf")
  (case vL=>k_is);(case vM=>walk_at "kf")
  (case vN=>k_is);(case vO=>walk_at "kf")
  (case vP=>k_is);(case vQ=>walk_at "kf")
  (case vR=>k_is);(case vS=>walk_at "kf")
  (case vT=>k_is);(case vU=>walk_at "kf")
  (case vV=>k_is);(case vW=>walk_at "kf")
  (case vX=>k_is);(case vY=>walk_at "kf")
  (case vZ=>k_is);(case wA=>walk_at "kf")
  (case wB=>k_is);(case wC=>walk_at "kf")
  (case wD=>k_is);(case wE=>walk_at "kf")
  (case wF=>k_is);(case wG=>walk_at "kf")
  (case wH=>k_is);(case wI=>walk_at "kf")
  (case wJ=>k_is);(case wK=>walk_at "kf")
  (case wL=>k_is);(case wM=>walk_at "kf")
  (case wN=>k_is);(case wO=>walk_at "kf")
  (case wP=>k_is);(case wQ=>walk_at "kf")
  (case wR=>k_is);(case wS=>walk_at "kf")
  (case wT=>k_is);(case wU=>walk_at "kf")
  (case wV=>k_is);(case wW=>walk_at "kf")
  (case wX=>k_is);(case wY=>walk_at "kf")
  (case wZ=>k_is);(case xA=>walk_at "kf")
  (case xB=>k_is);(case xC=>walk_at "kf")
  (case xD=>k_is);(case xE=>walk_at "kf")
  (case tG=>k_is);(case sT=>walk_at "kf")
  (case oG | oH | oI | oJ | oK | oL | oM | dU | bN | cE | cF=>k_is)
  (case dV | gI | oN | mR | mS | oO | aR | aS | dW=>k_is)
  (case dX=>first | rfl | decide)
  (case aT | aU | dY=>k_is)
  (case dZ=>first | rfl | decide)
  (case aO | aP | cG=>k_is)
  (case cH=>first | rfl | decide)
  (case aZ | bA | gJ=>k_is)
  (case gK=>first | rfl | decide)
  (case aV | aW | eA=>k_is)
  (case eB=>first | rfl | decide)
  (case bB | bC | gL=>k_is)
  (case gM=>first | rfl | decide)
  (case bD | bE | gN=>k_is)
  (case gO=>first | rfl | decide)
  (case bH | bI | jJ=>k_is)
  (case jK=>first | rfl | decide)
  (case aX | aY | eC=>k_is)
  (case eD=>first | rfl | decide)
  (case oP | oQ | oR | oS | oT | oU | oV | gP | jL | gQ | eE=>k_is)
  (case eF | bO | oW | oX | eG | eH=>k_is)
  (case eI=>first | rfl | decide)
  (case cI=>k_is)
  (case cJ=>first | rfl | decide)
  (case gR=>k_is)
  (case gS=>first | rfl | decide)
  (case eJ=>k_is)
  (case eK=>first | rfl | decide)
  (case gT=>k_is)
  (case gU=>first | rfl | decide)
  (case gV=>k_is)
  (case gW=>first | rfl | decide)
  (case jM=>k_is)
  (case jN=>first | rfl | decide)
  (case eL=>k_is)
  (case eM=>first | rfl | decide)
  (case rS | rT | rU | rV | rW | rX | rY | lQ | lR | lS | rZ=>k_is)
  (case sA | lT | jO | lU | jP=>k_is)
  (case jQ=>first | rfl | decide)
  (case jR=>k_is)
  (case jS=>first | rfl | decide)
  (case gX=>k_is)
  (case gY=>first | rfl | decide)
  (case lV=>k_is)
  (case lW=>first | rfl | decide)
  (case jT=>k_is)
  (case jU=>first | rfl | decide)
  (case lX=>k_is)
  (case lY=>first | rfl | decide)
  (case lZ=>k_is)
  (case mA=>first | rfl | decide)
  (case mU=>k_is)
  (case mV=>first | rfl | decide)
  (case jV=>k_is)
  (case jW=>first | rfl | decide)
  (case nJ | nK | nL | nM | nN | nO | nP | cK | cL | cM | bG=>k_is)
  (case eN | bJ | bF | nQ | nR | cN=>k_is)
  (case cO=>first | rfl | decide)
  (case cP=>k_is)
  (case cQ=>first | rfl | decide)
  (case bP=>k_is)
  (case bQ=>first | rfl | decide)
  (case eO=>k_is)
  (case eP=>first | rfl | decide)
  (case cR=>k_is)
  (case cS=>first | rfl | decide)
  (case eQ=>k_is)
  (case eR=>first | rfl | decide)
  (case eS=>k_is)
  (case eT=>first | rfl | decide)
  (case gZ=>k_is)
  (case hA=>first | rfl | decide)
  (case cT=>k_is)
  (case cU=>first | rfl | decide)
  (case qE | qF | qG | qH | qI | qJ | qK | jX | jY | jZ | kA=>k_is)
  (case qL | qM | kB | hB | kC | hC=>k_is)
  (case hD=>first | rfl | decide)
  (case hE=>k_is)
  (case hF=>first | rfl | decide)
  (case eU=>k_is)
  (case eV=>first | rfl | decide)
  (case kD=>k_is)
  (case kE=>first | rfl | decide)
  (case hG=>k_is)
  (case hH=>first | rfl | decide)
  (case kF=>k_is)
  (case kG=>first | rfl | decide)
  (case kH=>k_is)
  (case kI=>first | rfl | decide)
  (case mB=>k_is)
  (case mC=>first | rfl | decide)
  (case hI=>k_is)
  (case hJ=>first | rfl | decide)
  (case oY | oZ | pA | pB | pC | pD | pE | hK | eW | bR | pF=>k_is)
  (case pG | eX=>k_is)
  (case eY=>first | rfl | decide)
  (case eZ | cV=>k_is)
  (case cW=>first | rfl | decide)
  (case hL | fA=>k_is)
  (case fB=>first | rfl | decide)
  (case hM=>k_is)
  (case hN=>first | rfl | decide)
  (case hO=>k_is)
  (case hP=>first | rfl | decide)
  (case kJ=>k_is)
  (case kK=>first | rfl | decide)
  (case fC=>k_is)
  (case fD=>first | rfl | decide)
  (case nS | nT | nU | nV | nW | nX | nY | bS | nZ | oA | cX=>k_is)
  (case cY=>first | rfl | decide)
  (case cZ=>k_is)
  (case dA=>first | rfl | decide)
  (case bT | fE=>k_is)
  (case fF=>first | rfl | decide)
  (case dB=>k_is)
  (case dC=>first | rfl | decide)
  (case fG=>k_is)
  (case fH=>first | rfl | decide)
  (case fI=>k_is)
  (case fJ=>first | rfl | decide)
  (case hQ=>k_is)
  (case hR=>first | rfl | decide)
  (case dD=>k_is)
  (case dE=>first | rfl | decide)
  (case qN | qO | qP | qQ | qR | qS | qT | kL | kM | fK | qU=>k_is)
  (case qV | hT=>k_is)
  (case hU=>first | rfl | decide)
  (case hV=>k_is)
  (case hW=>first | rfl | decide)
  (case fL=>k_is)
  (case fM=>first | rfl | decide)
  (case kN=>k_is)
  (case kO=>first | rfl | decide)
  (case hX=>k_is)
  (case hZ=>first | rfl | decide)
  (case kP=>k_is)
  (case kQ=>first | rfl | decide)
  (case kR=>k_is)
  (case kS=>first | rfl | decide)
  (case mD=>k_is)
  (case mE=>first | rfl | decide)
  (case iA=>k_is)
  (case iB=>first | rfl | decide)
  (case pH | pI | pJ | pK | pL | pM | pN | iC | pO | pP | fN=>k_is)
  (case fO=>first | rfl | decide)
  (case fP=>k_is)
  (case fQ=>first | rfl | decide)
  (case dF=>k_is)
  (case dG=>first | rfl | decide)
  (case iD=>k_is)
  (case iE=>first | rfl | decide)
  (case fR | iF=>k_is)
  (case iG=>first | rfl | decide)
  (case iH=>k_is)
  (case iI=>first | rfl | decide)
  (case kT=>k_is)
  (case kU=>first | rfl | decide)
  (case fS=>k_is)
  (case fT=>first | rfl | decide)
  (case qW | qX | qY | qZ | rA | rB | rC | kV | iJ | dH | rD=>k_is)
  (case rE | iK=>k_is)
  (case iL=>first | rfl | decide)
  (case iM=>k_is)
  (case iN=>first | rfl | decide)
  (case fU=>k_is)
  (case fV=>first | rfl | decide)
  (case kW | iO=>k_is)
  (case iP=>first | rfl | decide)
  (case kX | kY=>k_is)
  (case kZ=>first | rfl | decide)
  (case mF=>k_is)
  (case mG=>first | rfl | decide)
  (case iQ=>k_is)
  (case iR=>first | rfl | decide)
  (case mW | mX | mY | mZ | nA | nB | nC | bU | dI | bK | dJ=>k_is)
  (case dK | nD | nE | bV=>k_is)
  (case bW=>first | rfl | decide)
  (case bX=>k_is)
  (case bY=>first | rfl | decide)
  (case bL=>k_is)
  (case bM=>first | rfl | decide)
  (case dL=>k_is)
  (case dM=>first | rfl | decide)
  (case bZ=>k_is)
  (case cA=>first | rfl | decide)
  (case dN=>k_is)
  (case dO=>first | rfl | decide)
  (case dP=>k_is)
  (case dQ=>first | rfl | decide)
  (case fW=>k_is)
  (case fX=>first | rfl | decide)
  (case cB=>k_is)
  (case cC=>first | rfl | decide)
  (case rF | rG | rH | rI | rJ | rK | rL | iS | dR | rM | rN=>k_is)
  (case iT=>k_is)
  (case iU=>first | rfl | decide)
  (case iV=>k_is)
  (case iW=>first | rfl | decide)
  (case fY=>k_is)
  (case fZ=>first | rfl | decide)
  (case lA=>k_is)
  (case lB=>first | rfl | decide)
  (case iX=>k_is)
  (case iY=>first | rfl | decide)
  (case lC=>k_is)
  (case lD=>first | rfl | decide)
  (case lE | mH=>k_is)
  (case mI=>first | rfl | decide)
  (case iZ=>k_is)
  (case jA=>first | rfl | decide)
  (case sB | sC | sD | sE | sF | sG | sH | mJ | mK | sI | sJ=>k_is)
  (case lF=>k_is)
  (case lG=>first | rfl | decide)
  (case lH=>k_is)
  (case lI=>first | rfl | decide)
  (case jB=>k_is)
  (case jC=>first | rfl | decide)
  (case mL=>k_is)
  (case mM=>first | rfl | decide)
  (case lJ=>k_is)
  (case lK=>first | rfl | decide)
  (case mN=>k_is)
  (case mO=>first | rfl | decide)
  (case mP=>k_is)
  (case mQ=>first | rfl | decide)
  (case nF | lL=>k_is)
  (case lM=>first | rfl | decide)
  (case pQ | pR | pS | pT | pU | pV | pW | jD | gA | cD | pX=>k_is)
  (case pY | gB=>k_is)
  (case gC=>first | rfl | decide)
  (case gD=>k_is)
  (case gE=>first | rfl | decide)
  (case dS=>k_is)
  (case dT=>first | rfl | decide)
  (case jE | gF=>k_is)
  (case gG=>first | rfl | decide)
  (case jF=>k_is)
  (case jG=>first | rfl | decide)
  (case jH=>k_is)
  (case jI=>first | rfl | decide)
  (case lN=>k_is)
  (case lO=>first | rfl | decide)
  (case gH | lP | sK | rO | sL | nG | sN | rP | sO | sP | sQ=>k_is)
  (case sR=>k_is)
