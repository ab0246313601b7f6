import PyProof.Rows.All
import Wide.All
import OpenK.AllK
import Wide.FinOn
import Lean
import PyProof.EqAt
import PyProof.EqKinds
import PyProof.TupleCall
import KE.KDictLaws
import KE.KDictList
import KE.KDictOf
import KE.KEqDict
import KE.KIntText
import KE.KTabLook
import KE.KTryMore
import KE.KUnpack
import PyProof.AttrMissHeap
import PyProof.AutoListH
import PyProof.CollectWalk
import PyProof.CompUse
import PyProof.ConsumeWalk
import PyProof.Conv_int_bool
import PyProof.DictItems
import PyProof.DictValues
import PyProof.DictWalks
import PyProof.Draws
import PyProof.EnumFor
import PyProof.EnumMake
import PyProof.EnumStmt
import PyProof.ExcClass3
import PyProof.ExcInit
import PyProof.FString4
import PyProof.FString5
import PyProof.FactsAll.list_3
import PyProof.FactsAll.set
import PyProof.FactsAll.subtypes_5
import PyProof.FactsAll.zip
import PyProof.NeKinds
import PyProof.P3Eq
import PyProof.RangeIter
import PyProof.ReprHeads
import PyProof.ReprLen
import PyProof.Rows.SeqMore2
import PyProof.Rows.SetFrom
import PyProof.Rows.SortKeyStr
import PyProof.Rows.SortRev
import PyProof.Rows.StrInSeq3
import PyProof.Rows.StrNews
import PyProof.Rows.StrNews2
import PyProof.Rows.TupIter
import PyProof.SetKind
import PyProof.SetRoads
import PyProof.StrLawsRepr
import PyProof.StrWalks
import PyProof.SumAny
import PyProof.TupleKey
import PyProof.WalkInts
import PyProof.Walks
import PySem.Challenge.RW_arrayloom_k32_sums_are_lifted
set_option compiler.extract_closed false
section
open PySem PySem.Spec PyProof.Rows PySem.Calls
abbrev Z00:=@wpAny_bind
abbrev Z01:=@Heap.get?_push_of_some
abbrev Z02:=@List.mem_append_right
abbrev Z03:=@List.getElem?_eq_some_iff
abbrev Z04:=@wpAny_pure
abbrev Z05:=@List.mem_append_left
abbrev Z06:=@List.length_append
abbrev Z07:=@List.mem_append
abbrev Z08:=@List.length_map
abbrev Z09:=@Nat.le_refl
abbrev Z0a:=@Heap.lt_size
abbrev Z0b:=@List.getElem?_eq_getElem
abbrev Z0c:=@Heap.get?_push_size
abbrev Z0d:=@PyProof.Rows.boot_isinstance
abbrev Z0e:=@List.mem_cons
abbrev Z0f:=@PySem.W.mg_of
abbrev Z0g:=@List.size_toArray
abbrev Z0h:=@Nat.ne_of_lt
abbrev Z0i:=@Option.map_eq_some_iff
abbrev Z0j:=@List.length_singleton
abbrev Z0k:=@PySem.F.plainAttrs_list
abbrev Z0m:=@PyProof.Rows.boot_tuple
abbrev Z0n:=@PySem.F.slot_list_append
abbrev Z0o:=@PySem.F.type_list_append
abbrev Z0p:=@List.map_cons
abbrev Z0q:=@Nat.lt_of_lt_of_le
abbrev Z0r:=@PySem.boot_len
abbrev Z0s:=@List.map_append
abbrev Z0t:=@if_neg
abbrev Z0u:=@List.append_nil
abbrev Z0v:=@Bool.false_ne_true
abbrev Z0w:=@List.mem_singleton
abbrev Z0x:=@List.length_take
abbrev Z0y:=@List.length_cons
abbrev Z0z:=@List.append_assoc
abbrev Z10:=@wpAny_mono
abbrev Z11:=@wpAny_field
abbrev Z12:=@if_pos
abbrev Z13:=@List.mem_of_getElem?
abbrev Z14:=@List.take_add_one
abbrev Z15:=@List.nodup_cons
abbrev Z16:=@wpAny_newObj_type
abbrev Z18:=@List.take_length
abbrev Z1a:=@Option.some.inj
abbrev Z1b:=@wpAny_callSpecial?_slot
abbrev Z1c:=@PySem.W.mg_none_of
abbrev Z1e:=@Nat.zero_le
abbrev Z1f:=@List.mem_cons_of_mem
abbrev Z1g:=@wpAny_call_entry
abbrev Z1h:=@wpAny_setField_rec
abbrev Z1j:=@decide_eq_false
abbrev Z1l:=@List.getElem?_append_right
abbrev Z1n:=@Nat.le_trans
abbrev Z1o:=@PyProof.Rows.boot_list
abbrev Z1p:=@Int.emod_lt_of_pos
abbrev Z1q:=@Nat.ne_of_gt
abbrev Z1s:=@Heap.size_push
abbrev Z1u:=@List.drop_eq_getElem_cons
abbrev Z1v:=@Int.emod_nonneg
abbrev Z1w:=@wpAny_holding
abbrev Z1x:=@Bool.and_eq_true
abbrev Z1y:=@wpAny_standAt
abbrev Z1z:=@List.getElem?_map
abbrev Z20:=@decide_eq_true
abbrev Z22:=@beq_eq_false_iff_ne
abbrev Z23:=@List.getElem?_set_self
abbrev Z26:=@List.getElem?_append_left
abbrev Z27:=@List.mem_cons_self
abbrev Z28:=@List.lookup_cons
abbrev Z2a:=@List.getElem?_set_ne
abbrev Z2b:=@wpAny_execs_nil
abbrev Z2c:=@List.mem_map
abbrev Z2d:=@Nat.lt_of_le_of_lt
abbrev Z2f:=@Option.toList_some
abbrev Z2g:=@List.length_nil
abbrev Z2h:=@List.find?_cons
abbrev Z2p:=@List.mem_of_mem_take
abbrev Z2q:=@PyProof.Rows.boot_dict
end
noncomputable section
open PySem.W (Frag findIn nsIn mroIn kitOne keepIn typeIn hideAll isFn plainGet isClsIn hasDictIn exmOne plainOver makesIn clsIn fnOf emptyDict instObj excIn kitAny takesIn specialIn subIn codeIn)
set_option Elab.async false
set_option bootstrap.genMatcherCode false
set_option linter.all false
set_option maxRecDepth 100000
set_option maxHeartbeats 4000000
section
variable {G:Prop} {T0 T1 T2 T3 T4 T5 T6 T7 T8 T9 T10:Sort _} {A0 A1 A2 A3 A4 A5:Prop} {B0 B1 B2 B3:T0->Prop} {C0 C1 C2 C3 C4 C5:T0->T1->Prop} {D0 D1 D2 D3 D4:T0->T1->T2->Prop} {E0 E1 E2 E3 E4 E5:T0->T1->T2->T3->Prop} {F0 F1 F2 F3 F4 F5 F6 F7 F8:T0->T1->T2->T3->T4->Prop} {G0 G1 G2 G3 G4 G5 G6 G7:T0->T1->T2->T3->T4->T5->Prop} {I0 I1:T0->T1->T2->T3->T4->T5->T6->T7->Prop} {J0 J1 J2 J3 J4 J5:T0->T1->T2->T3->T4->T5->T6->T7->T8->Prop} {L0 L1 L2 L3:T0->T1->T2->T3->T4->T5->T6->T7->T8->T9->T10->Prop}
theorem i00:A0->A1->A2->A0/\A1/\A2:=λm n i=>⟨m,n,i⟩
theorem i01:A0->∀x,B0 x->A0/\∃x,B0 x:=λm x n=>⟨m,x,n⟩
theorem i02:∀x,B0 x->B1 x->∃x,B0 x/\B1 x:=λx m n=>⟨x,m,n⟩
theorem i03:∀x y,C0 x y->∃x y,C0 x y:=λx y m=>⟨x,y,m⟩
theorem i04:A0->A1->A2->A3->A0/\A1/\A2/\A3:=λm n i j=>⟨m,n,i,j⟩
theorem i05:A0->∀x,B0 x->B1 x->A0/\∃x,B0 x/\B1 x:=λm x n i=>⟨m,x,n,i⟩
theorem i06:∀x,B0 x->B1 x->B2 x->∃x,B0 x/\B1 x/\B2 x:=λx m n i=>⟨x,m,n,i⟩
theorem i07:∀x y,C0 x y->C1 x y->∃x y,C0 x y/\C1 x y:=λx y m n=>⟨x,y,m,n⟩
theorem i08:A0->A1->A2->A3->A4->A0/\A1/\A2/\A3/\A4:=λm n i j k=>⟨m,n,i,j,k⟩
theorem i09:A0->∀x y,C0 x y->C1 x y->A0/\∃x y,C0 x y/\C1 x y:=λm x y n i=>⟨m,x,y,n,i⟩
theorem i0a:∀x,B0 x->B1 x->B2 x->B3 x->∃x,B0 x/\B1 x/\B2 x/\B3 x:=λx m n i j=>⟨x,m,n,i,j⟩
theorem i0b:∀x,B0 x->B1 x->∀y,C0 x y->∃x,B0 x/\B1 x/\∃y,C0 x y:=λx m n y i=>⟨x,m,n,y,i⟩
theorem i0c:∀x,B0 x->∀y,C0 x y->C1 x y->∃x,B0 x/\∃y,C0 x y/\C1 x y:=λx m y n i=>⟨x,m,y,n,i⟩
theorem i0d:∀x y,C0 x y->C1 x y->C2 x y->∃x y,C0 x y/\C1 x y/\C2 x y:=λx y m n i=>⟨x,y,m,n,i⟩
theorem i0e:∀x y z,D0 x y z->D1 x y z->∃x y z,D0 x y z/\D1 x y z:=λx y z m n=>⟨x,y,z,m,n⟩
theorem i0f:∀x y z u,E0 x y z u->∃x y z u,E0 x y z u:=λx y z u m=>⟨x,y,z,u,m⟩
theorem i0g:A0->A1->A2->A3->A4->A5->A0/\A1/\A2/\A3/\A4/\A5:=λm n i j k l=>⟨m,n,i,j,k,l⟩
theorem i0h:A0->∀x y,C0 x y->C1 x y->C2 x y->A0/\∃x y,C0 x y/\C1 x y/\C2 x y:=λm x y n i j=>⟨m,x,y,n,i,j⟩
theorem i0i:∀x,B0 x->B1 x->∀y,C0 x y->C1 x y->∃x,B0 x/\B1 x/\∃y,C0 x y/\C1 x y:=λx m n y i j=>⟨x,m,n,y,i,j⟩
theorem i0j:∀x,B0 x->∀y,C0 x y->C1 x y->C2 x y->∃x,B0 x/\∃y,C0 x y/\C1 x y/\C2 x y:=λx m y n i j=>⟨x,m,y,n,i,j⟩
theorem i0k:∀x y,C0 x y->C1 x y->C2 x y->C3 x y->∃x y,C0 x y/\C1 x y/\C2 x y/\C3 x y:=λx y m n i j=>⟨x,y,m,n,i,j⟩
theorem i0l:∀x y z,D0 x y z->D1 x y z->D2 x y z->∃x y z,D0 x y z/\D1 x y z/\D2 x y z:=λx y z m n i=>⟨x,y,z,m,n,i⟩
theorem i0m:∀x,B0 x->∀y z,D0 x y z->D1 x y z->D2 x y z->∃x,B0 x/\∃y z,D0 x y z/\D1 x y z/\D2 x y z:=λx m y z n i j=>⟨x,m,y,z,n,i,j⟩
theorem i0n:∀x,B0 x->∀y z u v,F0 x y z u v->∃x,B0 x/\∃y z u v,F0 x y z u v:=λx m y z u v n=>⟨x,m,y,z,u,v,n⟩
theorem i0o:∀x y,C0 x y->C1 x y->C2 x y->C3 x y->C4 x y->∃x y,C0 x y/\C1 x y/\C2 x y/\C3 x y/\C4 x y:=λx y m n i j k=>⟨x,y,m,n,i,j,k⟩
theorem i0p:∀x y z,D0 x y z->D1 x y z->D2 x y z->D3 x y z->∃x y z,D0 x y z/\D1 x y z/\D2 x y z/\D3 x y z:=λx y z m n i j=>⟨x,y,z,m,n,i,j⟩
theorem i0q:∀x,B0 x->∀y z,D0 x y z->D1 x y z->D2 x y z->D3 x y z->∃x,B0 x/\∃y z,D0 x y z/\D1 x y z/\D2 x y z/\D3 x y z:=λx m y z n i j k=>⟨x,m,y,z,n,i,j,k⟩
theorem i0r:∀x y,C0 x y->C1 x y->C2 x y->C3 x y->C4 x y->C5 x y->∃x y,C0 x y/\C1 x y/\C2 x y/\C3 x y/\C4 x y/\C5 x y:=λx y m n i j k l=>⟨x,y,m,n,i,j,k,l⟩
theorem i0s:∀x y z,D0 x y z->D1 x y z->D2 x y z->D3 x y z->D4 x y z->∃x y z,D0 x y z/\D1 x y z/\D2 x y z/\D3 x y z/\D4 x y z:=λx y z m n i j k=>⟨x,y,z,m,n,i,j,k⟩
theorem i0t:∀x,B0 x->B1 x->∀y,C0 x y->C1 x y->C2 x y->∀z,D0 x y z->∃x,B0 x/\B1 x/\∃y,C0 x y/\C1 x y/\C2 x y/\∃z,D0 x y z:=λx m n y i j k z l=>⟨x,m,n,y,i,j,k,z,l⟩
theorem i0u:∀x,B0 x->∀y,C0 x y->∀z u,E0 x y z u->E1 x y z u->E2 x y z u->∃x,B0 x/\∃y,C0 x y/\∃z u,E0 x y z u/\E1 x y z u/\E2 x y z u:=λx m y n z u i j k=>⟨x,m,y,n,z,u,i,j,k⟩
theorem i0v:∀x,B0 x->∀y z u,E0 x y z u->E1 x y z u->E2 x y z u->E3 x y z u->∃x,B0 x/\∃y z u,E0 x y z u/\E1 x y z u/\E2 x y z u/\E3 x y z u:=λx m y z u n i j k=>⟨x,m,y,z,u,n,i,j,k⟩
theorem i0w:∀x y z u,E0 x y z u->E1 x y z u->E2 x y z u->E3 x y z u->E4 x y z u->∃x y z u,E0 x y z u/\E1 x y z u/\E2 x y z u/\E3 x y z u/\E4 x y z u:=λx y z u m n i j k=>⟨x,y,z,u,m,n,i,j,k⟩
theorem i0x:∀x y,C0 x y->C1 x y->C2 x y->∀z u,E0 x y z u->E1 x y z u->E2 x y z u->∃x y,C0 x y/\C1 x y/\C2 x y/\∃z u,E0 x y z u/\E1 x y z u/\E2 x y z u:=λx y m n i z u j k l=>⟨x,y,m,n,i,z,u,j,k,l⟩
theorem i0y:∀x y z u,E0 x y z u->E1 x y z u->E2 x y z u->E3 x y z u->E4 x y z u->E5 x y z u->∃x y z u,E0 x y z u/\E1 x y z u/\E2 x y z u/\E3 x y z u/\E4 x y z u/\E5 x y z u:=λx y z u m n i j k l=>⟨x,y,z,u,m,n,i,j,k,l⟩
theorem i0z:∀x,B0 x->∀y,C0 x y->∀z,D0 x y z->∀u v,F0 x y z u v->F1 x y z u v->F2 x y z u v->∃x,B0 x/\∃y,C0 x y/\∃z,D0 x y z/\∃u v,F0 x y z u v/\F1 x y z u v/\F2 x y z u v:=λx m y n z i u v j k l=>⟨x,m,y,n,z,i,u,v,j,k,l⟩
theorem i10:∀x,B0 x->∀y z u v,F0 x y z u v->F1 x y z u v->F2 x y z u v->F3 x y z u v->F4 x y z u v->∃x,B0 x/\∃y z u v,F0 x y z u v/\F1 x y z u v/\F2 x y z u v/\F3 x y z u v/\F4 x y z u v:=λx m y z u v n i j k l=>⟨x,m,y,z,u,v,n,i,j,k,l⟩
theorem i11:∀x y z u v,F0 x y z u v->F1 x y z u v->F2 x y z u v->F3 x y z u v->F4 x y z u v->F5 x y z u v->∃x y z u v,F0 x y z u v/\F1 x y z u v/\F2 x y z u v/\F3 x y z u v/\F4 x y z u v/\F5 x y z u v:=λx y z u v m n i j k l=>⟨x,y,z,u,v,m,n,i,j,k,l⟩
theorem i12:∀x,B0 x->∀y z u v,F0 x y z u v->F1 x y z u v->F2 x y z u v->F3 x y z u v->F4 x y z u v->F5 x y z u v->∃x,B0 x/\∃y z u v,F0 x y z u v/\F1 x y z u v/\F2 x y z u v/\F3 x y z u v/\F4 x y z u v/\F5 x y z u v:=λx m y z u v n i j k l o=>⟨x,m,y,z,u,v,n,i,j,k,l,o⟩
theorem i13:∀x,B0 x->∀y z u v,F0 x y z u v->F1 x y z u v->F2 x y z u v->∀w,G0 x y z u v w->G1 x y z u v w->∃x,B0 x/\∃y z u v,F0 x y z u v/\F1 x y z u v/\F2 x y z u v/\∃w,G0 x y z u v w/\G1 x y z u v w:=λx m y z u v n i j w k l=>⟨x,m,y,z,u,v,n,i,j,w,k,l⟩
theorem i14:∀x,B0 x->∀y,C0 x y->∀z u,E0 x y z u->E1 x y z u->E2 x y z u->E3 x y z u->∀v,F0 x y z u v->F1 x y z u v->∃x,B0 x/\∃y,C0 x y/\∃z u,E0 x y z u/\E1 x y z u/\E2 x y z u/\E3 x y z u/\∃v,F0 x y z u v/\F1 x y z u v:=λx m y n z u i j k l v o m'=>⟨x,m,y,n,z,u,i,j,k,l,v,o,m'⟩
theorem i15:∀x,B0 x->∀y,C0 x y->∀z u v w,G0 x y z u v w->G1 x y z u v w->G2 x y z u v w->G3 x y z u v w->G4 x y z u v w->∃x,B0 x/\∃y,C0 x y/\∃z u v w,G0 x y z u v w/\G1 x y z u v w/\G2 x y z u v w/\G3 x y z u v w/\G4 x y z u v w:=λx m y n z u v w i j k l o=>⟨x,m,y,n,z,u,v,w,i,j,k,l,o⟩
theorem i16:∀x,B0 x->∀y z u v w,G0 x y z u v w->G1 x y z u v w->G2 x y z u v w->G3 x y z u v w->G4 x y z u v w->G5 x y z u v w->∃x,B0 x/\∃y z u v w,G0 x y z u v w/\G1 x y z u v w/\G2 x y z u v w/\G3 x y z u v w/\G4 x y z u v w/\G5 x y z u v w:=λx m y z u v w n i j k l o=>⟨x,m,y,z,u,v,w,n,i,j,k,l,o⟩
theorem i17:∀x y,C0 x y->C1 x y->C2 x y->∀z u,E0 x y z u->∀v w,G0 x y z u v w->G1 x y z u v w->G2 x y z u v w->∃x y,C0 x y/\C1 x y/\C2 x y/\∃z u,E0 x y z u/\∃v w,G0 x y z u v w/\G1 x y z u v w/\G2 x y z u v w:=λx y m n i z u j v w k l o=>⟨x,y,m,n,i,z,u,j,v,w,k,l,o⟩
theorem i18:∀x,B0 x->∀y,C0 x y->∀z u v w,G0 x y z u v w->G1 x y z u v w->G2 x y z u v w->G3 x y z u v w->G4 x y z u v w->G5 x y z u v w->∃x,B0 x/\∃y,C0 x y/\∃z u v w,G0 x y z u v w/\G1 x y z u v w/\G2 x y z u v w/\G3 x y z u v w/\G4 x y z u v w/\G5 x y z u v w:=λx m y n z u v w i j k l o m'=>⟨x,m,y,n,z,u,v,w,i,j,k,l,o,m'⟩
theorem i19:∀x,B0 x->∀y z u v,F0 x y z u v->F1 x y z u v->F2 x y z u v->F3 x y z u v->F4 x y z u v->∀w,G0 x y z u v w->G1 x y z u v w->∃x,B0 x/\∃y z u v,F0 x y z u v/\F1 x y z u v/\F2 x y z u v/\F3 x y z u v/\F4 x y z u v/\∃w,G0 x y z u v w/\G1 x y z u v w:=λx m y z u v n i j k l w o m'=>⟨x,m,y,z,u,v,n,i,j,k,l,w,o,m'⟩
theorem i1a:∀x y z u v,F0 x y z u v->F1 x y z u v->F2 x y z u v->F3 x y z u v->F4 x y z u v->F5 x y z u v->F6 x y z u v->F7 x y z u v->F8 x y z u v->∃x y z u v,F0 x y z u v/\F1 x y z u v/\F2 x y z u v/\F3 x y z u v/\F4 x y z u v/\F5 x y z u v/\F6 x y z u v/\F7 x y z u v/\F8 x y z u v:=λx y z u v m n i j k l o m' n'=>⟨x,y,z,u,v,m,n,i,j,k,l,o,m',n'⟩
theorem i1b:∀x y z u v w,G0 x y z u v w->G1 x y z u v w->G2 x y z u v w->G3 x y z u v w->G4 x y z u v w->G5 x y z u v w->G6 x y z u v w->G7 x y z u v w->∃x y z u v w,G0 x y z u v w/\G1 x y z u v w/\G2 x y z u v w/\G3 x y z u v w/\G4 x y z u v w/\G5 x y z u v w/\G6 x y z u v w/\G7 x y z u v w:=λx y z u v w m n i j k l o m'=>⟨x,y,z,u,v,w,m,n,i,j,k,l,o,m'⟩
theorem i1c:∀x y,C0 x y->C1 x y->C2 x y->∀z u,E0 x y z u->∀v w,G0 x y z u v w->∀p q,I0 x y z u v w p q->I1 x y z u v w p q->∃x y,C0 x y/\C1 x y/\C2 x y/\∃z u,E0 x y z u/\∃v w,G0 x y z u v w/\∃p q,I0 x y z u v w p q/\I1 x y z u v w p q:=λx y m n i z u j v w k p q l o=>⟨x,y,m,n,i,z,u,j,v,w,k,p,q,l,o⟩
theorem i1d:∀x y z u v w p q r s t,L0 x y z u v w p q r s t->L1 x y z u v w p q r s t->L2 x y z u v w p q r s t->L3 x y z u v w p q r s t->∃x y z u v w p q r s t,L0 x y z u v w p q r s t/\L1 x y z u v w p q r s t/\L2 x y z u v w p q r s t/\L3 x y z u v w p q r s t:=λx y z u v w p q r s t m n i j=>⟨x,y,z,u,v,w,p,q,r,s,t,m,n,i,j⟩
theorem e01 (h:∃x y z,D0 x y z) (f:∀x y z,D0 x y z->G):G:=by
 obtain ⟨x,y,z,m⟩:=h;exact f x y z m
theorem e02 (h:A0/\A1/\A2/\A3/\A4) (f:A0->A1->A2->A3->A4->G):G:=by
 obtain ⟨m,n,i,j,k⟩:=h;exact f m n i j k
theorem e03 (h:A0/\A1/\∃x,B0 x/\B1 x) (f:A0->A1->∀x,B0 x->B1 x->G):G:=by
 obtain ⟨m,n,x,i,j⟩:=h;exact f m n x i j
theorem e04 (h:A0/\∃x y,C0 x y/\C1 x y) (f:A0->∀x y,C0 x y->C1 x y->G):G:=by
 obtain ⟨m,x,y,n,i⟩:=h;exact f m x y n i
theorem e05 (h:∃x y,C0 x y/\C1 x y/\C2 x y) (f:∀x y,C0 x y->C1 x y->C2 x y->G):G:=by
 obtain ⟨x,y,m,n,i⟩:=h;exact f x y m n i
theorem e06 (h:∃x y,C0 x y/\C1 x y/\C2 x y/\C3 x y) (f:∀x y,C0 x y->C1 x y->C2 x y->C3 x y->G):G:=by
 obtain ⟨x,y,m,n,i,j⟩:=h;exact f x y m n i j
theorem e08 (h:∃x y z u v,F0 x y z u v) (f:∀x y z u v,F0 x y z u v->G):G:=by
 obtain ⟨x,y,z,u,v,m⟩:=h;exact f x y z u v m
theorem e09 (h:∃x y z,D0 x y z/\D1 x y z/\D2 x y z/\D3 x y z) (f:∀x y z,D0 x y z->D1 x y z->D2 x y z->D3 x y z->G):G:=by
 obtain ⟨x,y,z,m,n,i,j⟩:=h;exact f x y z m n i j
theorem e0a (h:A0/\∃x,B0 x/\∃y,C0 x y/\C1 x y/\∃z,D0 x y z) (f:A0->∀x,B0 x->∀y,C0 x y->C1 x y->∀z,D0 x y z->G):G:=by
 obtain ⟨m,x,n,y,i,j,z,k⟩:=h;exact f m x n y i j z k
theorem e0b (h:∃x y,C0 x y/\C1 x y/\∃z u v,F0 x y z u v) (f:∀x y,C0 x y->C1 x y->∀z u v,F0 x y z u v->G):G:=by
 obtain ⟨x,y,m,n,z,u,v,i⟩:=h;exact f x y m n z u v i
theorem e0c (h:A0/\A1/\∃x,B0 x/\∃y z u,E0 x y z u/\E1 x y z u) (f:A0->A1->∀x,B0 x->∀y z u,E0 x y z u->E1 x y z u->G):G:=by
 obtain ⟨m,n,x,i,y,z,u,j,k⟩:=h;exact f m n x i y z u j k
theorem e0d (h:∃x y z u,E0 x y z u/\E1 x y z u/\E2 x y z u/\E3 x y z u/\E4 x y z u) (f:∀x y z u,E0 x y z u->E1 x y z u->E2 x y z u->E3 x y z u->E4 x y z u->G):G:=by
 obtain ⟨x,y,z,u,m,n,i,j,k⟩:=h;exact f x y z u m n i j k
theorem e0e (h:∃x y z u v,F0 x y z u v/\F1 x y z u v/\F2 x y z u v/\F3 x y z u v/\F4 x y z u v) (f:∀x y z u v,F0 x y z u v->F1 x y z u v->F2 x y z u v->F3 x y z u v->F4 x y z u v->G):G:=by
 obtain ⟨x,y,z,u,v,m,n,i,j,k⟩:=h;exact f x y z u v m n i j k
theorem e0f (h:∃x y z u v w p q r,J0 x y z u v w p q r) (f:∀x y z u v w p q r,J0 x y z u v w p q r->G):G:=by
 obtain ⟨x,y,z,u,v,w,p,q,r,m⟩:=h;exact f x y z u v w p q r m
theorem e0g (h:∃x y z u v w,G0 x y z u v w/\G1 x y z u v w/\G2 x y z u v w/\G3 x y z u v w/\G4 x y z u v w/\G5 x y z u v w) (f:∀x y z u v w,G0 x y z u v w->G1 x y z u v w->G2 x y z u v w->G3 x y z u v w->G4 x y z u v w->G5 x y z u v w->G):G:=by
 obtain ⟨x,y,z,u,v,w,m,n,i,j,k,l⟩:=h;exact f x y z u v w m n i j k l
theorem e0h (h:∃x y z u v w p q r,J0 x y z u v w p q r/\J1 x y z u v w p q r/\J2 x y z u v w p q r/\J3 x y z u v w p q r/\J4 x y z u v w p q r/\J5 x y z u v w p q r) (f:∀x y z u v w p q r,J0 x y z u v w p q r->J1 x y z u v w p q r->J2 x y z u v w p q r->J3 x y z u v w p q r->J4 x y z u v w p q r->J5 x y z u v w p q r->G):G:=by
 obtain ⟨x,y,z,u,v,w,p,q,r,m,n,i,j,k,l⟩:=h;exact f x y z u v w p q r m n i j k l
end
namespace L2
open PySem PySem.Spec PyProof.Rows
abbrev Key:=Sum Int Str
def C0s:Key->Value->Bool
 | .inl k,v=>Value.isInt k v
 | .inr x,v=>Value.isStrOf x v
def keyH (w:World):Key->Int
 | .inl k=>hashInt k
 | .inr x=>hashStr w x
theorem A2z:∀{k:Key} {v:Value},C0s k v=true->(∃i t,k=Sum.inl i/\v=Value.int i t)\/(∃x t,k=Sum.inr x/\v=Value.str x t)
 | .inl i,v,h=>by
  obtain ⟨t,e⟩:=Value.isInt_shape (k:=i) (v:=v) h;exact .inl (i07 i t rfl e)
 | .inr x,v,h=>by
  obtain ⟨t,e⟩:=Value.isStrOf_shape (x:=x) (v:=v) h;exact .inr (i07 x t rfl e)
theorem C5t (i:Int) (t:Tok):C0s (.inl i) (.int i t)=true:=by simp [C0s,Value.isInt]
theorem C7d (x:Str) (t:Tok):C0s (.inr x) (.str x t)=true:=by simp [C0s,Value.isStrOf]
theorem D6b (a b:Int):decide ((Sum.inl a:Key)=Sum.inl b)=(a == b):=by
 by_cases e:a=b
 ·subst e;simp
 ·have h:¬(Sum.inl a:Key)=Sum.inl b:=λq=>e (Sum.inl.inj q);rw [Z1j h];exact (Z22.mpr e).symm
theorem D6l (a b:Str):decide ((Sum.inr a:Key)=Sum.inr b)=decide (a=b):=by
 by_cases e:a=b
 ·subst e;simp
 ·have h:¬(Sum.inr a:Key)=Sum.inr b:=λq=>e (Sum.inr.inj q);rw [Z1j h,Z1j e]
theorem D4d (a:Int) (b:Str):decide ((Sum.inl a:Key)=Sum.inr b)=false:=Z1j (λq=>nomatch q)
theorem D6g (a:Str) (b:Int):decide ((Sum.inr a:Key)=Sum.inl b)=false:=Z1j (λq=>nomatch q)
def A2l (prog:Program) (w:World):PySem.KeyKind prog w Key where
 is:=C0s
 hash:=keyH w
 inj:=λv a b ha hb=>by
  rcases A2z ha with ⟨i,t,rfl,rfl⟩ | ⟨x,t,rfl,rfl⟩
  ·rcases A2z hb with ⟨j,u,rfl,e⟩ | ⟨y,u,rfl,e⟩
   ·injection e with e1 _;rw [e1]
   ·exact nomatch e
  ·rcases A2z hb with ⟨j,u,rfl,e⟩ | ⟨y,u,rfl,e⟩
   ·exact nomatch e
   ·injection e with e1 _;rw [e1]
 byValue:=λk v h=>by
  rcases A2z h with ⟨i,t,rfl,rfl⟩ | ⟨x,t,rfl,rfl⟩ <;> rfl
 pyHash:=λhv h=>by
  rcases A2z hv with ⟨i,t,rfl,rfl⟩ | ⟨x,t,rfl,rfl⟩
  ·exact wpAny_pyHash_int h
  ·exact wpAny_pyHash_str h
 eqBool:=λhu hv h=>by
  rcases A2z hu with ⟨i,t,rfl,rfl⟩ | ⟨x,t,rfl,rfl⟩
  ·rcases A2z hv with ⟨j,u,rfl,rfl⟩ | ⟨y,u,rfl,rfl⟩
   ·rw [D6b] at h;exact wpAny_eqBool_int h
   ·rw [D4d] at h;exact SeqAt.EqAt.int_str i t y u _ _ _ _ h
  ·rcases A2z hv with ⟨j,u,rfl,rfl⟩ | ⟨y,u,rfl,rfl⟩
   ·rw [D6g] at h;exact SeqAt.EqAt.str_int x t j u _ _ _ _ h
   ·rw [D6l] at h;exact wpAny_eqBool_str h
 «strs»:=λk x t v h=>by
  rcases A2z h with ⟨i,u,rfl,e⟩ | ⟨y,u,rfl,e⟩
  ·exact nomatch e
  ·injection e with e1 _;subst e1;cases v <;> rfl
theorem C0i (prog:Program) (w:World) (i:Int) (t:Tok):(A2l prog w).is (.inl i) (.int i t)=true:=C5t i t
theorem C0g (prog:Program) (w:World) (x:Str) (t:Tok):(A2l prog w).is (.inr x) (.str x t)=true:=C7d x t
inductive V where
 | non | bl (b:Bool) | int (i:Int) | str (x:Str) | byt (b:Array UInt8) | flt (b:UInt64) | ref (a:Addr) | ty (n:String)
 deriving DecidableEq
def A3j:V->Value->Prop
 | .non,u=>u=Value.none
 | .bl b,u=>u=Value.bool b
 | .int i,u=>∃t,u=Value.int i t
 | .str x,u=>∃t,u=Value.str x t
 | .byt b,u=>∃t,u=Value.bytes b t
 | .flt b,u=>∃t,u=Value.float b t
 | .ref a,u=>u=Value.ref a
 | .ty n,u=>u=Value.type n
abbrev A3z:List V->List Value->Prop:=Paired A3j
theorem A3z.length {xs:List V} {us:List Value} (r:A3z xs us):xs.length=us.length:=Paired.length r
theorem A3z.get:∀{xs:List V} {us:List Value} {i:Nat} {x:V},A3z xs us->xs[i]? =some x->∃u,us[i]? =some u/\A3j x u
 | _,_,_,_,.nil,e=>by simp at e
 | _,_,0,_,.cons r _,e=>by simp at e;subst e;exact i02 _ rfl r
 | _,_,i+1,x,.cons _ t,e=>by
  obtain ⟨u,h1,h2⟩:=A3z.get (i:=i) (x:=x) t (by simpa using e);exact i02 u (by simpa using h1) h2
theorem A3z.append:∀{xs ys:List V} {us ws:List Value},A3z xs us->A3z ys ws->A3z (xs++ys) (us++ws)
 | _,_,_,_,.nil,s=>s
 | _,_,_,_,.cons r t,s=> .cons r (A3z.append t s)
theorem A3z.take:∀{xs:List V} {us:List Value} (n:Nat),A3z xs us->A3z (xs.take n) (us.take n)
 | _,_,0,_=> .nil
 | _,_,_+1,.nil=> .nil
 | _,_,n+1,.cons r t=> .cons r (A3z.take n t)
theorem A3z.drop:∀{xs:List V} {us:List Value} (n:Nat),A3z xs us->A3z (xs.drop n) (us.drop n)
 | _,_,0,r=>r
 | _,_,_+1,.nil=> .nil
 | _,_,n+1,.cons _ t=>A3z.drop n t
def B6t:Option V->Option Value->Prop
 | some v,some u=>A3j v u
 | none,none=>True
 | _,_=>False
def KV {κ:Type}:List (κ×V)->List (κ×Value)->Prop:=Paired λ(p:κ×V) (q:κ×Value)=>p.1=q.1/\A3j p.2 q.2
def kV:Key->V
 | .inl i=> .int i
 | .inr x=> .str x
inductive HO where
 | lst (xs:List V)
 | tup (xs:List V)
 | dK (kvs:List (Key×V)) | dT (kvs:List (List Key×V))
 | set (S:Int->Bool) (n:Nat)
 | ins (C dx:Addr) (fs:List (Str×V))
 | own (x:Addr)
 | xd (fs:List (Str×V))
 | met (f x:Addr)
 | rng (lo hi:Int)
 | frz (o:Obj) (u:HO)
 | tbl (ps:Array Value)
 | ext (φ:Heap->Prop)
abbrev Hp:=Addr->Option HO
def upd (H:Hp) (a:Addr) (o:HO):Hp:=λb=>if b=a then some o else H b
theorem A0b {H:Hp} {a:Addr} {o:HO}:upd H a o a=some o:=by unfold upd;rw [Z12 rfl]
theorem A0k {H:Hp} {a b:Addr} {o:HO} (h:b≠a):upd H a o b=H b:=by unfold upd;rw [Z0t h]
theorem A5t {H:Hp} {a:Addr} {o u:HO}:upd (upd H a o) a u=upd H a u:=by
 funext b;unfold upd;split <;> rfl
theorem A3a {H:Hp} {a b:Addr} {o u:HO} (h:H a=some o) (h':H b=some u) (d:o≠u):a≠b:=by
 intro e;subst e;rw [h] at h';exact d (Z1a h')
theorem A1g {H:Hp} {a b:Addr} {o:HO} (h:H a=some o) (h':H b=none):a≠b:=by
 intro e;subst e;rw [h] at h';cases h'
section
variable (P:Program) (w:World)
def A2v (H:Hp) (h:Heap) (a:Addr):HO->Prop
 | .lst xs=>xs.length<=sizeLine/\∃(its:List Value) (n:Nat),A3z xs its/\h.get? a=some { cls:= .type "list",data:= .seq its.toArray n }
 | .tup xs=>xs.length<=sizeLine/\∃its:List Value,A3z xs its/\IsTup h a its.toArray
 | .dK kvs=>kvs.length<=sizeLine/\(a == sysModules)=false/\∃vs,KV kvs vs/\h.DictOf (A2l P w) a vs
 | .dT kvs=>kvs.length<=sizeLine/\(a == sysModules)=false/\∃xs:List (List Key×Addr×Value),
   Paired (λ(p:List Key×V) (q:List Key×Addr×Value)=>p.1=q.1/\H q.2.1=some (.tup (p.1.map kV))/\A3j p.2 q.2.2) kvs xs/\
   ∃o es ep,h.get? a=some o/\o.ExactDict/\o.data= .dict es ep/\es.toList=xs.map (entryOfKey (tupleKind (A2l P w)))/\(xs.map (·.1)).Nodup
 | .set S n=>h.SetOf (intKind P w) a S n
 | .ins C dx fs=>H dx=some (.own a)/\fs.length<=1000/\dx≠a/\h.get? a=some (instObj C dx)/\
   ∃mA,h.Ns1 dx mA/\(∀f,B6t (fs.lookup f) (mA f))/\PySem.Within mA (fs.map (·.1))
 | .own _=>∃o,h.get? a=some o
 | .xd fs=>∃mA,h.Ns1 a mA/\∀f,B6t (fs.lookup f) (mA f)
 | .rng lo hi=>∃t u v,h.get? a=some { cls:= .type "range",data:= .fields #[.int lo t,.int hi u,.int 1 v] }
 | .frz o u=>h.get? a=some o/\A2v H h a u
 | .tbl ps=>h.get? a=some { cls:= .none,data:= .fields ps }
 | .met f x=>h.get? a=some (PySem.W.methodObj (.ref f) (.ref x))
 | .ext φ=>φ h/\(∃o,h.get? a=some o)/\∀h1 h2:Heap,φ h1->(∀o,h1.get? a=some o->h2.get? a=some o)->φ h2
def HOk (H:Hp) (h:Heap):Prop:=∀a o,H a=some o->A2v P w H h a o
end
section
variable {P:Program} {w:World} {H H':Hp} {h h':Heap} {a:Addr} {o:HO}
theorem A2v.lt (x:A2v P w H h a o):a<h.objs.size:=by
 cases o with
 | lst xs=>obtain ⟨_,_,_,_,e⟩:=x;exact Z0a e
 | tup xs=>obtain ⟨_,_,_,p⟩:=x;exact p.lt
 | dK kvs=>(refine e0c x λ_ _ _ _ o _ _ e _=>?_;clear x);exact Z0a e
 | dT kvs=>(refine e0c x λ_ _ _ _ o _ _ e _=>?_;clear x);exact Z0a e
 | set S n=>obtain ⟨o,_,_,_,e,_⟩:=x;exact Z0a e
 | ins C dx fs=>obtain ⟨_,_,_,e,_⟩:=x;exact Z0a e
 | own y=>obtain ⟨_,e⟩:=x;exact Z0a e
 | xd fs=>obtain ⟨_,⟨_,_,_,e,_⟩,_⟩:=x;exact Z0a e
 | rng lo hi=>obtain ⟨_,_,_,e⟩:=x;exact Z0a e
 | frz ob u=>obtain ⟨e,_⟩:=x;exact Z0a e
 | tbl ps=>exact Z0a (show h.get? a=some _ from x)
 | met f y=>exact Z0a (show h.get? a=some _ from x)
 | ext φ=>obtain ⟨_,⟨_,e⟩,_⟩:=x;exact Z0a e
theorem Paired.mapP {α β:Type} {F G:α->β->Prop}:∀{l₁:List α} {l₂:List β},Paired F l₁ l₂->(∀a b,F a b->G a b)->Paired G l₁ l₂
 | _,_,.nil,_=> .nil
 | _,_,.cons r t,f=> .cons (f _ _ r) (Paired.mapP t f)
theorem A2v.stay (x:A2v P w H h a o) (k:∀b u,(b=a\/H b=some (.own a))->h.get? b=some u->h'.get? b=some u)
  (ho:∀b,H b=some (.own a)->H' b=some (.own a)) (ht:∀b xs,H b=some (.tup xs)->H' b=some (.tup xs)):A2v P w H' h' a o:=by
 induction o with
 | lst xs=>obtain ⟨z,its,n,r,e⟩:=x;exact i09 z its n r (k _ _ (.inl rfl) e)
 | tup xs=>obtain ⟨z,its,r,ob,e,c⟩:=x;exact ⟨z,(i0c its r ob (k _ _ (.inl rfl) e) c)⟩
 | dK kvs=>(refine e0c x λz y vs r ob es ep e c=>?_;clear x);exact ⟨z,(i05 y vs r (i0e ob es ep (k _ _ (.inl rfl) e) c))⟩
 | dT kvs =>
  refine e0c x λz y xs r ob es ep e c=>?_;clear x;exact ⟨z,(i05 y xs (Paired.mapP r λp q z=>(i00 z.1 (ht _ _ z.2.1) z.2.2)) (i0e ob es ep (k _ _ (.inl rfl) e) c))⟩
 | set S n=>obtain ⟨ob,es,ep,t,e,c⟩:=x;exact ⟨ob,(i0e es ep t (k _ _ (.inl rfl) e) c)⟩
 | ins C dx fs =>
  refine e02 x ?_;clear x;rintro d z ne e ⟨mA,⟨od,es,ep,e2,c⟩,r⟩;exact i04 (ho _ d) z ne (i05 (k _ _ (.inl rfl) e) mA (i0e od es ep (k _ _ (.inr d) e2) c) r)
 | own y=>obtain ⟨ob,e⟩:=x;exact ⟨ob,k _ _ (.inl rfl) e⟩
 | xd fs=>obtain ⟨mA,⟨od,es,ep,e,c⟩,r⟩:=x;exact i02 mA (i0e od es ep (k _ _ (.inl rfl) e) c) r
 | rng lo hi=>obtain ⟨t,u,v,e⟩:=x;exact ⟨t,(i03 u v (k _ _ (.inl rfl) e))⟩
 | frz ob u ih=>obtain ⟨e,q⟩:=x;exact ⟨k _ _ (.inl rfl) e,ih q⟩
 | tbl ps =>
  have e:h.get? a=some { cls:= .none,data:= .fields ps }:=x;show h'.get? a=some { cls:= .none,data:= .fields ps };exact k a _ (.inl rfl) e
 | met f y =>
  have e:h.get? a=some (PySem.W.methodObj (.ref f) (.ref y)):=x;show h'.get? a=some (PySem.W.methodObj (.ref f) (.ref y));exact k a _ (.inl rfl) e
 | ext φ=>obtain ⟨p,⟨o,e⟩,st⟩:=x;exact i00 (st _ _ p λo q=>k _ _ (.inl rfl) q) ⟨o,k _ _ (.inl rfl) e⟩ st
theorem HOk.lt (x:HOk P w H h) (e:H a=some o):a<h.objs.size:=(x a o e).lt
theorem HOk.fresh (x:HOk P w H h) (e:h.objs.size<=a):H a=none:=by
 cases q:H a with
 | none=>rfl
 | some u=>exact absurd (Z0q (x.lt q) e) (Nat.lt_irrefl _)
theorem HOk.kept (x:HOk P w H h) (k:∀b u,h.get? b=some u->h'.get? b=some u):HOk P w H h':=λa o e =>
 (x a o e).stay (λb u _ q=>k b u q) (λ_ q=>q) λ_ _ q=>q
theorem HOk.laid (x:HOk P w H h) (k:∀b u,h.get? b=some u->h'.get? b=some u) (hp:h.objs.size<=a) (new:A2v P w (upd H a o) h' a o):HOk P w (upd H a o) h':=λb u e=>by
 have hn:=x.fresh hp;by_cases hb:b=a
 ·subst hb;rw [A0b] at e;cases e;exact new
 ·rw [A0k hb] at e;exact (x b u e).stay (λc v _ q=>k c v q) (λc q=>by rw [A0k (A1g q hn)];exact q) λc xs q=>by rw [A0k (A1g q hn)];exact q
end
def Rd (H:Hp) (a:Addr) (u:HO):Prop:=H a=some u\/∃o,H a=some (.frz o u)
theorem Rd.of {H:Hp} {a:Addr} {u:HO} (h:H a=some u):Rd H a u:= .inl h
theorem Rd.ok {P:Program} {w:World} {H:Hp} {h:Heap} {a:Addr} {u:HO} (r:Rd H a u) (x:HOk P w H h):A2v P w H h a u:=by
 rcases r with r | ⟨o,r⟩
 ·exact x a u r
 ·obtain ⟨_,q⟩:=x a _ r;exact q
def Mut:Option HO->Prop
 | some (.lst _)=>True
 | some (.dK _)=>True
 | some (.dT _)=>True
 | some (.set _ _)=>True
 | some (.ins _ _ _)=>True
 | some (.ext _)=>True
 | _=>False
section
variable {P:Program} {w:World} {H:Hp} {h h':Heap} {x e:Addr} {o':HO}
theorem HOk.write (ok:HOk P w H h) (mu:Mut (H x)) (he:e=x\/H e=some (.own x)) (k:∀b u,b≠e->h.get? b=some u->h'.get? b=some u) (heo:∃u,h'.get? e=some u)
  (new:A2v P w (upd H x o') h' x o'):HOk P w (upd H x o') h':=λb u q=>by
 have nown:∀c y,H c=some (.own y)->c≠x:=λc y r z=>by subst z;rw [r] at mu;exact mu
 have ntup:∀c xs,H c=some (.tup xs)->c≠x:=λc xs r z=>by subst z;rw [r] at mu;exact mu
 by_cases hb:b=x
 ·subst hb;rw [A0b] at q;cases q;exact new
 ·rw [A0k hb] at q;by_cases hbe:b=e
  ·have q':H b=some (.own x):=by
    rcases he with z | z
    ·exact absurd (hbe.trans z) hb
    ·rw [hbe];exact z
   rw [q] at q';cases q';obtain ⟨v,hv⟩:=heo;exact ⟨v,by rw [hbe];exact hv⟩
  ·refine (ok b u q).stay (λc v hc r=>k c v ?_ r) (λc r=>by rw [A0k (nown c b r)];exact r) λc xs r=>by rw [A0k (ntup c xs r)];exact r
   rcases hc with rfl | hc
   ·exact hbe
   ·rintro rfl;rcases he with z | z
    ·exact nown c b hc z
    ·rw [hc] at z;cases z;exact hb rfl
end
structure Un (fs ex:List Addr) (H H':Hp) (h h':Heap):Prop where
 keep:∀b o,h.get? b=some o->H b=none->b∉fs->b∉ex->h'.get? b=some o
 slot:∀b o,h.get? b=some o->H b=none->b∈fs->b∉ex->∃sl,h'.get? b=some { o with slots:=sl }
 free:∀b o,h.get? b=some o->H b=none->b∉ex->H' b=none
 there:∀b o,h.get? b=some o->b∉ex->∃o',h'.get? b=some o'
 tups:∀b xs,H b=some (.tup xs)->H' b=some (.tup xs)
 frzs:∀b o u,H b=some (.frz o u)->H' b=some (.frz o u)
 tbls:∀b ps,H b=some (.tbl ps)->∃more,H' b=some (.tbl (ps++more))
section
variable {fs fs' ex ex':List Addr} {H H1 H2:Hp} {h h1 h2 h':Heap} {a x e:Addr} {o:HO}
theorem Un.any (u:Un fs ex H H1 h h1) {b:Addr} {ob:Obj} (q:h.get? b=some ob) (n:H b=none) (hx:b∉ex):∃sl,h1.get? b=some { ob with slots:=sl }:=by
 by_cases hb:b∈fs
 ·exact u.slot b ob q n hb hx
 ·exact ⟨ob.slots,u.keep b ob q n hb hx⟩
theorem Un.kept (k:∀b u,h.get? b=some u->h'.get? b=some u):Un fs ex H H h h' :=
 ⟨λb ob q _ _ _=>k b ob q,λb ob q _ _ _=>⟨ob.slots,k b ob q⟩,λ_ _ _ n _=>n,λb ob q _=>⟨ob,k b ob q⟩,λ_ _ q=>q,λ_ _ _ q=>q,λ_ ps q=>⟨#[],by rw [q];simp⟩⟩
theorem Un.refl:Un fs ex H H h h:=Un.kept λ_ _ q=>q
theorem Un.laid (k:∀b u,h.get? b=some u->h'.get? b=some u) (hp:h.objs.size<=a) (hn:H a=none):Un fs ex H (upd H a o) h h' where
 keep:=λb u q _ _ _=>k b u q
 slot:=λb u q _ _ _=>⟨u.slots,k b u q⟩
 free:=λb u q n _=>by rw [A0k (Z0h (Z0q (Z0a q) hp))];exact n
 there:=λb u q _=>⟨u,k b u q⟩
 tups:=λb xs q=>by rw [A0k (A1g q hn)];exact q
 frzs:=λb u xs q=>by rw [A0k (A1g q hn)];exact q
 tbls:=λb ps q=>⟨#[],by rw [A0k (A1g q hn),q];simp⟩
theorem Un.write (mu:Mut (H x)) (he:e=x\/H e=some (.own x)) (k:∀b u,b≠e->h.get? b=some u->h'.get? b=some u) (heo:∃u,h'.get? e=some u):Un fs ex H (upd H x o) h h':=by
 have hx:∀b,H b=none->b≠x:=λb n z=>by subst z;rw [n] at mu;exact mu
 have hb:∀b,H b=none->b≠e:=λb n z=>by
  subst z;rcases he with r | r
  ·exact hx b n r
  ·rw [n] at r;cases r
 have hm:∀b u,H b=some u->¬Mut (some u)->b≠x:=λb u q nm z=>by subst z;rw [q] at mu;exact nm mu
 refine ⟨λb u q n _ _=>k b u (hb b n) q,λb u q n _ _=>⟨u.slots,k b u (hb b n) q⟩,λb u q n _=>by rw [A0k (hx b n)];exact n,λb u q _=> ?_,
  λb xs q=>by rw [A0k (hm b _ q λz=>z)];exact q,λb u xs q=>by rw [A0k (hm b _ q λz=>z)];exact q,λb ps q=>⟨#[],by rw [A0k (hm b _ q λz=>z),q];simp⟩⟩
 by_cases hbe:b=e
 ·subst hbe;exact heo
 ·exact ⟨u,k b u hbe q⟩
end
def trk (h:Heap) (H:Hp):List Addr:=(List.range h.objs.size).filter λa=>(H a).isSome
def C8s (h:Heap) (H:Hp):Heap:=hideAll h (trk h H)
theorem C6b (h:Heap) (H:Hp):(C8s h H).objs.size=h.objs.size:=PySem.W.hideAll_size _ _
theorem C9d {h:Heap} {H:Hp} {b:Addr} {o:Obj} (e:h.get? b=some o) (n:H b=none):(C8s h H).get? b=some o :=
 PySem.W.hideAll_get _ e λhm=>by
  have q:(H b).isSome=true:=(List.mem_filter.mp hm).2;rw [n] at q;simp at q
theorem D2y {h:Heap} {H:Hp} {b:Addr} {o:Obj} (e:(C8s h H).get? b=some o):h.get? b=some o/\H b=none:=by
 have e':h.get? b=some o:=PySem.W.of_hideAll (trk h H) e;refine ⟨e',?_⟩
 cases q:H b with
 | none=>rfl
 | some x =>
  have hm:b∈trk h H:=List.mem_filter.mpr ⟨List.mem_range.mpr (Z0a e'),by simp [q]⟩;have z:(C8s h H).get? b=none:=PySem.W.hideAll_none (trk h H) hm;rw [z] at e;cases e
structure Mod (K:Frag) (mg:Str->Option Value) (base:Heap):Prop where
 kin:K.In base
 glob:base.Ns mainGlobals mg
 blt:∃mb,base.Ns builtinsNs mb/\∀x:Str,x≠"__name__"->mb x=bootBuiltins x
 nolimit:base.NoLimit
structure Cx where
 prog:Program
 w:World
 K:Frag
 mg:Str->Option Value
 base:Heap
 A:Around
 N:List Str
 s₀:Shared
 H₀:Hp
 env:Env
 outer:List Env
 stack:List Env
 ex:List Addr
 fn:Str->Bool
 calm:Bool
 pn:List (Addr×Obj)
 xe:Value->Shared->Prop
def frs (l:List Env):List Addr:=l.filterMap (·.frame)
abbrev Cx.fs (X:Cx):List Addr:=frs X.outer
def Vis (sc:Scope) (x:Str):Prop:=sc.names.lookup x=some .local\/sc.names.lookup x=some .cell\/sc.names.lookup x=some .free
def Loc (sc:Scope) (x:Str):Prop:=sc.names.lookup x=some .local\/sc.names.lookup x=some .cell
def Look (env:Env) (h:Heap) (m:Str->Option Value) (x:Str) (u:Value):Prop :=
 (env.kindOf x=some .local/\m x=some u)\/((env.kindOf x=some .cell\/env.kindOf x=some .free)/\∃c,env.cells.lookup x=some c/\h.IsCell c (some u))
structure Cx.Ok (X:Cx):Prop where
 mod:Mod X.K X.mg X.base
 kind:X.env.scope.kind= .function
 glob:X.env.globals=mainGlobals
 blt:X.env.builtins=builtinsNs
 above:X.s₀.heap.objs.size<=X.env.locals
 inj:∀x y c,X.env.cells.lookup x=some c->X.env.cells.lookup y=some c->x=y
 has:∀x,(X.env.kindOf x=some .cell\/X.env.kindOf x=some .free)->∃c,X.env.cells.lookup x=some c
 cab:∀x c,X.fn x=true->X.env.cells.lookup x=some c->X.s₀.heap.objs.size<=c
 hd:X.calm=true->X.A.handled=none
 frames:X.A.frames=some X.stack
 stk:X.stack=X.outer\/(X.stack=X.env::X.outer/\X.env.frame=some X.env.locals)
 exf:∀b∈X.ex,b≠X.env.locals/\∀x c,X.env.cells.lookup x=some c->c≠b
 bs:∀b o,X.base.get? b=some o->X.s₀.heap.get? b=some o/\X.H₀ b=none
 bsz:X.base.objs.size<=X.s₀.heap.objs.size
 noex:∀b o,X.base.get? b=some o->b∉X.ex
 exfs:∀b∈X.ex,b∉X.fs
 funs:X.s₀.heap.FunFrames X.base X.outer
 frf:∀b∈X.fs,X.H₀ b=none
structure Inv (X:Cx) (pins:List (Addr×Obj)) (Z:List (Option V)) (H:Hp) (s:Shared):Prop where
 ok:X.Ok
 os:s.os=X.s₀.os
 bare:AllBare s.gens
 base:Un X.fs X.ex X.H₀ H X.s₀.heap s.heap
 loc:∃m,s.heap.Ns X.env.locals m/\∀(i:Nat) (x:Str) (v:V),X.N[i]? =some x->Z[i]? =some (some v)->Vis X.env.scope x->∃u,A3j v u/\Look X.env s.heap m x u
 cell:∀x c,X.env.cells.lookup x=some c->∃v,s.heap.IsCell c v
 free:H X.env.locals=none
 freeC:∀x c,X.env.cells.lookup x=some c->H c=none
 pin:∀p∈X.pn++pins,s.heap.get? p.1=some p.2/\H p.1=none/\p.1≠X.env.locals/\p.1∉X.fs/\∀v,p.2.data≠.cell v
 hok:HOk X.prog X.w H s.heap
 len:Z.length=X.N.length
section
variable {X:Cx} {pins:List (Addr×Obj)} {Z:List (Option V)} {H H':Hp} {s:Shared} {h':Heap}
theorem Cx.Ok.nofr (ok:X.Ok) {b:Addr} {o:Obj} (e:X.base.get? b=some o):b∉X.fs:=λhb=>by
 have:=(ok.funs.mem hb).1;rw [e] at this;cases this
theorem Inv.bs (I:Inv X pins Z H s):∀b o,X.base.get? b=some o->s.heap.get? b=some o/\H b=none:=λb o e =>
 ⟨I.base.keep b o (I.ok.bs b o e).1 (I.ok.bs b o e).2 (I.ok.nofr e) (I.ok.noex b o e),I.base.free b o (I.ok.bs b o e).1 (I.ok.bs b o e).2 (I.ok.noex b o e)⟩
theorem Inv.bk (I:Inv X pins Z H s):∀b o,X.base.get? b=some o->s.heap.get? b=some o:=λb o e=>(I.bs b o e).1
theorem Inv.mod (I:Inv X pins Z H s):Mod X.K X.mg X.base:=I.ok.mod
theorem Inv.kIn (I:Inv X pins Z H s):X.K.In s.heap:=I.ok.mod.kin.keeps I.bk
theorem Inv.lt (I:Inv X pins Z H s):X.env.locals<s.heap.objs.size:=let ⟨_,hn,_⟩:=I.loc;hn.lt
theorem Inv.sz (I:Inv X pins Z H s):X.s₀.heap.objs.size<=s.heap.objs.size:=Z1n I.ok.above (Nat.le_of_lt I.lt)
theorem Inv.nofs (I:Inv X pins Z H s) {a:Addr} (h:s.heap.objs.size<=a):a∉X.fs:=λhb=>by
 obtain ⟨_,o,ho,_⟩:=I.ok.funs.mem hb;exact absurd (Z0q (Z0a ho) (Z1n I.sz h)) (Nat.lt_irrefl _)
theorem Inv.cne (I:Inv X pins Z H s):∀x c,X.env.cells.lookup x=some c->c≠X.env.locals:=λx c e z=>by
 obtain ⟨v,o,ho,hd⟩:=I.cell x c e;obtain ⟨m,⟨o',es,ep,ho',hd',_⟩,_⟩:=I.loc;rw [z,ho'] at ho;cases ho;rw [hd'] at hd;cases hd
theorem Inv.funs (I:Inv X pins Z H s):s.heap.FunFrames X.base X.outer:=by
 have all:∀(l:List Env),(∀b∈frs l,b∈X.fs)->X.s₀.heap.FunFrames X.base l->s.heap.FunFrames X.base l:=by
  intro l
  induction l with
  | nil=>intro _ _;trivial
  | cons env r ih =>
   intro hs hl;obtain ⟨hk,⟨L,o,hf,hn,ho,hd⟩,hr⟩:=hl;have hL:L∈X.fs:=hs L (by unfold frs;rw [List.filterMap_cons,hf];exact Z27);obtain ⟨sl,e⟩:=I.base.slot L o ho (I.ok.frf L hL) hL λz=>I.ok.exfs L z hL;exact i00 hk (i0k L _ hf hn e hd) (ih (λb hb=>hs b (by unfold frs;rw [List.filterMap_cons,hf];exact Z1f _ hb)) hr)
 exact all X.outer (λ_ hb=>hb) I.ok.funs
theorem Inv.stack (I:Inv X pins Z H s):s.heap.FunFrames X.base X.stack:=by
 rcases I.ok.stk with e | ⟨e,hf⟩
 ·rw [e];exact I.funs
 ·rw [e];obtain ⟨m,hn,_⟩:=I.loc;refine .cons (by rw [I.ok.kind];decide) hf hn ?_ I.funs;exact Heap.get?_none_of_le (Z1n I.ok.bsz I.ok.above)
theorem Inv.stkSub (I:Inv X pins Z H s):∀b∈frs X.stack,b∈X.env.locals::X.fs:=λb hb=>by
 rcases I.ok.stk with e | ⟨e,hf⟩
 ·rw [e] at hb;exact Z1f _ hb
 ·rw [e] at hb;unfold frs at hb;rw [List.filterMap_cons,hf] at hb;exact hb
theorem Inv.stkFree (I:Inv X pins Z H s):∀b∈frs X.stack,H b=none:=λb hb=>by
 rcases Z0e.mp (I.stkSub b hb) with e | hb
 ·rw [e];exact I.free
 ·obtain ⟨_,o,ho,_⟩:=I.ok.funs.mem hb;exact I.base.free b o ho (I.ok.frf b hb) λz=>I.ok.exfs b z hb
theorem Inv.step {g':Array GenState} {t':Nat} {d':Drawn} {ch:List Addr} (I:Inv X pins Z H s)
  (hch:∀b∈ch,(b∈X.ex\/X.s₀.heap.objs.size<=b)/\b≠X.env.locals/\(∀x c,X.env.cells.lookup x=some c->c≠b)/\∀p∈X.pn++pins,p.1≠b)
  (keep:∀b o,b≠X.env.locals->b∉X.fs->b∉ch->s.heap.get? b=some o->H b=none->h'.get? b=some o)
  (slot:∀b o,b≠X.env.locals->b∈X.fs->b∉ch->s.heap.get? b=some o->H b=none->∃sl,h'.get? b=some { o with slots:=sl }) (free:∀b o,b∉ch->s.heap.get? b=some o->H b=none->H' b=none)
  (there:∀b o,b∉ch->s.heap.get? b=some o->∃o',h'.get? b=some o')
  (tups:∀b xs,H b=some (.tup xs)->H' b=some (.tup xs)) (frzs:∀b o u,H b=some (.frz o u)->H' b=some (.frz o u)) (tbls:∀b ps,H b=some (.tbl ps)->∃more,H' b=some (.tbl (ps++more)))
  (ns:∀m,s.heap.Ns X.env.locals m->h'.Ns X.env.locals m) (hok:HOk X.prog X.w H' h') (hg:AllBare g') :
  Inv X pins Z H' { s with heap:=h',gens:=g',drawn:=d',toks:=t' }:=by
 have neL:∀b o,X.s₀.heap.get? b=some o->b≠X.env.locals:=λb o e=>Z0h (Z0q (Z0a e) I.ok.above)
 have neC:∀b o,X.s₀.heap.get? b=some o->b∉X.ex->b∉ch:=λb o e hx hb=>by
  rcases (hch b hb).1 with z | z
  ·exact hx z
  ·exact absurd (Z0q (Z0a e) z) (Nat.lt_irrefl _)
 have cellK:∀x c,X.env.cells.lookup x=some c->∀v,s.heap.IsCell c v->h'.IsCell c v:=λx c e v ⟨o,ho,hd⟩=>by
  have nch:c∉ch:=λz=>(hch c z).2.2.1 x c e rfl;by_cases hc:c∈X.fs
  ·obtain ⟨sl,q⟩:=slot c o (I.cne x c e) hc nch ho (I.freeC x c e);exact i02 _ q hd
  ·exact i02 o (keep c o (I.cne x c e) hc nch ho (I.freeC x c e)) hd
 refine ⟨I.ok,I.os,hg,⟨λb o e n hb hx=> ?_,λb o e n hb hx=> ?_,λb o e n hx=> ?_,λb o e hx=> ?_,λb xs e=>tups b xs (I.base.tups b xs e),λb o xs e=>frzs b o xs (I.base.frzs b o xs e),λb ps e=> ?_⟩,?_,λx c e=> ?_,?_,λx c e=> ?_,λp hp=> ?_,hok,I.len⟩
 ·exact keep b o (neL b o e) hb (neC b o e hx) (I.base.keep b o e n hb hx) (I.base.free b o e n hx)
 ·obtain ⟨sl,e1⟩:=I.base.slot b o e n hb hx;obtain ⟨sl',e2⟩:=slot b _ (neL b o e) hb (neC b o e hx) e1 (I.base.free b o e n hx);exact ⟨sl',e2⟩
 ·obtain ⟨o',e1⟩:=I.base.there b o e hx;exact free b o' (neC b o e hx) e1 (I.base.free b o e n hx)
 ·obtain ⟨o',e1⟩:=I.base.there b o e hx;exact there b o' (neC b o e hx) e1
 ·obtain ⟨m1,e1⟩:=I.base.tbls b ps e;obtain ⟨m2,e2⟩:=tbls b _ e1;exact ⟨m1++m2,by rw [e2,Array.append_assoc]⟩
 ·obtain ⟨m,hn,hl⟩:=I.loc;refine i02 m (ns m hn) λi x v e1 e2 e3=> ?_;obtain ⟨u,r,l⟩:=hl i x v e1 e2 e3;refine i02 u r ?_;rcases l with l | ⟨k,c,e,z⟩
  ·exact .inl l
  ·exact .inr (i05 k c e (cellK x c e _ z))
 ·obtain ⟨v,z⟩:=I.cell x c e;exact ⟨v,cellK x c e v z⟩
 ·obtain ⟨m,⟨o,_,_,ho,_⟩,_⟩:=I.loc;exact free _ o (λz=>(hch _ z).2.1 rfl) ho I.free
 ·obtain ⟨v,o,ho,hd⟩:=I.cell x c e;exact free c o (λz=>(hch c z).2.2.1 x c e rfl) ho (I.freeC x c e)
 ·obtain ⟨e,n,ne,nf,d⟩:=I.pin p hp;have nch:p.1∉ch:=λz=>(hch p.1 z).2.2.2 p hp rfl;exact i08 (keep p.1 p.2 ne nf nch e n) (free p.1 p.2 nch e n) ne nf d
theorem Inv.un {t':Nat} (I:Inv X pins Z H s) (u:Un X.fs [] H H' s.heap h') (hok:HOk X.prog X.w H' h'):Inv X pins Z H' { s with heap:=h',toks:=t' }:=by
 obtain ⟨m,⟨o,es,ep,ho,r⟩,_⟩:=id I.loc;obtain ⟨sl,hL⟩:=u.any ho I.free (by simp)
 exact I.step (g':=s.gens) (d':=s.drawn) (ch:=[]) (λ_ z=>nomatch z) (λb o _ hb _ e n=>u.keep b o e n hb (by simp)) (λb o _ hb _ e n=>u.slot b o e n hb (by simp)) (λb o _ e n=>u.free b o e n (by simp)) (λb o _ e=>u.there b o e (by simp)) u.tups u.frzs u.tbls (λm' hm=>by
  obtain ⟨o',es',ep',ho',r'⟩:=hm;rw [ho] at ho';cases ho'
  exact i0e _ es' ep' hL r') hok I.bare
theorem Inv.call {g':Array GenState} {t':Nat} {d':Drawn} {ch:List Addr} (I:Inv X pins Z H s) (u:Un (frs X.stack) ch H H' s.heap h') (hok:HOk X.prog X.w H' h') (hg:AllBare g')
  (hch:∀b∈ch,(b∈X.ex\/X.s₀.heap.objs.size<=b)/\b≠X.env.locals/\(∀x c,X.env.cells.lookup x=some c->c≠b)/\∀p∈X.pn++pins,p.1≠b) :
  Inv X pins Z H' { s with heap:=h',gens:=g',drawn:=d',toks:=t' }:=by
 obtain ⟨m,⟨o,es,ep,ho,r⟩,_⟩:=id I.loc;obtain ⟨sl,hL⟩:=u.any ho I.free λz=>(hch _ z).2.1 rfl
 exact I.step (ch:=ch) hch (λb o hL hb hc e n=>u.keep b o e n (λz=>(Z0e.mp (I.stkSub b z)).elim hL hb) hc) (λb o _ _ hc e n=>u.any e n hc) (λb o hc e n=>u.free b o e n hc) (λb o hc e=>u.there b o e hc) u.tups u.frzs u.tbls (λm' hm=>by
  obtain ⟨o',es',ep',ho',r'⟩:=hm;rw [ho] at ho';cases ho'
  exact i0e _ es' ep' hL r') hok hg
theorem Inv.turned {t':Nat} {it:Addr} (I:Inv X pins Z H s) (k:∀b o,b≠it->s.heap.get? b=some o->h'.get? b=some o) (hn:H it=none) (hL:it≠X.env.locals)
  (h1:it∈X.ex\/X.s₀.heap.objs.size<=it) (h2:∀x c,X.env.cells.lookup x=some c->c≠it) (h3:∀p∈X.pn++pins,p.1≠it):Inv X pins Z H { s with heap:=h',toks:=t' }:=by
 have nit:∀b u,H b=some u->b≠it:=λb u e z=>by rw [z,hn] at e;cases e
 refine I.step (g':=s.gens) (d':=s.drawn) (ch:=[it]) (λb hb=> ?_) (λb o _ _ hc e _=>k b o (λz=>hc (by simp [z])) e) (λb o _ _ hc e _=>⟨o.slots,k b o (λz=>hc (by simp [z])) e⟩) (λ_ _ _ _ n=>n)
  (λb o hc e=>⟨o,k b o (λz=>hc (by simp [z])) e⟩) (λ_ _ e=>e) (λ_ _ _ e=>e) (λb ps e=>⟨#[],by rw [e];simp⟩) (λm hm=> ?_) (λb u e=> ?_) I.bare
 ·have e:b=it:=by simpa using hb
  subst e;exact i04 h1 hL h2 h3
 ·obtain ⟨o,es,ep,ho,r⟩:=hm;exact i0e o es ep (k _ o (Ne.symm hL) ho) r
 ·refine (I.hok b u e).stay (λc v hc q=>k c v ?_ q) (λ_ q=>q) λ_ _ q=>q;rcases hc with z | z
  ·rw [z];exact nit b u e
  ·exact nit c _ z
theorem Inv.tok (I:Inv X pins Z H s) (t:Nat):Inv X pins Z H { s with toks:=t }:=I.un (h':=s.heap) (t':=t) Un.refl I.hok
theorem Inv.kept {t':Nat} (I:Inv X pins Z H s) (k:∀b u,s.heap.get? b=some u->h'.get? b=some u):Inv X pins Z H { s with heap:=h',toks:=t' }:=I.un (Un.kept k) (I.hok.kept k)
theorem Inv.laid {a:Addr} {o:HO} {t':Nat} (I:Inv X pins Z H s) (k:∀b u,s.heap.get? b=some u->h'.get? b=some u) (hp:s.heap.objs.size<=a) (new:A2v X.prog X.w (upd H a o) h' a o) :
  Inv X pins Z (upd H a o) { s with heap:=h',toks:=t' }:=I.un (Un.laid k hp (I.hok.fresh hp)) (I.hok.laid k hp new)
theorem Inv.write {x e:Addr} {o:HO} {t':Nat} (I:Inv X pins Z H s) (mu:Mut (H x)) (he:e=x\/H e=some (.own x)) (k:∀b u,b≠e->s.heap.get? b=some u->h'.get? b=some u) (heo:∃u,h'.get? e=some u)
  (new:A2v X.prog X.w (upd H x o) h' x o):Inv X pins Z (upd H x o) { s with heap:=h',toks:=t' }:=I.un (Un.write mu he k heo) (I.hok.write mu he k heo new)
theorem Inv.weak {Z':List (Option V)} (I:Inv X pins Z H s) (hl:Z'.length=Z.length) (w:∀(i:Nat) v,Z'[i]? =some (some v)->Z[i]? =some (some v)):Inv X pins Z' H s :=
 ⟨I.ok,I.os,I.bare,I.base,let ⟨m,hn,hl'⟩:=I.loc;(i02 m hn λi x v e1 e2 e3=>hl' i x v e1 (w i v e2) e3),I.cell,I.free,I.freeC,I.pin,I.hok,hl.trans I.len⟩
theorem Inv.pins_of {pins':List (Addr×Obj)} (I:Inv X pins Z H s) (h:∀p∈pins',s.heap.get? p.1=some p.2/\H p.1=none/\p.1≠X.env.locals/\p.1∉X.fs/\∀v,p.2.data≠.cell v):Inv X pins' Z H s :=
 ⟨I.ok,I.os,I.bare,I.base,I.loc,I.cell,I.free,I.freeC,λp hp=>(Z07.mp hp).elim (λz=>I.pin p (Z05 _ z)) (h p),I.hok,I.len⟩
theorem C1k {N:List Str} (hN:N.Nodup) {i j:Nat} {x:Str} (a:N[i]? =some x) (b:N[j]? =some x):i=j:=by
 obtain ⟨h1,e1⟩:=Z03.mp a;obtain ⟨h2,e2⟩:=Z03.mp b;exact (List.getElem_inj hN).mp (e1.trans e2.symm)
theorem B8t {M:Model} {A:Around} {E:Value->Shared->Prop} {i:Nat} {x:Str} {v:V} {u:Value} {Q:Unit->Shared->Prop} (I:Inv X pins Z H s) (hN:X.N.Nodup) (hi:X.N[i]? =some x) (hx:Loc X.env.scope x) (r:A3j v u)
  (h:∀s',Inv X pins (Z.set i (some v)) H s'->(∃a,Heap.SameBut a s.heap s'.heap/\(a=X.env.locals\/X.env.cells.lookup x=some a))->Q () s') (hf:X.fn x=true\/X.env.scope.names.lookup x=some .local:=by first | exact .inl rfl | exact .inr rfl | assumption):wpAny M A (storeName X.env x u) Q E s:=by
 obtain ⟨m,hn,hl⟩:=id I.loc;have hcls:(X.env.scope.kind == .class||(X.env.scope.kind == .module&&X.env.locals != X.env.globals))=false:=by rw [I.ok.kind];rfl
 have hiZ:i<Z.length:=by rw [I.len];exact (Z03.mp hi).1
 have cne:=I.cne
 have tracked:∀{a:Addr} {h':Heap},(∃o,s.heap.get? a=some o/\H a=none)->Heap.SameBut a s.heap h'->HOk X.prog X.w H h':=λ{a h'} ha hs b ob e=>by
  obtain ⟨_,_,hfree⟩:=ha;refine (I.hok b ob e).stay (λc w' hc q=>(hs.2 c ?_).trans q) (λ_ q=>q) λ_ _ q=>q;rintro rfl;rcases hc with rfl | hc
  ·rw [hfree] at e;cases e
  ·rw [hfree] at hc;cases hc
 rcases hx with hk | hk
 ·refine wpAny_storeName_local hk hn (λh' hn' hs=> ?_) hcls;obtain ⟨oL,_,_,hoL,_⟩:=id hn;refine h _ ⟨I.ok,I.os,I.bare,⟨λb o e n hb hx=> ?_,λb o e n hb hx=> ?_,I.base.free,λb o e hx=> ?_,I.base.tups,I.base.frzs,I.base.tbls⟩,(i02 _ hn' λj y v' e1 e2 e3=> ?_),λy c e=> ?_,I.free,I.freeC,λp hp=> ?_,tracked (i02 oL hoL I.free) hs,by simpa using I.len⟩ (i02 _ hs (.inl rfl))
  ·exact (hs.2 b (Z0h (Z0q (Z0a e) I.ok.above))).trans (I.base.keep b o e n hb hx)
  ·obtain ⟨sl,e1⟩:=I.base.slot b o e n hb hx;exact ⟨sl,(hs.2 b (Z0h (Z0q (Z0a e) I.ok.above))).trans e1⟩
  ·obtain ⟨o',e1⟩:=I.base.there b o e hx;exact ⟨o',(hs.2 b (Z0h (Z0q (Z0a e) I.ok.above))).trans e1⟩
  ·by_cases hj:j=i
   ·subst hj;rw [hi] at e1;cases e1;rw [Z23 hiZ] at e2;cases e2;exact i02 u r (.inl ⟨hk,by simp⟩)
   ·rw [Z2a (Ne.symm hj)] at e2;obtain ⟨u',r',q⟩:=hl j y v' e1 e2 e3;refine i02 u' r' ?_;rcases q with ⟨k,e⟩ | ⟨k,c,e,z⟩
    ·refine .inl ⟨k,?_⟩;have:y≠x:=λe=>hj (C1k hN e1 (e▸hi));simp [this,e]
    ·exact .inr (i05 k c e (z.sameBut hs (cne y c e)))
  ·obtain ⟨w',z⟩:=I.cell y c e;exact ⟨w',z.sameBut hs (cne y c e)⟩
  ·obtain ⟨e,n,ne,nf,d⟩:=I.pin p hp;exact i08 ((hs.2 p.1 ne).trans e) n ne nf d
 ·have hfn:X.fn x=true:=by
   rcases hf with z | z
   ·exact z
   ·rw [z] at hk;cases hk
  obtain ⟨c,hc⟩:=I.ok.has x (.inl hk);obtain ⟨w',z⟩:=I.cell x c hc;refine wpAny_storeName_cell I.ok.kind hk hc z (λh' hc' hs=> ?_);obtain ⟨oc,hoc,hocd⟩:=id z;refine h { s with heap:=h' } ⟨I.ok,I.os,I.bare,⟨λb o e n hb hx=> ?_,λb o e n hb hx=> ?_,I.base.free,λb o e hx=> ?_,I.base.tups,I.base.frzs,I.base.tbls⟩,(i02 m (hn.sameBut hs (Ne.symm (cne x c hc))) λj y v' e1 e2 e3=> ?_),λy c' e=> ?_,I.free,I.freeC,λp hp=> ?_,tracked (i02 oc hoc (I.freeC x c hc)) hs,by simpa using I.len⟩ (i02 c hs (.inr hc))
  ·exact (hs.2 b (Z0h (Z0q (Z0a e) (I.ok.cab x c hfn hc)))).trans (I.base.keep b o e n hb hx)
  ·obtain ⟨sl,e1⟩:=I.base.slot b o e n hb hx;exact ⟨sl,(hs.2 b (Z0h (Z0q (Z0a e) (I.ok.cab x c hfn hc)))).trans e1⟩
  ·obtain ⟨o',e1⟩:=I.base.there b o e hx;exact ⟨o',(hs.2 b (Z0h (Z0q (Z0a e) (I.ok.cab x c hfn hc)))).trans e1⟩
  ·by_cases hj:j=i
   ·subst hj;rw [hi] at e1;cases e1;rw [Z23 hiZ] at e2;cases e2;exact i02 u r (.inr (i05 (.inl hk) c hc hc'))
   ·rw [Z2a (Ne.symm hj)] at e2;obtain ⟨u',r',q⟩:=hl j y v' e1 e2 e3;refine i02 u' r' ?_;rcases q with q | ⟨k,c',e,z'⟩
    ·exact .inl q
    ·refine .inr (i05 k c' e (z'.sameBut hs ?_));rintro rfl;exact hj (C1k hN e1 (I.ok.inj _ _ _ e hc▸hi))
  ·by_cases hcc:c'=c
   ·subst hcc;exact ⟨_,hc'⟩
   ·obtain ⟨w2,z2⟩:=I.cell y c' e;exact ⟨w2,z2.sameBut hs hcc⟩
  ·obtain ⟨e,n,ne,nf,d⟩:=I.pin p hp;refine i08 ((hs.2 p.1 ?_).trans e) n ne nf d;intro q;rw [q,hoc] at e;have q':oc=p.2:=Z1a e;exact d w' (by rw [<-q'];exact hocd)
theorem C1j {M:Model} {A:Around} {E:Value->Shared->Prop} {i:Nat} {x:Str} {v:V} {u:Value} {Q:Unit->Shared->Prop} (I:Inv X pins Z H s) (hN:X.N.Nodup) (hi:X.N[i]? =some x) (hx:Loc X.env.scope x) (r:A3j v u)
  (h:∀s',Inv X pins (Z.set i (some v)) H s'->Q () s') (hf:X.fn x=true\/X.env.scope.names.lookup x=some .local:=by first | exact .inl rfl | exact .inr rfl | assumption):wpAny M A (storeName X.env x u) Q E s :=
 B8t I hN hi hx r (λs' I' _=>h s' I') hf
theorem Inv.call' {s':Shared} {ch:List Addr} (I:Inv X pins Z H s) (ho:s'.os=s.os) (u:Un (frs X.stack) ch H H' s.heap s'.heap) (hok:HOk X.prog X.w H' s'.heap) (hg:AllBare s'.gens)
  (hch:∀b∈ch,(b∈X.ex\/X.s₀.heap.objs.size<=b)/\b≠X.env.locals/\(∀x c,X.env.cells.lookup x=some c->c≠b)/\∀p∈X.pn++pins,p.1≠b):Inv X pins Z H' s':=by
 obtain ⟨h',g',d',t',o'⟩:=s';have e:o'=s.os:=ho;subst e;exact I.call (g':=g') (t':=t') (d':=d') u hok hg hch
end
abbrev XK:=Value->Option Addr->Hp->Prop
abbrev St:=List (Option V)
abbrev VK:=V->Hp->Prop
abbrev TE:=St->Hp->VK->Prop
abbrev TT:=St->Hp->(Bool->Hp->Prop)->Prop
abbrev TA:=St->Hp->(List V->Hp->Prop)->Prop
structure C3t where
 nx:St->Hp->Prop
 rt:VK
 bk:St->Hp->Prop:=λ_ _=>False
 ct:St->Hp->Prop:=λ_ _=>False
abbrev TS:=C3t->St->Hp->Prop
def EP (X:Cx) (pins:List (Addr×Obj)) (Z:St) (Q:VK) (u:Value) (s':Shared):Prop:=∃v H',Inv X pins Z H' s'/\A3j v u/\Q v H'
def TP (X:Cx) (pins:List (Addr×Obj)) (Z:St) (Q:Bool->Hp->Prop) (b:Bool) (s':Shared):Prop:=∃H',Inv X pins Z H' s'/\Q b H'
def AP (X:Cx) (pins:List (Addr×Obj)) (Z:St) (Q:List V->Hp->Prop) (us:List Value) (s':Shared):Prop:=∃vs H',Inv X pins Z H' s'/\A3z vs us/\Q vs H'
def SP (X:Cx) (pins:List (Addr×Obj)) (D:C3t) (f:Flow) (s':Shared):Prop :=
 match f with
 | .next=>∃Z' H',Inv X pins Z' H' s'/\D.nx Z' H'
 | .brk=>∃Z' H',Inv X pins Z' H' s'/\D.bk Z' H'
 | .cont=>∃Z' H',Inv X pins Z' H' s'/\D.ct Z' H'
 | .ret u=>∃v Z' H',Inv X pins Z' H' s'/\A3j v u/\D.rt v H'
def PE (X:Cx) (e:Expr) (t:TE):Prop :=
 ∀(pins:List (Addr×Obj)) (s:Shared) (Z:St) (H:Hp) (Q:VK),Inv X pins Z H s->t Z H Q->wpAny (model X.prog X.w) X.A (eval e X.env) (EP X pins Z Q) X.xe s
def PT (X:Cx) (e:Expr) (t:TT):Prop :=
 ∀(pins:List (Addr×Obj)) (s:Shared) (Z:St) (H:Hp) (Q:Bool->Hp->Prop),Inv X pins Z H s->t Z H Q->wpAny (model X.prog X.w) X.A (isTrue e X.env (eval e X.env)) (TP X pins Z Q) X.xe s
def PW (X:Cx) (e:Expr) (t:TT):Prop :=
 ∀(whole:Sem Value) (pins:List (Addr×Obj)) (s:Shared) (Z:St) (H:Hp) (Q:Bool->Hp->Prop),Inv X pins Z H s->t Z H Q->wpAny (model X.prog X.w) X.A (isTrue e X.env whole) (TP X pins Z Q) X.xe s
theorem PW.pt {X:Cx} {e:Expr} {t:TT} (h:PW X e t):PT X e t:=h _
def PA (X:Cx) (es:List Expr) (t:TA):Prop :=
 ∀(pos:Pos) (pins:List (Addr×Obj)) (s:Shared) (Z:St) (H:Hp) (Q:List V->Hp->Prop),Inv X pins Z H s->t Z H Q->wpAny (model X.prog X.w) X.A (spliced (backTo pos (starEach es X.env))) (AP X pins Z Q) X.xe s
def PS (X:Cx) (st:Stmt) (t:TS):Prop :=
 ∀(pins:List (Addr×Obj)) (s:Shared) (Z:St) (H:Hp) (D:C3t),Inv X pins Z H s->t D Z H->wpAny (model X.prog X.w) X.A (exec st X.env) (SP X pins D) X.xe s
def PSs (X:Cx) (st:List Stmt) (t:TS):Prop :=
 ∀(pins:List (Addr×Obj)) (s:Shared) (Z:St) (H:Hp) (D:C3t),Inv X pins Z H s->t D Z H->wpAny (model X.prog X.w) X.A (execs st X.env) (SP X pins D) X.xe s
theorem thn {α:Type} {t:Sem α} {Q Q':α->Shared->Prop} {M:Model} {A:Around} {E:Value->Shared->Prop} {s:Shared} (h:wpAny M A t Q E s) (hQ:∀a s,Q a s->Q' a s):wpAny M A t Q' E s:=Z10 h hQ λ_ _ x=>x
section
variable {X:Cx}
def C0u (i:Nat):TE:=λZ H Q=>∃v,Z[i]? =some (some v)/\Q v H
def tC (v:V):TE:=λ_ H Q=>Q v H
theorem D5k {i:Nat} {x:Str} {pos:Pos} (hN:X.N[i]? =some x) (hv:Vis X.env.scope x) (hd:(x == ("__debug__":Str))=false:=by decide) (hcd:(x == ("__classdict__":Str))=false:=by decide):PE X (.Name x pos) (C0u i):=by
 intro pins s Z H Q I h;obtain ⟨v,e,h⟩:=h;obtain ⟨m,hn,hl⟩:=I.loc;obtain ⟨u,r,l⟩:=hl i x v hN e hv;have fin:EP X pins Z Q u s:=(i0d v H I r h);rcases l with ⟨hk,hm⟩ | ⟨hk,c,hc,hcell⟩
 ·exact wpAny_Name (wpAny_loadName_local I.ok.kind hk hn hm fin) hd
 ·rcases hk with hk | hk
  ·exact wpAny_Name (wpAny_loadName_cell I.ok.kind hk hc hcell fin) hd
  ·exact wpAny_Name (wpAny_loadName_free I.ok.kind hk hc hcell fin hcd) hd
theorem A0e {i j pos}:PE X (.Constant (.int i) j pos) (tC (.int i)):=λ_ _ _ H _ I h=>wpAny_Constant_int (i0d (.int i) H (I.tok _) ⟨_,rfl⟩ h)
theorem B4a {b j pos}:PE X (.Constant (.bool b) j pos) (tC (.bl b)):=λ_ _ _ H _ I h=>Constant_bool (i0d (.bl b) H I rfl h)
theorem B7i {j pos}:PE X (.Constant .none j pos) (tC .non):=λ_ _ _ H _ I h=>Constant_none (i0d .non H I rfl h)
theorem A1h {x j pos}:PE X (.Constant (.str x) j pos) (tC (.str x)):=λ_ _ _ H _ I h=>Calls.Constant_str (i0d (.str x) H (I.tok _) ⟨_,rfl⟩ h)
def Gl (X:Cx) (x:Str):Prop:=X.env.kindOf x=some .globalImplicit
theorem C0p {E:Value->Shared->Prop} {pins:List (Addr×Obj)} {s:Shared} {Z:St} {H:Hp} {x:Str} {u:Value} {pos:Pos} {Q:Value->Shared->Prop} (I:Inv X pins Z H s) (hg:Gl X x) (hm:X.mg x=some u) (h:Q u s)
  (hd:(x == ("__debug__":Str))=false:=by decide):wpAny (model X.prog X.w) X.A (eval (.Name x pos) X.env) Q E s :=
 Calls.Name_function_global I.ok.kind hg (Calls.loadGlobal_global (by rw [I.ok.glob];exact I.mod.glob.keeps I.bk) hm h) hd
theorem B4w {E:Value->Shared->Prop} {pins:List (Addr×Obj)} {s:Shared} {Z:St} {H:Hp} {x:Str} {u:Value} {pos:Pos} {Q:Value->Shared->Prop} (I:Inv X pins Z H s) (hg:Gl X x) (hm:X.mg x=none) (hv:bootBuiltins x=some u) (h:Q u s)
  (hn:x≠"__name__":=by decide) (hd:(x == ("__debug__":Str))=false:=by decide):wpAny (model X.prog X.w) X.A (eval (.Name x pos) X.env) Q E s:=by
 obtain ⟨mb,h1,h2⟩:=I.mod.blt;exact Calls.Name_function_global I.ok.kind hg (Calls.loadGlobal_builtin (by rw [I.ok.glob];exact I.mod.glob.keeps I.bk) hm (by rw [I.ok.blt];exact h1.keeps I.bk) ((h2 x hn).trans hv) h) hd
theorem A5v {x:Str} {v:V} {u:Value} {pos:Pos} (hg:Gl X x) (hm:X.mg x=some u) (r:A3j v u) (hd:(x == ("__debug__":Str))=false:=by decide):PE X (.Name x pos) (tC v) :=
 λ_ _ _ H _ I h=>C0p I hg hm (i0d v H I r h) hd
theorem A4a {x:Str} {v:V} {u:Value} {pos:Pos} (hg:Gl X x) (hm:X.mg x=none) (hv:bootBuiltins x=some u) (r:A3j v u) (hn:x≠"__name__":=by decide) (hd:(x == ("__debug__":Str))=false:=by decide):PE X (.Name x pos) (tC v) :=
 λ_ _ _ H _ I h=>B4w I hg hm hv (i0d v H I r h) hn hd
variable {a b:Expr} {ta tb:TE} {pos:Pos}
def tB (t:TE):TT:=λZ H Q=>t Z H λx H1=>∃c,x= .bl c/\Q c H1
theorem A3c {e:Expr} {t:TE} (h:PE X e t) (he:∀whole,isTrue e X.env whole=(do let v<-whole;standAt e.pos;holding [v] (truthy v)):=by intro _;rfl):PT X e (tB t):=by
 intro pins s Z H Q I hw;refine isTrue_plain (thn (h pins s Z H _ I hw) ?_) (he _);rintro v s1 ⟨x,H1,I1,r1,q1⟩;obtain ⟨d,rfl,q⟩:=q1;cases r1;exact wpAny_truthy_bool (i02 H1 I1 q)
variable {tA tB':TT} {rest:List Expr}
def C9s (t u:TT):TT:=λZ H Q=>t Z H λc H1=>if c=true then u Z H1 Q else Q false H1
def tOr (t u:TT):TT:=λZ H Q=>t Z H λc H1=>if c=true then Q true H1 else u Z H1 Q
def tNot (t:TT):TT:=λZ H Q=>t Z H λc H1=>Q (! c) H1
theorem A3w (ha:PT X a tA):PW X (.BoolOp .And [a] pos) tA:=by
 intro wh pins s Z H Q I h;refine isTrue_and (thn (ha pins s Z H Q I h) λc s1 e=> ?_)
 cases c with
 | true=>exact isTrue_and_nil e
 | false=>exact e
theorem A9y (ha:PT X a tA):PW X (.BoolOp .Or [a] pos) tA:=by
 intro wh pins s Z H Q I h;refine isTrue_or (thn (ha pins s Z H Q I h) λc s1 e=> ?_)
 cases c with
 | false=>exact isTrue_or_nil e
 | true=>exact e
theorem A3n (ha:PT X a tA) (hb:PW X (.BoolOp .And (b::rest) pos) tB'):PW X (.BoolOp .And (a::b::rest) pos) (C9s tA tB'):=by
 intro wh pins s Z H Q I h;refine isTrue_and (thn (ha pins s Z H _ I h) ?_);rintro c s1 ⟨H1,I1,q1⟩
 cases c with
 | true=>exact hb wh pins s1 Z H1 Q I1 q1
 | false=>exact i02 H1 I1 q1
theorem B0f (ha:PT X a tA) (hb:PW X (.BoolOp .Or (b::rest) pos) tB'):PW X (.BoolOp .Or (a::b::rest) pos) (tOr tA tB'):=by
 intro wh pins s Z H Q I h;refine isTrue_or (thn (ha pins s Z H _ I h) ?_);rintro c s1 ⟨H1,I1,q1⟩
 cases c with
 | true=>exact i02 H1 I1 q1
 | false=>exact hb wh pins s1 Z H1 Q I1 q1
theorem C1d (ha:PT X a tA):PT X (.UnaryOp .Not a pos) (tNot tA):=by
 intro pins s Z H Q I h;exact isTrue_not (ha pins s Z H (λc H1=>Q (! c) H1) I h)
def D7p (ta tb:TE):TE:=λZ H Q=>ta Z H λx H1=>∃c,x= .bl c/\if c=true then tb Z H1 Q else Q (.bl false) H1
theorem D6f {op} {t:TE} (h:PE X a t):PE X (.BoolOp op [a] pos) t:=λpins s Z H Q I hw=>BoolOp_one (h pins s Z H Q I hw)
theorem D6h (ha:PE X a ta) (hb:PE X (.BoolOp .And (b::rest) pos) tb):PE X (.BoolOp .And (a::b::rest) pos) (D7p ta tb):=by
 intro pins s Z H Q I h;refine BoolOp_and (thn (ha pins s Z H _ I h) ?_);rintro v s1 ⟨x,H1,I1,r1,q1⟩;obtain ⟨c,rfl,q1⟩:=q1;cases r1;refine wpAny_truthy_bool ?_
 cases c with
 | true=>exact hb pins s1 Z H1 Q I1 q1
 | false=>exact i0d (.bl false) H1 I1 rfl q1
end
def SqL (K:Frag) (H:Hp) (a:Addr) (xs:List V):Prop :=
 Rd H a (.lst xs)\/
  ∃(o:Obj) (its:Array Value) (n:Nat),K.lookup a=some o/\o.cls= .type "list"/\o.dict=none/\o.data= .seq its n/\its.size<=sizeLine/\A3z xs its.toList
def SqT (K:Frag) (H:Hp) (a:Addr) (xs:List V):Prop :=
 Rd H a (.tup xs)\/
  ∃(o:Obj) (its:Array Value) (n:Nat),K.lookup a=some o/\o.cls= .type "tuple"/\o.data= .seq its n/\its.size<=sizeLine/\A3z xs its.toList
noncomputable def absV:Value->Option V
 | .none=>some .non
 | .bool b=>some (.bl b)
 | .int i _=>some (.int i)
 | .str x _=>some (.str x)
 | .bytes b _=>some (.byt b)
 | .float b _=>some (.flt b)
 | .ref a=>some (.ref a)
 | .type n=>some (.ty n)
 | _=>none
theorem A3j.abs {x:V} {u:Value} (r:A3j x u):absV u=some x:=by
 cases x with
 | non=>cases r;rfl
 | bl _=>cases r;rfl
 | int _=>obtain ⟨t,rfl⟩:=r;rfl
 | str _=>obtain ⟨t,rfl⟩:=r;rfl
 | byt _=>obtain ⟨t,rfl⟩:=r;rfl
 | flt _=>obtain ⟨t,rfl⟩:=r;rfl
 | ref _=>cases r;rfl
 | ty _=>cases r;rfl
theorem A3j.inj {x y:V} {u:Value} (r:A3j x u) (q:A3j y u):x=y:=Z1a (r.abs.symm.trans q.abs)
theorem A3z.inj:∀{xs ys:List V} {us:List Value},A3z xs us->A3z ys us->xs=ys
 | _,_,_,.nil,.nil=>rfl
 | _,_,_,.cons r t,.cons r' t'=>by rw [r.inj r',A3z.inj t t']
section
variable {X:Cx} {pins:List (Addr×Obj)} {Z:St} {H:Hp} {s:Shared} {a:Addr} {xs ys:List V}
theorem SqL.of {K:Frag} (h:H a=some (.lst xs)):SqL K H a xs:= .inl (.inl h)
theorem SqT.of {K:Frag} (h:H a=some (.tup xs)):SqT K H a xs:= .inl (.inl h)
theorem Inv.list (I:Inv X pins Z H s) (h:SqL X.K H a xs):∃its:List Value,A3z xs its/\PlainL s.heap a its.toArray/\xs.length<=sizeLine:=by
 rcases h with h | ⟨o,its,n,hk,hc,hd,hs,hz,r⟩
 ·obtain ⟨z,its,n,r,e⟩:=h.ok I.hok;exact i06 its r (i0k _ n e rfl rfl rfl) z
 ·refine i06 its.toList r (i0k o n (I.kIn a o hk) hc hd (by simpa using hs)) ?_;have e:=r.length;simp only [Array.length_toList] at e
  lia
theorem Inv.tuple (I:Inv X pins Z H s) (h:SqT X.K H a xs):∃its:List Value,A3z xs its/\IsTup s.heap a its.toArray/\xs.length<=sizeLine:=by
 rcases h with h | ⟨o,its,n,hk,hc,hs,hz,r⟩
 ·obtain ⟨z,its,r,p⟩:=h.ok I.hok;exact i06 its r p z
 ·refine i06 its.toList r (i0b o (I.kIn a o hk) hc n (by simpa using hs)) ?_;have e:=r.length;simp only [Array.length_toList] at e
  lia
theorem Inv.list_inj (I:Inv X pins Z H s) (h:SqL X.K H a xs) (h':SqL X.K H a ys):xs=ys:=by
 obtain ⟨its,r,⟨o,n,e,_,_,d⟩,_⟩:=I.list h;obtain ⟨its',r',⟨o',n',e',_,_,d'⟩,_⟩:=I.list h';rw [e] at e';cases e';rw [d] at d';injection d' with d1 _;have:its=its':=by simpa using congrArg Array.toList d1
 subst this;exact r.inj r'
theorem Inv.tuple_inj (I:Inv X pins Z H s) (h:SqT X.K H a xs) (h':SqT X.K H a ys):xs=ys:=by
 obtain ⟨its,r,⟨o,e,_,n,d⟩,_⟩:=I.tuple h;obtain ⟨its',r',⟨o',e',_,n',d'⟩,_⟩:=I.tuple h';rw [e] at e';cases e';rw [d] at d';injection d' with d1 _;have:its=its':=by simpa using congrArg Array.toList d1
 subst this;exact r.inj r'
end
abbrev Cx.wish (X:Cx) (E:Value->Shared->Prop):Cx:={ X with xe:=E }
abbrev Cx.nox (X:Cx):Cx:=X.wish λ_ _=>False
theorem Cx.Ok.wish {X:Cx} (ok:X.Ok) (E:Value->Shared->Prop):(X.wish E).Ok :=
 ⟨ok.mod,ok.kind,ok.glob,ok.blt,ok.above,ok.inj,ok.has,ok.cab,ok.hd,ok.frames,ok.stk,ok.exf,ok.bs,ok.bsz,ok.noex,ok.exfs,ok.funs,ok.frf⟩
theorem Cx.Ok.unwish {X:Cx} {E:Value->Shared->Prop} (ok:(X.wish E).Ok):X.Ok :=
 ⟨ok.mod,ok.kind,ok.glob,ok.blt,ok.above,ok.inj,ok.has,ok.cab,ok.hd,ok.frames,ok.stk,ok.exf,ok.bs,ok.bsz,ok.noex,ok.exfs,ok.funs,ok.frf⟩
section
variable {X:Cx} {pins:List (Addr×Obj)} {Z:St} {H:Hp} {s:Shared} {E:Value->Shared->Prop}
theorem Inv.wish (I:Inv X pins Z H s) (E:Value->Shared->Prop):Inv (X.wish E) pins Z H s:=⟨I.ok.wish E,I.os,I.bare,I.base,I.loc,I.cell,I.free,I.freeC,I.pin,I.hok,I.len⟩
theorem Inv.unwish (I:Inv (X.wish E) pins Z H s):Inv X pins Z H s:=⟨I.ok.unwish,I.os,I.bare,I.base,I.loc,I.cell,I.free,I.freeC,I.pin,I.hok,I.len⟩
theorem SP.unwish {D:C3t} {f:Flow} {s':Shared} (h:SP (X.wish E) pins D f s'):SP X pins D f s':=by
 cases f with
 | next=>obtain ⟨Z',H',I,q⟩:=h;exact i07 Z' H' I.unwish q
 | brk=>obtain ⟨Z',H',I,q⟩:=h;exact i07 Z' H' I.unwish q
 | cont=>obtain ⟨Z',H',I,q⟩:=h;exact i07 Z' H' I.unwish q
 | ret u=>obtain ⟨v,Z',H',I,r,q⟩:=h;exact i0l v Z' H' I.unwish r q
theorem PSs.nox {st:List Stmt} {t:TS} (h:PSs X.nox st t):PSs X st t:=λpins s Z H D I hw =>
 Z10 (h pins s Z H D (I.wish _) hw) (λ_ _ q=>q.unwish) λ_ _ z=>False.elim z
end
section
variable {X:Cx} {st:Stmt} {rest:List Stmt} {t u:TS} {e:Expr} {te:TE} {pos:Pos}
def B5r:TS:=λD Z H=>D.nx Z H
def C7o (t u:TS):TS:=λD Z H=>t { D with nx:=u D } Z H
theorem A1d:PSs X [] B5r:=λ_ _ Z H _ I h=>Z2b (i07 Z H I h)
theorem A0c (h1:PS X st t) (h2:PSs X rest u):PSs X (st::rest) (C7o t u):=by
 intro pins s Z H D I h;refine wpAny_execs_cons (thn (h1 pins s Z H { D with nx:=u D } I h) λf s1 q=> ?_)
 cases f with
 | next =>
  obtain ⟨Z',H',I',q⟩:=q;exact h2 pins s1 Z' H' D I' q
 | ret v=>exact q
 | brk=>exact q
 | cont=>exact q
theorem A0g (h1:PS X st t):PSs X [st] t:=by
 intro pins s Z H D I h;refine wpAny_execs_cons (thn (h1 pins s Z H D I h) λf s1 q=> ?_)
 cases f with
 | next=>exact Z2b q
 | ret v=>exact q
 | brk=>exact q
 | cont=>exact q
theorem Inv.quiet {pins:List (Addr×Obj)} {Z:St} {H:Hp} {s:Shared} (I:Inv X pins Z H s):interactive X.env=false:=by simp [interactive,I.ok.kind]
def D8h (te:TE):TS:=λD Z H=>te Z H λ_ H1=>D.nx Z H1
theorem A2t (he:PE X e te) (hs:swapsWith e none pos.line X.env=pure false:=by rfl):PS X (.Expr e pos) (D8h te):=by
 intro pins s Z H D I h;exact wpAny_Expr_any (thn (he pins s Z H _ I h) (by rintro v s1 ⟨x,H1,I1,r1,q1⟩;exact i07 Z H1 I1 q1)) I.quiet hs
def tRet (te:TE):TS:=λD Z H=>te Z H D.rt
theorem A0u (he:PE X e te):PS X (.Return (some e) pos) (tRet te):=by
 intro pins s Z H D I h;exact wpAny_Return_some (thn (he pins s Z H _ I h) (by rintro v s1 ⟨x,H1,I1,r1,q1⟩;exact i0l x Z H1 I1 r1 q1))
def C7q (c:TT) (t u:TS):TS:=λD Z H=>c Z H λb H1=>if b=true then t D Z H1 else u D Z H1
theorem A1z {c:Expr} {a b:List Stmt} {tc:TT} (hc:PT X c tc) (ha:PSs X a t) (hb:PSs X b u):PS X (.If c a b pos) (C7q tc t u):=by
 intro pins s Z H D I h;refine wpAny_If (thn (hc pins s Z H _ I h) ?_);rintro d s1 ⟨H1,I1,q1⟩
 cases d with
 | true=>exact ha pins s1 Z H1 D I1 q1
 | false=>exact hb pins s1 Z H1 D I1 q1
end
variable {es:List Expr} {u:Value} {g:Int->Int->Int} {pins:List (Addr×Obj)} {Z:St} {H:Hp} {s:Shared} {A:Around} {E Q:Value->Shared->Prop} {o:Option Value} {vs:List V} {P:Program} {w:World} {K:Frag} {R:Result->Shared->Prop} {pos:Pos} {fp:List Addr} {h base:Heap} {pl:Sem Bool} {body:List Stmt} {tb:TS} {f:Value->Value->Sem Value} {C:Addr} {us:List Value} {mA mg:Str->Option Value} {kw:List (Str×Value)} {CX:CXT} {fd:FuncData} {ps:List Str} {outer:List Env} {scope:Scope} {osl:Array (Option Value)}
abbrev TG:=V->St->Hp->(St->Hp->Prop)->Prop
abbrev TGs:=List V->St->Hp->(St->Hp->Prop)->Prop
def PG (X:Cx) (target:Expr) (t:TG):Prop :=
 ∀(pins:List (Addr×Obj)) (s:Shared) (Z:St) (H:Hp) (v:V) (u:Value) (Q:St->Hp->Prop),Inv X pins Z H s->A3j v u->t v Z H Q->
  wpAny (model X.prog X.w) X.A (assign target X.env u) (λ_ s'=>∃Z' H',Inv X pins Z' H' s'/\Q Z' H') X.xe s
def PGs (X:Cx) (ts:List Expr) (t:TGs):Prop :=
 ∀(pins:List (Addr×Obj)) (s:Shared) (Z:St) (H:Hp) (vs:List V) (us:List Value) (Q:St->Hp->Prop),Inv X pins Z H s->A3z vs us->t vs Z H Q->
  wpAny (model X.prog X.w) X.A (assignInOrder ((assignEach ts X.env).map (·.2)) us) (λ_ s'=>∃Z' H',Inv X pins Z' H' s'/\Q Z' H') X.xe s
section
variable {X:Cx} {pos:Pos}
def A5w (i:Nat):TG:=λv Z H Q=>Q (Z.set i (some v)) H
theorem A0n {i:Nat} {x:Str} (hN:X.N.Nodup) (hi:X.N[i]? =some x) (hx:Loc X.env.scope x) (hf:X.fn x=true\/X.env.scope.names.lookup x=some .local:=by first | exact .inl rfl | exact .inr rfl | assumption):PG X (.Name x pos) (A5w i):=by
 intro pins s Z H v u Q I r h;exact wpAny_assign_Name (C1j I hN hi hx r (λs' I'=>(i07 _ H I' h)) hf)
def D0l:TGs:=λvs Z H Q=>vs=[]/\Q Z H
def A8r (t:TG) (u:TGs):TGs:=λvs Z H Q=>∃v r,vs=v::r/\t v Z H λZ' H'=>u r Z' H' Q
theorem A2k:PGs X [] D0l:=by
 intro pins s Z H vs us Q I r h;obtain ⟨e,h⟩:=h;subst e;cases r;exact assignInOrder_nil (i07 Z H I h)
theorem A0v {e:Expr} {t:TG} {u:TGs} (h1:PG X e t) (h2:PGs X es u)
  (hs:(assignEach (e::es) X.env).map (·.2)=assign e X.env::(assignEach es X.env).map (·.2):=by rfl):PGs X (e::es) (A8r t u):=by
 intro pins s Z H vs us Q I r h;obtain ⟨v,vr,e1,h⟩:=h;subst e1
 cases r with
 | cons r rr =>
  rw [hs];refine assignInOrder_cons (thn (h1 pins s Z H _ _ _ I r h) ?_);rintro _ s1 ⟨Z1,H1,I1,q1⟩;exact h2 pins s1 Z1 H1 _ _ Q I1 rr q1
def D0w (K:Frag) (n:Nat) (t:TGs):TG:=λv Z H Q=>∃a xs,v= .ref a/\SqT K H a xs/\xs.length=n/\t xs Z H Q
theorem A3f {k:Nat} {t:TGs} {n:Nat} (hc:X.calm=true) (h:PGs X es t)
  (hn:(assignEach es X.env).length=n:=by rfl) (hst:(assignEach es X.env).findIdx? (·.1)=none:=by rfl):PG X (.Tuple es k pos) (D0w X.K n t):=by
 intro pins s Z H v u Q I r hw;obtain ⟨a,xs,e1,hq,hl,hw⟩:=hw;subst e1;cases r;obtain ⟨its,rv,ht,hz⟩:=I.tuple hq;refine assign_Tuple_tuple (I.ok.hd hc) ht (by simp [hn,<-hl,rv.length]) hst λh' hx=> ?_;have I1:Inv X pins Z H { s with heap:=h' }:=I.kept (t':=s.toks) λb o e=>hx b o (Z0h (Z0a e)) e
 exact h pins _ Z H xs _ Q I1 (by simpa using rv) hw
def D7l (te:TE) (g:TG):TS:=λD Z H=>te Z H λx H1=>g x Z H1 D.nx
theorem A8z {tg e:Expr} {te:TE} {g:TG} (he:PE X e te) (hg:PG X tg g) (hs:swapsWithSole [tg] e pos.line X.env=pure false:=by rfl) (hw:swappedStores [tg] e X.env=pure none:=by rfl)
  (h1:(assignEach [tg] X.env).map (·.2)=[assign tg X.env]:=by rfl):PS X (.Assign [tg] e pos) (D7l te g):=by
 intro pins s Z H D I h;refine wpAny_Assign_stores (thn (he pins s Z H _ I h) ?_) hs hw;rintro v s1 ⟨x,H1,I1,r1,q1⟩;rw [h1];exact thn (hg pins s1 Z H1 x v _ I1 r1 q1) λ_ s2 q=>q
theorem A0l {i:Nat} {x:Str} {e:Expr} {te:TE} {pos':Pos} (hN:X.N.Nodup) (hi:X.N[i]? =some x) (hx:Loc X.env.scope x) (he:PE X e te) (hs:swapsWith e (some (.Name x pos')) pos.line X.env=pure false:=by rfl) (hf:X.fn x=true\/X.env.scope.names.lookup x=some .local:=by first | exact .inl rfl | exact .inr rfl | assumption) :
  PS X (.Assign [.Name x pos'] e pos) (D7l te (A5w i)):=by
 intro pins s Z H D I h;refine wpAny_Assign_Name (thn (he pins s Z H _ I h) ?_) hs;rintro v s1 ⟨y,H1,I1,r1,q1⟩;exact C1j I1 hN hi hx r1 (λs2 I2=>(i07 _ H1 I2 q1)) hf
def D4v (c:TT) (tb:TS):TS:=λD Z H=>∃W:Nat->St->Hp->Prop,(∃m,W m Z H)/\∀m Z H,W m Z H->
 c Z H λb H1=>if b=true then∃N:St->Hp->Prop,(∀Z' H',N Z' H'->∃m',m'<m/\W m' Z' H')/\tb { D with nx:=N,ct:=N,bk:=D.nx } Z H1 else D.nx Z H1
theorem A6r {c:Expr} {body:List Stmt} {tc:TT} {tb:TS} (hp:PassesOwn (model X.prog X.w) X.A X.env X.xe) (hc:PT X c tc) (hb:PSs X body tb):PS X (.While c body [] pos) (D4v tc tb):=by
 intro pins s Z H D I h;obtain ⟨W,⟨m0,w0⟩,turn⟩:=h;refine wpAny_While (codeAny_whileLoop (λn s'=>∃Z' H',Inv X pins Z' H' s'/\W n Z' H') ?_ m0 (i07 Z H I w0));rintro n s1 ⟨Z1,H1,I1,w1⟩;refine wpAny_passesOwn hp (thn (hc pins s1 Z1 H1 _ I1 (turn n Z1 H1 w1)) ?_);rintro b s2 ⟨H2,I2,q2⟩
 cases b with
 | true =>
  obtain ⟨N,hN,q2⟩:=q2;rw [Z12 rfl];refine wpAny_passesOwn hp (thn (hb pins s2 Z1 H2 _ I2 q2) λf s3 q3=> ?_)
  cases f with
  | next =>
   obtain ⟨Z3,H3,I3,n3⟩:=q3;obtain ⟨m',hm,w3⟩:=hN Z3 H3 n3;exact ⟨m',(i09 hm Z3 H3 I3 w3)⟩
  | cont =>
   obtain ⟨Z3,H3,I3,n3⟩:=q3;obtain ⟨m',hm,w3⟩:=hN Z3 H3 n3;exact ⟨m',(i09 hm Z3 H3 I3 w3)⟩
  | brk=>exact q3
  | ret v=>exact q3
 | false =>
  rw [Z0t Z0v];exact Z2b (i07 Z1 H2 I2 q2)
end
structure It where
 go:Nat->Hp->Prop
 yld:Nat->Hp->V->Hp->Prop
 stop:Nat->Hp->Prop
def C0r (X:Cx) (pins:List (Addr×Obj)) (H:Hp) (b:Addr):Prop :=
 H b=none/\b≠X.env.locals/\b∉X.fs/\(b∈X.ex\/X.s₀.heap.objs.size<=b)/\(∀x c,X.env.cells.lookup x=some c->c≠b)/\∀p∈X.pn++pins,p.1≠b
theorem Inv.fpOk {X:Cx} {H':Hp} {b:Addr} (I:Inv X pins Z H s) (hb:s.heap.objs.size<=b) (hn:H' b=none):C0r X pins H' b:=by
 refine i0g hn (Z1q (Z0q I.lt hb)) (I.nofs hb) (.inr (Z1n I.sz hb)) (λx c e z=> ?_) λp hp z=> ?_
 ·obtain ⟨v,q⟩:=I.cell x c e;exact absurd (Z0q q.lt (by rw [z];exact hb)) (Nat.lt_irrefl _)
 ·exact absurd (Z0q (Z0a (I.pin p hp).1) (by rw [z];exact hb)) (Nat.lt_irrefl _)
structure D0a (P:Program) (w:World) (K:Frag) (tg:Expr) (J:It) (fp:List Addr) (it:Addr) (tn:Nat->Heap->Prop):Prop where
 mem:it∈fp
 obj:∀i h,tn i h->∀b∈fp,∃o,h.get? b=some o/\∀v,o.data≠.cell v
 keep:∀i h h',tn i h->(∀b∈fp,∀o,h.get? b=some o->h'.get? b=some o)->tn i h'
 item:∀(X:Cx),X.prog=P->X.w=w->X.K=K->X.calm=true->∀(i:Nat) (pins:List (Addr×Obj)) (s:Shared) (Z:St) (H:Hp) (E:Value->Shared->Prop),Inv X pins Z H s->(∀b∈fp,C0r X pins H b)->tn i s.heap->J.go i H->
  wpAny (model P w) X.A (pyNext (.ref it)) (λr s1=>∃u,r=some u/\
   wpAny (model P w) X.A (letOwnedTupleGo tg (.ref it) u) (λ_ s2=>∃x H',Inv X pins Z H' s2/\A3j x u/\J.yld i H x H'/\tn (i+1) s2.heap/\∀b∈fp,H' b=none) E s1) E s
 done:∀(X:Cx),X.prog=P->X.w=w->X.K=K->X.calm=true->∀(i:Nat) (pins:List (Addr×Obj)) (s:Shared) (Z:St) (H:Hp) (E:Value->Shared->Prop),Inv X pins Z H s->(∀b∈fp,C0r X pins H b)->tn i s.heap->J.stop i H->
  wpAny (model P w) X.A (pyNext (.ref it)) (λr s1=>r=none/\Inv X pins Z H s1) E s
 self:∀(A:Around) (i:Nat) (s:Shared) (Q:Value->Shared->Prop) (E:Value->Shared->Prop),tn i s.heap->Q (.ref it) s->wpAny (model P w) A (pyIter (.ref it)) Q E s
abbrev TI:=St->Hp->(It->Hp->Prop)->Prop
def PIE (X:Cx) (pins:List (Addr×Obj)) (Z:St) (tg:Expr) (R:It->Hp->Prop) (itv:Value) (s2:Shared):Prop :=
 ∃(it:Addr) (fp:List Addr) (tn:Nat->Heap->Prop) (J:It) (H':Hp),itv= .ref it/\Inv X pins Z H' s2/\D0a X.prog X.w X.K tg J fp it tn/\tn 0 s2.heap/\(∀b∈fp,C0r X pins H' b)/\R J H'
def PI (X:Cx) (tg iter:Expr) (wi:TI):Prop :=
 ∀(pins:List (Addr×Obj)) (s:Shared) (Z:St) (H:Hp) (R:It->Hp->Prop),Inv X pins Z H s->wi Z H R->
  wpAny (model X.prog X.w) X.A (eval iter X.env) (λv s1=>wpAny (model X.prog X.w) X.A (pyIter v) (PIE X pins Z tg R) X.xe s1) X.xe s
theorem C3a {M:Model} {tg:Expr} {it:Addr} {o:Obj} {n:String} {vs:Array Value} {Q:Unit->Shared->Prop} (ho:s.heap.get? it=some o) (hc:o.cls= .type n) (hd:o.data= .fields vs)
  (hn:["enumerate","zip","dict_itemiterator","dict_reverseitemiterator","odict_iterator","itertools.zip_longest","itertools.pairwise"].contains n=false) (hQ:Q () s):wpAny M A (letOwnedTupleGo tg (.ref it) u) Q E s:=by
 unfold letOwnedTupleGo
 cases tg <;> first
  | exact Z04 hQ
  | (cases u <;> first
    | exact Z04 hQ
    | (refine Z00 (wpAny_load ho ?_);rw [hc,hd];show wpAny M A (if (["enumerate","zip","dict_itemiterator","dict_reverseitemiterator","odict_iterator","itertools.zip_longest","itertools.pairwise"].contains n&&vs[0]? == some (rawInt _))=true then _ else _) Q E s;rw [Z0t (by intro h;rw [hn,Bool.false_and] at h;cases h)];exact Z04 hQ))
def Itl (K:Frag) (a:Addr):It :=
 ⟨λi H=>∃xs x,SqL K H a xs/\xs[i]? =some x,λi H x H'=>H'=H/\∀xs,SqL K H a xs->xs[i]? =some x,λi H=>∃xs,SqL K H a xs/\xs.length<=i⟩
def Itt (K:Frag) (a:Addr):It :=
 ⟨λi H=>∃xs x,SqT K H a xs/\xs[i]? =some x,λi H x H'=>H'=H/\∀xs,SqT K H a xs->xs[i]? =some x,λi H=>∃xs,SqT K H a xs/\xs.length<=i⟩
def Itr (lo:Int) (n:Nat):It:=⟨λi _=>i<n,λi H x H'=>H'=H/\x= .int (lo+i),λi _=>n<=i⟩
theorem C6m {tg:Expr} (a it:Addr):D0a P w K tg (Itl K a) [it] it (λi h=>h.IsListIter it a i) where
 mem:=by simp
 obj:=λi h st b hb=>by
  have e:b=it:=by simpa using hb
  subst e;obtain ⟨o,e,c,d⟩:=st;exact i02 o e λv z=>by rw [d] at z;cases z
 keep:=λi h h' st k=>st.at λo e=>k it (by simp) o e
 item:=by
  intro X hP hw hK hc i pins s Z H E I hf st hg;subst hP hw hK;obtain ⟨xs,x,hq,hx⟩:=hg;obtain ⟨its,rv,p,hz⟩:=I.list hq;obtain ⟨u,hu,ru⟩:=rv.get hx;obtain ⟨f0,f1,f2,f3,f4,f5⟩:=hf it (by simp);refine wpAny_pyNext_list_item st p.isList (x:=u) (by simpa using hu) λh' st' sb=> ?_;have I1:Inv X pins Z H { s with heap:=h' }:=I.turned (t':=s.toks) (λb o hb e=>(sb.2 b hb).trans e) f0 f1 f3 f4 f5
  obtain ⟨o,e,c,d⟩:=id st';exact i02 u rfl (C3a (s:={ s with heap:=h' }) e c d (by decide) (i0o x H I1 ru ⟨rfl,λys hy=>by rw [I.list_inj hy hq];exact hx⟩ st' λb hb=>(hf b hb).1))
 done:=by
  intro X hP hw hK hc i pins s Z H E I hf st hg;subst hP hw hK;obtain ⟨xs,hq,hx⟩:=hg;obtain ⟨its,rv,p,hz⟩:=I.list hq;obtain ⟨f0,f1,f2,f3,f4,f5⟩:=hf it (by simp);have hl:=rv.length;exact wpAny_pyNext_list_end (I.ok.hd hc) st p.isList (by simp;lia) λh' eb=>⟨rfl,I.turned (t':=s.toks) (λb o hb e=>eb b o hb e) f0 f1 f3 f4 f5⟩
 self:=λ_ _ _ _ _ st h=>wpAny_pyIter_listiter st h
theorem C2l {tg:Expr} (a it:Addr):D0a P w K tg (Itt K a) [it] it (λi h=>h.IsTupleIter it a i) where
 mem:=by simp
 obj:=λi h st b hb=>by
  have e:b=it:=by simpa using hb
  subst e;obtain ⟨o,e,c,d⟩:=st;exact i02 o e λv z=>by rw [d] at z;cases z
 keep:=λi h h' st k=>st.at λo e=>k it (by simp) o e
 item:=by
  intro X hP hw hK hc i pins s Z H E I hf st hg;subst hP hw hK;obtain ⟨xs,x,hq,hx⟩:=hg;obtain ⟨its,rv,p,hz⟩:=I.tuple hq;obtain ⟨u,hu,ru⟩:=rv.get hx;obtain ⟨f0,f1,f2,f3,f4,f5⟩:=hf it (by simp);refine wpAny_pyNext_tuple_item st (show s.heap.IsTuple a its.toArray from p) (x:=u) (by simpa using hu) λh' st' sb=> ?_;have I1:Inv X pins Z H { s with heap:=h' }:=I.turned (t':=s.toks) (λb o hb e=>(sb.2 b hb).trans e) f0 f1 f3 f4 f5
  obtain ⟨o,e,c,d⟩:=id st';exact i02 u rfl (C3a (s:={ s with heap:=h' }) e c d (by decide) (i0o x H I1 ru ⟨rfl,λys hy=>by rw [I.tuple_inj hy hq];exact hx⟩ st' λb hb=>(hf b hb).1))
 done:=by
  intro X hP hw hK hc i pins s Z H E I hf st hg;subst hP hw hK;obtain ⟨xs,hq,hx⟩:=hg;obtain ⟨its,rv,p,hz⟩:=I.tuple hq;obtain ⟨f0,f1,f2,f3,f4,f5⟩:=hf it (by simp);have hl:=rv.length;exact wpAny_pyNext_tuple_end (I.ok.hd hc) st (show s.heap.IsTuple a its.toArray from p) (by simp;lia) λh' eb=>⟨rfl,I.turned (t':=s.toks) (λb o hb e=>eb b o hb e) f0 f1 f3 f4 f5⟩
 self:=λ_ _ _ _ _ st h=>wpAny_pyIter_tupleiter st h
theorem C2m {tg:Expr} (it:Addr) (lo:Int) (n:Nat):D0a P w K tg (Itr lo n) [it] it (λi h=>IsRangeIter h it (lo+(i:Nat)*1) ((n:Int)-(i:Nat)) 1) where
 mem:=by simp
 obj:=λi h st b hb=>by
  have e:b=it:=by simpa using hb
  subst e
  exact ⟨_,st,λv z=>by
   have z':Data.fields _=Data.cell v:=z
   cases z'⟩
 keep:=λi h h' st k=>k it (by simp) _ st
 item:=by
  intro X hP hw hK hc i pins s Z H E I hf st hg;subst hP hw hK;obtain ⟨f0,f1,f2,f3,f4,f5⟩:=hf it (by simp);have W:=Walks.range (prog:=X.prog) (w:=X.w) (I.ok.hd hc) it lo 1 n;refine W.item i s _ _ hg st λv h' tk hv st' kk=> ?_;obtain ⟨t,rfl⟩:=hv;have I1:Inv X pins Z H { s with heap:=h',toks:=tk }:=I.turned (λb o hb e=>kk b o (by simpa using hb) e) f0 f1 f3 f4 f5
  refine i02 _ rfl (C3a (s:={ s with heap:=h',toks:=tk }) (n:="range_iterator") st' rfl rfl (by decide) (i0o (.int (lo+i)) H I1 ⟨t,?_⟩ ⟨rfl,rfl⟩ st' λb hb=>(hf b hb).1))
  rw [Int.mul_one]
 done:=by
  intro X hP hw hK hc i pins s Z H E I hf st hg;subst hP hw hK;obtain ⟨f0,f1,f2,f3,f4,f5⟩:=hf it (by simp);exact wpAny_pyNext_range_end (I.ok.hd hc) st (by have:n<=i:=hg;lia) λh' eb=>⟨rfl,I.turned (t':=s.toks) (λb o hb e=>eb b o hb e) f0 f1 f3 f4 f5⟩
 self:=λ_ _ _ _ _ st h=>wpAny_pyIter_rangeiter st h
section
variable {X:Cx} {tg:Expr}
def D6k (K:Frag) (tl:TE):TI:=λZ H R=>tl Z H λx H1=>∃a,x= .ref a/\(∃xs,SqL K H1 a xs)/\R (Itl K a) H1
def D9j (K:Frag) (tl:TE):TI:=λZ H R=>tl Z H λx H1=>∃a,x= .ref a/\(∃xs,SqT K H1 a xs)/\R (Itt K a) H1
theorem A2q {l:Expr} {tl:TE} (hl:PE X l tl):PI X tg l (D6k X.K tl):=by
 intro pins s Z H R I h;refine thn (hl pins s Z H _ I h) ?_;rintro v s1 ⟨x,H1,I1,r1,q1⟩;obtain ⟨a,e,⟨xs,hq⟩,q⟩:=q1;subst e;cases r1;obtain ⟨its,rv,p,hz⟩:=I1.list hq;refine wpAny_pyIter_list p.isList ?_;refine i11 s1.heap.objs.size [s1.heap.objs.size] _ _ H1 rfl (I1.kept (t':=s1.toks) λb o e=>Z01 _ e) (C6m a _) (i06 _ (Z0c _ rfl) rfl rfl) (λb hb=> ?_) q;have e:b=s1.heap.objs.size:=by simpa using hb
 subst e;exact I1.fpOk (Z09 _) (I1.hok.fresh (Z09 _))
theorem C9z {l:Expr} {tl:TE} (hl:PE X l tl):PI X tg l (D9j X.K tl):=by
 intro pins s Z H R I h;refine thn (hl pins s Z H _ I h) ?_;rintro v s1 ⟨x,H1,I1,r1,q1⟩;obtain ⟨a,e,⟨xs,hq⟩,q⟩:=q1;subst e;cases r1;obtain ⟨its,rv,p,hz⟩:=I1.tuple hq;refine wpAny_pyIter_tuple (show s1.heap.IsTuple a its.toArray from p) ?_;refine i11 s1.heap.objs.size [s1.heap.objs.size] _ _ H1 rfl (I1.kept (t':=s1.toks) λb o e=>Z01 _ e) (C2l a _) (i06 _ (Z0c _ rfl) rfl rfl) (λb hb=> ?_) q;have e:b=s1.heap.objs.size:=by simpa using hb
 subst e;exact I1.fpOk (Z09 _) (I1.hok.fresh (Z09 _))
theorem C9p {R:It->Hp->Prop} {lo hi:Int} {t u v:Tok} {tk:Nat} (I:Inv X pins Z H s) (h1: -(2^62)<=lo) (h2:lo<2^62) (h3: -(2^62)<=hi) (h4:hi<2^62)
  (q:R (Itr lo (hi-lo).toNat) H):wpAny (model X.prog X.w) X.A (pyIter (.ref s.heap.objs.size)) (PIE X pins Z tg R) E { s with heap:=s.heap.push { cls:= .type "range",data:= .fields #[.int lo t,.int hi u,.int 1 v] },toks:=tk }:=by
 refine wpAny_pyIter_range (IsRange.new ..) (small_one h1 h2 h3 h4) ?_;have I1:Inv X pins Z H { s with heap:=s.heap.push { cls:= .type "range",data:= .fields #[.int lo t,.int hi u,.int 1 v] },toks:=tk }:=I.kept λb o e=>Z01 _ e
 refine ⟨(s.heap.push { cls:= .type "range",data:= .fields #[.int lo t,.int hi u,.int 1 v] }).objs.size,[(s.heap.push { cls:= .type "range",data:= .fields #[.int lo t,.int hi u,.int 1 v] }).objs.size],_,_,H,rfl,
  I1.kept (t':=tk) λb o e=>Z01 _ e,C2m _ lo (hi-lo).toNat,?_,λb hb=> ?_,q⟩
 ·have e1:lo+((0:Nat):Int)*1=lo:=by simp
  have e2:(((hi-lo).toNat:Nat):Int)-((0:Nat):Int)=Builtin.Range.rangeSize lo hi 1:=by rw [rangeSize_one];split <;> lia
  show IsRangeIter _ _ (lo+((0:Nat):Int)*1) ((((hi-lo).toNat:Nat):Int)-((0:Nat):Int)) 1;rw [e1,e2];exact Z0c _ rfl
 ·have e:b=(s.heap.push { cls:= .type "range",data:= .fields #[.int lo t,.int hi u,.int 1 v] }).objs.size:=by simpa using hb
  subst e;exact I1.fpOk (Z09 _) (I1.hok.fresh (Z09 _))
def D7o (ta:TA):TI:=λZ H R=>ta Z H λvs H1=>∃j:Int,vs=[.int j]/\-(2^62)<=j/\j<2^62/\R (Itr 0 j.toNat) H1
theorem A3k {a:Expr} {ta:TA} {p:Pos} (hg:Gl X "range") (hm:X.mg "range"=none) (ha:PA X [a] ta) (hs:starEach [a] X.env=[(false,eval a X.env)]:=by rfl):PI X tg (.Call (.Name "range" p) [a] [] pos) (D7o ta):=by
 intro pins s Z H R I h;refine Call_ (B4w I hg hm boot_range (PyProof.Rows.callWith_type1 (thn (ha pos pins s Z H _ I h) ?_) hs rfl));rintro us s1 ⟨vs,H1,I1,r1,q1⟩;obtain ⟨j,e,q1,q2,q⟩:=q1;subst e
 cases r1 with
 | cons r rr =>
  cases rr
  obtain ⟨t,rfl⟩:=r;exact call_range_1 (C9p I1 (by lia) (by lia) q1 q2 (by simpa using q))
def tFor (wi:TI) (g:TG) (tb:TS):TS:=λD Z H=>wi Z H λJ H1=>∃W:Nat->Nat->St->Hp->Prop,(∃m,W 0 m Z H1)/\∀i m Z H,W i m Z H->
 (J.stop i H/\D.nx Z H)\/(J.go i H/\∃N:St->Hp->Prop,(∀Z' H',N Z' H'->∃m',m'<m/\W (i+1) m' Z' H')/\∀x H',J.yld i H x H'->g x Z H' λZ2 H2=>tb { D with nx:=N,ct:=N,bk:=D.nx } Z2 H2)
def B4v (fp:List Addr) (h:Heap):List (Addr×Obj):=fp.filterMap λb=>(h.get? b).map λo=>(b,o)
theorem A5k {b:Addr} {o:Obj} (hb:b∈fp) (e:h.get? b=some o):(b,o)∈B4v fp h:=List.mem_filterMap.mpr (i02 b hb (by rw [e];rfl))
theorem C7c {p:Addr×Obj} (hp:p∈B4v fp h):p.1∈fp/\h.get? p.1=some p.2:=by
 obtain ⟨b,hb,e⟩:=List.mem_filterMap.mp hp
 cases q:h.get? b with
 | none=>rw [q] at e;cases e
 | some o =>
  rw [q] at e;have e':(b,o)=p:=Z1a e;subst e';exact ⟨hb,q⟩
theorem Inv.pinned (I:Inv X pins Z H s) (hf:∀b∈fp,C0r X pins H b) (ho:∀b∈fp,∃o,s.heap.get? b=some o/\∀v,o.data≠.cell v):Inv X (pins++B4v fp s.heap) Z H s :=
 I.pins_of λp hp=>(Z07.mp hp).elim (λz=>I.pin p (Z02 _ z)) λz=>by
  obtain ⟨hb,e⟩:=C7c z;obtain ⟨f0,f1,f2,_⟩:=hf p.1 hb;obtain ⟨o,e',d⟩:=ho p.1 hb;rw [e] at e';cases e';exact i08 e f0 f1 f2 d
theorem Inv.unpinned {pl:List (Addr×Obj)} (I:Inv X (pins++pl) Z H s):Inv X pins Z H s:=I.pins_of λp hp=>I.pin p (Z02 _ (Z05 _ hp))
theorem A3d {iter:Expr} {wi:TI} {g:TG} (hp:PassesOwn (model X.prog X.w) X.A X.env X.xe) (hc:X.calm=true) (hi:PI X tg iter wi) (hg:PG X tg g) (hb:PSs X body tb)
  (hs:∀x,foldedSetIterable iter X.env x=pure x:=by intro _;rfl):PS X (.For tg iter body [] pos) (tFor wi g tb):=by
 intro pins s Z H D I h;refine wpAny_For (thn (hi pins s Z H _ I h) λv s1 h1=>thn h1 λitv s2 h2=> ?_) hs;refine e0e h2 ?_;clear h2;rintro it fp tn J H2 e I2 T st2 ⟨f2,W,⟨m0,w0⟩,turn⟩;subst e;have stat:∀{H':Hp},(∀b∈fp,H' b=none)->∀b∈fp,C0r X pins H' b:=λhn b hb=>⟨hn b hb,(f2 b hb).2⟩;refine codeAny_forLoop_any (λn s'=>∃i Z' H',Inv X pins Z' H' s'/\tn i s'.heap/\(∀b∈fp,H' b=none)/\W i n Z' H') ?_ m0 (i0p 0 Z H2 I2 st2 (λb hb=>(f2 b hb).1) w0);refine λn s3 zz=>e09 zz λi Z3 H3 I3 st3 fr3 w3=>?_;clear zz;rcases turn i n Z3 H3 w3 with ⟨stop,qn⟩ | ⟨go,N,hN,step⟩
 ·refine wpAny_passesOwn hp (thn (T.done X rfl rfl rfl hc i pins s3 Z3 H3 X.xe I3 (stat fr3) st3 stop) ?_);rintro r s4 ⟨hr,I4⟩;subst hr;exact Z2b (i07 Z3 H3 I4 qn)
 ·refine wpAny_passesOwn hp (thn (T.item X rfl rfl rfl hc i pins s3 Z3 H3 X.xe I3 (stat fr3) st3 go) ?_);rintro r s4 ⟨u,hr,h4⟩;subst hr;refine wpAny_passesOwn hp (thn h4 ?_);rintro _ s5 zz;refine e06 zz ?_;clear zz;rintro x H5 I5 r5 y5 ⟨st5,fr5⟩;have I5':=I5.pinned (stat fr5) (T.obj _ _ st5);refine wpAny_passesOwn hp (thn (hg _ s5 Z3 H5 x u _ I5' r5 (step x H5 y5)) ?_);rintro _ s6 ⟨Z6,H6,I6,q6⟩;refine wpAny_passesOwn hp (thn (hb _ s6 Z6 H6 _ I6 q6) λf s7 q7=> ?_)
  have again:∀{Z7:St} {H7:Hp},Inv X (pins++B4v fp s5.heap) Z7 H7 s7->N Z7 H7->∃m,m<n/\∃i Z' H',Inv X pins Z' H' s7/\tn i s7.heap/\(∀b∈fp,H' b=none)/\W i m Z' H':=λ{Z7 H7} I7 n7=>by
   obtain ⟨m',hm,w7⟩:=hN Z7 H7 n7;refine i0v m' hm (i+1) Z7 H7 I7.unpinned (T.keep _ _ _ st5 λb hb o e=>(I7.pin (b,o) (Z02 _ (Z02 _ (A5k hb e)))).1) (λb hb=> ?_) w7;obtain ⟨o,e,d⟩:=T.obj _ _ st5 b hb;exact (I7.pin (b,o) (Z02 _ (Z02 _ (A5k hb e)))).2.1
  cases f with
  | next=>obtain ⟨Z7,H7,I7,n7⟩:=q7;exact again I7 n7
  | cont=>obtain ⟨Z7,H7,I7,n7⟩:=q7;exact again I7 n7
  | brk=>obtain ⟨Z7,H7,I7,q7⟩:=q7;exact i07 Z7 H7 I7.unpinned q7
  | ret v=>obtain ⟨x7,Z7,H7,I7,r7,q7⟩:=q7;exact ⟨x7,Z7,H7,I7.unpinned,r7,q7⟩
end
theorem A5i {a:Addr} {xs:List V} {g:TG} {D:C3t} (Pv:Nat->St->Hp->Prop) (h0:Pv 0 Z H) (hl:∀i Z H,i<=xs.length->Pv i Z H->SqL K H a xs)
  (hs:∀i x Z H,xs[i]? =some x->Pv i Z H->g x Z H λZ2 H2=>tb { D with nx:=Pv (i+1),ct:=Pv (i+1),bk:=D.nx } Z2 H2) (hd:∀Z H,Pv xs.length Z H->D.nx Z H) :
  ∃W:Nat->Nat->St->Hp->Prop,(∃m,W 0 m Z H)/\∀i m Z H,W i m Z H->
   ((Itl K a).stop i H/\D.nx Z H)\/((Itl K a).go i H/\∃N:St->Hp->Prop,(∀Z' H',N Z' H'->∃m',m'<m/\W (i+1) m' Z' H')/\∀x H',(Itl K a).yld i H x H'->g x Z H' λZ2 H2=>tb { D with nx:=N,ct:=N,bk:=D.nx } Z2 H2):=by
 refine i02 (λi m Z H=>m=xs.length-i/\i<=xs.length/\Pv i Z H) (i06 xs.length (by simp) (Z1e _) h0) ?_;rintro i m Z H ⟨rfl,hi,p⟩;have q:=hl i Z H hi p;by_cases hlt:i<xs.length
 ·refine .inr (i05 (i07 xs (xs[i]) q (by simp [hlt])) (Pv (i+1)) (λZ' H' p'=>(i0a (xs.length-(i+1)) (by lia) rfl hlt p')) λx H' y=> ?_);obtain ⟨e,y⟩:=y;subst e;exact hs i x Z _ (y xs q) p
 ·have e:i=xs.length:=by lia
  subst e;exact .inl ⟨(i02 xs q (Z09 _)),hd Z H p⟩
theorem D2b {a:Addr} {xs:List V} {g:TG} {D:C3t} (Pv:Nat->St->Hp->Prop) (h0:Pv 0 Z H) (hl:∀i Z H,i<=xs.length->Pv i Z H->SqT K H a xs)
  (hs:∀i x Z H,xs[i]? =some x->Pv i Z H->g x Z H λZ2 H2=>tb { D with nx:=Pv (i+1),ct:=Pv (i+1),bk:=D.nx } Z2 H2) (hd:∀Z H,Pv xs.length Z H->D.nx Z H) :
  ∃W:Nat->Nat->St->Hp->Prop,(∃m,W 0 m Z H)/\∀i m Z H,W i m Z H->
   ((Itt K a).stop i H/\D.nx Z H)\/((Itt K a).go i H/\∃N:St->Hp->Prop,(∀Z' H',N Z' H'->∃m',m'<m/\W (i+1) m' Z' H')/\∀x H',(Itt K a).yld i H x H'->g x Z H' λZ2 H2=>tb { D with nx:=N,ct:=N,bk:=D.nx } Z2 H2):=by
 refine i02 (λi m Z H=>m=xs.length-i/\i<=xs.length/\Pv i Z H) (i06 xs.length (by simp) (Z1e _) h0) ?_;rintro i m Z H ⟨rfl,hi,p⟩;have q:=hl i Z H hi p;by_cases hlt:i<xs.length
 ·refine .inr (i05 (i07 xs (xs[i]) q (by simp [hlt])) (Pv (i+1)) (λZ' H' p'=>(i0a (xs.length-(i+1)) (by lia) rfl hlt p')) λx H' y=> ?_);obtain ⟨e,y⟩:=y;subst e;exact hs i x Z _ (y xs q) p
 ·have e:i=xs.length:=by lia
  subst e;exact .inl ⟨(i02 xs q (Z09 _)),hd Z H p⟩
theorem A3r {lo:Int} {n:Nat} {g:TG} {D:C3t} (Pv:Nat->St->Hp->Prop) (h0:Pv 0 Z H)
  (hs:∀i Z H,i<n->Pv i Z H->g (.int (lo+i)) Z H λZ2 H2=>tb { D with nx:=Pv (i+1),ct:=Pv (i+1),bk:=D.nx } Z2 H2) (hd:∀Z H,Pv n Z H->D.nx Z H) :
  ∃W:Nat->Nat->St->Hp->Prop,(∃m,W 0 m Z H)/\∀i m Z H,W i m Z H->
   ((Itr lo n).stop i H/\D.nx Z H)\/((Itr lo n).go i H/\∃N:St->Hp->Prop,(∀Z' H',N Z' H'->∃m',m'<m/\W (i+1) m' Z' H')/\∀x H',(Itr lo n).yld i H x H'->g x Z H' λZ2 H2=>tb { D with nx:=N,ct:=N,bk:=D.nx } Z2 H2):=by
 refine i02 (λi m Z H=>m=n-i/\i<=n/\Pv i Z H) (i06 n (by simp) (Z1e _) h0) ?_;rintro i m Z H ⟨rfl,hi,p⟩;by_cases hlt:i<n
 ·refine .inr (i05 hlt (Pv (i+1)) (λZ' H' p'=>(i0a (n-(i+1)) (by lia) rfl hlt p')) λx H' y=> ?_);obtain ⟨e,y⟩:=y;subst e y;exact hs i Z _ hlt p
 ·have e:i=n:=by lia
  subst e;exact .inl ⟨Z09 _,hd Z H p⟩
abbrev R2:=V->V->Hp->VK->Prop
def OpR (X:Cx) (f:Value->Value->Sem Value) (r:R2):Prop :=
 ∀(pins:List (Addr×Obj)) (s:Shared) (Z:St) (H:Hp) (x y:V) (v u:Value) (Q:VK),Inv X pins Z H s->A3j x v->A3j y u->r x y H Q->
  wpAny (model X.prog X.w) X.A (f v u) (EP X pins Z Q) X.xe s
def UnR (X:Cx) (f:Value->Sem Value) (r:V->Hp->VK->Prop):Prop :=
 ∀(pins:List (Addr×Obj)) (s:Shared) (Z:St) (H:Hp) (x:V) (v:Value) (Q:VK),Inv X pins Z H s->A3j x v->r x H Q->
  wpAny (model X.prog X.w) X.A (f v) (EP X pins Z Q) X.xe s
def A9l (X:Cx) (f:Value) (r:List V->Hp->VK->Prop):Prop :=
 ∀(pins:List (Addr×Obj)) (s:Shared) (Z:St) (H:Hp) (xs:List V) (us:List Value) (Q:VK),Inv X pins Z H s->A3z xs us->r xs H Q->
  wpAny (model X.prog X.w) X.A (call f us) (EP X pins Z Q) X.xe s
def tOp (r:R2) (ta tb:TE):TE:=λZ H Q=>ta Z H λx H1=>tb Z H1 λy H2=>r x y H2 Q
def tUn (r:V->Hp->VK->Prop) (ta:TE):TE:=λZ H Q=>ta Z H λx H1=>r x H1 Q
def rI (C:Int->Int->Prop) (g:Int->Int->V):R2:=λx y H Q=>∃i j,x= .int i/\y= .int j/\C i j/\Q (g i j) H
def rI0 (g:Int->Int->V):R2:=λx y H Q=>∃i j,x= .int i/\y= .int j/\Q (g i j) H
def rU (g:Int->V):V->Hp->VK->Prop:=λx H Q=>∃i,x= .int i/\Q (g i) H
section
variable {X:Cx} {a b c:Expr} {ta tb tc:TE} {pos:Pos}
theorem D7w (ha:PE X a ta) (hb:PE X b tb) {R:V->V->Hp->Prop} (I:Inv X pins Z H s)
  (h:ta Z H λx H1=>tb Z H1 λy H2=>R x y H2)
  (hf:∀v u s2 x y H2,Inv X pins Z H2 s2->A3j x v->A3j y u->R x y H2->wpAny (model X.prog X.w) X.A (f v u) Q X.xe s2) :
  wpAny (model X.prog X.w) X.A (eval a X.env) (λv s₁=>wpAny (model X.prog X.w) X.A (eval b X.env) (λu s₂=>wpAny (model X.prog X.w) X.A (f v u) Q X.xe s₂) X.xe s₁) X.xe s:=by
 refine thn (ha pins s Z H _ I h) ?_;rintro v s1 ⟨x,H1,I1,r1,q1⟩;refine thn (hb pins s1 Z H1 _ I1 q1) ?_;rintro u s2 ⟨y,H2,I2,r2,q2⟩;exact hf v u s2 x y H2 I2 r1 r2 q2
theorem A0r {op:Operator} {r:R2} (ho:OpR X (binaryOp op) r) (ha:PE X a ta) (hb:PE X b tb):PE X (.BinOp a op b pos) (tOp r ta tb):=by
 intro pins s Z H Q I h;exact wpAny_BinOp (D7w ha hb I h λv u s2 x y H2 I2 rx ry q=>ho pins s2 Z H2 x y v u Q I2 rx ry q)
theorem B7a {op:UnaryOp} {r:V->Hp->VK->Prop} (ho:UnR X (unaryOp op) r) (ha:PE X a ta):PE X (.UnaryOp op a pos) (tUn r ta):=by
 intro pins s Z H Q I h;exact UnaryOp_ (thn (ha pins s Z H _ I h) (by rintro v s1 ⟨x,H1,I1,r1,q1⟩;exact ho pins s1 Z H1 x v Q I1 r1 q1))
theorem opI {C:Int->Int->Prop}
  (rule:∀(i j:Int) (t u:Tok) (s:Shared) (Q:Value->Shared->Prop) (E:Value->Shared->Prop),C i j->Q (.int (g i j) s.toks) { s with toks:=s.toks+1 }->wpAny (model X.prog X.w) X.A (f (.int i t) (.int j u)) Q E s) :
  OpR X f (rI C λi j=> .int (g i j)):=by
 intro pins s Z H x y v u Q I rx ry h;obtain ⟨i,j,rfl,rfl,hc,q⟩:=h;obtain ⟨t,rfl⟩:=rx;obtain ⟨t',rfl⟩:=ry;exact rule i j t t' s _ _ hc (i0d (.int (g i j)) H (I.tok _) ⟨_,rfl⟩ q)
theorem D9i
  (rule:∀(i j:Int) (t u:Tok) (s:Shared) (Q:Value->Shared->Prop) (E:Value->Shared->Prop),Q (.int (g i j) s.toks) { s with toks:=s.toks+1 }->wpAny (model X.prog X.w) X.A (f (.int i t) (.int j u)) Q E s) :
  OpR X f (rI0 λi j=> .int (g i j)):=by
 intro pins s Z H x y v u Q I rx ry h;obtain ⟨i,j,rfl,rfl,q⟩:=h;obtain ⟨t,rfl⟩:=rx;obtain ⟨t',rfl⟩:=ry;exact rule i j t t' s _ _ (i0d (.int (g i j)) H (I.tok _) ⟨_,rfl⟩ q)
theorem D7h {g:Int->Int->Bool}
  (rule:∀(i j:Int) (t u:Tok) (s:Shared) (Q:Value->Shared->Prop) (E:Value->Shared->Prop),Q (.bool (g i j)) s->wpAny (model X.prog X.w) X.A (f (.int i t) (.int j u)) Q E s) :
  OpR X f (rI0 λi j=> .bl (g i j)):=by
 intro pins s Z H x y v u Q I rx ry h;obtain ⟨i,j,rfl,rfl,q⟩:=h;obtain ⟨t,rfl⟩:=rx;obtain ⟨t',rfl⟩:=ry;exact rule i j t t' s _ _ (i0d (.bl (g i j)) H I rfl q)
def CDiv (i j:Int):Prop:=0<j/\j<1073741824
def CPow (i j:Int):Prop:=0<=j/\j<=1000000/\i.natAbs<2^64
def D8x (i j:Int):Prop:=(-(2^64)<i/\i<2^64)\/(-(2^64)<j/\j<2^64)
theorem D8x.ok {i j:Int} (h:D8x i j):IntMulOk i j:=by
 rcases h with ⟨h1,h2⟩ | ⟨h1,h2⟩
 ·exact .of_left (intBits_le_64 h1 h2)
 ·exact .of_right (intBits_le_64 h1 h2)
theorem A2r:OpR X (binaryOp .Add) (rI0 λi j=> .int (i+j)):=D9i λ_ _ _ _ _ _ _ q=>add_int q
theorem A4f:OpR X (binaryOp .Sub) (rI0 λi j=> .int (i-j)):=D9i λ_ _ _ _ _ _ _ q=>sub_int q
theorem A8w:OpR X (binaryOp .Mult) (rI D8x λi j=> .int (i*j)):=opI λ_ _ _ _ _ _ _ hc q=>mul_int q hc.ok
theorem A1u:OpR X (binaryOp .FloorDiv) (rI CDiv λi j=> .int (i/j)):=opI λi j _ _ _ _ _ hc q=>by
 have h1:(0:Int)<j:=hc.1;have h2:j<1073741824:=hc.2;exact floordiv_int (by lia) (by rw [Int.fdiv_eq_ediv_of_nonneg i (by lia)];exact q) (.inl (PyProof.noPylong_small (by lia)))
theorem A1x:OpR X (binaryOp .Mod) (rI (λ_ j=>0<j) λi j=> .int (i%j)):=opI λi j _ _ _ _ _ hc q=>by
 have h1:(0:Int)<j:=hc;exact mod_int' (by lia) (by rw [Int.fmod_eq_emod_of_nonneg i (by lia)];exact q)
theorem B0i:OpR X (binaryOp .Pow) (rI CPow λi j=> .int (i^j.toNat)):=opI λ_ _ _ _ _ _ _ hc q=>pow_int_small hc.1 hc.2.1 hc.2.2 q
theorem unI {f:Value->Sem Value} {g:Int->Int}
  (rule:∀(i:Int) (t:Tok) (s:Shared) (Q:Value->Shared->Prop) (E:Value->Shared->Prop),Q (.int (g i) s.toks) { s with toks:=s.toks+1 }->wpAny (model X.prog X.w) X.A (f (.int i t)) Q E s) :
  UnR X f (rU λi=> .int (g i)):=by
 intro pins s Z H x v Q I rx h;obtain ⟨i,rfl,q⟩:=h;obtain ⟨t,rfl⟩:=rx;exact rule i t s _ _ (i0d (.int (g i)) H (I.tok _) ⟨_,rfl⟩ q)
theorem B1s:UnR X (unaryOp .USub) (rU λi=> .int (-i)):=unI λ_ _ _ _ _ q=>neg_int q
end
def D9a:V->V->Bool
 | .non,.non=>true | .non,.int _=>true | .int _,.non=>true | .non,.bl _=>true | .bl _,.non=>true | .non,.str _=>true | .str _,.non=>true
 | .int _,.int _=>true | .bl _,.bl _=>true | .str _,.str _=>true | .byt _,.byt _=>true
 | .int _,.str _=>true | .str _,.int _=>true | .bl _,.str _=>true | .str _,.bl _=>true
 | _,_=>false
def rEq:R2:=λx y H Q=>D9a x y=true/\Q (.bl (decide (x=y))) H
def rNe:R2:=λx y H Q=>D9a x y=true/\Q (.bl (! decide (x=y))) H
theorem C4l {i j:Int}:decide (V.int i=V.int j)=(i == j):=by
 rw [Bool.eq_iff_iff];simp
theorem D0t {i j:Bool}:decide (V.bl i=V.bl j)=(i == j):=by
 rw [Bool.eq_iff_iff];simp
theorem C6z {i j:Str}:decide (V.str i=V.str j)=(i == j):=by
 rw [Bool.eq_iff_iff];simp
theorem C6v {i j:Array UInt8}:decide (V.byt i=V.byt j)=(i.toList == j.toList):=by
 rw [Bool.eq_iff_iff];cases i;cases j;simp
section
variable {X:Cx} {a b c:Expr} {ta tb tc:TE} {pos:Pos}
theorem A2s {Q:VK} {k k':Bool} (I:Inv X pins Z H s) (q:Q (.bl k) H) (e:k=k'):EP X pins Z Q (.bool k') s:=by
 subst e;exact i0d (.bl k) H I rfl q
theorem A2j:OpR X (compareOp .Eq) rEq:=by
 intro pins s Z H x y v u Q I rx ry h;obtain ⟨hs,q⟩:=h
 cases x with
 | non =>
  cases rx
  cases y with
  | non=>cases ry;exact PySem.EqNone.eq_none_none (A2s I q (by simp))
  | bl j=>cases ry;exact PySem.EqNone.eq_none_bool (A2s I q (by simp))
  | int j=>obtain ⟨t',rfl⟩:=ry;exact PySem.EqNone.eq_none_int (A2s I q (by simp))
  | str j=>obtain ⟨t',rfl⟩:=ry;exact PySem.EqNone.eq_none_str (A2s I q (by simp))
  | _=>exact absurd (show false=true from hs) Z0v
 | bl i =>
  cases rx
  cases y with
  | non=>cases ry;exact PySem.EqNone.eq_bool_none (A2s I q (by simp))
  | bl j=>cases ry;exact eq_bool (A2s I q D0t)
  | str j=>obtain ⟨t',rfl⟩:=ry;exact PySem.EqMixed.eq_bool_str (A2s I q (by simp))
  | _=>exact absurd (show false=true from hs) Z0v
 | int i =>
  obtain ⟨t,rfl⟩:=rx
  cases y with
  | non=>cases ry;exact PySem.EqNone.eq_int_none (A2s I q (by simp))
  | int j=>obtain ⟨t',rfl⟩:=ry;exact eq_int (A2s I q C4l)
  | str j=>obtain ⟨t',rfl⟩:=ry;exact PySem.EqMixed.eq_int_str (A2s I q (by simp))
  | _=>exact absurd (show false=true from hs) Z0v
 | str i =>
  obtain ⟨t,rfl⟩:=rx
  cases y with
  | non=>cases ry;exact PySem.EqNone.eq_str_none (A2s I q (by simp))
  | bl j=>cases ry;exact PySem.EqMixed.eq_str_bool (A2s I q (by simp))
  | int j=>obtain ⟨t',rfl⟩:=ry;exact PySem.EqMixed.eq_str_int (A2s I q (by simp))
  | str j=>obtain ⟨t',rfl⟩:=ry;exact eq_str (A2s I q C6z)
  | _=>exact absurd (show false=true from hs) Z0v
 | byt i =>
  obtain ⟨t,rfl⟩:=rx
  cases y with
  | byt j=>obtain ⟨t',rfl⟩:=ry;exact PySem.W.eq_bytes (A2s I q C6v)
  | _=>exact absurd (show false=true from hs) Z0v
 | _=>cases y <;> exact absurd (show false=true from hs) Z0v
theorem C8v:OpR X (compareOp .NotEq) rNe:=by
 intro pins s Z H x y v u Q I rx ry h;obtain ⟨hs,q⟩:=h
 cases x with
 | non =>
  cases rx
  cases y with
  | non=>cases ry;exact PySem.EqNone.ne_none_none (A2s I q (by simp))
  | bl j=>cases ry;exact PySem.EqNone.ne_none_bool (A2s I q (by simp))
  | int j=>obtain ⟨t',rfl⟩:=ry;exact PySem.EqNone.ne_none_int (A2s I q (by simp))
  | str j=>obtain ⟨t',rfl⟩:=ry;exact PySem.EqNone.ne_none_str (A2s I q (by simp))
  | _=>exact absurd (show false=true from hs) Z0v
 | bl i =>
  cases rx
  cases y with
  | non=>cases ry;exact PySem.EqNone.ne_bool_none (A2s I q (by simp))
  | bl j=>cases ry;exact ne_bool (A2s I q (congrArg not D0t))
  | str j=>obtain ⟨t',rfl⟩:=ry;exact PySem.EqMixed.ne_bool_str (A2s I q (by simp))
  | _=>exact absurd (show false=true from hs) Z0v
 | int i =>
  obtain ⟨t,rfl⟩:=rx
  cases y with
  | non=>cases ry;exact PySem.EqNone.ne_int_none (A2s I q (by simp))
  | int j=>obtain ⟨t',rfl⟩:=ry;exact ne_int (A2s I q (congrArg not C4l))
  | str j=>obtain ⟨t',rfl⟩:=ry;exact PySem.EqMixed.ne_int_str (A2s I q (by simp))
  | _=>exact absurd (show false=true from hs) Z0v
 | str i =>
  obtain ⟨t,rfl⟩:=rx
  cases y with
  | non=>cases ry;exact PySem.EqNone.ne_str_none (A2s I q (by simp))
  | bl j=>cases ry;exact PySem.EqMixed.ne_str_bool (A2s I q (by simp))
  | int j=>obtain ⟨t',rfl⟩:=ry;exact PySem.EqMixed.ne_str_int (A2s I q (by simp))
  | str j=>obtain ⟨t',rfl⟩:=ry;exact ne_str (A2s I q (congrArg not C6z))
  | _=>exact absurd (show false=true from hs) Z0v
 | byt i =>
  obtain ⟨t,rfl⟩:=rx
  cases y with
  | byt j=>obtain ⟨t',rfl⟩:=ry;exact PySem.W.ne_bytes (A2s I q (congrArg not C6v))
  | _=>exact absurd (show false=true from hs) Z0v
 | _=>cases y <;> exact absurd (show false=true from hs) Z0v
theorem C0m:OpR X (compareOp .Lt) (rI0 λi j=> .bl (decide (i<j))):=D7h λ_ _ _ _ _ _ _ q=>lt_int q
theorem D6m:OpR X (compareOp .LtE) (rI0 λi j=> .bl (decide (i<=j))):=D7h λ_ _ _ _ _ _ _ q=>le_int q
theorem A7n:OpR X (compareOp .Gt) (rI0 λi j=> .bl (decide (j<i))):=D7h λ_ _ _ _ _ _ _ q=>gt_int q
theorem D8v:OpR X (compareOp .GtE) (rI0 λi j=> .bl (decide (j<=i))):=D7h λ_ _ _ _ _ _ _ q=>ge_int q
theorem C5d:OpR X (compareOp .IsNot) (λx y H Q=>y= .non/\Q (.bl (! decide (x= .non))) H):=by
 intro pins s Z H x y v u Q I rx ry h;obtain ⟨rfl,q⟩:=h;cases ry;refine isnot_none_gen (A2s I q ?_)
 cases x <;> first
  | (cases rx;rfl)
  | (obtain ⟨t,rfl⟩:=rx;rfl)
theorem A1e (b:Expr) {op:CmpOp} (h:op≠.In:=by decide) (h2:op≠.NotIn:=by decide):behindInMarks op b=false:=by
 have e1:(op == CmpOp.In)=false:=by cases op <;> first | rfl | exact absurd rfl h
 have e2:(op == CmpOp.NotIn)=false:=by cases op <;> first | rfl | exact absurd rfl h2
 cases b <;> simp [behindInMarks,e1,e2]
theorem C0f {op:CmpOp} {r:R2} (ho:OpR X (compareOp op) r) (ha:PE X a ta) (hb:PE X b tb) (hm:behindInMarks op b=false):PE X (.Compare a [op] [b] pos) (tOp r ta tb):=by
 intro pins s Z H Q I h;exact wpAny_Compare1 (D7w ha hb I h λv u s2 x y H2 I2 rx ry q=>ho pins s2 Z H2 x y v u Q I2 rx ry q) hm
def B7x (t:TE):TT:=λZ H Q=>t Z H λx H'=>∃k,x= .bl k/\Q k H'
theorem A0o {op:CmpOp} {r:R2} (ho:OpR X (compareOp op) r) (ha:PE X a ta) (hb:PE X b tb) (hm:behindInMarks op b=false):PT X (.Compare a [op] [b] pos) (B7x (tOp r ta tb)):=by
 intro pins s Z H Q I h
 refine wpAny_isTrue_Compare1 (thn (ha pins s Z H _ I h) λv s1 ⟨x,H1,I1,r1,q1⟩=>thn (hb pins s1 Z H1 _ I1 q1) λu s2 ⟨y,H2,I2,r2,q2⟩ =>
  thn (ho pins s2 Z H2 x y v u _ I2 r1 r2 q2) λc s3 ⟨z,H3,I3,r3,k,e,q3⟩=> ?_) hm
 subst e;cases r3;exact wpAny_truthy_bool (i02 H3 I3 q3)
theorem B9f:(sizeLine:Nat)<2^63:=by rw [sizeLine_eq];decide
theorem A4c:OpR X (binaryOp .Add) (λx y H Q=>∃i j,x= .str i/\y= .str j/\i.length+j.length<=sizeLine/\Q (.str (i++j)) H):=by
 intro pins s Z H x y v u Q I rx ry h;obtain ⟨i,j,rfl,rfl,hz,q⟩:=h;obtain ⟨t,rfl⟩:=rx;obtain ⟨t',rfl⟩:=ry;exact add_str (λt' tk=>(i0d (.str (i++j)) H (I.tok _) ⟨_,rfl⟩ q)) hz
theorem B1u {x:V} (r:A3z [x] us):∃u,us=[u]/\A3j x u:=by
 cases r with
 | cons r1 r2=>cases r2;exact i02 _ rfl r1
theorem C8k {x y:V} (r:A3z [x,y] us):∃u w',us=[u,w']/\A3j x u/\A3j y w':=by
 cases r with
 | cons r1 r2 =>
  cases r2 with
  | cons r3 r4=>cases r4;exact i0d _ _ rfl r1 r3
theorem C5i (hc:X.calm=true):A9l X (.builtin "max") (λxs H Q=>∃i j,xs=[.int i,.int j]/\Q (.int (if j>i then j else i)) H):=by
 intro pins s Z H xs us Q I r h;obtain ⟨i,j,rfl,q⟩:=h;obtain ⟨u,w',rfl,⟨t,rfl⟩,⟨t',rfl⟩⟩:=C8k r;refine max_two_ints (I.ok.hd hc) λh' tk k=>(i0d _ H (I.kept k) ?_ q);by_cases hj:j>i
 ·rw [Z12 hj,Z12 hj];exact ⟨_,rfl⟩
 ·rw [Z0t hj,Z0t hj];exact ⟨_,rfl⟩
theorem C5c (hc:X.calm=true):A9l X (.builtin "min") (λxs H Q=>∃i j,xs=[.int i,.int j]/\Q (.int (if j<i then j else i)) H):=by
 intro pins s Z H xs us Q I r h;obtain ⟨i,j,rfl,q⟩:=h;obtain ⟨u,w',rfl,⟨t,rfl⟩,⟨t',rfl⟩⟩:=C8k r;refine min_two_ints (I.ok.hd hc) λh' tk k=>(i0d _ H (I.kept k) ?_ q);by_cases hj:j<i
 ·rw [Z12 hj,Z12 hj];exact ⟨_,rfl⟩
 ·rw [Z0t hj,Z0t hj];exact ⟨_,rfl⟩
theorem B8g:A9l X (.type "int") (λxs H Q=>(∃i,xs=[.int i]/\Q (.int i) H)\/∃k,xs=[.bl k]/\Q (.int (if k then 1 else 0)) H):=by
 intro pins s Z H xs us Q I r h;rcases h with ⟨i,rfl,q⟩ | ⟨k,rfl,q⟩
 ·obtain ⟨u,rfl,t,rfl⟩:=B1u r;exact call_int_int (i0d (.int i) H I ⟨_,rfl⟩ q)
 ·obtain ⟨u,rfl,r1⟩:=B1u r;cases r1;exact call_int_bool (i0d (.int (if k then 1 else 0)) H (I.tok _) ⟨_,rfl⟩ q)
theorem A4w:A9l X (.type "str") (λxs H Q=>∃i,xs=[.int i]/\i.natAbs.log2<1920/\Q (.str (toString i)) H):=by
 intro pins s Z H xs us Q I r h;obtain ⟨i,rfl,hz,q⟩:=h;obtain ⟨u,rfl,t,rfl⟩:=B1u r;exact PySem.P.str_of_int hz (i0d (.str _) H (I.tok _) ⟨_,rfl⟩ q)
end
structure D2x (h:Heap) (x dx C:Addr) (mA:Str->Option Value):Prop where
 obj:h.get? x=some (instObj C dx)
 ns:h.Ns1 dx mA
 ne:dx≠x
theorem C5q {dx:Addr} (n:h.Ns1 dx mA):∃od,h.get? dx=some od/\∀name,PySem.W.lookIn name od=some (mA name):=by
 refine e09 n ?_;clear n;rintro o es ep ho hd hk ⟨_,hm⟩;refine i02 o ho λname=> ?_;have e:=hm name;unfold nsFind findBy at e;rw [<-Array.find?_toList] at e;unfold PySem.W.lookIn;rw [hd];dsimp only;split
 ·rename_i y q;rw [q] at e;exact congrArg some e
 ·rename_i q;rw [q] at e
  have a:es.toList.any (·.refKey)=false:=by
   rw [List.any_eq_false];intro y hy;obtain ⟨z,t,hkey⟩:=hk y (Array.mem_toList_iff.mp hy);simp [DictEntry.refKey,hkey]
  have a':¬es.toList.any (·.refKey)=true:=by rw [a];exact Z0v
  rw [Z0t a'];exact congrArg some e
theorem D2x.look {x dx:Addr} (I:D2x h x dx C mA):∃od,PySem.W.InstAt h x (instObj C dx) C (some od)/\∀name,PySem.W.lookIn name od=some (mA name) :=
 let ⟨od,ho,hl⟩:=C5q I.ns
 (i02 od ⟨I.obj,rfl,rfl,ho⟩ hl)
section
variable {prog:Program} {w:World} {A:Around} {E:Value->Shared->Prop} {s:Shared} {K:Frag} {x dx C f:Addr} {mA:Str->Option Value} {name:Str} {v:Value}
theorem A9m {expr:Bool} (X:K.In s.heap) (I:D2x s.heap x dx C mA) (hg:plainGet K C name=true) (hh:hasDictIn K C=true)
  (ha:findIn K (.ref C) name=some none) (hv:mA name=some v) (hv':PySem.W.handedIn v=true) (h:Q v { s with toks:=s.toks+1 }) :
  wpAny (model prog w) A (getAttr (.ref x) name expr) Q E s:=by
 obtain ⟨od,J,hl⟩:=I.look;exact PySem.W.get_value X J (PySem.W.plainGet_of hg).1 (PySem.W.findObj_own hh ha rfl (by rw [hl,hv])) hv' h
theorem C9i {Q:Value×List Value->Shared->Prop} (X:K.In s.heap) (I:D2x s.heap x dx C mA) (hg:plainGet K C name=true)
  (hf:findIn K (.ref C) name=some (some (.ref f))) (ht:isFn K (.ref f)=true) (hv:mA name=none) (h:Q (.ref f,[.ref x]) s) :
  wpAny (model prog w) A (getMethod (.ref x) name pl) Q E s:=by
 obtain ⟨od,J,hl⟩:=I.look;exact PySem.W.method_fn X J (PySem.W.plainGet_of hg).1 (PySem.W.plainGet_of hg).2 hf (beq_iff_eq.mp ht) (by show (PySem.W.lookIn name od).map (·.isSome)=some false;rw [hl,hv];rfl) h
theorem D3a {ns:List Str} {Q:Unit->Shared->Prop} (X:K.In s.heap) (I:D2x s.heap x dx C mA)
  (hs:findIn K (.ref C) "__setattr__"=some (some (.builtin "object.__setattr__"))) (hp:plainOver K C=true) (ht:PySem.W.takerIn K C name=some none) (hh:hasDictIn K C=true)
  (hw:PySem.Within mA ns) (hsz:ns.length<=sizeLine)
  (h:∀h',D2x h' x dx C (λy=>if y=name then some v else mA y)->Heap.SameBut dx s.heap h'->Q () { s with heap:=h',toks:=s.toks+2 }) :
  wpAny (model prog w) A (setAttr (.ref x) name v) Q E s:=by
 obtain ⟨od,J,hl⟩:=I.look;refine PySem.W.set_plain X J hs (PySem.W.osa_open (s:={ s with toks:=s.toks+1 }) (r:=none) X J hp ht λb=> ?_)
 obtain ⟨cd,hc,hd'⟩:=PySem.W.any_some hh;have hx:s.heap.get? x=some ⟨.ref C,some dx,.plain,#[]⟩:=I.obj;refine Z00 (Z04 (Z00 (Z00 (wpAny_loadPart hx (Z00 (PySem.W.Looks.here (s:={ s with toks:=s.toks+1 }) (PySem.W.looks_clsIn X hc) ?_))))));rw [hd'];refine Z04 (a:=some dx) (Z00 (Z04 (Z00 ?_)));refine wpAny_nsSet1 (s:={ s with toks:=s.toks+1 }) I.ns λh' hn2 hs2=> ?_
 obtain ⟨oD,esD,epD,hoD,hdD,hcD⟩:=hn2.count (PySem.Within.cons name v hw);refine Z00 (wpAny_lookBehind hoD (by rw [hdD];exact pastItsLine_dict (Z1n hcD (by rw [Z0y];lia))) ?_);exact Z04 (h _ ⟨(hs2.2 _ (Ne.symm I.ne)).trans I.obj,hn2,I.ne⟩ hs2)
theorem C8h {vs:List Value} (X:K.In s.heap) (hm:makesIn K C=true)
  (hi:findIn K (.ref C) "__init__"=some (some (.ref f))) (hf:typeIn K (.ref f)=some (.type "function"))
  (h:codeAny (model prog w) (A.under (.builtin "type.__call__" ⟨.ref C::vs,kw⟩)) (.call (.ref f) ⟨.ref (s.heap.objs.size+1)::vs,kw⟩) (PySem.W.InitBack (s.heap.objs.size+1) R)
   { s with heap:=(s.heap.push emptyDict).push (instObj C s.heap.objs.size) }) :
  codeAny (model prog w) A (.call (.ref C) ⟨vs,kw⟩) R s:=by
 obtain ⟨hh,g,d,t,os⟩:=s;exact PySem.W.make_core (PySem.W.makes_of X hm) (PySem.W.looks_findIn X hi) (λself=>PySem.W.bind_fn X self hf) (.inl rfl) h
end
def A4h (f:Str) (v:V):List (Str×V)->List (Str×V)
 | []=>[(f,v)]
 | (g,x)::r=>if g=f then (g,v)::r else (g,x)::A4h f v r
theorem B3b (f g:Str) (v:V):∀fs:List (Str×V),(A4h f v fs).lookup g=if g=f then some v else fs.lookup g
 | []=>by
  show List.lookup g [(f,v)]=_;by_cases h:g=f
  ·have hb:(g == f)=true:=beq_iff_eq.mpr h;simp only [List.lookup,hb,Z12 h]
  ·have hb:(g == f)=false:=Z22.mpr h;simp only [List.lookup,hb,Z0t h]
 | (k,x)::r=>by
  have ih:=B3b f g v r;rw [show A4h f v ((k,x)::r)=(if k=f then (k,v)::r else (k,x)::A4h f v r) from rfl];by_cases hk:k=f
  ·rw [Z12 hk];by_cases h:g=k
   ·have hb:(g == k)=true:=beq_iff_eq.mpr h;simp only [List.lookup,hb,Z12 (h.trans hk)]
   ·have hb:(g == k)=false:=Z22.mpr h;simp only [List.lookup,hb,Z0t (λe:g=f=>h (e.trans hk.symm))]
  ·rw [Z0t hk];by_cases h:g=k
   ·have hb:(g == k)=true:=beq_iff_eq.mpr h;simp only [List.lookup,hb,Z0t (λe:g=f=>hk (h.symm.trans e))]
   ·have hb:(g == k)=false:=Z22.mpr h;simp only [List.lookup,hb];exact ih
theorem B3r (f:Str) (v:V):∀fs:List (Str×V),f∈(A4h f v fs).map (·.1)/\∀g,g∈fs.map (·.1)->g∈(A4h f v fs).map (·.1)
 | []=>⟨by simp [A4h],λg h=>by simp at h⟩
 | (k,x)::r=>by
  obtain ⟨i1,i2⟩:=B3r f v r;rw [show A4h f v ((k,x)::r)=(if k=f then (k,v)::r else (k,x)::A4h f v r) from rfl];by_cases hk:k=f
  ·rw [Z12 hk];subst hk;exact ⟨by simp,λg h=>by simpa using h⟩
  ·rw [Z0t hk];refine ⟨?_,λg h=> ?_⟩
   ·rw [Z0p];exact Z1f _ i1
   ·rw [Z0p] at h⊢;rcases Z0e.mp h with e | e
    ·exact Z0e.mpr (.inl e)
    ·exact Z1f _ (i2 g e)
theorem B3x (f:Str) (v:V):∀fs:List (Str×V),(A4h f v fs).length<=fs.length+1
 | []=>by simp [A4h]
 | (k,x)::r=>by
  have ih:=B3x f v r;rw [show A4h f v ((k,x)::r)=(if k=f then (k,v)::r else (k,x)::A4h f v r) from rfl];by_cases hk:k=f
  ·rw [Z12 hk,Z0y,Z0y];lia
  ·rw [Z0t hk,Z0y,Z0y];lia
theorem B6t.some_of {v:V} (r:B6t (some v) o):∃u,o=some u/\A3j v u:=by
 cases o with
 | none=>exact (show False from r).elim
 | some u=>exact i02 u rfl r
theorem B6t.none_of (r:B6t none o):o=none:=by
 cases o with
 | none=>rfl
 | some u=>exact (show False from r).elim
theorem C6f {v:V} (r:A3j v u):PySem.W.handedIn u=true:=by
 cases v with
 | non=>cases (show u=Value.none from r);rfl
 | bl b=>cases (show u=Value.bool b from r);rfl
 | int i=>obtain ⟨t,e⟩:=(show∃t,u=Value.int i t from r);cases e;rfl
 | str x=>obtain ⟨t,e⟩:=(show∃t,u=Value.str x t from r);cases e;rfl
 | byt b=>obtain ⟨t,e⟩:=(show∃t,u=Value.bytes b t from r);cases e;rfl
 | flt b=>obtain ⟨t,e⟩:=(show∃t,u=Value.float b t from r);cases e;rfl
 | ref a=>cases (show u=Value.ref a from r);rfl
 | ty n=>cases (show u=Value.type n from r);rfl
section
variable {P:Program} {w:World} {H H':Hp} {h h':Heap} {a C dx:Addr} {fs fs':List (Str×V)}
theorem B3e (hok:HOk P w H h) (e:H a=some (.ins C dx fs)):∃mA,D2x h a dx C mA/\(∀f,B6t (fs.lookup f) (mA f))/\PySem.Within mA (fs.map (·.1))/\fs.length<=1000/\H dx=some (.own a):=by
 refine e02 (show A2v P w H h a (.ins C dx fs) from hok a _ e) ?_;rintro d z ne ob ⟨mA,n,r,q⟩;exact ⟨mA,(i08 ⟨ob,n,ne⟩ r q z d)⟩
end
structure Cls (K:Frag) (C:Addr):Prop where
 pg:plainGet K C Str.empty=true
 hd:hasDictIn K C=true
 po:plainOver K C=true
 sa:findIn K (.ref C) "__setattr__"=some (some (.builtin "object.__setattr__"))
theorem Cls.get (c:Cls K C) (f:Str):plainGet K C f=true:=c.pg
def A1v (K:Frag) (C:Addr) (f:Str):Prop:=findIn K (.ref C) f=some none
theorem A1v.taker {f:Str} (n:A1v K C f):PySem.W.takerIn K C f=some none:=by
 unfold PySem.W.takerIn;rw [show findIn K (.ref C) f=some none from n];rfl
structure B0q (K:Frag) (C:Addr) (m:Str) (f:Addr):Prop where
 at_:findIn K (.ref C) m=some (some (.ref f))
 fn:isFn K (.ref f)=true
 kp:keepIn K (.ref f)=true
section
variable {X:Cx} {pins:List (Addr×Obj)} {Z:St} {H:Hp} {s:Shared} {a C dx:Addr} {fs:List (Str×V)} {f:Str} {v:V} {A:Around} {E:Value->Shared->Prop}
theorem C2u {b:Bool} (I:Inv X pins Z H s) (e:H a=some (.ins C dx fs)) (c:Cls X.K C) (n:A1v X.K C f) (l:fs.lookup f=some v)
  (h:∀u s',Inv X pins Z H s'->A3j v u->Q u s'):wpAny (model X.prog X.w) A (getAttr (.ref a) f b) Q E s:=by
 obtain ⟨mA,O,r,_,_,_⟩:=B3e I.hok e;obtain ⟨u,hu,ru⟩:=B6t.some_of (v:=v) (o:=mA f) (by rw [<-l];exact r f);exact A9m I.kIn O (c.get f) c.hd n hu (C6f ru) (h u _ (I.tok _) ru)
theorem A8o {m:Str} {g:Addr} {Q:Value×List Value->Shared->Prop} (I:Inv X pins Z H s) (e:H a=some (.ins C dx fs)) (c:Cls X.K C) (k:B0q X.K C m g) (l:fs.lookup m=none)
  (h:Q (.ref g,[.ref a]) s):wpAny (model X.prog X.w) A (getMethod (.ref a) m pl) Q E s:=by
 obtain ⟨mA,O,r,_,_,_⟩:=B3e I.hok e;have hn:mA m=none:=B6t.none_of (by rw [<-l];exact r m);exact C9i I.kIn O (c.get m) k.at_ k.fn hn h
theorem C2p {y:V} {Q:Unit->Shared->Prop} (I:Inv X pins Z H s) (e:H a=some (.ins C dx fs)) (c:Cls X.K C) (n:A1v X.K C f) (hl:fs.length<1000) (ry:A3j y u)
  (h:∀s',Inv X pins Z (upd H a (.ins C dx (A4h f y fs))) s'->Q () s'):wpAny (model X.prog X.w) A (setAttr (.ref a) f u) Q E s:=by
 obtain ⟨mA,O,r,wi,_,ho⟩:=B3e I.hok e;have hz:(fs.map (·.1)).length<=sizeLine:=by rw [Z08,sizeLine_eq];lia
 refine D3a I.kIn O c.sa c.po n.taker c.hd wi hz λh' O' sb=>h _ ?_;have hd:∃o,h'.get? dx=some o:=let ⟨o,_,_,e',_⟩:=O'.ns;⟨o,e'⟩;refine I.write (x:=a) (e:=dx) (by rw [e];exact True.intro) (.inr ho) (λb q hb z=>(sb.2 b hb).trans z) hd ?_;refine i08 (by rw [A0k O.ne];exact ho) ?_ O.ne O'.obj (i06 _ O'.ns (λg=> ?_) λg hg=> ?_)
 ·have:=B3x f y fs;lia
 ·show B6t ((A4h f y fs).lookup g) (if g=f then some u else mA g);rw [B3b];by_cases q:g=f
  ·rw [Z12 q,Z12 q];exact ry
  ·rw [Z0t q,Z0t q];exact r g
 ·by_cases q:g=f
  ·rw [q];exact (B3r f y fs).1
  ·refine (B3r f y fs).2 g (wi g λz=>hg ?_);show (if g=f then some u else mA g)=none;rw [Z0t q];exact z
theorem Inv.made (I:Inv X pins Z H s):Inv X pins Z (upd (upd H s.heap.objs.size (.own (s.heap.objs.size+1))) (s.heap.objs.size+1) (.ins C s.heap.objs.size []))
  { s with heap:=(s.heap.push emptyDict).push (instObj C s.heap.objs.size) }:=by
 have e1:(s.heap.push emptyDict).get? s.heap.objs.size=some emptyDict:=Z0c s.heap rfl
 have e2:((s.heap.push emptyDict).push (instObj C s.heap.objs.size)).get? (s.heap.objs.size+1)=some (instObj C s.heap.objs.size):=by
  have:=Z0c (s.heap.push emptyDict) (o:=instObj C s.heap.objs.size) rfl
  rwa [Z1s] at this
 have e3:(s.heap.push emptyDict).Ns s.heap.objs.size (λ_=>none):=(i0p emptyDict (#[]) _ e1 rfl (λe he=>absurd he (by simp)) λ_=>rfl);have I1:=I.laid (a:=s.heap.objs.size) (o:= .own (s.heap.objs.size+1)) (h':=s.heap.push emptyDict) (t':=s.toks) (λb u q=>Z01 _ q) (Z09 _) ⟨_,e1⟩;refine I1.laid (a:=s.heap.objs.size+1) (o:= .ins C s.heap.objs.size []) (t':=s.toks) (λb u q=>Z01 _ q) (Nat.le_of_eq (Z1s _ _)) ?_;have ne:s.heap.objs.size≠s.heap.objs.size+1:=Z0h (Nat.lt_succ_self _);refine i08 (by rw [A0k ne,A0b]) (Z1e _) ne e2 (i06 (λ_=>none) ((Heap.Ns1.of_empty e3).at λo q=>Z01 _ q) (λ_=>True.intro) λy hy=>absurd rfl hy)
theorem D2m {prog:Program} {env:Env} {e:Expr} {f:Str} (hb:attributeBase e f env (eval e env)=eval e env)
  (h:wpAny (model prog w) A (eval e env) (λo s₁=>wpAny (model prog w) A (getAttr o f true) Q E s₁) E s):wpAny (model prog w) A (eval (.Attribute e f pos) env) Q E s :=
 Attribute_any_ h (by rw [arm_eval_Attribute,hb])
end
def tFld (K:Frag) (ta:TE) (f:Str):TE:=λZ H Q=>ta Z H λx H1=>∃a C dx fs v,x= .ref a/\H1 a=some (.ins C dx fs)/\Cls K C/\A1v K C f/\fs.lookup f=some v/\Q v H1
def sFld (K:Frag) (ta tv:TE) (f:Str):TS:=λD Z H=>tv Z H λy H1=>ta Z H1 λx H2=>∃a C dx fs,x= .ref a/\H2 a=some (.ins C dx fs)/\Cls K C/\A1v K C f/\fs.length<1000/\
 D.nx Z (upd H2 a (.ins C dx (A4h f y fs)))
section
variable {X:Cx} {o e value:Expr} {f:Str} {pos pos' tpos:Pos} {ta tv:TE}
theorem A1i (he:PE X e ta) (hb:attributeBase e f X.env (eval e X.env)=eval e X.env):PE X (.Attribute e f pos) (tFld X.K ta f):=by
 intro pins s Z H Q I h;refine D2m hb (thn (he pins s Z H _ I h) ?_);rintro u s1 zz;refine e0b zz ?_;clear zz;rintro x H1 I1 rx a C dx ⟨fs,v,ex,ea,c,n,l,q⟩;subst ex;obtain rfl:u=Value.ref a:=rx;exact C2u I1 ea c n l λu' s2 I2 ru=>(i0d v H1 I2 ru q)
theorem A2g (ha:PE X o ta) (hv:PE X value tv) (hs:swapsWith value (some (.Attribute o f pos')) pos.line X.env=pure false):PS X (.Assign [.Attribute o f pos'] value pos) (sFld X.K ta tv f):=by
 intro pins s Z H D I h;refine plainObj_wpAny_Assign_Attribute (thn (hv pins s Z H _ I h) ?_) hs;rintro u s1 ⟨y,H1,I1,ry,q⟩;refine thn (ha pins s1 Z H1 _ I1 q) ?_;rintro ov s2 zz;refine e0b zz ?_;clear zz;rintro x H2 I2 rx a C dx ⟨fs,ex,ea,c,n,l,q2⟩;subst ex;obtain rfl:ov=Value.ref a:=rx;exact C2p I2 ea c n l ry λs3 I3=>(i07 Z _ I3 q2)
end
section
variable {X:Cx} {pins:List (Addr×Obj)} {Z:St} {H:Hp} {s:Shared} {A:Around} {E:Value->Shared->Prop} {Q:Value->Shared->Prop} {c:Value} {b:Bool}
inductive B0p (K:Frag) (H:Hp):V->Value->Prop where
 | non:B0p K H .non (.type "NoneType")
 | bl (x:Bool):B0p K H (.bl x) (.type "bool")
 | int (i:Int):B0p K H (.int i) (.type "int")
 | str (x:Str):B0p K H (.str x) (.type "str")
 | flt (x:UInt64):B0p K H (.flt x) (.type "float")
 | lst {a:Addr} {xs:List V} (e:H a=some (.lst xs)):B0p K H (.ref a) (.type "list")
 | frz {a:Addr} {o:Obj} {xs:List V} (e:H a=some (.frz o (.lst xs))):B0p K H (.ref a) (.type "list")
 | tup {a:Addr} {xs:List V} (e:H a=some (.tup xs)):B0p K H (.ref a) (.type "tuple")
 | dK {a:Addr} {kvs:List (Key×V)} (e:H a=some (.dK kvs)):B0p K H (.ref a) (.type "dict")
 | dT {a:Addr} {kvs:List (List Key×V)} (e:H a=some (.dT kvs)):B0p K H (.ref a) (.type "dict")
 | ins {a C dx:Addr} {fs:List (Str×V)} (e:H a=some (.ins C dx fs)) (cl:Cls K C) (ha:findIn K (.ref C) "__class__"=some (some (.builtin "object.__class__")))
   (hn:specialIn K (.builtin "object.__class__") "__get__"=some (some (.builtin "getset_descriptor.__get__"))) (htk:takesIn K (.builtin "object.__class__")=some true)
   (hm:mroIn K C (.type "object")=some true):B0p K H (.ref a) (.ref C)
theorem C6c {x:V} {t:Value} (I:Inv X pins Z H s) (rx:A3j x u) (ty:B0p X.K H x t) (e:kitOne X.K t c=some b) (h:∀tk,Q (.bool b) { s with toks:=tk }) :
  wpAny (model X.prog X.w) A (call (.builtin "isinstance") [u,c]) Q E s:=by
 cases ty with
 | non=>cases (show u=Value.none from rx);exact PySem.W.kia_one PySem.W.kitx_none I.kIn True.intro e (λz=>nomatch z) h
 | bl y=>cases (show u=Value.bool y from rx);exact PySem.W.kia_one PySem.W.kitx_bool I.kIn True.intro e (λz=>nomatch z) h
 | int i=>obtain ⟨t,q⟩:=(show∃t,u=Value.int i t from rx);cases q;exact PySem.W.kia_one PySem.W.kitx_int I.kIn True.intro e (λz=>nomatch z) h
 | str y=>obtain ⟨t,q⟩:=(show∃t,u=Value.str y t from rx);cases q;exact PySem.W.kia_one PySem.W.kitx_str I.kIn True.intro e (λz=>nomatch z) h
 | flt y=>obtain ⟨t,q⟩:=(show∃t,u=Value.float y t from rx);cases q;exact PySem.W.kia_one PySem.W.kitx_float I.kIn True.intro e (λz=>nomatch z) h
 | @lst a xs ea =>
  cases (show u=Value.ref a from rx)
  obtain ⟨_,_,n,_,h1⟩:=(show A2v X.prog X.w H s.heap a (.lst xs) from I.hok a _ ea);exact PySem.W.kia_one PySem.W.kitx_list I.kIn (i02 _ h1 rfl) e (λz=>nomatch z) h
 | @frz a ob xs ea =>
  cases (show u=Value.ref a from rx)
  obtain ⟨_,_,_,n,_,h1⟩:=(show A2v X.prog X.w H s.heap a (.frz ob (.lst xs)) from I.hok a _ ea);exact PySem.W.kia_one PySem.W.kitx_list I.kIn (i02 _ h1 rfl) e (λz=>nomatch z) h
 | @tup a xs ea =>
  cases (show u=Value.ref a from rx)
  obtain ⟨_,_,_,p⟩:=(show A2v X.prog X.w H s.heap a (.tup xs) from I.hok a _ ea);obtain ⟨o,h1,h2,_⟩:=p;exact PySem.W.kia_one PySem.W.kitx_tuple I.kIn (i02 o h1 h2) e (λz=>nomatch z) h
 | @dK a kvs ea =>
  cases (show u=Value.ref a from rx)
  obtain ⟨_,_,vs,_,p⟩:=(show A2v X.prog X.w H s.heap a (.dK kvs) from I.hok a _ ea);obtain ⟨o,es,ep,h1,h2,_⟩:=p;exact PySem.W.kia_one PySem.W.kitx_dict I.kIn (i02 o h1 h2.1) e (λz=>nomatch z) h
 | @dT a kvs ea =>
  cases (show u=Value.ref a from rx)
  refine e0c (show A2v X.prog X.w H s.heap a (.dT kvs) from I.hok a _ ea) ?_;rintro _ _ xs _ o es ep h1 ⟨h2,_⟩;exact PySem.W.kia_one PySem.W.kitx_dict I.kIn (i02 o h1 h2.1) e (λz=>nomatch z) h
 | @ins a C dx fs ea cl ha hn htk hm =>
  cases (show u=Value.ref a from rx)
  obtain ⟨mA,O,_⟩:=B3e I.hok ea;obtain ⟨od,J,_⟩:=O.look;exact PySem.W.kia_one (PySem.W.kitx_own (cl.get _) cl.hd ha hn htk hm) I.kIn J e (λz=>nomatch z) h
end
structure B0o (k:Nat) (A:Around):Prop where
 hd:A.handled=none
 dp:A.depth+3*k+5<recursionLimit
 un:A.units+16*k+200<cLine
 gd:A.guards=some []
theorem B0o.mono {j k:Nat} (r:B0o k A) (h:j<=k):B0o j A:=⟨r.hd,by have:=r.dp;lia,by have:=r.un;lia,r.gd⟩
theorem B0o.deeper {k:Nat} (r:B0o (k+1) A) (env:Env):B0o k (A.deeper env) :=
 ⟨r.hd,by have:=r.dp;show A.depth+1+3*k+5<_;lia,by have:=r.un;show A.units+3+16*k+200<_;lia,r.gd⟩
theorem C3k:(A.under (.builtin "type.__call__" ⟨.ref C::us,kw⟩)).depth=A.depth+1:=by
 first | rfl | simp [Around.under,Code.weight,Code.isCreation,Code.isGuard,Code.isCaller,Code.frames,Code.isFrame,guardIds]
theorem C3c:(A.under (.builtin "type.__call__" ⟨.ref C::us,kw⟩)).units=A.units+1:=by
 first | rfl | simp [Around.under,Code.cUnits,Code.frames,Code.isFrame]
theorem C0w:(A.under (.builtin "type.__call__" ⟨.ref C::us,kw⟩)).guards=A.guards:=by
 show pushGuards (Code.guards (.builtin "type.__call__" ⟨.ref C::us,kw⟩)) A.guards=A.guards;have h:Code.isGuard (.builtin "type.__call__" ⟨.ref C::us,kw⟩)=false:=by first | rfl | (simp [Code.isGuard,guardIds]) | decide
 unfold Code.guards;rw [h];cases A.guards <;> rfl
theorem B0o.make {k:Nat} (r:B0o (k+1) A) (C:Addr) (us:List Value) (kw:List (Str×Value)):B0o k (A.under (.builtin "type.__call__" ⟨.ref C::us,kw⟩)) :=
 ⟨r.hd,by have:=r.dp;rw [C3k];lia,by have:=r.un;rw [C3c];lia,by rw [C0w];exact r.gd⟩
theorem B0o.depth {k:Nat} (r:B0o k A):A.depth<recursionLimit:=by have:=r.dp;lia
theorem B0o.units {k:Nat} (r:B0o k A):A.units+64<cLine:=by have:=r.un;lia
def D7u:TA:=λ_ H Q=>Q [] H
def D7x (ta:TE) (tr:TA):TA:=λZ H Q=>ta Z H λx H1=>tr Z H1 λxs H2=>Q (x::xs) H2
section
variable {X:Cx} {e:Expr} {es:List Expr} {te:TE} {t:TA} {pos:Pos}
theorem A0d:PA X [] D7u:=λ_ _ _ _ H Q I h=>Calls.spliced_nil (i0d [] H I .nil h)
theorem A0a (ha:PE X e te) (hr:PA X es t) (hs:starEach (e::es) X.env=(false,eval e X.env)::starEach es X.env:=by rfl):PA X (e::es) (D7x te t):=by
 intro pos pins s Z H Q I h;rw [hs];show wpAny _ _ (spliced ((false,eval e X.env)::backTo pos (starEach es X.env))) _ _ s;refine Calls.spliced_cons (thn (ha pins s Z H _ I h) ?_);rintro u s1 ⟨x,H1,I1,r1,q1⟩;exact thn (hr pos pins s1 Z H1 _ I1 q1) (by rintro us s2 ⟨xs,H2,I2,r2,q2⟩;exact i0d (x::xs) H2 I2 (.cons r1 r2) q2)
def tTup (t:TA):TE:=λZ H Q=>t Z H λxs H1=>xs.length<=sizeLine/\∀p,H1 p=none->Q (.ref p) (upd H1 p (.tup xs))
def tLst (t:TA):TE:=λZ H Q=>t Z H λxs H1=>xs.length<=sizeLine/\∀p,H1 p=none->Q (.ref p) (upd H1 p (.lst xs))
theorem A1o {x1} (h:PA X es t):PE X (.Tuple es x1 pos) (tTup t):=by
 intro pins s Z H Q I hq;refine wpAny_Tuple_spliced (thn (h pos pins s Z H _ I hq) λus s1 ⟨xs,H1,I1,r,z,q⟩=>⟨by rw [<-r.length];exact z,?_⟩);have hf:H1 s1.heap.objs.size=none:=I1.hok.fresh (Z09 _);refine i0d (.ref s1.heap.objs.size) (upd H1 s1.heap.objs.size (.tup xs)) (I1.laid (t':=s1.toks) (λb u e=>Z01 _ e) (Z09 _) ?_) rfl (q _ hf);exact i05 z us r (i0b _ (Z0c _ rfl) rfl _ rfl)
theorem A1q (h:PA X es t):PE X (.List es pos) (tLst t):=by
 intro pins s Z H Q I hq;refine wpAny_List_spliced (thn (h pos pins s Z H _ I hq) λus s1 ⟨xs,H1,I1,r,z,q⟩=>⟨by rw [<-r.length];exact z,?_⟩);have hf:H1 s1.heap.objs.size=none:=I1.hok.fresh (Z09 _);refine i0d (.ref s1.heap.objs.size) (upd H1 s1.heap.objs.size (.lst xs)) (I1.laid (t':=s1.toks) (λb u e=>Z01 _ e) (Z09 _) ?_) rfl (q _ hf);exact i09 z us 0 r (Z0c _ rfl)
end
abbrev Sp:=List V->Hp->VK->XK->Prop
abbrev CXT:=List Env->Hp->Shared->XK->Value->Shared->Prop
structure D3w (P:Program) (w:World) (K:Frag) (mg:Str->Option Value) (base:Heap) (A:Around) (outer:List Env) (s:Shared) (H:Hp):Prop where
 frames:A.frames=some outer
 mod:Mod K mg base
 bs:∀b o,base.get? b=some o->s.heap.get? b=some o/\H b=none
 bsz:base.objs.size<=s.heap.objs.size
 funs:s.heap.FunFrames base outer
 frf:∀b∈frs outer,H b=none
 hok:HOk P w H s.heap
 bare:AllBare s.gens
def CE (outer:List Env) (P:Program) (w:World) (H:Hp) (s:Shared) (Q:VK) (u:Value) (s':Shared):Prop :=
 ∃v H',s'.os=s.os/\AllBare s'.gens/\Un (frs outer) [] H H' s.heap s'.heap/\HOk P w H' s'.heap/\A3j v u/\Q v H'
def CR (CX:CXT) (outer:List Env) (P:Program) (w:World) (H:Hp) (s:Shared) (Q:VK) (E:XK) (r:Result) (s':Shared):Prop :=
 match r with
 | .ok (.ret u)=>CE outer P w H s Q u s'
 | .ok _=>False
 | .error e=>CX outer H s E e s'
structure A2y (P:Program) (w:World) (K:Frag) (mg:Str->Option Value) (base:Heap) (CX:CXT) (k:Nat) (f:Addr) (fd:FuncData) (ps:List Str) (sp:Sp):Prop where
 len:∀vs H Q E,sp vs H Q E->vs.length=ps.length
 run:∀(A:Around) (outer:List Env) (s:Shared) (H:Hp) (args:Args) (us:List Value) (vs:List V) (Q:VK) (E:XK),B0o k A->D3w P w K mg base A outer s H->BindsTo s fd args (ps.zip us)->A3z vs us->sp vs H Q E->
  codeAny (model P w) A (.call (.ref f) args) (CR CX outer P w H s Q E) s
theorem A2y.mono {j k:Nat} {f:Addr} {sp:Sp} (F:A2y P w K mg base CX j f fd ps sp) (h:j<=k) :
  A2y P w K mg base CX k f fd ps sp:=⟨F.len,λA outer s H args us vs Q E hr=>F.run A outer s H args us vs Q E (hr.mono h)⟩
theorem D3w.make (e:D3w P w K mg base A outer s H) (C:Addr) (us:List Value) (kw:List (Str×Value)) :
  D3w P w K mg base (A.under (.builtin "type.__call__" ⟨.ref C::us,kw⟩)) outer s H:=⟨by first | exact e.frames | (simpa [Around.under,Code.envs,Code.isFrame,pushEnvs] using e.frames),e.mod,e.bs,e.bsz,e.funs,e.frf,e.hok,e.bare⟩
section
variable {X:Cx} {pins:List (Addr×Obj)} {Z:St} {H:Hp} {s s':Shared}
theorem Inv.env0 (I:Inv X pins Z H s):D3w X.prog X.w X.K X.mg X.base X.A X.stack s H :=
 ⟨I.ok.frames,I.ok.mod,I.bs,Z1n I.ok.bsz I.sz,I.stack,I.stkFree,I.hok,I.bare⟩
theorem Inv.after {Q:VK} (I:Inv X pins Z H s) (h:CE X.stack X.prog X.w H s Q u s'):EP X pins Z Q u s':=by
 refine e06 h ?_;clear h;rintro v H' os bare un ⟨hok,r,q⟩;obtain ⟨hh,g,d,t,os'⟩:=s';obtain rfl:os'=s.os:=os;exact i0d v H' (I.call (h':=hh) (g':=g) (d':=d) (t':=t) (ch:=[]) un hok bare (λb z=>absurd z (by simp))) r q
end
def D4r (sp:Sp) (dvs:List V) (E:XK) (t:TA):TE:=λZ H Q=>t Z H λvs H1=>sp (vs++dvs) H1 Q E
def D5z (C:Addr) (m:Str) (sp:Sp) (dvs:List V) (E:XK) (ta:TE) (t:TA):TE:=λZ H Q=>ta Z H λx H1=>∃a dx fs,x= .ref a/\H1 a=some (.ins C dx fs)/\fs.lookup m=none/\
 t Z H1 λvs H2=>sp (x::(vs++dvs)) H2 Q E
def D6j (C:Addr) (sp:Sp) (dvs:List V) (E:XK) (t:TA):TE:=λZ H Q=>t Z H λvs H1=>∀x dx,H1 x=none->H1 dx=none->dx≠x->
 sp (.ref x::(vs++dvs)) (upd (upd H1 dx (.own x)) x (.ins C dx [])) (λv H2=>v= .non/\Q (.ref x) H2) E
def A7o (K:Frag) (fd:FuncData) (ps:List Str) (ds:List Value):Prop :=
 ∀(s:Shared) (us:List Value),K.In s.heap->(us++ds).length=ps.length->BindsTo s fd ⟨us,[]⟩ (ps.zip (us++ds))
theorem A7o.all (h:∀us:List Value,us.length=ps.length->bindArgs fd ⟨us,[]⟩=pure (ps.zip us)):A7o K fd ps []:=λs us _ hl=>by
 rw [Z0u] at hl⊢;exact .of_eq (h us hl)
def B3j (CX:CXT) (X:Cx) (E:XK):Prop:=∀(pins:List (Addr×Obj)) (Z:St) (H:Hp) (s:Shared) (e:Value) (s':Shared),Inv X pins Z H s->CX X.stack H s E e s'->X.xe e s'
section
variable {X:Cx} {CX:CXT} {k:Nat} {f C:Addr} {fd:FuncData} {ps:List Str} {sp:Sp} {dvs:List V} {ds:List Value} {E:XK} {x m:Str} {p pos apos:Pos} {e o:Expr} {es:List Expr} {ta:TE} {t:TA}
theorem B7r {Q:VK} (F:A2y X.prog X.w X.K X.mg X.base CX k f fd ps sp) (hr:B0o k X.A) (hb:A7o X.K fd ps ds) (hd:A3z dvs ds) (hx:B3j CX X E)
  (I:Inv X pins Z H s) (r:A3z vs us) (h:sp (vs++dvs) H Q E):wpAny (model X.prog X.w) X.A (call (.ref f) us) (EP X pins Z Q) X.xe s:=by
 have r2:A3z (vs++dvs) (us++ds):=r.append hd;have hl:(us++ds).length=ps.length:=by rw [<-r2.length];exact F.len _ _ _ _ h
 refine wpAny_call (codeAny_mono (F.run X.A X.stack s H ⟨us,[]⟩ (us++ds) (vs++dvs) Q E hr I.env0 (hb s us I.kIn hl) r2 h) λr s' hq=> ?_)
 cases r with
 | error e=>exact hx pins Z H s e s' I hq
 | ok fl =>
  cases fl with
  | ret u=>exact I.after hq
  | next=>exact False.elim hq
  | brk=>exact False.elim hq
  | cont=>exact False.elim hq
theorem D3f (F:A2y X.prog X.w X.K X.mg X.base CX k f fd ps sp) (hr:B0o k X.A) (hg:Gl X x) (hm:X.mg x=some (.ref f)) (hk:keepIn X.K (.ref f)=true) (hb:A7o X.K fd ps ds) (hd:A3z dvs ds) (hx:B3j CX X E)
  (ha:PA X (e::es) t) (hdb:(x == ("__debug__":Str))=false:=by decide) (he:starEach (e::es) X.env=(false,eval e X.env)::starEach es X.env:=by rfl) (hpl:(backTo pos (starEach es X.env)).any (·.1)=false:=by rfl) :
  PE X (.Call (.Name x p) (e::es) [] pos) (D4r sp dvs E t):=by
 intro pins s Z H Q I h;refine wpAny_Call_Name_kw (C0p I hg hm ?_ hdb);refine PySem.W.callWith_K (h₀:=X.base) I.ok.mod.kin hk (thn (ha pos pins s Z H _ I h) λus s1 ⟨vs,H1,I1,r,q⟩=>⟨I1.kIn,?_⟩) he hpl;exact B7r F hr hb hd hx I1 r q
theorem B2o (he:PE X o ta) (c:Cls X.K C) (hm:B0q X.K C m f) (F:A2y X.prog X.w X.K X.mg X.base CX k f fd ps sp) (hr:B0o k X.A) (hb:A7o X.K fd ps ds) (hd:A3z dvs ds) (hx:B3j CX X E) (ha:PA X (e::es) t)
  (hst:starEach (e::es) X.env=(false,eval e X.env)::starEach es X.env:=by rfl) (hpl:(backTo pos (starEach es X.env)).any (·.1)=false:=by rfl)
  (ht:eval (.Call (.Attribute o m apos) (e::es) [] pos) X.env=(do
   let ov<-eval o X.env
   standAt apos.atName
   let (f,first)<-holding [ov] (getMethod ov m pl)
   callWith pos f first (backTo pos (starEach (e::es) X.env)) (backToKw pos (keywordEach [] X.env))):=by rfl) :
  PE X (.Call (.Attribute o m apos) (e::es) [] pos) (D5z C m sp dvs E ta t):=by
 intro pins s Z H Q I h;refine PySem.W.methodCall_KW (pl:=pl) (thn (he pins s Z H _ I h) ?_) ht;rintro u s1 zz;refine e0b zz ?_;clear zz;rintro x H1 I1 rx a dx fs ⟨ex,ea,l,q⟩;subst ex;obtain rfl:u=Value.ref a:=rx;refine A8o I1 ea c hm l ?_;refine PySem.W.callWith_K (first:=[.ref a]) (h₀:=X.base) I.ok.mod.kin hm.kp (thn (ha pos pins s1 Z H1 _ I1 q) λus s2 ⟨vs,H2,I2,r,q2⟩=>⟨I2.kIn,?_⟩) hst hpl;exact B7r (us:= .ref a::us) (vs:= .ref a::vs) F hr hb hd hx I2 (.cons rfl r) q2
theorem C7y (he:PE X o ta) (c:Cls X.K C) (hm:B0q X.K C m f) (F:A2y X.prog X.w X.K X.mg X.base CX k f fd ps sp) (hr:B0o k X.A) (hb:A7o X.K fd ps ds) (hd:A3z dvs ds) (hx:B3j CX X E)
  (ht:eval (.Call (.Attribute o m apos) [] [] pos) X.env=(do
   let ov<-eval o X.env
   standAt apos.atName
   let (f,first)<-holding [ov] (getMethod ov m pl)
   callWith pos f first (backTo pos (starEach [] X.env)) (backToKw pos (keywordEach [] X.env))):=by rfl) :
  PE X (.Call (.Attribute o m apos) [] [] pos) (D5z C m sp dvs E ta D7u):=by
 intro pins s Z H Q I h;refine PySem.W.methodCall_KW (pl:=pl) (thn (he pins s Z H _ I h) ?_) ht;rintro u s1 zz;refine e0b zz ?_;clear zz;rintro x H1 I1 rx a dx fs ⟨ex,ea,l,q⟩;subst ex;obtain rfl:u=Value.ref a:=rx;refine A8o I1 ea c hm l ?_;exact PySem.W.callWith_K0 (first:=[.ref a]) I1.kIn hm.kp (B7r (us:=[.ref a]) (vs:=[.ref a]) F hr hb hd hx I1 (.cons rfl .nil) q)
structure Mk (K:Frag) (C f:Addr):Prop where
 makes:makesIn K C=true
 init:findIn K (.ref C) "__init__"=some (some (.ref f))
 fn:isFn K (.ref f)=true
 kp:keepIn K (.ref C)=true
theorem C9g {Q:VK} (M:Mk X.K C f) (F:A2y X.prog X.w X.K X.mg X.base CX k f fd ps sp) (hr:B0o (k+1) X.A) (hb:A7o X.K fd ps ds) (hd:A3z dvs ds)
  (hx:B3j CX X E) (I:Inv X pins Z H s) (r:A3z vs us)
  (h:∀x dx,H x=none->H dx=none->dx≠x->sp (.ref x::(vs++dvs)) (upd (upd H dx (.own x)) x (.ins C dx [])) (λv H2=>v= .non/\Q (.ref x) H2) E) :
  wpAny (model X.prog X.w) X.A (call (.ref C) us) (EP X pins Z Q) X.xe s:=by
 have hq:=h (s.heap.objs.size+1) s.heap.objs.size (I.hok.fresh (Nat.le_succ _)) (I.hok.fresh (Z09 _)) (Z0h (Nat.lt_succ_self _));have I2:=Inv.made (C:=C) I;have r2:A3z (V.ref (s.heap.objs.size+1)::(vs++dvs)) (Value.ref (s.heap.objs.size+1)::(us++ds)):= .cons rfl (r.append hd)
 have hl:(Value.ref (s.heap.objs.size+1)::us++ds).length=ps.length:=by
  have e:=r2.length;rw [F.len _ _ _ _ hq] at e;exact e.symm
 refine wpAny_call (C8h (f:=f) I.kIn M.makes M.init (beq_iff_eq.mp M.fn) (codeAny_mono (F.run _ X.stack _ _ ⟨Value.ref (s.heap.objs.size+1)::us,[]⟩ (Value.ref (s.heap.objs.size+1)::(us++ds)) _ _ E (hr.make C us [])
  (I2.env0.make C us []) (hb _ (Value.ref (s.heap.objs.size+1)::us) I2.kIn hl) r2 hq) λr s' hq'=> ?_))
 cases r with
 | error e=>exact hx pins Z _ _ e s' I2 hq'
 | ok fl =>
  cases fl with
  | ret u =>
   obtain ⟨v,H',I3,rv,ev,q3⟩:=I2.after hq';subst ev;exact i0h rv (V.ref (s.heap.objs.size+1)) H' I3 rfl q3
  | next=>exact False.elim hq'
  | brk=>exact False.elim hq'
  | cont=>exact False.elim hq'
theorem D3o (M:Mk X.K C f) (F:A2y X.prog X.w X.K X.mg X.base CX k f fd ps sp) (hr:B0o (k+1) X.A) (hg:Gl X x) (hm:X.mg x=some (.ref C)) (hb:A7o X.K fd ps ds) (hd:A3z dvs ds) (hx:B3j CX X E)
  (ha:PA X (e::es) t) (hdb:(x == ("__debug__":Str))=false:=by decide) (he:starEach (e::es) X.env=(false,eval e X.env)::starEach es X.env:=by rfl) (hpl:(backTo pos (starEach es X.env)).any (·.1)=false:=by rfl) :
  PE X (.Call (.Name x p) (e::es) [] pos) (D6j C sp dvs E t):=by
 intro pins s Z H Q I h;refine wpAny_Call_Name_kw (C0p I hg hm ?_ hdb);refine PySem.W.callWith_K (h₀:=X.base) I.ok.mod.kin M.kp (thn (ha pos pins s Z H _ I h) λus s1 ⟨vs,H1,I1,r,q⟩=>⟨I1.kIn,?_⟩) he hpl;exact C9g M F hr hb hd hx I1 r q
end
section
variable {X:Cx} {CX:CXT} {k:Nat} {f C:Addr} {fd:FuncData} {ps ks:List Str} {sp:Sp} {E:XK} {x m:Str} {p pos apos kpos:Pos} {e o:Expr} {es:List Expr} {kws:List Keyword} {te ta:TE} {t tk:TA} {nm:Option Str}
variable {g:List Value->List Value->List Value} {gV:List V->List V->List V}
end
structure A1b (N P:List Str) (sc:Scope):Prop where
 kind:sc.kind= .function
 co:sc.isCoroutine=false
 gen:sc.isGenerator=false
 nd:N.Nodup
 pre:N.take P.length=P
 par:∀x∈P,sc.names.lookup x=some .local\/sc.names.lookup x=some .cell
 nofree:∀y∈sc.names,y.2≠.free
theorem B8w {kindOf:Str->Option NameKind} {x:Str}:∀{binds:List (Str×Value)} {m:Str->Option Value},(∀v,(x,v)∉binds)->bindL kindOf binds m x=m x
 | [],_,_=>rfl
 | (n,v)::r,m,h=>by
  unfold bindL;rw [B8w λw hw=>h w (Z1f _ hw)];split
  ·have:x≠n:=by rintro rfl;exact h v Z27
   simp [this]
  ·rfl
theorem B8d {kindOf:Str->Option NameKind} {x:Str}:∀{binds:List (Str×Value)} {m:Str->Option Value},(∀v,(x,v)∉binds)->bindC kindOf binds m x=m x
 | [],_,_=>rfl
 | (n,v)::r,m,h=>by
  unfold bindC;rw [B8d λw hw=>h w (Z1f _ hw)];split
  ·rfl
  ·have:x≠n:=by rintro rfl;exact h v Z27
   simp [this]
theorem B8a {kindOf:Str->Option NameKind} {x:Str} {v:Value}:∀{P:List Str} {vs:List Value} {i:Nat} {m:Str->Option Value},P.Nodup->P[i]? =some x->vs[i]? =some v->kindOf x=some .local->
  bindL kindOf (P.zip vs) m x=some v
 | [],_,_,_,_,h,_,_=>by simp at h
 | _::_,[],_,_,_,_,h,_=>by simp at h
 | p::P,w::vs,0,m,nd,h1,h2,hk=>by
  simp at h1 h2;subst h1;subst h2;show bindL kindOf ((p,w)::P.zip vs) m p=_;unfold bindL;rw [B8w λv hv=>(Z15.mp nd).1 (List.of_mem_zip hv).1,Z12 hk];simp
 | p::P,w::vs,i+1,m,nd,h1,h2,hk=>by
  show bindL kindOf ((p,w)::P.zip vs) m x=_;unfold bindL;exact B8a (i:=i) (Z15.mp nd).2 (by simpa using h1) (by simpa using h2) hk
theorem B7v {kindOf:Str->Option NameKind} {x:Str} {v:Value}:∀{P:List Str} {vs:List Value} {i:Nat} {m:Str->Option Value},P.Nodup->P[i]? =some x->vs[i]? =some v->kindOf x≠some .local->
  bindC kindOf (P.zip vs) m x=some v
 | [],_,_,_,_,h,_,_=>by simp at h
 | _::_,[],_,_,_,_,h,_=>by simp at h
 | p::P,w::vs,0,m,nd,h1,h2,hk=>by
  simp at h1 h2;subst h1;subst h2;show bindC kindOf ((p,w)::P.zip vs) m p=_;unfold bindC;rw [B8d λv hv=>(Z15.mp nd).1 (List.of_mem_zip hv).1,Z0t hk];simp
 | p::P,w::vs,i+1,m,nd,h1,h2,hk=>by
  show bindC kindOf ((p,w)::P.zip vs) m x=_;unfold bindC;exact B7v (i:=i) (Z15.mp nd).2 (by simpa using h1) (by simpa using h2) hk
def B6x (N:List Str) (vs:List V):St:=vs.map some++List.replicate (N.length-vs.length) none
def D3y (CX:CXT) (P:Program) (w:World) (K:Frag) (mg:Str->Option Value) (base:Heap) (N:List Str) (qual:Str) (scope:Scope) (f:Addr) (cd:Value) (A:Around) (outer:List Env) (s:Shared) (H:Hp) (E:XK):Cx where
 prog:=P
 w:=w
 K:=K
 mg:=mg
 base:=base
 A:=A.deeper (envOfC qual scope s.heap.objs.size f cd)
 N:=N
 s₀:=s
 H₀:=H
 env:=envOfC qual scope s.heap.objs.size f cd
 outer:=outer
 stack:=envOfC qual scope s.heap.objs.size f cd::outer
 ex:=[]
 calm:=true
 fn:=λ_=>true
 pn:=[]
 xe:=λe s'=>wpAny (model P w) (A.deeper (envOfC qual scope s.heap.objs.size f cd)) (leaving (envOfC qual scope s.heap.objs.size f cd) e) (λ_ s''=>CX outer H s E e s'') (λe' s''=>CX outer H s E e' s'') s'
theorem C1u {sc:Scope} {n:Nat} {x:Str} (h:sc.names.lookup x=some .cell):∃c,(cellsFrom n sc.names []).lookup x=some c:=by
 have q:=PySem.W.cellsFrom_some sc.names n [] (.inl h);exact Option.isSome_iff_exists.mp q
theorem C6d {N:List Str} {qual:Str} {f:Addr} {cd:Value} {s1:Shared} {E:XK}
  (S:A1b N ps scope) (hd:A.handled=none) (e0:D3w P w K mg base A outer s H) (hl:vs.length=ps.length) (r:A3z vs us)
  (x:InCallC s s.heap.objs.size (bindL (envOfC qual scope s.heap.objs.size f cd).kindOf (ps.zip us) λ_=>none) (cellsFrom (s.heap.objs.size+1) scope.names []) (bindC (envOfC qual scope s.heap.objs.size f cd).kindOf (ps.zip us) λ_=>none) s1) :
  Inv (D3y CX P w K mg base N qual scope f cd A outer s H E) [] (B6x N vs) H s1:=by
 have hpl:ps.length<=N.length:=by have:=congrArg List.length S.pre;rw [Z0x] at this;lia
 obtain ⟨h1,tk,rfl,hk⟩:=x.done;have noA:∀b:Addr,b∉(D3y CX P w K mg base N qual scope f cd A outer s H E).ex:=λb z=>absurd (show b∈([]:List Addr) from z) (by simp)
 refine ⟨⟨e0.mod,S.kind,rfl,rfl,Z09 _,λy z c h1 h2=> ?_,λy hy=> ?_,λy c _ h=> ?_,λ_=>hd,Around.frames_deeper e0.frames,.inr ⟨rfl,rfl⟩,λb z=>absurd z (noA b),e0.bs,e0.bsz,λb _ _=>noA b,λb z=>absurd z (noA b),e0.funs,e0.frf⟩,
  rfl,e0.bare,Un.kept hk,(i02 _ x.toInCall.ns λi y v h1 h2 h3=> ?_),λy c h=>⟨_,x.cell y c h⟩,e0.hok.fresh (Z09 _),λy c h=> ?_,λp hp=>absurd (show p∈([]:List (Addr×Obj)) from hp) (by simp),e0.hok.kept hk,?_⟩
 ·exact name_of_addr x.apart (PySem.mem_of_lookup h1) (PySem.mem_of_lookup h2)
 ·have hy:scope.names.lookup y=some .cell\/scope.names.lookup y=some .free:=hy;rcases hy with hy | hy
  ·exact C1u hy
  ·exact absurd rfl (S.nofree _ (PySem.mem_of_lookup hy))
 ·exact Nat.le_of_lt (x.above y c (PySem.mem_of_lookup h))
 ·have hi:i<vs.length:=by
   unfold B6x at h2;by_cases hi:i<vs.length
   ·exact hi
   ·rw [Z1l (by simpa using hi)] at h2;rw [List.getElem?_replicate] at h2;split at h2 <;> cases h2
  have ha:vs[i]? =some v:=by
   unfold B6x at h2;rw [Z26 (by simpa using hi),Z1z] at h2
   cases e:vs[i]? with
   | none=>rw [e] at h2;cases h2
   | some a=>rw [e] at h2;cases h2;rfl
  obtain ⟨u,hu,rv⟩:=r.get ha
  have hp:ps[i]? =some y:=by
   rw [<-S.pre,List.getElem?_take_of_lt (by lia)];exact h1
  have ndP:ps.Nodup:=by rw [<-S.pre];exact S.nd.sublist (List.take_sublist _ _)
  refine i02 u rv ?_;rcases S.par y (Z13 hp) with k | k
  ·exact .inl ⟨k,B8a ndP hp hu k⟩
  ·obtain ⟨c,e⟩:=C1u (n:=s.heap.objs.size+1) k;refine .inr (i05 (.inl k) c e ?_);have q:=x.cell y c e;rw [B7v ndP hp hu (by show scope.names.lookup y≠_;rw [k];decide)] at q;exact q
 ·exact e0.hok.fresh (Nat.le_of_lt (x.above y c (PySem.mem_of_lookup h)))
 ·unfold B6x;show _=N.length;rw [Z06,Z08,List.length_replicate]
  lia
theorem D8k {k:Nat} {f:Addr} {name qual:Str} {params:Arguments} {dV kV doc pm cdv ct oc:Value} {an od:Option Addr}
 {N:List Str} {sp:Sp} (lk:K.lookup f=some ⟨oc,od,.func (fnOf name qual params body scope dV kV doc pm an cdv ct),osl⟩) (hcd:codeIn K cdv qual=true) (S:A1b N ps scope)
  (len:∀vs H Q E,sp vs H Q E->vs.length=ps.length)
  (hbody:∀(A:Around) (outer:List Env) (s:Shared) (H:Hp) (vs:List V) (Q:VK) (E:XK),B0o k (A.deeper (envOfC qual scope s.heap.objs.size f cdv))->sp vs H Q E->
   ∃t,PSs (D3y CX P w K mg base N qual scope f cdv A outer s H E) body t/\t { nx:=λ_ H'=>Q .non H',rt:=Q } (B6x N vs) H) :
  A2y P w K mg base CX (k+1) f (fnOf name qual params body scope dV kV doc pm an cdv ct) ps sp:=by
 refine ⟨len,λA outer s H args us vs Q E hr e0 hb r hsp=> ?_⟩;have hl:=len _ _ _ _ hsp;have KX:K.In s.heap:=e0.mod.kin.keeps λb o e=>(e0.bs b o e).1;have lim:s.heap.NoLimit:=e0.mod.nolimit.keeps λb o e=>(e0.bs b o e).1
 have hkind:∀y∈ps.zip us,scope.names.lookup y.1=some .local\/(scope.names.lookup y.1=some .cell/\((cellsFrom (s.heap.objs.size+1) scope.names []).lookup y.1).isSome=true):=λ⟨n,v⟩ hy=>by
  rcases S.par n (List.of_mem_zip hy).1 with q | q
  ·exact .inl q
  ·exact .inr ⟨q,PySem.W.cellsFrom_some _ _ _ (.inl q)⟩
 refine codeAny_call_function hr.depth (KX _ _ lk) rfl S.co S.gen rfl (PySem.W.codeRec_of KX hcd) (hb _ _ _ _ ?_);refine wpAny_newFunctionEnv_cells S.kind hkind λenv he s1 x=> ?_;subst he;refine ⟨lim.keeps x.toInCall.keep,codeAny_func ?_⟩;obtain ⟨t,ht,hq⟩:=hbody A outer s H vs Q E (hr.deeper _) hsp;have I:Inv (D3y CX P w K mg base N qual scope f cdv A outer s H E) [] (B6x N vs) H s1:=C6d S hr.hd e0 hl r x;refine Z10 (ht [] s1 (B6x N vs) H _ I hq) (λfl s' hs=> ?_) λe s' hs=>hs
 have fin:∀{Z':St} {H':Hp} {v:V} {u:Value},Inv (D3y CX P w K mg base N qual scope f cdv A outer s H E) [] Z' H' s'->A3j v u->Q v H'->CE outer P w H s Q u s' :=
  λ{Z' H' v u} J rv q=>(i0r v H' J.os J.bare J.base J.hok rv q)
 cases fl with
 | ret u =>
  obtain ⟨v,Z',H',J,rv,q⟩:=hs;exact fin J rv q
 | next =>
  obtain ⟨Z',H',J,q⟩:=hs;exact fin (v:=V.non) (u:=Value.none) J rfl q
 | brk =>
  obtain ⟨_,_,_,q⟩:=hs;exact False.elim q
 | cont =>
  obtain ⟨_,_,_,q⟩:=hs;exact False.elim q
section
variable {X:Cx} {x:Str} {p pos:Pos} {e:Expr} {es:List Expr} {t:TA} {id T:String} {r:List V->Hp->VK->Prop}
def tCB (r:List V->Hp->VK->Prop) (t:TA):TE:=λZ H Q=>t Z H λvs H1=>r vs H1 Q
theorem A0y (hc:A9l X (.builtin id) r) (hg:Gl X x) (hm:X.mg x=none) (hv:bootBuiltins x=some (.builtin id)) (ha:PA X (e::es) t) (hn:x≠"__name__":=by decide) (hdb:(x == ("__debug__":Str))=false:=by decide)
  (he:starEach (e::es) X.env=(false,eval e X.env)::starEach es X.env:=by rfl) (hpl:(backTo pos (starEach es X.env)).any (·.1)=false:=by rfl):PE X (.Call (.Name x p) (e::es) [] pos) (tCB r t):=by
 intro pins s Z H Q I h;refine wpAny_Call_Name_kw (B4w I hg hm hv ?_ hn hdb);exact PyProof.Rows.callWith_builtin1 (thn (ha pos pins s Z H _ I h) (by rintro us s1 ⟨vs,H1,I1,r1,q1⟩;exact hc pins s1 Z H1 vs us Q I1 r1 q1)) he hpl
theorem A2a (hc:A9l X (.type T) r) (hg:Gl X x) (hm:X.mg x=none) (hv:bootBuiltins x=some (.type T)) (ha:PA X (e::es) t) (hn:x≠"__name__":=by decide) (hdb:(x == ("__debug__":Str))=false:=by decide)
  (he:starEach (e::es) X.env=(false,eval e X.env)::starEach es X.env:=by rfl) (hpl:(backTo pos (starEach es X.env)).any (·.1)=false:=by rfl):PE X (.Call (.Name x p) (e::es) [] pos) (tCB r t):=by
 intro pins s Z H Q I h;refine wpAny_Call_Name_kw (B4w I hg hm hv ?_ hn hdb);exact PyProof.Rows.callWith_type1 (thn (ha pos pins s Z H _ I h) (by rintro us s1 ⟨vs,H1,I1,r1,q1⟩;exact hc pins s1 Z H1 vs us Q I1 r1 q1)) he hpl
end
end L2
namespace HT
open PySem PyProof.Rows
section
open PySem.SeqAt
open PySem.AutoSeq1 (wpAny_loadPart')
open PySem.MeetsSeq PySem.MeetsSeq2 PySem.MeetsSeq3
end
section
variable {prog:Program} {w:World} {A:Around} {E:Value->Shared->Prop} {s:Shared}
def sIx (n d:Nat):Option Int->Nat
 | none=>d
 | some v=>if v<0 then (v+(n:Int)).toNat else min v.toNat n
theorem sIx_nat (n d k:Nat):sIx n d (some (k:Int))=min k n:=by
 show (if (k:Int)<0 then ((k:Int)+(n:Int)).toNat else min (k:Int).toNat n)=min k n;rw [Z0t (by lia),Int.toNat_natCast]
end
end HT
namespace L2
open PySem PySem.Spec PyProof.Rows
variable {s:Shared} {y:V} {u:Value} {pins:List (Addr×Obj)} {H:Hp} {its:List Value} {f:Array Value->Array Value} {t':Nat} {o:Option V} {P:Program} {w:World} {kvs:List (List Key×V)} {xs:List (List Key×Addr×Value)} {a:Addr} {Q:Value->Shared->Prop}
abbrev TO:=St->Hp->(Option Int->Hp->Prop)->Prop
def PO (X:Cx) (e:Option Expr) (t:TO):Prop :=
 ∀(pins:List (Addr×Obj)) (s:Shared) (Z:St) (H:Hp) (Q:Option Int->Hp->Prop),Inv X pins Z H s->t Z H Q->
  wpAny (model X.prog X.w) X.A (evalPart e X.env) (λu s'=>∃o H',Inv X pins Z H' s'/\IsPart u o/\Q o H') X.xe s
def D1x:TO:=λ_ H Q=>Q none H
def D8e (t:TE):TO:=λZ H Q=>t Z H λx H1=>∃i,x= .int i/\Q (some i) H1
section
variable {X:Cx} {e:Expr} {te:TE} {lo hi:Option Expr} {tl th:TO} {pos p2:Pos}
theorem C0q:PO X none D1x:=by
 intro pins s Z H Q I h;rw [evalPart_none];exact Z04 (i0d none H I .none h)
theorem B3o (h:PE X e te):PO X (some e) (D8e te):=by
 intro pins s Z H Q I hw;rw [evalPart_some];refine thn (h pins s Z H _ I hw) ?_;rintro u s1 ⟨x,H1,I1,r1,q1⟩;obtain ⟨i,rfl,q⟩:=q1;obtain ⟨t,rfl⟩:=r1;exact i0d (some i) H1 I1 (.int i t) q
def SlR (X:Cx) (r:V->Option Int->Option Int->Hp->VK->Prop):Prop :=
 ∀(pins:List (Addr×Obj)) (s:Shared) (Z:St) (H:Hp) (x:V) (v vl vu:Value) (lo hi:Option Int) (sl:Addr) (Q:VK),Inv X pins Z H s->A3j x v->s.heap.IsSliceOf sl vl vu .none->IsPart vl lo->IsPart vu hi->r x lo hi H Q->
  ∃T id,typeLookup (.type T) "__getitem__"=pure (some (.builtin id))/\s.TypeIs v T/\wpAny (model X.prog X.w) X.A (getItem v (.ref sl)) (EP X pins Z Q) X.xe s
def tSl (r:V->Option Int->Option Int->Hp->VK->Prop) (te:TE) (tl th:TO):TE:=λZ H Q=>te Z H λx H1=>tl Z H1 λl H2=>th Z H2 λu H3=>r x l u H3 Q
theorem B2e {r:V->Option Int->Option Int->Hp->VK->Prop} (hr:SlR X r) (he:PE X e te) (hl:PO X lo tl) (hu:PO X hi th):PE X (.Subscript e (.Slice lo hi none p2) pos) (tSl r te tl th):=by
 intro pins s Z H Q I h;refine Subscript_ (thn (he pins s Z H _ I h) ?_);rintro v s1 ⟨x,H1,I1,r1,q1⟩;refine wpAny_Slice (thn (hl pins s1 Z H1 _ I1 q1) ?_);rintro vl s2 ⟨l,H2,I2,pl,q2⟩;refine thn (hu pins s2 Z H2 _ I2 q2) ?_;rintro vu s3 ⟨u,H3,I3,pu,q3⟩;rw [evalPart_none];refine Z04 ?_;have I4:Inv X pins Z H3 { s3 with heap:=s3.heap.push { cls:= .type "slice",data:= .fields #[vl,vu,.none] } }:=I3.kept (t':=s3.toks) λb ob q=>Z01 _ q
 obtain ⟨T,id,hT,ht,hg⟩:=hr pins { s3 with heap:=s3.heap.push { cls:= .type "slice",data:= .fields #[vl,vu,.none] } } Z H3 x v vl vu l u s3.heap.objs.size Q I4 r1 (Heap.IsSliceOf.new ..) pl pu q3;show wpAny (model X.prog X.w) X.A (subscriptTail e (.Slice lo hi none p2) v (.ref s3.heap.objs.size)) (EP X pins Z Q) X.xe { s3 with heap:=s3.heap.push { cls:= .type "slice",data:= .fields #[vl,vu,.none] } };exact tail_any (ops:=[.ref s3.heap.objs.size,v]) ht hT hg (by with_unfolding_all rfl)
def C9x (xs:List V) (lo hi:Option Int):List V:=(xs.drop (HT.sIx xs.length 0 lo)).take (HT.sIx xs.length xs.length hi-HT.sIx xs.length 0 lo)
theorem B9r (xs:List V) (lo hi:Option Int):(C9x xs lo hi).length<=xs.length:=by
 unfold C9x;rw [Z0x,List.length_drop]
 lia
end
def ixN (n:Nat) (i:Int):Option Nat:=if 0<=i then (if i<n then some i.toNat else none) else if -(n:Int)<=i then some (i+n).toNat else none
def atI {α:Type} (xs:List α) (i:Int):Option α:=(ixN xs.length i).bind λj=>xs[j]?
theorem D1g {n:Nat} {i:Int} {j:Nat} (h:ixN n i=some j):seqIndex? i n=some j/\j<n/\-(n:Int)<=i/\i<n:=by
 unfold ixN at h;by_cases h0:0<=i
 ·rw [Z12 h0] at h;by_cases h1:i<n
  ·rw [Z12 h1] at h;have e:i.toNat=j:=Z1a h;exact i04 (by rw [seqIndex_of h0 h1,e]) (by lia) (by lia) h1
  ·rw [Z0t h1] at h;cases h
 ·rw [Z0t h0] at h;by_cases h1: -(n:Int)<=i
  ·rw [Z12 h1] at h;have e:(i+n).toNat=j:=Z1a h;exact i04 (by rw [seqIndex_neg (by lia) h1,e]) (by lia) h1 (by lia)
  ·rw [Z0t h1] at h;cases h
theorem B9z {α:Type} {xs:List α} {i:Int} {v:α} (h:atI xs i=some v):∃j,seqIndex? i xs.length=some j/\xs[j]? =some v/\j<xs.length/\-(xs.length:Int)<=i/\i<xs.length:=by
 unfold atI at h
 cases e:ixN xs.length i with
 | none=>rw [e] at h;cases h
 | some j =>
  rw [e] at h;obtain ⟨h1,h2,h3,h4⟩:=D1g e;exact ⟨j,(i08 h1 h h2 h3 h4)⟩
theorem A1s {α:Type} {xs:List α} {j:Nat} {v:α} (h:xs[j]? =some v):atI xs (j:Int)=some v:=by
 have hj:j<xs.length:=(Z03.mp h).1
 have e:ixN xs.length (j:Int)=some j:=by
  unfold ixN;rw [Z12 (by lia),Z12 (by lia)];simp
 unfold atI;rw [e];exact h
def D1j (b:Expr):Prop:=∀o i,subscripted b false o i=operate [o,i] (getItem o i)
def IxR (X:Cx) (r:R2):Prop :=
 ∀(value slice:Expr) (pins:List (Addr×Obj)) (s:Shared) (Z:St) (H:Hp) (x y:V) (v u:Value) (Q:VK),Inv X pins Z H s->A3j x v->A3j y u->r x y H Q->
  subscripted slice false v u=operate [v,u] (getItem v u)->wpAny (model X.prog X.w) X.A (subscriptTail value slice v u) (EP X pins Z Q) X.xe s
def MtR (X:Cx) (id:String) (r:V->List V->Hp->VK->Prop):Prop :=
 ∀(pins:List (Addr×Obj)) (s:Shared) (Z:St) (H:Hp) (x:V) (xs:List V) (v:Value) (us:List Value) (Q:VK),Inv X pins Z H s->A3j x v->A3z xs us->r x xs H Q->
  wpAny (model X.prog X.w) X.A (call (.builtin id) (v::us)) (EP X pins Z Q) X.xe s
section
variable {X:Cx} {a b:Expr} {ta tb:TE} {pos:Pos}
theorem A0z {r:R2} (hr:IxR X r) (ha:PE X a ta) (hb:PE X b tb) (hs:D1j b):PE X (.Subscript a b pos) (tOp r ta tb):=by
 intro pins s Z H Q I h;exact Subscript_ (D7w ha hb I h λv u s2 x y H2 I2 rx ry q=>hr a b pins s2 Z H2 x y v u Q I2 rx ry q (hs _ _))
def D9l (K:Frag):R2:=λx y H Q=>∃p xs i v,x= .ref p/\y= .int i/\SqL K H p xs/\atI xs i=some v/\Q v H
def rIxT (K:Frag):R2:=λx y H Q=>∃p xs i v,x= .ref p/\y= .int i/\SqT K H p xs/\atI xs i=some v/\Q v H
def rIxS:R2:=λx y H Q=>∃z i c,x= .str z/\y= .int i/\z.length<=sizeLine/\atI z.cps.toList i=some c/\Q (.str ⟨#[c]⟩) H
theorem A1n:IxR X (D9l X.K):=by
 intro value slice pins s Z H x y v u Q I rx ry h hs;refine e0d h ?_;clear h;rintro p xs i z rfl rfl hq he q;cases rx;obtain ⟨t,rfl⟩:=ry;obtain ⟨its,r,pl,hz⟩:=I.list hq;obtain ⟨j,h1,h2,h3,h4,h5⟩:=B9z he;obtain ⟨w,ew,rw'⟩:=r.get h2;have hl:=r.length;have hn:=B9f;have fin:EP X pins Z Q w s:=(i0d z H I rw' q);by_cases h0:0<=i
 ·have hj:i.toNat=j:=by
   rw [seqIndex_of h0 h5] at h1;exact Z1a h1
  exact item_listR pl.isList h0 (by lia) (by rw [hj];simpa using ew) fin hs
 ·have hj:(i+(its.toArray.size:Int)).toNat=j:=by
   rw [seqIndex_neg (by lia) h4] at h1;rw [Z0g,<-hl];exact Z1a h1
  exact subscriptTail_builtinR (x:=w) pl.isList.typeIs slot_list_getitem.lookup
   (wpAny_getItem_list_neg (Q:=λr s'=>r=w/\EP X pins Z Q r s') pl.isList (by lia) (by rw [Z0g] <;> lia) (by lia) (by rw [hj];simpa using ew) ⟨rfl,fin⟩) hs
theorem A0w:IxR X (rIxT X.K):=by
 intro value slice pins s Z H x y v u Q I rx ry h hs;refine e0d h ?_;clear h;rintro p xs i z rfl rfl hq he q;cases rx;obtain ⟨t,rfl⟩:=ry;obtain ⟨its,r,pl,hz⟩:=I.tuple hq;obtain ⟨j,h1,h2,h3,h4,h5⟩:=B9z he;obtain ⟨w,ew,rw'⟩:=r.get h2;have hl:=r.length;have hn:=B9f;have fin:EP X pins Z Q w s:=(i0d z H I rw' q)
 exact subscriptTail_builtinR (x:=w) pl.typeIs slot_tuple_getitem.lookup
  (getItem_tuple (j:=j) (Q:=λr s'=>r=w/\EP X pins Z Q r s') pl (by lia) (by lia) (by rw [Z0g,<-hl];exact h1) (by simpa using ew) ⟨rfl,fin⟩) hs
theorem C6k:IxR X rIxS:=by
 intro value slice pins s Z H x y v u Q I rx ry h hs;refine e09 h ?_;clear h;rintro z i c rfl rfl hz ⟨he,q⟩;obtain ⟨t,rfl⟩:=rx;obtain ⟨t',rfl⟩:=ry;obtain ⟨j,h1,h2,h3,h4,h5⟩:=B9z he;have hl:z.cps.toList.length=z.length:=by simp [Str.length]
 rw [hl] at h1 h4 h5;have hn:=B9f
 exact tail_any (typeIs_str s z t) slot_str_getitem.lookup (getItem_str (c:=c) (by
  have e1:decide (i< -(2^63:Int))=false:=Z1j (by lia);have e2:decide (i≥2^63)=false:=Z1j (by lia)
  rw [e1,e2,Bool.or_false]) (by rw [h1];simpa using h2) (i0d (.str ⟨#[c]⟩) H (I.tok _) ⟨_,rfl⟩ q)) hs
theorem B7m (lo hi:Option Int) (n:Nat):(sliceBounds lo hi none n).1=((HT.sIx n 0 lo:Nat):Int)/\(sliceBounds lo hi none n).2.1=((HT.sIx n n hi:Nat):Int)/\(sliceBounds lo hi none n).2.2=1:=by
 refine i00 ?_ ?_ rfl
 ·cases lo with
  | none=>simp [sliceBounds,HT.sIx]
  | some i =>
   simp only [sliceBounds,HT.sIx,Option.getD_none,show (1:Int)>0 by decide,if_true];by_cases h:i<0
   ·simp only [h,if_true] <;> lia
   ·simp only [h,if_false] <;> lia
 ·cases hi with
  | none=>simp [sliceBounds,HT.sIx]
  | some i =>
   simp only [sliceBounds,HT.sIx,Option.getD_none,show (1:Int)>0 by decide,if_true];by_cases h:i<0
   ·simp only [h,if_true] <;> lia
   ·simp only [h,if_false] <;> lia
theorem B5e (its:List Value) (lo hi:Option Int):slicePick its.toArray lo hi none=((its.drop (HT.sIx its.length 0 lo)).take (HT.sIx its.length its.length hi-HT.sIx its.length 0 lo)).toArray:=by
 obtain ⟨h1,h2,h3⟩:=B7m lo hi its.toArray.size;unfold slicePick;rw [h1,h2,h3];simp only [sliceRange_one,pick_run,Z0g] <;> rfl
def rSlL (K:Frag):V->Option Int->Option Int->Hp->VK->Prop:=λx lo hi H Q=>∃a xs,x= .ref a/\SqL K H a xs/\∀p,H p=none->Q (.ref p) (upd H p (.lst (C9x xs lo hi)))
theorem C5f:SlR X (rSlL X.K):=by
 intro pins s Z H x v vl vu lo hi sl Q I rx hs pl pu h;obtain ⟨a,xs,rfl,hx,q⟩:=h;cases rx;obtain ⟨its,r,ht,hz⟩:=I.list hx;have hlen:=r.length;refine i0d "list" _ slot_list_getitem.lookup ht.isList.typeIs ?_;refine wpAny_getItem_list_slice ht.isList hs pl pu .none (by simp) ?_ (by rw [Z0g] <;> lia);rw [B5e,<-hlen];refine i0d (.ref s.heap.objs.size) _ (I.laid (t':=s.toks) (o:= .lst (C9x xs lo hi)) (λb ob q=>Z01 _ q) (Z09 _) ?_) rfl (q _ (I.hok.fresh (Z09 _)));exact i09 (Z1n (B9r xs lo hi) hz) _ 0 ((r.drop (HT.sIx xs.length 0 lo)).take (HT.sIx xs.length xs.length hi-HT.sIx xs.length 0 lo)) (Z0c _ rfl)
def B6j:V->Bool
 | .non=>true
 | .bl _=>true
 | .int _=>true
 | .str _=>true
 | _=>false
noncomputable def eqV:V->V->Bool
 | .non,.non=>true
 | .bl a,.bl b=>a == b
 | .bl a,.int b=>(if a then 1 else 0) == b
 | .int a,.bl b=>a == (if b then 1 else 0)
 | .int a,.int b=>a == b
 | .str a,.str b=>a == b
 | _,_=>false
theorem D7b {A:Around} {x:V} {v:Value} (ry:A3j y u) (rx:A3j x v) (fy:B6j y=true) (fx:B6j x=true):SeqAt.EqAt A s u v (eqV y x):=by
 cases y with
 | non =>
  cases ry
  cases x with
  | non=>cases rx;exact SeqAt.EqAt.same _
  | bl b=>cases rx;exact SeqAt.EqAt.none_bool b
  | int b=>obtain ⟨t,rfl⟩:=rx;exact SeqAt.EqAt.none_int b t
  | str b=>obtain ⟨t,rfl⟩:=rx;exact SeqAt.EqAt.none_str b t
  | _=>exact absurd (show false=true from fx) Z0v
 | bl a =>
  cases ry
  cases x with
  | non=>cases rx;exact SeqAt.EqAt.bool_none a
  | bl b=>cases rx;exact SeqAt.EqAt.bool_bool a b
  | int b=>obtain ⟨t,rfl⟩:=rx;exact SeqAt.EqAt.bool_int a b t
  | str b=>obtain ⟨t,rfl⟩:=rx;exact SeqAt.EqAt.bool_str a b t
  | _=>exact absurd (show false=true from fx) Z0v
 | int a =>
  obtain ⟨t',rfl⟩:=ry
  cases x with
  | non=>cases rx;exact SeqAt.EqAt.int_none a t'
  | bl b=>cases rx;exact SeqAt.EqAt.int_bool a t' b
  | int b=>obtain ⟨t,rfl⟩:=rx;exact SeqAt.EqAt.int_int a t' b t
  | str b=>obtain ⟨t,rfl⟩:=rx;exact SeqAt.EqAt.int_str a t' b t
  | _=>exact absurd (show false=true from fx) Z0v
 | str a =>
  obtain ⟨t',rfl⟩:=ry
  cases x with
  | non=>cases rx;exact SeqAt.EqAt.str_none a t'
  | bl b=>cases rx;exact SeqAt.EqAt.str_bool a t' b
  | int b=>obtain ⟨t,rfl⟩:=rx;exact SeqAt.EqAt.str_int a t' b t
  | str b=>obtain ⟨t,rfl⟩:=rx;exact SeqAt.EqAt.str_str a t' b t
  | _=>exact absurd (show false=true from fx) Z0v
 | _=>exact absurd (show false=true from fy) Z0v
def eqU (x:V) (u:Value):Bool:=match u with
 | .none=>eqV .non x
 | .bool b=>eqV (.bl b) x
 | .int i _=>eqV (.int i) x
 | .str z _=>eqV (.str z) x
 | _=>false
theorem D1d {x:V} (r:A3j y u) (f:B6j y=true):eqU x u=eqV y x:=by
 cases y with
 | non=>cases r;rfl
 | bl b=>cases r;rfl
 | int i=>obtain ⟨t,rfl⟩:=r;rfl
 | str z=>obtain ⟨t,rfl⟩:=r;rfl
 | _=>exact absurd (show false=true from f) Z0v
theorem B2k {x:V}:∀{xs:List V} {us:List Value},A3z xs us->xs.all B6j=true->us.any (eqU x)=xs.any λy=>eqV y x
 | _,_,.nil,_=>rfl
 | y::xs,u::us,.cons r t,f=>by
  rw [List.all_cons,Z1x] at f;rw [List.any_cons,List.any_cons,D1d r f.1,B2k t f.2]
theorem B0h {A:Around} {s:Shared} {x:V} {v:Value} (rx:A3j x v) (fx:B6j x=true):∀{xs:List V} {us:List Value},A3z xs us->xs.all B6j=true->∀u∈us,SeqAt.EqAt A s u v (eqU x u)
 | _,_,.nil,_=>λu hu=>by cases hu
 | y::xs,u::us,.cons r t,f=>λu' hu=>by
  rw [List.all_cons,Z1x] at f;rcases Z0e.mp hu with rfl | hu
  ·rw [D1d r f.1];exact D7b r rx f.1 fx
  ·exact B0h rx fx t f.2 u' hu
def inV (x:V) (xs:List V):Bool:=xs.any λy=>eqV y x
def rIn (K:Frag) (neg:Bool):R2:=λx y H Q=>∃p xs,y= .ref p/\(SqL K H p xs\/SqT K H p xs)/\B6j x=true/\xs.all B6j=true/\Q (.bl (if neg then ! inV x xs else inV x xs)) H
theorem B8v:OpR X (compareOp .In) (rIn X.K false):=by
 intro pins s Z H x y v u Q I rx ry h;refine e06 h ?_;clear h;rintro p xs rfl hq fx ⟨fs,q⟩;cases ry;rcases hq with hq | hq
 ·obtain ⟨its,r,pl,hz⟩:=I.list hq;refine SeqAt.in_listAt (eqU x) pl.isList (λw hw=>B0h rx fx r fs w (by simpa using hw)) (i0d (.bl _) H I rfl ?_);rw [show its.toArray.any (eqU x)=its.any (eqU x) by simp,B2k r fs];exact q
 ·obtain ⟨its,r,pl,hz⟩:=I.tuple hq;refine SeqAt.in_tupleAt (eqU x) pl (λw hw=>B0h rx fx r fs w (by simpa using hw)) (i0d (.bl _) H I rfl ?_);rw [show its.toArray.any (eqU x)=its.any (eqU x) by simp,B2k r fs];exact q
theorem A4x:OpR X (compareOp .NotIn) (rIn X.K true):=by
 intro pins s Z H x y v u Q I rx ry h;refine e06 h ?_;clear h;rintro p xs rfl hq fx ⟨fs,q⟩;cases ry;rcases hq with hq | hq
 ·obtain ⟨its,r,pl,hz⟩:=I.list hq;refine SeqAt.notIn_listAt (eqU x) pl.isList (λw hw=>B0h rx fx r fs w (by simpa using hw)) (i0d (.bl _) H I rfl ?_);rw [show its.toArray.any (eqU x)=its.any (eqU x) by simp,B2k r fs];exact q
 ·obtain ⟨its,r,pl,hz⟩:=I.tuple hq;refine SeqAt.notIn_tupleAt (eqU x) pl (λw hw=>B0h rx fx r fs w (by simpa using hw)) (i0d (.bl _) H I rfl ?_);rw [show its.toArray.any (eqU x)=its.any (eqU x) by simp,B2k r fs];exact q
theorem A0x:A9l X (.builtin "len") (λxs H Q=>∃p ys,xs=[.ref p]/\(SqL X.K H p ys\/SqT X.K H p ys)/\Q (.int ys.length) H):=by
 intro pins s Z H xs us Q I r h;obtain ⟨p,ys,rfl,hq,q⟩:=h;obtain ⟨u,rfl,rx⟩:=B1u r;cases rx;have hn:=B9f;rcases hq with hq | hq
 ·obtain ⟨its,r',pl,hz⟩:=I.list hq;have hlen:=r'.length;exact Calls.call_len_list pl.isList (by simp only [Z0g] <;> lia) (i0d (.int ys.length) H (I.tok _) ⟨s.toks+1,by rw [Z0g,hlen]⟩ q)
 ·obtain ⟨its,r',pl,hz⟩:=I.tuple hq;have hlen:=r'.length;exact len_tuple pl (by simp only [Z0g] <;> lia) (i0d (.int ys.length) H (I.tok _) ⟨s.toks+1,by rw [Z0g,hlen]⟩ q)
theorem B8c:A9l X (.builtin "len") (λxs H Q=>∃z,xs=[.str z]/\z.length<=sizeLine/\Q (.int z.length) H):=by
 intro pins s Z H xs us Q I r h;obtain ⟨z,rfl,hz,q⟩:=h;obtain ⟨u,rfl,t,rfl⟩:=B1u r;have hn:=B9f;exact len_str (by lia) (i0d (.int z.length) H (I.tok _) ⟨_,rfl⟩ q)
theorem A4t:A9l X (.type "list") (λxs H Q=>∃p ys,xs=[.ref p]/\(SqL X.K H p ys\/SqT X.K H p ys)/\∀l,H l=none->Q (.ref l) (upd H l (.lst ys))):=by
 intro pins s Z H xs us Q I r h;obtain ⟨p,ys,rfl,hq,q⟩:=h;obtain ⟨u,rfl,rx⟩:=B1u r;cases rx
 have fin:∀(its:List Value),A3z ys its->ys.length<=sizeLine->∀(h':Heap) (c':Nat),(∀b o',s.heap.get? b=some o'->h'.get? b=some o')->
   h'.get? s.heap.objs.size=some { cls:= .type "list",dict:=none,data:= .seq its.toArray c',slots:= #[] }->EP X pins Z Q (.ref s.heap.objs.size) { s with heap:=h' }:=λits r' hz h' c' kp e =>
  (i0d (.ref s.heap.objs.size) _ (I.laid (t':=s.toks) kp (Z09 _) (show A2v X.prog X.w _ h' _ (.lst ys) from (i09 hz its c' r' e))) rfl (q _ (I.hok.fresh (Z09 _))))
 rcases hq with hq | hq
 ·obtain ⟨its,r',pl,hz⟩:=I.list hq;have hlen:=r'.length;obtain ⟨o,ho,hc,n,hd⟩:=pl.isList;exact call_list_seq p (.inl rfl) ho hc hd (λh' c' kp e=>fin its r' hz h' c' kp e) (by simp only [Z0g] <;> lia)
 ·obtain ⟨its,r',pl,hz⟩:=I.tuple hq;have hlen:=r'.length;obtain ⟨o,ho,hc,n,hd⟩:=pl;exact call_list_seq p (.inr rfl) ho hc hd (λh' c' kp e=>fin its r' hz h' c' kp e) (by simp only [Z0g] <;> lia)
theorem A5f:A9l X (.type "tuple") (λxs H Q=>∃p ys,xs=[.ref p]/\((SqL X.K H p ys/\∀l,H l=none->Q (.ref l) (upd H l (.tup ys)))\/(SqT X.K H p ys/\Q (.ref p) H))):=by
 intro pins s Z H xs us Q I r h;obtain ⟨p,ys,rfl,h⟩:=h;obtain ⟨u,rfl,rx⟩:=B1u r;cases rx;rcases h with ⟨hq,q⟩ | ⟨hq,q⟩
 ·obtain ⟨its,r',pl,hz⟩:=I.list hq;have hlen:=r'.length;refine call_tuple_list pl.isList (λh' kp=> ?_) (by simp only [Z0g] <;> lia);have I1:Inv X pins Z H { s with heap:=h' }:=I.kept (t':=s.toks) kp
  have I2:Inv X pins Z (upd H h'.objs.size (.tup ys)) { s with heap:=h'.push { cls:= .type "tuple",data:= .seq its.toArray } } :=
   I1.laid (t':=s.toks) (λb o e=>Z01 _ e) (Z09 _) (show A2v X.prog X.w _ _ _ (.tup ys) from (i05 hz its r' (IsTup.new _ _)))
  exact i0d (.ref h'.objs.size) _ I2 rfl (q _ (I1.hok.fresh (Z09 _)))
 ·obtain ⟨its,r',pl,hz⟩:=I.tuple hq;exact call_tuple_same pl (i0d (.ref p) H I rfl q)
def tyV (K:Frag) (T:String) (x:V) (H:Hp):Prop:=match x with
 | .str _=>T="str"
 | .int _=>T="int"
 | .ref p=>(T="list"/\∃xs,SqL K H p xs)\/(T="tuple"/\∃o,K.lookup p=some o/\o.cls= .type "tuple"/\o.dict=none)\/
   (T="dict"/\((∃kvs,H p=some (.dK kvs))\/∃kvs,H p=some (.dT kvs)))\/(T="set"/\∃S n,H p=some (.set S n))
 | _=>False
theorem D1b {Z:St} {T:String} {x:V} {v:Value} (I:Inv X pins Z H s) (r:A3j x v) (ty:tyV X.K T x H) :
  s.TypeIs v T/\∀a,v= .ref a->∃ob,s.heap.get? a=some ob/\ob.dict=none:=by
 cases x with
 | str z =>
  obtain ⟨t,rfl⟩:=r;cases (show T="str" from ty);exact ⟨typeIs_str s z t,λ_ e=>nomatch e⟩
 | int i =>
  obtain ⟨t,rfl⟩:=r;cases (show T="int" from ty);exact ⟨typeIs_int s i t,λ_ e=>nomatch e⟩
 | ref p =>
  cases r
  rcases ty with ⟨rfl,xs,hq⟩ | ⟨rfl,o,hk,hc,hd⟩ | ⟨rfl,hk⟩ | ⟨rfl,S,n,hk⟩
  ·obtain ⟨its,_,pl,_⟩:=I.list hq;refine ⟨pl.isList.typeIs,λa e=> ?_⟩;cases e;obtain ⟨o,n,e,c,hd,_⟩:=pl;exact i02 o e hd
  ·refine ⟨(i02 o (I.kIn p o hk) hc),λa e=> ?_⟩;cases e;exact i02 o (I.kIn _ o hk) hd
  ·have z:∃o,s.heap.get? p=some o/\o.ExactDict:=by
    rcases hk with ⟨kvs,hk⟩ | ⟨kvs,hk⟩
    ·refine e0c (I.hok p _ hk) ?_;rintro _ _ _ _ o _ _ e ⟨ex,_⟩;exact i02 o e ex
    ·refine e0c (I.hok p _ hk) ?_;rintro _ _ _ _ o _ _ e ⟨ex,_⟩;exact i02 o e ex
   obtain ⟨o,e,ex⟩:=z;refine ⟨(i02 o e ex.1),λa e2=> ?_⟩;cases e2;exact i02 o e ex.2.1
  ·refine e01 (I.hok p _ hk) ?_;rintro o _ _ ⟨_,e,ex,_⟩;refine ⟨(i02 o e ex.1),λa e2=> ?_⟩;cases e2;exact i02 o e ex.2.1
 | _=>exact False.elim ty
def tBM0 (K:Frag) (T:String) (r:V->List V->Hp->VK->Prop) (to:TE):TE:=λZ H Q=>to Z H λx H1=>tyV K T x H1/\r x [] H1 Q
def tBM (K:Frag) (T:String) (r:V->List V->Hp->VK->Prop) (to:TE) (t:TA):TE:=λZ H Q=>to Z H λx H1=>tyV K T x H1/\t Z H1 λxs H2=>r x xs H2 Q
variable {o e:Expr} {es:List Expr} {to:TE} {t:TA} {name:Str} {apos cpos:Pos} {T id:String} {r:V->List V->Hp->VK->Prop}
theorem D6t (pa:PlainAttrs T) (slot:Slot T name id) (hty:typeOf (.builtin id)=pure (.type "method_descriptor")) (hm:MtR X id r) (ho:PE X o to)
  (hbase:attributeBase o name X.env (eval o X.env)=eval o X.env:=by rfl) (hline:(apos.endLine == cpos.line)=true:=by rfl):PE X (.Call (.Attribute o name apos) [] [] cpos) (tBM0 X.K T r to):=by
 intro pins s Z H Q I h;refine wpAny_Call_method0_late hbase hline (thn (ho pins s Z H _ I h) ?_);rintro v s1 ⟨x,H1,I1,r1,ty,q1⟩;obtain ⟨h1,h2⟩:=D1b I1 r1 ty;exact i0r T id pa slot hty h1 h2 (Calls.callWith_builtin rfl (PySem.evalArgs_none (hm pins s1 Z H1 x [] v [] Q I1 r1 .nil q1)))
theorem A5g (pa:PlainAttrs T) (slot:Slot T name id) (hty:typeOf (.builtin id)=pure (.type "method_descriptor")) (hm:MtR X id r) (ho:PE X o to) (ha:PA X (e::es) t)
  (hbase:attributeBase o name X.env (eval o X.env)=eval o X.env:=by rfl)
  (hfew:((backTo cpos (starEach (e::es) X.env)).all (λx=> ! x.1)&&(backToKw cpos (keywordEach [] X.env)).all (λx=>x.1.isSome)
   && decide ((e::es).length+([]:List Keyword).length+(if ([]:List Keyword).isEmpty then 0 else 1)<30))=true:=by rfl)
  (hline:(apos.endLine == cpos.line)=true:=by rfl) (hs:starEach (e::es) X.env=(false,eval e X.env)::starEach es X.env:=by rfl) (hplain:(backTo cpos (starEach es X.env)).any (·.1)=false:=by rfl) :
  PE X (.Call (.Attribute o name apos) (e::es) [] cpos) (tBM X.K T r to t):=by
 intro pins s Z H Q I h;refine wpAny_Call_method_late hbase hfew hline rfl (thn (ho pins s Z H _ I h) ?_);rintro v s1 ⟨x,H1,I1,r1,ty,q1⟩;obtain ⟨h1,h2⟩:=D1b I1 r1 ty;refine i0r T id pa slot hty h1 h2 ?_;have hA:=ha cpos pins s1 Z H1 _ I1 q1;rw [hs] at hA⊢;refine Calls.callWith_builtin (by show (false||(backTo cpos (starEach es X.env)).any (·.1))=false;rw [hplain] <;> rfl) (Calls.evalArgs_plain ?_);exact thn hA (by rintro us s2 ⟨vs,H2,I2,r2,q2⟩;exact hm pins s2 Z H2 x vs v us Q I2 r1 r2 q2)
end
def MtM (X:Cx) (id:String) (r:V->List V->Hp->VK->Prop):Prop :=
 ∀(pins:List (Addr×Obj)) (s:Shared) (Z:St) (H:Hp) (x:V) (xs:List V) (v:Value) (us:List Value) (Q:VK),Inv X pins Z H s->A3j x v->A3z xs us->r x xs H Q->
  wpAny (model X.prog X.w) X.A (call (.builtin id) (v::us)) (EP X pins Z Q) X.xe s
theorem A3z.one:∀{x:V} {us:List Value},A3z [x] us->∃u,us=[u]/\A3j x u
 | _,_,.cons r .nil=>(i02 _ rfl r)
section
variable {X:Cx} {pins:List (Addr×Obj)} {Z:St} {H:Hp} {s:Shared} {l b:Addr} {xs ys zs:List V}
theorem Inv.lset {its':List Value} {n:Nat} (I:Inv X pins Z H s) (hH:H l=some (.lst xs))
  (e:s.heap.get? l=some { cls:= .type "list",data:= .seq its.toArray n }) (hf:f its.toArray=its'.toArray) (hv:A3z ys its') (hz:ys.length<=sizeLine) :
  Inv X pins Z (upd H l (.lst ys)) { s with heap:=s.heap.update l (Obj.mapSeq f),toks:=t' }:=by
 have q:=PySem.IsL.update e f;rw [hf] at q;refine I.write (x:=l) (e:=l) (by rw [hH];exact trivial) (.inl rfl) (λb' u hb hu=>(Heap.get?_update_other s.heap (Obj.mapSeq f) (Ne.symm hb)).trans hu) ⟨_,q⟩ ?_;exact i09 hz its' _ hv q
theorem Inv.lnew (I:Inv X pins Z H s) (hv:A3z ys its) (hz:ys.length<=sizeLine) :
  Inv X pins Z (upd H s.heap.objs.size (.lst ys)) { s with heap:=s.heap.push { cls:= .type "list",data:= .seq its.toArray },toks:=t' } :=
 I.laid (λ_ _ q=>Z01 _ q) (Z09 _) (i09 hz its 0 hv (Z0c _ rfl))
theorem Inv.fresh (I:Inv X pins Z H s):H s.heap.objs.size=none:=I.hok.fresh (Z09 _)
theorem Inv.lstM (I:Inv X pins Z H s) (hH:H l=some (.lst xs)):xs.length<=sizeLine/\∃(its:List Value) (n:Nat),A3z xs its/\xs.length=its.length/\s.heap.get? l=some { cls:= .type "list",data:= .seq its.toArray n }:=by
 obtain ⟨z,its,n,r,e⟩:=I.hok l _ hH;exact i0h z its n r r.length e
theorem C7z {n:Nat} (h:n<=sizeLine):Builtin.List.listTooLong n=false:=by
 unfold Builtin.List.listTooLong;exact Z1j (by lia)
end
section
variable {X:Cx}
def D1v:V->List V->Hp->VK->Prop:=λx vs H Q=>∃l xs y,x= .ref l/\vs=[y]/\H l=some (.lst xs)/\xs.length<sizeLine/\Q .non (upd H l (.lst (xs++[y])))
theorem A2d:MtM X "list.append" D1v:=by
 intro pins s Z H x vs v us Q I rx rv h;refine e09 h ?_;clear h;rintro l xs y rfl rfl hH ⟨hz,q⟩;cases rx;obtain ⟨u,rfl,ru⟩:=rv.one;obtain ⟨z,its,n,r,hl,e⟩:=I.lstM hH;refine call_meets F.slot_list_append (i02 _ e rfl) F.entry_list_append (F.args_list_append_2 _ _) (PySem.list_append l its.toArray n u (by rw [Z0g];lia)) ⟨e,?_⟩;refine i0d .non _ (I.lset (its':=its++[u]) hH e (by simp) (r.append (.cons ru .nil)) ?_) rfl q;rw [Z06,Z0j]
 lia
def D2u:V->List V->Hp->VK->Prop:=λx vs H Q=>∃l b xs zs,x= .ref l/\vs=[.ref b]/\H l=some (.lst xs)/\H b=some (.lst zs)/\xs.length+zs.length<=sizeLine/\Q .non (upd H l (.lst (xs++zs)))
theorem B8f:MtM X "list.extend" D2u:=by
 intro pins s Z H x vs v us Q I rx rv h;refine e0d h ?_;clear h;rintro l b xs zs rfl rfl hH hB ⟨hz,q⟩;cases rx;obtain ⟨u,rfl,ru⟩:=rv.one;cases ru;obtain ⟨z,its,n,r,hl,e⟩:=I.lstM hH;obtain ⟨z2,its2,n2,r2,hl2,e2⟩:=I.lstM hB;have hsz:its.toArray.size+its2.toArray.size<=sizeLine:=by rw [Z0g,Z0g];lia
 have hlong:¬(! its.toArray.isEmpty&&Builtin.List.listTooLong (its.toArray.size+its2.toArray.size))=true:=by
  rw [C7z hsz,Bool.and_false];exact Z0v
 refine call_meets F.slot_list_extend (i02 _ e rfl) F.entry_list_extend (F.args_list_extend_2 _ _)
  (AutoSeq1.list_extend_list_list_0 l its.toArray n b its2.toArray n2 hlong (by rw [Z0g];lia) (by lia)) (i00 e e2 ?_)
 refine i0d .non _ (I.lset (its':=its++its2) hH e (by simp) (r.append r2) ?_) rfl q;rw [Z06]
 lia
def rCat:R2:=λx y H Q=>∃l b xs zs,x= .ref l/\y= .ref b/\H l=some (.lst xs)/\H b=some (.lst zs)/\xs.length+zs.length<=sizeLine/\∀p,H p=none->Q (.ref p) (upd H p (.lst (xs++zs)))
theorem A4i:OpR X (binaryOp .Add) rCat:=by
 intro pins s Z H x y v u Q I rx ry h;refine e0d h ?_;clear h;rintro l b xs zs rfl rfl hH hB ⟨hz,q⟩;cases rx;cases ry;obtain ⟨z,its,n,r,hl,e⟩:=I.lstM hH;obtain ⟨z2,its2,n2,r2,hl2,e2⟩:=I.lstM hB;refine PySem.P.add_list e e2 ?_ (by rw [Z0g,Z0g];lia);have ea:its.toArray++its2.toArray=(its++its2).toArray:=by simp
 rw [ea];exact i0d (.ref _) _ (I.lnew (t':=s.toks) (r.append r2) (by rw [Z06];lia)) rfl (q _ I.fresh)
end
section
variable {prog:Program} {w:World} {A:Around} {E:Value->Shared->Prop} {s:Shared}
set_option maxRecDepth 100000 in
end
section
variable {X:Cx}
end
section
variable {κ:Type} [DecidableEq κ]
def B4h (kvs:List (κ×V)) (k:κ):Option V:=(kvs.find? λkv=>decide (kv.1=k)).map (·.2)
def B1n (kvs:List (κ×V)) (k:κ) (v:V):List (κ×V) :=
 if (kvs.any λkv=>decide (kv.1=k))=true then kvs.map (λkv=>if kv.1=k then (kv.1,v) else kv) else kvs++[(k,v)]
theorem B2d {p:κ×V} {r:List (κ×V)} {k:κ} (e:p.1=k):B4h (p::r) k=some p.2:=by simp [B4h,Z2h,e]
theorem B2i {p:κ×V} {r:List (κ×V)} {k:κ} (e:¬p.1=k):B4h (p::r) k=B4h r k:=by simp [B4h,Z2h,e]
theorem C1l (k:κ):∀kvs:List (κ×V),(kvs.any λkv=>decide (kv.1=k))=(B4h kvs k).isSome
 | []=>rfl
 | p::r=>by
  rw [List.any_cons];by_cases e:p.1=k
  ·simp only [B2d e,Z20 e,Bool.true_or,Option.isSome_some]
  ·rw [B2i e,Z1j e,Bool.false_or];exact C1l k r
theorem A9g (kvs:List (κ×V)) (k:κ) (v:V):(B1n kvs k v).length<=kvs.length+1:=by
 unfold B1n;split
 ·rw [Z08];lia
 ·rw [Z06,Z0y,Z2g];lia
theorem B6t.isSome_eq {u:Option Value} (r:B6t o u):o.isSome=u.isSome:=by
 cases o with
 | none=>cases u with
  | none=>rfl
  | some _=>exact (show False from r).elim
 | some _=>cases u with
  | none=>exact (show False from r).elim
  | some _=>rfl
theorem B6t.getD {u:Option Value} {d:V} {d':Value} (r:B6t o u) (rd:A3j d d'):A3j (o.getD d) (u.getD d'):=by
 cases o with
 | none=>cases u with
  | none=>exact rd
  | some _=>exact (show False from r).elim
 | some _=>cases u with
  | none=>exact (show False from r).elim
  | some _=>exact r
theorem KV.val {kvs:List (κ×V)} {vs:List (κ×Value)} (r:KV kvs vs) (k:κ):B6t (B4h kvs k) (valueAt vs k):=by
 unfold KV at r
 induction r with
 | nil=>exact True.intro
 | @cons p q ps qs h t ih =>
  obtain ⟨h1,h2⟩:=h;by_cases e:p.1=k
  ·have e':q.1=k:=h1.symm.trans e;have b:valueAt (q::qs) k=some q.2:=by simp [valueAt,Z2h,e']
   rw [B2d e,b];exact h2
  ·have e':¬q.1=k:=λz=>e (h1.trans z);have b:valueAt (q::qs) k=valueAt qs k:=by simp [valueAt,Z2h,e']
   rw [B2i e,b];exact ih
theorem KV.any {kvs:List (κ×V)} {vs:List (κ×Value)} (r:KV kvs vs) (k:κ):(kvs.any λkv=>decide (kv.1=k))=vs.any λkv=>decide (kv.1=k):=by
 unfold KV at r
 induction r with
 | nil=>rfl
 | cons h t ih=>rw [List.any_cons,List.any_cons,ih,h.1]
theorem KV.repl {kvs:List (κ×V)} {vs:List (κ×Value)} (r:KV kvs vs) (k:κ) (ry:A3j y u) :
  KV (kvs.map λkv=>if kv.1=k then (kv.1,y) else kv) (vs.map λkv=>if kv.1=k then (kv.1,u) else kv):=by
 unfold KV at r⊢
 induction r with
 | nil=>exact .nil
 | @cons p q ps qs h t ih =>
  rw [Z0p,Z0p];refine .cons ?_ ih;obtain ⟨h1,h2⟩:=h;by_cases e:p.1=k
  ·rw [Z12 e,Z12 (h1.symm.trans e)];exact ⟨h1,ry⟩
  ·rw [Z0t e,Z0t (λz=>e (h1.trans z))];exact ⟨h1,h2⟩
theorem KV.put {kvs:List (κ×V)} {vs:List (κ×Value)} (r:KV kvs vs) (k:κ) (ry:A3j y u):KV (B1n kvs k y) (stored vs k u):=by
 unfold B1n stored;rw [r.any k];by_cases e:(vs.any λkv=>decide (kv.1=k))=true
 ·rw [Z12 e,Z12 e];exact r.repl k ry
 ·rw [Z0t e,Z0t e];exact Paired.snoc r ⟨rfl,ry⟩
theorem KV.length {kvs:List (κ×V)} {vs:List (κ×Value)} (r:KV kvs vs):kvs.length=vs.length:=Paired.length r
end
theorem C7e {k:Key} (r:A3j (kV k) u):(A2l P w).is k u=true:=by
 cases k with
 | inl i=>obtain ⟨t,e⟩:=(show∃t,u=Value.int i t from r);subst e;exact C0i P w i t
 | inr x=>obtain ⟨t,e⟩:=(show∃t,u=Value.str x t from r);subst e;exact C0g P w x t
theorem B7c {P:Program} {w:World}:∀{ks:List Key} {us:List Value},A3z (ks.map kV) us->ItemsAre (A2l P w) ks us
 | [],_,r=>by rw [List.map_nil] at r;cases r;exact .nil
 | k::ks,_,r=>by
  rw [Z0p] at r
  cases r with
  | cons h t=>exact .cons (C7e h) (B7c t)
abbrev KT (H:Hp):List (List Key×V)->List (List Key×Addr×Value)->Prop:=Paired λp q=>p.1=q.1/\H q.2.1=some (.tup (p.1.map kV))/\A3j p.2 q.2.2
theorem KT.val (r:KT H kvs xs) (k:List Key):B6t (B4h kvs k) ((atKey xs k).map (·.2)):=by
 induction r with
 | nil=>exact True.intro
 | @cons p q ps qs h t ih =>
  obtain ⟨h1,_,h2⟩:=h;by_cases e:p.1=k
  ·have e':q.1=k:=h1.symm.trans e;have b:atKey (q::qs) k=some q.2:=by simp [atKey,Z2h,e']
   rw [B2d e,b];exact h2
  ·have e':¬q.1=k:=λz=>e (h1.trans z);have b:atKey (q::qs) k=atKey qs k:=by simp [atKey,Z2h,e']
   rw [B2i e,b];exact ih
theorem KT.repl (r:KT H kvs xs) (k:List Key) (ry:A3j y u) :
  KT H (kvs.map λkv=>if kv.1=k then (kv.1,y) else kv) (xs.map (putAt k u)):=by
 induction r with
 | nil=>exact .nil
 | @cons p q ps qs h t ih =>
  rw [Z0p,Z0p];refine .cons ?_ ih;obtain ⟨h1,h2,h3⟩:=h;unfold putAt;by_cases e:p.1=k
  ·rw [Z12 e,Z12 (h1.symm.trans e)];exact i00 h1 h2 ry
  ·rw [Z0t e,Z0t (λz=>e (h1.trans z))];exact i00 h1 h2 h3
theorem KT.put (r:KT H kvs xs) (k:List Key) {b:Addr} (hb:H b=some (.tup (k.map kV))) (ry:A3j y u) :
  KT H (B1n kvs k y) (storedH xs k b u):=by
 have e:(kvs.any λkv=>decide (kv.1=k))=(atKey xs k).isSome:=by
  rw [C1l,(r.val k).isSome_eq,Option.isSome_map]
 unfold B1n storedH;rw [e];by_cases q:(atKey xs k).isSome=true
 ·rw [Z12 q,Z12 q];exact r.repl k ry
 ·rw [Z0t q,Z0t q];exact Paired.snoc r (i00 rfl hb ry)
theorem KT.keeps {H':Hp} (r:KT H kvs xs) (ht:∀b ys,H b=some (.tup ys)->H' b=some (.tup ys)):KT H' kvs xs :=
 Paired.mapP r λ_ _ z=>(i00 z.1 (ht _ _ z.2.1) z.2.2)
section
variable {P:Program} {w:World} {H:Hp} {h:Heap} {a:Addr}
theorem D6i {u:HO} (ok:HOk P w H h) (e:Rd H a u):A2v P w H h a u:=e.ok ok
theorem C0c {kvs:List (Key×V)} (ok:HOk P w H h) (e:Rd H a (.dK kvs)):kvs.length<=sizeLine/\(a == sysModules)=false/\∃vs,KV kvs vs/\h.DictOf (A2l P w) a vs :=
 show A2v P w H h a (.dK kvs) from D6i ok e
theorem C4d {kvs:List (Key×V)} (ok:HOk P w H h) (e:H a=some (.dK kvs)):kvs.length<=sizeLine/\(a == sysModules)=false/\∃vs,KV kvs vs/\h.DictOf (A2l P w) a vs:=C0c ok (.inl e)
theorem C2g {ks:List Key} (ok:HOk P w H h) (e:H a=some (.tup (ks.map kV))):(tupleKind (A2l P w)).is h ks a:=by
 refine e0a (show A2v P w H h a (.tup (ks.map kV)) from ok a _ e) λ_ its r o h1 h2 n h3=>?_;exact i0p o its.toArray n h1 h2 h3 (by simpa using B7c r)
theorem C4h (ok:HOk P w H h) (e:Rd H a (.dT kvs)):kvs.length<=sizeLine/\(a == sysModules)=false/\
  ∃xs,KT H kvs xs/\h.DictOfH (tupleKind (A2l P w)) a xs:=by
 refine e0c (show A2v P w H h a (.dT kvs) from D6i ok e) ?_;rintro z y xs r o es ep h1 ⟨h2,h3,h4,h5⟩;refine i00 z y (i0v xs r o es ep h1 h2 h3 (i00 h4 (λx hx=> ?_) h5))
 have all:∀{l:List (List Key×V)} {m:List (List Key×Addr×Value)},KT H l m->∀x∈m,(tupleKind (A2l P w)).is h x.1 x.2.1:=by
  intro l m q
  induction q with
  | nil=>intro x hx;exact nomatch hx
  | @cons p q ps qs hq t ih =>
   intro x hx;rcases Z0e.mp hx with e | hx
   ·subst e;exact C2g ok (by rw [<-hq.1];exact hq.2.1)
   ·exact ih x hx
 exact all r x hx
theorem D8a (ok:HOk P w H h) (e:H a=some (.dT kvs)):kvs.length<=sizeLine/\(a == sysModules)=false/\
  ∃xs,KT H kvs xs/\h.DictOfH (tupleKind (A2l P w)) a xs:=C4h ok (.inl e)
end
def B8e (H:Hp) (a:Addr) (y:V) (r:Option V):Prop :=
 (∃kvs k,Rd H a (.dK kvs)/\y=kV k/\r=B4h kvs k)\/∃kvs k b,Rd H a (.dT kvs)/\y= .ref b/\H b=some (.tup (k.map kV))/\r=B4h kvs k
def C7t (H:Hp) (a:Addr) (y v:V) (H':Hp):Prop :=
 (∃kvs k,H a=some (.dK kvs)/\y=kV k/\kvs.length<sizeLine/\H'=upd H a (.dK (B1n kvs k v)))\/
 ∃kvs k b,H a=some (.dT kvs)/\y= .ref b/\H b=some (.tup (k.map kV))/\kvs.length<sizeLine/\H'=upd H a (.dT (B1n kvs k v))
theorem B8e.k {kvs:List (Key×V)} {k:Key} (e:H a=some (.dK kvs)):B8e H a (kV k) (B4h kvs k):= .inl (i0d kvs k (.inl e) rfl rfl)
theorem C7t.k {kvs:List (Key×V)} {k:Key} {v:V} (e:H a=some (.dK kvs)) (hl:kvs.length<sizeLine):C7t H a (kV k) v (upd H a (.dK (B1n kvs k v))):= .inl (i0k kvs k e rfl hl rfl)
section
variable {X:Cx} {pins:List (Addr×Obj)} {Z:St} {H:Hp} {s:Shared} {a:Addr} {y v:V} {u r:Value} {o:Option V} {A:Around} {E:Value->Shared->Prop}
theorem Inv.big (I:Inv X pins Z H s):sysModules<s.heap.objs.size:=by
 have h:mainGlobals<s.heap.objs.size:=(I.mod.glob.keeps I.bk).lt;exact Nat.lt_trans (by decide) h
theorem C7j (hu:A.units+1<cLine) (I:Inv X pins Z H s) (g:B8e H a y (some v)) (ry:A3j y u) (h:∀w' s',Inv X pins Z H s'->A3j v w'->Q w' s') :
  wpAny (model X.prog X.w) A (getItem (.ref a) u) Q E s:=by
 rcases g with ⟨kvs,k,e,ey,l⟩ | ⟨kvs,k,b,e,ey,eb,l⟩
 ·subst ey;obtain ⟨z,hd,vs,rel,dd⟩:=C0c I.hok e;obtain ⟨w',hw,rw'⟩:=B6t.some_of (v:=v) (o:=valueAt vs k) (by rw [l];exact rel.val k);exact wpAny_getItem_of (C7e ry) dd.mapOf hw (h w' _ (I.tok _) rw')
 ·subst ey;cases (show u=Value.ref b from ry);obtain ⟨z,hd,xs,rel,dd⟩:=C4h I.hok e;obtain ⟨w',hw,rw'⟩:=B6t.some_of (v:=v) (o:=(atKey xs k).map (·.2)) (by rw [l];exact rel.val k);obtain ⟨p,hp,hp2⟩:=Z0i.mp hw;refine wpAny_getItem_heap (tupleKind_room_in1 hu) (C2g I.hok eb) dd hp ?_;rw [hp2];exact h w' _ (I.tok _) rw'
theorem C5g {h':Heap} {ob:HO} (I:Inv X pins Z H s) (mu:Mut (H a)) (hs:Heap.SameBut a s.heap h') (he:∃q,h'.get? a=some q) (new:A2v X.prog X.w (upd H a ob) h' a ob) :
  Inv X pins Z (upd H a ob) { s with heap:=h',toks:=t' } :=
 I.write (x:=a) (e:=a) mu (.inl rfl) (λb q hb z=>(hs.2 b hb).trans z) he new
theorem D5s {H':Hp} {h':Heap} {kvs:List (Key×V)} {vs:List (Key×Value)} (z:kvs.length<=sizeLine) (hd:(a == sysModules)=false) (rel:KV kvs vs) (dd:h'.DictOf (A2l P w) a vs) :
  A2v P w H' h' a (.dK kvs):=⟨z,(i05 hd vs rel dd)⟩
theorem C4r {H':Hp} {Q:Unit->Shared->Prop} (hu:A.units+1<cLine) (I:Inv X pins Z H s) (g:C7t H a y v H') (ry:A3j y u) (rv:A3j v r) (h:∀s',Inv X pins Z H' s'->Q () s') :
  wpAny (model X.prog X.w) A (setItem (.ref a) u r) Q E s:=by
 rcases g with ⟨kvs,k,e,ey,l,eH⟩ | ⟨kvs,k,b,e,ey,eb,l,eH⟩
 ·subst ey eH;obtain ⟨z,hd,vs,rel,dd⟩:=C4d I.hok e;have hz:vs.length<=sizeLine:=by rw [<-rel.length];exact z
  have hl:(B1n kvs k v).length<=sizeLine:=by have:=A9g kvs k v;lia
  refine wpAny_setItem_pairs (hsz:=hz) (C7e ry) dd λh' dd' hs=>h _ ?_;have he:∃q,h'.get? a=some q:=let ⟨q,_,_,hq,_⟩:=dd';⟨q,hq⟩;exact C5g I (by rw [e];exact True.intro) hs he (D5s hl hd (rel.put k rv) dd')
 ·subst ey eH;cases (show u=Value.ref b from ry);obtain ⟨z,hd,xs,rel,dd⟩:=D8a I.hok e;have hz:xs.length<=sizeLine:=by rw [<-Paired.length rel];exact z
  have hl:(B1n kvs k v).length<=sizeLine:=by have:=A9g kvs k v;lia
  refine wpAny_setItem_heap (hsz:=hz) (tupleKind_room_in1 hu) (C2g I.hok eb) dd λh' dd' hs=>h _ ?_;refine e09 dd' ?_;clear dd';rintro q es ep hq h2 h3 ⟨h4,_,h5⟩;refine C5g I (by rw [e];exact True.intro) hs ⟨q,hq⟩ (i00 hl hd (i0v _ ((rel.put k eb rv).keeps λc ys ec=> ?_) q es ep hq h2 h3 ⟨h4,h5⟩));rw [A0k (A3a ec e (λz=>nomatch z))];exact ec
end
section
variable {X:Cx} {pins:List (Addr×Obj)} {Z:St} {H:Hp} {s:Shared} {a:Addr} {kvs:List (Key×V)} {k:Key} {u:Value} {A:Around} {E:Value->Shared->Prop}
end
def D9m (i:Expr):Prop:=∀ov iv,subscripted i false ov iv=operate [ov,iv] (getItem ov iv)
theorem D1q {prog:Program} {A:Around} {E:Value->Shared->Prop} {env:Env} {value slice:Expr} {pos:Pos} {T id:String}
  (hl:typeLookup (.type T) "__getitem__"=pure (some (.builtin id))) (hs:D9m slice)
  (h:wpAny (model prog w) A (eval value env) (λo s₁=>wpAny (model prog w) A (eval slice env) (λi s₂=>s₂.TypeIs o T/\wpAny (model prog w) A (getItem o i) Q E s₂) E s₁) E s) :
  wpAny (model prog w) A (eval (.Subscript value slice pos) env) Q E s:=by
 refine Subscript_ (Z10 h (λo s₁ h₁=>Z10 h₁ (λi s₂ h₂=> ?_) λ_ _ x=>x) λ_ _ x=>x);obtain ⟨hT,h₂⟩:=h₂;unfold subscriptTail;refine Z00 ?_;rw [getitemInPython_of_ne hT.not_modules];refine Z00 (wpAny_specialOf hT hl ?_)
 have fin:wpAny (model prog w) A (subscripted slice false o i) (λr s₃=>wpAny (model prog w) A (letTemporaryGo value o r >>= λ_=>pure r) Q E s₃) E s₂:=by
  rw [hs o i];exact wpAny_operating (Z10 h₂ (λr s₃ h₃=>Z00 (wpAny_letTemporaryGo (Z04 h₃))) λ_ _ x=>x)
 first
  | exact Z04 (Z00 fin)
  | exact Z00 (Z04 (Z00 fin))
  | exact Z00 fin
theorem C0h {X:Cx} {Z:St} (I:Inv X pins Z H s) (g:B8e H a y o):s.TypeIs (.ref a) "dict":=by
 rcases g with ⟨kvs,k,e,_,_⟩ | ⟨kvs,k,b,e,_,_,_⟩
 ·obtain ⟨_,_,vs,_,dd⟩:=C0c I.hok e;exact dd.typeIs
 ·obtain ⟨_,_,xs,_,dd⟩:=C4h I.hok e;exact dd.typeIs
def D7s (td ty:TE):TE:=λZ H Q=>td Z H λx H1=>ty Z H1 λy H2=>∃a v,x= .ref a/\B8e H2 a y (some v)/\Q v H2
def D7y (td ty tv:TE):TS:=λD Z H=>tv Z H λv H1=>td Z H1 λx H2=>ty Z H2 λy H3=>∃a H4,x= .ref a/\C7t H3 a y v H4/\D.nx Z H4
section
variable {X:Cx} {o i e value:Expr} {pos pos' tpos:Pos} {td ty tv:TE}
theorem A5d (hu:X.A.units+1<cLine) (ho:PE X o td) (hi:PE X i ty) (hs:D9m i):PE X (.Subscript o i pos) (D7s td ty):=by
 intro pins s Z H Q I h;refine D1q PySem.F.slot_dict_getitem.lookup hs (thn (ho pins s Z H _ I h) ?_);rintro u s1 ⟨x,H1,I1,rx,q1⟩;refine thn (hi pins s1 Z H1 _ I1 q1) ?_;rintro iv s2 zz;refine e05 zz ?_;clear zz;rintro y H2 I2 ry ⟨a,v,ex,g,q2⟩;subst ex;obtain rfl:u=Value.ref a:=rx;exact ⟨C0h I2 g,C7j hu I2 g ry λw' s3 I3 rw'=>(i0d v H2 I3 rw' q2)⟩
theorem B1g (hu:X.A.units+1<cLine) (ho:PE X o td) (hi:PE X i ty) (hv:PE X value tv) (hs:swapsWith value (some (.Subscript o i pos')) pos.line X.env=pure false) :
  PS X (.Assign [.Subscript o i pos'] value pos) (D7y td ty tv):=by
 intro pins s Z H D I h;refine wpAny_Assign_Subscript (thn (hv pins s Z H _ I h) ?_) hs;rintro r s1 ⟨v,H1,I1,rv,q1⟩;refine thn (ho pins s1 Z H1 _ I1 q1) ?_;rintro u s2 ⟨x,H2,I2,rx,q2⟩;refine thn (hi pins s2 Z H2 _ I2 q2) ?_;rintro iv s3 zz;refine e05 zz ?_;clear zz;rintro y H3 I3 ry ⟨a,H4,ex,g,q3⟩;subst ex;obtain rfl:u=Value.ref a:=rx;exact C4r hu I3 g ry rv λs4 I4=>(i07 Z H4 I4 q3)
end
theorem C9e (h:Heap) (hb:sysModules<h.objs.size):A2v P w H (h.push { cls:= .type "dict",data:= .dict #[] }) h.objs.size (.dK []) :=
 ⟨Z1e _,(i05 (Z22.mpr (Ne.symm (Z0h hb))) [] .nil (Heap.DictOf.new h))⟩
def D5f:TE:=λ_ H Q=>∀p,H p=none->Q (.ref p) (upd H p (.dK []))
section
variable {X:Cx} {pos:Pos}
theorem B5y:PE X (.Dict [] [] pos) D5f:=λpins s Z H Q I h =>
 wpAny_Dict_empty (i0d (.ref s.heap.objs.size) _ (I.laid (a:=s.heap.objs.size) (o:= .dK []) (t':=s.toks) (λ_ _ q=>Z01 _ q) (Z09 _) (C9e s.heap I.big)) rfl (h _ (I.hok.fresh (Z09 _))))
end
def A6b (kvs more:List (Key×V)):List (Key×V):=more.foldl (λacc kv=>B1n acc kv.1 kv.2) kvs
theorem KV.merge:∀{more:List (Key×V)} {rs:List (Key×Value)} {kvs:List (Key×V)} {vs:List (Key×Value)},KV more rs->KV kvs vs->KV (A6b kvs more) (merged vs rs):=by
 intro more rs kvs vs r;unfold KV at r
 induction r generalizing kvs vs with
 | nil=>intro q;exact q
 | @cons p q ps qs h t ih =>
  intro r0
  have e:KV (B1n kvs p.1 p.2) (stored vs q.1 q.2):=by
   have:=r0.put p.1 h.2;rw [<-h.1];exact this
  exact ih e
theorem B0k:∀(more kvs:List (Key×V)),(A6b kvs more).length<=kvs.length+more.length
 | [],kvs=>by show kvs.length<=kvs.length+0;lia
 | p::r,kvs=>by
  have h1:=B0k r (B1n kvs p.1 p.2);have h2:=A9g kvs p.1 p.2;show (A6b (B1n kvs p.1 p.2) r).length<=_;rw [Z0y];lia
structure M2 (X:Cx) (o:Expr) (m:Str) (apos:Pos) (e f:Expr) (cpos:Pos):Prop where
 base:attributeBase o m X.env (eval o X.env)=eval o X.env
 few:((backTo cpos (starEach [e,f] X.env)).all (λx=> ! x.1)&&(backToKw cpos (keywordEach [] X.env)).all (λx=>x.1.isSome)
  && decide (([e,f]:List Expr).length+([]:List Keyword).length+(if ([]:List Keyword).isEmpty then 0 else 1)<30))=true
 line:(apos.endLine == cpos.line)=true
 trees:backTo cpos (starEach [e,f] X.env)=[(false,eval e X.env),(false,eval f X.env)]
def IsD (H:Hp) (a:Addr):Prop:=(∃kvs,Rd H a (.dK kvs))\/∃kvs,Rd H a (.dT kvs)
theorem D6n {X:Cx} {Z:St} (I:Inv X pins Z H s) (d:IsD H a) :
  s.TypeIs (.ref a) "dict"/\(∀b,Value.ref a= .ref b->∃ob,s.heap.get? b=some ob/\ob.dict=none)/\(a == sysModules)=false:=by
 rcases d with ⟨kvs,e⟩ | ⟨kvs,e⟩
 ·obtain ⟨_,hd,vs,_,dd⟩:=C0c I.hok e;refine i00 dd.typeIs (λb q=> ?_) hd;cases q;obtain ⟨ob,_,_,h1,h2,_⟩:=dd;exact i02 ob h1 h2.2.1
 ·obtain ⟨_,hd,xs,_,dd⟩:=C4h I.hok e;refine i00 dd.typeIs (λb q=> ?_) hd;cases q;obtain ⟨ob,_,_,h1,h2,_⟩:=dd;exact i02 ob h1 h2.2.1
section
variable {X:Cx} {pins:List (Addr×Obj)} {Z:St} {H:Hp} {s:Shared} {a:Addr} {y d:V} {u r:Value} {o:Option V} {A:Around} {E:Value->Shared->Prop}
theorem D5j (hu:A.units+1<cLine) (I:Inv X pins Z H s) (g:B8e H a y o) (ry:A3j y u) (rd:A3j d r) (h:∀w' s',Inv X pins Z H s'->A3j (o.getD d) w'->Q w' s') :
  wpAny (model X.prog X.w) A (call (.builtin "dict.get") [.ref a,u,r]) Q E s:=by
 rcases g with ⟨kvs,k,e,ey,l⟩ | ⟨kvs,k,b,e,ey,eb,l⟩
 ·subst ey;obtain ⟨z,hd,vs,rel,dd⟩:=C0c I.hok e;refine call_meetsIn PySem.F.slot_dict_get dd.typeIs PySem.F.entry_dict_get (PySem.F.args_dict_get_3 _ _ _) (meets_dict_get_default (A2l X.prog X.w) a (C7e ry) hd r) (i02 _ dd.mapOf (h _ _ (I.tok _) ?_));rw [l];exact (rel.val k).getD rd
 ·subst ey;cases (show u=Value.ref b from ry);obtain ⟨z,hd,xs,rel,dd⟩:=C4h I.hok e;refine call_meetsIn PySem.F.slot_dict_get dd.typeIs PySem.F.entry_dict_get (PySem.F.args_dict_get_3 _ _ _) (meetsH_dict_get_default (tupleKind (A2l X.prog X.w)) a b hd r) (i0h (tupleKind_room_in1 hu) k xs (C2g I.hok eb) dd (h _ _ (I.tok _) ?_));rw [l];exact (rel.val k).getD rd
end
def D6a (td ty tx:TE):TE:=λZ H Q=>td Z H λx H1=>∃a,x= .ref a/\IsD H1 a/\ty Z H1 λy H2=>tx Z H2 λz H3=>∃o,B8e H3 a y o/\Q (o.getD z) H3
section
variable {X:Cx} {o e f:Expr} {apos cpos:Pos} {td ty tx:TE}
theorem C9m (hu:X.A.units+1<cLine) (ho:PE X o td) (he:PE X e ty) (hf:PE X f tx) (m:M2 X o "get" apos e f cpos):PE X (.Call (.Attribute o "get" apos) [e,f] [] cpos) (D6a td ty tx):=by
 intro pins s Z H Q I h;refine wpAny_Call_method m.base m.few m.line PySem.F.plainAttrs_dict PySem.F.slot_dict_get PySem.F.type_dict_get (thn (ho pins s Z H _ I h) ?_);rintro u s1 zz;refine e05 zz ?_;clear zz;rintro x H1 I1 rx ⟨a,ex,d,q1⟩;subst ex;obtain rfl:u=Value.ref a:=rx;obtain ⟨t1,t2,_⟩:=D6n I1 d;refine i00 t1 t2 ?_;rw [m.trees]
 refine Calls.callWith_builtin rfl (Calls.evalArgs_plain (Calls.spliced_cons (thn (he pins s1 Z H1 _ I1 q1) λiv s2 ⟨y,H2,I2,ry,q2⟩ =>
  Calls.spliced_cons (thn (hf pins s2 Z H2 _ I2 q2) λfv s3 ⟨z,H3,I3,rz,ov,g,q3⟩=>Calls.spliced_nil ?_))))
 exact D5j hu I3 g ry rz λw' s4 I4 rw'=>(i0d _ H3 I4 rw' q3)
end
section
variable {X:Cx} {pins:List (Addr×Obj)} {Z:St} {H:Hp} {s:Shared} {a:Addr} {kvs:List (Key×V)} {A:Around} {E:Value->Shared->Prop}
end
section
variable {X:Cx} {pins:List (Addr×Obj)} {Z:St} {H:Hp} {s:Shared} {a:Addr} {y:V} {u:Value} {A:Around} {E:Value->Shared->Prop}
end
end L2
namespace Att
open PySem PySem.W PySem.Calls PyProof.Rows
theorem B2m {P:Params} {h:Heap}:∀(ns:List Int) (vs:List Value),WellAll P h vs (ns.map WData.int)->IntsAre vs ns:=by
 intro ns
 induction ns with
 | nil =>
  intro vs w;rw [List.map_nil] at w;cases w;exact .nil
 | cons n ns ih =>
  intro vs w;rw [Z0p] at w
  cases w with
  | cons a b =>
   cases a
   exact .cons _ _ (ih _ b)
theorem C4n {l:OpenLaw} {n:Nat} (hn:l.most=some n) {P:Params} {h:Heap} {args:List WData} {vals:List Value}
  (hpre:l.row.toRowW.claim.pre args=true) (hwl:WellAll P h vals args) :
  ∃a vs ns,vals=[Value.ref a]/\args=[WData.list (ns.map WData.int)]/\h.get? a=some { cls:= .type "list",data:= .seq vs.toArray }/\IntsAre vs ns/\ns.length<=n:=by
 have hsh:WShape.hasAll [] args [.list .int]=true:=(pre_splitW hpre).1;have hc:l.pre.holds [] { args:=args }=true:=(pre_splitW hpre).2;obtain ⟨d,r,rfl,h1,h2⟩:=hasAllW_cons hsh;obtain rfl:=hasAllW_nil h2;obtain ⟨xs,rfl,h3⟩:=hasW_list h1;obtain ⟨ns,rfl⟩:=items_int h3
 have hlen:ns.length<=n:=by
  unfold OpenLaw.pre at hc
  have h4:(WTm.not (.lt (.lit (.int (n:Int))) (.len (.arg 0)))).holds [] { args:=[.list (ns.map .int)] }=true:=by
   have h4:=(holds_andW hc).1;rw [hn] at h4;exact h4
  have h5:=condW_of h4 (w_not (w_lt w_lit (w_len_list (w_arg rfl))));rw [Z08] at h5;refine Nat.le_of_not_lt λq=> ?_;have q':(n:Int)<((ns.length:Nat):Int):=by lia
  first
   | (rw [Z20 q'] at h5;exact absurd h5 (by decide))
   | (simp at h5;lia)
 cases hwl with
 | cons w1 w2 =>
  cases w2
  cases w1 with
  | list ho hall=>exact i0s _ _ ns rfl rfl ho (B2m ns _ hall) hlen
theorem C6y (l:OpenLaw) (args:List WData):l.row.toRowW.claim.post args (.bool true) args=true :=
 postW_of (r:=l.row.toRowW) (X:=(true == true))
  (show WShape.has [] (.bool true) .bool=true by first | rfl | decide | simp [WShape.has,WShape.arms,WShape.armsAll])
  (show (WTm.eq .res (.lit (.bool true))).value [] { args:=args,res:=some (.bool true),after:=args }=some (.bool (true == true)) from w_eq_bool (w_res rfl) w_lit) rfl
theorem attach_call {l:OpenLaw} {n:Nat} {q:Program} {loose:List Str} {XP:(Str->Option Value)->Heap->Prop} {YP:World->Heap->Prop} {d:DefRec}
  (hn:l.most=some n) (hdf:d.params.defaults=[])
  (call:∀(w:World) (s₀ s₁:Shared) (mg mb:Str->Option Value) (fa:Addr) (o:Obj) (pm cd doc:Value) (a:Addr) (vs:List Value) (ns:List Int),
   Ground q loose [] XP w s₀ mg mb s₁.heap->YP w s₁.heap->
   s₁.heap.get? fa=some o->o.data= .func (docDef d.name d.params d.body d.scope pm cd doc)->s₁.heap.CodeRec cd d.name->mg d.name=some (.ref fa)->
   s₁.heap.get? a=some { cls:= .type "list",data:= .seq vs.toArray }->IntsAre vs ns->ns.length<=n->s₁.gens= #[]->
   codeAny (model l.prog w) callerA (.call (.ref fa) ⟨[.ref a],[]⟩) (λr s'=>r= .ok (.ret (.bool true))/\OldK s₁.heap s'.heap/\s'.os=s₁.os/\AllBare s'.gens) s₁) :
  WalkO q loose XP YP l.row.toRowW d [] (λf vs=>PySem.call f vs):=by
 intro w s₀ s₁ mg mb G Y fa o pm cd doc dV kV ho hd hcd hD hmg hg args vals as hpre hlay hrd hwl hlo;obtain rfl:dV= .none:=Dflts.none hD hdf;obtain rfl:kV= .none:=Dflts.noKw hD;refine e09 (C4n hn hpre hwl) ?_;rintro a vs ns rfl rfl hobj ⟨hints,hlen⟩;refine enter_call (codeAny_mono (call w s₀ s₁ mg mb fa o pm cd doc a vs ns G Y ho (fd_plain hd) hcd hmg hobj hints hlen hg) λr s' hq=> ?_);obtain ⟨rfl,h2,h3,h4⟩:=hq;exact i04 (.inl (i0s (.bool true) (.bool true) [] rfl (λ_=>rfl) (.bool true) (C6y l _) λ_=>⟨List.Pairwise.nil,λ_ hm=>(nomatch hm)⟩)) h2 h3 h4
section
variable {prog:Program} {w:World} {A:Around} {E:Value->Shared->Prop} {s:Shared} {K:Frag}
end
end Att
namespace L2
open PySem PySem.Spec PyProof.Rows
variable {P:Program} {w:World} {K:Frag} {mg:Str->Option Value} {a l d f C:Addr} {fd:FuncData} {x qual x₀:Str} {vs:List (Key×Value)} {n ep i₀:Nat} {XP:(Str->Option Value)->Heap->Prop} {X:Cx} {st:Stmt} {ps N':List Str} {od o:Obj} {osl:Array (Option Value)} {A B:Prop} {pos pos₀ spos:Pos} {H H':Hp} {xs:List (List Key×Addr×Value)} {g:TG} {Z:St} {pl:Sem Bool} {v:V} {scope:Scope} {u:HO} {S:Addr->Prop} {r:List (Str×V)} {pins:List (Addr×Obj)} {s:Shared} {kvs:List (Key×V)} {h:Heap} {es:Array DictEntry} {elt iter:Expr} {cs elts:List Expr} {ix:List (Option Nat)} {cl:List (Str×Addr)} {wi:TI} {tc:TT} {te:TE} {Q:Option Value->Shared->Prop} {sts:List Stmt}
theorem B6z:∀{vs:List Value} {ns:List Int},IntsAre vs ns->A3z (ns.map V.int) vs
 | _,_,.nil=> .nil
 | _,_,.cons n t h=> .cons ⟨t,rfl⟩ (B6z h)
def D7z (H:Hp):Prop:=∀b,H b=none\/∃o xs,H b=some (.frz o (.lst xs))
theorem C8e {mb:Str->Option Value} {CX:CXT} {k:Nat} {fa:Addr} {sp:Sp} {s₁:Shared} {vs:List Value} {ns:List Int}
  (KX:K.In s₁.heap) (hns:s₁.heap.Ns mainGlobals mg) (hb:s₁.heap.Ns builtinsNs mb) (hbb:∀x:Str,x≠"__name__"->mb x=bootBuiltins x) (hlim:s₁.heap.NoLimit) (hg:s₁.gens= #[])
  (ha:s₁.heap.get? a=some { cls:= .type "list",data:= .seq vs.toArray }) (hi:IntsAre vs ns) (hl:ns.length<=sizeLine) (hr:B0o k callerA)
  (F:∀base:Heap,K.In base->base.Ns mainGlobals mg->A2y P w K mg base CX k fa fd [x] sp) (hbind:∀(s:Shared) (u:Value),BindsTo s fd ⟨[u],[]⟩ [(x,u)])
  (hsp:∀H:Hp,D7z H->SqL K H a (ns.map V.int)->sp [.ref a] H (λv _=>v= .bl true) λ_ _ _=>False)
  (hCX:∀H e s',CX [] H s₁ (λ_ _ _=>False) e s'->False) :
  codeAny (model P w) callerA (.call (.ref fa) ⟨[.ref a],[]⟩) (λr s'=>r= .ok (.ret (.bool true))/\OldK s₁.heap s'.heap/\s'.os=s₁.os/\AllBare s'.gens) s₁:=by
 have rv:=B6z hi;have lenV:=hi.length
 have core:∀H:Hp,D7z H->SqL K H a (ns.map V.int)->HOk P w H s₁.heap->(∀b,H b≠none->b=a)->(H a≠none->K.lookup a=none)->
   codeAny (model P w) callerA (.call (.ref fa) ⟨[.ref a],[]⟩) (λr s'=>r= .ok (.ret (.bool true))/\OldK s₁.heap s'.heap/\s'.os=s₁.os/\AllBare s'.gens) s₁:=by
  intro H hO hS hok hA hK;have base_of:∀{b:Addr} {o:Obj},s₁.heap.get? b=some o->H b=none->(C8s s₁.heap H).get? b=some o:=λe n=>C9d e n
  have noA:∀{b:Addr} {o:Obj} {es:Array DictEntry} {ep:Nat},s₁.heap.get? b=some o->o.data= .dict es ep->H b=none:=λ{b o es ep} e d=>by
   cases q:H b with
   | none=>rfl
   | some u =>
    have e':b=a:=hA b (by rw [q];simp);subst e';rw [ha] at e;cases e;have d':Data.seq vs.toArray _=Data.dict es ep:=d;cases d'
  have nsK:∀{b:Addr} {m:Str->Option Value},s₁.heap.Ns b m->(C8s s₁.heap H).Ns b m:=λ{b m} ⟨o,es,ep,e,d,r⟩=>(i0l o es ep (base_of e (noA e d)) d r)
  have hKb:K.In (C8s s₁.heap H):=λb o e=>base_of (KX b o e) (by
   cases q:H b with
   | none=>rfl
   | some u =>
    have e':b=a:=hA b (by rw [q];simp);subst e'
    rw [hK (by rw [q];simp)] at e;cases e)
  have hM:Mod K mg (C8s s₁.heap H):=⟨hKb,nsK hns,(i02 mb (nsK hb) hbb),let ⟨mc,h1,h2⟩:=hlim;(i02 mc (nsK h1) h2)⟩;have e0:D3w P w K mg (C8s s₁.heap H) callerA [] s₁ H:=⟨rfl,hM,λb o e=>D2y e,Nat.le_of_eq (C6b _ _),trivial,λb hb=>absurd (show b∈([]:List Addr) from hb) (by simp),hok,.of_eq hg⟩;refine codeAny_mono ((F _ hKb (nsK hns)).run callerA [] s₁ H ⟨[.ref a],[]⟩ [.ref a] [.ref a] _ _ hr e0 (hbind s₁ (.ref a)) (.cons rfl .nil) (hsp H hO hS)) λr s' h=> ?_
  cases r with
  | error e=>exact (hCX H e s' h).elim
  | ok fl =>
   cases fl with
   | next=>exact False.elim h
   | brk=>exact False.elim h
   | cont=>exact False.elim h
   | ret u =>
    refine e06 h ?_;clear h;rintro v H' os bare un ⟨hok',r',q⟩;have q':v= .bl true:=q;subst q';obtain rfl:u=Value.bool true:=r';refine i04 rfl (OldK.of_keep λb o e=> ?_) os bare
    cases q:H b with
    | none=>exact un.keep b o e q (by intro z;exact absurd (show b∈([]:List Addr) from z) (by simp)) (by simp)
    | some u =>
     rcases hO b with z | ⟨ob,xs,z⟩
     ·rw [q] at z;cases z
     ·have z2:=un.frzs b ob _ z;obtain ⟨e1,_⟩:=hok b _ z;obtain ⟨e2,_⟩:=hok' b _ z2;rw [e] at e1;cases e1;exact e2
 cases hk:K.lookup a with
 | some o =>
  have e:=KX a o hk;rw [ha] at e;cases e;refine core (λ_=>none) (λ_=> .inl rfl) (.inr ⟨_,(i0r vs.toArray _ hk rfl rfl rfl (by rw [Z0g,lenV];exact hl) (by simpa using rv))⟩) (λb u z=>by have z':(none:Option HO)=some u:=z;cases z') (λb z=>absurd rfl z) λz=>absurd rfl z
 | none =>
  refine core (λb=>if b=a then some (.frz { cls:= .type "list",data:= .seq vs.toArray } (.lst (ns.map V.int))) else none) (λb=> ?_) (.inl (.inr ⟨{ cls:= .type "list",data:= .seq vs.toArray },Z12 rfl⟩)) (λb u z=> ?_) (λb z=> ?_) λ_=>hk
  ·by_cases hb:b=a
   ·exact .inr (i03 _ _ (Z12 hb))
   ·exact .inl (Z0t hb)
  ·by_cases hb:b=a
   ·have z':=(Z12 hb).symm.trans z;cases z';subst hb;exact ⟨ha,(i09 (by rw [Z08];exact hl) vs _ rv ha)⟩
   ·have z':=(Z0t hb).symm.trans z;cases z'
  ·by_cases hb:b=a
   ·exact hb
   ·exact absurd (Z0t hb) z
theorem D3d {l:PySem.W.OpenLaw} {k:Nat} {q:Program} {loose:List Str} {YP:World->Heap->Prop} {d:DefRec} {K:Params->Frag} {CX:World->CXT} {sp:World->Sp}
  (hn:l.most=some n) (hn2:n<=sizeLine) (hdf:d.params.defaults=[]) (hr:B0o k callerA)
  (hY:∀(w:World) (h:Heap),YP w h->(K w.params).In h)
  (F:∀(w:World) (mg:Str->Option Value) (fa:Addr) (h:Heap),(K w.params).In h->h.Ns mainGlobals mg->mg d.name=some (.ref fa)->
   ∃fd:FuncData,(∀(s:Shared) (u:Value),BindsTo s fd ⟨[u],[]⟩ [(x,u)])/\
    ∀base:Heap,(K w.params).In base->base.Ns mainGlobals mg->A2y l.prog w (K w.params) mg base (CX w) k fa fd [x] (sp w))
  (hsp:∀(w:World) (H:Hp) (a:Addr) (ns:List Int),ns.length<=n->D7z H->SqL (K w.params) H a (ns.map V.int)->sp w [.ref a] H (λv _=>v= .bl true) λ_ _ _=>False)
  (hCX:∀(w:World) (H:Hp) (s:Shared) (e:Value) (s':Shared),CX w [] H s (λ_ _ _=>False) e s'->False) :
  PySem.W.WalkO q loose XP YP l.row.toRowW d [] (λf vs=>PySem.call f vs):=by
 refine Att.attach_call hn hdf λw s₀ s₁ mg mb fa o pm cd doc a vs ns G Y ho hd hcd hmg hobj hints hlen hg=> ?_;have KX:=hY w _ Y;obtain ⟨fd,hb,hF⟩:=F w mg fa _ KX G.T.g hmg;exact C8e KX G.T.g G.T.b G.T.builtins G.T.nolimit hg hobj hints (Z1n hlen hn2) hr hF hb (λH hO hS=>hsp w H a ns hlen hO hS) λH e s'=>hCX w H s₁ e s'
def A2f (s:Stmt) (j:Nat):Stmt:=match s with
 | .ClassDef _ _ _ body _ _ _ _ _ _ _=>body.getD j (.Pass ⟨0,0,0,0⟩)
 | _=> .Pass ⟨0,0,0,0⟩
def A9c (s:Stmt):Arguments:=match s with
 | .FunctionDef _ a _ _ _ _ _ _ _ _=>a
 | _=>{ posonlyargs:=[],args:=[],vararg:=none,kwonlyargs:=[],kw_defaults:=[],kwarg:=none,defaults:=[] }
def A8b (s:Stmt):List Stmt:=match s with
 | .FunctionDef _ _ b _ _ _ _ _ _ _=>b
 | _=>[]
def A0m (s:Stmt):Scope:=match s with
 | .FunctionDef _ _ _ _ _ _ sc _ _ _=>sc
 | _=>{ kind:= .function,names:=[],isGenerator:=false,isCoroutine:=false }
abbrev CX0:CXT:=λ_ _ _ _ _ _=>False
abbrev E0:XK:=λ_ _ _=>False
theorem B4q:B3j CX0 X E0:=λ_ _ _ _ _ _ _ h=>h.elim
structure Fun (K:Frag) (x qual:Str) (st:Stmt) (f:Addr) (fd:FuncData):Prop where
 ex:∃(oc:Value) (od:Option Addr) (kV doc pm:Value) (an:Option Addr) (cdv ct:Value) (osl:Array (Option Value)),
  fd=fnOf x qual (A9c st) (A8b st) (A0m st) .none kV doc pm an cdv ct/\K.lookup f=some ⟨oc,od,.func fd,osl⟩/\codeIn K cdv qual=true
 kp:keepIn K (.ref f)=true
section
variable {P:Program} {w:World} {K:Frag} {mg:Str->Option Value} {base:Heap}
theorem Fun.ok {N:List Str} {k:Nat} {sp:Sp} (F:Fun K x qual st f fd) (S:A1b N ps (A0m st)) (len:∀vs H Q E,sp vs H Q E->vs.length=ps.length)
  (hbody:∀(cdv:Value) (A:Around) (outer:List Env) (s:Shared) (H:Hp) (vs:List V) (Q:VK) (E:XK),B0o k (A.deeper (envOfC qual (A0m st) s.heap.objs.size f cdv))->sp vs H Q E->
   ∃t,PSs (D3y CX0 P w K mg base N qual (A0m st) f cdv A outer s H E).nox (A8b st) t/\t { nx:=λ_ H'=>Q .non H',rt:=Q } (B6x N vs) H):A2y P w K mg base CX0 (k+1) f fd ps sp:=by
 refine e0f F.ex ?_;rintro oc od kV doc pm an cdv ct osl ⟨rfl,lk,hcd⟩;refine D8k lk hcd S len λA outer s H vs Q E hr hsp=> ?_;obtain ⟨t,h,q⟩:=hbody cdv A outer s H vs Q E hr hsp;exact i02 t h.nox q
theorem Fun.binds (F:Fun K x qual st f fd)
  (h:∀(kV doc pm:Value) (an:Option Addr) (cdv ct:Value) (us:List Value),us.length=ps.length->bindArgs (fnOf x qual (A9c st) (A8b st) (A0m st) .none kV doc pm an cdv ct) ⟨us,[]⟩=pure (ps.zip us)):A7o K fd ps []:=by
 refine e0f F.ex ?_;rintro oc od kV doc pm an cdv ct osl ⟨rfl,lk,hcd⟩;exact .all (h kV doc pm an cdv ct)
theorem D0i {oc:Value} {od an:Option Addr} {kV doc pm cdv ct:Value} (l:K.lookup f=some ⟨oc,od,.func (fnOf x qual (A9c st) (A8b st) (A0m st) .none kV doc pm an cdv ct),osl⟩)
  (c:codeIn K cdv qual=true) (k:keepIn K (.ref f)=true):Fun K x qual st f (fnOf x qual (A9c st) (A8b st) (A0m st) .none kV doc pm an cdv ct):=⟨(i03 oc od (i0f kV doc pm an (i0l cdv ct osl rfl l c))),k⟩
end
theorem B1b {A:Around} {k:Nat} (hr:B0o k A):A.units+1<cLine:=Z2d (Nat.add_le_add_left (by decide:1<=64) _) hr.units
section
variable {X:Cx}
theorem pv (i:Nat) (hN:X.N[i]? =some x:=by rfl) (hv:Vis X.env.scope x:=by first | exact Or.inl rfl | exact Or.inr (Or.inl rfl) | exact Or.inr (Or.inr rfl)) (hd:(x == ("__debug__":Str))=false:=by decide)
  (hcd:(x == ("__classdict__":Str))=false:=by decide):PE X (.Name x pos) (C0u i):=D5k hN hv hd hcd
end
theorem A2u (h:B):if false=true then A else B:=by
 rw [Z0t Z0v];exact h
theorem A5h (h:A):if true=true then A else B:=by
 rw [Z12 rfl];exact h
theorem C4v {c:Prop} [Decidable c] (h1:c->A) (h2:¬c->B):if c then A else B:=by
 by_cases h:c
 ·rw [Z12 h];exact h1 h
 ·rw [Z0t h];exact h2 h
def A1f (H H':Hp):Prop:=∀b o,H b=some o->H' b=some o
theorem A1f.refl (H:Hp):A1f H H:=λ_ _ h=>h
theorem A1f.trans {H1 H2:Hp} (a:A1f H H1) (b:A1f H1 H2):A1f H H2:=λc o h=>b c o (a c o h)
theorem A1f.free (e:A1f H H') (h:H' l=Option.none):H l=Option.none:=by
 cases q:H l with
 | none=>rfl
 | some o =>
  rw [e l o q] at h;cases h
theorem A1f.seq {xs:List V} (e:A1f H H') (h:SqL K H a xs):SqL K H' a xs:=by
 rcases h with (h | ⟨o,h⟩) | h
 ·exact .inl (.inl (e _ _ h))
 ·exact .inl (.inr ⟨o,e _ _ h⟩)
 ·exact .inr h
section
variable {κ:Type} [DecidableEq κ]
end
section
variable {X:Cx}
def tCut (t u:TS):TS:=λD Z H=>∃M:St->Hp->Prop,t { D with nx:=M } Z H/\∀Z' H',M Z' H'->u D Z' H'
theorem A4k {st:Stmt} {rest:List Stmt} {t u:TS} (h1:PS X st t) (h2:PSs X rest u):PSs X (st::rest) (tCut t u):=by
 intro pins s Z H D I h;obtain ⟨M,h,hm⟩:=h;refine wpAny_execs_cons (thn (h1 pins s Z H { D with nx:=M } I h) λf s1 q=> ?_)
 cases f with
 | next =>
  obtain ⟨Z',H',I',q⟩:=q;exact h2 pins s1 Z' H' D I' (hm _ _ q)
 | ret v=>exact q
 | brk=>exact q
 | cont=>exact q
def rIsi (K:Frag):List V->Hp->VK->Prop:=λxs H Q=>∃x c t b,xs=[x,c]/\B0p K H x t/\(∀u,A3j c u->kitOne K t u=some b)/\Q (.bl b) H
theorem A1m:A9l X (.builtin "isinstance") (rIsi X.K):=by
 intro pins s Z H xs us Q I r h;refine e01 h ?_;clear h;rintro x c t ⟨b,rfl,ty,e,q⟩;obtain ⟨u,w',rfl,ru,rw'⟩:=C8k r;exact C6c I ru ty (e w' rw') λtk=>(i0d (.bl b) H (I.tok tk) rfl q)
theorem A6q (T:String):∀u,A3j (.ty T) u->kitOne K (.type T) u=some true:=by
 intro u h;cases (show u=Value.type T from h);unfold kitOne;rw [Z12 (beq_self_eq_true _)]
theorem B8x {T U:String} {b:Bool} (h:(Value.type T == Value.type U)=false) (hm:PySem.W.kitMeta U=true) (hs:(PySem.fastBuiltinMro T).map (·.contains (Value.type U))=some b) :
  ∀u,A3j (.ty U) u->kitOne K (.type T) u=some b:=by
 intro u z;cases (show u=Value.type U from z);unfold kitOne;rw [Z0t (by rw [h];exact Z0v)];show (if PySem.W.kitMeta U=true then subIn K (.type T) (.type U) else none)=some b;rw [Z12 hm];exact hs
def D8g (_ j:Int):Prop:=0<j/\j.natAbs<2^4000
theorem C9l:OpR X (binaryOp .FloorDiv) (rI D8g λi j=> .int (i/j)):=opI λi j _ _ _ _ _ hc q=>by
 have h1:(0:Int)<j:=hc.1;have h2:j.natAbs.log2<9000:=Nat.lt_trans ((Nat.log2_lt (by lia)).mpr hc.2) (by decide);exact floordiv_int (by lia) (by rw [Int.fdiv_eq_ediv_of_nonneg i (by lia)];exact q) (.inl (PyProof.noPylong_of_log2 h2))
end
section
variable {prog:Program} {w:World} {A:Around} {E:Value->Shared->Prop} {s:Shared}
end
section
variable {z TI TO i1 i2 l1 l2:Addr} {st1 st2:Nat->Heap->Prop} {src1 src2:Array Value->Heap->Prop} {prog:Program} {w:World} {A:Around} {E:Value->Shared->Prop} {s:Shared}
end
section
variable {X:Cx} {pins:List (Addr×Obj)} {Z:St} {H:Hp} {s:Shared} {h':Heap}
theorem Inv.turnedNew {t':Nat} {ts:List Addr} {o:HO} (I:Inv X pins Z H s) (k:∀b u,b∉ts->s.heap.get? b=some u->h'.get? b=some u) (f:∀b∈ts,C0r X pins H b) (hp:s.heap.objs.size<=a)
  (new:A2v X.prog X.w (upd H a o) h' a o):Inv X pins Z (upd H a o) { s with heap:=h',toks:=t' }:=by
 have nt:∀b u,H b=some u->b∉ts:=λb u e z=>by have:=(f b z).1;rw [e] at this;cases this
 have na:∀b u,s.heap.get? b=some u->b≠a:=λb u e=>Z0h (Z0q (Z0a e) hp);have ha:H a=none:=I.hok.fresh hp
 refine I.step (g':=s.gens) (d':=s.drawn) (ch:=ts) (λb hb=>(i04 ((f b hb).2.2.2.1) ((f b hb).2.1) ((f b hb).2.2.2.2.1) ((f b hb).2.2.2.2.2))) (λb u _ _ hc e _=>k b u hc e) (λb u _ _ hc e _=>⟨u.slots,k b u hc e⟩)
  (λb u _ e n=>by rw [A0k (na b u e)];exact n) (λb u hc e=>⟨u,k b u hc e⟩) (λb xs e=>by rw [A0k (A1g e ha)];exact e) (λb u xs e=>by rw [A0k (A1g e ha)];exact e)
  (λb ps e=>⟨#[],by rw [A0k (A1g e ha),e];simp⟩) (λm hm=> ?_) (λb u e=> ?_) I.bare
 ·obtain ⟨ob,es,ep,ho,r⟩:=hm;exact i0e ob es ep (k _ ob (λz=>(f _ z).2.1 rfl) ho) r
 ·by_cases hb:b=a
  ·subst hb;rw [A0b] at e;cases e;exact new
  ·rw [A0k hb] at e;refine (I.hok b u e).stay (λc v hc q=>k c v ?_ q) (λc q=>by rw [A0k (A1g q ha)];exact q) λc xs q=>by rw [A0k (A1g q ha)];exact q
   rcases hc with rfl | hc
   ·exact nt _ _ e
   ·exact nt _ _ hc
end
def Itv (K:Frag) (a:Addr) (n:Nat):It :=
 ⟨λi H=>∃xs x,SqL K H a xs/\xs.length=n/\i<n/\xs[n-1-i]? =some x,λi H x H'=>H'=H/\∀xs,SqL K H a xs->xs[n-1-i]? =some x,λi _=>i=n⟩
theorem C7w {tg:Expr} (a it:Addr) (n:Nat):D0a P w K tg (Itv K a n) [it] it (λi h=>h.IsRevIter it a ((n:Int)-1-(i:Int))) where
 mem:=by simp
 obj:=λi h st b hb=>by
  have e:b=it:=by simpa using hb
  subst e;obtain ⟨o,e,c,d⟩:=st;exact i02 o e λv z=>by rw [d] at z;cases z
 keep:=λi h h' st k=>st.at λo e=>k it (by simp) o e
 item:=by
  intro X hP hw hK hc i pins s Z H E I hf st hg;subst hP hw hK;obtain ⟨xs,x,hq,hn,hi,hx⟩:=hg;obtain ⟨its,rv,p,hz⟩:=I.list hq;obtain ⟨u,hu,ru⟩:=rv.get hx;obtain ⟨f0,f1,f2,f3,f4,f5⟩:=hf it (by simp);have e1:(n:Int)-1-(i:Int)=((n-1-i:Nat):Int):=by lia
  rw [e1] at st;refine wpAny_pyNext_rev_item st p.isList (x:=u) (by simpa using hu) λh' st' sb=> ?_;have I1:Inv X pins Z H { s with heap:=h' }:=I.turned (t':=s.toks) (λb o hb e=>(sb.2 b hb).trans e) f0 f1 f3 f4 f5
  have e2:((n-1-i:Nat):Int)-1=(n:Int)-1-((i+1:Nat):Int):=by lia
  rw [e2] at st';obtain ⟨o,e,c,d⟩:=id st';exact i02 u rfl (C3a (s:={ s with heap:=h' }) e c d (by decide) (i0o x H I1 ru ⟨rfl,λys hy=>by rw [I.list_inj hy hq];exact hx⟩ st' λb hb=>(hf b hb).1))
 done:=by
  intro X hP hw hK hc i pins s Z H E I hf st hg;subst hP hw hK;have hi:i=n:=hg;subst hi;obtain ⟨f0,f1,f2,f3,f4,f5⟩:=hf it (by simp);have e1:(i:Int)-1-(i:Int)= -1:=by lia
  rw [e1] at st;exact wpAny_pyNext_rev_end (I.ok.hd hc) st λh' eb=>⟨rfl,I.turned (t':=s.toks) (λb o hb e=>eb b o hb e) f0 f1 f3 f4 f5⟩
 self:=λ_ _ _ _ _ st h=>wpAny_pyIter_revIter st h
def iRev (K:Frag) (ta:TA):TI:=λZ H R=>ta Z H λvs H1=>∃a xs,vs=[.ref a]/\SqL K H1 a xs/\R (Itv K a xs.length) H1
theorem C1f {tg:Expr} {a:Expr} {ta:TA} {p:Pos} (hg:Gl X "reversed") (hm:X.mg "reversed"=none) (ha:PA X [a] ta) (hs:starEach [a] X.env=[(false,eval a X.env)]:=by rfl) :
  PI X tg (.Call (.Name "reversed" p) [a] [] pos) (iRev X.K ta):=by
 intro pins s Z H R I h;refine Call_ (B4w I hg hm boot_reversed (PyProof.Rows.callWith_type1 (thn (ha pos pins s Z H _ I h) λus s1 ⟨vs,H1,I1,r1,q1⟩=> ?_) hs rfl));obtain ⟨l,xs,e,hq,q⟩:=q1;subst e;obtain ⟨u,rfl,ru⟩:=B1u r1;cases ru;obtain ⟨its,rv,p1,_⟩:=I1.list hq;have en:(its.toArray.size:Int)-1=(xs.length:Int)-1-((0:Nat):Int):=by rw [Z0g,<-rv.length];lia
 refine call_reversed_list p1.isList ?_;rw [en];have st:(s1.heap.push (revObj l ((xs.length:Int)-1-((0:Nat):Int)))).IsRevIter s1.heap.objs.size l ((xs.length:Int)-1-((0:Nat):Int)):=(i06 _ (Z0c _ rfl) rfl rfl);refine wpAny_pyIter_revIter (s:={ s1 with heap:=s1.heap.push (revObj l ((xs.length:Int)-1-((0:Nat):Int))) }) st ?_;refine i11 _ [s1.heap.objs.size] _ _ H1 rfl (I1.kept (t':=s1.toks) λb o e=>Z01 _ e) (C7w l _ xs.length) st (λb hb=> ?_) q
 have e:b=s1.heap.objs.size:=by simpa using hb
 subst e;exact I1.fpOk (Z09 _) (I1.hok.fresh (Z09 _))
theorem B6e {xs:List V} {tb:TS} {D:C3t} (Pv:Nat->St->Hp->Prop) (h0:Pv 0 Z H) (hl:∀i Z H,Pv i Z H->SqL K H a xs)
  (hs:∀i x Z H,i<xs.length->xs[xs.length-1-i]? =some x->Pv i Z H->g x Z H λZ2 H2=>tb { D with nx:=Pv (i+1),ct:=Pv (i+1),bk:=D.nx } Z2 H2) (hd:∀Z H,Pv xs.length Z H->D.nx Z H) :
  ∃W:Nat->Nat->St->Hp->Prop,(∃m,W 0 m Z H)/\∀i m Z H,W i m Z H->
   ((Itv K a xs.length).stop i H/\D.nx Z H)\/((Itv K a xs.length).go i H/\∃N:St->Hp->Prop,(∀Z' H',N Z' H'->∃m',m'<m/\W (i+1) m' Z' H')/\∀x H',(Itv K a xs.length).yld i H x H'->g x Z H' λZ2 H2=>tb { D with nx:=N,ct:=N,bk:=D.nx } Z2 H2):=by
 refine i02 (λi m Z H=>m=xs.length-i/\i<=xs.length/\Pv i Z H) (i06 xs.length (by simp) (Z1e _) h0) ?_;rintro i m Z H ⟨rfl,hi,p⟩;have q:=hl i Z H p;by_cases hlt:i<xs.length
 ·refine .inr (i05 (i0k xs (xs[xs.length-1-i]) q rfl hlt (Z0b _)) (Pv (i+1)) (λZ' H' p'=>(i0a (xs.length-(i+1)) (by lia) rfl hlt p')) λx H' y=> ?_);obtain ⟨e,y⟩:=y;subst e;exact hs i x Z _ hlt (y xs q) p
 ·have e:i=xs.length:=by lia
  subst e;exact .inl ⟨rfl,hd Z H p⟩
structure C5s (X:Cx) (scope:Scope) (cl:List (Str×Addr)):Prop where
 eq:closureFor scope X.env=pure cl
 sub:∀x c,cl.lookup x=some c->X.env.cells.lookup x=some c
 has:∀x,((relabel scope X.env).names.lookup x=some .cell\/(relabel scope X.env).names.lookup x=some .free)->∃c,cl.lookup x=some c
 kind:scope.kind= .function
 ncell:∀y∈scope.names,y.2≠.cell
 names:∀y∈scope.names,y.2= .local->scope.names.lookup y.1=some .local
noncomputable def blk (X:Cx) (N':List Str) (scope:Scope) (cl:List (Str×Addr)) (C:Addr) (s₀:Shared) (H₀:Hp) (fp:List Addr):Cx :=
 { X with N:=N',s₀:=s₀,H₀:=H₀,env:=compEnvC scope cl C X.env,outer:=X.stack,ex:=fp,fn:=λ_=>false,pn:=[],xe:=λ_ _=>False }
def A6j (ix:List (Option Nat)) (Z:St):St:=ix.map λo=>o.bind λj=>(Z[j]?).bind id
section
variable {X:Cx} {pins:List (Addr×Obj)} {Z:St} {H:Hp} {s:Shared} {N':List Str} {scope:Scope} {cl:List (Str×Addr)} {fp:List Addr} {ix:List (Option Nat)}
def C7u (X:Cx) (N':List Str) (scope:Scope) (ix:List (Option Nat)):Prop :=
 ix.length=N'.length/\∀i j:Nat,ix[i]? =some (some j)->∃x,N'[i]? =some x/\X.N[j]? =some x/\(X.env.scope.names.lookup x=some .cell\/X.env.scope.names.lookup x=some .free)/\
  ((relabel scope X.env).names.lookup x=some .cell\/(relabel scope X.env).names.lookup x=some .free)
theorem D4w (I:Inv X pins Z H s) (ck:C5s X scope cl) (f:∀b∈fp,C0r X pins H b) (hlt:∀b∈fp,b<s.heap.objs.size):(blk X N' scope cl s.heap.objs.size s H fp).Ok where
 mod:=I.ok.mod
 kind:=ck.kind
 glob:=I.ok.glob
 blt:=I.ok.blt
 above:=Z09 _
 inj:=λx y c h1 h2=>I.ok.inj x y c (ck.sub x c h1) (ck.sub y c h2)
 has:=λx h=>ck.has x h
 cab:=λx c h=>by cases h
 hd:=I.ok.hd
 frames:=I.ok.frames
 stk:= .inl rfl
 exf:=λb hb=>⟨Z0h (hlt b hb),λx c h=>(f b hb).2.2.2.2.1 x c (ck.sub x c h)⟩
 bs:=I.bs
 bsz:=Z1n I.ok.bsz I.sz
 noex:=λb o e hb=>by
  rcases (f b hb).2.2.2.1 with z | z
  ·exact I.ok.noex b o e z
  ·exact absurd (Z0q (Z0a (I.ok.bs b o e).1) z) (Nat.lt_irrefl _)
 exfs:=λb hb hs=>by
  rcases Z0e.mp (I.stkSub b hs) with z | z
  ·exact (f b hb).2.1 z
  ·exact (f b hb).2.2.1 z
 funs:=I.stack
 frf:=I.stkFree
theorem B7d (I:Inv X pins Z H s) (ck:C5s X scope cl) (io:C7u X N' scope ix) (f:∀b∈fp,C0r X pins H b) (hlt:∀b∈fp,b<s.heap.objs.size) {h':Heap} {m:Str->Option Value} {t':Nat}
  (hn:h'.Ns s.heap.objs.size m) (k:∀b o,s.heap.get? b=some o->h'.get? b=some o):Inv (blk X N' scope cl s.heap.objs.size s H fp) [] (A6j ix Z) H { s with heap:=h',toks:=t' }:=by
 have cl':∀x c,cl.lookup x=some c->∃v,s.heap.IsCell c v:=λx c h=>I.cell x c (ck.sub x c h);refine ⟨D4w I ck f hlt,rfl,I.bare,Un.kept k,(i02 m hn λi x v e1 e2 e3=> ?_),λx c e=> ?_,I.hok.fresh (Z09 _),λx c e=>I.freeC x c (ck.sub x c e),(λp hp=>by cases hp),I.hok.kept k,?_⟩
 ·unfold A6j at e2;rw [Z1z] at e2
  cases hi:ix[i]? with
  | none=>rw [hi] at e2;cases e2
  | some o =>
   rw [hi] at e2
   cases o with
   | none=>cases Z1a e2
   | some j =>
    have e2':(Z[j]?).bind id=some v:=Z1a e2;obtain ⟨x',n1,n2,k1,k2⟩:=io.2 i j hi;have ex:x'=x:=Z1a (n1.symm.trans e1);subst ex
    have es:Z[j]? =some (some v):=by
     cases q:Z[j]? with
     | none=>rw [q] at e2';cases e2'
     | some w =>
      rw [q] at e2';exact congrArg some e2'
    obtain ⟨m0,_,hl⟩:=I.loc;obtain ⟨u,ru,lo⟩:=hl j x' v n2 es (k1.elim (λz=> .inr (.inl z)) λz=> .inr (.inr z));refine i02 u ru (.inr ⟨k2,?_⟩);obtain ⟨c,hc⟩:=ck.has x' k2;refine i02 c hc ?_;rcases lo with ⟨z,_⟩ | ⟨_,c',hc',ic⟩
    ·exfalso;have z':X.env.scope.names.lookup x'=some .local:=z;rcases k1 with k1 | k1 <;> (rw [z'] at k1;cases k1)
    ·have ec:c'=c:=Z1a (hc'.symm.trans (ck.sub x' c hc));subst ec;obtain ⟨o,ho,hd⟩:=ic;exact i02 o (k _ _ ho) hd
 ·obtain ⟨v,o,ho,hd⟩:=cl' x c e;exact i07 v o (k _ _ ho) hd
 ·unfold A6j;rw [Z08];exact io.1
theorem C3x (I:Inv X pins Z H s) (f:∀b∈fp,C0r X pins H b) {Z':St} {s':Shared} {pl:List (Addr×Obj)} (J:Inv (blk X N' scope cl s.heap.objs.size s H fp) pl Z' H' s') {h':Heap} (sb:Heap.SameBut s.heap.objs.size s'.heap h') :
  Inv X pins Z H' { s' with heap:=h' }:=by
 have nC:∀b o,s.heap.get? b=some o->b≠s.heap.objs.size:=λb o e=>Z0h (Z0a e);have hC:H' s.heap.objs.size=none:=J.free;have u:Un (frs X.stack) fp H H' s.heap s'.heap:=J.base
 refine I.call' (ch:=fp) (s':={ s' with heap:=h' }) J.os ⟨λb o e n hb hx=>(sb.2 b (nC b o e)).trans (u.keep b o e n hb hx),λb o e n hb hx=> ?_,u.free,λb o e hx=> ?_,u.tups,u.frzs,u.tbls⟩ (λb o e=> ?_) J.bare
  (λb hb=>(i04 ((f b hb).2.2.2.1) ((f b hb).2.1) ((f b hb).2.2.2.2.1) ((f b hb).2.2.2.2.2)))
 ·obtain ⟨sl,q⟩:=u.slot b o e n hb hx;exact ⟨sl,(sb.2 b (nC b o e)).trans q⟩
 ·obtain ⟨o',q⟩:=u.there b o e hx;exact ⟨o',(sb.2 b (nC b o e)).trans q⟩
 ·refine (J.hok b o e).stay (λc v hc q=>(sb.2 c ?_).trans q) (λc q=>q) λc xs q=>q;rcases hc with rfl | hc
  ·exact A1g e hC
  ·exact A1g hc hC
end
def A3e:St->St->Prop
 | [],_=>True
 | none::r,_::r'=>A3e r r'
 | none::r,[]=>A3e r []
 | some v::r,w::r'=>w=some v/\A3e r r'
 | some _::_,[]=>False
theorem A3e.get:∀{a b:St},A3e a b->∀(j:Nat) v,a[j]? =some (some v)->b[j]? =some (some v)
 | [],_,_,_,_,e=>by simp at e
 | none::r,_::r',h,0,v,e=>by simp at e
 | none::r,_::r',h,j+1,v,e=>by simpa using A3e.get (a:=r) (b:=r') h j v (by simpa using e)
 | none::r,[],h,0,v,e=>by simp at e
 | none::r,[],h,j+1,v,e=>by have:=A3e.get (a:=r) (b:=[]) h j v (by simpa using e);simp at this
 | some w::r,_::r',h,0,v,e=>by
  have e':w=v:=by simpa using e
  subst e'
  simpa using h.1
 | some _::r,_::r',h,j+1,v,e=>by simpa using A3e.get (a:=r) (b:=r') h.2 j v (by simpa using e)
section
variable {X:Cx}
def D5a (ix:List (Option Nat)) (wi:TI) (g:TG) (te:TE):TE:=λZ H Q=>wi Z H λJ H1=>∀D,H1 D=none->∃W:Nat->Nat->Hp->Prop,(∃m,W 0 m (upd H1 D (.lst [])))/\∀i m H2,W i m H2->
 (J.stop i H2/\Q (.ref D) H2)\/(J.go i H2/\∃N:VK,(∀y H5,N y H5->∃xs,H5 D=some (.lst xs)/\xs.length<sizeLine/\∃m',m'<m/\W (i+1) m' (upd H5 D (.lst (xs++[y]))))/\∀x H3,J.yld i H2 x H3->g x (A6j ix Z) H3 λZ4 H4=>A3e (A6j ix Z) Z4/\te Z4 H4 N)
end
section
variable {X:Cx} {m:Str} {pos apos:Pos} {e o:Expr} {es:List Expr} {ta:TE} {t:TA}
def D0m (X:Cx) (m:Str) (ta:TE) (t:TA):TE:=λZ H Q=>ta Z H λx H1=>∃(a C dx:Addr) (fs:List (Str×V)) (k:Nat) (f:Addr) (fd:FuncData) (ps:List Str) (sp:Sp),x= .ref a/\H1 a=some (.ins C dx fs)/\Cls X.K C/\B0q X.K C m f/\fs.lookup m=none/\
 A2y X.prog X.w X.K X.mg X.base CX0 k f fd ps sp/\B0o k X.A/\A7o X.K fd ps []/\t Z H1 λvs H2=>sp (x::vs) H2 Q E0
theorem B6i (he:PE X o ta) (ha:PA X (e::es) t)
  (hst:starEach (e::es) X.env=(false,eval e X.env)::starEach es X.env:=by rfl) (hpl:(backTo pos (starEach es X.env)).any (·.1)=false:=by rfl)
  (ht:eval (.Call (.Attribute o m apos) (e::es) [] pos) X.env=(do
   let ov<-eval o X.env
   standAt apos.atName
   let (f,first)<-holding [ov] (getMethod ov m pl)
   callWith pos f first (backTo pos (starEach (e::es) X.env)) (backToKw pos (keywordEach [] X.env))):=by rfl) :
  PE X (.Call (.Attribute o m apos) (e::es) [] pos) (D0m X m ta t):=by
 intro pins s Z H Q I h;refine PySem.W.methodCall_KW (pl:=pl) (thn (he pins s Z H _ I h) ?_) ht;rintro u s1 zz;refine e0b zz ?_;clear zz;rintro x H1 I1 rx a C dx ⟨fs,k,f,fd,ps,sp,ex,ea,c,hm,l,F,hr,hb,q⟩;subst ex;obtain rfl:u=Value.ref a:=rx;refine A8o I1 ea c hm l ?_;refine PySem.W.callWith_K (first:=[.ref a]) (h₀:=X.base) I.ok.mod.kin hm.kp (thn (ha pos pins s1 Z H1 _ I1 q) λus s2 ⟨vs,H2,I2,r,q2⟩=>⟨I2.kIn,?_⟩) hst hpl;exact B7r (us:= .ref a::us) (vs:= .ref a::vs) (dvs:=[]) F hr hb .nil B4q I2 (.cons rfl r) (by rw [Z0u];exact q2)
theorem A3y (he:PE X o ta)
  (ht:eval (.Call (.Attribute o m apos) [] [] pos) X.env=(do
   let ov<-eval o X.env
   standAt apos.atName
   let (f,first)<-holding [ov] (getMethod ov m pl)
   callWith pos f first (backTo pos (starEach [] X.env)) (backToKw pos (keywordEach [] X.env))):=by rfl) :
  PE X (.Call (.Attribute o m apos) [] [] pos) (D0m X m ta D7u):=by
 intro pins s Z H Q I h;refine PySem.W.methodCall_KW (pl:=pl) (thn (he pins s Z H _ I h) ?_) ht;rintro u s1 zz;refine e0b zz ?_;clear zz;rintro x H1 I1 rx a C dx ⟨fs,k,f,fd,ps,sp,ex,ea,c,hm,l,F,hr,hb,q⟩;subst ex;obtain rfl:u=Value.ref a:=rx;refine A8o I1 ea c hm l ?_;exact PySem.W.callWith_K0 (first:=[.ref a]) I1.kIn hm.kp (B7r (us:=[.ref a]) (vs:=[.ref a]) (dvs:=[]) F hr hb .nil B4q I1 (.cons rfl .nil) q)
end
mutual
inductive Rep (H:Hp):V->PyData->Prop
 | non:Rep H .non .none
 | bl (b:Bool):Rep H (.bl b) (.bool b)
 | int (i:Int):Rep H (.int i) (.int i)
 | str (x:Str):Rep H (.str x) (.str x)
 | lst {p:Addr} {xs:List V} {ds:List PyData}:H p=some (.lst xs)->A4s H xs ds->Rep H (.ref p) (.list ds)
 | tup {p:Addr} {xs:List V} {ds:List PyData}:H p=some (.tup xs)->A4s H xs ds->Rep H (.ref p) (.tuple ds)
inductive A4s (H:Hp):List V->List PyData->Prop
 | nil:A4s H [] []
 | cons {v:V} {vs:List V} {d:PyData} {ds:List PyData}:Rep H v d->A4s H vs ds->A4s H (v::vs) (d::ds)
end
mutual
theorem Rep.imp {H H':Hp} (f:∀p o,H p=some o->H' p=some o):∀{v:V} {d:PyData},Rep H v d->Rep H' v d
 | _,_,.non=> .non
 | _,_,.bl b=> .bl b
 | _,_,.int i=> .int i
 | _,_,.str x=> .str x
 | _,_,.lst e r=> .lst (f _ _ e) (A4s.imp f r)
 | _,_,.tup e r=> .tup (f _ _ e) (A4s.imp f r)
theorem A4s.imp {H H':Hp} (f:∀p o,H p=some o->H' p=some o):∀{vs:List V} {ds:List PyData},A4s H vs ds->A4s H' vs ds
 | _,_,.nil=> .nil
 | _,_,.cons a r=> .cons (Rep.imp f a) (A4s.imp f r)
end
theorem Rep.same {d:PyData} (h:Rep H v d) (s:A1f H H'):Rep H' v d:=h.imp s
theorem A4s.same {v:List V} {d:List PyData} (h:A4s H v d) (s:A1f H H'):A4s H' v d:=h.imp s
theorem A4s.len {H:Hp}:∀{vs:List V} {ds:List PyData},A4s H vs ds->vs.length=ds.length
 | _,_,.nil=>rfl
 | _,_,.cons _ r=>by rw [Z0y,Z0y,A4s.len r]
theorem A4s.snoc {H:Hp} {v:V} {d:PyData} (a:Rep H v d):∀{vs:List V} {ds:List PyData},A4s H vs ds->A4s H (vs++[v]) (ds++[d])
 | _,_,.nil=> .cons a .nil
 | _,_,.cons b r=> .cons b (A4s.snoc a r)
theorem A4s.strs {H:Hp}:∀xs:List Str,A4s H (xs.map V.str) (xs.map PyData.str)
 | []=> .nil
 | x::r=> .cons (.str x) (A4s.strs r)
section
variable {X:Cx} {pins:List (Addr×Obj)} {Z:St} {H:Hp} {s:Shared}
mutual
theorem A5m (I:Inv X pins Z H s):∀{v:V} {d:PyData} {u:Value},Rep H v d->A3j v u->∃as,Reads s.heap u d as
 | _,_,u,.non,r=>by cases (show u=Value.none from r);exact ⟨_,.none⟩
 | _,_,u,.bl b,r=>by cases (show u=Value.bool b from r);exact ⟨_,.bool b⟩
 | _,_,u,.int i,r=>by obtain ⟨t,q⟩:=(show∃t,u=Value.int i t from r);cases q;exact ⟨_,.int i t⟩
 | _,_,u,.str x,r=>by obtain ⟨t,q⟩:=(show∃t,u=Value.str x t from r);cases q;exact ⟨_,.str x t⟩
 | _,_,u,@Rep.lst _ p xs ds e q,r=>by
  cases (show u=Value.ref p from r)
  obtain ⟨_,its,n,rv,ho⟩:=(show A2v X.prog X.w H s.heap p (.lst xs) from I.hok p _ e);obtain ⟨as,z⟩:=B0y I q rv;exact ⟨_,Reads.list ho rfl rfl (by simpa using z)⟩
 | _,_,u,@Rep.tup _ p xs ds e q,r=>by
  cases (show u=Value.ref p from r)
  refine e0a (show A2v X.prog X.w H s.heap p (.tup xs) from I.hok p _ e) λ_ its rv o ho hc n hd=>?_;obtain ⟨as,z⟩:=B0y I q rv;exact ⟨_,Reads.tuple ho hc hd (by simpa using z)⟩
theorem B0y (I:Inv X pins Z H s):∀{vs:List V} {ds:List PyData} {us:List Value},A4s H vs ds->A3z vs us->∃as,ReadsAll s.heap us ds as
 | _,_,_,.nil,.nil=>⟨_,.nil⟩
 | _,_,_,.cons a r,.cons q rv=>by
  obtain ⟨as,z⟩:=A5m I a q;obtain ⟨bs,y⟩:=B0y I r rv;exact ⟨_,.cons z y⟩
end
end
def D9b (neg:Bool):R2:=λx y H Q=>∃d e,Rep H x d/\Rep H y e/\SeqAt.shaped d=true/\SeqAt.shaped e=true/\Q (.bl (if neg then ! PyData.eqv d e else PyData.eqv d e)) H
section
variable {X:Cx}
theorem D5l (hu:X.A.units+64<cLine):OpR X (compareOp .Eq) (D9b false):=by
 intro pins s Z H x y v u Q I rx ry h;refine e06 h ?_;clear h;rintro d e h1 h2 s1 ⟨s2,q⟩;obtain ⟨as,r1⟩:=A5m I h1 rx;obtain ⟨bs,r2⟩:=A5m I h2 ry;exact eq_dataH r1 r2 s1 s2 hu (i0d (.bl (PyData.eqv d e)) H I rfl q)
theorem C6h (hu:X.A.units+64<cLine):OpR X (compareOp .NotEq) (D9b true):=by
 intro pins s Z H x y v u Q I rx ry h;refine e06 h ?_;clear h;rintro d e h1 h2 s1 ⟨s2,q⟩;obtain ⟨as,r1⟩:=A5m I h1 rx;obtain ⟨bs,r2⟩:=A5m I h2 ry;exact ne_dataH r1 r2 s1 s2 hu (i0d (.bl (! PyData.eqv d e)) H I rfl q)
def rSlS:V->Option Int->Option Int->Hp->VK->Prop:=λx lo hi H Q=>∃z,x= .str z/\z.length<=sizeLine/\Q (.str (Txt.slice z lo hi)) H
theorem D0e:SlR X rSlS:=by
 intro pins s Z H x v vl vu lo hi sl Q I rx hs pl pu h;obtain ⟨z,rfl,hz,q⟩:=h;obtain ⟨t,rfl⟩:=(show∃t,v=Value.str z t from rx);refine i0d "str" _ F.slot_str_getitem.lookup (typeIs_str _ _ _) ?_;obtain ⟨ob,ho,hc,hd⟩:=hs;have fin:∀t' k,EP X pins Z Q (.str (Txt.slice z lo hi) t') { s with toks:=k }:=λt' k=>(i0d (.str (Txt.slice z lo hi)) H (I.tok k) ⟨t',rfl⟩ q)
 cases pl with
 | none =>
  cases pu with
  | none=>exact wpAny_getItem_str_slice (l:=none) (u:=none) (st:=none) (i06 ob ho hc hd) rfl (post_val_or_str ⟨Z1n (Txt.slice_le z _ _) hz,fin⟩)
  | int j uj=>exact wpAny_getItem_str_slice (l:=none) (u:=some (j,uj)) (st:=none) (i06 ob ho hc hd) rfl (post_val_or_str ⟨Z1n (Txt.slice_le z _ _) hz,fin⟩)
 | int i ui =>
  cases pu with
  | none=>exact wpAny_getItem_str_slice (l:=some (i,ui)) (u:=none) (st:=none) (i06 ob ho hc hd) rfl (post_val_or_str ⟨Z1n (Txt.slice_le z _ _) hz,fin⟩)
  | int j uj=>exact wpAny_getItem_str_slice (l:=some (i,ui)) (u:=some (j,uj)) (st:=none) (i06 ob ho hc hd) rfl (post_val_or_str ⟨Z1n (Txt.slice_le z _ _) hz,fin⟩)
def D8u:V->List V->Hp->VK->Prop:=λx vs H Q=>∃z y,x= .str z/\vs=[.str y]/\Q (.int (Txt.find z y)) H
theorem D2l:MtR X "str.find" D8u:=by
 intro pins s Z H x xs v us Q I rx rv h;obtain ⟨z,y,rfl,rfl,q⟩:=h;obtain ⟨t,rfl⟩:=(show∃t,v=Value.str z t from rx);obtain ⟨u,rfl,ru⟩:=B1u rv;obtain ⟨t',rfl⟩:=(show∃t,u=Value.str y t from ru);exact SC.find (i0d (.int (Txt.find z y)) H (I.tok _) ⟨_,rfl⟩ q)
def D8w (K:Frag):V->List V->Hp->VK->Prop:=λx vs H Q=>∃(z:Str) (p:Addr) (ys:List Str),x= .str z/\vs=[.ref p]/\SqL K H p (ys.map V.str)/\(ys.map (·.length)).sum+ys.length*z.length<=16777216/\Q (.str (Txt.join z ys)) H
theorem C2k {ys:List Str}:∀{us:List Value},A3z (ys.map V.str) us->StrsAre us ys:=by
 induction ys with
 | nil=>intro us r;cases r;exact .nil
 | cons y r ih =>
  intro us q
  cases q with
  | cons q1 q2 =>
   obtain ⟨t,rfl⟩:=q1;exact .cons _ _ (ih q2)
theorem D3s:MtR X "str.join" (D8w X.K):=by
 intro pins s Z H x xs v us Q I rx rv h;refine e09 h ?_;clear h;rintro z p ys rfl rfl hq ⟨hz,q⟩;obtain ⟨t,rfl⟩:=(show∃t,v=Value.str z t from rx);obtain ⟨u,rfl,ru⟩:=B1u rv;cases ru;obtain ⟨its,rv,p1,_⟩:=I.list hq;exact join_list p1.isList (C2k rv) hz λt' k=>(i0d (.str (Txt.join z ys)) H (I.tok k) ⟨t',rfl⟩ q)
end
theorem A2p (hk:scope.kind= .function) (hn:∀y∈scope.names,y.2≠.free/\y.2≠.cell) (hl:∀y∈scope.names,y.2= .local->scope.names.lookup y.1=some .local):C5s X scope [] where
 eq:=closureFor_none λy hy=>(hn y hy).1
 sub:=λx c h=>by cases h
 has:=λx h=>by
  exfalso
  have e:(relabel scope X.env).names=scope.names:=map_eq_self λy hy=>by
   obtain ⟨n,k⟩:=y;have z:=(hn _ hy).1;have z':(k == NameKind.free)=false:=by simpa using z
   simp [z']
  rw [e] at h
  have mem:∀{k:NameKind},scope.names.lookup x=some k->(x,k)∈scope.names:=λ{k} q=>by
   generalize scope.names=l at q
   induction l with
   | nil=>cases q
   | cons a r ih =>
    obtain ⟨n,k'⟩:=a;rw [Z28] at q;split at q
    ·rename_i hb;have hb':x=n:=by simpa using hb
     cases q
     subst hb';exact .head _
    ·exact .tail _ (ih q)
  rcases h with h | h
  ·exact (hn _ (mem h)).2 rfl
  ·exact (hn _ (mem h)).1 rfl
 kind:=hk
 ncell:=λy hy=>(hn y hy).2
 names:=hl
theorem A2n (h:n=N'.length):C7u X N' scope (List.replicate n none):=⟨by rw [List.length_replicate];exact h,λi j e=>by
 rw [List.getElem?_replicate] at e
 split at e <;> cases e⟩
section
variable {K:Frag} {a D:Addr} {xs:List V} {g:TG} {te:TE} {Q:VK} {Z₀:St} {H:Hp}
theorem C6e (Pv:Nat->List V->Hp->Prop) (h0:Pv 0 [] (upd H D (.lst []))) (hl:∀i ys H,Pv i ys H->SqL K H a xs)
  (hs:∀i x ys H,xs[i]? =some x->Pv i ys H->g x Z₀ H λZ4 H4=>A3e Z₀ Z4/\te Z4 H4 λy H5=>H5 D=some (.lst ys)/\ys.length<sizeLine/\Pv (i+1) (ys++[y]) (upd H5 D (.lst (ys++[y])))) (hd:∀ys H,Pv xs.length ys H->Q (.ref D) H) :
  ∃W:Nat->Nat->Hp->Prop,(∃m,W 0 m (upd H D (.lst [])))/\∀i m H2,W i m H2->
   ((Itl K a).stop i H2/\Q (.ref D) H2)\/((Itl K a).go i H2/\∃N:VK,(∀y H5,N y H5->∃xs,H5 D=some (.lst xs)/\xs.length<sizeLine/\∃m',m'<m/\W (i+1) m' (upd H5 D (.lst (xs++[y]))))/\
    ∀x H3,(Itl K a).yld i H2 x H3->g x Z₀ H3 λZ4 H4=>A3e Z₀ Z4/\te Z4 H4 N):=by
 refine i02 (λi m H=>m=xs.length-i/\i<=xs.length/\∃ys,Pv i ys H) (i0b xs.length (by simp) (Z1e _) [] h0) ?_;rintro i m H2 ⟨rfl,hi,ys,p⟩;have q:=hl i ys H2 p;by_cases hlt:i<xs.length
 ·refine .inr (i05 (i07 xs (xs[i]) q (by simp [hlt])) (λy H5=>H5 D=some (.lst ys)/\ys.length<sizeLine/\Pv (i+1) (ys++[y]) (upd H5 D (.lst (ys++[y])))) (λy H5 n=>(i0t ys n.1 n.2.1 (xs.length-(i+1)) (by lia) rfl hlt _ n.2.2)) λx H3 z=> ?_);obtain ⟨e,z⟩:=z;subst e;exact hs i x ys _ (z xs q) p
 ·have e:i=xs.length:=by lia
  subst e;exact .inl ⟨(i02 xs q (Z09 _)),hd ys H2 p⟩
theorem C8z (Pv:Nat->List V->Hp->Prop) (h0:Pv 0 [] (upd H D (.lst []))) (hl:∀i ys H,Pv i ys H->SqT K H a xs)
  (hs:∀i x ys H,xs[i]? =some x->Pv i ys H->g x Z₀ H λZ4 H4=>A3e Z₀ Z4/\te Z4 H4 λy H5=>H5 D=some (.lst ys)/\ys.length<sizeLine/\Pv (i+1) (ys++[y]) (upd H5 D (.lst (ys++[y])))) (hd:∀ys H,Pv xs.length ys H->Q (.ref D) H) :
  ∃W:Nat->Nat->Hp->Prop,(∃m,W 0 m (upd H D (.lst [])))/\∀i m H2,W i m H2->
   ((Itt K a).stop i H2/\Q (.ref D) H2)\/((Itt K a).go i H2/\∃N:VK,(∀y H5,N y H5->∃xs,H5 D=some (.lst xs)/\xs.length<sizeLine/\∃m',m'<m/\W (i+1) m' (upd H5 D (.lst (xs++[y]))))/\
    ∀x H3,(Itt K a).yld i H2 x H3->g x Z₀ H3 λZ4 H4=>A3e Z₀ Z4/\te Z4 H4 N):=by
 refine i02 (λi m H=>m=xs.length-i/\i<=xs.length/\∃ys,Pv i ys H) (i0b xs.length (by simp) (Z1e _) [] h0) ?_;rintro i m H2 ⟨rfl,hi,ys,p⟩;have q:=hl i ys H2 p;by_cases hlt:i<xs.length
 ·refine .inr (i05 (i07 xs (xs[i]) q (by simp [hlt])) (λy H5=>H5 D=some (.lst ys)/\ys.length<sizeLine/\Pv (i+1) (ys++[y]) (upd H5 D (.lst (ys++[y])))) (λy H5 n=>(i0t ys n.1 n.2.1 (xs.length-(i+1)) (by lia) rfl hlt _ n.2.2)) λx H3 z=> ?_);obtain ⟨e,z⟩:=z;subst e;exact hs i x ys _ (z xs q) p
 ·have e:i=xs.length:=by lia
  subst e;exact .inl ⟨(i02 xs q (Z09 _)),hd ys H2 p⟩
end
abbrev TJ:=St->Hp->Str->(Str->Hp->Prop)->Prop
def PJ (X:Cx) (es:List Expr) (t:TJ):Prop :=
 ∀(pins:List (Addr×Obj)) (s:Shared) (Z:St) (H:Hp) (out:Str) (Q:Str->Hp->Prop),Inv X pins Z H s->t Z H out Q->wpAny (model X.prog X.w) X.A (joinParts out (evalEach es X.env)) (EP X pins Z λv H'=>∃z,v= .str z/\Q z H') X.xe s
def FmtV (x:V) (y:Str):Prop:=(x= .str y/\y.length<=sizeLine)\/∃i:Int,x= .int i/\i.natAbs.log2<1920/\y=(toString i:Str)
def D8f:TJ:=λ_ H out Q=>out.length<=sizeLine/\Q out H
def D4p (te:TE) (tr:TJ):TJ:=λZ H out Q=>te Z H λx H1=>∃y,FmtV x y/\(out++y).length<=sizeLine/\tr Z H1 (out++y) Q
def D7q (x:Str) (tr:TJ):TJ:=λZ H out Q=>(out++x).length<=sizeLine/\tr Z H (out++x) Q
section
variable {X:Cx} {e:Expr} {es:List Expr} {te:TE} {tr:TJ} {pos p2:Pos}
theorem C3y:PJ X [] D8f:=λpins s Z H out Q I h=>joinParts_nil ⟨.str out,(i0i H (I.tok _) ⟨_,rfl⟩ out rfl h.2)⟩ h.1
theorem B7b (he:PE X e te) (hr:PJ X es tr) (hs:evalEach (.FormattedValue e (-1) none pos::es) X.env=eval (.FormattedValue e (-1) none pos) X.env::evalEach es X.env:=by rfl):PJ X (.FormattedValue e (-1) none pos::es) (D4p te tr):=by
 intro pins s Z H out Q I h;rw [hs];refine joinParts_cons (FormattedValue_plain (thn (he pins s Z H _ I h) ?_));rintro v s1 zz;refine e05 zz ?_;clear zz;rintro x H1 I1 rx ⟨y,f,hz,q⟩;rcases f with ⟨rfl,hy⟩ | ⟨i,rfl,hi,rfl⟩
 ·obtain ⟨t,rfl⟩:=(show∃t,v=Value.str y t from rx);exact formatField_str (λt' tk=>⟨hz,hr pins _ Z H1 _ Q (I1.tok tk) q⟩) hy
 ·obtain ⟨t,rfl⟩:=(show∃t,v=Value.int i t from rx);exact formatField_int_small hi ⟨hz,hr pins _ Z H1 _ Q (I1.tok _) q⟩
theorem D0u {j:Nat} (hr:PJ X es tr) (hs:evalEach (.Constant (.str x) j pos::es) X.env=eval (.Constant (.str x) j pos) X.env::evalEach es X.env:=by rfl):PJ X (.Constant (.str x) j pos::es) (D7q x tr):=by
 intro pins s Z H out Q I h;rw [hs];refine joinParts_cons (thn (A1h pins s Z H (λv H'=>v= .str x/\H'=H) I ⟨rfl,rfl⟩) ?_);rintro v s1 ⟨y,H1,I1,rx,ey,eH⟩;subst ey eH;obtain ⟨t,rfl⟩:=(show∃t,v=Value.str x t from rx);exact ⟨h.1,hr pins s1 Z H1 _ Q I1 h.2⟩
def D8n (tj:TJ):TE:=λZ H Q=>tj Z H Str.empty λz H'=>Q (.str z) H'
theorem B9l {a b:Expr} {tj:TJ} (h:PJ X (a::b::es) tj) (hs:evalEach (a::b::es) X.env=eval a X.env::eval b X.env::evalEach es X.env:=by rfl):PE X (.JoinedStr (a::b::es) pos) (D8n tj):=by
 intro pins s Z H Q I hq;refine JoinedStr_many ?_;rw [<-hs];exact thn (h pins s Z H _ _ I hq) (by (rintro u s1 zz;refine e05 zz ?_;clear zz;rintro v H1 I1 rv ⟨z,ez,q⟩);subst ez;exact i0d (.str z) H1 I1 rv q)
end
theorem A6o {x:Str} {k:NameKind}:∀{l:List (Str×NameKind)},l.lookup x=some k->(x,k)∈l
 | [],q=>by cases q
 | (n,k')::r,q=>by
  rw [Z28] at q;split at q
  ·rename_i hb;have hb':x=n:=by simpa using hb
   cases q
   subst hb';exact .head _
  ·exact .tail _ (A6o q)
theorem A8l {c:Addr} (he:closureFor scope X.env=pure [(x,c)]) (hc:X.env.cells.lookup x=some c) (hk:scope.kind= .function) (hn:∀y∈scope.names,y.2≠.cell/\(y.2= .free->y.1=x))
  (hl:∀y∈scope.names,y.2= .local->scope.names.lookup y.1=some .local):C5s X scope [(x,c)] where
 eq:=he
 sub:=λy d h=>by
  rw [Z28] at h;split at h
  ·rename_i hb;have hb':y=x:=by simpa using hb
   cases h
   subst hb';exact hc
  ·cases h
 has:=λy h=>by
  have key:y=x:=by
   have m:∃k,(y,k)∈(relabel scope X.env).names/\(k= .cell\/k= .free):=h.elim (λz=>(i02 _ (A6o z) (.inl rfl))) λz=>(i02 _ (A6o z) (.inr rfl));obtain ⟨k,hm,hk⟩:=m;obtain ⟨⟨n,k0⟩,h0,e⟩:=Z2c.mp hm;dsimp only at e;by_cases hf:k0= .free
   ·have en:n=y:=by
     split at e
     ·exact congrArg Prod.fst e
     ·exact congrArg Prod.fst e
    rw [<-en];exact (hn _ h0).2 hf
   ·have hb:(k0 == NameKind.free)=false:=by simpa using hf
    simp only [hb,Bool.false_and,Bool.false_eq_true,if_false] at e;have e2:k0=k:=congrArg Prod.snd e;subst e2;rcases hk with hk | hk
    ·exact absurd hk (hn _ h0).1
    ·exact absurd hk hf
  subst key;exact ⟨c,by simp [Z28]⟩
 kind:=hk
 ncell:=λy hy=>(hn y hy).1
 names:=hl
theorem A6n {N0:List Str} {j:Nat} (hN:X.N[j]? =some x) (h1:X.env.scope.names.lookup x=some .cell\/X.env.scope.names.lookup x=some .free)
  (h2:(relabel scope X.env).names.lookup x=some .cell\/(relabel scope X.env).names.lookup x=some .free):C7u X (N0++[x]) scope (List.replicate N0.length none++[some j]):=by
 refine ⟨by simp,λi k e=> ?_⟩;by_cases hi:i<N0.length
 ·rw [Z26 (by simpa using hi),List.getElem?_replicate] at e;split at e <;> cases e
 ·have hi':i=N0.length:=by
   have:=(Z03.mp e).1;simp at this
   lia
  subst hi';rw [Z1l (by simp)] at e;have ek:j=k:=by simpa using e
  subst ek;exact i0a x (by simp) hN h1 h2
def D5e (lo c:Int) (n:Nat):It:=⟨λi _=>i<n,λi H x H'=>H'=H/\x= .int (lo+i*c),λi _=>i=n⟩
theorem C0b {tg:Expr} (it:Addr) (lo c:Int) (n:Nat):D0a P w K tg (D5e lo c n) [it] it (λi h=>IsRangeIter h it (lo+(i:Nat)*c) ((n:Int)-(i:Nat)) c) where
 mem:=by simp
 obj:=λi h st b hb=>by
  have e:b=it:=by simpa using hb
  subst e;exact i02 _ st λv z=>by cases (show Data.fields _=Data.cell v from z)
 keep:=λi h h' st k=>k it (by simp) _ st
 item:=by
  intro X hP hw hK hc i pins s Z H E I hf st hg;subst hP hw hK;obtain ⟨f0,f1,f2,f3,f4,f5⟩:=hf it (by simp);have W:=Walks.range (prog:=X.prog) (w:=X.w) (I.ok.hd hc) it lo c n;refine W.item i s _ _ hg st λv h' tk hv st' kk=> ?_;obtain ⟨t,rfl⟩:=hv;have I1:Inv X pins Z H { s with heap:=h',toks:=tk }:=I.turned (λb o hb e=>kk b o (by simpa using hb) e) f0 f1 f3 f4 f5
  exact i02 _ rfl (C3a (s:={ s with heap:=h',toks:=tk }) (n:="range_iterator") st' rfl rfl (by decide) (i0o (.int (lo+i*c)) H I1 ⟨t,rfl⟩ ⟨rfl,rfl⟩ st' λb hb=>(hf b hb).1))
 done:=by
  intro X hP hw hK hc i pins s Z H E I hf st hg;subst hP hw hK;obtain ⟨f0,f1,f2,f3,f4,f5⟩:=hf it (by simp);have W:=Walks.range (prog:=X.prog) (w:=X.w) (I.ok.hd hc) it lo c n;have e:i=n:=hg;subst e;exact W.done s _ _ st λh' tk kk=>⟨rfl,I.turned (λb o hb e=>kk b o (by simpa using hb) e) f0 f1 f3 f4 f5⟩
 self:=λA i s Q E st h=>wpAny_pyIter_rangeiter st h
def D8y (ta:TA):TI:=λZ H R=>ta Z H λvs H1=>∃a b c:Int,vs=[.int a,.int b,.int c]/\(0<=a/\a<=1000000/\-1000000<=b/\b<=1000000/\0<c/\c<=1000000)/\R (D5e a c (Builtin.Range.rangeSize a b c).toNat) H1
theorem D2f {a b c:Int} (h:0<=a/\a<=1000000/\-1000000<=b/\b<=1000000/\0<c/\c<=1000000):0<=Builtin.Range.rangeSize a b c/\Builtin.Range.rangeSize a b c<=1000000:=by
 unfold Builtin.Range.rangeSize;rw [Z12 h.2.2.2.2.1];split
 ·have h1:0<=(b-a-1)/c:=Int.ediv_nonneg (by lia) (by lia);have h2:(b-a-1)/c<=b-a-1:=Int.ediv_le_self _ (by lia)
  lia
 ·lia
theorem D5r {a b c:Int} (h:0<=a/\a<=1000000/\-1000000<=b/\b<=1000000/\0<c/\c<=1000000):Builtin.Range.small a b c=true:=by
 obtain ⟨s1,s2⟩:=D2f h;unfold Builtin.Range.small;simp only [Builtin.Range.rangeFitsLong,Z1x,Bool.or_eq_true,decide_eq_true_eq,beq_iff_eq,Z12 h.2.2.2.2.1]
 lia
theorem B8l {tg:Expr} {a b c:Expr} {ta:TA} {p:Pos} (hg:Gl X "range") (hm:X.mg "range"=none) (ha:PA X [a,b,c] ta) (hs:starEach [a,b,c] X.env=[(false,eval a X.env),(false,eval b X.env),(false,eval c X.env)]:=by rfl)
  (hs2:starEach [b,c] X.env=[(false,eval b X.env),(false,eval c X.env)]:=by rfl):PI X tg (.Call (.Name "range" p) [a,b,c] [] pos) (D8y ta):=by
 intro pins s Z H R I h;refine Call_ (B4w I hg hm boot_range (PyProof.Rows.callWith_type1 (thn (ha pos pins s Z H _ I h) ?_) (by rw [hs,hs2]) (by rw [hs2];rfl)));rintro us s1 ⟨vs,H1,I1,r1,q1⟩;obtain ⟨i,j,k,e,hb,q⟩:=q1;subst e
 cases r1 with
 | cons r rr =>
  cases rr with
  | cons r' rr =>
   cases rr with
   | cons r'' rr =>
    cases rr
    obtain ⟨t,rfl⟩:=r;obtain ⟨t',rfl⟩:=r';obtain ⟨t'',rfl⟩:=r'';refine call_range_3 (by lia) ?_ (.inl (PyProof.noPylong_small (by lia)));have I2:Inv X pins Z H1 { s1 with heap:=s1.heap.push { cls:= .type "range",data:= .fields #[.int i t,.int j t',.int k t''] },toks:=s1.toks }:=I1.kept λb o e=>Z01 _ e
    refine wpAny_pyIter_range (t:=t) (u:=t') (v:=t'') (s:={ s1 with heap:=s1.heap.push { cls:= .type "range",data:= .fields #[.int i t,.int j t',.int k t''] },toks:=s1.toks }) (Z0c _ rfl) (D5r hb) ?_;have e1:i+((0:Nat):Int)*k=i:=by simp
    have e2:(((Builtin.Range.rangeSize i j k).toNat:Nat):Int)-((0:Nat):Int)=Builtin.Range.rangeSize i j k:=by have:=(D2f hb).1;lia
    refine i11 _ [(s1.heap.push { cls:= .type "range",data:= .fields #[.int i t,.int j t',.int k t''] }).objs.size] _ _ H1 rfl (I2.kept (t':=s1.toks) λb o e=>Z01 _ e) (C0b _ i k _) ?_ (λb hb=> ?_) q
    ·show IsRangeIter _ _ (i+((0:Nat):Int)*k) _ k;rw [e1,e2];exact Z0c _ rfl
    ·have e:b=(s1.heap.push { cls:= .type "range",data:= .fields #[.int i t,.int j t',.int k t''] }).objs.size:=by simpa using hb
     subst e;exact I2.fpOk (Z09 _) (I2.hok.fresh (Z09 _))
theorem C3m {lo c:Int} {tb:TS} {D:C3t} (Pv:Nat->St->Hp->Prop) (h0:Pv 0 Z H)
  (hs:∀i Z H,i<n->Pv i Z H->g (.int (lo+i*c)) Z H λZ2 H2=>tb { D with nx:=Pv (i+1),ct:=Pv (i+1),bk:=D.nx } Z2 H2) (hd:∀Z H,Pv n Z H->D.nx Z H) :
  ∃W:Nat->Nat->St->Hp->Prop,(∃m,W 0 m Z H)/\∀i m Z H,W i m Z H->
   ((D5e lo c n).stop i H/\D.nx Z H)\/((D5e lo c n).go i H/\∃N:St->Hp->Prop,(∀Z' H',N Z' H'->∃m',m'<m/\W (i+1) m' Z' H')/\∀x H',(D5e lo c n).yld i H x H'->g x Z H' λZ2 H2=>tb { D with nx:=N,ct:=N,bk:=D.nx } Z2 H2):=by
 refine i02 (λi m Z H=>m=n-i/\i<=n/\Pv i Z H) (i06 n (by simp) (Z1e _) h0) ?_;rintro i m Z H ⟨rfl,hi,p⟩;by_cases hlt:i<n
 ·refine .inr (i05 hlt (Pv (i+1)) (λZ' H' p'=>(i0a (n-(i+1)) (by lia) rfl hlt p')) λx H' y=> ?_);obtain ⟨e,rfl⟩:=y;subst e;exact hs i Z _ hlt p
 ·have e:i=n:=by lia
  subst e;exact .inl ⟨rfl,hd Z H p⟩
theorem A0s {o:HO} (s:A1f H H') (hl:H l=none):A1f H (upd H' l o):=λb u e=>by
 rw [A0k (A1g e hl)];exact s b u e
theorem A0f {o:HO} (hl:H l=none):A1f H (upd H l o):=A0s (A1f.refl H) hl
theorem A2h {x dx:Addr} {o v:HO} (hx:H x=none) (hd:H dx=none):A1f H (upd (upd (upd H dx o) x u) x v):=A0s (A0s (A0f hd) hx) hx
theorem A1k (h:n<=1000000):n<=sizeLine:=by rw [sizeLine_eq];lia
theorem A1l (h:n<=1000000):n<sizeLine:=by rw [sizeLine_eq];lia
noncomputable def A1a (S:Addr->Prop) (H:Hp):Hp:=λa=> @ite _ (S a) (Classical.propDecidable _) (H a) none
theorem C1i (h:S a):A1a S H a=H a:=by unfold A1a;rw [Z12 h]
theorem C6r (h:¬S a):A1a S H a=none:=by unfold A1a;rw [Z0t h]
theorem A0t {o:HO} (h:A1a S H a=some o):S a/\H a=some o:=by
 by_cases hs:S a
 ·rw [C1i hs] at h;exact ⟨hs,h⟩
 ·rw [C6r hs] at h;cases h
theorem A0i {o:HO} (hs:S a) (h:H a=some o):A1a S H a=some o:=by rw [C1i hs];exact h
theorem A0j:A1f (A1a S H) H:=λ_ _ e=>(A0t e).2
theorem A0h (s:A1f H H'):A1f (A1a S H) (A1a S H'):=λb o e=>A0i (A0t e).1 (s _ _ (A0t e).2)
theorem A3b {S':Addr->Prop} (s:A1f H H') (h:∀a o,H a=some o->S a->S' a):A1f (A1a S H) (A1a S' H'):=λb o e=>A0i (h _ _ (A0t e).2 (A0t e).1) (s _ _ (A0t e).2)
theorem A2o {o:HO} (s:A1f (A1a S H) (A1a S H')) (h:¬S l):A1f (A1a S H) (A1a S (upd H' l o)):=λb u e=>by
 have q:=A0t (s _ _ e);have hne:b≠l:=λz=>h (by rw [<-z];exact q.1);exact A0i q.1 (by rw [A0k hne];exact q.2)
def Fr (S:Addr->Prop) (H:Hp):Prop:=∀a,H a=none->S a
theorem Fr.same (f:Fr S H) (s:A1f H H'):Fr S H':=λa h=>f a (s.free h)
mutual
theorem Rep.imp2 {H H':Hp} (f:∀p xs,H p=some (.lst xs)->H' p=some (.lst xs)) (g:∀p xs,H p=some (.tup xs)->H' p=some (.tup xs)):∀{v:V} {d:PyData},Rep H v d->Rep H' v d
 | _,_,.non=> .non
 | _,_,.bl b=> .bl b
 | _,_,.int i=> .int i
 | _,_,.str x=> .str x
 | _,_,.lst e r=> .lst (f _ _ e) (A4s.imp2 f g r)
 | _,_,.tup e r=> .tup (g _ _ e) (A4s.imp2 f g r)
theorem A4s.imp2 {H H':Hp} (f:∀p xs,H p=some (.lst xs)->H' p=some (.lst xs)) (g:∀p xs,H p=some (.tup xs)->H' p=some (.tup xs)):∀{vs:List V} {ds:List PyData},A4s H vs ds->A4s H' vs ds
 | _,_,.nil=> .nil
 | _,_,.cons a r=> .cons (Rep.imp2 f g a) (A4s.imp2 f g r)
end
theorem Rep.ins {d:PyData} {p dx:Addr} {fs:List (Str×V)} {o:HO} (h:Rep H v d) (e:H p=some (.ins C dx fs)):Rep (upd H p o) v d :=
 h.imp2 (λq xs z=>by rw [A0k (A3a z e (by intro w;cases w))];exact z) (λq xs z=>by rw [A0k (A3a z e (by intro w;cases w))];exact z)
section
variable {G:Hp} {v:V} {vs:List V} {d:PyData} {ds:List PyData}
theorem B5z (h:Rep G v (.tuple ds)):∃p xs,v= .ref p/\G p=some (.tup xs)/\A4s G xs ds:=by
 cases h with
 | tup e r=>exact i0d _ _ rfl e r
theorem A5q (h:Rep G v (.list ds)):∃p xs,v= .ref p/\G p=some (.lst xs)/\A4s G xs ds:=by
 cases h with
 | lst e r=>exact i0d _ _ rfl e r
theorem B1h (h:Rep G v (.str x)):v= .str x:=by cases h;rfl
theorem C1c {x:Int} (h:Rep G v (.int x)):v= .int x:=by cases h;rfl
theorem A4g (h:A4s G vs (d::ds)):∃u r,vs=u::r/\Rep G u d/\A4s G r ds:=by
 cases h with
 | cons a r=>exact i0d _ _ rfl a r
theorem B2h (h:A4s G vs []):vs=[]:=by cases h;rfl
end
mutual
def cnt:PyData->Nat
 | .none=>1
 | .bool _=>1
 | .int _=>1
 | .str _=>1
 | .list xs=>A4d xs+1
 | .tuple xs=>A4d xs+1
 | .dict _=>1
def A4d:List PyData->Nat
 | []=>0
 | x::xs=>cnt x+A4d xs
end
theorem D2o (d:PyData):1<=cnt d:=by cases d <;> simp [cnt]
theorem B9p:∀ds:List PyData,ds.length<=A4d ds
 | []=>by simp [A4d]
 | d::r=>by
  have:=B9p r;have:=D2o d;simp only [A4d,Z0y]
  lia
theorem C5z:∀{ds:List PyData} {i:Nat} {d:PyData},ds[i]? =some d->cnt d<=A4d ds/\PyData.depth d<=PyData.depthAll ds
 | [],_,_,e=>by simp at e
 | d::r,0,_,e=>by
  simp at e;subst e;simp only [A4d,PyData.depthAll]
  lia
 | x::r,i+1,d,e=>by
  have:=C5z (ds:=r) (i:=i) (d:=d) (by simpa using e);simp only [A4d,PyData.depthAll]
  lia
theorem A4s.get2 {H:Hp}:∀{vs:List V} {ds:List PyData} {i:Nat} {v:V},A4s H vs ds->vs[i]? =some v->∃d,ds[i]? =some d/\Rep H v d
 | _,_,_,_,.nil,e=>by simp at e
 | _,_,0,_,.cons a _,e=>by simp at e;subst e;exact i02 _ rfl a
 | _,_,i+1,v,.cons _ r,e=>by
  obtain ⟨d,h1,h2⟩:=A4s.get2 (i:=i) (v:=v) r (by simpa using e);exact i02 d (by simpa using h1) h2
theorem lk0 {k:Str}:List.lookup k ((k,v)::r)=some v:=by simp [Z28]
theorem lk1 {k j:Str} {o:Option V} (h:(k == j)=false) (e:List.lookup k r=o):List.lookup k ((j,v)::r)=o:=by
 rw [Z28,h];exact e
theorem A1p {f:Str}:A4h f v []=[(f,v)]:=rfl
theorem A1j {f g:Str} {x:V} (h:¬g=f):A4h f v ((g,x)::r)=(g,x)::A4h f v r:=by rw [A4h,Z0t h]
theorem A4m {c:Prop} [Decidable c] (h1:c->A) (h2:¬c->B):if decide c=true then A else B :=
 C4v (λh=>h1 (of_decide_eq_true h)) (λh=>h2 λhc=>h (Z20 hc))
theorem D8l {c:Prop} [Decidable c] (h1:¬c->A) (h2:c->B):if (! decide c)=true then A else B :=
 C4v (λh=>h1 λhc=>by rw [Z20 hc] at h;cases h) (λh=>h2 (by
  by_cases hc:c
  ·exact hc
  ·rw [Z1j hc] at h;exact absurd rfl h))
section
variable {X:Cx}
theorem B1o {tg l:Expr} {tl:TE} (hl:PE X l tl):PI X tg l (λZ H R=>D6k X.K tl Z H R\/D9j X.K tl Z H R):=λpins s Z H R I h=>h.elim (A2q hl pins s Z H R I) (C9z hl pins s Z H R I)
end
theorem B7s {α:Type} {xs:List α} {i:Int} (h0:0<=i) (h1:i<xs.length):∃v,xs[i.toNat]? =some v/\atI xs i=some v:=by
 obtain ⟨n,rfl⟩:=Int.eq_ofNat_of_zero_le h0;have hn:n<xs.length:=by lia
 exact i02 (xs[n]) (by simp [hn]) (A1s (by simp [hn]))
theorem A5u {α:Type} {f:α->V} {xs:List α} {i:Int} (h0:0<=i) (h1:i<xs.length):∃x,xs[i.toNat]? =some x/\atI (xs.map f) i=some (f x):=by
 obtain ⟨n,rfl⟩:=Int.eq_ofNat_of_zero_le h0;have hn:n<xs.length:=by lia
 exact i02 (xs[n]) (by simp [hn]) (A1s (by simp [hn]))
theorem C1v {α:Type} {xs:List α} (h:0<xs.length):∃v,xs[xs.length-1]? =some v/\atI xs (-1)=some v:=by
 have hl:xs.length-1<xs.length:=by lia
 refine i02 (xs[xs.length-1]) (by simp [hl]) ?_
 have e:ixN xs.length (-1)=some (xs.length-1):=by
  unfold ixN;rw [Z0t (by decide),Z12 (by lia)];congr 1
  lia
 unfold atI;rw [e];simp [hl]
section
variable {K:Frag} {a D:Addr} {xs:List V} {g:TG} {te:TE} {QD:Hp->Prop} {Z₀:St} {H:Hp}
theorem A2w (Pv:Nat->List V->Hp->Prop) (h0:Pv 0 [] (upd H D (.lst []))) (hl:∀i ys H,Pv i ys H->SqL K H a xs)
  (hs:∀i x ys H,xs[i]? =some x->Pv i ys H->g x Z₀ H λZ4 H4=>A3e Z₀ Z4/\te Z4 H4 λy H5=>H5 D=some (.lst ys)/\ys.length<sizeLine/\Pv (i+1) (ys++[y]) (upd H5 D (.lst (ys++[y])))) (hd:∀ys H,Pv xs.length ys H->QD H) :
  ∃W:Nat->Nat->Hp->Prop,(∃m,W 0 m (upd H D (.lst [])))/\∀i m H2,W i m H2->
   ((Itl K a).stop i H2/\QD H2)\/((Itl K a).go i H2/\∃N:VK,(∀y H5,N y H5->∃xs,H5 D=some (.lst xs)/\xs.length<sizeLine/\∃m',m'<m/\W (i+1) m' (upd H5 D (.lst (xs++[y]))))/\
    ∀x H3,(Itl K a).yld i H2 x H3->g x Z₀ H3 λZ4 H4=>A3e Z₀ Z4/\te Z4 H4 N):=C6e (Q:=λ_ H=>QD H) Pv h0 hl hs hd
theorem C5w (Pv:Nat->List V->Hp->Prop) (h0:Pv 0 [] (upd H D (.lst []))) (hl:∀i ys H,Pv i ys H->SqT K H a xs)
  (hs:∀i x ys H,xs[i]? =some x->Pv i ys H->g x Z₀ H λZ4 H4=>A3e Z₀ Z4/\te Z4 H4 λy H5=>H5 D=some (.lst ys)/\ys.length<sizeLine/\Pv (i+1) (ys++[y]) (upd H5 D (.lst (ys++[y])))) (hd:∀ys H,Pv xs.length ys H->QD H) :
  ∃W:Nat->Nat->Hp->Prop,(∃m,W 0 m (upd H D (.lst [])))/\∀i m H2,W i m H2->
   ((Itt K a).stop i H2/\QD H2)\/((Itt K a).go i H2/\∃N:VK,(∀y H5,N y H5->∃xs,H5 D=some (.lst xs)/\xs.length<sizeLine/\∃m',m'<m/\W (i+1) m' (upd H5 D (.lst (xs++[y]))))/\
    ∀x H3,(Itt K a).yld i H2 x H3->g x Z₀ H3 λZ4 H4=>A3e Z₀ Z4/\te Z4 H4 N):=C8z (Q:=λ_ H=>QD H) Pv h0 hl hs hd
end
theorem A6y {D:Addr} (h1:isClsIn K D=true) (h2:typeIn K (.ref D)=some (.type "type")) (h3:mroIn K C (.ref D)=some true):kitOne K (.ref C) (.ref D)=some true:=by
 unfold kitOne;split
 ·rfl
 ·show (if ((clsIn K D).isSome&&typeIn K (.ref D) == some (.type "type"))=true then subIn K (.ref C) (.ref D) else none)=some true;have h1':(clsIn K D).isSome=true:=h1;rw [Z12 (by rw [h1',h2];rfl)];exact h3
theorem A0p {D:Addr} (h0:(Value.ref C == Value.ref D)=false) (h1:isClsIn K D=true) (h2:typeIn K (.ref D)=some (.type "type")) (h3:mroIn K C (.ref D)=some false):kitOne K (.ref C) (.ref D)=some false:=by
 unfold kitOne;rw [Z0t (by rw [h0];exact Z0v)];show (if ((clsIn K D).isSome&&typeIn K (.ref D) == some (.type "type"))=true then subIn K (.ref C) (.ref D) else none)=some false;have h1':(clsIn K D).isSome=true:=h1;rw [Z12 (by rw [h1',h2];rfl)];exact h3
section
variable {X:Cx}
theorem Inv.frozen (I:Inv X pins Z H s) (ha:H a=some (.dK kvs)) (ho:s.heap.get? a=some o):Inv X pins Z (upd H a (.frz o (.dK kvs))) s :=
 I.write (t':=s.toks) (h':=s.heap) (e:=a) (by rw [ha];trivial) (.inl rfl) (λ_ _ _ e=>e) ⟨o,ho⟩ ⟨ho,(show A2v X.prog X.w H s.heap a (.dK kvs) from I.hok a _ ha)⟩
theorem Inv.thaw (I:Inv X pins Z H s) (ha:H a=some (.frz o u)) (hu:∃kvs,u= .dK kvs) (h0:∀o' u',X.H₀ a≠some (.frz o' u')):Inv X pins Z (upd H a u) s:=by
 have nf:∀b,H b=none->upd H a u b=none:=λb e=>by rw [A0k (λz=>by subst z;rw [ha] at e;cases e)];exact e
 obtain ⟨kvs,rfl⟩:=hu
 refine ⟨I.ok,I.os,I.bare,⟨I.base.keep,I.base.slot,λb ob e n hx=>nf b (I.base.free b ob e n hx),I.base.there,λb xs e=> ?_,λb ob u' e=> ?_,λb ps e=> ?_⟩,I.loc,I.cell,nf _ I.free,λx c e=>nf _ (I.freeC x c e),
  λp hp=>(i00 ((I.pin p hp).1) (nf _ (I.pin p hp).2.1) ((I.pin p hp).2.2)),λb v e=> ?_,I.len⟩
 ·have q:=I.base.tups b xs e;rw [A0k (A3a q ha (by intro z;cases z))];exact q
 ·have q:=I.base.frzs b ob u' e;rw [A0k (λz=>by subst z;exact h0 _ _ e)];exact q
 ·obtain ⟨more,q⟩:=I.base.tbls b ps e;exact ⟨more,by rw [A0k (A3a q ha (by intro z;cases z))];exact q⟩
 ·by_cases hb:b=a
  ·subst hb;rw [A0b] at e;cases e;obtain ⟨_,q⟩:=(show A2v X.prog X.w H s.heap b (.frz o (.dK kvs)) from I.hok b _ ha);exact q
  ·rw [A0k hb] at e;exact (I.hok b v e).stay (λ_ _ _ q=>q) (λc q=>by rw [A0k (A3a q ha (by intro z;cases z))];exact q) λc xs q=>by rw [A0k (A3a q ha (by intro z;cases z))];exact q
def D8j (X:Cx) (t:TS):TS:=λD Z H=>∃a o kvs,H a=some (.frz o (.dK kvs))/\(∀o' u',X.H₀ a≠some (.frz o' u'))/\t D Z (upd H a (.dK kvs))
theorem C1x {sts:List Stmt} {t:TS} (h:PSs X sts t):PSs X sts (D8j X t):=by
 intro pins s Z H D I hw;obtain ⟨a,o,kvs,ha,h0,q⟩:=hw;exact h pins s Z _ D (I.thaw ha ⟨kvs,rfl⟩ h0) q
def Itd (a:Addr) (o:Obj) (kvs:List (Key×V)):It :=
 ⟨λi H=>H a=some (.frz o (.dK kvs))/\i<kvs.length,λi H x H'=>H'=H/\∃k v,kvs[i]? =some (k,v)/\x=kV k,λi H=>H a=some (.frz o (.dK kvs))/\i=kvs.length⟩
theorem D2p {k:Key} {u:Value} (h:(A2l P w).is k u=true):A3j (kV k) u:=by
 rcases A2z (show C0s k u=true from h) with ⟨i,t,rfl,rfl⟩ | ⟨x,t,rfl,rfl⟩
 ·exact ⟨t,rfl⟩
 ·exact ⟨t,rfl⟩
theorem KV.at:KV kvs vs->∀{i:Nat} {k:Key} {v:V},kvs[i]? =some (k,v)->∃u,vs[i]? =some (k,u)/\A3j v u:=by
 intro r;unfold KV at r
 induction r with
 | nil=>intro i k v e;simp at e
 | @cons p q ps qs h t ih =>
  intro i k v e
  cases i with
  | zero =>
   simp at e;subst e;obtain ⟨h1,h2⟩:=h;obtain ⟨q1,q2⟩:=q;cases h1;exact i02 q2 rfl h2
  | succ j =>
   obtain ⟨u,e1,e2⟩:=ih (i:=j) (by simpa using e);exact i02 u (by simpa using e1) e2
end
theorem C6p (ok:HOk P w H h) (ha:H a=some (.frz o (.dK kvs))) (ho:o.data= .dict es ep) :
  (a == sysModules)=false/\∃vs,KV kvs vs/\h.DictAt (A2l P w) a vs ep:=by
 obtain ⟨e1,hz,hs,vs,rel,o',es',ep',e2,c,d,r⟩:=(show A2v P w H h a (.frz o (.dK kvs)) from ok a _ ha);rw [e1] at e2;cases e2;rw [ho] at d;cases d;exact ⟨hs,(i0q vs rel o es e1 c ho r)⟩
theorem C7b {tg:Expr} (it a:Addr) (o:Obj) (kvs:List (Key×V)) (es:Array DictEntry) (ep:Nat) (ho:o.data= .dict es ep) :
  D0a P w K tg (Itd a o kvs) [it] it (λi h=>h.IsKeyIter it a i kvs.length ep) where
 mem:=by simp
 obj:=λi h st b hb=>by
  have e:b=it:=by simpa using hb
  subst e;obtain ⟨ob,e,_,d⟩:=st;exact i02 ob e λv z=>by rw [d] at z;cases z
 keep:=λi h h' st k=>st.at λob e=>k it (by simp) ob e
 item:=by
  intro X hP hw hK hc i pins s Z H E I hf st hg;subst hP hw hK;obtain ⟨ha,hi⟩:=hg;obtain ⟨f0,f1,f2,f3,f4,f5⟩:=hf it (by simp);obtain ⟨_,vs,rel,dd⟩:=C6p I.hok ha ho;have hl:=rel.length;obtain ⟨⟨k,v⟩,hkv⟩:∃p,kvs[i]? =some p:=⟨kvs[i],by simp [hi]⟩;obtain ⟨u,hu,_⟩:=rel.at hkv;rw [hl] at st;refine wpAny_pyNext_dict_item st dd hu λkey h' hk hit sb=> ?_;have I1:Inv X pins Z H { s with heap:=h',toks:=s.toks }:=I.turned (t':=s.toks) (λb ob hb e=>(sb.2 b hb).trans e) f0 f1 f3 f4 f5
  obtain ⟨ob,e,c,d⟩:=id hit;exact i02 key rfl (C3a (s:={ s with heap:=h' }) e c d (by decide) (i0o (kV k) H I1 (D2p hk) (i09 rfl k v hkv rfl) (by rw [hl];exact hit) λb hb=>(hf b hb).1))
 done:=by
  intro X hP hw hK hc i pins s Z H E I hf st hg;subst hP hw hK;obtain ⟨ha,hi⟩:=hg;obtain ⟨f0,f1,f2,f3,f4,f5⟩:=hf it (by simp);obtain ⟨_,vs,rel,dd⟩:=C6p I.hok ha ho;have hl:=rel.length;rw [hl] at st;exact wpAny_pyNext_dict_end (I.ok.hd hc) st dd (by simp;lia) λh' eb=>⟨rfl,I.turned (t':=s.toks) (λb ob hb e=>eb b ob hb e) f0 f1 f3 f4 f5⟩
 self:=λ_ _ _ _ _ st h=>wpAny_pyIter_keyiter st h
def D8r (tl:TE):TI:=λZ H R=>tl Z H λx H1=>∃a kvs,x= .ref a/\H1 a=some (.dK kvs)/\∀o,R (Itd a o kvs) (upd H1 a (.frz o (.dK kvs)))
theorem C7l {tg l:Expr} {tl:TE} (hl:PE X l tl):PI X tg l (D8r tl):=by
 intro pins s Z H R I h;refine thn (hl pins s Z H _ I h) ?_;rintro u s1 zz;refine e05 zz ?_;clear zz;rintro x H1 I1 rx ⟨a,kvs,ex,ha,q⟩;subst ex;cases rx;refine e0c (C4d I1.hok ha) ?_;rintro hz hs vs rel o es ep ho ⟨hx,hd,r⟩;have dd:s1.heap.DictAt (A2l X.prog X.w) a vs ep:=(i0k o es ho hx hd r);refine wpAny_pyIter_dict hs dd ?_;have I2:Inv X pins Z H1 { s1 with heap:=s1.heap.push { cls:= .type "dict_keyiterator",data:= .fields #[.ref a,.int 0 0,.int vs.length 0,.int ep 0] },toks:=s1.toks }:=I1.kept λb ob e=>Z01 _ e
 have I3:=I2.frozen ha (Z01 _ ho);refine i11 _ [s1.heap.objs.size] _ _ _ rfl I3 (C7b _ a o kvs es ep hd) ?_ (λb hb=> ?_) (q o)
 ·rw [rel.length];exact i06 _ (Z0c _ rfl) rfl rfl
 ·have e:b=s1.heap.objs.size:=by simpa using hb
  subst e;refine I1.fpOk (Z09 _) ?_;rw [A0k (Z1q (I1.hok.lt ha))];exact I1.hok.fresh (Z09 _)
theorem C6a {H2:Hp} (ha:H a=some u) (s:A1f (upd H a (.frz o u)) H2):A1f H (upd H2 a u):=λb v e=>by
 by_cases hb:b=a
 ·subst hb;rw [ha] at e;cases e;exact A0b
 ·rw [A0k hb];exact s b v (by rw [A0k hb];exact e)
theorem B4u:∀{l:List (Key×Value)} {p:Key×Value},(l.map (·.1)).Nodup->p∈l->PySem.valueAt l p.1=some p.2
 | [],_,_,h=>by cases h
 | q::r,p,hn,h=>by
  have hn:(q.1::r.map (·.1)).Nodup:=hn;obtain ⟨n1,n2⟩:=Z15.mp hn;rcases Z0e.mp h with rfl | h
  ·simp [PySem.valueAt]
  ·have hne:¬q.1=p.1:=λe=>n1 (e▸List.mem_map_of_mem h);have:=B4u n2 h
   simpa [PySem.valueAt,Z2h,hne] using this
section
variable {X:Cx}
def C7m (ix:List (Option Nat)) (wi:TI) (g:TG) (tc:TT) (te:TE):TE:=λZ H Q=>wi Z H λJ H1=>∀D,H1 D=none->∃W:Nat->Nat->Hp->Prop,(∃m,W 0 m (upd H1 D (.lst [])))/\∀i m H2,W i m H2->
 (J.stop i H2/\Q (.ref D) H2)\/(J.go i H2/\∃(N:VK) (M:Hp->Prop),(∀y H5,N y H5->∃xs,H5 D=some (.lst xs)/\xs.length<sizeLine/\∃m',m'<m/\W (i+1) m' (upd H5 D (.lst (xs++[y]))))/\(∀H5,M H5->∃m',m'<m/\W (i+1) m' H5)/\∀x H3,J.yld i H2 x H3->g x (A6j ix Z) H3 λZ4 H4=>A3e (A6j ix Z) Z4/\tc Z4 H4 λb H5=>if b=true then te Z4 H5 N else M H5)
def PTs (X:Cx) (cs:List Expr) (t:TT):Prop :=
 ∀(pins:List (Addr×Obj)) (s:Shared) (Z:St) (H:Hp) (Q:Bool->Hp->Prop),Inv X pins Z H s->t Z H Q->wpAny (model X.prog X.w) X.A (forIn cs true λc r=>if r=true then do let ok<-isTrue c X.env (eval c X.env);pure (ForInStep.yield ok) else pure (ForInStep.yield r)) (TP X pins Z Q) X.xe s
theorem C2c {tg:Expr} (hc:X.calm=true) (ck:C5s X scope cl) (io:C7u X N' scope ix) (hi:PI X tg iter wi)
  (hg:∀C s₀ H₀ fp,PG (blk X N' scope cl C s₀ H₀ fp) tg g) (ht:∀C s₀ H₀ fp,PTs (blk X N' scope cl C s₀ H₀ fp) cs tc) (he:∀C s₀ H₀ fp,PE (blk X N' scope cl C s₀ H₀ fp) elt te) (R:VK->St->It->Hp->Prop) (hR:∀Q Z J H1,R Q Z J H1->∀D,H1 D=none->∃W:Nat->Nat->Hp->Prop,(∃m,W 0 m (upd H1 D (.lst [])))/\∀i m H2,W i m H2->
 (J.stop i H2/\Q (.ref D) H2)\/(J.go i H2/\∃(N:VK) (M:Hp->Prop),(∀y H5,N y H5->∃xs,H5 D=some (.lst xs)/\xs.length<sizeLine/\∃m',m'<m/\W (i+1) m' (upd H5 D (.lst (xs++[y]))))/\(∀H5,M H5->∃m',m'<m/\W (i+1) m' H5)/\∀x H3,J.yld i H2 x H3->g x (A6j ix Z) H3 λZ4 H4=>A3e (A6j ix Z) Z4/\tc Z4 H4 λb H5=>if b=true then te Z4 H5 N else M H5)) (hs:∀x,foldedSetIterable iter X.env x=pure x:=by intro _;rfl) :
  PE X (.ListComp elt [⟨tg,iter,cs,0⟩] scope pos) (λZ H Q=>wi Z H (R Q Z)):=by
 intro pins s Z H Q I h;rw [eval_ListComp];refine wpAny_comprehension_free (use:=none) rfl hs ck.eq ck.kind ck.names (thn (hi pins s Z H _ I h) λxv s1 h1=>thn h1 λitv s2 h2=> ?_);refine e0e h2 ?_;clear h2;rintro it fp tn J H1 rfl I1 T st1 ⟨f1,R1⟩;refine Z16 ?_;have hD:H1 s2.heap.objs.size=none:=I1.hok.fresh (Z09 _);obtain ⟨W,⟨m0,w0⟩,turn⟩:=hR _ _ _ _ R1 _ hD;have hfD:∀b∈fp,b<s2.heap.objs.size:=λb hb=>let ⟨o,e,_⟩:=T.obj _ _ st1 b hb;Z0a e;have I2:Inv X pins Z (upd H1 s2.heap.objs.size (.lst [])) { s2 with heap:=s2.heap.push { cls:= .type "list",data:= .seq ([]:List Value).toArray },toks:=s2.toks }:=I1.lnew (its:=[]) .nil (Z1e _);have f2:∀b∈fp,C0r X pins (upd H1 s2.heap.objs.size (.lst [])) b:=λb hb=>⟨by rw [A0k (Z0h (hfD b hb))];exact (f1 b hb).1,(f1 b hb).2⟩
 have lt2:∀b∈fp,b<(s2.heap.push { cls:= .type "list",data:= .seq ([]:List Value).toArray }).objs.size:=λb hb=>by rw [Z1s];exact Nat.lt_succ_of_lt (hfD b hb)
 refine wpAny_newFunctionEnv ck.ncell (by intro y hy;simp at hy) (λh3 hns sb3=> ?_) ck.kind;dsimp only at hns sb3⊢;have k3:∀b o,(s2.heap.push { cls:= .type "list",data:= .seq ([]:List Value).toArray }).get? b=some o->h3.get? b=some o:=λb o e=>(sb3.2 b (Z0h (Z0a e))).trans (Z01 _ e);generalize hs2:({ s2 with heap:=s2.heap.push { cls:= .type "list",data:= .seq ([]:List Value).toArray },toks:=s2.toks }:Shared)=s3 at I2;have e3:s2.heap.push { cls:= .type "list",data:= .seq ([]:List Value).toArray }=s3.heap:=by rw [<-hs2]
 rw [e3] at hns k3 lt2;have I3:=B7d (N':=N') (ix:=ix) I2 ck io f2 lt2 (h':=h3) (t':=s2.toks+([]:List (Str×Value)).length) hns k3;have e4:({ s3 with heap:=h3,toks:=s2.toks+([]:List (Str×Value)).length }:Shared)={ s2 with heap:=h3,toks:=s2.toks+([]:List (Str×Value)).length }:=by rw [<-hs2]
 rw [e4] at I3;have st3:tn 0 h3:=T.keep _ _ _ st1 λb hb o e=>k3 b o (by rw [<-e3];exact Z01 _ e)
 have loop:∀s4:Shared,s4={ s2 with heap:=h3,toks:=s2.toks+([]:List (Str×Value)).length }->
   codeAny (model X.prog X.w) X.A (.compLoop (.ListComp elt [⟨tg,iter,cs,0⟩] scope pos) 0 (.ref it) (.ref s2.heap.objs.size) (compEnvC scope cl s3.heap.objs.size X.env))
    (compPost (model X.prog X.w) X.A X.xe none (EP X pins Z Q) (.ref s2.heap.objs.size) s3.heap.objs.size) s4:=by
  rintro s4 rfl
  have stat:∀{H':Hp},(∀b∈fp,H' b=none)->∀b∈fp,C0r (blk X N' scope cl s3.heap.objs.size s3 (upd H1 s2.heap.objs.size (.lst [])) fp) [] H' b:=λhn b hb =>
   (i0g (hn b hb) (Z0h (lt2 b hb)) (λhs=>I3.ok.exfs b hb hs) (.inl hb) (λx c e=>(f2 b hb).2.2.2.2.1 x c (ck.sub x c e)) (λp hp=>by cases hp))
  refine codeAny_loop rfl (λn s'=>∃i Z' H',Inv (blk X N' scope cl s3.heap.objs.size s3 (upd H1 s2.heap.objs.size (.lst [])) fp) [] Z' H' s'/\(∀(j:Nat) v,(A6j ix Z)[j]? =some (some v)->Z'[j]? =some (some v))/\tn i s'.heap/\(∀b∈fp,H' b=none)/\W i n H')
   (λn s' hI=> ?_) m0 (i0s 0 _ _ I3 (λ_ _ z=>z) st3 (λb hb=>(f2 b hb).1) w0)
  refine e09 hI ?_;clear hI;rintro i Z5 H5 I5 wk st5 ⟨fr5,w5⟩;show wpAny _ _ ((compTurn (.ListComp elt [⟨tg,iter,cs,0⟩] scope pos) 0 (.ref it) (.ref s2.heap.objs.size) (compEnvC scope cl s3.heap.objs.size X.env)).onRaise (λx=>do noteFrame x (compEnvC scope cl s3.heap.objs.size X.env);theTreesLotGoes x)) _ _ s';refine wpAny_noted ?_;rw [compTurn_list];refine Z00 (Z1y ?_);rcases turn i n H5 w5 with ⟨stop,qn⟩ | ⟨go,NN,MM,hNN,hMM,step⟩
  ·refine Z00 (Z10 (T.done (blk X N' scope cl s3.heap.objs.size s3 (upd H1 s2.heap.objs.size (.lst [])) fp) rfl rfl rfl hc i [] s' Z5 H5 (λ_ _=>False) I5 (stat fr5) st5 stop) (λr s6 h6=> ?_) λ_ _ z=>z.elim);obtain ⟨rfl,I6⟩:=h6;refine Z04 ?_;obtain ⟨mm,hm,_⟩:=id I6.loc;exact i02 mm hm λh' sb=>(i0d (.ref s2.heap.objs.size) H5 (C3x I2 f2 I6 sb) rfl qn)
  ·refine Z00 (Z10 (T.item (blk X N' scope cl s3.heap.objs.size s3 (upd H1 s2.heap.objs.size (.lst [])) fp) rfl rfl rfl hc i [] s' Z5 H5 (λ_ _=>False) I5 (stat fr5) st5 go) (λr s6 h6=> ?_) λ_ _ z=>z.elim);obtain ⟨u,rfl,h6⟩:=h6;refine Z00 (Z10 h6 (λ_ s7 h7=> ?_) λ_ _ z=>z.elim);refine e06 h7 ?_;clear h7;rintro x H7 I7 r7 y7 ⟨st7,fr7⟩;have I7w:Inv (blk X N' scope cl s3.heap.objs.size s3 (upd H1 s2.heap.objs.size (.lst [])) fp) [] (A6j ix Z) H7 s7:=I7.weak (by rw [I7.len];unfold A6j;rw [Z08];exact io.1) wk;have I7p:=I7w.pinned (stat fr7) (T.obj _ _ st7);refine Z00 (Z10 (hg _ _ _ _ _ s7 _ H7 x u _ I7p r7 (step x H7 y7)) (λ_ s8 h8=> ?_) λ_ _ z=>z.elim);obtain ⟨Z8,H8,I8,kp8,q8⟩:=h8
   have back:∀{s10:Shared} {Z10:St} {H10:Hp} {m':Nat},Inv (blk X N' scope cl s3.heap.objs.size s3 (upd H1 s2.heap.objs.size (.lst [])) fp) ([]++B4v fp s7.heap) Z10 H10 s10->(∀(j:Nat) v,(A6j ix Z)[j]? =some (some v)->Z10[j]? =some (some v))->W (i+1) m' H10->
     ∃i Z' H',Inv (blk X N' scope cl s3.heap.objs.size s3 (upd H1 s2.heap.objs.size (.lst [])) fp) [] Z' H' s10/\(∀(j:Nat) v,(A6j ix Z)[j]? =some (some v)->Z'[j]? =some (some v))/\tn i s10.heap/\(∀b∈fp,H' b=none)/\W i m' H':=by
    intro s10 Z10 H10 m' I10 kk w10;refine i0s (i+1) Z10 H10 I10.unpinned kk (T.keep _ _ _ st7 λb hb o e=>(I10.pin (b,o) (Z02 _ (Z02 _ (A5k hb e)))).1) (λb hb=> ?_) w10;obtain ⟨o,e,d⟩:=T.obj _ _ st7 b hb;exact (I10.pin (b,o) (Z02 _ (Z02 _ (A5k hb e)))).2.1
   refine Z00 (Z10 (ht _ _ _ _ _ s8 Z8 H8 _ I8 q8) (λok s9' h9'=> ?_) λ_ _ z=>z.elim);obtain ⟨H9',I9',q9'⟩:=h9'
   cases ok with
   | false =>
    have q9'':MM H9':=by simpa using q9'
    obtain ⟨m',hm',w9⟩:=hMM _ q9'';exact Z00 (Z04 (Z04 (i05 rfl m' hm' (back I9' kp8.get w9))))
   | true =>
    have q9'':te Z8 H9' NN:=by simpa using q9'
    refine Z00 (Z00 (Z10 (he _ _ _ _ _ s9' Z8 H9' _ I9' q9'') (λyv s9 h9=> ?_) λ_ _ z=>z.elim));obtain ⟨y,H9,I9,r9,n9⟩:=h9;obtain ⟨xs,hx9,hz9,m',hm',w9⟩:=hNN _ _ n9;refine Z00 (Z10 (A2d (X:=blk X N' scope cl s3.heap.objs.size s3 (upd H1 s2.heap.objs.size (.lst [])) fp) _ s9 Z8 H9 (.ref s2.heap.objs.size) [y] (.ref s2.heap.objs.size) [yv] (λ_ H'=>W (i+1) m' H') I9 rfl (.cons r9 .nil) (i0s _ xs y rfl rfl hx9 hz9 w9)) (λ_ s10 h10=> ?_) λ_ _ z=>z.elim);obtain ⟨_,H10,I10,_,w10⟩:=h10;exact Z04 (Z04 (i05 rfl m' hm' (back I10 kp8.get w10)))
 have e5:s3.heap.objs.size=(s2.heap.push { cls:= .type "list",data:= .seq ([]:List Value).toArray }).objs.size:=by rw [e3]
 rw [e5] at loop;exact codeAny_compStart_list (loop _ rfl) (T.self X.A 0 _ _ _ st3 (loop _ rfl))
theorem B8r {tg c:Expr} (hc:X.calm=true) (ck:C5s X scope cl) (io:C7u X N' scope ix) (hi:PI X tg iter wi)
  (hg:∀C s₀ H₀ fp,PG (blk X N' scope cl C s₀ H₀ fp) tg g) (ht:∀C s₀ H₀ fp,PT (blk X N' scope cl C s₀ H₀ fp) c tc) (he:∀C s₀ H₀ fp,PE (blk X N' scope cl C s₀ H₀ fp) elt te) (hs:∀x,foldedSetIterable iter X.env x=pure x:=by intro _;rfl) :
  PE X (.ListComp elt [⟨tg,iter,[c],0⟩] scope pos) (C7m ix wi g tc te) :=
 C2c hc ck io hi hg (λC s₀ H₀ fp pins s Z H Q I h=>wpAny_tests_one (ht C s₀ H₀ fp pins s Z H Q I h)) he _ (λ_ _ _ _ R=>R) hs
theorem A3u {tg:Expr} (hc:X.calm=true) (ck:C5s X scope cl) (io:C7u X N' scope ix) (hi:PI X tg iter wi)
  (hg:∀C s₀ H₀ fp,PG (blk X N' scope cl C s₀ H₀ fp) tg g) (he:∀C s₀ H₀ fp,PE (blk X N' scope cl C s₀ H₀ fp) elt te) (hs:∀x,foldedSetIterable iter X.env x=pure x:=by intro _;rfl) :
  PE X (.ListComp elt [⟨tg,iter,[],0⟩] scope pos) (D5a ix wi g te) :=
 C2c (tc:=λ_ H Q=>Q true H) hc ck io hi hg (λ_ _ _ _ _ _ _ _ _ I h=>wpAny_tests_nil (i02 _ I h)) he _ (λ_ _ _ _ R D2 hD=>by
  obtain ⟨W,w0,turn⟩:=R D2 hD;refine i02 W w0 λi m H2 w=>(turn i m H2 w).imp id λ⟨go,N,hN,step⟩=>(i0h go N (λ_=>False) hN (λ_ z=>z.elim) ?_)
  simpa using step) hs
end
section
variable {K:Frag} {a D:Addr} {xs:List V} {g:TG} {tc:TT} {te:TE} {QD:Hp->Prop} {Z₀:St} {H:Hp}
theorem A7f (Pv:Nat->List V->Hp->Prop) (h0:Pv 0 [] (upd H D (.lst []))) (hl:∀i ys H,Pv i ys H->SqL K H a xs)
  (hs:∀i x ys H,xs[i]? =some x->Pv i ys H->g x Z₀ H λZ4 H4=>A3e Z₀ Z4/\tc Z4 H4 λb H5=>if b=true then te Z4 H5 (λy H5=>H5 D=some (.lst ys)/\ys.length<sizeLine/\Pv (i+1) (ys++[y]) (upd H5 D (.lst (ys++[y])))) else Pv (i+1) ys H5) (hd:∀ys H,Pv xs.length ys H->QD H) :
  ∃W:Nat->Nat->Hp->Prop,(∃m,W 0 m (upd H D (.lst [])))/\∀i m H2,W i m H2->
   ((Itl K a).stop i H2/\QD H2)\/((Itl K a).go i H2/\∃(N:VK) (M:Hp->Prop),(∀y H5,N y H5->∃xs,H5 D=some (.lst xs)/\xs.length<sizeLine/\∃m',m'<m/\W (i+1) m' (upd H5 D (.lst (xs++[y]))))/\(∀H5,M H5->∃m',m'<m/\W (i+1) m' H5)/\
    ∀x H3,(Itl K a).yld i H2 x H3->g x Z₀ H3 λZ4 H4=>A3e Z₀ Z4/\tc Z4 H4 λb H5=>if b=true then te Z4 H5 N else M H5):=by
 refine i02 (λi m H=>m=xs.length-i/\i<=xs.length/\∃ys,Pv i ys H) (i0b xs.length (by simp) (Z1e _) [] h0) ?_;rintro i m H2 ⟨rfl,hi,ys,p⟩;have q:=hl i ys H2 p;by_cases hlt:i<xs.length
 ·refine .inr (i0h (i07 xs (xs[i]) q (by simp [hlt])) (λy H5=>H5 D=some (.lst ys)/\ys.length<sizeLine/\Pv (i+1) (ys++[y]) (upd H5 D (.lst (ys++[y])))) (λH5=>Pv (i+1) ys H5) (λy H5 n=>(i0t ys n.1 n.2.1 (xs.length-(i+1)) (by lia) rfl hlt _ n.2.2)) (λH5 n=>(i0a (xs.length-(i+1)) (by lia) rfl hlt ⟨_,n⟩)) λx H3 z=> ?_);obtain ⟨e,z⟩:=z;subst e;exact hs i x ys _ (z xs q) p
 ·have e:i=xs.length:=by lia
  subst e;exact .inl ⟨(i02 xs q (Z09 _)),hd ys H2 p⟩
end
section
variable {prog:Program} {w:World} {A:Around} {E:Value->Shared->Prop} {s:Shared}
theorem C3b {v:Addr} {Q:Value->Shared->Prop} (h1:s.heap.IsItemsView v d) (h2:s.heap.get? d=some od) (h3:od.data= .dict es ep)
  (q:Q (.ref s.heap.objs.size) { s with heap:=s.heap.push { cls:= .type "dict_itemiterator",data:= .fields #[.none,.bool false,.ref d,.int 0 0,.int es.size 0,.int ep 0,.none,.none] } }) :
  wpAny (model prog w) A (pyIter (.ref v)) Q E s:=by
 obtain ⟨ov,g1,g2,g3⟩:=id h1;refine wpAny_pyIter_slot h1.typeIs F.slot_dict_items_iter (Z1g F.slot_dict_items_iter h1.typeIs F.entry_dict_items_iter ?_ (F.args_dict_items_iter_1 _));unfold Builtin.«dict_items.__iter__»;refine Z00 (Z04 (Z00 ?_));unfold Builtin.Dict_items.dictOf;refine Z00 (Z11 g1 g3 (x:= .ref d) rfl (Z04 (Z00 ?_)));unfold Builtin.Dict_items.newIterator;refine Z00 (wpAny_dictEntries h2 h3 (Z00 (wpAny_dictEpoch h2 h3 ?_)));simp only [show Builtin.Dict_items.ownsTuple "dict_itemiterator"=true by decide,if_true]
 refine Z16 (Z04 (i0m _ rfl "dict_itemiterator" _ (i02 _ (Z0c _ rfl) rfl) F.slot_dict_itemiterator_next.lookup ?_)) (by
  simp only [sizeOk,Builtin.Dict_items.ownedTupleFields,Z0g,Z06,Z0y,Z2g,sizeLine_eq]
  lia)
 simpa [rawInt,Builtin.Dict_items.ownedTupleFields] using q
theorem C3p {it:Addr} {i:Nat} {e:DictEntry} {x y:Value}
  (h1:IsItemIter s.heap it d i n ep x y) (h2:s.heap.get? d=some od) (h3:od.data= .dict es ep) (h4:es.size=n) (h5:es[i]? =some e)
  (q:∀h',IsItemIterOut h' it d (i+1) n ep e.key e.val s.heap.objs.size->h'.get? s.heap.objs.size=some { cls:= .type "tuple",data:= .seq #[e.key,e.val] }->
   (∀c u,c≠it->s.heap.get? c=some u->h'.get? c=some u)->Q (some (.ref s.heap.objs.size)) { s with heap:=h' }) :
  wpAny (model prog w) A (pyNext (.ref it)) Q E s:=by
 obtain ⟨hp,g,dr,tk,os⟩:=s;have ty:Shared.TypeIs ⟨hp,g,dr,tk,os⟩ (.ref it) "dict_itemiterator":=(i02 _ h1 rfl);unfold pyNext;refine Z00 (wpAny_attempt (Z1b (name:=Str.ofString "__next__") ty F.slot_dict_itemiterator_next (Z1g F.slot_dict_itemiterator_next ty F.entry_dict_itemiterator_next ?_ (F.args_dict_itemiterator_next_1 _))));refine Z00 (Z04 (Z00 (Z00 ?_)));refine Z00 (wpAny_typeNameOfWhole_itemiter ty (Z04 (Z00 (wpAny_fieldsOf h1 rfl ?_))));simp only [show Builtin.Dict_items.ownsTuple "dict_itemiterator"=true by decide,if_true];show wpAny _ _ (ite ((Value.ref d == Value.none)=true) _ _) _ _ _;rw [Z0t (show¬((Value.ref d == Value.none)=true) from Z0v)];refine Z00 (Z04 (Z00 (wpAny_dictEntries h2 h3 ?_)));rw [Z0t (by rw [h4];simp)];refine Z00 (Z04 (Z00 (wpAny_dictEpoch h2 h3 ?_)));rw [Z0t (by simp)];obtain ⟨lt,ee⟩:=Array.getElem?_eq_some_iff.mp h5;refine Z04 ?_;simp only [show¬((i:Int)<0) from by lia,if_false,Int.toNat_natCast,h5];refine Z00 (Z00 (wpAny_typeNameOfWhole_itemiter ty (Z04 (Z00 (wpAny_isOneOf_itemiter ty ?_)))));show wpAny _ _ (setField (.ref it) 3 (rawInt ((i:Int)+1)) >>= _) _ _ (⟨hp,g,dr,tk,os⟩:Shared);refine Z00 (Z1h h1 (by simp) λk1 e1 s1=> ?_)
 replace s1:Heap.SameBut it hp k1:=s1
 replace e1:IsItemIter k1 it d (i+1) n ep x y:=by
  have z:((i+1:Nat):Int)=(i:Int)+1:=by lia
  unfold IsItemIter;rw [z]
  simpa [rawInt] using e1
 have ty1:Shared.TypeIs ⟨k1,g,dr,tk,os⟩ (.ref it) "dict_itemiterator":=(i02 _ e1 rfl);refine Z00 (Z1w (Z00 (wpAny_isOneOf_itemiter ty1 (Z00 (wpAny_isOneOf_itemiter ty1 ?_)))));show wpAny _ _ (Builtin.Dict_items.pairFromOwner (.ref it) 6 e.key e.val) _ _ (⟨k1,g,dr,tk,os⟩:Shared);unfold Builtin.Dict_items.pairFromOwner;refine Z00 (wpAny_newTuple ?_);have z1:k1.objs.size=hp.objs.size:=s1.1;have li:it<hp.objs.size:=Z0a h1;have e2:IsItemIter (k1.push { cls:= .type "tuple",data:= .seq #[e.key,e.val] }) it d (i+1) n ep x y:=Z01 _ e1;have t2:(k1.push { cls:= .type "tuple",data:= .seq #[e.key,e.val] }).get? hp.objs.size=some { cls:= .type "tuple",data:= .seq #[e.key,e.val] }:=by rw [<-z1];exact Z0c _ rfl
 have m2:∀b o,b≠it->hp.get? b=some o->(k1.push { cls:= .type "tuple",data:= .seq #[e.key,e.val] }).get? b=some o:=λb o hb z=>Z01 _ (s1.extBut b o hb z);generalize k1.push { cls:= .type "tuple",data:= .seq #[e.key,e.val] }=k2 at e2 t2 m2;show wpAny _ _ (Builtin.Dict_items.ownedTupleIsFree (.ref it) >>= _) _ _ (⟨k2,g,dr,tk,os⟩:Shared);rw [z1];clear e1 s1 ty1 z1 k1;refine Z00 ?_;unfold Builtin.Dict_items.ownedTupleIsFree;refine Z00 (Z11 e2 rfl (x:= .none) rfl (Z04 ?_));simp only [if_true];refine Z00 (Z11 e2 rfl (x:=x) rfl (Z00 (Z11 e2 rfl (x:=y) rfl (Z00 (Z1h e2 (by simp) λk3 e3 s3=> ?_)))))
 replace s3:Heap.SameBut it k2 k3:=s3
 replace e3:IsItemIter k3 it d (i+1) n ep e.key y:=e3
 refine Z00 (Z1h e3 (by simp) λk4 e4 s4=> ?_)
 replace s4:Heap.SameBut it k3 k4:=s4
 replace e4:IsItemIter k4 it d (i+1) n ep e.key e.val:=e4
 refine Z00 (Z1h e4 (by simp) λk5 e5 s5=> ?_)
 replace s5:Heap.SameBut it k4 k5:=s5
 replace e5:IsItemIterOut k5 it d (i+1) n ep e.key e.val hp.objs.size:=e5
 refine Z00 (Z1h e5 (by simp) λk6 e6 s6=> ?_)
 replace s6:Heap.SameBut it k5 k6:=s6
 replace e6:IsItemIterOut k6 it d (i+1) n ep e.key e.val hp.objs.size:=e6
 have all:∀b o,b≠it->k2.get? b=some o->k6.get? b=some o:=λb o hb z=>s6.extBut b o hb (s5.extBut b o hb (s4.extBut b o hb (s3.extBut b o hb z)));exact Z00 (wpAny_letGo (Z04 (Z04 (i02 _ rfl (Z04 (q k6 e6 (all _ _ (Z1q li) t2) λb o hb z=>all b o hb (m2 b o hb z)))))))
theorem C5b {it:Addr} {i:Nat} {x y:Value} (hh:A.handled=none)
  (h1:IsItemIter s.heap it d i n ep x y) (h2:s.heap.get? d=some od) (h3:od.data= .dict es ep) (h4:es.size=n) (h5:n<=i)
  (q:∀h',Heap.ExtBut it s.heap h'->Q none { s with heap:=h' }):wpAny (model prog w) A (pyNext (.ref it)) Q E s:=by
 have ty:s.TypeIs (.ref it) "dict_itemiterator":=(i02 _ h1 rfl);unfold pyNext;refine Z00 (wpAny_attempt (Z1b (name:=Str.ofString "__next__") ty F.slot_dict_itemiterator_next (Z1g F.slot_dict_itemiterator_next ty F.entry_dict_itemiterator_next ?_ (F.args_dict_itemiterator_next_1 _))));refine Z00 (Z04 (Z00 (Z00 ?_)));refine Z00 (wpAny_typeNameOfWhole_itemiter ty (Z04 (Z00 (wpAny_fieldsOf h1 rfl ?_))));simp only [show Builtin.Dict_items.ownsTuple "dict_itemiterator"=true by decide,if_true];show wpAny _ _ (ite ((Value.ref d == Value.none)=true) _ _) _ _ _;rw [Z0t (show¬((Value.ref d == Value.none)=true) from Z0v)];refine Z00 (Z04 (Z00 (wpAny_dictEntries h2 h3 ?_)));rw [Z0t (by rw [h4];simp)];refine Z00 (Z04 (Z00 (wpAny_dictEpoch h2 h3 ?_)));rw [Z0t (by simp)];refine Z04 ?_;simp only [show¬((i:Int)<0) from by lia,if_false,Int.toNat_natCast,Array.getElem?_eq_none (show es.size<=i by lia)];refine Z00 (Z00 (wpAny_typeNameOfWhole_itemiter ty (Z04 ?_)));show wpAny _ _ (setField (.ref it) 2 .none >>= _) _ _ _;refine Z00 (wpAny_setField h1 rfl (by simp) ?_);show wpAny _ _ (newExc (.type "StopIteration") [] >>= _) _ _ (_:Shared);refine Z00 ?_;simp only [newExc,newTuple];refine Z00 (Z16 (Z00 (m:=firstArgMember _ _) (wpAny_of_eq (a:=Value.none) (by first | rfl | (simp only [firstArgMember];rfl)) (Z16 ?_ (by size_fits)))) (by size_fits));simp only [raiseNew];refine Z00 (wpAny_handled ?_);rw [show A.in1.handled=none from hh];refine Z00 (Z04 (wpAny_throw ?_));refine Z00 (wpAny_isInstance (T:="StopIteration") (b:=true) (i02 _ (Z0c _ rfl) rfl) isSubtype_stop (Z04 ?_));exact q _ (((Heap.SameBut.update ..).extBut.push _).push _)
theorem B9x:entryFor table "dict_itemiterator.__iter__"=some Builtin.«dict_keyiterator.__iter__»:=entryFor_alias (id':="dict_keyiterator.__iter__") (by kernel_rfl) rfl (by decide +kernel) (by kernel_rfl)
theorem C3g {it:Addr} {i:Nat} {x y:Value} {Q:Value->Shared->Prop} (st:IsItemIter s.heap it d i n ep x y) (h:Q (.ref it) s):wpAny (model prog w) A (pyIter (.ref it)) Q E s:=by
 have ty:s.TypeIs (.ref it) "dict_itemiterator":=(i02 _ st rfl);refine wpAny_pyIter_slot ty F.slot_dict_itemiterator_iter (Z1g F.slot_dict_itemiterator_iter ty B9x ?_ (F.args_dict_itemiterator_iter_1 _));show wpAny _ _ (ret (.ref it)) _ _ s;exact Z04 (i0m _ rfl "dict_itemiterator" _ ty F.slot_dict_itemiterator_next.lookup h)
theorem C2x (d:Addr) (hd:(d == sysModules)=false) :
  MeetsIn prog w (Builtin.«dict.items» ⟨[.ref d],[]⟩) (λ_ R s=>s.TypeIs (.ref d) "dict"/\R (.ok (.ret (.ref s.heap.objs.size))) { s with heap:=s.heap.push { cls:= .type "dict_items",data:= .fields #[.ref d] } }) :=
 .of_wp λA R s ⟨ty,q⟩=>by
  unfold Builtin.«dict.items»;refine Z00 ?_;unfold Builtin.Dict.noArgs;refine Z00 (wpAny_notOrdered_dict ty ?_);show wpAny _ _ (pure d) _ _ s;refine Z04 ?_;show wpAny _ _ (Builtin.Dict.showsAll d >>= _) _ _ s;unfold Builtin.Dict.showsAll;rw [Z0t (by rw [hd];exact Z0v)];exact Z00 (Z04 (Z00 (Z16 (Z04 (i02 _ rfl q)))))
end
section
variable {X:Cx}
def isD (u:HO):Prop:=(∃kvs,u= .dK kvs)\/∃kvs,u= .dT kvs
def C2o (v d:Addr):HO:= .ext λh=>h.IsItemsView v d
theorem C8m {v:Addr} (e:h.IsItemsView v d):A2v P w H h v (C2o v d) :=
 (i00 e (let ⟨o,e1,_⟩:=e;⟨o,e1⟩) (by rintro h1 h2 ⟨o,e1,e2⟩ k;exact i02 o (k o e1) e2))
theorem D1i (hu:isD u) (x:A2v P w H h a u):(a == sysModules)=false/\∃o es ep,h.get? a=some o/\o.ExactDict/\o.data= .dict es ep:=by
 rcases hu with ⟨kvs,rfl⟩ | ⟨kvs,rfl⟩
 ·refine e0c x ?_;clear x;rintro hz hs vs rel o es ep ho ⟨hx,hd,r⟩;exact ⟨hs,(i0l o es ep ho hx hd)⟩
 ·refine e0c x ?_;clear x;rintro hz hs vs rel o es ep ho ⟨hx,hd,r⟩;exact ⟨hs,(i0l o es ep ho hx hd)⟩
def D5t:V->List V->Hp->VK->Prop:=λx vs H Q=>∃a u,x= .ref a/\vs=[]/\H a=some u/\isD u/\∀p,H p=none->Q (.ref p) (upd H p (C2o p a))
theorem C8y:MtR X "dict.items" D5t:=by
 intro pins s Z H x xs v us Q I rx rv h;refine e06 h ?_;clear h;rintro a u rfl rfl ha ⟨hu,q⟩;cases rx;cases rv;obtain ⟨hs,o,es,ep,ho,hx,hd⟩:=D1i hu (I.hok a u ha);have ty:s.TypeIs (.ref a) "dict":=(i02 o ho hx.1);refine call_meetsIn PySem.F.slot_dict_items ty PySem.F.entry_dict_items (PySem.F.args_dict_items_1 _) (C2x a hs) ⟨ty,?_⟩;exact i0d (.ref s.heap.objs.size) _ (I.laid (t':=s.toks) (o:=C2o s.heap.objs.size a) (λb u e=>Z01 _ e) (Z09 _) (C8m (i06 _ (Z0c _ rfl) rfl rfl))) rfl (q _ (I.hok.fresh (Z09 _)))
theorem Inv.frozenD (I:Inv X pins Z H s) (ha:H a=some u) (hu:isD u) (ho:s.heap.get? a=some o):Inv X pins Z (upd H a (.frz o u)) s:=by
 have nt:∀b xs,H b=some (.tup xs)->upd H a (.frz o u) b=some (.tup xs):=λb xs q=>by
  rw [A0k (A3a q ha (by rcases hu with ⟨_,rfl⟩ | ⟨_,rfl⟩ <;> intro z <;> cases z))];exact q
 have no:∀b,H b=some (.own a)->upd H a (.frz o u) b=some (.own a):=λb q=>by
  rw [A0k (A3a q ha (by rcases hu with ⟨_,rfl⟩ | ⟨_,rfl⟩ <;> intro z <;> cases z))];exact q
 have new:A2v X.prog X.w (upd H a (.frz o u)) s.heap a (.frz o u):=⟨ho,(I.hok a u ha).stay (λ_ _ _ q=>q) no nt⟩;exact I.write (t':=s.toks) (h':=s.heap) (e:=a) (by rw [ha];rcases hu with ⟨_,rfl⟩ | ⟨_,rfl⟩ <;> trivial) (.inl rfl) (λ_ _ _ e=>e) ⟨o,ho⟩ new
theorem Inv.thawD (I:Inv X pins Z H s) (ha:H a=some (.frz o u)) (hu:isD u) (h0:∀o' u',X.H₀ a≠some (.frz o' u')):Inv X pins Z (upd H a u) s:=by
 have nf:∀b,H b=none->upd H a u b=none:=λb e=>by rw [A0k (λz=>by subst z;rw [ha] at e;cases e)];exact e
 have nt:∀b xs,H b=some (.tup xs)->upd H a u b=some (.tup xs):=λb xs q=>by rw [A0k (A3a q ha (by intro z;cases z))];exact q
 have no:∀b c,H b=some (.own c)->upd H a u b=some (.own c):=λb c q=>by rw [A0k (A3a q ha (by intro z;cases z))];exact q
 refine ⟨I.ok,I.os,I.bare,⟨I.base.keep,I.base.slot,λb ob e n hx=>nf b (I.base.free b ob e n hx),I.base.there,λb xs e=>nt b xs (I.base.tups b xs e),λb ob u' e=> ?_,λb ps e=> ?_⟩,I.loc,I.cell,nf _ I.free,λx c e=>nf _ (I.freeC x c e),
  λp hp=>(i00 ((I.pin p hp).1) (nf _ (I.pin p hp).2.1) ((I.pin p hp).2.2)),λb v e=> ?_,I.len⟩
 ·have q:=I.base.frzs b ob u' e;rw [A0k (λz=>by subst z;exact h0 _ _ e)];exact q
 ·obtain ⟨more,q⟩:=I.base.tbls b ps e;exact ⟨more,by rw [A0k (A3a q ha (by intro z;cases z))];exact q⟩
 ·by_cases hb:b=a
  ·subst hb;rw [A0b] at e;cases e;obtain ⟨_,q⟩:=(show A2v X.prog X.w H s.heap b (.frz o u) from I.hok b _ ha);exact q.stay (λ_ _ _ q=>q) (λc q=>no c b q) λc xs q=>nt c xs q
  ·rw [A0k hb] at e;exact (I.hok b v e).stay (λ_ _ _ q=>q) (λc q=>no c b q) λc xs q=>nt c xs q
def D4u (X:Cx) (t:TS):TS:=λD Z H=>∃a o u,H a=some (.frz o u)/\isD u/\(∀o' u',X.H₀ a≠some (.frz o' u'))/\t D Z (upd H a u)
theorem C4p {t:TS} (h:PSs X sts t):PSs X sts (D4u X t):=by
 intro pins s Z H D I hw;refine e09 hw λa o u ha hu h0 q=>?_;clear hw;exact h pins s Z _ D (I.thawD ha hu h0) q
abbrev D7j (es:Array DictEntry) (L:List (V×V)):Prop:=Paired (λ(e:DictEntry) (p:V×V)=>A3j p.1 e.key/\A3j p.2 e.val) es.toList L
def Iti (a:Addr) (o:Obj) (u:HO) (L:List (V×V)):It :=
 ⟨λi H=>H a=some (.frz o u)/\i<L.length,λi H x H'=>∃k v p,L[i]? =some (k,v)/\H p=none/\x= .ref p/\H'=upd H p (.tup [k,v]),λi H=>H a=some (.frz o u)/\i=L.length⟩
theorem B0t {α β:Type} {F:α->β->Prop}:∀{l:List α} {m:List β},Paired F l m->l.length=m.length
 | _,_,.nil=>rfl
 | _,_,.cons _ t=>by simp [B0t t]
theorem A8f {α β:Type} {F:α->β->Prop}:∀{l:List α} {m:List β},Paired F l m->∀{i:Nat} {y:β},m[i]? =some y->∃x,l[i]? =some x/\F x y
 | _,_,.nil,i,y,e=>by simp at e
 | _,_,.cons r t,0,y,e=>by simp at e;subst e;exact i02 _ rfl r
 | _,_,.cons r t,i+1,y,e=>by
  obtain ⟨x,e1,e2⟩:=A8f t (i:=i) (by simpa using e);exact i02 x (by simpa using e1) e2
theorem C3l {kk:Nat} (it a:Addr) (o:Obj) (u:HO) (L:List (V×V)) (es:Array DictEntry) (ep:Nat) (ho:o.data= .dict es ep) (rl:D7j es L) :
  D0a P w K (.Tuple elts kk pos) (Iti a o u L) [it] it (λi h=>∃x y,IsItemIter h it a i es.size ep x y) where
 mem:=by simp
 obj:=λi h st b hb=>by
  have e:b=it:=by simpa using hb
  subst e;obtain ⟨x,y,e⟩:=st;exact i02 _ e λv z=>by cases (show Data.fields _=Data.cell v from z)
 keep:=λi h h' st k=>let ⟨x,y,e⟩:=st;(i03 x y (k it (by simp) _ e))
 item:=by
  intro X hP hw hK hc i pins s Z H E I hf st hg;subst hP hw hK;obtain ⟨ha,hi⟩:=hg;obtain ⟨x,y,st⟩:=st;have hl:es.size=L.length:=by have:=B0t rl;simpa using this
  obtain ⟨⟨k,v⟩,hkv⟩:∃p,L[i]? =some p:=⟨L[i],by simp [hi]⟩;obtain ⟨e,he,r1,r2⟩:=A8f rl hkv;obtain ⟨hob,_⟩:=(show A2v X.prog X.w H s.heap a (.frz o u) from I.hok a _ ha);refine C3p st hob ho rfl (e:=e) (by simpa using he) λh' z1 z2 kp=> ?_;refine i02 _ rfl (wpAny_letOwnedTupleGo_items (s:={ s with heap:=h' }) z1 λg zg sb=> ?_)
  have nz:s.heap.objs.size≠it:=Z1q (Z0a st)
  have I1:Inv X pins Z (upd H s.heap.objs.size (.tup [k,v])) { s with heap:=g,toks:=s.toks }:=I.turnedNew (ts:=[it]) (λc o hc e=>by
   have hc':c≠it:=by simpa using hc
   exact sb.extBut _ _ hc' (kp c o hc' e)) hf (Z09 _) (i05 (by show 2<=sizeLine;decide) [e.key,e.val] (.cons r1 (.cons r2 .nil)) (i0b _ (sb.extBut _ _ nz z2) rfl _ rfl))
  refine i0o (.ref s.heap.objs.size) _ I1 rfl (i0p k v _ hkv (I.hok.fresh (Z09 _)) rfl rfl) (i03 _ _ zg) λc hc=> ?_;have hcn:c=it:=by simpa using hc
  subst hcn;rw [A0k nz.symm];exact (hf c hc).1
 done:=by
  intro X hP hw hK hc i pins s Z H E I hf st hg;subst hP hw hK;obtain ⟨ha,hi⟩:=hg;obtain ⟨x,y,st⟩:=st;have hl:es.size=L.length:=by have:=B0t rl;simpa using this
  obtain ⟨hob,_⟩:=(show A2v X.prog X.w H s.heap a (.frz o u) from I.hok a _ ha);obtain ⟨f0,f1,f2,f3,f4,f5⟩:=hf it (by simp);exact C5b (I.ok.hd hc) st hob ho rfl (by lia) λh' eb=>⟨rfl,I.turned (t':=s.toks) (λb ob hb e=>eb b ob hb e) f0 f1 f3 f4 f5⟩
 self:=λ_ _ s _ _ st h=>by
  obtain ⟨x,y,st⟩:=st;exact C3g st h
end
section
abbrev KL (H:Hp) (kvs:List (List Key×V)) (L:List (V×V)):Prop:=Paired (λ(p:List Key×V) (q:V×V)=>∃b,q.1= .ref b/\H b=some (.tup (p.1.map kV))/\q.2=p.2) kvs L
theorem B3m {α β:Type} {F:α->β->Prop}:∀{l:List α} {m:List β},l.length=m.length->(∀(i:Nat) (x:α) (y:β),l[i]? =some x->m[i]? =some y->F x y)->Paired F l m
 | [],[],_,_=> .nil
 | [],_::_,e,_=>by simp at e
 | _::_,[],e,_=>by simp at e
 | x::l,y::m,e,h=> .cons (h 0 x y rfl rfl) (B3m (by simpa using e) λi a b p q=>h (i+1) a b (by simpa using p) (by simpa using q))
theorem D5u (r:KV kvs vs) (p:Pairs (A2l P w) es.toList vs):D7j es (kvs.map λq=>(kV q.1,q.2)):=by
 refine B3m (by rw [p.length,Z08];exact r.length.symm) λi e y he hy=> ?_;rw [Z1z] at hy;obtain ⟨⟨k,v⟩,hk,rfl⟩:=Z0i.mp hy;obtain ⟨u,hu,ru⟩:=r.at hk;obtain ⟨h1,h2⟩:=p.get? he hu;subst h2;exact ⟨D2p h1,ru⟩
theorem D0q {P:Program} {w:World} {H:Hp}:∀{kvs:List (List Key×V)} {xs:List (List Key×Addr×Value)},KT H kvs xs->
  ∃L,Paired (λ(e:DictEntry) (p:V×V)=>A3j p.1 e.key/\A3j p.2 e.val) (xs.map (entryOfKey (tupleKind (A2l P w)))) L/\KL H kvs L
 | _,_,.nil=>(i02 [] .nil .nil)
 | _,_,@Paired.cons _ _ _ p q _ _ h t=>by
  obtain ⟨L,h1,h2⟩:=D0q (P:=P) (w:=w) t;exact i02 ((.ref q.2.1,p.2)::L) (.cons ⟨rfl,h.2.2⟩ h1) (.cons (i06 q.2.1 rfl h.2.1 rfl) h2)
def D6x (tl:TE):TI:=λZ H R=>tl Z H λx H1=>∃v a u,x= .ref v/\H1 v=some (C2o v a)/\H1 a=some u/\
 ((∃kvs,u= .dK kvs/\∀o,R (Iti a o u (kvs.map λq=>(kV q.1,q.2))) (upd H1 a (.frz o u)))\/∃kvs,u= .dT kvs/\∀o L,KL H1 kvs L->R (Iti a o u L) (upd H1 a (.frz o u)))
theorem C8x {l:Expr} {tl:TE} {kk:Nat} (hl:PE X l tl):PI X (.Tuple elts kk pos) l (D6x tl):=by
 intro pins s Z H R I h;refine thn (hl pins s Z H _ I h) ?_;rintro y s1 zz;refine e0b zz ?_;clear zz;rintro x H1 I1 rx v a u ⟨ex,hv,ha,q⟩;subst ex;cases rx;obtain ⟨vw,_⟩:=(show A2v X.prog X.w H1 s1.heap v (C2o v a) from I1.hok v _ hv)
 have go:∀(o:Obj) (es:Array DictEntry) (ep:Nat) (L:List (V×V)),s1.heap.get? a=some o->o.data= .dict es ep->isD u->D7j es L->R (Iti a o u L) (upd H1 a (.frz o u))->
   wpAny (model X.prog X.w) X.A (pyIter (.ref v)) (PIE X pins Z (.Tuple elts kk pos) R) X.xe s1:=by
  intro o es ep L ho hd hu rl qq;refine C3b vw ho hd ?_;have I2:Inv X pins Z H1 { s1 with heap:=s1.heap.push { cls:= .type "dict_itemiterator",data:= .fields #[.none,.bool false,.ref a,.int 0 0,.int es.size 0,.int ep 0,.none,.none] },toks:=s1.toks }:=I1.kept λb ob e=>Z01 _ e
  have I3:=I2.frozenD ha hu (Z01 _ ho);refine i11 _ [s1.heap.objs.size] _ _ _ rfl I3 (C3l _ a o u L es ep hd rl) (i03 .none .none (Z0c _ rfl)) (λb hb=> ?_) qq;have e:b=s1.heap.objs.size:=by simpa using hb
  subst e;refine I1.fpOk (Z09 _) ?_;rw [A0k (Z1q (I1.hok.lt ha))];exact I1.hok.fresh (Z09 _)
 rcases q with ⟨kvs,rfl,q⟩ | ⟨kvs,rfl,q⟩
 ·refine e0c (C4d I1.hok ha) ?_;rintro hz hs vs rel o es ep ho ⟨hx,hd,_,r,_⟩;exact go o es ep _ ho hd (.inl ⟨_,rfl⟩) (D5u rel r) (q o)
 ·refine e0c (show A2v X.prog X.w H1 s1.heap a (.dT kvs) from I1.hok a _ ha) ?_;rintro hz hs xs rel o es ep ho ⟨hx,hd,he,_⟩;obtain ⟨L,h1,h2⟩:=D0q (P:=X.prog) (w:=X.w) rel;exact go o es ep L ho hd (.inr ⟨_,rfl⟩) (by unfold D7j;rw [he];exact h1) (q o L h2)
theorem C5e {L:List (V×V)} {tb:TS} {D:C3t} (Pv:Nat->St->Hp->Prop) (h0:Pv 0 Z H) (hl:∀i Z H,Pv i Z H->H a=some (.frz o u))
  (hs:∀i k v p Z H,L[i]? =some (k,v)->H p=none->Pv i Z H->g (.ref p) Z (upd H p (.tup [k,v])) λZ2 H2=>tb { D with nx:=Pv (i+1),ct:=Pv (i+1),bk:=D.nx } Z2 H2) (hd:∀Z H,Pv L.length Z H->D.nx Z H) :
  ∃W:Nat->Nat->St->Hp->Prop,(∃m,W 0 m Z H)/\∀i m Z H,W i m Z H->
   ((Iti a o u L).stop i H/\D.nx Z H)\/((Iti a o u L).go i H/\∃N:St->Hp->Prop,(∀Z' H',N Z' H'->∃m',m'<m/\W (i+1) m' Z' H')/\∀x H',(Iti a o u L).yld i H x H'->g x Z H' λZ2 H2=>tb { D with nx:=N,ct:=N,bk:=D.nx } Z2 H2):=by
 refine i02 (λi m Z H=>m=L.length-i/\i<=L.length/\Pv i Z H) (i06 L.length (by simp) (Z1e _) h0) ?_;rintro i m Z H ⟨rfl,hi,p⟩;by_cases hlt:i<L.length
 ·refine .inr (i05 ⟨hl i Z H p,hlt⟩ (Pv (i+1)) (λZ' H' p'=>(i0a (L.length-(i+1)) (by lia) rfl hlt p')) λx H' y=> ?_);refine e09 y ?_;clear y;rintro k v q e1 e2 rfl rfl;exact hs i k v q Z _ e1 e2 p
 ·have e:i=L.length:=by lia
  subst e;exact .inl ⟨⟨hl _ Z H p,rfl⟩,hd Z H p⟩
end
section
variable {X:Cx}
def D4j (H:Hp):Prop:=(∀a kvs,H a=some (.dK kvs)->(kvs.map (·.1)).Nodup)/\∀a kvs,H a=some (.dT kvs)->(kvs.map (·.1)).Nodup
theorem D3k (r:KV kvs vs):kvs.map (·.1)=vs.map (·.1):=by
 unfold KV at r
 induction r with
 | nil=>rfl
 | cons h t ih=>rw [Z0p,Z0p,ih,h.1]
theorem D2w {kvs:List (List Key×V)} (r:KT H kvs xs):kvs.map (·.1)=xs.map (·.1):=by
 induction r with
 | nil=>rfl
 | cons h t ih=>rw [Z0p,Z0p,ih,h.1]
theorem Inv.apart (I:Inv X pins Z H s):D4j H:=by
 refine ⟨λa kvs e=> ?_,λa kvs e=> ?_⟩
 ·refine e0c (C4d I.hok e) ?_;rintro _ _ vs rel o es ep _ ⟨_,_,_,_,n⟩;rw [D3k rel];exact n
 ·refine e0c (show A2v X.prog X.w H s.heap a (.dT kvs) from I.hok a _ e) ?_;rintro _ _ xs rel o es ep _ ⟨_,_,_,n⟩;rw [D2w rel];exact n
theorem C7x {t:TS} (h:PSs X sts t):PSs X sts (λD Z H=>D4j H->t D Z H):=λpins s Z H D I q=>h pins s Z H D I (q I.apart)
theorem B2g {κ:Type} [DecidableEq κ] {kvs:List (κ×V)} {i:Nat} {k:κ} (n:(kvs.map (·.1)).Nodup) (h:kvs[i]? =some (k,v)) (ws:List (κ×V)) (e:ws.map (·.1)=(kvs.take i).map (·.1)) (u:V):B1n ws k u=ws++[(k,u)]:=by
 unfold B1n;rw [Z0t];intro a;obtain ⟨p,hp,ek⟩:=List.any_eq_true.mp a;have ek:p.1=k:=by simpa using ek
 have hm:k∈ws.map (·.1):=Z2c.mpr (i02 p hp ek);rw [e] at hm;obtain ⟨q,hq,eq⟩:=Z2c.mp hm;obtain ⟨j,hj,ej⟩:=List.mem_iff_getElem.mp hq;have hji:j<i:=by have:=List.length_take_le i kvs;lia
 rw [List.getElem_take] at ej;obtain ⟨hi,ei⟩:=Z03.mp h;have hjl:j<kvs.length:=by lia
 have h1:(kvs.map λx=>x.1)[j]? =some k:=by rw [Z1z,Z0b hjl,ej];exact congrArg some eq
 have h2:(kvs.map λx=>x.1)[i]? =some k:=by rw [Z1z,h];rfl
 obtain ⟨l1,e1⟩:=Z03.mp h1;obtain ⟨l2,e2⟩:=Z03.mp h2;have:j=i:=(List.getElem_inj n).mp (e1.trans e2.symm)
 lia
end
theorem C4m:typeLookup (.type "list") "keys"=pure none:=by rw [typeLookup_type,builtinLookup_eq_fast];kernel_rfl
theorem A8x:entryFor table "dict.update.loop"=some Builtin.«dict.update.loop»:=entryFor_of_tree (by kernel_rfl)
theorem A4q:plainId "dict.update.loop"=true:=by decide +kernel
theorem C6l {prog:Program} {A:Around} {E:Value->Shared->Prop} {xs:Array Value} {k:Nat}
  (hx:s.heap.get? a=some o) (hc:o.cls= .type "list") (hdat:o.data= .seq xs k) (hd:o.dict=none) (hA:A.handled=none)
  (h:∀h' tk,(∀b ob,s.heap.get? b=some ob->h'.get? b=some ob)->Q none { s with heap:=h',toks:=tk }):wpAny (model prog w) A (getAttr? (.ref a) "keys") Q E s:=by
 obtain ⟨c,dct,dat,sl⟩:=o;simp only at hc hdat hd;subst hc hdat hd;obtain ⟨hp,g,d,tk,os⟩:=s;have hT:∀tk',(⟨hp,g,d,tk',os⟩:Shared).TypeIs (.ref a) "list":=λ_=>(i02 _ hx rfl);have f1:=sub_AttributeError;have f3:=F.slot_list_getattribute.lookup;have f4:=F.slot_list_getattribute.bind (.ref a);have f5:=am_list_getattr_none;unfold getAttr? getAttrBy? getAttrBy
 repeat (any_goals (first | assumption | exact hT _ | ((with_reducible show wpAny _ _ (call (Value.builtin "list.__getattribute__") _ _) _ _ _);refine call_meets F.slot_list_getattribute (hT _) am_entry_list_getattribute (F.args_list_getattribute_2 _ _) (meets_getattribute_miss_list a xs k sl "keys" _ C4m (by decide) (by decide)) (i00 hx hA λh' tk' e hx'=> ?_)) | wp_step))
 obtain ⟨t',u',he⟩:=hx'.there;show wpAny _ _ (getattributeRaised _ _ _ _ _ _ _) _ _ _;unfold getattributeRaised
 repeat (any_goals (first | assumption | wp_step))
 all_goals exact h _ _ hx'.1
section
variable {prog:Program} {w:World} {K:Type} [DecidableEq K] {knd:KeyKind prog w K} {A:Around} {R:Result->Shared->Prop} {I l d:Addr} {items:Array Value} {rs:List (K×Value)} {h₀:Heap} {g:Array GenState} {dr:Drawn} {os:OsState}
def D2z (knd:KeyKind prog w K) (h:Heap) (I d:Addr) (items:Array Value) (rs:List (K×Value)):Prop:=items.size=rs.length/\∀(i:Nat) (v:Value) (k:K) (u:Value),items[i]? =some v->rs[i]? =some (k,u)->
 ∃(b:Addr) (o:Obj) (n:Nat) (kv:Value),v= .ref b/\b≠I/\b≠d/\h.get? b=some o/\o.cls= .type "tuple"/\o.data= .seq #[kv,u] n/\knd.is k kv=true
theorem C8f (hh:A.handled=none) (hne:l≠I) (hdI:d≠I) (hdl:d≠l) (hsz:rs.length<=sizeLine) (pa:D2z knd h₀ I d items rs) (hl:h₀.IsList l items)
  (fin:∀h' tk,h'.DictOf knd d (merged [] rs)->(∀b o,b≠I->b≠d->h₀.get? b=some o->h'.get? b=some o)->R (.ok (.ret .none)) ⟨h',g,dr,tk,os⟩) :
  ∀(k i:Nat) (h:Heap) (tk:Nat),rs.length-i=k->i<=rs.length->h.IsListIter I l i->(∀b o,b≠I->b≠d->h₀.get? b=some o->h.get? b=some o)->h.DictOf knd d (merged [] (rs.take i))->
   codeAny (model prog w) A (.builtin "dict.update.loop" ⟨[.ref d,.ref I,rawInt i,.none],[]⟩) R ⟨h,g,dr,tk,os⟩:=by
 have W:=Walks.list (prog:=prog) (w:=w) (A:=A.in1) hh I l hne items;intro k
 induction k with
 | zero =>
  intro i h tk hk hi hit kp hD;have hin:i=items.size:=by have:=pa.1;lia
  have hin':i=rs.length:=by lia
  refine codeAny_builtin A8x ?_;rw [Around.under_plainId A4q _];show wpAny _ A.in1 (pyNext (.ref I) >>= _) _ _ _;refine Z00 (W.done ⟨h,g,dr,tk,os⟩ _ _ (by rw [<-hin];exact ⟨hit,hl.at λo e=>kp l o hne (Ne.symm hdl) e⟩) λh' tk' kp'=> ?_);show wpAny _ A.in1 (Builtin.Dict.addKeywords d [] >>= λ_=>ret Value.none) _ _ _;rw [hin',Z18] at hD;obtain ⟨od,es,ep,ho,r⟩:=hD;refine Z00 (Z04 (Z04 (fin h' tk' (i0e od es ep (kp' d od (by simpa using hdI) ho) r) λb o h1 h2 e=>kp' b o (by simpa using h1) (kp b o h1 h2 e))))
 | succ k ih =>
  intro i h tk hk hi hit kp hD;have hlt:i<items.size:=by have:=pa.1;lia
  refine codeAny_builtin A8x ?_;rw [Around.under_plainId A4q _];show wpAny _ A.in1 (pyNext (.ref I) >>= _) _ _ _;refine Z00 (W.item i ⟨h,g,dr,tk,os⟩ _ _ hlt ⟨hit,hl.at λo e=>kp l o hne (Ne.symm hdl) e⟩ λv h' tk' hv hst' kp'=> ?_);obtain ⟨⟨k',u⟩,hku⟩:∃p,rs[i]? =some p:=⟨rs[i]'(by have:=pa.1;lia),Z0b _⟩;refine e0d (pa.2 i v k' u hv hku) ?_;rintro b o n kv rfl hbI hbd hb ⟨hcl,hdat,his⟩;have hb':h'.get? b=some o:=kp' b o (by simpa using hbI) (kp b o hbI hbd hb);have hT:(⟨h',g,dr,tk',os⟩:Shared).TypeIs (.ref b) "tuple":=(i02 _ hb' hcl);show wpAny _ A.in1 (holding [Value.ref b] _ >>= _) _ _ _;refine Z00 (Z1w (Z00 (wpAny_tryCatch ?_)));unfold Builtin.Dict.pairItems;refine Z00 (wpAny_typeOf hT ?_);rw [Z12 (by decide)];refine Z00 (wpAny_seqItems hb' hdat (Z04 ?_));show wpAny _ A.in1 (holding [kv,u] (dictSet d kv u)) _ _ _
  have hD':h'.DictOf knd d (merged [] (rs.take i)):=by
   obtain ⟨od,es,ep,ho,r⟩:=hD;exact i0e od es ep (kp' d od (by simpa using hdI) ho) r
  have hlen:(merged [] (rs.take i)).length<=sizeLine:=by
   have e1:=merged_length_le ([]:List (K×Value)) (rs.take i);have e2:(rs.take i).length<=rs.length:=by rw [Z0x];lia
   simp only [Z2g,Nat.zero_add] at e1
   lia
  refine Z1w (wpAny_dictSet_pairs (hsz:=hlen) (s:=⟨h',g,dr,tk',os⟩) his hD' λh2 hD2 sb=> ?_);rw [<-merged_take_succ [] rs i (k',u) hku] at hD2;refine Z04 ⟨plainId_quiet A4q _,ih (i+1) h2 _ (by lia) (by have:=pa.1;lia) ?_ ?_ hD2⟩
  ·exact hst'.1.at λo e=>(sb.2 I (Ne.symm hdI)).trans e
  ·intro c oc h1 h2' e;exact (sb.2 c h2').trans (kp' c oc (by simpa using h1) (kp c oc h1 h2' e))
end
def B3q (env:Env):List (Str×Addr)->Prop
 | []=>True
 | p::r=>env.cells.lookup p.1=some p.2/\B3q env r
theorem B3q.get {env:Env}:∀{cl:List (Str×Addr)},B3q env cl->∀{x:Str} {c:Addr},cl.lookup x=some c->env.cells.lookup x=some c
 | [],_,_,_,h=>by cases h
 | (y,d)::r,h,x,c,e=>by
  rw [Z28] at e;split at e
  ·rename_i hb;have hb':x=y:=by simpa using hb
   cases e
   subst hb';exact h.1
  ·exact B3q.get h.2 e
theorem A9u {x:Str}:∀{cl:List (Str×Addr)},x∈cl.map (·.1)->∃c,cl.lookup x=some c
 | [],h=>by cases h
 | (y,d)::r,h=>by
  rw [Z28]
  cases hb:(x == y) with
  | true=>exact ⟨d,rfl⟩
  | false =>
   have hne:x≠y:=by simpa using hb
   rcases Z0e.mp h with e | e
   ·exact absurd e hne
   ·exact A9u e
theorem B2p {xs:List Str} (he:closureFor scope X.env=pure cl) (hc:B3q X.env cl) (hx:cl.map (·.1)=xs) (hk:scope.kind= .function) (hn:∀y∈scope.names,y.2≠.cell/\(y.2= .free->y.1∈xs))
  (hl:∀y∈scope.names,y.2= .local->scope.names.lookup y.1=some .local):C5s X scope cl where
 eq:=he
 sub:=λy d h=>hc.get h
 has:=λy h=>by
  have key:y∈xs:=by
   have m:∃k,(y,k)∈(relabel scope X.env).names/\(k= .cell\/k= .free):=h.elim (λz=>(i02 _ (A6o z) (.inl rfl))) λz=>(i02 _ (A6o z) (.inr rfl));obtain ⟨k,hm,hk⟩:=m;obtain ⟨⟨n,k0⟩,h0,e⟩:=Z2c.mp hm;dsimp only at e;by_cases hf:k0= .free
   ·have en:n=y:=by
     split at e
     ·exact congrArg Prod.fst e
     ·exact congrArg Prod.fst e
    rw [<-en];exact (hn _ h0).2 hf
   ·have hb:(k0 == NameKind.free)=false:=by simpa using hf
    simp only [hb,Bool.false_and,Bool.false_eq_true,if_false] at e;have e2:k0=k:=congrArg Prod.snd e;subst e2;rcases hk with hk | hk
    ·exact absurd hk (hn _ h0).1
    ·exact absurd hk hf
  rw [<-hx] at key;exact A9u key
 kind:=hk
 ncell:=λy hy=>(hn y hy).1
 names:=hl
def B7l (X:Cx) (scope:Scope):List Str->List Nat->Prop
 | [],[]=>True
 | x::xs,j::js=>(X.N[j]? =some x/\(X.env.scope.names.lookup x=some .cell\/X.env.scope.names.lookup x=some .free)/\((relabel scope X.env).names.lookup x=some .cell\/(relabel scope X.env).names.lookup x=some .free))/\B7l X scope xs js
 | _,_=>False
theorem B7l.get {X:Cx} {scope:Scope}:∀{xs:List Str} {js:List Nat},B7l X scope xs js->xs.length=js.length/\∀(i j:Nat),js[i]? =some j->∃x,xs[i]? =some x/\X.N[j]? =some x/\(X.env.scope.names.lookup x=some .cell\/X.env.scope.names.lookup x=some .free)/\((relabel scope X.env).names.lookup x=some .cell\/(relabel scope X.env).names.lookup x=some .free)
 | [],[],_=>⟨rfl,λi j e=>by simp at e⟩
 | x::xs,j::js,h=>by
  obtain ⟨e,f⟩:=B7l.get h.2;refine ⟨by simp [e],λi k ek=> ?_⟩
  cases i with
  | zero=>simp at ek;subst ek;exact i02 x rfl h.1
  | succ i=>exact f i k (by simpa using ek)
 | [],_::_,h=>h.elim
 | _::_,[],h=>h.elim
theorem B2t {N0 xs:List Str} {js:List Nat} (h:B7l X scope xs js):C7u X (N0++xs) scope (List.replicate N0.length none++js.map some):=by
 obtain ⟨hl,hf⟩:=h.get;refine ⟨by simp [hl],λi k e=> ?_⟩;by_cases hi:i<N0.length
 ·rw [Z26 (by simpa using hi),List.getElem?_replicate] at e;split at e <;> cases e
 ·rw [Z1l (by simpa using hi),List.length_replicate,Z1z] at e;obtain ⟨j,ej,ek⟩:=Z0i.mp e;cases ek;obtain ⟨x,h1,h2,h3,h4⟩:=hf _ _ ej;exact i0a x (by rw [Z1l (by lia)];exact h1) h2 h3 h4
abbrev PL (H:Hp) (xs:List V) (kvs:List (Key×V)):Prop:=Paired (λ(x:V) (p:Key×V)=>∃b,x= .ref b/\H b=some (.tup [kV p.1,p.2])) xs kvs
section
variable {X:Cx}
theorem D0z {pins:List (Addr×Obj)} {Z:St} {H:Hp} {s:Shared} (I:Inv X pins Z H s):∀{xs:List V} {kvs:List (Key×V)} {its:List Value},PL H xs kvs->A3z xs its->
  ∃rs,KV kvs rs/\Paired (λ(v:Value) (p:Key×Value)=>∃(b:Addr) (o:Obj) (n:Nat) (kv:Value),v= .ref b/\s.heap.get? b=some o/\o.cls= .type "tuple"/\o.data= .seq #[kv,p.2] n/\(A2l X.prog X.w).is p.1 kv=true) its rs
 | _,_,_,.nil,.nil=>(i02 [] .nil .nil)
 | _,_,_,@Paired.cons _ _ _ x p _ _ ⟨b,e,hb⟩ t,.cons rv vs=>by
  obtain ⟨rs,h1,h2⟩:=D0z I t vs;subst e;cases rv;refine e0a (show A2v X.prog X.w H s.heap b (.tup [kV p.1,p.2]) from I.hok b _ hb) λ_ its r o g1 g2 n g3=>?_
  cases r with
  | cons r1 r =>
   cases r with
   | cons r2 r =>
    cases r
    exact i02 ((p.1,_)::rs) (.cons ⟨rfl,r2⟩ h1) (.cons (i0w b o n _ rfl g1 g2 g3 (C7e r1)) h2)
theorem B4x (hc:X.calm=true):A9l X (.type "dict") (λvs H Q=>∃a xs kvs,vs=[V.ref a]/\H a=some (.lst xs)/\PL H xs kvs/\∀p,H p=none->Q (.ref p) (upd H p (.dK (A6b [] kvs)))):=by
 intro pins s Z H vs us Q I r h;refine e09 h ?_;clear h;rintro a xs kvs rfl ha pl q;obtain ⟨u,rfl,ru⟩:=B1u r;cases ru;obtain ⟨z,its,n,rv,hl,e⟩:=I.lstM ha;obtain ⟨rs,kv,rp⟩:=D0z I pl rv;have hh:X.A.handled=none:=I.ok.hd hc;have lk:kvs.length=xs.length:=(Paired.length pl).symm;have lr:rs.length=kvs.length:=kv.length.symm;have hn:=I.hok.fresh (Z09 s.heap.objs.size);refine callType_codes (Q₁:=λobj s₁=>obj= .ref s.heap.objs.size/\s₁={ s with heap:=s.heap.push { cls:= .type "dict",data:= .dict #[] } }) F.kt_called_dict (F.kt_typeCall_dict_1 _) F.entry_dict_init (kt_code_dict_new _ ⟨rfl,rfl⟩) ?_;rintro obj s₁ ⟨rfl,rfl⟩;have hnew:(s.heap.push { cls:= .type "dict",data:= .dict #[] }).DictOf (A2l X.prog X.w) s.heap.objs.size []:=Heap.DictOf.new s.heap;have e1:(s.heap.push { cls:= .type "dict",data:= .dict #[] }).get? a=some { cls:= .type "list",data:= .seq its.toArray n }:=Z01 _ e;have hTl:Shared.TypeIs { s with heap:=s.heap.push { cls:= .type "dict",data:= .dict #[] } } (.ref a) "list":=(i02 _ e1 rfl);refine i00 hnew.typeIs (F.args_dict_init_2 _ _) ?_;unfold Builtin.«dict.__init__»;refine Z00 ?_;unfold Builtin.Dict.selfAndRest;refine Z00 (wpAny_notOrdered_dict hnew.typeIs ?_);show wpAny _ _ (pure (s.heap.objs.size,[Value.ref a])) _ _ _;refine Z04 ?_;show wpAny _ _ (Builtin.Dict.updateFrom "dict.__init__" s.heap.objs.size (.ref a) [] .none) _ _ _;unfold Builtin.Dict.updateFrom;refine Z00 (wpAny_typeOf hTl ?_);rw [Z12 (by decide)];refine Z00 (C6l (o:={ cls:= .type "list",data:= .seq its.toArray n }) e1 rfl rfl rfl (by simpa using hh) λh1 tk1 kp1=> ?_)
 rw [Z12 (show (none:Option Value).isNone=true from rfl)];refine Z00 (wpAny_rule ?_);have hl1:h1.IsList a its.toArray:=(i0b _ (kp1 _ _ e1) rfl n rfl);refine Z00 (wpAny_pyIter_list (s:={ s with heap:=h1,toks:=tk1 }) hl1 ?_);have la:a<h1.objs.size:=Z0a (kp1 _ _ e1);have ld:s.heap.objs.size<h1.objs.size:=let ⟨_,_,_,g,_⟩:=hnew;Z0a (kp1 _ _ g);have las:a<s.heap.objs.size:=Z0a e;refine Z04 ⟨plainId_quiet A4q _,C8f (knd:=A2l X.prog X.w) (rs:=rs) (l:=a) (items:=its.toArray) (h₀:=h1.push { cls:= .type "list_iterator",data:= .fields #[.ref a,.int 0 0] }) (by simpa using hh) (Z0h la) (Z0h ld) (Z1q las) (by lia) ?_ (hl1.push _) ?_ rs.length 0 _ _ (by lia) (Z1e _) (i06 _ (Z0c _ rfl) rfl rfl) (λ_ _ _ _ z=>z) ?_⟩
 ·refine ⟨by simp;lia,λi v k u hv hku=> ?_⟩;obtain ⟨x,hx,b,o,m,kv,ev,g1,g2,g3,g4⟩:=A8f rp hku
  have ex:x=v:=by
   have hv:its[i]? =some v:=by simpa using hv
   rw [hx] at hv;exact Z1a hv
  subst ex;have lb:=Z0a g1;exact i0y b o m kv ev (Z0h (Nat.lt_trans lb ld)) (Z0h lb) (Z01 _ (kp1 _ _ (Z01 _ g1))) g2 ⟨g3,g4⟩
 ·intro h' tk dd kp;refine i0h rfl (.ref s.heap.objs.size) _ (I.laid (t':=tk) (o:= .dK (A6b [] kvs)) (λb u eb=>kp b u (Z0h (Nat.lt_trans (Z0a eb) ld)) (Z0h (Z0a eb)) (Z01 _ (kp1 _ _ (Z01 _ eb)))) (Z09 _) ⟨?_,(i05 ?_ _ (KV.merge kv .nil) dd)⟩) rfl (q _ hn)
  ·have:=B0k kvs [];simp only [Z2g] at this
   lia
  ·have:=I.big;have hne:s.heap.objs.size≠sysModules:=Z1q this
   simpa using hne
 ·obtain ⟨od,es,ep,g,r⟩:=hnew;exact i0e od es ep (Z01 _ (kp1 _ _ g)) r
def D4n (neg:Bool):R2:=λx y H Q=>∃a b kvs kvs',x= .ref a/\y= .ref b/\Rd H a (.dK kvs)/\Rd H b (.dK kvs')/\Paired (λ(p q:Key×V)=>p.1=q.1/\∃d,Rep H p.2 d/\Rep H q.2 d/\d.canLay0=true/\d.depth<=60) kvs kvs'/\Q (.bl (! neg)) H
theorem D6u {pins:List (Addr×Obj)} {Z:St} {H:Hp} {s:Shared} (I:Inv X pins Z H s) {A:Around} (hu:A.units+64<cLine) {kb:List (Key×Value)} (nb:(kb.map (·.1)).Nodup):∀{kvs kvs':List (Key×V)} {ka kb':List (Key×Value)},Paired (λ(p q:Key×V)=>p.1=q.1/\∃d,Rep H p.2 d/\Rep H q.2 d/\d.canLay0=true/\d.depth<=60) kvs kvs'->KV kvs ka->KV kvs' kb'->(∀p∈kb',p∈kb)->
  PySem.W.KeqHits A.in1 s kb ka true
 | _,_,_,_,.nil,.nil,.nil,_=> .nil
 | _,_,_,_,@Paired.cons _ _ _ p p' _ _ ⟨ek,d,r1,r2,sh,dp⟩ t,@Paired.cons _ _ _ _ q _ _ h1 t1,@Paired.cons _ _ _ _ q' _ _ h2 t2,hm=>by
  obtain ⟨k,u⟩:=q;obtain ⟨k',u'⟩:=q';have hy:PySem.valueAt kb k'=some u':=B4u nb (hm _ (.head _));have ekk:k=k':=(h1.1.symm.trans ek).trans h2.1;rw [<-ekk] at hy;obtain ⟨as,x1⟩:=A5m I r1 h1.2;obtain ⟨bs,x2⟩:=A5m I r2 h2.2
  have heq:SeqAt.EqAt A.in1 s u u' (PyData.eqv d d):=SeqAt.eqAt_reads d d A.in1 s u u' as bs x1 x2 sh sh (by
   have hm:min d.depth d.depth<=d.depth:=Nat.min_le_left _ _;show A.units+1+min d.depth d.depth<cLine
   lia)
  rw [SeqAt.eqv_refl d sh] at heq;exact PySem.W.KeqHits.hit (e:=true) (b:=true) hy heq (D6u I hu nb t t1 t2 λp hp=>hm p (.tail _ hp))
theorem D4s (hu:X.A.units+64<cLine):OpR X (compareOp .NotEq) (D4n true):=by
 intro pins s Z H x y v u Q I rx ry h;refine e0d h ?_;clear h;rintro a b kvs kvs' rfl rfl ha hb ⟨hf,q⟩;cases rx;cases ry;obtain ⟨_,sa,ka,ra,da⟩:=C0c I.hok ha;obtain ⟨_,sb,kb,rb,db⟩:=C0c I.hok hb;have nb:(kb.map (·.1)).Nodup:=let ⟨_,_,_,_,_,_,_,_,hn⟩:=db;hn;have el:ka.length=kb.length:=by rw [<-ra.length,<-rb.length];exact Paired.length hf
 exact PySem.W.keq_ne (knd:=A2l X.prog X.w) (r:=true) sa sb da db (by lia) (λ_=>D6u I hu nb hf ra rb λ_ z=>z) (i0d (.bl false) H I (by rw [el];simp [A3j]) q)
end
section
variable {D:Addr} {g:TG} {te:TE} {QD:Hp->Prop} {Z₀:St} {H:Hp}
theorem B7k {J:It} (n:Nat) (Pv:Nat->List V->Hp->Prop) (h0:Pv 0 [] (upd H D (.lst []))) (hgo:∀i ys H,i<n->Pv i ys H->J.go i H) (hst:∀ys H,Pv n ys H->J.stop n H)
  (hs:∀i ys H,i<n->Pv i ys H->∀x H3,J.yld i H x H3->g x Z₀ H3 λZ4 H4=>A3e Z₀ Z4/\te Z4 H4 λy H5=>H5 D=some (.lst ys)/\ys.length<sizeLine/\Pv (i+1) (ys++[y]) (upd H5 D (.lst (ys++[y])))) (hd:∀ys H,Pv n ys H->QD H) :
  ∃W:Nat->Nat->Hp->Prop,(∃m,W 0 m (upd H D (.lst [])))/\∀i m H2,W i m H2->
   (J.stop i H2/\QD H2)\/(J.go i H2/\∃N:VK,(∀y H5,N y H5->∃xs,H5 D=some (.lst xs)/\xs.length<sizeLine/\∃m',m'<m/\W (i+1) m' (upd H5 D (.lst (xs++[y]))))/\
    ∀x H3,J.yld i H2 x H3->g x Z₀ H3 λZ4 H4=>A3e Z₀ Z4/\te Z4 H4 N):=by
 refine i02 (λi m H=>m=n-i/\i<=n/\∃ys,Pv i ys H) (i0b n (by simp) (Z1e _) [] h0) ?_;rintro i m H2 ⟨rfl,hi,ys,p⟩;by_cases hlt:i<n
 ·exact .inr (i05 (hgo i ys H2 hlt p) (λy H5=>H5 D=some (.lst ys)/\ys.length<sizeLine/\Pv (i+1) (ys++[y]) (upd H5 D (.lst (ys++[y])))) (λy H5 z=>(i0t ys z.1 z.2.1 (n-(i+1)) (by lia) rfl hlt _ z.2.2)) λx H3 z=>hs i ys H2 hlt p x H3 z)
 ·have e:i=n:=by lia
  subst e;exact .inl ⟨hst ys H2 p,hd ys H2 p⟩
end
theorem C9j (h:X.K=K):IxR X (D9l K):=h▸A1n
theorem C7f {U:String} {b:Bool} (h:mroIn K C (.type U)=some b) (hm:PySem.W.kitMeta U=true):∀u,A3j (.ty U) u->kitOne K (.ref C) u=some b:=by
 intro u z;cases (show u=Value.type U from z);unfold kitOne;rw [Z0t (show¬(Value.ref C == Value.type U)=true from Z0v)];show (if PySem.W.kitMeta U=true then subIn K (.ref C) (.type U) else none)=some b;rw [Z12 hm];exact h
theorem A2y.or {base:Heap} {CX:CXT} {k:Nat} {sp sp':Sp} (F:A2y P w K mg base CX k f fd ps sp) (F':A2y P w K mg base CX k f fd ps sp') :
  A2y P w K mg base CX k f fd ps (λvs H Q E=>sp vs H Q E\/sp' vs H Q E) :=
 ⟨λvs H Q E q=>q.elim (F.len vs H Q E) (F'.len vs H Q E),λA outer s H args us vs Q E hr he hb hv q=>q.elim (F.run A outer s H args us vs Q E hr he hb hv) (F'.run A outer s H args us vs Q E hr he hb hv)⟩
theorem B9q (acc ws:List (Key×V)) (w:Key×V):A6b acc (ws++[w])=B1n (A6b acc ws) w.1 w.2:=by unfold A6b;rw [List.foldl_append];rfl
section
variable {X:Cx}
theorem C1w {tg:Expr} (hN₀:X.N.Nodup) (hi₀:X.N[i₀]? =some x₀) (hx₀:Loc X.env.scope x₀) (hc:X.calm=true) (ck:C5s X scope cl) (io:C7u X N' scope ix) (hi:PI X tg iter wi)
  (hg:∀C s₀ H₀ fp,PG (blk X N' scope cl C s₀ H₀ fp) tg g) (ht:∀C s₀ H₀ fp,PTs (blk X N' scope cl C s₀ H₀ fp) cs tc) (he:∀C s₀ H₀ fp,PE (blk X N' scope cl C s₀ H₀ fp) elt te) (R:C3t->St->It->Hp->Prop) (hR:∀D Z J H1,R D Z J H1->∀D2,H1 D2=none->∃W:Nat->Nat->Hp->Prop,(∃m,W 0 m (upd H1 D2 (.lst [])))/\∀i m H2,W i m H2->
   (J.stop i H2/\D.nx (Z.set i₀ (some (.ref D2))) H2)\/(J.go i H2/\∃(N:VK) (M:Hp->Prop),(∀y H5,N y H5->∃xs,H5 D2=some (.lst xs)/\xs.length<sizeLine/\∃m',m'<m/\W (i+1) m' (upd H5 D2 (.lst (xs++[y]))))/\(∀H5,M H5->∃m',m'<m/\W (i+1) m' H5)/\∀x H3,J.yld i H2 x H3->g x (A6j ix Z) H3 λZ4 H4=>A3e (A6j ix Z) Z4/\tc Z4 H4 λb H5=>if b=true then te Z4 H5 N else M H5)) (hs:∀x,foldedSetIterable iter X.env x=pure x:=by intro _;rfl)
  (hsw:swapsWith (.ListComp elt [⟨tg,iter,cs,0⟩] scope pos) (some (.Name x₀ pos₀)) spos.line X.env=pure true:=by rfl) (hf₀:X.fn x₀=true\/X.env.scope.names.lookup x₀=some .local:=by first | exact .inl rfl | exact .inr rfl | assumption) :
  PS X (.Assign [.Name x₀ pos₀] (.ListComp elt [⟨tg,iter,cs,0⟩] scope pos) spos) (λD Z H=>wi Z H (R D Z)):=by
 intro pins s Z H D₀ I h;rw [exec_Assign_Name_used _ _ _ _ hsw];refine Z00 (Z1y (Z00 ?_));show wpAny _ X.A (do let _<-comprehension (.ListComp elt [⟨tg,iter,cs,0⟩] scope pos) scope X.env _ (newList []) false (eval iter X.env) (some (assign (.Name x₀ pos₀) X.env))) _ _ s;refine Z00 (Z10 (wpAny_comprehension_free (use:=some (assign (.Name x₀ pos₀) X.env)) (Q:=λ_ s'=>∃Z' H',Inv X pins Z' H' s'/\D₀.nx Z' H') rfl hs ck.eq ck.kind ck.names (thn (hi pins s Z H _ I h) λxv s1 h1=>thn h1 λitv s2 h2=> ?_)) (λ_ s' hq=>Z04 (Z04 hq)) λ_ _ e=>e);refine e0e h2 ?_;clear h2;rintro it fp tn J H1 rfl I1 T st1 ⟨f1,R1⟩;refine Z16 ?_;have hD:H1 s2.heap.objs.size=none:=I1.hok.fresh (Z09 _);obtain ⟨W,⟨m0,w0⟩,turn⟩:=hR _ _ _ _ R1 _ hD;have hfD:∀b∈fp,b<s2.heap.objs.size:=λb hb=>let ⟨o,e,_⟩:=T.obj _ _ st1 b hb;Z0a e;have I2:Inv X pins Z (upd H1 s2.heap.objs.size (.lst [])) { s2 with heap:=s2.heap.push { cls:= .type "list",data:= .seq ([]:List Value).toArray },toks:=s2.toks }:=I1.lnew (its:=[]) .nil (Z1e _);have f2:∀b∈fp,C0r X pins (upd H1 s2.heap.objs.size (.lst [])) b:=λb hb=>⟨by rw [A0k (Z0h (hfD b hb))];exact (f1 b hb).1,(f1 b hb).2⟩
 have lt2:∀b∈fp,b<(s2.heap.push { cls:= .type "list",data:= .seq ([]:List Value).toArray }).objs.size:=λb hb=>by rw [Z1s];exact Nat.lt_succ_of_lt (hfD b hb)
 refine wpAny_newFunctionEnv ck.ncell (by intro y hy;simp at hy) (λh3 hns sb3=> ?_) ck.kind;dsimp only at hns sb3⊢;have k3:∀b o,(s2.heap.push { cls:= .type "list",data:= .seq ([]:List Value).toArray }).get? b=some o->h3.get? b=some o:=λb o e=>(sb3.2 b (Z0h (Z0a e))).trans (Z01 _ e);generalize hs2:({ s2 with heap:=s2.heap.push { cls:= .type "list",data:= .seq ([]:List Value).toArray },toks:=s2.toks }:Shared)=s3 at I2;have e3:s2.heap.push { cls:= .type "list",data:= .seq ([]:List Value).toArray }=s3.heap:=by rw [<-hs2]
 rw [e3] at hns k3 lt2;have I3:=B7d (N':=N') (ix:=ix) I2 ck io f2 lt2 (h':=h3) (t':=s2.toks+([]:List (Str×Value)).length) hns k3;have e4:({ s3 with heap:=h3,toks:=s2.toks+([]:List (Str×Value)).length }:Shared)={ s2 with heap:=h3,toks:=s2.toks+([]:List (Str×Value)).length }:=by rw [<-hs2]
 rw [e4] at I3;have st3:tn 0 h3:=T.keep _ _ _ st1 λb hb o e=>k3 b o (by rw [<-e3];exact Z01 _ e)
 have loop:∀s4:Shared,s4={ s2 with heap:=h3,toks:=s2.toks+([]:List (Str×Value)).length }->
   codeAny (model X.prog X.w) X.A (.compLoop (.ListComp elt [⟨tg,iter,cs,0⟩] scope pos) 0 (.ref it) (.ref s2.heap.objs.size) (compEnvC scope cl s3.heap.objs.size X.env))
    (compPost (model X.prog X.w) X.A X.xe (some (assign (.Name x₀ pos₀) X.env)) (λ_ s'=>∃Z' H',Inv X pins Z' H' s'/\D₀.nx Z' H') (.ref s2.heap.objs.size) s3.heap.objs.size) s4:=by
  rintro s4 rfl
  have stat:∀{H':Hp},(∀b∈fp,H' b=none)->∀b∈fp,C0r (blk X N' scope cl s3.heap.objs.size s3 (upd H1 s2.heap.objs.size (.lst [])) fp) [] H' b:=λhn b hb =>
   (i0g (hn b hb) (Z0h (lt2 b hb)) (λhs=>I3.ok.exfs b hb hs) (.inl hb) (λx c e=>(f2 b hb).2.2.2.2.1 x c (ck.sub x c e)) (λp hp=>by cases hp))
  refine codeAny_loop rfl (λn s'=>∃i Z' H',Inv (blk X N' scope cl s3.heap.objs.size s3 (upd H1 s2.heap.objs.size (.lst [])) fp) [] Z' H' s'/\(∀(j:Nat) v,(A6j ix Z)[j]? =some (some v)->Z'[j]? =some (some v))/\tn i s'.heap/\(∀b∈fp,H' b=none)/\W i n H')
   (λn s' hI=> ?_) m0 (i0s 0 _ _ I3 (λ_ _ z=>z) st3 (λb hb=>(f2 b hb).1) w0)
  refine e09 hI ?_;clear hI;rintro i Z5 H5 I5 wk st5 ⟨fr5,w5⟩;show wpAny _ _ ((compTurn (.ListComp elt [⟨tg,iter,cs,0⟩] scope pos) 0 (.ref it) (.ref s2.heap.objs.size) (compEnvC scope cl s3.heap.objs.size X.env)).onRaise (λx=>do noteFrame x (compEnvC scope cl s3.heap.objs.size X.env);theTreesLotGoes x)) _ _ s';refine wpAny_noted ?_;rw [compTurn_list];refine Z00 (Z1y ?_);rcases turn i n H5 w5 with ⟨stop,qn⟩ | ⟨go,NN,MM,hNN,hMM,step⟩
  ·refine Z00 (Z10 (T.done (blk X N' scope cl s3.heap.objs.size s3 (upd H1 s2.heap.objs.size (.lst [])) fp) rfl rfl rfl hc i [] s' Z5 H5 (λ_ _=>False) I5 (stat fr5) st5 stop) (λr s6 h6=> ?_) λ_ _ z=>z.elim);obtain ⟨rfl,I6⟩:=h6;refine Z04 ?_;obtain ⟨mm,hm,_⟩:=id I6.loc;have fC:C0r X pins H5 s3.heap.objs.size:=I2.fpOk (Z09 _) I6.free;have Io:Inv X pins Z H5 s6:=C3x I2 f2 I6 (Heap.SameBut.refl _ _);show wpAny _ X.A (assign (.Name x₀ pos₀) X.env (.ref s2.heap.objs.size)) _ _ s6;refine wpAny_assign_Name (B8t Io hN₀ hi₀ hx₀ (v:= .ref s2.heap.objs.size) rfl (λs7 I7 sb7=> ?_) hf₀);obtain ⟨a,sb,ha⟩:=sb7
   have ca:s3.heap.objs.size≠a:=by
    rcases ha with ha | ha
    ·rw [ha];exact fC.2.1
    ·exact λz=>fC.2.2.2.2.1 _ _ ha z.symm
   obtain ⟨oC,es,ep,ho,r⟩:=hm;exact i02 mm (i0e oC es ep ((sb.2 _ ca).trans ho) r) λh' sb'=>(i07 _ H5 (I7.turned (t':=s7.toks) (λb o hb e=>(sb'.2 b hb).trans e) fC.1 fC.2.1 fC.2.2.2.1 fC.2.2.2.2.1 fC.2.2.2.2.2) qn)
  ·refine Z00 (Z10 (T.item (blk X N' scope cl s3.heap.objs.size s3 (upd H1 s2.heap.objs.size (.lst [])) fp) rfl rfl rfl hc i [] s' Z5 H5 (λ_ _=>False) I5 (stat fr5) st5 go) (λr s6 h6=> ?_) λ_ _ z=>z.elim);obtain ⟨u,rfl,h6⟩:=h6;refine Z00 (Z10 h6 (λ_ s7 h7=> ?_) λ_ _ z=>z.elim);refine e06 h7 ?_;clear h7;rintro x H7 I7 r7 y7 ⟨st7,fr7⟩;have I7w:Inv (blk X N' scope cl s3.heap.objs.size s3 (upd H1 s2.heap.objs.size (.lst [])) fp) [] (A6j ix Z) H7 s7:=I7.weak (by rw [I7.len];unfold A6j;rw [Z08];exact io.1) wk;have I7p:=I7w.pinned (stat fr7) (T.obj _ _ st7);refine Z00 (Z10 (hg _ _ _ _ _ s7 _ H7 x u _ I7p r7 (step x H7 y7)) (λ_ s8 h8=> ?_) λ_ _ z=>z.elim);obtain ⟨Z8,H8,I8,kp8,q8⟩:=h8
   have back:∀{s10:Shared} {Z10:St} {H10:Hp} {m':Nat},Inv (blk X N' scope cl s3.heap.objs.size s3 (upd H1 s2.heap.objs.size (.lst [])) fp) ([]++B4v fp s7.heap) Z10 H10 s10->(∀(j:Nat) v,(A6j ix Z)[j]? =some (some v)->Z10[j]? =some (some v))->W (i+1) m' H10->
     ∃i Z' H',Inv (blk X N' scope cl s3.heap.objs.size s3 (upd H1 s2.heap.objs.size (.lst [])) fp) [] Z' H' s10/\(∀(j:Nat) v,(A6j ix Z)[j]? =some (some v)->Z'[j]? =some (some v))/\tn i s10.heap/\(∀b∈fp,H' b=none)/\W i m' H':=by
    intro s10 Z10 H10 m' I10 kk w10;refine i0s (i+1) Z10 H10 I10.unpinned kk (T.keep _ _ _ st7 λb hb o e=>(I10.pin (b,o) (Z02 _ (Z02 _ (A5k hb e)))).1) (λb hb=> ?_) w10;obtain ⟨o,e,d⟩:=T.obj _ _ st7 b hb;exact (I10.pin (b,o) (Z02 _ (Z02 _ (A5k hb e)))).2.1
   refine Z00 (Z10 (ht _ _ _ _ _ s8 Z8 H8 _ I8 q8) (λok s9' h9'=> ?_) λ_ _ z=>z.elim);obtain ⟨H9',I9',q9'⟩:=h9'
   cases ok with
   | false =>
    have q9'':MM H9':=by simpa using q9'
    obtain ⟨m',hm',w9⟩:=hMM _ q9'';exact Z00 (Z04 (Z04 (i05 rfl m' hm' (back I9' kp8.get w9))))
   | true =>
    have q9'':te Z8 H9' NN:=by simpa using q9'
    refine Z00 (Z00 (Z10 (he _ _ _ _ _ s9' Z8 H9' _ I9' q9'') (λyv s9 h9=> ?_) λ_ _ z=>z.elim));obtain ⟨y,H9,I9,r9,n9⟩:=h9;obtain ⟨xs,hx9,hz9,m',hm',w9⟩:=hNN _ _ n9;refine Z00 (Z10 (A2d (X:=blk X N' scope cl s3.heap.objs.size s3 (upd H1 s2.heap.objs.size (.lst [])) fp) _ s9 Z8 H9 (.ref s2.heap.objs.size) [y] (.ref s2.heap.objs.size) [yv] (λ_ H'=>W (i+1) m' H') I9 rfl (.cons r9 .nil) (i0s _ xs y rfl rfl hx9 hz9 w9)) (λ_ s10 h10=> ?_) λ_ _ z=>z.elim);obtain ⟨_,H10,I10,_,w10⟩:=h10;exact Z04 (Z04 (i05 rfl m' hm' (back I10 kp8.get w10)))
 have e5:s3.heap.objs.size=(s2.heap.push { cls:= .type "list",data:= .seq ([]:List Value).toArray }).objs.size:=by rw [e3]
 rw [e5] at loop;exact codeAny_compStart_list (loop _ rfl) (T.self X.A 0 _ _ _ st3 (loop _ rfl))
theorem B6h {tg:Expr} (hN₀:X.N.Nodup) (hi₀:X.N[i₀]? =some x₀) (hx₀:Loc X.env.scope x₀) (hc:X.calm=true) (ck:C5s X scope cl) (io:C7u X N' scope ix) (hi:PI X tg iter wi)
  (hg:∀C s₀ H₀ fp,PG (blk X N' scope cl C s₀ H₀ fp) tg g) (he:∀C s₀ H₀ fp,PE (blk X N' scope cl C s₀ H₀ fp) elt te) (hs:∀x,foldedSetIterable iter X.env x=pure x:=by intro _;rfl)
  (hsw:swapsWith (.ListComp elt [⟨tg,iter,[],0⟩] scope pos) (some (.Name x₀ pos₀)) spos.line X.env=pure true:=by rfl) (hf₀:X.fn x₀=true\/X.env.scope.names.lookup x₀=some .local:=by first | exact .inl rfl | exact .inr rfl | assumption) :
  PS X (.Assign [.Name x₀ pos₀] (.ListComp elt [⟨tg,iter,[],0⟩] scope pos) spos) (D7l (D5a ix wi g te) (A5w i₀)) :=
 C1w (tc:=λ_ H Q=>Q true H) hN₀ hi₀ hx₀ hc ck io hi hg (λ_ _ _ _ _ _ _ _ _ I h=>wpAny_tests_nil (i02 _ I h)) he _ (λ_ _ _ _ R D2 hD=>by
  obtain ⟨W,w0,turn⟩:=R D2 hD;refine i02 W w0 λi m H2 w=>(turn i m H2 w).imp id λ⟨go,N,hN,step⟩=>(i0h go N (λ_=>False) hN (λ_ z=>z.elim) ?_)
  simpa using step) hs hsw hf₀
theorem B3c {tg c:Expr} (hN₀:X.N.Nodup) (hi₀:X.N[i₀]? =some x₀) (hx₀:Loc X.env.scope x₀) (hc:X.calm=true) (ck:C5s X scope cl) (io:C7u X N' scope ix) (hi:PI X tg iter wi)
  (hg:∀C s₀ H₀ fp,PG (blk X N' scope cl C s₀ H₀ fp) tg g) (ht:∀C s₀ H₀ fp,PT (blk X N' scope cl C s₀ H₀ fp) c tc) (he:∀C s₀ H₀ fp,PE (blk X N' scope cl C s₀ H₀ fp) elt te) (hs:∀x,foldedSetIterable iter X.env x=pure x:=by intro _;rfl)
  (hsw:swapsWith (.ListComp elt [⟨tg,iter,[c],0⟩] scope pos) (some (.Name x₀ pos₀)) spos.line X.env=pure true:=by rfl) (hf₀:X.fn x₀=true\/X.env.scope.names.lookup x₀=some .local:=by first | exact .inl rfl | exact .inr rfl | assumption) :
  PS X (.Assign [.Name x₀ pos₀] (.ListComp elt [⟨tg,iter,[c],0⟩] scope pos) spos) (D7l (C7m ix wi g tc te) (A5w i₀)) :=
 C1w hN₀ hi₀ hx₀ hc ck io hi hg (λC s₀ H₀ fp pins s Z H Q I h=>wpAny_tests_one (ht C s₀ H₀ fp pins s Z H Q I h)) he _ (λ_ _ _ _ R=>R) hs hsw hf₀
end
theorem B0l (h:X.K=K):A9l X (.type "list") (λxs H Q=>∃p ys,xs=[.ref p]/\(SqL K H p ys\/SqT K H p ys)/\∀l,H l=none->Q (.ref l) (upd H l (.lst ys))):=h▸A4t
section
variable {X:Cx}
theorem A8m (hc:X.calm=true):A9l X (.type "list") (λvs H Q=>∃a kvs,vs=[V.ref a]/\H a=some (.dK kvs)/\∀l,H l=none->Q (.ref l) (upd H l (.lst (kvs.map λp=>kV p.1)))):=by
 intro pins s Z H vs us Q I r h;obtain ⟨a,kvs,rfl,ha,q⟩:=h;obtain ⟨u,rfl,ru⟩:=B1u r;cases ru;refine e0c (C4d I.hok ha) ?_;rintro hz hs ws rel o es ep ho ⟨hx,hd,rr⟩;have dd:s.heap.DictAt (A2l X.prog X.w) a ws ep:=(i0k o es ho hx hd rr);have ll:=rel.length;refine PySem.W.kdl_call (PySem.W.kdl_dict hs) (I.ok.hd hc) dd (by rw [<-ll];exact hz) λh' tk acc c kp hD hacc=> ?_
 have rv:A3z (kvs.map λp=>kV p.1) acc.toList:=B3m (by rw [Z08,ll];exact hacc.1.symm) λi x y hx hy=>by
  rw [Z1z] at hx;obtain ⟨⟨k,v⟩,hkv,rfl⟩:=Z0i.mp hx;obtain ⟨k',v',e1,e2⟩:=hacc.2 i y (by rw [<-Array.getElem?_toList];exact hy);obtain ⟨u,e3,_⟩:=rel.at hkv;rw [e3] at e1;cases e1;exact D2p e2
 exact i0d (.ref s.heap.objs.size) _ (I.laid (t':=tk) kp (Z09 _) (show A2v X.prog X.w _ h' _ (.lst _) from (i09 (by rw [Z08];exact hz) acc.toList c rv (by simpa using hD)))) rfl (q _ (I.hok.fresh (Z09 _)))
end
def D4h (K:Frag):List V->Hp->VK->Prop:=λxs H Q=>∃a C dx fs tp cs b,xs=[.ref a,.ref tp]/\H a=some (.ins C dx fs)/\Cls K C/\findIn K (.ref C) "__class__"=some (some (.builtin "object.__class__"))/\
 specialIn K (.builtin "object.__class__") "__get__"=some (some (.builtin "getset_descriptor.__get__"))/\takesIn K (.builtin "object.__class__")=some true/\mroIn K C (.type "object")=some true/\
 H tp=some (.tup cs)/\(∀us,A3z cs us->kitAny K (.ref C) us=some b)/\Q (.bl b) H
theorem B4z:A9l X (.builtin "isinstance") (D4h X.K):=by
 intro pins s Z H xs us Q I r h;refine e08 h ?_;clear h;rintro a C dx fs tp ⟨cs,b,rfl,ea,cl,ha,hn,htk,hm,ht,k,q⟩;obtain ⟨u,w',rfl,ru,rw'⟩:=C8k r;cases ru;cases rw';refine e0a (show A2v X.prog X.w H s.heap tp (.tup cs) from I.hok tp _ ht) λ_ its rv ob hob hc n hd=>?_;obtain ⟨oc,od,oda,osl⟩:=ob;dsimp only at hc hd;subst hc hd;obtain ⟨mA,O,_⟩:=B3e I.hok ea;obtain ⟨od2,J,_⟩:=O.look;exact PySem.W.kia_tup (PySem.W.kitx_own (cl.get _) cl.hd ha hn htk hm) I.kIn J hob (k its rv) (λz=>nomatch z) λtk=>(i0d (.bl b) H (I.tok tk) rfl q)
end L2
namespace My
open PySem L2
variable {a l f p d:Addr} {b u:Tm} {x y:Str} {r:Tm×LS} {n i m:Nat} {z:LS} {e:Str×List Str} {ix ax:List (Str×Int)} {fd:FuncData} {ps xs ys os kn pend:List Str} {es tb:List (Str×List Str)} {H H':Hp} {o:HO} {K:Frag} {mg:Str->Option Value} {v:V} {A:Adr} {S:Addr->Prop} {ls:List Lt} {g:List Gd} {T:String} {sp':Sp} {kvs ws lk:List (Key×V)} {t1 t2:TT} {Z:St} {Q:Bool->Hp->Prop} {d1 d2:Bool}
inductive Op3 | plus | minus | times
inductive Tm
 | num (z:Int) | place (x:Str) | read (a:Str) (ix:List (Str×Int)) | sum (x:Str) (b:Tm) | pair (k:Op3) (l r:Tm) | guard (x:Str) (lo hi:Int) (l r:Tm)
def Op3.name:Op3->Str | .plus=>"plus" | .minus=>"minus" | .times=>"times"
def Op3.sign:Op3->Str | .plus=>"+" | .minus=>"-" | .times=>"*"
def B0v (e:Str×Int):PyData:= .tuple [.str e.1,.int e.2]
def A5b (ix:List (Str×Int)):PyData:= .list (ix.map B0v)
def enc:Tm->PyData
 | .num z=> .tuple [.str "number",.int z]
 | .place x=> .tuple [.str "place",.str x]
 | .read a ix=> .tuple [.str "read",.str a,A5b ix]
 | .sum x b=> .tuple [.str "sum",.str x,enc b]
 | .pair k l r=> .tuple [.str k.name,enc l,enc r]
 | .guard x lo hi l r=> .tuple [.str "guard",.str x,.int lo,.int hi,enc l,enc r]
def dep:Tm->Nat
 | .sum _ b=>dep b+1
 | .pair _ l r=>max (dep l) (dep r)+1
 | .guard _ _ _ l r=>max (dep l) (dep r)+1
 | _=>1
def nod:Tm->Nat
 | .sum _ b=>nod b+1
 | .pair _ l r=>nod l+nod r+1
 | .guard _ _ _ l r=>nod l+nod r+1
 | _=>1
def Sm (z:Int):Prop:=z.natAbs<=10^32
def A8k (x:Str):Prop:=x.length<=20/\PyData.strOk x=true
def A8d (e:Str×Int):Str:=if e.1="" then (toString e.2:Str) else if e.2=0 then e.1 else if 0<e.2 then e.1++"+"++(toString e.2:Str) else e.1++(toString e.2:Str)
def D0f (ix:List (Str×Int)):Str:=Txt.join "," (ix.map A8d)
def A5c:Tm->List Str
 | .num z=>[(toString z:Str)]
 | .place x=>[x]
 | .read a ix=>[a++"["++D0f ix++"]"]
 | .sum x b=>[("sum":Str),x]++A5c b
 | .pair k l r=>[k.sign]++A5c l++A5c r
 | .guard x lo hi l r=>[("if":Str),x,(toString lo:Str),(toString hi:Str)]++A5c l++A5c r
theorem A3x:∀t:Tm,(A5c t).length<=4*nod t
 | .num z=>by simp [A5c,nod]
 | .place x=>by simp [A5c,nod]
 | .read a ix=>by simp [A5c,nod]
 | .sum x b=>by have:=A3x b;simp only [A5c,nod,Z06,Z0y,Z2g];lia
 | .pair k l r=>by have:=A3x l;have:=A3x r;simp only [A5c,nod,Z06,Z0y,Z2g];lia
 | .guard x lo hi l r=>by have:=A3x l;have:=A3x r;simp only [A5c,nod,Z06,Z0y,Z2g];lia
theorem A4y:∀t:Tm,1<=dep t
 | .num z=>by simp [dep]
 | .place x=>by simp [dep]
 | .read a ix=>by simp [dep]
 | .sum x b=>by simp [dep]
 | .pair k l r=>by simp [dep]
 | .guard x lo hi l r=>by simp [dep]
theorem D9k:∀a b:List (Str×Int),PyData.eqvAll (a.map B0v) (b.map B0v)=true->a=b
 | [],[],_=>rfl
 | [],_::_,h=>by simp [PyData.eqvAll] at h
 | _::_,[],h=>by simp [PyData.eqvAll] at h
 | (x,i)::r,(y,j)::s,h=>by
  simp only [Z0p,B0v,PyData.eqvAll,PyData.eqv,Z1x,beq_iff_eq,Bool.and_true] at h;obtain ⟨⟨h1,h2⟩,h3⟩:=h;rw [h1,h2,D9k r s h3]
theorem C8g {a b:Op3} (h:a.name=b.name):a=b:=by cases a <;> cases b <;> first | rfl | exact absurd h (by decide +kernel)
theorem A7l {r s:List PyData} (h:PyData.eqv (.tuple (.str x::r)) (.tuple (.str y::s))=true):x=y:=by
 rw [PyData.eqv,PyData.eqvAll,PyData.eqv] at h;exact beq_iff_eq.mp (Bool.and_eq_true_iff.mp h).1
theorem D3r:∀a b:Tm,PyData.eqv (enc a) (enc b)=true->a=b:=by
 intro a
 induction a with
 | num z=>intro b h;cases b with
  | num w=>simp only [enc,PyData.eqv,PyData.eqvAll,Z1x,beq_iff_eq,Bool.and_true] at h;rw [h.2]
  | pair k l r=>exact absurd (A7l h) (by cases k <;> decide +kernel)
  | _=>exact absurd (A7l h) (by decide +kernel)
 | place x=>intro b h;cases b with
  | place w=>simp only [enc,PyData.eqv,PyData.eqvAll,Z1x,beq_iff_eq,Bool.and_true] at h;rw [h.2]
  | pair k l r=>exact absurd (A7l h) (by cases k <;> decide +kernel)
  | _=>exact absurd (A7l h) (by decide +kernel)
 | read x ix=>intro b h;cases b with
  | read y jx =>
   simp only [enc,A5b,PyData.eqv,PyData.eqvAll,Z1x,beq_iff_eq,Bool.and_true] at h;obtain ⟨_,h2,h3⟩:=h;rw [h2,D9k _ _ h3]
  | pair k l r=>exact absurd (A7l h) (by cases k <;> decide +kernel)
  | _=>exact absurd (A7l h) (by decide +kernel)
 | sum x c ih=>intro b h;cases b with
  | sum y d =>
   simp only [enc,PyData.eqv,PyData.eqvAll,Z1x,beq_iff_eq,Bool.and_true] at h;obtain ⟨_,h2,h3⟩:=h;rw [h2,ih _ h3]
  | pair k l r=>exact absurd (A7l h) (by cases k <;> decide +kernel)
  | _=>exact absurd (A7l h) (by decide +kernel)
 | pair k l r ihl ihr=>intro b h;cases b with
  | pair k' l' r' =>
   simp only [enc,PyData.eqv,PyData.eqvAll,Z1x,beq_iff_eq,Bool.and_true] at h;obtain ⟨h1,h2,h3⟩:=h;rw [C8g h1,ihl _ h2,ihr _ h3]
  | guard _ _ _ _ _=>exact absurd (A7l h) (by cases k <;> decide +kernel)
  | _=>exact absurd (A7l h) (by cases k <;> decide +kernel)
 | guard x lo hi l r ihl ihr=>intro b h;cases b with
  | guard y lo' hi' l' r' =>
   simp only [enc,PyData.eqv,PyData.eqvAll,Z1x,beq_iff_eq,Bool.and_true] at h;obtain ⟨h1,h2,h3,h4,h5,h6⟩:=h;rw [h2,h3,h4,ihl _ h5,ihr _ h6]
  | pair k l' r'=>exact absurd (A7l h) (by cases k <;> decide +kernel)
  | _=>exact absurd (A7l h) (by decide +kernel)
theorem D9e:∀a:List (Str×Int),(∀e∈a,A8k e.1/\Sm e.2)->PyData.canLayAll0 (a.map B0v)=true/\PyData.depthAll (a.map B0v)<=1
 | [],_=>⟨rfl,Z1e _⟩
 | (x,i)::r,h=>by
  obtain ⟨h1,h2⟩:=D9e r λe he=>h e (.tail _ he);have hx:PyData.strOk x=true:=(h (x,i) (.head _)).1.2;constructor
  ·simp [B0v,PyData.canLayAll0,PyData.canLay0,hx,h1]
  ·simp [B0v,PyData.depthAll,PyData.depth,h2]
theorem D1o (k:Op3):PyData.strOk k.name=true:=by cases k <;> decide +kernel
theorem C7k (h:n<10^33):(Str.ofString (Nat.repr n)).length<=33:=by
 rw [PyProof.Rows.ofString_len]
 simpa [Nat.repr] using PySem.toDigits_len_pow (b:=10) (k:=33) (by decide) (by decide) h
theorem D3i (a b:String):Str.ofString (a++b)=Str.ofString a++Str.ofString b:=by
 rw [Str.ofString_eq_toList,Str.ofString_eq_toList,Str.ofString_eq_toList];apply Str.ext';simp [Str.cps_append,String.toList_append]
theorem B3f {z:Int} (h:Sm z):(toString z:Str).length<=34:=by
 unfold Sm at h
 cases z with
 | ofNat m =>
  have hm:m<10^33:=Z2d (show m<=10^32 from h) (by decide);exact Nat.le_succ_of_le (C7k hm)
 | negSucc m =>
  have hm:m+1<10^33:=Z2d (show m+1<=10^32 from h) (by decide);have e:(toString (Int.negSucc m):Str)=Str.ofString "-"++Str.ofString (Nat.repr (m+1)):=D3i "-" (Nat.repr (m+1));rw [e,Str.length_append];have h1:=C7k hm;have h2:(Str.ofString "-").length=1:=by decide +kernel
  lia
theorem B1p {z:Int} (h:Sm z):z.natAbs.log2<1920:=by
 by_cases h0:z.natAbs=0
 ·rw [h0];decide
 ·exact (Nat.log2_lt h0).mpr (Z2d h (Z0q (show 10^32<2^110 by decide) (Nat.pow_le_pow_right (by decide) (by decide))))
theorem C9b {e:Str×Int} (h1:A8k e.1) (h2:Sm e.2):(A8d e).length<=60:=by
 have l:=B3f h2;have n:=h1.1;have p:("+":Str).length=1:=by decide +kernel
 unfold A8d;split
 ·lia
 ·split
  ·lia
  ·split
   ·rw [Str.length_append,Str.length_append];lia
   ·rw [Str.length_append];lia
theorem B9v:∀ix:List (Str×Int),(∀e∈ix,A8k e.1/\Sm e.2)->((ix.map A8d).map (·.length)).sum<=60*ix.length
 | [],_=>by simp
 | e::r,h=>by
  have:=B9v r λe he=>h e (.tail _ he);have:=C9b (h e (.head _)).1 (h e (.head _)).2;simp only [Z0p,List.sum_cons,Z0y]
  lia
def B4s:List (Str×Int)->Str->Str
 | [],z=>z
 | e::r,z=>B4s r (z++","++A8d e)
theorem C1q:∀(r:List (Str×Int)) (y z:Str),B4s r (y++z)=y++B4s r z
 | [],_,_=>rfl
 | e::r,y,z=>by
  show B4s r (y++z++","++A8d e)=_;rw [Str.append_assoc,Str.append_assoc,C1q r];rw [<-Str.append_assoc];rfl
theorem B7j:∀(r:List (Str×Int)) (y:Str),B4s r y=Str.join "," (y::r.map A8d)
 | [],_=>rfl
 | e::r,y=>by
  show B4s r (y++","++A8d e)=_;rw [B7j r,StrLaws.join_shift];rfl
theorem C9f (ix:List (Str×Int)):Txt.slice (B4s ix "") (some 1) none=D0f ix:=by
 have p:((",":Str)).length=1:=by decide +kernel
 cases ix with
 | nil =>
  have:Txt.slice (B4s [] "") (some 1) none=Str.empty:=PyProof.Rows.slice_beyond (by decide +kernel);rw [this];rfl
 | cons e r =>
  have e0:B4s (e::r) ""=","++B4s r (A8d e):=by
   show B4s r (""++","++A8d e)=_;rw [Str.append_assoc,show (("":Str)++(","++A8d e))=","++A8d e from Str.empty_append _,C1q]
  have e1:D0f (e::r)=B4s r (A8d e):=by
   rw [B7j];exact StrLaws.glued_eq_join _ _
  rw [e0,e1,PyProof.Rows.slice_from_eq (b:=((",":Str)++B4s r (A8d e)).length) (by decide) (by rw [Str.length_append,p];lia) rfl];apply Str.ext';rw [Str.length_append,p]
  have q:(((",":Str)++B4s r (A8d e)).cps.toList.drop (1:Int).toNat)=(B4s r (A8d e)).cps.toList:=by
   rw [Str.cps_append,Array.toList_append];rfl
  rw [q]
  have l:(((1+(B4s r (A8d e)).length:Nat):Int)-1).toNat=(B4s r (A8d e)).cps.toList.length:=by
   show _=(B4s r (A8d e)).cps.size;show (((1+(B4s r (A8d e)).cps.size:Nat):Int)-1).toNat=_
   lia
  rw [l,Z18]
theorem A9x {z:Int} (h1: -100000000000000000000000000000000<=z) (h2:z<=100000000000000000000000000000000):Sm z:=by
 unfold Sm;have:(10:Nat)^32=100000000000000000000000000000000:=by decide
 lia
abbrev abc:Str:="abcdefghijklmnopqrstuvwxyz"
theorem C4u:abc.cps.toList.length=26:=by decide +kernel
theorem C2e:abc.length=26:=by decide +kernel
theorem D0h:∀c∈abc.cps.toList,c<0x110000:=by decide +kernel
theorem C1r:PyData.strOk x=true↔∀c∈x.cps.toList,c<0x110000:=by
 unfold PyData.strOk;rw [<-Array.all_toList,List.all_eq_true];simp
theorem A6p (hx:PyData.strOk x=true) (hy:PyData.strOk y=true):PyData.strOk (x++y)=true:=by
 rw [C1r] at *;intro c hc;rw [Str.cps_append,Array.toList_append] at hc;rcases Z07.mp hc with h | h
 ·exact hx c h
 ·exact hy c h
theorem D0r {c:Nat} (h:c<0x110000):PyData.strOk ⟨#[c]⟩=true:=by
 rw [C1r];intro d hd;simp at hd
 lia
theorem B6r {l u:Option Int} (hx:PyData.strOk x=true):PyData.strOk (Txt.slice x l u)=true:=by
 unfold Txt.slice;split
 ·exact hx
 ·rw [C1r] at *;intro c hc;simp only [List.mem_filterMap] at hc;obtain ⟨i,_,hi⟩:=hc;refine hx c ?_;rw [Array.getElem?_toList.symm] at hi;exact Z13 hi
theorem lenC (x:Str):x.cps.toList.length=x.length:=by rfl
theorem C8p:PyData.depth (A5b ix)<=2:=by
 have h:∀l:List (Str×Int),PyData.depthAll (l.map B0v)<=1:=by
  intro l
  induction l with
  | nil=>simp [PyData.depthAll]
  | cons e r ih=>simp [B0v,PyData.depthAll,PyData.depth] at *;lia
 have:=h ix;simp only [A5b,PyData.depth]
 lia
theorem D0v:cnt (A5b ix)<=1+3*ix.length:=by
 have h:∀l:List (Str×Int),A4d (l.map B0v)<=3*l.length:=by
  intro l
  induction l with
  | nil=>simp [A4d]
  | cons e r ih=>simp only [B0v,A4d,cnt,Z0p,Z0y] at *;lia
 have:=h ix;simp only [A5b,cnt]
 lia
theorem C4g (h:2<=n):(Builtin.Range.rangeSize 0 ((n:Int)-1) 2).toNat=n/2:=by
 unfold Builtin.Range.rangeSize;rw [Z12 (by decide),Z12 (by lia)]
 lia
section
variable {G:Hp} {v:V}
theorem C7a {z:Int} (h:Rep G v (enc (.num z))):∃p,v= .ref p/\G p=some (.tup [.str "number",.int z]):=by
 obtain ⟨p,xs,rfl,e,r⟩:=B5z (show Rep G v (.tuple [.str "number",.int z]) from h);obtain ⟨a,r1,rfl,ha,r⟩:=A4g r;obtain ⟨b,r2,rfl,hb,r⟩:=A4g r;cases B2h r;cases B1h ha;cases C1c hb;exact i02 p rfl e
theorem B9a (h:Rep G v (enc (.place x))):∃p,v= .ref p/\G p=some (.tup [.str "place",.str x]):=by
 obtain ⟨p,xs,rfl,e,r⟩:=B5z (show Rep G v (.tuple [.str "place",.str x]) from h);obtain ⟨a,r1,rfl,ha,r⟩:=A4g r;obtain ⟨b,r2,rfl,hb,r⟩:=A4g r;cases B2h r;cases B1h ha;cases B1h hb;exact i02 p rfl e
theorem C1y (h:Rep G v (enc (.read x ix))):∃p q xs,v= .ref p/\G p=some (.tup [.str "read",.str x,.ref q])/\G q=some (.lst xs)/\A4s G xs (ix.map B0v):=by
 obtain ⟨p,xs,rfl,e,r⟩:=B5z (show Rep G v (.tuple [.str "read",.str x,A5b ix]) from h);obtain ⟨a,r1,rfl,ha,r⟩:=A4g r;obtain ⟨b,r2,rfl,hb,r⟩:=A4g r;obtain ⟨c,r3,rfl,hc,r⟩:=A4g r;cases B2h r;cases B1h ha;cases B1h hb;obtain ⟨q,ys,rfl,e2,r2⟩:=A5q (show Rep G c (.list (ix.map B0v)) from hc);exact i0p p q ys rfl e e2 r2
theorem C6n {e:Str×Int} (h:Rep G v (B0v e)):∃p,v= .ref p/\G p=some (.tup [.str e.1,.int e.2]):=by
 obtain ⟨p,xs,rfl,q,r⟩:=B5z (show Rep G v (.tuple [.str e.1,.int e.2]) from h);obtain ⟨a,r1,rfl,ha,r⟩:=A4g r;obtain ⟨b,r2,rfl,hb,r⟩:=A4g r;cases B2h r;cases B1h ha;cases C1c hb;exact i02 p rfl q
end
def top (i:Nat):Stmt:=PySem.Challenge.pw_arrayloom_k32_sums_are_lifted.main.body.getD i (.Pass ⟨0,0,0,0⟩)
abbrev B6l:Stmt:=top 2
abbrev A7g:Stmt:=top 3
abbrev A9i:Stmt:=A2f (top 5) 0
abbrev A8c:Stmt:=A2f (top 6) 0
abbrev A7b:Stmt:=A2f (top 9) 0
abbrev A6k:Stmt:=A2f (top 9) 3
abbrev A7x:Stmt:=A2f (top 10) 0
abbrev A7h:Stmt:=A2f (top 10) 3
abbrev A9r:Stmt:=A2f (top 11) 0
abbrev A7q:Stmt:=A2f (top 11) 4
abbrev A7y:Stmt:=top 12
abbrev A9j:Stmt:=A2f (top 13) 0
abbrev A8a:Stmt:=A2f (top 13) 3
abbrev A9e:Stmt:=A2f (top 14) 1
abbrev A6f:Stmt:=A2f (top 14) 2
abbrev A8g:Stmt:=A2f (top 15) 1
abbrev A5l:Stmt:=A2f (top 15) 2
abbrev A7w:Stmt:=A2f (top 16) 1
abbrev A5r:Stmt:=A2f (top 16) 2
abbrev B0w:Stmt:=A2f (top 17) 0
abbrev A9o:Stmt:=A2f (top 17) 3
abbrev A7s:Stmt:=A2f (top 18) 0
abbrev A5n:Stmt:=A2f (top 18) 2
abbrev A6v:Stmt:=A2f (top 18) 6
abbrev A9n:Stmt:=A2f (top 20) 0
abbrev B1k:Stmt:=top 21
abbrev A7r:Stmt:=top 22
abbrev A3v:Stmt:=top 23
abbrev A6w:Stmt:=top 24
abbrev A6u:Stmt:=top 25
abbrev B1e:Stmt:=A2f (top 27) 0
abbrev A6l:Stmt:=A2f (top 28) 0
abbrev A7v:Stmt:=top 29
abbrev A7c:Stmt:=top 30
abbrev A7u:Stmt:=top 31
abbrev B0z:Stmt:=top 33
abbrev B0s:Stmt:=top 34
abbrev A7j:Stmt:=A2f (top 35) 0
abbrev A4l:Stmt:=A2f (top 35) 1
abbrev A3p:Stmt:=A2f (top 35) 2
abbrev A7i:Stmt:=A2f (top 35) 3
abbrev A4b:Stmt:=A2f (top 35) 4
abbrev B3g:Stmt:=top 36
abbrev B3h:Stmt:=top 37
abbrev B2v:Stmt:=top 38
abbrev A9d:Stmt:=top 40
abbrev B3l:Stmt:=top 41
abbrev B6f:Stmt:=top 42
abbrev A7z:Stmt:=top 43
abbrev A6s:Stmt:=top 44
abbrev B5d:Stmt:=top 45
abbrev A9b:Stmt:=top 46
abbrev A9p:Stmt:=top 47
abbrev A9t:Stmt:=top 48
abbrev A9k:Stmt:=top 49
abbrev A9h:Stmt:=top 50
abbrev B0u:Stmt:=top 51
abbrev B6n:Stmt:=top 52
abbrev B1d:Stmt:=top 53
abbrev B0r:Stmt:=top 54
abbrev A6m:Stmt:=top 55
abbrev A6i:Stmt:=top 56
abbrev B6q:Stmt:=top 57
abbrev A8i:Stmt:=top 58
abbrev A5a:Stmt:=top 59
abbrev B5h:Stmt:=top 60
abbrev B5x:Stmt:=top 61
abbrev C1a:Stmt:=top 62
abbrev A7d:Stmt:=top 63
abbrev A6h:Stmt:=top 64
abbrev C9o:Stmt:=top 65
structure TyC (K:Frag) (C:Addr):Prop where
 ha:findIn K (.ref C) "__class__"=some (some (.builtin "object.__class__"))
 hn:specialIn K (.builtin "object.__class__") "__get__"=some (some (.builtin "getset_descriptor.__get__"))
 htk:takesIn K (.builtin "object.__class__")=some true
 hm:mroIn K C (.type "object")=some true
abbrev B9k:List Str:=["value"]
abbrev D8i:List Str:=["self","name","axes","sums","term"]
abbrev D8q:List Str:=["self","wheel","lengths","arrays","tables","lines","outs"]
abbrev D7g:List Str:=["self","number"]
abbrev A8e:List Str:=["self"]
abbrev D8p:List Str:=["self","array","indexes"]
abbrev D8m:List Str:=["axis","shift"]
abbrev C3v:List Str:=["self","left","right"]
abbrev D8b:List Str:=["self","axis","body"]
abbrev D8t:List Str:=["self","axis","low","high","inner","outer"]
abbrev D1w:List Str:=["self","inner","outer"]
abbrev D3q:List Str:=["self","term","sums","guards"]
abbrev B1z:List Str:=["term"]
abbrev D1r:List Str:=["self","name","axes","term"]
abbrev D1s:List Str:=["self","wheel","axes","tables","lets","outs"]
abbrev A9a:List Str:=["program"]
abbrev B1w:List Str:=["self","part"]
abbrev D1y:List Str:=["_law_script","_law_k"]
abbrev C2i:List Str:=["_law_cell","_law_k"]
abbrev D1t:List Str:=["_law_cell","_law_other","_law_many_here"]
abbrev D3n:List Str:=["_law_axes","_law_lengths"]
abbrev D1h:List Str:=["_law_rest","_law_given","_law_lengths","_law_most"]
abbrev D1k:List Str:=["_law_read","_law_guards","_law_rest","_law_lengths"]
abbrev D3l:List Str:=["_law_rest","_law_array","_law_scope","_law_lengths","_law_own"]
abbrev D1m:List Str:=["_law_rest","_law_arrays","_law_scope","_law_lengths"]
abbrev D1n:List Str:=["_law_rest","_law_arrays","_law_scope","_law_lengths","_law_own"]
abbrev D1u:List Str:=["_law_axis","_law_body","_law_rest","_law_lengths"]
abbrev C2r:List Str:=["_law_cells","_law_at","_law_scope","_law_book","_law_room"]
abbrev C3n:List Str:=["_law_tree","_law_lengths"]
abbrev D2s:List Str:=["_law_cells","_law_scope","_law_book","_law_most"]
abbrev D3u:List Str:=["_law_script","_law_names"]
abbrev C2j:List Str:=["_law_script"]
abbrev B2n:List Str:=["_law_tree","_law_kept"]
abbrev C2w:List Str:=["_law_program"]
abbrev C3q:List Str:=["_law_tree"]
abbrev C2v:List Str:=["_law_tree","_law_guards","_law_book"]
abbrev D2a:List Str:=["_law_line","_law_due_here"]
abbrev D2j:List Str:=["_law_lines","_law_due_here"]
set_option genInjectivity false in
set_option genSizeOf false in
structure Adr where
 aw:Addr
 am:Addr
 zo:Addr
 ah:Addr
 aj:Addr
 ag:Addr
 bq:Addr
 dj:Addr
 b_:Addr
 bx:Addr
 bj:Addr
 ae:Addr
 aq:Addr
 c8:Addr
 af:Addr
 ao:Addr
 fg:Addr
 fh:FuncData
 fc:Addr
 e_:FuncData
 rg:Addr
 xB:FuncData
 pd:Addr
 ww:FuncData
 m_:Addr
 uz:FuncData
 gq:Addr
 kf:FuncData
 oz:Addr
 wU:FuncData
 j0:Addr
 n0:FuncData
 qw:Addr
 xi:FuncData
 jf:Addr
 pq:FuncData
 wv:Addr
 wx:FuncData
 im:Addr
 xf:FuncData
 cn:Addr
 om:FuncData
 rc:Addr
 wY:FuncData
 kr:Addr
 tz:FuncData
 oj:Addr
 wp:FuncData
 jz:Addr
 rj:FuncData
 oe:Addr
 wf:FuncData
 kc:Addr
 rm:FuncData
 tw:Addr
 xQ:FuncData
 l_:Addr
 r8:FuncData
 pc:Addr
 wQ:FuncData
 j_:Addr
 r_:FuncData
 ip:Addr
 mv:FuncData
 qz:Addr
 xu:FuncData
 xM:Addr
 xF:FuncData
 g8:Addr
 ga:FuncData
 m9:Addr
 kq:FuncData
 vf:Addr
 v9:FuncData
 ut:Addr
 vd:FuncData
 ti:Addr
 xE:FuncData
 ma:Addr
 ud:FuncData
 wS:Addr
 w8:FuncData
 ve:Addr
 vg:FuncData
 wy:Addr
 wm:FuncData
 xH:Addr
 xL:FuncData
 xN:Addr
 xK:FuncData
 mn:Addr
 vq:FuncData
 h_:Addr
 n_:FuncData
 av:Addr
 bc:FuncData
 fb:Addr
 iz:FuncData
 g5:Addr
 mf:FuncData
 yf:Addr
 yd:FuncData
 xY:Addr
 ya:FuncData
 y8:Addr
 xZ:FuncData
 xz:Addr
 xw:FuncData
 ye:Addr
 x_:FuncData
 yr:Addr
 yB:FuncData
 wj:Addr
 wo:FuncData
 uw:Addr
 vi:FuncData
 ym:Addr
 yy:FuncData
 xh:Addr
 xb:FuncData
 xp:Addr
 xA:FuncData
 xg:Addr
 xm:FuncData
 xq:Addr
 xy:FuncData
 xo:Addr
 w_:FuncData
 xD:Addr
 xI:FuncData
 q4:Addr
 ox:FuncData
 jm:Addr
 jn:FuncData
 xO:Addr
 xP:FuncData
 u9:Addr
 sx:FuncData
 ug:Addr
 sv:FuncData
 qa:Addr
 og:FuncData
 jd:Addr
 je:FuncData
 qm:Addr
 qu:FuncData
 pw:Addr
 ou:FuncData
 p5:Addr
 pf:FuncData
 yT:Addr
 yP:FuncData
 vz:Addr
 vj:FuncData
 uh:Addr
 s_:FuncData
 zh:Addr
 zj:FuncData
structure FQ (K:Frag) (mg:Str->Option Value) (x q:Str) (st:Stmt) (f:Addr) (fd:FuncData) (ps:List Str):Prop where
 F:Fun K x q st f fd
 m:mg x=some (.ref f)
 b:A7o K fd ps []
structure FM (K:Frag) (x q:Str) (st:Stmt) (f:Addr) (fd:FuncData) (ps:List Str):Prop where
 F:Fun K x q st f fd
 b:A7o K fd ps []
structure Txt (K:Frag) (mg:Str->Option Value) (t:Adr):Prop where
 ai:FQ K mg "copied" "copied" B6l t.fg t.fh B9k
 cg:FQ K mg "copied_dict" "copied_dict" A7g t.fc t.e_ B9k
 ia:FM K "__init__" "Line.__init__" A9i t.rg t.xB D8i
 jc:FM K "__init__" "Cloth.__init__" A8c t.pd t.ww D8q
 cy:FM K "__init__" "Number.__init__" A7b t.m_ t.uz D7g
 ky:FM K "words" "Number.words" A6k t.gq t.kf A8e
 ja:FM K "__init__" "Place.__init__" A7x t.oz t.wU ["self","axis"]
 mq:FM K "words" "Place.words" A7h t.j0 t.n0 A8e
 ik:FM K "__init__" "Read.__init__" A9r t.qw t.xi D8p
 q5:FM K "words" "Read.words" A7q t.jf t.pq A8e
 jr:FQ K mg "index_word" "index_word" A7y t.wv t.wx D8m
 bw:FM K "__init__" "Pair.__init__" A9j t.im t.xf C3v
 ph:FM K "words" "Pair.words" A8a t.cn t.om A8e
 ke:FM K "sign" "Plus.sign" A9e t.rc t.wY A8e
 ge:FM K "made_of" "Plus.made_of" A6f t.kr t.tz C3v
 jg:FM K "sign" "Minus.sign" A8g t.oj t.wp A8e
 fw:FM K "made_of" "Minus.made_of" A5l t.jz t.rj C3v
 jk:FM K "sign" "Times.sign" A7w t.oe t.wf A8e
 ft:FM K "made_of" "Times.made_of" A5r t.kc t.rm C3v
 nh:FM K "__init__" "Sum.__init__" B0w t.tw t.xQ D8b
 re:FM K "words" "Sum.words" A9o t.l_ t.r8 A8e
 g9:FM K "__init__" "Guard.__init__" A7s t.pc t.wQ D8t
 ce:FM K "made_of" "Guard.made_of" A5n t.j_ t.r_ D1w
 mh:FM K "words" "Guard.words" A6v t.ip t.mv A8e
 bt:FM K "__init__" "Part.__init__" A9n t.qz t.xu D3q
 nc:FQ K mg "parts_of" "parts_of" B1k t.xM t.xF B1z
 jl:FQ K mg "parts_from" "parts_from" A7r t.g8 t.ga ["part"]
 bh:FQ K mg "parts_right_within" "parts_right_within" A3v t.m9 t.kq ["part"]
 iy:FQ K mg "sums_at_top" "sums_at_top" A6w t.vf t.v9 B1z
 ff:FQ K mg "within_sums" "within_sums" A6u t.ut t.vd ["part"]
 ni:FM K "__init__" "Let.__init__" B1e t.ti t.xE D1r
 gy:FM K "__init__" "Program.__init__" A6l t.ma t.ud D1s
 ji:FQ K mg "axis_names" "axis_names" A7v t.wS t.w8 A9a
 iq:FQ K mg "table_names" "table_names" A7c t.ve t.vg A9a
 j8:FQ K mg "lengths_of" "lengths_of" A7u t.wy t.wm A9a
 jh:FQ K mg "cloth_of" "cloth_of" B0z t.xH t.xL A9a
 n8:FQ K mg "lines_of" "lines_of" B0s t.xN t.xK A9a
 i_:FM K "__init__" "Lifter.__init__" A7j t.mn t.vq ["self","known"]
 dm:FM K "lift_let" "Lifter.lift_let" A4l t.h_ t.n_ ["self","let"]
 br:FM K "without_sums" "Lifter.without_sums" A3p t.av t.bc B1w
 n6:FM K "lift" "Lifter.lift" A7i t.fb t.iz B1w
 cv:FM K "fresh_name" "Lifter.fresh_name" A4b t.g5 t.mf A8e
 qr:FQ K mg "guarded" "guarded" B3g t.yf t.yd ["body","guards"]
 qj:FQ K mg "axes_in" "axes_in" B3h t.xY t.ya B1z
 qf:FQ K mg "axes_of" "axes_of" B2v t.y8 t.xZ B1z
 ay:FQ K mg "_law_cell_at" "_law_cell_at" A9d t.xz t.xw D1y
 gc:FQ K mg "_law_mixed" "_law_mixed" B3l t.ye t.x_ C2i
 kz:FQ K mg "_law_part" "_law_part" B6f t.yr t.yB C2i
 jp:FQ K mg "_law_names_by" "_law_names_by" A7z t.wj t.wo D1t
 ci:FQ K mg "_law_number_by" "_law_number_by" A6s t.uw t.vi ["_law_rest"]
 lj:FQ K mg "_law_many" "_law_many" B5d t.ym t.yy D3n
 fj:FQ K mg "_law_axes_by" "_law_axes_by" A9b t.xh t.xb D1h
 k_:FQ K mg "_law_guarded" "_law_guarded" A9p t.xp t.xA D1k
 ie:FQ K mg "_law_read_by" "_law_read_by" A9t t.xg t.xm D3l
 kj:FQ K mg "_law_wild_by" "_law_wild_by" A9k t.xq t.xy D1m
 ib:FQ K mg "_law_leaf_by" "_law_leaf_by" A9h t.xo t.w_ D1n
 j9:FQ K mg "_law_summed" "_law_summed" B0u t.xD t.xI D1u
 gj:FQ K mg "_law_grow" "_law_grow" B6n t.q4 t.ox C2r
 dz:FQ K mg "_law_weight" "_law_weight" B1d t.jm t.jn C3n
 ng:FQ K mg "_law_let_by" "_law_let_by" B0r t.xO t.xP D2s
 gk:FQ K mg "_law_lengths_by" "_law_lengths_by" A6m t.u9 t.sx D3u
 gx:FQ K mg "_law_program_by" "_law_program_by" A6i t.ug t.sv C2j
 gm:FQ K mg "_law_made" "_law_made" B6q t.qa t.og B2n
 p8:FQ K mg "_law_made_new" "_law_made_new" A8i t.jd t.je B2n
 d_:FQ K mg "_law_made_program" "_law_made_program" A5a t.qm t.qu C2w
 j6:FQ K mg "_law_come" "_law_come" B5h t.pw t.ou C3q
 gf:FQ K mg "_law_lift" "_law_lift" B5x t.p5 t.pf C2v
 wz:FQ K mg "_law_due" "_law_due" C1a t.yT t.yP C2w
 ir:FQ K mg "_law_same_line" "_law_same_line" A7d t.vz t.vj D2a
 dw:FQ K mg "_law_same_lines" "_law_same_lines" A6h t.uh t.s_ D2j
 yY:FQ K mg "law" "law" C9o t.zh t.zj C2j
 yx:mg "Line"=some (.ref t.aw)
 yR:mg "Cloth"=some (.ref t.am)
 ue:mg "Number"=some (.ref t.ah)
 xV:mg "Place"=some (.ref t.aj)
 xJ:mg "Read"=some (.ref t.ag)
 yu:mg "Pair"=some (.ref t.bq)
 yC:mg "Plus"=some (.ref t.dj)
 xT:mg "Minus"=some (.ref t.b_)
 xR:mg "Times"=some (.ref t.bx)
 xj:mg "Sum"=some (.ref t.bj)
 p_:mg "Guard"=some (.ref t.ae)
 nq:mg "Part"=some (.ref t.aq)
 zk:mg "Let"=some (.ref t.c8)
 yc:mg "Program"=some (.ref t.af)
 yw:mg "Lifter"=some (.ref t.ao)
 cz:Cls K t.am
 yA:Mk K t.am t.pd
 sn:A1v K t.am "wheel"
 qc:A1v K t.am "lengths"
 f_:A1v K t.am "arrays"
 rh:A1v K t.am "tables"
 gu:A1v K t.am "lines"
 v8:A1v K t.am "outs"
 zf:TyC K t.am
 yt:kitOne K (.ref t.am) (.ref t.ae)=some false
 yF:kitOne K (.ref t.am) (.ref t.bq)=some false
 yE:kitOne K (.ref t.am) (.ref t.ag)=some false
 yN:kitOne K (.ref t.am) (.ref t.bj)=some false
 yl:kitOne K (.ref t.am) (.ref t.aj)=some false
 au:Cls K t.ae
 wZ:Mk K t.ae t.pc
 fe:A1v K t.ae "axis"
 ju:A1v K t.ae "low"
 iu:A1v K t.ae "high"
 gn:A1v K t.ae "inner"
 gz:A1v K t.ae "outer"
 ef:B0q K t.ae "made_of" t.j_
 sy:B0q K t.ae "words" t.ip
 bm:TyC K t.ae
 lh:kitOne K (.ref t.ae) (.ref t.ae)=some true
 ml:kitOne K (.ref t.ae) (.ref t.bq)=some false
 vk:kitOne K (.ref t.ae) (.ref t.ag)=some false
 jo:kitOne K (.ref t.ae) (.ref t.bj)=some false
 tf:kitOne K (.ref t.ae) (.ref t.aj)=some false
 kg:Cls K t.c8
 zc:Mk K t.c8 t.ti
 rf:A1v K t.c8 "name"
 q_:A1v K t.c8 "axes"
 kh:A1v K t.c8 "term"
 za:TyC K t.c8
 wX:mroIn K t.c8 (.type "list")=some false
 wW:mroIn K t.c8 (.type "tuple")=some false
 xn:mroIn K t.c8 (.type "dict")=some false
 yU:kitOne K (.ref t.c8) (.ref t.ae)=some false
 z5:kitOne K (.ref t.c8) (.ref t.bq)=some false
 yX:kitOne K (.ref t.c8) (.ref t.ag)=some false
 z8:kitOne K (.ref t.c8) (.ref t.bj)=some false
 yM:kitOne K (.ref t.c8) (.ref t.aj)=some false
 be:Cls K t.ao
 xX:Mk K t.ao t.mn
 jy:A1v K t.ao "known"
 df:A1v K t.ao "lines"
 fm:A1v K t.ao "lifts"
 ko:B0q K t.ao "fresh_name" t.g5
 sr:B0q K t.ao "lift" t.fb
 nj:B0q K t.ao "lift_let" t.h_
 c7:B0q K t.ao "without_sums" t.av
 zd:TyC K t.ao
 yi:kitOne K (.ref t.ao) (.ref t.ae)=some false
 yq:kitOne K (.ref t.ao) (.ref t.bq)=some false
 yz:kitOne K (.ref t.ao) (.ref t.ag)=some false
 yG:kitOne K (.ref t.ao) (.ref t.bj)=some false
 yh:kitOne K (.ref t.ao) (.ref t.aj)=some false
 c_:Cls K t.aw
 xU:Mk K t.aw t.rg
 gb:A1v K t.aw "name"
 jt:A1v K t.aw "axes"
 nw:A1v K t.aw "sums"
 o_:A1v K t.aw "term"
 yO:TyC K t.aw
 wR:mroIn K t.aw (.type "list")=some false
 uq:mroIn K t.aw (.type "tuple")=some false
 wV:mroIn K t.aw (.type "dict")=some false
 yH:kitOne K (.ref t.aw) (.ref t.ae)=some false
 yV:kitOne K (.ref t.aw) (.ref t.bq)=some false
 yQ:kitOne K (.ref t.aw) (.ref t.ag)=some false
 yZ:kitOne K (.ref t.aw) (.ref t.bj)=some false
 yJ:kitOne K (.ref t.aw) (.ref t.aj)=some false
 oo:Cls K t.b_
 xC:Mk K t.b_ t.im
 v7:A1v K t.b_ "left"
 tq:A1v K t.b_ "right"
 qd:B0q K t.b_ "made_of" t.jz
 um:B0q K t.b_ "sign" t.oj
 t_:B0q K t.b_ "words" t.cn
 cf:TyC K t.b_
 uf:kitOne K (.ref t.b_) (.ref t.ae)=some false
 mr:kitOne K (.ref t.b_) (.ref t.bq)=some true
 uy:kitOne K (.ref t.b_) (.ref t.ag)=some false
 oq:kitOne K (.ref t.b_) (.ref t.bj)=some false
 t7:kitOne K (.ref t.b_) (.ref t.aj)=some false
 cq:Cls K t.ah
 qh:Mk K t.ah t.m_
 cj:A1v K t.ah "number"
 sf:B0q K t.ah "words" t.gq
 ba:TyC K t.ah
 jv:kitOne K (.ref t.ah) (.ref t.ae)=some false
 m7:kitOne K (.ref t.ah) (.ref t.bq)=some false
 u7:kitOne K (.ref t.ah) (.ref t.ag)=some false
 j1:kitOne K (.ref t.ah) (.ref t.bj)=some false
 sd:kitOne K (.ref t.ah) (.ref t.aj)=some false
 az:Cls K t.aq
 jj:Mk K t.aq t.qz
 bo:A1v K t.aq "term"
 bz:A1v K t.aq "sums"
 bp:A1v K t.aq "guards"
 zm:TyC K t.aq
 yD:kitOne K (.ref t.aq) (.ref t.ae)=some false
 yK:kitOne K (.ref t.aq) (.ref t.bq)=some false
 yL:kitOne K (.ref t.aq) (.ref t.ag)=some false
 y_:kitOne K (.ref t.aq) (.ref t.bj)=some false
 yI:kitOne K (.ref t.aq) (.ref t.aj)=some false
 fi:Cls K t.aj
 yn:Mk K t.aj t.oz
 iw:A1v K t.aj "axis"
 uc:B0q K t.aj "words" t.j0
 bn:TyC K t.aj
 kl:kitOne K (.ref t.aj) (.ref t.ae)=some false
 mw:kitOne K (.ref t.aj) (.ref t.bq)=some false
 vy:kitOne K (.ref t.aj) (.ref t.ag)=some false
 jb:kitOne K (.ref t.aj) (.ref t.bj)=some false
 u6:kitOne K (.ref t.aj) (.ref t.aj)=some true
 sj:Cls K t.dj
 xW:Mk K t.dj t.im
 wg:A1v K t.dj "left"
 v_:A1v K t.dj "right"
 se:B0q K t.dj "made_of" t.kr
 wP:B0q K t.dj "sign" t.rc
 vh:B0q K t.dj "words" t.cn
 dh:TyC K t.dj
 uu:kitOne K (.ref t.dj) (.ref t.ae)=some false
 q9:kitOne K (.ref t.dj) (.ref t.bq)=some true
 wc:kitOne K (.ref t.dj) (.ref t.ag)=some false
 qv:kitOne K (.ref t.dj) (.ref t.bj)=some false
 v0:kitOne K (.ref t.dj) (.ref t.aj)=some false
 a_:Cls K t.af
 xG:Mk K t.af t.ma
 j7:A1v K t.af "wheel"
 fz:A1v K t.af "axes"
 dy:A1v K t.af "tables"
 di:A1v K t.af "lets"
 jw:A1v K t.af "outs"
 z7:TyC K t.af
 y6:kitOne K (.ref t.af) (.ref t.ae)=some false
 yj:kitOne K (.ref t.af) (.ref t.bq)=some false
 yk:kitOne K (.ref t.af) (.ref t.ag)=some false
 yp:kitOne K (.ref t.af) (.ref t.bj)=some false
 yg:kitOne K (.ref t.af) (.ref t.aj)=some false
 eh:Cls K t.ag
 xS:Mk K t.ag t.qw
 mi:A1v K t.ag "array"
 fu:A1v K t.ag "indexes"
 ul:B0q K t.ag "words" t.jf
 bu:TyC K t.ag
 n4:kitOne K (.ref t.ag) (.ref t.ae)=some false
 q0:kitOne K (.ref t.ag) (.ref t.bq)=some false
 wT:kitOne K (.ref t.ag) (.ref t.ag)=some true
 lq:kitOne K (.ref t.ag) (.ref t.bj)=some false
 uv:kitOne K (.ref t.ag) (.ref t.aj)=some false
 fk:Cls K t.bj
 z6:Mk K t.bj t.tw
 ij:A1v K t.bj "axis"
 ii:A1v K t.bj "body"
 wq:B0q K t.bj "words" t.l_
 cw:TyC K t.bj
 wn:kitOne K (.ref t.bj) (.ref t.ae)=some false
 qy:kitOne K (.ref t.bj) (.ref t.bq)=some false
 xx:kitOne K (.ref t.bj) (.ref t.ag)=some false
 nr:kitOne K (.ref t.bj) (.ref t.bj)=some true
 wO:kitOne K (.ref t.bj) (.ref t.aj)=some false
 p6:Cls K t.bx
 xr:Mk K t.bx t.im
 u_:A1v K t.bx "left"
 t0:A1v K t.bx "right"
 qp:B0q K t.bx "made_of" t.kc
 ur:B0q K t.bx "sign" t.oe
 u8:B0q K t.bx "words" t.cn
 c9:TyC K t.bx
 u0:kitOne K (.ref t.bx) (.ref t.ae)=some false
 n5:kitOne K (.ref t.bx) (.ref t.bq)=some true
 ux:kitOne K (.ref t.bx) (.ref t.ag)=some false
 oh:kitOne K (.ref t.bx) (.ref t.bj)=some false
 u5:kitOne K (.ref t.bx) (.ref t.aj)=some false
 ab:mg "isinstance"=none
 cx:mg "list"=none
 g_:mg "tuple"=none
 qi:mg "dict"=none
 w6:mg "str"=none
 jq:mg "reversed"=none
 bf:mg "len"=none
 cr:mg "range"=none
 yW:mg "int"=none
 zi:mg "min"=none
 ze:mg "max"=none
abbrev FO (P:Program) (w:World) (base:Heap) {K:Frag} {mg:Str->Option Value} {x q:Str} {st:Stmt} {f:Addr} {fd:FuncData} {ps:List Str} (_:FQ K mg x q st f fd ps) (n:Nat) (sp:Sp):Prop:=A2y P w K mg base CX0 n f fd ps sp
abbrev FP (P:Program) (w:World) (mg:Str->Option Value) (base:Heap) {K:Frag} {x q:Str} {st:Stmt} {f:Addr} {fd:FuncData} {ps:List Str} (_:FM K x q st f fd ps) (n:Nat) (sp:Sp):Prop:=A2y P w K mg base CX0 n f fd ps sp
theorem pcl {X:Cx} {k k2:Nat} {sp:Sp} {q:Str} {st:Stmt} {e:Expr} {es:List Expr} {t:TA} {p pos:Pos} (F:A2y X.prog X.w X.K X.mg X.base CX0 k f fd ps sp) (hr:B0o k2 X.A) (Zz:FQ X.K X.mg x q st f fd ps) (ha:PA X (e::es) t) (hk:k<=k2:=by lia) (hg:Gl X x:=by rfl) (hdb:(x == ("__debug__":Str))=false:=by decide) (he:starEach (e::es) X.env=(false,eval e X.env)::starEach es X.env:=by rfl) (hpl:(backTo pos (starEach es X.env)).any (·.1)=false:=by rfl):PE X (.Call (.Name x p) (e::es) [] pos) (D4r sp [] E0 t):=D3f F (hr.mono hk) hg Zz.m Zz.F.kp Zz.b .nil B4q ha hdb he hpl
theorem pmk {X:Cx} {C:Addr} {k k2:Nat} {sp:Sp} {e:Expr} {es:List Expr} {t:TA} {p pos:Pos} (M:Mk X.K C f) (F:A2y X.prog X.w X.K X.mg X.base CX0 k f fd ps sp) (hr:B0o k2 X.A) (hm:X.mg x=some (.ref C)) (hb:A7o X.K fd ps []) (ha:PA X (e::es) t) (hk:k+1<=k2:=by lia) (hg:Gl X x:=by rfl) (hdb:(x == ("__debug__":Str))=false:=by decide) (he:starEach (e::es) X.env=(false,eval e X.env)::starEach es X.env:=by rfl) (hpl:(backTo pos (starEach es X.env)).any (·.1)=false:=by rfl):PE X (.Call (.Name x p) (e::es) [] pos) (D6j C sp [] E0 t):=D3o M F (hr.mono hk) hg hm hb .nil B4q ha hdb he hpl
theorem A0q (h:Nat.ble n 1000000=true):n<=sizeLine:=A1k (Nat.le_of_ble_eq_true h)
theorem D7m:(0:Int)<10:=by decide
theorem D8c:(0:Int)<15:=by decide
theorem D4l:(0:Int)<2:=by decide
theorem D6r:(0:Int)<26:=by decide
theorem D0g:(0:Int)<3:=by decide
theorem D7d:(0:Int)<4:=by decide
theorem D9c:(0:Int)<5:=by decide
theorem D7v:(0:Int)<60:=by decide
theorem D9f:(0:Int)<7:=by decide
theorem D7i:(0:Int)<8:=by decide
theorem z_90:(0:Int)<9:=by decide
theorem nH {x:Addr} (h:H x=none):∃H',A1f H H'/\H' x=some o/\upd H x o=H':=⟨_,A0f h,A0b,rfl⟩
abbrev Sro (a:Addr):Option V:=some (.ref a)
abbrev Sio (a:Int):Option V:=some (.int a)
abbrev Sso (a:Str):Option V:=some (.str a)
abbrev Sbo (a:Bool):Option V:=some (.bl a)
local macro_rules | `(tactic| walk_at "ix") => `(tactic| first | exact Or.inl rfl | exact Or.inr rfl | (simp [relabel]; rfl) | (with_unfolding_all exact Or.inl rfl) | (with_unfolding_all exact Or.inr rfl) | (with_unfolding_all decide))
local macro_rules | `(tactic| walk_at "sc") => `(tactic| exact ⟨rfl, rfl, rfl, by decide +kernel, rfl, by decide +kernel, by decide +kernel⟩)
local macro_rules | `(tactic| walk_at "ln") => `(tactic| (intro _ _ _ _ h; first | (cases h; subst_vars; rfl) | ((repeat (obtain ⟨_, h⟩ := h)); subst_vars; rfl)))
theorem B0b:A1b B9k ["value"] (A0m B6l):=by walk_at "sc"
theorem A4p:A1b ["value","fresh","key","member"] B9k (A0m A7g):=by walk_at "sc"
theorem B6y:A1b D8i ["self","name","axes","sums","term"] (A0m A9i):=by walk_at "sc"
theorem B5t:A1b D8q ["self","wheel","lengths","arrays","tables","lines","outs"] (A0m A8c):=by walk_at "sc"
theorem B4b:A1b D7g ["self","number"] (A0m A7b):=by walk_at "sc"
theorem B3u:A1b A8e ["self"] (A0m A6k):=by walk_at "sc"
theorem B5u:A1b ["self","axis"] ["self","axis"] (A0m A7x):=by walk_at "sc"
theorem B4g:A1b A8e ["self"] (A0m A7h):=by walk_at "sc"
theorem B8k:A1b D8p ["self","array","indexes"] (A0m A9r):=by walk_at "sc"
theorem A9z:A1b ["self","inside"] A8e (A0m A7q):=by walk_at "sc"
theorem B6c:A1b D8m ["axis","shift"] (A0m A7y):=by walk_at "sc"
theorem B7h:A1b C3v ["self","left","right"] (A0m A9j):=by walk_at "sc"
theorem B6k:A1b A8e ["self"] (A0m A8a):=by walk_at "sc"
theorem B9h:A1b A8e ["self"] (A0m A9e):=by walk_at "sc"
theorem B2u:A1b C3v ["self","left","right"] (A0m A6f):=by walk_at "sc"
theorem B5m:A1b A8e ["self"] (A0m A8g):=by walk_at "sc"
theorem B1v:A1b C3v ["self","left","right"] (A0m A5l):=by walk_at "sc"
theorem B5i:A1b A8e ["self"] (A0m A7w):=by walk_at "sc"
theorem B1y:A1b C3v ["self","left","right"] (A0m A5r):=by walk_at "sc"
theorem B9s:A1b D8b ["self","axis","body"] (A0m B0w):=by walk_at "sc"
theorem B7n:A1b A8e ["self"] (A0m A9o):=by walk_at "sc"
theorem B5w:A1b D8t ["self","axis","low","high","inner","outer"] (A0m A7s):=by walk_at "sc"
theorem B2b:A1b D1w ["self","inner","outer"] (A0m A5n):=by walk_at "sc"
theorem A8y:A1b ["self","opening"] A8e (A0m A6v):=by walk_at "sc"
theorem B7e:A1b D3q ["self","term","sums","guards"] (A0m A9n):=by walk_at "sc"
theorem C0k:A1b B1z ["term"] (A0m B1k):=by walk_at "sc"
theorem A6x:A1b ["part","parts","inner"] ["part"] (A0m A7r):=by walk_at "sc"
theorem A2x:A1b ["part","term","inner","outer"] ["part"] (A0m A3v):=by walk_at "sc"
theorem A4n:A1b ["term","axes","rest"] B1z (A0m A6w):=by walk_at "sc"
theorem A6e:A1b ["part","rest"] ["part"] (A0m A6u):=by walk_at "sc"
theorem C0a:A1b D1r ["self","name","axes","term"] (A0m B1e):=by walk_at "sc"
theorem B2z:A1b D1s ["self","wheel","axes","tables","lets","outs"] (A0m A6l):=by walk_at "sc"
theorem B6o:A1b A9a ["program"] (A0m A7v):=by walk_at "sc"
theorem B4c:A1b A9a ["program"] (A0m A7c):=by walk_at "sc"
theorem B5f:A1b A9a ["program"] (A0m A7u):=by walk_at "sc"
theorem A7a:A1b ["program","lines","arrays","line"] A9a (A0m B0z):=by walk_at "sc"
theorem A9q:A1b ["program","lifter","let"] A9a (A0m B0s):=by walk_at "sc"
theorem B4o:A1b ["self","known"] ["self","known"] (A0m A7j):=by walk_at "sc"
theorem A4e:A1b ["self","let","body","term"] ["self","let"] (A0m A4l):=by walk_at "sc"
theorem A4j:A1b ["self","part","within"] B1w (A0m A3p):=by walk_at "sc"
theorem A3i:A1b ["self","part","sums","term","coming","axes","name"] B1w (A0m A7i):=by walk_at "sc"
theorem A5e:A1b D7g ["self"] (A0m A4b):=by walk_at "sc"
theorem A5j:A1b ["body","guards","term","guard","inner"] ["body","guards"] (A0m B3g):=by walk_at "sc"
theorem B0x:A1b ["term","axes","part"] B1z (A0m B3h):=by walk_at "sc"
theorem C3o:A1b B1z ["term"] (A0m B2v):=by walk_at "sc"
theorem B8b:A1b D1y ["_law_script","_law_k"] (A0m A9d):=by walk_at "sc"
theorem C3r:A1b C2i ["_law_cell","_law_k"] (A0m B3l):=by walk_at "sc"
theorem B0n:A1b ["_law_cell","_law_k","_law_rest","_law_turn"] C2i (A0m B6f):=by walk_at "sc"
theorem A2c:A1b ["_law_cell","_law_other","_law_many_here","_law_some","_law_word","_law_rest","_law_k","_law_spot","_law_names","_law_sign","_law_made_here"] D1t (A0m A7z):=by walk_at "sc"
theorem B4p:A1b ["_law_rest"] ["_law_rest"] (A0m A6s):=by walk_at "sc"
theorem A9v:A1b ["_law_axes","_law_lengths","_law_many_here","_law_axis"] D3n (A0m B5d):=by walk_at "sc"
theorem A4r:A1b ["_law_rest","_law_given","_law_lengths","_law_most","_law_axes","_law_k","_law_axis"] D1h (A0m A9b):=by walk_at "sc"
theorem A3o:A1b ["_law_read","_law_guards","_law_rest","_law_lengths","_law_tree","_law_axis","_law_low","_law_high"] D1k (A0m A9p):=by walk_at "sc"
theorem A1y:A1b ["_law_rest","_law_array","_law_scope","_law_lengths","_law_own","_law_indexes","_law_guards","_law_step","_law_k","_law_length","_law_axis","_law_shift"] D3l (A0m A9t):=by walk_at "sc"
theorem A6a:A1b ["_law_rest","_law_arrays","_law_scope","_law_lengths","_law_array","_law_axis","_law_wild"] D1m (A0m A9k):=by walk_at "sc"
theorem A8h:A1b ["_law_rest","_law_arrays","_law_scope","_law_lengths","_law_own","_law_way"] D1n (A0m A9h):=by walk_at "sc"
theorem A3m:A1b ["_law_axis","_law_body","_law_rest","_law_lengths","_law_outside","_law_tree","_law_kept"] D1u (A0m B0u):=by walk_at "sc"
theorem A1r:A1b ["_law_cells","_law_at","_law_scope","_law_book","_law_room","_law_arrays","_law_lengths","_law_own","_law_rest","_law_way","_law_axis","_law_free","_law_body","_law_second","_law_inner","_law_low","_law_high","_law_outer","_law_left","_law_right"] C2r (A0m B6n):=by walk_at "sc"
theorem B9w:A1b C3n ["_law_tree","_law_lengths"] (A0m B1d):=by walk_at "sc"
theorem A2m:A1b ["_law_cells","_law_scope","_law_book","_law_most","_law_base","_law_row","_law_at","_law_tree","_law_fewer","_law_k","_law_made_here"] D2s (A0m B0r):=by walk_at "sc"
theorem A3l:A1b ["_law_script","_law_names","_law_lengths","_law_many_here","_law_k","_law_rest"] D3u (A0m A6m):=by walk_at "sc"
theorem A1c:A1b ["_law_script","_law_names","_law_lengths","_law_given","_law_arrays","_law_k","_law_rest","_law_tables","_law_lets","_law_many_here","_law_cells","_law_j","_law_axes","_law_most","_law_axis","_law_sums","_law_book","_law_tree","_law_wheel"] C2j (A0m A6i):=by walk_at "sc"
theorem B0m:A1b ["_law_tree","_law_kept","_law_known","_law_made_here"] B2n (A0m B6q):=by walk_at "sc"
theorem A7e:A1b ["_law_tree","_law_kept","_law_left","_law_right"] B2n (A0m A8i):=by walk_at "sc"
theorem A1w:A1b ["_law_program","_law_wheel","_law_lengths","_law_tables","_law_lets","_law_outs","_law_axes","_law_some","_law_kept","_law_told"] C2w (A0m A5a):=by walk_at "sc"
theorem C5m:A1b C3q ["_law_tree"] (A0m B5h):=by walk_at "sc"
theorem A2e:A1b ["_law_tree","_law_guards","_law_book","_law_order","_law_lifts","_law_lines","_law_sums","_law_body","_law_axis","_law_low","_law_high","_law_within","_law_come_here","_law_axes","_law_name","_law_inner","_law_outer","_law_left"] C2v (A0m B5x):=by walk_at "sc"
theorem A3s:A1b ["_law_program","_law_wheel","_law_lengths","_law_tables","_law_lets","_law_outs","_law_book","_law_name","_law_axes","_law_tree","_law_sums","_law_body"] C2w (A0m C1a):=by walk_at "sc"
theorem A6g:A1b ["_law_line","_law_due_here","_law_found","_law_kept"] D2a (A0m A7d):=by walk_at "sc"
theorem A7t:A1b ["_law_lines","_law_due_here","_law_k"] D2j (A0m A6h):=by walk_at "sc"
theorem A8s:A1b ["_law_script","_law_program","_law_due_here","_law_made_here","_law_cloth","_law_arrays","_law_name","_law_axes","_law_k"] C2j (A0m C9o):=by walk_at "sc"
theorem A4v:(["member"]:List Str).Nodup:=by decide +kernel
theorem B9g:(["axis","shift"]:List Str).Nodup:=by decide +kernel
theorem B7g:(["name","length"]:List Str).Nodup:=by decide +kernel
theorem B8i:(["name","axes"]:List Str).Nodup:=by decide +kernel
theorem C4w:(["inner","self"]:List Str).Nodup:=by decide +kernel
theorem C5n:(["axis","coming","sums"]:List Str).Nodup:=by decide +kernel
theorem C7n:(["axis"]:List Str).Nodup:=by decide +kernel
theorem B8q:(["axis","shift"]:List Str).Nodup:=by decide +kernel
theorem C5a:(["_law_name","_law_axis","_law_rest"]:List Str).Nodup:=by decide +kernel
theorem C6i:(["_law_axis","_law_scope"]:List Str).Nodup:=by decide +kernel
theorem C3f:(["_law_axis","_law_axes"]:List Str).Nodup:=by decide +kernel
theorem C2t:(["_law_k","_law_cells"]:List Str).Nodup:=by decide +kernel
theorem C2z:(["_law_name","_law_lengths"]:List Str).Nodup:=by decide +kernel
theorem B4t:(["_law_name","_law_own"]:List Str).Nodup:=by decide +kernel
theorem B1i:(["_law_name","_law_own","_law_tree","_law_kept"]:List Str).Nodup:=by decide +kernel
theorem B5a:(["_law_axis","_law_shift"]:List Str).Nodup:=by decide +kernel
theorem C3j:(["_law_axis","_law_come_here","_law_sums"]:List Str).Nodup:=by decide +kernel
theorem C3h:(["_law_axis"]:List Str).Nodup:=by decide +kernel
theorem A2y.none {P:Program} {w:World} {base:Heap} {CX:CXT} {k:Nat} {sp:Sp} (h:∀vs H Q E,¬sp vs H Q E):A2y P w K mg base CX k f fd ps sp :=
 ⟨λvs H Q E q=>(h vs H Q E q).elim,λ_ _ _ H _ _ vs Q E _ _ _ _ q=>(h vs H Q E q).elim⟩
def C3u (e:Str×List Str):PyData:= .tuple [.str e.1,.list (e.2.map PyData.str)]
def B4f (ts:List (Str×List Str)):PyData:= .list (ts.map C3u)
def A8v (xs:List Str):PyData:= .list (xs.map PyData.str)
def OkS (xs:List Str):Prop:=∀x∈xs,PyData.strOk x=true
theorem B9n:∀xs:List Str,PyData.depthAll (xs.map PyData.str)=0/\A4d (xs.map PyData.str)=xs.length
 | []=>⟨rfl,rfl⟩
 | x::r=>by
  obtain ⟨h2,h3⟩:=B9n r;refine ⟨?_,?_⟩
  ·simp [PyData.depthAll,PyData.depth,h2]
  ·simp [A4d,cnt,h3];lia
theorem C1o:∀{xs:List Str},OkS xs->PyData.canLayAll0 (xs.map PyData.str)=true
 | [],_=>rfl
 | x::r,h=>by
  have h1:=C1o (xs:=r) λy hy=>h y (.tail _ hy);simp [PyData.canLayAll0,PyData.canLay0,h1,h x (.head _)]
theorem A6t (xs:List Str):(A8v xs).depth<=1/\cnt (A8v xs)<=1+xs.length:=by
 obtain ⟨h2,h3⟩:=B9n xs;refine ⟨?_,?_⟩
 ·simp [A8v,PyData.depth,h2]
 ·simp only [A8v,cnt,h3];lia
theorem B0a (h:OkS xs):(A8v xs).canLay0=true:=by simp [A8v,PyData.canLay0,C1o h]
theorem D5p {n:Nat}:∀ts:List (Str×List Str),(∀e∈ts,e.2.length<=n)->PyData.depthAll (ts.map C3u)<=2/\A4d (ts.map C3u)<=ts.length*(n+4)
 | [],_=>⟨by simp [PyData.depthAll],by simp [A4d]⟩
 | e::r,h=>by
  obtain ⟨h2,h3⟩:=D5p r λx hx=>h x (.tail _ hx);obtain ⟨g2,g3⟩:=B9n e.2;have hl:=h e (.head _);refine ⟨?_,?_⟩
  ·simp only [Z0p,C3u,PyData.depthAll,PyData.depth,g2]
   lia
  ·simp only [Z0p,C3u,A4d,cnt,g3,Z0y,Nat.add_mul,Nat.one_mul]
   lia
theorem C9r (ts:List (Str×List Str)) (h:∀e∈ts,e.2.length<=n):(B4f ts).depth<=3/\cnt (B4f ts)<=1+ts.length*(n+4):=by
 obtain ⟨h2,h3⟩:=D5p ts h;refine ⟨?_,?_⟩
 ·simp only [B4f,PyData.depth];lia
 ·simp only [B4f,cnt];lia
theorem D6y:∀ts:List (Str×Int),PyData.depthAll (ts.map B0v)<=1
 | []=>by simp [PyData.depthAll]
 | e::r=>by
  have h2:=D6y r;simp only [Z0p,B0v,PyData.depthAll,PyData.depth];lia
theorem C8d (ts:List (Str×Int)):(A5b ts).depth<=2:=by
 have h2:=D6y ts;simp only [A5b,PyData.depth];lia
theorem C4x {d:PyData} (h:d.canLay0=true) (hd:d.depth<=60):SeqAt.shaped d=true:=by
 unfold SeqAt.shaped;rw [h,Bool.true_and];exact Z20 (by lia)
theorem B6v {H:Hp}:∀{ys:List Str} {xs:List V},A4s H xs (ys.map PyData.str)->xs=ys.map V.str
 | [],_,r=>by cases r;rfl
 | y::ys,_,r=>by
  rw [Z0p] at r
  cases r with
  | cons a r =>
   cases a
   rw [Z0p,B6v r]
theorem B6p (h:Rep H v (A8v ys)):∃p,v= .ref p/\H p=some (.lst (ys.map V.str)):=by
 obtain ⟨p,xs,rfl,e,r⟩:=A5q (show Rep H v (.list (ys.map PyData.str)) from h);rw [B6v r] at e;exact i02 p rfl e
theorem A9s (e:H p=some (.lst (ys.map V.str))):Rep H (.ref p) (A8v ys):= .lst e (A4s.strs ys)
theorem D6e (h:Rep H v (C3u e)):∃b c,v= .ref b/\H b=some (.tup [.str e.1,.ref c])/\H c=some (.lst (e.2.map V.str)):=by
 unfold C3u at h
 cases h with
 | @tup b xs _ eb r =>
  cases r with
  | cons a r =>
   cases r with
   | cons a2 r =>
    cases r
    cases a
    obtain ⟨c,rfl,ec⟩:=B6p a2;exact i0d b c rfl eb ec
theorem D4t {e:Str×Int} (h:Rep H v (B0v e)):∃b,v= .ref b/\H b=some (.tup [.str e.1,.int e.2]):=by
 unfold B0v at h
 cases h with
 | @tup b xs _ eb r =>
  cases r with
  | cons a r =>
   cases r with
   | cons a2 r =>
    cases r
    cases a
    cases a2
    exact i02 b rfl eb
theorem C7p {α:Type} {f:α->PyData} {ts:List α} {xs:List V} (r:A4s H xs (ts.map f)) {x:V} (hx:xs[i]? =some x):∃e,ts[i]? =some e/\Rep H x (f e):=by
 obtain ⟨d,hd,rx⟩:=r.get2 hx;rw [Z1z] at hd;obtain ⟨e,he,rfl⟩:=Z0i.mp hd;exact i02 e he rx
def A9w (A:Adr):Op3->Addr
 | .plus=>A.dj
 | .minus=>A.b_
 | .times=>A.bx
inductive Ob (A:Adr) (H:Hp):V->Tm->Prop
 | num {a dx:Addr} {z:Int}:H a=some (.ins A.ah dx [("number",.int z)])->Ob A H (.ref a) (.num z)
 | place {a dx:Addr} {x:Str}:H a=some (.ins A.aj dx [("axis",.str x)])->Ob A H (.ref a) (.place x)
 | read {a dx l:Addr} {x:Str} {ix:List (Str×Int)}:H a=some (.ins A.ag dx [("array",.str x),("indexes",.ref l)])->Rep H (.ref l) (A5b ix)->Ob A H (.ref a) (.read x ix)
 | sum {a dx:Addr} {x:Str} {u:V} {b:Tm}:H a=some (.ins A.bj dx [("axis",.str x),("body",u)])->Ob A H u b->Ob A H (.ref a) (.sum x b)
 | pair {a dx:Addr} {k:Op3} {u w:V} {l r:Tm}:H a=some (.ins (A9w A k) dx [("left",u),("right",w)])->Ob A H u l->Ob A H w r->Ob A H (.ref a) (.pair k l r)
 | guard {a dx:Addr} {x:Str} {lo hi:Int} {u w:V} {l r:Tm}:H a=some (.ins A.ae dx [("axis",.str x),("low",.int lo),("high",.int hi),("inner",u),("outer",w)])->Ob A H u l->Ob A H w r->Ob A H (.ref a) (.guard x lo hi l r)
theorem Ob.imp (f:A1f H H') {t:Tm} (h:Ob A H v t):Ob A H' v t:=by
 induction h with
 | num e=>exact .num (f _ _ e)
 | place e=>exact .place (f _ _ e)
 | read e r=>exact .read (f _ _ e) (r.same f)
 | sum e _ ih=>exact .sum (f _ _ e) ih
 | pair e _ _ i1 i2=>exact .pair (f _ _ e) i1 i2
 | guard e _ _ i1 i2=>exact .guard (f _ _ e) i1 i2
abbrev Lt:=Str×List Str×Tm
def C0y (A:Adr) (S:Addr->Prop) (H:Hp) (v:V) (e:Lt):Prop:=∃(a dx c:Addr) (n:V) (dn:Unit),v= .ref a/\H a=some (.ins A.c8 dx [("name",.str e.1),("axes",.ref c),("term",n)])/\S c/\H c=some (.lst (e.2.1.map V.str))/\Ob A H n e.2.2
abbrev D4q (A:Adr) (S:Addr->Prop) (H:Hp) (xs:List V) (ls:List Lt):Prop:=Paired (C0y A S H) xs ls
theorem C0y.same {e:Lt} (h:C0y A S H v e) (s:A1f H H'):C0y A S H' v e:=by
 refine e0e h ?_;clear h;rintro a dx c n dn rfl e1 s1 e2 e3;exact ⟨a,(i0w dx c n dn rfl (s _ _ e1) s1 (s _ _ e2) (e3.imp s))⟩
structure C8l (A:Adr) (H:Hp) (p:Addr) (wh:Int) (ax:List (Str×Int)) (tb:List (Str×List Str)) (ls:List Lt) (os:List Str):Prop where
 ob:∃dx a t l o,H p=some (.ins A.af dx [("wheel",.int wh),("axes",.ref a),("tables",.ref t),("lets",.ref l),("outs",.ref o)])/\Rep H (.ref a) (A5b ax)/\Rep H (.ref t) (B4f tb)/\(∃xs,H l=some (.lst xs)/\D4q A (λ_=>True) H xs ls)/\Rep H (.ref o) (A8v os)
theorem C8l.same {wh:Int} (h:C8l A H p wh ax tb ls os) (s:A1f H H'):C8l A H' p wh ax tb ls os:=by
 refine e0e h.ob ?_;rintro dx a t l o e r1 r2 ⟨xs,e2,r3⟩ r4;exact ⟨dx,a,t,l,o,s _ _ e,r1.same s,r2.same s,(i02 xs (s _ _ e2) (Paired.mapP r3 λ_ _ z=>z.same s)),r4.same s⟩
abbrev Gd:=Str×Int×Int×Bool
abbrev PT:=Tm×List Str×List Gd
noncomputable def prT:Tm->List Str->List Gd->List PT
 | .sum x b,s,g=>(.sum x b,s,g)::prT b (s++[x]) g
 | .pair k l r,s,g=>(.pair k l r,s,g)::(prT l s g++prT r s g)
 | .guard x lo hi l r,s,g=>(.guard x lo hi l r,s,g)::(prT l s (g++[(x,lo,hi,true)])++prT r s (g++[(x,lo,hi,false)]))
 | .num z,s,g=>[(.num z,s,g)]
 | .place x,s,g=>[(.place x,s,g)]
 | .read a i,s,g=>[(.read a i,s,g)]
noncomputable def B6u:Tm->List Str->List Gd->List PT
 | .sum x b,s,g=>[(b,s++[x],g)]
 | .pair _ l r,s,g=>[(l,s,g),(r,s,g)]
 | .guard x lo hi l r,s,g=>[(l,s,g++[(x,lo,hi,true)]),(r,s,g++[(x,lo,hi,false)])]
 | _,_,_=>[]
theorem C2d:∀(u:Tm) (s:List Str) (g:List Gd),prT u s g=(u,s,g)::(B6u u s g).flatMap λk=>prT k.1 k.2.1 k.2.2
 | .num _,_,_=>rfl
 | .place _,_,_=>rfl
 | .read _ _,_,_=>rfl
 | .sum x b,s,g=>by simp [prT,B6u]
 | .pair k l r,s,g=>by simp [prT,B6u]
 | .guard x lo hi l r,s,g=>by simp [prT,B6u]
theorem C8w {s:List Str} {k:PT} (h:k∈B6u u s g):dep k.1+1<=dep u:=by
 cases u with
 | num z=>cases h
 | place x=>cases h
 | read a ix=>cases h
 | sum x b=>rw [Z0w.mp h];simp [dep]
 | pair o l r =>
  simp only [B6u,Z0e,List.not_mem_nil,or_false] at h;rcases h with rfl | rfl <;> simp only [dep] <;> lia
 | guard x lo hi l r =>
  simp only [B6u,Z0e,List.not_mem_nil,or_false] at h;rcases h with rfl | rfl <;> simp only [dep] <;> lia
theorem A5s:∀(u:Tm) (s:List Str) (g:List Gd),(prT u s g).length=nod u
 | .num _,_,_=>rfl
 | .place _,_,_=>rfl
 | .read _ _,_,_=>rfl
 | .sum x b,s,g=>by simp [prT,nod,A5s b]
 | .pair k l r,s,g=>by simp [prT,nod,A5s l,A5s r]
 | .guard x lo hi l r,s,g=>by simp [prT,nod,A5s l,A5s r]
def D5v (A:Adr) (H:Hp) (v:V) (g:Gd):Prop:=∃(tp go dx:Addr) (u w:V),v= .ref tp/\H tp=some (.tup [.ref go,.bl g.2.2.2])/\H go=some (.ins A.ae dx [("axis",.str g.1),("low",.int g.2.1),("high",.int g.2.2.1),("inner",u),("outer",w)])
theorem D5v.same {g:Gd} (h:D5v A H v g) (s:A1f H H'):D5v A H' v g:=by
 refine e08 h ?_;clear h;rintro tp go dx u w ⟨rfl,e1,e2⟩;exact i03 tp go (i0l dx u w rfl (s _ _ e1) (s _ _ e2))
def A3h (A:Adr) (H:Hp) (v:V) (e:PT):Prop:=∃a dx tv sl gl gs,v= .ref a/\H a=some (.ins A.aq dx [("term",tv),("sums",.ref sl),("guards",.ref gl)])/\Ob A H tv e.1/\H sl=some (.lst (e.2.1.map V.str))/\H gl=some (.lst gs)/\gs.length+dep e.1<=100/\e.2.1.length+dep e.1<=100/\Paired (D5v A H) gs e.2.2
theorem A3h.same {e:PT} (h:A3h A H v e) (s:A1f H H'):A3h A H' v e:=by
 refine e0g h ?_;clear h;rintro a dx tv sl gl gs rfl e1 o e2 e3 ⟨r1,r2,r3⟩;exact i1b a dx tv sl gl gs rfl (s _ _ e1) (o.imp s) (s _ _ e2) (s _ _ e3) r1 r2 (Paired.mapP r3 λ_ _ z=>z.same s)
local macro_rules | `(tactic| walk_at "lk") => `(tactic| first | with_reducible exact lk0 | (refine lk1 (by decide +kernel) ?_; walk_at "lk") | rfl)
theorem B2l {α β:Type} {F:α->β->Prop}:∀{l:List α} {m:List β},Paired F l m->∀{i:Nat} {x:α},l[i]? =some x->∃y,m[i]? =some y/\F x y
 | _,_,.nil,i,x,e=>by simp at e
 | _,_,.cons r t,0,x,e=>by simp at e;subst e;exact i02 _ rfl r
 | _,_,.cons r t,i+1,x,e=>by
  obtain ⟨y,e1,e2⟩:=B2l t (i:=i) (by simpa using e);exact i02 y (by simpa using e1) e2
theorem B2c {α β:Type} {F:α->β->Prop}:∀{a c:List α} {b d:List β},Paired F a b->Paired F c d->Paired F (a++c) (b++d)
 | _,_,_,_,.nil,h=>h
 | _,_,_,_,.cons r t,h=> .cons r (B2c t h)
def C2a (K:Frag) (f:Str):Sp:=λvs H Q _=>∃(p C dx:Addr) (v:V),vs=[.ref p,v]/\H p=some (.ins C dx [])/\Cls K C/\A1v K C f/\Q .non (upd H p (.ins C dx [(f,v)]))
def C1s (K:Frag) (f g:Str):Sp:=λvs H Q _=>∃(p C dx:Addr) (v u:V),vs=[.ref p,v,u]/\H p=some (.ins C dx [])/\Cls K C/\A1v K C f/\A1v K C g/\Q .non (upd H p (.ins C dx [(f,v),(g,u)]))
def C5x (n:Nat):Sp:=λvs H Q _=>∃(v:V) (d:PyData),vs=[v]/\Rep H v d/\PyData.depth d<=n/\cnt d<=100000/\∀(v':V) (H':Hp),A1f H H'->Rep (A1a (λa=>H a=none) H') v' d->Q v' H'
def D5n (C:Addr):Sp:=λvs H Q _=>∃(a dx:Addr) (fs:List (Str×V)),vs=[.ref a]/\H a=some (.ins C dx fs)/\Q (.ref a) H
def C6u (C:Addr):Sp:=λvs H Q _=>∃(p:Addr) (xs:List V),vs=[.ref p]/\H p=some (.lst xs)/\xs.length<=1000/\(∀x∈xs,∃a dx fs,x= .ref a/\H a=some (.ins C dx fs))/\∀(D:Addr) (H':Hp),H D=none->A1f H H'->H' D=some (.lst xs)->Q (.ref D) H'
def D2v:Sp:=λvs H Q _=>∃(d:Addr) (kvs:List (Key×V)) (ds:List PyData),vs=[.ref d]/\H d=some (.dK kvs)/\kvs.length<=100000/\Paired (λ(a:Key×V) (x:PyData)=>Rep H a.2 x/\PyData.depth x<=1/\cnt x<=100000) kvs ds/\
 ∀(p:Addr) (kvs':List (Key×V)) (H':Hp),H p=none->A1f H H'->H' p=some (.dK kvs')->kvs'.map (·.1)=kvs.map (·.1)->Paired (λ(b:Key×V) (x:PyData)=>Rep (A1a (λa=>H a=none) H') b.2 x) kvs' ds->Q (.ref p) H'
def C8j (A:Adr):Sp:=λvs H Q _=>∃(p dx:Addr) (a b c d e:V),vs=[.ref p,a,b,c,d,e]/\H p=some (.ins A.ae dx [])/\Q .non (upd H p (.ins A.ae dx [("axis",a),("low",b),("high",c),("inner",d),("outer",e)]))
def C8t (A:Adr):Sp:=λvs H Q _=>∃(p dx l:Addr) (x:Str) (ix:List (Str×Int)),vs=[.ref p,.str x,.ref l]/\H p=some (.ins A.ag dx [])/\Rep H (.ref l) (A5b ix)/\ix.length<=1000/\
 ∀(l':Addr) (H':Hp),H' p=some (.ins A.ag dx [("array",.str x),("indexes",.ref l')])->Rep (A1a (λb=>H b=none) H') (.ref l') (A5b ix)->(∀b o,b≠p->H b=some o->H' b=some o)->Q .non H'
variable {P:Program} {w:World} {K:Frag} {mg:Str->Option Value} {base:Heap} {t:Adr}
theorem A8t (T:Txt K mg t):FP P w mg base T.cy 1 (C2a K "number"):=by
 refine T.cy.F.ok B4b (by walk_at "ln") λ_ A _ s H _ Q E hr h=> ?_
 ·refine e0d h ?_;clear h;rintro p C dx v rfl hp cl na k;exact i02 _ (@A0g _ _ _ (A2g (pv 0) (pv 1) rfl)) (i18 _ rfl _ rfl p C dx [] rfl hp cl na (by decide) k)
theorem B6a (T:Txt K mg t):FP P w mg base T.ja 1 (C2a K "axis"):=by
 refine T.ja.F.ok B5u (by walk_at "ln") λ_ A _ s H _ Q E hr h=> ?_
 ·refine e0d h ?_;clear h;rintro p C dx v rfl hp cl na k;exact i02 _ (@A0g _ _ _ (A2g (pv 0) (pv 1) rfl)) (i18 _ rfl _ rfl p C dx [] rfl hp cl na (by decide) k)
theorem A5y (T:Txt K mg t):FP P w mg base T.bw 1 (C1s K "left" "right"):=by
 refine T.bw.F.ok B7h (λvs H Q E h=> ?_) λ_ A _ s H _ Q E hr h=> ?_
 ·refine e08 h ?_;clear h;rintro p C dx v u ⟨rfl,_⟩;rfl
 ·refine e0e h ?_;clear h;rintro p C dx v u rfl hp cl n1 ⟨n2,k⟩;refine i02 _ (@A0c _ _ _ _ _ (A2g (pv 0) (pv 1) rfl) (@A0g _ _ _ (A2g (pv 0) (pv 2) rfl))) (i18 _ rfl _ rfl p C dx [] rfl hp cl n1 (by decide) (i18 _ rfl _ rfl p C dx _ rfl A0b cl n2 (by show 1<1000;decide) ?_));show Q V.non (upd (upd H p _) p (.ins C dx (A4h "right" u (A4h "left" v []))));rw [A5t,A1p,A1j (by decide +kernel),A1p];exact k
theorem B9o (T:Txt K mg t):FP P w mg base T.nh 1 (C1s K "axis" "body"):=by
 refine T.nh.F.ok B9s (λvs H Q E h=> ?_) λ_ A _ s H _ Q E hr h=> ?_
 ·refine e08 h ?_;clear h;rintro p C dx v u ⟨rfl,_⟩;rfl
 ·refine e0e h ?_;clear h;rintro p C dx v u rfl hp cl n1 ⟨n2,k⟩;refine i02 _ (@A0c _ _ _ _ _ (A2g (pv 0) (pv 1) rfl) (@A0g _ _ _ (A2g (pv 0) (pv 2) rfl))) (i18 _ rfl _ rfl p C dx [] rfl hp cl n1 (by decide) (i18 _ rfl _ rfl p C dx _ rfl A0b cl n2 (by show 1<1000;decide) ?_));show Q V.non (upd (upd H p _) p (.ins C dx (A4h "body" u (A4h "axis" v []))));rw [A5t,A1p,A1j (by decide +kernel),A1p];exact k
theorem A5o (h:T="NoneType"\/T="bool"\/T="int"\/T="str"\/T="tuple"):∀u,A3j (.ty "list") u->kitOne K (.type T) u=some false:=by
 rcases h with rfl | rfl | rfl | rfl | rfl <;> exact B8x (by decide +kernel) (by decide +kernel) (by decide +kernel)
theorem A5x (h:T="NoneType"\/T="bool"\/T="int"\/T="str"):∀u,A3j (.ty "tuple") u->kitOne K (.type T) u=some false:=by
 rcases h with rfl | rfl | rfl | rfl <;> exact B8x (by decide +kernel) (by decide +kernel) (by decide +kernel)
theorem A7k (h:T="NoneType"\/T="bool"\/T="int"\/T="str"):∀u,A3j (.ty "dict") u->kitOne K (.type T) u=some false:=by
 rcases h with rfl | rfl | rfl | rfl <;> exact B8x (by decide +kernel) (by decide +kernel) (by decide +kernel)
theorem C2b (T:Txt K mg t) (Ga0:A2y P w K mg base CX0 m t.fg t.fh B9k sp')
  (hs:∀(v:V) (d:PyData) (H:Hp) (Q:VK),Rep H v d->PyData.depth d+1<=n->cnt d<=100000->(∀(v':V) (H':Hp),A1f H H'->Rep (A1a (λa=>H a=none) H') v' d->Q v' H')->sp' [v] H Q E0) :
  A2y P w K mg base CX0 (m+1) t.fg t.fh B9k (C5x n):=by
 refine T.ai.F.ok B0b (by walk_at "ln") λ_ A _ s H _ Q E hr h=> ?_
 ·refine e06 h ?_;clear h;rintro v d rfl rp hd ⟨hc,k⟩;have Ga1:A2y P w K mg base CX0 0 t.fc t.e_ B9k (λ_ _ _ _=>False):=A2y.none λ_ _ _ _ h=>h;refine i02 _ (@A0c _ _ _ _ _ (@A1z _ _ _ _ _ _ _ _ (A3c (A0y A1m (by rfl) T.ab Z0d (@A0a _ _ _ _ _ (pv 0) (@A0a _ _ _ _ _ (A4a (v:=V.ty "list") rfl T.cx Z1o rfl) A0d rfl) rfl))) (@A0g _ _ _ (@A0u _ _ _ _ (A3u (N':=["member"]) (ix:=(List.replicate 1 none)) rfl (A2p rfl (by decide +kernel) (by decide +kernel)) (A2n rfl) (B1o (pv 0)) (λ_ _ _ _=>(A0n (i:=0) A4v rfl (.inl rfl))) (λ_ _ _ _=>(pcl Ga0 hr T.ai (@A0a _ _ _ _ _ (pv 0) A0d rfl)))))) A1d) (@A0c _ _ _ _ _ (@A1z _ _ _ _ _ _ _ _ (A3c (A0y A1m (by rfl) T.ab Z0d (@A0a _ _ _ _ _ (pv 0) (@A0a _ _ _ _ _ (A4a (v:=V.ty "tuple") rfl T.g_ Z0m rfl) A0d rfl) rfl))) (@A0g _ _ _ (@A0u _ _ _ _ (A2a A5f (by rfl) T.g_ Z0m (@A0a _ _ _ _ _ (A3u (N':=["member"]) (ix:=(List.replicate 1 none)) rfl (A2p rfl (by decide +kernel) (by decide +kernel)) (A2n rfl) (B1o (pv 0)) (λ_ _ _ _=>(A0n (i:=0) A4v rfl (.inl rfl))) (λ_ _ _ _=>(pcl Ga0 hr T.ai (@A0a _ _ _ _ _ (pv 0) A0d rfl)))) A0d rfl)))) A1d) (@A0c _ _ _ _ _ (@A1z _ _ _ _ _ _ _ _ (A3c (A0y A1m (by rfl) T.ab Z0d (@A0a _ _ _ _ _ (pv 0) (@A0a _ _ _ _ _ (A4a (v:=V.ty "dict") rfl T.qi Z2q rfl) A0d rfl) rfl))) (@A0g _ _ _ (@A0u _ _ _ _ (pcl Ga1 hr T.cg (@A0a _ _ _ _ _ (pv 0) A0d rfl)))) A1d) (@A0g _ _ _ (@A0u _ _ _ _ (pv 0)))))) ?_
  cases rp with
  | non =>
   refine i13 _ rfl _ _ _ _ rfl .non (A5o (.inl rfl)) false rfl (A2u ?_);refine i13 _ rfl _ _ _ _ rfl .non (A5x (.inl rfl)) false rfl (A2u ?_);exact i13 _ rfl _ _ _ _ rfl .non (A7k (.inl rfl)) false rfl (A2u (i02 _ rfl (k _ _ (A1f.refl _) .non)))
  | bl b =>
   refine i13 _ rfl _ _ _ _ rfl (.bl b) (A5o (.inr (.inl rfl))) false rfl (A2u ?_);refine i13 _ rfl _ _ _ _ rfl (.bl b) (A5x (.inr (.inl rfl))) false rfl (A2u ?_);exact i13 _ rfl _ _ _ _ rfl (.bl b) (A7k (.inr (.inl rfl))) false rfl (A2u (i02 _ rfl (k _ _ (A1f.refl _) (.bl b))))
  | int b =>
   refine i13 _ rfl _ _ _ _ rfl (.int b) (A5o (.inr (.inr (.inl rfl)))) false rfl (A2u ?_);refine i13 _ rfl _ _ _ _ rfl (.int b) (A5x (.inr (.inr (.inl rfl)))) false rfl (A2u ?_);exact i13 _ rfl _ _ _ _ rfl (.int b) (A7k (.inr (.inr (.inl rfl)))) false rfl (A2u (i02 _ rfl (k _ _ (A1f.refl _) (.int b))))
  | str b =>
   refine i13 _ rfl _ _ _ _ rfl (.str b) (A5o (.inr (.inr (.inr (.inl rfl))))) false rfl (A2u ?_);refine i13 _ rfl _ _ _ _ rfl (.str b) (A5x (.inr (.inr (.inr rfl)))) false rfl (A2u ?_);exact i13 _ rfl _ _ _ _ rfl (.str b) (A7k (.inr (.inr (.inr rfl)))) false rfl (A2u (i02 _ rfl (k _ _ (A1f.refl _) (.str b))))
  | @lst p xs ds e r =>
   have hl1:=r.len;have hl2:=B9p ds;have hc':A4d ds+1<=100000:=hc;have hd':PyData.depthAll ds+1<=n:=hd;refine i13 _ rfl _ _ _ _ rfl (.lst e) (A6q "list") true rfl (A5h ?_);refine .inl (i0j _ rfl p rfl ⟨_,SqL.of e⟩ λD hD=> ?_)
   refine A2w (K:=K) (a:=p) (D:=D) (xs:=xs) (λi ys H2=>A1f H H2/\H2 D=some (.lst ys)/\A4s (A1a (λa=>H a=none/\a≠D) H2) ys (ds.take i)/\ys.length=i)
    (i04 (A0f hD) A0b (by rw [List.take_zero];exact .nil) rfl) (λi ys H2 ⟨s2,_⟩=>SqL.of (s2 _ _ e)) ?_ ?_
   ·rintro i x ys H2 hx ⟨s2,hD2,rs,hyl⟩;obtain ⟨d,hdi,rx⟩:=r.get2 hx;obtain ⟨c1,c2⟩:=C5z hdi;have hi:i<xs.length:=(Z03.mp hx).1;refine i05 True.intro _ rfl (hs x d H2 _ (rx.same s2) (by lia) (by lia) λv' H5 s5 rp5=> ?_);have hnS:¬(H D=none/\D≠D):=λz=>z.2 rfl;refine i0g (s5 _ _ hD2) (A1l (by lia)) (A0s (s2.trans s5) hD) A0b ?_ (by simp [hyl]);rw [Z14,hdi];show A4s _ (ys++[v']) (ds.take i++[d]);refine (rs.same (A2o (A0h s5) hnS)).snoc (rp5.same ((A3b (A1f.refl _) λa o _ ha=>⟨s2.free ha,λz=> ?_⟩).trans (A2o (A1f.refl _) hnS)));subst z;rw [hD2] at ha;cases ha
   ·rintro ys H2 ⟨s2,hD2,rs,hyl⟩;refine k (.ref D) H2 s2 (.lst (A0i hD hD2) ?_);rw [hl1,Z18] at rs;exact rs.same (A3b (A1f.refl _) λa o _ h=>h.1)
  | @tup p xs ds e r =>
   have hl1:=r.len;have hl2:=B9p ds;have hc':A4d ds+1<=100000:=hc;have hd':PyData.depthAll ds+1<=n:=hd;refine i13 _ rfl _ _ _ _ rfl (.tup e) (A5o (.inr (.inr (.inr (.inr rfl))))) false rfl (A2u ?_);refine i13 _ rfl _ _ _ _ rfl (.tup e) (A6q "tuple") true rfl (A5h ?_);refine .inr (i0j _ rfl p rfl ⟨_,SqT.of e⟩ λD hD=> ?_)
   refine C5w (K:=K) (a:=p) (D:=D) (xs:=xs) (λi ys H2=>A1f H H2/\H2 D=some (.lst ys)/\A4s (A1a (λa=>H a=none/\a≠D) H2) ys (ds.take i)/\ys.length=i)
    (i04 (A0f hD) A0b (by rw [List.take_zero];exact .nil) rfl) (λi ys H2 ⟨s2,_⟩=>SqT.of (s2 _ _ e)) ?_ ?_
   ·rintro i x ys H2 hx ⟨s2,hD2,rs,hyl⟩;obtain ⟨d,hdi,rx⟩:=r.get2 hx;obtain ⟨c1,c2⟩:=C5z hdi;have hi:i<xs.length:=(Z03.mp hx).1;refine i05 True.intro _ rfl (hs x d H2 _ (rx.same s2) (by lia) (by lia) λv' H5 s5 rp5=> ?_);have hnS:¬(H D=none/\D≠D):=λz=>z.2 rfl;refine i0g (s5 _ _ hD2) (A1l (by lia)) (A0s (s2.trans s5) hD) A0b ?_ (by simp [hyl]);rw [Z14,hdi];show A4s _ (ys++[v']) (ds.take i++[d]);refine (rs.same (A2o (A0h s5) hnS)).snoc (rp5.same ((A3b (A1f.refl _) λa o _ ha=>⟨s2.free ha,λz=> ?_⟩).trans (A2o (A1f.refl _) hnS)));subst z;rw [hD2] at ha;cases ha
   ·rintro ys H2 ⟨s2,hD2,rs,hyl⟩;refine i07 D ys rfl (.inl ⟨SqL.of hD2,λl hl=> ?_⟩);refine k (.ref l) _ (s2.trans (A0f hl)) (.tup (A0i (s2.free hl) A0b) ?_);rw [hl1,Z18] at rs;exact rs.same ((A3b (A1f.refl _) λa o _ h=>h.1).trans (A0h (A0f hl)))
theorem B0d (T:Txt K mg t):∀n:Nat,A2y P w K mg base CX0 (n+1) t.fg t.fh B9k (C5x n)
 | 0=>C2b T (sp':=λ_ _ _ _=>False) (m:=0) (A2y.none λ_ _ _ _ h=>h) λv d H Q _ h=>absurd h (by lia)
 | n+1=>C2b T (B0d T n) λv d H Q rp hd hc k=>(i0o v d rfl rp (by lia) hc k)
theorem D3p (T:Txt K mg t) {C:Addr} (cl:Cls K C) (tc:TyC K C) (m1:mroIn K C (.type "list")=some false) (m2:mroIn K C (.type "tuple")=some false) (m3:mroIn K C (.type "dict")=some false):A2y P w K mg base CX0 1 t.fg t.fh B9k (D5n C):=by
 refine T.ai.F.ok B0b (by walk_at "ln") λ_ A _ s H _ Q E hr h=> ?_
 ·obtain ⟨a,dx,fs,rfl,e,k⟩:=h;have Ga0:A2y P w K mg base CX0 0 t.fg t.fh B9k (λ_ _ _ _=>False):=A2y.none λ_ _ _ _ h=>h;have ty:B0p K H (.ref a) (.ref C):= .ins e cl tc.ha tc.hn tc.htk tc.hm;have Ga1:A2y P w K mg base CX0 0 t.fc t.e_ B9k (λ_ _ _ _=>False):=A2y.none λ_ _ _ _ h=>h;refine i02 _ (@A0c _ _ _ _ _ (@A1z _ _ _ _ _ _ _ _ (A3c (A0y A1m (by rfl) T.ab Z0d (@A0a _ _ _ _ _ (pv 0) (@A0a _ _ _ _ _ (A4a (v:=V.ty "list") rfl T.cx Z1o rfl) A0d rfl) rfl))) (@A0g _ _ _ (@A0u _ _ _ _ (A3u (N':=["member"]) (ix:=(List.replicate 1 none)) rfl (A2p rfl (by decide +kernel) (by decide +kernel)) (A2n rfl) (B1o (pv 0)) (λ_ _ _ _=>(A0n (i:=0) A4v rfl (.inl rfl))) (λ_ _ _ _=>(pcl Ga0 hr T.ai (@A0a _ _ _ _ _ (pv 0) A0d rfl)))))) A1d) (@A0c _ _ _ _ _ (@A1z _ _ _ _ _ _ _ _ (A3c (A0y A1m (by rfl) T.ab Z0d (@A0a _ _ _ _ _ (pv 0) (@A0a _ _ _ _ _ (A4a (v:=V.ty "tuple") rfl T.g_ Z0m rfl) A0d rfl) rfl))) (@A0g _ _ _ (@A0u _ _ _ _ (A2a A5f (by rfl) T.g_ Z0m (@A0a _ _ _ _ _ (A3u (N':=["member"]) (ix:=(List.replicate 1 none)) rfl (A2p rfl (by decide +kernel) (by decide +kernel)) (A2n rfl) (B1o (pv 0)) (λ_ _ _ _=>(A0n (i:=0) A4v rfl (.inl rfl))) (λ_ _ _ _=>(pcl Ga0 hr T.ai (@A0a _ _ _ _ _ (pv 0) A0d rfl)))) A0d rfl)))) A1d) (@A0c _ _ _ _ _ (@A1z _ _ _ _ _ _ _ _ (A3c (A0y A1m (by rfl) T.ab Z0d (@A0a _ _ _ _ _ (pv 0) (@A0a _ _ _ _ _ (A4a (v:=V.ty "dict") rfl T.qi Z2q rfl) A0d rfl) rfl))) (@A0g _ _ _ (@A0u _ _ _ _ (pcl Ga1 hr T.cg (@A0a _ _ _ _ _ (pv 0) A0d rfl)))) A1d) (@A0g _ _ _ (@A0u _ _ _ _ (pv 0)))))) ?_;refine i13 _ rfl _ _ _ _ rfl ty (C7f m1 (by decide +kernel)) false rfl (A2u ?_);refine i13 _ rfl _ _ _ _ rfl ty (C7f m2 (by decide +kernel)) false rfl (A2u ?_);exact i13 _ rfl _ _ _ _ rfl ty (C7f m3 (by decide +kernel)) false rfl (A2u (i02 _ rfl k))
theorem C4b (T:Txt K mg t) {C:Addr} (cl:Cls K C) (tc:TyC K C) (m1:mroIn K C (.type "list")=some false) (m2:mroIn K C (.type "tuple")=some false) (m3:mroIn K C (.type "dict")=some false):A2y P w K mg base CX0 2 t.fg t.fh B9k (C6u C):=by
 have Ga0:= @D3p P w K mg base t T _ cl tc m1 m2 m3;refine T.ai.F.ok B0b (by walk_at "ln") λ_ A _ s H _ Q E hr h=> ?_
 ·refine e06 h ?_;clear h;rintro p xs rfl e hl ⟨hx,k⟩;have Ga1:A2y P w K mg base CX0 0 t.fc t.e_ B9k (λ_ _ _ _=>False):=A2y.none λ_ _ _ _ h=>h;refine i02 _ (@A0c _ _ _ _ _ (@A1z _ _ _ _ _ _ _ _ (A3c (A0y A1m (by rfl) T.ab Z0d (@A0a _ _ _ _ _ (pv 0) (@A0a _ _ _ _ _ (A4a (v:=V.ty "list") rfl T.cx Z1o rfl) A0d rfl) rfl))) (@A0g _ _ _ (@A0u _ _ _ _ (A3u (N':=["member"]) (ix:=(List.replicate 1 none)) rfl (A2p rfl (by decide +kernel) (by decide +kernel)) (A2n rfl) (B1o (pv 0)) (λ_ _ _ _=>(A0n (i:=0) A4v rfl (.inl rfl))) (λ_ _ _ _=>(pcl Ga0 hr T.ai (@A0a _ _ _ _ _ (pv 0) A0d rfl)))))) A1d) (@A0c _ _ _ _ _ (@A1z _ _ _ _ _ _ _ _ (A3c (A0y A1m (by rfl) T.ab Z0d (@A0a _ _ _ _ _ (pv 0) (@A0a _ _ _ _ _ (A4a (v:=V.ty "tuple") rfl T.g_ Z0m rfl) A0d rfl) rfl))) (@A0g _ _ _ (@A0u _ _ _ _ (A2a A5f (by rfl) T.g_ Z0m (@A0a _ _ _ _ _ (A3u (N':=["member"]) (ix:=(List.replicate 1 none)) rfl (A2p rfl (by decide +kernel) (by decide +kernel)) (A2n rfl) (B1o (pv 0)) (λ_ _ _ _=>(A0n (i:=0) A4v rfl (.inl rfl))) (λ_ _ _ _=>(pcl Ga0 hr T.ai (@A0a _ _ _ _ _ (pv 0) A0d rfl)))) A0d rfl)))) A1d) (@A0c _ _ _ _ _ (@A1z _ _ _ _ _ _ _ _ (A3c (A0y A1m (by rfl) T.ab Z0d (@A0a _ _ _ _ _ (pv 0) (@A0a _ _ _ _ _ (A4a (v:=V.ty "dict") rfl T.qi Z2q rfl) A0d rfl) rfl))) (@A0g _ _ _ (@A0u _ _ _ _ (pcl Ga1 hr T.cg (@A0a _ _ _ _ _ (pv 0) A0d rfl)))) A1d) (@A0g _ _ _ (@A0u _ _ _ _ (pv 0)))))) ?_;refine i13 _ rfl _ _ _ _ rfl (.lst e) (A6q "list") true rfl (A5h ?_);refine .inl (i0j _ rfl p rfl ⟨_,SqL.of e⟩ λD hD=> ?_)
  refine A2w (K:=K) (a:=p) (D:=D) (xs:=xs) (λi ys H2=>A1f H H2/\H2 D=some (.lst ys)/\ys=xs.take i)
   (i00 (A0f hD) A0b rfl) (λi ys H2 ⟨s2,_⟩=>SqL.of (s2 _ _ e)) ?_ ?_
  ·rintro i x ys H2 hxi ⟨s2,hD2,rfl⟩;obtain ⟨a,dx,fs,rfl,ea⟩:=hx x (Z13 hxi);have hlt:(xs.take i).length<=xs.length:=by rw [Z0x];lia
   refine ⟨True.intro,(i0v _ rfl a dx fs rfl (s2 _ _ ea) hD2 (i04 (A1l (by lia)) (A0s s2 hD) A0b ?_))⟩;rw [Z14,hxi];rfl
  ·rintro ys H2 ⟨s2,hD2,rfl⟩;rw [Z18] at hD2;exact k D H2 hD s2 hD2
theorem B4k (T:Txt K mg t):FO P w base T.cg 3 D2v:=by
 have Ga0:= @B0d P w K mg base t T 1;refine T.cg.F.ok A4p (by walk_at "ln") λ_ A _ s H _ Q E hr h=> ?_
 ·refine e09 h ?_;clear h;rintro d kvs ds rfl hd hl ⟨src,k⟩;have hu:=B1b hr;refine i02 _ (C7x (@A0c _ _ _ _ _ (@A0l _ _ 1 _ _ _ _ A4p.nd rfl (.inl rfl) B5y rfl (by first | exact Or.inl rfl | exact Or.inr rfl | assumption)) (@A0c _ _ _ _ _ (A3d PassesOwn.never rfl (C8x (D6t PySem.F.plainAttrs_dict PySem.F.slot_dict_items PySem.F.type_dict_items C8y (pv 0))) (A3f (n:=2) rfl (A0v (A0n (i:=2) A4p.nd rfl (.inl rfl)) (A0v (A0n (i:=3) A4p.nd rfl (.inl rfl)) A2k))) (@A0g _ _ _ (@B1g _ _ _ _ _ _ _ _ _ hu (pv 1) (pv 2) (pcl Ga0 hr T.ai (@A0a _ _ _ _ _ (pv 3) A0d rfl)) rfl))) (C4p (@A0g _ _ _ (@A0u _ _ _ _ (pv 1))))))) ?_;intro ap;have nd:=ap.1 d kvs hd;refine λp hp=> ?_;have dp:d≠p:=A1g hd hp;have hd1:upd H p (.dK []) d=some (.dK kvs):=by rw [A0k dp];exact hd
  refine i06 _ rfl (.inr (.inr (.inl ⟨rfl,.inl ⟨_,hd1⟩⟩))) (i0o d _ rfl rfl hd1 (.inl ⟨_,rfl⟩) λvw hvw=> ?_);have vp:p≠vw:=A1g A0b hvw;have dv:d≠vw:=A1g hd1 hvw;refine i0p vw d _ rfl A0b (by rw [A0k dv];exact hd1) (.inl (i02 kvs rfl λo=> ?_));have hv0:H vw=none:=by rw [A0k vp.symm] at hvw;exact hvw
  have g0:A1f (upd H d (.frz o (.dK kvs))) (upd (upd (upd H p (.dK [])) vw (C2o vw d)) d (.frz o (.dK kvs))):=λb v e=>by
   by_cases hb:b=d
   ·subst hb;rw [A0b] at e⊢;exact e
   ·rw [A0k hb] at e⊢;rw [A0k (A1g e hv0),A0k (A1g e hp)];exact e
  have hpG:upd H d (.frz o (.dK kvs)) p=none:=by rw [A0k dp.symm];exact hp
  have nd0:∀b,upd H d (.frz o (.dK kvs)) b=none->H b=none:=λb e=>by
   by_cases hb:b=d
   ·subst hb;rw [A0b] at e;cases e
   ·rw [A0k hb] at e;exact e
  refine C5e (L:=kvs.map λq=>(kV q.1,q.2)) (λi Z H4=>∃(o2 o3:Option V) (ws:List (Key×V)),Z=[Sro d,Sro p,o2,o3]/\A1f (upd H d (.frz o (.dK kvs))) H4/\H4 p=some (.dK ws)/\ws.map (·.1)=(kvs.take i).map (·.1)/\Paired (λ(b:Key×V) (x:PyData)=>Rep (A1a (λa=>H a=none/\a≠p) H4) b.2 x) ws (ds.take i))
   (i0s none none [] rfl g0 (by rw [A0k dp.symm,A0k vp,A0b]) rfl .nil) (λi Z H4 zq=>by obtain ⟨_,_,_,_,s4,_⟩:=zq;exact s4 _ _ A0b) ?_ ?_
  ·rintro i kx vx q Z H4 hx hq zz;refine e09 zz ?_;clear zz;rintro o2 o3 ws rfl s4 h4 ⟨ks,cp⟩;rw [Z1z] at hx;obtain ⟨⟨k',v⟩,hk,e⟩:=Z0i.mp hx;cases e;obtain ⟨x,hxd,rv,dv1,cv1⟩:=B2l src hk;have sq:A1f H4 (upd H4 q (.tup [kV k',v])):=A0f hq;have rv4:Rep (upd H4 q (.tup [kV k',v])) v x:=(rv.imp2 (λb ys z=>s4 _ _ (by rw [A0k (A3a z hd (by intro w;cases w))];exact z)) λb ys z=>s4 _ _ (by rw [A0k (A3a z hd (by intro w;cases w))];exact z)).same sq;refine i17 q _ rfl (SqT.of A0b) rfl _ _ rfl _ _ rfl rfl (i0q _ rfl v x rfl rv4 dv1 ⟨cv1,λv' H6 s6 r6=> ?_⟩);have h6:=s6 _ _ (sq _ _ h4);have lw:ws.length=(kvs.take i).length:=by have:=congrArg List.length ks;simpa using this
   have lt2:(kvs.take i).length<=kvs.length:=by rw [Z0x];lia
   refine i0u _ rfl _ rfl p _ rfl (C7t.k (k:=k') h6 (A1l (by lia))) ?_;have hnS:¬(H p=none/\p≠p):=λz=>z.2 rfl;refine i0s _ _ _ rfl (A0s (s4.trans (sq.trans s6)) hpG) A0b ?_ ?_
   ·rw [B2g nd hk ws ks v',Z14,hk,Z0s,Z0s,ks];rfl
   ·rw [B2g nd hk ws ks v',Z14,hxd];refine B2c (Paired.mapP cp λ_ _ z=>z.same (A2o (A0h (sq.trans s6)) hnS)) (.cons (r6.same ((A3b (A1f.refl _) λa ob ea ha=>⟨?_,λz=> ?_⟩).trans (A2o (A1f.refl _) hnS))) .nil)
    ·exact nd0 a (s4.free (sq.free ha))
    ·subst z;rw [sq _ _ h4] at ha;cases ha
  ·rintro Z H4 zz;refine e09 zz ?_;clear zz;rintro o2 o3 ws rfl s4 h4 ⟨ks,cp⟩;have ld:=Paired.length src;rw [Z08,Z18] at ks;rw [Z08,ld,Z18] at cp;have hd4:H4 d=some (.frz o (.dK kvs)):=s4 _ _ A0b;refine i0l d o _ hd4 (.inl ⟨_,rfl⟩) (i05 (λo' u' z=>by have z:H d=some (.frz o' u'):=z;rw [hd] at z;cases z) _ rfl ?_);have hnd:¬(H d=none/\d≠p):=λz=>by rw [hd] at z;cases z.1
   exact k p ws _ hp (C6a hd s4) (by rw [A0k dp.symm];exact h4) ks (Paired.mapP cp λ_ _ z=>z.same ((A2o (A1f.refl _) hnd).trans (A3b (A1f.refl _) λa ob _ h=>h.1)))
theorem D3h (T:Txt K mg t):FO P w base T.ai 4 D2v:=by
 have Ga1:= @B4k P w K mg base t T;have Ga0:A2y P w K mg base CX0 0 t.fg t.fh B9k (λ_ _ _ _=>False):=A2y.none λ_ _ _ _ h=>h;refine T.ai.F.ok B0b (by walk_at "ln") λ_ A _ s H _ Q E hr h=> ?_
 ·have h0:=h;obtain ⟨d,kvs,ds,rfl,hd,_⟩:=h;refine i02 _ (@A0c _ _ _ _ _ (@A1z _ _ _ _ _ _ _ _ (A3c (A0y A1m (by rfl) T.ab Z0d (@A0a _ _ _ _ _ (pv 0) (@A0a _ _ _ _ _ (A4a (v:=V.ty "list") rfl T.cx Z1o rfl) A0d rfl) rfl))) (@A0g _ _ _ (@A0u _ _ _ _ (A3u (N':=["member"]) (ix:=(List.replicate 1 none)) rfl (A2p rfl (by decide +kernel) (by decide +kernel)) (A2n rfl) (B1o (pv 0)) (λ_ _ _ _=>(A0n (i:=0) A4v rfl (.inl rfl))) (λ_ _ _ _=>(pcl Ga0 hr T.ai (@A0a _ _ _ _ _ (pv 0) A0d rfl)))))) A1d) (@A0c _ _ _ _ _ (@A1z _ _ _ _ _ _ _ _ (A3c (A0y A1m (by rfl) T.ab Z0d (@A0a _ _ _ _ _ (pv 0) (@A0a _ _ _ _ _ (A4a (v:=V.ty "tuple") rfl T.g_ Z0m rfl) A0d rfl) rfl))) (@A0g _ _ _ (@A0u _ _ _ _ (A2a A5f (by rfl) T.g_ Z0m (@A0a _ _ _ _ _ (A3u (N':=["member"]) (ix:=(List.replicate 1 none)) rfl (A2p rfl (by decide +kernel) (by decide +kernel)) (A2n rfl) (B1o (pv 0)) (λ_ _ _ _=>(A0n (i:=0) A4v rfl (.inl rfl))) (λ_ _ _ _=>(pcl Ga0 hr T.ai (@A0a _ _ _ _ _ (pv 0) A0d rfl)))) A0d rfl)))) A1d) (@A0c _ _ _ _ _ (@A1z _ _ _ _ _ _ _ _ (A3c (A0y A1m (by rfl) T.ab Z0d (@A0a _ _ _ _ _ (pv 0) (@A0a _ _ _ _ _ (A4a (v:=V.ty "dict") rfl T.qi Z2q rfl) A0d rfl) rfl))) (@A0g _ _ _ (@A0u _ _ _ _ (pcl Ga1 hr T.cg (@A0a _ _ _ _ _ (pv 0) A0d rfl)))) A1d) (@A0g _ _ _ (@A0u _ _ _ _ (pv 0)))))) ?_;refine i13 _ rfl _ _ _ _ rfl (.dK hd) (B8x (by decide +kernel) (by decide +kernel) (by decide +kernel)) false rfl (A2u ?_);refine i13 _ rfl _ _ _ _ rfl (.dK hd) (B8x (by decide +kernel) (by decide +kernel) (by decide +kernel)) false rfl (A2u ?_);exact i13 _ rfl _ _ _ _ rfl (.dK hd) (A6q "dict") true rfl (A5h (i02 _ rfl h0))
def D5w (A:Adr):Sp:=λvs H Q E=>((C5x 3 vs H Q E\/C6u A.c8 vs H Q E)\/C6u A.aw vs H Q E)\/D2v vs H Q E
theorem C1z (T:Txt K mg t):FO P w base T.ai 4 (D5w t) :=
 A2y.or (A2y.or (A2y.or (B0d T 3) ((C4b T T.kg T.za T.wX T.wW T.xn).mono (by lia))) ((C4b T T.c_ T.yO T.wR T.uq T.wV).mono (by lia))) (D3h T)
theorem B0g (T:Txt K mg t):FP P w mg base T.g9 1 (C8j t):=by
 refine T.g9.F.ok B5w (λvs H Q E h=> ?_) λ_ A _ s H _ Q E hr h=> ?_
 ·refine e08 h ?_;clear h;rintro p dx a b c ⟨d,e,rfl,_⟩;rfl
 ·refine e08 h ?_;clear h;rintro p dx a b c ⟨d,e,rfl,hp,k⟩;have e1:A4h "low" b (A4h "axis" a [])=([("axis",a),("low",b)]:List (Str×V)):=by rw [A1p,A1j (by decide +kernel),A1p]
  have e2:A4h "high" c ([("axis",a),("low",b)]:List (Str×V))=([("axis",a),("low",b),("high",c)]:List (Str×V)):=by rw [A1j (by decide +kernel),A1j (by decide +kernel),A1p]
  have e3:A4h "inner" d ([("axis",a),("low",b),("high",c)]:List (Str×V))=([("axis",a),("low",b),("high",c),("inner",d)]:List (Str×V)):=by rw [A1j (by decide +kernel),A1j (by decide +kernel),A1j (by decide +kernel),A1p]
  have e4:A4h "outer" e ([("axis",a),("low",b),("high",c),("inner",d)]:List (Str×V))=([("axis",a),("low",b),("high",c),("inner",d),("outer",e)]:List (Str×V)):=by rw [A1j (by decide +kernel),A1j (by decide +kernel),A1j (by decide +kernel),A1j (by decide +kernel),A1p]
  refine i02 _ (@A0c _ _ _ _ _ (A2g (pv 0) (pv 1) rfl) (@A0c _ _ _ _ _ (A2g (pv 0) (pv 2) rfl) (@A0c _ _ _ _ _ (A2g (pv 0) (pv 3) rfl) (@A0c _ _ _ _ _ (A2g (pv 0) (pv 4) rfl) (@A0g _ _ _ (A2g (pv 0) (pv 5) rfl)))))) (i18 _ rfl _ rfl p _ dx [] rfl hp T.au T.fe (by decide) (i18 _ rfl _ rfl p _ dx _ rfl A0b T.au T.ju (by show 1<1000;decide) ?_));rw [A5t,e1];refine i18 _ rfl _ rfl p _ dx _ rfl A0b T.au T.iu (by show 2<1000;decide) ?_;rw [A5t,e2];refine i18 _ rfl _ rfl p _ dx _ rfl A0b T.au T.gn (by show 3<1000;decide) ?_;rw [A5t,e3];refine i18 _ rfl _ rfl p _ dx _ rfl A0b T.au T.gz (by show 4<1000;decide) ?_;show Q V.non (upd (upd H p _) p _);rw [A5t,e4];exact k
theorem B1r (T:Txt K mg t):FP P w mg base T.ik 5 (C8t t):=by
 have Ga0:= @B0d P w K mg base t T 2;refine T.ik.F.ok B8k (λvs H Q E h=> ?_) λ_ A _ s H _ Q E hr h=> ?_
 ·refine e08 h ?_;clear h;rintro p dx l x ix ⟨rfl,_⟩;rfl
 ·refine e0e h ?_;clear h;rintro p dx l x ix rfl hp rp hix k;have hcn:=D0v (ix:=ix);refine i02 _ (@A0c _ _ _ _ _ (A2g (pv 0) (pv 1) rfl) (@A0g _ _ _ (A2g (pv 0) (pcl Ga0 hr T.ai (@A0a _ _ _ _ _ (pv 2) A0d rfl)) rfl))) (i18 _ rfl _ rfl p _ dx [] rfl hp T.eh T.mi (by decide) ?_);refine i0q _ rfl (.ref l) (A5b ix) rfl (rp.ins hp) C8p ⟨by lia,λv' H2 s2 rp2=> ?_⟩;have hp2:=s2 _ _ (A0b (H:=H) (a:=p));obtain ⟨l',xs,rfl,el,rs⟩:=A5q (show Rep _ v' (.list (ix.map B0v)) from rp2);refine i12 _ rfl p _ dx _ rfl hp2 T.eh T.fu (by show 1<1000;decide) ?_;show Q V.non (upd H2 p (.ins t.ag dx (A4h "indexes" (.ref l') (A4h "array" (.str x) []))));rw [A1p,A1j (by decide +kernel),A1p]
  have fr:∀{q:Addr},upd H p (.ins t.ag dx (A4h "array" (.str x) [])) q=none->H q=none:=λ{q} z=>by
   by_cases zb:q=p
   ·subst zb;rw [A0b] at z;cases z
   ·rw [A0k zb] at z;exact z
  refine k l' _ A0b (rp2.imp2 (λq ys z=>A0i (fr (A0t z).1) (by rw [A0k (A3a (A0t z).2 hp2 (by intro z;cases z))];exact (A0t z).2)) λq ys z=>A0i (fr (A0t z).1) (by rw [A0k (A3a (A0t z).2 hp2 (by intro z;cases z))];exact (A0t z).2)) λb o hb e=> ?_;rw [A0k hb];exact s2 _ _ (by rw [A0k hb];exact e)
def KB (p:Addr) (H H':Hp):Prop:=∀b o,b≠p->H b=some o->H' b=some o
theorem KB.upd (k:KB p H H'):KB p H (upd H' p o):=λb u hb e=>by rw [A0k hb];exact k b u hb e
theorem KB.refl:KB p H H:=λ_ _ _ e=>e
theorem KB.trans {H2:Hp} (a:KB p H H') (b:KB p H' H2):KB p H H2:=λc o hc e=>b c o hc (a c o hc e)
theorem KB.of (s:A1f H H'):KB p H H':=λb o _ e=>s _ _ e
theorem KB.free {b:Addr} {u:HO} (k:KB p H H') (hp:H' p=some u) (hb:H' b=none):H b=none:=by
 cases e:H b with
 | none=>rfl
 | some o =>
  have hne:b≠p:=λz=>by subst z;rw [hp] at hb;cases hb
  rw [k b o hne e] at hb;cases hb
theorem KB.same {H2:Hp} (s:A1f H H2) (k:KB p H2 H') (hp:H p=none):A1f H H':=λb o e=>k b o (A1g e hp) (s _ _ e)
abbrev AR (S:Addr->Prop) (H:Hp) (kvs:List (Key×V)) (es:List (Str×List Str)):Prop:=Paired (λ(p:Key×V) (e:Str×List Str)=>p.1=Sum.inr e.1/\∃b,p.2= .ref b/\S b/\H b=some (.lst (e.2.map V.str))) kvs es
theorem AR.imp {S':Addr->Prop} (h:AR S H kvs es) (f:∀b xs,S b->H b=some (.lst xs)->S' b/\H' b=some (.lst xs)):AR S' H' kvs es :=
 Paired.mapP h λ_ _ ⟨z1,b,z2,z3,z4⟩=>⟨z1,(i06 b z2 ((f b _ z3 z4).1) ((f b _ z3 z4).2))⟩
theorem AR.same (h:AR S H kvs es) (s:A1f H H'):AR S H' kvs es:=h.imp λb xs z e=>⟨z,s _ _ e⟩
theorem AR.src {S:Addr->Prop} {H:Hp}:∀{kvs:List (Key×V)} {es:List (Str×List Str)},AR S H kvs es->(∀e∈es,e.2.length<=100)->Paired (λ(a:Key×V) (x:PyData)=>Rep H a.2 x/\PyData.depth x<=1/\cnt x<=100000) kvs (es.map λe=>A8v e.2)
 | _,_,.nil,_=> .nil
 | _,_,@Paired.cons _ _ _ p e _ _ ⟨_,b,z2,_,z4⟩ t,h=>by
  obtain ⟨c2,c3⟩:=A6t e.2;have:=h e (.head _);exact .cons (i00 (by rw [z2];exact A9s z4) c2 (by show cnt (A8v e.2)<=100000;lia)) (AR.src t λx hx=>h x (.tail _ hx))
theorem D4i {S S':Addr->Prop} {H H':Hp}:∀{kvs kvs':List (Key×V)} {es:List (Str×List Str)},AR S H kvs es->kvs'.map (·.1)=kvs.map (·.1)->Paired (λ(b:Key×V) (x:PyData)=>Rep (A1a S' H') b.2 x) kvs' (es.map λe=>A8v e.2)->AR S' H' kvs' es
 | _,[],_,.nil,_,_=> .nil
 | _,_::_,_,.nil,ks,_=>by cases ks
 | _,[],_,.cons _ _,ks,_=>by cases ks
 | _,q::r,_,@Paired.cons _ _ _ p e _ _ ⟨z1,_⟩ t,ks,pr=>by
  rw [Z0p,Z0p] at ks;injection ks with k1 k2;rw [Z0p] at pr
  cases pr with
  | cons a pr =>
   obtain ⟨b,e1,e2⟩:=B6p a;exact .cons ⟨k1.trans z1,(i06 b e1 ((A0t e2).1) ((A0t e2).2))⟩ (D4i t k2 pr)
abbrev C9n (kvs:List (Key×V)) (is:List Int):Prop:=Paired (λ(p:Key×V) (i:Int)=>p.2= .int i) kvs is
theorem C1n {H:Hp}:∀{kvs:List (Key×V)} {is:List Int},C9n kvs is->Paired (λ(a:Key×V) (x:PyData)=>Rep H a.2 x/\PyData.depth x<=1/\cnt x<=100000) kvs (is.map PyData.int)
 | _,_,.nil=> .nil
 | _,_,.cons a t=> .cons (i00 (by rw [a];exact .int _) (by simp [PyData.depth]) (by simp [cnt])) (C1n t)
theorem C6g {S:Addr->Prop} {H:Hp}:∀{kvs kvs':List (Key×V)} {is:List Int},C9n kvs is->kvs'.map (·.1)=kvs.map (·.1)->Paired (λ(b:Key×V) (x:PyData)=>Rep (A1a S H) b.2 x) kvs' (is.map PyData.int)->kvs'=kvs
 | _,[],_,.nil,_,_=>rfl
 | _,_::_,_,.nil,ks,_=>by cases ks
 | _,[],_,.cons _ _,ks,_=>by cases ks
 | _,q::r,_,@Paired.cons _ _ _ p i _ _ a t,ks,pr=>by
  rw [Z0p,Z0p] at ks;injection ks with k1 k2;rw [Z0p] at pr
  cases pr with
  | cons b pr =>
   rw [C6g t k2 pr];have hb:=C1c b;have:q=p:=Prod.ext k1 (hb.trans a.symm);rw [this]
def C5h (A:Adr):Sp:=λvs H Q _=>∃(p dx l m:Addr) (n:V) (x:Str) (ys zs:List Str),vs=[.ref p,.str x,.ref l,.ref m,n]/\H p=some (.ins A.aw dx [])/\H l=some (.lst (ys.map V.str))/\H m=some (.lst (zs.map V.str))/\ys.length<=1000/\zs.length<=1000/\
 ∀(c u:Addr) (H':Hp),H c=none->H u=none->H' p=some (.ins A.aw dx [("name",.str x),("axes",.ref c),("sums",.ref u),("term",n)])->H' c=some (.lst (ys.map V.str))->H' u=some (.lst (zs.map V.str))->KB p H H'->Q .non H'
abbrev clo (A:Adr) (dx:Addr) (wh:Int) (l a tb ln o:Addr):HO:= .ins A.am dx [("wheel",.int wh),("lengths",.ref l),("arrays",.ref a),("tables",.ref tb),("lines",.ref ln),("outs",.ref o)]
def C9q (A:Adr):Sp:=λvs H Q _=>∃(p dx ld ad tl lv ol:Addr) (wh:Int) (lk ak:List (Key×V)) (is:List Int) (es:List (Str×List Str)) (tb os:List Str) (xs:List V) (S:Addr->Prop),vs=[.ref p,.int wh,.ref ld,.ref ad,.ref tl,.ref lv,.ref ol]/\H p=some (.ins A.am dx [])/\
 H ld=some (.dK lk)/\C9n lk is/\lk.length<=1000/\H ad=some (.dK ak)/\AR S H ak es/\es.length<=1000/\(∀e∈es,e.2.length<=100)/\H tl=some (.lst (tb.map V.str))/\tb.length<=1000/\H lv=some (.lst xs)/\xs.length<=1000/\(∀x∈xs,∃a dx fs,x= .ref a/\a≠p/\H a=some (.ins A.aw dx fs))/\H ol=some (.lst (os.map V.str))/\os.length<=1000/\
 ∀(l' a' t' v' o':Addr) (ak':List (Key×V)) (H':Hp),H' p=some (clo A dx wh l' a' t' v' o')->H l'=none->H' l'=some (.dK lk)->H a'=none->H' a'=some (.dK ak')->AR (λb=>H b=none) H' ak' es->H t'=none->H' t'=some (.lst (tb.map V.str))->H v'=none->H' v'=some (.lst xs)->H o'=none->H' o'=some (.lst (os.map V.str))->KB p H H'->Q .non H'
def C9a (A:Adr):Sp:=λvs H Q _=>∃(p dx l:Addr) (n:V) (x:Str) (ys:List Str),vs=[.ref p,.str x,.ref l,n]/\H p=some (.ins A.c8 dx [])/\H l=some (.lst (ys.map V.str))/\ys.length<=1000/\
 ∀(c:Addr) (H':Hp),H c=none->H' p=some (.ins A.c8 dx [("name",.str x),("axes",.ref c),("term",n)])->H' c=some (.lst (ys.map V.str))->(∀b o,b≠p->H b=some o->H' b=some o)->Q .non H'
def C9c (A:Adr):Sp:=λvs H Q _=>∃(p dx a t l o:Addr) (wh:Int) (ax:List (Str×Int)) (tb:List (Str×List Str)) (xs:List V) (os:List Str),vs=[.ref p,.int wh,.ref a,.ref t,.ref l,.ref o]/\H p=some (.ins A.af dx [])/\
 Rep H (.ref a) (A5b ax)/\ax.length<=1000/\Rep H (.ref t) (B4f tb)/\tb.length<=1000/\(∀e∈tb,e.2.length<=10)/\H l=some (.lst xs)/\xs.length<=1000/\(∀x∈xs,∃a dx fs,x= .ref a/\a≠p/\H a=some (.ins A.c8 dx fs))/\H o=some (.lst (os.map V.str))/\os.length<=1000/\
 ∀(a' t' l' o':Addr) (H':Hp),H' p=some (.ins A.af dx [("wheel",.int wh),("axes",.ref a'),("tables",.ref t'),("lets",.ref l'),("outs",.ref o')])->Rep H' (.ref a') (A5b ax)->Rep H' (.ref t') (B4f tb)->H' l'=some (.lst xs)->H' o'=some (.lst (os.map V.str))->KB p H H'->Q .non H'
def C6j (A:Adr):Sp:=λvs H Q _=>∃(p dx:Addr) (v:V),vs=[.ref p,v]/\H p=some (.ins A.ao dx [])/\∀(l:Addr) (H':Hp),H l=none->H' p=some (.ins A.ao dx [("known",v),("lines",.ref l),("lifts",.int 0)])->H' l=some (.lst [])->KB p H H'->Q .non H'
def D4e (A:Adr):Sp:=λvs H Q _=>∃(p:Addr) (wh:Int) (ax:List (Str×Int)) (tb:List (Str×List Str)) (ls:List Lt) (os:List Str),vs=[.ref p]/\C8l A H p wh ax tb ls os/\ax.length<=100/\∀(q:Addr) (H':Hp),H q=none->A1f H H'->H' q=some (.lst ((ax.map (·.1)).map V.str))->Q (.ref q) H'
def D5b (A:Adr):Sp:=λvs H Q _=>∃(p:Addr) (wh:Int) (ax:List (Str×Int)) (tb:List (Str×List Str)) (ls:List Lt) (os:List Str),vs=[.ref p]/\C8l A H p wh ax tb ls os/\tb.length<=100/\∀(q:Addr) (H':Hp),H q=none->A1f H H'->H' q=some (.lst ((tb.map (·.1)).map V.str))->Q (.ref q) H'
def A3t (ax:List (Str×Int)):List (Key×V):=ax.map λe=>(Sum.inr e.1,V.int e.2)
theorem D4x {H:Hp}:∀{ax:List (Str×Int)} {xs:List V},A4s H xs (ax.map B0v)->PL H xs (A3t ax)
 | [],_,r=>by cases r;exact .nil
 | e::ax,_,r=>by
  rw [Z0p] at r
  cases r with
  | cons a r =>
   obtain ⟨b,rfl,eb⟩:=D4t a;exact .cons (i02 b rfl eb) (D4x r)
theorem D6d {H:Hp}:∀{tb:List (Str×List Str)} {xs:List V},A4s H xs (tb.map C3u)->∃kvs,PL H xs kvs/\AR (λ_=>True) H kvs tb
 | [],_,r=>by cases r;exact i02 [] .nil .nil
 | e::tb,_,r=>by
  rw [Z0p] at r
  cases r with
  | cons a r =>
   obtain ⟨b,c,rfl,eb,ec⟩:=D6e a;obtain ⟨kvs,h1,h2⟩:=D6d r;exact i02 ((Sum.inr e.1,.ref c)::kvs) (.cons (i02 b rfl eb) h1) (.cons ⟨rfl,(i06 c rfl True.intro ec)⟩ h2)
theorem B9y (n:(ws.map (·.1)).Nodup):A6b [] ws=ws:=by
 have key:∀i,i<=ws.length->A6b [] (ws.take i)=ws.take i:=by
  intro i
  induction i with
  | zero=>intro _;rfl
  | succ i ih =>
   intro hi;have e:ws[i]? =some ws[i]:=Z0b (by lia);rw [Z14,e,Z2f,B9q,ih (by lia)];exact B2g (k:=ws[i].1) (v:=ws[i].2) n e (ws.take i) rfl ws[i].2
 have:=key ws.length (Z09 _)
 rwa [Z18] at this
theorem D2g (n:(es.map (·.1)).Nodup) (h:es[i]? =some e) (ks:ws.map (·.1)=(es.take i).map λe=>(Sum.inr e.1:Key)) (u:V):B1n ws (Sum.inr e.1) u=ws++[(Sum.inr e.1,u)]:=by
 have nd:((es.map λe=>((Sum.inr e.1:Key),V.non)).map (·.1)).Nodup:=by
  rw [List.map_map];have:(es.map ((λx=>x.1)∘λe=>((Sum.inr e.1:Key),V.non)))=(es.map (·.1)).map (Sum.inr:Str->Key):=by rw [List.map_map];rfl
  rw [this];exact List.Pairwise.map _ (λa b h z=>h (by injection z)) n
 exact B2g (v:=V.non) nd (by rw [Z1z,h];rfl) ws (by rw [ks,<-List.map_take,List.map_map];rfl) u
def D5i (A:Adr):Sp:=λvs H Q _=>∃(p:Addr) (wh:Int) (ax:List (Str×Int)) (tb:List (Str×List Str)) (ls:List Lt) (os:List Str),vs=[.ref p]/\C8l A H p wh ax tb ls os/\(ax.map (·.1)).Nodup/\∀q,H q=none->Q (.ref q) (upd H q (.dK (A3t ax)))
theorem B1t (T:Txt K mg t):FP P w mg base T.ia 5 (C5h t):=by
 have Ga0:= @C1z P w K mg base t T;refine T.ia.F.ok B6y (λvs H Q E h=> ?_) λ_ A _ s H _ Q E hr h=> ?_
 ·refine e08 h ?_;clear h;rintro p dx l m n ⟨x,ys,zs,rfl,_⟩;rfl
 ·refine e08 h ?_;clear h;rintro p dx l m n ⟨x,ys,zs,rfl,hp,hl,hm,ly,lz,k⟩;obtain ⟨c2,c3⟩:=A6t ys;obtain ⟨d2,d3⟩:=A6t zs;have lp:l≠p:=A3a hl hp (by intro z;cases z);have mp:m≠p:=A3a hm hp (by intro z;cases z);have e1:∀v:V,A4h "axes" v [("name",.str x)]=([("name",.str x),("axes",v)]:List (Str×V)):=λv=>by rw [A1j (by decide +kernel),A1p]
  have e2:∀u v:V,A4h "sums" v [("name",.str x),("axes",u)]=([("name",.str x),("axes",u),("sums",v)]:List (Str×V)):=λu v=>by rw [A1j (by decide +kernel),A1j (by decide +kernel),A1p]
  have e3:∀u1 u v:V,A4h "term" v [("name",.str x),("axes",u1),("sums",u)]=([("name",.str x),("axes",u1),("sums",u),("term",v)]:List (Str×V)):=λu1 u v=>by rw [A1j (by decide +kernel),A1j (by decide +kernel),A1j (by decide +kernel),A1p]
  refine i02 _ (@A0c _ _ _ _ _ (A2g (pv 0) (pv 1) rfl) (@A0c _ _ _ _ _ (A2g (pv 0) (pcl Ga0 hr T.ai (@A0a _ _ _ _ _ (pv 2) A0d rfl)) rfl) (@A0c _ _ _ _ _ (A2g (pv 0) (pcl Ga0 hr T.ai (@A0a _ _ _ _ _ (pv 3) A0d rfl)) rfl) (@A0g _ _ _ (A2g (pv 0) (pv 4) rfl))))) (i18 _ rfl _ rfl p _ dx [] rfl hp T.c_ T.gb (by decide) ?_);rw [A1p];have k1:KB p H (upd H p (.ins t.aw dx [("name",.str x)])):=KB.refl.upd;refine i02 _ rfl (.inl (.inl (.inl (i0o (.ref l) (A8v ys) rfl (A9s (k1 _ _ lp hl)) (by lia) (by lia) λv' H2 s2 rp2=> ?_))));have hp2:=s2 _ _ (A0b (H:=H) (a:=p));obtain ⟨c,rfl,ec⟩:=B6p rp2;obtain ⟨hc1,ec⟩:=A0t ec;have hcn:H c=none:=k1.free A0b hc1;have cp:c≠p:=λz=>by subst z;rw [hp] at hcn;cases hcn
  refine i12 _ rfl p _ dx _ rfl hp2 T.c_ T.jt (by show 1<1000;decide) ?_;rw [e1];have k2:KB p H (upd H2 p (.ins t.aw dx [("name",.str x),("axes",.ref c)])):=(k1.trans (KB.of s2)).upd;refine i02 _ rfl (.inl (.inl (.inl (i0o (.ref m) (A8v zs) rfl (A9s (k2 _ _ mp hm)) (by lia) (by lia) λv'' H3 s3 rp3=> ?_))));have hp3:=s3 _ _ (A0b (H:=H2) (a:=p));obtain ⟨u,rfl,eu⟩:=B6p rp3;obtain ⟨hu1,eu⟩:=A0t eu;have hun:H u=none:=k2.free A0b hu1;have up:u≠p:=λz=>by subst z;rw [hp] at hun;cases hun
  refine i12 _ rfl p _ dx _ rfl hp3 T.c_ T.nw (by show 2<1000;decide) ?_;rw [e2];refine i18 _ rfl _ rfl p _ dx _ rfl A0b T.c_ T.o_ (by show 3<1000;decide) ?_;show Q V.non (upd (upd H3 p _) p _);rw [A5t,e3];exact k c u _ hcn hun A0b (by rw [A0k cp];exact s3 _ _ (by rw [A0k cp];exact ec)) (by rw [A0k up];exact eu) (k2.trans (KB.of s3)).upd
theorem B5v (T:Txt K mg t):FP P w mg base T.jc 5 (C9q t):=by
 have Ga0:= @C1z P w K mg base t T;refine T.jc.F.ok B5t (λvs H Q E h=> ?_) λ_ A _ s H _ Q E hr h=> ?_
 ·refine e0f h ?_;clear h;rintro p dx ld ad tl lv ol wh lk ⟨ak,is,es,tb,os,xs,S,rfl,_⟩;rfl
 ·refine e0f h ?_;clear h;rintro p dx ld ad tl lv ol wh lk ⟨ak,is,es,tb,os,xs,S,rfl,hp,hld,il,ll,had,ar,les,les2,htl,ltb,hlv,lxs,hxs,hol,los,k⟩;have f1:∀v:V,A4h "lengths" v [("wheel",.int wh)]=([("wheel",.int wh),("lengths",v)]:List (Str×V)):=λv=>by rw [A1j (by decide +kernel),A1p]
  have f2:∀u v:V,A4h "arrays" v [("wheel",.int wh),("lengths",u)]=([("wheel",.int wh),("lengths",u),("arrays",v)]:List (Str×V)):=λu v=>by rw [A1j (by decide +kernel),A1j (by decide +kernel),A1p]
  have f3:∀u1 u v:V,A4h "tables" v [("wheel",.int wh),("lengths",u1),("arrays",u)]=([("wheel",.int wh),("lengths",u1),("arrays",u),("tables",v)]:List (Str×V)):=λu1 u v=>by rw [A1j (by decide +kernel),A1j (by decide +kernel),A1j (by decide +kernel),A1p]
  have f4:∀u1 u2 u v:V,A4h "lines" v [("wheel",.int wh),("lengths",u1),("arrays",u2),("tables",u)]=([("wheel",.int wh),("lengths",u1),("arrays",u2),("tables",u),("lines",v)]:List (Str×V)):=λu1 u2 u v=>by rw [A1j (by decide +kernel),A1j (by decide +kernel),A1j (by decide +kernel),A1j (by decide +kernel),A1p]
  have f5:∀u1 u2 u3 u v:V,A4h "outs" v [("wheel",.int wh),("lengths",u1),("arrays",u2),("tables",u3),("lines",u)]=([("wheel",.int wh),("lengths",u1),("arrays",u2),("tables",u3),("lines",u),("outs",v)]:List (Str×V)):=λu1 u2 u3 u v=>by rw [A1j (by decide +kernel),A1j (by decide +kernel),A1j (by decide +kernel),A1j (by decide +kernel),A1j (by decide +kernel),A1p]
  have np:∀{b:Addr} {u:HO},H b=some u->(∀C d fs,u≠.ins C d fs)->b≠p:=λe n z=>by subst z;rw [hp] at e;cases e;exact n _ _ _ rfl
  have nn:∀{b:Addr},H b=none->b≠p:=λe z=>by subst z;rw [hp] at e;cases e
  refine i02 _ (@A0c _ _ _ _ _ (A2g (pv 0) (pv 1) rfl) (@A0c _ _ _ _ _ (A2g (pv 0) (pcl Ga0 hr T.ai (@A0a _ _ _ _ _ (pv 2) A0d rfl)) rfl) (@A0c _ _ _ _ _ (A2g (pv 0) (pcl Ga0 hr T.ai (@A0a _ _ _ _ _ (pv 3) A0d rfl)) rfl) (@A0c _ _ _ _ _ (A2g (pv 0) (pcl Ga0 hr T.ai (@A0a _ _ _ _ _ (pv 4) A0d rfl)) rfl) (@A0c _ _ _ _ _ (A2g (pv 0) (pcl Ga0 hr T.ai (@A0a _ _ _ _ _ (pv 5) A0d rfl)) rfl) (@A0g _ _ _ (A2g (pv 0) (pcl Ga0 hr T.ai (@A0a _ _ _ _ _ (pv 6) A0d rfl)) rfl))))))) (i18 _ rfl _ rfl p _ dx [] rfl hp T.cz T.sn (by decide) ?_);rw [A1p];obtain ⟨G0,hG0⟩:∃G0,G0=upd H p (.ins t.am dx [("wheel",.int wh)]):=⟨_,rfl⟩;rw [<-hG0];have p0:G0 p=some (.ins t.am dx [("wheel",.int wh)]):=by rw [hG0];exact A0b
  have k0:KB p H G0:=by rw [hG0];exact KB.refl.upd
  refine i02 _ rfl (.inr (i0s ld lk (is.map PyData.int) rfl (k0 _ _ (np hld (by intros;intro z;cases z)) hld) (by lia) (C1n il) λl' lk' H1 hl' s1 h1 ks cp=> ?_));have ek:=C6g il ks cp;subst ek;have nl:H l'=none:=k0.free p0 hl';refine i12 _ rfl p _ dx _ rfl (s1 _ _ p0) T.cz T.qc (by show 1<1000;decide) ?_;rw [f1];obtain ⟨G1,hG1⟩:∃G1,G1=upd H1 p (.ins t.am dx [("wheel",.int wh),("lengths",.ref l')]):=⟨_,rfl⟩;rw [<-hG1];have p1:G1 p=some (.ins t.am dx [("wheel",.int wh),("lengths",.ref l')]):=by rw [hG1];exact A0b
  have k1:KB p H G1:=by rw [hG1];exact (k0.trans (KB.of s1)).upd
  have gl1:G1 l'=some (.dK lk'):=by rw [hG1,A0k (nn nl)];exact h1
  have ar1:AR (λb=>S b) G1 ak es:=ar.imp λb ys z e=>⟨z,k1 _ _ (np e (by intros;intro z;cases z)) e⟩;refine i02 _ rfl (.inr (i0s ad ak _ rfl (k1 _ _ (np had (by intros;intro z;cases z)) had) (by have:=Paired.length ar;lia) (ar1.src les2) λa' ak' H2 ha' s2 h2 ks2 cp2=> ?_));have arc:=D4i ar1 ks2 cp2;have na:H a'=none:=k1.free p1 ha';refine i12 _ rfl p _ dx _ rfl (s2 _ _ p1) T.cz T.f_ (by show 2<1000;decide) ?_;rw [f2];obtain ⟨G2,hG2⟩:∃G2,G2=upd H2 p (.ins t.am dx [("wheel",.int wh),("lengths",.ref l'),("arrays",.ref a')]):=⟨_,rfl⟩;rw [<-hG2];have p2:G2 p=some (.ins t.am dx [("wheel",.int wh),("lengths",.ref l'),("arrays",.ref a')]):=by rw [hG2];exact A0b
  have j2:KB p G1 G2:=by rw [hG2];exact (KB.of s2).upd
  have k2:=k1.trans j2;have ga2:G2 a'=some (.dK ak'):=by rw [hG2,A0k (nn na)];exact h2
  have ar2:AR (λb=>H b=none) G2 ak' es:=arc.imp λb ys z e=>⟨k1.free p1 z,by rw [hG2,A0k (nn (k1.free p1 z))];exact e⟩;obtain ⟨c2,c3⟩:=A6t tb;refine i02 _ rfl (.inl (.inl (.inl (i0o (.ref tl) (A8v tb) rfl (A9s (k2 _ _ (np htl (by intros;intro z;cases z)) htl)) (by lia) (by lia) λvt H3 s3 rp3=> ?_))));obtain ⟨t',rfl,et⟩:=B6p rp3;obtain ⟨ht1,et⟩:=A0t et;have nt:H t'=none:=k2.free p2 ht1;refine i12 _ rfl p _ dx _ rfl (s3 _ _ p2) T.cz T.rh (by show 3<1000;decide) ?_;rw [f3];obtain ⟨G3,hG3⟩:∃G3,G3=upd H3 p (.ins t.am dx [("wheel",.int wh),("lengths",.ref l'),("arrays",.ref a'),("tables",.ref t')]):=⟨_,rfl⟩;rw [<-hG3];have p3:G3 p=some (.ins t.am dx [("wheel",.int wh),("lengths",.ref l'),("arrays",.ref a'),("tables",.ref t')]):=by rw [hG3];exact A0b
  have j3:KB p G2 G3:=by rw [hG3];exact (KB.of s3).upd
  have k3:=k2.trans j3;have gt3:G3 t'=some (.lst (tb.map V.str)):=by rw [hG3,A0k (nn nt)];exact et
  refine i02 _ rfl (.inl (.inr (i0o lv xs rfl (k3 _ _ (np hlv (by intros;intro z;cases z)) hlv) lxs (λx hx=> ?_) λv' H4 hv' s4 hv4=> ?_)))
  ·obtain ⟨b,db,fs,rfl,nb,eb⟩:=hxs x hx;exact i0e b db fs rfl (k3 _ _ nb eb)
  have nv:H v'=none:=k3.free p3 hv';refine i12 _ rfl p _ dx _ rfl (s4 _ _ p3) T.cz T.gu (by show 4<1000;decide) ?_;rw [f4];obtain ⟨G4,hG4⟩:∃G4,G4=upd H4 p (.ins t.am dx [("wheel",.int wh),("lengths",.ref l'),("arrays",.ref a'),("tables",.ref t'),("lines",.ref v')]):=⟨_,rfl⟩;rw [<-hG4];have p4:G4 p=some (.ins t.am dx [("wheel",.int wh),("lengths",.ref l'),("arrays",.ref a'),("tables",.ref t'),("lines",.ref v')]):=by rw [hG4];exact A0b
  have j4:KB p G3 G4:=by rw [hG4];exact (KB.of s4).upd
  have k4:=k3.trans j4;have gv4:G4 v'=some (.lst xs):=by rw [hG4,A0k (nn nv)];exact hv4
  obtain ⟨o2,o3⟩:=A6t os;refine i02 _ rfl (.inl (.inl (.inl (i0o (.ref ol) (A8v os) rfl (A9s (k4 _ _ (np hol (by intros;intro z;cases z)) hol)) (by lia) (by lia) λvo H5 s5 rp5=> ?_))));obtain ⟨o',rfl,eo⟩:=B6p rp5;obtain ⟨ho1,eo⟩:=A0t eo;have no:H o'=none:=k4.free p4 ho1;refine i12 _ rfl p _ dx _ rfl (s5 _ _ p4) T.cz T.v8 (by show 5<1000;decide) ?_;show Q V.non (upd H5 p _);rw [f5];have j5:KB p G4 (upd H5 p (clo t dx wh l' a' t' v' o')):=(KB.of s5).upd;have up:=λ{b:Addr} (hb:H b=none) {u:HO} (e:G4 b=some u)=>j5 _ _ (nn hb) e;exact k l' a' t' v' o' ak' _ A0b nl (up nl (j4 _ _ (nn nl) (j3 _ _ (nn nl) (j2 _ _ (nn nl) gl1)))) na (up na (j4 _ _ (nn na) (j3 _ _ (nn na) ga2))) (ar2.imp λb ys z e=>⟨z,up z (j4 _ _ (nn z) (j3 _ _ (nn z) e))⟩) nt (up nt (j4 _ _ (nn nt) gt3)) nv (up nv gv4) no (by rw [A0k (nn no)];exact eo) (k4.trans j5)
theorem C1b (T:Txt K mg t):FP P w mg base T.ni 5 (C9a t):=by
 have Ga0:= @C1z P w K mg base t T;refine T.ni.F.ok C0a (λvs H Q E h=> ?_) λ_ A _ s H _ Q E hr h=> ?_
 ·refine e08 h ?_;clear h;rintro p dx l n x ⟨ys,rfl,_⟩;rfl
 ·refine e08 h ?_;clear h;rintro p dx l n x ⟨ys,rfl,hp,hl,hy,k⟩;obtain ⟨c2,c3⟩:=A6t ys;have lp:l≠p:=A3a hl hp (by intro z;cases z);refine i02 _ (@A0c _ _ _ _ _ (A2g (pv 0) (pv 1) rfl) (@A0c _ _ _ _ _ (A2g (pv 0) (pcl Ga0 hr T.ai (@A0a _ _ _ _ _ (pv 2) A0d rfl)) rfl) (@A0g _ _ _ (A2g (pv 0) (pv 3) rfl)))) (i18 _ rfl _ rfl p _ dx [] rfl hp T.kg T.rf (by decide) ?_);refine i02 _ rfl (.inl (.inl (.inl (i0o (.ref l) (A8v ys) rfl ((A9s hl).ins hp) (by lia) (by lia) λv' H2 s2 rp2=> ?_))));have hp2:=s2 _ _ (A0b (H:=H) (a:=p));obtain ⟨c,rfl,ec⟩:=B6p rp2;obtain ⟨hc0,ec⟩:=A0t ec
  have hcn:H c=none:=by
   by_cases z:c=p
   ·subst z;rw [A0b] at hc0;cases hc0
   ·rw [A0k z] at hc0;exact hc0
  have cp:c≠p:=λz=>by subst z;rw [hp] at hcn;cases hcn
  refine i12 _ rfl p _ dx _ rfl hp2 T.kg T.q_ (by show 1<1000;decide) ?_;refine i18 _ rfl _ rfl p _ dx _ rfl A0b T.kg T.kh (by show 2<1000;decide) ?_;show Q V.non (upd (upd H2 p _) p (.ins t.c8 dx (A4h "term" n (A4h "axes" (.ref c) (A4h "name" (.str x) [])))));have e1:A4h "axes" (V.ref c) (A4h "name" (.str x) [])=([("name",.str x),("axes",.ref c)]:List (Str×V)):=by rw [A1p,A1j (by decide +kernel),A1p]
  have e2:A4h "term" n ([("name",.str x),("axes",.ref c)]:List (Str×V))=([("name",.str x),("axes",.ref c),("term",n)]:List (Str×V)):=by rw [A1j (by decide +kernel),A1j (by decide +kernel),A1p]
  rw [A5t,e1,e2];refine k c _ hcn A0b (by rw [A0k cp];exact ec) λb o hb e=> ?_;rw [A0k hb];exact s2 _ _ (by rw [A0k hb];exact e)
theorem A2i {A:Addr} {B:Addr} {b:Bool} (h:kitOne K (.ref A) (.ref B)=some b):∀u,A3j (.ref B) u->kitOne K (.ref A) u=some b:=λu z=>by
 cases (show u=Value.ref B from z)
 exact h
theorem B2s (T:Txt K mg t):FP P w mg base T.gy 5 (C9c t):=by
 have Ga0:= @C1z P w K mg base t T;refine T.gy.F.ok B2z (λvs H Q E h=> ?_) λ_ A _ s H _ Q E hr h=> ?_
 ·refine e0f h ?_;clear h;rintro p dx a tt l o wh ax tb ⟨xs,os,rfl,_⟩;rfl
 ·refine e0f h ?_;clear h;rintro p dx a tt l o wh ax tb ⟨xs,os,rfl,hp,ra,la,rt,lt,lt2,hl,ll,hx,ho,lo,k⟩;have a2:=C8d ax;have a3:=D0v (ix:=ax);obtain ⟨t2,t3⟩:=C9r tb lt2;obtain ⟨o2,o3⟩:=A6t os;have f1:∀v:V,A4h "axes" v [("wheel",.int wh)]=([("wheel",.int wh),("axes",v)]:List (Str×V)):=λv=>by rw [A1j (by decide +kernel),A1p]
  have f2:∀u v:V,A4h "tables" v [("wheel",.int wh),("axes",u)]=([("wheel",.int wh),("axes",u),("tables",v)]:List (Str×V)):=λu v=>by rw [A1j (by decide +kernel),A1j (by decide +kernel),A1p]
  have f3:∀u1 u v:V,A4h "lets" v [("wheel",.int wh),("axes",u1),("tables",u)]=([("wheel",.int wh),("axes",u1),("tables",u),("lets",v)]:List (Str×V)):=λu1 u v=>by rw [A1j (by decide +kernel),A1j (by decide +kernel),A1j (by decide +kernel),A1p]
  have f4:∀u1 u2 u v:V,A4h "outs" v [("wheel",.int wh),("axes",u1),("tables",u2),("lets",u)]=([("wheel",.int wh),("axes",u1),("tables",u2),("lets",u),("outs",v)]:List (Str×V)):=λu1 u2 u v=>by rw [A1j (by decide +kernel),A1j (by decide +kernel),A1j (by decide +kernel),A1j (by decide +kernel),A1p]
  have np:∀{b:Addr} {u:HO},H b=some u->(∀C d fs,u≠.ins C d fs)->b≠p:=λe n z=>by subst z;rw [hp] at e;cases e;exact n _ _ _ rfl
  have rp:∀{v:V} {d:PyData} {G:Hp},KB p H G->Rep H v d->Rep G v d:=λkb r=>r.imp2 (λq ys z=>kb _ _ (np z (by intros;intro z;cases z)) z) λq ys z=>kb _ _ (np z (by intros;intro z;cases z)) z;have rq:∀{v:V} {d:PyData} {G G':Hp} {C dd:Addr} {fs:List (Str×V)},KB p G G'->G p=some (.ins C dd fs)->Rep G v d->Rep G' v d:=λkb hG r=>r.imp2 (λq ys z=>kb _ _ (A3a z hG (by intro w;cases w)) z) λq ys z=>kb _ _ (A3a z hG (by intro w;cases w)) z;refine i02 _ (@A0c _ _ _ _ _ (A2g (pv 0) (pv 1) rfl) (@A0c _ _ _ _ _ (A2g (pv 0) (pcl Ga0 hr T.ai (@A0a _ _ _ _ _ (pv 2) A0d rfl)) rfl) (@A0c _ _ _ _ _ (A2g (pv 0) (pcl Ga0 hr T.ai (@A0a _ _ _ _ _ (pv 3) A0d rfl)) rfl) (@A0c _ _ _ _ _ (A2g (pv 0) (pcl Ga0 hr T.ai (@A0a _ _ _ _ _ (pv 4) A0d rfl)) rfl) (@A0g _ _ _ (A2g (pv 0) (pcl Ga0 hr T.ai (@A0a _ _ _ _ _ (pv 5) A0d rfl)) rfl)))))) (i18 _ rfl _ rfl p _ dx [] rfl hp T.a_ T.j7 (by decide) ?_);rw [A1p];obtain ⟨G0,hG0⟩:∃G0,G0=upd H p (.ins t.af dx [("wheel",.int wh)]):=⟨_,rfl⟩;rw [<-hG0];have p0:G0 p=some (.ins t.af dx [("wheel",.int wh)]):=by rw [hG0];exact A0b
  have k0:KB p H G0:=by rw [hG0];exact KB.refl.upd
  refine i02 _ rfl (.inl (.inl (.inl (i0o (.ref a) (A5b ax) rfl (rp k0 ra) (by lia) (by lia) λva H1 s1 r1=> ?_))));obtain ⟨a',xa,rfl,ea,_⟩:=A5q (show Rep _ va (.list (ax.map B0v)) from r1);refine i12 _ rfl p _ dx _ rfl (s1 _ _ p0) T.a_ T.fz (by show 1<1000;decide) ?_;rw [f1];obtain ⟨G1,hG1⟩:∃G1,G1=upd H1 p (.ins t.af dx [("wheel",.int wh),("axes",.ref a')]):=⟨_,rfl⟩;rw [<-hG1];have p1:G1 p=some (.ins t.af dx [("wheel",.int wh),("axes",.ref a')]):=by rw [hG1];exact A0b
  have k1:KB p H G1:=by rw [hG1];exact (k0.trans (KB.of s1)).upd
  have ra1:Rep G1 (.ref a') (A5b ax):=by rw [hG1];exact rq (KB.refl.upd) (s1 _ _ p0) (r1.same A0j)
  refine i02 _ rfl (.inl (.inl (.inl (i0o (.ref tt) (B4f tb) rfl (rp k1 rt) (by lia) (by lia) λvt H2 s2 r2=> ?_))));obtain ⟨t',xt,rfl,et,_⟩:=A5q (show Rep _ vt (.list (tb.map C3u)) from r2);refine i12 _ rfl p _ dx _ rfl (s2 _ _ p1) T.a_ T.dy (by show 2<1000;decide) ?_;rw [f2];obtain ⟨G2,hG2⟩:∃G2,G2=upd H2 p (.ins t.af dx [("wheel",.int wh),("axes",.ref a'),("tables",.ref t')]):=⟨_,rfl⟩;rw [<-hG2];have p2:G2 p=some (.ins t.af dx [("wheel",.int wh),("axes",.ref a'),("tables",.ref t')]):=by rw [hG2];exact A0b
  have j2:KB p G1 G2:=by rw [hG2];exact (KB.of s2).upd
  have k2:=k1.trans j2;have rt2:Rep G2 (.ref t') (B4f tb):=by rw [hG2];exact rq (KB.refl.upd) (s2 _ _ p1) (r2.same A0j)
  refine i02 _ rfl (.inl (.inl (.inr (i0o l xs rfl (k2 _ _ (np hl (by intros;intro z;cases z)) hl) ll (λx hxx=> ?_) λl' H3 hl' s3 hl3=> ?_))))
  ·obtain ⟨b,db,fs,rfl,nb,eb⟩:=hx x hxx;exact i0e b db fs rfl (k2 _ _ nb eb)
  have lp:l'≠p:=λz=>by subst z;rw [p2] at hl';cases hl'
  refine i12 _ rfl p _ dx _ rfl (s3 _ _ p2) T.a_ T.di (by show 3<1000;decide) ?_;rw [f3];obtain ⟨G3,hG3⟩:∃G3,G3=upd H3 p (.ins t.af dx [("wheel",.int wh),("axes",.ref a'),("tables",.ref t'),("lets",.ref l')]):=⟨_,rfl⟩;rw [<-hG3];have p3:G3 p=some (.ins t.af dx [("wheel",.int wh),("axes",.ref a'),("tables",.ref t'),("lets",.ref l')]):=by rw [hG3];exact A0b
  have j3:KB p G2 G3:=by rw [hG3];exact (KB.of s3).upd
  have k3:=k2.trans j3;have gl3:G3 l'=some (.lst xs):=by rw [hG3,A0k lp];exact hl3
  refine i02 _ rfl (.inl (.inl (.inl (i0o (.ref o) (A8v os) rfl (A9s (k3 _ _ (np ho (by intros;intro z;cases z)) ho)) (by lia) (by lia) λvo H4 s4 r4=> ?_))));obtain ⟨o',rfl,eo⟩:=B6p r4;have eo:=(A0t eo).2;refine i12 _ rfl p _ dx _ rfl (s4 _ _ p3) T.a_ T.jw (by show 4<1000;decide) ?_;show Q V.non (upd H4 p _);rw [f4];have j4:KB p G3 (upd H4 p (.ins t.af dx [("wheel",.int wh),("axes",.ref a'),("tables",.ref t'),("lets",.ref l'),("outs",.ref o')])):=(KB.of s4).upd;exact k a' t' l' o' _ A0b (rq ((j2.trans j3).trans j4) p1 ra1) (rq (j3.trans j4) p2 rt2) (j4 _ _ lp gl3) (by rw [A0k (A3a eo (s4 _ _ p3) (by intro z;cases z))];exact eo) (k3.trans j4)
theorem B4e (T:Txt K mg t):FP P w mg base T.i_ 1 (C6j t):=by
 refine T.i_.F.ok B4o (by walk_at "ln") λ_ A _ s H _ Q E hr h=> ?_
 ·obtain ⟨p,dx,v,rfl,hp,k⟩:=h;have f1:∀u:V,A4h "lines" u [("known",v)]=([("known",v),("lines",u)]:List (Str×V)):=λu=>by rw [A1j (by decide +kernel),A1p]
  have f2:∀u z:V,A4h "lifts" z [("known",v),("lines",u)]=([("known",v),("lines",u),("lifts",z)]:List (Str×V)):=λu z=>by rw [A1j (by decide +kernel),A1j (by decide +kernel),A1p]
  refine i02 _ (@A0c _ _ _ _ _ (A2g (pv 0) (pv 1) rfl) (@A0c _ _ _ _ _ (A2g (pv 0) (@A1q _ _ _ _ A0d) rfl) (@A0g _ _ _ (A2g (pv 0) A0e rfl)))) (i18 _ rfl _ rfl p _ dx [] rfl hp T.be T.jy (by decide) ?_);rw [A1p];refine ⟨A0q rfl,λl hl=>(i12 _ rfl p _ dx _ rfl ((A0f hl) _ _ A0b) T.be T.df (by show 1<1000;decide) ?_)⟩;rw [f1];have k1:KB p H (upd H p (.ins t.ao dx [("known",v)])):=KB.refl.upd;have l0:H l=none:=k1.free A0b hl;have lp:l≠p:=λz=>by subst z;rw [A0b] at hl;cases hl
  refine i12 _ rfl p _ dx _ rfl A0b T.be T.fm (by show 2<1000;decide) ?_;show Q V.non (upd (upd _ p _) p _);rw [A5t,f2];exact k l _ l0 A0b (by rw [A0k lp];exact A0b) (k1.trans (KB.of (A0f hl))).upd
theorem B6d (T:Txt K mg t):FO P w base T.ji 1 (D4e t):=by
 refine T.ji.F.ok B6o (λvs H Q E h=> ?_) λ_ A _ s H _ Q E hr h=> ?_
 ·refine e08 h ?_;clear h;rintro p wh ax tb ls ⟨os,rfl,_⟩;rfl
 ·refine e08 h ?_;clear h;rintro p wh ax tb ls ⟨os,rfl,pr,la,k⟩;refine e08 pr.ob ?_;rintro dx a tt l o ⟨e,ra,_⟩;obtain ⟨a2,xs,ea,hx,rs⟩:=A5q (show Rep H (.ref a) (.list (ax.map B0v)) from ra);cases ea;have lxs:=rs.len;rw [Z08] at lxs;refine i02 _ (@A0g _ _ _ (@A0u _ _ _ _ (A3u (N':=["name","length"]) (ix:=(List.replicate 2 none)) (g:=D0w K 2 (A8r (A5w 0) (A8r (A5w 1) D0l))) rfl (A2p rfl (by decide +kernel) (by decide +kernel)) (A2n rfl) (A2q (A1i (pv 0) rfl)) (λ_ _ _ _=>(A3f (n:=2) rfl (A0v (A0n (i:=0) B7g rfl (.inl rfl)) (A0v (A0n (i:=1) B7g rfl (.inl rfl)) A2k)))) (λ_ _ _ _=>(pv 0))))) ?_;refine i16 _ rfl p _ dx _ _ rfl e T.a_ T.fz (by walk_at "lk") (i06 a rfl ⟨_,SqL.of hx⟩ λD hD=> ?_);refine A2w (K:=K) (a:=a) (D:=D) (xs:=xs) (λi zs H2=>A1f H H2/\H2 D=some (.lst zs)/\zs=((ax.take i).map (·.1)).map V.str) (i00 (A0f hD) A0b rfl) (λi zs H2 ⟨s2,_⟩=>SqL.of (s2 _ _ hx)) ?_ ?_
  ·rintro i x zs H2 hy ⟨s2,hD2,rfl⟩;have hi:i<xs.length:=(Z03.mp hy).1;obtain ⟨te,hte,ry⟩:=C7p rs hy;obtain ⟨b,rfl,eb⟩:=D4t ry;refine i17 b _ rfl (SqT.of (s2 _ _ eb)) rfl _ _ rfl _ _ rfl rfl ?_;refine i01 True.intro _ (i0g rfl hD2 (A1l (by simp;lia)) (A0s s2 hD) A0b ?_);rw [Z14,hte,Z2f];simp
  ·rintro zs H2 ⟨s2,hD2,rfl⟩;rw [lxs,Z18] at hD2;exact k D H2 hD s2 hD2
theorem B4i (T:Txt K mg t):FO P w base T.iq 1 (D5b t):=by
 refine T.iq.F.ok B4c (λvs H Q E h=> ?_) λ_ A _ s H _ Q E hr h=> ?_
 ·refine e08 h ?_;clear h;rintro p wh ax tb ls ⟨os,rfl,_⟩;rfl
 ·refine e08 h ?_;clear h;rintro p wh ax tb ls ⟨os,rfl,pr,lt,k⟩;refine e08 pr.ob ?_;rintro dx a tt l o ⟨e,ra,rt,_⟩;obtain ⟨t2,xs,et,hx,rs⟩:=A5q (show Rep H (.ref tt) (.list (tb.map C3u)) from rt);cases et;have lxs:=rs.len;rw [Z08] at lxs;refine i02 _ (@A0g _ _ _ (@A0u _ _ _ _ (A3u (N':=["name","axes"]) (ix:=(List.replicate 2 none)) (g:=D0w K 2 (A8r (A5w 0) (A8r (A5w 1) D0l))) rfl (A2p rfl (by decide +kernel) (by decide +kernel)) (A2n rfl) (A2q (A1i (pv 0) rfl)) (λ_ _ _ _=>(A3f (n:=2) rfl (A0v (A0n (i:=0) B8i rfl (.inl rfl)) (A0v (A0n (i:=1) B8i rfl (.inl rfl)) A2k)))) (λ_ _ _ _=>(pv 0))))) ?_;refine i16 _ rfl p _ dx _ _ rfl e T.a_ T.dy (by walk_at "lk") (i06 tt rfl ⟨_,SqL.of hx⟩ λD hD=> ?_);refine A2w (K:=K) (a:=tt) (D:=D) (xs:=xs) (λi zs H2=>A1f H H2/\H2 D=some (.lst zs)/\zs=((tb.take i).map (·.1)).map V.str) (i00 (A0f hD) A0b rfl) (λi zs H2 ⟨s2,_⟩=>SqL.of (s2 _ _ hx)) ?_ ?_
  ·rintro i x zs H2 hy ⟨s2,hD2,rfl⟩;have hi:i<xs.length:=(Z03.mp hy).1;obtain ⟨te,hte,ry⟩:=C7p rs hy;obtain ⟨b,c,rfl,eb,ec⟩:=D6e ry;refine i17 b _ rfl (SqT.of (s2 _ _ eb)) rfl _ _ rfl _ _ rfl rfl ?_;refine i01 True.intro _ (i0g rfl hD2 (A1l (by simp;lia)) (A0s s2 hD) A0b ?_);rw [Z14,hte,Z2f];simp
  ·rintro zs H2 ⟨s2,hD2,rfl⟩;rw [lxs,Z18] at hD2;exact k D H2 hD s2 hD2
theorem B6g (T:Txt K mg t):FO P w base T.j8 1 (D5i t):=by
 refine T.j8.F.ok B5f (λvs H Q E h=> ?_) λ_ A _ s H _ Q E hr h=> ?_
 ·refine e08 h ?_;clear h;rintro p wh ax tb ls ⟨os,rfl,_⟩;rfl
 ·refine e08 h ?_;clear h;rintro p wh ax tb ls ⟨os,rfl,pr,nd,k⟩;refine e08 pr.ob ?_;rintro dx a tt l o ⟨e,ra,_⟩;obtain ⟨a2,xs,ea,hx,rs⟩:=A5q (show Rep H (.ref a) (.list (ax.map B0v)) from ra);cases ea
  have nk:((A3t ax).map (·.1)).Nodup:=by
   have:(A3t ax).map (·.1)=(ax.map (·.1)).map (Sum.inr:Str->Key):=by unfold A3t;rw [List.map_map,List.map_map];rfl
   rw [this];exact List.Pairwise.map _ (λa b h z=>h (by injection z)) nd
  refine i02 _ (@A0g _ _ _ (@A0u _ _ _ _ (A2a (B4x rfl) (by rfl) T.qi Z2q (@A0a _ _ _ _ _ (A1i (pv 0) rfl) A0d rfl)))) ?_;refine i16 _ rfl p _ dx _ _ rfl e T.a_ T.fz (by walk_at "lk") (i0p a xs _ rfl hx (D4x rs) λq hq=> ?_);rw [B9y nk];exact k q hq
def C4y (A:Adr):Sp:=λvs H Q _=>∃(p dx:Addr) (a b c:V),vs=[.ref p,a,b,c]/\H p=some (.ins A.aq dx [])/\Q .non (upd H p (.ins A.aq dx [("term",a),("sums",b),("guards",c)]))
def C4q (A:Adr):Sp:=λvs H Q _=>∃(p:V) (u:Tm) (s:List Str) (g:List Gd) (S:Addr->Prop),vs=[p]/\Fr S H/\A3h A (A1a S H) p (u,s,g)/\∀(q:Addr) (xs:List V) (H':Hp),H q=none->A1f H H'->H' q=some (.lst xs)->Paired (A3h A (A1a S H')) xs (B6u u s g)->Q (.ref q) H'
def C4i (A:Adr) (n:Nat):Sp:=λvs H Q _=>∃(p:V) (u:Tm) (s:List Str) (g:List Gd) (S:Addr->Prop),vs=[p]/\Fr S H/\A3h A (A1a S H) p (u,s,g)/\dep u<=n/\nod u<=1000/\∀(q:Addr) (xs:List V) (H':Hp),H q=none->A1f H H'->H' q=some (.lst xs)->Paired (A3h A (A1a S H')) xs (prT u s g)->Q (.ref q) H'
def C8b (A:Adr):Sp:=λvs H Q _=>∃(v:V) (u:Tm) (S:Addr->Prop),vs=[v]/\Fr S H/\Ob A (A1a S H) v u/\dep u<=40/\nod u<=1000/\∀(q:Addr) (xs:List V) (H':Hp),H q=none->A1f H H'->H' q=some (.lst xs)->Paired (A3h A (A1a S H')) xs (prT u [] [])->Q (.ref q) H'
theorem A5p {x dx:Addr} {u v:HO} (hx:H x=none) (hd:H dx=none):A1f H (upd (upd (upd H dx o) x u) x v):=A2h hx hd
theorem A8j (T:Txt K mg t):FP P w mg base T.bt 1 (C4y t):=by
 refine T.bt.F.ok B7e (λvs H Q E h=> ?_) λ_ A _ s H _ Q E hr h=> ?_
 ·refine e08 h ?_;clear h;rintro p dx a b c ⟨rfl,_⟩;rfl
 ·refine e08 h ?_;clear h;rintro p dx a b c ⟨rfl,hp,k⟩;have e1:A4h "sums" b (A4h "term" a [])=([("term",a),("sums",b)]:List (Str×V)):=by rw [A1p,A1j (by decide +kernel),A1p]
  have e2:A4h "guards" c ([("term",a),("sums",b)]:List (Str×V))=([("term",a),("sums",b),("guards",c)]:List (Str×V)):=by rw [A1j (by decide +kernel),A1j (by decide +kernel),A1p]
  refine i02 _ (@A0c _ _ _ _ _ (A2g (pv 0) (pv 1) rfl) (@A0c _ _ _ _ _ (A2g (pv 0) (pv 2) rfl) (@A0g _ _ _ (A2g (pv 0) (pv 3) rfl)))) (i18 _ rfl _ rfl p _ dx [] rfl hp T.az T.bo (by decide) (i18 _ rfl _ rfl p _ dx _ rfl A0b T.az T.bz (by show 1<1000;decide) ?_));rw [A5t,e1];refine i18 _ rfl _ rfl p _ dx _ rfl A0b T.az T.bp (by show 2<1000;decide) ?_;show Q V.non (upd (upd H p _) p _);rw [A5t,e2];exact k
theorem C5r (T:Txt K mg t) {dx:Addr} {k:Op3} {fs:List (Str×V)} (e:H a=some (.ins (A9w t k) dx fs)):B0p K H (.ref a) (.ref (A9w t k)):=by
 cases k with
 | plus=>exact .ins e T.sj T.dh.ha T.dh.hn T.dh.htk T.dh.hm
 | minus=>exact .ins e T.oo T.cf.ha T.cf.hn T.cf.htk T.cf.hm
 | times=>exact .ins e T.p6 T.c9.ha T.c9.hn T.c9.htk T.c9.hm
theorem D3t (T:Txt K mg t) (k:Op3):kitOne K (.ref (A9w t k)) (.ref t.bq)=some true:=by
 cases k with
 | plus=>exact T.q9
 | minus=>exact T.mr
 | times=>exact T.n5
theorem A7m (T:Txt K mg t) (k:Op3):Cls K (A9w t k):=by cases k with
 | plus=>exact T.sj
 | minus=>exact T.oo
 | times=>exact T.p6
theorem B7o (T:Txt K mg t) (k:Op3):A1v K (A9w t k) "left":=by cases k with
 | plus=>exact T.wg
 | minus=>exact T.v7
 | times=>exact T.u_
theorem B9c (T:Txt K mg t) (k:Op3):A1v K (A9w t k) "right":=by cases k with
 | plus=>exact T.v_
 | minus=>exact T.tq
 | times=>exact T.t0
theorem A3q (T:Txt K mg t):FO P w base T.bh 3 (C4q t):=by
 have Ga2:= @A8j P w K mg base t T;refine T.bh.F.ok A2x (λvs H Q E h=> ?_) λ_ A _ s H _ Q E hr h=> ?_
 ·refine e08 h ?_;clear h;rintro p u ss gg S ⟨rfl,_⟩;rfl
 ·refine e08 h ?_;clear h;rintro p u ss gg S ⟨rfl,fr,⟨a,dx,tv,sl,gl,gs,rfl,e0,ob,hs0,hg0,bg,bs,pg⟩,k⟩;have e:=A0j _ _ e0;have hs:=A0j _ _ hs0;have hg:=A0j _ _ hg0;refine i02 _ (@A0c _ _ _ _ _ (@A0l _ _ 1 _ _ _ _ A2x.nd rfl (.inl rfl) (A1i (pv 0) rfl) rfl (by first | exact Or.inl rfl | exact Or.inr rfl | assumption)) (@A0c _ _ _ _ _ (@A1z _ _ _ _ _ _ _ _ (A3c (A0y A1m (by rfl) T.ab Z0d (@A0a _ _ _ _ _ (pv 1) (@A0a _ _ _ _ _ (A5v (v:=V.ref t.bq) rfl T.yu rfl) A0d rfl) rfl))) (@A0g _ _ _ (@A0u _ _ _ _ (@A1q _ _ _ _ (@A0a _ _ _ _ _ (pmk T.jj Ga2 hr T.nq T.bt.b (@A0a _ _ _ _ _ (A1i (pv 1) rfl) (@A0a _ _ _ _ _ (A1i (pv 0) rfl) (@A0a _ _ _ _ _ (A1i (pv 0) rfl) A0d rfl) rfl) rfl)) (@A0a _ _ _ _ _ (pmk T.jj Ga2 hr T.nq T.bt.b (@A0a _ _ _ _ _ (A1i (pv 1) rfl) (@A0a _ _ _ _ _ (A1i (pv 0) rfl) (@A0a _ _ _ _ _ (A1i (pv 0) rfl) A0d rfl) rfl) rfl)) A0d rfl) rfl)))) A1d) (@A0c _ _ _ _ _ (@A1z _ _ _ _ _ _ _ _ (A3c (A0y A1m (by rfl) T.ab Z0d (@A0a _ _ _ _ _ (pv 1) (@A0a _ _ _ _ _ (A5v (v:=V.ref t.bj) rfl T.xj rfl) A0d rfl) rfl))) (@A0g _ _ _ (@A0u _ _ _ _ (@A1q _ _ _ _ (@A0a _ _ _ _ _ (pmk T.jj Ga2 hr T.nq T.bt.b (@A0a _ _ _ _ _ (A1i (pv 1) rfl) (@A0a _ _ _ _ _ (@A0r _ _ _ _ _ _ _ _ A4i (A1i (pv 0) rfl) (@A1q _ _ _ _ (@A0a _ _ _ _ _ (A1i (pv 1) rfl) A0d rfl))) (@A0a _ _ _ _ _ (A1i (pv 0) rfl) A0d rfl) rfl) rfl)) A0d rfl)))) A1d) (@A0c _ _ _ _ _ (@A1z _ _ _ _ _ _ _ _ (A3c (A0y A1m (by rfl) T.ab Z0d (@A0a _ _ _ _ _ (pv 1) (@A0a _ _ _ _ _ (A5v (v:=V.ref t.ae) rfl T.p_ rfl) A0d rfl) rfl))) (@A0c _ _ _ _ _ (@A0l _ _ 2 _ _ _ _ A2x.nd rfl (.inl rfl) (pmk T.jj Ga2 hr T.nq T.bt.b (@A0a _ _ _ _ _ (A1i (pv 1) rfl) (@A0a _ _ _ _ _ (A1i (pv 0) rfl) (@A0a _ _ _ _ _ (@A0r _ _ _ _ _ _ _ _ A4i (A1i (pv 0) rfl) (@A1q _ _ _ _ (@A0a _ _ _ _ _ (@A1o _ _ _ _ _ (@A0a _ _ _ _ _ (pv 1) (@A0a _ _ _ _ _ B4a A0d rfl) rfl)) A0d rfl))) A0d rfl) rfl) rfl)) rfl (by first | exact Or.inl rfl | exact Or.inr rfl | assumption)) (@A0c _ _ _ _ _ (@A0l _ _ 3 _ _ _ _ A2x.nd rfl (.inl rfl) (pmk T.jj Ga2 hr T.nq T.bt.b (@A0a _ _ _ _ _ (A1i (pv 1) rfl) (@A0a _ _ _ _ _ (A1i (pv 0) rfl) (@A0a _ _ _ _ _ (@A0r _ _ _ _ _ _ _ _ A4i (A1i (pv 0) rfl) (@A1q _ _ _ _ (@A0a _ _ _ _ _ (@A1o _ _ _ _ _ (@A0a _ _ _ _ _ (pv 1) (@A0a _ _ _ _ _ B4a A0d rfl) rfl)) A0d rfl))) A0d rfl) rfl) rfl)) rfl (by first | exact Or.inl rfl | exact Or.inr rfl | assumption)) (@A0g _ _ _ (@A0u _ _ _ _ (@A1q _ _ _ _ (@A0a _ _ _ _ _ (pv 2) (@A0a _ _ _ _ _ (pv 3) A0d rfl) rfl)))))) A1d) (@A0g _ _ _ (@A0u _ _ _ _ (@A1q _ _ _ _ A0d))))))) ?_;refine i16 _ rfl a _ dx _ _ rfl e T.az T.bo (by walk_at "lk") ?_
  cases id ob with
  | @num o dd z eo0 =>
   have eo:=A0j _ _ eo0;have ty:B0p K H (.ref o) (.ref t.ah):= .ins eo T.cq T.ba.ha T.ba.hn T.ba.htk T.ba.hm;refine i13 _ rfl _ _ _ _ rfl ty (A2i T.m7) false rfl (A2u ?_);refine i13 _ rfl _ _ _ _ rfl ty (A2i T.j1) false rfl (A2u ?_);refine i13 _ rfl _ _ _ _ rfl ty (A2i T.jv) false rfl (A2u ?_);exact ⟨A0q rfl,λq hq=>k q [] _ hq (A0f hq) A0b .nil⟩
  | @place o dd x eo0 =>
   have eo:=A0j _ _ eo0;have ty:B0p K H (.ref o) (.ref t.aj):= .ins eo T.fi T.bn.ha T.bn.hn T.bn.htk T.bn.hm;refine i13 _ rfl _ _ _ _ rfl ty (A2i T.mw) false rfl (A2u ?_);refine i13 _ rfl _ _ _ _ rfl ty (A2i T.jb) false rfl (A2u ?_);refine i13 _ rfl _ _ _ _ rfl ty (A2i T.kl) false rfl (A2u ?_);exact ⟨A0q rfl,λq hq=>k q [] _ hq (A0f hq) A0b .nil⟩
  | @read o dd ll x ix eo0 rp0 =>
   have eo:=A0j _ _ eo0;have ty:B0p K H (.ref o) (.ref t.ag):= .ins eo T.eh T.bu.ha T.bu.hn T.bu.htk T.bu.hm;refine i13 _ rfl _ _ _ _ rfl ty (A2i T.q0) false rfl (A2u ?_);refine i13 _ rfl _ _ _ _ rfl ty (A2i T.lq) false rfl (A2u ?_);refine i13 _ rfl _ _ _ _ rfl ty (A2i T.n4) false rfl (A2u ?_);exact ⟨A0q rfl,λq hq=>k q [] _ hq (A0f hq) A0b .nil⟩
  | @sum o dd x v b eo0 ob1 =>
   have eo:=A0j _ _ eo0;have ty:B0p K H (.ref o) (.ref t.bj):= .ins eo T.fk T.cw.ha T.cw.hn T.cw.htk T.cw.hm;simp only [dep] at bg bs;refine i13 _ rfl _ _ _ _ rfl ty (A2i T.qy) false rfl (A2u ?_);refine i13 _ rfl _ _ _ _ rfl ty (A2i T.nr) true rfl (A5h ?_);refine i16 _ rfl o _ dd _ _ rfl eo T.fk T.ii (by walk_at "lk") (i16 _ rfl a _ dx _ _ rfl e T.az T.bz (by walk_at "lk") (i16 _ rfl o _ dd _ _ rfl eo T.fk T.ij (by walk_at "lk") ⟨A0q rfl,λl1 hl1=> ?_⟩));have s1:A1f H (upd H l1 (.lst [.str x])):=A0f hl1;refine i0y sl l1 _ _ rfl rfl (s1 _ _ hs) A0b (A1k (by simp;lia)) λl2 hl2=> ?_;have s2:=s1.trans (A0f (o:= .lst (ss.map V.str++[.str x])) hl2);refine i16 _ rfl a _ dx _ _ rfl (s2 _ _ e) T.az T.bp (by walk_at "lk") λnp dn hn hdn ndn=>⟨np,(i0w dn _ _ _ rfl A0b rfl (A0q rfl) λq hq=> ?_)⟩;have s3:=s2.trans (A5p (o:= .own np) (u:= .ins t.aq dn []) (v:= .ins t.aq dn [("term",v),("sums",.ref l2),("guards",.ref gl)]) hn hdn);have s4:=s3.trans (A0f (o:= .lst [.ref np]) hq);refine k q _ _ (s3.free hq) s4 A0b (.cons (i1b np dn v l2 gl gs rfl (A0i (fr _ (s2.free hn)) ?_) (ob1.imp (A0h s4)) (A0i (fr _ (s1.free hl2)) ?_) (A0h s4 _ _ hg0) (by show gs.length+dep b<=100;lia) (by show (ss++[x]).length+dep b<=100;rw [Z06];simp only [Z0y,Z2g];lia) (Paired.mapP pg λ_ _ z=>z.same (A0h s4))) .nil)
   ·exact (A0f hq) _ _ A0b
   ·have e2:=((A5p (o:= .own np) (u:= .ins t.aq dn []) (v:= .ins t.aq dn [("term",v),("sums",.ref l2),("guards",.ref gl)]) hn hdn).trans (A0f (o:= .lst [.ref np]) hq)) _ _ (A0b (H:=upd H l1 (.lst [.str x])) (a:=l2) (o:= .lst (ss.map V.str++[.str x])));rw [Z0s];exact e2
  | @pair o dd op v1 v2 l r eo0 ob1 ob2 =>
   have eo:=A0j _ _ eo0;simp only [dep] at bg bs;refine i13 _ rfl _ _ _ _ rfl (C5r T eo) (A2i (D3t T op)) true rfl (A5h ?_);refine i16 _ rfl o _ dd _ _ rfl eo (A7m T op) (B7o T op) (by walk_at "lk") (i16 _ rfl a _ dx _ _ rfl e T.az T.bz (by walk_at "lk") (i16 _ rfl a _ dx _ _ rfl e T.az T.bp (by walk_at "lk") λn1 d1 hn1 hd1 nd1=>(i03 n1 d1 (i0p _ _ _ rfl A0b rfl ?_))));have s1:=A5p (o:= .own n1) (u:= .ins t.aq d1 []) (v:= .ins t.aq d1 [("term",v1),("sums",.ref sl),("guards",.ref gl)]) hn1 hd1;refine i16 _ rfl o _ dd _ _ rfl (s1 _ _ eo) (A7m T op) (B9c T op) (by walk_at "lk") (i16 _ rfl a _ dx _ _ rfl (s1 _ _ e) T.az T.bz (by walk_at "lk") (i16 _ rfl a _ dx _ _ rfl (s1 _ _ e) T.az T.bp (by walk_at "lk") λn2 d2 hn2 hd2 nd2=>⟨n2,(i0w d2 _ _ _ rfl A0b rfl (A0q rfl) λq hq=> ?_)⟩));have s2:=A5p (o:= .own n2) (u:= .ins t.aq d2 []) (v:= .ins t.aq d2 [("term",v2),("sums",.ref sl),("guards",.ref gl)]) hn2 hd2;have s3:=A0f (o:= .lst [.ref n1,.ref n2]) hq;have s4:=s1.trans (s2.trans s3);refine k q _ _ ((s1.trans s2).free hq) s4 A0b (.cons (i1b n1 d1 v1 sl gl gs rfl (A0i (fr _ hn1) (s3 _ _ (s2 _ _ A0b))) (ob1.imp (A0h s4)) (A0h s4 _ _ hs0) (A0h s4 _ _ hg0) (by show gs.length+dep l<=100;lia) (by show ss.length+dep l<=100;lia) (Paired.mapP pg λ_ _ z=>z.same (A0h s4))) (.cons (i1b n2 d2 v2 sl gl gs rfl (A0i (fr _ (s1.free hn2)) (s3 _ _ A0b)) (ob2.imp (A0h s4)) (A0h s4 _ _ hs0) (A0h s4 _ _ hg0) (by show gs.length+dep r<=100;lia) (by show ss.length+dep r<=100;lia) (Paired.mapP pg λ_ _ z=>z.same (A0h s4))) .nil))
  | @guard o dd x lo hi v1 v2 l r eo0 ob1 ob2 =>
   have eo:=A0j _ _ eo0;have ty:B0p K H (.ref o) (.ref t.ae):= .ins eo T.au T.bm.ha T.bm.hn T.bm.htk T.bm.hm;simp only [dep] at bg bs;refine i13 _ rfl _ _ _ _ rfl ty (A2i T.ml) false rfl (A2u ?_);refine i13 _ rfl _ _ _ _ rfl ty (A2i T.jo) false rfl (A2u ?_);refine i13 _ rfl _ _ _ _ rfl ty (A2i T.lh) true rfl (A5h ?_);refine i16 _ rfl o _ dd _ _ rfl eo T.au T.gn (by walk_at "lk") (i16 _ rfl a _ dx _ _ rfl e T.az T.bz (by walk_at "lk") (i16 _ rfl a _ dx _ _ rfl e T.az T.bp (by walk_at "lk") (i06 _ rfl (A0q rfl) λt1 ht1=>⟨A0q rfl,λl1 hl1=> ?_⟩)));have z1:=(A0f (o:= .tup [.ref o,.bl true]) ht1).trans (A0f (o:= .lst [.ref t1]) hl1);refine i0y gl l1 _ _ rfl rfl (z1 _ _ hg) A0b (A1k (by simp;lia)) λg1 hg1=> ?_;have z2:=z1.trans (A0f (o:= .lst (gs++[.ref t1])) hg1);refine λn1 d1 hn1 hd1 nd1=>(i03 n1 d1 (i0p _ _ _ rfl A0b rfl ?_));have y1:=A5p (o:= .own n1) (u:= .ins t.aq d1 []) (v:= .ins t.aq d1 [("term",v1),("sums",.ref sl),("guards",.ref g1)]) hn1 hd1;have z3:=z2.trans y1;refine i16 _ rfl o _ dd _ _ rfl (z3 _ _ eo) T.au T.gz (by walk_at "lk") (i16 _ rfl a _ dx _ _ rfl (z3 _ _ e) T.az T.bz (by walk_at "lk") (i16 _ rfl a _ dx _ _ rfl (z3 _ _ e) T.az T.bp (by walk_at "lk") (i06 _ rfl (A0q rfl) λt2 ht2=>⟨A0q rfl,λl2 hl2=> ?_⟩)));have y2:=(A0f (o:= .tup [.ref o,.bl false]) ht2).trans (A0f (o:= .lst [.ref t2]) hl2);refine i0y gl l2 _ _ rfl rfl (y2 _ _ (z3 _ _ hg)) A0b (A1k (by simp;lia)) λg2 hg2=> ?_;have y3:=y2.trans (A0f (o:= .lst (gs++[.ref t2])) hg2);refine λn2 d2 hn2 hd2 nd2=>(i03 n2 d2 (i0p _ _ _ rfl A0b rfl (i0j _ rfl _ rfl (A0q rfl) λq hq=> ?_)));have y4:=A5p (o:= .own n2) (u:= .ins t.aq d2 []) (v:= .ins t.aq d2 [("term",v2),("sums",.ref sl),("guards",.ref g2)]) hn2 hd2;have y5:=A0f (o:= .lst [.ref n1,.ref n2]) hq;have s4:=z3.trans (y3.trans (y4.trans y5));refine k q _ _ ((z3.trans (y3.trans y4)).free hq) s4 A0b (.cons (i1b n1 d1 v1 sl g1 _ rfl (A0i (fr _ (z2.free hn1)) ((y3.trans (y4.trans y5)) _ _ A0b)) (ob1.imp (A0h s4)) (A0h s4 _ _ hs0) (A0i (fr _ (z1.free hg1)) ((y1.trans (y3.trans (y4.trans y5))) _ _ A0b)) (by show (gs++[V.ref t1]).length+dep l<=100;rw [Z06];simp only [Z0y,Z2g];lia) (by show ss.length+dep l<=100;lia) (B2c (Paired.mapP pg λ_ _ z=>z.same (A0h s4)) (.cons (i03 t1 o (i0l dd v1 v2 rfl (A0i (fr _ ht1) (((A0f hl1).trans ((A0f hg1).trans (y1.trans (y3.trans (y4.trans y5))))) _ _ A0b)) (A0h s4 _ _ eo0))) .nil))) (.cons (i1b n2 d2 v2 sl g2 _ rfl (A0i (fr _ ((z3.trans y3).free hn2)) (y5 _ _ A0b)) (ob2.imp (A0h s4)) (A0h s4 _ _ hs0) (A0i (fr _ ((z3.trans y2).free hg2)) ((y4.trans y5) _ _ A0b)) (by show (gs++[V.ref t2]).length+dep r<=100;rw [Z06];simp only [Z0y,Z2g];lia) (by show ss.length+dep r<=100;lia) (B2c (Paired.mapP pg λ_ _ z=>z.same (A0h s4)) (.cons (i03 t2 o (i0l dd v1 v2 rfl (A0i (fr _ (z3.free ht2)) (((A0f hl2).trans ((A0f hg2).trans (y4.trans y5))) _ _ A0b)) (A0h s4 _ _ eo0))) .nil))) .nil))
theorem B7w (T:Txt K mg t) (hm:3<=m) (Ga3:A2y P w K mg base CX0 m t.g8 t.ga ["part"] sp')
  (hs:∀(p:V) (u:Tm) (s:List Str) (g:List Gd) (S:Addr->Prop) (H:Hp) (Q:VK),Fr S H->A3h t (A1a S H) p (u,s,g)->dep u+1<=n->nod u<=1000->(∀(q:Addr) (xs:List V) (H':Hp),H q=none->A1f H H'->H' q=some (.lst xs)->Paired (A3h t (A1a S H')) xs (prT u s g)->Q (.ref q) H')->sp' [p] H Q E0) :
  A2y P w K mg base CX0 (m+1) t.g8 t.ga ["part"] (C4i t n):=by
 have Ga4:= @A3q P w K mg base t T;refine T.jl.F.ok A6x (λvs H Q E h=> ?_) λ_ A _ s H _ Q E hr h=> ?_
 ·refine e08 h ?_;clear h;rintro p u ss gg S ⟨rfl,_⟩;rfl
 ·refine e0e h ?_;clear h;rintro p u ss gg S rfl fr pa hd ⟨hn,k⟩;refine e0g (id pa) ?_;rintro a dx tv sl gl gs rfl e0 ob hs0 hg0 ⟨bg,bs,pg⟩;have dp:=A4y u;refine i02 _ (@A0c _ _ _ _ _ (@A0l _ _ 1 _ _ _ _ A6x.nd rfl (.inl rfl) (@A1q _ _ _ _ (@A0a _ _ _ _ _ (pv 0) A0d rfl)) rfl (by first | exact Or.inl rfl | exact Or.inr rfl | assumption)) (@A0c _ _ _ _ _ (A3d PassesOwn.never rfl (A2q (pcl Ga4 hr T.bh (@A0a _ _ _ _ _ (pv 0) A0d rfl))) (A0n (i:=2) A6x.nd rfl (.inl rfl)) (@A0g _ _ _ (A2t (A5g Z0k PySem.F.slot_list_extend PySem.F.type_list_extend B8f (pv 1) (@A0a _ _ _ _ _ (pcl Ga3 hr T.jl (@A0a _ _ _ _ _ (pv 2) A0d rfl)) A0d rfl))))) (@A0g _ _ _ (@A0u _ _ _ _ (pv 1))))) ?_;refine i06 _ rfl (A0q rfl) λl hl=> ?_;have s1:A1f H (upd H l (.lst [.ref a])):=A0f hl;have m1:A1f (A1a S H) (A1a (λb=>S b/\b≠l) (upd H l (.lst [.ref a]))):=λb o z=>A0i ⟨(A0t z).1,A1g (A0t z).2 hl⟩ (s1 _ _ (A0t z).2);have fr1:∀{G:Hp},A1f (upd H l (.lst [.ref a])) G->Fr (λb=>S b/\b≠l) G:=λ{G} s b hb=>⟨fr b (s1.free (s.free hb)),λz=>by subst z;rw [s _ _ A0b] at hb;cases hb⟩;have nl:¬(S l/\l≠l):=λz=>z.2 rfl;refine i0n _ rfl (.ref a) u ss gg (i0a (λb=>S b/\b≠l) rfl (fr1 (A1f.refl _)) (pa.same m1) λq ks H2 hq s2 h2 pk=>(i06 q rfl ⟨_,SqL.of h2⟩ ?_));have ql:q≠l:=λz=>by subst z;rw [A0b] at hq;cases hq
  have hlk:=Paired.length pk
  have tot:((B6u u ss gg).flatMap λk=>prT k.1 k.2.1 k.2.2).length+1=nod u:=by
   have h1:(prT u ss gg).length=nod u:=A5s u ss gg;rw [C2d,Z0y] at h1;exact h1
  have bnd:∀(i:Nat),(((B6u u ss gg).take i).flatMap λk=>prT k.1 k.2.1 k.2.2).length<=nod u:=λi=>by
   have e:=List.take_append_drop i (B6u u ss gg);have e2:((B6u u ss gg).flatMap λk=>prT k.1 k.2.1 k.2.2)=(((B6u u ss gg).take i).flatMap λk=>prT k.1 k.2.1 k.2.2)++(((B6u u ss gg).drop i).flatMap λk=>prT k.1 k.2.1 k.2.2):=by rw [<-List.flatMap_append,e]
   rw [e2,Z06] at tot;lia
  refine A5i (K:=K) (a:=q) (xs:=ks) (λi Z H3=>∃(o2:Option V) (xs:List V),Z=[Sro a,Sro l,o2]/\A1f H H3/\(∀b,H3 b=none->upd H l (.lst [.ref a]) b=none)/\H3 q=some (.lst ks)/\Paired (A3h t (A1a (λb=>S b/\b≠l) H3)) ks (B6u u ss gg)/\H3 l=some (.lst (.ref a::xs))/\Paired (A3h t (A1a (λb=>S b/\b≠l) H3)) xs (((B6u u ss gg).take i).flatMap λk=>prT k.1 k.2.1 k.2.2))
   (i0r none [] rfl (s1.trans s2) (λb hb=>s2.free hb) h2 pk ⟨s2 _ _ A0b,.nil⟩) (λi Z H3 _ zq=>by obtain ⟨_,_,_,_,_,h,_⟩:=zq;exact SqL.of h) ?_ ?_
  ·rintro i y Z H3 hy zz;refine e06 zz ?_;clear zz;rintro o2 xs rfl s3 f3 ⟨h3,pk3,hl3,ps⟩;obtain ⟨kd,hkd,pkd⟩:=B2l pk3 hy;have km:=Z13 hkd;have kd1:=C8w km
   have nk:nod kd.1<=1000:=by
    have h2:(prT kd.1 kd.2.1 kd.2.2).length<=((B6u u ss gg).flatMap λk=>prT k.1 k.2.1 k.2.2).length:=by
     obtain ⟨l1,l2,e2⟩:=List.append_of_mem km;rw [e2,List.flatMap_append,List.flatMap_cons,Z06,Z06];lia
    rw [A5s] at h2
    lia
   have fr3:Fr (λb=>S b/\b≠l) H3:=λb hb=>⟨fr b (s1.free (f3 b hb)),λz=>by subst z;rw [hl3] at hb;cases hb⟩;refine i0i _ rfl (.inl (i01 rfl _ (SqL.of hl3))) _ rfl (hs y kd.1 kd.2.1 kd.2.2 _ H3 _ fr3 pkd (by lia) nk λq2 zs H4 hq2 s4 h4 pz=> ?_);have lxs:=Paired.length ps;have lzs:=Paired.length pz;rw [A5s] at lzs;have b1:=bnd i;refine i0y l q2 _ _ rfl rfl (s4 _ _ hl3) h4 (A1k (by simp;lia)) ?_;have u4:A1f (A1a (λb=>S b/\b≠l) H4) (A1a (λb=>S b/\b≠l) (upd H4 l (.lst (.ref a::xs++zs)))):=A2o (A1f.refl _) nl;have v4:=(A0h (S:=λb=>S b/\b≠l) s4).trans u4;refine i0r _ (xs++zs) rfl (A0s (s3.trans s4) hl) (λb hb=> ?_) ?_ (Paired.mapP pk3 λ_ _ z=>z.same v4) ⟨A0b,?_⟩
   ·by_cases z:b=l
    ·subst z;rw [A0b] at hb;cases hb
    ·rw [A0k z] at hb;exact f3 b (s4.free hb)
   ·rw [A0k ql];exact s4 _ _ h3
   ·rw [Z14,hkd,Z2f,List.flatMap_append,List.flatMap_cons,List.flatMap_nil,Z0u];exact B2c (Paired.mapP ps λ_ _ z=>z.same v4) (Paired.mapP pz λ_ _ z=>z.same u4)
  ·rintro Z H3 zz;refine e06 zz ?_;clear zz;rintro o2 xs rfl s3 f3 ⟨h3,pk3,hl3,ps⟩;rw [hlk,Z18] at ps;refine i02 _ rfl (k l _ H3 hl s3 hl3 ?_);rw [C2d];refine .cons (pa.same (A0h s3)) (Paired.mapP ps λ_ _ z=>z.same (A3b (A1f.refl _) λb o _ h=>h.1))
theorem C5u (T:Txt K mg t):∀n:Nat,A2y P w K mg base CX0 (n+4) t.g8 t.ga ["part"] (C4i t n)
 | 0=>B7w T (sp':=λ_ _ _ _=>False) (m:=3) (by lia) (A2y.none λ_ _ _ _ h=>h) λp u s g S H Q _ _ h=>absurd h (by lia)
 | n+1=>B7w T (m:=n+4) (by lia) (C5u T n) λp u s g S H Q fr pa hd hn k=>(i11 p u s g S rfl fr pa (by lia) hn k)
theorem B9u (T:Txt K mg t):FO P w base T.nc 46 (C8b t):=by
 have Ga3:= @C5u P w K mg base t T 40;have Ga2:= @A8j P w K mg base t T;refine T.nc.F.ok C0k (by walk_at "ln") λ_ A _ s H _ Q E hr h=> ?_
 ·refine e09 h ?_;clear h;rintro v u S rfl fr ob ⟨hd,hn,k⟩;refine i02 _ (@A0g _ _ _ (@A0u _ _ _ _ (pcl Ga3 hr T.jl (@A0a _ _ _ _ _ (pmk T.jj Ga2 hr T.nq T.bt.b (@A0a _ _ _ _ _ (pv 0) (@A0a _ _ _ _ _ (@A1q _ _ _ _ A0d) (@A0a _ _ _ _ _ (@A1q _ _ _ _ A0d) A0d rfl) rfl) rfl)) A0d rfl)))) ?_;refine i06 _ rfl (A0q rfl) λl1 hl1=>⟨A0q rfl,λl2 hl2=> ?_⟩;refine λn dn hnn hdn nd=>(i03 n dn (i0p _ _ _ rfl A0b rfl ?_));have s1:=(A0f (o:= .lst []) hl1).trans (A0f (o:= .lst []) hl2);have s2:=A5p (o:= .own n) (u:= .ins t.aq dn []) (v:= .ins t.aq dn [("term",v),("sums",.ref l1),("guards",.ref l2)]) hnn hdn;have s3:=s1.trans s2;refine i11 (.ref n) u [] [] S rfl (λb hb=>fr b (s3.free hb)) (i1b n dn v l1 l2 [] rfl (A0i (fr _ (s1.free hnn)) A0b) (ob.imp (A0h s3)) (A0i (fr _ hl1) (s2 _ _ ((A0f hl2) _ _ A0b))) (A0i (fr _ ((A0f hl1).free hl2)) (s2 _ _ A0b)) (by show 0+dep u<=100;lia) (by show 0+dep u<=100;lia) .nil) hd hn λq xs H4 hq s4 h4 ps=> ?_;exact k q xs H4 (s3.free hq) (s3.trans s4) h4 ps
def TmW:Tm->Prop
 | .num z=>Sm z
 | .place x=>A8k x
 | .read a ix=>a.length<=60/\ix.length<=12/\∀e∈ix,A8k e.1/\Sm e.2
 | .sum x b=>A8k x/\TmW b
 | .pair _ l r=>TmW l/\TmW r
 | .guard x lo hi l r=>A8k x/\Sm lo/\Sm hi/\TmW l/\TmW r
def B5s (k:Op3):Sp:=λvs H Q _=>∃v,vs=[v]/\Q (.str k.sign) H
def C9u:Sp:=λvs H Q _=>∃(x:Str) (z:Int),vs=[.str x,.int z]/\A8k x/\Sm z/\Q (.str (A8d (x,z))) H
def D3x (A:Adr) (n:Nat) (is:Tm->Prop):Sp:=λvs H Q _=>∃(v:V) (t:Tm),vs=[v]/\is t/\Ob A H v t/\TmW t/\dep t<=n/\nod t<=1000/\∀(p:Addr) (H':Hp),H p=none->A1f H H'->H' p=some (.lst ((A5c t).map V.str))->Q (.ref p) H'
theorem C3w (h:∀e∈ix,A8k e.1/\Sm e.2) (hl:ix.length<=12):(D0f ix).length<=800:=by
 have j:=StrLaws.join_length_le "," (ix.map A8d);have s:=B9v ix h;have p:((",":Str)).length=1:=by decide +kernel
 have e:D0f ix=Str.join "," (ix.map A8d):=StrLaws.glued_eq_join _ _;rw [e];rw [p,Z08] at j
 lia
theorem B8o (T:Txt K mg t):FP P w mg base T.ke 1 (B5s .plus):=by
 refine T.ke.F.ok B9h (by walk_at "ln") λ_ A _ s H _ Q E hr h=> ?_
 ·obtain ⟨v,rfl,k⟩:=h;exact i02 _ (@A0g _ _ _ (@A0u _ _ _ _ A1h)) k
theorem B5c (T:Txt K mg t):FP P w mg base T.jg 1 (B5s .minus):=by
 refine T.jg.F.ok B5m (by walk_at "ln") λ_ A _ s H _ Q E hr h=> ?_
 ·obtain ⟨v,rfl,k⟩:=h;exact i02 _ (@A0g _ _ _ (@A0u _ _ _ _ A1h)) k
theorem B5k (T:Txt K mg t):FP P w mg base T.jk 1 (B5s .times):=by
 refine T.jk.F.ok B5i (by walk_at "ln") λ_ A _ s H _ Q E hr h=> ?_
 ·obtain ⟨v,rfl,k⟩:=h;exact i02 _ (@A0g _ _ _ (@A0u _ _ _ _ A1h)) k
theorem D4k (T:Txt K mg t) (k:Op3):∃f fd,B0q K (A9w t k) "sign" f/\A2y P w K mg base CX0 1 f fd ["self"] (B5s k)/\A7o K fd ["self"] []:=by
 cases k with
 | plus=>exact i0d _ _ T.wP (B8o T) T.ke.b
 | minus=>exact i0d _ _ T.um (B5c T) T.jg.b
 | times=>exact i0d _ _ T.ur (B5k T) T.jk.b
theorem D7r (T:Txt K mg t) (k:Op3):B0q K (A9w t k) "words" t.cn:=by cases k with
 | plus=>exact T.vh
 | minus=>exact T.t_
 | times=>exact T.u8
theorem B5j (T:Txt K mg t):FO P w base T.jr 1 C9u:=by
 refine T.jr.F.ok B6c (by walk_at "ln") λ_ A _ s H _ Q E hr h=> ?_
 ·obtain ⟨x,z,rfl,hx,hz,k⟩:=h;refine i02 _ (@A0c _ _ _ _ _ (@A1z _ _ _ _ _ _ _ _ (@A0o _ _ _ _ _ _ _ _ A2j (pv 0) A1h (A1e _)) (@A0g _ _ _ (@A0u _ _ _ _ (A2a A4w (by rfl) T.w6 PyProof.Rows.boot_str (@A0a _ _ _ _ _ (pv 1) A0d rfl)))) A1d) (@A0c _ _ _ _ _ (@A1z _ _ _ _ _ _ _ _ (@A0o _ _ _ _ _ _ _ _ A2j (pv 1) A0e (A1e _)) (@A0g _ _ _ (@A0u _ _ _ _ (pv 0))) A1d) (@A0c _ _ _ _ _ (@A1z _ _ _ _ _ _ _ _ (@A0o _ _ _ _ _ _ _ _ A7n (pv 1) A0e (A1e _)) (@A0g _ _ _ (@A0u _ _ _ _ (B9l (B7b (pv 0) (D0u (B7b (pv 1) C3y)))))) A1d) (@A0g _ _ _ (@A0u _ _ _ _ (B9l (B7b (pv 0) (B7b (pv 1) C3y)))))))) ?_;have lz:=B3f hz;have lx:=hx.1;have lp:("+":Str).length=1:=by decide +kernel
  refine i0i _ rfl rfl _ rfl (A4m (λh=> ?_) (λh=> ?_))
  ·have e:A8d (x,z)=(toString z:Str):=by
    unfold A8d;rw [Z12 (by injection h)]
   rw [e] at k;exact i0j _ rfl z rfl (B1p hz) k
  ·have hn:¬x="":=λe=>h (by rw [e]);refine i0i _ rfl rfl _ rfl (A4m (λh0=> ?_) (λh0=> ?_))
   ·have e:A8d (x,z)=x:=by
     unfold A8d;rw [Z0t hn,Z12 (by injection h0)]
    rw [e] at k;exact i02 _ rfl k
   ·have h0':¬z=0:=λe=>h0 (by rw [e]);refine i0m _ rfl _ _ rfl rfl (i02 _ rfl (A4m (λh1=> ?_) (λh1=> ?_)))
    ·have e:A8d (x,z)=Str.empty++x++"+"++(toString z:Str):=by
      unfold A8d;rw [Z0t hn,Z0t h0',Z12 h1,Str.empty_append]
     rw [e] at k;have l1:(Str.empty++x).length<=20:=by rw [Str.empty_append];exact lx
     have l2:(Str.empty++x++"+").length<=21:=by rw [Str.length_append];lia
     have l3:(Str.empty++x++"+"++(toString z:Str)).length<=60:=by rw [Str.length_append];lia
     exact i0j _ rfl x (.inl ⟨rfl,A1k (by lia)⟩) (A1k (by lia)) (i05 (A1k (by lia)) _ rfl (i0a _ (.inr (i06 z rfl (B1p hz) rfl)) (A1k (by lia)) (A1k (by lia)) k))
    ·have e:A8d (x,z)=Str.empty++x++(toString z:Str):=by
      unfold A8d;rw [Z0t hn,Z0t h0',Z0t h1,Str.empty_append]
     rw [e] at k;have l1:(Str.empty++x).length<=20:=by rw [Str.empty_append];exact lx
     have l3:(Str.empty++x++(toString z:Str)).length<=60:=by rw [Str.length_append];lia
     exact i0j _ rfl x (.inl ⟨rfl,A1k (by lia)⟩) (A1k (by lia)) (i0j _ rfl _ (.inr (i06 z rfl (B1p hz) rfl)) (A1k (by lia)) ⟨A1k (by lia),k⟩)
theorem B3i (T:Txt K mg t) (n:Nat):A2y P w K mg base CX0 1 t.gq t.kf A8e (D3x t n λu=>∃z,u= .num z):=by
 refine T.ky.F.ok B3u (by walk_at "ln") λ_ A _ s H _ Q E hr h=> ?_
 ·refine e06 h ?_;clear h;rintro v u rfl ⟨z,rfl⟩ ob ⟨g,_,_,k⟩
  cases ob with
  | @num a dx _ e =>
   refine i02 _ (@A0g _ _ _ (@A0u _ _ _ _ (@A1q _ _ _ _ (@A0a _ _ _ _ _ (A2a A4w (by rfl) T.w6 PyProof.Rows.boot_str (@A0a _ _ _ _ _ (A1i (pv 0) rfl) A0d rfl)) A0d rfl)))) ?_;refine i16 _ rfl a _ dx _ _ rfl e T.cq T.cj (by walk_at "lk") (i0a z rfl (B1p g) (A0q rfl) λp hp=> ?_);exact k p _ hp (A0f hp) A0b
theorem B4l (T:Txt K mg t) (n:Nat):A2y P w K mg base CX0 1 t.j0 t.n0 A8e (D3x t n λu=>∃z,u= .place z):=by
 refine T.mq.F.ok B4g (by walk_at "ln") λ_ A _ s H _ Q E hr h=> ?_
 ·refine e06 h ?_;clear h;rintro v u rfl ⟨z,rfl⟩ ob ⟨g,_,_,k⟩
  cases ob with
  | @place a dx _ e =>
   refine i02 _ (@A0g _ _ _ (@A0u _ _ _ _ (@A1q _ _ _ _ (@A0a _ _ _ _ _ (A1i (pv 0) rfl) A0d rfl)))) ?_;refine i16 _ rfl a _ dx _ _ rfl e T.fi T.iw (by walk_at "lk") ⟨A0q rfl,λp hp=> ?_⟩;exact k p _ hp (A0f hp) A0b
theorem B5o (T:Txt K mg t) (n:Nat):A2y P w K mg base CX0 2 t.jf t.pq A8e (D3x t n λu=>∃z ix,u= .read z ix):=by
 have Ga5:= @B5j P w K mg base t T;refine T.q5.F.ok A9z (by walk_at "ln") λ_ A _ s H _ Q E hr h=> ?_
 ·refine e06 h ?_;clear h;rintro v u rfl ⟨z,ix,rfl⟩ ob ⟨g,_,_,k⟩;obtain ⟨g1,g2,g3⟩:=g;have lz:=g1;have li:=C3w g3 g2;have si:=B9v ix g3;have lc:(",":Str).length=1:=by decide +kernel
  have lb:("[":Str).length=1:=by decide +kernel
  have lb':("]":Str).length=1:=by decide +kernel
  cases ob with
  | @read a dx l _ _ e rp =>
   obtain ⟨_,es,q,el,rs⟩:=A5q (show Rep H (.ref l) (.list (ix.map B0v)) from rp);cases q;have hl:=rs.len;rw [Z08] at hl;refine i02 _ (@A0c _ _ _ _ _ (@A0l _ _ 1 _ _ _ _ A9z.nd rfl (.inl rfl) (A5g PySem.F.plainAttrs_str PySem.F.slot_str_join PySem.F.type_str_join D3s A1h (@A0a _ _ _ _ _ (A3u (N':=["axis","shift"]) (ix:=(List.replicate 2 none)) (g:=D0w K 2 (A8r (A5w 0) (A8r (A5w 1) D0l))) rfl (A2p rfl (by decide +kernel) (by decide +kernel)) (A2n rfl) (A2q (A1i (pv 0) rfl)) (λ_ _ _ _=>(A3f (n:=2) rfl (A0v (A0n (i:=0) B9g rfl (.inl rfl)) (A0v (A0n (i:=1) B9g rfl (.inl rfl)) A2k)))) (λ_ _ _ _=>(pcl Ga5 hr T.jr (@A0a _ _ _ _ _ (pv 0) (@A0a _ _ _ _ _ (pv 1) A0d rfl) rfl)))) A0d rfl)) rfl (by first | exact Or.inl rfl | exact Or.inr rfl | assumption)) (@A0g _ _ _ (@A0u _ _ _ _ (@A1q _ _ _ _ (@A0a _ _ _ _ _ (@A0r _ _ _ _ _ _ _ _ A4c (@A0r _ _ _ _ _ _ _ _ A4c (@A0r _ _ _ _ _ _ _ _ A4c (A1i (pv 0) rfl) A1h) (pv 1)) A1h) A0d rfl))))) ?_;refine ⟨rfl,(i16 _ rfl a _ dx _ _ rfl e T.eh T.fu (by walk_at "lk") (i06 l rfl ⟨_,SqL.of el⟩ λD hD=> ?_))⟩;refine A2w (K:=K) (a:=l) (D:=D) (xs:=es) (λi ys H2=>A1f H H2/\H2 D=some (.lst ys)/\ys=((ix.take i).map A8d).map V.str) (i00 (A0f hD) A0b rfl) (λi ys H2 ⟨s2,_⟩=>SqL.of (s2 _ _ el)) ?_ ?_
   ·rintro i x ys H2 hx ⟨s2,hD2,rfl⟩;have hi:i<ix.length:=by have:=(Z03.mp hx).1;lia
    obtain ⟨d,hd,rx⟩:=rs.get2 hx;have hie:ix[i]? =some ix[i]:=Z0b hi;rw [Z1z,hie] at hd;cases hd;obtain ⟨q,rfl,eq⟩:=C6n rx;have gi:=g3 _ (Z13 hie);refine i17 q _ rfl (SqT.of (s2 _ _ eq)) rfl _ _ rfl _ _ rfl rfl (i05 True.intro _ rfl (i0q _ rfl _ _ rfl gi.1 gi.2 ?_));refine i08 hD2 (A1l (by simp;lia)) (A0s s2 hD) A0b ?_;rw [Z14,hie,Z2f,Z0s,Z0s];rfl
   ·rintro ys H2 ⟨s2,hD2,rfl⟩;rw [hl,Z18] at hD2;refine i0s _ D (ix.map A8d) rfl rfl (SqL.of hD2) (by rw [lc,Z08];lia) ?_;refine i16 _ rfl a _ dx _ _ rfl (s2 _ _ e) T.eh T.mi (by walk_at "lk") (i0k _ _ rfl rfl (A1k (by lia)) (i0q _ rfl _ _ rfl rfl ?_ (i0o _ _ rfl rfl ?_ (A0q rfl) λp hp=> ?_)))
    ·rw [Str.length_append];exact A1k (by show z.length+Str.length "["+(D0f ix).length<=1000000;lia)
    ·rw [Str.length_append,Str.length_append];exact A1k (by show z.length+Str.length "["+(D0f ix).length+Str.length "]"<=1000000;lia)
    ·exact k p _ (s2.free hp) (s2.trans (A0f hp)) A0b
def WOk (P:Program) (w:World) (K:Frag) (mg:Str->Option Value) (base:Heap) (A:Adr) (n:Nat):Prop:=∀(H:Hp) (v:V) (u:Tm),Ob A H v u->TmW u->dep u<=n->nod u<=1000->
 ∃(a C dx:Addr) (fs:List (Str×V)) (k:Nat) (f:Addr) (fd:FuncData) (ps:List Str) (sp:Sp),v= .ref a/\H a=some (.ins C dx fs)/\Cls K C/\B0q K C "words" f/\fs.lookup ("words":Str)=none/\A2y P w K mg base CX0 k f fd ps sp/\k<=n+2/\A7o K fd ps []/\
  ∀Q:VK,(∀(p:Addr) (H':Hp),H p=none->A1f H H'->H' p=some (.lst ((A5c u).map V.str))->Q (.ref p) H')->sp [v] H Q E0
theorem B8m (T:Txt K mg t) (W:WOk P w K mg base t n):A2y P w K mg base CX0 (n+3) t.l_ t.r8 A8e (D3x t (n+1) λu=>∃x b,u= .sum x b):=by
 refine T.re.F.ok B7n (by walk_at "ln") λ_ A _ s H _ Q E hr h=> ?_
 ·refine e06 h ?_;clear h;rintro v u rfl ⟨x,b,rfl⟩ ob ⟨g,hd,hn,k⟩;have hw:=A3x b;simp only [dep,nod] at hd hn
  cases ob with
  | @sum a dx _ u _ e ob =>
   refine i02 _ (@A0g _ _ _ (@A0u _ _ _ _ (@A0r _ _ _ _ _ _ _ _ A4i (@A1q _ _ _ _ (@A0a _ _ _ _ _ A1h (@A0a _ _ _ _ _ (A1i (pv 0) rfl) A0d rfl) rfl)) (A3y (A1i (pv 0) rfl))))) ?_;refine i16 _ rfl a _ dx _ _ rfl e T.fk T.ij (by walk_at "lk") ⟨A0q rfl,λq hq=> ?_⟩;have s1:A1f H (upd H q (.lst [.str "sum",.str x])):=A0f hq;refine i16 _ rfl a _ dx _ _ rfl (s1 _ _ e) T.fk T.ii (by walk_at "lk") ?_;refine e0h (W _ u b (ob.imp s1) g.2 (by lia) (by lia)) ?_;rintro a' C' dx' fs' k' f' fd' ps' sp' rfl e' c' m' l' ⟨F',hk',b',q'⟩;refine i0f a' C' dx' fs' (i1a k' f' fd' ps' sp' rfl e' c' m' l' F' (hr.mono (by lia)) b' (q' _ λp2 H2 hp2 s2 h2=> ?_));refine i0y q p2 _ _ rfl rfl (s2 _ _ A0b) h2 (A1k (by simp;lia)) λp hp=> ?_;exact k p _ (s1.free (s2.free hp)) (s1.trans (s2.trans (A0f hp))) (by rw [A0b];simp [A5c])
theorem B5l (T:Txt K mg t) (W:WOk P w K mg base t n):A2y P w K mg base CX0 (n+3) t.cn t.om A8e (D3x t (n+1) λu=>∃o x b,u= .pair o x b):=by
 refine T.ph.F.ok B6k (by walk_at "ln") λ_ A _ s H _ Q E hr h=> ?_
 ·refine e06 h ?_;clear h;rintro v u rfl ⟨o,l,r,rfl⟩ ob ⟨g,hd,hn,k⟩;have hw1:=A3x l;have hw2:=A3x r;simp only [dep,nod] at hd hn;obtain ⟨fs,fsd,ms,Gs,bs⟩:=D4k (P:=P) (w:=w) (base:=base) T o
  cases ob with
  | @pair a dx _ u v _ _ e ob1 ob2 =>
   refine i02 _ (@A0g _ _ _ (@A0u _ _ _ _ (@A0r _ _ _ _ _ _ _ _ A4i (@A0r _ _ _ _ _ _ _ _ A4i (@A1q _ _ _ _ (@A0a _ _ _ _ _ (A3y (pv 0)) A0d rfl)) (A3y (A1i (pv 0) rfl))) (A3y (A1i (pv 0) rfl))))) ?_;refine i0n _ rfl a _ dx _ (i1a 1 fs fsd ["self"] _ rfl e (A7m T o) ms (by walk_at "lk") Gs (hr.mono (by lia)) bs (i06 _ rfl (A0q rfl) λq hq=> ?_));have s1:A1f H (upd H q (.lst [.str o.sign])):=A0f hq;refine i16 _ rfl a _ dx _ _ rfl (s1 _ _ e) (A7m T o) (B7o T o) (by walk_at "lk") ?_;refine e0h (W _ u l (ob1.imp s1) g.1 (by lia) (by lia)) ?_;rintro a' C' dx' fs' k' f' fd' ps' sp' rfl e' c' m' l' ⟨F',hk',b',q'⟩;refine i0f a' C' dx' fs' (i1a k' f' fd' ps' sp' rfl e' c' m' l' F' (hr.mono (by lia)) b' (q' _ λp2 H2 hp2 s2 h2=> ?_));refine i0y q p2 _ _ rfl rfl (s2 _ _ A0b) h2 (A1k (by simp;lia)) λp3 hp3=> ?_;have s3:A1f H (upd H2 p3 (.lst ([V.str o.sign]++(A5c l).map V.str))):=s1.trans (s2.trans (A0f hp3));refine i16 _ rfl a _ dx _ _ rfl (s3 _ _ e) (A7m T o) (B9c T o) (by walk_at "lk") ?_;refine e0h (W _ v r (ob2.imp s3) g.2 (by lia) (by lia)) ?_;rintro a' C' dx' fs' k' f' fd' ps' sp' rfl e' c' m' l' ⟨F',hk',b',q'⟩;refine i0f a' C' dx' fs' (i1a k' f' fd' ps' sp' rfl e' c' m' l' F' (hr.mono (by lia)) b' (q' _ λp4 H4 hp4 s4 h4=> ?_));refine i0y p3 p4 _ _ rfl rfl (s4 _ _ A0b) h4 (A1k (by simp;lia)) λp hp=> ?_;exact k p _ (s3.free (s4.free hp)) (s3.trans (s4.trans (A0f hp))) (by rw [A0b];simp [A5c])
theorem B4j (T:Txt K mg t) (W:WOk P w K mg base t n):A2y P w K mg base CX0 (n+3) t.ip t.mv A8e (D3x t (n+1) λu=>∃x lo hi l r,u= .guard x lo hi l r):=by
 refine T.mh.F.ok A8y (by walk_at "ln") λ_ A _ s H _ Q E hr h=> ?_
 ·refine e06 h ?_;clear h;rintro v u rfl ⟨x,lo,hi,l,r,rfl⟩ ob ⟨g,hd,hn,k⟩;obtain ⟨g0,gl,gh,g1,g2⟩:=g;have hw1:=A3x l;have hw2:=A3x r;simp only [dep,nod] at hd hn
  cases ob with
  | @guard a dx _ _ _ u v _ _ e ob1 ob2 =>
   refine i02 _ (@A0c _ _ _ _ _ (@A0l _ _ 1 _ _ _ _ A8y.nd rfl (.inl rfl) (@A1q _ _ _ _ (@A0a _ _ _ _ _ A1h (@A0a _ _ _ _ _ (A1i (pv 0) rfl) (@A0a _ _ _ _ _ (A2a A4w (by rfl) T.w6 PyProof.Rows.boot_str (@A0a _ _ _ _ _ (A1i (pv 0) rfl) A0d rfl)) (@A0a _ _ _ _ _ (A2a A4w (by rfl) T.w6 PyProof.Rows.boot_str (@A0a _ _ _ _ _ (A1i (pv 0) rfl) A0d rfl)) A0d rfl) rfl) rfl) rfl)) rfl (by first | exact Or.inl rfl | exact Or.inr rfl | assumption)) (@A0g _ _ _ (@A0u _ _ _ _ (@A0r _ _ _ _ _ _ _ _ A4i (@A0r _ _ _ _ _ _ _ _ A4i (pv 1) (A3y (A1i (pv 0) rfl))) (A3y (A1i (pv 0) rfl)))))) ?_
   refine ⟨_,rfl,a,_,dx,_,_,rfl,e,T.au,T.fe,(by walk_at "lk"),_,rfl,a,_,dx,_,_,rfl,e,T.au,T.ju,(by walk_at "lk"),lo,rfl,B1p gl,
    _,rfl,a,_,dx,_,_,rfl,e,T.au,T.iu,(by walk_at "lk"),hi,rfl,B1p gh,A0q rfl,λq hq=> ?_⟩
   have s1:A1f H (upd H q (.lst [.str "if",.str x,.str (toString lo),.str (toString hi)])):=A0f hq;refine i02 _ rfl (i16 _ rfl a _ dx _ _ rfl (s1 _ _ e) T.au T.gn (by walk_at "lk") ?_);refine e0h (W _ u l (ob1.imp s1) g1 (by lia) (by lia)) ?_;rintro a' C' dx' fs' k' f' fd' ps' sp' rfl e' c' m' l' ⟨F',hk',b',q'⟩;refine i0f a' C' dx' fs' (i1a k' f' fd' ps' sp' rfl e' c' m' l' F' (hr.mono (by lia)) b' (q' _ λp2 H2 hp2 s2 h2=> ?_));refine i0y q p2 _ _ rfl rfl (s2 _ _ A0b) h2 (A1k (by simp;lia)) λp3 hp3=> ?_;have s3:A1f H (upd H2 p3 (.lst ([.str "if",.str x,.str (toString lo),.str (toString hi)]++(A5c l).map V.str))):=s1.trans (s2.trans (A0f hp3));refine i16 _ rfl a _ dx _ _ rfl (s3 _ _ e) T.au T.gz (by walk_at "lk") ?_;refine e0h (W _ v r (ob2.imp s3) g2 (by lia) (by lia)) ?_;rintro a' C' dx' fs' k' f' fd' ps' sp' rfl e' c' m' l' ⟨F',hk',b',q'⟩;refine i0f a' C' dx' fs' (i1a k' f' fd' ps' sp' rfl e' c' m' l' F' (hr.mono (by lia)) b' (q' _ λp4 H4 hp4 s4 h4=> ?_));refine i0y p3 p4 _ _ rfl rfl (s4 _ _ A0b) h4 (A1k (by simp;lia)) λp hp=> ?_;exact k p _ (s3.free (s4.free hp)) (s3.trans (s4.trans (A0f hp))) (by rw [A0b];simp [A5c])
theorem wok (T:Txt K mg t):∀n:Nat,WOk P w K mg base t n
 | 0=>λH v u ob g hd=>absurd hd (by have:=A4y u;lia)
 | n+1=>λH v u ob g hd hn=>by
  have W:=wok T n
  cases id ob with
  | num e=>exact i0f _ _ _ _ (i1a _ _ _ _ _ rfl e T.cq T.sf (by walk_at "lk") (B3i T (n+1)) (by lia) T.ky.b λQ k=>(i0r _ _ rfl ⟨_,rfl⟩ ob g hd ⟨hn,k⟩))
  | place e=>exact i0f _ _ _ _ (i1a _ _ _ _ _ rfl e T.fi T.uc (by walk_at "lk") (B4l T (n+1)) (by lia) T.mq.b λQ k=>(i0r _ _ rfl ⟨_,rfl⟩ ob g hd ⟨hn,k⟩))
  | read e r=>exact i0f _ _ _ _ (i1a _ _ _ _ _ rfl e T.eh T.ul (by walk_at "lk") (B5o T (n+1)) (by lia) T.q5.b λQ k=>(i0r _ _ rfl (i03 _ _ rfl) ob g hd ⟨hn,k⟩))
  | sum e o1=>exact i0f _ _ _ _ (i1a _ _ _ _ _ rfl e T.fk T.wq (by walk_at "lk") (B8m T W) (by lia) T.re.b λQ k=>(i0r _ _ rfl (i03 _ _ rfl) ob g hd ⟨hn,k⟩))
  | @pair _ _ o _ _ _ _ e o1 o2=>exact i0f _ _ _ _ (i1a _ _ _ _ _ rfl e (A7m T o) (D7r T o) (by walk_at "lk") (B5l T W) (by lia) T.ph.b λQ k=>(i0r _ _ rfl ⟨_,(i03 _ _ rfl)⟩ ob g hd ⟨hn,k⟩))
  | guard e o1 o2=>exact i0f _ _ _ _ (i1a _ _ _ _ _ rfl e T.au T.sy (by walk_at "lk") (B4j T W) (by lia) T.mh.b λQ k=>(i0r _ _ rfl ⟨_,(i0f _ _ _ _ rfl)⟩ ob g hd ⟨hn,k⟩))
def isS:Tm->Bool
 | .sum _ _=>true
 | _=>false
def isP:Tm->Bool
 | .pair _ _ _=>true
 | _=>false
def isG:Tm->Bool
 | .guard _ _ _ _ _=>true
 | _=>false
def isL:Tm->Bool
 | .place _=>true
 | _=>false
def isR:Tm->Bool
 | .read _ _=>true
 | _=>false
theorem D9d {v:Value} {c:Addr} {b1 b2:Bool} (h1:kitOne K v (.ref c)=some b1) (h2:kitOne K v (.ref d)=some b2):∀us,A3z ([V.ref c,V.ref d]) us->kitAny K v us=some (b1||b2):=λus r=>by
 cases r with
 | cons a r =>
  cases a
  cases r with
  | cons a r =>
   cases a
   cases r
   unfold kitAny;rw [h1]
   cases b1 with
   | true=>rfl
   | false =>
    unfold kitAny;rw [h2];cases b2 <;> rfl
structure Kit (K:Frag) (t:Adr) (H:Hp) (v:V) (u:Tm):Prop where
 ex:∃(a C dx:Addr) (fs:List (Str×V)),v= .ref a/\H a=some (.ins C dx fs)/\Cls K C/\findIn K (.ref C) "__class__"=some (some (.builtin "object.__class__"))/\
 specialIn K (.builtin "object.__class__") "__get__"=some (some (.builtin "getset_descriptor.__get__"))/\takesIn K (.builtin "object.__class__")=some true/\mroIn K C (.type "object")=some true/\B0p K H (.ref a) (.ref C)/\kitOne K (.ref C) (.ref t.bj)=some (isS u)/\kitOne K (.ref C) (.ref t.bq)=some (isP u)/\kitOne K (.ref C) (.ref t.ae)=some (isG u)/\kitOne K (.ref C) (.ref t.aj)=some (isL u)/\kitOne K (.ref C) (.ref t.ag)=some (isR u)
theorem C5v {t:Adr} (T:Txt K mg t) (ob:Ob t H v u):Kit K t H v u:=by
 cases ob with
 | num e=>exact ⟨_,_,_,_,rfl,e,T.cq,T.ba.ha,T.ba.hn,T.ba.htk,T.ba.hm,.ins e T.cq T.ba.ha T.ba.hn T.ba.htk T.ba.hm,T.j1,T.m7,T.jv,T.sd,T.u7⟩
 | place e=>exact ⟨_,_,_,_,rfl,e,T.fi,T.bn.ha,T.bn.hn,T.bn.htk,T.bn.hm,.ins e T.fi T.bn.ha T.bn.hn T.bn.htk T.bn.hm,T.jb,T.mw,T.kl,T.u6,T.vy⟩
 | read e _=>exact ⟨_,_,_,_,rfl,e,T.eh,T.bu.ha,T.bu.hn,T.bu.htk,T.bu.hm,.ins e T.eh T.bu.ha T.bu.hn T.bu.htk T.bu.hm,T.lq,T.q0,T.n4,T.uv,T.wT⟩
 | sum e _=>exact ⟨_,_,_,_,rfl,e,T.fk,T.cw.ha,T.cw.hn,T.cw.htk,T.cw.hm,.ins e T.fk T.cw.ha T.cw.hn T.cw.htk T.cw.hm,T.nr,T.qy,T.wn,T.wO,T.xx⟩
 | guard e _ _=>exact ⟨_,_,_,_,rfl,e,T.au,T.bm.ha,T.bm.hn,T.bm.htk,T.bm.hm,.ins e T.au T.bm.ha T.bm.hn T.bm.htk T.bm.hm,T.jo,T.ml,T.lh,T.tf,T.vk⟩
 | @pair _ _ k _ _ _ _ e _ _ =>
  cases k with
  | plus=>exact ⟨_,_,_,_,rfl,e,T.sj,T.dh.ha,T.dh.hn,T.dh.htk,T.dh.hm,.ins e T.sj T.dh.ha T.dh.hn T.dh.htk T.dh.hm,T.qv,T.q9,T.uu,T.v0,T.wc⟩
  | minus=>exact ⟨_,_,_,_,rfl,e,T.oo,T.cf.ha,T.cf.hn,T.cf.htk,T.cf.hm,.ins e T.oo T.cf.ha T.cf.hn T.cf.htk T.cf.hm,T.oq,T.mr,T.uf,T.t7,T.uy⟩
  | times=>exact ⟨_,_,_,_,rfl,e,T.p6,T.c9.ha,T.c9.hn,T.c9.htk,T.c9.hm,.ins e T.p6 T.c9.ha T.c9.hn T.c9.htk T.c9.hm,T.oh,T.n5,T.u0,T.u5,T.ux⟩
def A3g:Tm->List Str
 | .sum x b=>x::A3g b
 | _=>[]
def inS:Tm->Tm
 | .sum _ b=>inS b
 | u=>u
theorem D0c (h:isS u=false):A3g u=[]/\inS u=u:=by cases u <;> first | exact ⟨rfl,rfl⟩ | cases h
def axO:Tm->List Str
 | .place x=>[x]
 | .guard x _ _ _ _=>[x]
 | .read _ ix=>(ix.filter λe=>decide (¬e.1=("":Str))).map (·.1)
 | _=>[]
def B4n (u:Tm):List Str:=(prT u [] []).flatMap λe=>axO e.1
def gd1 (e:Gd) (u:Tm):Tm:=match e.2.2.2 with
 | true=> .guard e.1 e.2.1 e.2.2.1 u (.num 0)
 | false=> .guard e.1 e.2.1 e.2.2.1 (.num 0) u
def gdM (g:List Gd) (u:Tm):Tm:=g.foldr gd1 u
def D5o (A:Adr):Sp:=λvs H Q _=>∃(v:V) (u:Tm),vs=[v]/\Ob A H v u/\dep u<=100/\∀(q:Addr) (H':Hp),H q=none->A1f H H'->H' q=some (.lst ((A3g u).map V.str))->Q (.ref q) H'
def D8s (A:Adr):Sp:=λvs H Q _=>∃(v:V) (u:Tm) (s:List Str) (g:List Gd) (S:Addr->Prop),vs=[v]/\Fr S H/\A3h A (A1a S H) v (u,s,g)/\∀(v':V) (H':Hp),A1f H H'->A3h A (A1a S H') v' (inS u,s++A3g u,g)->Q v' H'
def C8i (A:Adr) (o:Op3):Sp:=λvs H Q _=>∃(v a b:V),vs=[v,a,b]/\∀(x dx:Addr) (H':Hp),H x=none->A1f H H'->H' x=some (.ins (A9w A o) dx [("left",a),("right",b)])->Q (.ref x) H'
def D5h (A:Adr):Sp:=λvs H Q _=>∃(g d:Addr) (x lo hi u v a b:V),vs=[.ref g,a,b]/\H g=some (.ins A.ae d [("axis",x),("low",lo),("high",hi),("inner",u),("outer",v)])/\∀(n dx:Addr) (H':Hp),H n=none->A1f H H'->H' n=some (.ins A.ae dx [("axis",x),("low",lo),("high",hi),("inner",a),("outer",b)])->Q (.ref n) H'
def C2q (A:Adr):Sp:=λvs H Q _=>∃(v:V) (gl:Addr) (gs:List V) (g:List Gd) (u:Tm) (S:Addr->Prop),vs=[v,.ref gl]/\Fr S H/\Ob A (A1a S H) v u/\H gl=some (.lst gs)/\Paired (D5v A (A1a S H)) gs g/\∀(v':V) (H':Hp),A1f H H'->Ob A (A1a S H') v' (gdM g u)->Q v' H'
def D4z (A:Adr):Sp:=λvs H Q _=>∃(v:V) (u:Tm),vs=[v]/\Ob A H v u/\TmW u/\∀(q:Addr) (H':Hp),H q=none->A1f H H'->H' q=some (.lst ((axO u).map V.str))->Q (.ref q) H'
def D6o (A:Adr):Sp:=λvs H Q _=>∃(v:V) (u:Tm),vs=[v]/\Ob A H v u/\TmW u/\dep u<=40/\nod u<=1000/\∀(q:Addr) (H':Hp),H q=none->A1f H H'->H' q=some (.lst ((B4n u).map V.str))->Q (.ref q) H'
abbrev lfO (A:Adr) (d:Addr) (kn l:Addr) (n:Nat):HO:= .ins A.ao d [("known",.ref kn),("lines",.ref l),("lifts",.int (n:Int))]
def sN (n:Nat):Str:="s"++(toString (n:Int):Str)
def C8c (A:Adr):Sp:=λvs H Q _=>∃(p d kn l:Addr) (n:Nat),vs=[.ref p]/\H p=some (lfO A d kn l n)/\n<=100000/\Q (.str (sN n)) (upd H p (lfO A d kn l (n+1)))
theorem B4d (T:Txt K mg t):FO P w base T.iy 1 (D5o t):=by
 refine T.iy.F.ok A4n (by walk_at "ln") λ_ A _ s H _ Q E hr h=> ?_
 ·obtain ⟨v,u,rfl,ob,hd,k⟩:=h;refine i02 _ (@A0c _ _ _ _ _ (@A0l _ _ 1 _ _ _ _ A4n.nd rfl (.inl rfl) (@A1q _ _ _ _ A0d) rfl (by first | exact Or.inl rfl | exact Or.inr rfl | assumption)) (@A0c _ _ _ _ _ (@A0l _ _ 2 _ _ _ _ A4n.nd rfl (.inl rfl) (pv 0) rfl (by first | exact Or.inl rfl | exact Or.inr rfl | assumption)) (@A0c _ _ _ _ _ (@A6r _ _ _ _ _ _ PassesOwn.never (A3c (A0y A1m (by rfl) T.ab Z0d (@A0a _ _ _ _ _ (pv 2) (@A0a _ _ _ _ _ (A5v (v:=V.ref t.bj) rfl T.xj rfl) A0d rfl) rfl))) (@A0c _ _ _ _ _ (A2t (A5g Z0k Z0n Z0o A2d (pv 1) (@A0a _ _ _ _ _ (A1i (pv 2) rfl) A0d rfl))) (@A0g _ _ _ (@A0l _ _ 2 _ _ _ _ A4n.nd rfl (.inl rfl) (A1i (pv 2) rfl) rfl (by first | exact Or.inl rfl | exact Or.inr rfl | assumption))))) (@A0g _ _ _ (@A0u _ _ _ _ (pv 1)))))) ?_;refine ⟨A0q rfl,λl hl=> ?_⟩;have s1:A1f H (upd H l (.lst [])):=A0f hl;refine i02 _ rfl ?_;refine i02 (λm Z H2=>∃(rest:V) (u':Tm) (dn:List Str),Z=[some v,Sro l,some rest]/\Ob t H rest u'/\A1f H H2/\H2 l=some (.lst (dn.map V.str))/\dn++A3g u'=A3g u/\dn.length+dep u'<=100/\m=dep u') (i0y (dep u) v u [] rfl ob s1 A0b rfl ⟨by show 0+dep u<=100;lia,rfl⟩) ?_;rintro m Z H2 zz;refine e09 zz ?_;clear zz;rintro rest u' dn rfl ob' s2 ⟨h2,ed,bd,rfl⟩
  cases id ob' with
  | @num o dd z eo =>
   have ty:B0p K H2 (.ref o) (.ref t.ah):= .ins (s2 _ _ eo) T.cq T.ba.ha T.ba.hn T.ba.htk T.ba.hm;have e:dn=A3g u:=by rw [<-ed];exact (Z0u _).symm
   exact i13 _ rfl _ _ _ _ rfl ty (A2i T.j1) false rfl (A2u (i02 _ rfl (k l H2 hl s2 (by rw [<-e];exact h2))))
  | @place o dd x eo =>
   have ty:B0p K H2 (.ref o) (.ref t.aj):= .ins (s2 _ _ eo) T.fi T.bn.ha T.bn.hn T.bn.htk T.bn.hm;have e:dn=A3g u:=by rw [<-ed];exact (Z0u _).symm
   exact i13 _ rfl _ _ _ _ rfl ty (A2i T.jb) false rfl (A2u (i02 _ rfl (k l H2 hl s2 (by rw [<-e];exact h2))))
  | @read o dd ll x ix eo rp =>
   have ty:B0p K H2 (.ref o) (.ref t.ag):= .ins (s2 _ _ eo) T.eh T.bu.ha T.bu.hn T.bu.htk T.bu.hm;have e:dn=A3g u:=by rw [<-ed];exact (Z0u _).symm
   exact i13 _ rfl _ _ _ _ rfl ty (A2i T.lq) false rfl (A2u (i02 _ rfl (k l H2 hl s2 (by rw [<-e];exact h2))))
  | @pair o dd op v1 v2 ll r eo ob1 ob2 =>
   have e:dn=A3g u:=by rw [<-ed];exact (Z0u _).symm
   have ki:kitOne K (.ref (A9w t op)) (.ref t.bj)=some false:=by cases op with
    | plus=>exact T.qv
    | minus=>exact T.oq
    | times=>exact T.oh
   exact i13 _ rfl _ _ _ _ rfl (C5r T (s2 _ _ eo)) (A2i ki) false rfl (A2u (i02 _ rfl (k l H2 hl s2 (by rw [<-e];exact h2))))
  | @guard o dd x lo hi v1 v2 ll r eo ob1 ob2 =>
   have ty:B0p K H2 (.ref o) (.ref t.ae):= .ins (s2 _ _ eo) T.au T.bm.ha T.bm.hn T.bm.htk T.bm.hm;have e:dn=A3g u:=by rw [<-ed];exact (Z0u _).symm
   exact i13 _ rfl _ _ _ _ rfl ty (A2i T.jo) false rfl (A2u (i02 _ rfl (k l H2 hl s2 (by rw [<-e];exact h2))))
  | @sum o dd x v2 bb eo ob1 =>
   have ty:B0p K H2 (.ref o) (.ref t.bj):= .ins (s2 _ _ eo) T.fk T.cw.ha T.cw.hn T.cw.htk T.cw.hm;have bd:dn.length+(dep bb+1)<=100:=bd;refine i13 _ rfl _ _ _ _ rfl ty (A2i T.nr) true rfl (A5h ?_);refine i02 (λZ' H'=>∃m',m'<dep (.sum x bb)/\∃(rest:V) (u':Tm) (dn:List Str),Z'=[some v,some (.ref l),some rest]/\Ob t H rest u'/\A1f H H'/\H' l=some (.lst (dn.map V.str))/\dn++A3g u'=A3g u/\dn.length+dep u'<=100/\m'=dep u') (λZ' H' z=>z) ?_;refine i06 _ rfl (.inl (i01 rfl _ (SqL.of h2))) (i16 _ rfl o _ dd _ _ rfl (s2 _ _ eo) T.fk T.ij (by walk_at "lk") (i0s l _ _ rfl rfl h2 (A1l (by rw [Z08];lia)) ?_));have ol:o≠l:=λz=>by subst z;rw [hl] at eo;cases eo
   refine i16 _ rfl o _ dd _ _ rfl (by rw [A0k ol];exact s2 _ _ eo) T.fk T.ii (by walk_at "lk") ?_;refine i0v (dep bb) (by show dep bb<dep bb+1;lia) v2 bb (dn++[x]) rfl ob1 (A0s s2 hl) (i04 (by rw [A0b,Z0s];rfl) ?_ ?_ rfl)
   ·rw [<-ed,Z0z];rfl
   ·rw [Z06];show dn.length+1+dep bb<=100;lia
theorem A8u (T:Txt K mg t):FO P w base T.ff 4 (D8s t):=by
 have Ga4:= @A3q P w K mg base t T;refine T.ff.F.ok A6e (λvs H Q E h=> ?_) λ_ A _ s H _ Q E hr h=> ?_
 ·refine e08 h ?_;clear h;rintro v u ss g S ⟨rfl,_⟩;rfl
 ·refine e08 h ?_;clear h;rintro v u ss g S ⟨rfl,fr,pa,k⟩;refine i02 _ (@A0c _ _ _ _ _ (@A0l _ _ 1 _ _ _ _ A6e.nd rfl (.inl rfl) (pv 0) rfl (by first | exact Or.inl rfl | exact Or.inr rfl | assumption)) (@A0c _ _ _ _ _ (@A6r _ _ _ _ _ _ PassesOwn.never (A3c (A0y A1m (by rfl) T.ab Z0d (@A0a _ _ _ _ _ (A1i (pv 1) rfl) (@A0a _ _ _ _ _ (A5v (v:=V.ref t.bj) rfl T.xj rfl) A0d rfl) rfl))) (@A0g _ _ _ (@A0l _ _ 1 _ _ _ _ A6e.nd rfl (.inl rfl) (@A0z _ _ _ _ _ _ _ A1n (pcl Ga4 hr T.bh (@A0a _ _ _ _ _ (pv 1) A0d rfl)) A0e (λ_ _=>rfl)) rfl (by first | exact Or.inl rfl | exact Or.inr rfl | assumption)))) (@A0g _ _ _ (@A0u _ _ _ _ (pv 1))))) ?_;refine i02 _ rfl ?_;refine i02 (λm Z H2=>∃(rest:V) (u':Tm) (s':List Str),Z=[some v,some rest]/\A1f H H2/\A3h t (A1a S H2) rest (u',s',g)/\inS u'=inS u/\s'++A3g u'=ss++A3g u/\m=dep u') (i0y (dep u) v u ss rfl (A1f.refl _) pa rfl rfl rfl) ?_;rintro m Z H2 zz;refine e09 zz ?_;clear zz;rintro rest u' s' rfl s2 pa2 ⟨ei,et,rfl⟩;refine e0g (id pa2) ?_;rintro a dx tv sl gl gs rfl e0 ob0 hs0 hg0 ⟨bg,bs,pg⟩;have e2:=A0j _ _ e0;refine e0d ((C5v T (ob0.imp A0j)).ex) ?_;rintro o C dd fs rfl eo _ _ ⟨_,_,_,ty,k1,_⟩;refine i16 _ rfl a _ dx _ _ rfl e2 T.az T.bo (by walk_at "lk") ⟨_,(i0l _ _ _ rfl ty (i05 (A2i k1) (isS u') rfl ?_))⟩
  cases u' with
  | sum x b =>
   refine A5h ?_;refine i02 (λZ' H'=>∃m',m'<dep (.sum x b)/\∃(rest:V) (u':Tm) (s':List Str),Z'=[some v,some rest]/\A1f H H'/\A3h t (A1a S H') rest (u',s',g)/\inS u'=inS u/\s'++A3g u'=ss++A3g u/\m'=dep u') (λZ' H' z=>z) ?_;have fr2:Fr S H2:=λb hb=>fr b (s2.free hb);refine i0n _ rfl (.ref a) (.sum x b) s' g (i0a S rfl fr2 pa2 λq xs H3 hq s3 h3 ps=> ?_)
   cases ps with
   | cons p1 ps =>
    cases ps
    refine i0w q _ _ _ rfl rfl (SqL.of h3) (A1s (j:=0) rfl) ?_;exact i0v (dep b) (by show dep b<dep b+1;lia) _ b (s'++[x]) rfl (s2.trans s3) p1 (i00 ei (by rw [<-et,Z0z];rfl) rfl)
  | num z=>exact A2u (i02 _ rfl (k _ H2 s2 (by rw [show inS u= .num z from ei.symm,<-et];show A3h t (A1a S H2) _ (.num z,s'++[],g);rw [Z0u];exact pa2)))
  | place z=>exact A2u (i02 _ rfl (k _ H2 s2 (by rw [show inS u= .place z from ei.symm,<-et];show A3h t (A1a S H2) _ (.place z,s'++[],g);rw [Z0u];exact pa2)))
  | read z i=>exact A2u (i02 _ rfl (k _ H2 s2 (by rw [show inS u= .read z i from ei.symm,<-et];show A3h t (A1a S H2) _ (.read z i,s'++[],g);rw [Z0u];exact pa2)))
  | pair z l r=>exact A2u (i02 _ rfl (k _ H2 s2 (by rw [show inS u= .pair z l r from ei.symm,<-et];show A3h t (A1a S H2) _ (.pair z l r,s'++[],g);rw [Z0u];exact pa2)))
  | guard z i j l r=>exact A2u (i02 _ rfl (k _ H2 s2 (by rw [show inS u= .guard z i j l r from ei.symm,<-et];show A3h t (A1a S H2) _ (.guard z i j l r,s'++[],g);rw [Z0u];exact pa2)))
theorem B3v (T:Txt K mg t):FP P w mg base T.ge 3 (C8i t .plus):=by
 have Ga6:= @A5y P w K mg base t T;refine T.ge.F.ok B2u (by walk_at "ln") λ_ A _ s H _ Q E hr h=> ?_
 ·obtain ⟨v,a,b,rfl,k⟩:=h;refine i02 _ (@A0g _ _ _ (@A0u _ _ _ _ (pmk T.xW Ga6 hr T.yC T.bw.b (@A0a _ _ _ _ _ (pv 1) (@A0a _ _ _ _ _ (pv 2) A0d rfl) rfl)))) ?_;exact i0c _ rfl _ rfl λx dx hx hdx hne=>(i11 x _ dx _ _ rfl A0b (A7m T .plus) (B7o T .plus) (B9c T .plus) ⟨rfl,k x dx _ hx (A2h hx hdx) A0b⟩)
theorem B1x (T:Txt K mg t):FP P w mg base T.fw 3 (C8i t .minus):=by
 have Ga6:= @A5y P w K mg base t T;refine T.fw.F.ok B1v (by walk_at "ln") λ_ A _ s H _ Q E hr h=> ?_
 ·obtain ⟨v,a,b,rfl,k⟩:=h;refine i02 _ (@A0g _ _ _ (@A0u _ _ _ _ (pmk T.xC Ga6 hr T.xT T.bw.b (@A0a _ _ _ _ _ (pv 1) (@A0a _ _ _ _ _ (pv 2) A0d rfl) rfl)))) ?_;exact i0c _ rfl _ rfl λx dx hx hdx hne=>(i11 x _ dx _ _ rfl A0b (A7m T .minus) (B7o T .minus) (B9c T .minus) ⟨rfl,k x dx _ hx (A2h hx hdx) A0b⟩)
theorem B2a (T:Txt K mg t):FP P w mg base T.ft 3 (C8i t .times):=by
 have Ga6:= @A5y P w K mg base t T;refine T.ft.F.ok B1y (by walk_at "ln") λ_ A _ s H _ Q E hr h=> ?_
 ·obtain ⟨v,a,b,rfl,k⟩:=h;refine i02 _ (@A0g _ _ _ (@A0u _ _ _ _ (pmk T.xr Ga6 hr T.xR T.bw.b (@A0a _ _ _ _ _ (pv 1) (@A0a _ _ _ _ _ (pv 2) A0d rfl) rfl)))) ?_;exact i0c _ rfl _ rfl λx dx hx hdx hne=>(i11 x _ dx _ _ rfl A0b (A7m T .times) (B7o T .times) (B9c T .times) ⟨rfl,k x dx _ hx (A2h hx hdx) A0b⟩)
theorem moOk (T:Txt K mg t) (o:Op3):∃f fd,B0q K (A9w t o) "made_of" f/\A2y P w K mg base CX0 3 f fd ["self","left","right"] (C8i t o)/\A7o K fd ["self","left","right"] []:=by cases o with
 | plus=>exact i0d _ _ T.se (B3v T) T.ge.b
 | minus=>exact i0d _ _ T.qd (B1x T) T.fw.b
 | times=>exact i0d _ _ T.qp (B2a T) T.ft.b
theorem A4z (T:Txt K mg t):FP P w mg base T.ce 3 (D5h t):=by
 have Ga7:= @B0g P w K mg base t T;refine T.ce.F.ok B2b (λvs H Q E h=> ?_) λ_ A _ s H _ Q E hr h=> ?_
 ·refine e0f h ?_;clear h;rintro g d x lo hi u v a b ⟨rfl,_⟩;rfl
 ·refine e0f h ?_;clear h;rintro g d x lo hi u v a b ⟨rfl,e,k⟩;refine i02 _ (@A0g _ _ _ (@A0u _ _ _ _ (pmk T.wZ Ga7 hr T.p_ T.g9.b (@A0a _ _ _ _ _ (A1i (pv 0) rfl) (@A0a _ _ _ _ _ (A1i (pv 0) rfl) (@A0a _ _ _ _ _ (A1i (pv 0) rfl) (@A0a _ _ _ _ _ (pv 1) (@A0a _ _ _ _ _ (pv 2) A0d rfl) rfl) rfl) rfl) rfl)))) ?_;exact i16 _ rfl g _ d _ _ rfl e T.au T.fe (by walk_at "lk") (i16 _ rfl g _ d _ _ rfl e T.au T.ju (by walk_at "lk") (i16 _ rfl g _ d _ _ rfl e T.au T.iu (by walk_at "lk") (i0c _ rfl _ rfl λn dx hn hdx hne=>(i0f n dx _ _ (i0p _ _ _ rfl A0b rfl (k n dx _ hn (A2h hn hdx) A0b))))))
theorem C2s (T:Txt K mg t):FO P w base T.qr 5 (C2q t):=by
 have Ga8:= @A8t P w K mg base t T;refine T.qr.F.ok A5j (λvs H Q E h=> ?_) λ_ A _ s H _ Q E hr h=> ?_
 ·refine e08 h ?_;clear h;rintro v gl gs g u ⟨S,rfl,_⟩;rfl
 ·refine e0g h ?_;clear h;rintro v gl gs g u S rfl fr ob hgl pg k;have lg:=Paired.length pg;refine i02 _ (@A0c _ _ _ _ _ (@A0l _ _ 2 _ _ _ _ A5j.nd rfl (.inl rfl) (pv 0) rfl (by first | exact Or.inl rfl | exact Or.inr rfl | assumption)) (@A0c _ _ _ _ _ (A3d PassesOwn.never rfl (C1f rfl T.jq (@A0a _ _ _ _ _ (pv 1) A0d rfl)) (A3f (n:=2) rfl (A0v (A0n (i:=3) A5j.nd rfl (.inl rfl)) (A0v (A0n (i:=4) A5j.nd rfl (.inl rfl)) A2k))) (@A0g _ _ _ (@A1z _ _ _ _ _ _ _ _ (A3c (pv 4)) (@A0g _ _ _ (@A0l _ _ 2 _ _ _ _ A5j.nd rfl (.inl rfl) (B6i (pv 3) (@A0a _ _ _ _ _ (pv 2) (@A0a _ _ _ _ _ (pmk T.qh Ga8 hr T.ue T.cy.b (@A0a _ _ _ _ _ A0e A0d rfl)) A0d rfl) rfl)) rfl (by first | exact Or.inl rfl | exact Or.inr rfl | assumption))) (@A0g _ _ _ (@A0l _ _ 2 _ _ _ _ A5j.nd rfl (.inl rfl) (B6i (pv 3) (@A0a _ _ _ _ _ (pmk T.qh Ga8 hr T.ue T.cy.b (@A0a _ _ _ _ _ A0e A0d rfl)) (@A0a _ _ _ _ _ (pv 2) A0d rfl) rfl)) rfl (by first | exact Or.inl rfl | exact Or.inr rfl | assumption)))))) (@A0g _ _ _ (@A0u _ _ _ _ (pv 2))))) ?_;refine i0u _ rfl _ rfl gl _ rfl (SqL.of hgl) ?_;refine B6e (K:=K) (a:=gl) (xs:=gs) (λi Z G=>∃(o3 o4:Option V) (v':V),Z=[some v,Sro gl,some v',o3,o4]/\A1f H G/\Ob t (A1a S G) v' (gdM (g.drop (g.length-i)) u)) (i0l none none v rfl (A1f.refl _) (by rw [Nat.sub_zero,List.drop_length];exact ob)) (by rintro i Z G ⟨_,_,_,_,sg,_⟩;exact SqL.of (sg _ _ hgl)) ?_ ?_
  ·rintro i y Z G hi hy ⟨o3,o4,v',rfl,sg,ob'⟩;obtain ⟨e,he,tp,go,dx,u1,w1,rfl,htp,hgo⟩:=B2l pg hy;have htp':=sg _ _ (A0j _ _ htp);have hgo':=sg _ _ (A0j _ _ hgo)
   have ed:g.drop (g.length-(i+1))=e::g.drop (g.length-i):=by
    have hlt:=(Z03.mp he);have e1:gs.length-1-i=g.length-(i+1):=by lia
    rw [e1] at he;have h1:=(Z03.mp he);rw [Z1u h1.1,h1.2];congr 2
    lia
   have eg:gdM (g.drop (g.length-(i+1))) u=gd1 e (gdM (g.drop (g.length-i)) u):=by rw [ed];rfl
   rw [eg];generalize gdM (g.drop (g.length-i)) u=tm at ob';refine i17 tp _ rfl (SqT.of htp') rfl _ _ rfl _ _ rfl rfl ?_;obtain ⟨x,lo,hi',bb⟩:=e;refine i0c _ rfl bb rfl ?_;have frG:∀{G':Hp},A1f G G'->Fr S G':=λs b hb=>fr b (sg.free (s.free hb))
   cases bb with
   | true =>
    refine A5h ?_;refine i0n _ rfl go _ dx _ (i1a _ _ _ _ _ rfl hgo' T.au T.ef (by walk_at "lk") (A4z T) (hr.mono (by lia)) T.ce.b (i02 _ rfl λn dn hn hdn hne=>(i0y n _ dn _ rfl A0b T.cq T.cj rfl ?_)));have s1:A1f G (upd (upd (upd G dn (.own n)) n (.ins t.ah dn [])) n (.ins t.ah dn [("number",.int 0)])):=A2h hn hdn;have en:upd (upd (upd G dn (.own n)) n (.ins t.ah dn [])) n (.ins t.ah dn [("number",.int 0)]) n=some (.ins t.ah dn [("number",.int 0)]):=A0b;generalize upd (upd (upd G dn (.own n)) n (.ins t.ah dn [])) n (.ins t.ah dn [("number",.int 0)])=G1 at s1 en;refine i03 go dx (i0f (.str x) (.int lo) (.int hi') u1 (i0l w1 v' (.ref n) rfl (s1 _ _ hgo') λq dq G2 hq s2 hq2=> ?_));exact i0l _ _ (.ref q) rfl (sg.trans (s1.trans s2)) (.guard (A0i (frG s1 q hq) hq2) (ob'.imp (A0h (s1.trans s2))) (.num (A0i (frG (A1f.refl _) n hn) (s2 _ _ en))))
   | false =>
    refine A2u ?_;refine i0n _ rfl go _ dx _ (i1a _ _ _ _ _ rfl hgo' T.au T.ef (by walk_at "lk") (A4z T) (hr.mono (by lia)) T.ce.b λn dn hn hdn hne=>(i0w n _ dn _ rfl A0b T.cq T.cj (i05 rfl _ rfl ?_)));have s1:A1f G (upd (upd (upd G dn (.own n)) n (.ins t.ah dn [])) n (.ins t.ah dn [("number",.int 0)])):=A2h hn hdn;have en:upd (upd (upd G dn (.own n)) n (.ins t.ah dn [])) n (.ins t.ah dn [("number",.int 0)]) n=some (.ins t.ah dn [("number",.int 0)]):=A0b;generalize upd (upd (upd G dn (.own n)) n (.ins t.ah dn [])) n (.ins t.ah dn [("number",.int 0)])=G1 at s1 en;refine i03 go dx (i0f (.str x) (.int lo) (.int hi') u1 (i0l w1 (.ref n) v' rfl (s1 _ _ hgo') λq dq G2 hq s2 hq2=> ?_));exact i0l _ _ (.ref q) rfl (sg.trans (s1.trans s2)) (.guard (A0i (frG s1 q hq) hq2) (.num (A0i (frG (A1f.refl _) n hn) (s2 _ _ en))) (ob'.imp (A0h (s1.trans s2))))
  ·rintro Z G ⟨o3,o4,v',rfl,sg,ob'⟩;have e0:g.drop (g.length-gs.length)=g:=by rw [lg,Nat.sub_self];rfl
   rw [e0] at ob';exact i02 _ rfl (k v' G sg ob')
theorem A8q (T:Txt K mg t):FP P w mg base T.cv 1 (C8c t):=by
 refine T.cv.F.ok A5e (λvs H Q E h=> ?_) λ_ A _ s H _ Q E hr h=> ?_
 ·refine e08 h ?_;clear h;rintro p d kn l n ⟨rfl,_⟩;rfl
 ·refine e08 h ?_;clear h;rintro p d kn l n ⟨rfl,e,ln,k⟩;refine i02 _ (@A0c _ _ _ _ _ (@A0l _ _ 1 _ _ _ _ A5e.nd rfl (.inl rfl) (A1i (pv 0) rfl) rfl (by first | exact Or.inl rfl | exact Or.inr rfl | assumption)) (@A0c _ _ _ _ _ (A2g (pv 0) (@A0r _ _ _ _ _ _ _ _ A2r (pv 1) A0e) rfl) (@A0g _ _ _ (@A0u _ _ _ _ (B9l (D0u (B7b (pv 1) C3y))))))) ?_;refine i16 _ rfl p _ d _ _ rfl e T.be T.fm (by walk_at "lk") ?_;have z0:Sm (n:Int):=by unfold Sm;lia
  have l1:=B3f z0;have e0:(Str.empty++("s":Str)).length<=1:=by decide +kernel
  have e1:(Str.empty++("s":Str)++(toString (n:Int):Str)).length<=60:=by rw [Str.length_append];lia
  have e2:A4h "lifts" (V.int ((n:Int)+1)) ([("known",.ref kn),("lines",.ref l),("lifts",.int (n:Int))]:List (Str×V))=([("known",.ref kn),("lines",.ref l),("lifts",.int ((n+1:Nat):Int))]:List (Str×V)):=by rw [A1j (by decide +kernel),A1j (by decide +kernel),A4h,Z12 rfl];rfl
  refine i0m _ rfl _ _ rfl rfl (i12 _ rfl p _ d _ rfl e T.be T.fm (by show 3<1000;decide) ?_);rw [e2];refine i05 (A1k (by lia)) _ rfl (i0a _ (.inr (i06 _ rfl (B1p z0) rfl)) (A1k (by lia)) (A1k (by lia)) ?_);have e3:Str.empty++("s":Str)++(toString (n:Int):Str)=sN n:=by rw [Str.empty_append];rfl
  rw [e3];exact k
theorem B9d:∀(u:Tm) (s:List Str) (g:List Gd),TmW u->∀e∈prT u s g,TmW e.1
 | .num _,_,_,h=>λe m=>by rw [Z0w.mp m];exact h
 | .place _,_,_,h=>λe m=>by rw [Z0w.mp m];exact h
 | .read _ _,_,_,h=>λe m=>by rw [Z0w.mp m];exact h
 | .sum x b,s,g,h=>λe m=>by
  rcases Z0e.mp m with rfl | m
  ·exact h
  ·exact B9d b _ _ h.2 e m
 | .pair k l r,s,g,h=>λe m=>by
  rcases Z0e.mp m with rfl | m
  ·exact h
  ·rcases Z07.mp m with m | m
   ·exact B9d l _ _ h.1 e m
   ·exact B9d r _ _ h.2 e m
 | .guard x lo hi l r,s,g,h=>λe m=>by
  rcases Z0e.mp m with rfl | m
  ·exact h
  ·rcases Z07.mp m with m | m
   ·exact B9d l _ _ h.2.2.2.1 e m
   ·exact B9d r _ _ h.2.2.2.2 e m
theorem C6w (h:TmW u):(axO u).length<=12:=by
 cases u with
 | read a ix =>
  show ((ix.filter _).map _).length<=12;rw [Z08];have h1:=List.length_filter_le (λe:Str×Int=>decide (¬e.1=("":Str))) ix;have h2:=h.2.1
  lia
 | num z=>exact Z1e _
 | place z=>show 1<=12;lia
 | sum x b=>exact Z1e _
 | pair k l r=>exact Z1e _
 | guard x lo hi l r=>show 1<=12;lia
theorem C0o:∀(es:List PT),(∀e∈es,TmW e.1)->(es.flatMap λe=>axO e.1).length<=12*es.length
 | [],_=>Z1e _
 | e::es,h=>by
  have h1:=C6w (h e (by simp));have h2:=C0o es λe he=>h e (by simp [he]);rw [List.flatMap_cons,Z06,Z0y]
  lia
theorem C2h (T:Txt K mg t):FO P w base T.qf 1 (D4z t):=by
 refine T.qf.F.ok C3o (by walk_at "ln") λ_ A _ s H _ Q E hr h=> ?_
 ·obtain ⟨v,u,rfl,ob,hw,k⟩:=h;refine e0d ((C5v T ob).ex) ?_;rintro o C dd fs rfl eo c1 c2 ⟨c3,c4,c5,ty,k1,k2,k3,k4,k5⟩;refine i02 _ (@A0c _ _ _ _ _ (@A1z _ _ _ _ _ _ _ _ (A3c (A0y B4z (by rfl) T.ab Z0d (@A0a _ _ _ _ _ (pv 0) (@A0a _ _ _ _ _ (@A1o _ _ _ _ _ (@A0a _ _ _ _ _ (A5v (v:=V.ref t.aj) rfl T.xV rfl) (@A0a _ _ _ _ _ (A5v (v:=V.ref t.ae) rfl T.p_ rfl) A0d rfl) rfl)) A0d rfl) rfl))) (@A0g _ _ _ (@A0u _ _ _ _ (@A1q _ _ _ _ (@A0a _ _ _ _ _ (A1i (pv 0) rfl) A0d rfl)))) A1d) (@A0c _ _ _ _ _ (@A1z _ _ _ _ _ _ _ _ (A3c (A0y A1m (by rfl) T.ab Z0d (@A0a _ _ _ _ _ (pv 0) (@A0a _ _ _ _ _ (A5v (v:=V.ref t.ag) rfl T.xJ rfl) A0d rfl) rfl))) (@A0g _ _ _ (@A0u _ _ _ _ (B8r (N':=["axis","shift"]) (ix:=(List.replicate 2 none)) (g:=D0w K 2 (A8r (A5w 0) (A8r (A5w 1) D0l))) (tc:=B7x (tOp rNe (C0u 0) (tC (.str "")))) rfl (A2p rfl (by decide +kernel) (by decide +kernel)) (A2n rfl) (A2q (A1i (pv 0) rfl)) (λ_ _ _ _=>(A3f (n:=2) rfl (A0v (A0n (i:=0) B8q rfl (.inl rfl)) (A0v (A0n (i:=1) B8q rfl (.inl rfl)) A2k)))) (λ_ _ _ _=>(@A0o _ _ _ _ _ _ _ _ C8v (pv 0) A1h (A1e _))) (λ_ _ _ _=>(pv 0))))) A1d) (@A0g _ _ _ (@A0u _ _ _ _ (@A1q _ _ _ _ A0d))))) ?_;refine i06 _ rfl (A0q rfl) λtp htp=> ?_;obtain ⟨H1,s1,h1,eNH⟩:=nH (o:= .tup [.ref t.aj,.ref t.ae]) htp
  try rw [eNH]
  refine i03 o C (i1a dd fs tp _ _ rfl (s1 _ _ eo) c1 c2 c3 c4 c5 h1 (i05 (D9d k4 k3) _ rfl ?_));have ty1:B0p K H1 (.ref o) (.ref C):= .ins (s1 _ _ eo) c1 c2 c3 c4 c5
  cases u with
  | num z=>exact A2u (i13 _ rfl _ _ _ _ rfl ty1 (A2i k5) false rfl (A2u ⟨A0q rfl,λq hq=>k q _ (s1.free hq) (s1.trans (A0f hq)) A0b⟩))
  | sum x b=>exact A2u (i13 _ rfl _ _ _ _ rfl ty1 (A2i k5) false rfl (A2u ⟨A0q rfl,λq hq=>k q _ (s1.free hq) (s1.trans (A0f hq)) A0b⟩))
  | pair x l r=>exact A2u (i13 _ rfl _ _ _ _ rfl ty1 (A2i k5) false rfl (A2u ⟨A0q rfl,λq hq=>k q _ (s1.free hq) (s1.trans (A0f hq)) A0b⟩))
  | place x =>
   cases ob with
   | @place a dx _ e=>exact A5h (i16 _ rfl o _ dx _ _ rfl (s1 _ _ e) T.fi T.iw (by walk_at "lk") ⟨A0q rfl,λq hq=>k q _ (s1.free hq) (s1.trans (A0f hq)) A0b⟩)
  | guard x lo hi l r =>
   cases ob with
   | @guard a dx _ _ _ _ _ _ _ e _ _=>exact A5h (i16 _ rfl o _ dx _ _ rfl (s1 _ _ e) T.au T.fe (by walk_at "lk") ⟨A0q rfl,λq hq=>k q _ (s1.free hq) (s1.trans (A0f hq)) A0b⟩)
  | read z ix =>
   cases ob with
   | @read a dx l _ _ e rp =>
    obtain ⟨_,es,q,el,rs⟩:=A5q (show Rep H (.ref l) (.list (ix.map B0v)) from rp);cases q;have hl:=rs.len;rw [Z08] at hl;have hl12:=hw.2.1;refine A2u (i13 _ rfl _ _ _ _ rfl ty1 (A2i k5) true rfl (A5h ?_));refine i16 _ rfl o _ dx _ _ rfl (s1 _ _ e) T.eh T.fu (by walk_at "lk") (i06 l rfl ⟨_,SqL.of (s1 _ _ el)⟩ λD hD=> ?_);refine A7f (K:=K) (a:=l) (D:=D) (xs:=es) (λi ys H2=>A1f H1 H2/\H2 D=some (.lst ys)/\ys=(axO (.read z (ix.take i))).map V.str/\ys.length<=i) (i04 (A0f hD) A0b rfl (Z09 _)) (λi ys H2 ⟨s2,_⟩=>SqL.of (s2 _ _ (s1 _ _ el))) ?_ ?_
    ·rintro i x ys H2 hx ⟨s2,hD2,ey,ly⟩;have hi:i<ix.length:=by have:=(Z03.mp hx).1;lia
     obtain ⟨d,hd,rx⟩:=rs.get2 hx;have hie:ix[i]? =some ix[i]:=Z0b hi;rw [Z1z,hie] at hd;cases hd;obtain ⟨q,rfl,eq⟩:=C6n rx;generalize ix[i]=e0 at hie eq
     have ea:axO (.read z (ix.take (i+1)))=axO (.read z (ix.take i))++(if e0.1=("":Str) then [] else [e0.1]):=by
      show ((ix.take (i+1)).filter _).map _=((ix.take i).filter _).map _++_;rw [Z14,hie,Z2f,List.filter_append,Z0s,List.filter_cons,List.filter_nil];by_cases z0:e0.1=("":Str)
      ·rw [Z12 z0,Z1j (λh=>h z0)];rfl
      ·rw [Z0t z0,Z20 z0];rfl
     refine i17 q _ rfl (SqT.of (s2 _ _ (s1 _ _ eq))) rfl _ _ rfl _ _ rfl rfl (i05 True.intro _ rfl ?_);refine i05 rfl _ rfl ?_;by_cases z0:e0.1=("":Str)
     ·rw [z0];refine A2u (i04 s2 hD2 ?_ (by lia));rw [ey,ea,Z12 z0,Z0u]
     ·rw [Z1j (λh=>z0 (V.str.inj h))];refine A5h (i02 _ rfl (i0g hD2 (A1l (by lia)) (A0s s2 hD) A0b ?_ (by rw [Z06];simp only [Z0y,Z2g];lia)));rw [ey,ea,Z0t z0,Z0s];rfl
    ·rintro ys H2 ⟨s2,hD2,rfl,_⟩;rw [hl,Z18] at hD2;exact k D H2 (s1.free hD) (s1.trans s2) hD2
theorem C2n (T:Txt K mg t):FO P w base T.qj 47 (D6o t):=by
 have Ga9:= @B9u P w K mg base t T;have Gb0:= @C2h P w K mg base t T;refine T.qj.F.ok B0x (by walk_at "ln") λ_ A _ s H _ Q E hr h=> ?_
 ·refine e06 h ?_;clear h;rintro v u rfl ob hw ⟨hd,hn,k⟩;refine i02 _ (@A0c _ _ _ _ _ (@A0l _ _ 1 _ _ _ _ B0x.nd rfl (.inl rfl) (@A1q _ _ _ _ A0d) rfl (by first | exact Or.inl rfl | exact Or.inr rfl | assumption)) (@A0c _ _ _ _ _ (A3d PassesOwn.never rfl (A2q (pcl Ga9 hr T.nc (@A0a _ _ _ _ _ (pv 0) A0d rfl))) (A0n (i:=2) B0x.nd rfl (.inl rfl)) (@A0g _ _ _ (A2t (A5g Z0k PySem.F.slot_list_extend PySem.F.type_list_extend B8f (pv 1) (@A0a _ _ _ _ _ (pcl Gb0 hr T.qf (@A0a _ _ _ _ _ (A1i (pv 2) rfl) A0d rfl)) A0d rfl))))) (@A0g _ _ _ (@A0u _ _ _ _ (pv 1))))) ?_;refine ⟨A0q rfl,λl hl=> ?_⟩;have s1:A1f H (upd H l (.lst [])):=A0f hl;refine i0v _ rfl v u (λb=>b≠l) rfl (λb hb z=>by subst z;rw [A0b] at hb;cases hb) (ob.imp (λb o z=>A0i (S:=λb=>b≠l) (A1g z hl) (s1 _ _ z))) (i00 hd hn λq xs H2 hq s2 h2 ps=>(i06 q rfl ⟨_,SqL.of h2⟩ ?_));have ql:q≠l:=λz=>by subst z;rw [A0b] at hq;cases hq
  have lp:=Paired.length ps;have tot:=C0o (prT u [] []) (B9d u [] [] hw);rw [A5s] at lp;rw [A5s] at tot;have hl2:=s2 _ _ (A0b (H:=H) (a:=l) (o:= .lst []))
  refine A5i (K:=K) (a:=q) (xs:=xs) (λi Z H3=>∃(o2:Option V),Z=[some v,Sro l,o2]/\A1f H H3/\A1f (A1a (λb=>b≠l) H2) H3/\H3 l=some (.lst ((((prT u [] []).take i).flatMap λe=>axO e.1).map V.str)))
   (i0a none rfl (s1.trans s2) A0j hl2) (λi Z H3 _ zq=>by obtain ⟨_,_,_,s3,_⟩:=zq;exact SqL.of (s3 _ _ (A0i ql h2))) ?_ ?_
  ·rintro i y Z H3 hy ⟨o2,rfl,s3,r3,hl3⟩;obtain ⟨e,he,pe⟩:=B2l ps hy;have hm:=Z13 he;have we:=B9d u [] [] hw e hm;refine e08 pe ?_;clear pe;rintro a dx tv sl gl ⟨gs,rfl,e0,ob0,_⟩;refine i06 _ rfl (.inl (i01 rfl _ (SqL.of hl3))) (i16 _ rfl a _ dx _ _ rfl (r3 _ _ e0) T.az T.bo (by walk_at "lk") (i0k tv e.1 rfl (ob0.imp r3) we λq2 H4 hq2 s4 h4=> ?_));have lt:=C0o ((prT u [] []).take i) λe he=>B9d u [] [] hw e (Z2p he);rw [Z0x,A5s] at lt;have la:=C6w we;refine i0y l q2 _ _ rfl rfl (s4 _ _ hl3) h4 (A1k (by rw [Z08,Z08];lia)) ?_;refine i0a _ rfl (A0s (s3.trans s4) hl) (λb o z=> ?_) ?_
   ·rw [A0k (A0t z).1];exact s4 _ _ (r3 _ _ z)
   ·rw [A0b,Z14,he,Z2f,List.flatMap_append,Z0s,List.flatMap_cons,List.flatMap_nil,Z0u]
  ·rintro Z H3 ⟨o2,rfl,s3,r3,hl3⟩;have lp2:xs.length=(prT u [] []).length:=Paired.length ps;rw [lp2,Z18] at hl3;exact i02 _ rfl (k l H3 hl s3 hl3)
abbrev Ln:=Str×List Str×List Str×Tm
abbrev LS:=Nat×List Ln
def C0t (kn pend:List Str) (b:Tm):List Str:=kn.filter λx=>decide (x∈B4n b)&&decide (x∉pend)
def lfR (kn pend:List Str) (n:Nat) (b:Tm):Tm:= .read (sN n) ((C0t kn pend b).map λx=>(x,(0:Int)))
def lfL (kn pend:List Str) (n:Nat) (b:Tm):Ln:=(sN n,C0t kn pend b,pend,b)
def fin (kn pend:List Str) (g:List Gd) (r:Tm×LS):Tm×LS:=match pend with
 | []=>r
 | x::s=>(lfR kn (x::s) r.2.1 (gdM g r.1),r.2.1+1,r.2.2++[lfL kn (x::s) r.2.1 (gdM g r.1)])
def wsP (kn:List Str):Tm->List Str->List Gd->LS->Tm×LS
 | .sum x b,pend,g,z=>wsP kn b (pend++[x]) g z
 | .pair k l r,pend,g,z=>fin kn pend g (.pair k (wsP kn l [] g z).1 (wsP kn r [] g (wsP kn l [] g z).2).1,(wsP kn r [] g (wsP kn l [] g z).2).2)
 | .guard x lo hi l r,pend,g,z=>fin kn pend g (.guard x lo hi (wsP kn l [] (g++[(x,lo,hi,true)]) z).1 (wsP kn r [] (g++[(x,lo,hi,false)]) (wsP kn l [] (g++[(x,lo,hi,true)]) z).2).1,(wsP kn r [] (g++[(x,lo,hi,false)]) (wsP kn l [] (g++[(x,lo,hi,true)]) z).2).2)
 | .num n,pend,g,z=>fin kn pend g (.num n,z)
 | .place x,pend,g,z=>fin kn pend g (.place x,z)
 | .read a ix,pend,g,z=>fin kn pend g (.read a ix,z)
theorem C4o {kn:List Str}:∀(u:Tm) (pend:List Str) (g:List Gd) (z:LS),wsP kn u pend g z=fin kn (pend++A3g u) g (wsP kn (inS u) [] g z)
 | .num _,pend,_,_=>by show _=fin kn (pend++[]) _ _;rw [Z0u];rfl
 | .place _,pend,_,_=>by show _=fin kn (pend++[]) _ _;rw [Z0u];rfl
 | .read _ _,pend,_,_=>by show _=fin kn (pend++[]) _ _;rw [Z0u];rfl
 | .pair _ _ _,pend,_,_=>by show _=fin kn (pend++[]) _ _;rw [Z0u];rfl
 | .guard _ _ _ _ _,pend,_,_=>by show _=fin kn (pend++[]) _ _;rw [Z0u];rfl
 | .sum x b,pend,g,z=>by
  show wsP kn b (pend++[x]) g z=fin kn (pend++x::A3g b) g (wsP kn (inS b) [] g z);rw [C4o b,Z0z];rfl
def GdW (g:List Gd):Prop:=∀e∈g,A8k e.1/\Sm e.2.1/\Sm e.2.2.1
theorem GdW.add (h:GdW g) {lo hi:Int} {b:Bool} (hx:A8k x) (h1:Sm lo) (h2:Sm hi):GdW (g++[(x,lo,hi,b)]):=λe he=>by
 rcases Z07.mp he with he | he
 ·exact h e he
 ·rw [Z0w.mp he];exact i00 hx h1 h2
theorem sm0:Sm 0:=by unfold Sm;decide
theorem C1p:∀(g:List Gd) (u:Tm),GdW g->TmW u->TmW (gdM g u)/\dep (gdM g u)<=g.length+dep u/\nod (gdM g u)=2*g.length+nod u
 | [],u,_,hu=>(i00 hu (by show dep u<=0+dep u;lia) (by show nod u=2*0+nod u;lia))
 | e::g,u,hg,hu=>by
  obtain ⟨h1,h2,h3⟩:=C1p g u (λe he=>hg e (by simp [he])) hu;obtain ⟨g1,g2,g3⟩:=hg e (by simp);have dp:=A4y u;obtain ⟨x,lo,hi,b⟩:=e;have e1:gdM ((x,lo,hi,b)::g) u=gd1 (x,lo,hi,b) (gdM g u):=rfl;rw [e1];have dq:=A4y (gdM g u);generalize gdM g u=m at h1 h2 h3 dq
  cases b with
  | true=>exact i00 (i08 g1 g2 g3 h1 sm0) (by simp only [gd1,dep,Z0y];lia) (by simp only [gd1,nod,Z0y];lia)
  | false=>exact i00 (i08 g1 g2 g3 sm0 h1) (by simp only [gd1,dep,Z0y];lia) (by simp only [gd1,nod,Z0y];lia)
def C5k (e:Ln):Prop:=e.1.length<=60/\e.2.1.length<=12/\(∀x∈e.2.1,A8k x)/\e.2.2.1.length<=100/\TmW e.2.2.2/\dep e.2.2.2<=40/\nod e.2.2.2<=1000
def C7r (kn:List Str):Prop:=kn.length<=12/\∀x∈kn,A8k x
structure WsR (z:LS) (u:Tm) (c:Nat) (r:Tm×LS):Prop where
 w:TmW r.1
 d:dep r.1<=dep u
 n:nod r.1<=nod u
 k:r.2.1<=z.1+nod u+c
 l:r.2.2.length<=z.2.length+nod u+c
 a:∀e∈r.2.2,C5k e
theorem B5b (h:C7r kn):(C0t kn pend b).length<=12/\∀x∈C0t kn pend b,A8k x:=⟨Z1n (List.length_filter_le _ _) h.1,λx hx=>h.2 x (List.mem_filter.mp hx).1⟩
theorem C4s (h:n<=200000):(sN n).length<=60:=by
 have z0:Sm (n:Int):=by unfold Sm;lia
 have l1:=B3f z0;have e0:(("s":Str)).length=1:=by decide +kernel
 unfold sN;rw [Str.length_append,e0]
 lia
theorem D4o (h:C7r kn) (hn:n<=200000):TmW (lfR kn pend n b):=by
 obtain ⟨h1,h2⟩:=B5b (pend:=pend) (b:=b) h;refine i00 (C4s hn) (by rw [Z08];exact h1) λe he=> ?_;obtain ⟨x,hx,rfl⟩:=Z2c.mp he;exact ⟨h2 x hx,sm0⟩
theorem B7y (hk:C7r kn) (h:WsR z u 0 r) (hg:GdW g) (hd:g.length+dep u<=40) (hp:pend.length<=100) (hn:nod u<=500) (hz:z.1+nod u<=200000) (c:Nat) (hc:pend=[]\/c=1):WsR z u c (fin kn pend g r):=by
 cases pend with
 | nil=>exact ⟨h.w,h.d,h.n,by have:=h.k;show r.2.1<=_;lia,by have:=h.l;show r.2.2.length<=_;lia,h.a⟩
 | cons x s =>
  have hc:c=1:=by rcases hc with hc | hc;cases hc;exact hc
  subst hc;have hk2:=h.k;have hl:=h.l;have hd2:=h.d;have hn2:=h.n;have dp:=A4y u;have np:1<=nod u:=by cases u <;> simp only [nod] <;> lia
  obtain ⟨g1,g2,g3⟩:=C1p g r.1 hg h.w;obtain ⟨a1,a2⟩:=B5b (pend:=x::s) (b:=gdM g r.1) hk;refine ⟨D4o hk (by lia),by show dep (.read _ _)<=_;simp only [dep];lia,by show nod (.read _ _)<=_;simp only [nod];lia,by show r.2.1+1<=_;lia,by show (r.2.2++[_]).length<=_;rw [Z06];simp only [Z0y,Z2g];lia,λe he=> ?_⟩;rcases Z07.mp he with he | he
  ·exact h.a e he
  ·rw [Z0w.mp he];exact ⟨C4s (by lia),(i0g a1 a2 hp g1 (by show dep (gdM g r.1)<=40;lia) (by show nod (gdM g r.1)<=1000;lia))⟩
theorem C3i {kn:List Str} (hk:C7r kn):∀(u:Tm) (pend:List Str) (g:List Gd) (z:LS),TmW u->GdW g->g.length+dep u<=40->pend.length+dep u<=100->nod u<=500->z.1+nod u<=200000->(∀e∈z.2,C5k e)->∀(c:Nat),(pend=[]\/c=1)->WsR z u c (wsP kn u pend g z)
 | .num n,pend,g,z,hw,hg,hd,hp,hn,hz,hl,c,hc=>B7y hk (z:=z) (u:= .num n) (r:=(.num n,z)) ⟨hw,Z09 _,Z09 _,by show z.1<=_;lia,by show z.2.length<=_;lia,hl⟩ hg hd (by lia) hn hz c hc
 | .place x,pend,g,z,hw,hg,hd,hp,hn,hz,hl,c,hc=>B7y hk (z:=z) (u:= .place x) (r:=(.place x,z)) ⟨hw,Z09 _,Z09 _,by show z.1<=_;lia,by show z.2.length<=_;lia,hl⟩ hg hd (by lia) hn hz c hc
 | .read a ix,pend,g,z,hw,hg,hd,hp,hn,hz,hl,c,hc=>B7y hk (z:=z) (u:= .read a ix) (r:=(.read a ix,z)) ⟨hw,Z09 _,Z09 _,by show z.1<=_;lia,by show z.2.length<=_;lia,hl⟩ hg hd (by lia) hn hz c hc
 | .sum x b,pend,g,z,hw,hg,hd,hp,hn,hz,hl,c,hc=>by
  simp only [dep,nod] at hd hp hn hz;have h:=C3i hk b (pend++[x]) g z hw.2 hg (by lia) (by rw [Z06];simp only [Z0y,Z2g];lia) (by lia) (by lia) hl 1 (.inr rfl);have h1:=h.d;have h2:=h.n;have h3:=h.k;have h4:=h.l;exact ⟨h.w,by show dep (wsP kn b (pend++[x]) g z).1<=_;simp only [dep];lia,by show nod (wsP kn b (pend++[x]) g z).1<=_;simp only [nod];lia,by show (wsP kn b (pend++[x]) g z).2.1<=_;simp only [nod];lia,by show (wsP kn b (pend++[x]) g z).2.2.length<=_;simp only [nod];lia,h.a⟩
 | .pair k l r,pend,g,z,hw,hg,hd,hp,hn,hz,hl,c,hc=>by
  have hd':=hd;have hp':=hp;have hn':=hn;have hz':=hz;simp only [dep,nod] at hd' hp' hn' hz';have a:=C3i hk l [] g z hw.1 hg (by lia) (by show 0+dep l<=100;lia) (by lia) (by lia) hl 0 (.inl rfl);have a3:=a.k;have b:=C3i hk r [] g (wsP kn l [] g z).2 hw.2 hg (by lia) (by show 0+dep r<=100;lia) (by lia) (by lia) a.a 0 (.inl rfl);have a1:=a.d;have a2:=a.n;have a4:=a.l;have b1:=b.d;have b2:=b.n;have b3:=b.k;have b4:=b.l;refine B7y hk (z:=z) (u:= .pair k l r) (r:=(.pair k (wsP kn l [] g z).1 (wsP kn r [] g (wsP kn l [] g z).2).1,(wsP kn r [] g (wsP kn l [] g z).2).2)) ⟨⟨a.w,b.w⟩,?_,?_,?_,?_,b.a⟩ hg hd (by lia) hn hz c hc
  ·simp only [dep];lia
  ·simp only [nod];lia
  ·simp only [nod];lia
  ·simp only [nod];lia
 | .guard x lo hi l r,pend,g,z,hw,hg,hd,hp,hn,hz,hl,c,hc=>by
  have hd':=hd;have hp':=hp;have hn':=hn;have hz':=hz;simp only [dep,nod] at hd' hp' hn' hz';obtain ⟨w1,w2,w3,w4,w5⟩:=hw;have lg:∀b:Bool,(g++[(x,lo,hi,b)]).length=g.length+1:=λb=>by simp
  have a:=C3i hk l [] (g++[(x,lo,hi,true)]) z w4 (hg.add w1 w2 w3) (by rw [lg];lia) (by show 0+dep l<=100;lia) (by lia) (by lia) hl 0 (.inl rfl);have a3:=a.k;have b:=C3i hk r [] (g++[(x,lo,hi,false)]) (wsP kn l [] (g++[(x,lo,hi,true)]) z).2 w5 (hg.add w1 w2 w3) (by rw [lg];lia) (by show 0+dep r<=100;lia) (by lia) (by lia) a.a 0 (.inl rfl);have a1:=a.d;have a2:=a.n;have a4:=a.l;have b1:=b.d;have b2:=b.n;have b3:=b.k;have b4:=b.l;refine B7y hk (z:=z) (u:= .guard x lo hi l r) (r:=(.guard x lo hi (wsP kn l [] (g++[(x,lo,hi,true)]) z).1 (wsP kn r [] (g++[(x,lo,hi,false)]) (wsP kn l [] (g++[(x,lo,hi,true)]) z).2).1,(wsP kn r [] (g++[(x,lo,hi,false)]) (wsP kn l [] (g++[(x,lo,hi,true)]) z).2).2)) ⟨(i08 w1 w2 w3 a.w b.w),?_,?_,?_,?_,b.a⟩ hg hd (by lia) hn hz c hc
  ·simp only [dep];lia
  ·simp only [nod];lia
  ·simp only [nod];lia
  ·simp only [nod];lia
abbrev S2 (p l:Addr):Addr->Prop:=λb=>b≠p/\b≠l
def K2 (p l:Addr) (H H':Hp):Prop:=∀b o,S2 p l b->H b=some o->H' b=some o
theorem K2.of (s:A1f H H'):K2 p l H H':=λb o _ e=>s _ _ e
theorem K2.trans {H2:Hp} (a:K2 p l H H') (b:K2 p l H' H2):K2 p l H H2:=λc o hc e=>b c o hc (a c o hc e)
theorem K2.atp:K2 p l H (upd H p o):=λb u hb e=>by rw [A0k hb.1];exact e
theorem K2.atl:K2 p l H (upd H l o):=λb u hb e=>by rw [A0k hb.2];exact e
theorem K2.rs (k:K2 p l H H') (np:¬S p) (nl:¬S l):A1f (A1a S H) (A1a S H'):=λb o z=>by
 have hb:=(A0t z).1;exact A0i hb (k b o ⟨λe=>np (e▸hb),λe=>nl (e▸hb)⟩ (A0t z).2)
theorem K2.free {b:Addr} {o':HO} (k:K2 p l H H') (hp:H' p=some o) (hl:H' l=some o') (hb:H' b=none):H b=none:=by
 cases e:H b with
 | none=>rfl
 | some u =>
  have h1:b≠p:=λz=>by subst z;rw [hp] at hb;cases hb
  have h2:b≠l:=λz=>by subst z;rw [hl] at hb;cases hb
  rw [k b u ⟨h1,h2⟩ e] at hb;cases hb
def C9y (A:Adr) (H:Hp) (v:V) (e:Ln):Prop:=∃(a dx c s:Addr) (n:V),v= .ref a/\H a=some (.ins A.aw dx [("name",.str e.1),("axes",.ref c),("sums",.ref s),("term",n)])/\H c=some (.lst (e.2.1.map V.str))/\H s=some (.lst (e.2.2.1.map V.str))/\Ob A H n e.2.2.2
theorem C9y.same {e:Ln} (h:C9y A H v e) (s:A1f H H'):C9y A H' v e:=by
 refine e0e h ?_;clear h;rintro a dx c b n rfl e1 e2 e3 e4;exact ⟨a,(i0w dx c b n rfl (s _ _ e1) (s _ _ e2) (s _ _ e3) (e4.imp s))⟩
structure B1m (A:Adr) (S:Addr->Prop) (H:Hp) (p l d ka:Addr) (kn:List Str) (z:LS):Prop where
 np:¬S p
 nl:¬S l
 fr:Fr S H
 ep:H p=some (lfO A d ka l z.1)
 hk:A1a S H ka=some (.lst (kn.map V.str))
 hl:∃xs,H l=some (.lst xs)/\Paired (C9y A (A1a S H)) xs z.2
theorem B1m.same {ka:Addr} (h:B1m A S H p l d ka kn z) (s:A1f H H'):B1m A S H' p l d ka kn z:=by
 obtain ⟨xs,e,r⟩:=h.hl;exact ⟨h.np,h.nl,λb hb=>h.fr b (s.free hb),s _ _ h.ep,A0h s _ _ h.hk,xs,s _ _ e,Paired.mapP r λ_ _ q=>q.same (A0h s)⟩
theorem B1m.out {ka D:Addr} (h:B1m A S H p l d ka kn z) (hD:H D=none):B1m A (λb=>S b/\b≠D) (upd H D o) p l d ka kn z:=by
 obtain ⟨xs,e,r⟩:=h.hl;have m:A1f (A1a S H) (A1a (λb=>S b/\b≠D) (upd H D o)):=λb u q=>A0i ⟨(A0t q).1,A1g (A0t q).2 hD⟩ ((A0f hD) _ _ (A0t q).2);refine ⟨λq=>h.np q.1,λq=>h.nl q.1,λb hb=> ?_,(A0f hD) _ _ h.ep,m _ _ h.hk,xs,(A0f hD) _ _ e,Paired.mapP r λ_ _ q=>q.same m⟩;have hne:b≠D:=λq=>by rw [q,A0b] at hb;cases hb
 rw [A0k hne] at hb;exact ⟨h.fr b hb,hne⟩
theorem B1m.upD {ka D:Addr} (h:B1m A (λb=>S b/\b≠D) H p l d ka kn z) (hp:D≠p) (hl:D≠l):B1m A (λb=>S b/\b≠D) (upd H D o) p l d ka kn z:=by
 obtain ⟨xs,e,r⟩:=h.hl;have m:A1f (A1a (λb=>S b/\b≠D) H) (A1a (λb=>S b/\b≠D) (upd H D o)):=A2o (A1f.refl _) λq=>q.2 rfl;refine ⟨h.np,h.nl,λb hb=> ?_,by rw [A0k hp.symm];exact h.ep,m _ _ h.hk,xs,by rw [A0k hl.symm];exact e,Paired.mapP r λ_ _ q=>q.same m⟩;have hne:b≠D:=λq=>by rw [q,A0b] at hb;cases hb
 rw [A0k hne] at hb;exact h.fr b hb
theorem B1m.back {ka D:Addr} (h:B1m A (λb=>S b/\b≠D) H p l d ka kn z) (np:¬S p) (nl:¬S l):B1m A S H p l d ka kn z:=by
 obtain ⟨xs,e,r⟩:=h.hl;have m:A1f (A1a (λb=>S b/\b≠D) H) (A1a S H):=A3b (A1f.refl _) λb o _ q=>q.1;exact ⟨np,nl,λb hb=>(h.fr b hb).1,h.ep,m _ _ h.hk,xs,e,Paired.mapP r λ_ _ q=>q.same m⟩
structure Lim (kn:List Str) (u:Tm) (g:List Gd) (z:LS):Prop where
 hk:C7r kn
 hw:TmW u
 hg:GdW g
 hd:g.length+dep u<=40
 hn:nod u<=500
 hz:z.1+nod u<=100000
 hl:z.2.length+nod u<=100000
 ha:∀e∈z.2,C5k e
theorem Lim.ok (h:Lim kn u g z):WsR z u 0 (wsP kn u [] g z):=by
 have:=h.hd;have:=h.hz;exact C3i h.hk u [] g z h.hw h.hg h.hd (by show 0+dep u<=100;lia) h.hn (by lia) h.ha 0 (.inl rfl)
def D2i (A:Adr) (n:Nat):Sp:=λvs H Q _=>∃(p l d ka:Addr) (S:Addr->Prop) (kn:List Str) (z:LS) (v:V) (u:Tm) (s:List Str) (g:List Gd),vs=[.ref p,v]/\B1m A S H p l d ka kn z/\A3h A (A1a S H) v (u,s,g)/\Lim kn u g z/\dep u<=n/\
 ∀(v':V) (H':Hp),K2 p l H H'->B1m A S H' p l d ka kn (wsP kn u [] g z).2->Ob A (A1a S H') v' (wsP kn u [] g z).1->Q v' H'
def D4f (A:Adr) (n:Nat):Sp:=λvs H Q _=>∃(p l d ka:Addr) (S:Addr->Prop) (kn:List Str) (z:LS) (v:V) (u:Tm) (s:List Str) (g:List Gd),vs=[.ref p,v]/\B1m A S H p l d ka kn z/\A3h A (A1a S H) v (u,s,g)/\Lim kn u g z/\dep u<=n/\isS u=true/\
 ∀(v':V) (H':Hp),K2 p l H H'->B1m A S H' p l d ka kn (wsP kn u [] g z).2->Ob A (A1a S H') v' (wsP kn u [] g z).1->Q v' H'
theorem D3j (T:Txt K mg t) {m0:Nat} (hm:5<=m) (hm0:m0<=m) (Gb1:A2y P w K mg base CX0 m t.fb t.iz B1w (D4f t n)) (Gb2:A2y P w K mg base CX0 m0 t.av t.bc B1w sp')
  (hs:∀(p l d ka:Addr) (S:Addr->Prop) (kn:List Str) (z:LS) (v:V) (u:Tm) (s:List Str) (g:List Gd) (H:Hp) (Q:VK),B1m t S H p l d ka kn z->A3h t (A1a S H) v (u,s,g)->Lim kn u g z->dep u+1<=n->(∀(v':V) (H':Hp),K2 p l H H'->B1m t S H' p l d ka kn (wsP kn u [] g z).2->Ob t (A1a S H') v' (wsP kn u [] g z).1->Q v' H')->sp' [.ref p,v] H Q E0) :
  A2y P w K mg base CX0 (m+1) t.av t.bc B1w (D2i t n):=by
 have Ga4:= @A3q P w K mg base t T;refine T.br.F.ok A4j (λvs H Q E h=> ?_) λ_ A _ s H _ Q E hr h=> ?_
 ·refine e0f h ?_;clear h;rintro p l d ka S kn z v u ⟨ss,g,rfl,_⟩;rfl
 ·refine e0f h ?_;clear h;rintro p l d ka S kn z v u ⟨ss,g,rfl,lf,pa,lm,hd,k⟩;refine e0g (id pa) ?_;rintro q dq tv sl gl gs rfl e0 ob0 hs0 hg0 ⟨bg,bs,pg⟩;have eq:=A0j _ _ e0;have ob:=ob0.imp A0j;have kt:=(C5v T ob0).ex;refine e0d kt ?_;clear kt;rintro o C dd fs rfl eo0 c1 c2 ⟨c3,c4,c5,_,k1,k2,k3,k4,k5⟩;have eo:=A0j _ _ eo0;have ty:B0p K H (.ref o) (.ref C):= .ins eo c1 c2 c3 c4 c5;refine i02 _ (@A0c _ _ _ _ _ (@A1z _ _ _ _ _ _ _ _ (A3c (A0y A1m (by rfl) T.ab Z0d (@A0a _ _ _ _ _ (A1i (pv 1) rfl) (@A0a _ _ _ _ _ (A5v (v:=V.ref t.bj) rfl T.xj rfl) A0d rfl) rfl))) (@A0g _ _ _ (@A0u _ _ _ _ (B2o (pv 0) T.be T.sr Gb1 (hr.mono (by lia)) T.n6.b .nil B4q (@A0a _ _ _ _ _ (pv 1) A0d rfl)))) A1d) (@A0c _ _ _ _ _ (@A1z _ _ _ _ _ _ _ _ (A3c (A0y B4z (by rfl) T.ab Z0d (@A0a _ _ _ _ _ (A1i (pv 1) rfl) (@A0a _ _ _ _ _ (@A1o _ _ _ _ _ (@A0a _ _ _ _ _ (A5v (v:=V.ref t.bq) rfl T.yu rfl) (@A0a _ _ _ _ _ (A5v (v:=V.ref t.ae) rfl T.p_ rfl) A0d rfl) rfl)) A0d rfl) rfl))) (@A0c _ _ _ _ _ (B6h (i₀:=2) (N':=["inner","self"]) (ix:=(List.replicate 1 none++[some 0])) A4j.nd rfl (.inl rfl) rfl (A8l (x:="self") rfl rfl rfl (by decide +kernel) (by decide +kernel)) (A6n (N0:=["inner"]) rfl (.inl rfl) (by walk_at "ix")) (A2q (pcl Ga4 hr T.bh (@A0a _ _ _ _ _ (pv 1) A0d rfl))) (λ_ _ _ _=>(A0n (i:=0) C4w rfl (.inl rfl))) (λ_ _ _ _=>(B2o (pv 1) T.be T.c7 Gb2 (hr.mono (by lia)) T.br.b .nil B4q (@A0a _ _ _ _ _ (pv 0) A0d rfl)))) (@A0g _ _ _ (@A0u _ _ _ _ (B6i (A1i (pv 1) rfl) (@A0a _ _ _ _ _ (@A0z _ _ _ _ _ _ _ A1n (pv 2) A0e (λ_ _=>rfl)) (@A0a _ _ _ _ _ (@A0z _ _ _ _ _ _ _ A1n (pv 2) A0e (λ_ _=>rfl)) A0d rfl) rfl))))) A1d) (@A0g _ _ _ (@A0u _ _ _ _ (A1i (pv 1) rfl))))) ?_;refine i16 _ rfl q _ dq _ _ rfl eq T.az T.bo (by walk_at "lk") ⟨_,(i0l _ _ _ rfl ty (i05 (A2i k1) _ rfl ?_))⟩
  cases hS:isS u with
  | true=>exact A5h (i0v _ rfl p d _ rfl lf.ep (by walk_at "lk") (i02 _ rfl (i1d p l d ka S kn z _ u ss g rfl lf pa (i04 lm hd hS k))))
  | false =>
   refine A2u ?_;refine i16 _ rfl q _ dq _ _ rfl eq T.az T.bo (by walk_at "lk") ⟨A0q rfl,λtp htp=> ?_⟩;have s2:=A0f (o:= .tup [.ref t.bq,.ref t.ae]) htp;have h2:upd H tp (.tup [.ref t.bq,.ref t.ae]) tp=some (.tup [.ref t.bq,.ref t.ae]):=A0b;generalize upd H tp (.tup [.ref t.bq,.ref t.ae])=G at s2 h2;refine i03 o C (i1a dd fs tp _ _ rfl (s2 _ _ eo) c1 c2 c3 c4 c5 h2 (i05 (D9d k2 k3) _ rfl ?_));have lf2:=lf.same s2;have pa2:=pa.same (A0h (S:=S) s2);have eq2:=s2 _ _ eq;have eo2:=s2 _ _ eo;have leaf:isP u=false->isG u=false->wsP kn u [] g z=(u,z)->(λ(b:Bool)=>b) (isP u||isG u)=false:=λh1 h2 _=>by rw [h1,h2];rfl
   cases hB:(isP u||isG u) with
   | false =>
    have ew:wsP kn u [] g z=(u,z):=by
     cases u with
     | num _=>rfl
     | place _=>rfl
     | read _ _=>rfl
     | sum _ _=>cases hS
     | pair _ _ _=>cases hB
     | guard _ _ _ _ _=>cases hB
    refine A2u (i16 _ rfl q _ dq _ _ rfl eq2 T.az T.bo (by walk_at "lk") (k _ G (K2.of s2) (by rw [ew];exact lf2) (by rw [ew];exact ob0.imp (A0h s2))))
   | true =>
    refine A5h ?_
    obtain ⟨l',r',g1,g2,ek,m1,m2,d1,d2,ew,f,fd,ps,sp,lv,me,lu,fo,lv3,bi,mk⟩:∃(l' r':Tm) (g1 g2:List Gd),B6u u ss g=[(l',ss,g1),(r',ss,g2)]/\Lim kn l' g1 z/\Lim kn r' g2 (wsP kn l' [] g1 z).2/\dep l'+1<=n/\dep r'+1<=n/\(wsP kn u [] g z).2=(wsP kn r' [] g2 (wsP kn l' [] g1 z).2).2/\
      ∃(f:Addr) (fd:FuncData) (ps:List Str) (sp:Sp) (lv:Nat),B0q K C "made_of" f/\fs.lookup ("made_of":Str)=none/\A2y P w K mg base CX0 lv f fd ps sp/\lv<=3/\A7o K fd ps []/\∀(a b:V) (H6:Hp) (Q:VK),Fr S H6->H6 o=some (.ins C dd fs)->Ob t (A1a S H6) a (wsP kn l' [] g1 z).1->Ob t (A1a S H6) b (wsP kn r' [] g2 (wsP kn l' [] g1 z).2).1->(∀(v':V) (H7:Hp),A1f H6 H7->Ob t (A1a S H7) v' (wsP kn u [] g z).1->Q v' H7)->sp [.ref o,a,b] H6 Q E0:=by
     cases u with
     | num _=>cases hB
     | place _=>cases hB
     | read _ _=>cases hB
     | sum _ _=>cases hS
     | pair op l' r' =>
      cases ob with
      | @pair _ dx _ v1 v2 _ _ e o1 o2 =>
       cases e.symm.trans eo
       have x1:=lm.hd;have x2:=lm.hn;have x3:=lm.hz;have x4:=lm.hl;simp only [dep,nod] at x1 x2 x3 x4 hd;have m1:Lim kn l' g z:=⟨lm.hk,lm.hw.1,lm.hg,by lia,by lia,by lia,by lia,lm.ha⟩;have y1:=m1.ok.k;have y2:=m1.ok.l;obtain ⟨f,fd,me,fo,bi⟩:=moOk (P:=P) (w:=w) (base:=base) T op;refine i0y l' r' g g rfl m1 ⟨lm.hk,lm.hw.2,lm.hg,by lia,by lia,by lia,by lia,m1.ok.a⟩ (by lia) (by lia) ⟨rfl,(i11 f fd _ _ _ me (by walk_at "lk") fo (Z09 _) bi λa b H6 Q f6 e6 oa ob k6=> ?_)⟩;exact i0e _ a b rfl λx dx' H7 hx s7 h7=>k6 _ H7 s7 (.pair (A0i (f6 x hx) h7) (oa.imp (A0h s7)) (ob.imp (A0h s7)))
     | guard x lo hi l' r' =>
      cases ob with
      | @guard _ dx _ _ _ v1 v2 _ _ e o1 o2 =>
       cases e.symm.trans eo
       have x1:=lm.hd;have x2:=lm.hn;have x3:=lm.hz;have x4:=lm.hl;simp only [dep,nod] at x1 x2 x3 x4 hd;obtain ⟨w1,w2,w3,w4,w5⟩:=lm.hw;have lg:∀b:Bool,(g++[(x,lo,hi,b)]).length=g.length+1:=λb=>by simp
       have m1:Lim kn l' (g++[(x,lo,hi,true)]) z:=⟨lm.hk,w4,lm.hg.add w1 w2 w3,by rw [lg];lia,by lia,by lia,by lia,lm.ha⟩;have y1:=m1.ok.k;have y2:=m1.ok.l;refine i0y l' r' _ (g++[(x,lo,hi,false)]) rfl m1 ⟨lm.hk,w5,lm.hg.add w1 w2 w3,by rw [lg];lia,by lia,by lia,by lia,m1.ok.a⟩ (by lia) (by lia) ⟨rfl,(i11 _ _ _ _ _ T.ef (by walk_at "lk") (A4z T) (Z09 _) T.ce.b λa b H6 Q f6 e6 oa ob k6=> ?_)⟩;exact i03 o dd (i0f _ _ _ _ (i0l _ a b rfl e6 λx dx' H7 hx s7 h7=>k6 _ H7 s7 (.guard (A0i (f6 x hx) h7) (oa.imp (A0h s7)) (ob.imp (A0h s7)))))
    refine i0n _ rfl (.ref q) u ss g (i0a S rfl lf2.fr pa2 λlp xs H3 hlp s3 h3 pp=> ?_);rw [ek] at pp
    cases pp with
    | @cons x1 _ _ _ p1 pp =>
    cases pp with
    | @cons x2 _ _ _ p2 pp =>
    cases pp
    have lf3:=lf2.same s3;refine i06 lp rfl ⟨_,SqL.of h3⟩ λD hD=> ?_;have Dp:D≠p:=λe=>by rw [e,lf3.ep] at hD;cases hD
    have Dl:D≠l:=λe=>by obtain ⟨_,e2,_⟩:=lf3.hl;rw [e,e2] at hD;cases hD
    have sq:S2 p l q:=⟨λe=>lf.np (e▸(A0t e0).1),λe=>lf.nl (e▸(A0t e0).1)⟩;have so:S2 p l o:=⟨λe=>lf.np (e▸(A0t eo0).1),λe=>lf.nl (e▸(A0t eo0).1)⟩;have slp1:lp≠p:=λe=>by rw [e,lf2.ep] at hlp;cases hlp
    have slp2:lp≠l:=λe=>by obtain ⟨_,e2,_⟩:=lf2.hl;rw [e,e2] at hlp;cases hlp
    have slp:S2 p l lp:=⟨slp1,slp2⟩
    have mm:∀{H4:Hp},K2 p l H3 H4->A1f (A1a S H3) (A1a (λb=>S b/\b≠D) H4):=λ{H4} kk b u e=>by
     obtain ⟨e1,e2⟩:=A0t e;exact A0i ⟨e1,A1g e2 hD⟩ (kk b u ⟨λe=>lf.np (e▸e1),λe=>lf.nl (e▸e1)⟩ e2)
    have ku:∀{H4:Hp} {o:HO},K2 p l H3 H4->K2 p l H3 (upd H4 D o):=λ{H4 o} kk b u hb e=>by rw [A0k (A1g e hD)];exact kk b u hb e
    have mu:∀{H4:Hp} {o:HO},A1f (A1a (λb=>S b/\b≠D) H4) (A1a (λb=>S b/\b≠D) (upd H4 D o)):=A2o (A1f.refl _) λq=>q.2 rfl
    refine A2w (K:=K) (a:=lp) (D:=D) (xs:=[x1,x2]) (λi ys H4=>K2 p l H3 H4/\H4 D=some (.lst ys)/\((i=0/\ys=[]/\B1m t (λb=>S b/\b≠D) H4 p l d ka kn z)\/(i=1/\∃a,ys=[a]/\B1m t (λb=>S b/\b≠D) H4 p l d ka kn (wsP kn l' [] g1 z).2/\Ob t (A1a (λb=>S b/\b≠D) H4) a (wsP kn l' [] g1 z).1)\/(i=2/\∃a b,ys=[a,b]/\B1m t (λb=>S b/\b≠D) H4 p l d ka kn (wsP kn r' [] g2 (wsP kn l' [] g1 z).2).2/\Ob t (A1a (λb=>S b/\b≠D) H4) a (wsP kn l' [] g1 z).1/\Ob t (A1a (λb=>S b/\b≠D) H4) b (wsP kn r' [] g2 (wsP kn l' [] g1 z).2).1)))
     (i00 (K2.of (A0f hD)) A0b (.inl (i00 rfl rfl (lf3.out hD)))) (λi ys H4 ⟨kk,_⟩=>SqL.of (kk _ _ slp h3)) ?_ ?_
    ·rintro i y ys H4 hy ⟨kk,hD4,h4⟩;rcases h4 with ⟨rfl,rfl,lf4⟩ | ⟨rfl,a,rfl,lf4,oa⟩ | ⟨rfl,_⟩
     ·have e:x1=y:=by simpa using hy
      subst e;refine ⟨⟨rfl,True.intro⟩,(i0v _ rfl p d _ rfl lf4.ep (by walk_at "lk") (i02 _ rfl (hs p l d ka _ kn z x1 l' ss g1 H4 _ lf4 (p1.same (mm kk)) m1 d1 λv' H5 k5 lf5 o5=> ?_)))⟩;exact i08 (k5 _ _ ⟨Dp,Dl⟩ hD4) (A1l (by simp)) (ku (kk.trans k5)) A0b (.inr (.inl ⟨rfl,(i06 v' rfl (lf5.upD Dp Dl) (o5.imp mu))⟩))
     ·have e:x2=y:=by simpa using hy
      subst e;refine ⟨⟨rfl,True.intro⟩,(i0v _ rfl p d _ rfl lf4.ep (by walk_at "lk") (i02 _ rfl (hs p l d ka _ kn _ x2 r' ss g2 H4 _ lf4 (p2.same (mm kk)) m2 d2 λv' H5 k5 lf5 o5=> ?_)))⟩;exact i08 (k5 _ _ ⟨Dp,Dl⟩ hD4) (A1l (by simp)) (ku (kk.trans k5)) A0b (.inr (.inr ⟨rfl,(i0k a v' rfl (lf5.upD Dp Dl) ((oa.imp (k5.rs lf4.np lf4.nl)).imp mu) (o5.imp mu))⟩))
     ·simp at hy
    ·rintro ys H4 ⟨kk,hD4,h4⟩;rcases h4 with ⟨h0,_⟩ | ⟨h0,_⟩ | ⟨_,a,b,rfl,lf4,oa,ob4⟩
     ·cases h0
     ·cases h0
     have kk0:K2 p l H H4:=(K2.of (s2.trans s3)).trans kk;have e4:=kk0 _ _ sq eq;have o4:=kk0 _ _ so eo;have bk:A1f (A1a (λb=>S b/\b≠D) H4) (A1a S H4):=A3b (A1f.refl _) λb o _ q=>q.1;refine i16 _ rfl q _ dq _ _ rfl e4 T.az T.bo (by walk_at "lk") (i0f o C dd fs (i1a lv f fd ps sp rfl o4 c1 me lu fo (hr.mono (by lia)) bi ?_));refine i10 _ rfl D _ _ _ rfl rfl (SqL.of hD4) rfl (i10 _ rfl D _ _ _ rfl rfl (SqL.of hD4) rfl (mk a b H4 Q (λb hb=>(lf4.fr b hb).1) o4 (oa.imp bk) (ob4.imp bk) λv' H7 s7 o7=> ?_));exact k v' H7 (kk0.trans (K2.of s7)) (by rw [ew];exact (lf4.back lf.np lf.nl).same s7) o7
theorem B6b (e1:∀Q':Bool->Hp->Prop,Q' d1 H->t1 Z H Q') (e2:∀Q':Bool->Hp->Prop,Q' d2 H->t2 Z H Q') (h:Q (d1&&d2) H):C9s t1 t2 Z H Q:=by
 refine e1 _ ?_
 cases d1 with
 | false=>exact h
 | true=>exact e2 _ h
theorem B1c (z:Str):∀bs:List Str,inV (.str z) (bs.map V.str)=decide (z∈bs)
 | []=>rfl
 | b::r=>by
  have ih:=B1c z r;unfold inV at ih⊢;rw [Z0p,List.any_cons,ih];show ((b == z)||decide (z∈r))=decide (z∈b::r);by_cases e:b=z
  ·subst e;simp
  ·have:¬z=b:=λh=>e h.symm;simp [e,this]
theorem A4u:∀bs:List Str,(bs.map V.str).all B6j=true
 | []=>rfl
 | b::r=>by rw [Z0p,List.all_cons,A4u r];rfl
theorem B1f {H:Hp}:∀{vs:List V} {ax:List (Str×Int)},Paired (λ(v:V) (e:Str×Int)=>∃q,v= .ref q/\H q=some (.tup [.str e.1,.int e.2])) vs ax->A4s H vs (ax.map B0v)
 | _,_,.nil=> .nil
 | _,_,@Paired.cons _ _ _ v e _ _ r t=>by
  obtain ⟨q,rfl,hq⟩:=r;exact .cons (.tup hq (.cons (.str _) (.cons (.int _) .nil))) (B1f t)
theorem B1q:∀(u:Tm),TmW u->TmW (inS u)/\dep (inS u)<=dep u/\nod (inS u)<=nod u/\(A3g u).length+dep (inS u)=dep u
 | .num _,h=>(i04 h (Z09 _) (Z09 _) (Nat.zero_add _))
 | .place _,h=>(i04 h (Z09 _) (Z09 _) (Nat.zero_add _))
 | .read _ _,h=>(i04 h (Z09 _) (Z09 _) (Nat.zero_add _))
 | .pair _ _ _,h=>(i04 h (Z09 _) (Z09 _) (Nat.zero_add _))
 | .guard _ _ _ _ _,h=>(i04 h (Z09 _) (Z09 _) (Nat.zero_add _))
 | .sum x b,h=>by
  obtain ⟨h1,h2,h3,h4⟩:=B1q b h.2;exact i04 h1 (by show dep (inS b)<=_;simp only [dep];lia) (by show nod (inS b)<=_;simp only [nod];lia) (by show (x::A3g b).length+dep (inS b)=_;simp only [dep,Z0y];lia)
theorem D1a (h:isS u=true):A3g u≠[]:=by
 cases u with
 | sum x b=>exact λe=>by cases e
 | num _=>cases h
 | place _=>cases h
 | read _ _=>cases h
 | pair _ _ _=>cases h
 | guard _ _ _ _ _=>cases h
theorem D0d (h:pend≠[]):fin kn pend g r=(lfR kn pend r.2.1 (gdM g r.1),r.2.1+1,r.2.2++[lfL kn pend r.2.1 (gdM g r.1)]):=by
 cases pend with
 | nil=>exact absurd rfl h
 | cons x s=>rfl
theorem D1p (T:Txt K mg t) (hm:47<=m) (Gb2:A2y P w K mg base CX0 m t.av t.bc B1w (D2i t n)) :
  A2y P w K mg base CX0 (m+1) t.fb t.iz B1w (D4f t (n+1)):=by
 have Gb3:= @B4d P w K mg base t T;have Gb4:= @A8u P w K mg base t T;have Gb5:= @C2s P w K mg base t T;have Gb6:= @C2n P w K mg base t T;have Gb7:= @A8q P w K mg base t T;have Gb8:= @B1t P w K mg base t T;have Gb9:= @B1r P w K mg base t T;refine T.n6.F.ok A3i (λvs H Q E h=> ?_) λ_ A _ s H _ Q E hr h=> ?_
 ·refine e0f h ?_;clear h;rintro p l d ka S kn z v u ⟨ss,g,rfl,_⟩;rfl
 ·refine e0f h ?_;clear h;rintro p l d ka S kn z v u ⟨ss,g,rfl,lf,pa,lm,hd,hS,k⟩;refine e0g (id pa) ?_;rintro q dq tv sl gl gs rfl e0 ob0 hs0 hg0 ⟨bg,bs,pg⟩;have eq:=A0j _ _ e0;have sq:S2 p l q:=⟨λe=>lf.np (e▸(A0t e0).1),λe=>lf.nl (e▸(A0t e0).1)⟩;have sgl:S2 p l gl:=⟨λe=>lf.np (e▸(A0t hg0).1),λe=>lf.nl (e▸(A0t hg0).1)⟩;have tn:=D1a hS;obtain ⟨i1,i2,i3,i4⟩:=B1q u lm.hw;have tl:1<=(A3g u).length:=by cases h:A3g u with | nil=>exact absurd h tn | cons _ _=>simp
  have l1:=lm.hd;have l2:=lm.hn;have l3:=lm.hz;have l4:=lm.hl;have dp:=A4y (inS u);have m1:Lim kn (inS u) g z:=⟨lm.hk,i1,lm.hg,by lia,by lia,by lia,by lia,lm.ha⟩;have ro:=m1.ok;have ew:wsP kn u [] g z=fin kn (A3g u) g (wsP kn (inS u) [] g z):=C4o u [] g z;rw [D0d tn] at ew;rw [ew] at k;generalize hr0:wsP kn (inS u) [] g z=r at ro k;refine i02 _ (@A0c _ _ _ _ _ (@A0l _ _ 2 _ _ _ _ A3i.nd rfl (.inr rfl) (pcl Gb3 hr T.iy (@A0a _ _ _ _ _ (A1i (pv 1) rfl) A0d rfl)) rfl (by first | exact Or.inl rfl | exact Or.inr rfl | assumption)) (@A0c _ _ _ _ _ (@A0l _ _ 3 _ _ _ _ A3i.nd rfl (.inl rfl) (pcl Gb5 hr T.qr (@A0a _ _ _ _ _ (B2o (pv 0) T.be T.c7 Gb2 (hr.mono (by lia)) T.br.b .nil B4q (@A0a _ _ _ _ _ (pcl Gb4 hr T.ff (@A0a _ _ _ _ _ (pv 1) A0d rfl)) A0d rfl)) (@A0a _ _ _ _ _ (A1i (pv 1) rfl) A0d rfl) rfl)) rfl (by first | exact Or.inl rfl | exact Or.inr rfl | assumption)) (@A0c _ _ _ _ _ (@A0l _ _ 4 _ _ _ _ A3i.nd rfl (.inr rfl) (pcl Gb6 hr T.qj (@A0a _ _ _ _ _ (pv 3) A0d rfl)) rfl (by first | exact Or.inl rfl | exact Or.inr rfl | assumption)) (@A0c _ _ _ _ _ (B3c (i₀:=5) (N':=["axis","coming","sums"]) (ix:=(List.replicate 1 none++[some 4,some 2])) (tc:=C9s (B7x (tOp (rIn K false) (C0u 0) (C0u 1))) (B7x (tOp (rIn K true) (C0u 0) (C0u 2)))) A3i.nd rfl (.inl rfl) rfl (B2p (cl:=[("sums",_),("coming",_)]) (xs:=["sums","coming"]) rfl (i00 rfl rfl trivial) rfl rfl (by decide +kernel) (by decide +kernel)) (B2t (N0:=["axis"]) (xs:=["coming","sums"]) (js:=[4,2]) (i00 (i00 rfl (.inl rfl) (by walk_at "ix")) (i00 rfl (.inl rfl) (by walk_at "ix")) trivial)) (A2q (A1i (pv 0) rfl)) (λ_ _ _ _=>(A0n (i:=0) C5n rfl (.inl rfl))) (λ_ _ _ _=>(PW.pt (A3n (@A0o _ _ _ _ _ _ _ _ B8v (pv 0) (pv 1) (by with_unfolding_all rfl)) (A3w (@A0o _ _ _ _ _ _ _ _ A4x (pv 0) (pv 2) (by with_unfolding_all rfl)))))) (λ_ _ _ _=>(pv 0))) (@A0c _ _ _ _ _ (@A0l _ _ 6 _ _ _ _ A3i.nd rfl (.inl rfl) (C7y (pv 0) T.be T.ko Gb7 (hr.mono (by lia)) T.cv.b .nil B4q) rfl (by first | exact Or.inl rfl | exact Or.inr rfl | assumption)) (@A0c _ _ _ _ _ (A2t (A5g Z0k Z0n Z0o A2d (A1i (pv 0) rfl) (@A0a _ _ _ _ _ (pmk T.xU Gb8 hr T.yx T.ia.b (@A0a _ _ _ _ _ (pv 6) (@A0a _ _ _ _ _ (pv 5) (@A0a _ _ _ _ _ (pv 2) (@A0a _ _ _ _ _ (pv 3) A0d rfl) rfl) rfl) rfl)) A0d rfl))) (@A0g _ _ _ (@A0u _ _ _ _ (pmk T.xS Gb9 hr T.xJ T.ik.b (@A0a _ _ _ _ _ (pv 6) (@A0a _ _ _ _ _ (A3u (N':=["axis"]) (ix:=(List.replicate 1 none)) rfl (A2p rfl (by decide +kernel) (by decide +kernel)) (A2n rfl) (A2q (pv 5)) (λ_ _ _ _=>(A0n (i:=0) C7n rfl (.inl rfl))) (λ_ _ _ _=>(@A1o _ _ _ _ _ (@A0a _ _ _ _ _ (pv 0) (@A0a _ _ _ _ _ A0e A0d rfl) rfl)))) A0d rfl) rfl)))))))))) ?_;refine i16 _ rfl q _ dq _ _ rfl eq T.az T.bo (by walk_at "lk") (i0k tv u rfl (ob0.imp A0j) (by lia) λsm H1 hsm s1 h1=> ?_);have lf1:=lf.same s1;have smp:sm≠p:=λe=>by rw [e,lf.ep] at hsm;cases hsm
  have sml:sm≠l:=λe=>by obtain ⟨_,e2,_⟩:=lf.hl;rw [e,e2] at hsm;cases hsm
  have Ssm:S sm:=lf.fr sm hsm;refine i0v _ rfl p d _ rfl lf1.ep (by walk_at "lk") (i0n _ rfl (.ref q) u ss g (i0a S rfl lf1.fr (pa.same (A0h s1)) λv2 H2 s2 pa2=> ?_));have lf2:=lf1.same s2;refine i1d p l d ka S kn z v2 (inS u) (ss++A3g u) g rfl lf2 pa2 (i00 m1 (by lia) λv3 H3 k3 lf3 o3=> ?_);rw [hr0] at lf3 o3;have k03:K2 p l H H3:=(K2.of (s1.trans s2)).trans k3;have g3:H3 gl=some (.lst gs):=k03 _ _ sgl (A0j _ _ hg0);refine i16 _ rfl q _ dq _ _ rfl (k03 _ _ sq eq) T.az T.bp (by walk_at "lk") ⟨v3,(i11 gl gs g r.1 S rfl lf3.fr o3 g3 (Paired.mapP pg λ_ _ q=>q.same (k03.rs lf.np lf.nl)) λv4 H4 s4 o4=> ?_)⟩;have lf4:=lf3.same s4;obtain ⟨q1,q2,q3⟩:=C1p g r.1 lm.hg ro.w;have r1:=ro.d;have r2:=ro.n;have r3:=ro.k;have r4:=ro.l;generalize hb:gdM g r.1=b at o4 k q1 q2 q3;refine i02 _ rfl (i0r v4 b rfl (o4.imp A0j) q1 (by lia) (by lia) λcm H5 hcm s5 h5=> ?_);have lf5:=lf4.same s5;have k05:K2 p l H H5:=k03.trans (K2.of (s4.trans s5));have sm5:H5 sm=some (.lst ((A3g u).map V.str)):=(K2.of s2).trans (k3.trans (K2.of (s4.trans s5))) _ _ ⟨smp,sml⟩ h1;have o5:=o4.imp (A0h (S:=S) s5);obtain ⟨n1,n2⟩:=B5b (pend:=A3g u) (b:=b) lm.hk;refine i16 _ rfl p _ d _ _ rfl lf5.ep T.be T.jy (by walk_at "lk") (i06 ka rfl ⟨_,SqL.of (A0j _ _ lf5.hk)⟩ λD hD=> ?_);refine A7f (K:=K) (a:=ka) (D:=D) (xs:=kn.map V.str) (λj ys H6=>A1f H5 H6/\H6 D=some (.lst ys)/\ys=(C0t (kn.take j) (A3g u) b).map V.str/\ys.length<=j) (i04 (A0f hD) A0b rfl (Z09 _)) (λj ys H6 ⟨s6,_⟩=>SqL.of (s6 _ _ (A0j _ _ lf5.hk))) ?_ ?_
  ·rintro j y ys H6 hy ⟨s6,h6,ey,ly⟩;rw [Z1z] at hy;obtain ⟨x,hx,rfl⟩:=Z0i.mp hy;have hj:j<kn.length:=(Z03.mp hx).1;have lk:=lm.hk.1
   have ea:C0t (kn.take (j+1)) (A3g u) b=C0t (kn.take j) (A3g u) b++(if (decide (x∈B4n b)&&decide (x∉A3g u))=true then [x] else []):=by
    show (kn.take (j+1)).filter _=(kn.take j).filter _++_;rw [Z14,hx,Z2f,List.filter_append,List.filter_cons,List.filter_nil]
   refine ⟨(i00 rfl rfl True.intro),?_⟩;refine B6b (d1:=decide (x∈B4n b)) (d2:=decide (x∉A3g u)) (λQ' q=> ?_) (λQ' q=> ?_) ?_
   ·refine i14 _ rfl _ rfl cm _ rfl (.inl (SqL.of (s6 _ _ h5))) rfl (A4u _) _ rfl ?_;show Q' (inV (V.str x) ((B4n b).map V.str)) H6;rw [B1c];exact q
   ·refine i14 _ rfl _ rfl sm _ rfl (.inl (SqL.of (s6 _ _ sm5))) rfl (A4u _) _ rfl ?_;show Q' (! inV (V.str x) ((A3g u).map V.str)) H6;rw [B1c];have e:(! decide (x∈A3g u))=decide (x∉A3g u):=by by_cases h:x∈A3g u <;> simp [h]
    rw [e];exact q
   ·cases hc:(decide (x∈B4n b)&&decide (x∉A3g u)) with
    | false =>
     rw [hc] at ea;exact A2u (i04 s6 h6 (by rw [ey,ea];simp) (by lia))
    | true =>
     rw [hc] at ea;exact A5h (i02 _ rfl (i0g h6 (A1l (by lia)) (A0s s6 hD) A0b (by rw [ey,ea,Z0s];rfl) (by rw [Z06];simp only [Z0y,Z2g];lia)))
  rintro ys H6 ⟨s6,h6,rfl,_⟩;rw [Z08,Z18] at h6;have lf6:=lf5.same s6;have Dp:D≠p:=λe=>by rw [e,lf5.ep] at hD;cases hD
  have Dl:D≠l:=λe=>by obtain ⟨_,e2,_⟩:=lf5.hl;rw [e,e2] at hD;cases hD
  obtain ⟨xs,hl6,pl6⟩:=lf6.hl;have pl:p≠l:=λe=>by rw [<-e,lf6.ep] at hl6;cases hl6
  generalize hax:C0t kn (A3g u) b=ax at h6 n1 n2;refine i0v _ rfl p d _ rfl lf6.ep (by walk_at "lk") (i03 p d (i0p ka l r.2.1 rfl lf6.ep (by lia) ?_));have k67:K2 p l H6 (upd H6 p (lfO t d ka l (r.2.1+1))):=K2.atp;have p7:upd H6 p (lfO t d ka l (r.2.1+1)) p=some (lfO t d ka l (r.2.1+1)):=A0b;have l7:upd H6 p (lfO t d ka l (r.2.1+1)) l=some (.lst xs):=by rw [A0k pl.symm];exact hl6
  generalize upd H6 p (lfO t d ka l (r.2.1+1))=H7 at k67 p7 l7;have D7:=k67 _ _ ⟨Dp,Dl⟩ h6;have sm7:=k67 _ _ ⟨smp,sml⟩ (s6 _ _ sm5);have o7:=(o5.imp (A0h (S:=S) s6)).imp (k67.rs lf.np lf.nl);have fr7:Fr S H7:=λb hb=>lf6.fr b (k67.free p7 l7 hb);refine i16 _ rfl p _ d _ (.ref l) rfl p7 T.be T.df (by walk_at "lk") ⟨.inl (i01 rfl _ (SqL.of l7)),?_⟩;refine i0c _ rfl _ rfl (i0c _ rfl _ rfl λx dx hx hdx hne=> ?_);have s78:A1f H7 (upd (upd H7 dx (.own x)) x (.ins t.aw dx [])):=A0s (A0f hdx) hx;have g78:upd (upd H7 dx (.own x)) x (.ins t.aw dx []) x=some (.ins t.aw dx []):=A0b;generalize upd (upd H7 dx (.own x)) x (.ins t.aw dx [])=G8 at s78 g78;refine i0f x dx D sm (i0y v4 (sN r.2.1) ax (A3g u) rfl g78 (s78 _ _ D7) (s78 _ _ sm7) (by lia) ⟨by lia,λcc cu H8 hc0 hu0 hx8 hcc hcu kb=>⟨rfl,?_⟩⟩);have s8:A1f H7 H8:=KB.same s78 kb hx;have l8:=s8 _ _ l7;have lxs:=Paired.length pl6;refine i0s l _ _ rfl rfl l8 (A1l (by lia)) ?_;have Sx:S x:=fr7 x hx;have Sc:S cc:=fr7 cc (s78.free hc0);have Su:S cu:=fr7 cu (s78.free hu0);have k79:K2 p l H7 (upd H8 l (.lst (xs++[.ref x]))):=(K2.of s8).trans K2.atl;have k89:K2 p l H8 (upd H8 l (.lst (xs++[.ref x]))):=K2.atl;have p9:upd H8 l (.lst (xs++[.ref x])) p=some (lfO t d ka l (r.2.1+1)):=by rw [A0k pl];exact s8 _ _ p7
  have l9:upd H8 l (.lst (xs++[.ref x])) l=some (.lst (xs++[.ref x])):=A0b;generalize upd H8 l (.lst (xs++[.ref x]))=H9 at k79 k89 p9 l9;have rs9:=k89.rs (S:=S) lf.np lf.nl
  have lf9:B1m t S H9 p l d ka kn (r.2.1+1,r.2.2++[lfL kn (A3g u) r.2.1 b]):=by
   have k69:=(k67.trans k79).rs (S:=S) lf.np lf.nl;refine ⟨lf.np,lf.nl,λb hb=>fr7 b (k79.free p9 l9 hb),p9,k69 _ _ lf6.hk,xs++[.ref x],l9,B2c (Paired.mapP pl6 λ_ _ q=>q.same k69) (.cons ⟨x,(i0w dx cc cu v4 rfl (rs9 _ _ (A0i Sx hx8)) ?_ (rs9 _ _ (A0i Su hcu)) ((o7.imp (A0h s8)).imp rs9))⟩ .nil)⟩;show A1a S H9 cc=some (.lst ((C0t kn (A3g u) b).map V.str));rw [hax];exact rs9 _ _ (A0i Sc hcc)
  have D9:=k79 _ _ ⟨Dp,Dl⟩ D7;have k09:K2 p l H H9:=k05.trans ((K2.of s6).trans (k67.trans k79));have er:lfR kn (A3g u) r.2.1 b= .read (sN r.2.1) (ax.map λx=>(x,(0:Int))):=by rw [<-hax];rfl
  rw [er] at k;refine i02 _ rfl (i0j _ rfl D rfl ⟨_,SqL.of D9⟩ λD2 hD2=> ?_);refine A2w (K:=K) (a:=D) (D:=D2) (xs:=ax.map V.str) (λi ys G=>A1f H9 G/\G D2=some (.lst ys)/\Paired (λ(v:V) (e:Str×Int)=>∃q,v= .ref q/\G q=some (.tup [.str e.1,.int e.2])) ys ((ax.take i).map λx=>(x,(0:Int)))) (i00 (A0f hD2) A0b .nil) (λi ys G ⟨s,_⟩=>SqL.of (s _ _ D9)) ?_ ?_
  ·rintro i y0 ys G hy0 ⟨sG,hG,pG⟩;rw [Z1z] at hy0;obtain ⟨y,hy,rfl⟩:=Z0i.mp hy0;have hi:=(Z03.mp hy).1;have lG:=Paired.length pG;rw [Z08,Z0x] at lG;refine ⟨True.intro,(i06 _ rfl (A0q rfl) λtp htp=> ?_)⟩;have sT:=A0f (o:= .tup [.str y,.int 0]) htp;have eT:upd G tp (.tup [.str y,.int 0]) tp=some (.tup [.str y,.int 0]):=A0b;generalize upd G tp (.tup [.str y,.int 0])=G2 at sT eT;refine i08 (sT _ _ hG) (A1l (by lia)) (A0s (sG.trans sT) hD2) A0b ?_;have tD:tp≠D2:=λe=>by rw [e,hG] at htp;cases htp
   rw [Z14,hy,Z2f,Z0s];exact B2c (Paired.mapP pG λv e ⟨q,e1,e2⟩=>(i02 q e1 (by rw [A0k (A3a e2 hG (by intro h;cases h))];exact sT _ _ e2))) (.cons (i02 tp rfl (by rw [A0k tD];exact eT)) .nil)
  rintro ys G ⟨sG,hG,pG⟩;rw [Z08,Z18] at pG;have lfG:=lf9.same sG;have rpG:Rep G (.ref D2) (A5b (ax.map λx=>(x,(0:Int)))):= .lst hG (B1f pG);refine λrx rd hrx hrd hrn=> ?_;have sX:A1f G (upd (upd G rd (.own rx)) rx (.ins t.ag rd [])):=A0s (A0f hrd) hrx;have gX:upd (upd G rd (.own rx)) rx (.ins t.ag rd []) rx=some (.ins t.ag rd []):=A0b;generalize upd (upd G rd (.own rx)) rx (.ins t.ag rd [])=GX at sX gX;refine ⟨rx,(i0w rd D2 (sN r.2.1) _ rfl gX (rpG.same sX) (by rw [Z08];lia) λl' GY hY rY kY=>⟨rfl,?_⟩)⟩;have sY:A1f G GY:=KB.same sX kY hrx;have lfY:=lfG.same sY;refine k _ GY (k09.trans (K2.of (sG.trans sY))) lfY (.read (A0i (lfG.fr rx hrx) hY) (rY.same λb o e=> ?_));obtain ⟨z1,z2⟩:=A0t e;exact A0i (lfG.fr b (sX.free z1)) z2
theorem D3v (T:Txt K mg t):∀n:Nat,A2y P w K mg base CX0 (49+2*n) t.av t.bc B1w (D2i t n)
 | 0=>A2y.none λvs H Q E h=>by
  refine e0f h ?_;clear h;rintro p l d ka S kn z v u ⟨ss,g,_,_,_,_,hd,_⟩;have:=A4y u
  lia
 | n+1=>D3j T (m:=49+2*n+1) (m0:=49+2*n) (by lia) (by lia) (D1p T (by lia) (D3v T n)) (D3v T n) λp l d ka S kn z v u s g H Q lf pa lm hd k=>(i1d p l d ka S kn z v u s g rfl lf pa (i00 lm (by lia) k))
structure D0n (e:Lt):Prop where
 l1:e.1.length<=60
 l2:e.2.1.length<=12
 l3:∀x∈e.2.1,A8k x
 w:TmW e.2.2
 d:dep e.2.2<=20
 n:nod e.2.2<=122
def D3e (kn:List Str) (e:Lt) (z:LS):LS:=((wsP kn (inS e.2.2) [] [] z).2.1,(wsP kn (inS e.2.2) [] [] z).2.2++[(e.1,e.2.1,A3g e.2.2,(wsP kn (inS e.2.2) [] [] z).1)])
theorem D0n.lim {e:Lt} (h:D0n e) (hk:C7r kn) (hz:z.1<=90000) (hl:z.2.length<=90000) (ha:∀e∈z.2,C5k e):Lim kn (inS e.2.2) [] z:=by
 obtain ⟨i1,i2,i3,_⟩:=B1q e.2.2 h.w;have:=h.d;have:=h.n;exact ⟨hk,i1,(λe he=>by cases he),by show 0+dep (inS e.2.2)<=40;lia,by lia,by lia,by lia,ha⟩
theorem D2k {e:Lt} (h:D0n e) (hk:C7r kn) (hz:z.1<=90000) (hl:z.2.length<=90000) (ha:∀e∈z.2,C5k e):(D3e kn e z).1<=z.1+122/\(D3e kn e z).2.length<=z.2.length+123/\∀e'∈(D3e kn e z).2,C5k e':=by
 have ro:=(h.lim hk hz hl ha).ok;obtain ⟨i1,i2,i3,i4⟩:=B1q e.2.2 h.w;have r1:=ro.d;have r2:=ro.n;have r3:=ro.k;have r4:=ro.l;have h1:=h.d;have h2:=h.n;refine i00 (by show (wsP kn (inS e.2.2) [] [] z).2.1<=_;lia) (by show ((wsP kn (inS e.2.2) [] [] z).2.2++[_]).length<=_;rw [Z06];simp only [Z0y,Z2g];lia) λe' he=> ?_;rcases Z07.mp he with he | he
 ·exact ro.a e' he
 ·rw [Z0w.mp he];exact ⟨h.l1,(i0g h.l2 h.l3 (by show (A3g e.2.2).length<=100;lia) ro.w (by show dep (wsP kn (inS e.2.2) [] [] z).1<=40;lia) (by show nod (wsP kn (inS e.2.2) [] [] z).1<=1000;lia))⟩
def duP (kn:List Str) (ls:List Lt):LS:=ls.foldl (λz e=>D3e kn e z) (0,[])
theorem B2j {e:Lt} (h:ls[i]? =some e):duP kn (ls.take (i+1))=D3e kn e (duP kn (ls.take i)):=by
 unfold duP;rw [Z14,h,Z2f,List.foldl_append];rfl
theorem C1h {kn:List Str} (hk:C7r kn) {ls:List Lt} (h:∀e∈ls,D0n e) (hl:ls.length<=100):∀i,i<=ls.length->(duP kn (ls.take i)).1<=122*i/\(duP kn (ls.take i)).2.length<=123*i/\∀e∈(duP kn (ls.take i)).2,C5k e
 | 0,_=>(i00 (Z1e _) (Z1e _) λe he=>by cases he)
 | i+1,hi=>by
  obtain ⟨h1,h2,h3⟩:=C1h hk h hl i (by lia);have he:ls[i]? =some ls[i]:=Z0b (by lia);rw [B2j he];obtain ⟨a1,a2,a3⟩:=D2k (h _ (Z13 he)) hk (z:=duP kn (ls.take i)) (by lia) (by lia) h3;exact i00 (by lia) (by lia) a3
def D7t (A:Adr):Sp:=λvs H Q _=>∃(p l d ka:Addr) (S:Addr->Prop) (kn:List Str) (z:LS) (v:V) (e:Lt),vs=[.ref p,v]/\B1m A S H p l d ka kn z/\C0y A (λ_=>True) (A1a S H) v e/\D0n e/\C7r kn/\z.1<=90000/\z.2.length<=90000/\(∀e∈z.2,C5k e)/\
 ∀(H':Hp),K2 p l H H'->B1m A S H' p l d ka kn (D3e kn e z)->Q .non H'
theorem B0e (T:Txt K mg t):FP P w mg base T.dm 90 (D7t t):=by
 have Gb4:= @A8u P w K mg base t T;have Ga2:= @A8j P w K mg base t T;have Gb8:= @B1t P w K mg base t T;have Gb2:= @D3v P w K mg base t T 20;refine T.dm.F.ok A4e (λvs H Q E h=> ?_) λ_ A _ s H _ Q E hr h=> ?_
 ·refine e0f h ?_;clear h;rintro p l d ka S kn z v e ⟨rfl,_⟩;rfl
 ·refine e0h h ?_;clear h;rintro p l d ka S kn z v e rfl lf la ok hk ⟨hz,hl,ha,k⟩;refine e0e la ?_;clear la;rintro a da c tv _ rfl ea0 _ hc0 ob0;have ea:=A0j _ _ ea0;have sa:S2 p l a:=⟨λe=>lf.np (e▸(A0t ea0).1),λe=>lf.nl (e▸(A0t ea0).1)⟩;have sc:S2 p l c:=⟨λe=>lf.np (e▸(A0t hc0).1),λe=>lf.nl (e▸(A0t hc0).1)⟩;have m1:=ok.lim hk hz hl ha;have ro:=m1.ok;obtain ⟨i1,i2,i3,i4⟩:=B1q e.2.2 ok.w;have o1:=ok.d;have o2:=ok.n;have o3:=ok.l2;have r4:=ro.l;refine i02 _ (@A0c _ _ _ _ _ (@A0l _ _ 2 _ _ _ _ A4e.nd rfl (.inl rfl) (pcl Gb4 hr T.ff (@A0a _ _ _ _ _ (pmk T.jj Ga2 hr T.nq T.bt.b (@A0a _ _ _ _ _ (A1i (pv 1) rfl) (@A0a _ _ _ _ _ (@A1q _ _ _ _ A0d) (@A0a _ _ _ _ _ (@A1q _ _ _ _ A0d) A0d rfl) rfl) rfl)) A0d rfl)) rfl (by first | exact Or.inl rfl | exact Or.inr rfl | assumption)) (@A0c _ _ _ _ _ (@A0l _ _ 3 _ _ _ _ A4e.nd rfl (.inl rfl) (B2o (pv 0) T.be T.c7 Gb2 (hr.mono (by lia)) T.br.b .nil B4q (@A0a _ _ _ _ _ (pv 2) A0d rfl)) rfl (by first | exact Or.inl rfl | exact Or.inr rfl | assumption)) (@A0g _ _ _ (A2t (A5g Z0k Z0n Z0o A2d (A1i (pv 0) rfl) (@A0a _ _ _ _ _ (pmk T.xU Gb8 hr T.yx T.ia.b (@A0a _ _ _ _ _ (A1i (pv 1) rfl) (@A0a _ _ _ _ _ (A1i (pv 1) rfl) (@A0a _ _ _ _ _ (A1i (pv 2) rfl) (@A0a _ _ _ _ _ (pv 3) A0d rfl) rfl) rfl) rfl)) A0d rfl)))))) ?_;refine i16 _ rfl a _ da _ _ rfl ea T.kg T.kh (by walk_at "lk") ⟨A0q rfl,λl1 hl1=>⟨A0q rfl,λl2 hl2=> ?_⟩⟩;have s1:A1f H (upd H l1 (.lst [])):=A0f hl1;have s2':=A0f (o:= .lst []) hl2;have s2:=s1.trans s2';have g1:upd (upd H l1 (.lst [])) l2 (.lst []) l1=some (.lst []):=s2' _ _ A0b;have g2:upd (upd H l1 (.lst [])) l2 (.lst []) l2=some (.lst []):=A0b;have f1:=lf.fr l1 hl1;have f2:=lf.fr l2 (s1.free hl2);generalize upd (upd H l1 (.lst [])) l2 (.lst [])=G at s2 g1 g2;refine λnp dn hn hdn ndn=>(i03 np dn (i0p _ _ _ rfl A0b rfl ?_));have s3:A1f G (upd (upd (upd G dn (.own np)) np (.ins t.aq dn [])) np (.ins t.aq dn [("term",tv),("sums",.ref l1),("guards",.ref l2)])):=A2h hn hdn;have e3:upd (upd (upd G dn (.own np)) np (.ins t.aq dn [])) np (.ins t.aq dn [("term",tv),("sums",.ref l1),("guards",.ref l2)]) np=some (.ins t.aq dn [("term",tv),("sums",.ref l1),("guards",.ref l2)]):=A0b;generalize upd (upd (upd G dn (.own np)) np (.ins t.aq dn [])) np (.ins t.aq dn [("term",tv),("sums",.ref l1),("guards",.ref l2)])=G3 at s3 e3;have s03:=s2.trans s3;have lf3:=lf.same s03;have pa3:A3h t (A1a S G3) (.ref np) (e.2.2,[],[]):=(i1b np dn tv l1 l2 [] rfl (A0i (lf.fr np (s2.free hn)) e3) (ob0.imp (A0h s03)) (A0i f1 (s3 _ _ g1)) (A0i f2 (s3 _ _ g2)) (by show 0+dep e.2.2<=100;lia) (by show 0+dep e.2.2<=100;lia) .nil);refine i03 (.ref np) e.2.2 (i0p [] [] S rfl lf3.fr pa3 λv4 H4 s4 pa4=> ?_);have s04:=s03.trans s4;have lf4:=lf.same s04;refine e08 (id pa4) ?_;rintro b4 db4 tv4 sl4 gl4 ⟨gs4,rfl,eb4,_,hs4,_⟩;have sb:S2 p l b4:=⟨λe=>lf.np (e▸(A0t eb4).1),λe=>lf.nl (e▸(A0t eb4).1)⟩;have ssl:S2 p l sl4:=⟨λe=>lf.np (e▸(A0t hs4).1),λe=>lf.nl (e▸(A0t hs4).1)⟩;refine i0v _ rfl p d _ rfl lf4.ep (by walk_at "lk") (i02 _ rfl (i1d p l d ka S kn z _ (inS e.2.2) _ [] rfl lf4 pa4 (i00 m1 (by lia) λv5 H5 k5 lf5 o5=> ?_)));have k05:K2 p l H H5:=(K2.of s04).trans k5;obtain ⟨xs,hl5,pl5⟩:=lf5.hl;have lxs:=Paired.length pl5;have pl:p≠l:=λe=>by rw [<-e,lf5.ep] at hl5;cases hl5
  refine i16 _ rfl p _ d _ (.ref l) rfl lf5.ep T.be T.df (by walk_at "lk") ⟨.inl (i01 rfl _ (SqL.of hl5)),?_⟩;have ea5:=k05 _ _ sa ea;refine i16 _ rfl a _ da _ _ rfl ea5 T.kg T.rf (by walk_at "lk") (i16 _ rfl a _ da _ _ rfl ea5 T.kg T.q_ (by walk_at "lk") (i16 _ rfl b4 _ db4 _ _ rfl (k5 _ _ sb (A0j _ _ eb4)) T.az T.bz (by walk_at "lk") (i02 _ rfl λx dx hx hdx hne=> ?_)));have s78:A1f H5 (upd (upd H5 dx (.own x)) x (.ins t.aw dx [])):=A0s (A0f hdx) hx;have g78:upd (upd H5 dx (.own x)) x (.ins t.aw dx []) x=some (.ins t.aw dx []):=A0b;generalize upd (upd H5 dx (.own x)) x (.ins t.aw dx [])=G8 at s78 g78;refine i0f x dx c sl4 (i0y v5 e.1 e.2.1 (A3g e.2.2) rfl g78 (s78 _ _ (k05 _ _ sc (A0j _ _ hc0))) (s78 _ _ (k5 _ _ ssl (A0j _ _ hs4))) (by lia) ⟨by lia,λcc cu H8 hcc0 hu0 hx8 hcc hcu kb=>⟨rfl,?_⟩⟩);have s8:A1f H5 H8:=KB.same s78 kb hx;refine i0s l _ _ rfl rfl (s8 _ _ hl5) (A1l (by lia)) ?_;have Sx:S x:=lf5.fr x hx;have Sc:S cc:=lf5.fr cc (s78.free hcc0);have Su:S cu:=lf5.fr cu (s78.free hu0);have k59:K2 p l H5 (upd H8 l (.lst (xs++[.ref x]))):=(K2.of s8).trans K2.atl;have k89:K2 p l H8 (upd H8 l (.lst (xs++[.ref x]))):=K2.atl;have p9:upd H8 l (.lst (xs++[.ref x])) p=some (lfO t d ka l (D3e kn e z).1):=by rw [A0k pl];exact s8 _ _ lf5.ep
  have l9:upd H8 l (.lst (xs++[.ref x])) l=some (.lst (xs++[.ref x])):=A0b;generalize upd H8 l (.lst (xs++[.ref x]))=H9 at k59 k89 p9 l9;have rs9:=k89.rs (S:=S) lf.np lf.nl;have rs5:=k59.rs (S:=S) lf.np lf.nl;exact k H9 (k05.trans k59) ⟨lf.np,lf.nl,λb hb=>lf5.fr b (k59.free p9 l9 hb),p9,rs5 _ _ lf5.hk,xs++[.ref x],l9,B2c (Paired.mapP pl5 λ_ _ q=>q.same rs5) (.cons ⟨x,(i0w dx cc cu v5 rfl (rs9 _ _ (A0i Sx hx8)) (rs9 _ _ (A0i Sc hcc)) (rs9 _ _ (A0i Su hcu)) (o5.imp rs5))⟩ .nil)⟩
theorem C2f:∀(ax:List (Str×Int)),C9n (A3t ax) (ax.map (·.2))
 | []=> .nil
 | _::r=> .cons rfl (C2f r)
def B3y (es:List (Str×List Str)) (e:Str×List Str):List (Str×List Str):=if (es.any λf=>decide (f.1=e.1))=true then es.map (λf=>if f.1=e.1 then (f.1,e.2) else f) else es++[e]
theorem D1e {S:Addr->Prop} {H:Hp} {x:Str}:∀{ws:List (Key×V)} {es:List (Str×List Str)},AR S H ws es->(ws.any λkv=>decide (kv.1=(Sum.inr x:Key)))=es.any λf=>decide (f.1=x)
 | _,_,.nil=>rfl
 | _,_,.cons r t=>by
  rw [List.any_cons,List.any_cons,D1e t,r.1];congr 1;exact decide_eq_decide.mpr ⟨λh=>by injection h,λh=>by rw [h]⟩
theorem D0x {S:Addr->Prop} {H:Hp} {x:Str} {c:Addr} {ys:List Str} (sc:S c) (hc:H c=some (.lst (ys.map V.str))):∀{ws:List (Key×V)} {es:List (Str×List Str)},AR S H ws es->AR S H (ws.map λkv=>if kv.1=(Sum.inr x:Key) then (kv.1,V.ref c) else kv) (es.map λf=>if f.1=x then (f.1,ys) else f)
 | _,_,.nil=> .nil
 | _,_,@Paired.cons _ _ _ p e _ _ ⟨z1,b,z2,z3,z4⟩ t=>by
  refine .cons ?_ (D0x sc hc t);dsimp only;by_cases h:e.1=x
  ·have h':p.1=(Sum.inr x:Key):=by rw [z1,h]
   rw [Z12 h,Z12 h'];exact ⟨z1,(i06 c rfl sc hc)⟩
  ·have h':¬p.1=(Sum.inr x:Key):=λq=>h (by rw [z1] at q;injection q);rw [Z0t h,Z0t h'];exact ⟨z1,(i06 b z2 z3 z4)⟩
theorem C1t {c:Addr} (sc:S c) (hc:H c=some (.lst (e.2.map V.str))) (h:AR S H ws es):AR S H (B1n ws (Sum.inr e.1) (.ref c)) (B3y es e):=by
 unfold B1n B3y;rw [D1e h];by_cases q:(es.any λf=>decide (f.1=e.1))=true
 ·rw [Z12 q,Z12 q];exact D0x sc hc h
 ·rw [Z0t q,Z0t q];exact B2c h (.cons ⟨rfl,(i06 c rfl sc hc)⟩ .nil)
theorem C1e {S:Addr->Prop} {H:Hp}:∀{ws:List (Key×V)} {es:List (Str×List Str)} {as:List (Key×V)} {bs:List (Str×List Str)},AR S H as bs->AR S H ws es->AR S H (A6b as ws) (es.foldl B3y bs)
 | _,_,_,_,ha,.nil=>ha
 | _,_,as,bs,ha,@Paired.cons _ _ _ p e ws es ⟨z1,b,z2,z3,z4⟩ t=>by
  obtain ⟨p1,p2⟩:=p;cases z1;cases z2;have h:=C1t (e:=e) z3 z4 ha;show AR S H (A6b (B1n as (Sum.inr e.1) (.ref b)) ws) (es.foldl B3y (B3y bs e));exact C1e h t
theorem D1z (h:(es.map (·.1)).Nodup):((B3y es e).map (·.1)).Nodup:=by
 unfold B3y;by_cases q:(es.any λf=>decide (f.1=e.1))=true
 ·rw [Z12 q,List.map_map]
  have:((λx:Str×List Str=>x.1)∘λf:Str×List Str=>if f.1=e.1 then (f.1,e.2) else f)=λf=>f.1:=by
   funext f;by_cases z:f.1=e.1
   ·show (if f.1=e.1 then (f.1,e.2) else f).1=f.1;rw [Z12 z]
   ·show (if f.1=e.1 then (f.1,e.2) else f).1=f.1;rw [Z0t z]
  rw [this];exact h
 ·rw [Z0t q,Z0s];refine List.nodup_append.mpr (i00 h (by simp) λa ha b hb=> ?_);have hb:=Z0w.mp hb;subst hb;intro z;subst z;obtain ⟨f,hf,e1⟩:=Z2c.mp ha;exact q (List.any_eq_true.mpr (i02 f hf (by simpa using e1)))
theorem C8o:(B3y es e).length<=es.length+1:=by
 unfold B3y;by_cases q:(es.any λf=>decide (f.1=e.1))=true
 ·rw [Z12 q,Z08];lia
 ·rw [Z0t q,Z06];simp
theorem C8n {p:List Str->Prop} (h:∀f∈es,p f.2) (he:p e.2):∀f∈B3y es e,p f.2:=λf hf=>by
 unfold B3y at hf;by_cases q:(es.any λf=>decide (f.1=e.1))=true
 ·rw [Z12 q] at hf;obtain ⟨f',h1,rfl⟩:=Z2c.mp hf;by_cases z:f'.1=e.1
  ·rw [Z12 z];exact he
  ·rw [Z0t z];exact h f' h1
 ·rw [Z0t q] at hf;rcases Z07.mp hf with hf | hf
  ·exact h f hf
  ·rw [Z0w.mp hf];exact he
structure C3s (es:List (Str×List Str)) (n:Nat):Prop where
 nd:(es.map (·.1)).Nodup
 l:es.length<=n
 a:∀e∈es,e.2.length<=100
theorem C3s.put (h:C3s es n) (he:e.2.length<=100):C3s (B3y es e) (n+1):=⟨D1z h.nd,Z1n C8o (by have:=h.l;lia),C8n (p:=λys=>ys.length<=100) h.a he⟩
theorem C3s.fold:∀(fs:List (Str×List Str)) {es:List (Str×List Str)} {n:Nat},C3s es n->(∀e∈fs,e.2.length<=100)->C3s (fs.foldl B3y es) (n+fs.length)
 | [],_,_,h,_=>h
 | f::fs,es,n,h,hf=>by
  have:=C3s.fold fs (h.put (hf f (by simp))) λe he=>hf e (by simp [he]);rw [Z0y,show n+(fs.length+1)=n+1+fs.length by lia];exact this
def arP (tb:List (Str×List Str)) (z:List Ln):List (Str×List Str):=(z.map λe=>(e.1,e.2.1)).foldl B3y (tb.foldl B3y [])
theorem C1m {z:List Ln} {e:Ln} (h:z[i]? =some e):arP tb (z.take (i+1))=B3y (arP tb (z.take i)) (e.1,e.2.1):=by
 unfold arP;rw [Z14,h,Z2f,Z0s,List.foldl_append];rfl
theorem C4k {z:List Ln} (h:∀e∈tb,e.2.length<=100) (hz:∀e∈z,C5k e):C3s (arP tb z) (tb.length+z.length):=by
 have h0:C3s ([]:List (Str×List Str)) 0:=⟨.nil,Z09 _,λe he=>by cases he⟩;have h1:=C3s.fold tb h0 h
 have h2:=C3s.fold (z.map λe=>(e.1,e.2.1)) h1 λe he=>by
  obtain ⟨f,hf,rfl⟩:=Z2c.mp he;have:=(hz f hf).2.1;show f.2.1.length<=100
  lia
 rw [Z08,Nat.zero_add] at h2;exact h2
structure D6c (ax:List (Str×Int)) (tb:List (Str×List Str)) (ls:List Lt) (os:List Str):Prop where
 nd:(ax.map (·.1)).Nodup
 k:C7r (ax.map (·.1))
 t1:tb.length<=10
 t2:∀e∈tb,e.2.length<=100
 l1:ls.length<=8
 l2:∀e∈ls,D0n e
 o:os.length<=100
abbrev B1l (ax:List (Str×Int)) (ls:List Lt):List Ln:=(duP (ax.map (·.1)) ls).2
theorem D6c.due (h:D6c ax tb ls os):(B1l ax ls).length<=984/\∀e∈B1l ax ls,C5k e:=by
 have l1:=h.l1;obtain ⟨_,h2,h3⟩:=C1h h.k h.l2 (by lia) ls.length (Z09 _);rw [Z18] at h2 h3;exact ⟨by show (duP _ ls).2.length<=984;lia,h3⟩
def D7n (A:Adr):Sp:=λvs H Q _=>∃(p:Addr) (wh:Int) (ax:List (Str×Int)) (tb:List (Str×List Str)) (ls:List Lt) (os:List Str),vs=[.ref p]/\C8l A H p wh ax tb ls os/\D6c ax tb ls os/\∀(l:Addr) (xs:List V) (H':Hp),H l=none->A1f H H'->H' l=some (.lst xs)->Paired (C9y A H') xs (B1l ax ls)->Q (.ref l) H'
structure ClAt (A:Adr) (H:Hp) (q:Addr) (ax:List (Str×Int)) (tb:List (Str×List Str)) (ls:List Lt):Prop where
 ob:∃(dc:Addr) (wh:Int) (l a t v o:Addr) (ak:List (Key×V)) (xs:List V),H q=some (clo A dc wh l a t v o)/\H a=some (.dK ak)/\AR (λ_=>True) H ak (arP tb (B1l ax ls))/\H v=some (.lst xs)/\Paired (C9y A H) xs (B1l ax ls)
def D4g (A:Adr):Sp:=λvs H Q _=>∃(p:Addr) (wh:Int) (ax:List (Str×Int)) (tb:List (Str×List Str)) (ls:List Lt) (os:List Str),vs=[.ref p]/\C8l A H p wh ax tb ls os/\D6c ax tb ls os/\∀(q:Addr) (H':Hp),A1f H H'->ClAt A H' q ax tb ls->Q (.ref q) H'
theorem C0x (T:Txt K mg t):FO P w base T.n8 91 (D7n t):=by
 have Gc0:= @B6d P w K mg base t T;have Gc1:= @B4e P w K mg base t T;have Gc2:= @B0e P w K mg base t T;refine T.n8.F.ok A9q (λvs H Q E h=> ?_) λ_ A _ s H _ Q E hr h=> ?_
 ·refine e08 h ?_;clear h;rintro p wh ax tb ls ⟨os,rfl,_⟩;rfl
 ·refine e08 h ?_;clear h;rintro p wh ax tb ls ⟨os,rfl,pr,ok,k⟩;refine e0e pr.ob ?_;rintro dx a tt ll o e ra rt ⟨xl,hxl,lets⟩ ho;have lxl:=Paired.length lets;have l8:=ok.l1;have k12:=ok.k.1;rw [Z08] at k12;refine i02 _ (@A0c _ _ _ _ _ (@A0l _ _ 1 _ _ _ _ A9q.nd rfl (.inl rfl) (pmk T.xX Gc1 hr T.yw T.i_.b (@A0a _ _ _ _ _ (pcl Gc0 hr T.ji (@A0a _ _ _ _ _ (pv 0) A0d rfl)) A0d rfl)) rfl (by first | exact Or.inl rfl | exact Or.inr rfl | assumption)) (@A0c _ _ _ _ _ (A3d PassesOwn.never rfl (A2q (A1i (pv 0) rfl)) (A0n (i:=2) A9q.nd rfl (.inl rfl)) (@A0g _ _ _ (A2t (B2o (pv 1) T.be T.nj Gc2 (hr.mono (by lia)) T.dm.b .nil B4q (@A0a _ _ _ _ _ (pv 2) A0d rfl))))) (@A0g _ _ _ (@A0u _ _ _ _ (A1i (pv 1) rfl))))) ?_;refine i0n _ rfl p wh ax tb (i0k ls os rfl pr (by lia) λq H1 hq s1 h1=> ?_);refine λlf dlf hlf hdlf hne=> ?_;have sG:A1f H1 (upd (upd H1 dlf (.own lf)) lf (.ins t.ao dlf [])):=A0s (A0f hdlf) hlf;have gG:upd (upd H1 dlf (.own lf)) lf (.ins t.ao dlf []) lf=some (.ins t.ao dlf []):=A0b;generalize upd (upd H1 dlf (.own lf)) lf (.ins t.ao dlf [])=G at sG gG;refine i0l lf dlf (.ref q) rfl gG λl H2 hl0 hp2 hl2 kb2=>⟨rfl,?_⟩;have s12:A1f H1 H2:=KB.same sG kb2 hlf;have s02:=s1.trans s12;have lfH:H lf=none:=s1.free hlf;have lH:H l=none:=s1.free (sG.free hl0);have l1H:H1 l=none:=sG.free hl0;have inS2:A1f H1 (A1a (S2 lf l) H2):=λb o e=>A0i ⟨A1g e hlf,A1g e l1H⟩ (s12 _ _ e);have k2s:∀{H3:Hp},K2 lf l H2 H3->A1f H H3:=λ{H3} kk b o e=>kk b o ⟨A1g e lfH,A1g e lH⟩ (s02 _ _ e)
  have lf2:B1m t (S2 lf l) H2 lf l dlf q (ax.map (·.1)) (0,[]):=by
   refine ⟨λz=>z.1 rfl,λz=>z.2 rfl,λb hb=> ?_,hp2,inS2 _ _ h1,[],hl2,.nil⟩;have z1:b≠lf:=λz=>by rw [z,hp2] at hb;cases hb
   have z2:b≠l:=λz=>by rw [z,hl2] at hb;cases hb
   exact ⟨z1,z2⟩
  refine i16 _ rfl p _ dx _ (.ref ll) rfl (s02 _ _ e) T.a_ T.di (by walk_at "lk") (i06 ll rfl ⟨_,SqL.of (s02 _ _ hxl)⟩ ?_)
  refine A5i (K:=K) (a:=ll) (xs:=xl) (λi Z H3=>∃(o2:Option V),Z=[Sro p,Sro lf,o2]/\K2 lf l H2 H3/\B1m t (S2 lf l) H3 lf l dlf q (ax.map (·.1)) (duP (ax.map (·.1)) (ls.take i)))
   (i06 none rfl (K2.of (A1f.refl _)) lf2) (λi Z H3 _ zq=>by obtain ⟨_,_,kk,_⟩:=zq;exact SqL.of (k2s kk _ _ hxl)) ?_ ?_
  ·rintro i y Z H3 hy ⟨o2,rfl,kk,lf3⟩;obtain ⟨le,hle,lt⟩:=B2l lets hy;have hi:i<ls.length:=(Z03.mp hle).1;obtain ⟨d1,d2,d3⟩:=C1h ok.k ok.l2 (by lia) i (by lia);have lt3:=lt.same ((s1.trans inS2).trans (kk.rs lf2.np lf2.nl));refine i0v _ rfl lf dlf _ rfl lf3.ep (by walk_at "lk") (i0n _ rfl lf l dlf q (i1a _ _ _ y le rfl lf3 lt3 (ok.l2 le (Z13 hle)) ok.k (by lia) (by lia) d3 λH4 k4 lf4=> ?_));rw [<-B2j hle] at lf4;exact i06 _ rfl (kk.trans k4) lf4
  ·rintro Z H3 ⟨o2,rfl,kk,lf3⟩;rw [lxl,Z18] at lf3;obtain ⟨xs,h3,lns⟩:=lf3.hl;exact i16 _ rfl lf _ dlf _ (.ref l) rfl lf3.ep T.be T.df (by walk_at "lk") (k l xs H3 lH (k2s kk) h3 (Paired.mapP lns λ_ _ z=>z.same A0j))
theorem C0n (T:Txt K mg t):FO P w base T.jh 92 (D4g t):=by
 have Gc3:= @B5v P w K mg base t T;have Gc4:= @B6g P w K mg base t T;have Gc5:= @C0x P w K mg base t T;have Gc6:= @B4i P w K mg base t T;refine T.jh.F.ok A7a (λvs H Q E h=> ?_) λ_ A _ s H _ Q E hr h=> ?_
 ·refine e08 h ?_;clear h;rintro p wh ax tb ls ⟨os,rfl,_⟩;rfl
 ·refine e08 h ?_;clear h;rintro p wh ax tb ls ⟨os,rfl,pr,ok,k⟩;have hu:=B1b hr;obtain ⟨du1,du2⟩:=ok.due;have t10:=ok.t1;have k12:=ok.k.1;rw [Z08] at k12;have lo:=ok.o;refine i02 _ (@A0c _ _ _ _ _ (@A0l _ _ 1 _ _ _ _ A7a.nd rfl (.inl rfl) (pcl Gc5 hr T.n8 (@A0a _ _ _ _ _ (pv 0) A0d rfl)) rfl (by first | exact Or.inl rfl | exact Or.inr rfl | assumption)) (@A0c _ _ _ _ _ (@A0l _ _ 2 _ _ _ _ A7a.nd rfl (.inl rfl) (A2a (B4x rfl) (by rfl) T.qi Z2q (@A0a _ _ _ _ _ (A1i (pv 0) rfl) A0d rfl)) rfl (by first | exact Or.inl rfl | exact Or.inr rfl | assumption)) (@A0c _ _ _ _ _ (A3d PassesOwn.never rfl (A2q (pv 1)) (A0n (i:=3) A7a.nd rfl (.inl rfl)) (@A0g _ _ _ (@B1g _ _ _ _ _ _ _ _ _ hu (pv 2) (A1i (pv 3) rfl) (A1i (pv 3) rfl) rfl))) (@A0g _ _ _ (@A0u _ _ _ _ (pmk T.yA Gc3 hr T.yR T.jc.b (@A0a _ _ _ _ _ (A1i (pv 0) rfl) (@A0a _ _ _ _ _ (pcl Gc4 hr T.j8 (@A0a _ _ _ _ _ (pv 0) A0d rfl)) (@A0a _ _ _ _ _ (pv 2) (@A0a _ _ _ _ _ (pcl Gc6 hr T.iq (@A0a _ _ _ _ _ (pv 0) A0d rfl)) (@A0a _ _ _ _ _ (pv 1) (@A0a _ _ _ _ _ (A1i (pv 0) rfl) A0d rfl) rfl) rfl) rfl) rfl) rfl))))))) ?_;refine i0n _ rfl p wh ax tb (i0k ls os rfl pr ok λl xs H1 hl0 s1 hl1 lns=> ?_);have lxs:=Paired.length lns;refine e0e ((pr.same s1).ob) λdx a tt ll o e ra rt _ ho=>?_;obtain ⟨t2,xt,et,hxt,rst⟩:=A5q (show Rep H1 (.ref tt) (.list (tb.map C3u)) from rt);cases et;obtain ⟨kvs,pl,ar⟩:=D6d rst;have ar0:AR (λ_=>True) H1 (A6b [] kvs) (tb.foldl B3y []):=C1e .nil ar;refine i16 _ rfl p _ dx _ (.ref tt) rfl e T.a_ T.dy (by walk_at "lk") (i0p tt xt kvs rfl hxt pl λad had=> ?_);generalize A6b [] kvs=kv0 at ar0;have s2:A1f H1 (upd H1 ad (.dK kv0)):=A0f had;refine i0j _ rfl l rfl ⟨_,SqL.of (s2 _ _ hl1)⟩ ?_
  refine A5i (K:=K) (a:=l) (xs:=xs) (λi Z H3=>∃(o3:Option V) (ws:List (Key×V)),Z=[Sro p,Sro l,Sro ad,o3]/\A1f H1 H3/\H3 ad=some (.dK ws)/\AR (λ_=>True) H3 ws (arP tb ((B1l ax ls).take i)))
   (i0k none kv0 rfl s2 A0b (ar0.same s2)) (λi Z H3 _ zq=>by obtain ⟨_,_,_,s3,_⟩:=zq;exact SqL.of (s3 _ _ hl1)) ?_ ?_
  ·rintro i y Z H3 hy ⟨o3,ws,rfl,s3,h3,ar3⟩;obtain ⟨le,hle,lb,db,c,u,tv,rfl,eb,hc,_⟩:=B2l lns hy;have lw:=Paired.length ar3;have eo:=C4k (tb:=tb) (z:=(B1l ax ls).take i) ok.t2 λe he=>du2 e (Z2p he);have eol:=eo.l;rw [Z0x] at eol;have hc3:=s3 _ _ hc;refine i16 _ rfl lb _ db _ (.ref c) rfl (s3 _ _ eb) T.c_ T.jt (by walk_at "lk") (i02 _ rfl (i16 _ rfl lb _ db _ (.str le.1) rfl (s3 _ _ eb) T.c_ T.gb (by walk_at "lk") (i0d ad _ rfl (C7t.k (k:=Sum.inr le.1) h3 (A1l (by lia))) ?_)));refine i0k _ _ rfl (A0s s3 had) A0b ?_;rw [C1m hle];refine C1t (e:=(le.1,le.2.1)) (c:=c) True.intro ?_ (ar3.imp λb zs _ z=>⟨True.intro,by rw [A0k (A3a z h3 (by intro w;cases w))];exact z⟩);rw [A0k (A3a hc3 h3 (by intro w;cases w))];exact hc3
  ·rintro Z H3 ⟨o3,ws,rfl,s3,h3,ar3⟩;rw [lxs,Z18] at ar3;have eo:=C4k (tb:=tb) (z:=B1l ax ls) ok.t2 du2;have eol:=eo.l;have lw:=Paired.length ar3;have s03:=s1.trans s3;refine i16 _ rfl p _ dx _ (.int wh) rfl (s3 _ _ e) T.a_ T.j7 (by walk_at "lk") (i0n _ rfl p wh ax tb (i0k ls os rfl (pr.same s03) ok.nd λql hql=> ?_));obtain ⟨G4,s4,gql,eNH⟩:=nH (o:= .dK (A3t ax)) hql
   try rw [eNH]
   refine i02 _ rfl (i0n _ rfl p wh ax tb (i0k ls os rfl (pr.same (s03.trans s4)) (by lia) λqt H5 hqt s5 h5=> ?_));have s35:=s4.trans s5;refine i02 _ rfl (i16 _ rfl p _ dx _ (.ref o) rfl (s35 _ _ (s3 _ _ e)) T.a_ T.jw (by walk_at "lk") λcp dc hcp hdc hne=> ?_);have s6:A1f H5 (upd (upd H5 dc (.own cp)) cp (.ins t.am dc [])):=A0s (A0f hdc) hcp;have g6:upd (upd H5 dc (.own cp)) cp (.ins t.am dc []) cp=some (.ins t.am dc []):=A0b;generalize upd (upd H5 dc (.own cp)) cp (.ins t.am dc [])=G6 at s6 g6;have s36:=s35.trans s6;have s16:=s3.trans s36
   have ho1:H1 o=some (.lst (os.map V.str)):=by
    obtain ⟨_,e1,e2⟩:=B6p ho;cases e1;exact e2
   refine ⟨cp,(i0f dc ql ad qt (i1d l o wh (A3t ax) ws (ax.map (·.2)) _ (tb.map (·.1)) os xs _ rfl g6 (s6 _ _ (s5 _ _ gql)) (i04 (C2f ax) (by unfold A3t;rw [Z08];lia) (s36 _ _ h3) (i0g (ar3.same s36) (by lia) eo.a (s6 _ _ h5) (by rw [Z08];lia) (i0g (s16 _ _ hl1) (by lia) (λx hx=> ?_) (s16 _ _ ho1) (by lia) λl' a' t' v' o' ak' H9 hp9 nl' hl9 na' ha9 ar9 nt' ht9 nv' hv9 no' ho9 kb9=>⟨rfl,?_⟩)))))⟩
   ·obtain ⟨j,hj⟩:=List.getElem?_of_mem hx;obtain ⟨le,_,x0,d0,_,_,_,rfl,e0,_⟩:=B2l lns hj;have e5:=s35 _ _ (s3 _ _ e0);exact i0l x0 d0 _ rfl (λz=>by subst z;rw [e5] at hcp;cases hcp) (s6 _ _ e5)
   have s59:A1f H5 H9:=KB.same s6 kb9 hcp;have s19:=s3.trans (s35.trans s59);exact k cp H9 (s1.trans s19) ⟨dc,wh,l',a',t',v',o',ak',xs,hp9,ha9,ar9.imp λb zs _ z=>⟨True.intro,z⟩,hv9,Paired.mapP lns λ_ _ z=>z.same s19⟩
theorem A9m {α:Type} {f:α->V} {xs:List α} (h:(xs.map f)[i]? =some v):∃x,xs[i]? =some x/\v=f x:=by
 rw [Z1z] at h
 cases e:xs[i]? with
 | none=>rw [e] at h;cases h
 | some x=>rw [e] at h;exact i02 x rfl ((Z1a h).symm)
def B4m:Sp:=λvs H Q _=>∃r:Int,vs=[.int r]/\∀z:Int,Sm z->Q (.int z) H
def B4r (lk:List (Key×V)) (nm:List Str):Prop:=∀y∈nm,∃n:Int,B4h lk (Sum.inr y)=some (.int n)/\1<=n/\n<=60
inductive B0j (lk:List (Key×V)):List Str->Int->Prop
 | nil:B0j lk [] 1
 | snoc {ys:List Str} {y:Str} {z n:Int}:B0j lk ys z->B4h lk (Sum.inr y)=some (.int n)->B0j lk (ys++[y]) (z*n)
def C5o:Sp:=λvs H Q _=>∃(l d:Addr) (ys:List Str) (lk:List (Key×V)),vs=[.ref l,.ref d]/\H l=some (.lst (ys.map V.str))/\H d=some (.dK lk)/\B4r lk ys/\∀(z:Int),1<=z->B0j lk ys z->Q (.int z) H
def B9i:Sp:=λvs H Q _=>∃(r most:Int) (g d:Addr) (nm:List Str) (lk:List (Key×V)),vs=[.int r,.ref g,.ref d,.int most]/\H g=some (.lst (nm.map V.str))/\nm.length<=1000/\H d=some (.dK lk)/\B4r lk nm/\
 ∀(l:Addr) (ys:List Str) (H':Hp),H l=none->A1f H H'->H' l=some (.lst (ys.map V.str))->(∀y∈ys,y∈nm)->ys.length<=3->(ys≠[]->∃z,B0j lk ys z/\z<=most)->Q (.ref l) H'
theorem D0k {k:Key}:(kvs.map (·.1)).Nodup->kvs[i]? =some (k,v)->B4h kvs k=some v:=by
 induction kvs generalizing i with
 | nil=>intro _ h;simp at h
 | cons p r ih =>
  intro n h;have n:(p.1::r.map (·.1)).Nodup:=n;obtain ⟨n1,n2⟩:=Z15.mp n
  cases i with
  | zero =>
   simp at h;subst h;exact B2d rfl
  | succ j =>
   have h:r[j]? =some (k,v):=by simpa using h
   rw [B2i (λe=>n1 (by rw [e];exact Z2c.mpr (i02 _ (Z13 h) rfl)))];exact ih n2 h
theorem C8q {k:Key} (h:B4h kvs k=some v):∃p∈kvs,p.1=k/\p.2=v:=by
 unfold B4h at h;obtain ⟨p,hp,e⟩:=Z0i.mp h;have:=List.find?_some hp;exact i06 p (List.mem_of_find?_eq_some hp) (of_decide_eq_true this) e
def B8j (K:Frag):Sp:=λvs H Q _=>∃(a:Addr) (ns:List Int) (k:Int),vs=[.ref a,.int k]/\SqL K H a (ns.map V.int)/\0<=k/\∀z:Int,Q (.int z) H
def Dsc (pre suf:Str) (F:Int) (j:Nat) (x:Str):Prop:=∃ch,abc.cps.toList[((F+(j:Int))%26).toNat]? =some ch/\(x=pre++⟨#[ch]⟩++suf\/x=pre++⟨#[ch]⟩++suf++"s")
theorem C7h:abc.cps.toList.Nodup:=by decide +kernel
theorem B5n (h:x=y):x.cps.toList=y.cps.toList:=by rw [h]
theorem D0p (a b c:Str):(a++b++c).cps.toList=a.cps.toList++b.cps.toList++c.cps.toList:=by rw [Str.cps_append,Array.toList_append,Str.cps_append,Array.toList_append]
theorem D7c {pre suf:Str} {F:Int} {j:Nat} (hi:i<26) (hj:j<26) (hx:Dsc pre suf F i x) (hy:Dsc pre suf F j y) (ne:i≠j):x≠y:=by
 obtain ⟨c,h1,h2⟩:=hx;obtain ⟨d,h3,h4⟩:=hy
 have cd:c≠d:=λz=>by
  subst z;have a1:=(Z03.mp h1).1;have a2:=(Z03.mp h3).1;have:=(List.getElem?_inj a1 C7h).mp (h1.trans h3.symm)
  lia
 have l1:(⟨#[c]⟩:Str).cps.toList=[c]:=rfl;have l2:(⟨#[d]⟩:Str).cps.toList=[d]:=rfl
 have core:pre.cps.toList++[c]++suf.cps.toList≠pre.cps.toList++[d]++suf.cps.toList:=λz=>by
  rw [Z0z,Z0z] at z;have:=List.append_cancel_left z;injection this with z1 z2;exact cd z1
 have ls:("s":Str).cps.toList.length=1:=by decide +kernel
 intro e;rcases h2 with rfl | rfl <;> rcases h4 with rfl | rfl
 ·have:=B5n e;rw [D0p,D0p,l1,l2] at this;exact core this
 ·have:=congrArg List.length (B5n e);rw [Str.cps_append _ ("s":Str),Array.toList_append,D0p,D0p,l1,l2] at this;simp only [Z06,Z0y,Z2g,ls] at this
  lia
 ·have:=congrArg List.length (B5n e);rw [Str.cps_append _ ("s":Str),Array.toList_append,D0p,D0p,l1,l2] at this;simp only [Z06,Z0y,Z2g,ls] at this
  lia
 ·have:=B5n e;rw [Str.cps_append _ ("s":Str),Array.toList_append,Str.cps_append _ ("s":Str),Array.toList_append,D0p,D0p,l1,l2] at this;exact core (List.append_cancel_right this)
theorem C4j {pre suf:Str} {F:Int} {nm:List Str} (hn:n<=26) (h:Paired (Dsc pre suf F) (List.range n) nm):nm.Nodup:=by
 have hl:=Paired.length h;rw [List.length_range] at hl;refine List.pairwise_iff_getElem.mpr λi j hi hj hij=> ?_;obtain ⟨a,ha,ra⟩:=A8f h (Z0b hi);obtain ⟨b,hb,rb⟩:=A8f h (Z0b hj);rw [List.getElem?_range (by lia)] at ha hb;cases ha;cases hb;exact D7c (by lia) (by lia) ra rb (by lia)
def B5p:Sp:=λvs H Q _=>∃c o:Int,vs=[.int c,.int o,.int 22]/\∀(p:Addr) (nm:List Str) (H':Hp),H p=none->A1f H H'->H' p=some (.lst (nm.map V.str))->nm.length=22->(∀x∈nm,A8k x/\1<=x.length)->nm.Nodup->Q (.ref p) H'
theorem D7e {nm:List Str} (n:nm.Nodup) (h:nm[i]? =some y) (ks:ws.map (·.1)=(nm.take i).map λx=>(Sum.inr x:Key)) (u:V):B1n ws (Sum.inr y) u=ws++[(Sum.inr y,u)]:=by
 have nd:((nm.map λx=>(x,([]:List Str))).map (·.1)).Nodup:=by rw [List.map_map,show ((λx:Str×List Str=>x.1)∘λx=>(x,([]:List Str)))=id from rfl,List.map_id];exact n
 exact D2g (es:=nm.map λx=>(x,([]:List Str))) (e:=(y,[])) nd (by rw [Z1z,h];rfl) (by rw [ks,<-List.map_take,List.map_map];rfl) u
def C3d:Sp:=λvs H Q _=>∃c k:Int,vs=[.int c,.int k]/\0<=k/\k<=1000/\∀z:Int,Q (.int z) H
def C5p:Sp:=λvs H Q _=>∃c k:Int,vs=[.int c,.int k]/\0<=k/\k<=1000/\∀z:Int,Q (.int z) H
theorem A6c (T:Txt K mg t):FO P w base T.ay 1 (B8j K):=by
 refine T.ay.F.ok B8b (by walk_at "ln") λ_ A _ s H _ Q E hr h=> ?_
 ·refine e09 h ?_;clear h;rintro a ns k rfl hS k0 q;refine i02 _ (@A0c _ _ _ _ _ (@A1z _ _ _ _ _ _ _ _ (@A0o _ _ _ _ _ _ _ _ C0m (pv 1) (A0y A0x (by rfl) T.bf Z0r (@A0a _ _ _ _ _ (pv 0) A0d rfl)) (A1e _)) (@A0g _ _ _ (@A0u _ _ _ _ (@A0z _ _ _ _ _ _ _ A1n (pv 0) (pv 1) (λ_ _=>rfl)))) A1d) (@A0g _ _ _ (@A0u _ _ _ _ (@A0r _ _ _ _ _ _ _ _ A2r (@A0r _ _ _ _ _ _ _ _ A8w A0e (pv 1)) A0e)))) ?_;refine i0u _ rfl _ rfl a _ rfl (.inl hS) ⟨_,(i0i _ rfl rfl _ rfl ?_)⟩;refine A4m (λhk=> ?_) (λ_=>(i02 _ rfl (i0x _ _ rfl rfl (.inl ⟨by decide,by decide⟩) _ _ rfl rfl (q _))));obtain ⟨z,_,e⟩:=A5u (f:=V.int) (xs:=ns) k0 (by simpa using hk);exact i15 _ rfl _ rfl a _ _ _ rfl rfl hS e (q _)
theorem B5g (T:Txt K mg t):FO P w base T.jp 1 B5p:=by
 refine T.jp.F.ok A2c (by walk_at "ln") λ_ A _ s H _ Q E hr h=> ?_
 ·obtain ⟨c,o,rfl,k⟩:=h;refine i02 _ (@A0c _ _ _ _ _ (@A0l _ _ 3 _ _ _ _ A2c.nd rfl (.inl rfl) A1h rfl (by first | exact Or.inl rfl | exact Or.inr rfl | assumption)) (@A0c _ _ _ _ _ (@A0l _ _ 4 _ _ _ _ A2c.nd rfl (.inl rfl) A1h rfl (by first | exact Or.inl rfl | exact Or.inr rfl | assumption)) (@A0c _ _ _ _ _ (@A0l _ _ 5 _ _ _ _ A2c.nd rfl (.inl rfl) (@A0r _ _ _ _ _ _ _ _ A1u (pv 0) A0e) rfl (by first | exact Or.inl rfl | exact Or.inr rfl | assumption)) (@A0c _ _ _ _ _ (A3d PassesOwn.never rfl (A3k rfl T.cr (@A0a _ _ _ _ _ (@A0r _ _ _ _ _ _ _ _ A2r A0e (@A0r _ _ _ _ _ _ _ _ A1x (pv 0) A0e)) A0d rfl)) (A0n (i:=6) A2c.nd rfl (.inl rfl)) (@A0c _ _ _ _ _ (@A0l _ _ 4 _ _ _ _ A2c.nd rfl (.inl rfl) (@A0r _ _ _ _ _ _ _ _ A4c (pv 4) (@A0z _ _ _ _ _ _ _ C6k (pv 3) (@A0r _ _ _ _ _ _ _ _ A1x (pv 5) A0e) (λ_ _=>rfl))) rfl (by first | exact Or.inl rfl | exact Or.inr rfl | assumption)) (@A0g _ _ _ (@A0l _ _ 5 _ _ _ _ A2c.nd rfl (.inl rfl) (@A0r _ _ _ _ _ _ _ _ A1u (pv 5) A0e) rfl (by first | exact Or.inl rfl | exact Or.inr rfl | assumption))))) (@A0c _ _ _ _ _ (@A0l _ _ 7 _ _ _ _ A2c.nd rfl (.inl rfl) (@A0r _ _ _ _ _ _ _ _ A1x (pv 1) (A0y B8c (by rfl) T.bf Z0r (@A0a _ _ _ _ _ (pv 4) A0d rfl))) rfl (by first | exact Or.inl rfl | exact Or.inr rfl | assumption)) (@A0c _ _ _ _ _ (@A0l _ _ 8 _ _ _ _ A2c.nd rfl (.inl rfl) (@A1q _ _ _ _ A0d) rfl (by first | exact Or.inl rfl | exact Or.inr rfl | assumption)) (@A0c _ _ _ _ _ (A3d PassesOwn.never rfl (A3k rfl T.cr (@A0a _ _ _ _ _ (pv 2) A0d rfl)) (A0n (i:=6) A2c.nd rfl (.inl rfl)) (@A0c _ _ _ _ _ (@A0l _ _ 9 _ _ _ _ A2c.nd rfl (.inl rfl) (@A0z _ _ _ _ _ _ _ C6k (pv 3) (@A0r _ _ _ _ _ _ _ _ A1x (@A0r _ _ _ _ _ _ _ _ A2r (A5g PySem.F.plainAttrs_str PySem.F.slot_str_find PySem.F.type_str_find D2l (pv 3) (@A0a _ _ _ _ _ (@A0z _ _ _ _ _ _ _ C6k (pv 4) (pv 7) (λ_ _=>rfl)) A0d rfl)) (pv 6)) A0e) (λ_ _=>rfl)) rfl (by first | exact Or.inl rfl | exact Or.inr rfl | assumption)) (@A0c _ _ _ _ _ (@A0l _ _ 10 _ _ _ _ A2c.nd rfl (.inl rfl) (@A0r _ _ _ _ _ _ _ _ A4c (@A0r _ _ _ _ _ _ _ _ A4c (@B2e _ _ _ _ _ _ _ _ _ _ D0e (pv 4) C0q (B3o (pv 7))) (pv 9)) (@B2e _ _ _ _ _ _ _ _ _ _ D0e (pv 4) (B3o (@A0r _ _ _ _ _ _ _ _ A2r (pv 7) A0e)) C0q)) rfl (by first | exact Or.inl rfl | exact Or.inr rfl | assumption)) (@A4k _ _ _ _ _ (@A1z _ _ _ _ _ _ _ _ (PW.pt (B0f (@A0o _ _ _ _ _ _ _ _ A2j (pv 10) A1h (A1e _)) (A9y (@A0o _ _ _ _ _ _ _ _ A2j (pv 10) A1h (A1e _))))) (@A0g _ _ _ (@A0l _ _ 10 _ _ _ _ A2c.nd rfl (.inl rfl) (@A0r _ _ _ _ _ _ _ _ A4c (pv 10) A1h) rfl (by first | exact Or.inl rfl | exact Or.inr rfl | assumption))) A1d) (@A0g _ _ _ (A2t (A5g Z0k Z0n Z0o A2d (pv 8) (@A0a _ _ _ _ _ (pv 10) A0d rfl)))))))) (@A0g _ _ _ (@A0u _ _ _ _ (pv 8)))))))))) ?_;have c1:1<=1+c%8/\1+c%8<=8:=by lia
  refine i0m _ rfl _ _ rfl rfl (i05 ⟨by decide,by decide⟩ _ rfl (i0x _ _ rfl rfl D7i _ _ rfl rfl (i0a _ rfl (by lia) (by lia) ?_)))
  refine A3r (n:=(1+c%8).toNat) (λi Z H2=>H=H2/\∃(wd:Str) (r:Int) (o5:Option V),Z=[Sio c,Sio o,Sio 22,Sso abc,Sso wd,Sio r,o5,none,none,none,none]/\wd.length=i/\PyData.strOk wd=true)
   ⟨rfl,(i0l _ _ none rfl rfl (by decide +kernel))⟩ ?_ ?_
  ·rintro i Z H2 hi ⟨rfl,wd,r,o5,rfl,hl,ho⟩;obtain ⟨ch,e1,e2⟩:=B7s (xs:=abc.cps.toList) (i:=r%26) (by lia) (by rw [C4u];lia);have hc:ch<0x110000:=D0h ch (Z13 e1);have l1:(⟨#[ch]⟩:Str).length=1:=rfl;refine i0z _ rfl _ rfl _ rfl _ _ rfl rfl ⟨D6r,(i0s _ _ ch rfl rfl (A1k (by rw [C2e];decide)) e2 (i0k _ _ rfl rfl (A1k (by lia)) ?_))⟩;refine i0q _ rfl _ _ rfl rfl ⟨by decide,by decide⟩ ⟨rfl,(i0l (wd++⟨#[ch]⟩) _ _ rfl (by rw [Str.length_append,l1,hl]) (A6p ho (D0r hc)))⟩
  rintro Z H2 ⟨rfl,wd,r,o5,rfl,hl,ho⟩;have hl1:1<=wd.length/\wd.length<=8:=by lia
  refine i02 _ rfl (i0j _ rfl wd rfl (A1k (by lia)) (i0o _ _ rfl rfl (by show (0:Int)<(wd.length:Int);lia) (A0q rfl) λl hl=> ?_));have s0:0<=o%(wd.length:Int):=Z1v _ (by lia);have s1:o%(wd.length:Int)<wd.length:=Z1p _ (by lia);obtain ⟨cs,f1,f2⟩:=B7s (xs:=wd.cps.toList) s0 (by rw [lenC];exact s1)
  refine ⟨_,rfl,22,rfl,by decide,by decide,A3r (n:=22) (λi Z H2=>∃(nm:List Str) (o5 o8 o9:Option V),Z=[Sio c,Sio o,Sio 22,Sso abc,Sso wd,Sio r,o5,Sio (o%(wd.length:Int)),Sro l,o8,o9]/\A1f H H2/\
   H2 l=some (.lst (nm.map V.str))/\nm.length=i/\(∀x∈nm,A8k x/\1<=x.length)/\Paired (Dsc (Txt.slice wd none (some (o%(wd.length:Int)))) (Txt.slice wd (some (o%(wd.length:Int)+1)) none) (Txt.find abc ⟨#[cs]⟩)) (List.range i) nm) (i0y [] o5 none none rfl (A0f hl) A0b rfl (by intro x hx;cases hx) .nil) ?_ ?_⟩
  ·rintro i Z H2 hi zz;refine e0d zz ?_;clear zz;rintro nm o5 o8 o9 rfl s2 h2 hn ⟨hx,ds⟩;rw [Int.zero_add];obtain ⟨ch,e1,e2⟩:=B7s (xs:=abc.cps.toList) (i:=(Txt.find abc ⟨#[cs]⟩+(i:Int))%26) (by lia) (by rw [C4u];lia);have hc:ch<0x110000:=D0h ch (Z13 e1);have l1:(⟨#[ch]⟩:Str).length=1:=rfl;have la:=Txt.slice_le wd none (some (o%(wd.length:Int)));have lb:=Txt.slice_le wd (some (o%(wd.length:Int)+1)) none;refine i02 _ rfl (i0i _ rfl rfl _ rfl (i0v _ rfl _ _ cs rfl rfl (A1k (by lia)) (i0h f2 _ _ rfl rfl (i0m _ rfl _ _ rfl rfl (i0k _ _ rfl rfl D6r (i0s _ _ ch rfl rfl (A1k (by rw [C2e];decide)) e2 ?_))))));refine i0c _ rfl _ rfl (i0j _ rfl wd rfl (A1k (by lia)) (i0q _ rfl _ _ rfl rfl (A1k (by lia)) (i0u _ rfl _ rfl _ _ rfl rfl (i0j _ rfl wd rfl (A1k (by lia)) (i0k _ _ rfl rfl (A1k (by rw [Str.length_append];lia)) ?_)))));have okm:PyData.strOk (Txt.slice wd none (some (o%(wd.length:Int)))++⟨#[ch]⟩++Txt.slice wd (some (o%(wd.length:Int)+1)) none)=true:=A6p (A6p (B6r ho) (D0r hc)) (B6r ho);have lm:(Txt.slice wd none (some (o%(wd.length:Int)))++⟨#[ch]⟩++Txt.slice wd (some (o%(wd.length:Int)+1)) none).length<=17:=by rw [Str.length_append,Str.length_append];lia
   have ls:("s":Str).length=1:=by decide +kernel
   have m1:1<=(Txt.slice wd none (some (o%(wd.length:Int)))++⟨#[ch]⟩++Txt.slice wd (some (o%(wd.length:Int)+1)) none).length:=by rw [Str.length_append,Str.length_append];lia
   generalize hmd:(Txt.slice wd none (some (o%(wd.length:Int)))++⟨#[ch]⟩++Txt.slice wd (some (o%(wd.length:Int)+1)) none)=md at okm lm m1;refine i02 (λZ H3=>H2=H3/\∃x,PyData.strOk x=true/\(x=md\/x=md++"s")/\Z=[Sio c,Sio o,Sio 22,Sso abc,Sso wd,Sio r,Sio (i:Int),Sio (o%(wd.length:Int)),Sro l,some (.str ⟨#[ch]⟩),Sso x]) ?_ ?_
   ·have yes:PyData.strOk (md++"s")=true:=A6p okm (by decide +kernel);refine i0i _ rfl rfl _ rfl (C4v (λ_=>A5h (i0q _ rfl _ _ rfl rfl (A1k (by lia)) ⟨rfl,(i06 _ yes (.inr rfl) rfl)⟩)) (λ_=> ?_));exact i0i _ rfl rfl _ rfl (C4v (λ_=>(i0q _ rfl _ _ rfl rfl (A1k (by lia)) ⟨rfl,(i06 _ yes (.inr rfl) rfl)⟩)) (λ_=>⟨rfl,(i06 _ okm (.inl rfl) rfl)⟩))
   rintro Z H3 ⟨rfl,x,okx,xe,rfl⟩;refine i0i _ rfl (.inl (i01 rfl _ (SqL.of h2))) _ rfl (i0s l _ _ rfl rfl h2 (A1l (by simp;lia)) (i0y (nm++[x]) _ _ _ rfl (A0s s2 hl) (by rw [A0b,Z0s];rfl) (by simp [hn]) (λy hy=> ?_) ?_))
   ·rcases Z07.mp hy with hy | hy
    ·exact hx y hy
    ·have:y=x:=by simpa using hy
     subst this;rcases xe with e | e
     ·rw [e] at okx⊢;exact ⟨⟨by lia,okx⟩,m1⟩
     ·have:=Str.length_append md ("s":Str);rw [e] at okx⊢;exact ⟨⟨by lia,okx⟩,by lia⟩
   ·rw [List.range_succ];exact B2c ds (.cons (i02 ch e1 (by rw [hmd];exact xe)) .nil)
  ·rintro Z H2 zz;refine e0d zz ?_;clear zz;rintro nm o5 o8 o9 rfl s2 h2 hn ⟨hx,ds⟩;exact i02 _ rfl (k l nm H2 hl s2 h2 hn hx (C4j (by decide) ds))
theorem B3k (T:Txt K mg t):FO P w base T.lj 1 C5o:=by
 refine T.lj.F.ok A9v (by walk_at "ln") λ_ A _ s H _ Q E hr h=> ?_
 ·refine e0d h ?_;clear h;rintro l d ys lk rfl hl hd dk k;have hu:=B1b hr;refine i02 _ (@A0c _ _ _ _ _ (@A0l _ _ 2 _ _ _ _ A9v.nd rfl (.inl rfl) A0e rfl (by first | exact Or.inl rfl | exact Or.inr rfl | assumption)) (@A0c _ _ _ _ _ (A3d PassesOwn.never rfl (A2q (pv 0)) (A0n (i:=3) A9v.nd rfl (.inl rfl)) (@A0g _ _ _ (@A0l _ _ 2 _ _ _ _ A9v.nd rfl (.inl rfl) (@A0r _ _ _ _ _ _ _ _ A8w (pv 2) (@A5d _ _ _ _ _ _ hu (pv 1) (pv 3) (λ_ _=>rfl))) rfl (by first | exact Or.inl rfl | exact Or.inr rfl | assumption)))) (@A0g _ _ _ (@A0u _ _ _ _ (pv 2))))) ?_;refine i0j _ rfl l rfl ⟨_,SqL.of hl⟩ ?_;refine A5i (K:=K) (a:=l) (xs:=ys.map V.str) (λi Z H2=>H=H2/\∃(o3:Option V) (z:Int),Z=[Sro l,Sro d,Sio z,o3]/\1<=z/\B0j lk (ys.take i) z) (i0h rfl none 1 rfl (by decide) .nil) (λi Z H2 _ ⟨e,_⟩=>SqL.of (by rw [<-e];exact hl)) ?_ ?_
  ·rintro i x Z H2 hx ⟨rfl,o3,z,rfl,z1,mo⟩;obtain ⟨y,hy,rfl⟩:=A9m hx;obtain ⟨n,vn,n1,n60⟩:=dk y (Z13 hy);have g:=B8e.k (H:=H) (a:=d) (k:=Sum.inr y) hd;rw [vn] at g
   have zn:1<=z*n:=by
    have:=Int.mul_le_mul z1 n1 (by lia) (by lia)
    lia
   refine i0z _ rfl _ rfl _ rfl d _ rfl g (i0k _ _ rfl rfl (.inr ⟨by lia,by lia⟩) (i0h rfl _ (z*n) rfl zn ?_));rw [Z14,hy];exact mo.snoc vn
  ·rintro Z H2 ⟨rfl,o3,z,rfl,z1,mo⟩;rw [Z08,Z18] at mo;exact i02 _ rfl (k z z1 mo)
theorem B7p (T:Txt K mg t):FO P w base T.fj 2 B9i:=by
 have Gc7:= @B3k P w K mg base t T;refine T.fj.F.ok A4r (λvs H Q E h=> ?_) λ_ A _ s H _ Q E hr h=> ?_
 ·refine e08 h ?_;clear h;rintro r most g d nm ⟨lk,rfl,_⟩;rfl
 ·refine e0g h ?_;clear h;rintro r most g d nm lk rfl hg lnm hd dk k;refine i02 _ (@A0c _ _ _ _ _ (@A0l _ _ 4 _ _ _ _ A4r.nd rfl (.inl rfl) (@A1q _ _ _ _ A0d) rfl (by first | exact Or.inl rfl | exact Or.inr rfl | assumption)) (@A0c _ _ _ _ _ (@A1z _ _ _ _ _ _ _ _ (@A0o _ _ _ _ _ _ _ _ A2j (A0y A0x (by rfl) T.bf Z0r (@A0a _ _ _ _ _ (pv 1) A0d rfl)) A0e (A1e _)) (@A0g _ _ _ (@A0u _ _ _ _ (pv 4))) A1d) (@A0c _ _ _ _ _ (A3d PassesOwn.never rfl (A3k rfl T.cr (@A0a _ _ _ _ _ (@A0r _ _ _ _ _ _ _ _ A1x (pv 0) A0e) A0d rfl)) (A0n (i:=5) A4r.nd rfl (.inl rfl)) (@A0c _ _ _ _ _ (@A0l _ _ 0 _ _ _ _ A4r.nd rfl (.inl rfl) (@A0r _ _ _ _ _ _ _ _ A1u (pv 0) A0e) rfl (by first | exact Or.inl rfl | exact Or.inr rfl | assumption)) (@A0c _ _ _ _ _ (@A0l _ _ 6 _ _ _ _ A4r.nd rfl (.inl rfl) (@A0z _ _ _ _ _ _ _ A1n (pv 1) (@A0r _ _ _ _ _ _ _ _ A1x (pv 0) (A0y A0x (by rfl) T.bf Z0r (@A0a _ _ _ _ _ (pv 1) A0d rfl))) (λ_ _=>rfl)) rfl (by first | exact Or.inl rfl | exact Or.inr rfl | assumption)) (@A0g _ _ _ (@A1z _ _ _ _ _ _ _ _ (PW.pt (A3n (@A0o _ _ _ _ _ _ _ _ A4x (pv 6) (pv 4) (by with_unfolding_all rfl)) (A3w (@A0o _ _ _ _ _ _ _ _ D6m (pcl Gc7 hr T.lj (@A0a _ _ _ _ _ (@A0r _ _ _ _ _ _ _ _ A4i (pv 4) (@A1q _ _ _ _ (@A0a _ _ _ _ _ (pv 6) A0d rfl))) (@A0a _ _ _ _ _ (pv 2) A0d rfl) rfl)) (pv 3) (A1e _))))) (@A0g _ _ _ (A2t (A5g Z0k Z0n Z0o A2d (pv 4) (@A0a _ _ _ _ _ (pv 6) A0d rfl)))) A1d))))) (@A0g _ _ _ (@A0u _ _ _ _ (pv 4)))))) ?_;refine ⟨A0q rfl,λL hL=> ?_⟩;have s0:A1f H (upd H L (.lst [])):=A0f hL;refine i0m _ rfl g _ rfl (.inl (SqL.of (s0 _ _ hg))) (i05 rfl _ rfl (A4m (λ_=> ?_) (λhne=> ?_)))
  ·exact i02 _ rfl (k L [] _ hL s0 A0b (by intro y hy;cases hy) (by simp) (λz=>absurd rfl z))
  have hpos:0<nm.length:=by
   rcases Nat.eq_zero_or_pos nm.length with z | z
   ·exact absurd (by rw [Z08,z];rfl) hne
   ·exact z
  have m4:0<=r%4/\r%4<4:=by lia
  refine i0q _ rfl _ _ rfl rfl D7d (i0a _ rfl (by lia) (by lia) ?_)
  refine A3r (n:=(r%4).toNat) (λi Z H2=>∃(r':Int) (o5 o6:Option V) (ys:List Str),Z=[Sio r',Sro g,Sro d,Sio most,Sro L,o5,o6]/\A1f H H2/\H2 L=some (.lst (ys.map V.str))/\(∀y∈ys,y∈nm)/\ys.length<=i/\(ys≠[]->∃z,B0j lk ys z/\z<=most))
   (i0y r none none [] rfl s0 A0b (by intro y hy;cases hy) (Z09 _) λz=>absurd rfl z) ?_ ?_
  ·rintro i Z H2 hi zz;refine e0d zz ?_;clear zz;rintro r' o5 o6 ys rfl s2 h2 sub ⟨ly,pm⟩;have lpos:(0:Int)<((nm.map V.str).length:Int):=by rw [Z08];lia
   refine i0q _ rfl _ _ rfl rfl ⟨by decide,by decide⟩ ?_;obtain ⟨y,hy,ey⟩:=A5u (f:=V.str) (xs:=nm) (i:=r'/4%((nm.map V.str).length:Int)) (Z1v _ (by lia)) (by have:=Z1p (r'/4) lpos;rw [Z08] at this⊢;exact this);refine i0z _ rfl _ rfl _ rfl g _ rfl (.inl (SqL.of (s2 _ _ hg))) (i0k _ _ rfl rfl lpos (i0w g _ _ _ rfl rfl (SqL.of (s2 _ _ hg)) ey ?_));have my:=Z13 hy;refine i14 _ rfl _ rfl L _ rfl (.inl (SqL.of h2)) rfl (A4u ys) _ rfl ?_;show if (! inV (V.str y) (ys.map V.str))=true then _ else _
   rw [B1c];refine D8l (λhnot=> ?_) (λhin=>A2u (i0y _ _ _ ys rfl s2 h2 sub (by lia) pm));refine i0j _ rfl _ rfl (A0q rfl) λz hz=> ?_;have sz:A1f H2 (upd H2 z (.lst [.str y])):=A0f hz;refine i0y L z _ _ rfl rfl (sz _ _ h2) A0b (A1k (by simp;lia)) λc hc=> ?_;have sc':=A0f (o:= .lst (ys.map V.str++[V.str y])) hc;have sc:=sz.trans sc';have hcc:upd (upd H2 z (.lst [.str y])) c (.lst (ys.map V.str++[V.str y])) c=some (.lst ((ys++[y]).map V.str)):=by rw [A0b,Z0s];rfl
   generalize upd (upd H2 z (.lst [.str y])) c (.lst (ys.map V.str++[V.str y]))=G at sc hcc
   have sub':∀x∈ys++[y],x∈nm:=λx hx=>by
    rcases Z07.mp hx with hx | hx
    ·exact sub x hx
    ·rw [Z0w.mp hx];exact my
   refine i10 _ rfl c d (ys++[y]) lk rfl hcc (sc _ _ (s2 _ _ hd)) (λx hx=>dk x (sub' x hx)) λzz z1 mo=> ?_;refine i0m _ rfl _ _ rfl rfl (i02 _ rfl (A4m (λhle=> ?_) (λ_=>(i0y _ _ _ ys rfl (s2.trans sc) (sc _ _ h2) sub (by lia) pm))));refine i0i _ rfl (.inl (i01 rfl _ (SqL.of (sc _ _ h2)))) _ rfl (i0s L _ _ rfl rfl (sc _ _ h2) (A1l (by simp;lia)) ?_);exact i0y _ _ _ (ys++[y]) rfl (A0s (s2.trans sc) hL) (by rw [A0b,Z0s];rfl) sub' (by simp;lia) λ_=>(i02 zz mo hle)
  ·rintro Z H2 zz;refine e0d zz ?_;clear zz;rintro r' o5 o6 ys rfl s2 h2 sub ⟨ly,pm⟩;exact i02 _ rfl (k L ys H2 hL s2 h2 sub (by lia) pm)
theorem A4o (T:Txt K mg t):FO P w base T.ci 1 B4m:=by
 refine T.ci.F.ok B4p (by walk_at "ln") λ_ A _ s H _ Q E hr h=> ?_
 ·obtain ⟨r,rfl,q⟩:=h;refine i02 _ (@A0c _ _ _ _ _ (@A1z _ _ _ _ _ _ _ _ (@A0o _ _ _ _ _ _ _ _ A2j (@A0r _ _ _ _ _ _ _ _ A1x (pv 0) A0e) A0e (A1e _)) (@A0g _ _ _ (@A0u _ _ _ _ (@A0r _ _ _ _ _ _ _ _ A4f (@A0r _ _ _ _ _ _ _ _ A1x (@A0r _ _ _ _ _ _ _ _ A1u (pv 0) A0e) (@A0r _ _ _ _ _ _ _ _ A4f (@A0r _ _ _ _ _ _ _ _ A8w A0e (@A0r _ _ _ _ _ _ _ _ B0i A0e A0e)) A0e)) (@A0r _ _ _ _ _ _ _ _ A4f (@A0r _ _ _ _ _ _ _ _ B0i A0e A0e) A0e)))) A1d) (@A0g _ _ _ (@A0u _ _ _ _ (@A0r _ _ _ _ _ _ _ _ A4f (@A0r _ _ _ _ _ _ _ _ A1x (@A0r _ _ _ _ _ _ _ _ A1u (pv 0) A0e) A0e) A0e)))) ?_;have e30:((10:Int)^(30:Int).toNat)=1000000000000000000000000000000:=by decide +kernel
  have hp:(0:Int)<2*(10:Int)^(30:Int).toNat-1:=by rw [e30];decide
  refine i0q _ rfl _ _ rfl rfl D0g (i05 rfl _ rfl (C4v (λ_=> ?_) (λ_=> ?_)))
  ·refine i0q _ rfl _ _ rfl rfl ⟨by decide,by decide⟩ (i0k _ _ rfl rfl (i00 (by decide) (by decide) (by decide)) (i0x _ _ rfl rfl (.inl ⟨by decide,by decide⟩) _ _ rfl rfl (i0k _ _ rfl rfl hp (i0x _ _ rfl rfl (i00 (by decide) (by decide) (by decide)) _ _ rfl rfl (i0d _ _ rfl rfl (q _ (A9x ?_ ?_)))))))
   ·have:=Z1v (r/3) (show (2*(10:Int)^(30:Int).toNat-1)≠0 by lia);rw [e30] at this⊢
    lia
   ·have:=Z1p (r/3) hp;rw [e30] at this⊢
    lia
  ·refine (i0q _ rfl _ _ rfl rfl ⟨by decide,by decide⟩ (i0x _ _ rfl rfl D8c _ _ rfl rfl (q _ (A9x ?_ ?_)))) <;> lia
theorem A8n (T:Txt K mg t):FO P w base T.gc 1 C3d:=by
 refine T.gc.F.ok C3r (by walk_at "ln") λ_ A _ s H _ Q E hr h=> ?_
 ·obtain ⟨c,k,rfl,k0,k1,q⟩:=h;have pow60:(0:Int)<10^(60:Int).toNat:=by decide +kernel
  refine i02 _ (@A0c _ _ _ _ _ (@A1z _ _ _ _ _ _ _ _ (@A0o _ _ _ _ _ _ _ _ A2j (@A0r _ _ _ _ _ _ _ _ A1x (pv 0) A0e) A0e (A1e _)) (@A0g _ _ _ (@A0u _ _ _ _ (@A0r _ _ _ _ _ _ _ _ A1u (pv 0) A0e))) A1d) (@A0g _ _ _ (@A0u _ _ _ _ (@A0r _ _ _ _ _ _ _ _ A2r (@A0r _ _ _ _ _ _ _ _ A8w (@A0r _ _ _ _ _ _ _ _ A2r (@A0r _ _ _ _ _ _ _ _ A1x (@A0r _ _ _ _ _ _ _ _ A1u (pv 0) A0e) (@A0r _ _ _ _ _ _ _ _ B0i A0e A0e)) (@A0r _ _ _ _ _ _ _ _ A8w (pv 1) (pv 1))) A0e) (@A0r _ _ _ _ _ _ _ _ A8w (@A0r _ _ _ _ _ _ _ _ A2r (pv 1) A0e) A0e))))) ?_;refine i0q _ rfl _ _ rfl rfl D4l (i05 rfl _ rfl (C4v (λ_=> ?_) (λ_=> ?_)))
  ·exact i0q _ rfl _ _ rfl rfl ⟨by decide,by decide⟩ (q _)
  ·exact i0q _ rfl _ _ rfl rfl ⟨by decide,by decide⟩ (i0x _ _ rfl rfl (i00 (by decide) (by decide) (by decide)) _ _ rfl rfl ⟨pow60,(i0c _ rfl _ rfl (i0x _ _ rfl rfl (.inr ⟨by lia,by lia⟩) _ _ rfl rfl (i0k _ _ rfl rfl (.inr ⟨by decide,by decide⟩) (i0m _ rfl _ _ rfl rfl (i0x _ _ rfl rfl (.inr ⟨by decide,by decide⟩) _ _ rfl rfl (q _))))))⟩)
theorem B9j (T:Txt K mg t):FO P w base T.kz 2 C5p:=by
 have Gc8:= @A8n P w K mg base t T;refine T.kz.F.ok B0n (by walk_at "ln") λ_ A _ s H _ Q E hr h=> ?_
 ·obtain ⟨c,k,rfl,k0,k1,q⟩:=h;refine i02 _ (@A0c _ _ _ _ _ (@A0l _ _ 2 _ _ _ _ B0n.nd rfl (.inl rfl) (pcl Gc8 hr T.gc (@A0a _ _ _ _ _ (pv 0) (@A0a _ _ _ _ _ (pv 1) A0d rfl) rfl)) rfl (by first | exact Or.inl rfl | exact Or.inr rfl | assumption)) (@A0c _ _ _ _ _ (A3d PassesOwn.never rfl (A3k rfl T.cr (@A0a _ _ _ _ _ (@A0r _ _ _ _ _ _ _ _ A8w (pv 1) (@A0r _ _ _ _ _ _ _ _ A4f A0e (@A0r _ _ _ _ _ _ _ _ A1x (pv 0) A0e))) A0d rfl)) (A0n (i:=3) B0n.nd rfl (.inl rfl)) (@A0g _ _ _ (@A0l _ _ 2 _ _ _ _ B0n.nd rfl (.inl rfl) (@A0r _ _ _ _ _ _ _ _ C9l (pv 2) (@A0r _ _ _ _ _ _ _ _ B0i A0e A0e)) rfl (by first | exact Or.inl rfl | exact Or.inr rfl | assumption)))) (@A0g _ _ _ (@A0u _ _ _ _ (pv 2))))) ?_;refine i0u _ rfl _ rfl c k rfl k0 ⟨k1,λz=> ?_⟩
  have m:0<=k*(1-c%2)/\k*(1-c%2)<=1000:=by
   rcases Int.emod_two_eq c with e | e
   ·rw [e];lia
   ·rw [e];lia
  refine i0c _ rfl _ rfl (i0x _ _ rfl rfl D4l _ _ rfl rfl (i0k _ _ rfl rfl (.inl ⟨by lia,by lia⟩) (i0a _ rfl (by lia) (by lia) ?_)));refine A3r (n:=(k*(1-c%2)).toNat) (λi Z H2=>H=H2/\∃(z:Int) (o3:Option V),Z=[Sio c,Sio k,Sio z,o3]) ⟨rfl,(i03 z none rfl)⟩ ?_ ?_
  ·rintro i Z H2 hi ⟨rfl,z,o3,rfl⟩;exact i0q _ rfl _ _ rfl rfl (i00 (by decide) (by decide) (by decide)) (i0o _ _ rfl rfl ⟨by decide +kernel,by decide +kernel⟩ rfl (i03 _ _ rfl))
  ·rintro Z H2 ⟨rfl,z,o3,rfl⟩;exact i02 _ rfl (q z)
def opS:Op3->Str
 | .plus=>"plus"
 | .minus=>"minus"
 | .times=>"times"
def A1t:Tm->PyData
 | .num z=> .tuple [.str "number",.int z]
 | .place x=> .tuple [.str "place",.str x]
 | .read a ix=> .tuple [.str "read",.str a,A5b ix]
 | .sum x b=> .tuple [.str "sum",.str x,A1t b]
 | .pair k l r=> .tuple [.str (opS k),A1t l,A1t r]
 | .guard x lo hi l r=> .tuple [.str "guard",.str x,.int lo,.int hi,A1t l,A1t r]
theorem B8n {z:Int} (h:H p=some (.tup [.str "number",.int z])):Rep H (.ref p) (A1t (.num z)):= .tup h (.cons (.str _) (.cons (.int _) .nil))
theorem B6s (h:H p=some (.tup [.str "place",.str x])):Rep H (.ref p) (A1t (.place x)):= .tup h (.cons (.str _) (.cons (.str _) .nil))
theorem C0l {a:Str} (h:H p=some (.tup [.str "read",.str a,v])) (r:Rep H v (A5b ix)):Rep H (.ref p) (A1t (.read a ix)):= .tup h (.cons (.str _) (.cons (.str _) (.cons r .nil)))
theorem D0o (h:H p=some (.tup [.str "sum",.str x,v])) (r:Rep H v (A1t b)):Rep H (.ref p) (A1t (.sum x b)):= .tup h (.cons (.str _) (.cons (.str _) (.cons r .nil)))
theorem B2w {k:Op3} {u:V} {l r:Tm} (h:H p=some (.tup [.str (opS k),v,u])) (r1:Rep H v (A1t l)) (r2:Rep H u (A1t r)):Rep H (.ref p) (A1t (.pair k l r)):= .tup h (.cons (.str _) (.cons r1 (.cons r2 .nil)))
theorem A5z {lo hi:Int} {u:V} {l r:Tm} (h:H p=some (.tup [.str "guard",.str x,.int lo,.int hi,v,u])) (r1:Rep H v (A1t l)) (r2:Rep H u (A1t r)):Rep H (.ref p) (A1t (.guard x lo hi l r)):= .tup h (.cons (.str _) (.cons (.str _) (.cons (.int _) (.cons (.int _) (.cons r1 (.cons r2 .nil))))))
def TmL (lk:List (Key×V)):Tm->Prop
 | .sum x b=>B4r lk [x]/\TmL lk b
 | .pair _ l r=>TmL lk l/\TmL lk r
 | .guard x _ _ l r=>B4r lk [x]/\TmL lk l/\TmL lk r
 | .read a _=>PyData.strOk a=true
 | _=>True
theorem dk1 {n:Int} (h:B4h lk (Sum.inr x)=some (.int n)) (h1:1<=n) (h2:n<=60):B4r lk [x]:=λy hy=>by
 rw [Z0w.mp hy];exact i06 n h h1 h2
def NmS (nm:List Str):Prop:=∀x∈nm,A8k x/\1<=x.length
abbrev G3:=Str×Int×Int
def D8z (H:Hp) (v:V) (e:G3):Prop:=∃q,v= .ref q/\H q=some (.tup [.str e.1,.int e.2.1,.int e.2.2])
def B7t:Sp:=λvs H Q _=>∃(v:V) (gl d:Addr) (r:Int) (gs:List V) (gt:List G3) (u:Tm) (lk:List (Key×V)) (S:Addr->Prop),vs=[v,.ref gl,.int r,.ref d]/\Fr S H/\Rep (A1a S H) v (A1t u)/\TmW u/\TmL lk u/\H gl=some (.lst gs)/\Paired (D8z H) gs gt/\(∀e∈gt,A8k e.1/\Sm e.2.1/\Sm e.2.2)/\H d=some (.dK lk)/\B4r lk (gt.map (·.1))/\
 ∀(v':V) (u':Tm) (H':Hp),A1f H H'->Rep (A1a S H') v' (A1t u')->TmW u'->TmL lk u'->dep u'<=dep u+gt.length->Q v' H'
theorem D7a {t3:TT} {d3:Bool} (h:∀b:Bool,Q b H) (e1:∀Q':Bool->Hp->Prop,Q' d1 H->t1 Z H Q') (e2:∀Q':Bool->Hp->Prop,Q' d2 H->t2 Z H Q') (e3:∀Q':Bool->Hp->Prop,Q' d3 H->t3 Z H Q'):tOr t1 (tOr t2 t3) Z H Q:=by
 refine e1 _ ?_
 cases d1 with
 | true=>exact h true
 | false =>
  refine A2u (e2 _ ?_)
  cases d2 with
  | true=>exact h true
  | false=>exact A2u (e3 _ (h d3))
theorem B7f (T:Txt K mg t):FO P w base T.k_ 2 B7t:=by
 have Gc9:= @A4o P w K mg base t T;refine T.k_.F.ok A3o (λvs H Q E h=> ?_) λ_ A _ s H _ Q E hr h=> ?_
 ·refine e0f h ?_;clear h;rintro v gl d r gs gt u lk S ⟨rfl,_⟩;rfl
 ·refine e0h h ?_;clear h;rintro v gl d r gs gt u lk S rfl fr rp wu tu ⟨hgl,pg,hg,hd,dk,k⟩;have hu:=B1b hr;have lg:=Paired.length pg;refine i02 _ (@A0c _ _ _ _ _ (@A0l _ _ 4 _ _ _ _ A3o.nd rfl (.inl rfl) (pv 0) rfl (by first | exact Or.inl rfl | exact Or.inr rfl | assumption)) (@A0c _ _ _ _ _ (A3d PassesOwn.never rfl (A2q (pv 1)) (A3f (n:=3) rfl (A0v (A0n (i:=5) A3o.nd rfl (.inl rfl)) (A0v (A0n (i:=6) A3o.nd rfl (.inl rfl)) (A0v (A0n (i:=7) A3o.nd rfl (.inl rfl)) A2k)))) (@A4k _ _ _ _ _ (@A1z _ _ _ _ _ _ _ _ (PW.pt (B0f (@A0o _ _ _ _ _ _ _ _ A7n (pv 6) A0e (A1e _)) (B0f (@A0o _ _ _ _ _ _ _ _ C0m (pv 7) (@A5d _ _ _ _ _ _ hu (pv 3) (pv 5) (λ_ _=>rfl)) (A1e _)) (A9y (@A0o _ _ _ _ _ _ _ _ A2j (@A0r _ _ _ _ _ _ _ _ A1x (pv 2) A0e) A0e (A1e _)))))) (@A0g _ _ _ (@A0l _ _ 4 _ _ _ _ A3o.nd rfl (.inl rfl) (@A1o _ _ _ _ _ (@A0a _ _ _ _ _ A1h (@A0a _ _ _ _ _ (pv 5) (@A0a _ _ _ _ _ (pv 6) (@A0a _ _ _ _ _ (pv 7) (@A0a _ _ _ _ _ (pv 4) (@A0a _ _ _ _ _ (@A1o _ _ _ _ _ (@A0a _ _ _ _ _ A1h (@A0a _ _ _ _ _ (pcl Gc9 hr T.ci (@A0a _ _ _ _ _ (@A0r _ _ _ _ _ _ _ _ A1u (pv 2) A0e) A0d rfl)) A0d rfl) rfl)) A0d rfl) rfl) rfl) rfl) rfl) rfl)) rfl (by first | exact Or.inl rfl | exact Or.inr rfl | assumption))) A1d) (@A0g _ _ _ (@A0l _ _ 2 _ _ _ _ A3o.nd rfl (.inl rfl) (@A0r _ _ _ _ _ _ _ _ A1u (pv 2) A0e) rfl (by first | exact Or.inl rfl | exact Or.inr rfl | assumption))))) (@A0g _ _ _ (@A0u _ _ _ _ (pv 4))))) ?_;refine i02 _ rfl (i0j _ rfl gl rfl ⟨_,SqL.of hgl⟩ ?_);refine A5i (K:=K) (a:=gl) (xs:=gs) (λi Z H2=>∃(r':Int) (v':V) (u':Tm) (o5 o6 o7:Option V),Z=[some v,Sro gl,Sio r',Sro d,some v',o5,o6,o7]/\A1f H H2/\Rep (A1a S H2) v' (A1t u')/\TmW u'/\TmL lk u'/\dep u'<=dep u+i) ⟨r,(i11 v u none none none rfl (A1f.refl _) rp wu tu (Z09 _))⟩ (λi Z H2 _ zq=>by obtain ⟨_,_,_,_,_,_,_,s2,_⟩:=zq;exact SqL.of (s2 _ _ hgl)) ?_ ?_
  ·rintro i y Z H2 hy zz;refine e0g zz ?_;clear zz;rintro r' v' u' o5 o6 o7 rfl s2 rp2 wu2 tu2 du2;obtain ⟨e,he,q,rfl,eq⟩:=B2l pg hy;obtain ⟨x,lo,hi⟩:=e;have hm:=Z13 he;obtain ⟨g1,g2,g3⟩:=hg _ hm;obtain ⟨n,vn,n1,n60⟩:=dk x (Z2c.mpr (i02 _ hm rfl));have dp:=A4y u';have dg:=B8e.k (H:=H2) (a:=d) (k:=Sum.inr x) (s2 _ _ hd);rw [vn] at dg;refine i1c q _ rfl (SqT.of (s2 _ _ eq)) rfl _ _ rfl _ _ rfl _ _ rfl ⟨rfl,?_⟩;refine i02 (λZ H3=>∃(v':V) (u':Tm),Z=[some v,Sro gl,Sio r',Sro d,some v',Sso x,Sio lo,Sio hi]/\A1f H H3/\Rep (A1a S H3) v' (A1t u')/\TmW u'/\TmL lk u'/\dep u'<=dep u+(i+1)) ?_ ?_
   ·refine D7a (λb=> ?_) (λQ' q=>(i0m _ rfl _ _ rfl rfl (i02 _ rfl q))) (λQ' q=>(i0z _ rfl _ rfl _ rfl d _ rfl dg ⟨_,(i0i _ rfl rfl _ rfl q)⟩)) (λQ' q=>(i0q _ rfl _ _ rfl rfl D0g (i05 rfl _ rfl q)))
    cases b with
    | false=>exact A2u (i0r v' u' rfl s2 rp2 wu2 tu2 (by lia))
    | true =>
     refine A5h (i0c _ rfl _ rfl (i0z _ rfl _ rfl _ rfl _ _ rfl rfl (i05 ⟨by decide,by decide⟩ _ rfl λz hz=>⟨A0q rfl,λq1 hq1=>⟨A0q rfl,λq2 hq2=> ?_⟩⟩)));have sA:=A0f (o:= .tup [.str "number",.int z]) hq1;have sB:=A0f (o:= .tup [.str "guard",.str x,.int lo,.int hi,v',.ref q1]) hq2;have f2:=fr.same s2;refine i0r (.ref q2) (.guard x lo hi u' (.num z)) rfl (s2.trans (sA.trans sB)) (A5z (A0i (f2 q2 (sA.free hq2)) A0b) (rp2.same (A0h (sA.trans sB))) (B8n (A0i (f2 q1 hq1) (sB _ _ A0b)))) (i08 g1 g2 g3 wu2 hz) (i00 (dk1 vn n1 n60) tu2 True.intro) ?_;simp only [dep]
     lia
   ·rintro Z H3 zz;refine e06 zz ?_;clear zz;rintro v3 u3 rfl s3 rp3 ⟨wu3,tu3,du3⟩;exact i0q _ rfl _ _ rfl rfl ⟨by decide,by decide⟩ ⟨_,(i11 v3 u3 _ _ _ rfl s3 rp3 wu3 tu3 du3)⟩
  ·rintro Z H2 zz;refine e0g zz ?_;clear zz;rintro r' v' u' o5 o6 o7 rfl s2 rp2 wu2 tu2 du2;exact i02 _ rfl (k v' u' H2 s2 rp2 wu2 tu2 (by lia))
def C7s (H:Hp) (lk:List (Key×V)) (v:V) (e:Str×List Str):Prop:=∃q al,v= .ref q/\H q=some (.tup [.str e.1,.ref al])/\H al=some (.lst (e.2.map V.str))/\(e.1.length<=60/\PyData.strOk e.1=true)/\e.2.length<=3/\NmS e.2/\B4r lk e.2
theorem C7s.same (h:C7s H lk v e) (s:A1f H H'):C7s H' lk v e:=by
 obtain ⟨q,al,rfl,e1,e2,r⟩:=h;exact i0k q al rfl (s _ _ e1) (s _ _ e2) r
def C7g (H:Hp) (lk:List (Key×V)) (a:Addr) (sc:List Str):Prop:=H a=some (.lst (sc.map V.str))/\sc.length<=100/\NmS sc/\B4r lk sc
def C8a (S:Addr->Prop) (lk:List (Key×V)) (n:Nat) (H:Hp) (Q:VK):Prop:=∀(v':V) (u':Tm) (H':Hp),A1f H H'->Rep (A1a S H') v' (A1t u')->TmW u'->TmL lk u'->dep u'<=n->Q v' H'
def D4a (lk:List (Key×V)) (x:Str):Prop:=x=""\/(¬x=""/\A8k x/\∃n:Int,B4h lk (Sum.inr x)=some (.int n)/\1<=n/\n<=60)
theorem D4a.nm (h:D4a lk x):A8k x:=by
 rcases h with rfl | h
 ·exact ⟨by decide +kernel,by decide +kernel⟩
 ·exact h.2.1
theorem D6q {nm:List Str} (h1:NmS nm) (h2:B4r lk nm) (h:x∈nm):D4a lk x:= .inr (i00 (λz=>by have:=(h1 x h).2;rw [z] at this;exact absurd this (by decide +kernel)) ((h1 x h).1) (h2 x h))
def B6w:Sp:=λvs H Q _=>∃(r:Int) (q al sc d:Addr) (an:Str) (aa scn:List Str) (ow:V) (lk:List (Key×V)) (S:Addr->Prop),vs=[.int r,.ref q,.ref sc,.ref d,ow]/\H q=some (.tup [.str an,.ref al])/\H al=some (.lst (aa.map V.str))/\(an.length<=60/\PyData.strOk an=true)/\aa.length<=3/\NmS aa/\B4r lk aa/\C7g H lk sc scn/\H d=some (.dK lk)/\(ow= .non\/(ow= .ref al/\1<=aa.length))/\Fr S H/\C8a S lk 4 H Q
theorem B8s (T:Txt K mg t):FO P w base T.ie 3 B6w:=by
 have Gd0:= @B7f P w K mg base t T;refine T.ie.F.ok A1y (λvs H Q E h=> ?_) λ_ A _ s H _ Q E hr h=> ?_
 ·refine e0f h ?_;clear h;rintro r q al sc d an aa scn ow ⟨lk,S,rfl,_⟩;rfl
 ·refine e0f h ?_;clear h;rintro r q al sc d an aa scn ow ⟨lk,S,rfl,hq,hal,lan,laa,naa,daa,⟨hsc,lsc,nsc,dsc⟩,hd,how,fr,k⟩;have hu:=B1b hr;refine i02 _ (@A0c _ _ _ _ _ (@A0l _ _ 5 _ _ _ _ A1y.nd rfl (.inl rfl) (@A1q _ _ _ _ A0d) rfl (by first | exact Or.inl rfl | exact Or.inr rfl | assumption)) (@A0c _ _ _ _ _ (@A0l _ _ 6 _ _ _ _ A1y.nd rfl (.inl rfl) (@A1q _ _ _ _ A0d) rfl (by first | exact Or.inl rfl | exact Or.inr rfl | assumption)) (@A0c _ _ _ _ _ (@A0l _ _ 7 _ _ _ _ A1y.nd rfl (.inl rfl) (B7a B1s A0e) rfl (by first | exact Or.inl rfl | exact Or.inr rfl | assumption)) (@A4k _ _ _ _ _ (@A1z _ _ _ _ _ _ _ _ (@A0o _ _ _ _ _ _ _ _ C5d (pv 4) B7i (A1e _)) (@A0c _ _ _ _ _ (@A0l _ _ 7 _ _ _ _ A1y.nd rfl (.inl rfl) (@A0r _ _ _ _ _ _ _ _ A1x (pv 0) (A0y A0x (by rfl) T.bf Z0r (@A0a _ _ _ _ _ (@A0z _ _ _ _ _ _ _ A0w (pv 1) A0e (λ_ _=>rfl)) A0d rfl))) rfl (by first | exact Or.inl rfl | exact Or.inr rfl | assumption)) (@A0g _ _ _ (@A0l _ _ 0 _ _ _ _ A1y.nd rfl (.inl rfl) (@A0r _ _ _ _ _ _ _ _ A1u (pv 0) A0e) rfl (by first | exact Or.inl rfl | exact Or.inr rfl | assumption)))) A1d) (@A0c _ _ _ _ _ (A3d PassesOwn.never rfl (A3k rfl T.cr (@A0a _ _ _ _ _ (A0y A0x (by rfl) T.bf Z0r (@A0a _ _ _ _ _ (@A0z _ _ _ _ _ _ _ A0w (pv 1) A0e (λ_ _=>rfl)) A0d rfl)) A0d rfl)) (A0n (i:=8) A1y.nd rfl (.inl rfl)) (@A0c _ _ _ _ _ (@A0l _ _ 9 _ _ _ _ A1y.nd rfl (.inl rfl) (@A5d _ _ _ _ _ _ hu (pv 3) (@A0z _ _ _ _ _ _ _ A1n (@A0z _ _ _ _ _ _ _ A0w (pv 1) A0e (λ_ _=>rfl)) (pv 8) (λ_ _=>rfl)) (λ_ _=>rfl)) rfl (by first | exact Or.inl rfl | exact Or.inr rfl | assumption)) (@A0c _ _ _ _ _ (@A0l _ _ 10 _ _ _ _ A1y.nd rfl (.inl rfl) (@A0z _ _ _ _ _ _ _ A1n (@A0r _ _ _ _ _ _ _ _ A4i (pv 2) (@A1q _ _ _ _ (@A0a _ _ _ _ _ A1h A0d rfl))) (@A0r _ _ _ _ _ _ _ _ A1x (@A0r _ _ _ _ _ _ _ _ A1u (pv 0) A0e) (@A0r _ _ _ _ _ _ _ _ A2r (A0y A0x (by rfl) T.bf Z0r (@A0a _ _ _ _ _ (pv 2) A0d rfl)) A0e)) (λ_ _=>rfl)) rfl (by first | exact Or.inl rfl | exact Or.inr rfl | assumption)) (@A0c _ _ _ _ _ (@A0l _ _ 11 _ _ _ _ A1y.nd rfl (.inl rfl) (@A0r _ _ _ _ _ _ _ _ A4f (@A0r _ _ _ _ _ _ _ _ A1x (@A0r _ _ _ _ _ _ _ _ A1u (pv 0) A0e) A0e) A0e) rfl (by first | exact Or.inl rfl | exact Or.inr rfl | assumption)) (@A4k _ _ _ _ _ (@A1z _ _ _ _ _ _ _ _ (@A0o _ _ _ _ _ _ _ _ C0m (pv 8) (pv 7) (A1e _)) (@A0c _ _ _ _ _ (@A0l _ _ 10 _ _ _ _ A1y.nd rfl (.inl rfl) (@A0z _ _ _ _ _ _ _ A1n (pv 4) (pv 8) (λ_ _=>rfl)) rfl (by first | exact Or.inl rfl | exact Or.inr rfl | assumption)) (@A0g _ _ _ (@A0l _ _ 11 _ _ _ _ A1y.nd rfl (.inl rfl) A0e rfl (by first | exact Or.inl rfl | exact Or.inr rfl | assumption)))) A1d) (@A4k _ _ _ _ _ (@A1z _ _ _ _ _ _ _ _ (@A0o _ _ _ _ _ _ _ _ A2j (pv 8) (pv 7) (A1e _)) (@A0c _ _ _ _ _ (@A0l _ _ 10 _ _ _ _ A1y.nd rfl (.inl rfl) (@A0z _ _ _ _ _ _ _ A1n (pv 4) (pv 8) (λ_ _=>rfl)) rfl (by first | exact Or.inl rfl | exact Or.inr rfl | assumption)) (@A0g _ _ _ (@A0l _ _ 11 _ _ _ _ A1y.nd rfl (.inl rfl) (@A0r _ _ _ _ _ _ _ _ A4f (B7a B1s A0e) (@A0r _ _ _ _ _ _ _ _ A1x (pv 0) A0e)) rfl (by first | exact Or.inl rfl | exact Or.inr rfl | assumption)))) A1d) (@A4k _ _ _ _ _ (@A1z _ _ _ _ _ _ _ _ (@A0o _ _ _ _ _ _ _ _ A2j (pv 10) A1h (A1e _)) (@A0g _ _ _ (@A0l _ _ 11 _ _ _ _ A1y.nd rfl (.inl rfl) (@A0r _ _ _ _ _ _ _ _ A1x (@A0r _ _ _ _ _ _ _ _ A1u (pv 0) A0e) (pv 9)) rfl (by first | exact Or.inl rfl | exact Or.inr rfl | assumption))) (@A0g _ _ _ (A2t (A5g Z0k Z0n Z0o A2d (pv 6) (@A0a _ _ _ _ _ (@A1o _ _ _ _ _ (@A0a _ _ _ _ _ (pv 10) (@A0a _ _ _ _ _ (@A0r _ _ _ _ _ _ _ _ A4f A0e (pv 11)) (@A0a _ _ _ _ _ (@A0r _ _ _ _ _ _ _ _ A4f (pv 9) (pv 11)) A0d rfl) rfl) rfl)) A0d rfl))))) (@A0c _ _ _ _ _ (A2t (A5g Z0k Z0n Z0o A2d (pv 5) (@A0a _ _ _ _ _ (@A1o _ _ _ _ _ (@A0a _ _ _ _ _ (pv 10) (@A0a _ _ _ _ _ (pv 11) A0d rfl) rfl)) A0d rfl))) (@A0g _ _ _ (@A0l _ _ 0 _ _ _ _ A1y.nd rfl (.inl rfl) (@A0r _ _ _ _ _ _ _ _ A1u (pv 0) A0e) rfl (by first | exact Or.inl rfl | exact Or.inr rfl | assumption))))))))))) (@A0g _ _ _ (@A0u _ _ _ _ (pcl Gd0 hr T.k_ (@A0a _ _ _ _ _ (@A1o _ _ _ _ _ (@A0a _ _ _ _ _ A1h (@A0a _ _ _ _ _ (@A0z _ _ _ _ _ _ _ A0w (pv 1) A0e (λ_ _=>rfl)) (@A0a _ _ _ _ _ (pv 5) A0d rfl) rfl) rfl)) (@A0a _ _ _ _ _ (pv 6) (@A0a _ _ _ _ _ (pv 0) (@A0a _ _ _ _ _ (pv 3) A0d rfl) rfl) rfl) rfl))))))))) ?_;refine ⟨A0q rfl,λil hil=>⟨A0q rfl,λgl hgl=> ?_⟩⟩;have s1:=A0f (o:= .lst []) hil;have s1':=A0f (o:= .lst []) hgl;have s2:=s1.trans s1';have gi:upd (upd H il (.lst [])) gl (.lst []) il=some (.lst []):=s1' _ _ A0b;have gg:upd (upd H il (.lst [])) gl (.lst []) gl=some (.lst []):=A0b;have ig:il≠gl:=λe=>by rw [<-e,A0b] at hgl;cases hgl
  have glH:H gl=none:=s1.free hgl;have Sil:=fr il hil;generalize upd (upd H il (.lst [])) gl (.lst [])=G at s2 gi gg;refine i0c _ rfl (λZ H2=>H2=G/\∃(r' st:Int),Z=[Sio r',Sro q,Sro sc,Sro d,some ow,Sro il,Sro gl,Sio st,none,none,none,none]/\((ow= .non/\st= -1)\/(ow= .ref al/\0<=st/\st<aa.length))) ?_ ?_
  ·refine i0i _ rfl rfl _ rfl ?_;rcases how with rfl | ⟨rfl,l1⟩
   ·exact A2u (i09 rfl r (-1) rfl (.inl ⟨rfl,rfl⟩))
   ·have p0:(0:Int)<((aa.map V.str).length:Int):=by rw [Z08];lia
    refine A5h (i15 _ rfl _ rfl q _ _ _ rfl rfl (SqT.of (s2 _ _ hq)) rfl (i0d al _ rfl (.inl (SqL.of (s2 _ _ hal))) (i0k _ _ rfl rfl p0 (i0q _ rfl _ _ rfl rfl ⟨by decide,by decide⟩ (i09 rfl _ _ rfl (.inr (i00 rfl (Z1v _ (by lia)) ?_)))))));have:=Z1p r p0;rw [Z08] at this⊢;exact this
  rintro Z H2 ⟨rfl,r1,st,rfl,hst⟩;refine i10 _ rfl q _ _ _ rfl rfl (SqT.of (s2 _ _ hq)) rfl (i0d al _ rfl (.inl (SqL.of (s2 _ _ hal))) (i0a _ rfl (by lia) (by rw [Z08];lia) ?_))
  refine A3r (n:=(aa.map V.str).length) (λi Z H3=>∃(r':Int) (o8 o9 o10 o11:Option V) (iv gv:List V) (ix:List (Str×Int)) (gt:List G3),Z=[Sio r',Sro q,Sro sc,Sro d,some ow,Sro il,Sro gl,Sio st,o8,o9,o10,o11]/\A1f H H3/\H3 il=some (.lst iv)/\H3 gl=some (.lst gv)/\Paired (λ(v:V) (e:Str×Int)=>∃q,v= .ref q/\S q/\H3 q=some (.tup [.str e.1,.int e.2])) iv ix/\Paired (D8z H3) gv gt/\ix.length=i/\gt.length<=i/\(∀e∈ix,A8k e.1/\Sm e.2)/\(∀e∈gt,A8k e.1/\Sm e.2.1/\Sm e.2.2)/\B4r lk (gt.map (·.1)))
   (i0f r1 none none none (i11 none [] [] [] [] rfl s2 gi gg .nil (i0g .nil rfl (Z09 _) (λe he=>by cases he) (λe he=>by cases he) (λe he=>by cases he)))) ?_ ?_
  ·rintro i Z H3 hi zz;refine e0h zz ?_;clear zz;rintro r' o8 o9 o10 o11 iv gv ix gt rfl s3 hi3 hg3 pi ⟨pg,lix,lgt,okx,okg,dkg⟩;rw [Z08] at hi;have nl:((0:Int)+(i:Int))=(i:Int):=by lia
   obtain ⟨y,hy,ey⟩:=A5u (f:=V.str) (xs:=aa) (i:=(0:Int)+(i:Int)) (by lia) (by lia);have my:=Z13 hy;obtain ⟨n,vn,n1,n60⟩:=daa y my;have dg:=B8e.k (H:=H3) (a:=d) (k:=Sum.inr y) (s3 _ _ hd);rw [vn] at dg;refine i15 _ rfl _ rfl q _ _ _ rfl rfl (SqT.of (s3 _ _ hq)) rfl (i10 _ rfl al _ _ _ rfl rfl (SqL.of (s3 _ _ hal)) ey (i0d d _ rfl dg ?_));refine i06 _ rfl (A0q rfl) λzl hzl=> ?_;have sz:=A0f (o:= .lst [.str ""]) hzl;refine i0y sc zl _ _ rfl rfl (sz _ _ (s3 _ _ hsc)) A0b (A1k (by simp;lia)) λcl hcl=> ?_;have sc':=A0f (o:= .lst (scn.map V.str++[V.str ""])) hcl;have s5:=sz.trans sc';have hcc:upd (upd H3 zl (.lst [.str ""])) cl (.lst (scn.map V.str++[V.str ""])) cl=some (.lst ((scn++[("":Str)]).map V.str)):=by rw [A0b,Z0s];rfl
   generalize upd (upd H3 zl (.lst [.str ""])) cl (.lst (scn.map V.str++[V.str ""]))=H5 at s5 hcc;have p1:(0:Int)<((scn.map V.str).length:Int)+1:=by lia
   obtain ⟨x,hx,ex⟩:=A5u (f:=V.str) (xs:=scn++[("":Str)]) (i:=r'/7%(((scn.map V.str).length:Int)+1)) (Z1v _ (by lia)) (by have:=Z1p (r'/7) p1;rw [Z08] at this⊢;rw [Z06,Z0j];lia)
   have okx0:D4a lk x:=by
    rcases Z07.mp (Z13 hx) with z | z
    ·exact D6q nsc dsc z
    ·exact .inl (Z0w.mp z)
   refine i0q _ rfl _ _ rfl rfl ⟨by decide,by decide⟩ (i0m _ rfl sc _ rfl (.inl (SqL.of (s5 _ _ (s3 _ _ hsc)))) (i0d _ _ rfl rfl (i0k _ _ rfl rfl p1 (i0w cl _ _ _ rfl rfl (SqL.of hcc) ex ?_))));have s35:=s3.trans s5;refine i0q _ rfl _ _ rfl rfl ⟨by decide,by decide⟩ (i0x _ _ rfl rfl D9c _ _ rfl rfl ?_);have yo:=D6q naa daa my;refine i02 (λZ H6=>H5=H6/\∃(x:Str) (z:Int),Z=[Sio r',Sro q,Sro sc,Sro d,some ow,Sro il,Sro gl,Sio st,Sio (0+(i:Int)),Sio n,Sso x,Sio z]/\D4a lk x/\-2<=z/\z<=2) ?_ ?_
   ·refine i0u _ rfl _ rfl _ _ rfl rfl (i02 _ rfl (A4m (λhlt=> ?_) (λ_=>⟨rfl,(i0k x _ rfl okx0 (by lia) (by lia))⟩)));rcases hst with ⟨_,e⟩ | ⟨rfl,_,_⟩
    ·exact absurd hlt (by lia)
    ·exact i18 _ rfl _ rfl al _ _ _ rfl rfl (SqL.of (s35 _ _ hal)) ey rfl (i0k y 0 rfl yo (by decide) (by decide))
   rintro Z H6 zz;refine e04 zz ?_;clear zz;rintro rfl x1 z1 rfl ⟨ox1,lo1,hi1⟩;refine i02 (λZ H6=>H5=H6/\∃(x:Str) (z:Int),Z=[Sio r',Sro q,Sro sc,Sro d,some ow,Sro il,Sro gl,Sio st,Sio (0+(i:Int)),Sio n,Sso x,Sio z]/\D4a lk x/\-2<=z/\z<=2) ?_ ?_
   ·refine i02 _ rfl (i0i _ rfl rfl _ rfl (A4m (λheq=> ?_) (λ_=>⟨rfl,(i0k x1 z1 rfl ox1 lo1 hi1)⟩)));have heq:(0:Int)+(i:Int)=st:=V.int.inj heq;rcases hst with ⟨_,e⟩ | ⟨rfl,_,_⟩
    ·exact absurd heq (by lia)
    ·exact i15 _ rfl _ rfl al _ _ _ rfl rfl (SqL.of (s35 _ _ hal)) ey (i0u _ rfl _ rfl _ _ rfl rfl ⟨D4l,(i0x _ _ rfl rfl rfl y _ rfl yo ⟨by lia,by lia⟩)⟩)
   rintro Z H6 zz;refine e04 zz ?_;clear zz;rintro rfl x2 z2 rfl ⟨ox2,lo2,hi2⟩;have ge5:=s5 _ _ hg3;refine i02 (λZ H6=>∃(z:Int) (gv:List V) (gt:List G3),Z=[Sio r',Sro q,Sro sc,Sro d,some ow,Sro il,Sro gl,Sio st,Sio (0+(i:Int)),Sio n,Sso x2,Sio z]/\-2<=z/\z<=60/\A1f H H6/\KB gl H5 H6/\H6 gl=some (.lst gv)/\Paired (D8z H6) gv gt/\gt.length<=i+1/\(∀e∈gt,A8k e.1/\Sm e.2.1/\Sm e.2.2)/\B4r lk (gt.map (·.1))) ?_ ?_
   ·have e0:∀{q:Addr} {ys:List V},H3 q=some (.tup ys)->H5 q=some (.tup ys):=λ{q ys} e=>s5 _ _ e;refine i0i _ rfl rfl _ rfl (A4m (λheq=> ?_) (λhne=> ?_))
    ·refine i0q _ rfl _ _ rfl rfl ⟨by decide,by decide⟩ (i0q _ rfl _ _ rfl rfl (by show (0:Int)<n;lia) (i0s _ gv gt rfl ?_ ?_ s35 (i0g KB.refl ge5 (Paired.mapP pg λv e ⟨q,e1,e2⟩=>(i02 q e1 (e0 e2))) (by lia) okg dkg)))
     ·have:=Z1v (r'/63) (show n≠0 by lia)
      lia
     ·have:=Z1p (r'/63) (show 0<n by lia)
      lia
    ·have hne:¬x2="":=λe=>hne (by rw [e]);rcases ox2 with e | ⟨_,nx,m,vm,m1,m60⟩
     ·exact absurd e hne
     have lgv:=Paired.length pg;refine i06 _ rfl (.inl (i01 rfl _ (SqL.of ge5))) (i0u _ rfl _ rfl _ _ rfl rfl (i0u _ rfl _ rfl _ _ rfl rfl ⟨A0q rfl,λtp htp=> ?_⟩));have sT:=A0f (o:= .tup [.str x2,.int (0-z2),.int (n-z2)]) htp;have eT:upd H5 tp (.tup [.str x2,.int (0-z2),.int (n-z2)]) tp=some (.tup [.str x2,.int (0-z2),.int (n-z2)]):=A0b;generalize upd H5 tp (.tup [.str x2,.int (0-z2),.int (n-z2)])=H7 at sT eT;have g7:=sT _ _ ge5;refine i0s gl _ _ rfl rfl g7 (A1l (by lia)) (i0s z2 (gv++[.ref tp]) (gt++[(x2,0-z2,n-z2)]) rfl lo2 (by lia) (A0s (s35.trans sT) glH) (i0g ((KB.of sT).trans KB.refl.upd) A0b ?_ (by rw [Z06];simp only [Z0y,Z2g];lia) (λe he=> ?_) λy hy=> ?_))
     ·exact B2c (Paired.mapP pg λv e ⟨q,e1,e2⟩=>(i02 q e1 (by rw [A0k (A3a (sT _ _ (e0 e2)) g7 (by intro h;cases h))];exact sT _ _ (e0 e2)))) (.cons (i02 tp rfl (by rw [A0k (A3a eT g7 (by intro h;cases h))];exact eT)) .nil)
     ·rcases Z07.mp he with he | he
      ·exact okg e he
      ·rw [Z0w.mp he];exact i00 nx (A9x (by show _<=0-z2;lia) (by show 0-z2<=_;lia)) (A9x (by show _<=n-z2;lia) (by show n-z2<=_;lia))
     ·rw [Z0s] at hy;rcases Z07.mp hy with hy | hy
      ·exact dkg y hy
      ·rw [Z0w.mp hy];exact i06 m vm m1 m60
   rintro Z H6 zz;refine e09 zz ?_;clear zz;rintro z3 gv6 gt6 rfl lo3 hi3' ⟨s6,kb6,hg6,pg6,lgt6,okg6,dkg6⟩;have il5:=s5 _ _ hi3;have il6:=kb6 _ _ ig il5;have liv:=Paired.length pi;refine i06 _ rfl (.inl (i01 rfl _ (SqL.of il6))) (i0j _ rfl _ rfl (A0q rfl) λtp htp=> ?_);have sT:=A0f (o:= .tup [.str x2,.int z3]) htp;have eT:upd H6 tp (.tup [.str x2,.int z3]) tp=some (.tup [.str x2,.int z3]):=A0b;generalize upd H6 tp (.tup [.str x2,.int z3])=H7 at sT eT;have il7:=sT _ _ il6;refine i0s il _ _ rfl rfl il7 (A1l (by lia)) ?_;have s7:=s6.trans sT;have Stp:S tp:=(fr.same s6) tp htp;refine i0q _ rfl _ _ rfl rfl ⟨by decide,by decide⟩ ?_;have keepT:∀{q:Addr} {ys:List V},H7 q=some (.tup ys)->upd H7 il (.lst (iv++[.ref tp])) q=some (.tup ys):=λ{q ys} e=>by rw [A0k (A3a e il7 (by intro h;cases h))];exact e
   have old:∀{q:Addr} {ys:List V},H3 q=some (.tup ys)->H7 q=some (.tup ys):=λ{q ys} e=>sT _ _ (kb6 _ _ (A3a (s5 _ _ e) ge5 (by intro h;cases h)) (s5 _ _ e));refine i0f _ _ _ _ (i11 _ (iv++[.ref tp]) gv6 (ix++[(x2,z3)]) gt6 rfl (A0s s7 hil) A0b (by rw [A0k ig.symm];exact sT _ _ hg6) (B2c (Paired.mapP pi λv e ⟨q,e1,e2,e3⟩=>(i06 q e1 e2 (keepT (old e3)))) (.cons (i06 tp rfl Stp (keepT eT)) .nil)) (i0g (Paired.mapP pg6 λv e ⟨q,e1,e2⟩=>(i02 q e1 (keepT (sT _ _ e2)))) (by rw [Z06,lix];rfl) lgt6 (λe he=> ?_) okg6 dkg6));rcases Z07.mp he with he | he
   ·exact okx e he
   ·rw [Z0w.mp he];exact ⟨ox2.nm,A9x (by lia) (by lia)⟩
  ·rintro Z H3 zz;refine e0h zz ?_;clear zz;rintro r' o8 o9 o10 o11 iv gv ix gt rfl s3 hi3 hg3 pi ⟨pg,lix,lgt,okx,okg,dkg⟩;rw [Z08] at lix lgt;refine i10 _ rfl q _ _ _ rfl rfl (SqT.of (s3 _ _ hq)) rfl (i06 _ rfl (A0q rfl) λtp htp=> ?_);have sT:=A0f (o:= .tup [.str "read",.str an,.ref il]) htp;have eT:upd H3 tp (.tup [.str "read",.str an,.ref il]) tp=some (.tup [.str "read",.str an,.ref il]):=A0b;generalize upd H3 tp (.tup [.str "read",.str an,.ref il])=H4 at sT eT;have s4:=s3.trans sT;have f3:=fr.same s3;have rix:Rep (A1a S H4) (.ref il) (A5b ix):= .lst (A0i Sil (sT _ _ hi3)) (B1f (Paired.mapP pi λv e ⟨q,e1,e2,e3⟩=>(i02 q e1 (A0i e2 (sT _ _ e3)))));refine i0c _ rfl _ rfl (i0n _ rfl (.ref tp) gl d r' (i11 gv gt (.read an ix) lk S rfl (fr.same s4) (C0l (A0i (f3 tp htp) eT) rix) (i00 lan.1 (by lia) okx) lan.2 (i0g (sT _ _ hg3) (Paired.mapP pg λv e ⟨q,e1,e2⟩=>(i02 q e1 (sT _ _ e2))) okg (s4 _ _ hd) dkg λv' u' H5 s5 rp wu tu du=>k v' u' H5 (s4.trans s5) rp wu tu ?_)));have:dep (.read an ix)=1:=rfl
   lia
def C9w (H:Hp) (lk:List (Key×V)) (a:Addr) (es:List (Str×List Str)):Prop:=∃avs,H a=some (.lst avs)/\Paired (C7s H lk) avs es/\es.length<=100
def B8h:Sp:=λvs H Q _=>∃(r:Int) (ar sc d:Addr) (es:List (Str×List Str)) (scn:List Str) (lk:List (Key×V)) (S:Addr->Prop),vs=[.int r,.ref ar,.ref sc,.ref d]/\C9w H lk ar es/\1<=es.length/\C7g H lk sc scn/\1<=scn.length/\H d=some (.dK lk)/\Fr S H/\C8a S lk 4 H Q
theorem B8p (T:Txt K mg t):FO P w base T.kj 2 B8h:=by
 have Gc9:= @A4o P w K mg base t T;refine T.kj.F.ok A6a (λvs H Q E h=> ?_) λ_ A _ s H _ Q E hr h=> ?_
 ·refine e08 h ?_;clear h;rintro r ar sc d es ⟨scn,lk,S,rfl,_⟩;rfl
 ·refine e08 h ?_;clear h;rintro r ar sc d es ⟨scn,lk,S,rfl,⟨avs,har,pav,les⟩,l1,⟨hsc,lsc,nsc,dsc⟩,l2,hd,fr,k⟩;have hu:=B1b hr;have lav:=Paired.length pav;have p1:(0:Int)<(avs.length:Int):=by lia
  have p2:(0:Int)<((scn.map V.str).length:Int):=by rw [Z08];lia
  obtain ⟨v,hv,ev⟩:=B7s (xs:=avs) (i:=r%(avs.length:Int)) (Z1v _ (by lia)) (Z1p _ p1);obtain ⟨e,he,q,al,rfl,hq,hal,lan,laa,naa,daa⟩:=B2l pav hv;obtain ⟨x,hx,ex⟩:=A5u (f:=V.str) (xs:=scn) (i:=r/7%((scn.map V.str).length:Int)) (Z1v _ (by lia)) (by have:=Z1p (r/7) p2;rw [Z08] at this⊢;exact this);have mx:=Z13 hx;obtain ⟨n,vn,n1,n60⟩:=dsc x mx;have nx:=(nsc x mx).1
  have dgr:∀{G:Hp},G d=some (.dK lk)->B8e G d (.str x) (some (.int n)):=λ{G} h=>by
   have g:=B8e.k (H:=G) (a:=d) (k:=Sum.inr x) h;rw [vn] at g;exact g
  refine i02 _ (@A0c _ _ _ _ _ (@A0l _ _ 4 _ _ _ _ A6a.nd rfl (.inl rfl) (@A0z _ _ _ _ _ _ _ A1n (pv 1) (@A0r _ _ _ _ _ _ _ _ A1x (pv 0) (A0y A0x (by rfl) T.bf Z0r (@A0a _ _ _ _ _ (pv 1) A0d rfl))) (λ_ _=>rfl)) rfl (by first | exact Or.inl rfl | exact Or.inr rfl | assumption)) (@A0c _ _ _ _ _ (@A0l _ _ 5 _ _ _ _ A6a.nd rfl (.inr rfl) (@A0z _ _ _ _ _ _ _ A1n (pv 2) (@A0r _ _ _ _ _ _ _ _ A1x (@A0r _ _ _ _ _ _ _ _ A1u (pv 0) A0e) (A0y A0x (by rfl) T.bf Z0r (@A0a _ _ _ _ _ (pv 2) A0d rfl))) (λ_ _=>rfl)) rfl (by first | exact Or.inl rfl | exact Or.inr rfl | assumption)) (@A0c _ _ _ _ _ (@A0l _ _ 6 _ _ _ _ A6a.nd rfl (.inl rfl) (@A1o _ _ _ _ _ (@A0a _ _ _ _ _ A1h (@A0a _ _ _ _ _ (@A0z _ _ _ _ _ _ _ A0w (pv 4) A0e (λ_ _=>rfl)) (@A0a _ _ _ _ _ (A3u (N':=["_law_name","_law_axis","_law_rest"]) (ix:=(List.replicate 1 none++[some 5,some 0])) rfl (B2p (cl:=[("_law_rest",_),("_law_axis",_)]) (xs:=["_law_rest","_law_axis"]) rfl (i00 rfl rfl trivial) rfl rfl (by decide +kernel) (by decide +kernel)) (B2t (N0:=["_law_name"]) (xs:=["_law_axis","_law_rest"]) (js:=[5,0]) (i00 (i00 rfl (.inl rfl) (by walk_at "ix")) (i00 rfl (.inl rfl) (by walk_at "ix")) trivial)) (A2q (@A0z _ _ _ _ _ _ _ A0w (pv 4) A0e (λ_ _=>rfl))) (λ_ _ _ _=>(A0n (i:=0) C5a rfl (.inl rfl))) (λ_ _ _ _=>(@A1o _ _ _ _ _ (@A0a _ _ _ _ _ (pv 1) (@A0a _ _ _ _ _ (pcl Gc9 hr T.ci (@A0a _ _ _ _ _ (@A0r _ _ _ _ _ _ _ _ A1u (pv 2) A0e) A0d rfl)) A0d rfl) rfl)))) A0d rfl) rfl) rfl)) rfl (by first | exact Or.inl rfl | exact Or.inr rfl | assumption)) (@A0c _ _ _ _ _ (@A1z _ _ _ _ _ _ _ _ (@A0o _ _ _ _ _ _ _ _ A2j (@A0r _ _ _ _ _ _ _ _ A1x (@A0r _ _ _ _ _ _ _ _ A1u (pv 0) A0e) A0e) A0e (A1e _)) (@A0g _ _ _ (@A0u _ _ _ _ (@A1o _ _ _ _ _ (@A0a _ _ _ _ _ A1h (@A0a _ _ _ _ _ (pv 5) (@A0a _ _ _ _ _ (@A5d _ _ _ _ _ _ hu (pv 3) (pv 5) (λ_ _=>rfl)) (@A0a _ _ _ _ _ (@A0r _ _ _ _ _ _ _ _ A2r (@A5d _ _ _ _ _ _ hu (pv 3) (pv 5) (λ_ _=>rfl)) (@A0r _ _ _ _ _ _ _ _ A1x (@A0r _ _ _ _ _ _ _ _ A1u (pv 0) A0e) A0e)) (@A0a _ _ _ _ _ (pv 6) (@A0a _ _ _ _ _ (@A1o _ _ _ _ _ (@A0a _ _ _ _ _ A1h (@A0a _ _ _ _ _ (pv 5) A0d rfl) rfl)) A0d rfl) rfl) rfl) rfl) rfl) rfl)))) A1d) (@A0g _ _ _ (@A0u _ _ _ _ (@A1o _ _ _ _ _ (@A0a _ _ _ _ _ A1h (@A0a _ _ _ _ _ (pv 5) (@A0a _ _ _ _ _ (@A0r _ _ _ _ _ _ _ _ A4f A0e (@A0r _ _ _ _ _ _ _ _ A1x (@A0r _ _ _ _ _ _ _ _ A1u (pv 0) A0e) A0e)) (@A0a _ _ _ _ _ (@A5d _ _ _ _ _ _ hu (pv 3) (pv 5) (λ_ _=>rfl)) (@A0a _ _ _ _ _ (@A1o _ _ _ _ _ (@A0a _ _ _ _ _ A1h (@A0a _ _ _ _ _ (pv 5) A0d rfl) rfl)) (@A0a _ _ _ _ _ (pv 6) A0d rfl) rfl) rfl) rfl) rfl) rfl)))))))) ?_;refine i0z _ rfl _ rfl _ rfl ar _ rfl (.inl (SqL.of har)) (i0k _ _ rfl rfl p1 (i0w ar _ _ _ rfl rfl (SqL.of har) ev ?_));refine i0u _ rfl _ rfl _ _ rfl rfl ⟨⟨by decide,by decide⟩,(i0m _ rfl sc _ rfl (.inl (SqL.of hsc)) (i0k _ _ rfl rfl p2 (i0w sc _ _ _ rfl rfl (SqL.of hsc) ex ?_)))⟩;refine i10 _ rfl q _ _ _ rfl rfl (SqT.of hq) rfl (i10 _ rfl q _ _ _ rfl rfl (SqT.of hq) rfl (i06 al rfl ⟨_,SqL.of hal⟩ λD hD=> ?_));refine A2w (K:=K) (a:=al) (D:=D) (xs:=e.2.map V.str) (λi ys G=>A1f H G/\G D=some (.lst ys)/\∃ix:List (Str×Int),Paired (λ(v:V) (e:Str×Int)=>∃q,v= .ref q/\S q/\G q=some (.tup [.str e.1,.int e.2])) ys ix/\ix.length=i/\∀e∈ix,A8k e.1/\Sm e.2) (i00 (A0f hD) A0b (i06 [] .nil rfl λe he=>by cases he)) (λi ys G ⟨s,_⟩=>SqL.of (s _ _ hal)) ?_ ?_
  ·rintro i y ys G hy ⟨sG,hG,ix,pG,lix,okx⟩;have hi:=(Z03.mp hy).1;rw [Z08] at hi;have lG:=Paired.length pG;refine ⟨(i00 rfl rfl True.intro),(i0u _ rfl _ rfl _ _ rfl rfl (i05 ⟨by decide,by decide⟩ _ rfl λz hz=>⟨A0q rfl,λtp htp=> ?_⟩))⟩;have sT:=A0f (o:= .tup [.str x,.int z]) htp;have eT:upd G tp (.tup [.str x,.int z]) tp=some (.tup [.str x,.int z]):=A0b;generalize upd G tp (.tup [.str x,.int z])=G2 at sT eT;refine i08 (sT _ _ hG) (A1l (by lia)) (A0s (sG.trans sT) hD) A0b (i06 (ix++[(x,z)]) ?_ (by rw [Z06,lix];rfl) λe he=> ?_)
   ·have tD:tp≠D:=λe=>by rw [e,hG] at htp;cases htp
    exact B2c (Paired.mapP pG λv e ⟨q,e1,e2,e3⟩=>(i06 q e1 e2 (by rw [A0k (A3a e3 hG (by intro h;cases h))];exact sT _ _ e3))) (.cons (i06 tp rfl ((fr.same sG) tp htp) (by rw [A0k tD];exact eT)) .nil)
   ·rcases Z07.mp he with he | he
    ·exact okx e he
    ·rw [Z0w.mp he];exact ⟨nx,hz⟩
  rintro ys G ⟨sG,hG,ix,pG,lix,okx⟩;rw [Z08] at lix;refine ⟨A0q rfl,λtp htp=> ?_⟩;have fG:=fr.same sG;have sT:=A0f (o:= .tup [.str "read",.str e.1,.ref D]) htp;have eT:upd G tp (.tup [.str "read",.str e.1,.ref D]) tp=some (.tup [.str "read",.str e.1,.ref D]):=A0b;generalize upd G tp (.tup [.str "read",.str e.1,.ref D])=G2 at sT eT;have rd:Rep (A1a S G2) (.ref tp) (A1t (.read e.1 ix)):=C0l (A0i (fG tp htp) eT) (.lst (A0i (fr D hD) (sT _ _ hG)) (B1f (Paired.mapP pG λv e ⟨q,e1,e2,e3⟩=>(i02 q e1 (A0i e2 (sT _ _ e3))))));have s2:=sG.trans sT;have f2:=fr.same s2;have wr:TmW (.read e.1 ix):=(i00 lan.1 (by lia) okx);have hd2:=s2 _ _ hd;refine i0q _ rfl _ _ rfl rfl ⟨by decide,by decide⟩ (i0k _ _ rfl rfl D4l (i05 rfl _ rfl (C4v (λ_=> ?_) (λ_=> ?_))))
  ·refine i0z _ rfl _ rfl _ rfl d _ rfl (dgr hd2) (i0u _ rfl _ rfl d _ rfl (dgr hd2) (i0q _ rfl _ _ rfl rfl ⟨by decide,by decide⟩ (i0x _ _ rfl rfl D9c _ _ rfl rfl (i0j _ rfl _ rfl (A0q rfl) λq1 hq1=>⟨A0q rfl,λq2 hq2=> ?_⟩))));have sA:=A0f (o:= .tup [.str "place",.str x]) hq1;have sB:=A0f (o:= .tup [.str "guard",.str x,.int n,.int (n+r/99%5),.ref tp,.ref q1]) hq2;refine k _ (.guard x n (n+r/99%5) (.read e.1 ix) (.place x)) _ (s2.trans (sA.trans sB)) (A5z (A0i (f2 q2 (sA.free hq2)) A0b) (rd.same (A0h (sA.trans sB))) (B6s (A0i (f2 q1 hq1) (sB _ _ A0b)))) (i08 nx (A9x (by lia) (by lia)) (A9x (by lia) (by lia)) wr nx) (i00 (dk1 vn n1 n60) lan.2 True.intro) (by simp only [dep];lia)
  ·refine i0u _ rfl _ rfl _ _ rfl rfl ⟨⟨by decide,by decide⟩,(i0x _ _ rfl rfl D0g _ _ rfl rfl (i0u _ rfl _ rfl d _ rfl (dgr hd2) (i06 _ rfl (A0q rfl) λq1 hq1=>(i06 _ rfl (A0q rfl) λq2 hq2=> ?_))))⟩;have sA:=A0f (o:= .tup [.str "place",.str x]) hq1;have sB:=A0f (o:= .tup [.str "guard",.str x,.int (0-r/99%3),.int n,.ref q1,.ref tp]) hq2;refine k _ (.guard x (0-r/99%3) n (.place x) (.read e.1 ix)) _ (s2.trans (sA.trans sB)) (A5z (A0i (f2 q2 (sA.free hq2)) A0b) (B6s (A0i (f2 q1 hq1) (sB _ _ A0b))) (rd.same (A0h (sA.trans sB)))) (i08 nx (A9x (by lia) (by lia)) (A9x (by lia) (by lia)) nx wr) (i00 (dk1 vn n1 n60) True.intro lan.2) (by simp only [dep];lia)
def D2r (H:Hp) (lk:List (Key×V)) (v:V):Prop:=v= .non\/∃e,C7s H lk v e
theorem D2r.same (h:D2r H lk v) (s:A1f H H'):D2r H' lk v:=by
 rcases h with h | ⟨e,h⟩
 ·exact .inl h
 ·exact .inr ⟨e,h.same s⟩
def B8u:Sp:=λvs H Q _=>∃(r:Int) (ar sc d:Addr) (ow:V) (es:List (Str×List Str)) (scn:List Str) (lk:List (Key×V)) (S:Addr->Prop),vs=[.int r,.ref ar,.ref sc,.ref d,ow]/\C9w H lk ar es/\C7g H lk sc scn/\H d=some (.dK lk)/\D2r H lk ow/\Fr S H/\C8a S lk 4 H Q
theorem D4c {t3:TT} {d3:Bool} (e1:∀Q':Bool->Hp->Prop,Q' d1 H->t1 Z H Q') (e2:∀Q':Bool->Hp->Prop,Q' d2 H->t2 Z H Q') (e3:∀Q':Bool->Hp->Prop,Q' d3 H->t3 Z H Q') (h:Q (d1||(d2||d3)) H):tOr t1 (tOr t2 t3) Z H Q:=by
 refine e1 _ ?_
 cases d1 with
 | true=>exact h
 | false =>
  refine A2u (e2 _ ?_)
  cases d2 with
  | true=>exact h
  | false=>exact A2u (e3 _ h)
theorem C2y {t3:TT} (hF:Q false H) (e1:∀Q':Bool->Hp->Prop,Q' d1 H->t1 Z H Q') (e2:∀Q':Bool->Hp->Prop,Q' d2 H->t2 Z H Q') (e3:Q false H->d1=true->d2=true->t3 Z H Q):C9s t1 (C9s t2 t3) Z H Q:=by
 refine e1 _ ?_
 cases d1 with
 | false=>exact A2u hF
 | true =>
  refine A5h (e2 _ ?_)
  cases d2 with
  | false=>exact A2u hF
  | true=>exact A5h (e3 hF rfl rfl)
theorem B8z (T:Txt K mg t):FO P w base T.ib 4 B8u:=by
 have Gc9:= @A4o P w K mg base t T;have Gd1:= @B8s P w K mg base t T;have Gd2:= @B8p P w K mg base t T;refine T.ib.F.ok A8h (λvs H Q E h=> ?_) λ_ A _ s H _ Q E hr h=> ?_
 ·refine e0f h ?_;clear h;rintro r ar sc d ow es scn lk S ⟨rfl,_⟩;rfl
 ·refine e0h h ?_;clear h;rintro r ar sc d ow es scn lk S rfl has hsc hd how ⟨fr,k⟩;obtain ⟨avs,har,pav,les⟩:=id has;obtain ⟨hsl,lsc,nsc,dsc⟩:=id hsc;have lav:=Paired.length pav;refine i02 _ (@A0c _ _ _ _ _ (@A0l _ _ 5 _ _ _ _ A8h.nd rfl (.inl rfl) (@A0r _ _ _ _ _ _ _ _ A1x (pv 0) A0e) rfl (by first | exact Or.inl rfl | exact Or.inr rfl | assumption)) (@A0c _ _ _ _ _ (@A0l _ _ 0 _ _ _ _ A8h.nd rfl (.inl rfl) (@A0r _ _ _ _ _ _ _ _ A1u (pv 0) A0e) rfl (by first | exact Or.inl rfl | exact Or.inr rfl | assumption)) (@A0c _ _ _ _ _ (@A1z _ _ _ _ _ _ _ _ (PW.pt (A3n (@A0o _ _ _ _ _ _ _ _ A7n (pv 5) A0e (A1e _)) (A3n (@A0o _ _ _ _ _ _ _ _ C5d (pv 4) B7i (A1e _)) (A3w (@A0o _ _ _ _ _ _ _ _ A7n (A0y A0x (by rfl) T.bf Z0r (@A0a _ _ _ _ _ (@A0z _ _ _ _ _ _ _ A0w (pv 4) A0e (λ_ _=>rfl)) A0d rfl)) A0e (A1e _)))))) (@A0g _ _ _ (@A0u _ _ _ _ (pcl Gd1 hr T.ie (@A0a _ _ _ _ _ (pv 0) (@A0a _ _ _ _ _ (pv 4) (@A0a _ _ _ _ _ (pv 2) (@A0a _ _ _ _ _ (pv 3) (@A0a _ _ _ _ _ (@A0z _ _ _ _ _ _ _ A0w (pv 4) A0e (λ_ _=>rfl)) A0d rfl) rfl) rfl) rfl) rfl)))) A1d) (@A0c _ _ _ _ _ (@A1z _ _ _ _ _ _ _ _ (PW.pt (A3n (@A0o _ _ _ _ _ _ _ _ A2j (pv 5) A0e (A1e _)) (A3w (@A0o _ _ _ _ _ _ _ _ A7n (A0y A0x (by rfl) T.bf Z0r (@A0a _ _ _ _ _ (pv 2) A0d rfl)) A0e (A1e _))))) (@A0g _ _ _ (@A0u _ _ _ _ (@A1o _ _ _ _ _ (@A0a _ _ _ _ _ A1h (@A0a _ _ _ _ _ (@A0z _ _ _ _ _ _ _ A1n (pv 2) (@A0r _ _ _ _ _ _ _ _ A1x (pv 0) (A0y A0x (by rfl) T.bf Z0r (@A0a _ _ _ _ _ (pv 2) A0d rfl))) (λ_ _=>rfl)) A0d rfl) rfl)))) A1d) (@A0c _ _ _ _ _ (@A1z _ _ _ _ _ _ _ _ (PW.pt (B0f (@A0o _ _ _ _ _ _ _ _ A2j (pv 5) A0e (A1e _)) (B0f (@A0o _ _ _ _ _ _ _ _ A2j (A0y A0x (by rfl) T.bf Z0r (@A0a _ _ _ _ _ (pv 1) A0d rfl)) A0e (A1e _)) (A9y (PW.pt (A3n (@A0o _ _ _ _ _ _ _ _ A2j (A0y A0x (by rfl) T.bf Z0r (@A0a _ _ _ _ _ (pv 2) A0d rfl)) A0e (A1e _)) (A3w (@A0o _ _ _ _ _ _ _ _ C0m (pv 5) A0e (A1e _))))))))) (@A0g _ _ _ (@A0u _ _ _ _ (@A1o _ _ _ _ _ (@A0a _ _ _ _ _ A1h (@A0a _ _ _ _ _ (pcl Gc9 hr T.ci (@A0a _ _ _ _ _ (pv 0) A0d rfl)) A0d rfl) rfl)))) A1d) (@A0c _ _ _ _ _ (@A1z _ _ _ _ _ _ _ _ (@A0o _ _ _ _ _ _ _ _ A2j (pv 5) A0e (A1e _)) (@A0g _ _ _ (@A0u _ _ _ _ (pcl Gd2 hr T.kj (@A0a _ _ _ _ _ (pv 0) (@A0a _ _ _ _ _ (pv 1) (@A0a _ _ _ _ _ (pv 2) (@A0a _ _ _ _ _ (pv 3) A0d rfl) rfl) rfl) rfl)))) A1d) (@A0g _ _ _ (@A0u _ _ _ _ (pcl Gd1 hr T.ie (@A0a _ _ _ _ _ (@A0r _ _ _ _ _ _ _ _ A1u (pv 0) A0e) (@A0a _ _ _ _ _ (@A0z _ _ _ _ _ _ _ A1n (pv 1) (@A0r _ _ _ _ _ _ _ _ A1x (pv 0) (A0y A0x (by rfl) T.bf Z0r (@A0a _ _ _ _ _ (pv 1) A0d rfl))) (λ_ _=>rfl)) (@A0a _ _ _ _ _ (pv 2) (@A0a _ _ _ _ _ (pv 3) (@A0a _ _ _ _ _ B7i A0d rfl) rfl) rfl) rfl) rfl)))))))))) ?_;refine i0q _ rfl _ _ rfl rfl D7i (i0q _ rfl _ _ rfl rfl ⟨by decide,by decide⟩ ?_);have w0:0<=r%8/\r%8<8:=by lia
  dsimp only [A5w,C7o,C7q];refine C2y (d1:=decide (4<r%8)) (d2:= ! decide (ow= .non)) ?_ (λQ' q=>(i0m _ rfl _ _ rfl rfl (i02 _ rfl q))) (λQ' q=>(i0i _ rfl rfl _ rfl q)) (λhF _ hn=> ?_)
  ·refine A2u ?_;dsimp only [B5r,C7o,C7q];refine B6b (d1:=decide (r%8=1)) (d2:=decide (0<scn.length)) (λQ' q=>(i0i _ rfl rfl _ rfl (by rw [show decide (V.int (r%8)=V.int 1)=decide (r%8=1) from decide_eq_decide.mpr ⟨λh=>V.int.inj h,λh=>by rw [h]⟩];exact q))) (λQ' q=>(i0m _ rfl sc _ rfl (.inl (SqL.of hsl)) ⟨_,(i0i _ rfl rfl _ rfl (by rw [show decide ((0:Int)<((scn.map V.str).length:Int))=decide (0<scn.length) from decide_eq_decide.mpr (by rw [Z08];lia)];exact q))⟩)) ?_
   cases hp:(decide (r%8=1)&&decide (0<scn.length)) with
   | true =>
    have hp2:0<scn.length:=by simp at hp;lia
    have p2:(0:Int)<((scn.map V.str).length:Int):=by rw [Z08];lia
    obtain ⟨x,hx,ex⟩:=A5u (f:=V.str) (xs:=scn) (i:=r/8%((scn.map V.str).length:Int)) (Z1v _ (by lia)) (by have:=Z1p (r/8) p2;rw [Z08] at this⊢;exact this);refine A5h (i0z _ rfl _ rfl _ rfl sc _ rfl (.inl (SqL.of hsl)) (i0k _ _ rfl rfl p2 (i0y sc _ _ _ rfl rfl (SqL.of hsl) ex (A0q rfl) λq1 hq1=> ?_)));exact k _ (.place x) _ (A0f hq1) (B6s (A0i (fr q1 hq1) A0b)) (nsc x (Z13 hx)).1 True.intro (by show 1<=4;lia)
   | false =>
    refine A2u ?_;have de:∀c:Int,decide (V.int (r%8)=V.int c)=decide (r%8=c):=λc=>decide_eq_decide.mpr ⟨λh=>V.int.inj h,λh=>by rw [h]⟩;have dl:∀{α:Type} (xs:List α),decide (V.int (xs.length:Int)=V.int 0)=decide (xs.length=0):=λxs=>decide_eq_decide.mpr ⟨λh=>by have:=V.int.inj h;lia,λh=>by rw [h];rfl⟩;refine D4c (d1:=decide (r%8=0)) (d2:=decide (avs.length=0)) (d3:=decide ((scn.map V.str).length=0)&&decide (r%8<3)) (λQ' q=>(i0i _ rfl rfl _ rfl (by rw [de];exact q))) (λQ' q=>(i0m _ rfl ar _ rfl (.inl (SqL.of har)) (i05 rfl _ rfl (by rw [dl];exact q)))) (λQ' q=>B6b (d1:=decide ((scn.map V.str).length=0)) (d2:=decide (r%8<3)) (λQ' q=>(i0m _ rfl sc _ rfl (.inl (SqL.of hsl)) (i05 rfl _ rfl (by rw [dl];exact q)))) (λQ' q=>(i0m _ rfl _ _ rfl rfl (i02 _ rfl q))) q) ?_
    cases ho:(decide (r%8=0)||(decide (avs.length=0)||(decide ((scn.map V.str).length=0)&&decide (r%8<3)))) with
    | true =>
     refine A5h (i0c _ rfl _ rfl λz hz=>⟨A0q rfl,λq1 hq1=> ?_⟩);exact k _ (.num z) _ (A0f hq1) (B8n (A0i (fr q1 hq1) A0b)) hz True.intro (by show 1<=4;lia)
    | false =>
     simp only [Bool.or_eq_false_iff,Bool.and_eq_false_iff,decide_eq_false_iff_not,Z08] at ho;obtain ⟨h0,h1,h2⟩:=ho;refine A2u (i0i _ rfl rfl _ rfl (A4m (λhw=> ?_) (λ_=> ?_)))
     ·have hw:r%8=2:=V.int.inj hw;exact i0c _ rfl _ rfl (i0c _ rfl _ rfl (i03 _ ar (i1b sc d es scn lk S rfl has (by lia) hsc (by lia) hd fr k)))
     ·have p1:(0:Int)<(avs.length:Int):=by lia
      obtain ⟨v,hv,ev⟩:=B7s (xs:=avs) (i:=r/8%(avs.length:Int)) (Z1v _ (by lia)) (Z1p _ p1);obtain ⟨e,he,q,al,rfl,hq,hal,lan,laa,naa,daa⟩:=B2l pav hv;exact i0q _ rfl _ _ rfl rfl ⟨by decide,by decide⟩ (i0z _ rfl _ rfl _ rfl ar _ rfl (.inl (SqL.of har)) (i0k _ _ rfl rfl p1 (i0w ar _ _ _ rfl rfl (SqL.of har) ev (i0c _ rfl _ rfl (i1d _ q al sc d e.1 e.2 scn .non lk S rfl hq hal (i04 lan laa naa (i0g daa hsc hd (.inl rfl) fr k)))))))
  ·rcases how with rfl | ⟨e,q,al,rfl,hq,hal,lan,laa,naa,daa⟩
   ·cases hn
   refine i10 _ rfl q _ _ _ rfl rfl (SqT.of hq) rfl (i0d al _ rfl (.inl (SqL.of hal)) ⟨_,(i0i _ rfl rfl _ rfl ?_)⟩);by_cases hl:(0:Int)<((e.2.map V.str).length:Int)
   ·rw [Z20 hl];rw [Z08] at hl;exact A5h (i02 _ rfl (i0c _ rfl _ rfl (i15 _ rfl _ rfl q _ _ _ rfl rfl (SqT.of hq) rfl (i1d _ q al sc d e.1 e.2 scn (.ref al) lk S rfl hq hal (i04 lan laa naa (i0g daa hsc hd (.inr ⟨rfl,by lia⟩) fr k))))))
   ·rw [Z1j hl];exact hF
def tg:Tm->Str
 | .num _=>"number"
 | .place _=>"place"
 | .read _ _=>"read"
 | .sum _ _=>"sum"
 | .pair k _ _=>opS k
 | .guard _ _ _ _ _=>"guard"
theorem A9f (h:Rep H v (A1t u)):∃q vs,v= .ref q/\H q=some (.tup (.str (tg u)::vs)):=by
 cases u <;> (unfold A1t at h;cases h with | @tup p xs _ e r=>cases r with | cons a r=>cases a;exact i07 p _ rfl e)
theorem A7p {lo hi:Int} {l r:Tm} (h:Rep H v (A1t (.guard x lo hi l r))):∃q a b,v= .ref q/\H q=some (.tup [.str "guard",.str x,.int lo,.int hi,a,b])/\Rep H a (A1t l)/\Rep H b (A1t r):=by
 unfold A1t at h
 cases h with
 | @tup p xs _ e r =>
  cases r with
  | cons a r =>
   cases a
   cases r with
   | cons a r =>
    cases a
    cases r with
    | cons a r =>
     cases a
     cases r with
     | cons a r =>
      cases a
      cases r with
      | cons r1 r =>
       cases r with
       | cons r2 r =>
        cases r
        exact i0p p _ _ rfl e r1 r2
theorem C6q (k:Op3):¬opS k="guard"/\¬opS k="number":=by cases k <;> exact ⟨by decide +kernel,by decide +kernel⟩
theorem C6o (h:tg u="guard"):∃x lo hi l r,u= .guard x lo hi l r:=by
 cases u with
 | guard x lo hi l r=>exact ⟨x,(i0f lo hi l r rfl)⟩
 | num _=>exact absurd h (show¬("number":Str)="guard" by decide +kernel)
 | place _=>exact absurd h (show¬("place":Str)="guard" by decide +kernel)
 | read _ _=>exact absurd h (show¬("read":Str)="guard" by decide +kernel)
 | sum _ _=>exact absurd h (show¬("sum":Str)="guard" by decide +kernel)
 | pair k _ _=>exact absurd h (C6q k).1
theorem D2c (h:tg u="number"):∃z,u= .num z:=by
 cases u with
 | num z=>exact ⟨z,rfl⟩
 | guard _ _ _ _ _=>exact absurd h (show¬("guard":Str)="number" by decide +kernel)
 | place _=>exact absurd h (show¬("place":Str)="number" by decide +kernel)
 | read _ _=>exact absurd h (show¬("read":Str)="number" by decide +kernel)
 | sum _ _=>exact absurd h (show¬("sum":Str)="number" by decide +kernel)
 | pair k _ _=>exact absurd h (C6q k).2
def D6p (S:Addr->Prop) (lk:List (Key×V)) (H:Hp) (v:V):Prop:=∃(q:Addr) (x:Str) (lo hi z:Int) (a b:V),v= .ref q/\H q=some (.tup [.str "guard",.str x,.int lo,.int hi,a,b])/\Rep (A1a S H) b (A1t (.num z))/\Sm z/\A8k x/\Sm lo/\Sm hi/\B4r lk [x]
theorem D6p.same (h:D6p S lk H v) (s:A1f H H'):D6p S lk H' v:=by
 refine e08 h ?_;clear h;rintro q x lo hi z ⟨a,b,rfl,e,r,m⟩;exact i0f q x lo hi (i0p z a b rfl (s _ _ e) (r.same (A0h s)) m)
def B9m:Sp:=λvs H Q _=>∃(x:Str) (v:V) (r:Int) (d:Addr) (u:Tm) (lk:List (Key×V)) (S:Addr->Prop) (n:Nat),vs=[.str x,v,.int r,.ref d]/\A8k x/\B4r lk [x]/\H d=some (.dK lk)/\Fr S H/\Rep (A1a S H) v (A1t u)/\TmW u/\TmL lk u/\dep u<=n/\n<=1000/\C8a S lk (n+1) H Q
theorem C6t (h:∀b:Bool,Q b H) (e1:∀Q':Bool->Hp->Prop,Q' d1 H->t1 Z H Q') (e2:∀Q':Bool->Hp->Prop,Q' d2 H->t2 Z H Q'):C9s t1 t2 Z H Q:=B6b e1 e2 (h _)
theorem D2e {t3:TT} {d3:Bool} (h:∀b:Bool,Q b H) (e1:∀Q':Bool->Hp->Prop,Q' d1 H->t1 Z H Q') (e2:∀Q':Bool->Hp->Prop,Q' d2 H->t2 Z H Q') (e3:∀Q':Bool->Hp->Prop,Q' d3 H->t3 Z H Q'):C9s t1 (C9s t2 t3) Z H Q:=C2y (h false) e1 e2 λ_ _ _=>e3 _ (h _)
theorem C0v (T:Txt K mg t):FO P w base T.j9 1 B9m:=by
 refine T.j9.F.ok A3m (λvs H Q E h=> ?_) λ_ A _ s H _ Q E hr h=> ?_
 ·refine e08 h ?_;clear h;rintro x v r d u ⟨lk,S,n,rfl,_⟩;rfl
 ·refine e08 h ?_;clear h;rintro x v r d u ⟨lk,S,n,rfl,nx,dx,hd,fr,rp,wu,tu,du,n1000,k⟩;have hu:=B1b hr;refine i02 _ (@A0c _ _ _ _ _ (@A0l _ _ 4 _ _ _ _ A3m.nd rfl (.inl rfl) (@A1q _ _ _ _ A0d) rfl (by first | exact Or.inl rfl | exact Or.inr rfl | assumption)) (@A0c _ _ _ _ _ (@A6r _ _ _ _ _ _ PassesOwn.never (PW.pt (A3n (@A0o _ _ _ _ _ _ _ _ A7n (@A0r _ _ _ _ _ _ _ _ A1x (pv 2) A0e) A0e (A1e _)) (A3n (@A0o _ _ _ _ _ _ _ _ A2j (@A0z _ _ _ _ _ _ _ A0w (pv 1) A0e (λ_ _=>rfl)) A1h (A1e _)) (A3n (@A0o _ _ _ _ _ _ _ _ C8v (@A0z _ _ _ _ _ _ _ A0w (pv 1) A0e (λ_ _=>rfl)) (pv 0) (A1e _)) (A3w (@A0o _ _ _ _ _ _ _ _ A2j (@A0z _ _ _ _ _ _ _ A0w (@A0z _ _ _ _ _ _ _ A0w (pv 1) A0e (λ_ _=>rfl)) A0e (λ_ _=>rfl)) A1h (A1e _))))))) (@A0c _ _ _ _ _ (A2t (A5g Z0k Z0n Z0o A2d (pv 4) (@A0a _ _ _ _ _ (pv 1) A0d rfl))) (@A0g _ _ _ (@A0l _ _ 1 _ _ _ _ A3m.nd rfl (.inl rfl) (@A0z _ _ _ _ _ _ _ A0w (pv 1) A0e (λ_ _=>rfl)) rfl (by first | exact Or.inl rfl | exact Or.inr rfl | assumption))))) (@A0c _ _ _ _ _ (@A0l _ _ 5 _ _ _ _ A3m.nd rfl (.inl rfl) (@A1o _ _ _ _ _ (@A0a _ _ _ _ _ A1h (@A0a _ _ _ _ _ (pv 0) (@A0a _ _ _ _ _ (pv 1) A0d rfl) rfl) rfl)) rfl (by first | exact Or.inl rfl | exact Or.inr rfl | assumption)) (@A0c _ _ _ _ _ (A3d PassesOwn.never rfl (C1f rfl T.jq (@A0a _ _ _ _ _ (pv 4) A0d rfl)) (A0n (i:=6) A3m.nd rfl (.inl rfl)) (@A0g _ _ _ (@A1z _ _ _ _ _ _ _ _ (PW.pt (A3n (@A0o _ _ _ _ _ _ _ _ A2j (@A0r _ _ _ _ _ _ _ _ A1x (pv 2) A0e) A0e (A1e _)) (A3n (@A0o _ _ _ _ _ _ _ _ A7n (@A0z _ _ _ _ _ _ _ A0w (pv 6) A0e (λ_ _=>rfl)) A0e (A1e _)) (A3w (@A0o _ _ _ _ _ _ _ _ D8v (@A0z _ _ _ _ _ _ _ A0w (pv 6) A0e (λ_ _=>rfl)) (@A5d _ _ _ _ _ _ hu (pv 3) (@A0z _ _ _ _ _ _ _ A0w (pv 6) A0e (λ_ _=>rfl)) (λ_ _=>rfl)) (A1e _)))))) (@A0g _ _ _ (@A0l _ _ 5 _ _ _ _ A3m.nd rfl (.inl rfl) (@A1o _ _ _ _ _ (@A0a _ _ _ _ _ A1h (@A0a _ _ _ _ _ (@A0z _ _ _ _ _ _ _ A0w (pv 6) A0e (λ_ _=>rfl)) (@A0a _ _ _ _ _ A0e (@A0a _ _ _ _ _ (@A0z _ _ _ _ _ _ _ A0w (pv 6) A0e (λ_ _=>rfl)) (@A0a _ _ _ _ _ (@A0z _ _ _ _ _ _ _ A0w (pv 6) A0e (λ_ _=>rfl)) (@A0a _ _ _ _ _ (pv 5) A0d rfl) rfl) rfl) rfl) rfl) rfl)) rfl (by first | exact Or.inl rfl | exact Or.inr rfl | assumption))) (@A0g _ _ _ (@A1z _ _ _ _ _ _ _ _ (PW.pt (A3n (@A0o _ _ _ _ _ _ _ _ A2j (@A0r _ _ _ _ _ _ _ _ A1x (pv 2) A0e) A0e (A1e _)) (A3w (@A0o _ _ _ _ _ _ _ _ D6m (@A0z _ _ _ _ _ _ _ A0w (pv 6) A0e (λ_ _=>rfl)) A0e (A1e _))))) (@A0g _ _ _ (@A0l _ _ 5 _ _ _ _ A3m.nd rfl (.inl rfl) (@A1o _ _ _ _ _ (@A0a _ _ _ _ _ A1h (@A0a _ _ _ _ _ (@A0z _ _ _ _ _ _ _ A0w (pv 6) A0e (λ_ _=>rfl)) (@A0a _ _ _ _ _ (@A0z _ _ _ _ _ _ _ A0w (pv 6) A0e (λ_ _=>rfl)) (@A0a _ _ _ _ _ (@A5d _ _ _ _ _ _ hu (pv 3) (@A0z _ _ _ _ _ _ _ A0w (pv 6) A0e (λ_ _=>rfl)) (λ_ _=>rfl)) (@A0a _ _ _ _ _ (@A0z _ _ _ _ _ _ _ A0w (pv 6) A0e (λ_ _=>rfl)) (@A0a _ _ _ _ _ (pv 5) A0d rfl) rfl) rfl) rfl) rfl) rfl)) rfl (by first | exact Or.inl rfl | exact Or.inr rfl | assumption))) (@A0g _ _ _ (@A0l _ _ 5 _ _ _ _ A3m.nd rfl (.inl rfl) (@A1o _ _ _ _ _ (@A0a _ _ _ _ _ A1h (@A0a _ _ _ _ _ (@A0z _ _ _ _ _ _ _ A0w (pv 6) A0e (λ_ _=>rfl)) (@A0a _ _ _ _ _ (@A0z _ _ _ _ _ _ _ A0w (pv 6) A0e (λ_ _=>rfl)) (@A0a _ _ _ _ _ (@A0z _ _ _ _ _ _ _ A0w (pv 6) A0e (λ_ _=>rfl)) (@A0a _ _ _ _ _ (pv 5) (@A0a _ _ _ _ _ (@A0z _ _ _ _ _ _ _ A0w (pv 6) A0e (λ_ _=>rfl)) A0d rfl) rfl) rfl) rfl) rfl) rfl)) rfl (by first | exact Or.inl rfl | exact Or.inr rfl | assumption)))))))) (@A0g _ _ _ (@A0u _ _ _ _ (pv 5))))))) ?_;refine ⟨A0q rfl,λol hol=> ?_⟩;have s1:A1f H (upd H ol (.lst [])):=A0f hol;refine i02 (λm Z H2=>∃(v':V) (u':Tm) (ks:List V),Z=[Sso x,some v',Sio r,Sro d,Sro ol,none,none]/\A1f H H2/\H2 ol=some (.lst ks)/\(∀y∈ks,D6p S lk H y)/\Rep (A1a S H) v' (A1t u')/\TmW u'/\TmL lk u'/\ks.length+dep u'<=n/\m=dep u') (i0w (dep u) v u [] rfl s1 A0b (λy hy=>by cases hy) (i08 rp wu tu (by show 0+dep u<=n;lia) rfl)) ?_;rintro m Z H2 zz;refine e09 zz ?_;clear zz;rintro v' u' ks rfl s2 h2 ⟨kp,rp2,wu2,tu2,du2,rfl⟩;obtain ⟨q,vs,rfl,eq⟩:=A9f rp2;have eq:=A0j _ _ eq;have dp:=A4y u';have dt:∀(a b:Str),decide (V.str a=V.str b)=decide (a=b):=λa b=>decide_eq_decide.mpr ⟨λh=>V.str.inj h,λh=>by rw [h]⟩;refine C2y (d1:=decide (0<r%4)) (d2:=decide (tg u'="guard")) ?_ (λQ' q=>(i0q _ rfl _ _ rfl rfl D7d ⟨_,(i0i _ rfl rfl _ rfl q)⟩)) (λQ' qq=>(i19 _ rfl q _ _ _ rfl rfl (SqT.of (s2 _ _ eq)) (A1s (j:=0) rfl) rfl _ rfl (by rw [dt];exact qq))) (λhF _ h2'=> ?_)
  ·refine A2u ?_;refine i0j _ rfl _ rfl (A0q rfl) λtp htp=> ?_;have sT:=A0f (o:= .tup [.str "sum",.str x,.ref q]) htp;have eT:upd H2 tp (.tup [.str "sum",.str x,.ref q]) tp=some (.tup [.str "sum",.str x,.ref q]):=A0b;generalize upd H2 tp (.tup [.str "sum",.str x,.ref q])=H3 at sT eT;have s3:=s2.trans sT;have h3:=sT _ _ h2;have f2:=fr.same s2;refine i0m _ rfl ol _ rfl (SqL.of h3) ?_;refine B6e (K:=K) (a:=ol) (xs:=ks) (λi Z G=>∃(v3:V) (u3:Tm) (o6:Option V),Z=[Sso x,Sro q,Sio r,Sro d,Sro ol,some v3,o6]/\A1f H G/\G ol=some (.lst ks)/\Rep (A1a S G) v3 (A1t u3)/\TmW u3/\TmL lk u3/\dep u3<=dep u'+1+i) (i0e (.ref tp) (.sum x u') none rfl (i0g s3 h3 (D0o (A0i (f2 tp htp) eT) (rp2.same (A0h s3))) ⟨nx,wu2⟩ ⟨dx,tu2⟩ (by simp only [dep];lia))) (by (refine λi Z G zz=>e09 zz λ_ _ _ _ _ hG _=>?_;clear zz);exact SqL.of hG) ?_ ?_
   ·rintro i y Z G hi hy zz;refine e09 zz ?_;clear zz;rintro v3 u3 o6 rfl sG hG ⟨rp3,wu3,tu3,du3⟩;refine e08 ((kp y (Z13 hy)).same sG) ?_;rintro qk xk lo hi' z ⟨a,b,rfl,ek,rb,hz,nk,slo,shi,dk⟩;obtain ⟨nn,vn,n1,n60⟩:=dk xk (by simp);have dg:=B8e.k (H:=G) (a:=d) (k:=Sum.inr xk) (sG _ _ hd);rw [vn] at dg;have fG:=fr.same sG;have sk:=SqT.of (K:=K) ek
    have mk:∀(lo2 hi2:Int) (v1 v2:V) (l r':Tm) (G2:Hp) (tp2:Addr),Sm lo2->Sm hi2->Rep (A1a S G) v1 (A1t l)->Rep (A1a S G) v2 (A1t r')->TmW l->TmW r'->TmL lk l->TmL lk r'->dep l<=dep u'+1+i->dep r'<=dep u'+1+i->G tp2=none->G2=upd G tp2 (.tup [.str "guard",.str xk,.int lo2,.int hi2,v1,v2])->A1f H G2/\G2 ol=some (.lst ks)/\Rep (A1a S G2) (.ref tp2) (A1t (.guard xk lo2 hi2 l r'))/\TmW (.guard xk lo2 hi2 l r')/\TmL lk (.guard xk lo2 hi2 l r')/\dep (.guard xk lo2 hi2 l r')<=dep u'+1+(i+1):=λlo2 hi2 v1 v2 l r' G2 tp2 m1 m2 r1 r2 w1 w2 t1 t2 d1 d2 ht e=>by
     subst e;have sN:=A0f (o:= .tup [.str "guard",.str xk,.int lo2,.int hi2,v1,v2]) ht;exact i0g (sG.trans sN) (sN _ _ hG) (A5z (A0i (fG tp2 ht) A0b) (r1.same (A0h sN)) (r2.same (A0h sN))) (i08 nk m1 m2 w1 w2) (i00 dk t1 t2) (by simp only [dep];lia)
    refine D2e (λb1=> ?_) (λQ' qq=>(i0q _ rfl _ _ rfl rfl D7d (i05 rfl _ rfl qq))) (λQ' qq=>(i10 _ rfl qk _ _ _ rfl rfl sk rfl ⟨_,(i0i _ rfl rfl _ rfl qq)⟩)) (λQ' qq=>(i10 _ rfl qk _ _ _ rfl rfl sk rfl (i15 _ rfl _ rfl qk _ _ _ rfl rfl sk rfl (i0d d _ rfl dg ⟨_,(i0i _ rfl rfl _ rfl qq)⟩))));have dn:dep (.num z)<=dep u'+1+i:=by show 1<=_;lia
    cases b1 with
    | true =>
     refine A5h (i10 _ rfl qk _ _ _ rfl rfl sk rfl (i10 _ rfl qk _ _ _ rfl rfl sk rfl (i10 _ rfl qk _ _ _ rfl rfl sk rfl (i06 _ rfl (A0q rfl) λtp2 ht2=> ?_))));obtain ⟨m1,m2,m3,m4,m5,m6⟩:=mk 0 lo b v3 (.num z) u3 _ tp2 sm0 slo rb rp3 hz wu3 True.intro tu3 dn du3 ht2 rfl;exact i0e _ _ _ rfl (i0g m1 m2 m3 m4 m5 m6)
    | false =>
     refine A2u ?_;refine C6t (λb2=> ?_) (λQ' qq=>(i0q _ rfl _ _ rfl rfl D7d (i05 rfl _ rfl qq))) (λQ' qq=>(i10 _ rfl qk _ _ _ rfl rfl sk rfl ⟨_,(i0i _ rfl rfl _ rfl qq)⟩))
     cases b2 with
     | true =>
      refine A5h (i10 _ rfl qk _ _ _ rfl rfl sk rfl (i10 _ rfl qk _ _ _ rfl rfl sk rfl (i15 _ rfl _ rfl qk _ _ _ rfl rfl sk rfl (i0d d _ rfl dg (i10 _ rfl qk _ _ _ rfl rfl sk rfl (i06 _ rfl (A0q rfl) λtp2 ht2=> ?_))))));obtain ⟨m1,m2,m3,m4,m5,m6⟩:=mk hi' nn b v3 (.num z) u3 _ tp2 shi (A9x (by lia) (by lia)) rb rp3 hz wu3 True.intro tu3 dn du3 ht2 rfl;exact i0e _ _ _ rfl (i0g m1 m2 m3 m4 m5 m6)
     | false =>
      refine A2u (i10 _ rfl qk _ _ _ rfl rfl sk rfl (i10 _ rfl qk _ _ _ rfl rfl sk rfl (i10 _ rfl qk _ _ _ rfl rfl sk rfl (i18 _ rfl _ rfl qk _ _ _ rfl rfl sk rfl (A0q rfl) λtp2 ht2=> ?_))));obtain ⟨m1,m2,m3,m4,m5,m6⟩:=mk lo hi' v3 b u3 (.num z) _ tp2 slo shi rp3 rb wu3 hz tu3 True.intro du3 dn ht2 rfl;exact i0e _ _ _ rfl (i0g m1 m2 m3 m4 m5 m6)
   ·rintro Z G zz;refine e09 zz ?_;clear zz;rintro v3 u3 o6 rfl sG hG ⟨rp3,wu3,tu3,du3⟩;exact i02 _ rfl (k v3 u3 G sG rp3 wu3 tu3 (by lia))
  ·obtain ⟨y,lo,hi,l,rr,rfl⟩:=C6o (of_decide_eq_true h2');refine e09 (A7p rp2) λq' a b e1 e2 ra rb=>?_;cases e1;obtain ⟨qb,vb,rfl,eb⟩:=A9f rb;have e20:=A0j _ _ e2;have e2:=s2 _ _ e20;have eb:=s2 _ _ (A0j _ _ eb);refine B6b (d1:= ! decide (y=x)) (d2:=decide (tg rr="number")) (λQ' qq=>(i10 _ rfl q _ _ _ rfl rfl (SqT.of e2) rfl (i0i _ rfl rfl _ rfl (by rw [dt];exact qq)))) (λQ' qq=>(i10 _ rfl q _ _ _ rfl rfl (SqT.of e2) rfl (i0w qb _ _ _ rfl rfl (SqT.of eb) (A1s (j:=0) rfl) (i05 rfl _ rfl (by rw [dt];exact qq))))) ?_
   cases hc:(! decide (y=x)&&decide (tg rr="number")) with
   | false=>exact hF
   | true =>
    simp only [Z1x,decide_eq_true_eq] at hc;obtain ⟨z,rfl⟩:=D2c hc.2;have du2:ks.length+dep (.guard y lo hi l (.num z))<=n:=du2;simp only [dep] at du2;refine A5h (i02 (λZ' H'=>∃m',m'<dep (.guard y lo hi l (.num z))/\∃(v':V) (u':Tm) (ks:List V),Z'=[some (.str x),some v',some (.int r),some (.ref d),some (.ref ol),none,none]/\A1f H H'/\H' ol=some (.lst ks)/\(∀y∈ks,D6p S lk H y)/\Rep (A1a S H) v' (A1t u')/\TmW u'/\TmL lk u'/\ks.length+dep u'<=n/\m'=dep u') (λZ' H' z=>z) ?_);refine i0i _ rfl (.inl (i01 rfl _ (SqL.of h2))) _ rfl (i0s ol _ _ rfl rfl h2 (A1l (by lia)) ?_);have qo:q≠ol:=A3a e2 h2 (by intro h;cases h);refine i10 _ rfl q _ _ _ rfl rfl (SqT.of (by rw [A0k qo];exact e2)) rfl ?_;refine i0v (dep l) (by simp only [dep];lia) a l (ks++[.ref q]) rfl (A0s s2 hol) A0b (i0g (λy' hy=> ?_) ra wu2.2.2.2.1 tu2.2.1 (by rw [Z06];simp only [Z0y,Z2g];lia) rfl);rcases Z07.mp hy with hy | hy
    ·exact kp y' hy
    ·rw [Z0w.mp hy];exact ⟨q,(i1b y lo hi z a (.ref qb) rfl e20 rb wu2.2.2.2.2 wu2.1 wu2.2.1 wu2.2.2.1 tu2.1)⟩
theorem B6m (h:Rep H v (A1t (.sum x b))):∃q a,v= .ref q/\H q=some (.tup [.str "sum",.str x,a])/\Rep H a (A1t b):=by
 unfold A1t at h
 cases h with
 | @tup p xs _ e r =>
  cases r with
  | cons a r =>
   cases a
   cases r with
   | cons a r =>
    cases a
    cases r with
    | cons r1 r =>
     cases r
     exact i0d p _ rfl e r1
theorem B2f {k:Op3} {l r:Tm} (h:Rep H v (A1t (.pair k l r))):∃q a b,v= .ref q/\H q=some (.tup [.str (opS k),a,b])/\Rep H a (A1t l)/\Rep H b (A1t r):=by
 unfold A1t at h
 cases h with
 | @tup p xs _ e r =>
  cases r with
  | cons a r =>
   cases a
   cases r with
   | cons r1 r =>
    cases r with
    | cons r2 r =>
     cases r
     exact i0p p _ _ rfl e r1 r2
def isF:Tm->Bool
 | .num _=>true
 | .place _=>true
 | .read _ _=>true
 | _=>false
theorem B5q (u:Tm):decide (tg u="sum")=isS u/\(decide (tg u="number")||(decide (tg u="place")||decide (tg u="read")))=isF u:=by
 cases u with
 | num _=>exact ⟨(show decide (("number":Str)="sum")=false by decide +kernel),(show (decide (("number":Str)="number")||(decide (("number":Str)="place")||decide (("number":Str)="read")))=true by decide +kernel)⟩
 | place _=>exact ⟨(show decide (("place":Str)="sum")=false by decide +kernel),(show (decide (("place":Str)="number")||(decide (("place":Str)="place")||decide (("place":Str)="read")))=true by decide +kernel)⟩
 | read _ _=>exact ⟨(show decide (("read":Str)="sum")=false by decide +kernel),(show (decide (("read":Str)="number")||(decide (("read":Str)="place")||decide (("read":Str)="read")))=true by decide +kernel)⟩
 | sum _ _=>exact ⟨(show decide (("sum":Str)="sum")=true by decide +kernel),(show (decide (("sum":Str)="number")||(decide (("sum":Str)="place")||decide (("sum":Str)="read")))=false by decide +kernel)⟩
 | guard _ _ _ _ _=>exact ⟨(show decide (("guard":Str)="sum")=false by decide +kernel),(show (decide (("guard":Str)="number")||(decide (("guard":Str)="place")||decide (("guard":Str)="read")))=false by decide +kernel)⟩
 | pair k _ _=>cases k with
  | plus=>exact ⟨(show decide (("plus":Str)="sum")=false by decide +kernel),(show (decide (("plus":Str)="number")||(decide (("plus":Str)="place")||decide (("plus":Str)="read")))=false by decide +kernel)⟩
  | minus=>exact ⟨(show decide (("minus":Str)="sum")=false by decide +kernel),(show (decide (("minus":Str)="number")||(decide (("minus":Str)="place")||decide (("minus":Str)="read")))=false by decide +kernel)⟩
  | times=>exact ⟨(show decide (("times":Str)="sum")=false by decide +kernel),(show (decide (("times":Str)="number")||(decide (("times":Str)="place")||decide (("times":Str)="read")))=false by decide +kernel)⟩
theorem dtS (a b:Str):decide (V.str a=V.str b)=decide (a=b):=decide_eq_decide.mpr ⟨λh=>V.str.inj h,λh=>by rw [h]⟩
def B3d (n:Nat):Sp:=λvs H Q _=>∃(v:V) (d:Addr) (u:Tm) (lk:List (Key×V)),vs=[v,.ref d]/\Rep H v (A1t u)/\TmL lk u/\H d=some (.dK lk)/\dep u<=n/\∀z:Int,(nod u:Int)<=z->Q (.int z) H
theorem B2r (T:Txt K mg t) (Gd3:A2y P w K mg base CX0 m t.jm t.jn C3n sp')
  (hs:∀(v:V) (d:Addr) (u:Tm) (lk:List (Key×V)) (H:Hp) (Q:VK),Rep H v (A1t u)->TmL lk u->H d=some (.dK lk)->dep u+1<=n->(∀z:Int,(nod u:Int)<=z->Q (.int z) H)->sp' [v,.ref d] H Q E0):A2y P w K mg base CX0 (m+1) t.jm t.jn C3n (B3d n):=by
 refine T.dz.F.ok B9w (by walk_at "ln") λ_ A _ s H _ Q E hr h=> ?_
 ·refine e0d h ?_;clear h;rintro v d u lk rfl rp tu hd ⟨du,k⟩;have hu:=B1b hr;obtain ⟨q,vs,rfl,eq⟩:=A9f rp;obtain ⟨t1,t2⟩:=B5q u;have sq:=SqT.of (K:=K) eq;refine i02 _ (@A0c _ _ _ _ _ (@A1z _ _ _ _ _ _ _ _ (@A0o _ _ _ _ _ _ _ _ A2j (@A0z _ _ _ _ _ _ _ A0w (pv 0) A0e (λ_ _=>rfl)) A1h (A1e _)) (@A0g _ _ _ (@A0u _ _ _ _ (@A0r _ _ _ _ _ _ _ _ A2r A0e (@A0r _ _ _ _ _ _ _ _ A8w (@A5d _ _ _ _ _ _ hu (pv 1) (@A0z _ _ _ _ _ _ _ A0w (pv 0) A0e (λ_ _=>rfl)) (λ_ _=>rfl)) (pcl Gd3 hr T.dz (@A0a _ _ _ _ _ (@A0z _ _ _ _ _ _ _ A0w (pv 0) A0e (λ_ _=>rfl)) (@A0a _ _ _ _ _ (pv 1) A0d rfl) rfl)))))) A1d) (@A0c _ _ _ _ _ (@A1z _ _ _ _ _ _ _ _ (PW.pt (B0f (@A0o _ _ _ _ _ _ _ _ A2j (@A0z _ _ _ _ _ _ _ A0w (pv 0) A0e (λ_ _=>rfl)) A1h (A1e _)) (B0f (@A0o _ _ _ _ _ _ _ _ A2j (@A0z _ _ _ _ _ _ _ A0w (pv 0) A0e (λ_ _=>rfl)) A1h (A1e _)) (A9y (@A0o _ _ _ _ _ _ _ _ A2j (@A0z _ _ _ _ _ _ _ A0w (pv 0) A0e (λ_ _=>rfl)) A1h (A1e _)))))) (@A0g _ _ _ (@A0u _ _ _ _ A0e)) A1d) (@A0g _ _ _ (@A0u _ _ _ _ (@A0r _ _ _ _ _ _ _ _ A2r (@A0r _ _ _ _ _ _ _ _ A2r A0e (pcl Gd3 hr T.dz (@A0a _ _ _ _ _ (@A0z _ _ _ _ _ _ _ A0w (pv 0) (B7a B1s A0e) (λ_ _=>rfl)) (@A0a _ _ _ _ _ (pv 1) A0d rfl) rfl))) (pcl Gd3 hr T.dz (@A0a _ _ _ _ _ (@A0z _ _ _ _ _ _ _ A0w (pv 0) (B7a B1s A0e) (λ_ _=>rfl)) (@A0a _ _ _ _ _ (pv 1) A0d rfl) rfl))))))) ?_;refine i19 _ rfl q _ _ _ rfl rfl sq (A1s (j:=0) rfl) rfl _ rfl ?_;rw [dtS,t1]
  cases hS:isS u with
  | true =>
   cases u with
   | sum x b =>
    obtain ⟨q',a,e1,e2,ra⟩:=B6m rp;cases e1;obtain ⟨nn,vn,n1,n60⟩:=tu.1 x (by simp);have dg:=B8e.k (H:=H) (a:=d) (k:=Sum.inr x) hd;rw [vn] at dg;simp only [dep] at du;have sq:=SqT.of (K:=K) e2;refine A5h (i15 _ rfl _ rfl q _ _ _ rfl rfl sq rfl (i0d d _ rfl dg (i10 _ rfl q _ _ _ rfl rfl sq rfl (i02 _ rfl (hs a d b lk H _ ra tu.2 hd (by lia) λz hz=> ?_)))))
    have zn:z<=nn*z:=by
     have:0<=(nn-1)*z:=Int.mul_nonneg (by lia) (by lia);rw [Int.sub_mul,Int.one_mul] at this
     lia
    refine i0x _ _ rfl rfl (.inl ⟨by lia,by lia⟩) _ _ rfl rfl (k _ ?_);simp only [nod]
    lia
   | num _=>cases hS
   | place _=>cases hS
   | read _ _=>cases hS
   | pair _ _ _=>cases hS
   | guard _ _ _ _ _=>cases hS
  | false =>
   refine A2u ?_;dsimp only [B5r,C7o,C7q];refine D4c (d1:=decide (tg u="number")) (d2:=decide (tg u="place")) (d3:=decide (tg u="read")) (λQ' qq=>(i19 _ rfl q _ _ _ rfl rfl sq (A1s (j:=0) rfl) rfl _ rfl (by rw [dtS];exact qq))) (λQ' qq=>(i19 _ rfl q _ _ _ rfl rfl sq (A1s (j:=0) rfl) rfl _ rfl (by rw [dtS];exact qq))) (λQ' qq=>(i19 _ rfl q _ _ _ rfl rfl sq (A1s (j:=0) rfl) rfl _ rfl (by rw [dtS];exact qq))) ?_;rw [t2]
   cases u with
   | sum _ _=>cases hS
   | num _=>exact A5h (k 1 (by show ((1:Nat):Int)<=1;lia))
   | place _=>exact A5h (k 1 (by show ((1:Nat):Int)<=1;lia))
   | read _ _=>exact A5h (k 1 (by show ((1:Nat):Int)<=1;lia))
   | pair o l r =>
    refine e09 (B2f rp) λq' a b e1 e2 ra rb=>?_;cases e1;simp only [dep] at du;have sq:=SqT.of (K:=K) e2;refine A2u (i15 _ rfl _ rfl q _ _ _ rfl rfl sq rfl (i02 _ rfl (hs a d l lk H _ ra tu.1 hd (by lia) λz1 h1=>(i0d _ _ rfl rfl (i15 _ rfl _ rfl q _ _ _ rfl rfl sq rfl (i02 _ rfl (hs b d r lk H _ rb tu.2 hd (by lia) λz2 h2=>(i0d _ _ rfl rfl (k _ ?_)))))))));simp only [nod]
    lia
   | guard x lo hi l r =>
    refine e09 (A7p rp) λq' a b e1 e2 ra rb=>?_;cases e1;simp only [dep] at du;have sq:=SqT.of (K:=K) e2;refine A2u (i15 _ rfl _ rfl q _ _ _ rfl rfl sq rfl (i02 _ rfl (hs a d l lk H _ ra tu.2.1 hd (by lia) λz1 h1=>(i0d _ _ rfl rfl (i15 _ rfl _ rfl q _ _ _ rfl rfl sq rfl (i02 _ rfl (hs b d r lk H _ rb tu.2.2 hd (by lia) λz2 h2=>(i0d _ _ rfl rfl (k _ ?_)))))))));simp only [nod]
    lia
theorem B8y (T:Txt K mg t):∀n:Nat,A2y P w K mg base CX0 (n+1) t.jm t.jn C3n (B3d n)
 | 0=>B2r T (m:=0) (sp':=λ_ _ _ _=>False) (A2y.none λ_ _ _ _ h=>h) λv d u lk H Q _ _ _ h=>absurd h (by lia)
 | n+1=>B2r T (m:=n+1) (B8y T n) λv d u lk H Q r tl hd du k=>(i0y v d u lk rfl r tl hd (by lia) k)
theorem C0j {D:Addr} {o:Obj} {g:TG} {tc:TT} {te:TE} {QD:Hp->Prop} {Z₀:St} (Pv:Nat->List V->Hp->Prop) (h0:Pv 0 [] (upd H D (.lst []))) (hl:∀i ys H,Pv i ys H->H a=some (.frz o (.dK kvs)))
  (hs:∀i k v ys H,kvs[i]? =some (k,v)->Pv i ys H->g (kV k) Z₀ H λZ4 H4=>A3e Z₀ Z4/\tc Z4 H4 λb H5=>if b=true then te Z4 H5 (λy H5=>H5 D=some (.lst ys)/\ys.length<sizeLine/\Pv (i+1) (ys++[y]) (upd H5 D (.lst (ys++[y])))) else Pv (i+1) ys H5) (hd:∀ys H,Pv kvs.length ys H->QD H) :
  ∃W:Nat->Nat->Hp->Prop,(∃m,W 0 m (upd H D (.lst [])))/\∀i m H2,W i m H2->
   ((Itd a o kvs).stop i H2/\QD H2)\/((Itd a o kvs).go i H2/\∃(N:VK) (M:Hp->Prop),(∀y H5,N y H5->∃xs,H5 D=some (.lst xs)/\xs.length<sizeLine/\∃m',m'<m/\W (i+1) m' (upd H5 D (.lst (xs++[y]))))/\(∀H5,M H5->∃m',m'<m/\W (i+1) m' H5)/\
    ∀x H3,(Itd a o kvs).yld i H2 x H3->g x Z₀ H3 λZ4 H4=>A3e Z₀ Z4/\tc Z4 H4 λb H5=>if b=true then te Z4 H5 N else M H5):=by
 refine i02 (λi m H=>m=kvs.length-i/\i<=kvs.length/\∃ys,Pv i ys H) (i0b kvs.length (by simp) (Z1e _) [] h0) ?_;rintro i m H2 ⟨rfl,hi,ys,p⟩;by_cases hlt:i<kvs.length
 ·refine .inr (i0h ⟨hl i ys H2 p,hlt⟩ (λy H5=>H5 D=some (.lst ys)/\ys.length<sizeLine/\Pv (i+1) (ys++[y]) (upd H5 D (.lst (ys++[y])))) (λH5=>Pv (i+1) ys H5) (λy H5 n=>(i0t ys n.1 n.2.1 (kvs.length-(i+1)) (by lia) rfl hlt _ n.2.2)) (λH5 n=>(i0a (kvs.length-(i+1)) (by lia) rfl hlt ⟨_,n⟩)) λx H3 z=> ?_);obtain ⟨e,k,v,e1,e2⟩:=z;subst e e2;exact hs i k v ys _ e1 p
 ·have e:i=kvs.length:=by lia
  subst e;exact .inl ⟨⟨hl _ ys H2 p,rfl⟩,hd ys H2 p⟩
def gw:Nat->Nat
 | 0=>1
 | n+1=>2*gw n+1
theorem C1g:∀n,1<=gw n
 | 0=>Z09 _
 | n+1=>by show 1<=2*gw n+1;lia
structure D2n (H:Hp) (d:Addr) (lk:List (Key×V)) (nm:List Str):Prop where
 h:H d=some (.dK lk)
 ks:lk.map (·.1)=nm.map (Sum.inr:Str->Key)
 dk:B4r lk nm
 hn:NmS nm
 l:nm.length<=12
theorem D2n.same {nm:List Str} (h:D2n H d lk nm) (s:A1f H H'):D2n H' d lk nm:=⟨s _ _ h.h,h.ks,h.dk,h.hn,h.l⟩
theorem C7g.same {sc:List Str} (h:C7g H lk a sc) (s:A1f H H'):C7g H' lk a sc:=⟨s _ _ h.1,h.2⟩
theorem C9w.same (h:C9w H lk a es) (s:A1f H H'):C9w H' lk a es:=by
 obtain ⟨avs,e,r,l⟩:=h;exact i06 avs (s _ _ e) (Paired.mapP r λ_ _ z=>z.same s) l
def B9b (n:Nat):Sp:=λvs H Q _=>∃(cl sc bk ar d:Addr) (p room:Nat) (ow:V) (ns:List Int) (es:List (Str×List Str)) (scn nm:List Str) (lk:List (Key×V)) (S:Addr->Prop),vs=[.ref cl,.int (p:Int),.ref sc,.ref bk,.int (room:Int)]/\H cl=some (.lst (ns.map V.int))/\p+gw room<=1000/\C7g H lk sc scn/\scn.length+2*room<=90/\H bk=some (.tup [.ref ar,.ref d,ow])/\C9w H lk ar es/\D2n H d lk nm/\D2r H lk ow/\room<=n/\Fr S H/\
 ∀(tp:Addr) (tv:V) (u':Tm) (p':Nat) (H':Hp),A1f H H'->H' tp=some (.tup [tv,.int (p':Int)])->Rep (A1a S H') tv (A1t u')->TmW u'->TmL lk u'->dep u'<=4+3*room->p<p'->p'<=p+gw room->Q (.ref tp) H'
theorem C7g.add {sc nm:List Str} (e:H a=some (.lst ((sc++ys).map V.str))) (h1:NmS sc) (h2:B4r lk sc) (l:(sc++ys).length<=100) (hn:NmS nm) (dk:B4r lk nm) (m:∀y∈ys,y∈nm):C7g H lk a (sc++ys):=by
 refine i04 e l (λz hz=> ?_) λz hz=> ?_
 ·rcases Z07.mp hz with hz | hz
  ·exact h1 z hz
  ·exact hn z (m z hz)
 ·rcases Z07.mp hz with hz | hz
  ·exact h2 z hz
  ·exact dk z (m z hz)
theorem D3b (z:Int):∃o:Op3,atI [V.str "plus",V.str "minus",V.str "times"] (z%3)=some (.str (opS o)):=by
 have h:z%3=0\/z%3=1\/z%3=2:=by lia
 rcases h with h | h | h
 ·exact ⟨.plus,by rw [h];rfl⟩
 ·exact ⟨.minus,by rw [h];rfl⟩
 ·exact ⟨.times,by rw [h];rfl⟩
theorem B7q (T:Txt K mg t) (hm:4<=m) (Gd4:A2y P w K mg base CX0 m t.q4 t.ox C2r sp')
  (hs:∀(cl sc bk ar d:Addr) (p room:Nat) (ow:V) (ns:List Int) (es:List (Str×List Str)) (scn nm:List Str) (lk:List (Key×V)) (S:Addr->Prop) (H:Hp) (Q:VK),H cl=some (.lst (ns.map V.int))->p+gw room<=1000->C7g H lk sc scn->scn.length+2*room<=90->H bk=some (.tup [.ref ar,.ref d,ow])->C9w H lk ar es->D2n H d lk nm->D2r H lk ow->room+1<=n->Fr S H->∀(pa ra:Int),pa=(p:Int)->ra=(room:Int)->
   (∀(tp:Addr) (tv:V) (u':Tm) (p':Nat) (H':Hp),A1f H H'->H' tp=some (.tup [tv,.int (p':Int)])->Rep (A1a S H') tv (A1t u')->TmW u'->TmL lk u'->dep u'<=4+3*room->p<p'->p'<=p+gw room->Q (.ref tp) H')->sp' [.ref cl,.int pa,.ref sc,.ref bk,.int ra] H Q E0):A2y P w K mg base CX0 (m+1) t.q4 t.ox C2r (B9b n):=by
 have Gc8:= @A8n P w K mg base t T;have Gd5:= @A6c P w K mg base t T;have Gd6:= @B8z P w K mg base t T;have Gd7:= @C0v P w K mg base t T;refine T.gj.F.ok A1r (λvs H Q E h=> ?_) λ_ A _ s H _ Q E hr h=> ?_
 ·refine e0f h ?_;clear h;rintro cl sc bk ar d p room ow ns ⟨es,scn,nm,lk,S,rfl,_⟩;rfl
 ·refine e0f h ?_;clear h;rintro cl sc bk ar d p room ow ns ⟨es,scn,nm,lk,S,rfl,hcl,pb,hsc,lsc,hbk,has,hlk,how,hrm,fr,k⟩;have hu:=B1b hr;have g1:=C1g room;refine i02 _ (@A0c _ _ _ _ _ (A8z (pv 3) (A3f (n:=3) rfl (A0v (A0n (i:=5) A1r.nd rfl (.inl rfl)) (A0v (A0n (i:=6) A1r.nd rfl (.inl rfl)) (A0v (A0n (i:=7) A1r.nd rfl (.inl rfl)) A2k))))) (@A0c _ _ _ _ _ (@A0l _ _ 8 _ _ _ _ A1r.nd rfl (.inl rfl) (pcl Gc8 hr T.gc (@A0a _ _ _ _ _ (pcl Gd5 hr T.ay (@A0a _ _ _ _ _ (pv 0) (@A0a _ _ _ _ _ (pv 1) A0d rfl) rfl)) (@A0a _ _ _ _ _ (pv 1) A0d rfl) rfl)) rfl (by first | exact Or.inl rfl | exact Or.inr rfl | assumption)) (@A0c _ _ _ _ _ (@A0l _ _ 9 _ _ _ _ A1r.nd rfl (.inl rfl) (@A0r _ _ _ _ _ _ _ _ A1x (pv 8) A0e) rfl (by first | exact Or.inl rfl | exact Or.inr rfl | assumption)) (@A0c _ _ _ _ _ (@A0l _ _ 8 _ _ _ _ A1r.nd rfl (.inl rfl) (@A0r _ _ _ _ _ _ _ _ A1u (pv 8) A0e) rfl (by first | exact Or.inl rfl | exact Or.inr rfl | assumption)) (@A0c _ _ _ _ _ (B3c (i₀:=11) (N':=["_law_axis","_law_scope"]) (ix:=(List.replicate 1 none++[some 2])) (tc:=B7x (tOp (rIn K true) (C0u 0) (C0u 1))) A1r.nd rfl (.inl rfl) rfl (A8l (x:="_law_scope") rfl rfl rfl (by decide +kernel) (by decide +kernel)) (A6n (N0:=["_law_axis"]) rfl (.inl rfl) (by walk_at "ix")) (C7l (pv 6)) (λ_ _ _ _=>(A0n (i:=0) C6i rfl (.inl rfl))) (λ_ _ _ _=>(@A0o _ _ _ _ _ _ _ _ A4x (pv 0) (pv 1) (by with_unfolding_all rfl))) (λ_ _ _ _=>(pv 0))) (@C1x _ _ _ (@A0c _ _ _ _ _ (@A1z _ _ _ _ _ _ _ _ (PW.pt (A3n (@A0o _ _ _ _ _ _ _ _ A7n (pv 4) A0e (A1e _)) (A3n (@A0o _ _ _ _ _ _ _ _ A2j (pv 9) A0e (A1e _)) (A3w (@A0o _ _ _ _ _ _ _ _ A7n (A0y A0x (by rfl) T.bf Z0r (@A0a _ _ _ _ _ (pv 11) A0d rfl)) A0e (A1e _)))))) (@A0c _ _ _ _ _ (@A0l _ _ 10 _ _ _ _ A1r.nd rfl (.inl rfl) (@A0z _ _ _ _ _ _ _ A1n (pv 11) (@A0r _ _ _ _ _ _ _ _ A1x (pv 8) (A0y A0x (by rfl) T.bf Z0r (@A0a _ _ _ _ _ (pv 11) A0d rfl))) (λ_ _=>rfl)) rfl (by first | exact Or.inl rfl | exact Or.inr rfl | assumption)) (@A0c _ _ _ _ _ (A8z (pcl Gd4 hr T.gj (@A0a _ _ _ _ _ (pv 0) (@A0a _ _ _ _ _ (@A0r _ _ _ _ _ _ _ _ A2r (pv 1) A0e) (@A0a _ _ _ _ _ (@A0r _ _ _ _ _ _ _ _ A4i (pv 2) (@A1q _ _ _ _ (@A0a _ _ _ _ _ (pv 10) A0d rfl))) (@A0a _ _ _ _ _ (@A1o _ _ _ _ _ (@A0a _ _ _ _ _ (pv 5) (@A0a _ _ _ _ _ (pv 6) (@A0a _ _ _ _ _ B7i A0d rfl) rfl) rfl)) (@A0a _ _ _ _ _ (@A0r _ _ _ _ _ _ _ _ A4f (pv 4) A0e) A0d rfl) rfl) rfl) rfl) rfl)) (A3f (n:=2) rfl (A0v (A0n (i:=12) A1r.nd rfl (.inl rfl)) (A0v (A0n (i:=1) A1r.nd rfl (.inl rfl)) A2k)))) (@A0c _ _ _ _ _ (@A0l _ _ 13 _ _ _ _ A1r.nd rfl (.inl rfl) (@A0z _ _ _ _ _ _ _ A1n (pv 11) (@A0r _ _ _ _ _ _ _ _ A1x (@A0r _ _ _ _ _ _ _ _ A2r (pv 8) A0e) (A0y A0x (by rfl) T.bf Z0r (@A0a _ _ _ _ _ (pv 11) A0d rfl))) (λ_ _=>rfl)) rfl (by first | exact Or.inl rfl | exact Or.inr rfl | assumption)) (@A4k _ _ _ _ _ (@A1z _ _ _ _ _ _ _ _ (PW.pt (A3n (@A0o _ _ _ _ _ _ _ _ A2j (@A0r _ _ _ _ _ _ _ _ A1x (@A0r _ _ _ _ _ _ _ _ A1u (pv 8) A0e) A0e) A0e (A1e _)) (A3w (@A0o _ _ _ _ _ _ _ _ C8v (pv 13) (pv 10) (A1e _))))) (@A0c _ _ _ _ _ (@A0l _ _ 14 _ _ _ _ A1r.nd rfl (.inl rfl) (pcl Gd6 hr T.ib (@A0a _ _ _ _ _ (@A0r _ _ _ _ _ _ _ _ A1u (pv 8) A0e) (@A0a _ _ _ _ _ (pv 5) (@A0a _ _ _ _ _ (@A0r _ _ _ _ _ _ _ _ A4i (pv 2) (@A1q _ _ _ _ (@A0a _ _ _ _ _ (pv 10) (@A0a _ _ _ _ _ (pv 13) A0d rfl) rfl))) (@A0a _ _ _ _ _ (pv 6) (@A0a _ _ _ _ _ B7i A0d rfl) rfl) rfl) rfl) rfl)) rfl (by first | exact Or.inl rfl | exact Or.inr rfl | assumption)) (@A0c _ _ _ _ _ (@A0l _ _ 14 _ _ _ _ A1r.nd rfl (.inl rfl) (pcl Gd7 hr T.j9 (@A0a _ _ _ _ _ (pv 13) (@A0a _ _ _ _ _ (pv 14) (@A0a _ _ _ _ _ (@A0r _ _ _ _ _ _ _ _ A1u (pv 8) A0e) (@A0a _ _ _ _ _ (pv 6) A0d rfl) rfl) rfl) rfl)) rfl (by first | exact Or.inl rfl | exact Or.inr rfl | assumption)) (@A0g _ _ _ (@A0l _ _ 12 _ _ _ _ A1r.nd rfl (.inl rfl) (@A1o _ _ _ _ _ (@A0a _ _ _ _ _ (@A0z _ _ _ _ _ _ _ A1n (@A1q _ _ _ _ (@A0a _ _ _ _ _ A1h (@A0a _ _ _ _ _ A1h (@A0a _ _ _ _ _ A1h A0d rfl) rfl) rfl)) (@A0r _ _ _ _ _ _ _ _ A1x (@A0r _ _ _ _ _ _ _ _ A1u (pv 8) A0e) A0e) (λ_ _=>rfl)) (@A0a _ _ _ _ _ (pv 12) (@A0a _ _ _ _ _ (pv 14) A0d rfl) rfl) rfl)) rfl (by first | exact Or.inl rfl | exact Or.inr rfl | assumption))))) A1d) (@A0g _ _ _ (@A0u _ _ _ _ (@A1o _ _ _ _ _ (@A0a _ _ _ _ _ (pcl Gd7 hr T.j9 (@A0a _ _ _ _ _ (pv 10) (@A0a _ _ _ _ _ (pv 12) (@A0a _ _ _ _ _ (@A0r _ _ _ _ _ _ _ _ A1u (pv 8) A0e) (@A0a _ _ _ _ _ (pv 6) A0d rfl) rfl) rfl) rfl)) (@A0a _ _ _ _ _ (pv 1) A0d rfl) rfl)))))))) A1d) (@A0c _ _ _ _ _ (@A1z _ _ _ _ _ _ _ _ (PW.pt (A3n (@A0o _ _ _ _ _ _ _ _ A7n (pv 4) A0e (A1e _)) (A3n (@A0o _ _ _ _ _ _ _ _ A2j (pv 9) A0e (A1e _)) (A3w (@A0o _ _ _ _ _ _ _ _ A7n (A0y A0x (by rfl) T.bf Z0r (@A0a _ _ _ _ _ (pv 2) A0d rfl)) A0e (A1e _)))))) (@A0c _ _ _ _ _ (@A0l _ _ 10 _ _ _ _ A1r.nd rfl (.inl rfl) (@A0z _ _ _ _ _ _ _ A1n (pv 2) (@A0r _ _ _ _ _ _ _ _ A1x (pv 8) (A0y A0x (by rfl) T.bf Z0r (@A0a _ _ _ _ _ (pv 2) A0d rfl))) (λ_ _=>rfl)) rfl (by first | exact Or.inl rfl | exact Or.inr rfl | assumption)) (@A0c _ _ _ _ _ (@A0l _ _ 15 _ _ _ _ A1r.nd rfl (.inl rfl) (@A0r _ _ _ _ _ _ _ _ A4f (@A0r _ _ _ _ _ _ _ _ A1x (@A0r _ _ _ _ _ _ _ _ A1u (pv 8) A0e) (@A0r _ _ _ _ _ _ _ _ A2r (@A5d _ _ _ _ _ _ hu (pv 6) (pv 10) (λ_ _=>rfl)) A0e)) A0e) rfl (by first | exact Or.inl rfl | exact Or.inr rfl | assumption)) (@A0c _ _ _ _ _ (@A0l _ _ 16 _ _ _ _ A1r.nd rfl (.inl rfl) (@A0r _ _ _ _ _ _ _ _ A2r (pv 15) (@A0r _ _ _ _ _ _ _ _ A1x (@A0r _ _ _ _ _ _ _ _ A1u (pv 8) A0e) (@A0r _ _ _ _ _ _ _ _ A2r (@A5d _ _ _ _ _ _ hu (pv 6) (pv 10) (λ_ _=>rfl)) A0e))) rfl (by first | exact Or.inl rfl | exact Or.inr rfl | assumption)) (@A4k _ _ _ _ _ (@A1z _ _ _ _ _ _ _ _ (@A0o _ _ _ _ _ _ _ _ A2j (@A0r _ _ _ _ _ _ _ _ A1x (@A0r _ _ _ _ _ _ _ _ A1u (pv 8) A0e) A0e) A0e (A1e _)) (@A0g _ _ _ (@A0l _ _ 16 _ _ _ _ A1r.nd rfl (.inl rfl) (@A0r _ _ _ _ _ _ _ _ A2r (pv 16) (@A0r _ _ _ _ _ _ _ _ B0i A0e A0e)) rfl (by first | exact Or.inl rfl | exact Or.inr rfl | assumption))) A1d) (@A0c _ _ _ _ _ (A8z (pcl Gd4 hr T.gj (@A0a _ _ _ _ _ (pv 0) (@A0a _ _ _ _ _ (@A0r _ _ _ _ _ _ _ _ A2r (pv 1) A0e) (@A0a _ _ _ _ _ (pv 2) (@A0a _ _ _ _ _ (pv 3) (@A0a _ _ _ _ _ (@A0r _ _ _ _ _ _ _ _ A4f (pv 4) A0e) A0d rfl) rfl) rfl) rfl) rfl)) (A3f (n:=2) rfl (A0v (A0n (i:=14) A1r.nd rfl (.inl rfl)) (A0v (A0n (i:=1) A1r.nd rfl (.inl rfl)) A2k)))) (@A0c _ _ _ _ _ (A8z (pcl Gd4 hr T.gj (@A0a _ _ _ _ _ (pv 0) (@A0a _ _ _ _ _ (pv 1) (@A0a _ _ _ _ _ (pv 2) (@A0a _ _ _ _ _ (pv 3) (@A0a _ _ _ _ _ (@A0r _ _ _ _ _ _ _ _ A4f (pv 4) A0e) A0d rfl) rfl) rfl) rfl) rfl)) (A3f (n:=2) rfl (A0v (A0n (i:=17) A1r.nd rfl (.inl rfl)) (A0v (A0n (i:=1) A1r.nd rfl (.inl rfl)) A2k)))) (@A4k _ _ _ _ _ (@A1z _ _ _ _ _ _ _ _ (@A0o _ _ _ _ _ _ _ _ A2j (@A0r _ _ _ _ _ _ _ _ A1x (@A0r _ _ _ _ _ _ _ _ A1u (pv 8) A0e) A0e) A0e (A1e _)) (@A0g _ _ _ (@A0l _ _ 17 _ _ _ _ A1r.nd rfl (.inl rfl) (@A1o _ _ _ _ _ (@A0a _ _ _ _ _ A1h (@A0a _ _ _ _ _ (pv 17) (@A0a _ _ _ _ _ (pv 14) A0d rfl) rfl) rfl)) rfl (by first | exact Or.inl rfl | exact Or.inr rfl | assumption))) A1d) (@A0g _ _ _ (@A0u _ _ _ _ (@A1o _ _ _ _ _ (@A0a _ _ _ _ _ (@A1o _ _ _ _ _ (@A0a _ _ _ _ _ A1h (@A0a _ _ _ _ _ (pv 10) (@A0a _ _ _ _ _ (pv 15) (@A0a _ _ _ _ _ (pv 16) (@A0a _ _ _ _ _ (pv 14) (@A0a _ _ _ _ _ (pv 17) A0d rfl) rfl) rfl) rfl) rfl) rfl)) (@A0a _ _ _ _ _ (pv 1) A0d rfl) rfl))))))))))) A1d) (@A0c _ _ _ _ _ (@A1z _ _ _ _ _ _ _ _ (PW.pt (A3n (@A0o _ _ _ _ _ _ _ _ A7n (pv 4) A0e (A1e _)) (A3n (@A0o _ _ _ _ _ _ _ _ A7n (pv 9) A0e (A1e _)) (A3w (@A0o _ _ _ _ _ _ _ _ C0m (pv 9) A0e (A1e _)))))) (@A0c _ _ _ _ _ (A8z (pcl Gd4 hr T.gj (@A0a _ _ _ _ _ (pv 0) (@A0a _ _ _ _ _ (@A0r _ _ _ _ _ _ _ _ A2r (pv 1) A0e) (@A0a _ _ _ _ _ (pv 2) (@A0a _ _ _ _ _ (pv 3) (@A0a _ _ _ _ _ (@A0r _ _ _ _ _ _ _ _ A4f (pv 4) A0e) A0d rfl) rfl) rfl) rfl) rfl)) (A3f (n:=2) rfl (A0v (A0n (i:=18) A1r.nd rfl (.inl rfl)) (A0v (A0n (i:=1) A1r.nd rfl (.inl rfl)) A2k)))) (@A0c _ _ _ _ _ (A8z (pcl Gd4 hr T.gj (@A0a _ _ _ _ _ (pv 0) (@A0a _ _ _ _ _ (pv 1) (@A0a _ _ _ _ _ (pv 2) (@A0a _ _ _ _ _ (pv 3) (@A0a _ _ _ _ _ (@A0r _ _ _ _ _ _ _ _ A4f (pv 4) A0e) A0d rfl) rfl) rfl) rfl) rfl)) (A3f (n:=2) rfl (A0v (A0n (i:=19) A1r.nd rfl (.inl rfl)) (A0v (A0n (i:=1) A1r.nd rfl (.inl rfl)) A2k)))) (@A0g _ _ _ (@A0u _ _ _ _ (@A1o _ _ _ _ _ (@A0a _ _ _ _ _ (@A1o _ _ _ _ _ (@A0a _ _ _ _ _ (@A0z _ _ _ _ _ _ _ A1n (@A1q _ _ _ _ (@A0a _ _ _ _ _ A1h (@A0a _ _ _ _ _ A1h (@A0a _ _ _ _ _ A1h A0d rfl) rfl) rfl)) (@A0r _ _ _ _ _ _ _ _ A1x (pv 8) A0e) (λ_ _=>rfl)) (@A0a _ _ _ _ _ (pv 18) (@A0a _ _ _ _ _ (pv 19) A0d rfl) rfl) rfl)) (@A0a _ _ _ _ _ (pv 1) A0d rfl) rfl)))))) A1d) (@A0g _ _ _ (@A0u _ _ _ _ (@A1o _ _ _ _ _ (@A0a _ _ _ _ _ (pcl Gd6 hr T.ib (@A0a _ _ _ _ _ (pv 8) (@A0a _ _ _ _ _ (pv 5) (@A0a _ _ _ _ _ (pv 2) (@A0a _ _ _ _ _ (pv 6) (@A0a _ _ _ _ _ (pv 7) A0d rfl) rfl) rfl) rfl) rfl)) (@A0a _ _ _ _ _ (@A0r _ _ _ _ _ _ _ _ A2r (pv 1) A0e) A0d rfl) rfl))))))))))))) ?_;refine i02 _ rfl (i1c bk _ rfl (SqT.of hbk) rfl _ _ rfl _ _ rfl _ _ rfl ⟨rfl,?_⟩);refine i02 _ rfl (i0v _ rfl cl ns (p:Int) rfl (SqL.of hcl) (by lia) λc0=>(i0q _ rfl c0 (p:Int) rfl (by lia) (by lia) λr0=> ?_));refine i0q _ rfl _ _ rfl rfl D7i (i0q _ rfl _ _ rfl rfl ⟨by decide,by decide⟩ ?_);refine i0m _ rfl d lk rfl hlk.h λo=>λD hD=> ?_;have Dd:D≠d:=λe=>by rw [e,A0b] at hD;cases hD
  have hD0:H D=none:=by rw [A0k Dd] at hD;exact hD
  refine C0j (a:=d) (D:=D) (o:=o) (kvs:=lk) (λj ys G=>A1f (upd H d (.frz o (.dK lk))) G/\G D=some (.lst ys)/\∃zs:List Str,ys=zs.map V.str/\zs.length<=j/\∀z∈zs,z∈nm) (i00 (A0f hD) A0b (i06 [] rfl (Z09 _) (by intro z hz;cases hz))) (λj ys G ⟨sG,_⟩=>sG _ _ A0b) ?_ ?_
  ·rintro j kk vv ys G hkv ⟨sG,hG,zs,rfl,lz,mz⟩;have hj:j<lk.length:=(Z03.mp hkv).1;have ek:nm[j]?.map (Sum.inr:Str->Key)=some kk:=by rw [<-Z1z,<-hlk.ks,Z1z,hkv];rfl
   obtain ⟨x,hx,rfl⟩:=Z0i.mp ek;have lk12:lk.length=nm.length:=by rw [<-Z08 (f:=(·.1)) (as:=lk),hlk.ks,Z08]
   have l12:=hlk.l;have hsc2:G sc=some (.lst (scn.map V.str)):=sG _ _ (by rw [A0k (A3a hsc.1 hlk.h (by intro h;cases h))];exact hsc.1);refine ⟨⟨rfl,True.intro⟩,(i14 _ rfl _ rfl sc _ rfl (.inl (SqL.of hsc2)) rfl (A4u scn) _ rfl ?_)⟩;refine C4v (λ_=> ?_) (λ_=>(i00 sG hG (i06 zs rfl (by lia) mz)));refine ⟨_,(i0g rfl hG (A1l (by rw [Z08];lia)) (A0s sG hD) A0b (i06 (zs++[x]) (by rw [Z0s];rfl) (by rw [Z06];simp only [Z0y,Z2g];lia) λz hz=> ?_))⟩;rcases Z07.mp hz with hz | hz
   ·exact mz z hz
   ·rw [Z0w.mp hz];exact Z13 hx
  rintro ys G ⟨sG,hG,fre,rfl,lfre,mfre⟩;have hGd:=sG _ _ (A0b (H:=H) (a:=d) (o:= .frz o (.dK lk)));refine i0l d o lk hGd (λo' u' e=>by have e:H d=some (.frz o' u'):=e;rw [hlk.h] at e;cases e) ?_
  have s1:A1f H (upd G d (.dK lk)):=λb u e=>by
   by_cases hb:b=d
   ·rw [hb] at e⊢;rw [hlk.h] at e;rw [A0b];exact e
   ·rw [A0k hb];exact sG _ _ (by rw [A0k hb];exact e)
  have hfre:upd G d (.dK lk) D=some (.lst (fre.map V.str)):=by rw [A0k Dd];exact hG
  generalize upd G d (.dK lk)=H1 at s1 hfre;have w0:0<=r0%8/\r0%8<8:=by lia
  have f1:=fr.same s1;have hlk1:=hlk.same s1;have has1:=has.same s1;have hsc1:=hsc.same s1;have how1:=how.same s1;have de:∀a c:Int,decide (V.int a=V.int c)=decide (a=c):=λa c=>decide_eq_decide.mpr ⟨λh=>V.int.inj h,λh=>by rw [h]⟩;show C7o _ _ _ [some (.ref cl),some (.int (p:Int)),some (.ref sc),some (.ref bk),some (.int (room:Int)),some (.ref ar),some (.ref d),some ow,some (.int (r0/8)),some (.int (r0%8)),none,some (.ref D),none,none,none,none,none,none,none,none] _;dsimp only [A5w,B5r,C7o,C7q];refine C2y (d1:=decide ((0:Int)<(room:Int))) (d2:=decide (r0%8=6)) ?_ (λQ' q=>(i0m _ rfl _ _ rfl rfl (i02 _ rfl q))) (λQ' q=>(i0i _ rfl rfl _ rfl (by rw [de];exact q))) (λhF h1 h2=> ?_)
  ·refine A2u ?_;refine C2y (d1:=decide ((0:Int)<(room:Int))) (d2:=decide (r0%8=5)) ?_ (λQ' q=>(i0m _ rfl _ _ rfl rfl (i02 _ rfl q))) (λQ' q=>(i0i _ rfl rfl _ rfl (by rw [de];exact q))) (λhF h1 h2=> ?_)
   ·refine A2u ?_;refine C2y (d1:=decide ((0:Int)<(room:Int))) (d2:=decide (2<r0%8)) ?_ (λQ' q=>(i0m _ rfl _ _ rfl rfl (i02 _ rfl q))) (λQ' q=>(i0m _ rfl _ _ rfl rfl (i02 _ rfl q))) (λhF h1 h2=> ?_)
    ·refine A2u ?_;refine i0c _ rfl _ rfl (i0c _ rfl _ rfl (i0n _ rfl _ ar sc d (i11 ow es scn lk S rfl has1 hsc1 hlk1.h how1 ⟨f1,λv' u' H2 s2 rp wu tu du=> ?_⟩)));refine i0q _ rfl _ _ rfl rfl (A0q rfl) λtp htp=> ?_;have sT:=A0f (o:= .tup [v',.int ((p:Int)+1)]) htp;exact k tp v' u' (p+1) _ (s1.trans (s2.trans sT)) A0b (rp.same (A0h sT)) wu tu (by lia) (by lia) (by lia)
    ·obtain ⟨ro,rfl⟩:∃ro,room=ro+1:=⟨room-1,by have:=of_decide_eq_true h1;lia⟩;have er:(((ro+1:Nat):Int)-1)=(ro:Int):=by lia
     have gp:=C1g ro;have pb:p+(2*gw ro+1)<=1000:=pb;refine i0m _ rfl _ _ rfl rfl (i02 _ rfl ?_);by_cases hc:r0%8<5
     ·rw [Z20 hc];refine A5h (i0u _ rfl _ rfl _ _ rfl rfl (i0z _ rfl _ rfl _ rfl _ _ rfl rfl ?_));refine hs cl sc bk ar d (p+1) ro ow ns es scn nm lk S H1 _ (s1 _ _ hcl) (by lia) hsc1 (by lia) (s1 _ _ hbk) has1 hlk1 how1 (by lia) f1 _ _ (by lia) (by lia) λt1 v1 u1 p1 H2 s2 h2 rp1 wu1 tu1 du1 lo1 hi1=> ?_;have s12:=s1.trans s2;refine i17 t1 _ rfl (SqT.of h2) rfl _ _ rfl _ _ rfl rfl ?_;refine i0c _ rfl _ rfl (i0z _ rfl _ rfl _ rfl _ _ rfl rfl (hs cl sc bk ar d p1 ro ow ns es scn nm lk S H2 _ (s12 _ _ hcl) (by lia) (hsc.same s12) (by lia) (s12 _ _ hbk) (has.same s12) (hlk.same s12) (how.same s12) (by lia) (fr.same s12) _ _ (by lia) (by lia) λt2 v2 u2 p2 H3 s3 h3 rp2 wu2 tu2 du2 lo2 hi2=> ?_));have s13:=s12.trans s3;have f3:=fr.same s13;obtain ⟨op,eop⟩:=D3b (r0/8);refine i17 t2 _ rfl (SqT.of h3) rfl _ _ rfl _ _ rfl rfl ?_;refine ⟨A0q rfl,λll hll=>(i0q _ rfl _ _ rfl rfl D0g (i0w ll _ _ _ rfl rfl (SqL.of A0b) eop (i0j _ rfl _ rfl (A0q rfl) λq1 hq1=>(i06 _ rfl (A0q rfl) λq2 hq2=> ?_))))⟩;have sA:=A0f (o:= .lst [.str "plus",.str "minus",.str "times"]) hll;have sB:=A0f (o:= .tup [.str (opS op),v1,v2]) hq1;have sC:=A0f (o:= .tup [.ref q1,.int (p2:Int)]) hq2;have sAC:=sA.trans (sB.trans sC);have gr:gw (ro+1)=2*gw ro+1:=rfl;refine k q2 (.ref q1) (.pair op u1 u2) p2 _ (s13.trans sAC) A0b (B2w (A0i (f3 q1 (sA.free hq1)) (sC _ _ A0b)) ((rp1.same (A0h s3)).same (A0h sAC)) (rp2.same (A0h sAC))) ⟨wu1,wu2⟩ ⟨tu1,tu2⟩ ?_ (by lia) (by lia);simp only [dep]
      lia
     ·rw [Z1j hc];exact hF
   ·obtain ⟨ro,rfl⟩:∃ro,room=ro+1:=⟨room-1,by have:=of_decide_eq_true h1;lia⟩;have gp:=C1g ro;have pb:p+(2*gw ro+1)<=1000:=pb;refine i0m _ rfl sc _ rfl (.inl (SqL.of hsc1.1)) ⟨_,(i0i _ rfl rfl _ rfl ?_)⟩;by_cases hc:(0:Int)<((scn.map V.str).length:Int)
    ·rw [Z20 hc];obtain ⟨x,hx,ex⟩:=A5u (f:=V.str) (xs:=scn) (i:=r0/8%((scn.map V.str).length:Int)) (Z1v _ (by lia)) (by have:=Z1p (r0/8) hc;rw [Z08] at this⊢;exact this);have mx:=Z13 hx;obtain ⟨nn,vn,n1,n60⟩:=hsc.2.2.2 x mx;have nx:=(hsc.2.2.1 x mx).1;have dg:=B8e.k (H:=H1) (a:=d) (k:=Sum.inr x) hlk1.h;rw [vn] at dg;refine A5h (i0z _ rfl _ rfl _ rfl sc _ rfl (.inl (SqL.of hsc1.1)) (i0k _ _ rfl rfl hc (i0w sc _ _ _ rfl rfl (SqL.of hsc1.1) ex ?_)));refine i0q _ rfl _ _ rfl rfl ⟨by decide,by decide⟩ (i0u _ rfl _ rfl d _ rfl dg (i0d _ _ rfl rfl (i0x _ _ rfl rfl (by show (0:Int)<nn+2;lia) _ _ rfl rfl ?_)));refine i0u _ rfl _ rfl _ _ rfl rfl ⟨⟨by decide,by decide⟩,(i0u _ rfl _ rfl d _ rfl dg (i0d _ _ rfl rfl (i0x _ _ rfl rfl (by show (0:Int)<nn+1;lia) _ _ rfl rfl ?_)))⟩;have z1:=Z1v (r0/8/7) (show nn+2≠0 by lia);have z2:=Z1p (r0/8/7) (show 0<nn+2 by lia);have z3:=Z1v (r0/8/77) (show nn+1≠0 by lia);have z4:=Z1p (r0/8/77) (show 0<nn+1 by lia);have e29:((10:Int)^(29:Int).toNat)=100000000000000000000000000000:=by decide +kernel
     refine i02 (λZ H6=>H1=H6/\∃(lo hi:Int),Z=[Sro cl,Sio (p:Int),Sro sc,Sro bk,Sio ((ro+1:Nat):Int),Sro ar,Sro d,some ow,Sio (r0/8),Sio (r0%8),Sso x,Sro D,none,none,none,Sio lo,Sio hi,none,none,none]/\Sm lo/\Sm hi) ?_ ?_
     ·refine i0q _ rfl _ _ rfl rfl ⟨by decide,by decide⟩ (i0k _ _ rfl rfl D9f (i05 rfl _ rfl (C4v (λ_=> ?_) (λ_=>(i0h rfl _ _ rfl (A9x (by lia) (by lia)) (A9x (by lia) (by lia)))))));refine i0q _ rfl _ _ rfl rfl (i00 (by decide) (by decide) (by decide)) (i0x _ _ rfl rfl rfl _ _ rfl (A9x (by lia) (by lia)) (A9x ?_ ?_))
      ·rw [e29];lia
      ·rw [e29];lia
     rintro Z H6 ⟨rfl,lo,hi,rfl,slo,shi⟩;refine i0u _ rfl _ rfl _ _ rfl rfl (i0z _ rfl _ rfl _ rfl _ _ rfl rfl ?_);refine hs cl sc bk ar d (p+1) ro ow ns es scn nm lk S H1 _ (s1 _ _ hcl) (by lia) hsc1 (by lia) (s1 _ _ hbk) has1 hlk1 how1 (by lia) f1 _ _ (by lia) (by lia) λt1 v1 u1 p1 H2 s2 h2 rp1 wu1 tu1 du1 lo1 hi1=> ?_;have s12:=s1.trans s2;refine i17 t1 _ rfl (SqT.of h2) rfl _ _ rfl _ _ rfl rfl ?_;refine i0c _ rfl _ rfl (i0z _ rfl _ rfl _ rfl _ _ rfl rfl (hs cl sc bk ar d p1 ro ow ns es scn nm lk S H2 _ (s12 _ _ hcl) (by lia) (hsc.same s12) (by lia) (s12 _ _ hbk) (has.same s12) (hlk.same s12) (how.same s12) (by lia) (fr.same s12) _ _ (by lia) (by lia) λt2 v2 u2 p2 H3 s3 h3 rp2 wu2 tu2 du2 lo2 hi2=> ?_));have s13:=s12.trans s3;have f3:=fr.same s13;refine i17 t2 _ rfl (SqT.of h3) rfl _ _ rfl _ _ rfl rfl ?_;have rq:=rp1.same (A0h s3);refine i02 (λZ G=>∃(vo:V) (uo:Tm),Z=[Sro cl,Sio (p2:Int),Sro sc,Sro bk,Sio ((ro+1:Nat):Int),Sro ar,Sro d,some ow,Sio (r0/8),Sio (r0%8),Sso x,Sro D,none,none,some v1,Sio lo,Sio hi,some vo,none,none]/\A1f H3 G/\Rep (A1a S G) vo (A1t uo)/\TmW uo/\TmL lk uo/\dep uo<=5+3*ro) ?_ ?_
     ·refine i0q _ rfl _ _ rfl rfl ⟨by decide,by decide⟩ (i0k _ _ rfl rfl D0g (i05 rfl _ rfl (C4v (λ_=> ?_) (λ_=>(i0r v2 u2 rfl (A1f.refl _) rp2 wu2 tu2 (by lia))))));refine i0j _ rfl _ rfl (A0q rfl) λq1 hq1=> ?_;have sB:=A0f (o:= .tup [.str "plus",v2,v1]) hq1;exact i0r (.ref q1) (.pair .plus u2 u1) rfl sB (B2w (A0i (f3 q1 hq1) A0b) (rp2.same (A0h sB)) (rq.same (A0h sB))) ⟨wu2,wu1⟩ ⟨tu2,tu1⟩ (by simp only [dep];lia)
     rintro Z G zz;refine e06 zz ?_;clear zz;rintro vo uo rfl sG rpo ⟨wuo,tuo,duo⟩;have fG:=f3.same sG;refine i02 _ rfl (i0c _ rfl _ rfl (i0j _ rfl _ rfl (A0q rfl) λq1 hq1=>(i06 _ rfl (A0q rfl) λq2 hq2=> ?_)));have sB:=A0f (o:= .tup [.str "guard",.str x,.int lo,.int hi,v1,vo]) hq1;have sC:=A0f (o:= .tup [.ref q1,.int (p2:Int)]) hq2;have sBC:=sB.trans sC;have gr:gw (ro+1)=2*gw ro+1:=rfl;refine k q2 (.ref q1) (.guard x lo hi u1 uo) p2 _ (s13.trans (sG.trans sBC)) A0b (A5z (A0i (fG q1 hq1) (sC _ _ A0b)) ((rq.same (A0h sG)).same (A0h sBC)) (rpo.same (A0h sBC))) (i08 nx slo shi wu1 wuo) (i00 (dk1 vn n1 n60) tu1 tuo) ?_ (by lia) (by lia);simp only [dep]
     lia
    ·rw [Z1j hc];exact hF
  ·obtain ⟨ro,rfl⟩:∃ro,room=ro+1:=⟨room-1,by have:=of_decide_eq_true h1;lia⟩;have gp:=C1g ro;have pb:p+(2*gw ro+1)<=1000:=pb;have gr:gw (ro+1)=2*gw ro+1:=rfl;refine i0m _ rfl D _ rfl (.inl (SqL.of hfre)) ⟨_,(i0i _ rfl rfl _ rfl ?_)⟩;by_cases hc:(0:Int)<((fre.map V.str).length:Int)
   ·rw [Z20 hc];obtain ⟨x,hx,ex⟩:=A5u (f:=V.str) (xs:=fre) (i:=r0/8%((fre.map V.str).length:Int)) (Z1v _ (by lia)) (by have:=Z1p (r0/8) hc;rw [Z08] at this⊢;exact this);have mx:=mfre x (Z13 hx);obtain ⟨y,hy,ey⟩:=A5u (f:=V.str) (xs:=fre) (i:=(r0/8+1)%((fre.map V.str).length:Int)) (Z1v _ (by lia)) (by have:=Z1p (r0/8+1) hc;rw [Z08] at this⊢;exact this);have my:=mfre y (Z13 hy);have dkx:B4r lk [x]:=λz hz=>by rw [Z0w.mp hz];exact hlk.dk x mx
    have dky:B4r lk [y]:=λz hz=>by rw [Z0w.mp hz];exact hlk.dk y my
    refine A5h (i0z _ rfl _ rfl _ rfl D _ rfl (.inl (SqL.of hfre)) (i0k _ _ rfl rfl hc (i0w D _ _ _ rfl rfl (SqL.of hfre) ex ?_)));refine i0u _ rfl _ rfl _ _ rfl rfl (i0j _ rfl _ rfl (A0q rfl) λzl hzl=>(i0y sc zl _ _ rfl rfl ((A0f hzl) _ _ hsc1.1) A0b (A1k (by simp;lia)) λc2 hc2=> ?_));have s5:=(A0f (o:= .lst [.str x]) hzl).trans (A0f (o:= .lst (scn.map V.str++[V.str x])) hc2);have hcc:upd (upd H1 zl (.lst [.str x])) c2 (.lst (scn.map V.str++[V.str x])) c2=some (.lst ((scn++[x]).map V.str)):=by rw [A0b,Z0s];rfl
    generalize upd (upd H1 zl (.lst [.str x])) c2 (.lst (scn.map V.str++[V.str x]))=H5 at s5 hcc;refine i0j _ rfl _ rfl (A0q rfl) λtb htb=> ?_;have sT:=A0f (o:= .tup [.ref ar,.ref d,.non]) htb;have eT:upd H5 tb (.tup [.ref ar,.ref d,.non]) tb=some (.tup [.ref ar,.ref d,.non]):=A0b;generalize upd H5 tb (.tup [.ref ar,.ref d,.non])=H6 at sT eT;have s6:=s1.trans (s5.trans sT);refine i0m _ rfl _ _ rfl rfl ?_;refine hs cl c2 tb ar d (p+1) ro .non ns es (scn++[x]) nm lk S H6 _ (s6 _ _ hcl) (by lia) (.add (sT _ _ hcc) hsc.2.2.1 hsc.2.2.2 (by simp;lia) hlk.hn hlk.dk λz hz=>by rw [Z0w.mp hz];exact mx) (by simp;lia) eT (has.same s6) (hlk.same s6) (.inl rfl) (by lia) (fr.same s6) _ _ (by lia) (by lia) λt1 v1 u1 p1 H2 s2 h2 rp1 wu1 tu1 du1 lo1 hi1=> ?_;have s02:=s6.trans s2;have hfre2:=s2 _ _ (sT _ _ (s5 _ _ hfre));refine i17 t1 _ rfl (SqT.of h2) rfl _ _ rfl _ _ rfl rfl ?_;refine i0u _ rfl _ rfl _ _ rfl rfl (i0m _ rfl D _ rfl (.inl (SqL.of hfre2)) (i0k _ _ rfl rfl hc (i0w D _ _ _ rfl rfl (SqL.of hfre2) ey ?_)));have f2:=fr.same s02;refine i02 (λZ G=>∃(vb:V) (ub:Tm) (oi:Option V),Z=[Sro cl,Sio (p1:Int),Sro sc,Sro bk,Sio ((ro+1:Nat):Int),Sro ar,Sro d,some ow,Sio (r0/8),Sio (r0%8),Sso x,Sro D,some vb,Sso y,oi,none,none,none,none,none]/\A1f H2 G/\Rep (A1a S G) vb (A1t ub)/\TmW ub/\TmL lk ub/\dep ub<=6+3*ro) ?_ ?_
    ·refine C6t (λb=> ?_) (λQ' q=>(i0q _ rfl _ _ rfl rfl ⟨by decide,by decide⟩ (i0k _ _ rfl rfl D0g (i05 rfl _ rfl q)))) (λQ' q=>(i02 _ rfl (i0i _ rfl rfl _ rfl q)))
     cases b with
     | false=>exact A2u ⟨v1,(i0r u1 none rfl (A1f.refl _) rp1 wu1 tu1 (by lia))⟩
     | true =>
      refine A5h (i0q _ rfl _ _ rfl rfl ⟨by decide,by decide⟩ (i0c _ rfl _ rfl (i0j _ rfl _ rfl (A0q rfl) λzl hzl=>(i0y sc zl _ _ rfl rfl ((A0f hzl) _ _ (s02 _ _ hsc.1)) A0b (A1k (by simp;lia)) λc3 hc3=> ?_))));have s7:=(A0f (o:= .lst [.str x,.str y]) hzl).trans (A0f (o:= .lst (scn.map V.str++[V.str x,V.str y])) hc3);have hc7:upd (upd H2 zl (.lst [.str x,.str y])) c3 (.lst (scn.map V.str++[V.str x,V.str y])) c3=some (.lst ((scn++[x,y]).map V.str)):=by rw [A0b,Z0s];rfl
      generalize upd (upd H2 zl (.lst [.str x,.str y])) c3 (.lst (scn.map V.str++[V.str x,V.str y]))=H7 at s7 hc7;have s07:=s02.trans s7;refine i0n _ rfl _ ar c3 d (i11 .non es (scn++[x,y]) lk S rfl (has.same s07) (.add hc7 hsc.2.2.1 hsc.2.2.2 (by simp;lia) hlk.hn hlk.dk (λz hz=> ?_)) ((hlk.same s07).h) (.inl rfl) ⟨fr.same s07,λv2 u2 G2 sg2 rp2 wu2 tu2 du2=> ?_⟩)
      ·rcases Z0e.mp hz with hz | hz
       ·rw [hz];exact mx
       ·rw [Z0w.mp hz];exact my
      have s08:=s07.trans sg2;refine i0z _ rfl _ rfl _ rfl _ _ rfl rfl ⟨⟨by decide,by decide⟩,(i0n _ rfl y v2 _ d (i0y u2 lk S 4 rfl ((hlk.hn y my).1) dky ((hlk.same s08).h) (fr.same s08) (i0g rp2 wu2 tu2 du2 (by decide) λv3 u3 G3 sg3 rp3 wu3 tu3 du3=> ?_)))⟩;have s09:=s08.trans sg3;have f9:=fr.same s09;have s29:=s7.trans (sg2.trans sg3);obtain ⟨op,eop⟩:=D3b (r0/8/11);refine ⟨A0q rfl,λll hll=>(i0q _ rfl _ _ rfl rfl ⟨by decide,by decide⟩ (i0k _ _ rfl rfl D0g (i0w ll _ _ _ rfl rfl (SqL.of A0b) eop (i0j _ rfl _ rfl (A0q rfl) λq1 hq1=> ?_))))⟩;have sA:=A0f (o:= .lst [.str "plus",.str "minus",.str "times"]) hll;have sB:=A0f (o:= .tup [.str (opS op),v1,v3]) hq1;have sAB:=sA.trans sB;exact ⟨.ref q1,(i0r (.pair op u1 u3) _ rfl (s29.trans sAB) (B2w (A0i (f9 q1 (sA.free hq1)) A0b) (rp1.same (A0h (s29.trans sAB))) (rp3.same (A0h sAB))) ⟨wu1,wu3⟩ ⟨tu1,tu3⟩ (by simp only [dep];lia))⟩
    rintro Z G zz;refine e09 zz ?_;clear zz;rintro vb ub oi rfl sG rpb ⟨wub,tub,dub⟩;have s0G:=s02.trans sG;refine i0z _ rfl _ rfl _ rfl _ _ rfl rfl ⟨⟨by decide,by decide⟩,(i0n _ rfl x vb _ d (i0y ub lk S (6+3*ro) rfl ((hlk.hn x mx).1) dkx ((hlk.same s0G).h) (fr.same s0G) (i0g rpb wub tub dub (by lia) λv4 u4 G4 sg4 rp4 wu4 tu4 du4=>(i06 _ rfl (A0q rfl) λq2 hq2=> ?_))))⟩;have sC:=A0f (o:= .tup [v4,.int (p1:Int)]) hq2;exact k q2 v4 u4 p1 _ (s0G.trans (sg4.trans sC)) A0b (rp4.same (A0h sC)) wu4 tu4 (by lia) (by lia) (by lia)
   ·rw [Z1j hc];exact hF
theorem C4e (T:Txt K mg t):∀n:Nat,A2y P w K mg base CX0 (n+5) t.q4 t.ox C2r (B9b n)
 | 0=>B7q T (m:=4) (sp':=λ_ _ _ _=>False) (by decide) (A2y.none λ_ _ _ _ h=>h) λ_ _ _ _ _ _ _ _ _ _ _ _ _ _ _ _ _ _ _ _ _ _ _ _ h=>absurd h (by lia)
 | n+1=>B7q T (m:=n+5) (by lia) (C4e T n) λcl sc bk ar d p room ow ns es scn nm lk S H Q a1 a2 a3 a4 a5 a6 a7 a8 a9 a10 pa ra e1 e2 q=>by
  subst e1 e2;exact i0f cl sc bk ar (i0f d p room ow (i1b ns es scn nm lk S rfl a1 a2 a3 a4 a5 a6 (i08 a7 a8 (by lia) a10 q)))
def c60:Nat->Int
 | 0=>1
 | n+1=>c60 n*60
theorem D5y (h:n<=5):c60 n<=777600000:=by
 have h:n=0\/n=1\/n=2\/n=3\/n=4\/n=5:=by lia
 rcases h with rfl | rfl | rfl | rfl | rfl | rfl <;> decide
theorem B0j.le {z:Int} (h:B0j lk ys z):B4r lk ys->1<=z/\z<=c60 ys.length:=by
 induction h with
 | nil=>intro _;exact ⟨by decide,by decide⟩
 | @snoc ys y z n a b ih =>
  intro dk;obtain ⟨i1,i2⟩:=ih λx hx=>dk x (Z07.mpr (.inl hx));obtain ⟨m,e,m1,m2⟩:=dk y (by simp);rw [b] at e;cases e;rw [Z06];have h1:=Int.mul_le_mul i1 m1 (by lia) (by lia);have h2:=Int.mul_le_mul i2 m2 (by lia) (by lia);exact ⟨by lia,h2⟩
def TrB (S:Addr->Prop) (lk:List (Key×V)) (n:Nat) (H:Hp) (v:V):Prop:=∃u,Rep (A1a S H) v (A1t u)/\TmW u/\TmL lk u/\dep u<=n/\nod u<=120
theorem TrB.mono {S':Addr->Prop} {n':Nat} (h:TrB S lk n H v) (s:A1f H H') (hs:∀a o,H a=some o->S a->S' a) (hn:n<=n'):TrB S' lk n' H' v:=by
 obtain ⟨u,r,w,t,d,k⟩:=h;exact ⟨u,(i08 (r.same (A3b s hs)) w t (by lia) k)⟩
theorem TrB.same (h:TrB S lk n H v) (s:A1f H H'):TrB S lk n H' v:=h.mono s (λ_ _ _ q=>q) (Z09 _)
theorem TrB.lst (h:TrB S lk n H v) (hl:¬S l):TrB S lk n (upd H l o) v:=by
 obtain ⟨u,r,w,t,d,k⟩:=h;exact ⟨u,(i08 (r.same (A2o (A1f.refl _) hl)) w t d k)⟩
theorem tOr2 (e1:∀Q':Bool->Hp->Prop,Q' d1 H->t1 Z H Q') (e2:∀Q':Bool->Hp->Prop,Q' d2 H->t2 Z H Q') (h:Q (d1||d2) H):tOr t1 t2 Z H Q:=by
 refine e1 _ ?_
 cases d1 with
 | true=>exact h
 | false=>exact A2u (e2 _ h)
def LbI (S:Addr->Prop) (lk:List (Key×V)) (H:Hp) (cl sc bk rl:Addr) (most z:Int) (m:Nat) (Z:St) (H2:Hp):Prop:=∃(vs:List V) (p:Nat) (o7:Option V),Z=[Sro cl,Sro sc,Sro bk,Sio most,Sio z,Sro rl,Sio (p:Int),o7,none,none,none]/\A1f H H2/\H2 rl=some (.lst vs)/\vs.length<=16/\p<=7*vs.length/\(∀v∈vs,TrB S lk 10 H2 v)/\m=16-vs.length
def LbJ (S:Addr->Prop) (lk:List (Key×V)) (H:Hp) (cl sc bk:Addr) (most z:Int) (p:Nat) (m:Nat) (Z:St) (H2:Hp):Prop:=∃(l:Addr) (vs:List V) (o7 o8 o9 o10:Option V) (S':Addr->Prop),Z=[Sro cl,Sro sc,Sro bk,Sio most,Sio z,Sro l,Sio (p:Int),o7,o8,o9,o10]/\A1f H H2/\H2 l=some (.lst vs)/\Fr S' H2/\(∀a,S' a->S a)/\1<=vs.length/\vs.length<=2^m/\m<=4/\∀v∈vs,TrB S' lk (14-m) H2 v
def C0z:Sp:=λvs H Q _=>∃(cl sc bk ar d:Addr) (ow:V) (most:Int) (ns:List Int) (es:List (Str×List Str)) (scn nm:List Str) (lk:List (Key×V)) (S:Addr->Prop),vs=[.ref cl,.ref sc,.ref bk,.int most]/\H cl=some (.lst (ns.map V.int))/\C7g H lk sc scn/\scn.length<=5/\H bk=some (.tup [.ref ar,.ref d,ow])/\C9w H lk ar es/\D2n H d lk nm/\D2r H lk ow/\most<=120/\Fr S H/\
 ∀(v':V) (u':Tm) (H':Hp),A1f H H'->Rep (A1a S H') v' (A1t u')->TmW u'->TmL lk u'->dep u'<=14->nod u'<=120->Q v' H'
theorem D0b {z w most:Int} (z1:1<=z) (h:(n:Int)<=w) (hm:most<=120) (hc:¬most<z*w):n<=120:=by
 have:0<=(z-1)*w:=Int.mul_nonneg (by lia) (by lia);rw [Int.sub_mul,Int.one_mul] at this
 lia
theorem C0d (T:Txt K mg t):FO P w base T.ng 25 C0z:=by
 have Gc7:= @B3k P w K mg base t T;have Gc8:= @A8n P w K mg base t T;have Gd5:= @A6c P w K mg base t T;have Gc9:= @A4o P w K mg base t T;have Gd4:= @C4e P w K mg base t T 2;have Gd3:= @B8y P w K mg base t T 23;refine T.ng.F.ok A2m (λvs H Q E h=> ?_) λ_ A _ s H _ Q E hr h=> ?_
 ·refine e0f h ?_;clear h;rintro cl sc bk ar d ow most ns es ⟨scn,nm,lk,S,rfl,_⟩;rfl
 ·refine e0f h ?_;clear h;rintro cl sc bk ar d ow most ns es ⟨scn,nm,lk,S,rfl,hcl,hsc,lsc,hbk,has,hlk,how,hmo,fr,k⟩;refine i02 _ (@A0c _ _ _ _ _ (@A0l _ _ 4 _ _ _ _ A2m.nd rfl (.inl rfl) (pcl Gc7 hr T.lj (@A0a _ _ _ _ _ (pv 1) (@A0a _ _ _ _ _ (@A0z _ _ _ _ _ _ _ A0w (pv 2) A0e (λ_ _=>rfl)) A0d rfl) rfl)) rfl (by first | exact Or.inl rfl | exact Or.inr rfl | assumption)) (@A0c _ _ _ _ _ (@A0l _ _ 5 _ _ _ _ A2m.nd rfl (.inl rfl) (@A1q _ _ _ _ A0d) rfl (by first | exact Or.inl rfl | exact Or.inr rfl | assumption)) (@A0c _ _ _ _ _ (@A0l _ _ 6 _ _ _ _ A2m.nd rfl (.inl rfl) A0e rfl (by first | exact Or.inl rfl | exact Or.inr rfl | assumption)) (@A0c _ _ _ _ _ (@A6r _ _ _ _ _ _ PassesOwn.never (PW.pt (B0f (@A0o _ _ _ _ _ _ _ _ A2j (A0y A0x (by rfl) T.bf Z0r (@A0a _ _ _ _ _ (pv 5) A0d rfl)) A0e (A1e _)) (A9y (PW.pt (A3n (@A0o _ _ _ _ _ _ _ _ C0m (pv 6) (A0y A0x (by rfl) T.bf Z0r (@A0a _ _ _ _ _ (pv 0) A0d rfl)) (A1e _)) (A3w (@A0o _ _ _ _ _ _ _ _ C0m (A0y A0x (by rfl) T.bf Z0r (@A0a _ _ _ _ _ (pv 5) A0d rfl)) A0e (A1e _)))))))) (@A0c _ _ _ _ _ (A8z (pcl Gd4 hr T.gj (@A0a _ _ _ _ _ (pv 0) (@A0a _ _ _ _ _ (pv 6) (@A0a _ _ _ _ _ (pv 1) (@A0a _ _ _ _ _ (pv 2) (@A0a _ _ _ _ _ A0e A0d rfl) rfl) rfl) rfl) rfl)) (A3f (n:=2) rfl (A0v (A0n (i:=7) A2m.nd rfl (.inl rfl)) (A0v (A0n (i:=6) A2m.nd rfl (.inl rfl)) A2k)))) (@A4k _ _ _ _ _ (@A1z _ _ _ _ _ _ _ _ (@A0o _ _ _ _ _ _ _ _ A7n (@A0r _ _ _ _ _ _ _ _ A8w (pv 4) (pcl Gd3 hr T.dz (@A0a _ _ _ _ _ (pv 7) (@A0a _ _ _ _ _ (@A0z _ _ _ _ _ _ _ A0w (pv 2) A0e (λ_ _=>rfl)) A0d rfl) rfl))) (pv 3) (A1e _)) (@A0g _ _ _ (@A0l _ _ 7 _ _ _ _ A2m.nd rfl (.inl rfl) (@A1o _ _ _ _ _ (@A0a _ _ _ _ _ A1h (@A0a _ _ _ _ _ (pcl Gc9 hr T.ci (@A0a _ _ _ _ _ (pcl Gc8 hr T.gc (@A0a _ _ _ _ _ (pcl Gd5 hr T.ay (@A0a _ _ _ _ _ (pv 0) (@A0a _ _ _ _ _ (pv 6) A0d rfl) rfl)) (@A0a _ _ _ _ _ (pv 6) A0d rfl) rfl)) A0d rfl)) A0d rfl) rfl)) rfl (by first | exact Or.inl rfl | exact Or.inr rfl | assumption))) A1d) (@A0g _ _ _ (A2t (A5g Z0k Z0n Z0o A2d (pv 5) (@A0a _ _ _ _ _ (pv 7) A0d rfl))))))) (@A0c _ _ _ _ _ (@A6r _ _ _ _ _ _ PassesOwn.never (@A0o _ _ _ _ _ _ _ _ A7n (A0y A0x (by rfl) T.bf Z0r (@A0a _ _ _ _ _ (pv 5) A0d rfl)) A0e (A1e _)) (@A0c _ _ _ _ _ (@A0l _ _ 8 _ _ _ _ A2m.nd rfl (.inl rfl) (@A1q _ _ _ _ A0d) rfl (by first | exact Or.inl rfl | exact Or.inr rfl | assumption)) (@A0c _ _ _ _ _ (A3d PassesOwn.never rfl (B8l rfl T.cr (@A0a _ _ _ _ _ A0e (@A0a _ _ _ _ _ (@A0r _ _ _ _ _ _ _ _ A4f (A0y A0x (by rfl) T.bf Z0r (@A0a _ _ _ _ _ (pv 5) A0d rfl)) A0e) (@A0a _ _ _ _ _ A0e A0d rfl) rfl) rfl)) (A0n (i:=9) A2m.nd rfl (.inl rfl)) (@A0c _ _ _ _ _ (@A0l _ _ 10 _ _ _ _ A2m.nd rfl (.inl rfl) (@A1o _ _ _ _ _ (@A0a _ _ _ _ _ (@A0z _ _ _ _ _ _ _ A1n (@A1q _ _ _ _ (@A0a _ _ _ _ _ A1h (@A0a _ _ _ _ _ A1h (@A0a _ _ _ _ _ A1h A0d rfl) rfl) rfl)) (@A0r _ _ _ _ _ _ _ _ A1x (@A0r _ _ _ _ _ _ _ _ A2r (pv 9) (A0y A0x (by rfl) T.bf Z0r (@A0a _ _ _ _ _ (pv 5) A0d rfl))) A0e) (λ_ _=>rfl)) (@A0a _ _ _ _ _ (@A0z _ _ _ _ _ _ _ A1n (pv 5) (pv 9) (λ_ _=>rfl)) (@A0a _ _ _ _ _ (@A0z _ _ _ _ _ _ _ A1n (pv 5) (@A0r _ _ _ _ _ _ _ _ A2r (pv 9) A0e) (λ_ _=>rfl)) A0d rfl) rfl) rfl)) rfl (by first | exact Or.inl rfl | exact Or.inr rfl | assumption)) (@A4k _ _ _ _ _ (@A1z _ _ _ _ _ _ _ _ (@A0o _ _ _ _ _ _ _ _ A7n (@A0r _ _ _ _ _ _ _ _ A8w (pv 4) (pcl Gd3 hr T.dz (@A0a _ _ _ _ _ (pv 10) (@A0a _ _ _ _ _ (@A0z _ _ _ _ _ _ _ A0w (pv 2) A0e (λ_ _=>rfl)) A0d rfl) rfl))) (pv 3) (A1e _)) (@A0g _ _ _ (@A0l _ _ 10 _ _ _ _ A2m.nd rfl (.inl rfl) (@A0z _ _ _ _ _ _ _ A1n (pv 5) (pv 9) (λ_ _=>rfl)) rfl (by first | exact Or.inl rfl | exact Or.inr rfl | assumption))) A1d) (@A0g _ _ _ (A2t (A5g Z0k Z0n Z0o A2d (pv 8) (@A0a _ _ _ _ _ (pv 10) A0d rfl))))))) (@A4k _ _ _ _ _ (@A1z _ _ _ _ _ _ _ _ (@A0o _ _ _ _ _ _ _ _ A2j (@A0r _ _ _ _ _ _ _ _ A1x (A0y A0x (by rfl) T.bf Z0r (@A0a _ _ _ _ _ (pv 5) A0d rfl)) A0e) A0e (A1e _)) (@A0g _ _ _ (A2t (A5g Z0k Z0n Z0o A2d (pv 8) (@A0a _ _ _ _ _ (@A0z _ _ _ _ _ _ _ A1n (pv 5) (B7a B1s A0e) (λ_ _=>rfl)) A0d rfl)))) A1d) (@A0g _ _ _ (@A0l _ _ 5 _ _ _ _ A2m.nd rfl (.inl rfl) (pv 8) rfl (by first | exact Or.inl rfl | exact Or.inr rfl | assumption))))))) (@A0g _ _ _ (@A0u _ _ _ _ (@A0z _ _ _ _ _ _ _ A1n (pv 5) A0e (λ_ _=>rfl))))))))) ?_;refine i15 _ rfl _ rfl bk _ _ _ rfl rfl (SqT.of hbk) rfl (i0w sc d scn lk rfl hsc.1 hlk.h hsc.2.2.2 λz z1 mo=> ?_);have zb:=Int.le_trans (mo.le hsc.2.2.2).2 (D5y lsc);refine ⟨A0q rfl,λrl hrl=> ?_⟩;have s1:=A0f (o:= .lst []) hrl;refine i02 (LbI (λb=>S b/\b≠rl) lk H cl sc bk rl most z) (i0y 16 [] 0 none rfl s1 A0b (by decide) (by decide) ⟨(λv hv=>by cases hv),rfl⟩) ?_;rintro m Z H2 zz;refine e09 zz ?_;clear zz;rintro vs p o7 rfl s2 h2 ⟨lvs,lp,hvs,rfl⟩;have fr1:∀{G:Hp},A1f H2 G->Fr (λb=>S b/\b≠rl) G:=λ{G} s b hb=>⟨fr b ((s2.trans s).free hb),λe=>by rw [e,s _ _ h2] at hb;cases hb⟩;have dl:∀{α:Type} (xs:List α),decide (V.int (xs.length:Int)=V.int 0)=decide (xs.length=0):=λxs=>decide_eq_decide.mpr ⟨λh=>by have:=V.int.inj h;lia,λh=>by rw [h];rfl⟩;refine tOr2 (d1:=decide (vs.length=0)) (d2:=decide ((p:Int)<((ns.map V.int).length:Int))&&decide ((vs.length:Int)<16)) (λQ' q=>(i0m _ rfl rl _ rfl (.inl (SqL.of h2)) (i05 rfl _ rfl (by rw [dl];exact q)))) (λQ' q=>B6b (d1:=decide ((p:Int)<((ns.map V.int).length:Int))) (d2:=decide ((vs.length:Int)<16)) (λQ' q=>(i0u _ rfl _ rfl cl _ rfl (.inl (SqL.of (s2 _ _ hcl))) ⟨_,(i0i _ rfl rfl _ rfl q)⟩)) (λQ' q=>(i0m _ rfl rl _ rfl (.inl (SqL.of h2)) ⟨_,(i0i _ rfl rfl _ rfl q)⟩)) q) ?_
  cases hb:(decide (vs.length=0)||(decide ((p:Int)<((ns.map V.int).length:Int))&&decide ((vs.length:Int)<16))) with
  | true =>
   have lv:vs.length<16:=by
    simp only [Bool.or_eq_true,Z1x,decide_eq_true_eq] at hb
    lia
   refine A5h (i02 (λZ' H'=>∃m',m'<16-vs.length/\LbI (λb=>S b/\b≠rl) lk H cl sc bk rl most z m' Z' H') (λZ' H' z=>z) ?_);refine i02 _ rfl (i0c _ rfl _ rfl (i0n _ rfl cl sc bk ar (i0f d p 2 ow (i1b ns es scn nm lk (λb=>S b/\b≠rl) rfl (s2 _ _ hcl) (by show p+7<=1000;lia) (hsc.same s2) (by lia) (s2 _ _ hbk) (has.same s2) (i08 (hlk.same s2) (how.same s2) (Z09 _) (fr1 (A1f.refl _)) λtp tv u' p' H3 s3 e3 rp wu tu du lo hi=> ?_)))));have hi:p'<=p+7:=hi;have du:dep u'<=10:=du;have s23:=s2.trans s3;refine i17 tp _ rfl (SqT.of e3) rfl _ _ rfl _ _ rfl rfl ?_;refine i02 (λZ G=>∃(v:V),Z=[Sro cl,Sro sc,Sro bk,Sio most,Sio z,Sro rl,Sio (p':Int),some v,none,none,none]/\A1f H3 G/\TrB (λb=>S b/\b≠rl) lk 10 G v) ?_ ?_
   ·refine i02 _ rfl (i15 _ rfl _ rfl bk _ _ _ rfl rfl (SqT.of (s23 _ _ hbk)) rfl (i0y tv d u' lk rfl (rp.same A0j) tu ((hlk.same s23).h) (by lia) λwt hw=> ?_));refine i0k _ _ rfl rfl (.inl ⟨by lia,by lia⟩) (i0m _ rfl _ _ rfl rfl (i02 _ rfl (A4m (λ_=> ?_) (λhle=> ?_))))
    ·refine i02 _ rfl (i0v _ rfl cl ns (p':Int) rfl (SqL.of (s23 _ _ hcl)) (by lia) λc0=>(i0q _ rfl c0 (p':Int) rfl (by lia) (by lia) λr0=>(i02 r0 rfl λn hn=>⟨A0q rfl,λq1 hq1=> ?_⟩)));exact i0b _ rfl (A0f hq1) (.num n) (i08 (B8n (A0i (fr1 s3 q1 hq1) A0b)) hn True.intro (by show 1<=10;decide) (by show 1<=120;decide))
    ·exact i0b tv rfl (A1f.refl _) u' (i08 rp wu tu du (D0b z1 hw hmo hle))
   rintro Z G ⟨v,rfl,sG,tv'⟩;have s3G:=s3.trans sG;have hG:=s3G _ _ h2;refine i0i _ rfl (.inl (i01 rfl _ (SqL.of hG))) _ rfl (i0s rl _ _ rfl rfl hG (A1l (by lia)) ?_);refine i0v (15-vs.length) (by lia) (vs++[v]) p' _ rfl (A0s (s2.trans s3G) hrl) A0b (i04 (by rw [Z06];simp only [Z0y,Z2g];lia) (by rw [Z06];simp only [Z0y,Z2g];lia) (λy hy=> ?_) (by rw [Z06];simp only [Z0y,Z2g];lia));rcases Z07.mp hy with hy | hy
   ·exact ((hvs y hy).same s3G).lst λq=>q.2 rfl
   ·rw [Z0w.mp hy];exact tv'.lst λq=>q.2 rfl
  | false =>
   have lv:1<=vs.length:=by
    simp only [Bool.or_eq_false_iff,Bool.and_eq_false_iff,decide_eq_false_iff_not] at hb
    lia
   refine A2u ?_;refine i02 (LbJ S lk H cl sc bk most z p) (i03 4 rl ⟨vs,(i1a o7 none none none (λb=>S b/\b≠rl) rfl s2 h2 (fr1 (A1f.refl _)) (λa q=>q.1) lv lvs (by decide) hvs)⟩) ?_;clear fr1 hb lvs lp hvs h2 s2 lv vs;rintro m Z H2 zz;refine e08 zz ?_;clear zz;rintro l vs o7 o8 o9 ⟨o10,S',rfl,s2,h2,fr',sub,v1,vm,m4,hv⟩;refine i0m _ rfl l _ rfl (.inl (SqL.of h2)) ⟨_,(i0i _ rfl rfl _ rfl (A4m (λhlen=> ?_) (λhlen=> ?_)))⟩
   ·have hlen:2<=vs.length:=by
     have:(1:Int)<(vs.length:Int):=hlen
     lia
    obtain ⟨n,rfl⟩:∃n,m=n+1:=by
     cases m with
     | zero=>simp at vm;lia
     | succ n=>exact ⟨n,rfl⟩
    rw [Nat.pow_succ] at vm
    have v16:vs.length<=16:=by
     have:2^n<=2^3:=Nat.pow_le_pow_right (by decide) (by lia)
     lia
    refine i02 (λZ' H'=>∃m',m'<n+1/\LbJ S lk H cl sc bk most z p m' Z' H') (λZ' H' z=>z) ?_;refine ⟨A0q rfl,λf hf=> ?_⟩;have s3:A1f H2 (upd H2 f (.lst [])):=A0f hf;refine i0m _ rfl l _ rfl (.inl (SqL.of (s3 _ _ h2))) (i0d _ _ rfl rfl (i0l 0 _ 2 rfl (i0g (by decide) (by decide) (by lia) (by lia) (by decide) (by decide)) ?_));have hhalf:=C4g hlen;have toS:∀a o,H2 a=some o->S' a->S' a/\a≠f:=λa o ha hs=>⟨hs,A1g ha hf⟩
    refine C3m (n:=(Builtin.Range.rangeSize 0 ((vs.length:Int)-1) 2).toNat) (λi Z H4=>∃(o9 o10:Option V) (ws:List V),Z=[Sro cl,Sro sc,Sro bk,Sio most,Sio z,Sro l,Sio (p:Int),o7,Sro f,o9,o10]/\A1f H2 H4/\H4 f=some (.lst ws)/\ws.length=i/\
     ∀v∈ws,TrB (λa=>S' a/\a≠f) lk (14-n) H4 v) (i0s _ _ [] rfl s3 A0b rfl (by simp)) ?_ ?_
    ·rintro i Z H4 hi zz;refine e09 zz ?_;clear zz;rintro o9 o10 ws rfl s4 h4 ⟨hwl,hw⟩;rw [hhalf] at hi;have ek:(0:Int)+(i:Int)*2=((2*i:Nat):Int):=by lia
     rw [ek];have fr4:∀{G:Hp},A1f H4 G->Fr (λa=>S' a/\a≠f) G:=λ{G} s a ha=>⟨fr' a ((s4.trans s).free ha),λz=>by rw [z,s _ _ h4] at ha;cases ha⟩;have h4l:=s4 _ _ h2;obtain ⟨va,a1⟩:∃va,vs[2*i]? =some va:=⟨vs[2*i]'(by lia),by simp⟩;obtain ⟨vb,b1⟩:∃vb,vs[2*i+1]? =some vb:=⟨vs[2*i+1]'(by lia),by simp⟩;have ta:=(hv _ (Z13 a1)).mono s4 toS (Z09 _);have tb:=(hv _ (Z13 b1)).mono s4 toS (Z09 _);have eb:atI vs (((2*i:Nat):Int)+1)=some vb:=A1s (j:=2*i+1) b1;obtain ⟨op,eop⟩:=D3b (((2*i:Nat):Int)+(vs.length:Int));refine ⟨A0q rfl,λll hll=> ?_⟩;have sA:=A0f (o:= .lst [.str "plus",.str "minus",.str "times"]) hll;refine i0u _ rfl _ rfl l _ rfl (.inl (SqL.of (sA _ _ h4l))) (i0d _ _ rfl rfl (i0k _ _ rfl rfl D0g (i0w ll _ _ _ rfl rfl (SqL.of A0b) eop ?_)));refine i15 _ rfl _ rfl l _ _ _ rfl rfl (SqL.of (sA _ _ h4l)) (A1s a1) (i0u _ rfl _ rfl _ _ rfl rfl (i0y l _ _ _ rfl rfl (SqL.of (sA _ _ h4l)) eb (A0q rfl) λq1 hq1=> ?_));have sB:=A0f (o:= .tup [.str (opS op),va,vb]) hq1;have sAB:=sA.trans sB;have fq:=fr4 sA q1 hq1;have e5:upd (upd H4 ll (.lst [.str "plus",.str "minus",.str "times"])) q1 (.tup [.str (opS op),va,vb]) q1=some (.tup [.str (opS op),va,vb]):=A0b;generalize upd (upd H4 ll (.lst [.str "plus",.str "minus",.str "times"])) q1 (.tup [.str (opS op),va,vb])=H5 at sAB e5;have ta5:=ta.same sAB;have tb5:=tb.same sAB;obtain ⟨ua,ra,wa,la,da,na⟩:=id ta5;obtain ⟨ub,rb,wb,lb,db,nb⟩:=tb5;have rq:Rep (A1a (λa=>S' a/\a≠f) H5) (.ref q1) (A1t (.pair op ua ub)):=B2w (A0i fq e5) ra rb;have dq:dep (.pair op ua ub)<=14-n:=by simp only [dep];lia
     have s05:=s2.trans (s4.trans sAB);refine i02 (λZ H6=>H5=H6/\∃(v:V),Z=[Sro cl,Sro sc,Sro bk,Sio most,Sio z,Sro l,Sio (p:Int),o7,Sro f,Sio ((2*i:Nat):Int),some v]/\TrB (λa=>S' a/\a≠f) lk (14-n) H5 v) ?_ ?_
     ·refine i02 _ rfl (i15 _ rfl _ rfl bk _ _ _ rfl rfl (SqT.of (s05 _ _ hbk)) rfl (i0y (.ref q1) d _ lk rfl (rq.same A0j) ⟨la,lb⟩ ((hlk.same s05).h) (by lia) λwt hw=> ?_));refine i0k _ _ rfl rfl (.inl ⟨by lia,by lia⟩) (i0m _ rfl _ _ rfl rfl (i02 _ rfl (A4m (λ_=> ?_) (λhle=> ?_))))
      ·exact i02 _ rfl (i19 _ rfl l _ _ _ rfl rfl (SqL.of (sAB _ _ h4l)) (A1s a1) rfl va rfl (ta5.mono (A1f.refl _) (λ_ _ _ q=>q) (by lia)))
      ·exact i05 rfl _ rfl ⟨_,(i08 rq ⟨wa,wb⟩ ⟨la,lb⟩ dq (D0b z1 hw hmo hle))⟩
     rintro Z H6 ⟨rfl,v6,rfl,t6⟩;have h6:=sAB _ _ h4;refine i0i _ rfl (.inl (i01 rfl _ (SqL.of h6))) _ rfl (i0s f _ _ rfl rfl h6 (A1l (by lia)) ?_);refine i0s _ _ (ws++[v6]) rfl (A0s (s4.trans sAB) hf) A0b (by simp [hwl]) λy hy=> ?_;rcases Z07.mp hy with hy | hy
     ·exact ((hw y hy).same sAB).lst λq=>q.2 rfl
     ·rw [Z0w.mp hy];exact t6.lst λq=>q.2 rfl
    rintro Z H4 zz;refine e09 zz ?_;clear zz;rintro o9 o10 ws rfl s4 h4 ⟨hwl,hw⟩;rw [hhalf] at hwl;have h4l:=s4 _ _ h2;refine i02 (λZ H5=>∃ws,Z=[Sro cl,Sro sc,Sro bk,Sio most,Sio z,Sro l,Sio (p:Int),o7,Sro f,o9,o10]/\A1f H2 H5/\H5 f=some (.lst ws)/\ws.length=(vs.length+1)/2/\∀v∈ws,TrB (λa=>S' a/\a≠f) lk (14-n) H5 v) ?_ ?_
    ·refine i0m _ rfl l _ rfl (.inl (SqL.of h4l)) (i0k _ _ rfl rfl D4l (i05 rfl _ rfl (A4m (λhodd=> ?_) (λhev=> ?_))))
     ·have hodd:((vs.length:Int)%2)=1:=by injection hodd
      obtain ⟨va,a1,a2⟩:=C1v (xs:=vs) (by lia);refine i06 _ rfl (.inl (i01 rfl _ (SqL.of h4))) (i15 _ rfl _ rfl l _ _ _ rfl rfl (SqL.of h4l) a2 (i0s f _ _ rfl rfl h4 (A1l (by lia)) ?_));refine ⟨ws++[va],(i08 rfl (A0s s4 hf) A0b (by simp;lia) λy hy=> ?_)⟩;rcases Z07.mp hy with hy | hy
      ·exact (hw y hy).lst λq=>q.2 rfl
      ·rw [Z0w.mp hy];exact ((hv _ (Z13 a1)).mono s4 toS (by lia)).lst λq=>q.2 rfl
     ·have hev:¬((vs.length:Int)%2)=1:=λz=>hev (congrArg V.int z);exact ⟨ws,(i08 rfl s4 h4 (by lia) hw)⟩
    rintro Z H5 ⟨ws,rfl,s5,h5,hwl,hw⟩;exact i0c _ rfl n (by lia) (i03 f ws (i1a _ _ _ _ _ rfl (s2.trans s5) h5 (λa ha=>⟨fr' a (s5.free ha),λz=>by rw [z,h5] at ha;cases ha⟩) (λa q=>sub a q.1) (by lia) (by lia) (by lia) hw))
   ·have hlen:vs.length=1:=by
     have:¬(1:Int)<(vs.length:Int):=hlen
     lia
    obtain ⟨va,a1⟩:∃va,vs[0]? =some va:=⟨vs[0]'(by lia),by simp⟩;obtain ⟨ua,ra,wa,la,da,na⟩:=hv _ (Z13 a1);exact i10 _ rfl l _ _ _ rfl rfl (SqL.of h2) (A1s (j:=0) a1) (k va ua H2 s2 (ra.same (A3b (A1f.refl _) λa _ _ q=>sub a q)) wa la (by lia) na)
theorem C0e {xs:List Nat} {i:Int} {b:Nat} (h0:0<=i) (h1:i<xs.length) (hb:∀x∈xs,x<=b):∃m:Nat,m<=b/\atI (xs.map λ(n:Nat)=>V.int (n:Int)) i=some (.int (m:Int)):=by
 obtain ⟨x,hx,ex⟩:=A5u (f:=λn:Nat=>V.int (n:Int)) h0 h1;exact i02 x (hb x (Z13 hx)) ex
def AxL (ax:List (Str×Int)):Prop:=(∀e∈ax,1<=e.2/\e.2<=60)/\NmS (ax.map (·.1))/\(ax.map (·.1)).Nodup/\ax.length<=8
theorem D8o (h:H d=some (.dK (A3t ax))) (k:AxL ax):D2n H d (A3t ax) (ax.map (·.1)):=by
 have ks:(A3t ax).map (·.1)=(ax.map (·.1)).map (Sum.inr:Str->Key):=by unfold A3t;rw [List.map_map,List.map_map];rfl
 refine ⟨h,ks,λy hy=> ?_,k.2.1,by have:=k.2.2.2;rw [Z08];lia⟩;obtain ⟨e,he,rfl⟩:=Z2c.mp hy;obtain ⟨i,hi,ei⟩:=List.mem_iff_getElem.mp he;refine i02 e.2 (D0k (i:=i) ?_ ?_) (k.1 e he)
 ·rw [ks];exact k.2.2.1.map (f:=(Sum.inr:Str->Key)) λa b hab z=>hab (Sum.inr.inj z)
 ·unfold A3t;rw [Z1z,Z0b hi,ei];rfl
def B2q (K:Frag):Sp:=λvs H Q _=>∃(a nl:Addr) (ns:List Int) (nm:List Str),vs=[.ref a,.ref nl]/\SqL K H a (ns.map V.int)/\H nl=some (.lst (nm.map V.str))/\10<=nm.length/\nm.Nodup/\
 ∀(d:Addr) (ax:List (Str×Int)) (H':Hp),H d=none->A1f H H'->H' d=some (.dK (A3t ax))->ax.map (·.1)=nm.take ax.length->ax.length<=8->(∀e∈ax,1<=e.2/\e.2<=60)->Q (.ref d) H'
theorem B3n (T:Txt K mg t):FO P w base T.gk 3 (B2q K):=by
 have Gd8:= @B9j P w K mg base t T;have Gd5:= @A6c P w K mg base t T;refine T.gk.F.ok A3l (by walk_at "ln") λ_ A _ s H _ Q E hr h=> ?_
 ·refine e0d h ?_;clear h;rintro a nl ns nm rfl hS hnl l10 ⟨nd,k⟩;have hu:=B1b hr;refine i02 _ (@A0c _ _ _ _ _ (@A0l _ _ 2 _ _ _ _ A3l.nd rfl (.inl rfl) B5y rfl (by first | exact Or.inl rfl | exact Or.inr rfl | assumption)) (@A0c _ _ _ _ _ (@A0l _ _ 3 _ _ _ _ A3l.nd rfl (.inl rfl) (@A0z _ _ _ _ _ _ _ A1n (@A1q _ _ _ _ (@A0a _ _ _ _ _ A0e (@A0a _ _ _ _ _ A0e (@A0a _ _ _ _ _ A0e (@A0a _ _ _ _ _ A0e (@A0a _ _ _ _ _ A0e (@A0a _ _ _ _ _ A0e (@A0a _ _ _ _ _ A0e (@A0a _ _ _ _ _ A0e (@A0a _ _ _ _ _ A0e (@A0a _ _ _ _ _ A0e A0d rfl) rfl) rfl) rfl) rfl) rfl) rfl) rfl) rfl) rfl)) (@A0r _ _ _ _ _ _ _ _ A1x (@A0r _ _ _ _ _ _ _ _ A1u (pcl Gd5 hr T.ay (@A0a _ _ _ _ _ (pv 0) (@A0a _ _ _ _ _ A0e A0d rfl) rfl)) A0e) A0e) (λ_ _=>rfl)) rfl (by first | exact Or.inl rfl | exact Or.inr rfl | assumption)) (@A0c _ _ _ _ _ (A3d PassesOwn.never rfl (A3k rfl T.cr (@A0a _ _ _ _ _ (pv 3) A0d rfl)) (A0n (i:=4) A3l.nd rfl (.inl rfl)) (@A0c _ _ _ _ _ (@A0l _ _ 5 _ _ _ _ A3l.nd rfl (.inl rfl) (pcl Gd8 hr T.kz (@A0a _ _ _ _ _ (pcl Gd5 hr T.ay (@A0a _ _ _ _ _ (pv 0) (@A0a _ _ _ _ _ A0e A0d rfl) rfl)) (@A0a _ _ _ _ _ (pv 4) A0d rfl) rfl)) rfl (by first | exact Or.inl rfl | exact Or.inr rfl | assumption)) (@A0c _ _ _ _ _ (@B1g _ _ _ _ _ _ _ _ _ hu (pv 2) (@A0z _ _ _ _ _ _ _ A1n (pv 1) (pv 4) (λ_ _=>rfl)) (@A0r _ _ _ _ _ _ _ _ A2r A0e (@A0r _ _ _ _ _ _ _ _ A1x (pv 5) (@A0z _ _ _ _ _ _ _ A1n (@A1q _ _ _ _ (@A0a _ _ _ _ _ A0e (@A0a _ _ _ _ _ A0e A0d rfl) rfl)) (A2a B8g (by rfl) T.yW PyProof.Rows.boot_int (@A0a _ _ _ _ _ (@C0f _ _ _ _ _ _ _ _ A7n (pv 3) A0e (A1e _)) A0d rfl)) (λ_ _=>rfl)))) rfl) (@A0g _ _ _ (@A1z _ _ _ _ _ _ _ _ (PW.pt (A3n (@A0o _ _ _ _ _ _ _ _ A2j (pv 4) A0e (A1e _)) (A3w (@A0o _ _ _ _ _ _ _ _ A2j (@A0r _ _ _ _ _ _ _ _ A1x (@A0r _ _ _ _ _ _ _ _ A1u (pv 5) A0e) A0e) A0e (A1e _))))) (@A0g _ _ _ (@B1g _ _ _ _ _ _ _ _ _ hu (pv 2) (@A0z _ _ _ _ _ _ _ A1n (pv 1) (pv 4) (λ_ _=>rfl)) (@A0r _ _ _ _ _ _ _ _ A2r A0e (@A0r _ _ _ _ _ _ _ _ A1x (@A0r _ _ _ _ _ _ _ _ A1u (pv 5) A0e) A0e)) rfl)) A1d))))) (@A0g _ _ _ (@A0u _ _ _ _ (pv 2)))))) ?_;refine λd hd=> ?_;have s0:A1f H (upd H d (.dK [])):=A0f hd;refine ⟨A0q rfl,λzl hzl=> ?_⟩;have s1:=s0.trans (A0f (o:= .lst [.int 0,.int 1,.int 2,.int 3,.int 4,.int 2,.int 3,.int 4,.int 6,.int 8]) hzl);have h1:=(A0f (o:= .lst [.int 0,.int 1,.int 2,.int 3,.int 4,.int 2,.int 3,.int 4,.int 6,.int 8]) hzl) d _ A0b;refine i0v _ rfl a ns 2 rfl (s1.seq hS) (by decide) λc=> ?_;obtain ⟨m,m8,em⟩:=C0e (xs:=[0,1,2,3,4,2,3,4,6,8]) (i:=c/3%10) (b:=8) (by lia) (by show c/3%10<10;lia) (by decide);refine i0x _ _ rfl rfl ⟨by decide,by decide⟩ _ _ rfl rfl ⟨D7m,(i0w zl _ _ _ rfl rfl (SqL.of A0b) em ?_)⟩;generalize upd (upd H d (.dK [])) zl (.lst [.int 0,.int 1,.int 2,.int 3,.int 4,.int 2,.int 3,.int 4,.int 6,.int 8])=H1 at s1 h1;refine i0j _ rfl _ rfl (by lia) ⟨by lia,?_⟩
  refine A3r (n:=((m:Nat):Int).toNat) (λi Z H2=>∃(o4 o5:Option V) (ax:List (Str×Int)),Z=[Sro a,Sro nl,Sro d,Sio (m:Int),o4,o5]/\A1f H H2/\H2 d=some (.dK (A3t ax))/\ax.length=i/\ax.map (·.1)=nm.take i/\∀e∈ax,1<=e.2/\e.2<=60)
   ⟨none,(i0r none [] rfl s1 h1 rfl rfl (by intro e he;cases he))⟩ ?_ ?_
  ·rintro i Z H2 hi zz;refine e09 zz ?_;clear zz;rintro o4 o5 ax rfl s2 h2 ⟨la,ks,va⟩;rw [Int.toNat_natCast] at hi;rw [Int.zero_add];have hyi:nm[i]? =some nm[i]:=Z0b (by lia);have ey:atI (nm.map V.str) (i:Int)=some (.str nm[i]):=A1s (by rw [Z1z,hyi];rfl);refine i0v _ rfl a ns 2 rfl (s2.seq hS) (by decide) λc0=>(i0q _ rfl c0 (i:Int) rfl (by lia) (by lia) λr=> ?_)
   obtain ⟨b,b1,b4,eb⟩:∃b:Int,1<=b/\b<=4/\atI [V.int 4,V.int 2] (if decide ((4:Int)<(m:Int))=true then 1 else 0)=some (.int b):=by
    cases decide ((4:Int)<(m:Int)) with
    | true=>exact i06 2 (by decide) (by decide) rfl
    | false=>exact i06 4 (by decide) (by decide) rfl
   have llk:(A3t ax).length=i:=by unfold A3t;rw [Z08,la]
   have kk:(A3t ax).map (·.1)=(nm.take i).map λx=>(Sum.inr x:Key):=by rw [<-ks];unfold A3t;rw [List.map_map,List.map_map];rfl
   refine i06 _ rfl (A0q rfl) λz2 hz2=> ?_;have sz:=A0f (o:= .lst [.int 4,.int 2]) hz2;refine i0m _ rfl _ _ rfl rfl (.inr (i10 _ rfl z2 _ _ _ rfl rfl (SqL.of A0b) eb (i0x _ _ rfl rfl (by show 0<b;lia) _ _ rfl rfl (i02 _ rfl (i15 _ rfl _ rfl nl _ _ _ rfl rfl (SqL.of (sz _ _ (s2 _ _ hnl))) ey (i0d d _ rfl (C7t.k (k:=Sum.inr nm[i]) (sz _ _ h2) (A1l (by lia))) ?_))))));have r0:0<=r%b:=Z1v _ (by lia);have r1:r%b<b:=Z1p _ (by lia)
   have pn:B1n (A3t ax) (Sum.inr nm[i]) (.int (1+r%b))=A3t (ax++[(nm[i],1+r%b)]):=by
    rw [D7e nd hyi kk];unfold A3t;rw [Z0s];rfl
   have s3:A1f H (upd (upd H2 z2 (.lst [.int 4,.int 2])) d (.dK (A3t (ax++[(nm[i],1+r%b)])))):=A0s (s2.trans sz) hd;have h3:upd (upd H2 z2 (.lst [.int 4,.int 2])) d (.dK (A3t (ax++[(nm[i],1+r%b)]))) d=some (.dK (A3t (ax++[(nm[i],1+r%b)]))):=A0b;rw [pn];generalize upd (upd H2 z2 (.lst [.int 4,.int 2])) d (.dK (A3t (ax++[(nm[i],1+r%b)])))=H3 at s3 h3
   have fin:∀(q:Int) (G:Hp),1<=q->q<=60->A1f H G->G d=some (.dK (A3t (ax++[(nm[i],q)])))->∃(o4 o5:Option V) (ax:List (Str×Int)),[some (V.ref a),some (.ref nl),some (.ref d),some (.int (m:Int)),some (.int (i:Int)),some (.int r)]=[some (.ref a),some (.ref nl),some (.ref d),some (.int (m:Int)),o4,o5]/\A1f H G/\G d=some (.dK (A3t ax))/\ax.length=i+1/\ax.map (·.1)=nm.take (i+1)/\∀e∈ax,1<=e.2/\e.2<=60:=λq G q1 q2 sG hG=>by
    refine ⟨_,(i0r _ (ax++[(nm[i],q)]) rfl sG hG (by simp [la]) ?_ λe he=> ?_)⟩
    ·rw [Z0s,ks,Z14,hyi];rfl
    ·rcases Z07.mp he with he | he
     ·exact va e he
     ·rw [Z0w.mp he];exact ⟨q1,q2⟩
   dsimp only [A5w,B5r,C7o,C7q];refine B6b (d1:=decide (V.int (i:Int)=V.int 0)) (d2:=decide (V.int (r/4%8)=V.int 5)) (λQ' q=>(i0i _ rfl rfl _ rfl q)) (λQ' q=>(i0q _ rfl _ _ rfl rfl ⟨by decide,by decide⟩ (i0k _ _ rfl rfl D7i (i05 rfl _ rfl q)))) ?_
   cases hb:(decide (V.int (i:Int)=V.int 0)&&decide (V.int (r/4%8)=V.int 5)) with
   | false=>exact A2u (fin _ _ (by lia) (by lia) s3 h3)
   | true =>
    have i0:i=0:=by
     have:=of_decide_eq_true (Z1x _ _▸hb).1;have:=V.int.inj this
     lia
    have ax0:ax=[]:=List.eq_nil_of_length_eq_zero (by lia);have r2:0<=r/32%60/\r/32%60<60:=by lia
    refine A5h (i0q _ rfl _ _ rfl rfl ⟨by decide,by decide⟩ (i0x _ _ rfl rfl D7v _ _ rfl rfl (i02 _ rfl (i15 _ rfl _ rfl nl _ _ _ rfl rfl (SqL.of (s3 _ _ hnl)) ey (i0d d _ rfl (C7t.k (k:=Sum.inr nm[i]) h3 (A1l (by unfold A3t;simp;lia))) ?_)))));refine fin (1+r/32%60) _ (by lia) (by lia) (A0s s3 hd) ?_;rw [A0b];subst ax0;show some (HO.dK (B1n [(Sum.inr nm[i],V.int (1+r%b))] (Sum.inr nm[i]) (.int (1+r/32%60))))=some (.dK [(Sum.inr nm[i],V.int (1+r/32%60))]);unfold B1n;simp
  ·rintro Z H2 zz;refine e09 zz ?_;clear zz;rintro o4 o5 ax rfl s2 h2 ⟨la,ks,va⟩;rw [Int.toNat_natCast] at la ks;exact i02 _ rfl (k d ax H2 hd s2 h2 (by rw [la];exact ks) (by lia) va)
theorem C6x {α:Type} (f:α->V) (nm:List α) (lo hi:Option Int):∃zs:List α,C9x (nm.map f) lo hi=zs.map f/\zs.length<=nm.length/\∀x∈zs,x∈nm:=by
 refine i06 ((nm.drop (HT.sIx nm.length 0 lo)).take (HT.sIx nm.length nm.length hi-HT.sIx nm.length 0 lo)) ?_ ?_ λx hx=> ?_
 ·unfold C9x;rw [Z08,<-List.map_drop,<-List.map_take]
 ·rw [Z0x,List.length_drop];lia
 ·exact List.mem_of_mem_drop (Z2p hx)
theorem D9n (xs:List V) (lo:Option Int) (n:Nat):(C9x xs lo (some (n:Int))).length<=n:=by
 unfold C9x;rw [Z0x]
 have:HT.sIx xs.length xs.length (some (n:Int))<=n:=by
  have e:=HT.sIx_nat xs.length xs.length n;have e:HT.sIx xs.length xs.length (some (n:Int))=min n xs.length:=e;rw [e];exact Nat.min_le_left _ _
 lia
theorem D2h {a b c:Int} (hc:0<c) (h:i<(Builtin.Range.rangeSize a b c).toNat):a+(i:Int)*c<b:=by
 unfold Builtin.Range.rangeSize at h;rw [Z12 hc] at h;by_cases hab:a<b
 ·rw [Z12 hab] at h;have h1:(i:Int)<=(b-a-1)/c:=by lia
  have:=(Int.le_ediv_iff_mul_le hc).mp h1
  lia
 ·rw [Z0t hab] at h;simp at h
def TmS:Tm->Prop
 | .read a _=>PyData.strOk a=true
 | .sum _ b=>TmS b
 | .pair _ l r=>TmS l/\TmS r
 | .guard _ _ _ l r=>TmS l/\TmS r
 | _=>True
theorem D4b {lk:List (Key×V)}:∀u:Tm,TmL lk u->TmS u
 | .read _ _,h=>h
 | .sum _ b,h=>D4b b h.2
 | .pair _ l r,h=>⟨D4b l h.1,D4b r h.2⟩
 | .guard _ _ _ l r,h=>⟨D4b l h.2.1,D4b r h.2.2⟩
 | .num _,_=>True.intro
 | .place _,_=>True.intro
def D5g (H:Hp) (v:V) (e:Lt):Prop:=∃q al tv,v= .ref q/\H q=some (.tup [.str e.1,.ref al,tv])/\H al=some (.lst (e.2.1.map V.str))/\Rep H tv (A1t e.2.2)
theorem D5g.same {e:Lt} (h:D5g H v e) (s:A1f H H'):D5g H' v e:=by
 refine e09 h ?_;clear h;rintro q al tv rfl e1 e2 r;exact i0p q al tv rfl (s _ _ e1) (s _ _ e2) (r.same s)
structure D7k (lk:List (Key×V)) (e:Lt):Prop where
 o:PyData.strOk e.1=true
 l1:e.1.length<=60
 l3:e.2.1.length<=3
 n:NmS e.2.1
 w:TmW e.2.2
 s:TmS e.2.2
 d:dep e.2.2<=16
 k:nod e.2.2<=122
structure D0y (H:Hp) (p:Addr) (ax:List (Str×Int)) (tb:List (Str×List Str)) (ls:List Lt):Prop where
 ob:∃(wh:Int) (d tl ll ol:Addr) (tvs lvs:List V) (o:Str),H p=some (.tup [.int wh,.ref d,.ref tl,.ref ll,.ref ol])/\H d=some (.dK (A3t ax))/\H tl=some (.lst tvs)/\Paired (C7s H (A3t ax)) tvs tb/\H ll=some (.lst lvs)/\Paired (D5g H) lvs ls/\H ol=some (.lst [.str o])
 hx:AxL ax
 t:tb.length<=6
 l:ls.length<=8
 ok:∀e∈ls,D7k (A3t ax) e
def B2x (K:Frag):Sp:=λvs H Q _=>∃(a:Addr) (ns:List Int),vs=[.ref a]/\SqL K H a (ns.map V.int)/\∀(p:Addr) (ax:List (Str×Int)) (tb:List (Str×List Str)) (ls:List Lt) (H':Hp),A1f H H'->D0y H' p ax tb ls->Q (.ref p) H'
theorem C9k {k:Key}:∃g:Int,(B4h (A3t ax) k).getD (.int 1)= .int g:=by
 cases e:B4h (A3t ax) k with
 | none=>exact ⟨1,rfl⟩
 | some v =>
  obtain ⟨p,hp,e1,e2⟩:=C8q e;obtain ⟨f,_,rfl⟩:=Z2c.mp hp;exact ⟨f.2,e2.symm⟩
abbrev S2P (arl ll:Addr):Addr->Prop:=λb=>b≠arl/\b≠ll
theorem B2y (T:Txt K mg t):FO P w base T.gx 26 (B2x K):=by
 have Gd9:= @B5g P w K mg base t T;have Ge0:= @B3n P w K mg base t T;have Gd8:= @B9j P w K mg base t T;have Gc8:= @A8n P w K mg base t T;have Gd5:= @A6c P w K mg base t T;have Ge1:= @B7p P w K mg base t T;have Gc7:= @B3k P w K mg base t T;have Ge2:= @C0d P w K mg base t T;refine T.gx.F.ok A1c (by walk_at "ln") λ_ A _ s H _ Q E hr h=> ?_
 ·obtain ⟨a,ns,rfl,hS,k⟩:=h;have hu:=B1b hr;refine i02 _ (@A0c _ _ _ _ _ (@A0l _ _ 1 _ _ _ _ A1c.nd rfl (.inl rfl) (pcl Gd9 hr T.jp (@A0a _ _ _ _ _ (pcl Gd5 hr T.ay (@A0a _ _ _ _ _ (pv 0) (@A0a _ _ _ _ _ A0e A0d rfl) rfl)) (@A0a _ _ _ _ _ (pcl Gd5 hr T.ay (@A0a _ _ _ _ _ (pv 0) (@A0a _ _ _ _ _ A0e A0d rfl) rfl)) (@A0a _ _ _ _ _ A0e A0d rfl) rfl) rfl)) rfl (by first | exact Or.inl rfl | exact Or.inr rfl | assumption)) (@A0c _ _ _ _ _ (@A0l _ _ 2 _ _ _ _ A1c.nd rfl (.inl rfl) (pcl Ge0 hr T.gk (@A0a _ _ _ _ _ (pv 0) (@A0a _ _ _ _ _ (pv 1) A0d rfl) rfl)) rfl (by first | exact Or.inl rfl | exact Or.inr rfl | assumption)) (@A0c _ _ _ _ _ (@A0l _ _ 3 _ _ _ _ A1c.nd rfl (.inl rfl) (A2a (A8m rfl) (by rfl) T.cx Z1o (@A0a _ _ _ _ _ (pv 2) A0d rfl)) rfl (by first | exact Or.inl rfl | exact Or.inr rfl | assumption)) (@A0c _ _ _ _ _ (@A0l _ _ 4 _ _ _ _ A1c.nd rfl (.inl rfl) (@A1q _ _ _ _ A0d) rfl (by first | exact Or.inl rfl | exact Or.inr rfl | assumption)) (@A0c _ _ _ _ _ (A3d PassesOwn.never rfl (A3k rfl T.cr (@A0a _ _ _ _ _ (@A0z _ _ _ _ _ _ _ A1n (@A1q _ _ _ _ (@A0a _ _ _ _ _ A0e (@A0a _ _ _ _ _ A0e (@A0a _ _ _ _ _ A0e (@A0a _ _ _ _ _ A0e (@A0a _ _ _ _ _ A0e (@A0a _ _ _ _ _ A0e (@A0a _ _ _ _ _ A0e A0d rfl) rfl) rfl) rfl) rfl) rfl) rfl)) (@A0r _ _ _ _ _ _ _ _ A1x (pcl Gd5 hr T.ay (@A0a _ _ _ _ _ (pv 0) (@A0a _ _ _ _ _ A0e A0d rfl) rfl)) A0e) (λ_ _=>rfl)) A0d rfl)) (A0n (i:=5) A1c.nd rfl (.inl rfl)) (@A0c _ _ _ _ _ (@A0l _ _ 6 _ _ _ _ A1c.nd rfl (.inl rfl) (pcl Gd8 hr T.kz (@A0a _ _ _ _ _ (pcl Gd5 hr T.ay (@A0a _ _ _ _ _ (pv 0) (@A0a _ _ _ _ _ A0e A0d rfl) rfl)) (@A0a _ _ _ _ _ (pv 5) A0d rfl) rfl)) rfl (by first | exact Or.inl rfl | exact Or.inr rfl | assumption)) (@A0g _ _ _ (A2t (A5g Z0k Z0n Z0o A2d (pv 4) (@A0a _ _ _ _ _ (@A1o _ _ _ _ _ (@A0a _ _ _ _ _ (@A0z _ _ _ _ _ _ _ A1n (pv 1) (@A0r _ _ _ _ _ _ _ _ A2r A0e (pv 5)) (λ_ _=>rfl)) (@A0a _ _ _ _ _ (pcl Ge1 hr T.fj (@A0a _ _ _ _ _ (pv 6) (@A0a _ _ _ _ _ (pv 3) (@A0a _ _ _ _ _ (pv 2) (@A0a _ _ _ _ _ A0e A0d rfl) rfl) rfl) rfl)) A0d rfl) rfl)) A0d rfl)))))) (@A0c _ _ _ _ _ (@A0l _ _ 7 _ _ _ _ A1c.nd rfl (.inl rfl) (A2a A4t (by rfl) T.cx Z1o (@A0a _ _ _ _ _ (pv 4) A0d rfl)) rfl (by first | exact Or.inl rfl | exact Or.inr rfl | assumption)) (@A0c _ _ _ _ _ (@A0l _ _ 8 _ _ _ _ A1c.nd rfl (.inl rfl) (@A1q _ _ _ _ A0d) rfl (by first | exact Or.inl rfl | exact Or.inr rfl | assumption)) (@A0c _ _ _ _ _ (@A0l _ _ 9 _ _ _ _ A1c.nd rfl (.inl rfl) (@A0z _ _ _ _ _ _ _ A1n (@A1q _ _ _ _ (@A0a _ _ _ _ _ A0e (@A0a _ _ _ _ _ A0e (@A0a _ _ _ _ _ A0e (@A0a _ _ _ _ _ A0e (@A0a _ _ _ _ _ A0e (@A0a _ _ _ _ _ A0e (@A0a _ _ _ _ _ A0e (@A0a _ _ _ _ _ A0e (@A0a _ _ _ _ _ A0e A0d rfl) rfl) rfl) rfl) rfl) rfl) rfl) rfl) rfl)) (@A0r _ _ _ _ _ _ _ _ A1x (pcl Gd5 hr T.ay (@A0a _ _ _ _ _ (pv 0) (@A0a _ _ _ _ _ A0e A0d rfl) rfl)) A0e) (λ_ _=>rfl)) rfl (by first | exact Or.inl rfl | exact Or.inr rfl | assumption)) (@A4k _ _ _ _ _ (@A1z _ _ _ _ _ _ _ _ (PW.pt (A3n (@A0o _ _ _ _ _ _ _ _ A2j (pv 9) A0e (A1e _)) (A3w (@A0o _ _ _ _ _ _ _ _ A2j (A0y A0x (by rfl) T.bf Z0r (@A0a _ _ _ _ _ (pv 7) A0d rfl)) A0e (A1e _))))) (@A0g _ _ _ (@A0l _ _ 9 _ _ _ _ A1c.nd rfl (.inl rfl) A0e rfl (by first | exact Or.inl rfl | exact Or.inr rfl | assumption))) A1d) (@A0c _ _ _ _ _ (@A0l _ _ 10 _ _ _ _ A1c.nd rfl (.inr rfl) (@B2e _ _ _ _ _ _ _ _ _ _ C5f (pv 0) (B3o A0e) (B3o A0e)) rfl (by first | exact Or.inl rfl | exact Or.inr rfl | assumption)) (@A0c _ _ _ _ _ (A3d PassesOwn.never rfl (A3k rfl T.cr (@A0a _ _ _ _ _ (pv 9) A0d rfl)) (A0n (i:=11) A1c.nd rfl (.inl rfl)) (@A0c _ _ _ _ _ (@A0l _ _ 6 _ _ _ _ A1c.nd rfl (.inl rfl) (pcl Gd8 hr T.kz (@A0a _ _ _ _ _ (pcl Gd5 hr T.ay (@A0a _ _ _ _ _ (pv 0) (@A0a _ _ _ _ _ A0e A0d rfl) rfl)) (@A0a _ _ _ _ _ (pv 11) A0d rfl) rfl)) rfl (by first | exact Or.inl rfl | exact Or.inr rfl | assumption)) (@A0c _ _ _ _ _ (@A0l _ _ 12 _ _ _ _ A1c.nd rfl (.inr rfl) (pcl Ge1 hr T.fj (@A0a _ _ _ _ _ (pv 6) (@A0a _ _ _ _ _ (pv 3) (@A0a _ _ _ _ _ (pv 2) (@A0a _ _ _ _ _ (@A0z _ _ _ _ _ _ _ A1n (@A1q _ _ _ _ (@A0a _ _ _ _ _ A0e (@A0a _ _ _ _ _ A0e A0d rfl) rfl)) (A2a B8g (by rfl) T.yW PyProof.Rows.boot_int (@A0a _ _ _ _ _ (@C0f _ _ _ _ _ _ _ _ A7n (@C9m _ _ _ _ _ _ _ _ _ hu (pv 2) (@A0z _ _ _ _ _ _ _ A1n (pv 1) A0e (λ_ _=>rfl)) A0e ⟨rfl,rfl,rfl,rfl⟩) A0e (A1e _)) A0d rfl)) (λ_ _=>rfl)) A0d rfl) rfl) rfl) rfl)) rfl (by first | exact Or.inl rfl | exact Or.inr rfl | assumption)) (@A0c _ _ _ _ _ (@A0l _ _ 13 _ _ _ _ A1c.nd rfl (.inl rfl) (A0y (C5c rfl) (by rfl) T.zi PyProof.Rows.boot_min (@A0a _ _ _ _ _ A0e (@A0a _ _ _ _ _ (A0y (C5i rfl) (by rfl) T.ze PyProof.Rows.boot_max (@A0a _ _ _ _ _ A0e (@A0a _ _ _ _ _ (@A0r _ _ _ _ _ _ _ _ A1u A0e (pcl Gc7 hr T.lj (@A0a _ _ _ _ _ (pv 12) (@A0a _ _ _ _ _ (pv 2) A0d rfl) rfl))) A0d rfl) rfl)) A0d rfl) rfl)) rfl (by first | exact Or.inl rfl | exact Or.inr rfl | assumption)) (@A0c _ _ _ _ _ (@A0l _ _ 15 _ _ _ _ A1c.nd rfl (.inl rfl) (@B2e _ _ _ _ _ _ _ _ _ _ C5f (B8r (N':=["_law_axis","_law_axes"]) (ix:=(List.replicate 1 none++[some 12])) (tc:=B7x (tOp (rIn K true) (C0u 0) (C0u 1))) rfl (A8l (x:="_law_axes") rfl rfl rfl (by decide +kernel) (by decide +kernel)) (A6n (N0:=["_law_axis"]) rfl (.inl rfl) (by walk_at "ix")) (A2q (pcl Ge1 hr T.fj (@A0a _ _ _ _ _ (@A0r _ _ _ _ _ _ _ _ A1u (pv 6) (@A0r _ _ _ _ _ _ _ _ B0i A0e A0e)) (@A0a _ _ _ _ _ (pv 3) (@A0a _ _ _ _ _ (pv 2) (@A0a _ _ _ _ _ (pv 13) A0d rfl) rfl) rfl) rfl))) (λ_ _ _ _=>(A0n (i:=0) C3f rfl (.inl rfl))) (λ_ _ _ _=>(@A0o _ _ _ _ _ _ _ _ A4x (pv 0) (pv 1) (by with_unfolding_all rfl))) (λ_ _ _ _=>(pv 0))) C0q (B3o A0e)) rfl (by first | exact Or.inl rfl | exact Or.inr rfl | assumption)) (@A0c _ _ _ _ _ (@A0l _ _ 16 _ _ _ _ A1c.nd rfl (.inl rfl) (@A1o _ _ _ _ _ (@A0a _ _ _ _ _ (A2a A4t (by rfl) T.cx Z1o (@A0a _ _ _ _ _ (pv 4) A0d rfl)) (@A0a _ _ _ _ _ (pv 2) (@A0a _ _ _ _ _ (@A1o _ _ _ _ _ (@A0a _ _ _ _ _ (@A0z _ _ _ _ _ _ _ A1n (pv 1) (@A0r _ _ _ _ _ _ _ _ A2r A0e (pv 11)) (λ_ _=>rfl)) (@A0a _ _ _ _ _ (pv 12) A0d rfl) rfl)) A0d rfl) rfl) rfl)) rfl (by first | exact Or.inl rfl | exact Or.inr rfl | assumption)) (@A0c _ _ _ _ _ (@A0l _ _ 17 _ _ _ _ A1c.nd rfl (.inl rfl) (pcl Ge2 hr T.ng (@A0a _ _ _ _ _ (A3u (N':=["_law_k","_law_cells"]) (ix:=(List.replicate 1 none++[some 10])) rfl (A8l (x:="_law_cells") rfl rfl rfl (by decide +kernel) (by decide +kernel)) (A6n (N0:=["_law_k"]) rfl (.inl rfl) (by walk_at "ix")) (B8l rfl T.cr (@A0a _ _ _ _ _ (pv 11) (@A0a _ _ _ _ _ (A0y A0x (by rfl) T.bf Z0r (@A0a _ _ _ _ _ (pv 10) A0d rfl)) (@A0a _ _ _ _ _ (pv 9) A0d rfl) rfl) rfl)) (λ_ _ _ _=>(A0n (i:=0) C2t rfl (.inl rfl))) (λ_ _ _ _=>(@A0z _ _ _ _ _ _ _ (C9j (K:=K) rfl) (pv 1) (pv 0) (λ_ _=>rfl)))) (@A0a _ _ _ _ _ (@A0r _ _ _ _ _ _ _ _ A4i (pv 12) (pv 15)) (@A0a _ _ _ _ _ (pv 16) (@A0a _ _ _ _ _ (@A0r _ _ _ _ _ _ _ _ A1u A0e (@A0r _ _ _ _ _ _ _ _ A2r A0e (@A0r _ _ _ _ _ _ _ _ A1u (pv 9) A0e))) A0d rfl) rfl) rfl) rfl)) rfl (by first | exact Or.inl rfl | exact Or.inr rfl | assumption)) (@A0c _ _ _ _ _ (A3d PassesOwn.never rfl (C1f rfl T.jq (@A0a _ _ _ _ _ (pv 15) A0d rfl)) (A0n (i:=14) A1c.nd rfl (.inl rfl)) (@A0g _ _ _ (@A0l _ _ 17 _ _ _ _ A1c.nd rfl (.inl rfl) (@A1o _ _ _ _ _ (@A0a _ _ _ _ _ A1h (@A0a _ _ _ _ _ (pv 14) (@A0a _ _ _ _ _ (pv 17) A0d rfl) rfl) rfl)) rfl (by first | exact Or.inl rfl | exact Or.inr rfl | assumption)))) (@A0c _ _ _ _ _ (A2t (A5g Z0k Z0n Z0o A2d (pv 8) (@A0a _ _ _ _ _ (@A1o _ _ _ _ _ (@A0a _ _ _ _ _ (@A0z _ _ _ _ _ _ _ A1n (pv 1) (@A0r _ _ _ _ _ _ _ _ A2r A0e (pv 11)) (λ_ _=>rfl)) (@A0a _ _ _ _ _ (pv 12) (@A0a _ _ _ _ _ (pv 17) A0d rfl) rfl) rfl)) A0d rfl))) (@A0g _ _ _ (A2t (A5g Z0k Z0n Z0o A2d (pv 4) (@A0a _ _ _ _ _ (@A1o _ _ _ _ _ (@A0a _ _ _ _ _ (@A0z _ _ _ _ _ _ _ A1n (pv 1) (@A0r _ _ _ _ _ _ _ _ A2r A0e (pv 11)) (λ_ _=>rfl)) (@A0a _ _ _ _ _ (pv 12) A0d rfl) rfl)) A0d rfl))))))))))))) (@A0c _ _ _ _ _ (@A0l _ _ 6 _ _ _ _ A1c.nd rfl (.inl rfl) (pcl Gc8 hr T.gc (@A0a _ _ _ _ _ (pcl Gd5 hr T.ay (@A0a _ _ _ _ _ (pv 0) (@A0a _ _ _ _ _ A0e A0d rfl) rfl)) (@A0a _ _ _ _ _ A0e A0d rfl) rfl)) rfl (by first | exact Or.inl rfl | exact Or.inr rfl | assumption)) (@A0c _ _ _ _ _ (@A0l _ _ 18 _ _ _ _ A1c.nd rfl (.inl rfl) (@A0r _ _ _ _ _ _ _ _ A2r A0e (@A0r _ _ _ _ _ _ _ _ A1x (@A0r _ _ _ _ _ _ _ _ A1u (pv 6) A0e) (@A0z _ _ _ _ _ _ _ A1n (@A1q _ _ _ _ (@A0a _ _ _ _ _ A0e (@A0a _ _ _ _ _ (@A0r _ _ _ _ _ _ _ _ A4f (@A0r _ _ _ _ _ _ _ _ B0i A0e A0e) A0e) (@A0a _ _ _ _ _ (@A0r _ _ _ _ _ _ _ _ A4f (@A0r _ _ _ _ _ _ _ _ B0i A0e A0e) A0e) (@A0a _ _ _ _ _ (@A0r _ _ _ _ _ _ _ _ B0i A0e A0e) A0d rfl) rfl) rfl) rfl)) (@A0r _ _ _ _ _ _ _ _ A1x (pv 6) A0e) (λ_ _=>rfl)))) rfl (by first | exact Or.inl rfl | exact Or.inr rfl | assumption)) (@A0g _ _ _ (@A0u _ _ _ _ (@A1o _ _ _ _ _ (@A0a _ _ _ _ _ (pv 18) (@A0a _ _ _ _ _ (pv 2) (@A0a _ _ _ _ _ (pv 7) (@A0a _ _ _ _ _ (pv 8) (@A0a _ _ _ _ _ (@A1q _ _ _ _ (@A0a _ _ _ _ _ (@A0z _ _ _ _ _ _ _ A0w (@A0z _ _ _ _ _ _ _ A1n (pv 4) (B7a B1s A0e) (λ_ _=>rfl)) A0e (λ_ _=>rfl)) A0d rfl)) A0d rfl) rfl) rfl) rfl) rfl))))))))))))))))) ?_;refine i0v _ rfl a ns 0 rfl hS (by decide) λc0=>(i0v _ rfl a ns 1 rfl hS (by decide) λc1=>(i07 c0 c1 rfl λnl nm H1 hnl s1 h1 l22 hn nd=> ?_));refine i18 _ rfl _ rfl a nl ns nm rfl (s1.seq hS) h1 (by lia) nd λd ax H2 hd s2 h2 kax lax vax=> ?_;have hax:AxL ax:=(i04 vax (by rw [kax];exact λx hx=>hn x (Z2p hx)) (by rw [kax];exact nd.sublist (List.take_sublist _ _)) lax);refine i0m _ rfl d _ rfl h2 λgl hgl=> ?_;have h3g:upd H2 gl (.lst ((A3t ax).map λp=>kV p.1)) gl=some (.lst ((ax.map (·.1)).map V.str)):=by rw [A0b];unfold A3t;rw [List.map_map,List.map_map];rfl
  have sg:=A0f (o:= .lst ((A3t ax).map λp=>kV p.1)) hgl;have s3:=(s1.trans s2).trans sg;have h3d:=sg _ _ h2;have h3n:=sg _ _ (s2 _ _ h1);generalize upd H2 gl (.lst ((A3t ax).map λp=>kV p.1))=H3 at h3g s3 h3d h3n;clear sg;have lkk:=D8o h3d hax;have axl:(ax.map (·.1)).length<=1000:=by rw [Z08];lia
  refine ⟨A0q rfl,λarl harl=> ?_⟩;refine ⟨A0q rfl,λzl hzl=> ?_⟩;have sZ:=A0f (o:= .lst [.int 0,.int 1,.int 2,.int 3,.int 1,.int 2,.int 6]) hzl;have sAZ:=(A0f (o:= .lst []) harl).trans sZ;have hr1:=sZ _ _ (A0b (H:=H3) (a:=arl) (o:= .lst []));refine i0v _ rfl a ns 3 rfl ((s3.trans sAZ).seq hS) (by decide) λc3=> ?_;obtain ⟨m,m6,em⟩:=C0e (xs:=[0,1,2,3,1,2,6]) (i:=c3%7) (b:=6) (by lia) (by show c3%7<7;lia) (by decide);refine i0k _ _ rfl rfl D9f (i0w zl _ _ _ rfl rfl (SqL.of A0b) em (i0a _ rfl (by lia) (by lia) ?_));generalize upd (upd H3 arl (.lst [])) zl (.lst [.int 0,.int 1,.int 2,.int 3,.int 1,.int 2,.int 6])=H4 at sAZ hr1;clear sZ
  refine A3r (n:=((m:Nat):Int).toNat) (λi Z G=>∃(o5 o6:Option V) (avs:List V) (es:List (Str×List Str)),Z=[Sro a,Sro nl,Sro d,Sro gl,Sro arl,o5,o6,none,none,none,none,none,none,none,none,none,none,none,none]/\A1f H3 G/\G arl=some (.lst avs)/\Paired (C7s (A1a (λb=>b≠arl) G) (A3t ax)) avs es/\es.length=i)
   (i0w none none [] [] rfl sAZ hr1 .nil rfl) ?_ ?_
  ·rintro i Z G hi zz;refine e0d zz ?_;clear zz;rintro o5 o6 avs es rfl sG hG pG lG;rw [Int.toNat_natCast] at hi;rw [Int.zero_add];have hyi:nm[8+i]? =some nm[8+i]:=Z0b (by lia);have ey:atI (nm.map V.str) (8+(i:Int))=some (.str nm[8+i]):=A1s (j:=8+i) (by rw [Z1z,hyi];rfl);have ny:=(hn _ (Z13 hyi)).1.1;have oy:=(hn _ (Z13 hyi)).1.2;refine i0v _ rfl a ns 3 rfl ((s3.trans sG).seq hS) (by decide) λc=>(i0q _ rfl c (i:Int) rfl (by lia) (by lia) λr=> ?_);refine i06 _ rfl (.inl (i01 rfl _ (SqL.of hG))) (i0u _ rfl _ rfl _ _ rfl rfl (i0w nl _ _ _ rfl rfl (SqL.of (sG _ _ h3n)) ey (i0c _ rfl _ rfl (i0n _ rfl r 60 gl d (i0r (ax.map (·.1)) (A3t ax) rfl (sG _ _ h3g) axl (sG _ _ h3d) lkk.dk λl ys G2 hl s2' h2' sub l3 pm=>⟨A0q rfl,λq hq=> ?_⟩)))));have sT:=A0f (o:= .tup [.str nm[8+i],.ref l]) hq;have eT:upd G2 q (.tup [.str nm[8+i],.ref l]) q=some (.tup [.str nm[8+i],.ref l]):=A0b;have hq0:=hq;generalize upd G2 q (.tup [.str nm[8+i],.ref l])=G5 at sT eT;have s25:=s2'.trans sT;have lav:=Paired.length pG;refine i0s arl _ _ rfl rfl (s25 _ _ hG) (A1l (by lia)) ?_;have q1:q≠arl:=λe=>by rw [e,s2' _ _ hG] at hq0;cases hq0
   have l1:l≠arl:=λe=>by rw [e,hG] at hl;cases hl
   refine i0w _ _ (avs++[.ref q]) (es++[(nm[8+i],ys)]) rfl (A0s (sG.trans s25) harl) A0b (B2c (Paired.mapP pG λv e z=>z.same (A2o (A0h s25) λq=>q rfl)) (.cons (i0r q l rfl (A0i q1 (by rw [A0k q1];exact eT)) (A0i l1 (by rw [A0k l1];exact sT _ _ h2')) ⟨by show nm[8+i].length<=60;lia,oy⟩ l3 ⟨λy hy=>lkk.hn y (sub y hy),λy hy=>lkk.dk y (sub y hy)⟩) .nil)) (by simp [lG])
  rintro Z G zz;refine e0d zz ?_;clear zz;rintro o5 o6 tvs tb rfl sG hG pG lG;rw [Int.toNat_natCast] at lG;have tb6:tb.length<=6:=by lia
  refine i0m _ rfl arl _ rfl (.inl (SqL.of hG)) λtl htl=> ?_;refine ⟨A0q rfl,λll hll=> ?_⟩;refine ⟨A0q rfl,λz9 hz9=> ?_⟩;have sX1:=A0f (o:= .lst tvs) htl;have sX2:=A0f (o:= .lst []) hll;have sX3:=A0f (o:= .lst [.int 0,.int 1,.int 2,.int 3,.int 4,.int 1,.int 2,.int 3,.int 8]) hz9;have sGB:=sX1.trans (sX2.trans sX3);have hBt:=sX3 _ _ (sX2 _ _ (A0b (H:=G) (a:=tl) (o:= .lst tvs)));have hBl:=sX3 _ _ (A0b (H:=upd G tl (.lst tvs)) (a:=ll) (o:= .lst []));have llG:G ll=none:=sX1.free hll;refine i0v _ rfl a ns 4 rfl ((s3.trans (sG.trans sGB)).seq hS) (by decide) λc4=> ?_;obtain ⟨m2,m28,em2⟩:=C0e (xs:=[0,1,2,3,4,1,2,3,8]) (i:=c4%9) (b:=8) (by lia) (by show c4%9<9;lia) (by decide);refine i0k _ _ rfl rfl z_90 (i0w z9 _ _ _ rfl rfl (SqL.of A0b) em2 ?_);have tlG:tl≠arl:=λe=>by rw [e,hG] at htl;cases htl
  have tlL:tl≠ll:=λe=>by rw [<-e,A0b] at hll;cases hll
  generalize upd (upd (upd G tl (.lst tvs)) ll (.lst [])) z9 (.lst [.int 0,.int 1,.int 2,.int 3,.int 4,.int 1,.int 2,.int 3,.int 8])=H5 at sGB hBt hBl;clear sX1 sX2 sX3;have ltv:=Paired.length pG;refine i02 (λZ G'=>H5=G'/\∃m:Nat,Z=[Sro a,Sro nl,Sro d,Sro gl,Sro arl,o5,o6,Sro tl,Sro ll,Sio (m:Int),none,none,none,none,none,none,none,none,none]/\m<=8/\1<=tb.length+m) ?_ ?_
  ·refine B6b (d1:=decide (V.int (m2:Int)=V.int 0)) (d2:=decide (V.int (tvs.length:Int)=V.int 0)) (λQ' q=>(i0i _ rfl rfl _ rfl q)) (λQ' q=>(i0m _ rfl tl _ rfl (.inl (SqL.of hBt)) (i05 rfl _ rfl q))) ?_
   cases hb:(decide (V.int (m2:Int)=V.int 0)&&decide (V.int (tvs.length:Int)=V.int 0)) with
   | true=>exact A5h ⟨rfl,(i06 1 rfl (by decide) (by lia))⟩
   | false =>
    refine A2u ⟨rfl,(i06 m2 rfl m28 ?_)⟩;by_cases z:m2=0
    ·by_cases z2:tvs.length=0
     ·rw [z,z2] at hb;exact absurd hb (by decide)
     ·lia
    ·lia
  rintro Z G' ⟨rfl,m,rfl,m8,mt⟩;clear m6 em c3 m28 em2 c4 m2;obtain ⟨zs,ezs,lzs,_⟩:=C6x V.int ns (some 8) (some 71)
  have lz71:zs.length<=71:=by
   have:=D9n (ns.map V.int) (some 8) 71;rw [show (some ((71:Nat):Int))=some (71:Int) from rfl,ezs,Z08] at this;exact this
  refine i0z _ rfl _ rfl _ rfl a _ rfl ((s3.trans (sG.trans sGB)).seq hS) λcl hcl=> ?_;rw [ezs];have sC:=A0f (o:= .lst (zs.map V.int)) hcl;have eC:upd H5 cl (.lst (zs.map V.int)) cl=some (.lst (zs.map V.int)):=A0b;have hB0:=sGB _ _ hG;have c1:cl≠arl:=λe=>by rw [e,hB0] at hcl;cases hcl
  have c2:cl≠ll:=λe=>by rw [e,hBl] at hcl;cases hcl
  generalize upd H5 cl (.lst (zs.map V.int))=HB at sC eC;have sGB:=sGB.trans sC;have hBt:=sC _ _ hBt;have hBl:=sC _ _ hBl;have hB0:=sC _ _ hB0;clear sC hcl;have rBc:A1a (S2P arl ll) HB cl=some (.lst (zs.map V.int)):=A0i ⟨c1,c2⟩ eC;have rBt:A1a (S2P arl ll) HB tl=some (.lst tvs):=A0i ⟨tlG,tlL⟩ hBt;have toS:∀b o,G b=some o->b≠arl->S2P arl ll b:=λb o hb h=>⟨h,λe=>by rw [e,llG] at hb;cases hb⟩;have pB:Paired (C7s (A1a (S2P arl ll) HB) (A3t ax)) tvs tb:=Paired.mapP pG λv e z=>z.same (A3b sGB toS);have s3B:=sG.trans sGB;have llH:H3 ll=none:=sG.free llG;clear pG toS;refine i0j _ rfl _ rfl (by lia) ⟨by lia,?_⟩
  refine A3r (n:=((m:Nat):Int).toNat) (λi Z G=>∃(o5 o6 o11 o12 o13 o14 o15 o16 o17:Option V) (avs lvs:List V) (es:List (Str×List Str)) (ls:List Lt),Z=[Sro a,Sro nl,Sro d,Sro gl,Sro arl,o5,o6,Sro tl,Sro ll,Sio (m:Int),Sro cl,o11,o12,o13,o14,o15,o16,o17,none]/\A1f H3 G/\A1f (A1a (S2P arl ll) HB) (A1a (S2P arl ll) G)/\G arl=some (.lst avs)/\Paired (C7s (A1a (S2P arl ll) G) (A3t ax)) avs es/\es.length=tb.length+i/\G ll=some (.lst lvs)/\Paired (D5g (A1a (S2P arl ll) G)) lvs ls/\ls.length=i/\∀e∈ls,D7k (A3t ax) e)
   (i03 o5 o6 (i1d none none none none none none none tvs [] tb [] rfl s3B (A1f.refl _) ⟨hB0,(i0g pB rfl hBl .nil rfl λe he=>by cases he)⟩)) ?_ ?_
  ·clear o5 o6;rintro i Z G hi zz;refine e0f zz ?_;clear zz;rintro o5 o6 o11 o12 o13 o14 o15 o16 o17 ⟨avs,lvs,es,ls,rfl,sG,sS,hA,pA,lA,hL,pL,lL,okL⟩;rw [Int.toNat_natCast] at hi;rw [Int.zero_add];have hyi:nm[14+i]? =some nm[14+i]:=Z0b (by lia);have ey:atI (nm.map V.str) (14+(i:Int))=some (.str nm[14+i]):=A1s (j:=14+i) (by rw [Z1z,hyi];rfl);have ny:=(hn _ (Z13 hyi)).1.1;have oy:=(hn _ (Z13 hyi)).1.2;generalize nm[14+i]=y at ey ny oy;have hy0:nm[0]? =some nm[0]:=Z0b (by lia);have ey0:atI (nm.map V.str) 0=some (.str nm[0]):=A1s (j:=0) (by rw [Z1z,hy0];rfl);refine i0v _ rfl a ns 5 rfl ((s3.trans sG).seq hS) (by decide) λc=>(i0q _ rfl c (i:Int) rfl (by lia) (by lia) λr=> ?_);refine i02 _ rfl (i0j _ rfl _ rfl (A0q rfl) λz2 hz2=> ?_);have sz:=A0f (o:= .lst [.int 12,.int 60]) hz2;have hz3:upd G z2 (.lst [.int 12,.int 60]) z2=some (.lst [.int 12,.int 60]):=A0b;generalize upd G z2 (.lst [.int 12,.int 60])=G1 at sz hz3;have t1:=sG.trans sz;obtain ⟨g0,eg0⟩:=C9k (ax:=ax) (k:=Sum.inr nm[0])
   obtain ⟨b,eb⟩:∃b:Int,atI [V.int 12,V.int 60] (if decide ((4:Int)<g0)=true then 1 else 0)=some (.int b):=by
    cases decide ((4:Int)<g0) with
    | true=>exact ⟨60,rfl⟩
    | false=>exact ⟨12,rfl⟩
   refine i0j _ rfl d rfl (.inl ⟨_,.inl (t1 _ _ h3d)⟩) (i10 _ rfl nl _ _ _ rfl rfl (SqL.of (t1 _ _ h3n)) ey0 (i0m _ (B8e.k (k:=Sum.inr nm[0]) (t1 _ _ h3d)) g0 _ eg0 rfl (.inr (i10 _ rfl z2 _ _ _ rfl rfl (SqL.of hz3) eb ?_))));refine ⟨r,(i11 b gl d (ax.map (·.1)) (A3t ax) rfl (t1 _ _ h3g) axl (t1 _ _ h3d) lkk.dk λxl ys G2 hxl s12 hx2 sub l3 pm=> ?_)⟩;have t2:=t1.trans s12;have dky:B4r (A3t ax) ys:=λy hy=>lkk.dk y (sub y hy);have nky:NmS ys:=λy hy=>lkk.hn y (sub y hy);refine i15 _ rfl _ rfl xl d ys (A3t ax) rfl hx2 (t2 _ _ h3d) dky λzz z1 mo=> ?_;have zb:=(mo.le dky).2;have zb5:=D5y (n:=ys.length) (by lia);refine i0d _ _ rfl rfl (i09 ⟨by lia,by lia⟩ _ _ rfl (i07 _ _ rfl ?_));refine i0q _ rfl _ _ rfl rfl (i00 (by decide) (by decide) (by decide)) (i0k _ _ rfl rfl ⟨by decide +kernel,by decide +kernel⟩ (i0c _ rfl _ rfl (i0n _ rfl _ _ gl d (i0r (ax.map (·.1)) (A3t ax) rfl (t2 _ _ h3g) axl (t2 _ _ h3d) lkk.dk λcs ys2 G3 hcs s23 hc3 sub2 l32 _=>(i06 cs rfl ⟨_,SqL.of hc3⟩ λD hD=> ?_)))));have t3:=t2.trans s23
   refine A7f (K:=K) (a:=cs) (D:=D) (xs:=ys2.map V.str) (λi zs H3=>A1f G3 H3/\H3 D=some (.lst zs)/\∃su:List Str,zs=su.map V.str/\su.length<=i/\∀y∈su,y∈ax.map (·.1))
    (i00 (A0f hD) A0b (i06 [] rfl (Z09 _) (by intro y hy;cases hy))) (λi zs H3 ⟨s3,_⟩=>SqL.of (s3 _ _ hc3)) ?_ ?_
   ·rintro i x zs H3 hx ⟨s3,hD3,su,rfl,lsu,ssu⟩;obtain ⟨y,hy,rfl⟩:=A9m hx;have hi:i<ys2.length:=(Z03.mp hy).1;refine ⟨⟨rfl,True.intro⟩,(i14 _ rfl _ rfl xl _ rfl (.inl (SqL.of (s3 _ _ (s23 _ _ hx2)))) rfl (A4u ys) _ rfl ?_)⟩;refine C4v (λ_=> ?_) (λ_=>(i00 s3 hD3 (i06 su rfl (by lia) ssu)));refine ⟨_,(i0g rfl hD3 (A1l (by rw [Z08];lia)) (A0s s3 hD) A0b (i06 (su++[y]) (by simp) (by simp;lia) λx hx=> ?_))⟩;rcases Z07.mp hx with hx | hx
    ·exact ssu x hx
    ·rw [Z0w.mp hx];exact sub2 y (Z13 hy)
   rintro zs2 G4 ⟨s34,hD4,su0,rfl,lsu0,ssu0⟩;have t4:=t3.trans s34;obtain ⟨su,esu,lsu,msu⟩:=C6x V.str su0 none (some 2)
   have lsu2:su.length<=2:=by
    have:=D9n (su0.map V.str) none 2;rw [show (some ((2:Nat):Int))=some (2:Int) from rfl,esu,Z08] at this;exact this
   refine i0m _ rfl D _ rfl (SqL.of hD4) λsl hsl=> ?_;rw [esu];have s45:=A0f (o:= .lst (su.map V.str)) hsl;have hs5:upd G4 sl (.lst (su.map V.str)) sl=some (.lst (su.map V.str)):=A0b;generalize upd G4 sl (.lst (su.map V.str))=G5 at s45 hs5;have t5:=t4.trans s45;have x5:=s45 _ _ (s34 _ _ (s23 _ _ hx2));have sG5:=sz.trans (s12.trans (s23.trans (s34.trans s45)));refine i0m _ rfl arl _ rfl (.inl (SqL.of (sG5 _ _ hA))) λcp hcp=> ?_;have s56:=A0f (o:= .lst avs) hcp;have hc6:upd G5 cp (.lst avs) cp=some (.lst avs):=A0b;generalize upd G5 cp (.lst avs)=G6 at s56 hc6;have t6:=t5.trans s56;refine i0z _ rfl _ rfl _ rfl _ _ rfl rfl (i0w nl _ _ _ rfl rfl (SqL.of (t6 _ _ h3n)) ey (i06 _ rfl (A0q rfl) λot hot=>⟨A0q rfl,λbk hbk=> ?_⟩));have s67:=A0f (o:= .tup [.str y,.ref xl]) hot;have s78:=A0f (o:= .tup [.ref cp,.ref d,.ref ot]) hbk;have ho8:=s78 _ _ (A0b (H:=G6) (a:=ot) (o:= .tup [.str y,.ref xl]));have hb8:upd (upd G6 ot (.tup [.str y,.ref xl])) bk (.tup [.ref cp,.ref d,.ref ot]) bk=some (.tup [.ref cp,.ref d,.ref ot]):=A0b;have s68:=s67.trans s78;generalize upd (upd G6 ot (.tup [.str y,.ref xl])) bk (.tup [.ref cp,.ref d,.ref ot])=G8 at s68 ho8 hb8;clear s67 s78;have t8:=t6.trans s68;have sG8:=sG5.trans (s56.trans s68);have hcl8:G8 cl=some (.lst (zs.map V.int)):=sG8 _ _ (A0j _ _ (sS _ _ rBc));refine i0u _ rfl _ rfl cl _ rfl (.inl (SqL.of hcl8)) (i02 _ rfl (i0l (i:Int) _ (m:Int) rfl (i0g (by lia) (by lia) (by lia) (by rw [Z08];lia) (by lia) (by lia)) λF hF=> ?_));refine B7k (D:=F) (Builtin.Range.rangeSize (i:Int) ((zs.map V.int).length:Int) (m:Int)).toNat (λj ys H3=>A1f G8 H3/\H3 F=some (.lst ys)/\j<=(Builtin.Range.rangeSize (i:Int) ((zs.map V.int).length:Int) (m:Int)).toNat/\∃qs:List Int,ys=qs.map V.int/\qs.length=j) (i00 (A0f hF) A0b (i05 (Z1e _) [] rfl rfl)) (λi ys H3 hi _=>hi) (λys H3 _=>rfl) ?_ ?_
   ·rintro j ys' H3' hj ⟨s3',hF3,_,qs,rfl,lqs⟩ x H4' ⟨rfl,rfl⟩;have lt:=D2h (by lia) hj;have mj:0<=(j:Int)*(m:Int):=Int.mul_nonneg (by lia) (by lia);obtain ⟨z,_,ez⟩:=A5u (f:=V.int) (xs:=zs) (i:=(i:Int)+(j:Int)*(m:Int)) (by lia) (by rw [Z08] at lt;exact lt);have lsz:=(D2f (a:=(i:Int)) (b:=((zs.map V.int).length:Int)) (c:=(m:Int)) (i0g (by lia) (by lia) (by lia) (by rw [Z08];lia) (by lia) (by lia))).2;refine ⟨⟨rfl,True.intro⟩,(i15 _ rfl _ rfl cl _ _ _ rfl rfl (SqL.of (s3' _ _ hcl8)) ez (i08 hF3 (A1l (by rw [Z08];lia)) (A0s s3' hF) A0b (i05 hj (qs++[z]) (by simp) (by simp [lqs]))))⟩
   rintro ys' G9 ⟨s89,hF9,_,qs,rfl,lqs⟩;have t9:=t8.trans s89;have sG9:=sG8.trans s89;have x9:=s89 _ _ (s68 _ _ (s56 _ _ x5));have y9:=s89 _ _ (s68 _ _ (s56 _ _ hs5));refine i18 _ rfl _ rfl xl sl _ _ rfl rfl x9 y9 (A1k (by rw [Z08,Z08];lia)) λsc hsc=> ?_;have s9a:=A0f (o:= .lst (ys.map V.str++su.map V.str)) hsc;have hsa:upd G9 sc (.lst (ys.map V.str++su.map V.str)) sc=some (.lst ((ys++su).map V.str)):=by rw [A0b,Z0s]
   generalize upd G9 sc (.lst (ys.map V.str++su.map V.str))=Ga at s9a hsa;have ta:=t9.trans s9a;have sGa:=sG9.trans s9a;have s8a:=s89.trans s9a;have m5:0<=(m:Int)/5:=by lia
   refine i0c _ rfl _ rfl (i0x _ _ rfl rfl ⟨by decide,by decide⟩ _ _ rfl rfl (i0k _ _ rfl rfl ⟨by lia,by lia⟩ ?_));have frS:∀{F:Hp},A1f G F->Fr (S2P arl ll) F:=λ{F} s b hb=>⟨(λe=>by rw [e,s _ _ hA] at hb;cases hb),λe=>by rw [e,s _ _ hL] at hb;cases hb⟩;have pA':Paired (C7s Ga (A3t ax)) avs es:=Paired.mapP pA λv e z=>(z.same A0j).same sGa;have lm:(120:Int)/(1+(m:Int)/5)<=120:=Int.ediv_le_self _ (by decide);refine i03 F sc (i1d bk cp d (.ref ot) _ qs es (ys++su) (ax.map (·.1)) (A3t ax) (S2P arl ll) rfl (s9a _ _ hF9) (.add hsa nky dky (by rw [Z06];lia) lkk.hn lkk.dk (λz hz=>ssu0 z (msu z hz))) (i00 (by rw [Z06];lia) (s8a _ _ hb8) (i0g (i06 avs (s8a _ _ (s68 _ _ hc6)) pA' (by lia)) (lkk.same ta) (.inr (i0e (y,ys) ot xl rfl (i0g (s8a _ _ ho8) (s9a _ _ x9) ⟨by show y.length<=60;lia,oy⟩ l3 nky dky))) lm (frS sGa) λtv u Gb sab rp wu tu du nu=> ?_)));have sGb:=sGa.trans sab;have tb':=ta.trans sab;have yb:=sab _ _ (s9a _ _ y9);refine i0m _ rfl sl _ rfl (SqL.of yb) ?_;refine B6e (K:=K) (a:=sl) (xs:=su.map V.str) (λj Z Gc=>∃(o14:Option V) (v:V) (u:Tm),Z=[Sro a,Sro nl,Sro d,Sro gl,Sro arl,o5,Sio r,Sro tl,Sro ll,Sio (m:Int),Sro cl,Sio (i:Int),some (.ref xl),_,o14,Sro sl,Sro bk,some v,none]/\A1f Gb Gc/\Rep (A1a (S2P arl ll) Gc) v (A1t u)/\TmW u/\TmS u/\dep u<=14+j/\nod u<=120+j) (i0e _ tv u rfl (i0g (A1f.refl _) rp wu (D4b _ tu) du nu)) (by rintro j Z Gc ⟨_,_,_,_,sc,_⟩;exact SqL.of (sc _ _ yb)) ?_ ?_
   ·rintro j x Z Gc hj hx zz;refine e09 zz ?_;clear zz;rintro o14' v u' rfl sc' rp' ⟨wu',ts',du',nu'⟩;obtain ⟨x0,hx0,rfl⟩:=A9m hx;have mx0:=lkk.hn x0 (ssu0 x0 (msu x0 (Z13 hx0)));refine i0j _ rfl _ rfl (A0q rfl) λtp htp=> ?_;have sT:=A0f (o:= .tup [.str "sum",.str x0,v]) htp;exact i0e _ _ (.sum x0 u') rfl (i0g (sc'.trans sT) (D0o (A0i (frS (sGb.trans sc') tp htp) A0b) (rp'.same (A0h sT))) ⟨mx0.1,wu'⟩ ts' (by simp only [dep];lia) (by simp only [nod];lia))
   rintro Z Gc zz;refine e09 zz ?_;clear zz;rintro o14' v u' rfl sbc rp' ⟨wu',ts',du',nu'⟩;rw [Z08] at du' nu';have sGc:=sGb.trans sbc;have tc:=tb'.trans sbc;have xc:=sbc _ _ (sab _ _ (s9a _ _ x9));have lvl:=Paired.length pL;have avl:=Paired.length pA;refine i06 _ rfl (.inl (i01 rfl _ (SqL.of (sGc _ _ hL)))) (i0u _ rfl _ rfl _ _ rfl rfl (i0w nl _ _ _ rfl rfl (SqL.of (tc _ _ h3n)) ey (i0j _ rfl _ rfl (A0q rfl) λq1 hq1=> ?_)));have sq1:=A0f (o:= .tup [.str y,.ref xl,v]) hq1;have eq1:upd Gc q1 (.tup [.str y,.ref xl,v]) q1=some (.tup [.str y,.ref xl,v]):=A0b;have Sq1:=frS sGc q1 hq1;generalize upd Gc q1 (.tup [.str y,.ref xl,v])=Gd at sq1 eq1;have sGd:=sGc.trans sq1;have td:=tc.trans sq1;have hLd:=sGd _ _ hL;have hAd:=sGd _ _ hA;have Sxl:S2P arl ll xl:=⟨(λe=>by rw [e,sz _ _ hA] at hxl;cases hxl),λe=>by rw [e,sz _ _ hL] at hxl;cases hxl⟩;have la:ll≠arl:=λe=>by rw [e,hG] at llG;cases llG
   refine i0s ll _ _ rfl rfl hLd (A1l (by lia)) ?_;have k1:A1f (A1a (S2P arl ll) Gd) (A1a (S2P arl ll) (upd Gd ll (.lst (lvs++[.ref q1])))):=A2o (A1f.refl _) λz=>z.2 rfl;have te:A1f H3 (upd Gd ll (.lst (lvs++[.ref q1]))):=A0s td llH;have hAe:upd Gd ll (.lst (lvs++[.ref q1])) arl=some (.lst avs):=by rw [A0k la.symm];exact hAd
   have hLe:upd Gd ll (.lst (lvs++[.ref q1])) ll=some (.lst (lvs++[.ref q1])):=A0b;generalize upd Gd ll (.lst (lvs++[.ref q1]))=Ge at k1 te hAe hLe;have frE:∀b,Ge b=none->S2P arl ll b:=λb hb=>⟨(λe=>by rw [e,hAe] at hb;cases hb),λe=>by rw [e,hLe] at hb;cases hb⟩;refine i06 _ rfl (.inl (i01 rfl _ (SqL.of hAe))) (i0u _ rfl _ rfl _ _ rfl rfl (i0w nl _ _ _ rfl rfl (SqL.of (te _ _ h3n)) ey (i06 _ rfl (A0q rfl) λq2 hq2=> ?_)));have sq2:=A0f (o:= .tup [.str y,.ref xl]) hq2;have eq2:upd Ge q2 (.tup [.str y,.ref xl]) q2=some (.tup [.str y,.ref xl]):=A0b;have Sq2:=frE q2 hq2;generalize upd Ge q2 (.tup [.str y,.ref xl])=Gf at sq2 eq2;refine i0s arl _ _ rfl rfl (sq2 _ _ hAe) (A1l (by lia)) ?_;have k2:A1f (A1a (S2P arl ll) Gd) (A1a (S2P arl ll) (upd Gf arl (.lst (avs++[.ref q2])))):=A2o (k1.trans (A0h sq2)) λz=>z.1 rfl;have kG:=(A0h (S:=S2P arl ll) sGd).trans k2;refine i03 _ _ (i1d _ _ _ _ _ _ _ (avs++[.ref q2]) (lvs++[.ref q1]) (es++[(y,ys)]) (ls++[(y,ys,u')]) rfl (A0s (te.trans sq2) harl) (sS.trans kG) ⟨A0b,(i0g (B2c (Paired.mapP pA λv e z=>z.same kG) (.cons (i0r q2 xl rfl (A0i Sq2 (by rw [A0k Sq2.1];exact eq2)) (k2 _ _ (A0i Sxl (sq1 _ _ xc))) ⟨by show y.length<=60;lia,oy⟩ l3 ⟨nky,dky⟩) .nil)) (by rw [Z06,lA];simp only [Z0y,Z2g];lia) (by rw [A0k la];exact sq2 _ _ hLe) (B2c (Paired.mapP pL λv e z=>z.same kG) (.cons (i0p q1 xl v rfl (k2 _ _ (A0i Sq1 eq1)) (k2 _ _ (A0i Sxl (sq1 _ _ xc))) ((rp'.same (A0h sq1)).same k2)) .nil)) (by rw [Z06,lL];rfl) λe he=> ?_)⟩);rcases Z07.mp he with he | he
   ·exact okL e he
   ·rw [Z0w.mp he];exact ⟨oy,by show y.length<=60;lia,l3,nky,wu',ts',by show dep u'<=16;lia,by show nod u'<=122;lia⟩
  clear o5 o6;rintro Z G zz;refine e0f zz ?_;clear zz;rintro o5 o6 o11 o12 o13 o14 o15 o16 o17 ⟨avs,lvs,es,ls,rfl,sG,sS,hA,pA,lA,hL,pL,lL,okL⟩;rw [Int.toNat_natCast] at lA lL;refine i0v _ rfl a ns 6 rfl ((s3.trans sG).seq hS) (by decide) λc6=>(i0k c6 1 rfl (by decide) (by decide) λr=> ?_)
  obtain ⟨b,b0,eb⟩:∃b:Int,0<b/\atI [V.int 20,V.int ((10:Int)^(30:Int).toNat-2),V.int ((10:Int)^(30:Int).toNat-2),V.int ((10:Int)^(9:Int).toNat)] (r%4)=some (.int b):=by
   have h4:r%4=0\/r%4=1\/r%4=2\/r%4=3:=by lia
   have e30:(0:Int)<(10:Int)^(30:Int).toNat-2:=by decide +kernel
   have e9:(0:Int)<(10:Int)^(9:Int).toNat:=by decide +kernel
   rcases h4 with e | e | e | e <;> rw [e]
   ·exact i02 _ (by decide) rfl
   ·exact i02 _ e30 rfl
   ·exact i02 _ e30 rfl
   ·exact i02 _ e9 rfl
  refine i0q _ rfl _ _ rfl rfl ⟨by decide,by decide⟩ (i0x _ _ rfl rfl (i00 (by decide) (by decide) (by decide)) _ _ rfl rfl (i0x _ _ rfl rfl (i00 (by decide) (by decide) (by decide)) _ _ rfl rfl (i0o _ _ rfl rfl (i00 (by decide) (by decide) (by decide)) (A0q rfl) λwl hwl=> ?_)));have sw:=A0f (o:= .lst [V.int 20,V.int ((10:Int)^(30:Int).toNat-2),V.int ((10:Int)^(30:Int).toNat-2),V.int ((10:Int)^(9:Int).toNat)]) hwl;refine i0q _ rfl _ _ rfl rfl D7d (i0w wl _ _ _ rfl rfl (SqL.of A0b) eb (i0x _ _ rfl rfl b0 _ _ rfl rfl ?_));generalize upd G wl (.lst [V.int 20,V.int ((10:Int)^(30:Int).toNat-2),V.int ((10:Int)^(30:Int).toNat-2),V.int ((10:Int)^(9:Int).toNat)])=G1 at sw;have lav:=Paired.length pA;obtain ⟨vl,f1,f2⟩:=C1v (xs:=avs) (by lia);obtain ⟨e,he,q,al,rfl,hq,hal,_⟩:=B2l pA f1;refine i0c _ rfl _ rfl (i0c _ rfl _ rfl (i15 _ rfl _ rfl arl _ _ _ rfl rfl (SqL.of (sw _ _ hA)) f2 (i0y q _ _ _ rfl rfl (SqT.of (sw _ _ (A0j _ _ hq))) rfl (A0q rfl) λol hol=>⟨A0q rfl,λp hp=> ?_⟩)));have s1':=A0f (o:= .lst [.str e.1]) hol;have s2':=A0f (o:= .tup [.int (2+r/4%b),.ref d,.ref tl,.ref ll,.ref ol]) hp;have sE:=sw.trans (s1'.trans s2');refine k p ax tb ls _ (s3.trans (sG.trans sE)) ⟨(i0f (2+r/4%b) d tl ll (i0y ol tvs lvs e.1 A0b (sE _ _ (sG _ _ h3d)) (sE _ _ (A0j _ _ (sS _ _ rBt))) (Paired.mapP pB λv e z=>((z.same sS).same A0j).same sE) (sE _ _ hL) ⟨Paired.mapP pL λv e z=>(z.same A0j).same sE,s2' _ _ A0b⟩)),hax,by lia,by lia,okL⟩
theorem A6d:∀u:Tm,A1t u=enc u
 | .num _=>rfl
 | .place _=>rfl
 | .read _ _=>rfl
 | .sum x b=>by show PyData.tuple [.str "sum",.str x,A1t b]= .tuple [.str "sum",.str x,enc b];rw [A6d b]
 | .pair k l r=>by cases k <;> (show PyData.tuple [_,A1t l,A1t r]= .tuple [_,enc l,enc r];rw [A6d l,A6d r];rfl)
 | .guard x lo hi l r=>by show PyData.tuple [.str "guard",.str x,.int lo,.int hi,A1t l,A1t r]= .tuple [.str "guard",.str x,.int lo,.int hi,enc l,enc r];rw [A6d l,A6d r]
theorem B4y:∀u:Tm,TmW u->TmS u->PyData.canLay0 (enc u)=true/\PyData.depth (enc u)<=dep u+2
 | .num z,_,_=>by simp [enc,PyData.canLay0,PyData.canLayAll0,PyData.depth,PyData.depthAll,dep];decide +kernel
 | .place x,h,_=>by
  have:PyData.strOk x=true:=h.2;simp [enc,PyData.canLay0,PyData.canLayAll0,PyData.depth,PyData.depthAll,dep,this];decide +kernel
 | .read a ix,h,hs=>by
  have h0:PyData.strOk a=true:=hs;obtain ⟨h1,h2⟩:=D9e ix h.2.2;constructor
  ·simp [enc,A5b,PyData.canLay0,PyData.canLayAll0,h0,h1];decide +kernel
  ·simp [enc,A5b,PyData.depth,PyData.depthAll,dep];lia
 | .sum x b,h,hs=>by
  have h0:PyData.strOk x=true:=h.1.2;obtain ⟨h1,h2⟩:=B4y b h.2 hs;constructor
  ·simp [enc,PyData.canLay0,PyData.canLayAll0,h0,h1];decide +kernel
  ·simp [enc,PyData.depth,PyData.depthAll,dep];lia
 | .pair k l r,h,hs=>by
  obtain ⟨h1,h2⟩:=B4y l h.1 hs.1;obtain ⟨h3,h4⟩:=B4y r h.2 hs.2;constructor
  ·simp [enc,PyData.canLay0,PyData.canLayAll0,D1o,h1,h3]
  ·simp [enc,PyData.depth,PyData.depthAll,dep];lia
 | .guard x lo hi l r,h,hs=>by
  have h0:PyData.strOk x=true:=h.1.2;obtain ⟨h1,h2⟩:=B4y l h.2.2.2.1 hs.1;obtain ⟨h3,h4⟩:=B4y r h.2.2.2.2 hs.2;constructor
  ·simp [enc,PyData.canLay0,PyData.canLayAll0,h0,h1,h3];decide +kernel
  ·simp [enc,PyData.depth,PyData.depthAll,dep];lia
theorem B7z (h:TmW u) (s:TmS u) (hd:dep u<=40):SeqAt.shaped (A1t u)=true:=by
 obtain ⟨h1,h2⟩:=B4y u h s;rw [A6d];simp only [SeqAt.shaped,h1,Bool.true_and,decide_eq_true_eq]
 lia
theorem D6w {a:Tm} (h:PyData.eqv (A1t a) (A1t b)=true):a=b:=D3r a b (by rw [A6d,A6d] at h;exact h)
theorem B9e {kp:Addr} (k:KB kp H H') (n:¬S kp):A1f (A1a S H) (A1a S H'):=λb o e=>A0i (A0t e).1 (k b o (λz=>n (z▸(A0t e).1)) (A0t e).2)
theorem B1a {kp b:Addr} (k:KB kp H H') (h:H' kp=some o) (hb:H' b=none):H b=none:=by
 cases e:H b with
 | none=>rfl
 | some u =>
  have:b≠kp:=λz=>by rw [z,h] at hb;cases hb
  rw [k b u this e] at hb;cases hb
def D2d (A:Adr) (H:Hp) (v:V):Prop:=∃(q:Addr) (tv ov:V) (u:Tm),v= .ref q/\H q=some (.tup [tv,ov])/\Rep H tv (A1t u)/\TmW u/\TmS u/\dep u<=40/\Ob A H ov u
theorem D2d.same (h:D2d A H v) (s:A1f H H'):D2d A H' v:=by
 refine e0d h ?_;clear h;rintro q tv ov u rfl e r w ⟨t,d,o⟩;exact i0y q tv ov u rfl (s _ _ e) (r.same s) w t ⟨d,o.imp s⟩
structure D9g (A:Adr) (S:Addr->Prop) (H:Hp) (v:V) (kp:Addr) (kvs:List V) (u:Tm):Prop where
 ns:¬S kp
 fr:Fr S H
 hk:H kp=some (.lst kvs)
 kv:∀x∈kvs,D2d A (A1a S H) x
 l:kvs.length+nod u<=100000
 rp:Rep (A1a S H) v (A1t u)
 w:TmW u
 s:TmS u
 d:dep u<=40
def D5m (A:Adr) (S:Addr->Prop) (kp:Addr) (kvs:List V) (n:Nat) (u:Tm) (H:Hp) (Q:VK):Prop:=∀(v':V) (kvs':List V) (H':Hp),KB kp H H'->H' kp=some (.lst kvs')->(∀x∈kvs',D2d A (A1a S H') x)->kvs'.length+n<=kvs.length+nod u->Ob A (A1a S H') v' u->Q v' H'
def B3t (A:Adr) (n:Nat):Sp:=λvs H Q _=>∃(v:V) (kp:Addr) (kvs:List V) (u:Tm) (S:Addr->Prop),vs=[v,.ref kp]/\D9g A S H v kp kvs u/\dep u<=n/\D5m A S kp kvs 0 u H Q
def C4z (A:Adr) (n:Nat):Sp:=λvs H Q _=>∃(v:V) (kp:Addr) (kvs:List V) (u:Tm) (S:Addr->Prop),vs=[v,.ref kp]/\D9g A S H v kp kvs u/\dep u<=n/\D5m A S kp kvs 1 u H Q
theorem sne {a b:Str} {C:Prop} (h:V.str a=V.str b) (n:¬a=b):C:=absurd (V.str.inj h) n
theorem D3m (T:Txt K mg t) (hm:6<=m) (Ge3:A2y P w K mg base CX0 m t.qa t.og B2n (B3t t n)):A2y P w K mg base CX0 (m+1) t.jd t.je B2n (C4z t (n+1)):=by
 have Ga8:= @A8t P w K mg base t T;have Ge4:= @B6a P w K mg base t T;have Gb9:= @B1r P w K mg base t T;have Ga7:= @B0g P w K mg base t T;have Ga6:= @A5y P w K mg base t T;have Ge5:= @B9o P w K mg base t T;refine T.p8.F.ok A7e (λvs H Q E h=> ?_) λ_ A _ s H _ Q E hr h=> ?_
 ·refine e08 h ?_;clear h;rintro v kp kvs u S ⟨rfl,_⟩;rfl
 ·refine e08 h ?_;clear h;rintro v kp kvs u S ⟨rfl,⟨ns,fr,hk,kv,lk,rp,wu,su,du⟩,hd,k⟩;refine i02 _ (@A0c _ _ _ _ _ (@A1z _ _ _ _ _ _ _ _ (@A0o _ _ _ _ _ _ _ _ A2j (@A0z _ _ _ _ _ _ _ A0w (pv 0) A0e (λ_ _=>rfl)) A1h (A1e _)) (@A0g _ _ _ (@A0u _ _ _ _ (pmk T.qh Ga8 hr T.ue T.cy.b (@A0a _ _ _ _ _ (@A0z _ _ _ _ _ _ _ A0w (pv 0) A0e (λ_ _=>rfl)) A0d rfl)))) A1d) (@A0c _ _ _ _ _ (@A1z _ _ _ _ _ _ _ _ (@A0o _ _ _ _ _ _ _ _ A2j (@A0z _ _ _ _ _ _ _ A0w (pv 0) A0e (λ_ _=>rfl)) A1h (A1e _)) (@A0g _ _ _ (@A0u _ _ _ _ (pmk T.yn Ge4 hr T.xV T.ja.b (@A0a _ _ _ _ _ (@A0z _ _ _ _ _ _ _ A0w (pv 0) A0e (λ_ _=>rfl)) A0d rfl)))) A1d) (@A0c _ _ _ _ _ (@A1z _ _ _ _ _ _ _ _ (@A0o _ _ _ _ _ _ _ _ A2j (@A0z _ _ _ _ _ _ _ A0w (pv 0) A0e (λ_ _=>rfl)) A1h (A1e _)) (@A0g _ _ _ (@A0u _ _ _ _ (pmk T.xS Gb9 hr T.xJ T.ik.b (@A0a _ _ _ _ _ (@A0z _ _ _ _ _ _ _ A0w (pv 0) A0e (λ_ _=>rfl)) (@A0a _ _ _ _ _ (A2a A4t (by rfl) T.cx Z1o (@A0a _ _ _ _ _ (@A0z _ _ _ _ _ _ _ A0w (pv 0) A0e (λ_ _=>rfl)) A0d rfl)) A0d rfl) rfl)))) A1d) (@A0c _ _ _ _ _ (@A1z _ _ _ _ _ _ _ _ (@A0o _ _ _ _ _ _ _ _ A2j (@A0z _ _ _ _ _ _ _ A0w (pv 0) A0e (λ_ _=>rfl)) A1h (A1e _)) (@A0g _ _ _ (@A0u _ _ _ _ (pmk T.z6 Ge5 hr T.xj T.nh.b (@A0a _ _ _ _ _ (@A0z _ _ _ _ _ _ _ A0w (pv 0) A0e (λ_ _=>rfl)) (@A0a _ _ _ _ _ (pcl Ge3 hr T.gm (@A0a _ _ _ _ _ (@A0z _ _ _ _ _ _ _ A0w (pv 0) A0e (λ_ _=>rfl)) (@A0a _ _ _ _ _ (pv 1) A0d rfl) rfl)) A0d rfl) rfl)))) A1d) (@A0c _ _ _ _ _ (@A0l _ _ 2 _ _ _ _ A7e.nd rfl (.inl rfl) (pcl Ge3 hr T.gm (@A0a _ _ _ _ _ (@A0z _ _ _ _ _ _ _ A0w (pv 0) (B7a B1s A0e) (λ_ _=>rfl)) (@A0a _ _ _ _ _ (pv 1) A0d rfl) rfl)) rfl (by first | exact Or.inl rfl | exact Or.inr rfl | assumption)) (@A0c _ _ _ _ _ (@A0l _ _ 3 _ _ _ _ A7e.nd rfl (.inl rfl) (pcl Ge3 hr T.gm (@A0a _ _ _ _ _ (@A0z _ _ _ _ _ _ _ A0w (pv 0) (B7a B1s A0e) (λ_ _=>rfl)) (@A0a _ _ _ _ _ (pv 1) A0d rfl) rfl)) rfl (by first | exact Or.inl rfl | exact Or.inr rfl | assumption)) (@A0c _ _ _ _ _ (@A1z _ _ _ _ _ _ _ _ (@A0o _ _ _ _ _ _ _ _ A2j (@A0z _ _ _ _ _ _ _ A0w (pv 0) A0e (λ_ _=>rfl)) A1h (A1e _)) (@A0g _ _ _ (@A0u _ _ _ _ (pmk T.wZ Ga7 hr T.p_ T.g9.b (@A0a _ _ _ _ _ (@A0z _ _ _ _ _ _ _ A0w (pv 0) A0e (λ_ _=>rfl)) (@A0a _ _ _ _ _ (@A0z _ _ _ _ _ _ _ A0w (pv 0) A0e (λ_ _=>rfl)) (@A0a _ _ _ _ _ (@A0z _ _ _ _ _ _ _ A0w (pv 0) A0e (λ_ _=>rfl)) (@A0a _ _ _ _ _ (pv 2) (@A0a _ _ _ _ _ (pv 3) A0d rfl) rfl) rfl) rfl) rfl)))) A1d) (@A0c _ _ _ _ _ (@A1z _ _ _ _ _ _ _ _ (@A0o _ _ _ _ _ _ _ _ A2j (@A0z _ _ _ _ _ _ _ A0w (pv 0) A0e (λ_ _=>rfl)) A1h (A1e _)) (@A0g _ _ _ (@A0u _ _ _ _ (pmk T.xW Ga6 hr T.yC T.bw.b (@A0a _ _ _ _ _ (pv 2) (@A0a _ _ _ _ _ (pv 3) A0d rfl) rfl)))) A1d) (@A0c _ _ _ _ _ (@A1z _ _ _ _ _ _ _ _ (@A0o _ _ _ _ _ _ _ _ A2j (@A0z _ _ _ _ _ _ _ A0w (pv 0) A0e (λ_ _=>rfl)) A1h (A1e _)) (@A0g _ _ _ (@A0u _ _ _ _ (pmk T.xC Ga6 hr T.xT T.bw.b (@A0a _ _ _ _ _ (pv 2) (@A0a _ _ _ _ _ (pv 3) A0d rfl) rfl)))) A1d) (@A0g _ _ _ (@A0u _ _ _ _ (pmk T.xr Ga6 hr T.xR T.bw.b (@A0a _ _ _ _ _ (pv 2) (@A0a _ _ _ _ _ (pv 3) A0d rfl) rfl))))))))))))) ?_;obtain ⟨q,xs,rfl,eq⟩:=A9f rp;have sq:=SqT.of (K:=K) (A0j _ _ eq);have out:∀(v':V) (kv':List V) (H1 H':Hp),KB kp H H1->H1 kp=some (.lst kv')->(∀x∈kv',D2d t (A1a S H1) x)->kv'.length+1<=kvs.length+nod u->A1f H1 H'->Ob t (A1a S H') v' u->Q v' H':=λv' kv' H1 H' kb h1 hv hl s ob=>k v' kv' H' (kb.trans (KB.of s)) (s _ _ h1) (λx hx=>(hv x hx).same (A0h s)) hl ob
  cases u with
  | num z =>
   obtain ⟨q',e1,e2⟩:=C7a (z:=z) rp;cases e1;have e2:=SqT.of (K:=K) (A0j _ _ e2);refine i19 _ rfl q _ _ _ rfl rfl e2 rfl rfl _ rfl (A4m (λ_=> ?_) (λh=>absurd rfl h));refine i10 _ rfl q _ _ _ rfl rfl e2 rfl λx dx hx hdx hne=>(i0y x _ dx _ rfl A0b T.cq T.cj rfl ?_);exact out _ kvs H _ KB.refl hk kv (Z09 _) (A2h hx hdx) (.num (A0i (fr x hx) A0b))
  | place z =>
   obtain ⟨q',e1,e2⟩:=B9a (x:=z) rp;cases e1;have e2:=SqT.of (K:=K) (A0j _ _ e2);refine i19 _ rfl q _ _ _ rfl rfl e2 rfl rfl _ rfl (A4m (λh=>sne h (by decide +kernel)) (λ_=> ?_));refine i19 _ rfl q _ _ _ rfl rfl e2 rfl rfl _ rfl (A4m (λ_=> ?_) (λh=>absurd rfl h));refine i10 _ rfl q _ _ _ rfl rfl e2 rfl λx dx hx hdx hne=>(i0y x _ dx _ rfl A0b T.fi T.iw rfl ?_);exact out _ kvs H _ KB.refl hk kv (Z09 _) (A2h hx hdx) (.place (A0i (fr x hx) A0b))
  | read a ix =>
   refine e09 (C1y (x:=a) (ix:=ix) rp) λq' l iv e1 e2 e3 ri=>?_;cases e1;have e2:=SqT.of (K:=K) (A0j _ _ e2);refine i19 _ rfl q _ _ _ rfl rfl e2 rfl rfl _ rfl (A4m (λh=>sne h (by decide +kernel)) (λ_=> ?_));refine i19 _ rfl q _ _ _ rfl rfl e2 rfl rfl _ rfl (A4m (λh=>sne h (by decide +kernel)) (λ_=> ?_));refine i19 _ rfl q _ _ _ rfl rfl e2 rfl rfl _ rfl (A4m (λ_=> ?_) (λh=>absurd rfl h));refine i10 _ rfl q _ _ _ rfl rfl e2 rfl (i10 _ rfl q _ _ _ rfl rfl e2 rfl (i0d l _ rfl (.inl (SqL.of (A0j _ _ e3))) λl2 hl2 x dx hx hdx hne=> ?_));have v1:A1f H (upd H l2 (.lst iv)):=A0f hl2;have hl21:upd H l2 (.lst iv) l2=some (.lst iv):=A0b;generalize upd H l2 (.lst iv)=G1 at v1 hl21 hx hdx⊢;have v2:A1f G1 (upd (upd G1 dx (.own x)) x (.ins t.ag dx [])):=A0s (A0f hdx) hx;have hx2:upd (upd G1 dx (.own x)) x (.ins t.ag dx []) x=some (.ins t.ag dx []):=A0b;generalize upd (upd G1 dx (.own x)) x (.ins t.ag dx [])=G2 at v2 hx2⊢;have wix:=wu.2.1;refine ⟨x,(i0w dx l2 a ix rfl hx2 (.lst (v2 _ _ hl21) (ri.same (A0j.trans (v1.trans v2)))) (by lia) λl' G3 hx3 rp3 kb3=>⟨rfl,?_⟩)⟩;have v3:A1f G1 G3:=λb o e=>kb3 b o (A1g e hx) (v2 _ _ e);exact out (.ref x) kvs H G3 KB.refl hk kv (Z09 _) (v1.trans v3) (.read (A0i (fr x (v1.free hx)) hx3) (rp3.same (A3b (A1f.refl _) λa o _ h=>fr a ((v1.trans v2).free h))))
  | sum x b =>
   obtain ⟨q',a,e1,e2,ra⟩:=B6m rp;cases e1;have e2:=SqT.of (K:=K) (A0j _ _ e2);simp only [dep] at hd du;simp only [nod] at lk;refine i19 _ rfl q _ _ _ rfl rfl e2 rfl rfl _ rfl (A4m (λh=>sne h (by decide +kernel)) (λ_=> ?_));refine i19 _ rfl q _ _ _ rfl rfl e2 rfl rfl _ rfl (A4m (λh=>sne h (by decide +kernel)) (λ_=> ?_));refine i19 _ rfl q _ _ _ rfl rfl e2 rfl rfl _ rfl (A4m (λh=>sne h (by decide +kernel)) (λ_=> ?_));refine i19 _ rfl q _ _ _ rfl rfl e2 rfl rfl _ rfl (A4m (λ_=> ?_) (λh=>absurd rfl h));refine i10 _ rfl q _ _ _ rfl rfl e2 rfl (i10 _ rfl q _ _ _ rfl rfl e2 rfl (i0n _ rfl a kp kvs b (i0a S rfl ⟨ns,fr,hk,kv,by lia,ra,wu.2,su,by lia⟩ (by lia) λv1 kv1 H1 kb1 hk1 kvv1 l1 ob1=>λy dx hx hdx hne=>(i11 y _ dx _ _ rfl A0b T.fk T.ij T.ii ⟨rfl,?_⟩))));exact out (.ref y) kv1 H1 _ kb1 hk1 kvv1 (by simp only [nod];lia) (A2h hx hdx) (.sum (A0i (fr y (B1a kb1 hk1 hx)) A0b) (ob1.imp (A0h (A2h hx hdx))))
  | pair kk l r =>
   refine e09 (B2f rp) λq' a b e1 e2 ra rb=>?_;cases e1;have e20:=e2;have e2:=SqT.of (K:=K) (A0j _ _ e2);simp only [dep] at hd du;simp only [nod] at lk;have tn:¬opS kk="number"/\¬opS kk="place"/\¬opS kk="read"/\¬opS kk="sum"/\¬opS kk="guard":=by cases kk <;> exact i08 (by decide +kernel) (by decide +kernel) (by decide +kernel) (by decide +kernel) (by decide +kernel)
   refine i19 _ rfl q _ _ _ rfl rfl e2 rfl rfl _ rfl (A4m (λh=>sne h tn.1) (λ_=> ?_));refine i19 _ rfl q _ _ _ rfl rfl e2 rfl rfl _ rfl (A4m (λh=>sne h tn.2.1) (λ_=> ?_));refine i19 _ rfl q _ _ _ rfl rfl e2 rfl rfl _ rfl (A4m (λh=>sne h tn.2.2.1) (λ_=> ?_));refine i19 _ rfl q _ _ _ rfl rfl e2 rfl rfl _ rfl (A4m (λh=>sne h tn.2.2.2.1) (λ_=> ?_));refine i15 _ rfl _ rfl q _ _ _ rfl rfl e2 rfl (i0n _ rfl a kp kvs l (i0a S rfl ⟨ns,fr,hk,kv,by lia,ra,wu.1,su.1,by lia⟩ (by lia) λv1 kv1 H1 kb1 hk1 kvv1 l1 ob1=> ?_));have r1:=B9e kb1 ns;have fr1:Fr S H1:=λy hy=>fr y (B1a kb1 hk1 hy);refine i15 _ rfl _ rfl q _ _ _ rfl rfl (SqT.of (A0j _ _ (r1 _ _ e20))) rfl (i0n _ rfl b kp kv1 r (i0a S rfl ⟨ns,fr1,hk1,kvv1,by lia,rb.same r1,wu.2,su.2,by lia⟩ (by lia) λv2 kv2 H2 kb2 hk2 kvv2 l2 ob2=> ?_));have kb12:=kb1.trans kb2;have r2:=B9e kb12 ns;have e3:=SqT.of (K:=K) (A0j _ _ (r2 _ _ e20))
   have fin:∀(o:Op3) (x dx:Addr),kk=o->H2 x=none->H2 dx=none->Q (.ref x) (upd (upd (upd H2 dx (.own x)) x (.ins (A9w t o) dx [])) x (.ins (A9w t o) dx [("left",v1),("right",v2)])):=by
    intro o x dx eo hx hdx;subst eo;exact out (.ref x) kv2 H2 _ kb12 hk2 kvv2 (by simp only [nod];lia) (A2h hx hdx) (.pair (A0i (fr x (B1a kb12 hk2 hx)) A0b) ((ob1.imp (B9e kb2 ns)).imp (A0h (A2h hx hdx))) (ob2.imp (A0h (A2h hx hdx))))
   refine i19 _ rfl q _ _ _ rfl rfl e3 rfl rfl _ rfl (A4m (λh=>sne h tn.2.2.2.2) (λ_=> ?_));refine i19 _ rfl q _ _ _ rfl rfl e3 rfl rfl _ rfl (A4m (λh0=> ?_) (λh0=> ?_))
   ·exact i0c _ rfl _ rfl λx dx hx hdx hne=>(i11 x _ dx _ _ rfl A0b (A7m T .plus) (B7o T .plus) (B9c T .plus) ⟨rfl,fin .plus x dx (by cases kk with | plus=>rfl | minus=>exact sne h0 (by decide +kernel) | times=>exact sne h0 (by decide +kernel)) hx hdx⟩)
   refine i19 _ rfl q _ _ _ rfl rfl e3 rfl rfl _ rfl (A4m (λh1=> ?_) (λh1=> ?_))
   ·exact i0c _ rfl _ rfl λx dx hx hdx hne=>(i11 x _ dx _ _ rfl A0b (A7m T .minus) (B7o T .minus) (B9c T .minus) ⟨rfl,fin .minus x dx (by cases kk with | minus=>rfl | plus=>exact sne h1 (by decide +kernel) | times=>exact sne h1 (by decide +kernel)) hx hdx⟩)
   exact i0c _ rfl _ rfl λx dx hx hdx hne=>(i11 x _ dx _ _ rfl A0b (A7m T .times) (B7o T .times) (B9c T .times) ⟨rfl,fin .times x dx (by cases kk with | times=>rfl | plus=>exact absurd rfl h0 | minus=>exact absurd rfl h1) hx hdx⟩)
  | guard x lo hi l r =>
   refine e09 (A7p rp) λq' a b e1 e2 ra rb=>?_;cases e1;have e20:=e2;have e2:=SqT.of (K:=K) (A0j _ _ e2);simp only [dep] at hd du;simp only [nod] at lk;refine i19 _ rfl q _ _ _ rfl rfl e2 rfl rfl _ rfl (A4m (λh=>sne h (by decide +kernel)) (λ_=> ?_));refine i19 _ rfl q _ _ _ rfl rfl e2 rfl rfl _ rfl (A4m (λh=>sne h (by decide +kernel)) (λ_=> ?_));refine i19 _ rfl q _ _ _ rfl rfl e2 rfl rfl _ rfl (A4m (λh=>sne h (by decide +kernel)) (λ_=> ?_));refine i19 _ rfl q _ _ _ rfl rfl e2 rfl rfl _ rfl (A4m (λh=>sne h (by decide +kernel)) (λ_=> ?_));refine i15 _ rfl _ rfl q _ _ _ rfl rfl e2 rfl (i0n _ rfl a kp kvs l (i0a S rfl ⟨ns,fr,hk,kv,by lia,ra,wu.2.2.2.1,su.1,by lia⟩ (by lia) λv1 kv1 H1 kb1 hk1 kvv1 l1 ob1=> ?_));have r1:=B9e kb1 ns;have fr1:Fr S H1:=λy hy=>fr y (B1a kb1 hk1 hy);refine i15 _ rfl _ rfl q _ _ _ rfl rfl (SqT.of (A0j _ _ (r1 _ _ e20))) rfl (i0n _ rfl b kp kv1 r (i0a S rfl ⟨ns,fr1,hk1,kvv1,by lia,rb.same r1,wu.2.2.2.2,su.2,by lia⟩ (by lia) λv2 kv2 H2 kb2 hk2 kvv2 l2 ob2=> ?_));have kb12:=kb1.trans kb2;have r2:=B9e kb12 ns;have e3:=SqT.of (K:=K) (A0j _ _ (r2 _ _ e20));refine i19 _ rfl q _ _ _ rfl rfl e3 rfl rfl _ rfl (A4m (λ_=> ?_) (λh=>absurd rfl h));refine i10 _ rfl q _ _ _ rfl rfl e3 rfl (i10 _ rfl q _ _ _ rfl rfl e3 rfl (i10 _ rfl q _ _ _ rfl rfl e3 rfl (i0c _ rfl _ rfl λy dx hx hdx hne=>(i0f y dx _ _ (i0p _ _ _ rfl A0b rfl ?_)))));exact out (.ref y) kv2 H2 _ kb12 hk2 kvv2 (by simp only [nod];lia) (A2h hx hdx) (.guard (A0i (fr y (B1a kb12 hk2 hx)) A0b) ((ob1.imp (B9e kb2 ns)).imp (A0h (A2h hx hdx))) (ob2.imp (A0h (A2h hx hdx))))
theorem D1f (T:Txt K mg t) (Ge6:A2y P w K mg base CX0 m t.jd t.je B2n (C4z t n)):A2y P w K mg base CX0 (m+1) t.qa t.og B2n (B3t t n):=by
 refine T.gm.F.ok B0m (λvs H Q E h=> ?_) λ_ A _ s H _ Q E hr h=> ?_
 ·refine e08 h ?_;clear h;rintro v kp kvs u S ⟨rfl,_⟩;rfl
 ·refine e08 h ?_;clear h;rintro v kp kvs u S ⟨rfl,hi,hd,k⟩;obtain ⟨ns,fr,hk,kv,lk,rp,wu,su,du⟩:=id hi;refine i02 _ (@A0c _ _ _ _ _ (A3d PassesOwn.never rfl (A2q (pv 1)) (A3f (n:=2) rfl (A0v (A0n (i:=2) B0m.nd rfl (.inl rfl)) (A0v (A0n (i:=3) B0m.nd rfl (.inl rfl)) A2k))) (@A0g _ _ _ (@A1z _ _ _ _ _ _ _ _ (@A0o _ _ _ _ _ _ _ _ (D5l hr.units) (pv 2) (pv 0) (A1e _)) (@A0g _ _ _ (@A0u _ _ _ _ (pv 3))) A1d))) (@A0c _ _ _ _ _ (@A0l _ _ 3 _ _ _ _ B0m.nd rfl (.inl rfl) (pcl Ge6 hr T.p8 (@A0a _ _ _ _ _ (pv 0) (@A0a _ _ _ _ _ (pv 1) A0d rfl) rfl)) rfl (by first | exact Or.inl rfl | exact Or.inr rfl | assumption)) (@A0c _ _ _ _ _ (A2t (A5g Z0k Z0n Z0o A2d (pv 1) (@A0a _ _ _ _ _ (@A1o _ _ _ _ _ (@A0a _ _ _ _ _ (pv 0) (@A0a _ _ _ _ _ (pv 3) A0d rfl) rfl)) A0d rfl))) (@A0g _ _ _ (@A0u _ _ _ _ (pv 3)))))) ?_;refine i0j _ rfl kp rfl ⟨_,SqL.of hk⟩ ?_;refine A5i (K:=K) (a:=kp) (xs:=kvs) (λi Z H2=>H=H2/\∃(o2 o3:Option V),Z=[some v,Sro kp,o2,o3]) ⟨rfl,(i03 none none rfl)⟩ (λi Z H2 _ ⟨e,_⟩=>SqL.of (by rw [<-e];exact hk)) ?_ ?_
  ·rintro i x Z H2 hx ⟨rfl,o2,o3,rfl⟩;refine e0d (kv x (Z13 hx)) ?_;rintro q tv ov uk rfl e rk wk ⟨sk,dk,ok⟩;refine i17 q _ rfl (SqT.of (A0j _ _ e)) rfl _ _ rfl _ _ rfl rfl ?_;refine i14 _ rfl _ rfl (A1t uk) (A1t u) (rk.same A0j) (rp.same A0j) (B7z wk sk dk) (B7z wu su du) _ rfl ?_;show if (PyData.eqv (A1t uk) (A1t u))=true then _ else _
   cases hb:PyData.eqv (A1t uk) (A1t u) with
   | true =>
    cases D6w hb
    exact A5h (i02 _ rfl (k ov kvs H KB.refl hk kv (by lia) ok))
   | false=>exact A2u ⟨rfl,(i03 _ _ rfl)⟩
  ·rintro Z H2 ⟨rfl,o2,o3,rfl⟩;refine i02 _ rfl (i0n _ rfl v kp kvs u (i0a S rfl hi hd λv1 kv1 H1 kb1 hk1 kvv1 l1 ob1=> ?_));refine i06 _ rfl (.inl (i01 rfl _ (SqL.of hk1))) (i0j _ rfl _ rfl (A0q rfl) λtp htp=> ?_);have sT:=A0f (o:= .tup [v,v1]) htp;have eT:upd H1 tp (.tup [v,v1]) tp=some (.tup [v,v1]):=A0b;have St:S tp:=fr tp (B1a kb1 hk1 htp);generalize upd H1 tp (.tup [v,v1])=H3 at sT eT;have hk3:=sT _ _ hk1;refine i0s kp _ _ rfl rfl hk3 (A1l (by lia)) ?_;have r3:A1f (A1a S H1) (A1a S (upd H3 kp (.lst (kv1++[.ref tp])))):=A2o (A0h sT) ns;refine i02 _ rfl (k v1 (kv1++[.ref tp]) _ ((kb1.trans (KB.of sT)).upd) A0b (λx hx=> ?_) (by rw [Z06];simp only [Z0y,Z2g];lia) (ob1.imp r3));rcases Z07.mp hx with hx | hx
   ·exact (kvv1 x hx).same r3
   ·rw [Z0w.mp hx];have n1:tp≠kp:=λz=>ns (z▸St);exact i0y tp v v1 u rfl (A0i St (by rw [A0k n1];exact eT)) ((rp.same (B9e kb1 ns)).same r3) wu su ⟨du,ob1.imp r3⟩
theorem C8u (T:Txt K mg t):∀n:Nat,A2y P w K mg base CX0 (2*n+8) t.qa t.og B2n (B3t t n)
 | 0=>A2y.none (by (rintro vs H Q E zz;refine e08 zz ?_;clear zz;rintro v kp kvs u S ⟨_,_,h,_⟩);have:=A4y u;lia)
 | n+1=>D1f T (m:=2*n+9) (D3m T (by lia) (C8u T n))
theorem D3c {α β:Type} {R:α->β->Prop} {xs:List α} {ys:List β} (h:Paired R xs ys):∀y∈ys,∃x,R x y:=by
 induction h with
 | nil=>intro y hy;cases hy
 | cons a _ ih =>
  intro y hy;rcases Z0e.mp hy with rfl | hy
  ·exact ⟨_,a⟩
  ·exact ih y hy
theorem C7i {H:Hp}:∀{vs:List V} {tb:List (Str×List Str)},Paired (λ(v:V) (e:Str×List Str)=>∃q l,v= .ref q/\H q=some (.tup [.str e.1,.ref l])/\H l=some (.lst (e.2.map V.str))) vs tb->A4s H vs (tb.map C3u)
 | _,_,.nil=> .nil
 | _,_,.cons ⟨q,l,rfl,e1,e2⟩ r=> .cons (.tup e1 (.cons (.str _) (.cons (.lst e2 (A4s.strs _)) .nil))) (C7i r)
def D1l (A:Adr):Sp:=λvs H Q _=>∃(p:Addr) (ax:List (Str×Int)) (tb:List (Str×List Str)) (ls:List Lt),vs=[.ref p]/\D0y H p ax tb ls/\∀(r:Addr) (wh:Int) (os:List Str) (H':Hp),A1f H H'->C8l A H' r wh ax tb ls os->os.length<=100->Q (.ref r) H'
theorem B1j (T:Txt K mg t):FO P w base T.d_ 89 (D1l t):=by
 have Ge3:= @C8u P w K mg base t T 40;have Ge7:= @C1b P w K mg base t T;have Ge8:= @B2s P w K mg base t T;refine T.d_.F.ok A1w (by walk_at "ln") λ_ A _ s H _ Q E hr h=> ?_
 ·refine e01 h ?_;clear h;rintro p ax tb ⟨ls,rfl,hpg,k⟩;refine e08 hpg.ob ?_;rintro wh d tl ll ol ⟨tvs,lvs,o0,hp,hd,htl,ptb,hll,pls,hol⟩;have hax:=hpg.hx;have lt6:=hpg.t;have ll8:=hpg.l;have okl:=hpg.ok;have hu:=B1b hr;refine i02 _ (@A0c _ _ _ _ _ (A8z (pv 0) (A3f (n:=5) rfl (A0v (A0n (i:=1) A1w.nd rfl (.inl rfl)) (A0v (A0n (i:=2) A1w.nd rfl (.inr rfl)) (A0v (A0n (i:=3) A1w.nd rfl (.inl rfl)) (A0v (A0n (i:=4) A1w.nd rfl (.inl rfl)) (A0v (A0n (i:=5) A1w.nd rfl (.inl rfl)) A2k))))))) (@A0c _ _ _ _ _ (B6h (i₀:=6) (N':=["_law_name","_law_lengths"]) (ix:=(List.replicate 1 none++[some 2])) A1w.nd rfl (.inl rfl) rfl (A8l (x:="_law_lengths") rfl rfl rfl (by decide +kernel) (by decide +kernel)) (A6n (N0:=["_law_name"]) rfl (.inl rfl) (by walk_at "ix")) (C7l (pv 2)) (λ_ _ _ _=>(A0n (i:=0) C2z rfl (.inl rfl))) (λ_ _ _ _=>(@A1o _ _ _ _ _ (@A0a _ _ _ _ _ (pv 0) (@A0a _ _ _ _ _ (@A5d _ _ _ _ _ _ hu (pv 1) (pv 0) (λ_ _=>rfl)) A0d rfl) rfl)))) (@C1x _ _ _ (@A0c _ _ _ _ _ (B6h (i₀:=7) (N':=["_law_name","_law_own"]) (ix:=(List.replicate 2 none)) (g:=D0w K 2 (A8r (A5w 0) (A8r (A5w 1) D0l))) A1w.nd rfl (.inl rfl) rfl (A2p rfl (by decide +kernel) (by decide +kernel)) (A2n rfl) (A2q (pv 3)) (λ_ _ _ _=>(A3f (n:=2) rfl (A0v (A0n (i:=0) B4t rfl (.inl rfl)) (A0v (A0n (i:=1) B4t rfl (.inl rfl)) A2k)))) (λ_ _ _ _=>(@A1o _ _ _ _ _ (@A0a _ _ _ _ _ (pv 0) (@A0a _ _ _ _ _ (A2a (B0l (K:=K) rfl) (by rfl) T.cx Z1o (@A0a _ _ _ _ _ (pv 1) A0d rfl)) A0d rfl) rfl)))) (@A0c _ _ _ _ _ (@A0l _ _ 8 _ _ _ _ A1w.nd rfl (.inr rfl) (@A1q _ _ _ _ A0d) rfl (by first | exact Or.inl rfl | exact Or.inr rfl | assumption)) (@A0c _ _ _ _ _ (B6h (i₀:=9) (N':=["_law_name","_law_own","_law_tree","_law_kept"]) (ix:=(List.replicate 3 none++[some 8])) (g:=D0w K 3 (A8r (A5w 0) (A8r (A5w 1) (A8r (A5w 2) D0l)))) A1w.nd rfl (.inl rfl) rfl (A8l (x:="_law_kept") rfl rfl rfl (by decide +kernel) (by decide +kernel)) (A6n (N0:=["_law_name","_law_own","_law_tree"]) rfl (.inl rfl) (by walk_at "ix")) (A2q (pv 4)) (λ_ _ _ _=>(A3f (n:=3) rfl (A0v (A0n (i:=0) B1i rfl (.inl rfl)) (A0v (A0n (i:=1) B1i rfl (.inl rfl)) (A0v (A0n (i:=2) B1i rfl (.inl rfl)) A2k))))) (λ_ _ _ _=>(pmk T.zc Ge7 hr T.zk T.ni.b (@A0a _ _ _ _ _ (pv 0) (@A0a _ _ _ _ _ (A2a (B0l (K:=K) rfl) (by rfl) T.cx Z1o (@A0a _ _ _ _ _ (pv 1) A0d rfl)) (@A0a _ _ _ _ _ (pcl Ge3 hr T.gm (@A0a _ _ _ _ _ (pv 2) (@A0a _ _ _ _ _ (pv 3) A0d rfl) rfl)) A0d rfl) rfl) rfl)))) (@A0g _ _ _ (@A0u _ _ _ _ (pmk T.xG Ge8 hr T.yc T.gy.b (@A0a _ _ _ _ _ (pv 1) (@A0a _ _ _ _ _ (pv 6) (@A0a _ _ _ _ _ (pv 7) (@A0a _ _ _ _ _ (pv 9) (@A0a _ _ _ _ _ (A2a A4t (by rfl) T.cx Z1o (@A0a _ _ _ _ _ (pv 5) A0d rfl)) A0d rfl) rfl) rfl) rfl) rfl)))))))))) ?_;refine i02 _ rfl (i1c p _ rfl (SqT.of hp) rfl _ _ rfl _ _ rfl _ _ rfl ⟨_,(i0m _ rfl _ _ rfl rfl ?_)⟩)
  have ndk:((A3t ax).map (·.1)).Nodup:=by
   have ks:(A3t ax).map (·.1)=(ax.map (·.1)).map (Sum.inr:Str->Key):=by unfold A3t;rw [List.map_map,List.map_map];rfl
   rw [ks];exact hax.2.2.1.map (f:=(Sum.inr:Str->Key)) λa b hab z=>hab (Sum.inr.inj z)
  have lla:(A3t ax).length=ax.length:=by unfold A3t;rw [Z08]
  have l8:=hax.2.2.2;refine i0m _ rfl d (A3t ax) rfl hd λo=>λD hD=> ?_;have Dd:D≠d:=λe=>by rw [e,A0b] at hD;cases hD
  refine B7k (D:=D) (A3t ax).length (λj ys G=>A1f (upd H d (.frz o (.dK (A3t ax)))) G/\G D=some (.lst ys)/\Paired (λ(v:V) (e:Str×Int)=>∃q,v= .ref q/\q≠D/\G q=some (.tup [.str e.1,.int e.2])) ys (ax.take j)) (i00 (A0f hD) A0b .nil) (by rintro j ys G hj ⟨sG,_⟩;exact ⟨sG _ _ A0b,hj⟩) (by rintro ys G ⟨sG,_⟩;exact ⟨sG _ _ A0b,rfl⟩) ?_ ?_
  ·rintro j ys G0 hj ⟨sG,hG,pj⟩ x G ⟨rfl,kk,vv,hkv,rfl⟩;have hje:ax[j]? =some ax[j]:=Z0b (by lia);have hkv0:=hkv;unfold A3t at hkv;rw [Z1z,hje] at hkv;generalize ax[j]=e at hje hkv;cases hkv;have dg:B8e G d (kV (Sum.inr e.1)) (B4h (A3t ax) (Sum.inr e.1)):= .inl (i0d _ _ (.inr ⟨o,sG _ _ A0b⟩) rfl rfl);rw [D0k ndk hkv0] at dg;have ly:=Paired.length pj;rw [Z0x] at ly;refine ⟨⟨rfl,True.intro⟩,(i0z _ rfl _ rfl _ rfl d _ rfl dg ⟨A0q rfl,λtp htp=> ?_⟩)⟩;have sT:=A0f (o:= .tup [.str e.1,.int e.2]) htp;have tD:tp≠D:=λz=>by rw [z,hG] at htp;cases htp
   refine i08 (sT _ _ hG) (A1l (by lia)) (A0s (sG.trans sT) hD) A0b ?_;rw [Z14,hje];refine B2c (Paired.mapP pj λv e ⟨q,e1,e2,e3⟩=>(i06 q e1 e2 (by rw [A0k e2];exact sT _ _ e3))) (.cons (i06 tp rfl tD (by rw [A0k tD];exact A0b)) .nil)
  rintro ys G ⟨sG,hG,pj⟩;rw [lla,Z18] at pj;have hGd:=sG _ _ (A0b (H:=H) (a:=d) (o:= .frz o (.dK (A3t ax))));refine i0l d o (A3t ax) hGd (λo' u' e=>by have e:H d=some (.frz o' u'):=e;rw [hd] at e;cases e) ?_
  have s1:A1f H (upd G d (.dK (A3t ax))):=λb u e=>by
   by_cases hb:b=d
   ·rw [hb] at e⊢;rw [hd] at e;rw [A0b];exact e
   ·rw [A0k hb];exact sG _ _ (by rw [A0k hb];exact e)
  have r1:Rep (upd G d (.dK (A3t ax))) (.ref D) (A5b ax):= .lst (by rw [A0k Dd];exact hG) (B1f (Paired.mapP pj λv e ⟨q,e1,e2,e3⟩=>(i02 q e1 (by rw [A0k (A3a e3 hGd (by intro h;cases h))];exact e3))));generalize upd G d (.dK (A3t ax))=H1 at s1 r1;clear pj hGd sG hG hD Dd;refine i0j _ rfl tl rfl ⟨_,SqL.of (s1 _ _ htl)⟩ λD2 hD2=> ?_;have ltb:=Paired.length ptb;refine A2w (K:=K) (a:=tl) (D:=D2) (xs:=tvs) (λj ys G=>A1f H1 G/\G D2=some (.lst ys)/\Paired (λ(v:V) (e:Str×List Str)=>∃q l,v= .ref q/\q≠D2/\l≠D2/\G q=some (.tup [.str e.1,.ref l])/\G l=some (.lst (e.2.map V.str))) ys (tb.take j)) (i00 (A0f hD2) A0b .nil) (by rintro j ys G ⟨sG,_⟩;exact SqL.of (sG _ _ (s1 _ _ htl))) ?_ ?_
  ·rintro j x ys G hx ⟨sG,hG,pj⟩;obtain ⟨e,he,q,al,rfl,e1,e2,_⟩:=B2l ptb hx;have e1:=sG _ _ (s1 _ _ e1);have e2:=sG _ _ (s1 _ _ e2);have ly:=Paired.length pj;rw [Z0x] at ly;refine i17 q _ rfl (SqT.of e1) rfl _ _ rfl _ _ rfl rfl ⟨True.intro,(i0u _ rfl _ rfl al _ rfl (.inl (SqL.of e2)) λl2 hl2=>⟨A0q rfl,λtp htp=> ?_⟩)⟩;have sA:=A0f (o:= .lst (e.2.map V.str)) hl2;have sB:=A0f (o:= .tup [.str e.1,.ref l2]) htp;have sAB:=sA.trans sB;have lD:l2≠D2:=λz=>by rw [z,hG] at hl2;cases hl2
   have tD:tp≠D2:=λz=>by rw [z,sA _ _ hG] at htp;cases htp
   refine i08 (sAB _ _ hG) (A1l (by lia)) (A0s (sG.trans sAB) hD2) A0b ?_;rw [Z14,he];exact B2c (Paired.mapP pj λv e ⟨q,l,e1,n1,n2,e2,e3⟩=>(i0o q l e1 n1 n2 (by rw [A0k n1];exact sAB _ _ e2) (by rw [A0k n2];exact sAB _ _ e3))) (.cons (i0o tp l2 rfl tD lD (by rw [A0k tD];exact A0b) (by rw [A0k lD];exact sB _ _ A0b)) .nil)
  rintro ys2 H2 ⟨s12,hG2,pj⟩;rw [ltb,Z18] at pj;have s2:=s1.trans s12;have r2:Rep H2 (.ref D2) (B4f tb):= .lst hG2 (C7i (Paired.mapP pj λv e ⟨q,l,e1,n1,n2,e2,e3⟩=>(i0d q l e1 e2 e3)));have r1:=r1.same s12;clear pj;refine ⟨A0q rfl,λkp hkp=> ?_⟩;have sk:=A0f (o:= .lst []) hkp;have hk3:upd H2 kp (.lst []) kp=some (.lst []):=A0b;generalize upd H2 kp (.lst [])=H3 at sk hk3;have s3:=s2.trans sk;refine i0j _ rfl ll rfl ⟨_,SqL.of (s3 _ _ hll)⟩ λD3 hD3=> ?_;have lls:=Paired.length pls;have kD:kp≠D3:=λz=>by rw [<-z,hk3] at hD3;cases hD3
  have D32:H2 D3=none:=sk.free hD3;refine A2w (K:=K) (a:=ll) (D:=D3) (xs:=lvs) (λj ys G=>A1f H2 G/\G D3=some (.lst ys)/\∃kvs,G kp=some (.lst kvs)/\kvs.length<=122*j/\(∀x∈kvs,D2d t (A1a (S2P kp D3) G) x)/\Paired (C0y t (λ_=>True) (A1a (S2P kp D3) G)) ys (ls.take j)) (i00 (sk.trans (A0f hD3)) A0b (i0a [] (by rw [A0k kD];exact hk3) (by simp) (λx hx=>by cases hx) .nil)) (by rintro j ys G ⟨sG,_⟩;exact SqL.of (sG _ _ (s2 _ _ hll))) ?_ ?_
  ·rintro j x ys G hx zz;refine e03 zz ?_;clear zz;rintro sG hG kvs hkG ⟨lkv,hkv,pj⟩;obtain ⟨e,he,q,al,tv,rfl,e1,e2,rt⟩:=B2l pls hx;have oke:=okl e (Z13 he);have hj:=(Z03.mp he).1;have ly:=Paired.length pj;rw [Z0x] at ly;have toR:∀{F:Hp},A1f H2 F->A1f H (A1a (S2P kp D3) F):=λ{F} s b u z=>A0i ⟨(λy=>by rw [y] at z;rw [s2 _ _ z] at hkp;cases hkp),λy=>by rw [y] at z;rw [s2 _ _ z] at D32;cases D32⟩ (s _ _ (s2 _ _ z));have e1:=sG _ _ (s2 _ _ e1);have e2:=sG _ _ (s2 _ _ e2);have l3:=oke.l3;refine i1c q _ rfl (SqT.of e1) rfl _ _ rfl _ _ rfl _ _ rfl (i00 rfl ⟨rfl,True.intro⟩ (i0u _ rfl _ rfl al _ rfl (.inl (SqL.of e2)) λl2 hl2=> ?_));have sA:=A0f (o:= .lst (e.2.1.map V.str)) hl2;have hl2':upd G l2 (.lst (e.2.1.map V.str)) l2=some (.lst (e.2.1.map V.str)):=A0b;generalize upd G l2 (.lst (e.2.1.map V.str))=G1 at sA hl2';have sG1:=sG.trans sA;have hkG1:=sA _ _ hkG;have hG1:=sA _ _ hG;have fr1:Fr (S2P kp D3) G1:=λb hb=>⟨(λz=>by rw [z,hkG1] at hb;cases hb),λz=>by rw [z,hG1] at hb;cases hb⟩;have n3:=oke.k;refine i02 _ rfl (i0n _ rfl tv kp kvs e.2.2 (i0a (S2P kp D3) rfl ⟨λz=>z.1 rfl,fr1,hkG1,λx hx=>(hkv x hx).same (A0h sA),by lia,rt.same (toR sG1),oke.w,oke.s,by have:=oke.d;lia⟩ (by have:=oke.d;lia) λv1 kv1 G2 kb hk1 kvv l1 ob=> ?_));have hG2':=kb _ _ kD.symm hG1;have l22:=kb _ _ (λz=>by rw [z,hkG] at hl2;cases hl2) hl2';intro y dx hy hdx hne;have sM:A1f G2 (upd (upd G2 dx (.own y)) y (.ins t.c8 dx [])):=A0s (A0f hdx) hy;have hy3:upd (upd G2 dx (.own y)) y (.ins t.c8 dx []) y=some (.ins t.c8 dx []):=A0b;generalize upd (upd G2 dx (.own y)) y (.ins t.c8 dx [])=G3 at sM hy3;refine i03 y dx (i0w l2 v1 e.1 e.2.1 rfl hy3 (sM _ _ l22) (by lia) λc G4 hc hy4 hc4 kb4=>⟨rfl,?_⟩);have s24:A1f G2 G4:=λb u z=>kb4 b u (A1g z hy) (sM _ _ z);have hG4:=s24 _ _ hG2';have hk4:=s24 _ _ hk1;have c2:G2 c=none:=sM.free hc;have cS:S2P kp D3 c:=⟨(λz=>by rw [z,hk1] at c2;cases c2),λz=>by rw [z,hG2'] at c2;cases c2⟩;have yS:S2P kp D3 y:=⟨(λz=>by rw [z,hk1] at hy;cases hy),λz=>by rw [z,hG2'] at hy;cases hy⟩;have r14:A1f (A1a (S2P kp D3) G2) (A1a (S2P kp D3) (upd G4 D3 (.lst (ys++[.ref y])))):=A2o (A0h s24) λz=>z.2 rfl;have rG4:A1f (A1a (S2P kp D3) G) (A1a (S2P kp D3) (upd G4 D3 (.lst (ys++[.ref y])))):=((A0h sA).trans (B9e kb λz=>z.1 rfl)).trans r14;have sE:A1f H2 G4:=λb u z=>s24 _ _ (kb b u (λy=>by rw [y,hkp] at z;cases z) (sG1 _ _ z));refine i08 hG4 (A1l (by lia)) (A0s sE D32) A0b (i0a kv1 (by rw [A0k kD];exact hk4) (by lia) (λx hx=>(kvv x hx).same r14) ?_);rw [Z14,he];exact B2c (Paired.mapP pj λv e z=>z.same rG4) (.cons ⟨y,(i0w dx c v1 () rfl (A0i yS (by rw [A0k yS.2];exact hy4)) True.intro (A0i cS (by rw [A0k cS.2];exact hc4)) (ob.imp r14))⟩ .nil)
  rintro ys3 G zz;refine e03 zz ?_;clear zz;rintro sG hG kvs hkG ⟨lkv,hkv,pj⟩;rw [lls,Z18] at pj;have lys:=Paired.length pj;refine i0c _ rfl _ rfl (i0z _ rfl _ rfl _ rfl ol _ rfl (.inl (SqL.of (sG _ _ (s2 _ _ hol)))) λol2 hol2=> ?_);have sO:=A0f (o:= .lst [.str o0]) hol2;have hO:upd G ol2 (.lst [.str o0]) ol2=some (.lst ([o0].map V.str)):=A0b;generalize upd G ol2 (.lst [.str o0])=G1 at sO hO;intro y dx hy hdx hne;have sM:A1f G1 (upd (upd G1 dx (.own y)) y (.ins t.af dx [])):=A0s (A0f hdx) hy;have hy3:upd (upd G1 dx (.own y)) y (.ins t.af dx []) y=some (.ins t.af dx []):=A0b;generalize upd (upd G1 dx (.own y)) y (.ins t.af dx [])=G2 at sM hy3;have sOM:=sO.trans sM;have s22:=sG.trans sOM;have pl2:Paired (C0y t (λ_=>True) G1) ys3 ls:=Paired.mapP pj λv e z=>(z.same A0j).same sO;refine i1d y dx D D2 D3 ol2 wh ax tb ys3 [o0] rfl hy3 (r1.same s22) (i08 (by lia) (r2.same s22) (by lia) ?_ (i0g (sOM _ _ hG) (by lia) ?_ (sM _ _ hO) (by show 1<=1000;decide) λa' t' l' o' G3 hy4 ra rt hl ho kb=>⟨rfl,?_⟩))
  ·intro e he;refine e09 (D3c ptb e he) ?_;rintro x q al _ _ _ ⟨_,l3,_⟩
   lia
  ·intro x hx;obtain ⟨i,hi,ei⟩:=List.mem_iff_getElem.mp hx;obtain ⟨e,_,a,dx',c,n,dn,ex,e1,_⟩:=B2l pl2 (Z0b hi);rw [ei] at ex;exact i0l a dx' _ ex (A1g e1 hy) (sM _ _ e1)
  ·have s13:A1f G1 G3:=λb u z=>kb b u (A1g z hy) (sM _ _ z);exact k y wh [o0] G3 (s2.trans (sG.trans (sO.trans s13))) ⟨dx,a',t',l',o',hy4,ra,rt,(i02 ys3 hl (Paired.mapP pl2 λv e z=>z.same s13)),.lst ho (A4s.strs _)⟩ (by show 1<=100;decide)
def noS:Tm->Prop
 | .sum _ _=>False
 | .pair _ l r=>noS l/\noS r
 | .guard _ _ _ l r=>noS l/\noS r
 | _=>True
def cmL:Tm->List Str
 | .place x=>[x]
 | .read _ ix=>ix.map (·.1)
 | .guard x _ _ l r=>[x]++cmL l++cmL r
 | .pair _ l r=>cmL l++cmL r
 | _=>[]
theorem C4a {x:Str} (hx:¬x=("":Str)):∀(u:Tm) (s:List Str) (g:List Gd),noS u->(x∈((prT u s g).flatMap λe=>axO e.1)↔x∈cmL u)
 | .num z,s,g,_=>by simp [prT,axO,cmL]
 | .place y,s,g,_=>by simp [prT,axO,cmL]
 | .read a ix,s,g,_=>by
  simp only [prT,axO,cmL,List.flatMap_cons,List.flatMap_nil,Z0u,Z2c,List.mem_filter,decide_eq_true_eq];constructor
  ·rintro ⟨e,⟨h1,_⟩,h3⟩;exact i02 e h1 h3
  ·rintro ⟨e,h1,h3⟩;exact i02 e ⟨h1,by rw [h3];exact hx⟩ h3
 | .sum _ _,_,_,h=>h.elim
 | .pair k l r,s,g,h=>by
  have h1:=C4a hx l s g h.1;have h2:=C4a hx r s g h.2;have a0:axO (.pair k l r)=[]:=rfl;simp only [prT,a0,cmL,List.flatMap_cons,List.flatMap_append,List.nil_append,Z07,h1,h2]
 | .guard y lo hi l r,s,g,h=>by
  have h1:=C4a hx l s (g++[(y,lo,hi,true)]) h.1;have h2:=C4a hx r s (g++[(y,lo,hi,false)]) h.2;have a0:axO (.guard y lo hi l r)=[y]:=rfl;simp only [prT,a0,cmL,List.flatMap_cons,List.flatMap_append,Z07,h1,h2,or_assoc]
theorem D2t (hx:¬x=("":Str)) (h:noS u):decide (x∈cmL u)=decide (x∈B4n u):=decide_eq_decide.mpr (C4a hx u [] [] h).symm
theorem B0c:∀u:Tm,TmW u->(cmL u).length<=12*nod u
 | .num z,_=>by simp [cmL]
 | .place y,_=>by simp [cmL,nod]
 | .read a ix,h=>by have:=h.2.1;simp only [cmL,nod,Z08];lia
 | .sum _ _,_=>by simp [cmL]
 | .pair k l r,h=>by
  have:=B0c l h.1;have:=B0c r h.2;simp only [cmL,nod,Z06]
  lia
 | .guard y lo hi l r,h=>by
  have:=B0c l h.2.2.2.1;have:=B0c r h.2.2.2.2;simp only [cmL,nod,Z06,Z0y,Z2g]
  lia
def B3p (n:Nat):Sp:=λvs H Q _=>∃(v:V) (u:Tm),vs=[v]/\Rep H v (A1t u)/\noS u/\TmW u/\dep u<=n/\nod u<=1000/\∀(q:Addr) (H':Hp),H q=none->A1f H H'->H' q=some (.lst ((cmL u).map V.str))->Q (.ref q) H'
theorem C6s (T:Txt K mg t) (Ge9:A2y P w K mg base CX0 m t.pw t.ou C3q (B3p n)):A2y P w K mg base CX0 (m+1) t.pw t.ou C3q (B3p (n+1)):=by
 refine T.j6.F.ok C5m (by walk_at "ln") λ_ A _ s H _ Q E hr h=> ?_
 ·refine e06 h ?_;clear h;rintro v u rfl rp nu ⟨wu,du,ku,k⟩;have cl:=B0c u wu;refine i02 _ (@A0c _ _ _ _ _ (@A1z _ _ _ _ _ _ _ _ (@A0o _ _ _ _ _ _ _ _ A2j (@A0z _ _ _ _ _ _ _ A0w (pv 0) A0e (λ_ _=>rfl)) A1h (A1e _)) (@A0g _ _ _ (@A0u _ _ _ _ (@A1q _ _ _ _ (@A0a _ _ _ _ _ (@A0z _ _ _ _ _ _ _ A0w (pv 0) A0e (λ_ _=>rfl)) A0d rfl)))) A1d) (@A0c _ _ _ _ _ (@A1z _ _ _ _ _ _ _ _ (@A0o _ _ _ _ _ _ _ _ A2j (@A0z _ _ _ _ _ _ _ A0w (pv 0) A0e (λ_ _=>rfl)) A1h (A1e _)) (@A0g _ _ _ (@A0u _ _ _ _ (A3u (N':=["_law_axis","_law_shift"]) (ix:=(List.replicate 2 none)) (g:=D0w K 2 (A8r (A5w 0) (A8r (A5w 1) D0l))) rfl (A2p rfl (by decide +kernel) (by decide +kernel)) (A2n rfl) (A2q (@A0z _ _ _ _ _ _ _ A0w (pv 0) A0e (λ_ _=>rfl))) (λ_ _ _ _=>(A3f (n:=2) rfl (A0v (A0n (i:=0) B5a rfl (.inl rfl)) (A0v (A0n (i:=1) B5a rfl (.inl rfl)) A2k)))) (λ_ _ _ _=>(pv 0))))) A1d) (@A0c _ _ _ _ _ (@A1z _ _ _ _ _ _ _ _ (@A0o _ _ _ _ _ _ _ _ A2j (@A0z _ _ _ _ _ _ _ A0w (pv 0) A0e (λ_ _=>rfl)) A1h (A1e _)) (@A0g _ _ _ (@A0u _ _ _ _ (@A0r _ _ _ _ _ _ _ _ A4i (@A0r _ _ _ _ _ _ _ _ A4i (@A1q _ _ _ _ (@A0a _ _ _ _ _ (@A0z _ _ _ _ _ _ _ A0w (pv 0) A0e (λ_ _=>rfl)) A0d rfl)) (pcl Ge9 hr T.j6 (@A0a _ _ _ _ _ (@A0z _ _ _ _ _ _ _ A0w (pv 0) A0e (λ_ _=>rfl)) A0d rfl))) (pcl Ge9 hr T.j6 (@A0a _ _ _ _ _ (@A0z _ _ _ _ _ _ _ A0w (pv 0) A0e (λ_ _=>rfl)) A0d rfl))))) A1d) (@A0c _ _ _ _ _ (@A1z _ _ _ _ _ _ _ _ (@A0o _ _ _ _ _ _ _ _ A2j (@A0z _ _ _ _ _ _ _ A0w (pv 0) A0e (λ_ _=>rfl)) A1h (A1e _)) (@A0g _ _ _ (@A0u _ _ _ _ (@A1q _ _ _ _ A0d))) A1d) (@A0g _ _ _ (@A0u _ _ _ _ (@A0r _ _ _ _ _ _ _ _ A4i (pcl Ge9 hr T.j6 (@A0a _ _ _ _ _ (@A0z _ _ _ _ _ _ _ A0w (pv 0) A0e (λ_ _=>rfl)) A0d rfl)) (pcl Ge9 hr T.j6 (@A0a _ _ _ _ _ (@A0z _ _ _ _ _ _ _ A0w (pv 0) A0e (λ_ _=>rfl)) A0d rfl))))))))) ?_
  cases u with
  | sum _ _=>exact nu.elim
  | place x =>
   obtain ⟨q,rfl,e⟩:=B9a (x:=x) rp;have e:=SqT.of (K:=K) e;refine i19 _ rfl q _ _ _ rfl rfl e rfl rfl _ rfl (A4m (λ_=> ?_) (λh=>absurd rfl h));exact i12 _ rfl q _ _ _ rfl rfl e rfl (A0q rfl) λl hl=>k l _ hl (A0f hl) A0b
  | read a ix =>
   refine e09 (C1y (x:=a) (ix:=ix) rp) ?_;rintro q l iv rfl e el rs;have e:=SqT.of (K:=K) e;have hl:=rs.len;rw [Z08] at hl;have wix:=wu.2.1;refine i19 _ rfl q _ _ _ rfl rfl e rfl rfl _ rfl (A4m (λh=>sne h (by decide +kernel)) (λ_=> ?_));refine i19 _ rfl q _ _ _ rfl rfl e rfl rfl _ rfl (A4m (λ_=> ?_) (λh=>absurd rfl h));refine i10 _ rfl q _ _ _ rfl rfl e rfl (i06 l rfl ⟨_,SqL.of el⟩ λD hD=> ?_);refine A2w (K:=K) (a:=l) (D:=D) (xs:=iv) (λi ys G=>A1f H G/\G D=some (.lst ys)/\ys=((ix.take i).map (·.1)).map V.str) (i00 (A0f hD) A0b rfl) (by rintro i ys G ⟨s,_⟩;exact SqL.of (s _ _ el)) ?_ ?_
   ·rintro i x ys G hx ⟨sG,hG,ey⟩;have hi:i<ix.length:=by have:=(Z03.mp hx).1;lia
    obtain ⟨d,hd,rx⟩:=rs.get2 hx;have hie:ix[i]? =some ix[i]:=Z0b hi;rw [Z1z,hie] at hd;cases hd;obtain ⟨q2,rfl,eq⟩:=C6n rx;refine i17 q2 _ rfl (SqT.of (sG _ _ eq)) rfl _ _ rfl _ _ rfl rfl (i01 True.intro _ (i0g rfl hG (A1l ?_) (A0s sG hD) A0b ?_))
    ·rw [ey,Z08,Z08,Z0x];lia
    ·rw [ey,Z14,hie,Z2f,Z0s,Z0s];rfl
   ·rintro ys G ⟨sG,hG,rfl⟩;rw [hl,Z18] at hG;exact k D G hD sG hG
  | num z =>
   obtain ⟨q,rfl,e⟩:=C7a (z:=z) rp;have e:=SqT.of (K:=K) e;refine i19 _ rfl q _ _ _ rfl rfl e rfl rfl _ rfl (A4m (λh=>sne h (by decide +kernel)) (λ_=> ?_));refine i19 _ rfl q _ _ _ rfl rfl e rfl rfl _ rfl (A4m (λh=>sne h (by decide +kernel)) (λ_=> ?_));refine i19 _ rfl q _ _ _ rfl rfl e rfl rfl _ rfl (A4m (λh=>sne h (by decide +kernel)) (λ_=> ?_));refine i19 _ rfl q _ _ _ rfl rfl e rfl rfl _ rfl (A4m (λ_=> ?_) (λh=>absurd rfl h));exact ⟨A0q rfl,λl hl=>k l _ hl (A0f hl) A0b⟩
  | guard x lo hi l r =>
   refine e09 (A7p rp) ?_;rintro q a b rfl e ra rb;have e1:=SqT.of (K:=K) e;simp only [dep] at du;simp only [nod] at ku cl;have cll:=B0c l wu.2.2.2.1;have clr:=B0c r wu.2.2.2.2;refine i19 _ rfl q _ _ _ rfl rfl e1 rfl rfl _ rfl (A4m (λh=>sne h (by decide +kernel)) (λ_=> ?_));refine i19 _ rfl q _ _ _ rfl rfl e1 rfl rfl _ rfl (A4m (λh=>sne h (by decide +kernel)) (λ_=> ?_));refine i19 _ rfl q _ _ _ rfl rfl e1 rfl rfl _ rfl (A4m (λ_=> ?_) (λh=>absurd rfl h));refine i12 _ rfl q _ _ _ rfl rfl e1 rfl (A0q rfl) λl0 hl0=> ?_;have s0:=A0f (o:= .lst [.str x]) hl0;have h0:upd H l0 (.lst [.str x]) l0=some (.lst [.str x]):=A0b;generalize upd H l0 (.lst [.str x])=H0 at s0 h0;refine i10 _ rfl q _ _ _ rfl rfl (SqT.of (s0 _ _ e)) rfl (i0r a l rfl (ra.same s0) nu.1 wu.2.2.2.1 (by lia) ⟨by lia,λq1 H1 hq1 s1 e1=> ?_⟩);refine i0y l0 q1 _ _ rfl rfl (s1 _ _ h0) e1 (A1k (by simp;lia)) λc1 hc1=> ?_;have s01:=s0.trans s1;have s2:=A0f (o:= .lst ([V.str x]++(cmL l).map V.str)) hc1;have hc1':upd H1 c1 (.lst ([V.str x]++(cmL l).map V.str)) c1=some (.lst ([V.str x]++(cmL l).map V.str)):=A0b;generalize upd H1 c1 (.lst ([V.str x]++(cmL l).map V.str))=H2 at s2 hc1';have s02:=s01.trans s2;refine i10 _ rfl q _ _ _ rfl rfl (SqT.of (s02 _ _ e)) rfl (i0r b r rfl (rb.same s02) nu.2 wu.2.2.2.2 (by lia) ⟨by lia,λq2 H3 hq2 s3 e2=> ?_⟩);refine i0y c1 q2 _ _ rfl rfl (s3 _ _ hc1') e2 (A1k (by simp;lia)) λc2 hc2=> ?_;have s03:=s02.trans s3;refine k c2 _ (s03.free hc2) (s03.trans (A0f hc2)) ?_;rw [A0b];simp only [cmL,Z0s,Z0p,List.map_nil]
  | pair o l r =>
   refine e09 (B2f rp) ?_;rintro q a b rfl e ra rb;have e1:=SqT.of (K:=K) e;simp only [dep] at du;simp only [nod] at ku cl;have cll:=B0c l wu.1;have clr:=B0c r wu.2;have tn:¬opS o="number"/\¬opS o="place"/\¬opS o="read"/\¬opS o="guard":=by cases o <;> exact i04 (by decide +kernel) (by decide +kernel) (by decide +kernel) (by decide +kernel)
   refine i19 _ rfl q _ _ _ rfl rfl e1 rfl rfl _ rfl (A4m (λh=>sne h tn.2.1) (λ_=> ?_));refine i19 _ rfl q _ _ _ rfl rfl e1 rfl rfl _ rfl (A4m (λh=>sne h tn.2.2.1) (λ_=> ?_));refine i19 _ rfl q _ _ _ rfl rfl e1 rfl rfl _ rfl (A4m (λh=>sne h tn.2.2.2) (λ_=> ?_));refine i19 _ rfl q _ _ _ rfl rfl e1 rfl rfl _ rfl (A4m (λh=>sne h tn.1) (λ_=> ?_));refine i10 _ rfl q _ _ _ rfl rfl e1 rfl (i0r a l rfl ra nu.1 wu.1 (by lia) ⟨by lia,λq1 H1 hq1 s1 e1=> ?_⟩);refine i10 _ rfl q _ _ _ rfl rfl (SqT.of (s1 _ _ e)) rfl (i0r b r rfl (rb.same s1) nu.2 wu.2 (by lia) ⟨by lia,λq2 H2 hq2 s2 e2=> ?_⟩);refine i0y q1 q2 _ _ rfl rfl (s2 _ _ e1) e2 (A1k (by simp;lia)) λc2 hc2=> ?_;have s02:=s1.trans s2;refine k c2 _ (s02.free hc2) (s02.trans (A0f hc2)) ?_;rw [A0b];simp only [cmL,Z0s]
theorem C5j (T:Txt K mg t):∀n:Nat,A2y P w K mg base CX0 (n+1) t.pw t.ou C3q (B3p n)
 | 0=>A2y.none (by (rintro vs H Q E zz;refine e06 zz ?_;clear zz;rintro v u _ _ _ ⟨_,h,_⟩);have:=A4y u;lia)
 | n+1=>C6s T (C5j T n)
theorem B3s (s:String):PyData.strOk (Str.ofString s)=true:=by
 rw [C1r,Str.ofString_eq_toList];intro c hc;obtain ⟨d,_,rfl⟩:=Z2c.mp (by simpa using hc);have:=d.valid;simp only [UInt32.isValidChar,Nat.isValidChar] at this;show d.val.toNat<1114112
 lia
theorem D5x (n:Nat):PyData.strOk (sN n)=true:=A6p (by decide +kernel) (B3s _)
theorem D7f {u:Tm} (h:noS u):∀g:List Gd,noS (gdM g u)
 | []=>h
 | e::g=>by
  show noS (gd1 e (gdM g u));have:=D7f h g;obtain ⟨x,lo,hi,b⟩:=e
  cases b with
  | true=>exact ⟨this,True.intro⟩
  | false=>exact ⟨True.intro,this⟩
theorem D9h {u:Tm} (h:TmS u):∀g:List Gd,TmS (gdM g u)
 | []=>h
 | e::g=>by
  show TmS (gd1 e (gdM g u));have:=D9h h g;obtain ⟨x,lo,hi,b⟩:=e
  cases b with
  | true=>exact ⟨this,True.intro⟩
  | false=>exact ⟨True.intro,this⟩
theorem B7u (h:noS r.1):noS (fin kn pend g r).1:=by
 cases pend with
 | nil=>exact h
 | cons x s=>exact True.intro
theorem C3e {kn:List Str}:∀(u:Tm) (pend:List Str) (g:List Gd) (z:LS),noS (wsP kn u pend g z).1
 | .num _,_,_,_=>B7u (r:=(.num _,_)) True.intro
 | .place _,_,_,_=>B7u (r:=(.place _,_)) True.intro
 | .read _ _,_,_,_=>B7u (r:=(.read _ _,_)) True.intro
 | .sum x b,pend,g,z=>C3e b (pend++[x]) g z
 | .pair k l r,pend,g,z=>B7u (r:=(.pair _ _ _,_)) ⟨C3e l _ _ _,C3e r _ _ _⟩
 | .guard x lo hi l r,pend,g,z=>B7u (r:=(.guard _ _ _ _ _,_)) ⟨C3e l _ _ _,C3e r _ _ _⟩
theorem C4f:∀u:Tm,TmW u->∀x∈A3g u,A8k x
 | .num _,_,x,hx=>by cases hx
 | .place _,_,x,hx=>by cases hx
 | .read _ _,_,x,hx=>by cases hx
 | .pair _ _ _,_,x,hx=>by cases hx
 | .guard _ _ _ _ _,_,x,hx=>by cases hx
 | .sum y b,h,x,hx=>by
  rcases Z0e.mp (show x∈y::A3g b from hx) with rfl | hx
  ·exact h.1
  ·exact C4f b h.2 x hx
def LsS (z:LS):Prop:=∀e∈z.2,TmS e.2.2.2/\(∀x∈e.2.2.1,A8k x)/\PyData.strOk e.1=true
theorem C3z (hp:∀x∈pend,A8k x) (h:TmS r.1) (hz:LsS r.2):TmS (fin kn pend g r).1/\LsS (fin kn pend g r).2:=by
 cases pend with
 | nil=>exact ⟨h,hz⟩
 | cons x s =>
  refine ⟨D5x _,λe he=> ?_⟩;rcases Z07.mp he with he | he
  ·exact hz e he
  ·rw [Z0w.mp he];exact i00 (D9h h g) hp (D5x _)
theorem D3z {kn:List Str}:∀(u:Tm) (pend:List Str) (g:List Gd) (z:LS),(∀x∈pend,A8k x)->TmW u->TmS u->LsS z->TmS (wsP kn u pend g z).1/\LsS (wsP kn u pend g z).2
 | .num _,_,_,_,hp,_,h,hz=>C3z (r:=(.num _,_)) hp h hz
 | .place _,_,_,_,hp,_,h,hz=>C3z (r:=(.place _,_)) hp h hz
 | .read _ _,_,_,_,hp,_,h,hz=>C3z (r:=(.read _ _,_)) hp h hz
 | .sum x b,pend,g,z,hp,hw,h,hz=>by
  refine D3z b (pend++[x]) g z (λy hy=> ?_) hw.2 h hz;rcases Z07.mp hy with hy | hy
  ·exact hp y hy
  ·rw [Z0w.mp hy];exact hw.1
 | .pair k l r,pend,g,z,hp,hw,h,hz=>by
  obtain ⟨a1,a2⟩:=D3z (kn:=kn) l [] g z (λy hy=>by cases hy) hw.1 h.1 hz;obtain ⟨b1,b2⟩:=D3z (kn:=kn) r [] g (wsP kn l [] g z).2 (λy hy=>by cases hy) hw.2 h.2 a2;exact C3z (r:=(.pair _ _ _,_)) hp ⟨a1,b1⟩ b2
 | .guard x lo hi l r,pend,g,z,hp,hw,h,hz=>by
  obtain ⟨a1,a2⟩:=D3z (kn:=kn) l [] (g++[(x,lo,hi,true)]) z (λy hy=>by cases hy) hw.2.2.2.1 h.1 hz;obtain ⟨b1,b2⟩:=D3z (kn:=kn) r [] (g++[(x,lo,hi,false)]) (wsP kn l [] (g++[(x,lo,hi,true)]) z).2 (λy hy=>by cases hy) hw.2.2.2.2 h.2 a2;exact C3z (r:=(.guard _ _ _ _ _,_)) hp ⟨a1,b1⟩ b2
def D1c (H:Hp) (v:V) (e:Ln):Prop:=∃(q al sl:Addr) (tv:V),v= .ref q/\H q=some (.tup [.str e.1,.ref al,.ref sl,tv])/\H al=some (.lst (e.2.1.map V.str))/\H sl=some (.lst (e.2.2.1.map V.str))/\Rep H tv (A1t e.2.2.2)
theorem D1c.same {e:Ln} (h:D1c H v e) (s:A1f H H'):D1c H' v e:=by
 refine e0d h ?_;clear h;rintro q al sl tv rfl e1 e2 e3 r;exact i0w q al sl tv rfl (s _ _ e1) (s _ _ e2) (s _ _ e3) (r.same s)
structure D0j (S:Addr->Prop) (H:Hp) (bk ol lf ln:Addr) (kn:List Str) (z:LS):Prop where
 nf:¬S lf
 nn:¬S ln
 fr:Fr S H
 hb:A1a S H bk=some (.tup [.ref ol,.ref lf,.ref ln])
 ho:A1a S H ol=some (.lst (kn.map V.str))
 hf:∃fs,H lf=some (.lst fs)/\fs.length=z.1
 hl:∃xs,H ln=some (.lst xs)/\Paired (D1c (A1a S H)) xs z.2
 ne:lf≠ln
theorem D0j.same {bk ol lf ln:Addr} (h:D0j S H bk ol lf ln kn z) (s:A1f H H'):D0j S H' bk ol lf ln kn z:=by
 obtain ⟨fs,f1,f2⟩:=h.hf;obtain ⟨xs,x1,x2⟩:=h.hl;exact ⟨h.nf,h.nn,λb hb=>h.fr b (s.free hb),A0h s _ _ h.hb,A0h s _ _ h.ho,(i02 fs (s _ _ f1) f2),(i02 xs (s _ _ x1) (Paired.mapP x2 λ_ _ q=>q.same (A0h s))),h.ne⟩
def D5c (H:Hp) (v:V) (e:Gd):Prop:=∃q,v= .ref q/\H q=some (.tup [.str e.1,.int e.2.1,.int e.2.2.1,.bl e.2.2.2])
theorem D5c.same {e:Gd} (h:D5c H v e) (s:A1f H H'):D5c H' v e:=by
 obtain ⟨q,rfl,e⟩:=h;exact i02 q rfl (s _ _ e)
structure LiIn (S:Addr->Prop) (H:Hp) (v:V) (gl bk ol lf ln:Addr) (kn:List Str) (z:LS) (u:Tm) (g:List Gd):Prop where
 bk:D0j S H bk ol lf ln kn z
 rp:Rep (A1a S H) v (A1t u)
 gs:∃gv,A1a S H gl=some (.lst gv)/\Paired (D5c (A1a S H)) gv g
 lim:Lim kn u g z
 kne:∀x∈kn,¬x=("":Str)
def B3w (n:Nat):Sp:=λvs H Q _=>∃(v:V) (gl bk ol lf ln:Addr) (S:Addr->Prop) (kn:List Str) (z:LS) (u:Tm) (g:List Gd),vs=[v,.ref gl,.ref bk]/\LiIn S H v gl bk ol lf ln kn z u g/\dep u<=n/\∀(v':V) (H':Hp),K2 lf ln H H'->D0j S H' bk ol lf ln kn (wsP kn u [] g z).2->Rep (A1a S H') v' (A1t (wsP kn u [] g z).1)->Q v' H'
theorem D8d:("s":Str)++(toString (n:Int):Str)=sN n:=rfl
theorem C5l (T:Txt K mg t) (hm:42<=m) (Gf0:A2y P w K mg base CX0 m t.p5 t.pf C2v (B3w n)):A2y P w K mg base CX0 (m+1) t.p5 t.pf C2v (B3w (n+1)):=by
 have Ge9:= @C5j P w K mg base t T 40;refine T.gf.F.ok A2e (λvs H Q E h=> ?_) λ_ A _ s H _ Q E hr h=> ?_
 ·refine e0f h ?_;clear h;rintro v gl bk ol lf ln S kn z ⟨u,g,rfl,_⟩;rfl
 ·refine e0f h ?_;clear h;rintro v gl bk ol lf ln S kn z ⟨u,g,rfl,⟨hB,rp,⟨gv,hgl,pg⟩,lim,kne⟩,du,k⟩;have hb0:=A0j _ _ hB.hb;have lgv:=Paired.length pg;have dg:=lim.hd;have kw:=lim.hw;refine i02 _ (@A0c _ _ _ _ _ (A8z (pv 2) (A3f (n:=3) rfl (A0v (A0n (i:=3) A2e.nd rfl (.inl rfl)) (A0v (A0n (i:=4) A2e.nd rfl (.inl rfl)) (A0v (A0n (i:=5) A2e.nd rfl (.inl rfl)) A2k))))) (@A0c _ _ _ _ _ (@A1z _ _ _ _ _ _ _ _ (@A0o _ _ _ _ _ _ _ _ A2j (@A0z _ _ _ _ _ _ _ A0w (pv 0) A0e (λ_ _=>rfl)) A1h (A1e _)) (@A0c _ _ _ _ _ (@A0l _ _ 6 _ _ _ _ A2e.nd rfl (.inr rfl) (@A1q _ _ _ _ A0d) rfl (by first | exact Or.inl rfl | exact Or.inr rfl | assumption)) (@A0c _ _ _ _ _ (@A6r _ _ _ _ _ _ PassesOwn.never (@A0o _ _ _ _ _ _ _ _ A2j (@A0z _ _ _ _ _ _ _ A0w (pv 0) A0e (λ_ _=>rfl)) A1h (A1e _)) (@A0c _ _ _ _ _ (A2t (A5g Z0k Z0n Z0o A2d (pv 6) (@A0a _ _ _ _ _ (@A0z _ _ _ _ _ _ _ A0w (pv 0) A0e (λ_ _=>rfl)) A0d rfl))) (@A0g _ _ _ (@A0l _ _ 0 _ _ _ _ A2e.nd rfl (.inl rfl) (@A0z _ _ _ _ _ _ _ A0w (pv 0) A0e (λ_ _=>rfl)) rfl (by first | exact Or.inl rfl | exact Or.inr rfl | assumption))))) (@A0c _ _ _ _ _ (@A0l _ _ 7 _ _ _ _ A2e.nd rfl (.inl rfl) (pcl Gf0 hr T.gf (@A0a _ _ _ _ _ (pv 0) (@A0a _ _ _ _ _ (pv 1) (@A0a _ _ _ _ _ (pv 2) A0d rfl) rfl) rfl)) rfl (by first | exact Or.inl rfl | exact Or.inr rfl | assumption)) (@A0c _ _ _ _ _ (A3d PassesOwn.never rfl (C1f rfl T.jq (@A0a _ _ _ _ _ (pv 1) A0d rfl)) (A3f (n:=4) rfl (A0v (A0n (i:=8) A2e.nd rfl (.inl rfl)) (A0v (A0n (i:=9) A2e.nd rfl (.inl rfl)) (A0v (A0n (i:=10) A2e.nd rfl (.inl rfl)) (A0v (A0n (i:=11) A2e.nd rfl (.inl rfl)) A2k))))) (@A0g _ _ _ (@A1z _ _ _ _ _ _ _ _ (A3c (pv 11)) (@A0g _ _ _ (@A0l _ _ 7 _ _ _ _ A2e.nd rfl (.inl rfl) (@A1o _ _ _ _ _ (@A0a _ _ _ _ _ A1h (@A0a _ _ _ _ _ (pv 8) (@A0a _ _ _ _ _ (pv 9) (@A0a _ _ _ _ _ (pv 10) (@A0a _ _ _ _ _ (pv 7) (@A0a _ _ _ _ _ (@A1o _ _ _ _ _ (@A0a _ _ _ _ _ A1h (@A0a _ _ _ _ _ A0e A0d rfl) rfl)) A0d rfl) rfl) rfl) rfl) rfl) rfl)) rfl (by first | exact Or.inl rfl | exact Or.inr rfl | assumption))) (@A0g _ _ _ (@A0l _ _ 7 _ _ _ _ A2e.nd rfl (.inl rfl) (@A1o _ _ _ _ _ (@A0a _ _ _ _ _ A1h (@A0a _ _ _ _ _ (pv 8) (@A0a _ _ _ _ _ (pv 9) (@A0a _ _ _ _ _ (pv 10) (@A0a _ _ _ _ _ (@A1o _ _ _ _ _ (@A0a _ _ _ _ _ A1h (@A0a _ _ _ _ _ A0e A0d rfl) rfl)) (@A0a _ _ _ _ _ (pv 7) A0d rfl) rfl) rfl) rfl) rfl) rfl)) rfl (by first | exact Or.inl rfl | exact Or.inr rfl | assumption)))))) (@A0c _ _ _ _ _ (@A0l _ _ 12 _ _ _ _ A2e.nd rfl (.inr rfl) (pcl Ge9 hr T.j6 (@A0a _ _ _ _ _ (pv 7) A0d rfl)) rfl (by first | exact Or.inl rfl | exact Or.inr rfl | assumption)) (@A0c _ _ _ _ _ (B3c (i₀:=13) (N':=["_law_axis","_law_come_here","_law_sums"]) (ix:=(List.replicate 1 none++[some 12,some 6])) (tc:=C9s (B7x (tOp (rIn K false) (C0u 0) (C0u 1))) (B7x (tOp (rIn K true) (C0u 0) (C0u 2)))) A2e.nd rfl (.inl rfl) rfl (B2p (cl:=[("_law_sums",_),("_law_come_here",_)]) (xs:=["_law_sums","_law_come_here"]) rfl (i00 rfl rfl trivial) rfl rfl (by decide +kernel) (by decide +kernel)) (B2t (N0:=["_law_axis"]) (xs:=["_law_come_here","_law_sums"]) (js:=[12,6]) (i00 (i00 rfl (.inl rfl) (by walk_at "ix")) (i00 rfl (.inl rfl) (by walk_at "ix")) trivial)) (A2q (pv 3)) (λ_ _ _ _=>(A0n (i:=0) C3j rfl (.inl rfl))) (λ_ _ _ _=>(PW.pt (A3n (@A0o _ _ _ _ _ _ _ _ B8v (pv 0) (pv 1) (by with_unfolding_all rfl)) (A3w (@A0o _ _ _ _ _ _ _ _ A4x (pv 0) (pv 2) (by with_unfolding_all rfl)))))) (λ_ _ _ _=>(pv 0))) (@A0c _ _ _ _ _ (@A0l _ _ 14 _ _ _ _ A2e.nd rfl (.inl rfl) (@A0r _ _ _ _ _ _ _ _ A4c A1h (A2a A4w (by rfl) T.w6 PyProof.Rows.boot_str (@A0a _ _ _ _ _ (A0y A0x (by rfl) T.bf Z0r (@A0a _ _ _ _ _ (pv 4) A0d rfl)) A0d rfl))) rfl (by first | exact Or.inl rfl | exact Or.inr rfl | assumption)) (@A0c _ _ _ _ _ (A2t (A5g Z0k Z0n Z0o A2d (pv 4) (@A0a _ _ _ _ _ (pv 14) A0d rfl))) (@A0c _ _ _ _ _ (A2t (A5g Z0k Z0n Z0o A2d (pv 5) (@A0a _ _ _ _ _ (@A1o _ _ _ _ _ (@A0a _ _ _ _ _ (pv 14) (@A0a _ _ _ _ _ (pv 13) (@A0a _ _ _ _ _ (pv 6) (@A0a _ _ _ _ _ (pv 7) A0d rfl) rfl) rfl) rfl)) A0d rfl))) (@A0g _ _ _ (@A0u _ _ _ _ (@A1o _ _ _ _ _ (@A0a _ _ _ _ _ A1h (@A0a _ _ _ _ _ (pv 14) (@A0a _ _ _ _ _ (A3u (N':=["_law_axis"]) (ix:=(List.replicate 1 none)) rfl (A2p rfl (by decide +kernel) (by decide +kernel)) (A2n rfl) (A2q (pv 13)) (λ_ _ _ _=>(A0n (i:=0) C3h rfl (.inl rfl))) (λ_ _ _ _=>(@A1o _ _ _ _ _ (@A0a _ _ _ _ _ (pv 0) (@A0a _ _ _ _ _ A0e A0d rfl) rfl)))) A0d rfl) rfl) rfl))))))))))))) A1d) (@A0c _ _ _ _ _ (@A1z _ _ _ _ _ _ _ _ (@A0o _ _ _ _ _ _ _ _ A2j (@A0z _ _ _ _ _ _ _ A0w (pv 0) A0e (λ_ _=>rfl)) A1h (A1e _)) (@A0c _ _ _ _ _ (@A0l _ _ 15 _ _ _ _ A2e.nd rfl (.inl rfl) (pcl Gf0 hr T.gf (@A0a _ _ _ _ _ (@A0z _ _ _ _ _ _ _ A0w (pv 0) A0e (λ_ _=>rfl)) (@A0a _ _ _ _ _ (@A0r _ _ _ _ _ _ _ _ A4i (pv 1) (@A1q _ _ _ _ (@A0a _ _ _ _ _ (@A1o _ _ _ _ _ (@A0a _ _ _ _ _ (@A0z _ _ _ _ _ _ _ A0w (pv 0) A0e (λ_ _=>rfl)) (@A0a _ _ _ _ _ (@A0z _ _ _ _ _ _ _ A0w (pv 0) A0e (λ_ _=>rfl)) (@A0a _ _ _ _ _ (@A0z _ _ _ _ _ _ _ A0w (pv 0) A0e (λ_ _=>rfl)) (@A0a _ _ _ _ _ B4a A0d rfl) rfl) rfl) rfl)) A0d rfl))) (@A0a _ _ _ _ _ (pv 2) A0d rfl) rfl) rfl)) rfl (by first | exact Or.inl rfl | exact Or.inr rfl | assumption)) (@A0c _ _ _ _ _ (@A0l _ _ 16 _ _ _ _ A2e.nd rfl (.inl rfl) (pcl Gf0 hr T.gf (@A0a _ _ _ _ _ (@A0z _ _ _ _ _ _ _ A0w (pv 0) A0e (λ_ _=>rfl)) (@A0a _ _ _ _ _ (@A0r _ _ _ _ _ _ _ _ A4i (pv 1) (@A1q _ _ _ _ (@A0a _ _ _ _ _ (@A1o _ _ _ _ _ (@A0a _ _ _ _ _ (@A0z _ _ _ _ _ _ _ A0w (pv 0) A0e (λ_ _=>rfl)) (@A0a _ _ _ _ _ (@A0z _ _ _ _ _ _ _ A0w (pv 0) A0e (λ_ _=>rfl)) (@A0a _ _ _ _ _ (@A0z _ _ _ _ _ _ _ A0w (pv 0) A0e (λ_ _=>rfl)) (@A0a _ _ _ _ _ B4a A0d rfl) rfl) rfl) rfl)) A0d rfl))) (@A0a _ _ _ _ _ (pv 2) A0d rfl) rfl) rfl)) rfl (by first | exact Or.inl rfl | exact Or.inr rfl | assumption)) (@A0g _ _ _ (@A0u _ _ _ _ (@A1o _ _ _ _ _ (@A0a _ _ _ _ _ A1h (@A0a _ _ _ _ _ (@A0z _ _ _ _ _ _ _ A0w (pv 0) A0e (λ_ _=>rfl)) (@A0a _ _ _ _ _ (@A0z _ _ _ _ _ _ _ A0w (pv 0) A0e (λ_ _=>rfl)) (@A0a _ _ _ _ _ (@A0z _ _ _ _ _ _ _ A0w (pv 0) A0e (λ_ _=>rfl)) (@A0a _ _ _ _ _ (pv 15) (@A0a _ _ _ _ _ (pv 16) A0d rfl) rfl) rfl) rfl) rfl) rfl)))))) A1d) (@A0c _ _ _ _ _ (@A1z _ _ _ _ _ _ _ _ (PW.pt (B0f (@A0o _ _ _ _ _ _ _ _ A2j (@A0z _ _ _ _ _ _ _ A0w (pv 0) A0e (λ_ _=>rfl)) A1h (A1e _)) (B0f (@A0o _ _ _ _ _ _ _ _ A2j (@A0z _ _ _ _ _ _ _ A0w (pv 0) A0e (λ_ _=>rfl)) A1h (A1e _)) (A9y (@A0o _ _ _ _ _ _ _ _ A2j (@A0z _ _ _ _ _ _ _ A0w (pv 0) A0e (λ_ _=>rfl)) A1h (A1e _)))))) (@A0g _ _ _ (@A0u _ _ _ _ (pv 0))) A1d) (@A0c _ _ _ _ _ (@A0l _ _ 17 _ _ _ _ A2e.nd rfl (.inl rfl) (pcl Gf0 hr T.gf (@A0a _ _ _ _ _ (@A0z _ _ _ _ _ _ _ A0w (pv 0) A0e (λ_ _=>rfl)) (@A0a _ _ _ _ _ (pv 1) (@A0a _ _ _ _ _ (pv 2) A0d rfl) rfl) rfl)) rfl (by first | exact Or.inl rfl | exact Or.inr rfl | assumption)) (@A0g _ _ _ (@A0u _ _ _ _ (@A1o _ _ _ _ _ (@A0a _ _ _ _ _ (@A0z _ _ _ _ _ _ _ A0w (pv 0) A0e (λ_ _=>rfl)) (@A0a _ _ _ _ _ (pv 17) (@A0a _ _ _ _ _ (pcl Gf0 hr T.gf (@A0a _ _ _ _ _ (@A0z _ _ _ _ _ _ _ A0w (pv 0) A0e (λ_ _=>rfl)) (@A0a _ _ _ _ _ (pv 1) (@A0a _ _ _ _ _ (pv 2) A0d rfl) rfl) rfl)) A0d rfl) rfl) rfl))))))))) ?_;refine i02 _ rfl (i1c bk _ rfl (SqT.of hb0) rfl _ _ rfl _ _ rfl _ _ rfl ⟨rfl,?_⟩);obtain ⟨q,vs,rfl,eq⟩:=A9f rp;obtain ⟨t1,t2⟩:=B5q u;have sq:=SqT.of (K:=K) (A0j _ _ eq);refine i19 _ rfl q _ _ _ rfl rfl sq (A1s (j:=0) rfl) rfl _ rfl ?_;rw [dtS,t1]
  cases hS:isS u with
  | true =>
   have hi3:=B1q u lim.hw;have tne:=D1a hS;have tl1:1<=(A3g u).length:=by cases e:A3g u with | nil=>exact absurd e tne | cons _ _=>simp
   refine A5h ⟨A0q rfl,λsl hsl=> ?_⟩;have s1:=A0f (o:= .lst []) hsl;refine i02 (λm Z G=>∃(v':V) (u':Tm) (ps:List Str),Z=[some v',Sro gl,Sro bk,Sro ol,Sro lf,Sro ln,Sro sl,none,none,none,none,none,none,none,none,none,none,none]/\A1f H G/\G sl=some (.lst (ps.map V.str))/\Rep (A1a S H) v' (A1t u')/\ps++A3g u'=A3g u/\inS u'=inS u/\m=dep u'/\ps.length+dep u'<=40) (i0w (dep u) (.ref q) u [] rfl s1 A0b rp (i04 rfl rfl rfl (by show 0+dep u<=40;lia))) ?_;rintro m' Z G zz;refine e09 zz ?_;clear zz;rintro v' u' ps rfl sG hG ⟨rp',ep,ei,rfl,bd⟩;obtain ⟨q',vs',rfl,eq'⟩:=A9f rp';obtain ⟨t1',_⟩:=B5q u';have eq0:=sG _ _ (A0j _ _ eq');refine i19 _ rfl q' _ _ _ rfl rfl (SqT.of eq0) (A1s (j:=0) rfl) rfl _ rfl ?_;rw [dtS,t1']
   cases hS':isS u' with
   | true =>
    cases u' with
    | sum x b =>
     obtain ⟨q2,a,e1,e2,ra⟩:=B6m rp';cases e1;have e2:=sG _ _ (A0j _ _ e2);simp only [dep] at bd;have qs:q'≠sl:=A3a e2 hG (by intro h;cases h);refine A5h (i02 (λZ' H'=>∃m'',m''<dep (.sum x b)/\∃(v':V) (u':Tm) (ps:List Str),Z'=[some v',some (.ref gl),some (.ref bk),some (.ref ol),some (.ref lf),some (.ref ln),some (.ref sl),none,none,none,none,none,none,none,none,none,none,none]/\A1f H H'/\H' sl=some (.lst (ps.map V.str))/\Rep (A1a S H) v' (A1t u')/\ps++A3g u'=A3g u/\inS u'=inS u/\m''=dep u'/\ps.length+dep u'<=40) (λZ' H' z=>z) ?_);refine i06 _ rfl (.inl (i01 rfl _ (SqL.of hG))) (i10 _ rfl q' _ _ _ rfl rfl (SqT.of e2) rfl (i0s sl _ _ rfl rfl hG (A1l (by rw [Z08];lia)) ?_));refine i10 _ rfl q' _ _ _ rfl rfl (SqT.of (by rw [A0k qs];exact e2)) rfl ?_;refine i0v (dep b) (by simp only [dep];lia) a b (ps++[x]) rfl (A0s sG hsl) (by rw [A0b,Z0s];rfl) (i08 ra (by rw [<-ep,Z0z];rfl) ei rfl (by rw [Z06];simp only [Z0y,Z2g];lia))
    | num _=>cases hS'
    | place _=>cases hS'
    | read _ _=>cases hS'
    | pair _ _ _=>cases hS'
    | guard _ _ _ _ _=>cases hS'
   | false =>
    obtain ⟨i1,i2⟩:=D0c hS';rw [i1,Z0u] at ep;rw [i2] at ei;subst ei;subst ep;refine A2u ?_;have bG:=hB.same sG;have frG:=A0h (S:=S) sG;have Ssl:S sl:=hB.fr sl hsl;have limI:Lim kn (inS u) g z:=⟨lim.hk,hi3.1,lim.hg,by lia,by have:=lim.hn;lia,by have:=lim.hz;lia,by have:=lim.hl;lia,lim.ha⟩;refine i02 _ rfl (i0c _ rfl _ rfl (i1d (.ref q') gl bk ol lf ln S kn z (inS u) g rfl ⟨bG,rp'.same frG,(i02 gv (frG _ _ hgl) (Paired.mapP pg λ_ _ y=>y.same frG)),limI,kne⟩ (by lia) λbv H2 k2 bk2 rp2=> ?_));have ro:=limI.ok;have eW:wsP kn u [] g z=fin kn (A3g u) g (wsP kn (inS u) [] g z):=C4o u [] g z;rw [D0d tne] at eW;rw [eW] at k;have nor:=C3e (kn:=kn) (inS u) [] g z;generalize wsP kn (inS u) [] g z=r at bk2 rp2 ro k nor;have k02:K2 lf ln H H2:=(K2.of sG).trans k2;have r02:=k02.rs hB.nf hB.nn;have rG2:=k2.rs hB.nf hB.nn;have sl2:=rG2 _ _ (A0i Ssl hG);have gl2:=r02 _ _ hgl;have pg2:Paired (D5c (A1a S H2)) gv g:=Paired.mapP pg λ_ _ y=>y.same r02;refine i0m _ rfl gl _ rfl (SqL.of (A0j _ _ gl2)) ?_;refine B6e (K:=K) (a:=gl) (xs:=gv) (λi Z G=>∃(v3:V) (o8 o9 o10 o11:Option V),Z=[Sro q',Sro gl,Sro bk,Sro ol,Sro lf,Sro ln,Sro sl,some v3,o8,o9,o10,o11,none,none,none,none,none,none]/\A1f H2 G/\Rep (A1a S G) v3 (A1t (gdM (g.drop (g.length-i)) r.1))) (i03 bv none (i0l none none none rfl (A1f.refl _) (by rw [Nat.sub_zero,List.drop_length];exact rp2))) (by (rintro i Z G zz;refine e08 zz ?_;clear zz;rintro _ _ _ _ _ ⟨_,s,_⟩);exact SqL.of (s _ _ (A0j _ _ gl2))) ?_ ?_
    ·rintro i y Z G3 hi hy zz;refine e08 zz ?_;clear zz;rintro v3 o8 o9 o10 o11 ⟨rfl,s3,rp3⟩;obtain ⟨e,he,qg,rfl,eg⟩:=B2l pg2 hy;have eg:=s3 _ _ (A0j _ _ eg);have hlt:=(Z03.mp he).1
     have ed:g.drop (g.length-(i+1))=e::g.drop (g.length-i):=by
      have e1:g.length-(i+1)=gv.length-1-i:=by lia
      have e2:g.length-i=gv.length-1-i+1:=by lia
      rw [e1,e2,Z1u hlt];rw [Z0b hlt] at he;rw [Z1a he]
     have f3:=bk2.fr.same s3;obtain ⟨x,lo,hi',b⟩:=e;refine i1c qg _ rfl (SqT.of eg) rfl _ _ rfl _ _ rfl _ _ rfl (i0d _ _ rfl rfl ?_);refine i0c _ rfl _ rfl ?_
     cases b with
     | true =>
      refine A5h (i0c _ rfl _ rfl (i0j _ rfl _ rfl (A0q rfl) λq1 hq1=>⟨A0q rfl,λq2 hq2=> ?_⟩));have sA:=A0f (o:= .tup [.str "number",.int 0]) hq1;have sB:=A0f (o:= .tup [.str "guard",.str x,.int lo,.int hi',v3,.ref q1]) hq2;refine i03 _ _ (i0l _ _ _ rfl (s3.trans (sA.trans sB)) ?_);rw [ed];exact A5z (A0i (f3 q2 (sA.free hq2)) A0b) (rp3.same (A0h (sA.trans sB))) (B8n (A0i (f3 q1 hq1) (sB _ _ A0b)))
     | false =>
      refine A2u (i02 _ rfl (i0j _ rfl _ rfl (A0q rfl) λq1 hq1=>(i06 _ rfl (A0q rfl) λq2 hq2=> ?_)));have sA:=A0f (o:= .tup [.str "number",.int 0]) hq1;have sB:=A0f (o:= .tup [.str "guard",.str x,.int lo,.int hi',.ref q1,v3]) hq2;refine i03 _ _ (i0l _ _ _ rfl (s3.trans (sA.trans sB)) ?_);rw [ed];exact A5z (A0i (f3 q2 (sA.free hq2)) A0b) (B8n (A0i (f3 q1 hq1) (sB _ _ A0b))) (rp3.same (A0h (sA.trans sB)))
    rintro Z H3 zz;refine e08 zz ?_;clear zz;rintro v3 o8 o9 o10 o11 ⟨rfl,s23,rp3⟩;rw [lgv,Nat.sub_self,List.drop_zero] at rp3;obtain ⟨w1,w2,w3⟩:=C1p g r.1 lim.hg ro.w;have rd:=ro.d;have rn:=ro.n;have rk:=ro.k;have lz:=lim.hz;have ln5:=lim.hn;have nob:=D7f nor g;generalize gdM g r.1=b at rp3 k w1 w2 w3 nob;refine i0m _ rfl v3 b rfl (rp3.same A0j) (i08 nob w1 (by lia) (by lia) λcm H4 hcm s34 hcm4=> ?_);have bk4:=bk2.same (s23.trans s34);have rp4:=rp3.same (A0h (S:=S) s34);have s24:=s23.trans s34;have sl4:=A0h (S:=S) s24 _ _ sl2;obtain ⟨n1,n2⟩:=B5b (pend:=A3g u) (b:=b) lim.hk;refine i0j _ rfl ol rfl ⟨_,SqL.of (A0j _ _ bk4.ho)⟩ λD hD=> ?_;refine A7f (K:=K) (a:=ol) (D:=D) (xs:=kn.map V.str) (λj ys G=>A1f H4 G/\G D=some (.lst ys)/\ys=(C0t (kn.take j) (A3g u) b).map V.str/\ys.length<=j) (i04 (A0f hD) A0b rfl (Z09 _)) (by rintro j ys G ⟨s6,_⟩;exact SqL.of (s6 _ _ (A0j _ _ bk4.ho))) ?_ ?_
    ·rintro j y ys G hy ⟨s6,h6,ey,ly⟩;obtain ⟨x,hx,rfl⟩:=A9m hy;have hj:j<kn.length:=(Z03.mp hx).1;have lk:=lim.hk.1;have xne:=kne x (Z13 hx)
     have ea:C0t (kn.take (j+1)) (A3g u) b=C0t (kn.take j) (A3g u) b++(if (decide (x∈B4n b)&&decide (x∉A3g u))=true then [x] else []):=by
      show (kn.take (j+1)).filter _=(kn.take j).filter _++_;rw [Z14,hx,Z2f,List.filter_append,List.filter_cons,List.filter_nil]
     refine ⟨(i00 rfl rfl True.intro),?_⟩;refine B6b (d1:=decide (x∈B4n b)) (d2:=decide (x∉A3g u)) (λQ' q=> ?_) (λQ' q=> ?_) ?_
     ·refine i14 _ rfl _ rfl cm _ rfl (.inl (SqL.of (s6 _ _ hcm4))) rfl (A4u _) _ rfl ?_;show Q' (inV (V.str x) ((cmL b).map V.str)) G;rw [B1c,D2t xne nob];exact q
     ·refine i14 _ rfl _ rfl sl _ rfl (.inl (SqL.of (s6 _ _ (A0j _ _ sl4)))) rfl (A4u _) _ rfl ?_;show Q' (! inV (V.str x) ((A3g u).map V.str)) G;rw [B1c];have e:(! decide (x∈A3g u))=decide (x∉A3g u):=by by_cases h:x∈A3g u <;> simp [h]
      rw [e];exact q
     ·cases hc:(decide (x∈B4n b)&&decide (x∉A3g u)) with
      | false =>
       rw [hc] at ea;exact A2u (i04 s6 h6 (by rw [ey,ea];simp) (by lia))
      | true =>
       rw [hc] at ea;exact A5h (i02 _ rfl (i0g h6 (A1l (by lia)) (A0s s6 hD) A0b (by rw [ey,ea,Z0s];rfl) (by rw [Z06];simp only [Z0y,Z2g];lia)))
    rintro ys H5 ⟨s45,h5,rfl,_⟩;rw [Z08,Z18] at h5;have bk5:=bk4.same s45;have SD:S D:=bk4.fr D hD;have er:lfR kn (A3g u) r.2.1 b= .read (sN r.2.1) ((C0t kn (A3g u) b).map λx=>(x,(0:Int))):=rfl;have el:lfL kn (A3g u) r.2.1 b=(sN r.2.1,C0t kn (A3g u) b,A3g u,b):=rfl;rw [er,el] at k;generalize C0t kn (A3g u) b=ax at h5 n1 n2 k;obtain ⟨fs,hf5,lfs⟩:=bk5.hf;obtain ⟨xs,hx5,px5⟩:=bk5.hl;have z0:Sm (r.2.1:Int):=by unfold Sm;lia
    have l60:=C4s (n:=r.2.1) (by lia);have li:=B3f z0;refine i0m _ rfl lf _ rfl (.inl (SqL.of hf5)) (i06 _ rfl (by rw [lfs];exact B1p z0) (i0k _ _ rfl rfl (A1k (by rw [lfs];have e0:("s":Str).length=1:=(by decide +kernel);lia)) ?_));rw [lfs,D8d];have lxs:=Paired.length px5;have hll:=lim.hl;have rl:=ro.l;refine i0i _ rfl (.inl (i01 rfl _ (SqL.of hf5))) _ rfl (i0s lf _ _ rfl rfl hf5 (A1l (by lia)) ?_);have k56:K2 lf ln H5 (upd H5 lf (.lst (fs++[.str (sN r.2.1)]))):=K2.atp;have f6:upd H5 lf (.lst (fs++[.str (sN r.2.1)])) lf=some (.lst (fs++[.str (sN r.2.1)])):=A0b;have x6:upd H5 lf (.lst (fs++[.str (sN r.2.1)])) ln=some (.lst xs):=by rw [A0k bk5.ne.symm];exact hx5
    generalize upd H5 lf (.lst (fs++[.str (sN r.2.1)]))=H6 at k56 f6 x6;have r56:=k56.rs hB.nf hB.nn;have fr6:Fr S H6:=λb hb=>bk5.fr b (k56.free f6 x6 hb);have D6:=r56 _ _ (A0i SD h5);have sl6:=r56 _ _ (A0h (S:=S) s45 _ _ sl4);refine i06 _ rfl (.inl (i01 rfl _ (SqL.of x6))) (i0c _ rfl _ rfl (i0j _ rfl _ rfl (A0q rfl) λtp htp=> ?_));have s67:=A0f (o:= .tup [.str (sN r.2.1),.ref D,.ref sl,v3]) htp;have e7:upd H6 tp (.tup [.str (sN r.2.1),.ref D,.ref sl,v3]) tp=some (.tup [.str (sN r.2.1),.ref D,.ref sl,v3]):=A0b;generalize upd H6 tp (.tup [.str (sN r.2.1),.ref D,.ref sl,v3])=H7 at s67 e7;have x7:=s67 _ _ x6;refine i0s ln _ _ rfl rfl x7 (A1l (by lia)) ?_;have k78:K2 lf ln H7 (upd H7 ln (.lst (xs++[.ref tp]))):=K2.atl;have f8:upd H7 ln (.lst (xs++[.ref tp])) lf=some (.lst (fs++[.str (sN r.2.1)])):=by rw [A0k bk5.ne];exact s67 _ _ f6
    have x8:upd H7 ln (.lst (xs++[.ref tp])) ln=some (.lst (xs++[.ref tp])):=A0b;generalize upd H7 ln (.lst (xs++[.ref tp]))=H8 at k78 f8 x8;have k68:=(K2.of (p:=lf) (l:=ln) s67).trans k78;have k58:=k56.trans k68;have r68:=k68.rs hB.nf hB.nn;have r58:=k58.rs hB.nf hB.nn;have r78:=k78.rs hB.nf hB.nn;have Stp:S tp:=fr6 tp htp;have b8:D0j S H8 bk ol lf ln kn (r.2.1+1,r.2.2++[(sN r.2.1,ax,A3g u,b)]):=⟨hB.nf,hB.nn,λb hb=>fr6 b (k68.free f8 x8 hb),r58 _ _ bk5.hb,r58 _ _ bk5.ho,(i02 _ f8 (by rw [Z06,lfs];rfl)),(i02 _ x8 (B2c (Paired.mapP px5 λ_ _ y=>y.same r58) (.cons (i0w tp D sl v3 rfl (r78 _ _ (A0i Stp e7)) (r68 _ _ D6) (r68 _ _ sl6) ((rp4.same (A0h (S:=S) s45)).same r58)) .nil))),bk5.ne⟩;have D8:=r68 _ _ D6;have k08:K2 lf ln H H8:=k02.trans ((K2.of (s24.trans s45)).trans k58);refine i02 _ rfl (i0j _ rfl D rfl ⟨_,SqL.of (A0j _ _ D8)⟩ λD2 hD2=> ?_);refine A2w (K:=K) (a:=D) (D:=D2) (xs:=ax.map V.str) (λi ys G=>A1f H8 G/\G D2=some (.lst ys)/\Paired (λ(v:V) (e:Str×Int)=>∃q,v= .ref q/\S q/\G q=some (.tup [.str e.1,.int e.2])) ys ((ax.take i).map λx=>(x,(0:Int)))) (i00 (A0f hD2) A0b .nil) (by rintro i ys G ⟨s,_⟩;exact SqL.of (s _ _ (A0j _ _ D8))) ?_ ?_
    ·rintro i y0 ys G hy0 ⟨sG,hG,pG⟩;obtain ⟨y,hy,rfl⟩:=A9m hy0;have hi:=(Z03.mp hy).1;have lG:=Paired.length pG;rw [Z08,Z0x] at lG;refine ⟨True.intro,(i06 _ rfl (A0q rfl) λtp htp=> ?_)⟩;have sT:=A0f (o:= .tup [.str y,.int 0]) htp;have eT:upd G tp (.tup [.str y,.int 0]) tp=some (.tup [.str y,.int 0]):=A0b;have St:S tp:=b8.fr tp (sG.free htp);generalize upd G tp (.tup [.str y,.int 0])=G2 at sT eT;refine i08 (sT _ _ hG) (A1l (by lia)) (A0s (sG.trans sT) hD2) A0b ?_;have tD:tp≠D2:=λe=>by rw [e,hG] at htp;cases htp
     rw [Z14,hy,Z2f,Z0s];exact B2c (Paired.mapP pG λv e ⟨q,e1,e2,e3⟩=>(i06 q e1 e2 (by rw [A0k (A3a e3 hG (by intro h;cases h))];exact sT _ _ e3))) (.cons (i06 tp rfl St (by rw [A0k tD];exact eT)) .nil)
    rintro ys G ⟨sG,hG,pG⟩;rw [Z08,Z18] at pG;refine ⟨A0q rfl,λrx hrx=> ?_⟩;have sX:=A0f (o:= .tup [.str "read",.str (sN r.2.1),.ref D2]) hrx;have s8X:=sG.trans sX;exact k _ _ (k08.trans (K2.of s8X)) (b8.same s8X) (C0l (A0i (b8.fr rx (sG.free hrx)) A0b) (.lst (A0i (b8.fr D2 hD2) (sX _ _ hG)) (B1f (Paired.mapP pG λv e ⟨q,e1,e2,e3⟩=>(i02 q e1 (A0i e2 (sX _ _ e3)))))))
  | false =>
   refine A2u ?_
   cases u with
   | sum _ _=>cases hS
   | num x =>
    refine i19 _ rfl q _ _ _ rfl rfl sq (A1s (j:=0) rfl) rfl _ rfl (A4m (λh=>sne h (show¬("number":Str)="guard" by decide +kernel)) (λ_=> ?_));dsimp only [B5r,C7o,C7q];refine D4c (d1:=decide (tg (.num x)="number")) (d2:=decide (tg (.num x)="place")) (d3:=decide (tg (.num x)="read")) (λQ' qq=>(i19 _ rfl q _ _ _ rfl rfl sq (A1s (j:=0) rfl) rfl _ rfl (by rw [dtS];exact qq))) (λQ' qq=>(i19 _ rfl q _ _ _ rfl rfl sq (A1s (j:=0) rfl) rfl _ rfl (by rw [dtS];exact qq))) (λQ' qq=>(i19 _ rfl q _ _ _ rfl rfl sq (A1s (j:=0) rfl) rfl _ rfl (by rw [dtS];exact qq))) ?_;rw [t2];exact A5h (i02 _ rfl (k _ H (K2.of (A1f.refl _)) hB rp))
   | place x =>
    refine i19 _ rfl q _ _ _ rfl rfl sq (A1s (j:=0) rfl) rfl _ rfl (A4m (λh=>sne h (show¬("place":Str)="guard" by decide +kernel)) (λ_=> ?_));dsimp only [B5r,C7o,C7q];refine D4c (d1:=decide (tg (.place x)="number")) (d2:=decide (tg (.place x)="place")) (d3:=decide (tg (.place x)="read")) (λQ' qq=>(i19 _ rfl q _ _ _ rfl rfl sq (A1s (j:=0) rfl) rfl _ rfl (by rw [dtS];exact qq))) (λQ' qq=>(i19 _ rfl q _ _ _ rfl rfl sq (A1s (j:=0) rfl) rfl _ rfl (by rw [dtS];exact qq))) (λQ' qq=>(i19 _ rfl q _ _ _ rfl rfl sq (A1s (j:=0) rfl) rfl _ rfl (by rw [dtS];exact qq))) ?_;rw [t2];exact A5h (i02 _ rfl (k _ H (K2.of (A1f.refl _)) hB rp))
   | read x ix =>
    refine i19 _ rfl q _ _ _ rfl rfl sq (A1s (j:=0) rfl) rfl _ rfl (A4m (λh=>sne h (show¬("read":Str)="guard" by decide +kernel)) (λ_=> ?_));dsimp only [B5r,C7o,C7q];refine D4c (d1:=decide (tg (.read x ix)="number")) (d2:=decide (tg (.read x ix)="place")) (d3:=decide (tg (.read x ix)="read")) (λQ' qq=>(i19 _ rfl q _ _ _ rfl rfl sq (A1s (j:=0) rfl) rfl _ rfl (by rw [dtS];exact qq))) (λQ' qq=>(i19 _ rfl q _ _ _ rfl rfl sq (A1s (j:=0) rfl) rfl _ rfl (by rw [dtS];exact qq))) (λQ' qq=>(i19 _ rfl q _ _ _ rfl rfl sq (A1s (j:=0) rfl) rfl _ rfl (by rw [dtS];exact qq))) ?_;rw [t2];exact A5h (i02 _ rfl (k _ H (K2.of (A1f.refl _)) hB rp))
   | pair o l r =>
    refine e09 (B2f rp) λq' a b e1 e2 ra rb=>?_;cases e1;have e20:=e2;have sq2:=SqT.of (K:=K) (A0j _ _ e2);simp only [dep] at du dg;have kn5:=lim.hn;have kz5:=lim.hz;have kl5:=lim.hl;simp only [nod] at kn5 kz5 kl5;have la:Lim kn l g z:=⟨lim.hk,kw.1,lim.hg,by lia,by lia,by lia,by lia,lim.ha⟩;refine i19 _ rfl q _ _ _ rfl rfl sq (A1s (j:=0) rfl) rfl _ rfl (A4m (λh=>sne h (C6q o).1) (λ_=> ?_));dsimp only [B5r,C7o,C7q];refine D4c (d1:=decide (tg (.pair o l r)="number")) (d2:=decide (tg (.pair o l r)="place")) (d3:=decide (tg (.pair o l r)="read")) (λQ' qq=>(i19 _ rfl q _ _ _ rfl rfl sq (A1s (j:=0) rfl) rfl _ rfl (by rw [dtS];exact qq))) (λQ' qq=>(i19 _ rfl q _ _ _ rfl rfl sq (A1s (j:=0) rfl) rfl _ rfl (by rw [dtS];exact qq))) (λQ' qq=>(i19 _ rfl q _ _ _ rfl rfl sq (A1s (j:=0) rfl) rfl _ rfl (by rw [dtS];exact qq))) ?_;rw [t2];refine A2u (i10 _ rfl q _ _ _ rfl rfl sq2 rfl (i0c _ rfl _ rfl (i1d a gl bk ol lf ln S kn z l g rfl ⟨hB,ra,(i02 gv hgl pg),la,kne⟩ (by lia) λv1 H1 k1 b1 r1=> ?_)));have rs1:=k1.rs hB.nf hB.nn;have ro:=la.ok;have rk:=ro.k;have rl:=ro.l;have lb:Lim kn r g (wsP kn l [] g z).2:=⟨lim.hk,kw.2,lim.hg,by lia,by lia,by lia,by lia,ro.a⟩;have sq3:=SqT.of (K:=K) (A0j _ _ (rs1 _ _ e20));refine i10 _ rfl q _ _ _ rfl rfl sq3 rfl (i15 _ rfl _ rfl q _ _ _ rfl rfl sq3 rfl (i0c _ rfl _ rfl (i1d b gl bk ol lf ln S kn _ r g rfl ⟨b1,rb.same rs1,(i02 gv (rs1 _ _ hgl) (Paired.mapP pg λ_ _ y=>y.same rs1)),lb,kne⟩ (by lia) λv2 H2 k2 b2 r2=>⟨A0q rfl,λtp htp=> ?_⟩)));have sT:=A0f (o:= .tup [.str (opS o),v1,v2]) htp;have rs2:=k2.rs hB.nf hB.nn;exact k _ _ ((k1.trans k2).trans (K2.of sT)) (b2.same sT) (B2w (A0i (b2.fr tp htp) A0b) ((r1.same rs2).same (A0h sT)) (r2.same (A0h sT)))
   | guard x lo hi l r =>
    refine e09 (A7p rp) λq' a b e1 e2 ra rb=>?_;cases e1;have e20:=e2;have sq2:=SqT.of (K:=K) (A0j _ _ e2);simp only [dep] at du dg;have kn5:=lim.hn;have kz5:=lim.hz;have kl5:=lim.hl;simp only [nod] at kn5 kz5 kl5;have lg:∀b:Bool,(g++[(x,lo,hi,b)]).length=g.length+1:=λb=>by simp
    have la:Lim kn l (g++[(x,lo,hi,true)]) z:=⟨lim.hk,kw.2.2.2.1,lim.hg.add kw.1 kw.2.1 kw.2.2.1,by rw [lg];lia,by lia,by lia,by lia,lim.ha⟩;refine i19 _ rfl q _ _ _ rfl rfl sq2 rfl rfl _ rfl (A4m (λ_=> ?_) (λh=>absurd rfl h));refine i10 _ rfl q _ _ _ rfl rfl sq2 rfl (i15 _ rfl _ rfl q _ _ _ rfl rfl sq2 rfl (i10 _ rfl q _ _ _ rfl rfl sq2 rfl (i12 _ rfl q _ _ _ rfl rfl sq2 rfl (A0q rfl) λtp htp=> ?_)));have sT:=A0f (o:= .tup [.str x,.int lo,.int hi,.bl true]) htp;have eT:upd H tp (.tup [.str x,.int lo,.int hi,.bl true]) tp=some (.tup [.str x,.int lo,.int hi,.bl true]):=A0b;generalize upd H tp (.tup [.str x,.int lo,.int hi,.bl true])=H1 at sT eT;have St:S tp:=hB.fr tp htp;refine ⟨A0q rfl,λl1 hl1=>(i0y gl l1 _ _ rfl rfl ((A0f hl1) _ _ (sT _ _ (A0j _ _ hgl))) A0b (A1k (by simp;lia)) λg1 hg1=> ?_)⟩;have sU:=(A0f (o:= .lst [.ref tp]) hl1).trans (A0f (o:= .lst (gv++[.ref tp])) hg1);have hgU:upd (upd H1 l1 (.lst [.ref tp])) g1 (.lst (gv++[.ref tp])) g1=some (.lst (gv++[.ref tp])):=A0b;have Sg1:S g1:=hB.fr g1 (sT.free ((A0f (o:= .lst [.ref tp]) hl1).free hg1));generalize upd (upd H1 l1 (.lst [.ref tp])) g1 (.lst (gv++[.ref tp]))=H2 at sU hgU;have sTU:=sT.trans sU;have rTU:=A0h (S:=S) sTU;refine i02 _ rfl (i1d a g1 bk ol lf ln S kn z l (g++[(x,lo,hi,true)]) rfl ⟨hB.same sTU,ra.same rTU,(i02 _ (A0i Sg1 hgU) (B2c (Paired.mapP pg λ_ _ y=>y.same rTU) (.cons (i02 tp rfl (A0i St (sU _ _ eT))) .nil))),la,kne⟩ (by lia) λv1 H3 k3 b3 r3=> ?_);have k03:K2 lf ln H H3:=(K2.of sTU).trans k3;have rs3:=k03.rs hB.nf hB.nn;have ro:=la.ok;have rk:=ro.k;have rl:=ro.l;have lb:Lim kn r (g++[(x,lo,hi,false)]) (wsP kn l [] (g++[(x,lo,hi,true)]) z).2:=⟨lim.hk,kw.2.2.2.2,lim.hg.add kw.1 kw.2.1 kw.2.2.1,by rw [lg];lia,by lia,by lia,by lia,ro.a⟩;have e3:=rs3 _ _ e20;have sq3:=SqT.of (K:=K) (A0j _ _ e3);have gl3:=rs3 _ _ hgl;refine i10 _ rfl q _ _ _ rfl rfl sq3 rfl (i15 _ rfl _ rfl q _ _ _ rfl rfl sq3 rfl (i10 _ rfl q _ _ _ rfl rfl sq3 rfl (i12 _ rfl q _ _ _ rfl rfl sq3 rfl (A0q rfl) λtp2 htp2=> ?_)));have sT2:=A0f (o:= .tup [.str x,.int lo,.int hi,.bl false]) htp2;have eT2:upd H3 tp2 (.tup [.str x,.int lo,.int hi,.bl false]) tp2=some (.tup [.str x,.int lo,.int hi,.bl false]):=A0b;generalize upd H3 tp2 (.tup [.str x,.int lo,.int hi,.bl false])=H4 at sT2 eT2;have St2:S tp2:=b3.fr tp2 htp2;refine ⟨A0q rfl,λl2 hl2=>(i0y gl l2 _ _ rfl rfl ((A0f hl2) _ _ (sT2 _ _ (A0j _ _ gl3))) A0b (A1k (by simp;lia)) λg2 hg2=> ?_)⟩;have sU2:=(A0f (o:= .lst [.ref tp2]) hl2).trans (A0f (o:= .lst (gv++[.ref tp2])) hg2);have hgU2:upd (upd H4 l2 (.lst [.ref tp2])) g2 (.lst (gv++[.ref tp2])) g2=some (.lst (gv++[.ref tp2])):=A0b;have Sg2:S g2:=b3.fr g2 (sT2.free ((A0f (o:= .lst [.ref tp2]) hl2).free hg2));generalize upd (upd H4 l2 (.lst [.ref tp2])) g2 (.lst (gv++[.ref tp2]))=H5 at sU2 hgU2;have sTU2:=sT2.trans sU2;have rs5:=rs3.trans (A0h (S:=S) sTU2);refine i02 _ rfl (i1d b g2 bk ol lf ln S kn _ r (g++[(x,lo,hi,false)]) rfl ⟨b3.same sTU2,rb.same rs5,(i02 _ (A0i Sg2 hgU2) (B2c (Paired.mapP pg λ_ _ y=>y.same rs5) (.cons (i02 tp2 rfl (A0i St2 (sU2 _ _ eT2))) .nil))),lb,kne⟩ (by lia) λv2 H6 k6 b6 r6=> ?_);have k06:=(k03.trans (K2.of sTU2)).trans k6;have rs6:=k06.rs hB.nf hB.nn;have sq6:=SqT.of (K:=K) (A0j _ _ (rs6 _ _ e20));refine i10 _ rfl q _ _ _ rfl rfl sq6 rfl (i10 _ rfl q _ _ _ rfl rfl sq6 rfl (i10 _ rfl q _ _ _ rfl rfl sq6 rfl (i0j _ rfl _ rfl (A0q rfl) λtp3 htp3=> ?_)));have sT3:=A0f (o:= .tup [.str "guard",.str x,.int lo,.int hi,v1,v2]) htp3;have r36:=((K2.of (p:=lf) (l:=ln) sTU2).trans k6).rs hB.nf hB.nn;exact k _ _ (k06.trans (K2.of sT3)) (b6.same sT3) (A5z (A0i (b6.fr tp3 htp3) A0b) ((r3.same r36).same (A0h sT3)) (r6.same (A0h sT3)))
theorem C4t (T:Txt K mg t):∀n:Nat,A2y P w K mg base CX0 (n+43) t.p5 t.pf C2v (B3w n)
 | 0=>A2y.none (by (rintro vs H Q E zz;refine e0f zz ?_;clear zz;rintro v gl bk ol lf ln S kn z ⟨u,g,_,_,h,_⟩);have:=A4y u;lia)
 | n+1=>C5l T (by lia) (C4t T n)
theorem D4m:∀u:Tm,TmS u->TmS (inS u)
 | .num _,h=>h
 | .place _,h=>h
 | .read _ _,h=>h
 | .pair _ _ _,h=>h
 | .guard _ _ _ _ _,h=>h
 | .sum _ b,h=>D4m b h
theorem D7k.lt {e:Lt} (h:D7k lk e):D0n e:=⟨h.l1,by have:=h.l3;lia,λx hx=>(h.n x hx).1,h.w,by have:=h.d;lia,h.k⟩
theorem D0y.pr (h:D0y H p ax tb ls) (ho:os.length<=100):D6c ax tb ls os:=by
 refine e08 h.ob ?_;rintro _ _ _ _ _ ⟨_,_,_,_,_,_,ptb,_⟩;refine ⟨h.hx.2.2.1,⟨by have:=h.hx.2.2.2;rw [Z08];lia,λx hx=>(h.hx.2.1 x hx).1⟩,by have:=h.t;lia,λe he=> ?_,h.l,λe he=>(h.ok e he).lt,ho⟩;refine e09 (D3c ptb e he) ?_;rintro x q al _ _ _ ⟨_,l3,_⟩
 lia
theorem D6v {kn:List Str} {ls:List Lt} (h:∀e∈ls,D0n e/\TmS e.2.2/\PyData.strOk e.1=true):∀i,i<=ls.length->LsS (duP kn (ls.take i))
 | 0,_=>λe he=>by cases he
 | i+1,hi=>by
  have hle:ls[i]? =some ls[i]:=Z0b (by lia);rw [B2j hle];have ih:=D6v (kn:=kn) h i (by lia);obtain ⟨h1,h2,h3⟩:=h _ (Z13 hle);generalize ls[i]=e at h1 h2 h3;obtain ⟨a1,a2⟩:=D3z (kn:=kn) (inS e.2.2) [] [] (duP kn (ls.take i)) (λy hy=>by cases hy) (B1q _ h1.w).1 (D4m _ h2) ih;intro f hf;rcases Z07.mp (show f∈_++_ from hf) with hf | hf
  ·exact a2 f hf
  ·rw [Z0w.mp hf];exact i00 a1 (C4f _ h1.w) h3
def C9h:Sp:=λvs H Q _=>∃(p:Addr) (ax:List (Str×Int)) (tb:List (Str×List Str)) (ls:List Lt),vs=[.ref p]/\D0y H p ax tb ls/\∀(l:Addr) (xs:List V) (H':Hp),A1f H H'->H' l=some (.lst xs)->Paired (D1c H') xs (B1l ax ls)->Q (.ref l) H'
theorem D6z {e:Str×Int} (h:A8k e.1):PyData.strOk (A8d e)=true:=by
 unfold A8d;split
 ·exact B3s _
 ·split
  ·exact h.2
  ·split
   ·exact A6p (A6p h.2 (by decide +kernel)) (B3s _)
   ·exact A6p h.2 (B3s _)
theorem C5y:∀(r:List (Str×Int)) (z:Str),PyData.strOk z=true->(∀e∈r,A8k e.1/\Sm e.2)->PyData.strOk (B4s r z)=true
 | [],z,h,_=>h
 | e::r,z,h,hr=>C5y r _ (A6p (A6p h (by decide +kernel)) (D6z (hr e (.head _)).1)) λf hf=>hr f (.tail _ hf)
theorem D5d (h:∀e∈ix,A8k e.1/\Sm e.2):PyData.strOk (D0f ix)=true:=by
 rw [<-C9f];exact B6r (C5y ix "" (by decide +kernel) h)
theorem OkS.app (h:OkS xs) (k:OkS ys):OkS (xs++ys):=λx hx=>by
 rcases Z07.mp hx with hx | hx
 ·exact h x hx
 ·exact k x hx
theorem OkS.cons (h:PyData.strOk x=true) (k:OkS xs):OkS (x::xs):=λy hy=>by
 rcases Z0e.mp hy with rfl | hy
 ·exact h
 ·exact k y hy
theorem OkS.nil:OkS []:=λx hx=>by cases hx
theorem A6z:∀u:Tm,TmW u->TmS u->OkS (A5c u)
 | .num z,_,_=> .cons (B3s _) .nil
 | .place x,h,_=> .cons h.2 .nil
 | .read a ix,h,s=> .cons (A6p (A6p (A6p s (by decide +kernel)) (D5d h.2.2)) (by decide +kernel)) .nil
 | .sum x b,h,s=> .app (.cons (by decide +kernel) (.cons h.1.2 .nil)) (A6z b h.2 s)
 | .pair k l r,h,s=> .app (.app (.cons (by cases k <;> decide +kernel) .nil) (A6z l h.1 s.1)) (A6z r h.2 s.2)
 | .guard x lo hi l r,h,s=> .app (.app (.cons (by decide +kernel) (.cons h.1.2 (.cons (B3s _) (.cons (B3s _) .nil)))) (A6z l h.2.2.2.1 s.1)) (A6z r h.2.2.2.2 s.2)
theorem A8p (h:OkS xs):SeqAt.shaped (A8v xs)=true:=C4x (B0a h) (Z1n (A6t xs).1 (by decide))
structure LnE (e:Ln):Prop where
 o:C5k e
 s:TmS e.2.2.2
 m:∀x∈e.2.2.1,A8k x
 n:PyData.strOk e.1=true
def D2q (A:Adr):Sp:=λvs H Q _=>∃(lv dv:V) (e:Ln),vs=[lv,dv]/\C9y A H lv e/\D1c H dv e/\LnE e/\∀H',A1f H H'->Q (.bl true) H'
def C8r (A:Adr):Sp:=λvs H Q _=>∃(l d:Addr) (xs ys:List V) (es:List Ln),vs=[.ref l,.ref d]/\H l=some (.lst xs)/\H d=some (.lst ys)/\Paired (C9y A H) xs es/\Paired (D1c H) ys es/\(∀e∈es,LnE e)/\es.length<=1000/\∀H',A1f H H'->Q (.bl true) H'
theorem C7v (T:Txt K mg t):FO P w base T.wz 86 C9h:=by
 have Gf0:= @C4t P w K mg base t T 40;refine T.wz.F.ok A3s (by walk_at "ln") λ_ A _ s H _ Q E hr h=> ?_
 ·refine e01 h ?_;clear h;rintro p ax tb ⟨ls,rfl,hpg,k⟩;refine e08 hpg.ob ?_;rintro wh d tl ll ol0 ⟨tvs,lvs,o0,hp,hd,htl,ptb,hll,pls,hol⟩;have pro:=hpg.pr (os:=[]) (by decide);have l8:=hpg.l;have lls:=Paired.length pls;refine i02 _ (@A0c _ _ _ _ _ (A8z (pv 0) (A3f (n:=5) rfl (A0v (A0n (i:=1) A3s.nd rfl (.inl rfl)) (A0v (A0n (i:=2) A3s.nd rfl (.inl rfl)) (A0v (A0n (i:=3) A3s.nd rfl (.inl rfl)) (A0v (A0n (i:=4) A3s.nd rfl (.inl rfl)) (A0v (A0n (i:=5) A3s.nd rfl (.inl rfl)) A2k))))))) (@A0c _ _ _ _ _ (@A0l _ _ 6 _ _ _ _ A3s.nd rfl (.inl rfl) (@A1o _ _ _ _ _ (@A0a _ _ _ _ _ (A2a (A8m rfl) (by rfl) T.cx Z1o (@A0a _ _ _ _ _ (pv 2) A0d rfl)) (@A0a _ _ _ _ _ (@A1q _ _ _ _ A0d) (@A0a _ _ _ _ _ (@A1q _ _ _ _ A0d) A0d rfl) rfl) rfl)) rfl (by first | exact Or.inl rfl | exact Or.inr rfl | assumption)) (@A0c _ _ _ _ _ (A3d PassesOwn.never rfl (A2q (pv 4)) (A3f (n:=3) rfl (A0v (A0n (i:=7) A3s.nd rfl (.inl rfl)) (A0v (A0n (i:=8) A3s.nd rfl (.inl rfl)) (A0v (A0n (i:=9) A3s.nd rfl (.inl rfl)) A2k)))) (@A0c _ _ _ _ _ (@A0l _ _ 10 _ _ _ _ A3s.nd rfl (.inl rfl) (@A1q _ _ _ _ A0d) rfl (by first | exact Or.inl rfl | exact Or.inr rfl | assumption)) (@A0c _ _ _ _ _ (@A6r _ _ _ _ _ _ PassesOwn.never (@A0o _ _ _ _ _ _ _ _ A2j (@A0z _ _ _ _ _ _ _ A0w (pv 9) A0e (λ_ _=>rfl)) A1h (A1e _)) (@A0c _ _ _ _ _ (A2t (A5g Z0k Z0n Z0o A2d (pv 10) (@A0a _ _ _ _ _ (@A0z _ _ _ _ _ _ _ A0w (pv 9) A0e (λ_ _=>rfl)) A0d rfl))) (@A0g _ _ _ (@A0l _ _ 9 _ _ _ _ A3s.nd rfl (.inl rfl) (@A0z _ _ _ _ _ _ _ A0w (pv 9) A0e (λ_ _=>rfl)) rfl (by first | exact Or.inl rfl | exact Or.inr rfl | assumption))))) (@A0c _ _ _ _ _ (@A0l _ _ 11 _ _ _ _ A3s.nd rfl (.inl rfl) (pcl Gf0 hr T.gf (@A0a _ _ _ _ _ (pv 9) (@A0a _ _ _ _ _ (@A1q _ _ _ _ A0d) (@A0a _ _ _ _ _ (pv 6) A0d rfl) rfl) rfl)) rfl (by first | exact Or.inl rfl | exact Or.inr rfl | assumption)) (@A0g _ _ _ (A2t (A5g Z0k Z0n Z0o A2d (@A0z _ _ _ _ _ _ _ A0w (pv 6) A0e (λ_ _=>rfl)) (@A0a _ _ _ _ _ (@A1o _ _ _ _ _ (@A0a _ _ _ _ _ (pv 7) (@A0a _ _ _ _ _ (pv 8) (@A0a _ _ _ _ _ (pv 10) (@A0a _ _ _ _ _ (pv 11) A0d rfl) rfl) rfl) rfl)) A0d rfl)))))))) (@A0g _ _ _ (@A0u _ _ _ _ (@A0z _ _ _ _ _ _ _ A0w (pv 6) A0e (λ_ _=>rfl))))))) ?_;refine i02 _ rfl (i1c p _ rfl (SqT.of hp) rfl _ _ rfl _ _ rfl _ _ rfl ⟨_,(i0m _ rfl _ _ rfl rfl ?_)⟩);refine i0m _ rfl d _ rfl hd λol hol=>⟨A0q rfl,λlf hlf=>⟨A0q rfl,λln hln=>⟨A0q rfl,λbk hbk=> ?_⟩⟩⟩;have s1:=A0f (o:= .lst ((A3t ax).map λp=>kV p.1)) hol;have h1:upd H ol (.lst ((A3t ax).map λp=>kV p.1)) ol=some (.lst ((ax.map (·.1)).map V.str)):=by rw [A0b];unfold A3t;rw [List.map_map,List.map_map];rfl
  generalize upd H ol (.lst ((A3t ax).map λp=>kV p.1))=H1 at s1 h1 hlf hln hbk⊢;have s2:=A0f (o:= .lst []) hlf;have s3:=A0f (o:= .lst []) hln;have s4:=A0f (o:= .tup [.ref ol,.ref lf,.ref ln]) hbk;have f4:=s4 _ _ (s3 _ _ (A0b (H:=H1) (a:=lf) (o:= .lst [])));have x4:=s4 _ _ (A0b (H:=upd H1 lf (.lst [])) (a:=ln) (o:= .lst []));have b4:upd (upd (upd H1 lf (.lst [])) ln (.lst [])) bk (.tup [.ref ol,.ref lf,.ref ln]) bk=some (.tup [.ref ol,.ref lf,.ref ln]):=A0b;have s14:=s2.trans (s3.trans s4);have ln1:H1 ln=none:=s2.free hln;have fl:lf≠ln:=λe=>by rw [<-e,A0b] at hln;cases hln
  generalize upd (upd (upd H1 lf (.lst [])) ln (.lst [])) bk (.tup [.ref ol,.ref lf,.ref ln])=H4 at s14 f4 x4 b4;clear s2 s3 s4 hln hbk;have lf0:H lf=none:=s1.free hlf;have ln0:H ln=none:=s1.free ln1;have fr4:Fr (S2P lf ln) H4:=λb hb=>⟨(λe=>by rw [e,f4] at hb;cases hb),λe=>by rw [e,x4] at hb;cases hb⟩;have Sol:S2P lf ln ol:=⟨(λe=>by rw [e,hlf] at h1;cases h1),λe=>by rw [e,ln1] at h1;cases h1⟩;have Sbk:S2P lf ln bk:=⟨A3a b4 f4 (by intro h;cases h),A3a b4 x4 (by intro h;cases h)⟩;have B0:D0j (S2P lf ln) H4 bk ol lf ln (ax.map (·.1)) (0,[]):=⟨λz=>z.1 rfl,λz=>z.2 rfl,fr4,A0i Sbk b4,A0i Sol (s14 _ _ h1),(i02 [] f4 rfl),(i02 [] x4 .nil),fl⟩;have toR:∀{G:Hp},A1f H G->A1f H (A1a (S2P lf ln) G):=λ{G} s b u z=>A0i ⟨(λe=>by rw [e,lf0] at z;cases z),λe=>by rw [e,ln0] at z;cases z⟩ (s _ _ z);have ofK:∀{G G':Hp},A1f H G->K2 lf ln G G'->A1f H G':=λ{G G'} s k b u z=>k b u ⟨(λe=>by rw [e,lf0] at z;cases z),λe=>by rw [e,ln0] at z;cases z⟩ (s _ _ z)
  have kne:∀x∈ax.map (·.1),¬x=("":Str):=λx hx z=>by
   have:=(hpg.hx.2.1 x hx).2;rw [z] at this;exact absurd this (by decide +kernel)
  refine i0j _ rfl ll rfl ⟨_,SqL.of ((s1.trans s14) _ _ hll)⟩ ?_;refine A5i (K:=K) (a:=ll) (xs:=lvs) (λi Z G=>∃(o7 o8 o9 o10 o11:Option V),Z=[Sro p,Sio wh,Sro d,Sro tl,Sro ll,Sro ol0,Sro bk,o7,o8,o9,o10,o11]/\A1f H G/\D0j (S2P lf ln) G bk ol lf ln (ax.map (·.1)) (duP (ax.map (·.1)) (ls.take i))) (i03 none none (i0l none none none rfl (s1.trans s14) B0)) (by (rintro i Z G _ zz;refine e08 zz ?_;clear zz;rintro _ _ _ _ _ ⟨_,s,_⟩);exact SqL.of (s _ _ hll)) ?_ ?_
  ·rintro i x Z G hx zz;refine e08 zz ?_;clear zz;rintro o7 o8 o9 o10 o11 ⟨rfl,sG,bG⟩;obtain ⟨e,he,q,al,tv,rfl,e1,e2,rt⟩:=B2l pls hx;have hi:=(Z03.mp he).1;have hlt:=pro.l2 e (Z13 he);obtain ⟨z1,z2,z3⟩:=C1h pro.k pro.l2 (by lia) i (by lia);have ez:=B2j (kn:=ax.map (·.1)) he;rw [ez];generalize duP (ax.map (·.1)) (ls.take i)=z at bG z1 z2 z3;have wd:=hlt.d;have hi3:=B1q e.2.2 hlt.w;refine i1c q _ rfl (SqT.of (sG _ _ e1)) rfl _ _ rfl _ _ rfl _ _ rfl ⟨rfl,?_⟩;refine ⟨A0q rfl,λsl hsl=> ?_⟩;have sL:=A0f (o:= .lst []) hsl;have rt0:=rt.same (toR sG);refine i02 (λm Z F=>∃(v':V) (u':Tm) (ps:List Str),Z=[Sro p,Sio wh,Sro d,Sro tl,Sro ll,Sro ol0,Sro bk,Sso e.1,Sro al,some v',Sro sl,o11]/\A1f G F/\F sl=some (.lst (ps.map V.str))/\Rep (A1a (S2P lf ln) G) v' (A1t u')/\ps++A3g u'=A3g e.2.2/\inS u'=inS e.2.2/\m=dep u'/\ps.length+dep u'<=40) (i0w (dep e.2.2) tv e.2.2 [] rfl sL A0b rt0 (i04 rfl rfl rfl (by show 0+dep e.2.2<=40;lia))) ?_;rintro m' Z F zz;refine e09 zz ?_;clear zz;rintro v' u' ps rfl sF hF ⟨rp',ep,ei,rfl,bd⟩;obtain ⟨q',vs',rfl,eq'⟩:=A9f rp';obtain ⟨t1',_⟩:=B5q u';have eq0:=sF _ _ (A0j _ _ eq');refine i19 _ rfl q' _ _ _ rfl rfl (SqT.of eq0) (A1s (j:=0) rfl) rfl _ rfl ?_;rw [dtS,t1']
   cases hS':isS u' with
   | true =>
    cases u' with
    | sum x b =>
     obtain ⟨q2,a,g1,g2,ra⟩:=B6m rp';cases g1;have g2:=sF _ _ (A0j _ _ g2);simp only [dep] at bd;have qs:q'≠sl:=A3a g2 hF (by intro h;cases h);refine A5h (i02 (λZ' H'=>∃m'',m''<dep (.sum x b)/\∃(v':V) (u':Tm) (ps:List Str),Z'=[some (.ref p),some (.int wh),some (.ref d),some (.ref tl),some (.ref ll),some (.ref ol0),some (.ref bk),some (.str e.1),some (.ref al),some v',some (.ref sl),o11]/\A1f G H'/\H' sl=some (.lst (ps.map V.str))/\Rep (A1a (S2P lf ln) G) v' (A1t u')/\ps++A3g u'=A3g e.2.2/\inS u'=inS e.2.2/\m''=dep u'/\ps.length+dep u'<=40) (λZ' H' z=>z) ?_);refine i06 _ rfl (.inl (i01 rfl _ (SqL.of hF))) (i10 _ rfl q' _ _ _ rfl rfl (SqT.of g2) rfl (i0s sl _ _ rfl rfl hF (A1l (by rw [Z08];lia)) ?_));refine i10 _ rfl q' _ _ _ rfl rfl (SqT.of (by rw [A0k qs];exact g2)) rfl ?_;refine i0v (dep b) (by simp only [dep];lia) a b (ps++[x]) rfl (A0s sF hsl) (by rw [A0b,Z0s];rfl) (i08 ra (by rw [<-ep,Z0z];rfl) ei rfl (by rw [Z06];simp only [Z0y,Z2g];lia))
    | num _=>cases hS'
    | place _=>cases hS'
    | read _ _=>cases hS'
    | pair _ _ _=>cases hS'
    | guard _ _ _ _ _=>cases hS'
   | false =>
    obtain ⟨i1,i2⟩:=D0c hS';rw [i1,Z0u] at ep;rw [i2] at ei;subst ei;subst ep;refine A2u ?_;have bF:=bG.same sF;have rF:=A0h (S:=S2P lf ln) sF;have Ssl:S2P lf ln sl:=bG.fr sl hsl;have limI:=hlt.lim pro.k (z:=z) (by lia) (by lia) z3;refine i06 _ rfl (A0q rfl) λgl hgl=> ?_;have sg:=A0f (o:= .lst []) hgl;have hg5:upd F gl (.lst []) gl=some (.lst []):=A0b;have Sgl:S2P lf ln gl:=bF.fr gl hgl;generalize upd F gl (.lst [])=F1 at sg hg5;have sF1:=sF.trans sg;refine i02 _ rfl (i1d (.ref q') gl bk ol lf ln (S2P lf ln) (ax.map (·.1)) z (inS e.2.2) [] rfl ⟨bG.same sF1,rp'.same (A0h sF1),(i02 [] (A0i Sgl hg5) .nil),limI,kne⟩ (by lia) λbv H2 k2 bk2 rp2=> ?_);have r2:=k2.rs bG.nf bG.nn;have sl2:=r2 _ _ (A0i Ssl (sg _ _ hF));have sH2:A1f H H2:=ofK (sG.trans sF1) k2;have al2:=toR sH2 _ _ e2;have ro:=limI.ok;have rl:=ro.l;obtain ⟨xs,hx2,px2⟩:=bk2.hl;obtain ⟨fs,hf2,lfs⟩:=bk2.hf;have lxs:=Paired.length px2;have n122:=hlt.n;have hb2:=A0j _ _ bk2.hb;refine i12 _ rfl bk _ _ _ rfl rfl (SqT.of hb2) rfl (.inl (i01 rfl _ (SqL.of hx2))) (i0c _ rfl _ rfl (i0j _ rfl _ rfl (A0q rfl) λtp htp=> ?_));have sT:=A0f (o:= .tup [.str e.1,.ref al,.ref sl,bv]) htp;have eT:upd H2 tp (.tup [.str e.1,.ref al,.ref sl,bv]) tp=some (.tup [.str e.1,.ref al,.ref sl,bv]):=A0b;have Stp:S2P lf ln tp:=bk2.fr tp htp;generalize upd H2 tp (.tup [.str e.1,.ref al,.ref sl,bv])=H3 at sT eT;have x3:=sT _ _ hx2;refine i0s ln _ _ rfl rfl x3 (A1l (by lia)) ?_;have k34:K2 lf ln H3 (upd H3 ln (.lst (xs++[.ref tp]))):=K2.atl;have f5:upd H3 ln (.lst (xs++[.ref tp])) lf=some (.lst fs):=by rw [A0k fl];exact sT _ _ hf2
    have x5:upd H3 ln (.lst (xs++[.ref tp])) ln=some (.lst (xs++[.ref tp])):=A0b;generalize upd H3 ln (.lst (xs++[.ref tp]))=H5 at k34 f5 x5;have k25:=(K2.of (p:=lf) (l:=ln) sT).trans k34;have r25:=k25.rs bG.nf bG.nn;have r35:=k34.rs bG.nf bG.nn;exact i03 _ _ (i0l _ _ _ rfl (ofK sH2 k25) ⟨bG.nf,bG.nn,λb hb=>bk2.fr b (k25.free f5 x5 hb),r25 _ _ bk2.hb,r25 _ _ bk2.ho,(i02 fs f5 lfs),(i02 _ x5 (B2c (Paired.mapP px2 λ_ _ y=>y.same r25) (.cons (i0w tp al sl bv rfl (r35 _ _ (A0i Stp eT)) (r25 _ _ al2) (r25 _ _ sl2) (rp2.same r25)) .nil))),fl⟩)
  ·rintro Z G zz;refine e08 zz ?_;clear zz;rintro o7 o8 o9 o10 o11 ⟨rfl,sG,bG⟩;rw [lls,Z18] at bG;obtain ⟨xs,hx2,px2⟩:=bG.hl;exact i10 _ rfl bk _ _ _ rfl rfl (SqT.of (A0j _ _ bG.hb)) rfl (k ln xs G sG hx2 (Paired.mapP px2 λ_ _ y=>y.same A0j))
theorem B3z (T:Txt K mg t):FO P w base T.ir 89 (D2q t):=by
 have Ge3:= @C8u P w K mg base t T 40;have WW:=wok (P:=P) (w:=w) (base:=base) T 40;refine T.ir.F.ok A6g (by walk_at "ln") λ_ A _ s H _ Q E hr h=> ?_
 ·refine e09 h ?_;clear h;rintro lv dv e rfl ⟨a,dx,c,sm,n,rfl,h1,h2,h3,ob⟩ ⟨q,al,sl,tv,rfl,d1,d2,d3,dr⟩ ⟨⟨lo,ls,lm,_⟩,k⟩;refine e02 lo ?_;clear lo;rintro lo1 lo2 lo3 lo4 ⟨lo5,lo6,lo7⟩;refine i02 _ (@A0c _ _ _ _ _ (A3d PassesOwn.never rfl (C9z (@A1o _ _ _ _ _ (@A0a _ _ _ _ _ (@A1o _ _ _ _ _ (@A0a _ _ _ _ _ (A1i (pv 0) rfl) (@A0a _ _ _ _ _ (@A0z _ _ _ _ _ _ _ A0w (pv 1) A0e (λ_ _=>rfl)) A0d rfl) rfl)) (@A0a _ _ _ _ _ (@A1o _ _ _ _ _ (@A0a _ _ _ _ _ (A1i (pv 0) rfl) (@A0a _ _ _ _ _ (@A0z _ _ _ _ _ _ _ A0w (pv 1) A0e (λ_ _=>rfl)) A0d rfl) rfl)) (@A0a _ _ _ _ _ (@A1o _ _ _ _ _ (@A0a _ _ _ _ _ (A3y (A1i (pv 0) rfl)) (@A0a _ _ _ _ _ (A3y (pcl Ge3 hr T.gm (@A0a _ _ _ _ _ (@A0z _ _ _ _ _ _ _ A0w (pv 1) A0e (λ_ _=>rfl)) (@A0a _ _ _ _ _ (@A1q _ _ _ _ A0d) A0d rfl) rfl))) A0d rfl) rfl)) A0d rfl) rfl) rfl))) (A3f (n:=2) rfl (A0v (A0n (i:=2) A6g.nd rfl (.inl rfl)) (A0v (A0n (i:=3) A6g.nd rfl (.inl rfl)) A2k))) (@A0g _ _ _ (@A1z _ _ _ _ _ _ _ _ (PW.pt (B0f (C1d (A3c (A0y A1m (by rfl) T.ab Z0d (@A0a _ _ _ _ _ (pv 2) (@A0a _ _ _ _ _ (A4a (v:=V.ty "list") rfl T.cx Z1o rfl) A0d rfl) rfl)))) (A9y (@A0o _ _ _ _ _ _ _ _ (C6h hr.units) (pv 2) (pv 3) (A1e _))))) (@A0g _ _ _ (@A0u _ _ _ _ B4a)) A1d))) (@A0g _ _ _ (@A0u _ _ _ _ (D6h (A0y A1m (by rfl) T.ab Z0d (@A0a _ _ _ _ _ (A1i (pv 0) rfl) (@A0a _ _ _ _ _ (A4a (v:=V.ty "str") rfl T.w6 PyProof.Rows.boot_str rfl) A0d rfl) rfl)) (D6f (@C0f _ _ _ _ _ _ _ _ A2j (A1i (pv 0) rfl) (@A0z _ _ _ _ _ _ _ A0w (pv 1) A0e (λ_ _=>rfl)) (A1e _))))))) ?_;refine i16 _ rfl a _ dx _ _ rfl h1 T.c_ T.jt (by walk_at "lk") (i12 _ rfl q _ _ _ rfl rfl (SqT.of d1) rfl (A0q rfl) λt1 ht1=> ?_);have s1:=A0f (o:= .tup [.ref c,.ref al]) ht1;have e1:upd H t1 (.tup [.ref c,.ref al]) t1=some (.tup [.ref c,.ref al]):=A0b;generalize upd H t1 (.tup [.ref c,.ref al])=H1 at s1 e1;refine i16 _ rfl a _ dx _ _ rfl (s1 _ _ h1) T.c_ T.nw (by walk_at "lk") (i12 _ rfl q _ _ _ rfl rfl (SqT.of (s1 _ _ d1)) rfl (A0q rfl) λt2 ht2=> ?_);have s2:=A0f (o:= .tup [.ref sm,.ref sl]) ht2;have e2:upd H1 t2 (.tup [.ref sm,.ref sl]) t2=some (.tup [.ref sm,.ref sl]):=A0b;generalize upd H1 t2 (.tup [.ref sm,.ref sl])=H2 at s2 e2;have s02:=s1.trans s2;refine i16 _ rfl a _ dx _ _ rfl (s02 _ _ h1) T.c_ T.o_ (by walk_at "lk") ?_;refine e0h (WW _ n e.2.2.2 (ob.imp s02) lo5 lo6 lo7) ?_;rintro a' C' dx' fs' k' f' fd' ps' sp' rfl e' c' m' l' ⟨F',hk',b',q'⟩;refine i0f a' C' dx' fs' (i1a k' f' fd' ps' sp' rfl e' c' m' l' F' (hr.mono (by lia)) b' (q' _ λw1 H3 hw1 s3 hw3=> ?_));have s03:=s02.trans s3;refine i12 _ rfl q _ _ _ rfl rfl (SqT.of (s03 _ _ d1)) rfl (A0q rfl) λkp hkp=> ?_;have s4:=A0f (o:= .lst []) hkp;have hk4:upd H3 kp (.lst []) kp=some (.lst []):=A0b;generalize upd H3 kp (.lst [])=H4 at s4 hk4;have toR:A1f H3 (A1a (λb=>b≠kp) H4):=λb u z=>A0i (λy=>by rw [y,hkp] at z;cases z) (s4 _ _ z);refine i03 tv kp (i0p [] e.2.2.2 (λb=>b≠kp) rfl ⟨λz=>z rfl,(λb hb z=>by rw [z,hk4] at hb;cases hb),hk4,(λx hx=>by cases hx),(by show 0+nod e.2.2.2<=100000;lia),dr.same (s03.trans toR),lo5,ls,lo6⟩ lo6 λv1 kv1 H5 kb hk5 kvv l1 ob1=> ?_);have s35:A1f H3 H5:=λb u z=>kb b u (λy=>by rw [y,hkp] at z;cases z) (s4 _ _ z);refine e0h (WW _ v1 e.2.2.2 (ob1.imp A0j) lo5 lo6 lo7) ?_;rintro a2 C2 dx2 fs2 k2 f2 fd2 ps2 sp2 rfl e2' c2' m2' l2' ⟨F2',hk2',b2',q2'⟩;refine i0f a2 C2 dx2 fs2 (i1a k2 f2 fd2 ps2 sp2 rfl e2' c2' m2' l2' F2' (hr.mono (by lia)) b2' (q2' _ λw2 H6 hw2 s6 hw6=> ?_));have s36:=s35.trans s6;refine ⟨A0q rfl,λt3 ht3=>⟨A0q rfl,λtt htt=> ?_⟩⟩;have s7:=A0f (o:= .tup [.ref w1,.ref w2]) ht3;have s8:=A0f (o:= .tup [.ref t1,.ref t2,.ref t3]) htt;have e7:=s8 _ _ (A0b (H:=H6) (a:=t3) (o:= .tup [.ref w1,.ref w2]));have e8:upd (upd H6 t3 (.tup [.ref w1,.ref w2])) tt (.tup [.ref t1,.ref t2,.ref t3]) tt=some (.tup [.ref t1,.ref t2,.ref t3]):=A0b;have s78:=s7.trans s8;generalize upd (upd H6 t3 (.tup [.ref w1,.ref w2])) tt (.tup [.ref t1,.ref t2,.ref t3])=H8 at s78 e7 e8;have s38:=s36.trans s78;have s08:=s03.trans s38;have s28:=s3.trans s38
  have all:∀x∈[V.ref t1,.ref t2,.ref t3],∃(p ca cb:Addr) (xs:List Str),x= .ref p/\H8 p=some (.tup [.ref ca,.ref cb])/\H8 ca=some (.lst (xs.map V.str))/\H8 cb=some (.lst (xs.map V.str))/\OkS xs:=λx hx=>by
   rcases Z0e.mp hx with rfl | hx
   ·exact i0w t1 c al e.2.1 rfl (s28 _ _ (s2 _ _ e1)) (s08 _ _ h2) (s08 _ _ d2) λy hy=>(lo3 y hy).2
   ·rcases Z0e.mp hx with rfl | hx
    ·exact i0w t2 sm sl e.2.2.1 rfl (s28 _ _ e2) (s08 _ _ h3) (s08 _ _ d3) λy hy=>(lm y hy).2
    ·rw [Z0w.mp hx];exact i0w t3 w1 w2 (A5c e.2.2.2) rfl e7 (s38 _ _ hw3) (s78 _ _ hw6) (A6z _ lo5 ls)
  refine i06 tt rfl ⟨_,SqT.of e8⟩ ?_;refine D2b (K:=K) (a:=tt) (xs:=[V.ref t1,.ref t2,.ref t3]) (λi Z G=>H8=G/\∃(o2 o3:Option V),Z=[Sro a,Sro q,o2,o3]) ⟨rfl,(i03 none none rfl)⟩ (by rintro i Z G _ ⟨rfl,_⟩;exact SqT.of e8) ?_ ?_
  ·rintro i x Z G hx ⟨rfl,o2,o3,rfl⟩;refine e0d (all x (Z13 hx)) ?_;rintro p ca cb xs rfl g1 g2 g3 okx;refine i17 p _ rfl (SqT.of g1) rfl _ _ rfl _ _ rfl rfl ?_;refine i13 _ rfl _ _ _ _ rfl (.lst g2) (A6q "list") true rfl (A2u ?_);refine i14 _ rfl _ rfl (A8v xs) (A8v xs) (A9s g2) (A9s g3) (A8p okx) (A8p okx) _ rfl ?_;show if (! PyData.eqv (A8v xs) (A8v xs))=true then _ else _
   rw [SeqAt.eqv_refl _ (B0a okx)];exact A2u ⟨rfl,(i03 _ _ rfl)⟩
  ·rintro Z G ⟨rfl,o2,o3,rfl⟩;refine i16 _ rfl a _ dx _ _ rfl (s08 _ _ h1) T.c_ T.gb (by walk_at "lk") ⟨_,(i0l _ _ _ rfl (.str _) (i05 (A6q "str") true rfl (A5h ?_)))⟩;refine i16 _ rfl a _ dx _ _ rfl (s08 _ _ h1) T.c_ T.gb (by walk_at "lk") (i12 _ rfl q _ _ _ rfl rfl (SqT.of (s08 _ _ d1)) rfl rfl ?_);show Q (.bl (decide (V.str e.1=V.str e.1))) H8;rw [Z20 rfl];exact k H8 s08
theorem B3a (T:Txt K mg t):FO P w base T.dw 90 (C8r t):=by
 have Gf1:= @B3z P w K mg base t T;refine T.dw.F.ok A7t (λvs H Q E h=> ?_) λ_ A _ s H _ Q E hr h=> ?_
 ·refine e08 h ?_;clear h;rintro l d xs ys es ⟨rfl,_⟩;rfl
 ·refine e0e h ?_;clear h;rintro l d xs ys es rfl hl hd px ⟨py,oke,le,k⟩;have lx:=Paired.length px;have ly:=Paired.length py;refine i02 _ (@A0c _ _ _ _ _ (@A1z _ _ _ _ _ _ _ _ (PW.pt (B0f (C1d (A3c (A0y A1m (by rfl) T.ab Z0d (@A0a _ _ _ _ _ (pv 0) (@A0a _ _ _ _ _ (A4a (v:=V.ty "list") rfl T.cx Z1o rfl) A0d rfl) rfl)))) (A9y (@A0o _ _ _ _ _ _ _ _ C8v (A0y A0x (by rfl) T.bf Z0r (@A0a _ _ _ _ _ (pv 0) A0d rfl)) (A0y A0x (by rfl) T.bf Z0r (@A0a _ _ _ _ _ (pv 1) A0d rfl)) (A1e _))))) (@A0g _ _ _ (@A0u _ _ _ _ B4a)) A1d) (@A0c _ _ _ _ _ (A3d PassesOwn.never rfl (A3k rfl T.cr (@A0a _ _ _ _ _ (A0y A0x (by rfl) T.bf Z0r (@A0a _ _ _ _ _ (pv 1) A0d rfl)) A0d rfl)) (A0n (i:=2) A7t.nd rfl (.inl rfl)) (@A0g _ _ _ (@A1z _ _ _ _ _ _ _ _ (C1d (A3c (pcl Gf1 hr T.ir (@A0a _ _ _ _ _ (@A0z _ _ _ _ _ _ _ A1n (pv 0) (pv 2) (λ_ _=>rfl)) (@A0a _ _ _ _ _ (@A0z _ _ _ _ _ _ _ A1n (pv 1) (pv 2) (λ_ _=>rfl)) A0d rfl) rfl)))) (@A0g _ _ _ (@A0u _ _ _ _ B4a)) A1d))) (@A0g _ _ _ (@A0u _ _ _ _ B4a)))) ?_;refine i13 _ rfl _ _ _ _ rfl (.lst hl) (A6q "list") true rfl (A2u ?_);refine i0m _ rfl l _ rfl (.inl (SqL.of hl)) (i0m _ rfl d _ rfl (.inl (SqL.of hd)) (i05 rfl _ rfl ?_));rw [show (! decide (V.int (xs.length:Int)=V.int (ys.length:Int)))=false by rw [lx,ly];simp];refine A2u (i0m _ rfl d _ rfl (.inl (SqL.of hd)) (i0a _ rfl (by lia) (by lia) ?_));refine A3r (n:=ys.length) (λi Z G=>A1f H G/\∃(o2:Option V),Z=[Sro l,Sro d,o2]) (i01 (A1f.refl _) none rfl) ?_ ?_
  ·rintro i Z G hi ⟨sG,o2,rfl⟩;rw [Int.zero_add];have h1:xs[i]? =some xs[i]:=Z0b (by lia);have h2:ys[i]? =some ys[i]:=Z0b (by lia);obtain ⟨e,he,r1⟩:=B2l px h1;obtain ⟨e',he',r2⟩:=B2l py h2;rw [he] at he';cases he';refine i15 _ rfl _ rfl l _ _ _ rfl rfl (SqL.of (sG _ _ hl)) (A1s h1) (i15 _ rfl _ rfl d _ _ _ rfl rfl (SqL.of (sG _ _ hd)) (A1s h2) (i0s _ _ e rfl (r1.same sG) (r2.same sG) (oke e (Z13 he)) λH2 s2=> ?_));exact i02 true rfl (A2u (i01 (sG.trans s2) _ rfl))
  ·rintro Z G ⟨sG,o2,rfl⟩;exact k G sG
def C9t (K:Frag):Sp:=λvs H Q _=>∃(a:Addr) (ns:List Int),vs=[.ref a]/\SqL K H a (ns.map V.int)/\ns.length<=63/\∀H',Q (.bl true) H'
theorem D0y.same (h:D0y H p ax tb ls) (s:A1f H H'):D0y H' p ax tb ls:=by
 refine e08 h.ob ?_;rintro wh d tl ll ol ⟨tvs,lvs,o,e1,e2,e3,e4,e5,e6,e7⟩;exact ⟨(i0f wh d tl ll (i0y ol tvs lvs o (s _ _ e1) (s _ _ e2) (s _ _ e3) (Paired.mapP e4 λ_ _ z=>z.same s) (s _ _ e5) ⟨Paired.mapP e6 λ_ _ z=>z.same s,s _ _ e7⟩)),h.hx,h.t,h.l,h.ok⟩
def D0s (e:Str×List Str):Prop:=PyData.strOk e.1=true/\OkS e.2
theorem D3g (h:∀f∈es,D0s f) (he:D0s e):∀f∈B3y es e,D0s f:=λf hf=>by
 unfold B3y at hf;split at hf
 ·obtain ⟨g,hg,rfl⟩:=Z2c.mp hf;split
  ·exact ⟨(h g hg).1,he.2⟩
  ·exact h g hg
 ·rcases Z07.mp hf with hf | hf
  ·exact h f hf
  ·rw [Z0w.mp hf];exact he
theorem B9t:∀(fs:List (Str×List Str)) {es:List (Str×List Str)},(∀f∈es,D0s f)->(∀f∈fs,D0s f)->∀f∈fs.foldl B3y es,D0s f
 | [],_,h,_=>h
 | e::fs,es,h,hf=>B9t fs (D3g h (hf e (by simp))) λf hf'=>hf f (by simp [hf'])
theorem C9v {S:Addr->Prop} {H:Hp}:∀{es:List (Str×List Str)} {ws vs:List (Key×V)},AR S H ws es->AR S H vs es->(∀e∈es,D0s e)->Paired (λ(p q:Key×V)=>p.1=q.1/\∃d,Rep H p.2 d/\Rep H q.2 d/\d.canLay0=true/\d.depth<=60) ws vs
 | [],_,_,.nil,.nil,_=> .nil
 | e::es,_,_,.cons ⟨a1,b,a2,_,a4⟩ r,.cons ⟨c1,d,c2,_,c4⟩ q,h=> .cons ⟨a1.trans c1.symm,(i0a (A8v e.2) (by rw [a2];exact A9s a4) (by rw [c2];exact A9s c4) (B0a (h e (by simp)).2) (Z1n (A6t e.2).1 (by decide)))⟩ (C9v r q λf hf=>h f (by simp [hf]))
theorem C4c {S:Addr->Prop} {H:Hp}:∀{es:List (Str×List Str)} {ws:List (Key×V)},AR S H ws es->ws.map (λp=>kV p.1)=(es.map (·.1)).map V.str
 | [],_,.nil=>rfl
 | e::es,_,.cons ⟨a1,_⟩ r=>by rw [Z0p,a1,C4c r];rfl
theorem D5q (T:Txt K mg t):FO P w base T.yY 93 (C9t K):=by
 have Gf2:= @B2y P w K mg base t T;have Gf3:= @C7v P w K mg base t T;have Gf4:= @B1j P w K mg base t T;have Gf5:= @C0n P w K mg base t T;have Gf6:= @B3a P w K mg base t T;have Ge3:= @C8u P w K mg base t T 40;have WW:=wok (P:=P) (w:=w) (base:=base) T 40;refine T.yY.F.ok A8s (by walk_at "ln") λ_ A _ s H _ Q E hr h=> ?_
 ·obtain ⟨a,ns,rfl,hS,_,k⟩:=h;have hu:=B1b hr;refine i02 _ (@A0c _ _ _ _ _ (@A0l _ _ 1 _ _ _ _ A8s.nd rfl (.inl rfl) (pcl Gf2 hr T.gx (@A0a _ _ _ _ _ (pv 0) A0d rfl)) rfl (by first | exact Or.inl rfl | exact Or.inr rfl | assumption)) (@A0c _ _ _ _ _ (@A0l _ _ 2 _ _ _ _ A8s.nd rfl (.inl rfl) (pcl Gf3 hr T.wz (@A0a _ _ _ _ _ (pv 1) A0d rfl)) rfl (by first | exact Or.inl rfl | exact Or.inr rfl | assumption)) (@A0c _ _ _ _ _ (@A0l _ _ 3 _ _ _ _ A8s.nd rfl (.inl rfl) (pcl Gf4 hr T.d_ (@A0a _ _ _ _ _ (pv 1) A0d rfl)) rfl (by first | exact Or.inl rfl | exact Or.inr rfl | assumption)) (@A0c _ _ _ _ _ (@A0l _ _ 4 _ _ _ _ A8s.nd rfl (.inl rfl) (pcl Gf5 hr T.jh (@A0a _ _ _ _ _ (pv 3) A0d rfl)) rfl (by first | exact Or.inl rfl | exact Or.inr rfl | assumption)) (@A0c _ _ _ _ _ (@A0l _ _ 5 _ _ _ _ A8s.nd rfl (.inl rfl) B5y rfl (by first | exact Or.inl rfl | exact Or.inr rfl | assumption)) (@A0c _ _ _ _ _ (A3d PassesOwn.never rfl (A2q (@A0z _ _ _ _ _ _ _ A0w (pv 1) A0e (λ_ _=>rfl))) (A3f (n:=2) rfl (A0v (A0n (i:=6) A8s.nd rfl (.inl rfl)) (A0v (A0n (i:=7) A8s.nd rfl (.inl rfl)) A2k))) (@A0g _ _ _ (@B1g _ _ _ _ _ _ _ _ _ hu (pv 5) (pv 6) (pv 7) rfl))) (@A0c _ _ _ _ _ (A3d PassesOwn.never rfl (A3k rfl T.cr (@A0a _ _ _ _ _ (A0y A0x (by rfl) T.bf Z0r (@A0a _ _ _ _ _ (pv 2) A0d rfl)) A0d rfl)) (A0n (i:=8) A8s.nd rfl (.inl rfl)) (@A0g _ _ _ (@B1g _ _ _ _ _ _ _ _ _ hu (pv 5) (@A0z _ _ _ _ _ _ _ A0w (@A0z _ _ _ _ _ _ _ A1n (pv 2) (pv 8) (λ_ _=>rfl)) A0e (λ_ _=>rfl)) (@A0z _ _ _ _ _ _ _ A0w (@A0z _ _ _ _ _ _ _ A1n (pv 2) (pv 8) (λ_ _=>rfl)) A0e (λ_ _=>rfl)) rfl))) (@A0c _ _ _ _ _ (@A1z _ _ _ _ _ _ _ _ (PW.pt (B0f (C1d (A3c (pcl Gf6 hr T.dw (@A0a _ _ _ _ _ (A1i (pv 4) rfl) (@A0a _ _ _ _ _ (pv 2) A0d rfl) rfl)))) (B0f (@A0o _ _ _ _ _ _ _ _ (D4s hr.units) (A1i (pv 4) rfl) (pv 5) (A1e _)) (A9y (@A0o _ _ _ _ _ _ _ _ (C6h hr.units) (A2a (A8m rfl) (by rfl) T.cx Z1o (@A0a _ _ _ _ _ (A1i (pv 4) rfl) A0d rfl)) (A2a (A8m rfl) (by rfl) T.cx Z1o (@A0a _ _ _ _ _ (pv 5) A0d rfl)) (A1e _)))))) (@A0g _ _ _ (@A0u _ _ _ _ B4a)) A1d) (@A0c _ _ _ _ _ (A3d PassesOwn.never rfl (A3k rfl T.cr (@A0a _ _ _ _ _ (A0y A0x (by rfl) T.bf Z0r (@A0a _ _ _ _ _ (A1i (pv 3) rfl) A0d rfl)) A0d rfl)) (A0n (i:=8) A8s.nd rfl (.inl rfl)) (@A0g _ _ _ (@A1z _ _ _ _ _ _ _ _ (@A0o _ _ _ _ _ _ _ _ (C6h hr.units) (A3y (A1i (@A0z _ _ _ _ _ _ _ A1n (A1i (pv 3) rfl) (pv 8) (λ_ _=>rfl)) rfl)) (A3y (pcl Ge3 hr T.gm (@A0a _ _ _ _ _ (@A0z _ _ _ _ _ _ _ A0w (@A0z _ _ _ _ _ _ _ A1n (@A0z _ _ _ _ _ _ _ A0w (pv 1) A0e (λ_ _=>rfl)) (pv 8) (λ_ _=>rfl)) A0e (λ_ _=>rfl)) (@A0a _ _ _ _ _ (@A1q _ _ _ _ A0d) A0d rfl) rfl))) (A1e _)) (@A0g _ _ _ (@A0u _ _ _ _ B4a)) A1d))) (@A0g _ _ _ (@A0u _ _ _ _ (pcl Gf6 hr T.dw (@A0a _ _ _ _ _ (A1i (pcl Gf5 hr T.jh (@A0a _ _ _ _ _ (pv 3) A0d rfl)) rfl) (@A0a _ _ _ _ _ (pv 2) A0d rfl) rfl))))))))))))) ?_;refine i0m _ rfl a ns rfl hS λp ax tb ls H1 s1 pg=> ?_;refine i0n _ rfl p ax tb ls (i00 rfl pg λdl ys H2 s2 hd2 pd2=> ?_);have pg2:=pg.same s2;refine i0n _ rfl p ax tb ls (i00 rfl pg2 λr wh os H3 s3 pr3 los=> ?_);have pro:=pg.pr los;refine i0n _ rfl r wh ax tb (i0k ls os rfl pr3 pro λq H4 s4 cl4=> ?_);have pg4:=(pg2.same s3).same s4;refine e08 pg4.ob ?_;rintro _ d tl ll ol ⟨tvs,lvs,o,hp4,hdd4,htl4,ptb4,hll4,pls4,hol4⟩;have s24:=s3.trans s4;have hd4:=s24 _ _ hd2;have pd4:Paired (D1c H4) ys (B1l ax ls):=Paired.mapP pd2 λ_ _ z=>z.same s24;refine e0f cl4.ob ?_;rintro dq whc lc ac tc vc oc ak xs ⟨hq4,hac4,ar4,hvc4,px4⟩;obtain ⟨du1,du2⟩:=pro.due
  have lst:LsS (duP (ax.map (·.1)) ls):=by
   have:=D6v (kn:=ax.map (·.1)) (ls:=ls) (λe he=>(i00 ((pg.ok e he).lt) ((pg.ok e he).s) ((pg.ok e he).o))) ls.length (Z09 _);rw [Z18] at this;exact this
  have lne:∀e∈B1l ax ls,LnE e:=λe he=>⟨du2 e he,(lst e he).1,(lst e he).2.1,(lst e he).2.2⟩;have lys:=Paired.length pd4;have ltv:=Paired.length ptb4;have t10:=pro.t1;refine λad had=> ?_;have s5:=A0f (o:= .dK []) had;have h5:upd H4 ad (.dK []) ad=some (.dK []):=A0b;refine i10 _ rfl p _ _ _ rfl rfl (SqT.of (s5 _ _ hp4)) rfl (i06 tl rfl ⟨_,SqL.of (s5 _ _ htl4)⟩ ?_);refine A5i (K:=K) (a:=tl) (xs:=tvs) (λi Z G=>∃(o6 o7:Option V) (wk:List (Key×V)),Z=[Sro a,Sro p,Sro dl,Sro r,Sro q,Sro ad,o6,o7,none]/\A1f H4 G/\G ad=some (.dK wk)/\AR (λ_=>True) G wk ((tb.take i).foldl B3y [])) (i0p none none [] rfl s5 h5 .nil) (by rintro i Z G _ ⟨_,_,_,_,s,_⟩;exact SqL.of (s _ _ htl4)) ?_ ?_
  ·rintro i x Z G hx zz;refine e09 zz ?_;clear zz;rintro o6 o7 wk rfl sG hG arG;obtain ⟨e,he,qe,al,rfl,e1,e2,_⟩:=B2l ptb4 hx;have eo:=C3s.fold (tb.take i) (es:=[]) (n:=0) ⟨.nil,Z09 _,λe he=>by cases he⟩ λe he=>pro.t2 e (Z2p he);have eol:=eo.l;have lw:=Paired.length arG;rw [Z0x] at eol;have e2:=sG _ _ e2;refine i17 qe _ rfl (SqT.of (sG _ _ e1)) rfl _ _ rfl _ _ rfl rfl ?_;refine i0z _ rfl _ rfl _ rfl ad _ rfl (C7t.k (k:=Sum.inr e.1) hG (A1l (by lia))) ?_;refine i0p _ _ _ rfl (A0s sG had) A0b ?_;rw [Z14,he,Z2f,List.foldl_append];refine C1t (e:=e) (c:=al) True.intro ?_ (arG.imp λb zs _ z=>⟨True.intro,by rw [A0k (A3a z hG (by intro w;cases w))];exact z⟩);rw [A0k (A3a e2 hG (by intro w;cases w))];exact e2
  rintro Z G zz;refine e09 zz ?_;clear zz;rintro o6 o7 wk rfl sG hG arG;rw [ltv,Z18] at arG;refine i0m _ rfl dl _ rfl (.inl (SqL.of (sG _ _ hd4))) (i0a _ rfl (by lia) (by lia) ?_);refine A3r (n:=ys.length) (λi Z F=>∃(o8:Option V) (wk:List (Key×V)),Z=[Sro a,Sro p,Sro dl,Sro r,Sro q,Sro ad,o6,o7,o8]/\A1f H4 F/\F ad=some (.dK wk)/\AR (λ_=>True) F wk (arP tb ((B1l ax ls).take i))) (i0k none wk rfl sG hG arG) ?_ ?_
  ·rintro i Z F hi ⟨o8,wk,rfl,sF,hF,arF⟩;rw [Int.zero_add];have hy:ys[i]? =some ys[i]:=Z0b hi;obtain ⟨e,he,qe,al,sl,tv,ey,e1,e2,_⟩:=B2l pd4 hy;rw [ey] at hy;have eo:=C4k (tb:=tb) (z:=(B1l ax ls).take i) pro.t2 λe he=>du2 e (Z2p he);have eol:=eo.l;rw [Z0x] at eol;have lw:=Paired.length arF;have e1:=SqT.of (K:=K) (sF _ _ e1);have e2:=sF _ _ e2;have hdF:=SqL.of (K:=K) (sF _ _ hd4);refine i15 _ rfl _ rfl dl _ _ _ rfl rfl hdF (A1s hy) (i0w qe _ _ _ rfl rfl e1 rfl (i02 _ rfl (i15 _ rfl _ rfl dl _ _ _ rfl rfl hdF (A1s hy) (i0w qe _ _ _ rfl rfl e1 rfl (i0d ad _ rfl (C7t.k (k:=Sum.inr e.1) hF (A1l (by lia))) ?_)))));refine i0k _ _ rfl (A0s sF had) A0b ?_;rw [C1m he];refine C1t (e:=(e.1,e.2.1)) (c:=al) True.intro ?_ (arF.imp λb zs _ z=>⟨True.intro,by rw [A0k (A3a z hF (by intro w;cases w))];exact z⟩);rw [A0k (A3a e2 hF (by intro w;cases w))];exact e2
  clear arG hG wk;rintro Z F ⟨o8,wk,rfl,sF,hF,arF⟩;rw [lys,Z18] at arF
  have enA:∀f∈arP tb (B1l ax ls),D0s f:=by
   refine B9t _ (B9t tb (λf hf=>by cases hf) λf hf=> ?_) λf hf=> ?_
   ·refine e09 (D3c ptb4 f hf) ?_;rintro x qx al _ _ _ ⟨o1,_,nx,_⟩;exact ⟨o1.2,λy hy=>(nx y hy).1.2⟩
   ·obtain ⟨e,he,rfl⟩:=Z2c.mp hf;exact ⟨(lst e he).2.2,λy hy=>((du2 e he).2.2.1 y hy).2⟩
  have hqF:=sF _ _ hq4;refine i16 _ rfl q _ dq _ _ rfl hqF T.cz T.gu (by walk_at "lk") (i16 _ rfl vc dl xs ys (B1l ax ls) rfl (sF _ _ hvc4) (sF _ _ hd4) (Paired.mapP px4 λ_ _ z=>z.same sF) (Paired.mapP pd4 λ_ _ z=>z.same sF) (i00 lne (by lia) λH6 s6=>(i02 true rfl (A2u ?_))));have s46:=sF.trans s6;have had6:=s6 _ _ hF;refine i16 _ rfl q _ dq _ _ rfl (s46 _ _ hq4) T.cz T.f_ (by walk_at "lk") (i19 _ rfl ac ad ak wk rfl rfl (Rd.of (s46 _ _ hac4)) (Rd.of had6) (C9v (ar4.same s46) (arF.same s6) enA) _ rfl (A2u ?_));refine i16 _ rfl q _ dq _ _ rfl (s46 _ _ hq4) T.cz T.f_ (by walk_at "lk") (i0d ac _ rfl (s46 _ _ hac4) λl1 hl1=> ?_);rw [C4c ar4];have s7:=A0f (o:= .lst (((arP tb (B1l ax ls)).map (·.1)).map V.str)) hl1;have h7:upd H6 l1 (.lst (((arP tb (B1l ax ls)).map (·.1)).map V.str)) l1=some (.lst (((arP tb (B1l ax ls)).map (·.1)).map V.str)):=A0b;generalize upd H6 l1 (.lst (((arP tb (B1l ax ls)).map (·.1)).map V.str))=H7 at s7 h7;refine i0m _ rfl ad _ rfl (s7 _ _ had6) λl2 hl2=> ?_;rw [C4c arF];have s8:=A0f (o:= .lst (((arP tb (B1l ax ls)).map (·.1)).map V.str)) hl2;have h8:upd H7 l2 (.lst (((arP tb (B1l ax ls)).map (·.1)).map V.str)) l2=some (.lst (((arP tb (B1l ax ls)).map (·.1)).map V.str)):=A0b;generalize upd H7 l2 (.lst (((arP tb (B1l ax ls)).map (·.1)).map V.str))=H8 at s8 h8
  have okN:OkS ((arP tb (B1l ax ls)).map (·.1)):=λx hx=>by
   obtain ⟨f,hf,rfl⟩:=Z2c.mp hx;exact (enA f hf).1
  generalize (arP tb (B1l ax ls)).map (·.1)=nms at h7 h8 okN;refine i0k (A8v nms) (A8v nms) (A9s (s8 _ _ h7)) (A9s h8) (A8p okN) (i05 (A8p okN) _ rfl ?_);show if (! PyData.eqv (A8v nms) (A8v nms))=true then _ else _
  rw [SeqAt.eqv_refl _ (B0a okN)];refine A2u ?_;have s48:=s46.trans (s7.trans s8);clear h7 h8 s7 s8 okN nms;have pr4:=pr3.same s4;refine e0e pr4.ob ?_;rintro dr ra rt rl ro hr4 _ _ ⟨rxs,hrl4,prl4⟩ _;have lrx:=Paired.length prl4;have l8:=pro.l1;refine i16 _ rfl r _ dr _ _ rfl (s48 _ _ hr4) T.a_ T.di (by walk_at "lk") (i0d rl _ rfl (.inl (SqL.of (s48 _ _ hrl4))) (i0a _ rfl (by lia) (by lia) ?_));refine A3r (n:=rxs.length) (λi Z G=>∃(o8:Option V),Z=[Sro a,Sro p,Sro dl,Sro r,Sro q,Sro ad,o6,o7,o8]/\A1f H4 G) (i02 o8 rfl s48) ?_ ?_
  ·rintro i Z G2 hi ⟨o8,rfl,sG2⟩;rw [Int.zero_add];have hx:rxs[i]? =some rxs[i]:=Z0b hi;obtain ⟨e,he,ra',dx',c',n,dn,ex,e1,_,e2,ob⟩:=B2l prl4 hx;rw [ex] at hx;have llv:=Paired.length pls4;have hx2:lvs[i]? =some lvs[i]:=Z0b (by lia);obtain ⟨e',he',q2,al2,tv,ex2,f1,f2,rt2⟩:=B2l pls4 hx2;rw [he] at he';cases he';rw [ex2] at hx2;have oke:=pg.ok e (Z13 he);have od:=oke.d;have on:=oke.k;refine i16 _ rfl r _ dr _ _ rfl (sG2 _ _ hr4) T.a_ T.di (by walk_at "lk") (i10 _ rfl rl _ _ _ rfl rfl (SqL.of (sG2 _ _ hrl4)) (A1s hx) (i11 ra' _ dx' _ _ rfl (sG2 _ _ e1) T.kg T.kh (by walk_at "lk") ?_));refine e0h (WW _ n e.2.2 (ob.imp sG2) oke.w (by lia) (by lia)) ?_;rintro a' C' dx'' fs' k' f' fd' ps' sp' rfl e' c' m' l' ⟨F',hk',b',q'⟩;refine i0f a' C' dx'' fs' (i1a k' f' fd' ps' sp' rfl e' c' m' l' F' (hr.mono (by lia)) b' (q' _ λw1 H3 hw1 s3 hw3=> ?_));have s43:=sG2.trans s3;refine i10 _ rfl p _ _ _ rfl rfl (SqT.of (s43 _ _ hp4)) rfl (i10 _ rfl ll _ _ _ rfl rfl (SqL.of (s43 _ _ hll4)) (A1s hx2) (i0y q2 _ _ _ rfl rfl (SqT.of (s43 _ _ f1)) rfl (A0q rfl) λkp hkp=> ?_));have sK:=A0f (o:= .lst []) hkp;have hk4:upd H3 kp (.lst []) kp=some (.lst []):=A0b;generalize upd H3 kp (.lst [])=HK at sK hk4;have toR:A1f H3 (A1a (λb=>b≠kp) HK):=λb u z=>A0i (λy=>by rw [y,hkp] at z;cases z) (sK _ _ z);refine i03 tv kp (i0p [] e.2.2 (λb=>b≠kp) rfl ⟨λz=>z rfl,(λb hb z=>by rw [z,hk4] at hb;cases hb),hk4,(λx hx=>by cases hx),(by show 0+nod e.2.2<=100000;lia),rt2.same (s43.trans toR),oke.w,oke.s,by lia⟩ (by lia) λv1 kv1 H5 kb hk5 kvv l1 ob1=> ?_);have s35:A1f H3 H5:=λb u z=>kb b u (λy=>by rw [y,hkp] at z;cases z) (sK _ _ z);refine e0h (WW _ v1 e.2.2 (ob1.imp A0j) oke.w (by lia) (by lia)) ?_;rintro a2 C2 dx2 fs2 k2 f2' fd2 ps2 sp2 rfl e2' c2' m2' l2' ⟨F2',hk2',b2',q2'⟩;refine i0f a2 C2 dx2 fs2 (i1a k2 f2' fd2 ps2 sp2 rfl e2' c2' m2' l2' F2' (hr.mono (by lia)) b2' (q2' _ λw2 H6 hw2 s6 hw6=> ?_));have okW:=A6z e.2.2 oke.w oke.s;refine i0k (A8v (A5c e.2.2)) (A8v (A5c e.2.2)) (A9s ((s35.trans s6) _ _ hw3)) (A9s hw6) (A8p okW) (i05 (A8p okW) _ rfl ?_);show if (! PyData.eqv (A8v (A5c e.2.2)) (A8v (A5c e.2.2)))=true then _ else _
   rw [SeqAt.eqv_refl _ (B0a okW)];exact A2u (i02 _ rfl (s43.trans (s35.trans s6)))
  ·rintro Z G2 ⟨o8',rfl,sG2⟩;refine i0n _ rfl r wh ax tb (i0k ls os rfl (pr4.same sG2) pro λq2 H9 s9 cl9=> ?_);refine e0f cl9.ob ?_;rintro dq2 whc2 lc2 ac2 tc2 vc2 oc2 ak2 xs2 ⟨hq9,_,_,hvc9,px9⟩;have s49:=sG2.trans s9;exact i11 q2 _ dq2 _ _ rfl hq9 T.cz T.gu (by walk_at "lk") (i16 _ rfl vc2 dl xs2 ys (B1l ax ls) rfl hvc9 (s49 _ _ hd4) px9 (Paired.mapP pd4 λ_ _ z=>z.same s49) (i00 lne (by lia) λH' _=>k H'))
end My
namespace PySem.W.Fast
def tw14114515672742794448:=()
def tw3252001121391152115:=()
def tw2986829349343679114:=()
def tw7915200653428507689:=()
def tw2745917217401152489:=()
def tw434723864865902604:=()
def tw14253436659552573201:=()
def tw7849238811546397541:=()
def tw18323851660656066577:=()
def tw3390554575537265540:=()
def tw10814293953105661325:=()
def tw12400476063595065284:=()
def tw3295621831297056512:=()
def tw12994828114950311924:=()
def tw9152145153565477158:=()
def tw17599148159156460022:=()
def tw13616816137372789447:=()
def tw17823355255842844607:=()
def tw4495899643848425139:=()
def tw10628974160626787781:=()
def tw9637184330657172579:=()
def tw15173244118518086942:=()
def tw12590401854936461008:=()
def tw463317222527277944:=()
def tw14982771676094894622:=()
def tw12738510715225298534:=()
def tw11979083157302416142:=()
def tw4438238888062209706:=()
def tw6439491978494475965:=()
def tw6877249428645781413:=()
def tw15485309860239283438:=()
def tw9535574790069927461:=()
def tw13853468660794729036:=()
def tw16409483604728642354:=()
def tw9050580156837427146:=()
def tw2452282496585075892:=()
def tw303434551477211560:=()
def tw18276980418886293432:=()
def tw3107310944530062422:=()
def tw8261880082596167098:=()
def tw11246636215299247534:=()
def tw13634260142354294851:=()
def tw17049234559482643620:=()
def tw10288877323566860601:=()
def tw8486166066135495294:=()
def tw14334890444122093225:=()
def tw12914585225923589538:=()
def tw16738278208390414662:=()
def tw9080025143638407773:=()
def tw525034756526332736:=()
def tw17996411848502181816:=()
def tw16317367865805530199:=()
def tw17557653058344270994:=()
def tw7752935504976374756:=()
def tw14020069987139142540:=()
def tw12075939879131489215:=()
def tw5759455699282200299:=()
def tw15131772748814204540:=()
def tw10236215958628437544:=()
def tw12081592535155679535:=()
def tw17300219338393482775:=()
def tw17022814524236059438:=()
def tw11289792070872143931:=()
def tw11389593521379950315:=()
def tw4238753901870011284:=()
def tw6551267197218238907:=()
def tw8421904102467570371:=()
def tw12255025037867093536:=()
def tw11615796269573393063:=()
def tw14042256426877556554:=()
def tw17925643541438602892:=()
def tw13927698673694291988:=()
def tw14827245840896610959:=()
def tw12690311090071272036:=()
def tw16545217688366459248:=()
def tw17074008854268237794:=()
def tw7618174032373440418:=()
def tw17561529728828655645:=()
def tw12968327720252996517:=()
def tw11559320727800904938:=()
def tw10674274877046271492:=()
def tw6090239974043900946:=()
def tw10633558738832532980:=()
def tw3844030181202310166:=()
def tw244945360559512217:=()
def tw7235036426504705379:=()
def tw9262144491826148765:=()
def tw14135571393129087853:=()
def tw17698329356125435699:=()
def tw14030656315974971384:=()
def tw2774167549132183700:=()
def tw6480386978408194804:=()
def tw14869005962531331085:=()
def tw14400880910679838355:=()
def tw5253190206369365876:=()
def tw4622468295398023684:=()
def tw2537431301708867802:=()
def tw7209209507414929755:=()
def tw3425498065307568794:=()
def tw3892473245232633833:=()
def tw14284388579525519714:=()
def tw4475682418311324308:=()
def tw604899175893239545:=()
def tw10940744495520701468:=()
def tw4655675998202564975:=()
def tw3829703130260420394:=()
def tw6318542208585867288:=()
def tw13222948806150606452:=()
def tw278858556505437963:=()
def tw13033741180611472325:=()
def tw3472913427290214753:=()
def tw806220238181890677:=()
def tw13761338948572677355:=()
def tw9525430309577234475:=()
def tw6505035141284151446:=()
def tw11221008711147965885:=()
def tw2061559181774625932:=()
def tw6432650883624583034:=()
def tw2621090541772537255:=()
def tw14019490091493948943:=()
def tw11412866707153086626:=()
def tw4909981848395584028:=()
def tw10485180450288775333:=()
def tw2852759076036183819:=()
def tw1025850801160096818:=()
def tw10561473549762859542:=()
def tw5848321904568599571:=()
def tw2104222312494289711:=()
def tw13436420008373493851:=()
def tw4561994848471310941:=()
def tw7204262109604248171:=()
def tw13128893877979461161:=()
def tw11485735570274734462:=()
def tw9998787769819190895:=()
def tw6999393117704612166:=()
def tw5274259432024742755:=()
def tw1939715394763935609:=()
def tw11637592384435617975:=()
def tw16856938773254452728:=()
def tw6700265888359629987:=()
def tw10279874775366151591:=()
def tw1090957641207906096:=()
def tw16915444807662973165:=()
def tw3735583402391468469:=()
def tw6582578721791609161:=()
def tw9589230228313865317:=()
def tw12967701219818322825:=()
def tw3985797801354994922:=()
def tw6784265778017368758:=()
def tw109012354715508491:=()
def tw14868230386678884358:=()
def tw1541971914649538743:=()
def tw7658458816088734547:=()
def tw13463673539134802033:=()
def tw11783430924457226421:=()
def tw11434809682277103686:=()
def tw9692987158169760786:=()
def tw8389363601190962171:=()
def tw9630179397516891161:=()
def tw17026818026945495747:=()
def tw804738726283523515:=()
def tw3703696848511482620:=()
def tw14774212365939133268:=()
def tw12516874968292231845:=()
def tw162205453677344069:=()
def tw8380576779426427116:=()
def tw11715633490518767029:=()
def tw7845024800627696116:=()
def tw14578823092295381439:=()
def tw10439157768486742296:=()
def tw5334730264863677570:=()
def tw10247080856800480025:=()
def tw15921695989042857670:=()
def tw4424140347014726232:=()
def tw11467564288610335444:=()
def tw2185632572561490142:=()
def tw11349798153786997277:=()
def tw9326902138984913620:=()
def tw4800842033535120314:=()
def tw10786580398513243236:=()
def tw2233058124995103594:=()
def tw4874810638957959963:=()
def tw1038044581022286649:=()
def tw16941842396983732209:=()
def tw3710969634107956970:=()
def tw12808394648529654302:=()
def tw16693286076585884028:=()
def tw14308163720822681710:=()
def tw11900436505719529263:=()
def tw887792939589605127:=()
def tw3947145541105389631:=()
def tw16161780571901743936:=()
def tw17760769099018673162:=()
def tw17589017776634647989:=()
def tw1678769728060972200:=()
def tw14166303306357684724:=()
end PySem.W.Fast
namespace My
open PySem L2
variable {K:Frag} {sl:Array (Option Value)} {l:PySem.W.OpenLaw} {XP:(Str->Option Value)->Heap->Prop}
abbrev LkF (K:Frag) (x q:Str) (st:Stmt) (f:Addr):Prop:=∃(oc:Value) (od:Option Addr) (kV dc pm:Value) (an:Option Addr) (cd ct:Value) (sl:Array (Option Value)),K.lookup f=some ⟨oc,od,.func (fnOf x q (A9c st) (A8b st) (A0m st) .none kV dc pm an cd ct),sl⟩/\codeIn K cd q=true/\keepIn K (.ref f)=true
theorem D6s {x q:Str} {st:Stmt} {f:Addr} {oc:Value} {od:Option Addr} {kV dc pm:Value} {an:Option Addr} {cd ct:Value} (l:K.lookup f=some ⟨oc,od,.func (fnOf x q (A9c st) (A8b st) (A0m st) .none kV dc pm an cd ct),sl⟩) (c:codeIn K cd q=true) (k:keepIn K (.ref f)=true):LkF K x q st f:=⟨_,_,_,_,_,_,_,_,_,l,c,k⟩
theorem A2b {x q:Str} {st:Stmt} {f:Addr} {ps:List Str} (l:LkF K x q st f) (h:∀(kV doc pm:Value) (an:Option Addr) (cdv ct:Value) (us:List Value),us.length=ps.length->bindArgs (fnOf x q (A9c st) (A8b st) (A0m st) .none kV doc pm an cdv ct) ⟨us,[]⟩=pure (ps.zip us)):∃d,Fun K x q st f d/\A7o K d ps []/\keepIn K (.ref f)=true:=by
 obtain ⟨_,_,_,_,_,_,_,_,_,l,c,k⟩:=l;have F:=D0i (st:=st) l c k;exact ⟨_,F,F.binds h,k⟩
theorem len0 {p:List Value->Prop} (h:p []):∀us:List Value,us.length=0->p us:=λus e=>by rw [List.length_eq_zero_iff.mp e];exact h
theorem lenS {n:Nat} {p:List Value->Prop} (h:∀(a:Value) (us:List Value),us.length=n->p (a::us)):∀us:List Value,us.length=n+1->p us
 | a::r,e=>h a r (Nat.succ.inj e)
local macro_rules | `(tactic| walk_at "le") => `(tactic| (intro _ _ _ _ _ _; (repeat (refine lenS fun _ => ?_)); exact len0 rfl))
theorem D4y {w:World} {h:Heap} {mg:Str->Option Value} {fa:Addr} (X:K.In h) (G:h.Ns mainGlobals mg) (hfa:mg "law"=some (.ref fa))
  {aL aH oR aG aB aC aK aM aI aJ aF aA aN aS aE aD:Addr}
  (lY:nsIn K mainGlobals "Line"=some (some (.ref aL)))
  (kA:nsIn K mainGlobals "Cloth"=some (some (.ref aH)))
  (oL:nsIn K mainGlobals "Term"=some (some (.ref oR)))
  (jG:nsIn K mainGlobals "Number"=some (some (.ref aG)))
  (kB:nsIn K mainGlobals "Place"=some (some (.ref aB)))
  (lZ:nsIn K mainGlobals "Read"=some (some (.ref aC)))
  (mA:nsIn K mainGlobals "Pair"=some (some (.ref aK)))
  (mB:nsIn K mainGlobals "Plus"=some (some (.ref aM)))
  (kC:nsIn K mainGlobals "Minus"=some (some (.ref aI)))
  (kD:nsIn K mainGlobals "Times"=some (some (.ref aJ)))
  (nP:nsIn K mainGlobals "Sum"=some (some (.ref aF)))
  (kE:nsIn K mainGlobals "Guard"=some (some (.ref aA)))
  (mC:nsIn K mainGlobals "Part"=some (some (.ref aN)))
  (nQ:nsIn K mainGlobals "Let"=some (some (.ref aS)))
  (iS:nsIn K mainGlobals "Program"=some (some (.ref aE)))
  (jH:nsIn K mainGlobals "Lifter"=some (some (.ref aD)))
  {f0:Addr}
  (a0:nsIn K mainGlobals "copied"=some (some (.ref f0)))
  (l0:LkF K "copied" "copied" B6l f0)
  {f1:Addr}
  (a1:nsIn K mainGlobals "copied_dict"=some (some (.ref f1)))
  (l1:LkF K "copied_dict" "copied_dict" A7g f1)
  {f2:Addr}
  (a2:findIn K (.ref aL) "__init__"=some (some (.ref f2)))
  (l2:LkF K "__init__" "Line.__init__" A9i f2)
  (i2:isFn K (.ref f2)=true)
  {f3:Addr}
  (a3:findIn K (.ref aH) "__init__"=some (some (.ref f3)))
  (l3:LkF K "__init__" "Cloth.__init__" A8c f3)
  (i3:isFn K (.ref f3)=true)
  {f4:Addr}
  (a4:findIn K (.ref aG) "__init__"=some (some (.ref f4)))
  (l4:LkF K "__init__" "Number.__init__" A7b f4)
  (i4:isFn K (.ref f4)=true)
  {f5:Addr}
  (a5:findIn K (.ref aG) "words"=some (some (.ref f5)))
  (l5:LkF K "words" "Number.words" A6k f5)
  (i5:isFn K (.ref f5)=true)
  {f6:Addr}
  (a6:findIn K (.ref aB) "__init__"=some (some (.ref f6)))
  (l6:LkF K "__init__" "Place.__init__" A7x f6)
  (i6:isFn K (.ref f6)=true)
  {f7:Addr}
  (a7:findIn K (.ref aB) "words"=some (some (.ref f7)))
  (l7:LkF K "words" "Place.words" A7h f7)
  (i7:isFn K (.ref f7)=true)
  {f8:Addr}
  (a8:findIn K (.ref aC) "__init__"=some (some (.ref f8)))
  (l8:LkF K "__init__" "Read.__init__" A9r f8)
  (i8:isFn K (.ref f8)=true)
  {f9:Addr}
  (a9:findIn K (.ref aC) "words"=some (some (.ref f9)))
  (l9:LkF K "words" "Read.words" A7q f9)
  (i9:isFn K (.ref f9)=true)
  {uF:Addr}
  (pR:nsIn K mainGlobals "index_word"=some (some (.ref uF)))
  (pS:LkF K "index_word" "index_word" A7y uF)
  {oS:Addr}
  (vS:findIn K (.ref aK) "__init__"=some (some (.ref oS)))
  (pT:LkF K "__init__" "Pair.__init__" A9j oS)
  (oU:isFn K (.ref oS)=true)
  {oT:Addr}
  (vT:findIn K (.ref aK) "words"=some (some (.ref oT)))
  (pU:LkF K "words" "Pair.words" A8a oT)
  (oV:isFn K (.ref oT)=true)
  {oX:Addr}
  (vU:findIn K (.ref aM) "sign"=some (some (.ref oX)))
  (pV:LkF K "sign" "Plus.sign" A9e oX)
  (pW:isFn K (.ref oX)=true)
  {oY:Addr}
  (vV:findIn K (.ref aM) "made_of"=some (some (.ref oY)))
  (pX:LkF K "made_of" "Plus.made_of" A6f oY)
  (pY:isFn K (.ref oY)=true)
  {oZ:Addr}
  (vW:findIn K (.ref aI) "sign"=some (some (.ref oZ)))
  (pZ:LkF K "sign" "Minus.sign" A8g oZ)
  (qA:isFn K (.ref oZ)=true)
  {pA:Addr}
  (vX:findIn K (.ref aI) "made_of"=some (some (.ref pA)))
  (qB:LkF K "made_of" "Minus.made_of" A5l pA)
  (qC:isFn K (.ref pA)=true)
  {pB:Addr}
  (vY:findIn K (.ref aJ) "sign"=some (some (.ref pB)))
  (qD:LkF K "sign" "Times.sign" A7w pB)
  (qE:isFn K (.ref pB)=true)
  {pC:Addr}
  (vZ:findIn K (.ref aJ) "made_of"=some (some (.ref pC)))
  (qF:LkF K "made_of" "Times.made_of" A5r pC)
  (qG:isFn K (.ref pC)=true)
  {pD:Addr}
  (wA:findIn K (.ref aF) "__init__"=some (some (.ref pD)))
  (qH:LkF K "__init__" "Sum.__init__" B0w pD)
  (qI:isFn K (.ref pD)=true)
  {pE:Addr}
  (wB:findIn K (.ref aF) "words"=some (some (.ref pE)))
  (qJ:LkF K "words" "Sum.words" A9o pE)
  (qK:isFn K (.ref pE)=true)
  {pF:Addr}
  (wC:findIn K (.ref aA) "__init__"=some (some (.ref pF)))
  (qL:LkF K "__init__" "Guard.__init__" A7s pF)
  (qM:isFn K (.ref pF)=true)
  {pG:Addr}
  (wD:findIn K (.ref aA) "made_of"=some (some (.ref pG)))
  (qN:LkF K "made_of" "Guard.made_of" A5n pG)
  (qO:isFn K (.ref pG)=true)
  {pH:Addr}
  (wE:findIn K (.ref aA) "words"=some (some (.ref pH)))
  (qP:LkF K "words" "Guard.words" A6v pH)
  (qQ:isFn K (.ref pH)=true)
  {pI:Addr}
  (wF:findIn K (.ref aN) "__init__"=some (some (.ref pI)))
  (qR:LkF K "__init__" "Part.__init__" A9n pI)
  (qS:isFn K (.ref pI)=true)
  {uG:Addr}
  (qT:nsIn K mainGlobals "parts_of"=some (some (.ref uG)))
  (qU:LkF K "parts_of" "parts_of" B1k uG)
  {uH:Addr}
  (qV:nsIn K mainGlobals "parts_from"=some (some (.ref uH)))
  (qW:LkF K "parts_from" "parts_from" A7r uH)
  {uI:Addr}
  (qX:nsIn K mainGlobals "parts_right_within"=some (some (.ref uI)))
  (qY:LkF K "parts_right_within" "parts_right_within" A3v uI)
  {uJ:Addr}
  (qZ:nsIn K mainGlobals "sums_at_top"=some (some (.ref uJ)))
  (rA:LkF K "sums_at_top" "sums_at_top" A6w uJ)
  {uK:Addr}
  (rB:nsIn K mainGlobals "within_sums"=some (some (.ref uK)))
  (rC:LkF K "within_sums" "within_sums" A6u uK)
  {pJ:Addr}
  (wG:findIn K (.ref aS) "__init__"=some (some (.ref pJ)))
  (rD:LkF K "__init__" "Let.__init__" B1e pJ)
  (rE:isFn K (.ref pJ)=true)
  {pK:Addr}
  (wH:findIn K (.ref aE) "__init__"=some (some (.ref pK)))
  (rF:LkF K "__init__" "Program.__init__" A6l pK)
  (rG:isFn K (.ref pK)=true)
  {uL:Addr}
  (rH:nsIn K mainGlobals "axis_names"=some (some (.ref uL)))
  (rI:LkF K "axis_names" "axis_names" A7v uL)
  {uM:Addr}
  (rJ:nsIn K mainGlobals "table_names"=some (some (.ref uM)))
  (rK:LkF K "table_names" "table_names" A7c uM)
  {uN:Addr}
  (rL:nsIn K mainGlobals "lengths_of"=some (some (.ref uN)))
  (rM:LkF K "lengths_of" "lengths_of" A7u uN)
  {uO:Addr}
  (rN:nsIn K mainGlobals "cloth_of"=some (some (.ref uO)))
  (rO:LkF K "cloth_of" "cloth_of" B0z uO)
  {uP:Addr}
  (rP:nsIn K mainGlobals "lines_of"=some (some (.ref uP)))
  (rQ:LkF K "lines_of" "lines_of" B0s uP)
  {pL:Addr}
  (wI:findIn K (.ref aD) "__init__"=some (some (.ref pL)))
  (rR:LkF K "__init__" "Lifter.__init__" A7j pL)
  (rS:isFn K (.ref pL)=true)
  {pM:Addr}
  (wJ:findIn K (.ref aD) "lift_let"=some (some (.ref pM)))
  (rT:LkF K "lift_let" "Lifter.lift_let" A4l pM)
  (rU:isFn K (.ref pM)=true)
  {pN:Addr}
  (wK:findIn K (.ref aD) "without_sums"=some (some (.ref pN)))
  (rV:LkF K "without_sums" "Lifter.without_sums" A3p pN)
  (rW:isFn K (.ref pN)=true)
  {pO:Addr}
  (wL:findIn K (.ref aD) "lift"=some (some (.ref pO)))
  (rX:LkF K "lift" "Lifter.lift" A7i pO)
  (rY:isFn K (.ref pO)=true)
  {pP:Addr}
  (wM:findIn K (.ref aD) "fresh_name"=some (some (.ref pP)))
  (rZ:LkF K "fresh_name" "Lifter.fresh_name" A4b pP)
  (sA:isFn K (.ref pP)=true)
  {uQ:Addr}
  (sB:nsIn K mainGlobals "guarded"=some (some (.ref uQ)))
  (sC:LkF K "guarded" "guarded" B3g uQ)
  {uR:Addr}
  (sD:nsIn K mainGlobals "axes_in"=some (some (.ref uR)))
  (sE:LkF K "axes_in" "axes_in" B3h uR)
  {uS:Addr}
  (sF:nsIn K mainGlobals "axes_of"=some (some (.ref uS)))
  (sG:LkF K "axes_of" "axes_of" B2v uS)
  {uT:Addr}
  (sH:nsIn K mainGlobals "_law_cell_at"=some (some (.ref uT)))
  (sI:LkF K "_law_cell_at" "_law_cell_at" A9d uT)
  {uU:Addr}
  (sJ:nsIn K mainGlobals "_law_mixed"=some (some (.ref uU)))
  (sK:LkF K "_law_mixed" "_law_mixed" B3l uU)
  {uV:Addr}
  (sL:nsIn K mainGlobals "_law_part"=some (some (.ref uV)))
  (sM:LkF K "_law_part" "_law_part" B6f uV)
  {uW:Addr}
  (sN:nsIn K mainGlobals "_law_names_by"=some (some (.ref uW)))
  (sO:LkF K "_law_names_by" "_law_names_by" A7z uW)
  {uX:Addr}
  (sP:nsIn K mainGlobals "_law_number_by"=some (some (.ref uX)))
  (sQ:LkF K "_law_number_by" "_law_number_by" A6s uX)
  {uY:Addr}
  (sR:nsIn K mainGlobals "_law_many"=some (some (.ref uY)))
  (sS:LkF K "_law_many" "_law_many" B5d uY)
  {uZ:Addr}
  (sT:nsIn K mainGlobals "_law_axes_by"=some (some (.ref uZ)))
  (sU:LkF K "_law_axes_by" "_law_axes_by" A9b uZ)
  {vA:Addr}
  (sV:nsIn K mainGlobals "_law_guarded"=some (some (.ref vA)))
  (sW:LkF K "_law_guarded" "_law_guarded" A9p vA)
  {vB:Addr}
  (sX:nsIn K mainGlobals "_law_read_by"=some (some (.ref vB)))
  (sY:LkF K "_law_read_by" "_law_read_by" A9t vB)
  {vC:Addr}
  (sZ:nsIn K mainGlobals "_law_wild_by"=some (some (.ref vC)))
  (tA:LkF K "_law_wild_by" "_law_wild_by" A9k vC)
  {vD:Addr}
  (tB:nsIn K mainGlobals "_law_leaf_by"=some (some (.ref vD)))
  (tC:LkF K "_law_leaf_by" "_law_leaf_by" A9h vD)
  {vE:Addr}
  (tD:nsIn K mainGlobals "_law_summed"=some (some (.ref vE)))
  (tE:LkF K "_law_summed" "_law_summed" B0u vE)
  {vF:Addr}
  (tF:nsIn K mainGlobals "_law_grow"=some (some (.ref vF)))
  (tG:LkF K "_law_grow" "_law_grow" B6n vF)
  {vG:Addr}
  (tH:nsIn K mainGlobals "_law_weight"=some (some (.ref vG)))
  (tI:LkF K "_law_weight" "_law_weight" B1d vG)
  {vH:Addr}
  (tJ:nsIn K mainGlobals "_law_let_by"=some (some (.ref vH)))
  (tK:LkF K "_law_let_by" "_law_let_by" B0r vH)
  {vI:Addr}
  (tL:nsIn K mainGlobals "_law_lengths_by"=some (some (.ref vI)))
  (tM:LkF K "_law_lengths_by" "_law_lengths_by" A6m vI)
  {vJ:Addr}
  (tN:nsIn K mainGlobals "_law_program_by"=some (some (.ref vJ)))
  (tO:LkF K "_law_program_by" "_law_program_by" A6i vJ)
  {vK:Addr}
  (tP:nsIn K mainGlobals "_law_made"=some (some (.ref vK)))
  (tQ:LkF K "_law_made" "_law_made" B6q vK)
  {vL:Addr}
  (tR:nsIn K mainGlobals "_law_made_new"=some (some (.ref vL)))
  (tS:LkF K "_law_made_new" "_law_made_new" A8i vL)
  {vM:Addr}
  (tT:nsIn K mainGlobals "_law_made_program"=some (some (.ref vM)))
  (tU:LkF K "_law_made_program" "_law_made_program" A5a vM)
  {vN:Addr}
  (tV:nsIn K mainGlobals "_law_come"=some (some (.ref vN)))
  (tW:LkF K "_law_come" "_law_come" B5h vN)
  {vO:Addr}
  (tX:nsIn K mainGlobals "_law_lift"=some (some (.ref vO)))
  (tY:LkF K "_law_lift" "_law_lift" B5x vO)
  {vP:Addr}
  (tZ:nsIn K mainGlobals "_law_due"=some (some (.ref vP)))
  (uA:LkF K "_law_due" "_law_due" C1a vP)
  {vQ:Addr}
  (uB:nsIn K mainGlobals "_law_same_line"=some (some (.ref vQ)))
  (uC:LkF K "_law_same_line" "_law_same_line" A7d vQ)
  {vR:Addr}
  (uD:nsIn K mainGlobals "_law_same_lines"=some (some (.ref vR)))
  (uE:LkF K "_law_same_lines" "_law_same_lines" A6h vR)
  {wN:Addr}
  (pQ:nsIn K mainGlobals "law"=some (some (.ref wN)))
  (oW:LkF K "law" "law" C9o wN)
  (kF:plainGet K aH Str.empty=true)
  (kG:hasDictIn K aH=true)
  (kH:plainOver K aH=true)
  (kI:findIn K (.ref aH) "__setattr__"=some (some (.builtin "object.__setattr__")))
  (kJ:makesIn K aH=true)
  (kK:keepIn K (.ref aH)=true)
  (kL:findIn K (.ref aH) "__init__"=some (some (.ref f3)))
  (cK:findIn K (.ref aH) "wheel"=some none)
  (bD:findIn K (.ref aH) "lengths"=some none)
  (bN:findIn K (.ref aH) "arrays"=some none)
  (bO:findIn K (.ref aH) "tables"=some none)
  (cL:findIn K (.ref aH) "lines"=some none)
  (dY:findIn K (.ref aH) "outs"=some none)
  (kM:findIn K (.ref aH) "__class__"=some (some (.builtin "object.__class__")))
  (iQ:specialIn K (.builtin "object.__class__") "__get__"=some (some (.builtin "getset_descriptor.__get__")))
  (iR:takesIn K (.builtin "object.__class__")=some true)
  (kN:mroIn K aH (.type "object")=some true)
  (aO:isClsIn K aA=true)
  (aP:typeIn K (.ref aA)=some (.type "type"))
  (cM:mroIn K aH (.ref aA)=some false)
  (cN:(Value.ref aH == Value.ref aA)=false)
  (aT:isClsIn K aK=true)
  (aU:typeIn K (.ref aK)=some (.type "type"))
  (dZ:mroIn K aH (.ref aK)=some false)
  (eA:(Value.ref aH == Value.ref aK)=false)
  (aV:isClsIn K aC=true)
  (aW:typeIn K (.ref aC)=some (.type "type"))
  (eB:mroIn K aH (.ref aC)=some false)
  (eC:(Value.ref aH == Value.ref aC)=false)
  (aZ:isClsIn K aF=true)
  (bA:typeIn K (.ref aF)=some (.type "type"))
  (fX:mroIn K aH (.ref aF)=some false)
  (fY:(Value.ref aH == Value.ref aF)=false)
  (aQ:isClsIn K aB=true)
  (aR:typeIn K (.ref aB)=some (.type "type"))
  (cO:mroIn K aH (.ref aB)=some false)
  (cP:(Value.ref aH == Value.ref aB)=false)
  (kO:plainGet K aA Str.empty=true)
  (kP:hasDictIn K aA=true)
  (kQ:plainOver K aA=true)
  (kR:findIn K (.ref aA) "__setattr__"=some (some (.builtin "object.__setattr__")))
  (kS:makesIn K aA=true)
  (kT:keepIn K (.ref aA)=true)
  (kU:findIn K (.ref aA) "__init__"=some (some (.ref pF)))
  (eD:findIn K (.ref aA) "axis"=some none)
  (fZ:findIn K (.ref aA) "low"=some none)
  (eE:findIn K (.ref aA) "high"=some none)
  (cQ:findIn K (.ref aA) "inner"=some none)
  (cR:findIn K (.ref aA) "outer"=some none)
  (bE:findIn K (.ref aA) "made_of"=some (some (.ref pG)))
  (cS:findIn K (.ref aA) "words"=some (some (.ref pH)))
  (kV:findIn K (.ref aA) "__class__"=some (some (.builtin "object.__class__")))
  (kW:mroIn K aA (.type "object")=some true)
  (cT:mroIn K aA (.ref aA)=some true)
  (eF:mroIn K aA (.ref aK)=some false)
  (eG:(Value.ref aA == Value.ref aK)=false)
  (eH:mroIn K aA (.ref aC)=some false)
  (eI:(Value.ref aA == Value.ref aC)=false)
  (gA:mroIn K aA (.ref aF)=some false)
  (gB:(Value.ref aA == Value.ref aF)=false)
  (cU:mroIn K aA (.ref aB)=some false)
  (cV:(Value.ref aA == Value.ref aB)=false)
  (nR:plainGet K aS Str.empty=true)
  (nS:hasDictIn K aS=true)
  (nT:plainOver K aS=true)
  (nU:findIn K (.ref aS) "__setattr__"=some (some (.builtin "object.__setattr__")))
  (nV:makesIn K aS=true)
  (nW:keepIn K (.ref aS)=true)
  (nX:findIn K (.ref aS) "__init__"=some (some (.ref pJ)))
  (hR:findIn K (.ref aS) "name"=some none)
  (hT:findIn K (.ref aS) "axes"=some none)
  (hU:findIn K (.ref aS) "term"=some none)
  (nY:findIn K (.ref aS) "__class__"=some (some (.builtin "object.__class__")))
  (nZ:mroIn K aS (.type "object")=some true)
  (hV:mroIn K aS (.type "list")=some false)
  (gC:mroIn K aS (.type "tuple")=some false)
  (hW:mroIn K aS (.type "dict")=some false)
  (gD:mroIn K aS (.ref aA)=some false)
  (gE:(Value.ref aS == Value.ref aA)=false)
  (hX:mroIn K aS (.ref aK)=some false)
  (hZ:(Value.ref aS == Value.ref aK)=false)
  (iA:mroIn K aS (.ref aC)=some false)
  (iB:(Value.ref aS == Value.ref aC)=false)
  (iT:mroIn K aS (.ref aF)=some false)
  (iU:(Value.ref aS == Value.ref aF)=false)
  (gF:mroIn K aS (.ref aB)=some false)
  (gG:(Value.ref aS == Value.ref aB)=false)
  (jI:plainGet K aD Str.empty=true)
  (jJ:hasDictIn K aD=true)
  (jK:plainOver K aD=true)
  (jL:findIn K (.ref aD) "__setattr__"=some (some (.builtin "object.__setattr__")))
  (jM:makesIn K aD=true)
  (jN:keepIn K (.ref aD)=true)
  (jO:findIn K (.ref aD) "__init__"=some (some (.ref pL)))
  (bP:findIn K (.ref aD) "known"=some none)
  (bQ:findIn K (.ref aD) "lines"=some none)
  (bR:findIn K (.ref aD) "lifts"=some none)
  (aY:findIn K (.ref aD) "fresh_name"=some (some (.ref pP)))
  (cW:findIn K (.ref aD) "lift"=some (some (.ref pO)))
  (bB:findIn K (.ref aD) "lift_let"=some (some (.ref pM)))
  (aX:findIn K (.ref aD) "without_sums"=some (some (.ref pN)))
  (jP:findIn K (.ref aD) "__class__"=some (some (.builtin "object.__class__")))
  (jQ:mroIn K aD (.type "object")=some true)
  (bS:mroIn K aD (.ref aA)=some false)
  (bT:(Value.ref aD == Value.ref aA)=false)
  (cX:mroIn K aD (.ref aK)=some false)
  (cY:(Value.ref aD == Value.ref aK)=false)
  (cZ:mroIn K aD (.ref aC)=some false)
  (dA:(Value.ref aD == Value.ref aC)=false)
  (eJ:mroIn K aD (.ref aF)=some false)
  (eK:(Value.ref aD == Value.ref aF)=false)
  (bU:mroIn K aD (.ref aB)=some false)
  (bV:(Value.ref aD == Value.ref aB)=false)
  (mD:plainGet K aL Str.empty=true)
  (mE:hasDictIn K aL=true)
  (mF:plainOver K aL=true)
  (mG:findIn K (.ref aL) "__setattr__"=some (some (.builtin "object.__setattr__")))
  (mH:makesIn K aL=true)
  (mI:keepIn K (.ref aL)=true)
  (mJ:findIn K (.ref aL) "__init__"=some (some (.ref f2)))
  (gH:findIn K (.ref aL) "name"=some none)
  (gI:findIn K (.ref aL) "axes"=some none)
  (gJ:findIn K (.ref aL) "sums"=some none)
  (gK:findIn K (.ref aL) "term"=some none)
  (mK:findIn K (.ref aL) "__class__"=some (some (.builtin "object.__class__")))
  (mL:mroIn K aL (.type "object")=some true)
  (gL:mroIn K aL (.type "list")=some false)
  (eL:mroIn K aL (.type "tuple")=some false)
  (gM:mroIn K aL (.type "dict")=some false)
  (eM:mroIn K aL (.ref aA)=some false)
  (eN:(Value.ref aL == Value.ref aA)=false)
  (gN:mroIn K aL (.ref aK)=some false)
  (gO:(Value.ref aL == Value.ref aK)=false)
  (gP:mroIn K aL (.ref aC)=some false)
  (gQ:(Value.ref aL == Value.ref aC)=false)
  (iC:mroIn K aL (.ref aF)=some false)
  (iD:(Value.ref aL == Value.ref aF)=false)
  (eO:mroIn K aL (.ref aB)=some false)
  (eP:(Value.ref aL == Value.ref aB)=false)
  (kX:plainGet K aI Str.empty=true)
  (kY:hasDictIn K aI=true)
  (kZ:plainOver K aI=true)
  (lA:findIn K (.ref aI) "__setattr__"=some (some (.builtin "object.__setattr__")))
  (lB:makesIn K aI=true)
  (lC:keepIn K (.ref aI)=true)
  (lD:findIn K (.ref aI) "__init__"=some (some (.ref oS)))
  (eQ:findIn K (.ref aI) "left"=some none)
  (dB:findIn K (.ref aI) "right"=some none)
  (bF:findIn K (.ref aI) "made_of"=some (some (.ref pA)))
  (eR:findIn K (.ref aI) "sign"=some (some (.ref oZ)))
  (dC:findIn K (.ref aI) "words"=some (some (.ref oT)))
  (lE:findIn K (.ref aI) "__class__"=some (some (.builtin "object.__class__")))
  (lF:mroIn K aI (.type "object")=some true)
  (dD:mroIn K aI (.ref aA)=some false)
  (dE:(Value.ref aI == Value.ref aA)=false)
  (eS:mroIn K aI (.ref aK)=some true)
  (eT:mroIn K aI (.ref aC)=some false)
  (eU:(Value.ref aI == Value.ref aC)=false)
  (gR:mroIn K aI (.ref aF)=some false)
  (gS:(Value.ref aI == Value.ref aF)=false)
  (dF:mroIn K aI (.ref aB)=some false)
  (dG:(Value.ref aI == Value.ref aB)=false)
  (jR:plainGet K aG Str.empty=true)
  (jS:hasDictIn K aG=true)
  (jT:plainOver K aG=true)
  (jU:findIn K (.ref aG) "__setattr__"=some (some (.builtin "object.__setattr__")))
  (jV:makesIn K aG=true)
  (jW:keepIn K (.ref aG)=true)
  (jX:findIn K (.ref aG) "__init__"=some (some (.ref f4)))
  (bG:findIn K (.ref aG) "number"=some none)
  (bW:findIn K (.ref aG) "words"=some (some (.ref f5)))
  (jY:findIn K (.ref aG) "__class__"=some (some (.builtin "object.__class__")))
  (jZ:mroIn K aG (.type "object")=some true)
  (bX:mroIn K aG (.ref aA)=some false)
  (bY:(Value.ref aG == Value.ref aA)=false)
  (dH:mroIn K aG (.ref aK)=some false)
  (dI:(Value.ref aG == Value.ref aK)=false)
  (dJ:mroIn K aG (.ref aC)=some false)
  (dK:(Value.ref aG == Value.ref aC)=false)
  (eV:mroIn K aG (.ref aF)=some false)
  (eW:(Value.ref aG == Value.ref aF)=false)
  (bZ:mroIn K aG (.ref aB)=some false)
  (cA:(Value.ref aG == Value.ref aB)=false)
  (mM:plainGet K aN Str.empty=true)
  (mN:hasDictIn K aN=true)
  (mO:plainOver K aN=true)
  (mP:findIn K (.ref aN) "__setattr__"=some (some (.builtin "object.__setattr__")))
  (mQ:makesIn K aN=true)
  (mR:keepIn K (.ref aN)=true)
  (mS:findIn K (.ref aN) "__init__"=some (some (.ref pI)))
  (gT:findIn K (.ref aN) "term"=some none)
  (gU:findIn K (.ref aN) "sums"=some none)
  (dL:findIn K (.ref aN) "guards"=some none)
  (mT:findIn K (.ref aN) "__class__"=some (some (.builtin "object.__class__")))
  (mU:mroIn K aN (.type "object")=some true)
  (eX:mroIn K aN (.ref aA)=some false)
  (eY:(Value.ref aN == Value.ref aA)=false)
  (gV:mroIn K aN (.ref aK)=some false)
  (gW:(Value.ref aN == Value.ref aK)=false)
  (gX:mroIn K aN (.ref aC)=some false)
  (gY:(Value.ref aN == Value.ref aC)=false)
  (iE:mroIn K aN (.ref aF)=some false)
  (iF:(Value.ref aN == Value.ref aF)=false)
  (eZ:mroIn K aN (.ref aB)=some false)
  (fA:(Value.ref aN == Value.ref aB)=false)
  (lG:plainGet K aB Str.empty=true)
  (lH:hasDictIn K aB=true)
  (lI:plainOver K aB=true)
  (lJ:findIn K (.ref aB) "__setattr__"=some (some (.builtin "object.__setattr__")))
  (lK:makesIn K aB=true)
  (lL:keepIn K (.ref aB)=true)
  (lM:findIn K (.ref aB) "__init__"=some (some (.ref f6)))
  (fB:findIn K (.ref aB) "axis"=some none)
  (dM:findIn K (.ref aB) "words"=some (some (.ref f7)))
  (lN:findIn K (.ref aB) "__class__"=some (some (.builtin "object.__class__")))
  (lO:mroIn K aB (.type "object")=some true)
  (dN:mroIn K aB (.ref aA)=some false)
  (dO:(Value.ref aB == Value.ref aA)=false)
  (fC:mroIn K aB (.ref aK)=some false)
  (fD:(Value.ref aB == Value.ref aK)=false)
  (fE:mroIn K aB (.ref aC)=some false)
  (fF:(Value.ref aB == Value.ref aC)=false)
  (gZ:mroIn K aB (.ref aF)=some false)
  (hA:(Value.ref aB == Value.ref aF)=false)
  (dP:mroIn K aB (.ref aB)=some true)
  (mV:plainGet K aM Str.empty=true)
  (mW:hasDictIn K aM=true)
  (mX:plainOver K aM=true)
  (mY:findIn K (.ref aM) "__setattr__"=some (some (.builtin "object.__setattr__")))
  (mZ:makesIn K aM=true)
  (nA:keepIn K (.ref aM)=true)
  (nB:findIn K (.ref aM) "__init__"=some (some (.ref oS)))
  (hB:findIn K (.ref aM) "left"=some none)
  (fG:findIn K (.ref aM) "right"=some none)
  (cB:findIn K (.ref aM) "made_of"=some (some (.ref oY)))
  (hC:findIn K (.ref aM) "sign"=some (some (.ref oX)))
  (fH:findIn K (.ref aM) "words"=some (some (.ref oT)))
  (nC:findIn K (.ref aM) "__class__"=some (some (.builtin "object.__class__")))
  (nD:mroIn K aM (.type "object")=some true)
  (fI:mroIn K aM (.ref aA)=some false)
  (fJ:(Value.ref aM == Value.ref aA)=false)
  (hD:mroIn K aM (.ref aK)=some true)
  (hE:mroIn K aM (.ref aC)=some false)
  (hF:(Value.ref aM == Value.ref aC)=false)
  (iG:mroIn K aM (.ref aF)=some false)
  (iH:(Value.ref aM == Value.ref aF)=false)
  (fK:mroIn K aM (.ref aB)=some false)
  (fL:(Value.ref aM == Value.ref aB)=false)
  (iV:plainGet K aE Str.empty=true)
  (iW:hasDictIn K aE=true)
  (iX:plainOver K aE=true)
  (iY:findIn K (.ref aE) "__setattr__"=some (some (.builtin "object.__setattr__")))
  (iZ:makesIn K aE=true)
  (jA:keepIn K (.ref aE)=true)
  (jB:findIn K (.ref aE) "__init__"=some (some (.ref pK)))
  (bH:findIn K (.ref aE) "wheel"=some none)
  (cC:findIn K (.ref aE) "axes"=some none)
  (bC:findIn K (.ref aE) "tables"=some none)
  (cD:findIn K (.ref aE) "lets"=some none)
  (cE:findIn K (.ref aE) "outs"=some none)
  (jC:findIn K (.ref aE) "__class__"=some (some (.builtin "object.__class__")))
  (jD:mroIn K aE (.type "object")=some true)
  (bI:mroIn K aE (.ref aA)=some false)
  (bJ:(Value.ref aE == Value.ref aA)=false)
  (cF:mroIn K aE (.ref aK)=some false)
  (cG:(Value.ref aE == Value.ref aK)=false)
  (cH:mroIn K aE (.ref aC)=some false)
  (cI:(Value.ref aE == Value.ref aC)=false)
  (dQ:mroIn K aE (.ref aF)=some false)
  (dR:(Value.ref aE == Value.ref aF)=false)
  (bK:mroIn K aE (.ref aB)=some false)
  (bL:(Value.ref aE == Value.ref aB)=false)
  (nE:plainGet K aC Str.empty=true)
  (nF:hasDictIn K aC=true)
  (nG:plainOver K aC=true)
  (nH:findIn K (.ref aC) "__setattr__"=some (some (.builtin "object.__setattr__")))
  (nI:makesIn K aC=true)
  (nJ:keepIn K (.ref aC)=true)
  (nK:findIn K (.ref aC) "__init__"=some (some (.ref f8)))
  (fM:findIn K (.ref aC) "array"=some none)
  (cJ:findIn K (.ref aC) "indexes"=some none)
  (fN:findIn K (.ref aC) "words"=some (some (.ref f9)))
  (nL:findIn K (.ref aC) "__class__"=some (some (.builtin "object.__class__")))
  (nM:mroIn K aC (.type "object")=some true)
  (fO:mroIn K aC (.ref aA)=some false)
  (fP:(Value.ref aC == Value.ref aA)=false)
  (hG:mroIn K aC (.ref aK)=some false)
  (hH:(Value.ref aC == Value.ref aK)=false)
  (hI:mroIn K aC (.ref aC)=some true)
  (iI:mroIn K aC (.ref aF)=some false)
  (iJ:(Value.ref aC == Value.ref aF)=false)
  (fQ:mroIn K aC (.ref aB)=some false)
  (fR:(Value.ref aC == Value.ref aB)=false)
  (oA:plainGet K aF Str.empty=true)
  (oB:hasDictIn K aF=true)
  (oC:plainOver K aF=true)
  (oD:findIn K (.ref aF) "__setattr__"=some (some (.builtin "object.__setattr__")))
  (oE:makesIn K aF=true)
  (oF:keepIn K (.ref aF)=true)
  (oG:findIn K (.ref aF) "__init__"=some (some (.ref pD)))
  (iK:findIn K (.ref aF) "axis"=some none)
  (iL:findIn K (.ref aF) "body"=some none)
  (hJ:findIn K (.ref aF) "words"=some (some (.ref pE)))
  (oH:findIn K (.ref aF) "__class__"=some (some (.builtin "object.__class__")))
  (oI:mroIn K aF (.type "object")=some true)
  (hK:mroIn K aF (.ref aA)=some false)
  (hL:(Value.ref aF == Value.ref aA)=false)
  (iM:mroIn K aF (.ref aK)=some false)
  (iN:(Value.ref aF == Value.ref aK)=false)
  (iO:mroIn K aF (.ref aC)=some false)
  (iP:(Value.ref aF == Value.ref aC)=false)
  (jE:mroIn K aF (.ref aF)=some true)
  (hM:mroIn K aF (.ref aB)=some false)
  (hN:(Value.ref aF == Value.ref aB)=false)
  (lP:plainGet K aJ Str.empty=true)
  (lQ:hasDictIn K aJ=true)
  (lR:plainOver K aJ=true)
  (lS:findIn K (.ref aJ) "__setattr__"=some (some (.builtin "object.__setattr__")))
  (lT:makesIn K aJ=true)
  (lU:keepIn K (.ref aJ)=true)
  (lV:findIn K (.ref aJ) "__init__"=some (some (.ref oS)))
  (fS:findIn K (.ref aJ) "left"=some none)
  (dS:findIn K (.ref aJ) "right"=some none)
  (bM:findIn K (.ref aJ) "made_of"=some (some (.ref pC)))
  (fT:findIn K (.ref aJ) "sign"=some (some (.ref pB)))
  (dT:findIn K (.ref aJ) "words"=some (some (.ref oT)))
  (lW:findIn K (.ref aJ) "__class__"=some (some (.builtin "object.__class__")))
  (lX:mroIn K aJ (.type "object")=some true)
  (dU:mroIn K aJ (.ref aA)=some false)
  (dV:(Value.ref aJ == Value.ref aA)=false)
  (fU:mroIn K aJ (.ref aK)=some true)
  (fV:mroIn K aJ (.ref aC)=some false)
  (fW:(Value.ref aJ == Value.ref aC)=false)
  (hO:mroIn K aJ (.ref aF)=some false)
  (hP:(Value.ref aJ == Value.ref aF)=false)
  (dW:mroIn K aJ (.ref aB)=some false)
  (dX:(Value.ref aJ == Value.ref aB)=false)
  (hQ:nsIn K mainGlobals "isinstance"=some none)
  (oJ:nsIn K mainGlobals "list"=some none)
  (nN:nsIn K mainGlobals "tuple"=some none)
  (oK:nsIn K mainGlobals "dict"=some none)
  (oM:nsIn K mainGlobals "str"=some none)
  (jF:nsIn K mainGlobals "reversed"=some none)
  (oN:nsIn K mainGlobals "len"=some none)
  (nO:nsIn K mainGlobals "range"=some none)
  (oO:nsIn K mainGlobals "int"=some none)
  (oP:nsIn K mainGlobals "min"=some none)
  (oQ:nsIn K mainGlobals "max"=some none)
  :∃fd:FuncData,(∀(s:Shared) (v:Value),BindsTo s fd ⟨[v],[]⟩ [("_law_script",v)])/\∀base:Heap,K.In base->base.Ns mainGlobals mg->A2y l.prog w K mg base CX0 93 fa fd ["_law_script"] (C9t K):=by
 have e:=hfa.symm.trans (Z0f X G pQ);cases e;obtain ⟨d0,F0,b0,k0⟩:=A2b (ps:=B9k) l0 (by walk_at "le");obtain ⟨d1,F1,b1,k1⟩:=A2b (ps:=B9k) l1 (by walk_at "le");obtain ⟨d2,F2,b2,k2⟩:=A2b (ps:=D8i) l2 (by walk_at "le");obtain ⟨d3,F3,b3,k3⟩:=A2b (ps:=D8q) l3 (by walk_at "le");obtain ⟨d4,F4,b4,k4⟩:=A2b (ps:=D7g) l4 (by walk_at "le");obtain ⟨d5,F5,b5,k5⟩:=A2b (ps:=A8e) l5 (by walk_at "le");obtain ⟨d6,F6,b6,k6⟩:=A2b (ps:=["self","axis"]) l6 (by walk_at "le");obtain ⟨d7,F7,b7,k7⟩:=A2b (ps:=A8e) l7 (by walk_at "le");obtain ⟨d8,F8,b8,k8⟩:=A2b (ps:=D8p) l8 (by walk_at "le");obtain ⟨d9,F9,b9,k9⟩:=A2b (ps:=A8e) l9 (by walk_at "le");obtain ⟨d10,F10,b10,k10⟩:=A2b (ps:=D8m) pS (by walk_at "le");obtain ⟨d11,F11,b11,k11⟩:=A2b (ps:=C3v) pT (by walk_at "le");obtain ⟨d12,F12,b12,k12⟩:=A2b (ps:=A8e) pU (by walk_at "le");obtain ⟨d13,F13,b13,k13⟩:=A2b (ps:=A8e) pV (by walk_at "le");obtain ⟨d14,F14,b14,k14⟩:=A2b (ps:=C3v) pX (by walk_at "le");obtain ⟨d15,F15,b15,k15⟩:=A2b (ps:=A8e) pZ (by walk_at "le");obtain ⟨d16,F16,b16,k16⟩:=A2b (ps:=C3v) qB (by walk_at "le");obtain ⟨d17,F17,b17,k17⟩:=A2b (ps:=A8e) qD (by walk_at "le");obtain ⟨d18,F18,b18,k18⟩:=A2b (ps:=C3v) qF (by walk_at "le");obtain ⟨d19,F19,b19,k19⟩:=A2b (ps:=D8b) qH (by walk_at "le");obtain ⟨d20,F20,b20,k20⟩:=A2b (ps:=A8e) qJ (by walk_at "le");obtain ⟨d21,F21,b21,k21⟩:=A2b (ps:=D8t) qL (by walk_at "le");obtain ⟨d22,F22,b22,k22⟩:=A2b (ps:=D1w) qN (by walk_at "le");obtain ⟨d23,F23,b23,k23⟩:=A2b (ps:=A8e) qP (by walk_at "le");obtain ⟨d24,F24,b24,k24⟩:=A2b (ps:=D3q) qR (by walk_at "le");obtain ⟨d25,F25,b25,k25⟩:=A2b (ps:=B1z) qU (by walk_at "le");obtain ⟨d26,F26,b26,k26⟩:=A2b (ps:=["part"]) qW (by walk_at "le");obtain ⟨d27,F27,b27,k27⟩:=A2b (ps:=["part"]) qY (by walk_at "le");obtain ⟨d28,F28,b28,k28⟩:=A2b (ps:=B1z) rA (by walk_at "le");obtain ⟨d29,F29,b29,k29⟩:=A2b (ps:=["part"]) rC (by walk_at "le");obtain ⟨d30,F30,b30,k30⟩:=A2b (ps:=D1r) rD (by walk_at "le");obtain ⟨d31,F31,b31,k31⟩:=A2b (ps:=D1s) rF (by walk_at "le");obtain ⟨d32,F32,b32,k32⟩:=A2b (ps:=A9a) rI (by walk_at "le");obtain ⟨d33,F33,b33,k33⟩:=A2b (ps:=A9a) rK (by walk_at "le");obtain ⟨d34,F34,b34,k34⟩:=A2b (ps:=A9a) rM (by walk_at "le");obtain ⟨d35,F35,b35,k35⟩:=A2b (ps:=A9a) rO (by walk_at "le");obtain ⟨d36,F36,b36,k36⟩:=A2b (ps:=A9a) rQ (by walk_at "le");obtain ⟨d37,F37,b37,k37⟩:=A2b (ps:=["self","known"]) rR (by walk_at "le");obtain ⟨d38,F38,b38,k38⟩:=A2b (ps:=["self","let"]) rT (by walk_at "le");obtain ⟨d39,F39,b39,k39⟩:=A2b (ps:=B1w) rV (by walk_at "le");obtain ⟨d40,F40,b40,k40⟩:=A2b (ps:=B1w) rX (by walk_at "le");obtain ⟨d41,F41,b41,k41⟩:=A2b (ps:=A8e) rZ (by walk_at "le");obtain ⟨d42,F42,b42,k42⟩:=A2b (ps:=["body","guards"]) sC (by walk_at "le");obtain ⟨d43,F43,b43,k43⟩:=A2b (ps:=B1z) sE (by walk_at "le");obtain ⟨d44,F44,b44,k44⟩:=A2b (ps:=B1z) sG (by walk_at "le");obtain ⟨d45,F45,b45,k45⟩:=A2b (ps:=D1y) sI (by walk_at "le");obtain ⟨d46,F46,b46,k46⟩:=A2b (ps:=C2i) sK (by walk_at "le");obtain ⟨d47,F47,b47,k47⟩:=A2b (ps:=C2i) sM (by walk_at "le");obtain ⟨d48,F48,b48,k48⟩:=A2b (ps:=D1t) sO (by walk_at "le");obtain ⟨d49,F49,b49,k49⟩:=A2b (ps:=["_law_rest"]) sQ (by walk_at "le");obtain ⟨d50,F50,b50,k50⟩:=A2b (ps:=D3n) sS (by walk_at "le");obtain ⟨d51,F51,b51,k51⟩:=A2b (ps:=D1h) sU (by walk_at "le");obtain ⟨d52,F52,b52,k52⟩:=A2b (ps:=D1k) sW (by walk_at "le");obtain ⟨d53,F53,b53,k53⟩:=A2b (ps:=D3l) sY (by walk_at "le");obtain ⟨d54,F54,b54,k54⟩:=A2b (ps:=D1m) tA (by walk_at "le");obtain ⟨d55,F55,b55,k55⟩:=A2b (ps:=D1n) tC (by walk_at "le");obtain ⟨d56,F56,b56,k56⟩:=A2b (ps:=D1u) tE (by walk_at "le");obtain ⟨d57,F57,b57,k57⟩:=A2b (ps:=C2r) tG (by walk_at "le");obtain ⟨d58,F58,b58,k58⟩:=A2b (ps:=C3n) tI (by walk_at "le");obtain ⟨d59,F59,b59,k59⟩:=A2b (ps:=D2s) tK (by walk_at "le");obtain ⟨d60,F60,b60,k60⟩:=A2b (ps:=D3u) tM (by walk_at "le");obtain ⟨d61,F61,b61,k61⟩:=A2b (ps:=C2j) tO (by walk_at "le");obtain ⟨d62,F62,b62,k62⟩:=A2b (ps:=B2n) tQ (by walk_at "le");obtain ⟨d63,F63,b63,k63⟩:=A2b (ps:=B2n) tS (by walk_at "le");obtain ⟨d64,F64,b64,k64⟩:=A2b (ps:=C2w) tU (by walk_at "le");obtain ⟨d65,F65,b65,k65⟩:=A2b (ps:=C3q) tW (by walk_at "le");obtain ⟨d66,F66,b66,k66⟩:=A2b (ps:=C2v) tY (by walk_at "le");obtain ⟨d67,F67,b67,k67⟩:=A2b (ps:=C2w) uA (by walk_at "le");obtain ⟨d68,F68,b68,k68⟩:=A2b (ps:=D2a) uC (by walk_at "le");obtain ⟨d69,F69,b69,k69⟩:=A2b (ps:=D2j) uE (by walk_at "le");obtain ⟨_,_,_,_,_,_,_,_,_,oW,c,k70⟩:=oW;have F70:=D0i (st:=C9o) oW c k70;have b70:=F70.binds (ps:=C2j) (by walk_at "le");exact ⟨_,λs v=> .of_eq rfl,λbase _ _=>D5q (t:=⟨aL,aH,oR,aG,aB,aC,aK,aM,aI,aJ,aF,aA,aN,aS,aE,aD,f0,_,f1,_,f2,_,f3,_,f4,_,f5,_,f6,_,f7,_,f8,_,f9,_,uF,_,oS,_,oT,_,oX,_,oY,_,oZ,_,pA,_,pB,_,pC,_,pD,_,pE,_,pF,_,pG,_,pH,_,pI,_,uG,_,uH,_,uI,_,uJ,_,uK,_,pJ,_,pK,_,uL,_,uM,_,uN,_,uO,_,uP,_,pL,_,pM,_,pN,_,pO,_,pP,_,uQ,_,uR,_,uS,_,uT,_,uU,_,uV,_,uW,_,uX,_,uY,_,uZ,_,vA,_,vB,_,vC,_,vD,_,vE,_,vF,_,vG,_,vH,_,vI,_,vJ,_,vK,_,vL,_,vM,_,vN,_,vO,_,vP,_,vQ,_,vR,_,fa,_⟩) ⟨⟨F0,Z0f X G a0,b0⟩,⟨F1,Z0f X G a1,b1⟩,⟨F2,b2⟩,⟨F3,b3⟩,⟨F4,b4⟩,⟨F5,b5⟩,⟨F6,b6⟩,⟨F7,b7⟩,⟨F8,b8⟩,⟨F9,b9⟩,⟨F10,Z0f X G pR,b10⟩,⟨F11,b11⟩,⟨F12,b12⟩,⟨F13,b13⟩,⟨F14,b14⟩,⟨F15,b15⟩,⟨F16,b16⟩,⟨F17,b17⟩,⟨F18,b18⟩,⟨F19,b19⟩,⟨F20,b20⟩,⟨F21,b21⟩,⟨F22,b22⟩,⟨F23,b23⟩,⟨F24,b24⟩,⟨F25,Z0f X G qT,b25⟩,⟨F26,Z0f X G qV,b26⟩,⟨F27,Z0f X G qX,b27⟩,⟨F28,Z0f X G qZ,b28⟩,⟨F29,Z0f X G rB,b29⟩,⟨F30,b30⟩,⟨F31,b31⟩,⟨F32,Z0f X G rH,b32⟩,⟨F33,Z0f X G rJ,b33⟩,⟨F34,Z0f X G rL,b34⟩,⟨F35,Z0f X G rN,b35⟩,⟨F36,Z0f X G rP,b36⟩,⟨F37,b37⟩,⟨F38,b38⟩,⟨F39,b39⟩,⟨F40,b40⟩,⟨F41,b41⟩,⟨F42,Z0f X G sB,b42⟩,⟨F43,Z0f X G sD,b43⟩,⟨F44,Z0f X G sF,b44⟩,⟨F45,Z0f X G sH,b45⟩,⟨F46,Z0f X G sJ,b46⟩,⟨F47,Z0f X G sL,b47⟩,⟨F48,Z0f X G sN,b48⟩,⟨F49,Z0f X G sP,b49⟩,⟨F50,Z0f X G sR,b50⟩,⟨F51,Z0f X G sT,b51⟩,⟨F52,Z0f X G sV,b52⟩,⟨F53,Z0f X G sX,b53⟩,⟨F54,Z0f X G sZ,b54⟩,⟨F55,Z0f X G tB,b55⟩,⟨F56,Z0f X G tD,b56⟩,⟨F57,Z0f X G tF,b57⟩,⟨F58,Z0f X G tH,b58⟩,⟨F59,Z0f X G tJ,b59⟩,⟨F60,Z0f X G tL,b60⟩,⟨F61,Z0f X G tN,b61⟩,⟨F62,Z0f X G tP,b62⟩,⟨F63,Z0f X G tR,b63⟩,⟨F64,Z0f X G tT,b64⟩,⟨F65,Z0f X G tV,b65⟩,⟨F66,Z0f X G tX,b66⟩,⟨F67,Z0f X G tZ,b67⟩,⟨F68,Z0f X G uB,b68⟩,⟨F69,Z0f X G uD,b69⟩,⟨F70,Z0f X G pQ,b70⟩,Z0f X G lY,Z0f X G kA,Z0f X G jG,Z0f X G kB,Z0f X G lZ,Z0f X G mA,Z0f X G mB,Z0f X G kC,Z0f X G kD,Z0f X G nP,Z0f X G kE,Z0f X G mC,Z0f X G nQ,Z0f X G iS,Z0f X G jH,⟨kF,kG,kH,kI⟩,⟨kJ,kL,i3,kK⟩,cK,bD,bN,bO,cL,dY,⟨kM,iQ,iR,kN⟩,A0p cN aO aP cM,A0p eA aT aU dZ,A0p eC aV aW eB,A0p fY aZ bA fX,A0p cP aQ aR cO,⟨kO,kP,kQ,kR⟩,⟨kS,kU,qM,kT⟩,eD,fZ,eE,cQ,cR,⟨bE,qO,k22⟩,⟨cS,qQ,k23⟩,⟨kV,iQ,iR,kW⟩,A6y aO aP cT,A0p eG aT aU eF,A0p eI aV aW eH,A0p gB aZ bA gA,A0p cV aQ aR cU,⟨nR,nS,nT,nU⟩,⟨nV,nX,rE,nW⟩,hR,hT,hU,⟨nY,iQ,iR,nZ⟩,hV,gC,hW,A0p gE aO aP gD,A0p hZ aT aU hX,A0p iB aV aW iA,A0p iU aZ bA iT,A0p gG aQ aR gF,⟨jI,jJ,jK,jL⟩,⟨jM,jO,rS,jN⟩,bP,bQ,bR,⟨aY,sA,k41⟩,⟨cW,rY,k40⟩,⟨bB,rU,k38⟩,⟨aX,rW,k39⟩,⟨jP,iQ,iR,jQ⟩,A0p bT aO aP bS,A0p cY aT aU cX,A0p dA aV aW cZ,A0p eK aZ bA eJ,A0p bV aQ aR bU,⟨mD,mE,mF,mG⟩,⟨mH,mJ,i2,mI⟩,gH,gI,gJ,gK,⟨mK,iQ,iR,mL⟩,gL,eL,gM,A0p eN aO aP eM,A0p gO aT aU gN,A0p gQ aV aW gP,A0p iD aZ bA iC,A0p eP aQ aR eO,⟨kX,kY,kZ,lA⟩,⟨lB,lD,oU,lC⟩,eQ,dB,⟨bF,qC,k16⟩,⟨eR,qA,k15⟩,⟨dC,oV,k12⟩,⟨lE,iQ,iR,lF⟩,A0p dE aO aP dD,A6y aT aU eS,A0p eU aV aW eT,A0p gS aZ bA gR,A0p dG aQ aR dF,⟨jR,jS,jT,jU⟩,⟨jV,jX,i4,jW⟩,bG,⟨bW,i5,k5⟩,⟨jY,iQ,iR,jZ⟩,A0p bY aO aP bX,A0p dI aT aU dH,A0p dK aV aW dJ,A0p eW aZ bA eV,A0p cA aQ aR bZ,⟨mM,mN,mO,mP⟩,⟨mQ,mS,qS,mR⟩,gT,gU,dL,⟨mT,iQ,iR,mU⟩,A0p eY aO aP eX,A0p gW aT aU gV,A0p gY aV aW gX,A0p iF aZ bA iE,A0p fA aQ aR eZ,⟨lG,lH,lI,lJ⟩,⟨lK,lM,i6,lL⟩,fB,⟨dM,i7,k7⟩,⟨lN,iQ,iR,lO⟩,A0p dO aO aP dN,A0p fD aT aU fC,A0p fF aV aW fE,A0p hA aZ bA gZ,A6y aQ aR dP,⟨mV,mW,mX,mY⟩,⟨mZ,nB,oU,nA⟩,hB,fG,⟨cB,pY,k14⟩,⟨hC,pW,k13⟩,⟨fH,oV,k12⟩,⟨nC,iQ,iR,nD⟩,A0p fJ aO aP fI,A6y aT aU hD,A0p hF aV aW hE,A0p iH aZ bA iG,A0p fL aQ aR fK,⟨iV,iW,iX,iY⟩,⟨iZ,jB,rG,jA⟩,bH,cC,bC,cD,cE,⟨jC,iQ,iR,jD⟩,A0p bJ aO aP bI,A0p cG aT aU cF,A0p cI aV aW cH,A0p dR aZ bA dQ,A0p bL aQ aR bK,⟨nE,nF,nG,nH⟩,⟨nI,nK,i8,nJ⟩,fM,cJ,⟨fN,i9,k9⟩,⟨nL,iQ,iR,nM⟩,A0p fP aO aP fO,A0p hH aT aU hG,A6y aV aW hI,A0p iJ aZ bA iI,A0p fR aQ aR fQ,⟨oA,oB,oC,oD⟩,⟨oE,oG,qI,oF⟩,iK,iL,⟨hJ,qK,k20⟩,⟨oH,iQ,iR,oI⟩,A0p hL aO aP hK,A0p iN aT aU iM,A0p iP aV aW iO,A6y aZ bA jE,A0p hN aQ aR hM,⟨lP,lQ,lR,lS⟩,⟨lT,lV,oU,lU⟩,fS,dS,⟨bM,qG,k18⟩,⟨fT,qE,k17⟩,⟨dT,oV,k12⟩,⟨lW,iQ,iR,lX⟩,A0p dV aO aP dU,A6y aT aU fU,A0p fW aV aW fV,A0p hP aZ bA hO,A0p dX aQ aR dW,Z1c X G hQ,Z1c X G oJ,Z1c X G nN,Z1c X G oK,Z1c X G oM,Z1c X G jF,Z1c X G oN,Z1c X G nO,Z1c X G oO,Z1c X G oP,Z1c X G oQ⟩⟩
theorem walk {q:Program} {loose:List Str} {YP:World->Heap->Prop} {d:DefRec} {K:Params->Frag} (hn:l.most=some 63) (hdf:d.params.defaults=[])
  (hY:∀(w:World) (h:Heap),YP w h->(K w.params).In h)
  (F:∀(w:World) (mg:Str->Option Value) (fa:Addr) (h:Heap),(K w.params).In h->h.Ns mainGlobals mg->mg d.name=some (.ref fa)->
   ∃fd:FuncData,(∀(s:Shared) (u:Value),BindsTo s fd ⟨[u],[]⟩ [("_law_script",u)])/\∀base:Heap,(K w.params).In base->base.Ns mainGlobals mg->A2y l.prog w (K w.params) mg base CX0 93 fa fd ["_law_script"] (C9t (K w.params))) :
  PySem.W.WalkO q loose XP YP l.row.toRowW d [] (λf vs=>PySem.call f vs) :=
 L2.D3d (n:=63) (k:=93) (x:="_law_script") (CX:=λ_=>CX0) (sp:=λw=>C9t (K w.params)) hn (by decide) hdf ⟨rfl,by decide,by decide,rfl⟩ hY F (λ_ _ a ns hl _ hS=>⟨a,ns,rfl,hS,hl,λ_=>rfl⟩) λ_ _ _ _ _ z=>z
end My
local macro_rules | `(tactic| walk_at "kf") => `(tactic| (refine' My.D6s ?l ?c ?k; (case l => k_is); (case c => k_is); (case k => k_is)))
open PySem PySem.W PyProof.Rows
set_option maxRecDepth 100000 in
set_option maxHeartbeats 0 in
theorem PySem.Challenge.cw_arrayloom_k32_sums_are_lifted_holds : PySem.Challenge.rw_arrayloom_k32_sums_are_lifted.Holds := by
 w_on;o_law;k_head;(case hw=>w_witness2)
 k_fill
 refine My.walk (l:=PySem.Challenge.rw_arrayloom_k32_sums_are_lifted) rfl rfl (λw h Y=>PySem.W.kIn_of Y) ?F
 case F =>
  intro w mg fa h KX G hmg;refine' My.D4y KX G hmg ?lY ?kA ?oL ?jG ?kB ?lZ ?mA ?mB ?kC ?kD ?nP ?kE ?mC ?nQ ?iS ?jH ?a0 ?l0 ?a1 ?l1 ?a2 ?l2 ?i2 ?a3 ?l3 ?i3 ?a4 ?l4 ?i4 ?a5 ?l5 ?i5 ?a6 ?l6 ?i6 ?a7 ?l7 ?i7 ?a8 ?l8 ?i8 ?a9 ?l9 ?i9 ?pR ?pS ?vS ?pT ?oU ?vT ?pU ?oV ?vU ?pV ?pW ?vV ?pX ?pY ?vW ?pZ ?qA ?vX ?qB ?qC ?vY ?qD ?qE ?vZ ?qF ?qG ?wA ?qH ?qI ?wB ?qJ ?qK ?wC ?qL ?qM ?wD ?qN ?qO ?wE ?qP ?qQ ?wF ?qR ?qS ?qT ?qU ?qV ?qW ?qX ?qY ?qZ ?rA ?rB ?rC ?wG ?rD ?rE ?wH ?rF ?rG ?rH ?rI ?rJ ?rK ?rL ?rM ?rN ?rO ?rP ?rQ ?wI ?rR ?rS ?wJ ?rT ?rU ?wK ?rV ?rW ?wL ?rX ?rY ?wM ?rZ ?sA ?sB ?sC ?sD ?sE ?sF ?sG ?sH ?sI ?sJ ?sK ?sL ?sM ?sN ?sO ?sP ?sQ ?sR ?sS ?sT ?sU ?sV ?sW ?sX ?sY ?sZ ?tA ?tB ?tC ?tD ?tE ?tF ?tG ?tH ?tI ?tJ ?tK ?tL ?tM ?tN ?tO ?tP ?tQ ?tR ?tS ?tT ?tU ?tV ?tW ?tX ?tY ?tZ ?uA ?uB ?uC ?uD ?uE ?pQ ?oW ?kF ?kG ?kH ?kI ?kJ ?kK ?kL ?cK ?bD ?bN ?bO ?cL ?dY ?kM ?iQ ?iR ?kN ?aO ?aP ?cM ?cN ?aT ?aU ?dZ ?eA ?aV ?aW ?eB ?eC ?aZ ?bA ?fX ?fY ?aQ ?aR ?cO ?cP ?kO ?kP ?kQ ?kR ?kS ?kT ?kU ?eD ?fZ ?eE ?cQ ?cR ?bE ?cS ?kV ?kW ?cT ?eF ?eG ?eH ?eI ?gA ?gB ?cU ?cV ?nR ?nS ?nT ?nU ?nV ?nW ?nX ?hR ?hT ?hU ?nY ?nZ ?hV ?gC ?hW ?gD ?gE ?hX ?hZ ?iA ?iB ?iT ?iU ?gF ?gG ?jI ?jJ ?jK ?jL ?jM ?jN ?jO ?bP ?bQ ?bR ?aY ?cW ?bB ?aX ?jP ?jQ ?bS ?bT ?cX ?cY ?cZ ?dA ?eJ ?eK ?bU ?bV ?mD ?mE ?mF ?mG ?mH ?mI ?mJ ?gH ?gI ?gJ ?gK ?mK ?mL ?gL ?eL ?gM ?eM ?eN ?gN ?gO ?gP ?gQ ?iC ?iD ?eO ?eP ?kX ?kY ?kZ ?lA ?lB ?lC ?lD ?eQ ?dB ?bF ?eR ?dC ?lE ?lF ?dD ?dE ?eS ?eT ?eU ?gR ?gS ?dF ?dG ?jR ?jS ?jT ?jU ?jV ?jW ?jX ?bG ?bW ?jY ?jZ ?bX ?bY ?dH ?dI ?dJ ?dK ?eV ?eW ?bZ ?cA ?mM ?mN ?mO ?mP ?mQ ?mR ?mS ?gT ?gU ?dL ?mT ?mU ?eX ?eY ?gV ?gW ?gX ?gY ?iE ?iF ?eZ ?fA ?lG ?lH ?lI ?lJ ?lK ?lL ?lM ?fB ?dM ?lN ?lO ?dN ?dO ?fC ?fD ?fE ?fF ?gZ ?hA ?dP ?mV ?mW ?mX ?mY ?mZ ?nA ?nB ?hB ?fG ?cB ?hC ?fH ?nC ?nD ?fI ?fJ ?hD ?hE ?hF ?iG ?iH ?fK ?fL ?iV ?iW ?iX ?iY ?iZ ?jA ?jB ?bH ?cC ?bC ?cD ?cE ?jC ?jD ?bI ?bJ ?cF ?cG ?cH ?cI ?dQ ?dR ?bK ?bL ?nE ?nF ?nG ?nH ?nI ?nJ ?nK ?fM ?cJ ?fN ?nL ?nM ?fO ?fP ?hG ?hH ?hI ?iI ?iJ ?fQ ?fR ?oA ?oB ?oC ?oD ?oE ?oF ?oG ?iK ?iL ?hJ ?oH ?oI ?hK ?hL ?iM ?iN ?iO ?iP ?jE ?hM ?hN ?lP ?lQ ?lR ?lS ?lT ?lU ?lV ?fS ?dS ?bM ?fT ?dT ?lW ?lX ?dU ?dV ?fU ?fV ?fW ?hO ?hP ?dW ?dX ?hQ ?oJ ?nN ?oK ?oM ?jF ?oN ?nO ?oO ?oP ?oQ
  (case lY | kA | oL | jG | kB | lZ | mA | mB | kC | kD | nP=>k_is)
  (case kE | mC | nQ | iS | jH=>k_is)
  (case a0=>k_is);(case l0=>walk_at "kf")
  (case a1=>k_is);(case l1=>walk_at "kf")
  (case a2=>k_is);(case l2=>walk_at "kf")
  (case i2=>k_is)
  (case a3=>k_is);(case l3=>walk_at "kf")
  (case i3=>k_is)
  (case a4=>k_is);(case l4=>walk_at "kf")
  (case i4=>k_is)
  (case a5=>k_is);(case l5=>walk_at "kf")
  (case i5=>k_is)
  (case a6=>k_is);(case l6=>walk_at "kf")
  (case i6=>k_is)
  (case a7=>k_is);(case l7=>walk_at "kf")
  (case i7=>k_is)
  (case a8=>k_is);(case l8=>walk_at "kf")
  (case i8=>k_is)
  (case a9=>k_is);(case l9=>walk_at "kf")
  (case i9=>k_is)
  (case pR=>k_is);(case pS=>walk_at "kf")
  (case vS=>k_is);(case pT=>walk_at "kf")
  (case oU=>k_is)
  (case vT=>k_is);(case pU=>walk_at "kf")
  (case oV=>k_is)
  (case vU=>k_is);(case pV=>walk_at "kf")
  (case pW=>k_is)
  (case vV=>k_is);(case pX=>walk_at "kf")
  (case pY=>k_is)
  (case vW=>k_is);(case pZ=>walk_at "kf")
  (case qA=>k_is)
  (case vX=>k_is);(case qB=>walk_at "kf")
  (case qC=>k_is)
  (case vY=>k_is);(case qD=>walk_at "kf")
  (case qE=>k_is)
  (case vZ=>k_is);(case qF=>walk_at "kf")
  (case qG=>k_is)
  (case wA=>k_is);(case qH=>walk_at "kf")
  (case qI=>k_is)
  (case wB=>k_is);(case qJ=>walk_at "kf")
  (case qK=>k_is)
  (case wC=>k_is);(case qL=>walk_at "kf")
  (case qM=>k_is)
  (case wD=>k_is);(case qN=>walk_at "kf")
  (case qO=>k_is)
  (case wE=>k_is);(case qP=>walk_at "kf")
  (case qQ=>k_is)
  (case wF=>k_is);(case qR=>walk_at "kf")
  (case qS=>k_is)
  (case qT=>k_is);(case qU=>walk_at "kf")
  (case qV=>k_is);(case qW=>walk_at "kf")
  (case qX=>k_is);(case qY=>walk_at "kf")
  (case qZ=>k_is);(case rA=>walk_at "kf")
  (case rB=>k_is);(case rC=>walk_at "kf")
  (case wG=>k_is);(case rD=>walk_at "kf")
  (case rE=>k_is)
  (case wH=>k_is);(case rF=>walk_at "kf")
  (case rG=>k_is)
  (case rH=>k_is);(case rI=>walk_at "kf")
  (case rJ=>k_is);(case rK=>walk_at "kf")
  (case rL=>k_is);(case rM=>walk_at "kf")
  (case rN=>k_is);(case rO=>walk_at "kf")
  (case rP=>k_is);(case rQ=>walk_at "kf")
  (case wI=>k_is);(case rR=>walk_at "kf")
  (case rS=>k_is)
  (case wJ=>k_is);(case rT=>walk_at "kf")
  (case rU=>k_is)
  (case wK=>k_is);(case rV=>walk_at "kf")
  (case rW=>k_is)
  (case wL=>k_is);(case rX=>walk_at "kf")
  (case rY=>k_is)
  (case wM=>k_is);(case rZ=>walk_at "kf")
  (case sA=>k_is)
  (case sB=>k_is);(case sC=>walk_at "kf")
  (case sD=>k_is);(case sE=>walk_at "kf")
  (case sF=>k_is);(case sG=>walk_at "kf")
  (case sH=>k_is);(case sI=>walk_at "kf")
  (case sJ=>k_is);(case sK=>walk_at "kf")
  (case sL=>k_is);(case sM=>walk_at "kf")
  (case sN=>k_is);(case sO=>walk_at "kf")
  (case sP=>k_is);(case sQ=>walk_at "kf")
  (case sR=>k_is);(case sS=>walk_at "kf")
  (case sT=>k_is);(case sU=>walk_at "kf")
  (case sV=>k_is);(case sW=>walk_at "kf")
  (case sX=>k_is);(case sY=>walk_at "kf")
  (case sZ=>k_is);(case tA=>walk_at "kf")
  (case tB=>k_is);(case tC=>walk_at "kf")
  (case tD=>k_is);(case tE=>walk_at "kf")
  (case tF=>k_is);(case tG=>walk_at "kf")
  (case tH=>k_is);(case tI=>walk_at "kf")
  (case tJ=>k_is);(case tK=>walk_at "kf")
  (case tL=>k_is);(case tM=>walk_at "kf")
  (case tN=>k_is);(case tO=>walk_at "kf")
  (case tP=>k_is);(case tQ=>walk_at "kf")
  (case tR=>k_is);(case tS=>walk_at "kf")
  (case tT=>k_is);(case tU=>walk_at "kf")
  (case tV=>k_is);(case tW=>walk_at "kf")
  (case tX=>k_is);(case tY=>walk_at "kf")
  (case tZ=>k_is);(case uA=>walk_at "kf")
  (case uB=>k_is);(case uC=>walk_at "kf")
  (case uD=>k_is);(case uE=>walk_at "kf")
  (case pQ=>k_is);(case oW=>walk_at "kf")
  (case kF | kG | kH | kI | kJ | kK | kL | cK | bD | bN | bO=>k_is)
  (case cL | dY | kM | iQ | iR | kN | aO | aP | cM=>k_is)
  (case cN=>first | rfl | decide)
  (case aT | aU | dZ=>k_is)
  (case eA=>first | rfl | decide)
  (case aV | aW | eB=>k_is)
  (case eC=>first | rfl | decide)
  (case aZ | bA | fX=>k_is)
  (case fY=>first | rfl | decide)
  (case aQ | aR | cO=>k_is)
  (case cP=>first | rfl | decide)
  (case kO | kP | kQ | kR | kS | kT | kU | eD | fZ | eE | cQ=>k_is)
  (case cR | bE | cS | kV | kW | cT | eF=>k_is)
  (case eG=>first | rfl | decide)
  (case eH=>k_is)
  (case eI=>first | rfl | decide)
  (case gA=>k_is)
  (case gB=>first | rfl | decide)
  (case cU=>k_is)
  (case cV=>first | rfl | decide)
  (case nR | nS | nT | nU | nV | nW | nX | hR | hT | hU | nY=>k_is)
  (case nZ | hV | gC | hW | gD=>k_is)
  (case gE=>first | rfl | decide)
  (case hX=>k_is)
  (case hZ=>first | rfl | decide)
  (case iA=>k_is)
  (case iB=>first | rfl | decide)
  (case iT=>k_is)
  (case iU=>first | rfl | decide)
  (case gF=>k_is)
  (case gG=>first | rfl | decide)
  (case jI | jJ | jK | jL | jM | jN | jO | bP | bQ | bR | aY=>k_is)
  (case cW | bB | aX | jP | jQ | bS=>k_is)
  (case bT=>first | rfl | decide)
  (case cX=>k_is)
  (case cY=>first | rfl | decide)
  (case cZ=>k_is)
  (case dA=>first | rfl | decide)
  (case eJ=>k_is)
  (case eK=>first | rfl | decide)
  (case bU=>k_is)
  (case bV=>first | rfl | decide)
  (case mD | mE | mF | mG | mH | mI | mJ | gH | gI | gJ | gK=>k_is)
  (case mK | mL | gL | eL | gM | eM=>k_is)
  (case eN=>first | rfl | decide)
  (case gN=>k_is)
  (case gO=>first | rfl | decide)
  (case gP=>k_is)
  (case gQ=>first | rfl | decide)
  (case iC=>k_is)
  (case iD=>first | rfl | decide)
  (case eO=>k_is)
  (case eP=>first | rfl | decide)
  (case kX | kY | kZ | lA | lB | lC | lD | eQ | dB | bF | eR=>k_is)
  (case dC | lE | lF | dD=>k_is)
  (case dE=>first | rfl | decide)
  (case eS | eT=>k_is)
  (case eU=>first | rfl | decide)
  (case gR=>k_is)
  (case gS=>first | rfl | decide)
  (case dF=>k_is)
  (case dG=>first | rfl | decide)
  (case jR | jS | jT | jU | jV | jW | jX | bG | bW | jY | jZ=>k_is)
  (case bX=>k_is)
  (case bY=>first | rfl | decide)
  (case dH=>k_is)
  (case dI=>first | rfl | decide)
  (case dJ=>k_is)
  (case dK=>first | rfl | decide)
  (case eV=>k_is)
  (case eW=>first | rfl | decide)
  (case bZ=>k_is)
  (case cA=>first | rfl | decide)
  (case mM | mN | mO | mP | mQ | mR | mS | gT | gU | dL | mT=>k_is)
  (case mU | eX=>k_is)
  (case eY=>first | rfl | decide)
  (case gV=>k_is)
  (case gW=>first | rfl | decide)
  (case gX=>k_is)
  (case gY=>first | rfl | decide)
  (case iE=>k_is)
  (case iF=>first | rfl | decide)
  (case eZ=>k_is)
  (case fA=>first | rfl | decide)
  (case lG | lH | lI | lJ | lK | lL | lM | fB | dM | lN | lO=>k_is)
  (case dN=>k_is)
  (case dO=>first | rfl | decide)
  (case fC=>k_is)
  (case fD=>first | rfl | decide)
  (case fE=>k_is)
  (case fF=>first | rfl | decide)
  (case gZ=>k_is)
  (case hA=>first | rfl | decide)
  (case dP | mV | mW | mX | mY | mZ | nA | nB | hB | fG | cB=>k_is)
  (case hC | fH | nC | nD | fI=>k_is)
  (case fJ=>first | rfl | decide)
  (case hD | hE=>k_is)
  (case hF=>first | rfl | decide)
  (case iG=>k_is)
  (case iH=>first | rfl | decide)
  (case fK=>k_is)
  (case fL=>first | rfl | decide)
  (case iV | iW | iX | iY | iZ | jA | jB | bH | cC | bC | cD=>k_is)
  (case cE | jC | jD | bI=>k_is)
  (case bJ=>first | rfl | decide)
  (case cF=>k_is)
  (case cG=>first | rfl | decide)
  (case cH=>k_is)
  (case cI=>first | rfl | decide)
  (case dQ=>k_is)
  (case dR=>first | rfl | decide)
  (case bK=>k_is)
  (case bL=>first | rfl | decide)
  (case nE | nF | nG | nH | nI | nJ | nK | fM | cJ | fN | nL=>k_is)
  (case nM | fO=>k_is)
  (case fP=>first | rfl | decide)
  (case hG=>k_is)
  (case hH=>first | rfl | decide)
  (case hI | iI=>k_is)
  (case iJ=>first | rfl | decide)
  (case fQ=>k_is)
  (case fR=>first | rfl | decide)
  (case oA | oB | oC | oD | oE | oF | oG | iK | iL | hJ | oH=>k_is)
  (case oI | hK=>k_is)
  (case hL=>first | rfl | decide)
  (case iM=>k_is)
  (case iN=>first | rfl | decide)
  (case iO=>k_is)
  (case iP=>first | rfl | decide)
  (case jE | hM=>k_is)
  (case hN=>first | rfl | decide)
  (case lP | lQ | lR | lS | lT | lU | lV | fS | dS | bM | fT=>k_is)
  (case dT | lW | lX | dU=>k_is)
  (case dV=>first | rfl | decide)
  (case fU | fV=>k_is)
  (case fW=>first | rfl | decide)
  (case hO=>k_is)
  (case hP=>first | rfl | decide)
  (case dW=>k_is)
  (case dX=>first | rfl | decide)
  (case hQ | oJ | nN | oK | oM | jF | oN | nO | oO | oP | oQ=>k_is)
