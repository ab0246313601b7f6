import PyProof.Rows.All
import Wide.All
import OpenK.AllK
import Wide.FinOn
import Lean
import PyProof.EqAt
import PyProof.EqKinds
import PyProof.TupleCall
import KE.KDictLaws
import KE.KDictList
import KE.KDictOf
import KE.KEqDict
import KE.KIntText
import KE.KTabLook
import KE.KTryMore
import KE.KUnpack
import PyProof.AttrMissHeap
import PyProof.AutoListH
import PyProof.CollectWalk
import PyProof.CompUse
import PyProof.ConsumeWalk
import PyProof.Conv_int_bool
import PyProof.DictItems
import PyProof.DictValues
import PyProof.DictWalks
import PyProof.Draws
import PyProof.EnumFor
import PyProof.EnumMake
import PyProof.EnumStmt
import PyProof.ExcClass3
import PyProof.ExcInit
import PyProof.FString4
import PyProof.FString5
import PyProof.FactsAll.list_3
import PyProof.FactsAll.set
import PyProof.FactsAll.subtypes_5
import PyProof.FactsAll.zip
import PyProof.NeKinds
import PyProof.P3Eq
import PyProof.RangeIter
import PyProof.ReprHeads
import PyProof.ReprLen
import PyProof.Rows.SeqMore2
import PyProof.Rows.SetFrom
import PyProof.Rows.SortKeyStr
import PyProof.Rows.SortRev
import PyProof.Rows.StrInSeq3
import PyProof.Rows.StrNews
import PyProof.Rows.StrNews2
import PyProof.Rows.TupIter
import PyProof.SetKind
import PyProof.SetRoads
import PyProof.StrLawsRepr
import PyProof.StrWalks
import PyProof.SumAny
import PyProof.TupleKey
import PyProof.WalkInts
import PyProof.Walks
import PySem.Challenge.RW_arrayloom_k23_each_cell_its_term
set_option compiler.extract_closed false
section
open PySem PySem.Spec PyProof.Rows PySem.Calls
abbrev Z00:=@wpAny_bind
abbrev Z01:=@Heap.get?_push_of_some
abbrev Z02:=@List.mem_append_right
abbrev Z03:=@List.getElem?_eq_some_iff
abbrev Z04:=@wpAny_pure
abbrev Z05:=@List.mem_append_left
abbrev Z06:=@List.length_append
abbrev Z07:=@List.mem_append
abbrev Z08:=@List.length_map
abbrev Z09:=@Nat.le_refl
abbrev Z0a:=@Heap.lt_size
abbrev Z0b:=@List.getElem?_eq_getElem
abbrev Z0c:=@Heap.get?_push_size
abbrev Z0d:=@PyProof.Rows.boot_isinstance
abbrev Z0e:=@List.mem_cons
abbrev Z0f:=@PySem.W.mg_of
abbrev Z0g:=@List.size_toArray
abbrev Z0h:=@Nat.ne_of_lt
abbrev Z0i:=@Option.map_eq_some_iff
abbrev Z0j:=@List.length_singleton
abbrev Z0k:=@PySem.F.plainAttrs_list
abbrev Z0l:=@List.nodup_append
abbrev Z0m:=@PyProof.Rows.boot_tuple
abbrev Z0n:=@PySem.F.slot_list_append
abbrev Z0o:=@PySem.F.type_list_append
abbrev Z0p:=@List.map_cons
abbrev Z0q:=@Nat.lt_of_lt_of_le
abbrev Z0r:=@PySem.boot_len
abbrev Z0s:=@List.map_append
abbrev Z0t:=@if_neg
abbrev Z0u:=@List.append_nil
abbrev Z0v:=@Bool.false_ne_true
abbrev Z0w:=@List.mem_singleton
abbrev Z0x:=@List.length_take
abbrev Z0y:=@List.length_cons
abbrev Z0z:=@List.append_assoc
abbrev Z10:=@wpAny_mono
abbrev Z11:=@wpAny_field
abbrev Z12:=@if_pos
abbrev Z13:=@List.mem_of_getElem?
abbrev Z14:=@List.take_add_one
abbrev Z15:=@List.nodup_cons
abbrev Z16:=@wpAny_newObj_type
abbrev Z18:=@List.take_length
abbrev Z19:=@List.length_drop
abbrev Z1a:=@Option.some.inj
abbrev Z1b:=@wpAny_callSpecial?_slot
abbrev Z1c:=@PySem.W.mg_none_of
abbrev Z1d:=@Heap.get?_update_other
abbrev Z1e:=@Nat.zero_le
abbrev Z1f:=@List.mem_cons_of_mem
abbrev Z1g:=@wpAny_call_entry
abbrev Z1h:=@wpAny_setField_rec
abbrev Z1i:=@List.not_mem_nil
abbrev Z1j:=@decide_eq_false
abbrev Z1l:=@List.getElem?_append_right
abbrev Z1n:=@Nat.le_trans
abbrev Z1o:=@PyProof.Rows.boot_list
abbrev Z1p:=@Int.emod_lt_of_pos
abbrev Z1q:=@Nat.ne_of_gt
abbrev Z1r:=@Heap.get?_update_self
abbrev Z1s:=@Heap.size_push
abbrev Z1t:=@wpAny_setField
abbrev Z1v:=@Int.emod_nonneg
abbrev Z1w:=@wpAny_holding
abbrev Z1x:=@Bool.and_eq_true
abbrev Z1y:=@wpAny_standAt
abbrev Z1z:=@List.getElem?_map
abbrev Z20:=@decide_eq_true
abbrev Z21:=@wpAny_seqItems
abbrev Z22:=@beq_eq_false_iff_ne
abbrev Z23:=@List.getElem?_set_self
abbrev Z26:=@List.getElem?_append_left
abbrev Z27:=@List.mem_cons_self
abbrev Z28:=@List.lookup_cons
abbrev Z29:=@Int.mul_le_mul_of_nonneg_left
abbrev Z2a:=@List.getElem?_set_ne
abbrev Z2b:=@wpAny_execs_nil
abbrev Z2c:=@List.mem_map
abbrev Z2e:=@List.take_append_drop
abbrev Z2f:=@Option.toList_some
abbrev Z2g:=@List.length_nil
abbrev Z2h:=@List.find?_cons
abbrev Z2l:=@List.take_of_length_le
abbrev Z2m:=@List.getElem?_zip_eq_some
abbrev Z2n:=@List.length_eq_zero_iff
abbrev Z2o:=@List.take_sublist
abbrev Z2p:=@List.mem_of_mem_take
abbrev Z2q:=@PyProof.Rows.boot_dict
end
noncomputable section
open PySem.W (Frag findIn nsIn mroIn kitOne keepIn typeIn hideAll isFn plainGet isClsIn hasDictIn exmOne plainOver makesIn clsIn fnOf emptyDict instObj excIn kitAny takesIn specialIn subIn codeIn)
set_option Elab.async false
set_option bootstrap.genMatcherCode false
set_option linter.all false
set_option maxRecDepth 100000
set_option maxHeartbeats 4000000
section
variable {G:Prop} {T0 T1 T2 T3 T4 T5 T6 T7 T8 T9 T10 T11:Sort _} {A0 A1 A2 A3 A4 A5:Prop} {B0 B1 B2 B3:T0->Prop} {C0 C1 C2 C3 C4 C5:T0->T1->Prop} {D0 D1 D2 D3 D4 D5:T0->T1->T2->Prop} {E0 E1 E2 E3 E4 E5:T0->T1->T2->T3->Prop} {F0 F1 F2 F3 F4 F5 F6 F7 F8:T0->T1->T2->T3->T4->Prop} {G0 G1 G2 G3 G4 G5 G6:T0->T1->T2->T3->T4->T5->Prop} {H0 H1 H2 H3 H4 H5:T0->T1->T2->T3->T4->T5->T6->Prop} {J0:T0->T1->T2->T3->T4->T5->T6->T7->T8->Prop} {M0:T0->T1->T2->T3->T4->T5->T6->T7->T8->T9->T10->T11->Prop}
theorem i00:A0->A1->A2->A0/\A1/\A2:=λm n i=>⟨m,n,i⟩
theorem i01:A0->∀x,B0 x->A0/\∃x,B0 x:=λm x n=>⟨m,x,n⟩
theorem i02:∀x,B0 x->B1 x->∃x,B0 x/\B1 x:=λx m n=>⟨x,m,n⟩
theorem i03:∀x y,C0 x y->∃x y,C0 x y:=λx y m=>⟨x,y,m⟩
theorem i04:A0->A1->A2->A3->A0/\A1/\A2/\A3:=λm n i j=>⟨m,n,i,j⟩
theorem i05:A0->∀x,B0 x->B1 x->A0/\∃x,B0 x/\B1 x:=λm x n i=>⟨m,x,n,i⟩
theorem i06:∀x,B0 x->B1 x->B2 x->∃x,B0 x/\B1 x/\B2 x:=λx m n i=>⟨x,m,n,i⟩
theorem i07:∀x y,C0 x y->C1 x y->∃x y,C0 x y/\C1 x y:=λx y m n=>⟨x,y,m,n⟩
theorem i08:A0->A1->A2->A3->A4->A0/\A1/\A2/\A3/\A4:=λm n i j k=>⟨m,n,i,j,k⟩
theorem i09:A0->A1->∀x,B0 x->B1 x->A0/\A1/\∃x,B0 x/\B1 x:=λm n x i j=>⟨m,n,x,i,j⟩
theorem i0a:A0->∀x,B0 x->B1 x->B2 x->A0/\∃x,B0 x/\B1 x/\B2 x:=λm x n i j=>⟨m,x,n,i,j⟩
theorem i0b:A0->∀x y,C0 x y->C1 x y->A0/\∃x y,C0 x y/\C1 x y:=λm x y n i=>⟨m,x,y,n,i⟩
theorem i0c:∀x,B0 x->B1 x->B2 x->B3 x->∃x,B0 x/\B1 x/\B2 x/\B3 x:=λx m n i j=>⟨x,m,n,i,j⟩
theorem i0d:∀x,B0 x->B1 x->∀y,C0 x y->∃x,B0 x/\B1 x/\∃y,C0 x y:=λx m n y i=>⟨x,m,n,y,i⟩
theorem i0e:∀x,B0 x->∀y,C0 x y->C1 x y->∃x,B0 x/\∃y,C0 x y/\C1 x y:=λx m y n i=>⟨x,m,y,n,i⟩
theorem i0f:∀x y,C0 x y->C1 x y->C2 x y->∃x y,C0 x y/\C1 x y/\C2 x y:=λx y m n i=>⟨x,y,m,n,i⟩
theorem i0g:∀x y z,D0 x y z->D1 x y z->∃x y z,D0 x y z/\D1 x y z:=λx y z m n=>⟨x,y,z,m,n⟩
theorem i0h:∀x y z u,E0 x y z u->∃x y z u,E0 x y z u:=λx y z u m=>⟨x,y,z,u,m⟩
theorem i0i:A0->A1->A2->A3->A4->A5->A0/\A1/\A2/\A3/\A4/\A5:=λm n i j k l=>⟨m,n,i,j,k,l⟩
theorem i0j:A0->∀x y,C0 x y->C1 x y->C2 x y->A0/\∃x y,C0 x y/\C1 x y/\C2 x y:=λm x y n i j=>⟨m,x,y,n,i,j⟩
theorem i0k:∀x,B0 x->B1 x->∀y,C0 x y->C1 x y->∃x,B0 x/\B1 x/\∃y,C0 x y/\C1 x y:=λx m n y i j=>⟨x,m,n,y,i,j⟩
theorem i0l:∀x,B0 x->∀y,C0 x y->C1 x y->C2 x y->∃x,B0 x/\∃y,C0 x y/\C1 x y/\C2 x y:=λx m y n i j=>⟨x,m,y,n,i,j⟩
theorem i0m:∀x y,C0 x y->C1 x y->C2 x y->C3 x y->∃x y,C0 x y/\C1 x y/\C2 x y/\C3 x y:=λx y m n i j=>⟨x,y,m,n,i,j⟩
theorem i0n:∀x y z,D0 x y z->D1 x y z->D2 x y z->∃x y z,D0 x y z/\D1 x y z/\D2 x y z:=λx y z m n i=>⟨x,y,z,m,n,i⟩
theorem i0o:∀x,B0 x->∀y z,D0 x y z->D1 x y z->D2 x y z->∃x,B0 x/\∃y z,D0 x y z/\D1 x y z/\D2 x y z:=λx m y z n i j=>⟨x,m,y,z,n,i,j⟩
theorem i0p:∀x y,C0 x y->C1 x y->C2 x y->C3 x y->C4 x y->∃x y,C0 x y/\C1 x y/\C2 x y/\C3 x y/\C4 x y:=λx y m n i j k=>⟨x,y,m,n,i,j,k⟩
theorem i0q:∀x y z,D0 x y z->D1 x y z->D2 x y z->D3 x y z->∃x y z,D0 x y z/\D1 x y z/\D2 x y z/\D3 x y z:=λx y z m n i j=>⟨x,y,z,m,n,i,j⟩
theorem i0r:∀x y,C0 x y->C1 x y->C2 x y->C3 x y->C4 x y->C5 x y->∃x y,C0 x y/\C1 x y/\C2 x y/\C3 x y/\C4 x y/\C5 x y:=λx y m n i j k l=>⟨x,y,m,n,i,j,k,l⟩
theorem i0s:∀x y z,D0 x y z->D1 x y z->D2 x y z->D3 x y z->D4 x y z->∃x y z,D0 x y z/\D1 x y z/\D2 x y z/\D3 x y z/\D4 x y z:=λx y z m n i j k=>⟨x,y,z,m,n,i,j,k⟩
theorem i0t:∀x y z u v w p,H0 x y z u v w p->∃x y z u v w p,H0 x y z u v w p:=λx y z u v w p m=>⟨x,y,z,u,v,w,p,m⟩
theorem i0u:∀x,B0 x->B1 x->∀y,C0 x y->C1 x y->C2 x y->∀z,D0 x y z->∃x,B0 x/\B1 x/\∃y,C0 x y/\C1 x y/\C2 x y/\∃z,D0 x y z:=λx m n y i j k z l=>⟨x,m,n,y,i,j,k,z,l⟩
theorem i0v:∀x,B0 x->∀y,C0 x y->∀z u,E0 x y z u->E1 x y z u->E2 x y z u->∃x,B0 x/\∃y,C0 x y/\∃z u,E0 x y z u/\E1 x y z u/\E2 x y z u:=λx m y n z u i j k=>⟨x,m,y,n,z,u,i,j,k⟩
theorem i0w:∀x y z,D0 x y z->D1 x y z->D2 x y z->D3 x y z->D4 x y z->D5 x y z->∃x y z,D0 x y z/\D1 x y z/\D2 x y z/\D3 x y z/\D4 x y z/\D5 x y z:=λx y z m n i j k l=>⟨x,y,z,m,n,i,j,k,l⟩
theorem i0x:∀x y z u,E0 x y z u->E1 x y z u->E2 x y z u->E3 x y z u->E4 x y z u->∃x y z u,E0 x y z u/\E1 x y z u/\E2 x y z u/\E3 x y z u/\E4 x y z u:=λx y z u m n i j k=>⟨x,y,z,u,m,n,i,j,k⟩
theorem i0y:∀x,B0 x->∀y z,D0 x y z->D1 x y z->D2 x y z->∀u,E0 x y z u->E1 x y z u->∃x,B0 x/\∃y z,D0 x y z/\D1 x y z/\D2 x y z/\∃u,E0 x y z u/\E1 x y z u:=λx m y z n i j u k l=>⟨x,m,y,z,n,i,j,u,k,l⟩
theorem i0z:∀x y z u,E0 x y z u->E1 x y z u->E2 x y z u->E3 x y z u->E4 x y z u->E5 x y z u->∃x y z u,E0 x y z u/\E1 x y z u/\E2 x y z u/\E3 x y z u/\E4 x y z u/\E5 x y z u:=λx y z u m n i j k l=>⟨x,y,z,u,m,n,i,j,k,l⟩
theorem i10:∀x,B0 x->∀y,C0 x y->∀z,D0 x y z->∀u v,F0 x y z u v->F1 x y z u v->F2 x y z u v->∃x,B0 x/\∃y,C0 x y/\∃z,D0 x y z/\∃u v,F0 x y z u v/\F1 x y z u v/\F2 x y z u v:=λx m y n z i u v j k l=>⟨x,m,y,n,z,i,u,v,j,k,l⟩
theorem i11:∀x,B0 x->∀y z u v,F0 x y z u v->F1 x y z u v->F2 x y z u v->F3 x y z u v->F4 x y z u v->∃x,B0 x/\∃y z u v,F0 x y z u v/\F1 x y z u v/\F2 x y z u v/\F3 x y z u v/\F4 x y z u v:=λx m y z u v n i j k l=>⟨x,m,y,z,u,v,n,i,j,k,l⟩
theorem i12:∀x y z u v,F0 x y z u v->F1 x y z u v->F2 x y z u v->F3 x y z u v->F4 x y z u v->F5 x y z u v->∃x y z u v,F0 x y z u v/\F1 x y z u v/\F2 x y z u v/\F3 x y z u v/\F4 x y z u v/\F5 x y z u v:=λx y z u v m n i j k l=>⟨x,y,z,u,v,m,n,i,j,k,l⟩
theorem i13:∀x,B0 x->∀y,C0 x y->∀z u v w,G0 x y z u v w->G1 x y z u v w->G2 x y z u v w->G3 x y z u v w->∃x,B0 x/\∃y,C0 x y/\∃z u v w,G0 x y z u v w/\G1 x y z u v w/\G2 x y z u v w/\G3 x y z u v w:=λx m y n z u v w i j k l=>⟨x,m,y,n,z,u,v,w,i,j,k,l⟩
theorem i14:∀x,B0 x->∀y z u v,F0 x y z u v->F1 x y z u v->F2 x y z u v->∀w,G0 x y z u v w->G1 x y z u v w->∃x,B0 x/\∃y z u v,F0 x y z u v/\F1 x y z u v/\F2 x y z u v/\∃w,G0 x y z u v w/\G1 x y z u v w:=λx m y z u v n i j w k l=>⟨x,m,y,z,u,v,n,i,j,w,k,l⟩
theorem i15:∀x,B0 x->∀y,C0 x y->∀z,D0 x y z->∀u v w p q r,J0 x y z u v w p q r->∃x,B0 x/\∃y,C0 x y/\∃z,D0 x y z/\∃u v w p q r,J0 x y z u v w p q r:=λx m y n z i u v w p q r j=>⟨x,m,y,n,z,i,u,v,w,p,q,r,j⟩
theorem i16:∀x,B0 x->∀y z,D0 x y z->D1 x y z->D2 x y z->∀u v,F0 x y z u v->F1 x y z u v->F2 x y z u v->F3 x y z u v->∃x,B0 x/\∃y z,D0 x y z/\D1 x y z/\D2 x y z/\∃u v,F0 x y z u v/\F1 x y z u v/\F2 x y z u v/\F3 x y z u v:=λx m y z n i j u v k l o m'=>⟨x,m,y,z,n,i,j,u,v,k,l,o,m'⟩
theorem i17:∀x,B0 x->∀y z u v w,G0 x y z u v w->G1 x y z u v w->G2 x y z u v w->G3 x y z u v w->G4 x y z u v w->G5 x y z u v w->∃x,B0 x/\∃y z u v w,G0 x y z u v w/\G1 x y z u v w/\G2 x y z u v w/\G3 x y z u v w/\G4 x y z u v w/\G5 x y z u v w:=λx m y z u v w n i j k l o=>⟨x,m,y,z,u,v,w,n,i,j,k,l,o⟩
theorem i18:∀x y,C0 x y->C1 x y->C2 x y->∀z u,E0 x y z u->∀v w,G0 x y z u v w->G1 x y z u v w->G2 x y z u v w->∃x y,C0 x y/\C1 x y/\C2 x y/\∃z u,E0 x y z u/\∃v w,G0 x y z u v w/\G1 x y z u v w/\G2 x y z u v w:=λx y m n i z u j v w k l o=>⟨x,y,m,n,i,z,u,j,v,w,k,l,o⟩
theorem i19:∀x y z u v w,G0 x y z u v w->G1 x y z u v w->G2 x y z u v w->G3 x y z u v w->G4 x y z u v w->G5 x y z u v w->G6 x y z u v w->∃x y z u v w,G0 x y z u v w/\G1 x y z u v w/\G2 x y z u v w/\G3 x y z u v w/\G4 x y z u v w/\G5 x y z u v w/\G6 x y z u v w:=λx y z u v w m n i j k l o=>⟨x,y,z,u,v,w,m,n,i,j,k,l,o⟩
theorem i1a:∀x,B0 x->∀y,C0 x y->∀z u v w,G0 x y z u v w->G1 x y z u v w->G2 x y z u v w->G3 x y z u v w->G4 x y z u v w->G5 x y z u v w->∃x,B0 x/\∃y,C0 x y/\∃z u v w,G0 x y z u v w/\G1 x y z u v w/\G2 x y z u v w/\G3 x y z u v w/\G4 x y z u v w/\G5 x y z u v w:=λx m y n z u v w i j k l o m'=>⟨x,m,y,n,z,u,v,w,i,j,k,l,o,m'⟩
theorem i1b:∀x,B0 x->∀y z u v,F0 x y z u v->F1 x y z u v->F2 x y z u v->F3 x y z u v->F4 x y z u v->∀w,G0 x y z u v w->G1 x y z u v w->∃x,B0 x/\∃y z u v,F0 x y z u v/\F1 x y z u v/\F2 x y z u v/\F3 x y z u v/\F4 x y z u v/\∃w,G0 x y z u v w/\G1 x y z u v w:=λx m y z u v n i j k l w o m'=>⟨x,m,y,z,u,v,n,i,j,k,l,w,o,m'⟩
theorem i1c:∀x y z u v,F0 x y z u v->F1 x y z u v->F2 x y z u v->F3 x y z u v->F4 x y z u v->F5 x y z u v->F6 x y z u v->F7 x y z u v->F8 x y z u v->∃x y z u v,F0 x y z u v/\F1 x y z u v/\F2 x y z u v/\F3 x y z u v/\F4 x y z u v/\F5 x y z u v/\F6 x y z u v/\F7 x y z u v/\F8 x y z u v:=λx y z u v m n i j k l o m' n'=>⟨x,y,z,u,v,m,n,i,j,k,l,o,m',n'⟩
theorem i1d:∀x,B0 x->∀y,C0 x y->∀z u v w p,H0 x y z u v w p->H1 x y z u v w p->H2 x y z u v w p->H3 x y z u v w p->H4 x y z u v w p->H5 x y z u v w p->∃x,B0 x/\∃y,C0 x y/\∃z u v w p,H0 x y z u v w p/\H1 x y z u v w p/\H2 x y z u v w p/\H3 x y z u v w p/\H4 x y z u v w p/\H5 x y z u v w p:=λx m y n z u v w p i j k l o m'=>⟨x,m,y,n,z,u,v,w,p,i,j,k,l,o,m'⟩
theorem e00 (h:∃x,B0 x/\B1 x/\B2 x) (f:∀x,B0 x->B1 x->B2 x->G):G:=by
 obtain ⟨x,m,n,i⟩:=h;exact f x m n i
theorem e01 (h:∃x y z,D0 x y z) (f:∀x y z,D0 x y z->G):G:=by
 obtain ⟨x,y,z,m⟩:=h;exact f x y z m
theorem e02 (h:A0/\A1/\A2/\A3/\A4) (f:A0->A1->A2->A3->A4->G):G:=by
 obtain ⟨m,n,i,j,k⟩:=h;exact f m n i j k
theorem e05 (h:∃x y,C0 x y/\C1 x y/\C2 x y) (f:∀x y,C0 x y->C1 x y->C2 x y->G):G:=by
 obtain ⟨x,y,m,n,i⟩:=h;exact f x y m n i
theorem e06 (h:∃x y,C0 x y/\C1 x y/\C2 x y/\C3 x y) (f:∀x y,C0 x y->C1 x y->C2 x y->C3 x y->G):G:=by
 obtain ⟨x,y,m,n,i,j⟩:=h;exact f x y m n i j
theorem e07 (h:∃x y z u v,F0 x y z u v) (f:∀x y z u v,F0 x y z u v->G):G:=by
 obtain ⟨x,y,z,u,v,m⟩:=h;exact f x y z u v m
theorem e08 (h:∃x y z,D0 x y z/\D1 x y z/\D2 x y z/\D3 x y z) (f:∀x y z,D0 x y z->D1 x y z->D2 x y z->D3 x y z->G):G:=by
 obtain ⟨x,y,z,m,n,i,j⟩:=h;exact f x y z m n i j
theorem e09 (h:A0/\∃x,B0 x/\∃y,C0 x y/\C1 x y/\∃z,D0 x y z) (f:A0->∀x,B0 x->∀y,C0 x y->C1 x y->∀z,D0 x y z->G):G:=by
 obtain ⟨m,x,n,y,i,j,z,k⟩:=h;exact f m x n y i j z k
theorem e0a (h:∃x y,C0 x y/\C1 x y/\∃z u v,F0 x y z u v) (f:∀x y,C0 x y->C1 x y->∀z u v,F0 x y z u v->G):G:=by
 obtain ⟨x,y,m,n,z,u,v,i⟩:=h;exact f x y m n z u v i
theorem e0b (h:A0/\A1/\∃x,B0 x/\∃y z u,E0 x y z u/\E1 x y z u) (f:A0->A1->∀x,B0 x->∀y z u,E0 x y z u->E1 x y z u->G):G:=by
 obtain ⟨m,n,x,i,y,z,u,j,k⟩:=h;exact f m n x i y z u j k
theorem e0c (h:∃x y z u,E0 x y z u/\E1 x y z u/\E2 x y z u/\E3 x y z u/\E4 x y z u) (f:∀x y z u,E0 x y z u->E1 x y z u->E2 x y z u->E3 x y z u->E4 x y z u->G):G:=by
 obtain ⟨x,y,z,u,m,n,i,j,k⟩:=h;exact f x y z u m n i j k
theorem e0d (h:∃x y z u v,F0 x y z u v/\F1 x y z u v/\F2 x y z u v/\F3 x y z u v/\F4 x y z u v) (f:∀x y z u v,F0 x y z u v->F1 x y z u v->F2 x y z u v->F3 x y z u v->F4 x y z u v->G):G:=by
 obtain ⟨x,y,z,u,v,m,n,i,j,k⟩:=h;exact f x y z u v m n i j k
theorem e0e (h:∃x y z u v w p q r,J0 x y z u v w p q r) (f:∀x y z u v w p q r,J0 x y z u v w p q r->G):G:=by
 obtain ⟨x,y,z,u,v,w,p,q,r,m⟩:=h;exact f x y z u v w p q r m
theorem e0f (h:∃x y z u v w,G0 x y z u v w/\G1 x y z u v w/\G2 x y z u v w/\G3 x y z u v w/\G4 x y z u v w/\G5 x y z u v w) (f:∀x y z u v w,G0 x y z u v w->G1 x y z u v w->G2 x y z u v w->G3 x y z u v w->G4 x y z u v w->G5 x y z u v w->G):G:=by
 obtain ⟨x,y,z,u,v,w,m,n,i,j,k,l⟩:=h;exact f x y z u v w m n i j k l
theorem e0g (h:∃x y z u v w p,H0 x y z u v w p/\H1 x y z u v w p/\H2 x y z u v w p/\H3 x y z u v w p/\H4 x y z u v w p/\H5 x y z u v w p) (f:∀x y z u v w p,H0 x y z u v w p->H1 x y z u v w p->H2 x y z u v w p->H3 x y z u v w p->H4 x y z u v w p->H5 x y z u v w p->G):G:=by
 obtain ⟨x,y,z,u,v,w,p,m,n,i,j,k,l⟩:=h;exact f x y z u v w p m n i j k l
theorem e0h (h:∃x y z u v w p q r s t a,M0 x y z u v w p q r s t a) (f:∀x y z u v w p q r s t a,M0 x y z u v w p q r s t a->G):G:=by
 obtain ⟨x,y,z,u,v,w,p,q,r,s,t,a,m⟩:=h;exact f x y z u v w p q r s t a m
end
namespace L2
open PySem PySem.Spec PyProof.Rows
abbrev Key:=Sum Int Str
def B9c:Key->Value->Bool
 | .inl k,v=>Value.isInt k v
 | .inr x,v=>Value.isStrOf x v
def keyH (w:World):Key->Int
 | .inl k=>hashInt k
 | .inr x=>hashStr w x
theorem A2o:∀{k:Key} {v:Value},B9c k v=true->(∃i t,k=Sum.inl i/\v=Value.int i t)\/(∃x t,k=Sum.inr x/\v=Value.str x t)
 | .inl i,v,h=>by
  obtain ⟨t,e⟩:=Value.isInt_shape (k:=i) (v:=v) h;exact .inl (i07 i t rfl e)
 | .inr x,v,h=>by
  obtain ⟨t,e⟩:=Value.isStrOf_shape (x:=x) (v:=v) h;exact .inr (i07 x t rfl e)
theorem C4z (i:Int) (t:Tok):B9c (.inl i) (.int i t)=true:=by simp [B9c,Value.isInt]
theorem C6u (x:Str) (t:Tok):B9c (.inr x) (.str x t)=true:=by simp [B9c,Value.isStrOf]
theorem D8x (a b:Int):decide ((Sum.inl a:Key)=Sum.inl b)=(a == b):=by
 by_cases e:a=b
 ·subst e;simp
 ·have h:¬(Sum.inl a:Key)=Sum.inl b:=λq=>e (Sum.inl.inj q);rw [Z1j h];exact (Z22.mpr e).symm
theorem D6u (a b:Str):decide ((Sum.inr a:Key)=Sum.inr b)=decide (a=b):=by
 by_cases e:a=b
 ·subst e;simp
 ·have h:¬(Sum.inr a:Key)=Sum.inr b:=λq=>e (Sum.inr.inj q);rw [Z1j h,Z1j e]
theorem D8p (a:Int) (b:Str):decide ((Sum.inl a:Key)=Sum.inr b)=false:=Z1j (λq=>nomatch q)
theorem D7p (a:Str) (b:Int):decide ((Sum.inr a:Key)=Sum.inl b)=false:=Z1j (λq=>nomatch q)
def A0x (prog:Program) (w:World):PySem.KeyKind prog w Key where
 is:=B9c
 hash:=keyH w
 inj:=λv a b ha hb=>by
  rcases A2o ha with ⟨i,t,rfl,rfl⟩ | ⟨x,t,rfl,rfl⟩
  ·rcases A2o hb with ⟨j,u,rfl,e⟩ | ⟨y,u,rfl,e⟩
   ·injection e with e1 _;rw [e1]
   ·exact nomatch e
  ·rcases A2o hb with ⟨j,u,rfl,e⟩ | ⟨y,u,rfl,e⟩
   ·exact nomatch e
   ·injection e with e1 _;rw [e1]
 byValue:=λk v h=>by
  rcases A2o h with ⟨i,t,rfl,rfl⟩ | ⟨x,t,rfl,rfl⟩ <;> rfl
 pyHash:=λhv h=>by
  rcases A2o hv with ⟨i,t,rfl,rfl⟩ | ⟨x,t,rfl,rfl⟩
  ·exact wpAny_pyHash_int h
  ·exact wpAny_pyHash_str h
 eqBool:=λhu hv h=>by
  rcases A2o hu with ⟨i,t,rfl,rfl⟩ | ⟨x,t,rfl,rfl⟩
  ·rcases A2o hv with ⟨j,u,rfl,rfl⟩ | ⟨y,u,rfl,rfl⟩
   ·rw [D8x] at h;exact wpAny_eqBool_int h
   ·rw [D8p] at h;exact SeqAt.EqAt.int_str i t y u _ _ _ _ h
  ·rcases A2o hv with ⟨j,u,rfl,rfl⟩ | ⟨y,u,rfl,rfl⟩
   ·rw [D7p] at h;exact SeqAt.EqAt.str_int x t j u _ _ _ _ h
   ·rw [D6u] at h;exact wpAny_eqBool_str h
 «strs»:=λk x t v h=>by
  rcases A2o h with ⟨i,u,rfl,e⟩ | ⟨y,u,rfl,e⟩
  ·exact nomatch e
  ·injection e with e1 _;subst e1;cases v <;> rfl
theorem B9t (prog:Program) (w:World) (i:Int) (t:Tok):(A0x prog w).is (.inl i) (.int i t)=true:=C4z i t
theorem C0p (prog:Program) (w:World) (x:Str) (t:Tok):(A0x prog w).is (.inr x) (.str x t)=true:=C6u x t
inductive V where
 | non | bl (b:Bool) | int (i:Int) | str (x:Str) | byt (b:Array UInt8) | flt (b:UInt64) | ref (a:Addr) | ty (n:String)
 deriving DecidableEq
def A2z:V->Value->Prop
 | .non,u=>u=Value.none
 | .bl b,u=>u=Value.bool b
 | .int i,u=>∃t,u=Value.int i t
 | .str x,u=>∃t,u=Value.str x t
 | .byt b,u=>∃t,u=Value.bytes b t
 | .flt b,u=>∃t,u=Value.float b t
 | .ref a,u=>u=Value.ref a
 | .ty n,u=>u=Value.type n
abbrev A2p:List V->List Value->Prop:=Paired A2z
theorem A2p.length {xs:List V} {us:List Value} (r:A2p xs us):xs.length=us.length:=Paired.length r
theorem A2p.get:∀{xs:List V} {us:List Value} {i:Nat} {x:V},A2p xs us->xs[i]? =some x->∃u,us[i]? =some u/\A2z x u
 | _,_,_,_,.nil,e=>by simp at e
 | _,_,0,_,.cons r _,e=>by simp at e;subst e;exact i02 _ rfl r
 | _,_,i+1,x,.cons _ t,e=>by
  obtain ⟨u,h1,h2⟩:=A2p.get (i:=i) (x:=x) t (by simpa using e);exact i02 u (by simpa using h1) h2
theorem A2p.set {x:V} {u:Value} (r:A2z x u):∀{xs:List V} {us:List Value} (i:Nat),A2p xs us->A2p (xs.set i x) (us.set i u)
 | _,_,_,.nil=> .nil
 | _,_,0,.cons _ t=> .cons r t
 | _,_,i+1,.cons q t=> .cons q (A2p.set r i t)
theorem A2p.append:∀{xs ys:List V} {us ws:List Value},A2p xs us->A2p ys ws->A2p (xs++ys) (us++ws)
 | _,_,_,_,.nil,s=>s
 | _,_,_,_,.cons r t,s=> .cons r (A2p.append t s)
theorem A2p.take:∀{xs:List V} {us:List Value} (n:Nat),A2p xs us->A2p (xs.take n) (us.take n)
 | _,_,0,_=> .nil
 | _,_,_+1,.nil=> .nil
 | _,_,n+1,.cons r t=> .cons r (A2p.take n t)
theorem A2p.drop:∀{xs:List V} {us:List Value} (n:Nat),A2p xs us->A2p (xs.drop n) (us.drop n)
 | _,_,0,r=>r
 | _,_,_+1,.nil=> .nil
 | _,_,n+1,.cons _ t=>A2p.drop n t
def B8t:Option V->Option Value->Prop
 | some v,some u=>A2z v u
 | none,none=>True
 | _,_=>False
def KV {κ:Type}:List (κ×V)->List (κ×Value)->Prop:=Paired λ(p:κ×V) (q:κ×Value)=>p.1=q.1/\A2z p.2 q.2
def kV:Key->V
 | .inl i=> .int i
 | .inr x=> .str x
inductive HO where
 | lst (xs:List V)
 | tup (xs:List V)
 | dK (kvs:List (Key×V)) | dT (kvs:List (List Key×V))
 | set (S:Int->Bool) (n:Nat)
 | ins (C dx:Addr) (fs:List (Str×V))
 | own (x:Addr)
 | xd (fs:List (Str×V))
 | met (f x:Addr)
 | rng (lo hi:Int)
 | frz (o:Obj) (u:HO)
 | tbl (ps:Array Value)
 | ext (φ:Heap->Prop)
abbrev Hp:=Addr->Option HO
def upd (H:Hp) (a:Addr) (o:HO):Hp:=λb=>if b=a then some o else H b
theorem A0b {H:Hp} {a:Addr} {o:HO}:upd H a o a=some o:=by unfold upd;rw [Z12 rfl]
theorem A0i {H:Hp} {a b:Addr} {o:HO} (h:b≠a):upd H a o b=H b:=by unfold upd;rw [Z0t h]
theorem A8o {H:Hp} {a:Addr} {o u:HO}:upd (upd H a o) a u=upd H a u:=by
 funext b;unfold upd;split <;> rfl
theorem A1p {H:Hp} {a b:Addr} {o u:HO} (h:H a=some o) (h':H b=some u) (d:o≠u):a≠b:=by
 intro e;subst e;rw [h] at h';exact d (Z1a h')
theorem A0h {H:Hp} {a b:Addr} {o:HO} (h:H a=some o) (h':H b=none):a≠b:=by
 intro e;subst e;rw [h] at h';cases h'
section
variable (P:Program) (w:World)
def A1z (H:Hp) (h:Heap) (a:Addr):HO->Prop
 | .lst xs=>xs.length<=sizeLine/\∃(its:List Value) (n:Nat),A2p xs its/\h.get? a=some { cls:= .type "list",data:= .seq its.toArray n }
 | .tup xs=>xs.length<=sizeLine/\∃its:List Value,A2p xs its/\IsTup h a its.toArray
 | .dK kvs=>kvs.length<=sizeLine/\(a == sysModules)=false/\∃vs,KV kvs vs/\h.DictOf (A0x P w) a vs
 | .dT kvs=>kvs.length<=sizeLine/\(a == sysModules)=false/\∃xs:List (List Key×Addr×Value),
   Paired (λ(p:List Key×V) (q:List Key×Addr×Value)=>p.1=q.1/\H q.2.1=some (.tup (p.1.map kV))/\A2z p.2 q.2.2) kvs xs/\
   ∃o es ep,h.get? a=some o/\o.ExactDict/\o.data= .dict es ep/\es.toList=xs.map (entryOfKey (tupleKind (A0x P w)))/\(xs.map (·.1)).Nodup
 | .set S n=>h.SetOf (intKind P w) a S n
 | .ins C dx fs=>H dx=some (.own a)/\fs.length<=1000/\dx≠a/\h.get? a=some (instObj C dx)/\
   ∃mA,h.Ns1 dx mA/\(∀f,B8t (fs.lookup f) (mA f))/\PySem.Within mA (fs.map (·.1))
 | .own _=>∃o,h.get? a=some o
 | .xd fs=>∃mA,h.Ns1 a mA/\∀f,B8t (fs.lookup f) (mA f)
 | .rng lo hi=>∃t u v,h.get? a=some { cls:= .type "range",data:= .fields #[.int lo t,.int hi u,.int 1 v] }
 | .frz o u=>h.get? a=some o/\A1z H h a u
 | .tbl ps=>h.get? a=some { cls:= .none,data:= .fields ps }
 | .met f x=>h.get? a=some (PySem.W.methodObj (.ref f) (.ref x))
 | .ext φ=>φ h/\(∃o,h.get? a=some o)/\∀h1 h2:Heap,φ h1->(∀o,h1.get? a=some o->h2.get? a=some o)->φ h2
def HOk (H:Hp) (h:Heap):Prop:=∀a o,H a=some o->A1z P w H h a o
end
section
variable {P:Program} {w:World} {H H':Hp} {h h':Heap} {a:Addr} {o:HO}
theorem A1z.lt (x:A1z P w H h a o):a<h.objs.size:=by
 cases o with
 | lst xs=>obtain ⟨_,_,_,_,e⟩:=x;exact Z0a e
 | tup xs=>obtain ⟨_,_,_,p⟩:=x;exact p.lt
 | dK kvs=>(refine e0b x λ_ _ _ _ o _ _ e _=>?_;clear x);exact Z0a e
 | dT kvs=>(refine e0b x λ_ _ _ _ o _ _ e _=>?_;clear x);exact Z0a e
 | set S n=>obtain ⟨o,_,_,_,e,_⟩:=x;exact Z0a e
 | ins C dx fs=>obtain ⟨_,_,_,e,_⟩:=x;exact Z0a e
 | own y=>obtain ⟨_,e⟩:=x;exact Z0a e
 | xd fs=>obtain ⟨_,⟨_,_,_,e,_⟩,_⟩:=x;exact Z0a e
 | rng lo hi=>obtain ⟨_,_,_,e⟩:=x;exact Z0a e
 | frz ob u=>obtain ⟨e,_⟩:=x;exact Z0a e
 | tbl ps=>exact Z0a (show h.get? a=some _ from x)
 | met f y=>exact Z0a (show h.get? a=some _ from x)
 | ext φ=>obtain ⟨_,⟨_,e⟩,_⟩:=x;exact Z0a e
theorem Paired.mapP {α β:Type} {F G:α->β->Prop}:∀{l₁:List α} {l₂:List β},Paired F l₁ l₂->(∀a b,F a b->G a b)->Paired G l₁ l₂
 | _,_,.nil,_=> .nil
 | _,_,.cons r t,f=> .cons (f _ _ r) (Paired.mapP t f)
theorem A1z.stay (x:A1z P w H h a o) (k:∀b u,(b=a\/H b=some (.own a))->h.get? b=some u->h'.get? b=some u)
  (ho:∀b,H b=some (.own a)->H' b=some (.own a)) (ht:∀b xs,H b=some (.tup xs)->H' b=some (.tup xs)):A1z P w H' h' a o:=by
 induction o with
 | lst xs=>obtain ⟨z,its,n,r,e⟩:=x;exact i0b z its n r (k _ _ (.inl rfl) e)
 | tup xs=>obtain ⟨z,its,r,ob,e,c⟩:=x;exact ⟨z,(i0e its r ob (k _ _ (.inl rfl) e) c)⟩
 | dK kvs=>(refine e0b x λz y vs r ob es ep e c=>?_;clear x);exact i09 z y vs r (i0g ob es ep (k _ _ (.inl rfl) e) c)
 | dT kvs =>
  refine e0b x λz y xs r ob es ep e c=>?_;clear x;exact i09 z y xs (Paired.mapP r λp q z=>(i00 z.1 (ht _ _ z.2.1) z.2.2)) (i0g ob es ep (k _ _ (.inl rfl) e) c)
 | set S n=>obtain ⟨ob,es,ep,t,e,c⟩:=x;exact ⟨ob,(i0g es ep t (k _ _ (.inl rfl) e) c)⟩
 | ins C dx fs =>
  refine e02 x ?_;clear x;rintro d z ne e ⟨mA,⟨od,es,ep,e2,c⟩,r⟩;exact i00 (ho _ d) z (i09 ne (k _ _ (.inl rfl) e) mA (i0g od es ep (k _ _ (.inr d) e2) c) r)
 | own y=>obtain ⟨ob,e⟩:=x;exact ⟨ob,k _ _ (.inl rfl) e⟩
 | xd fs=>obtain ⟨mA,⟨od,es,ep,e,c⟩,r⟩:=x;exact i02 mA (i0g od es ep (k _ _ (.inl rfl) e) c) r
 | rng lo hi=>obtain ⟨t,u,v,e⟩:=x;exact ⟨t,(i03 u v (k _ _ (.inl rfl) e))⟩
 | frz ob u ih=>obtain ⟨e,q⟩:=x;exact ⟨k _ _ (.inl rfl) e,ih q⟩
 | tbl ps =>
  have e:h.get? a=some { cls:= .none,data:= .fields ps }:=x;show h'.get? a=some { cls:= .none,data:= .fields ps };exact k a _ (.inl rfl) e
 | met f y =>
  have e:h.get? a=some (PySem.W.methodObj (.ref f) (.ref y)):=x;show h'.get? a=some (PySem.W.methodObj (.ref f) (.ref y));exact k a _ (.inl rfl) e
 | ext φ=>obtain ⟨p,⟨o,e⟩,st⟩:=x;exact i00 (st _ _ p λo q=>k _ _ (.inl rfl) q) ⟨o,k _ _ (.inl rfl) e⟩ st
theorem HOk.lt (x:HOk P w H h) (e:H a=some o):a<h.objs.size:=(x a o e).lt
theorem HOk.fresh (x:HOk P w H h) (e:h.objs.size<=a):H a=none:=by
 cases q:H a with
 | none=>rfl
 | some u=>exact absurd (Z0q (x.lt q) e) (Nat.lt_irrefl _)
theorem HOk.kept (x:HOk P w H h) (k:∀b u,h.get? b=some u->h'.get? b=some u):HOk P w H h':=λa o e =>
 (x a o e).stay (λb u _ q=>k b u q) (λ_ q=>q) λ_ _ q=>q
theorem HOk.laid (x:HOk P w H h) (k:∀b u,h.get? b=some u->h'.get? b=some u) (hp:h.objs.size<=a) (new:A1z P w (upd H a o) h' a o):HOk P w (upd H a o) h':=λb u e=>by
 have hn:=x.fresh hp;by_cases hb:b=a
 ·subst hb;rw [A0b] at e;cases e;exact new
 ·rw [A0i hb] at e;exact (x b u e).stay (λc v _ q=>k c v q) (λc q=>by rw [A0i (A0h q hn)];exact q) λc xs q=>by rw [A0i (A0h q hn)];exact q
end
def Rd (H:Hp) (a:Addr) (u:HO):Prop:=H a=some u\/∃o,H a=some (.frz o u)
theorem Rd.of {H:Hp} {a:Addr} {u:HO} (h:H a=some u):Rd H a u:= .inl h
theorem Rd.ok {P:Program} {w:World} {H:Hp} {h:Heap} {a:Addr} {u:HO} (r:Rd H a u) (x:HOk P w H h):A1z P w H h a u:=by
 rcases r with r | ⟨o,r⟩
 ·exact x a u r
 ·obtain ⟨_,q⟩:=x a _ r;exact q
def Mut:Option HO->Prop
 | some (.lst _)=>True
 | some (.dK _)=>True
 | some (.dT _)=>True
 | some (.set _ _)=>True
 | some (.ins _ _ _)=>True
 | some (.ext _)=>True
 | _=>False
section
variable {P:Program} {w:World} {H:Hp} {h h':Heap} {x e:Addr} {o':HO}
theorem HOk.write (ok:HOk P w H h) (mu:Mut (H x)) (he:e=x\/H e=some (.own x)) (k:∀b u,b≠e->h.get? b=some u->h'.get? b=some u) (heo:∃u,h'.get? e=some u)
  (new:A1z P w (upd H x o') h' x o'):HOk P w (upd H x o') h':=λb u q=>by
 have nown:∀c y,H c=some (.own y)->c≠x:=λc y r z=>by subst z;rw [r] at mu;exact mu
 have ntup:∀c xs,H c=some (.tup xs)->c≠x:=λc xs r z=>by subst z;rw [r] at mu;exact mu
 by_cases hb:b=x
 ·subst hb;rw [A0b] at q;cases q;exact new
 ·rw [A0i hb] at q;by_cases hbe:b=e
  ·have q':H b=some (.own x):=by
    rcases he with z | z
    ·exact absurd (hbe.trans z) hb
    ·rw [hbe];exact z
   rw [q] at q';cases q';obtain ⟨v,hv⟩:=heo;exact ⟨v,by rw [hbe];exact hv⟩
  ·refine (ok b u q).stay (λc v hc r=>k c v ?_ r) (λc r=>by rw [A0i (nown c b r)];exact r) λc xs r=>by rw [A0i (ntup c xs r)];exact r
   rcases hc with rfl | hc
   ·exact hbe
   ·rintro rfl;rcases he with z | z
    ·exact nown c b hc z
    ·rw [hc] at z;cases z;exact hb rfl
end
structure Un (fs ex:List Addr) (H H':Hp) (h h':Heap):Prop where
 keep:∀b o,h.get? b=some o->H b=none->b∉fs->b∉ex->h'.get? b=some o
 slot:∀b o,h.get? b=some o->H b=none->b∈fs->b∉ex->∃sl,h'.get? b=some { o with slots:=sl }
 free:∀b o,h.get? b=some o->H b=none->b∉ex->H' b=none
 there:∀b o,h.get? b=some o->b∉ex->∃o',h'.get? b=some o'
 tups:∀b xs,H b=some (.tup xs)->H' b=some (.tup xs)
 frzs:∀b o u,H b=some (.frz o u)->H' b=some (.frz o u)
 tbls:∀b ps,H b=some (.tbl ps)->∃more,H' b=some (.tbl (ps++more))
section
variable {fs fs' ex ex':List Addr} {H H1 H2:Hp} {h h1 h2 h':Heap} {a x e:Addr} {o:HO}
theorem Un.any (u:Un fs ex H H1 h h1) {b:Addr} {ob:Obj} (q:h.get? b=some ob) (n:H b=none) (hx:b∉ex):∃sl,h1.get? b=some { ob with slots:=sl }:=by
 by_cases hb:b∈fs
 ·exact u.slot b ob q n hb hx
 ·exact ⟨ob.slots,u.keep b ob q n hb hx⟩
theorem Un.kept (k:∀b u,h.get? b=some u->h'.get? b=some u):Un fs ex H H h h' :=
 ⟨λb ob q _ _ _=>k b ob q,λb ob q _ _ _=>⟨ob.slots,k b ob q⟩,λ_ _ _ n _=>n,λb ob q _=>⟨ob,k b ob q⟩,λ_ _ q=>q,λ_ _ _ q=>q,λ_ ps q=>⟨#[],by rw [q];simp⟩⟩
theorem Un.refl:Un fs ex H H h h:=Un.kept λ_ _ q=>q
theorem Un.laid (k:∀b u,h.get? b=some u->h'.get? b=some u) (hp:h.objs.size<=a) (hn:H a=none):Un fs ex H (upd H a o) h h' where
 keep:=λb u q _ _ _=>k b u q
 slot:=λb u q _ _ _=>⟨u.slots,k b u q⟩
 free:=λb u q n _=>by rw [A0i (Z0h (Z0q (Z0a q) hp))];exact n
 there:=λb u q _=>⟨u,k b u q⟩
 tups:=λb xs q=>by rw [A0i (A0h q hn)];exact q
 frzs:=λb u xs q=>by rw [A0i (A0h q hn)];exact q
 tbls:=λb ps q=>⟨#[],by rw [A0i (A0h q hn),q];simp⟩
theorem Un.write (mu:Mut (H x)) (he:e=x\/H e=some (.own x)) (k:∀b u,b≠e->h.get? b=some u->h'.get? b=some u) (heo:∃u,h'.get? e=some u):Un fs ex H (upd H x o) h h':=by
 have hx:∀b,H b=none->b≠x:=λb n z=>by subst z;rw [n] at mu;exact mu
 have hb:∀b,H b=none->b≠e:=λb n z=>by
  subst z;rcases he with r | r
  ·exact hx b n r
  ·rw [n] at r;cases r
 have hm:∀b u,H b=some u->¬Mut (some u)->b≠x:=λb u q nm z=>by subst z;rw [q] at mu;exact nm mu
 refine ⟨λb u q n _ _=>k b u (hb b n) q,λb u q n _ _=>⟨u.slots,k b u (hb b n) q⟩,λb u q n _=>by rw [A0i (hx b n)];exact n,λb u q _=> ?_,
  λb xs q=>by rw [A0i (hm b _ q λz=>z)];exact q,λb u xs q=>by rw [A0i (hm b _ q λz=>z)];exact q,λb ps q=>⟨#[],by rw [A0i (hm b _ q λz=>z),q];simp⟩⟩
 by_cases hbe:b=e
 ·subst hbe;exact heo
 ·exact ⟨u,k b u hbe q⟩
end
def trk (h:Heap) (H:Hp):List Addr:=(List.range h.objs.size).filter λa=>(H a).isSome
def D0u (h:Heap) (H:Hp):Heap:=hideAll h (trk h H)
theorem C5e (h:Heap) (H:Hp):(D0u h H).objs.size=h.objs.size:=PySem.W.hideAll_size _ _
theorem C9k {h:Heap} {H:Hp} {b:Addr} {o:Obj} (e:h.get? b=some o) (n:H b=none):(D0u h H).get? b=some o :=
 PySem.W.hideAll_get _ e λhm=>by
  have q:(H b).isSome=true:=(List.mem_filter.mp hm).2;rw [n] at q;simp at q
theorem D3e {h:Heap} {H:Hp} {b:Addr} {o:Obj} (e:(D0u h H).get? b=some o):h.get? b=some o/\H b=none:=by
 have e':h.get? b=some o:=PySem.W.of_hideAll (trk h H) e;refine ⟨e',?_⟩
 cases q:H b with
 | none=>rfl
 | some x =>
  have hm:b∈trk h H:=List.mem_filter.mpr ⟨List.mem_range.mpr (Z0a e'),by simp [q]⟩;have z:(D0u h H).get? b=none:=PySem.W.hideAll_none (trk h H) hm;rw [z] at e;cases e
structure Mod (K:Frag) (mg:Str->Option Value) (base:Heap):Prop where
 kin:K.In base
 glob:base.Ns mainGlobals mg
 blt:∃mb,base.Ns builtinsNs mb/\∀x:Str,x≠"__name__"->mb x=bootBuiltins x
 nolimit:base.NoLimit
structure Cx where
 prog:Program
 w:World
 K:Frag
 mg:Str->Option Value
 base:Heap
 A:Around
 N:List Str
 s₀:Shared
 H₀:Hp
 env:Env
 outer:List Env
 stack:List Env
 ex:List Addr
 fn:Str->Bool
 calm:Bool
 pn:List (Addr×Obj)
 xe:Value->Shared->Prop
def frs (l:List Env):List Addr:=l.filterMap (·.frame)
abbrev Cx.fs (X:Cx):List Addr:=frs X.outer
def Vis (sc:Scope) (x:Str):Prop:=sc.names.lookup x=some .local\/sc.names.lookup x=some .cell\/sc.names.lookup x=some .free
def Loc (sc:Scope) (x:Str):Prop:=sc.names.lookup x=some .local\/sc.names.lookup x=some .cell
def Look (env:Env) (h:Heap) (m:Str->Option Value) (x:Str) (u:Value):Prop :=
 (env.kindOf x=some .local/\m x=some u)\/((env.kindOf x=some .cell\/env.kindOf x=some .free)/\∃c,env.cells.lookup x=some c/\h.IsCell c (some u))
structure Cx.Ok (X:Cx):Prop where
 mod:Mod X.K X.mg X.base
 kind:X.env.scope.kind= .function
 glob:X.env.globals=mainGlobals
 blt:X.env.builtins=builtinsNs
 above:X.s₀.heap.objs.size<=X.env.locals
 inj:∀x y c,X.env.cells.lookup x=some c->X.env.cells.lookup y=some c->x=y
 has:∀x,(X.env.kindOf x=some .cell\/X.env.kindOf x=some .free)->∃c,X.env.cells.lookup x=some c
 cab:∀x c,X.fn x=true->X.env.cells.lookup x=some c->X.s₀.heap.objs.size<=c
 hd:X.calm=true->X.A.handled=none
 frames:X.A.frames=some X.stack
 stk:X.stack=X.outer\/(X.stack=X.env::X.outer/\X.env.frame=some X.env.locals)
 exf:∀b∈X.ex,b≠X.env.locals/\∀x c,X.env.cells.lookup x=some c->c≠b
 bs:∀b o,X.base.get? b=some o->X.s₀.heap.get? b=some o/\X.H₀ b=none
 bsz:X.base.objs.size<=X.s₀.heap.objs.size
 noex:∀b o,X.base.get? b=some o->b∉X.ex
 exfs:∀b∈X.ex,b∉X.fs
 funs:X.s₀.heap.FunFrames X.base X.outer
 frf:∀b∈X.fs,X.H₀ b=none
structure Inv (X:Cx) (pins:List (Addr×Obj)) (Z:List (Option V)) (H:Hp) (s:Shared):Prop where
 ok:X.Ok
 os:s.os=X.s₀.os
 bare:AllBare s.gens
 base:Un X.fs X.ex X.H₀ H X.s₀.heap s.heap
 loc:∃m,s.heap.Ns X.env.locals m/\∀(i:Nat) (x:Str) (v:V),X.N[i]? =some x->Z[i]? =some (some v)->Vis X.env.scope x->∃u,A2z v u/\Look X.env s.heap m x u
 cell:∀x c,X.env.cells.lookup x=some c->∃v,s.heap.IsCell c v
 free:H X.env.locals=none
 freeC:∀x c,X.env.cells.lookup x=some c->H c=none
 pin:∀p∈X.pn++pins,s.heap.get? p.1=some p.2/\H p.1=none/\p.1≠X.env.locals/\p.1∉X.fs/\∀v,p.2.data≠.cell v
 hok:HOk X.prog X.w H s.heap
 len:Z.length=X.N.length
section
variable {X:Cx} {pins:List (Addr×Obj)} {Z:List (Option V)} {H H':Hp} {s:Shared} {h':Heap}
theorem Cx.Ok.nofr (ok:X.Ok) {b:Addr} {o:Obj} (e:X.base.get? b=some o):b∉X.fs:=λhb=>by
 have:=(ok.funs.mem hb).1;rw [e] at this;cases this
theorem Inv.bs (I:Inv X pins Z H s):∀b o,X.base.get? b=some o->s.heap.get? b=some o/\H b=none:=λb o e =>
 ⟨I.base.keep b o (I.ok.bs b o e).1 (I.ok.bs b o e).2 (I.ok.nofr e) (I.ok.noex b o e),I.base.free b o (I.ok.bs b o e).1 (I.ok.bs b o e).2 (I.ok.noex b o e)⟩
theorem Inv.bk (I:Inv X pins Z H s):∀b o,X.base.get? b=some o->s.heap.get? b=some o:=λb o e=>(I.bs b o e).1
theorem Inv.mod (I:Inv X pins Z H s):Mod X.K X.mg X.base:=I.ok.mod
theorem Inv.kIn (I:Inv X pins Z H s):X.K.In s.heap:=I.ok.mod.kin.keeps I.bk
theorem Inv.lt (I:Inv X pins Z H s):X.env.locals<s.heap.objs.size:=let ⟨_,hn,_⟩:=I.loc;hn.lt
theorem Inv.sz (I:Inv X pins Z H s):X.s₀.heap.objs.size<=s.heap.objs.size:=Z1n I.ok.above (Nat.le_of_lt I.lt)
theorem Inv.nofs (I:Inv X pins Z H s) {a:Addr} (h:s.heap.objs.size<=a):a∉X.fs:=λhb=>by
 obtain ⟨_,o,ho,_⟩:=I.ok.funs.mem hb;exact absurd (Z0q (Z0a ho) (Z1n I.sz h)) (Nat.lt_irrefl _)
theorem Inv.cne (I:Inv X pins Z H s):∀x c,X.env.cells.lookup x=some c->c≠X.env.locals:=λx c e z=>by
 obtain ⟨v,o,ho,hd⟩:=I.cell x c e;obtain ⟨m,⟨o',es,ep,ho',hd',_⟩,_⟩:=I.loc;rw [z,ho'] at ho;cases ho;rw [hd'] at hd;cases hd
theorem Inv.funs (I:Inv X pins Z H s):s.heap.FunFrames X.base X.outer:=by
 have all:∀(l:List Env),(∀b∈frs l,b∈X.fs)->X.s₀.heap.FunFrames X.base l->s.heap.FunFrames X.base l:=by
  intro l
  induction l with
  | nil=>intro _ _;trivial
  | cons env r ih =>
   intro hs hl;obtain ⟨hk,⟨L,o,hf,hn,ho,hd⟩,hr⟩:=hl;have hL:L∈X.fs:=hs L (by unfold frs;rw [List.filterMap_cons,hf];exact Z27);obtain ⟨sl,e⟩:=I.base.slot L o ho (I.ok.frf L hL) hL λz=>I.ok.exfs L z hL;exact i00 hk (i0m L _ hf hn e hd) (ih (λb hb=>hs b (by unfold frs;rw [List.filterMap_cons,hf];exact Z1f _ hb)) hr)
 exact all X.outer (λ_ hb=>hb) I.ok.funs
theorem Inv.stack (I:Inv X pins Z H s):s.heap.FunFrames X.base X.stack:=by
 rcases I.ok.stk with e | ⟨e,hf⟩
 ·rw [e];exact I.funs
 ·rw [e];obtain ⟨m,hn,_⟩:=I.loc;refine .cons (by rw [I.ok.kind];decide) hf hn ?_ I.funs;exact Heap.get?_none_of_le (Z1n I.ok.bsz I.ok.above)
theorem Inv.stkSub (I:Inv X pins Z H s):∀b∈frs X.stack,b∈X.env.locals::X.fs:=λb hb=>by
 rcases I.ok.stk with e | ⟨e,hf⟩
 ·rw [e] at hb;exact Z1f _ hb
 ·rw [e] at hb;unfold frs at hb;rw [List.filterMap_cons,hf] at hb;exact hb
theorem Inv.stkFree (I:Inv X pins Z H s):∀b∈frs X.stack,H b=none:=λb hb=>by
 rcases Z0e.mp (I.stkSub b hb) with e | hb
 ·rw [e];exact I.free
 ·obtain ⟨_,o,ho,_⟩:=I.ok.funs.mem hb;exact I.base.free b o ho (I.ok.frf b hb) λz=>I.ok.exfs b z hb
theorem Inv.step {g':Array GenState} {t':Nat} {d':Drawn} {ch:List Addr} (I:Inv X pins Z H s)
  (hch:∀b∈ch,(b∈X.ex\/X.s₀.heap.objs.size<=b)/\b≠X.env.locals/\(∀x c,X.env.cells.lookup x=some c->c≠b)/\∀p∈X.pn++pins,p.1≠b)
  (keep:∀b o,b≠X.env.locals->b∉X.fs->b∉ch->s.heap.get? b=some o->H b=none->h'.get? b=some o)
  (slot:∀b o,b≠X.env.locals->b∈X.fs->b∉ch->s.heap.get? b=some o->H b=none->∃sl,h'.get? b=some { o with slots:=sl }) (free:∀b o,b∉ch->s.heap.get? b=some o->H b=none->H' b=none)
  (there:∀b o,b∉ch->s.heap.get? b=some o->∃o',h'.get? b=some o')
  (tups:∀b xs,H b=some (.tup xs)->H' b=some (.tup xs)) (frzs:∀b o u,H b=some (.frz o u)->H' b=some (.frz o u)) (tbls:∀b ps,H b=some (.tbl ps)->∃more,H' b=some (.tbl (ps++more)))
  (ns:∀m,s.heap.Ns X.env.locals m->h'.Ns X.env.locals m) (hok:HOk X.prog X.w H' h') (hg:AllBare g') :
  Inv X pins Z H' { s with heap:=h',gens:=g',drawn:=d',toks:=t' }:=by
 have neL:∀b o,X.s₀.heap.get? b=some o->b≠X.env.locals:=λb o e=>Z0h (Z0q (Z0a e) I.ok.above)
 have neC:∀b o,X.s₀.heap.get? b=some o->b∉X.ex->b∉ch:=λb o e hx hb=>by
  rcases (hch b hb).1 with z | z
  ·exact hx z
  ·exact absurd (Z0q (Z0a e) z) (Nat.lt_irrefl _)
 have cellK:∀x c,X.env.cells.lookup x=some c->∀v,s.heap.IsCell c v->h'.IsCell c v:=λx c e v ⟨o,ho,hd⟩=>by
  have nch:c∉ch:=λz=>(hch c z).2.2.1 x c e rfl;by_cases hc:c∈X.fs
  ·obtain ⟨sl,q⟩:=slot c o (I.cne x c e) hc nch ho (I.freeC x c e);exact i02 _ q hd
  ·exact i02 o (keep c o (I.cne x c e) hc nch ho (I.freeC x c e)) hd
 refine ⟨I.ok,I.os,hg,⟨λb o e n hb hx=> ?_,λb o e n hb hx=> ?_,λb o e n hx=> ?_,λb o e hx=> ?_,λb xs e=>tups b xs (I.base.tups b xs e),λb o xs e=>frzs b o xs (I.base.frzs b o xs e),λb ps e=> ?_⟩,?_,λx c e=> ?_,?_,λx c e=> ?_,λp hp=> ?_,hok,I.len⟩
 ·exact keep b o (neL b o e) hb (neC b o e hx) (I.base.keep b o e n hb hx) (I.base.free b o e n hx)
 ·obtain ⟨sl,e1⟩:=I.base.slot b o e n hb hx;obtain ⟨sl',e2⟩:=slot b _ (neL b o e) hb (neC b o e hx) e1 (I.base.free b o e n hx);exact ⟨sl',e2⟩
 ·obtain ⟨o',e1⟩:=I.base.there b o e hx;exact free b o' (neC b o e hx) e1 (I.base.free b o e n hx)
 ·obtain ⟨o',e1⟩:=I.base.there b o e hx;exact there b o' (neC b o e hx) e1
 ·obtain ⟨m1,e1⟩:=I.base.tbls b ps e;obtain ⟨m2,e2⟩:=tbls b _ e1;exact ⟨m1++m2,by rw [e2,Array.append_assoc]⟩
 ·obtain ⟨m,hn,hl⟩:=I.loc;refine i02 m (ns m hn) λi x v e1 e2 e3=> ?_;obtain ⟨u,r,l⟩:=hl i x v e1 e2 e3;refine i02 u r ?_;rcases l with l | ⟨k,c,e,z⟩
  ·exact .inl l
  ·exact .inr (i05 k c e (cellK x c e _ z))
 ·obtain ⟨v,z⟩:=I.cell x c e;exact ⟨v,cellK x c e v z⟩
 ·obtain ⟨m,⟨o,_,_,ho,_⟩,_⟩:=I.loc;exact free _ o (λz=>(hch _ z).2.1 rfl) ho I.free
 ·obtain ⟨v,o,ho,hd⟩:=I.cell x c e;exact free c o (λz=>(hch c z).2.2.1 x c e rfl) ho (I.freeC x c e)
 ·obtain ⟨e,n,ne,nf,d⟩:=I.pin p hp;have nch:p.1∉ch:=λz=>(hch p.1 z).2.2.2 p hp rfl;exact i08 (keep p.1 p.2 ne nf nch e n) (free p.1 p.2 nch e n) ne nf d
theorem Inv.un {t':Nat} (I:Inv X pins Z H s) (u:Un X.fs [] H H' s.heap h') (hok:HOk X.prog X.w H' h'):Inv X pins Z H' { s with heap:=h',toks:=t' }:=by
 obtain ⟨m,⟨o,es,ep,ho,r⟩,_⟩:=id I.loc;obtain ⟨sl,hL⟩:=u.any ho I.free (by simp)
 exact I.step (g':=s.gens) (d':=s.drawn) (ch:=[]) (λ_ z=>nomatch z) (λb o _ hb _ e n=>u.keep b o e n hb (by simp)) (λb o _ hb _ e n=>u.slot b o e n hb (by simp)) (λb o _ e n=>u.free b o e n (by simp)) (λb o _ e=>u.there b o e (by simp)) u.tups u.frzs u.tbls (λm' hm=>by
  obtain ⟨o',es',ep',ho',r'⟩:=hm;rw [ho] at ho';cases ho'
  exact i0g _ es' ep' hL r') hok I.bare
theorem Inv.call {g':Array GenState} {t':Nat} {d':Drawn} {ch:List Addr} (I:Inv X pins Z H s) (u:Un (frs X.stack) ch H H' s.heap h') (hok:HOk X.prog X.w H' h') (hg:AllBare g')
  (hch:∀b∈ch,(b∈X.ex\/X.s₀.heap.objs.size<=b)/\b≠X.env.locals/\(∀x c,X.env.cells.lookup x=some c->c≠b)/\∀p∈X.pn++pins,p.1≠b) :
  Inv X pins Z H' { s with heap:=h',gens:=g',drawn:=d',toks:=t' }:=by
 obtain ⟨m,⟨o,es,ep,ho,r⟩,_⟩:=id I.loc;obtain ⟨sl,hL⟩:=u.any ho I.free λz=>(hch _ z).2.1 rfl
 exact I.step (ch:=ch) hch (λb o hL hb hc e n=>u.keep b o e n (λz=>(Z0e.mp (I.stkSub b z)).elim hL hb) hc) (λb o _ _ hc e n=>u.any e n hc) (λb o hc e n=>u.free b o e n hc) (λb o hc e=>u.there b o e hc) u.tups u.frzs u.tbls (λm' hm=>by
  obtain ⟨o',es',ep',ho',r'⟩:=hm;rw [ho] at ho';cases ho'
  exact i0g _ es' ep' hL r') hok hg
theorem Inv.turned {t':Nat} {it:Addr} (I:Inv X pins Z H s) (k:∀b o,b≠it->s.heap.get? b=some o->h'.get? b=some o) (hn:H it=none) (hL:it≠X.env.locals)
  (h1:it∈X.ex\/X.s₀.heap.objs.size<=it) (h2:∀x c,X.env.cells.lookup x=some c->c≠it) (h3:∀p∈X.pn++pins,p.1≠it):Inv X pins Z H { s with heap:=h',toks:=t' }:=by
 have nit:∀b u,H b=some u->b≠it:=λb u e z=>by rw [z,hn] at e;cases e
 refine I.step (g':=s.gens) (d':=s.drawn) (ch:=[it]) (λb hb=> ?_) (λb o _ _ hc e _=>k b o (λz=>hc (by simp [z])) e) (λb o _ _ hc e _=>⟨o.slots,k b o (λz=>hc (by simp [z])) e⟩) (λ_ _ _ _ n=>n)
  (λb o hc e=>⟨o,k b o (λz=>hc (by simp [z])) e⟩) (λ_ _ e=>e) (λ_ _ _ e=>e) (λb ps e=>⟨#[],by rw [e];simp⟩) (λm hm=> ?_) (λb u e=> ?_) I.bare
 ·have e:b=it:=by simpa using hb
  subst e;exact i04 h1 hL h2 h3
 ·obtain ⟨o,es,ep,ho,r⟩:=hm;exact i0g o es ep (k _ o (Ne.symm hL) ho) r
 ·refine (I.hok b u e).stay (λc v hc q=>k c v ?_ q) (λ_ q=>q) λ_ _ q=>q;rcases hc with z | z
  ·rw [z];exact nit b u e
  ·exact nit c _ z
theorem Inv.tok (I:Inv X pins Z H s) (t:Nat):Inv X pins Z H { s with toks:=t }:=I.un (h':=s.heap) (t':=t) Un.refl I.hok
theorem Inv.kept {t':Nat} (I:Inv X pins Z H s) (k:∀b u,s.heap.get? b=some u->h'.get? b=some u):Inv X pins Z H { s with heap:=h',toks:=t' }:=I.un (Un.kept k) (I.hok.kept k)
theorem Inv.laid {a:Addr} {o:HO} {t':Nat} (I:Inv X pins Z H s) (k:∀b u,s.heap.get? b=some u->h'.get? b=some u) (hp:s.heap.objs.size<=a) (new:A1z X.prog X.w (upd H a o) h' a o) :
  Inv X pins Z (upd H a o) { s with heap:=h',toks:=t' }:=I.un (Un.laid k hp (I.hok.fresh hp)) (I.hok.laid k hp new)
theorem Inv.write {x e:Addr} {o:HO} {t':Nat} (I:Inv X pins Z H s) (mu:Mut (H x)) (he:e=x\/H e=some (.own x)) (k:∀b u,b≠e->s.heap.get? b=some u->h'.get? b=some u) (heo:∃u,h'.get? e=some u)
  (new:A1z X.prog X.w (upd H x o) h' x o):Inv X pins Z (upd H x o) { s with heap:=h',toks:=t' }:=I.un (Un.write mu he k heo) (I.hok.write mu he k heo new)
theorem Inv.weak {Z':List (Option V)} (I:Inv X pins Z H s) (hl:Z'.length=Z.length) (w:∀(i:Nat) v,Z'[i]? =some (some v)->Z[i]? =some (some v)):Inv X pins Z' H s :=
 ⟨I.ok,I.os,I.bare,I.base,let ⟨m,hn,hl'⟩:=I.loc;(i02 m hn λi x v e1 e2 e3=>hl' i x v e1 (w i v e2) e3),I.cell,I.free,I.freeC,I.pin,I.hok,hl.trans I.len⟩
theorem Inv.pins_of {pins':List (Addr×Obj)} (I:Inv X pins Z H s) (h:∀p∈pins',s.heap.get? p.1=some p.2/\H p.1=none/\p.1≠X.env.locals/\p.1∉X.fs/\∀v,p.2.data≠.cell v):Inv X pins' Z H s :=
 ⟨I.ok,I.os,I.bare,I.base,I.loc,I.cell,I.free,I.freeC,λp hp=>(Z07.mp hp).elim (λz=>I.pin p (Z05 _ z)) (h p),I.hok,I.len⟩
theorem C1e {N:List Str} (hN:N.Nodup) {i j:Nat} {x:Str} (a:N[i]? =some x) (b:N[j]? =some x):i=j:=by
 obtain ⟨h1,e1⟩:=Z03.mp a;obtain ⟨h2,e2⟩:=Z03.mp b;exact (List.getElem_inj hN).mp (e1.trans e2.symm)
theorem B7q {M:Model} {A:Around} {E:Value->Shared->Prop} {i:Nat} {x:Str} {v:V} {u:Value} {Q:Unit->Shared->Prop} (I:Inv X pins Z H s) (hN:X.N.Nodup) (hi:X.N[i]? =some x) (hx:Loc X.env.scope x) (r:A2z v u)
  (h:∀s',Inv X pins (Z.set i (some v)) H s'->(∃a,Heap.SameBut a s.heap s'.heap/\(a=X.env.locals\/X.env.cells.lookup x=some a))->Q () s') (hf:X.fn x=true\/X.env.scope.names.lookup x=some .local:=by first | exact .inl rfl | exact .inr rfl | assumption):wpAny M A (storeName X.env x u) Q E s:=by
 obtain ⟨m,hn,hl⟩:=id I.loc;have hcls:(X.env.scope.kind == .class||(X.env.scope.kind == .module&&X.env.locals != X.env.globals))=false:=by rw [I.ok.kind];rfl
 have hiZ:i<Z.length:=by rw [I.len];exact (Z03.mp hi).1
 have cne:=I.cne
 have tracked:∀{a:Addr} {h':Heap},(∃o,s.heap.get? a=some o/\H a=none)->Heap.SameBut a s.heap h'->HOk X.prog X.w H h':=λ{a h'} ha hs b ob e=>by
  obtain ⟨_,_,hfree⟩:=ha;refine (I.hok b ob e).stay (λc w' hc q=>(hs.2 c ?_).trans q) (λ_ q=>q) λ_ _ q=>q;rintro rfl;rcases hc with rfl | hc
  ·rw [hfree] at e;cases e
  ·rw [hfree] at hc;cases hc
 rcases hx with hk | hk
 ·refine wpAny_storeName_local hk hn (λh' hn' hs=> ?_) hcls;obtain ⟨oL,_,_,hoL,_⟩:=id hn;refine h _ ⟨I.ok,I.os,I.bare,⟨λb o e n hb hx=> ?_,λb o e n hb hx=> ?_,I.base.free,λb o e hx=> ?_,I.base.tups,I.base.frzs,I.base.tbls⟩,(i02 _ hn' λj y v' e1 e2 e3=> ?_),λy c e=> ?_,I.free,I.freeC,λp hp=> ?_,tracked (i02 oL hoL I.free) hs,by simpa using I.len⟩ (i02 _ hs (.inl rfl))
  ·exact (hs.2 b (Z0h (Z0q (Z0a e) I.ok.above))).trans (I.base.keep b o e n hb hx)
  ·obtain ⟨sl,e1⟩:=I.base.slot b o e n hb hx;exact ⟨sl,(hs.2 b (Z0h (Z0q (Z0a e) I.ok.above))).trans e1⟩
  ·obtain ⟨o',e1⟩:=I.base.there b o e hx;exact ⟨o',(hs.2 b (Z0h (Z0q (Z0a e) I.ok.above))).trans e1⟩
  ·by_cases hj:j=i
   ·subst hj;rw [hi] at e1;cases e1;rw [Z23 hiZ] at e2;cases e2;exact i02 u r (.inl ⟨hk,by simp⟩)
   ·rw [Z2a (Ne.symm hj)] at e2;obtain ⟨u',r',q⟩:=hl j y v' e1 e2 e3;refine i02 u' r' ?_;rcases q with ⟨k,e⟩ | ⟨k,c,e,z⟩
    ·refine .inl ⟨k,?_⟩;have:y≠x:=λe=>hj (C1e hN e1 (e▸hi));simp [this,e]
    ·exact .inr (i05 k c e (z.sameBut hs (cne y c e)))
  ·obtain ⟨w',z⟩:=I.cell y c e;exact ⟨w',z.sameBut hs (cne y c e)⟩
  ·obtain ⟨e,n,ne,nf,d⟩:=I.pin p hp;exact i08 ((hs.2 p.1 ne).trans e) n ne nf d
 ·have hfn:X.fn x=true:=by
   rcases hf with z | z
   ·exact z
   ·rw [z] at hk;cases hk
  obtain ⟨c,hc⟩:=I.ok.has x (.inl hk);obtain ⟨w',z⟩:=I.cell x c hc;refine wpAny_storeName_cell I.ok.kind hk hc z (λh' hc' hs=> ?_);obtain ⟨oc,hoc,hocd⟩:=id z;refine h { s with heap:=h' } ⟨I.ok,I.os,I.bare,⟨λb o e n hb hx=> ?_,λb o e n hb hx=> ?_,I.base.free,λb o e hx=> ?_,I.base.tups,I.base.frzs,I.base.tbls⟩,(i02 m (hn.sameBut hs (Ne.symm (cne x c hc))) λj y v' e1 e2 e3=> ?_),λy c' e=> ?_,I.free,I.freeC,λp hp=> ?_,tracked (i02 oc hoc (I.freeC x c hc)) hs,by simpa using I.len⟩ (i02 c hs (.inr hc))
  ·exact (hs.2 b (Z0h (Z0q (Z0a e) (I.ok.cab x c hfn hc)))).trans (I.base.keep b o e n hb hx)
  ·obtain ⟨sl,e1⟩:=I.base.slot b o e n hb hx;exact ⟨sl,(hs.2 b (Z0h (Z0q (Z0a e) (I.ok.cab x c hfn hc)))).trans e1⟩
  ·obtain ⟨o',e1⟩:=I.base.there b o e hx;exact ⟨o',(hs.2 b (Z0h (Z0q (Z0a e) (I.ok.cab x c hfn hc)))).trans e1⟩
  ·by_cases hj:j=i
   ·subst hj;rw [hi] at e1;cases e1;rw [Z23 hiZ] at e2;cases e2;exact i02 u r (.inr (i05 (.inl hk) c hc hc'))
   ·rw [Z2a (Ne.symm hj)] at e2;obtain ⟨u',r',q⟩:=hl j y v' e1 e2 e3;refine i02 u' r' ?_;rcases q with q | ⟨k,c',e,z'⟩
    ·exact .inl q
    ·refine .inr (i05 k c' e (z'.sameBut hs ?_));rintro rfl;exact hj (C1e hN e1 (I.ok.inj _ _ _ e hc▸hi))
  ·by_cases hcc:c'=c
   ·subst hcc;exact ⟨_,hc'⟩
   ·obtain ⟨w2,z2⟩:=I.cell y c' e;exact ⟨w2,z2.sameBut hs hcc⟩
  ·obtain ⟨e,n,ne,nf,d⟩:=I.pin p hp;refine i08 ((hs.2 p.1 ?_).trans e) n ne nf d;intro q;rw [q,hoc] at e;have q':oc=p.2:=Z1a e;exact d w' (by rw [<-q'];exact hocd)
theorem C0y {M:Model} {A:Around} {E:Value->Shared->Prop} {i:Nat} {x:Str} {v:V} {u:Value} {Q:Unit->Shared->Prop} (I:Inv X pins Z H s) (hN:X.N.Nodup) (hi:X.N[i]? =some x) (hx:Loc X.env.scope x) (r:A2z v u)
  (h:∀s',Inv X pins (Z.set i (some v)) H s'->Q () s') (hf:X.fn x=true\/X.env.scope.names.lookup x=some .local:=by first | exact .inl rfl | exact .inr rfl | assumption):wpAny M A (storeName X.env x u) Q E s :=
 B7q I hN hi hx r (λs' I' _=>h s' I') hf
theorem Inv.call' {s':Shared} {ch:List Addr} (I:Inv X pins Z H s) (ho:s'.os=s.os) (u:Un (frs X.stack) ch H H' s.heap s'.heap) (hok:HOk X.prog X.w H' s'.heap) (hg:AllBare s'.gens)
  (hch:∀b∈ch,(b∈X.ex\/X.s₀.heap.objs.size<=b)/\b≠X.env.locals/\(∀x c,X.env.cells.lookup x=some c->c≠b)/\∀p∈X.pn++pins,p.1≠b):Inv X pins Z H' s':=by
 obtain ⟨h',g',d',t',o'⟩:=s';have e:o'=s.os:=ho;subst e;exact I.call (g':=g') (t':=t') (d':=d') u hok hg hch
end
abbrev XK:=Value->Option Addr->Hp->Prop
abbrev St:=List (Option V)
abbrev VK:=V->Hp->Prop
abbrev TE:=St->Hp->VK->Prop
abbrev TT:=St->Hp->(Bool->Hp->Prop)->Prop
abbrev TA:=St->Hp->(List V->Hp->Prop)->Prop
structure C0x where
 nx:St->Hp->Prop
 rt:VK
 bk:St->Hp->Prop:=λ_ _=>False
 ct:St->Hp->Prop:=λ_ _=>False
abbrev TS:=C0x->St->Hp->Prop
def EP (X:Cx) (pins:List (Addr×Obj)) (Z:St) (Q:VK) (u:Value) (s':Shared):Prop:=∃v H',Inv X pins Z H' s'/\A2z v u/\Q v H'
def TP (X:Cx) (pins:List (Addr×Obj)) (Z:St) (Q:Bool->Hp->Prop) (b:Bool) (s':Shared):Prop:=∃H',Inv X pins Z H' s'/\Q b H'
def AP (X:Cx) (pins:List (Addr×Obj)) (Z:St) (Q:List V->Hp->Prop) (us:List Value) (s':Shared):Prop:=∃vs H',Inv X pins Z H' s'/\A2p vs us/\Q vs H'
def SP (X:Cx) (pins:List (Addr×Obj)) (D:C0x) (f:Flow) (s':Shared):Prop :=
 match f with
 | .next=>∃Z' H',Inv X pins Z' H' s'/\D.nx Z' H'
 | .brk=>∃Z' H',Inv X pins Z' H' s'/\D.bk Z' H'
 | .cont=>∃Z' H',Inv X pins Z' H' s'/\D.ct Z' H'
 | .ret u=>∃v Z' H',Inv X pins Z' H' s'/\A2z v u/\D.rt v H'
def PE (X:Cx) (e:Expr) (t:TE):Prop :=
 ∀(pins:List (Addr×Obj)) (s:Shared) (Z:St) (H:Hp) (Q:VK),Inv X pins Z H s->t Z H Q->wpAny (model X.prog X.w) X.A (eval e X.env) (EP X pins Z Q) X.xe s
def PT (X:Cx) (e:Expr) (t:TT):Prop :=
 ∀(pins:List (Addr×Obj)) (s:Shared) (Z:St) (H:Hp) (Q:Bool->Hp->Prop),Inv X pins Z H s->t Z H Q->wpAny (model X.prog X.w) X.A (isTrue e X.env (eval e X.env)) (TP X pins Z Q) X.xe s
def PW (X:Cx) (e:Expr) (t:TT):Prop :=
 ∀(whole:Sem Value) (pins:List (Addr×Obj)) (s:Shared) (Z:St) (H:Hp) (Q:Bool->Hp->Prop),Inv X pins Z H s->t Z H Q->wpAny (model X.prog X.w) X.A (isTrue e X.env whole) (TP X pins Z Q) X.xe s
theorem PW.pt {X:Cx} {e:Expr} {t:TT} (h:PW X e t):PT X e t:=h _
def PA (X:Cx) (es:List Expr) (t:TA):Prop :=
 ∀(pos:Pos) (pins:List (Addr×Obj)) (s:Shared) (Z:St) (H:Hp) (Q:List V->Hp->Prop),Inv X pins Z H s->t Z H Q->wpAny (model X.prog X.w) X.A (spliced (backTo pos (starEach es X.env))) (AP X pins Z Q) X.xe s
def PS (X:Cx) (st:Stmt) (t:TS):Prop :=
 ∀(pins:List (Addr×Obj)) (s:Shared) (Z:St) (H:Hp) (D:C0x),Inv X pins Z H s->t D Z H->wpAny (model X.prog X.w) X.A (exec st X.env) (SP X pins D) X.xe s
def PSs (X:Cx) (st:List Stmt) (t:TS):Prop :=
 ∀(pins:List (Addr×Obj)) (s:Shared) (Z:St) (H:Hp) (D:C0x),Inv X pins Z H s->t D Z H->wpAny (model X.prog X.w) X.A (execs st X.env) (SP X pins D) X.xe s
theorem thn {α:Type} {t:Sem α} {Q Q':α->Shared->Prop} {M:Model} {A:Around} {E:Value->Shared->Prop} {s:Shared} (h:wpAny M A t Q E s) (hQ:∀a s,Q a s->Q' a s):wpAny M A t Q' E s:=Z10 h hQ λ_ _ x=>x
section
variable {X:Cx}
def D9v (i:Nat):TE:=λZ H Q=>∃v,Z[i]? =some (some v)/\Q v H
def tC (v:V):TE:=λ_ H Q=>Q v H
theorem D8c {i:Nat} {x:Str} {pos:Pos} (hN:X.N[i]? =some x) (hv:Vis X.env.scope x) (hd:(x == ("__debug__":Str))=false:=by decide) (hcd:(x == ("__classdict__":Str))=false:=by decide):PE X (.Name x pos) (D9v i):=by
 intro pins s Z H Q I h;obtain ⟨v,e,h⟩:=h;obtain ⟨m,hn,hl⟩:=I.loc;obtain ⟨u,r,l⟩:=hl i x v hN e hv;have fin:EP X pins Z Q u s:=(i0f v H I r h);rcases l with ⟨hk,hm⟩ | ⟨hk,c,hc,hcell⟩
 ·exact wpAny_Name (wpAny_loadName_local I.ok.kind hk hn hm fin) hd
 ·rcases hk with hk | hk
  ·exact wpAny_Name (wpAny_loadName_cell I.ok.kind hk hc hcell fin) hd
  ·exact wpAny_Name (wpAny_loadName_free I.ok.kind hk hc hcell fin hcd) hd
theorem A0g {i j pos}:PE X (.Constant (.int i) j pos) (tC (.int i)):=λ_ _ _ H _ I h=>wpAny_Constant_int (i0f (.int i) H (I.tok _) ⟨_,rfl⟩ h)
theorem B0v {b j pos}:PE X (.Constant (.bool b) j pos) (tC (.bl b)):=λ_ _ _ H _ I h=>Constant_bool (i0f (.bl b) H I rfl h)
theorem A0u {x j pos}:PE X (.Constant (.str x) j pos) (tC (.str x)):=λ_ _ _ H _ I h=>Calls.Constant_str (i0f (.str x) H (I.tok _) ⟨_,rfl⟩ h)
def Gl (X:Cx) (x:Str):Prop:=X.env.kindOf x=some .globalImplicit
theorem C6c {E:Value->Shared->Prop} {pins:List (Addr×Obj)} {s:Shared} {Z:St} {H:Hp} {x:Str} {u:Value} {pos:Pos} {Q:Value->Shared->Prop} (I:Inv X pins Z H s) (hg:Gl X x) (hm:X.mg x=some u) (h:Q u s)
  (hd:(x == ("__debug__":Str))=false:=by decide):wpAny (model X.prog X.w) X.A (eval (.Name x pos) X.env) Q E s :=
 Calls.Name_function_global I.ok.kind hg (Calls.loadGlobal_global (by rw [I.ok.glob];exact I.mod.glob.keeps I.bk) hm h) hd
theorem B0o {E:Value->Shared->Prop} {pins:List (Addr×Obj)} {s:Shared} {Z:St} {H:Hp} {x:Str} {u:Value} {pos:Pos} {Q:Value->Shared->Prop} (I:Inv X pins Z H s) (hg:Gl X x) (hm:X.mg x=none) (hv:bootBuiltins x=some u) (h:Q u s)
  (hn:x≠"__name__":=by decide) (hd:(x == ("__debug__":Str))=false:=by decide):wpAny (model X.prog X.w) X.A (eval (.Name x pos) X.env) Q E s:=by
 obtain ⟨mb,h1,h2⟩:=I.mod.blt;exact Calls.Name_function_global I.ok.kind hg (Calls.loadGlobal_builtin (by rw [I.ok.glob];exact I.mod.glob.keeps I.bk) hm (by rw [I.ok.blt];exact h1.keeps I.bk) ((h2 x hn).trans hv) h) hd
theorem A3u {x:Str} {v:V} {u:Value} {pos:Pos} (hg:Gl X x) (hm:X.mg x=none) (hv:bootBuiltins x=some u) (r:A2z v u) (hn:x≠"__name__":=by decide) (hd:(x == ("__debug__":Str))=false:=by decide):PE X (.Name x pos) (tC v) :=
 λ_ _ _ H _ I h=>B0o I hg hm hv (i0f v H I r h) hn hd
variable {a b:Expr} {ta tb:TE} {pos:Pos}
def PC (X:Cx) (op:CmpOp) (a b:Expr) (t:TE):Prop :=
 ∀(pins:List (Addr×Obj)) (s:Shared) (Z:St) (H:Hp) (Q:VK),Inv X pins Z H s->t Z H Q->
  wpAny (model X.prog X.w) X.A (eval a X.env) (λv s₁=>wpAny (model X.prog X.w) X.A (eval b X.env) (λu s₂=>wpAny (model X.prog X.w) X.A (compareOp op v u) (EP X pins Z Q) X.xe s₂) X.xe s₁) X.xe s
def tB (t:TE):TT:=λZ H Q=>t Z H λx H1=>∃c,x= .bl c/\Q c H1
theorem D2l {op:CmpOp} {t:TE} (h:PC X op a b t) (h1:behindInMarks op b=false:=by first | exact nobehind _ (by decide) (by decide) | rfl):PT X (.Compare a [op] [b] pos) (tB t):=by
 intro pins s Z H Q I hw;refine wpAny_isTrue_Compare1 (thn (h pins s Z H _ I hw) λv s1 h1=>thn h1 λu s2 h2=>thn h2 ?_) h1;rintro c s3 ⟨x,H1,I1,r1,q1⟩;obtain ⟨d,rfl,q⟩:=q1;cases r1;exact wpAny_truthy_bool (i02 H1 I1 q)
theorem A3w {e:Expr} {t:TE} (h:PE X e t) (he:∀whole,isTrue e X.env whole=(do let v<-whole;standAt e.pos;holding [v] (truthy v)):=by intro _;rfl):PT X e (tB t):=by
 intro pins s Z H Q I hw;refine isTrue_plain (thn (h pins s Z H _ I hw) ?_) (he _);rintro v s1 ⟨x,H1,I1,r1,q1⟩;obtain ⟨d,rfl,q⟩:=q1;cases r1;exact wpAny_truthy_bool (i02 H1 I1 q)
variable {tA tB':TT} {rest:List Expr}
def tAnd (t u:TT):TT:=λZ H Q=>t Z H λc H1=>if c=true then u Z H1 Q else Q false H1
def tOr (t u:TT):TT:=λZ H Q=>t Z H λc H1=>if c=true then Q true H1 else u Z H1 Q
def tNot (t:TT):TT:=λZ H Q=>t Z H λc H1=>Q (! c) H1
theorem A9r (ha:PT X a tA):PW X (.BoolOp .And [a] pos) tA:=by
 intro wh pins s Z H Q I h;refine isTrue_and (thn (ha pins s Z H Q I h) λc s1 e=> ?_)
 cases c with
 | true=>exact isTrue_and_nil e
 | false=>exact e
theorem B1r (ha:PT X a tA):PW X (.BoolOp .Or [a] pos) tA:=by
 intro wh pins s Z H Q I h;refine isTrue_or (thn (ha pins s Z H Q I h) λc s1 e=> ?_)
 cases c with
 | false=>exact isTrue_or_nil e
 | true=>exact e
theorem B4i (ha:PT X a tA) (hb:PW X (.BoolOp .And (b::rest) pos) tB'):PW X (.BoolOp .And (a::b::rest) pos) (tAnd tA tB'):=by
 intro wh pins s Z H Q I h;refine isTrue_and (thn (ha pins s Z H _ I h) ?_);rintro c s1 ⟨H1,I1,q1⟩
 cases c with
 | true=>exact hb wh pins s1 Z H1 Q I1 q1
 | false=>exact i02 H1 I1 q1
theorem B3t (ha:PT X a tA) (hb:PW X (.BoolOp .Or (b::rest) pos) tB'):PW X (.BoolOp .Or (a::b::rest) pos) (tOr tA tB'):=by
 intro wh pins s Z H Q I h;refine isTrue_or (thn (ha pins s Z H _ I h) ?_);rintro c s1 ⟨H1,I1,q1⟩
 cases c with
 | true=>exact i02 H1 I1 q1
 | false=>exact hb wh pins s1 Z H1 Q I1 q1
theorem B7r (ha:PT X a tA):PT X (.UnaryOp .Not a pos) (tNot tA):=by
 intro pins s Z H Q I h;exact isTrue_not (ha pins s Z H (λc H1=>Q (! c) H1) I h)
def E0q (ta tb:TE):TE:=λZ H Q=>ta Z H λx H1=>∃c,x= .bl c/\if c=true then tb Z H1 Q else Q (.bl false) H1
theorem D7i {op} {t:TE} (h:PE X a t):PE X (.BoolOp op [a] pos) t:=λpins s Z H Q I hw=>BoolOp_one (h pins s Z H Q I hw)
theorem D7r (ha:PE X a ta) (hb:PE X (.BoolOp .And (b::rest) pos) tb):PE X (.BoolOp .And (a::b::rest) pos) (E0q ta tb):=by
 intro pins s Z H Q I h;refine BoolOp_and (thn (ha pins s Z H _ I h) ?_);rintro v s1 ⟨x,H1,I1,r1,q1⟩;obtain ⟨c,rfl,q1⟩:=q1;cases r1;refine wpAny_truthy_bool ?_
 cases c with
 | true=>exact hb pins s1 Z H1 Q I1 q1
 | false=>exact i0f (.bl false) H1 I1 rfl q1
end
def SqL (K:Frag) (H:Hp) (a:Addr) (xs:List V):Prop :=
 Rd H a (.lst xs)\/
  ∃(o:Obj) (its:Array Value) (n:Nat),K.lookup a=some o/\o.cls= .type "list"/\o.dict=none/\o.data= .seq its n/\its.size<=sizeLine/\A2p xs its.toList
def SqT (K:Frag) (H:Hp) (a:Addr) (xs:List V):Prop :=
 Rd H a (.tup xs)\/
  ∃(o:Obj) (its:Array Value) (n:Nat),K.lookup a=some o/\o.cls= .type "tuple"/\o.data= .seq its n/\its.size<=sizeLine/\A2p xs its.toList
noncomputable def absV:Value->Option V
 | .none=>some .non
 | .bool b=>some (.bl b)
 | .int i _=>some (.int i)
 | .str x _=>some (.str x)
 | .bytes b _=>some (.byt b)
 | .float b _=>some (.flt b)
 | .ref a=>some (.ref a)
 | .type n=>some (.ty n)
 | _=>none
theorem A2z.abs {x:V} {u:Value} (r:A2z x u):absV u=some x:=by
 cases x with
 | non=>cases r;rfl
 | bl _=>cases r;rfl
 | int _=>obtain ⟨t,rfl⟩:=r;rfl
 | str _=>obtain ⟨t,rfl⟩:=r;rfl
 | byt _=>obtain ⟨t,rfl⟩:=r;rfl
 | flt _=>obtain ⟨t,rfl⟩:=r;rfl
 | ref _=>cases r;rfl
 | ty _=>cases r;rfl
theorem A2z.inj {x y:V} {u:Value} (r:A2z x u) (q:A2z y u):x=y:=Z1a (r.abs.symm.trans q.abs)
theorem A2p.inj:∀{xs ys:List V} {us:List Value},A2p xs us->A2p ys us->xs=ys
 | _,_,_,.nil,.nil=>rfl
 | _,_,_,.cons r t,.cons r' t'=>by rw [r.inj r',A2p.inj t t']
section
variable {X:Cx} {pins:List (Addr×Obj)} {Z:St} {H:Hp} {s:Shared} {a:Addr} {xs ys:List V}
theorem SqL.of {K:Frag} (h:H a=some (.lst xs)):SqL K H a xs:= .inl (.inl h)
theorem SqT.of {K:Frag} (h:H a=some (.tup xs)):SqT K H a xs:= .inl (.inl h)
theorem Inv.list (I:Inv X pins Z H s) (h:SqL X.K H a xs):∃its:List Value,A2p xs its/\PlainL s.heap a its.toArray/\xs.length<=sizeLine:=by
 rcases h with h | ⟨o,its,n,hk,hc,hd,hs,hz,r⟩
 ·obtain ⟨z,its,n,r,e⟩:=h.ok I.hok;exact i06 its r (i0m _ n e rfl rfl rfl) z
 ·refine i06 its.toList r (i0m o n (I.kIn a o hk) hc hd (by simpa using hs)) ?_;have e:=r.length;simp only [Array.length_toList] at e
  lia
theorem Inv.tuple (I:Inv X pins Z H s) (h:SqT X.K H a xs):∃its:List Value,A2p xs its/\IsTup s.heap a its.toArray/\xs.length<=sizeLine:=by
 rcases h with h | ⟨o,its,n,hk,hc,hs,hz,r⟩
 ·obtain ⟨z,its,r,p⟩:=h.ok I.hok;exact i06 its r p z
 ·refine i06 its.toList r (i0d o (I.kIn a o hk) hc n (by simpa using hs)) ?_;have e:=r.length;simp only [Array.length_toList] at e
  lia
theorem Inv.list_inj (I:Inv X pins Z H s) (h:SqL X.K H a xs) (h':SqL X.K H a ys):xs=ys:=by
 obtain ⟨its,r,⟨o,n,e,_,_,d⟩,_⟩:=I.list h;obtain ⟨its',r',⟨o',n',e',_,_,d'⟩,_⟩:=I.list h';rw [e] at e';cases e';rw [d] at d';injection d' with d1 _;have:its=its':=by simpa using congrArg Array.toList d1
 subst this;exact r.inj r'
theorem Inv.tuple_inj (I:Inv X pins Z H s) (h:SqT X.K H a xs) (h':SqT X.K H a ys):xs=ys:=by
 obtain ⟨its,r,⟨o,e,_,n,d⟩,_⟩:=I.tuple h;obtain ⟨its',r',⟨o',e',_,n',d'⟩,_⟩:=I.tuple h';rw [e] at e';cases e';rw [d] at d';injection d' with d1 _;have:its=its':=by simpa using congrArg Array.toList d1
 subst this;exact r.inj r'
end
abbrev Cx.wish (X:Cx) (E:Value->Shared->Prop):Cx:={ X with xe:=E }
abbrev Cx.nox (X:Cx):Cx:=X.wish λ_ _=>False
theorem Cx.Ok.wish {X:Cx} (ok:X.Ok) (E:Value->Shared->Prop):(X.wish E).Ok :=
 ⟨ok.mod,ok.kind,ok.glob,ok.blt,ok.above,ok.inj,ok.has,ok.cab,ok.hd,ok.frames,ok.stk,ok.exf,ok.bs,ok.bsz,ok.noex,ok.exfs,ok.funs,ok.frf⟩
theorem Cx.Ok.unwish {X:Cx} {E:Value->Shared->Prop} (ok:(X.wish E).Ok):X.Ok :=
 ⟨ok.mod,ok.kind,ok.glob,ok.blt,ok.above,ok.inj,ok.has,ok.cab,ok.hd,ok.frames,ok.stk,ok.exf,ok.bs,ok.bsz,ok.noex,ok.exfs,ok.funs,ok.frf⟩
section
variable {X:Cx} {pins:List (Addr×Obj)} {Z:St} {H:Hp} {s:Shared} {E:Value->Shared->Prop}
theorem Inv.wish (I:Inv X pins Z H s) (E:Value->Shared->Prop):Inv (X.wish E) pins Z H s:=⟨I.ok.wish E,I.os,I.bare,I.base,I.loc,I.cell,I.free,I.freeC,I.pin,I.hok,I.len⟩
theorem Inv.unwish (I:Inv (X.wish E) pins Z H s):Inv X pins Z H s:=⟨I.ok.unwish,I.os,I.bare,I.base,I.loc,I.cell,I.free,I.freeC,I.pin,I.hok,I.len⟩
theorem SP.unwish {D:C0x} {f:Flow} {s':Shared} (h:SP (X.wish E) pins D f s'):SP X pins D f s':=by
 cases f with
 | next=>obtain ⟨Z',H',I,q⟩:=h;exact i07 Z' H' I.unwish q
 | brk=>obtain ⟨Z',H',I,q⟩:=h;exact i07 Z' H' I.unwish q
 | cont=>obtain ⟨Z',H',I,q⟩:=h;exact i07 Z' H' I.unwish q
 | ret u=>obtain ⟨v,Z',H',I,r,q⟩:=h;exact i0n v Z' H' I.unwish r q
theorem PSs.nox {st:List Stmt} {t:TS} (h:PSs X.nox st t):PSs X st t:=λpins s Z H D I hw =>
 Z10 (h pins s Z H D (I.wish _) hw) (λ_ _ q=>q.unwish) λ_ _ z=>False.elim z
end
variable {pins:List (Addr×Obj)} {Z:St} {H:Hp} {s:Shared} {e tg:Expr} {es:List Expr} {u:Value} {o:Option Value} {g:Int->Int->Int} {A:Around} {E Q:Value->Shared->Prop} {vs:List V} {P:Program} {w:World} {K:Frag} {R:Result->Shared->Prop} {fp:List Addr} {h base:Heap} {pl:Sem Bool} {f:Value->Value->Sem Value} {op:CmpOp} {C:Addr} {us:List Value} {mA mg:Str->Option Value} {kw:List (Str×Value)} {CX:CXT} {fd:FuncData} {ps:List Str} {scope:Scope} {osl:Array (Option Value)}
section
variable {X:Cx} {st:Stmt} {rest:List Stmt} {t u:TS} {e:Expr} {te:TE} {pos:Pos}
def E0h:TS:=λD Z H=>D.nx Z H
def tSeq (t u:TS):TS:=λD Z H=>t { D with nx:=u D } Z H
theorem A0r:PSs X [] E0h:=λ_ _ Z H _ I h=>Z2b (i07 Z H I h)
theorem A0c (h1:PS X st t) (h2:PSs X rest u):PSs X (st::rest) (tSeq t u):=by
 intro pins s Z H D I h;refine wpAny_execs_cons (thn (h1 pins s Z H { D with nx:=u D } I h) λf s1 q=> ?_)
 cases f with
 | next =>
  obtain ⟨Z',H',I',q⟩:=q;exact h2 pins s1 Z' H' D I' q
 | ret v=>exact q
 | brk=>exact q
 | cont=>exact q
theorem A0e (h1:PS X st t):PSs X [st] t:=by
 intro pins s Z H D I h;refine wpAny_execs_cons (thn (h1 pins s Z H D I h) λf s1 q=> ?_)
 cases f with
 | next=>exact Z2b q
 | ret v=>exact q
 | brk=>exact q
 | cont=>exact q
theorem Inv.quiet (I:Inv X pins Z H s):interactive X.env=false:=by simp [interactive,I.ok.kind]
def E1j (te:TE):TS:=λD Z H=>te Z H λ_ H1=>D.nx Z H1
theorem A3t (he:PE X e te) (hs:swapsWith e none pos.line X.env=pure false:=by rfl):PS X (.Expr e pos) (E1j te):=by
 intro pins s Z H D I h;exact wpAny_Expr_any (thn (he pins s Z H _ I h) (by rintro v s1 ⟨x,H1,I1,r1,q1⟩;exact i07 Z H1 I1 q1)) I.quiet hs
def tRet (te:TE):TS:=λD Z H=>te Z H D.rt
theorem A0o (he:PE X e te):PS X (.Return (some e) pos) (tRet te):=by
 intro pins s Z H D I h;exact wpAny_Return_some (thn (he pins s Z H _ I h) (by rintro v s1 ⟨x,H1,I1,r1,q1⟩;exact i0n x Z H1 I1 r1 q1))
def tIfS (c:TT) (t u:TS):TS:=λD Z H=>c Z H λb H1=>if b=true then t D Z H1 else u D Z H1
theorem A1o {c:Expr} {a b:List Stmt} {tc:TT} (hc:PT X c tc) (ha:PSs X a t) (hb:PSs X b u):PS X (.If c a b pos) (tIfS tc t u):=by
 intro pins s Z H D I h;refine wpAny_If (thn (hc pins s Z H _ I h) ?_);rintro d s1 ⟨H1,I1,q1⟩
 cases d with
 | true=>exact ha pins s1 Z H1 D I1 q1
 | false=>exact hb pins s1 Z H1 D I1 q1
def D7q:TS:=λ_ _ _=>False
theorem C2l:PS X st D7q:=λ_ _ _ _ _ _ h=>h.elim
end
abbrev TG:=V->St->Hp->(St->Hp->Prop)->Prop
abbrev TGs:=List V->St->Hp->(St->Hp->Prop)->Prop
def PG (X:Cx) (target:Expr) (t:TG):Prop :=
 ∀(pins:List (Addr×Obj)) (s:Shared) (Z:St) (H:Hp) (v:V) (u:Value) (Q:St->Hp->Prop),Inv X pins Z H s->A2z v u->t v Z H Q->
  wpAny (model X.prog X.w) X.A (assign target X.env u) (λ_ s'=>∃Z' H',Inv X pins Z' H' s'/\Q Z' H') X.xe s
def PGs (X:Cx) (ts:List Expr) (t:TGs):Prop :=
 ∀(pins:List (Addr×Obj)) (s:Shared) (Z:St) (H:Hp) (vs:List V) (us:List Value) (Q:St->Hp->Prop),Inv X pins Z H s->A2p vs us->t vs Z H Q->
  wpAny (model X.prog X.w) X.A (assignInOrder ((assignEach ts X.env).map (·.2)) us) (λ_ s'=>∃Z' H',Inv X pins Z' H' s'/\Q Z' H') X.xe s
abbrev E1e:=V->V->V->Hp->(Hp->Prop)->Prop
def E1z (X:Cx) (t:E1e):Prop :=
 ∀(pins:List (Addr×Obj)) (s:Shared) (Z:St) (H:Hp) (o i v:V) (ov iv u:Value) (Q:Hp->Prop),Inv X pins Z H s->A2z o ov->A2z i iv->A2z v u->t o i v H Q->
  wpAny (model X.prog X.w) X.A (setItem ov iv u) (λ_ s'=>∃H',Inv X pins Z H' s'/\Q H') X.xe s
section
variable {X:Cx} {pos:Pos}
def B5w (i:Nat):TG:=λv Z H Q=>Q (Z.set i (some v)) H
theorem A0m {i:Nat} {x:Str} (hN:X.N.Nodup) (hi:X.N[i]? =some x:=by rfl) (hx:Loc X.env.scope x:=by first | exact .inl rfl | exact .inr rfl) (hf:X.fn x=true\/X.env.scope.names.lookup x=some .local:=by first | exact .inl rfl | exact .inr rfl | assumption):PG X (.Name x pos) (B5w i):=by
 intro pins s Z H v u Q I r h;exact wpAny_assign_Name (C0y I hN hi hx r (λs' I'=>(i07 _ H I' h)) hf)
def E0l:TGs:=λvs Z H Q=>vs=[]/\Q Z H
def C5v (t:TG) (u:TGs):TGs:=λvs Z H Q=>∃v r,vs=v::r/\t v Z H λZ' H'=>u r Z' H' Q
theorem A3m:PGs X [] E0l:=by
 intro pins s Z H vs us Q I r h;obtain ⟨e,h⟩:=h;subst e;cases r;exact assignInOrder_nil (i07 Z H I h)
theorem A1b {t:TG} {u:TGs} (h1:PG X e t) (h2:PGs X es u)
  (hs:(assignEach (e::es) X.env).map (·.2)=assign e X.env::(assignEach es X.env).map (·.2):=by rfl):PGs X (e::es) (C5v t u):=by
 intro pins s Z H vs us Q I r h;obtain ⟨v,vr,e1,h⟩:=h;subst e1
 cases r with
 | cons r rr =>
  rw [hs];refine assignInOrder_cons (thn (h1 pins s Z H _ _ _ I r h) ?_);rintro _ s1 ⟨Z1,H1,I1,q1⟩;exact h2 pins s1 Z1 H1 _ _ Q I1 rr q1
def E1g (K:Frag) (n:Nat) (t:TGs):TG:=λv Z H Q=>∃a xs,v= .ref a/\SqT K H a xs/\xs.length=n/\t xs Z H Q
theorem A4y {k:Nat} {t:TGs} {n:Nat} (hc:X.calm=true) (h:PGs X es t)
  (hn:(assignEach es X.env).length=n:=by rfl) (hst:(assignEach es X.env).findIdx? (·.1)=none:=by rfl):PG X (.Tuple es k pos) (E1g X.K n t):=by
 intro pins s Z H v u Q I r hw;obtain ⟨a,xs,e1,hq,hl,hw⟩:=hw;subst e1;cases r;obtain ⟨its,rv,ht,hz⟩:=I.tuple hq;refine assign_Tuple_tuple (I.ok.hd hc) ht (by simp [hn,<-hl,rv.length]) hst λh' hx=> ?_;have I1:Inv X pins Z H { s with heap:=h' }:=I.kept (t':=s.toks) λb o e=>hx b o (Z0h (Z0a e)) e
 exact h pins _ Z H xs _ Q I1 (by simpa using rv) hw
def gSub (to ti:TE) (t:E1e):TG:=λv Z H Q=>to Z H λo H1=>ti Z H1 λi H2=>t o i v H2 λH3=>Q Z H3
theorem D1w {o i:Expr} {to ti:TE} {t:E1e} (ho:PE X o to) (hi:PE X i ti) (hs:E1z X t)
  (ha:∀v,assign (.Subscript o i pos) X.env v=(do
   let ov<-holding [v] (eval o X.env)
   let iv<-holding [v,ov] (eval i X.env)
   standAt pos
   holding [v,ov,iv] (setItem ov iv v)
   release [v,ov,iv] []):=by intro _;rfl):PG X (.Subscript o i pos) (gSub to ti t):=by
 intro pins s Z H v u Q I r h;rw [ha];refine Z00 (Z1w (thn (ho pins s Z H _ I h) ?_));rintro ov s1 ⟨x,H1,I1,r1,q1⟩;refine Z00 (Z1w (thn (hi pins s1 Z H1 _ I1 q1) ?_));rintro iv s2 ⟨y,H2,I2,r2,q2⟩;refine Z00 (Z1y (Z00 (Z1w (thn (hs pins s2 Z H2 x y v ov iv u _ I2 r1 r2 r q2) ?_))));rintro _ s3 ⟨H3,I3,q3⟩;exact wpAny_release (i07 Z H3 I3 q3)
def D9r (te:TE) (g:TG):TS:=λD Z H=>te Z H λx H1=>g x Z H1 D.nx
theorem B4e {te:TE} {g:TG} (he:PE X e te) (hg:PG X tg g) (hs:swapsWithSole [tg] e pos.line X.env=pure false:=by rfl) (hw:swappedStores [tg] e X.env=pure none:=by rfl)
  (h1:(assignEach [tg] X.env).map (·.2)=[assign tg X.env]:=by rfl):PS X (.Assign [tg] e pos) (D9r te g):=by
 intro pins s Z H D I h;refine wpAny_Assign_stores (thn (he pins s Z H _ I h) ?_) hs hw;rintro v s1 ⟨x,H1,I1,r1,q1⟩;rw [h1];exact thn (hg pins s1 Z H1 x v _ I1 r1 q1) λ_ s2 q=>q
theorem A0l {i:Nat} {x:Str} {te:TE} {pos':Pos} (hN:X.N.Nodup) (he:PE X e te) (hi:X.N[i]? =some x:=by rfl) (hx:Loc X.env.scope x:=by first | exact .inl rfl | exact .inr rfl) (hs:swapsWith e (some (.Name x pos')) pos.line X.env=pure false:=by rfl) (hf:X.fn x=true\/X.env.scope.names.lookup x=some .local:=by first | exact .inl rfl | exact .inr rfl | assumption) :
  PS X (.Assign [.Name x pos'] e pos) (D9r te (B5w i)):=by
 intro pins s Z H D I h;refine wpAny_Assign_Name (thn (he pins s Z H _ I h) ?_) hs;rintro v s1 ⟨y,H1,I1,r1,q1⟩;exact C0y I1 hN hi hx r1 (λs2 I2=>(i07 _ H1 I2 q1)) hf
end
structure It where
 go:Nat->Hp->Prop
 yld:Nat->Hp->V->Hp->Prop
 stop:Nat->Hp->Prop
def B8s (X:Cx) (pins:List (Addr×Obj)) (H:Hp) (b:Addr):Prop :=
 H b=none/\b≠X.env.locals/\b∉X.fs/\(b∈X.ex\/X.s₀.heap.objs.size<=b)/\(∀x c,X.env.cells.lookup x=some c->c≠b)/\∀p∈X.pn++pins,p.1≠b
theorem Inv.fpOk {X:Cx} {H':Hp} {b:Addr} (I:Inv X pins Z H s) (hb:s.heap.objs.size<=b) (hn:H' b=none):B8s X pins H' b:=by
 refine i0i hn (Z1q (Z0q I.lt hb)) (I.nofs hb) (.inr (Z1n I.sz hb)) (λx c e z=> ?_) λp hp z=> ?_
 ·obtain ⟨v,q⟩:=I.cell x c e;exact absurd (Z0q q.lt (by rw [z];exact hb)) (Nat.lt_irrefl _)
 ·exact absurd (Z0q (Z0a (I.pin p hp).1) (by rw [z];exact hb)) (Nat.lt_irrefl _)
structure D2g (P:Program) (w:World) (K:Frag) (tg:Expr) (J:It) (fp:List Addr) (it:Addr) (tn:Nat->Heap->Prop):Prop where
 mem:it∈fp
 obj:∀i h,tn i h->∀b∈fp,∃o,h.get? b=some o/\∀v,o.data≠.cell v
 keep:∀i h h',tn i h->(∀b∈fp,∀o,h.get? b=some o->h'.get? b=some o)->tn i h'
 item:∀(X:Cx),X.prog=P->X.w=w->X.K=K->X.calm=true->∀(i:Nat) (pins:List (Addr×Obj)) (s:Shared) (Z:St) (H:Hp) (E:Value->Shared->Prop),Inv X pins Z H s->(∀b∈fp,B8s X pins H b)->tn i s.heap->J.go i H->
  wpAny (model P w) X.A (pyNext (.ref it)) (λr s1=>∃u,r=some u/\
   wpAny (model P w) X.A (letOwnedTupleGo tg (.ref it) u) (λ_ s2=>∃x H',Inv X pins Z H' s2/\A2z x u/\J.yld i H x H'/\tn (i+1) s2.heap/\∀b∈fp,H' b=none) E s1) E s
 done:∀(X:Cx),X.prog=P->X.w=w->X.K=K->X.calm=true->∀(i:Nat) (pins:List (Addr×Obj)) (s:Shared) (Z:St) (H:Hp) (E:Value->Shared->Prop),Inv X pins Z H s->(∀b∈fp,B8s X pins H b)->tn i s.heap->J.stop i H->
  wpAny (model P w) X.A (pyNext (.ref it)) (λr s1=>r=none/\Inv X pins Z H s1) E s
 self:∀(A:Around) (i:Nat) (s:Shared) (Q:Value->Shared->Prop) (E:Value->Shared->Prop),tn i s.heap->Q (.ref it) s->wpAny (model P w) A (pyIter (.ref it)) Q E s
abbrev TI:=St->Hp->(It->Hp->Prop)->Prop
def PIE (X:Cx) (pins:List (Addr×Obj)) (Z:St) (tg:Expr) (R:It->Hp->Prop) (itv:Value) (s2:Shared):Prop :=
 ∃(it:Addr) (fp:List Addr) (tn:Nat->Heap->Prop) (J:It) (H':Hp),itv= .ref it/\Inv X pins Z H' s2/\D2g X.prog X.w X.K tg J fp it tn/\tn 0 s2.heap/\(∀b∈fp,B8s X pins H' b)/\R J H'
def PI (X:Cx) (tg iter:Expr) (wi:TI):Prop :=
 ∀(pins:List (Addr×Obj)) (s:Shared) (Z:St) (H:Hp) (R:It->Hp->Prop),Inv X pins Z H s->wi Z H R->
  wpAny (model X.prog X.w) X.A (eval iter X.env) (λv s1=>wpAny (model X.prog X.w) X.A (pyIter v) (PIE X pins Z tg R) X.xe s1) X.xe s
theorem C8j {M:Model} {it:Addr} {o:Obj} {n:String} {vs:Array Value} {Q:Unit->Shared->Prop} (ho:s.heap.get? it=some o) (hc:o.cls= .type n) (hd:o.data= .fields vs)
  (hn:["enumerate","zip","dict_itemiterator","dict_reverseitemiterator","odict_iterator","itertools.zip_longest","itertools.pairwise"].contains n=false) (hQ:Q () s):wpAny M A (letOwnedTupleGo tg (.ref it) u) Q E s:=by
 unfold letOwnedTupleGo
 cases tg <;> first
  | exact Z04 hQ
  | (cases u <;> first
    | exact Z04 hQ
    | (refine Z00 (wpAny_load ho ?_);rw [hc,hd];show wpAny M A (if (["enumerate","zip","dict_itemiterator","dict_reverseitemiterator","odict_iterator","itertools.zip_longest","itertools.pairwise"].contains n&&vs[0]? == some (rawInt _))=true then _ else _) Q E s;rw [Z0t (by intro h;rw [hn,Bool.false_and] at h;cases h)];exact Z04 hQ))
def Itl (K:Frag) (a:Addr):It :=
 ⟨λi H=>∃xs x,SqL K H a xs/\xs[i]? =some x,λi H x H'=>H'=H/\∀xs,SqL K H a xs->xs[i]? =some x,λi H=>∃xs,SqL K H a xs/\xs.length<=i⟩
def Itt (K:Frag) (a:Addr):It :=
 ⟨λi H=>∃xs x,SqT K H a xs/\xs[i]? =some x,λi H x H'=>H'=H/\∀xs,SqT K H a xs->xs[i]? =some x,λi H=>∃xs,SqT K H a xs/\xs.length<=i⟩
def Itr (lo:Int) (n:Nat):It:=⟨λi _=>i<n,λi H x H'=>H'=H/\x= .int (lo+i),λi _=>n<=i⟩
theorem C5u (a it:Addr):D2g P w K tg (Itl K a) [it] it (λi h=>h.IsListIter it a i) where
 mem:=by simp
 obj:=λi h st b hb=>by
  have e:b=it:=by simpa using hb
  subst e;obtain ⟨o,e,c,d⟩:=st;exact i02 o e λv z=>by rw [d] at z;cases z
 keep:=λi h h' st k=>st.at λo e=>k it (by simp) o e
 item:=by
  intro X hP hw hK hc i pins s Z H E I hf st hg;subst hP hw hK;obtain ⟨xs,x,hq,hx⟩:=hg;obtain ⟨its,rv,p,hz⟩:=I.list hq;obtain ⟨u,hu,ru⟩:=rv.get hx;obtain ⟨f0,f1,f2,f3,f4,f5⟩:=hf it (by simp);refine wpAny_pyNext_list_item st p.isList (x:=u) (by simpa using hu) λh' st' sb=> ?_;have I1:Inv X pins Z H { s with heap:=h' }:=I.turned (t':=s.toks) (λb o hb e=>(sb.2 b hb).trans e) f0 f1 f3 f4 f5
  obtain ⟨o,e,c,d⟩:=id st';exact i02 u rfl (C8j (s:={ s with heap:=h' }) e c d (by decide) (i0p x H I1 ru ⟨rfl,λys hy=>by rw [I.list_inj hy hq];exact hx⟩ st' λb hb=>(hf b hb).1))
 done:=by
  intro X hP hw hK hc i pins s Z H E I hf st hg;subst hP hw hK;obtain ⟨xs,hq,hx⟩:=hg;obtain ⟨its,rv,p,hz⟩:=I.list hq;obtain ⟨f0,f1,f2,f3,f4,f5⟩:=hf it (by simp);have hl:=rv.length;exact wpAny_pyNext_list_end (I.ok.hd hc) st p.isList (by simp;lia) λh' eb=>⟨rfl,I.turned (t':=s.toks) (λb o hb e=>eb b o hb e) f0 f1 f3 f4 f5⟩
 self:=λ_ _ _ _ _ st h=>wpAny_pyIter_listiter st h
theorem C2y (a it:Addr):D2g P w K tg (Itt K a) [it] it (λi h=>h.IsTupleIter it a i) where
 mem:=by simp
 obj:=λi h st b hb=>by
  have e:b=it:=by simpa using hb
  subst e;obtain ⟨o,e,c,d⟩:=st;exact i02 o e λv z=>by rw [d] at z;cases z
 keep:=λi h h' st k=>st.at λo e=>k it (by simp) o e
 item:=by
  intro X hP hw hK hc i pins s Z H E I hf st hg;subst hP hw hK;obtain ⟨xs,x,hq,hx⟩:=hg;obtain ⟨its,rv,p,hz⟩:=I.tuple hq;obtain ⟨u,hu,ru⟩:=rv.get hx;obtain ⟨f0,f1,f2,f3,f4,f5⟩:=hf it (by simp);refine wpAny_pyNext_tuple_item st (show s.heap.IsTuple a its.toArray from p) (x:=u) (by simpa using hu) λh' st' sb=> ?_;have I1:Inv X pins Z H { s with heap:=h' }:=I.turned (t':=s.toks) (λb o hb e=>(sb.2 b hb).trans e) f0 f1 f3 f4 f5
  obtain ⟨o,e,c,d⟩:=id st';exact i02 u rfl (C8j (s:={ s with heap:=h' }) e c d (by decide) (i0p x H I1 ru ⟨rfl,λys hy=>by rw [I.tuple_inj hy hq];exact hx⟩ st' λb hb=>(hf b hb).1))
 done:=by
  intro X hP hw hK hc i pins s Z H E I hf st hg;subst hP hw hK;obtain ⟨xs,hq,hx⟩:=hg;obtain ⟨its,rv,p,hz⟩:=I.tuple hq;obtain ⟨f0,f1,f2,f3,f4,f5⟩:=hf it (by simp);have hl:=rv.length;exact wpAny_pyNext_tuple_end (I.ok.hd hc) st (show s.heap.IsTuple a its.toArray from p) (by simp;lia) λh' eb=>⟨rfl,I.turned (t':=s.toks) (λb o hb e=>eb b o hb e) f0 f1 f3 f4 f5⟩
 self:=λ_ _ _ _ _ st h=>wpAny_pyIter_tupleiter st h
theorem C4m (it:Addr) (lo:Int) (n:Nat):D2g P w K tg (Itr lo n) [it] it (λi h=>IsRangeIter h it (lo+(i:Nat)*1) ((n:Int)-(i:Nat)) 1) where
 mem:=by simp
 obj:=λi h st b hb=>by
  have e:b=it:=by simpa using hb
  subst e
  exact ⟨_,st,λv z=>by
   have z':Data.fields _=Data.cell v:=z
   cases z'⟩
 keep:=λi h h' st k=>k it (by simp) _ st
 item:=by
  intro X hP hw hK hc i pins s Z H E I hf st hg;subst hP hw hK;obtain ⟨f0,f1,f2,f3,f4,f5⟩:=hf it (by simp);have W:=Walks.range (prog:=X.prog) (w:=X.w) (I.ok.hd hc) it lo 1 n;refine W.item i s _ _ hg st λv h' tk hv st' kk=> ?_;obtain ⟨t,rfl⟩:=hv;have I1:Inv X pins Z H { s with heap:=h',toks:=tk }:=I.turned (λb o hb e=>kk b o (by simpa using hb) e) f0 f1 f3 f4 f5
  refine i02 _ rfl (C8j (s:={ s with heap:=h',toks:=tk }) (n:="range_iterator") st' rfl rfl (by decide) (i0p (.int (lo+i)) H I1 ⟨t,?_⟩ ⟨rfl,rfl⟩ st' λb hb=>(hf b hb).1))
  rw [Int.mul_one]
 done:=by
  intro X hP hw hK hc i pins s Z H E I hf st hg;subst hP hw hK;obtain ⟨f0,f1,f2,f3,f4,f5⟩:=hf it (by simp);exact wpAny_pyNext_range_end (I.ok.hd hc) st (by have:n<=i:=hg;lia) λh' eb=>⟨rfl,I.turned (t':=s.toks) (λb o hb e=>eb b o hb e) f0 f1 f3 f4 f5⟩
 self:=λ_ _ _ _ _ st h=>wpAny_pyIter_rangeiter st h
section
variable {X:Cx} {tg:Expr}
def D8s (K:Frag) (tl:TE):TI:=λZ H R=>tl Z H λx H1=>∃a,x= .ref a/\(∃xs,SqL K H1 a xs)/\R (Itl K a) H1
def E2b (K:Frag) (tl:TE):TI:=λZ H R=>tl Z H λx H1=>∃a,x= .ref a/\(∃xs,SqT K H1 a xs)/\R (Itt K a) H1
theorem A2m {l:Expr} {tl:TE} (hl:PE X l tl):PI X tg l (D8s X.K tl):=by
 intro pins s Z H R I h;refine thn (hl pins s Z H _ I h) ?_;rintro v s1 ⟨x,H1,I1,r1,q1⟩;obtain ⟨a,e,⟨xs,hq⟩,q⟩:=q1;subst e;cases r1;obtain ⟨its,rv,p,hz⟩:=I1.list hq;refine wpAny_pyIter_list p.isList ?_;refine i12 s1.heap.objs.size [s1.heap.objs.size] _ _ H1 rfl (I1.kept (t':=s1.toks) λb o e=>Z01 _ e) (C5u a _) (i06 _ (Z0c _ rfl) rfl rfl) (λb hb=> ?_) q;have e:b=s1.heap.objs.size:=by simpa using hb
 subst e;exact I1.fpOk (Z09 _) (I1.hok.fresh (Z09 _))
theorem D9k {l:Expr} {tl:TE} (hl:PE X l tl):PI X tg l (E2b X.K tl):=by
 intro pins s Z H R I h;refine thn (hl pins s Z H _ I h) ?_;rintro v s1 ⟨x,H1,I1,r1,q1⟩;obtain ⟨a,e,⟨xs,hq⟩,q⟩:=q1;subst e;cases r1;obtain ⟨its,rv,p,hz⟩:=I1.tuple hq;refine wpAny_pyIter_tuple (show s1.heap.IsTuple a its.toArray from p) ?_;refine i12 s1.heap.objs.size [s1.heap.objs.size] _ _ H1 rfl (I1.kept (t':=s1.toks) λb o e=>Z01 _ e) (C2y a _) (i06 _ (Z0c _ rfl) rfl rfl) (λb hb=> ?_) q;have e:b=s1.heap.objs.size:=by simpa using hb
 subst e;exact I1.fpOk (Z09 _) (I1.hok.fresh (Z09 _))
theorem D0f {R:It->Hp->Prop} {lo hi:Int} {t u v:Tok} {tk:Nat} (I:Inv X pins Z H s) (h1: -(2^62)<=lo) (h2:lo<2^62) (h3: -(2^62)<=hi) (h4:hi<2^62)
  (q:R (Itr lo (hi-lo).toNat) H):wpAny (model X.prog X.w) X.A (pyIter (.ref s.heap.objs.size)) (PIE X pins Z tg R) E { s with heap:=s.heap.push { cls:= .type "range",data:= .fields #[.int lo t,.int hi u,.int 1 v] },toks:=tk }:=by
 refine wpAny_pyIter_range (IsRange.new ..) (small_one h1 h2 h3 h4) ?_;have I1:Inv X pins Z H { s with heap:=s.heap.push { cls:= .type "range",data:= .fields #[.int lo t,.int hi u,.int 1 v] },toks:=tk }:=I.kept λb o e=>Z01 _ e
 refine ⟨(s.heap.push { cls:= .type "range",data:= .fields #[.int lo t,.int hi u,.int 1 v] }).objs.size,[(s.heap.push { cls:= .type "range",data:= .fields #[.int lo t,.int hi u,.int 1 v] }).objs.size],_,_,H,rfl,
  I1.kept (t':=tk) λb o e=>Z01 _ e,C4m _ lo (hi-lo).toNat,?_,λb hb=> ?_,q⟩
 ·have e1:lo+((0:Nat):Int)*1=lo:=by simp
  have e2:(((hi-lo).toNat:Nat):Int)-((0:Nat):Int)=Builtin.Range.rangeSize lo hi 1:=by rw [rangeSize_one];split <;> lia
  show IsRangeIter _ _ (lo+((0:Nat):Int)*1) ((((hi-lo).toNat:Nat):Int)-((0:Nat):Int)) 1;rw [e1,e2];exact Z0c _ rfl
 ·have e:b=(s.heap.push { cls:= .type "range",data:= .fields #[.int lo t,.int hi u,.int 1 v] }).objs.size:=by simpa using hb
  subst e;exact I1.fpOk (Z09 _) (I1.hok.fresh (Z09 _))
def E1n (ta:TA):TI:=λZ H R=>ta Z H λvs H1=>∃j:Int,vs=[.int j]/\-(2^62)<=j/\j<2^62/\R (Itr 0 j.toNat) H1
theorem A3p {a:Expr} {ta:TA} {p pos:Pos} (hg:Gl X "range") (hm:X.mg "range"=none) (ha:PA X [a] ta) (hs:starEach [a] X.env=[(false,eval a X.env)]:=by rfl):PI X tg (.Call (.Name "range" p) [a] [] pos) (E1n ta):=by
 intro pins s Z H R I h;refine Call_ (B0o I hg hm boot_range (PyProof.Rows.callWith_type1 (thn (ha pos pins s Z H _ I h) ?_) hs rfl));rintro us s1 ⟨vs,H1,I1,r1,q1⟩;obtain ⟨j,e,q1,q2,q⟩:=q1;subst e
 cases r1 with
 | cons r rr =>
  cases rr
  obtain ⟨t,rfl⟩:=r;exact call_range_1 (D0f I1 (by lia) (by lia) q1 q2 (by simpa using q))
def tFor (wi:TI) (g:TG) (tb:TS):TS:=λD Z H=>wi Z H λJ H1=>∃W:Nat->Nat->St->Hp->Prop,(∃m,W 0 m Z H1)/\∀i m Z H,W i m Z H->
 (J.stop i H/\D.nx Z H)\/(J.go i H/\∃N:St->Hp->Prop,(∀Z' H',N Z' H'->∃m',m'<m/\W (i+1) m' Z' H')/\∀x H',J.yld i H x H'->g x Z H' λZ2 H2=>tb { D with nx:=N,ct:=N,bk:=D.nx } Z2 H2)
def B4o (fp:List Addr) (h:Heap):List (Addr×Obj):=fp.filterMap λb=>(h.get? b).map λo=>(b,o)
theorem A5k {b:Addr} {o:Obj} (hb:b∈fp) (e:h.get? b=some o):(b,o)∈B4o fp h:=List.mem_filterMap.mpr (i02 b hb (by rw [e];rfl))
theorem C5b {p:Addr×Obj} (hp:p∈B4o fp h):p.1∈fp/\h.get? p.1=some p.2:=by
 obtain ⟨b,hb,e⟩:=List.mem_filterMap.mp hp
 cases q:h.get? b with
 | none=>rw [q] at e;cases e
 | some o =>
  rw [q] at e;have e':(b,o)=p:=Z1a e;subst e';exact ⟨hb,q⟩
theorem Inv.pinned (I:Inv X pins Z H s) (hf:∀b∈fp,B8s X pins H b) (ho:∀b∈fp,∃o,s.heap.get? b=some o/\∀v,o.data≠.cell v):Inv X (pins++B4o fp s.heap) Z H s :=
 I.pins_of λp hp=>(Z07.mp hp).elim (λz=>I.pin p (Z02 _ z)) λz=>by
  obtain ⟨hb,e⟩:=C5b z;obtain ⟨f0,f1,f2,_⟩:=hf p.1 hb;obtain ⟨o,e',d⟩:=ho p.1 hb;rw [e] at e';cases e';exact i08 e f0 f1 f2 d
theorem Inv.unpinned {pl:List (Addr×Obj)} (I:Inv X (pins++pl) Z H s):Inv X pins Z H s:=I.pins_of λp hp=>I.pin p (Z02 _ (Z05 _ hp))
theorem A2g {iter:Expr} {body:List Stmt} {wi:TI} {g:TG} {tb:TS} {pos:Pos} (hi:PI X tg iter wi) (hg:PG X tg g) (hb:PSs X body tb) (hp:PassesOwn (model X.prog X.w) X.A X.env X.xe:=by exact PassesOwn.never) (hc:X.calm=true:=by rfl)
  (hs:∀x,foldedSetIterable iter X.env x=pure x:=by intro _;rfl):PS X (.For tg iter body [] pos) (tFor wi g tb):=by
 intro pins s Z H D I h;refine wpAny_For (thn (hi pins s Z H _ I h) λv s1 h1=>thn h1 λitv s2 h2=> ?_) hs;refine e0d h2 ?_;clear h2;rintro it fp tn J H2 e I2 T st2 ⟨f2,W,⟨m0,w0⟩,turn⟩;subst e;have stat:∀{H':Hp},(∀b∈fp,H' b=none)->∀b∈fp,B8s X pins H' b:=λhn b hb=>⟨hn b hb,(f2 b hb).2⟩;refine codeAny_forLoop_any (λn s'=>∃i Z' H',Inv X pins Z' H' s'/\tn i s'.heap/\(∀b∈fp,H' b=none)/\W i n Z' H') ?_ m0 (i0q 0 Z H2 I2 st2 (λb hb=>(f2 b hb).1) w0);refine λn s3 zz=>e08 zz λi Z3 H3 I3 st3 fr3 w3=>?_;clear zz;rcases turn i n Z3 H3 w3 with ⟨stop,qn⟩ | ⟨go,N,hN,step⟩
 ·refine wpAny_passesOwn hp (thn (T.done X rfl rfl rfl hc i pins s3 Z3 H3 X.xe I3 (stat fr3) st3 stop) ?_);rintro r s4 ⟨hr,I4⟩;subst hr;exact Z2b (i07 Z3 H3 I4 qn)
 ·refine wpAny_passesOwn hp (thn (T.item X rfl rfl rfl hc i pins s3 Z3 H3 X.xe I3 (stat fr3) st3 go) ?_);rintro r s4 ⟨u,hr,h4⟩;subst hr;refine wpAny_passesOwn hp (thn h4 ?_);rintro _ s5 zz;refine e06 zz ?_;clear zz;rintro x H5 I5 r5 y5 ⟨st5,fr5⟩;have I5':=I5.pinned (stat fr5) (T.obj _ _ st5);refine wpAny_passesOwn hp (thn (hg _ s5 Z3 H5 x u _ I5' r5 (step x H5 y5)) ?_);rintro _ s6 ⟨Z6,H6,I6,q6⟩;refine wpAny_passesOwn hp (thn (hb _ s6 Z6 H6 _ I6 q6) λf s7 q7=> ?_)
  have again:∀{Z7:St} {H7:Hp},Inv X (pins++B4o fp s5.heap) Z7 H7 s7->N Z7 H7->∃m,m<n/\∃i Z' H',Inv X pins Z' H' s7/\tn i s7.heap/\(∀b∈fp,H' b=none)/\W i m Z' H':=λ{Z7 H7} I7 n7=>by
   obtain ⟨m',hm,w7⟩:=hN Z7 H7 n7;refine i02 m' hm (i0q (i+1) Z7 H7 I7.unpinned (T.keep _ _ _ st5 λb hb o e=>(I7.pin (b,o) (Z02 _ (Z02 _ (A5k hb e)))).1) (λb hb=> ?_) w7);obtain ⟨o,e,d⟩:=T.obj _ _ st5 b hb;exact (I7.pin (b,o) (Z02 _ (Z02 _ (A5k hb e)))).2.1
  cases f with
  | next=>obtain ⟨Z7,H7,I7,n7⟩:=q7;exact again I7 n7
  | cont=>obtain ⟨Z7,H7,I7,n7⟩:=q7;exact again I7 n7
  | brk=>obtain ⟨Z7,H7,I7,q7⟩:=q7;exact i07 Z7 H7 I7.unpinned q7
  | ret v=>obtain ⟨x7,Z7,H7,I7,r7,q7⟩:=q7;exact i0n x7 Z7 H7 I7.unpinned r7 q7
end
theorem A3k {a:Addr} {xs:List V} {g:TG} {tb:TS} {D:C0x} (Pv:Nat->St->Hp->Prop) (h0:Pv 0 Z H) (hl:∀i Z H,i<=xs.length->Pv i Z H->SqL K H a xs)
  (hs:∀i x Z H,xs[i]? =some x->Pv i Z H->g x Z H λZ2 H2=>tb { D with nx:=Pv (i+1),ct:=Pv (i+1),bk:=D.nx } Z2 H2) (hd:∀Z H,Pv xs.length Z H->D.nx Z H) :
  ∃W:Nat->Nat->St->Hp->Prop,(∃m,W 0 m Z H)/\∀i m Z H,W i m Z H->
   ((Itl K a).stop i H/\D.nx Z H)\/((Itl K a).go i H/\∃N:St->Hp->Prop,(∀Z' H',N Z' H'->∃m',m'<m/\W (i+1) m' Z' H')/\∀x H',(Itl K a).yld i H x H'->g x Z H' λZ2 H2=>tb { D with nx:=N,ct:=N,bk:=D.nx } Z2 H2):=by
 refine i02 (λi m Z H=>m=xs.length-i/\i<=xs.length/\Pv i Z H) (i06 xs.length (by simp) (Z1e _) h0) ?_;rintro i m Z H ⟨rfl,hi,p⟩;have q:=hl i Z H hi p;by_cases hlt:i<xs.length
 ·refine .inr (i05 (i07 xs (xs[i]) q (by simp [hlt])) (Pv (i+1)) (λZ' H' p'=>(i0c (xs.length-(i+1)) (by lia) rfl hlt p')) λx H' y=> ?_);obtain ⟨e,y⟩:=y;subst e;exact hs i x Z _ (y xs q) p
 ·have e:i=xs.length:=by lia
  subst e;exact .inl ⟨(i02 xs q (Z09 _)),hd Z H p⟩
theorem A6n {lo:Int} {n:Nat} {g:TG} {tb:TS} {D:C0x} (Pv:Nat->St->Hp->Prop) (h0:Pv 0 Z H)
  (hs:∀i Z H,i<n->Pv i Z H->g (.int (lo+i)) Z H λZ2 H2=>tb { D with nx:=Pv (i+1),ct:=Pv (i+1),bk:=D.nx } Z2 H2) (hd:∀Z H,Pv n Z H->D.nx Z H) :
  ∃W:Nat->Nat->St->Hp->Prop,(∃m,W 0 m Z H)/\∀i m Z H,W i m Z H->
   ((Itr lo n).stop i H/\D.nx Z H)\/((Itr lo n).go i H/\∃N:St->Hp->Prop,(∀Z' H',N Z' H'->∃m',m'<m/\W (i+1) m' Z' H')/\∀x H',(Itr lo n).yld i H x H'->g x Z H' λZ2 H2=>tb { D with nx:=N,ct:=N,bk:=D.nx } Z2 H2):=by
 refine i02 (λi m Z H=>m=n-i/\i<=n/\Pv i Z H) (i06 n (by simp) (Z1e _) h0) ?_;rintro i m Z H ⟨rfl,hi,p⟩;by_cases hlt:i<n
 ·refine .inr (i05 hlt (Pv (i+1)) (λZ' H' p'=>(i0c (n-(i+1)) (by lia) rfl hlt p')) λx H' y=> ?_);obtain ⟨e,y⟩:=y;subst e y;exact hs i Z _ hlt p
 ·have e:i=n:=by lia
  subst e;exact .inl ⟨Z09 _,hd Z H p⟩
abbrev R2:=V->V->Hp->VK->Prop
def OpR (X:Cx) (f:Value->Value->Sem Value) (r:R2):Prop :=
 ∀(pins:List (Addr×Obj)) (s:Shared) (Z:St) (H:Hp) (x y:V) (v u:Value) (Q:VK),Inv X pins Z H s->A2z x v->A2z y u->r x y H Q->
  wpAny (model X.prog X.w) X.A (f v u) (EP X pins Z Q) X.xe s
def UnR (X:Cx) (f:Value->Sem Value) (r:V->Hp->VK->Prop):Prop :=
 ∀(pins:List (Addr×Obj)) (s:Shared) (Z:St) (H:Hp) (x:V) (v:Value) (Q:VK),Inv X pins Z H s->A2z x v->r x H Q->
  wpAny (model X.prog X.w) X.A (f v) (EP X pins Z Q) X.xe s
def A9d (X:Cx) (f:Value) (r:List V->Hp->VK->Prop):Prop :=
 ∀(pins:List (Addr×Obj)) (s:Shared) (Z:St) (H:Hp) (xs:List V) (us:List Value) (Q:VK),Inv X pins Z H s->A2p xs us->r xs H Q->
  wpAny (model X.prog X.w) X.A (call f us) (EP X pins Z Q) X.xe s
def tOp (r:R2) (ta tb:TE):TE:=λZ H Q=>ta Z H λx H1=>tb Z H1 λy H2=>r x y H2 Q
def tUn (r:V->Hp->VK->Prop) (ta:TE):TE:=λZ H Q=>ta Z H λx H1=>r x H1 Q
def rI (C:Int->Int->Prop) (g:Int->Int->V):R2:=λx y H Q=>∃i j,x= .int i/\y= .int j/\C i j/\Q (g i j) H
def rI0 (g:Int->Int->V):R2:=λx y H Q=>∃i j,x= .int i/\y= .int j/\Q (g i j) H
def rU (g:Int->V):V->Hp->VK->Prop:=λx H Q=>∃i,x= .int i/\Q (g i) H
section
variable {X:Cx} {a b c:Expr} {ta tb tc:TE} {pos:Pos}
theorem E1l (ha:PE X a ta) (hb:PE X b tb) {R:V->V->Hp->Prop} (I:Inv X pins Z H s)
  (h:ta Z H λx H1=>tb Z H1 λy H2=>R x y H2)
  (hf:∀v u s2 x y H2,Inv X pins Z H2 s2->A2z x v->A2z y u->R x y H2->wpAny (model X.prog X.w) X.A (f v u) Q X.xe s2) :
  wpAny (model X.prog X.w) X.A (eval a X.env) (λv s₁=>wpAny (model X.prog X.w) X.A (eval b X.env) (λu s₂=>wpAny (model X.prog X.w) X.A (f v u) Q X.xe s₂) X.xe s₁) X.xe s:=by
 refine thn (ha pins s Z H _ I h) ?_;rintro v s1 ⟨x,H1,I1,r1,q1⟩;refine thn (hb pins s1 Z H1 _ I1 q1) ?_;rintro u s2 ⟨y,H2,I2,r2,q2⟩;exact hf v u s2 x y H2 I2 r1 r2 q2
theorem A0n {op:Operator} {r:R2} (ho:OpR X (binaryOp op) r) (ha:PE X a ta) (hb:PE X b tb):PE X (.BinOp a op b pos) (tOp r ta tb):=by
 intro pins s Z H Q I h;exact wpAny_BinOp (E1l ha hb I h λv u s2 x y H2 I2 rx ry q=>ho pins s2 Z H2 x y v u Q I2 rx ry q)
theorem C9c {op:UnaryOp} {r:V->Hp->VK->Prop} (ho:UnR X (unaryOp op) r) (ha:PE X a ta):PE X (.UnaryOp op a pos) (tUn r ta):=by
 intro pins s Z H Q I h;exact UnaryOp_ (thn (ha pins s Z H _ I h) (by rintro v s1 ⟨x,H1,I1,r1,q1⟩;exact ho pins s1 Z H1 x v Q I1 r1 q1))
theorem opI {C:Int->Int->Prop}
  (rule:∀(i j:Int) (t u:Tok) (s:Shared) (Q:Value->Shared->Prop) (E:Value->Shared->Prop),C i j->Q (.int (g i j) s.toks) { s with toks:=s.toks+1 }->wpAny (model X.prog X.w) X.A (f (.int i t) (.int j u)) Q E s) :
  OpR X f (rI C λi j=> .int (g i j)):=by
 intro pins s Z H x y v u Q I rx ry h;obtain ⟨i,j,rfl,rfl,hc,q⟩:=h;obtain ⟨t,rfl⟩:=rx;obtain ⟨t',rfl⟩:=ry;exact rule i j t t' s _ _ hc (i0f (.int (g i j)) H (I.tok _) ⟨_,rfl⟩ q)
theorem E1x
  (rule:∀(i j:Int) (t u:Tok) (s:Shared) (Q:Value->Shared->Prop) (E:Value->Shared->Prop),Q (.int (g i j) s.toks) { s with toks:=s.toks+1 }->wpAny (model X.prog X.w) X.A (f (.int i t) (.int j u)) Q E s) :
  OpR X f (rI0 λi j=> .int (g i j)):=by
 intro pins s Z H x y v u Q I rx ry h;obtain ⟨i,j,rfl,rfl,q⟩:=h;obtain ⟨t,rfl⟩:=rx;obtain ⟨t',rfl⟩:=ry;exact rule i j t t' s _ _ (i0f (.int (g i j)) H (I.tok _) ⟨_,rfl⟩ q)
theorem D9x {g:Int->Int->Bool}
  (rule:∀(i j:Int) (t u:Tok) (s:Shared) (Q:Value->Shared->Prop) (E:Value->Shared->Prop),Q (.bool (g i j)) s->wpAny (model X.prog X.w) X.A (f (.int i t) (.int j u)) Q E s) :
  OpR X f (rI0 λi j=> .bl (g i j)):=by
 intro pins s Z H x y v u Q I rx ry h;obtain ⟨i,j,rfl,rfl,q⟩:=h;obtain ⟨t,rfl⟩:=rx;obtain ⟨t',rfl⟩:=ry;exact rule i j t t' s _ _ (i0f (.bl (g i j)) H I rfl q)
def CDiv (i j:Int):Prop:=0<j/\j<1073741824
def CPow (i j:Int):Prop:=0<=j/\j<=1000000/\i.natAbs<2^64
def E0g (i j:Int):Prop:=(-(2^64)<i/\i<2^64)\/(-(2^64)<j/\j<2^64)
theorem E0g.ok {i j:Int} (h:E0g i j):IntMulOk i j:=by
 rcases h with ⟨h1,h2⟩ | ⟨h1,h2⟩
 ·exact .of_left (intBits_le_64 h1 h2)
 ·exact .of_right (intBits_le_64 h1 h2)
theorem A2k:OpR X (binaryOp .Add) (rI0 λi j=> .int (i+j)):=E1x λ_ _ _ _ _ _ _ q=>add_int q
theorem A5c:OpR X (binaryOp .Sub) (rI0 λi j=> .int (i-j)):=E1x λ_ _ _ _ _ _ _ q=>sub_int q
theorem A7k:OpR X (binaryOp .Mult) (rI E0g λi j=> .int (i*j)):=opI λ_ _ _ _ _ _ _ hc q=>mul_int q hc.ok
theorem A2h:OpR X (binaryOp .FloorDiv) (rI CDiv λi j=> .int (i/j)):=opI λi j _ _ _ _ _ hc q=>by
 have h1:(0:Int)<j:=hc.1;have h2:j<1073741824:=hc.2;exact floordiv_int (by lia) (by rw [Int.fdiv_eq_ediv_of_nonneg i (by lia)];exact q) (.inl (PyProof.noPylong_small (by lia)))
theorem A1i:OpR X (binaryOp .Mod) (rI (λ_ j=>0<j) λi j=> .int (i%j)):=opI λi j _ _ _ _ _ hc q=>by
 have h1:(0:Int)<j:=hc;exact mod_int' (by lia) (by rw [Int.fmod_eq_emod_of_nonneg i (by lia)];exact q)
theorem A7h:OpR X (binaryOp .Pow) (rI CPow λi j=> .int (i^j.toNat)):=opI λ_ _ _ _ _ _ _ hc q=>pow_int_small hc.1 hc.2.1 hc.2.2 q
theorem unI {f:Value->Sem Value} {g:Int->Int}
  (rule:∀(i:Int) (t:Tok) (s:Shared) (Q:Value->Shared->Prop) (E:Value->Shared->Prop),Q (.int (g i) s.toks) { s with toks:=s.toks+1 }->wpAny (model X.prog X.w) X.A (f (.int i t)) Q E s) :
  UnR X f (rU λi=> .int (g i)):=by
 intro pins s Z H x v Q I rx h;obtain ⟨i,rfl,q⟩:=h;obtain ⟨t,rfl⟩:=rx;exact rule i t s _ _ (i0f (.int (g i)) H (I.tok _) ⟨_,rfl⟩ q)
theorem C1s:UnR X (unaryOp .USub) (rU λi=> .int (-i)):=unI λ_ _ _ _ _ q=>neg_int q
end
def E1r:V->V->Bool
 | .non,.non=>true | .non,.int _=>true | .int _,.non=>true | .non,.bl _=>true | .bl _,.non=>true | .non,.str _=>true | .str _,.non=>true
 | .int _,.int _=>true | .bl _,.bl _=>true | .str _,.str _=>true | .byt _,.byt _=>true
 | .int _,.str _=>true | .str _,.int _=>true | .bl _,.str _=>true | .str _,.bl _=>true
 | _,_=>false
def rEq:R2:=λx y H Q=>E1r x y=true/\Q (.bl (decide (x=y))) H
def rNe:R2:=λx y H Q=>E1r x y=true/\Q (.bl (! decide (x=y))) H
theorem C7e {i j:Int}:decide (V.int i=V.int j)=(i == j):=by
 rw [Bool.eq_iff_iff];simp
theorem D2n {i j:Bool}:decide (V.bl i=V.bl j)=(i == j):=by
 rw [Bool.eq_iff_iff];simp
theorem C7x {i j:Str}:decide (V.str i=V.str j)=(i == j):=by
 rw [Bool.eq_iff_iff];simp
theorem C6h {i j:Array UInt8}:decide (V.byt i=V.byt j)=(i.toList == j.toList):=by
 rw [Bool.eq_iff_iff];cases i;cases j;simp
section
variable {X:Cx} {a b c:Expr} {ta tb tc:TE} {pos:Pos}
theorem A2i {Q:VK} {k k':Bool} (I:Inv X pins Z H s) (q:Q (.bl k) H) (e:k=k'):EP X pins Z Q (.bool k') s:=by
 subst e;exact i0f (.bl k) H I rfl q
theorem A3n:OpR X (compareOp .Eq) rEq:=by
 intro pins s Z H x y v u Q I rx ry h;obtain ⟨hs,q⟩:=h
 cases x with
 | non =>
  cases rx
  cases y with
  | non=>cases ry;exact PySem.EqNone.eq_none_none (A2i I q (by simp))
  | bl j=>cases ry;exact PySem.EqNone.eq_none_bool (A2i I q (by simp))
  | int j=>obtain ⟨t',rfl⟩:=ry;exact PySem.EqNone.eq_none_int (A2i I q (by simp))
  | str j=>obtain ⟨t',rfl⟩:=ry;exact PySem.EqNone.eq_none_str (A2i I q (by simp))
  | _=>exact absurd (show false=true from hs) Z0v
 | bl i =>
  cases rx
  cases y with
  | non=>cases ry;exact PySem.EqNone.eq_bool_none (A2i I q (by simp))
  | bl j=>cases ry;exact eq_bool (A2i I q D2n)
  | str j=>obtain ⟨t',rfl⟩:=ry;exact PySem.EqMixed.eq_bool_str (A2i I q (by simp))
  | _=>exact absurd (show false=true from hs) Z0v
 | int i =>
  obtain ⟨t,rfl⟩:=rx
  cases y with
  | non=>cases ry;exact PySem.EqNone.eq_int_none (A2i I q (by simp))
  | int j=>obtain ⟨t',rfl⟩:=ry;exact eq_int (A2i I q C7e)
  | str j=>obtain ⟨t',rfl⟩:=ry;exact PySem.EqMixed.eq_int_str (A2i I q (by simp))
  | _=>exact absurd (show false=true from hs) Z0v
 | str i =>
  obtain ⟨t,rfl⟩:=rx
  cases y with
  | non=>cases ry;exact PySem.EqNone.eq_str_none (A2i I q (by simp))
  | bl j=>cases ry;exact PySem.EqMixed.eq_str_bool (A2i I q (by simp))
  | int j=>obtain ⟨t',rfl⟩:=ry;exact PySem.EqMixed.eq_str_int (A2i I q (by simp))
  | str j=>obtain ⟨t',rfl⟩:=ry;exact eq_str (A2i I q C7x)
  | _=>exact absurd (show false=true from hs) Z0v
 | byt i =>
  obtain ⟨t,rfl⟩:=rx
  cases y with
  | byt j=>obtain ⟨t',rfl⟩:=ry;exact PySem.W.eq_bytes (A2i I q C6h)
  | _=>exact absurd (show false=true from hs) Z0v
 | _=>cases y <;> exact absurd (show false=true from hs) Z0v
theorem C3w:OpR X (compareOp .NotEq) rNe:=by
 intro pins s Z H x y v u Q I rx ry h;obtain ⟨hs,q⟩:=h
 cases x with
 | non =>
  cases rx
  cases y with
  | non=>cases ry;exact PySem.EqNone.ne_none_none (A2i I q (by simp))
  | bl j=>cases ry;exact PySem.EqNone.ne_none_bool (A2i I q (by simp))
  | int j=>obtain ⟨t',rfl⟩:=ry;exact PySem.EqNone.ne_none_int (A2i I q (by simp))
  | str j=>obtain ⟨t',rfl⟩:=ry;exact PySem.EqNone.ne_none_str (A2i I q (by simp))
  | _=>exact absurd (show false=true from hs) Z0v
 | bl i =>
  cases rx
  cases y with
  | non=>cases ry;exact PySem.EqNone.ne_bool_none (A2i I q (by simp))
  | bl j=>cases ry;exact ne_bool (A2i I q (congrArg not D2n))
  | str j=>obtain ⟨t',rfl⟩:=ry;exact PySem.EqMixed.ne_bool_str (A2i I q (by simp))
  | _=>exact absurd (show false=true from hs) Z0v
 | int i =>
  obtain ⟨t,rfl⟩:=rx
  cases y with
  | non=>cases ry;exact PySem.EqNone.ne_int_none (A2i I q (by simp))
  | int j=>obtain ⟨t',rfl⟩:=ry;exact ne_int (A2i I q (congrArg not C7e))
  | str j=>obtain ⟨t',rfl⟩:=ry;exact PySem.EqMixed.ne_int_str (A2i I q (by simp))
  | _=>exact absurd (show false=true from hs) Z0v
 | str i =>
  obtain ⟨t,rfl⟩:=rx
  cases y with
  | non=>cases ry;exact PySem.EqNone.ne_str_none (A2i I q (by simp))
  | bl j=>cases ry;exact PySem.EqMixed.ne_str_bool (A2i I q (by simp))
  | int j=>obtain ⟨t',rfl⟩:=ry;exact PySem.EqMixed.ne_str_int (A2i I q (by simp))
  | str j=>obtain ⟨t',rfl⟩:=ry;exact ne_str (A2i I q (congrArg not C7x))
  | _=>exact absurd (show false=true from hs) Z0v
 | byt i =>
  obtain ⟨t,rfl⟩:=rx
  cases y with
  | byt j=>obtain ⟨t',rfl⟩:=ry;exact PySem.W.ne_bytes (A2i I q (congrArg not C6h))
  | _=>exact absurd (show false=true from hs) Z0v
 | _=>cases y <;> exact absurd (show false=true from hs) Z0v
theorem D0t:OpR X (compareOp .Lt) (rI0 λi j=> .bl (decide (i<j))):=D9x λ_ _ _ _ _ _ _ q=>lt_int q
theorem D7x:OpR X (compareOp .LtE) (rI0 λi j=> .bl (decide (i<=j))):=D9x λ_ _ _ _ _ _ _ q=>le_int q
theorem C0n:OpR X (compareOp .Gt) (rI0 λi j=> .bl (decide (j<i))):=D9x λ_ _ _ _ _ _ _ q=>gt_int q
theorem E0y:OpR X (compareOp .GtE) (rI0 λi j=> .bl (decide (j<=i))):=D9x λ_ _ _ _ _ _ _ q=>ge_int q
theorem A1f (b:Expr) (h:op≠.In:=by decide) (h2:op≠.NotIn:=by decide):behindInMarks op b=false:=by
 have e1:(op == CmpOp.In)=false:=by cases op <;> first | rfl | exact absurd rfl h
 have e2:(op == CmpOp.NotIn)=false:=by cases op <;> first | rfl | exact absurd rfl h2
 cases b <;> simp [behindInMarks,e1,e2]
theorem C8t {r:R2} (ho:OpR X (compareOp op) r) (ha:PE X a ta) (hb:PE X b tb) (hm:behindInMarks op b=false):PE X (.Compare a [op] [b] pos) (tOp r ta tb):=by
 intro pins s Z H Q I h;exact wpAny_Compare1 (E1l ha hb I h λv u s2 x y H2 I2 rx ry q=>ho pins s2 Z H2 x y v u Q I2 rx ry q) hm
def D8z (t:TE):TT:=λZ H Q=>t Z H λx H'=>∃k,x= .bl k/\Q k H'
theorem A0w {r:R2} (ho:OpR X (compareOp op) r) (ha:PE X a ta) (hb:PE X b tb) (hm:behindInMarks op b=false):PT X (.Compare a [op] [b] pos) (D8z (tOp r ta tb)):=by
 intro pins s Z H Q I h
 refine wpAny_isTrue_Compare1 (thn (ha pins s Z H _ I h) λv s1 ⟨x,H1,I1,r1,q1⟩=>thn (hb pins s1 Z H1 _ I1 q1) λu s2 ⟨y,H2,I2,r2,q2⟩ =>
  thn (ho pins s2 Z H2 x y v u _ I2 r1 r2 q2) λc s3 ⟨z,H3,I3,r3,k,e,q3⟩=> ?_) hm
 subst e;cases r3;exact wpAny_truthy_bool (i02 H3 I3 q3)
def D9c (r r':R2) (ta tb tc:TE):TE:=λZ H Q=>ta Z H λx H1=>tb Z H1 λy H2=>r x y H2 λz H3=>∃k,z= .bl k/\
 (if k=true then tc Z H3 λw' H4=>r' y w' H4 Q else Q (.bl false) H3)
theorem D1d {op':CmpOp} {r r':R2} (ho:OpR X (compareOp op) r) (ho':OpR X (compareOp op') r') (ha:PE X a ta) (hb:PE X b tb) (hc:PE X c tc)
  (hm:lastMarks [op,op'] [b,c]=false:=by with_unfolding_all rfl):PE X (.Compare a [op,op'] [b,c] pos) (D9c r r' ta tb tc):=by
 intro pins s Z H Q I h
 refine Compare_chain (thn (ha pins s Z H _ I h) λv s1 ⟨x,H1,I1,r1,q1⟩=>chain_link (thn (hb pins s1 Z H1 _ I1 q1) λu s2 ⟨y,H2,I2,r2,q2⟩ =>
  thn (ho pins s2 Z H2 x y v u _ I2 r1 r2 q2) λd s3 ⟨z,H3,I3,r3,k,e,q3⟩=> ?_)) hm
 subst e;cases r3;refine wpAny_truthy_bool ?_
 cases k with
 | false=>exact ite_ff (i0f (.bl false) H3 I3 rfl q3)
 | true=>exact ite_tt (chain_last (thn (hc pins s3 Z H3 _ I3 q3) (by rintro w' s4 ⟨z',H4,I4,r4,q4⟩;exact ho' pins s4 Z H4 y z' u w' Q I4 r2 r4 q4)))
theorem B7x:(sizeLine:Nat)<2^63:=by rw [sizeLine_eq];decide
theorem B4h:OpR X (binaryOp .Add) (λx y H Q=>∃i j,x= .str i/\y= .str j/\i.length+j.length<=sizeLine/\Q (.str (i++j)) H):=by
 intro pins s Z H x y v u Q I rx ry h;obtain ⟨i,j,rfl,rfl,hz,q⟩:=h;obtain ⟨t,rfl⟩:=rx;obtain ⟨t',rfl⟩:=ry;exact add_str (λt' tk=>(i0f (.str (i++j)) H (I.tok _) ⟨_,rfl⟩ q)) hz
theorem B2s {x:V} (r:A2p [x] us):∃u,us=[u]/\A2z x u:=by
 cases r with
 | cons r1 r2=>cases r2;exact i02 _ rfl r1
theorem C6p {x y:V} (r:A2p [x,y] us):∃u w',us=[u,w']/\A2z x u/\A2z y w':=by
 cases r with
 | cons r1 r2 =>
  cases r2 with
  | cons r3 r4=>cases r4;exact i0f _ _ rfl r1 r3
theorem B8p (hc:X.calm=true):A9d X (.builtin "max") (λxs H Q=>∃i j,xs=[.int i,.int j]/\Q (.int (if j>i then j else i)) H):=by
 intro pins s Z H xs us Q I r h;obtain ⟨i,j,rfl,q⟩:=h;obtain ⟨u,w',rfl,⟨t,rfl⟩,⟨t',rfl⟩⟩:=C6p r;refine max_two_ints (I.ok.hd hc) λh' tk k=>(i0f _ H (I.kept k) ?_ q);by_cases hj:j>i
 ·rw [Z12 hj,Z12 hj];exact ⟨_,rfl⟩
 ·rw [Z0t hj,Z0t hj];exact ⟨_,rfl⟩
theorem C5z (hc:X.calm=true):A9d X (.builtin "min") (λxs H Q=>∃i j,xs=[.int i,.int j]/\Q (.int (if j<i then j else i)) H):=by
 intro pins s Z H xs us Q I r h;obtain ⟨i,j,rfl,q⟩:=h;obtain ⟨u,w',rfl,⟨t,rfl⟩,⟨t',rfl⟩⟩:=C6p r;refine min_two_ints (I.ok.hd hc) λh' tk k=>(i0f _ H (I.kept k) ?_ q);by_cases hj:j<i
 ·rw [Z12 hj,Z12 hj];exact ⟨_,rfl⟩
 ·rw [Z0t hj,Z0t hj];exact ⟨_,rfl⟩
end
structure D5b (h:Heap) (x dx C:Addr) (mA:Str->Option Value):Prop where
 obj:h.get? x=some (instObj C dx)
 ns:h.Ns1 dx mA
 ne:dx≠x
theorem C6q {dx:Addr} (n:h.Ns1 dx mA):∃od,h.get? dx=some od/\∀name,PySem.W.lookIn name od=some (mA name):=by
 refine e08 n ?_;clear n;rintro o es ep ho hd hk ⟨_,hm⟩;refine i02 o ho λname=> ?_;have e:=hm name;unfold nsFind findBy at e;rw [<-Array.find?_toList] at e;unfold PySem.W.lookIn;rw [hd];dsimp only;split
 ·rename_i y q;rw [q] at e;exact congrArg some e
 ·rename_i q;rw [q] at e
  have a:es.toList.any (·.refKey)=false:=by
   rw [List.any_eq_false];intro y hy;obtain ⟨z,t,hkey⟩:=hk y (Array.mem_toList_iff.mp hy);simp [DictEntry.refKey,hkey]
  have a':¬es.toList.any (·.refKey)=true:=by rw [a];exact Z0v
  rw [Z0t a'];exact congrArg some e
theorem D5b.look {x dx:Addr} (I:D5b h x dx C mA):∃od,PySem.W.InstAt h x (instObj C dx) C (some od)/\∀name,PySem.W.lookIn name od=some (mA name) :=
 let ⟨od,ho,hl⟩:=C6q I.ns
 (i02 od ⟨I.obj,rfl,rfl,ho⟩ hl)
section
variable {prog:Program} {w:World} {A:Around} {E:Value->Shared->Prop} {s:Shared} {K:Frag} {x dx C f:Addr} {mA:Str->Option Value} {name:Str} {v:Value}
theorem A2b {expr:Bool} (X:K.In s.heap) (I:D5b s.heap x dx C mA) (hg:plainGet K C name=true) (hh:hasDictIn K C=true)
  (ha:findIn K (.ref C) name=some none) (hv:mA name=some v) (hv':PySem.W.handedIn v=true) (h:Q v { s with toks:=s.toks+1 }) :
  wpAny (model prog w) A (getAttr (.ref x) name expr) Q E s:=by
 obtain ⟨od,J,hl⟩:=I.look;exact PySem.W.get_value X J (PySem.W.plainGet_of hg).1 (PySem.W.findObj_own hh ha rfl (by rw [hl,hv])) hv' h
theorem D0h {Q:Value×List Value->Shared->Prop} (X:K.In s.heap) (I:D5b s.heap x dx C mA) (hg:plainGet K C name=true)
  (hf:findIn K (.ref C) name=some (some (.ref f))) (ht:isFn K (.ref f)=true) (hv:mA name=none) (h:Q (.ref f,[.ref x]) s) :
  wpAny (model prog w) A (getMethod (.ref x) name pl) Q E s:=by
 obtain ⟨od,J,hl⟩:=I.look;exact PySem.W.method_fn X J (PySem.W.plainGet_of hg).1 (PySem.W.plainGet_of hg).2 hf (beq_iff_eq.mp ht) (by show (PySem.W.lookIn name od).map (·.isSome)=some false;rw [hl,hv];rfl) h
theorem D5e {ns:List Str} {Q:Unit->Shared->Prop} (X:K.In s.heap) (I:D5b s.heap x dx C mA)
  (hs:findIn K (.ref C) "__setattr__"=some (some (.builtin "object.__setattr__"))) (hp:plainOver K C=true) (ht:PySem.W.takerIn K C name=some none) (hh:hasDictIn K C=true)
  (hw:PySem.Within mA ns) (hsz:ns.length<=sizeLine)
  (h:∀h',D5b h' x dx C (λy=>if y=name then some v else mA y)->Heap.SameBut dx s.heap h'->Q () { s with heap:=h',toks:=s.toks+2 }) :
  wpAny (model prog w) A (setAttr (.ref x) name v) Q E s:=by
 obtain ⟨od,J,hl⟩:=I.look;refine PySem.W.set_plain X J hs (PySem.W.osa_open (s:={ s with toks:=s.toks+1 }) (r:=none) X J hp ht λb=> ?_)
 obtain ⟨cd,hc,hd'⟩:=PySem.W.any_some hh;have hx:s.heap.get? x=some ⟨.ref C,some dx,.plain,#[]⟩:=I.obj;refine Z00 (Z04 (Z00 (Z00 (wpAny_loadPart hx (Z00 (PySem.W.Looks.here (s:={ s with toks:=s.toks+1 }) (PySem.W.looks_clsIn X hc) ?_))))));rw [hd'];refine Z04 (a:=some dx) (Z00 (Z04 (Z00 ?_)));refine wpAny_nsSet1 (s:={ s with toks:=s.toks+1 }) I.ns λh' hn2 hs2=> ?_
 obtain ⟨oD,esD,epD,hoD,hdD,hcD⟩:=hn2.count (PySem.Within.cons name v hw);refine Z00 (wpAny_lookBehind hoD (by rw [hdD];exact pastItsLine_dict (Z1n hcD (by rw [Z0y];lia))) ?_);exact Z04 (h _ ⟨(hs2.2 _ (Ne.symm I.ne)).trans I.obj,hn2,I.ne⟩ hs2)
theorem D0b {vs:List Value} (X:K.In s.heap) (hm:makesIn K C=true)
  (hi:findIn K (.ref C) "__init__"=some (some (.ref f))) (hf:typeIn K (.ref f)=some (.type "function"))
  (h:codeAny (model prog w) (A.under (.builtin "type.__call__" ⟨.ref C::vs,kw⟩)) (.call (.ref f) ⟨.ref (s.heap.objs.size+1)::vs,kw⟩) (PySem.W.InitBack (s.heap.objs.size+1) R)
   { s with heap:=(s.heap.push emptyDict).push (instObj C s.heap.objs.size) }) :
  codeAny (model prog w) A (.call (.ref C) ⟨vs,kw⟩) R s:=by
 obtain ⟨hh,g,d,t,os⟩:=s;exact PySem.W.make_core (PySem.W.makes_of X hm) (PySem.W.looks_findIn X hi) (λself=>PySem.W.bind_fn X self hf) (.inl rfl) h
end
def A6b (f:Str) (v:V):List (Str×V)->List (Str×V)
 | []=>[(f,v)]
 | (g,x)::r=>if g=f then (g,v)::r else (g,x)::A6b f v r
theorem B2x (f g:Str) (v:V):∀fs:List (Str×V),(A6b f v fs).lookup g=if g=f then some v else fs.lookup g
 | []=>by
  show List.lookup g [(f,v)]=_;by_cases h:g=f
  ·have hb:(g == f)=true:=beq_iff_eq.mpr h;simp only [List.lookup,hb,Z12 h]
  ·have hb:(g == f)=false:=Z22.mpr h;simp only [List.lookup,hb,Z0t h]
 | (k,x)::r=>by
  have ih:=B2x f g v r;rw [show A6b f v ((k,x)::r)=(if k=f then (k,v)::r else (k,x)::A6b f v r) from rfl];by_cases hk:k=f
  ·rw [Z12 hk];by_cases h:g=k
   ·have hb:(g == k)=true:=beq_iff_eq.mpr h;simp only [List.lookup,hb,Z12 (h.trans hk)]
   ·have hb:(g == k)=false:=Z22.mpr h;simp only [List.lookup,hb,Z0t (λe:g=f=>h (e.trans hk.symm))]
  ·rw [Z0t hk];by_cases h:g=k
   ·have hb:(g == k)=true:=beq_iff_eq.mpr h;simp only [List.lookup,hb,Z0t (λe:g=f=>hk (h.symm.trans e))]
   ·have hb:(g == k)=false:=Z22.mpr h;simp only [List.lookup,hb];exact ih
theorem B2t (f:Str) (v:V):∀fs:List (Str×V),f∈(A6b f v fs).map (·.1)/\∀g,g∈fs.map (·.1)->g∈(A6b f v fs).map (·.1)
 | []=>⟨by simp [A6b],λg h=>by simp at h⟩
 | (k,x)::r=>by
  obtain ⟨i1,i2⟩:=B2t f v r;rw [show A6b f v ((k,x)::r)=(if k=f then (k,v)::r else (k,x)::A6b f v r) from rfl];by_cases hk:k=f
  ·rw [Z12 hk];subst hk;exact ⟨by simp,λg h=>by simpa using h⟩
  ·rw [Z0t hk];refine ⟨?_,λg h=> ?_⟩
   ·rw [Z0p];exact Z1f _ i1
   ·rw [Z0p] at h⊢;rcases Z0e.mp h with e | e
    ·exact Z0e.mpr (.inl e)
    ·exact Z1f _ (i2 g e)
theorem B2k (f:Str) (v:V):∀fs:List (Str×V),(A6b f v fs).length<=fs.length+1
 | []=>by simp [A6b]
 | (k,x)::r=>by
  have ih:=B2k f v r;rw [show A6b f v ((k,x)::r)=(if k=f then (k,v)::r else (k,x)::A6b f v r) from rfl];by_cases hk:k=f
  ·rw [Z12 hk,Z0y,Z0y];lia
  ·rw [Z0t hk,Z0y,Z0y];lia
theorem B8t.some_of {v:V} (r:B8t (some v) o):∃u,o=some u/\A2z v u:=by
 cases o with
 | none=>exact (show False from r).elim
 | some u=>exact i02 u rfl r
theorem B8t.none_of (r:B8t none o):o=none:=by
 cases o with
 | none=>rfl
 | some u=>exact (show False from r).elim
theorem C8r {v:V} (r:A2z v u):PySem.W.handedIn u=true:=by
 cases v with
 | non=>cases (show u=Value.none from r);rfl
 | bl b=>cases (show u=Value.bool b from r);rfl
 | int i=>obtain ⟨t,e⟩:=(show∃t,u=Value.int i t from r);cases e;rfl
 | str x=>obtain ⟨t,e⟩:=(show∃t,u=Value.str x t from r);cases e;rfl
 | byt b=>obtain ⟨t,e⟩:=(show∃t,u=Value.bytes b t from r);cases e;rfl
 | flt b=>obtain ⟨t,e⟩:=(show∃t,u=Value.float b t from r);cases e;rfl
 | ref a=>cases (show u=Value.ref a from r);rfl
 | ty n=>cases (show u=Value.type n from r);rfl
section
variable {P:Program} {w:World} {H H':Hp} {h h':Heap} {a C dx:Addr} {fs fs':List (Str×V)}
theorem B5y (hok:HOk P w H h) (e:H a=some (.ins C dx fs)):∃mA,D5b h a dx C mA/\(∀f,B8t (fs.lookup f) (mA f))/\PySem.Within mA (fs.map (·.1))/\fs.length<=1000/\H dx=some (.own a):=by
 refine e02 (show A1z P w H h a (.ins C dx fs) from hok a _ e) ?_;rintro d z ne ob ⟨mA,n,r,q⟩;exact ⟨mA,(i08 ⟨ob,n,ne⟩ r q z d)⟩
end
structure Cls (K:Frag) (C:Addr):Prop where
 pg:plainGet K C Str.empty=true
 hd:hasDictIn K C=true
 po:plainOver K C=true
 sa:findIn K (.ref C) "__setattr__"=some (some (.builtin "object.__setattr__"))
theorem Cls.get (c:Cls K C) (f:Str):plainGet K C f=true:=c.pg
def A1s (K:Frag) (C:Addr) (f:Str):Prop:=findIn K (.ref C) f=some none
theorem A1s.taker {f:Str} (n:A1s K C f):PySem.W.takerIn K C f=some none:=by
 unfold PySem.W.takerIn;rw [show findIn K (.ref C) f=some none from n];rfl
structure B3u (K:Frag) (C:Addr) (m:Str) (f:Addr):Prop where
 at_:findIn K (.ref C) m=some (some (.ref f))
 fn:isFn K (.ref f)=true
 kp:keepIn K (.ref f)=true
section
variable {X:Cx} {pins:List (Addr×Obj)} {Z:St} {H:Hp} {s:Shared} {a C dx:Addr} {fs:List (Str×V)} {f:Str} {v:V} {A:Around} {E:Value->Shared->Prop}
theorem C4k {b:Bool} (I:Inv X pins Z H s) (e:H a=some (.ins C dx fs)) (c:Cls X.K C) (n:A1s X.K C f) (l:fs.lookup f=some v)
  (h:∀u s',Inv X pins Z H s'->A2z v u->Q u s'):wpAny (model X.prog X.w) A (getAttr (.ref a) f b) Q E s:=by
 obtain ⟨mA,O,r,_,_,_⟩:=B5y I.hok e;obtain ⟨u,hu,ru⟩:=B8t.some_of (v:=v) (o:=mA f) (by rw [<-l];exact r f);exact A2b I.kIn O (c.get f) c.hd n hu (C8r ru) (h u _ (I.tok _) ru)
theorem B4m {m:Str} {g:Addr} {Q:Value×List Value->Shared->Prop} (I:Inv X pins Z H s) (e:H a=some (.ins C dx fs)) (c:Cls X.K C) (k:B3u X.K C m g) (l:fs.lookup m=none)
  (h:Q (.ref g,[.ref a]) s):wpAny (model X.prog X.w) A (getMethod (.ref a) m pl) Q E s:=by
 obtain ⟨mA,O,r,_,_,_⟩:=B5y I.hok e;have hn:mA m=none:=B8t.none_of (by rw [<-l];exact r m);exact D0h I.kIn O (c.get m) k.at_ k.fn hn h
theorem C3t {y:V} {Q:Unit->Shared->Prop} (I:Inv X pins Z H s) (e:H a=some (.ins C dx fs)) (c:Cls X.K C) (n:A1s X.K C f) (hl:fs.length<1000) (ry:A2z y u)
  (h:∀s',Inv X pins Z (upd H a (.ins C dx (A6b f y fs))) s'->Q () s'):wpAny (model X.prog X.w) A (setAttr (.ref a) f u) Q E s:=by
 obtain ⟨mA,O,r,wi,_,ho⟩:=B5y I.hok e;have hz:(fs.map (·.1)).length<=sizeLine:=by rw [Z08,sizeLine_eq];lia
 refine D5e I.kIn O c.sa c.po n.taker c.hd wi hz λh' O' sb=>h _ ?_;have hd:∃o,h'.get? dx=some o:=let ⟨o,_,_,e',_⟩:=O'.ns;⟨o,e'⟩;refine I.write (x:=a) (e:=dx) (by rw [e];exact True.intro) (.inr ho) (λb q hb z=>(sb.2 b hb).trans z) hd ?_;refine i04 (by rw [A0i O.ne];exact ho) ?_ O.ne (i0a O'.obj _ O'.ns (λg=> ?_) λg hg=> ?_)
 ·have:=B2k f y fs;lia
 ·show B8t ((A6b f y fs).lookup g) (if g=f then some u else mA g);rw [B2x];by_cases q:g=f
  ·rw [Z12 q,Z12 q];exact ry
  ·rw [Z0t q,Z0t q];exact r g
 ·by_cases q:g=f
  ·rw [q];exact (B2t f y fs).1
  ·refine (B2t f y fs).2 g (wi g λz=>hg ?_);show (if g=f then some u else mA g)=none;rw [Z0t q];exact z
theorem Inv.made (I:Inv X pins Z H s):Inv X pins Z (upd (upd H s.heap.objs.size (.own (s.heap.objs.size+1))) (s.heap.objs.size+1) (.ins C s.heap.objs.size []))
  { s with heap:=(s.heap.push emptyDict).push (instObj C s.heap.objs.size) }:=by
 have e1:(s.heap.push emptyDict).get? s.heap.objs.size=some emptyDict:=Z0c s.heap rfl
 have e2:((s.heap.push emptyDict).push (instObj C s.heap.objs.size)).get? (s.heap.objs.size+1)=some (instObj C s.heap.objs.size):=by
  have:=Z0c (s.heap.push emptyDict) (o:=instObj C s.heap.objs.size) rfl
  rwa [Z1s] at this
 have e3:(s.heap.push emptyDict).Ns s.heap.objs.size (λ_=>none):=(i0q emptyDict (#[]) _ e1 rfl (λe he=>absurd he (by simp)) λ_=>rfl);have I1:=I.laid (a:=s.heap.objs.size) (o:= .own (s.heap.objs.size+1)) (h':=s.heap.push emptyDict) (t':=s.toks) (λb u q=>Z01 _ q) (Z09 _) ⟨_,e1⟩;refine I1.laid (a:=s.heap.objs.size+1) (o:= .ins C s.heap.objs.size []) (t':=s.toks) (λb u q=>Z01 _ q) (Nat.le_of_eq (Z1s _ _)) ?_;have ne:s.heap.objs.size≠s.heap.objs.size+1:=Z0h (Nat.lt_succ_self _);refine i04 (by rw [A0i ne,A0b]) (Z1e _) ne (i0a e2 (λ_=>none) ((Heap.Ns1.of_empty e3).at λo q=>Z01 _ q) (λ_=>True.intro) λy hy=>absurd rfl hy)
theorem D4g {prog:Program} {env:Env} {f:Str} {pos:Pos} (hb:attributeBase e f env (eval e env)=eval e env)
  (h:wpAny (model prog w) A (eval e env) (λo s₁=>wpAny (model prog w) A (getAttr o f true) Q E s₁) E s):wpAny (model prog w) A (eval (.Attribute e f pos) env) Q E s :=
 Attribute_any_ h (by rw [arm_eval_Attribute,hb])
end
def tFld (K:Frag) (ta:TE) (f:Str):TE:=λZ H Q=>ta Z H λx H1=>∃a C dx fs v,x= .ref a/\H1 a=some (.ins C dx fs)/\Cls K C/\A1s K C f/\fs.lookup f=some v/\Q v H1
def sFld (K:Frag) (ta tv:TE) (f:Str):TS:=λD Z H=>tv Z H λy H1=>ta Z H1 λx H2=>∃a C dx fs,x= .ref a/\H2 a=some (.ins C dx fs)/\Cls K C/\A1s K C f/\fs.length<1000/\
 D.nx Z (upd H2 a (.ins C dx (A6b f y fs)))
section
variable {X:Cx} {o e value:Expr} {f:Str} {pos pos' tpos:Pos} {ta tv:TE}
theorem A1t (he:PE X e ta) (hb:attributeBase e f X.env (eval e X.env)=eval e X.env):PE X (.Attribute e f pos) (tFld X.K ta f):=by
 intro pins s Z H Q I h;refine D4g hb (thn (he pins s Z H _ I h) ?_);rintro u s1 zz;refine e0a zz ?_;clear zz;rintro x H1 I1 rx a C dx ⟨fs,v,ex,ea,c,n,l,q⟩;subst ex;obtain rfl:u=Value.ref a:=rx;exact C4k I1 ea c n l λu' s2 I2 ru=>(i0f v H1 I2 ru q)
theorem A3i (ha:PE X o ta) (hv:PE X value tv) (hs:swapsWith value (some (.Attribute o f pos')) pos.line X.env=pure false):PS X (.Assign [.Attribute o f pos'] value pos) (sFld X.K ta tv f):=by
 intro pins s Z H D I h;refine plainObj_wpAny_Assign_Attribute (thn (hv pins s Z H _ I h) ?_) hs;rintro u s1 ⟨y,H1,I1,ry,q⟩;refine thn (ha pins s1 Z H1 _ I1 q) ?_;rintro ov s2 zz;refine e0a zz ?_;clear zz;rintro x H2 I2 rx a C dx ⟨fs,ex,ea,c,n,l,q2⟩;subst ex;obtain rfl:ov=Value.ref a:=rx;exact C3t I2 ea c n l ry λs3 I3=>(i07 Z _ I3 q2)
end
section
variable {X:Cx} {pins:List (Addr×Obj)} {Z:St} {H:Hp} {s:Shared} {A:Around} {E:Value->Shared->Prop} {Q:Value->Shared->Prop} {c:Value} {b:Bool}
inductive C1g (K:Frag) (H:Hp):V->Value->Prop where
 | non:C1g K H .non (.type "NoneType")
 | bl (x:Bool):C1g K H (.bl x) (.type "bool")
 | int (i:Int):C1g K H (.int i) (.type "int")
 | str (x:Str):C1g K H (.str x) (.type "str")
 | flt (x:UInt64):C1g K H (.flt x) (.type "float")
 | lst {a:Addr} {xs:List V} (e:H a=some (.lst xs)):C1g K H (.ref a) (.type "list")
 | frz {a:Addr} {o:Obj} {xs:List V} (e:H a=some (.frz o (.lst xs))):C1g K H (.ref a) (.type "list")
 | tup {a:Addr} {xs:List V} (e:H a=some (.tup xs)):C1g K H (.ref a) (.type "tuple")
 | dK {a:Addr} {kvs:List (Key×V)} (e:H a=some (.dK kvs)):C1g K H (.ref a) (.type "dict")
 | dT {a:Addr} {kvs:List (List Key×V)} (e:H a=some (.dT kvs)):C1g K H (.ref a) (.type "dict")
 | ins {a C dx:Addr} {fs:List (Str×V)} (e:H a=some (.ins C dx fs)) (cl:Cls K C) (ha:findIn K (.ref C) "__class__"=some (some (.builtin "object.__class__")))
   (hn:specialIn K (.builtin "object.__class__") "__get__"=some (some (.builtin "getset_descriptor.__get__"))) (htk:takesIn K (.builtin "object.__class__")=some true)
   (hm:mroIn K C (.type "object")=some true):C1g K H (.ref a) (.ref C)
theorem C6x {x:V} {t:Value} (I:Inv X pins Z H s) (rx:A2z x u) (ty:C1g X.K H x t) (e:kitOne X.K t c=some b) (h:∀tk,Q (.bool b) { s with toks:=tk }) :
  wpAny (model X.prog X.w) A (call (.builtin "isinstance") [u,c]) Q E s:=by
 cases ty with
 | non=>cases (show u=Value.none from rx);exact PySem.W.kia_one PySem.W.kitx_none I.kIn True.intro e (λz=>nomatch z) h
 | bl y=>cases (show u=Value.bool y from rx);exact PySem.W.kia_one PySem.W.kitx_bool I.kIn True.intro e (λz=>nomatch z) h
 | int i=>obtain ⟨t,q⟩:=(show∃t,u=Value.int i t from rx);cases q;exact PySem.W.kia_one PySem.W.kitx_int I.kIn True.intro e (λz=>nomatch z) h
 | str y=>obtain ⟨t,q⟩:=(show∃t,u=Value.str y t from rx);cases q;exact PySem.W.kia_one PySem.W.kitx_str I.kIn True.intro e (λz=>nomatch z) h
 | flt y=>obtain ⟨t,q⟩:=(show∃t,u=Value.float y t from rx);cases q;exact PySem.W.kia_one PySem.W.kitx_float I.kIn True.intro e (λz=>nomatch z) h
 | @lst a xs ea =>
  cases (show u=Value.ref a from rx)
  obtain ⟨_,_,n,_,h1⟩:=(show A1z X.prog X.w H s.heap a (.lst xs) from I.hok a _ ea);exact PySem.W.kia_one PySem.W.kitx_list I.kIn (i02 _ h1 rfl) e (λz=>nomatch z) h
 | @frz a ob xs ea =>
  cases (show u=Value.ref a from rx)
  obtain ⟨_,_,_,n,_,h1⟩:=(show A1z X.prog X.w H s.heap a (.frz ob (.lst xs)) from I.hok a _ ea);exact PySem.W.kia_one PySem.W.kitx_list I.kIn (i02 _ h1 rfl) e (λz=>nomatch z) h
 | @tup a xs ea =>
  cases (show u=Value.ref a from rx)
  obtain ⟨_,_,_,p⟩:=(show A1z X.prog X.w H s.heap a (.tup xs) from I.hok a _ ea);obtain ⟨o,h1,h2,_⟩:=p;exact PySem.W.kia_one PySem.W.kitx_tuple I.kIn (i02 o h1 h2) e (λz=>nomatch z) h
 | @dK a kvs ea =>
  cases (show u=Value.ref a from rx)
  obtain ⟨_,_,vs,_,p⟩:=(show A1z X.prog X.w H s.heap a (.dK kvs) from I.hok a _ ea);obtain ⟨o,es,ep,h1,h2,_⟩:=p;exact PySem.W.kia_one PySem.W.kitx_dict I.kIn (i02 o h1 h2.1) e (λz=>nomatch z) h
 | @dT a kvs ea =>
  cases (show u=Value.ref a from rx)
  refine e0b (show A1z X.prog X.w H s.heap a (.dT kvs) from I.hok a _ ea) ?_;rintro _ _ xs _ o es ep h1 ⟨h2,_⟩;exact PySem.W.kia_one PySem.W.kitx_dict I.kIn (i02 o h1 h2.1) e (λz=>nomatch z) h
 | @ins a C dx fs ea cl ha hn htk hm =>
  cases (show u=Value.ref a from rx)
  obtain ⟨mA,O,_⟩:=B5y I.hok ea;obtain ⟨od,J,_⟩:=O.look;exact PySem.W.kia_one (PySem.W.kitx_own (cl.get _) cl.hd ha hn htk hm) I.kIn J e (λz=>nomatch z) h
end
structure A9c (k:Nat) (A:Around):Prop where
 hd:A.handled=none
 dp:A.depth+3*k+5<recursionLimit
 un:A.units+16*k+200<cLine
 gd:A.guards=some []
theorem A9c.mono {j k:Nat} (r:A9c k A) (h:j<=k):A9c j A:=⟨r.hd,by have:=r.dp;lia,by have:=r.un;lia,r.gd⟩
theorem A9c.deeper {k:Nat} (r:A9c (k+1) A) (env:Env):A9c k (A.deeper env) :=
 ⟨r.hd,by have:=r.dp;show A.depth+1+3*k+5<_;lia,by have:=r.un;show A.units+3+16*k+200<_;lia,r.gd⟩
theorem C3v:(A.under (.builtin "type.__call__" ⟨.ref C::us,kw⟩)).depth=A.depth+1:=by
 first | rfl | simp [Around.under,Code.weight,Code.isCreation,Code.isGuard,Code.isCaller,Code.frames,Code.isFrame,guardIds]
theorem C3y:(A.under (.builtin "type.__call__" ⟨.ref C::us,kw⟩)).units=A.units+1:=by
 first | rfl | simp [Around.under,Code.cUnits,Code.frames,Code.isFrame]
theorem C0b:(A.under (.builtin "type.__call__" ⟨.ref C::us,kw⟩)).guards=A.guards:=by
 show pushGuards (Code.guards (.builtin "type.__call__" ⟨.ref C::us,kw⟩)) A.guards=A.guards;have h:Code.isGuard (.builtin "type.__call__" ⟨.ref C::us,kw⟩)=false:=by first | rfl | (simp [Code.isGuard,guardIds]) | decide
 unfold Code.guards;rw [h];cases A.guards <;> rfl
theorem A9c.make {k:Nat} (r:A9c (k+1) A) (C:Addr) (us:List Value) (kw:List (Str×Value)):A9c k (A.under (.builtin "type.__call__" ⟨.ref C::us,kw⟩)) :=
 ⟨r.hd,by have:=r.dp;rw [C3v];lia,by have:=r.un;rw [C3y];lia,by rw [C0b];exact r.gd⟩
theorem A9c.depth {k:Nat} (r:A9c k A):A.depth<recursionLimit:=by have:=r.dp;lia
theorem A9c.units {k:Nat} (r:A9c k A):A.units+64<cLine:=by have:=r.un;lia
theorem A9c.units0 {k:Nat} (r:A9c k A):A.units<cLine:=by have:=r.un;lia
def tNil:TA:=λ_ H Q=>Q [] H
def E1f (ta:TE) (tr:TA):TA:=λZ H Q=>ta Z H λx H1=>tr Z H1 λxs H2=>Q (x::xs) H2
section
variable {X:Cx} {e:Expr} {es:List Expr} {te:TE} {t:TA} {pos:Pos}
theorem A0d:PA X [] tNil:=λ_ _ _ _ H Q I h=>Calls.spliced_nil (i0f [] H I .nil h)
theorem A0a (ha:PE X e te) (hr:PA X es t) (hs:starEach (e::es) X.env=(false,eval e X.env)::starEach es X.env:=by rfl):PA X (e::es) (E1f te t):=by
 intro pos pins s Z H Q I h;rw [hs];show wpAny _ _ (spliced ((false,eval e X.env)::backTo pos (starEach es X.env))) _ _ s;refine Calls.spliced_cons (thn (ha pins s Z H _ I h) ?_);rintro u s1 ⟨x,H1,I1,r1,q1⟩;exact thn (hr pos pins s1 Z H1 _ I1 q1) (by rintro us s2 ⟨xs,H2,I2,r2,q2⟩;exact i0f (x::xs) H2 I2 (.cons r1 r2) q2)
def tTup (t:TA):TE:=λZ H Q=>t Z H λxs H1=>xs.length<=sizeLine/\∀p,H1 p=none->Q (.ref p) (upd H1 p (.tup xs))
def tLst (t:TA):TE:=λZ H Q=>t Z H λxs H1=>xs.length<=sizeLine/\∀p,H1 p=none->Q (.ref p) (upd H1 p (.lst xs))
theorem A2j {x1} (h:PA X es t):PE X (.Tuple es x1 pos) (tTup t):=by
 intro pins s Z H Q I hq;refine wpAny_Tuple_spliced (thn (h pos pins s Z H _ I hq) λus s1 ⟨xs,H1,I1,r,z,q⟩=>⟨by rw [<-r.length];exact z,?_⟩);have hf:H1 s1.heap.objs.size=none:=I1.hok.fresh (Z09 _);refine i0f (.ref s1.heap.objs.size) (upd H1 s1.heap.objs.size (.tup xs)) (I1.laid (t':=s1.toks) (λb u e=>Z01 _ e) (Z09 _) ?_) rfl (q _ hf);exact i05 z us r (i0d _ (Z0c _ rfl) rfl _ rfl)
theorem A4m (h:PA X es t):PE X (.List es pos) (tLst t):=by
 intro pins s Z H Q I hq;refine wpAny_List_spliced (thn (h pos pins s Z H _ I hq) λus s1 ⟨xs,H1,I1,r,z,q⟩=>⟨by rw [<-r.length];exact z,?_⟩);have hf:H1 s1.heap.objs.size=none:=I1.hok.fresh (Z09 _);refine i0f (.ref s1.heap.objs.size) (upd H1 s1.heap.objs.size (.lst xs)) (I1.laid (t':=s1.toks) (λb u e=>Z01 _ e) (Z09 _) ?_) rfl (q _ hf);exact i0b z us 0 r (Z0c _ rfl)
end
abbrev Sp:=List V->Hp->VK->XK->Prop
abbrev CXT:=List Env->Hp->Shared->XK->Value->Shared->Prop
structure D4d (P:Program) (w:World) (K:Frag) (mg:Str->Option Value) (base:Heap) (A:Around) (outer:List Env) (s:Shared) (H:Hp):Prop where
 frames:A.frames=some outer
 mod:Mod K mg base
 bs:∀b o,base.get? b=some o->s.heap.get? b=some o/\H b=none
 bsz:base.objs.size<=s.heap.objs.size
 funs:s.heap.FunFrames base outer
 frf:∀b∈frs outer,H b=none
 hok:HOk P w H s.heap
 bare:AllBare s.gens
def CE (outer:List Env) (P:Program) (w:World) (H:Hp) (s:Shared) (Q:VK) (u:Value) (s':Shared):Prop :=
 ∃v H',s'.os=s.os/\AllBare s'.gens/\Un (frs outer) [] H H' s.heap s'.heap/\HOk P w H' s'.heap/\A2z v u/\Q v H'
def CR (CX:CXT) (outer:List Env) (P:Program) (w:World) (H:Hp) (s:Shared) (Q:VK) (E:XK) (r:Result) (s':Shared):Prop :=
 match r with
 | .ok (.ret u)=>CE outer P w H s Q u s'
 | .ok _=>False
 | .error e=>CX outer H s E e s'
structure A4c (P:Program) (w:World) (K:Frag) (mg:Str->Option Value) (base:Heap) (CX:CXT) (k:Nat) (f:Addr) (fd:FuncData) (ps:List Str) (sp:Sp):Prop where
 len:∀vs H Q E,sp vs H Q E->vs.length=ps.length
 run:∀(A:Around) (outer:List Env) (s:Shared) (H:Hp) (args:Args) (us:List Value) (vs:List V) (Q:VK) (E:XK),A9c k A->D4d P w K mg base A outer s H->BindsTo s fd args (ps.zip us)->A2p vs us->sp vs H Q E->
  codeAny (model P w) A (.call (.ref f) args) (CR CX outer P w H s Q E) s
theorem A4c.mono {j k:Nat} {f:Addr} {sp:Sp} (F:A4c P w K mg base CX j f fd ps sp) (h:j<=k) :
  A4c P w K mg base CX k f fd ps sp:=⟨F.len,λA outer s H args us vs Q E hr=>F.run A outer s H args us vs Q E (hr.mono h)⟩
theorem D4d.make {outer:List Env} (e:D4d P w K mg base A outer s H) (C:Addr) (us:List Value) (kw:List (Str×Value)) :
  D4d P w K mg base (A.under (.builtin "type.__call__" ⟨.ref C::us,kw⟩)) outer s H:=⟨by first | exact e.frames | (simpa [Around.under,Code.envs,Code.isFrame,pushEnvs] using e.frames),e.mod,e.bs,e.bsz,e.funs,e.frf,e.hok,e.bare⟩
section
variable {X:Cx} {pins:List (Addr×Obj)} {Z:St} {H:Hp} {s s':Shared}
theorem Inv.env0 (I:Inv X pins Z H s):D4d X.prog X.w X.K X.mg X.base X.A X.stack s H :=
 ⟨I.ok.frames,I.ok.mod,I.bs,Z1n I.ok.bsz I.sz,I.stack,I.stkFree,I.hok,I.bare⟩
theorem Inv.after {Q:VK} (I:Inv X pins Z H s) (h:CE X.stack X.prog X.w H s Q u s'):EP X pins Z Q u s':=by
 refine e06 h ?_;clear h;rintro v H' os bare un ⟨hok,r,q⟩;obtain ⟨hh,g,d,t,os'⟩:=s';obtain rfl:os'=s.os:=os;exact i0f v H' (I.call (h':=hh) (g':=g) (d':=d) (t':=t) (ch:=[]) un hok bare (λb z=>absurd z (by simp))) r q
end
def D8i (sp:Sp) (dvs:List V) (E:XK) (t:TA):TE:=λZ H Q=>t Z H λvs H1=>sp (vs++dvs) H1 Q E
def E0t (C:Addr) (m:Str) (sp:Sp) (dvs:List V) (E:XK) (ta:TE) (t:TA):TE:=λZ H Q=>ta Z H λx H1=>∃a dx fs,x= .ref a/\H1 a=some (.ins C dx fs)/\fs.lookup m=none/\
 t Z H1 λvs H2=>sp (x::(vs++dvs)) H2 Q E
def D9h (C:Addr) (sp:Sp) (dvs:List V) (E:XK) (t:TA):TE:=λZ H Q=>t Z H λvs H1=>∀x dx,H1 x=none->H1 dx=none->dx≠x->
 sp (.ref x::(vs++dvs)) (upd (upd H1 dx (.own x)) x (.ins C dx [])) (λv H2=>v= .non/\Q (.ref x) H2) E
def A8w (K:Frag) (fd:FuncData) (ps:List Str) (ds:List Value):Prop :=
 ∀(s:Shared) (us:List Value),K.In s.heap->(us++ds).length=ps.length->BindsTo s fd ⟨us,[]⟩ (ps.zip (us++ds))
theorem A8w.all (h:∀us:List Value,us.length=ps.length->bindArgs fd ⟨us,[]⟩=pure (ps.zip us)):A8w K fd ps []:=λs us _ hl=>by
 rw [Z0u] at hl⊢;exact .of_eq (h us hl)
def B4a (CX:CXT) (X:Cx) (E:XK):Prop:=∀(pins:List (Addr×Obj)) (Z:St) (H:Hp) (s:Shared) (e:Value) (s':Shared),Inv X pins Z H s->CX X.stack H s E e s'->X.xe e s'
section
variable {X:Cx} {CX:CXT} {k:Nat} {f C:Addr} {fd:FuncData} {ps:List Str} {sp:Sp} {dvs:List V} {ds:List Value} {E:XK} {x m:Str} {p pos apos:Pos} {e o:Expr} {es:List Expr} {ta:TE} {t:TA}
theorem C8u {Q:VK} (F:A4c X.prog X.w X.K X.mg X.base CX k f fd ps sp) (hr:A9c k X.A) (hb:A8w X.K fd ps ds) (hd:A2p dvs ds) (hx:B4a CX X E)
  (I:Inv X pins Z H s) (r:A2p vs us) (h:sp (vs++dvs) H Q E):wpAny (model X.prog X.w) X.A (call (.ref f) us) (EP X pins Z Q) X.xe s:=by
 have r2:A2p (vs++dvs) (us++ds):=r.append hd;have hl:(us++ds).length=ps.length:=by rw [<-r2.length];exact F.len _ _ _ _ h
 refine wpAny_call (codeAny_mono (F.run X.A X.stack s H ⟨us,[]⟩ (us++ds) (vs++dvs) Q E hr I.env0 (hb s us I.kIn hl) r2 h) λr s' hq=> ?_)
 cases r with
 | error e=>exact hx pins Z H s e s' I hq
 | ok fl =>
  cases fl with
  | ret u=>exact I.after hq
  | next=>exact False.elim hq
  | brk=>exact False.elim hq
  | cont=>exact False.elim hq
theorem D3r (F:A4c X.prog X.w X.K X.mg X.base CX k f fd ps sp) (hr:A9c k X.A) (hg:Gl X x) (hm:X.mg x=some (.ref f)) (hk:keepIn X.K (.ref f)=true) (hb:A8w X.K fd ps ds) (hd:A2p dvs ds) (hx:B4a CX X E)
  (ha:PA X (e::es) t) (hdb:(x == ("__debug__":Str))=false:=by decide) (he:starEach (e::es) X.env=(false,eval e X.env)::starEach es X.env:=by rfl) (hpl:(backTo pos (starEach es X.env)).any (·.1)=false:=by rfl) :
  PE X (.Call (.Name x p) (e::es) [] pos) (D8i sp dvs E t):=by
 intro pins s Z H Q I h;refine wpAny_Call_Name_kw (C6c I hg hm ?_ hdb);refine PySem.W.callWith_K (h₀:=X.base) I.ok.mod.kin hk (thn (ha pos pins s Z H _ I h) λus s1 ⟨vs,H1,I1,r,q⟩=>⟨I1.kIn,?_⟩) he hpl;exact C8u F hr hb hd hx I1 r q
theorem B2d (he:PE X o ta) (c:Cls X.K C) (hm:B3u X.K C m f) (F:A4c X.prog X.w X.K X.mg X.base CX k f fd ps sp) (hr:A9c k X.A) (hb:A8w X.K fd ps ds) (hd:A2p dvs ds) (hx:B4a CX X E) (ha:PA X (e::es) t)
  (hst:starEach (e::es) X.env=(false,eval e X.env)::starEach es X.env:=by rfl) (hpl:(backTo pos (starEach es X.env)).any (·.1)=false:=by rfl)
  (ht:eval (.Call (.Attribute o m apos) (e::es) [] pos) X.env=(do
   let ov<-eval o X.env
   standAt apos.atName
   let (f,first)<-holding [ov] (getMethod ov m pl)
   callWith pos f first (backTo pos (starEach (e::es) X.env)) (backToKw pos (keywordEach [] X.env))):=by rfl) :
  PE X (.Call (.Attribute o m apos) (e::es) [] pos) (E0t C m sp dvs E ta t):=by
 intro pins s Z H Q I h;refine PySem.W.methodCall_KW (pl:=pl) (thn (he pins s Z H _ I h) ?_) ht;rintro u s1 zz;refine e0a zz ?_;clear zz;rintro x H1 I1 rx a dx fs ⟨ex,ea,l,q⟩;subst ex;obtain rfl:u=Value.ref a:=rx;refine B4m I1 ea c hm l ?_;refine PySem.W.callWith_K (first:=[.ref a]) (h₀:=X.base) I.ok.mod.kin hm.kp (thn (ha pos pins s1 Z H1 _ I1 q) λus s2 ⟨vs,H2,I2,r,q2⟩=>⟨I2.kIn,?_⟩) hst hpl;exact C8u (us:= .ref a::us) (vs:= .ref a::vs) F hr hb hd hx I2 (.cons rfl r) q2
structure Mk (K:Frag) (C f:Addr):Prop where
 makes:makesIn K C=true
 init:findIn K (.ref C) "__init__"=some (some (.ref f))
 fn:isFn K (.ref f)=true
 kp:keepIn K (.ref C)=true
theorem C9l {Q:VK} (M:Mk X.K C f) (F:A4c X.prog X.w X.K X.mg X.base CX k f fd ps sp) (hr:A9c (k+1) X.A) (hb:A8w X.K fd ps ds) (hd:A2p dvs ds)
  (hx:B4a CX X E) (I:Inv X pins Z H s) (r:A2p vs us)
  (h:∀x dx,H x=none->H dx=none->dx≠x->sp (.ref x::(vs++dvs)) (upd (upd H dx (.own x)) x (.ins C dx [])) (λv H2=>v= .non/\Q (.ref x) H2) E) :
  wpAny (model X.prog X.w) X.A (call (.ref C) us) (EP X pins Z Q) X.xe s:=by
 have hq:=h (s.heap.objs.size+1) s.heap.objs.size (I.hok.fresh (Nat.le_succ _)) (I.hok.fresh (Z09 _)) (Z0h (Nat.lt_succ_self _));have I2:=Inv.made (C:=C) I;have r2:A2p (V.ref (s.heap.objs.size+1)::(vs++dvs)) (Value.ref (s.heap.objs.size+1)::(us++ds)):= .cons rfl (r.append hd)
 have hl:(Value.ref (s.heap.objs.size+1)::us++ds).length=ps.length:=by
  have e:=r2.length;rw [F.len _ _ _ _ hq] at e;exact e.symm
 refine wpAny_call (D0b (f:=f) I.kIn M.makes M.init (beq_iff_eq.mp M.fn) (codeAny_mono (F.run _ X.stack _ _ ⟨Value.ref (s.heap.objs.size+1)::us,[]⟩ (Value.ref (s.heap.objs.size+1)::(us++ds)) _ _ E (hr.make C us [])
  (I2.env0.make C us []) (hb _ (Value.ref (s.heap.objs.size+1)::us) I2.kIn hl) r2 hq) λr s' hq'=> ?_))
 cases r with
 | error e=>exact hx pins Z _ _ e s' I2 hq'
 | ok fl =>
  cases fl with
  | ret u =>
   obtain ⟨v,H',I3,rv,ev,q3⟩:=I2.after hq';subst ev;exact i0j rv (V.ref (s.heap.objs.size+1)) H' I3 rfl q3
  | next=>exact False.elim hq'
  | brk=>exact False.elim hq'
  | cont=>exact False.elim hq'
theorem D5t (M:Mk X.K C f) (F:A4c X.prog X.w X.K X.mg X.base CX k f fd ps sp) (hr:A9c (k+1) X.A) (hg:Gl X x) (hm:X.mg x=some (.ref C)) (hb:A8w X.K fd ps ds) (hd:A2p dvs ds) (hx:B4a CX X E)
  (ha:PA X (e::es) t) (hdb:(x == ("__debug__":Str))=false:=by decide) (he:starEach (e::es) X.env=(false,eval e X.env)::starEach es X.env:=by rfl) (hpl:(backTo pos (starEach es X.env)).any (·.1)=false:=by rfl) :
  PE X (.Call (.Name x p) (e::es) [] pos) (D9h C sp dvs E t):=by
 intro pins s Z H Q I h;refine wpAny_Call_Name_kw (C6c I hg hm ?_ hdb);refine PySem.W.callWith_K (h₀:=X.base) I.ok.mod.kin M.kp (thn (ha pos pins s Z H _ I h) λus s1 ⟨vs,H1,I1,r,q⟩=>⟨I1.kIn,?_⟩) he hpl;exact C9l M F hr hb hd hx I1 r q
end
section
variable {X:Cx} {CX:CXT} {k:Nat} {f C:Addr} {fd:FuncData} {ps ks:List Str} {sp:Sp} {E:XK} {x m:Str} {p pos apos kpos:Pos} {e o:Expr} {es:List Expr} {kws:List Keyword} {te ta:TE} {t tk:TA} {nm:Option Str}
variable {g:List Value->List Value->List Value} {gV:List V->List V->List V}
end
structure A0v (N P:List Str) (sc:Scope):Prop where
 kind:sc.kind= .function
 co:sc.isCoroutine=false
 gen:sc.isGenerator=false
 nd:N.Nodup
 pre:N.take P.length=P
 par:∀x∈P,sc.names.lookup x=some .local\/sc.names.lookup x=some .cell
 nofree:∀y∈sc.names,y.2≠.free
theorem B8n {kindOf:Str->Option NameKind} {x:Str}:∀{binds:List (Str×Value)} {m:Str->Option Value},(∀v,(x,v)∉binds)->bindL kindOf binds m x=m x
 | [],_,_=>rfl
 | (n,v)::r,m,h=>by
  unfold bindL;rw [B8n λw hw=>h w (Z1f _ hw)];split
  ·have:x≠n:=by rintro rfl;exact h v Z27
   simp [this]
  ·rfl
theorem B8l {kindOf:Str->Option NameKind} {x:Str}:∀{binds:List (Str×Value)} {m:Str->Option Value},(∀v,(x,v)∉binds)->bindC kindOf binds m x=m x
 | [],_,_=>rfl
 | (n,v)::r,m,h=>by
  unfold bindC;rw [B8l λw hw=>h w (Z1f _ hw)];split
  ·rfl
  ·have:x≠n:=by rintro rfl;exact h v Z27
   simp [this]
theorem B6x {kindOf:Str->Option NameKind} {x:Str} {v:Value}:∀{P:List Str} {vs:List Value} {i:Nat} {m:Str->Option Value},P.Nodup->P[i]? =some x->vs[i]? =some v->kindOf x=some .local->
  bindL kindOf (P.zip vs) m x=some v
 | [],_,_,_,_,h,_,_=>by simp at h
 | _::_,[],_,_,_,_,h,_=>by simp at h
 | p::P,w::vs,0,m,nd,h1,h2,hk=>by
  simp at h1 h2;subst h1;subst h2;show bindL kindOf ((p,w)::P.zip vs) m p=_;unfold bindL;rw [B8n λv hv=>(Z15.mp nd).1 (List.of_mem_zip hv).1,Z12 hk];simp
 | p::P,w::vs,i+1,m,nd,h1,h2,hk=>by
  show bindL kindOf ((p,w)::P.zip vs) m x=_;unfold bindL;exact B6x (i:=i) (Z15.mp nd).2 (by simpa using h1) (by simpa using h2) hk
theorem B7u {kindOf:Str->Option NameKind} {x:Str} {v:Value}:∀{P:List Str} {vs:List Value} {i:Nat} {m:Str->Option Value},P.Nodup->P[i]? =some x->vs[i]? =some v->kindOf x≠some .local->
  bindC kindOf (P.zip vs) m x=some v
 | [],_,_,_,_,h,_,_=>by simp at h
 | _::_,[],_,_,_,_,h,_=>by simp at h
 | p::P,w::vs,0,m,nd,h1,h2,hk=>by
  simp at h1 h2;subst h1;subst h2;show bindC kindOf ((p,w)::P.zip vs) m p=_;unfold bindC;rw [B8l λv hv=>(Z15.mp nd).1 (List.of_mem_zip hv).1,Z0t hk];simp
 | p::P,w::vs,i+1,m,nd,h1,h2,hk=>by
  show bindC kindOf ((p,w)::P.zip vs) m x=_;unfold bindC;exact B7u (i:=i) (Z15.mp nd).2 (by simpa using h1) (by simpa using h2) hk
def B6m (N:List Str) (vs:List V):St:=vs.map some++List.replicate (N.length-vs.length) none
def D6h (CX:CXT) (P:Program) (w:World) (K:Frag) (mg:Str->Option Value) (base:Heap) (N:List Str) (qual:Str) (scope:Scope) (f:Addr) (cd:Value) (A:Around) (outer:List Env) (s:Shared) (H:Hp) (E:XK):Cx where
 prog:=P
 w:=w
 K:=K
 mg:=mg
 base:=base
 A:=A.deeper (envOfC qual scope s.heap.objs.size f cd)
 N:=N
 s₀:=s
 H₀:=H
 env:=envOfC qual scope s.heap.objs.size f cd
 outer:=outer
 stack:=envOfC qual scope s.heap.objs.size f cd::outer
 ex:=[]
 calm:=true
 fn:=λ_=>true
 pn:=[]
 xe:=λe s'=>wpAny (model P w) (A.deeper (envOfC qual scope s.heap.objs.size f cd)) (leaving (envOfC qual scope s.heap.objs.size f cd) e) (λ_ s''=>CX outer H s E e s'') (λe' s''=>CX outer H s E e' s'') s'
theorem C2m {sc:Scope} {n:Nat} {x:Str} (h:sc.names.lookup x=some .cell):∃c,(cellsFrom n sc.names []).lookup x=some c:=by
 have q:=PySem.W.cellsFrom_some sc.names n [] (.inl h);exact Option.isSome_iff_exists.mp q
theorem C7p {N:List Str} {qual:Str} {f:Addr} {cd:Value} {outer:List Env} {s1:Shared} {E:XK}
  (S:A0v N ps scope) (hd:A.handled=none) (e0:D4d P w K mg base A outer s H) (hl:vs.length=ps.length) (r:A2p vs us)
  (x:InCallC s s.heap.objs.size (bindL (envOfC qual scope s.heap.objs.size f cd).kindOf (ps.zip us) λ_=>none) (cellsFrom (s.heap.objs.size+1) scope.names []) (bindC (envOfC qual scope s.heap.objs.size f cd).kindOf (ps.zip us) λ_=>none) s1) :
  Inv (D6h CX P w K mg base N qual scope f cd A outer s H E) [] (B6m N vs) H s1:=by
 have hpl:ps.length<=N.length:=by have:=congrArg List.length S.pre;rw [Z0x] at this;lia
 obtain ⟨h1,tk,rfl,hk⟩:=x.done;have noA:∀b:Addr,b∉(D6h CX P w K mg base N qual scope f cd A outer s H E).ex:=λb z=>absurd (show b∈([]:List Addr) from z) (by simp)
 refine ⟨⟨e0.mod,S.kind,rfl,rfl,Z09 _,λy z c h1 h2=> ?_,λy hy=> ?_,λy c _ h=> ?_,λ_=>hd,Around.frames_deeper e0.frames,.inr ⟨rfl,rfl⟩,λb z=>absurd z (noA b),e0.bs,e0.bsz,λb _ _=>noA b,λb z=>absurd z (noA b),e0.funs,e0.frf⟩,
  rfl,e0.bare,Un.kept hk,(i02 _ x.toInCall.ns λi y v h1 h2 h3=> ?_),λy c h=>⟨_,x.cell y c h⟩,e0.hok.fresh (Z09 _),λy c h=> ?_,λp hp=>absurd (show p∈([]:List (Addr×Obj)) from hp) (by simp),e0.hok.kept hk,?_⟩
 ·exact name_of_addr x.apart (PySem.mem_of_lookup h1) (PySem.mem_of_lookup h2)
 ·have hy:scope.names.lookup y=some .cell\/scope.names.lookup y=some .free:=hy;rcases hy with hy | hy
  ·exact C2m hy
  ·exact absurd rfl (S.nofree _ (PySem.mem_of_lookup hy))
 ·exact Nat.le_of_lt (x.above y c (PySem.mem_of_lookup h))
 ·have hi:i<vs.length:=by
   unfold B6m at h2;by_cases hi:i<vs.length
   ·exact hi
   ·rw [Z1l (by simpa using hi)] at h2;rw [List.getElem?_replicate] at h2;split at h2 <;> cases h2
  have ha:vs[i]? =some v:=by
   unfold B6m at h2;rw [Z26 (by simpa using hi),Z1z] at h2
   cases e:vs[i]? with
   | none=>rw [e] at h2;cases h2
   | some a=>rw [e] at h2;cases h2;rfl
  obtain ⟨u,hu,rv⟩:=r.get ha
  have hp:ps[i]? =some y:=by
   rw [<-S.pre,List.getElem?_take_of_lt (by lia)];exact h1
  have ndP:ps.Nodup:=by rw [<-S.pre];exact S.nd.sublist (Z2o _ _)
  refine i02 u rv ?_;rcases S.par y (Z13 hp) with k | k
  ·exact .inl ⟨k,B6x ndP hp hu k⟩
  ·obtain ⟨c,e⟩:=C2m (n:=s.heap.objs.size+1) k;refine .inr (i05 (.inl k) c e ?_);have q:=x.cell y c e;rw [B7u ndP hp hu (by show scope.names.lookup y≠_;rw [k];decide)] at q;exact q
 ·exact e0.hok.fresh (Nat.le_of_lt (x.above y c (PySem.mem_of_lookup h)))
 ·unfold B6m;show _=N.length;rw [Z06,Z08,List.length_replicate]
  lia
theorem E0b {k:Nat} {f:Addr} {name qual:Str} {params:Arguments} {body:List Stmt} {dV kV doc pm cdv ct oc:Value} {an od:Option Addr}
 {N:List Str} {sp:Sp} (lk:K.lookup f=some ⟨oc,od,.func (fnOf name qual params body scope dV kV doc pm an cdv ct),osl⟩) (hcd:codeIn K cdv qual=true) (S:A0v N ps scope)
  (len:∀vs H Q E,sp vs H Q E->vs.length=ps.length)
  (hbody:∀(A:Around) (outer:List Env) (s:Shared) (H:Hp) (vs:List V) (Q:VK) (E:XK),A9c k (A.deeper (envOfC qual scope s.heap.objs.size f cdv))->sp vs H Q E->
   ∃t,PSs (D6h CX P w K mg base N qual scope f cdv A outer s H E) body t/\t { nx:=λ_ H'=>Q .non H',rt:=Q } (B6m N vs) H) :
  A4c P w K mg base CX (k+1) f (fnOf name qual params body scope dV kV doc pm an cdv ct) ps sp:=by
 refine ⟨len,λA outer s H args us vs Q E hr e0 hb r hsp=> ?_⟩;have hl:=len _ _ _ _ hsp;have KX:K.In s.heap:=e0.mod.kin.keeps λb o e=>(e0.bs b o e).1;have lim:s.heap.NoLimit:=e0.mod.nolimit.keeps λb o e=>(e0.bs b o e).1
 have hkind:∀y∈ps.zip us,scope.names.lookup y.1=some .local\/(scope.names.lookup y.1=some .cell/\((cellsFrom (s.heap.objs.size+1) scope.names []).lookup y.1).isSome=true):=λ⟨n,v⟩ hy=>by
  rcases S.par n (List.of_mem_zip hy).1 with q | q
  ·exact .inl q
  ·exact .inr ⟨q,PySem.W.cellsFrom_some _ _ _ (.inl q)⟩
 refine codeAny_call_function hr.depth (KX _ _ lk) rfl S.co S.gen rfl (PySem.W.codeRec_of KX hcd) (hb _ _ _ _ ?_);refine wpAny_newFunctionEnv_cells S.kind hkind λenv he s1 x=> ?_;subst he;refine ⟨lim.keeps x.toInCall.keep,codeAny_func ?_⟩;obtain ⟨t,ht,hq⟩:=hbody A outer s H vs Q E (hr.deeper _) hsp;have I:Inv (D6h CX P w K mg base N qual scope f cdv A outer s H E) [] (B6m N vs) H s1:=C7p S hr.hd e0 hl r x;refine Z10 (ht [] s1 (B6m N vs) H _ I hq) (λfl s' hs=> ?_) λe s' hs=>hs
 have fin:∀{Z':St} {H':Hp} {v:V} {u:Value},Inv (D6h CX P w K mg base N qual scope f cdv A outer s H E) [] Z' H' s'->A2z v u->Q v H'->CE outer P w H s Q u s' :=
  λ{Z' H' v u} J rv q=>(i0r v H' J.os J.bare J.base J.hok rv q)
 cases fl with
 | ret u =>
  obtain ⟨v,Z',H',J,rv,q⟩:=hs;exact fin J rv q
 | next =>
  obtain ⟨Z',H',J,q⟩:=hs;exact fin (v:=V.non) (u:=Value.none) J rfl q
 | brk =>
  obtain ⟨_,_,_,q⟩:=hs;exact False.elim q
 | cont =>
  obtain ⟨_,_,_,q⟩:=hs;exact False.elim q
section
variable {X:Cx} {x:Str} {p pos:Pos} {e:Expr} {es:List Expr} {t:TA} {id T:String} {r:List V->Hp->VK->Prop}
def tCB (r:List V->Hp->VK->Prop) (t:TA):TE:=λZ H Q=>t Z H λvs H1=>r vs H1 Q
theorem A0y (hc:A9d X (.builtin id) r) (hg:Gl X x) (hm:X.mg x=none) (hv:bootBuiltins x=some (.builtin id)) (ha:PA X (e::es) t) (hn:x≠"__name__":=by decide) (hdb:(x == ("__debug__":Str))=false:=by decide)
  (he:starEach (e::es) X.env=(false,eval e X.env)::starEach es X.env:=by rfl) (hpl:(backTo pos (starEach es X.env)).any (·.1)=false:=by rfl):PE X (.Call (.Name x p) (e::es) [] pos) (tCB r t):=by
 intro pins s Z H Q I h;refine wpAny_Call_Name_kw (B0o I hg hm hv ?_ hn hdb);exact PyProof.Rows.callWith_builtin1 (thn (ha pos pins s Z H _ I h) (by rintro us s1 ⟨vs,H1,I1,r1,q1⟩;exact hc pins s1 Z H1 vs us Q I1 r1 q1)) he hpl
theorem A2a (hc:A9d X (.type T) r) (hg:Gl X x) (hm:X.mg x=none) (hv:bootBuiltins x=some (.type T)) (ha:PA X (e::es) t) (hn:x≠"__name__":=by decide) (hdb:(x == ("__debug__":Str))=false:=by decide)
  (he:starEach (e::es) X.env=(false,eval e X.env)::starEach es X.env:=by rfl) (hpl:(backTo pos (starEach es X.env)).any (·.1)=false:=by rfl):PE X (.Call (.Name x p) (e::es) [] pos) (tCB r t):=by
 intro pins s Z H Q I h;refine wpAny_Call_Name_kw (B0o I hg hm hv ?_ hn hdb);exact PyProof.Rows.callWith_type1 (thn (ha pos pins s Z H _ I h) (by rintro us s1 ⟨vs,H1,I1,r1,q1⟩;exact hc pins s1 Z H1 vs us Q I1 r1 q1)) he hpl
end
end L2
namespace HT
open PySem PyProof.Rows
section
open PySem.SeqAt
open PySem.AutoSeq1 (wpAny_loadPart')
open PySem.MeetsSeq PySem.MeetsSeq2 PySem.MeetsSeq3
end
section
variable {prog:Program} {w:World} {A:Around} {E:Value->Shared->Prop} {s:Shared}
theorem cat_tup {t b:Addr} {vs ws:List Value} {Q:Value->Shared->Prop} (ht:IsTup s.heap t vs.toArray) (hb:IsTup s.heap b ws.toArray) (hv:vs≠[])
  (h1:ws=[]->Q (.ref t) s) (h2:ws≠[]->Q (.ref s.heap.objs.size) { s with heap:=s.heap.push { cls:= .type "tuple",data:= .seq (vs++ws).toArray } })
  (hsz:vs.length+ws.length<=sizeLine):wpAny (model prog w) A (binaryOp .Add (.ref t) (.ref b)) Q E s:=by
 obtain ⟨⟨cls,dd,data,sl⟩,ho,hc,n,hd⟩:=id ht;obtain ⟨⟨cls2,dd2,data2,sl2⟩,ho2,hc2,n2,hd2⟩:=id hb;simp only at hc hd hc2 hd2;subst hc hd hc2 hd2;have e:vs.toArray++ws.toArray=(vs++ws).toArray:=by simp
 by_cases hw:ws=[]
 ·exact concat_meets (i02 _ ho rfl) (i02 _ ho2 rfl) noFill_tuple_add seq_tuple_add PySem.F.slot_tuple_add PySem.F.entry_tuple_add (PySem.F.args_tuple_add_2 _ _)
   (tuple_addW1 t b vs.toArray ws.toArray n n2 dd dd2 sl sl2 (by simpa using hv) (by simp [hw])) (i00 ho ho2 (h1 hw))
 ·refine concat_meets (i02 _ ho rfl) (i02 _ ho2 rfl) noFill_tuple_add seq_tuple_add PySem.F.slot_tuple_add PySem.F.entry_tuple_add (PySem.F.args_tuple_add_2 _ _)
   (tuple_addW2 t b vs.toArray ws.toArray n n2 dd dd2 sl sl2 (by simpa using hv) (by simpa using hw) (by rw [Z0g,Z0g];exact hsz)) (i00 ho ho2 ?_)
  rw [e];exact h2 hw
def sIx (n d:Nat):Option Int->Nat
 | none=>d
 | some v=>if v<0 then (v+(n:Int)).toNat else min v.toNat n
theorem sIx_none (n d:Nat):sIx n d none=d:=rfl
theorem sIx_nat (n d k:Nat):sIx n d (some (k:Int))=min k n:=by
 show (if (k:Int)<0 then ((k:Int)+(n:Int)).toNat else min (k:Int).toNat n)=min k n;rw [Z0t (by lia),Int.toNat_natCast]
end
end HT
namespace L2
open PySem PySem.Spec PyProof.Rows
variable {r:V->Option Int->Option Int->Hp->VK->Prop} {xs:List (List Key×Addr×Value)} {us its its':List Value} {n t':Nat} {pins:List (Addr×Obj)} {Z:St} {H:Hp} {s:Shared} {f:Array Value->Array Value} {y:V} {u:Value} {o:Option V} {P:Program} {w:World} {kvs:List (List Key×V)} {a:Addr} {Q:Value->Shared->Prop} {X:Cx} {trs:List (TE×TE)} {keys:List (Option Expr)}
abbrev TO:=St->Hp->(Option Int->Hp->Prop)->Prop
def PO (X:Cx) (e:Option Expr) (t:TO):Prop :=
 ∀(pins:List (Addr×Obj)) (s:Shared) (Z:St) (H:Hp) (Q:Option Int->Hp->Prop),Inv X pins Z H s->t Z H Q->
  wpAny (model X.prog X.w) X.A (evalPart e X.env) (λu s'=>∃o H',Inv X pins Z H' s'/\IsPart u o/\Q o H') X.xe s
def D3p:TO:=λ_ H Q=>Q none H
def E1k (t:TE):TO:=λZ H Q=>t Z H λx H1=>∃i,x= .int i/\Q (some i) H1
theorem B4p {ns:List Int}:∀{us:List Value},A2p (ns.map V.int) us->IntsAre us ns:=by
 induction ns with
 | nil=>intro us r;rw [List.map_nil] at r;cases r;exact .nil
 | cons n ns ih =>
  intro us r;rw [Z0p] at r
  cases r with
  | cons r1 r2 =>
   obtain ⟨t,e⟩:=r1;subst e;exact .cons n t (ih r2)
section
variable {X:Cx} {e:Expr} {te:TE} {lo hi:Option Expr} {tl th:TO} {pos p2:Pos}
theorem A3y:PO X none D3p:=by
 intro pins s Z H Q I h;rw [evalPart_none];exact Z04 (i0f none H I .none h)
theorem A2x (h:PE X e te):PO X (some e) (E1k te):=by
 intro pins s Z H Q I hw;rw [evalPart_some];refine thn (h pins s Z H _ I hw) ?_;rintro u s1 ⟨x,H1,I1,r1,q1⟩;obtain ⟨i,rfl,q⟩:=q1;obtain ⟨t,rfl⟩:=r1;exact i0f (some i) H1 I1 (.int i t) q
def SlR (X:Cx) (r:V->Option Int->Option Int->Hp->VK->Prop):Prop :=
 ∀(pins:List (Addr×Obj)) (s:Shared) (Z:St) (H:Hp) (x:V) (v vl vu:Value) (lo hi:Option Int) (sl:Addr) (Q:VK),Inv X pins Z H s->A2z x v->s.heap.IsSliceOf sl vl vu .none->IsPart vl lo->IsPart vu hi->r x lo hi H Q->
  ∃T id,typeLookup (.type T) "__getitem__"=pure (some (.builtin id))/\s.TypeIs v T/\wpAny (model X.prog X.w) X.A (getItem v (.ref sl)) (EP X pins Z Q) X.xe s
def tSl (r:V->Option Int->Option Int->Hp->VK->Prop) (te:TE) (tl th:TO):TE:=λZ H Q=>te Z H λx H1=>tl Z H1 λl H2=>th Z H2 λu H3=>r x l u H3 Q
theorem A2q (hr:SlR X r) (he:PE X e te) (hl:PO X lo tl) (hu:PO X hi th):PE X (.Subscript e (.Slice lo hi none p2) pos) (tSl r te tl th):=by
 intro pins s Z H Q I h;refine Subscript_ (thn (he pins s Z H _ I h) ?_);rintro v s1 ⟨x,H1,I1,r1,q1⟩;refine wpAny_Slice (thn (hl pins s1 Z H1 _ I1 q1) ?_);rintro vl s2 ⟨l,H2,I2,pl,q2⟩;refine thn (hu pins s2 Z H2 _ I2 q2) ?_;rintro vu s3 ⟨u,H3,I3,pu,q3⟩;rw [evalPart_none];refine Z04 ?_;have I4:Inv X pins Z H3 { s3 with heap:=s3.heap.push { cls:= .type "slice",data:= .fields #[vl,vu,.none] } }:=I3.kept (t':=s3.toks) λb ob q=>Z01 _ q
 obtain ⟨T,id,hT,ht,hg⟩:=hr pins { s3 with heap:=s3.heap.push { cls:= .type "slice",data:= .fields #[vl,vu,.none] } } Z H3 x v vl vu l u s3.heap.objs.size Q I4 r1 (Heap.IsSliceOf.new ..) pl pu q3;show wpAny (model X.prog X.w) X.A (subscriptTail e (.Slice lo hi none p2) v (.ref s3.heap.objs.size)) (EP X pins Z Q) X.xe { s3 with heap:=s3.heap.push { cls:= .type "slice",data:= .fields #[vl,vu,.none] } };exact tail_any (ops:=[.ref s3.heap.objs.size,v]) ht hT hg (by with_unfolding_all rfl)
def B4b (xs:List V) (lo hi:Option Int):List V:=(xs.drop (HT.sIx xs.length 0 lo)).take (HT.sIx xs.length xs.length hi-HT.sIx xs.length 0 lo)
theorem B9b (xs:List V) (lo hi:Option Int):(B4b xs lo hi).length<=xs.length:=by
 unfold B4b;rw [Z0x,Z19]
 lia
def E0p (K:Frag):R2:=λx y H Q=>∃a b xs ys,x= .ref a/\y= .ref b/\SqT K H a xs/\SqT K H b ys/\xs≠[]/\xs.length+ys.length<=sizeLine/\
 (ys=[]->Q (.ref a) H)/\(ys≠[]->∀p,H p=none->Q (.ref p) (upd H p (.tup (xs++ys))))
theorem A2p.nil_iff {xs:List V} (r:A2p xs us):us=[]↔xs=[]:=by
 cases r with
 | nil=>simp
 | cons _ _=>simp
theorem C7q:OpR X (binaryOp .Add) (E0p X.K):=by
 intro pins s Z H x y v u Q I rx ry h;refine e0c h ?_;clear h;rintro a b xs ys rfl rfl ha hb ⟨hx,hz,q1,q2⟩;cases rx;cases ry;obtain ⟨its,r1,p1,_⟩:=I.tuple ha;obtain ⟨its2,r2,p2,_⟩:=I.tuple hb;refine HT.cat_tup p1 p2 (λz=>hx (r1.nil_iff.mp z)) (λz=>(i0f (.ref a) H I rfl (q1 (r2.nil_iff.mp z)))) (λz=> ?_) (by rw [<-r1.length,<-r2.length];exact hz);refine i0f (.ref s.heap.objs.size) _ (I.laid (t':=s.toks) (o:= .tup (xs++ys)) (λb ob q=>Z01 _ q) (Z09 _) ?_) rfl (q2 (λw=>z (r2.nil_iff.mpr w)) _ (I.hok.fresh (Z09 _)));exact i05 (by rw [Z06];exact hz) _ (r1.append r2) (IsTup.new _ _)
end
def ixN (n:Nat) (i:Int):Option Nat:=if 0<=i then (if i<n then some i.toNat else none) else if -(n:Int)<=i then some (i+n).toNat else none
def atI {α:Type} (xs:List α) (i:Int):Option α:=(ixN xs.length i).bind λj=>xs[j]?
theorem C7n {i:Int} {j:Nat} (h:ixN n i=some j):seqIndex? i n=some j/\j<n/\-(n:Int)<=i/\i<n:=by
 unfold ixN at h;by_cases h0:0<=i
 ·rw [Z12 h0] at h;by_cases h1:i<n
  ·rw [Z12 h1] at h;have e:i.toNat=j:=Z1a h;exact i04 (by rw [seqIndex_of h0 h1,e]) (by lia) (by lia) h1
  ·rw [Z0t h1] at h;cases h
 ·rw [Z0t h0] at h;by_cases h1: -(n:Int)<=i
  ·rw [Z12 h1] at h;have e:(i+n).toNat=j:=Z1a h;exact i04 (by rw [seqIndex_neg (by lia) h1,e]) (by lia) h1 (by lia)
  ·rw [Z0t h1] at h;cases h
theorem B9d {α:Type} {xs:List α} {i:Int} {v:α} (h:atI xs i=some v):∃j,seqIndex? i xs.length=some j/\xs[j]? =some v/\j<xs.length/\-(xs.length:Int)<=i/\i<xs.length:=by
 unfold atI at h
 cases e:ixN xs.length i with
 | none=>rw [e] at h;cases h
 | some j =>
  rw [e] at h;obtain ⟨h1,h2,h3,h4⟩:=C7n e;exact ⟨j,(i08 h1 h h2 h3 h4)⟩
theorem A0j {α:Type} {xs:List α} {j:Nat} {v:α} (h:xs[j]? =some v):atI xs (j:Int)=some v:=by
 have hj:j<xs.length:=(Z03.mp h).1
 have e:ixN xs.length (j:Int)=some j:=by
  unfold ixN;rw [Z12 (by lia),Z12 (by lia)];simp
 unfold atI;rw [e];exact h
def D5p (b:Expr):Prop:=∀o i,subscripted b false o i=operate [o,i] (getItem o i)
def IxR (X:Cx) (r:R2):Prop :=
 ∀(value slice:Expr) (pins:List (Addr×Obj)) (s:Shared) (Z:St) (H:Hp) (x y:V) (v u:Value) (Q:VK),Inv X pins Z H s->A2z x v->A2z y u->r x y H Q->
  subscripted slice false v u=operate [v,u] (getItem v u)->wpAny (model X.prog X.w) X.A (subscriptTail value slice v u) (EP X pins Z Q) X.xe s
def MtR (X:Cx) (id:String) (r:V->List V->Hp->VK->Prop):Prop :=
 ∀(pins:List (Addr×Obj)) (s:Shared) (Z:St) (H:Hp) (x:V) (xs:List V) (v:Value) (us:List Value) (Q:VK),Inv X pins Z H s->A2z x v->A2p xs us->r x xs H Q->
  wpAny (model X.prog X.w) X.A (call (.builtin id) (v::us)) (EP X pins Z Q) X.xe s
section
variable {X:Cx} {a b:Expr} {ta tb:TE} {pos:Pos}
theorem A1h {r:R2} (hr:IxR X r) (ha:PE X a ta) (hb:PE X b tb) (hs:D5p b:=by exact λ_ _=>rfl):PE X (.Subscript a b pos) (tOp r ta tb):=by
 intro pins s Z H Q I h;exact Subscript_ (E1l ha hb I h λv u s2 x y H2 I2 rx ry q=>hr a b pins s2 Z H2 x y v u Q I2 rx ry q (hs _ _))
def E1s (K:Frag):R2:=λx y H Q=>∃p xs i v,x= .ref p/\y= .int i/\SqL K H p xs/\atI xs i=some v/\Q v H
def rIxT (K:Frag):R2:=λx y H Q=>∃p xs i v,x= .ref p/\y= .int i/\SqT K H p xs/\atI xs i=some v/\Q v H
def rIxS:R2:=λx y H Q=>∃z i c,x= .str z/\y= .int i/\z.length<=sizeLine/\atI z.cps.toList i=some c/\Q (.str ⟨#[c]⟩) H
theorem A3b:IxR X (E1s X.K):=by
 intro value slice pins s Z H x y v u Q I rx ry h hs;refine e0c h ?_;clear h;rintro p xs i z rfl rfl hq he q;cases rx;obtain ⟨t,rfl⟩:=ry;obtain ⟨its,r,pl,hz⟩:=I.list hq;obtain ⟨j,h1,h2,h3,h4,h5⟩:=B9d he;obtain ⟨w,ew,rw'⟩:=r.get h2;have hl:=r.length;have hn:=B7x;have fin:EP X pins Z Q w s:=(i0f z H I rw' q);by_cases h0:0<=i
 ·have hj:i.toNat=j:=by
   rw [seqIndex_of h0 h5] at h1;exact Z1a h1
  exact item_listR pl.isList h0 (by lia) (by rw [hj];simpa using ew) fin hs
 ·have hj:(i+(its.toArray.size:Int)).toNat=j:=by
   rw [seqIndex_neg (by lia) h4] at h1;rw [Z0g,<-hl];exact Z1a h1
  exact subscriptTail_builtinR (x:=w) pl.isList.typeIs slot_list_getitem.lookup
   (wpAny_getItem_list_neg (Q:=λr s'=>r=w/\EP X pins Z Q r s') pl.isList (by lia) (by rw [Z0g] <;> lia) (by lia) (by rw [hj];simpa using ew) ⟨rfl,fin⟩) hs
theorem A1g:IxR X (rIxT X.K):=by
 intro value slice pins s Z H x y v u Q I rx ry h hs;refine e0c h ?_;clear h;rintro p xs i z rfl rfl hq he q;cases rx;obtain ⟨t,rfl⟩:=ry;obtain ⟨its,r,pl,hz⟩:=I.tuple hq;obtain ⟨j,h1,h2,h3,h4,h5⟩:=B9d he;obtain ⟨w,ew,rw'⟩:=r.get h2;have hl:=r.length;have hn:=B7x;have fin:EP X pins Z Q w s:=(i0f z H I rw' q)
 exact subscriptTail_builtinR (x:=w) pl.typeIs slot_tuple_getitem.lookup
  (getItem_tuple (j:=j) (Q:=λr s'=>r=w/\EP X pins Z Q r s') pl (by lia) (by lia) (by rw [Z0g,<-hl];exact h1) (by simpa using ew) ⟨rfl,fin⟩) hs
theorem D2e:IxR X rIxS:=by
 intro value slice pins s Z H x y v u Q I rx ry h hs;refine e08 h ?_;clear h;rintro z i c rfl rfl hz ⟨he,q⟩;obtain ⟨t,rfl⟩:=rx;obtain ⟨t',rfl⟩:=ry;obtain ⟨j,h1,h2,h3,h4,h5⟩:=B9d he;have hl:z.cps.toList.length=z.length:=by simp [Str.length]
 rw [hl] at h1 h4 h5;have hn:=B7x
 exact tail_any (typeIs_str s z t) slot_str_getitem.lookup (getItem_str (c:=c) (by
  have e1:decide (i< -(2^63:Int))=false:=Z1j (by lia);have e2:decide (i≥2^63)=false:=Z1j (by lia)
  rw [e1,e2,Bool.or_false]) (by rw [h1];simpa using h2) (i0f (.str ⟨#[c]⟩) H (I.tok _) ⟨_,rfl⟩ q)) hs
theorem C3d (its:List Value) (n j:Nat) (u:Value):Obj.mapSeq (·.setIfInBounds j u) { cls:= .type "list",data:= .seq its.toArray n }={ cls:= .type "list",data:= .seq (its.set j u).toArray n }:=by
 simp [Obj.mapSeq]
theorem Inv.lst {p:Addr} {xs:List V} (I:Inv X pins Z H s) (h:H p=some (.lst xs)) :
  ∃(its:List Value) (n:Nat),A2p xs its/\s.heap.get? p=some { cls:= .type "list",data:= .seq its.toArray n }/\xs.length<=sizeLine:=by
 obtain ⟨z,its,n,r,e⟩:=I.hok p _ h;exact i0f its n r e z
theorem Inv.lstUpd {p:Addr} {xs ys:List V} {n':Nat} {f:Obj->Obj} (I:Inv X pins Z H s) (h:H p=some (.lst xs))
  (ho:s.heap.get? p=some { cls:= .type "list",data:= .seq its.toArray n }) (hf:f { cls:= .type "list",data:= .seq its.toArray n }={ cls:= .type "list",data:= .seq its'.toArray n' }) (r:A2p ys its') (hz:ys.length<=sizeLine) (t:Nat) :
  Inv X pins Z (upd H p (.lst ys)) { s with heap:=s.heap.update p f,toks:=t }:=by
 have e:(s.heap.update p f).get? p=some { cls:= .type "list",data:= .seq its'.toArray n' }:=by
  rw [Z1r f ho (by rw [hf] <;> rfl),hf]
 refine I.write (x:=p) (e:=p) (by rw [h];trivial) (.inl rfl) (λb u hb q=>(Z1d _ _ (Ne.symm hb)).trans q) ⟨_,e⟩ ?_;exact i0b hz its' n' r e
def E1d:V->V->V->Hp->(Hp->Prop)->Prop:=λo i v H Q=>∃p xs k j,o= .ref p/\i= .int k/\H p=some (.lst xs)/\ixN xs.length k=some j/\Q (upd H p (.lst (xs.set j v)))
theorem C0z:E1z X E1d:=by
 intro pins s Z H o i v ov iv u Q I ro ri rv h;refine e0c h ?_;clear h;rintro p xs k j rfl rfl hp hj q;cases ro;obtain ⟨t,rfl⟩:=ri;obtain ⟨its,n,r,ho,hz⟩:=I.lst hp;obtain ⟨h1,h2,h3,h4⟩:=C7n hj;have hl:=r.length;have hn:=B7x
 have I':Inv X pins Z (upd H p (.lst (xs.set j v))) { s with heap:=s.heap.update p (Obj.mapSeq (·.setIfInBounds j u)) } :=
  I.lstUpd hp ho (C3d its n j u) (r.set rv j) (by rw [List.length_set];exact hz) s.toks
 by_cases h0:0<=k
 ·have hk:k.toNat=j:=by
   rw [seqIndex_of h0 h4] at h1;exact Z1a h1
  exact PySem.W.ki_setAt ho h0 (by lia) (by rw [Z0g,<-hl];exact h4) (by rw [hk];exact i02 _ I' q)
 ·have hk:(k+(its.toArray.size:Int)).toNat=j:=by
   rw [seqIndex_neg (by lia) h3] at h1;rw [Z0g,<-hl];exact Z1a h1
  exact PySem.W.ki_setBack ho (by lia) (by rw [Z0g,<-hl];exact h3) (by lia) (by rw [hk];exact i02 _ I' q)
theorem B7z (lo hi:Option Int) (n:Nat):(sliceBounds lo hi none n).1=((HT.sIx n 0 lo:Nat):Int)/\(sliceBounds lo hi none n).2.1=((HT.sIx n n hi:Nat):Int)/\(sliceBounds lo hi none n).2.2=1:=by
 refine i00 ?_ ?_ rfl
 ·cases lo with
  | none=>simp [sliceBounds,HT.sIx]
  | some i =>
   simp only [sliceBounds,HT.sIx,Option.getD_none,show (1:Int)>0 by decide,if_true];by_cases h:i<0
   ·simp only [h,if_true] <;> lia
   ·simp only [h,if_false] <;> lia
 ·cases hi with
  | none=>simp [sliceBounds,HT.sIx]
  | some i =>
   simp only [sliceBounds,HT.sIx,Option.getD_none,show (1:Int)>0 by decide,if_true];by_cases h:i<0
   ·simp only [h,if_true] <;> lia
   ·simp only [h,if_false] <;> lia
theorem B5s (its:List Value) (lo hi:Option Int):slicePick its.toArray lo hi none=((its.drop (HT.sIx its.length 0 lo)).take (HT.sIx its.length its.length hi-HT.sIx its.length 0 lo)).toArray:=by
 obtain ⟨h1,h2,h3⟩:=B7z lo hi its.toArray.size;unfold slicePick;rw [h1,h2,h3];simp only [sliceRange_one,pick_run,Z0g] <;> rfl
def rSlL (K:Frag):V->Option Int->Option Int->Hp->VK->Prop:=λx lo hi H Q=>∃a xs,x= .ref a/\SqL K H a xs/\∀p,H p=none->Q (.ref p) (upd H p (.lst (B4b xs lo hi)))
theorem A3r:SlR X (rSlL X.K):=by
 intro pins s Z H x v vl vu lo hi sl Q I rx hs pl pu h;obtain ⟨a,xs,rfl,hx,q⟩:=h;cases rx;obtain ⟨its,r,ht,hz⟩:=I.list hx;have hlen:=r.length;refine i0f "list" _ slot_list_getitem.lookup ht.isList.typeIs ?_;refine wpAny_getItem_list_slice ht.isList hs pl pu .none (by simp) ?_ (by rw [Z0g] <;> lia);rw [B5s,<-hlen];refine i0f (.ref s.heap.objs.size) _ (I.laid (t':=s.toks) (o:= .lst (B4b xs lo hi)) (λb ob q=>Z01 _ q) (Z09 _) ?_) rfl (q _ (I.hok.fresh (Z09 _)));exact i0b (Z1n (B9b xs lo hi) hz) _ 0 ((r.drop (HT.sIx xs.length 0 lo)).take (HT.sIx xs.length xs.length hi-HT.sIx xs.length 0 lo)) (Z0c _ rfl)
def B4x:V->Bool
 | .non=>true
 | .bl _=>true
 | .int _=>true
 | .str _=>true
 | _=>false
noncomputable def eqV:V->V->Bool
 | .non,.non=>true
 | .bl a,.bl b=>a == b
 | .bl a,.int b=>(if a then 1 else 0) == b
 | .int a,.bl b=>a == (if b then 1 else 0)
 | .int a,.int b=>a == b
 | .str a,.str b=>a == b
 | _,_=>false
theorem D8e {A:Around} {x:V} {v:Value} (ry:A2z y u) (rx:A2z x v) (fy:B4x y=true) (fx:B4x x=true):SeqAt.EqAt A s u v (eqV y x):=by
 cases y with
 | non =>
  cases ry
  cases x with
  | non=>cases rx;exact SeqAt.EqAt.same _
  | bl b=>cases rx;exact SeqAt.EqAt.none_bool b
  | int b=>obtain ⟨t,rfl⟩:=rx;exact SeqAt.EqAt.none_int b t
  | str b=>obtain ⟨t,rfl⟩:=rx;exact SeqAt.EqAt.none_str b t
  | _=>exact absurd (show false=true from fx) Z0v
 | bl a =>
  cases ry
  cases x with
  | non=>cases rx;exact SeqAt.EqAt.bool_none a
  | bl b=>cases rx;exact SeqAt.EqAt.bool_bool a b
  | int b=>obtain ⟨t,rfl⟩:=rx;exact SeqAt.EqAt.bool_int a b t
  | str b=>obtain ⟨t,rfl⟩:=rx;exact SeqAt.EqAt.bool_str a b t
  | _=>exact absurd (show false=true from fx) Z0v
 | int a =>
  obtain ⟨t',rfl⟩:=ry
  cases x with
  | non=>cases rx;exact SeqAt.EqAt.int_none a t'
  | bl b=>cases rx;exact SeqAt.EqAt.int_bool a t' b
  | int b=>obtain ⟨t,rfl⟩:=rx;exact SeqAt.EqAt.int_int a t' b t
  | str b=>obtain ⟨t,rfl⟩:=rx;exact SeqAt.EqAt.int_str a t' b t
  | _=>exact absurd (show false=true from fx) Z0v
 | str a =>
  obtain ⟨t',rfl⟩:=ry
  cases x with
  | non=>cases rx;exact SeqAt.EqAt.str_none a t'
  | bl b=>cases rx;exact SeqAt.EqAt.str_bool a t' b
  | int b=>obtain ⟨t,rfl⟩:=rx;exact SeqAt.EqAt.str_int a t' b t
  | str b=>obtain ⟨t,rfl⟩:=rx;exact SeqAt.EqAt.str_str a t' b t
  | _=>exact absurd (show false=true from fx) Z0v
 | _=>exact absurd (show false=true from fy) Z0v
def eqU (x:V) (u:Value):Bool:=match u with
 | .none=>eqV .non x
 | .bool b=>eqV (.bl b) x
 | .int i _=>eqV (.int i) x
 | .str z _=>eqV (.str z) x
 | _=>false
theorem D2b {x:V} (r:A2z y u) (f:B4x y=true):eqU x u=eqV y x:=by
 cases y with
 | non=>cases r;rfl
 | bl b=>cases r;rfl
 | int i=>obtain ⟨t,rfl⟩:=r;rfl
 | str z=>obtain ⟨t,rfl⟩:=r;rfl
 | _=>exact absurd (show false=true from f) Z0v
theorem B9w {x:V}:∀{xs:List V} {us:List Value},A2p xs us->xs.all B4x=true->us.any (eqU x)=xs.any λy=>eqV y x
 | _,_,.nil,_=>rfl
 | y::xs,u::us,.cons r t,f=>by
  rw [List.all_cons,Z1x] at f;rw [List.any_cons,List.any_cons,D2b r f.1,B9w t f.2]
theorem B5t {A:Around} {s:Shared} {x:V} {v:Value} (rx:A2z x v) (fx:B4x x=true):∀{xs:List V} {us:List Value},A2p xs us->xs.all B4x=true->∀u∈us,SeqAt.EqAt A s u v (eqU x u)
 | _,_,.nil,_=>λu hu=>by cases hu
 | y::xs,u::us,.cons r t,f=>λu' hu=>by
  rw [List.all_cons,Z1x] at f;rcases Z0e.mp hu with rfl | hu
  ·rw [D2b r f.1];exact D8e r rx f.1 fx
  ·exact B5t rx fx t f.2 u' hu
def inV (x:V) (xs:List V):Bool:=xs.any λy=>eqV y x
def rIn (K:Frag) (neg:Bool):R2:=λx y H Q=>∃p xs,y= .ref p/\(SqL K H p xs\/SqT K H p xs)/\B4x x=true/\xs.all B4x=true/\Q (.bl (if neg then ! inV x xs else inV x xs)) H
theorem B6u:OpR X (compareOp .NotIn) (rIn X.K true):=by
 intro pins s Z H x y v u Q I rx ry h;refine e06 h ?_;clear h;rintro p xs rfl hq fx ⟨fs,q⟩;cases ry;rcases hq with hq | hq
 ·obtain ⟨its,r,pl,hz⟩:=I.list hq;refine SeqAt.notIn_listAt (eqU x) pl.isList (λw hw=>B5t rx fx r fs w (by simpa using hw)) (i0f (.bl _) H I rfl ?_);rw [show its.toArray.any (eqU x)=its.any (eqU x) by simp,B9w r fs];exact q
 ·obtain ⟨its,r,pl,hz⟩:=I.tuple hq;refine SeqAt.notIn_tupleAt (eqU x) pl (λw hw=>B5t rx fx r fs w (by simpa using hw)) (i0f (.bl _) H I rfl ?_);rw [show its.toArray.any (eqU x)=its.any (eqU x) by simp,B9w r fs];exact q
theorem A1c:A9d X (.builtin "len") (λxs H Q=>∃p ys,xs=[.ref p]/\(SqL X.K H p ys\/SqT X.K H p ys)/\Q (.int ys.length) H):=by
 intro pins s Z H xs us Q I r h;obtain ⟨p,ys,rfl,hq,q⟩:=h;obtain ⟨u,rfl,rx⟩:=B2s r;cases rx;have hn:=B7x;rcases hq with hq | hq
 ·obtain ⟨its,r',pl,hz⟩:=I.list hq;have hlen:=r'.length;exact Calls.call_len_list pl.isList (by simp only [Z0g] <;> lia) (i0f (.int ys.length) H (I.tok _) ⟨s.toks+1,by rw [Z0g,hlen]⟩ q)
 ·obtain ⟨its,r',pl,hz⟩:=I.tuple hq;have hlen:=r'.length;exact len_tuple pl (by simp only [Z0g] <;> lia) (i0f (.int ys.length) H (I.tok _) ⟨s.toks+1,by rw [Z0g,hlen]⟩ q)
theorem A4x:A9d X (.type "list") (λxs H Q=>∃p ys,xs=[.ref p]/\(SqL X.K H p ys\/SqT X.K H p ys)/\∀l,H l=none->Q (.ref l) (upd H l (.lst ys))):=by
 intro pins s Z H xs us Q I r h;obtain ⟨p,ys,rfl,hq,q⟩:=h;obtain ⟨u,rfl,rx⟩:=B2s r;cases rx
 have fin:∀(its:List Value),A2p ys its->ys.length<=sizeLine->∀(h':Heap) (c':Nat),(∀b o',s.heap.get? b=some o'->h'.get? b=some o')->
   h'.get? s.heap.objs.size=some { cls:= .type "list",dict:=none,data:= .seq its.toArray c',slots:= #[] }->EP X pins Z Q (.ref s.heap.objs.size) { s with heap:=h' }:=λits r' hz h' c' kp e =>
  (i0f (.ref s.heap.objs.size) _ (I.laid (t':=s.toks) kp (Z09 _) (show A1z X.prog X.w _ h' _ (.lst ys) from (i0b hz its c' r' e))) rfl (q _ (I.hok.fresh (Z09 _))))
 rcases hq with hq | hq
 ·obtain ⟨its,r',pl,hz⟩:=I.list hq;have hlen:=r'.length;obtain ⟨o,ho,hc,n,hd⟩:=pl.isList;exact call_list_seq p (.inl rfl) ho hc hd (λh' c' kp e=>fin its r' hz h' c' kp e) (by simp only [Z0g] <;> lia)
 ·obtain ⟨its,r',pl,hz⟩:=I.tuple hq;have hlen:=r'.length;obtain ⟨o,ho,hc,n,hd⟩:=pl;exact call_list_seq p (.inr rfl) ho hc hd (λh' c' kp e=>fin its r' hz h' c' kp e) (by simp only [Z0g] <;> lia)
theorem A4f:A9d X (.type "tuple") (λxs H Q=>∃p ys,xs=[.ref p]/\((SqL X.K H p ys/\∀l,H l=none->Q (.ref l) (upd H l (.tup ys)))\/(SqT X.K H p ys/\Q (.ref p) H))):=by
 intro pins s Z H xs us Q I r h;obtain ⟨p,ys,rfl,h⟩:=h;obtain ⟨u,rfl,rx⟩:=B2s r;cases rx;rcases h with ⟨hq,q⟩ | ⟨hq,q⟩
 ·obtain ⟨its,r',pl,hz⟩:=I.list hq;have hlen:=r'.length;refine call_tuple_list pl.isList (λh' kp=> ?_) (by simp only [Z0g] <;> lia);have I1:Inv X pins Z H { s with heap:=h' }:=I.kept (t':=s.toks) kp
  have I2:Inv X pins Z (upd H h'.objs.size (.tup ys)) { s with heap:=h'.push { cls:= .type "tuple",data:= .seq its.toArray } } :=
   I1.laid (t':=s.toks) (λb o e=>Z01 _ e) (Z09 _) (show A1z X.prog X.w _ _ _ (.tup ys) from (i05 hz its r' (IsTup.new _ _)))
  exact i0f (.ref h'.objs.size) _ I2 rfl (q _ (I1.hok.fresh (Z09 _)))
 ·obtain ⟨its,r',pl,hz⟩:=I.tuple hq;exact call_tuple_same pl (i0f (.ref p) H I rfl q)
def tyV (K:Frag) (T:String) (x:V) (H:Hp):Prop:=match x with
 | .str _=>T="str"
 | .int _=>T="int"
 | .ref p=>(T="list"/\∃xs,SqL K H p xs)\/(T="tuple"/\∃o,K.lookup p=some o/\o.cls= .type "tuple"/\o.dict=none)\/
   (T="dict"/\((∃kvs,H p=some (.dK kvs))\/∃kvs,H p=some (.dT kvs)))\/(T="set"/\∃S n,H p=some (.set S n))
 | _=>False
theorem D1t {T:String} {x:V} {v:Value} (I:Inv X pins Z H s) (r:A2z x v) (ty:tyV X.K T x H) :
  s.TypeIs v T/\∀a,v= .ref a->∃ob,s.heap.get? a=some ob/\ob.dict=none:=by
 cases x with
 | str z =>
  obtain ⟨t,rfl⟩:=r;cases (show T="str" from ty);exact ⟨typeIs_str s z t,λ_ e=>nomatch e⟩
 | int i =>
  obtain ⟨t,rfl⟩:=r;cases (show T="int" from ty);exact ⟨typeIs_int s i t,λ_ e=>nomatch e⟩
 | ref p =>
  cases r
  rcases ty with ⟨rfl,xs,hq⟩ | ⟨rfl,o,hk,hc,hd⟩ | ⟨rfl,hk⟩ | ⟨rfl,S,n,hk⟩
  ·obtain ⟨its,_,pl,_⟩:=I.list hq;refine ⟨pl.isList.typeIs,λa e=> ?_⟩;cases e;obtain ⟨o,n,e,c,hd,_⟩:=pl;exact i02 o e hd
  ·refine ⟨(i02 o (I.kIn p o hk) hc),λa e=> ?_⟩;cases e;exact i02 o (I.kIn _ o hk) hd
  ·have z:∃o,s.heap.get? p=some o/\o.ExactDict:=by
    rcases hk with ⟨kvs,hk⟩ | ⟨kvs,hk⟩
    ·refine e0b (I.hok p _ hk) ?_;rintro _ _ _ _ o _ _ e ⟨ex,_⟩;exact i02 o e ex
    ·refine e0b (I.hok p _ hk) ?_;rintro _ _ _ _ o _ _ e ⟨ex,_⟩;exact i02 o e ex
   obtain ⟨o,e,ex⟩:=z;refine ⟨(i02 o e ex.1),λa e2=> ?_⟩;cases e2;exact i02 o e ex.2.1
  ·refine e01 (I.hok p _ hk) ?_;rintro o _ _ ⟨_,e,ex,_⟩;refine ⟨(i02 o e ex.1),λa e2=> ?_⟩;cases e2;exact i02 o e ex.2.1
 | _=>exact False.elim ty
def tBM0 (K:Frag) (T:String) (r:V->List V->Hp->VK->Prop) (to:TE):TE:=λZ H Q=>to Z H λx H1=>tyV K T x H1/\r x [] H1 Q
def tBM (K:Frag) (T:String) (r:V->List V->Hp->VK->Prop) (to:TE) (t:TA):TE:=λZ H Q=>to Z H λx H1=>tyV K T x H1/\t Z H1 λxs H2=>r x xs H2 Q
variable {o e:Expr} {es:List Expr} {to:TE} {t:TA} {name:Str} {apos cpos:Pos} {T id:String} {r:V->List V->Hp->VK->Prop}
theorem B3z (pa:PlainAttrs T) (slot:Slot T name id) (hty:typeOf (.builtin id)=pure (.type "method_descriptor")) (hm:MtR X id r) (ho:PE X o to)
  (hbase:attributeBase o name X.env (eval o X.env)=eval o X.env:=by rfl) (hline:(apos.endLine == cpos.line)=true:=by rfl):PE X (.Call (.Attribute o name apos) [] [] cpos) (tBM0 X.K T r to):=by
 intro pins s Z H Q I h;refine wpAny_Call_method0_late hbase hline (thn (ho pins s Z H _ I h) ?_);rintro v s1 ⟨x,H1,I1,r1,ty,q1⟩;obtain ⟨h1,h2⟩:=D1t I1 r1 ty;exact i0r T id pa slot hty h1 h2 (Calls.callWith_builtin rfl (PySem.evalArgs_none (hm pins s1 Z H1 x [] v [] Q I1 r1 .nil q1)))
theorem B0u (pa:PlainAttrs T) (slot:Slot T name id) (hty:typeOf (.builtin id)=pure (.type "method_descriptor")) (hm:MtR X id r) (ho:PE X o to) (ha:PA X (e::es) t)
  (hbase:attributeBase o name X.env (eval o X.env)=eval o X.env:=by rfl)
  (hfew:((backTo cpos (starEach (e::es) X.env)).all (λx=> ! x.1)&&(backToKw cpos (keywordEach [] X.env)).all (λx=>x.1.isSome)
   && decide ((e::es).length+([]:List Keyword).length+(if ([]:List Keyword).isEmpty then 0 else 1)<30))=true:=by rfl)
  (hline:(apos.endLine == cpos.line)=true:=by rfl) (hs:starEach (e::es) X.env=(false,eval e X.env)::starEach es X.env:=by rfl) (hplain:(backTo cpos (starEach es X.env)).any (·.1)=false:=by rfl) :
  PE X (.Call (.Attribute o name apos) (e::es) [] cpos) (tBM X.K T r to t):=by
 intro pins s Z H Q I h;refine wpAny_Call_method_late hbase hfew hline rfl (thn (ho pins s Z H _ I h) ?_);rintro v s1 ⟨x,H1,I1,r1,ty,q1⟩;obtain ⟨h1,h2⟩:=D1t I1 r1 ty;refine i0r T id pa slot hty h1 h2 ?_;have hA:=ha cpos pins s1 Z H1 _ I1 q1;rw [hs] at hA⊢;refine Calls.callWith_builtin (by show (false||(backTo cpos (starEach es X.env)).any (·.1))=false;rw [hplain] <;> rfl) (Calls.evalArgs_plain ?_);exact thn hA (by rintro us s2 ⟨vs,H2,I2,r2,q2⟩;exact hm pins s2 Z H2 x vs v us Q I2 r1 r2 q2)
end
def MtM (X:Cx) (id:String) (r:V->List V->Hp->VK->Prop):Prop :=
 ∀(pins:List (Addr×Obj)) (s:Shared) (Z:St) (H:Hp) (x:V) (xs:List V) (v:Value) (us:List Value) (Q:VK),Inv X pins Z H s->A2z x v->A2p xs us->r x xs H Q->
  wpAny (model X.prog X.w) X.A (call (.builtin id) (v::us)) (EP X pins Z Q) X.xe s
theorem A2p.one:∀{x:V} {us:List Value},A2p [x] us->∃u,us=[u]/\A2z x u
 | _,_,.cons r .nil=>(i02 _ rfl r)
theorem A2p.zero:∀{us:List Value},A2p [] us->us=[]
 | _,.nil=>rfl
theorem A2p.dropLast {xs:List V} (h:A2p xs us):A2p xs.dropLast us.dropLast:=by
 induction h with
 | nil=>exact .nil
 | cons r t ih =>
  cases t with
  | nil=>exact .nil
  | cons q t'=>exact .cons r ih
theorem A2p.reverse {xs:List V} (h:A2p xs us):A2p xs.reverse us.reverse:=by
 induction h with
 | nil=>exact .nil
 | cons r t ih=>rw [List.reverse_cons,List.reverse_cons];exact A2p.append ih (.cons r .nil)
theorem C3q {α:Type} (l:List α):l.eraseIdx (l.length-1)=l.dropLast:=by
 induction l with
 | nil=>rfl
 | cons a r ih =>
  cases r with
  | nil=>rfl
  | cons b r =>
   have e:(a::b::r).length-1=((b::r).length-1)+1:=by
    have h1:(a::b::r).length=r.length+2:=rfl;have h2:(b::r).length=r.length+1:=rfl
    lia
   rw [e,List.eraseIdx_cons_succ,ih]
   all_goals rfl
section
variable {X:Cx} {pins:List (Addr×Obj)} {Z:St} {H:Hp} {s:Shared} {l b:Addr} {xs ys zs:List V}
theorem Inv.lset (I:Inv X pins Z H s) (hH:H l=some (.lst xs))
  (e:s.heap.get? l=some { cls:= .type "list",data:= .seq its.toArray n }) (hf:f its.toArray=its'.toArray) (hv:A2p ys its') (hz:ys.length<=sizeLine) :
  Inv X pins Z (upd H l (.lst ys)) { s with heap:=s.heap.update l (Obj.mapSeq f),toks:=t' }:=by
 have q:=PySem.IsL.update e f;rw [hf] at q;refine I.write (x:=l) (e:=l) (by rw [hH];exact trivial) (.inl rfl) (λb' u hb hu=>(Z1d s.heap (Obj.mapSeq f) (Ne.symm hb)).trans hu) ⟨_,q⟩ ?_;exact i0b hz its' _ hv q
theorem Inv.lnew (I:Inv X pins Z H s) (hv:A2p ys its) (hz:ys.length<=sizeLine) :
  Inv X pins Z (upd H s.heap.objs.size (.lst ys)) { s with heap:=s.heap.push { cls:= .type "list",data:= .seq its.toArray },toks:=t' } :=
 I.laid (λ_ _ q=>Z01 _ q) (Z09 _) (i0b hz its 0 hv (Z0c _ rfl))
theorem Inv.fresh (I:Inv X pins Z H s):H s.heap.objs.size=none:=I.hok.fresh (Z09 _)
theorem Inv.lstM (I:Inv X pins Z H s) (hH:H l=some (.lst xs)):xs.length<=sizeLine/\∃(its:List Value) (n:Nat),A2p xs its/\xs.length=its.length/\s.heap.get? l=some { cls:= .type "list",data:= .seq its.toArray n }:=by
 obtain ⟨z,its,n,r,e⟩:=I.hok l _ hH;exact i0j z its n r r.length e
theorem D0a (h:n<=sizeLine):Builtin.List.listTooLong n=false:=by
 unfold Builtin.List.listTooLong;exact Z1j (by lia)
end
section
variable {X:Cx}
def C5q:V->List V->Hp->VK->Prop:=λx vs H Q=>∃l xs y,x= .ref l/\vs=[y]/\H l=some (.lst xs)/\xs.length<sizeLine/\Q .non (upd H l (.lst (xs++[y])))
theorem A3o:MtM X "list.append" C5q:=by
 intro pins s Z H x vs v us Q I rx rv h;refine e08 h ?_;clear h;rintro l xs y rfl rfl hH ⟨hz,q⟩;cases rx;obtain ⟨u,rfl,ru⟩:=rv.one;obtain ⟨z,its,n,r,hl,e⟩:=I.lstM hH;refine call_meets F.slot_list_append (i02 _ e rfl) F.entry_list_append (F.args_list_append_2 _ _) (PySem.list_append l its.toArray n u (by rw [Z0g];lia)) ⟨e,?_⟩;refine i0f .non _ (I.lset (its':=its++[u]) hH e (by simp) (r.append (.cons ru .nil)) ?_) rfl q;rw [Z06,Z0j]
 lia
def D5a:V->List V->Hp->VK->Prop:=λx vs H Q=>∃l b xs zs,x= .ref l/\vs=[.ref b]/\H l=some (.lst xs)/\H b=some (.lst zs)/\xs.length+zs.length<=sizeLine/\Q .non (upd H l (.lst (xs++zs)))
theorem C7u:MtM X "list.extend" D5a:=by
 intro pins s Z H x vs v us Q I rx rv h;refine e0c h ?_;clear h;rintro l b xs zs rfl rfl hH hB ⟨hz,q⟩;cases rx;obtain ⟨u,rfl,ru⟩:=rv.one;cases ru;obtain ⟨z,its,n,r,hl,e⟩:=I.lstM hH;obtain ⟨z2,its2,n2,r2,hl2,e2⟩:=I.lstM hB;have hsz:its.toArray.size+its2.toArray.size<=sizeLine:=by rw [Z0g,Z0g];lia
 have hlong:¬(! its.toArray.isEmpty&&Builtin.List.listTooLong (its.toArray.size+its2.toArray.size))=true:=by
  rw [D0a hsz,Bool.and_false];exact Z0v
 refine call_meets F.slot_list_extend (i02 _ e rfl) F.entry_list_extend (F.args_list_extend_2 _ _)
  (AutoSeq1.list_extend_list_list_0 l its.toArray n b its2.toArray n2 hlong (by rw [Z0g];lia) (by lia)) (i00 e e2 ?_)
 refine i0f .non _ (I.lset (its':=its++its2) hH e (by simp) (r.append r2) ?_) rfl q;rw [Z06]
 lia
def rPop:V->List V->Hp->VK->Prop:=λx vs H Q=>∃l xs y,x= .ref l/\vs=[]/\H l=some (.lst xs)/\xs[xs.length-1]? =some y/\Q y (upd H l (.lst xs.dropLast))
theorem D6x:MtM X "list.pop" rPop:=by
 intro pins s Z H x vs v us Q I rx rv h;refine e08 h ?_;clear h;rintro l xs y rfl rfl hH ⟨hy,q⟩;cases rx;have hus:=rv.zero;subst hus;obtain ⟨z,its,n,r,hl,e⟩:=I.lstM hH;obtain ⟨u,hu,ru⟩:=r.get hy
 have hy':its.toArray[its.toArray.size-1]? =some u:=by
  show its.toArray[its.length-1]? =some u;rw [<-Array.getElem?_toList,<-hl];exact hu
 refine call_meets F.slot_list_pop (i02 _ e rfl) F.entry_list_pop (F.args_list_pop_1 _) (MeetsSeq.list_pop_last l its.toArray n u hy' (by rw [Z0g];lia)) ⟨e,?_⟩;refine i0f y _ (I.lset (its':=its.dropLast) hH e ?_ r.dropLast ?_) ru q
 ·show its.toArray.eraseIdxIfInBounds (its.toArray.size-1)=its.dropLast.toArray;rw [Z0g,List.eraseIdxIfInBounds_toArray,C3q]
 ·rw [List.length_dropLast]
  lia
def D1m:V->List V->Hp->VK->Prop:=λx vs H Q=>∃l xs,x= .ref l/\vs=[]/\H l=some (.lst xs)/\Q .non (upd H l (.lst xs.reverse))
theorem C3s:MtM X "list.reverse" D1m:=by
 intro pins s Z H x vs v us Q I rx rv h;obtain ⟨l,xs,rfl,rfl,hH,q⟩:=h;cases rx;have hus:=rv.zero;subst hus;obtain ⟨z,its,n,r,hl,e⟩:=I.lstM hH;refine call_meets F.slot_list_reverse (i02 _ e rfl) F.entry_list_reverse (F.args_list_reverse_1 _) (AutoSeq1.list_reverse_list_0 l its.toArray n (by rw [Z0g];lia)) ⟨e,?_⟩;refine i0f .non _ (I.lset (its':=its.reverse) hH e (by simp) r.reverse ?_) rfl q;rw [List.length_reverse]
 lia
def E1v:R2:=λx y H Q=>∃l b xs zs,x= .ref l/\y= .ref b/\H l=some (.lst xs)/\H b=some (.lst zs)/\xs.length+zs.length<=sizeLine/\∀p,H p=none->Q (.ref p) (upd H p (.lst (xs++zs)))
theorem B8c:OpR X (binaryOp .Add) E1v:=by
 intro pins s Z H x y v u Q I rx ry h;refine e0c h ?_;clear h;rintro l b xs zs rfl rfl hH hB ⟨hz,q⟩;cases rx;cases ry;obtain ⟨z,its,n,r,hl,e⟩:=I.lstM hH;obtain ⟨z2,its2,n2,r2,hl2,e2⟩:=I.lstM hB;refine PySem.P.add_list e e2 ?_ (by rw [Z0g,Z0g];lia);have ea:its.toArray++its2.toArray=(its++its2).toArray:=by simp
 rw [ea];exact i0f (.ref _) _ (I.lnew (t':=s.toks) (r.append r2) (by rw [Z06];lia)) rfl (q _ I.fresh)
end
section
variable {prog:Program} {w:World} {A:Around} {E:Value->Shared->Prop} {s:Shared}
set_option maxRecDepth 100000 in
end
section
variable {X:Cx}
end
section
variable {κ:Type} [DecidableEq κ]
def A2r (kvs:List (κ×V)) (k:κ):Option V:=(kvs.find? λkv=>decide (kv.1=k)).map (·.2)
def A4l (kvs:List (κ×V)) (k:κ) (v:V):List (κ×V) :=
 if (kvs.any λkv=>decide (kv.1=k))=true then kvs.map (λkv=>if kv.1=k then (kv.1,v) else kv) else kvs++[(k,v)]
theorem A2c {p:κ×V} {r:List (κ×V)} {k:κ} (e:p.1=k):A2r (p::r) k=some p.2:=by simp [A2r,Z2h,e]
theorem A1x {p:κ×V} {r:List (κ×V)} {k:κ} (e:¬p.1=k):A2r (p::r) k=A2r r k:=by simp [A2r,Z2h,e]
theorem A4e (k:κ):∀kvs:List (κ×V),(kvs.any λkv=>decide (kv.1=k))=(A2r kvs k).isSome
 | []=>rfl
 | p::r=>by
  rw [List.any_cons];by_cases e:p.1=k
  ·simp only [A2c e,Z20 e,Bool.true_or,Option.isSome_some]
  ·rw [A1x e,Z1j e,Bool.false_or];exact A4e k r
theorem C0u (k j:κ) (y:V):∀kvs:List (κ×V),A2r (kvs.map λkv=>if kv.1=k then (kv.1,y) else kv) j=(A2r kvs j).map λx=>if j=k then y else x
 | []=>rfl
 | p::r=>by
  have ih:=C0u k j y r;rw [Z0p];by_cases h:p.1=k
  ·rw [Z12 h];by_cases e:p.1=j
   ·rw [A2c (p:=(p.1,y)) e,A2c e,Option.map_some,Z12 (e.symm.trans h)]
   ·rw [A1x (p:=(p.1,y)) e,A1x e,ih]
  ·rw [Z0t h];by_cases e:p.1=j
   ·rw [A2c (p:=p) e,A2c e,Option.map_some,Z0t (λz=>h (e.trans z))]
   ·rw [A1x (p:=p) e,A1x e,ih]
theorem B8o (k j:κ) (y:V):∀kvs:List (κ×V),A2r kvs k=none->A2r (kvs++[(k,y)]) j=if j=k then some y else A2r kvs j
 | [],_=>by
  by_cases e:k=j
  ·rw [Z12 e.symm];exact A2c (p:=(k,y)) e
  ·rw [Z0t (λz=>e z.symm)];exact A1x (p:=(k,y)) e
 | p::r,hn=>by
  rw [List.cons_append];have hk:¬p.1=k:=λz=>by rw [A2c z] at hn;cases hn
  rw [A1x hk] at hn;have ih:=B8o k j y r hn;by_cases e:p.1=j
  ·rw [A2c e,A2c e,Z0t (λz=>hk (e.trans z))]
  ·rw [A1x e,A1x e,ih]
theorem B1f (kvs:List (κ×V)) (k j:κ) (y:V):A2r (A4l kvs k y) j=if j=k then some y else A2r kvs j:=by
 unfold A4l;by_cases a:(kvs.any λkv=>decide (kv.1=k))=true
 ·rw [Z12 a,C0u];rw [A4e] at a;by_cases e:j=k
  ·obtain ⟨x,hx⟩:=Option.isSome_iff_exists.mp a;rw [Z12 e,e,hx,Option.map_some,Z12 rfl]
  ·rw [Z0t e]
   cases A2r kvs j with
   | none=>rfl
   | some x=>rw [Option.map_some,Z0t e]
 ·rw [Z0t a];refine B8o k j y kvs ?_;rw [A4e] at a
  cases q:A2r kvs k with
  | none=>rfl
  | some x=>rw [q] at a;exact (a rfl).elim
theorem A7f (kvs:List (κ×V)) (k:κ) (v:V):(A4l kvs k v).length<=kvs.length+1:=by
 unfold A4l;split
 ·rw [Z08];lia
 ·rw [Z06,Z0y,Z2g];lia
theorem A5f {kvs:List (κ×V)} {k:κ} (v:V) (h:A2r kvs k=none):A4l kvs k v=kvs++[(k,v)]:=by
 unfold A4l;rw [A4e,h];exact Z0t (by decide)
theorem B8t.isSome_eq {u:Option Value} (r:B8t o u):o.isSome=u.isSome:=by
 cases o with
 | none=>cases u with
  | none=>rfl
  | some _=>exact (show False from r).elim
 | some _=>cases u with
  | none=>exact (show False from r).elim
  | some _=>rfl
theorem KV.val {kvs:List (κ×V)} {vs:List (κ×Value)} (r:KV kvs vs) (k:κ):B8t (A2r kvs k) (valueAt vs k):=by
 unfold KV at r
 induction r with
 | nil=>exact True.intro
 | @cons p q ps qs h t ih =>
  obtain ⟨h1,h2⟩:=h;by_cases e:p.1=k
  ·have e':q.1=k:=h1.symm.trans e;have b:valueAt (q::qs) k=some q.2:=by simp [valueAt,Z2h,e']
   rw [A2c e,b];exact h2
  ·have e':¬q.1=k:=λz=>e (h1.trans z);have b:valueAt (q::qs) k=valueAt qs k:=by simp [valueAt,Z2h,e']
   rw [A1x e,b];exact ih
theorem KV.any {kvs:List (κ×V)} {vs:List (κ×Value)} (r:KV kvs vs) (k:κ):(kvs.any λkv=>decide (kv.1=k))=vs.any λkv=>decide (kv.1=k):=by
 unfold KV at r
 induction r with
 | nil=>rfl
 | cons h t ih=>rw [List.any_cons,List.any_cons,ih,h.1]
theorem KV.repl {kvs:List (κ×V)} {vs:List (κ×Value)} (r:KV kvs vs) (k:κ) (ry:A2z y u) :
  KV (kvs.map λkv=>if kv.1=k then (kv.1,y) else kv) (vs.map λkv=>if kv.1=k then (kv.1,u) else kv):=by
 unfold KV at r⊢
 induction r with
 | nil=>exact .nil
 | @cons p q ps qs h t ih =>
  rw [Z0p,Z0p];refine .cons ?_ ih;obtain ⟨h1,h2⟩:=h;by_cases e:p.1=k
  ·rw [Z12 e,Z12 (h1.symm.trans e)];exact ⟨h1,ry⟩
  ·rw [Z0t e,Z0t (λz=>e (h1.trans z))];exact ⟨h1,h2⟩
theorem KV.put {kvs:List (κ×V)} {vs:List (κ×Value)} (r:KV kvs vs) (k:κ) (ry:A2z y u):KV (A4l kvs k y) (stored vs k u):=by
 unfold A4l stored;rw [r.any k];by_cases e:(vs.any λkv=>decide (kv.1=k))=true
 ·rw [Z12 e,Z12 e];exact r.repl k ry
 ·rw [Z0t e,Z0t e];exact Paired.snoc r ⟨rfl,ry⟩
theorem KV.length {kvs:List (κ×V)} {vs:List (κ×Value)} (r:KV kvs vs):kvs.length=vs.length:=Paired.length r
end
theorem B9v {k:Key} (r:A2z (kV k) u):(A0x P w).is k u=true:=by
 cases k with
 | inl i=>obtain ⟨t,e⟩:=(show∃t,u=Value.int i t from r);subst e;exact B9t P w i t
 | inr x=>obtain ⟨t,e⟩:=(show∃t,u=Value.str x t from r);subst e;exact C0p P w x t
theorem B8k {P:Program} {w:World}:∀{ks:List Key} {us:List Value},A2p (ks.map kV) us->ItemsAre (A0x P w) ks us
 | [],_,r=>by rw [List.map_nil] at r;cases r;exact .nil
 | k::ks,_,r=>by
  rw [Z0p] at r
  cases r with
  | cons h t=>exact .cons (B9v h) (B8k t)
abbrev KT (H:Hp):List (List Key×V)->List (List Key×Addr×Value)->Prop:=Paired λp q=>p.1=q.1/\H q.2.1=some (.tup (p.1.map kV))/\A2z p.2 q.2.2
theorem KT.val (r:KT H kvs xs) (k:List Key):B8t (A2r kvs k) ((atKey xs k).map (·.2)):=by
 induction r with
 | nil=>exact True.intro
 | @cons p q ps qs h t ih =>
  obtain ⟨h1,_,h2⟩:=h;by_cases e:p.1=k
  ·have e':q.1=k:=h1.symm.trans e;have b:atKey (q::qs) k=some q.2:=by simp [atKey,Z2h,e']
   rw [A2c e,b];exact h2
  ·have e':¬q.1=k:=λz=>e (h1.trans z);have b:atKey (q::qs) k=atKey qs k:=by simp [atKey,Z2h,e']
   rw [A1x e,b];exact ih
theorem KT.repl (r:KT H kvs xs) (k:List Key) (ry:A2z y u) :
  KT H (kvs.map λkv=>if kv.1=k then (kv.1,y) else kv) (xs.map (putAt k u)):=by
 induction r with
 | nil=>exact .nil
 | @cons p q ps qs h t ih =>
  rw [Z0p,Z0p];refine .cons ?_ ih;obtain ⟨h1,h2,h3⟩:=h;unfold putAt;by_cases e:p.1=k
  ·rw [Z12 e,Z12 (h1.symm.trans e)];exact i00 h1 h2 ry
  ·rw [Z0t e,Z0t (λz=>e (h1.trans z))];exact i00 h1 h2 h3
theorem KT.put (r:KT H kvs xs) (k:List Key) {b:Addr} (hb:H b=some (.tup (k.map kV))) (ry:A2z y u) :
  KT H (A4l kvs k y) (storedH xs k b u):=by
 have e:(kvs.any λkv=>decide (kv.1=k))=(atKey xs k).isSome:=by
  rw [A4e,(r.val k).isSome_eq,Option.isSome_map]
 unfold A4l storedH;rw [e];by_cases q:(atKey xs k).isSome=true
 ·rw [Z12 q,Z12 q];exact r.repl k ry
 ·rw [Z0t q,Z0t q];exact Paired.snoc r (i00 rfl hb ry)
theorem KT.keeps {H':Hp} (r:KT H kvs xs) (ht:∀b ys,H b=some (.tup ys)->H' b=some (.tup ys)):KT H' kvs xs :=
 Paired.mapP r λ_ _ z=>(i00 z.1 (ht _ _ z.2.1) z.2.2)
section
variable {P:Program} {w:World} {H:Hp} {h:Heap} {a:Addr}
theorem D4n {u:HO} (ok:HOk P w H h) (e:Rd H a u):A1z P w H h a u:=e.ok ok
theorem B1a {kvs:List (Key×V)} (ok:HOk P w H h) (e:Rd H a (.dK kvs)):kvs.length<=sizeLine/\(a == sysModules)=false/\∃vs,KV kvs vs/\h.DictOf (A0x P w) a vs :=
 show A1z P w H h a (.dK kvs) from D4n ok e
theorem C7r {kvs:List (Key×V)} (ok:HOk P w H h) (e:H a=some (.dK kvs)):kvs.length<=sizeLine/\(a == sysModules)=false/\∃vs,KV kvs vs/\h.DictOf (A0x P w) a vs:=B1a ok (.inl e)
theorem C2v {ks:List Key} (ok:HOk P w H h) (e:H a=some (.tup (ks.map kV))):(tupleKind (A0x P w)).is h ks a:=by
 refine e09 (show A1z P w H h a (.tup (ks.map kV)) from ok a _ e) λ_ its r o h1 h2 n h3=>?_;exact i0q o its.toArray n h1 h2 h3 (by simpa using B8k r)
theorem D1i (ok:HOk P w H h) (e:Rd H a (.dT kvs)):kvs.length<=sizeLine/\(a == sysModules)=false/\
  ∃xs,KT H kvs xs/\h.DictOfH (tupleKind (A0x P w)) a xs:=by
 refine e0b (show A1z P w H h a (.dT kvs) from D4n ok e) ?_;rintro z y xs r o es ep h1 ⟨h2,h3,h4,h5⟩;refine i09 z y xs r (i0w o es ep h1 h2 h3 h4 (λx hx=> ?_) h5)
 have all:∀{l:List (List Key×V)} {m:List (List Key×Addr×Value)},KT H l m->∀x∈m,(tupleKind (A0x P w)).is h x.1 x.2.1:=by
  intro l m q
  induction q with
  | nil=>intro x hx;exact nomatch hx
  | @cons p q ps qs hq t ih =>
   intro x hx;rcases Z0e.mp hx with e | hx
   ·subst e;exact C2v ok (by rw [<-hq.1];exact hq.2.1)
   ·exact ih x hx
 exact all r x hx
theorem E0r (ok:HOk P w H h) (e:H a=some (.dT kvs)):kvs.length<=sizeLine/\(a == sysModules)=false/\
  ∃xs,KT H kvs xs/\h.DictOfH (tupleKind (A0x P w)) a xs:=D1i ok (.inl e)
end
def A5a (H:Hp) (a:Addr) (y:V) (r:Option V):Prop :=
 (∃kvs k,Rd H a (.dK kvs)/\y=kV k/\r=A2r kvs k)\/∃kvs k b,Rd H a (.dT kvs)/\y= .ref b/\H b=some (.tup (k.map kV))/\r=A2r kvs k
def B0z (H:Hp) (a:Addr) (y v:V) (H':Hp):Prop :=
 (∃kvs k,H a=some (.dK kvs)/\y=kV k/\kvs.length<sizeLine/\H'=upd H a (.dK (A4l kvs k v)))\/
 ∃kvs k b,H a=some (.dT kvs)/\y= .ref b/\H b=some (.tup (k.map kV))/\kvs.length<sizeLine/\H'=upd H a (.dT (A4l kvs k v))
theorem A5a.k {kvs:List (Key×V)} {k:Key} (e:H a=some (.dK kvs)):A5a H a (kV k) (A2r kvs k):= .inl (i0f kvs k (.inl e) rfl rfl)
theorem A5a.t {b:Addr} {k:List Key} (e:H a=some (.dT kvs)) (eb:H b=some (.tup (k.map kV))):A5a H a (.ref b) (A2r kvs k):= .inr (i0q kvs k b (.inl e) rfl eb rfl)
theorem B0z.k {kvs:List (Key×V)} {k:Key} {v:V} (e:H a=some (.dK kvs)) (hl:kvs.length<sizeLine):B0z H a (kV k) v (upd H a (.dK (A4l kvs k v))):= .inl (i0m kvs k e rfl hl rfl)
theorem B0z.t {b:Addr} {k:List Key} {v:V} (e:H a=some (.dT kvs)) (eb:H b=some (.tup (k.map kV))) (hl:kvs.length<sizeLine) :
  B0z H a (.ref b) v (upd H a (.dT (A4l kvs k v))):= .inr (i0s kvs k b e rfl eb hl rfl)
section
variable {X:Cx} {pins:List (Addr×Obj)} {Z:St} {H:Hp} {s:Shared} {a:Addr} {y v:V} {u r:Value} {o:Option V} {A:Around} {E:Value->Shared->Prop}
theorem Inv.big (I:Inv X pins Z H s):sysModules<s.heap.objs.size:=by
 have h:mainGlobals<s.heap.objs.size:=(I.mod.glob.keeps I.bk).lt;exact Nat.lt_trans (by decide) h
theorem C6t (hu:A.units+1<cLine) (I:Inv X pins Z H s) (g:A5a H a y (some v)) (ry:A2z y u) (h:∀w' s',Inv X pins Z H s'->A2z v w'->Q w' s') :
  wpAny (model X.prog X.w) A (getItem (.ref a) u) Q E s:=by
 rcases g with ⟨kvs,k,e,ey,l⟩ | ⟨kvs,k,b,e,ey,eb,l⟩
 ·subst ey;obtain ⟨z,hd,vs,rel,dd⟩:=B1a I.hok e;obtain ⟨w',hw,rw'⟩:=B8t.some_of (v:=v) (o:=valueAt vs k) (by rw [l];exact rel.val k);exact wpAny_getItem_of (B9v ry) dd.mapOf hw (h w' _ (I.tok _) rw')
 ·subst ey;cases (show u=Value.ref b from ry);obtain ⟨z,hd,xs,rel,dd⟩:=D1i I.hok e;obtain ⟨w',hw,rw'⟩:=B8t.some_of (v:=v) (o:=(atKey xs k).map (·.2)) (by rw [l];exact rel.val k);obtain ⟨p,hp,hp2⟩:=Z0i.mp hw;refine wpAny_getItem_heap (tupleKind_room_in1 hu) (C2v I.hok eb) dd hp ?_;rw [hp2];exact h w' _ (I.tok _) rw'
theorem D2z (hu:A.units+1<cLine) (I:Inv X pins Z H s) (g:A5a H a y o) (ry:A2z y u) (h:∀s',Inv X pins Z H s'->Q (.bool (! o.isSome)) s') :
  wpAny (model X.prog X.w) A (compareOp .NotIn u (.ref a)) Q E s:=by
 rcases g with ⟨kvs,k,e,ey,l⟩ | ⟨kvs,k,b,e,ey,eb,l⟩
 ·subst ey;obtain ⟨z,hd,vs,rel,dd⟩:=B1a I.hok e;refine wpAny_notIn_of (B9v ry) hd dd.mapOf ?_;rw [<-(rel.val k).isSome_eq,<-l];exact h _ (I.tok _)
 ·subst ey;cases (show u=Value.ref b from ry);obtain ⟨z,hd,xs,rel,dd⟩:=D1i I.hok e;refine wpAny_notIn_heap (tupleKind_room_in1 hu) (C2v I.hok eb) hd dd ?_;have q:=(rel.val k).isSome_eq;rw [Option.isSome_map] at q;rw [<-q,<-l];exact h _ (I.tok _)
theorem C0e {h':Heap} {ob:HO} (I:Inv X pins Z H s) (mu:Mut (H a)) (hs:Heap.SameBut a s.heap h') (he:∃q,h'.get? a=some q) (new:A1z X.prog X.w (upd H a ob) h' a ob) :
  Inv X pins Z (upd H a ob) { s with heap:=h',toks:=t' } :=
 I.write (x:=a) (e:=a) mu (.inl rfl) (λb q hb z=>(hs.2 b hb).trans z) he new
theorem D2i {H':Hp} {h':Heap} {kvs:List (Key×V)} {vs:List (Key×Value)} (z:kvs.length<=sizeLine) (hd:(a == sysModules)=false) (rel:KV kvs vs) (dd:h'.DictOf (A0x P w) a vs) :
  A1z P w H' h' a (.dK kvs):=(i09 z hd vs rel dd)
theorem C8e {H':Hp} {Q:Unit->Shared->Prop} (hu:A.units+1<cLine) (I:Inv X pins Z H s) (g:B0z H a y v H') (ry:A2z y u) (rv:A2z v r) (h:∀s',Inv X pins Z H' s'->Q () s') :
  wpAny (model X.prog X.w) A (setItem (.ref a) u r) Q E s:=by
 rcases g with ⟨kvs,k,e,ey,l,eH⟩ | ⟨kvs,k,b,e,ey,eb,l,eH⟩
 ·subst ey eH;obtain ⟨z,hd,vs,rel,dd⟩:=C7r I.hok e;have hz:vs.length<=sizeLine:=by rw [<-rel.length];exact z
  have hl:(A4l kvs k v).length<=sizeLine:=by have:=A7f kvs k v;lia
  refine wpAny_setItem_pairs (hsz:=hz) (B9v ry) dd λh' dd' hs=>h _ ?_;have he:∃q,h'.get? a=some q:=let ⟨q,_,_,hq,_⟩:=dd';⟨q,hq⟩;exact C0e I (by rw [e];exact True.intro) hs he (D2i hl hd (rel.put k rv) dd')
 ·subst ey eH;cases (show u=Value.ref b from ry);obtain ⟨z,hd,xs,rel,dd⟩:=E0r I.hok e;have hz:xs.length<=sizeLine:=by rw [<-Paired.length rel];exact z
  have hl:(A4l kvs k v).length<=sizeLine:=by have:=A7f kvs k v;lia
  refine wpAny_setItem_heap (hsz:=hz) (tupleKind_room_in1 hu) (C2v I.hok eb) dd λh' dd' hs=>h _ ?_;refine e08 dd' ?_;clear dd';rintro q es ep hq h2 h3 ⟨h4,_,h5⟩;refine C0e I (by rw [e];exact True.intro) hs ⟨q,hq⟩ (i09 hl hd _ ((rel.put k eb rv).keeps λc ys ec=> ?_) (i0s q es ep hq h2 h3 h4 h5));rw [A0i (A1p ec e (λz=>nomatch z))];exact ec
end
section
variable {X:Cx} {pins:List (Addr×Obj)} {Z:St} {H:Hp} {s:Shared} {a:Addr} {kvs:List (Key×V)} {k:Key} {u:Value} {A:Around} {E:Value->Shared->Prop}
theorem E0s (I:Inv X pins Z H s) (e:Rd H a (.dK kvs)) (h:∀t s',Inv X pins Z H s'->Q (.int kvs.length t) s'):wpAny (model X.prog X.w) A (call (.builtin "len") [.ref a]) Q E s:=by
 obtain ⟨z,hd,vs,rel,dd⟩:=B1a I.hok e;refine call_len_dict hd dd (by rw [<-rel.length];rw [sizeLine_eq] at z;lia) ?_;rw [<-rel.length];exact h _ _ (I.tok _)
end
def E1y (i:Expr):Prop:=∀ov iv,subscripted i false ov iv=operate [ov,iv] (getItem ov iv)
theorem D6a {prog:Program} {A:Around} {E:Value->Shared->Prop} {env:Env} {value slice:Expr} {pos:Pos} {T id:String}
  (hl:typeLookup (.type T) "__getitem__"=pure (some (.builtin id))) (hs:E1y slice)
  (h:wpAny (model prog w) A (eval value env) (λo s₁=>wpAny (model prog w) A (eval slice env) (λi s₂=>s₂.TypeIs o T/\wpAny (model prog w) A (getItem o i) Q E s₂) E s₁) E s) :
  wpAny (model prog w) A (eval (.Subscript value slice pos) env) Q E s:=by
 refine Subscript_ (Z10 h (λo s₁ h₁=>Z10 h₁ (λi s₂ h₂=> ?_) λ_ _ x=>x) λ_ _ x=>x);obtain ⟨hT,h₂⟩:=h₂;unfold subscriptTail;refine Z00 ?_;rw [getitemInPython_of_ne hT.not_modules];refine Z00 (wpAny_specialOf hT hl ?_)
 have fin:wpAny (model prog w) A (subscripted slice false o i) (λr s₃=>wpAny (model prog w) A (letTemporaryGo value o r >>= λ_=>pure r) Q E s₃) E s₂:=by
  rw [hs o i];exact wpAny_operating (Z10 h₂ (λr s₃ h₃=>Z00 (wpAny_letTemporaryGo (Z04 h₃))) λ_ _ x=>x)
 first
  | exact Z04 (Z00 fin)
  | exact Z00 (Z04 (Z00 fin))
  | exact Z00 fin
theorem C0g (I:Inv X pins Z H s) (g:A5a H a y o):s.TypeIs (.ref a) "dict":=by
 rcases g with ⟨kvs,k,e,_,_⟩ | ⟨kvs,k,b,e,_,_,_⟩
 ·obtain ⟨_,_,vs,_,dd⟩:=B1a I.hok e;exact dd.typeIs
 ·obtain ⟨_,_,xs,_,dd⟩:=D1i I.hok e;exact dd.typeIs
def E0w (td ty:TE):TE:=λZ H Q=>td Z H λx H1=>ty Z H1 λy H2=>∃a v,x= .ref a/\A5a H2 a y (some v)/\Q v H2
def D3g (ty td:TE):TE:=λZ H Q=>ty Z H λy H1=>td Z H1 λx H2=>∃a o,x= .ref a/\A5a H2 a y o/\Q (.bl (! o.isSome)) H2
def E0x (td ty tv:TE):TS:=λD Z H=>tv Z H λv H1=>td Z H1 λx H2=>ty Z H2 λy H3=>∃a H4,x= .ref a/\B0z H3 a y v H4/\D.nx Z H4
section
variable {X:Cx} {o i e value:Expr} {pos pos' tpos:Pos} {td ty tv:TE}
theorem A0p (hu:X.A.units+1<cLine) (ho:PE X o td) (hi:PE X i ty) (hs:E1y i:=by exact λ_ _=>rfl):PE X (.Subscript o i pos) (E0w td ty):=by
 intro pins s Z H Q I h;refine D6a PySem.F.slot_dict_getitem.lookup hs (thn (ho pins s Z H _ I h) ?_);rintro u s1 ⟨x,H1,I1,rx,q1⟩;refine thn (hi pins s1 Z H1 _ I1 q1) ?_;rintro iv s2 zz;refine e05 zz ?_;clear zz;rintro y H2 I2 ry ⟨a,v,ex,g,q2⟩;subst ex;obtain rfl:u=Value.ref a:=rx;exact ⟨C0g I2 g,C6t hu I2 g ry λw' s3 I3 rw'=>(i0f v H2 I3 rw' q2)⟩
theorem B7i (hu:X.A.units+1<cLine) (hi:PE X i ty) (ho:PE X o td):PC X .NotIn i o (D3g ty td):=by
 intro pins s Z H Q I h;refine thn (hi pins s Z H _ I h) ?_;rintro iv s1 ⟨y,H1,I1,ry,q1⟩;refine thn (ho pins s1 Z H1 _ I1 q1) ?_;rintro u s2 zz;refine e05 zz ?_;clear zz;rintro x H2 I2 rx ⟨a,ov,ex,g,q2⟩;subst ex;obtain rfl:u=Value.ref a:=rx;exact D2z hu I2 g ry λs3 I3=>(i0f (.bl (! ov.isSome)) H2 I3 rfl q2)
theorem A3a (hu:X.A.units+1<cLine) (ho:PE X o td) (hi:PE X i ty) (hv:PE X value tv) (hs:swapsWith value (some (.Subscript o i pos')) pos.line X.env=pure false) :
  PS X (.Assign [.Subscript o i pos'] value pos) (E0x td ty tv):=by
 intro pins s Z H D I h;refine wpAny_Assign_Subscript (thn (hv pins s Z H _ I h) ?_) hs;rintro r s1 ⟨v,H1,I1,rv,q1⟩;refine thn (ho pins s1 Z H1 _ I1 q1) ?_;rintro u s2 ⟨x,H2,I2,rx,q2⟩;refine thn (hi pins s2 Z H2 _ I2 q2) ?_;rintro iv s3 zz;refine e05 zz ?_;clear zz;rintro y H3 I3 ry ⟨a,H4,ex,g,q3⟩;subst ex;obtain rfl:u=Value.ref a:=rx;exact C8e hu I3 g ry rv λs4 I4=>(i07 Z H4 I4 q3)
end
theorem C2k (h:Heap) (hb:sysModules<h.objs.size):A1z P w H (h.push { cls:= .type "dict",data:= .dict #[] }) h.objs.size (.dK []) :=
 (i09 (Z1e _) (Z22.mpr (Ne.symm (Z0h hb))) [] .nil (Heap.DictOf.new h))
theorem D0l (h:Heap) (hb:sysModules<h.objs.size):A1z P w H (h.push { cls:= .type "dict",data:= .dict #[] }) h.objs.size (.dT []) :=
 (i09 (Z1e _) (Z22.mpr (Ne.symm (Z0h hb))) [] .nil (i0s _ (#[]) 0 (Z0c _ rfl) (i00 rfl rfl rfl) rfl rfl List.nodup_nil))
def D7m:TE:=λ_ H Q=>∀p,H p=none->Q (.ref p) (upd H p (.dK []))
def D7y:TE:=λ_ H Q=>∀p,H p=none->Q (.ref p) (upd H p (.dT []))
section
variable {X:Cx} {pos:Pos}
theorem A2y:PE X (.Dict [] [] pos) D7m:=λpins s Z H Q I h =>
 wpAny_Dict_empty (i0f (.ref s.heap.objs.size) _ (I.laid (a:=s.heap.objs.size) (o:= .dK []) (t':=s.toks) (λ_ _ q=>Z01 _ q) (Z09 _) (C2k s.heap I.big)) rfl (h _ (I.hok.fresh (Z09 _))))
theorem C8y:PE X (.Dict [] [] pos) D7y:=λpins s Z H Q I h =>
 wpAny_Dict_empty (i0f (.ref s.heap.objs.size) _ (I.laid (a:=s.heap.objs.size) (o:= .dT []) (t':=s.toks) (λ_ _ q=>Z01 _ q) (Z09 _) (D0l s.heap I.big)) rfl (h _ (I.hok.fresh (Z09 _))))
end
def C8h:List (TE×TE)->St->Hp->(List (V×V)->Hp->Prop)->Prop
 | [],_,H,Q=>Q [] H
 | (tk,tv)::r,Z,H,Q=>tk Z H λx H1=>tv Z H1 λy H2=>C8h r Z H2 λps H3=>Q ((x,y)::ps) H3
abbrev VV:List (V×V)->List (Value×Value)->Prop:=Paired λp q=>A2z p.1 q.1/\A2z p.2 q.2
def PPs (X:Cx) (pos:Pos) (keys:List (Option Expr)) (values:List Expr) (trs:List (TE×TE)):Prop :=
 ∀(pins:List (Addr×Obj)) (s:Shared) (Z:St) (H:Hp) (Q:List (V×V)->Hp->Prop),Inv X pins Z H s->C8h trs Z H Q->
  wpAny (model X.prog X.w) X.A (evalPairs (pairTrees keys values X.env pos)) (λvs s'=>∃ps H',Inv X pins Z H' s'/\VV ps vs/\Q ps H') X.xe s
theorem D4b {pos:Pos}:PPs X pos [] [] []:=λpins s Z H Q I h=>pairTrees_nil_walk (i0f [] H I .nil h)
theorem B1b {pos:Pos} {k v:Expr} {ks:List (Option Expr)} {vs:List Expr} {tk tv:TE} (hk:PE X k tk) (hv:PE X v tv) (hr:PPs X pos ks vs trs) :
  PPs X pos (some k::ks) (v::vs) ((tk,tv)::trs):=λpins s Z H Q I h =>
 pairTrees_cons_walk (thn (hk pins s Z H _ I h) λu s1 ⟨x,H1,I1,rx,q1⟩=>thn (hv pins s1 Z H1 _ I1 q1) λw2 s2 ⟨y,H2,I2,ry,q2⟩ =>
  thn (hr pins s2 Z H2 _ I2 q2) (by rintro ws s3 ⟨ps,H3,I3,rel,q3⟩;exact i0f ((x,y)::ps) H3 I3 (.cons ⟨rx,ry⟩ rel) q3))
def A3d (kvs more:List (Key×V)):List (Key×V):=more.foldl (λacc kv=>A4l acc kv.1 kv.2) kvs
theorem KV.merge:∀{more:List (Key×V)} {rs:List (Key×Value)} {kvs:List (Key×V)} {vs:List (Key×Value)},KV more rs->KV kvs vs->KV (A3d kvs more) (merged vs rs):=by
 intro more rs kvs vs r;unfold KV at r
 induction r generalizing kvs vs with
 | nil=>intro q;exact q
 | @cons p q ps qs h t ih =>
  intro r0
  have e:KV (A4l kvs p.1 p.2) (stored vs q.1 q.2):=by
   have:=r0.put p.1 h.2;rw [<-h.1];exact this
  exact ih e
theorem A2w:∀(more kvs:List (Key×V)),(A3d kvs more).length<=kvs.length+more.length
 | [],kvs=>by show kvs.length<=kvs.length+0;lia
 | p::r,kvs=>by
  have h1:=A2w r (A4l kvs p.1 p.2);have h2:=A7f kvs p.1 p.2;show (A3d (A4l kvs p.1 p.2) r).length<=_;rw [Z0y];lia
theorem B3y {P:Program} {w:World}:∀{kvs:List (Key×V)} {ws:List (Value×Value)},VV (kvs.map λkv=>(kV kv.1,kv.2)) ws->∃rs,Carries (A0x P w) ws rs/\KV kvs rs
 | [],_,r=>by rw [List.map_nil] at r;cases r;exact i02 [] True.intro .nil
 | p::kvs,_,r=>by
  rw [Z0p] at r
  cases r with
  | @cons a b as bs h t =>
   obtain ⟨rs,c,q⟩:=B3y (P:=P) (w:=w) t;obtain ⟨b1,b2⟩:=b;exact i02 ((p.1,b2)::rs) (i00 (B9v h.1) rfl c) (.cons ⟨rfl,h.2⟩ q)
def E1p (trs:List (TE×TE)):TE:=λZ H Q=>∀p,H p=none->C8h trs Z (upd H p (.dK [])) λps H2=>H2 p=some (.dK [])/\∃kvs:List (Key×V),ps=kvs.map (λkv=>(kV kv.1,kv.2))/\kvs.length<=15/\Q (.ref p) (upd H2 p (.dK (A3d [] kvs)))
theorem D6e {pos:Pos} {values:List Expr} (h:PPs X pos keys values trs) (hall:keys.all (·.isSome)=true) (hl:keys.length=values.length) (h0:keys≠[])
  (h15:keys.length<=15):PE X (.Dict keys values pos) (E1p trs):=by
 intro pins s Z H Q I q;have hn:=I.hok.fresh (Z09 s.heap.objs.size);have I1:=I.laid (a:=s.heap.objs.size) (o:= .dK []) (h':=s.heap.push { cls:= .type "dict",data:= .dict #[] }) (t':=s.toks) (λ_ _ q=>Z01 _ q) (Z09 _) (C2k s.heap I.big);refine wpAny_Dict_walk (knd:=A0x X.prog X.w) hall hl h0 h15 (thn (h pins _ Z _ _ I1 (q _ hn)) ?_);rintro ws s2 zz;refine e06 zz ?_;clear zz;rintro ps H2 I2 rel e ⟨kvs,ep,lk,q2⟩;subst ep;obtain ⟨rs,c,rk⟩:=B3y (P:=X.prog) (w:=X.w) rel;obtain ⟨z,hd,vs0,r0,dd⟩:=C7r I2.hok e;cases r0;refine i06 rs c dd λh' dd' hs=>(i0f (.ref s.heap.objs.size) _ ?_ rfl q2)
 have hz:(A3d [] kvs).length<=sizeLine:=by
  have h1:=A2w kvs [];rw [Z2g] at h1;rw [sizeLine_eq];lia
 have he:∃q,h'.get? s.heap.objs.size=some q:=let ⟨q,_,_,hq,_⟩:=dd';⟨q,hq⟩;exact C0e I2 (by rw [e];exact True.intro) hs he (D2i hz hd (rk.merge .nil) dd')
section
variable {X:Cx} {pins:List (Addr×Obj)} {Z:St} {H:Hp} {s:Shared} {a:Addr} {y d:V} {u r:Value} {o:Option V} {A:Around} {E:Value->Shared->Prop}
end
section
variable {X:Cx} {o e f:Expr} {apos cpos:Pos} {td ty tx:TE}
end
section
variable {X:Cx} {pins:List (Addr×Obj)} {Z:St} {H:Hp} {s:Shared} {a:Addr} {kvs:List (Key×V)} {A:Around} {E:Value->Shared->Prop}
end
section
variable {X:Cx} {pins:List (Addr×Obj)} {Z:St} {H:Hp} {s:Shared} {a:Addr} {y:V} {u:Value} {A:Around} {E:Value->Shared->Prop}
end
end L2
namespace Att
open PySem PySem.W PySem.Calls PyProof.Rows
theorem B1m {P:Params} {h:Heap}:∀(ns:List Int) (vs:List Value),WellAll P h vs (ns.map WData.int)->IntsAre vs ns:=by
 intro ns
 induction ns with
 | nil =>
  intro vs w;rw [List.map_nil] at w;cases w;exact .nil
 | cons n ns ih =>
  intro vs w;rw [Z0p] at w
  cases w with
  | cons a b =>
   cases a
   exact .cons _ _ (ih _ b)
theorem C4x {l:OpenLaw} {n:Nat} (hn:l.most=some n) {P:Params} {h:Heap} {args:List WData} {vals:List Value}
  (hpre:l.row.toRowW.claim.pre args=true) (hwl:WellAll P h vals args) :
  ∃a vs ns,vals=[Value.ref a]/\args=[WData.list (ns.map WData.int)]/\h.get? a=some { cls:= .type "list",data:= .seq vs.toArray }/\IntsAre vs ns/\ns.length<=n:=by
 have hsh:WShape.hasAll [] args [.list .int]=true:=(pre_splitW hpre).1;have hc:l.pre.holds [] { args:=args }=true:=(pre_splitW hpre).2;obtain ⟨d,r,rfl,h1,h2⟩:=hasAllW_cons hsh;obtain rfl:=hasAllW_nil h2;obtain ⟨xs,rfl,h3⟩:=hasW_list h1;obtain ⟨ns,rfl⟩:=items_int h3
 have hlen:ns.length<=n:=by
  unfold OpenLaw.pre at hc
  have h4:(WTm.not (.lt (.lit (.int (n:Int))) (.len (.arg 0)))).holds [] { args:=[.list (ns.map .int)] }=true:=by
   have h4:=(holds_andW hc).1;rw [hn] at h4;exact h4
  have h5:=condW_of h4 (w_not (w_lt w_lit (w_len_list (w_arg rfl))));rw [Z08] at h5;refine Nat.le_of_not_lt λq=> ?_;have q':(n:Int)<((ns.length:Nat):Int):=by lia
  first
   | (rw [Z20 q'] at h5;exact absurd h5 (by decide))
   | (simp at h5;lia)
 cases hwl with
 | cons w1 w2 =>
  cases w2
  cases w1 with
  | list ho hall=>exact i0s _ _ ns rfl rfl ho (B1m ns _ hall) hlen
theorem C6i (l:OpenLaw) (args:List WData):l.row.toRowW.claim.post args (.bool true) args=true :=
 postW_of (r:=l.row.toRowW) (X:=(true == true))
  (show WShape.has [] (.bool true) .bool=true by first | rfl | decide | simp [WShape.has,WShape.arms,WShape.armsAll])
  (show (WTm.eq .res (.lit (.bool true))).value [] { args:=args,res:=some (.bool true),after:=args }=some (.bool (true == true)) from w_eq_bool (w_res rfl) w_lit) rfl
theorem attach_call {l:OpenLaw} {n:Nat} {q:Program} {loose:List Str} {XP:(Str->Option Value)->Heap->Prop} {YP:World->Heap->Prop} {d:DefRec}
  (hn:l.most=some n) (hdf:d.params.defaults=[])
  (call:∀(w:World) (s₀ s₁:Shared) (mg mb:Str->Option Value) (fa:Addr) (o:Obj) (pm cd doc:Value) (a:Addr) (vs:List Value) (ns:List Int),
   Ground q loose [] XP w s₀ mg mb s₁.heap->YP w s₁.heap->
   s₁.heap.get? fa=some o->o.data= .func (docDef d.name d.params d.body d.scope pm cd doc)->s₁.heap.CodeRec cd d.name->mg d.name=some (.ref fa)->
   s₁.heap.get? a=some { cls:= .type "list",data:= .seq vs.toArray }->IntsAre vs ns->ns.length<=n->s₁.gens= #[]->
   codeAny (model l.prog w) callerA (.call (.ref fa) ⟨[.ref a],[]⟩) (λr s'=>r= .ok (.ret (.bool true))/\OldK s₁.heap s'.heap/\s'.os=s₁.os/\AllBare s'.gens) s₁) :
  WalkO q loose XP YP l.row.toRowW d [] (λf vs=>PySem.call f vs):=by
 intro w s₀ s₁ mg mb G Y fa o pm cd doc dV kV ho hd hcd hD hmg hg args vals as hpre hlay hrd hwl hlo;obtain rfl:dV= .none:=Dflts.none hD hdf;obtain rfl:kV= .none:=Dflts.noKw hD;refine e08 (C4x hn hpre hwl) ?_;rintro a vs ns rfl rfl hobj ⟨hints,hlen⟩;refine enter_call (codeAny_mono (call w s₀ s₁ mg mb fa o pm cd doc a vs ns G Y ho (fd_plain hd) hcd hmg hobj hints hlen hg) λr s' hq=> ?_);obtain ⟨rfl,h2,h3,h4⟩:=hq;exact i04 (.inl (i0s (.bool true) (.bool true) [] rfl (λ_=>rfl) (.bool true) (C6i l _) λ_=>⟨List.Pairwise.nil,λ_ hm=>(nomatch hm)⟩)) h2 h3 h4
section
variable {prog:Program} {w:World} {A:Around} {E:Value->Shared->Prop} {s:Shared} {K:Frag}
end
end Att
namespace L2
open PySem PySem.Spec PyProof.Rows
variable {P prog:Program} {w:World} {K:Frag} {mg:Str->Option Value} {a l d f it p:Addr} {fd:FuncData} {x qual x₀:Str} {vs ws:List (Key×Value)} {n k1 k2 t' kk i ep i₀:Nat} {XP:(Str->Option Value)->Heap->Prop} {X:Cx} {st:Stmt} {ps N':List Str} {od o:Obj} {osl sl:Array (Option Value)} {A:Around} {B:Prop} {H H':Hp} {v:V} {u:HO} {b:Bool} {xs ys:Array Value} {Q:Option Value->Shared->Prop} {y:Value} {ts:List Addr} {elts cs:List Expr} {g:TG} {Z:St} {tg elt iter:Expr} {h' h:Heap} {scope:Scope} {S:Addr->Prop} {r:List (Str×V)} {pins:List (Addr×Obj)} {s:Shared} {kvs:List (Key×V)} {sts:List Stmt} {es:Array DictEntry} {ix:List (Option Nat)} {cl:List (Str×Addr)} {wi:TI} {te:TE} {e:DictEntry} {E:Value->Shared->Prop} {pos₀ spos:Pos}
theorem B7g:∀{vs:List Value} {ns:List Int},IntsAre vs ns->A2p (ns.map V.int) vs
 | _,_,.nil=> .nil
 | _,_,.cons n t h=> .cons ⟨t,rfl⟩ (B7g h)
def D9n (H:Hp):Prop:=∀b,H b=none\/∃o xs,H b=some (.frz o (.lst xs))
theorem D0x {mb:Str->Option Value} {CX:CXT} {k:Nat} {fa:Addr} {sp:Sp} {s₁:Shared} {vs:List Value} {ns:List Int}
  (KX:K.In s₁.heap) (hns:s₁.heap.Ns mainGlobals mg) (hb:s₁.heap.Ns builtinsNs mb) (hbb:∀x:Str,x≠"__name__"->mb x=bootBuiltins x) (hlim:s₁.heap.NoLimit) (hg:s₁.gens= #[])
  (ha:s₁.heap.get? a=some { cls:= .type "list",data:= .seq vs.toArray }) (hi:IntsAre vs ns) (hl:ns.length<=sizeLine) (hr:A9c k callerA)
  (F:∀base:Heap,K.In base->base.Ns mainGlobals mg->A4c P w K mg base CX k fa fd [x] sp) (hbind:∀(s:Shared) (u:Value),BindsTo s fd ⟨[u],[]⟩ [(x,u)])
  (hsp:∀H:Hp,D9n H->SqL K H a (ns.map V.int)->sp [.ref a] H (λv _=>v= .bl true) λ_ _ _=>False)
  (hCX:∀H e s',CX [] H s₁ (λ_ _ _=>False) e s'->False) :
  codeAny (model P w) callerA (.call (.ref fa) ⟨[.ref a],[]⟩) (λr s'=>r= .ok (.ret (.bool true))/\OldK s₁.heap s'.heap/\s'.os=s₁.os/\AllBare s'.gens) s₁:=by
 have rv:=B7g hi;have lenV:=hi.length
 have core:∀H:Hp,D9n H->SqL K H a (ns.map V.int)->HOk P w H s₁.heap->(∀b,H b≠none->b=a)->(H a≠none->K.lookup a=none)->
   codeAny (model P w) callerA (.call (.ref fa) ⟨[.ref a],[]⟩) (λr s'=>r= .ok (.ret (.bool true))/\OldK s₁.heap s'.heap/\s'.os=s₁.os/\AllBare s'.gens) s₁:=by
  intro H hO hS hok hA hK;have base_of:∀{b:Addr} {o:Obj},s₁.heap.get? b=some o->H b=none->(D0u s₁.heap H).get? b=some o:=λe n=>C9k e n
  have noA:∀{b:Addr} {o:Obj} {es:Array DictEntry} {ep:Nat},s₁.heap.get? b=some o->o.data= .dict es ep->H b=none:=λ{b o es ep} e d=>by
   cases q:H b with
   | none=>rfl
   | some u =>
    have e':b=a:=hA b (by rw [q];simp);subst e';rw [ha] at e;cases e;have d':Data.seq vs.toArray _=Data.dict es ep:=d;cases d'
  have nsK:∀{b:Addr} {m:Str->Option Value},s₁.heap.Ns b m->(D0u s₁.heap H).Ns b m:=λ{b m} ⟨o,es,ep,e,d,r⟩=>(i0n o es ep (base_of e (noA e d)) d r)
  have hKb:K.In (D0u s₁.heap H):=λb o e=>base_of (KX b o e) (by
   cases q:H b with
   | none=>rfl
   | some u =>
    have e':b=a:=hA b (by rw [q];simp);subst e'
    rw [hK (by rw [q];simp)] at e;cases e)
  have hM:Mod K mg (D0u s₁.heap H):=⟨hKb,nsK hns,(i02 mb (nsK hb) hbb),let ⟨mc,h1,h2⟩:=hlim;(i02 mc (nsK h1) h2)⟩;have e0:D4d P w K mg (D0u s₁.heap H) callerA [] s₁ H:=⟨rfl,hM,λb o e=>D3e e,Nat.le_of_eq (C5e _ _),trivial,λb hb=>absurd (show b∈([]:List Addr) from hb) (by simp),hok,.of_eq hg⟩;refine codeAny_mono ((F _ hKb (nsK hns)).run callerA [] s₁ H ⟨[.ref a],[]⟩ [.ref a] [.ref a] _ _ hr e0 (hbind s₁ (.ref a)) (.cons rfl .nil) (hsp H hO hS)) λr s' h=> ?_
  cases r with
  | error e=>exact (hCX H e s' h).elim
  | ok fl =>
   cases fl with
   | next=>exact False.elim h
   | brk=>exact False.elim h
   | cont=>exact False.elim h
   | ret u =>
    refine e06 h ?_;clear h;rintro v H' os bare un ⟨hok',r',q⟩;have q':v= .bl true:=q;subst q';obtain rfl:u=Value.bool true:=r';refine i04 rfl (OldK.of_keep λb o e=> ?_) os bare
    cases q:H b with
    | none=>exact un.keep b o e q (by intro z;exact absurd (show b∈([]:List Addr) from z) (by simp)) (by simp)
    | some u =>
     rcases hO b with z | ⟨ob,xs,z⟩
     ·rw [q] at z;cases z
     ·have z2:=un.frzs b ob _ z;obtain ⟨e1,_⟩:=hok b _ z;obtain ⟨e2,_⟩:=hok' b _ z2;rw [e] at e1;cases e1;exact e2
 cases hk:K.lookup a with
 | some o =>
  have e:=KX a o hk;rw [ha] at e;cases e;refine core (λ_=>none) (λ_=> .inl rfl) (.inr (i0w _ vs.toArray _ hk rfl rfl rfl (by rw [Z0g,lenV];exact hl) (by simpa using rv))) (λb u z=>by have z':(none:Option HO)=some u:=z;cases z') (λb z=>absurd rfl z) λz=>absurd rfl z
 | none =>
  refine core (λb=>if b=a then some (.frz { cls:= .type "list",data:= .seq vs.toArray } (.lst (ns.map V.int))) else none) (λb=> ?_) (.inl (.inr ⟨{ cls:= .type "list",data:= .seq vs.toArray },Z12 rfl⟩)) (λb u z=> ?_) (λb z=> ?_) λ_=>hk
  ·by_cases hb:b=a
   ·exact .inr (i03 _ _ (Z12 hb))
   ·exact .inl (Z0t hb)
  ·by_cases hb:b=a
   ·have z':=(Z12 hb).symm.trans z;cases z';subst hb;exact ⟨ha,(i0b (by rw [Z08];exact hl) vs _ rv ha)⟩
   ·have z':=(Z0t hb).symm.trans z;cases z'
  ·by_cases hb:b=a
   ·exact hb
   ·exact absurd (Z0t hb) z
theorem D4j {l:PySem.W.OpenLaw} {k:Nat} {q:Program} {loose:List Str} {YP:World->Heap->Prop} {d:DefRec} {K:Params->Frag} {CX:World->CXT} {sp:World->Sp}
  (hn:l.most=some n) (hn2:n<=sizeLine) (hdf:d.params.defaults=[]) (hr:A9c k callerA)
  (hY:∀(w:World) (h:Heap),YP w h->(K w.params).In h)
  (F:∀(w:World) (mg:Str->Option Value) (fa:Addr) (h:Heap),(K w.params).In h->h.Ns mainGlobals mg->mg d.name=some (.ref fa)->
   ∃fd:FuncData,(∀(s:Shared) (u:Value),BindsTo s fd ⟨[u],[]⟩ [(x,u)])/\
    ∀base:Heap,(K w.params).In base->base.Ns mainGlobals mg->A4c l.prog w (K w.params) mg base (CX w) k fa fd [x] (sp w))
  (hsp:∀(w:World) (H:Hp) (a:Addr) (ns:List Int),ns.length<=n->D9n H->SqL (K w.params) H a (ns.map V.int)->sp w [.ref a] H (λv _=>v= .bl true) λ_ _ _=>False)
  (hCX:∀(w:World) (H:Hp) (s:Shared) (e:Value) (s':Shared),CX w [] H s (λ_ _ _=>False) e s'->False) :
  PySem.W.WalkO q loose XP YP l.row.toRowW d [] (λf vs=>PySem.call f vs):=by
 refine Att.attach_call hn hdf λw s₀ s₁ mg mb fa o pm cd doc a vs ns G Y ho hd hcd hmg hobj hints hlen hg=> ?_;have KX:=hY w _ Y;obtain ⟨fd,hb,hF⟩:=F w mg fa _ KX G.T.g hmg;exact D0x KX G.T.g G.T.b G.T.builtins G.T.nolimit hg hobj hints (Z1n hlen hn2) hr hF hb (λH hO hS=>hsp w H a ns hlen hO hS) λH e s'=>hCX w H s₁ e s'
def A2l (s:Stmt) (j:Nat):Stmt:=match s with
 | .ClassDef _ _ _ body _ _ _ _ _ _ _=>body.getD j (.Pass ⟨0,0,0,0⟩)
 | _=> .Pass ⟨0,0,0,0⟩
def A8m (s:Stmt):Arguments:=match s with
 | .FunctionDef _ a _ _ _ _ _ _ _ _=>a
 | _=>{ posonlyargs:=[],args:=[],vararg:=none,kwonlyargs:=[],kw_defaults:=[],kwarg:=none,defaults:=[] }
def A7s (s:Stmt):List Stmt:=match s with
 | .FunctionDef _ _ b _ _ _ _ _ _ _=>b
 | _=>[]
def A0k (s:Stmt):Scope:=match s with
 | .FunctionDef _ _ _ _ _ _ sc _ _ _=>sc
 | _=>{ kind:= .function,names:=[],isGenerator:=false,isCoroutine:=false }
abbrev CX0:CXT:=λ_ _ _ _ _ _=>False
abbrev E0:XK:=λ_ _ _=>False
theorem B6t:B4a CX0 X E0:=λ_ _ _ _ _ _ _ h=>h.elim
structure Fun (K:Frag) (x qual:Str) (st:Stmt) (f:Addr) (fd:FuncData):Prop where
 ex:∃(oc:Value) (od:Option Addr) (kV doc pm:Value) (an:Option Addr) (cdv ct:Value) (osl:Array (Option Value)),
  fd=fnOf x qual (A8m st) (A7s st) (A0k st) .none kV doc pm an cdv ct/\K.lookup f=some ⟨oc,od,.func fd,osl⟩/\codeIn K cdv qual=true
 kp:keepIn K (.ref f)=true
section
variable {P:Program} {w:World} {K:Frag} {mg:Str->Option Value} {base:Heap}
theorem Fun.ok {N:List Str} {k:Nat} {sp:Sp} (F:Fun K x qual st f fd) (S:A0v N ps (A0k st)) (len:∀vs H Q E,sp vs H Q E->vs.length=ps.length)
  (hbody:∀(cdv:Value) (A:Around) (outer:List Env) (s:Shared) (H:Hp) (vs:List V) (Q:VK) (E:XK),A9c k (A.deeper (envOfC qual (A0k st) s.heap.objs.size f cdv))->sp vs H Q E->
   ∃t,PSs (D6h CX0 P w K mg base N qual (A0k st) f cdv A outer s H E).nox (A7s st) t/\t { nx:=λ_ H'=>Q .non H',rt:=Q } (B6m N vs) H):A4c P w K mg base CX0 (k+1) f fd ps sp:=by
 refine e0e F.ex ?_;rintro oc od kV doc pm an cdv ct osl ⟨rfl,lk,hcd⟩;refine E0b lk hcd S len λA outer s H vs Q E hr hsp=> ?_;obtain ⟨t,h,q⟩:=hbody cdv A outer s H vs Q E hr hsp;exact i02 t h.nox q
theorem Fun.binds (F:Fun K x qual st f fd)
  (h:∀(kV doc pm:Value) (an:Option Addr) (cdv ct:Value) (us:List Value),us.length=ps.length->bindArgs (fnOf x qual (A8m st) (A7s st) (A0k st) .none kV doc pm an cdv ct) ⟨us,[]⟩=pure (ps.zip us)):A8w K fd ps []:=by
 refine e0e F.ex ?_;rintro oc od kV doc pm an cdv ct osl ⟨rfl,lk,hcd⟩;exact .all (h kV doc pm an cdv ct)
theorem D1s {oc:Value} {od an:Option Addr} {kV doc pm cdv ct:Value} (l:K.lookup f=some ⟨oc,od,.func (fnOf x qual (A8m st) (A7s st) (A0k st) .none kV doc pm an cdv ct),osl⟩)
  (c:codeIn K cdv qual=true) (k:keepIn K (.ref f)=true):Fun K x qual st f (fnOf x qual (A8m st) (A7s st) (A0k st) .none kV doc pm an cdv ct):=⟨(i0t oc od kV doc pm an cdv (i0f ct osl rfl l c)),k⟩
end
theorem A4z {k:Nat} (hr:A9c k A):A.units+1<cLine:=Nat.lt_of_le_of_lt (Nat.add_le_add_left (by decide:1<=64) _) hr.units
section
variable {X:Cx}
theorem pv (i:Nat) {pos:Pos} (hN:X.N[i]? =some x:=by rfl) (hv:Vis X.env.scope x:=by first | exact Or.inl rfl | exact Or.inr (Or.inl rfl) | exact Or.inr (Or.inr rfl)) (hd:(x == ("__debug__":Str))=false:=by decide)
  (hcd:(x == ("__classdict__":Str))=false:=by decide):PE X (.Name x pos) (D9v i):=D8c hN hv hd hcd
theorem B7k:A9d X (.builtin "len") (λxs H Q=>∃a kvs,xs=[V.ref a]/\H a=some (.dK kvs)/\Q (.int kvs.length) H):=by
 intro pins s Z H xs us Q I r h;obtain ⟨a,kvs,rfl,ha,q⟩:=h;obtain ⟨u,rfl,ru⟩:=B2s r;cases ru;exact E0s I (.inl ha) λt s' I'=>(i0f (.int kvs.length) H I' ⟨t,rfl⟩ q)
end
theorem A7j {A:Prop} (h:B):if false=true then A else B:=by
 rw [Z0t Z0v];exact h
theorem C9b {A:Prop} (h:A):if true=true then A else B:=by
 rw [Z12 rfl];exact h
theorem D9t {c A:Prop} [Decidable c] (h1:c->A) (h2:¬c->B):if c then A else B:=by
 by_cases h:c
 ·rw [Z12 h];exact h1 h
 ·rw [Z0t h];exact h2 h
theorem D8v {c A:Prop} [Decidable c] (hc:c) (h:B):if (! decide c)=true then A else B:=by
 rw [Z20 hc];exact A7j h
def A0s (H H':Hp):Prop:=∀b o,H b=some o->H' b=some o
theorem A0s.refl (H:Hp):A0s H H:=λ_ _ h=>h
theorem A0s.trans {H1 H2:Hp} (a:A0s H H1) (b:A0s H1 H2):A0s H H2:=λc o h=>b c o (a c o h)
theorem A0s.free (e:A0s H H') (h:H' l=Option.none):H l=Option.none:=by
 cases q:H l with
 | none=>rfl
 | some o =>
  rw [e l o q] at h;cases h
section
variable {κ:Type} [DecidableEq κ]
theorem C1b {kvs:List (κ×V)} {k:κ} (h:A2r kvs k=none):¬k∈kvs.map (·.1):=by
 intro m;obtain ⟨p,hp,e⟩:=Z2c.mp m;have q:(kvs.any λkv=>decide (kv.1=k))=true:=List.any_eq_true.mpr (i02 p hp (Z20 e));rw [A4e,h] at q;exact absurd q (by simp)
theorem D3m {kvs:List (κ×V)} {k:κ} (h:A2r kvs k=some v):k∈kvs.map (·.1):=by
 have q:(kvs.any λkv=>decide (kv.1=k))=true:=by
  rw [A4e,h]
  all_goals rfl
 obtain ⟨p,hp,e⟩:=List.any_eq_true.mp q;exact Z2c.mpr (i02 p hp (of_decide_eq_true e))
end
section
variable {X:Cx}
def tCut (t u:TS):TS:=λD Z H=>∃M:St->Hp->Prop,t { D with nx:=M } Z H/\∀Z' H',M Z' H'->u D Z' H'
theorem A3s {rest:List Stmt} {t u:TS} (h1:PS X st t) (h2:PSs X rest u):PSs X (st::rest) (tCut t u):=by
 intro pins s Z H D I h;obtain ⟨M,h,hm⟩:=h;refine wpAny_execs_cons (thn (h1 pins s Z H { D with nx:=M } I h) λf s1 q=> ?_)
 cases f with
 | next =>
  obtain ⟨Z',H',I',q⟩:=q;exact h2 pins s1 Z' H' D I' (hm _ _ q)
 | ret v=>exact q
 | brk=>exact q
 | cont=>exact q
def rIsi (K:Frag):List V->Hp->VK->Prop:=λxs H Q=>∃x c t b,xs=[x,c]/\C1g K H x t/\(∀u,A2z c u->kitOne K t u=some b)/\Q (.bl b) H
theorem A1m:A9d X (.builtin "isinstance") (rIsi X.K):=by
 intro pins s Z H xs us Q I r h;refine e01 h ?_;clear h;rintro x c t ⟨b,rfl,ty,e,q⟩;obtain ⟨u,w',rfl,ru,rw'⟩:=C6p r;exact C6x I ru ty (e w' rw') λtk=>(i0f (.bl b) H (I.tok tk) rfl q)
theorem A6t (T:String):∀u,A2z (.ty T) u->kitOne K (.type T) u=some true:=by
 intro u h;cases (show u=Value.type T from h);unfold kitOne;rw [Z12 (beq_self_eq_true _)]
theorem B4j {T U:String} (h:(Value.type T == Value.type U)=false) (hm:PySem.W.kitMeta U=true) (hs:(PySem.fastBuiltinMro T).map (·.contains (Value.type U))=some b) :
  ∀u,A2z (.ty U) u->kitOne K (.type T) u=some b:=by
 intro u z;cases (show u=Value.type U from z);unfold kitOne;rw [Z0t (by rw [h];exact Z0v)];show (if PySem.W.kitMeta U=true then subIn K (.type T) (.type U) else none)=some b;rw [Z12 hm];exact hs
theorem B6n:∀u,A2z (.ty "bool") u->kitOne K (.type "int") u=some false:=B4j (by decide +kernel) (by decide +kernel) (by decide +kernel)
def E1c (K:Frag) (neg:Bool):R2:=λx y H Q=>∃(a b:Addr) (ns ms:List Int),x= .ref a/\y= .ref b/\SqL K H a (ns.map V.int)/\SqL K H b (ms.map V.int)/\Q (.bl (if neg then ! decide (ns=ms) else decide (ns=ms))) H
theorem D5j (hu:X.A.units+64<cLine):OpR X (compareOp .NotEq) (E1c X.K true):=by
 intro pins s Z H x y v u Q I rx ry h;refine e0c h ?_;clear h;rintro a b ns ms rfl rfl ha hb q;cases rx;cases ry;obtain ⟨its,r1,p1,_⟩:=I.list ha;obtain ⟨its2,r2,p2,_⟩:=I.list hb;exact PySem.W.ne_intsK p1.isList (B4p r1) p2.isList (B4p r2) hu (i0f (.bl (! decide (ns=ms))) H I rfl q)
def D7c (K:Frag):R2:=λx y H Q=>∃a b xs ys,x= .ref a/\y= .ref b/\SqT K H a xs/\SqT K H b ys/\ys≠[]/\xs.length+ys.length<=sizeLine/\
 (xs=[]->Q (.ref b) H)/\(xs≠[]->∀p,H p=none->Q (.ref p) (upd H p (.tup (xs++ys))))
theorem C9u:OpR X (binaryOp .Add) (D7c X.K):=by
 intro pins s Z H x y v u Q I rx ry h;refine e0c h ?_;clear h;rintro a b xs ys rfl rfl ha hb ⟨hy,hz,q1,q2⟩;by_cases hx:xs=[]
 ·subst hx;cases rx;cases ry;obtain ⟨its,r1,p1,_⟩:=I.tuple ha;obtain ⟨its2,r2,p2,_⟩:=I.tuple hb;have e1:its=[]:=r1.nil_iff.mpr rfl;obtain ⟨⟨cls,dd,data,sl⟩,ho,hc,n,hd⟩:=id p1;obtain ⟨⟨cls2,dd2,data2,sl2⟩,ho2,hc2,n2,hd2⟩:=id p2;simp only at hc hd hc2 hd2;subst hc hd hc2 hd2
  exact concat_meets (i02 _ ho rfl) (i02 _ ho2 rfl) noFill_tuple_add seq_tuple_add PySem.F.slot_tuple_add PySem.F.entry_tuple_add (PySem.F.args_tuple_add_2 _ _)
   (tuple_addW0 a b its.toArray its2.toArray n n2 dd dd2 sl sl2 (by simp [e1])) ⟨ho,(i0j ho2 (.ref b) H I rfl (q1 rfl))⟩
 ·exact C7q pins s Z H _ _ v u Q I rx ry (i0x a b xs ys rfl rfl ha hb (i04 hx hz (λz=>absurd z hy) λ_=>q2 hx))
def D9p (i j:Int):Prop:=i.natAbs<2^4000/\j.natAbs<2^4000
theorem C7g:OpR X (binaryOp .Mult) (rI D9p λi j=> .int (i*j)):=opI λ_ _ _ _ _ _ _ hc q =>
 mul_int q (IntMulOk.of_le (m:=4000) (n:=4000) (intBits_le_iff.mpr hc.1) (intBits_le_iff.mpr hc.2) (by decide))
end
structure Nx (it l:Addr) (st:Nat->Heap->Prop) (src:Array Value->Heap->Prop):Prop where
 item:∀{prog:Program} {w:World} {A:Around} {E:Value->Shared->Prop} {s:Shared} {k:Nat} {xs:Array Value} {x:Value} {Q:Value->Shared->Prop},st k s.heap->src xs s.heap->xs[k]? =some x->
  (∀h',st (k+1) h'->Heap.SameBut it s.heap h'->Q x { s with heap:=h' })->wpAny (model prog w) A (Builtin.SmallTypes.nextOf (.ref it)) Q E s
 fin:∀{prog:Program} {w:World} {A:Around} {E:Value->Shared->Prop} {s:Shared} {k:Nat} {xs:Array Value} {Q:Value->Shared->Prop},A.handled=none->st k s.heap->src xs s.heap->xs[k]? =none->
  (∀h' e,Heap.ExtBut it s.heap h'->(∃o,h'.get? e=some o/\o.cls= .type "StopIteration")->E (.ref e) { s with heap:=h' })->wpAny (model prog w) A (Builtin.SmallTypes.nextOf (.ref it)) Q E s
 mv:∀{k:Nat} {h h':Heap},st k h->(∀o,h.get? it=some o->h'.get? it=some o)->st k h'
 mvS:∀{xs:Array Value} {h h':Heap},src xs h->(∀o,h.get? l=some o->h'.get? l=some o)->src xs h'
 ob:∀{k:Nat} {h:Heap},st k h->∃o,h.get? it=some o/\∀v,o.data≠.cell v
theorem A8a (it l:Addr):Nx it l (λk h=>h.IsListIter it l k) (λxs h=>h.IsList l xs) where
 item:=wpAny_nextOf_list_item
 fin:=wpAny_nextOf_list_end
 mv:=λx e=>x.at e
 mvS:=λx e=>x.at e
 ob:=λ⟨o,e,_,d⟩=>(i02 o e λv z=>by rw [d] at z;cases z)
section
variable {prog:Program} {w:World} {A:Around} {E:Value->Shared->Prop} {s:Shared}
theorem B0j {k:Nat} {x:Value} {Q:Value->Shared->Prop} (hi:s.heap.IsTupleIter it l k) (hl:s.heap.IsTuple l xs) (hx:xs[k]? =some x)
  (hQ:∀h',h'.IsTupleIter it l (k+1)->Heap.SameBut it s.heap h'->Q x { s with heap:=h' }):wpAny (model prog w) A (Builtin.SmallTypes.nextOf (.ref it)) Q E s:=by
 obtain ⟨o,ho,hc,hd⟩:=id hi;obtain ⟨ol,hol,_,nl,hdl⟩:=hl;unfold Builtin.SmallTypes.nextOf;refine Z00 (Z1b (name:=Str.ofString "__next__") hi.typeIs F.slot_tuple_iterator_next (Z1g F.slot_tuple_iterator_next hi.typeIs F.entry_tuple_iterator_next ?_ (F.args_tuple_iterator_next_1 _)));show wpAny _ _ (field (.ref it) 0 >>= _) _ _ s;refine Z00 (Z11 ho hd (x:= .ref l) rfl ?_);show wpAny _ _ (if (Value.ref l == Value.none)=true then _ else _) _ _ s;rw [Z0t (show¬((Value.ref l == Value.none)=true) from Z0v)];show wpAny _ _ (field (.ref it) 1 >>= _) _ _ s;refine Z00 (Z11 ho hd (x:= .int k 0) rfl ?_);show wpAny _ _ (seqItems? (.ref l) >>= _) _ _ s;refine Z00 (Z21 hol hdl ?_);simp only [Int.toNat_natCast,hx];refine Z00 (Z1t ho hd (by simp) (Z04 (i02 x rfl (Z04 (hQ _ ?_ (Heap.SameBut.update ..))))));exact i06 _ (Z1r _ ho (Obj.isFreed_of_fields (Obj.data_mapFields hd _))) ((Obj.cls_mapFields ..).trans hc) (by rw [Obj.data_mapFields hd];simp [rawInt])
theorem B0s {k:Nat} {Q:Value->Shared->Prop} (hh:A.handled=none) (hi:s.heap.IsTupleIter it l k) (hl:s.heap.IsTuple l xs) (hx:xs[k]? =none)
  (hE:∀h' e,Heap.ExtBut it s.heap h'->(∃o,h'.get? e=some o/\o.cls= .type "StopIteration")->E (.ref e) { s with heap:=h' }):wpAny (model prog w) A (Builtin.SmallTypes.nextOf (.ref it)) Q E s:=by
 obtain ⟨o,ho,hc,hd⟩:=id hi;obtain ⟨ol,hol,_,nl,hdl⟩:=hl;unfold Builtin.SmallTypes.nextOf;refine Z00 (Z1b (name:=Str.ofString "__next__") hi.typeIs F.slot_tuple_iterator_next (Z1g F.slot_tuple_iterator_next hi.typeIs F.entry_tuple_iterator_next ?_ (F.args_tuple_iterator_next_1 _)));show wpAny _ _ (field (.ref it) 0 >>= _) _ _ s;refine Z00 (Z11 ho hd (x:= .ref l) rfl ?_);show wpAny _ _ (if (Value.ref l == Value.none)=true then _ else _) _ _ s;rw [Z0t (show¬((Value.ref l == Value.none)=true) from Z0v)];show wpAny _ _ (field (.ref it) 1 >>= _) _ _ s;refine Z00 (Z11 ho hd (x:= .int k 0) rfl ?_);show wpAny _ _ (seqItems? (.ref l) >>= _) _ _ s;refine Z00 (Z21 hol hdl ?_);simp only [Int.toNat_natCast,hx];refine Z00 (wpAny_rule (Z00 (Z1t ho hd (by simp) ?_)));show wpAny _ _ (newExc (.type "StopIteration") [] >>= _) _ _ _;refine Z00 ?_;simp only [newExc,newTuple];refine Z00 (Z16 ?_ (by size_fits));refine Z00 (m:=firstArgMember _ _) (wpAny_of_eq (a:=Value.none) (by first | rfl | (simp only [firstArgMember];rfl)) ?_);refine Z16 ?_ (by size_fits);simp only [raiseNew];refine Z00 (wpAny_handled ?_)
 first | rw [show A.in1.handled=none from hh] | rw [hh]
 refine Z00 (Z04 (wpAny_throw ?_));exact hE _ _ (((Heap.SameBut.update ..).extBut.push _).push _) (i02 _ (Z0c _ rfl) rfl)
end
theorem A5w (it l:Addr):Nx it l (λk h=>h.IsTupleIter it l k) (λxs h=>h.IsTuple l xs) where
 item:=B0j
 fin:=B0s
 mv:=λ⟨o,e,r⟩ f=>(i02 o (f _ e) r)
 mvS:=λ⟨o,e,r⟩ f=>(i02 o (f _ e) r)
 ob:=λ⟨o,e,_,d⟩=>(i02 o e λv z=>by rw [d] at z;cases z)
section
variable {z TI TO i1 i2 l1 l2:Addr} {st1 st2:Nat->Heap->Prop} {src1 src2:Array Value->Heap->Prop} {prog:Program} {w:World} {A:Around} {E:Value->Shared->Prop} {s:Shared}
theorem C1c (N1:Nx i1 l1 st1 src1) (N2:Nx i2 l2 st2 src2) {x a b:Value} (D:ZipApart z TI TO i1 i2 l1 l2)
  (hz:IsZip s.heap z TI TO .none) (hTI:IsPair s.heap TI (.ref i1) (.ref i2)) (hTO:IsPair s.heap TO a b) (h1:st1 k1 s.heap) (h2:st2 k2 s.heap) (hl1:src1 xs s.heap) (hl2:src2 ys s.heap) (hx:xs[k1]? =some x) (hy:ys[k2]? =some y)
  (hQ:∀h',IsZip h' z TI TO (rawInt s.heap.objs.size)->IsPair h' TO x y->st1 (k1+1) h'->st2 (k2+1) h'->IsPair h' s.heap.objs.size x y->
   (∀c o,c≠z->c≠TO->c≠i1->c≠i2->s.heap.get? c=some o->h'.get? c=some o)->Q (some (.ref s.heap.objs.size)) { s with heap:=h' }):wpAny (model prog w) A (pyNext (.ref z)) Q E s:=by
 have hT:s.TypeIs (.ref z) "zip":=(i02 _ hz rfl);unfold pyNext;refine Z00 (wpAny_attempt (Z1b (name:=Str.ofString "__next__") hT F.slot_zip_next (Z1g F.slot_zip_next hT F.entry_zip_next ?_ (F.args_zip_next_1 _))));show wpAny _ _ (field (.ref z) 2 >>= _) _ _ _;refine Z00 (Z11 hz rfl (x:= .bool false) rfl ?_);show wpAny _ _ (field (.ref z) 3 >>= _) _ _ _;refine Z00 (Z11 hz rfl (x:= .ref TI) rfl ?_);refine Z00 (Z21 hTI rfl ?_);show wpAny _ _ (Builtin.SmallTypes.ownedTupleIsFree (.ref z) >>= _) _ _ _;refine Z00 ?_;unfold Builtin.SmallTypes.ownedTupleIsFree;refine Z00 (Z11 hz rfl (x:= .none) rfl (Z04 ?_));simp only [if_true];refine Z00 (wpAny_rule ?_);refine Z00 (Z11 hz rfl (x:= .ref TO) rfl ?_);refine Z00 (Z1h hz (by simp) λg1 z1 b1=> ?_)
 replace z1:IsZip g1 z TI TO .ellipsis:=z1
 refine Z00 ?_;simp only [List.zipIdx_cons,List.zipIdx_nil,List.forIn_cons,List.forIn_nil];refine Z00 (Z00 (wpAny_onRaise ?_));show wpAny _ _ (Builtin.SmallTypes.nextOf (.ref i1) >>= _) _ _ _;refine Z00 (N1.item (N1.mv h1 λo e=>b1.extBut _ _ D.i1z e) (N1.mvS hl1 λo e=>b1.extBut _ _ D.l1z e) hx λg2 t2 b2=>Z04 ?_);have p2:IsPair g2 TO a b:=b2.extBut _ _ D.TOi1 (b1.extBut _ _ D.TOz hTO);refine Z00 (Z21 p2 rfl ?_);refine Z00 (wpAny_updateSeq_pair p2 λg3 p3 b3=> ?_)
 replace p3:IsPair g3 TO x b:=p3
 refine Z00 (wpAny_letGo (Z04 ?_));refine Z00 (Z00 (wpAny_onRaise ?_));show wpAny _ _ (Builtin.SmallTypes.nextOf (.ref i2) >>= _) _ _ _;refine Z00 (N2.item (N2.mv h2 λo e=>b3.extBut _ _ D.TOi2.symm (b2.extBut _ _ D.i12.symm (b1.extBut _ _ D.i2z e))) (N2.mvS hl2 λo e=>b3.extBut _ _ D.l2TO (b2.extBut _ _ D.l2i1 (b1.extBut _ _ D.l2z e))) hy λg4 t4 b4=>Z04 ?_);have p4:IsPair g4 TO x b:=b4.extBut _ _ D.TOi2 p3;refine Z00 (Z21 p4 rfl ?_);refine Z00 (wpAny_updateSeq_pair p4 λg5 p5 b5=> ?_)
 replace p5:IsPair g5 TO x y:=p5
 refine Z00 (wpAny_letGo (Z04 (Z04 ?_)));refine Z00 (Z21 p5 rfl ?_);refine Z00 (wpAny_newTuple ?_);have hsz:g5.objs.size=s.heap.objs.size:=by rw [b5.1,b4.1,b3.1,b2.1,b1.1]
 have z5:IsZip g5 z TI TO .ellipsis:=b5.extBut _ _ D.TOz.symm (b4.extBut _ _ D.i2z.symm (b3.extBut _ _ D.TOz.symm (b2.extBut _ _ D.i1z.symm z1)));have k5:∀c o,c≠z->c≠TO->c≠i1->c≠i2->s.heap.get? c=some o->g5.get? c=some o:=λc o c1 c2 c3 c4 e=>b5.extBut _ _ c2 (b4.extBut _ _ c4 (b3.extBut _ _ c2 (b2.extBut _ _ c3 (b1.extBut _ _ c1 e))));have s1:st1 (k1+1) g5:=N1.mv t2 λo e=>b5.extBut _ _ D.TOi1.symm (b4.extBut _ _ D.i12 (b3.extBut _ _ D.TOi1.symm e));have s2:st2 (k2+1) g5:=N2.mv t4 λo e=>b5.extBut _ _ D.TOi2.symm e;have zlt:z<g5.objs.size:=Z0a z5;show wpAny _ _ (Builtin.SmallTypes.ownedTupleHandOut (.ref z) (.ref g5.objs.size) >>= _) _ _ _;refine Z00 ?_;unfold Builtin.SmallTypes.ownedTupleHandOut;have z6:IsZip (g5.push { cls:= .type "tuple",data:= .seq #[x,y] }) z TI TO .ellipsis:=Z01 _ z5;refine Z00 (Z1h z6 (by simp) λg7 z7 b7=> ?_)
 replace z7:IsZip g7 z TI TO (rawInt g5.objs.size):=z7
 refine Z1h z7 (by simp) λg8 z8 b8=> ?_
 replace z8:IsZip g8 z TI TO (rawInt g5.objs.size):=z8
 have up:∀c o,c≠z->g5.get? c=some o->g8.get? c=some o:=λc o c1 e=>b8.extBut _ _ c1 (b7.extBut _ _ c1 (Z01 _ e));have p8:IsPair g8 g5.objs.size x y:=b8.extBut _ _ (Z1q zlt) (b7.extBut _ _ (Z1q zlt) (Z0c _ rfl));rw [hsz] at z8 p8;refine Z04 (i02 _ rfl (Z04 ?_));show Q (some (.ref g5.objs.size)) _;rw [hsz];exact hQ g8 z8 (up _ _ D.TOz p5) (N1.mv s1 λo e=>up _ o D.i1z e) (N2.mv s2 λo e=>up _ o D.i2z e) p8 λc o c1 c2 c3 c4 e=>up c o c1 (k5 c o c1 c2 c3 c4 e)
theorem C6b (N1:Nx i1 l1 st1 src1) (N2:Nx i2 l2 st2 src2) {a b:Value} (hh:A.handled=none) (D:ZipApart z TI TO i1 i2 l1 l2)
  (hz:IsZip s.heap z TI TO .none) (hTI:IsPair s.heap TI (.ref i1) (.ref i2)) (hTO:IsPair s.heap TO a b) (h1:st1 k1 s.heap) (h2:st2 k2 s.heap) (hl1:src1 xs s.heap) (hl2:src2 ys s.heap) (hend:xs[k1]? =none\/ys[k2]? =none)
  (hQ:∀h',(∀c o,c≠z->c≠TO->c≠i1->c≠i2->s.heap.get? c=some o->h'.get? c=some o)->Q none { s with heap:=h' }):wpAny (model prog w) A (pyNext (.ref z)) Q E s:=by
 have hT:s.TypeIs (.ref z) "zip":=(i02 _ hz rfl);unfold pyNext
 have fin:∀(h':Heap) (e:Addr),(∀c o,c≠z->c≠TO->c≠i1->c≠i2->s.heap.get? c=some o->h'.get? c=some o)->(∃o,h'.get? e=some o/\o.cls= .type "StopIteration")->
   wpAny (model prog w) A (isInstance (.ref e) (.type "StopIteration") >>= λb=>if b=true then pure none else throw (.ref e)) Q E { s with heap:=h' }:=λh' e hk ⟨o,ho,hc⟩ =>
  Z00 (wpAny_isInstance (T:="StopIteration") (b:=true) (i02 o ho hc) isSubtype_stop (Z04 (hQ _ hk)))
 refine Z00 (wpAny_attempt (Z1b (name:=Str.ofString "__next__") hT F.slot_zip_next (Z1g F.slot_zip_next hT F.entry_zip_next ?_ (F.args_zip_next_1 _))));show wpAny _ _ (field (.ref z) 2 >>= _) _ _ _;refine Z00 (Z11 hz rfl (x:= .bool false) rfl ?_);show wpAny _ _ (field (.ref z) 3 >>= _) _ _ _;refine Z00 (Z11 hz rfl (x:= .ref TI) rfl ?_);refine Z00 (Z21 hTI rfl ?_);show wpAny _ _ (Builtin.SmallTypes.ownedTupleIsFree (.ref z) >>= _) _ _ _;refine Z00 ?_;unfold Builtin.SmallTypes.ownedTupleIsFree;refine Z00 (Z11 hz rfl (x:= .none) rfl (Z04 ?_));simp only [if_true];refine Z00 (wpAny_rule ?_);refine Z00 (Z11 hz rfl (x:= .ref TO) rfl ?_);refine Z00 (Z1h hz (by simp) λg1 z1 b1=> ?_)
 replace z1:IsZip g1 z TI TO .ellipsis:=z1
 refine Z00 ?_;simp only [List.zipIdx_cons,List.zipIdx_nil,List.forIn_cons,List.forIn_nil];refine Z00 (Z00 (wpAny_onRaise ?_));show wpAny _ _ (Builtin.SmallTypes.nextOf (.ref i1) >>= _) _ _ _;have u1:=N1.mv h1 λo e=>b1.extBut _ _ D.i1z e;have v1:=N1.mvS hl1 λo e=>b1.extBut _ _ D.l1z e
 cases hx:xs[k1]? with
 | none =>
  refine Z00 (N1.fin hh u1 v1 hx λg2 e b2 he=> ?_);obtain ⟨oe,hoe,hce⟩:=he;have z2:IsZip g2 z TI TO .ellipsis:=b2 _ _ D.i1z.symm z1;have ez:e≠z:=λx=>by subst x;rw [z2] at hoe;cases hoe;simp at hce
  exact Z1h z2 (by simp) λg3 _ b3=>fin g3 e (λc o c1 _ c3 _ x=>b3.extBut _ _ c1 (b2 _ _ c3 (b1.extBut _ _ c1 x))) (i02 oe (b3.extBut _ _ ez hoe) hce)
 | some x =>
  have hy:ys[k2]? =none:=by
   rcases hend with h | h
   ·rw [hx] at h;cases h
   ·exact h
  refine Z00 (N1.item u1 v1 hx λg2 t2 b2=>Z04 ?_);have p2:IsPair g2 TO a b:=b2.extBut _ _ D.TOi1 (b1.extBut _ _ D.TOz hTO);refine Z00 (Z21 p2 rfl ?_);refine Z00 (wpAny_updateSeq_pair p2 λg3 p3 b3=> ?_);refine Z00 (wpAny_letGo (Z04 ?_));refine Z00 (Z00 (wpAny_onRaise ?_));show wpAny _ _ (Builtin.SmallTypes.nextOf (.ref i2) >>= _) _ _ _;refine Z00 (N2.fin hh (N2.mv h2 λo e=>b3.extBut _ _ D.TOi2.symm (b2.extBut _ _ D.i12.symm (b1.extBut _ _ D.i2z e))) (N2.mvS hl2 λo e=>b3.extBut _ _ D.l2TO (b2.extBut _ _ D.l2i1 (b1.extBut _ _ D.l2z e))) hy λg4 e b4 he=> ?_);obtain ⟨oe,hoe,hce⟩:=he;have z4:IsZip g4 z TI TO .ellipsis:=b4 _ _ D.i2z.symm (b3.extBut _ _ D.TOz.symm (b2.extBut _ _ D.i1z.symm z1));have ez:e≠z:=λx=>by subst x;rw [z4] at hoe;cases hoe;simp at hce
  exact Z1h z4 (by simp) λg5 _ b5=>fin g5 e (λc o c1 c2 c3 c4 x=>b5.extBut _ _ c1 (b4 _ _ c4 (b3.extBut _ _ c2 (b2.extBut _ _ c3 (b1.extBut _ _ c1 x))))) (i02 oe (b5.extBut _ _ ez hoe) hce)
end
section
variable {X:Cx} {pins:List (Addr×Obj)} {Z:St} {H:Hp} {s:Shared} {h':Heap}
theorem Inv.turnedNew {o:HO} (I:Inv X pins Z H s) (k:∀b u,b∉ts->s.heap.get? b=some u->h'.get? b=some u) (f:∀b∈ts,B8s X pins H b) (hp:s.heap.objs.size<=a)
  (new:A1z X.prog X.w (upd H a o) h' a o):Inv X pins Z (upd H a o) { s with heap:=h',toks:=t' }:=by
 have nt:∀b u,H b=some u->b∉ts:=λb u e z=>by have:=(f b z).1;rw [e] at this;cases this
 have na:∀b u,s.heap.get? b=some u->b≠a:=λb u e=>Z0h (Z0q (Z0a e) hp);have ha:H a=none:=I.hok.fresh hp
 refine I.step (g':=s.gens) (d':=s.drawn) (ch:=ts) (λb hb=>(i04 ((f b hb).2.2.2.1) ((f b hb).2.1) ((f b hb).2.2.2.2.1) ((f b hb).2.2.2.2.2))) (λb u _ _ hc e _=>k b u hc e) (λb u _ _ hc e _=>⟨u.slots,k b u hc e⟩)
  (λb u _ e n=>by rw [A0i (na b u e)];exact n) (λb u hc e=>⟨u,k b u hc e⟩) (λb xs e=>by rw [A0i (A0h e ha)];exact e) (λb u xs e=>by rw [A0i (A0h e ha)];exact e)
  (λb ps e=>⟨#[],by rw [A0i (A0h e ha),e];simp⟩) (λm hm=> ?_) (λb u e=> ?_) I.bare
 ·obtain ⟨ob,es,ep,ho,r⟩:=hm;exact i0g ob es ep (k _ ob (λz=>(f _ z).2.1 rfl) ho) r
 ·by_cases hb:b=a
  ·subst hb;rw [A0b] at e;cases e;exact new
  ·rw [A0i hb] at e;refine (I.hok b u e).stay (λc v hc q=>k c v ?_ q) (λc q=>by rw [A0i (A0h q ha)];exact q) λc xs q=>by rw [A0i (A0h q ha)];exact q
   rcases hc with rfl | hc
   ·exact nt _ _ e
   ·exact nt _ _ hc
theorem Inv.turnedL (I:Inv X pins Z H s) (k:∀b u,b∉ts->s.heap.get? b=some u->h'.get? b=some u) (f:∀b∈ts,B8s X pins H b):Inv X pins Z H { s with heap:=h',toks:=t' }:=by
 have nt:∀b u,H b=some u->b∉ts:=λb u e z=>by have:=(f b z).1;rw [e] at this;cases this
 refine I.step (g':=s.gens) (d':=s.drawn) (ch:=ts) (λb hb=>(i04 ((f b hb).2.2.2.1) ((f b hb).2.1) ((f b hb).2.2.2.2.1) ((f b hb).2.2.2.2.2))) (λb u _ _ hc e _=>k b u hc e) (λb u _ _ hc e _=>⟨u.slots,k b u hc e⟩)
  (λb u _ e n=>n) (λb u hc e=>⟨u,k b u hc e⟩) (λb xs e=>e) (λb u xs e=>e) (λb ps e=>⟨#[],by rw [e];simp⟩) (λm hm=> ?_) (λb u e=> ?_) I.bare
 ·obtain ⟨ob,es,ep,ho,r⟩:=hm;exact i0g ob es ep (k _ ob (λz=>(f _ z).2.1 rfl) ho) r
 ·refine (I.hok b u e).stay (λc v hc q=>k c v ?_ q) (λc q=>q) λc xs q=>q;rcases hc with rfl | hc
  ·exact nt _ _ e
  ·exact nt _ _ hc
end
def SqK (k:Bool) (K:Frag) (H:Hp) (a:Addr) (xs:List V):Prop:=match k with | true=>SqL K H a xs | false=>SqT K H a xs
def SrK (k:Bool) (h:Heap) (l:Addr) (xs:Array Value):Prop:=match k with | true=>h.IsList l xs | false=>h.IsTuple l xs
def StK (k:Bool) (it l:Addr) (i:Nat) (h:Heap):Prop:=match k with | true=>h.IsListIter it l i | false=>h.IsTupleIter it l i
abbrev itK (k:Bool):String:=match k with | true=>"list_iterator" | false=>"tuple_iterator"
theorem nxK:∀(k:Bool) (it l:Addr),Nx it l (λi h=>StK k it l i h) (λxs h=>SrK k h l xs)
 | true=>A8a
 | false=>A5w
theorem D6i {X:Cx} {pins:List (Addr×Obj)} {Z:St} {H:Hp} {s:Shared} {a:Addr} {xs:List V} (I:Inv X pins Z H s):∀{k:Bool},SqK k X.K H a xs->∃its:List Value,A2p xs its/\SrK k s.heap a its.toArray
 | true,h=>let ⟨its,rv,p,_⟩:=I.list h;(i02 its rv p.isList)
 | false,h=>let ⟨its,rv,p,_⟩:=I.tuple h;(i02 its rv p)
theorem E2a {X:Cx} {pins:List (Addr×Obj)} {Z:St} {H:Hp} {s:Shared} {a:Addr} {xs ys:List V} (I:Inv X pins Z H s):∀{k:Bool},SqK k X.K H a xs->SqK k X.K H a ys->xs=ys
 | true,h,g=>I.list_inj h g
 | false,h,g=>I.tuple_inj h g
theorem ltK {h:Heap} {l:Addr} {xs:Array Value}:∀{k:Bool},SrK k h l xs->l<h.objs.size
 | true,⟨_,e,_⟩=>Z0a e
 | false,⟨_,e,_⟩=>Z0a e
theorem D9a {prog:Program} {w:World} {A:Around} {E:Value->Shared->Prop} {s:Shared} {l:Addr} {xs:Array Value} {Q:Value->Shared->Prop}:∀{k:Bool},SrK k s.heap l xs->Q (.ref s.heap.objs.size) { s with heap:=s.heap.push { cls:= .type (itK k),data:= .fields #[.ref l,.int 0 0] } }->wpAny (model prog w) A (pyIter (.ref l)) Q E s
 | true,h,q=>wpAny_pyIter_list h q
 | false,h,q=>wpAny_pyIter_tuple h q
theorem E1w {h:Heap} {it l:Addr}:∀{k:Bool},h.get? it=some { cls:= .type (itK k),data:= .fields #[.ref l,.int 0 0] }->StK k it l 0 h
 | true,e=>(i06 _ e rfl rfl)
 | false,e=>(i06 _ e rfl rfl)
def Itk (k1 k2:Bool) (K:Frag) (a b:Addr):It :=
 ⟨λi H=>∃xs ys x y,SqK k1 K H a xs/\SqK k2 K H b ys/\xs[i]? =some x/\ys[i]? =some y,
  λi H v H'=>∃p,H p=none/\v= .ref p/\∃x y,(∀xs,SqK k1 K H a xs->xs[i]? =some x)/\(∀ys,SqK k2 K H b ys->ys[i]? =some y)/\H'=upd H p (.tup [x,y]),
  λi H=>∃xs ys,SqK k1 K H a xs/\SqK k2 K H b ys/\(xs.length<=i\/ys.length<=i)⟩
def D2r (k1 k2:Bool) (z TI TO i1 i2 a b:Addr) (i:Nat) (h:Heap):Prop:=IsZip h z TI TO .none/\IsPair h TI (.ref i1) (.ref i2)/\(∃u v,IsPair h TO u v)/\StK k1 i1 a i h/\StK k2 i2 b i h
theorem C4y {k1 k2:Bool} {pos:Pos} {z TI TO i1 i2 b:Addr} (D:ZipApart z TI TO i1 i2 a b) :
  D2g P w K (.Tuple elts kk pos) (Itk k1 k2 K a b) [z,TI,TO,i1,i2] z (D2r k1 k2 z TI TO i1 i2 a b) where
 mem:=by simp
 obj:=λi h st c hc=>by
  obtain ⟨h1,h2,⟨u,v,h3⟩,h4,h5⟩:=st;simp only [Z0e,Z1i,or_false] at hc;rcases hc with rfl | rfl | rfl | rfl | rfl
  ·exact i02 _ h1 λv z=>by cases (show Data.fields _=Data.cell v from z)
  ·exact i02 _ h2 λv z=>by cases (show Data.seq _ _=Data.cell v from z)
  ·exact i02 _ h3 λv z=>by cases (show Data.seq _ _=Data.cell v from z)
  ·exact (nxK k1 _ a).ob h4
  ·exact (nxK k2 _ b).ob h5
 keep:=λi h h' st k=>by
  obtain ⟨h1,h2,⟨u,v,h3⟩,h4,h5⟩:=st;exact i08 (k z (by simp) _ h1) (k TI (by simp) _ h2) (i03 u v (k TO (by simp) _ h3)) ((nxK k1 i1 a).mv h4 λo e=>k i1 (by simp) o e) ((nxK k2 i2 b).mv h5 λo e=>k i2 (by simp) o e)
 item:=by
  intro X hP hw hK hc i pins s Z H E I hf st hg;subst hP hw hK;refine e01 hg ?_;clear hg;rintro xs ys x ⟨y,hq1,hq2,hx,hy⟩;obtain ⟨its,rv,p1⟩:=D6i I hq1;obtain ⟨its2,rv2,p2⟩:=D6i I hq2;obtain ⟨u,hu,ru⟩:=rv.get hx;obtain ⟨u2,hu2,ru2⟩:=rv2.get hy;obtain ⟨h1,h2,⟨o1,o2,h3⟩,h4,h5⟩:=st;refine C1c (nxK k1 i1 a) (nxK k2 i2 b) D h1 h2 h3 h4 h5 p1 p2 (x:=u) (by simpa using hu) (y:=u2) (by simpa using hu2) λh' z1 z2 z3 z4 z5 kp=> ?_;refine i02 _ rfl (wpAny_letOwnedTupleGo_zip (s:={ s with heap:=h' }) z1 λg zg sb=> ?_)
  have nz:s.heap.objs.size≠z:=Z1q (Z0a h1);have n2:TI<s.heap.objs.size:=Z0a h2;have n3:TO<s.heap.objs.size:=Z0a h3;have n4:i1<s.heap.objs.size:=let ⟨_,e,_⟩:=(nxK k1 i1 a).ob h4;Z0a e;have n5:i2<s.heap.objs.size:=let ⟨_,e,_⟩:=(nxK k2 i2 b).ob h5;Z0a e;have zq:IsPair g s.heap.objs.size u u2:=sb.extBut _ _ nz z5
  have I1:Inv X pins Z (upd H s.heap.objs.size (.tup [x,y])) { s with heap:=g,toks:=s.toks }:=I.turnedNew (ts:=[z,TI,TO,i1,i2]) (λc o hc e=>by
   simp only [Z0e,Z1i,or_false,not_or] at hc
   exact sb.extBut _ _ hc.1 (kp c o hc.1 hc.2.2.1 hc.2.2.2.1 hc.2.2.2.2 e)) hf (Z09 _) (i05 (by show 2<=sizeLine;decide) [u,u2] (.cons ru (.cons ru2 .nil)) (i0d _ zq rfl _ rfl))
  refine ⟨.ref s.heap.objs.size,_,I1,rfl,(i02 _ (I.hok.fresh (Z09 _)) (i0j rfl x y (λzs hz=>by rw [E2a I hz hq1];exact hx) (λzs hz=>by rw [E2a I hz hq2];exact hy) rfl)),
   (i08 zg (sb.extBut _ _ D.TIz (kp _ _ D.TIz D.TITO D.TIi1 D.TIi2 h2)) (i03 _ _ (sb.extBut _ _ D.TOz z2)) ((nxK k1 i1 a).mv z3 λo e=>sb.extBut _ _ D.i1z e) ((nxK k2 i2 b).mv z4 λo e=>sb.extBut _ _ D.i2z e)),λc hc=> ?_⟩
  have hcn:c≠s.heap.objs.size:=by
   simp only [Z0e,Z1i,or_false] at hc;rcases hc with rfl | rfl | rfl | rfl | rfl
   ·exact nz.symm
   ·exact Z0h n2
   ·exact Z0h n3
   ·exact Z0h n4
   ·exact Z0h n5
  rw [A0i hcn];exact (hf c hc).1
 done:=by
  intro X hP hw hK hc i pins s Z H E I hf st hg;subst hP hw hK;obtain ⟨xs,ys,hq1,hq2,hx⟩:=hg;obtain ⟨its,rv,p1⟩:=D6i I hq1;obtain ⟨its2,rv2,p2⟩:=D6i I hq2;have e1:=rv.length;have e2:=rv2.length;obtain ⟨h1,h2,⟨o1,o2,h3⟩,h4,h5⟩:=st;refine C6b (nxK k1 i1 a) (nxK k2 i2 b) (I.ok.hd hc) D h1 h2 h3 h4 h5 p1 p2 (by simp;lia) λh' kp=>⟨rfl,?_⟩
  exact I.turnedL (t':=s.toks) (ts:=[z,TI,TO,i1,i2]) (λc o hc e=>by
   simp only [Z0e,Z1i,or_false,not_or] at hc
   exact kp c o hc.1 hc.2.2.1 hc.2.2.2.1 hc.2.2.2.2 e) hf
 self:=λ_ _ _ _ _ st h=>wpAny_pyIter_zip st.1 h
abbrev D9w (k1:Bool) (h:Heap) (l1:Addr):Heap:=h.push { cls:= .type (itK k1),data:= .fields #[.ref l1,.int 0 0] }
abbrev D9y (k1 k2:Bool) (h:Heap) (l1 l2:Addr):Heap:=(D9w k1 h l1).push { cls:= .type (itK k2),data:= .fields #[.ref l2,.int 0 0] }
noncomputable abbrev D9o (k1 k2:Bool) (h:Heap) (l1 l2:Addr):Heap:=(D9y k1 k2 h l1 l2).push { cls:= .type "tuple",data:= .seq #[.ref h.objs.size,.ref (D9w k1 h l1).objs.size] }
noncomputable abbrev D9z (k1 k2:Bool) (h:Heap) (l1 l2:Addr):Heap:=(D9o k1 k2 h l1 l2).push { cls:= .type "tuple",data:= .seq #[.none,.none] }
noncomputable abbrev D6j (k1 k2:Bool) (h:Heap) (l1 l2:Addr):Heap:=(D9z k1 k2 h l1 l2).push { cls:= .type "zip",data:= .fields #[.none,.bool false,.bool false,.ref (D9y k1 k2 h l1 l2).objs.size,.ref (D9o k1 k2 h l1 l2).objs.size] }
theorem C4p (k1 k2:Bool) (l1 l2:Addr) (xs ys:Array Value):Meets (Builtin.«zip.__new__» ⟨[.type "zip",.ref l1,.ref l2],[]⟩) (λ_ R s=>SrK k1 s.heap l1 xs/\SrK k2 s.heap l2 ys/\
  R (.ok (.ret (.ref (D9z k1 k2 s.heap l1 l2).objs.size))) { s with heap:=D6j k1 k2 s.heap l1 l2 }) :=
 .of_wp λprog w A R s h=>by
  obtain ⟨hp,g,d,tk,os⟩:=s;obtain ⟨hl1,hl2,h⟩:=h;have hsub:=sub_zip;have hL1:SrK k1 (Shared.heap ⟨hp,g,d,tk,os⟩) l1 xs:=hl1;have hL2:SrK k2 (Shared.heap ⟨hp.push { cls:= .type (itK k1),data:= .fields #[.ref l1,.int 0 0] },g,d,tk,os⟩) l2 ys:=(nxK k2 0 l2).mvS hl2 λo e=>Z01 _ e
  wp_walk using D9a hL1,D9a hL2
  exact i02 _ rfl h
theorem B7h {k1 k2:Bool} {prog:Program} {w:World} {A:Around} {E:Value->Shared->Prop} {s:Shared} {l1 l2:Addr} {xs ys:Array Value} {Q:Value->Shared->Prop} (hl1:SrK k1 s.heap l1 xs) (hl2:SrK k2 s.heap l2 ys)
  (h:∀h',D2r k1 k2 (s.heap.objs.size+4) (s.heap.objs.size+2) (s.heap.objs.size+3) s.heap.objs.size (s.heap.objs.size+1) l1 l2 0 h'->(∀c o,s.heap.get? c=some o->h'.get? c=some o)->Q (.ref (s.heap.objs.size+4)) { s with heap:=h' }) :
  wpAny (model prog w) A (call (.type "zip") [.ref l1,.ref l2]) Q E s:=by
 refine callType_new F.called_zip (by decide) (F.typeCall_zip_2 _ _) (F.newCall_zip_2 _ _) (λobj=>F.args_object_init_3 obj _ _) F.entry_zip_new (C4p k1 k2 l1 l2 xs ys) (i00 hl1 hl2 ?_);have z1:(D9w k1 s.heap l1).objs.size=s.heap.objs.size+1:=Z1s ..;have z2:(D9y k1 k2 s.heap l1 l2).objs.size=s.heap.objs.size+2:=by rw [Z1s,z1]
 have z3:(D9o k1 k2 s.heap l1 l2).objs.size=s.heap.objs.size+3:=by rw [Z1s,z2]
 have z4:(D9z k1 k2 s.heap l1 l2).objs.size=s.heap.objs.size+4:=by rw [Z1s,z3]
 have q5:(D6j k1 k2 s.heap l1 l2).get? (D9z k1 k2 s.heap l1 l2).objs.size=some _:=Z0c _ rfl;have q4:(D6j k1 k2 s.heap l1 l2).get? (D9o k1 k2 s.heap l1 l2).objs.size=some _:=Z01 _ (Z0c _ rfl);have q3:(D6j k1 k2 s.heap l1 l2).get? (D9y k1 k2 s.heap l1 l2).objs.size=some _:=Z01 _ (Z01 _ (Z0c _ rfl));have q2:(D6j k1 k2 s.heap l1 l2).get? (D9w k1 s.heap l1).objs.size=some _:=Z01 _ (Z01 _ (Z01 _ (Z0c _ rfl)));have q1:(D6j k1 k2 s.heap l1 l2).get? s.heap.objs.size=some _:=Z01 _ (Z01 _ (Z01 _ (Z01 _ (Z0c _ rfl))));show _/\_;rw [z2,z3,z4] at q5;rw [z1,z2] at q3;rw [z3] at q4;rw [z1] at q2;rw [z4];exact ⟨(i02 _ q5 rfl),h _ (i08 q5 q3 (i03 _ _ q4) (E1w q1) (E1w q2)) λc o x=>Z01 _ (Z01 _ (Z01 _ (Z01 _ (Z01 _ x))))⟩
def E1q (k1 k2:Bool) (K:Frag) (ta:TA):TI:=λZ H R=>ta Z H λvs H1=>∃a b xs ys,vs=[.ref a,.ref b]/\SqK k1 K H1 a xs/\SqK k2 K H1 b ys/\R (Itk k1 k2 K a b) H1
theorem C7s {k1 k2:Bool} {X:Cx} {elts:List Expr} {kk:Nat} {tpos:Pos} {a b:Expr} {ta:TA} {p pos:Pos} (hg:Gl X "zip") (hm:X.mg "zip"=none) (ha:PA X [a,b] ta) (hs:starEach [a,b] X.env=[(false,eval a X.env),(false,eval b X.env)]:=by rfl) (hs2:starEach [b] X.env=[(false,eval b X.env)]:=by rfl) :
  PI X (.Tuple elts kk tpos) (.Call (.Name "zip" p) [a,b] [] pos) (E1q k1 k2 X.K ta):=by
 intro pins s Z H R I h;refine Call_ (B0o I hg hm boot_zip (PyProof.Rows.callWith_type1 (thn (ha pos pins s Z H _ I h) λus s1 ⟨vs,H1,I1,r1,q1⟩=> ?_) (by rw [hs,hs2]) (by rw [hs2];rfl)));refine e01 q1 ?_;clear q1;rintro l1 l2 xs ⟨ys,e,hq1,hq2,q⟩;subst e;obtain ⟨u,u2,rfl,ru,ru2⟩:=C6p r1;cases ru;cases ru2;obtain ⟨its,rv,p1⟩:=D6i I1 hq1;obtain ⟨its2,rv2,p2⟩:=D6i I1 hq2;have t1:l1<s1.heap.objs.size:=ltK p1;have t2:l2<s1.heap.objs.size:=ltK p2;refine B7h p1 p2 λh' zs kp=>wpAny_pyIter_zip zs.1 ?_;have I2:Inv X pins Z H1 { s1 with heap:=h' }:=I1.kept (t':=s1.toks) kp;refine i12 _ [s1.heap.objs.size+4,s1.heap.objs.size+2,s1.heap.objs.size+3,s1.heap.objs.size,s1.heap.objs.size+1] _ _ H1 rfl I2 (C4y (zipApart_new t1 t2)) zs (λc hc=> ?_) q
 have hle:s1.heap.objs.size<=c:=by
  simp only [Z0e,Z1i,or_false] at hc;rcases hc with rfl | rfl | rfl | rfl | rfl
  ·exact Nat.le_add_right _ _
  ·exact Nat.le_add_right _ _
  ·exact Nat.le_add_right _ _
  ·exact Z09 _
  ·exact Nat.le_add_right _ _
 exact I1.fpOk hle (I1.hok.fresh hle)
theorem C2p {k1 k2:Bool} {b:Addr} {xs ys:List V} {tb:TS} {D:C0x} (Pv:Nat->St->Hp->Prop) (h0:Pv 0 Z H) (hl:∀i Z H,Pv i Z H->SqK k1 K H a xs/\SqK k2 K H b ys) (hlen:xs.length<=ys.length)
  (hs:∀i x y Z H p,xs[i]? =some x->ys[i]? =some y->Pv i Z H->H p=none->g (.ref p) Z (upd H p (.tup [x,y])) λZ2 H2=>tb { D with nx:=Pv (i+1),ct:=Pv (i+1),bk:=D.nx } Z2 H2) (hd:∀Z H,Pv xs.length Z H->D.nx Z H) :
  ∃W:Nat->Nat->St->Hp->Prop,(∃m,W 0 m Z H)/\∀i m Z H,W i m Z H->
   ((Itk k1 k2 K a b).stop i H/\D.nx Z H)\/((Itk k1 k2 K a b).go i H/\∃N:St->Hp->Prop,(∀Z' H',N Z' H'->∃m',m'<m/\W (i+1) m' Z' H')/\∀x H',(Itk k1 k2 K a b).yld i H x H'->g x Z H' λZ2 H2=>tb { D with nx:=N,ct:=N,bk:=D.nx } Z2 H2):=by
 refine i02 (λi m Z H=>m=xs.length-i/\i<=xs.length/\Pv i Z H) (i06 xs.length (by simp) (Z1e _) h0) ?_;rintro i m Z H ⟨rfl,hi,p⟩;obtain ⟨q1,q2⟩:=hl i Z H p;by_cases hlt:i<xs.length
 ·have e1:xs[i]? =some xs[i]:=Z0b hlt;have e2:ys[i]? =some (ys[i]'(by lia)):=Z0b _;refine .inr (i05 ⟨xs,(i0q ys _ _ q1 q2 e1 e2)⟩ (Pv (i+1)) (λZ' H' p'=>(i0c (xs.length-(i+1)) (by lia) rfl hlt p')) λv H' y=> ?_);refine e00 y ?_;clear y;rintro c hc rfl ⟨x,z,f1,f2,rfl⟩;exact hs i x z Z H c (f1 xs q1) (f2 ys q2) p hc
 ·have e:i=xs.length:=by lia
  subst e;exact .inl ⟨(i0f xs ys q1 q2 (.inl (Z09 _))),hd Z H p⟩
abbrev B9y:= @B7h true false
abbrev D0k:= @C7s true false
abbrev D4m {K:Frag} {a b:Addr} {xs ys:List V} {g:TG} {tb:TS} {D:C0x} {Z:St} {H:Hp} (Pv:Nat->St->Hp->Prop) (h0:Pv 0 Z H) (hl:∀i Z H,Pv i Z H->SqL K H a xs/\SqT K H b ys) (hlen:xs.length=ys.length):=C2p (k1:=true) (k2:=false) (g:=g) (tb:=tb) (D:=D) Pv h0 hl (Nat.le_of_eq hlen)
def Itv (K:Frag) (a:Addr) (n:Nat):It :=
 ⟨λi H=>∃xs x,SqL K H a xs/\xs.length=n/\i<n/\xs[n-1-i]? =some x,λi H x H'=>H'=H/\∀xs,SqL K H a xs->xs[n-1-i]? =some x,λi _=>i=n⟩
theorem D0p (a it:Addr) (n:Nat):D2g P w K tg (Itv K a n) [it] it (λi h=>h.IsRevIter it a ((n:Int)-1-(i:Int))) where
 mem:=by simp
 obj:=λi h st b hb=>by
  have e:b=it:=by simpa using hb
  subst e;obtain ⟨o,e,c,d⟩:=st;exact i02 o e λv z=>by rw [d] at z;cases z
 keep:=λi h h' st k=>st.at λo e=>k it (by simp) o e
 item:=by
  intro X hP hw hK hc i pins s Z H E I hf st hg;subst hP hw hK;obtain ⟨xs,x,hq,hn,hi,hx⟩:=hg;obtain ⟨its,rv,p,hz⟩:=I.list hq;obtain ⟨u,hu,ru⟩:=rv.get hx;obtain ⟨f0,f1,f2,f3,f4,f5⟩:=hf it (by simp);have e1:(n:Int)-1-(i:Int)=((n-1-i:Nat):Int):=by lia
  rw [e1] at st;refine wpAny_pyNext_rev_item st p.isList (x:=u) (by simpa using hu) λh' st' sb=> ?_;have I1:Inv X pins Z H { s with heap:=h' }:=I.turned (t':=s.toks) (λb o hb e=>(sb.2 b hb).trans e) f0 f1 f3 f4 f5
  have e2:((n-1-i:Nat):Int)-1=(n:Int)-1-((i+1:Nat):Int):=by lia
  rw [e2] at st';obtain ⟨o,e,c,d⟩:=id st';exact i02 u rfl (C8j (s:={ s with heap:=h' }) e c d (by decide) (i0p x H I1 ru ⟨rfl,λys hy=>by rw [I.list_inj hy hq];exact hx⟩ st' λb hb=>(hf b hb).1))
 done:=by
  intro X hP hw hK hc i pins s Z H E I hf st hg;subst hP hw hK;have hi:i=n:=hg;subst hi;obtain ⟨f0,f1,f2,f3,f4,f5⟩:=hf it (by simp);have e1:(i:Int)-1-(i:Int)= -1:=by lia
  rw [e1] at st;exact wpAny_pyNext_rev_end (I.ok.hd hc) st λh' eb=>⟨rfl,I.turned (t':=s.toks) (λb o hb e=>eb b o hb e) f0 f1 f3 f4 f5⟩
 self:=λ_ _ _ _ _ st h=>wpAny_pyIter_revIter st h
def iRev (K:Frag) (ta:TA):TI:=λZ H R=>ta Z H λvs H1=>∃a xs,vs=[.ref a]/\SqL K H1 a xs/\R (Itv K a xs.length) H1
theorem D1v {a:Expr} {ta:TA} {p pos:Pos} (hg:Gl X "reversed") (hm:X.mg "reversed"=none) (ha:PA X [a] ta) (hs:starEach [a] X.env=[(false,eval a X.env)]:=by rfl) :
  PI X tg (.Call (.Name "reversed" p) [a] [] pos) (iRev X.K ta):=by
 intro pins s Z H R I h;refine Call_ (B0o I hg hm boot_reversed (PyProof.Rows.callWith_type1 (thn (ha pos pins s Z H _ I h) λus s1 ⟨vs,H1,I1,r1,q1⟩=> ?_) hs rfl));obtain ⟨l,xs,e,hq,q⟩:=q1;subst e;obtain ⟨u,rfl,ru⟩:=B2s r1;cases ru;obtain ⟨its,rv,p1,_⟩:=I1.list hq;have en:(its.toArray.size:Int)-1=(xs.length:Int)-1-((0:Nat):Int):=by rw [Z0g,<-rv.length];lia
 refine call_reversed_list p1.isList ?_;rw [en];have st:(s1.heap.push (revObj l ((xs.length:Int)-1-((0:Nat):Int)))).IsRevIter s1.heap.objs.size l ((xs.length:Int)-1-((0:Nat):Int)):=(i06 _ (Z0c _ rfl) rfl rfl);refine wpAny_pyIter_revIter (s:={ s1 with heap:=s1.heap.push (revObj l ((xs.length:Int)-1-((0:Nat):Int))) }) st ?_;refine i12 _ [s1.heap.objs.size] _ _ H1 rfl (I1.kept (t':=s1.toks) λb o e=>Z01 _ e) (D0p l _ xs.length) st (λb hb=> ?_) q
 have e:b=s1.heap.objs.size:=by simpa using hb
 subst e;exact I1.fpOk (Z09 _) (I1.hok.fresh (Z09 _))
structure C8w (X:Cx) (scope:Scope) (cl:List (Str×Addr)):Prop where
 eq:closureFor scope X.env=pure cl
 sub:∀x c,cl.lookup x=some c->X.env.cells.lookup x=some c
 has:∀x,((relabel scope X.env).names.lookup x=some .cell\/(relabel scope X.env).names.lookup x=some .free)->∃c,cl.lookup x=some c
 kind:scope.kind= .function
 ncell:∀y∈scope.names,y.2≠.cell
 names:∀y∈scope.names,y.2= .local->scope.names.lookup y.1=some .local
noncomputable def blk (X:Cx) (N':List Str) (scope:Scope) (cl:List (Str×Addr)) (C:Addr) (s₀:Shared) (H₀:Hp) (fp:List Addr):Cx :=
 { X with N:=N',s₀:=s₀,H₀:=H₀,env:=compEnvC scope cl C X.env,outer:=X.stack,ex:=fp,fn:=λ_=>false,pn:=[],xe:=λ_ _=>False }
def A6f (ix:List (Option Nat)) (Z:St):St:=ix.map λo=>o.bind λj=>(Z[j]?).bind id
section
variable {X:Cx} {pins:List (Addr×Obj)} {Z:St} {H:Hp} {s:Shared} {N':List Str} {scope:Scope} {cl:List (Str×Addr)} {fp:List Addr} {ix:List (Option Nat)}
def C9r (X:Cx) (N':List Str) (scope:Scope) (ix:List (Option Nat)):Prop :=
 ix.length=N'.length/\∀i j:Nat,ix[i]? =some (some j)->∃x,N'[i]? =some x/\X.N[j]? =some x/\(X.env.scope.names.lookup x=some .cell\/X.env.scope.names.lookup x=some .free)/\
  ((relabel scope X.env).names.lookup x=some .cell\/(relabel scope X.env).names.lookup x=some .free)
theorem D8n (I:Inv X pins Z H s) (ck:C8w X scope cl) (f:∀b∈fp,B8s X pins H b) (hlt:∀b∈fp,b<s.heap.objs.size):(blk X N' scope cl s.heap.objs.size s H fp).Ok where
 mod:=I.ok.mod
 kind:=ck.kind
 glob:=I.ok.glob
 blt:=I.ok.blt
 above:=Z09 _
 inj:=λx y c h1 h2=>I.ok.inj x y c (ck.sub x c h1) (ck.sub y c h2)
 has:=λx h=>ck.has x h
 cab:=λx c h=>by cases h
 hd:=I.ok.hd
 frames:=I.ok.frames
 stk:= .inl rfl
 exf:=λb hb=>⟨Z0h (hlt b hb),λx c h=>(f b hb).2.2.2.2.1 x c (ck.sub x c h)⟩
 bs:=I.bs
 bsz:=Z1n I.ok.bsz I.sz
 noex:=λb o e hb=>by
  rcases (f b hb).2.2.2.1 with z | z
  ·exact I.ok.noex b o e z
  ·exact absurd (Z0q (Z0a (I.ok.bs b o e).1) z) (Nat.lt_irrefl _)
 exfs:=λb hb hs=>by
  rcases Z0e.mp (I.stkSub b hs) with z | z
  ·exact (f b hb).2.1 z
  ·exact (f b hb).2.2.1 z
 funs:=I.stack
 frf:=I.stkFree
theorem B7a (I:Inv X pins Z H s) (ck:C8w X scope cl) (io:C9r X N' scope ix) (f:∀b∈fp,B8s X pins H b) (hlt:∀b∈fp,b<s.heap.objs.size) {m:Str->Option Value}
  (hn:h'.Ns s.heap.objs.size m) (k:∀b o,s.heap.get? b=some o->h'.get? b=some o):Inv (blk X N' scope cl s.heap.objs.size s H fp) [] (A6f ix Z) H { s with heap:=h',toks:=t' }:=by
 have cl':∀x c,cl.lookup x=some c->∃v,s.heap.IsCell c v:=λx c h=>I.cell x c (ck.sub x c h);refine ⟨D8n I ck f hlt,rfl,I.bare,Un.kept k,(i02 m hn λi x v e1 e2 e3=> ?_),λx c e=> ?_,I.hok.fresh (Z09 _),λx c e=>I.freeC x c (ck.sub x c e),(λp hp=>by cases hp),I.hok.kept k,?_⟩
 ·unfold A6f at e2;rw [Z1z] at e2
  cases hi:ix[i]? with
  | none=>rw [hi] at e2;cases e2
  | some o =>
   rw [hi] at e2
   cases o with
   | none=>cases Z1a e2
   | some j =>
    have e2':(Z[j]?).bind id=some v:=Z1a e2;obtain ⟨x',n1,n2,k1,k2⟩:=io.2 i j hi;have ex:x'=x:=Z1a (n1.symm.trans e1);subst ex
    have es:Z[j]? =some (some v):=by
     cases q:Z[j]? with
     | none=>rw [q] at e2';cases e2'
     | some w =>
      rw [q] at e2';exact congrArg some e2'
    obtain ⟨m0,_,hl⟩:=I.loc;obtain ⟨u,ru,lo⟩:=hl j x' v n2 es (k1.elim (λz=> .inr (.inl z)) λz=> .inr (.inr z));refine i02 u ru (.inr ⟨k2,?_⟩);obtain ⟨c,hc⟩:=ck.has x' k2;refine i02 c hc ?_;rcases lo with ⟨z,_⟩ | ⟨_,c',hc',ic⟩
    ·exfalso;have z':X.env.scope.names.lookup x'=some .local:=z;rcases k1 with k1 | k1 <;> (rw [z'] at k1;cases k1)
    ·have ec:c'=c:=Z1a (hc'.symm.trans (ck.sub x' c hc));subst ec;obtain ⟨o,ho,hd⟩:=ic;exact i02 o (k _ _ ho) hd
 ·obtain ⟨v,o,ho,hd⟩:=cl' x c e;exact i07 v o (k _ _ ho) hd
 ·unfold A6f;rw [Z08];exact io.1
theorem C6a (I:Inv X pins Z H s) (f:∀b∈fp,B8s X pins H b) {Z':St} {s':Shared} {pl:List (Addr×Obj)} (J:Inv (blk X N' scope cl s.heap.objs.size s H fp) pl Z' H' s') (sb:Heap.SameBut s.heap.objs.size s'.heap h') :
  Inv X pins Z H' { s' with heap:=h' }:=by
 have nC:∀b o,s.heap.get? b=some o->b≠s.heap.objs.size:=λb o e=>Z0h (Z0a e);have hC:H' s.heap.objs.size=none:=J.free;have u:Un (frs X.stack) fp H H' s.heap s'.heap:=J.base
 refine I.call' (ch:=fp) (s':={ s' with heap:=h' }) J.os ⟨λb o e n hb hx=>(sb.2 b (nC b o e)).trans (u.keep b o e n hb hx),λb o e n hb hx=> ?_,u.free,λb o e hx=> ?_,u.tups,u.frzs,u.tbls⟩ (λb o e=> ?_) J.bare
  (λb hb=>(i04 ((f b hb).2.2.2.1) ((f b hb).2.1) ((f b hb).2.2.2.2.1) ((f b hb).2.2.2.2.2)))
 ·obtain ⟨sl,q⟩:=u.slot b o e n hb hx;exact ⟨sl,(sb.2 b (nC b o e)).trans q⟩
 ·obtain ⟨o',q⟩:=u.there b o e hx;exact ⟨o',(sb.2 b (nC b o e)).trans q⟩
 ·refine (J.hok b o e).stay (λc v hc q=>(sb.2 c ?_).trans q) (λc q=>q) λc xs q=>q;rcases hc with rfl | hc
  ·exact A0h e hC
  ·exact A0h hc hC
end
def A3j:St->St->Prop
 | [],_=>True
 | none::r,_::r'=>A3j r r'
 | none::r,[]=>A3j r []
 | some v::r,w::r'=>w=some v/\A3j r r'
 | some _::_,[]=>False
theorem A3j.get:∀{a b:St},A3j a b->∀(j:Nat) v,a[j]? =some (some v)->b[j]? =some (some v)
 | [],_,_,_,_,e=>by simp at e
 | none::r,_::r',h,0,v,e=>by simp at e
 | none::r,_::r',h,j+1,v,e=>by simpa using A3j.get (a:=r) (b:=r') h j v (by simpa using e)
 | none::r,[],h,0,v,e=>by simp at e
 | none::r,[],h,j+1,v,e=>by have:=A3j.get (a:=r) (b:=[]) h j v (by simpa using e);simp at this
 | some w::r,_::r',h,0,v,e=>by
  have e':w=v:=by simpa using e
  subst e'
  simpa using h.1
 | some _::r,_::r',h,j+1,v,e=>by simpa using A3j.get (a:=r) (b:=r') h.2 j v (by simpa using e)
section
variable {X:Cx}
def D7b (ix:List (Option Nat)) (wi:TI) (g:TG) (te:TE):TE:=λZ H Q=>wi Z H λJ H1=>∀D,H1 D=none->∃W:Nat->Nat->Hp->Prop,(∃m,W 0 m (upd H1 D (.lst [])))/\∀i m H2,W i m H2->
 (J.stop i H2/\Q (.ref D) H2)\/(J.go i H2/\∃N:VK,(∀y H5,N y H5->∃xs,H5 D=some (.lst xs)/\xs.length<sizeLine/\∃m',m'<m/\W (i+1) m' (upd H5 D (.lst (xs++[y]))))/\∀x H3,J.yld i H2 x H3->g x (A6f ix Z) H3 λZ4 H4=>A3j (A6f ix Z) Z4/\te Z4 H4 N)
end
section
variable {X:Cx} {m:Str} {pos apos:Pos} {e o:Expr} {es:List Expr} {ta:TE} {t:TA}
def D7t (X:Cx) (m:Str) (ta:TE) (t:TA):TE:=λZ H Q=>ta Z H λx H1=>∃(a C dx:Addr) (fs:List (Str×V)) (k:Nat) (f:Addr) (fd:FuncData) (ps:List Str) (sp:Sp),x= .ref a/\H1 a=some (.ins C dx fs)/\Cls X.K C/\B3u X.K C m f/\fs.lookup m=none/\
 A4c X.prog X.w X.K X.mg X.base CX0 k f fd ps sp/\A9c k X.A/\A8w X.K fd ps []/\t Z H1 λvs H2=>sp (x::vs) H2 Q E0
theorem A8d {pl:Sem Bool} (he:PE X o ta) (ha:PA X (e::es) t)
  (hst:starEach (e::es) X.env=(false,eval e X.env)::starEach es X.env:=by rfl) (hpl:(backTo pos (starEach es X.env)).any (·.1)=false:=by rfl)
  (ht:eval (.Call (.Attribute o m apos) (e::es) [] pos) X.env=(do
   let ov<-eval o X.env
   standAt apos.atName
   let (f,first)<-holding [ov] (getMethod ov m pl)
   callWith pos f first (backTo pos (starEach (e::es) X.env)) (backToKw pos (keywordEach [] X.env))):=by rfl) :
  PE X (.Call (.Attribute o m apos) (e::es) [] pos) (D7t X m ta t):=by
 intro pins s Z H Q I h;refine PySem.W.methodCall_KW (pl:=pl) (thn (he pins s Z H _ I h) ?_) ht;rintro u s1 zz;refine e0a zz ?_;clear zz;rintro x H1 I1 rx a C dx ⟨fs,k,f,fd,ps,sp,ex,ea,c,hm,l,F,hr,hb,q⟩;subst ex;obtain rfl:u=Value.ref a:=rx;refine B4m I1 ea c hm l ?_;refine PySem.W.callWith_K (first:=[.ref a]) (h₀:=X.base) I.ok.mod.kin hm.kp (thn (ha pos pins s1 Z H1 _ I1 q) λus s2 ⟨vs,H2,I2,r,q2⟩=>⟨I2.kIn,?_⟩) hst hpl;exact C8u (us:= .ref a::us) (vs:= .ref a::vs) (dvs:=[]) F hr hb .nil B6t I2 (.cons rfl r) (by rw [Z0u];exact q2)
end
mutual
inductive Rep (H:Hp):V->PyData->Prop
 | non:Rep H .non .none
 | bl (b:Bool):Rep H (.bl b) (.bool b)
 | int (i:Int):Rep H (.int i) (.int i)
 | str (x:Str):Rep H (.str x) (.str x)
 | lst {p:Addr} {xs:List V} {ds:List PyData}:H p=some (.lst xs)->A3l H xs ds->Rep H (.ref p) (.list ds)
 | tup {p:Addr} {xs:List V} {ds:List PyData}:H p=some (.tup xs)->A3l H xs ds->Rep H (.ref p) (.tuple ds)
inductive A3l (H:Hp):List V->List PyData->Prop
 | nil:A3l H [] []
 | cons {v:V} {vs:List V} {d:PyData} {ds:List PyData}:Rep H v d->A3l H vs ds->A3l H (v::vs) (d::ds)
end
mutual
theorem Rep.imp {H H':Hp} (f:∀p o,H p=some o->H' p=some o):∀{v:V} {d:PyData},Rep H v d->Rep H' v d
 | _,_,.non=> .non
 | _,_,.bl b=> .bl b
 | _,_,.int i=> .int i
 | _,_,.str x=> .str x
 | _,_,.lst e r=> .lst (f _ _ e) (A3l.imp f r)
 | _,_,.tup e r=> .tup (f _ _ e) (A3l.imp f r)
theorem A3l.imp {H H':Hp} (f:∀p o,H p=some o->H' p=some o):∀{vs:List V} {ds:List PyData},A3l H vs ds->A3l H' vs ds
 | _,_,.nil=> .nil
 | _,_,.cons a r=> .cons (Rep.imp f a) (A3l.imp f r)
end
theorem Rep.same {d:PyData} (h:Rep H v d) (s:A0s H H'):Rep H' v d:=h.imp s
theorem A3l.same {v:List V} {d:List PyData} (h:A3l H v d) (s:A0s H H'):A3l H' v d:=h.imp s
theorem A3l.len {H:Hp}:∀{vs:List V} {ds:List PyData},A3l H vs ds->vs.length=ds.length
 | _,_,.nil=>rfl
 | _,_,.cons _ r=>by rw [Z0y,Z0y,A3l.len r]
theorem A3l.snoc {H:Hp} {v:V} {d:PyData} (a:Rep H v d):∀{vs:List V} {ds:List PyData},A3l H vs ds->A3l H (vs++[v]) (ds++[d])
 | _,_,.nil=> .cons a .nil
 | _,_,.cons b r=> .cons b (A3l.snoc a r)
theorem A3l.strs {H:Hp}:∀xs:List Str,A3l H (xs.map V.str) (xs.map PyData.str)
 | []=> .nil
 | x::r=> .cons (.str x) (A3l.strs r)
section
variable {X:Cx} {pins:List (Addr×Obj)} {Z:St} {H:Hp} {s:Shared}
mutual
theorem B2p (I:Inv X pins Z H s):∀{v:V} {d:PyData} {u:Value},Rep H v d->A2z v u->∃as,Reads s.heap u d as
 | _,_,u,.non,r=>by cases (show u=Value.none from r);exact ⟨_,.none⟩
 | _,_,u,.bl b,r=>by cases (show u=Value.bool b from r);exact ⟨_,.bool b⟩
 | _,_,u,.int i,r=>by obtain ⟨t,q⟩:=(show∃t,u=Value.int i t from r);cases q;exact ⟨_,.int i t⟩
 | _,_,u,.str x,r=>by obtain ⟨t,q⟩:=(show∃t,u=Value.str x t from r);cases q;exact ⟨_,.str x t⟩
 | _,_,u,@Rep.lst _ p xs ds e q,r=>by
  cases (show u=Value.ref p from r)
  obtain ⟨_,its,n,rv,ho⟩:=(show A1z X.prog X.w H s.heap p (.lst xs) from I.hok p _ e);obtain ⟨as,z⟩:=A9s I q rv;exact ⟨_,Reads.list ho rfl rfl (by simpa using z)⟩
 | _,_,u,@Rep.tup _ p xs ds e q,r=>by
  cases (show u=Value.ref p from r)
  refine e09 (show A1z X.prog X.w H s.heap p (.tup xs) from I.hok p _ e) λ_ its rv o ho hc n hd=>?_;obtain ⟨as,z⟩:=A9s I q rv;exact ⟨_,Reads.tuple ho hc hd (by simpa using z)⟩
theorem A9s (I:Inv X pins Z H s):∀{vs:List V} {ds:List PyData} {us:List Value},A3l H vs ds->A2p vs us->∃as,ReadsAll s.heap us ds as
 | _,_,_,.nil,.nil=>⟨_,.nil⟩
 | _,_,_,.cons a r,.cons q rv=>by
  obtain ⟨as,z⟩:=B2p I a q;obtain ⟨bs,y⟩:=A9s I r rv;exact ⟨_,.cons z y⟩
end
end
section
variable {X:Cx}
def E1i (K:Frag):V->List V->Hp->VK->Prop:=λx vs H Q=>∃(z:Str) (p:Addr) (ys:List Str),x= .str z/\vs=[.ref p]/\SqL K H p (ys.map V.str)/\(ys.map (·.length)).sum+ys.length*z.length<=16777216/\Q (.str (Txt.join z ys)) H
theorem C3p {ys:List Str}:∀{us:List Value},A2p (ys.map V.str) us->StrsAre us ys:=by
 induction ys with
 | nil=>intro us r;cases r;exact .nil
 | cons y r ih =>
  intro us q
  cases q with
  | cons q1 q2 =>
   obtain ⟨t,rfl⟩:=q1;exact .cons _ _ (ih q2)
theorem C8v:MtR X "str.join" (E1i X.K):=by
 intro pins s Z H x xs v us Q I rx rv h;refine e08 h ?_;clear h;rintro z p ys rfl rfl hq ⟨hz,q⟩;obtain ⟨t,rfl⟩:=(show∃t,v=Value.str z t from rx);obtain ⟨u,rfl,ru⟩:=B2s rv;cases ru;obtain ⟨its,rv,p1,_⟩:=I.list hq;exact join_list p1.isList (C3p rv) hz λt' k=>(i0f (.str (Txt.join z ys)) H (I.tok k) ⟨t',rfl⟩ q)
end
theorem A3f (hk:scope.kind= .function) (hn:∀y∈scope.names,y.2≠.free/\y.2≠.cell) (hl:∀y∈scope.names,y.2= .local->scope.names.lookup y.1=some .local):C8w X scope [] where
 eq:=closureFor_none λy hy=>(hn y hy).1
 sub:=λx c h=>by cases h
 has:=λx h=>by
  exfalso
  have e:(relabel scope X.env).names=scope.names:=map_eq_self λy hy=>by
   obtain ⟨n,k⟩:=y;have z:=(hn _ hy).1;have z':(k == NameKind.free)=false:=by simpa using z
   simp [z']
  rw [e] at h
  have mem:∀{k:NameKind},scope.names.lookup x=some k->(x,k)∈scope.names:=λ{k} q=>by
   generalize scope.names=l at q
   induction l with
   | nil=>cases q
   | cons a r ih =>
    obtain ⟨n,k'⟩:=a;rw [Z28] at q;split at q
    ·rename_i hb;have hb':x=n:=by simpa using hb
     cases q
     subst hb';exact .head _
    ·exact .tail _ (ih q)
  rcases h with h | h
  ·exact (hn _ (mem h)).2 rfl
  ·exact (hn _ (mem h)).1 rfl
 kind:=hk
 ncell:=λy hy=>(hn y hy).2
 names:=hl
theorem A3c (h:n=N'.length):C9r X N' scope (List.replicate n none):=⟨by rw [List.length_replicate];exact h,λi j e=>by
 rw [List.getElem?_replicate] at e
 split at e <;> cases e⟩
section
variable {K:Frag} {a D:Addr} {xs:List V} {g:TG} {te:TE} {Q:VK} {Z₀:St} {H:Hp}
theorem C8l (Pv:Nat->List V->Hp->Prop) (h0:Pv 0 [] (upd H D (.lst []))) (hl:∀i ys H,Pv i ys H->SqL K H a xs)
  (hs:∀i x ys H,xs[i]? =some x->Pv i ys H->g x Z₀ H λZ4 H4=>A3j Z₀ Z4/\te Z4 H4 λy H5=>H5 D=some (.lst ys)/\ys.length<sizeLine/\Pv (i+1) (ys++[y]) (upd H5 D (.lst (ys++[y])))) (hd:∀ys H,Pv xs.length ys H->Q (.ref D) H) :
  ∃W:Nat->Nat->Hp->Prop,(∃m,W 0 m (upd H D (.lst [])))/\∀i m H2,W i m H2->
   ((Itl K a).stop i H2/\Q (.ref D) H2)\/((Itl K a).go i H2/\∃N:VK,(∀y H5,N y H5->∃xs,H5 D=some (.lst xs)/\xs.length<sizeLine/\∃m',m'<m/\W (i+1) m' (upd H5 D (.lst (xs++[y]))))/\
    ∀x H3,(Itl K a).yld i H2 x H3->g x Z₀ H3 λZ4 H4=>A3j Z₀ Z4/\te Z4 H4 N):=by
 refine i02 (λi m H=>m=xs.length-i/\i<=xs.length/\∃ys,Pv i ys H) (i0d xs.length (by simp) (Z1e _) [] h0) ?_;rintro i m H2 ⟨rfl,hi,ys,p⟩;have q:=hl i ys H2 p;by_cases hlt:i<xs.length
 ·refine .inr (i05 (i07 xs (xs[i]) q (by simp [hlt])) (λy H5=>H5 D=some (.lst ys)/\ys.length<sizeLine/\Pv (i+1) (ys++[y]) (upd H5 D (.lst (ys++[y])))) (λy H5 n=>(i0u ys n.1 n.2.1 (xs.length-(i+1)) (by lia) rfl hlt _ n.2.2)) λx H3 z=> ?_);obtain ⟨e,z⟩:=z;subst e;exact hs i x ys _ (z xs q) p
 ·have e:i=xs.length:=by lia
  subst e;exact .inl ⟨(i02 xs q (Z09 _)),hd ys H2 p⟩
theorem D1c (Pv:Nat->List V->Hp->Prop) (h0:Pv 0 [] (upd H D (.lst []))) (hl:∀i ys H,Pv i ys H->SqT K H a xs)
  (hs:∀i x ys H,xs[i]? =some x->Pv i ys H->g x Z₀ H λZ4 H4=>A3j Z₀ Z4/\te Z4 H4 λy H5=>H5 D=some (.lst ys)/\ys.length<sizeLine/\Pv (i+1) (ys++[y]) (upd H5 D (.lst (ys++[y])))) (hd:∀ys H,Pv xs.length ys H->Q (.ref D) H) :
  ∃W:Nat->Nat->Hp->Prop,(∃m,W 0 m (upd H D (.lst [])))/\∀i m H2,W i m H2->
   ((Itt K a).stop i H2/\Q (.ref D) H2)\/((Itt K a).go i H2/\∃N:VK,(∀y H5,N y H5->∃xs,H5 D=some (.lst xs)/\xs.length<sizeLine/\∃m',m'<m/\W (i+1) m' (upd H5 D (.lst (xs++[y]))))/\
    ∀x H3,(Itt K a).yld i H2 x H3->g x Z₀ H3 λZ4 H4=>A3j Z₀ Z4/\te Z4 H4 N):=by
 refine i02 (λi m H=>m=xs.length-i/\i<=xs.length/\∃ys,Pv i ys H) (i0d xs.length (by simp) (Z1e _) [] h0) ?_;rintro i m H2 ⟨rfl,hi,ys,p⟩;have q:=hl i ys H2 p;by_cases hlt:i<xs.length
 ·refine .inr (i05 (i07 xs (xs[i]) q (by simp [hlt])) (λy H5=>H5 D=some (.lst ys)/\ys.length<sizeLine/\Pv (i+1) (ys++[y]) (upd H5 D (.lst (ys++[y])))) (λy H5 n=>(i0u ys n.1 n.2.1 (xs.length-(i+1)) (by lia) rfl hlt _ n.2.2)) λx H3 z=> ?_);obtain ⟨e,z⟩:=z;subst e;exact hs i x ys _ (z xs q) p
 ·have e:i=xs.length:=by lia
  subst e;exact .inl ⟨(i02 xs q (Z09 _)),hd ys H2 p⟩
end
theorem A6k {x:Str} {k:NameKind}:∀{l:List (Str×NameKind)},l.lookup x=some k->(x,k)∈l
 | [],q=>by cases q
 | (n,k')::r,q=>by
  rw [Z28] at q;split at q
  ·rename_i hb;have hb':x=n:=by simpa using hb
   cases q
   subst hb';exact .head _
  ·exact .tail _ (A6k q)
theorem A5j {c:Addr} (he:closureFor scope X.env=pure [(x,c)]) (hc:X.env.cells.lookup x=some c) (hk:scope.kind= .function) (hn:∀y∈scope.names,y.2≠.cell/\(y.2= .free->y.1=x))
  (hl:∀y∈scope.names,y.2= .local->scope.names.lookup y.1=some .local):C8w X scope [(x,c)] where
 eq:=he
 sub:=λy d h=>by
  rw [Z28] at h;split at h
  ·rename_i hb;have hb':y=x:=by simpa using hb
   cases h
   subst hb';exact hc
  ·cases h
 has:=λy h=>by
  have key:y=x:=by
   have m:∃k,(y,k)∈(relabel scope X.env).names/\(k= .cell\/k= .free):=h.elim (λz=>(i02 _ (A6k z) (.inl rfl))) λz=>(i02 _ (A6k z) (.inr rfl));obtain ⟨k,hm,hk⟩:=m;obtain ⟨⟨n,k0⟩,h0,e⟩:=Z2c.mp hm;dsimp only at e;by_cases hf:k0= .free
   ·have en:n=y:=by
     split at e
     ·exact congrArg Prod.fst e
     ·exact congrArg Prod.fst e
    rw [<-en];exact (hn _ h0).2 hf
   ·have hb:(k0 == NameKind.free)=false:=by simpa using hf
    simp only [hb,Bool.false_and,Bool.false_eq_true,if_false] at e;have e2:k0=k:=congrArg Prod.snd e;subst e2;rcases hk with hk | hk
    ·exact absurd hk (hn _ h0).1
    ·exact absurd hk hf
  subst key;exact ⟨c,by simp [Z28]⟩
 kind:=hk
 ncell:=λy hy=>(hn y hy).1
 names:=hl
theorem A4j {N0:List Str} {j:Nat} (hN:X.N[j]? =some x) (h1:X.env.scope.names.lookup x=some .cell\/X.env.scope.names.lookup x=some .free)
  (h2:(relabel scope X.env).names.lookup x=some .cell\/(relabel scope X.env).names.lookup x=some .free):C9r X (N0++[x]) scope (List.replicate N0.length none++[some j]):=by
 refine ⟨by simp,λi k e=> ?_⟩;by_cases hi:i<N0.length
 ·rw [Z26 (by simpa using hi),List.getElem?_replicate] at e;split at e <;> cases e
 ·have hi':i=N0.length:=by
   have:=(Z03.mp e).1;simp at this
   lia
  subst hi';rw [Z1l (by simp)] at e;have ek:j=k:=by simpa using e
  subst ek;exact i0c x (by simp) hN h1 h2
theorem A0q {o:HO} (s:A0s H H') (hl:H l=none):A0s H (upd H' l o):=λb u e=>by
 rw [A0i (A0h e hl)];exact s b u e
theorem A0f {o:HO} (hl:H l=none):A0s H (upd H l o):=A0q (A0s.refl H) hl
theorem A3v {x dx:Addr} {o v:HO} (hx:H x=none) (hd:H dx=none):A0s H (upd (upd (upd H dx o) x u) x v):=A0q (A0q (A0f hd) hx) hx
theorem A4d (h:n<=1000000):n<=sizeLine:=by rw [sizeLine_eq];lia
theorem A1d (h:n<=1000000):n<sizeLine:=by rw [sizeLine_eq];lia
noncomputable def A1w (S:Addr->Prop) (H:Hp):Hp:=λa=> @ite _ (S a) (Classical.propDecidable _) (H a) none
theorem C2d (h:S a):A1w S H a=H a:=by unfold A1w;rw [Z12 h]
theorem C8i (h:¬S a):A1w S H a=none:=by unfold A1w;rw [Z0t h]
theorem A0z {o:HO} (h:A1w S H a=some o):S a/\H a=some o:=by
 by_cases hs:S a
 ·rw [C2d hs] at h;exact ⟨hs,h⟩
 ·rw [C8i hs] at h;cases h
theorem A1a {o:HO} (hs:S a) (h:H a=some o):A1w S H a=some o:=by rw [C2d hs];exact h
theorem A4v:A0s (A1w S H) H:=λ_ _ e=>(A0z e).2
theorem A1l (s:A0s H H'):A0s (A1w S H) (A1w S H'):=λb o e=>A1a (A0z e).1 (s _ _ (A0z e).2)
theorem A3e {S':Addr->Prop} (s:A0s H H') (h:∀a o,H a=some o->S a->S' a):A0s (A1w S H) (A1w S' H'):=λb o e=>A1a (h _ _ (A0z e).2 (A0z e).1) (s _ _ (A0z e).2)
theorem A5n {o:HO} (s:A0s (A1w S H) (A1w S H')) (h:¬S l):A0s (A1w S H) (A1w S (upd H' l o)):=λb u e=>by
 have q:=A0z (s _ _ e);have hne:b≠l:=λz=>h (by rw [<-z];exact q.1);exact A1a q.1 (by rw [A0i hne];exact q.2)
mutual
theorem Rep.imp2 {H H':Hp} (f:∀p xs,H p=some (.lst xs)->H' p=some (.lst xs)) (g:∀p xs,H p=some (.tup xs)->H' p=some (.tup xs)):∀{v:V} {d:PyData},Rep H v d->Rep H' v d
 | _,_,.non=> .non
 | _,_,.bl b=> .bl b
 | _,_,.int i=> .int i
 | _,_,.str x=> .str x
 | _,_,.lst e r=> .lst (f _ _ e) (A3l.imp2 f g r)
 | _,_,.tup e r=> .tup (g _ _ e) (A3l.imp2 f g r)
theorem A3l.imp2 {H H':Hp} (f:∀p xs,H p=some (.lst xs)->H' p=some (.lst xs)) (g:∀p xs,H p=some (.tup xs)->H' p=some (.tup xs)):∀{vs:List V} {ds:List PyData},A3l H vs ds->A3l H' vs ds
 | _,_,.nil=> .nil
 | _,_,.cons a r=> .cons (Rep.imp2 f g a) (A3l.imp2 f g r)
end
theorem Rep.ins {d:PyData} {C dx:Addr} {fs:List (Str×V)} {o:HO} (h:Rep H v d) (e:H p=some (.ins C dx fs)):Rep (upd H p o) v d :=
 h.imp2 (λq xs z=>by rw [A0i (A1p z e (by intro w;cases w))];exact z) (λq xs z=>by rw [A0i (A1p z e (by intro w;cases w))];exact z)
section
variable {G:Hp} {v:V} {vs:List V} {d:PyData} {ds:List PyData}
theorem D3u (h:Rep G v (.tuple ds)):∃p xs,v= .ref p/\G p=some (.tup xs)/\A3l G xs ds:=by
 cases h with
 | tup e r=>exact i0f _ _ rfl e r
theorem A7b (h:Rep G v (.list ds)):∃p xs,v= .ref p/\G p=some (.lst xs)/\A3l G xs ds:=by
 cases h with
 | lst e r=>exact i0f _ _ rfl e r
theorem D5x (h:Rep G v (.str x)):v= .str x:=by cases h;rfl
theorem C8g {x:Int} (h:Rep G v (.int x)):v= .int x:=by cases h;rfl
theorem B8g (h:A3l G vs (d::ds)):∃u r,vs=u::r/\Rep G u d/\A3l G r ds:=by
 cases h with
 | cons a r=>exact i0f _ _ rfl a r
theorem D1b (h:A3l G vs []):vs=[]:=by cases h;rfl
end
mutual
def cnt:PyData->Nat
 | .none=>1
 | .bool _=>1
 | .int _=>1
 | .str _=>1
 | .list xs=>A4h xs+1
 | .tuple xs=>A4h xs+1
 | .dict _=>1
def A4h:List PyData->Nat
 | []=>0
 | x::xs=>cnt x+A4h xs
end
theorem D3l (d:PyData):1<=cnt d:=by cases d <;> simp [cnt]
theorem B9u:∀ds:List PyData,ds.length<=A4h ds
 | []=>by simp [A4h]
 | d::r=>by
  have:=B9u r;have:=D3l d;simp only [A4h,Z0y]
  lia
theorem C8n:∀{ds:List PyData} {i:Nat} {d:PyData},ds[i]? =some d->cnt d<=A4h ds/\PyData.depth d<=PyData.depthAll ds
 | [],_,_,e=>by simp at e
 | d::r,0,_,e=>by
  simp at e;subst e;simp only [A4h,PyData.depthAll]
  lia
 | x::r,i+1,d,e=>by
  have:=C8n (ds:=r) (i:=i) (d:=d) (by simpa using e);simp only [A4h,PyData.depthAll]
  lia
theorem A3l.get2 {H:Hp}:∀{vs:List V} {ds:List PyData} {i:Nat} {v:V},A3l H vs ds->vs[i]? =some v->∃d,ds[i]? =some d/\Rep H v d
 | _,_,_,_,.nil,e=>by simp at e
 | _,_,0,_,.cons a _,e=>by simp at e;subst e;exact i02 _ rfl a
 | _,_,i+1,v,.cons _ r,e=>by
  obtain ⟨d,h1,h2⟩:=A3l.get2 (i:=i) (v:=v) r (by simpa using e);exact i02 d (by simpa using h1) h2
theorem lk0 {k:Str}:List.lookup k ((k,v)::r)=some v:=by simp [Z28]
theorem lk1 {k j:Str} {o:Option V} (h:(k == j)=false) (e:List.lookup k r=o):List.lookup k ((j,v)::r)=o:=by
 rw [Z28,h];exact e
theorem A1v {f:Str}:A6b f v []=[(f,v)]:=rfl
theorem A1r {f g:Str} {x:V} (h:¬g=f):A6b f v ((g,x)::r)=(g,x)::A6b f v r:=by rw [A6b,Z0t h]
theorem A2n {c A:Prop} [Decidable c] (h1:c->A) (h2:¬c->B):if decide c=true then A else B :=
 D9t (λh=>h1 (of_decide_eq_true h)) (λh=>h2 λhc=>h (Z20 hc))
theorem C8o {c A:Prop} [Decidable c] (h1:¬c->A) (h2:c->B):if (! decide c)=true then A else B :=
 D9t (λh=>h1 λhc=>by rw [Z20 hc] at h;cases h) (λh=>h2 (by
  by_cases hc:c
  ·exact hc
  ·rw [Z1j hc] at h;exact absurd rfl h))
section
variable {X:Cx}
theorem B0l {l:Expr} {tl:TE} (hl:PE X l tl):PI X tg l (λZ H R=>D8s X.K tl Z H R\/E2b X.K tl Z H R):=λpins s Z H R I h=>h.elim (A2m hl pins s Z H R I) (D9k hl pins s Z H R I)
end
theorem D2m {α:Type} {xs:List α} {i:Int} (h0:0<=i) (h1:i<xs.length):∃v,xs[i.toNat]? =some v/\atI xs i=some v:=by
 obtain ⟨n,rfl⟩:=Int.eq_ofNat_of_zero_le h0;have hn:n<xs.length:=by lia
 exact i02 (xs[n]) (by simp [hn]) (A0j (by simp [hn]))
theorem A8x {α:Type} {f:α->V} {xs:List α} {i:Int} (h0:0<=i) (h1:i<xs.length):∃x,xs[i.toNat]? =some x/\atI (xs.map f) i=some (f x):=by
 obtain ⟨n,rfl⟩:=Int.eq_ofNat_of_zero_le h0;have hn:n<xs.length:=by lia
 exact i02 (xs[n]) (by simp [hn]) (A0j (by simp [hn]))
section
variable {K:Frag} {a D:Addr} {xs:List V} {g:TG} {te:TE} {QD:Hp->Prop} {Z₀:St} {H:Hp}
theorem A4a (Pv:Nat->List V->Hp->Prop) (h0:Pv 0 [] (upd H D (.lst []))) (hl:∀i ys H,Pv i ys H->SqL K H a xs)
  (hs:∀i x ys H,xs[i]? =some x->Pv i ys H->g x Z₀ H λZ4 H4=>A3j Z₀ Z4/\te Z4 H4 λy H5=>H5 D=some (.lst ys)/\ys.length<sizeLine/\Pv (i+1) (ys++[y]) (upd H5 D (.lst (ys++[y])))) (hd:∀ys H,Pv xs.length ys H->QD H) :
  ∃W:Nat->Nat->Hp->Prop,(∃m,W 0 m (upd H D (.lst [])))/\∀i m H2,W i m H2->
   ((Itl K a).stop i H2/\QD H2)\/((Itl K a).go i H2/\∃N:VK,(∀y H5,N y H5->∃xs,H5 D=some (.lst xs)/\xs.length<sizeLine/\∃m',m'<m/\W (i+1) m' (upd H5 D (.lst (xs++[y]))))/\
    ∀x H3,(Itl K a).yld i H2 x H3->g x Z₀ H3 λZ4 H4=>A3j Z₀ Z4/\te Z4 H4 N):=C8l (Q:=λ_ H=>QD H) Pv h0 hl hs hd
theorem C5o (Pv:Nat->List V->Hp->Prop) (h0:Pv 0 [] (upd H D (.lst []))) (hl:∀i ys H,Pv i ys H->SqT K H a xs)
  (hs:∀i x ys H,xs[i]? =some x->Pv i ys H->g x Z₀ H λZ4 H4=>A3j Z₀ Z4/\te Z4 H4 λy H5=>H5 D=some (.lst ys)/\ys.length<sizeLine/\Pv (i+1) (ys++[y]) (upd H5 D (.lst (ys++[y])))) (hd:∀ys H,Pv xs.length ys H->QD H) :
  ∃W:Nat->Nat->Hp->Prop,(∃m,W 0 m (upd H D (.lst [])))/\∀i m H2,W i m H2->
   ((Itt K a).stop i H2/\QD H2)\/((Itt K a).go i H2/\∃N:VK,(∀y H5,N y H5->∃xs,H5 D=some (.lst xs)/\xs.length<sizeLine/\∃m',m'<m/\W (i+1) m' (upd H5 D (.lst (xs++[y]))))/\
    ∀x H3,(Itt K a).yld i H2 x H3->g x Z₀ H3 λZ4 H4=>A3j Z₀ Z4/\te Z4 H4 N):=D1c (Q:=λ_ H=>QD H) Pv h0 hl hs hd
end
section
variable {X:Cx}
theorem B4n:A9d X (.type "dict") (λxs H Q=>∃a kvs,xs=[V.ref a]/\Rd H a (.dK kvs)/\∀p,H p=none->Q (.ref p) (upd H p (.dK kvs))):=by
 intro pins s Z H xs us Q I r h;obtain ⟨a,kvs,rfl,ha,q⟩:=h;obtain ⟨u,rfl,ru⟩:=B2s r;cases ru;obtain ⟨hz,hs,vs,rel,dd⟩:=B1a I.hok ha;refine kt_call_dict (knd:=A0x X.prog X.w) hs dd (by rw [<-rel.length];exact hz) λh' dd' sb=> ?_;have hn:=I.hok.fresh (Z09 s.heap.objs.size);have kp:∀b u,s.heap.get? b=some u->h'.get? b=some u:=λb u e=>(sb.2 b (Z0h (Z0a e))).trans (Z01 _ e)
 have hsy:(s.heap.objs.size == sysModules)=false:=by
  have:=I.big;have hne:s.heap.objs.size≠sysModules:=Z1q this
  simpa using hne
 exact i0f (.ref s.heap.objs.size) _ (I.laid (t':=s.toks) (o:= .dK kvs) kp (Z09 _) (i09 hz hsy vs rel dd')) rfl (q _ hn)
theorem Inv.frozen (I:Inv X pins Z H s) (ha:H a=some (.dK kvs)) (ho:s.heap.get? a=some o):Inv X pins Z (upd H a (.frz o (.dK kvs))) s :=
 I.write (t':=s.toks) (h':=s.heap) (e:=a) (by rw [ha];trivial) (.inl rfl) (λ_ _ _ e=>e) ⟨o,ho⟩ ⟨ho,(show A1z X.prog X.w H s.heap a (.dK kvs) from I.hok a _ ha)⟩
theorem Inv.thaw (I:Inv X pins Z H s) (ha:H a=some (.frz o u)) (hu:∃kvs,u= .dK kvs) (h0:∀o' u',X.H₀ a≠some (.frz o' u')):Inv X pins Z (upd H a u) s:=by
 have nf:∀b,H b=none->upd H a u b=none:=λb e=>by rw [A0i (λz=>by subst z;rw [ha] at e;cases e)];exact e
 obtain ⟨kvs,rfl⟩:=hu
 refine ⟨I.ok,I.os,I.bare,⟨I.base.keep,I.base.slot,λb ob e n hx=>nf b (I.base.free b ob e n hx),I.base.there,λb xs e=> ?_,λb ob u' e=> ?_,λb ps e=> ?_⟩,I.loc,I.cell,nf _ I.free,λx c e=>nf _ (I.freeC x c e),
  λp hp=>(i00 ((I.pin p hp).1) (nf _ (I.pin p hp).2.1) ((I.pin p hp).2.2)),λb v e=> ?_,I.len⟩
 ·have q:=I.base.tups b xs e;rw [A0i (A1p q ha (by intro z;cases z))];exact q
 ·have q:=I.base.frzs b ob u' e;rw [A0i (λz=>by subst z;exact h0 _ _ e)];exact q
 ·obtain ⟨more,q⟩:=I.base.tbls b ps e;exact ⟨more,by rw [A0i (A1p q ha (by intro z;cases z))];exact q⟩
 ·by_cases hb:b=a
  ·subst hb;rw [A0b] at e;cases e;obtain ⟨_,q⟩:=(show A1z X.prog X.w H s.heap b (.frz o (.dK kvs)) from I.hok b _ ha);exact q
  ·rw [A0i hb] at e;exact (I.hok b v e).stay (λ_ _ _ q=>q) (λc q=>by rw [A0i (A1p q ha (by intro z;cases z))];exact q) λc xs q=>by rw [A0i (A1p q ha (by intro z;cases z))];exact q
def E1b (X:Cx) (t:TS):TS:=λD Z H=>∃a o kvs,H a=some (.frz o (.dK kvs))/\(∀o' u',X.H₀ a≠some (.frz o' u'))/\t D Z (upd H a (.dK kvs))
theorem B5p {t:TS} (h:PSs X sts t):PSs X sts (E1b X t):=by
 intro pins s Z H D I hw;obtain ⟨a,o,kvs,ha,h0,q⟩:=hw;exact h pins s Z _ D (I.thaw ha ⟨kvs,rfl⟩ h0) q
def Itd (a:Addr) (o:Obj) (kvs:List (Key×V)):It :=
 ⟨λi H=>H a=some (.frz o (.dK kvs))/\i<kvs.length,λi H x H'=>H'=H/\∃k v,kvs[i]? =some (k,v)/\x=kV k,λi H=>H a=some (.frz o (.dK kvs))/\i=kvs.length⟩
theorem D6t {k:Key} {u:Value} (h:(A0x P w).is k u=true):A2z (kV k) u:=by
 rcases A2o (show B9c k u=true from h) with ⟨i,t,rfl,rfl⟩ | ⟨x,t,rfl,rfl⟩
 ·exact ⟨t,rfl⟩
 ·exact ⟨t,rfl⟩
theorem KV.at:KV kvs vs->∀{i:Nat} {k:Key} {v:V},kvs[i]? =some (k,v)->∃u,vs[i]? =some (k,u)/\A2z v u:=by
 intro r;unfold KV at r
 induction r with
 | nil=>intro i k v e;simp at e
 | @cons p q ps qs h t ih =>
  intro i k v e
  cases i with
  | zero =>
   simp at e;subst e;obtain ⟨h1,h2⟩:=h;obtain ⟨q1,q2⟩:=q;cases h1;exact i02 q2 rfl h2
  | succ j =>
   obtain ⟨u,e1,e2⟩:=ih (i:=j) (by simpa using e);exact i02 u (by simpa using e1) e2
end
theorem C6d (ok:HOk P w H h) (ha:H a=some (.frz o (.dK kvs))) (ho:o.data= .dict es ep) :
  (a == sysModules)=false/\∃vs,KV kvs vs/\h.DictAt (A0x P w) a vs ep:=by
 obtain ⟨e1,hz,hs,vs,rel,o',es',ep',e2,c,d,r⟩:=(show A1z P w H h a (.frz o (.dK kvs)) from ok a _ ha);rw [e1] at e2;cases e2;rw [ho] at d;cases d;exact i05 hs vs rel (i0m o es e1 c ho r)
theorem C6s (it a:Addr) (o:Obj) (kvs:List (Key×V)) (es:Array DictEntry) (ep:Nat) (ho:o.data= .dict es ep) :
  D2g P w K tg (Itd a o kvs) [it] it (λi h=>h.IsKeyIter it a i kvs.length ep) where
 mem:=by simp
 obj:=λi h st b hb=>by
  have e:b=it:=by simpa using hb
  subst e;obtain ⟨ob,e,_,d⟩:=st;exact i02 ob e λv z=>by rw [d] at z;cases z
 keep:=λi h h' st k=>st.at λob e=>k it (by simp) ob e
 item:=by
  intro X hP hw hK hc i pins s Z H E I hf st hg;subst hP hw hK;obtain ⟨ha,hi⟩:=hg;obtain ⟨f0,f1,f2,f3,f4,f5⟩:=hf it (by simp);obtain ⟨_,vs,rel,dd⟩:=C6d I.hok ha ho;have hl:=rel.length;obtain ⟨⟨k,v⟩,hkv⟩:∃p,kvs[i]? =some p:=⟨kvs[i],by simp [hi]⟩;obtain ⟨u,hu,_⟩:=rel.at hkv;rw [hl] at st;refine wpAny_pyNext_dict_item st dd hu λkey h' hk hit sb=> ?_;have I1:Inv X pins Z H { s with heap:=h',toks:=s.toks }:=I.turned (t':=s.toks) (λb ob hb e=>(sb.2 b hb).trans e) f0 f1 f3 f4 f5
  obtain ⟨ob,e,c,d⟩:=id hit;exact i02 key rfl (C8j (s:={ s with heap:=h' }) e c d (by decide) (i0p (kV k) H I1 (D6t hk) (i0b rfl k v hkv rfl) (by rw [hl];exact hit) λb hb=>(hf b hb).1))
 done:=by
  intro X hP hw hK hc i pins s Z H E I hf st hg;subst hP hw hK;obtain ⟨ha,hi⟩:=hg;obtain ⟨f0,f1,f2,f3,f4,f5⟩:=hf it (by simp);obtain ⟨_,vs,rel,dd⟩:=C6d I.hok ha ho;have hl:=rel.length;rw [hl] at st;exact wpAny_pyNext_dict_end (I.ok.hd hc) st dd (by simp;lia) λh' eb=>⟨rfl,I.turned (t':=s.toks) (λb ob hb e=>eb b ob hb e) f0 f1 f3 f4 f5⟩
 self:=λ_ _ _ _ _ st h=>wpAny_pyIter_keyiter st h
def E1h (tl:TE):TI:=λZ H R=>tl Z H λx H1=>∃a kvs,x= .ref a/\H1 a=some (.dK kvs)/\∀o,R (Itd a o kvs) (upd H1 a (.frz o (.dK kvs)))
theorem B9j {l:Expr} {tl:TE} (hl:PE X l tl):PI X tg l (E1h tl):=by
 intro pins s Z H R I h;refine thn (hl pins s Z H _ I h) ?_;rintro u s1 zz;refine e05 zz ?_;clear zz;rintro x H1 I1 rx ⟨a,kvs,ex,ha,q⟩;subst ex;cases rx;refine e0b (C7r I1.hok ha) ?_;rintro hz hs vs rel o es ep ho ⟨hx,hd,r⟩;have dd:s1.heap.DictAt (A0x X.prog X.w) a vs ep:=(i0m o es ho hx hd r);refine wpAny_pyIter_dict hs dd ?_;have I2:Inv X pins Z H1 { s1 with heap:=s1.heap.push { cls:= .type "dict_keyiterator",data:= .fields #[.ref a,.int 0 0,.int vs.length 0,.int ep 0] },toks:=s1.toks }:=I1.kept λb ob e=>Z01 _ e
 have I3:=I2.frozen ha (Z01 _ ho);refine i12 _ [s1.heap.objs.size] _ _ _ rfl I3 (C6s _ a o kvs es ep hd) ?_ (λb hb=> ?_) (q o)
 ·rw [rel.length];exact i06 _ (Z0c _ rfl) rfl rfl
 ·have e:b=s1.heap.objs.size:=by simpa using hb
  subst e;refine I1.fpOk (Z09 _) ?_;rw [A0i (Z1q (I1.hok.lt ha))];exact I1.hok.fresh (Z09 _)
theorem B5b {tb:TS} {D:C0x} (Pv:Nat->St->Hp->Prop) (h0:Pv 0 Z H) (hl:∀i Z H,Pv i Z H->H a=some (.frz o (.dK kvs)))
  (hs:∀i k v Z H,kvs[i]? =some (k,v)->Pv i Z H->g (kV k) Z H λZ2 H2=>tb { D with nx:=Pv (i+1),ct:=Pv (i+1),bk:=D.nx } Z2 H2) (hd:∀Z H,Pv kvs.length Z H->D.nx Z H) :
  ∃W:Nat->Nat->St->Hp->Prop,(∃m,W 0 m Z H)/\∀i m Z H,W i m Z H->
   ((Itd a o kvs).stop i H/\D.nx Z H)\/((Itd a o kvs).go i H/\∃N:St->Hp->Prop,(∀Z' H',N Z' H'->∃m',m'<m/\W (i+1) m' Z' H')/\∀x H',(Itd a o kvs).yld i H x H'->g x Z H' λZ2 H2=>tb { D with nx:=N,ct:=N,bk:=D.nx } Z2 H2):=by
 refine i02 (λi m Z H=>m=kvs.length-i/\i<=kvs.length/\Pv i Z H) (i06 kvs.length (by simp) (Z1e _) h0) ?_;rintro i m Z H ⟨rfl,hi,p⟩;by_cases hlt:i<kvs.length
 ·refine .inr (i05 ⟨hl i Z H p,hlt⟩ (Pv (i+1)) (λZ' H' p'=>(i0c (kvs.length-(i+1)) (by lia) rfl hlt p')) λx H' y=> ?_);obtain ⟨e,k,v,e1,rfl⟩:=y;subst e;exact hs i k v Z _ e1 p
 ·have e:i=kvs.length:=by lia
  subst e;exact .inl ⟨⟨hl _ Z H p,rfl⟩,hd Z H p⟩
theorem A6j {H2:Hp} (ha:H a=some u) (s:A0s (upd H a (.frz o u)) H2):A0s H (upd H2 a u):=λb v e=>by
 by_cases hb:b=a
 ·subst hb;rw [ha] at e;cases e;exact A0b
 ·rw [A0i hb];exact s b v (by rw [A0i hb];exact e)
theorem B4k:∀{l:List (Key×Value)} {p:Key×Value},(l.map (·.1)).Nodup->p∈l->PySem.valueAt l p.1=some p.2
 | [],_,_,h=>by cases h
 | q::r,p,hn,h=>by
  have hn:(q.1::r.map (·.1)).Nodup:=hn;obtain ⟨n1,n2⟩:=Z15.mp hn;rcases Z0e.mp h with rfl | h
  ·simp [PySem.valueAt]
  ·have hne:¬q.1=p.1:=λe=>n1 (e▸List.mem_map_of_mem h);have:=B4k n2 h
   simpa [PySem.valueAt,Z2h,hne] using this
section
variable {X:Cx}
def D4o (ix:List (Option Nat)) (wi:TI) (g:TG) (tc:TT) (te:TE):TE:=λZ H Q=>wi Z H λJ H1=>∀D,H1 D=none->∃W:Nat->Nat->Hp->Prop,(∃m,W 0 m (upd H1 D (.lst [])))/\∀i m H2,W i m H2->
 (J.stop i H2/\Q (.ref D) H2)\/(J.go i H2/\∃(N:VK) (M:Hp->Prop),(∀y H5,N y H5->∃xs,H5 D=some (.lst xs)/\xs.length<sizeLine/\∃m',m'<m/\W (i+1) m' (upd H5 D (.lst (xs++[y]))))/\(∀H5,M H5->∃m',m'<m/\W (i+1) m' H5)/\∀x H3,J.yld i H2 x H3->g x (A6f ix Z) H3 λZ4 H4=>A3j (A6f ix Z) Z4/\tc Z4 H4 λb H5=>if b=true then te Z4 H5 N else M H5)
def PTs (X:Cx) (cs:List Expr) (t:TT):Prop :=
 ∀(pins:List (Addr×Obj)) (s:Shared) (Z:St) (H:Hp) (Q:Bool->Hp->Prop),Inv X pins Z H s->t Z H Q->wpAny (model X.prog X.w) X.A (forIn cs true λc r=>if r=true then do let ok<-isTrue c X.env (eval c X.env);pure (ForInStep.yield ok) else pure (ForInStep.yield r)) (TP X pins Z Q) X.xe s
theorem D0i {pos:Pos} {tc:TT} (hc:X.calm=true) (ck:C8w X scope cl) (io:C9r X N' scope ix) (hi:PI X tg iter wi)
  (hg:∀C s₀ H₀ fp,PG (blk X N' scope cl C s₀ H₀ fp) tg g) (ht:∀C s₀ H₀ fp,PTs (blk X N' scope cl C s₀ H₀ fp) cs tc) (he:∀C s₀ H₀ fp,PE (blk X N' scope cl C s₀ H₀ fp) elt te) (R:VK->St->It->Hp->Prop) (hR:∀Q Z J H1,R Q Z J H1->∀D,H1 D=none->∃W:Nat->Nat->Hp->Prop,(∃m,W 0 m (upd H1 D (.lst [])))/\∀i m H2,W i m H2->
 (J.stop i H2/\Q (.ref D) H2)\/(J.go i H2/\∃(N:VK) (M:Hp->Prop),(∀y H5,N y H5->∃xs,H5 D=some (.lst xs)/\xs.length<sizeLine/\∃m',m'<m/\W (i+1) m' (upd H5 D (.lst (xs++[y]))))/\(∀H5,M H5->∃m',m'<m/\W (i+1) m' H5)/\∀x H3,J.yld i H2 x H3->g x (A6f ix Z) H3 λZ4 H4=>A3j (A6f ix Z) Z4/\tc Z4 H4 λb H5=>if b=true then te Z4 H5 N else M H5)) (hs:∀x,foldedSetIterable iter X.env x=pure x:=by intro _;rfl) :
  PE X (.ListComp elt [⟨tg,iter,cs,0⟩] scope pos) (λZ H Q=>wi Z H (R Q Z)):=by
 intro pins s Z H Q I h;rw [eval_ListComp];refine wpAny_comprehension_free (use:=none) rfl hs ck.eq ck.kind ck.names (thn (hi pins s Z H _ I h) λxv s1 h1=>thn h1 λitv s2 h2=> ?_);refine e0d h2 ?_;clear h2;rintro it fp tn J H1 rfl I1 T st1 ⟨f1,R1⟩;refine Z16 ?_;have hD:H1 s2.heap.objs.size=none:=I1.hok.fresh (Z09 _);obtain ⟨W,⟨m0,w0⟩,turn⟩:=hR _ _ _ _ R1 _ hD;have hfD:∀b∈fp,b<s2.heap.objs.size:=λb hb=>let ⟨o,e,_⟩:=T.obj _ _ st1 b hb;Z0a e;have I2:Inv X pins Z (upd H1 s2.heap.objs.size (.lst [])) { s2 with heap:=s2.heap.push { cls:= .type "list",data:= .seq ([]:List Value).toArray },toks:=s2.toks }:=I1.lnew (its:=[]) .nil (Z1e _);have f2:∀b∈fp,B8s X pins (upd H1 s2.heap.objs.size (.lst [])) b:=λb hb=>⟨by rw [A0i (Z0h (hfD b hb))];exact (f1 b hb).1,(f1 b hb).2⟩
 have lt2:∀b∈fp,b<(s2.heap.push { cls:= .type "list",data:= .seq ([]:List Value).toArray }).objs.size:=λb hb=>by rw [Z1s];exact Nat.lt_succ_of_lt (hfD b hb)
 refine wpAny_newFunctionEnv ck.ncell (by intro y hy;simp at hy) (λh3 hns sb3=> ?_) ck.kind;dsimp only at hns sb3⊢;have k3:∀b o,(s2.heap.push { cls:= .type "list",data:= .seq ([]:List Value).toArray }).get? b=some o->h3.get? b=some o:=λb o e=>(sb3.2 b (Z0h (Z0a e))).trans (Z01 _ e);generalize hs2:({ s2 with heap:=s2.heap.push { cls:= .type "list",data:= .seq ([]:List Value).toArray },toks:=s2.toks }:Shared)=s3 at I2;have e3:s2.heap.push { cls:= .type "list",data:= .seq ([]:List Value).toArray }=s3.heap:=by rw [<-hs2]
 rw [e3] at hns k3 lt2;have I3:=B7a (N':=N') (ix:=ix) I2 ck io f2 lt2 (h':=h3) (t':=s2.toks+([]:List (Str×Value)).length) hns k3;have e4:({ s3 with heap:=h3,toks:=s2.toks+([]:List (Str×Value)).length }:Shared)={ s2 with heap:=h3,toks:=s2.toks+([]:List (Str×Value)).length }:=by rw [<-hs2]
 rw [e4] at I3;have st3:tn 0 h3:=T.keep _ _ _ st1 λb hb o e=>k3 b o (by rw [<-e3];exact Z01 _ e)
 have loop:∀s4:Shared,s4={ s2 with heap:=h3,toks:=s2.toks+([]:List (Str×Value)).length }->
   codeAny (model X.prog X.w) X.A (.compLoop (.ListComp elt [⟨tg,iter,cs,0⟩] scope pos) 0 (.ref it) (.ref s2.heap.objs.size) (compEnvC scope cl s3.heap.objs.size X.env))
    (compPost (model X.prog X.w) X.A X.xe none (EP X pins Z Q) (.ref s2.heap.objs.size) s3.heap.objs.size) s4:=by
  rintro s4 rfl
  have stat:∀{H':Hp},(∀b∈fp,H' b=none)->∀b∈fp,B8s (blk X N' scope cl s3.heap.objs.size s3 (upd H1 s2.heap.objs.size (.lst [])) fp) [] H' b:=λhn b hb =>
   (i0i (hn b hb) (Z0h (lt2 b hb)) (λhs=>I3.ok.exfs b hb hs) (.inl hb) (λx c e=>(f2 b hb).2.2.2.2.1 x c (ck.sub x c e)) (λp hp=>by cases hp))
  refine codeAny_loop rfl (λn s'=>∃i Z' H',Inv (blk X N' scope cl s3.heap.objs.size s3 (upd H1 s2.heap.objs.size (.lst [])) fp) [] Z' H' s'/\(∀(j:Nat) v,(A6f ix Z)[j]? =some (some v)->Z'[j]? =some (some v))/\tn i s'.heap/\(∀b∈fp,H' b=none)/\W i n H')
   (λn s' hI=> ?_) m0 (i0s 0 _ _ I3 (λ_ _ z=>z) st3 (λb hb=>(f2 b hb).1) w0)
  refine e08 hI ?_;clear hI;rintro i Z5 H5 I5 wk st5 ⟨fr5,w5⟩;show wpAny _ _ ((compTurn (.ListComp elt [⟨tg,iter,cs,0⟩] scope pos) 0 (.ref it) (.ref s2.heap.objs.size) (compEnvC scope cl s3.heap.objs.size X.env)).onRaise (λx=>do noteFrame x (compEnvC scope cl s3.heap.objs.size X.env);theTreesLotGoes x)) _ _ s';refine wpAny_noted ?_;rw [compTurn_list];refine Z00 (Z1y ?_);rcases turn i n H5 w5 with ⟨stop,qn⟩ | ⟨go,NN,MM,hNN,hMM,step⟩
  ·refine Z00 (Z10 (T.done (blk X N' scope cl s3.heap.objs.size s3 (upd H1 s2.heap.objs.size (.lst [])) fp) rfl rfl rfl hc i [] s' Z5 H5 (λ_ _=>False) I5 (stat fr5) st5 stop) (λr s6 h6=> ?_) λ_ _ z=>z.elim);obtain ⟨rfl,I6⟩:=h6;refine Z04 ?_;obtain ⟨mm,hm,_⟩:=id I6.loc;exact i02 mm hm λh' sb=>(i0f (.ref s2.heap.objs.size) H5 (C6a I2 f2 I6 sb) rfl qn)
  ·refine Z00 (Z10 (T.item (blk X N' scope cl s3.heap.objs.size s3 (upd H1 s2.heap.objs.size (.lst [])) fp) rfl rfl rfl hc i [] s' Z5 H5 (λ_ _=>False) I5 (stat fr5) st5 go) (λr s6 h6=> ?_) λ_ _ z=>z.elim);obtain ⟨u,rfl,h6⟩:=h6;refine Z00 (Z10 h6 (λ_ s7 h7=> ?_) λ_ _ z=>z.elim);refine e06 h7 ?_;clear h7;rintro x H7 I7 r7 y7 ⟨st7,fr7⟩;have I7w:Inv (blk X N' scope cl s3.heap.objs.size s3 (upd H1 s2.heap.objs.size (.lst [])) fp) [] (A6f ix Z) H7 s7:=I7.weak (by rw [I7.len];unfold A6f;rw [Z08];exact io.1) wk;have I7p:=I7w.pinned (stat fr7) (T.obj _ _ st7);refine Z00 (Z10 (hg _ _ _ _ _ s7 _ H7 x u _ I7p r7 (step x H7 y7)) (λ_ s8 h8=> ?_) λ_ _ z=>z.elim);obtain ⟨Z8,H8,I8,kp8,q8⟩:=h8
   have back:∀{s10:Shared} {Z10:St} {H10:Hp} {m':Nat},Inv (blk X N' scope cl s3.heap.objs.size s3 (upd H1 s2.heap.objs.size (.lst [])) fp) ([]++B4o fp s7.heap) Z10 H10 s10->(∀(j:Nat) v,(A6f ix Z)[j]? =some (some v)->Z10[j]? =some (some v))->W (i+1) m' H10->
     ∃i Z' H',Inv (blk X N' scope cl s3.heap.objs.size s3 (upd H1 s2.heap.objs.size (.lst [])) fp) [] Z' H' s10/\(∀(j:Nat) v,(A6f ix Z)[j]? =some (some v)->Z'[j]? =some (some v))/\tn i s10.heap/\(∀b∈fp,H' b=none)/\W i m' H':=by
    intro s10 Z10 H10 m' I10 kk w10;refine i0s (i+1) Z10 H10 I10.unpinned kk (T.keep _ _ _ st7 λb hb o e=>(I10.pin (b,o) (Z02 _ (Z02 _ (A5k hb e)))).1) (λb hb=> ?_) w10;obtain ⟨o,e,d⟩:=T.obj _ _ st7 b hb;exact (I10.pin (b,o) (Z02 _ (Z02 _ (A5k hb e)))).2.1
   refine Z00 (Z10 (ht _ _ _ _ _ s8 Z8 H8 _ I8 q8) (λok s9' h9'=> ?_) λ_ _ z=>z.elim);obtain ⟨H9',I9',q9'⟩:=h9'
   cases ok with
   | false =>
    have q9'':MM H9':=by simpa using q9'
    obtain ⟨m',hm',w9⟩:=hMM _ q9'';exact Z00 (Z04 (Z04 (i05 rfl m' hm' (back I9' kp8.get w9))))
   | true =>
    have q9'':te Z8 H9' NN:=by simpa using q9'
    refine Z00 (Z00 (Z10 (he _ _ _ _ _ s9' Z8 H9' _ I9' q9'') (λyv s9 h9=> ?_) λ_ _ z=>z.elim));obtain ⟨y,H9,I9,r9,n9⟩:=h9;obtain ⟨xs,hx9,hz9,m',hm',w9⟩:=hNN _ _ n9;refine Z00 (Z10 (A3o (X:=blk X N' scope cl s3.heap.objs.size s3 (upd H1 s2.heap.objs.size (.lst [])) fp) _ s9 Z8 H9 (.ref s2.heap.objs.size) [y] (.ref s2.heap.objs.size) [yv] (λ_ H'=>W (i+1) m' H') I9 rfl (.cons r9 .nil) (i0s _ xs y rfl rfl hx9 hz9 w9)) (λ_ s10 h10=> ?_) λ_ _ z=>z.elim);obtain ⟨_,H10,I10,_,w10⟩:=h10;exact Z04 (Z04 (i05 rfl m' hm' (back I10 kp8.get w10)))
 have e5:s3.heap.objs.size=(s2.heap.push { cls:= .type "list",data:= .seq ([]:List Value).toArray }).objs.size:=by rw [e3]
 rw [e5] at loop;exact codeAny_compStart_list (loop _ rfl) (T.self X.A 0 _ _ _ st3 (loop _ rfl))
theorem A3h {pos:Pos} (hc:X.calm=true) (ck:C8w X scope cl) (io:C9r X N' scope ix) (hi:PI X tg iter wi)
  (hg:∀C s₀ H₀ fp,PG (blk X N' scope cl C s₀ H₀ fp) tg g) (he:∀C s₀ H₀ fp,PE (blk X N' scope cl C s₀ H₀ fp) elt te) (hs:∀x,foldedSetIterable iter X.env x=pure x:=by intro _;rfl) :
  PE X (.ListComp elt [⟨tg,iter,[],0⟩] scope pos) (D7b ix wi g te) :=
 D0i (tc:=λ_ H Q=>Q true H) hc ck io hi hg (λ_ _ _ _ _ _ _ _ _ I h=>wpAny_tests_nil (i02 _ I h)) he _ (λ_ _ _ _ R D2 hD=>by
  obtain ⟨W,w0,turn⟩:=R D2 hD;refine i02 W w0 λi m H2 w=>(turn i m H2 w).imp id λ⟨go,N,hN,step⟩=>(i0j go N (λ_=>False) hN (λ_ z=>z.elim) ?_)
  simpa using step) hs
end
section
variable {K:Frag} {a D:Addr} {xs:List V} {g:TG} {tc:TT} {te:TE} {QD:Hp->Prop} {Z₀:St} {H:Hp}
theorem C0t (Pv:Nat->List V->Hp->Prop) (h0:Pv 0 [] (upd H D (.lst []))) (hl:∀i ys H,Pv i ys H->SqL K H a xs)
  (hs:∀i x ys H,xs[i]? =some x->Pv i ys H->g x Z₀ H λZ4 H4=>A3j Z₀ Z4/\tc Z4 H4 λb H5=>if b=true then te Z4 H5 (λy H5=>H5 D=some (.lst ys)/\ys.length<sizeLine/\Pv (i+1) (ys++[y]) (upd H5 D (.lst (ys++[y])))) else Pv (i+1) ys H5) (hd:∀ys H,Pv xs.length ys H->QD H) :
  ∃W:Nat->Nat->Hp->Prop,(∃m,W 0 m (upd H D (.lst [])))/\∀i m H2,W i m H2->
   ((Itl K a).stop i H2/\QD H2)\/((Itl K a).go i H2/\∃(N:VK) (M:Hp->Prop),(∀y H5,N y H5->∃xs,H5 D=some (.lst xs)/\xs.length<sizeLine/\∃m',m'<m/\W (i+1) m' (upd H5 D (.lst (xs++[y]))))/\(∀H5,M H5->∃m',m'<m/\W (i+1) m' H5)/\
    ∀x H3,(Itl K a).yld i H2 x H3->g x Z₀ H3 λZ4 H4=>A3j Z₀ Z4/\tc Z4 H4 λb H5=>if b=true then te Z4 H5 N else M H5):=by
 refine i02 (λi m H=>m=xs.length-i/\i<=xs.length/\∃ys,Pv i ys H) (i0d xs.length (by simp) (Z1e _) [] h0) ?_;rintro i m H2 ⟨rfl,hi,ys,p⟩;have q:=hl i ys H2 p;by_cases hlt:i<xs.length
 ·refine .inr (i0j (i07 xs (xs[i]) q (by simp [hlt])) (λy H5=>H5 D=some (.lst ys)/\ys.length<sizeLine/\Pv (i+1) (ys++[y]) (upd H5 D (.lst (ys++[y])))) (λH5=>Pv (i+1) ys H5) (λy H5 n=>(i0u ys n.1 n.2.1 (xs.length-(i+1)) (by lia) rfl hlt _ n.2.2)) (λH5 n=>(i0c (xs.length-(i+1)) (by lia) rfl hlt ⟨_,n⟩)) λx H3 z=> ?_);obtain ⟨e,z⟩:=z;subst e;exact hs i x ys _ (z xs q) p
 ·have e:i=xs.length:=by lia
  subst e;exact .inl ⟨(i02 xs q (Z09 _)),hd ys H2 p⟩
end
section
variable {prog:Program} {w:World} {A:Around} {E:Value->Shared->Prop} {s:Shared}
theorem C2w {v:Addr} {Q:Value->Shared->Prop} (h1:s.heap.IsItemsView v d) (h2:s.heap.get? d=some od) (h3:od.data= .dict es ep)
  (q:Q (.ref s.heap.objs.size) { s with heap:=s.heap.push { cls:= .type "dict_itemiterator",data:= .fields #[.none,.bool false,.ref d,.int 0 0,.int es.size 0,.int ep 0,.none,.none] } }) :
  wpAny (model prog w) A (pyIter (.ref v)) Q E s:=by
 obtain ⟨ov,g1,g2,g3⟩:=id h1;refine wpAny_pyIter_slot h1.typeIs F.slot_dict_items_iter (Z1g F.slot_dict_items_iter h1.typeIs F.entry_dict_items_iter ?_ (F.args_dict_items_iter_1 _));unfold Builtin.«dict_items.__iter__»;refine Z00 (Z04 (Z00 ?_));unfold Builtin.Dict_items.dictOf;refine Z00 (Z11 g1 g3 (x:= .ref d) rfl (Z04 (Z00 ?_)));unfold Builtin.Dict_items.newIterator;refine Z00 (wpAny_dictEntries h2 h3 (Z00 (wpAny_dictEpoch h2 h3 ?_)));simp only [show Builtin.Dict_items.ownsTuple "dict_itemiterator"=true by decide,if_true]
 refine Z16 (Z04 (i0o _ rfl "dict_itemiterator" _ (i02 _ (Z0c _ rfl) rfl) F.slot_dict_itemiterator_next.lookup ?_)) (by
  simp only [sizeOk,Builtin.Dict_items.ownedTupleFields,Z0g,Z06,Z0y,Z2g,sizeLine_eq]
  lia)
 simpa [rawInt,Builtin.Dict_items.ownedTupleFields] using q
theorem C3b {x:Value}
  (h1:IsItemIter s.heap it d i n ep x y) (h2:s.heap.get? d=some od) (h3:od.data= .dict es ep) (h4:es.size=n) (h5:es[i]? =some e)
  (q:∀h',IsItemIterOut h' it d (i+1) n ep e.key e.val s.heap.objs.size->h'.get? s.heap.objs.size=some { cls:= .type "tuple",data:= .seq #[e.key,e.val] }->
   (∀c u,c≠it->s.heap.get? c=some u->h'.get? c=some u)->Q (some (.ref s.heap.objs.size)) { s with heap:=h' }) :
  wpAny (model prog w) A (pyNext (.ref it)) Q E s:=by
 obtain ⟨hp,g,dr,tk,os⟩:=s;have ty:Shared.TypeIs ⟨hp,g,dr,tk,os⟩ (.ref it) "dict_itemiterator":=(i02 _ h1 rfl);unfold pyNext;refine Z00 (wpAny_attempt (Z1b (name:=Str.ofString "__next__") ty F.slot_dict_itemiterator_next (Z1g F.slot_dict_itemiterator_next ty F.entry_dict_itemiterator_next ?_ (F.args_dict_itemiterator_next_1 _))));refine Z00 (Z04 (Z00 (Z00 ?_)));refine Z00 (wpAny_typeNameOfWhole_itemiter ty (Z04 (Z00 (wpAny_fieldsOf h1 rfl ?_))));simp only [show Builtin.Dict_items.ownsTuple "dict_itemiterator"=true by decide,if_true];show wpAny _ _ (ite ((Value.ref d == Value.none)=true) _ _) _ _ _;rw [Z0t (show¬((Value.ref d == Value.none)=true) from Z0v)];refine Z00 (Z04 (Z00 (wpAny_dictEntries h2 h3 ?_)));rw [Z0t (by rw [h4];simp)];refine Z00 (Z04 (Z00 (wpAny_dictEpoch h2 h3 ?_)));rw [Z0t (by simp)];obtain ⟨lt,ee⟩:=Array.getElem?_eq_some_iff.mp h5;refine Z04 ?_;simp only [show¬((i:Int)<0) from by lia,if_false,Int.toNat_natCast,h5];refine Z00 (Z00 (wpAny_typeNameOfWhole_itemiter ty (Z04 (Z00 (wpAny_isOneOf_itemiter ty ?_)))));show wpAny _ _ (setField (.ref it) 3 (rawInt ((i:Int)+1)) >>= _) _ _ (⟨hp,g,dr,tk,os⟩:Shared);refine Z00 (Z1h h1 (by simp) λk1 e1 s1=> ?_)
 replace s1:Heap.SameBut it hp k1:=s1
 replace e1:IsItemIter k1 it d (i+1) n ep x y:=by
  have z:((i+1:Nat):Int)=(i:Int)+1:=by lia
  unfold IsItemIter;rw [z]
  simpa [rawInt] using e1
 have ty1:Shared.TypeIs ⟨k1,g,dr,tk,os⟩ (.ref it) "dict_itemiterator":=(i02 _ e1 rfl);refine Z00 (Z1w (Z00 (wpAny_isOneOf_itemiter ty1 (Z00 (wpAny_isOneOf_itemiter ty1 ?_)))));show wpAny _ _ (Builtin.Dict_items.pairFromOwner (.ref it) 6 e.key e.val) _ _ (⟨k1,g,dr,tk,os⟩:Shared);unfold Builtin.Dict_items.pairFromOwner;refine Z00 (wpAny_newTuple ?_);have z1:k1.objs.size=hp.objs.size:=s1.1;have li:it<hp.objs.size:=Z0a h1;have e2:IsItemIter (k1.push { cls:= .type "tuple",data:= .seq #[e.key,e.val] }) it d (i+1) n ep x y:=Z01 _ e1;have t2:(k1.push { cls:= .type "tuple",data:= .seq #[e.key,e.val] }).get? hp.objs.size=some { cls:= .type "tuple",data:= .seq #[e.key,e.val] }:=by rw [<-z1];exact Z0c _ rfl
 have m2:∀b o,b≠it->hp.get? b=some o->(k1.push { cls:= .type "tuple",data:= .seq #[e.key,e.val] }).get? b=some o:=λb o hb z=>Z01 _ (s1.extBut b o hb z);generalize k1.push { cls:= .type "tuple",data:= .seq #[e.key,e.val] }=k2 at e2 t2 m2;show wpAny _ _ (Builtin.Dict_items.ownedTupleIsFree (.ref it) >>= _) _ _ (⟨k2,g,dr,tk,os⟩:Shared);rw [z1];clear e1 s1 ty1 z1 k1;refine Z00 ?_;unfold Builtin.Dict_items.ownedTupleIsFree;refine Z00 (Z11 e2 rfl (x:= .none) rfl (Z04 ?_));simp only [if_true];refine Z00 (Z11 e2 rfl (x:=x) rfl (Z00 (Z11 e2 rfl (x:=y) rfl (Z00 (Z1h e2 (by simp) λk3 e3 s3=> ?_)))))
 replace s3:Heap.SameBut it k2 k3:=s3
 replace e3:IsItemIter k3 it d (i+1) n ep e.key y:=e3
 refine Z00 (Z1h e3 (by simp) λk4 e4 s4=> ?_)
 replace s4:Heap.SameBut it k3 k4:=s4
 replace e4:IsItemIter k4 it d (i+1) n ep e.key e.val:=e4
 refine Z00 (Z1h e4 (by simp) λk5 e5 s5=> ?_)
 replace s5:Heap.SameBut it k4 k5:=s5
 replace e5:IsItemIterOut k5 it d (i+1) n ep e.key e.val hp.objs.size:=e5
 refine Z00 (Z1h e5 (by simp) λk6 e6 s6=> ?_)
 replace s6:Heap.SameBut it k5 k6:=s6
 replace e6:IsItemIterOut k6 it d (i+1) n ep e.key e.val hp.objs.size:=e6
 have all:∀b o,b≠it->k2.get? b=some o->k6.get? b=some o:=λb o hb z=>s6.extBut b o hb (s5.extBut b o hb (s4.extBut b o hb (s3.extBut b o hb z)));exact Z00 (wpAny_letGo (Z04 (Z04 (i02 _ rfl (Z04 (q k6 e6 (all _ _ (Z1q li) t2) λb o hb z=>all b o hb (m2 b o hb z)))))))
theorem C4v {x:Value} (hh:A.handled=none)
  (h1:IsItemIter s.heap it d i n ep x y) (h2:s.heap.get? d=some od) (h3:od.data= .dict es ep) (h4:es.size=n) (h5:n<=i)
  (q:∀h',Heap.ExtBut it s.heap h'->Q none { s with heap:=h' }):wpAny (model prog w) A (pyNext (.ref it)) Q E s:=by
 have ty:s.TypeIs (.ref it) "dict_itemiterator":=(i02 _ h1 rfl);unfold pyNext;refine Z00 (wpAny_attempt (Z1b (name:=Str.ofString "__next__") ty F.slot_dict_itemiterator_next (Z1g F.slot_dict_itemiterator_next ty F.entry_dict_itemiterator_next ?_ (F.args_dict_itemiterator_next_1 _))));refine Z00 (Z04 (Z00 (Z00 ?_)));refine Z00 (wpAny_typeNameOfWhole_itemiter ty (Z04 (Z00 (wpAny_fieldsOf h1 rfl ?_))));simp only [show Builtin.Dict_items.ownsTuple "dict_itemiterator"=true by decide,if_true];show wpAny _ _ (ite ((Value.ref d == Value.none)=true) _ _) _ _ _;rw [Z0t (show¬((Value.ref d == Value.none)=true) from Z0v)];refine Z00 (Z04 (Z00 (wpAny_dictEntries h2 h3 ?_)));rw [Z0t (by rw [h4];simp)];refine Z00 (Z04 (Z00 (wpAny_dictEpoch h2 h3 ?_)));rw [Z0t (by simp)];refine Z04 ?_;simp only [show¬((i:Int)<0) from by lia,if_false,Int.toNat_natCast,Array.getElem?_eq_none (show es.size<=i by lia)];refine Z00 (Z00 (wpAny_typeNameOfWhole_itemiter ty (Z04 ?_)));show wpAny _ _ (setField (.ref it) 2 .none >>= _) _ _ _;refine Z00 (Z1t h1 rfl (by simp) ?_);show wpAny _ _ (newExc (.type "StopIteration") [] >>= _) _ _ (_:Shared);refine Z00 ?_;simp only [newExc,newTuple];refine Z00 (Z16 (Z00 (m:=firstArgMember _ _) (wpAny_of_eq (a:=Value.none) (by first | rfl | (simp only [firstArgMember];rfl)) (Z16 ?_ (by size_fits)))) (by size_fits));simp only [raiseNew];refine Z00 (wpAny_handled ?_);rw [show A.in1.handled=none from hh];refine Z00 (Z04 (wpAny_throw ?_));refine Z00 (wpAny_isInstance (T:="StopIteration") (b:=true) (i02 _ (Z0c _ rfl) rfl) isSubtype_stop (Z04 ?_));exact q _ (((Heap.SameBut.update ..).extBut.push _).push _)
theorem C0r:entryFor table "dict_itemiterator.__iter__"=some Builtin.«dict_keyiterator.__iter__»:=entryFor_alias (id':="dict_keyiterator.__iter__") (by kernel_rfl) rfl (by decide +kernel) (by kernel_rfl)
theorem C4d {x:Value} {Q:Value->Shared->Prop} (st:IsItemIter s.heap it d i n ep x y) (h:Q (.ref it) s):wpAny (model prog w) A (pyIter (.ref it)) Q E s:=by
 have ty:s.TypeIs (.ref it) "dict_itemiterator":=(i02 _ st rfl);refine wpAny_pyIter_slot ty F.slot_dict_itemiterator_iter (Z1g F.slot_dict_itemiterator_iter ty C0r ?_ (F.args_dict_itemiterator_iter_1 _));show wpAny _ _ (ret (.ref it)) _ _ s;exact Z04 (i0o _ rfl "dict_itemiterator" _ ty F.slot_dict_itemiterator_next.lookup h)
theorem C3a (d:Addr) (hd:(d == sysModules)=false) :
  MeetsIn prog w (Builtin.«dict.items» ⟨[.ref d],[]⟩) (λ_ R s=>s.TypeIs (.ref d) "dict"/\R (.ok (.ret (.ref s.heap.objs.size))) { s with heap:=s.heap.push { cls:= .type "dict_items",data:= .fields #[.ref d] } }) :=
 .of_wp λA R s ⟨ty,q⟩=>by
  unfold Builtin.«dict.items»;refine Z00 ?_;unfold Builtin.Dict.noArgs;refine Z00 (wpAny_notOrdered_dict ty ?_);show wpAny _ _ (pure d) _ _ s;refine Z04 ?_;show wpAny _ _ (Builtin.Dict.showsAll d >>= _) _ _ s;unfold Builtin.Dict.showsAll;rw [Z0t (by rw [hd];exact Z0v)];exact Z00 (Z04 (Z00 (Z16 (Z04 (i02 _ rfl q)))))
end
section
variable {X:Cx}
def isD (u:HO):Prop:=(∃kvs,u= .dK kvs)\/∃kvs,u= .dT kvs
def B8m (v d:Addr):HO:= .ext λh=>h.IsItemsView v d
theorem D1g {v:Addr} (e:h.IsItemsView v d):A1z P w H h v (B8m v d) :=
 (i00 e (let ⟨o,e1,_⟩:=e;⟨o,e1⟩) (by rintro h1 h2 ⟨o,e1,e2⟩ k;exact i02 o (k o e1) e2))
theorem D4r (hu:isD u) (x:A1z P w H h a u):(a == sysModules)=false/\∃o es ep,h.get? a=some o/\o.ExactDict/\o.data= .dict es ep:=by
 rcases hu with ⟨kvs,rfl⟩ | ⟨kvs,rfl⟩
 ·refine e0b x ?_;clear x;rintro hz hs vs rel o es ep ho ⟨hx,hd,r⟩;exact ⟨hs,(i0n o es ep ho hx hd)⟩
 ·refine e0b x ?_;clear x;rintro hz hs vs rel o es ep ho ⟨hx,hd,r⟩;exact ⟨hs,(i0n o es ep ho hx hd)⟩
def D8q:V->List V->Hp->VK->Prop:=λx vs H Q=>∃a u,x= .ref a/\vs=[]/\H a=some u/\isD u/\∀p,H p=none->Q (.ref p) (upd H p (B8m p a))
theorem B6k:MtR X "dict.items" D8q:=by
 intro pins s Z H x xs v us Q I rx rv h;refine e06 h ?_;clear h;rintro a u rfl rfl ha ⟨hu,q⟩;cases rx;cases rv;obtain ⟨hs,o,es,ep,ho,hx,hd⟩:=D4r hu (I.hok a u ha);have ty:s.TypeIs (.ref a) "dict":=(i02 o ho hx.1);refine call_meetsIn PySem.F.slot_dict_items ty PySem.F.entry_dict_items (PySem.F.args_dict_items_1 _) (C3a a hs) ⟨ty,?_⟩;exact i0f (.ref s.heap.objs.size) _ (I.laid (t':=s.toks) (o:=B8m s.heap.objs.size a) (λb u e=>Z01 _ e) (Z09 _) (D1g (i06 _ (Z0c _ rfl) rfl rfl))) rfl (q _ (I.hok.fresh (Z09 _)))
theorem Inv.frozenD (I:Inv X pins Z H s) (ha:H a=some u) (hu:isD u) (ho:s.heap.get? a=some o):Inv X pins Z (upd H a (.frz o u)) s:=by
 have nt:∀b xs,H b=some (.tup xs)->upd H a (.frz o u) b=some (.tup xs):=λb xs q=>by
  rw [A0i (A1p q ha (by rcases hu with ⟨_,rfl⟩ | ⟨_,rfl⟩ <;> intro z <;> cases z))];exact q
 have no:∀b,H b=some (.own a)->upd H a (.frz o u) b=some (.own a):=λb q=>by
  rw [A0i (A1p q ha (by rcases hu with ⟨_,rfl⟩ | ⟨_,rfl⟩ <;> intro z <;> cases z))];exact q
 have new:A1z X.prog X.w (upd H a (.frz o u)) s.heap a (.frz o u):=⟨ho,(I.hok a u ha).stay (λ_ _ _ q=>q) no nt⟩;exact I.write (t':=s.toks) (h':=s.heap) (e:=a) (by rw [ha];rcases hu with ⟨_,rfl⟩ | ⟨_,rfl⟩ <;> trivial) (.inl rfl) (λ_ _ _ e=>e) ⟨o,ho⟩ new
theorem Inv.thawD (I:Inv X pins Z H s) (ha:H a=some (.frz o u)) (hu:isD u) (h0:∀o' u',X.H₀ a≠some (.frz o' u')):Inv X pins Z (upd H a u) s:=by
 have nf:∀b,H b=none->upd H a u b=none:=λb e=>by rw [A0i (λz=>by subst z;rw [ha] at e;cases e)];exact e
 have nt:∀b xs,H b=some (.tup xs)->upd H a u b=some (.tup xs):=λb xs q=>by rw [A0i (A1p q ha (by intro z;cases z))];exact q
 have no:∀b c,H b=some (.own c)->upd H a u b=some (.own c):=λb c q=>by rw [A0i (A1p q ha (by intro z;cases z))];exact q
 refine ⟨I.ok,I.os,I.bare,⟨I.base.keep,I.base.slot,λb ob e n hx=>nf b (I.base.free b ob e n hx),I.base.there,λb xs e=>nt b xs (I.base.tups b xs e),λb ob u' e=> ?_,λb ps e=> ?_⟩,I.loc,I.cell,nf _ I.free,λx c e=>nf _ (I.freeC x c e),
  λp hp=>(i00 ((I.pin p hp).1) (nf _ (I.pin p hp).2.1) ((I.pin p hp).2.2)),λb v e=> ?_,I.len⟩
 ·have q:=I.base.frzs b ob u' e;rw [A0i (λz=>by subst z;exact h0 _ _ e)];exact q
 ·obtain ⟨more,q⟩:=I.base.tbls b ps e;exact ⟨more,by rw [A0i (A1p q ha (by intro z;cases z))];exact q⟩
 ·by_cases hb:b=a
  ·subst hb;rw [A0b] at e;cases e;obtain ⟨_,q⟩:=(show A1z X.prog X.w H s.heap b (.frz o u) from I.hok b _ ha);exact q.stay (λ_ _ _ q=>q) (λc q=>no c b q) λc xs q=>nt c xs q
  ·rw [A0i hb] at e;exact (I.hok b v e).stay (λ_ _ _ q=>q) (λc q=>no c b q) λc xs q=>nt c xs q
def D7o (X:Cx) (t:TS):TS:=λD Z H=>∃a o u,H a=some (.frz o u)/\isD u/\(∀o' u',X.H₀ a≠some (.frz o' u'))/\t D Z (upd H a u)
theorem B2b {t:TS} (h:PSs X sts t):PSs X sts (D7o X t):=by
 intro pins s Z H D I hw;refine e08 hw λa o u ha hu h0 q=>?_;clear hw;exact h pins s Z _ D (I.thawD ha hu h0) q
abbrev D9s (es:Array DictEntry) (L:List (V×V)):Prop:=Paired (λ(e:DictEntry) (p:V×V)=>A2z p.1 e.key/\A2z p.2 e.val) es.toList L
def Iti (a:Addr) (o:Obj) (u:HO) (L:List (V×V)):It :=
 ⟨λi H=>H a=some (.frz o u)/\i<L.length,λi H x H'=>∃k v p,L[i]? =some (k,v)/\H p=none/\x= .ref p/\H'=upd H p (.tup [k,v]),λi H=>H a=some (.frz o u)/\i=L.length⟩
theorem A9q {α β:Type} {F:α->β->Prop}:∀{l:List α} {m:List β},Paired F l m->l.length=m.length
 | _,_,.nil=>rfl
 | _,_,.cons _ t=>by simp [A9q t]
theorem A5o {α β:Type} {F:α->β->Prop}:∀{l:List α} {m:List β},Paired F l m->∀{i:Nat} {y:β},m[i]? =some y->∃x,l[i]? =some x/\F x y
 | _,_,.nil,i,y,e=>by simp at e
 | _,_,.cons r t,0,y,e=>by simp at e;subst e;exact i02 _ rfl r
 | _,_,.cons r t,i+1,y,e=>by
  obtain ⟨x,e1,e2⟩:=A5o t (i:=i) (by simpa using e);exact i02 x (by simpa using e1) e2
theorem C4g {pos:Pos} (it a:Addr) (o:Obj) (u:HO) (L:List (V×V)) (es:Array DictEntry) (ep:Nat) (ho:o.data= .dict es ep) (rl:D9s es L) :
  D2g P w K (.Tuple elts kk pos) (Iti a o u L) [it] it (λi h=>∃x y,IsItemIter h it a i es.size ep x y) where
 mem:=by simp
 obj:=λi h st b hb=>by
  have e:b=it:=by simpa using hb
  subst e;obtain ⟨x,y,e⟩:=st;exact i02 _ e λv z=>by cases (show Data.fields _=Data.cell v from z)
 keep:=λi h h' st k=>let ⟨x,y,e⟩:=st;(i03 x y (k it (by simp) _ e))
 item:=by
  intro X hP hw hK hc i pins s Z H E I hf st hg;subst hP hw hK;obtain ⟨ha,hi⟩:=hg;obtain ⟨x,y,st⟩:=st;have hl:es.size=L.length:=by have:=A9q rl;simpa using this
  obtain ⟨⟨k,v⟩,hkv⟩:∃p,L[i]? =some p:=⟨L[i],by simp [hi]⟩;obtain ⟨e,he,r1,r2⟩:=A5o rl hkv;obtain ⟨hob,_⟩:=(show A1z X.prog X.w H s.heap a (.frz o u) from I.hok a _ ha);refine C3b st hob ho rfl (e:=e) (by simpa using he) λh' z1 z2 kp=> ?_;refine i02 _ rfl (wpAny_letOwnedTupleGo_items (s:={ s with heap:=h' }) z1 λg zg sb=> ?_)
  have nz:s.heap.objs.size≠it:=Z1q (Z0a st)
  have I1:Inv X pins Z (upd H s.heap.objs.size (.tup [k,v])) { s with heap:=g,toks:=s.toks }:=I.turnedNew (ts:=[it]) (λc o hc e=>by
   have hc':c≠it:=by simpa using hc
   exact sb.extBut _ _ hc' (kp c o hc' e)) hf (Z09 _) (i05 (by show 2<=sizeLine;decide) [e.key,e.val] (.cons r1 (.cons r2 .nil)) (i0d _ (sb.extBut _ _ nz z2) rfl _ rfl))
  refine i0p (.ref s.heap.objs.size) _ I1 rfl (i0q k v _ hkv (I.hok.fresh (Z09 _)) rfl rfl) (i03 _ _ zg) λc hc=> ?_;have hcn:c=it:=by simpa using hc
  subst hcn;rw [A0i nz.symm];exact (hf c hc).1
 done:=by
  intro X hP hw hK hc i pins s Z H E I hf st hg;subst hP hw hK;obtain ⟨ha,hi⟩:=hg;obtain ⟨x,y,st⟩:=st;have hl:es.size=L.length:=by have:=A9q rl;simpa using this
  obtain ⟨hob,_⟩:=(show A1z X.prog X.w H s.heap a (.frz o u) from I.hok a _ ha);obtain ⟨f0,f1,f2,f3,f4,f5⟩:=hf it (by simp);exact C4v (I.ok.hd hc) st hob ho rfl (by lia) λh' eb=>⟨rfl,I.turned (t':=s.toks) (λb ob hb e=>eb b ob hb e) f0 f1 f3 f4 f5⟩
 self:=λ_ _ s _ _ st h=>by
  obtain ⟨x,y,st⟩:=st;exact C4d st h
end
section
abbrev KL (H:Hp) (kvs:List (List Key×V)) (L:List (V×V)):Prop:=Paired (λ(p:List Key×V) (q:V×V)=>∃b,q.1= .ref b/\H b=some (.tup (p.1.map kV))/\q.2=p.2) kvs L
theorem B7o {α β:Type} {F:α->β->Prop}:∀{l:List α} {m:List β},l.length=m.length->(∀(i:Nat) (x:α) (y:β),l[i]? =some x->m[i]? =some y->F x y)->Paired F l m
 | [],[],_,_=> .nil
 | [],_::_,e,_=>by simp at e
 | _::_,[],e,_=>by simp at e
 | x::l,y::m,e,h=> .cons (h 0 x y rfl rfl) (B7o (by simpa using e) λi a b p q=>h (i+1) a b (by simpa using p) (by simpa using q))
theorem D7f (r:KV kvs vs) (p:Pairs (A0x P w) es.toList vs):D9s es (kvs.map λq=>(kV q.1,q.2)):=by
 refine B7o (by rw [p.length,Z08];exact r.length.symm) λi e y he hy=> ?_;rw [Z1z] at hy;obtain ⟨⟨k,v⟩,hk,rfl⟩:=Z0i.mp hy;obtain ⟨u,hu,ru⟩:=r.at hk;obtain ⟨h1,h2⟩:=p.get? he hu;subst h2;exact ⟨D6t h1,ru⟩
theorem D1r {P:Program} {w:World} {H:Hp}:∀{kvs:List (List Key×V)} {xs:List (List Key×Addr×Value)},KT H kvs xs->
  ∃L,Paired (λ(e:DictEntry) (p:V×V)=>A2z p.1 e.key/\A2z p.2 e.val) (xs.map (entryOfKey (tupleKind (A0x P w)))) L/\KL H kvs L
 | _,_,.nil=>(i02 [] .nil .nil)
 | _,_,@Paired.cons _ _ _ p q _ _ h t=>by
  obtain ⟨L,h1,h2⟩:=D1r (P:=P) (w:=w) t;exact i02 ((.ref q.2.1,p.2)::L) (.cons ⟨rfl,h.2.2⟩ h1) (.cons (i06 q.2.1 rfl h.2.1 rfl) h2)
def D9m (tl:TE):TI:=λZ H R=>tl Z H λx H1=>∃v a u,x= .ref v/\H1 v=some (B8m v a)/\H1 a=some u/\
 ((∃kvs,u= .dK kvs/\∀o,R (Iti a o u (kvs.map λq=>(kV q.1,q.2))) (upd H1 a (.frz o u)))\/∃kvs,u= .dT kvs/\∀o L,KL H1 kvs L->R (Iti a o u L) (upd H1 a (.frz o u)))
theorem B4s {l:Expr} {tl:TE} {pos:Pos} (hl:PE X l tl):PI X (.Tuple elts kk pos) l (D9m tl):=by
 intro pins s Z H R I h;refine thn (hl pins s Z H _ I h) ?_;rintro y s1 zz;refine e0a zz ?_;clear zz;rintro x H1 I1 rx v a u ⟨ex,hv,ha,q⟩;subst ex;cases rx;obtain ⟨vw,_⟩:=(show A1z X.prog X.w H1 s1.heap v (B8m v a) from I1.hok v _ hv)
 have go:∀(o:Obj) (es:Array DictEntry) (ep:Nat) (L:List (V×V)),s1.heap.get? a=some o->o.data= .dict es ep->isD u->D9s es L->R (Iti a o u L) (upd H1 a (.frz o u))->
   wpAny (model X.prog X.w) X.A (pyIter (.ref v)) (PIE X pins Z (.Tuple elts kk pos) R) X.xe s1:=by
  intro o es ep L ho hd hu rl qq;refine C2w vw ho hd ?_;have I2:Inv X pins Z H1 { s1 with heap:=s1.heap.push { cls:= .type "dict_itemiterator",data:= .fields #[.none,.bool false,.ref a,.int 0 0,.int es.size 0,.int ep 0,.none,.none] },toks:=s1.toks }:=I1.kept λb ob e=>Z01 _ e
  have I3:=I2.frozenD ha hu (Z01 _ ho);refine i12 _ [s1.heap.objs.size] _ _ _ rfl I3 (C4g _ a o u L es ep hd rl) (i03 .none .none (Z0c _ rfl)) (λb hb=> ?_) qq;have e:b=s1.heap.objs.size:=by simpa using hb
  subst e;refine I1.fpOk (Z09 _) ?_;rw [A0i (Z1q (I1.hok.lt ha))];exact I1.hok.fresh (Z09 _)
 rcases q with ⟨kvs,rfl,q⟩ | ⟨kvs,rfl,q⟩
 ·refine e0b (C7r I1.hok ha) ?_;rintro hz hs vs rel o es ep ho ⟨hx,hd,_,r,_⟩;exact go o es ep _ ho hd (.inl ⟨_,rfl⟩) (D7f rel r) (q o)
 ·refine e0b (show A1z X.prog X.w H1 s1.heap a (.dT kvs) from I1.hok a _ ha) ?_;rintro hz hs xs rel o es ep ho ⟨hx,hd,he,_⟩;obtain ⟨L,h1,h2⟩:=D1r (P:=X.prog) (w:=X.w) rel;exact go o es ep L ho hd (.inr ⟨_,rfl⟩) (by unfold D9s;rw [he];exact h1) (q o L h2)
theorem B1s {L:List (V×V)} {tb:TS} {D:C0x} (Pv:Nat->St->Hp->Prop) (h0:Pv 0 Z H) (hl:∀i Z H,Pv i Z H->H a=some (.frz o u))
  (hs:∀i k v p Z H,L[i]? =some (k,v)->H p=none->Pv i Z H->g (.ref p) Z (upd H p (.tup [k,v])) λZ2 H2=>tb { D with nx:=Pv (i+1),ct:=Pv (i+1),bk:=D.nx } Z2 H2) (hd:∀Z H,Pv L.length Z H->D.nx Z H) :
  ∃W:Nat->Nat->St->Hp->Prop,(∃m,W 0 m Z H)/\∀i m Z H,W i m Z H->
   ((Iti a o u L).stop i H/\D.nx Z H)\/((Iti a o u L).go i H/\∃N:St->Hp->Prop,(∀Z' H',N Z' H'->∃m',m'<m/\W (i+1) m' Z' H')/\∀x H',(Iti a o u L).yld i H x H'->g x Z H' λZ2 H2=>tb { D with nx:=N,ct:=N,bk:=D.nx } Z2 H2):=by
 refine i02 (λi m Z H=>m=L.length-i/\i<=L.length/\Pv i Z H) (i06 L.length (by simp) (Z1e _) h0) ?_;rintro i m Z H ⟨rfl,hi,p⟩;by_cases hlt:i<L.length
 ·refine .inr (i05 ⟨hl i Z H p,hlt⟩ (Pv (i+1)) (λZ' H' p'=>(i0c (L.length-(i+1)) (by lia) rfl hlt p')) λx H' y=> ?_);refine e08 y ?_;clear y;rintro k v q e1 e2 rfl rfl;exact hs i k v q Z _ e1 e2 p
 ·have e:i=L.length:=by lia
  subst e;exact .inl ⟨⟨hl _ Z H p,rfl⟩,hd Z H p⟩
end
section
variable {X:Cx}
def D8r (H:Hp):Prop:=(∀a kvs,H a=some (.dK kvs)->(kvs.map (·.1)).Nodup)/\∀a kvs,H a=some (.dT kvs)->(kvs.map (·.1)).Nodup
theorem D4p (r:KV kvs vs):kvs.map (·.1)=vs.map (·.1):=by
 unfold KV at r
 induction r with
 | nil=>rfl
 | cons h t ih=>rw [Z0p,Z0p,ih,h.1]
theorem D5h {kvs:List (List Key×V)} {xs:List (List Key×Addr×Value)} (r:KT H kvs xs):kvs.map (·.1)=xs.map (·.1):=by
 induction r with
 | nil=>rfl
 | cons h t ih=>rw [Z0p,Z0p,ih,h.1]
theorem Inv.apart (I:Inv X pins Z H s):D8r H:=by
 refine ⟨λa kvs e=> ?_,λa kvs e=> ?_⟩
 ·refine e0b (C7r I.hok e) ?_;rintro _ _ vs rel o es ep _ ⟨_,_,_,_,n⟩;rw [D4p rel];exact n
 ·refine e0b (show A1z X.prog X.w H s.heap a (.dT kvs) from I.hok a _ e) ?_;rintro _ _ xs rel o es ep _ ⟨_,_,_,n⟩;rw [D5h rel];exact n
theorem D0y {t:TS} (h:PSs X sts t):PSs X sts (λD Z H=>D8r H->t D Z H):=λpins s Z H D I q=>h pins s Z H D I (q I.apart)
theorem B6j {κ:Type} [DecidableEq κ] {kvs:List (κ×V)} {k:κ} (n:(kvs.map (·.1)).Nodup) (h:kvs[i]? =some (k,v)) (ws:List (κ×V)) (e:ws.map (·.1)=(kvs.take i).map (·.1)) (u:V):A4l ws k u=ws++[(k,u)]:=by
 unfold A4l;rw [Z0t];intro a;obtain ⟨p,hp,ek⟩:=List.any_eq_true.mp a;have ek:p.1=k:=by simpa using ek
 have hm:k∈ws.map (·.1):=Z2c.mpr (i02 p hp ek);rw [e] at hm;obtain ⟨q,hq,eq⟩:=Z2c.mp hm;obtain ⟨j,hj,ej⟩:=List.mem_iff_getElem.mp hq;have hji:j<i:=by have:=List.length_take_le i kvs;lia
 rw [List.getElem_take] at ej;obtain ⟨hi,ei⟩:=Z03.mp h;have hjl:j<kvs.length:=by lia
 have h1:(kvs.map λx=>x.1)[j]? =some k:=by rw [Z1z,Z0b hjl,ej];exact congrArg some eq
 have h2:(kvs.map λx=>x.1)[i]? =some k:=by rw [Z1z,h];rfl
 obtain ⟨l1,e1⟩:=Z03.mp h1;obtain ⟨l2,e2⟩:=Z03.mp h2;have:j=i:=(List.getElem_inj n).mp (e1.trans e2.symm)
 lia
end
theorem C6f:typeLookup (.type "list") "keys"=pure none:=by rw [typeLookup_type,builtinLookup_eq_fast];kernel_rfl
theorem A4u:entryFor table "dict.update.loop"=some Builtin.«dict.update.loop»:=entryFor_of_tree (by kernel_rfl)
theorem A2f:plainId "dict.update.loop"=true:=by decide +kernel
theorem C4u {k:Nat}
  (hx:s.heap.get? a=some o) (hc:o.cls= .type "list") (hdat:o.data= .seq xs k) (hd:o.dict=none) (hA:A.handled=none)
  (h:∀h' tk,(∀b ob,s.heap.get? b=some ob->h'.get? b=some ob)->Q none { s with heap:=h',toks:=tk }):wpAny (model prog w) A (getAttr? (.ref a) "keys") Q E s:=by
 obtain ⟨c,dct,dat,sl⟩:=o;simp only at hc hdat hd;subst hc hdat hd;obtain ⟨hp,g,d,tk,os⟩:=s;have hT:∀tk',(⟨hp,g,d,tk',os⟩:Shared).TypeIs (.ref a) "list":=λ_=>(i02 _ hx rfl);have f1:=sub_AttributeError;have f3:=F.slot_list_getattribute.lookup;have f4:=F.slot_list_getattribute.bind (.ref a);have f5:=am_list_getattr_none;unfold getAttr? getAttrBy? getAttrBy
 repeat (any_goals (first | assumption | exact hT _ | ((with_reducible show wpAny _ _ (call (Value.builtin "list.__getattribute__") _ _) _ _ _);refine call_meets F.slot_list_getattribute (hT _) am_entry_list_getattribute (F.args_list_getattribute_2 _ _) (meets_getattribute_miss_list a xs k sl "keys" _ C6f (by decide) (by decide)) (i00 hx hA λh' tk' e hx'=> ?_)) | wp_step))
 obtain ⟨t',u',he⟩:=hx'.there;show wpAny _ _ (getattributeRaised _ _ _ _ _ _ _) _ _ _;unfold getattributeRaised
 repeat (any_goals (first | assumption | wp_step))
 all_goals exact h _ _ hx'.1
section
variable {prog:Program} {w:World} {K:Type} [DecidableEq K] {knd:KeyKind prog w K} {A:Around} {R:Result->Shared->Prop} {I l d:Addr} {items:Array Value} {rs:List (K×Value)} {h₀:Heap} {g:Array GenState} {dr:Drawn} {os:OsState}
def D2u (knd:KeyKind prog w K) (h:Heap) (I d:Addr) (items:Array Value) (rs:List (K×Value)):Prop:=items.size=rs.length/\∀(i:Nat) (v:Value) (k:K) (u:Value),items[i]? =some v->rs[i]? =some (k,u)->
 ∃(b:Addr) (o:Obj) (n:Nat) (kv:Value),v= .ref b/\b≠I/\b≠d/\h.get? b=some o/\o.cls= .type "tuple"/\o.data= .seq #[kv,u] n/\knd.is k kv=true
theorem D1l (hh:A.handled=none) (hne:l≠I) (hdI:d≠I) (hdl:d≠l) (hsz:rs.length<=sizeLine) (pa:D2u knd h₀ I d items rs) (hl:h₀.IsList l items)
  (fin:∀h' tk,h'.DictOf knd d (merged [] rs)->(∀b o,b≠I->b≠d->h₀.get? b=some o->h'.get? b=some o)->R (.ok (.ret .none)) ⟨h',g,dr,tk,os⟩) :
  ∀(k i:Nat) (h:Heap) (tk:Nat),rs.length-i=k->i<=rs.length->h.IsListIter I l i->(∀b o,b≠I->b≠d->h₀.get? b=some o->h.get? b=some o)->h.DictOf knd d (merged [] (rs.take i))->
   codeAny (model prog w) A (.builtin "dict.update.loop" ⟨[.ref d,.ref I,rawInt i,.none],[]⟩) R ⟨h,g,dr,tk,os⟩:=by
 have W:=Walks.list (prog:=prog) (w:=w) (A:=A.in1) hh I l hne items;intro k
 induction k with
 | zero =>
  intro i h tk hk hi hit kp hD;have hin:i=items.size:=by have:=pa.1;lia
  have hin':i=rs.length:=by lia
  refine codeAny_builtin A4u ?_;rw [Around.under_plainId A2f _];show wpAny _ A.in1 (pyNext (.ref I) >>= _) _ _ _;refine Z00 (W.done ⟨h,g,dr,tk,os⟩ _ _ (by rw [<-hin];exact ⟨hit,hl.at λo e=>kp l o hne (Ne.symm hdl) e⟩) λh' tk' kp'=> ?_);show wpAny _ A.in1 (Builtin.Dict.addKeywords d [] >>= λ_=>ret Value.none) _ _ _;rw [hin',Z18] at hD;obtain ⟨od,es,ep,ho,r⟩:=hD;refine Z00 (Z04 (Z04 (fin h' tk' (i0g od es ep (kp' d od (by simpa using hdI) ho) r) λb o h1 h2 e=>kp' b o (by simpa using h1) (kp b o h1 h2 e))))
 | succ k ih =>
  intro i h tk hk hi hit kp hD;have hlt:i<items.size:=by have:=pa.1;lia
  refine codeAny_builtin A4u ?_;rw [Around.under_plainId A2f _];show wpAny _ A.in1 (pyNext (.ref I) >>= _) _ _ _;refine Z00 (W.item i ⟨h,g,dr,tk,os⟩ _ _ hlt ⟨hit,hl.at λo e=>kp l o hne (Ne.symm hdl) e⟩ λv h' tk' hv hst' kp'=> ?_);obtain ⟨⟨k',u⟩,hku⟩:∃p,rs[i]? =some p:=⟨rs[i]'(by have:=pa.1;lia),Z0b _⟩;refine e0c (pa.2 i v k' u hv hku) ?_;rintro b o n kv rfl hbI hbd hb ⟨hcl,hdat,his⟩;have hb':h'.get? b=some o:=kp' b o (by simpa using hbI) (kp b o hbI hbd hb);have hT:(⟨h',g,dr,tk',os⟩:Shared).TypeIs (.ref b) "tuple":=(i02 _ hb' hcl);show wpAny _ A.in1 (holding [Value.ref b] _ >>= _) _ _ _;refine Z00 (Z1w (Z00 (wpAny_tryCatch ?_)));unfold Builtin.Dict.pairItems;refine Z00 (wpAny_typeOf hT ?_);rw [Z12 (by decide)];refine Z00 (Z21 hb' hdat (Z04 ?_));show wpAny _ A.in1 (holding [kv,u] (dictSet d kv u)) _ _ _
  have hD':h'.DictOf knd d (merged [] (rs.take i)):=by
   obtain ⟨od,es,ep,ho,r⟩:=hD;exact i0g od es ep (kp' d od (by simpa using hdI) ho) r
  have hlen:(merged [] (rs.take i)).length<=sizeLine:=by
   have e1:=merged_length_le ([]:List (K×Value)) (rs.take i);have e2:(rs.take i).length<=rs.length:=by rw [Z0x];lia
   simp only [Z2g,Nat.zero_add] at e1
   lia
  refine Z1w (wpAny_dictSet_pairs (hsz:=hlen) (s:=⟨h',g,dr,tk',os⟩) his hD' λh2 hD2 sb=> ?_);rw [<-merged_take_succ [] rs i (k',u) hku] at hD2;refine Z04 ⟨plainId_quiet A2f _,ih (i+1) h2 _ (by lia) (by have:=pa.1;lia) ?_ ?_ hD2⟩
  ·exact hst'.1.at λo e=>(sb.2 I (Ne.symm hdI)).trans e
  ·intro c oc h1 h2' e;exact (sb.2 c h2').trans (kp' c oc (by simpa using h1) (kp c oc h1 h2' e))
end
def B2o (env:Env):List (Str×Addr)->Prop
 | []=>True
 | p::r=>env.cells.lookup p.1=some p.2/\B2o env r
theorem B2o.get {env:Env}:∀{cl:List (Str×Addr)},B2o env cl->∀{x:Str} {c:Addr},cl.lookup x=some c->env.cells.lookup x=some c
 | [],_,_,_,h=>by cases h
 | (y,d)::r,h,x,c,e=>by
  rw [Z28] at e;split at e
  ·rename_i hb;have hb':x=y:=by simpa using hb
   cases e
   subst hb';exact h.1
  ·exact B2o.get h.2 e
theorem A9m {x:Str}:∀{cl:List (Str×Addr)},x∈cl.map (·.1)->∃c,cl.lookup x=some c
 | [],h=>by cases h
 | (y,d)::r,h=>by
  rw [Z28]
  cases hb:(x == y) with
  | true=>exact ⟨d,rfl⟩
  | false =>
   have hne:x≠y:=by simpa using hb
   rcases Z0e.mp h with e | e
   ·exact absurd e hne
   ·exact A9m e
theorem C7a {xs:List Str} (he:closureFor scope X.env=pure cl) (hc:B2o X.env cl) (hx:cl.map (·.1)=xs) (hk:scope.kind= .function) (hn:∀y∈scope.names,y.2≠.cell/\(y.2= .free->y.1∈xs))
  (hl:∀y∈scope.names,y.2= .local->scope.names.lookup y.1=some .local):C8w X scope cl where
 eq:=he
 sub:=λy d h=>hc.get h
 has:=λy h=>by
  have key:y∈xs:=by
   have m:∃k,(y,k)∈(relabel scope X.env).names/\(k= .cell\/k= .free):=h.elim (λz=>(i02 _ (A6k z) (.inl rfl))) λz=>(i02 _ (A6k z) (.inr rfl));obtain ⟨k,hm,hk⟩:=m;obtain ⟨⟨n,k0⟩,h0,e⟩:=Z2c.mp hm;dsimp only at e;by_cases hf:k0= .free
   ·have en:n=y:=by
     split at e
     ·exact congrArg Prod.fst e
     ·exact congrArg Prod.fst e
    rw [<-en];exact (hn _ h0).2 hf
   ·have hb:(k0 == NameKind.free)=false:=by simpa using hf
    simp only [hb,Bool.false_and,Bool.false_eq_true,if_false] at e;have e2:k0=k:=congrArg Prod.snd e;subst e2;rcases hk with hk | hk
    ·exact absurd hk (hn _ h0).1
    ·exact absurd hk hf
  rw [<-hx] at key;exact A9m key
 kind:=hk
 ncell:=λy hy=>(hn y hy).1
 names:=hl
def B8d (X:Cx) (scope:Scope):List Str->List Nat->Prop
 | [],[]=>True
 | x::xs,j::js=>(X.N[j]? =some x/\(X.env.scope.names.lookup x=some .cell\/X.env.scope.names.lookup x=some .free)/\((relabel scope X.env).names.lookup x=some .cell\/(relabel scope X.env).names.lookup x=some .free))/\B8d X scope xs js
 | _,_=>False
theorem B8d.get {X:Cx} {scope:Scope}:∀{xs:List Str} {js:List Nat},B8d X scope xs js->xs.length=js.length/\∀(i j:Nat),js[i]? =some j->∃x,xs[i]? =some x/\X.N[j]? =some x/\(X.env.scope.names.lookup x=some .cell\/X.env.scope.names.lookup x=some .free)/\((relabel scope X.env).names.lookup x=some .cell\/(relabel scope X.env).names.lookup x=some .free)
 | [],[],_=>⟨rfl,λi j e=>by simp at e⟩
 | x::xs,j::js,h=>by
  obtain ⟨e,f⟩:=B8d.get h.2;refine ⟨by simp [e],λi k ek=> ?_⟩
  cases i with
  | zero=>simp at ek;subst ek;exact i02 x rfl h.1
  | succ i=>exact f i k (by simpa using ek)
 | [],_::_,h=>h.elim
 | _::_,[],h=>h.elim
theorem C5w {N0 xs:List Str} {js:List Nat} (h:B8d X scope xs js):C9r X (N0++xs) scope (List.replicate N0.length none++js.map some):=by
 obtain ⟨hl,hf⟩:=h.get;refine ⟨by simp [hl],λi k e=> ?_⟩;by_cases hi:i<N0.length
 ·rw [Z26 (by simpa using hi),List.getElem?_replicate] at e;split at e <;> cases e
 ·rw [Z1l (by simpa using hi),List.length_replicate,Z1z] at e;obtain ⟨j,ej,ek⟩:=Z0i.mp e;cases ek;obtain ⟨x,h1,h2,h3,h4⟩:=hf _ _ ej;exact i0c x (by rw [Z1l (by lia)];exact h1) h2 h3 h4
abbrev PL (H:Hp) (xs:List V) (kvs:List (Key×V)):Prop:=Paired (λ(x:V) (p:Key×V)=>∃b,x= .ref b/\H b=some (.tup [kV p.1,p.2])) xs kvs
section
variable {X:Cx}
theorem D2d {pins:List (Addr×Obj)} {Z:St} {H:Hp} {s:Shared} (I:Inv X pins Z H s):∀{xs:List V} {kvs:List (Key×V)} {its:List Value},PL H xs kvs->A2p xs its->
  ∃rs,KV kvs rs/\Paired (λ(v:Value) (p:Key×Value)=>∃(b:Addr) (o:Obj) (n:Nat) (kv:Value),v= .ref b/\s.heap.get? b=some o/\o.cls= .type "tuple"/\o.data= .seq #[kv,p.2] n/\(A0x X.prog X.w).is p.1 kv=true) its rs
 | _,_,_,.nil,.nil=>(i02 [] .nil .nil)
 | _,_,_,@Paired.cons _ _ _ x p _ _ ⟨b,e,hb⟩ t,.cons rv vs=>by
  obtain ⟨rs,h1,h2⟩:=D2d I t vs;subst e;cases rv;refine e09 (show A1z X.prog X.w H s.heap b (.tup [kV p.1,p.2]) from I.hok b _ hb) λ_ its r o g1 g2 n g3=>?_
  cases r with
  | cons r1 r =>
   cases r with
   | cons r2 r =>
    cases r
    exact i02 ((p.1,_)::rs) (.cons ⟨rfl,r2⟩ h1) (.cons (i0x b o n _ rfl g1 g2 g3 (B9v r1)) h2)
theorem C3z (hc:X.calm=true):A9d X (.type "dict") (λvs H Q=>∃a xs kvs,vs=[V.ref a]/\H a=some (.lst xs)/\PL H xs kvs/\∀p,H p=none->Q (.ref p) (upd H p (.dK (A3d [] kvs)))):=by
 intro pins s Z H vs us Q I r h;refine e08 h ?_;clear h;rintro a xs kvs rfl ha pl q;obtain ⟨u,rfl,ru⟩:=B2s r;cases ru;obtain ⟨z,its,n,rv,hl,e⟩:=I.lstM ha;obtain ⟨rs,kv,rp⟩:=D2d I pl rv;have hh:X.A.handled=none:=I.ok.hd hc;have lk:kvs.length=xs.length:=(Paired.length pl).symm;have lr:rs.length=kvs.length:=kv.length.symm;have hn:=I.hok.fresh (Z09 s.heap.objs.size);refine callType_codes (Q₁:=λobj s₁=>obj= .ref s.heap.objs.size/\s₁={ s with heap:=s.heap.push { cls:= .type "dict",data:= .dict #[] } }) F.kt_called_dict (F.kt_typeCall_dict_1 _) F.entry_dict_init (kt_code_dict_new _ ⟨rfl,rfl⟩) ?_;rintro obj s₁ ⟨rfl,rfl⟩;have hnew:(s.heap.push { cls:= .type "dict",data:= .dict #[] }).DictOf (A0x X.prog X.w) s.heap.objs.size []:=Heap.DictOf.new s.heap;have e1:(s.heap.push { cls:= .type "dict",data:= .dict #[] }).get? a=some { cls:= .type "list",data:= .seq its.toArray n }:=Z01 _ e;have hTl:Shared.TypeIs { s with heap:=s.heap.push { cls:= .type "dict",data:= .dict #[] } } (.ref a) "list":=(i02 _ e1 rfl);refine i00 hnew.typeIs (F.args_dict_init_2 _ _) ?_;unfold Builtin.«dict.__init__»;refine Z00 ?_;unfold Builtin.Dict.selfAndRest;refine Z00 (wpAny_notOrdered_dict hnew.typeIs ?_);show wpAny _ _ (pure (s.heap.objs.size,[Value.ref a])) _ _ _;refine Z04 ?_;show wpAny _ _ (Builtin.Dict.updateFrom "dict.__init__" s.heap.objs.size (.ref a) [] .none) _ _ _;unfold Builtin.Dict.updateFrom;refine Z00 (wpAny_typeOf hTl ?_);rw [Z12 (by decide)];refine Z00 (C4u (o:={ cls:= .type "list",data:= .seq its.toArray n }) e1 rfl rfl rfl (by simpa using hh) λh1 tk1 kp1=> ?_)
 rw [Z12 (show (none:Option Value).isNone=true from rfl)];refine Z00 (wpAny_rule ?_);have hl1:h1.IsList a its.toArray:=(i0d _ (kp1 _ _ e1) rfl n rfl);refine Z00 (wpAny_pyIter_list (s:={ s with heap:=h1,toks:=tk1 }) hl1 ?_);have la:a<h1.objs.size:=Z0a (kp1 _ _ e1);have ld:s.heap.objs.size<h1.objs.size:=let ⟨_,_,_,g,_⟩:=hnew;Z0a (kp1 _ _ g);have las:a<s.heap.objs.size:=Z0a e;refine Z04 ⟨plainId_quiet A2f _,D1l (knd:=A0x X.prog X.w) (rs:=rs) (l:=a) (items:=its.toArray) (h₀:=h1.push { cls:= .type "list_iterator",data:= .fields #[.ref a,.int 0 0] }) (by simpa using hh) (Z0h la) (Z0h ld) (Z1q las) (by lia) ?_ (hl1.push _) ?_ rs.length 0 _ _ (by lia) (Z1e _) (i06 _ (Z0c _ rfl) rfl rfl) (λ_ _ _ _ z=>z) ?_⟩
 ·refine ⟨by simp;lia,λi v k u hv hku=> ?_⟩;obtain ⟨x,hx,b,o,m,kv,ev,g1,g2,g3,g4⟩:=A5o rp hku
  have ex:x=v:=by
   have hv:its[i]? =some v:=by simpa using hv
   rw [hx] at hv;exact Z1a hv
  subst ex;have lb:=Z0a g1;exact i0z b o m kv ev (Z0h (Nat.lt_trans lb ld)) (Z0h lb) (Z01 _ (kp1 _ _ (Z01 _ g1))) g2 ⟨g3,g4⟩
 ·intro h' tk dd kp;refine i0j rfl (.ref s.heap.objs.size) _ (I.laid (t':=tk) (o:= .dK (A3d [] kvs)) (λb u eb=>kp b u (Z0h (Nat.lt_trans (Z0a eb) ld)) (Z0h (Z0a eb)) (Z01 _ (kp1 _ _ (Z01 _ eb)))) (Z09 _) (i09 ?_ ?_ _ (KV.merge kv .nil) dd)) rfl (q _ hn)
  ·have:=A2w kvs [];simp only [Z2g] at this
   lia
  ·have:=I.big;have hne:s.heap.objs.size≠sysModules:=Z1q this
   simpa using hne
 ·obtain ⟨od,es,ep,g,r⟩:=hnew;exact i0g od es ep (Z01 _ (kp1 _ _ g)) r
def D2o (neg:Bool):R2:=λx y H Q=>∃a b kvs kvs',x= .ref a/\y= .ref b/\Rd H a (.dK kvs)/\Rd H b (.dK kvs')/\Paired (λ(p q:Key×V)=>p.1=q.1/\∃d,Rep H p.2 d/\Rep H q.2 d/\d.canLay0=true/\d.depth<=60) kvs kvs'/\Q (.bl (! neg)) H
theorem D3c {pins:List (Addr×Obj)} {Z:St} {H:Hp} {s:Shared} (I:Inv X pins Z H s) {A:Around} (hu:A.units+64<cLine) {kb:List (Key×Value)} (nb:(kb.map (·.1)).Nodup):∀{kvs kvs':List (Key×V)} {ka kb':List (Key×Value)},Paired (λ(p q:Key×V)=>p.1=q.1/\∃d,Rep H p.2 d/\Rep H q.2 d/\d.canLay0=true/\d.depth<=60) kvs kvs'->KV kvs ka->KV kvs' kb'->(∀p∈kb',p∈kb)->
  PySem.W.KeqHits A.in1 s kb ka true
 | _,_,_,_,.nil,.nil,.nil,_=> .nil
 | _,_,_,_,@Paired.cons _ _ _ p p' _ _ ⟨ek,d,r1,r2,sh,dp⟩ t,@Paired.cons _ _ _ _ q _ _ h1 t1,@Paired.cons _ _ _ _ q' _ _ h2 t2,hm=>by
  obtain ⟨k,u⟩:=q;obtain ⟨k',u'⟩:=q';have hy:PySem.valueAt kb k'=some u':=B4k nb (hm _ (.head _));have ekk:k=k':=(h1.1.symm.trans ek).trans h2.1;rw [<-ekk] at hy;obtain ⟨as,x1⟩:=B2p I r1 h1.2;obtain ⟨bs,x2⟩:=B2p I r2 h2.2
  have heq:SeqAt.EqAt A.in1 s u u' (PyData.eqv d d):=SeqAt.eqAt_reads d d A.in1 s u u' as bs x1 x2 sh sh (by
   have hm:min d.depth d.depth<=d.depth:=Nat.min_le_left _ _;show A.units+1+min d.depth d.depth<cLine
   lia)
  rw [SeqAt.eqv_refl d sh] at heq;exact PySem.W.KeqHits.hit (e:=true) (b:=true) hy heq (D3c I hu nb t t1 t2 λp hp=>hm p (.tail _ hp))
theorem D7n (hu:X.A.units+64<cLine):OpR X (compareOp .Eq) (D2o false):=by
 intro pins s Z H x y v u Q I rx ry h;refine e0c h ?_;clear h;rintro a b kvs kvs' rfl rfl ha hb ⟨hf,q⟩;cases rx;cases ry;obtain ⟨_,sa,ka,ra,da⟩:=B1a I.hok ha;obtain ⟨_,sb,kb,rb,db⟩:=B1a I.hok hb;have nb:(kb.map (·.1)).Nodup:=let ⟨_,_,_,_,_,_,_,_,hn⟩:=db;hn;have el:ka.length=kb.length:=by rw [<-ra.length,<-rb.length];exact Paired.length hf
 exact PySem.W.keq_eq (knd:=A0x X.prog X.w) (r:=true) sa sb da db (by lia) (λ_=>D3c I hu nb hf ra rb λ_ z=>z) (i0f (.bl true) H I (by rw [el];simp [A2z]) q)
theorem D9g (hu:X.A.units+64<cLine):OpR X (compareOp .NotEq) (D2o true):=by
 intro pins s Z H x y v u Q I rx ry h;refine e0c h ?_;clear h;rintro a b kvs kvs' rfl rfl ha hb ⟨hf,q⟩;cases rx;cases ry;obtain ⟨_,sa,ka,ra,da⟩:=B1a I.hok ha;obtain ⟨_,sb,kb,rb,db⟩:=B1a I.hok hb;have nb:(kb.map (·.1)).Nodup:=let ⟨_,_,_,_,_,_,_,_,hn⟩:=db;hn;have el:ka.length=kb.length:=by rw [<-ra.length,<-rb.length];exact Paired.length hf
 exact PySem.W.keq_ne (knd:=A0x X.prog X.w) (r:=true) sa sb da db (by lia) (λ_=>D3c I hu nb hf ra rb λ_ z=>z) (i0f (.bl false) H I (by rw [el];simp [A2z]) q)
end
abbrev B1c:= @C7s true true
abbrev B1i {K:Frag} {a b:Addr} {xs ys:List V} {g:TG} {tb:TS} {D:C0x} {Z:St} {H:Hp} (Pv:Nat->St->Hp->Prop) (h0:Pv 0 Z H) (hl:∀i Z H,Pv i Z H->SqL K H a xs/\SqL K H b ys) (hlen:xs.length=ys.length):=C2p (k1:=true) (k2:=true) (g:=g) (tb:=tb) (D:=D) Pv h0 hl (Nat.le_of_eq hlen)
section
variable {D:Addr} {g:TG} {te:TE} {QD:Hp->Prop} {Z₀:St} {H:Hp}
theorem A5r {J:It} (n:Nat) (Pv:Nat->List V->Hp->Prop) (h0:Pv 0 [] (upd H D (.lst []))) (hgo:∀i ys H,i<n->Pv i ys H->J.go i H) (hst:∀ys H,Pv n ys H->J.stop n H)
  (hs:∀i ys H,i<n->Pv i ys H->∀x H3,J.yld i H x H3->g x Z₀ H3 λZ4 H4=>A3j Z₀ Z4/\te Z4 H4 λy H5=>H5 D=some (.lst ys)/\ys.length<sizeLine/\Pv (i+1) (ys++[y]) (upd H5 D (.lst (ys++[y])))) (hd:∀ys H,Pv n ys H->QD H) :
  ∃W:Nat->Nat->Hp->Prop,(∃m,W 0 m (upd H D (.lst [])))/\∀i m H2,W i m H2->
   (J.stop i H2/\QD H2)\/(J.go i H2/\∃N:VK,(∀y H5,N y H5->∃xs,H5 D=some (.lst xs)/\xs.length<sizeLine/\∃m',m'<m/\W (i+1) m' (upd H5 D (.lst (xs++[y]))))/\
    ∀x H3,J.yld i H2 x H3->g x Z₀ H3 λZ4 H4=>A3j Z₀ Z4/\te Z4 H4 N):=by
 refine i02 (λi m H=>m=n-i/\i<=n/\∃ys,Pv i ys H) (i0d n (by simp) (Z1e _) [] h0) ?_;rintro i m H2 ⟨rfl,hi,ys,p⟩;by_cases hlt:i<n
 ·exact .inr (i05 (hgo i ys H2 hlt p) (λy H5=>H5 D=some (.lst ys)/\ys.length<sizeLine/\Pv (i+1) (ys++[y]) (upd H5 D (.lst (ys++[y])))) (λy H5 z=>(i0u ys z.1 z.2.1 (n-(i+1)) (by lia) rfl hlt _ z.2.2)) λx H3 z=>hs i ys H2 hlt p x H3 z)
 ·have e:i=n:=by lia
  subst e;exact .inl ⟨hst ys H2 p,hd ys H2 p⟩
end
theorem C9w (h:X.K=K):IxR X (E1s K):=h▸A3b
theorem C7j {C:Addr} {U:String} (h:mroIn K C (.type U)=some b) (hm:PySem.W.kitMeta U=true):∀u,A2z (.ty U) u->kitOne K (.ref C) u=some b:=by
 intro u z;cases (show u=Value.type U from z);unfold kitOne;rw [Z0t (show¬(Value.ref C == Value.type U)=true from Z0v)];show (if PySem.W.kitMeta U=true then subIn K (.ref C) (.type U) else none)=some b;rw [Z12 hm];exact h
theorem A4c.or {base:Heap} {CX:CXT} {k:Nat} {sp sp':Sp} (F:A4c P w K mg base CX k f fd ps sp) (F':A4c P w K mg base CX k f fd ps sp') :
  A4c P w K mg base CX k f fd ps (λvs H Q E=>sp vs H Q E\/sp' vs H Q E) :=
 ⟨λvs H Q E q=>q.elim (F.len vs H Q E) (F'.len vs H Q E),λA outer s H args us vs Q E hr he hb hv q=>q.elim (F.run A outer s H args us vs Q E hr he hb hv) (F'.run A outer s H args us vs Q E hr he hb hv)⟩
theorem B9s (acc ws:List (Key×V)) (w:Key×V):A3d acc (ws++[w])=A4l (A3d acc ws) w.1 w.2:=by unfold A3d;rw [List.foldl_append];rfl
section
variable {X:Cx}
theorem C1m {pos:Pos} {tc:TT} (hN₀:X.N.Nodup) (hi₀:X.N[i₀]? =some x₀) (hx₀:Loc X.env.scope x₀) (hc:X.calm=true) (ck:C8w X scope cl) (io:C9r X N' scope ix) (hi:PI X tg iter wi)
  (hg:∀C s₀ H₀ fp,PG (blk X N' scope cl C s₀ H₀ fp) tg g) (ht:∀C s₀ H₀ fp,PTs (blk X N' scope cl C s₀ H₀ fp) cs tc) (he:∀C s₀ H₀ fp,PE (blk X N' scope cl C s₀ H₀ fp) elt te) (R:C0x->St->It->Hp->Prop) (hR:∀D Z J H1,R D Z J H1->∀D2,H1 D2=none->∃W:Nat->Nat->Hp->Prop,(∃m,W 0 m (upd H1 D2 (.lst [])))/\∀i m H2,W i m H2->
   (J.stop i H2/\D.nx (Z.set i₀ (some (.ref D2))) H2)\/(J.go i H2/\∃(N:VK) (M:Hp->Prop),(∀y H5,N y H5->∃xs,H5 D2=some (.lst xs)/\xs.length<sizeLine/\∃m',m'<m/\W (i+1) m' (upd H5 D2 (.lst (xs++[y]))))/\(∀H5,M H5->∃m',m'<m/\W (i+1) m' H5)/\∀x H3,J.yld i H2 x H3->g x (A6f ix Z) H3 λZ4 H4=>A3j (A6f ix Z) Z4/\tc Z4 H4 λb H5=>if b=true then te Z4 H5 N else M H5)) (hs:∀x,foldedSetIterable iter X.env x=pure x:=by intro _;rfl)
  (hsw:swapsWith (.ListComp elt [⟨tg,iter,cs,0⟩] scope pos) (some (.Name x₀ pos₀)) spos.line X.env=pure true:=by rfl) (hf₀:X.fn x₀=true\/X.env.scope.names.lookup x₀=some .local:=by first | exact .inl rfl | exact .inr rfl | assumption) :
  PS X (.Assign [.Name x₀ pos₀] (.ListComp elt [⟨tg,iter,cs,0⟩] scope pos) spos) (λD Z H=>wi Z H (R D Z)):=by
 intro pins s Z H D₀ I h;rw [exec_Assign_Name_used _ _ _ _ hsw];refine Z00 (Z1y (Z00 ?_));show wpAny _ X.A (do let _<-comprehension (.ListComp elt [⟨tg,iter,cs,0⟩] scope pos) scope X.env _ (newList []) false (eval iter X.env) (some (assign (.Name x₀ pos₀) X.env))) _ _ s;refine Z00 (Z10 (wpAny_comprehension_free (use:=some (assign (.Name x₀ pos₀) X.env)) (Q:=λ_ s'=>∃Z' H',Inv X pins Z' H' s'/\D₀.nx Z' H') rfl hs ck.eq ck.kind ck.names (thn (hi pins s Z H _ I h) λxv s1 h1=>thn h1 λitv s2 h2=> ?_)) (λ_ s' hq=>Z04 (Z04 hq)) λ_ _ e=>e);refine e0d h2 ?_;clear h2;rintro it fp tn J H1 rfl I1 T st1 ⟨f1,R1⟩;refine Z16 ?_;have hD:H1 s2.heap.objs.size=none:=I1.hok.fresh (Z09 _);obtain ⟨W,⟨m0,w0⟩,turn⟩:=hR _ _ _ _ R1 _ hD;have hfD:∀b∈fp,b<s2.heap.objs.size:=λb hb=>let ⟨o,e,_⟩:=T.obj _ _ st1 b hb;Z0a e;have I2:Inv X pins Z (upd H1 s2.heap.objs.size (.lst [])) { s2 with heap:=s2.heap.push { cls:= .type "list",data:= .seq ([]:List Value).toArray },toks:=s2.toks }:=I1.lnew (its:=[]) .nil (Z1e _);have f2:∀b∈fp,B8s X pins (upd H1 s2.heap.objs.size (.lst [])) b:=λb hb=>⟨by rw [A0i (Z0h (hfD b hb))];exact (f1 b hb).1,(f1 b hb).2⟩
 have lt2:∀b∈fp,b<(s2.heap.push { cls:= .type "list",data:= .seq ([]:List Value).toArray }).objs.size:=λb hb=>by rw [Z1s];exact Nat.lt_succ_of_lt (hfD b hb)
 refine wpAny_newFunctionEnv ck.ncell (by intro y hy;simp at hy) (λh3 hns sb3=> ?_) ck.kind;dsimp only at hns sb3⊢;have k3:∀b o,(s2.heap.push { cls:= .type "list",data:= .seq ([]:List Value).toArray }).get? b=some o->h3.get? b=some o:=λb o e=>(sb3.2 b (Z0h (Z0a e))).trans (Z01 _ e);generalize hs2:({ s2 with heap:=s2.heap.push { cls:= .type "list",data:= .seq ([]:List Value).toArray },toks:=s2.toks }:Shared)=s3 at I2;have e3:s2.heap.push { cls:= .type "list",data:= .seq ([]:List Value).toArray }=s3.heap:=by rw [<-hs2]
 rw [e3] at hns k3 lt2;have I3:=B7a (N':=N') (ix:=ix) I2 ck io f2 lt2 (h':=h3) (t':=s2.toks+([]:List (Str×Value)).length) hns k3;have e4:({ s3 with heap:=h3,toks:=s2.toks+([]:List (Str×Value)).length }:Shared)={ s2 with heap:=h3,toks:=s2.toks+([]:List (Str×Value)).length }:=by rw [<-hs2]
 rw [e4] at I3;have st3:tn 0 h3:=T.keep _ _ _ st1 λb hb o e=>k3 b o (by rw [<-e3];exact Z01 _ e)
 have loop:∀s4:Shared,s4={ s2 with heap:=h3,toks:=s2.toks+([]:List (Str×Value)).length }->
   codeAny (model X.prog X.w) X.A (.compLoop (.ListComp elt [⟨tg,iter,cs,0⟩] scope pos) 0 (.ref it) (.ref s2.heap.objs.size) (compEnvC scope cl s3.heap.objs.size X.env))
    (compPost (model X.prog X.w) X.A X.xe (some (assign (.Name x₀ pos₀) X.env)) (λ_ s'=>∃Z' H',Inv X pins Z' H' s'/\D₀.nx Z' H') (.ref s2.heap.objs.size) s3.heap.objs.size) s4:=by
  rintro s4 rfl
  have stat:∀{H':Hp},(∀b∈fp,H' b=none)->∀b∈fp,B8s (blk X N' scope cl s3.heap.objs.size s3 (upd H1 s2.heap.objs.size (.lst [])) fp) [] H' b:=λhn b hb =>
   (i0i (hn b hb) (Z0h (lt2 b hb)) (λhs=>I3.ok.exfs b hb hs) (.inl hb) (λx c e=>(f2 b hb).2.2.2.2.1 x c (ck.sub x c e)) (λp hp=>by cases hp))
  refine codeAny_loop rfl (λn s'=>∃i Z' H',Inv (blk X N' scope cl s3.heap.objs.size s3 (upd H1 s2.heap.objs.size (.lst [])) fp) [] Z' H' s'/\(∀(j:Nat) v,(A6f ix Z)[j]? =some (some v)->Z'[j]? =some (some v))/\tn i s'.heap/\(∀b∈fp,H' b=none)/\W i n H')
   (λn s' hI=> ?_) m0 (i0s 0 _ _ I3 (λ_ _ z=>z) st3 (λb hb=>(f2 b hb).1) w0)
  refine e08 hI ?_;clear hI;rintro i Z5 H5 I5 wk st5 ⟨fr5,w5⟩;show wpAny _ _ ((compTurn (.ListComp elt [⟨tg,iter,cs,0⟩] scope pos) 0 (.ref it) (.ref s2.heap.objs.size) (compEnvC scope cl s3.heap.objs.size X.env)).onRaise (λx=>do noteFrame x (compEnvC scope cl s3.heap.objs.size X.env);theTreesLotGoes x)) _ _ s';refine wpAny_noted ?_;rw [compTurn_list];refine Z00 (Z1y ?_);rcases turn i n H5 w5 with ⟨stop,qn⟩ | ⟨go,NN,MM,hNN,hMM,step⟩
  ·refine Z00 (Z10 (T.done (blk X N' scope cl s3.heap.objs.size s3 (upd H1 s2.heap.objs.size (.lst [])) fp) rfl rfl rfl hc i [] s' Z5 H5 (λ_ _=>False) I5 (stat fr5) st5 stop) (λr s6 h6=> ?_) λ_ _ z=>z.elim);obtain ⟨rfl,I6⟩:=h6;refine Z04 ?_;obtain ⟨mm,hm,_⟩:=id I6.loc;have fC:B8s X pins H5 s3.heap.objs.size:=I2.fpOk (Z09 _) I6.free;have Io:Inv X pins Z H5 s6:=C6a I2 f2 I6 (Heap.SameBut.refl _ _);show wpAny _ X.A (assign (.Name x₀ pos₀) X.env (.ref s2.heap.objs.size)) _ _ s6;refine wpAny_assign_Name (B7q Io hN₀ hi₀ hx₀ (v:= .ref s2.heap.objs.size) rfl (λs7 I7 sb7=> ?_) hf₀);obtain ⟨a,sb,ha⟩:=sb7
   have ca:s3.heap.objs.size≠a:=by
    rcases ha with ha | ha
    ·rw [ha];exact fC.2.1
    ·exact λz=>fC.2.2.2.2.1 _ _ ha z.symm
   obtain ⟨oC,es,ep,ho,r⟩:=hm;exact i02 mm (i0g oC es ep ((sb.2 _ ca).trans ho) r) λh' sb'=>(i07 _ H5 (I7.turned (t':=s7.toks) (λb o hb e=>(sb'.2 b hb).trans e) fC.1 fC.2.1 fC.2.2.2.1 fC.2.2.2.2.1 fC.2.2.2.2.2) qn)
  ·refine Z00 (Z10 (T.item (blk X N' scope cl s3.heap.objs.size s3 (upd H1 s2.heap.objs.size (.lst [])) fp) rfl rfl rfl hc i [] s' Z5 H5 (λ_ _=>False) I5 (stat fr5) st5 go) (λr s6 h6=> ?_) λ_ _ z=>z.elim);obtain ⟨u,rfl,h6⟩:=h6;refine Z00 (Z10 h6 (λ_ s7 h7=> ?_) λ_ _ z=>z.elim);refine e06 h7 ?_;clear h7;rintro x H7 I7 r7 y7 ⟨st7,fr7⟩;have I7w:Inv (blk X N' scope cl s3.heap.objs.size s3 (upd H1 s2.heap.objs.size (.lst [])) fp) [] (A6f ix Z) H7 s7:=I7.weak (by rw [I7.len];unfold A6f;rw [Z08];exact io.1) wk;have I7p:=I7w.pinned (stat fr7) (T.obj _ _ st7);refine Z00 (Z10 (hg _ _ _ _ _ s7 _ H7 x u _ I7p r7 (step x H7 y7)) (λ_ s8 h8=> ?_) λ_ _ z=>z.elim);obtain ⟨Z8,H8,I8,kp8,q8⟩:=h8
   have back:∀{s10:Shared} {Z10:St} {H10:Hp} {m':Nat},Inv (blk X N' scope cl s3.heap.objs.size s3 (upd H1 s2.heap.objs.size (.lst [])) fp) ([]++B4o fp s7.heap) Z10 H10 s10->(∀(j:Nat) v,(A6f ix Z)[j]? =some (some v)->Z10[j]? =some (some v))->W (i+1) m' H10->
     ∃i Z' H',Inv (blk X N' scope cl s3.heap.objs.size s3 (upd H1 s2.heap.objs.size (.lst [])) fp) [] Z' H' s10/\(∀(j:Nat) v,(A6f ix Z)[j]? =some (some v)->Z'[j]? =some (some v))/\tn i s10.heap/\(∀b∈fp,H' b=none)/\W i m' H':=by
    intro s10 Z10 H10 m' I10 kk w10;refine i0s (i+1) Z10 H10 I10.unpinned kk (T.keep _ _ _ st7 λb hb o e=>(I10.pin (b,o) (Z02 _ (Z02 _ (A5k hb e)))).1) (λb hb=> ?_) w10;obtain ⟨o,e,d⟩:=T.obj _ _ st7 b hb;exact (I10.pin (b,o) (Z02 _ (Z02 _ (A5k hb e)))).2.1
   refine Z00 (Z10 (ht _ _ _ _ _ s8 Z8 H8 _ I8 q8) (λok s9' h9'=> ?_) λ_ _ z=>z.elim);obtain ⟨H9',I9',q9'⟩:=h9'
   cases ok with
   | false =>
    have q9'':MM H9':=by simpa using q9'
    obtain ⟨m',hm',w9⟩:=hMM _ q9'';exact Z00 (Z04 (Z04 (i05 rfl m' hm' (back I9' kp8.get w9))))
   | true =>
    have q9'':te Z8 H9' NN:=by simpa using q9'
    refine Z00 (Z00 (Z10 (he _ _ _ _ _ s9' Z8 H9' _ I9' q9'') (λyv s9 h9=> ?_) λ_ _ z=>z.elim));obtain ⟨y,H9,I9,r9,n9⟩:=h9;obtain ⟨xs,hx9,hz9,m',hm',w9⟩:=hNN _ _ n9;refine Z00 (Z10 (A3o (X:=blk X N' scope cl s3.heap.objs.size s3 (upd H1 s2.heap.objs.size (.lst [])) fp) _ s9 Z8 H9 (.ref s2.heap.objs.size) [y] (.ref s2.heap.objs.size) [yv] (λ_ H'=>W (i+1) m' H') I9 rfl (.cons r9 .nil) (i0s _ xs y rfl rfl hx9 hz9 w9)) (λ_ s10 h10=> ?_) λ_ _ z=>z.elim);obtain ⟨_,H10,I10,_,w10⟩:=h10;exact Z04 (Z04 (i05 rfl m' hm' (back I10 kp8.get w10)))
 have e5:s3.heap.objs.size=(s2.heap.push { cls:= .type "list",data:= .seq ([]:List Value).toArray }).objs.size:=by rw [e3]
 rw [e5] at loop;exact codeAny_compStart_list (loop _ rfl) (T.self X.A 0 _ _ _ st3 (loop _ rfl))
theorem B8z {pos:Pos} (hN₀:X.N.Nodup) (hi₀:X.N[i₀]? =some x₀) (hx₀:Loc X.env.scope x₀) (hc:X.calm=true) (ck:C8w X scope cl) (io:C9r X N' scope ix) (hi:PI X tg iter wi)
  (hg:∀C s₀ H₀ fp,PG (blk X N' scope cl C s₀ H₀ fp) tg g) (he:∀C s₀ H₀ fp,PE (blk X N' scope cl C s₀ H₀ fp) elt te) (hs:∀x,foldedSetIterable iter X.env x=pure x:=by intro _;rfl)
  (hsw:swapsWith (.ListComp elt [⟨tg,iter,[],0⟩] scope pos) (some (.Name x₀ pos₀)) spos.line X.env=pure true:=by rfl) (hf₀:X.fn x₀=true\/X.env.scope.names.lookup x₀=some .local:=by first | exact .inl rfl | exact .inr rfl | assumption) :
  PS X (.Assign [.Name x₀ pos₀] (.ListComp elt [⟨tg,iter,[],0⟩] scope pos) spos) (D9r (D7b ix wi g te) (B5w i₀)) :=
 C1m (tc:=λ_ H Q=>Q true H) hN₀ hi₀ hx₀ hc ck io hi hg (λ_ _ _ _ _ _ _ _ _ I h=>wpAny_tests_nil (i02 _ I h)) he _ (λ_ _ _ _ R D2 hD=>by
  obtain ⟨W,w0,turn⟩:=R D2 hD;refine i02 W w0 λi m H2 w=>(turn i m H2 w).imp id λ⟨go,N,hN,step⟩=>(i0j go N (λ_=>False) hN (λ_ z=>z.elim) ?_)
  simpa using step) hs hsw hf₀
theorem C6g {c:Expr} {pos:Pos} {tc:TT} (hN₀:X.N.Nodup) (hi₀:X.N[i₀]? =some x₀) (hx₀:Loc X.env.scope x₀) (hc:X.calm=true) (ck:C8w X scope cl) (io:C9r X N' scope ix) (hi:PI X tg iter wi)
  (hg:∀C s₀ H₀ fp,PG (blk X N' scope cl C s₀ H₀ fp) tg g) (ht:∀C s₀ H₀ fp,PT (blk X N' scope cl C s₀ H₀ fp) c tc) (he:∀C s₀ H₀ fp,PE (blk X N' scope cl C s₀ H₀ fp) elt te) (hs:∀x,foldedSetIterable iter X.env x=pure x:=by intro _;rfl)
  (hsw:swapsWith (.ListComp elt [⟨tg,iter,[c],0⟩] scope pos) (some (.Name x₀ pos₀)) spos.line X.env=pure true:=by rfl) (hf₀:X.fn x₀=true\/X.env.scope.names.lookup x₀=some .local:=by first | exact .inl rfl | exact .inr rfl | assumption) :
  PS X (.Assign [.Name x₀ pos₀] (.ListComp elt [⟨tg,iter,[c],0⟩] scope pos) spos) (D9r (D4o ix wi g tc te) (B5w i₀)) :=
 C1m hN₀ hi₀ hx₀ hc ck io hi hg (λC s₀ H₀ fp pins s Z H Q I h=>wpAny_tests_one (ht C s₀ H₀ fp pins s Z H Q I h)) he _ (λ_ _ _ _ R=>R) hs hsw hf₀
theorem B8j {xs:List V} {its:List Value} (r:A2p xs its):∀js:List Nat,A2p (js.filterMap (xs[·]?)) (js.filterMap (its[·]?))
 | []=> .nil
 | j::js=>by
  have hl:=r.length;have t:=B8j r js
  cases hx:xs[j]? with
  | none =>
   have hi:its[j]? =none:=by rw [List.getElem?_eq_none_iff] at hx⊢;lia
   rw [List.filterMap_cons_none hx,List.filterMap_cons_none hi];exact t
  | some x =>
   obtain ⟨u,hu,ru⟩:=r.get hx;rw [List.filterMap_cons_some hx,List.filterMap_cons_some hu];exact .cons ru t
def tSl3 (K:Frag) (te:TE) (tl th:TO) (ts:TE):TE:=λZ H Q=>te Z H λx H1=>tl Z H1 λl H2=>th Z H2 λu H3=>ts Z H3 λy H4=>∃a xs i k,x= .ref a/\l=some i/\u=none/\y= .int k/\0<=i/\0<k/\SqL K H4 a xs/\∀p zs,H4 p=none->zs.length<=xs.length->(∀z∈zs,z∈xs)->Q (.ref p) (upd H4 p (.lst zs))
theorem C8x {a k:Int} (h0:0<=a) (hk:0<k):((if k>0 then (if a<(n:Int) then ((n:Int)-a+k-1)/k else 0) else (if a>(n:Int) then (a-(n:Int)-k-1)/(-k) else 0)):Int).toNat<=n:=by
 rw [Z12 hk];split
 ·have h1:((n:Int)-a+k-1)/k<=(n:Int)-a:=by
   have e:(n:Int)-a+k-1=((n:Int)-a-1)+1*k:=by lia
   rw [e,Int.add_mul_ediv_right _ _ (by lia)];have:=Int.ediv_le_self k (show 0<=(n:Int)-a-1 by lia)
   lia
  lia
 ·exact Z1e _
theorem C5p {e st:Expr} {lo hi:Option Expr} {ts:TE} {tl th:TO} {p2 pos:Pos} (he:PE X e te) (hl:PO X lo tl) (hu:PO X hi th) (hst:PE X st ts):PE X (.Subscript e (.Slice lo hi (some st) p2) pos) (tSl3 X.K te tl th ts):=by
 intro pins s Z H Q I h;refine Subscript_ (thn (he pins s Z H _ I h) ?_);rintro v s1 ⟨x,H1,I1,r1,q1⟩;refine wpAny_Slice (thn (hl pins s1 Z H1 _ I1 q1) ?_);rintro vl s2 ⟨l,H2,I2,pl,q2⟩;refine thn (hu pins s2 Z H2 _ I2 q2) ?_;rintro vu s3 ⟨u,H3,I3,pu,q3⟩;rw [evalPart_some];refine thn (hst pins s3 Z H3 _ I3 q3) ?_;rintro vs s4 ⟨y,H4,I4,r4,q4⟩;refine e0c q4 ?_;clear q4;rintro a xs i k rfl rfl rfl rfl ⟨h0,hk,hq,q⟩;cases r1;obtain ⟨tk,rfl⟩:=(show∃t,vs=Value.int k t from r4);have I5:Inv X pins Z H4 { s4 with heap:=s4.heap.push { cls:= .type "slice",data:= .fields #[vl,vu,.int k tk] } }:=I4.kept (t':=s4.toks) λb ob q=>Z01 _ q
 obtain ⟨its,r,ht,hz⟩:=I5.list hq;have hlen:=r.length;show wpAny (model X.prog X.w) X.A (subscriptTail e (.Slice lo hi (some st) p2) (.ref a) (.ref s4.heap.objs.size)) (EP X pins Z Q) X.xe { s4 with heap:=s4.heap.push { cls:= .type "slice",data:= .fields #[vl,vu,.int k tk] } };refine tail_any (ops:=[.ref a,.ref s4.heap.objs.size]) (T:="list") ht.isList.typeIs slot_list_getitem.lookup ?_ (by with_unfolding_all rfl);refine wpAny_getItem_list_slice ht.isList (Heap.IsSliceOf.new ..) pl pu (.int k tk) (by intro z;cases z;lia) ?_ (by rw [Z0g] <;> lia);generalize hjs:sliceRange (sliceBounds (some i) none (some k) its.toArray.size).1 (sliceBounds (some i) none (some k) its.toArray.size).2.1 (sliceBounds (some i) none (some k) its.toArray.size).2.2=js
 have hp:slicePick its.toArray (some i) none (some k)=(js.filterMap (its[·]?)).toArray:=by
  unfold slicePick;rw [hjs];simp
 have hjl:js.length<=its.length:=by
  rw [<-hjs];have b1:(sliceBounds (some i) none (some k) its.toArray.size).2.1=((its.length:Nat):Int):=by simp [sliceBounds,hk]
  have b2:(sliceBounds (some i) none (some k) its.toArray.size).2.2=k:=by simp [sliceBounds]
  have b3:0<=(sliceBounds (some i) none (some k) its.toArray.size).1:=by
   simp only [sliceBounds,Option.getD_some,hk,if_true,show¬i<0 by lia,if_false]
   lia
  rw [b1,b2];unfold sliceRange;rw [Z08,List.length_range];exact C8x b3 hk
 rw [hp]
 have hzl:(js.filterMap (xs[·]?)).length<=xs.length:=by
  have:=List.length_filterMap_le (xs[·]?) js
  lia
 refine i0f (.ref _) _ (I5.laid (t':=s4.toks) (o:= .lst (js.filterMap (xs[·]?))) (λb ob q=>Z01 _ q) (Z09 _) ?_) rfl (q _ _ (I5.hok.fresh (Z09 _)) hzl λz hz'=> ?_)
 ·exact i0b (by lia) _ 0 (B8j r js) (Z0c _ rfl)
 ·obtain ⟨j,_,e⟩:=List.mem_filterMap.mp hz';exact Z13 e
theorem C1q (hc:X.calm=true):A9d X (.builtin "sum") (λvs H Q=>∃(a:Addr) (ns:List Int),vs=[V.ref a]/\SqL X.K H a (ns.map V.int)/\∀i:Int,Q (.int i) H):=by
 intro pins s Z H vs us Q I r h;obtain ⟨a,ns,rfl,hq,q⟩:=h;obtain ⟨u,rfl,ru⟩:=B2s r;cases ru;have hh:X.A.handled=none:=I.ok.hd hc;obtain ⟨its,rv,p1,_⟩:=I.list hq;have la:a<s.heap.objs.size:=let ⟨_,e,_⟩:=p1.isList;Z0a e;refine call_sum_walkAnyS (wpAny_pyIter_list p1.isList ?_);refine i0h s.heap.objs.size [s.heap.objs.size,a] [s.heap.objs.size] (λa b=>b=a) (i0z its.toArray.size (λi v=>its.toArray[i]? =some v) (λi s'=>s'.heap.IsListIter s.heap.objs.size a i/\s'.heap.IsList a its.toArray) (λi=>ns.getD i 0) rfl ((Walks.list (prog:=X.prog) (w:=X.w) (A:=X.A.in1) (by simpa using hh) s.heap.objs.size a (Z0h la) its.toArray).toS) ⟨(i06 _ (Z0c _ rfl) rfl rfl),p1.isList.push _⟩ (λb hb=> ?_) (λi v hv=> ?_) λs' t' mv=> ?_)
 ·simp only [Z0e,Z1i,or_false] at hb;show b<(s.heap.push _).objs.size;rw [Z1s];rcases hb with rfl | rfl
  ·exact Nat.lt_succ_self _
  ·exact Nat.lt_succ_of_lt la
 ·have hv:its[i]? =some v:=by simpa using hv
  have hi:i<(ns.map V.int).length:=by rw [rv.length];exact (Z03.mp hv).1
  have hx:(ns.map V.int)[i]? =some (V.int (ns.getD i 0)):=by
   rw [Z08] at hi;rw [Z1z,Z0b hi];simp [hi]
  obtain ⟨u,hu,ru⟩:=rv.get hx;rw [hv] at hu;cases hu;exact ru
 ·obtain ⟨h',g',d',tk',os'⟩:=s';have eg:g'=s.gens:=mv.gens;have ed:d'=s.drawn:=mv.drawn;have eo:os'=s.os:=mv.os;subst eg ed eo;refine i0f (.int _) H (I.kept (t':=tk') (h':=h') λb o e=>mv.heap b o (by simpa using Z0h (Z0a e)) (Z01 _ e)) ⟨t',rfl⟩ (q _)
end
def B5d (v d:Addr):HO:= .ext λh=>h.IsValuesView v d
theorem C9z {v:Addr} (e:h.IsValuesView v d):A1z P w H h v (B5d v d) :=
 (i00 e (let ⟨o,e1,_⟩:=e;⟨o,e1⟩) (by rintro h1 h2 ⟨o,e1,e2⟩ k;exact i02 o (k o e1) e2))
section
variable {X:Cx}
end
def C6z (h:Heap) (d:Addr) (es:Array DictEntry) (ep:Nat):Prop:=∃o,h.get? d=some o/\o.ExactDict/\o.data= .dict es ep
theorem C6z.at (x:C6z h d es ep) (f:∀o,h.get? d=some o->h'.get? d=some o):C6z h' d es ep:=let ⟨o,e,r⟩:=x;(i02 o (f o e) r)
theorem C6z.lt (x:C6z h d es ep):d<h.objs.size:=let ⟨_,e,_⟩:=x;Z0a e
section
variable {prog:Program} {w:World} {A:Around} {E:Value->Shared->Prop} {s:Shared}
theorem B9n (d:Addr) (hd:(d == sysModules)=false) :
  MeetsIn prog w (Builtin.«dict.values» ⟨[.ref d],[]⟩) (λ_ R s=>s.TypeIs (.ref d) "dict"/\R (.ok (.ret (.ref s.heap.objs.size))) { s with heap:=s.heap.push { cls:= .type "dict_values",data:= .fields #[.ref d] } }) :=
 .of_wp λA R s ⟨ty,q⟩=>by
  unfold Builtin.«dict.values»;refine Z00 ?_;unfold Builtin.Dict.noArgs;refine Z00 (wpAny_notOrdered_dict ty ?_);show wpAny _ _ (pure d) _ _ s;refine Z04 ?_;show wpAny _ _ (Builtin.Dict.showsAll d >>= _) _ _ s;unfold Builtin.Dict.showsAll;rw [Z0t (by rw [hd];exact Z0v)];exact Z00 (Z04 (Z00 (Z16 (Z04 (i02 _ rfl q)))))
theorem B9a {v:Addr} {Q:Value->Shared->Prop} (h1:s.heap.IsValuesView v d) (h2:C6z s.heap d es ep)
  (q:Q (.ref s.heap.objs.size) { s with heap:=s.heap.push { cls:= .type "dict_valueiterator",data:= .fields #[.ref d,.int 0 0,.int es.size 0,.int ep 0] } }):wpAny (model prog w) A (pyIter (.ref v)) Q E s:=by
 obtain ⟨ov,g1,g2,g3⟩:=id h1;obtain ⟨od,k1,_,k3⟩:=h2;refine wpAny_pyIter_slot h1.typeIs F.slot_dict_values_iter (Z1g F.slot_dict_values_iter h1.typeIs F.entry_dict_values_iter ?_ (F.args_dict_values_iter_1 _));unfold Builtin.«dict_values.__iter__»;refine Z00 (Z04 (Z00 ?_));unfold Builtin.Dict_items.dictOf;refine Z00 (Z11 g1 g3 (x:= .ref d) rfl (Z04 (Z00 ?_)));unfold Builtin.Dict_items.newIterator;refine Z00 (wpAny_dictEntries k1 k3 (Z00 (wpAny_dictEpoch k1 k3 ?_)));simp only [show Builtin.Dict_items.ownsTuple "dict_valueiterator"=false by decide,Bool.false_eq_true,if_false];refine Z16 (Z04 (i0o _ rfl "dict_valueiterator" _ (i02 _ (Z0c _ rfl) rfl) F.slot_dict_valueiterator_next.lookup ?_))
 simpa [rawInt] using q
theorem B9m (h1:s.heap.IsValIter it d i es.size ep) (h2:C6z s.heap d es ep) (h5:es[i]? =some e)
  (q:∀h',h'.IsValIter it d (i+1) es.size ep->Heap.SameBut it s.heap h'->Q (some e.val) { s with heap:=h' }):wpAny (model prog w) A (pyNext (.ref it)) Q E s:=by
 obtain ⟨o,g1,g2,g3⟩:=id h1;obtain ⟨od,k1,_,k3⟩:=h2;have ty:=h1.typeIs;unfold pyNext;refine Z00 (wpAny_attempt (Z1b (name:=Str.ofString "__next__") ty F.slot_dict_valueiterator_next (Z1g F.slot_dict_valueiterator_next ty F.entry_dict_valueiterator_next ?_ (F.args_dict_valueiterator_next_1 _))));refine Z00 (Z04 (Z00 (Z00 ?_)));refine Z00 (wpAny_typeNameOfWhole_valiter ty (Z04 (Z00 (wpAny_fieldsOf g1 g3 ?_))));simp only [show Builtin.Dict_items.ownsTuple "dict_valueiterator"=false by decide,Bool.false_eq_true,if_false];show wpAny _ _ (ite ((Value.ref d == Value.none)=true) _ _) _ _ _;rw [Z0t (show¬((Value.ref d == Value.none)=true) from Z0v)];refine Z00 (Z04 (Z00 (wpAny_dictEntries k1 k3 ?_)));rw [Z0t (by simp)];refine Z00 (Z04 (Z00 (wpAny_dictEpoch k1 k3 ?_)));rw [Z0t (by simp)];refine Z04 ?_;simp only [show¬((i:Int)<0) from by lia,if_false,Int.toNat_natCast,h5];refine Z00 (Z00 (wpAny_typeNameOfWhole_valiter ty (Z04 (Z00 (wpAny_isOneOf_valiter ty ?_)))));show wpAny _ _ (setField (.ref it) 1 (rawInt ((i:Int)+1)) >>= _) _ _ s;refine Z00 (Z1t g1 g3 (by simp) ?_)
 have hit':(s.heap.update it (Obj.mapFields (·.setIfInBounds 1 (rawInt ((i:Int)+1))))).IsValIter it d (i+1) es.size ep :=
  (i06 _ (Z1r _ g1 (Obj.isFreed_of_fields (Obj.data_mapFields g3 _))) ((Obj.cls_mapFields ..).trans g2) (by rw [Obj.data_mapFields g3];simp [rawInt]))
 have ty1:Shared.TypeIs { s with heap:=s.heap.update it (Obj.mapFields (·.setIfInBounds 1 (rawInt ((i:Int)+1)))) } (.ref it) "dict_valueiterator":=hit'.typeIs;refine Z00 (Z1w (Z00 (wpAny_isOneOf_valiter ty1 (Z00 (wpAny_isOneOf_valiter ty1 ?_)))));show wpAny _ _ (pure e.val) _ _ _;exact Z04 (Z04 (i02 _ rfl (Z04 (q _ hit' (Heap.SameBut.update ..)))))
theorem C3f (hh:A.handled=none) (h1:s.heap.IsValIter it d i es.size ep) (h2:C6z s.heap d es ep) (h5:es.size<=i)
  (q:∀h',Heap.ExtBut it s.heap h'->Q none { s with heap:=h' }):wpAny (model prog w) A (pyNext (.ref it)) Q E s:=by
 obtain ⟨o,g1,g2,g3⟩:=id h1;obtain ⟨od,k1,_,k3⟩:=h2;have ty:=h1.typeIs;unfold pyNext;refine Z00 (wpAny_attempt (Z1b (name:=Str.ofString "__next__") ty F.slot_dict_valueiterator_next (Z1g F.slot_dict_valueiterator_next ty F.entry_dict_valueiterator_next ?_ (F.args_dict_valueiterator_next_1 _))));refine Z00 (Z04 (Z00 (Z00 ?_)));refine Z00 (wpAny_typeNameOfWhole_valiter ty (Z04 (Z00 (wpAny_fieldsOf g1 g3 ?_))));simp only [show Builtin.Dict_items.ownsTuple "dict_valueiterator"=false by decide,Bool.false_eq_true,if_false];show wpAny _ _ (ite ((Value.ref d == Value.none)=true) _ _) _ _ _;rw [Z0t (show¬((Value.ref d == Value.none)=true) from Z0v)];refine Z00 (Z04 (Z00 (wpAny_dictEntries k1 k3 ?_)));rw [Z0t (by simp)];refine Z00 (Z04 (Z00 (wpAny_dictEpoch k1 k3 ?_)));rw [Z0t (by simp)];refine Z04 ?_;simp only [show¬((i:Int)<0) from by lia,if_false,Int.toNat_natCast,Array.getElem?_eq_none h5];refine Z00 (Z00 (wpAny_typeNameOfWhole_valiter ty (Z04 ?_)));show wpAny _ _ (setField (.ref it) 0 .none >>= _) _ _ _;refine Z00 (Z1t g1 g3 (by simp) ?_);show wpAny _ _ (newExc (.type "StopIteration") [] >>= _) _ _ (_:Shared);refine Z00 ?_;simp only [newExc,newTuple];refine Z00 (Z16 (Z00 (m:=firstArgMember _ _) (wpAny_of_eq (a:=Value.none) (by first | rfl | (simp only [firstArgMember];rfl)) (Z16 ?_ (by size_fits)))) (by size_fits));simp only [raiseNew];refine Z00 (wpAny_handled ?_);rw [show A.in1.handled=none from hh];refine Z00 (Z04 (wpAny_throw ?_));refine Z00 (wpAny_isInstance (T:="StopIteration") (b:=true) (i02 _ (Z0c _ rfl) rfl) isSubtype_stop (Z04 ?_));exact q _ (((Heap.SameBut.update ..).extBut.push _).push _)
theorem B7w (hh:A.handled=none) (I d:Addr) (hne:d≠I) (es:Array DictEntry) (ep:Nat) :
  Walks prog w A I [I,d] [I] es.size (λi v=>∃e,es[i]? =some e/\v=e.val) (λi h=>h.IsValIter I d i es.size ep/\C6z h d es ep) where
 sub:=λb hb=>by simp at hb;simp [hb]
 frame:=λ_ _ _ st hk=>⟨let ⟨o,e,r⟩:=st.1;(i02 o (hk I (by simp) o e) r),st.2.at λo e=>hk d (by simp) o e⟩
 item:=λi s Q E hi st hQ=>by
  have hx:es[i]? =some es[i]:=Array.getElem?_eq_getElem hi;exact B9m st.1 st.2 hx λh' hit' hs'=>hQ _ h' s.toks (i02 _ hx rfl) ⟨hit',st.2.at λo e=>hs'.extBut _ _ hne e⟩ λb o hb e=>hs'.extBut b o (λh=>hb (by simp [h])) e
 done:=λs Q E st hQ=>C3f hh st.1 st.2 (Z09 _) λh' he'=>hQ h' s.toks λb o hb e=>he' b o (λh=>hb (by simp [h])) e
 self:=λ_ _ _ _ st hQ=>wpAny_pyIter_valiter st.1 hQ
theorem C3m {r:Addr}:PySem.W.KdlSrc prog w "dict_values" r d es.size (λi v=>∃e,es[i]? =some e/\v=e.val) (λh=>h.IsValuesView r d/\C6z h d es ep) where
 type:=λ_ hm=>hm.1.typeIs
 there:=λ_ hm=>⟨let ⟨_,ho,_⟩:=hm.1;Z0a ho,hm.2.lt⟩
 keep:=λ_ _ hm hk=>⟨let ⟨o,ho,x⟩:=hm.1;(i02 o (hk r (.inl rfl) o ho) x),hm.2.at λo e=>hk d (.inr rfl) o e⟩
 notList:=by decide
 notTuple:=by decide
 hint:=λ_ _ _ _ hm hq=>PySem.W.kdl_hint_values hm.1.typeIs hq
 iter:=λ_ _ hh hm=>(i0f _ _ (λ_ _ hq=>B9a hm.1 hm.2 hq) (B7w hh _ d (Z0h hm.2.lt) es ep) ⟨(i06 _ (Z0c _ rfl) rfl rfl),hm.2.at λo e=>Z01 _ e⟩)
end
section
variable {X:Cx}
def D5z (H:Hp) (a:Addr) (vs:List V):Prop:=(∃kvs,Rd H a (.dK kvs)/\vs=kvs.map (·.2))\/∃kvs,Rd H a (.dT kvs)/\vs=kvs.map (·.2)
theorem D2a:∀{kvs:List (Key×V)} {ws:List (Key×Value)},KV kvs ws->A2p (kvs.map (·.2)) (ws.map (·.2))
 | _,_,.nil=> .nil
 | _,_,.cons r t=> .cons r.2 (D2a t)
theorem D1z {P:Program} {w:World} {H:Hp}:∀{kvs:List (List Key×V)} {xs:List (List Key×Addr×Value)},Paired (λ(p:List Key×V) (q:List Key×Addr×Value)=>p.1=q.1/\H q.2.1=some (.tup (p.1.map kV))/\A2z p.2 q.2.2) kvs xs->
  A2p (kvs.map (·.2)) (xs.map ((λx:DictEntry=>x.val)∘entryOfKey (tupleKind (A0x P w))))
 | _,_,.nil=> .nil
 | _,_,.cons r t=> .cons r.2.2 (D1z t)
theorem B4d {vs:List V} (I:Inv X pins Z H s) (h:D5z H a vs) :
  vs.length<=sizeLine/\(a == sysModules)=false/\∃es ep,C6z s.heap a es ep/\A2p vs (es.toList.map (·.val)):=by
 rcases h with ⟨kvs,e,rfl⟩ | ⟨kvs,e,rfl⟩
 ·refine e0b (B1a I.hok e) ?_;rintro z hs ws rel o es ep ho ⟨hx,hd,hk,hp,hn⟩;refine ⟨by rw [Z08];exact z,(i0b hs es ep (i06 o ho hx hd) ?_)⟩
  have:es.toList.map (·.val)=ws.map (·.2):=List.ext_getElem? λi=>by
   rw [Z1z,Z1z];have hl:=hp.length;by_cases hi:i<es.toList.length
   ·have hi2:i<ws.length:=by lia
    have e1:es.toList[i]? =some es.toList[i]:=Z0b hi;have e2:ws[i]? =some ws[i]:=Z0b hi2;rw [e1,e2];have:=(hp.get? (i:=i) (e:=es.toList[i]) e1 (show ws[i]? =some (ws[i].1,ws[i].2) from e2)).2;show some es.toList[i].val=some ws[i].2;rw [this]
   ·rw [List.getElem?_eq_none (by lia),List.getElem?_eq_none (by lia)];rfl
  rw [this];exact D2a rel
 ·refine e0b (show A1z X.prog X.w H s.heap a (.dT kvs) from D4n I.hok e) ?_;rintro z hs xs rel o es ep ho ⟨hx,hd,he,_⟩;refine ⟨by rw [Z08];exact z,(i0b hs es ep (i06 o ho hx hd) ?_)⟩;rw [he,List.map_map];exact D1z rel
def D0q:V->List V->Hp->VK->Prop:=λx vs H Q=>∃a us,x= .ref a/\vs=[]/\D5z H a us/\∀p,H p=none->Q (.ref p) (upd H p (B5d p a))
theorem C4i:MtR X "dict.values" D0q:=by
 intro pins s Z H x xs v us Q I rx rv h;obtain ⟨a,ws,rfl,rfl,ha,q⟩:=h;cases rx;cases rv;obtain ⟨_,hs,es,ep,⟨o,ho,hx,hd⟩,_⟩:=B4d I ha;have ty:s.TypeIs (.ref a) "dict":=(i02 o ho hx.1);refine call_meetsIn PySem.F.slot_dict_values ty PySem.F.entry_dict_values (PySem.F.args_dict_values_1 _) (B9n a hs) ⟨ty,?_⟩;exact i0f (.ref s.heap.objs.size) _ (I.laid (t':=s.toks) (o:=B5d s.heap.objs.size a) (λb u e=>Z01 _ e) (Z09 _) (C9z (i06 _ (Z0c _ rfl) rfl rfl))) rfl (q _ (I.hok.fresh (Z09 _)))
theorem C2z (hc:X.calm=true):A9d X (.type "list") (λxs H Q=>∃v a us,xs=[V.ref v]/\H v=some (B5d v a)/\D5z H a us/\∀l,H l=none->Q (.ref l) (upd H l (.lst us))):=by
 intro pins s Z H xs us Q I r h;refine e08 h ?_;clear h;rintro v a ws rfl hv ha q;obtain ⟨u,rfl,ru⟩:=B2s r;cases ru;obtain ⟨vw,_⟩:=(show A1z X.prog X.w H s.heap v (B5d v a) from I.hok v _ hv);obtain ⟨hz,hs,es,ep,bare,rv⟩:=B4d I ha;have ll:=rv.length;rw [Z08] at ll;have ll:ws.length=es.size:=by rw [ll];exact Array.length_toList
 refine PySem.W.kdl_call (C3m (r:=v) (d:=a) (es:=es) (ep:=ep)) (I.ok.hd hc) ⟨vw,bare⟩ (by rw [<-ll];exact hz) λh' tk acc c kp hD hacc=> ?_
 have e:acc.toList=es.toList.map (·.val):=List.ext_getElem? λi=>by
  by_cases hi:i<acc.toList.length
  ·have e1:acc.toList[i]? =some acc.toList[i]:=Z0b hi;obtain ⟨d,e2,e3⟩:=hacc.2 i acc.toList[i] (by rw [<-Array.getElem?_toList];exact e1);rw [e1,Z1z,Array.getElem?_toList,e2,e3];rfl
  ·have:=hacc.1;rw [List.getElem?_eq_none (by lia),List.getElem?_eq_none (by rw [Z08,Array.length_toList];rw [Array.length_toList] at hi;lia)]
 rw [<-e] at rv;exact i0f (.ref s.heap.objs.size) _ (I.laid (t':=tk) kp (Z09 _) (show A1z X.prog X.w _ h' _ (.lst _) from (i0b hz acc.toList c rv (by simpa using hD)))) rfl (q _ (I.hok.fresh (Z09 _)))
end
abbrev B2w (h:Heap) (z TI TO:Addr) (f0:Value) (b:Bool):Prop :=
 h.get? z=some { cls:= .type "zip",dict:=none,data:= .fields #[f0,.bool b,.bool false,.ref TI,.ref TO],slots:= #[] }
section
variable {prog:Program} {w:World} {A:Around} {E:Value->Shared->Prop} {s:Shared}
theorem C0k {Q:Option Obj->Shared->Prop} (h:Q (s.heap.get? a) s):wpAny (model prog w) A (loadIfAlive a) Q E s:=λΓ p _=>by
 show PySem.Sem.wp _ Γ (.loadIfAlive a .pure) _ _ p s;rw [PySem.Sem.wp];exact h
theorem B2y {z TI TO:Addr} {Q:Bool->Shared->Prop} (hz:B2w s.heap z TI TO (rawInt (p:Int)) b) (hp:s.heap.get? p=some o)
  (q:∀h',B2w h' z TI TO (rawInt (p:Int)) true->Heap.SameBut z s.heap h'->Q false { s with heap:=h' }):wpAny (model prog w) A (Builtin.SmallTypes.ownedTupleIsFree (.ref z)) Q E s:=by
 unfold Builtin.SmallTypes.ownedTupleIsFree;refine Z00 (Z11 hz rfl (x:=rawInt (p:Int)) rfl ?_);show wpAny _ _ (loadIfAlive (Int.toNat (p:Int)) >>= _) _ _ _;refine Z00 (C0k ?_);rw [Int.toNat_natCast,hp];show wpAny _ _ (field (.ref z) 1 >>= _) _ _ _;refine Z00 (Z11 hz rfl (x:= .bool b) rfl ?_)
 cases b with
 | true =>
  show wpAny _ _ (pure false) _ _ _;exact Z04 (q s.heap hz ⟨rfl,λ_ _=>rfl⟩)
 | false =>
  show wpAny _ _ (setField (.ref z) 1 (.bool true) >>= _) _ _ _;refine Z00 (Z1h hz (by simp) λg1 z1 b1=> ?_);exact Z04 (q g1 z1 b1)
end
section
variable {z TI TO i1 i2 l1 l2:Addr} {st1 st2:Nat->Heap->Prop} {src1 src2:Array Value->Heap->Prop} {prog:Program} {w:World} {A:Around} {E:Value->Shared->Prop} {s:Shared}
theorem C9s (N1:Nx i1 l1 st1 src1) (N2:Nx i2 l2 st2 src2) {x:Value} (D:ZipApart z TI TO i1 i2 l1 l2)
  (hz:B2w s.heap z TI TO (rawInt (p:Int)) b) (hp:s.heap.get? p=some o) (hTI:IsPair s.heap TI (.ref i1) (.ref i2)) (h1:st1 k1 s.heap) (h2:st2 k2 s.heap) (hl1:src1 xs s.heap) (hl2:src2 ys s.heap) (hx:xs[k1]? =some x) (hy:ys[k2]? =some y)
  (hQ:∀h',B2w h' z TI TO (rawInt (p:Int)) true->st1 (k1+1) h'->st2 (k2+1) h'->IsPair h' s.heap.objs.size x y->
   (∀c o,c≠z->c≠i1->c≠i2->s.heap.get? c=some o->h'.get? c=some o)->Q (some (.ref s.heap.objs.size)) { s with heap:=h' }):wpAny (model prog w) A (pyNext (.ref z)) Q E s:=by
 have hT:s.TypeIs (.ref z) "zip":=(i02 _ hz rfl);unfold pyNext;refine Z00 (wpAny_attempt (Z1b (name:=Str.ofString "__next__") hT F.slot_zip_next (Z1g F.slot_zip_next hT F.entry_zip_next ?_ (F.args_zip_next_1 _))));show wpAny _ _ (field (.ref z) 2 >>= _) _ _ _;refine Z00 (Z11 hz rfl (x:= .bool false) rfl ?_);show wpAny _ _ (field (.ref z) 3 >>= _) _ _ _;refine Z00 (Z11 hz rfl (x:= .ref TI) rfl ?_);refine Z00 (Z21 hTI rfl ?_);show wpAny _ _ (Builtin.SmallTypes.ownedTupleIsFree (.ref z) >>= _) _ _ _;refine Z00 (B2y hz hp λg1 z1 b1=> ?_);simp only [Bool.false_eq_true,if_false];refine Z00 ?_;simp only [<-Array.forIn_toList,List.forIn_cons,List.forIn_nil];refine Z00 (Z00 (Z1w ?_));show wpAny _ _ (Builtin.SmallTypes.nextOf (.ref i1) >>= _) _ _ _;refine Z00 (N1.item (N1.mv h1 λo e=>b1.extBut _ _ D.i1z e) (N1.mvS hl1 λo e=>b1.extBut _ _ D.l1z e) hx λg2 t2 b2=>Z04 (Z04 ?_));refine Z00 (Z00 (Z1w ?_));show wpAny _ _ (Builtin.SmallTypes.nextOf (.ref i2) >>= _) _ _ _;refine Z00 (N2.item (N2.mv h2 λo e=>b2.extBut _ _ D.i12.symm (b1.extBut _ _ D.i2z e)) (N2.mvS hl2 λo e=>b2.extBut _ _ D.l2i1 (b1.extBut _ _ D.l2z e)) hy λg3 t3 b3=>Z04 (Z04 (Z04 ?_)));have hsz:g3.objs.size=s.heap.objs.size:=by rw [b3.1,b2.1,b1.1]
 have zlt:z<g3.objs.size:=by rw [hsz];exact Z0a hz
 show wpAny _ _ (newTuple [x,y] >>= _) _ _ _;refine Z00 (wpAny_newTuple ?_);have z3:B2w g3 z TI TO (rawInt (p:Int)) true:=b3.extBut _ _ D.i2z.symm (b2.extBut _ _ D.i1z.symm z1);have k3:∀c o,c≠z->c≠i1->c≠i2->s.heap.get? c=some o->g3.get? c=some o:=λc o c1 c3 c4 e=>b3.extBut _ _ c4 (b2.extBut _ _ c3 (b1.extBut _ _ c1 e));have u1:st1 (k1+1) g3:=N1.mv t2 λo e=>b3.extBut _ _ D.i12 e;have pr:IsPair (g3.push { cls:= .type "tuple",data:= .seq #[x,y] }) g3.objs.size x y:=Z0c _ rfl;rw [hsz] at pr;refine Z04 (i02 _ rfl (Z04 ?_));show Q (some (.ref g3.objs.size)) _;rw [hsz];exact hQ _ (Z01 _ z3) (N1.mv u1 λo e=>Z01 _ e) (N2.mv t3 λo e=>Z01 _ e) pr λc o c1 c3 c4 e=>Z01 _ (k3 c o c1 c3 c4 e)
theorem D3k (N1:Nx i1 l1 st1 src1) (N2:Nx i2 l2 st2 src2) (hh:A.handled=none) (D:ZipApart z TI TO i1 i2 l1 l2)
  (hz:B2w s.heap z TI TO (rawInt (p:Int)) b) (hp:s.heap.get? p=some o) (hTI:IsPair s.heap TI (.ref i1) (.ref i2)) (h1:st1 k1 s.heap) (h2:st2 k2 s.heap) (hl1:src1 xs s.heap) (hl2:src2 ys s.heap) (hend:xs[k1]? =none\/ys[k2]? =none)
  (hQ:∀h',(∀c o,c≠z->c≠i1->c≠i2->s.heap.get? c=some o->h'.get? c=some o)->Q none { s with heap:=h' }):wpAny (model prog w) A (pyNext (.ref z)) Q E s:=by
 have hT:s.TypeIs (.ref z) "zip":=(i02 _ hz rfl);unfold pyNext
 have fin:∀(h':Heap) (e:Addr),(∀c o,c≠z->c≠i1->c≠i2->s.heap.get? c=some o->h'.get? c=some o)->(∃o,h'.get? e=some o/\o.cls= .type "StopIteration")->
   wpAny (model prog w) A (isInstance (.ref e) (.type "StopIteration") >>= λb=>if b=true then pure none else throw (.ref e)) Q E { s with heap:=h' }:=λh' e hk ⟨o,ho,hc⟩ =>
  Z00 (wpAny_isInstance (T:="StopIteration") (b:=true) (i02 o ho hc) isSubtype_stop (Z04 (hQ _ hk)))
 refine Z00 (wpAny_attempt (Z1b (name:=Str.ofString "__next__") hT F.slot_zip_next (Z1g F.slot_zip_next hT F.entry_zip_next ?_ (F.args_zip_next_1 _))));show wpAny _ _ (field (.ref z) 2 >>= _) _ _ _;refine Z00 (Z11 hz rfl (x:= .bool false) rfl ?_);show wpAny _ _ (field (.ref z) 3 >>= _) _ _ _;refine Z00 (Z11 hz rfl (x:= .ref TI) rfl ?_);refine Z00 (Z21 hTI rfl ?_);show wpAny _ _ (Builtin.SmallTypes.ownedTupleIsFree (.ref z) >>= _) _ _ _;refine Z00 (B2y hz hp λg1 z1 b1=> ?_);simp only [Bool.false_eq_true,if_false];refine Z00 ?_;simp only [<-Array.forIn_toList,List.forIn_cons,List.forIn_nil];refine Z00 (Z00 (Z1w ?_));show wpAny _ _ (Builtin.SmallTypes.nextOf (.ref i1) >>= _) _ _ _;have u1:=N1.mv h1 λo e=>b1.extBut _ _ D.i1z e;have v1:=N1.mvS hl1 λo e=>b1.extBut _ _ D.l1z e
 cases hx:xs[k1]? with
 | none =>
  refine Z00 (N1.fin hh u1 v1 hx λg2 e b2 he=> ?_);exact fin g2 e (λc o c1 c3 _ x=>b2 _ _ c3 (b1.extBut _ _ c1 x)) he
 | some x =>
  have hy:ys[k2]? =none:=by
   rcases hend with h | h
   ·rw [hx] at h;cases h
   ·exact h
  refine Z00 (N1.item u1 v1 hx λg2 t2 b2=>Z04 (Z04 ?_));refine Z00 (Z00 (Z1w ?_));show wpAny _ _ (Builtin.SmallTypes.nextOf (.ref i2) >>= _) _ _ _;refine Z00 (N2.fin hh (N2.mv h2 λo e=>b2.extBut _ _ D.i12.symm (b1.extBut _ _ D.i2z e)) (N2.mvS hl2 λo e=>b2.extBut _ _ D.l2i1 (b1.extBut _ _ D.l2z e)) hy λg4 e b4 he=> ?_);exact fin g4 e (λc o c1 c3 c4 x=>b4 _ _ c4 (b2.extBut _ _ c3 (b1.extBut _ _ c1 x))) he
end
def ZS (z TI TO i1 i2 a b d:Addr) (i:Nat) (h:Heap):Prop:=IsPair h TI (.ref i1) (.ref i2)/\h.IsListIter i1 a i/\h.IsTupleIter i2 b i/\
 ((IsZip h z TI TO .none/\∃u v,IsPair h TO u v)\/∃(p:Addr) (o:Obj) (bb:Bool),B2w h z TI TO (rawInt (p:Int)) bb/\h.get? p=some o/\p≠z/\p≠i1/\p≠i2/\p≠d)
theorem ZS.at {z TI TO i1 i2 b:Addr} (x:ZS z TI TO i1 i2 a b d i h) (nz:z≠d) (n1:TI≠d) (n2:TO≠d) (n3:i1≠d) (n4:i2≠d) (f:∀c o,c≠d->h.get? c=some o->h'.get? c=some o):ZS z TI TO i1 i2 a b d i h':=by
 obtain ⟨h1,h2,h3,h4⟩:=x;refine i04 (f _ _ n1 h1) ((A8a i1 a).mv h2 λo e=>f _ _ n3 e) ((A5w i2 b).mv h3 λo e=>f _ _ n4 e) ?_;rcases h4 with ⟨h4,u,v,h5⟩ | ⟨p,o,bb,h4,h5,m1,m2,m3,m4⟩
 ·exact .inl ⟨f _ _ nz h4,(i03 u v (f _ _ n2 h5))⟩
 ·exact .inr (i0w p o bb (f _ _ nz h4) (f _ _ m4 h5) m1 m2 m3 m4)
section
variable {z TI TO i1 i2 a b d:Addr} {prog:Program} {w:World} {A:Around} {E:Value->Shared->Prop} {s:Shared}
theorem D4z {x:Value} (D:ZipApart z TI TO i1 i2 a b) (ld:d<s.heap.objs.size) (hz:ZS z TI TO i1 i2 a b d i s.heap) (hl:s.heap.IsList a xs) (ht:s.heap.IsTuple b ys) (hx:xs[i]? =some x) (hy:ys[i]? =some y)
  (hQ:∀h',ZS z TI TO i1 i2 a b d (i+1) h'->IsPair h' s.heap.objs.size x y->(∀c o,c≠z->c≠TO->c≠i1->c≠i2->s.heap.get? c=some o->h'.get? c=some o)->Q (some (.ref s.heap.objs.size)) { s with heap:=h' }) :
  wpAny (model prog w) A (pyNext (.ref z)) Q E s:=by
 obtain ⟨h1,h2,h3,h4⟩:=hz;have n4:i1<s.heap.objs.size:=let ⟨_,e,_⟩:=(A8a i1 a).ob h2;Z0a e;have n5:i2<s.heap.objs.size:=let ⟨_,e,_⟩:=(A5w i2 b).ob h3;Z0a e;rcases h4 with ⟨h4,u,v,h5⟩ | ⟨p,o,bb,h4,h5,m1,m2,m3,m4⟩
 ·have nz:z<s.heap.objs.size:=Z0a h4;refine C1c (A8a i1 a) (A5w i2 b) D h4 h1 h5 h2 h3 hl ht hx hy λh' z1 z2 z3 z4 z5 kp=> ?_;exact hQ h' (i04 (kp _ _ D.TIz D.TITO D.TIi1 D.TIi2 h1) z3 z4 (.inr (i0w s.heap.objs.size _ false z1 z5 (Z1q nz) (Z1q n4) (Z1q n5) (Z1q ld)))) z5 kp
 ·refine C9s (A8a i1 a) (A5w i2 b) D h4 h5 h1 h2 h3 hl ht hx hy λh' z1 z3 z4 z5 kp=> ?_;exact hQ h' (i04 (kp _ _ D.TIz D.TIi1 D.TIi2 h1) z3 z4 (.inr (i0w p o true z1 (kp _ _ m1 m2 m3 h5) m1 m2 m3 m4))) z5 λc o c1 _ c3 c4 e=>kp c o c1 c3 c4 e
theorem D7j (hh:A.handled=none) (D:ZipApart z TI TO i1 i2 a b) (hz:ZS z TI TO i1 i2 a b d i s.heap) (hl:s.heap.IsList a xs) (ht:s.heap.IsTuple b ys) (he:xs[i]? =none\/ys[i]? =none)
  (hQ:∀h',(∀c o,c≠z->c≠TO->c≠i1->c≠i2->s.heap.get? c=some o->h'.get? c=some o)->Q none { s with heap:=h' }):wpAny (model prog w) A (pyNext (.ref z)) Q E s:=by
 obtain ⟨h1,h2,h3,h4⟩:=hz;rcases h4 with ⟨h4,u,v,h5⟩ | ⟨p,o,bb,h4,h5,m1,m2,m3,m4⟩
 ·exact C6b (A8a i1 a) (A5w i2 b) hh D h4 h1 h5 h2 h3 hl ht he hQ
 ·exact D3k (A8a i1 a) (A5w i2 b) hh D h4 h5 h1 h2 h3 hl ht he λh' kp=>hQ h' λc o c1 _ c3 c4 e=>kp c o c1 c3 c4 e
end
section
variable {prog:Program} {w:World} {K:Type} [DecidableEq K] {knd:KeyKind prog w K} {A:Around} {R:Result->Shared->Prop} {z TI TO i1 i2 a b d:Addr} {xs ys:Array Value} {rs:List (K×Value)} {h₀:Heap} {g:Array GenState} {dr:Drawn} {os:OsState}
theorem C8a (hh:A.handled=none) (D:ZipApart z TI TO i1 i2 a b) (nz:z≠d) (n1:TI≠d) (n2:TO≠d) (n3:i1≠d) (n4:i2≠d) (na:a≠d) (nb:b≠d) (hsz:rs.length<=sizeLine)
  (pa:∀(i:Nat) (k:K) (u:Value),rs[i]? =some (k,u)->∃kv,xs[i]? =some kv/\ys[i]? =some u/\knd.is k kv=true) (he:xs[rs.length]? =none\/ys[rs.length]? =none) (hl:h₀.IsList a xs) (ht:h₀.IsTuple b ys) (aTO:a≠TO) (a1:a≠i1) (a2:a≠i2) (az:a≠z) (bTO:b≠TO) (b1:b≠i1) (b2:b≠i2) (bz:b≠z)
  (fin:∀h' tk,h'.DictOf knd d (merged [] rs)->(∀c o,c≠z->c≠TO->c≠i1->c≠i2->c≠d->h₀.get? c=some o->h'.get? c=some o)->R (.ok (.ret .none)) ⟨h',g,dr,tk,os⟩) :
  ∀(k i:Nat) (h:Heap) (tk:Nat),rs.length-i=k->i<=rs.length->ZS z TI TO i1 i2 a b d i h->(∀c o,c≠z->c≠TO->c≠i1->c≠i2->c≠d->h₀.get? c=some o->h.get? c=some o)->h.DictOf knd d (merged [] (rs.take i))->
   codeAny (model prog w) A (.builtin "dict.update.loop" ⟨[.ref d,.ref z,rawInt i,.none],[]⟩) R ⟨h,g,dr,tk,os⟩:=by
 intro k
 induction k with
 | zero =>
  intro i h tk hk hi hit kp hD;have hin':i=rs.length:=by lia
  refine codeAny_builtin A4u ?_;rw [Around.under_plainId A2f _];show wpAny _ A.in1 (pyNext (.ref z) >>= _) _ _ _;refine Z00 (D7j (s:=⟨h,g,dr,tk,os⟩) (by simpa using hh) D hit (hl.at λo e=>kp a o az aTO a1 a2 na e) (let ⟨o,e,r⟩:=ht;(i02 o (kp b o bz bTO b1 b2 nb e) r)) (by rw [hin'];exact he) λh' kp'=> ?_);show wpAny _ A.in1 (Builtin.Dict.addKeywords d [] >>= λ_=>ret Value.none) _ _ _;rw [hin',Z18] at hD;obtain ⟨od,es,ep,ho,r⟩:=hD;exact Z00 (Z04 (Z04 (fin h' tk (i0g od es ep (kp' d od nz.symm n2.symm n3.symm n4.symm ho) r) λc o c1 c2 c3 c4 c5 e=>kp' c o c1 c2 c3 c4 (kp c o c1 c2 c3 c4 c5 e))))
 | succ k ih =>
  intro i h tk hk hi hit kp hD;have hlt:i<rs.length:=by lia
  obtain ⟨⟨k',u⟩,hku⟩:∃p,rs[i]? =some p:=⟨rs[i],Z0b _⟩;obtain ⟨kv,hx,hy,his⟩:=pa i k' u hku;refine codeAny_builtin A4u ?_;rw [Around.under_plainId A2f _];show wpAny _ A.in1 (pyNext (.ref z) >>= _) _ _ _;have ld:d<h.objs.size:=let ⟨_,_,_,e,_⟩:=hD;Z0a e;refine Z00 (D4z (s:=⟨h,g,dr,tk,os⟩) D ld hit (hl.at λo e=>kp a o az aTO a1 a2 na e) (let ⟨o,e,r⟩:=ht;(i02 o (kp b o bz bTO b1 b2 nb e) r)) hx hy λh' zs pr kp'=> ?_);have pr:IsPair h' h.objs.size kv u:=pr;have hT:(⟨h',g,dr,tk,os⟩:Shared).TypeIs (.ref h.objs.size) "tuple":=(i02 _ pr rfl);show wpAny _ A.in1 (holding [Value.ref h.objs.size] _ >>= _) _ _ _;refine Z00 (Z1w (Z00 (wpAny_tryCatch ?_)));unfold Builtin.Dict.pairItems;refine Z00 (wpAny_typeOf hT ?_);rw [Z12 (by decide)];refine Z00 (Z21 pr rfl (Z04 ?_));show wpAny _ A.in1 (holding [kv,u] (dictSet d kv u)) _ _ _
  have hD':h'.DictOf knd d (merged [] (rs.take i)):=by
   obtain ⟨od,es,ep,ho,r⟩:=hD;exact i0g od es ep (kp' d od nz.symm n2.symm n3.symm n4.symm ho) r
  have hlen:(merged [] (rs.take i)).length<=sizeLine:=by
   have e1:=merged_length_le ([]:List (K×Value)) (rs.take i);have e2:(rs.take i).length<=rs.length:=by rw [Z0x];lia
   simp only [Z2g,Nat.zero_add] at e1
   lia
  refine Z1w (wpAny_dictSet_pairs (hsz:=hlen) (s:=⟨h',g,dr,tk,os⟩) his hD' λh2 hD2 sb=> ?_);rw [<-merged_take_succ [] rs i (k',u) hku] at hD2;refine Z04 ⟨plainId_quiet A2f _,ih (i+1) h2 _ (by lia) (by lia) (zs.at nz n1 n2 n3 n4 λc o hc e=>(sb.2 c hc).trans e) ?_ hD2⟩;intro c oc c1 c2 c3 c4 c5 e;exact (sb.2 c c5).trans (kp' c oc c1 c2 c3 c4 (kp c oc c1 c2 c3 c4 c5 e))
end
theorem A8n:typeLookup (.type "zip") "__getattr__"=pure none:=by rw [typeLookup_type,builtinLookup_eq_fast];kernel_rfl
theorem A6e:entryFor table "zip.__getattribute__"=some Builtin.«object.__getattribute__» :=
 entryFor_alias (id':="object.__getattribute__") (by kernel_rfl) (by decide +kernel) (by decide +kernel) (by kernel_rfl)
theorem C4f:typeLookup (.type "zip") "keys"=pure none:=by rw [typeLookup_type,builtinLookup_eq_fast];kernel_rfl
theorem B3k (a:Addr) (fs:Array Value) (sl:Array (Option Value)) (name:Str) (u:Tok) (hmiss:typeLookup (.type "zip") name=pure none) (hname:(["__module__","__name__","__qualname__","__doc__","__annotations__"]:List Str).contains name=false) (hsz:name.length+100<=sizeLine:=by size_fits) :
  Meets (Builtin.«object.__getattribute__» ⟨[.ref a,.str name u],[]⟩) (λA R s=>s.heap.get? a=some { cls:= .type "zip",dict:=none,data:= .fields fs,slots:=sl }/\raisesAttr (.ref a) name A R s) :=
 Meets.of_wp λprog w A R s hs=>by
  obtain ⟨hp,g,d,tk,os⟩:=s;obtain ⟨hx,hs⟩:=hs;have hT:(⟨hp,g,d,tk,os⟩:Shared).TypeIs (.ref a) "zip":=(i02 _ hx rfl);unfold Builtin.«object.__getattribute__»
  repeat (any_goals (first | assumption | wp_step))
  simp only [hname,Bool.false_eq_true,if_false]
  repeat (any_goals (first | assumption | wp_step))
  exact wpAny_raiseAttrError hs.1 hs.2 (attrMsg_fits (by decide +kernel) hsz)
theorem C3g {fs:Array Value}
  (hx:s.heap.get? a=some { cls:= .type "zip",dict:=none,data:= .fields fs,slots:=sl }) (hA:A.handled=none)
  (h:∀h' tk,(∀b ob,s.heap.get? b=some ob->h'.get? b=some ob)->Q none { s with heap:=h',toks:=tk }):wpAny (model prog w) A (getAttr? (.ref a) "keys") Q E s:=by
 obtain ⟨hp,g,d,tk,os⟩:=s;have hT:∀tk',(⟨hp,g,d,tk',os⟩:Shared).TypeIs (.ref a) "zip":=λ_=>(i02 _ hx rfl);have f1:=sub_AttributeError;have f3:=F.slot_zip_getattribute.lookup;have f4:=F.slot_zip_getattribute.bind (.ref a);have f5:=A8n;unfold getAttr? getAttrBy? getAttrBy
 repeat (any_goals (first | assumption | exact hT _ | ((with_reducible show wpAny _ _ (call (Value.builtin "zip.__getattribute__") _ _) _ _ _);refine call_meets F.slot_zip_getattribute (hT _) A6e (F.args_zip_getattribute_2 _ _) (B3k a fs sl "keys" _ C4f (by decide) (by decide)) (i00 hx hA λh' tk' e hx'=> ?_)) | wp_step))
 obtain ⟨t',u',he⟩:=hx'.there;show wpAny _ _ (getattributeRaised _ _ _ _ _ _ _) _ _ _;unfold getattributeRaised
 repeat (any_goals (first | assumption | wp_step))
 all_goals exact h _ _ hx'.1
def tDZ (K:Frag) (ta:TA):TE:=λZ H Q=>ta Z H λvs H1=>∃l t ks us,vs=[.ref l,.ref t]/\SqL K H1 l ((ks:List Key).map kV)/\SqT K H1 t us/\ks.length=us.length/\∀p,H1 p=none->Q (.ref p) (upd H1 p (.dK (A3d [] (ks.zip us))))
theorem D1q:∀{ks:List Key} {us:List V} {vs:List Value},ks.length=us.length->A2p us vs->KV (ks.zip us) (ks.zip vs)
 | [],[],_,_,.nil=> .nil
 | k::ks,u::us,_,h,.cons r t=> .cons ⟨rfl,r⟩ (D1q (by simpa using h) t)
theorem B6f {P:Program} {w:World}:∀{ks:List Key} {its:List Value},A2p (ks.map kV) its->∀{i:Nat} {k:Key},ks[i]? =some k->∃v,its[i]? =some v/\(A0x P w).is k v=true
 | [],_,.nil,i,k,h=>by simp at h
 | _::_,_,.cons r t,0,k,h=>by simp at h;subst h;exact i02 _ rfl (B9v r)
 | _::_,_,.cons r t,i+1,k,h=>by
  obtain ⟨v,e1,e2⟩:=B6f (P:=P) (w:=w) t (i:=i) (k:=k) (by simpa using h);exact i02 v (by simpa using e1) e2
section
variable {X:Cx}
theorem C3c {a b:Expr} {ta:TA} {p1 p2 pos1 pos2:Pos} (hc:X.calm=true) (hgd:Gl X "dict") (hmd:X.mg "dict"=none) (hgz:Gl X "zip") (hmz:X.mg "zip"=none) (ha:PA X [a,b] ta)
  (hs0:starEach [.Call (.Name "zip" p2) [a,b] [] pos2] X.env=(false,eval (.Call (.Name "zip" p2) [a,b] [] pos2) X.env)::starEach [] X.env:=by rfl)
  (hs:starEach [a,b] X.env=[(false,eval a X.env),(false,eval b X.env)]:=by rfl) (hs2:starEach [b] X.env=[(false,eval b X.env)]:=by rfl) :
  PE X (.Call (.Name "dict" p1) [.Call (.Name "zip" p2) [a,b] [] pos2] [] pos1) (tDZ X.K ta):=by
 intro pins s Z H Q I h;have hh:X.A.handled=none:=I.ok.hd hc;refine wpAny_Call_Name_kw (B0o I hgd hmd boot_dict ?_);refine PyProof.Rows.callWith_type1 ?_ hs0 (by rfl);rw [hs0];show wpAny _ _ (spliced ((false,eval _ X.env)::backTo pos1 (starEach [] X.env))) _ _ s;refine Calls.spliced_cons ?_;refine Call_ (B0o I hgz hmz boot_zip (PyProof.Rows.callWith_type1 (thn (ha pos2 pins s Z H _ I h) ?_) (by rw [hs,hs2]) (by rw [hs2];rfl)));rintro us s1 ⟨vs,H1,I1,r1,q1⟩;refine e0c q1 λl1 l2 ks ws e hq1 hq2 hle q=>?_;clear q1;subst e;obtain ⟨u,u2,rfl,ru,ru2⟩:=C6p r1;cases ru;cases ru2;obtain ⟨its,rv,p1',zk⟩:=I1.list hq1;obtain ⟨its2,rv2,p2',_⟩:=I1.tuple hq2;have t1:l1<s1.heap.objs.size:=let ⟨_,e,_⟩:=p1'.isList;Z0a e;have t2:l2<s1.heap.objs.size:=p2'.lt;have e1:=rv.length;have e2:=rv2.length;rw [Z08] at e1;have hn:=I1.hok.fresh (Z09 s1.heap.objs.size);refine B9y p1'.isList (show s1.heap.IsTuple l2 its2.toArray from p2') λh' zs kp=>Calls.spliced_nil ?_;obtain ⟨hz,hTI,⟨tu,tv,hTO⟩,hi1,hi2⟩:=zs;have D:=zipApart_new t1 t2;have lz:s1.heap.objs.size+4<h'.objs.size:=Z0a hz;refine callType_codes (Q₁:=λobj s₁=>obj= .ref h'.objs.size/\s₁={ s1 with heap:=h'.push { cls:= .type "dict",data:= .dict #[] } }) F.kt_called_dict (F.kt_typeCall_dict_1 _) F.entry_dict_init (kt_code_dict_new (s:={ s1 with heap:=h' }) _ ⟨rfl,rfl⟩) ?_;rintro obj s₁ ⟨rfl,rfl⟩;have hnew:(h'.push { cls:= .type "dict",data:= .dict #[] }).DictOf (A0x X.prog X.w) h'.objs.size []:=Heap.DictOf.new h';have ez:(h'.push { cls:= .type "dict",data:= .dict #[] }).get? (s1.heap.objs.size+4)=some _:=Z01 _ hz;have hTz:Shared.TypeIs { s1 with heap:=h'.push { cls:= .type "dict",data:= .dict #[] } } (.ref (s1.heap.objs.size+4)) "zip":=(i02 _ ez rfl);refine i00 hnew.typeIs (F.args_dict_init_2 _ _) ?_;unfold Builtin.«dict.__init__»;refine Z00 ?_;unfold Builtin.Dict.selfAndRest;refine Z00 (wpAny_notOrdered_dict hnew.typeIs ?_);show wpAny _ _ (pure (h'.objs.size,[Value.ref (s1.heap.objs.size+4)])) _ _ _;refine Z04 ?_;show wpAny _ _ (Builtin.Dict.updateFrom "dict.__init__" h'.objs.size (.ref (s1.heap.objs.size+4)) [] .none) _ _ _;unfold Builtin.Dict.updateFrom;refine Z00 (wpAny_typeOf hTz ?_);rw [Z12 (by decide)];refine Z00 (C3g ez (by simpa using hh) λh1 tk1 kp1=> ?_)
 rw [Z12 (show (none:Option Value).isNone=true from rfl)];refine Z00 (wpAny_rule ?_);refine Z00 (wpAny_pyIter_zip (s:={ s1 with heap:=h1,toks:=tk1 }) (kp1 _ _ ez) ?_);have up:∀c o,h'.get? c=some o->h1.get? c=some o:=λc o e=>kp1 _ _ (Z01 _ e)
 have lr:(ks.zip its2).length=ks.length:=by rw [List.length_zip];lia
 have q1:∀i:Nat,i<=4->s1.heap.objs.size+i≠h'.objs.size:=λi hi z=>by lia
 have q2:∀c:Nat,c<s1.heap.objs.size->c≠h'.objs.size:=λc hc z=>by lia
 have q3:∀c i:Nat,c<s1.heap.objs.size->c≠s1.heap.objs.size+i:=λc i hc z=>by lia
 have le':s1.heap.objs.size<=h'.objs.size:=by lia
 have z1:ks.length<=sizeLine:=by rw [Z08] at zk;exact zk
 refine Z04 ⟨plainId_quiet A2f _,C8a (knd:=A0x X.prog X.w) (rs:=ks.zip its2) (xs:=its.toArray) (ys:=its2.toArray) (h₀:=h1) (by simpa using hh) D (q1 4 (by decide)) (q1 2 (by decide)) (q1 3 (by decide)) (q1 0 (by decide)) (q1 1 (by decide)) (q2 _ t1) (q2 _ t2) (by rw [lr];exact z1) (λi k u hr=> ?_) ?_ (p1'.isList.at λo e=>up _ _ (kp _ _ e)) (let ⟨o,e,r⟩:=p2';(i02 o (up _ _ (kp _ _ e)) r)) (q3 _ 3 t1) (q3 _ 0 t1) (q3 _ 1 t1) (q3 _ 4 t1) (q3 _ 3 t2) (q3 _ 0 t2) (q3 _ 1 t2) (q3 _ 4 t2) (λh2 tk dd kp2=> ?_) (ks.zip its2).length 0 h1 _ (by lia) (Z1e _) (i04 (up _ _ hTI) ((A8a _ l1).mv hi1 λo e=>up _ _ e) ((A5w _ l2).mv hi2 λo e=>up _ _ e) (.inl ⟨up _ _ hz,(i03 tu tv (up _ _ hTO))⟩)) (λ_ _ _ _ _ _ _ z=>z) ?_⟩
 ·obtain ⟨g1,g2⟩:=Z2m.mp hr;obtain ⟨kv,g3,g4⟩:=B6f (P:=X.prog) (w:=X.w) rv g1;exact i06 kv (by simpa using g3) (by simpa using g2) g4
 ·left;rw [lr];simp
  lia
 ·have kv:=D1q hle rv2;refine i0j rfl (.ref h'.objs.size) _ (I1.laid (t':=tk) (o:= .dK (A3d [] (ks.zip ws))) (λb u eb=> ?_) le' (i09 ?_ ?_ _ (KV.merge kv .nil) dd)) rfl (q _ (I1.hok.fresh le'))
  ·have lb:=Z0a eb;exact kp2 b u (q3 _ 4 lb) (q3 _ 3 lb) (q3 _ 0 lb) (q3 _ 1 lb) (q2 _ lb) (up _ _ (kp _ _ eb))
  ·have:=A2w (ks.zip ws) [];have lw:(ks.zip ws).length=ks.length:=by rw [List.length_zip];lia
   simp only [Z2g] at this
   lia
  ·have:=I1.big;have hne:h'.objs.size≠sysModules:=Z1q (Z0q this le')
   simpa using hne
 ·obtain ⟨od,es,ep,g,r⟩:=hnew;exact i0g od es ep (kp1 _ _ g) r
end
theorem B6s:entryFor table "set.__ne__"=some Builtin.«frozenset.__ne__»:=entryFor_alias (id':="frozenset.__ne__") (by kernel_rfl) (by decide +kernel) (by decide +kernel) (by kernel_rfl)
theorem C0d:isSubtype (.type "set") (.type "set")=pure true:=by rw [isSubtype_type];kernel_rfl
theorem B7c:isSubtype (.type "set") (.type "frozenset")=pure false:=by rw [isSubtype_type];kernel_rfl
theorem A6l {Q:Array (Int×Value)->Shared->Prop} {es:Array (Int×Value)} {t:SetTable} (ho:s.heap.get? a=some o) (hd:o.data= .set es ep t) (hf:t.fits es.size=true) (q:Q es s):wpAny (model prog w) A (setEntries a) Q E s:=by
 unfold setEntries;exact Z00 (wpAny_setState_of ho hd hf (Z04 q))
theorem B6y {Q:Nat->Shared->Prop} {es:Array (Int×Value)} {t:SetTable} (ho:s.heap.get? a=some o) (hd:o.data= .set es ep t) (hf:t.fits es.size=true) (q:Q ep s):wpAny (model prog w) A (setEpoch a) Q E s:=by
 unfold setEpoch;exact Z00 (wpAny_setState_of ho hd hf (Z04 q))
section
variable {prog:Program} {w:World} {K:Type} [DecidableEq K] {knd:KeyKind prog w K} {A:Around} {E:Value->Shared->Prop} {s:Shared}
theorem D1n {b:Addr} {Q:List (Int×Value)->Shared->Prop} {o':Obj} {es es':Array (Int×Value)} {ep':Nat} {t t':SetTable} (ho:s.heap.get? a=some o) (hd:o.data= .set es ep t) (hf:t.fits es.size=true) (hel:ElemsOf knd es.toList)
  (ho':s.heap.get? b=some o') (hd':o'.data= .set es' ep' t') (hf':t'.fits es'.size=true) (hel':ElemsOf knd es'.toList) (q:Q es.toList s):wpAny (model prog w) A (Builtin.Frozenset.walkUnseen a b) Q E s:=by
 unfold Builtin.Frozenset.walkUnseen;refine Z00 (A6l ho hd hf ?_);refine Z00 (A6l ho' hd' hf' ?_);refine Z00 (wpAny_forIn_list _ (λrest b s'=>b.1=none/\s'=s/\ElemsOf knd rest) _ ?_ ?_ _ _ (i00 rfl rfl ?_))
 ·rintro ⟨hh,x⟩ rest bb s' ⟨e1,rfl,el⟩;obtain ⟨⟨k,hk,_⟩,_⟩:=el.head;show wpAny _ _ (Builtin.Dict.quietEq x >>= _) _ _ _;rw [quietEq_of_byValue (knd.byValue k _ hk)];refine Z00 (Z04 ?_);exact Z04 (i00 rfl rfl el.tail)
 ·rintro ⟨b1,b2⟩ s' ⟨e1,rfl,_⟩;have e1:b1=none:=e1;subst e1;exact Z04 q
 ·intro x hx;rcases Z07.mp hx with hx | hx
  ·exact hel x hx
  ·exact hel' x hx
theorem D5c {b:Addr} {S S':K->Bool} {m:Nat} {nm:String} {r:Bool} {Q:Bool->Shared->Prop} (ha:s.heap.SetOf knd a S n) (hb:s.heap.SetOf knd b S' m) (hnm:n<=m) (hr:r=true↔∀k,S k=true->S' k=true) (q:Q r s) :
  wpAny (model prog w) A (Builtin.Frozenset.subsetOf nm a b) Q E s:=by
 refine e0c (id ha) ?_;rintro o es ep t ho hx hd hel ⟨hS,hbnd,hf,hn⟩;refine e0c (id hb) ?_;rintro o' es' ep' t' ho' hx' hd' hel' ⟨hS',hbnd',hf',hm⟩;unfold Builtin.Frozenset.subsetOf Builtin.Frozenset.sizeOf;refine Z00 (Z00 (A6l ho hd hf (Z04 ?_)));refine Z00 (Z00 (A6l ho' hd' hf' (Z04 ?_)));rw [Z0t (by lia)];refine Z00 (B6y ho hd hf ?_);refine Z00 (D1n ho hd hf hel ho' hd' hf' hel' ?_);refine Z00 (wpAny_forIn_list _ (λrest bb s'=>bb.1=none/\s'=s/\ElemsOf knd rest/\(∀e∈rest,e∈es.toList)/\((∀e∈rest,∀k,knd.is k e.2=true->S' k=true)->r=true)) _ ?_ ?_ _ _ (i08 rfl rfl hel (λe he=>he) λh=>hr.mpr λk hk=> ?_))
 ·rintro ⟨hh,x⟩ rest bb s' ⟨e1,rfl,el,sub,hall⟩;obtain ⟨⟨k,hk,e⟩,hsc⟩:=el.head;have e:hh=knd.hash k:=e;subst e;refine Z00 (Z1w (wpAny_setFind_of hk hsc hb λrr hrr=> ?_))
  cases hSk:S' k with
  | false =>
   rw [hSk] at hrr;have:rr=none:=by cases rr <;> simp_all
   subst this;refine Z04 ?_
   have hr0:r=false:=by
    cases r with
    | false=>rfl
    | true =>
     have:=(hr.mp rfl) k ((hS k).mpr (i02 _ (sub _ (.head _)) hk));rw [hSk] at this;cases this
   subst hr0;exact Z04 q
  | true =>
   rw [hSk] at hrr;obtain ⟨z,rfl⟩:=Option.isSome_iff_exists.mp hrr;show wpAny _ _ (Builtin.Frozenset.unchanged nm a ep >>= _) _ _ _;unfold Builtin.Frozenset.unchanged;refine Z00 (Z00 (B6y ho hd hf ?_));rw [Z0t (by simp)];refine Z04 (Z04 (i08 rfl rfl el.tail (λe he=>sub e (.tail _ he)) λh=>hall λe he k' hk'=> ?_));rcases Z0e.mp he with rfl | he
   ·rw [knd.inj _ _ _ hk' hk];exact hSk
   ·exact h e he k' hk'
 ·rintro ⟨b1,b2⟩ s' ⟨e1,rfl,_,_,hall⟩;have e1:b1=none:=e1;subst e1;have:r=true:=hall (λe he=>by cases he);subst this;exact Z04 q
 ·obtain ⟨e,he,hek⟩:=(hS k).mp hk;exact h e he k hek
theorem D7w {b:Addr} {S S':K->Bool} {m:Nat} {r:Bool} {Q:Value->Shared->Prop} (ha:s.heap.SetOf knd a S n) (hb:s.heap.SetOf knd b S' m) (hu:A.units<cLine) (hr:r=true↔(n=m/\∀k,S k=true->S' k=true)) (q:Q (.bool (! r)) s) :
  wpAny (model prog w) A (compareOp .NotEq (.ref a) (.ref b)) Q E s:=by
 refine e0c (id ha) ?_;rintro o es ep t ho hx hd hel ⟨hS,hbnd,hfit,hn⟩;refine e0c (id hb) ?_;rintro o' es' ep' t' ho' hx' hd' hel' ⟨hS',hbnd',hfit',hm⟩;refine wpAny_richCompare_same_room (op:= .NotEq) ha.typeIs hb.typeIs F.slot_set_ne (Z1g F.slot_set_ne ha.typeIs B6s ?_ (F.args_set_ne_2 _ _)) hu;show wpAny _ _ (Builtin.Frozenset.slot1 "__ne__" ⟨[.ref a,.ref b],[]⟩ >>= _) _ _ s;refine Z00 ?_;unfold Builtin.Frozenset.slot1;show wpAny _ _ (pure (Value.ref a,Value.ref b)) _ _ s;refine Z04 ?_;refine Z00 ?_;unfold Builtin.Frozenset.isAnySet;refine Z00 (wpAny_isInstance (T:="set") hb.typeIs C0d (Z04 ?_));simp only [Bool.not_true,Bool.false_eq_true,if_false];refine Z00 (Z04 (Z00 (Z04 ?_)));unfold Builtin.Frozenset.sizeOf;refine Z00 (Z00 (A6l ho hd hfit (Z04 ?_)));refine Z00 (Z00 (A6l ho' hd' hfit' (Z04 ?_)));by_cases hnm:n=m
 ·refine Z00 ?_;rw [Z0t (by rw [hn,hm,hnm];simp)];refine Z00 (Z00 (wpAny_isInstance (T:="set") ha.typeIs B7c (Z04 ?_)));simp only [Bool.false_eq_true,if_false];refine D5c ha hb (by lia) (r:=r) (by rw [hr];exact ⟨λh=>h.2,λh=>⟨hnm,h⟩⟩) ?_;exact Z04 (i06 _ rfl (λz=>nomatch z) q)
 ·refine Z00 ?_;rw [Z12 (by rw [hn,hm];simpa using hnm)];refine Z04 ?_
  have hr0:r=false:=by
   cases r with
   | false=>rfl
   | true=>exact absurd (hr.mp rfl).1 hnm
  subst hr0;exact Z04 (i06 _ rfl (λz=>nomatch z) q)
end
def C4l (P:Program) (w:World) (a:Addr) (S:Key->Bool) (n:Nat):HO:= .ext λh=>h.SetOf (A0x P w) a S n
theorem D5m {S:Key->Bool} (e:h.SetOf (A0x P w) a S n):A1z P w H h a (C4l P w a S n) :=
 (i00 e (let ⟨o,es,ep,t,e1,_⟩:=e;⟨o,e1⟩) (by rintro h1 h2 ⟨o,es,ep,t,e1,r⟩ k;exact ⟨o,(i0g es ep t (k o e1) r)⟩))
def D6v (P:Program) (w:World):R2:=λx y H Q=>∃a b S S' n m r,x= .ref a/\y= .ref b/\H a=some (C4l P w a S n)/\H b=some (C4l P w b S' m)/\(r=true↔(n=m/\∀k,S k=true->S' k=true))/\Q (.bl (! r)) H
theorem C8z (hu:X.A.units<cLine):OpR X (compareOp .NotEq) (D6v X.prog X.w):=by
 intro pins s Z H x y v u Q I rx ry h;refine e0g h ?_;clear h;rintro a b S S' n m r rfl rfl ha hb hr q;cases rx;cases ry;obtain ⟨sa,_⟩:=(show A1z X.prog X.w H s.heap a (C4l X.prog X.w a S n) from I.hok a _ ha);obtain ⟨sb,_⟩:=(show A1z X.prog X.w H s.heap b (C4l X.prog X.w b S' m) from I.hok b _ hb);exact D7w sa sb hu hr (i0f (.bl (! r)) H I rfl q)
def A8z (acc:List Key) (k:Key):Bool:=acc.any λx=>decide (x=k)
def D2q (acc:List Key) (k:Key):List Key:=if A8z acc k=true then acc else acc++[k]
def A5d (ks:List Key):List Key:=ks.foldl D2q []
theorem B1y (ks:List Key) (k:Key):A5d (ks++[k])=D2q (A5d ks) k:=by unfold A5d;rw [List.foldl_append];rfl
theorem C1r (acc:List Key) (k x:Key):A8z (D2q acc k) x=(A8z acc x||decide (x=k)):=by
 unfold D2q;by_cases h:A8z acc k=true
 ·rw [Z12 h];by_cases e:x=k
  ·subst e;simp [h]
  ·simp [e]
 ·rw [Z0t h];unfold A8z;rw [List.any_append];congr 1;simp only [List.any_cons,List.any_nil,Bool.or_false];exact decide_eq_decide.mpr ⟨λe=>e.symm,λe=>e.symm⟩
theorem A8u (acc:List Key) (k:Key):(D2q acc k).length=if A8z acc k=true then acc.length else acc.length+1:=by
 unfold D2q;by_cases h:A8z acc k=true
 ·rw [Z12 h,Z12 h]
 ·rw [Z0t h,Z0t h,Z06];rfl
theorem C7z (ks:List Key):(A5d ks).length<=ks.length:=by
 have key:∀n,(A5d (ks.take n)).length<=n:=by
  intro n
  induction n with
  | zero=>simp [A5d]
  | succ n ih =>
   rw [Z14]
   cases h:ks[n]? with
   | none=>simp;lia
   | some k =>
    rw [Z2f,B1y,A8u];split <;> lia
 have:=key ks.length
 rwa [Z18] at this
theorem C2u {k:Key} {v:Value} (h:(A0x P w).is k v=true):v.scannable=true:=by
 have:=(A0x P w).byValue k v h;cases k <;> cases v <;> first | rfl | exact absurd h Z0v
section
variable {prog:Program} {w:World} {A:Around} {R:Result->Shared->Prop} {I l S:Addr} {items:Array Value} {ks:List Key} {h₀:Heap} {g:Array GenState} {dr:Drawn} {os:OsState}
theorem C9o (hh:A.handled=none) (hne:l≠I) (hSI:S≠I) (hSl:S≠l) (hlen:items.size=ks.length) (hk:∀(i:Nat) (k:Key),ks[i]? =some k->∃v,items[i]? =some v/\(A0x prog w).is k v=true) (hb:ks.length+1<scanBound) (hl:h₀.IsList l items)
  (fin:∀h' tk,h'.SetOf (A0x prog w) S (A8z (A5d ks)) (A5d ks).length->(∀b o,b≠I->b≠S->h₀.get? b=some o->h'.get? b=some o)->R (.ok (.ret .none)) ⟨h',g,dr,tk,os⟩) :
  ∀(k i:Nat) (h:Heap) (tk:Nat),ks.length-i=k->i<=ks.length->h.IsListIter I l i->(∀b o,b≠I->b≠S->h₀.get? b=some o->h.get? b=some o)->h.SetOf (A0x prog w) S (A8z (A5d (ks.take i))) (A5d (ks.take i)).length->
   codeAny (model prog w) A (.builtin "set.update.loop" ⟨[.ref S,.ref I],[]⟩) R ⟨h,g,dr,tk,os⟩:=by
 have W:=Walks.list (prog:=prog) (w:=w) (A:=A.in1) hh I l hne items;intro k
 induction k with
 | zero =>
  intro i h tk hk' hi hit kp hS;have hin:i=items.size:=by lia
  refine codeAny_builtin F.entry_set_update_loop ?_;rw [Around.under_plainId F.plain_set_update_loop _];show wpAny _ A.in1 (pyNext (.ref I) >>= _) _ _ _;refine Z00 (W.done ⟨h,g,dr,tk,os⟩ _ _ (by rw [<-hin];exact ⟨hit,hl.at λo e=>kp l o hne (Ne.symm hSl) e⟩) λh' tk' kp'=> ?_);show wpAny _ A.in1 (ret Value.none) _ _ _;rw [show i=ks.length by lia,Z18] at hS;exact Z04 (fin h' tk' (let ⟨o,es,ep,t,e,r⟩:=hS;⟨o,(i0g es ep t (kp' _ _ (by simpa using hSI) e) r)⟩) λb o h1 h2 e=>kp' b o (by simpa using h1) (kp b o h1 h2 e))
 | succ k ih =>
  intro i h tk hk' hi hit kp hS;have hlt:i<items.size:=by lia
  obtain ⟨key,hkey⟩:∃p,ks[i]? =some p:=⟨ks[i],Z0b (by lia)⟩;obtain ⟨v,hv,his⟩:=hk i key hkey;refine codeAny_builtin F.entry_set_update_loop ?_;rw [Around.under_plainId F.plain_set_update_loop _];show wpAny _ A.in1 (pyNext (.ref I) >>= _) _ _ _;refine Z00 (W.item i ⟨h,g,dr,tk,os⟩ _ _ hlt ⟨hit,hl.at λo e=>kp l o hne (Ne.symm hSl) e⟩ λv' h' tk' hv' hst' kp'=> ?_);have ev:v'=v:=by have hv':items[i]? =some v':=hv';rw [hv] at hv';exact (Z1a hv').symm
  subst ev;have hS':h'.SetOf (A0x prog w) S (A8z (A5d (ks.take i))) (A5d (ks.take i)).length:=let ⟨o,es,ep,t,e,r⟩:=hS;⟨o,(i0g es ep t (kp' _ _ (by simpa using hSI) e) r)⟩;show wpAny _ A.in1 (holding [v'] (setAdd S v') >>= _) _ _ _;refine Z00 (Z1w ?_);unfold setAdd;refine Z1w ?_;refine Z00 ((A0x prog w).pyHash (k:=key) his ?_);have hroom:(A5d (ks.take i)).length+1<scanBound:=by have:=C7z (ks.take i);rw [Z0x] at this;lia
  refine wpAny_setAddHashed_of (knd:=A0x prog w) (s:=⟨h',g,dr,tk'+1,os⟩) his (C2u his) hS' hroom λh2 hsb hS2=> ?_;refine Z04 ⟨plainId_quiet F.plain_set_update_loop _,ih (i+1) h2 _ (by lia) (by lia) ?_ ?_ ?_⟩
  ·exact hst'.1.at λo e=>(hsb.2 I (Ne.symm hSI)).trans e
  ·intro c oc h1 h2' e;exact (hsb.2 c h2').trans (kp' c oc (by simpa using h1) (kp c oc h1 h2' e))
  ·rw [Z14,hkey,Z2f,B1y];have e1:A8z (D2q (A5d (ks.take i)) key)=λk'=>A8z (A5d (ks.take i)) k'||decide (k'=key):=funext λx=>C1r _ _ _;rw [e1,A8u];exact hS2
end
section
variable {prog:Program} {w:World} {A:Around} {E:Value->Shared->Prop} {s:Shared}
set_option maxHeartbeats 3200000 in
theorem B9e {items:Array Value} {ks:List Key} {Q:Value->Shared->Prop} (hh:A.handled=none) (hl:s.heap.IsList l items) (hlen:items.size=ks.length) (hk:∀(i:Nat) (k:Key),ks[i]? =some k->∃v,items[i]? =some v/\(A0x prog w).is k v=true) (hb:ks.length+1<scanBound)
  (h:∀(h':Heap) (tk:Nat),h'.SetOf (A0x prog w) s.heap.objs.size (A8z (A5d ks)) (A5d ks).length->(∀b o,s.heap.get? b=some o->h'.get? b=some o)->Q (.ref s.heap.objs.size) { s with heap:=h',toks:=tk }) :
  wpAny (model prog w) A (call (.type "set") [.ref l]) Q E s:=by
 obtain ⟨c,tl,hmro⟩:=F.called_set.mro;have hmade:=F.called_set.made;have hsub:=F.called_set.sub;refine wpAny_call (codeAny_of_tree ?_);show wpAny _ _ (callAny (.type "set") _) _ _ _;refine Z04 ⟨Code.quiet_builtin _ (by decide +kernel),codeAny_builtin F.entry_type_call ?_⟩;rw [Around.under_plain (weight_type_call_type "set" [.ref l] []) rfl];have h1:=F.called_set.notType;have h2:=F.called_set.canCreate;have hct:=F.typeCall_set_1 (.ref l)
 repeat (any_goals (first | assumption | wp_step))
 refine codeAny_mono (code_set_new_1 (.ref l) (E:=E) (Q₁:=λobj s₁=>∃led:Bool,obj= .ref s.heap.objs.size/\s₁={ s with heap:=s.heap.push { cls:= .type "set",dict:=none,data:= .set #[] 0 (.fresh 0 0 led) } }) λled=>(i02 led rfl rfl)) λr s₁ hr=> ?_
 cases r with
 | error e=>exact hr
 | ok fl =>
  cases fl with
  | ret obj =>
   obtain ⟨led,rfl,rfl⟩:=hr;have hS:(s.heap.push { cls:= .type "set",dict:=none,data:= .set #[] 0 (.fresh 0 0 led) }).get? s.heap.objs.size=some { cls:= .type "set",dict:=none,data:= .set #[] 0 (.fresh 0 0 led) }:=Z0c _ rfl;have hT:Shared.TypeIs { s with heap:=s.heap.push { cls:= .type "set",dict:=none,data:= .set #[] 0 (.fresh 0 0 led) } } (.ref s.heap.objs.size) "set":=(i02 _ hS rfl);have hli:=F.called_set.init.lookup;have hbi:=F.called_set.init.bind (.ref s.heap.objs.size)
   repeat (any_goals (first | assumption | wp_step))
   refine codeAny_mono (codeAny_call_builtin (R:=wants (λr s₂=>r= .none/\∃h' tk,s₂={ s with heap:=h',toks:=tk }/\h'.SetOf (A0x prog w) s.heap.objs.size (A8z (A5d ks)) (A5d ks).length/\(∀b o,s.heap.get? b=some o->h'.get? b=some o)) E) F.called_set.init.plain F.entry_set_init (check_set_init_1 hT ?_)) λr₂ s₂ hr₂=> ?_
   ·obtain ⟨ol,hol,hcl,nl,hdl⟩:=hl;obtain ⟨ocls,odict,odata,oslots⟩:=ol;simp only at hcl hdl;subst hcl;subst hdl;have hol':(s.heap.push { cls:= .type "set",dict:=none,data:= .set #[] 0 (.fresh 0 0 led) }).get? l=some { cls:= .type "list",dict:=odict,data:= .seq items nl,slots:=oslots }:=Z01 _ hol;have hsls:=F.sub_list_set;have hslf:=F.sub_list_frozenset;have hne:(Value.type "list" == Value.type "dict")=false:=by decide
    have hl1:(s.heap.push { cls:= .type "set",dict:=none,data:= .set #[] 0 (.fresh 0 0 led) }).IsList l items:=(i0d _ hol' rfl nl rfl);unfold Builtin.«set.__init__» noKeywords Builtin.Frozenset.updateFrom;generalize hPI:pyIter=PI
    wp_walk
    subst hPI;refine wpAny_pyIter_list hl1 ?_;refine Z00 (wpAny_runValue ?_);have hlS:l<s.heap.objs.size:=Z0a hol;have hsp:(s.heap.push { cls:= .type "set",dict:=none,data:= .set #[] 0 (.fresh 0 0 led) }).objs.size=s.heap.objs.size+1:=Z1s ..;have hS2:((s.heap.push { cls:= .type "set",dict:=none,data:= .set #[] 0 (.fresh 0 0 led) }).push { cls:= .type "list_iterator",data:= .fields #[.ref l,.int 0 0] }).get? s.heap.objs.size=some { cls:= .type "set",dict:=none,data:= .set #[] 0 (.fresh 0 0 led) }:=Z01 _ hS;refine C9o (ks:=ks) (items:=items) (l:=l) (h₀:=(s.heap.push { cls:= .type "set",dict:=none,data:= .set #[] 0 (.fresh 0 0 led) }).push { cls:= .type "list_iterator",data:= .fields #[.ref l,.int 0 0] }) (by simp [hh]) ?_ ?_ (Z1q hlS) hlen hk hb (hl1.push _) (λh' tk' hS' kp=> ?_) ks.length 0 _ _ (by lia) (Z1e _) (i06 _ (Z0c _ rfl) rfl rfl) (λ_ _ _ _ z=>z) ?_
    ·rw [hsp];exact Z0h (Nat.lt_succ_of_lt hlS)
    ·rw [hsp];exact Z0h (Nat.lt_succ_self _)
    ·refine Z04 ?_;show wpAny _ _ (ret Value.none) _ _ _;refine Z04 (i0j rfl h' tk' rfl hS' λb o e=> ?_);have hbl:=Z0a e;exact kp b o (by rw [hsp];exact Z0h (Nat.lt_succ_of_lt hbl)) (Z0h hbl) (Z01 _ (Z01 _ e))
    ·have e0:(λ_:Key=>false)=A8z (A5d (ks.take 0)):=by rw [List.take_zero];rfl
     rw [<-e0];exact i0x _ (#[]) 0 _ hS2 (i00 rfl rfl rfl) rfl (λe he=>by simp at he) (i04 (λk=>by simp) (by unfold scanBound;simp) (by rfl) (by simp [A5d]))
   ·cases r₂ with
    | error e=>exact hr₂
    | ok fl₂ =>
     cases fl₂ with
     | ret r =>
      obtain ⟨rfl,h',tk,rfl,hS',hk'⟩:=hr₂
      repeat (any_goals (first | assumption | wp_step))
      exact h _ _ hS' hk'
     | _=>exact hr₂.elim
  | _=>exact hr.elim
end
theorem C3l (hn:n<=7) (led:Bool):(SetTable.fresh 0 0 led).roomFor n=none\/∃wtd,(SetTable.fresh 0 0 led).roomFor n=some wtd/\SetTable.sizeAbove wtd<=sizeLine/\∃t',(SetTable.fresh 0 0 led).relaid #[] wtd=some (t',#[])/\t'.fits 0=true:=by
 have:n=0\/n=1\/n=2\/n=3\/n=4\/n=5\/n=6\/n=7:=by lia
 rcases this with rfl | rfl | rfl | rfl | rfl | rfl | rfl | rfl
 ·exact .inl rfl
 ·exact .inl rfl
 ·exact .inl rfl
 ·exact .inl rfl
 ·exact .inl rfl
 ·exact .inr (i0k 10 rfl (by decide) _ (by rfl) (by rfl))
 ·exact .inr (i0k 12 rfl (by decide) _ (by rfl) (by rfl))
 ·exact .inr (i0k 14 rfl (by decide) _ (by rfl) (by rfl))
section
variable {prog:Program} {w:World} {A:Around} {E:Value->Shared->Prop} {s:Shared} {S d:Addr}
theorem C9f {led:Bool} {Q:Unit->Shared->Prop} (hn:n<=7) (hS:s.heap.get? S=some { cls:= .type "set",dict:=none,data:= .set #[] 0 (.fresh 0 0 led) })
  (q:∀h',h'.SetOf (A0x prog w) S (λ_=>false) 0->Heap.SameBut S s.heap h'->Q () { s with heap:=h' }):wpAny (model prog w) A (setRoomFor S n) Q E s:=by
 have ok0:s.heap.SetOf (A0x prog w) S (λ_=>false) 0:=(i0x _ (#[]) 0 _ hS (i00 rfl rfl rfl) rfl (λe he=>by simp at he) (i04 (λk=>by simp) (by unfold scanBound;simp) (by rfl) rfl));unfold setRoomFor;refine Z00 (wpAny_setState_of hS rfl (by rfl) ?_);rcases C3l hn led with e | ⟨wtd,e,hz,t',e2,hf⟩
 ·rw [e];exact Z04 (q s.heap ok0 (Heap.SameBut.refl _ _))
 ·rw [e];show wpAny _ _ (setRelay S wtd) _ _ _;unfold setRelay;refine Z00 (wpAny_setState_of hS rfl (by rfl) ?_);dsimp only;rw [Z0t (by lia)];rw [show (#[]:Array (Int×Value)).map (·.1)= #[] by simp,e2];refine Z00 (Z04 ?_);refine wpAny_storeSet_of hS rfl ?_;exact q _ (SetOf_store hS (i00 rfl rfl rfl) rfl (λe he=>by simp at he) (λk=>by simp) (by unfold scanBound;simp) hf).2 (Heap.SameBut.update ..)
theorem C9a {nm:String} {led:Bool} {Q:Unit->Shared->Prop} (hn:ws.length<=7) (hdS:S≠d) (hsys:(d == sysModules)=false) (hd:s.heap.DictAt (A0x prog w) d ws ep)
  (hS:s.heap.get? S=some { cls:= .type "set",dict:=none,data:= .set #[] 0 (.fresh 0 0 led) })
  (q:∀h',h'.SetOf (A0x prog w) S (A8z (A5d (ws.map (·.1)))) (A5d (ws.map (·.1))).length->Heap.SameBut S s.heap h'->Q () { s with heap:=h' }):wpAny (model prog w) A (Builtin.Frozenset.updateFrom nm S (.ref d)) Q E s:=by
 refine e06 (id hd) ?_;rintro o es ho hx hdat ⟨hk,hp,hnd⟩;have ty:s.TypeIs (.ref d) "dict":=(i02 o ho hx.1);have hlen:ws.length=es.size:=by rw [<-hp.length];simp
 unfold Builtin.Frozenset.updateFrom Builtin.Frozenset.isAnySet;refine Z00 (Z00 (wpAny_isInstance (T:="dict") ty F.sub_dict_set ?_));refine wpAny_isInstance (T:="dict") ty F.sub_dict_frozenset ?_;simp only [Bool.false_eq_true,if_false];refine Z00 (wpAny_typeOf ty ?_);rw [Z12 (by decide)];refine Z00 (wpAny_rule (Z00 (Z04 ?_)));rw [Z0t (by rw [hsys];exact Z0v)];refine Z00 (wpAny_dictEpoch ho hdat ?_);refine Z00 (wpAny_dictEntries ho hdat ?_);refine Z00 (C9f (by lia) hS λh1 hS1 sb1=> ?_);have ho1:h1.get? d=some o:=(sb1.2 d (Ne.symm hdS)).trans ho;refine Z00 (wpAny_dictEntries (s:={ s with heap:=h1 }) ho1 hdat ?_);refine Z00 ?_;rw [Std.Legacy.Range.forIn_eq_forIn_range'];simp only [Std.Legacy.Range.size,Nat.sub_zero,Nat.add_sub_cancel,Nat.div_one];refine wpAny_forIn_list _ (λrest _ s'=>∃h' i,s'={ s with heap:=h' }/\rest=List.range' i (es.size-i)/\i<=es.size/\h'.SetOf (A0x prog w) S (A8z (A5d ((ws.map (·.1)).take i))) (A5d ((ws.map (·.1)).take i)).length/\h'.get? d=some o/\Heap.SameBut S s.heap h') _ ?_ ?_ _ _ (i0r h1 0 rfl (by simp) (Z1e _) hS1 ho1 sb1)
 ·rintro x rest b s' zz;refine e06 zz ?_;clear zz;rintro h' i rfl hr hi ⟨hS',ho',hs'⟩
  have hlt:i<es.size:=by
   rcases Nat.lt_or_ge i es.size with h | h
   ·exact h
   ·rw [Nat.sub_eq_zero_of_le h] at hr;simp at hr
  obtain ⟨rfl,hrest⟩:x=i/\rest=List.range' (i+1) (es.size-(i+1)):=by
   have e:es.size-i=(es.size-(i+1))+1:=by lia
   rw [e,List.range'_succ] at hr;injection hr with h1 h2;exact ⟨h1,h2⟩
  refine Z00 (wpAny_dictEntries ho' hdat ?_);rw [Array.getElem?_eq_getElem hlt];obtain ⟨⟨k,v⟩,hkv⟩:∃kv,ws[x]? =some kv:=⟨ws[x]'(by rw [hlen];exact hlt),Z0b _⟩;obtain ⟨hkey,_⟩:=hp.get? (e:=es[x]) (by simp [hlt]) hkv;obtain ⟨k',hkey',hhash⟩:=hk es[x] (Array.getElem_mem hlt);obtain rfl:k'=k:=(A0x prog w).inj _ _ _ hkey' hkey;show wpAny _ _ (holding [es[x].key] (setAddHashed S es[x].key es[x].hash) >>= _) _ _ _;rw [hhash]
  have hroom:(A5d ((ws.map (·.1)).take x)).length+1<scanBound:=by
   have:=C7z ((ws.map (·.1)).take x);rw [Z0x,Z08] at this;unfold scanBound
   lia
  refine Z00 (Z1w (wpAny_setAddHashed_of (knd:=A0x prog w) hkey (C2u hkey) hS' hroom λh2 hsb hS2=> ?_));have ho2:h2.get? d=some o:=(hsb.2 d (Ne.symm hdS)).trans ho';refine Z00 (wpAny_dictEpoch ho2 hdat ?_);rw [Z0t (by simp)];refine Z04 (i0r h2 (x+1) rfl hrest hlt ?_ ho2 (hs'.trans hsb));have e3:(ws.map (·.1))[x]? =some k':=by rw [Z1z,hkv];rfl
  rw [Z14,e3,Z2f,B1y];have e1:A8z (D2q (A5d ((ws.map (·.1)).take x)) k')=λz=>A8z (A5d ((ws.map (·.1)).take x)) z||decide (z=k'):=funext λz=>C1r _ _ _;rw [e1,A8u];exact hS2
 ·rintro b s' zz;refine e06 zz ?_;clear zz;rintro h' i rfl hr hi ⟨hS',ho',hs'⟩
  have hin:i=es.size:=by
   rcases Nat.lt_or_ge i es.size with h | h
   ·have e:es.size-i=(es.size-(i+1))+1:=by lia
    rw [e,List.range'_succ] at hr;cases hr
   ·lia
  rw [hin,Z2l (by rw [Z08];lia)] at hS';exact Z04 (q h' hS' hs')
end
section
variable {prog:Program} {w:World} {A:Around} {E:Value->Shared->Prop} {s:Shared}
set_option maxHeartbeats 3200000 in
theorem C0f {Q:Value->Shared->Prop} (hn:ws.length<=7) (hsys:(d == sysModules)=false) (hd:s.heap.DictAt (A0x prog w) d ws ep)
  (h:∀(h':Heap) (tk:Nat),h'.SetOf (A0x prog w) s.heap.objs.size (A8z (A5d (ws.map (·.1)))) (A5d (ws.map (·.1))).length->(∀b o,s.heap.get? b=some o->h'.get? b=some o)->Q (.ref s.heap.objs.size) { s with heap:=h',toks:=tk }) :
  wpAny (model prog w) A (call (.type "set") [.ref d]) Q E s:=by
 obtain ⟨c,tl,hmro⟩:=F.called_set.mro;have hmade:=F.called_set.made;have hsub:=F.called_set.sub;refine wpAny_call (codeAny_of_tree ?_);show wpAny _ _ (callAny (.type "set") _) _ _ _;refine Z04 ⟨Code.quiet_builtin _ (by decide +kernel),codeAny_builtin F.entry_type_call ?_⟩;rw [Around.under_plain (weight_type_call_type "set" [.ref d] []) rfl];have h1:=F.called_set.notType;have h2:=F.called_set.canCreate;have hct:=F.typeCall_set_1 (.ref d)
 repeat (any_goals (first | assumption | wp_step))
 refine codeAny_mono (code_set_new_1 (.ref d) (E:=E) (Q₁:=λobj s₁=>∃led:Bool,obj= .ref s.heap.objs.size/\s₁={ s with heap:=s.heap.push { cls:= .type "set",dict:=none,data:= .set #[] 0 (.fresh 0 0 led) } }) λled=>(i02 led rfl rfl)) λr s₁ hr=> ?_
 cases r with
 | error e=>exact hr
 | ok fl =>
  cases fl with
  | ret obj =>
   obtain ⟨led,rfl,rfl⟩:=hr;have hS:(s.heap.push { cls:= .type "set",dict:=none,data:= .set #[] 0 (.fresh 0 0 led) }).get? s.heap.objs.size=some { cls:= .type "set",dict:=none,data:= .set #[] 0 (.fresh 0 0 led) }:=Z0c _ rfl;have hT:Shared.TypeIs { s with heap:=s.heap.push { cls:= .type "set",dict:=none,data:= .set #[] 0 (.fresh 0 0 led) } } (.ref s.heap.objs.size) "set":=(i02 _ hS rfl);have hli:=F.called_set.init.lookup;have hbi:=F.called_set.init.bind (.ref s.heap.objs.size)
   repeat (any_goals (first | assumption | wp_step))
   refine codeAny_mono (codeAny_call_builtin (R:=wants (λr s₂=>r= .none/\∃h' tk,s₂={ s with heap:=h',toks:=tk }/\h'.SetOf (A0x prog w) s.heap.objs.size (A8z (A5d (ws.map (·.1)))) (A5d (ws.map (·.1))).length/\(∀b o,s.heap.get? b=some o->h'.get? b=some o)) E) F.called_set.init.plain F.entry_set_init (check_set_init_1 hT ?_)) λr₂ s₂ hr₂=> ?_
   ·have ld:d<s.heap.objs.size:=let ⟨_,_,e,_⟩:=hd;Z0a e;have hd1:(s.heap.push { cls:= .type "set",dict:=none,data:= .set #[] 0 (.fresh 0 0 led) }).DictAt (A0x prog w) d ws ep:=hd.push _;unfold Builtin.«set.__init__» noKeywords;generalize hU:Builtin.Frozenset.updateFrom=U
    wp_walk
    subst hU;refine C9a (led:=led) hn (Z1q ld) hsys hd1 hS λh' hS' sb=> ?_;show wpAny _ _ (ret Value.none) _ _ _;exact Z04 (i0j rfl h' _ rfl hS' λb o e=>(sb.2 b (Z0h (Z0a e))).trans (Z01 _ e))
   ·cases r₂ with
    | error e=>exact hr₂
    | ok fl₂ =>
     cases fl₂ with
     | ret r =>
      obtain ⟨rfl,h',tk,rfl,hS',hk'⟩:=hr₂
      repeat (any_goals (first | assumption | wp_step))
      exact h _ _ hS' hk'
     | _=>exact hr₂.elim
  | _=>exact hr.elim
end
section
variable {X:Cx}
def D7k (P:Program) (w:World) (K:Frag):List V->Hp->VK->Prop:=λvs H Q=>∃a ks,vs=[V.ref a]/\((SqL K H a ((ks:List Key).map kV)/\ks.length<=100)\/∃kvs,Rd H a (.dK kvs)/\kvs.length<=7/\ks=kvs.map (·.1))/\∀p,H p=none->Q (.ref p) (upd H p (C4l P w p (A8z (A5d ks)) (A5d ks).length))
theorem C0v (hc:X.calm=true):A9d X (.type "set") (D7k X.prog X.w X.K):=by
 intro pins s Z H vs us Q I r h;obtain ⟨a,ks,rfl,hsrc,q⟩:=h;obtain ⟨u,rfl,ru⟩:=B2s r;cases ru;have hh:X.A.handled=none:=I.ok.hd hc
 have fin:∀(h':Heap) (tk:Nat),h'.SetOf (A0x X.prog X.w) s.heap.objs.size (A8z (A5d ks)) (A5d ks).length->(∀b o,s.heap.get? b=some o->h'.get? b=some o)->EP X pins Z Q (.ref s.heap.objs.size) { s with heap:=h',toks:=tk }:=λh' tk hS kp =>
  (i0f (.ref s.heap.objs.size) _ (I.laid (t':=tk) (o:=C4l X.prog X.w s.heap.objs.size (A8z (A5d ks)) (A5d ks).length) kp (Z09 _) (D5m hS)) rfl (q _ (I.hok.fresh (Z09 _))))
 rcases hsrc with ⟨hq,hl⟩ | ⟨kvs,hrd,hl,rfl⟩
 ·obtain ⟨its,rv,pl,_⟩:=I.list hq;have hlen:=rv.length;rw [Z08] at hlen
  exact B9e hh pl.isList (by simpa using hlen.symm) (λi k hk=>by
   obtain ⟨v,e1,e2⟩:=B6f (P:=X.prog) (w:=X.w) rv hk
   exact i02 v (by simpa using e1) e2) (by unfold scanBound;lia) fin
 ·refine e0b (B1a I.hok hrd) ?_;rintro z hs ws rel o es ep ho ⟨hx,hd,hk,hp,hn⟩
  have e:ws.map (·.1)=kvs.map (·.1):=by
   clear hp hn hk hd hx ho
   have:∀{kvs:List (Key×V)} {ws:List (Key×Value)},KV kvs ws->ws.map (·.1)=kvs.map (·.1):=by
    intro kvs ws r;unfold KV at r
    induction r with
    | nil=>rfl
    | cons r t ih=>rw [Z0p,Z0p,ih,r.1]
   exact this rel
  have ll:ws.length=kvs.length:=rel.length.symm;refine C0f (by lia) hs (i0r o es ho hx hd hk hp hn) ?_;rw [e];exact fin
def D8o (K:Frag):R2:=λx y H Q=>∃a b xs ys,x= .ref a/\y= .ref b/\SqT K H a xs/\SqT K H b ys/\xs.length+ys.length<=sizeLine/\
 (xs=[]->Q (.ref b) H)/\(xs≠[]->ys=[]->Q (.ref a) H)/\(xs≠[]->ys≠[]->∀p,H p=none->Q (.ref p) (upd H p (.tup (xs++ys))))
theorem D0m:OpR X (binaryOp .Add) (D8o X.K):=by
 intro pins s Z H x y v u Q I rx ry h;refine e0c h ?_;clear h;rintro a b xs ys rfl rfl ha hb ⟨hz,q1,q2,q3⟩;by_cases hx:xs=[]
 ·subst hx;cases rx;cases ry;obtain ⟨its,r1,p1,_⟩:=I.tuple ha;obtain ⟨its2,r2,p2,_⟩:=I.tuple hb;have e1:its=[]:=r1.nil_iff.mpr rfl;obtain ⟨⟨cls,dd,data,sl⟩,ho,hc,n,hd⟩:=id p1;obtain ⟨⟨cls2,dd2,data2,sl2⟩,ho2,hc2,n2,hd2⟩:=id p2;simp only at hc hd hc2 hd2;subst hc hd hc2 hd2
  exact concat_meets (i02 _ ho rfl) (i02 _ ho2 rfl) noFill_tuple_add seq_tuple_add PySem.F.slot_tuple_add PySem.F.entry_tuple_add (PySem.F.args_tuple_add_2 _ _)
   (tuple_addW0 a b its.toArray its2.toArray n n2 dd dd2 sl sl2 (by simp [e1])) ⟨ho,(i0j ho2 (.ref b) H I rfl (q1 rfl))⟩
 ·exact C7q pins s Z H _ _ v u Q I rx ry (i0x a b xs ys rfl rfl ha hb (i04 hx hz (λz=>q2 hx z) λz=>q3 hx z))
def D7h:R2:=λx y H Q=>∃a b xs ys,x= .ref a/\y= .ref b/\H a=some (.tup xs)/\H b=some (.tup ys)/\xs.length+ys.length<=sizeLine/\∀q H',A0s H H'->H' q=some (.tup (xs++ys))->Q (.ref q) H'
theorem D1j:OpR X (binaryOp .Add) D7h:=λpins s Z H x y v u Q I rx ry h=>by
 refine e0c h ?_;clear h;rintro a b xs ys e1 e2 ha hb ⟨hz,q⟩;refine D0m pins s Z H x y v u Q I rx ry (i0x a b xs ys e1 e2 (SqT.of ha) (SqT.of hb) (i04 hz (λz=> ?_) (λ_ z=> ?_) λ_ _ p hp=> ?_))
 ·subst z;exact q b H (A0s.refl _) hb
 ·subst z;exact q a H (A0s.refl _) (by rw [Z0u];exact ha)
 ·exact q p _ (A0f hp) A0b
end
end L2
namespace HT
open PySem PySem.Spec PyProof.Rows L2
section
variable {prog:Program} {w:World} {A:Around} {E:Value->Shared->Prop} {s:Shared}
end
end HT
namespace L2
open PySem PySem.Spec PyProof.Rows
section
variable {X:Cx}
theorem B0c {α:Type} {f:α->V} {ys:List α} {i:Nat}:B4b (ys.map f) none (some (i:Int))=(ys.take i).map f:=by
 unfold B4b;have e1:HT.sIx (ys.map f).length 0 none=0:=rfl;have e2:HT.sIx (ys.map f).length (ys.map f).length (some (i:Int))=min i (ys.map f).length:=HT.sIx_nat _ _ _;rw [e1,e2,List.drop_zero,Nat.sub_zero,List.map_take];by_cases h:i<=(ys.map f).length
 ·rw [Nat.min_eq_left h]
 ·rw [Nat.min_eq_right (by lia),Z2l (Z09 _),Z2l (by lia)]
theorem C2o (hu:X.A.units+64<cLine):OpR X (compareOp .Eq) (λx y H Q=>∃(a b:Addr) (kvs:List (Key×V)),x= .ref a/\y= .ref b/\H a=some (.dK kvs)/\H b=some (.dK [])/\Q (.bl (decide (kvs=[]))) H):=by
 intro pins s Z H x y v u Q I rx ry h;refine e08 h ?_;clear h;rintro a b kvs rfl rfl h1 ⟨h2,q⟩;cases rx;cases ry;obtain ⟨z1,sa,vas,ra,da⟩:kvs.length<=sizeLine/\(a == sysModules)=false/\∃vs,KV kvs vs/\s.heap.DictOf (A0x X.prog X.w) a vs:=I.hok a _ h1;obtain ⟨z2,sb,vbs,rb,db⟩:([]:List (Key×V)).length<=sizeLine/\(b == sysModules)=false/\∃vs,KV [] vs/\s.heap.DictOf (A0x X.prog X.w) b vs:=I.hok b _ h2;have ta:=da.typeIs (s:=s);have tb:=db.typeIs (s:=s);refine e08 da ?_;clear da;rintro oa es ep hoa _ hda ⟨hka,hpa,hna⟩;refine e08 db ?_;clear db;rintro ob es' ep' hob _ hdb ⟨hkb,hpb,hnb⟩;have hla:vas.length=es.size:=by rw [<-hpa.length];exact Array.length_toList
 have hlb:vbs.length=es'.size:=by rw [<-hpb.length];exact Array.length_toList
 have l1:kvs.length=vas.length:=ra.length;have l2:0=vbs.length:=rb.length;have e0:es'.size=0:=by lia
 have fin:∀(nm:String) (Q':Bool->Shared->Prop) (E':Value->Shared->Prop) (A:Around),Q' (decide (kvs=[])) s->wpAny (model X.prog X.w) A (Builtin.Dict.samePairs nm a b) Q' E' s:=λnm Q' E' A hq=>by
  unfold Builtin.Dict.samePairs Builtin.Dict.showsAll;rw [Z0t (show¬(a == sysModules)=true by rw [sa];exact Z0v),Z0t (show¬(b == sysModules)=true by rw [sb];exact Z0v)];refine Z00 (Z04 (Z00 (Z04 ?_)));refine Z00 (wpAny_dictEntries hoa hda ?_);dsimp only;refine Z00 (wpAny_dictEntries hob hdb ?_);by_cases hk:kvs=[]
  ·rw [Z20 hk] at hq;have es0:es.size=0:=by rw [hk] at l1;simp at l1;lia
   rw [Z0t (by rw [e0,es0];simp)];refine Z00 (wpAny_dictEpoch hoa hda ?_);refine Z00 ?_;rw [Std.Legacy.Range.forIn_eq_forIn_range'];simp only [Std.Legacy.Range.size,Nat.sub_zero,Nat.add_sub_cancel,Nat.div_one];rw [es0];exact Z04 (Z04 hq)
  ·rw [Z1j hk] at hq;have hpos:0<kvs.length:=List.length_pos_iff.mpr hk;have hne:(es.size != es'.size)=true:=by rw [bne_iff_ne];lia
   rw [Z12 hne];exact Z00 (wpAny_rule (Z04 hq))
 show wpAny _ _ (richCompare .Eq (.ref a) (.ref b)) _ _ s;refine wpAny_richCompare_same_room (op:= .Eq) ta tb PySem.F.slot_dict_eq (Z1g PySem.F.slot_dict_eq ta PySem.F.entry_dict_eq ?_ (PySem.F.args_dict_eq_2 _ _)) (by lia);show wpAny _ _ (Builtin.Dict.dictSlotArgs "__eq__" ⟨[.ref a,.ref b],[]⟩ >>= _) _ _ s;refine Z00 ?_;unfold Builtin.Dict.dictSlotArgs;refine Z00 (wpAny_notOrdered_dict ta ?_);show wpAny _ _ (pure (Value.ref a,Value.ref b)) _ _ s;refine Z04 ?_;refine Z00 (wpAny_isInstance (T:="dict") tb PySem.F.sub_dict_dict ?_);simp only [Bool.not_true,Bool.false_eq_true,if_false];refine Z00 (Z04 (Z00 (Z04 ?_)));refine Z00 (fin _ _ _ _ ?_);refine Z04 (i06 _ rfl ?_ (A2i I q (by simp)));exact λx=>nomatch x
end
end L2
namespace My
open PySem L2
variable {x y:Str} {ix ax:List (Str×Int)} {e:Str×Int} {xs:List V} {ys ps zs nm:List Str} {a b f p l d D ab:Addr} {c:List Int} {n i j:Nat} {cs:List (List Int×Int)} {kvs ws lk nk rk tk r:List (Key×V)} {fd:FuncData} {es tb es0:List (Str×List Str)} {H H' H2 G:Hp} {o:HO} {K:Frag} {v:V} {T:String} {u:Tm} {S S':Addr->Prop} {A:Adr} {wh lo hi seed z:Int} {ns:List (Str×List (List Int×Int))} {td:List TD} {ms:NS} {cells:List (List Int)} {lds:List LD} {L:Str->Int} {gs0:List (Str×Int×Int)} {ts:List (Str×List Int)} {Ms:List Addr}
inductive Op3 | plus | minus | times
inductive Tm
 | num (z:Int) | place (x:Str) | read (a:Str) (ix:List (Str×Int)) | sum (x:Str) (b:Tm) | pair (k:Op3) (l r:Tm) | guard (x:Str) (lo hi:Int) (l r:Tm)
def B3l (e:Str×Int):PyData:= .tuple [.str e.1,.int e.2]
def A5e (ix:List (Str×Int)):PyData:= .list (ix.map B3l)
def dep:Tm->Nat
 | .sum _ b=>dep b+1
 | .pair _ l r=>max (dep l) (dep r)+1
 | .guard _ _ _ l r=>max (dep l) (dep r)+1
 | _=>1
def Sm (z:Int):Prop:=z.natAbs<=10^32
def B4l (x:Str):Prop:=x.length<=20/\PyData.strOk x=true
def B8r:Tm->Prop
 | .num z=>Sm z
 | .place x=>B4l x
 | .read a ix=>B4l a/\ix.length<=3/\∀e∈ix,B4l e.1/\Sm e.2
 | .sum x b=>B4l x/\B8r b
 | .pair _ l r=>B8r l/\B8r r
 | .guard x lo hi l r=>B4l x/\Sm lo/\Sm hi/\B8r l/\B8r r
theorem B1l:∀t:Tm,1<=dep t
 | .num z=>by simp [dep]
 | .place x=>by simp [dep]
 | .read a ix=>by simp [dep]
 | .sum x b=>by simp [dep]
 | .pair k l r=>by simp [dep]
 | .guard x lo hi l r=>by simp [dep]
def Axs (A:List Str):Tm->Prop
 | .num _=>True
 | .place x=>x∈A
 | .read _ ix=>∀e∈ix,e.1=""\/e.1∈A
 | .sum x b=>x∈A/\Axs A b
 | .pair _ l r=>Axs A l/\Axs A r
 | .guard x _ _ l r=>x∈A/\Axs A l/\Axs A r
abbrev abc:Str:="abcdefghijklmnopqrstuvwxyz"
theorem C8d:abc.cps.toList.length=26:=by decide +kernel
theorem C2f:abc.length=26:=by decide +kernel
theorem D9d:∀c∈abc.cps.toList,c<0x110000:=by decide +kernel
theorem A8g:PyData.strOk x=true↔∀c∈x.cps.toList,c<0x110000:=by
 unfold PyData.strOk;rw [<-Array.all_toList,List.all_eq_true];simp
theorem C9e:PyData.depth (A5e ix)<=2:=by
 have h:∀l:List (Str×Int),PyData.depthAll (l.map B3l)<=1:=by
  intro l
  induction l with
  | nil=>simp [PyData.depthAll]
  | cons e r ih=>simp [B3l,PyData.depthAll,PyData.depth] at *;lia
 have:=h ix;simp only [A5e,PyData.depth]
 lia
theorem D2c:cnt (A5e ix)<=1+3*ix.length:=by
 have h:∀l:List (Str×Int),A4h (l.map B3l)<=3*l.length:=by
  intro l
  induction l with
  | nil=>simp [A4h]
  | cons e r ih=>simp only [B3l,A4h,cnt,Z0p,Z0y] at *;lia
 have:=h ix;simp only [A5e,cnt]
 lia
section
variable {G:Hp} {v:V}
theorem D6r (h:Rep G v (B3l e)):∃p,v= .ref p/\G p=some (.tup [.str e.1,.int e.2]):=by
 obtain ⟨p,xs,rfl,q,r⟩:=D3u (show Rep G v (.tuple [.str e.1,.int e.2]) from h);obtain ⟨a,r1,rfl,ha,r⟩:=B8g r;obtain ⟨b,r2,rfl,hb,r⟩:=B8g r;cases D1b r;cases D5x ha;cases C8g hb;exact i02 p rfl q
end
noncomputable def A9o (cs:List (List Int)) (n:Int):List (List Int):=cs.flatMap λc=>(List.range n.toNat).map λ(k:Nat)=>c++[(k:Int)]
def A0t (ls:List Int):List (List Int):=ls.foldl A9o [[]]
def A5i (ls:List Int):Int:=ls.foldl (· * ·) 1
theorem A4n (ls:List Int) (n:Int):A0t (ls++[n])=A9o (A0t ls) n:=by
 unfold A0t;rw [List.foldl_append];rfl
theorem C3k (ls:List Int) (n:Int):A5i (ls++[n])=A5i ls*n:=by
 unfold A5i;rw [List.foldl_append];rfl
theorem A8p (cs:List (List Int)) (n:Int):(A9o cs n).length=cs.length*n.toNat:=by
 induction cs with
 | nil=>simp [A9o]
 | cons c r ih =>
  have:A9o (c::r) n=((List.range n.toNat).map λ(k:Nat)=>c++[(k:Int)])++A9o r n:=by simp [A9o]
  rw [this,Z06,ih,Z08,List.length_range,Z0y,Nat.succ_mul];lia
def A5v (xs ys:List Int):Prop:=∃(j:Nat) (x y:Int),xs[j]? =some x/\ys[j]? =some y/\x<y/\∀i:Nat,i<j->xs[i]? =ys[i]?
theorem A5v.snoc {xs ys:List Int} (h:A5v xs ys) (a b:Int):A5v (xs++[a]) (ys++[b]):=by
 refine e08 h λj x y h1 h2 h3 h4=>?_;clear h;have l1:j<xs.length:=(Z03.mp h1).1;have l2:j<ys.length:=(Z03.mp h2).1;refine i0q j x y ?_ ?_ h3 λi hi=> ?_
 ·rw [Z26 l1];exact h1
 ·rw [Z26 l2];exact h2
 ·rw [Z26 (by lia),Z26 (by lia)];exact h4 i hi
theorem A5v.last (xs:List Int) {a b:Int} (h:a<b):A5v (xs++[a]) (xs++[b]):=by
 refine i0q xs.length a b (by simp) (by simp) h λi hi=> ?_;rw [Z26 hi,Z26 hi]
def Within (c ls:List Int):Prop:=c.length=ls.length/\∀(k:Nat) (x n:Int),c[k]? =some x->ls[k]? =some n->0<=x/\x<n
theorem Within.snoc {ls:List Int} {n:Int} {k:Nat} (h:Within c ls) (hk:(k:Int)<n):Within (c++[(k:Int)]) (ls++[n]):=by
 obtain ⟨hl,hw⟩:=h;refine ⟨by simp [hl],λi x m hx hm=> ?_⟩;by_cases hi:i<c.length
 ·rw [Z26 hi] at hx;rw [Z26 (by lia)] at hm;exact hw i x m hx hm
 ·have:i=c.length:=by
   have:=(Z03.mp hx).1;simp at this;lia
  subst this;rw [Z1l (Z09 _)] at hx;rw [hl,Z1l (Z09 _)] at hm;simp at hx hm
  lia
theorem C2i {cs:List (List Int)} {n:Int} (h:c∈A9o cs n):∃b∈cs,∃k:Nat,k<n.toNat/\c=b++[(k:Int)]:=by
 unfold A9o at h;obtain ⟨b,hb,h2⟩:=List.mem_flatMap.mp h;obtain ⟨k,hk,e⟩:=Z2c.mp h2;exact i0e b hb k (List.mem_range.mp hk) e.symm
theorem A3z:∀(ls:List Int),∀c∈A0t ls,Within c ls:=by
 intro ls
 have key:∀(m:Nat) (ls:List Int),ls.length=m->∀c∈A0t ls,Within c ls:=by
  intro m
  induction m with
  | zero =>
   intro ls hl c hc;have:ls=[]:=Z2n.mp hl;subst this;have:c=[]:=by simpa [A0t] using hc
   subst this;exact ⟨rfl,λk x n hx _=>by simp at hx⟩
  | succ m ih =>
   intro ls hl c hc;obtain ⟨init,n,rfl⟩:∃init n,ls=init++[n]:=⟨ls.dropLast,ls.getLast (by intro e;simp [e] at hl),(List.dropLast_concat_getLast _).symm⟩;rw [A4n] at hc;obtain ⟨b,hb,k,hk,rfl⟩:=C2i hc;exact (ih init (by simp at hl;lia) b hb).snoc (by lia)
 exact key _ ls rfl
theorem C0h {cs:List (List Int)} {n:Int} (h:cs.Pairwise A5v):(A9o cs n).Pairwise A5v:=by
 induction cs with
 | nil=>simp [A9o]
 | cons c r ih =>
  have e:A9o (c::r) n=((List.range n.toNat).map λ(k:Nat)=>c++[(k:Int)])++A9o r n:=by simp [A9o]
  rw [e,List.pairwise_append];obtain ⟨h1,h2⟩:=List.pairwise_cons.mp h;refine i00 ?_ (ih h2) λx hx y hy=> ?_
  ·rw [List.pairwise_map];exact List.pairwise_lt_range.imp λ{a b} hab=>A5v.last c (by lia)
  ·obtain ⟨k,_,rfl⟩:=Z2c.mp hx;obtain ⟨b,hb,j,_,rfl⟩:=C2i hy;exact (h1 b hb).snoc _ _
theorem B0n (ls:List Int):(A0t ls).Pairwise A5v:=by
 have key:∀(m:Nat) (ls:List Int),ls.length=m->(A0t ls).Pairwise A5v:=by
  intro m
  induction m with
  | zero =>
   intro ls hl;have:ls=[]:=Z2n.mp hl;subst this;simp [A0t]
  | succ m ih =>
   intro ls hl;obtain ⟨init,n,rfl⟩:∃init n,ls=init++[n]:=⟨ls.dropLast,ls.getLast (by intro e;simp [e] at hl),(List.dropLast_concat_getLast _).symm⟩;rw [A4n];exact C0h (ih init (by simp at hl;lia))
 exact key _ ls rfl
theorem A2d (ls:List Int) (h:∀n∈ls,1<=n):((A0t ls).length:Int)=A5i ls/\1<=A5i ls:=by
 have key:∀(m:Nat) (ls:List Int),ls.length=m->(∀n∈ls,1<=n)->((A0t ls).length:Int)=A5i ls/\1<=A5i ls:=by
  intro m
  induction m with
  | zero =>
   intro ls hl _;have:ls=[]:=Z2n.mp hl;subst this;simp [A0t,A5i]
  | succ m ih =>
   intro ls hl hp;obtain ⟨init,n,rfl⟩:∃init n,ls=init++[n]:=⟨ls.dropLast,ls.getLast (by intro e;simp [e] at hl),(List.dropLast_concat_getLast _).symm⟩;obtain ⟨h1,h2⟩:=ih init (by simp at hl;lia) λn hn=>hp n (by simp [hn]);have h3:1<=n:=hp n (by simp);rw [A4n,C3k,A8p];have e:((n.toNat:Nat):Int)=n:=by lia
   refine ⟨by rw [Int.natCast_mul,h1,e],?_⟩;have:=Int.mul_le_mul h2 h3 (by lia) (by lia)
   simpa using this
 exact key _ ls rfl h
structure A8q (ls:List Int):Prop where
 pos:∀n∈ls,1<=n/\n<=60
 few:ls.length<=8
 most:A5i ls<=4000
theorem B0m (ls:List Int) (h:∀n∈ls,1<=n) (i:Nat):1<=A5i (ls.take i)/\A5i (ls.take i)<=A5i ls:=by
 have a:=(A2d (ls.take i) λn hn=>h n (Z2p hn)).2;refine ⟨a,?_⟩;have b:=(A2d (ls.drop i) λn hn=>h n (List.mem_of_mem_drop hn)).2
 have gen:∀(ys:List Int) (x:Int),ys.foldl (· * ·) x=x*A5i ys:=by
  intro ys
  induction ys with
  | nil=>intro x;simp [A5i]
  | cons y r ih=>intro x;simp only [A5i,List.foldl_cons] at ih⊢;rw [ih,ih (1*y),Int.one_mul,Int.mul_assoc]
 have e:A5i ls=A5i (ls.take i)*A5i (ls.drop i):=by
  have:=gen (ls.drop i) (A5i (ls.take i));rw [<-this];unfold A5i;rw [<-List.foldl_append,Z2e]
 rw [e];have:=Z29 b (show (0:Int)<=A5i (ls.take i) by lia)
 simpa using this
theorem A7i {ls:List Int} {n:Int} (h:ls[i]? =some n):A0t (ls.take (i+1))=A9o (A0t (ls.take i)) n:=by
 rw [Z14,h];exact A4n _ _
def A2v (f:Str->Int) (ix:List (Str×Int)):List Int:=ix.map λ(e:Str×Int)=>if e.1=("":Str) then e.2 else f e.1+e.2
def A8y (f:Str->Int) (x:Str) (k:Int):Str->Int:=λy=>if y=x then k else f y
def rd (len:Str->Int):Tm->(Str->Int)->List (Str×List Int)
 | .num _,_=>[]
 | .place _,_=>[]
 | .read a ix,f=>[(a,A2v f ix)]
 | .sum x b,f=>(List.range (len x).toNat).flatMap λ(k:Nat)=>rd len b (A8y f x (k:Int))
 | .pair _ l r,f=>rd len l f++rd len r f
 | .guard x lo hi l r,f=>if lo<=f x/\f x<hi then rd len l f else rd len r f
def Fv:Tm->Str->Prop
 | .num _,_=>False
 | .place x,y=>y=x
 | .read _ ix,y=>y≠""/\∃e∈ix,e.1=y
 | .sum x b,y=>y≠x/\Fv b y
 | .pair _ l r,y=>Fv l y\/Fv r y
 | .guard x _ _ l r,y=>y=x\/Fv l y\/Fv r y
def ai (kvs:List (Key×V)) (x:Str):Int:=match A2r kvs (Sum.inr x) with | some (.int i)=>i | _=>0
theorem D8j {i:Int} (h:A2r kvs (Sum.inr x)=some (.int i)):ai kvs x=i:=by unfold ai;rw [h]
theorem B7b (kvs:List (Key×V)) (x:Str) (k:Int):ai (A4l kvs (Sum.inr x) (.int k))=A8y (ai kvs) x k:=by
 funext y;unfold ai A8y;rw [B1f];by_cases h:y=x
 ·subst h;rw [Z12 rfl,Z12 rfl]
 ·rw [Z0t (λz=>h (by injection z)),Z0t h]
def D8b (kvs:List (Key×V)) (t:Tm):Prop:=∀x,Fv t x->A2r kvs (Sum.inr x)=some (.int (ai kvs x))
theorem D8b.put {b:Tm} (h:D8b kvs (.sum x b)) (k:Int):D8b (A4l kvs (Sum.inr x) (.int k)) b:=by
 intro y hy;rw [B7b,B1f];unfold A8y;by_cases e:y=x
 ·subst e;rw [Z12 rfl,Z12 rfl]
 ·rw [Z0t (λz=>e (by injection z)),Z0t e];exact h y ⟨e,hy⟩
def D2v (A:List Str) (lk:List (Key×V)):Prop:=∀x∈A,A2r lk (Sum.inr x)=some (.int (ai lk x))/\1<=ai lk x/\ai lk x<=60
theorem B2g {α:Type} (f:Nat->List α) (n:Nat):(List.range (n+1)).flatMap f=(List.range n).flatMap f++f n:=by
 rw [List.range_succ,List.flatMap_append];simp
def top (i:Nat):Stmt:=PySem.Challenge.pw_arrayloom_k23_each_cell_its_term.main.body.getD i (.Pass ⟨0,0,0,0⟩)
abbrev B0b:Stmt:=top 5
abbrev A7y:Stmt:=top 6
abbrev B4t:Stmt:=top 8
abbrev A7g:Stmt:=top 9
abbrev B0f:Stmt:=A2l (top 11) 0
abbrev A6h:Stmt:=A2l (top 12) 0
abbrev A7a:Stmt:=top 13
abbrev A7x:Stmt:=top 14
abbrev A5m:Stmt:=top 15
abbrev A6v:Stmt:=top 16
abbrev A7t:Stmt:=A2l (top 18) 0
abbrev A6s:Stmt:=A2l (top 20) 0
abbrev A6d:Stmt:=A2l (top 20) 1
abbrev A7p:Stmt:=A2l (top 21) 0
abbrev A6x:Stmt:=A2l (top 21) 1
abbrev A8s:Stmt:=A2l (top 22) 0
abbrev A6g:Stmt:=A2l (top 22) 1
abbrev A7o:Stmt:=A2l (top 22) 2
abbrev A9v:Stmt:=top 23
abbrev A8l:Stmt:=A2l (top 24) 0
abbrev A7m:Stmt:=A2l (top 24) 1
abbrev A6o:Stmt:=A2l (top 25) 0
abbrev A6i:Stmt:=A2l (top 26) 0
abbrev A6a:Stmt:=A2l (top 27) 0
abbrev A9w:Stmt:=A2l (top 28) 0
abbrev A8r:Stmt:=A2l (top 28) 1
abbrev B6h:Stmt:=top 29
abbrev A7w:Stmt:=A2l (top 30) 0
abbrev A5p:Stmt:=A2l (top 30) 1
abbrev A4p:Stmt:=A2l (top 30) 3
abbrev A6y:Stmt:=A2l (top 30) 4
abbrev A4k:Stmt:=A2l (top 32) 0
abbrev B2r:Stmt:=top 33
abbrev A6w:Stmt:=top 34
abbrev A7n:Stmt:=top 35
abbrev B1w:Stmt:=top 36
abbrev B2i:Stmt:=top 37
abbrev B4v:Stmt:=top 39
abbrev B6g:Stmt:=top 40
abbrev B5j:Stmt:=top 41
abbrev B4w:Stmt:=top 42
abbrev B0a:Stmt:=top 43
abbrev B5e:Stmt:=top 44
abbrev B3b:Stmt:=top 45
abbrev B5i:Stmt:=top 46
abbrev B5m:Stmt:=top 47
abbrev B5v:Stmt:=top 48
abbrev B1o:Stmt:=top 49
abbrev B2q:Stmt:=top 50
abbrev B3a:Stmt:=top 51
abbrev B0h:Stmt:=top 52
abbrev A6q:Stmt:=top 53
abbrev B2u:Stmt:=top 54
abbrev A9z:Stmt:=top 55
abbrev B0d:Stmt:=top 56
abbrev B5h:Stmt:=top 57
abbrev A8k:Stmt:=top 58
abbrev D0z:Stmt:=top 59
structure TyC (K:Frag) (C:Addr):Prop where
 ha:findIn K (.ref C) "__class__"=some (some (.builtin "object.__class__"))
 hn:specialIn K (.builtin "object.__class__") "__get__"=some (some (.builtin "getset_descriptor.__get__"))
 htk:takesIn K (.builtin "object.__class__")=some true
 hm:mroIn K C (.type "object")=some true
abbrev B8w:List Str:=["value"]
abbrev E0e:List Str:=["self","name","axes","term"]
abbrev E0c:List Str:=["self","wheel","axes","tables","lets","outs"]
abbrev D6k:List Str:=["program"]
abbrev D6o:List Str:=["axes","lengths"]
abbrev E0n:List Str:=["self","wheel","lengths","numbers"]
abbrev B1h:List Str:=["self","at","world"]
abbrev E0d:List Str:=["self","array","indexes"]
abbrev D0s:List Str:=["self","at"]
abbrev E0v:List Str:=["axis","shift","at"]
abbrev B0y:List Str:=["self","left","right"]
abbrev D4x:List Str:=["self","axis","body"]
abbrev D6c:List Str:=["self","axis","low","high","inner","outer"]
abbrev D4h:List Str:=["self","array","cell","number"]
abbrev C4a:List Str:=["program","tables"]
abbrev D4a:List Str:=["program","tables","world"]
abbrev D5d:List Str:=["_law_k","_law_seed"]
abbrev D3n:List Str:=["_law_cell_here","_law_names"]
abbrev D3a:List Str:=["_law_rest","_law_shape","_law_lengths","_law_indexes"]
abbrev D3s:List Str:=["_law_term","_law_guards","_law_turned"]
abbrev D4c:List Str:=["_law_rest","_law_about","_law_bound","_law_top"]
abbrev C3h:List Str:=["_law_rest","_law_about","_law_bound","_law_top","_law_still","_law_deep"]
abbrev D0c:List Str:=["_law_tree","_law_lengths"]
abbrev C3r:List Str:=["_law_axes_here","_law_lengths"]
abbrev D4i:List Str:=["_law_indexes","_law_at","_law_about","_law_array"]
abbrev D0d:List Str:=["_law_tree","_law_at","_law_about","_law_told"]
abbrev D5w:List Str:=["_law_found","_law_many_here","_law_wheel"]
abbrev D4t:List Str:=["_law_name_here","_law_about","_law_told"]
abbrev D2y:List Str:=["_law_program_here","_law_about","_law_numbers"]
abbrev D3q:List Str:=["_law_rest","_law_about","_law_names","_law_cells_here","_law_more"]
abbrev D5i:List Str:=["_law_cell_here","_law_many_here"]
abbrev D2x:List Str:=["_law_about","_law_names","_law_cells_here","_law_more"]
abbrev D3x:List Str:=["_law_cells_here","_law_more"]
set_option genInjectivity false in
set_option genSizeOf false in
structure Adr where
 qg:Addr
 qw:Addr
 be:Addr
 ae:Addr
 qK:Addr
 qO:Addr
 cg:Addr
 fg:Addr
 ba:Addr
 qQ:Addr
 fe:Addr
 c6:Addr
 c0:Addr
 jo:Addr
 aq:Addr
 aa:Addr
 oN:Addr
 oO:FuncData
 nZ:Addr
 oj:FuncData
 bv:Addr
 br:FuncData
 bq:Addr
 bo:FuncData
 ke:Addr
 oW:FuncData
 gg:Addr
 mh:FuncData
 mx:Addr
 mt:FuncData
 n_:Addr
 on:FuncData
 jz:Addr
 jw:FuncData
 nj:Addr
 mq:FuncData
 j7:Addr
 om:FuncData
 i6:Addr
 mr:FuncData
 ci:Addr
 ge:FuncData
 j9:Addr
 oo:FuncData
 dh:Addr
 ie:FuncData
 jm:Addr
 ox:FuncData
 g9:Addr
 mi:FuncData
 fh:Addr
 jc:FuncData
 oS:Addr
 oT:FuncData
 df:Addr
 ou:FuncData
 bc:Addr
 j6:FuncData
 ia:Addr
 n8:FuncData
 gn:Addr
 me:FuncData
 gw:Addr
 lh:FuncData
 kz:Addr
 oI:FuncData
 gt:Addr
 jq:FuncData
 pT:Addr
 pR:FuncData
 j5:Addr
 oi:FuncData
 fq:Addr
 kd:FuncData
 dg:Addr
 j8:FuncData
 dz:Addr
 i8:FuncData
 c_:Addr
 iw:FuncData
 pe:Addr
 pi:FuncData
 mo:Addr
 m_:FuncData
 o0:Addr
 nY:FuncData
 pw:Addr
 oY:FuncData
 pf:Addr
 o_:FuncData
 pN:Addr
 pV:FuncData
 pH:Addr
 pE:FuncData
 pM:Addr
 pO:FuncData
 pK:Addr
 pG:FuncData
 oJ:Addr
 oQ:FuncData
 pB:Addr
 pI:FuncData
 gx:Addr
 g_:FuncData
 oF:Addr
 oz:FuncData
 ot:Addr
 oH:FuncData
 pW:Addr
 pC:FuncData
 p9:Addr
 ph:FuncData
 py:Addr
 p7:FuncData
 nX:Addr
 nw:FuncData
 oX:Addr
 oP:FuncData
 ng:Addr
 ni:FuncData
 oZ:Addr
 pj:FuncData
 oR:Addr
 oM:FuncData
 oU:Addr
 oV:FuncData
 pU:Addr
 pY:FuncData
 oA:Addr
 oB:FuncData
 qJ:Addr
 qG:FuncData
structure FQ (K:Frag) (mg:Str->Option Value) (x q:Str) (st:Stmt) (f:Addr) (fd:FuncData) (ps:List Str):Prop where
 F:Fun K x q st f fd
 m:mg x=some (.ref f)
 b:A8w K fd ps []
structure FM (K:Frag) (x q:Str) (st:Stmt) (f:Addr) (fd:FuncData) (ps:List Str):Prop where
 F:Fun K x q st f fd
 b:A8w K fd ps []
structure Txt (K:Frag) (mg:Str->Option Value) (t:Adr):Prop where
 ii:FQ K mg "cells_of" "cells_of" B0b t.oN t.oO ["lengths"]
 fc:FQ K mg "lengthened" "lengthened" A7y t.nZ t.oj ["cells","length"]
 al:FQ K mg "copied" "copied" B4t t.bv t.br B8w
 ay:FQ K mg "copied_dict" "copied_dict" A7g t.bq t.bo B8w
 ik:FM K "__init__" "Let.__init__" B0f t.ke t.oW E0e
 cy:FM K "__init__" "Program.__init__" A6h t.gg t.mh E0c
 du:FQ K mg "table_names" "table_names" A7a t.mx t.mt D6k
 c7:FQ K mg "lengths_of" "lengths_of" A7x t.n_ t.on D6k
 bw:FQ K mg "lengths_along" "lengths_along" A5m t.jz t.jw D6o
 bf:FQ K mg "cells_along" "cells_along" A6v t.nj t.mq D6o
 fi:FM K "__init__" "World.__init__" A7t t.j7 t.om E0n
 d_:FM K "__init__" "Number.__init__" A6s t.i6 t.mr ["self","number"]
 gh:FM K "worth" "Number.worth" A6d t.ci t.ge B1h
 ff:FM K "__init__" "Place.__init__" A7p t.j9 t.oo ["self","axis"]
 i7:FM K "worth" "Place.worth" A6x t.dh t.ie B1h
 gq:FM K "__init__" "Read.__init__" A8s t.jm t.ox E0d
 cq:FM K "cell_at" "Read.cell_at" A6g t.g9 t.mi D0s
 i_:FM K "worth" "Read.worth" A7o t.fh t.jc B1h
 iy:FQ K mg "index_at" "index_at" A9v t.oS t.oT E0v
 bu:FM K "__init__" "Pair.__init__" A8l t.df t.ou B0y
 jd:FM K "worth" "Pair.worth" A7m t.bc t.j6 B1h
 dt:FM K "joined" "Plus.joined" A6o t.ia t.n8 B0y
 c9:FM K "joined" "Minus.joined" A6i t.gn t.me B0y
 cf:FM K "joined" "Times.joined" A6a t.gw t.lh B0y
 ip:FM K "__init__" "Sum.__init__" A9w t.kz t.oI D4x
 jp:FM K "worth" "Sum.worth" A8r t.gt t.jq B1h
 ml:FQ K mg "turned" "turned" B6h t.pT t.pR ["at","axis","number"]
 fk:FM K "__init__" "Guard.__init__" A7w t.j5 t.oi D6c
 bx:FM K "lets_in" "Guard.lets_in" A5p t.fq t.kd D0s
 bg:FM K "looked_at" "Guard.looked_at" A4p t.dg t.j8 D0s
 ib:FM K "worth" "Guard.worth" A6y t.dz t.i8 B1h
 aw:FM K "put" "GrowingWorld.put" A4k t.c_ t.iw D4h
 ji:FQ K mg "meaning" "meaning" B2r t.pe t.pi C4a
 dy:FQ K mg "look_tables" "look_tables" A6w t.mo t.m_ C4a
 fm:FQ K mg "put_tables" "put_tables" A7n t.o0 t.nY D4a
 jf:FQ K mg "put_let" "put_let" B1w t.pw t.oY ["let","world"]
 jk:FQ K mg "rows_of" "rows_of" B2i t.pf t.o_ ["world"]
 au:FQ K mg "_law_cell" "_law_cell" B4v t.pN t.pV ["_law_rest"]
 l_:FQ K mg "_law_name" "_law_name" B6g t.pH t.pE D5d
 jb:FQ K mg "_law_axes" "_law_axes" B5j t.pM t.pO D3n
 kr:FQ K mg "_law_back" "_law_back" B4w t.pK t.pG D3a
 im:FQ K mg "_law_fenced" "_law_fenced" B0a t.oJ t.oQ D3s
 ko:FQ K mg "_law_read" "_law_read" B5e t.pB t.pI D4c
 bm:FQ K mg "_law_grown" "_law_grown" B3b t.gx t.g_ C3h
 cu:FQ K mg "_law_made" "_law_made" B5i t.oF t.oz ["_law_tree"]
 bt:FQ K mg "_law_work" "_law_work" B5m t.ot t.oH D0c
 cj:FQ K mg "_law_many" "_law_many" B5v t.pW t.pC C3r
 jg:FQ K mg "_law_cells" "_law_cells" B1o t.p9 t.ph C3r
 jl:FQ K mg "_law_place" "_law_place" B2q t.py t.p7 D4i
 bi:FQ K mg "_law_worth" "_law_worth" B3a t.nX t.nw D0d
 ir:FQ K mg "_law_wholes" "_law_wholes" B0h t.oX t.oP D5w
 di:FQ K mg "_law_let_holds" "_law_let_holds" A6q t.ng t.ni D4t
 eu:FQ K mg "_law_holds" "_law_holds" B2u t.oZ t.pj D2y
 iu:FQ K mg "_law_tables" "_law_tables" A9z t.oR t.oM D3q
 ij:FQ K mg "_law_digits" "_law_digits" B0d t.oU t.oV D5i
 kf:FQ K mg "_law_lets" "_law_lets" B5h t.pU t.pY D2x
 de:FQ K mg "_law_program" "_law_program" A8k t.oA t.oB D3x
 qk:FQ K mg "law" "law" D0z t.qJ t.qG ["_law_script"]
 qB:mg "Let"=some (.ref t.be)
 pd:mg "Program"=some (.ref t.ae)
 pL:mg "Number"=some (.ref t.cg)
 p_:mg "Place"=some (.ref t.fg)
 qv:mg "Read"=some (.ref t.ba)
 ql:mg "Plus"=some (.ref t.fe)
 pZ:mg "Minus"=some (.ref t.c6)
 qd:mg "Times"=some (.ref t.c0)
 qA:mg "Sum"=some (.ref t.jo)
 qc:mg "Guard"=some (.ref t.aq)
 m9:mg "GrowingWorld"=some (.ref t.aa)
 ac:Cls K t.aa
 jx:Mk K t.aa t.j7
 aj:A1s K t.aa "wheel"
 am:A1s K t.aa "lengths"
 ag:A1s K t.aa "numbers"
 b_:B3u K t.aa "put" t.c_
 pA:TyC K t.aa
 av:Cls K t.aq
 pS:Mk K t.aq t.j5
 i9:A1s K t.aq "axis"
 ja:A1s K t.aq "low"
 h_:A1s K t.aq "high"
 fz:A1s K t.aq "inner"
 gj:A1s K t.aq "outer"
 jh:B3u K t.aq "lets_in" t.fq
 iq:B3u K t.aq "looked_at" t.dg
 kg:B3u K t.aq "worth" t.dz
 qy:TyC K t.aq
 gc:Cls K t.be
 qp:Mk K t.be t.ke
 jr:A1s K t.be "name"
 f_:A1s K t.be "axes"
 jt:A1s K t.be "term"
 qu:TyC K t.be
 oE:mroIn K t.be (.type "list")=some false
 og:mroIn K t.be (.type "tuple")=some false
 oG:mroIn K t.be (.type "dict")=some false
 pQ:Cls K t.c6
 pJ:Mk K t.c6 t.df
 nv:A1s K t.c6 "left"
 ky:A1s K t.c6 "right"
 jv:B3u K t.c6 "joined" t.gn
 mf:B3u K t.c6 "worth" t.bc
 qF:TyC K t.c6
 je:Cls K t.cg
 p6:Mk K t.cg t.i6
 e8:A1s K t.cg "number"
 ju:B3u K t.cg "worth" t.ci
 qx:TyC K t.cg
 lu:Cls K t.fg
 pX:Mk K t.fg t.j9
 ig:A1s K t.fg "axis"
 kh:B3u K t.fg "worth" t.dh
 qI:TyC K t.fg
 qf:Cls K t.fe
 qb:Mk K t.fe t.df
 oh:A1s K t.fe "left"
 nh:A1s K t.fe "right"
 md:B3u K t.fe "joined" t.ia
 my:B3u K t.fe "worth" t.bc
 qN:TyC K t.fe
 ao:Cls K t.ae
 oK:Mk K t.ae t.gg
 eh:A1s K t.ae "wheel"
 fu:A1s K t.ae "axes"
 a_:A1s K t.ae "tables"
 fo:A1s K t.ae "lets"
 kc:A1s K t.ae "outs"
 qm:TyC K t.ae
 gy:Cls K t.ba
 q9:Mk K t.ba t.jm
 i3:A1s K t.ba "array"
 fw:A1s K t.ba "indexes"
 j_:B3u K t.ba "cell_at" t.g9
 mw:B3u K t.ba "worth" t.fh
 qL:TyC K t.ba
 lf:Cls K t.jo
 qr:Mk K t.jo t.kz
 ga:A1s K t.jo "axis"
 jn:A1s K t.jo "body"
 oq:B3u K t.jo "worth" t.gt
 qP:TyC K t.jo
 pP:Cls K t.c0
 pF:Mk K t.c0 t.df
 n6:A1s K t.c0 "left"
 k_:A1s K t.c0 "right"
 jy:B3u K t.c0 "joined" t.gw
 ku:B3u K t.c0 "worth" t.bc
 qz:TyC K t.c0
 bh:mg "range"=none
 af:mg "isinstance"=none
 cv:mg "list"=none
 c8:mg "tuple"=none
 e_:mg "dict"=none
 qh:mg "set"=none
 bd:mg "len"=none
 nW:mg "zip"=none
 qE:mg "min"=none
 qj:mg "max"=none
 qo:mg "bool"=none
 qC:mg "int"=none
 qi:mg "sum"=none
 mn:mg "reversed"=none
abbrev FO (P:Program) (w:World) (base:Heap) {K:Frag} {mg:Str->Option Value} {x q:Str} {st:Stmt} {f:Addr} {fd:FuncData} {ps:List Str} (_:FQ K mg x q st f fd ps) (n:Nat) (sp:Sp):Prop:=A4c P w K mg base CX0 n f fd ps sp
abbrev FP (P:Program) (w:World) (mg:Str->Option Value) (base:Heap) {K:Frag} {x q:Str} {st:Stmt} {f:Addr} {fd:FuncData} {ps:List Str} (_:FM K x q st f fd ps) (n:Nat) (sp:Sp):Prop:=A4c P w K mg base CX0 n f fd ps sp
theorem pcl {X:Cx} {k k2:Nat} {sp:Sp} {q:Str} {st:Stmt} {e:Expr} {es:List Expr} {t:TA} {p pos:Pos} (F:A4c X.prog X.w X.K X.mg X.base CX0 k f fd ps sp) (hr:A9c k2 X.A) (Zz:FQ X.K X.mg x q st f fd ps) (ha:PA X (e::es) t) (hk:k<=k2:=by lia) (hg:Gl X x:=by rfl) (hdb:(x == ("__debug__":Str))=false:=by decide) (he:starEach (e::es) X.env=(false,eval e X.env)::starEach es X.env:=by rfl) (hpl:(backTo pos (starEach es X.env)).any (·.1)=false:=by rfl):PE X (.Call (.Name x p) (e::es) [] pos) (D8i sp [] E0 t):=D3r F (hr.mono hk) hg Zz.m Zz.F.kp Zz.b .nil B6t ha hdb he hpl
theorem pmk {X:Cx} {C:Addr} {k k2:Nat} {sp:Sp} {e:Expr} {es:List Expr} {t:TA} {p pos:Pos} (M:Mk X.K C f) (F:A4c X.prog X.w X.K X.mg X.base CX0 k f fd ps sp) (hr:A9c k2 X.A) (hm:X.mg x=some (.ref C)) (hb:A8w X.K fd ps []) (ha:PA X (e::es) t) (hk:k+1<=k2:=by lia) (hg:Gl X x:=by rfl) (hdb:(x == ("__debug__":Str))=false:=by decide) (he:starEach (e::es) X.env=(false,eval e X.env)::starEach es X.env:=by rfl) (hpl:(backTo pos (starEach es X.env)).any (·.1)=false:=by rfl):PE X (.Call (.Name x p) (e::es) [] pos) (D9h C sp [] E0 t):=D5t M F (hr.mono hk) hg hm hb .nil B6t ha hdb he hpl
theorem A1j (h:Nat.ble n 1000000=true):n<=sizeLine:=A4d (Nat.le_of_ble_eq_true h)
theorem E1t:(0:Int)<2:=by decide
theorem D7g:(0:Int)<26:=by decide
theorem E0k:(0:Int)<3:=by decide
theorem E0i:(0:Int)<30:=by decide
theorem C9h:(0:Int)<4:=by decide
theorem z_50:(0:Int)<5:=by decide
theorem z_70:(0:Int)<7:=by decide
theorem E2f:(0:Int)<8:=by decide
theorem nH {x:Addr} (h:H x=none):∃H',A0s H H'/\H' x=some o/\upd H x o=H':=⟨_,A0f h,A0b,rfl⟩
abbrev Sro (a:Addr):Option V:=some (.ref a)
abbrev Sio (a:Int):Option V:=some (.int a)
abbrev Sso (a:Str):Option V:=some (.str a)
abbrev Sbo (a:Bool):Option V:=some (.bl a)
local macro_rules | `(tactic| walk_at "ix") => `(tactic| first | exact Or.inl rfl | exact Or.inr rfl | (simp [relabel]; rfl) | (with_unfolding_all exact Or.inl rfl) | (with_unfolding_all exact Or.inr rfl) | (with_unfolding_all decide))
local macro_rules | `(tactic| walk_at "sc") => `(tactic| exact ⟨rfl, rfl, rfl, by decide +kernel, rfl, by decide +kernel, by decide +kernel⟩)
local macro_rules | `(tactic| walk_at "ln") => `(tactic| (intro _ _ _ _ h; first | (cases h; subst_vars; rfl) | ((repeat (obtain ⟨_, h⟩ := h)); subst_vars; rfl)))
theorem A7e:A0v ["lengths","cells","length"] ["lengths"] (A0k B0b):=by walk_at "sc"
theorem A5g:A0v ["cells","length","longer","cell","number"] ["cells","length"] (A0k A7y):=by walk_at "sc"
theorem A9g:A0v B8w ["value"] (A0k B4t):=by walk_at "sc"
theorem A4s:A0v ["value","fresh","key","member"] B8w (A0k A7g):=by walk_at "sc"
theorem C0s:A0v E0e ["self","name","axes","term"] (A0k B0f):=by walk_at "sc"
theorem B1x:A0v E0c ["self","wheel","axes","tables","lets","outs"] (A0k A6h):=by walk_at "sc"
theorem B3p:A0v D6k ["program"] (A0k A7a):=by walk_at "sc"
theorem B6c:A0v D6k ["program"] (A0k A7x):=by walk_at "sc"
theorem B0x:A0v D6o ["axes","lengths"] (A0k A5m):=by walk_at "sc"
theorem B3d:A0v D6o ["axes","lengths"] (A0k A6v):=by walk_at "sc"
theorem B5r:A0v E0n ["self","wheel","lengths","numbers"] (A0k A7t):=by walk_at "sc"
theorem B3i:A0v ["self","number"] ["self","number"] (A0k A6s):=by walk_at "sc"
theorem B2h:A0v B1h ["self","at","world"] (A0k A6d):=by walk_at "sc"
theorem B5z:A0v ["self","axis"] ["self","axis"] (A0k A7p):=by walk_at "sc"
theorem B3r:A0v B1h ["self","at","world"] (A0k A6x):=by walk_at "sc"
theorem B7v:A0v E0d ["self","array","indexes"] (A0k A8s):=by walk_at "sc"
theorem B1p:A0v D0s ["self","at"] (A0k A6g):=by walk_at "sc"
theorem B5n:A0v B1h ["self","at","world"] (A0k A7o):=by walk_at "sc"
theorem B9i:A0v E0v ["axis","shift","at"] (A0k A9v):=by walk_at "sc"
theorem B7f:A0v B0y ["self","left","right"] (A0k A8l):=by walk_at "sc"
theorem A6u:A0v ["self","at","world","left","right"] B1h (A0k A7m):=by walk_at "sc"
theorem B3g:A0v B0y ["self","left","right"] (A0k A6o):=by walk_at "sc"
theorem B2m:A0v B0y ["self","left","right"] (A0k A6i):=by walk_at "sc"
theorem B2z:A0v B0y ["self","left","right"] (A0k A6a):=by walk_at "sc"
theorem B9h:A0v D4x ["self","axis","body"] (A0k A9w):=by walk_at "sc"
theorem A5z:A0v ["self","at","world","total","number"] B1h (A0k A8r):=by walk_at "sc"
theorem B7n:A0v ["at","axis","number","inside"] ["at","axis","number"] (A0k B6h):=by walk_at "sc"
theorem B6a:A0v D6c ["self","axis","low","high","inner","outer"] (A0k A7w):=by walk_at "sc"
theorem B0r:A0v D0s ["self","at"] (A0k A5p):=by walk_at "sc"
theorem A9e:A0v D0s ["self","at"] (A0k A4p):=by walk_at "sc"
theorem B3v:A0v B1h ["self","at","world"] (A0k A6y):=by walk_at "sc"
theorem A8v:A0v D4h ["self","array","cell","number"] (A0k A4k):=by walk_at "sc"
theorem A9p:A0v ["program","tables","world","let"] C4a (A0k B2r):=by walk_at "sc"
theorem A4t:A0v ["program","tables","lengths","name","axes"] C4a (A0k A6w):=by walk_at "sc"
theorem A4i:A0v ["program","tables","world","name","axes","cell","number"] D4a (A0k A7n):=by walk_at "sc"
theorem A9t:A0v ["let","world","cell","at"] ["let","world"] (A0k B1w):=by walk_at "sc"
theorem A8b:A0v ["world","rows","array","numbers"] ["world"] (A0k B2i):=by walk_at "sc"
theorem C8b:A0v ["_law_rest"] ["_law_rest"] (A0k B4v):=by walk_at "sc"
theorem A5q:A0v ["_law_k","_law_seed","_law_letters","_law_size","_law_spot","_law_base","_law_text"] D5d (A0k B6g):=by walk_at "sc"
theorem A9n:A0v ["_law_cell_here","_law_names","_law_many_here","_law_turn"] D3n (A0k B5j):=by walk_at "sc"
theorem A7v:A0v ["_law_rest","_law_shape","_law_lengths","_law_indexes","_law_step","_law_at","_law_size"] D3a (A0k B4w):=by walk_at "sc"
theorem A3x:A0v ["_law_term","_law_guards","_law_turned","_law_axis","_law_low","_law_high"] D3s (A0k B0a):=by walk_at "sc"
theorem A1q:A0v ["_law_rest","_law_about","_law_bound","_law_top","_law_cell_here","_law_known","_law_array","_law_shape","_law_lengths","_law_some","_law_indexes","_law_name_here","_law_step","_law_axis","_law_shift","_law_guards","_law_index"] D4c (A0k B5e):=by walk_at "sc"
theorem A3g:A0v ["_law_rest","_law_about","_law_bound","_law_top","_law_still","_law_deep","_law_cell_here","_law_way","_law_free","_law_axis","_law_low","_law_inner","_law_outer","_law_left"] C3h (A0k B3b):=by walk_at "sc"
theorem B3c:A0v ["_law_tree","_law_left","_law_right"] ["_law_tree"] (A0k B5i):=by walk_at "sc"
theorem C5g:A0v D0c ["_law_tree","_law_lengths"] (A0k B5m):=by walk_at "sc"
theorem A9j:A0v ["_law_axes_here","_law_lengths","_law_many_here","_law_name_here"] C3r (A0k B5v):=by walk_at "sc"
theorem A5l:A0v ["_law_axes_here","_law_lengths","_law_cells_here","_law_name_here","_law_longer","_law_cell_here"] C3r (A0k B1o):=by walk_at "sc"
theorem A4q:A0v ["_law_indexes","_law_at","_law_about","_law_array","_law_place_here","_law_index","_law_name_here","_law_number"] D4i (A0k B2q):=by walk_at "sc"
theorem A4o:A0v ["_law_tree","_law_at","_law_about","_law_told","_law_total","_law_within","_law_number","_law_left","_law_right"] D0d (A0k B3a):=by walk_at "sc"
theorem B2n:A0v ["_law_found","_law_many_here","_law_wheel","_law_number"] D5w (A0k B0h):=by walk_at "sc"
theorem A2e:A0v ["_law_name_here","_law_about","_law_told","_law_axes_here","_law_cells_here","_law_cell_here","_law_number","_law_at","_law_axis","_law_count"] D4t (A0k A6q):=by walk_at "sc"
theorem A3q:A0v ["_law_program_here","_law_about","_law_numbers","_law_handed","_law_name_here","_law_told","_law_axes_here","_law_many_here"] D2y (A0k B2u):=by walk_at "sc"
theorem A1y:A0v ["_law_rest","_law_about","_law_names","_law_cells_here","_law_more","_law_tables_here","_law_numbers","_law_name_here","_law_cell_here","_law_axes_here","_law_some","_law_row","_law_j","_law_drawn"] D3q (A0k A9z):=by walk_at "sc"
theorem A5s:A0v ["_law_cell_here","_law_many_here","_law_digits_here","_law_rest","_law_k"] D5i (A0k B0d):=by walk_at "sc"
theorem A2u:A0v ["_law_about","_law_names","_law_cells_here","_law_more","_law_lets_here","_law_work_here","_law_k","_law_rest","_law_axes_here","_law_tree","_law_many_here"] D2x (A0k B5h):=by walk_at "sc"
theorem A1k:A0v ["_law_cells_here","_law_more","_law_rest","_law_many_here","_law_tabled","_law_told","_law_seed","_law_wheel","_law_names","_law_lengths","_law_name_here","_law_about","_law_tables_here","_law_numbers","_law_lets_here","_law_axes_here"] D3x (A0k A8k):=by walk_at "sc"
theorem A9b:A0v ["_law_script","_law_cells_here","_law_program_here","_law_about","_law_numbers","_law_other","_law_beside","_law_some","_law_told"] ["_law_script"] (A0k D0z):=by walk_at "sc"
theorem A4w:(["member"]:List Str).Nodup:=by decide +kernel
theorem B8q:(["name","axes"]:List Str).Nodup:=by decide +kernel
theorem C7d:(["axis","lengths"]:List Str).Nodup:=by decide +kernel
theorem B7e:(["axis","shift","at"]:List Str).Nodup:=by decide +kernel
theorem C5t:(["_law_j","_law_base"]:List Str).Nodup:=by decide +kernel
theorem C5d:(["_law_j","_law_base"]:List Str).Nodup:=by decide +kernel
theorem C8k:(["_law_j","_law_cell_here","_law_many_here","_law_names","_law_turn"]:List Str).Nodup:=by decide +kernel
theorem C6w:(["_law_name_here"]:List Str).Nodup:=by decide +kernel
theorem C6e:(["_law_name_here","_law_bound"]:List Str).Nodup:=by decide +kernel
theorem C7v:(["_law_number","_law_cell_here"]:List Str).Nodup:=by decide +kernel
theorem C3i:(["_law_number","_law_about"]:List Str).Nodup:=by decide +kernel
theorem C4e:(["_law_cell_here"]:List Str).Nodup:=by decide +kernel
theorem C2x:(["_law_k","_law_seed"]:List Str).Nodup:=by decide +kernel
theorem C3j:(["_law_name_here","_law_lengths"]:List Str).Nodup:=by decide +kernel
theorem C4q:(["_law_cell_here"]:List Str).Nodup:=by decide +kernel
theorem A4c.none {P:Program} {w:World} {mg:Str->Option Value} {base:Heap} {CX:CXT} {k:Nat} {sp:Sp} (h:∀vs H Q E,¬sp vs H Q E):A4c P w K mg base CX k f fd ps sp :=
 ⟨λvs H Q E q=>(h vs H Q E q).elim,λ_ _ _ H _ _ vs Q E _ _ _ _ q=>(h vs H Q E q).elim⟩
def C4s (e:Str×List Str):PyData:= .tuple [.str e.1,.list (e.2.map PyData.str)]
def B3w (ts:List (Str×List Str)):PyData:= .list (ts.map C4s)
def D2t (xs:List Str):PyData:= .list (xs.map PyData.str)
theorem C0c:∀xs:List Str,PyData.depthAll (xs.map PyData.str)=0/\A4h (xs.map PyData.str)=xs.length
 | []=>⟨rfl,rfl⟩
 | x::r=>by
  obtain ⟨h2,h3⟩:=C0c r;refine ⟨?_,?_⟩
  ·simp [PyData.depthAll,PyData.depth,h2]
  ·simp [A4h,cnt,h3];lia
theorem C5x (xs:List Str):(D2t xs).depth<=1/\cnt (D2t xs)<=1+xs.length:=by
 obtain ⟨h2,h3⟩:=C0c xs;refine ⟨?_,?_⟩
 ·simp [D2t,PyData.depth,h2]
 ·simp only [D2t,cnt,h3];lia
theorem D8u {n:Nat}:∀ts:List (Str×List Str),(∀e∈ts,e.2.length<=n)->PyData.depthAll (ts.map C4s)<=2/\A4h (ts.map C4s)<=ts.length*(n+4)
 | [],_=>⟨by simp [PyData.depthAll],by simp [A4h]⟩
 | e::r,h=>by
  obtain ⟨h2,h3⟩:=D8u r λx hx=>h x (.tail _ hx);obtain ⟨g2,g3⟩:=C0c e.2;have hl:=h e (.head _);refine ⟨?_,?_⟩
  ·simp only [Z0p,C4s,PyData.depthAll,PyData.depth,g2]
   lia
  ·simp only [Z0p,C4s,A4h,cnt,g3,Z0y,Nat.add_mul,Nat.one_mul]
   lia
theorem C9v (ts:List (Str×List Str)) (h:∀e∈ts,e.2.length<=n):(B3w ts).depth<=3/\cnt (B3w ts)<=1+ts.length*(n+4):=by
 obtain ⟨h2,h3⟩:=D8u ts h;refine ⟨?_,?_⟩
 ·simp only [B3w,PyData.depth];lia
 ·simp only [B3w,cnt];lia
theorem D8h:∀ts:List (Str×Int),PyData.depthAll (ts.map B3l)<=1
 | []=>by simp [PyData.depthAll]
 | e::r=>by
  have h2:=D8h r;simp only [Z0p,B3l,PyData.depthAll,PyData.depth];lia
theorem D0r (ts:List (Str×Int)):(A5e ts).depth<=2:=by
 have h2:=D8h ts;simp only [A5e,PyData.depth];lia
theorem B8b {H:Hp}:∀{ys:List Str} {xs:List V},A3l H xs (ys.map PyData.str)->xs=ys.map V.str
 | [],_,r=>by cases r;rfl
 | y::ys,_,r=>by
  rw [Z0p] at r
  cases r with
  | cons a r =>
   cases a
   rw [Z0p,B8b r]
theorem D3w (h:Rep H v (D2t ys)):∃p,v= .ref p/\H p=some (.lst (ys.map V.str)):=by
 obtain ⟨p,xs,rfl,e,r⟩:=A7b (show Rep H v (.list (ys.map PyData.str)) from h);rw [B8b r] at e;exact i02 p rfl e
theorem D7l (e:H p=some (.lst (ys.map V.str))):Rep H (.ref p) (D2t ys):= .lst e (A3l.strs ys)
theorem D3b {e:Str×List Str} (h:Rep H v (C4s e)):∃b c,v= .ref b/\H b=some (.tup [.str e.1,.ref c])/\H c=some (.lst (e.2.map V.str)):=by
 unfold C4s at h
 cases h with
 | @tup b xs _ eb r =>
  cases r with
  | cons a r =>
   cases r with
   | cons a2 r =>
    cases r
    cases a
    obtain ⟨c,rfl,ec⟩:=D3w a2;exact i0f b c rfl eb ec
theorem E0a (h:Rep H v (B3l e)):∃b,v= .ref b/\H b=some (.tup [.str e.1,.int e.2]):=by
 unfold B3l at h
 cases h with
 | @tup b xs _ eb r =>
  cases r with
  | cons a r =>
   cases r with
   | cons a2 r =>
    cases r
    cases a
    cases a2
    exact i02 b rfl eb
theorem B9q {α:Type} {f:α->PyData} {ts:List α} (r:A3l H xs (ts.map f)) {x:V} (hx:xs[i]? =some x):∃e,ts[i]? =some e/\Rep H x (f e):=by
 obtain ⟨d,hd,rx⟩:=r.get2 hx;rw [Z1z] at hd;obtain ⟨e,he,rfl⟩:=Z0i.mp hd;exact i02 e he rx
theorem B1e {α β:Type} {F:α->β->Prop}:∀{l:List α} {m:List β},Paired F l m->∀{i:Nat} {x:α},l[i]? =some x->∃y,m[i]? =some y/\F x y
 | _,_,.nil,i,x,e=>by simp at e
 | _,_,.cons r t,0,x,e=>by simp at e;subst e;exact i02 _ rfl r
 | _,_,.cons r t,i+1,x,e=>by
  obtain ⟨y,e1,e2⟩:=B1e t (i:=i) (by simpa using e);exact i02 y (by simpa using e1) e2
theorem B3s {α β:Type} {F:α->β->Prop}:∀{a c:List α} {b d:List β},Paired F a b->Paired F c d->Paired F (a++c) (b++d)
 | _,_,_,_,.nil,h=>h
 | _,_,_,_,.cons r t,h=> .cons r (B3s t h)
theorem A2b {α:Type} {f:α->V} {xs:List α} (h:(xs.map f)[i]? =some v):∃x,xs[i]? =some x/\v=f x:=by
 rw [Z1z] at h
 cases e:xs[i]? with
 | none=>rw [e] at h;cases h
 | some x=>rw [e] at h;exact i02 x rfl ((Z1a h).symm)
local macro_rules | `(tactic| walk_at "lk") => `(tactic| first | with_reducible exact lk0 | (refine lk1 (by decide +kernel) ?_; walk_at "lk") | rfl)
def C1h (K:Frag) (f:Str):Sp:=λvs H Q _=>∃(p C dx:Addr) (v:V),vs=[.ref p,v]/\H p=some (.ins C dx [])/\Cls K C/\A1s K C f/\Q .non (upd H p (.ins C dx [(f,v)]))
def C1w (K:Frag) (f g:Str):Sp:=λvs H Q _=>∃(p C dx:Addr) (v u:V),vs=[.ref p,v,u]/\H p=some (.ins C dx [])/\Cls K C/\A1s K C f/\A1s K C g/\Q .non (upd H p (.ins C dx [(f,v),(g,u)]))
def C5i (n:Nat):Sp:=λvs H Q _=>∃(v:V) (d:PyData),vs=[v]/\Rep H v d/\PyData.depth d<=n/\cnt d<=100000/\∀(v':V) (H':Hp),A0s H H'->Rep (A1w (λa=>H a=none) H') v' d->Q v' H'
def D7a (C:Addr):Sp:=λvs H Q _=>∃(a dx:Addr) (fs:List (Str×V)),vs=[.ref a]/\H a=some (.ins C dx fs)/\Q (.ref a) H
def D1x (C:Addr):Sp:=λvs H Q _=>∃(p:Addr) (xs:List V),vs=[.ref p]/\H p=some (.lst xs)/\xs.length<=1000/\(∀x∈xs,∃a dx fs,x= .ref a/\H a=some (.ins C dx fs))/\∀(D:Addr) (H':Hp),H D=none->A0s H H'->H' D=some (.lst xs)->Q (.ref D) H'
def D4f:Sp:=λvs H Q _=>∃(d:Addr) (kvs:List (Key×V)) (ds:List PyData),vs=[.ref d]/\H d=some (.dK kvs)/\kvs.length<=100000/\Paired (λ(a:Key×V) (x:PyData)=>Rep H a.2 x/\PyData.depth x<=1/\cnt x<=100000) kvs ds/\
 ∀(p:Addr) (kvs':List (Key×V)) (H':Hp),H p=none->A0s H H'->H' p=some (.dK kvs')->kvs'.map (·.1)=kvs.map (·.1)->Paired (λ(b:Key×V) (x:PyData)=>Rep (A1w (λa=>H a=none) H') b.2 x) kvs' ds->Q (.ref p) H'
variable {P:Program} {w:World} {K:Frag} {mg:Str->Option Value} {base:Heap} {t:Adr}
theorem B3j (T:Txt K mg t):FP P w mg base T.d_ 1 (C1h K "number"):=by
 refine T.d_.F.ok B3i (by walk_at "ln") λ_ A _ s H _ Q E hr h=> ?_
 ·refine e0c h ?_;clear h;rintro p C dx v rfl hp cl na k;exact i02 _ (A0e (A3i (pv 0) (pv 1) rfl)) (i1a _ rfl _ rfl p C dx [] rfl hp cl na (by decide) k)
theorem B8f (T:Txt K mg t):FP P w mg base T.bu 1 (C1w K "left" "right"):=by
 refine T.bu.F.ok B7f (λvs H Q E h=> ?_) λ_ A _ s H _ Q E hr h=> ?_
 ·refine e07 h ?_;clear h;rintro p C dx v u ⟨rfl,_⟩;rfl
 ·refine e0d h ?_;clear h;rintro p C dx v u rfl hp cl n1 ⟨n2,k⟩
  refine ⟨_,(A0c (A3i (pv 0) (pv 1) rfl)
   (A0e (A3i (pv 0) (pv 2) rfl))),_,rfl,_,rfl,p,C,dx,[],rfl,hp,cl,n1,(by decide),_,rfl,_,rfl,p,C,dx,_,rfl,A0b,cl,n2,(by show 1<1000;decide),?_⟩
  show Q V.non (upd (upd H p _) p (.ins C dx (A6b "right" u (A6b "left" v []))));rw [A8o,A1v,A1r (by decide +kernel),A1v];exact k
theorem A5u (h:T="NoneType"\/T="bool"\/T="int"\/T="str"\/T="tuple"):∀u,A2z (.ty "list") u->kitOne K (.type T) u=some false:=by
 rcases h with rfl | rfl | rfl | rfl | rfl <;> exact B4j (by decide +kernel) (by decide +kernel) (by decide +kernel)
theorem A5x (h:T="NoneType"\/T="bool"\/T="int"\/T="str"):∀u,A2z (.ty "tuple") u->kitOne K (.type T) u=some false:=by
 rcases h with rfl | rfl | rfl | rfl <;> exact B4j (by decide +kernel) (by decide +kernel) (by decide +kernel)
theorem A7d (h:T="NoneType"\/T="bool"\/T="int"\/T="str"):∀u,A2z (.ty "dict") u->kitOne K (.type T) u=some false:=by
 rcases h with rfl | rfl | rfl | rfl <;> exact B4j (by decide +kernel) (by decide +kernel) (by decide +kernel)
theorem C1i (T:Txt K mg t) {m:Nat} {sp':Sp} (Ga0:A4c P w K mg base CX0 m t.bv t.br B8w sp')
  (hs:∀(v:V) (d:PyData) (H:Hp) (Q:VK),Rep H v d->PyData.depth d+1<=n->cnt d<=100000->(∀(v':V) (H':Hp),A0s H H'->Rep (A1w (λa=>H a=none) H') v' d->Q v' H')->sp' [v] H Q E0) :
  A4c P w K mg base CX0 (m+1) t.bv t.br B8w (C5i n):=by
 refine T.al.F.ok A9g (by walk_at "ln") λ_ A _ s H _ Q E hr h=> ?_
 ·refine e06 h ?_;clear h;rintro v d rfl rp hd ⟨hc,k⟩;have Ga1:A4c P w K mg base CX0 0 t.bq t.bo B8w (λ_ _ _ _=>False):=A4c.none λ_ _ _ _ h=>h
  refine ⟨_,(A0c (A1o (A3w (A0y A1m (by rfl) T.af Z0d (A0a (pv 0) (A0a (A3u (v:=V.ty "list") rfl T.cv Z1o rfl) A0d))))
    (A0e (A0o (A3h (N':=["member"]) (ix:=(List.replicate 1 none)) rfl (A3f rfl (by decide +kernel) (by decide +kernel)) (A3c rfl) (B0l (pv 0)) (λ_ _ _ _=>(A0m (i:=0) A4w)) (λ_ _ _ _=>(pcl Ga0 hr T.al (A0a (pv 0) A0d))))))
    A0r)
   (A0c (A1o (A3w (A0y A1m (by rfl) T.af Z0d (A0a (pv 0) (A0a (A3u (v:=V.ty "tuple") rfl T.c8 Z0m rfl) A0d))))
    (A0e (A0o (A2a A4f (by rfl) T.c8 Z0m (A0a (A3h (N':=["member"]) (ix:=(List.replicate 1 none)) rfl (A3f rfl (by decide +kernel) (by decide +kernel)) (A3c rfl) (B0l (pv 0)) (λ_ _ _ _=>(A0m (i:=0) A4w)) (λ_ _ _ _=>(pcl Ga0 hr T.al (A0a (pv 0) A0d)))) A0d))))
    A0r)
   (A0c (A1o (A3w (A0y A1m (by rfl) T.af Z0d (A0a (pv 0) (A0a (A3u (v:=V.ty "dict") rfl T.e_ Z2q rfl) A0d))))
    (A0e (A0o (pcl Ga1 hr T.ay (A0a (pv 0) A0d))))
    A0r)
   (A0e (A0o (pv 0)))))),?_⟩
  cases rp with
  | non =>
   refine i14 _ rfl _ _ _ _ rfl .non (A5u (.inl rfl)) false rfl (A7j ?_);refine i14 _ rfl _ _ _ _ rfl .non (A5x (.inl rfl)) false rfl (A7j ?_);exact i14 _ rfl _ _ _ _ rfl .non (A7d (.inl rfl)) false rfl (A7j (i02 _ rfl (k _ _ (A0s.refl _) .non)))
  | bl b =>
   refine i14 _ rfl _ _ _ _ rfl (.bl b) (A5u (.inr (.inl rfl))) false rfl (A7j ?_);refine i14 _ rfl _ _ _ _ rfl (.bl b) (A5x (.inr (.inl rfl))) false rfl (A7j ?_);exact i14 _ rfl _ _ _ _ rfl (.bl b) (A7d (.inr (.inl rfl))) false rfl (A7j (i02 _ rfl (k _ _ (A0s.refl _) (.bl b))))
  | int b =>
   refine i14 _ rfl _ _ _ _ rfl (.int b) (A5u (.inr (.inr (.inl rfl)))) false rfl (A7j ?_);refine i14 _ rfl _ _ _ _ rfl (.int b) (A5x (.inr (.inr (.inl rfl)))) false rfl (A7j ?_);exact i14 _ rfl _ _ _ _ rfl (.int b) (A7d (.inr (.inr (.inl rfl)))) false rfl (A7j (i02 _ rfl (k _ _ (A0s.refl _) (.int b))))
  | str b =>
   refine i14 _ rfl _ _ _ _ rfl (.str b) (A5u (.inr (.inr (.inr (.inl rfl))))) false rfl (A7j ?_);refine i14 _ rfl _ _ _ _ rfl (.str b) (A5x (.inr (.inr (.inr rfl)))) false rfl (A7j ?_);exact i14 _ rfl _ _ _ _ rfl (.str b) (A7d (.inr (.inr (.inr rfl)))) false rfl (A7j (i02 _ rfl (k _ _ (A0s.refl _) (.str b))))
  | @lst p xs ds e r =>
   have hl1:=r.len;have hl2:=B9u ds;have hc':A4h ds+1<=100000:=hc;have hd':PyData.depthAll ds+1<=n:=hd;refine i14 _ rfl _ _ _ _ rfl (.lst e) (A6t "list") true rfl (C9b ?_);refine .inl (i0l _ rfl p rfl ⟨_,SqL.of e⟩ λD hD=> ?_)
   refine A4a (K:=K) (a:=p) (D:=D) (xs:=xs) (λi ys H2=>A0s H H2/\H2 D=some (.lst ys)/\A3l (A1w (λa=>H a=none/\a≠D) H2) ys (ds.take i)/\ys.length=i)
    (i04 (A0f hD) A0b (by rw [List.take_zero];exact .nil) rfl) (λi ys H2 ⟨s2,_⟩=>SqL.of (s2 _ _ e)) ?_ ?_
   ·rintro i x ys H2 hx ⟨s2,hD2,rs,hyl⟩;obtain ⟨d,hdi,rx⟩:=r.get2 hx;obtain ⟨c1,c2⟩:=C8n hdi;have hi:i<xs.length:=(Z03.mp hx).1;refine i05 True.intro _ rfl (hs x d H2 _ (rx.same s2) (by lia) (by lia) λv' H5 s5 rp5=> ?_);have hnS:¬(H D=none/\D≠D):=λz=>z.2 rfl;refine i0i (s5 _ _ hD2) (A1d (by lia)) (A0q (s2.trans s5) hD) A0b ?_ (by simp [hyl]);rw [Z14,hdi];show A3l _ (ys++[v']) (ds.take i++[d]);refine (rs.same (A5n (A1l s5) hnS)).snoc (rp5.same ((A3e (A0s.refl _) λa o _ ha=>⟨s2.free ha,λz=> ?_⟩).trans (A5n (A0s.refl _) hnS)));subst z;rw [hD2] at ha;cases ha
   ·rintro ys H2 ⟨s2,hD2,rs,hyl⟩;refine k (.ref D) H2 s2 (.lst (A1a hD hD2) ?_);rw [hl1,Z18] at rs;exact rs.same (A3e (A0s.refl _) λa o _ h=>h.1)
  | @tup p xs ds e r =>
   have hl1:=r.len;have hl2:=B9u ds;have hc':A4h ds+1<=100000:=hc;have hd':PyData.depthAll ds+1<=n:=hd;refine i14 _ rfl _ _ _ _ rfl (.tup e) (A5u (.inr (.inr (.inr (.inr rfl))))) false rfl (A7j ?_);refine i14 _ rfl _ _ _ _ rfl (.tup e) (A6t "tuple") true rfl (C9b ?_);refine .inr (i0l _ rfl p rfl ⟨_,SqT.of e⟩ λD hD=> ?_)
   refine C5o (K:=K) (a:=p) (D:=D) (xs:=xs) (λi ys H2=>A0s H H2/\H2 D=some (.lst ys)/\A3l (A1w (λa=>H a=none/\a≠D) H2) ys (ds.take i)/\ys.length=i)
    (i04 (A0f hD) A0b (by rw [List.take_zero];exact .nil) rfl) (λi ys H2 ⟨s2,_⟩=>SqT.of (s2 _ _ e)) ?_ ?_
   ·rintro i x ys H2 hx ⟨s2,hD2,rs,hyl⟩;obtain ⟨d,hdi,rx⟩:=r.get2 hx;obtain ⟨c1,c2⟩:=C8n hdi;have hi:i<xs.length:=(Z03.mp hx).1;refine i05 True.intro _ rfl (hs x d H2 _ (rx.same s2) (by lia) (by lia) λv' H5 s5 rp5=> ?_);have hnS:¬(H D=none/\D≠D):=λz=>z.2 rfl;refine i0i (s5 _ _ hD2) (A1d (by lia)) (A0q (s2.trans s5) hD) A0b ?_ (by simp [hyl]);rw [Z14,hdi];show A3l _ (ys++[v']) (ds.take i++[d]);refine (rs.same (A5n (A1l s5) hnS)).snoc (rp5.same ((A3e (A0s.refl _) λa o _ ha=>⟨s2.free ha,λz=> ?_⟩).trans (A5n (A0s.refl _) hnS)));subst z;rw [hD2] at ha;cases ha
   ·rintro ys H2 ⟨s2,hD2,rs,hyl⟩;refine i07 D ys rfl (.inl ⟨SqL.of hD2,λl hl=> ?_⟩);refine k (.ref l) _ (s2.trans (A0f hl)) (.tup (A1a (s2.free hl) A0b) ?_);rw [hl1,Z18] at rs;exact rs.same ((A3e (A0s.refl _) λa o _ h=>h.1).trans (A1l (A0f hl)))
theorem A9h (T:Txt K mg t):∀n:Nat,A4c P w K mg base CX0 (n+1) t.bv t.br B8w (C5i n)
 | 0=>C1i T (sp':=λ_ _ _ _=>False) (m:=0) (A4c.none λ_ _ _ _ h=>h) λv d H Q _ h=>absurd h (by lia)
 | n+1=>C1i T (A9h T n) λv d H Q rp hd hc k=>(i0p v d rfl rp (by lia) hc k)
theorem D3t (T:Txt K mg t) {C:Addr} (cl:Cls K C) (tc:TyC K C) (m1:mroIn K C (.type "list")=some false) (m2:mroIn K C (.type "tuple")=some false) (m3:mroIn K C (.type "dict")=some false):A4c P w K mg base CX0 1 t.bv t.br B8w (D7a C):=by
 refine T.al.F.ok A9g (by walk_at "ln") λ_ A _ s H _ Q E hr h=> ?_
 ·obtain ⟨a,dx,fs,rfl,e,k⟩:=h;have Ga0:A4c P w K mg base CX0 0 t.bv t.br B8w (λ_ _ _ _=>False):=A4c.none λ_ _ _ _ h=>h;have ty:C1g K H (.ref a) (.ref C):= .ins e cl tc.ha tc.hn tc.htk tc.hm;have Ga1:A4c P w K mg base CX0 0 t.bq t.bo B8w (λ_ _ _ _=>False):=A4c.none λ_ _ _ _ h=>h
  refine ⟨_,(A0c (A1o (A3w (A0y A1m (by rfl) T.af Z0d (A0a (pv 0) (A0a (A3u (v:=V.ty "list") rfl T.cv Z1o rfl) A0d))))
    (A0e (A0o (A3h (N':=["member"]) (ix:=(List.replicate 1 none)) rfl (A3f rfl (by decide +kernel) (by decide +kernel)) (A3c rfl) (B0l (pv 0)) (λ_ _ _ _=>(A0m (i:=0) A4w)) (λ_ _ _ _=>(pcl Ga0 hr T.al (A0a (pv 0) A0d))))))
    A0r)
   (A0c (A1o (A3w (A0y A1m (by rfl) T.af Z0d (A0a (pv 0) (A0a (A3u (v:=V.ty "tuple") rfl T.c8 Z0m rfl) A0d))))
    (A0e (A0o (A2a A4f (by rfl) T.c8 Z0m (A0a (A3h (N':=["member"]) (ix:=(List.replicate 1 none)) rfl (A3f rfl (by decide +kernel) (by decide +kernel)) (A3c rfl) (B0l (pv 0)) (λ_ _ _ _=>(A0m (i:=0) A4w)) (λ_ _ _ _=>(pcl Ga0 hr T.al (A0a (pv 0) A0d)))) A0d))))
    A0r)
   (A0c (A1o (A3w (A0y A1m (by rfl) T.af Z0d (A0a (pv 0) (A0a (A3u (v:=V.ty "dict") rfl T.e_ Z2q rfl) A0d))))
    (A0e (A0o (pcl Ga1 hr T.ay (A0a (pv 0) A0d))))
    A0r)
   (A0e (A0o (pv 0)))))),?_⟩
  refine i14 _ rfl _ _ _ _ rfl ty (C7j m1 (by decide +kernel)) false rfl (A7j ?_);refine i14 _ rfl _ _ _ _ rfl ty (C7j m2 (by decide +kernel)) false rfl (A7j ?_);exact i14 _ rfl _ _ _ _ rfl ty (C7j m3 (by decide +kernel)) false rfl (A7j (i02 _ rfl k))
theorem D3h (T:Txt K mg t) {C:Addr} (cl:Cls K C) (tc:TyC K C) (m1:mroIn K C (.type "list")=some false) (m2:mroIn K C (.type "tuple")=some false) (m3:mroIn K C (.type "dict")=some false):A4c P w K mg base CX0 2 t.bv t.br B8w (D1x C):=by
 have Ga0:= @D3t P w K mg base t T _ cl tc m1 m2 m3;refine T.al.F.ok A9g (by walk_at "ln") λ_ A _ s H _ Q E hr h=> ?_
 ·refine e06 h ?_;clear h;rintro p xs rfl e hl ⟨hx,k⟩;have Ga1:A4c P w K mg base CX0 0 t.bq t.bo B8w (λ_ _ _ _=>False):=A4c.none λ_ _ _ _ h=>h
  refine ⟨_,(A0c (A1o (A3w (A0y A1m (by rfl) T.af Z0d (A0a (pv 0) (A0a (A3u (v:=V.ty "list") rfl T.cv Z1o rfl) A0d))))
    (A0e (A0o (A3h (N':=["member"]) (ix:=(List.replicate 1 none)) rfl (A3f rfl (by decide +kernel) (by decide +kernel)) (A3c rfl) (B0l (pv 0)) (λ_ _ _ _=>(A0m (i:=0) A4w)) (λ_ _ _ _=>(pcl Ga0 hr T.al (A0a (pv 0) A0d))))))
    A0r)
   (A0c (A1o (A3w (A0y A1m (by rfl) T.af Z0d (A0a (pv 0) (A0a (A3u (v:=V.ty "tuple") rfl T.c8 Z0m rfl) A0d))))
    (A0e (A0o (A2a A4f (by rfl) T.c8 Z0m (A0a (A3h (N':=["member"]) (ix:=(List.replicate 1 none)) rfl (A3f rfl (by decide +kernel) (by decide +kernel)) (A3c rfl) (B0l (pv 0)) (λ_ _ _ _=>(A0m (i:=0) A4w)) (λ_ _ _ _=>(pcl Ga0 hr T.al (A0a (pv 0) A0d)))) A0d))))
    A0r)
   (A0c (A1o (A3w (A0y A1m (by rfl) T.af Z0d (A0a (pv 0) (A0a (A3u (v:=V.ty "dict") rfl T.e_ Z2q rfl) A0d))))
    (A0e (A0o (pcl Ga1 hr T.ay (A0a (pv 0) A0d))))
    A0r)
   (A0e (A0o (pv 0)))))),?_⟩
  refine i14 _ rfl _ _ _ _ rfl (.lst e) (A6t "list") true rfl (C9b ?_);refine .inl (i0l _ rfl p rfl ⟨_,SqL.of e⟩ λD hD=> ?_)
  refine A4a (K:=K) (a:=p) (D:=D) (xs:=xs) (λi ys H2=>A0s H H2/\H2 D=some (.lst ys)/\ys=xs.take i)
   (i00 (A0f hD) A0b rfl) (λi ys H2 ⟨s2,_⟩=>SqL.of (s2 _ _ e)) ?_ ?_
  ·rintro i x ys H2 hxi ⟨s2,hD2,rfl⟩;obtain ⟨a,dx,fs,rfl,ea⟩:=hx x (Z13 hxi);have hlt:(xs.take i).length<=xs.length:=by rw [Z0x];lia
   refine i05 True.intro _ rfl (i0w a dx fs rfl (s2 _ _ ea) hD2 (A1d (by lia)) (A0q s2 hD) ⟨A0b,?_⟩);rw [Z14,hxi];rfl
  ·rintro ys H2 ⟨s2,hD2,rfl⟩;rw [Z18] at hD2;exact k D H2 hD s2 hD2
theorem B3m (T:Txt K mg t):FO P w base T.ay 3 D4f:=by
 have Ga0:= @A9h P w K mg base t T 1;refine T.ay.F.ok A4s (by walk_at "ln") λ_ A _ s H _ Q E hr h=> ?_
 ·refine e08 h ?_;clear h;rintro d kvs ds rfl hd hl ⟨src,k⟩;have hu:=A4z hr
  refine ⟨_,(D0y (A0c (A0l (i:=1) A4s.nd A2y)
   (A0c (A2g (B4s (B3z PySem.F.plainAttrs_dict PySem.F.slot_dict_items PySem.F.type_dict_items B6k (pv 0))) (A4y (n:=2) rfl (A1b (A0m (i:=2) A4s.nd) (A1b (A0m (i:=3) A4s.nd) A3m)))
    (A0e (A3a hu (pv 1) (pv 2) (pcl Ga0 hr T.al (A0a (pv 3) A0d)) rfl)))
   (B2b (A0e (A0o (pv 1))))))),?_⟩
  intro ap;have nd:=ap.1 d kvs hd;refine λp hp=> ?_;have dp:d≠p:=A0h hd hp;have hd1:upd H p (.dK []) d=some (.dK kvs):=by rw [A0i dp];exact hd
  refine i06 _ rfl (.inr (.inr (.inl ⟨rfl,.inl ⟨_,hd1⟩⟩))) (i0p d _ rfl rfl hd1 (.inl ⟨_,rfl⟩) λvw hvw=> ?_);have vp:p≠vw:=A0h A0b hvw;have dv:d≠vw:=A0h hd1 hvw;refine i0q vw d _ rfl A0b (by rw [A0i dv];exact hd1) (.inl (i02 kvs rfl λo=> ?_));have hv0:H vw=none:=by rw [A0i vp.symm] at hvw;exact hvw
  have g0:A0s (upd H d (.frz o (.dK kvs))) (upd (upd (upd H p (.dK [])) vw (B8m vw d)) d (.frz o (.dK kvs))):=λb v e=>by
   by_cases hb:b=d
   ·subst hb;rw [A0b] at e⊢;exact e
   ·rw [A0i hb] at e⊢;rw [A0i (A0h e hv0),A0i (A0h e hp)];exact e
  have hpG:upd H d (.frz o (.dK kvs)) p=none:=by rw [A0i dp.symm];exact hp
  have nd0:∀b,upd H d (.frz o (.dK kvs)) b=none->H b=none:=λb e=>by
   by_cases hb:b=d
   ·subst hb;rw [A0b] at e;cases e
   ·rw [A0i hb] at e;exact e
  refine B1s (L:=kvs.map λq=>(kV q.1,q.2)) (λi Z H4=>∃(o2 o3:Option V) (ws:List (Key×V)),Z=[Sro d,Sro p,o2,o3]/\A0s (upd H d (.frz o (.dK kvs))) H4/\H4 p=some (.dK ws)/\ws.map (·.1)=(kvs.take i).map (·.1)/\Paired (λ(b:Key×V) (x:PyData)=>Rep (A1w (λa=>H a=none/\a≠p) H4) b.2 x) ws (ds.take i))
   (i0s none none [] rfl g0 (by rw [A0i dp.symm,A0i vp,A0b]) rfl .nil) (λi Z H4 zq=>by obtain ⟨_,_,_,_,s4,_⟩:=zq;exact s4 _ _ A0b) ?_ ?_
  ·rintro i kx vx q Z H4 hx hq zz;refine e08 zz ?_;clear zz;rintro o2 o3 ws rfl s4 h4 ⟨ks,cp⟩;rw [Z1z] at hx;obtain ⟨⟨k',v⟩,hk,e⟩:=Z0i.mp hx;cases e;obtain ⟨x,hxd,rv,dv1,cv1⟩:=B1e src hk;have sq:A0s H4 (upd H4 q (.tup [kV k',v])):=A0f hq;have rv4:Rep (upd H4 q (.tup [kV k',v])) v x:=(rv.imp2 (λb ys z=>s4 _ _ (by rw [A0i (A1p z hd (by intro w;cases w))];exact z)) λb ys z=>s4 _ _ (by rw [A0i (A1p z hd (by intro w;cases w))];exact z)).same sq;refine i18 q _ rfl (SqT.of A0b) rfl _ _ rfl _ _ rfl rfl (i02 _ rfl (i0p v x rfl rv4 dv1 cv1 λv' H6 s6 r6=> ?_));have h6:=s6 _ _ (sq _ _ h4);have lw:ws.length=(kvs.take i).length:=by have:=congrArg List.length ks;simpa using this
   have lt2:(kvs.take i).length<=kvs.length:=by rw [Z0x];lia
   refine i0v _ rfl _ rfl p _ rfl (B0z.k (k:=k') h6 (A1d (by lia))) ?_;have hnS:¬(H p=none/\p≠p):=λz=>z.2 rfl;refine i0s _ _ _ rfl (A0q (s4.trans (sq.trans s6)) hpG) A0b ?_ ?_
   ·rw [B6j nd hk ws ks v',Z14,hk,Z0s,Z0s,ks];rfl
   ·rw [B6j nd hk ws ks v',Z14,hxd];refine B3s (Paired.mapP cp λ_ _ z=>z.same (A5n (A1l (sq.trans s6)) hnS)) (.cons (r6.same ((A3e (A0s.refl _) λa ob ea ha=>⟨?_,λz=> ?_⟩).trans (A5n (A0s.refl _) hnS))) .nil)
    ·exact nd0 a (s4.free (sq.free ha))
    ·subst z;rw [sq _ _ h4] at ha;cases ha
  ·rintro Z H4 zz;refine e08 zz ?_;clear zz;rintro o2 o3 ws rfl s4 h4 ⟨ks,cp⟩;have ld:=Paired.length src;rw [Z08,Z18] at ks;rw [Z08,ld,Z18] at cp;have hd4:H4 d=some (.frz o (.dK kvs)):=s4 _ _ A0b;refine i0g d o _ hd4 (i09 (.inl ⟨_,rfl⟩) (λo' u' z=>by have z:H d=some (.frz o' u'):=z;rw [hd] at z;cases z) _ rfl ?_);have hnd:¬(H d=none/\d≠p):=λz=>by rw [hd] at z;cases z.1
   exact k p ws _ hp (A6j hd s4) (by rw [A0i dp.symm];exact h4) ks (Paired.mapP cp λ_ _ z=>z.same ((A5n (A0s.refl _) hnd).trans (A3e (A0s.refl _) λa ob _ h=>h.1)))
theorem D3j (T:Txt K mg t):FO P w base T.al 4 D4f:=by
 have Ga1:= @B3m P w K mg base t T;have Ga0:A4c P w K mg base CX0 0 t.bv t.br B8w (λ_ _ _ _=>False):=A4c.none λ_ _ _ _ h=>h;refine T.al.F.ok A9g (by walk_at "ln") λ_ A _ s H _ Q E hr h=> ?_
 ·have h0:=h;obtain ⟨d,kvs,ds,rfl,hd,_⟩:=h
  refine ⟨_,(A0c (A1o (A3w (A0y A1m (by rfl) T.af Z0d (A0a (pv 0) (A0a (A3u (v:=V.ty "list") rfl T.cv Z1o rfl) A0d))))
    (A0e (A0o (A3h (N':=["member"]) (ix:=(List.replicate 1 none)) rfl (A3f rfl (by decide +kernel) (by decide +kernel)) (A3c rfl) (B0l (pv 0)) (λ_ _ _ _=>(A0m (i:=0) A4w)) (λ_ _ _ _=>(pcl Ga0 hr T.al (A0a (pv 0) A0d))))))
    A0r)
   (A0c (A1o (A3w (A0y A1m (by rfl) T.af Z0d (A0a (pv 0) (A0a (A3u (v:=V.ty "tuple") rfl T.c8 Z0m rfl) A0d))))
    (A0e (A0o (A2a A4f (by rfl) T.c8 Z0m (A0a (A3h (N':=["member"]) (ix:=(List.replicate 1 none)) rfl (A3f rfl (by decide +kernel) (by decide +kernel)) (A3c rfl) (B0l (pv 0)) (λ_ _ _ _=>(A0m (i:=0) A4w)) (λ_ _ _ _=>(pcl Ga0 hr T.al (A0a (pv 0) A0d)))) A0d))))
    A0r)
   (A0c (A1o (A3w (A0y A1m (by rfl) T.af Z0d (A0a (pv 0) (A0a (A3u (v:=V.ty "dict") rfl T.e_ Z2q rfl) A0d))))
    (A0e (A0o (pcl Ga1 hr T.ay (A0a (pv 0) A0d))))
    A0r)
   (A0e (A0o (pv 0)))))),?_⟩
  refine i14 _ rfl _ _ _ _ rfl (.dK hd) (B4j (by decide +kernel) (by decide +kernel) (by decide +kernel)) false rfl (A7j ?_);refine i14 _ rfl _ _ _ _ rfl (.dK hd) (B4j (by decide +kernel) (by decide +kernel) (by decide +kernel)) false rfl (A7j ?_);exact i14 _ rfl _ _ _ _ rfl (.dK hd) (A6t "dict") true rfl (C9b (i02 _ rfl h0))
def D9i (A:Adr):Sp:=λvs H Q E=>(C5i 3 vs H Q E\/D1x A.be vs H Q E)\/D4f vs H Q E
theorem C6n (T:Txt K mg t):FO P w base T.al 4 (D9i t) :=
 A4c.or (A4c.or (A9h T 3) ((D3h T T.gc T.qu T.oE T.og T.oG).mono (by lia))) (D3j T)
def KT (H H':Hp):Prop:=∀p xs,H p=some (.tup xs)->H' p=some (.tup xs)
def KB (p:Addr) (H H':Hp):Prop:=∀b o,b≠p->H b=some o->H' b=some o
theorem KB.upd (k:KB p H H'):KB p H (upd H' p o):=λb u hb e=>by rw [A0i hb];exact k b u hb e
theorem KB.refl:KB p H H:=λ_ _ _ e=>e
theorem KB.trans (a:KB p H H') (b:KB p H' H2):KB p H H2:=λc o hc e=>b c o hc (a c o hc e)
theorem KB.of (s:A0s H H'):KB p H H':=λb o _ e=>s _ _ e
theorem KB.free {u:HO} (k:KB p H H') (hp:H' p=some u) (hb:H' b=none):H b=none:=by
 cases e:H b with
 | none=>rfl
 | some o =>
  have hne:b≠p:=λz=>by subst z;rw [hp] at hb;cases hb
  rw [k b o hne e] at hb;cases hb
theorem KB.same (s:A0s H H2) (k:KB p H2 H') (hp:H p=none):A0s H H':=λb o e=>k b o (A0h e hp) (s _ _ e)
abbrev AR (S:Addr->Prop) (H:Hp) (kvs:List (Key×V)) (es:List (Str×List Str)):Prop:=Paired (λ(p:Key×V) (e:Str×List Str)=>p.1=Sum.inr e.1/\∃b,p.2= .ref b/\S b/\H b=some (.lst (e.2.map V.str))) kvs es
theorem AR.imp (h:AR S H kvs es) (f:∀b xs,S b->H b=some (.lst xs)->S' b/\H' b=some (.lst xs)):AR S' H' kvs es :=
 Paired.mapP h λ_ _ ⟨z1,b,z2,z3,z4⟩=>(i0a z1 b z2 ((f b _ z3 z4).1) ((f b _ z3 z4).2))
theorem AR.same (h:AR S H kvs es) (s:A0s H H'):AR S H' kvs es:=h.imp λb xs z e=>⟨z,s _ _ e⟩
abbrev C9t (kvs:List (Key×V)) (is:List Int):Prop:=Paired (λ(p:Key×V) (i:Int)=>p.2= .int i) kvs is
theorem C2g {H:Hp}:∀{kvs:List (Key×V)} {is:List Int},C9t kvs is->Paired (λ(a:Key×V) (x:PyData)=>Rep H a.2 x/\PyData.depth x<=1/\cnt x<=100000) kvs (is.map PyData.int)
 | _,_,.nil=> .nil
 | _,_,.cons a t=> .cons (i00 (by rw [a];exact .int _) (by simp [PyData.depth]) (by simp [cnt])) (C2g t)
theorem C6v {S:Addr->Prop} {H:Hp}:∀{kvs kvs':List (Key×V)} {is:List Int},C9t kvs is->kvs'.map (·.1)=kvs.map (·.1)->Paired (λ(b:Key×V) (x:PyData)=>Rep (A1w S H) b.2 x) kvs' (is.map PyData.int)->kvs'=kvs
 | _,[],_,.nil,_,_=>rfl
 | _,_::_,_,.nil,ks,_=>by cases ks
 | _,[],_,.cons _ _,ks,_=>by cases ks
 | _,q::r,_,@Paired.cons _ _ _ p i _ _ a t,ks,pr=>by
  rw [Z0p,Z0p] at ks;injection ks with k1 k2;rw [Z0p] at pr
  cases pr with
  | cons b pr =>
   rw [C6v t k2 pr];have hb:=C8g b;have:q=p:=Prod.ext k1 (hb.trans a.symm);rw [this]
def D1e (A:Adr):Sp:=λvs H Q _=>∃(p dx l:Addr) (n:V) (x:Str) (ys:List Str),vs=[.ref p,.str x,.ref l,n]/\H p=some (.ins A.be dx [])/\H l=some (.lst (ys.map V.str))/\ys.length<=1000/\
 ∀(c:Addr) (H':Hp),H c=none->H' p=some (.ins A.be dx [("name",.str x),("axes",.ref c),("term",n)])->H' c=some (.lst (ys.map V.str))->(∀b o,b≠p->H b=some o->H' b=some o)->Q .non H'
def C9x (A:Adr):Sp:=λvs H Q _=>∃(p dx a t l o:Addr) (wh:Int) (ax:List (Str×Int)) (tb:List (Str×List Str)) (xs:List V) (os:List Str),vs=[.ref p,.int wh,.ref a,.ref t,.ref l,.ref o]/\H p=some (.ins A.ae dx [])/\
 Rep H (.ref a) (A5e ax)/\ax.length<=1000/\Rep H (.ref t) (B3w tb)/\tb.length<=1000/\(∀e∈tb,e.2.length<=10)/\H l=some (.lst xs)/\xs.length<=1000/\(∀x∈xs,∃a dx fs,x= .ref a/\a≠p/\H a=some (.ins A.be dx fs))/\H o=some (.lst (os.map V.str))/\os.length<=1000/\
 ∀(a' t' l' o':Addr) (H':Hp),H' p=some (.ins A.ae dx [("wheel",.int wh),("axes",.ref a'),("tables",.ref t'),("lets",.ref l'),("outs",.ref o')])->Rep H' (.ref a') (A5e ax)->Rep H' (.ref t') (B3w tb)->H' l'=some (.lst xs)->H' o'=some (.lst (os.map V.str))->KB p H H'->Q .non H'
structure D1k (A:Adr) (H:Hp) (p:Addr) (wh:Int) (ax:List (Str×Int)) (tb:List (Str×List Str)) (ls:List V) (os:List Str):Prop where
 ob:∃dx a t l o,H p=some (.ins A.ae dx [("wheel",.int wh),("axes",.ref a),("tables",.ref t),("lets",.ref l),("outs",.ref o)])/\Rep H (.ref a) (A5e ax)/\Rep H (.ref t) (B3w tb)/\H l=some (.lst ls)/\H o=some (.lst (os.map V.str))
theorem D1k.same {ls:List V} {os:List Str} (h:D1k A H p wh ax tb ls os) (s:A0s H H'):D1k A H' p wh ax tb ls os:=by
 refine e0d h.ob λdx a t l o e r1 r2 r3 r4=>?_;exact ⟨dx,a,t,l,o,s _ _ e,r1.same s,r2.same s,s _ _ r3,s _ _ r4⟩
def D8k (A:Adr):Sp:=λvs H Q _=>∃(p:Addr) (wh:Int) (ax:List (Str×Int)) (tb:List (Str×List Str)) (ls:List V) (os:List Str),vs=[.ref p]/\D1k A H p wh ax tb ls os/\tb.length<=100/\∀(q:Addr) (H':Hp),H q=none->A0s H H'->H' q=some (.lst ((tb.map (·.1)).map V.str))->Q (.ref q) H'
def A1e (ax:List (Str×Int)):List (Key×V):=ax.map λe=>(Sum.inr e.1,V.int e.2)
theorem D7z {H:Hp}:∀{ax:List (Str×Int)} {xs:List V},A3l H xs (ax.map B3l)->PL H xs (A1e ax)
 | [],_,r=>by cases r;exact .nil
 | e::ax,_,r=>by
  rw [Z0p] at r
  cases r with
  | cons a r =>
   obtain ⟨b,rfl,eb⟩:=E0a a;exact .cons (i02 b rfl eb) (D7z r)
theorem B9g (n:(ws.map (·.1)).Nodup):A3d [] ws=ws:=by
 have key:∀i,i<=ws.length->A3d [] (ws.take i)=ws.take i:=by
  intro i
  induction i with
  | zero=>intro _;rfl
  | succ i ih =>
   intro hi;have e:ws[i]? =some ws[i]:=Z0b (by lia);rw [Z14,e,Z2f,B9s,ih (by lia)];exact B6j (k:=ws[i].1) (v:=ws[i].2) n e (ws.take i) rfl ws[i].2
 have:=key ws.length (Z09 _)
 rwa [Z18] at this
def D9b (A:Adr):Sp:=λvs H Q _=>∃(p:Addr) (wh:Int) (ax:List (Str×Int)) (tb:List (Str×List Str)) (ls:List V) (os:List Str),vs=[.ref p]/\D1k A H p wh ax tb ls os/\(ax.map (·.1)).Nodup/\∀q,H q=none->Q (.ref q) (upd H q (.dK (A1e ax)))
theorem C0q (T:Txt K mg t):FP P w mg base T.ik 5 (D1e t):=by
 have Ga0:= @C6n P w K mg base t T;refine T.ik.F.ok C0s (λvs H Q E h=> ?_) λ_ A _ s H _ Q E hr h=> ?_
 ·refine e07 h ?_;clear h;rintro p dx l n x ⟨ys,rfl,_⟩;rfl
 ·refine e07 h ?_;clear h;rintro p dx l n x ⟨ys,rfl,hp,hl,hy,k⟩;obtain ⟨c2,c3⟩:=C5x ys;have lp:l≠p:=A1p hl hp (by intro z;cases z)
  refine ⟨_,(A0c (A3i (pv 0) (pv 1) rfl)
   (A0c (A3i (pv 0) (pcl Ga0 hr T.al (A0a (pv 2) A0d)) rfl)
   (A0e (A3i (pv 0) (pv 3) rfl)))),_,rfl,_,rfl,p,_,dx,[],rfl,hp,T.gc,T.jr,(by decide),?_⟩
  refine i02 _ rfl (.inl (.inl (i0p (.ref l) (D2t ys) rfl ((D7l hl).ins hp) (by lia) (by lia) λv' H2 s2 rp2=> ?_)));have hp2:=s2 _ _ (A0b (H:=H) (a:=p));obtain ⟨c,rfl,ec⟩:=D3w rp2;obtain ⟨hc0,ec⟩:=A0z ec
  have hcn:H c=none:=by
   by_cases z:c=p
   ·subst z;rw [A0b] at hc0;cases hc0
   ·rw [A0i z] at hc0;exact hc0
  have cp:c≠p:=λz=>by subst z;rw [hp] at hcn;cases hcn
  refine i11 _ rfl p _ dx _ rfl hp2 T.gc T.f_ ⟨(by show 1<1000;decide),?_⟩;refine i1a _ rfl _ rfl p _ dx _ rfl A0b T.gc T.jt (by show 2<1000;decide) ?_;show Q V.non (upd (upd H2 p _) p (.ins t.be dx (A6b "term" n (A6b "axes" (.ref c) (A6b "name" (.str x) [])))));have e1:A6b "axes" (V.ref c) (A6b "name" (.str x) [])=([("name",.str x),("axes",.ref c)]:List (Str×V)):=by rw [A1v,A1r (by decide +kernel),A1v]
  have e2:A6b "term" n ([("name",.str x),("axes",.ref c)]:List (Str×V))=([("name",.str x),("axes",.ref c),("term",n)]:List (Str×V)):=by rw [A1r (by decide +kernel),A1r (by decide +kernel),A1v]
  rw [A8o,e1,e2];refine k c _ hcn A0b (by rw [A0i cp];exact ec) λb o hb e=> ?_;rw [A0i hb];exact s2 _ _ (by rw [A0i hb];exact e)
theorem B1n (T:Txt K mg t):FP P w mg base T.cy 5 (C9x t):=by
 have Ga0:= @C6n P w K mg base t T;refine T.cy.F.ok B1x (λvs H Q E h=> ?_) λ_ A _ s H _ Q E hr h=> ?_
 ·refine e0e h ?_;clear h;rintro p dx a tt l o wh ax tb ⟨xs,os,rfl,_⟩;rfl
 ·refine e0e h ?_;clear h;rintro p dx a tt l o wh ax tb ⟨xs,os,rfl,hp,ra,la,rt,lt,lt2,hl,ll,hx,ho,lo,k⟩;have a2:=D0r ax;have a3:=D2c (ix:=ax);obtain ⟨t2,t3⟩:=C9v tb lt2;obtain ⟨o2,o3⟩:=C5x os;have f1:∀v:V,A6b "axes" v [("wheel",.int wh)]=([("wheel",.int wh),("axes",v)]:List (Str×V)):=λv=>by rw [A1r (by decide +kernel),A1v]
  have f2:∀u v:V,A6b "tables" v [("wheel",.int wh),("axes",u)]=([("wheel",.int wh),("axes",u),("tables",v)]:List (Str×V)):=λu v=>by rw [A1r (by decide +kernel),A1r (by decide +kernel),A1v]
  have f3:∀u1 u v:V,A6b "lets" v [("wheel",.int wh),("axes",u1),("tables",u)]=([("wheel",.int wh),("axes",u1),("tables",u),("lets",v)]:List (Str×V)):=λu1 u v=>by rw [A1r (by decide +kernel),A1r (by decide +kernel),A1r (by decide +kernel),A1v]
  have f4:∀u1 u2 u v:V,A6b "outs" v [("wheel",.int wh),("axes",u1),("tables",u2),("lets",u)]=([("wheel",.int wh),("axes",u1),("tables",u2),("lets",u),("outs",v)]:List (Str×V)):=λu1 u2 u v=>by rw [A1r (by decide +kernel),A1r (by decide +kernel),A1r (by decide +kernel),A1r (by decide +kernel),A1v]
  have np:∀{b:Addr} {u:HO},H b=some u->(∀C d fs,u≠.ins C d fs)->b≠p:=λe n z=>by subst z;rw [hp] at e;cases e;exact n _ _ _ rfl
  have rp:∀{v:V} {d:PyData} {G:Hp},KB p H G->Rep H v d->Rep G v d:=λkb r=>r.imp2 (λq ys z=>kb _ _ (np z (by intros;intro z;cases z)) z) λq ys z=>kb _ _ (np z (by intros;intro z;cases z)) z;have rq:∀{v:V} {d:PyData} {G G':Hp} {C dd:Addr} {fs:List (Str×V)},KB p G G'->G p=some (.ins C dd fs)->Rep G v d->Rep G' v d:=λkb hG r=>r.imp2 (λq ys z=>kb _ _ (A1p z hG (by intro w;cases w)) z) λq ys z=>kb _ _ (A1p z hG (by intro w;cases w)) z
  refine ⟨_,(A0c (A3i (pv 0) (pv 1) rfl)
   (A0c (A3i (pv 0) (pcl Ga0 hr T.al (A0a (pv 2) A0d)) rfl)
   (A0c (A3i (pv 0) (pcl Ga0 hr T.al (A0a (pv 3) A0d)) rfl)
   (A0c (A3i (pv 0) (pcl Ga0 hr T.al (A0a (pv 4) A0d)) rfl)
   (A0e (A3i (pv 0) (pcl Ga0 hr T.al (A0a (pv 5) A0d)) rfl)))))),_,rfl,_,rfl,p,_,dx,[],rfl,hp,T.ao,T.eh,(by decide),?_⟩
  rw [A1v];obtain ⟨G0,hG0⟩:∃G0,G0=upd H p (.ins t.ae dx [("wheel",.int wh)]):=⟨_,rfl⟩;rw [<-hG0];have p0:G0 p=some (.ins t.ae dx [("wheel",.int wh)]):=by rw [hG0];exact A0b
  have k0:KB p H G0:=by rw [hG0];exact KB.refl.upd
  refine i02 _ rfl (.inl (.inl (i0p (.ref a) (A5e ax) rfl (rp k0 ra) (by lia) (by lia) λva H1 s1 r1=> ?_)));obtain ⟨a',xa,rfl,ea,_⟩:=A7b (show Rep _ va (.list (ax.map B3l)) from r1);refine i11 _ rfl p _ dx _ rfl (s1 _ _ p0) T.ao T.fu ⟨(by show 1<1000;decide),?_⟩;rw [f1];obtain ⟨G1,hG1⟩:∃G1,G1=upd H1 p (.ins t.ae dx [("wheel",.int wh),("axes",.ref a')]):=⟨_,rfl⟩;rw [<-hG1];have p1:G1 p=some (.ins t.ae dx [("wheel",.int wh),("axes",.ref a')]):=by rw [hG1];exact A0b
  have k1:KB p H G1:=by rw [hG1];exact (k0.trans (KB.of s1)).upd
  have ra1:Rep G1 (.ref a') (A5e ax):=by rw [hG1];exact rq (KB.refl.upd) (s1 _ _ p0) (r1.same A4v)
  refine i02 _ rfl (.inl (.inl (i0p (.ref tt) (B3w tb) rfl (rp k1 rt) (by lia) (by lia) λvt H2 s2 r2=> ?_)));obtain ⟨t',xt,rfl,et,_⟩:=A7b (show Rep _ vt (.list (tb.map C4s)) from r2);refine i11 _ rfl p _ dx _ rfl (s2 _ _ p1) T.ao T.a_ ⟨(by show 2<1000;decide),?_⟩;rw [f2];obtain ⟨G2,hG2⟩:∃G2,G2=upd H2 p (.ins t.ae dx [("wheel",.int wh),("axes",.ref a'),("tables",.ref t')]):=⟨_,rfl⟩;rw [<-hG2];have p2:G2 p=some (.ins t.ae dx [("wheel",.int wh),("axes",.ref a'),("tables",.ref t')]):=by rw [hG2];exact A0b
  have j2:KB p G1 G2:=by rw [hG2];exact (KB.of s2).upd
  have k2:=k1.trans j2;have rt2:Rep G2 (.ref t') (B3w tb):=by rw [hG2];exact rq (KB.refl.upd) (s2 _ _ p1) (r2.same A4v)
  refine i02 _ rfl (.inl (.inr (i0p l xs rfl (k2 _ _ (np hl (by intros;intro z;cases z)) hl) ll (λx hxx=> ?_) λl' H3 hl' s3 hl3=> ?_)))
  ·obtain ⟨b,db,fs,rfl,nb,eb⟩:=hx x hxx;exact i0g b db fs rfl (k2 _ _ nb eb)
  have lp:l'≠p:=λz=>by subst z;rw [p2] at hl';cases hl'
  refine i11 _ rfl p _ dx _ rfl (s3 _ _ p2) T.ao T.fo ⟨(by show 3<1000;decide),?_⟩;rw [f3];obtain ⟨G3,hG3⟩:∃G3,G3=upd H3 p (.ins t.ae dx [("wheel",.int wh),("axes",.ref a'),("tables",.ref t'),("lets",.ref l')]):=⟨_,rfl⟩;rw [<-hG3];have p3:G3 p=some (.ins t.ae dx [("wheel",.int wh),("axes",.ref a'),("tables",.ref t'),("lets",.ref l')]):=by rw [hG3];exact A0b
  have j3:KB p G2 G3:=by rw [hG3];exact (KB.of s3).upd
  have k3:=k2.trans j3;have gl3:G3 l'=some (.lst xs):=by rw [hG3,A0i lp];exact hl3
  refine i02 _ rfl (.inl (.inl (i0p (.ref o) (D2t os) rfl (D7l (k3 _ _ (np ho (by intros;intro z;cases z)) ho)) (by lia) (by lia) λvo H4 s4 r4=> ?_)));obtain ⟨o',rfl,eo⟩:=D3w r4;have eo:=(A0z eo).2;refine i11 _ rfl p _ dx _ rfl (s4 _ _ p3) T.ao T.kc ⟨(by show 4<1000;decide),?_⟩;show Q V.non (upd H4 p _);rw [f4];have j4:KB p G3 (upd H4 p (.ins t.ae dx [("wheel",.int wh),("axes",.ref a'),("tables",.ref t'),("lets",.ref l'),("outs",.ref o')])):=(KB.of s4).upd;exact k a' t' l' o' _ A0b (rq ((j2.trans j3).trans j4) p1 ra1) (rq (j3.trans j4) p2 rt2) (j4 _ _ lp gl3) (by rw [A0i (A1p eo (s4 _ _ p3) (by intro z;cases z))];exact eo) (k3.trans j4)
theorem B3e (T:Txt K mg t):FO P w base T.du 1 (D8k t):=by
 refine T.du.F.ok B3p (λvs H Q E h=> ?_) λ_ A _ s H _ Q E hr h=> ?_
 ·refine e07 h ?_;clear h;rintro p wh ax tb ls ⟨os,rfl,_⟩;rfl
 ·refine e07 h ?_;clear h;rintro p wh ax tb ls ⟨os,rfl,pr,lt,k⟩;refine e07 pr.ob ?_;rintro dx a tt l o ⟨e,ra,rt,_⟩;obtain ⟨t2,xs,et,hx,rs⟩:=A7b (show Rep H (.ref tt) (.list (tb.map C4s)) from rt);cases et;have lxs:=rs.len;rw [Z08] at lxs;refine i02 _ (A0e (A0o (A3h (N':=["name","axes"]) (ix:=(List.replicate 2 none)) (g:=E1g K 2 (C5v (B5w 0) (C5v (B5w 1) E0l))) rfl (A3f rfl (by decide +kernel) (by decide +kernel)) (A3c rfl) (A2m (A1t (pv 0) rfl)) (λ_ _ _ _=>(A4y (n:=2) rfl (A1b (A0m (i:=0) B8q) (A1b (A0m (i:=1) B8q) A3m)))) (λ_ _ _ _=>(pv 0))))) ?_;refine i17 _ rfl p _ dx _ _ rfl e T.ao T.a_ (by walk_at "lk") (i06 tt rfl ⟨_,SqL.of hx⟩ λD hD=> ?_);refine A4a (K:=K) (a:=tt) (D:=D) (xs:=xs) (λi zs H2=>A0s H H2/\H2 D=some (.lst zs)/\zs=((tb.take i).map (·.1)).map V.str) (i00 (A0f hD) A0b rfl) (λi zs H2 ⟨s2,_⟩=>SqL.of (s2 _ _ hx)) ?_ ?_
  ·rintro i x zs H2 hy ⟨s2,hD2,rfl⟩;have hi:i<xs.length:=(Z03.mp hy).1;obtain ⟨te,hte,ry⟩:=B9q rs hy;obtain ⟨b,c,rfl,eb,ec⟩:=D3b ry;refine i18 b _ rfl (SqT.of (s2 _ _ eb)) rfl _ _ rfl _ _ rfl rfl ?_;refine i01 True.intro _ (i0i rfl hD2 (A1d (by simp;lia)) (A0q s2 hD) A0b ?_);rw [Z14,hte,Z2f];simp
  ·rintro zs H2 ⟨s2,hD2,rfl⟩;rw [lxs,Z18] at hD2;exact k D H2 hD s2 hD2
theorem A9f (T:Txt K mg t):FO P w base T.c7 1 (D9b t):=by
 refine T.c7.F.ok B6c (λvs H Q E h=> ?_) λ_ A _ s H _ Q E hr h=> ?_
 ·refine e07 h ?_;clear h;rintro p wh ax tb ls ⟨os,rfl,_⟩;rfl
 ·refine e07 h ?_;clear h;rintro p wh ax tb ls ⟨os,rfl,pr,nd,k⟩;refine e07 pr.ob ?_;rintro dx a tt l o ⟨e,ra,_⟩;obtain ⟨a2,xs,ea,hx,rs⟩:=A7b (show Rep H (.ref a) (.list (ax.map B3l)) from ra);cases ea
  have nk:((A1e ax).map (·.1)).Nodup:=by
   have:(A1e ax).map (·.1)=(ax.map (·.1)).map (Sum.inr:Str->Key):=by unfold A1e;rw [List.map_map,List.map_map];rfl
   rw [this];exact List.Pairwise.map _ (λa b h z=>h (by injection z)) nd
  refine i02 _ (A0e (A0o (A2a (C3z rfl) (by rfl) T.e_ Z2q (A0a (A1t (pv 0) rfl) A0d)))) ?_;refine i17 _ rfl p _ dx _ _ rfl e T.ao T.fu (by walk_at "lk") (i0q a xs _ rfl hx (D7z rs) λq hq=> ?_);rw [B9g nk];exact k q hq
def A2s (H:Hp) (ps:List Addr) (cs:List (List Int)):Prop:=Paired (λ(p:Addr) (c:List Int)=>H p=some (.tup (c.map V.int))) ps cs
theorem A2s.imp {H H':Hp}:∀{ps:List Addr} {cs:List (List Int)},A2s H ps cs->(∀p xs,H p=some (.tup xs)->H' p=some (.tup xs))->A2s H' ps cs
 | _,_,.nil,_=> .nil
 | _,_,.cons r t,f=> .cons (f _ _ r) (A2s.imp t f)
theorem A2s.same {ps:List Addr} {cs:List (List Int)} (h:A2s H ps cs) (s:A0s H H'):A2s H' ps cs:=h.imp λ_ _ e=>s _ _ e
theorem A2s.lst {ys:List V} {ps:List Addr} {cs:List (List Int)} (h:A2s H ps cs) (e:H l=some (.lst xs)):A2s (upd H l (.lst ys)) ps cs :=
 h.imp λp zs z=>by rw [A0i (A1p z e (by intro q;cases q))];exact z
theorem A2s.snoc {H:Hp} {p:Addr} {c:List Int} (e:H p=some (.tup (c.map V.int))):∀{ps:List Addr} {cs:List (List Int)},A2s H ps cs->A2s H (ps++[p]) (cs++[c])
 | _,_,.nil=> .cons e .nil
 | _,_,.cons r t=> .cons r (A2s.snoc e t)
theorem A2s.len {H:Hp}:∀{ps:List Addr} {cs:List (List Int)},A2s H ps cs->ps.length=cs.length
 | _,_,.nil=>rfl
 | _,_,.cons _ t=>by simp [A2s.len t]
theorem A2s.get {H:Hp}:∀{ps:List Addr} {cs:List (List Int)} {i:Nat} {p:Addr},A2s H ps cs->ps[i]? =some p->∃c,cs[i]? =some c/\H p=some (.tup (c.map V.int))
 | _,_,_,_,.nil,e=>by simp at e
 | _,_,0,_,.cons r _,e=>by simp at e;subst e;exact i02 _ rfl r
 | _,_,i+1,p,.cons _ t,e=>by
  obtain ⟨c,h1,h2⟩:=A2s.get (i:=i) (p:=p) t (by simpa using e);exact i02 c (by simpa using h1) h2
structure A9y (H:Hp) (a:Addr) (cs:List (List Int)):Prop where
 ex:∃ps:List Addr,H a=some (.lst (ps.map V.ref))/\A2s H ps cs
def B6b:Sp:=λvs H Q _=>∃(a:Addr) (n:Int) (cs:List (List Int)),vs=[.ref a,.int n]/\A9y H a cs/\(∀c∈cs,c.length<=8)/\0<=n/\n<=60/\cs.length<=4000/\
 ∀(p:Addr) (H':Hp),H p=none->A0s H H'->A9y H' p (A9o cs n)->Q (.ref p) H'
def B9z:Sp:=λvs H Q _=>∃(a:Addr) (ls:List Int),vs=[.ref a]/\H a=some (.lst (ls.map V.int))/\A8q ls/\
 ∀(p:Addr) (H':Hp),H p=none->A0s H H'->A9y H' p (A0t ls)->Q (.ref p) H'
abbrev Sz (lk:List (Key×V)) (ys:List Str) (ls:List Int):Prop:=Paired (λ(y:Str) (n:Int)=>A2r lk (Sum.inr y)=some (.int n)) ys ls
def E0m:Sp:=λvs H Q _=>∃(l d:Addr) (ys:List Str) (lk:List (Key×V)) (ls:List Int),vs=[.ref l,.ref d]/\H l=some (.lst (ys.map V.str))/\H d=some (.dK lk)/\Sz lk ys ls/\ys.length<=1000/\∀(q:Addr) (H':Hp),H q=none->A0s H H'->H' q=some (.lst (ls.map V.int))->Q (.ref q) H'
def D9f:Sp:=λvs H Q _=>∃(l d:Addr) (ys:List Str) (lk:List (Key×V)) (ls:List Int),vs=[.ref l,.ref d]/\H l=some (.lst (ys.map V.str))/\H d=some (.dK lk)/\Sz lk ys ls/\A8q ls/\∀(q:Addr) (H':Hp),H q=none->A0s H H'->A9y H' q (A0t ls)->Q (.ref q) H'
theorem B5g (T:Txt K mg t):FO P w base T.fc 1 B6b:=by
 refine T.fc.F.ok A5g (by walk_at "ln") λ_ A _ s H _ Q E hr h=> ?_
 ·refine e08 h ?_;clear h;rintro a n cs rfl ⟨ps,ha,tp⟩ h8 ⟨n0,n60,few,k⟩
  refine ⟨_,(A0c (A0l (i:=2) A5g.nd (A4m A0d))
   (A0c (A2g (A2m (pv 0)) (A0m (i:=3) A5g.nd)
    (A0e (A2g (A3p rfl T.bh (A0a (pv 1) A0d)) (A0m (i:=4) A5g.nd)
     (A0e (A3t (B0u Z0k Z0n Z0o A3o (pv 2) (A0a (A0n C9u (pv 3) (A2j (A0a (pv 4) A0d))) A0d)))))))
   (A0e (A0o (pv 2))))),?_⟩
  refine ⟨A4d (by decide),λl hl=> ?_⟩;have la:a≠l:=A0h ha hl;have ha1:upd H l (.lst []) a=some (.lst (ps.map V.ref)):=by rw [A0i la];exact ha
  refine ⟨_,rfl,a,rfl,⟨_,SqL.of ha1⟩,A3k (K:=K) (a:=a) (xs:=ps.map V.ref) (λi Z H2=>∃(o3 o4:Option V) (qs:List Addr),Z=[Sro a,Sio n,Sro l,o3,o4]/\A0s H H2/\
   H2 l=some (.lst (qs.map V.ref))/\A2s H2 qs (A9o (cs.take i) n)) (i0q none none [] rfl (A0f hl) A0b .nil) (λi Z H2 _ zq=>by obtain ⟨_,_,_,_,s2,_⟩:=zq;exact SqL.of (s2 _ _ ha)) ?_ ?_⟩
  ·rintro i y Z H2 hi zz;refine e08 zz ?_;clear zz;rintro o3 o4 qs rfl s2 h2 t2;obtain ⟨pc,hpc,rfl⟩:=A2b hi;obtain ⟨c,hc,hpt⟩:=tp.get hpc;have hcm:c.length<=8:=h8 c (Z13 hc)
   refine ⟨_,rfl,n,rfl,by lia,by lia,A6n (n:=n.toNat) (λj Z H3=>∃(o4:Option V) (qs:List Addr),Z=[Sro a,Sio n,Sro l,Sro pc,o4]/\A0s H H3/\
    H3 l=some (.lst (qs.map V.ref))/\A2s H3 qs (A9o (cs.take i) n++(List.range j).map λ(m:Nat)=>c++[(m:Int)])) (i0m o4 qs rfl s2 h2 (by simpa using t2)) ?_ ?_⟩
   ·rintro j Z H3 hj ⟨o4,qs,rfl,s3,h3,t3⟩;rw [Int.zero_add]
    have hql:qs.length<=300000:=by
     have e:=t3.len;rw [Z06,A8p,Z08,List.length_range] at e;have e1:(cs.take i).length*n.toNat<=4000*60:=Nat.mul_le_mul (by rw [Z0x];lia) (by lia)
     lia
    have hp3:H3 pc=some (.tup (c.map V.int)):=s3 _ _ hpt;refine i06 _ rfl (.inl (i01 rfl _ (SqL.of h3))) (i0l _ rfl _ rfl (A1j rfl) λu hu=> ?_)
    have fin:∀(q:Addr) (H4:Hp),A0s H3 H4->H4 q=some (.tup ((c++[(j:Int)]).map V.int))->C5q (V.ref l) [V.ref q] H4 λ_ H5=>∃(o4:Option V) (qs:List Addr),[some (V.ref a),some (.int n),some (.ref l),some (.ref pc),some (.int (j:Int))]=[some (.ref a),some (.int n),some (.ref l),some (.ref pc),o4]/\A0s H H5/\
      H5 l=some (.lst (qs.map V.ref))/\A2s H5 qs (A9o (cs.take i) n++(List.range (j+1)).map λ(m:Nat)=>c++[(m:Int)]):=λq H4 s4 h4=>by
     refine i0s l _ _ rfl rfl (s4 _ _ h3) (by rw [Z08];exact A1d (by lia)) ?_;refine i0m _ (qs++[q]) rfl (A0q (s3.trans s4) hl) (by rw [A0b,Z0s];rfl) ?_;rw [List.range_succ,Z0s,<-Z0z];exact ((t3.same s4).snoc h4).lst (s4 _ _ h3)
    have s4:A0s H3 (upd H3 u (.tup [V.int (j:Int)])):=A0f hu;refine i0x pc u _ _ rfl rfl (SqT.of (s4 _ _ hp3)) (SqT.of A0b) (i04 (by simp) (A4d (by simp;lia)) (λhx=> ?_) λhx p hp=> ?_)
    ·have ec:c=[]:=by simpa using hx
     subst ec;exact fin u _ s4 A0b
    ·refine fin p _ (s4.trans (A0f hp)) ?_;rw [A0b,Z0s];rfl
   ·rintro Z H3 ⟨o4,qs,rfl,s3,h3,t3⟩;refine i0q _ _ qs rfl s3 h3 ?_
    have e:A9o (cs.take (i+1)) n=A9o (cs.take i) n++(List.range n.toNat).map λ(m:Nat)=>c++[(m:Int)]:=by
     rw [Z14,hc];simp [A9o]
    rw [e];exact t3
  ·rintro Z H2 zz;refine e08 zz ?_;clear zz;rintro o3 o4 qs rfl s2 h2 t2;refine i02 _ rfl (k l H2 hl s2 ⟨qs,h2,?_⟩);rw [Z08,tp.len,Z18] at t2;exact t2
theorem B8y (T:Txt K mg t):FO P w base T.ii 2 B9z:=by
 have Ga2:= @B5g P w K mg base t T;refine T.ii.F.ok A7e (by walk_at "ln") λ_ A _ s H _ Q E hr h=> ?_
 ·obtain ⟨a,ls,rfl,ha,g,k⟩:=h
  refine ⟨_,(A0c (A0l (i:=1) A7e.nd (A4m (A0a (A2j A0d) A0d)))
   (A0c (A2g (A2m (pv 0)) (A0m (i:=2) A7e.nd)
    (A0e (A0l (i:=1) A7e.nd (pcl Ga2 hr T.fc (A0a (pv 1) (A0a (pv 2) A0d))))))
   (A0e (A0o (pv 1))))),?_⟩
  refine ⟨A1j rfl,λe he=>⟨A1j rfl,λq hq=> ?_⟩⟩;have hq0:H q=none:=(A0f he).free hq;have s1:A0s H (upd (upd H e (.tup [])) q (.lst [V.ref e])):=(A0f he).trans (A0f hq)
  refine ⟨_,rfl,a,rfl,⟨_,SqL.of (s1 _ _ ha)⟩,A3k (K:=K) (a:=a) (xs:=ls.map V.int) (λi Z H2=>∃(o2:Option V) (q:Addr),Z=[Sro a,Sro q,o2]/\A0s H H2/\H q=none/\A9y H2 q (A0t (ls.take i)))
   (i0m none q rfl s1 hq0 ⟨[e],A0b,.cons (by rw [A0i (A0h A0b hq)];exact A0b) .nil⟩) (λi Z H2 _ zq=>by obtain ⟨_,_,_,s2,_⟩:=zq;exact SqL.of (s2 _ _ ha)) ?_ ?_⟩
  ·rintro i y Z H2 hi ⟨o2,q,rfl,s2,hq,c2⟩;obtain ⟨n,hn,rfl⟩:=A2b hi;have gp:=g.pos n (Z13 hn);have cl:=A2d (ls.take i) λm hm=>(g.pos m (Z2p hm)).1;have pl:=B0m ls (λm hm=>(g.pos m hm).1) i;have gm:=g.most;have gf:=g.few;refine i0e _ rfl _ rfl (i0w q n _ rfl c2 (λc hc=> ?_) (by lia) (by lia) ⟨by lia,λp H' hp s3 c3=> ?_⟩)
   ·have e:=(A3z _ c hc).1;rw [Z0x] at e
    lia
   ·refine i0m _ p rfl (s2.trans s3) (s2.free hp) ?_;rw [A7i hn];exact c3
  ·rintro Z H2 ⟨o2,q,rfl,s2,hq,c2⟩;rw [Z08,Z18] at c2;exact i02 _ rfl (k q H2 hq s2 c2)
theorem B0p (T:Txt K mg t):FO P w base T.bw 1 E0m:=by
 refine T.bw.F.ok B0x (λvs H Q E h=> ?_) λ_ A _ s H _ Q E hr h=> ?_
 ·refine e07 h ?_;clear h;rintro l d ys lk ls ⟨rfl,_⟩;rfl
 ·refine e0d h ?_;clear h;rintro l d ys lk ls rfl hl hd sz ⟨ly,k⟩;have hu:=A4z hr;have le:=Paired.length sz;refine i02 _ (A0e (A0o (A3h (N':=["axis","lengths"]) (ix:=(List.replicate 1 none++[some 1])) rfl (A5j (x:="lengths") rfl rfl rfl (by decide +kernel) (by decide +kernel)) (A4j (N0:=["axis"]) rfl (.inl rfl) (by walk_at "ix")) (A2m (pv 0)) (λ_ _ _ _=>(A0m (i:=0) C7d)) (λ_ _ _ _=>(A0p hu (pv 1) (pv 0)))))) ?_;refine i0l _ rfl l rfl ⟨_,SqL.of hl⟩ λD hD=> ?_;refine A4a (K:=K) (a:=l) (D:=D) (xs:=ys.map V.str) (λi zs H2=>A0s H H2/\H2 D=some (.lst zs)/\zs=(ls.take i).map V.int) (i00 (A0f hD) A0b rfl) (λi zs H2 ⟨s2,_⟩=>SqL.of (s2 _ _ hl)) ?_ ?_
  ·rintro i x zs H2 hx ⟨s2,hD2,rfl⟩;obtain ⟨y,hy,rfl⟩:=A2b hx;obtain ⟨n,hn,ev⟩:=B1e sz hy;have g:=A5a.k (H:=H2) (a:=d) (k:=Sum.inr y) (s2 _ _ hd);rw [ev] at g;refine ⟨⟨rfl,True.intro⟩,(i0v _ rfl _ rfl d _ rfl g (i08 hD2 (A1d (by simp;lia)) (A0q s2 hD) A0b ?_))⟩;rw [Z14,hn,Z2f,Z0s];rfl
  ·rintro zs H2 ⟨s2,hD2,rfl⟩;rw [Z08,le,Z18] at hD2;exact k D H2 hD s2 hD2
theorem A6c (T:Txt K mg t):FO P w base T.bf 3 D9f:=by
 have Ga3:= @B8y P w K mg base t T;have Ga4:= @B0p P w K mg base t T;refine T.bf.F.ok B3d (λvs H Q E h=> ?_) λ_ A _ s H _ Q E hr h=> ?_
 ·refine e07 h ?_;clear h;rintro l d ys lk ls ⟨rfl,_⟩;rfl
 ·refine e0d h ?_;clear h;rintro l d ys lk ls rfl hl hd sz ⟨g,k⟩;have le:=Paired.length sz;have gf:=g.few;refine i02 _ (A0e (A0o (pcl Ga3 hr T.ii (A0a (pcl Ga4 hr T.bw (A0a (pv 0) (A0a (pv 1) A0d))) A0d)))) ?_;exact i1d _ rfl _ rfl l d ys lk ls rfl hl hd sz (by lia) λq1 H1 hq1 s1 h1=>(i0m q1 ls rfl h1 g λq H' hq s' c'=>k q H' (s1.free hq) (s1.trans s') c')
def B8a (A:Adr):Op3->Addr
 | .plus=>A.fe
 | .minus=>A.c6
 | .times=>A.c0
inductive Ob (A:Adr) (H:Hp):V->Tm->Prop
 | num {a dx:Addr} {z:Int}:H a=some (.ins A.cg dx [("number",.int z)])->Ob A H (.ref a) (.num z)
 | place {a dx:Addr} {x:Str}:H a=some (.ins A.fg dx [("axis",.str x)])->Ob A H (.ref a) (.place x)
 | sum {a dx:Addr} {x:Str} {u:V} {b:Tm}:H a=some (.ins A.jo dx [("axis",.str x),("body",u)])->Ob A H u b->Ob A H (.ref a) (.sum x b)
 | read {a dx l:Addr} {x:Str} {ix:List (Str×Int)}:H a=some (.ins A.ba dx [("array",.str x),("indexes",.ref l)])->Rep H (.ref l) (A5e ix)->Ob A H (.ref a) (.read x ix)
 | pair {a dx:Addr} {k:Op3} {u w:V} {l r:Tm}:H a=some (.ins (B8a A k) dx [("left",u),("right",w)])->Ob A H u l->Ob A H w r->Ob A H (.ref a) (.pair k l r)
 | guard {a dx:Addr} {x:Str} {lo hi:Int} {u w:V} {l r:Tm}:H a=some (.ins A.aq dx [("axis",.str x),("low",.int lo),("high",.int hi),("inner",u),("outer",w)])->Ob A H u l->Ob A H w r->Ob A H (.ref a) (.guard x lo hi l r)
theorem Ob.imp (f:A0s H H') {t:Tm} (h:Ob A H v t):Ob A H' v t:=by
 induction h with
 | num e=>exact .num (f _ _ e)
 | read e r=>exact .read (f _ _ e) (r.same f)
 | pair e _ _ i1 i2=>exact .pair (f _ _ e) i1 i2
 | place e=>exact .place (f _ _ e)
 | sum e _ i1=>exact .sum (f _ _ e) i1
 | guard e _ _ i1 i2=>exact .guard (f _ _ e) i1 i2
structure B0w (n:Nat) (u:Tm) (H:Hp) (d l:Addr) (kvs lk:List (Key×V)):Prop where
 good:B8r u
 deep:dep u<=n
 hd:H d=some (.dK kvs)
 at_:D8b kvs u
 hl:H l=some (.dK lk)
 ax:∃AX,Axs AX u/\D2v AX lk
 few:kvs.length+n<=1000
 most:(rd (ai lk) u (ai kvs)).length<=100000
theorem B0w.same (h:B0w n u H d l kvs lk) (s:A0s H H'):B0w n u H' d l kvs lk:=⟨h.good,h.deep,s _ _ h.hd,h.at_,s _ _ h.hl,h.ax,h.few,h.most⟩
theorem B6v {α:Type} (f:Nat->List α):∀{n k:Nat},k<n->(f k).length<=((List.range n).flatMap f).length
 | n+1,k,h=>by
  rw [B2g,Z06];by_cases e:k=n
  ·subst e;lia
  ·have:=B6v f (n:=n) (k:=k) (by lia)
   lia
theorem B0w.left {o:Op3} {a b:Tm} (h:B0w (n+1) (.pair o a b) H d l kvs lk):B0w n a H d l kvs lk:=by
 obtain ⟨AX,a1,a2⟩:=h.ax;have hdep:=h.deep;have hfew:=h.few;have hmost:=h.most;simp only [dep] at hdep;simp only [rd,Z06] at hmost;exact ⟨h.good.1,by lia,h.hd,λx hx=>h.at_ x (.inl hx),h.hl,(i02 AX a1.1 a2),by lia,by lia⟩
theorem B0w.right {o:Op3} {a b:Tm} (h:B0w (n+1) (.pair o a b) H d l kvs lk):B0w n b H d l kvs lk:=by
 obtain ⟨AX,a1,a2⟩:=h.ax;have hdep:=h.deep;have hfew:=h.few;have hmost:=h.most;simp only [dep] at hdep;simp only [rd,Z06] at hmost;exact ⟨h.good.2,by lia,h.hd,λx hx=>h.at_ x (.inr hx),h.hl,(i02 AX a1.2 a2),by lia,by lia⟩
theorem B0w.inner {a b:Tm} (h:B0w (n+1) (.guard x lo hi a b) H d l kvs lk) (c:lo<=ai kvs x/\ai kvs x<hi):B0w n a H d l kvs lk/\rd (ai lk) (.guard x lo hi a b) (ai kvs)=rd (ai lk) a (ai kvs):=by
 obtain ⟨AX,a1,a2⟩:=h.ax;have hdep:=h.deep;have hfew:=h.few;have hmost:=h.most;have e:rd (ai lk) (.guard x lo hi a b) (ai kvs)=rd (ai lk) a (ai kvs):=by simp only [rd];rw [Z12 c]
 rw [e] at hmost;simp only [dep] at hdep;exact ⟨⟨h.good.2.2.2.1,by lia,h.hd,λx hx=>h.at_ x (.inr (.inl hx)),h.hl,(i02 AX a1.2.1 a2),by lia,hmost⟩,e⟩
theorem B0w.outer {a b:Tm} (h:B0w (n+1) (.guard x lo hi a b) H d l kvs lk) (c:¬(lo<=ai kvs x/\ai kvs x<hi)):B0w n b H d l kvs lk/\rd (ai lk) (.guard x lo hi a b) (ai kvs)=rd (ai lk) b (ai kvs):=by
 obtain ⟨AX,a1,a2⟩:=h.ax;have hdep:=h.deep;have hfew:=h.few;have hmost:=h.most;have e:rd (ai lk) (.guard x lo hi a b) (ai kvs)=rd (ai lk) b (ai kvs):=by simp only [rd];rw [Z0t c]
 rw [e] at hmost;simp only [dep] at hdep;exact ⟨⟨h.good.2.2.2.2,by lia,h.hd,λx hx=>h.at_ x (.inr (.inr hx)),h.hl,(i02 AX a1.2.2 a2),by lia,hmost⟩,e⟩
theorem B0w.gat {a b:Tm} (h:B0w n (.guard x lo hi a b) H d l kvs lk) (s:A0s H H'):A5a H' d (.str x) (some (.int (ai kvs x))):=by
 have g:=A5a.k (H:=H') (a:=d) (k:=Sum.inr x) (s _ _ h.hd);rw [h.at_ x (.inl rfl)] at g;exact g
theorem B0w.body {b:Tm} {d':Addr} (h:B0w (n+1) (.sum x b) H d l kvs lk) {k:Nat} (hk:k<(ai lk x).toNat) (s:A0s H H') (hd:H' d'=some (.dK (A4l kvs (Sum.inr x) (.int (k:Int))))) :
  B0w n b H' d' l (A4l kvs (Sum.inr x) (.int (k:Int))) lk:=by
 obtain ⟨AX,a1,a2⟩:=h.ax;have hdep:=h.deep;have hfew:=h.few;have hmost:=h.most;have lp:=A7f kvs (Sum.inr x:Key) (V.int (k:Int));simp only [dep] at hdep;refine ⟨h.good.2,by lia,hd,h.at_.put _,s _ _ h.hl,(i02 AX a1.2 a2),by lia,?_⟩;rw [B7b];have:=B6v (λk=>rd (ai lk) b (A8y (ai kvs) x (k:Int))) hk;simp only [rd] at hmost
 lia
theorem B0w.len {b:Tm} (h:B0w n (.sum x b) H d l kvs lk):A2r lk (Sum.inr x)=some (.int (ai lk x))/\1<=ai lk x/\ai lk x<=60:=by
 obtain ⟨AX,a1,a2⟩:=h.ax;exact a2 x a1.1
def C6y:Sp:=λvs H Q _=>∃(d:Addr) (x:Str) (k:Int) (kvs:List (Key×V)),vs=[.ref d,.str x,.int k]/\H d=some (.dK kvs)/\kvs.length<=1000/\∀(p:Addr) (H':Hp),H p=none->A0s H H'->H' p=some (.dK (A4l kvs (Sum.inr x) (.int k)))->Q (.ref p) H'
def B9x:Sp:=λvs H Q _=>∃(x:Str) (z:Int) (d:Addr) (kvs:List (Key×V)),vs=[.str x,.int z,.ref d]/\H d=some (.dK kvs)/\(¬x=""->A2r kvs (Sum.inr x)=some (.int (ai kvs x)))/\Q (.int (if x="" then z else ai kvs x+z)) H
def C4h (A:Adr):Sp:=λvs H Q _=>∃(o dx d l:Addr) (a:Str) (ix:List (Str×Int)) (kvs:List (Key×V)),vs=[.ref o,.ref d]/\H o=some (.ins A.ba dx [("array",.str a),("indexes",.ref l)])/\Rep H (.ref l) (A5e ix)/\ix.length<=3/\H d=some (.dK kvs)/\
 (∀e∈ix,¬e.1=""->A2r kvs (Sum.inr e.1)=some (.int (ai kvs e.1)))/\∀(p:Addr) (H':Hp),H p=none->A0s H H'->H' p=some (.tup ((A2v (ai kvs) ix).map V.int))->Q (.ref p) H'
def C4w (A:Adr):Sp:=λvs H Q _=>∃(o dx d:Addr) (x:Str) (lo hi:Int) (u v:V) (kvs:List (Key×V)),vs=[.ref o,.ref d]/\H o=some (.ins A.aq dx [("axis",.str x),("low",.int lo),("high",.int hi),("inner",u),("outer",v)])/\A5a H d (.str x) (some (.int (ai kvs x)))/\
 (lo<=ai kvs x/\ai kvs x<hi->Q u H)/\(¬(lo<=ai kvs x/\ai kvs x<hi)->Q v H)
def opM:Op3->Int->Int->Int
 | .plus,a,b=>a+b
 | .minus,a,b=>a-b
 | .times,a,b=>a*b
def B8u (f:Nat->Int):Nat->Int
 | 0=>0
 | n+1=>B8u f n+f n
def wo (len:Str->Int) (num:Str->List Int->Int) (wh:Int):Tm->(Str->Int)->Int
 | .num z,_=>z%wh
 | .place x,f=>f x%wh
 | .read a ix,f=>num a (A2v f ix)%wh
 | .sum x b,f=>B8u (λ(k:Nat)=>wo len num wh b (A8y f x (k:Int))) (len x).toNat%wh
 | .pair o l r,f=>opM o (wo len num wh l f) (wo len num wh r f)%wh
 | .guard x lo hi l r,f=>if lo<=f x/\f x<hi then wo len num wh l f else wo len num wh r f
theorem B6p {len:Str->Int} {num:Str->List Int->Int} {wh:Int} (h:0<wh):∀(t:Tm) (f:Str->Int),0<=wo len num wh t f/\wo len num wh t f<wh
 | .num _,_=>⟨Z1v _ (by lia),Z1p _ h⟩
 | .place _,_=>⟨Z1v _ (by lia),Z1p _ h⟩
 | .read _ _,_=>⟨Z1v _ (by lia),Z1p _ h⟩
 | .sum _ _,_=>⟨Z1v _ (by lia),Z1p _ h⟩
 | .pair _ _ _,_=>⟨Z1v _ (by lia),Z1p _ h⟩
 | .guard x lo hi l r,f=>by
  have a:=B6p (len:=len) (num:=num) h l f;have b:=B6p (len:=len) (num:=num) h r f;simp only [wo];split
  ·exact a
  ·exact b
def D2j (wh:Int):Prop:=2<=wh/\wh<=10^32
theorem D9j {len:Str->Int} {num:Str->List Int->Int} (h:D2j wh) (a b:Tm) (f:Str->Int):D9p (wo len num wh a f) (wo len num wh b f):=by
 have h1:(2:Int)<=wh:=h.1;have h2:wh<=10^32:=h.2;have a1:=B6p (len:=len) (num:=num) (show 0<wh by lia) a f;have b1:=B6p (len:=len) (num:=num) (show 0<wh by lia) b f
 have hh:(10:Nat)^32<2^4000:=by
  calc (10:Nat)^32<2^128:=by decide
   _<=2^4000:=Nat.pow_le_pow_right (by decide) (by decide)
 have e:((10:Int)^32)=(((10:Nat)^32:Nat):Int):=by norm_cast
 rw [e] at h2;generalize (10:Nat)^32=N at h2 hh;generalize wo len num wh a f=p at a1⊢;generalize wo len num wh b f=q at b1⊢;exact ⟨by lia,by lia⟩
def B7p (H:Hp) (nk:List (Key×V)) (num:Str->List Int->Int) (rs:List (Str×List Int)):Prop :=
 ∀e∈rs,∃p cs,A2r nk (Sum.inr e.1)=some (.ref p)/\H p=some (.dT cs)/\A2r cs (e.2.map Sum.inl)=some (.int (num e.1 e.2))
theorem B7p.mono {num:Str->List Int->Int} {rs rs':List (Str×List Int)} (h:B7p H nk num rs) (s:A0s H H') (f:∀e∈rs',e∈rs):B7p H' nk num rs':=λe he=>by
 obtain ⟨p,cs,h1,h2,h3⟩:=h e (f e he);exact i0f p cs h1 (s _ _ h2) h3
structure Wd (A:Adr) (H:Hp) (wd l:Addr) (wh:Int) (nk:List (Key×V)):Prop where
 ob:∃dx nn,H wd=some (.ins A.aa dx [("wheel",.int wh),("lengths",.ref l),("numbers",.ref nn)])/\H nn=some (.dK nk)
 wh:D2j wh
theorem Wd.same {wd:Addr} (h:Wd A H wd l wh nk) (s:A0s H H'):Wd A H' wd l wh nk:=by
 obtain ⟨⟨dx,nn,h1,h2⟩,h3⟩:=h;exact ⟨(i07 dx nn (s _ _ h1) (s _ _ h2)),h3⟩
theorem Wd.pos {wd:Addr} (h:Wd A H wd l wh nk):0<wh:=by have:=h.wh.1;lia
def D6n (A:Adr) (n:Nat) (is:Tm->Prop):Sp:=λvs H Q _=>∃(v:V) (u:Tm) (d wd l:Addr) (kvs lk nk:List (Key×V)) (num:Str->List Int->Int) (wh:Int),vs=[v,.ref d,.ref wd]/\is u/\Ob A H v u/\B0w n u H d l kvs lk/\Wd A H wd l wh nk/\B7p H nk num (rd (ai lk) u (ai kvs))/\
 ∀H',A0s H H'->Q (.int (wo (ai lk) num wh u (ai kvs))) H'
def B5q (o:Op3):Sp:=λvs H Q _=>∃(v:V) (x y:Int),vs=[v,.int x,.int y]/\D9p x y/\Q (.int (opM o x y)) H
theorem C6m (T:Txt K mg t):FO P w base T.ml 1 C6y:=by
 refine T.ml.F.ok B7n (by walk_at "ln") λ_ A _ s H _ Q E hr h=> ?_
 ·refine e01 h ?_;clear h;rintro d x z ⟨kvs,rfl,hd,hl,k⟩;have hu:=A4z hr
  refine ⟨_,(A0c (A0l (i:=3) B7n.nd (A2a B4n (by rfl) T.e_ Z2q (A0a (pv 0) A0d)))
   (A0c (A3a hu (pv 3) (pv 1) (pv 2) rfl)
   (A0e (A0o (pv 3))))),?_⟩
  refine i0o _ rfl d kvs rfl (.inl hd) λp hp=> ?_;refine i10 _ rfl _ rfl _ rfl p _ rfl (B0z.k (k:=Sum.inr x) A0b (A1d (by lia))) (i02 _ rfl ?_);exact k p _ hp (A0q (A0f hp) hp) A0b
theorem B9o (T:Txt K mg t):FO P w base T.iy 1 B9x:=by
 refine T.iy.F.ok B9i (by walk_at "ln") λ_ A _ s H _ Q E hr h=> ?_
 ·refine e01 h ?_;clear h;rintro x z d ⟨kvs,rfl,hd,hx,k⟩;have hu:=A4z hr
  refine ⟨_,(A0c (A1o (A0w A3n (pv 0) A0u (A1f _))
    (A0e (A0o (pv 1)))
    A0r)
   (A0e (A0o (A0n A2k (A0p hu (pv 2) (pv 0)) (pv 1))))),?_⟩
  refine i0k _ rfl rfl _ rfl (A2n (λh=> ?_) (λh=> ?_))
  ·rw [Z12 (by injection h)] at k;exact i02 _ rfl k
  ·have hn:¬x="":=λe=>h (by rw [e]);rw [Z0t hn] at k;have g:=A5a.k (H:=H) (a:=d) (k:=Sum.inr x) hd;rw [hx hn] at g;exact i0v _ rfl _ rfl d _ rfl g (i0o _ rfl _ _ rfl rfl k)
theorem B2a (T:Txt K mg t):FP P w mg base T.cq 2 (C4h t):=by
 have Ga5:= @B9o P w K mg base t T;refine T.cq.F.ok B1p (λvs H Q E h=> ?_) λ_ A _ s H _ Q E hr h=> ?_
 ·refine e07 h ?_;clear h;rintro o dx d l a ⟨ix,kvs,rfl,_⟩;rfl
 ·refine e0g h ?_;clear h;rintro o dx d l a ix kvs rfl ho rp hix hd ⟨hx,k⟩;obtain ⟨_,es,q,el,rs⟩:=A7b (show Rep H (.ref l) (.list (ix.map B3l)) from rp);cases q;have hl:=rs.len;rw [Z08] at hl;refine i02 _ (A0e (A0o (A2a A4f (by rfl) T.c8 Z0m (A0a (A3h (N':=["axis","shift","at"]) (ix:=(List.replicate 2 none++[some 1])) (g:=E1g K 2 (C5v (B5w 0) (C5v (B5w 1) E0l))) rfl (A5j (x:="at") rfl rfl rfl (by decide +kernel) (by decide +kernel)) (A4j (N0:=["axis","shift"]) rfl (.inl rfl) (by walk_at "ix")) (A2m (A1t (pv 0) rfl)) (λ_ _ _ _=>(A4y (n:=2) rfl (A1b (A0m (i:=0) B7e) (A1b (A0m (i:=1) B7e) A3m)))) (λ_ _ _ _=>(pcl Ga5 hr T.iy (A0a (pv 0) (A0a (pv 1) (A0a (pv 2) A0d)))))) A0d)))) ?_;refine i17 _ rfl o _ dx _ _ rfl ho T.gy T.fw (by walk_at "lk") (i06 l rfl ⟨_,SqL.of el⟩ λD hD=> ?_);refine A4a (K:=K) (a:=l) (D:=D) (xs:=es) (λi ys H2=>A0s H H2/\H2 D=some (.lst ys)/\ys=(A2v (ai kvs) (ix.take i)).map V.int) (i00 (A0f hD) A0b rfl) (λi ys H2 ⟨s2,_⟩=>SqL.of (s2 _ _ el)) ?_ ?_
  ·rintro i x ys H2 hx' ⟨s2,hD2,rfl⟩;have hi:i<ix.length:=by have:=(Z03.mp hx').1;lia
   obtain ⟨dd,hdd,rx⟩:=rs.get2 hx';have hie:ix[i]? =some ix[i]:=Z0b hi;rw [Z1z,hie] at hdd;cases hdd;obtain ⟨q,rfl,eq⟩:=D6r rx;refine i18 q _ rfl (SqT.of (s2 _ _ eq)) rfl _ _ rfl _ _ rfl rfl (i05 ⟨rfl,True.intro⟩ _ rfl (i13 _ rfl _ rfl (ix[i].1) (ix[i].2) d kvs rfl (s2 _ _ hd) (hx _ (Z13 hie)) ?_));refine i08 hD2 (A1d (by simp [A2v];lia)) (A0q s2 hD) A0b ?_;rw [Z14,hie,Z2f];unfold A2v;rw [Z0s,Z0s];rfl
  ·rintro ys H2 ⟨s2,hD2,rfl⟩;rw [hl,Z18] at hD2;exact i07 D _ rfl (.inl ⟨SqL.of hD2,λp hp=>k p _ (s2.free hp) (s2.trans (A0f hp)) A0b⟩)
def D2w (A:Adr):Sp:=λvs H Q _=>∃(o dx d:Addr) (x:Str) (lo hi:Int) (u v:V) (kvs:List (Key×V)),vs=[.ref o,.ref d]/\H o=some (.ins A.aq dx [("axis",.str x),("low",.int lo),("high",.int hi),("inner",u),("outer",v)])/\A5a H d (.str x) (some (.int (ai kvs x)))/\
 (lo<=ai kvs x/\ai kvs x<hi->Q (.bl true) H)/\(¬(lo<=ai kvs x/\ai kvs x<hi)->Q (.bl false) H)
theorem B0t (T:Txt K mg t):FP P w mg base T.bx 1 (D2w t):=by
 refine T.bx.F.ok B0r (λvs H Q E h=> ?_) λ_ A _ s H _ Q E hr h=> ?_
 ·refine e0e h ?_;clear h;rintro o dx d x lo hi u v kvs ⟨rfl,_⟩;rfl
 ·refine e0e h ?_;clear h;rintro o dx d x lo hi u v kvs ⟨rfl,ho,g,k1,k2⟩;have hu:=A4z hr;refine i02 _ (A0e (A0o (D1d D7x D0t (A1t (pv 0) rfl) (A0p hu (pv 1) (A1t (pv 0) rfl)) (A1t (pv 0) rfl)))) ?_;refine i17 _ rfl o _ dx _ _ rfl ho T.av T.ja (by walk_at "lk") (i1d _ rfl _ rfl o _ dx _ _ rfl ho T.av T.i9 (by walk_at "lk") (i07 d _ rfl (i0j g _ _ rfl rfl ?_)));refine i02 _ rfl (A2n (λh1=> ?_) (λh1=> ?_))
  ·have h1:lo<=ai kvs x:=h1;refine i17 _ rfl o _ dx _ _ rfl ho T.av T.h_ (by walk_at "lk") (i0f _ _ rfl rfl ?_);show Q (.bl (decide (ai kvs x<hi))) H;by_cases h2:ai kvs x<hi
   ·rw [Z20 h2];exact k1 ⟨h1,h2⟩
   ·rw [Z1j h2];exact k2 λz=>h2 z.2
  ·have h1:¬lo<=ai kvs x:=h1;exact k2 λz=>h1 z.1
theorem A9i (T:Txt K mg t):FP P w mg base T.bg 2 (C4w t):=by
 have Ga6:= @B0t P w K mg base t T;refine T.bg.F.ok A9e (λvs H Q E h=> ?_) λ_ A _ s H _ Q E hr h=> ?_
 ·refine e0e h ?_;clear h;rintro o dx d x lo hi u v kvs ⟨rfl,_⟩;rfl
 ·refine e0e h ?_;clear h;rintro o dx d x lo hi u v kvs ⟨rfl,ho,g,k1,k2⟩
  refine ⟨_,(A0c (A1o (A3w (B2d (pv 0) T.av T.jh Ga6 (hr.mono (by lia)) T.bx.b .nil B6t (A0a (pv 1) A0d)))
    (A0e (A0o (A1t (pv 0) rfl)))
    A0r)
   (A0e (A0o (A1t (pv 0) rfl)))),?_⟩
  refine i02 _ rfl (i0g o dx _ rfl (i09 ho (by walk_at "lk") _ rfl (i0t o dx d x lo hi u (i0p v kvs rfl ho g (λc=>(i02 true rfl (C9b ?_))) λc=>(i02 false rfl (A7j ?_))))))
  ·exact i17 _ rfl o _ dx _ _ rfl ho T.av T.fz (by walk_at "lk") (k1 c)
  ·exact i17 _ rfl o _ dx _ _ rfl ho T.av T.gj (by walk_at "lk") (k2 c)
theorem B3o (T:Txt K mg t):FP P w mg base T.dt 1 (B5q .plus):=by
 refine T.dt.F.ok B3g (by walk_at "ln") λ_ A _ s H _ Q E hr h=> ?_
 ·obtain ⟨v,x,y,rfl,c,k⟩:=h;exact i02 _ (A0e (A0o (A0n A2k (pv 1) (pv 2)))) (i0v _ rfl _ rfl _ _ rfl rfl k)
theorem B1z (T:Txt K mg t):FP P w mg base T.c9 1 (B5q .minus):=by
 refine T.c9.F.ok B2m (by walk_at "ln") λ_ A _ s H _ Q E hr h=> ?_
 ·obtain ⟨v,x,y,rfl,c,k⟩:=h;exact i02 _ (A0e (A0o (A0n A5c (pv 1) (pv 2)))) (i0v _ rfl _ rfl _ _ rfl rfl k)
theorem B1t (T:Txt K mg t):FP P w mg base T.cf 1 (B5q .times):=by
 refine T.cf.F.ok B2z (by walk_at "ln") λ_ A _ s H _ Q E hr h=> ?_
 ·obtain ⟨v,x,y,rfl,c,k⟩:=h;exact i02 _ (A0e (A0o (A0n C7g (pv 1) (pv 2)))) (i0v _ rfl _ rfl _ _ rfl rfl ⟨c,k⟩)
theorem D8g (T:Txt K mg t) (o:Op3):∃f fd,B3u K (B8a t o) "joined" f/\A4c P w K mg base CX0 1 f fd ["self","left","right"] (B5q o)/\A8w K fd ["self","left","right"] []:=by cases o with
 | plus=>exact i0f _ _ T.md (B3o T) T.dt.b
 | minus=>exact i0f _ _ T.jv (B1z T) T.c9.b
 | times=>exact i0f _ _ T.jy (B1t T) T.cf.b
theorem B2j (T:Txt K mg t) (n:Nat):A4c P w K mg base CX0 1 t.ci t.ge B1h (D6n t n λu=>∃z,u= .num z):=by
 refine T.gh.F.ok B2h (λvs H Q E h=> ?_) λ_ A _ s H _ Q E hr h=> ?_
 ·refine e0e h ?_;clear h;rintro v u d wd l kvs lk nk num ⟨wh,rfl,_⟩;rfl
 ·refine e0e h ?_;clear h;rintro v u d wd l kvs lk nk num ⟨wh,rfl,⟨z,rfl⟩,ob,ask,W,nu,k⟩;have hp:=W.pos;obtain ⟨⟨dw,nn,hw,hn⟩,_⟩:=W
  cases ob with
  | @num a dx _ e=>exact i02 _ (A0e (A0o (A0n A1i (A1t (pv 0) rfl) (A1t (pv 2) rfl)))) (i17 _ rfl a _ dx _ _ rfl e T.je T.e8 (by walk_at "lk") (i17 _ rfl wd _ dw _ _ rfl hw T.ac T.aj (by walk_at "lk") (i0m _ _ rfl rfl hp (k H (A0s.refl _)))))
theorem B6q (c:List Int):(c.map V.int)=(c.map (Sum.inl:Int->Key)).map kV:=by rw [List.map_map];rfl
theorem B3f (T:Txt K mg t) (n:Nat):A4c P w K mg base CX0 1 t.dh t.ie B1h (D6n t n λu=>∃z,u= .place z):=by
 refine T.i7.F.ok B3r (λvs H Q E h=> ?_) λ_ A _ s H _ Q E hr h=> ?_
 ·refine e0e h ?_;clear h;rintro v u d wd l kvs lk nk num ⟨wh,rfl,_⟩;rfl
 ·refine e0e h ?_;clear h;rintro v u d wd l kvs lk nk num ⟨wh,rfl,⟨z,rfl⟩,ob,ask,W,nu,k⟩;have hu:=A4z hr;have hp:=W.pos;obtain ⟨⟨dw,nn,hw,hn⟩,_⟩:=W;have g:=A5a.k (H:=H) (a:=d) (k:=Sum.inr z) ask.hd;rw [ask.at_ z rfl] at g
  cases ob with
  | @place a dx _ e=>exact i02 _ (A0e (A0o (A0n A1i (A0p hu (pv 1) (A1t (pv 0) rfl)) (A1t (pv 2) rfl)))) (i1d _ rfl _ rfl a _ dx _ _ rfl e T.lu T.ig (by walk_at "lk") (i0f d _ rfl g (i17 _ rfl wd _ dw _ _ rfl hw T.ac T.aj (by walk_at "lk") (i0m _ _ rfl rfl hp (k H (A0s.refl _))))))
theorem B5u (T:Txt K mg t) (n:Nat):A4c P w K mg base CX0 3 t.fh t.jc B1h (D6n t n λu=>∃z ix,u= .read z ix):=by
 have Ga7:= @B2a P w K mg base t T;refine T.i_.F.ok B5n (λvs H Q E h=> ?_) λ_ A _ s H _ Q E hr h=> ?_
 ·refine e0e h ?_;clear h;rintro v u d wd l kvs lk nk num ⟨wh,rfl,_⟩;rfl
 ·refine e0e h ?_;clear h;rintro v u d wd l kvs lk nk num ⟨wh,rfl,⟨z,ix,rfl⟩,ob,ask,W,nu,k⟩;have hu:=A4z hr;have hp:=W.pos;obtain ⟨⟨dw,nn,hw,hn⟩,_⟩:=W;obtain ⟨pc,cs,v1,h1,v2⟩:=nu (z,A2v (ai kvs) ix) (by simp [rd]);have g1:=A5a.k (H:=H) (a:=nn) (k:=Sum.inr z) hn;rw [v1] at g1
  cases ob with
  | @read a dx li _ _ e rp =>
   refine i02 _ (A0e (A0o (A0n A1i (A0p hu (A0p hu (A1t (pv 2) rfl) (A1t (pv 0) rfl)) (B2d (pv 0) T.gy T.j_ Ga7 (hr.mono (by lia)) T.cq.b .nil B6t (A0a (pv 1) A0d))) (A1t (pv 2) rfl)))) ?_
   refine ⟨_,rfl,wd,_,dw,_,_,rfl,hw,T.ac,T.ag,(by walk_at "lk"),_,rfl,a,_,dx,_,_,rfl,e,T.gy,T.i3,(by walk_at "lk"),nn,_,rfl,g1,_,rfl,
    a,dx,_,rfl,e,(by walk_at "lk"),_,rfl,
    a,dx,d,li,z,ix,kvs,rfl,e,rp,ask.good.2.1,ask.hd,λe he hn=>ask.at_ e.1 (i05 hn e he rfl),λq H2 hq s2 h2=> ?_⟩
   rw [B6q] at h2;have g2:=A5a.t (s2 _ _ h1) h2;rw [v2] at g2;exact i0f pc _ rfl g2 (i17 _ rfl wd _ dw _ _ rfl (s2 _ _ hw) T.ac T.aj (by walk_at "lk") (i0m _ _ rfl rfl hp (k H2 s2)))
def WOk (P:Program) (w:World) (K:Frag) (mg:Str->Option Value) (base:Heap) (A:Adr) (n:Nat):Prop:=∀(H:Hp) (v:V) (u:Tm),Ob A H v u->dep u<=n->
 ∃(a C dx:Addr) (fs:List (Str×V)) (k:Nat) (f:Addr) (fd:FuncData) (ps:List Str) (sp:Sp),v= .ref a/\H a=some (.ins C dx fs)/\Cls K C/\B3u K C "worth" f/\fs.lookup ("worth":Str)=none/\A4c P w K mg base CX0 k f fd ps sp/\k<=n+3/\A8w K fd ps []/\
  ∀(H':Hp) (d wd l:Addr) (kvs lk nk:List (Key×V)) (num:Str->List Int->Int) (wh:Int) (Q:VK),A0s H H'->B0w n u H' d l kvs lk->Wd A H' wd l wh nk->B7p H' nk num (rd (ai lk) u (ai kvs))->(∀H2,A0s H' H2->Q (.int (wo (ai lk) num wh u (ai kvs))) H2)->sp [v,.ref d,.ref wd] H' Q E0
theorem B2f (T:Txt K mg t) (k:Op3):Cls K (B8a t k):=by cases k with
 | plus=>exact T.qf
 | minus=>exact T.pQ
 | times=>exact T.pP
theorem C9q (T:Txt K mg t) (k:Op3):A1s K (B8a t k) "left":=by cases k with
 | plus=>exact T.oh
 | minus=>exact T.nv
 | times=>exact T.n6
theorem C9d (T:Txt K mg t) (k:Op3):A1s K (B8a t k) "right":=by cases k with
 | plus=>exact T.nh
 | minus=>exact T.ky
 | times=>exact T.k_
theorem E0u (T:Txt K mg t) (k:Op3):B3u K (B8a t k) "worth" t.bc:=by cases k with
 | plus=>exact T.my
 | minus=>exact T.mf
 | times=>exact T.ku
theorem B5a (T:Txt K mg t) (W:WOk P w K mg base t n):A4c P w K mg base CX0 (n+4) t.bc t.j6 B1h (D6n t (n+1) λu=>∃o x b,u= .pair o x b):=by
 refine T.jd.F.ok A6u (λvs H Q E h=> ?_) λ_ A _ s H _ Q E hr h=> ?_
 ·refine e0e h ?_;clear h;rintro v u d wd l kvs lk nk num ⟨wh,rfl,_⟩;rfl
 ·refine e0e h ?_;clear h;rintro v u d wd l kvs lk nk num ⟨wh,rfl,⟨o,x,y,rfl⟩,ob,ask,Wo,nu,k⟩;have hp:=Wo.pos
  cases ob with
  | @pair a dx _ u v _ _ e ob1 ob2 =>
   have a1:=ask.left;have a2:=ask.right;have n1:B7p H nk num (rd (ai lk) x (ai kvs)):=nu.mono (A0s.refl _) λe he=>by simp only [rd,Z07];exact .inl he
   have n2:B7p H nk num (rd (ai lk) y (ai kvs)):=nu.mono (A0s.refl _) λe he=>by simp only [rd,Z07];exact .inr he
   refine ⟨_,(A0c (A0l (i:=3) A6u.nd (A8d (A1t (pv 0) rfl) (A0a (pv 1) (A0a (pv 2) A0d))))
   (A0c (A0l (i:=4) A6u.nd (A8d (A1t (pv 0) rfl) (A0a (pv 1) (A0a (pv 2) A0d))))
   (A0e (A0o (A0n A1i (A8d (pv 0) (A0a (pv 3) (A0a (pv 4) A0d))) (A1t (pv 2) rfl)))))),?_⟩
   refine i17 _ rfl a _ dx _ _ rfl e (B2f T o) (C9q T o) (by walk_at "lk") ?_;refine e0e (W H u x ob1 a1.deep) ?_;rintro a' C' dx' fs' k' f' fd' ps' sp' ⟨rfl,e',c',m',l',F',hk',b',q'⟩;refine i0h a' C' dx' fs' (i1c k' f' fd' ps' sp' rfl e' c' m' l' F' (hr.mono (by lia)) b' (i0e _ rfl _ rfl (q' H d wd l kvs lk nk num wh _ (A0s.refl _) a1 Wo n1 λH1 s1=> ?_)));refine i17 _ rfl a _ dx _ _ rfl (s1 _ _ e) (B2f T o) (C9d T o) (by walk_at "lk") ?_;refine e0e (W H1 v y (ob2.imp s1) a2.deep) ?_;rintro a' C' dx' fs' k' f' fd' ps' sp' ⟨rfl,e',c',m',l',F',hk',b',q'⟩;refine i0h a' C' dx' fs' (i1c k' f' fd' ps' sp' rfl e' c' m' l' F' (hr.mono (by lia)) b' (i0e _ rfl _ rfl (q' H1 d wd l kvs lk nk num wh _ (A0s.refl _) (a2.same s1) (Wo.same s1) (n2.mono s1 λ_ z=>z) λH2 s2=> ?_)));obtain ⟨fj,dj,mj,Fj,bj⟩:=D8g (P:=P) (w:=w) (base:=base) T o;have s12:=s1.trans s2;obtain ⟨⟨dw,nn,hw,hn⟩,hwh⟩:=Wo;exact i02 _ rfl (i0h a _ dx _ (i1c 1 fj dj _ _ rfl (s12 _ _ e) (B2f T o) mj (by walk_at "lk") Fj (hr.mono (by lia)) bj (i0e _ rfl _ rfl (i0n _ _ _ rfl (D9j hwh x y (ai kvs)) (i17 _ rfl wd _ dw _ _ rfl (s12 _ _ hw) T.ac T.aj (by walk_at "lk") (i0m _ _ rfl rfl hp (k H2 s12)))))))
theorem B8e (T:Txt K mg t) (W:WOk P w K mg base t n):A4c P w K mg base CX0 (n+4) t.gt t.jq B1h (D6n t (n+1) λu=>∃x b,u= .sum x b):=by
 have Ga8:= @C6m P w K mg base t T;refine T.jp.F.ok A5z (λvs H Q E h=> ?_) λ_ A _ s H _ Q E hr h=> ?_
 ·refine e0e h ?_;clear h;rintro v u d wd l kvs lk nk num ⟨wh,rfl,_⟩;rfl
 ·refine e0e h ?_;clear h;rintro v u d wd l kvs lk nk num ⟨wh,rfl,⟨x,b,rfl⟩,ob,ask,Wo,nu,k⟩;have hu:=A4z hr;have hp:=Wo.pos;have hdp:=ask.deep;simp only [dep] at hdp;obtain ⟨lv,l1,l60⟩:=ask.len;have hfew:=ask.few;obtain ⟨⟨dw,nn,hw,hn⟩,hwh⟩:=id Wo
  cases ob with
  | @sum a dx _ u _ e ob =>
   refine ⟨_,(A0c (A0l (i:=3) A5z.nd A0g)
   (A0c (A2g (A3p rfl T.bh (A0a (A0p hu (A1t (pv 2) rfl) (A1t (pv 0) rfl)) A0d)) (A0m (i:=4) A5z.nd)
    (A0e (A0l (i:=3) A5z.nd (A0n A2k (pv 3) (A8d (A1t (pv 0) rfl) (A0a (pcl Ga8 hr T.ml (A0a (pv 1) (A0a (A1t (pv 0) rfl) (A0a (pv 4) A0d)))) (A0a (pv 2) A0d)))))))
   (A0e (A0o (A0n A1i (pv 3) (A1t (pv 2) rfl)))))),?_⟩
   have g:=A5a.k (H:=H) (a:=l) (k:=Sum.inr x) ask.hl;rw [lv] at g;refine i17 _ rfl wd _ dw _ _ rfl hw T.ac T.am (by walk_at "lk") (i17 _ rfl a _ dx _ _ rfl e T.lf T.ga (by walk_at "lk") (i0f l _ rfl g (i0c _ rfl (by lia) (by lia) ?_)))
   refine A6n (n:=(ai lk x).toNat) (λi Z H2=>∃(o4:Option V),Z=[Sro a,Sro d,Sro wd,Sio (B8u (λ(k:Nat)=>wo (ai lk) num wh b (A8y (ai kvs) x (k:Int))) i),o4]/\A0s H H2)
    (i02 none rfl (A0s.refl _)) ?_ ?_
   ·rintro i Z H2 hi ⟨o4,rfl,s2⟩;rw [Int.zero_add];have e2:=s2 _ _ e;refine i1d _ rfl _ rfl a _ dx _ _ rfl e2 T.lf T.jn (by walk_at "lk") ?_;refine e0e (W H2 u b (ob.imp s2) (by lia)) ?_;rintro a' C' dx' fs' k' f' fd' ps' sp' ⟨rfl,e',c',m',l',F',hk',b',q'⟩;refine i0h a' C' dx' fs' (i1c k' f' fd' ps' sp' rfl e' c' m' l' F' (hr.mono (by lia)) b' (i1d _ rfl _ rfl a _ dx _ _ rfl e2 T.lf T.ga (by walk_at "lk") (i02 _ rfl ⟨d,(i0q x (i:Int) kvs rfl (s2 _ _ ask.hd) (by lia) λp H3 hp s3 h3=>(i02 _ rfl ?_))⟩)));refine q' H3 p wd l _ lk nk num wh _ s3 (ask.body hi (s2.trans s3) h3) (Wo.same (s2.trans s3)) (nu.mono (s2.trans s3) λe he=> ?_) λH4 s4=> ?_
    ·rw [B7b] at he;simp only [rd,List.mem_flatMap,List.mem_range];exact i02 i hi he
    ·rw [B7b];exact ⟨_,(i0k _ rfl rfl _ rfl (s2.trans (s3.trans s4)))⟩
   ·rintro Z H2 ⟨o4,rfl,s2⟩;exact i1d _ rfl _ rfl wd _ dw _ _ rfl (s2 _ _ hw) T.ac T.aj (by walk_at "lk") (i0m _ _ rfl rfl hp (k H2 s2))
theorem B3q (T:Txt K mg t) (W:WOk P w K mg base t n):A4c P w K mg base CX0 (n+4) t.dz t.i8 B1h (D6n t (n+1) λu=>∃x lo hi l r,u= .guard x lo hi l r):=by
 have Ga9:= @A9i P w K mg base t T;refine T.ib.F.ok B3v (λvs H Q E h=> ?_) λ_ A _ s H _ Q E hr h=> ?_
 ·refine e0e h ?_;clear h;rintro v u d wd l kvs lk nk num ⟨wh,rfl,_⟩;rfl
 ·refine e0e h ?_;clear h;rintro v u d wd l kvs lk nk num ⟨wh,rfl,⟨x,lo,hi,y,z,rfl⟩,ob,ask,Wo,nu,k⟩
  cases ob with
  | @guard a dx _ _ _ u v _ _ e ob1 ob2 =>
   refine i02 _ (A0e (A0o (A8d (B2d (pv 0) T.av T.iq Ga9 (hr.mono (by lia)) T.bg.b .nil B6t (A0a (pv 1) A0d)) (A0a (pv 1) (A0a (pv 2) A0d))))) ?_
   refine ⟨_,rfl,a,dx,_,rfl,e,(by walk_at "lk"),_,rfl,
    a,dx,d,x,lo,hi,u,v,kvs,rfl,e,ask.gat (A0s.refl _),λc=> ?_,λc=> ?_⟩
   ·obtain ⟨a1,eq⟩:=ask.inner c;rw [eq] at nu;have ew:wo (ai lk) num wh (.guard x lo hi y z) (ai kvs)=wo (ai lk) num wh y (ai kvs):=by simp only [wo];rw [Z12 c]
    rw [ew] at k;refine e0e (W H u y ob1 a1.deep) ?_;rintro a' C' dx' fs' k' f' fd' ps' sp' ⟨rfl,e',c',m',l',F',hk',b',q'⟩;exact i0h a' C' dx' fs' (i1c k' f' fd' ps' sp' rfl e' c' m' l' F' (hr.mono (by lia)) b' (i0e _ rfl _ rfl (q' H d wd l kvs lk nk num wh _ (A0s.refl _) a1 Wo nu k)))
   ·obtain ⟨a1,eq⟩:=ask.outer c;rw [eq] at nu;have ew:wo (ai lk) num wh (.guard x lo hi y z) (ai kvs)=wo (ai lk) num wh z (ai kvs):=by simp only [wo];rw [Z0t c]
    rw [ew] at k;refine e0e (W H v z ob2 a1.deep) ?_;rintro a' C' dx' fs' k' f' fd' ps' sp' ⟨rfl,e',c',m',l',F',hk',b',q'⟩;exact i0h a' C' dx' fs' (i1c k' f' fd' ps' sp' rfl e' c' m' l' F' (hr.mono (by lia)) b' (i0e _ rfl _ rfl (q' H d wd l kvs lk nk num wh _ (A0s.refl _) a1 Wo nu k)))
theorem wok (T:Txt K mg t):∀n:Nat,WOk P w K mg base t n
 | 0=>λH v u ob hd=>absurd hd (by have:=B1l u;lia)
 | n+1=>λH v u ob hd=>by
  have W:=wok T n
  cases id ob with
  | num e=>exact i0h _ _ _ _ (i1c _ _ _ _ _ rfl e T.je T.ju (by walk_at "lk") (B2j T (n+1)) (by lia) T.gh.b λH' d wd l kvs lk nk num wh Q s a W2 nu k=>(i0h _ _ d wd (i19 l kvs lk nk num wh rfl ⟨_,rfl⟩ (ob.imp s) a W2 nu k)))
  | place e=>exact i0h _ _ _ _ (i1c _ _ _ _ _ rfl e T.lu T.kh (by walk_at "lk") (B3f T (n+1)) (by lia) T.i7.b λH' d wd l kvs lk nk num wh Q s a W2 nu k=>(i0h _ _ d wd (i19 l kvs lk nk num wh rfl ⟨_,rfl⟩ (ob.imp s) a W2 nu k)))
  | sum e o1=>exact i0h _ _ _ _ (i1c _ _ _ _ _ rfl e T.lf T.oq (by walk_at "lk") (B8e T W) (by lia) T.jp.b λH' d wd l kvs lk nk num wh Q s a W2 nu k=>(i0h _ _ d wd (i19 l kvs lk nk num wh rfl (i03 _ _ rfl) (ob.imp s) a W2 nu k)))
  | read e r=>exact i0h _ _ _ _ (i1c _ _ _ _ _ rfl e T.gy T.mw (by walk_at "lk") (B5u T (n+1)) (by lia) T.i_.b λH' d wd l kvs lk nk num wh Q s a W2 nu k=>(i0h _ _ d wd (i19 l kvs lk nk num wh rfl (i03 _ _ rfl) (ob.imp s) a W2 nu k)))
  | @pair _ _ o _ _ _ _ e o1 o2=>exact i0h _ _ _ _ (i1c _ _ _ _ _ rfl e (B2f T o) (E0u T o) (by walk_at "lk") (B5a T W) (by lia) T.jd.b λH' d wd l kvs lk nk num wh Q s a W2 nu k=>(i0h _ _ d wd (i19 l kvs lk nk num wh rfl ⟨_,(i03 _ _ rfl)⟩ (ob.imp s) a W2 nu k)))
  | guard e o1 o2=>exact i0h _ _ _ _ (i1c _ _ _ _ _ rfl e T.av T.kg (by walk_at "lk") (B3q T W) (by lia) T.ib.b λH' d wd l kvs lk nk num wh Q s a W2 nu k=>(i0h _ _ d wd (i19 l kvs lk nk num wh rfl ⟨_,(i0h _ _ _ _ rfl)⟩ (ob.imp s) a W2 nu k)))
def D1o (A:Adr):Sp:=λvs H Q _=>∃(p dx:Addr) (a b c d e:V),vs=[.ref p,a,b,c,d,e]/\H p=some (.ins A.aq dx [])/\Q .non (upd H p (.ins A.aq dx [("axis",a),("low",b),("high",c),("inner",d),("outer",e)]))
def C9g (A:Adr):Sp:=λvs H Q _=>∃(p dx l:Addr) (x:Str) (ix:List (Str×Int)),vs=[.ref p,.str x,.ref l]/\H p=some (.ins A.ba dx [])/\Rep H (.ref l) (A5e ix)/\ix.length<=1000/\
 ∀(l':Addr) (H':Hp),H' p=some (.ins A.ba dx [("array",.str x),("indexes",.ref l')])->Rep (A1w (λa=>H a=none) H') (.ref l') (A5e ix)->(∀b o,b≠p->H b=some o->H' b=some o)->Q .non H'
def C9i (A:Adr):Sp:=λvs H Q _=>∃(p dx l nn:Addr) (wh:Int) (lk:List (Key×V)) (is:List Int),vs=[.ref p,.int wh,.ref l,.ref nn]/\H p=some (.ins A.aa dx [])/\H l=some (.dK lk)/\C9t lk is/\lk.length<=1000/\H nn=some (.dK [])/\
 ∀(l' n':Addr) (H':Hp),H l'=none->H n'=none->n'≠l'->H' p=some (.ins A.aa dx [("wheel",.int wh),("lengths",.ref l'),("numbers",.ref n')])->H' l'=some (.dK lk)->H' n'=some (.dK [])->KB p H H'->Q .non H'
theorem B5c (T:Txt K mg t):FP P w mg base T.fk 1 (D1o t):=by
 refine T.fk.F.ok B6a (λvs H Q E h=> ?_) λ_ A _ s H _ Q E hr h=> ?_
 ·refine e07 h ?_;clear h;rintro p dx a b c ⟨d,e,rfl,_⟩;rfl
 ·refine e07 h ?_;clear h;rintro p dx a b c ⟨d,e,rfl,hp,k⟩;have e1:A6b "low" b (A6b "axis" a [])=([("axis",a),("low",b)]:List (Str×V)):=by rw [A1v,A1r (by decide +kernel),A1v]
  have e2:A6b "high" c ([("axis",a),("low",b)]:List (Str×V))=([("axis",a),("low",b),("high",c)]:List (Str×V)):=by rw [A1r (by decide +kernel),A1r (by decide +kernel),A1v]
  have e3:A6b "inner" d ([("axis",a),("low",b),("high",c)]:List (Str×V))=([("axis",a),("low",b),("high",c),("inner",d)]:List (Str×V)):=by rw [A1r (by decide +kernel),A1r (by decide +kernel),A1r (by decide +kernel),A1v]
  have e4:A6b "outer" e ([("axis",a),("low",b),("high",c),("inner",d)]:List (Str×V))=([("axis",a),("low",b),("high",c),("inner",d),("outer",e)]:List (Str×V)):=by rw [A1r (by decide +kernel),A1r (by decide +kernel),A1r (by decide +kernel),A1r (by decide +kernel),A1v]
  refine ⟨_,(A0c (A3i (pv 0) (pv 1) rfl)
   (A0c (A3i (pv 0) (pv 2) rfl)
   (A0c (A3i (pv 0) (pv 3) rfl)
   (A0c (A3i (pv 0) (pv 4) rfl)
   (A0e (A3i (pv 0) (pv 5) rfl)))))),_,rfl,_,rfl,p,_,dx,[],rfl,hp,T.av,T.i9,(by decide),_,rfl,_,rfl,p,_,dx,_,rfl,A0b,T.av,T.ja,(by show 1<1000;decide),?_⟩
  rw [A8o,e1];refine i1a _ rfl _ rfl p _ dx _ rfl A0b T.av T.h_ (by show 2<1000;decide) ?_;rw [A8o,e2];refine i1a _ rfl _ rfl p _ dx _ rfl A0b T.av T.fz (by show 3<1000;decide) ?_;rw [A8o,e3];refine i1a _ rfl _ rfl p _ dx _ rfl A0b T.av T.gj (by show 4<1000;decide) ?_;show Q V.non (upd (upd H p _) p _);rw [A8o,e4];exact k
theorem B8h (T:Txt K mg t):FP P w mg base T.gq 5 (C9g t):=by
 have Ga0:= @A9h P w K mg base t T 2;refine T.gq.F.ok B7v (λvs H Q E h=> ?_) λ_ A _ s H _ Q E hr h=> ?_
 ·refine e07 h ?_;clear h;rintro p dx l x ix ⟨rfl,_⟩;rfl
 ·refine e0d h ?_;clear h;rintro p dx l x ix rfl hp rp hix k;have hcn:=D2c (ix:=ix)
  refine ⟨_,(A0c (A3i (pv 0) (pv 1) rfl)
   (A0e (A3i (pv 0) (pcl Ga0 hr T.al (A0a (pv 2) A0d)) rfl))),_,rfl,_,rfl,p,_,dx,[],rfl,hp,T.gy,T.i3,(by decide),?_⟩
  refine i02 _ rfl (i0p (.ref l) (A5e ix) rfl (rp.ins hp) C9e (by lia) λv' H2 s2 rp2=> ?_);have hp2:=s2 _ _ (A0b (H:=H) (a:=p));obtain ⟨l',xs,rfl,el,rs⟩:=A7b (show Rep _ v' (.list (ix.map B3l)) from rp2);refine i11 _ rfl p _ dx _ rfl hp2 T.gy T.fw ⟨(by show 1<1000;decide),?_⟩;show Q V.non (upd H2 p (.ins t.ba dx (A6b "indexes" (.ref l') (A6b "array" (.str x) []))));rw [A1v,A1r (by decide +kernel),A1v];refine k l' _ A0b (rp2.same λb o e=> ?_) λb o hb e=> ?_
  ·obtain ⟨hb,e2⟩:=A0z e;have hb:upd H p _ b=none:=hb;have bp:b≠p:=λz=>by rw [z,A0b] at hb;cases hb
   rw [A0i bp] at hb;exact A1a hb (by rw [A0i bp];exact e2)
  rw [A0i hb];exact s2 _ _ (by rw [A0i hb];exact e)
theorem B5l (T:Txt K mg t):FP P w mg base T.fi 5 (C9i t):=by
 have Ga0:= @C6n P w K mg base t T;refine T.fi.F.ok B5r (λvs H Q E h=> ?_) λ_ A _ s H _ Q E hr h=> ?_
 ·refine e07 h ?_;clear h;rintro p dx l nn wh ⟨lk,is,rfl,_⟩;rfl
 ·refine e0g h ?_;clear h;rintro p dx l nn wh lk is rfl hp hld il ll ⟨hnn,k⟩;have f1:∀v:V,A6b "lengths" v [("wheel",.int wh)]=([("wheel",.int wh),("lengths",v)]:List (Str×V)):=λv=>by rw [A1r (by decide +kernel),A1v]
  have f2:∀u v:V,A6b "numbers" v [("wheel",.int wh),("lengths",u)]=([("wheel",.int wh),("lengths",u),("numbers",v)]:List (Str×V)):=λu v=>by rw [A1r (by decide +kernel),A1r (by decide +kernel),A1v]
  have np:∀{b:Addr} {u:HO},H b=some u->(∀C d fs,u≠.ins C d fs)->b≠p:=λe n z=>by subst z;rw [hp] at e;cases e;exact n _ _ _ rfl
  have nn':∀{b:Addr},H b=none->b≠p:=λe z=>by subst z;rw [hp] at e;cases e
  refine ⟨_,(A0c (A3i (pv 0) (pv 1) rfl)
   (A0c (A3i (pv 0) (pcl Ga0 hr T.al (A0a (pv 2) A0d)) rfl)
   (A0e (A3i (pv 0) (pcl Ga0 hr T.al (A0a (pv 3) A0d)) rfl)))),_,rfl,_,rfl,p,_,dx,[],rfl,hp,T.ac,T.aj,(by decide),?_⟩
  rw [A1v];obtain ⟨G0,hG0⟩:∃G0,G0=upd H p (.ins t.aa dx [("wheel",.int wh)]):=⟨_,rfl⟩;rw [<-hG0];have p0:G0 p=some (.ins t.aa dx [("wheel",.int wh)]):=by rw [hG0];exact A0b
  have k0:KB p H G0:=by rw [hG0];exact KB.refl.upd
  refine i02 _ rfl (.inr (i0s l lk (is.map PyData.int) rfl (k0 _ _ (np hld (by intros;intro z;cases z)) hld) (by lia) (C2g il) λl' lk' H1 hl' s1 h1 ks cp=> ?_));have ek:=C6v il ks cp;subst ek;have nl:H l'=none:=k0.free p0 hl';refine i11 _ rfl p _ dx _ rfl (s1 _ _ p0) T.ac T.am ⟨(by show 1<1000;decide),?_⟩;rw [f1];obtain ⟨G1,hG1⟩:∃G1,G1=upd H1 p (.ins t.aa dx [("wheel",.int wh),("lengths",.ref l')]):=⟨_,rfl⟩;rw [<-hG1];have p1:G1 p=some (.ins t.aa dx [("wheel",.int wh),("lengths",.ref l')]):=by rw [hG1];exact A0b
  have k1:KB p H G1:=by rw [hG1];exact (k0.trans (KB.of s1)).upd
  have gl1:G1 l'=some (.dK lk'):=by rw [hG1,A0i (nn' nl)];exact h1
  refine i02 _ rfl (.inr (i0s nn [] [] rfl (k1 _ _ (np hnn (by intros;intro z;cases z)) hnn) (by simp) .nil λn' nk' H2 hn' s2 h2 ks2 _=> ?_))
  have en:nk'=[]:=by cases nk' with
   | nil=>rfl
   | cons a r=>simp at ks2
  subst en;have n0:H n'=none:=k1.free p1 hn';have nl':n'≠l':=λz=>by subst z;rw [gl1] at hn';cases hn'
  refine i11 _ rfl p _ dx _ rfl (s2 _ _ p1) T.ac T.ag ⟨(by show 2<1000;decide),?_⟩;show Q V.non (upd H2 p _);rw [f2];exact k l' n' _ nl n0 nl' A0b (by rw [A0i (nn' nl)];exact s2 _ _ gl1) (by rw [A0i (nn' n0)];exact h2) (k1.trans (KB.of s2)).upd
def cD (cs:List (List Int×Int)):List (List Key×V):=cs.map λc=>(c.1.map Sum.inl,V.int c.2)
abbrev AD (M:List Addr) (H:Hp) (nk:List (Key×V)) (ns:List (Str×List (List Int×Int))):Prop:=Paired (λ(p:Key×V) (e:Str×List (List Int×Int))=>p.1=Sum.inr e.1/\∃b,p.2= .ref b/\b∈M/\H b=some (.dT (cD e.2))) nk ns
def A5h (ms:List (Str×List (List Int×Int))) (a:Str) (cs:List (List Int×Int)):List (Str×List (List Int×Int)):=ms++(if cs=[] then [] else [(a,cs)])
theorem C9n {ws:List (List Key×V)} {k:List Key} (n:∀p∈ws,p.1≠k) (u:V):A4l ws k u=ws++[(k,u)]:=by
 unfold A4l;rw [Z0t];intro h;obtain ⟨p,hp,e⟩:=List.any_eq_true.mp h;exact n p hp (of_decide_eq_true e)
theorem B1g {k:Key} (n:∀p∈ws,p.1≠k) (u:V):A4l ws k u=ws++[(k,u)]:=by
 unfold A4l;rw [Z0t];intro h;obtain ⟨p,hp,e⟩:=List.any_eq_true.mp h;exact n p hp (of_decide_eq_true e)
theorem C0a:∀{a b:List Int},a.map (Sum.inl:Int->Key)=b.map Sum.inl->a=b
 | [],[],_=>rfl
 | [],_::_,h=>by simp at h
 | _::_,[],h=>by simp at h
 | x::a,y::b,h=>by
  rw [Z0p,Z0p] at h;injection h with h1 h2;injection h1 with h1;rw [h1,C0a h2]
theorem D0o {n:Int} (h:c∉cs.map (·.1)):A4l (cD cs) (c.map Sum.inl) (.int n)=cD (cs++[(c,n)]):=by
 rw [C9n (λp hp z=> ?_)]
 ·unfold cD;rw [Z0s];rfl
 ·obtain ⟨e,he,rfl⟩:=Z2c.mp hp;exact h (Z2c.mpr (i02 e he (C0a z)))
theorem D1y {M:List Addr} {a:Str} (h:AD M H nk ns) (n:a∉ns.map (·.1)):∀p∈nk,p.1≠Sum.inr a:=λp hp z=>by
 obtain ⟨i,hi⟩:=List.getElem?_of_mem hp;obtain ⟨e,he,ek,_⟩:=B1e h hi;have ek:p.1=Sum.inr e.1:=ek;rw [z] at ek;injection ek with ek;exact n (Z2c.mpr (i02 e (Z13 he) ek.symm))
theorem D3d {k:Key} (h:∀p∈kvs,p.1≠k):A2r kvs k=none:=by
 unfold A2r;rw [List.find?_eq_none.mpr λp hp z=>h p hp (of_decide_eq_true z)];rfl
theorem C9p {k:Key} (h:∀p∈kvs,p.1≠k):A2r (kvs++[(k,v)]) k=some v:=by
 induction kvs with
 | nil=>exact A2c rfl
 | cons p r ih =>
  rw [List.cons_append,A1x (h p (.head _))];exact ih λq hq=>h q (.tail _ hq)
theorem AD.imp {M M':List Addr} (h:AD M H nk ns) (f:∀b kvs,b∈M->H b=some (.dT kvs)->b∈M'/\H' b=some (.dT kvs)):AD M' H' nk ns :=
 Paired.mapP h λ_ _ ⟨e1,b,e2,m,hb⟩=>(i0a e1 b e2 ((f _ _ m hb).1) ((f _ _ m hb).2))
def D8w (A:Adr):Sp:=λvs H Q _=>∃(wo dx l nn cr:Addr) (M:List Addr) (wh:Int) (nk:List (Key×V)) (ms:List (Str×List (List Int×Int))) (a:Str) (cs:List (List Int×Int)) (c:List Int) (n:Int),vs=[.ref wo,.str a,.ref cr,.int n]/\
 H wo=some (.ins A.aa dx [("wheel",.int wh),("lengths",.ref l),("numbers",.ref nn)])/\H nn=some (.dK nk)/\AD M H nk (A5h ms a cs)/\ms.length<=100/\a∉ms.map (·.1)/\H cr=some (.tup (c.map V.int))/\c∉cs.map (·.1)/\cs.length<=100000/\
 (nk.map (·.2)).Nodup/\(∀b∈M,∃kvs,H b=some (.dT kvs))/\
 ∀(M':List Addr) (nk':List (Key×V)) (H':Hp),H' nn=some (.dK nk')->AD M' H' nk' (A5h ms a (cs++[(c,n)]))->(∀b o,b≠nn->b∉M->H b=some o->H' b=some o)->(∀b∈M',b∈M\/H b=none)->(nk'.map (·.2)).Nodup->(∀b∈M',∃kvs,H' b=some (.dT kvs))->Q .non H'
theorem D2f {α β:Type} {F:α->β->Prop}:∀{l:List α} {m:List β} {e:β},Paired F l (m++[e])->∃l0 x,l=l0++[x]/\Paired F l0 m/\F x e
 | _,[],e,h=>by
  cases h with
  | cons r t=>cases t;exact i0f [] _ rfl .nil r
 | _,y::m,e,h=>by
  cases h with
  | cons r t =>
   obtain ⟨l0,x,rfl,h1,h2⟩:=D2f t;exact i0f (_::l0) x rfl (.cons r h1) h2
theorem E2d {α β:Type} {F:α->β->Prop} {G:α->Prop}:∀{l:List α} {m:List β},Paired F l m->(∀x∈l,G x)->Paired (λx y=>F x y/\G x) l m
 | _,_,.nil,_=> .nil
 | _,_,.cons r t,h=> .cons ⟨r,h _ (.head _)⟩ (E2d t λx hx=>h x (.tail _ hx))
theorem D4u {α:Type} {xs:List α} {y:α} (h:xs.Nodup) (n:y∉xs):(xs++[y]).Nodup :=
 List.pairwise_append.mpr (i00 h (List.pairwise_singleton ..) λa ha b hb z=>n (by rw [Z0w.mp hb] at z;rw [<-z];exact ha))
theorem A5t (T:Txt K mg t):FP P w mg base T.aw 1 (D8w t):=by
 refine T.aw.F.ok A8v (λvs H Q E h=> ?_) λ_ A _ s H _ Q E hr h=> ?_
 ·refine e0h h ?_;clear h;rintro wo dx l nn cr M wh nk ms a cs c ⟨n,rfl,_⟩;rfl
 ·refine e0h h ?_;clear h;rintro wo dx l nn cr M wh nk ms a cs c ⟨n,rfl,hw,hn,ad,lms,na,hcr,nc,lcs,nd,dm,k⟩;have hu:=A4z hr
  refine ⟨_,(A3s (A1o (D2l (B7i hu (pv 1) (A1t (pv 0) rfl)) (by with_unfolding_all rfl))
    (A0e (A3a hu (A1t (pv 0) rfl) (pv 1) C8y rfl))
    A0r)
   (A0e (A3a hu (A0p hu (A1t (pv 0) rfl) (pv 1)) (pv 2) (pv 3) rfl))),?_⟩
  refine i02 (λZ H1=>∃(M1:List Addr) (nk1:List (Key×V)),Z=[Sro wo,Sso a,Sro cr,Sio n]/\H1 nn=some (.dK nk1)/\AD M1 H1 nk1 (ms++[(a,cs)])/\(nk1.map (·.2)).Nodup/\(∀b o,b≠nn->H b=some o->H1 b=some o)/\(∀b∈M1,b∈M\/H b=none)/\∀b∈M1,∃kvs,H1 b=some (.dT kvs)) ?_ ?_
  ·by_cases he:cs=[]
   ·subst he;have ad:AD M H nk ms:=by unfold A5h at ad;rw [Z12 rfl,Z0u] at ad;exact ad
    have kn:=D1y ad na;have lnk:=Paired.length ad;have g:A5a H nn (.str a) none:= .inl (i0f nk (Sum.inr a) (.inl hn) rfl ((D3d kn).symm));refine i1d _ rfl _ rfl wo _ dx _ _ rfl hw T.ac T.ag (by walk_at "lk") ⟨nn,(i0k _ rfl g _ rfl (C9b ?_))⟩;refine λp hp=> ?_;have s1:A0s H (upd H p (.dT [])):=A0f hp;refine i17 _ rfl wo _ dx _ _ rfl (s1 _ _ hw) T.ac T.ag (by walk_at "lk") (i0o _ rfl nn _ rfl (B0z.k (k:=Sum.inr a) (s1 _ _ hn) (A1d (by lia))) ?_);rw [B1g kn];have pn:p≠nn:=λz=>by subst z;rw [hn] at hp;cases hp
    refine i0r (p::M) (nk++[(Sum.inr a,.ref p)]) rfl A0b ?_ ?_ (λb o hb e=>by rw [A0i hb];exact s1 _ _ e) ⟨λb hb=> ?_,λb hb=> ?_⟩
    ·refine B3s (ad.imp λb kvs m e=>⟨.tail _ m,by rw [A0i (A1p e hn (by intro z;cases z))];exact s1 _ _ e⟩) (.cons (i0a rfl p rfl (.head _) ?_) .nil);rw [A0i pn];exact A0b
    ·rw [Z0s];refine D4u nd λm=> ?_;obtain ⟨q,hq,e⟩:=Z2c.mp m;obtain ⟨i,hi⟩:=List.getElem?_of_mem hq;refine e00 (B1e ad hi) ?_;rintro e' _ _ ⟨b,eb,_,hb⟩;have eb:q.2= .ref b:=eb;rw [eb] at e;injection e with e;rw [e,hp] at hb;cases hb
    ·rcases Z0e.mp hb with rfl | hb
     ·exact .inr hp
     ·exact .inl hb
    ·rcases Z0e.mp hb with rfl | hb
     ·exact ⟨[],by rw [A0i pn];exact A0b⟩
     ·obtain ⟨kvs,e⟩:=dm b hb;exact ⟨kvs,by rw [A0i (A1p e hn (by intro z;cases z))];exact s1 _ _ e⟩
   ·have ad:AD M H nk (ms++[(a,cs)]):=by unfold A5h at ad;rw [Z0t he] at ad;exact ad
    refine e00 (A5o ad (i:=ms.length) (y:=(a,cs)) (by rw [Z1l (Z09 _),Nat.sub_self];rfl)) ?_;rintro ⟨k',v⟩ hkv ek ⟨b,eb,mb,hb⟩;have ek:k'=Sum.inr a:=ek;subst ek
    have hv:∃v',A2r nk (Sum.inr a)=some v':=by
     cases hval:A2r nk (Sum.inr a) with
     | some v'=>exact ⟨v',rfl⟩
     | none =>
      exfalso;unfold A2r at hval;have:=List.find?_eq_none.mp (Option.map_eq_none_iff.mp hval) _ (Z13 hkv);exact this (Z20 rfl)
    obtain ⟨v',hv'⟩:=hv;have g:A5a H nn (.str a) (some v'):= .inl (i0f nk (Sum.inr a) (.inl hn) rfl hv'.symm);exact i1d _ rfl _ rfl wo _ dx _ _ rfl hw T.ac T.ag (by walk_at "lk") ⟨nn,(i0k _ rfl g _ rfl (A7j (i0r M nk rfl hn ad nd (λb o _ e=>e) ⟨λb hb=> .inl hb,dm⟩)))⟩
  rintro Z H1 zz;refine e06 zz ?_;clear zz;rintro M1 nk1 rfl hn1 ad1 ⟨nd1,fr,sub,dm1⟩;obtain ⟨nk0,⟨k',v⟩,rfl,ad0,ek,b,eb,mb,hb⟩:=D2f ad1;have ek:k'=Sum.inr a:=ek;have eb:v= .ref b:=eb;subst ek eb;have hb:H1 b=some (.dT (cD cs)):=hb;have g:A5a H1 nn (.str a) (some (.ref b)):= .inl (i0f _ (Sum.inr a) (.inl hn1) rfl ((C9p (D1y ad0 na)).symm));have wn:wo≠nn:=A1p hw hn (by intro z;cases z);have cn:cr≠nn:=A1p hcr hn (by intro z;cases z);have hw1:=fr _ _ wn hw;have hcr1:=fr _ _ cn hcr;rw [B6q] at hcr1;have bn:b≠nn:=A1p hb hn1 (by intro z;cases z);refine i1d _ rfl _ rfl wo _ dx _ _ rfl hw1 T.ac T.ag (by walk_at "lk") (i0o _ rfl nn _ rfl g (i0o _ rfl b _ rfl (B0z.t (k:=c.map Sum.inl) hb hcr1 (A1d (by have:(cD cs).length=cs.length:=Z08 ..;lia))) ?_));rw [D0o nc];have ef:A5h ms a (cs++[(c,n)])=ms++[(a,cs++[(c,n)])]:=by unfold A5h;rw [Z0t (by simp)]
  refine k M1 _ _ (by rw [A0i bn.symm];exact hn1) ?_ (λb' o h1 h2 e=> ?_) sub nd1 λb' m=> ?_
  ·rw [ef];refine B3s (Paired.mapP (F:=λ(p:Key×V) (e:Str×List (List Int×Int))=>(p.1=Sum.inr e.1/\∃b,p.2= .ref b/\b∈M1/\H1 b=some (.dT (cD e.2)))/\p.2≠.ref b) ?_ λ_ _ ⟨⟨e1,b2,e2,m2,h2⟩,ne⟩=>(i0a e1 b2 e2 m2 (by rw [A0i (λz=>ne (by rw [e2,z]))];exact h2))) (.cons (i0a rfl b rfl mb A0b) .nil);rw [Z0s] at nd1;have nb:∀p∈nk0,p.2≠V.ref b:=λp hp z=>(List.pairwise_append.mp nd1).2.2 _ (Z2c.mpr (i02 p hp rfl)) (V.ref b) (.head _) z;exact E2d ad0 nb
  ·have ne:b'≠b:=λz=>by
    subst z;rcases sub _ mb with m | m
    ·exact h2 m
    ·rw [m] at e;cases e
   rw [A0i ne];exact fr _ _ h1 e
  ·by_cases z:b'=b
   ·subst z;exact ⟨_,A0b⟩
   ·obtain ⟨kvs,e⟩:=dm1 b' m;exact ⟨kvs,by rw [A0i z];exact e⟩
abbrev B1k (S:Addr->Prop) (H:Hp) (rk:List (Key×V)) (ns:List (Str×List (List Int×Int))):Prop:=Paired (λ(p:Key×V) (e:Str×List (List Int×Int))=>p.1=Sum.inr e.1/\∃b,p.2= .ref b/\S b/\H b=some (.lst (e.2.map λc=>V.int c.2))) rk ns
theorem B1k.imp (h:B1k S H rk ns) (f:∀b xs,S b->H b=some (.lst xs)->S' b/\H' b=some (.lst xs)):B1k S' H' rk ns :=
 Paired.mapP h λ_ _ ⟨e1,b,e2,m,hb⟩=>(i0a e1 b e2 ((f _ _ m hb).1) ((f _ _ m hb).2))
def D3f (A:Adr):Sp:=λvs H Q _=>∃(wo dx l nn:Addr) (M:List Addr) (wh:Int) (nk:List (Key×V)) (ns:List (Str×List (List Int×Int))),vs=[.ref wo]/\H wo=some (.ins A.aa dx [("wheel",.int wh),("lengths",.ref l),("numbers",.ref nn)])/\H nn=some (.dK nk)/\AD M H nk ns/\(ns.map (·.1)).Nodup/\ns.length<=100/\
 ∀(r:Addr) (rk:List (Key×V)) (H':Hp),H r=none->A0s H H'->H' r=some (.dK rk)->B1k (λb=>H b=none) H' rk ns->Q (.ref r) H'
theorem C3n (T:Txt K mg t):FO P w base T.jk 1 (D3f t):=by
 refine T.jk.F.ok A8b (λvs H Q E h=> ?_) λ_ A _ s H _ Q E hr h=> ?_
 ·refine e07 h ?_;clear h;rintro wo dx l nn M ⟨wh,nk,ns,rfl,_⟩;rfl
 ·refine e07 h ?_;clear h;rintro wo dx l nn M ⟨wh,nk,ns,rfl,hw,hn,ad,nd,lns,k⟩;have hu:=A4z hr;have lnk:=Paired.length ad
  refine ⟨_,(A0c (A0l (i:=1) A8b.nd A2y)
   (A0c (A2g (B4s (B3z PySem.F.plainAttrs_dict PySem.F.slot_dict_items PySem.F.type_dict_items B6k (A1t (pv 0) rfl))) (A4y (n:=2) rfl (A1b (A0m (i:=2) A8b.nd) (A1b (A0m (i:=3) A8b.nd) A3m)))
    (A0e (A3a hu (pv 1) (pv 2) (A2a (C2z rfl) (by rfl) T.cv Z1o (A0a (B3z PySem.F.plainAttrs_dict PySem.F.slot_dict_values PySem.F.type_dict_values C4i (pv 3)) A0d)) rfl)))
   (B2b (A0e (A0o (pv 1)))))),?_⟩
  refine λr hr0=> ?_;have s1:A0s H (upd H r (.dK [])):=A0f hr0;have nr:nn≠r:=A0h hn hr0;refine i17 _ rfl wo _ dx _ (.ref nn) rfl (s1 _ _ hw) T.ac T.ag (by walk_at "lk") ⟨.inr (.inr (.inl ⟨rfl,.inl ⟨_,s1 _ _ hn⟩⟩)),(i0p nn _ rfl rfl (s1 _ _ hn) (.inl ⟨_,rfl⟩) λvw hvw=> ?_)⟩;have s2:A0s (upd H r (.dK [])) (upd (upd H r (.dK [])) vw (B8m vw nn)):=A0f hvw;refine i0q vw nn _ rfl A0b (s2 _ _ (s1 _ _ hn)) (.inl (i02 nk rfl λo=> ?_));have hv0:H vw=none:=s1.free hvw;have vr:r≠vw:=A0h A0b hvw
  have g0:A0s (upd H nn (.frz o (.dK nk))) (upd (upd (upd H r (.dK [])) vw (B8m vw nn)) nn (.frz o (.dK nk))):=λb v e=>by
   by_cases hb:b=nn
   ·subst hb;rw [A0b] at e⊢;exact e
   ·rw [A0i hb] at e⊢;exact s2 _ _ (s1 _ _ e)
  have hrG:upd H nn (.frz o (.dK nk)) r=none:=by rw [A0i nr.symm];exact hr0
  have nd0:∀b,upd H nn (.frz o (.dK nk)) b=none->H b=none:=λb e=>by
   by_cases hb:b=nn
   ·subst hb;rw [A0b] at e;cases e
   ·rw [A0i hb] at e;exact e
  refine B1s (L:=nk.map λq=>(kV q.1,q.2)) (λi Z H4=>∃(o2 o3:Option V) (ws:List (Key×V)),Z=[Sro wo,Sro r,o2,o3]/\A0s (upd H nn (.frz o (.dK nk))) H4/\H4 r=some (.dK ws)/\B1k (λb=>H b=none) H4 ws (ns.take i))
   (i0q none none [] rfl g0 (by rw [A0i nr.symm,A0i vr,A0b]) .nil) (λi Z H4 zq=>by obtain ⟨_,_,_,_,s4,_⟩:=zq;exact s4 _ _ A0b) ?_ ?_
  ·rintro i kx vx q Z H4 hx hq zz;refine e08 zz ?_;clear zz;rintro o2 o3 ws rfl s4 h4 rw4;rw [Z1z] at hx;obtain ⟨⟨k',v⟩,hk,e⟩:=Z0i.mp hx;cases e;refine e00 (B1e ad hk) ?_;rintro x hxd ek ⟨b,eb,mb,hb⟩;have ek:k'=Sum.inr x.1:=ek;have eb:v= .ref b:=eb;subst ek eb;have sq:A0s H4 (upd H4 q (.tup [kV (Sum.inr x.1),.ref b])):=A0f hq;have hb4:H4 b=some (.dT (cD x.2)):=s4 _ _ (by rw [A0i (A1p hb hn (by intro z;cases z))];exact hb);have hqq:upd H4 q (.tup [kV (Sum.inr x.1),.ref b]) q=some (.tup [kV (Sum.inr x.1),.ref b]):=A0b;generalize upd H4 q (.tup [kV (Sum.inr x.1),.ref b])=H5 at sq hqq;refine i18 q _ rfl (SqT.of hqq) rfl _ _ rfl _ _ rfl rfl (i06 _ rfl (.inr (.inr (.inl ⟨rfl,.inr ⟨_,sq _ _ hb4⟩⟩))) (i0m b _ rfl rfl (.inr (i02 _ (.inl (sq _ _ hb4)) rfl)) λvv hvv=> ?_));have sv:A0s H5 (upd H5 vv (B5d vv b)):=A0f hvv;have hvv':upd H5 vv (B5d vv b) vv=some (B5d vv b):=A0b;generalize upd H5 vv (B5d vv b)=H6 at sv hvv';refine i0q vv b _ rfl hvv' (.inr (i02 _ (.inl (sv _ _ (sq _ _ hb4))) rfl)) λll hll=> ?_;have e2:(cD x.2).map (·.2)=x.2.map λc=>V.int c.2:=by unfold cD;rw [List.map_map];rfl
   rw [e2];have sl:A0s H6 (upd H6 ll (.lst (x.2.map λc=>V.int c.2))):=A0f hll;have hll':upd H6 ll (.lst (x.2.map λc=>V.int c.2)) ll=some (.lst (x.2.map λc=>V.int c.2)):=A0b;generalize upd H6 ll (.lst (x.2.map λc=>V.int c.2))=H7 at sl hll';have s47:=sq.trans (sv.trans sl);have h7:=s47 _ _ h4;have lws:=Paired.length rw4;rw [Z0x] at lws;refine i0v _ rfl _ rfl r _ rfl (B0z.k (k:=Sum.inr x.1) h7 (A1d (by lia))) ?_
   have kn:∀p∈ws,p.1≠Sum.inr x.1:=λp hp z=>by
    obtain ⟨j,hj⟩:=List.getElem?_of_mem hp;obtain ⟨e,he,ek,_⟩:=B1e rw4 hj;have ek:p.1=Sum.inr e.1:=ek;rw [z] at ek;injection ek with ek
    have hji:j<i:=by
     have:=(Z03.mp he).1;rw [Z0x] at this
     lia
    rw [List.getElem?_take,Z12 hji] at he;have a1:(ns.map (·.1))[j]? =some x.1:=by rw [Z1z,he,Option.map_some,ek]
    have a2:(ns.map (·.1))[i]? =some x.1:=by rw [Z1z,hxd];rfl
    have b1:=(Z03.mp a1).1;have:=(List.getElem?_inj b1 nd).mp (a1.trans a2.symm)
    lia
   rw [B1g kn];have lr:ll≠r:=λz=>by subst z;rw [sv _ _ (sq _ _ h4)] at hll;cases hll
   refine i0q _ _ _ rfl (A0q (s4.trans s47) hrG) A0b ?_;rw [Z14,hxd];refine B3s (rw4.imp λc ys m e=>⟨m,by rw [A0i (A1p e h4 (by intro z;cases z))];exact s47 _ _ e⟩) (.cons (i0a rfl ll rfl (nd0 _ (s4.free (sq.free (sv.free hll)))) (by rw [A0i lr];exact hll')) .nil)
  ·rintro Z H4 zz;refine e08 zz ?_;clear zz;rintro o2 o3 ws rfl s4 h4 rw4;rw [Z08,lnk,Z18] at rw4;have hd4:H4 nn=some (.frz o (.dK nk)):=s4 _ _ A0b;refine i0g nn o _ hd4 (i09 (.inl ⟨_,rfl⟩) (λo' u' z=>by have z:H nn=some (.frz o' u'):=z;rw [hn] at z;cases z) _ rfl ?_);exact k r ws _ hr0 (A6j hn s4) (by rw [A0i nr.symm];exact h4) (rw4.imp λb xs m e=>⟨m,by rw [A0i (λz=>by subst z;have m:H _=none:=m;rw [hn] at m;cases m)];exact e⟩)
abbrev D9u (H:Hp) (ax:List (Str×Int)) (tk:List (Key×V)) (tb:List (Str×List Str)):Prop:=Paired (λ(p:Key×V) (e:Str×List Str)=>p.1=Sum.inr e.1/\∃(b:Addr) (ns ls:List Int),p.2= .ref b/\H b=some (.lst (ns.map V.int))/\Sz (A1e ax) e.2 ls/\A8q ls/\ns.length=(A0t ls).length) tk tb
theorem B9p {H:Hp} {ax:List (Str×Int)}:∀{tk:List (Key×V)} {tb:List (Str×List Str)},D9u H ax tk tb->tk.map (·.1)=tb.map λe=>(Sum.inr e.1:Key)
 | _,_,.nil=>rfl
 | _,_,.cons r t=>by rw [Z0p,Z0p,B9p t,r.1]
theorem A7r {k:Key}:(kvs.map (·.1)).Nodup->kvs[i]? =some (k,v)->A2r kvs k=some v:=by
 induction kvs generalizing i with
 | nil=>intro _ h;simp at h
 | cons p r ih =>
  intro n h;have n:(p.1::r.map (·.1)).Nodup:=n;obtain ⟨n1,n2⟩:=Z15.mp n
  cases i with
  | zero =>
   simp at h;subst h;exact A2c rfl
  | succ j =>
   have h:r[j]? =some (k,v):=by simpa using h
   rw [A1x (λe=>n1 (by rw [e];exact Z2c.mpr (i02 _ (Z13 h) rfl)))];exact ih n2 h
theorem B6l (h:D9u H ax tk tb) (n:(tb.map (·.1)).Nodup):(tk.map (·.1)).Nodup:=by
 rw [B9p h,show (tb.map λe=>(Sum.inr e.1:Key))=(tb.map (·.1)).map (Sum.inr:Str->Key) by rw [List.map_map];rfl];exact List.Pairwise.map _ (λa b h z=>h (by injection z)) n
def D3v (A:Adr):Sp:=λvs H Q _=>∃(p d:Addr) (wh:Int) (ax:List (Str×Int)) (tb:List (Str×List Str)) (ls:List V) (os:List Str) (tk:List (Key×V)),vs=[.ref p,.ref d]/\D1k A H p wh ax tb ls os/\(ax.map (·.1)).Nodup/\(tb.map (·.1)).Nodup/\tb.length<=6/\H d=some (.dK tk)/\D9u H ax tk tb/\∀H',A0s H H'->Q .non H'
theorem B3h (T:Txt K mg t):FO P w base T.dy 4 (D3v t):=by
 have Gb0:= @B3e P w K mg base t T;have Gb1:= @A9f P w K mg base t T;have Gb2:= @A6c P w K mg base t T;refine T.dy.F.ok A4t (λvs H Q E h=> ?_) λ_ A _ s H _ Q E hr h=> ?_
 ·refine e07 h ?_;clear h;rintro p d wh ax tb ⟨ls,os,tk,rfl,_⟩;rfl
 ·refine e07 h ?_;clear h;rintro p d wh ax tb ⟨ls,os,tk,rfl,pr,ndx,ndt,l6,hd,ok,k⟩;have hu:=A4z hr;have ltk:=Paired.length ok
  refine ⟨_,(A0c (A1o (A0w (C8z hr.units0) (A2a (C0v rfl) (by rfl) T.qh PyProof.Rows.boot_set (A0a (pv 1) A0d)) (A2a (C0v rfl) (by rfl) T.qh PyProof.Rows.boot_set (A0a (pcl Gb0 hr T.du (A0a (pv 0) A0d)) A0d)) (A1f _))
    (A0e C2l)
    A0r)
   (A0c (A0l (i:=2) A4t.nd (pcl Gb1 hr T.c7 (A0a (pv 0) A0d)))
   (A0e (A2g (A2m (A1t (pv 0) rfl)) (A4y (n:=2) rfl (A1b (A0m (i:=3) A4t.nd) (A1b (A0m (i:=4) A4t.nd) A3m)))
    (A0e (A1o (A0w C3w (A0y A1c (by rfl) T.bd Z0r (A0a (A0p hu (pv 1) (pv 3)) A0d)) (A0y A1c (by rfl) T.bd Z0r (A0a (pcl Gb2 hr T.bf (A0a (pv 4) (A0a (pv 2) A0d))) A0d)) (A1f _))
     (A0e C2l)
     A0r)))))),?_⟩
  refine i0o _ rfl d (tk.map (·.1)) rfl (.inr (i06 tk (.inl hd) (by lia) rfl)) λp1 hp1=> ?_;have s1:A0s H (upd H p1 (C4l P w p1 (A8z (A5d (tk.map (·.1)))) (A5d (tk.map (·.1))).length)):=A0f hp1;have h1:upd H p1 (C4l P w p1 (A8z (A5d (tk.map (·.1)))) (A5d (tk.map (·.1))).length) p1=some (C4l P w p1 (A8z (A5d (tk.map (·.1)))) (A5d (tk.map (·.1))).length):=A0b;refine i02 _ rfl (i0h p wh ax tb (i0m ls os rfl (pr.same s1) (by lia) λq H2 hq s2 hq2=> ?_));have ek:(tb.map (·.1)).map V.str=(tk.map (·.1)).map kV:=by rw [B9p ok,List.map_map,List.map_map];rfl
  rw [ek] at hq2;refine i0f q (tk.map (·.1)) rfl (.inl ⟨SqL.of hq2,by rw [Z08];lia⟩) λp2 hp2=> ?_;have s3:A0s H2 (upd H2 p2 (C4l P w p2 (A8z (A5d (tk.map (·.1)))) (A5d (tk.map (·.1))).length)):=A0f hp2;refine i03 p1 p2 (i12 _ _ _ _ true rfl rfl (s3 _ _ (s2 _ _ h1)) A0b ⟨λ_=>⟨rfl,λ_ z=>z⟩,λ_=>rfl⟩ (i02 _ rfl (A7j ?_)));have s03:=s1.trans (s2.trans s3);refine i02 _ rfl (i0h p wh ax tb (i0m ls os rfl (pr.same s03) ndx λld hld=> ?_));have s4:=s03.trans (A0f (o:= .dK (A1e ax)) hld);have hld4:upd (upd H2 p2 (C4l P w p2 (A8z (A5d (tk.map (·.1)))) (A5d (tk.map (·.1))).length)) ld (.dK (A1e ax)) ld=some (.dK (A1e ax)):=A0b;refine e0d ((pr.same s4).ob) λdx a tt l o e ra rt hl ho=>?_;obtain ⟨t2,xs,et,hx,rs⟩:=A7b (show Rep _ (.ref tt) (.list (tb.map C4s)) from rt);cases et;refine i17 _ rfl p _ dx _ (.ref tt) rfl e T.ao T.a_ (by walk_at "lk") (i06 tt rfl ⟨_,SqL.of hx⟩ ?_);refine A3k (K:=K) (a:=tt) (xs:=xs) (λi Z H5=>∃(o3 o4:Option V),Z=[Sro p,Sro d,Sro ld,o3,o4]/\A0s (upd (upd H2 p2 (C4l P w p2 (A8z (A5d (tk.map (·.1)))) (A5d (tk.map (·.1))).length)) ld (.dK (A1e ax))) H5) (i07 none none rfl (A0s.refl _)) (λi Z H5 _ zq=>by obtain ⟨_,_,_,s5⟩:=zq;exact SqL.of (s5 _ _ hx)) ?_ ?_
  ·rintro i x Z H5 hi ⟨o3,o4,rfl,s5⟩;obtain ⟨en,he,rx⟩:=B9q rs hi;obtain ⟨b,c,rfl,eb,ec⟩:=D3b rx;refine e00 (A5o ok he) ?_;rintro ⟨k',v⟩ hkv ek ⟨tb',ns,lsz,ev,hb,sz,good,len⟩;have ek:k'=Sum.inr en.1:=ek;have ev:v= .ref tb':=ev;subst ek ev;have s05:=s4.trans s5;have g:A5a H5 d (.str en.1) (some (.ref tb')):= .inl (i0f tk (Sum.inr en.1) (.inl (s05 _ _ hd)) rfl ((A7r (B6l ok ndt) hkv).symm));refine i18 b _ rfl (SqT.of (s5 _ _ eb)) rfl _ _ rfl _ _ rfl rfl ?_;refine i0v _ rfl _ rfl d _ rfl g (i0f tb' _ rfl (.inl (SqL.of (s05 _ _ hb))) (i1d _ rfl _ rfl c ld en.2 (A1e ax) lsz rfl (s5 _ _ ec) (s5 _ _ hld4) sz good λq H6 hq s6 ct=> ?_));obtain ⟨ps,hq6,tp⟩:=ct.ex;have lps:=tp.len;exact i07 q _ rfl (i09 (.inl (SqL.of hq6)) rfl _ rfl (D8v (by rw [Z08,Z08,len,lps]) (i07 _ _ rfl (s5.trans s6))))
  ·rintro Z H5 ⟨o3,o4,rfl,s5⟩;exact k _ (s4.trans s5)
theorem A5v.ne {xs ys:List Int} (h:A5v xs ys):xs≠ys:=λz=>by
 subst z;refine e08 h λj x y h1 h2 h3 _=>?_;clear h;rw [h1] at h2;cases h2
 lia
theorem A7c (ls:List Int):(A0t ls).Nodup:=(B0n ls).imp λh=>h.ne
abbrev TD:=(Str×List Str)×List Int×List Int
def A5y (wh:Int) (e:TD):Str×List (List Int×Int):=(e.1.1,(A0t e.2.1).zip (e.2.2.map (· %wh)))
abbrev TbX (H:Hp) (ax:List (Str×Int)) (tk:List (Key×V)) (td:List TD):Prop:=Paired (λ(p:Key×V) (e:TD)=>p.1=Sum.inr e.1.1/\∃b:Addr,p.2= .ref b/\H b=some (.lst (e.2.2.map V.int))/\Sz (A1e ax) e.1.2 e.2.1/\A8q e.2.1/\e.2.2.length=(A0t e.2.1).length) tk td
theorem TbX.same (h:TbX H ax tk td) (s:A0s H H'):TbX H' ax tk td :=
 Paired.mapP h λ_ _ ⟨e1,b,e2,hb,r⟩=>(i0a e1 b e2 (s _ _ hb) r)
theorem TbX.ok {H:Hp} {ax:List (Str×Int)}:∀{tk:List (Key×V)} {td:List TD},TbX H ax tk td->D9u H ax tk (td.map (·.1))
 | _,_,.nil=> .nil
 | _,_,.cons ⟨e1,b,e2,hb,sz,g,l⟩ t=> .cons ⟨e1,(i0s b _ _ e2 hb sz g l)⟩ (TbX.ok t)
def E1a (A:Adr):Sp:=λvs H Q _=>∃(p d wo dx l nn:Addr) (wh:Int) (ax:List (Str×Int)) (td:List TD) (ls:List V) (os:List Str) (tk:List (Key×V)),vs=[.ref p,.ref d,.ref wo]/\D1k A H p wh ax (td.map (·.1)) ls os/\((td.map (·.1)).map (·.1)).Nodup/\td.length<=6/\H d=some (.dK tk)/\d≠nn/\TbX H ax tk td/\
 H wo=some (.ins A.aa dx [("wheel",.int wh),("lengths",.ref l),("numbers",.ref nn)])/\H l=some (.dK (A1e ax))/\l≠nn/\H nn=some (.dK [])/\0<wh/\
 ∀(M:List Addr) (nk:List (Key×V)) (H':Hp),H' nn=some (.dK nk)->AD M H' nk (td.map (A5y wh))->(nk.map (·.2)).Nodup->KB nn H H'->(∀b∈M,H b=none/\∃kvs,H' b=some (.dT kvs))->Q .non H'
theorem B4q (T:Txt K mg t):FO P w base T.fm 4 (E1a t):=by
 have Gb2:= @A6c P w K mg base t T;have Gb3:= @A5t P w K mg base t T;refine T.fm.F.ok A4i (λvs H Q E h=> ?_) λ_ A _ s H _ Q E hr h=> ?_
 ·refine e0h h ?_;clear h;rintro p d wo dx l nn wh ax td ls os tk ⟨rfl,_⟩;rfl
 ·refine e0h h ?_;clear h;rintro p d wo dx l nn wh ax td ls os tk ⟨rfl,pr,ndt,l6,hd,dn,ok,hw,hl,ln,hn,wh0,k⟩;have hu:=A4z hr;refine e0d pr.ob λdp a tt ll o e ra rt _ _=>?_;obtain ⟨t2,xs,et,hx,rs⟩:=A7b (show Rep H (.ref tt) (.list ((td.map (·.1)).map C4s)) from rt);cases et;have nk':∀{b:Addr} {u:HO},H b=some u->(∀kvs,u≠.dK kvs)->b≠nn:=λe n=>A1p e hn (n _);have wn:=nk' hw (by intro y z;cases z)
  refine ⟨_,(A0e (A2g (A2m (A1t (pv 0) rfl)) (A4y (n:=2) rfl (A1b (A0m (i:=3) A4i.nd) (A1b (A0m (i:=4) A4i.nd) A3m)))
    (A0e (A2g (B1c rfl T.nW (A0a (pcl Gb2 hr T.bf (A0a (pv 4) (A0a (A1t (pv 2) rfl) A0d))) (A0a (A0p hu (pv 1) (pv 3)) A0d))) (A4y (n:=2) rfl (A1b (A0m (i:=5) A4i.nd) (A1b (A0m (i:=6) A4i.nd) A3m)))
     (A0e (A3t (B2d (pv 2) T.ac T.b_ Gb3 (hr.mono (by lia)) T.aw.b .nil B6t (A0a (pv 3) (A0a (pv 5) (A0a (A0n A1i (pv 6) (A1t (pv 2) rfl)) A0d)))))))))),?_⟩
  refine i17 _ rfl p _ dp _ (.ref tt) rfl e T.ao T.a_ (by walk_at "lk") (i06 tt rfl ⟨_,SqL.of hx⟩ ?_)
  refine A3k (K:=K) (a:=tt) (xs:=xs) (λi Z H5=>∃(o3 o4 o5 o6:Option V) (M:List Addr) (nk:List (Key×V)),Z=[Sro p,Sro d,Sro wo,o3,o4,o5,o6]/\KB nn H H5/\H5 nn=some (.dK nk)/\AD M H5 nk ((td.take i).map (A5y wh))/\(nk.map (·.2)).Nodup/\∀b∈M,H b=none/\∃kvs,H5 b=some (.dT kvs))
   ⟨none,(i12 none none none [] [] rfl KB.refl hn .nil List.Pairwise.nil (by intro b hb;cases hb))⟩ (λi Z H5 _ zq=>by obtain ⟨_,_,_,_,_,_,_,kb,_⟩:=zq;exact SqL.of (kb _ _ (nk' hx (by intro y z;cases z)) hx)) ?_ ?_
  ·rintro i x Z H5 hi zz;refine e0f zz ?_;clear zz;rintro o3 o4 o5 o6 M nk rfl kb hn5 ad nd dm;obtain ⟨en,he,rx⟩:=B9q rs hi;rw [Z1z] at he;obtain ⟨te,hte,rfl⟩:=Z0i.mp he;obtain ⟨b,c,rfl,eb,ec⟩:=D3b rx;refine e00 (A5o ok hte) ?_;rintro ⟨k',v⟩ hkv ek ⟨tb',ev,hb,sz,good,len⟩;have ek:k'=Sum.inr te.1.1:=ek;have ev:v= .ref tb':=ev;subst ek ev;have up:∀{b:Addr} {u:HO},b≠nn->H b=some u->H5 b=some u:=λn y=>kb _ _ n y;have g:A5a H5 d (.str te.1.1) (some (.ref tb')):= .inl (i0f tk (Sum.inr te.1.1) (.inl (up dn hd)) rfl ((A7r (B6l ok.ok ndt) hkv).symm));refine i18 b _ rfl (SqT.of (up (nk' eb (by intro y z;cases z)) eb)) rfl _ _ rfl _ _ rfl rfl ?_;refine i1d _ rfl _ rfl wo _ dx _ (.ref l) rfl (up wn hw) T.ac T.am (by walk_at "lk") (i12 c l te.1.2 (A1e ax) te.2.1 rfl (up (nk' ec (by intro y z;cases z)) ec) (up ln hl) sz good λq H6 hq s6 ct=> ?_);obtain ⟨ps,hq6,tp⟩:=ct.ex;have lps:=tp.len;have g6:A5a H6 d (.str te.1.1) (some (.ref tb')):= .inl (i0f tk (Sum.inr te.1.1) (.inl (s6 _ _ (up dn hd))) rfl ((A7r (B6l ok.ok ndt) hkv).symm));have hb6:=s6 _ _ (up (nk' hb (by intro y z;cases z)) hb);have kb6:KB nn H H6:=λb u n y=>s6 _ _ (up n y);have hn6:=s6 _ _ hn5;have qn:q≠nn:=A1p hq6 hn6 (by intro z;cases z);have bn:tb'≠nn:=A1p hb6 hn6 (by intro z;cases z);have lz:((A0t te.2.1).zip (te.2.2.map (· %wh))).length=(A0t te.2.1).length:=by rw [List.length_zip,Z08];lia
   have lc:=(A2d te.2.1 λn hn=>(good.pos n hn).1);have lm:=good.most;refine i0v _ rfl _ rfl d _ rfl g6 ⟨q,(i0q tb' _ _ rfl (SqL.of hq6) (SqL.of hb6) ?_)⟩
   refine B1i (K:=K) (a:=q) (b:=tb') (xs:=ps.map V.ref) (ys:=te.2.2.map V.int) (λj Z H7=>∃(o5 o6:Option V) (M:List Addr) (nk:List (Key×V)),Z=[Sro p,Sro d,Sro wo,Sso te.1.1,Sro c,o5,o6]/\(∀b u,b≠nn->(∀kvs,u≠.dT kvs)->H6 b=some u->H7 b=some u)/\KB nn H H7/\H7 nn=some (.dK nk)/\AD M H7 nk (A5h ((td.take i).map (A5y wh)) te.1.1 (((A0t te.2.1).zip (te.2.2.map (· %wh))).take j))/\(nk.map (·.2)).Nodup/\∀b∈M,H b=none/\∃kvs,H7 b=some (.dT kvs))
    (i0z o5 o6 M nk rfl (λb u _ _ y=>y) kb6 hn6 ?_ ⟨nd,λb hb=>⟨(dm b hb).1,let ⟨kvs,e⟩:=(dm b hb).2;⟨kvs,s6 _ _ e⟩⟩⟩) (λj Z H7 zq=>by obtain ⟨_,_,_,_,_,kx,_⟩:=zq;exact ⟨SqL.of (kx _ _ qn (by intro y z;cases z) hq6),SqL.of (kx _ _ bn (by intro y z;cases z) hb6)⟩) (by rw [Z08,Z08];lia) ?_ ?_
   ·unfold A5h;rw [List.take_zero,Z12 rfl,Z0u];exact ad.imp λb kvs m y=>⟨m,s6 _ _ y⟩
   ·rintro j x y Z H7 pq hx hy zz;refine e0c zz ?_;clear zz;rintro o5 o6 M nk rfl kx kb7 hn7 ⟨ad7,nd7,dm7⟩ hpq;obtain ⟨pa,hpa,rfl⟩:=A2b hx;obtain ⟨num,hnum,rfl⟩:=A2b hy;obtain ⟨ce,hce,hcp⟩:=tp.get hpa;obtain ⟨H8,sq,hqq,eNH⟩:=nH (o:= .tup [.ref pa,.int num]) hpq
    try rw [eNH]
    have hw8:=sq _ _ (kb7 _ _ wn hw);have hcp8:=sq _ _ (kx _ _ (A1p hcp hn6 (by intro z;cases z)) (by intro y z;cases z) hcp);have zj:((A0t te.2.1).zip (te.2.2.map (· %wh)))[j]? =some (ce,num%wh):=Z2m.mpr ⟨hce,by rw [Z1z,hnum];rfl⟩;have hn8:=sq _ _ hn7;have ad8:AD M H8 nk (A5h ((td.take i).map (A5y wh)) te.1.1 (((A0t te.2.1).zip (te.2.2.map (· %wh))).take j)):=ad7.imp λb kvs m y=>⟨m,sq _ _ y⟩
    have na:te.1.1∉((td.take i).map (A5y wh)).map (·.1):=λm=>by
     obtain ⟨e1,he1,z1⟩:=Z2c.mp m;obtain ⟨e2,he2,rfl⟩:=Z2c.mp he1;obtain ⟨m',hm'⟩:=List.getElem?_of_mem he2
     have hlt:m'<i:=by
      have:=(Z03.mp hm').1;rw [Z0x] at this
      lia
     rw [List.getElem?_take,Z12 hlt] at hm';have z1:e2.1.1=te.1.1:=z1;have a1:((td.map (·.1)).map (·.1))[m']? =some te.1.1:=by rw [Z1z,Z1z,hm',Option.map_some,Option.map_some,z1]
     have a2:((td.map (·.1)).map (·.1))[i]? =some te.1.1:=by rw [Z1z,Z1z,hte];rfl
     have:=(List.getElem?_inj (Z03.mp a1).1 ndt).mp (a1.trans a2.symm)
     lia
    have nc:ce∉(((A0t te.2.1).zip (te.2.2.map (· %wh))).take j).map (·.1):=λm=>by
     obtain ⟨e1,he1,z1⟩:=Z2c.mp m;obtain ⟨m',hm'⟩:=List.getElem?_of_mem he1
     have hlt:m'<j:=by
      have:=(Z03.mp hm').1;rw [Z0x] at this
      lia
     rw [List.getElem?_take,Z12 hlt] at hm';have a1:=(Z2m.mp hm').1;rw [z1] at a1;have:=(List.getElem?_inj (Z03.mp a1).1 (A7c _)).mp (a1.trans hce.symm)
     lia
    have lt1:(((A0t te.2.1).zip (te.2.2.map (· %wh))).take j).length<=100000:=by
     rw [Z0x,lz];have h1:=lc.1
     lia
    refine i18 pq _ rfl (SqT.of hqq) rfl _ _ rfl _ _ rfl rfl ?_;refine i02 _ rfl (i0q wo dx _ rfl hw8 (by walk_at "lk") (i0e _ rfl _ rfl (i1d _ rfl _ rfl wo _ dx _ _ rfl hw8 T.ac T.aj (by walk_at "lk") (i0m _ _ rfl rfl wh0 (i0t wo dx l nn pa M wh (i19 nk ((td.take i).map (A5y wh)) te.1.1 _ ce (num%wh) rfl hw8 hn8 ad8 (by rw [Z08,Z0x];lia) na (i0i hcp8 nc lt1 nd7 (λb hb=>let ⟨kvs,e⟩:=(dm7 b hb).2;⟨kvs,sq _ _ e⟩) λM' nk2 H9 hn9 ad9 fr9 sub9 nd9 dm9=> ?_)))))));refine i0z _ _ M' nk2 rfl (λb u n1 n2 y=> ?_) (λb u n1 y=> ?_) hn9 ?_ ⟨nd9,λb hb=>⟨?_,dm9 b hb⟩⟩
    ·have y7:=kx _ _ n1 n2 y;exact fr9 _ _ n1 (λm=>by obtain ⟨kvs,e⟩:=(dm7 b m).2;rw [y7] at e;exact n2 kvs (Z1a e)) (sq _ _ y7)
    ·exact fr9 _ _ n1 (λm=>by have:=(dm7 b m).1;rw [y] at this;cases this) (sq _ _ (kb7 _ _ n1 y))
    ·rw [Z14,zj,Z2f];exact ad9
    ·rcases sub9 b hb with m | m
     ·exact (dm7 b m).1
     ·exact kb7.free hn7 (sq.free m)
   ·rintro Z H7 zz;refine e0c zz ?_;clear zz;rintro o5 o6 M nk rfl kx kb7 hn7 ⟨ad7,nd7,dm7⟩;rw [Z08,lps,<-lz,Z18] at ad7
    have hne:(A0t te.2.1).zip (te.2.2.map (· %wh))≠[]:=λz=>by
     have:=congrArg List.length z;rw [lz] at this;simp at this;have h2:=lc.2;have h1:=lc.1;rw [this] at h1;simp at h1
     lia
    unfold A5h at ad7;rw [Z0t hne] at ad7;refine ⟨_,(i12 _ _ _ M nk rfl kb7 hn7 ?_ nd7 dm7)⟩;rw [Z14,hte,Z2f,Z0s];exact ad7
  ·rintro Z H5 zz;refine e0f zz ?_;clear zz;rintro o3 o4 o5 o6 M nk rfl kb hn5 ad nd dm;have lx:xs.length=td.length:=by have:=rs.len;rw [Z08,Z08] at this;exact this
   rw [lx,Z18] at ad;exact k M nk H5 hn5 ad nd kb dm
abbrev NS:=List (Str×List (List Int×Int))
def A6r (cs:List (List Int×Int)) (c:List Int):Option Int:=(cs.find? λe=>decide (e.1=c)).map (·.2)
def A4r (ns:NS) (a:Str) (c:List Int):Option Int:=(ns.find? λe=>decide (e.1=a)).bind λe=>A6r e.2 c
theorem B6w:∀{cs:List (List Int×Int)} {c:List Int} {v:Int},A6r cs c=some v->A2r (cD cs) (c.map Sum.inl)=some (.int v)
 | [],_,_,h=>by simp [A6r] at h
 | e::cs,c,v,h=>by
  unfold A6r at h;rw [Z2h] at h;by_cases he:e.1=c
  ·rw [Z20 he] at h;have hv:e.2=v:=by simpa using h
   rw [<-hv,<-he];exact A2c rfl
  ·rw [Z1j he] at h;show A2r ((e.1.map Sum.inl,V.int e.2)::cD cs) _=_;rw [A1x (λz=>he (C0a z))];exact B6w h
theorem C8m {M:List Addr} {H:Hp} {a:Str} {c:List Int} {v:Int}:∀{nk:List (Key×V)} {ns:NS},AD M H nk ns->A4r ns a c=some v->∃p cs,A2r nk (Sum.inr a)=some (.ref p)/\H p=some (.dT cs)/\A2r cs (c.map Sum.inl)=some (.int v)
 | _,_,.nil,h=>by simp [A4r] at h
 | _,_,@Paired.cons _ _ _ p e _ _ ⟨ek,b,eb,_,hb⟩ t,h=>by
  unfold A4r at h;rw [Z2h] at h;by_cases he:e.1=a
  ·rw [Z20 he] at h;have h:A6r e.2 c=some v:=by simpa using h
   exact i0f b _ (by rw [A2c (by rw [ek,he]),eb]) hb (B6w h)
  ·rw [Z1j he] at h;obtain ⟨q,cs,h1,h2,h3⟩:=C8m t h;exact i0f q cs (by rw [A1x (λz=>he (by rw [ek] at z;injection z))];exact h1) h2 h3
def A7z (ys:List Str) (c:List Int):List (Key×V):=A3d [] ((ys.map (Sum.inr:Str->Key)).zip (c.map V.int))
def B5x (len:Str->Int) (wh:Int) (u:Tm) (ys:List Str) (ms:NS) (x:Str) (cs:List (List Int×Int)) (c:List Int):List (List Int×Int) :=
 cs++[(c,wo len (λa d=>(A4r (A5h ms x cs) a d).getD 0) wh u (ai (A7z ys c)))]
def A8i (len:Str->Int) (wh:Int) (u:Tm) (ys:List Str) (ms:NS) (x:Str) (cells:List (List Int)):List (List Int×Int):=cells.foldl (B5x len wh u ys ms x) []
theorem B2c {len:Str->Int}:A8i len wh u ys ms x (cells++[c])=B5x len wh u ys ms x (A8i len wh u ys ms x cells) c:=by unfold A8i;rw [List.foldl_append];rfl
theorem A9l {len:Str->Int} (cells:List (List Int)):∀i,(A8i len wh u ys ms x (cells.take i)).map (·.1)=cells.take i:=by
 intro i
 induction i with
 | zero=>rfl
 | succ i ih =>
  rw [Z14]
  cases h:cells[i]? with
  | none=>simpa using ih
  | some c =>
   rw [Z2f,B2c];unfold B5x;rw [Z0s,ih];rfl
def D6g (len:Str->Int) (wh:Int) (u:Tm) (ys:List Str) (ms:NS) (x:Str) (cells:List (List Int)):Prop:=∀(i:Nat) (c:List Int),cells[i]? =some c->(∀e∈rd len u (ai (A7z ys c)),(A4r (A5h ms x (A8i len wh u ys ms x (cells.take i))) e.1 e.2).isSome=true)/\D8b (A7z ys c) u/\(rd len u (ai (A7z ys c))).length<=100000
def E0f (A:Adr):Sp:=λvs H Q _=>∃(lt dl cx wo dx l nn:Addr) (tv:V) (u:Tm) (x:Str) (ys:List Str) (ls:List Int) (ax:List (Str×Int)) (wh:Int) (M:List Addr) (nk:List (Key×V)) (ms:NS),vs=[.ref lt,.ref wo]/\
 H lt=some (.ins A.be dl [("name",.str x),("axes",.ref cx),("term",tv)])/\H cx=some (.lst (ys.map V.str))/\Ob A H tv u/\B8r u/\dep u<=14/\(∃AX,Axs AX u/\D2v AX (A1e ax))/\Sz (A1e ax) ys ls/\A8q ls/\D6g (ai (A1e ax)) wh u ys ms x (A0t ls)/\
 H wo=some (.ins A.aa dx [("wheel",.int wh),("lengths",.ref l),("numbers",.ref nn)])/\H l=some (.dK (A1e ax))/\l≠nn/\H nn=some (.dK nk)/\D2j wh/\AD M H nk ms/\ms.length<=100/\x∉ms.map (·.1)/\(nk.map (·.2)).Nodup/\(∀b∈M,∃kvs,H b=some (.dT kvs))/\
 ∀(M':List Addr) (nk':List (Key×V)) (H':Hp),H' nn=some (.dK nk')->AD M' H' nk' (ms++[(x,A8i (ai (A1e ax)) wh u ys ms x (A0t ls))])->(nk'.map (·.2)).Nodup->(∀b o,b≠nn->b∉M->H b=some o->H' b=some o)->(∀b∈M',(b∈M\/H b=none)/\∃kvs,H' b=some (.dT kvs))->Q .non H'
def KX (H H':Hp):Prop:=∀b u,(∀kvs,u≠.dK kvs)->(∀kvs,u≠.dT kvs)->H b=some u->H' b=some u
theorem Ob.kx (f:KX H H') {t:Tm} (h:Ob A H v t):Ob A H' v t:=by
 have i:∀{a C d:Addr} {fs:List (Str×V)},H a=some (.ins C d fs)->H' a=some (.ins C d fs):=λe=>f _ _ (by intro y z;cases z) (by intro y z;cases z) e
 induction h with
 | num e=>exact .num (i e)
 | read e r=>exact .read (i e) (r.imp2 (λb ys z=>f _ _ (by intro y z;cases z) (by intro y z;cases z) z) λb ys z=>f _ _ (by intro y z;cases z) (by intro y z;cases z) z)
 | pair e _ _ i1 i2=>exact .pair (i e) i1 i2
 | place e=>exact .place (i e)
 | sum e _ i1=>exact .sum (i e) i1
 | guard e _ _ i1 i2=>exact .guard (i e) i1 i2
theorem C3e (T:Txt K mg t):FO P w base T.jf 19 (E0f t):=by
 have Gb2:= @A6c P w K mg base t T;have Gb3:= @A5t P w K mg base t T;have WK:=wok (P:=P) (w:=w) (base:=base) T 14;refine T.jf.F.ok A9t (λvs H Q E h=> ?_) λ_ A _ s H _ Q E hr h=> ?_
 ·refine e0h h ?_;clear h;rintro lt dl cx wo dx l nn tv u x ys ls ⟨ax,wh,M,nk,ms,rfl,_⟩;rfl
 ·refine e0h h ?_;clear h;rintro lt dl cx wo dx l nn tv u x ys ls ⟨ax,wh,M,nk,ms,rfl,hlt,hcx,ob,gu,dep6,axs,sz,good,run,hw,hl,ln,hn,whok,ad,lms,nx,nd,dm,k⟩;have lc:=(A2d ls λn hn=>(good.pos n hn).1);have lm:=good.most;have lys:=Paired.length sz;have few:=good.few
  refine ⟨_,(A0e (A2g (A2m (pcl Gb2 hr T.bf (A0a (A1t (pv 0) rfl) (A0a (A1t (pv 1) rfl) A0d)))) (A0m (i:=2) A9t.nd)
    (A0c (A0l (i:=3) A9t.nd (C3c rfl (by rfl) T.e_ (by rfl) T.nW (A0a (A1t (pv 0) rfl) (A0a (pv 2) A0d))))
    (A0e (A3t (B2d (pv 1) T.ac T.b_ Gb3 (hr.mono (by lia)) T.aw.b .nil B6t (A0a (A1t (pv 0) rfl) (A0a (pv 2) (A0a (A8d (A1t (pv 0) rfl) (A0a (pv 3) (A0a (pv 1) A0d))) A0d))))))))),?_⟩
  refine i17 _ rfl lt _ dl _ (.ref cx) rfl hlt T.gc T.f_ (by walk_at "lk") (i17 _ rfl wo _ dx _ (.ref l) rfl hw T.ac T.am (by walk_at "lk") (i12 cx l ys (A1e ax) ls rfl hcx hl sz good λq H1 hq s1 ct=> ?_));obtain ⟨ps,hq1,tp⟩:=ct.ex;have lps:=tp.len;refine i06 q rfl ⟨_,SqL.of hq1⟩ ?_
  refine A3k (K:=K) (a:=q) (xs:=ps.map V.ref) (λi Z H2=>∃(o2 o3:Option V) (M2:List Addr) (nk2:List (Key×V)),Z=[Sro lt,Sro wo,o2,o3]/\KX H1 H2/\(∀b o,b≠nn->b∉M->H b=some o->H2 b=some o)/\H2 nn=some (.dK nk2)/\AD M2 H2 nk2 (A5h ms x (A8i (ai (A1e ax)) wh u ys ms x ((A0t ls).take i)))/\(nk2.map (·.2)).Nodup/\∀b∈M2,(b∈M\/H b=none)/\∃kvs,H2 b=some (.dT kvs))
   (i0z none none M nk rfl (λb u _ _ y=>y) (λb o _ _ y=>s1 _ _ y) (s1 _ _ hn) ?_ ⟨nd,λb hb=>⟨.inl hb,let ⟨kvs,e⟩:=dm b hb;⟨kvs,s1 _ _ e⟩⟩⟩) (λi Z H2 _ zq=>by obtain ⟨_,_,_,_,_,kx,_⟩:=zq;exact SqL.of (kx _ _ (by intro y z;cases z) (by intro y z;cases z) hq1)) ?_ ?_
  ·rw [List.take_zero];show AD M H1 nk (A5h ms x []);unfold A5h;rw [Z12 rfl,Z0u];exact ad.imp λb kvs m y=>⟨m,s1 _ _ y⟩
  ·rintro i v Z H2 hi zz;refine e0c zz ?_;clear zz;rintro o2 o3 M2 nk2 rfl kx fr hn2 ⟨ad2,nd2,dm2⟩;obtain ⟨pa,hpa,rfl⟩:=A2b hi;obtain ⟨ce,hce,hcp⟩:=tp.get hpa;have nok:∀{b:Addr} {u:HO},(∀kvs,u≠.dK kvs)->(∀kvs,u≠.dT kvs)->H b=some u->H2 b=some u:=λn1 n2 y=>kx _ _ n1 n2 (s1 _ _ y);have hlt2:=nok (by intro y z;cases z) (by intro y z;cases z) hlt;have hcx2:=nok (by intro y z;cases z) (by intro y z;cases z) hcx;have hw2:=nok (by intro y z;cases z) (by intro y z;cases z) hw;have hl2:H2 l=some (.dK (A1e ax)):=fr _ _ ln (λm=>by obtain ⟨kvs,e⟩:=dm l m;rw [hl] at e;cases e) hl;have hcp2:=kx _ _ (by intro y z;cases z) (by intro y z;cases z) hcp;have ob2:Ob t H2 tv u:=(ob.imp s1).kx kx;have ekv:ys.map V.str=(ys.map (Sum.inr:Str->Key)).map kV:=by rw [List.map_map];rfl
   have lce:ce.length=ls.length:=(A3z ls ce (Z13 hce)).1;refine i17 _ rfl lt _ dl _ (.ref cx) rfl hlt2 T.gc T.f_ (by walk_at "lk") (i11 _ rfl cx pa (ys.map Sum.inr) (ce.map V.int) rfl (by rw [<-ekv];exact SqL.of hcx2) (SqT.of hcp2) (by rw [Z08,Z08];lia) λd hd=> ?_);have s3:A0s H2 (upd H2 d (.dK (A3d [] ((ys.map Sum.inr).zip (ce.map V.int))))):=A0f hd;have hd3:upd H2 d (.dK (A3d [] ((ys.map Sum.inr).zip (ce.map V.int)))) d=some (.dK (A7z ys ce)):=A0b;generalize upd H2 d (.dK (A3d [] ((ys.map Sum.inr).zip (ce.map V.int))))=H3 at s3 hd3;obtain ⟨r1,r2,r3⟩:=run i ce hce
   have lenv:(A7z ys ce).length<=8:=by
    have:=A2w ((ys.map (Sum.inr:Str->Key)).zip (ce.map V.int)) [];unfold A7z;rw [List.length_zip,Z08] at this;simp only [Z2g] at this
    lia
   have ask:B0w 14 u H3 d l (A7z ys ce) (A1e ax):=⟨gu,dep6,hd3,r2,s3 _ _ hl2,axs,by lia,r3⟩;have W:Wd t H3 wo l wh nk2:=⟨(i07 dx nn (s3 _ _ hw2) (s3 _ _ hn2)),whok⟩
   have nu:B7p H3 nk2 (λa d=>(A4r (A5h ms x (A8i (ai (A1e ax)) wh u ys ms x ((A0t ls).take i))) a d).getD 0) (rd (ai (A1e ax)) u (ai (A7z ys ce))):=λe he=>by
    obtain ⟨v,hv⟩:=Option.isSome_iff_exists.mp (r1 e he);obtain ⟨p,cs,h1,h2,h3⟩:=C8m ad2 hv;exact i0f p cs h1 (s3 _ _ h2) (by rw [h3];show _=some (V.int ((A4r _ e.1 e.2).getD 0));rw [hv];rfl)
   refine i02 _ rfl (i0q wo dx _ rfl (s3 _ _ hw2) (by walk_at "lk") (i17 _ rfl lt _ dl _ (.str x) rfl (s3 _ _ hlt2) T.gc T.jr (by walk_at "lk") (i1d _ rfl _ rfl lt _ dl _ tv rfl (s3 _ _ hlt2) T.gc T.jt (by walk_at "lk") ?_)));refine e0e (WK H3 tv u (ob2.imp s3) dep6) ?_;rintro a' C' dx' fs' k' f' fd' ps' sp' ⟨etv,e',c',m',l',F',hk',b',q'⟩;refine i0h a' C' dx' fs' (i1c k' f' fd' ps' sp' etv e' c' m' l' F' (hr.mono (by lia)) b' (i0e _ rfl _ rfl ?_));refine q' H3 d wo l (A7z ys ce) (A1e ax) nk2 _ wh _ (A0s.refl _) ask W nu λH4 s4=> ?_;have s24:=s3.trans s4;have hn4:=s24 _ _ hn2;have fst:=A9l (len:=ai (A1e ax)) (wh:=wh) (u:=u) (ys:=ys) (ms:=ms) (x:=x) (A0t ls) i
   have nc:ce∉(A8i (ai (A1e ax)) wh u ys ms x ((A0t ls).take i)).map (·.1):=λm=>by
    rw [fst] at m;obtain ⟨m',hm'⟩:=List.getElem?_of_mem m
    have hlt:m'<i:=by
     have:=(Z03.mp hm').1;rw [Z0x] at this
     lia
    rw [List.getElem?_take,Z12 hlt] at hm';have:=(List.getElem?_inj (Z03.mp hm').1 (A7c _)).mp (hm'.trans hce.symm)
    lia
   have lrun:(A8i (ai (A1e ax)) wh u ys ms x ((A0t ls).take i)).length<=100000:=by
    have:=congrArg List.length fst;rw [Z08,Z0x] at this;have h1:=lc.1
    lia
   refine i0t wo dx l nn pa M2 wh (i19 nk2 ms x _ ce _ rfl (s24 _ _ hw2) hn4 (ad2.imp λb kvs m y=>⟨m,s24 _ _ y⟩) lms nx (i0i (s24 _ _ hcp2) nc lrun nd2 (λb hb=>let ⟨kvs,e⟩:=(dm2 b hb).2;⟨kvs,s24 _ _ e⟩) λM' nk3 H5 hn5 ad5 fr5 sub5 nd5 dm5=> ?_));refine i0z _ _ M' nk3 rfl (λb o n1 n2 y=> ?_) (λb o n1 n2 y=> ?_) hn5 ?_ ⟨nd5,λb hb=>⟨?_,dm5 b hb⟩⟩
   ·have y2:=kx _ _ n1 n2 y;exact fr5 _ _ (A1p (s24 _ _ y2) hn4 (n1 _)) (λm=>by obtain ⟨kvs,e⟩:=(dm2 b m).2;rw [y2] at e;exact n2 kvs (Z1a e)) (s24 _ _ y2)
   ·refine fr5 _ _ n1 (λm=> ?_) (s24 _ _ (fr _ _ n1 n2 y));rcases (dm2 b m).1 with z | z
    ·exact n2 z
    ·rw [y] at z;cases z
   ·rw [Z14,hce,Z2f,B2c];exact ad5
   ·rcases sub5 b hb with m | m
    ·exact (dm2 b m).1
    ·by_cases hm:b∈M
     ·exact .inl hm
     ·refine .inr ?_;have h2:=s24.free m
      cases hb':H b with
      | none=>rfl
      | some o =>
       have bn:b≠nn:=λz=>by rw [z,hn2] at h2;cases h2
       rw [fr _ _ bn hm hb'] at h2;cases h2
  ·rintro Z H2 zz;refine e0c zz ?_;clear zz;rintro o2 o3 M2 nk2 rfl kx fr hn2 ⟨ad2,nd2,dm2⟩;rw [Z08,lps,Z18] at ad2
   have hne:A8i (ai (A1e ax)) wh u ys ms x (A0t ls)≠[]:=λz=>by
    have h1:=A9l (len:=ai (A1e ax)) (wh:=wh) (u:=u) (ys:=ys) (ms:=ms) (x:=x) (A0t ls) (A0t ls).length;rw [Z18,z] at h1;have h2:=congrArg List.length h1;simp at h2;have h3:=lc.1;have h4:=lc.2;rw [<-h2] at h3;simp at h3
    lia
   unfold A5h at ad2;rw [Z0t hne] at ad2;exact k M2 nk2 H2 hn2 ad2 nd2 fr dm2
theorem C1k:∀(ax:List (Str×Int)),C9t (A1e ax) (ax.map (·.2))
 | []=> .nil
 | _::r=> .cons rfl (C1k r)
structure LD where
 x:Str
 ys:List Str
 ls:List Int
 u:Tm
def B7m (A:Adr) (ax:List (Str×Int)) (H:Hp) (v:V) (e:LD):Prop:=∃(lt dl cx:Addr) (tv:V),v= .ref lt/\H lt=some (.ins A.be dl [("name",.str e.x),("axes",.ref cx),("term",tv)])/\H cx=some (.lst (e.ys.map V.str))/\Ob A H tv e.u/\B8r e.u/\dep e.u<=14/\(∃AX,Axs AX e.u/\D2v AX (A1e ax))/\Sz (A1e ax) e.ys e.ls/\A8q e.ls
theorem B7m.kx {e:LD} (h:B7m A ax H v e) (f:KX H H'):B7m A ax H' v e:=by
 refine e0c h λlt dl cx tv e1 h1 h2 h3 r=>?_;clear h;exact i0x lt dl cx tv e1 (f _ _ (by intro y z;cases z) (by intro y z;cases z) h1) (f _ _ (by intro y z;cases z) (by intro y z;cases z) h2) (h3.kx f) r
def A1n (len:Str->Int) (wh:Int) (ms:NS) (lds:List LD):NS:=lds.foldl (λms e=>ms++[(e.x,A8i len wh e.u e.ys ms e.x (A0t e.ls))]) ms
theorem A6z {len:Str->Int} {e:LD}:A1n len wh ms (lds++[e])=A1n len wh ms lds++[(e.x,A8i len wh e.u e.ys (A1n len wh ms lds) e.x (A0t e.ls))]:=by unfold A1n;rw [List.foldl_append];rfl
theorem A7l {len:Str->Int} (lds:List LD):∀i,(A1n len wh ms (lds.take i)).map (·.1)=ms.map (·.1)++(lds.take i).map (·.x):=by
 intro i
 induction i with
 | zero=>simp [A1n]
 | succ i ih =>
  rw [Z14]
  cases h:lds[i]? with
  | none=>simpa using ih
  | some c =>
   rw [Z2f,A6z,Z0s,ih,Z0s,Z0z];rfl
def D5f (A:Adr):Sp:=λvs H Q _=>∃(p d:Addr) (wh:Int) (ax:List (Str×Int)) (td:List TD) (lds:List LD) (lv:List V) (os:List Str) (tk:List (Key×V)),vs=[.ref p,.ref d]/\D1k A H p wh ax (td.map (·.1)) lv os/\(ax.map (·.1)).Nodup/\ax.length<=100/\(((td.map (A5y wh)).map (·.1))++lds.map (·.x)).Nodup/\td.length<=6/\lds.length<=50/\H d=some (.dK tk)/\TbX H ax tk td/\D2j wh/\Paired (B7m A ax H) lv lds/\
 (∀(i:Nat) (e:LD),lds[i]? =some e->D6g (ai (A1e ax)) wh e.u e.ys (A1n (ai (A1e ax)) wh (td.map (A5y wh)) (lds.take i)) e.x (A0t e.ls))/\
 ∀(r:Addr) (rk:List (Key×V)) (H':Hp),H r=none->A0s H H'->H' r=some (.dK rk)->B1k (λb=>H b=none) H' rk (A1n (ai (A1e ax)) wh (td.map (A5y wh)) lds)->Q (.ref r) H'
theorem C4o (T:Txt K mg t):FO P w base T.ji 20 (D5f t):=by
 have Gb4:= @B3h P w K mg base t T;have Gb1:= @A9f P w K mg base t T;have Gb5:= @B5l P w K mg base t T;have Gb6:= @B4q P w K mg base t T;have Gb7:= @C3e P w K mg base t T;have Gb8:= @C3n P w K mg base t T;refine T.ji.F.ok A9p (λvs H Q E h=> ?_) λ_ A _ s H _ Q E hr h=> ?_
 ·refine e0e h ?_;clear h;rintro p d wh ax td lds lv os tk ⟨rfl,_⟩;rfl
 ·refine e0e h ?_;clear h;rintro p d wh ax td lds lv os tk ⟨rfl,pr,ndx,lax,ndA,l6,l50,hd,ok,whok,lets,run,k⟩
  have ndt:((td.map (·.1)).map (·.1)).Nodup:=by
   have:=(List.pairwise_append.mp ndA).1;rw [List.map_map] at this⊢;exact this
  have wh0:0<wh:=by have:=whok.1;lia
  refine ⟨_,(A0c (A3t (pcl Gb4 hr T.dy (A0a (pv 0) (A0a (pv 1) A0d))))
   (A0c (A0l (i:=2) A9p.nd (pmk T.jx Gb5 hr T.m9 T.fi.b (A0a (A1t (pv 0) rfl) (A0a (pcl Gb1 hr T.c7 (A0a (pv 0) A0d)) (A0a A2y A0d)))))
   (A0c (A3t (pcl Gb6 hr T.fm (A0a (pv 0) (A0a (pv 1) (A0a (pv 2) A0d)))))
   (A0c (A2g (A2m (A1t (pv 0) rfl)) (A0m (i:=3) A9p.nd)
    (A0e (A3t (pcl Gb7 hr T.jf (A0a (pv 3) (A0a (pv 2) A0d))))))
   (A0e (A0o (pcl Gb8 hr T.jk (A0a (pv 2) A0d)))))))),?_⟩
  refine i0e _ rfl _ rfl (i03 p d (i19 wh ax (td.map (·.1)) lv os tk rfl pr ndx ndt (by rw [Z08];exact l6) hd ⟨ok.ok,λH1 s1=> ?_⟩));refine e0d ((pr.same s1).ob) λdp a tt ll o e ra rt hll _=>?_;refine i17 _ rfl p _ dp _ _ rfl e T.ao T.eh (by walk_at "lk") (i02 _ rfl (i0h p wh ax (td.map (·.1)) (i0m lv os rfl (pr.same s1) ndx λl0 hl0 n0 hn0 wo dx hwo hdx hne=> ?_)));have t1:A0s H1 (upd H1 l0 (.dK (A1e ax))):=A0f hl0;have t2:A0s H1 (upd (upd H1 l0 (.dK (A1e ax))) n0 (.dK [])):=t1.trans (A0f hn0);have hl0':upd (upd H1 l0 (.dK (A1e ax))) n0 (.dK []) l0=some (.dK (A1e ax)):=(A0f hn0) _ _ A0b;have hn0':upd (upd H1 l0 (.dK (A1e ax))) n0 (.dK []) n0=some (.dK []):=A0b;generalize upd (upd H1 l0 (.dK (A1e ax))) n0 (.dK [])=G at t2 hl0' hn0' hwo hdx;have t3:A0s G (upd (upd G dx (.own wo)) wo (.ins t.aa dx [])):=A0q (A0f hdx) hwo;have ew:upd (upd G dx (.own wo)) wo (.ins t.aa dx []) wo=some (.ins t.aa dx []):=A0b;generalize upd (upd G dx (.own wo)) wo (.ins t.aa dx [])=G2 at t3 ew;refine ⟨wo,(i19 dx l0 n0 wh (A1e ax) _ rfl ew (t3 _ _ hl0') (C1k ax) (by unfold A1e;rw [Z08];lia) (t3 _ _ hn0') λl nn H2 hl hn ne hw2 hl2 hn2 kb=>⟨rfl,?_⟩)⟩;have sG:A0s G H2:=KB.same t3 kb hwo;have s2:A0s H H2:=s1.trans (t2.trans sG);have nnH:H nn=none:=s1.free (t2.free (t3.free hn));have dn:d≠nn:=λz=>by rw [z,nnH] at hd;cases hd
  refine i15 _ rfl _ rfl _ rfl p d wo dx l nn (i19 wh ax td lv os tk rfl (pr.same s2) ndt l6 (s2 _ _ hd) dn ⟨ok.same s2,(i0i hw2 hl2 ne.symm hn2 wh0 λM nk H3 hn3 ad3 nd3 kb3 dm3=> ?_)⟩);have kn:∀{b:Addr} {u:HO},H2 b=some u->(∀kvs,u≠.dK kvs)->b≠nn:=λe n=>A1p e hn2 (n _);refine e0d ((pr.same s2).ob) λdp2 a2 tt2 ll2 o2 e2 _ _ hll2 _=>?_;refine i17 _ rfl p _ dp2 _ (.ref ll2) rfl (kb3 _ _ (kn e2 (by intro y z;cases z)) e2) T.ao T.fo (by walk_at "lk") (i06 ll2 rfl ⟨_,SqL.of (kb3 _ _ (kn hll2 (by intro y z;cases z)) hll2)⟩ ?_)
  refine A3k (K:=K) (a:=ll2) (xs:=lv) (λi Z H4=>∃(o3:Option V) (M:List Addr) (nk:List (Key×V)),Z=[Sro p,Sro d,Sro wo,o3]/\KB nn H2 H4/\H4 nn=some (.dK nk)/\AD M H4 nk (A1n (ai (A1e ax)) wh (td.map (A5y wh)) (lds.take i))/\(nk.map (·.2)).Nodup/\∀b∈M,H2 b=none/\∃kvs,H4 b=some (.dT kvs))
   (i0w none M nk rfl kb3 hn3 ad3 nd3 dm3) (λi Z H4 _ zq=>by obtain ⟨_,_,_,_,kb4,_⟩:=zq;exact SqL.of (kb4 _ _ (kn hll2 (by intro y z;cases z)) hll2)) ?_ ?_
  ·rintro i v Z H4 hv zz;refine e08 zz ?_;clear zz;rintro o3 M nk rfl kb4 hn4 ⟨ad4,nd4,dm4⟩;obtain ⟨el,hel,leto⟩:=B1e lets hv;have kx:KX H H4:=λb u n1 n2 y=>kb4 _ _ (kn (s2 _ _ y) n1) (s2 _ _ y);refine e0c (leto.kx kx) ?_;rintro lt dl cx tv rfl hlt hcx ob ⟨gu,dp6,axs,sz,good⟩;have names:=A7l (len:=ai (A1e ax)) (wh:=wh) (ms:=td.map (A5y wh)) lds i
   have nx:el.x∉(A1n (ai (A1e ax)) wh (td.map (A5y wh)) (lds.take i)).map (·.1):=by
    rw [names];have h1:List.Sublist (((td.map (A5y wh)).map (·.1))++(lds.take (i+1)).map (·.x)) (((td.map (A5y wh)).map (·.1))++lds.map (·.x)):=(List.Sublist.refl _).append ((Z2o _ _).map _);have h2:=List.Pairwise.sublist h1 ndA;rw [Z14,hel,Z2f,Z0s,<-Z0z] at h2;exact λm=>(List.pairwise_append.mp h2).2.2 el.x m el.x (.head _) rfl
   have lms:(A1n (ai (A1e ax)) wh (td.map (A5y wh)) (lds.take i)).length<=100:=by
    have:=congrArg List.length names;rw [Z08,Z06,Z08,Z08,Z08,Z0x] at this
    lia
   refine i0e _ rfl _ rfl (i0h lt dl cx wo (i0t dx l nn tv el.u el.x el.ys (i19 el.ls ax wh M nk _ rfl hlt hcx ob gu dp6 (i08 axs sz good (run i el hel) (i0i (kb4 _ _ (kn hw2 (by intro y z;cases z)) hw2) (kb4 _ _ ne.symm hl2) ne.symm hn4 whok (i0i ad4 lms nx nd4 (λb hb=>(dm4 b hb).2) λM' nk' H5 hn5 ad5 nd5 fr5 sub5=> ?_))))));refine i0w _ M' nk' rfl (λb u n1 y=>fr5 _ _ n1 (λm=>by have:=(dm4 b m).1;rw [y] at this;cases this) (kb4 _ _ n1 y)) hn5 ?_ nd5 λb hb=>⟨?_,(sub5 b hb).2⟩
   ·rw [Z14,hel,Z2f,A6z];exact ad5
   ·rcases (sub5 b hb).1 with m | m
    ·exact (dm4 b m).1
    ·exact kb4.free hn4 m
  ·rintro Z H4 zz;refine e08 zz ?_;clear zz;rintro o3 M nk rfl kb4 hn4 ⟨ad4,nd4,dm4⟩;have ll:=Paired.length lets;rw [ll,Z18] at ad4;have names:=A7l (len:=ai (A1e ax)) (wh:=wh) (ms:=td.map (A5y wh)) lds lds.length;rw [Z18] at names
   have lms:(A1n (ai (A1e ax)) wh (td.map (A5y wh)) lds).length<=100:=by
    have:=congrArg List.length names;rw [Z08,Z06,Z08,Z08,Z08] at this
    lia
   have s4:A0s H H4:=KB.same s2 kb4 nnH;refine i02 _ rfl (i03 wo dx (i19 l nn M wh nk _ rfl (kb4 _ _ (kn hw2 (by intro y z;cases z)) hw2) hn4 ad4 (by rw [names];exact ndA) lms λr rk H6 hr0 s6 hr6 rows=> ?_));exact k r rk H6 (s4.free hr0) (s4.trans s6) hr6 (rows.imp λb xs m y=>⟨s4.free m,y⟩)
def Oth (r:Addr) (H H':Hp):Prop:=∀b,b≠r->H' b=H b
def prd (L:Str->Int) (ys:List Str):Int:=ys.foldl (λc y=>c*L y) 1
theorem D1a (L:Str->Int) (ys:List Str) (y:Str):prd L (ys++[y])=prd L ys*L y:=by unfold prd;rw [List.foldl_append];rfl
def D4e (lk:List (Key×V)) (L:Str->Int) (ys:List Str):Prop:=∀y∈ys,A2r lk (Sum.inr y)=some (.int (L y))/\0<=L y/\L y<=60
def D1h:Sp:=λvs H Q _=>∃(l d:Addr) (ys:List Str) (lk:List (Key×V)) (L:Str->Int),vs=[.ref l,.ref d]/\H l=some (.lst (ys.map V.str))/\H d=some (.dK lk)/\D4e lk L ys/\ys.length<=1000/\∀(H':Hp),A0s H H'->Q (.int (prd L ys)) H'
def KI (H H':Hp):Prop:=∀b u,(∀n xs,u≠.lst (V.int n::xs))->H b=some u->H' b=some u
def hdI:List PyData->Bool
 | .int _::_=>false
 | _=>true
mutual
def noI:PyData->Bool
 | .list ds=>hdI ds&&C9m ds
 | .tuple ds=>C9m ds
 | _=>true
def C9m:List PyData->Bool
 | []=>true
 | d::r=>noI d&&C9m r
end
theorem E0o {ds:List PyData} (r:A3l H xs ds) (h:hdI ds=true):∀n ys,HO.lst xs≠.lst (V.int n::ys):=λn ys z=>by
 cases z
 cases r with
 | cons a _ =>
  cases a
  cases h
mutual
theorem Rep.ki {H H':Hp} (f:KI H H'):∀{v:V} {d:PyData},Rep H v d->noI d=true->Rep H' v d
 | _,_,.non,_=> .non
 | _,_,.bl b,_=> .bl b
 | _,_,.int i,_=> .int i
 | _,_,.str x,_=> .str x
 | _,_,.lst e r,h=>by
  rw [noI,Z1x] at h;exact .lst (f _ _ (E0o r h.1) e) (A3l.ki f r h.2)
 | _,_,.tup e r,h=>by
  rw [noI] at h;exact .tup (f _ _ (by intro n xs z;cases z) e) (A3l.ki f r h)
theorem A3l.ki {H H':Hp} (f:KI H H'):∀{vs:List V} {ds:List PyData},A3l H vs ds->C9m ds=true->A3l H' vs ds
 | _,_,.nil,_=> .nil
 | _,_,.cons a r,h=>by
  rw [C9m,Z1x] at h;exact .cons (Rep.ki f a h.1) (A3l.ki f r h.2)
end
theorem D6z (ix:List (Str×Int)):noI (A5e ix)=true:=by
 have h:∀ix:List (Str×Int),C9m (ix.map B3l)=true:=λix=>by
  induction ix with
  | nil=>simp [C9m]
  | cons e r ih=>rw [Z0p,C9m,ih];simp [B3l,noI,C9m]
 unfold A5e;rw [noI,h];cases ix <;> simp [hdI,B3l]
theorem C7t (ys:List Str):∀n xs,HO.lst (ys.map V.str)≠.lst (V.int n::xs):=λn xs z=>by
 cases ys with
 | nil=>cases z
 | cons y r=>cases z
theorem D5n {ms:List Int} (hD:H D=some (.lst (ms.map V.int))) (o:Oth D H H') (e:ms=[]->H'=H):KI H H':=by
 cases ms with
 | nil=>rw [e rfl];exact λ_ _ _ y=>y
 | cons n r =>
  intro b u n1 y;by_cases hb:b=D
  ·subst hb;rw [hD] at y;cases y;exact absurd rfl (n1 n _)
  ·rw [o b hb];exact y
theorem KI.of (s:A0s H H'):KI H H':=λb u _ e=>s b u e
theorem KI.trans (a:KI H H') (b:KI H' H2):KI H H2:=λc u n e=>b c u n (a c u n e)
def Nw (G:Hp) (b:Addr):Prop:=∀u,G b=some u->∃n xs,u= .lst (V.int n::xs)
theorem Nw.up (k:KI H H') (h:Nw H' b):Nw H b:=λu e=>Classical.byContradiction λhn=>hn (h u (k b u (λn xs z=>hn (i03 n xs z)) e))
theorem D4w (h:H b=none):Nw H b:=λu e=>by rw [h] at e;cases e
theorem A4b (k:KI H H') (h:H' b=none):Nw H b:=(D4w h).up k
theorem C1z (k:KI H H'):KI (A1w S H) (A1w S H'):=λb u n e=>A1a (A0z e).1 (k b u n (A0z e).2)
theorem KI.str (k:KI H H') (e:H b=some (.lst (ys.map V.str))):H' b=some (.lst (ys.map V.str)):=k _ _ (C7t ys) e
theorem KI.dk (k:KI H H') (e:H b=some (.dK kvs)):H' b=some (.dK kvs):=k _ _ (by intro n xs z;cases z) e
def D4q:Sp:=λvs H Q _=>∃(r:Addr) (ns:List Int),vs=[.ref r]/\H r=some (.lst (ns.map V.int))/\∀(i:Int) (ms:List Int) (H':Hp),ms.length<=ns.length->H' r=some (.lst (ms.map V.int))->Oth r H H'->(ns=[]->H'=H)->Q (.int i) H'
structure AxN (nm ys:List Str):Prop where
 nd:ys.Nodup
 sub:∀y∈ys,y∈nm
 few:ys.length<=3
def D4s:Sp:=λvs H Q _=>∃(c:Int) (l:Addr) (nm:List Str),vs=[.int c,.ref l]/\H l=some (.lst (nm.map V.str))/\nm.length<=8/\0<nm.length/\nm.Nodup/\∀(ys:List Str) (p:Addr) (H':Hp),H p=none->A0s H H'->H' p=some (.lst (ys.map V.str))->AxN nm ys->Q (.ref p) H'
theorem D5l {m c tn:Int} (m0:0<m) (m8:m<=8) (ht:tn=1\/tn=m-1) (hi:(i:Int)<m) (hj:(j:Int)<m) (e:(c+(i:Int)*tn)%m=(c+(j:Int)*tn)%m):i=j:=by
 have h:m=1\/m=2\/m=3\/m=4\/m=5\/m=6\/m=7\/m=8:=by lia
 rcases h with rfl | rfl | rfl | rfl | rfl | rfl | rfl | rfl <;> rcases ht with rfl | rfl <;> lia
theorem D9e {f:Nat->Nat} (nd:nm.Nodup) (h:∀j,j<zs.length->zs[j]? =nm[f j]?) (inj:∀i j,i<zs.length->j<zs.length->f i=f j->i=j):zs.Nodup:=by
 rw [List.nodup_iff_pairwise_ne,List.pairwise_iff_getElem];intro i j hi hj hij e;have h1:=h i hi;have h2:=h j hj;rw [Z0b hi] at h1;rw [Z0b hj] at h2;rw [e] at h1;have hb:f i<nm.length:=(Z03.mp h1.symm).1;have:=(List.getElem?_inj hb nd).mp (h1.symm.trans h2);have:=inj i j hi hj this
 lia
theorem A6m (T:Txt K mg t):FO P w base T.au 1 D4q:=by
 refine T.au.F.ok C8b (by walk_at "ln") λ_ A _ s H _ Q E hr h=> ?_
 ·obtain ⟨r,ns,rfl,hns,k⟩:=h
  refine ⟨_,(A0c (A1o (A0w A3n (A0y A1c (by rfl) T.bd Z0r (A0a (pv 0) A0d)) A0g (A1f _))
    (A0e (A0o A0g))
    A0r)
   (A0e (A0o (B3z Z0k PySem.F.slot_list_pop PySem.F.type_list_pop D6x (pv 0))))),?_⟩
  refine i0y _ rfl r _ rfl (.inl (SqL.of hns)) rfl _ rfl (A2n (λ_=> ?_) (λh=> ?_))
  ·exact k 0 ns H (Z09 _) hns (λ_ _=>rfl) λ_=>rfl
  ·have hpos:0<ns.length:=by
    rcases Nat.eq_zero_or_pos ns.length with z | z
    ·exact absurd (by rw [Z08,z];rfl) h
    ·exact z
   have e:(ns.map V.int)[(ns.map V.int).length-1]? =some (V.int (ns[ns.length-1]'(by lia))):=by
    rw [Z08,Z1z,Z0b (by lia:ns.length-1<ns.length)];rfl
   refine i06 _ rfl (.inl (i01 rfl _ (SqL.of hns))) (i0s r _ _ rfl rfl hns e (k _ ns.dropLast _ (by simp) ?_ (λb hb=>A0i hb) λz=>by rw [z] at hpos;cases hpos));rw [A0b,List.map_dropLast]
theorem B7y (T:Txt K mg t):FO P w base T.jb 1 D4s:=by
 refine T.jb.F.ok A9n (by walk_at "ln") λ_ A _ s H _ Q E hr h=> ?_
 ·refine e08 h ?_;clear h;rintro c l nm rfl hl h8 ⟨hpos,nd,k⟩
  refine ⟨_,(A0c (A0l (i:=2) A9n.nd (A0y A1c (by rfl) T.bd Z0r (A0a (pv 1) A0d)))
   (A0c (A0l (i:=3) A9n.nd A0g)
   (A3s (A1o (PW.pt (B4i (A0w A3n (A0n A1i (A0n A2h (pv 0) A0g) A0g) A0g (A1f _)) (A9r (A0w C0n (pv 2) A0g (A1f _)))))
    (A0e (A0l (i:=3) A9n.nd (A0n A5c (pv 2) A0g)))
    A0r)
   (A0e (A0o (A3h (N':=["_law_j","_law_cell_here","_law_many_here","_law_names","_law_turn"]) (ix:=(List.replicate 1 none++[some 0,some 2,some 1,some 3])) rfl (C7a (cl:=[("_law_turn",_),("_law_names",_),("_law_many_here",_),("_law_cell_here",_)]) (xs:=["_law_turn","_law_names","_law_many_here","_law_cell_here"]) rfl (i08 rfl rfl rfl rfl trivial) rfl rfl (by decide +kernel) (by decide +kernel)) (C5w (N0:=["_law_j"]) (xs:=["_law_cell_here","_law_many_here","_law_names","_law_turn"]) (js:=[0,2,1,3]) (i08 (i00 rfl (.inl rfl) (by walk_at "ix")) (i00 rfl (.inl rfl) (by walk_at "ix")) (i00 rfl (.inl rfl) (by walk_at "ix")) (i00 rfl (.inl rfl) (by walk_at "ix")) trivial)) (A3p rfl T.bh (A0a (A0y (C5z rfl) (by rfl) T.qE PyProof.Rows.boot_min (A0a (A0n A1i (pv 0) A0g) (A0a (pv 2) A0d))) A0d)) (λ_ _ _ _=>(A0m (i:=0) C8k)) (λ_ _ _ _=>(A1h (C9w (K:=K) rfl) (pv 3) (A0n A1i (A0n A2k (A0n A2h (pv 1) A0g) (A0n A7k (pv 0) (pv 4))) (pv 2)))))))))),?_⟩
  refine i0o _ rfl l _ rfl (.inl (SqL.of hl)) ?_;rw [Z08];refine i02 (λZ H2=>H=H2/\∃tn:Int,(tn=1\/tn=(nm.length:Int)-1)/\Z=[Sio c,Sro l,Sio nm.length,Sio tn]) ?_ ?_
  ·refine i16 _ rfl _ _ rfl rfl ⟨by decide,by decide⟩ _ _ rfl rfl E1t (i05 rfl _ rfl (D9t (λ_=> ?_) (λ_=>A7j (i05 rfl _ (.inl rfl) rfl))));refine i0o _ rfl _ _ rfl rfl (i02 _ rfl (A2n (λ_=> ?_) (λ_=>(i05 rfl _ (.inl rfl) rfl))));exact i0y _ rfl _ _ rfl rfl rfl _ (.inr rfl) rfl
  ·rintro Z H2 ⟨rfl,tn,htn,rfl⟩;refine i0y _ rfl _ _ rfl rfl C9h _ rfl (i07 _ _ rfl ?_);generalize hm:(if (nm.length:Int)<c%4 then (nm.length:Int) else c%4)=m;have hm3:m<=3:=by rw [<-hm];split <;> lia
   have hm0:0<=m:=by rw [<-hm];split <;> lia
   have hmn:m<=nm.length:=by rw [<-hm];split <;> lia
   refine i0c _ rfl (by lia) (by lia) λD hD=> ?_;refine A5r (D:=D) m.toNat (λi ys H3=>A0s H H3/\H3 D=some (.lst ys)/\∃zs:List Str,ys=zs.map V.str/\zs.length=i/\∀j,j<i->zs[j]? =nm[((c/8+(j:Int)*tn)%(nm.length:Int)).toNat]?) ⟨A0f hD,(i0a A0b [] rfl rfl (by intro j hj;lia))⟩ (λi ys H3 hi _=>hi) (λys H3 _=>Z09 _) ?_ ?_
   ·rintro i ys H3 hi ⟨s3,h3,zs,rfl,hz,ez⟩ x H4 ⟨rfl,rfl⟩;rw [Int.zero_add];obtain ⟨x,xm,e⟩:=A8x (f:=V.str) (xs:=nm) (i:=(c/8+(i:Int)*tn)%(nm.length:Int)) (Z1v _ (by lia)) (Z1p _ (by lia));refine i05 (i08 rfl rfl rfl rfl True.intro) _ rfl (i0y _ rfl _ _ rfl rfl ⟨by decide,by decide⟩ _ rfl (i0o _ rfl _ _ rfl rfl (i0j (.inl ⟨by lia,by lia⟩) _ _ rfl rfl (i0o _ rfl _ _ rfl rfl ⟨(by show (0:Int)<(nm.length:Int);lia),(i0x l _ _ _ rfl rfl (SqL.of (s3 _ _ hl)) e ?_)⟩))));refine i04 h3 (A1d (by simp;lia)) (A0q s3 hD) (i0a A0b (zs++[x]) (by simp) (by simp [hz]) λj hj=> ?_);rcases Nat.lt_or_ge j i with hji | hji
    ·rw [Z26 (by lia)];exact ez j hji
    ·have:j=i:=by lia
     subst this;rw [xm,Z1l (by lia),hz,Nat.sub_self];rfl
   ·rintro ys H3 ⟨s3,h3,zs,rfl,hz,ez⟩
    have zn:zs.Nodup:=D9e (f:=λj=>((c/8+(j:Int)*tn)%(nm.length:Int)).toNat) nd (λj hj=>ez j (by lia)) λi j hi hj e=>by
     have a1:=Z1v (c/8+(i:Int)*tn) (show (nm.length:Int)≠0 by lia);have a2:=Z1v (c/8+(j:Int)*tn) (show (nm.length:Int)≠0 by lia);refine D5l (m:=nm.length) (c:=c/8) (tn:=tn) (by lia) (by lia) htn (by lia) (by lia) ?_;have e:((c/8+(i:Int)*tn)%(nm.length:Int)).toNat=((c/8+(j:Int)*tn)%(nm.length:Int)).toNat:=e
     lia
    have zs':∀y∈zs,y∈nm:=λy hy=>by
     obtain ⟨j,hj⟩:=List.getElem?_of_mem hy;have hl:=(Z03.mp hj).1;rw [ez j (by lia)] at hj;exact Z13 hj
    exact k zs D H3 hD s3 h3 ⟨zn,zs',by lia⟩
theorem B1u (T:Txt K mg t):FO P w base T.cj 1 D1h:=by
 refine T.cj.F.ok A9j (λvs H Q E h=> ?_) λ_ A _ s H _ Q E hr h=> ?_
 ·refine e07 h ?_;clear h;rintro l d ys lk L ⟨rfl,_⟩;rfl
 ·refine e0d h ?_;clear h;rintro l d ys lk L rfl hl hd tl ⟨ly,k⟩;have hu:=A4z hr
  refine ⟨_,(A0c (A0l (i:=2) A9j.nd A0g)
   (A0c (A2g (A2m (pv 0)) (A0m (i:=3) A9j.nd)
    (A0e (A0l (i:=2) A9j.nd (A0n A7k (pv 2) (A0p hu (pv 1) (pv 3))))))
   (A0e (A0o (pv 2))))),?_⟩
  refine i0l _ rfl l rfl ⟨_,SqL.of hl⟩ ?_;refine A3k (K:=K) (a:=l) (xs:=ys.map V.str) (λi Z H2=>H=H2/\∃o3:Option V,Z=[Sro l,Sro d,Sio (prd L (ys.take i)),o3]) (i01 rfl none rfl) (λi Z H2 _ ⟨h,_⟩=>by rw [<-h];exact SqL.of hl) ?_ ?_
  ·rintro i x Z H2 hx ⟨rfl,o3,rfl⟩;rw [Z1z] at hx;obtain ⟨y,hy,rfl⟩:=Z0i.mp hx;obtain ⟨v1,v2⟩:=tl y (Z13 hy);have g:=A5a.k (H:=H) (a:=d) (k:=Sum.inr y) hd;rw [v1] at g;refine i10 _ rfl _ rfl _ rfl d _ rfl g (i0p _ _ rfl rfl (.inr ⟨by lia,by lia⟩) rfl ⟨some (.str y),?_⟩);rw [Z14,hy,Z2f,D1a];rfl
  ·rintro Z H2 ⟨rfl,o3,rfl⟩;rw [Z08,Z18];exact i02 _ rfl (k H (A0s.refl _))
theorem KT.same (s:A0s H H'):KT H H':=λp xs e=>s _ _ e
theorem KT.at {u:HO} (e:H l=some u) (n:∀xs,u≠.tup xs):KT H (upd H l o):=λp xs z=>by rw [A0i (A1p z e (n xs).symm)];exact z
def C7l:Sp:=λvs H Q _=>∃(c n:Int),vs=[.int c,.int n]/\0<=n/\n<=1000/\∀(p:Addr) (ms:List Int) (H':Hp),H p=none->A0s H H'->H' p=some (.lst (ms.map V.int))->ms.length=n.toNat->Q (.ref p) H'
theorem pw4:(0:Int)<10^(4:Int).toNat:=by decide
theorem B9f (T:Txt K mg t):FO P w base T.ij 1 C7l:=by
 refine T.ij.F.ok A5s (by walk_at "ln") λ_ A _ s H _ Q E hr h=> ?_
 ·obtain ⟨c,n,rfl,n0,n1,k⟩:=h
  refine ⟨_,(A0c (A0l (i:=2) A5s.nd (A4m A0d))
   (A0c (A0l (i:=3) A5s.nd (pv 0))
   (A0c (A2g (A3p rfl T.bh (A0a (pv 1) A0d)) (A0m (i:=4) A5s.nd)
    (A0c (A3t (B0u Z0k Z0n Z0o A3o (pv 2) (A0a (A0n A1i (pv 3) (A0n A7h A0g A0g)) A0d)))
    (A0e (A0l (i:=3) A5s.nd (A0n A2h (pv 3) (A0n A7h A0g A0g))))))
   (A0e (A0o (pv 2)))))),?_⟩
  refine ⟨A1j rfl,λD hD=>(i0e _ rfl _ rfl (i0c n rfl (by lia) (by lia) ?_))⟩;refine A6n (n:=n.toNat) (λj Z H2=>∃(z:Int) (ms:List Int) (o4:Option V),Z=[Sio c,Sio n,Sro D,Sio z,o4]/\A0s H H2/\H2 D=some (.lst (ms.map V.int))/\ms.length=j) (i0q c [] none rfl (A0f hD) A0b rfl) ?_ ?_
  ·rintro j Z H2 hj zz;refine e08 zz ?_;clear zz;rintro z ms o4 rfl s2 h2 lm;rw [Int.zero_add];refine i06 _ rfl (.inl (i01 rfl _ (SqL.of h2))) (i16 _ rfl _ _ rfl rfl ?_ _ _ rfl rfl pw4 (i0s D _ _ rfl rfl h2 (A1d (by rw [Z08];lia)) ?_))
   ·exact i00 (by decide) (by decide) (by decide)
   ·refine i16 _ rfl _ _ rfl rfl (i00 (by decide) (by decide) (by decide)) _ _ rfl rfl ⟨pw4,by decide⟩ ?_;exact i0q _ (ms++[z%10^(4:Int).toNat]) _ rfl (A0q s2 hD) (by rw [A0b,Z0s];rfl) (by simp [lm])
  ·rintro Z H2 zz;refine e08 zz ?_;clear zz;rintro z ms o4 rfl s2 h2 lm;exact i02 _ rfl (k D ms H2 hD s2 h2 lm)
theorem C3o (T:Txt K mg t):FO P w base T.jg 1 D9f:=by
 refine T.jg.F.ok A5l (λvs H Q E h=> ?_) λ_ A _ s H _ Q E hr h=> ?_
 ·refine e07 h ?_;clear h;rintro l d ys lk ls ⟨rfl,_⟩;rfl
 ·refine e0d h ?_;clear h;rintro l d ys lk ls rfl hl hd sz ⟨g,k⟩;have hu:=A4z hr;have lls:=Paired.length sz
  refine ⟨_,(A0c (A0l (i:=2) A5l.nd (A4m (A0a (A2j A0d) A0d)))
   (A0c (A2g (A2m (pv 0)) (A0m (i:=3) A5l.nd)
    (A0c (A0l (i:=4) A5l.nd (A4m A0d))
    (A0c (A2g (A2m (pv 2)) (A0m (i:=5) A5l.nd)
     (A0e (A3t (B0u Z0k PySem.F.slot_list_extend PySem.F.type_list_extend C7u (pv 4) (A0a (A3h (N':=["_law_number","_law_cell_here"]) (ix:=(List.replicate 1 none++[some 5])) rfl (A5j (x:="_law_cell_here") rfl rfl rfl (by decide +kernel) (by decide +kernel)) (A4j (N0:=["_law_number"]) rfl (.inl rfl) (by walk_at "ix")) (A3p rfl T.bh (A0a (A0p hu (pv 1) (pv 3)) A0d)) (λ_ _ _ _=>(A0m (i:=0) C7v)) (λ_ _ _ _=>(A0n D1j (pv 1) (A2j (A0a (pv 0) A0d))))) A0d)))))
    (A0e (A0l (i:=2) A5l.nd (pv 4))))))
   (A0e (A0o (pv 2))))),?_⟩
  refine ⟨A1j rfl,λe he=>⟨A1j rfl,λq hq=> ?_⟩⟩;have hq0:H q=none:=(A0f he).free hq;have s1:A0s H (upd (upd H e (.tup [])) q (.lst [V.ref e])):=(A0f he).trans (A0f hq)
  refine ⟨_,rfl,l,rfl,⟨_,SqL.of (s1 _ _ hl)⟩,A3k (K:=K) (a:=l) (xs:=ys.map V.str) (λi Z H2=>∃(o3 o4 o5:Option V) (q:Addr),Z=[Sro l,Sro d,Sro q,o3,o4,o5]/\A0s H H2/\H q=none/\A9y H2 q (A0t (ls.take i)))
   ⟨none,(i0q none none q rfl s1 hq0 ⟨[e],A0b,.cons (by rw [A0i (A0h A0b hq)];exact A0b) .nil⟩)⟩ (by (rintro i Z H2 _ zz;refine e01 zz ?_;clear zz;rintro _ _ _ ⟨_,_,s2,_⟩);exact SqL.of (s2 _ _ hl)) ?_ ?_⟩
  ·rintro i y Z H2 hi zz;refine e01 zz ?_;clear zz;rintro o3 o4 o5 ⟨q,rfl,s2,hq,c2⟩;obtain ⟨y,hy,rfl⟩:=A2b hi;obtain ⟨n,hn,ev⟩:=B1e sz hy;have gp:=g.pos n (Z13 hn);have cl:=A2d (ls.take i) λm hm=>(g.pos m (Z2p hm)).1;have pl:=B0m ls (λm hm=>(g.pos m hm).1) i;have gm:=g.most;have gf:=g.few;obtain ⟨ps,hq2,tp⟩:=c2.ex;have lps:=tp.len;refine ⟨A1j rfl,λL hL=> ?_⟩;have sL:A0s H2 (upd H2 L (.lst [])):=A0f hL
   refine ⟨_,rfl,q,rfl,⟨_,SqL.of (sL _ _ hq2)⟩,A3k (K:=K) (a:=q) (xs:=ps.map V.ref) (λj Z H3=>∃(o5:Option V) (qs:List Addr),Z=[Sro l,Sro d,Sro q,Sso y,Sro L,o5]/\A0s H2 H3/\H3 L=some (.lst (qs.map V.ref))/\A2s H3 qs (A9o ((A0t (ls.take i)).take j) n))
    (i0m _ [] rfl sL A0b .nil) (by rintro j Z H3 _ ⟨_,_,_,s3,_⟩;exact SqL.of (s3 _ _ hq2)) ?_ ?_⟩
   ·rintro j z Z H3 hz ⟨o5,qs,rfl,s3,h3,t3⟩;obtain ⟨pc,hpc,rfl⟩:=A2b hz;obtain ⟨c,hc,hpt⟩:=tp.get hpc;have cw:=(A3z _ c (Z13 hc)).1;rw [Z0x] at cw;have gk:=A5a.k (H:=H3) (a:=d) (k:=Sum.inr y) (s3 _ _ (s2 _ _ hd));rw [ev] at gk
    have hql:qs.length<=240000:=by
     have e:=t3.len;rw [A8p] at e;have e1:((A0t (ls.take i)).take j).length*n.toNat<=4000*60:=Nat.mul_le_mul (by rw [Z0x];lia) (by lia)
     lia
    refine i06 _ rfl (.inl (i01 rfl _ (SqL.of h3))) (i0v _ rfl _ rfl d _ rfl gk (i0c n rfl (by lia) (by lia) λD hD=> ?_));refine A5r (D:=D) n.toNat (λm zs H4=>A0s H3 H4/\H4 D=some (.lst zs)/\∃ws:List Addr,zs=ws.map V.ref/\ws.length=m/\A2s H4 ws ((List.range m).map λ(m:Nat)=>c++[(m:Int)])) ⟨A0f hD,(i0a A0b [] rfl rfl .nil)⟩ (λm zs H4 hm _=>hm) (λzs H4 _=>Z09 _) ?_ ?_
    ·rintro m zs H4 hm ⟨s4,h4,ws,rfl,lw,t4⟩ x H5 ⟨rfl,rfl⟩;rw [Int.zero_add];refine ⟨⟨rfl,True.intro⟩,(i0l _ rfl _ rfl (A1j rfl) λu hu'=> ?_)⟩;have s5:A0s H5 (upd H5 u (.tup [V.int (m:Int)])):=A0f hu';refine i0z pc u (c.map V.int) [V.int (m:Int)] rfl rfl (s5 _ _ (s4 _ _ (s3 _ _ hpt))) A0b (A4d (by simp;lia)) λq' H6 s6 hq'=> ?_;have h6:=s6 _ _ (s5 _ _ h4);refine i04 h6 (A1d (by rw [Z08];lia)) (A0q (s4.trans (s5.trans s6)) hD) (i0a A0b (ws++[q']) (by simp) (by simp [lw]) ?_);rw [List.range_succ,Z0s];have kD:KT H6 (upd H6 D (.lst (ws.map V.ref++[.ref q']))):=KT.at h6 (by intro xs z;cases z);exact A2s.snoc (kD _ _ (by rw [hq',Z0s];rfl)) ((t4.same (s5.trans s6)).imp kD)
    ·rintro zs H4 ⟨s4,h4,ws,rfl,lw,t4⟩;have h4L:=s4 _ _ h3;refine i0z L D _ _ rfl rfl h4L h4 (A4d (by rw [Z08,Z08];lia)) ?_;have kL:KT H4 (upd H4 L (.lst (qs.map V.ref++ws.map V.ref))):=KT.at h4L (by intro xs z;cases z);refine i0m _ (qs++ws) rfl (A0q (s3.trans s4) hL) (by rw [A0b,Z0s]) ?_
     have e:A9o ((A0t (ls.take i)).take (j+1)) n=A9o ((A0t (ls.take i)).take j) n++(List.range n.toNat).map λ(m:Nat)=>c++[(m:Int)]:=by
      rw [Z14,hc];simp [A9o]
     rw [e];exact B3s ((t3.same s4).imp kL) (t4.imp kL)
   ·rintro Z H3 ⟨o5,qs,rfl,s3,h3,t3⟩;refine i02 _ rfl ⟨_,(i0q _ _ L rfl (s2.trans s3) (s2.free hL) ⟨qs,h3,?_⟩)⟩;rw [Z08,lps,Z18] at t3;rw [A7i hn];exact t3
  ·rintro Z H2 zz;refine e01 zz ?_;clear zz;rintro o3 o4 o5 ⟨q,rfl,s2,hq,c2⟩;have e:ls.take (ys.map V.str).length=ls:=Z2l (by rw [Z08];lia);rw [e] at c2;exact i02 _ rfl (k q H2 hq s2 c2)
def nS (seed:Int):Nat:=(seed/8%(1+seed%8)).toNat
def mS (seed:Int):Nat:=(1+seed%8-seed/8%(1+seed%8)-1).toNat
def cbS (seed:Int):Nat:=97+(seed/1664%26).toNat
def cmS (seed k:Int):Nat:=97+((seed/64+k)%26).toNat
def C8f (seed k:Int):List Nat:=List.replicate (nS seed) (cbS seed)++cmS seed k::List.replicate (mS seed) (cbS seed)
def NmD (seed k:Int) (z:Str):Prop:=(z.cps.toList=C8f seed k/\z≠"if")\/(C8f seed k=("if":Str).cps.toList/\z="iif")
theorem C6o (seed:Int):nS seed+mS seed+1<=8:=by
 have z0:0<1+seed%8:=by lia
 have p0:0<=seed/8%(1+seed%8):=Z1v _ (by lia);have p1:seed/8%(1+seed%8)<1+seed%8:=Z1p _ z0;unfold nS mS
 lia
theorem B6e (seed k:Int):(C8f seed k).length=nS seed+mS seed+1:=by unfold C8f;simp;lia
theorem D4l {k:Int} {c:Nat} (h:c∈C8f seed k):97<=c/\c<=122:=by
 unfold C8f at h;have b1:97<=cbS seed/\cbS seed<=122:=by unfold cbS;lia
 have b2:97<=cmS seed k/\cmS seed k<=122:=by unfold cmS;lia
 rcases Z07.mp h with h | h
 ·rw [List.eq_of_mem_replicate h];exact b1
 ·rcases Z0e.mp h with rfl | h
  ·exact b2
  ·rw [List.eq_of_mem_replicate h];exact b1
theorem D6s:abc.cps.toList=List.range' 97 26:=by decide +kernel
theorem C5y {k k':Int} (k0:0<=k) (k1:k<26) (j0:0<=k') (j1:k'<26) (h:C8f seed k=C8f seed k'):k=k':=by
 unfold C8f at h;have h:=(List.append_inj h rfl).2;have h:cmS seed k=cmS seed k':=(List.cons.inj h).1;unfold cmS at h
 lia
theorem D6f {k k':Int} {z:Str} (k0:0<=k) (k1:k<26) (j0:0<=k') (j1:k'<26) (h:NmD seed k z) (h':NmD seed k' z):k=k':=by
 have l1:=B6e seed k;have l2:=B6e seed k';have e3:(("iif":Str).cps.toList).length=3:=by decide +kernel
 have e2:(("if":Str).cps.toList).length=2:=by decide +kernel
 rcases h with ⟨a,_⟩ | ⟨a,b⟩ <;> rcases h' with ⟨a',_⟩ | ⟨a',b'⟩
 ·exact C5y k0 k1 j0 j1 (by rw [<-a,<-a'])
 ·rw [b'] at a;rw [<-a] at l1;rw [a'] at l2;lia
 ·rw [b] at a';rw [<-a'] at l2;rw [a] at l1;lia
 ·exact C5y k0 k1 j0 j1 (by rw [a,a'])
theorem D8t {k:Int} {z:Str} (h:NmD seed k z):B4l z/\z≠"":=by
 rcases h with ⟨a,b⟩ | ⟨_,rfl⟩
 ·have ln:=B6e seed k;have ls:=C6o seed
  have lz':z.length=nS seed+mS seed+1:=by
   show z.cps.size=_;rw [<-Array.length_toList,a,ln]
  exact ⟨⟨by lia,A8g.mpr λc hc=>by rw [a] at hc;have:=D4l hc;lia⟩,λq=>by rw [q] at lz';have:("":Str).length=0:=rfl;lia⟩
 ·exact ⟨⟨by decide +kernel,by decide +kernel⟩,by decide +kernel⟩
theorem C5f (a b:Str):(a++b).cps.toList=a.cps.toList++b.cps.toList:=by
 show (a.cps++b.cps).toList=_;exact Array.toList_append
theorem C1l {c:Nat} (h:n<=8):(Txt.join "" (List.replicate n (⟨#[c]⟩:Str))).cps.toList=List.replicate n c:=by
 match n,h with
 | 0,_=>rfl
 | 1,_=>rfl
 | 2,_=>rfl
 | 3,_=>rfl
 | 4,_=>rfl
 | 5,_=>rfl
 | 6,_=>rfl
 | 7,_=>rfl
 | 8,_=>rfl
theorem D2p {c:Nat} (h:abc.cps.toList[i]? =some c):c=97+i:=by
 rw [D6s] at h;obtain ⟨h1,h2⟩:=Z03.mp h;rw [List.getElem_range'] at h2
 lia
def D5v:Sp:=λvs H Q _=>∃(k seed:Int),vs=[.int k,.int seed]/\∀(z:Str) (H':Hp),NmD seed k z->A0s H H'->Q (.str z) H'
theorem C8p (T:Txt K mg t):FO P w base T.l_ 1 D5v:=by
 refine T.l_.F.ok A5q (by walk_at "ln") λ_ A _ s H _ Q E hr h=> ?_
 ·obtain ⟨kk,seed,rfl,k⟩:=h
  refine ⟨_,(A0c (A0l (i:=2) A5q.nd A0u)
   (A0c (A0l (i:=3) A5q.nd (A0n A2k A0g (A0n A1i (pv 1) A0g)))
   (A0c (A0l (i:=4) A5q.nd (A0n A1i (A0n A2h (pv 1) A0g) (pv 3)))
   (A0c (A0l (i:=5) A5q.nd (A1h D2e (pv 2) (A0n A1i (A0n A2h (pv 1) A0g) A0g)))
   (A0c (A0l (i:=6) A5q.nd (A0n B4h (B0u PySem.F.plainAttrs_str PySem.F.slot_str_join PySem.F.type_str_join C8v A0u (A0a (A3h (N':=["_law_j","_law_base"]) (ix:=(List.replicate 1 none++[some 5])) rfl (A5j (x:="_law_base") rfl rfl rfl (by decide +kernel) (by decide +kernel)) (A4j (N0:=["_law_j"]) rfl (.inl rfl) (by walk_at "ix")) (A3p rfl T.bh (A0a (pv 4) A0d)) (λ_ _ _ _=>(A0m (i:=0) C5t)) (λ_ _ _ _=>(pv 1))) A0d)) (A1h D2e (pv 2) (A0n A1i (A0n A2k (A0n A2h (pv 1) A0g) (pv 0)) A0g))))
   (A0c (A0l (i:=6) A5q.nd (A0n B4h (pv 6) (B0u PySem.F.plainAttrs_str PySem.F.slot_str_join PySem.F.type_str_join C8v A0u (A0a (A3h (N':=["_law_j","_law_base"]) (ix:=(List.replicate 1 none++[some 5])) rfl (A5j (x:="_law_base") rfl rfl rfl (by decide +kernel) (by decide +kernel)) (A4j (N0:=["_law_j"]) rfl (.inl rfl) (by walk_at "ix")) (A3p rfl T.bh (A0a (A0n A5c (A0n A5c (pv 3) (pv 4)) A0g) A0d)) (λ_ _ _ _=>(A0m (i:=0) C5d)) (λ_ _ _ _=>(pv 1))) A0d))))
   (A0c (A1o (A0w A3n (pv 6) A0u (A1f _))
    (A0e (A0o A0u))
    A0r)
   (A0e (A0o (pv 6)))))))))),?_⟩
  have hs0:=C6o seed;obtain ⟨cb,b1,b2⟩:=D2m (xs:=abc.cps.toList) (i:=seed/1664%26) (by lia) (by rw [C8d];lia);obtain ⟨cm,m1,m2⟩:=D2m (xs:=abc.cps.toList) (i:=(seed/64+kk)%26) (by lia) (by rw [C8d];lia);have ecb:cb=cbS seed:=D2p b1;have ecm:cm=cmS seed kk:=D2p m1;have ens:(seed/8%(1+seed%8)).toNat=nS seed:=rfl;have ems:(1+seed%8-seed/8%(1+seed%8)-1).toNat=mS seed:=rfl;have z0:0<1+seed%8:=by lia
  have z8:1+seed%8<=8:=by lia
  have p0:0<=seed/8%(1+seed%8):=Z1v _ (by lia);have p1:seed/8%(1+seed%8)<1+seed%8:=Z1p _ z0;generalize hz:1+seed%8=size at *;generalize hp:seed/8%size=spot at *;refine i0o _ rfl _ _ rfl rfl (i0j E2f _ _ rfl rfl ?_);dsimp only;rw [hz];refine i0y _ rfl _ _ rfl rfl ⟨by decide,by decide⟩ _ rfl (i0m _ _ rfl rfl z0 ?_);dsimp only;rw [hp];refine i02 _ rfl (i16 _ rfl _ _ rfl rfl ⟨by decide,by decide⟩ _ _ rfl rfl D7g (i0s _ _ cb rfl rfl (A4d (by rw [C2f];decide)) b2 ?_))
  have many:∀(n:Nat),n<=8->((List.replicate n (⟨#[cb]⟩:Str)).map (·.length)).sum+(List.replicate n (⟨#[cb]⟩:Str)).length*("":Str).length<=16777216/\(Txt.join "" (List.replicate n (⟨#[cb]⟩:Str))).length<=1000/\PyData.strOk (Txt.join "" (List.replicate n (⟨#[cb]⟩:Str)))=true:=by
   intro n hn;have okb:cb<1114112:=D9d cb (Z13 b1);have e0:("":Str).length=0:=rfl
   have e1:((List.replicate n (⟨#[cb]⟩:Str)).map (·.length)).sum=n:=by
    clear hn
    induction n with
    | zero=>rfl
    | succ n ih=>rw [List.replicate_succ,Z0p,List.sum_cons,ih];show 1+n=n+1;lia
   refine ⟨by rw [e1,e0];lia,?_⟩
   match n,hn with
   | 0,_=>exact ⟨Nat.le_of_ble_eq_true rfl,A8g.mpr λc hc=>by rw [List.eq_of_mem_replicate (show c∈List.replicate 0 cb from hc)];exact okb⟩
   | 1,_=>exact ⟨Nat.le_of_ble_eq_true rfl,A8g.mpr λc hc=>by rw [List.eq_of_mem_replicate (show c∈List.replicate 1 cb from hc)];exact okb⟩
   | 2,_=>exact ⟨Nat.le_of_ble_eq_true rfl,A8g.mpr λc hc=>by rw [List.eq_of_mem_replicate (show c∈List.replicate 2 cb from hc)];exact okb⟩
   | 3,_=>exact ⟨Nat.le_of_ble_eq_true rfl,A8g.mpr λc hc=>by rw [List.eq_of_mem_replicate (show c∈List.replicate 3 cb from hc)];exact okb⟩
   | 4,_=>exact ⟨Nat.le_of_ble_eq_true rfl,A8g.mpr λc hc=>by rw [List.eq_of_mem_replicate (show c∈List.replicate 4 cb from hc)];exact okb⟩
   | 5,_=>exact ⟨Nat.le_of_ble_eq_true rfl,A8g.mpr λc hc=>by rw [List.eq_of_mem_replicate (show c∈List.replicate 5 cb from hc)];exact okb⟩
   | 6,_=>exact ⟨Nat.le_of_ble_eq_true rfl,A8g.mpr λc hc=>by rw [List.eq_of_mem_replicate (show c∈List.replicate 6 cb from hc)];exact okb⟩
   | 7,_=>exact ⟨Nat.le_of_ble_eq_true rfl,A8g.mpr λc hc=>by rw [List.eq_of_mem_replicate (show c∈List.replicate 7 cb from hc)];exact okb⟩
   | 8,_=>exact ⟨Nat.le_of_ble_eq_true rfl,A8g.mpr λc hc=>by rw [List.eq_of_mem_replicate (show c∈List.replicate 8 cb from hc)];exact okb⟩
  have one:(⟨#[cm]⟩:Str).length=1:=rfl;obtain ⟨l1,o1⟩:=(many spot.toNat (by lia)).2;refine i05 rfl _ rfl (i0c _ rfl (by lia) (by lia) λD hD=> ?_);refine A5r (D:=D) spot.toNat (λi ys H2=>A0s H H2/\H2 D=some (.lst ys)/\ys=(List.replicate i (⟨#[cb]⟩:Str)).map V.str) (i00 (A0f hD) A0b rfl) (λi ys H2 hi _=>hi) (λys H2 _=>Z09 _) ?_ ?_
  ·rintro i ys H2 hi ⟨s2,hD2,rfl⟩ x H3 ⟨rfl,rfl⟩;refine i01 ⟨rfl,True.intro⟩ _ (i0i rfl hD2 (A1d (by simp;lia)) (A0q s2 hD) A0b ?_);rw [List.replicate_succ',Z0s];rfl
  ·rintro ys H2 ⟨s2,hD2,rfl⟩;refine i0s _ D _ rfl rfl (SqL.of hD2) ((many _ (by lia)).1) ?_;refine i0v _ rfl _ rfl _ _ rfl rfl ⟨⟨by decide,by decide⟩,(i0o _ rfl _ _ rfl rfl (i0m _ _ rfl rfl D7g (i0s _ _ cm rfl rfl (A4d (by rw [C2f];decide)) m2 (i0m _ _ rfl rfl (A4d (by lia)) ?_))))⟩;obtain ⟨l2,o2⟩:=(many (size-spot-1).toNat (by lia)).2;refine i06 _ rfl rfl (i0v _ rfl _ rfl _ _ rfl rfl (i0f _ _ rfl rfl (i0c _ rfl (by lia) (by lia) λD2 hD2'=> ?_)));refine A5r (D:=D2) (size-spot-1).toNat (λi ys H3=>A0s H H3/\H3 D2=some (.lst ys)/\ys=(List.replicate i (⟨#[cb]⟩:Str)).map V.str) (i00 (s2.trans (A0f hD2')) A0b rfl) (λi ys H3 hi _=>hi) (λys H3 _=>Z09 _) ?_ ?_
   ·rintro i ys H3 hi ⟨s3,h3,rfl⟩ x H4 ⟨rfl,rfl⟩;refine i01 ⟨rfl,True.intro⟩ _ (i0i rfl h3 (A1d (by simp;lia)) (A0q s3 (s2.free hD2')) A0b ?_);rw [List.replicate_succ',Z0s];rfl
   ·rintro ys H3 ⟨s3,h3,rfl⟩;refine i0s _ D2 _ rfl rfl (SqL.of h3) ((many _ (by lia)).1) ?_;refine i0m _ _ rfl rfl (A4d (by rw [Str.length_append];lia)) ?_
    have raw:(Txt.join "" (List.replicate spot.toNat (⟨#[cb]⟩:Str))++(⟨#[cm]⟩:Str)++Txt.join "" (List.replicate (size-spot-1).toNat (⟨#[cb]⟩:Str))).cps.toList=C8f seed kk:=by
     rw [C5f,C5f,C1l (by lia),C1l (by lia),ens,ems,ecb,ecm];unfold C8f;rw [Z0z];rfl
    refine i0k _ rfl rfl _ rfl (A2n (λhif=>k _ H3 (.inr ⟨by rw [<-raw,V.str.inj hif],rfl⟩) s3) (λhif=>(i02 _ rfl (k _ H3 (.inl ⟨raw,λz=>hif (by rw [z])⟩) s3))))
def D6l (k:Int):Op3:=if k=0 then .plus else if k=1 then .minus else .times
inductive A6p (H:Hp):V->Tm->Prop
 | num {a:Addr} {z:Int}:H a=some (.tup [.str "number",.int z])->A6p H (.ref a) (.num z)
 | place {a:Addr} {x:Str}:H a=some (.tup [.str "place",.str x])->A6p H (.ref a) (.place x)
 | read {a l:Addr} {x:Str} {ix:List (Str×Int)}:H a=some (.tup [.str "read",.str x,.ref l])->Rep H (.ref l) (A5e ix)->A6p H (.ref a) (.read x ix)
 | sum {a:Addr} {x:Str} {u:V} {b:Tm}:H a=some (.tup [.str "sum",.str x,u])->A6p H u b->A6p H (.ref a) (.sum x b)
 | pair {a:Addr} {k:Int} {u w:V} {l r:Tm}:H a=some (.tup [.str "pair",.int k,u,w])->A6p H u l->A6p H w r->A6p H (.ref a) (.pair (D6l k) l r)
 | guard {a:Addr} {x:Str} {lo hi:Int} {u w:V} {l r:Tm}:H a=some (.tup [.str "guard",.str x,.int lo,.int hi,u,w])->A6p H u l->A6p H w r->A6p H (.ref a) (.guard x lo hi l r)
theorem A6p.ki (f:KI H H') {t:Tm} (h:A6p H v t):A6p H' v t:=by
 have g:∀b xs,H b=some (.tup xs)->H' b=some (.tup xs):=λb xs e=>f b _ (by intro n ys z;cases z) e
 induction h with
 | num e=>exact .num (g _ _ e)
 | place e=>exact .place (g _ _ e)
 | read e r=>exact .read (g _ _ e) (Rep.ki f r (D6z _))
 | sum e _ i1=>exact .sum (g _ _ e) i1
 | pair e _ _ i1 i2=>exact .pair (g _ _ e) i1 i2
 | guard e _ _ i1 i2=>exact .guard (g _ _ e) i1 i2
theorem A6p.same (s:A0s H H') {t:Tm} (h:A6p H v t):A6p H' v t:=h.ki (KI.of s)
theorem sno (h:(V.str x)=V.str y) (hn:¬x=y):False:=hn (V.str.inj h)
theorem E1o {a b:Str} (h:decide (a=b)=false):A2r (((Sum.inr a:Key),v)::r) (Sum.inr b)=A2r r (Sum.inr b):=A1x (λz=>by injection z with z;rw [Z20 z] at h;cases h)
structure C4r (lk:List (Key×V)) (L:Str->Int) (nm:List Str):Prop where
 eq:lk=nm.map λy=>((Sum.inr y:Key),V.int (L y))
 nd:nm.Nodup
 few:nm.length<=8
 ok:∀y∈nm,1<=L y/\L y<=60/\y≠""/\PyData.strOk y=true
theorem B6d {L:Str->Int} {y:Str}:∀{nm:List Str},y∈nm->A2r (nm.map λy=>((Sum.inr y:Key),V.int (L y))) (Sum.inr y)=some (.int (L y))
 | x::r,h=>by
  by_cases e:x=y
  ·subst e;exact A2c rfl
  ·rw [Z0p,A1x (λz=>e (Sum.inr.inj z))];exact B6d ((Z0e.mp h).resolve_left (Ne.symm e))
theorem C4r.val (h:C4r lk L nm) (hy:y∈nm):A2r lk (Sum.inr y)=some (.int (L y)):=by
 rw [h.eq];exact B6d hy
structure Abt where
 ax:Addr
 ld:Addr
 ah:Addr
 sh:Addr
 own:Str
 tr:Addr
 wh:Int
def abK (x:Abt):List (Key×V):=[(Sum.inr "axes",.ref x.ax),(Sum.inr "lengths",.ref x.ld),(Sum.inr "ahead",.ref x.ah),(Sum.inr "shapes",.ref x.sh),(Sum.inr "own",.str x.own),(Sum.inr "trees",.ref x.tr),(Sum.inr "wheel",.int x.wh)]
local macro_rules | `(tactic| walk_at "ab") => `(tactic| first | exact A2c rfl | (refine (E1o (by decide +kernel)).trans ?_; walk_at "ab"))
theorem C0j (x:Abt):A2r (abK x) (Sum.inr "axes")=some (.ref x.ax):=by unfold abK;walk_at "ab"
theorem A2t (x:Abt):A2r (abK x) (Sum.inr "lengths")=some (.ref x.ld):=by unfold abK;walk_at "ab"
theorem B5o (x:Abt):A2r (abK x) (Sum.inr "ahead")=some (.ref x.ah):=by unfold abK;walk_at "ab"
theorem A4g (x:Abt):A2r (abK x) (Sum.inr "shapes")=some (.ref x.sh):=by unfold abK;walk_at "ab"
theorem C2e (x:Abt):A2r (abK x) (Sum.inr "own")=some (.str x.own):=by unfold abK;walk_at "ab"
theorem B6i (x:Abt):A2r (abK x) (Sum.inr "trees")=some (.ref x.tr):=by unfold abK;walk_at "ab"
theorem B1d (x:Abt):A2r (abK x) (Sum.inr "wheel")=some (.int x.wh):=by unfold abK;walk_at "ab"
structure D6p (L:Str->Int) (nm:List Str) (es:List (Str×List Str)):Prop where
 nd:(es.map (·.1)).Nodup
 ax:∀e∈es,AxN nm e.2
 few:es.length<=20
 str:∀e∈es,B4l e.1
structure D6q (H:Hp) (ab:Addr) (x:Abt) (L:Str->Int) (nm:List Str) (ahs:List Str) (es:List (Str×List Str)):Prop where
 d:H ab=some (.dK (abK x))
 ax:H x.ax=some (.lst (nm.map V.str))
 le:∃lk,H x.ld=some (.dK lk)/\C4r lk L nm
 ah:H x.ah=some (.lst (ahs.map V.str))
 sh:∃ak,H x.sh=some (.dK ak)/\AR (λb=>b≠x.ah) H ak es
theorem D6q.ki {x:Abt} {ahs:List Str} (h:D6q H ab x L nm ahs es) (k:KI H H'):D6q H' ab x L nm ahs es:=by
 obtain ⟨d,a,⟨lk,l1,l2⟩,b,⟨ak,h1,h2⟩⟩:=h;exact ⟨k.dk d,k.str a,(i02 lk (k.dk l1) l2),k.str b,(i02 ak (k.dk h1) (Paired.mapP h2 (by rintro _ _ ⟨z1,b,z2,z3,z4⟩;exact i0a z1 b z2 z3 (k.str z4))))⟩
theorem D6q.get {x:Abt} {ahs:List Str} (h:D6q H ab x L nm ahs es) {k:Str} (e:A2r (abK x) (Sum.inr k)=some v):A5a H ab (.str k) (some v):= .inl (i0f _ (Sum.inr k) (.inl h.d) rfl e.symm)
theorem B7l {S:Addr->Prop} {H:Hp}:∀{ak:List (Key×V)} {es:List (Str×List Str)},AR S H ak es->(es.map (·.1)).Nodup->∀{e:Str×List Str},e∈es->∃b,A2r ak (Sum.inr e.1)=some (.ref b)/\S b/\H b=some (.lst (e.2.map V.str))
 | _,_,.nil,_,_,h=>by cases h
 | _,_,@Paired.cons _ _ _ p q ps qs r t,nd,e,h=>by
  obtain ⟨z1,b,z2,z3,z4⟩:=r;rw [Z0p,Z15] at nd;rcases Z0e.mp h with rfl | h
  ·exact i06 b (by rw [<-z2];exact A2c z1) z3 z4
  ·obtain ⟨c,c1,c2⟩:=B7l t nd.2 h;exact i02 c (by rw [A1x (λz=>nd.1 (by rw [Sum.inr.inj (z1.symm.trans z)];exact List.mem_map_of_mem h))];exact c1) c2
theorem B0g:∀(n:Nat) (ls c:List Int),ls.length=n->Within c ls->c∈A0t ls
 | 0,ls,c,hn,w=>by
  have e1:ls=[]:=List.eq_nil_of_length_eq_zero hn;subst e1;have e2:c=[]:=List.eq_nil_of_length_eq_zero w.1;subst e2;exact Z0w.mpr rfl
 | n+1,ls,c,hn,w=>by
  obtain ⟨r,m,rfl⟩:∃r m,ls=r++[m]:=⟨ls.dropLast,ls.getLast (by intro z;rw [z] at hn;cases hn),(List.dropLast_concat_getLast _).symm⟩;have hc:=w.1;rw [Z06,Z0j] at hc hn;obtain ⟨d,x,rfl⟩:∃d x,c=d++[x]:=⟨c.dropLast,c.getLast (by intro z;rw [z] at hc;cases hc),(List.dropLast_concat_getLast _).symm⟩;rw [Z06,Z0j] at hc;have hd:d.length=r.length:=by lia
  have w':Within d r:=⟨hd,λk y l e1 e2=>w.2 k y l (by rw [Z26 (Z03.mp e1).1];exact e1) (by rw [Z26 (Z03.mp e2).1];exact e2)⟩;have ih:=B0g n r d (by lia) w';have hx:=w.2 d.length x m (by rw [Z1l (Z09 _),Nat.sub_self];rfl) (by rw [hd,Z1l (Z09 _),Nat.sub_self];rfl);rw [A4n];unfold A9o;refine List.mem_flatMap.mpr (i02 d ih (Z2c.mpr (i02 x.toNat (List.mem_range.mpr (by lia)) ?_)));rw [Int.toNat_of_nonneg hx.1]
def Bnd (L:Str->Int) (bs:List Str) (f:Str->Int):Prop:=∀x∈bs,0<=f x/\f x<L x
structure A7q (L:Str->Int) (nm:List Str) (es:List (Str×List Str)) (own:Str) (oy bs:List Str) (n:Nat) (u:Tm):Prop where
 gd:B8r u
 ax:Axs nm u
 fv:∀x,Fv u x->x∈bs
 dp:dep u<=n
 rin:∀f,Bnd L bs f->∀r∈rd L u f,∃ys,(r.1,ys)∈es/\Within r.2 (ys.map L)/\(r.1=own->A5v r.2 (oy.map f))
section
variable {L:Str->Int} {nm:List Str} {es:List (Str×List Str)} {own:Str} {oy bs:List Str} {n:Nat}
theorem A7q.num (hz:Sm z) (h:1<=n):A7q L nm es own oy bs n (.num z):=⟨hz,True.intro,λ_ h=>h.elim,h,λ_ _ r hr=>by cases hr⟩
theorem A7q.mono {n':Nat} (h:A7q L nm es own oy bs n u) (hn:n<=n'):A7q L nm es own oy bs n' u:=⟨h.gd,h.ax,h.fv,Z1n h.dp hn,h.rin⟩
theorem A7q.place (hx:x∈bs) (hn:x∈nm) (ok:B4l x) (h:1<=n):A7q L nm es own oy bs n (.place x):=⟨ok,hn,λy h=>by rw [show y=x from h];exact hx,h,λ_ _ r hr=>by cases hr⟩
theorem A7q.pair {o:Op3} {a b:Tm} (h1:A7q L nm es own oy bs n a) (h2:A7q L nm es own oy bs n b):A7q L nm es own oy bs (n+1) (.pair o a b):=by
 have d1:=h1.dp;have d2:=h2.dp;refine ⟨⟨h1.gd,h2.gd⟩,⟨h1.ax,h2.ax⟩,λx h=>h.elim (h1.fv x) (h2.fv x),?_,λf hf r hr=> ?_⟩
 ·simp only [dep];lia
 ·simp only [rd] at hr;rcases Z07.mp hr with hr | hr
  ·exact h1.rin f hf r hr
  ·exact h2.rin f hf r hr
theorem A7q.guard {a b:Tm} (hx:x∈bs) (hn:x∈nm) (ok:B4l x) (sl:Sm lo) (sh:Sm hi) (h1:A7q L nm es own oy bs n a) (h2:A7q L nm es own oy bs n b):A7q L nm es own oy bs (n+1) (.guard x lo hi a b):=by
 have d1:=h1.dp;have d2:=h2.dp;refine ⟨(i08 ok sl sh h1.gd h2.gd),(i00 hn h1.ax h2.ax),λy h=> ?_,?_,λf hf r hr=> ?_⟩
 ·rcases h with h | h | h
  ·rw [show y=x from h];exact hx
  ·exact h1.fv y h
  ·exact h2.fv y h
 ·simp only [dep];lia
 ·simp only [rd] at hr;split at hr
  ·exact h1.rin f hf r hr
  ·exact h2.rin f hf r hr
theorem A7q.sum {b:Tm} (hx:x∉bs) (hn:x∈nm) (ok:B4l x) (ob:∀y∈oy,y∈bs) (h:A7q L nm es own oy (bs++[x]) n b):A7q L nm es own oy bs (n+1) (.sum x b):=by
 have d1:=h.dp;refine ⟨⟨ok,h.gd⟩,⟨hn,h.ax⟩,λy hy=> ?_,?_,λf hf r hr=> ?_⟩
 ·obtain ⟨h1,h2⟩:=hy;rcases Z07.mp (h.fv y h2) with z | z
  ·exact z
  ·exact absurd (Z0w.mp z) h1
 ·simp only [dep];lia
 ·simp only [rd] at hr;obtain ⟨k,hk,hr⟩:=List.mem_flatMap.mp hr;have hk:=List.mem_range.mp hk;have e0:A8y f x (k:Int) x=(k:Int):=by unfold A8y;rw [Z12 rfl]
  have e1:∀y∈bs,A8y f x (k:Int) y=f y:=λy hy=>by
   have ne:¬y=x:=λz=>hx (by rw [<-z];exact hy);unfold A8y;rw [Z0t ne]
  have bn:Bnd L (bs++[x]) (A8y f x (k:Int)):=by
   intro y hy;rcases Z07.mp hy with z | z
   ·rw [e1 y z];exact hf y z
   ·rw [Z0w.mp z,e0];lia
  obtain ⟨ys,h1,h2,h3⟩:=h.rin (A8y f x (k:Int)) bn r hr;refine i06 ys h1 h2 λz=> ?_;have:=h3 z
  rwa [List.map_congr_left λy hy=>e1 y (ob y hy)] at this
end
def wkM (L:Str->Int):Tm->Int
 | .sum x b=>1+L x*wkM L b
 | .pair _ l r=>1+wkM L l+wkM L r
 | .guard _ _ _ l r=>1+wkM L l+wkM L r
 | _=>1
theorem A8h {L:Str->Int} {nm:List Str} (h:∀y∈nm,1<=L y):∀u:Tm,Axs nm u->1<=wkM L u
 | .num _,_=>Int.le_refl _
 | .place _,_=>Int.le_refl _
 | .read _ _,_=>Int.le_refl _
 | .sum x b,a=>by
  have h1:=A8h h b a.2;have h2:=h x a.1;have:0<=L x*wkM L b:=Int.mul_nonneg (by lia) (by lia);show 1<=1+L x*wkM L b
  lia
 | .pair _ l r,a=>by
  have h1:=A8h h l a.1;have h2:=A8h h r a.2;show 1<=1+wkM L l+wkM L r
  lia
 | .guard _ _ _ l r,a=>by
  have h1:=A8h h l a.2.1;have h2:=A8h h r a.2.2;show 1<=1+wkM L l+wkM L r
  lia
theorem C4n {L:Str->Int} {nm:List Str} (h:∀y∈nm,1<=L y):∀(u:Tm),Axs nm u->∀f,((rd L u f).length:Int)<=wkM L u
 | .num _,_,_=>by show (0:Int)<=1;decide
 | .place _,_,_=>by show (0:Int)<=1;decide
 | .read _ _,_,_=>by show (1:Int)<=1;decide
 | .sum x b,a,f=>by
  have h2:=h x a.1;have h0:=A8h h b a.2
  have key:((rd L (.sum x b) f).length:Int)<=((L x).toNat:Int)*wkM L b:=by
   show ((((List.range (L x).toNat).flatMap λ(k:Nat)=>rd L b (A8y f x (k:Int)))).length:Int)<=_;generalize (L x).toNat=m
   induction m with
   | zero=>simp
   | succ m ih =>
    rw [List.range_succ,List.flatMap_append,List.flatMap_singleton,Z06];have h1:=C4n h b a.2 (A8y f x (m:Int));have e:((m+1:Nat):Int)*wkM L b=(m:Int)*wkM L b+wkM L b:=by push_cast;rw [Int.add_mul,Int.one_mul]
    rw [e]
    push_cast
    lia
  rw [Int.toNat_of_nonneg (by lia)] at key;show _<=1+L x*wkM L b
  lia
 | .pair _ l r,a,f=>by
  have h1:=C4n h l a.1 f;have h2:=C4n h r a.2 f;show ((rd L l f++rd L r f).length:Int)<=1+wkM L l+wkM L r;rw [Z06]
  push_cast
  lia
 | .guard x lo hi l r,a,f=>by
  have h1:=C4n h l a.2.1 f;have h2:=C4n h r a.2.2 f;have p1:=A8h h l a.2.1;have p2:=A8h h r a.2.2;show ((if lo<=f x/\f x<hi then rd L l f else rd L r f).length:Int)<=1+wkM L l+wkM L r;split <;> lia
def D1f (n:Nat):Sp:=λvs H Q _=>∃(v:V) (d:Addr) (u:Tm) (lk:List (Key×V)) (L:Str->Int) (nm:List Str),vs=[v,.ref d]/\A6p H v u/\dep u<=n/\Axs nm u/\H d=some (.dK lk)/\C4r lk L nm/\Q (.int (wkM L u)) H
theorem B6o (T:Txt K mg t):∀n:Nat,A4c P w K mg base CX0 n t.ot t.oH D0c (D1f n)
 | 0=>A4c.none (by (rintro vs H Q E zz;refine e07 zz ?_;clear zz;rintro v d u lk L ⟨nm,_,_,h,_⟩);have:=B1l u;lia)
 | n+1=>by
  have Gb9:=B6o T n;refine T.bt.F.ok C5g (λvs H Q E h=> ?_) λ_ A _ s H _ Q E hr h=> ?_
  ·refine e07 h ?_;clear h;rintro v d u lk L ⟨nm,rfl,_⟩;rfl
  ·refine e0f h ?_;clear h;rintro v d u lk L nm rfl tr hd ax hl ⟨lok,k⟩;have hu:=A4z hr
   refine ⟨_,(A0c (A1o (A0w A3n (A1h A1g (pv 0) A0g) A0u (A1f _))
    (A0e (A0o (A0n A2k A0g (A0n A7k (A0p hu (pv 1) (A1h A1g (pv 0) A0g)) (pcl Gb9 hr T.bt (A0a (A1h A1g (pv 0) A0g) (A0a (pv 1) A0d)))))))
    A0r)
   (A0c (A1o (A0w A3n (A1h A1g (pv 0) A0g) A0u (A1f _))
    (A0e (A0o (A0n A2k (A0n A2k A0g (pcl Gb9 hr T.bt (A0a (A1h A1g (pv 0) A0g) (A0a (pv 1) A0d)))) (pcl Gb9 hr T.bt (A0a (A1h A1g (pv 0) A0g) (A0a (pv 1) A0d))))))
    A0r)
   (A0c (A1o (A0w A3n (A1h A1g (pv 0) A0g) A0u (A1f _))
    (A0e (A0o (A0n A2k (A0n A2k A0g (pcl Gb9 hr T.bt (A0a (A1h A1g (pv 0) A0g) (A0a (pv 1) A0d)))) (pcl Gb9 hr T.bt (A0a (A1h A1g (pv 0) A0g) (A0a (pv 1) A0d))))))
    A0r)
   (A0e (A0o A0g))))),?_⟩
   cases tr with
   | num e =>
    refine i1b _ rfl _ _ _ _ rfl rfl (SqT.of e) (A0j (j:=0) rfl) rfl _ rfl (A2n (λh=>(sno h (by decide)).elim) (λ_=> ?_));refine i1b _ rfl _ _ _ _ rfl rfl (SqT.of e) (A0j (j:=0) rfl) rfl _ rfl (A2n (λh=>(sno h (by decide)).elim) (λ_=> ?_));exact i1b _ rfl _ _ _ _ rfl rfl (SqT.of e) (A0j (j:=0) rfl) rfl _ rfl (A2n (λh=>(sno h (by decide)).elim) (λ_=>k))
   | place e =>
    refine i1b _ rfl _ _ _ _ rfl rfl (SqT.of e) (A0j (j:=0) rfl) rfl _ rfl (A2n (λh=>(sno h (by decide)).elim) (λ_=> ?_));refine i1b _ rfl _ _ _ _ rfl rfl (SqT.of e) (A0j (j:=0) rfl) rfl _ rfl (A2n (λh=>(sno h (by decide)).elim) (λ_=> ?_));exact i1b _ rfl _ _ _ _ rfl rfl (SqT.of e) (A0j (j:=0) rfl) rfl _ rfl (A2n (λh=>(sno h (by decide)).elim) (λ_=>k))
   | read e r =>
    refine i1b _ rfl _ _ _ _ rfl rfl (SqT.of e) (A0j (j:=0) rfl) rfl _ rfl (A2n (λh=>(sno h (by decide)).elim) (λ_=> ?_));refine i1b _ rfl _ _ _ _ rfl rfl (SqT.of e) (A0j (j:=0) rfl) rfl _ rfl (A2n (λh=>(sno h (by decide)).elim) (λ_=> ?_));exact i1b _ rfl _ _ _ _ rfl rfl (SqT.of e) (A0j (j:=0) rfl) rfl _ rfl (A2n (λh=>(sno h (by decide)).elim) (λ_=>k))
   | @sum _ x u b e o1 =>
    refine i1b _ rfl _ _ _ _ rfl rfl (SqT.of e) (A0j (j:=0) rfl) rfl _ rfl (A2n (λ_=> ?_) (λh=>absurd rfl h));have hd':=hd;simp only [dep] at hd';have g:=A5a.k (H:=H) (a:=d) (k:=Sum.inr x) hl;rw [lok.val ax.1] at g;have lx:=lok.ok x ax.1;exact i13 _ rfl _ rfl _ _ _ _ rfl rfl (SqT.of e) (i0j (A0j (j:=1) rfl) d _ rfl g (i11 _ rfl _ _ _ _ rfl rfl (SqT.of e) (A0j (j:=2) rfl) (i02 _ rfl (i19 u d b lk L nm rfl o1 (by lia) ax.2 hl lok (i0f _ _ rfl rfl (i0j (.inl ⟨by lia,by lia⟩) _ _ rfl rfl k))))))
   | @pair _ _ u w' l r e o1 o2 =>
    refine i1b _ rfl _ _ _ _ rfl rfl (SqT.of e) (A0j (j:=0) rfl) rfl _ rfl (A2n (λh=>(sno h (by decide)).elim) (λ_=> ?_));refine i1b _ rfl _ _ _ _ rfl rfl (SqT.of e) (A0j (j:=0) rfl) rfl _ rfl (A2n (λ_=> ?_) (λh=>absurd rfl h));have hd':=hd;simp only [dep] at hd';exact i11 _ rfl _ _ _ _ rfl rfl (SqT.of e) (A0j (j:=2) rfl) (i02 _ rfl (i19 u d l lk L nm rfl o1 (by lia) ax.1 hl lok (i0f _ _ rfl rfl (i11 _ rfl _ _ _ _ rfl rfl (SqT.of e) (A0j (j:=3) rfl) (i02 _ rfl (i19 w' d r lk L nm rfl o2 (by lia) ax.2 hl lok (i0f _ _ rfl rfl k)))))))
   | @guard _ _ _ _ u w' l r e o1 o2 =>
    refine i1b _ rfl _ _ _ _ rfl rfl (SqT.of e) (A0j (j:=0) rfl) rfl _ rfl (A2n (λh=>(sno h (by decide)).elim) (λ_=> ?_));refine i1b _ rfl _ _ _ _ rfl rfl (SqT.of e) (A0j (j:=0) rfl) rfl _ rfl (A2n (λh=>(sno h (by decide)).elim) (λ_=> ?_));refine i1b _ rfl _ _ _ _ rfl rfl (SqT.of e) (A0j (j:=0) rfl) rfl _ rfl (A2n (λ_=> ?_) (λh=>absurd rfl h));have hd':=hd;simp only [dep] at hd';exact i11 _ rfl _ _ _ _ rfl rfl (SqT.of e) (A0j (j:=4) rfl) (i02 _ rfl (i19 u d l lk L nm rfl o1 (by lia) ax.2.1 hl lok (i0f _ _ rfl rfl (i11 _ rfl _ _ _ _ rfl rfl (SqT.of e) (A0j (j:=5) rfl) (i02 _ rfl (i19 w' d r lk L nm rfl o2 (by lia) ax.2.2 hl lok (i0f _ _ rfl rfl k)))))))
def D6d (A:Adr) (n:Nat):Sp:=λvs H Q _=>∃(v:V) (u:Tm),vs=[v]/\A6p H v u/\dep u<=n/\B8r u/\∀(v':V) (H':Hp),A0s H H'->Ob A (A1w (λb=>H b=none) H') v' u->Q v' H'
theorem B5f (T:Txt K mg t):FP P w mg base T.ff 1 (C1h K "axis"):=by
 refine T.ff.F.ok B5z (by walk_at "ln") λ_ A _ s H _ Q E hr h=> ?_
 ·refine e0c h ?_;clear h;rintro p C dx v rfl hp cl na k;exact i02 _ (A0e (A3i (pv 0) (pv 1) rfl)) (i1a _ rfl _ rfl p C dx [] rfl hp cl na (by decide) k)
theorem C0l (T:Txt K mg t):FP P w mg base T.ip 1 (C1w K "axis" "body"):=by
 refine T.ip.F.ok B9h (λvs H Q E h=> ?_) λ_ A _ s H _ Q E hr h=> ?_
 ·refine e07 h ?_;clear h;rintro p C dx v u ⟨rfl,_⟩;rfl
 ·refine e0d h ?_;clear h;rintro p C dx v u rfl hp cl n1 ⟨n2,k⟩
  refine ⟨_,(A0c (A3i (pv 0) (pv 1) rfl)
   (A0e (A3i (pv 0) (pv 2) rfl))),_,rfl,_,rfl,p,C,dx,[],rfl,hp,cl,n1,(by decide),_,rfl,_,rfl,p,C,dx,_,rfl,A0b,cl,n2,(by show 1<1000;decide),?_⟩
  show Q V.non (upd (upd H p _) p (.ins C dx (A6b "body" u (A6b "axis" v []))));rw [A8o,A1v,A1r (by decide +kernel),A1v];exact k
theorem B7t (T:Txt K mg t):∀n:Nat,A4c P w K mg base CX0 (n+6) t.oF t.oz ["_law_tree"] (D6d t n)
 | 0=>A4c.none (by rintro vs H Q E ⟨v,u,_,_,h,_⟩;have:=B1l u;lia)
 | n+1=>by
  have Gc0:=B7t T n;have Gc1:= @B3j P w K mg base t T;have Gc2:= @B5f P w K mg base t T;have Gc3:= @B8h P w K mg base t T;have Gc4:= @B5c P w K mg base t T;have Gc5:= @B8f P w K mg base t T;have Gc6:= @C0l P w K mg base t T;refine T.cu.F.ok B3c (λvs H Q E h=> ?_) λ_ A _ s H _ Q E hr h=> ?_
  ·obtain ⟨v,u,rfl,_⟩:=h;rfl
  ·refine e06 h ?_;clear h;rintro v u rfl tr hd ⟨gd,k⟩
   refine ⟨_,(A0c (A1o (A0w A3n (A1h A1g (pv 0) A0g) A0u (A1f _))
    (A0e (A0o (pmk T.p6 Gc1 hr T.pL T.d_.b (A0a (A1h A1g (pv 0) A0g) A0d))))
    A0r)
   (A0c (A1o (A0w A3n (A1h A1g (pv 0) A0g) A0u (A1f _))
    (A0e (A0o (pmk T.pX Gc2 hr T.p_ T.ff.b (A0a (A1h A1g (pv 0) A0g) A0d))))
    A0r)
   (A0c (A1o (A0w A3n (A1h A1g (pv 0) A0g) A0u (A1f _))
    (A0e (A0o (pmk T.q9 Gc3 hr T.qv T.gq.b (A0a (A1h A1g (pv 0) A0g) (A0a (A2a A4x (by rfl) T.cv Z1o (A0a (A1h A1g (pv 0) A0g) A0d)) A0d)))))
    A0r)
   (A0c (A1o (A0w A3n (A1h A1g (pv 0) A0g) A0u (A1f _))
    (A0e (A0o (pmk T.qr Gc6 hr T.qA T.ip.b (A0a (A1h A1g (pv 0) A0g) (A0a (pcl Gc0 hr T.cu (A0a (A1h A1g (pv 0) A0g) A0d)) A0d)))))
    A0r)
   (A0c (A1o (A0w A3n (A1h A1g (pv 0) A0g) A0u (A1f _))
    (A0e (A0o (pmk T.pS Gc4 hr T.qc T.fk.b (A0a (A1h A1g (pv 0) A0g) (A0a (A1h A1g (pv 0) A0g) (A0a (A1h A1g (pv 0) A0g) (A0a (pcl Gc0 hr T.cu (A0a (A1h A1g (pv 0) A0g) A0d)) (A0a (pcl Gc0 hr T.cu (A0a (A1h A1g (pv 0) A0g) A0d)) A0d))))))))
    A0r)
   (A0c (A0l (i:=1) B3c.nd (pcl Gc0 hr T.cu (A0a (A1h A1g (pv 0) A0g) A0d)))
   (A0c (A0l (i:=2) B3c.nd (pcl Gc0 hr T.cu (A0a (A1h A1g (pv 0) A0g) A0d)))
   (A0c (A1o (A0w A3n (A1h A1g (pv 0) A0g) A0g (A1f _))
    (A0e (A0o (pmk T.qb Gc5 hr T.ql T.bu.b (A0a (pv 1) (A0a (pv 2) A0d)))))
    A0r)
   (A0c (A1o (A0w A3n (A1h A1g (pv 0) A0g) A0g (A1f _))
    (A0e (A0o (pmk T.pJ Gc5 hr T.pZ T.bu.b (A0a (pv 1) (A0a (pv 2) A0d)))))
    A0r)
   (A0e (A0o (pmk T.pF Gc5 hr T.qd T.bu.b (A0a (pv 1) (A0a (pv 2) A0d)))))))))))))),?_⟩
   cases tr with
   | num e =>
    refine i1b _ rfl _ _ _ _ rfl rfl (SqT.of e) (A0j (j:=0) rfl) rfl _ rfl (A2n (λ_=> ?_) (λh=>absurd rfl h));refine i11 _ rfl _ _ _ _ rfl rfl (SqT.of e) (A0j (j:=1) rfl) λx dx hx hdx hne=>(i0z x _ dx _ rfl A0b T.je T.e8 rfl ?_);exact k _ _ (A3v hx hdx) (.num (A1a hx A0b))
   | place e =>
    refine i1b _ rfl _ _ _ _ rfl rfl (SqT.of e) (A0j (j:=0) rfl) rfl _ rfl (A2n (λh=>(sno h (by decide)).elim) (λ_=> ?_));refine i1b _ rfl _ _ _ _ rfl rfl (SqT.of e) (A0j (j:=0) rfl) rfl _ rfl (A2n (λ_=> ?_) (λh=>absurd rfl h));refine i11 _ rfl _ _ _ _ rfl rfl (SqT.of e) (A0j (j:=1) rfl) λx dx hx hdx hne=>(i0z x _ dx _ rfl A0b T.lu T.ig rfl ?_);exact k _ _ (A3v hx hdx) (.place (A1a hx A0b))
   | @read _ l arr ix e r =>
    refine i1b _ rfl _ _ _ _ rfl rfl (SqT.of e) (A0j (j:=0) rfl) rfl _ rfl (A2n (λh=>(sno h (by decide)).elim) (λ_=> ?_));refine i1b _ rfl _ _ _ _ rfl rfl (SqT.of e) (A0j (j:=0) rfl) rfl _ rfl (A2n (λh=>(sno h (by decide)).elim) (λ_=> ?_));refine i1b _ rfl _ _ _ _ rfl rfl (SqT.of e) (A0j (j:=0) rfl) rfl _ rfl (A2n (λ_=> ?_) (λh=>absurd rfl h));have gd:ix.length<=3:=gd.2.1
    cases r with
    | @lst _ iv _ hl ri =>
    refine i11 _ rfl _ _ _ _ rfl rfl (SqT.of e) (A0j (j:=1) rfl) (i11 _ rfl _ _ _ _ rfl rfl (SqT.of e) (A0j (j:=2) rfl) (i0f l _ rfl (.inl (SqL.of hl)) λl2 hl2 x dx hx hdx hne=> ?_));have v1:A0s H (upd H l2 (.lst iv)):=A0f hl2;have hl21:upd H l2 (.lst iv) l2=some (.lst iv):=A0b;generalize upd H l2 (.lst iv)=G1 at v1 hl21 hx hdx⊢;have v2:A0s G1 (upd (upd G1 dx (.own x)) x (.ins t.ba dx [])):=A0q (A0f hdx) hx;have hx2:upd (upd G1 dx (.own x)) x (.ins t.ba dx []) x=some (.ins t.ba dx []):=A0b;generalize upd (upd G1 dx (.own x)) x (.ins t.ba dx [])=G2 at v2 hx2⊢;refine ⟨x,(i0x dx l2 arr ix rfl hx2 (.lst (v2 _ _ hl21) (ri.same (v1.trans v2))) (by lia) λl' G3 hx3 rp3 kb3=>⟨rfl,?_⟩)⟩;have v3:A0s G1 G3:=λb o e=>kb3 b o (A0h e hx) (v2 _ _ e);exact k (.ref x) G3 (v1.trans v3) (.read (A1a (v1.free hx) hx3) (rp3.same (A3e (A0s.refl _) λa o _ h=>(v1.trans v2).free h)))
   | @sum _ x u b e o1 =>
    refine i1b _ rfl _ _ _ _ rfl rfl (SqT.of e) (A0j (j:=0) rfl) rfl _ rfl (A2n (λh=>(sno h (by decide)).elim) (λ_=> ?_));refine i1b _ rfl _ _ _ _ rfl rfl (SqT.of e) (A0j (j:=0) rfl) rfl _ rfl (A2n (λh=>(sno h (by decide)).elim) (λ_=> ?_));refine i1b _ rfl _ _ _ _ rfl rfl (SqT.of e) (A0j (j:=0) rfl) rfl _ rfl (A2n (λh=>(sno h (by decide)).elim) (λ_=> ?_));refine i1b _ rfl _ _ _ _ rfl rfl (SqT.of e) (A0j (j:=0) rfl) rfl _ rfl (A2n (λ_=> ?_) (λh=>absurd rfl h));have hd':=hd;simp only [dep] at hd';refine i11 _ rfl _ _ _ _ rfl rfl (SqT.of e) (A0j (j:=1) rfl) (i11 _ rfl _ _ _ _ rfl rfl (SqT.of e) (A0j (j:=2) rfl) (i0p u b rfl o1 (by lia) gd.2 λv1 H1 s1 ob1=>λx dx hx hdx hne=>(i12 x _ dx _ _ rfl A0b T.lf T.ga T.jn ⟨rfl,?_⟩)));exact k (.ref x) _ (s1.trans (A3v hx hdx)) (.sum (A1a (s1.free hx) A0b) (ob1.imp (A1l (S:=λb=>H b=none) (A3v hx hdx))))
   | @pair _ kk u w' l r e o1 o2 =>
    refine i1b _ rfl _ _ _ _ rfl rfl (SqT.of e) (A0j (j:=0) rfl) rfl _ rfl (A2n (λh=>(sno h (by decide)).elim) (λ_=> ?_));refine i1b _ rfl _ _ _ _ rfl rfl (SqT.of e) (A0j (j:=0) rfl) rfl _ rfl (A2n (λh=>(sno h (by decide)).elim) (λ_=> ?_));refine i1b _ rfl _ _ _ _ rfl rfl (SqT.of e) (A0j (j:=0) rfl) rfl _ rfl (A2n (λh=>(sno h (by decide)).elim) (λ_=> ?_));refine i1b _ rfl _ _ _ _ rfl rfl (SqT.of e) (A0j (j:=0) rfl) rfl _ rfl (A2n (λh=>(sno h (by decide)).elim) (λ_=> ?_));refine i1b _ rfl _ _ _ _ rfl rfl (SqT.of e) (A0j (j:=0) rfl) rfl _ rfl (A2n (λh=>(sno h (by decide)).elim) (λ_=> ?_));have hd':=hd;simp only [dep] at hd';refine i11 _ rfl _ _ _ _ rfl rfl (SqT.of e) (A0j (j:=2) rfl) (i0p u l rfl o1 (by lia) gd.1 λv1 H1 s1 ob1=> ?_);refine i11 _ rfl _ _ _ _ rfl rfl (SqT.of (s1 _ _ e)) (A0j (j:=3) rfl) (i0p w' r rfl (o2.same s1) (by lia) gd.2 λv2 H2 s2 ob2=> ?_);have e2:=(s1.trans s2) _ _ e
    have fin:∀(o:Op3) (x dx:Addr),D6l kk=o->H2 x=none->H2 dx=none->Q (.ref x) (upd (upd (upd H2 dx (.own x)) x (.ins (B8a t o) dx [])) x (.ins (B8a t o) dx [("left",v1),("right",v2)])):=by
     intro o x dx eo hx hdx;subst eo;exact k (.ref x) _ (s1.trans (s2.trans (A3v hx hdx))) (.pair (A1a ((s1.trans s2).free hx) A0b) (ob1.imp (A1l (S:=λb=>H b=none) (s2.trans (A3v hx hdx)))) (ob2.imp (A3e (A3v hx hdx) λa o _ h=>s1.free h)))
    refine i1b _ rfl _ _ _ _ rfl rfl (SqT.of e2) (A0j (j:=1) rfl) rfl _ rfl (A2n (λh0=> ?_) (λh0=> ?_))
    ·exact i0e _ rfl _ rfl λx dx hx hdx hne=>(i12 x _ dx _ _ rfl A0b (B2f T .plus) (C9q T .plus) (C9d T .plus) ⟨rfl,fin .plus x dx (Z12 (V.int.inj h0)) hx hdx⟩)
    have h0:¬kk=0:=λz=>h0 (by rw [z]);refine i1b _ rfl _ _ _ _ rfl rfl (SqT.of e2) (A0j (j:=1) rfl) rfl _ rfl (A2n (λh1=> ?_) (λh1=> ?_))
    ·exact i0e _ rfl _ rfl λx dx hx hdx hne=>(i12 x _ dx _ _ rfl A0b (B2f T .minus) (C9q T .minus) (C9d T .minus) ⟨rfl,fin .minus x dx ((Z0t h0).trans (Z12 (V.int.inj h1))) hx hdx⟩)
    have h1:¬kk=1:=λz=>h1 (by rw [z]);exact i0e _ rfl _ rfl λx dx hx hdx hne=>(i12 x _ dx _ _ rfl A0b (B2f T .times) (C9q T .times) (C9d T .times) ⟨rfl,fin .times x dx ((Z0t h0).trans (Z0t h1)) hx hdx⟩)
   | @guard _ _ _ _ u w' l r e o1 o2 =>
    refine i1b _ rfl _ _ _ _ rfl rfl (SqT.of e) (A0j (j:=0) rfl) rfl _ rfl (A2n (λh=>(sno h (by decide)).elim) (λ_=> ?_));refine i1b _ rfl _ _ _ _ rfl rfl (SqT.of e) (A0j (j:=0) rfl) rfl _ rfl (A2n (λh=>(sno h (by decide)).elim) (λ_=> ?_));refine i1b _ rfl _ _ _ _ rfl rfl (SqT.of e) (A0j (j:=0) rfl) rfl _ rfl (A2n (λh=>(sno h (by decide)).elim) (λ_=> ?_));refine i1b _ rfl _ _ _ _ rfl rfl (SqT.of e) (A0j (j:=0) rfl) rfl _ rfl (A2n (λh=>(sno h (by decide)).elim) (λ_=> ?_));refine i1b _ rfl _ _ _ _ rfl rfl (SqT.of e) (A0j (j:=0) rfl) rfl _ rfl (A2n (λ_=> ?_) (λh=>absurd rfl h));have hd':=hd;simp only [dep] at hd';refine i11 _ rfl _ _ _ _ rfl rfl (SqT.of e) (A0j (j:=1) rfl) (i11 _ rfl _ _ _ _ rfl rfl (SqT.of e) (A0j (j:=2) rfl) (i11 _ rfl _ _ _ _ rfl rfl (SqT.of e) (A0j (j:=3) rfl) (i11 _ rfl _ _ _ _ rfl rfl (SqT.of e) (A0j (j:=4) rfl) (i0p u l rfl o1 (by lia) gd.2.2.2.1 λv1 H1 s1 ob1=> ?_))));refine i11 _ rfl _ _ _ _ rfl rfl (SqT.of (s1 _ _ e)) (A0j (j:=5) rfl) (i0p w' r rfl (o2.same s1) (by lia) gd.2.2.2.2 λv2 H2 s2 ob2=>λx dx hx hdx hne=>(i0h x dx _ _ (i0q _ _ _ rfl A0b rfl ?_)));exact k (.ref x) _ (s1.trans (s2.trans (A3v hx hdx))) (.guard (A1a ((s1.trans s2).free hx) A0b) (ob1.imp (A1l (S:=λb=>H b=none) (s2.trans (A3v hx hdx)))) (ob2.imp (A3e (A3v hx hdx) λa o _ h=>s1.free h)))
abbrev p29:Int:=10^(29:Int).toNat
theorem D5o:(60:Int)<p29:=by decide +kernel
theorem D9q:Sm p29/\Sm (-p29)/\Sm (-1):=by unfold Sm;decide +kernel
def GdV (H:Hp):List V->List (Str×Int×Int)->Prop:=Paired λ(v:V) (e:Str×Int×Int)=>∃q,v= .ref q/\H q=some (.tup [.str e.1,.int e.2.1,.int e.2.2])
theorem GdV.kt {vs:List V} {gs:List (Str×Int×Int)} (h:GdV H vs gs) (k:KT H H'):GdV H' vs gs:=Paired.mapP h (by rintro _ _ ⟨q,e,h1⟩;exact i02 q e (k _ _ h1))
def fc1 (b:Bool) (u:Tm) (g:Str×Int×Int):Tm:=match b with
 | true=> .guard g.1 g.2.2 p29 (.num g.2.1) (.guard g.1 (-p29) g.2.1 (.num (-1)) u)
 | false=> .guard g.1 g.2.1 g.2.2 u (.num g.2.2)
def fcM (b:Bool) (gs:List (Str×Int×Int)) (u:Tm):Tm:=gs.foldl (fc1 b) u
structure D6m (nm bs:List Str) (g:Str×Int×Int):Prop where
 b:g.1∈bs
 n:g.1∈nm
 ok:B4l g.1
 s1:Sm g.2.1
 s2:Sm g.2.2
structure Fcd (L:Str->Int) (nm bs:List Str) (gs:List (Str×Int×Int)) (u v:Tm) (n:Nat):Prop where
 gd:B8r v
 ax:Axs nm v
 fv:∀x,Fv v x->x∈bs
 dp:dep v<=dep u+n
 rin:∀f,Bnd L bs f->∀r∈rd L v f,r∈rd L u f/\∀g∈gs,g.2.1<=f g.1/\f g.1<g.2.2
theorem D8f {bs:List Str} (hb:∀x∈bs,L x<=60) {g:Str×Int×Int} (hg:D6m nm bs g) (h1:B8r u) (h2:Axs nm u) (h3:∀x,Fv u x->x∈bs) (b:Bool):Fcd L nm bs [g] u (fc1 b u g) 2:=by
 have d0:=B1l u
 cases b with
 | true =>
  refine ⟨(i04 hg.ok hg.s2 D9q.1 (i0i hg.s1 hg.ok D9q.2.1 hg.s1 D9q.2.2 h1)),(i08 hg.n True.intro hg.n True.intro h2),λx hx=> ?_,?_,λf hf r hr=> ?_⟩
  ·rcases hx with hx | hx | hx | hx | hx
   ·rw [show x=g.1 from hx];exact hg.b
   ·exact hx.elim
   ·rw [show x=g.1 from hx];exact hg.b
   ·exact hx.elim
   ·exact h3 x hx
  ·simp only [fc1,dep];lia
  ·have fb:=hf g.1 hg.b;have l6:=hb g.1 hg.b;have pb:=D5o;have hr:r∈(if g.2.2<=f g.1/\f g.1<p29 then [] else if -p29<=f g.1/\f g.1<g.2.1 then [] else rd L u f):=hr;generalize p29=pp at hr pb;split at hr
   ·cases hr
   ·split at hr
    ·cases hr
    ·refine ⟨hr,λg' hg'=> ?_⟩;rw [Z0w.mp hg']
     lia
 | false =>
  refine ⟨(i08 hg.ok hg.s1 hg.s2 h1 hg.s2),(i00 hg.n h2 True.intro),λx hx=> ?_,?_,λf hf r hr=> ?_⟩
  ·rcases hx with hx | hx | hx
   ·rw [show x=g.1 from hx];exact hg.b
   ·exact h3 x hx
   ·exact hx.elim
  ·simp only [fc1,dep];lia
  ·have hr:r∈(if g.2.1<=f g.1/\f g.1<g.2.2 then rd L u f else []):=hr;split at hr
   ·rename_i c;refine ⟨hr,λg' hg'=> ?_⟩;rw [Z0w.mp hg'];exact c
   ·cases hr
theorem D7e {L:Str->Int} {nm bs:List Str} (hb:∀x∈bs,L x<=60) (b:Bool):∀{gs:List (Str×Int×Int)},(∀g∈gs,D6m nm bs g)->∀{u:Tm},B8r u->Axs nm u->(∀x,Fv u x->x∈bs)->Fcd L nm bs gs u (fcM b gs u) (2*gs.length)
 | [],_,u,h1,h2,h3=>⟨h1,h2,h3,Z09 _,λf _ r hr=>⟨hr,λg hg=>by cases hg⟩⟩
 | g::gs,hg,u,h1,h2,h3=>by
  have a:=D8f (L:=L) hb (hg g (.head _)) h1 h2 h3 b;have c:=D7e hb b (gs:=gs) (λg' h=>hg g' (.tail _ h)) a.gd a.ax a.fv;have d1:=a.dp;have d2:=c.dp;refine ⟨c.gd,c.ax,c.fv,?_,λf hf r hr=> ?_⟩
  ·show dep (fcM b gs (fc1 b u g))<=dep u+2*(gs.length+1)
   lia
  ·obtain ⟨r1,r2⟩:=c.rin f hf r hr;obtain ⟨r3,r4⟩:=a.rin f hf r r1;refine ⟨r3,λg' hg'=> ?_⟩;rcases Z0e.mp hg' with z | z
   ·rw [z];exact r4 g (.head _)
   ·exact r2 g' z
def C5a:Sp:=λvs H Q _=>∃(v:V) (gl:Addr) (b:Bool) (H0:Hp) (gvs:List V) (gs:List (Str×Int×Int)) (u:Tm),vs=[v,.ref gl,.bl b]/\KI H0 H/\A6p (A1w (Nw H0) H) v u/\H gl=some (.lst gvs)/\GdV H gvs gs/\∀(v':V) (H':Hp),A0s H H'->A6p (A1w (Nw H0) H') v' (fcM b gs u)->Q v' H'
theorem B9k (T:Txt K mg t):FO P w base T.im 1 C5a:=by
 refine T.im.F.ok A3x (λvs H Q E h=> ?_) λ_ A _ s H _ Q E hr h=> ?_
 ·refine e07 h ?_;clear h;rintro v gl b H0 gvs ⟨gs,u,rfl,_⟩;rfl
 ·refine e0g h ?_;clear h;rintro v gl b H0 gvs gs u rfl k0 tr hgl gv k;have lgv:=Paired.length gv
  refine ⟨_,(A0c (A2g (A2m (pv 1)) (A4y (n:=3) rfl (A1b (A0m (i:=3) A3x.nd) (A1b (A0m (i:=4) A3x.nd) (A1b (A0m (i:=5) A3x.nd) A3m))))
    (A0e (A1o (A3w (pv 2))
     (A0c (A0l (i:=0) A3x.nd (A2j (A0a A0u (A0a (pv 3) (A0a (C9c C1s (A0n A7h A0g A0g)) (A0a (pv 4) (A0a (A2j (A0a A0u (A0a (C9c C1s A0g) A0d))) (A0a (pv 0) A0d))))))))
     (A0e (A0l (i:=0) A3x.nd (A2j (A0a A0u (A0a (pv 3) (A0a (pv 5) (A0a (A0n A7h A0g A0g) (A0a (A2j (A0a A0u (A0a (pv 4) A0d))) (A0a (pv 0) A0d))))))))))
     (A0e (A0l (i:=0) A3x.nd (A2j (A0a A0u (A0a (pv 3) (A0a (pv 4) (A0a (pv 5) (A0a (pv 0) (A0a (A2j (A0a A0u (A0a (pv 5) A0d))) A0d))))))))))))
   (A0e (A0o (pv 0)))),?_⟩
  refine i0l _ rfl gl rfl ⟨_,SqL.of hgl⟩ ?_;refine A3k (K:=K) (a:=gl) (xs:=gvs) (λi Z G=>∃(o3 o4 o5:Option V) (v':V),Z=[some v',Sro gl,Sbo b,o3,o4,o5]/\A0s H G/\A6p (A1w (Nw H0) G) v' (fcM b (gs.take i) u)) ⟨none,(i0n none none v rfl (A0s.refl _) (by rw [List.take_zero];exact tr))⟩ (by (rintro i Z G _ zz;refine e01 zz ?_;clear zz;rintro _ _ _ ⟨_,_,sg,_⟩);exact SqL.of (sg _ _ hgl)) ?_ ?_
  ·rintro i v0 Z G hv zz;refine e01 zz ?_;clear zz;rintro o3 o4 o5 ⟨v',rfl,sG,tr'⟩;obtain ⟨g,hg,q,rfl,hq⟩:=B1e gv hv
   have et:fcM b (gs.take (i+1)) u=fc1 b (fcM b (gs.take i) u) g:=by
    unfold fcM;rw [Z14,hg,Z2f,List.foldl_append];rfl
   rw [et];have kG:=k0.trans (KI.of sG);refine i0f q _ rfl (SqT.of (sG _ _ hq)) (i0b rfl _ _ rfl ⟨_,(i0o _ rfl _ _ rfl rfl ?_)⟩);refine i0e _ rfl b rfl ?_
   cases b with
   | true =>
    refine C9b ?_;refine i0y _ rfl _ _ rfl rfl (i00 (by decide) (by decide) (by decide)) _ rfl (i0l _ rfl _ rfl (A1j rfl) λq1 h1=>(i06 _ rfl (A1j rfl) λq2 h2=> ?_));have s1:=A0f (o:= .tup [.str "number",.int (-1)]) h1;have s2:=A0f (o:= .tup [.str "guard",.str g.1,.int (-p29),.int g.2.1,.ref q1,v']) h2;have t1:A6p (A1w (Nw H0) (upd (upd G q1 (.tup [.str "number",.int (-1)])) q2 (.tup [.str "guard",.str g.1,.int (-p29),.int g.2.1,.ref q1,v']))) (.ref q2) (.guard g.1 (-p29) g.2.1 (.num (-1)) (fcM true (gs.take i) u)):= .guard (A1a (A4b (kG.trans (KI.of s1)) h2) A0b) (.num (A1a (A4b kG h1) (s2 _ _ A0b))) (tr'.same (A1l (s1.trans s2)));have s12:=s1.trans s2;generalize upd (upd G q1 (.tup [.str "number",.int (-1)])) q2 (.tup [.str "guard",.str g.1,.int (-p29),.int g.2.1,.ref q1,v'])=G2 at s12 t1;have k2:=kG.trans (KI.of s12);refine i0v _ rfl _ rfl _ _ rfl rfl (i0a (i00 (by decide) (by decide) (by decide)) _ rfl (A1j rfl) λq3 h3=>(i06 _ rfl (A1j rfl) λq4 h4=> ?_));have s3:=A0f (o:= .tup [.str "number",.int g.2.1]) h3;have s4:=A0f (o:= .tup [.str "guard",.str g.1,.int g.2.2,.int p29,.ref q3,.ref q2]) h4;exact ⟨_,(i0n _ _ (.ref q4) rfl (sG.trans (s12.trans (s3.trans s4))) (.guard (A1a (A4b (k2.trans (KI.of s3)) h4) A0b) (.num (A1a (A4b k2 h3) (s4 _ _ A0b))) (t1.same (A1l (s3.trans s4)))))⟩
   | false =>
    refine A7j ?_;refine i02 _ rfl (i0e _ rfl _ rfl (i0l _ rfl _ rfl (A1j rfl) λq1 h1=>⟨A1j rfl,λq2 h2=> ?_⟩));have s1:=A0f (o:= .tup [.str "number",.int g.2.2]) h1;have s2:=A0f (o:= .tup [.str "guard",.str g.1,.int g.2.1,.int g.2.2,v',.ref q1]) h2;exact ⟨_,(i0n _ _ (.ref q2) rfl (sG.trans (s1.trans s2)) (.guard (A1a (A4b (kG.trans (KI.of s1)) h2) A0b) (tr'.same (A1l (s1.trans s2))) (.num (A1a (A4b kG h1) (s2 _ _ A0b)))))⟩
  ·rintro Z G zz;refine e01 zz ?_;clear zz;rintro o3 o4 o5 ⟨v',rfl,sG,tr'⟩;rw [lgv,Z18] at tr';exact i02 _ rfl (k v' G sG tr')
def IxV (H0 G:Hp):List V->List (Str×Int)->Prop:=Paired λ(v:V) (e:Str×Int)=>∃q,v= .ref q/\Nw H0 q/\G q=some (.tup [.str e.1,.int e.2])
theorem IxV.kt {H0 G':Hp} {ys:List V} (h:IxV H0 G ys ix) (k:KT G G'):IxV H0 G' ys ix:=Paired.mapP h (by rintro _ _ ⟨q,e,nq,hq⟩;exact i06 q e nq (k _ _ hq))
theorem IxV.rep {H0:Hp} {ys:List V} (h:IxV H0 G ys ix):A3l (A1w (Nw H0) G) ys (ix.map B3l):=by
 unfold IxV at h
 induction h with
 | nil=>exact .nil
 | cons r _ ih =>
  obtain ⟨q,rfl,nq,hq⟩:=r;exact .cons (.tup (A1a nq hq) (.cons (.str _) (.cons (.int _) .nil))) ih
theorem IxV.ne {H0:Hp} {ys:List V} (h:IxV H0 G ys ix):∀n xs,HO.lst ys≠.lst (V.int n::xs):=λn xs z=>by
 cases z
 cases h with
 | cons r _ =>
  obtain ⟨q,e,_⟩:=r;cases e
structure KJ (D:Addr) (H H':Hp):Prop where
 ki:KI H H'
 kb:∀b u,b≠D->H b=some u->H' b=some u
theorem KJ.of (s:A0s H H'):KJ D H H':=⟨KI.of s,λb u _ e=>s b u e⟩
theorem KJ.trans (a:KJ D H H') (b:KJ D H' H2):KJ D H H2:=⟨a.ki.trans b.ki,λc u n e=>b.kb c u n (a.kb c u n e)⟩
theorem A5b {ms:List Int} (hD:H D=some (.lst (ms.map V.int))) (o:Oth D H H') (e:ms=[]->H'=H):KJ D H H':=⟨D5n hD o e,λb u n y=>by rw [o b n];exact y⟩
theorem KJ.str (k:KJ D H H') (e:H b=some (.lst (ys.map V.str))):H' b=some (.lst (ys.map V.str)):=k.ki.str e
theorem KJ.dk (k:KJ D H H') (e:H b=some (.dK kvs)):H' b=some (.dK kvs):=k.ki.dk e
theorem KI.kt (k:KI H H'):KT H H':=λb xs e=>k b _ (by intro n ys z;cases z) e
theorem KJ.kt (k:KJ D H H'):KT H H':=k.ki.kt
theorem D5s {α β:Type} {F:α->β->Prop}:∀{a:List α} {b:List β} (n:Nat),Paired F a b->Paired F (a.drop n) (b.drop n)
 | _,_,0,h=>h
 | _,_,_+1,.nil=> .nil
 | _,_,n+1,.cons _ t=>D5s n t
theorem E1u {α β:Type} {F:α->β->Prop} {x:α} {y:β} (r:F x y):∀{a:List α} {b:List β} (n:Nat),Paired F a b->Paired F (a.set n x) (b.set n y)
 | _,_,_,.nil=> .nil
 | _,_,0,.cons _ t=> .cons r t
 | _,_,n+1,.cons s t=> .cons s (E1u r n t)
theorem C7b {α:Type} {a b:List α} {e:α} (h:a.length=j) (hb:0<b.length):(a++b).set j e=a++[e]++b.drop 1:=by
 subst h
 cases b with
 | nil=>cases hb
 | cons c r=>simp [List.set_append]
theorem B4u {f:Str->Int} {k:Nat} (h:ix[k]? =some e):(A2v f ix)[k]? =some (if e.1="" then e.2 else f e.1+e.2):=by
 unfold A2v;rw [Z1z,h];rfl
theorem C6j (hy:zs[j]? =some y) (ne:∀z∈zs,z≠"") (r:List (Str×Int)) (f:Str->Int) (hw:(if e.1="" then e.2 else f e.1+e.2)<f y):A5v (A2v f ((zs.take j).map (λz=>(z,(0:Int)))++[e]++r)) (zs.map f):=by
 have hj:j<zs.length:=(Z03.mp hy).1;have lt:((zs.take j).map λz=>(z,(0:Int))).length=j:=by rw [Z08,Z0x];lia
 have e1:((zs.take j).map (λz=>(z,(0:Int)))++[e]++r)[j]? =some e:=by
  rw [Z26 (by rw [Z06,lt];simp),Z1l (by lia),lt,Nat.sub_self];rfl
 refine i0q j _ (f y) (B4u e1) (by rw [Z1z,hy];rfl) hw λi hi=> ?_;have hz:zs[i]? =some zs[i]:=Z0b (by lia)
 have e2:((zs.take j).map (λz=>(z,(0:Int)))++[e]++r)[i]? =some (zs[i],0):=by
  rw [Z26 (by rw [Z06,lt];lia),Z26 (by lia),Z1z,List.getElem?_take_of_lt hi,hz];rfl
 rw [B4u e2,Z0t (ne _ (List.getElem_mem _)),Z1z,hz,Int.add_zero];rfl
def IxS (L:Str->Int) (bs:List Str) (e:Str×Int) (y:Str):Prop:=(e.1=""->0<=e.2/\e.2<L y)/\(e.1≠""->e.1∈bs)/\e.2.natAbs<=60
theorem D2k {L:Str->Int} {bs:List Str}:∀{zs:List Str},(∀z∈zs,z≠""/\z∈bs)->Paired (IxS L bs) (zs.map λz=>(z,(0:Int))) zs
 | [],_=> .nil
 | z::r,h=> .cons (i00 (λe=>absurd e (h z (.head _)).1) (λ_=>(h z (.head _)).2) (by show (0:Int).natAbs<=60;decide)) (D2k λy hy=>h y (.tail _ hy))
theorem smK (h:z.natAbs<=1000):Sm z:=Z1n h (by decide)
theorem B7d {p:Nat} (h:p<=xs.length):B4b xs (some (p:Int)) none=xs.drop p:=by
 unfold B4b;rw [HT.sIx_none,HT.sIx_nat,Nat.min_eq_left h];exact Z2l (by rw [Z19];lia)
def D4y:Sp:=λvs H Q _=>∃(D cz ld il:Addr) (H0:Hp) (ms:List Int) (zs nm bs:List Str) (lk:List (Key×V)) (L:Str->Int) (ys:List V) (ix:List (Str×Int)),vs=[.ref D,.ref cz,.ref ld,.ref il]/\KI H0 H/\H D=some (.lst (ms.map V.int))/\H cz=some (.lst (zs.map V.str))/\zs≠[]/\zs.length<=3/\H ld=some (.dK lk)/\C4r lk L nm/\(∀z∈zs,z∈nm/\z∈bs/\B4l z)/\H il=some (.lst ys)/\IxV H0 H ys ix/\Paired (IxS L bs) ix zs/\
 ∀(q il' gl:Addr) (ys' gvs:List V) (ix':List (Str×Int)) (gs:List (Str×Int×Int)) (ms':List Int) (H':Hp),KJ D H H'->H' D=some (.lst (ms'.map V.int))->H il'=none->H gl=none->il'≠gl->H' il'=some (.lst ys')->IxV H0 H' ys' ix'->Paired (IxS L bs) ix' zs->H' gl=some (.lst gvs)->gvs.length<=1->GdV H' gvs gs->(∀g∈gs,D6m nm bs g)->(∀f,(∀g∈gs,g.2.1<=f g.1/\f g.1<g.2.2)->A5v (A2v f ix') (zs.map f))->H' q=some (.tup [.ref il',.ref gl])->Q (.ref q) H'
theorem C5s (T:Txt K mg t):FO P w base T.kr 2 D4y:=by
 have Gc7:= @A6m P w K mg base t T;refine T.kr.F.ok A7v (λvs H Q E h=> ?_) λ_ A _ s H _ Q E hr h=> ?_
 ·refine e0h h ?_;clear h;rintro D cz ld il H0 ms zs nm bs lk L ys ⟨ix,rfl,_⟩;rfl
 ·refine e0h h ?_;clear h;rintro D cz ld il H0 ms zs nm bs lk L ys ⟨ix,rfl,k0,hD,hcz,zne,z3,hld,lok,zok,hil,px,pin,k⟩;have hu:=A4z hr;have zpos:0<zs.length:=List.length_pos_iff.mpr zne
  refine ⟨_,(A0c (A0l (i:=4) A7v.nd (pcl Gc7 hr T.au (A0a (pv 0) A0d)))
   (A0c (A0l (i:=5) A7v.nd (A0n A1i (pv 4) (A0y A1c (by rfl) T.bd Z0r (A0a (pv 1) A0d))))
   (A0c (A0l (i:=6) A7v.nd (A0p hu (pv 2) (A1h A3b (pv 1) (pv 5))))
   (A0c (A0l (i:=3) A7v.nd (A0n B8c (A3h (N':=["_law_name_here"]) (ix:=(List.replicate 1 none)) rfl (A3f rfl (by decide +kernel) (by decide +kernel)) (A3c rfl) (A2m (A2q A3r (pv 1) A3y (A2x (pv 5)))) (λ_ _ _ _=>(A0m (i:=0) C6w)) (λ_ _ _ _=>(A2j (A0a (pv 0) (A0a A0g A0d))))) (A2q A3r (pv 3) (A2x (pv 5)) A3y)))
   (A0c (A1o (A0w A3n (A0n A1i (A0n A2h (pv 4) A0g) A0g) A0g (A1f _))
    (A0c (B4e (A2j (A0a A0u (A0a (A0n A1i (A0n A2h (pv 4) A0g) (pv 6)) A0d))) (D1w (pv 3) (pv 5) C0z))
    (A0e (A0o (A2j (A0a (pv 3) (A0a (A4m (A0a (A2j (A0a (A1h A3b (pv 1) (pv 5)) (A0a (A0n A2k (A0n A1i (A0n A2h (pv 4) A0g) (pv 6)) A0g) (A0a (A0n A7h A0g A0g) A0d)))) A0d)) A0d))))))
    A0r)
   (A0c (B4e (A2j (A0a (A1h A3b (pv 1) (pv 5)) (A0a (A0n A5c (C9c C1s A0g) (A0n A1i (A0n A2h (pv 4) A0g) A0g)) A0d))) (D1w (pv 3) (pv 5) C0z))
   (A0e (A0o (A2j (A0a (pv 3) (A0a (A4m A0d) A0d))))))))))),?_⟩
  refine i0o _ rfl D ms rfl hD λc ms1 H1 l1 h1 o1 e1=> ?_;have j1:=A5b hD o1 e1;have k1:=j1.ki
  have n1:∀{b:Addr},H1 b=none->H b=none:=λ{b} e=>by
   by_cases hb:b=D
   ·rw [hb,h1] at e;cases e
   ·rw [<-o1 b hb];exact e
  have hcz1:=k1.str hcz;have px1:=px.kt k1.kt;have hil1:=k1 _ _ px.ne hil;have hld1:=k1.dk hld;obtain ⟨j,ej⟩:∃j:Nat,c%(zs.length:Int)=(j:Int):=⟨_,(Int.toNat_of_nonneg (Z1v _ (by lia))).symm⟩;have hj:j<zs.length:=by have:=Z1p c (show (0:Int)<(zs.length:Int) by lia);lia
  have hjy:zs[j]? =some zs[j]:=Z0b hj;have eat:atI (zs.map V.str) (j:Int)=some (.str zs[j]):=A0j (by rw [Z1z,hjy];rfl);obtain ⟨ynm,ybs,yok⟩:=zok zs[j] (List.getElem_mem hj);have ly:=lok.ok zs[j] ynm;refine i0v _ rfl _ rfl cz _ rfl (.inl (SqL.of hcz1)) (i0m _ _ rfl rfl (by show (0:Int)<((zs.map V.str).length:Int);rw [Z08];lia) ?_);rw [Z08];show B5w 5 (V.int (c%(zs.length:Int))) _ _ _;rw [ej];have g:=A5a.k (H:=H1) (a:=ld) (k:=Sum.inr zs[j]) hld1;rw [lok.val ynm] at g;refine i02 _ rfl (i13 _ rfl _ rfl cz _ _ _ rfl rfl (SqL.of hcz1) (i0j eat ld _ rfl g ?_));refine i10 _ rfl _ rfl _ rfl cz _ rfl (SqL.of hcz1) λp hp=> ?_;have sp1:A0s H1 (upd H1 p (.lst (B4b (zs.map V.str) none (some (j:Int))))):=A0f hp;have hp1:upd H1 p (.lst (B4b (zs.map V.str) none (some (j:Int)))) p=some (.lst ((zs.take j).map V.str)):=by rw [A0b];exact congrArg (λz=>some (HO.lst z)) B0c
  generalize upd H1 p (.lst (B4b (zs.map V.str) none (some (j:Int))))=G1 at sp1 hp1;refine i06 p rfl ⟨_,SqL.of hp1⟩ λD2 hD2=> ?_;refine A4a (K:=K) (a:=p) (D:=D2) (xs:=(zs.take j).map V.str) (λi vs G=>A0s G1 G/\G D2=some (.lst vs)/\IxV H0 G vs (((zs.take j).take i).map λz=>(z,(0:Int)))) (i00 (A0f hD2) A0b .nil) (by rintro i vs G ⟨s2,_⟩;exact SqL.of (s2 _ _ hp1)) ?_ ?_
  ·rintro i v vs G hv ⟨sG,hG,iv⟩;obtain ⟨z,hz,rfl⟩:=A2b hv;have li:=Paired.length iv;refine i0a True.intro _ rfl (A1j rfl) λq hq=> ?_;have sq:A0s G (upd G q (.tup [.str z,.int 0])):=A0f hq;have kq:KT (upd G q (.tup [.str z,.int 0])) (upd (upd G q (.tup [.str z,.int 0])) D2 (.lst (vs++[.ref q]))):=KT.at (sq _ _ hG) (by intro xs z;cases z);refine i08 (sq _ _ hG) (A1d (by rw [li,Z08,Z0x,Z0x];lia)) (A0q (sG.trans sq) hD2) A0b ?_;rw [Z14,hz,Z2f,Z0s];exact B3s ((iv.kt (KT.same sq)).kt kq) (.cons (i06 q rfl (A4b (k0.trans (k1.trans (KI.of (sp1.trans sG)))) hq) (kq _ _ A0b)) .nil)
  rintro vs G ⟨sG,hG,iv⟩;rw [Z08,Z18] at iv;have s1G:=sp1.trans sG;have lvs:=Paired.length iv;rw [Z08,Z0x] at lvs;have lys:=Paired.length px;have lpin:=Paired.length pin;refine i10 _ rfl _ rfl _ rfl il _ rfl (SqL.of (s1G _ _ hil1)) λp2 hp2=> ?_;have e2:B4b ys (some (j:Int)) none=ys.drop j:=B7d (by lia);show E1v (.ref D2) (.ref p2) (upd G p2 (.lst (B4b ys (some (j:Int)) none))) _;rw [e2];obtain ⟨G2,s2,g2,eNH⟩:=nH (o:= .lst (ys.drop j)) hp2
  try rw [eNH]
  refine i0z D2 p2 _ _ rfl rfl (s2 _ _ hG) g2 (A4d (by simp;lia)) λp3 hp3=> ?_;have s3:A0s G2 (upd G2 p3 (.lst (vs++ys.drop j))):=A0f hp3;have g3:upd G2 p3 (.lst (vs++ys.drop j)) p3=some (.lst (vs++ys.drop j)):=A0b;have s23:=s1G.trans s2;have p3H:H p3=none:=n1 (s23.free hp3);have px3:IxV H0 (upd G2 p3 (.lst (vs++ys.drop j))) (vs++ys.drop j) ((zs.take j).map (λz=>(z,(0:Int)))++ix.drop j):=B3s (iv.kt (KT.same (s2.trans s3))) (D5s _ (px1.kt (KT.same (s23.trans s3))));generalize upd G2 p3 (.lst (vs++ys.drop j))=G3 at s3 g3 px3;have s13:=s23.trans s3;have k3:=k1.trans (KI.of s13);have k03:=k0.trans k3;have ljx:0<(ix.drop j).length:=by rw [Z19];lia
  have llj:((zs.take j).map λz=>(z,(0:Int))).length=j:=by rw [Z08,Z0x];lia
  have ez:zs=zs.take j++[zs[j]]++zs.drop (j+1):=by
   rw [Z0z];show zs=zs.take j++(zs[j]::zs.drop (j+1));rw [<-List.drop_eq_getElem_cons hj,Z2e]
  have pD:p3≠D:=λz=>by rw [z,hD] at p3H;cases p3H
  have fin:∀(e:Str×Int) (q:Addr) (G4:Hp),A0s G3 G4->G3 q=none->G4 q=some (.tup [.str e.1,.int e.2])->∀G5,G5=upd G4 p3 (.lst ((vs++ys.drop j).set j (.ref q)))->KJ D H G5/\G5 D=some (.lst (ms1.map V.int))/\IxV H0 G5 ((vs++ys.drop j).set j (.ref q)) (((zs.take j).map (λz=>(z,(0:Int)))++ix.drop j).set j e)/\G5 p3=some (.lst ((vs++ys.drop j).set j (.ref q)))/\G5 cz=some (.lst (zs.map V.str)):=by
   intro e q G4 s4 hq hqq G5 hG5;have kp:KT G4 G5:=by rw [hG5];exact KT.at (s4 _ _ g3) (by intro xs z;cases z)
   have up:∀{b:Addr} {u:HO},b≠p3->G4 b=some u->G5 b=some u:=λn y=>by rw [hG5,A0i n];exact y
   refine i08 ⟨λb u n y=>up (λz=>by rw [z,p3H] at y;cases y) (s4 _ _ (k3 _ _ n y)),λb u n y=>up (λz=>by rw [z,p3H] at y;cases y) (s4 _ _ (s13 _ _ (j1.kb _ _ n y)))⟩ (up pD.symm (s4 _ _ (s13 _ _ h1))) (E1u ⟨q,rfl,A4b k03 hq,kp _ _ hqq⟩ j ((px3.kt (KT.same s4)).kt kp)) (by rw [hG5];exact A0b) (up (λz=>by rw [z,p3H] at hcz;cases hcz) (s4 _ _ (s13 _ _ hcz1)))
  have n3:∀{b:Addr},G3 b=none->H b=none:=λe=>n1 (s13.free e)
  have pz:∀e,IxS L bs e zs[j]->Paired (IxS L bs) (((zs.take j).map (λz=>(z,(0:Int)))++ix.drop j).set j e) zs:=λe he=>by
   rw [C7b llj ljx,List.drop_drop];have pz:Paired (IxS L bs) ((zs.take j).map (λz=>(z,(0:Int)))++[e]++ix.drop (j+1)) (zs.take j++[zs[j]]++zs.drop (j+1)):=B3s (B3s (D2k λz hz=>⟨(lok.ok z (zok z (Z2p hz)).1).2.2.1,(zok z (Z2p hz)).2.1⟩) (.cons he .nil)) (D5s _ pin)
   rwa [<-ez] at pz
  have ahd:∀(e:Str×Int) (f:Str->Int),(if e.1="" then e.2 else f e.1+e.2)<f zs[j]->A5v (A2v f (((zs.take j).map (λz=>(z,(0:Int)))++ix.drop j).set j e)) (zs.map f):=λe f h=>by
   rw [C7b llj ljx];exact C6j hjy (λz hz=>(lok.ok z (zok z hz).1).2.2.1) _ f h
  have hix:ixN (vs++ys.drop j).length (j:Int)=some j:=by
   have hl:j<(vs++ys.drop j).length:=by rw [Z06,Z19];lia
   unfold ixN;rw [Z12 (by lia),Z12 (by lia),Int.toNat_natCast]
  refine i16 _ rfl _ _ rfl rfl ⟨by decide,by decide⟩ _ _ rfl rfl C9h (i05 rfl _ rfl (A2n (λh0=> ?_) (λh0=> ?_)))
  ·have v0:=Z1v (c/12) (show L zs[j]≠0 by lia);have v1:=Z1p (c/12) (show 0<L zs[j] by lia);refine i0y _ rfl _ _ rfl rfl ⟨by decide,by decide⟩ _ rfl (i0p _ _ rfl rfl (by show (0:Int)<L zs[j];lia) (A1j rfl) λq hq=> ?_);obtain ⟨G4,sq,hqq,eNH⟩:=nH (o:= .tup [.str "",.int (c/12%L zs[j])]) hq
   try rw [eNH]
   refine i13 _ rfl _ rfl p3 _ _ j rfl rfl (sq _ _ g3) ⟨hix,?_⟩;obtain ⟨k5,hD5,ix5,hp5,hcz5⟩:=fin ("",c/12%L zs[j]) q G4 sq hq hqq _ rfl
   have n5:∀{b:Addr},upd G4 p3 (.lst ((vs++ys.drop j).set j (.ref q))) b=none->G4 b=none:=λ{b} e=>by
    by_cases hb:b=p3
    ·rw [hb,A0b] at e;cases e
    ·rwa [A0i hb] at e
   generalize upd G4 p3 (.lst ((vs++ys.drop j).set j (.ref q)))=G5 at k5 hD5 ix5 hp5 hcz5 n5;refine i0e _ rfl _ rfl (i11 _ rfl cz _ _ _ rfl rfl (SqL.of hcz5) eat (i0y _ rfl _ _ rfl rfl ⟨by decide,by decide⟩ _ rfl (i0f _ _ rfl rfl (i0j (by show (0:Int)<L zs[j];lia) _ _ rfl rfl (i0p _ _ rfl rfl (i00 (by decide) (by decide) (by decide)) (A1j rfl) λq2 hq2=>⟨A1j rfl,λgl hgl=>⟨A1j rfl,λqt hqt=> ?_⟩⟩)))));have t1:=A0f (o:= .tup [.str zs[j],.int (c/12%L zs[j]+1),.int p29]) hq2;have t2:=A0f (o:= .lst [.ref q2]) hgl;have t3:=A0f (o:= .tup [.ref p3,.ref gl]) hqt;have t:=t1.trans (t2.trans t3);refine k qt p3 gl _ [.ref q2] _ [(zs[j],c/12%L zs[j]+1,p29)] ms1 _ (k5.trans (KJ.of t)) (t _ _ hD5) p3H (n3 (sq.free (n5 (t1.free hgl)))) (λz=>by rw [<-z] at hgl;rw [t1 _ _ hp5] at hgl;cases hgl) (t _ _ hp5) (ix5.kt (KT.same t)) (pz _ (i00 (λ_=>⟨v0,v1⟩) (λz=>absurd rfl z) (by show (c/12%L zs[j]).natAbs<=60;lia))) (t3 _ _ A0b) (by simp) (.cons (i02 q2 rfl ((t2.trans t3) _ _ A0b)) .nil) (λg hg=> ?_) (λf hf=>ahd _ f ?_) A0b
   ·rw [Z0w.mp hg];exact ⟨ybs,ynm,yok,smK (by show (c/12%L zs[j]+1).natAbs<=1000;lia),D9q.1⟩
   ·have:=(hf _ (Z0w.mpr rfl)).1;show c/12%L zs[j]<f zs[j];have this:c/12%L zs[j]+1<=f zs[j]:=this
    lia
  ·refine i13 _ rfl _ rfl cz _ _ _ rfl rfl (SqL.of (s13 _ _ hcz1)) (i05 eat _ rfl (i16 _ rfl _ _ rfl rfl ⟨by decide,by decide⟩ _ _ rfl rfl E0k (i0m _ _ rfl rfl (A1j rfl) λq hq=> ?_)));obtain ⟨G4,sq,hqq,eNH⟩:=nH (o:= .tup [.str zs[j],.int (-1-c/12%3)]) hq
   try rw [eNH]
   refine i13 _ rfl _ rfl p3 _ _ j rfl rfl (sq _ _ g3) ⟨hix,?_⟩;obtain ⟨k5,hD5,ix5,hp5,hcz5⟩:=fin (zs[j],-1-c/12%3) q G4 sq hq hqq _ rfl
   have n5:∀{b:Addr},upd G4 p3 (.lst ((vs++ys.drop j).set j (.ref q))) b=none->G4 b=none:=λ{b} e=>by
    by_cases hb:b=p3
    ·rw [hb,A0b] at e;cases e
    ·rwa [A0i hb] at e
   generalize upd G4 p3 (.lst ((vs++ys.drop j).set j (.ref q)))=G5 at k5 hD5 ix5 hp5 hcz5 n5;refine i06 _ rfl (A1j rfl) λgl hgl=>⟨A1j rfl,λqt hqt=> ?_⟩;have t2:=A0f (o:= .lst []) hgl;have t3:=A0f (o:= .tup [.ref p3,.ref gl]) hqt;have t:=t2.trans t3;refine k qt p3 gl _ [] _ [] ms1 _ (k5.trans (KJ.of t)) (t _ _ hD5) p3H (n3 (sq.free (n5 hgl))) (λz=>by rw [<-z] at hgl;rw [hp5] at hgl;cases hgl) (t _ _ hp5) (ix5.kt (KT.same t)) (pz _ (i00 (λz=>absurd z ly.2.2.1) (λ_=>ybs) (by show (-1-c/12%3).natAbs<=60;lia))) (t3 _ _ A0b) (by simp) .nil (λg hg=>by cases hg) (λf _=>ahd _ f ?_) A0b;show (if zs[j]="" then -1-c/12%3 else f zs[j]+(-1-c/12%3))<f zs[j];rw [Z0t ly.2.2.1]
   lia
def gd1 (L:Str->Int) (e:Str×Int) (y:Str):List (Str×Int×Int):=if e.1="" then [] else [(e.1,-e.2,L y-e.2)]
def ixG (L:Str->Int):List (Str×Int)->List Str->List (Str×Int×Int)
 | e::r,y::q=>gd1 L e y++ixG L r q
 | _,_=>[]
theorem C1f {L:Str->Int} {e:Str×Int} {y:Str}:∀{a:List (Str×Int)} {b:List Str},a.length=b.length->ixG L (a++[e]) (b++[y])=ixG L a b++gd1 L e y
 | [],[],_=>by show gd1 L e y++[]=[]++gd1 L e y;rw [Z0u,List.nil_append]
 | x::a,z::b,h=>by
  show gd1 L x z++ixG L (a++[e]) (b++[y])=gd1 L x z++ixG L a b++gd1 L e y;rw [C1f (Nat.succ.inj h),Z0z]
theorem C0m {L:Str->Int}:∀(a:List (Str×Int)) (b:List Str),(ixG L a b).length<=a.length
 | [],[]=>Z09 _
 | [],_::_=>Z09 _
 | _::_,[]=>Z1e _
 | x::a,z::b=>by
  have:=C0m (L:=L) a b;show (gd1 L x z++ixG L a b).length<=a.length+1;rw [Z06];unfold gd1;split <;> simp <;> lia
theorem C5c {L:Str->Int} {e:Str×Int} {y:Str} (ne:e.1≠""):∀{a:List (Str×Int)} {b:List Str} {k:Nat},a[k]? =some e->b[k]? =some y->(e.1,-e.2,L y-e.2)∈ixG L a b
 | [],_,k,h,_=>by simp at h
 | _::_,[],k,_,h=>by simp at h
 | x::a,z::b,0,h1,h2=>by
  have h1:x=e:=by simpa using h1
  have h2:z=y:=by simpa using h2
  subst h1 h2;exact Z05 _ (by unfold gd1;rw [Z0t ne];exact .head _)
 | x::a,z::b,k+1,h1,h2=>Z02 _ (C5c ne (k:=k) (by simpa using h1) (by simpa using h2))
theorem D8a {bs:List Str} (hb:∀x∈bs,x∈nm/\B4l x) (hl:∀y∈nm,1<=L y/\L y<=60) {a:List (Str×Int)} {b:List Str} (h:Paired (IxS L bs) a b) (hn:∀y∈b,y∈nm):∀g∈ixG L a b,D6m nm bs g:=by
 induction h with
 | nil=>intro g hg;cases hg
 | @cons e y r q i t ih =>
  intro g hg;rcases Z07.mp hg with hg | hg
  ·unfold gd1 at hg;split at hg
   ·cases hg
   ·rename_i ne;rw [Z0w.mp hg];have m:=i.2.1 ne;have z:=i.2.2;have ly:=hl y (hn y (.head _));exact ⟨m,(hb _ m).1,(hb _ m).2,smK (by show (-e.2).natAbs<=1000;lia),smK (by show (L y-e.2).natAbs<=1000;lia)⟩
  ·exact ih (λy hy=>hn y (.tail _ hy)) g hg
theorem A7q.read {own:Str} {oy bs:List Str} {arr:Str} (hb:∀x∈bs,x∈nm/\B4l x) (hl:∀y∈nm,1<=L y/\L y<=60) (ok:D6p L nm es) (hz:(arr,zs)∈es) (p:Paired (IxS L bs) ix zs) (g0:∀g∈gs0,D6m nm bs g) (l0:gs0.length<=1)
  (ha:arr=own->∀f,(∀g∈gs0,g.2.1<=f g.1/\f g.1<g.2.2)->A5v (A2v f ix) (oy.map f)) (b:Bool):A7q L nm es own oy bs 9 (fcM b (gs0++ixG L ix zs) (.read arr ix)):=by
 have axz:=ok.ax _ hz;have lp:=Paired.length p;have l3:zs.length<=3:=axz.few;have lg:=C0m (L:=L) ix zs
 have ein:∀e∈ix,(e.1=""\/e.1∈bs)/\e.2.natAbs<=60:=λe he=>by
  obtain ⟨k,hk⟩:=List.getElem?_of_mem he;obtain ⟨y,_,i⟩:=B1e p hk;by_cases h:e.1=""
  ·exact ⟨.inl h,i.2.2⟩
  ·exact ⟨.inr (i.2.1 h),i.2.2⟩
 have gi:=D8a hb hl p axz.sub
 have fvr:∀x,Fv (.read arr ix) x->x∈bs:=by
  intro x hx;obtain ⟨n,e,he,ex⟩:=hx;rcases (ein e he).1 with z | z
  ·exact absurd (ex.symm.trans z) n
  ·rw [<-ex];exact z
 have c:=D7e (L:=L) (nm:=nm) (bs:=bs) (λx hx=>(hl x (hb x hx).1).2) b (gs:=gs0++ixG L ix zs) (λg hg=>(Z07.mp hg).elim (g0 g) (gi g)) (u:= .read arr ix)
  (i00 (ok.str _ hz) (by lia) λe he=>⟨by rcases (ein e he).1 with z | z;(rw [z];exact ⟨by decide +kernel,by decide +kernel⟩);exact (hb _ z).2,smK (by have:=(ein e he).2;lia)⟩)
  (λe he=>(ein e he).1.imp id λz=>(hb _ z).1)
  fvr
 refine ⟨c.gd,c.ax,c.fv,?_,λf hf r hr=> ?_⟩
 ·have:=c.dp;rw [Z06] at this;have e1:dep (.read arr ix)=1:=rfl;rw [e1] at this
  lia
 ·obtain ⟨r1,r2⟩:=c.rin f hf r hr;have er:r=(arr,A2v f ix):=Z0w.mp r1;subst er;refine i06 zs hz ⟨by show (A2v f ix).length=_;unfold A2v;rw [Z08,Z08];exact lp,λk x n hx hn=> ?_⟩ λz=>ha z f λg hg=>r2 g (Z05 _ hg)
  have hk:k<ix.length:=by
   have:=(Z03.mp hx).1;unfold A2v at this
   rwa [Z08] at this
  have he:ix[k]? =some ix[k]:=Z0b hk;obtain ⟨y,hy,i⟩:=B1e p he;have hx:(A2v f ix)[k]? =some x:=hx;rw [B4u he] at hx;rw [Z1z,hy] at hn;have hn:L y=n:=Z1a hn;have hx:=Z1a hx;subst hn;by_cases h:ix[k].1=""
  ·rw [Z12 h] at hx;rw [<-hx];exact i.1 h
  ·rw [Z0t h] at hx;have:=r2 _ (Z02 _ (C5c h he hy));have t1: -ix[k].2<=f ix[k].1:=this.1;have t2:f ix[k].1<L y-ix[k].2:=this.2
   lia
theorem C6r {α β:Type} {es:List (α×β)} {a:α} {x y:β} (nd:(es.map (·.1)).Nodup) (h1:(a,x)∈es) (h2:(a,y)∈es):x=y:=by
 induction es with
 | nil=>cases h1
 | cons e r ih =>
  rw [Z0p,Z15] at nd;rcases Z0e.mp h1 with z1 | z1 <;> rcases Z0e.mp h2 with z2 | z2
  ·rw [<-z2] at z1;exact (Prod.mk.inj z1).2
  ·rw [<-z1] at nd;exact absurd (List.mem_map_of_mem (f:=(·.1)) z2) nd.1
  ·rw [<-z2] at nd;exact absurd (List.mem_map_of_mem (f:=(·.1)) z1) nd.1
  ·exact ih nd.2 z1 z2
theorem D5r:(0:Int)<10^(30:Int).toNat:=by decide +kernel
theorem D2s (c:Int):Sm (c%10^(30:Int).toNat):=by
 have h1:=Z1v c (show (10:Int)^(30:Int).toNat≠0 by decide +kernel);have h2:=Z1p c D5r;have h3:((10:Int)^(30:Int).toNat)<=10^32:=by decide +kernel
 unfold Sm
 lia
structure Gr (H:Hp) (D ab b:Addr) (ms:List Int) (x:Abt) (L:Str->Int) (nm:List Str) (es0:List (Str×List Str)) (oy bs:List Str):Prop where
 d:H D=some (.lst (ms.map V.int))
 a:D6q H ab x L nm (es0.map (·.1)) (es0++[(x.own,oy)])
 e:D6p L nm (es0++[(x.own,oy)])
 b:H b=some (.lst (bs.map V.str))
 bn:∀y∈bs,y∈nm
 nk:∀y∈nm,B4l y
 lb:bs.length<=100
 ob:∀y∈oy,y∈bs
def C1j:Sp:=λvs H Q _=>∃(D ab b:Addr) (top:Bool) (ms:List Int) (x:Abt) (L:Str->Int) (nm:List Str) (es0:List (Str×List Str)) (oy bs:List Str),vs=[.ref D,.ref ab,.ref b,.bl top]/\Gr H D ab b ms x L nm es0 oy bs/\
 ∀(v:V) (u:Tm) (ms':List Int) (H':Hp),A7q L nm (es0++[(x.own,oy)]) x.own oy bs 9 u->KJ D H H'->H' D=some (.lst (ms'.map V.int))->A6p (A1w (Nw H) H') v u->Q v H'
theorem C8s (T:Txt K mg t):FO P w base T.ko 3 C1j:=by
 have Gc8:= @C5s P w K mg base t T;have Gc7:= @A6m P w K mg base t T;have Gc9:= @B9k P w K mg base t T;refine T.ko.F.ok A1q (λvs H Q E h=> ?_) λ_ A _ s H _ Q E hr h=> ?_
 ·refine e0e h ?_;clear h;rintro D ab b top ms x L nm es0 ⟨oy,bs,rfl,_⟩;rfl
 ·refine e0e h ?_;clear h;rintro D ab b top ms x L nm es0 ⟨oy,bs,rfl,⟨hD,ap,ok,hb,bnm,nok,lb,obs⟩,k⟩;have hu:=A4z hr;have few:=ok.few;obtain ⟨lk,hlk,lok⟩:=ap.le;obtain ⟨ak,hak,ar⟩:=ap.sh;have own_in:(x.own,oy)∈es0++[(x.own,oy)]:=Z02 _ (.head _);have es_in:∀e∈es0,e∈es0++[(x.own,oy)]:=λe he=>Z05 _ he
  have nown:x.own∉es0.map (·.1):=by
   have:=ok.nd;rw [Z0s,Z0l] at this;intro z;exact this.2.2 _ z _ (Z0w.mpr rfl) rfl
  have les0:es0.length<=20:=by rw [Z06] at few;lia
  generalize hes:es0++[(x.own,oy)]=es at ap ok k ar own_in es_in
  refine ⟨_,(A0c (A0l (i:=4) A1q.nd (pcl Gc7 hr T.au (A0a (pv 0) A0d)))
   (A0c (A0l (i:=5) A1q.nd (A2a A4x (by rfl) T.cv Z1o (A0a (A0p hu (pv 1) A0u) A0d)))
   (A3s (A1o (PW.pt (B4i (A3w (pv 3)) (A9r (A0w C0n (A0y A1c (by rfl) T.bd Z0r (A0a (A0p hu (A0p hu (pv 1) A0u) (A0p hu (pv 1) A0u)) A0d)) A0g (A1f _)))))
    (A0e (A0l (i:=5) A1q.nd (A0n B8c (pv 5) (A4m (A0a (A0p hu (pv 1) A0u) (A0a (A0p hu (pv 1) A0u) A0d))))))
    A0r)
   (A0c (A1o (A0w A3n (A0y A1c (by rfl) T.bd Z0r (A0a (pv 5) A0d)) A0g (A1f _))
    (A0e (A0o (A2j (A0a A0u (A0a (A0n A1i (pv 4) (A0n A7h A0g A0g)) A0d)))))
    A0r)
   (A0c (A0l (i:=6) A1q.nd (A1h A3b (pv 5) (A0n A1i (pv 4) (A0y A1c (by rfl) T.bd Z0r (A0a (pv 5) A0d)))))
   (A0c (A0l (i:=7) A1q.nd (A0p hu (A0p hu (pv 1) A0u) (pv 6)))
   (A0c (A0l (i:=8) A1q.nd (A0p hu (pv 1) A0u))
   (A0c (A0l (i:=9) A1q.nd (A0n B8c (pv 2) (A4m (A0a A0u A0d))))
   (A0c (A0l (i:=10) A1q.nd (A4m A0d))
   (A0c (A2g (A2m (pv 7)) (A0m (i:=11) A1q.nd)
    (A0c (A0l (i:=12) A1q.nd (pcl Gc7 hr T.au (A0a (pv 0) A0d)))
    (A0c (A0l (i:=13) A1q.nd (A1h A3b (pv 9) (A0n A1i (pv 12) (A0y A1c (by rfl) T.bd Z0r (A0a (pv 9) A0d)))))
    (A0c (A0l (i:=14) A1q.nd (A0n A5c (A0n A1i (A0n A2h (pv 12) A0g) A0g) A0g))
    (A3s (A1o (A0w A3n (pv 13) A0u (A1f _))
     (A0e (A0l (i:=14) A1q.nd (A0n A1i (A0n A2h (pv 12) A0g) (A0p hu (pv 8) (pv 11)))))
     A0r)
    (A0e (A3t (B0u Z0k Z0n Z0o A3o (pv 10) (A0a (A2j (A0a (pv 13) (A0a (pv 14) A0d))) A0d)))))))))
   (A0c (A0l (i:=15) A1q.nd (A4m A0d))
   (A3s (A1o (A0w A3n (pv 6) (A0p hu (pv 1) A0u) (A1f _))
    (A0e (B4e (pcl Gc8 hr T.kr (A0a (pv 0) (A0a (pv 7) (A0a (pv 8) (A0a (pv 10) A0d))))) (A4y (n:=2) rfl (A1b (A0m (i:=10) A1q.nd) (A1b (A0m (i:=15) A1q.nd) A3m)))))
    A0r)
   (A0c (A2g (B1c rfl T.nW (A0a (pv 10) (A0a (pv 7) A0d))) (A4y (n:=2) rfl (A1b (A0m (i:=16) A1q.nd) (A1b (A0m (i:=11) A1q.nd) A3m)))
    (A0e (A1o (A0w C3w (A1h A1g (pv 16) A0g) A0u (A1f _))
     (A0e (A3t (B0u Z0k Z0n Z0o A3o (pv 15) (A0a (A2j (A0a (A1h A1g (pv 16) A0g) (A0a (C9c C1s (A1h A1g (pv 16) A0g)) (A0a (A0n A5c (A0p hu (pv 8) (pv 11)) (A1h A1g (pv 16) A0g)) A0d)))) A0d))))
     A0r)))
   (A0e (A0o (pcl Gc9 hr T.im (A0a (A2j (A0a A0u (A0a (pv 6) (A0a (pv 10) A0d)))) (A0a (pv 15) (A0a (C8t A3n (A0n A1i (A0n A2h (pv 4) A0g) A0g) A0g (A1f _)) A0d))))))))))))))))))),?_⟩
  refine i0o _ rfl D ms rfl hD λc ms1 H1 l1 h1 o1 e1=> ?_;have k1:=A5b hD o1 e1;have a1:=ap.ki k1.ki;refine i0o _ rfl ab _ rfl (a1.get (B5o x)) (i0f x.ah _ rfl (.inl (SqL.of a1.ah)) λK0 hK0=> ?_);obtain ⟨H2,st,hDt,eNH⟩:=nH (o:= .lst ((es0.map (·.1)).map V.str)) hK0
  try rw [eNH]
  have k2:=k1.trans (KJ.of st);have a2:=ap.ki k2.ki;have hD2:=st _ _ h1
  have kin0:∀z∈es0.map (·.1),∃ys,(z,ys)∈es/\(z=x.own->oy≠[]):=λz hz=>by
   obtain ⟨e,he,rfl⟩:=Z2c.mp hz;exact i02 e.2 (es_in e he) λz=>absurd (by rw [<-z];exact hz) nown
  obtain ⟨co,eco,_,hco⟩:=B7l (Paired.mapP ar (by rintro _ _ ⟨z1,b,z2,z3,z4⟩;exact i0a z1 b z2 z3 (k2.str z4)):AR (λb=>b≠x.ah) H2 ak es) ok.nd own_in;have gown:A5a H2 x.sh (.str x.own) (some (.ref co)):= .inl (i0f ak (Sum.inr x.own) (.inl (k2.dk hak)) rfl eco.symm);refine i02 (λZ H3=>∃(kl:Addr) (kn:List Str),Z=[Sro D,Sro ab,Sro b,Sbo top,Sio c,Sro kl,none,none,none,none,none,none,none,none,none,none,none]/\A0s H2 H3/\H3 kl=some (.lst (kn.map V.str))/\kn.length<=22/\∀z∈kn,∃ys,(z,ys)∈es/\(z=x.own->oy≠[])) ?_ ?_
  ·refine i0e _ rfl top rfl (D9t (λ_=> ?_) (λ_=>A7j (i0p K0 _ rfl (A0s.refl _) hDt (by rw [Z08];lia) kin0)));refine i0o _ rfl ab _ rfl (a2.get (A4g x)) (i0o _ rfl ab _ rfl (a2.get (C2e x)) (i07 x.sh _ rfl (i0j gown co _ rfl (.inl (SqL.of hco)) ⟨_,(i0k _ rfl rfl _ rfl (A2n (λh0=> ?_) (λh0=>(i0p K0 _ rfl (A0s.refl _) hDt (by rw [Z08];lia) kin0))))⟩)));have one:oy≠[]:=λz=>by rw [z] at h0;exact absurd (show (0:Int)<0 from h0) (by decide)
   refine i0v _ rfl _ rfl ab _ rfl (a2.get (C2e x)) (i0o _ rfl ab _ rfl (a2.get (C2e x)) ⟨A1j rfl,λpl hpl=> ?_⟩);have t1:A0s H2 (upd H2 pl (.lst [.str x.own,.str x.own])):=A0f hpl;refine i0z K0 pl _ _ rfl rfl (t1 _ _ hDt) A0b (A4d (by simp;lia)) λp hp=> ?_;refine i0p p (es0.map (·.1)++[x.own,x.own]) rfl (t1.trans (A0f hp)) (by rw [A0b,Z0s];rfl) (by simp;lia) λz hz=> ?_;rcases Z07.mp hz with hz | hz
   ·exact kin0 z hz
   ·have:z=x.own:=by simpa using hz
    exact i02 oy (by rw [this];exact own_in) λ_=>one
  rintro Z H3 zz;refine e06 zz ?_;clear zz;rintro kl kn rfl s3 hkl ⟨lkn,kin⟩;have k3:=k2.trans (KJ.of s3);have a3:=ap.ki k3.ki;have hD3:=s3 _ _ hD2;refine i0y _ rfl kl _ rfl (.inl (SqL.of hkl)) rfl _ rfl (A2n (λ_=> ?_) (λhne=> ?_))
  ·refine i16 _ rfl _ _ rfl rfl (i00 (by decide) (by decide) (by decide)) _ _ rfl rfl D5r ⟨A1j rfl,λp hp=> ?_⟩;exact k (.ref p) (.num (c%10^(30:Int).toNat)) ms1 _ (A7q.num (D2s c) (by decide)) (k3.trans (KJ.of (A0f hp))) ((A0f hp) _ _ hD3) (.num (A1a (A4b k3.ki hp) A0b))
  have kpos:0<kn.length:=by
   rcases Nat.eq_zero_or_pos kn.length with z | z
   ·exact absurd (by rw [Z08,z];rfl) hne
   ·exact z
  obtain ⟨arr,har,ear⟩:=A8x (f:=V.str) (xs:=kn) (i:=c%(kn.length:Int)) (Z1v _ (by lia)) (Z1p _ (by lia));obtain ⟨zs,hzs,hown⟩:=kin arr (Z13 har);refine i10 _ rfl _ rfl _ rfl kl _ rfl (.inl (SqL.of hkl)) (i0m _ _ rfl rfl (by show (0:Int)<((kn.map V.str).length:Int);rw [Z08];lia) (i0x kl _ _ _ rfl rfl (SqL.of hkl) (by rw [Z08];exact ear) ?_));obtain ⟨cz,ecz,czah,hcz⟩:=B7l (Paired.mapP ar (by rintro _ _ ⟨z1,b,z2,z3,z4⟩;exact i0a z1 b z2 z3 (k3.str z4)):AR (λb=>b≠x.ah) H3 ak es) ok.nd hzs;have hcz:H3 cz=some (.lst (zs.map V.str)):=hcz;have gz:A5a H3 x.sh (.str arr) (some (.ref cz)):= .inl (i0f ak (Sum.inr arr) (.inl (k3.dk hak)) rfl ecz.symm);have axz:=ok.ax _ hzs;have lz3:zs.length<=3:=axz.few;refine i0o _ rfl ab _ rfl (a3.get (A4g x)) (i0o _ rfl x.sh _ rfl gz ?_);refine i0o _ rfl ab _ rfl (a3.get (A2t x)) ?_;refine i06 _ rfl (A1j rfl) λel hel=> ?_;have t3:A0s H3 (upd H3 el (.lst [.str ""])):=A0f hel;refine i0z b el _ _ rfl rfl (t3 _ _ (k3.str hb)) A0b (A4d (by rw [Z08];show bs.length+1<=1000000;lia)) λsl hsl=> ?_;have t4:A0s (upd H3 el (.lst [.str ""])) (upd (upd H3 el (.lst [.str ""])) sl (.lst (bs.map V.str++[.str ""]))):=A0f hsl;have hsl4:upd (upd H3 el (.lst [.str ""])) sl (.lst (bs.map V.str++[.str ""])) sl=some (.lst ((bs++[("":Str)]).map V.str)):=by rw [A0b,Z0s];rfl
  have s34:=t3.trans t4;generalize upd (upd H3 el (.lst [.str ""])) sl (.lst (bs.map V.str++[.str ""]))=H4 at s34 hsl4;clear t3 t4;have k4:=k3.trans (KJ.of s34);have hD4:=s34 _ _ hD3;have hcz4:=s34 _ _ hcz;refine ⟨A1j rfl,λil hil=> ?_⟩;have ilD:il≠D:=(A0h hD4 hil).symm;have ilsl:il≠sl:=(A0h hsl4 hil).symm;have ilcz:il≠cz:=(A0h hcz4 hil).symm;have hilH:∀{bb:Addr} {u:HO},(∀n xs,u≠.lst (V.int n::xs))->H bb=some u->bb≠il:=λn e=>A0h (k4.ki _ _ n e) hil;have hilB:∀{bb:Addr} {u:HO},bb≠D->H bb=some u->bb≠il:=λn e=>A0h (k4.kb _ _ n e) hil;refine i0l _ rfl cz rfl ⟨_,SqL.of ((A0f hil) _ _ hcz4)⟩ ?_
  refine A3k (K:=K) (a:=cz) (xs:=zs.map V.str) (λi Z H8=>∃(o11 o12 o13 o14:Option V) (ms2:List Int) (ys:List V) (ix:List (Str×Int)),Z=[Sro D,Sro ab,Sro b,Sbo top,Sio c,Sro kl,Sso arr,Sro cz,Sro x.ld,Sro sl,Sro il,o11,o12,o13,o14,none,none]/\KJ D H H8/\H8 D=some (.lst (ms2.map V.int))/\H8 sl=some (.lst ((bs++[("":Str)]).map V.str))/\H8 cz=some (.lst (zs.map V.str))/\H8 il=some (.lst ys)/\IxV H H8 ys ix/\Paired (IxS L bs) ix (zs.take i))
   ⟨none,(i19 none none none ms1 [] [] rfl (k4.trans (KJ.of (A0f hil))) ((A0f hil) _ _ hD4) ((A0f hil) _ _ hsl4) ((A0f hil) _ _ hcz4) A0b ⟨.nil,.nil⟩)⟩ (by (refine λi Z H8 _ zz=>e0g zz λ_ _ _ _ _ _ _ _ _ _ _ z _=>?_;clear zz);exact SqL.of z) ?_ ?_
  ·rintro i y0 Z H8 hy0 zz;refine e0g zz ?_;clear zz;rintro o11 o12 o13 o14 ms2 ys ix rfl k8 hD8 hsl8 hcz8 ⟨hil8,px,pin⟩;obtain ⟨y,hy,rfl⟩:=A2b hy0;refine i0o _ rfl D ms2 rfl hD8 λc2 ms3 H9 l9 h9 o9 e9=> ?_;have k89:=A5b hD8 o9 e9;have hsl9:=k89.str hsl8;have hcz9:=k89.str hcz8;have hil9:H9 il=some (.lst ys):=by rw [o9 il ilD];exact hil8
   have px9:=px.kt k89.kt;have k9:=k8.trans k89;have lp:=Paired.length pin;have lpx:=Paired.length px;have ltk:(zs.take i).length<=3:=by rw [Z0x];lia
   obtain ⟨a',ha',ea'⟩:=A8x (f:=V.str) (xs:=bs++[("":Str)]) (i:=c2%((bs++[("":Str)]).length:Int)) (Z1v _ (by simp <;> lia)) (Z1p _ (by simp <;> lia));refine i10 _ rfl _ rfl _ rfl sl _ rfl (.inl (SqL.of hsl9)) (i0m _ _ rfl rfl (by show (0:Int)<(((bs++[("":Str)]).map V.str).length:Int);simp <;> lia) (i0x sl _ _ _ rfl rfl (SqL.of hsl9) (by rw [Z08];exact ea') ?_));refine i16 _ rfl _ _ rfl rfl ⟨by decide,by decide⟩ _ _ rfl rfl z_70 (i0f _ _ rfl rfl ?_);have ynm:=axz.sub y (Z13 hy);have yok:=lok.ok y ynm;refine i02 (λZ G=>∃z:Int,Z=[Sro D,Sro ab,Sro b,Sbo top,Sio c,Sro kl,Sso arr,Sro cz,Sro x.ld,Sro sl,Sro il,Sso y,Sio c2,Sso a',Sio z,none,none]/\H9=G/\IxS L bs (a',z) y) ?_ ?_
   ·refine i0k _ rfl rfl _ rfl (A2n (λh0=> ?_) (λh0=> ?_))
    ·have g:=A5a.k (H:=H9) (a:=x.ld) (k:=Sum.inr y) (k9.dk hlk);rw [lok.val ynm] at g;refine i0y _ rfl _ _ rfl rfl ⟨by decide,by decide⟩ _ rfl (i0o _ rfl x.ld _ rfl g (i0m _ _ rfl rfl (by show (0:Int)<L y;lia) ?_));have v0:=Z1v (c2/7) (show L y≠0 by lia);have v1:=Z1p (c2/7) (show 0<L y by lia);exact ⟨_,(i08 rfl rfl (λ_=>⟨v0,v1⟩) (λz=>absurd (V.str.inj h0) z) (by show (c2/7%L y).natAbs<=60;lia))⟩
    ·refine ⟨_,(i08 rfl rfl (λz=>absurd (by rw [show a'="" from z]) h0) (λz=> ?_) (by show (c2/7%7-3).natAbs<=60;lia))⟩;rcases Z07.mp (Z13 ha') with m | m
     ·exact m
     ·exact absurd (Z0w.mp m) z
   rintro Z G ⟨z,rfl,rfl,iz⟩;refine i06 _ rfl (.inl (i01 rfl _ (SqL.of hil9))) (i0l _ rfl _ rfl (A1j rfl) λq hq=> ?_);have nwq:Nw H q:=A4b k9.ki hq;obtain ⟨H10,sq,hqq,eNH⟩:=nH (o:= .tup [.str a',.int z]) hq
   try rw [eNH]
   have hil10:=sq _ _ hil9;refine i0s il _ _ rfl rfl hil10 (A1d (by lia)) ?_;have up:∀{bb:Addr} {u:HO},bb≠il->H10 bb=some u->upd H10 il (.lst (ys++[.ref q])) bb=some u:=λn e=>by rw [A0i n];exact e
   have kil:KT H10 (upd H10 il (.lst (ys++[.ref q]))):=KT.at hil10 (by intro xs z;cases z);refine ⟨_,(i19 _ _ _ ms3 (ys++[.ref q]) (ix++[(a',z)]) rfl ⟨λbb u n e=>up (hilH n e) (sq _ _ (k9.ki _ _ n e)),λbb u n e=>up (hilB n e) (sq _ _ (k9.kb _ _ n e))⟩ (up ilD.symm (sq _ _ h9)) (up ilsl.symm (sq _ _ hsl9)) (up ilcz.symm (sq _ _ hcz9)) A0b ⟨B3s ((px9.kt (KT.same sq)).kt kil) (.cons (i06 q rfl nwq (kil _ _ hqq)) .nil),?_⟩)⟩;rw [Z14,hy,Z2f];exact B3s pin (.cons iz .nil)
  rintro Z H8 zz;refine e0g zz ?_;clear zz;rintro o11 o12 o13 o14 ms2 ys ix rfl k8 hD8 hsl8 hcz8 ⟨hil8,px,pin⟩;rw [Z08,Z18] at pin;have nil8:Nw H il:=A4b k4.ki hil;refine ⟨A1j rfl,λgl hgl=> ?_⟩;obtain ⟨H9,s8,hgl9,eNH⟩:=nH (o:= .lst []) hgl
  try rw [eNH]
  have k9:=k8.trans (KJ.of s8);have nglH:Nw H gl:=A4b k8.ki hgl;have ilgl:il≠gl:=A0h hil8 hgl;have hD9:=s8 _ _ hD8;have hcz9:=s8 _ _ hcz8;have lpx:=Paired.length px;refine i02 (λZ G=>∃(o11:Option V) (il gl:Addr) (ys gvs:List V) (ix:List (Str×Int)) (gs:List (Str×Int×Int)) (ms3:List Int),Z=[Sro D,Sro ab,Sro b,Sbo top,Sio c,Sro kl,Sso arr,Sro cz,Sro x.ld,Sro sl,Sro il,o11,o12,o13,o14,Sro gl,none]/\KJ D H G/\G D=some (.lst (ms3.map V.int))/\G cz=some (.lst (zs.map V.str))/\Nw H il/\(Nw H gl/\∀bb u,bb≠D->H bb=some u->bb≠gl)/\D≠gl/\cz≠gl/\il≠gl/\G il=some (.lst ys)/\IxV H G ys ix/\Paired (IxS L bs) ix zs/\G gl=some (.lst gvs)/\GdV G gvs gs/\gs.length<=1/\(∀g∈gs,D6m nm bs g)/\(arr=x.own->∀f,(∀g∈gs,g.2.1<=f g.1/\f g.1<g.2.2)->A5v (A2v f ix) (oy.map f))) ?_ ?_
  ·refine i02 _ rfl (i0y _ rfl ab _ rfl ((ap.ki k9.ki).get (C2e x)) rfl _ rfl (A2n (λh0=> ?_) (λh0=>(i03 _ il (i19 gl ys [] ix [] ms2 rfl k9 hD9 hcz9 nil8 ⟨nglH,λbb u n e=>A0h (k8.kb _ _ n e) hgl⟩ (i0i (A0h hD8 hgl) (A0h hcz8 hgl) ilgl (s8 _ _ hil8) (px.kt (KT.same s8)) (i0i pin hgl9 .nil (by simp) (λg hg=>by cases hg) λz=>absurd (by rw [z]) h0)))))));have earr:arr=x.own:=V.str.inj h0;have ezs:zs=oy:=C6r ok.nd (earr▸hzs) own_in;have zne:zs≠[]:=λz=>hown earr (ezs▸z);refine i02 _ rfl (i15 _ rfl _ rfl _ rfl D cz x.ld il H ms2 (i03 zs nm (i1c bs lk L ys ix rfl k9.ki hD9 hcz9 zne lz3 (k9.dk hlk) lok (i08 (λz hz=>(i00 (axz.sub z hz) (obs z (ezs▸hz)) (nok z (axz.sub z hz)))) (s8 _ _ hil8) (px.kt (KT.same s8)) pin λq il' gl' ys' gvs ix' gs ms' H' kb hDb hil' hgl' ne' hil2 ix2 pin2 hgl2 lgv gd2 gok ahd hq=> ?_))));have lgd:=Paired.length gd2;have hcz':=kb.str hcz9;exact i18 q _ rfl (SqT.of hq) rfl _ _ rfl _ _ rfl rfl (i03 _ il' (i19 gl' ys' gvs ix' gs ms' rfl (k9.trans kb) hDb hcz' (A4b k9.ki hil') ⟨A4b k9.ki hgl',λbb u n e=>A0h (k9.kb _ _ n e) hgl'⟩ (i0i (A0h hD9 hgl') (A0h hcz9 hgl') ne' hil2 ix2 (i0i pin2 hgl2 gd2 (by lia) gok λ_=>by rw [<-ezs];exact ahd))))
  clear px pin lpx hil8 nglH nil8 hgl9 ilgl hilH hilB ilD ilsl ilcz;rintro Z H9 zz;refine e07 zz ?_;clear zz;rintro o11 il gl ys gvs ⟨ix,gs,ms3,rfl,k9,hD9,hcz9,nil9,⟨ngl9,glB⟩,Dgl,czgl,ilgl,hil9,px9,pin9,hgl9,gd9,lgs,gok,ahd⟩;have lpx:=Paired.length px9;have lpi:=Paired.length pin9;have lgd:=Paired.length gd9;refine i13 _ rfl _ rfl il cz _ _ rfl (SqL.of hil9) (SqL.of hcz9) ?_
  have glH:∀{bb:Addr} {u:HO},(∀n xs,u≠.lst (V.int n::xs))->H bb=some u->bb≠gl:=λ{bb u} n e z=>by
   subst z;obtain ⟨m,xs,e2⟩:=ngl9 _ e;exact n m xs e2
  refine B1i (K:=K) (a:=il) (b:=cz) (xs:=ys) (ys:=zs.map V.str) (λi Z G=>∃(o11 o16:Option V) (gvs2:List V),Z=[Sro D,Sro ab,Sro b,Sbo top,Sio c,Sro kl,Sso arr,Sro cz,Sro x.ld,Sro sl,Sro il,o11,o12,o13,o14,Sro gl,o16]/\KJ D H G/\G D=some (.lst (ms3.map V.int))/\G cz=some (.lst (zs.map V.str))/\G il=some (.lst ys)/\IxV H G ys ix/\G gl=some (.lst gvs2)/\GdV G gvs2 (gs++ixG L (ix.take i) (zs.take i)))
   (i0n o11 none gvs rfl k9 (i0i hD9 hcz9 hil9 px9 hgl9 (by rw [List.take_zero,List.take_zero];show GdV H9 gvs (gs++[]);rw [Z0u];exact gd9))) (by (rintro i Z G zz;refine e08 zz ?_;clear zz;rintro _ _ _ _ _ _ ⟨z1,z2,_⟩);exact ⟨SqL.of z2,SqL.of z1⟩) (by rw [Z08];lia) ?_ ?_
  ·rintro i v1 v2 Z G p2 hv1 hv2 zz;refine e08 zz ?_;clear zz;rintro o11 o16 gvs2 rfl kG hDG ⟨hczG,hilG,pxG,hglG,gdG⟩ hp2;obtain ⟨e,he,qe,rfl,nqe,hqe⟩:=B1e pxG hv1;obtain ⟨y,hy,rfl⟩:=A2b hv2;obtain ⟨G1,s2,hpp,eNH⟩:=nH (o:= .tup [.ref qe,.str y]) hp2
   try rw [eNH]
   have hq1:=s2 _ _ hqe;have k11:=kG.trans (KJ.of s2)
   have et:ixG L (ix.take (i+1)) (zs.take (i+1))=ixG L (ix.take i) (zs.take i)++gd1 L e y:=by
    rw [Z14,he,Z2f,Z14,hy,Z2f];exact C1f (by rw [Z0x,Z0x];lia)
   rw [et,<-Z0z];refine i18 p2 _ rfl (SqT.of hpp) rfl _ _ rfl _ _ rfl rfl (i1b _ rfl qe _ _ _ rfl rfl (SqT.of hq1) (A0j (j:=0) rfl) rfl _ rfl (C8o (λh0=> ?_) (λh0=> ?_)))
   ·have hne:e.1≠"":=λz=>h0 (by rw [z]);have eg:gd1 L e y=[(e.1,-e.2,L y-e.2)]:=Z0t hne;rw [eg];have ynm:=axz.sub y (Z13 hy);have g:=A5a.k (H:=G1) (a:=x.ld) (k:=Sum.inr y) (k11.dk hlk);rw [lok.val ynm] at g;have lgg:=Paired.length gdG;have lig:=C0m (L:=L) (ix.take i) (zs.take i);rw [Z06] at lgg;rw [Z0x] at lig;refine i06 _ rfl (.inl (i01 rfl _ (SqL.of (s2 _ _ hglG)))) (i11 _ rfl qe _ _ _ rfl rfl (SqT.of hq1) (A0j (j:=0) rfl) (i11 _ rfl qe _ _ _ rfl rfl (SqT.of hq1) (A0j (j:=1) rfl) (i10 _ rfl _ rfl _ rfl x.ld _ rfl g (i11 _ rfl qe _ _ _ rfl rfl (SqT.of hq1) (A0j (j:=1) rfl) (i0m _ _ rfl rfl (A1j rfl) λq hq=> ?_)))));have s3:A0s G1 (upd G1 q (.tup [.str e.1,.int (-e.2),.int (L y-e.2)])):=A0f hq;have hqq:upd G1 q (.tup [.str e.1,.int (-e.2),.int (L y-e.2)]) q=some (.tup [.str e.1,.int (-e.2),.int (L y-e.2)]):=A0b;refine i0s gl _ _ rfl rfl (s3 _ _ (s2 _ _ hglG)) (A1d (by lia)) ?_;generalize upd G1 q (.tup [.str e.1,.int (-e.2),.int (L y-e.2)])=G2 at s3 hqq;have s4:=s2.trans s3;have up:∀{bb:Addr} {u:HO},bb≠gl->G2 bb=some u->upd G2 gl (.lst (gvs2++[.ref q])) bb=some u:=λn e=>by rw [A0i n];exact e
    have kgl:KT G2 (upd G2 gl (.lst (gvs2++[.ref q]))):=KT.at (s4 _ _ hglG) (by intro xs z;cases z);exact i0n _ _ (gvs2++[.ref q]) rfl ⟨λbb u n e=>up (glH n e) (s4 _ _ (kG.ki _ _ n e)),λbb u n e=>up (glB bb u n e) (s4 _ _ (kG.kb _ _ n e))⟩ (i0i (up Dgl (s4 _ _ hDG)) (up czgl (s4 _ _ hczG)) (up ilgl (s4 _ _ hilG)) ((pxG.kt (KT.same s4)).kt kgl) A0b (B3s ((gdG.kt (KT.same s4)).kt kgl) (.cons (i02 q rfl (kgl _ _ hqq)) .nil)))
   ·have e0:e.1="":=by injection h0
    have eg:gd1 L e y=[]:=Z12 e0;rw [eg,Z0u];exact i0n _ _ gvs2 rfl k11 (i0i (s2 _ _ hDG) (s2 _ _ hczG) (s2 _ _ hilG) (pxG.kt (KT.same s2)) (s2 _ _ hglG) (gdG.kt (KT.same s2)))
  ·rintro Z G zz;refine e08 zz ?_;clear zz;rintro o11 o16 gvs2 rfl kG hDG ⟨hczG,hilG,pxG,hglG,gdG⟩;have ei:ix.take ys.length=ix:=by rw [lpx];exact Z18
   have ez:zs.take ys.length=zs:=by rw [lpx,lpi];exact Z18
   rw [ei,ez] at gdG;refine i0l _ rfl _ rfl (A1j rfl) λp hp=> ?_;have sp1:A0s G (upd G p (.tup [.str "read",.str arr,.ref il])):=A0f hp;have rp:Rep (A1w (Nw H) G) (.ref il) (A5e ix):= .lst (A1a nil9 hilG) pxG.rep;have tr1:A6p (A1w (Nw H) (upd G p (.tup [.str "read",.str arr,.ref il]))) (.ref p) (.read arr ix):= .read (A1a (A4b kG.ki hp) A0b) (rp.same (A1l sp1));generalize upd G p (.tup [.str "read",.str arr,.ref il])=H10 at sp1 tr1;refine i02 _ rfl (i16 _ rfl _ _ rfl rfl ⟨by decide,by decide⟩ _ _ rfl rfl E0k (i01 rfl (.ref p) ⟨gl,(i12 _ H gvs2 _ _ rfl ((kG.trans (KJ.of sp1)).ki) tr1 (sp1 _ _ hglG) (gdG.kt (KT.same sp1)) λv' H' sv tv=> ?_)⟩));exact k v' _ ms3 H' (A7q.read (λy hy=>⟨bnm y hy,nok y (bnm y hy)⟩ ) (λy hy=>⟨(lok.ok y hy).1,(lok.ok y hy).2.1⟩) ok hzs pin9 gok lgs ahd _) (kG.trans (KJ.of (sp1.trans sv))) (sv _ _ (sp1 _ _ hDG)) tv
theorem Gr.ki {ms ms':List Int} {x:Abt} {oy bs:List Str} (h:Gr H D ab b ms x L nm es0 oy bs) (k:KI H H') (hD:H' D=some (.lst (ms'.map V.int))):Gr H' D ab b ms' x L nm es0 oy bs:=⟨hD,h.a.ki k,h.e,k.str h.b,h.bn,h.nk,h.lb,h.ob⟩
theorem D8l {H1:Hp} (k:KI H H1) (r:A6p (A1w (Nw H1) H2) v u):A6p (A1w (Nw H) H2) v u:=r.same λb o e=>A1a ((A0z e).1.up k) (A0z e).2
theorem D8y {c:Prop} {dc:Decidable c} {b:Bool} {te:TE} {Z:St} {Q:VK} (h:∀x:Bool,Q (.bl x) H) (ha:(∀x:Bool,Q (.bl x) H)->te Z H Q): @ite Prop c dc (te Z H Q) (Q (.bl b) H):=by
 by_cases hc:c
 ·rw [Z12 hc];exact ha h
 ·rw [Z0t hc];exact h b
theorem D7d (c:Int):Sm (c%(2*10^(29:Int).toNat)-10^(29:Int).toNat):=by
 have h1:=Z1v c (show 2*(10:Int)^(29:Int).toNat≠0 by decide +kernel);have h2:=Z1p c (show 0<2*(10:Int)^(29:Int).toNat by decide +kernel);have h3:((10:Int)^(29:Int).toNat)<=10^32:=by decide +kernel
 unfold Sm
 lia
theorem C5j (z:Str):∀bs:List Str,inV (.str z) (bs.map V.str)=decide (z∈bs)
 | []=>rfl
 | b::r=>by
  have ih:=C5j z r;unfold inV at ih⊢;rw [Z0p,List.any_cons,ih];show ((b == z)||decide (z∈r))=decide (z∈b::r);by_cases e:b=z
  ·subst e;simp
  ·have:¬z=b:=λh=>e h.symm;simp [e,this]
theorem B7j:∀bs:List Str,(bs.map V.str).all B4x=true
 | []=>rfl
 | b::r=>by rw [Z0p,List.all_cons,B7j r];rfl
def B4y (n:Nat):Sp:=λvs H Q _=>∃(D ab b:Addr) (top still:Bool) (ms:List Int) (x:Abt) (L:Str->Int) (nm:List Str) (es0:List (Str×List Str)) (oy bs:List Str),vs=[.ref D,.ref ab,.ref b,.bl top,.bl still,.int (n:Nat)]/\Gr H D ab b ms x L nm es0 oy bs/\bs.length+n<=100/\
 ∀(v:V) (u:Tm) (ms':List Int) (H':Hp),A7q L nm (es0++[(x.own,oy)]) x.own oy bs (n+9) u->KJ D H H'->H' D=some (.lst (ms'.map V.int))->A6p (A1w (Nw H) H') v u->Q v H'
theorem B4g (T:Txt K mg t) {m:Nat} {sp':Sp} (hm:3<=m) (Gd0:A4c P w K mg base CX0 m t.gx t.g_ C3h sp') (hs:1<=n->∀vs H Q,B4y (n-1) vs H Q E0->sp' vs H Q E0):A4c P w K mg base CX0 (m+1) t.gx t.g_ C3h (B4y n):=by
 have Gc7:= @A6m P w K mg base t T;have Gd1:= @C8s P w K mg base t T;refine T.bm.F.ok A3g (λvs H Q E h=> ?_) λ_ A _ s H _ Q E hr h=> ?_
 ·refine e0h h ?_;clear h;rintro D ab b top still ms x L nm es0 oy bs ⟨rfl,_⟩;rfl
 ·refine e0h h ?_;clear h;rintro D ab b top still ms x L nm es0 oy bs ⟨rfl,gr,lbn,k⟩;have hu:=A4z hr
  refine ⟨_,(A0c (A0l (i:=6) A3g.nd (pcl Gc7 hr T.au (A0a (pv 0) A0d)))
   (A0c (A0l (i:=7) A3g.nd (A0n A1i (pv 6) A0g))
   (A3s (A1o (A0w A3n (pv 5) A0g (A1f _))
    (A0e (A0l (i:=7) A3g.nd (A0n A1i (pv 7) A0g)))
    A0r)
   (A0c (C6g (i₀:=8) (N':=["_law_name_here","_law_bound"]) (ix:=(List.replicate 1 none++[some 2])) (tc:=D8z (tOp (rIn K true) (D9v 0) (D9v 1))) A3g.nd rfl (.inl rfl) rfl (A5j (x:="_law_bound") rfl rfl rfl (by decide +kernel) (by decide +kernel)) (A4j (N0:=["_law_name_here"]) rfl (.inl rfl) (by walk_at "ix")) (A2m (A0p hu (pv 1) A0u)) (λ_ _ _ _=>(A0m (i:=0) C6e)) (λ_ _ _ _=>(A0w B6u (pv 0) (pv 1) (by with_unfolding_all rfl))) (λ_ _ _ _=>(pv 0)))
   (A3s (A1o (PW.pt (B4i (A0w C0n (pv 7) A0g (A1f _)) (A9r (A0w C0n (A0y A1c (by rfl) T.bd Z0r (A0a (pv 8) A0d)) A0g (A1f _)))))
    (A0c (A0l (i:=9) A3g.nd (A1h A3b (pv 8) (A0n A1i (A0n A2h (pv 6) A0g) (A0y A1c (by rfl) T.bd Z0r (A0a (pv 8) A0d)))))
    (A0e (A0o (A2j (A0a A0u (A0a (pv 9) (A0a (pcl Gd0 hr T.bm (A0a (pv 0) (A0a (pv 1) (A0a (A0n B8c (pv 2) (A4m (A0a (pv 9) A0d))) (A0a (D7r (pv 3) (D7i (pv 4))) (A0a (pv 4) (A0a (A0n A5c (pv 5) A0g) A0d))))))) A0d)))))))
    A0r)
   (A3s (A1o (PW.pt (B3t (A0w A3n (pv 7) A0g (A1f _)) (B1r (A0w A3n (pv 7) A0g (A1f _)))))
    (A0e (A0o (pcl Gd1 hr T.ko (A0a (pv 0) (A0a (pv 1) (A0a (pv 2) (A0a (pv 3) A0d)))))))
    A0r)
   (A3s (A1o (PW.pt (B3t (A0w A3n (pv 7) A0g (A1f _)) (B1r (PW.pt (B4i (A0w A3n (A0y A1c (by rfl) T.bd Z0r (A0a (pv 2) A0d)) A0g (A1f _)) (A9r (A0w D0t (pv 7) A0g (A1f _))))))))
    (A0e (A0o (A2j (A0a A0u (A0a (A0n A5c (A0n A1i (A0n A2h (pv 6) A0g) (A0n A7k A0g (A0n A7h A0g A0g))) (A0n A7h A0g A0g)) A0d)))))
    A0r)
   (A3s (A1o (A0w A3n (pv 7) A0g (A1f _))
    (A0e (A0o (A2j (A0a A0u (A0a (A1h A3b (pv 2) (A0n A1i (A0n A2h (pv 6) A0g) (A0y A1c (by rfl) T.bd Z0r (A0a (pv 2) A0d)))) A0d)))))
    A0r)
   (A3s (A1o (PW.pt (B4i (A0w A3n (pv 7) A0g (A1f _)) (A9r (A0w C0n (A0y A1c (by rfl) T.bd Z0r (A0a (pv 2) A0d)) A0g (A1f _)))))
    (A0c (A0l (i:=10) A3g.nd (A0n A1i (A0n A2h (pv 6) A0g) A0g))
    (A0c (A0l (i:=11) A3g.nd (pcl Gd0 hr T.bm (A0a (pv 0) (A0a (pv 1) (A0a (pv 2) (A0a (pv 3) (A0a B0v (A0a (A0n A5c (pv 5) A0g) A0d))))))))
    (A0c (A0l (i:=12) A3g.nd (pcl Gd0 hr T.bm (A0a (pv 0) (A0a (pv 1) (A0a (pv 2) (A0a (pv 3) (A0a B0v (A0a (A0n A5c (pv 5) A0g) A0d))))))))
    (A0e (A0o (A2j (A0a A0u (A0a (A1h A3b (pv 2) (A0n A1i (A0n A2h (pv 6) A0g) (A0y A1c (by rfl) T.bd Z0r (A0a (pv 2) A0d)))) (A0a (pv 10) (A0a (A0n A2k (pv 10) (A0n A1i (A0n A2h (pv 6) A0g) A0g)) (A0a (pv 11) (A0a (pv 12) A0d))))))))))))
    A0r)
   (A0c (A0l (i:=13) A3g.nd (pcl Gd0 hr T.bm (A0a (pv 0) (A0a (pv 1) (A0a (pv 2) (A0a (pv 3) (A0a B0v (A0a (A0y (B8p rfl) (by rfl) T.qj PyProof.Rows.boot_max (A0a (A0n A5c (pv 5) A0g) (A0a A0g A0d))) A0d))))))))
   (A0e (A0o (A2j (A0a A0u (A0a (A0n A1i (A0n A2h (pv 6) A0g) A0g) (A0a (pv 13) (A0a (pcl Gd0 hr T.bm (A0a (pv 0) (A0a (pv 1) (A0a (pv 2) (A0a (pv 3) (A0a B0v (A0a (A0y (B8p rfl) (by rfl) T.qj PyProof.Rows.boot_max (A0a (A0n A5c (pv 5) A0g) (A0a A0g A0d))) A0d))))))) A0d))))))))))))))))),?_⟩
  refine i0o _ rfl D ms rfl gr.d λc ms1 H1 l1 h1 o1 e1=> ?_;have k1:=A5b gr.d o1 e1;have g1:=gr.ki k1.ki h1;obtain ⟨lk,hlk,lok⟩:=gr.a.le;refine i0o _ rfl _ _ rfl rfl ⟨E2f,?_⟩;refine i02 (λZ H2=>∃way:Int,Z=[Sro D,Sro ab,Sro b,Sbo top,Sbo still,Sio (n:Nat),Sio c,Sio way,none,none,none,none,none,none]/\H1=H2/\(n=0->way<=3)/\0<=way/\way<=7) ?_ ?_
  ·refine i0k _ rfl rfl _ rfl (A2n (λh0=>(i0y _ rfl _ _ rfl rfl C9h _ rfl (i04 rfl (λ_=>by lia) (by lia) (by lia)))) (λh0=>⟨_,(i08 rfl rfl (λz=>absurd (by rw [z];rfl) h0) (by lia) (by lia))⟩))
  rintro Z H2 ⟨way,rfl,rfl,wn,w0,w7⟩;refine i0o _ rfl ab _ rfl (g1.a.get (C0j x)) (i06 x.ax rfl ⟨_,SqL.of g1.a.ax⟩ λD2 hD2=> ?_);refine C0t (K:=K) (a:=x.ax) (D:=D2) (xs:=nm.map V.str) (λj ys H3=>A0s H1 H3/\H3 D2=some (.lst ys)/\∃zs:List Str,ys=zs.map V.str/\zs.length<=j/\∀z∈zs,z∈nm/\z∉bs) ⟨A0f hD2,(i0a A0b [] rfl (by simp) (by intro z hz;cases hz))⟩ (λj ys H3 s3=>SqL.of (s3.1 _ _ g1.a.ax)) ?_ ?_
  ·rintro j y ys H3 hy ⟨s3,h3,zs,rfl,lz,mz⟩;obtain ⟨z,hz,rfl⟩:=A2b hy;have hj:j<nm.length:=(Z03.mp hz).1;have l8:=lok.few;refine ⟨⟨rfl,True.intro⟩,(i0v _ rfl _ rfl b _ rfl (.inl (SqL.of (s3 _ _ g1.b))) (i09 rfl (B7j bs) _ rfl ?_))⟩;show if (! inV (V.str z) (bs.map V.str))=true then _ else _
   rw [C5j];refine C8o (λnz=> ?_) (λ_=> ?_)
   ·refine i0c _ rfl h3 (A1d (by rw [Z08];lia)) ⟨A0q s3 hD2,(i0a A0b (zs++[z]) (by simp) (by rw [Z06];simp only [Z0y,Z2g];lia) λy hy=> ?_)⟩;rcases Z07.mp hy with hy | hy
    ·exact mz y hy
    ·rw [Z0w.mp hy];exact ⟨Z13 hz,nz⟩
   ·exact ⟨s3,(i0a h3 zs rfl (by lia) mz)⟩
  rintro ys H3 ⟨s3,hfr,zs,rfl,lz,mz⟩;have k3:=k1.trans (KJ.of s3);have hD3:=s3 _ _ h1;have g3:=gr.ki k3.ki hD3;have hb3:=g3.b;have en:(((n:Nat):Int)-1)=((n-1:Nat):Int)\/n=0:=by lia
  have rec':1<=n->∀(tp st:Bool) (b':Addr) (bs':List Str) (ms':List Int) (H4:Hp) (Q':VK),Gr H4 D ab b' ms' x L nm es0 oy bs'->bs'.length+n<=101->KJ D H H4->(∀(v:V) (u:Tm) (ms2:List Int) (H':Hp),A7q L nm (es0++[(x.own,oy)]) x.own oy bs' (n-1+9) u->KJ D H4 H'->H' D=some (.lst (ms2.map V.int))->A6p (A1w (Nw H) H') v u->Q' v H')->sp' [.ref D,.ref ab,.ref b',.bl tp,.bl st,.int ((n:Nat)-1)] H4 Q' E0:=λn1 tp st b' bs' ms' H4 Q' g4 lb' k4 kk=>by
   rw [en.resolve_right (by lia)];exact hs n1 _ _ _ (i03 D ab (i0t b' tp st ms' x L nm (i0q es0 oy bs' rfl g4 (by lia) λv u ms2 H' tm ki2 hD2 rp2=>kk v u ms2 H' tm ki2 hD2 (D8l k4.ki rp2))))
  have dn:1<=n->n-1+9+1=n+9:=by lia
  have n1:3<way->1<=n:=λhw=>by
   rcases Nat.eq_zero_or_pos n with z | z
   ·have:=wn z;lia
   ·exact z
  refine i02 (λZ H2=>Z=[Sro D,Sro ab,Sro b,Sbo top,Sbo still,Sio (n:Nat),Sio c,Sio way,Sro D2,none,none,none,none,none]/\H3=H2) ?_ ?_
  ·refine i0o _ rfl _ _ rfl rfl (i02 _ rfl (A2n (λh5=> ?_) (λh5=>A7j ⟨rfl,rfl⟩)));refine i0o _ rfl D2 _ rfl (.inl (SqL.of hfr)) ⟨_,(i0k _ rfl rfl _ rfl (A2n (λh6=> ?_) (λh6=>⟨rfl,rfl⟩)))⟩;have hw5:(5:Int)<way:=h5;have n1:=n1 (by lia)
   have zpos:0<zs.length:=by
    rcases Nat.eq_zero_or_pos zs.length with z | z
    ·rw [Z08,z] at h6;exact absurd h6 (by decide)
    ·exact z
   obtain ⟨a',ha,ea⟩:=A8x (f:=V.str) (xs:=zs) (i:=c/8%(zs.length:Int)) (Z1v _ (by lia)) (Z1p _ (by lia));obtain ⟨anm,anb⟩:=mz a' (Z13 ha);refine i0v _ rfl _ rfl _ _ rfl rfl ⟨⟨by decide,by decide⟩,(i0o _ rfl D2 _ rfl (.inl (SqL.of hfr)) (i0m _ _ rfl rfl (by show (0:Int)<((zs.map V.str).length:Int);rw [Z08];lia) (i0x D2 _ _ _ rfl rfl (SqL.of hfr) (by rw [Z08];exact ea) ?_)))⟩;refine i02 _ rfl (i0e _ rfl _ rfl (i0l _ rfl _ rfl (A1j rfl) λel hel=> ?_));have t1:A0s H3 (upd H3 el (.lst [.str a'])):=A0f hel;refine i0z b el _ _ rfl rfl (t1 _ _ hb3) A0b (A4d (by rw [Z08];show bs.length+1<=1000000;lia)) λbl hbl=> ?_;have t2:=t1.trans (A0f (o:= .lst (bs.map V.str++[.str a'])) hbl);have hb4:upd (upd H3 el (.lst [.str a'])) bl (.lst (bs.map V.str++[.str a'])) bl=some (.lst ((bs++[a']).map V.str)):=by rw [A0b,Z0s];rfl
   generalize upd (upd H3 el (.lst [.str a'])) bl (.lst (bs.map V.str++[.str a']))=H4 at t2 hb4;have k4:=k3.trans (KJ.of t2)
   have bn4:∀y∈bs++[a'],y∈nm:=by
    intro y hy;rcases Z07.mp hy with z | z
    ·exact gr.bn y z
    ·rw [Z0w.mp z];exact anm
   have g4:Gr H4 D ab bl ms1 x L nm es0 oy (bs++[a']):=⟨t2 _ _ hD3,gr.a.ki k4.ki,gr.e,hb4,bn4,gr.nk,by rw [Z06];simp only [Z0y,Z2g];lia,λy hy=>Z05 _ (gr.ob y hy)⟩;refine i0e _ rfl top rfl (D8y (b:=false) ?_ ?_)
   ·intro tp;refine i0v _ rfl _ rfl _ _ rfl rfl (rec' n1 tp still bl (bs++[a']) ms1 H4 _ g4 (by rw [Z06];simp only [Z0y,Z2g];lia) k4 λv u ms2 H5 tm ki hD5 tr=>⟨A1j rfl,λp hp=> ?_⟩);have tm2:=A7q.sum anb anm (gr.nk a' anm) gr.ob tm;rw [dn n1] at tm2;have k5:=k4.trans ki;have sp1:=A0f (o:= .tup [.str "sum",.str a',v]) hp;exact k (.ref p) _ ms2 _ tm2 (k5.trans (KJ.of sp1)) (sp1 _ _ hD5) (.sum (A1a (A4b k5.ki hp) A0b) (tr.same (A1l sp1)))
   ·intro hh;exact i02 _ rfl (hh still)
  rintro Z H2 ⟨rfl,rfl⟩;refine i02 (λZ H2=>Z=[Sro D,Sro ab,Sro b,Sbo top,Sbo still,Sio (n:Nat),Sio c,Sio way,Sro D2,none,none,none,none,none]/\H3=H2/\way≠2/\way≠3) ?_ ?_
  ·have rd':C1j [.ref D,.ref ab,.ref b,.bl top] H3 Q E0:=(i0t D ab b top ms1 x L ⟨nm,(i0n es0 oy bs rfl g3 λv u ms' H' tm ki hD' tr=>k v u ms' H' (tm.mono (by lia)) (k3.trans ki) hD' (D8l k3.ki tr))⟩);refine i0k _ rfl rfl _ rfl (A2n (λh2=>C9b ?_) (λh2=>(i0k _ rfl rfl _ rfl (A2n (λh3=> ?_) (λh3=>(i04 rfl rfl (λz=>h2 (by rw [z])) λz=>h3 (by rw [z])))))))
   ·exact i0e _ rfl _ rfl (i0e _ rfl _ rfl rd')
   ·exact i0e _ rfl _ rfl (i0e _ rfl _ rfl rd')
  rintro Z H2 ⟨rfl,rfl,w2,w3⟩;refine i02 (λZ H2=>Z=[Sro D,Sro ab,Sro b,Sbo top,Sbo still,Sio (n:Nat),Sio c,Sio way,Sro D2,none,none,none,none,none]/\H3=H2/\way≠0/\(bs=[]->4<=way)) ?_ ?_
  ·have num:∀p:Addr,H3 p=none->Q (.ref p) (upd H3 p (.tup [.str "number",.int (c/8%(2*10^(29:Int).toNat)-10^(29:Int).toNat)])):=λp hp=>k (.ref p) (.num _) ms1 _ (A7q.num (D7d _) (by lia)) (k3.trans (KJ.of (A0f hp))) ((A0f hp) _ _ hD3) (.num (A1a (A4b k3.ki hp) A0b));refine i0k _ rfl rfl _ rfl (A2n (λh0=>C9b ?_) (λh0=>(i0y _ rfl b _ rfl (.inl (SqL.of hb3)) rfl _ rfl (A2n (λhz=>(i0o _ rfl _ _ rfl rfl (i02 _ rfl (A2n (λh4=> ?_) (λh4=>(i04 rfl rfl (λz=>h0 (by rw [z])) λ_=>by have h4:¬way<4:=h4;lia)))))) (λhz=>A7j (i04 rfl rfl (λz=>h0 (by rw [z])) λz=>absurd (by rw [z];rfl) hz))))))
   ·exact i16 _ rfl _ _ rfl rfl ⟨by decide,by decide⟩ _ _ rfl rfl (i00 (by decide) (by decide) (by decide)) (i0m _ _ rfl rfl (.inl ⟨by decide,by decide⟩) (i0m _ _ rfl rfl (by show (0:Int)<2*10^(29:Int).toNat;decide +kernel) (i0m _ _ rfl rfl (i00 (by decide) (by decide) (by decide)) (i0m _ _ rfl rfl (A1j rfl) num))))
   ·exact i16 _ rfl _ _ rfl rfl ⟨by decide,by decide⟩ _ _ rfl rfl (i00 (by decide) (by decide) (by decide)) (i0m _ _ rfl rfl (.inl ⟨by decide,by decide⟩) (i0m _ _ rfl rfl (by show (0:Int)<2*10^(29:Int).toNat;decide +kernel) (i0m _ _ rfl rfl (i00 (by decide) (by decide) (by decide)) (i0m _ _ rfl rfl (A1j rfl) num))))
  rintro Z H2 ⟨rfl,rfl,w0',w4⟩
  have axs:bs≠[]->∃a':Str,a'∈bs/\(0:Int)<((bs.map V.str).length:Int)/\atI (bs.map V.str) (c/8%((bs.map V.str).length:Int))=some (.str a'):=λhw=>by
   have pos:0<bs.length:=List.length_pos_iff.mpr hw;obtain ⟨a',ha,ea⟩:=A8x (f:=V.str) (xs:=bs) (i:=c/8%(bs.length:Int)) (Z1v _ (by lia)) (Z1p _ (by lia));exact i06 a' (Z13 ha) (by rw [Z08];lia) (by rw [Z08];exact ea)
  refine i02 (λZ H2=>Z=[Sro D,Sro ab,Sro b,Sbo top,Sbo still,Sio (n:Nat),Sio c,Sio way,Sro D2,none,none,none,none,none]/\H3=H2/\way≠1) ?_ ?_
  ·refine i0k _ rfl rfl _ rfl (A2n (λh1'=> ?_) (λh1'=>(i00 rfl rfl λz=>h1' (by rw [z]))));have e1:way=1:=V.int.inj h1';obtain ⟨a',ma,pos,ea⟩:=axs (λz=>by have:=w4 z;lia);refine i0v _ rfl _ rfl _ _ rfl rfl ⟨⟨by decide,by decide⟩,(i0o _ rfl b _ rfl (.inl (SqL.of hb3)) (i0m _ _ rfl rfl pos (i0z b _ _ _ rfl rfl (SqL.of hb3) ea (A1j rfl) λp hp=> ?_)))⟩;exact k (.ref p) (.place a') ms1 _ (A7q.place ma (gr.bn a' ma) (gr.nk a' (gr.bn a' ma)) (by lia)) (k3.trans (KJ.of (A0f hp))) ((A0f hp) _ _ hD3) (.place (A1a (A4b k3.ki hp) A0b))
  rintro Z H2 ⟨rfl,rfl,w1⟩;have n1:=n1 (by lia);have dn:=dn n1;refine i02 (λZ H2=>Z=[Sro D,Sro ab,Sro b,Sbo top,Sbo still,Sio (n:Nat),Sio c,Sio way,Sro D2,none,none,none,none,none]/\H3=H2) ?_ ?_
  ·refine i0k _ rfl rfl _ rfl (A2n (λh5=> ?_) (λh5=>A7j ⟨rfl,rfl⟩));refine i0o _ rfl b _ rfl (.inl (SqL.of hb3)) ⟨_,(i0k _ rfl rfl _ rfl (A2n (λh6=> ?_) (λh6=>⟨rfl,rfl⟩)))⟩;obtain ⟨a',ma,pos,ea⟩:=axs (λz=>by rw [z] at h6;exact absurd h6 (by decide));refine i16 _ rfl _ _ rfl rfl ⟨by decide,by decide⟩ _ _ rfl rfl C9h ?_;refine i0e _ rfl _ rfl (i10 _ rfl _ rfl _ rfl _ _ rfl rfl (rec' n1 top false b bs ms1 H3 _ g3 (by lia) k3 λvl ul ms2 H4 tl ki1 hD4 rl=> ?_));have k4:=k3.trans ki1;refine i0e _ rfl _ rfl (i10 _ rfl _ rfl _ rfl _ _ rfl rfl (rec' n1 top false b bs ms2 H4 _ (gr.ki k4.ki hD4) (by lia) k4 λvr ur ms3 H5 tr ki2 hD5 rr=> ?_));have k5:=k4.trans ki2;have rl5:=rl.ki (C1z ki2.ki);have hb5:=k5.str gr.b;refine i0v _ rfl _ rfl _ _ rfl rfl ⟨⟨by decide,by decide⟩,(i0o _ rfl b _ rfl (.inl (SqL.of hb5)) (i0m _ _ rfl rfl pos (i0x b _ _ _ rfl rfl (SqL.of hb5) ea (i0e _ rfl _ rfl (i16 _ rfl _ _ rfl rfl ⟨by decide,by decide⟩ _ _ rfl rfl C9h (i0f _ _ rfl rfl (i0l _ rfl _ rfl (A1j rfl) λp hp=> ?_)))))))⟩;have tm:=A7q.guard (lo:=c/64%4) (hi:=c/64%4+c/256%4) ma (gr.bn a' ma) (gr.nk a' (gr.bn a' ma)) (smK (by lia)) (smK (by lia)) tl tr;rw [dn] at tm;have sp1:=A0f (o:= .tup [.str "guard",.str a',.int (c/64%4),.int (c/64%4+c/256%4),vl,vr]) hp;exact k (.ref p) _ ms3 _ tm (k5.trans (KJ.of sp1)) (sp1 _ _ hD5) (.guard (A1a (A4b k5.ki hp) A0b) (rl5.same (A1l sp1)) (rr.same (A1l sp1)))
  rintro Z H2 ⟨rfl,rfl⟩;have emx:(if (0:Int)>((n:Nat):Int)-1 then (0:Int) else ((n:Nat):Int)-1)=((n:Nat):Int)-1:=Z0t (by lia);refine i0e _ rfl _ rfl (i10 _ rfl _ rfl _ rfl _ _ rfl rfl (i07 _ _ rfl ?_));dsimp only;rw [emx];refine rec' n1 top false b bs ms1 H3 _ g3 (by lia) k3 λvl ul ms2 H4 tl ki1 hD4 rl=> ?_;have k4:=k3.trans ki1;refine i16 _ rfl _ _ rfl rfl ⟨by decide,by decide⟩ _ _ rfl rfl E0k (i02 _ rfl (i0e _ rfl _ rfl (i10 _ rfl _ rfl _ rfl _ _ rfl rfl (i07 _ _ rfl ?_))));dsimp only;rw [emx];refine rec' n1 top false b bs ms2 H4 _ (gr.ki k4.ki hD4) (by lia) k4 λvr ur ms3 H5 tr ki2 hD5 rr=>⟨A1j rfl,λp hp=> ?_⟩;have k5:=k4.trans ki2;have rl5:=rl.ki (C1z ki2.ki);have tm:=A7q.pair (o:=D6l (c/8%3)) tl tr;rw [dn] at tm;have sp1:=A0f (o:= .tup [.str "pair",.int (c/8%3),vl,vr]) hp;exact k (.ref p) _ ms3 _ tm (k5.trans (KJ.of sp1)) (sp1 _ _ hD5) (.pair (A1a (A4b k5.ki hp) A0b) (rl5.same (A1l sp1)) (rr.same (A1l sp1)))
theorem C2r (T:Txt K mg t):∀n:Nat,A4c P w K mg base CX0 (n+4) t.gx t.g_ C3h (B4y n)
 | 0=>B4g T (sp':=λ_ _ _ _=>False) (m:=3) (by lia) (A4c.none λ_ _ _ _ h=>h) λh=>absurd h (by lia)
 | n+1=>B4g T (m:=n+4) (by lia) (C2r T n) λ_ vs H Q h=>h
def plM (L:Str->Int) (cs:List Int) (ys:List Str):Int:=(cs.zip ys).foldl (λp e=>p*L e.2+e.1) 0
theorem C1d {cs:List Int} (c:Int) (y:Str) (h:cs.length=ys.length):plM L (cs++[c]) (ys++[y])=plM L cs ys*L y+c:=by
 unfold plM;rw [List.zip_append h,List.foldl_append];rfl
theorem C2q {α β:Type} {f:α->List β} {n k:Nat} (hk:k<n):∀{l:List α} {i:Nat} {x:α},(∀x∈l,(f x).length=n)->l[i]? =some x->(l.flatMap f)[i*n+k]? =(f x)[k]?
 | [],i,x,_,h=>by simp at h
 | a::l,0,x,hl,h=>by
  have h:a=x:=by simpa using h
  subst h;rw [List.flatMap_cons,Nat.zero_mul,Nat.zero_add,Z26 (by rw [hl a (.head _)];exact hk)]
 | a::l,i+1,x,hl,h=>by
  have e:(i+1)*n+k=n+(i*n+k):=by rw [Nat.succ_mul];lia
  rw [List.flatMap_cons,e,Z1l (by rw [hl a (.head _)];lia),hl a (.head _),Nat.add_sub_cancel_left];exact C2q hk (λy hy=>hl y (.tail _ hy)) (by simpa using h)
theorem C1v {L:Str->Int}:∀(n:Nat) (ys:List Str) (c:List Int),ys.length=n->Within c (ys.map L)->0<=plM L c ys/\(A0t (ys.map L))[(plM L c ys).toNat]? =some c
 | 0,ys,c,hn,w=>by
  have e1:ys=[]:=List.eq_nil_of_length_eq_zero hn;subst e1;have e2:c=[]:=List.eq_nil_of_length_eq_zero w.1;subst e2;exact ⟨Int.le_refl _,rfl⟩
 | n+1,ys,c,hn,w=>by
  obtain ⟨r,m,rfl⟩:∃r m,ys=r++[m]:=⟨ys.dropLast,ys.getLast (by intro z;rw [z] at hn;cases hn),(List.dropLast_concat_getLast _).symm⟩;have hc:=w.1;rw [Z08] at hc;rw [Z06,Z0j] at hc hn;obtain ⟨d,x,rfl⟩:∃d x,c=d++[x]:=⟨c.dropLast,c.getLast (by intro z;rw [z] at hc;cases hc),(List.dropLast_concat_getLast _).symm⟩;rw [Z06,Z0j] at hc;have hd:d.length=r.length:=by lia
  rw [Z0s] at w⊢;have w':Within d (r.map L):=⟨by rw [Z08];exact hd,λk y l e1 e2=>w.2 k y l (by rw [Z26 (Z03.mp e1).1];exact e1) (by rw [Z26 (Z03.mp e2).1];exact e2)⟩;obtain ⟨p0,p1⟩:=C1v n r d (by lia) w';have hx:=w.2 d.length x (L m) (by rw [Z1l (Z09 _),Nat.sub_self];rfl) (by rw [hd,Z1l (by rw [Z08];exact Z09 _),Z08,Nat.sub_self];rfl);rw [C1d x m hd];have q0:0<=plM L d r*L m:=Int.mul_nonneg p0 (by lia);refine ⟨by lia,?_⟩
  have e1:(plM L d r*L m+x).toNat=(plM L d r).toNat*(L m).toNat+x.toNat:=by
   have:((plM L d r*L m+x).toNat:Int)=(((plM L d r).toNat*(L m).toNat+x.toNat:Nat):Int):=by
    push_cast
    rw [Int.toNat_of_nonneg p0,Int.toNat_of_nonneg (show 0<=L m by lia),Int.toNat_of_nonneg hx.1,Int.toNat_of_nonneg (by lia)]
   exact Int.ofNat.inj this
  show (A0t (r.map L++[L m]))[_]? =_;rw [A4n,e1];unfold A9o;rw [C2q (n:=(L m).toNat) (k:=x.toNat) (by lia) (λy _=>by rw [Z08,List.length_range]) p1,Z1z,List.getElem?_range (by lia)];show some (d++[((x.toNat:Nat):Int)])=_;rw [Int.toNat_of_nonneg hx.1]
def lw (L:Str->Int) (num:Str->List Int->Int) (wh:Int):Tm->(Str->Int)->Int
 | .num z,_=>z
 | .place x,f=>f x
 | .read a ix,f=>num a (A2v f ix)
 | .sum x b,f=>B8u (λ(k:Nat)=>lw L num wh b (A8y f x (k:Int))) (L x).toNat
 | .pair .plus l r,f=>lw L num wh l f+lw L num wh r f
 | .pair .minus l r,f=>lw L num wh l f-lw L num wh r f
 | .pair .times l r,f=>lw L num wh l f*lw L num wh r f%wh
 | .guard x lo hi l r,f=>if lo<=f x/\f x<hi then lw L num wh l f else lw L num wh r f
theorem C1n {wh:Int} {f g:Nat->Int} (h:∀k,f k=g k%wh):∀n,B8u f n%wh=B8u g n%wh
 | 0=>rfl
 | n+1=>by
  show (B8u f n+f n)%wh=(B8u g n+g n)%wh;rw [Int.add_emod,C1n h n,h n,Int.emod_emod_of_dvd _ (Int.dvd_refl _),<-Int.add_emod]
theorem B3x {L:Str->Int} {num:Str->List Int->Int} {wh:Int}:∀(u:Tm) (f:Str->Int),wo L num wh u f=lw L num wh u f%wh
 | .num _,_=>rfl
 | .place _,_=>rfl
 | .read _ _,_=>rfl
 | .sum x b,f=>C1n (λk=>B3x b (A8y f x (k:Int))) _
 | .pair .plus l r,f=>by
  show (wo L num wh l f+wo L num wh r f)%wh=(lw L num wh l f+lw L num wh r f)%wh;rw [B3x l f,B3x r f,<-Int.add_emod]
 | .pair .minus l r,f=>by
  show (wo L num wh l f-wo L num wh r f)%wh=(lw L num wh l f-lw L num wh r f)%wh;rw [B3x l f,B3x r f,<-Int.sub_emod]
 | .pair .times l r,f=>by
  show (wo L num wh l f*wo L num wh r f)%wh=lw L num wh l f*lw L num wh r f%wh%wh;rw [B3x l f,B3x r f,<-Int.mul_emod,Int.emod_emod_of_dvd _ (Int.dvd_refl _)]
 | .guard x lo hi l r,f=>by
  have h1:=B3x (L:=L) (num:=num) (wh:=wh) l f;have h2:=B3x (L:=L) (num:=num) (wh:=wh) r f;simp only [wo,lw];split
  ·exact h1
  ·exact h2
theorem C5n {f:Nat->Int} {B:Nat} (h:∀k,k<60->(f k).natAbs<=B):∀n,n<=60->(B8u f n).natAbs<=n*B
 | 0,_=>by simp [B8u]
 | n+1,hn=>by
  have h1:=C5n h n (by lia);have h2:=h n (by lia);show (B8u f n+f n).natAbs<=(n+1)*B;rw [Nat.succ_mul]
  lia
theorem B2l {L:Str->Int} {nm:List Str} {num:Str->List Int->Int} {wh:Int} (hl:∀y∈nm,L y<=60) (hn:∀a c,(num a c).natAbs<=10^32) (hw:D2j wh):∀(u:Tm) (f:Str->Int),B8r u->Axs nm u->(∀y,(f y).natAbs<=10^32)->(lw L num wh u f).natAbs<=10^32*60^dep u
 | .num z,_,g,_,_=>Z1n g (by show 10^32<=10^32*60^1;decide)
 | .place x,f,_,_,h=>Z1n (h x) (by show 10^32<=10^32*60^1;decide)
 | .read a ix,f,_,_,_=>Z1n (hn _ _) (by show 10^32<=10^32*60^1;decide)
 | .sum x b,f,g,a,h=>by
  have l6:=hl x a.1
  have fb:∀k:Nat,k<60->∀y,(A8y f x (k:Int) y).natAbs<=10^32:=by
   intro k hk y;unfold A8y;split
   ·have:(10:Nat)^32=100000000000000000000000000000000:=by decide
    lia
   ·exact h y
  have:=C5n (f:=λ(k:Nat)=>lw L num wh b (A8y f x (k:Int))) (B:=10^32*60^dep b) (λk hk=>B2l hl hn hw b _ g.2 a.2 (fb k hk)) (L x).toNat (by lia);refine Z1n this (Z1n (Nat.mul_le_mul_right _ (show (L x).toNat<=60 by lia)) ?_);show _<=10^32*60^(dep b+1);rw [Nat.pow_succ,Nat.mul_comm 60,Nat.mul_assoc];exact Z09 _
 | .pair o l r,f,g,a,h=>by
  have h1:=B2l hl hn hw l f g.1 a.1 h;have h2:=B2l hl hn hw r f g.2 a.2 h;have p1:10^32*60^dep l<=10^32*60^(max (dep l) (dep r)):=Nat.mul_le_mul_left _ (Nat.pow_le_pow_right (by decide) (Nat.le_max_left _ _));have p2:10^32*60^dep r<=10^32*60^(max (dep l) (dep r)):=Nat.mul_le_mul_left _ (Nat.pow_le_pow_right (by decide) (Nat.le_max_right _ _));have p3:10^32*60^(max (dep l) (dep r)+1)=60*(10^32*60^(max (dep l) (dep r))):=by rw [Nat.pow_succ 60,Nat.mul_comm 60 (10^32*_),Nat.mul_assoc]
  show _<=10^32*60^(max (dep l) (dep r)+1);rw [p3];have q1:=Z1n h1 p1;have q2:=Z1n h2 p2;have q3:10^32<=10^32*60^(max (dep l) (dep r)):=Nat.le_mul_of_pos_right _ (Nat.pow_pos (by decide));generalize 10^32*60^(max (dep l) (dep r))=B at q1 q2 q3
  cases o with
  | plus=>show (lw L num wh l f+lw L num wh r f).natAbs<=_;lia
  | minus=>show (lw L num wh l f-lw L num wh r f).natAbs<=_;lia
  | times =>
   show (lw L num wh l f*lw L num wh r f%wh).natAbs<=_;have w1:=hw.1;have w2:=hw.2;have m0:=Z1v (lw L num wh l f*lw L num wh r f) (show wh≠0 by lia);have m1:=Z1p (lw L num wh l f*lw L num wh r f) (show 0<wh by lia);generalize lw L num wh l f*lw L num wh r f%wh=z at m0 m1;have e:((10:Int)^32)=((10^32:Nat):Int):=by decide
   rw [e] at w2;generalize 10^32=c at q3 w2
   lia
 | .guard x lo hi l r,f,g,a,h=>by
  have h1:=B2l hl hn hw l f g.2.2.2.1 a.2.1 h;have h2:=B2l hl hn hw r f g.2.2.2.2 a.2.2 h;have p1:10^32*60^dep l<=10^32*60^(max (dep l) (dep r)+1):=Nat.mul_le_mul_left _ (Nat.pow_le_pow_right (by decide) (Nat.le_succ_of_le (Nat.le_max_left _ _)));have p2:10^32*60^dep r<=10^32*60^(max (dep l) (dep r)+1):=Nat.mul_le_mul_left _ (Nat.pow_le_pow_right (by decide) (Nat.le_succ_of_le (Nat.le_max_right _ _)));show (if lo<=f x/\f x<hi then lw L num wh l f else lw L num wh r f).natAbs<=10^32*60^(max (dep l) (dep r)+1);split
  ·exact Z1n h1 p1
  ·exact Z1n h2 p2
theorem D6y {d:Nat} (h:z.natAbs<=10^32*60^d) (hd:d<=14):z.natAbs<2^4000 :=
 Nat.lt_of_le_of_lt (Z1n h (Nat.mul_le_mul_left _ (Nat.pow_le_pow_right (by decide) hd))) (by decide +kernel)
structure Wr (H:Hp) (ab td:Addr) (x:Abt) (L:Str->Int) (nm:List Str) (es:List (Str×List Str)) (num:Str->List Int->Int):Prop where
 d:H ab=some (.dK (abK x))
 le:∃lk,H x.ld=some (.dK lk)/\C4r lk L nm
 sh:∃ak,H x.sh=some (.dK ak)/\AR (λ_=>True) H ak es
 nd:(es.map (·.1)).Nodup
 ax:∀e∈es,AxN nm e.2
 td:∃tk,H td=some (.dK tk)/\∀e∈es,∃b,A2r tk (Sum.inr e.1)=some (.ref b)/\H b=some (.lst (((A0t (e.2.map L)).map (num e.1)).map V.int))
 nb:∀a c,(num a c).natAbs<=10^32
 wh:D2j x.wh
section
variable {H H':Hp} {ab td:Addr} {x:Abt} {L:Str->Int} {nm:List Str} {es:List (Str×List Str)} {num:Str->List Int->Int}
theorem Wr.same (h:Wr H ab td x L nm es num) (s:A0s H H'):Wr H' ab td x L nm es num:=by
 obtain ⟨d,⟨lk,l1,l2⟩,⟨ak,h1,h2⟩,nd,ax,⟨tk,t1,t2⟩,nb,wh⟩:=h;exact ⟨s _ _ d,(i02 lk (s _ _ l1) l2),(i02 ak (s _ _ h1) (h2.same s)),nd,ax,(i02 tk (s _ _ t1) λe he=>by obtain ⟨b,b1,b2⟩:=t2 e he;exact (i02 b b1 (s _ _ b2))),nb,wh⟩
theorem Wr.get (h:Wr H ab td x L nm es num) {k:Str} (e:A2r (abK x) (Sum.inr k)=some v):A5a H ab (.str k) (some v):= .inl (i0f _ (Sum.inr k) (.inl h.d) rfl e.symm)
end
def C7c:Sp:=λvs H Q _=>∃(il d ab td:Addr) (arr:Str) (ix:List (Str×Int)) (zs:List Str) (kvs:List (Key×V)) (f:Str->Int) (x:Abt) (L:Str->Int) (nm:List Str) (es:List (Str×List Str)) (num:Str->List Int->Int),vs=[.ref il,.ref d,.ref ab,.str arr]/\Rep H (.ref il) (A5e ix)/\H d=some (.dK kvs)/\(∀e∈ix,e.1≠""->A2r kvs (Sum.inr e.1)=some (.int (f e.1)))/\Wr H ab td x L nm es num/\(arr,zs)∈es/\ix.length=zs.length/\∀H',A0s H H'->Q (.int (plM L (A2v f ix) zs)) H'
def B2e (n:Nat):Sp:=λvs H Q _=>∃(v:V) (d ab td:Addr) (u:Tm) (kvs:List (Key×V)) (f:Str->Int) (x:Abt) (L:Str->Int) (nm:List Str) (es:List (Str×List Str)) (num:Str->List Int->Int),vs=[v,.ref d,.ref ab,.ref td]/\A6p H v u/\dep u<=n/\dep u<=14/\B8r u/\Axs nm u/\H d=some (.dK kvs)/\kvs.length+n<=1000/\(∀y,Fv u y->A2r kvs (Sum.inr y)=some (.int (f y)))/\(∀y,(f y).natAbs<=10^32)/\(∀r∈rd L u f,∃ys,(r.1,ys)∈es/\Within r.2 (ys.map L))/\Wr H ab td x L nm es num/\∀H',A0s H H'->Q (.int (lw L num x.wh u f)) H'
theorem D7s (h:Rep H (.ref l) (A5e ix)):∃iv,H l=some (.lst iv)/\Paired (λ(v:V) (e:Str×Int)=>∃q,v= .ref q/\H q=some (.tup [.str e.1,.int e.2])) iv ix:=by
 unfold A5e at h
 cases h with
 | @lst _ iv _ hl ri =>
  refine i02 iv hl ?_;clear hl
  induction ix generalizing iv with
  | nil=>cases ri;exact .nil
  | cons e r ih =>
   cases ri with
   | cons a b =>
    refine .cons ?_ (ih b);unfold B3l at a
    cases a with
    | tup h r =>
     cases r with
     | cons r1 r =>
      cases r1
      cases r with
      | cons r2 r =>
       cases r2
       cases r
       exact i02 _ rfl h
theorem C4b (T:Txt K mg t):FO P w base T.jl 1 C7c:=by
 refine T.jl.F.ok A4q (λvs H Q E h=> ?_) λ_ A _ s H _ Q E hr h=> ?_
 ·refine e0h h ?_;clear h;rintro il d ab td arr ix zs kvs f x L nm ⟨es,num,rfl,_⟩;rfl
 ·refine e0h h ?_;clear h;rintro il d ab td arr ix zs kvs f x L nm ⟨es,num,rfl,rp,hd,hv,W,hz,lx,k⟩;have hu:=A4z hr;obtain ⟨iv,hil,pv'⟩:=D7s rp;have liv:=Paired.length pv';obtain ⟨ak,hak,ar⟩:=W.sh;obtain ⟨lk,hlk,lok⟩:=W.le;obtain ⟨cz,ecz,_,hcz⟩:=B7l ar W.nd hz;have hcz:H cz=some (.lst (zs.map V.str)):=hcz;have gz:A5a H x.sh (.str arr) (some (.ref cz)):= .inl (i0f ak (Sum.inr arr) (.inl hak) rfl ecz.symm);have axz:=W.ax _ hz
  refine ⟨_,(A0c (A0l (i:=4) A4q.nd A0g)
   (A0c (A2g (B1c rfl T.nW (A0a (pv 0) (A0a (A0p hu (A0p hu (pv 2) A0u) (pv 3)) A0d))) (A4y (n:=2) rfl (A1b (A0m (i:=5) A4q.nd) (A1b (A0m (i:=6) A4q.nd) A3m)))
    (A0c (A0l (i:=7) A4q.nd (A1h A1g (pv 5) A0g))
    (A3s (A1o (A0w C3w (A1h A1g (pv 5) A0g) A0u (A1f _))
     (A0e (A0l (i:=7) A4q.nd (A0n A2k (pv 7) (A0p hu (pv 1) (A1h A1g (pv 5) A0g)))))
     A0r)
    (A0e (A0l (i:=4) A4q.nd (A0n A2k (A0n A7k (pv 4) (A0p hu (A0p hu (pv 2) A0u) (pv 6))) (pv 7)))))))
   (A0e (A0o (pv 4))))),?_⟩
  refine i0v _ rfl _ rfl ab _ rfl (W.get (A4g x)) (i0o _ rfl x.sh _ rfl gz ⟨il,(i0q cz _ _ rfl (SqL.of hil) (SqL.of hcz) ?_)⟩)
  refine B1i (K:=K) (a:=il) (b:=cz) (xs:=iv) (ys:=zs.map V.str) (λi Z G=>∃(o5 o6 o7:Option V),Z=[Sro il,Sro d,Sro ab,Sso arr,Sio (plM L (A2v f (ix.take i)) (zs.take i)),o5,o6,o7]/\A0s H G)
   (i0g none none none rfl (A0s.refl _)) (by rintro i Z G ⟨_,_,_,_,sg⟩;exact ⟨SqL.of (sg _ _ hil),SqL.of (sg _ _ hcz)⟩) (by rw [Z08];lia) ?_ ?_
  ·rintro i v1 v2 Z G p2 hv1 hv2 ⟨o5,o6,o7,rfl,sG⟩ hp2;obtain ⟨e,he,qe,rfl,hqe⟩:=B1e pv' hv1;obtain ⟨y,hy,rfl⟩:=A2b hv2;obtain ⟨G1,s2,hpp,eNH⟩:=nH (o:= .tup [.ref qe,.str y]) hp2
   try rw [eNH]
   have s3:=sG.trans s2;have hq1:=s3 _ _ hqe;have W1:=W.same s3;have ynm:=axz.sub y (Z13 hy);have g:=A5a.k (H:=G1) (a:=x.ld) (k:=Sum.inr y) (s3 _ _ hlk);rw [lok.val ynm] at g;have ly:=lok.ok y ynm
   have et:plM L (A2v f (ix.take (i+1))) (zs.take (i+1))=plM L (A2v f (ix.take i)) (zs.take i)*L y+(if e.1="" then e.2 else f e.1+e.2):=by
    rw [Z14,he,Z2f,Z14,hy,Z2f];have:A2v f (ix.take i++[e])=A2v f (ix.take i)++[if e.1="" then e.2 else f e.1+e.2]:=by unfold A2v;rw [Z0s];rfl
    rw [this];exact C1d _ _ (by unfold A2v;rw [Z08,Z0x,Z0x];lia)
   rw [et];refine i18 p2 _ rfl (SqT.of hpp) rfl _ _ rfl _ _ rfl rfl ?_;refine i11 _ rfl qe _ _ _ rfl rfl (SqT.of hq1) (A0j (j:=1) rfl) ?_;refine i02 (λZ G2=>Z=[Sro il,Sro d,Sro ab,Sso arr,Sio (plM L (A2v f (ix.take i)) (zs.take i)),Sro qe,Sso y,Sio (if e.1="" then e.2 else f e.1+e.2)]/\G1=G2) ?_ ?_
   ·refine i1b _ rfl qe _ _ _ rfl rfl (SqT.of hq1) (A0j (j:=0) rfl) rfl _ rfl (C8o (λh0=> ?_) (λh0=> ?_))
    ·have hne:e.1≠"":=λz=>h0 (by rw [z]);have gd:=A5a.k (H:=G1) (a:=d) (k:=Sum.inr e.1) (s3 _ _ hd);rw [hv e (Z13 he) hne] at gd;rw [Z0t hne,Int.add_comm];exact i02 _ rfl (i13 _ rfl _ rfl qe _ _ _ rfl rfl (SqT.of hq1) (i0j (A0j (j:=0) rfl) d _ rfl gd (i0m _ _ rfl rfl rfl rfl)))
    ·have e0:e.1="":=by injection h0
     rw [Z12 e0];exact ⟨rfl,rfl⟩
   rintro Z G2 ⟨rfl,rfl⟩;exact i0v _ rfl _ rfl ab _ rfl (W1.get (A2t x)) (i0o _ rfl x.ld _ rfl g (i0m _ _ rfl rfl (.inr ⟨by lia,by lia⟩) (i0o _ rfl _ _ rfl rfl (i0g _ _ _ rfl s3))))
  ·rintro Z G ⟨o5,o6,o7,rfl,sG⟩;have ei:ix.take iv.length=ix:=by rw [liv];exact Z18
   have ez:zs.take iv.length=zs:=by rw [liv,lx];exact Z18
   rw [ei,ez];exact i02 _ rfl (k G sG)
theorem B4c (T:Txt K mg t):∀n:Nat,A4c P w K mg base CX0 (n+2) t.nX t.nw D0d (B2e n)
 | 0=>A4c.none (by (rintro vs H Q E zz;refine e0h zz ?_;clear zz;rintro v d ab td u kvs f x L nm es num ⟨_,_,h,_⟩);have:=B1l u;lia)
 | n+1=>by
  have Gd2:=B4c T n;have Gd3:= @C4b P w K mg base t T;refine T.bi.F.ok A4o (λvs H Q E h=> ?_) λ_ A _ s H _ Q E hr h=> ?_
  ·refine e0h h ?_;clear h;rintro v d ab td u kvs f x L nm es num ⟨rfl,_⟩;rfl
  ·refine e0h h ?_;clear h;rintro v d ab td u kvs f x L nm es num ⟨rfl,tr,hdp,hd14,gd,ax,hd,few,at_,fb,rin,W,k⟩;have hu:=A4z hr;have hwh:=W.wh;have hp:(0:Int)<x.wh:=by have:=hwh.1;lia
   obtain ⟨lk,hlk,lok⟩:=W.le;obtain ⟨tk,htk,rows⟩:=W.td
   refine ⟨_,(A0c (A1o (A0w A3n (A1h A1g (pv 0) A0g) A0u (A1f _))
    (A0e (A0o (A1h A1g (pv 0) A0g)))
    A0r)
   (A0c (A1o (A0w A3n (A1h A1g (pv 0) A0g) A0u (A1f _))
    (A0e (A0o (A0p hu (pv 1) (A1h A1g (pv 0) A0g))))
    A0r)
   (A0c (A1o (A0w A3n (A1h A1g (pv 0) A0g) A0u (A1f _))
    (A0e (A0o (A1h A3b (A0p hu (pv 3) (A1h A1g (pv 0) A0g)) (pcl Gd3 hr T.jl (A0a (A1h A1g (pv 0) A0g) (A0a (pv 1) (A0a (pv 2) (A0a (A1h A1g (pv 0) A0g) A0d))))))))
    A0r)
   (A0c (A1o (A0w A3n (A1h A1g (pv 0) A0g) A0u (A1f _))
    (A0c (A1o (PW.pt (B4i (A0w D7x (A1h A1g (pv 0) A0g) (A0p hu (pv 1) (A1h A1g (pv 0) A0g)) (A1f _)) (A9r (A0w D0t (A0p hu (pv 1) (A1h A1g (pv 0) A0g)) (A1h A1g (pv 0) A0g) (A1f _)))))
     (A0e (A0o (pcl Gd2 hr T.bi (A0a (A1h A1g (pv 0) A0g) (A0a (pv 1) (A0a (pv 2) (A0a (pv 3) A0d)))))))
     A0r)
    (A0e (A0o (pcl Gd2 hr T.bi (A0a (A1h A1g (pv 0) A0g) (A0a (pv 1) (A0a (pv 2) (A0a (pv 3) A0d))))))))
    A0r)
   (A0c (A1o (A0w A3n (A1h A1g (pv 0) A0g) A0u (A1f _))
    (A0c (A0l (i:=4) A4o.nd A0g)
    (A0c (A0l (i:=5) A4o.nd (A2a B4n (by rfl) T.e_ Z2q (A0a (pv 1) A0d)))
    (A0c (A2g (A3p rfl T.bh (A0a (A0p hu (A0p hu (pv 2) A0u) (A1h A1g (pv 0) A0g)) A0d)) (A0m (i:=6) A4o.nd)
     (A0c (A3a hu (pv 5) (A1h A1g (pv 0) A0g) (pv 6) rfl)
     (A0e (A0l (i:=4) A4o.nd (A0n A2k (pv 4) (pcl Gd2 hr T.bi (A0a (A1h A1g (pv 0) A0g) (A0a (pv 5) (A0a (pv 2) (A0a (pv 3) A0d))))))))))
    (A0e (A0o (pv 4))))))
    A0r)
   (A0c (A0l (i:=7) A4o.nd (pcl Gd2 hr T.bi (A0a (A1h A1g (pv 0) A0g) (A0a (pv 1) (A0a (pv 2) (A0a (pv 3) A0d))))))
   (A0c (A0l (i:=8) A4o.nd (pcl Gd2 hr T.bi (A0a (A1h A1g (pv 0) A0g) (A0a (pv 1) (A0a (pv 2) (A0a (pv 3) A0d))))))
   (A0c (A1o (A0w A3n (A1h A1g (pv 0) A0g) A0g (A1f _))
    (A0e (A0o (A0n A2k (pv 7) (pv 8))))
    A0r)
   (A0c (A1o (A0w A3n (A1h A1g (pv 0) A0g) A0g (A1f _))
    (A0e (A0o (A0n A5c (pv 7) (pv 8))))
    A0r)
   (A0e (A0o (A0n A1i (A0n C7g (pv 7) (pv 8)) (A0p hu (pv 2) A0u))))))))))))),?_⟩
   cases tr with
   | num e =>
    refine i1b _ rfl _ _ _ _ rfl rfl (SqT.of e) (A0j (j:=0) rfl) rfl _ rfl (A2n (λ_=> ?_) (λh=>absurd rfl h));exact i11 _ rfl _ _ _ _ rfl rfl (SqT.of e) (A0j (j:=1) rfl) (k H (A0s.refl _))
   | @place _ y e =>
    have g:=A5a.k (H:=H) (a:=d) (k:=Sum.inr y) hd;rw [at_ y rfl] at g;refine i1b _ rfl _ _ _ _ rfl rfl (SqT.of e) (A0j (j:=0) rfl) rfl _ rfl (A2n (λh=>(sno h (by decide)).elim) (λ_=> ?_));refine i1b _ rfl _ _ _ _ rfl rfl (SqT.of e) (A0j (j:=0) rfl) rfl _ rfl (A2n (λ_=> ?_) (λh=>absurd rfl h));exact i13 _ rfl _ rfl _ _ _ _ rfl rfl (SqT.of e) (i0j (A0j (j:=1) rfl) d _ rfl g (k H (A0s.refl _)))
   | @read _ l arr ix e r =>
    refine i1b _ rfl _ _ _ _ rfl rfl (SqT.of e) (A0j (j:=0) rfl) rfl _ rfl (A2n (λh=>(sno h (by decide)).elim) (λ_=> ?_));refine i1b _ rfl _ _ _ _ rfl rfl (SqT.of e) (A0j (j:=0) rfl) rfl _ rfl (A2n (λh=>(sno h (by decide)).elim) (λ_=> ?_));refine i1b _ rfl _ _ _ _ rfl rfl (SqT.of e) (A0j (j:=0) rfl) rfl _ rfl (A2n (λ_=> ?_) (λh=>absurd rfl h));obtain ⟨ys,hys,wi⟩:=rin (arr,A2v f ix) (.head _);have hys:(arr,ys)∈es:=hys;have wi:Within (A2v f ix) (ys.map L):=wi;obtain ⟨b,eb,hb⟩:=rows _ hys;have g:A5a H td (.str arr) (some (.ref b)):= .inl (i0f tk (Sum.inr arr) (.inl htk) rfl eb.symm);have lx:ix.length=ys.length:=by have:=wi.1;unfold A2v at this;rwa [Z08,Z08] at this
    obtain ⟨p0,p1⟩:=C1v (L:=L) ys.length ys (A2v f ix) rfl wi
    have ea:atI (((A0t (ys.map L)).map (num arr)).map V.int) (plM L (A2v f ix) ys)=some (.int (num arr (A2v f ix))):=by
     have:=A0j (xs:=((A0t (ys.map L)).map (num arr)).map V.int) (j:=(plM L (A2v f ix) ys).toNat) (v:= .int (num arr (A2v f ix))) (by rw [Z1z,Z1z,p1];rfl)
     rwa [Int.toNat_of_nonneg p0] at this
    refine i13 _ rfl _ rfl _ _ _ _ rfl rfl (SqT.of e) (i0j (A0j (j:=1) rfl) td _ rfl g (i11 _ rfl _ _ _ _ rfl rfl (SqT.of e) (A0j (j:=2) rfl) (i0e _ rfl _ rfl (i11 _ rfl _ _ _ _ rfl rfl (SqT.of e) (A0j (j:=1) rfl) ⟨l,(i0t d ab td arr ix ys kvs (i19 f x L nm es num rfl r hd (λe he hn=>at_ e.1 (i05 hn e he rfl)) W hys ⟨lx,λH2 s2=> ?_⟩))⟩))));exact i0x b _ _ _ rfl rfl (SqL.of (s2 _ _ hb)) ea (k H2 s2)
   | @guard _ y lo hi u1 u2 a b e o1 o2 =>
    have hdp':=hdp;have hd14':=hd14;simp only [dep] at hdp' hd14';refine i1b _ rfl _ _ _ _ rfl rfl (SqT.of e) (A0j (j:=0) rfl) rfl _ rfl (A2n (λh=>(sno h (by decide)).elim) (λ_=> ?_));refine i1b _ rfl _ _ _ _ rfl rfl (SqT.of e) (A0j (j:=0) rfl) rfl _ rfl (A2n (λh=>(sno h (by decide)).elim) (λ_=> ?_));refine i1b _ rfl _ _ _ _ rfl rfl (SqT.of e) (A0j (j:=0) rfl) rfl _ rfl (A2n (λh=>(sno h (by decide)).elim) (λ_=> ?_));refine i1b _ rfl _ _ _ _ rfl rfl (SqT.of e) (A0j (j:=0) rfl) rfl _ rfl (A2n (λ_=> ?_) (λh=>absurd rfl h));have g:=A5a.k (H:=H) (a:=d) (k:=Sum.inr y) hd;rw [at_ y (.inl rfl)] at g;have inn:lo<=f y/\f y<hi->B2e n [u1,.ref d,.ref ab,.ref td] H Q E0:=λc=>(i0t u1 d ab td a kvs f (i1c x L nm es num rfl o1 (by lia) (by lia) gd.2.2.2.1 ax.2.1 hd (by lia) (i08 (λz hz=>at_ z (.inr (.inl hz))) fb (λr hr=>rin r (by simp only [rd];rw [Z12 c];exact hr)) W λH' s=>(by have:=k H' s;simp only [lw] at this;rwa [Z12 c] at this))));have out:¬(lo<=f y/\f y<hi)->B2e n [u2,.ref d,.ref ab,.ref td] H Q E0:=λc=>(i0t u2 d ab td b kvs f (i1c x L nm es num rfl o2 (by lia) (by lia) gd.2.2.2.2 ax.2.2 hd (by lia) (i08 (λz hz=>at_ z (.inr (.inr hz))) fb (λr hr=>rin r (by simp only [rd];rw [Z0t c];exact hr)) W λH' s=>(by have:=k H' s;simp only [lw] at this;rwa [Z0t c] at this))));refine i11 _ rfl _ _ _ _ rfl rfl (SqT.of e) (A0j (j:=2) rfl) (i13 _ rfl _ rfl _ _ _ _ rfl rfl (SqT.of e) (i0j (A0j (j:=1) rfl) d _ rfl g ⟨_,(i0k _ rfl rfl _ rfl (A2n (λh1=> ?_) (λh1=> ?_)))⟩))
    ·have h1:lo<=f y:=h1;refine i13 _ rfl _ rfl _ _ _ _ rfl rfl (SqT.of e) (i0j (A0j (j:=1) rfl) d _ rfl g (i11 _ rfl _ _ _ _ rfl rfl (SqT.of e) (A0j (j:=3) rfl) ⟨_,(i0k _ rfl rfl _ rfl (A2n (λh2=> ?_) (λh2=> ?_)))⟩))
     ·exact i11 _ rfl _ _ _ _ rfl rfl (SqT.of e) (A0j (j:=4) rfl) (i02 _ rfl (i0e _ rfl _ rfl (inn ⟨h1,h2⟩)))
     ·exact i11 _ rfl _ _ _ _ rfl rfl (SqT.of e) (A0j (j:=5) rfl) (i02 _ rfl (i0e _ rfl _ rfl (out λz=>h2 z.2)))
    ·exact A7j (i11 _ rfl _ _ _ _ rfl rfl (SqT.of e) (A0j (j:=5) rfl) (i02 _ rfl (i0e _ rfl _ rfl (out λz=>h1 z.1))))
   | @sum p y ub b e o1 =>
    have hdp':=hdp;have hd14':=hd14;simp only [dep] at hdp' hd14';refine i1b _ rfl _ _ _ _ rfl rfl (SqT.of e) (A0j (j:=0) rfl) rfl _ rfl (A2n (λh=>(sno h (by decide)).elim) (λ_=> ?_));refine i1b _ rfl _ _ _ _ rfl rfl (SqT.of e) (A0j (j:=0) rfl) rfl _ rfl (A2n (λh=>(sno h (by decide)).elim) (λ_=> ?_));refine i1b _ rfl _ _ _ _ rfl rfl (SqT.of e) (A0j (j:=0) rfl) rfl _ rfl (A2n (λh=>(sno h (by decide)).elim) (λ_=> ?_));refine i1b _ rfl _ _ _ _ rfl rfl (SqT.of e) (A0j (j:=0) rfl) rfl _ rfl (A2n (λh=>(sno h (by decide)).elim) (λ_=> ?_));refine i1b _ rfl _ _ _ _ rfl rfl (SqT.of e) (A0j (j:=0) rfl) rfl _ rfl (A2n (λ_=> ?_) (λh=>absurd rfl h));have ly:=lok.ok y ax.1;refine i0o _ rfl d kvs rfl (.inl hd) λwd hwd=> ?_;obtain ⟨H1,s1,hw1,eNH⟩:=nH (o:= .dK kvs) hwd
    try rw [eNH]
    have g:=A5a.k (H:=H1) (a:=x.ld) (k:=Sum.inr y) (s1 _ _ hlk);rw [lok.val ax.1] at g;refine i0o _ rfl ab _ rfl ((W.same s1).get (A2t x)) (i11 _ rfl _ _ _ _ rfl rfl (SqT.of (s1 _ _ e)) (A0j (j:=1) rfl) (i0f x.ld _ rfl g (i0c _ rfl (by lia) (by lia) ?_)))
    refine A6n (n:=(L y).toNat) (λi Z H2=>∃(o6:Option V) (kw:List (Key×V)),Z=[Sro p,Sro d,Sro ab,Sro td,Sio (B8u (λ(k:Nat)=>lw L num x.wh b (A8y f y (k:Int))) i),Sro wd,o6,none,none]/\A0s H H2/\H2 wd=some (.dK kw)/\(kw.length<=kvs.length+1/\(A2r kw (Sum.inr y)=none->kw.length<=kvs.length))/\∀z,z≠y->A2r kw (Sum.inr z)=A2r kvs (Sum.inr z))
     (i0p none kvs rfl s1 hw1 ⟨by lia,λ_=>Z09 _⟩ λ_ _=>rfl) ?_ ?_
    ·rintro i Z H2 hi zz;refine e06 zz ?_;clear zz;rintro o6 kw rfl s2 hw2 ⟨⟨lkw,lkn⟩,ekw⟩;rw [Int.zero_add];refine i02 _ rfl (i13 _ rfl _ rfl _ _ _ _ rfl rfl (SqT.of (s2 _ _ e)) (i0j (A0j (j:=1) rfl) wd _ rfl (B0z.k (k:=Sum.inr y) hw2 (A1d (by lia))) ?_));have s3:A0s H (upd H2 wd (.dK (A4l kw (Sum.inr y) (.int (i:Int))))):=A0q s2 hwd;have hw3:upd H2 wd (.dK (A4l kw (Sum.inr y) (.int (i:Int)))) wd=some (.dK (A4l kw (Sum.inr y) (.int (i:Int)))):=A0b;generalize upd H2 wd (.dK (A4l kw (Sum.inr y) (.int (i:Int))))=H3 at s3 hw3
     have vput:∀z,A2r (A4l kw (Sum.inr y:Key) (.int (i:Int))) (Sum.inr z)=if z=y then some (.int (i:Int)) else A2r kvs (Sum.inr z):=λz=>by
      rw [B1f];by_cases h:z=y
      ·rw [Z12 (by rw [h]),Z12 h]
      ·rw [Z0t (λq=>h (Sum.inr.inj q)),Z0t h,ekw z h]
     have lput:(A4l kw (Sum.inr y:Key) (.int (i:Int))).length<=kvs.length+1:=by
      by_cases h:(A2r kw (Sum.inr y:Key)).isSome
      ·have e1:(kw.any λkv=>decide (kv.1=(Sum.inr y:Key)))=true:=by rw [A4e];exact h
       unfold A4l;rw [Z12 e1,Z08];exact lkw
      ·have h:A2r kw (Sum.inr y:Key)=none:=by simpa using h
       rw [A5f _ h,Z06];have:=lkn h;simp only [Z0y,Z2g]
       lia
     refine i13 _ rfl _ rfl _ _ _ _ rfl rfl (SqT.of (s3 _ _ e)) ⟨A0j (j:=2) rfl,(i15 _ rfl _ rfl _ rfl ub wd ab td b _ (i19 (A8y f y (i:Int)) x L nm es num rfl (o1.same s3) (by lia) (by lia) gd.2 ax.2 ⟨hw3,(i0i (by lia) (λz hz=> ?_) (λz=> ?_) (λr hr=>rin r ?_) (W.same s3) λH4 s4=> ?_)⟩))⟩
     ·rw [vput];unfold A8y;by_cases h:z=y
      ·rw [Z12 h,Z12 h]
      ·rw [Z0t h,Z0t h];exact at_ z ⟨h,hz⟩
     ·unfold A8y;split
      ·have:(10:Nat)^32=100000000000000000000000000000000:=by decide
       lia
      ·exact fb z
     ·simp only [rd,List.mem_flatMap,List.mem_range];exact i02 i hi hr
     ·exact i0f _ _ rfl rfl (i0p _ _ rfl (s3.trans s4) (s4 _ _ hw3) ⟨lput,λz=>by rw [vput,Z12 rfl] at z;cases z⟩ λz hz=>by rw [vput,Z0t hz])
    ·rintro Z H2 ⟨o6,kw,rfl,s2,_⟩;exact i02 _ rfl (k H2 s2)
   | @pair p kk u1 u2 a b e o1 o2 =>
    have hdp':=hdp;have hd14':=hd14;simp only [dep] at hdp' hd14';refine i1b _ rfl _ _ _ _ rfl rfl (SqT.of e) (A0j (j:=0) rfl) rfl _ rfl (A2n (λh=>(sno h (by decide)).elim) (λ_=> ?_));refine i1b _ rfl _ _ _ _ rfl rfl (SqT.of e) (A0j (j:=0) rfl) rfl _ rfl (A2n (λh=>(sno h (by decide)).elim) (λ_=> ?_));refine i1b _ rfl _ _ _ _ rfl rfl (SqT.of e) (A0j (j:=0) rfl) rfl _ rfl (A2n (λh=>(sno h (by decide)).elim) (λ_=> ?_));refine i1b _ rfl _ _ _ _ rfl rfl (SqT.of e) (A0j (j:=0) rfl) rfl _ rfl (A2n (λh=>(sno h (by decide)).elim) (λ_=> ?_));refine i1b _ rfl _ _ _ _ rfl rfl (SqT.of e) (A0j (j:=0) rfl) rfl _ rfl (A2n (λh=>(sno h (by decide)).elim) (λ_=> ?_));refine i11 _ rfl _ _ _ _ rfl rfl (SqT.of e) (A0j (j:=2) rfl) (i15 _ rfl _ rfl _ rfl u1 d ab td a kvs (i19 f x L nm es num rfl o1 (by lia) (by lia) gd.1 ax.1 ⟨hd,(i0i (by lia) (λz hz=>at_ z (.inl hz)) fb (λr hr=>rin r (by simp only [rd];exact Z05 _ hr)) W λH1 s1=> ?_)⟩));refine i11 _ rfl _ _ _ _ rfl rfl (SqT.of (s1 _ _ e)) (A0j (j:=3) rfl) (i15 _ rfl _ rfl _ rfl u2 d ab td b kvs (i19 f x L nm es num rfl (o2.same s1) (by lia) (by lia) gd.2 ax.2 ⟨s1 _ _ hd,(i0i (by lia) (λz hz=>at_ z (.inr hz)) fb (λr hr=>rin r (by simp only [rd];exact Z02 _ hr)) (W.same s1) λH2 s2=> ?_)⟩));have s3:=s1.trans s2;have e3:=s3 _ _ e;have kk':=k H2 s3;have l60:∀y∈nm,L y<=60:=λy hy=>(lok.ok y hy).2.1;have big:D9p (lw L num x.wh a f) (lw L num x.wh b f):=⟨D6y (B2l l60 W.nb hwh a f gd.1 ax.1 fb) (by lia),D6y (B2l l60 W.nb hwh b f gd.2 ax.2 fb) (by lia)⟩;refine i1b _ rfl _ _ _ _ rfl rfl (SqT.of e3) (A0j (j:=1) rfl) rfl _ rfl (A2n (λh0=> ?_) (λh0=> ?_))
    ·have eo:D6l kk= .plus:=Z12 (V.int.inj h0);rw [eo] at kk';exact i0v _ rfl _ rfl _ _ rfl rfl kk'
    have h0:¬kk=0:=λz=>h0 (by rw [z]);refine i1b _ rfl _ _ _ _ rfl rfl (SqT.of e3) (A0j (j:=1) rfl) rfl _ rfl (A2n (λh1=> ?_) (λh1=> ?_))
    ·have eo:D6l kk= .minus:=(Z0t h0).trans (Z12 (V.int.inj h1));rw [eo] at kk';exact i0v _ rfl _ rfl _ _ rfl rfl kk'
    have h1:¬kk=1:=λz=>h1 (by rw [z]);have eo:D6l kk= .times:=(Z0t h0).trans (Z0t h1);rw [eo] at kk';exact i0v _ rfl _ rfl _ _ rfl rfl ⟨big,(i0o _ rfl ab _ rfl ((W.same s3).get (B1d x)) (i0m _ _ rfl rfl hp kk'))⟩
abbrev C4t (H:Hp) (tk:List (Key×V)) (ts:List (Str×List Int)):Prop:=Paired (λ(p:Key×V) (e:Str×List Int)=>p.1=Sum.inr e.1/\∃b:Addr,p.2= .ref b/\H b=some (.lst (e.2.map V.int))) tk ts
theorem C4t.same (h:C4t H tk ts) (s:A0s H H'):C4t H' tk ts :=
 Paired.mapP h λ_ _ ⟨e1,b,e2,hb⟩=>(i05 e1 b e2 (s _ _ hb))
theorem C0i {H:Hp}:∀{tk:List (Key×V)} {ts:List (Str×List Int)},C4t H tk ts->tk.map (·.1)=(ts.map (·.1)).map (Sum.inr:Str->Key)
 | _,_,.nil=>rfl
 | _,_,.cons r t=>by rw [Z0p,Z0p,Z0p,C0i t,r.1]
theorem B1q {xs:List Str} (h:xs.Nodup):(xs.map (Sum.inr:Str->Key)).Nodup:=List.Pairwise.map _ (λa b h z=>h (by injection z)) h
abbrev TkS (S:Addr->Prop) (H:Hp) (tk:List (Key×V)) (ts:List (Str×List Int)):Prop:=Paired (λ(p:Key×V) (e:Str×List Int)=>p.1=Sum.inr e.1/\∃b:Addr,p.2= .ref b/\S b/\H b=some (.lst (e.2.map V.int))) tk ts
theorem TkS.at (h:TkS S H tk ts):C4t H tk ts:=Paired.mapP h λ_ _ ⟨e1,b,e2,_,hb⟩=>(i05 e1 b e2 hb)
theorem TkS.imp (h:TkS S H tk ts) (f:∀b xs,S b->H b=some (.lst xs)->S' b/\H' b=some (.lst xs)):TkS S' H' tk ts :=
 Paired.mapP h λ_ _ ⟨e1,b,e2,m,hb⟩=>(i0a e1 b e2 ((f _ _ m hb).1) ((f _ _ m hb).2))
theorem C7o (h:TkS S H ws ts) (n:x∉ts.map (·.1)):∀p∈ws,p.1≠Sum.inr x:=λp hp z=>by
 obtain ⟨j,hj⟩:=List.getElem?_of_mem hp;obtain ⟨e,he,ek,_⟩:=B1e h hj;have ek:p.1=Sum.inr e.1:=ek;rw [z] at ek;injection ek with ek;exact n (Z2c.mpr (i02 e (Z13 he) ek.symm))
theorem D4k {e:Str×List Int} (nd:(ts.map (·.1)).Nodup) (h:ts[i]? =some e):e.1∉(ts.take i).map (·.1):=λm=>by
 obtain ⟨e2,he2,z⟩:=Z2c.mp m;obtain ⟨j,hj⟩:=List.getElem?_of_mem he2
 have hlt:j<i:=by
  have:=(Z03.mp hj).1;rw [Z0x] at this
  lia
 rw [List.getElem?_take,Z12 hlt] at hj;have a1:(ts.map (·.1))[j]? =some e.1:=by rw [Z1z,hj,Option.map_some,z]
 have a2:(ts.map (·.1))[i]? =some e.1:=by rw [Z1z,h];rfl
 have:=(List.getElem?_inj (Z03.mp a1).1 nd).mp (a1.trans a2.symm)
 lia
theorem C2h (h:TkS S H tk ts) {e:Str×List Int} (ht:ts[i]? =some e):∃b,tk[i]? =some (Sum.inr e.1,.ref b)/\S b/\H b=some (.lst (e.2.map V.int)):=by
 refine e00 (A5o h ht) ?_;rintro ⟨k,v⟩ hkv ek ⟨b,ev,sb,hb⟩;have ek:k=Sum.inr e.1:=ek;have ev:v= .ref b:=ev;subst ek ev;exact i06 b hkv sb hb
theorem E1m {b:Bool} {A B:Prop} (h:b=false) (q:B):if b=true then A else B:=by rw [h];exact A7j q
def B5k (td:List TD):List (Str×List Int):=td.map λe=>(e.1.1,e.2.2)
def B0q (ns:NS):List (Str×List Int):=ns.map λe=>(e.1,e.2.map (·.2))
theorem C5m (td:List TD):(B5k td).map (·.1)=(td.map (·.1)).map (·.1):=by unfold B5k;rw [List.map_map,List.map_map];rfl
theorem D1u {H:Hp} {ax:List (Str×Int)}:∀{td:List TD} {tk:List (Key×V)},C4t H tk (B5k td)->(∀e∈td,Sz (A1e ax) e.1.2 e.2.1/\A8q e.2.1/\e.2.2.length=(A0t e.2.1).length)->TbX H ax tk td
 | [],_,h,_=>by cases h;exact .nil
 | e::r,_,h,ok=>by
  cases h with
  | cons a t =>
   obtain ⟨e1,b,e2,hb⟩:=a;obtain ⟨o1,o2,o3⟩:=ok e (.head _);exact .cons (i01 e1 b (i08 e2 hb o1 o2 o3)) (D1u t λx hx=>ok x (.tail _ hx))
theorem C2c {S:Addr->Prop} {H:Hp}:∀{rk:List (Key×V)} {ns:NS},B1k S H rk ns->TkS S H rk (B0q ns)
 | _,_,.nil=> .nil
 | _,_,.cons ⟨e1,b,e2,sb,hb⟩ t=> .cons (i0a e1 b e2 sb (by rw [List.map_map];exact hb)) (C2c t)
theorem B4z (ns:NS):(B0q ns).map (·.1)=ns.map (·.1):=by unfold B0q;rw [List.map_map];rfl
theorem A3l.ints {H:Hp}:∀xs:List Int,A3l H (xs.map V.int) (xs.map PyData.int)
 | []=> .nil
 | x::r=> .cons (.int x) (A3l.ints r)
theorem C2t:∀xs:List Int,PyData.canLayAll0 (xs.map PyData.int)=true/\PyData.depthAll (xs.map PyData.int)=0
 | []=>⟨rfl,rfl⟩
 | x::r=>by
  obtain ⟨h1,h2⟩:=C2t r;refine ⟨?_,?_⟩
  ·simp [PyData.canLayAll0,PyData.canLay0,h1]
  ·simp [PyData.depthAll,PyData.depth,h2]
theorem C1o (xs:List Int):(PyData.list (xs.map PyData.int)).canLay0=true/\(PyData.list (xs.map PyData.int)).depth<=60:=by
 obtain ⟨h1,h2⟩:=C2t xs;exact ⟨by simp [PyData.canLay0,h1],by simp [PyData.depth,h2]⟩
theorem C1x {r:List Str} {d:List Int} {m:Str} (h:r.length=d.length):A7z (r++[m]) (d++[z])=A4l (A7z r d) (Sum.inr m) (.int z):=by
 unfold A7z;rw [Z0s,Z0s,List.zip_append (by rw [Z08,Z08];exact h)];unfold A3d;rw [List.foldl_append];rfl
theorem B2v {α:Type} {ys:List α} (h:ys.length=n+1):∃r m,ys=r++[m]/\r.length=n:=by
 have hne:ys≠[]:=by intro z;rw [z] at h;cases h
 have e:=(List.dropLast_concat_getLast hne).symm;refine i07 ys.dropLast (ys.getLast hne) e ?_;rw [List.length_dropLast,h];rfl
theorem C7y:∀(n:Nat) {ys:List Str} {c:List Int},ys.length=n->c.length=n->ys.Nodup->∀{k:Nat} {y:Str} {i:Int},ys[k]? =some y->c[k]? =some i->A2r (A7z ys c) (Sum.inr y)=some (.int i)
 | 0,ys,c,h1,_,_,k,y,i,e,_=>by
  have:ys=[]:=List.eq_nil_of_length_eq_zero h1;rw [this] at e;simp at e
 | n+1,ys,c,h1,h2,nd,k,y,i,e1,e2=>by
  obtain ⟨r,m,rfl,hr⟩:=B2v h1;obtain ⟨d,z,rfl,hd⟩:=B2v h2;rw [C1x (by lia),B1f];rw [Z0l] at nd;by_cases hk:k<n
  ·rw [Z26 (by lia)] at e1 e2;have ne:y≠m:=nd.2.2 y (Z13 e1) m (Z0w.mpr rfl);rw [Z0t λq=>ne (Sum.inr.inj q)];exact C7y n hr hd nd.1 e1 e2
  ·have hk':k=n:=by
    have:=(Z03.mp e1).1;rw [Z06,Z0j] at this
    lia
   subst hk';rw [Z1l (by lia),hr,Nat.sub_self] at e1;rw [Z1l (by lia),hd,Nat.sub_self] at e2;have e1:m=y:=by simpa using e1
   have e2:z=i:=by simpa using e2
   rw [Z12 (by rw [e1]),e2]
theorem C7f:∀(n:Nat) {ys:List Str} {c:List Int},ys.length=n->c.length=n->(∀i∈c,0<=i/\i<60)->∀y,0<=ai (A7z ys c) y/\ai (A7z ys c) y<60
 | 0,ys,c,h1,h2,_,y=>by
  have e1:ys=[]:=List.eq_nil_of_length_eq_zero h1;have e2:c=[]:=List.eq_nil_of_length_eq_zero h2;subst e1 e2;have:ai (A7z [] []) y=0:=rfl;rw [this];decide
 | n+1,ys,c,h1,h2,hb,y=>by
  obtain ⟨r,m,rfl,hr⟩:=B2v h1;obtain ⟨d,z,rfl,hd⟩:=B2v h2;rw [C1x (by lia),B7b];unfold A8y;split
  ·exact hb z (Z02 _ (.head _))
  ·exact C7f n hr hd (λi hi=>hb i (Z05 _ hi)) y
theorem D0e (hl:∀y∈ys,L y<=60) (w:Within c (ys.map L)):∀i∈c,0<=i/\i<60:=λi hi=>by
 obtain ⟨k,hk⟩:=List.getElem?_of_mem hi
 have hlt:k<ys.length:=by
  have h1:=(Z03.mp hk).1;have h2:=w.1;rw [Z08] at h2
  lia
 have:=w.2 k i (L ys[k]) hk (by rw [Z1z,Z0b hlt];rfl);have:=hl ys[k] (List.getElem_mem hlt)
 lia
theorem C2a (nd:ys.Nodup) (w:Within c (ys.map L)) {k:Nat} (hy:ys[k]? =some y):∃i,c[k]? =some i/\A2r (A7z ys c) (Sum.inr y)=some (.int i)/\ai (A7z ys c) y=i/\0<=i/\i<L y:=by
 have h2:=w.1;rw [Z08] at h2;have hlt:k<c.length:=by have:=(Z03.mp hy).1;lia
 have hc:c[k]? =some c[k]:=Z0b hlt;have v:=C7y ys.length rfl h2 nd hy hc;have b:=w.2 k c[k] (L y) hc (by rw [Z1z,hy];rfl);exact ⟨c[k],(i08 hc v (D8j v) b.1 b.2)⟩
theorem D3i (nd:ys.Nodup) (w:Within c (ys.map L)):ys.map (ai (A7z ys c))=c:=by
 have h2:=w.1;rw [Z08] at h2;refine List.ext_getElem? λk=> ?_;rw [Z1z]
 cases hy:ys[k]? with
 | none =>
  have:=List.getElem?_eq_none_iff.mp hy;rw [List.getElem?_eq_none (by lia)];rfl
 | some y =>
  obtain ⟨i,hc,_,ha,_⟩:=C2a nd w hy;rw [hc];show some (ai (A7z ys c) y)=_;rw [ha]
def C6k:Sp:=λvs H Q _=>∃(b:Addr) (n wh:Int) (ns:List Int),vs=[.ref b,.int n,.int wh]/\H b=some (.lst (ns.map V.int))/\(ns.length:Int)=n/\(∀z∈ns,0<=z/\z<wh)/\∀H',A0s H H'->Q (.bl true) H'
def E0j:Sp:=λvs H Q _=>∃(nm0:Str) (ab td:Addr) (u:Tm) (v:V) (trk:List (Key×V)) (ys:List Str) (x:Abt) (L:Str->Int) (nm:List Str) (es:List (Str×List Str)) (num:Str->List Int->Int),vs=[.str nm0,.ref ab,.ref td]/\Wr H ab td x L nm es num/\Rd H x.tr (.dK trk)/\A2r trk (Sum.inr nm0)=some v/\A6p H v u/\(nm0,ys)∈es/\dep u<=14/\B8r u/\Axs nm u/\(∀y,Fv u y->y∈ys)/\A8q (ys.map L)/\(∀c∈A0t (ys.map L),(∀r∈rd L u (ai (A7z ys c)),∃zs,(r.1,zs)∈es/\Within r.2 (zs.map L))/\lw L num x.wh u (ai (A7z ys c))%x.wh=num nm0 c)/\∀H',A0s H H'->Q (.bl true) H'
theorem Rd.same {u:HO} (h:Rd H a u) (s:A0s H H'):Rd H' a u:=h.imp (s _ _) (by rintro ⟨o,e⟩;exact ⟨o,s _ _ e⟩)
theorem C0o (T:Txt K mg t):FO P w base T.ir 1 C6k:=by
 refine T.ir.F.ok B2n (by walk_at "ln") λ_ A _ s H _ Q E hr h=> ?_
 ·refine e0c h ?_;clear h;rintro b n wh ns rfl hb hn hz k
  refine ⟨_,(A0c (A1o (PW.pt (B3t (B7r (A3w (A0y A1m (by rfl) T.af Z0d (A0a (pv 0) (A0a (A3u (v:=V.ty "list") rfl T.cv Z1o rfl) A0d))))) (B1r (A0w C3w (A0y A1c (by rfl) T.bd Z0r (A0a (pv 0) A0d)) (pv 1) (A1f _)))))
    (A0e (A0o B0v))
    A0r)
   (A0c (A2g (A2m (pv 0)) (A0m (i:=3) B2n.nd)
    (A0e (A1o (PW.pt (B3t (B7r (A3w (A0y A1m (by rfl) T.af Z0d (A0a (pv 3) (A0a (A3u (v:=V.ty "int") rfl T.qC PyProof.Rows.boot_int rfl) A0d))))) (B3t (A3w (A0y A1m (by rfl) T.af Z0d (A0a (pv 3) (A0a (A3u (v:=V.ty "bool") rfl T.qo PyProof.Rows.boot_bool rfl) A0d)))) (B3t (A0w D0t (pv 3) A0g (A1f _)) (B1r (A0w E0y (pv 3) (pv 2) (A1f _)))))))
     (A0e (A0o B0v))
     A0r)))
   (A0e (A0o B0v)))),?_⟩
  refine i14 _ rfl _ _ _ _ rfl (.lst hb) (A6t "list") true rfl (A7j ?_);refine i0o _ rfl b _ rfl (.inl (SqL.of hb)) (i0k _ rfl rfl _ rfl (C8o (λz=>absurd (by rw [Z08,hn]) z) (λ_=> ?_)));refine i0l _ rfl b rfl ⟨_,SqL.of hb⟩ ?_;refine A3k (K:=K) (a:=b) (xs:=ns.map V.int) (λi Z G=>∃(o3:Option V),Z=[Sro b,Sio n,Sio wh,o3]/\A0s H G) (i02 none rfl (A0s.refl _)) (by rintro i Z G _ ⟨_,_,s2⟩;exact SqL.of (s2 _ _ hb)) ?_ ?_
  ·rintro i v Z G hv ⟨o3,rfl,s2⟩;obtain ⟨z,hz',rfl⟩:=A2b hv;obtain ⟨z0,z1⟩:=hz z (Z13 hz');refine i14 _ rfl _ _ _ _ rfl (.int _) (A6t "int") true rfl (A7j ?_);refine i14 _ rfl _ _ _ _ rfl (.int _) B6n false rfl (A7j ?_);refine i0o _ rfl _ _ rfl rfl (i02 _ rfl (A2n (λh=>absurd z0 (by have h:z<0:=h;lia)) (λ_=> ?_)));exact i0v _ rfl _ rfl _ _ rfl rfl (i02 _ rfl (A2n (λh=>absurd z1 (by have h:z≥wh:=h;lia)) (λ_=>(i02 _ rfl s2))))
  ·rintro Z G ⟨o3,rfl,s2⟩;exact k G s2
theorem B3n (T:Txt K mg t):FO P w base T.di 21 E0j:=by
 have Gd4:= @C3o P w K mg base t T;have Gd2:= @B4c P w K mg base t T 14;refine T.di.F.ok A2e (λvs H Q E h=> ?_) λ_ A _ s H _ Q E hr h=> ?_
 ·refine e0h h ?_;clear h;rintro nm0 ab td u v trk ys x L nm es num ⟨rfl,_⟩;rfl
 ·refine e0h h ?_;clear h;rintro nm0 ab td u v trk ys x L nm es num ⟨rfl,W,htr,hv,tr,hys,dp,gd,ax,fv,good,ask,k⟩;have hu:=A4z hr;have hp:(0:Int)<x.wh:=by have:=W.wh.1;lia
  obtain ⟨lk,hlk,lok⟩:=W.le;obtain ⟨tk,htk,rows⟩:=W.td;obtain ⟨ak,hak,ar⟩:=W.sh;obtain ⟨cz,ecz,_,hcz⟩:=B7l ar W.nd hys;have hcz:H cz=some (.lst (ys.map V.str)):=hcz;have gz:A5a H x.sh (.str nm0) (some (.ref cz)):= .inl (i0f ak (Sum.inr nm0) (.inl hak) rfl ecz.symm);have axz:AxN nm ys:=W.ax _ hys;obtain ⟨b,eb,hb⟩:=rows _ hys;have hb:H b=some (.lst (((A0t (ys.map L)).map (num nm0)).map V.int)):=hb;have l60:∀y∈ys,L y<=60:=λy hy=>(lok.ok y (axz.sub y hy)).2.1
  have sz:Sz lk ys (ys.map L):=by
   have:∀zs:List Str,(∀y∈zs,y∈nm)->Sz lk zs (zs.map L):=λzs=>by
    induction zs with
    | nil=>intro _;exact .nil
    | cons y r ih=>intro hz;exact .cons (lok.val (hz y (.head _))) (ih λz hz'=>hz z (.tail _ hz'))
   exact this ys axz.sub
  refine ⟨_,(A0c (A0l (i:=3) A2e.nd (A0p hu (A0p hu (pv 1) A0u) (pv 0)))
   (A0c (A0l (i:=4) A2e.nd (pcl Gd4 hr T.jg (A0a (pv 3) (A0a (A0p hu (pv 1) A0u) A0d))))
   (A0c (A2g (B1c rfl T.nW (A0a (pv 4) (A0a (A0p hu (pv 2) (pv 0)) A0d))) (A4y (n:=2) rfl (A1b (A0m (i:=5) A2e.nd) (A1b (A0m (i:=6) A2e.nd) A3m)))
    (A0c (A0l (i:=7) A2e.nd A2y)
    (A0c (A2g (D0k rfl T.nW (A0a (pv 3) (A0a (pv 5) A0d))) (A4y (n:=2) rfl (A1b (A0m (i:=8) A2e.nd) (A1b (A0m (i:=9) A2e.nd) A3m)))
     (A0e (A3a hu (pv 7) (pv 8) (pv 9) rfl)))
    (A0e (A1o (A0w C3w (A0n A1i (pcl Gd2 hr T.bi (A0a (A0p hu (A0p hu (pv 1) A0u) (pv 0)) (A0a (pv 7) (A0a (pv 1) (A0a (pv 2) A0d))))) (A0p hu (pv 1) A0u)) (pv 6) (A1f _))
     (A0e (A0o B0v))
     A0r)))))
   (A0e (A0o B0v))))),?_⟩
  refine i0o _ rfl ab _ rfl (W.get (A4g x)) (i0o _ rfl x.sh _ rfl gz ?_);refine i0v _ rfl _ rfl ab _ rfl (W.get (A2t x)) (i12 cz x.ld ys lk (ys.map L) rfl hcz hlk sz good λq H1 hq s1 ct=> ?_);obtain ⟨ps,hq1,tp⟩:=ct.ex;have lps:=tp.len;have gb:A5a H1 td (.str nm0) (some (.ref b)):= .inl (i0f tk (Sum.inr nm0) (.inl (s1 _ _ htk)) rfl eb.symm);refine i10 _ rfl _ rfl _ rfl td _ rfl gb ⟨q,(i0q b _ _ rfl (SqL.of hq1) (SqL.of (s1 _ _ hb)) ?_)⟩
  refine B1i (K:=K) (a:=q) (b:=b) (xs:=ps.map V.ref) (ys:=((A0t (ys.map L)).map (num nm0)).map V.int) (λi Z G=>∃(o5 o6 o7 o8 o9:Option V),Z=[Sso nm0,Sro ab,Sro td,Sro cz,Sro q,o5,o6,o7,o8,o9]/\A0s H1 G)
   (i03 none none (i0g none none none rfl (A0s.refl _))) (by (rintro i Z G zz;refine e07 zz ?_;clear zz;rintro _ _ _ _ _ ⟨_,s2⟩);exact ⟨SqL.of (s2 _ _ hq1),SqL.of (s2 _ _ (s1 _ _ hb))⟩) (by rw [Z08,Z08,Z08];lia) ?_ ?_
  ·rintro i v1 v2 Z G p hv1 hv2 zz;refine e07 zz ?_;clear zz;rintro o5 o6 o7 o8 o9 ⟨rfl,s2⟩ hp2;obtain ⟨pc,hpc,rfl⟩:=A2b hv1;obtain ⟨zv,hzv,rfl⟩:=A2b hv2;obtain ⟨ce,hce,hcp⟩:=tp.get hpc;rw [Z1z,hce] at hzv;have ezv:num nm0 ce=zv:=Z1a hzv;subst ezv;have wi:=A3z _ ce (Z13 hce);have lce:ce.length=ys.length:=by have:=wi.1;rwa [Z08] at this
   obtain ⟨rin,due⟩:=ask ce (Z13 hce);obtain ⟨G1,s3,hpp,eNH⟩:=nH (o:= .tup [.ref pc,.int (num nm0 ce)]) hp2
   try rw [eNH]
   refine i18 p _ rfl (SqT.of hpp) rfl _ _ rfl _ _ rfl rfl λat_ hat=> ?_;obtain ⟨G2,sa,ha,eNH⟩:=nH (o:= .dK []) hat
   try rw [eNH]
   have s02:A0s H G2:=s1.trans (s2.trans (s3.trans sa));have s12:A0s H1 G2:=s2.trans (s3.trans sa);refine i13 _ rfl _ rfl cz pc _ _ rfl (SqL.of (s02 _ _ hcz)) (SqT.of (s12 _ _ hcp)) ?_
   refine D4m (K:=K) (a:=cz) (b:=pc) (xs:=ys.map V.str) (ys:=ce.map V.int) (λj Z G3=>∃(o8 o9:Option V),Z=[Sso nm0,Sro ab,Sro td,Sro cz,Sro q,Sro pc,Sio (num nm0 ce),Sro at_,o8,o9]/\A0s G1 G3/\G3 at_=some (.dK (A3d [] (((ys.map (Sum.inr:Str->Key)).zip (ce.map V.int)).take j))))
    (i0f _ _ rfl sa ha) (by rintro j Z G3 ⟨_,_,_,s4,_⟩;exact ⟨SqL.of (s4 _ _ (s3 _ _ (s2 _ _ (s1 _ _ hcz)))),SqT.of (s4 _ _ (s3 _ _ (s2 _ _ hcp)))⟩) (by rw [Z08,Z08];lia) ?_ ?_
   ·rintro j x1 y1 Z G3 p2 hx hy ⟨o8,o9,rfl,s4,ha3⟩ hp3;obtain ⟨nx,hnx,rfl⟩:=A2b hx;obtain ⟨ny,hny,rfl⟩:=A2b hy;have hj:=(Z03.mp hnx).1;have l3:=axz.few;have sp':A0s G3 (upd G3 p2 (.tup [.str nx,.int ny])):=A0f hp3;have hp4:upd G3 p2 (.tup [.str nx,.int ny]) p2=some (.tup [.str nx,.int ny]):=A0b;generalize upd G3 p2 (.tup [.str nx,.int ny])=G4 at sp' hp4;have lm:=A2w (((ys.map (Sum.inr:Str->Key)).zip (ce.map V.int)).take j) [];rw [Z0x] at lm;simp only [Z2g] at lm;refine i18 p2 _ rfl (SqT.of hp4) rfl _ _ rfl _ _ rfl rfl ?_;refine i10 _ rfl _ rfl _ rfl at_ _ rfl (B0z.k (k:=Sum.inr nx) (sp' _ _ ha3) (A1d (by lia))) (i0f _ _ rfl (A0q (s4.trans sp') hat) ?_)
    have hz:((ys.map (Sum.inr:Str->Key)).zip (ce.map V.int))[j]? =some (Sum.inr nx,.int ny):=by
     rw [Z2m];exact ⟨by rw [Z1z,hnx];rfl,by rw [Z1z,hny];rfl⟩
    rw [A0b,Z14,hz,Z2f];unfold A3d;rw [List.foldl_append];rfl
   rintro Z G3 ⟨o8',o9',rfl,s4,ha3⟩
   have ea:A3d [] (((ys.map (Sum.inr:Str->Key)).zip (ce.map V.int)).take (ys.map V.str).length)=A7z ys ce:=by
    rw [Z2l (by rw [List.length_zip,Z08,Z08,Z08];lia)];rfl
   rw [ea] at ha3;have s03:A0s H G3:=s1.trans (s2.trans (s3.trans s4));have W3:=W.same s03
   have lenv:(A7z ys ce).length<=3:=by
    have l3:=axz.few;have:=A2w ((ys.map (Sum.inr:Str->Key)).zip (ce.map V.int)) [];unfold A7z;rw [List.length_zip,Z08] at this;simp only [Z2g] at this
    lia
   have g3:A5a G3 x.tr (.str nm0) (some v):= .inl (i0f trk (Sum.inr nm0) (Rd.same htr s03) rfl hv.symm);have bnd:=C7f ys.length rfl lce (D0e l60 wi);refine i0o _ rfl ab _ rfl (W3.get (B6i x)) (i0o _ rfl x.tr _ rfl g3 (i15 _ rfl _ rfl _ rfl v at_ ab td u (A7z ys ce) (i19 (ai (A7z ys ce)) x L nm es num rfl (tr.same s03) dp dp gd ax ⟨ha3,(i0i (by lia) (λy hy=> ?_) (λy=> ?_) rin W3 λG4 s5=> ?_)⟩)))
   ·obtain ⟨kk,hkk⟩:=List.getElem?_of_mem (fv y hy);obtain ⟨i',_,e1,e2,_⟩:=C2a axz.nd wi hkk;rw [e2];exact e1
   ·have:=bnd y;have:(10:Nat)^32=100000000000000000000000000000000:=by decide
    lia
   ·refine i0o _ rfl ab _ rfl ((W3.same s5).get (B1d x)) (i0m _ _ rfl rfl hp (i0k _ rfl rfl _ rfl (C8o (λz=>absurd (congrArg V.int due) z) (λ_=>(i03 _ _ (i0g _ _ _ rfl (s2.trans (s3.trans (s4.trans s5)))))))))
  ·rintro Z G zz;refine e07 zz ?_;clear zz;rintro o5 o6 o7 o8 o9 ⟨rfl,s2⟩;exact k G (s1.trans s2)
theorem D1p (nd:ys.Nodup) (w:Within c (ys.map L)):Bnd L ys (ai (A7z ys c)):=by
 intro y hy;obtain ⟨k,hk⟩:=List.getElem?_of_mem hy;obtain ⟨v,_,_,e2,b0,b1⟩:=C2a nd w hk;rw [e2];exact ⟨b0,b1⟩
theorem A5v.asymm {a b:List Int} (h:A5v a b) (h':A5v b a):False:=by
 refine e08 h λj x y h1 h2 h3 h4=>?_;clear h;refine e08 h' λi u v g1 g2 g3 g4=>?_;clear h';rcases Nat.lt_trichotomy i j with hl | hl | hl
 ·have:=h4 i hl;rw [g2,g1] at this;have:=Z1a this
  lia
 ·subst hl;rw [g2] at h1;rw [g1] at h2;have:=Z1a h1;have:=Z1a h2
  lia
 ·have:=g4 j hl;rw [h2,h1] at this;have:=Z1a this
  lia
theorem C5h {ds:List (List Int×Int)} {v:Int} (h:A6r cs c=some v):A6r (cs++ds) c=some v:=by
 unfold A6r at h⊢;rw [List.find?_append]
 cases e:cs.find? (λe=>decide (e.1=c)) with
 | none=>rw [e] at h;cases h
 | some p=>rw [e] at h;exact h
theorem A7u {ns:NS} {a:Str} {v:Int} (h:A4r ns a c=some v):A4r (ns++ms) a c=some v:=by
 unfold A4r at h⊢;rw [List.find?_append]
 cases e:ns.find? (λe=>decide (e.1=a)) with
 | none=>rw [e] at h;cases h
 | some p=>rw [e] at h;exact h
theorem B0e (n:x∉ms.map (·.1)) (c:List Int):A4r (ms++[(x,cs)]) x c=A6r cs c:=by
 unfold A4r;have e:ms.find? (λe=>decide (e.1=x))=none:=List.find?_eq_none.mpr λe he z=>n (Z2c.mpr (i02 e he (of_decide_eq_true z)));rw [List.find?_append,e];simp
theorem B1v:∀{ms:NS} {x:Str} {cs:List (List Int×Int)},(ms.map (·.1)).Nodup->(x,cs)∈ms->∀c,A4r ms x c=A6r cs c
 | e::r,x,cs,nd,h,c=>by
  rw [Z0p,Z15] at nd;unfold A4r;rw [Z2h];rcases Z0e.mp h with z | z
  ·rw [<-z];simp
  ·have ne:¬e.1=x:=λq=>nd.1 (by rw [q];exact Z2c.mpr (i02 _ z rfl));rw [Z1j ne];exact B1v nd.2 z c
theorem B4r:∀{cs:List (List Int×Int)} {j:Nat} {c:List Int} {v:Int},(cs.map (·.1)).Nodup->cs[j]? =some (c,v)->A6r cs c=some v
 | e::r,0,c,v,_,h=>by
  have h:e=(c,v):=by simpa using h
  subst h;simp [A6r]
 | e::r,j+1,c,v,nd,h=>by
  rw [Z0p,Z15] at nd;have h:r[j]? =some (c,v):=by simpa using h
  have ne:¬e.1=c:=λq=>nd.1 (by rw [q];exact Z2c.mpr (i02 _ (Z13 h) rfl));unfold A6r;rw [Z2h,Z1j ne];exact B4r nd.2 h
theorem B0i:∀{cs:List (List Int×Int)} {c:List Int},c∈cs.map (·.1)->(A6r cs c).isSome=true
 | e::r,c,h=>by
  unfold A6r;rw [Z2h];by_cases q:e.1=c
  ·rw [Z20 q];rfl
  ·rw [Z1j q];rw [Z0p] at h;exact B0i ((Z0e.mp h).resolve_left (Ne.symm q))
theorem D7u (nd:cells.Nodup) (h:cs.map (·.1)=cells):cs.map (·.2)=cells.map λc=>(A6r cs c).getD 0:=by
 refine List.ext_getElem? λk=> ?_;rw [<-h,Z1z,Z1z,Z1z]
 cases hc:cs[k]? with
 | none=>rfl
 | some e =>
  have:=B4r (c:=e.1) (v:=e.2) (by rw [h];exact nd) hc;show some e.2=some ((A6r cs e.1).getD 0);rw [this];rfl
theorem A8f {L:Str->Int} {n1 n2:Str->List Int->Int} {wh:Int}:∀(u:Tm) (f:Str->Int),(∀r∈rd L u f,n1 r.1 r.2=n2 r.1 r.2)->wo L n1 wh u f=wo L n2 wh u f
 | .num _,_,_=>rfl
 | .place _,_,_=>rfl
 | .read a ix,f,h=>by
  show n1 a (A2v f ix)%wh=n2 a (A2v f ix)%wh;rw [h (a,A2v f ix) (.head _)]
 | .sum x b,f,h=>by
  have key:∀m,m<=(L x).toNat->B8u (λ(k:Nat)=>wo L n1 wh b (A8y f x (k:Int))) m=B8u (λ(k:Nat)=>wo L n2 wh b (A8y f x (k:Int))) m:=λm hm=>by
   induction m with
   | zero=>rfl
   | succ m ih =>
    show B8u _ m+wo L n1 wh b (A8y f x (m:Int))=B8u _ m+wo L n2 wh b (A8y f x (m:Int));rw [ih (by lia),A8f b (A8y f x (m:Int)) λr hr=>h r (by simp only [rd,List.mem_flatMap,List.mem_range];exact i02 m (by lia) hr)]
  show _%wh=_%wh;rw [key _ (Z09 _)]
 | .pair o l r,f,h=>by
  show opM o (wo L n1 wh l f) (wo L n1 wh r f)%wh=opM o (wo L n2 wh l f) (wo L n2 wh r f)%wh;rw [A8f l f λq hq=>h q (Z05 _ hq),A8f r f λq hq=>h q (Z02 _ hq)]
 | .guard x lo hi l r,f,h=>by
  simp only [rd] at h;simp only [wo];split
  ·rename_i c;rw [Z12 c] at h;exact A8f l f h
  ·rename_i c;rw [Z0t c] at h;exact A8f r f h
section
variable {len:Str->Int} {wh:Int} {u:Tm} {ys:List Str} {ms:NS} {x:Str}
theorem B6r:∀(more:List (List Int)) (cs:List (List Int×Int)),∃ds,more.foldl (B5x len wh u ys ms x) cs=cs++ds
 | [],cs=>⟨[],(Z0u _).symm⟩
 | c::r,cs=>by
  obtain ⟨ds,h⟩:=B6r r (B5x len wh u ys ms x cs c);refine ⟨(c,wo len (λa d=>(A4r (A5h ms x cs) a d).getD 0) wh u (ai (A7z ys c)))::ds,?_⟩;rw [List.foldl_cons,h];unfold B5x;rw [Z0z];rfl
theorem C1p (cells:List (List Int)) (j:Nat):∃ds,A8i len wh u ys ms x cells=A8i len wh u ys ms x (cells.take j)++ds:=by
 obtain ⟨ds,h⟩:=B6r (len:=len) (wh:=wh) (u:=u) (ys:=ys) (ms:=ms) (x:=x) (cells.drop j) (A8i len wh u ys ms x (cells.take j));refine ⟨ds,?_⟩;rw [<-h];unfold A8i;rw [<-List.foldl_append,Z2e]
theorem C1a (cells:List (List Int)):(A8i len wh u ys ms x cells).map (·.1)=cells:=by
 have:=A9l (len:=len) (wh:=wh) (u:=u) (ys:=ys) (ms:=ms) (x:=x) cells cells.length
 rwa [Z18] at this
theorem D3z (h:cells[j]? =some c):(A8i len wh u ys ms x cells)[j]? =some (c,wo len (λa d=>(A4r (A5h ms x (A8i len wh u ys ms x (cells.take j))) a d).getD 0) wh u (ai (A7z ys c))):=by
 obtain ⟨ds,e⟩:=C1p (len:=len) (wh:=wh) (u:=u) (ys:=ys) (ms:=ms) (x:=x) cells (j+1)
 have e2:A8i len wh u ys ms x (cells.take (j+1))=B5x len wh u ys ms x (A8i len wh u ys ms x (cells.take j)) c:=by
  rw [Z14,h,Z2f,B2c]
 have lj:(A8i len wh u ys ms x (cells.take j)).length=j:=by
  have:=congrArg List.length (A9l (len:=len) (wh:=wh) (u:=u) (ys:=ys) (ms:=ms) (x:=x) cells j);rw [Z08,Z0x] at this;have:=(Z03.mp h).1
  lia
 rw [e,e2];unfold B5x;rw [Z0z,Z1l (by lia),lj,Nat.sub_self];rfl
theorem C2s (h:0<wh):∀(cells:List (List Int)) (cs:List (List Int×Int)),(∀e∈cs,0<=e.2/\e.2<wh)->∀e∈cells.foldl (B5x len wh u ys ms x) cs,0<=e.2/\e.2<wh
 | [],cs,hc=>hc
 | c::r,cs,hc=>C2s h r _ λe he=>by
  rcases Z07.mp he with z | z
  ·exact hc e z
  ·rw [Z0w.mp z];exact B6p h u _
end
theorem C4j {len:Str->Int} (a b:List LD):A1n len wh ms (a++b)=A1n len wh (A1n len wh ms a) b:=by unfold A1n;rw [List.foldl_append]
theorem A8j {len:Str->Int} {wh:Int}:∀(b:List LD) (ms:NS),∃ds,A1n len wh ms b=ms++ds
 | [],ms=>⟨[],(Z0u _).symm⟩
 | e::r,ms=>by
  obtain ⟨ds,h⟩:=A8j (len:=len) (wh:=wh) r (ms++[(e.x,A8i len wh e.u e.ys ms e.x (A0t e.ls))]);exact ⟨(e.x,A8i len wh e.u e.ys ms e.x (A0t e.ls))::ds,by show A1n len wh (ms++[_]) r=_;rw [h,Z0z];rfl⟩
theorem C3x {len:Str->Int} {e:LD} (h:lds[i]? =some e):∃ds,A1n len wh ms lds=A1n len wh ms (lds.take i)++[(e.x,A8i len wh e.u e.ys (A1n len wh ms (lds.take i)) e.x (A0t e.ls))]++ds:=by
 obtain ⟨ds,hd⟩:=A8j (len:=len) (wh:=wh) (lds.drop (i+1)) (A1n len wh ms (lds.take (i+1)));refine ⟨ds,?_⟩;rw [<-A6z,<-Z2f,<-h,<-Z14,<-hd,<-C4j,Z2e]
theorem B4f {len:Str->Int} {wh:Int} (h:0<wh):∀(b:List LD) (ms:NS),(∀p∈ms,∀e∈p.2,0<=e.2/\e.2<wh)->∀p∈A1n len wh ms b,∀e∈p.2,0<=e.2/\e.2<wh
 | [],ms,hm=>hm
 | e::r,ms,hm=>B4f h r (ms++[(e.x,A8i len wh e.u e.ys ms e.x (A0t e.ls))]) λp hp=>by
  rcases Z07.mp hp with z | z
  ·exact hm p z
  ·rw [Z0w.mp z];exact C2s h _ [] (by intro e he;cases he)
def B0k (td:List TD) (lds:List LD):List (Str×List Str):=td.map (·.1)++lds.map λe=>(e.x,e.ys)
structure Ps (wh:Int) (ax:List (Str×Int)) (td:List TD) (lds:List LD):Prop where
 ln:C4r (A1e ax) (ai (A1e ax)) (ax.map (·.1))
 nd:((B0k td lds).map (·.1)).Nodup
 axn:∀e∈B0k td lds,AxN (ax.map (·.1)) e.2
 l6:td.length<=6
 l50:lds.length<=50
 who:D2j wh
 tb:∀e∈td,e.2.1=e.1.2.map (ai (A1e ax))/\A8q e.2.1/\e.2.2.length=(A0t e.2.1).length
 lt:∀e∈lds,e.ls=e.ys.map (ai (A1e ax))/\A8q e.ls/\∀f,(rd (ai (A1e ax)) e.u f).length<=100000
 tm:∀(i:Nat) (e:LD),lds[i]? =some e->A7q (ai (A1e ax)) (ax.map (·.1)) (B0k td (lds.take i)++[(e.x,e.ys)]) e.x e.ys e.ys 13 e.u
section
variable {wh:Int} {ax:List (Str×Int)} {td:List TD} {lds:List LD}
theorem Ps.pos (h:Ps wh ax td lds):0<wh:=by have:=h.who.1;lia
theorem C1u (wh:Int) (td:List TD):(td.map (A5y wh)).map (·.1)=(td.map (·.1)).map (·.1):=by rw [List.map_map,List.map_map];rfl
theorem A9a (i:Nat):(A1n (ai (A1e ax)) wh (td.map (A5y wh)) (lds.take i)).map (·.1)=(B0k td (lds.take i)).map (·.1):=by
 rw [A7l,C1u];unfold B0k;rw [Z0s,List.map_map (f:=λe:LD=>(e.x,e.ys))];rfl
theorem A8c:(A1n (ai (A1e ax)) wh (td.map (A5y wh)) lds).map (·.1)=(B0k td lds).map (·.1):=by
 have:=A9a (wh:=wh) (ax:=ax) (td:=td) (lds:=lds) lds.length
 rwa [Z18] at this
theorem Ps.ndi (h:Ps wh ax td lds) {e:LD} (he:lds[i]? =some e):((B0k td (lds.take i)++[(e.x,e.ys)]).map (·.1)).Nodup:=by
 have hs:List.Sublist (B0k td (lds.take i)++[(e.x,e.ys)]) (B0k td lds):=by
  unfold B0k;rw [Z0z];refine (List.Sublist.refl _).append ?_
  have e1:(lds.take i).map (λe:LD=>(e.x,e.ys))++[(e.x,e.ys)]=(lds.take (i+1)).map λe:LD=>(e.x,e.ys):=by
   rw [Z14,he,Z2f,Z0s];rfl
  rw [e1];exact (Z2o _ _).map _
 exact List.Pairwise.sublist (hs.map _) h.nd
theorem B9r (ht:∀e∈td,e.2.1=e.1.2.map (ai (A1e ax))/\A8q e.2.1/\e.2.2.length=(A0t e.2.1).length):∀(n:Nat) (lds:List LD),lds.length=n->(∀e∈lds,e.ls=e.ys.map (ai (A1e ax)))->∀a zs,(a,zs)∈B0k td lds->∃cs,(a,cs)∈A1n (ai (A1e ax)) wh (td.map (A5y wh)) lds/\cs.map (·.1)=A0t (zs.map (ai (A1e ax)))
 | 0,lds,hn,_,a,zs,h=>by
  have e0:lds=[]:=List.eq_nil_of_length_eq_zero hn;subst e0;unfold B0k at h;rw [List.map_nil,Z0u] at h;obtain ⟨e,he,ee⟩:=Z2c.mp h;obtain ⟨t1,_,t3⟩:=ht e he;refine i02 ((A0t e.2.1).zip (e.2.2.map (· %wh))) ?_ ?_
  ·show (a,_)∈td.map (A5y wh);exact Z2c.mpr (i02 e he (by unfold A5y;rw [ee]))
  ·have e3:e.1.2=zs:=by rw [ee]
   rw [show (λc:List Int×Int=>c.1)=Prod.fst from rfl,List.map_fst_zip (by rw [Z08];lia),t1,e3]
 | n+1,lds,hn,hl,a,zs,h=>by
  obtain ⟨r,e,rfl,hr⟩:=B2v hn;rw [A6z];unfold B0k at h;rw [Z0s,<-Z0z] at h;rcases Z07.mp h with z | z
  ·obtain ⟨cs,c1,c2⟩:=B9r ht n r hr (λe he=>hl e (Z05 _ he)) a zs z;exact i02 cs (Z05 _ c1) c2
  ·have z:(a,zs)=(e.x,e.ys):=Z0w.mp z;obtain ⟨z1,z2⟩:=Prod.mk.inj z;subst z1 z2;exact i02 _ (Z02 _ (.head _)) (by rw [C1a,hl e (Z02 _ (.head _))])
theorem Ps.lsi (h:Ps wh ax td lds) (i:Nat):∀e∈lds.take i,e.ls=e.ys.map (ai (A1e ax)):=λe he=>(h.lt e (Z2p he)).1
theorem C7m {a:Str} (h:(A4r ms a c).isSome=true):(A4r (A5h ms x cs) a c).isSome=true:=by
 obtain ⟨v,hv⟩:=Option.isSome_iff_exists.mp h;unfold A5h;rw [A7u hv];rfl
theorem Ps.run (h:Ps wh ax td lds) (i:Nat) (e:LD) (he:lds[i]? =some e):D6g (ai (A1e ax)) wh e.u e.ys (A1n (ai (A1e ax)) wh (td.map (A5y wh)) (lds.take i)) e.x (A0t e.ls):=by
 intro j c hc;have tm:=h.tm i e he;have mem:=Z13 he;obtain ⟨els,good,most⟩:=h.lt e mem;have axe:AxN (ax.map (·.1)) e.ys:=h.axn (e.x,e.ys) (Z02 _ (Z2c.mpr (i02 e mem rfl)));rw [els] at hc;have wi:=A3z _ c (Z13 hc);have ndi:=h.ndi he;refine i00 (λr hr=> ?_) (λy hy=> ?_) (most _)
 ·obtain ⟨zs,hz,w2,ah⟩:=tm.rin (ai (A7z e.ys c)) (D1p axe.nd wi) r hr;rw [D3i axe.nd wi] at ah;rcases Z07.mp hz with z | z
  ·obtain ⟨cs,c1,c2⟩:=B9r (wh:=wh) h.tb _ (lds.take i) rfl (h.lsi i) r.1 zs z
   have nn:((A1n (ai (A1e ax)) wh (td.map (A5y wh)) (lds.take i)).map (·.1)).Nodup:=by
    rw [A9a];rw [Z0s] at ndi;exact (Z0l.mp ndi).1
   refine C7m ?_;rw [B1v nn c1];exact B0i (by rw [c2];exact B0g _ _ _ rfl w2)
  ·have z:(r.1,zs)=(e.x,e.ys):=Z0w.mp z;obtain ⟨z1,z2⟩:=Prod.mk.inj z;rw [z2] at w2;have ah:=ah z1;have hm:r.2∈A0t (e.ys.map (ai (A1e ax))):=B0g _ _ _ rfl w2;obtain ⟨k,hk⟩:=List.getElem?_of_mem hm
   have kj:k<j:=by
    rcases Nat.lt_trichotomy k j with q | q | q
    ·exact q
    ·subst q;rw [hc] at hk;exact absurd (Z1a hk).symm ah.ne
    ·have hk2:=(Z03.mp hk);have hc2:=(Z03.mp hc);have:=List.pairwise_iff_getElem.mp (B0n (e.ys.map (ai (A1e ax)))) j k hc2.1 hk2.1 q;rw [hc2.2,hk2.2] at this;exact (A5v.asymm this ah).elim
   have hin:r.2∈(A8i (ai (A1e ax)) wh e.u e.ys (A1n (ai (A1e ax)) wh (td.map (A5y wh)) (lds.take i)) e.x ((A0t e.ls).take j)).map (·.1):=by
    rw [A9l,els];exact Z13 (by rw [List.getElem?_take_of_lt kj];exact hk)
   generalize A8i (ai (A1e ax)) wh e.u e.ys (A1n (ai (A1e ax)) wh (td.map (A5y wh)) (lds.take i)) e.x ((A0t e.ls).take j)=cs at hin;have ne:cs≠[]:=λq=>by rw [q] at hin;cases hin
   unfold A5h;rw [Z0t ne,z1,B0e]
   ·exact B0i hin
   ·rw [A9a];rw [Z0s,Z0l] at ndi;exact λq=>ndi.2.2 _ q _ (Z0w.mpr rfl) rfl
 ·obtain ⟨k,hk⟩:=List.getElem?_of_mem (tm.fv y hy);obtain ⟨v,_,e1,e2,_⟩:=C2a axe.nd wi hk;rw [e2];exact e1
def B8v (wh:Int) (ax:List (Str×Int)) (td:List TD) (lds:List LD) (a:Str) (c:List Int):Int:=(A4r (A1n (ai (A1e ax)) wh (td.map (A5y wh)) lds) a c).getD 0
theorem D5u (h:0<wh) (td:List TD):∀p∈td.map (A5y wh),∀e∈p.2,0<=e.2/\e.2<wh:=λp hp e he=>by
 obtain ⟨t,_,rfl⟩:=Z2c.mp hp;have:=(List.of_mem_zip (show (e.1,e.2)∈(A0t t.2.1).zip (t.2.2.map (· %wh)) from he)).2;obtain ⟨z,_,ez⟩:=Z2c.mp this;rw [<-ez];exact ⟨Z1v _ (by lia),Z1p _ h⟩
theorem C8c:∀{cs:List (List Int×Int)} {c:List Int} {v:Int},A6r cs c=some v->∃e∈cs,e.2=v:=by
 intro cs c v h;unfold A6r at h;obtain ⟨e,he,ev⟩:=Z0i.mp h;exact i02 e (List.mem_of_find?_eq_some he) ev
theorem Ps.num_rng (h:Ps wh ax td lds) (a:Str) (c:List Int):0<=B8v wh ax td lds a c/\B8v wh ax td lds a c<wh:=by
 have hp:=h.pos;unfold B8v
 cases e:A4r (A1n (ai (A1e ax)) wh (td.map (A5y wh)) lds) a c with
 | none=>exact ⟨Int.le_refl _,hp⟩
 | some v =>
  unfold A4r at e;obtain ⟨p,h1,h2⟩:=Option.bind_eq_some_iff.mp e;obtain ⟨q,hq,rfl⟩:=C8c h2;exact B4f hp lds _ (D5u hp td) p (List.mem_of_find?_eq_some h1) q hq
theorem Ps.worth (h:Ps wh ax td lds) {e:LD} (he:lds[i]? =some e) (hc:c∈A0t (e.ys.map (ai (A1e ax)))):lw (ai (A1e ax)) (B8v wh ax td lds) wh e.u (ai (A7z e.ys c))%wh=B8v wh ax td lds e.x c:=by
 obtain ⟨j,hj⟩:=List.getElem?_of_mem hc;have mem:=Z13 he;obtain ⟨els,good,most⟩:=h.lt e mem;have ro:=h.run i e he;have ndi:=h.ndi he
 have nx:e.x∉(A1n (ai (A1e ax)) wh (td.map (A5y wh)) (lds.take i)).map (·.1):=by
  rw [A9a];rw [Z0s,Z0l] at ndi;exact λq=>ndi.2.2 _ q _ (Z0w.mpr rfl) rfl
 obtain ⟨ds,eR⟩:=C3x (len:=ai (A1e ax)) (wh:=wh) (ms:=td.map (A5y wh)) he;rw [<-els] at hj;have at_:=D3z (len:=ai (A1e ax)) (wh:=wh) (u:=e.u) (ys:=e.ys) (ms:=A1n (ai (A1e ax)) wh (td.map (A5y wh)) (lds.take i)) (x:=e.x) hj;obtain ⟨r1,_,_⟩:=ro j c hj;have nd2:((A8i (ai (A1e ax)) wh e.u e.ys (A1n (ai (A1e ax)) wh (td.map (A5y wh)) (lds.take i)) e.x (A0t e.ls)).map (·.1)).Nodup:=by rw [C1a];exact A7c _
 have lk:=B4r nd2 at_
 have key:B8v wh ax td lds e.x c=wo (ai (A1e ax)) (λa d=>(A4r (A5h (A1n (ai (A1e ax)) wh (td.map (A5y wh)) (lds.take i)) e.x (A8i (ai (A1e ax)) wh e.u e.ys (A1n (ai (A1e ax)) wh (td.map (A5y wh)) (lds.take i)) e.x ((A0t e.ls).take j))) a d).getD 0) wh e.u (ai (A7z e.ys c)):=by
  unfold B8v;rw [eR,A7u (show A4r _ e.x c=some _ from (B0e nx c).trans lk)];rfl
 rw [key,<-B3x];refine A8f e.u _ λr hr=> ?_;obtain ⟨v,hv⟩:=Option.isSome_iff_exists.mp (r1 r hr);show B8v wh ax td lds r.1 r.2=(A4r _ r.1 r.2).getD 0;rw [hv];unfold B8v
 have:A4r (A1n (ai (A1e ax)) wh (td.map (A5y wh)) lds) r.1 r.2=some v:=by
  rw [eR];refine A7u ?_;obtain ⟨d2,e2⟩:=C1p (len:=ai (A1e ax)) (wh:=wh) (u:=e.u) (ys:=e.ys) (ms:=A1n (ai (A1e ax)) wh (td.map (A5y wh)) (lds.take i)) (x:=e.x) (A0t e.ls) j;rw [e2];generalize A8i (ai (A1e ax)) wh e.u e.ys (A1n (ai (A1e ax)) wh (td.map (A5y wh)) (lds.take i)) e.x ((A0t e.ls).take j)=cs at hv;generalize A1n (ai (A1e ax)) wh (td.map (A5y wh)) (lds.take i)=ms at hv nx;unfold A5h at hv;by_cases q:cs=[]
  ·rw [Z12 q,Z0u] at hv;exact A7u hv
  ·rw [Z0t q] at hv;by_cases qa:r.1=e.x
   ·rw [qa] at hv⊢;rw [B0e nx] at hv⊢;exact C5h hv
   ·have ev:A4r ms r.1 r.2=some v:=by
     unfold A4r at hv⊢;rw [List.find?_append] at hv
     cases em:ms.find? (λe=>decide (e.1=r.1)) with
     | some p=>rw [em] at hv;exact hv
     | none =>
      rw [em] at hv
      have:([(e.x,cs)]:NS).find? (λe=>decide (e.1=r.1))=none:=by
       rw [Z2h,Z1j (Ne.symm qa)];rfl
      simp only [Option.none_or,this] at hv;cases hv
    exact A7u ev
 rw [this]
theorem Ps.rows (h:Ps wh ax td lds) {a:Str} (hz:(a,zs)∈B0k td lds):∃cs,(a,cs)∈A1n (ai (A1e ax)) wh (td.map (A5y wh)) lds/\cs.map (·.2)=(A0t (zs.map (ai (A1e ax)))).map (B8v wh ax td lds a):=by
 obtain ⟨cs,c1,c2⟩:=B9r (wh:=wh) h.tb _ lds rfl (λe he=>(h.lt e he).1) a zs hz;refine i02 cs c1 ?_;rw [D7u (A7c _) c2];refine List.map_congr_left λc _=> ?_;unfold B8v;rw [B1v (by rw [A8c];exact h.nd) c1]
end
theorem D5g {lk:List (Key×V)} {L:Str->Int} {nm:List Str} (lok:C4r lk L nm):∀{zs:List Str},(∀y∈zs,y∈nm)->Sz lk zs (zs.map L)
 | [],_=> .nil
 | y::r,h=> .cons (lok.val (h y (.head _))) (D5g lok λz hz=>h z (.tail _ hz))
abbrev D0j (H:Hp) (trk:List (Key×V)) (lds:List LD):Prop:=Paired (λ(q:Key×V) (e:LD)=>q.1=Sum.inr e.x/\A6p H q.2 e.u) trk lds
structure Pk (A:Adr) (H:Hp) (p ab nu:Addr) (x:Abt) (ax:List (Str×Int)) (td:List TD) (lds:List LD):Prop where
 st:Ps x.wh ax td lds
 pr:∃lv os,D1k A H p x.wh ax (td.map (·.1)) lv os/\Paired (B7m A ax H) lv lds
 d:H ab=some (.dK (abK x))
 le:H x.ld=some (.dK (A1e ax))
 sh:∃ak,H x.sh=some (.dK ak)/\AR (λ_=>True) H ak (B0k td lds)
 tr:∃trk,H x.tr=some (.dK trk)/\D0j H trk lds
 nu:∃nk,H nu=some (.dK nk)/\C4t H nk (B5k td)
theorem Pk.same {nu:Addr} {x:Abt} (h:Pk A H p ab nu x ax td lds) (s:A0s H H'):Pk A H' p ab nu x ax td lds:=by
 obtain ⟨st,⟨lv,os,pr,lo⟩,d,le,⟨ak,h1,h2⟩,⟨trk,t1,t2⟩,⟨nk,n1,n2⟩⟩:=h;exact ⟨st,(i07 lv os (pr.same s) (Paired.mapP lo λ_ _ q=>q.kx λb u _ _ y=>s _ _ y)),s _ _ d,s _ _ le,(i02 ak (s _ _ h1) (h2.same s)),(i02 trk (s _ _ t1) (Paired.mapP t2 (by rintro _ _ ⟨a,b⟩;exact ⟨a,b.same s⟩))),(i02 nk (s _ _ n1) (n2.same s))⟩
def A9x (x:Abt) (ax:List (Str×Int)) (td:List TD) (lds:List LD):NS:=A1n (ai (A1e ax)) x.wh (td.map (A5y x.wh)) lds
def C9y (A:Adr):Sp:=λvs H Q _=>∃(p ab nu:Addr) (x:Abt) (ax:List (Str×Int)) (td:List TD) (lds:List LD),vs=[.ref p,.ref ab,.ref nu]/\Pk A H p ab nu x ax td lds/\∀(r:Addr) (rk:List (Key×V)) (H':Hp),H r=none->A0s H H'->H' r=some (.dK rk)->C4t H' rk (B0q (A9x x ax td lds))->Q (.ref r) H'
theorem D3y {H:Hp}:∀{a b:List (Key×V)} {ts:List (Str×List Int)},C4t H a ts->C4t H b ts->Paired (λ(p q:Key×V)=>p.1=q.1/\∃d,Rep H p.2 d/\Rep H q.2 d/\d.canLay0=true/\d.depth<=60) a b
 | _,_,_,.nil,.nil=> .nil
 | _,_,e::_,.cons ⟨e1,c1,f1,h1⟩ t1,.cons ⟨e2,c2,f2,h2⟩ t2=> .cons ⟨e1.trans e2.symm,(i0c (.list (e.2.map PyData.int)) (by rw [f1];exact .lst h1 (A3l.ints e.2)) (by rw [f2];exact .lst h2 (A3l.ints e.2)) ((C1o e.2).1) ((C1o e.2).2))⟩ (D3y t1 t2)
theorem A6p.tl (ft:∀b xs,H b=some (.tup xs)->H' b=some (.tup xs)) (fl:∀b xs,H b=some (.lst xs)->H' b=some (.lst xs)) {t:Tm} (h:A6p H v t):A6p H' v t:=by
 induction h with
 | num e=>exact .num (ft _ _ e)
 | place e=>exact .place (ft _ _ e)
 | read e r=>exact .read (ft _ _ e) (r.imp2 fl ft)
 | sum e _ i1=>exact .sum (ft _ _ e) i1
 | pair e _ _ i1 i2=>exact .pair (ft _ _ e) i1 i2
 | guard e _ _ i1 i2=>exact .guard (ft _ _ e) i1 i2
theorem C1y {trk:List (Key×V)} (h:D0j H trk lds):trk.map (·.1)=(lds.map (·.x)).map (Sum.inr:Str->Key):=by
 induction h with
 | nil=>rfl
 | cons r t ih=>rw [Z0p,Z0p,Z0p,ih,r.1]
theorem C7k (h:∀y∈ys,1<=L y):((A0t (ys.map L)).length:Int)=prd L ys:=by
 have:=(A2d (ys.map L) λn hn=>by obtain ⟨y,hy,rfl⟩:=Z2c.mp hn;exact h y hy).1;rw [this];unfold A5i prd;rw [List.foldl_map]
theorem C2j {o:Obj} {u:HO} (s:A0s H G) (ha:H a=some u):A0s (upd H a (.frz o u)) (upd G a (.frz o u)):=λb v e=>by
 by_cases hb:b=a
 ·subst hb;rw [A0b] at e⊢;exact e
 ·rw [A0i hb] at e⊢;exact s _ _ e
theorem C3u (T:Txt K mg t):FO P w base T.eu 22 (C9y t):=by
 have Gd5:= @B3n P w K mg base t T;have Gd6:= @B1u P w K mg base t T;have Gd7:= @C0o P w K mg base t T;have Gd8:= @C4o P w K mg base t T;refine T.eu.F.ok A3q (λvs H Q E h=> ?_) λ_ A _ s H _ Q E hr h=> ?_
 ·refine e07 h ?_;clear h;rintro p ab nu x ax ⟨td,lds,rfl,_⟩;rfl
 ·refine e07 h ?_;clear h;rintro p ab nu x ax ⟨td,lds,rfl,pk,k⟩;have hu:=A4z hr;have st:=pk.st;obtain ⟨nk,hnu,tka⟩:=pk.nu;have ltk:=Paired.length tka
  have ndt:((B5k td).map (·.1)).Nodup:=by
   have:=st.nd;unfold B0k at this;rw [Z0s] at this;rw [C5m];exact (Z0l.mp this).1
  have ndk:(nk.map (·.1)).Nodup:=by rw [C0i tka];exact B1q ndt
  have l6:=st.l6;have lts:(B5k td).length=td.length:=by unfold B5k;rw [Z08]
  refine ⟨_,(A0c (A0l (i:=3) A3q.nd A2y)
   (A0c (A2g (B9j (pv 2)) (A0m (i:=4) A3q.nd)
    (A0e (A3a hu (pv 3) (pv 4) (A2a A4x (by rfl) T.cv Z1o (A0a (A0p hu (pv 2) (pv 4)) A0d)) rfl)))
   (B5p (A0c (A0l (i:=5) A3q.nd (pcl Gd8 hr T.ji (A0a (pv 0) (A0a (pv 3) A0d))))
   (A0c (A1o (PW.pt (B3t (A0w (D9g hr.units) (pv 3) (pv 2) (A1f _)) (B3t (B7r (A3w (A0y A1m (by rfl) T.af Z0d (A0a (pv 5) (A0a (A3u (v:=V.ty "dict") rfl T.e_ Z2q rfl) A0d))))) (B1r (A0w C3w (A0y B7k (by rfl) T.bd Z0r (A0a (pv 5) A0d)) (A0y B7k (by rfl) T.bd Z0r (A0a (A0p hu (pv 1) A0u) A0d)) (A1f _))))))
    (A0e (A0o A2y))
    A0r)
   (A0c (A2g (B4s (B3z PySem.F.plainAttrs_dict PySem.F.slot_dict_items PySem.F.type_dict_items B6k (A0p hu (pv 1) A0u))) (A4y (n:=2) rfl (A1b (A0m (i:=4) A3q.nd) (A1b (A0m (i:=6) A3q.nd) A3m)))
    (A0c (A0l (i:=7) A3q.nd (pcl Gd6 hr T.cj (A0a (pv 6) (A0a (A0p hu (pv 1) A0u) A0d))))
    (A0e (A1o (PW.pt (B3t (D2l (B7i hu (pv 4) (pv 5)) (by with_unfolding_all rfl)) (B1r (B7r (A3w (pcl Gd7 hr T.ir (A0a (A0p hu (pv 5) (pv 4)) (A0a (pv 7) (A0a (A0p hu (pv 1) A0u) A0d)))))))))
     (A0e (A0o A2y))
     A0r))))
   (B2b (A0c (A2g (B9j (pv 2)) (A0m (i:=4) A3q.nd)
    (A0e (A1o (A0w (D5j hr.units) (A0p hu (pv 5) (pv 4)) (A3h (N':=["_law_number","_law_about"]) (ix:=(List.replicate 1 none++[some 1])) rfl (A5j (x:="_law_about") rfl rfl rfl (by decide +kernel) (by decide +kernel)) (A4j (N0:=["_law_number"]) rfl (.inl rfl) (by walk_at "ix")) (A2m (A0p hu (pv 2) (pv 4))) (λ_ _ _ _=>(A0m (i:=0) C3i)) (λ_ _ _ _=>(A0n A1i (pv 0) (A0p hu (pv 1) A0u)))) (A1f _))
     (A0e (A0o A2y))
     A0r)))
   (B5p (A0c (A2g (B9j (A0p hu (pv 1) A0u)) (A0m (i:=4) A3q.nd)
    (A0e (A1o (B7r (A3w (pcl Gd5 hr T.di (A0a (pv 4) (A0a (pv 1) (A0a (pv 5) A0d))))))
     (A0e (A0o A2y))
     A0r)))
   (B5p (A0e (A0o (pv 5)))))))))))))),?_⟩
  refine λq hq=> ?_;have s1:A0s H (upd H q (.dK [])):=A0f hq;have dq:q≠nu:=(A0h hnu hq).symm;refine i0o _ rfl nu nk rfl (s1 _ _ hnu) λo=> ?_;have g0:A0s (upd H nu (.frz o (.dK nk))) (upd (upd H q (.dK [])) nu (.frz o (.dK nk))):=C2j s1 hnu
  have nf:∀b,upd H nu (.frz o (.dK nk)) b=none->H b=none:=λb e=>by
   by_cases hb:b=nu
   ·subst hb;rw [A0b] at e;cases e
   ·rw [A0i hb] at e;exact e
  have hqG:upd H nu (.frz o (.dK nk)) q=none:=by rw [A0i dq];exact hq
  refine B5b (a:=nu) (o:=o) (kvs:=nk) (λi Z H3=>∃(o4:Option V) (ws:List (Key×V)),Z=[Sro p,Sro ab,Sro nu,Sro q,o4,none,none,none]/\A0s (upd H nu (.frz o (.dK nk))) H3/\H3 q=some (.dK ws)/\TkS (λb=>H b=none) H3 ws ((B5k td).take i))
   (i0m none [] rfl g0 (by rw [A0i dq];exact A0b) .nil) (by rintro i Z H3 ⟨_,_,_,s3,_⟩;exact s3 _ _ A0b) ?_ ?_
  ·rintro i k' v Z H3 hkv ⟨o4,ws,rfl,s3,h3,tw⟩;obtain ⟨e,he,ek,b,ev,hb⟩:=B1e tka hkv;have ek:k'=Sum.inr e.1:=ek;have ev:v= .ref b:=ev;subst ek ev;have hb3:H3 b=some (.lst (e.2.map V.int)):=s3 _ _ (by rw [A0i (A1p hb hnu (by intro z;cases z))];exact hb);have g:A5a H3 nu (.str e.1) (some (.ref b)):= .inl (i0f nk (Sum.inr e.1) (.inr ⟨o,s3 _ _ A0b⟩) rfl ((A7r ndk hkv).symm));refine i0v _ rfl _ rfl nu _ rfl g (i0f b _ rfl (.inl (SqL.of hb3)) λll hll=> ?_);have sl:A0s H3 (upd H3 ll (.lst (e.2.map V.int))):=A0f hll;have hll':upd H3 ll (.lst (e.2.map V.int)) ll=some (.lst (e.2.map V.int)):=A0b;generalize upd H3 ll (.lst (e.2.map V.int))=H4 at sl hll';have lws:=Paired.length tw;rw [Z0x] at lws;refine i0v _ rfl _ rfl q _ rfl (B0z.k (k:=Sum.inr e.1) (sl _ _ h3) (A1d (by lia))) ?_;rw [B1g (C7o tw (D4k ndt he))];have lq:ll≠q:=λz=>by subst z;rw [h3] at hll;cases hll
   refine i0m _ _ rfl (A0q (s3.trans sl) hqG) A0b ?_;rw [Z14,he];exact B3s (tw.imp λc ys m e=>⟨m,by rw [A0i (A1p e h3 (by intro z;cases z))];exact sl _ _ e⟩) (.cons (i0a rfl ll rfl (nf _ (s3.free hll)) (by rw [A0i lq];exact hll')) .nil)
  rintro Z H3 ⟨o4,ws,rfl,s3,h3,tw⟩;rw [ltk,Z18] at tw;refine i0n nu o _ (s3 _ _ A0b) (λo' u' z=>by have z:H nu=some (.frz o' u'):=z;rw [hnu] at z;cases z) ?_;have sH1:A0s H (upd H3 nu (.dK nk)):=A6j hnu s3;have hq1:upd H3 nu (.dK nk) q=some (.dK ws):=by rw [A0i dq];exact h3
  have tw1:TkS (λb=>H b=none) (upd H3 nu (.dK nk)) ws (B5k td):=tw.imp λb xs m e=>⟨m,by rw [A0i (λz=>by subst z;have m:H _=none:=m;rw [hnu] at m;cases m)];exact e⟩;generalize upd H3 nu (.dK nk)=H1 at sH1 hq1 tw1;obtain ⟨lv,os,pr,lets⟩:=(pk.same sH1).pr;have nx:(ax.map (·.1)).Nodup:=st.ln.nd;have lx:ax.length<=100:=by have:=st.ln.few;rw [Z08] at this;lia
  have ndA:(((td.map (A5y x.wh)).map (·.1))++lds.map (·.x)).Nodup:=by
   have:=st.nd;unfold B0k at this;rw [Z0s,List.map_map (f:=λe:LD=>(e.x,e.ys))] at this;rw [C1u];exact this
  have tbok:∀e∈td,Sz (A1e ax) e.1.2 e.2.1/\A8q e.2.1/\e.2.2.length=(A0t e.2.1).length:=λe he=>by
   obtain ⟨b1,b2,b3⟩:=st.tb e he;refine i00 ?_ b2 b3;rw [b1];exact D5g st.ln (st.axn e.1 (Z05 _ (Z2c.mpr (i02 e he rfl)))).sub
  refine i0e _ rfl _ rfl (i0h p q x.wh ax (i1c td lds lv os ws rfl pr nx lx ndA l6 st.l50 hq1 (i08 (D1u tw1.at tbok) st.who lets (λi e he=>st.run i e he) λr rk H2 hr0 s2 hr2 rows=> ?_)));have sH2:=sH1.trans s2;have hrH:H r=none:=sH1.free hr0;have rks:=C2c rows
  have ndR:((B0q (A9x x ax td lds)).map (·.1)).Nodup:=by
   rw [B4z];unfold A9x;rw [A8c];exact st.nd
  have rks:TkS (λb=>H1 b=none) H2 rk (B0q (A9x x ax td lds)):=rks;have lrk:=Paired.length rks;have ndrk:(rk.map (·.1)).Nodup:=by rw [C0i rks.at];exact B1q ndR
  have ldue:(B0q (A9x x ax td lds)).length=(B0k td lds).length:=by
   have h1:((B0q (A9x x ax td lds)).map (·.1)).length=((B0k td lds).map (·.1)).length:=by
    rw [B4z];unfold A9x;rw [A8c]
   rwa [Z08,Z08] at h1
  have pk2:=pk.same sH2;obtain ⟨ak,hak,ar⟩:=pk2.sh;have lak:=Paired.length ar;obtain ⟨trk,htr,tra⟩:=pk2.tr;have gab:∀{G:Hp} {kk:Str} {v:V},A0s H2 G->A2r (abK x) (Sum.inr kk)=some v->A5a G ab (.str kk) (some v):=λs e=> .inl (i0f _ (Sum.inr _) (.inl (s _ _ pk2.d)) rfl e.symm)
  have row:∀a zs,(a,zs)∈B0k td lds->∃b,A2r rk (Sum.inr a)=some (.ref b)/\H2 b=some (.lst (((A0t (zs.map (ai (A1e ax)))).map (B8v x.wh ax td lds a)).map V.int)):=λa zs hz=>by
   obtain ⟨cs,c1,c2⟩:=st.rows hz;obtain ⟨i,hi⟩:=List.getElem?_of_mem (show (a,cs.map (·.2))∈B0q (A9x x ax td lds) from Z2c.mpr (i02 _ c1 rfl));obtain ⟨b,hb1,_,hb2⟩:=C2h rks hi;refine i02 b (A7r ndrk hb1) ?_;rw [hb2];show some (HO.lst ((cs.map (·.2)).map V.int))=_;rw [c2]
  refine i02 _ rfl (i1b _ rfl q nu _ _ rfl rfl (Rd.of (s2 _ _ hq1)) (Rd.of (sH2 _ _ hnu)) (D3y (tw1.at.same s2) (tka.same sH2)) _ rfl (A7j ?_));refine i14 _ rfl _ _ _ _ rfl (.dK hr2) (A6t "dict") true rfl (A7j ?_);refine i0o _ rfl r _ rfl hr2 (i0o _ rfl ab _ rfl (gab (A0s.refl _) (A4g x)) (i07 x.sh _ rfl (i09 hak rfl _ rfl (D8v (by rw [lrk,ldue,lak]) ?_))));have l1:∀y∈ax.map (·.1),1<=ai (A1e ax) y:=λy hy=>(st.ln.ok y hy).1
  have absh:ab≠x.sh:=λz=>by
   have e:=pk2.d;rw [z,hak] at e;have e:ak=abK x:=by injection e with e;injection e
   obtain ⟨_,_,_,b,eb,_⟩:=B1e ar (i:=4) (x:=(Sum.inr "own",.str x.own)) (by rw [e];rfl);cases eb
  refine i16 _ rfl ab _ rfl (gab (A0s.refl _) (A4g x)) (.inr (.inr (.inl ⟨rfl,.inl ⟨_,hak⟩⟩))) x.sh _ rfl rfl hak ⟨.inl ⟨_,rfl⟩,λvw hvw=> ?_⟩;refine i0q vw x.sh _ rfl A0b ((A0f hvw) _ _ hak) (.inl (i02 ak rfl λo=> ?_))
  refine B1s (L:=ak.map λq=>(kV q.1,q.2)) (λi Z G=>∃(o4 o6 o7:Option V),Z=[Sro p,Sro ab,Sro nu,Sro q,o4,Sro r,o6,o7]/\A0s (upd H2 x.sh (.frz o (.dK ak))) G)
   (i0g _ none none rfl (C2j (A0f hvw) hak)) (by rintro i Z G ⟨_,_,_,_,sg⟩;exact sg _ _ A0b) ?_ ?_
  ·rintro i kx vx q2 Z G hx hq2 ⟨o4,o6,o7,rfl,sg⟩;rw [Z1z] at hx;obtain ⟨⟨k',v⟩,hk,e⟩:=Z0i.mp hx;cases e;refine e00 (B1e ar hk) ?_;rintro e he ek ⟨b,eb,_,hb⟩;have ek:k'=Sum.inr e.1:=ek;have eb:v= .ref b:=eb;subst ek eb
   have ldsh:x.ld≠x.sh:=λz=>by
    have e2:=pk2.le;rw [z,hak] at e2;have e2:ak=A1e ax:=by injection e2 with e2;injection e2
    rw [e2] at hk;unfold A1e at hk;rw [Z1z] at hk;obtain ⟨_,_,e3⟩:=Z0i.mp hk;exact V.noConfusion (Prod.mk.inj e3).2
   have up:∀{bb:Addr} {u:HO},bb≠x.sh->H2 bb=some u->G bb=some u:=λn e=>sg _ _ (by rw [A0i n];exact e);have axe:=st.axn e (Z13 he);obtain ⟨G1,s5,hqq,eNH⟩:=nH (o:= .tup [kV (Sum.inr e.1),.ref b]) hq2
   try rw [eNH]
   have gA:∀{G':Hp} {kk:Str} {v:V},A0s G1 G'->A2r (abK x) (Sum.inr kk)=some v->A5a G' ab (.str kk) (some v):=λs e=> .inl (i0f _ (Sum.inr _) (.inl (s _ _ (s5 _ _ (up absh pk2.d)))) rfl e.symm);have tl:D4e (A1e ax) (ai (A1e ax)) e.2:=λy hy=>(i00 (st.ln.val (axe.sub y hy)) (by have:=st.ln.ok y (axe.sub y hy);lia) (by have:=st.ln.ok y (axe.sub y hy);lia));refine i18 q2 _ rfl (SqT.of hqq) rfl _ _ rfl _ _ rfl rfl ?_;refine i0v _ rfl _ rfl ab _ rfl (gA (A0s.refl _) (A2t x)) (i12 b x.ld e.2 (A1e ax) (ai (A1e ax)) rfl (s5 _ _ (up (A1p hb hak (by intro z;cases z)) hb)) (s5 _ _ (up ldsh pk2.le)) tl (by have:=axe.few;lia) λG2 s6=> ?_);obtain ⟨c,hc1,hc2⟩:=row e.1 e.2 (Z13 he);have s56:=s5.trans s6;have hr4:G2 r=some (.dK rk):=s56 _ _ (up (λz=>by rw [z,(pk.sh).choose_spec.1] at hrH;cases hrH) hr2);have g:A5a G2 r (.str e.1) (some (.ref c)):= .inl (i0f rk (Sum.inr e.1) (.inl hr4) rfl hc1.symm);refine i0v _ rfl _ rfl r _ rfl g (i02 _ rfl (A7j ?_));refine i0v _ rfl _ rfl r _ rfl g (i0v _ rfl _ rfl ab _ rfl (gA s6 (B1d x)) (i0x c _ x.wh ((A0t (e.2.map (ai (A1e ax)))).map (B8v x.wh ax td lds e.1)) rfl (s56 _ _ (up (A1p hc2 hak (by intro z;cases z)) hc2)) (by rw [Z08];exact C7k λy hy=>l1 y (axe.sub y hy)) (λz hz=> ?_) λG3 s7=>(i02 _ rfl (A7j (i0g _ _ _ rfl (sg.trans (s56.trans s7)))))));obtain ⟨cc,_,rfl⟩:=Z2c.mp hz;exact st.num_rng e.1 cc
  rintro Z G ⟨o4,o6,o7,rfl,sg⟩;refine i0q x.sh o _ (sg _ _ A0b) (.inl ⟨_,rfl⟩) (λo' u' z=>by have z:H x.sh=some (.frz o' u'):=z;rw [(pk.sh).choose_spec.1] at z;cases z) ?_;have s23:A0s H2 (upd G x.sh (.dK ak)):=A6j hak sg;generalize upd G x.sh (.dK ak)=H5 at s23;clear sg;have hnu5:=s23 _ _ (sH2 _ _ hnu);refine i0o _ rfl nu nk rfl hnu5 λo=> ?_
  have abnu:ab≠nu:=λz=>by
   have e:=pk.d;rw [z,hnu] at e;have e:nk=abK x:=by injection e with e;injection e
   obtain ⟨_,_,_,b,eb,_⟩:=B1e tka (i:=4) (x:=(Sum.inr "own",.str x.own)) (by rw [e];rfl);cases eb
  have rnu:r≠nu:=(A0h hnu hrH).symm
  refine B5b (a:=nu) (o:=o) (kvs:=nk) (λi Z G=>∃(o4 o6 o7:Option V),Z=[Sro p,Sro ab,Sro nu,Sro q,o4,Sro r,o6,o7]/\A0s (upd H5 nu (.frz o (.dK nk))) G)
   (i0g _ _ _ rfl (A0s.refl _)) (by rintro i Z G ⟨_,_,_,_,sg⟩;exact sg _ _ A0b) ?_ ?_
  ·rintro i k' v Z G hkv ⟨o4,o6,o7,rfl,sg⟩;obtain ⟨e,he,ek,b,ev,hb⟩:=B1e tka hkv;have ek:k'=Sum.inr e.1:=ek;have ev:v= .ref b:=ev;subst ek ev;have up:∀{bb:Addr} {u:HO},bb≠nu->H5 bb=some u->G bb=some u:=λn e=>sg _ _ (by rw [A0i n];exact e);have hbG:G b=some (.lst (e.2.map V.int)):=up (A1p hb hnu (by intro z;cases z)) (s23 _ _ (sH2 _ _ hb));have hrG:G r=some (.dK rk):=up rnu (s23 _ _ hr2);have habG:G ab=some (.dK (abK x)):=up abnu (s23 _ _ pk2.d);unfold B5k at he;rw [Z1z] at he;obtain ⟨te,hte,ee⟩:=Z0i.mp he;obtain ⟨ds,eR⟩:=A8j (len:=ai (A1e ax)) (wh:=x.wh) lds (td.map (A5y x.wh))
   have hdue:(B0q (A9x x ax td lds))[i]? =some (e.1,e.2.map (· %x.wh)):=by
    have hlt:=(Z03.mp hte).1;have b3:=(st.tb te (Z13 hte)).2.2;unfold B0q A9x;rw [eR,Z1z,Z26 (by rw [Z08];exact hlt),Z1z,hte];show some (te.1.1,((A0t te.2.1).zip (te.2.2.map (· %x.wh))).map (·.2))=_;rw [show (λc:List Int×Int=>c.2)=Prod.snd from rfl,List.map_snd_zip (by rw [Z08];lia),<-ee]
   obtain ⟨c,hc1,_,hc2⟩:=C2h rks hdue;have hcG:G c=some (.lst ((e.2.map (· %x.wh)).map V.int)):=up (A1p hc2 (sH2 _ _ hnu) (by intro z;cases z)) (s23 _ _ hc2);have g:A5a G r (.str e.1) (some (.ref c)):= .inl (i0f rk (Sum.inr e.1) (.inl hrG) rfl ((A7r ndrk hc1).symm));have g':A5a G nu (.str e.1) (some (.ref b)):= .inl (i0f nk (Sum.inr e.1) (.inr ⟨o,sg _ _ A0b⟩) rfl ((A7r ndk hkv).symm));refine i0v _ rfl _ rfl r _ rfl g (i0v _ rfl _ rfl nu _ rfl g' (i06 b rfl ⟨_,SqL.of hbG⟩ λD hD=> ?_))
   have le4:e.2.length<=4000:=by
    obtain ⟨b1,b2,b3⟩:=st.tb te (Z13 hte);have lc:=(A2d te.2.1 λn hn=>(b2.pos n hn).1).1;have lm:=b2.most;rw [<-ee];show te.2.2.length<=4000
    lia
   refine A4a (K:=K) (a:=b) (D:=D) (xs:=e.2.map V.int) (λj vs G1=>A0s G G1/\G1 D=some (.lst vs)/\vs=((e.2.take j).map (· %x.wh)).map V.int) (i00 (A0f hD) A0b rfl) (by rintro j vs G1 ⟨s5,_⟩;exact SqL.of (s5 _ _ hbG)) ?_ ?_
   ·rintro j v vs G1 hv ⟨s5,hD1,rfl⟩;obtain ⟨z,hz,rfl⟩:=A2b hv;refine ⟨⟨rfl,True.intro⟩,(i0v _ rfl _ rfl ab _ rfl (.inl (i0f _ (Sum.inr _) (.inl (s5 _ _ habG)) rfl ((B1d x).symm))) (i0f _ _ rfl rfl (i0i st.pos hD1 (A1d (by rw [Z08,Z08,Z0x];lia)) (A0q s5 hD) A0b ?_)))⟩;rw [Z14,hz,Z2f,Z0s,Z0s];rfl
   rintro vs G1 ⟨s5,hD1,rfl⟩;rw [Z08,Z18] at hD1;refine i0x c D _ _ rfl rfl (SqL.of (s5 _ _ hcG)) (SqL.of hD1) (i02 _ rfl (E1m (by simp) (i0g _ _ _ rfl (sg.trans s5))))
  rintro Z G ⟨o4',o6',o7',rfl,sg⟩;refine i0n nu o _ (sg _ _ A0b) (λo' u' z=>by have z:H nu=some (.frz o' u'):=z;rw [hnu] at z;cases z) ?_;have s25:A0s H2 (upd G nu (.dK nk)):=s23.trans (A6j hnu5 sg);generalize upd G nu (.dK nk)=H6 at s25;clear sg hnu5 s23;have htr6:=s25 _ _ htr
  have ndtr:(trk.map (·.1)).Nodup:=by
   have:=st.nd;unfold B0k at this;rw [Z0s,List.map_map (f:=λe:LD=>(e.x,e.ys))] at this;rw [C1y tra];exact B1q (Z0l.mp this).2.1
  refine i0o _ rfl ab _ rfl (gab s25 (B6i x)) (i0f x.tr trk rfl htr6 λo=> ?_)
  refine B5b (a:=x.tr) (o:=o) (kvs:=trk) (λi Z G=>∃(o4 o6 o7:Option V),Z=[Sro p,Sro ab,Sro nu,Sro q,o4,Sro r,o6,o7]/\A0s (upd H6 x.tr (.frz o (.dK trk))) G)
   (i0g _ _ _ rfl (A0s.refl _)) (by rintro i Z G ⟨_,_,_,_,sg⟩;exact sg _ _ A0b) ?_ ?_
  ·rintro i k' v Z G hkv ⟨o4,o6,o7,rfl,sg⟩;obtain ⟨e,he,ek,tv⟩:=B1e tra hkv;have ek:k'=Sum.inr e.x:=ek;have tv:A6p H2 v e.u:=tv;subst ek;have up:∀{bb:Addr} {u:HO},bb≠x.tr->H2 bb=some u->G bb=some u:=λn e=>sg _ _ (by rw [A0i n];exact s25 _ _ e)
   have abtr:ab≠x.tr:=λz=>by
    have e:=pk2.d;rw [z,htr] at e;have e:trk=abK x:=by injection e with e;injection e
    obtain ⟨_,_,_,tz⟩:=B1e tra (i:=4) (x:=(Sum.inr "own",.str x.own)) (by rw [e];rfl);cases tz
   have ldtr:x.ld≠x.tr:=λz=>by
    have e2:=pk2.le;rw [z,htr] at e2;have e2:trk=A1e ax:=by injection e2 with e2;injection e2
    rw [e2] at hkv;unfold A1e at hkv;rw [Z1z] at hkv;obtain ⟨_,_,e3⟩:=Z0i.mp hkv;rw [<-(Prod.mk.inj e3).2] at tv;cases tv
   have shtr:x.sh≠x.tr:=λz=>by
    rw [z,htr] at hak;have e2:trk=ak:=by injection hak with e2;injection e2
    rw [e2] at hkv;refine e00 (B1e ar hkv) ?_;rintro _ _ _ ⟨b,eb,_,hb⟩;have eb:v= .ref b:=eb;subst eb;have:∀{u},A6p H2 (.ref b) u->∃xs,H2 b=some (.tup xs):=λh=>by cases h <;> exact ⟨_,by assumption⟩
    obtain ⟨xs,hx⟩:=this tv;rw [hx] at hb;cases hb
   have rtr:r≠x.tr:=λz=>by rw [z,(pk.tr).choose_spec.1] at hrH;cases hrH
   have lst_up:∀b xs,H2 b=some (.lst xs)->G b=some (.lst xs):=λb xs e=>up (A1p e htr (by intro z;cases z)) e;have tup_up:∀b xs,H2 b=some (.tup xs)->G b=some (.tup xs):=λb xs e=>up (A1p e htr (by intro z;cases z)) e
   have nb:∀a c,(B8v x.wh ax td lds a c).natAbs<=10^32:=by
    intro a c;have h1:=st.num_rng a c;have h2:=st.who.2;have h3:((10:Int)^32)=((10^32:Nat):Int):=by decide
    rw [h3] at h2;generalize 10^32=B at h2
    lia
   have W:Wr G ab r x (ai (A1e ax)) (ax.map (·.1)) (B0k td lds) (B8v x.wh ax td lds):=⟨up abtr pk2.d,(i02 _ (up ldtr pk2.le) st.ln),(i02 ak (up shtr hak) (ar.imp λb xs m e=>⟨m,lst_up _ _ e⟩)),st.nd,st.axn,(i02 rk (up rtr hr2) λe he=>by obtain ⟨b,b1,b2⟩:=row e.1 e.2 he;exact (i02 b b1 (lst_up _ _ b2))),nb,st.who⟩;have mem:=Z13 he;have ein:(e.x,e.ys)∈B0k td lds:=Z02 _ (Z2c.mpr (i02 e mem rfl));have tm:=st.tm i e he;have axe:AxN (ax.map (·.1)) e.ys:=st.axn _ ein;obtain ⟨els,good,_⟩:=st.lt e mem;rw [els] at good;refine i15 _ rfl _ rfl _ rfl e.x ab r e.u v trk (i19 e.ys x (ai (A1e ax)) (ax.map (·.1)) (B0k td lds) (B8v x.wh ax td lds) rfl W (.inr ⟨o,sg _ _ A0b⟩) (A7r ndtr hkv) (tv.tl tup_up lst_up) ein ⟨by have:=tm.dp;lia,(i0i tm.gd tm.ax tm.fv good (λc hc=>⟨λrr hrr=> ?_,st.worth he hc⟩) λG1 s7=>(i02 _ rfl (A7j (i0g _ _ _ rfl (sg.trans s7)))))⟩);have wi:=A3z _ c hc;obtain ⟨zs,hz,w2,_⟩:=tm.rin (ai (A7z e.ys c)) (D1p axe.nd wi) rr hrr;refine i02 zs ?_ w2;rcases Z07.mp hz with z | z
   ·rcases Z07.mp z with z | z
    ·exact Z05 _ z
    ·obtain ⟨e',he',ee⟩:=Z2c.mp z;exact Z02 _ (Z2c.mpr (i02 e' (Z2p he') ee))
   ·rw [Z0w.mp z];exact ein
  rintro Z G ⟨o4'',o6'',o7'',rfl,sg⟩;refine i03 x.tr o (i0k _ (sg _ _ A0b) (λo' u' z=>by have z:H x.tr=some (.frz o' u'):=z;rw [(pk.tr).choose_spec.1] at z;cases z) _ rfl ?_);have s27:A0s H2 (upd G x.tr (.dK trk)):=s25.trans (A6j htr6 sg);exact k r rk _ hrH (sH2.trans s27) (s27 _ _ hr2) (rks.at.same s27)
def KMs (Ms:List Addr) (H H':Hp):Prop:=∀b o,b∉Ms->H b=some o->H' b=some o
theorem KMs.of (s:A0s H H'):KMs Ms H H':=λb o _ e=>s _ _ e
theorem KMs.trans (a:KMs Ms H H') (b:KMs Ms H' H2):KMs Ms H H2:=λc o hc e=>b c o hc (a c o hc e)
theorem KMs.at {m:Addr} (hm:m∈Ms):KMs Ms H (upd H m o):=λb u hb e=>by rw [A0i λz=>hb (by rw [z];exact hm)];exact e
theorem KMs.kj (k:KJ D H H') (hm:D∈Ms):KMs Ms H H':=λb u hb e=>k.kb b u (λz=>hb (by rw [z];exact hm)) e
theorem AxN.take (h:AxN nm ys) (n:Nat):AxN nm (ys.take n):=⟨h.nd.sublist (Z2o _ _),λy hy=>h.sub y (Z2p hy),by have:=h.few;rw [Z0x];lia⟩
theorem B9l {S:Addr->Prop} {H:Hp} {y:Str}:∀{ak:List (Key×V)} {es:List (Str×List Str)},AR S H ak es->y∉es.map (·.1)->A2r ak (Sum.inr y)=none
 | _,_,.nil,_=>rfl
 | _,_,@Paired.cons _ _ _ p q ps qs r t,h=>by
  rw [Z0p,Z0e] at h;rw [A1x (λz=>h (.inl (Sum.inr.inj (r.1.symm.trans z)).symm))];exact B9l t λz=>h (.inr z)
theorem C8q (L:Str->Int) (ys:List Str):prd L ys=A5i (ys.map L):=by
 unfold prd A5i;rw [List.foldl_map]
theorem C5k (hl:∀y∈nm,1<=L y/\L y<=60) (h:AxN nm ys) (hp:prd L ys<=4000):A8q (ys.map L):=by
 refine ⟨λn hn=> ?_,?_,?_⟩
 ·obtain ⟨y,hy,rfl⟩:=Z2c.mp hn;exact hl y (h.sub y hy)
 ·rw [Z08];have:=h.few;lia
 ·rw [<-C8q];exact hp
theorem C6l (hl:∀y∈nm,1<=L y/\L y<=60) (h:∀y∈ys,y∈nm):prd L (ys.take 1)<=60:=by
 cases ys with
 | nil=>show (1:Int)<=60;decide
 | cons y r =>
  show 1*L y<=60;have:=hl y (h y (.head _))
  lia
theorem B1j (lok:C4r lk L nm) (h:∀y∈ys,y∈nm):D4e lk L ys:=λy hy=>(i00 (lok.val (h y hy)) (by have:=lok.ok y (h y hy);lia) (by have:=lok.ok y (h y hy);lia))
theorem C7h (hl:∀y∈nm,1<=L y/\L y<=60) (h:∀y∈ys,y∈nm):((A0t (ys.map L)).length:Int)=prd L ys:=C7k λy hy=>(hl y (h y hy)).1
structure E2c (L:Str->Int) (nm:List Str) (e:TD):Prop where
 ax:AxN nm e.1.2
 ls:e.2.1=e.1.2.map L
 good:A8q e.2.1
 ln:e.2.2.length=(A0t e.2.1).length
structure TbS (Ms:List Addr) (G:Hp) (D ab tl nu:Addr) (x:Abt) (nm:List Str) (lk:List (Key×V)) (S:Addr->Prop) (td:List TD):Prop where
 dd:∃ms:List Int,G D=some (.lst (ms.map V.int))
 d:G ab=some (.dK (abK x))
 ax:G x.ax=some (.lst (nm.map V.str))
 le:G x.ld=some (.dK lk)
 ah:G x.ah=some (.lst ((td.map (·.1.1)).map V.str))
 sh:∃ak,G x.sh=some (.dK ak)/\AR S G ak (td.map (·.1))
 tl:∃tv,G tl=some (.lst tv)/\A3l (A1w S G) tv ((td.map (·.1)).map C4s)
 nu:∃nk,G nu=some (.dK nk)/\TkS S G nk (B5k td)
theorem A3l.len {H:Hp}:∀{vs:List V} {ds:List PyData},A3l H vs ds->vs.length=ds.length
 | _,_,.nil=>rfl
 | _,_,.cons _ t=>by rw [Z0y,Z0y,A3l.len t]
theorem A3l.app {H:Hp}:∀{a b:List V} {c d:List PyData},A3l H a c->A3l H b d->A3l H (a++b) (c++d)
 | _,_,_,_,.nil,h=>h
 | _,_,_,_,.cons r t,h=> .cons r (A3l.app t h)
theorem B6z {H:Hp}:∀ys:List Str,A3l H (ys.map V.str) (ys.map PyData.str)
 | []=> .nil
 | y::r=> .cons (.str y) (B6z r)
theorem A8e {q:Addr} (h:upd G a o q=none):q≠a/\G q=none:=by
 by_cases e:q=a
 ·rw [e,A0b] at h;cases h
 ·exact ⟨e,by rwa [A0i e] at h⟩
theorem E0z:(0:Int)<2*10^(59:Int).toNat:=by decide +kernel
def C5l:Sp:=λvs H Q _=>∃(D ab nl C:Addr) (more:Int) (ms cs:List Int) (x:Abt) (L:Str->Int) (nm tns:List Str) (lk:List (Key×V)),vs=[.ref D,.ref ab,.ref nl,.ref C,.int more]/\H D=some (.lst (ms.map V.int))/\H ab=some (.dK (abK x))/\H x.ax=some (.lst (nm.map V.str))/\0<nm.length/\H x.ld=some (.dK lk)/\C4r lk L nm/\H x.ah=some (.lst [])/\H x.sh=some (.dK [])/\H nl=some (.lst (tns.map V.str))/\tns.Nodup/\tns.length<=3/\H C=some (.lst (cs.map V.int))/\cs.length<=1000/\
 (∀b∈[ab,x.ax,x.ld,nl,C],b∉[D,x.ah,x.sh])/\D≠x.ah/\D≠x.sh/\x.ah≠x.sh/\
 ∀(q tl nu:Addr) (ak:List (Key×V)) (nk:List (Key×V)) (td:List TD) (ms':List Int) (H':Hp),KMs [D,x.ah,x.sh] H H'->H' D=some (.lst (ms'.map V.int))->H' q=some (.tup [.ref tl,.ref nu])->H tl=none->H nu=none->td.map (·.1.1)=tns->(∀e∈td,E2c L nm e)->H' x.ah=some (.lst (tns.map V.str))->H' x.sh=some (.dK ak)->AR (λb=>H b=none) H' ak (td.map (·.1))->Rep (A1w (λb=>H b=none) H') (.ref tl) (B3w (td.map (·.1)))->H' nu=some (.dK nk)->TkS (λb=>H b=none) H' nk (B5k td)->Q (.ref q) H'
theorem B8x (T:Txt K mg t):FO P w base T.iu 2 C5l:=by
 have Gd9:= @B7y P w K mg base t T;have Gc7:= @A6m P w K mg base t T;have Gd6:= @B1u P w K mg base t T;refine T.iu.F.ok A1y (λvs H Q E h=> ?_) λ_ A _ s H _ Q E hr h=> ?_
 ·refine e0h h ?_;clear h;rintro D ab nl C more ms cs x L nm tns lk ⟨rfl,_⟩;rfl
 ·refine e0h h ?_;clear h;rintro D ab nl C more ms cs x L nm tns lk ⟨rfl,hD,hab,hax,npos,hld,lok,hah,hsh,hnl,ndt,l3,hC,lC,out,Dah,Dsh,ahsh,k⟩;have hu:=A4z hr;have hl:∀y∈nm,1<=L y/\L y<=60:=λy hy=>⟨(lok.ok y hy).1,(lok.ok y hy).2.1⟩
  refine ⟨_,(A0c (A0l (i:=5) A1y.nd (A4m A0d))
   (A0c (A0l (i:=6) A1y.nd A2y)
   (A0c (A2g (A2m (pv 2)) (A0m (i:=7) A1y.nd)
    (A0c (A0l (i:=8) A1y.nd (pcl Gc7 hr T.au (A0a (pv 0) A0d)))
    (A0c (A0l (i:=9) A1y.nd (pcl Gd9 hr T.jb (A0a (pv 8) (A0a (A0p hu (pv 1) A0u) A0d))))
    (A3s (A1o (A0w C0n (pcl Gd6 hr T.cj (A0a (pv 9) (A0a (A0p hu (pv 1) A0u) A0d))) A0g (A1f _))
     (A0e (A0l (i:=9) A1y.nd (A2q A3r (pv 9) A3y (A2x A0g))))
     A0r)
    (A0c (A3t (B0u Z0k Z0n Z0o A3o (pv 5) (A0a (A2j (A0a (pv 7) (A0a (A2a A4x (by rfl) T.cv Z1o (A0a (pv 9) A0d)) A0d))) A0d)))
    (A0c (A3a hu (A0p hu (pv 1) A0u) (pv 7) (pv 9) rfl)
    (A0c (A3t (B0u Z0k Z0n Z0o A3o (A0p hu (pv 1) A0u) (A0a (pv 7) A0d)))
    (A0c (A0l (i:=10) A1y.nd (A0n B8c (A4m (A0a (pv 8) (A0a (pv 4) A0d))) (pv 3)))
    (A0c (A0l (i:=11) A1y.nd (A4m A0d))
    (A0c (A2g (A3p rfl T.bh (A0a (pcl Gd6 hr T.cj (A0a (pv 9) (A0a (A0p hu (pv 1) A0u) A0d))) A0d)) (A0m (i:=12) A1y.nd)
     (A0c (A0l (i:=13) A1y.nd (A0n A7k (A1h A3b (pv 10) (A0n A1i (pv 12) (A0y A1c (by rfl) T.bd Z0r (A0a (pv 10) A0d)))) (A0n A2k (pv 12) A0g)))
     (A0c (A0l (i:=13) A1y.nd (A0n A2k (pv 13) (A0n A7k (A0n A7k (pv 12) (pv 12)) (pv 8))))
     (A0e (A3t (B0u Z0k Z0n Z0o A3o (pv 11) (A0a (A0n A5c (A0n A1i (pv 13) (A0n A7k A0g (A0n A7h A0g A0g))) (A0n A7h A0g A0g)) A0d)))))))
    (A0e (A3a hu (pv 6) (pv 7) (pv 11) rfl))))))))))))
   (A0e (A0o (A2j (A0a (pv 5) (A0a (pv 6) A0d)))))))),?_⟩
  refine ⟨A1j rfl,λtl htl nu hnu=> ?_⟩;have t1:A0s H (upd H tl (.lst [])):=A0f htl;have t2:A0s H (upd (upd H tl (.lst [])) nu (.dK [])):=t1.trans (A0f hnu);have htl2:upd (upd H tl (.lst [])) nu (.dK []) tl=some (.lst []):=(A0f hnu) _ _ A0b;have hnu2:upd (upd H tl (.lst [])) nu (.dK []) nu=some (.dK []):=A0b;have hnuH:H nu=none:=t1.free hnu;have tlnu:tl≠nu:=A0h A0b hnu;generalize upd (upd H tl (.lst [])) nu (.dK [])=H2 at t2 htl2 hnu2;have inH:∀{b:Addr} {u:HO},H b=some u->b≠tl/\b≠nu:=λe=>⟨A0h e htl,A0h e hnuH⟩
  have outM:∀b∈[ab,x.ax,x.ld,nl,C],b∉[D,x.ah,x.sh,tl,nu]:=λb hb m=>by
   have h1:∃u,H b=some u:=by
    simp only [Z0e,Z1i,or_false] at hb;rcases hb with rfl | rfl | rfl | rfl | rfl <;> exact ⟨_,by assumption⟩
   obtain ⟨u,hu1⟩:=h1;have h2:=out b hb;simp only [Z0e,Z1i,or_false] at m h2;rcases m with m | m | m | m | m
   ·exact h2 (.inl m)
   ·exact h2 (.inr (.inl m))
   ·exact h2 (.inr (.inr m))
   ·exact (inH hu1).1 m
   ·exact (inH hu1).2 m
  refine i0l _ rfl nl rfl ⟨_,SqL.of (t2 _ _ hnl)⟩ ?_
  refine A3k (K:=K) (a:=nl) (xs:=tns.map V.str) (λi Z G=>∃(o7 o8 o9 o10 o11 o12 o13:Option V) (td:List TD),Z=[Sro D,Sro ab,Sro nl,Sro C,Sio more,Sro tl,Sro nu,o7,o8,o9,o10,o11,o12,o13]/\KMs [D,x.ah,x.sh,tl,nu] H2 G/\TbS [D,x.ah,x.sh,tl,nu] G D ab tl nu x nm lk (λb=>H b=none/\b∉[D,x.ah,x.sh,tl,nu]) td/\td.map (·.1.1)=tns.take i/\∀e∈td,E2c L nm e)
   (i0h none none none none (i0x none none none [] rfl (KMs.of (A0s.refl _)) ⟨⟨ms,t2 _ _ hD⟩,t2 _ _ hab,t2 _ _ hax,t2 _ _ hld,t2 _ _ hah,(i02 [] (t2 _ _ hsh) .nil),(i02 [] htl2 .nil),(i02 [] hnu2 .nil)⟩ rfl (by intro e he;cases he))) (by (rintro i Z G _ zz;refine e07 zz ?_;clear zz;rintro _ _ _ _ _ ⟨_,_,_,_,km,_⟩);exact SqL.of (km _ _ (outM nl (by simp)) (t2 _ _ hnl))) ?_ ?_
  ·rintro i y0 Z G hy0 zz;refine e07 zz ?_;clear zz;rintro o7 o8 o9 o10 o11 ⟨o12,o13,td,rfl,km,tb,enm,tok⟩;obtain ⟨y,hy,rfl⟩:=A2b hy0;obtain ⟨⟨ms1,hD1⟩,hab1,hax1,hld1,hah1,⟨ak,hsh1,ar⟩,⟨tv,htl1,rtv⟩,⟨nk,hnu1,tks⟩⟩:=tb
   have htd:td.length<=3:=by
    have:=congrArg List.length enm;rw [Z08,Z0x] at this
    lia
   have yn:y∉td.map (·.1.1):=by
    rw [enm];intro m;obtain ⟨j,hj⟩:=List.getElem?_of_mem m
    have hlt:j<i:=by
     have:=(Z03.mp hj).1;rw [Z0x] at this
     lia
    rw [List.getElem?_take_of_lt hlt] at hj;have:=(List.getElem?_inj (Z03.mp hj).1 ndt).mp (hj.trans hy.symm)
    lia
   refine i0o _ rfl D ms1 rfl hD1 λc ms2 G1 lG hD2 o1 e1=> ?_;have kj:=A5b hD1 o1 e1;have k1:KMs [D,x.ah,x.sh,tl,nu] G G1:=KMs.kj kj (by simp);have nM:∀{b:Addr} {u:HO},b∉[D,x.ah,x.sh,tl,nu]->G b=some u->G1 b=some u:=λn e=>k1 _ _ n e;have hab2:=nM (outM ab (by simp)) hab1;have hax2:=nM (outM x.ax (by simp)) hax1;have hld2:=nM (outM x.ld (by simp)) hld1;have hC1:G C=some (.lst (cs.map V.int)):=km _ _ (outM C (by simp)) (t2 _ _ hC);have hC2:=nM (outM C (by simp)) hC1;have hah2:=kj.kb _ _ Dah.symm hah1;have hsh2:=kj.kb _ _ Dsh.symm hsh1;have htl2':=kj.kb _ _ (λz=>(inH hD).1 z.symm) htl1;have hnu2':=kj.kb _ _ (λz=>(inH hD).2 z.symm) hnu1
   have fr0:∀{b:Addr},G1 b=none->H b=none/\b∉[D,x.ah,x.sh,tl,nu]:=λ{b} e=>by
    have nm':b∉[D,x.ah,x.sh,tl,nu]:=λm=>by
     simp only [Z0e,Z1i,or_false] at m;rcases m with rfl | rfl | rfl | rfl | rfl
     ·rw [hD2] at e;cases e
     ·rw [hah2] at e;cases e
     ·rw [hsh2] at e;cases e
     ·rw [htl2'] at e;cases e
     ·rw [hnu2'] at e;cases e
    refine ⟨?_,nm'⟩
    cases hb:H b with
    | none=>rfl
    | some u=>rw [k1 _ _ nm' (km _ _ nm' (t2 _ _ hb))] at e;cases e
   refine i0v _ rfl _ rfl ab _ rfl (.inl (i0f _ (Sum.inr _) (.inl hab2) rfl ((C0j x).symm))) (i0w c x.ax nm rfl hax2 lok.few npos lok.nd λys p G2 hp s2 hp2 axn=> ?_);have hld3:=s2 _ _ hld2;refine i02 (λZ G3=>∃(b:Addr) (zs:List Str),Z=[Sro D,Sro ab,Sro nl,Sro C,Sio more,Sro tl,Sro nu,Sso y,Sio c,Sro b,o10,o11,o12,o13]/\A0s G1 G3/\G1 b=none/\G3 b=some (.lst (zs.map V.str))/\AxN nm zs/\prd L zs<=100) ?_ ?_
   ·refine i0v _ rfl _ rfl ab _ rfl (.inl (i0f _ (Sum.inr _) (.inl (s2 _ _ hab2)) rfl ((A2t x).symm))) (i12 p x.ld ys lk L rfl hp2 hld3 (B1j lok axn.sub) (by have:=axn.few;lia) λG3 s3=> ?_);refine ⟨_,(i0k _ rfl rfl _ rfl (A2n (λh1=> ?_) (λh1=>(i0r p ys rfl (s2.trans s3) hp (s3 _ _ hp2) axn (by have h1:¬prd L ys>100:=h1;lia)))))⟩;refine i0v _ rfl _ rfl p _ rfl (SqL.of (s3 _ _ hp2)) λb hb=> ?_;have e1:B4b (ys.map V.str) none (some 1)=(ys.take 1).map V.str:=B0c (i:=1);refine i0r b (ys.take 1) rfl (s2.trans (s3.trans (A0f hb))) ((s2.trans s3).free hb) (by rw [A0b];exact congrArg (λz=>some (HO.lst z)) e1) (axn.take 1) (by have:=C6l hl axn.sub;lia)
   rintro Z G3 zz;refine e06 zz ?_;clear zz;rintro b zs rfl s3 hb1 ⟨hb3,axz,pz⟩;obtain ⟨bH,bM⟩:=fr0 hb1;refine i06 _ rfl (.inl (i01 rfl _ (SqL.of (s3 _ _ htl2')))) (i0v _ rfl _ rfl b _ rfl (.inl (SqL.of hb3)) λcb hcb=>⟨A1j rfl,λqt hqt=> ?_⟩);have s4:A0s G3 (upd G3 cb (.lst (zs.map V.str))):=A0f hcb;have s5:A0s (upd G3 cb (.lst (zs.map V.str))) (upd (upd G3 cb (.lst (zs.map V.str))) qt (.tup [.str y,.ref cb])):=A0f hqt;have hcb5:upd (upd G3 cb (.lst (zs.map V.str))) qt (.tup [.str y,.ref cb]) cb=some (.lst (zs.map V.str)):=s5 _ _ A0b;have hqt5:upd (upd G3 cb (.lst (zs.map V.str))) qt (.tup [.str y,.ref cb]) qt=some (.tup [.str y,.ref cb]):=A0b;obtain ⟨cH,cM⟩:=fr0 (s3.free hcb);obtain ⟨qH,qM⟩:=fr0 (s3.free (s4.free hqt));have s15:=s3.trans (s4.trans s5);have hb5:=(s4.trans s5) _ _ hb3;generalize upd (upd G3 cb (.lst (zs.map V.str))) qt (.tup [.str y,.ref cb])=G5 at s15 hcb5 hqt5 hb5;clear s4 s5;have ltv:=A3l.len rtv;rw [Z08,Z08] at ltv;refine i0s tl _ _ rfl rfl (s15 _ _ htl2') (A1d (by lia)) ?_;have Dtl:D≠tl:=(inH hD).1;have Dnu:D≠nu:=(inH hD).2;have ahtl:x.ah≠tl:=(inH hah).1;have ahnu:x.ah≠nu:=(inH hah).2;have shtl:x.sh≠tl:=(inH hsh).1;have shnu:x.sh≠nu:=(inH hsh).2;have m6:KMs [D,x.ah,x.sh,tl,nu] G5 (upd G5 tl (.lst (tv++[.ref qt]))):=KMs.at (by simp);have hD6:upd G5 tl (.lst (tv++[.ref qt])) D=some (.lst (ms2.map V.int)):=by rw [A0i Dtl];exact s15 _ _ hD2
   have hah6:upd G5 tl (.lst (tv++[.ref qt])) x.ah=some (.lst ((td.map (·.1.1)).map V.str)):=by rw [A0i ahtl];exact s15 _ _ hah2
   have hsh6:upd G5 tl (.lst (tv++[.ref qt])) x.sh=some (.dK ak):=by rw [A0i shtl];exact s15 _ _ hsh2
   have hnu6:upd G5 tl (.lst (tv++[.ref qt])) nu=some (.dK nk):=by rw [A0i tlnu.symm];exact s15 _ _ hnu2'
   have htl6:upd G5 tl (.lst (tv++[.ref qt])) tl=some (.lst (tv++[.ref qt])):=A0b;have f6:∀{b:Addr},upd G5 tl (.lst (tv++[.ref qt])) b=none->G1 b=none:=λe=>s15.free (A8e e).2;generalize upd G5 tl (.lst (tv++[.ref qt]))=G6 at m6 hD6 hah6 hsh6 hnu6 htl6 f6;have k56:KMs [D,x.ah,x.sh,tl,nu] G1 G6:=(KMs.of s15).trans m6;have lak:=Paired.length ar;rw [Z08] at lak;refine i0v _ rfl _ rfl ab _ rfl (.inl (i0f _ (Sum.inr _) (.inl (k56 _ _ (outM ab (by simp)) hab2)) rfl ((A4g x).symm))) (i0o _ rfl x.sh _ rfl (B0z.k (k:=Sum.inr y) hsh6 (A1d (by lia))) ?_);have eput:A4l ak (Sum.inr y) (.ref b)=ak++[(Sum.inr y,.ref b)]:=A5f _ (B9l ar (by rw [List.map_map];exact yn));rw [eput];have m7:KMs [D,x.ah,x.sh,tl,nu] G6 (upd G6 x.sh (.dK (ak++[(Sum.inr y,.ref b)]))):=KMs.at (by simp);have hD7:upd G6 x.sh (.dK (ak++[(Sum.inr y,.ref b)])) D=some (.lst (ms2.map V.int)):=by rw [A0i Dsh];exact hD6
   have hah7:upd G6 x.sh (.dK (ak++[(Sum.inr y,.ref b)])) x.ah=some (.lst ((td.map (·.1.1)).map V.str)):=by rw [A0i ahsh];exact hah6
   have hnu7:upd G6 x.sh (.dK (ak++[(Sum.inr y,.ref b)])) nu=some (.dK nk):=by rw [A0i shnu.symm];exact hnu6
   have htl7:upd G6 x.sh (.dK (ak++[(Sum.inr y,.ref b)])) tl=some (.lst (tv++[.ref qt])):=by rw [A0i shtl.symm];exact htl6
   have hsh7:upd G6 x.sh (.dK (ak++[(Sum.inr y,.ref b)])) x.sh=some (.dK (ak++[(Sum.inr y,.ref b)])):=A0b;have f7:∀{b':Addr},upd G6 x.sh (.dK (ak++[(Sum.inr y,.ref b)])) b'=none->G1 b'=none:=λe=>f6 (A8e e).2;generalize upd G6 x.sh (.dK (ak++[(Sum.inr y,.ref b)]))=G7 at m7 hD7 hah7 hsh7 hnu7 htl7 f7;have k57:=k56.trans m7;refine i0y _ rfl ab _ rfl (.inl (i0f _ (Sum.inr _) (.inl (k57 _ _ (outM ab (by simp)) hab2)) rfl ((B5o x).symm))) (.inl (i01 rfl _ (SqL.of hah7))) _ rfl (i0s x.ah _ _ rfl rfl hah7 (A1d (by rw [Z08,Z08];lia)) ?_);have m8:KMs [D,x.ah,x.sh,tl,nu] G7 (upd G7 x.ah (.lst ((td.map (·.1.1)).map V.str++[.str y]))):=KMs.at (by simp);have hD8:upd G7 x.ah (.lst ((td.map (·.1.1)).map V.str++[.str y])) D=some (.lst (ms2.map V.int)):=by rw [A0i Dah];exact hD7
   have hsh8:upd G7 x.ah (.lst ((td.map (·.1.1)).map V.str++[.str y])) x.sh=some (.dK (ak++[(Sum.inr y,.ref b)])):=by rw [A0i ahsh.symm];exact hsh7
   have hnu8:upd G7 x.ah (.lst ((td.map (·.1.1)).map V.str++[.str y])) nu=some (.dK nk):=by rw [A0i ahnu.symm];exact hnu7
   have htl8:upd G7 x.ah (.lst ((td.map (·.1.1)).map V.str++[.str y])) tl=some (.lst (tv++[.ref qt])):=by rw [A0i ahtl.symm];exact htl7
   have hah8:upd G7 x.ah (.lst ((td.map (·.1.1)).map V.str++[.str y])) x.ah=some (.lst ((td.map (·.1.1)).map V.str++[.str y])):=A0b;have f8:∀{b':Addr},upd G7 x.ah (.lst ((td.map (·.1.1)).map V.str++[.str y])) b'=none->G1 b'=none:=λe=>f7 (A8e e).2;generalize upd G7 x.ah (.lst ((td.map (·.1.1)).map V.str++[.str y]))=G8 at m8 hD8 hah8 hsh8 hnu8 htl8 f8;have k58:=k57.trans m8;have k5to8:KMs [D,x.ah,x.sh,tl,nu] G5 G8:=m6.trans (m7.trans m8);refine i0l _ rfl _ rfl (A1j rfl) λl2 hl2=>(i02 _ rfl ?_);have t3:A0s G8 (upd G8 l2 (.lst [.int c,.int more])):=A0f hl2;refine i0z l2 C _ _ rfl rfl A0b (t3 _ _ (k58 _ _ (outM C (by simp)) hC2)) (A4d (by rw [Z08];show 2+cs.length<=1000000;lia)) λsm hsm=>⟨A1j rfl,λro hro=> ?_⟩;have t4:A0s (upd G8 l2 (.lst [.int c,.int more])) (upd (upd G8 l2 (.lst [.int c,.int more])) sm (.lst ([.int c,.int more]++cs.map V.int))):=A0f hsm;have hsm4:upd (upd G8 l2 (.lst [.int c,.int more])) sm (.lst ([.int c,.int more]++cs.map V.int)) sm=some (.lst ((c::more::cs).map V.int)):=A0b;have s89:=t3.trans t4;generalize upd (upd G8 l2 (.lst [.int c,.int more])) sm (.lst ([.int c,.int more]++cs.map V.int))=G9 at s89 hsm4 hro;clear t3 t4;obtain ⟨G10,s9,hro9,eNH⟩:=nH (o:= .lst []) hro;have rosm:sm≠ro:=A0h hsm4 hro
   try rw [eNH]
   have s810:=s89.trans s9;have k110:KMs [D,x.ah,x.sh,tl,nu] G1 G10:=k58.trans (KMs.of s810);obtain ⟨roH,roM⟩:=fr0 (f8 (s89.free hro));have hb10:G10 b=some (.lst (zs.map V.str)):=s810 _ _ (k5to8 _ _ bM hb5);refine i0v _ rfl _ rfl ab _ rfl (.inl (i0f _ (Sum.inr _) (.inl (k110 _ _ (outM ab (by simp)) hab2)) rfl ((A2t x).symm))) (i12 b x.ld zs lk L rfl hb10 (k110 _ _ (outM x.ld (by simp)) hld2) (B1j lok axz.sub) (by have:=axz.few;lia) λG11 s11=> ?_);have clen:=C7h hl axz.sub;have pz0:0<=prd L zs:=by lia
   refine i0c (prd L zs) rfl (by lia) (by lia) ?_
   refine A6n (n:=(prd L zs).toNat) (λj Z G=>∃(o12 o13:Option V) (ns:List Int),Z=[Sro D,Sro ab,Sro nl,Sro C,Sio more,Sro tl,Sro nu,Sso y,Sio c,Sro b,Sro sm,Sro ro,o12,o13]/\A0s G9 G/\G ro=some (.lst (ns.map V.int))/\ns.length=j)
    (i0q _ _ [] rfl (s9.trans s11) (s11 _ _ hro9) rfl) ?_ ?_
   ·rintro j Z G' hj zz;refine e08 zz ?_;clear zz;rintro o12 o13 ns rfl sg hrg lns;rw [Int.zero_add];have hsmg:=sg _ _ hsm4;obtain ⟨z,_,ez⟩:=A8x (f:=V.int) (xs:=c::more::cs) (i:=(j:Int)%((c::more::cs).length:Int)) (Z1v _ (by simp only [Z0y];lia)) (Z1p _ (by simp only [Z0y];lia));refine i10 _ rfl _ rfl _ rfl sm _ rfl (.inl (SqL.of hsmg)) (i0m _ _ rfl rfl (by show (0:Int)<(((c::more::cs).map V.int).length:Int);rw [Z08];simp only [Z0y];lia) (i0x sm _ _ _ rfl rfl (SqL.of hsmg) (by rw [Z08];exact ez) (i0o _ rfl _ _ rfl rfl (i0m _ _ rfl rfl (.inr ⟨by lia,by lia⟩) ?_))));have jj:(j:Int)*(j:Int)<=100*100:=Int.mul_le_mul (by lia) (by lia) (by lia) (by lia);have jj0:0<=(j:Int)*(j:Int):=Int.mul_nonneg (by lia) (by lia);refine i10 _ rfl _ rfl _ rfl _ _ rfl rfl ⟨.inl ⟨by lia,by lia⟩,(i0o _ rfl _ _ rfl rfl (i0j (.inl ⟨by lia,by lia⟩) _ _ rfl rfl ?_))⟩;refine i06 _ rfl (.inl (i01 rfl _ (SqL.of hrg))) (i16 _ rfl _ _ rfl rfl (i00 (by decide) (by decide) (by decide)) _ _ rfl rfl (.inl ⟨by decide,by decide⟩) (i0f _ _ rfl rfl (i0j E0z _ _ rfl rfl (i0j (i00 (by decide) (by decide) (by decide)) _ _ rfl rfl (i0s ro _ _ rfl rfl hrg (A1d (by rw [Z08];lia)) ?_)))));refine i0q _ _ (ns++[(z*((j:Int)+1)+(j:Int)*(j:Int)*c)%(2*10^(59:Int).toNat)-10^(59:Int).toNat]) rfl (A0q sg hro) ?_ (by rw [Z06,lns];rfl);rw [A0b,Z0s];rfl
   rintro Z G' zz;refine e08 zz ?_;clear zz;rintro o12' o13' ns rfl sg hrg lns;have s8g:=s89.trans sg;have lnk:=Paired.length tks;have ltt:(B5k td).length=td.length:=by unfold B5k;rw [Z08]
   refine i10 _ rfl _ rfl _ rfl nu _ rfl (B0z.k (k:=Sum.inr y) (s8g _ _ hnu8) (A1d (by lia))) ?_;have tsn:y∉(B5k td).map (·.1):=by rw [C5m,List.map_map];exact yn
   rw [B1g (C7o tks tsn)];have m12:KMs [D,x.ah,x.sh,tl,nu] G' (upd G' nu (.dK (nk++[(Sum.inr y,.ref ro)]))):=KMs.at (by simp);have up:∀{b':Addr} {u:HO},b'≠nu->G8 b'=some u->upd G' nu (.dK (nk++[(Sum.inr y,.ref ro)])) b'=some u:=λn e=>by rw [A0i n];exact s8g _ _ e
   have k8e:KMs [D,x.ah,x.sh,tl,nu] G8 (upd G' nu (.dK (nk++[(Sum.inr y,.ref ro)]))):=(KMs.of s8g).trans m12;have k1e:=k58.trans k8e;have k0e:=k1.trans k1e;have rone:ro≠nu:=λz=>roM (by rw [z];simp);have e1:(td++[((y,zs),zs.map L,ns)]).map (·.1.1)=td.map (·.1.1)++[y]:=by rw [Z0s];rfl
   have e2:(td++[((y,zs),zs.map L,ns)]).map (·.1)=td.map (·.1)++[(y,zs)]:=by rw [Z0s];rfl
   have e3:B5k (td++[((y,zs),zs.map L,ns)])=B5k td++[(y,ns)]:=by unfold B5k;rw [Z0s];rfl
   have tol:∀{b':Addr} {u:HO},H b'=none/\b'∉[D,x.ah,x.sh,tl,nu]->G b'=some u->upd G' nu (.dK (nk++[(Sum.inr y,.ref ro)])) b'=some u:=λm e=>k0e _ _ m.2 e;refine i0h _ _ _ _ (i0x _ _ _ (td++[((y,zs),zs.map L,ns)]) rfl (km.trans k0e) ⟨⟨ms2,up Dnu hD8⟩,k1e _ _ (outM ab (by simp)) hab2,k1e _ _ (outM x.ax (by simp)) hax2,k1e _ _ (outM x.ld (by simp)) hld2,?_,(i02 _ (up shnu hsh8) ?_),(i02 _ (up tlnu htl8) ?_),(i02 _ A0b ?_)⟩ ?_ λe he=> ?_)
   ·rw [e1,Z0s];exact up ahnu hah8
   ·rw [e2];exact B3s (ar.imp λb' xs m e=>⟨m,tol m e⟩) (.cons (i0a rfl b rfl ⟨bH,bM⟩ (k8e _ _ bM (k5to8 _ _ bM hb5))) .nil)
   ·rw [e2,Z0s];refine A3l.app (rtv.same λb' u e=>A1a (A0z e).1 (tol (A0z e).1 (A0z e).2)) (.cons (.tup (A1a ⟨qH,qM⟩ (k8e _ _ qM (k5to8 _ _ qM hqt5))) (.cons (.str _) (.cons (.lst (A1a ⟨cH,cM⟩ (k8e _ _ cM (k5to8 _ _ cM hcb5))) (B6z zs)) .nil))) .nil)
   ·rw [e3];exact B3s (tks.imp λb' xs m e=>⟨m,tol m e⟩) (.cons (i0a rfl ro rfl ⟨roH,roM⟩ (by rw [A0i rone];exact hrg)) .nil)
   ·rw [e1,enm,Z14,hy];rfl
   ·rcases Z07.mp he with z | z
    ·exact tok e z
    ·rw [Z0w.mp z];refine ⟨axz,rfl,C5k hl axz (by lia),?_⟩;show ns.length=(A0t (zs.map L)).length
     lia
  ·rintro Z G zz;refine e07 zz ?_;clear zz;rintro o7 o8 o9 o10 o11 ⟨o12,o13,td,rfl,km,tb,enm,tok⟩;rw [Z08,Z18] at enm;obtain ⟨⟨ms1,hD1⟩,hab1,hax1,hld1,hah1,⟨ak,hsh1,ar⟩,⟨tv,htl1,rtv⟩,⟨nk,hnu1,tks⟩⟩:=tb;refine i0l _ rfl _ rfl (A1j rfl) λq hq=> ?_;have sq:A0s G (upd G q (.tup [.ref tl,.ref nu])):=A0f hq;rw [enm] at hah1;refine k q tl nu ak nk td ms1 _ (λb u n e=>sq _ _ (km _ _ (λm=> ?_) (t2 _ _ e))) (sq _ _ hD1) A0b htl hnuH enm tok (sq _ _ hah1) (sq _ _ hsh1) (ar.imp λb xs m e=>⟨m.1,sq _ _ e⟩) ?_ (sq _ _ hnu1) (tks.imp λb xs m e=>⟨m.1,sq _ _ e⟩)
   ·have:=inH e;simp only [Z0e,Z1i,or_false] at m n;rcases m with m | m | m | m | m
    ·exact n (.inl m)
    ·exact n (.inr (.inl m))
    ·exact n (.inr (.inr m))
    ·exact this.1 m
    ·exact this.2 m
   ·exact .lst (A1a htl (sq _ _ htl1)) (rtv.same (A3e sq λa o _ h=>h.1))
theorem D5y {k:Key} {v':V} (h:∀p∈r,¬p.1=k):A4l ((k,v)::r) k v'=(k,v')::r:=by
 unfold A4l;rw [Z12 (by simp)];rw [Z0p,Z12 rfl];congr 1;exact (List.map_congr_left λp hp=>Z0t (h p hp)).trans (List.map_id' _)
theorem D0g {a b:Str} {v':V} (h:decide (a=b)=false) (hs:(A2r r (Sum.inr b)).isSome=true):A4l (((Sum.inr a:Key),v)::r) (Sum.inr b) v'=((Sum.inr a:Key),v)::A4l r (Sum.inr b) v':=by
 have ne:¬(Sum.inr a:Key)=Sum.inr b:=λz=>by injection z with z;rw [Z20 z] at h;cases h
 unfold A4l;rw [Z12 (by rw [List.any_cons,A4e,hs,Bool.or_true]),Z12 (by rw [A4e,hs]),Z0p,Z0t ne]
theorem D8d {b:Str} (h:A2r r (Sum.inr b)=none):∀p∈r,¬p.1=(Sum.inr b:Key):=λp hp e=>C1b h (by rw [<-e];exact List.mem_map_of_mem hp)
local macro_rules | `(tactic| walk_at "ab") => `(tactic| first | rfl | exact A2c rfl | (refine (E1o (by decide +kernel)).trans ?_; walk_at "ab"))
local macro_rules | `(tactic| walk_at "pu") => `(tactic| first | exact D5y (D8d (by walk_at "ab")) | (refine (D0g (by decide +kernel) (Option.isSome_iff_exists.mpr ⟨_, by walk_at "ab"⟩)).trans (congrArg (List.cons _) ?_); walk_at "pu"))
theorem C4c (x:Abt) (y:Str):A4l (abK x) (Sum.inr "own") (.str y)=abK { x with own:=y }:=by unfold abK;walk_at "pu"
theorem A8t {α:Type} (f:α->V) (nm:List α) (lo hi:Option Int):∃zs:List α,B4b (nm.map f) lo hi=zs.map f/\zs.length<=nm.length/\∀x∈zs,x∈nm:=by
 refine i06 ((nm.drop (HT.sIx nm.length 0 lo)).take (HT.sIx nm.length nm.length hi-HT.sIx nm.length 0 lo)) ?_ ?_ λx hx=> ?_
 ·unfold B4b;rw [Z08,<-List.map_drop,<-List.map_take]
 ·rw [Z0x,Z19];lia
 ·exact List.mem_of_mem_drop (Z2p hx)
theorem C2b:∀{zs:List V},(∀z∈zs,∃i,z=V.int i)->∃ms:List Int,zs=ms.map V.int
 | [],_=>⟨[],rfl⟩
 | z::r,h=>by
  obtain ⟨i,rfl⟩:=h z (.head _);obtain ⟨ms,rfl⟩:=C2b (zs:=r) λy hy=>h y (.tail _ hy);exact ⟨i::ms,rfl⟩
def esL (lds:List LD):List (Str×List Str):=lds.map λe=>(e.x,e.ys)
theorem C0w (lds:List LD) (e:LD):esL (lds++[e])=esL lds++[(e.x,e.ys)]:=by unfold esL;rw [Z0s];rfl
theorem A9k (lds:List LD):(esL lds).map (·.1)=lds.map (·.x):=by unfold esL;rw [List.map_map];rfl
structure E2e (ax:List (Str×Int)) (e:LD):Prop where
 axn:AxN (ax.map (·.1)) e.ys
 ls:e.ls=e.ys.map (ai (A1e ax))
 good:A8q e.ls
 rd:∀f,(rd (ai (A1e ax)) e.u f).length<=100000
def D9l (ax:List (Str×Int)) (es0:List (Str×List Str)) (lds:List LD):Prop:=∀(i:Nat) (e:LD),lds[i]? =some e->A7q (ai (A1e ax)) (ax.map (·.1)) (es0++esL (lds.take i)++[(e.x,e.ys)]) e.x e.ys e.ys 13 e.u
structure LtS (A:Adr) (Ms:List Addr) (G:Hp) (ab ll:Addr) (x:Abt) (ax:List (Str×Int)) (es0:List (Str×List Str)) (lds:List LD):Prop where
 d:∃ow,G ab=some (.dK (abK { x with own:=ow }))
 ah:G x.ah=some (.lst (((es0++esL lds).map (·.1)).map V.str))
 sh:∃ak,G x.sh=some (.dK ak)/\AR (λb=>b∉Ms) G ak (es0++esL lds)
 tr:∃trk,G x.tr=some (.dK trk)/\D0j (A1w (λb=>b∉Ms) G) trk lds
 ll:∃lv,G ll=some (.lst lv)/\Paired (B7m A ax (A1w (λb=>b∉Ms) G)) lv lds
def D0v (A:Adr):Sp:=λvs H Q _=>∃(ab nl C:Addr) (more:Int) (cs:List Int) (x:Abt) (ax:List (Str×Int)) (lns:List Str) (es0:List (Str×List Str)) (ak:List (Key×V)),vs=[.ref ab,.ref nl,.ref C,.int more]/\H ab=some (.dK (abK x))/\H x.ax=some (.lst ((ax.map (·.1)).map V.str))/\0<ax.length/\H x.ld=some (.dK (A1e ax))/\C4r (A1e ax) (ai (A1e ax)) (ax.map (·.1))/\(∀y∈ax.map (·.1),B4l y)/\H x.ah=some (.lst ((es0.map (·.1)).map V.str))/\H x.sh=some (.dK ak)/\AR (λb=>b∉[ab,x.ah,x.sh,x.tr]) H ak es0/\(∀e∈es0,AxN (ax.map (·.1)) e.2/\B4l e.1)/\es0.length<=3/\H x.tr=some (.dK [])/\H nl=some (.lst (lns.map V.str))/\(es0.map (·.1)++lns).Nodup/\lns.length<=4/\(∀y∈lns,B4l y)/\H C=some (.lst (cs.map V.int))/\cs.length<=1000/\
 (∀b∈[x.ax,x.ld,nl,C],b∉[ab,x.ah,x.sh,x.tr])/\[ab,x.ah,x.sh,x.tr].Nodup/\
 ∀(ll:Addr) (ow:Str) (lv:List V) (ak' trk:List (Key×V)) (lds:List LD) (H':Hp),KMs [ab,x.ah,x.sh,x.tr] H H'->H ll=none->H' ll=some (.lst lv)->Paired (B7m A ax H') lv lds->lds.map (·.x)=lns->H' ab=some (.dK (abK { x with own:=ow }))->H' x.sh=some (.dK ak')->AR (λ_=>True) H' ak' (es0++esL lds)->H' x.tr=some (.dK trk)->D0j H' trk lds->D9l ax es0 lds->(∀e∈lds,E2e ax e)->Q (.ref ll) H'
theorem A4v:A0s (A1w S H) H:=λb o e=>(A0z e).2
theorem B7s {m:Addr} {u:HO} (h:Nw G b) (e:G m=some u) (n:∀i xs,u≠.lst (V.int i::xs)):b≠m:=λz=>by
 subst z;obtain ⟨i,xs,e2⟩:=h _ e;exact n i xs e2
theorem D6p.snoc (h:D6p L nm es) (hy:y∉es.map (·.1)) (hs:B4l y) (hx:AxN nm ys) (hl:es.length<20):D6p L nm (es++[(y,ys)]):=by
 have sp:∀{Pp:Str×List Str->Prop},(∀e∈es,Pp e)->Pp (y,ys)->∀e∈es++[(y,ys)],Pp e:=λh1 h2 e he=>(Z07.mp he).elim (h1 e) λz=>by rw [Z0w.mp z];exact h2
 refine ⟨?_,sp h.ax hx,by rw [Z06];simp;lia,sp h.str hs⟩;rw [Z0s,Z0l];refine i00 h.nd (by simp) λa ha b hb e=> ?_;have hb:b=y:=Z0w.mp hb;exact hy (by rw [<-hb,<-e];exact ha)
theorem C9j {ak:List (Key×V)} {k:Key} {v':V} (h:A2r ak k=none):A4l (ak++[(k,v)]) k v'=ak++[(k,v')]:=by
 unfold A4l;rw [Z12 (by simp),Z0s];congr 1
 ·have:=C1b h;exact (List.map_congr_left λp hp=>Z0t λz=>this (by rw [<-z];exact List.mem_map_of_mem hp)).trans (List.map_id' _)
 ·simp
theorem C5r (T:Txt K mg t):FO P w base T.kf 21 (D0v t):=by
 have Gc7:= @A6m P w K mg base t T;have Gd9:= @B7y P w K mg base t T;have Ge0:= @B9f P w K mg base t T;have Gd6:= @B1u P w K mg base t T;have Gd0:= @C2r P w K mg base t T 4;have Gb9:= @B6o P w K mg base t T 14;have Gc0:= @B7t P w K mg base t T 14;have Ge1:= @C0q P w K mg base t T;refine T.kf.F.ok A2u (λvs H Q E h=> ?_) λ_ A _ s H _ Q E hr h=> ?_
 ·refine e0e h ?_;clear h;rintro ab nl C more cs x ax lns es0 ⟨ak0,rfl,_⟩;rfl
 ·refine e0e h ?_;clear h;rintro ab nl C more cs x ax lns es0 ⟨ak0,rfl,hab,hax,apos,hld,lok,nok,hah,hsh,ar0,es0ok,les0,htr,hnl,ndl,l4,lnok,hC,lC,out,ndM,k⟩;have hu:=A4z hr;have hl:∀y∈ax.map (·.1),1<=ai (A1e ax) y/\ai (A1e ax) y<=60:=λy hy=>⟨(lok.ok y hy).1,(lok.ok y hy).2.1⟩
  refine ⟨_,(A0c (A0l (i:=4) A2u.nd (A4m A0d))
   (A0c (A0l (i:=5) A2u.nd A0g)
   (A0c (A2g (A3p rfl T.bh (A0a (A0y A1c (by rfl) T.bd Z0r (A0a (pv 1) A0d)) A0d)) (A0m (i:=6) A2u.nd)
    (A0c (A0l (i:=7) A2u.nd (A2q A3r (C5p (pv 2) (A2x (pv 6)) A3y (A0y A1c (by rfl) T.bd Z0r (A0a (pv 1) A0d))) A3y (A2x A0g)))
    (A3s (A1o (A0w A3n (A0n A1i (A0n A2h (pv 3) A0g) A0g) A0g (A1f _))
     (A0e (A0l (i:=7) A2u.nd (pcl Ge0 hr T.ij (A0a (A0y (C1q rfl) (by rfl) T.qi PyProof.Rows.boot_sum (A0a (A2q A3r (pv 7) A3y (A2x A0g)) A0d)) (A0a A0g A0d)))))
     A0r)
    (A0c (A3t (B3z Z0k PySem.F.slot_list_reverse PySem.F.type_list_reverse C3s (pv 7)))
    (A0c (A0l (i:=8) A2u.nd (pcl Gd9 hr T.jb (A0a (pcl Gc7 hr T.au (A0a (pv 7) A0d)) (A0a (A0p hu (pv 0) A0u) A0d))))
    (A0c (A3a hu (pv 0) A0u (A1h A3b (pv 1) (pv 6)) rfl)
    (A0c (A3a hu (A0p hu (pv 0) A0u) (A1h A3b (pv 1) (pv 6)) (pv 8) rfl)
    (A0c (A0l (i:=9) A2u.nd (pcl Gd0 hr T.bm (A0a (pv 7) (A0a (pv 0) (A0a (pv 8) (A0a B0v (A0a B0v (A0a A0g A0d))))))))
    (A0c (A0l (i:=10) A2u.nd (pcl Gd6 hr T.cj (A0a (pv 8) (A0a (A0p hu (pv 0) A0u) A0d))))
    (A3s (A1o (A0w C0n (A0n A2k (pv 5) (A0n A7k (pv 10) (pcl Gb9 hr T.bt (A0a (pv 9) (A0a (A0p hu (pv 0) A0u) A0d))))) A0g (A1f _))
     (A0c (A0l (i:=8) A2u.nd (A2q A3r (pv 8) A3y (A2x A0g)))
     (A0c (A3a hu (A0p hu (pv 0) A0u) (A1h A3b (pv 1) (pv 6)) (pv 8) rfl)
     (A0e (A0l (i:=9) A2u.nd (A2j (A0a A0u (A0a (A0n A1i (pv 3) (A0n A7h A0g A0g)) A0d)))))))
     A0r)
    (A0c (A0l (i:=10) A2u.nd (pcl Gd6 hr T.cj (A0a (pv 8) (A0a (A0p hu (pv 0) A0u) A0d))))
    (A0c (A0l (i:=5) A2u.nd (A0n A2k (pv 5) (A0n A7k (pv 10) (pcl Gb9 hr T.bt (A0a (pv 9) (A0a (A0p hu (pv 0) A0u) A0d))))))
    (A0c (A3a hu (A0p hu (pv 0) A0u) (A1h A3b (pv 1) (pv 6)) (pv 9) rfl)
    (A0c (A3t (B0u Z0k Z0n Z0o A3o (A0p hu (pv 0) A0u) (A0a (A1h A3b (pv 1) (pv 6)) A0d)))
    (A0e (A3t (B0u Z0k Z0n Z0o A3o (pv 4) (A0a (pmk T.qp Ge1 hr T.qB T.ik.b (A0a (A1h A3b (pv 1) (pv 6)) (A0a (A2a A4x (by rfl) T.cv Z1o (A0a (pv 8) A0d)) (A0a (pcl Gc0 hr T.cu (A0a (pv 9) A0d)) A0d)))) A0d))))))))))))))))))
   (A0e (A0o (pv 4)))))),?_⟩
  refine ⟨A1j rfl,λll hll=> ?_⟩;obtain ⟨H1,t1,hll1,eNH⟩:=nH (o:= .lst []) hll
  try rw [eNH]
  have inH:∀{b:Addr} {u:HO},H b=some u->b≠ll:=λe=>A0h e hll;have ab_ah:ab≠x.ah:=by simp only [Z15,Z0e] at ndM;exact λz=>ndM.1 (.inl z)
  have ab_sh:ab≠x.sh:=by simp only [Z15,Z0e] at ndM;exact λz=>ndM.1 (.inr (.inl z))
  have ab_tr:ab≠x.tr:=by simp only [Z15,Z0e] at ndM;exact λz=>ndM.1 (.inr (.inr (.inl z)))
  have ah_sh:x.ah≠x.sh:=by simp only [Z15,Z0e] at ndM;exact λz=>ndM.2.1 (.inl z)
  have ah_tr:x.ah≠x.tr:=by simp only [Z15,Z0e] at ndM;exact λz=>ndM.2.1 (.inr (.inl z))
  have sh_tr:x.sh≠x.tr:=by simp only [Z15,Z0e] at ndM;exact λz=>ndM.2.2.1 (.inl z)
  have ab_ll:=inH hab;have ah_ll:=inH hah;have sh_ll:=inH hsh;have tr_ll:=inH htr;have memM:∀{b:Addr},b∈[ab,x.ah,x.sh,x.tr,ll]↔b=ab\/b=x.ah\/b=x.sh\/b=x.tr\/b=ll:=λ{b}=>by simp only [Z0e,Z1i,or_false]
  have mem4:∀{b:Addr},b∈[ab,x.ah,x.sh,x.tr]↔b=ab\/b=x.ah\/b=x.sh\/b=x.tr:=λ{b}=>by simp only [Z0e,Z1i,or_false]
  have outU:∀{b:Addr} {u:HO},H b=some u->b∉[ab,x.ah,x.sh,x.tr]->b∉[ab,x.ah,x.sh,x.tr,ll]:=λe n m=>by
   rw [memM] at m;rw [mem4] at n;rcases m with m | m | m | m | m
   ·exact n (.inl m)
   ·exact n (.inr (.inl m))
   ·exact n (.inr (.inr (.inl m)))
   ·exact n (.inr (.inr (.inr m)))
   ·exact inH e m
  have axM:=outU hax (out _ (by simp));have ldM:=outU hld (out _ (by simp));have nlM:=outU hnl (out _ (by simp));have CM:=outU hC (out _ (by simp));have lax:(ax.map (·.1)).length<=8:=lok.few;refine i0o _ rfl nl _ rfl (.inl (SqL.of (t1 _ _ hnl))) (i0c _ rfl (by lia) (by rw [Z08];lia) ?_)
  refine A6n (n:=(lns.map V.str).length) (λi Z G=>∃(o6 o7 o8 o9 o10:Option V) (wk:Int) (lds:List LD),Z=[Sro ab,Sro nl,Sro C,Sio more,Sro ll,Sio wk,o6,o7,o8,o9,o10]/\0<=wk/\KMs [ab,x.ah,x.sh,x.tr,ll] H1 G/\LtS t [ab,x.ah,x.sh,x.tr,ll] G ab ll x ax es0 lds/\lds.map (·.x)=lns.take i/\D9l ax es0 lds/\∀e∈lds,E2e ax e)
   ⟨none,(i19 none none none none 0 [] rfl (by decide) (KMs.of (A0s.refl _)) ⟨⟨x.own,t1 _ _ hab⟩,by rw [show es0++esL []=es0 from Z0u _];exact t1 _ _ hah,(i02 ak0 (t1 _ _ hsh) (by rw [show es0++esL []=es0 from Z0u _];exact ar0.imp λb xs m e=>⟨outU e m,t1 _ _ e⟩)),(i02 [] (t1 _ _ htr) .nil),(i02 [] hll1 .nil)⟩ rfl (by intro i e he;simp at he) (by intro e he;cases he))⟩ ?_ ?_
  ·rintro i Z G hi zz;refine e0g zz ?_;clear zz;rintro o6 o7 o8 o9 o10 wk lds rfl wk0 km lt enm ⟨tma,ldok⟩;rw [Z08] at hi;rw [Int.zero_add];have hy:lns[i]? =some lns[i]:=Z0b hi;generalize lns[i]=y at hy;obtain ⟨⟨ow,habG⟩,hahG,⟨ak,hshG,ar⟩,⟨trk,htrG,tra⟩,⟨lv,hllG,lo⟩⟩:=lt
   have hlds:lds.length<=4:=by
    have:=congrArg List.length enm;rw [Z08,Z0x] at this
    lia
   have hnlG:=km _ _ nlM (t1 _ _ hnl);have haxG:=km _ _ axM (t1 _ _ hax);have hldG:=km _ _ ldM (t1 _ _ hld);have hCG:=km _ _ CM (t1 _ _ hC);have eat:atI (lns.map V.str) (i:Int)=some (.str y):=A0j (by rw [Z1z,hy];rfl);have yok:=lnok y (Z13 hy)
   have yn:y∉(es0++esL lds).map (·.1):=by
    rw [Z0s,A9k,enm];rw [Z0l] at ndl;intro m;rcases Z07.mp m with m | m
    ·exact ndl.2.2 _ m _ (Z13 hy) rfl
    ·obtain ⟨j,hj⟩:=List.getElem?_of_mem m
     have hlt:j<i:=by
      have:=(Z03.mp hj).1;rw [Z0x] at this
      lia
     rw [List.getElem?_take_of_lt hlt] at hj;have:=(List.getElem?_inj (Z03.mp hj).1 ndl.2.1).mp (hj.trans hy.symm)
     lia
   have esok:D6p (ai (A1e ax)) (ax.map (·.1)) (es0++esL lds):=by
    refine ⟨?_,λe he=> ?_,by rw [Z06];unfold esL;rw [Z08];lia,λe he=> ?_⟩
    ·rw [Z0s,A9k,enm];exact List.Pairwise.sublist ((List.Sublist.refl _).append (Z2o _ _)) ndl
    ·rcases Z07.mp he with z | z
     ·exact (es0ok e z).1
     ·obtain ⟨d,hd,rfl⟩:=Z2c.mp z;exact (ldok d hd).axn
    ·rcases Z07.mp he with z | z
     ·exact (es0ok e z).2
     ·have:e.1∈lns:=Z2p (by rw [<-enm,<-A9k];exact Z2c.mpr (i02 e z rfl));exact lnok _ this
   have les:(es0++esL lds).length<20:=by rw [Z06];unfold esL;rw [Z08];lia
   have inM:∀{b:Addr},b∈[ab,x.ah,x.sh,x.tr,ll]->∃u,G b=some u:=λm=>by
    rw [memM] at m;rcases m with rfl | rfl | rfl | rfl | rfl <;> exact ⟨_,by assumption⟩
   have newM:∀{b:Addr},G b=none->b∉[ab,x.ah,x.sh,x.tr,ll]:=λe m=>by
    obtain ⟨u,hu1⟩:=inM m;rw [hu1] at e;cases e
   refine i02 _ rfl (i10 _ rfl _ rfl _ rfl nl _ rfl (.inl (SqL.of hnlG)) (i0x C _ (i:Int) _ rfl rfl rfl rfl (i04 (by lia) (by rw [Z08];lia) (SqL.of hCG) λp zs hp lz mz=> ?_)));obtain ⟨ms0,rfl⟩:=C2b (zs:=zs) λz hz=>by obtain ⟨q,_,rfl⟩:=Z2c.mp (mz z hz);exact ⟨q,rfl⟩
   obtain ⟨ms1,em1,_,_⟩:=A8t V.int ms0 none (some 24);refine i0o _ rfl p _ rfl (SqL.of A0b) λp2 hp2=> ?_;rw [em1];have s1:A0s G (upd (upd G p (.lst (ms0.map V.int))) p2 (.lst (ms1.map V.int))):=(A0f hp).trans (A0f hp2);have hp2':upd (upd G p (.lst (ms0.map V.int))) p2 (.lst (ms1.map V.int)) p2=some (.lst (ms1.map V.int)):=A0b;have hp20:G p2=none:=(A0f hp).free hp2;generalize upd (upd G p (.lst (ms0.map V.int))) p2 (.lst (ms1.map V.int))=G1 at s1 hp2';refine i02 (λZ G2=>∃(D:Addr) (ms:List Int),Z=[Sro ab,Sro nl,Sro C,Sio more,Sro ll,Sio wk,Sio (i:Int),Sro D,o8,o9,o10]/\A0s G G2/\G D=none/\G2 D=some (.lst (ms.map V.int))) ?_ ?_
   ·refine i16 _ rfl _ _ rfl rfl ⟨by decide,by decide⟩ _ _ rfl rfl E1t (i05 rfl _ rfl (A2n (λ_=> ?_) (λ_=>(i0m p2 ms1 rfl s1 hp20 hp2'))));obtain ⟨ms2,em2,_,_⟩:=A8t V.int ms1 none (some 1);refine i0v _ rfl _ rfl p2 _ rfl (SqL.of hp2') λp3 hp3=> ?_;rw [em2];refine i0f p3 ms2 rfl (SqL.of A0b) λz=> ?_;exact i0m z 24 rfl (by decide) (by decide) λD ms G2 hD s2 hD2 _=>(i0m D ms rfl (s1.trans ((A0f hp3).trans s2)) (s1.free ((A0f hp3).free hD)) hD2)
   clear s1 hp2' hp20 em1;rintro Z G2 ⟨D,ms,rfl,s2,hD0,hD2⟩;refine i06 _ rfl (.inl (i01 rfl _ (SqL.of hD2))) (i0m D _ rfl rfl hD2 ?_);rw [<-List.map_reverse];have s3:A0s G (upd G2 D (.lst (ms.reverse.map V.int))):=A0q s2 hD0;have hD3:upd G2 D (.lst (ms.reverse.map V.int)) D=some (.lst (ms.reverse.map V.int)):=A0b;generalize upd G2 D (.lst (ms.reverse.map V.int))=G3 at s3 hD3;clear s2 hD2;refine i0o _ rfl D _ rfl hD3 λc ms4 G4 l4' hD4 o4 e4=> ?_;have kj4:=A5b hD3 o4 e4;have s4:A0s G G4:=λb u e=>kj4.kb b u (A0h e hD0) (s3 _ _ e);refine i0o _ rfl ab _ rfl (.inl (i0f _ (Sum.inr _) (.inl (s4 _ _ habG)) rfl ((C0j _).symm))) (i0w c x.ax (ax.map (·.1)) rfl (s4 _ _ haxG) lax (by rw [Z08];exact apos) lok.nd λys b G5 hb4 s45 hb5 axn=> ?_);have s5:=s4.trans s45;have hD5:=s45 _ _ hD4;have hb0:G b=none:=s4.free hb4;have bD:b≠D:=λz=>by rw [z,hD4] at hb4;cases hb4
   have bM:=newM hb0;have DM:=newM hD0;have neD:∀{m:Addr},m∈[ab,x.ah,x.sh,x.tr,ll]->m≠D:=λm z=>DM (by rw [<-z];exact m);clear s3 hD3 kj4 s4 hD4 hb4 s45 o4 e4;refine i13 _ rfl _ rfl nl _ _ _ rfl rfl (SqL.of (s5 _ _ hnlG)) ⟨eat,(i0o _ rfl ab _ rfl (B0z.k (k:=Sum.inr "own") (s5 _ _ habG) (A1d (by show 7<=1000000;decide))) ?_)⟩;rw [C4c];show C0x.nx _ _ _;have exo:({ ({ x with own:=ow }:Abt) with own:=y }:Abt)={ x with own:=y }:=rfl;rw [exo];have U6:∀{m:Addr} {u:HO},m≠ab->G5 m=some u->upd G5 ab (.dK (abK { x with own:=y })) m=some u:=λn e=>by rw [A0i n];exact e
   have hab6:upd G5 ab (.dK (abK { x with own:=y })) ab=some (.dK (abK { x with own:=y })):=A0b;generalize upd G5 ab (.dK (abK { x with own:=y }))=G6 at U6 hab6;have neab:∀{m:Addr},m∉[ab,x.ah,x.sh,x.tr,ll]->m≠ab:=λn z=>n (by rw [z];simp)
   have nesh:∀{m:Addr},m∉[ab,x.ah,x.sh,x.tr,ll]->m≠x.sh:=λn z=>n (by rw [z];simp);have netr:∀{m:Addr},m∉[ab,x.ah,x.sh,x.tr,ll]->m≠x.tr:=λn z=>n (by rw [z];simp);have neah:∀{m:Addr},m∉[ab,x.ah,x.sh,x.tr,ll]->m≠x.ah:=λn z=>n (by rw [z];simp);have nell:∀{m:Addr},m∉[ab,x.ah,x.sh,x.tr,ll]->m≠ll:=λn z=>n (by rw [z];simp);have hsh6:=U6 ab_sh.symm (s5 _ _ hshG);have lak:=Paired.length ar;have vak:A2r ak (Sum.inr y)=none:=B9l ar yn;refine i0v _ rfl _ rfl ab _ rfl (.inl (i0f _ (Sum.inr _) (.inl hab6) rfl ((A4g _).symm))) (i13 _ rfl _ rfl nl _ _ _ rfl rfl (SqL.of (U6 (neab nlM) (s5 _ _ hnlG))) (i0j eat x.sh _ rfl (B0z.k (k:=Sum.inr y) hsh6 (A1d (by lia))) ?_));rw [A5f _ vak];have U7:∀{m:Addr} {u:HO},m≠x.sh->G6 m=some u->upd G6 x.sh (.dK (ak++[(Sum.inr y,.ref b)])) m=some u:=λn e=>by rw [A0i n];exact e
   have hsh7:upd G6 x.sh (.dK (ak++[(Sum.inr y,.ref b)])) x.sh=some (.dK (ak++[(Sum.inr y,.ref b)])):=A0b;generalize upd G6 x.sh (.dK (ak++[(Sum.inr y,.ref b)]))=G7 at U7 hsh7;have U57:∀{m:Addr} {u:HO},m≠ab->m≠x.sh->G5 m=some u->G7 m=some u:=λn1 n2 e=>U7 n2 (U6 n1 e);have K57:∀{m:Addr} {u:HO},m∉[ab,x.ah,x.sh,x.tr,ll]->G5 m=some u->G7 m=some u:=λn e=>U57 (neab n) (nesh n) e;have hab7:=U7 ab_sh hab6;have hah7:=U57 ab_ah.symm ah_sh (s5 _ _ hahG);have htr7:=U57 ab_tr.symm sh_tr.symm (s5 _ _ htrG);have hll7:=U57 ab_ll.symm sh_ll.symm (s5 _ _ hllG);have hD7:=K57 DM hD5;have hb7:=K57 bM hb5;have esok2:=esok.snoc yn yok axn les;have ar7:AR (λb=>b≠x.ah) G7 (ak++[(Sum.inr y,.ref b)]) (es0++esL lds++[(y,ys)]):=B3s (ar.imp λb' xs m e=>⟨neah m,K57 m (s5 _ _ e)⟩) (.cons (i0a rfl b rfl (neah bM) hb7) .nil);have gr:Gr G7 D ab b ms4 { x with own:=y } (ai (A1e ax)) (ax.map (·.1)) (es0++esL lds) ys ys:=⟨hD7,⟨hab7,K57 axM (s5 _ _ haxG),(i02 _ (K57 ldM (s5 _ _ hldG)) lok),hah7,(i02 _ hsh7 ar7)⟩,esok2,hb7,axn.sub,nok,by have:=axn.few;lia,λy hy=>hy⟩
   refine i15 _ rfl _ rfl _ rfl D ab b true true ms4 (i0h ({ x with own:=y }) (ai (A1e ax)) (ax.map (·.1)) (es0++esL lds) (i0m ys ys rfl gr (by have:=axn.few;lia) λv u ms8 G8 tm kj8 hD8 tr=> ?_))
   have tm:A7q (ai (A1e ax)) (ax.map (·.1)) (es0++esL lds++[(y,ys)]) y ys ys 13 u:=tm;have K58:∀{m:Addr} {u:HO},m≠D->G7 m=some u->G8 m=some u:=λn e=>kj8.kb _ _ n e
   have nwM:∀{m:Addr},Nw G7 m->m∉[ab,x.ah,x.sh,x.tr,ll]:=λ{m} h mm=>by
    rw [memM] at mm
    have lvn:∀n xs,HO.lst lv≠.lst (V.int n::xs):=λn xs z=>by
     cases z
     cases lo with
     | cons r _ =>
      obtain ⟨lt,_,_,_,e,_⟩:=r;cases e
    rcases mm with mm | mm | mm | mm | mm
    ·exact B7s h hab7 (by intro n xs z;cases z) mm
    ·exact B7s h hah7 (C7t _) mm
    ·exact B7s h hsh7 (by intro n xs z;cases z) mm
    ·exact B7s h htr7 (by intro n xs z;cases z) mm
    ·exact B7s h hll7 lvn mm
   have tr8:A6p (A1w (λb=>b∉[ab,x.ah,x.sh,x.tr,ll]) G8) v u:=tr.same (A3e (A0s.refl _) λa o _ h=>nwM h);have hab8:=K58 (neD (by simp)) hab7;have hah8:=K58 (neD (by simp)) hah7;have htr8:=K58 (neD (by simp)) htr7;have hll8:=K58 (neD (by simp)) hll7;have hsh8:=K58 (neD (by simp)) hsh7;have hb8:=K58 bD hb7;have hld8:=kj8.dk (K57 ldM (s5 _ _ hldG));have hnl8:=kj8.str (K57 nlM (s5 _ _ hnlG));refine i0v _ rfl _ rfl ab _ rfl (.inl (i0f _ (Sum.inr _) (.inl hab8) rfl ((A2t _).symm))) (i12 b x.ld ys (A1e ax) (ai (A1e ax)) rfl hb8 hld8 (B1j lok axn.sub) (by have:=axn.few;lia) λG9 s9=> ?_);have pr0:(1:Int)<=prd (ai (A1e ax)) ys:=by rw [C8q];exact (A2d _ λn hn=>by obtain ⟨z,hz,rfl⟩:=Z2c.mp hn;exact (hl z (axn.sub z hz)).1).2
   have prB:prd (ai (A1e ax)) ys<=216000:=by
    have l3:=axn.few;have hs:=axn.sub
    cases ys with
    | nil=>show (1:Int)<=216000;decide
    | cons y1 r =>
     have h1:=hl y1 (hs y1 (.head _))
     cases r with
     | nil=>show 1*ai (A1e ax) y1<=216000;lia
     | cons y2 r =>
      have h2:=hl y2 (hs y2 (.tail _ (.head _)));have m2:ai (A1e ax) y1*ai (A1e ax) y2<=60*60:=Int.mul_le_mul h1.2 h2.2 (by lia) (by lia);have m20:0<=ai (A1e ax) y1*ai (A1e ax) y2:=Int.mul_nonneg (by lia) (by lia)
      cases r with
      | nil=>show 1*ai (A1e ax) y1*ai (A1e ax) y2<=216000;rw [Int.one_mul];lia
      | cons y3 r =>
       have h3:=hl y3 (hs y3 (.tail _ (.tail _ (.head _))));have m3:ai (A1e ax) y1*ai (A1e ax) y2*ai (A1e ax) y3<=60*60*60:=Int.mul_le_mul m2 h3.2 (by lia) (by lia)
       cases r with
       | nil=>show 1*ai (A1e ax) y1*ai (A1e ax) y2*ai (A1e ax) y3<=216000;rw [Int.one_mul];lia
       | cons y4 r=>simp only [Z0y] at l3;lia
   have wkp:=A8h (L:=ai (A1e ax)) (λy hy=>(hl y hy).1) u tm.ax;have tr9:=tr8.same (A1l (S:=λb=>b∉[ab,x.ah,x.sh,x.tr,ll]) s9);refine i02 (λZ G10=>∃(b':Addr) (zs:List Str) (u':Tm) (v':V) (o10:Option V),Z=[Sro ab,Sro nl,Sro C,Sio more,Sro ll,Sio wk,Sio (i:Int),Sro D,Sro b',some v',o10]/\(∀m o,m≠x.sh->G9 m=some o->G10 m=some o)/\b'∉[ab,x.ah,x.sh,x.tr,ll]/\G10 b'=some (.lst (zs.map V.str))/\AxN (ax.map (·.1)) zs/\prd (ai (A1e ax)) zs<=4000/\G10 x.sh=some (.dK (ak++[(Sum.inr y,.ref b')]))/\A7q (ai (A1e ax)) (ax.map (·.1)) (es0++esL lds++[(y,zs)]) y zs zs 13 u'/\wkM (ai (A1e ax)) u'<=1200/\A6p (A1w (λb=>b∉[ab,x.ah,x.sh,x.tr,ll]) G10) v' u') ?_ ?_
   ·refine i02 _ rfl (i10 _ rfl _ rfl _ rfl ab _ rfl (.inl (i0f _ (Sum.inr _) (.inl (s9 _ _ hab8)) rfl ((A2t _).symm))) (i19 v x.ld u (A1e ax) (ai (A1e ax)) (ax.map (·.1)) rfl (tr9.same A4v) (by have:=tm.dp;lia) tm.ax (s9 _ _ hld8) lok (i0f _ _ rfl rfl (i0j (.inl ⟨by lia,by lia⟩) _ _ rfl rfl ⟨_,(i0k _ rfl rfl _ rfl (A2n (λh1=> ?_) (λh1=> ?_)))⟩))))
    ·refine i0v _ rfl _ rfl b _ rfl (SqL.of (s9 _ _ hb8)) λb2 hb2=> ?_;have e1:B4b (ys.map V.str) none (some 1)=(ys.take 1).map V.str:=B0c (i:=1);rw [e1];have s10:A0s G9 (upd G9 b2 (.lst ((ys.take 1).map V.str))):=A0f hb2;have hb2':upd G9 b2 (.lst ((ys.take 1).map V.str)) b2=some (.lst ((ys.take 1).map V.str)):=A0b
     have b2M:b2∉[ab,x.ah,x.sh,x.tr,ll]:=λm=>by
      rw [memM] at m;rcases m with rfl | rfl | rfl | rfl | rfl
      ·rw [s9 _ _ hab8] at hb2;cases hb2
      ·rw [s9 _ _ hah8] at hb2;cases hb2
      ·rw [s9 _ _ hsh8] at hb2;cases hb2
      ·rw [s9 _ _ htr8] at hb2;cases hb2
      ·rw [s9 _ _ hll8] at hb2;cases hb2
     generalize upd G9 b2 (.lst ((ys.take 1).map V.str))=Ga at s10 hb2';have hsha:=s10 _ _ (s9 _ _ hsh8);refine i0v _ rfl _ rfl ab _ rfl (.inl (i0f _ (Sum.inr _) (.inl (s10 _ _ (s9 _ _ hab8))) rfl ((A4g _).symm))) (i13 _ rfl _ rfl nl _ _ _ rfl rfl (SqL.of (s10 _ _ (s9 _ _ hnl8))) (i0j eat x.sh _ rfl (B0z.k (k:=Sum.inr y) hsha (A1d (by rw [Z06];simp only [Z0y,Z2g];lia))) ?_));rw [C9j vak];have Ub:∀{m:Addr} {u:HO},m≠x.sh->Ga m=some u->upd Ga x.sh (.dK (ak++[(Sum.inr y,.ref b2)])) m=some u:=λn e=>by rw [A0i n];exact e
     have hshb:upd Ga x.sh (.dK (ak++[(Sum.inr y,.ref b2)])) x.sh=some (.dK (ak++[(Sum.inr y,.ref b2)])):=A0b;have fb:∀{q:Addr},upd Ga x.sh (.dK (ak++[(Sum.inr y,.ref b2)])) q=none->Ga q=none:=λe=>(A8e e).2;generalize upd Ga x.sh (.dK (ak++[(Sum.inr y,.ref b2)]))=Gb at Ub hshb fb;refine i16 _ rfl _ _ rfl rfl (i00 (by decide) (by decide) (by decide)) _ _ rfl rfl D5r ⟨A1j rfl,λq hq=> ?_⟩;have sq:A0s Gb (upd Gb q (.tup [.str "number",.int (more%10^(30:Int).toNat)])):=A0f hq
     have qM:q∉[ab,x.ah,x.sh,x.tr,ll]:=λm=>by
      have h9:=s10.free (fb hq);rw [memM] at m;rcases m with rfl | rfl | rfl | rfl | rfl
      ·rw [s9 _ _ hab8] at h9;cases h9
      ·rw [s9 _ _ hah8] at h9;cases h9
      ·rw [s9 _ _ hsh8] at h9;cases h9
      ·rw [s9 _ _ htr8] at h9;cases h9
      ·rw [s9 _ _ hll8] at h9;cases h9
     have p1:=C6l hl axn.sub;exact i1c b2 (ys.take 1) (.num (more%10^(30:Int).toNat)) (.ref q) _ rfl (λm o n e=>sq _ _ (Ub n (s10 _ _ e))) b2M (sq _ _ (Ub (nesh b2M) hb2')) (axn.take 1) (by lia) (sq _ _ hshb) (A7q.num (D2s more) (by decide)) ⟨by show (1:Int)<=1200;decide,.num (A1a qM A0b)⟩
    ·have h1:¬wk+prd (ai (A1e ax)) ys*wkM (ai (A1e ax)) u>1200:=h1
     have q1:wkM (ai (A1e ax)) u<=prd (ai (A1e ax)) ys*wkM (ai (A1e ax)) u:=by
      have:=Int.mul_le_mul_of_nonneg_right pr0 (show 0<=wkM (ai (A1e ax)) u by lia)
      rwa [Int.one_mul] at this
     have q2:prd (ai (A1e ax)) ys<=prd (ai (A1e ax)) ys*wkM (ai (A1e ax)) u:=by
      have:=Z29 wkp (show 0<=prd (ai (A1e ax)) ys by lia)
      rwa [Int.mul_one] at this
     exact i1c b ys u v _ rfl (λm o _ e=>e) bM (s9 _ _ hb8) axn (by lia) (s9 _ _ hsh8) tm ⟨by lia,tr9⟩
   rintro Z G10 zz;refine e0d zz ?_;clear zz;rintro b' zs u' v' o10' rfl U10 b'M hb10 ⟨axz,pz,hsh10,tmz,wkz,tr10⟩;have U810:∀{m:Addr} {o:HO},m≠x.sh->G8 m=some o->G10 m=some o:=λn e=>U10 _ _ n (s9 _ _ e);have hab10:=U810 ab_sh hab8;have hah10:=U810 ah_sh hah8;have htr10:=U810 sh_tr.symm htr8;have hll10:=U810 sh_ll.symm hll8;have hld10:=U810 (nesh ldM) hld8;have hnl10:=U810 (nesh nlM) hnl8;have pz1:(1:Int)<=prd (ai (A1e ax)) zs:=by rw [C8q];exact (A2d _ λn hn=>by obtain ⟨z,hz,rfl⟩:=Z2c.mp hn;exact (hl z (axz.sub z hz)).1).2
   have wkp':=A8h (L:=ai (A1e ax)) (λy hy=>(hl y hy).1) u' tmz.ax;refine i0v _ rfl _ rfl ab _ rfl (.inl (i0f _ (Sum.inr _) (.inl hab10) rfl ((A2t _).symm))) (i12 b' x.ld zs (A1e ax) (ai (A1e ax)) rfl hb10 hld10 (B1j lok axz.sub) (by have:=axz.few;lia) λG11 s11=> ?_);refine i02 _ rfl (i10 _ rfl _ rfl _ rfl ab _ rfl (.inl (i0f _ (Sum.inr _) (.inl (s11 _ _ hab10)) rfl ((A2t _).symm))) (i19 v' x.ld u' (A1e ax) (ai (A1e ax)) (ax.map (·.1)) rfl ((tr10.same (A1l (S:=λb=>b∉[ab,x.ah,x.sh,x.tr,ll]) s11)).same A4v) (by have:=tmz.dp;lia) tmz.ax (s11 _ _ hld10) lok (i0f _ _ rfl rfl (i0j (.inl ⟨by lia,by lia⟩) _ _ rfl rfl ?_))));have wk1:0<=prd (ai (A1e ax)) zs*wkM (ai (A1e ax)) u':=Int.mul_nonneg (by lia) (by lia);have ltr:=Paired.length tra
   have vtr:A2r trk (Sum.inr y)=none:=by
    have:(Sum.inr y:Key)∉trk.map (·.1):=λm=>by
     rw [C1y tra] at m;obtain ⟨z,hz,ez⟩:=Z2c.mp m;injection ez with ez;rw [ez,<-A9k] at hz;exact yn (by rw [Z0s];exact Z02 _ hz)
    cases hv:A2r trk (Sum.inr y) with
    | none=>rfl
    | some q=>exact absurd (D3m hv) this
   refine i0v _ rfl _ rfl ab _ rfl (.inl (i0f _ (Sum.inr _) (.inl (s11 _ _ hab10)) rfl ((B6i _).symm))) (i13 _ rfl _ rfl nl _ _ _ rfl rfl (SqL.of (s11 _ _ hnl10)) (i0j eat x.tr _ rfl (B0z.k (k:=Sum.inr y) (s11 _ _ htr10) (A1d (by lia))) ?_));rw [A5f _ vtr];have U12:∀{m:Addr} {o:HO},m≠x.tr->G11 m=some o->upd G11 x.tr (.dK (trk++[(Sum.inr y,v')])) m=some o:=λn e=>by rw [A0i n];exact e
   have htr12:upd G11 x.tr (.dK (trk++[(Sum.inr y,v')])) x.tr=some (.dK (trk++[(Sum.inr y,v')])):=A0b;generalize upd G11 x.tr (.dK (trk++[(Sum.inr y,v')]))=G12 at U12 htr12;have hah12:=U12 ah_tr (s11 _ _ hah10);have hab12:=U12 ab_tr (s11 _ _ hab10);have hnl12:=U12 (netr nlM) (s11 _ _ hnl10);refine i0y _ rfl ab _ rfl (.inl (i0f _ (Sum.inr _) (.inl hab12) rfl ((B5o _).symm))) (.inl (i01 rfl _ (SqL.of hah12))) _ rfl (i11 _ rfl nl _ _ _ rfl rfl (SqL.of hnl12) eat (i0s x.ah _ _ rfl rfl hah12 (A1d (by rw [Z08,Z08];lia)) ?_));have U13:∀{m:Addr} {o:HO},m≠x.ah->G12 m=some o->upd G12 x.ah (.lst (((es0++esL lds).map (·.1)).map V.str++[.str y])) m=some o:=λn e=>by rw [A0i n];exact e
   have hah13:upd G12 x.ah (.lst (((es0++esL lds).map (·.1)).map V.str++[.str y])) x.ah=some (.lst (((es0++esL lds).map (·.1)).map V.str++[.str y])):=A0b;generalize upd G12 x.ah (.lst (((es0++esL lds).map (·.1)).map V.str++[.str y]))=G13 at U13 hah13;have U1013:∀{m:Addr} {o:HO},m≠x.tr->m≠x.ah->G10 m=some o->G13 m=some o:=λn1 n2 e=>U13 n2 (U12 n1 (s11 _ _ e));have hab13:=U1013 ab_tr ab_ah hab10;have hsh13:=U1013 sh_tr ah_sh.symm hsh10;have hll13:=U1013 tr_ll.symm ah_ll.symm hll10;have htr13:=U13 ah_tr.symm htr12;have hnl13:=U1013 (netr nlM) (neah nlM) hnl10;have hb13:=U1013 (netr b'M) (neah b'M) hb10;have R1013:A0s (A1w (λb=>b∉[ab,x.ah,x.sh,x.tr,ll]) G10) (A1w (λb=>b∉[ab,x.ah,x.sh,x.tr,ll]) G13):=λm o e=>A1a (A0z e).1 (U1013 (netr (A0z e).1) (neah (A0z e).1) (A0z e).2);have tr13:=tr10.same R1013;have llv:=Paired.length lo;refine i0k _ rfl (.inl (i01 rfl _ (SqL.of hll13))) _ rfl (i11 _ rfl nl _ _ _ rfl rfl (SqL.of hnl13) eat (i0o _ rfl b' _ rfl (.inl (SqL.of hb13)) λcl hcl=> ?_));obtain ⟨G14,s14,hcl14,eNH⟩:=nH (o:= .lst (zs.map V.str)) hcl
   try rw [eNH]
   refine i02 _ rfl (i0p v' u' rfl (tr13.same (A4v.trans s14)) (by have:=tmz.dp;lia) tmz.gd λtv G15 s15 ob=> ?_);have s1315:=s14.trans s15
   have new13:∀{m:Addr},G13 m=none->m∉[ab,x.ah,x.sh,x.tr,ll]:=λe mm=>by
    rw [memM] at mm;rcases mm with rfl | rfl | rfl | rfl | rfl
    ·rw [hab13] at e;cases e
    ·rw [hah13] at e;cases e
    ·rw [hsh13] at e;cases e
    ·rw [htr13] at e;cases e
    ·rw [hll13] at e;cases e
   refine λlt' dl hlt hdl hne=> ?_;have s16:A0s G15 (upd (upd G15 dl (.own lt')) lt' (.ins t.be dl [])):=A0q (A0f hdl) hlt;have hlt16:upd (upd G15 dl (.own lt')) lt' (.ins t.be dl []) lt'=some (.ins t.be dl []):=A0b;generalize upd (upd G15 dl (.own lt')) lt' (.ins t.be dl [])=G16 at s16 hlt16;refine i03 lt' dl (i0x cl tv y zs rfl hlt16 (s16 _ _ (s15 _ _ hcl14)) (by have:=axz.few;lia) λcx G17 hcx hlt17 hcx17 fr17=>⟨rfl,?_⟩);have s1517:A0s G15 G17:=λm o e=>fr17 m o (A0h e hlt) (s16 _ _ e);have s1317:=s1315.trans s1517;refine i0s ll _ _ rfl rfl (s1317 _ _ hll13) (A1d (by lia)) ?_;have U18:∀{m:Addr} {o:HO},m≠ll->G17 m=some o->upd G17 ll (.lst (lv++[.ref lt'])) m=some o:=λn e=>by rw [A0i n];exact e
   have hll18:upd G17 ll (.lst (lv++[.ref lt'])) ll=some (.lst (lv++[.ref lt'])):=A0b;generalize upd G17 ll (.lst (lv++[.ref lt']))=G18 at U18 hll18;have R1718:A0s (A1w (λb=>b∉[ab,x.ah,x.sh,x.tr,ll]) G17) (A1w (λb=>b∉[ab,x.ah,x.sh,x.tr,ll]) G18):=λm o e=>A1a (A0z e).1 (U18 (nell (A0z e).1) (A0z e).2);have R1318:=(A1l (S:=λb=>b∉[ab,x.ah,x.sh,x.tr,ll]) s1317).trans R1718;have R1018:=R1013.trans R1318
   have K018:KMs [ab,x.ah,x.sh,x.tr,ll] G G18:=λm o n e=>by
    have e5:=s5 _ _ e;have e10:=U810 (nesh n) (K58 (A0h e hD0) (K57 n e5));exact U18 (nell n) (s1317 _ _ (U1013 (netr n) (neah n) e10))
   have R018:A0s (A1w (λb=>b∉[ab,x.ah,x.sh,x.tr,ll]) G) (A1w (λb=>b∉[ab,x.ah,x.sh,x.tr,ll]) G18):=λm o e=>A1a (A0z e).1 (K018 _ _ (A0z e).1 (A0z e).2);have ltM:=new13 (s1315.free hlt);have cxM:=new13 (s1315.free (s16.free hcx));have ob18:Ob t (A1w (λb=>b∉[ab,x.ah,x.sh,x.tr,ll]) G18) tv u':=(ob.imp (A3e s1517 λa o _ h=>new13 (s14.free h))).imp R1718;have goodz:=C5k hl axz pz;have lok':B7m t ax (A1w (λb=>b∉[ab,x.ah,x.sh,x.tr,ll]) G18) (.ref lt') ⟨y,zs,zs.map (ai (A1e ax)),u'⟩:=(i0x lt' dl cx tv rfl (A1a ltM (U18 (nell ltM) hlt17)) (A1a cxM (U18 (nell cxM) hcx17)) ob18 (i08 tmz.gd (by have:=tmz.dp;show dep u'<=14;lia) (i02 (ax.map (·.1)) tmz.ax λz hz=>(i00 (lok.val hz) ((hl z hz).1) ((hl z hz).2))) (D5g lok axz.sub) goodz));refine ⟨_,(i19 _ _ _ _ _ (lds++[⟨y,zs,zs.map (ai (A1e ax)),u'⟩]) rfl ?_ (km.trans K018) ⟨⟨y,U18 ab_ll (s1317 _ _ hab13)⟩,?_,(i02 _ (U18 sh_ll (s1317 _ _ hsh13)) ?_),(i02 _ (U18 tr_ll (s1317 _ _ htr13)) ?_),(i02 _ hll18 ?_)⟩ ?_ ?_ ?_)⟩
   ·show 0<=wk+prd (ai (A1e ax)) zs*wkM (ai (A1e ax)) u'
    lia
   ·rw [C0w,<-Z0z,Z0s,Z0s];exact U18 ah_ll (s1317 _ _ hah13)
   ·rw [C0w,<-Z0z];exact B3s (ar.imp λm xs n e=>⟨n,K018 _ _ n e⟩) (.cons (i0a rfl b' rfl b'M (U18 (nell b'M) (s1317 _ _ hb13))) .nil)
   ·exact B3s (Paired.mapP tra (by rintro _ _ ⟨z1,z2⟩;exact ⟨z1,z2.same R018⟩)) (.cons ⟨rfl,tr10.same R1018⟩ .nil)
   ·exact B3s (Paired.mapP lo λ_ _ q=>q.kx λm o _ _ e=>R018 _ _ e) (.cons lok' .nil)
   ·rw [Z0s,enm,Z14,hy];rfl
   ·intro j e he;by_cases hj:j<lds.length
    ·rw [Z26 hj] at he;have:=tma j e he;rw [List.take_append_of_le_length (by lia)];exact this
    ·have hj2:j=lds.length:=by
      have:=(Z03.mp he).1;rw [Z06,Z0j] at this
      lia
     subst hj2;rw [Z1l (Z09 _),Nat.sub_self] at he;have he:(⟨y,zs,zs.map (ai (A1e ax)),u'⟩:LD)=e:=by simpa using he
     subst he;rw [List.take_append_of_le_length (Z09 _),Z18];exact tmz
   ·intro e he;rcases Z07.mp he with z | z
    ·exact ldok e z
    ·rw [Z0w.mp z];refine ⟨axz,rfl,goodz,λf=> ?_⟩;have:=C4n (L:=ai (A1e ax)) (λy hy=>(hl y hy).1) u' tmz.ax f;show (rd (ai (A1e ax)) u' f).length<=100000
     lia
  ·rintro Z G zz;refine e0g zz ?_;clear zz;rintro o6 o7 o8 o9 o10 wk lds rfl wk0 km lt enm ⟨tma,ldok⟩;rw [Z08,Z18] at enm;obtain ⟨⟨ow,habG⟩,hahG,⟨ak,hshG,ar⟩,⟨trk,htrG,tra⟩,⟨lv,hllG,lo⟩⟩:=lt;exact i02 _ rfl (k ll ow lv ak trk lds G (λb u n e=>km _ _ (outU e n) (t1 _ _ e)) hll hllG (Paired.mapP lo λ_ _ q=>q.kx λb u _ _ y=>A4v _ _ y) enm habG hshG (ar.imp λb xs m e=>⟨True.intro,e⟩) htrG (Paired.mapP tra (by rintro _ _ ⟨z1,z2⟩;exact ⟨z1,z2.same A4v⟩)) tma ldok)
local macro_rules | `(tactic| walk_at "abn") => `(tactic| first | rfl | (refine (E1o (by decide +kernel)).trans ?_; walk_at "abn"))
theorem C2n {k:Key} (h:k∉kvs.map (·.1)):A2r kvs k=none:=by
 induction kvs with
 | nil=>rfl
 | cons p r ih =>
  rw [Z0p,Z0e] at h;rw [A1x (λz=>h (.inl z.symm))];exact ih λz=>h (.inr z)
theorem C1t:∀(more acc:List (Key×V)),((acc++more).map (·.1)).Nodup->A3d acc more=acc++more
 | [],acc,_=>by rw [Z0u];rfl
 | p::r,acc,h=>by
  have h1:p.1∉acc.map (·.1):=λz=>by
   rw [Z0s,Z0l] at h;exact h.2.2 _ z p.1 (List.mem_map_of_mem (.head _)) rfl
  show A3d (A4l acc p.1 p.2) r=acc++p::r;rw [A5f _ (C2n h1),C1t r (acc++[(p.1,p.2)]) (by rw [Z0z];exact h),Z0z];rfl
theorem D6b {v:Int} (h:y∈nm):A4l (nm.map λz=>((Sum.inr z:Key),V.int (L z))) (Sum.inr y) (.int v)=nm.map λz=>((Sum.inr z:Key),V.int (if z=y then v else L z)):=by
 unfold A4l;rw [Z12 (by rw [A4e,B6d h];rfl),List.map_map];refine List.map_congr_left λz _=> ?_;by_cases e:z=y
 ·subst e;simp
 ·have:¬(Sum.inr z:Key)=Sum.inr y:=λq=>e (Sum.inr.inj q);simp [e,this]
theorem w_ok (c:Int):D2j (2+c%(10^(30:Int).toNat-2)):=by
 have h0:(0:Int)<10^(30:Int).toNat-2:=by decide +kernel
 have h1:=Z1v c (show (10^(30:Int).toNat-2:Int)≠0 by decide +kernel);have h2:=Z1p c h0;have h3:(10^(30:Int).toNat-2:Int)<=10^32-2:=by decide +kernel
 refine ⟨by lia,?_⟩;generalize c%(10^(30:Int).toNat-2)=z at h1 h2⊢;generalize (10^(30:Int).toNat-2:Int)=u at h2 h3;generalize (10^32:Int)=v at h3⊢
 lia
theorem A9u {G':Hp} (s:A0s H G) (hD:H D=none) (k:KJ D G G'):A0s H G':=λb u e=>k.kb b u (A0h e hD) (s _ _ e)
theorem D3o {α:Type} {f:α->V} {ys:List α} (h:i+j<=ys.length):B4b (ys.map f) (some (i:Int)) (some ((i:Int)+(j:Int)))=((ys.drop i).take j).map f:=by
 unfold B4b;have e1:HT.sIx (ys.map f).length 0 (some (i:Int))=min i (ys.map f).length:=HT.sIx_nat _ _ _;have e2:HT.sIx (ys.map f).length (ys.map f).length (some (((i+j:Nat)):Int))=min (i+j) (ys.map f).length:=HT.sIx_nat _ _ _;have e3:((i:Int)+(j:Int))=((i+j:Nat):Int):=by lia
 rw [Z08] at e1 e2;rw [Nat.min_eq_left (by lia)] at e1;rw [Nat.min_eq_left h] at e2;rw [e3,Z08,e1,e2,Nat.add_sub_cancel_left,<-List.map_drop,<-List.map_take]
theorem C7w {H:Hp}:∀{vs:List V} {ax:List (Str×Int)},Paired (λ(v:V) (e:Str×Int)=>∃q,v= .ref q/\H q=some (.tup [.str e.1,.int e.2])) vs ax->A3l H vs (ax.map B3l)
 | _,_,.nil=> .nil
 | _,_,@Paired.cons _ _ _ v e _ _ r t=>by
  obtain ⟨q,rfl,hq⟩:=r;exact .cons (.tup hq (.cons (.str _) (.cons (.int _) .nil))) (C7w t)
def ab4 (ax ld ah sh:Addr):List (Key×V):=[(Sum.inr "axes",.ref ax),(Sum.inr "lengths",.ref ld),(Sum.inr "ahead",.ref ah),(Sum.inr "shapes",.ref sh)]
theorem C7i (ax ld ah sh:Addr):A3d [] (ab4 ax ld ah sh)=ab4 ax ld ah sh:=C1t _ [] (by show ((["axes","lengths","ahead","shapes"]:List Str).map (Sum.inr:Str->Key)).Nodup;decide +kernel)
def ab5 (ax ld ah sh:Addr):List (Key×V):=ab4 ax ld ah sh++[((Sum.inr "own":Key),V.str "")]
def ab6 (ax ld ah sh tr:Addr):List (Key×V):=ab5 ax ld ah sh++[((Sum.inr "trees":Key),V.ref tr)]
theorem D5k (ax ld ah sh:Addr):A4l (ab4 ax ld ah sh) (Sum.inr "own") (.str "")=ab5 ax ld ah sh:=A5f _ (by unfold ab4;walk_at "abn")
theorem D5q (ax ld ah sh tr:Addr):A4l (ab5 ax ld ah sh) (Sum.inr "trees") (.ref tr)=ab6 ax ld ah sh tr:=A5f _ (by unfold ab5 ab4;walk_at "abn")
theorem D4v (ax ld ah sh tr:Addr) (wh:Int):A4l (ab6 ax ld ah sh tr) (Sum.inr "wheel") (.int wh)=abK ⟨ax,ld,ah,sh,"",tr,wh⟩:=A5f _ (by unfold ab6 ab5 ab4;walk_at "abn")
def D0w (A:Adr):Sp:=λvs H Q _=>∃(C:Addr) (more:Int) (cs:List Int),vs=[.ref C,.int more]/\H C=some (.lst (cs.map V.int))/\cs.length<=400/\∀(q p ab nu:Addr) (x:Abt) (ax:List (Str×Int)) (td:List TD) (lds:List LD) (H':Hp),A0s H H'->H' q=some (.tup [.ref p,.ref ab,.ref nu])->Pk A H' p ab nu x ax td lds->lds≠[]->Q (.ref q) H'
theorem B8i (T:Txt K mg t):FO P w base T.de 22 (D0w t):=by
 have Ge2:= @B1n P w K mg base t T;have Gc7:= @A6m P w K mg base t T;have Ge3:= @C5r P w K mg base t T;have Ge4:= @C8p P w K mg base t T;have Ge5:= @B8x P w K mg base t T;refine T.de.F.ok A1k (by walk_at "ln") λ_ A _ s H _ Q E hr h=> ?_
 ·refine e08 h ?_;clear h;rintro C more cs rfl hC lC k;have hu:=A4z hr
  refine ⟨_,(A0c (B8z (i₀:=2) (N':=["_law_cell_here"]) (ix:=(List.replicate 1 none)) A1k.nd rfl (.inl rfl) rfl (A3f rfl (by decide +kernel) (by decide +kernel)) (A3c rfl) (D1v rfl T.mn (A0a (A2q A3r (pv 0) A3y (A2x A0g)) A0d)) (λ_ _ _ _=>(A0m (i:=0) C4e)) (λ_ _ _ _=>(pv 0)))
   (A0c (A0l (i:=3) A1k.nd (A0n A2k A0g (A0n A1i (pcl Gc7 hr T.au (A0a (pv 2) A0d)) A0g)))
   (A0c (A0l (i:=4) A1k.nd (A0n A1i (pcl Gc7 hr T.au (A0a (pv 2) A0d)) A0g))
   (A0c (A0l (i:=5) A1k.nd (A0n A2k A0g (A0n A1i (pcl Gc7 hr T.au (A0a (pv 2) A0d)) A0g)))
   (A0c (A0l (i:=6) A1k.nd (pcl Gc7 hr T.au (A0a (pv 2) A0d)))
   (A0c (A0l (i:=7) A1k.nd (A0n A2k A0g (A0n A1i (pcl Gc7 hr T.au (A0a (pv 2) A0d)) (A0n A5c (A0n A7h A0g A0g) A0g))))
   (A0c (B8z (i₀:=8) (N':=["_law_k","_law_seed"]) (ix:=(List.replicate 1 none++[some 6])) A1k.nd rfl (.inl rfl) rfl (A5j (x:="_law_seed") rfl rfl rfl (by decide +kernel) (by decide +kernel)) (A4j (N0:=["_law_k"]) rfl (.inl rfl) (by walk_at "ix")) (A3p rfl T.bh (A0a (A0n A2k (A0n A2k (pv 3) (pv 4)) (pv 5)) A0d)) (λ_ _ _ _=>(A0m (i:=0) C2x)) (λ_ _ _ _=>(pcl Ge4 hr T.l_ (A0a (pv 0) (A0a (pv 1) A0d)))))
   (A0c (A0l (i:=9) A1k.nd A2y)
   (A0c (A2g (A2m (A2q A3r (pv 8) A3y (A2x (pv 3)))) (A0m (i:=10) A1k.nd)
    (A0e (A3a hu (pv 9) (pv 10) (A0n A2k A0g (A0n A1i (pcl Gc7 hr T.au (A0a (pv 2) A0d)) A0g)) rfl)))
   (A3s (A1o (A0w A3n (A0n A1i (pv 1) A0g) A0g (A1f _))
    (A0e (A3a hu (pv 9) (A1h A3b (pv 8) (A0n A1i (A0n A2h (pv 1) A0g) (pv 3))) (A0n A2k A0g (A0n A1i (A0n A2h (pv 1) A0g) A0g)) rfl))
    A0r)
   (A0c (A0l (i:=11) A1k.nd (D6e (B1b A0u (A2q A3r (pv 8) A3y (A2x (pv 3))) (B1b A0u (pv 9) (B1b A0u (A4m A0d) (B1b A0u A2y D4b)))) rfl rfl (by simp) (by decide)))
   (A0c (A3a hu (pv 11) A0u A0u rfl)
   (A0c (A3a hu (pv 11) A0u A2y rfl)
   (A0c (A3a hu (pv 11) A0u (pv 7) rfl)
   (A0c (B4e (pcl Ge5 hr T.iu (A0a (pv 2) (A0a (pv 11) (A0a (A2q A3r (pv 8) (A2x (pv 3)) (A2x (A0n A2k (pv 3) (pv 4)))) (A0a (pv 0) (A0a (pv 1) A0d)))))) (A4y (n:=2) rfl (A1b (A0m (i:=12) A1k.nd) (A1b (A0m (i:=13) A1k.nd) A3m))))
   (A0c (A0l (i:=14) A1k.nd (pcl Ge3 hr T.kf (A0a (pv 11) (A0a (A2q A3r (pv 8) (A2x (A0n A2k (pv 3) (pv 4))) A3y) (A0a (A2q A3r (pv 0) (A2x A0g) A3y) (A0a (pv 1) A0d))))))
   (A0c (B8z (i₀:=15) (N':=["_law_name_here","_law_lengths"]) (ix:=(List.replicate 1 none++[some 9])) A1k.nd rfl (.inl rfl) rfl (A5j (x:="_law_lengths") rfl rfl rfl (by decide +kernel) (by decide +kernel)) (A4j (N0:=["_law_name_here"]) rfl (.inl rfl) (by walk_at "ix")) (A2m (A2q A3r (pv 8) A3y (A2x (pv 3)))) (λ_ _ _ _=>(A0m (i:=0) C3j)) (λ_ _ _ _=>(A2j (A0a (pv 0) (A0a (A0p hu (pv 1) (pv 0)) A0d)))))
   (A0e (A0o (A2j (A0a (pmk T.oK Ge2 hr T.pd T.cy.b (A0a (pv 7) (A0a (pv 15) (A0a (pv 12) (A0a (pv 14) (A0a (A4m (A0a (A1h A3b (pv 8) (pv 3)) A0d)) A0d)))))) (A0a (pv 11) (A0a (pv 13) A0d))))))))))))))))))))))),?_⟩
  obtain ⟨zs0,ez,lz,_⟩:=A8t V.int cs none (some 16);refine i0v _ rfl _ rfl C _ rfl (SqL.of hC) λp0 hp0=> ?_;rw [ez];have t0:A0s H (upd H p0 (.lst (zs0.map V.int))):=A0f hp0;refine i0f p0 _ rfl (SqL.of A0b) λD hD=> ?_;have pD:p0≠D:=λz=>by subst z;rw [A0b] at hD;cases hD
  have hD0:H D=none:=t0.free hD;refine A5r (D:=D) (zs0.map V.int).length (λi ys H2=>A0s H H2/\H2 p0=some (.lst (zs0.map V.int))/\H2 D=some (.lst ys)/\∃ms:List Int,ys=ms.map V.int/\ms.length=i) ⟨t0.trans (A0f hD),(i09 (by rw [A0i pD];exact A0b) A0b [] rfl rfl)⟩ (by rintro i ys H2 hi ⟨_,h,_⟩;exact i0m _ ((zs0.map V.int)[(zs0.map V.int).length-1-i]) (SqL.of h) rfl hi (Z0b (by lia))) (λys H2 _=>rfl) ?_ ?_
  ·rintro i ys H2 hi ⟨s2,h,hD2,ms,rfl,hms⟩ x H3 ⟨rfl,hx⟩;have hx:=hx _ (SqL.of h);rw [Z1z] at hx;obtain ⟨z,_,rfl⟩:=Z0i.mp hx;refine i01 True.intro _ (i08 rfl hD2 (A1d (by simp at hi⊢;lia)) (A0q s2 hD0) (i09 (by rw [A0i pD];exact h) A0b (ms++[z]) (by simp) (by simp [hms])))
  rintro ys H2 ⟨s2,_,hD2,ms,rfl,hms⟩;clear hms t0 ez lz;refine i0o _ rfl D ms rfl hD2 λc1 ms1 H3 l3 hD3 o3 e3=>(i0f _ _ rfl rfl (i0j z_50 _ _ rfl rfl ?_));have s3:=A9u s2 hD0 (A5b hD2 o3 e3);clear s2 hD2 l3 o3 e3;obtain ⟨m,em⟩:∃m:Nat,1+c1%5=(m:Int):=⟨_,(Int.toNat_of_nonneg (by lia)).symm⟩;have m1:1<=m:=by lia
  have m5:m<=5:=by lia
  dsimp only;rw [em];refine i0o _ rfl D ms1 rfl hD3 λc2 ms2 H4 l4 hD4 o4 e4=>(i0m _ _ rfl rfl C9h ?_);have s4:=A9u s3 hD0 (A5b hD3 o4 e4);clear s3 hD3 l4 o4 e4;obtain ⟨tb,etb⟩:∃tb:Nat,c2%4=(tb:Int):=⟨_,(Int.toNat_of_nonneg (by lia)).symm⟩;have tb3:tb<=3:=by lia
  dsimp only;rw [etb];refine i0o _ rfl D ms2 rfl hD4 λc3 ms3 H5 l5 hD5 o5 e5=>(i0f _ _ rfl rfl (i0j C9h _ _ rfl rfl ?_));have s5:=A9u s4 hD0 (A5b hD4 o5 e5);clear s4 hD4 l5 o5 e5;obtain ⟨tl,etl⟩:∃tl:Nat,1+c3%4=(tl:Int):=⟨_,(Int.toNat_of_nonneg (by lia)).symm⟩;have tl1:1<=tl:=by lia
  have tl4:tl<=4:=by lia
  dsimp only;rw [etl];refine i0o _ rfl D ms3 rfl hD5 λseed ms4 H6 l6 hD6 o6 e6=> ?_;have s6:=A9u s5 hD0 (A5b hD5 o6 e6);clear s5 hD5 l6 o6 e6;have w30:(0:Int)<10^(30:Int).toNat-2:=by decide +kernel
  refine i0o _ rfl D ms4 rfl hD6 λi1 ms5 H7 l7 hD7 o7 e7=> ?_;have s7:=A9u s6 hD0 (A5b hD6 o7 e7);clear s6 hD6 l7 o7 e7;refine i0f _ _ rfl rfl (i0b (i00 (by decide) (by decide) (by decide)) _ _ rfl (i0j rfl _ _ rfl rfl (i0j w30 _ _ rfl rfl ?_)));have whok:=w_ok i1;dsimp only;generalize 2+i1%(10^(30:Int).toNat-2)=wh at whok;refine i0v _ rfl _ rfl _ _ rfl rfl (i0o _ rfl _ _ rfl rfl (i0c _ rfl (by lia) (by lia) λN hN=> ?_));have en:((m:Int)+(tb:Int)+(tl:Int)).toNat=m+tb+tl:=by lia
  refine A5r (D:=N) ((m:Int)+(tb:Int)+(tl:Int)).toNat (λi ys G=>A0s H7 G/\G N=some (.lst ys)/\∃zs:List Str,ys=zs.map V.str/\zs.length=i/\∀(j:Nat) (z:Str),zs[j]? =some z->NmD seed (j:Int) z) ⟨A0f hN,(i0a A0b [] rfl rfl (by intro j z hz;simp at hz))⟩ (λi ys G hi _=>hi) (λys G _=>Z09 _) ?_ ?_
  ·rintro i ys G hi ⟨sg,hNg,zs,rfl,lzs,nz⟩ x G2 ⟨rfl,rfl⟩;rw [Int.zero_add];refine i05 ⟨rfl,True.intro⟩ _ rfl ⟨_,(i0b rfl (i:Int) seed rfl λz G3 nd sz=> ?_)⟩;refine i04 (sz _ _ hNg) (A1d (by rw [Z08];lia)) (A0q (sg.trans sz) hN) (i0a A0b (zs++[z]) (by rw [Z0s];rfl) (by rw [Z06,lzs];rfl) λj z' hz'=> ?_);by_cases hj:j<zs.length
   ·rw [Z26 hj] at hz';exact nz j z' hz'
   ·have hj2:j=zs.length:=by
     have:=(Z03.mp hz').1;rw [Z06,Z0j] at this
     lia
    subst hj2;rw [Z1l (Z09 _),Nat.sub_self] at hz';have hz':z=z':=by simpa using hz'
    rw [<-hz',lzs];exact nd
  rintro ys H8 ⟨s78,hN8,zs,rfl,lzs,nz⟩;rw [en] at lzs;have s8:=s7.trans s78;have hD8:=s78 _ _ hD7;have hN0:H N=none:=s7.free hN;have ND:N≠D:=(A0h hD7 hN).symm
  have zsnd:zs.Nodup:=by
   rw [List.nodup_iff_pairwise_ne,List.pairwise_iff_getElem];intro i j hi hj hij e;have h1:=nz i _ (Z0b hi);have h2:=nz j _ (Z0b hj);rw [e] at h1;have:=D6f (by lia) (by lia) (by lia) (by lia) h1 h2
   lia
  have zsok:∀z∈zs,B4l z/\z≠"":=λz hz=>by
   obtain ⟨j,hj⟩:=List.getElem?_of_mem hz;exact D8t (nz j z hj)
  have lnm:(zs.take m).length=m:=by rw [Z0x];lia
  have nmnd:(zs.take m).Nodup:=zsnd.sublist (Z2o _ _);clear s7 s78 hN hD7;refine λld hld=> ?_;obtain ⟨H9,s9,hld9,eNH⟩:=nH (o:= .dK []) hld
  try rw [eNH]
  refine i10 _ rfl _ rfl _ rfl N _ rfl (SqL.of (s9 _ _ hN8)) λq hq=> ?_;rw [B0c (f:=V.str)];obtain ⟨H10,s10,hq10,eNH⟩:=nH (o:= .lst ((zs.take m).map V.str)) hq;have qD:q≠D:=(A0h (s9 _ _ hD8) hq).symm;have q0:H q=none:=s8.free (s9.free hq);have ld0:H ld=none:=s8.free hld
  try rw [eNH]
  have s810:=s9.trans s10;refine i06 q rfl ⟨_,SqL.of hq10⟩ ?_
  refine A3k (K:=K) (a:=q) (xs:=(zs.take m).map V.str) (λi Z G=>∃(o10:Option V) (ms:List Int) (L:Str->Int),Z=[Sro C,Sio more,Sro D,Sio m,Sio tb,Sio tl,Sio seed,Sio wh,Sro N,Sro ld,o10,none,none,none,none,none]/\A0s H G/\G D=some (.lst (ms.map V.int))/\G N=some (.lst (zs.map V.str))/\G q=some (.lst ((zs.take m).map V.str))/\G ld=some (.dK (((zs.take m).take i).map λy=>((Sum.inr y:Key),V.int (L y))))/\∀y∈(zs.take m).take i,1<=L y/\L y<=60)
   (i0w none ms5 (λ_=>0) rfl (s8.trans s810) (s810 _ _ hD8) (s810 _ _ hN8) hq10 ⟨s10 _ _ hld9,by intro y hy;cases hy⟩) (by (rintro i Z G _ zz;refine e08 zz ?_;clear zz;rintro _ _ _ _ _ _ ⟨_,z,_⟩);exact SqL.of z) ?_ ?_
  ·rintro i v Z G hv zz;refine e08 zz ?_;clear zz;rintro o10 ms' L rfl sg hDg ⟨hNg,hqg,hldg,okL⟩;obtain ⟨y,hy,rfl⟩:=A2b hv;have hi:i<m:=by have:=(Z03.mp hy).1;lia
   refine i0o _ rfl D ms' rfl hDg λc4 ms6 G2 _ hD2 o2 e2=> ?_;have kj:=A5b hDg o2 e2;have hld2:=kj.dk hldg;have hN2:=kj.str hNg;have hq2:=kj.str hqg;have sg2:=A9u sg hD0 kj;refine i0f _ _ rfl rfl (i0j C9h _ _ rfl rfl (i0v _ rfl _ rfl ld _ rfl (B0z.k (k:=Sum.inr y) hld2 (A1d (by rw [Z08,Z0x];lia))) ?_))
   have hny:y∉(zs.take m).take i:=λz=>by
    obtain ⟨j,hj⟩:=List.getElem?_of_mem z;have hji:j<i:=by have:=(Z03.mp hj).1;rw [Z0x] at this;lia
    rw [List.getElem?_take_of_lt hji] at hj;have:=(List.getElem?_inj (by lia) nmnd).mp (hj.trans hy.symm)
    lia
   rw [A5f _ (C2n (by rw [List.map_map];intro z;obtain ⟨q',hq',e⟩:=Z2c.mp z;exact hny (by rw [<-Sum.inr.inj e];exact hq')))];have ap:∀{b:Addr} {u:HO},(∀kvs,u≠.dK kvs)->∀{o:HO},G2 b=some u->upd G2 ld o b=some u:=λn o e=>by rw [A0i (A1p e hld2 (n _))];exact e
   refine i0w _ ms6 (λz=>if z=y then 1+c4%4 else L z) rfl (A0q sg2 ld0) (ap (by intro k z;cases z) hD2) (ap (by intro k z;cases z) hN2) (ap (by intro k z;cases z) hq2) ⟨?_,?_⟩
   ·rw [A0b,Z14,hy,Z2f,Z0s];have e1:((zs.take m).take i).map (λz=>((Sum.inr z:Key),V.int (L z)))=((zs.take m).take i).map λz=>((Sum.inr z:Key),V.int (if z=y then 1+c4%4 else L z)):=List.map_congr_left λz hz=>by rw [Z0t (λ(e:z=y)=>hny (e▸hz))]
    rw [e1];simp
   ·intro z hz;rw [Z14,hy,Z2f] at hz;dsimp only;by_cases e:z=y
    ·rw [Z12 e];lia
    ·rw [Z0t e];exact okL z ((Z07.mp hz).resolve_right λq=>e (Z0w.mp q))
  rintro Z H11 zz;refine e08 zz ?_;clear zz;rintro o10 ms6 L0 rfl s11 hD11 ⟨hN11,hq11,hld11,okL0⟩;rw [Z08,Z18] at hld11 okL0;refine i02 (λZ G=>∃L:Str->Int,Z=[Sro C,Sio more,Sro D,Sio m,Sio tb,Sio tl,Sio seed,Sio wh,Sro N,Sro ld,o10,none,none,none,none,none]/\A0s H G/\G D=some (.lst (ms6.map V.int))/\G N=some (.lst (zs.map V.str))/\G ld=some (.dK ((zs.take m).map λy=>((Sum.inr y:Key),V.int (L y))))/\∀y∈zs.take m,1<=L y/\L y<=60) ?_ ?_
  ·refine i0o _ rfl _ _ rfl rfl (i09 C9h rfl _ rfl (A2n (λ_=> ?_) (λ_=>⟨L0,(i0i rfl s11 hD11 hN11 hld11 okL0)⟩)));have i0:=Z1v (more/4) (show (m:Int)≠0 by lia);have i1':=Z1p (more/4) (show (0:Int)<(m:Int) by lia);obtain ⟨y,hy,ey⟩:=A8x (f:=V.str) (xs:=zs) (i:=more/4%(m:Int)) i0 (by lia);refine i16 _ rfl _ _ rfl rfl ⟨by decide,by decide⟩ _ _ rfl rfl E0i (i0f _ _ rfl rfl (i0e _ rfl _ rfl (i0y _ rfl _ _ rfl rfl ⟨by decide,by decide⟩ _ rfl (i0m _ _ rfl rfl (by show (0:Int)<(m:Int);lia) (i0x N _ _ _ rfl rfl (SqL.of hN11) ey (i0f ld _ rfl (B0z.k (k:=Sum.inr y) hld11 (A1d (by rw [Z08];lia))) ?_))))));have ym:y∈zs.take m:=Z13 (i:=(more/4%(m:Int)).toNat) (by rw [List.getElem?_take_of_lt (by lia)];exact hy);have e2:=D6b (L:=L0) (v:=1+more/20%30) ym;have ap:∀{b:Addr} {u:HO},(∀kvs,u≠.dK kvs)->∀{o:HO},H11 b=some u->upd H11 ld o b=some u:=λn o e=>by rw [A0i (A1p e hld11 (n _))];exact e
   refine ⟨λz=>if z=y then 1+more/20%30 else L0 z,(i0i rfl (A0q s11 ld0) (ap (by intro k z;cases z) hD11) (ap (by intro k z;cases z) hN11) (by rw [A0b];exact congrArg (λz=>some (HO.dK z)) e2) λz hz=> ?_)⟩;dsimp only;by_cases e:z=y
   ·rw [Z12 e];lia
   ·rw [Z0t e];exact okL0 z hz
  rintro Z H12 zz;refine e00 zz ?_;clear zz;rintro L rfl s12 ⟨hD12,hN12,hld12,okL⟩;clear okL0 hld11 hN11 hD11 hq11 s11 hq10 s10 s9 s810 hld9;obtain ⟨ax,eax⟩:∃ax:List (Str×Int),ax=(zs.take m).map λy=>(y,L y):=⟨_,rfl⟩;have enm:ax.map (·.1)=zs.take m:=by rw [eax,List.map_map];exact List.map_id' _
  have elk:(zs.take m).map (λy=>((Sum.inr y:Key),V.int (L y)))=A1e ax:=by rw [eax];unfold A1e;rw [List.map_map];rfl
  rw [elk] at hld12;have eai:∀y∈zs.take m,ai (A1e ax) y=L y:=λy hy=>D8j (by rw [<-elk];exact B6d hy)
  have lok:C4r (A1e ax) (ai (A1e ax)) (ax.map (·.1)):=by
   rw [enm];refine ⟨?_,nmnd,by lia,λy hy=> ?_⟩
   ·rw [<-elk];exact List.map_congr_left λy hy=>by rw [elk,eai y hy]
   ·rw [eai y hy];have zo:=zsok y (Z2p hy);exact i04 ((okL y hy).1) ((okL y hy).2) zo.2 zo.1.2
  have lax:ax.length=m:=by have:=congrArg List.length enm;rw [Z08] at this;lia
  refine λab hab=> ?_;obtain ⟨H13,s13,hab13,eNH⟩:=nH (o:= .dK []) hab;have abld:ld≠ab:=A0h hld12 hab
  try rw [eNH]
  refine i10 _ rfl _ rfl _ rfl N _ rfl (SqL.of (s13 _ _ hN12)) λaxl haxl=> ?_;rw [B0c (f:=V.str)];have s14:A0s H13 (upd H13 axl (.lst ((zs.take m).map V.str))):=A0f haxl;have hax14:upd H13 axl (.lst ((zs.take m).map V.str)) axl=some (.lst ((ax.map (·.1)).map V.str)):=by rw [enm];exact A0b
  have axD:D≠axl:=A0h (s13 _ _ hD12) haxl;have abax:ab≠axl:=A0h hab13 haxl;generalize upd H13 axl (.lst ((zs.take m).map V.str))=H14 at s14 hax14;refine i06 _ rfl (A1j rfl) λah hah=> ?_;obtain ⟨H15,s15,hah15,eNH⟩:=nH (o:= .lst []) hah;have axah:axl≠ah:=A0h hax14 hah;have Dah:D≠ah:=A0h (s14 _ _ (s13 _ _ hD12)) hah;have Nah:N≠ah:=A0h (s14 _ _ (s13 _ _ hN12)) hah;have ah0:H ah=none:=s12.free (s13.free (s14.free hah))
  try rw [eNH]
  refine λsh hsh=> ?_;obtain ⟨H16,s16,hsh16,eNH⟩:=nH (o:= .dK []) hsh;have absh:ab≠sh:=A0h ((s14.trans s15) _ _ hab13) hsh;have ldsh:ld≠sh:=A0h ((s13.trans (s14.trans s15)) _ _ hld12) hsh;have sh0:H sh=none:=s12.free ((s13.trans (s14.trans s15)).free hsh)
  try rw [eNH]
  have s1316:=s14.trans (s15.trans s16);have s1216:=s13.trans s1316;have hab16:=s1316 _ _ hab13;have ab0:H ab=none:=s12.free hab;refine i0a hab16 (ab4 axl ld ah sh) rfl (by show 4<=15;decide) ?_;rw [C7i];have U17:∀{b:Addr} {u:HO},b≠ab->H16 b=some u->upd H16 ab (.dK (ab4 axl ld ah sh)) b=some u:=λn e=>by rw [A0i n];exact e
  have hab17:upd H16 ab (.dK (ab4 axl ld ah sh)) ab=some (.dK (ab4 axl ld ah sh)):=A0b;have f17:∀{b:Addr},upd H16 ab (.dK (ab4 axl ld ah sh)) b=none->H16 b=none:=λe=>(A8e e).2;generalize upd H16 ab (.dK (ab4 axl ld ah sh))=H17 at U17 hab17 f17;refine i0o _ rfl ab _ rfl (B0z.k (k:=Sum.inr "own") hab17 (A1d (by show 4<=1000000;decide))) ?_;rw [D5k];have U18:∀{b:Addr} {u:HO},b≠ab->H17 b=some u->upd H17 ab (.dK (ab5 axl ld ah sh)) b=some u:=λn e=>by rw [A0i n];exact e
  have hab18:upd H17 ab (.dK (ab5 axl ld ah sh)) ab=some (.dK (ab5 axl ld ah sh)):=A0b;have f18:∀{b:Addr},upd H17 ab (.dK (ab5 axl ld ah sh)) b=none->H17 b=none:=λe=>(A8e e).2;generalize upd H17 ab (.dK (ab5 axl ld ah sh))=H18 at U18 hab18 f18;have U1618:∀{b:Addr} {u:HO},b≠ab->H16 b=some u->H18 b=some u:=λn e=>U18 n (U17 n e);refine λtr htr=> ?_;obtain ⟨H19,s19,htr19,eNH⟩:=nH (o:= .dK []) htr;have abtr:ab≠tr:=A0h hab18 htr;have tr0:H tr=none:=s12.free (s1216.free (f17 (f18 htr)));have shtr:sh≠tr:=A0h (U1618 absh.symm hsh16) htr;have ldtr:ld≠tr:=A0h (U1618 abld (s1216 _ _ hld12)) htr
  try rw [eNH]
  refine i0o _ rfl ab _ rfl (B0z.k (k:=Sum.inr "trees") (s19 _ _ hab18) (A1d (by show 5<=1000000;decide))) ?_;rw [D5q];have U20:∀{b:Addr} {u:HO},b≠ab->H19 b=some u->upd H19 ab (.dK (ab6 axl ld ah sh tr)) b=some u:=λn e=>by rw [A0i n];exact e
  have hab20:upd H19 ab (.dK (ab6 axl ld ah sh tr)) ab=some (.dK (ab6 axl ld ah sh tr)):=A0b;generalize upd H19 ab (.dK (ab6 axl ld ah sh tr))=H20 at U20 hab20;refine i0v _ rfl _ rfl ab _ rfl (B0z.k (k:=Sum.inr "wheel") hab20 (A1d (by show 6<=1000000;decide))) ?_;rw [D4v];have U21:∀{b:Addr} {u:HO},b≠ab->H20 b=some u->upd H20 ab (.dK (abK ⟨axl,ld,ah,sh,"",tr,wh⟩)) b=some u:=λn e=>by rw [A0i n];exact e
  have hab21:upd H20 ab (.dK (abK ⟨axl,ld,ah,sh,"",tr,wh⟩)) ab=some (.dK (abK ⟨axl,ld,ah,sh,"",tr,wh⟩)):=A0b;generalize upd H20 ab (.dK (abK ⟨axl,ld,ah,sh,"",tr,wh⟩))=H21 at U21 hab21;have U1621:∀{b:Addr} {u:HO},b≠ab->H16 b=some u->H21 b=some u:=λn e=>U21 n (U20 n (s19 _ _ (U1618 n e)));have s21:A0s H H21:=λb u e=>U1621 (A0h e ab0) (s1216 _ _ (s12 _ _ e));have lsne:∀{b:Addr} {u:HO},H16 b=some u->(∀kvs,u≠.dK kvs)->b≠ab:=λe n=>A1p e hab16 (n _);have hD21:=U1621 (lsne (s1216 _ _ hD12) (by intro k z;cases z)) (s1216 _ _ hD12);have hN21:=U1621 (lsne (s1216 _ _ hN12) (by intro k z;cases z)) (s1216 _ _ hN12);have hld21:=U1621 abld (s1216 _ _ hld12);have hax21:=U1621 abax.symm ((s15.trans s16) _ _ hax14);have hah21:=U1621 (lsne (s16 _ _ hah15) (by intro k z;cases z)) (s16 _ _ hah15);have hsh21:=U1621 absh.symm hsh16;have htr21:H21 tr=some (.dK []):=U21 abtr.symm (U20 abtr.symm htr19);have hC21:=s21 _ _ hC;clear U1621 U21 U20 U1618 U18 U17 f17 f18 hab20 hab18 hab17 hab16 hsh16 htr19 s19 s1216 s1316 s13 s14 s15 s16 hax14 hah15 hab13 hD12 hN12 hld12;have emt:m+tb<=zs.length:=by lia
  refine i0e _ rfl _ rfl (i0e _ rfl _ rfl (i10 _ rfl _ rfl _ rfl _ _ rfl rfl (i0o _ rfl N _ rfl (SqL.of hN21) λtq htq=> ?_)));rw [D3o (f:=V.str) emt];obtain ⟨H22,s22,htq22,eNH⟩:=nH (o:= .lst (((zs.drop m).take tb).map V.str)) htq;have tqD:D≠tq:=A0h hD21 htq;have tqah:ah≠tq:=A0h hah21 htq
  try rw [eNH]
  have s22':=s21.trans s22;have Cne:∀{b:Addr},H b=none->C≠b:=λe=>A0h hC e;have tnd:((zs.drop m).take tb).Nodup:=zsnd.sublist ((Z2o _ _).trans (List.drop_sublist _ _));refine i0e _ rfl _ rfl (i0t D ab tq C more ms6 cs (i1c ⟨axl,ld,ah,sh,"",tr,wh⟩ (ai (A1e ax)) (ax.map (·.1)) ((zs.drop m).take tb) (A1e ax) rfl (s22 _ _ hD21) (s22 _ _ hab21) (s22 _ _ hax21) (by rw [Z08];lia) (s22 _ _ hld21) lok (s22 _ _ hah21) (i0i (s22 _ _ hsh21) htq22 tnd (by rw [Z0x];lia) (s22 _ _ hC21) (i0i (by lia) ?_ Dah (A1p hD21 hsh21 (by intro z;cases z)) (A1p hah21 hsh21 (by intro z;cases z)) ?_))))
  ·intro b hb;simp only [Z0e,Z1i,or_false] at hb⊢;rcases hb with rfl | rfl | rfl | rfl | rfl
   ·rintro (z | z | z)
    ·exact A1p hab21 hD21 (by intro z;cases z) z
    ·exact A1p hab21 hah21 (by intro z;cases z) z
    ·exact absh z
   ·rintro (z | z | z)
    ·exact axD z.symm
    ·exact axah z
    ·exact A1p hax21 hsh21 (by intro z;cases z) z
   ·rintro (z | z | z)
    ·exact A1p hld21 hD21 (by intro z;cases z) z
    ·exact A1p hld21 hah21 (by intro z;cases z) z
    ·exact ldsh z
   ·rintro (z | z | z)
    ·exact tqD z.symm
    ·exact tqah z.symm
    ·exact A1p htq22 (s22 _ _ hsh21) (by intro z;cases z) z
   ·rintro (z | z | z)
    ·exact Cne hD0 z
    ·exact Cne ah0 z
    ·exact Cne sh0 z
  intro qt tt nu ak nk td ms7 H23 k23 hD23 hqt23 htt0 hnu0 etd tok hah23 hsh23 ar23 rp23 hnu23 tk23;refine i18 qt _ rfl (SqT.of hqt23) rfl _ _ rfl _ _ rfl rfl ?_
  have mem3:∀{b:Addr},b≠D->b≠ah->b≠sh->b∉[D,ah,sh]:=λn1 n2 n3 m=>by
   simp only [Z0e,Z1i,or_false] at m;rcases m with m | m | m
   ·exact n1 m
   ·exact n2 m
   ·exact n3 m
  have U23:∀{b:Addr} {u:HO},b≠D->b≠ah->b≠sh->H22 b=some u->H23 b=some u:=λn1 n2 n3 e=>k23 _ _ (mem3 n1 n2 n3) e;have s23:A0s H H23:=λb u e=>U23 (A0h e hD0) (A0h e ah0) (A0h e sh0) (s22' _ _ e);have hab23:=U23 (A1p hab21 hD21 (by intro z;cases z)) (A1p hab21 hah21 (by intro z;cases z)) absh (s22 _ _ hab21);have hld23:=U23 (A1p hld21 hD21 (by intro z;cases z)) (A1p hld21 hah21 (by intro z;cases z)) ldsh (s22 _ _ hld21);have hax23:=U23 axD.symm axah (A1p hax21 hsh21 (by intro z;cases z)) (s22 _ _ hax21);have hN23:=U23 ND Nah (A1p hN21 hsh21 (by intro z;cases z)) (s22 _ _ hN21);have htr23:=U23 (A1p htr21 hD21 (by intro z;cases z)) (A1p htr21 hah21 (by intro z;cases z)) shtr.symm (s22 _ _ htr21);have hC23:=s23 _ _ hC;have e3:((m:Int)+(tb:Int))=((m+tb:Nat):Int):=by lia
  refine i02 _ rfl (i10 _ rfl _ rfl _ rfl _ _ rfl rfl (i0o _ rfl N _ rfl (SqL.of hN23) λlq hlq=> ?_));have ecut:B4b (zs.map V.str) (some ((m:Int)+(tb:Int))) none=(zs.drop (m+tb)).map V.str:=by rw [e3,B7d (by rw [Z08];lia),List.map_drop]
  rw [ecut];obtain ⟨H24,s24,hlq24,eNH⟩:=nH (o:= .lst ((zs.drop (m+tb)).map V.str)) hlq;have lqah:ah≠lq:=A0h hah23 hlq
  try rw [eNH]
  obtain ⟨cs2,ecs2,lcs2,_⟩:=A8t V.int cs (some 14) none;refine i0v _ rfl _ rfl C _ rfl (SqL.of (s24 _ _ hC23)) λC2 hC2=> ?_;rw [ecs2];obtain ⟨H25,s25,hC25,eNH⟩:=nH (o:= .lst (cs2.map V.int)) hC2;have C2ah:ah≠C2:=A0h (s24 _ _ hah23) hC2
  try rw [eNH]
  have s2325:=s24.trans s25
  have mem4:∀{b:Addr},b≠ab->b≠ah->b≠sh->b≠tr->b∉[ab,ah,sh,tr]:=λn1 n2 n3 n4 m=>by
   simp only [Z0e,Z1i,or_false] at m;rcases m with m | m | m | m
   ·exact n1 m
   ·exact n2 m
   ·exact n3 m
   ·exact n4 m
  have new4:∀{b:Addr},H22 b=none->b∉[ab,ah,sh,tr]:=λe=>mem4 (λz=>by rw [z,s22 _ _ hab21] at e;cases e) (λz=>by rw [z,s22 _ _ hah21] at e;cases e) (λz=>by rw [z,s22 _ _ hsh21] at e;cases e) (λz=>by rw [z,s22 _ _ htr21] at e;cases e);have enames:(td.map (·.1)).map (·.1)=(zs.drop m).take tb:=by rw [<-etd,List.map_map];rfl
  have eall:(zs.drop m).take tb++zs.drop (m+tb)=zs.drop m:=by rw [<-List.drop_drop,Z2e]
  have ltd:td.length=tb:=by have:=congrArg List.length etd;rw [Z08,Z0x,Z19] at this;lia
  have lsd:∀{b c:Addr} {xs:List V} {kvs:List (Key×V)},H25 b=some (.lst xs)->H25 c=some (.dK kvs)->b≠c:=λe1 e2=>A1p e1 e2 (by intro z;cases z);have hab25:=s2325 _ _ hab23;have hah25:=s2325 _ _ hah23;have hsh25:=s2325 _ _ hsh23;have htr25:=s2325 _ _ htr23;have hld25:=s2325 _ _ hld23;have hax25:=s2325 _ _ hax23;have hlq25:=s25 _ _ hlq24;refine i02 _ rfl (i0h ab lq C2 more (i19 cs2 ⟨axl,ld,ah,sh,"",tr,wh⟩ ax (zs.drop (m+tb)) (td.map (·.1)) ak rfl hab25 hax25 (by lia) hld25 lok (i0i (λy hy=>by rw [enm] at hy;exact (zsok y (Z2p hy)).1) (by rw [enames];exact hah25) hsh25 (ar23.imp λb xs n e=>⟨new4 n,s2325 _ _ e⟩) (λe he=> ?_) (i0i (by rw [Z08];lia) htr25 hlq25 (by rw [enames,eall];exact zsnd.sublist (List.drop_sublist _ _)) (by rw [Z19];lia) (i0i (λy hy=>(zsok y (List.mem_of_mem_drop hy)).1) hC25 (by lia) ?_ ?_ ?_)))))
  ·obtain ⟨e',he',rfl⟩:=Z2c.mp he;refine ⟨(tok e' he').ax,(zsok _ ?_).1⟩;have:e'.1.1∈(zs.drop m).take tb:=by rw [<-etd];exact Z2c.mpr (i02 e' he' rfl)
   exact List.mem_of_mem_drop (Z2p this)
  ·intro b hb;simp only [Z0e,Z1i,or_false] at hb;rcases hb with rfl | rfl | rfl | rfl
   ·exact mem4 (lsd hax25 hab25) axah (lsd hax25 hsh25) (lsd hax25 htr25)
   ·exact mem4 abld (λz=>lsd hah25 hld25 z.symm) ldsh ldtr
   ·exact mem4 (lsd hlq25 hab25) lqah.symm (lsd hlq25 hsh25) (lsd hlq25 htr25)
   ·exact mem4 (lsd hC25 hab25) C2ah.symm (lsd hC25 hsh25) (lsd hC25 htr25)
  ·simp only [Z15,Z0e,Z1i,or_false,List.nodup_nil,not_or,not_false_eq_true,and_true];exact i00 (i00 (λz=>lsd hah25 hab25 z.symm) absh abtr) ⟨lsd hah25 hsh25,lsd hah25 htr25⟩ shtr
  intro ll ow lv ak' trk lds H27 k27 hll0 hll27 lo27 eln hab27 hsh27 ar27 htr27 tra27 tma ldok;have U27:∀{b:Addr} {u:HO},b∉[ab,ah,sh,tr]->H23 b=some u->H27 b=some u:=λn e=>k27 _ _ n (s2325 _ _ e);have s27:A0s H H27:=λb u e=>U27 (mem4 (A0h e ab0) (A0h e ah0) (A0h e sh0) (A0h e tr0)) (s23 _ _ e);have hN27:=U27 (mem4 (λz=>lsd (s2325 _ _ hN23) hab25 z) Nah (λz=>lsd (s2325 _ _ hN23) hsh25 z) (λz=>lsd (s2325 _ _ hN23) htr25 z)) hN23;have hld27:=U27 (mem4 abld (λz=>lsd hah25 hld25 z.symm) ldsh ldtr) hld23;have R27:A0s (A1w (λb=>H22 b=none) H23) H27:=λb u e=>U27 (new4 (A0z e).1) (A0z e).2;have rp27:=rp23.same R27;have hnu27:=U27 (new4 hnu0) hnu23;have tk27:C4t H27 nk (B5k td):=(tk23.imp (S':=λ_=>True) λb xs n e=>⟨True.intro,U27 (new4 n) e⟩).at;refine i10 _ rfl _ rfl _ rfl N _ rfl (SqL.of hN27) λq3 hq3=> ?_;rw [B0c (f:=V.str)];obtain ⟨H28,s28,hq28,eNH⟩:=nH (o:= .lst ((zs.take m).map V.str)) hq3
  try rw [eNH]
  refine i06 q3 rfl ⟨_,SqL.of hq28⟩ λA1 hA=> ?_;refine A4a (K:=K) (a:=q3) (D:=A1) (xs:=(zs.take m).map V.str) (λj vs G=>A0s H28 G/\G A1=some (.lst vs)/\Paired (λ(v:V) (e:Str×Int)=>∃q,v= .ref q/\G q=some (.tup [.str e.1,.int e.2])) vs (ax.take j)) (i00 (A0f hA) A0b .nil) (by rintro j vs G ⟨sg,_⟩;exact SqL.of (sg _ _ hq28)) ?_ ?_
  ·rintro j v vs G hv ⟨sg,hAg,pg⟩;obtain ⟨y,hy,rfl⟩:=A2b hv;have hj:j<m:=by have:=(Z03.mp hy).1;lia
   have lv':=Paired.length pg;have ym:=Z13 hy;have g:=A5a.k (H:=G) (a:=ld) (k:=Sum.inr y) (sg _ _ (s28 _ _ hld27));rw [lok.val (by rw [enm];exact ym),eai y ym] at g;refine ⟨⟨rfl,True.intro⟩,(i10 _ rfl _ rfl _ rfl ld _ rfl g ⟨A1j rfl,λt1 ht1=> ?_⟩)⟩;have st:A0s G (upd G t1 (.tup [.str y,.int (L y)])):=A0f ht1;have kt:KT (upd G t1 (.tup [.str y,.int (L y)])) (upd (upd G t1 (.tup [.str y,.int (L y)])) A1 (.lst (vs++[.ref t1]))):=KT.at (st _ _ hAg) (by intro xs z;cases z);refine i08 (st _ _ hAg) (A1d (by rw [lv',Z0x];lia)) (A0q (sg.trans st) hA) A0b ?_;have hax:ax[j]? =some (y,L y):=by rw [eax,Z1z,hy];rfl
   rw [Z14,hax,Z2f];exact B3s (Paired.mapP pg (by rintro _ _ ⟨q,e1,e2⟩;exact i02 q e1 (kt _ _ (st _ _ e2)))) (.cons (i02 t1 rfl (kt _ _ A0b)) .nil)
  rintro vs H29 ⟨s29,hA29,pg⟩;rw [Z08,lnm,<-lax,Z18] at pg;have rpA:Rep H29 (.ref A1) (A5e ax):= .lst hA29 (C7w pg);have s2729:=s28.trans s29;have hmz:zs[m]? =some zs[m]:=Z0b (by lia);refine i0e _ rfl _ rfl (i0e _ rfl _ rfl (i1a _ rfl _ rfl N _ _ _ rfl rfl (SqL.of (s2729 _ _ hN27)) (show atI (zs.map V.str) (m:Int)=some (.str zs[m]) from A0j (by rw [Z1z,hmz];rfl)) (A1j rfl) λol hol=> ?_));have s30:A0s H29 (upd H29 ol (.lst [.str zs[m]])):=A0f hol;have hol30:upd H29 ol (.lst [.str zs[m]]) ol=some (.lst (([zs[m]]:List Str).map V.str)):=A0b;generalize upd H29 ol (.lst [.str zs[m]])=H30 at s30 hol30;refine λp dx hp hdx hne=> ?_;have s31:A0s H30 (upd (upd H30 dx (.own p)) p (.ins t.ae dx [])):=A0q (A0f hdx) hp;have hp31:upd (upd H30 dx (.own p)) p (.ins t.ae dx []) p=some (.ins t.ae dx []):=A0b;generalize upd (upd H30 dx (.own p)) p (.ins t.ae dx [])=H31 at s31 hp31;have s2730:=s2729.trans s30;have s2731:=s2730.trans s31;have llv:=Paired.length lo27;have llds:lds.length=tl:=by have:=congrArg List.length eln;rw [Z08,Z19] at this;lia
  refine i03 p dx (i0h A1 tt ll ol (i1c wh ax (td.map (·.1)) lv [zs[m]] rfl hp31 (rpA.same (s30.trans s31)) (by lia) (rp27.same s2731) (by rw [Z08];lia) (λe he=> ?_) (s2731 _ _ hll27) (i08 (by lia) (λv hv=> ?_) (s31 _ _ hol30) (by simp) λa' t' l' o' H32 hp32 ra rt hl32 ho32 kb=>⟨rfl,?_⟩)))
  ·obtain ⟨e',he',rfl⟩:=Z2c.mp he;have:=(tok e' he').ax.few
   lia
  ·obtain ⟨j,hj⟩:=List.getElem?_of_mem hv;obtain ⟨e,_,lt,dl,cx,tv,rfl,hlt,_⟩:=B1e lo27 hj;exact i0n lt dl _ rfl (A0h (s2730 _ _ hlt) hp) (s2731 _ _ hlt)
  refine i0l _ rfl _ rfl (A1j rfl) λqq hqq=> ?_;have s2732:A0s H27 H32:=λb u e=>kb b u (A0h (s2730 _ _ e) hp) (s2731 _ _ e);have s33:A0s H32 (upd H32 qq (.tup [.ref p,.ref ab,.ref nu])):=A0f hqq
  have st:Ps wh ax td lds:=by
   refine ⟨lok,?_,λe he=> ?_,by lia,by lia,whok,λe he=>(i00 ((tok e he).ls) ((tok e he).good) ((tok e he).ln)),λe he=>(i00 ((ldok e he).ls) ((ldok e he).good) ((ldok e he).rd)),λi e he=>tma i e he⟩
   ·have e1:(B0k td lds).map (·.1)=zs.drop m:=by
     unfold B0k;rw [Z0s,enames,List.map_map];show _++lds.map (·.x)=_;rw [eln,eall]
    rw [e1];exact zsnd.sublist (List.drop_sublist _ _)
   ·rcases Z07.mp he with z | z
    ·obtain ⟨e',he',rfl⟩:=Z2c.mp z;exact (tok e' he').ax
    ·obtain ⟨e',he',rfl⟩:=Z2c.mp z;exact (ldok e' he').axn
  have pk:Pk t H32 p ab nu ⟨axl,ld,ah,sh,ow,tr,wh⟩ ax td lds:=⟨st,(i07 lv [zs[m]] ⟨⟨dx,(i0x a' t' l' o' hp32 ra rt hl32 ho32)⟩⟩ (Paired.mapP lo27 λ_ _ q=>q.kx λb u _ _ e=>s2732 _ _ e)),s2732 _ _ hab27,s2732 _ _ hld27,(i02 ak' (s2732 _ _ hsh27) (ar27.same s2732)),(i02 trk (s2732 _ _ htr27) (Paired.mapP tra27 (by rintro _ _ ⟨z1,z2⟩;exact ⟨z1,z2.same s2732⟩))),(i02 nk (s2732 _ _ hnu27) (tk27.same s2732))⟩;exact k qq p ab nu _ ax td lds _ (s27.trans (s2732.trans s33)) A0b (pk.same s33) λz=>by rw [z] at llds;simp at llds;lia
def ScF (K:Frag) (H:Hp) (a:Addr) (xs:List V):Prop:=(∃o,H a=some (.frz o (.lst xs)))\/∀H',SqL K H' a xs
theorem ScF.mk (o:D9n H) (s:SqL K H a xs):ScF K H a xs:=by
 rcases s with (h | ⟨o',h⟩) | h
 ·rcases o a with z | ⟨o',ys,z⟩
  ·rw [h] at z;cases z
  ·rw [h] at z;cases z
 ·exact .inl ⟨o',h⟩
 ·exact .inr λH'=> .inr h
theorem ScF.sq (s:ScF K H a xs):SqL K H a xs:=by
 rcases s with ⟨o,h⟩ | h
 ·exact .inl (.inr ⟨o,h⟩)
 ·exact h H
theorem ScF.keep (s:ScF K H a xs) (f:∀o,H a=some (.frz o (.lst xs))->H' a=some (.frz o (.lst xs))):ScF K H' a xs:=by
 rcases s with ⟨o,h⟩ | h
 ·exact .inl ⟨o,f o h⟩
 ·exact .inr h
theorem ScF.same (s:ScF K H a xs) (f:A0s H H'):ScF K H' a xs:=s.keep λo e=>f _ _ e
def D0n (K:Frag):Sp:=λvs H Q _=>∃(a:Addr) (ns:List Int),vs=[.ref a]/\ScF K H a (ns.map V.int)/\ns.length<=63/\∀H',Q (.bl true) H'
theorem D2h {x:Abt} (h:lds≠[]) (tk:C4t H rk (B0q (A9x x ax td lds))):rk≠[]:=λz=>by
 have h1:=Paired.length tk;have h2:=congrArg List.length (B4z (A9x x ax td lds));unfold A9x at h1 h2;rw [A8c] at h2;rw [Z08,Z08] at h2;unfold B0k at h2;rw [Z06,Z08,Z08] at h2;rw [z] at h1;have:=List.length_pos_iff.mpr h;simp only [Z2g] at h1
 lia
theorem D7v (T:Txt K mg t):FO P w base T.qk 23 (D0n K):=by
 have Ge6:= @C3u P w K mg base t T;have Ge7:= @B8i P w K mg base t T;refine T.qk.F.ok A9b (by walk_at "ln") λ_ A _ s H _ Q E hr h=> ?_
 ·obtain ⟨a,ns,rfl,hS,hn,k⟩:=h;have hu:=A4z hr
  refine ⟨_,(A0c (A0l (i:=1) A9b.nd (A2q A3r (pv 0) (A2x A0g) (A2x A0g)))
   (A0c (B4e (pcl Ge7 hr T.de (A0a (pv 1) (A0a (A0y (C1q rfl) (by rfl) T.qi PyProof.Rows.boot_sum (A0a (A2q A3r (pv 0) A3y (A2x A0g)) A0d)) A0d))) (A4y (n:=3) rfl (A1b (A0m (i:=2) A9b.nd) (A1b (A0m (i:=3) A9b.nd) (A1b (A0m (i:=4) A9b.nd) A3m)))))
   (A0c (B4e (pcl Ge7 hr T.de (A0a (A2q A3r (A3h (N':=["_law_cell_here"]) (ix:=(List.replicate 1 none)) rfl (A3f rfl (by decide +kernel) (by decide +kernel)) (A3c rfl) (D1v rfl T.mn (A0a (pv 1) A0d)) (λ_ _ _ _=>(A0m (i:=0) C4q)) (λ_ _ _ _=>(pv 0))) A3y (A2x A0g)) (A0a (A0y A1c (by rfl) T.bd Z0r (A0a (pv 0) A0d)) A0d))) (A4y (n:=3) rfl (A1b (A0m (i:=5) A9b.nd) (A1b (A0m (i:=6) A9b.nd) (A1b (A0m (i:=7) A9b.nd) A3m)))))
   (A0c (A0l (i:=8) A9b.nd (pcl Ge6 hr T.eu (A0a (pv 2) (A0a (pv 3) (A0a (pv 4) A0d)))))
   (A0c (A1o (PW.pt (B3t (A0w (C2o hr.units) (pv 8) A2y (A1f _)) (B1r (A0w (C2o hr.units) (pcl Ge6 hr T.eu (A0a (pv 5) (A0a (pv 6) (A0a (pv 7) A0d)))) A2y (A1f _)))))
    (A0e (A0o B0v))
    A0r)
   (A0e (A0o (C8t (D7n hr.units) (pcl Ge6 hr T.eu (A0a (pv 2) (A0a (pv 3) (A0a (pv 4) A0d)))) (pv 8) (A1f _))))))))),?_⟩
  obtain ⟨zs,ez,lz,_⟩:=A8t V.int ns (some 1) (some 300);refine i10 _ rfl _ rfl _ rfl a _ rfl hS.sq λC hC=> ?_;rw [ez];obtain ⟨H1,s1,hC1,eNH⟩:=nH (o:= .lst (zs.map V.int)) hC
  try rw [eNH]
  obtain ⟨z1,ez1,_,_⟩:=A8t V.int ns none (some 1);refine i10 _ rfl _ rfl _ rfl a _ rfl ((hS.same s1).sq) λp1 hp1=> ?_;rw [ez1];have s2:A0s H1 (upd H1 p1 (.lst (z1.map V.int))):=A0f hp1;refine i0f p1 z1 rfl (SqL.of A0b) λmore=> ?_;generalize upd H1 p1 (.lst (z1.map V.int))=H2 at s2;refine i0q C more zs rfl (s2 _ _ hC1) (by lia) λq p ab nu x ax td lds H3 s3 hq3 pk ne=> ?_;refine i0f q _ rfl (SqT.of hq3) (i0b rfl _ _ rfl ⟨_,(i0o _ rfl _ _ rfl rfl ?_)⟩);have hC3:=s3 _ _ (s2 _ _ hC1);have sH3:=s1.trans (s2.trans s3);refine i0o _ rfl C _ rfl (SqL.of hC3) λD hD=> ?_;refine A5r (D:=D) (zs.map V.int).length (λi ys G=>A0s H3 G/\G D=some (.lst ys)/\∃ms:List Int,ys=ms.map V.int/\ms.length=i) (i09 (A0f hD) A0b [] rfl rfl) (by rintro i ys G hi ⟨sg,_⟩;exact i0m _ ((zs.map V.int)[(zs.map V.int).length-1-i]) (SqL.of (sg _ _ hC3)) rfl hi (Z0b (by lia))) (λys G _=>rfl) ?_ ?_
  ·rintro i ys G hi ⟨sg,hDg,ms,rfl,hms⟩ x' G2 ⟨rfl,hx⟩;have hx:=hx _ (SqL.of (sg _ _ hC3));rw [Z1z] at hx;obtain ⟨z,_,rfl⟩:=Z0i.mp hx;exact i0a True.intro _ rfl hDg ⟨A1d (by simp at hi⊢;lia),(i09 (A0q sg hD) A0b (ms++[z]) (by simp) (by simp [hms]))⟩
  rintro ys H4 ⟨s4,hD4,ms,rfl,hms⟩;rw [Z08] at hms;obtain ⟨z2,ez2,lz2,_⟩:=A8t V.int ms none (some 40);refine i0o _ rfl D _ rfl (SqL.of hD4) λC2 hC2=> ?_;rw [ez2];obtain ⟨H5,s5,hC25,eNH⟩:=nH (o:= .lst (z2.map V.int)) hC2
  try rw [eNH]
  have s35:=s4.trans s5;refine i0o _ rfl a _ rfl (.inl (hS.same (sH3.trans s35)).sq) ?_;refine i0q C2 _ z2 rfl hC25 (by lia) λq' p' ab' nu' x' ax' td' lds' H6 s6 hq6 pk' ne'=> ?_;refine i0f q' _ rfl (SqT.of hq6) (i0b rfl _ _ rfl ⟨_,(i0o _ rfl _ _ rfl rfl ?_)⟩);have s36:=s35.trans s6;have pk6:=pk.same s36;refine i15 _ rfl _ rfl _ rfl p ab nu x ax td (i06 lds rfl pk6 λr rk H7 hr0 s7 hr7 tk7=> ?_);refine i02 _ rfl λe he=>(i0n r e rk rfl rfl (i09 ((A0f he) _ _ hr7) A0b _ rfl (A2n (λz=>absurd z (D2h ne tk7)) (λ_=> ?_))));have s8:A0s H7 (upd H7 e (.dK [])):=A0f he;generalize upd H7 e (.dK [])=H8 at s8;refine i15 _ rfl _ rfl _ rfl p' ab' nu' x' ax' td' (i06 lds' rfl (pk'.same (s7.trans s8)) λr' rk' H9 hr0' s9 hr9 tk9=> ?_);refine λe2 he2=>(i0n r' e2 rk' rfl rfl (i09 ((A0f he2) _ _ hr9) A0b _ rfl (A2n (λz=>absurd z (D2h ne' tk9)) (λ_=> ?_))));have s10:A0s H9 (upd H9 e2 (.dK [])):=A0f he2;generalize upd H9 e2 (.dK [])=H10 at s10;have s710:=s8.trans (s9.trans s10);refine i15 _ rfl _ rfl _ rfl p ab nu x ax td (i06 lds rfl (pk6.same (s7.trans s710)) λr2 rk2 H11 hr02 s11 hr11 tk11=> ?_);have s711:=s710.trans s11;exact i11 _ rfl r2 r rk2 rk rfl rfl (Rd.of hr11) (Rd.of (s711 _ _ hr7)) ⟨D3y tk11 (tk7.same s711),k H11⟩
end My
namespace PySem.W.Fast
def tw15553934486774703002:=()
def tw87598821544768888:=()
def tw8031571202505239174:=()
def tw17611888369557847609:=()
def tw12651461638841716784:=()
def tw4713292595221039575:=()
def tw8251700887012300922:=()
def tw9738704078968379851:=()
def tw3903520700491802526:=()
def tw5631840800450558023:=()
def tw18372968446686774175:=()
def tw8789713350959815696:=()
def tw13272585235389080551:=()
def tw5186948861293257041:=()
def tw9500559728421044619:=()
def tw130555594162943195:=()
def tw16724003316692495937:=()
def tw10907686601703659900:=()
def tw6546236115687114950:=()
def tw11731827236254835363:=()
def tw6115717435506118684:=()
def tw1318410071716839281:=()
def tw16459700346165275276:=()
def tw11685237926637277855:=()
def tw15916146218179804224:=()
def tw15682768234690894700:=()
def tw16914519171076109463:=()
def tw167371268485543913:=()
def tw18189344866746978552:=()
def tw15933312895230543773:=()
def tw1914328431836030747:=()
def tw5271358323140348227:=()
def tw16151356138683016363:=()
def tw2837763770788216363:=()
def tw1515608744745092454:=()
def tw12881574322172028189:=()
def tw18216251355987359750:=()
def tw642608326188463069:=()
def tw10390982880412452154:=()
def tw17305142186121103488:=()
def tw15548257328936467055:=()
def tw588805424139841013:=()
def tw16367175193590278150:=()
def tw5611304818263961296:=()
def tw15026551530812174886:=()
def tw4567829219269487771:=()
def tw3763941674752417450:=()
def tw7222494355683600788:=()
def tw5090952690531138958:=()
def tw17031636655220881913:=()
def tw13123034355555531997:=()
def tw3474067484915647837:=()
def tw12249663813869930077:=()
def tw10981130060858166091:=()
def tw1195939307862103155:=()
def tw5397718401656869403:=()
def tw352422858413885200:=()
def tw8356981340844926363:=()
def tw5744977964489711882:=()
def tw8273918035908959284:=()
def tw1240690217609515450:=()
def tw9005510483385101317:=()
def tw10923055680380222661:=()
def tw10547451571003925970:=()
def tw12787611318964475244:=()
def tw2161897111776293516:=()
def tw3166285610822996084:=()
def tw15421936974698391592:=()
def tw11025128628645390532:=()
def tw5300086878995604396:=()
def tw7210187569563760182:=()
def tw1205598734175169128:=()
def tw14556271159323852342:=()
def tw8311195514096825372:=()
def tw3801698800765593040:=()
def tw270092779222737458:=()
def tw13027221072685237872:=()
def tw15017874066195576683:=()
def tw11006992379989630042:=()
def tw17009281383427261612:=()
def tw2899802131911620451:=()
def tw4669451675921371062:=()
def tw11523309774615789914:=()
def tw18044270304662373040:=()
def tw17294775732389325412:=()
def tw988581688108573985:=()
def tw17285114854750557582:=()
def tw12344884409176043620:=()
def tw2158551259582805328:=()
def tw14702728456054997301:=()
def tw9837809866434156298:=()
def tw8308361313521521942:=()
def tw12554350243449201608:=()
def tw16024827007368177321:=()
def tw11194416510642355483:=()
def tw11675980784283695722:=()
def tw6660849265171007523:=()
def tw2779938208967980603:=()
def tw8044214314526508515:=()
def tw14474134926112083147:=()
def tw12972628821017152674:=()
def tw6665657527701846930:=()
def tw7625257209996668543:=()
def tw6354875109950850778:=()
def tw18245068672796954809:=()
def tw17077976316021634846:=()
def tw2198350667097513908:=()
def tw17997561688611724865:=()
def tw18056228342680625771:=()
def tw16207004722851346678:=()
def tw2549041233951892726:=()
def tw4343466642528209247:=()
def tw15369001218941922695:=()
def tw3550227600681811757:=()
def tw12521104228789742594:=()
def tw9856341918558773635:=()
def tw15495919440161608110:=()
def tw11423798648626626225:=()
def tw6224929481109416003:=()
def tw12940329008763482600:=()
def tw6635468393753111220:=()
def tw14759462861522774375:=()
def tw1818751844998509363:=()
def tw5098952507581301394:=()
def tw222401814779437266:=()
def tw2482208168204030483:=()
def tw7801537849162304958:=()
def tw14392584993220752941:=()
def tw11146390906393902845:=()
def tw5005577183659171865:=()
def tw712263071750072459:=()
def tw8229111577037672993:=()
def tw2293001050854272153:=()
def tw11990355475179056001:=()
def tw10821681332251237177:=()
def tw7804453388029330153:=()
def tw17829309224258716891:=()
def tw10982453561380613935:=()
def tw877194033048602629:=()
def tw7035408651372771015:=()
def tw1792376974697516814:=()
def tw13553081669512212578:=()
def tw4398716179426049810:=()
def tw6576001625681041832:=()
def tw743032508872003117:=()
def tw15097680339522566846:=()
def tw5874560013567125630:=()
def tw17541291262418698119:=()
def tw1242131028566898202:=()
def tw561430497291584427:=()
def tw13467251289549479043:=()
def tw5427587719347286991:=()
def tw9919520606219721760:=()
def tw9049595180043240800:=()
def tw8559928736361251676:=()
def tw14926743855065715638:=()
def tw3650292550670457406:=()
def tw7384248870507278266:=()
def tw7732958383514411533:=()
def tw14768292038010021869:=()
def tw13994617949676633659:=()
def tw4613119472406890306:=()
def tw17629006034727759340:=()
def tw13964918076961171011:=()
def tw11784728881683514879:=()
def tw15722218609069248455:=()
def tw6565492541952660537:=()
def tw4112650042870022796:=()
def tw15035853398173639268:=()
end PySem.W.Fast
namespace My
open PySem L2
variable {K:Frag} {sl:Array (Option Value)} {l:PySem.W.OpenLaw} {XP:(Str->Option Value)->Heap->Prop}
abbrev LkF (K:Frag) (x q:Str) (st:Stmt) (f:Addr):Prop:=∃(oc:Value) (od:Option Addr) (kV dc pm:Value) (an:Option Addr) (cd ct:Value) (sl:Array (Option Value)),K.lookup f=some ⟨oc,od,.func (fnOf x q (A8m st) (A7s st) (A0k st) .none kV dc pm an cd ct),sl⟩/\codeIn K cd q=true/\keepIn K (.ref f)=true
theorem D6w {x q:Str} {st:Stmt} {f:Addr} {oc:Value} {od:Option Addr} {kV dc pm:Value} {an:Option Addr} {cd ct:Value} (l:K.lookup f=some ⟨oc,od,.func (fnOf x q (A8m st) (A7s st) (A0k st) .none kV dc pm an cd ct),sl⟩) (c:codeIn K cd q=true) (k:keepIn K (.ref f)=true):LkF K x q st f:=⟨_,_,_,_,_,_,_,_,_,l,c,k⟩
theorem A1u {x q:Str} {st:Stmt} {f:Addr} {ps:List Str} (l:LkF K x q st f) (h:∀(kV doc pm:Value) (an:Option Addr) (cdv ct:Value) (us:List Value),us.length=ps.length->bindArgs (fnOf x q (A8m st) (A7s st) (A0k st) .none kV doc pm an cdv ct) ⟨us,[]⟩=pure (ps.zip us)):∃d,Fun K x q st f d/\A8w K d ps []/\keepIn K (.ref f)=true:=by
 obtain ⟨_,_,_,_,_,_,_,_,_,l,c,k⟩:=l;have F:=D1s (st:=st) l c k;exact ⟨_,F,F.binds h,k⟩
theorem len0 {p:List Value->Prop} (h:p []):∀us:List Value,us.length=0->p us:=λus e=>by rw [Z2n.mp e];exact h
theorem lenS {n:Nat} {p:List Value->Prop} (h:∀(a:Value) (us:List Value),us.length=n->p (a::us)):∀us:List Value,us.length=n+1->p us
 | a::r,e=>h a r (Nat.succ.inj e)
local macro_rules | `(tactic| walk_at "le") => `(tactic| (intro _ _ _ _ _ _; (repeat (refine lenS fun _ => ?_)); exact len0 rfl))
theorem D8m {w:World} {h:Heap} {mg:Str->Option Value} {fa:Addr} (X:K.In h) (G:h.Ns mainGlobals mg) (hfa:mg "law"=some (.ref fa))
  {dO fE aP aB gB hK aD aI aK gC aM aE aF bL aC aA:Addr}
  (dB:nsIn K mainGlobals "LoomError"=some (some (.ref dO)))
  (dP:nsIn K mainGlobals "NoTable"=some (some (.ref fE)))
  (gE:nsIn K mainGlobals "Let"=some (some (.ref aP)))
  (cQ:nsIn K mainGlobals "Program"=some (some (.ref aB)))
  (gD:nsIn K mainGlobals "World"=some (some (.ref gB)))
  (hB:nsIn K mainGlobals "Term"=some (some (.ref hK)))
  (dC:nsIn K mainGlobals "Number"=some (some (.ref aD)))
  (dQ:nsIn K mainGlobals "Place"=some (some (.ref aI)))
  (fF:nsIn K mainGlobals "Read"=some (some (.ref aK)))
  (hC:nsIn K mainGlobals "Pair"=some (some (.ref gC)))
  (fG:nsIn K mainGlobals "Plus"=some (some (.ref aM)))
  (dR:nsIn K mainGlobals "Minus"=some (some (.ref aE)))
  (dS:nsIn K mainGlobals "Times"=some (some (.ref aF)))
  (gF:nsIn K mainGlobals "Sum"=some (some (.ref bL)))
  (dT:nsIn K mainGlobals "Guard"=some (some (.ref aC)))
  (aT:nsIn K mainGlobals "GrowingWorld"=some (some (.ref aA)))
  {f0:Addr}
  (a0:nsIn K mainGlobals "cells_of"=some (some (.ref f0)))
  (l0:LkF K "cells_of" "cells_of" B0b f0)
  {f1:Addr}
  (a1:nsIn K mainGlobals "lengthened"=some (some (.ref f1)))
  (l1:LkF K "lengthened" "lengthened" A7y f1)
  {f2:Addr}
  (a2:nsIn K mainGlobals "copied"=some (some (.ref f2)))
  (l2:LkF K "copied" "copied" B4t f2)
  {f3:Addr}
  (a3:nsIn K mainGlobals "copied_dict"=some (some (.ref f3)))
  (l3:LkF K "copied_dict" "copied_dict" A7g f3)
  {f4:Addr}
  (a4:findIn K (.ref aP) "__init__"=some (some (.ref f4)))
  (l4:LkF K "__init__" "Let.__init__" B0f f4)
  (i4:isFn K (.ref f4)=true)
  {f5:Addr}
  (a5:findIn K (.ref aB) "__init__"=some (some (.ref f5)))
  (l5:LkF K "__init__" "Program.__init__" A6h f5)
  (i5:isFn K (.ref f5)=true)
  {f6:Addr}
  (a6:nsIn K mainGlobals "table_names"=some (some (.ref f6)))
  (l6:LkF K "table_names" "table_names" A7a f6)
  {f7:Addr}
  (a7:nsIn K mainGlobals "lengths_of"=some (some (.ref f7)))
  (l7:LkF K "lengths_of" "lengths_of" A7x f7)
  {f8:Addr}
  (a8:nsIn K mainGlobals "lengths_along"=some (some (.ref f8)))
  (l8:LkF K "lengths_along" "lengths_along" A5m f8)
  {f9:Addr}
  (a9:nsIn K mainGlobals "cells_along"=some (some (.ref f9)))
  (l9:LkF K "cells_along" "cells_along" A6v f9)
  {hR:Addr}
  (nB:findIn K (.ref gB) "__init__"=some (some (.ref hR)))
  (iM:LkF K "__init__" "World.__init__" A7t hR)
  (iN:isFn K (.ref hR)=true)
  {hT:Addr}
  (nC:findIn K (.ref aD) "__init__"=some (some (.ref hT)))
  (iO:LkF K "__init__" "Number.__init__" A6s hT)
  (iP:isFn K (.ref hT)=true)
  {hU:Addr}
  (nD:findIn K (.ref aD) "worth"=some (some (.ref hU)))
  (iQ:LkF K "worth" "Number.worth" A6d hU)
  (iR:isFn K (.ref hU)=true)
  {hV:Addr}
  (nE:findIn K (.ref aI) "__init__"=some (some (.ref hV)))
  (iS:LkF K "__init__" "Place.__init__" A7p hV)
  (iT:isFn K (.ref hV)=true)
  {hW:Addr}
  (nF:findIn K (.ref aI) "worth"=some (some (.ref hW)))
  (iU:LkF K "worth" "Place.worth" A6x hW)
  (iV:isFn K (.ref hW)=true)
  {hX:Addr}
  (nG:findIn K (.ref aK) "__init__"=some (some (.ref hX)))
  (iW:LkF K "__init__" "Read.__init__" A8s hX)
  (iX:isFn K (.ref hX)=true)
  {hZ:Addr}
  (nH:findIn K (.ref aK) "cell_at"=some (some (.ref hZ)))
  (iY:LkF K "cell_at" "Read.cell_at" A6g hZ)
  (iZ:isFn K (.ref hZ)=true)
  {iA:Addr}
  (nI:findIn K (.ref aK) "worth"=some (some (.ref iA)))
  (jA:LkF K "worth" "Read.worth" A7o iA)
  (jB:isFn K (.ref iA)=true)
  {mA:Addr}
  (jC:nsIn K mainGlobals "index_at"=some (some (.ref mA)))
  (jD:LkF K "index_at" "index_at" A9v mA)
  {hL:Addr}
  (nJ:findIn K (.ref gC) "__init__"=some (some (.ref hL)))
  (jE:LkF K "__init__" "Pair.__init__" A8l hL)
  (hN:isFn K (.ref hL)=true)
  {hM:Addr}
  (nK:findIn K (.ref gC) "worth"=some (some (.ref hM)))
  (jF:LkF K "worth" "Pair.worth" A7m hM)
  (hP:isFn K (.ref hM)=true)
  {iB:Addr}
  (nL:findIn K (.ref aM) "joined"=some (some (.ref iB)))
  (jG:LkF K "joined" "Plus.joined" A6o iB)
  (jH:isFn K (.ref iB)=true)
  {iC:Addr}
  (nM:findIn K (.ref aE) "joined"=some (some (.ref iC)))
  (jI:LkF K "joined" "Minus.joined" A6i iC)
  (jJ:isFn K (.ref iC)=true)
  {iD:Addr}
  (nN:findIn K (.ref aF) "joined"=some (some (.ref iD)))
  (jK:LkF K "joined" "Times.joined" A6a iD)
  (jL:isFn K (.ref iD)=true)
  {iE:Addr}
  (nO:findIn K (.ref bL) "__init__"=some (some (.ref iE)))
  (jM:LkF K "__init__" "Sum.__init__" A9w iE)
  (jN:isFn K (.ref iE)=true)
  {iF:Addr}
  (nP:findIn K (.ref bL) "worth"=some (some (.ref iF)))
  (jO:LkF K "worth" "Sum.worth" A8r iF)
  (jP:isFn K (.ref iF)=true)
  {mB:Addr}
  (jQ:nsIn K mainGlobals "turned"=some (some (.ref mB)))
  (jR:LkF K "turned" "turned" B6h mB)
  {iG:Addr}
  (nQ:findIn K (.ref aC) "__init__"=some (some (.ref iG)))
  (jS:LkF K "__init__" "Guard.__init__" A7w iG)
  (jT:isFn K (.ref iG)=true)
  {iH:Addr}
  (nR:findIn K (.ref aC) "lets_in"=some (some (.ref iH)))
  (jU:LkF K "lets_in" "Guard.lets_in" A5p iH)
  (jV:isFn K (.ref iH)=true)
  {iI:Addr}
  (nS:findIn K (.ref aC) "looked_at"=some (some (.ref iI)))
  (jW:LkF K "looked_at" "Guard.looked_at" A4p iI)
  (jX:isFn K (.ref iI)=true)
  {iJ:Addr}
  (nT:findIn K (.ref aC) "worth"=some (some (.ref iJ)))
  (jY:LkF K "worth" "Guard.worth" A6y iJ)
  (jZ:isFn K (.ref iJ)=true)
  {iK:Addr}
  (nU:findIn K (.ref aA) "put"=some (some (.ref iK)))
  (kA:LkF K "put" "GrowingWorld.put" A4k iK)
  (kB:isFn K (.ref iK)=true)
  {mC:Addr}
  (kC:nsIn K mainGlobals "meaning"=some (some (.ref mC)))
  (kD:LkF K "meaning" "meaning" B2r mC)
  {mD:Addr}
  (kE:nsIn K mainGlobals "look_tables"=some (some (.ref mD)))
  (kF:LkF K "look_tables" "look_tables" A6w mD)
  {mE:Addr}
  (kG:nsIn K mainGlobals "put_tables"=some (some (.ref mE)))
  (kH:LkF K "put_tables" "put_tables" A7n mE)
  {mF:Addr}
  (kI:nsIn K mainGlobals "put_let"=some (some (.ref mF)))
  (kJ:LkF K "put_let" "put_let" B1w mF)
  {mG:Addr}
  (kK:nsIn K mainGlobals "rows_of"=some (some (.ref mG)))
  (kL:LkF K "rows_of" "rows_of" B2i mG)
  {mH:Addr}
  (kM:nsIn K mainGlobals "_law_cell"=some (some (.ref mH)))
  (kN:LkF K "_law_cell" "_law_cell" B4v mH)
  {mI:Addr}
  (kO:nsIn K mainGlobals "_law_name"=some (some (.ref mI)))
  (kP:LkF K "_law_name" "_law_name" B6g mI)
  {mJ:Addr}
  (kQ:nsIn K mainGlobals "_law_axes"=some (some (.ref mJ)))
  (kR:LkF K "_law_axes" "_law_axes" B5j mJ)
  {mK:Addr}
  (kS:nsIn K mainGlobals "_law_back"=some (some (.ref mK)))
  (kT:LkF K "_law_back" "_law_back" B4w mK)
  {mL:Addr}
  (kU:nsIn K mainGlobals "_law_fenced"=some (some (.ref mL)))
  (kV:LkF K "_law_fenced" "_law_fenced" B0a mL)
  {mM:Addr}
  (kW:nsIn K mainGlobals "_law_read"=some (some (.ref mM)))
  (kX:LkF K "_law_read" "_law_read" B5e mM)
  {mN:Addr}
  (kY:nsIn K mainGlobals "_law_grown"=some (some (.ref mN)))
  (kZ:LkF K "_law_grown" "_law_grown" B3b mN)
  {mO:Addr}
  (lA:nsIn K mainGlobals "_law_made"=some (some (.ref mO)))
  (lB:LkF K "_law_made" "_law_made" B5i mO)
  {mP:Addr}
  (lC:nsIn K mainGlobals "_law_work"=some (some (.ref mP)))
  (lD:LkF K "_law_work" "_law_work" B5m mP)
  {mQ:Addr}
  (lE:nsIn K mainGlobals "_law_many"=some (some (.ref mQ)))
  (lF:LkF K "_law_many" "_law_many" B5v mQ)
  {mR:Addr}
  (lG:nsIn K mainGlobals "_law_cells"=some (some (.ref mR)))
  (lH:LkF K "_law_cells" "_law_cells" B1o mR)
  {mS:Addr}
  (lI:nsIn K mainGlobals "_law_place"=some (some (.ref mS)))
  (lJ:LkF K "_law_place" "_law_place" B2q mS)
  {mT:Addr}
  (lK:nsIn K mainGlobals "_law_worth"=some (some (.ref mT)))
  (lL:LkF K "_law_worth" "_law_worth" B3a mT)
  {mU:Addr}
  (lM:nsIn K mainGlobals "_law_wholes"=some (some (.ref mU)))
  (lN:LkF K "_law_wholes" "_law_wholes" B0h mU)
  {mV:Addr}
  (lO:nsIn K mainGlobals "_law_let_holds"=some (some (.ref mV)))
  (lP:LkF K "_law_let_holds" "_law_let_holds" A6q mV)
  {mW:Addr}
  (lQ:nsIn K mainGlobals "_law_holds"=some (some (.ref mW)))
  (lR:LkF K "_law_holds" "_law_holds" B2u mW)
  {mX:Addr}
  (lS:nsIn K mainGlobals "_law_tables"=some (some (.ref mX)))
  (lT:LkF K "_law_tables" "_law_tables" A9z mX)
  {mY:Addr}
  (lU:nsIn K mainGlobals "_law_digits"=some (some (.ref mY)))
  (lV:LkF K "_law_digits" "_law_digits" B0d mY)
  {mZ:Addr}
  (lW:nsIn K mainGlobals "_law_lets"=some (some (.ref mZ)))
  (lX:LkF K "_law_lets" "_law_lets" B5h mZ)
  {nA:Addr}
  (lY:nsIn K mainGlobals "_law_program"=some (some (.ref nA)))
  (lZ:LkF K "_law_program" "_law_program" A8k nA)
  {nV:Addr}
  (iL:nsIn K mainGlobals "law"=some (some (.ref nV)))
  (hQ:LkF K "law" "law" D0z nV)
  (aU:plainGet K aA Str.empty=true)
  (aV:hasDictIn K aA=true)
  (aW:plainOver K aA=true)
  (aX:findIn K (.ref aA) "__setattr__"=some (some (.builtin "object.__setattr__")))
  (aY:makesIn K aA=true)
  (aZ:keepIn K (.ref aA)=true)
  (bA:findIn K (.ref aA) "__init__"=some (some (.ref hR)))
  (aJ:findIn K (.ref aA) "wheel"=some none)
  (aG:findIn K (.ref aA) "lengths"=some none)
  (aH:findIn K (.ref aA) "numbers"=some none)
  (aL:findIn K (.ref aA) "put"=some (some (.ref iK)))
  (bB:findIn K (.ref aA) "__class__"=some (some (.builtin "object.__class__")))
  (dD:specialIn K (.builtin "object.__class__") "__get__"=some (some (.builtin "getset_descriptor.__get__")))
  (dE:takesIn K (.builtin "object.__class__")=some true)
  (bC:mroIn K aA (.type "object")=some true)
  (dU:plainGet K aC Str.empty=true)
  (dV:hasDictIn K aC=true)
  (dW:plainOver K aC=true)
  (dX:findIn K (.ref aC) "__setattr__"=some (some (.builtin "object.__setattr__")))
  (dY:makesIn K aC=true)
  (dZ:keepIn K (.ref aC)=true)
  (eA:findIn K (.ref aC) "__init__"=some (some (.ref iG)))
  (bV:findIn K (.ref aC) "axis"=some none)
  (cE:findIn K (.ref aC) "low"=some none)
  (bW:findIn K (.ref aC) "high"=some none)
  (bM:findIn K (.ref aC) "inner"=some none)
  (bN:findIn K (.ref aC) "outer"=some none)
  (aQ:findIn K (.ref aC) "lets_in"=some (some (.ref iH)))
  (aN:findIn K (.ref aC) "looked_at"=some (some (.ref iI)))
  (bO:findIn K (.ref aC) "worth"=some (some (.ref iJ)))
  (eB:findIn K (.ref aC) "__class__"=some (some (.builtin "object.__class__")))
  (eC:mroIn K aC (.type "object")=some true)
  (gG:plainGet K aP Str.empty=true)
  (gH:hasDictIn K aP=true)
  (gI:plainOver K aP=true)
  (gJ:findIn K (.ref aP) "__setattr__"=some (some (.builtin "object.__setattr__")))
  (gK:makesIn K aP=true)
  (gL:keepIn K (.ref aP)=true)
  (gM:findIn K (.ref aP) "__init__"=some (some (.ref f4)))
  (cJ:findIn K (.ref aP) "name"=some none)
  (cK:findIn K (.ref aP) "axes"=some none)
  (cL:findIn K (.ref aP) "term"=some none)
  (gN:findIn K (.ref aP) "__class__"=some (some (.builtin "object.__class__")))
  (gO:mroIn K aP (.type "object")=some true)
  (cM:mroIn K aP (.type "list")=some false)
  (cF:mroIn K aP (.type "tuple")=some false)
  (cN:mroIn K aP (.type "dict")=some false)
  (eD:plainGet K aE Str.empty=true)
  (eE:hasDictIn K aE=true)
  (eF:plainOver K aE=true)
  (eG:findIn K (.ref aE) "__setattr__"=some (some (.builtin "object.__setattr__")))
  (eH:makesIn K aE=true)
  (eI:keepIn K (.ref aE)=true)
  (eJ:findIn K (.ref aE) "__init__"=some (some (.ref hL)))
  (bX:findIn K (.ref aE) "left"=some none)
  (bP:findIn K (.ref aE) "right"=some none)
  (bD:findIn K (.ref aE) "joined"=some (some (.ref iC)))
  (bQ:findIn K (.ref aE) "worth"=some (some (.ref hM)))
  (eK:findIn K (.ref aE) "__class__"=some (some (.builtin "object.__class__")))
  (eL:mroIn K aE (.type "object")=some true)
  (dF:plainGet K aD Str.empty=true)
  (dG:hasDictIn K aD=true)
  (dH:plainOver K aD=true)
  (dI:findIn K (.ref aD) "__setattr__"=some (some (.builtin "object.__setattr__")))
  (dJ:makesIn K aD=true)
  (dK:keepIn K (.ref aD)=true)
  (dL:findIn K (.ref aD) "__init__"=some (some (.ref hT)))
  (aR:findIn K (.ref aD) "number"=some none)
  (bE:findIn K (.ref aD) "worth"=some (some (.ref hU)))
  (dM:findIn K (.ref aD) "__class__"=some (some (.builtin "object.__class__")))
  (dN:mroIn K aD (.type "object")=some true)
  (eM:plainGet K aI Str.empty=true)
  (eN:hasDictIn K aI=true)
  (eO:plainOver K aI=true)
  (eP:findIn K (.ref aI) "__setattr__"=some (some (.builtin "object.__setattr__")))
  (eQ:makesIn K aI=true)
  (eR:keepIn K (.ref aI)=true)
  (eS:findIn K (.ref aI) "__init__"=some (some (.ref hV)))
  (bY:findIn K (.ref aI) "axis"=some none)
  (bR:findIn K (.ref aI) "worth"=some (some (.ref hW)))
  (eT:findIn K (.ref aI) "__class__"=some (some (.builtin "object.__class__")))
  (eU:mroIn K aI (.type "object")=some true)
  (fH:plainGet K aM Str.empty=true)
  (fI:hasDictIn K aM=true)
  (fJ:plainOver K aM=true)
  (fK:findIn K (.ref aM) "__setattr__"=some (some (.builtin "object.__setattr__")))
  (fL:makesIn K aM=true)
  (fM:keepIn K (.ref aM)=true)
  (fN:findIn K (.ref aM) "__init__"=some (some (.ref hL)))
  (cG:findIn K (.ref aM) "left"=some none)
  (bZ:findIn K (.ref aM) "right"=some none)
  (bS:findIn K (.ref aM) "joined"=some (some (.ref iB)))
  (cA:findIn K (.ref aM) "worth"=some (some (.ref hM)))
  (fO:findIn K (.ref aM) "__class__"=some (some (.builtin "object.__class__")))
  (fP:mroIn K aM (.type "object")=some true)
  (cR:plainGet K aB Str.empty=true)
  (cS:hasDictIn K aB=true)
  (cT:plainOver K aB=true)
  (cU:findIn K (.ref aB) "__setattr__"=some (some (.builtin "object.__setattr__")))
  (cV:makesIn K aB=true)
  (cW:keepIn K (.ref aB)=true)
  (cX:findIn K (.ref aB) "__init__"=some (some (.ref f5)))
  (aS:findIn K (.ref aB) "wheel"=some none)
  (bF:findIn K (.ref aB) "axes"=some none)
  (aO:findIn K (.ref aB) "tables"=some none)
  (bG:findIn K (.ref aB) "lets"=some none)
  (bH:findIn K (.ref aB) "outs"=some none)
  (cY:findIn K (.ref aB) "__class__"=some (some (.builtin "object.__class__")))
  (cZ:mroIn K aB (.type "object")=some true)
  (fQ:plainGet K aK Str.empty=true)
  (fR:hasDictIn K aK=true)
  (fS:plainOver K aK=true)
  (fT:findIn K (.ref aK) "__setattr__"=some (some (.builtin "object.__setattr__")))
  (fU:makesIn K aK=true)
  (fV:keepIn K (.ref aK)=true)
  (fW:findIn K (.ref aK) "__init__"=some (some (.ref hX)))
  (cB:findIn K (.ref aK) "array"=some none)
  (bI:findIn K (.ref aK) "indexes"=some none)
  (bJ:findIn K (.ref aK) "cell_at"=some (some (.ref hZ)))
  (cC:findIn K (.ref aK) "worth"=some (some (.ref iA)))
  (fX:findIn K (.ref aK) "__class__"=some (some (.builtin "object.__class__")))
  (fY:mroIn K aK (.type "object")=some true)
  (gP:plainGet K bL Str.empty=true)
  (gQ:hasDictIn K bL=true)
  (gR:plainOver K bL=true)
  (gS:findIn K (.ref bL) "__setattr__"=some (some (.builtin "object.__setattr__")))
  (gT:makesIn K bL=true)
  (gU:keepIn K (.ref bL)=true)
  (gV:findIn K (.ref bL) "__init__"=some (some (.ref iE)))
  (cO:findIn K (.ref bL) "axis"=some none)
  (cP:findIn K (.ref bL) "body"=some none)
  (cH:findIn K (.ref bL) "worth"=some (some (.ref iF)))
  (gW:findIn K (.ref bL) "__class__"=some (some (.builtin "object.__class__")))
  (gX:mroIn K bL (.type "object")=some true)
  (eV:plainGet K aF Str.empty=true)
  (eW:hasDictIn K aF=true)
  (eX:plainOver K aF=true)
  (eY:findIn K (.ref aF) "__setattr__"=some (some (.builtin "object.__setattr__")))
  (eZ:makesIn K aF=true)
  (fA:keepIn K (.ref aF)=true)
  (fB:findIn K (.ref aF) "__init__"=some (some (.ref hL)))
  (cD:findIn K (.ref aF) "left"=some none)
  (bT:findIn K (.ref aF) "right"=some none)
  (bK:findIn K (.ref aF) "joined"=some (some (.ref iD)))
  (bU:findIn K (.ref aF) "worth"=some (some (.ref hM)))
  (fC:findIn K (.ref aF) "__class__"=some (some (.builtin "object.__class__")))
  (fD:mroIn K aF (.type "object")=some true)
  (fZ:nsIn K mainGlobals "range"=some none)
  (cI:nsIn K mainGlobals "isinstance"=some none)
  (gY:nsIn K mainGlobals "list"=some none)
  (gA:nsIn K mainGlobals "tuple"=some none)
  (gZ:nsIn K mainGlobals "dict"=some none)
  (hD:nsIn K mainGlobals "set"=some none)
  (hE:nsIn K mainGlobals "len"=some none)
  (hF:nsIn K mainGlobals "zip"=some none)
  (hG:nsIn K mainGlobals "min"=some none)
  (hH:nsIn K mainGlobals "max"=some none)
  (hA:nsIn K mainGlobals "bool"=some none)
  (hI:nsIn K mainGlobals "int"=some none)
  (hJ:nsIn K mainGlobals "sum"=some none)
  (dA:nsIn K mainGlobals "reversed"=some none)
  :∃fd:FuncData,(∀(s:Shared) (v:Value),BindsTo s fd ⟨[v],[]⟩ [("_law_script",v)])/\∀base:Heap,K.In base->base.Ns mainGlobals mg->A4c l.prog w K mg base CX0 23 fa fd ["_law_script"] (D0n K):=by
 have e:=hfa.symm.trans (Z0f X G iL);cases e;obtain ⟨d0,F0,b0,k0⟩:=A1u (ps:=["lengths"]) l0 (by walk_at "le");obtain ⟨d1,F1,b1,k1⟩:=A1u (ps:=["cells","length"]) l1 (by walk_at "le");obtain ⟨d2,F2,b2,k2⟩:=A1u (ps:=B8w) l2 (by walk_at "le");obtain ⟨d3,F3,b3,k3⟩:=A1u (ps:=B8w) l3 (by walk_at "le");obtain ⟨d4,F4,b4,k4⟩:=A1u (ps:=E0e) l4 (by walk_at "le");obtain ⟨d5,F5,b5,k5⟩:=A1u (ps:=E0c) l5 (by walk_at "le");obtain ⟨d6,F6,b6,k6⟩:=A1u (ps:=D6k) l6 (by walk_at "le");obtain ⟨d7,F7,b7,k7⟩:=A1u (ps:=D6k) l7 (by walk_at "le");obtain ⟨d8,F8,b8,k8⟩:=A1u (ps:=D6o) l8 (by walk_at "le");obtain ⟨d9,F9,b9,k9⟩:=A1u (ps:=D6o) l9 (by walk_at "le");obtain ⟨d10,F10,b10,k10⟩:=A1u (ps:=E0n) iM (by walk_at "le");obtain ⟨d11,F11,b11,k11⟩:=A1u (ps:=["self","number"]) iO (by walk_at "le");obtain ⟨d12,F12,b12,k12⟩:=A1u (ps:=B1h) iQ (by walk_at "le");obtain ⟨d13,F13,b13,k13⟩:=A1u (ps:=["self","axis"]) iS (by walk_at "le");obtain ⟨d14,F14,b14,k14⟩:=A1u (ps:=B1h) iU (by walk_at "le");obtain ⟨d15,F15,b15,k15⟩:=A1u (ps:=E0d) iW (by walk_at "le");obtain ⟨d16,F16,b16,k16⟩:=A1u (ps:=D0s) iY (by walk_at "le");obtain ⟨d17,F17,b17,k17⟩:=A1u (ps:=B1h) jA (by walk_at "le");obtain ⟨d18,F18,b18,k18⟩:=A1u (ps:=E0v) jD (by walk_at "le");obtain ⟨d19,F19,b19,k19⟩:=A1u (ps:=B0y) jE (by walk_at "le");obtain ⟨d20,F20,b20,k20⟩:=A1u (ps:=B1h) jF (by walk_at "le");obtain ⟨d21,F21,b21,k21⟩:=A1u (ps:=B0y) jG (by walk_at "le");obtain ⟨d22,F22,b22,k22⟩:=A1u (ps:=B0y) jI (by walk_at "le");obtain ⟨d23,F23,b23,k23⟩:=A1u (ps:=B0y) jK (by walk_at "le");obtain ⟨d24,F24,b24,k24⟩:=A1u (ps:=D4x) jM (by walk_at "le");obtain ⟨d25,F25,b25,k25⟩:=A1u (ps:=B1h) jO (by walk_at "le");obtain ⟨d26,F26,b26,k26⟩:=A1u (ps:=["at","axis","number"]) jR (by walk_at "le");obtain ⟨d27,F27,b27,k27⟩:=A1u (ps:=D6c) jS (by walk_at "le");obtain ⟨d28,F28,b28,k28⟩:=A1u (ps:=D0s) jU (by walk_at "le");obtain ⟨d29,F29,b29,k29⟩:=A1u (ps:=D0s) jW (by walk_at "le");obtain ⟨d30,F30,b30,k30⟩:=A1u (ps:=B1h) jY (by walk_at "le");obtain ⟨d31,F31,b31,k31⟩:=A1u (ps:=D4h) kA (by walk_at "le");obtain ⟨d32,F32,b32,k32⟩:=A1u (ps:=C4a) kD (by walk_at "le");obtain ⟨d33,F33,b33,k33⟩:=A1u (ps:=C4a) kF (by walk_at "le");obtain ⟨d34,F34,b34,k34⟩:=A1u (ps:=D4a) kH (by walk_at "le");obtain ⟨d35,F35,b35,k35⟩:=A1u (ps:=["let","world"]) kJ (by walk_at "le");obtain ⟨d36,F36,b36,k36⟩:=A1u (ps:=["world"]) kL (by walk_at "le");obtain ⟨d37,F37,b37,k37⟩:=A1u (ps:=["_law_rest"]) kN (by walk_at "le");obtain ⟨d38,F38,b38,k38⟩:=A1u (ps:=D5d) kP (by walk_at "le");obtain ⟨d39,F39,b39,k39⟩:=A1u (ps:=D3n) kR (by walk_at "le");obtain ⟨d40,F40,b40,k40⟩:=A1u (ps:=D3a) kT (by walk_at "le");obtain ⟨d41,F41,b41,k41⟩:=A1u (ps:=D3s) kV (by walk_at "le");obtain ⟨d42,F42,b42,k42⟩:=A1u (ps:=D4c) kX (by walk_at "le");obtain ⟨d43,F43,b43,k43⟩:=A1u (ps:=C3h) kZ (by walk_at "le");obtain ⟨d44,F44,b44,k44⟩:=A1u (ps:=["_law_tree"]) lB (by walk_at "le");obtain ⟨d45,F45,b45,k45⟩:=A1u (ps:=D0c) lD (by walk_at "le");obtain ⟨d46,F46,b46,k46⟩:=A1u (ps:=C3r) lF (by walk_at "le");obtain ⟨d47,F47,b47,k47⟩:=A1u (ps:=C3r) lH (by walk_at "le");obtain ⟨d48,F48,b48,k48⟩:=A1u (ps:=D4i) lJ (by walk_at "le");obtain ⟨d49,F49,b49,k49⟩:=A1u (ps:=D0d) lL (by walk_at "le");obtain ⟨d50,F50,b50,k50⟩:=A1u (ps:=D5w) lN (by walk_at "le");obtain ⟨d51,F51,b51,k51⟩:=A1u (ps:=D4t) lP (by walk_at "le");obtain ⟨d52,F52,b52,k52⟩:=A1u (ps:=D2y) lR (by walk_at "le");obtain ⟨d53,F53,b53,k53⟩:=A1u (ps:=D3q) lT (by walk_at "le");obtain ⟨d54,F54,b54,k54⟩:=A1u (ps:=D5i) lV (by walk_at "le");obtain ⟨d55,F55,b55,k55⟩:=A1u (ps:=D2x) lX (by walk_at "le");obtain ⟨d56,F56,b56,k56⟩:=A1u (ps:=D3x) lZ (by walk_at "le");obtain ⟨_,_,_,_,_,_,_,_,_,hQ,c,k57⟩:=hQ;have F57:=D1s (st:=D0z) hQ c k57;have b57:=F57.binds (ps:=["_law_script"]) (by walk_at "le");exact ⟨_,λs v=> .of_eq rfl,λbase _ _=>D7v (t:=⟨dO,fE,aP,aB,gB,hK,aD,aI,aK,gC,aM,aE,aF,bL,aC,aA,f0,_,f1,_,f2,_,f3,_,f4,_,f5,_,f6,_,f7,_,f8,_,f9,_,hR,_,hT,_,hU,_,hV,_,hW,_,hX,_,hZ,_,iA,_,mA,_,hL,_,hM,_,iB,_,iC,_,iD,_,iE,_,iF,_,mB,_,iG,_,iH,_,iI,_,iJ,_,iK,_,mC,_,mD,_,mE,_,mF,_,mG,_,mH,_,mI,_,mJ,_,mK,_,mL,_,mM,_,mN,_,mO,_,mP,_,mQ,_,mR,_,mS,_,mT,_,mU,_,mV,_,mW,_,mX,_,mY,_,mZ,_,nA,_,fa,_⟩) ⟨⟨F0,Z0f X G a0,b0⟩,⟨F1,Z0f X G a1,b1⟩,⟨F2,Z0f X G a2,b2⟩,⟨F3,Z0f X G a3,b3⟩,⟨F4,b4⟩,⟨F5,b5⟩,⟨F6,Z0f X G a6,b6⟩,⟨F7,Z0f X G a7,b7⟩,⟨F8,Z0f X G a8,b8⟩,⟨F9,Z0f X G a9,b9⟩,⟨F10,b10⟩,⟨F11,b11⟩,⟨F12,b12⟩,⟨F13,b13⟩,⟨F14,b14⟩,⟨F15,b15⟩,⟨F16,b16⟩,⟨F17,b17⟩,⟨F18,Z0f X G jC,b18⟩,⟨F19,b19⟩,⟨F20,b20⟩,⟨F21,b21⟩,⟨F22,b22⟩,⟨F23,b23⟩,⟨F24,b24⟩,⟨F25,b25⟩,⟨F26,Z0f X G jQ,b26⟩,⟨F27,b27⟩,⟨F28,b28⟩,⟨F29,b29⟩,⟨F30,b30⟩,⟨F31,b31⟩,⟨F32,Z0f X G kC,b32⟩,⟨F33,Z0f X G kE,b33⟩,⟨F34,Z0f X G kG,b34⟩,⟨F35,Z0f X G kI,b35⟩,⟨F36,Z0f X G kK,b36⟩,⟨F37,Z0f X G kM,b37⟩,⟨F38,Z0f X G kO,b38⟩,⟨F39,Z0f X G kQ,b39⟩,⟨F40,Z0f X G kS,b40⟩,⟨F41,Z0f X G kU,b41⟩,⟨F42,Z0f X G kW,b42⟩,⟨F43,Z0f X G kY,b43⟩,⟨F44,Z0f X G lA,b44⟩,⟨F45,Z0f X G lC,b45⟩,⟨F46,Z0f X G lE,b46⟩,⟨F47,Z0f X G lG,b47⟩,⟨F48,Z0f X G lI,b48⟩,⟨F49,Z0f X G lK,b49⟩,⟨F50,Z0f X G lM,b50⟩,⟨F51,Z0f X G lO,b51⟩,⟨F52,Z0f X G lQ,b52⟩,⟨F53,Z0f X G lS,b53⟩,⟨F54,Z0f X G lU,b54⟩,⟨F55,Z0f X G lW,b55⟩,⟨F56,Z0f X G lY,b56⟩,⟨F57,Z0f X G iL,b57⟩,Z0f X G gE,Z0f X G cQ,Z0f X G dC,Z0f X G dQ,Z0f X G fF,Z0f X G fG,Z0f X G dR,Z0f X G dS,Z0f X G gF,Z0f X G dT,Z0f X G aT,⟨aU,aV,aW,aX⟩,⟨aY,bA,iN,aZ⟩,aJ,aG,aH,⟨aL,kB,k31⟩,⟨bB,dD,dE,bC⟩,⟨dU,dV,dW,dX⟩,⟨dY,eA,jT,dZ⟩,bV,cE,bW,bM,bN,⟨aQ,jV,k28⟩,⟨aN,jX,k29⟩,⟨bO,jZ,k30⟩,⟨eB,dD,dE,eC⟩,⟨gG,gH,gI,gJ⟩,⟨gK,gM,i4,gL⟩,cJ,cK,cL,⟨gN,dD,dE,gO⟩,cM,cF,cN,⟨eD,eE,eF,eG⟩,⟨eH,eJ,hN,eI⟩,bX,bP,⟨bD,jJ,k22⟩,⟨bQ,hP,k20⟩,⟨eK,dD,dE,eL⟩,⟨dF,dG,dH,dI⟩,⟨dJ,dL,iP,dK⟩,aR,⟨bE,iR,k12⟩,⟨dM,dD,dE,dN⟩,⟨eM,eN,eO,eP⟩,⟨eQ,eS,iT,eR⟩,bY,⟨bR,iV,k14⟩,⟨eT,dD,dE,eU⟩,⟨fH,fI,fJ,fK⟩,⟨fL,fN,hN,fM⟩,cG,bZ,⟨bS,jH,k21⟩,⟨cA,hP,k20⟩,⟨fO,dD,dE,fP⟩,⟨cR,cS,cT,cU⟩,⟨cV,cX,i5,cW⟩,aS,bF,aO,bG,bH,⟨cY,dD,dE,cZ⟩,⟨fQ,fR,fS,fT⟩,⟨fU,fW,iX,fV⟩,cB,bI,⟨bJ,iZ,k16⟩,⟨cC,jB,k17⟩,⟨fX,dD,dE,fY⟩,⟨gP,gQ,gR,gS⟩,⟨gT,gV,jN,gU⟩,cO,cP,⟨cH,jP,k25⟩,⟨gW,dD,dE,gX⟩,⟨eV,eW,eX,eY⟩,⟨eZ,fB,hN,fA⟩,cD,bT,⟨bK,jL,k23⟩,⟨bU,hP,k20⟩,⟨fC,dD,dE,fD⟩,Z1c X G fZ,Z1c X G cI,Z1c X G gY,Z1c X G gA,Z1c X G gZ,Z1c X G hD,Z1c X G hE,Z1c X G hF,Z1c X G hG,Z1c X G hH,Z1c X G hA,Z1c X G hI,Z1c X G hJ,Z1c X G dA⟩⟩
theorem walk {q:Program} {loose:List Str} {YP:World->Heap->Prop} {d:DefRec} {K:Params->Frag} (hn:l.most=some 63) (hdf:d.params.defaults=[])
  (hY:∀(w:World) (h:Heap),YP w h->(K w.params).In h)
  (F:∀(w:World) (mg:Str->Option Value) (fa:Addr) (h:Heap),(K w.params).In h->h.Ns mainGlobals mg->mg d.name=some (.ref fa)->
   ∃fd:FuncData,(∀(s:Shared) (u:Value),BindsTo s fd ⟨[u],[]⟩ [("_law_script",u)])/\∀base:Heap,(K w.params).In base->base.Ns mainGlobals mg->A4c l.prog w (K w.params) mg base CX0 23 fa fd ["_law_script"] (D0n (K w.params))) :
  PySem.W.WalkO q loose XP YP l.row.toRowW d [] (λf vs=>PySem.call f vs) :=
 L2.D4j (n:=63) (k:=23) (x:="_law_script") (CX:=λ_=>CX0) (sp:=λw=>D0n (K w.params)) hn (by decide) hdf ⟨rfl,by decide,by decide,rfl⟩ hY F (λ_ _ a ns hl hO hS=>⟨a,ns,rfl,ScF.mk hO hS,hl,λ_=>rfl⟩) λ_ _ _ _ _ z=>z
end My
local macro_rules | `(tactic| walk_at "kf") => `(tactic| (refine' My.D6w ?l ?c ?k; (case l => k_is); (case c => k_is); (case k => k_is)))
open PySem PySem.W PyProof.Rows
set_option maxRecDepth 100000 in
set_option maxHeartbeats 0 in
theorem PySem.Challenge.cw_arrayloom_k23_each_cell_its_term_holds : PySem.Challenge.rw_arrayloom_k23_each_cell_its_term.Holds := by
 w_on;o_law;k_head;(case hw=>w_witness2)
 k_fill
 refine My.walk (l:=PySem.Challenge.rw_arrayloom_k23_each_cell_its_term) rfl rfl (λw h Y=>PySem.W.kIn_of Y) ?F
 case F =>
  intro w mg fa h KX G hmg;refine' My.D8m KX G hmg ?dB ?dP ?gE ?cQ ?gD ?hB ?dC ?dQ ?fF ?hC ?fG ?dR ?dS ?gF ?dT ?aT ?a0 ?l0 ?a1 ?l1 ?a2 ?l2 ?a3 ?l3 ?a4 ?l4 ?i4 ?a5 ?l5 ?i5 ?a6 ?l6 ?a7 ?l7 ?a8 ?l8 ?a9 ?l9 ?nB ?iM ?iN ?nC ?iO ?iP ?nD ?iQ ?iR ?nE ?iS ?iT ?nF ?iU ?iV ?nG ?iW ?iX ?nH ?iY ?iZ ?nI ?jA ?jB ?jC ?jD ?nJ ?jE ?hN ?nK ?jF ?hP ?nL ?jG ?jH ?nM ?jI ?jJ ?nN ?jK ?jL ?nO ?jM ?jN ?nP ?jO ?jP ?jQ ?jR ?nQ ?jS ?jT ?nR ?jU ?jV ?nS ?jW ?jX ?nT ?jY ?jZ ?nU ?kA ?kB ?kC ?kD ?kE ?kF ?kG ?kH ?kI ?kJ ?kK ?kL ?kM ?kN ?kO ?kP ?kQ ?kR ?kS ?kT ?kU ?kV ?kW ?kX ?kY ?kZ ?lA ?lB ?lC ?lD ?lE ?lF ?lG ?lH ?lI ?lJ ?lK ?lL ?lM ?lN ?lO ?lP ?lQ ?lR ?lS ?lT ?lU ?lV ?lW ?lX ?lY ?lZ ?iL ?hQ ?aU ?aV ?aW ?aX ?aY ?aZ ?bA ?aJ ?aG ?aH ?aL ?bB ?dD ?dE ?bC ?dU ?dV ?dW ?dX ?dY ?dZ ?eA ?bV ?cE ?bW ?bM ?bN ?aQ ?aN ?bO ?eB ?eC ?gG ?gH ?gI ?gJ ?gK ?gL ?gM ?cJ ?cK ?cL ?gN ?gO ?cM ?cF ?cN ?eD ?eE ?eF ?eG ?eH ?eI ?eJ ?bX ?bP ?bD ?bQ ?eK ?eL ?dF ?dG ?dH ?dI ?dJ ?dK ?dL ?aR ?bE ?dM ?dN ?eM ?eN ?eO ?eP ?eQ ?eR ?eS ?bY ?bR ?eT ?eU ?fH ?fI ?fJ ?fK ?fL ?fM ?fN ?cG ?bZ ?bS ?cA ?fO ?fP ?cR ?cS ?cT ?cU ?cV ?cW ?cX ?aS ?bF ?aO ?bG ?bH ?cY ?cZ ?fQ ?fR ?fS ?fT ?fU ?fV ?fW ?cB ?bI ?bJ ?cC ?fX ?fY ?gP ?gQ ?gR ?gS ?gT ?gU ?gV ?cO ?cP ?cH ?gW ?gX ?eV ?eW ?eX ?eY ?eZ ?fA ?fB ?cD ?bT ?bK ?bU ?fC ?fD ?fZ ?cI ?gY ?gA ?gZ ?hD ?hE ?hF ?hG ?hH ?hA ?hI ?hJ ?dA
  (case dB | dP | gE | cQ | gD | hB | dC | dQ | fF | hC | fG=>k_is)
  (case dR | dS | gF | dT | aT=>k_is)
  (case a0=>k_is);(case l0=>walk_at "kf")
  (case a1=>k_is);(case l1=>walk_at "kf")
  (case a2=>k_is);(case l2=>walk_at "kf")
  (case a3=>k_is);(case l3=>walk_at "kf")
  (case a4=>k_is);(case l4=>walk_at "kf")
  (case i4=>k_is)
  (case a5=>k_is);(case l5=>walk_at "kf")
  (case i5=>k_is)
  (case a6=>k_is);(case l6=>walk_at "kf")
  (case a7=>k_is);(case l7=>walk_at "kf")
  (case a8=>k_is);(case l8=>walk_at "kf")
  (case a9=>k_is);(case l9=>walk_at "kf")
  (case nB=>k_is);(case iM=>walk_at "kf")
  (case iN=>k_is)
  (case nC=>k_is);(case iO=>walk_at "kf")
  (case iP=>k_is)
  (case nD=>k_is);(case iQ=>walk_at "kf")
  (case iR=>k_is)
  (case nE=>k_is);(case iS=>walk_at "kf")
  (case iT=>k_is)
  (case nF=>k_is);(case iU=>walk_at "kf")
  (case iV=>k_is)
  (case nG=>k_is);(case iW=>walk_at "kf")
  (case iX=>k_is)
  (case nH=>k_is);(case iY=>walk_at "kf")
  (case iZ=>k_is)
  (case nI=>k_is);(case jA=>walk_at "kf")
  (case jB=>k_is)
  (case jC=>k_is);(case jD=>walk_at "kf")
  (case nJ=>k_is);(case jE=>walk_at "kf")
  (case hN=>k_is)
  (case nK=>k_is);(case jF=>walk_at "kf")
  (case hP=>k_is)
  (case nL=>k_is);(case jG=>walk_at "kf")
  (case jH=>k_is)
  (case nM=>k_is);(case jI=>walk_at "kf")
  (case jJ=>k_is)
  (case nN=>k_is);(case jK=>walk_at "kf")
  (case jL=>k_is)
  (case nO=>k_is);(case jM=>walk_at "kf")
  (case jN=>k_is)
  (case nP=>k_is);(case jO=>walk_at "kf")
  (case jP=>k_is)
  (case jQ=>k_is);(case jR=>walk_at "kf")
  (case nQ=>k_is);(case jS=>walk_at "kf")
  (case jT=>k_is)
  (case nR=>k_is);(case jU=>walk_at "kf")
  (case jV=>k_is)
  (case nS=>k_is);(case jW=>walk_at "kf")
  (case jX=>k_is)
  (case nT=>k_is);(case jY=>walk_at "kf")
  (case jZ=>k_is)
  (case nU=>k_is);(case kA=>walk_at "kf")
  (case kB=>k_is)
  (case kC=>k_is);(case kD=>walk_at "kf")
  (case kE=>k_is);(case kF=>walk_at "kf")
  (case kG=>k_is);(case kH=>walk_at "kf")
  (case kI=>k_is);(case kJ=>walk_at "kf")
  (case kK=>k_is);(case kL=>walk_at "kf")
  (case kM=>k_is);(case kN=>walk_at "kf")
  (case kO=>k_is);(case kP=>walk_at "kf")
  (case kQ=>k_is);(case kR=>walk_at "kf")
  (case kS=>k_is);(case kT=>walk_at "kf")
  (case kU=>k_is);(case kV=>walk_at "kf")
  (case kW=>k_is);(case kX=>walk_at "kf")
  (case kY=>k_is);(case kZ=>walk_at "kf")
  (case lA=>k_is);(case lB=>walk_at "kf")
  (case lC=>k_is);(case lD=>walk_at "kf")
  (case lE=>k_is);(case lF=>walk_at "kf")
  (case lG=>k_is);(case lH=>walk_at "kf")
  (case lI=>k_is);(case lJ=>walk_at "kf")
  (case lK=>k_is);(case lL=>walk_at "kf")
  (case lM=>k_is);(case lN=>walk_at "kf")
  (case lO=>k_is);(case lP=>walk_at "kf")
  (case lQ=>k_is);(case lR=>walk_at "kf")
  (case lS=>k_is);(case lT=>walk_at "kf")
  (case lU=>k_is);(case lV=>walk_at "kf")
  (case lW=>k_is);(case lX=>walk_at "kf")
  (case lY=>k_is);(case lZ=>walk_at "kf")
  (case iL=>k_is);(case hQ=>walk_at "kf")
  (case aU | aV | aW | aX | aY | aZ | bA | aJ | aG | aH | aL=>k_is)
  (case bB | dD | dE | bC | dU | dV | dW | dX | dY | dZ | eA=>k_is)
  (case bV | cE | bW | bM | bN | aQ | aN | bO | eB | eC | gG=>k_is)
  (case gH | gI | gJ | gK | gL | gM | cJ | cK | cL | gN | gO=>k_is)
  (case cM | cF | cN | eD | eE | eF | eG | eH | eI | eJ | bX=>k_is)
  (case bP | bD | bQ | eK | eL | dF | dG | dH | dI | dJ | dK=>k_is)
  (case dL | aR | bE | dM | dN | eM | eN | eO | eP | eQ | eR=>k_is)
  (case eS | bY | bR | eT | eU | fH | fI | fJ | fK | fL | fM=>k_is)
  (case fN | cG | bZ | bS | cA | fO | fP | cR | cS | cT | cU=>k_is)
  (case cV | cW | cX | aS | bF | aO | bG | bH | cY | cZ | fQ=>k_is)
  (case fR | fS | fT | fU | fV | fW | cB | bI | bJ | cC | fX=>k_is)
  (case fY | gP | gQ | gR | gS | gT | gU | gV | cO | cP | cH=>k_is)
  (case gW | gX | eV | eW | eX | eY | eZ | fA | fB | cD | bT=>k_is)
  (case bK | bU | fC | fD | fZ | cI | gY | gA | gZ | hD | hE=>k_is)
  (case hF | hG | hH | hA | hI | hJ | dA=>k_is)
