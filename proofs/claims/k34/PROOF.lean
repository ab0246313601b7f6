import PyProof.Rows.All
import Wide.All
import OpenK.AllK
import Wide.FinOn
import Lean
import PySem.Challenge.RW_arrayloom_k34_whole_lines_mean_the_lets
set_option compiler.extract_closed false
section
open PySem PySem.Spec PyProof.Rows PySem.Calls
abbrev Z00:=@wpAny_bind
abbrev Z01:=@Heap.get?_push_of_some
abbrev Z02:=@List.mem_append_right
abbrev Z03:=@List.getElem?_eq_some_iff
abbrev Z04:=@wpAny_pure
abbrev Z05:=@List.mem_append_left
abbrev Z06:=@List.length_append
abbrev Z07:=@List.mem_append
abbrev Z08:=@List.length_map
abbrev Z09:=@Nat.le_refl
abbrev Z0a:=@Heap.lt_size
abbrev Z0b:=@List.getElem?_eq_getElem
abbrev Z0c:=@Heap.get?_push_size
abbrev Z0d:=@PyProof.Rows.boot_isinstance
abbrev Z0e:=@List.mem_cons
abbrev Z0f:=@PySem.W.mg_of
abbrev Z0g:=@List.size_toArray
abbrev Z0h:=@Nat.ne_of_lt
abbrev Z0i:=@Option.map_eq_some_iff
abbrev Z0j:=@List.length_singleton
abbrev Z0k:=@PySem.F.plainAttrs_list
abbrev Z0l:=@List.nodup_append
abbrev Z0m:=@PyProof.Rows.boot_tuple
abbrev Z0n:=@PySem.F.slot_list_append
abbrev Z0o:=@PySem.F.type_list_append
abbrev Z0p:=@List.map_cons
abbrev Z0q:=@Nat.lt_of_lt_of_le
abbrev Z0r:=@PySem.boot_len
abbrev Z0s:=@List.map_append
abbrev Z0t:=@if_neg
abbrev Z0u:=@List.append_nil
abbrev Z0v:=@Bool.false_ne_true
abbrev Z0w:=@List.mem_singleton
abbrev Z0x:=@List.length_take
abbrev Z0y:=@List.length_cons
abbrev Z0z:=@List.append_assoc
abbrev Z10:=@wpAny_mono
abbrev Z11:=@wpAny_field
abbrev Z12:=@if_pos
abbrev Z13:=@List.mem_of_getElem?
abbrev Z14:=@List.take_add_one
abbrev Z15:=@List.nodup_cons
abbrev Z16:=@wpAny_newObj_type
abbrev Z18:=@List.take_length
abbrev Z1a:=@Option.some.inj
abbrev Z1b:=@wpAny_callSpecial?_slot
abbrev Z1c:=@PySem.W.mg_none_of
abbrev Z1e:=@Nat.zero_le
abbrev Z1f:=@List.mem_cons_of_mem
abbrev Z1g:=@wpAny_call_entry
abbrev Z1h:=@wpAny_setField_rec
abbrev Z1j:=@decide_eq_false
abbrev Z1l:=@List.getElem?_append_right
abbrev Z1n:=@Nat.le_trans
abbrev Z1o:=@PyProof.Rows.boot_list
abbrev Z1p:=@Int.emod_lt_of_pos
abbrev Z1q:=@Nat.ne_of_gt
abbrev Z1s:=@Heap.size_push
abbrev Z1t:=@wpAny_setField
abbrev Z1u:=@List.drop_eq_getElem_cons
abbrev Z1v:=@Int.emod_nonneg
abbrev Z1w:=@wpAny_holding
abbrev Z1x:=@Bool.and_eq_true
abbrev Z1y:=@wpAny_standAt
abbrev Z1z:=@List.getElem?_map
abbrev Z20:=@decide_eq_true
abbrev Z21:=@wpAny_seqItems
abbrev Z22:=@beq_eq_false_iff_ne
abbrev Z23:=@List.getElem?_set_self
abbrev Z26:=@List.getElem?_append_left
abbrev Z27:=@List.mem_cons_self
abbrev Z28:=@List.lookup_cons
abbrev Z29:=@Int.mul_le_mul_of_nonneg_left
abbrev Z2a:=@List.getElem?_set_ne
abbrev Z2b:=@wpAny_execs_nil
abbrev Z2c:=@List.mem_map
abbrev Z2d:=@Nat.lt_of_le_of_lt
abbrev Z2e:=@List.take_append_drop
abbrev Z2f:=@Option.toList_some
abbrev Z2g:=@List.length_nil
abbrev Z2h:=@List.find?_cons
abbrev Z2i:=@List.drop_length
abbrev Z2m:=@List.getElem?_zip_eq_some
abbrev Z2o:=@List.take_sublist
abbrev Z2p:=@List.mem_of_mem_take
abbrev Z2q:=@PyProof.Rows.boot_dict
end
noncomputable section
open PySem.W (Frag findIn nsIn mroIn kitOne keepIn typeIn hideAll isFn plainGet isClsIn hasDictIn exmOne plainOver makesIn clsIn fnOf emptyDict instObj excIn kitAny takesIn specialIn subIn codeIn)
set_option Elab.async false
set_option bootstrap.genMatcherCode false
set_option linter.all false
set_option maxRecDepth 100000
set_option maxHeartbeats 4000000
section
variable {G:Prop} {T0 T1 T2 T3 T4 T5 T6 T7 T8 T9 T10:Sort _} {A0 A1 A2 A3 A4 A5:Prop} {B0 B1 B2 B3:T0->Prop} {C0 C1 C2 C3 C4 C5:T0->T1->Prop} {D0 D1 D2 D3 D4:T0->T1->T2->Prop} {E0 E1 E2 E3 E4 E5:T0->T1->T2->T3->Prop} {F0 F1 F2 F3 F4 F5:T0->T1->T2->T3->T4->Prop} {G0 G1 G2 G3 G4 G5 G6 G7:T0->T1->T2->T3->T4->T5->Prop} {I0:T0->T1->T2->T3->T4->T5->T6->T7->Prop} {J0:T0->T1->T2->T3->T4->T5->T6->T7->T8->Prop} {L0:T0->T1->T2->T3->T4->T5->T6->T7->T8->T9->T10->Prop}
theorem i00:A0->A1->A2->A0/\A1/\A2:=λm n i=>⟨m,n,i⟩
theorem i01:A0->∀x,B0 x->A0/\∃x,B0 x:=λm x n=>⟨m,x,n⟩
theorem i02:∀x,B0 x->B1 x->∃x,B0 x/\B1 x:=λx m n=>⟨x,m,n⟩
theorem i03:∀x y,C0 x y->∃x y,C0 x y:=λx y m=>⟨x,y,m⟩
theorem i04:A0->A1->A2->A3->A0/\A1/\A2/\A3:=λm n i j=>⟨m,n,i,j⟩
theorem i05:A0->∀x,B0 x->B1 x->A0/\∃x,B0 x/\B1 x:=λm x n i=>⟨m,x,n,i⟩
theorem i06:∀x,B0 x->B1 x->B2 x->∃x,B0 x/\B1 x/\B2 x:=λx m n i=>⟨x,m,n,i⟩
theorem i07:∀x y,C0 x y->C1 x y->∃x y,C0 x y/\C1 x y:=λx y m n=>⟨x,y,m,n⟩
theorem i08:∀x y z,D0 x y z->∃x y z,D0 x y z:=λx y z m=>⟨x,y,z,m⟩
theorem i09:A0->A1->A2->A3->A4->A0/\A1/\A2/\A3/\A4:=λm n i j k=>⟨m,n,i,j,k⟩
theorem i0a:A0->A1->∀x,B0 x->B1 x->A0/\A1/\∃x,B0 x/\B1 x:=λm n x i j=>⟨m,n,x,i,j⟩
theorem i0b:A0->∀x y,C0 x y->C1 x y->A0/\∃x y,C0 x y/\C1 x y:=λm x y n i=>⟨m,x,y,n,i⟩
theorem i0c:∀x,B0 x->B1 x->B2 x->B3 x->∃x,B0 x/\B1 x/\B2 x/\B3 x:=λx m n i j=>⟨x,m,n,i,j⟩
theorem i0d:∀x,B0 x->B1 x->∀y,C0 x y->∃x,B0 x/\B1 x/\∃y,C0 x y:=λx m n y i=>⟨x,m,n,y,i⟩
theorem i0e:∀x,B0 x->∀y,C0 x y->C1 x y->∃x,B0 x/\∃y,C0 x y/\C1 x y:=λx m y n i=>⟨x,m,y,n,i⟩
theorem i0f:∀x y,C0 x y->C1 x y->C2 x y->∃x y,C0 x y/\C1 x y/\C2 x y:=λx y m n i=>⟨x,y,m,n,i⟩
theorem i0g:∀x y z,D0 x y z->D1 x y z->∃x y z,D0 x y z/\D1 x y z:=λx y z m n=>⟨x,y,z,m,n⟩
theorem i0h:A0->A1->A2->A3->A4->A5->A0/\A1/\A2/\A3/\A4/\A5:=λm n i j k l=>⟨m,n,i,j,k,l⟩
theorem i0i:A0->∀x y,C0 x y->C1 x y->C2 x y->A0/\∃x y,C0 x y/\C1 x y/\C2 x y:=λm x y n i j=>⟨m,x,y,n,i,j⟩
theorem i0j:∀x,B0 x->B1 x->∀y,C0 x y->C1 x y->∃x,B0 x/\B1 x/\∃y,C0 x y/\C1 x y:=λx m n y i j=>⟨x,m,n,y,i,j⟩
theorem i0k:∀x,B0 x->∀y,C0 x y->C1 x y->C2 x y->∃x,B0 x/\∃y,C0 x y/\C1 x y/\C2 x y:=λx m y n i j=>⟨x,m,y,n,i,j⟩
theorem i0l:∀x,B0 x->∀y z u,E0 x y z u->∃x,B0 x/\∃y z u,E0 x y z u:=λx m y z u n=>⟨x,m,y,z,u,n⟩
theorem i0m:∀x y,C0 x y->C1 x y->C2 x y->C3 x y->∃x y,C0 x y/\C1 x y/\C2 x y/\C3 x y:=λx y m n i j=>⟨x,y,m,n,i,j⟩
theorem i0n:∀x y z,D0 x y z->D1 x y z->D2 x y z->∃x y z,D0 x y z/\D1 x y z/\D2 x y z:=λx y z m n i=>⟨x,y,z,m,n,i⟩
theorem i0o:∀x,B0 x->∀y z,D0 x y z->D1 x y z->D2 x y z->∃x,B0 x/\∃y z,D0 x y z/\D1 x y z/\D2 x y z:=λx m y z n i j=>⟨x,m,y,z,n,i,j⟩
theorem i0p:∀x y,C0 x y->C1 x y->C2 x y->C3 x y->C4 x y->∃x y,C0 x y/\C1 x y/\C2 x y/\C3 x y/\C4 x y:=λx y m n i j k=>⟨x,y,m,n,i,j,k⟩
theorem i0q:∀x y,C0 x y->C1 x y->∀z,D0 x y z->D1 x y z->∃x y,C0 x y/\C1 x y/\∃z,D0 x y z/\D1 x y z:=λx y m n z i j=>⟨x,y,m,n,z,i,j⟩
theorem i0r:∀x y z,D0 x y z->D1 x y z->D2 x y z->D3 x y z->∃x y z,D0 x y z/\D1 x y z/\D2 x y z/\D3 x y z:=λx y z m n i j=>⟨x,y,z,m,n,i,j⟩
theorem i0s:∀x,B0 x->∀y z,D0 x y z->D1 x y z->D2 x y z->D3 x y z->∃x,B0 x/\∃y z,D0 x y z/\D1 x y z/\D2 x y z/\D3 x y z:=λx m y z n i j k=>⟨x,m,y,z,n,i,j,k⟩
theorem i0t:∀x y,C0 x y->C1 x y->C2 x y->C3 x y->C4 x y->C5 x y->∃x y,C0 x y/\C1 x y/\C2 x y/\C3 x y/\C4 x y/\C5 x y:=λx y m n i j k l=>⟨x,y,m,n,i,j,k,l⟩
theorem i0u:∀x y z,D0 x y z->D1 x y z->D2 x y z->D3 x y z->D4 x y z->∃x y z,D0 x y z/\D1 x y z/\D2 x y z/\D3 x y z/\D4 x y z:=λx y z m n i j k=>⟨x,y,z,m,n,i,j,k⟩
theorem i0v:∀x,B0 x->B1 x->∀y,C0 x y->C1 x y->C2 x y->∀z,D0 x y z->∃x,B0 x/\B1 x/\∃y,C0 x y/\C1 x y/\C2 x y/\∃z,D0 x y z:=λx m n y i j k z l=>⟨x,m,n,y,i,j,k,z,l⟩
theorem i0w:∀x,B0 x->∀y,C0 x y->∀z u,E0 x y z u->E1 x y z u->E2 x y z u->∃x,B0 x/\∃y,C0 x y/\∃z u,E0 x y z u/\E1 x y z u/\E2 x y z u:=λx m y n z u i j k=>⟨x,m,y,n,z,u,i,j,k⟩
theorem i0x:∀x,B0 x->∀y z u,E0 x y z u->E1 x y z u->E2 x y z u->E3 x y z u->∃x,B0 x/\∃y z u,E0 x y z u/\E1 x y z u/\E2 x y z u/\E3 x y z u:=λx m y z u n i j k=>⟨x,m,y,z,u,n,i,j,k⟩
theorem i0y:∀x y z u,E0 x y z u->E1 x y z u->E2 x y z u->E3 x y z u->E4 x y z u->∃x y z u,E0 x y z u/\E1 x y z u/\E2 x y z u/\E3 x y z u/\E4 x y z u:=λx y z u m n i j k=>⟨x,y,z,u,m,n,i,j,k⟩
theorem i0z:∀x,B0 x->∀y z u v,F0 x y z u v->F1 x y z u v->F2 x y z u v->F3 x y z u v->∃x,B0 x/\∃y z u v,F0 x y z u v/\F1 x y z u v/\F2 x y z u v/\F3 x y z u v:=λx m y z u v n i j k=>⟨x,m,y,z,u,v,n,i,j,k⟩
theorem i10:∀x y z u,E0 x y z u->E1 x y z u->E2 x y z u->E3 x y z u->E4 x y z u->E5 x y z u->∃x y z u,E0 x y z u/\E1 x y z u/\E2 x y z u/\E3 x y z u/\E4 x y z u/\E5 x y z u:=λx y z u m n i j k l=>⟨x,y,z,u,m,n,i,j,k,l⟩
theorem i11:∀x y z u v w p q r,J0 x y z u v w p q r->∃x y z u v w p q r,J0 x y z u v w p q r:=λx y z u v w p q r m=>⟨x,y,z,u,v,w,p,q,r,m⟩
theorem i12:∀x,B0 x->∀y,C0 x y->∀z,D0 x y z->∀u v,F0 x y z u v->F1 x y z u v->F2 x y z u v->∃x,B0 x/\∃y,C0 x y/\∃z,D0 x y z/\∃u v,F0 x y z u v/\F1 x y z u v/\F2 x y z u v:=λx m y n z i u v j k l=>⟨x,m,y,n,z,i,u,v,j,k,l⟩
theorem i13:∀x,B0 x->∀y z u v,F0 x y z u v->F1 x y z u v->F2 x y z u v->F3 x y z u v->F4 x y z u v->∃x,B0 x/\∃y z u v,F0 x y z u v/\F1 x y z u v/\F2 x y z u v/\F3 x y z u v/\F4 x y z u v:=λx m y z u v n i j k l=>⟨x,m,y,z,u,v,n,i,j,k,l⟩
theorem i14:∀x y z u v,F0 x y z u v->F1 x y z u v->F2 x y z u v->F3 x y z u v->F4 x y z u v->F5 x y z u v->∃x y z u v,F0 x y z u v/\F1 x y z u v/\F2 x y z u v/\F3 x y z u v/\F4 x y z u v/\F5 x y z u v:=λx y z u v m n i j k l=>⟨x,y,z,u,v,m,n,i,j,k,l⟩
theorem i15:∀x,B0 x->∀y z u v,F0 x y z u v->F1 x y z u v->F2 x y z u v->F3 x y z u v->F4 x y z u v->F5 x y z u v->∃x,B0 x/\∃y z u v,F0 x y z u v/\F1 x y z u v/\F2 x y z u v/\F3 x y z u v/\F4 x y z u v/\F5 x y z u v:=λx m y z u v n i j k l o=>⟨x,m,y,z,u,v,n,i,j,k,l,o⟩
theorem i16:∀x,B0 x->∀y z u v,F0 x y z u v->F1 x y z u v->F2 x y z u v->∀w,G0 x y z u v w->G1 x y z u v w->∃x,B0 x/\∃y z u v,F0 x y z u v/\F1 x y z u v/\F2 x y z u v/\∃w,G0 x y z u v w/\G1 x y z u v w:=λx m y z u v n i j w k l=>⟨x,m,y,z,u,v,n,i,j,w,k,l⟩
theorem i17:∀x,B0 x->∀y,C0 x y->∀z u v w,G0 x y z u v w->G1 x y z u v w->G2 x y z u v w->G3 x y z u v w->G4 x y z u v w->∃x,B0 x/\∃y,C0 x y/\∃z u v w,G0 x y z u v w/\G1 x y z u v w/\G2 x y z u v w/\G3 x y z u v w/\G4 x y z u v w:=λx m y n z u v w i j k l o=>⟨x,m,y,n,z,u,v,w,i,j,k,l,o⟩
theorem i18:∀x,B0 x->∀y z,D0 x y z->D1 x y z->D2 x y z->∀u v,F0 x y z u v->F1 x y z u v->F2 x y z u v->F3 x y z u v->∃x,B0 x/\∃y z,D0 x y z/\D1 x y z/\D2 x y z/\∃u v,F0 x y z u v/\F1 x y z u v/\F2 x y z u v/\F3 x y z u v:=λx m y z n i j u v k l o a=>⟨x,m,y,z,n,i,j,u,v,k,l,o,a⟩
theorem i19:∀x,B0 x->∀y z u v w,G0 x y z u v w->G1 x y z u v w->G2 x y z u v w->G3 x y z u v w->G4 x y z u v w->G5 x y z u v w->∃x,B0 x/\∃y z u v w,G0 x y z u v w/\G1 x y z u v w/\G2 x y z u v w/\G3 x y z u v w/\G4 x y z u v w/\G5 x y z u v w:=λx m y z u v w n i j k l o=>⟨x,m,y,z,u,v,w,n,i,j,k,l,o⟩
theorem i1a:∀x y,C0 x y->C1 x y->C2 x y->∀z u,E0 x y z u->∀v w,G0 x y z u v w->G1 x y z u v w->G2 x y z u v w->∃x y,C0 x y/\C1 x y/\C2 x y/\∃z u,E0 x y z u/\∃v w,G0 x y z u v w/\G1 x y z u v w/\G2 x y z u v w:=λx y m n i z u j v w k l o=>⟨x,y,m,n,i,z,u,j,v,w,k,l,o⟩
theorem i1b:∀x,B0 x->∀y,C0 x y->∀z u v w,G0 x y z u v w->G1 x y z u v w->G2 x y z u v w->G3 x y z u v w->G4 x y z u v w->G5 x y z u v w->∃x,B0 x/\∃y,C0 x y/\∃z u v w,G0 x y z u v w/\G1 x y z u v w/\G2 x y z u v w/\G3 x y z u v w/\G4 x y z u v w/\G5 x y z u v w:=λx m y n z u v w i j k l o a=>⟨x,m,y,n,z,u,v,w,i,j,k,l,o,a⟩
theorem i1c:∀x,B0 x->∀y z u v,F0 x y z u v->F1 x y z u v->F2 x y z u v->F3 x y z u v->F4 x y z u v->∀w,G0 x y z u v w->G1 x y z u v w->∃x,B0 x/\∃y z u v,F0 x y z u v/\F1 x y z u v/\F2 x y z u v/\F3 x y z u v/\F4 x y z u v/\∃w,G0 x y z u v w/\G1 x y z u v w:=λx m y z u v n i j k l w o a=>⟨x,m,y,z,u,v,n,i,j,k,l,w,o,a⟩
theorem i1d:∀x y z u v w,G0 x y z u v w->G1 x y z u v w->G2 x y z u v w->G3 x y z u v w->G4 x y z u v w->G5 x y z u v w->G6 x y z u v w->G7 x y z u v w->∃x y z u v w,G0 x y z u v w/\G1 x y z u v w/\G2 x y z u v w/\G3 x y z u v w/\G4 x y z u v w/\G5 x y z u v w/\G6 x y z u v w/\G7 x y z u v w:=λx y z u v w m n i j k l o a=>⟨x,y,z,u,v,w,m,n,i,j,k,l,o,a⟩
theorem e08 (h:∃x y z u v,F0 x y z u v) (f:∀x y z u v,F0 x y z u v->G):G:=by
 obtain ⟨x,y,z,u,v,m⟩:=h;exact f x y z u v m
theorem e09 (h:∃x y z,D0 x y z/\D1 x y z/\D2 x y z/\D3 x y z) (f:∀x y z,D0 x y z->D1 x y z->D2 x y z->D3 x y z->G):G:=by
 obtain ⟨x,y,z,m,n,i,j⟩:=h;exact f x y z m n i j
theorem e0b (h:∃x y,C0 x y/\C1 x y/\∃z u v,F0 x y z u v) (f:∀x y,C0 x y->C1 x y->∀z u v,F0 x y z u v->G):G:=by
 obtain ⟨x,y,m,n,z,u,v,i⟩:=h;exact f x y m n z u v i
theorem e0d (h:∃x y z u,E0 x y z u/\E1 x y z u/\E2 x y z u/\E3 x y z u/\E4 x y z u) (f:∀x y z u,E0 x y z u->E1 x y z u->E2 x y z u->E3 x y z u->E4 x y z u->G):G:=by
 obtain ⟨x,y,z,u,m,n,i,j,k⟩:=h;exact f x y z u m n i j k
theorem e0e (h:∃x y z u v w p q,I0 x y z u v w p q) (f:∀x y z u v w p q,I0 x y z u v w p q->G):G:=by
 obtain ⟨x,y,z,u,v,w,p,q,m⟩:=h;exact f x y z u v w p q m
theorem e0h (h:∃x y z u v w p q r s t,L0 x y z u v w p q r s t) (f:∀x y z u v w p q r s t,L0 x y z u v w p q r s t->G):G:=by
 obtain ⟨x,y,z,u,v,w,p,q,r,s,t,m⟩:=h;exact f x y z u v w p q r s t m
end
namespace L2
open PySem PySem.Spec PyProof.Rows
abbrev Key:=Sum Int Str
def C1k:Key->Value->Bool
 | .inl k,v=>Value.isInt k v
 | .inr x,v=>Value.isStrOf x v
def keyH (w:World):Key->Int
 | .inl k=>hashInt k
 | .inr x=>hashStr w x
theorem A2v:∀{k:Key} {v:Value},C1k k v=true->(∃i t,k=Sum.inl i/\v=Value.int i t)\/(∃x t,k=Sum.inr x/\v=Value.str x t)
 | .inl i,v,h=>by
  obtain ⟨t,e⟩:=Value.isInt_shape (k:=i) (v:=v) h;exact .inl (i07 i t rfl e)
 | .inr x,v,h=>by
  obtain ⟨t,e⟩:=Value.isStrOf_shape (x:=x) (v:=v) h;exact .inr (i07 x t rfl e)
theorem C7a (i:Int) (t:Tok):C1k (.inl i) (.int i t)=true:=by simp [C1k,Value.isInt]
theorem C8s (x:Str) (t:Tok):C1k (.inr x) (.str x t)=true:=by simp [C1k,Value.isStrOf]
theorem E1r (a b:Int):decide ((Sum.inl a:Key)=Sum.inl b)=(a == b):=by
 by_cases e:a=b
 ·subst e;simp
 ·have h:¬(Sum.inl a:Key)=Sum.inl b:=λq=>e (Sum.inl.inj q);rw [Z1j h];exact (Z22.mpr e).symm
theorem D8z (a b:Str):decide ((Sum.inr a:Key)=Sum.inr b)=decide (a=b):=by
 by_cases e:a=b
 ·subst e;simp
 ·have h:¬(Sum.inr a:Key)=Sum.inr b:=λq=>e (Sum.inr.inj q);rw [Z1j h,Z1j e]
theorem D8q (a:Int) (b:Str):decide ((Sum.inl a:Key)=Sum.inr b)=false:=Z1j (λq=>nomatch q)
theorem E1d (a:Str) (b:Int):decide ((Sum.inr a:Key)=Sum.inl b)=false:=Z1j (λq=>nomatch q)
def A1x (prog:Program) (w:World):PySem.KeyKind prog w Key where
 is:=C1k
 hash:=keyH w
 inj:=λv a b g d=>by
  rcases A2v g with ⟨i,t,rfl,rfl⟩ | ⟨x,t,rfl,rfl⟩
  ·rcases A2v d with ⟨j,u,rfl,e⟩ | ⟨y,u,rfl,e⟩
   ·injection e with e1 _;rw [e1]
   ·exact nomatch e
  ·rcases A2v d with ⟨j,u,rfl,e⟩ | ⟨y,u,rfl,e⟩
   ·exact nomatch e
   ·injection e with e1 _;rw [e1]
 byValue:=λk v h=>by
  rcases A2v h with ⟨i,t,rfl,rfl⟩ | ⟨x,t,rfl,rfl⟩ <;> rfl
 pyHash:=λc h=>by
  rcases A2v c with ⟨i,t,rfl,rfl⟩ | ⟨x,t,rfl,rfl⟩
  ·exact wpAny_pyHash_int h
  ·exact wpAny_pyHash_str h
 eqBool:=λf c h=>by
  rcases A2v f with ⟨i,t,rfl,rfl⟩ | ⟨x,t,rfl,rfl⟩
  ·rcases A2v c with ⟨j,u,rfl,rfl⟩ | ⟨y,u,rfl,rfl⟩
   ·rw [E1r] at h;exact wpAny_eqBool_int h
   ·rw [D8q] at h;exact SeqAt.EqAt.int_str i t y u _ _ _ _ h
  ·rcases A2v c with ⟨j,u,rfl,rfl⟩ | ⟨y,u,rfl,rfl⟩
   ·rw [E1d] at h;exact SeqAt.EqAt.str_int x t j u _ _ _ _ h
   ·rw [D8z] at h;exact wpAny_eqBool_str h
 «strs»:=λk x t v h=>by
  rcases A2v h with ⟨i,u,rfl,e⟩ | ⟨y,u,rfl,e⟩
  ·exact nomatch e
  ·injection e with e1 _;subst e1;cases v <;> rfl
theorem C1h (prog:Program) (w:World) (i:Int) (t:Tok):(A1x prog w).is (.inl i) (.int i t)=true:=C7a i t
theorem C1c (prog:Program) (w:World) (x:Str) (t:Tok):(A1x prog w).is (.inr x) (.str x t)=true:=C8s x t
inductive V where
 | non | bl (b:Bool) | int (i:Int) | str (x:Str) | byt (b:Array UInt8) | flt (b:UInt64) | ref (a:Addr) | ty (n:String)
 deriving DecidableEq
def A3c:V->Value->Prop
 | .non,u=>u=Value.none
 | .bl b,u=>u=Value.bool b
 | .int i,u=>∃t,u=Value.int i t
 | .str x,u=>∃t,u=Value.str x t
 | .byt b,u=>∃t,u=Value.bytes b t
 | .flt b,u=>∃t,u=Value.float b t
 | .ref a,u=>u=Value.ref a
 | .ty n,u=>u=Value.type n
abbrev A3z:List V->List Value->Prop:=Paired A3c
theorem A3z.length {xs:List V} {us:List Value} (r:A3z xs us):xs.length=us.length:=Paired.length r
theorem A3z.get:∀{xs:List V} {us:List Value} {i:Nat} {x:V},A3z xs us->xs[i]? =some x->∃u,us[i]? =some u/\A3c x u
 | _,_,_,_,.nil,e=>by simp at e
 | _,_,0,_,.cons r _,e=>by simp at e;subst e;exact i02 _ rfl r
 | _,_,i+1,x,.cons _ t,e=>by
  obtain ⟨u,b,a⟩:=A3z.get (i:=i) (x:=x) t (by simpa using e);exact i02 u (by simpa using b) a
theorem A3z.append:∀{xs ys:List V} {us ws:List Value},A3z xs us->A3z ys ws->A3z (xs++ys) (us++ws)
 | _,_,_,_,.nil,s=>s
 | _,_,_,_,.cons r t,s=> .cons r (A3z.append t s)
theorem A3z.take:∀{xs:List V} {us:List Value} (n:Nat),A3z xs us->A3z (xs.take n) (us.take n)
 | _,_,0,_=> .nil
 | _,_,_+1,.nil=> .nil
 | _,_,n+1,.cons r t=> .cons r (A3z.take n t)
theorem A3z.drop:∀{xs:List V} {us:List Value} (n:Nat),A3z xs us->A3z (xs.drop n) (us.drop n)
 | _,_,0,r=>r
 | _,_,_+1,.nil=> .nil
 | _,_,n+1,.cons _ t=>A3z.drop n t
def B7r:Option V->Option Value->Prop
 | some v,some u=>A3c v u
 | none,none=>True
 | _,_=>False
def KV {κ:Type}:List (κ×V)->List (κ×Value)->Prop:=Paired λ(p:κ×V) (q:κ×Value)=>p.1=q.1/\A3c p.2 q.2
def kV:Key->V
 | .inl i=> .int i
 | .inr x=> .str x
inductive HO where
 | lst (xs:List V)
 | tup (xs:List V)
 | dK (kvs:List (Key×V)) | dT (kvs:List (List Key×V))
 | set (S:Int->Bool) (n:Nat)
 | ins (C dx:Addr) (fs:List (Str×V))
 | own (x:Addr)
 | xd (fs:List (Str×V))
 | met (f x:Addr)
 | rng (lo hi:Int)
 | frz (o:Obj) (u:HO)
 | tbl (ps:Array Value)
 | ext (φ:Heap->Prop)
abbrev Hp:=Addr->Option HO
def upd (H:Hp) (a:Addr) (o:HO):Hp:=λb=>if b=a then some o else H b
theorem A0b {H:Hp} {a:Addr} {o:HO}:upd H a o a=some o:=by unfold upd;rw [Z12 rfl]
theorem A0i {H:Hp} {a b:Addr} {o:HO} (h:b≠a):upd H a o b=H b:=by unfold upd;rw [Z0t h]
theorem A5o {H:Hp} {a:Addr} {o u:HO}:upd (upd H a o) a u=upd H a u:=by
 funext b;unfold upd;split <;> rfl
theorem A3m {H:Hp} {a b:Addr} {o u:HO} (h:H a=some o) (h':H b=some u) (d:o≠u):a≠b:=by
 intro e;subst e;rw [h] at h';exact d (Z1a h')
theorem A0z {H:Hp} {a b:Addr} {o:HO} (h:H a=some o) (h':H b=none):a≠b:=by
 intro e;subst e;rw [h] at h';cases h'
section
variable (P:Program) (w:World)
def A2q (H:Hp) (h:Heap) (a:Addr):HO->Prop
 | .lst c=>c.length<=sizeLine/\∃(b:List Value) (n:Nat),A3z c b/\h.get? a=some { cls:= .type "list",data:= .seq b.toArray n }
 | .tup c=>c.length<=sizeLine/\∃b:List Value,A3z c b/\IsTup h a b.toArray
 | .dK kvs=>kvs.length<=sizeLine/\(a == sysModules)=false/\∃i,KV kvs i/\h.DictOf (A1x P w) a i
 | .dT kvs=>kvs.length<=sizeLine/\(a == sysModules)=false/\∃c:List (List Key×Addr×Value),
   Paired (λ(p:List Key×V) (q:List Key×Addr×Value)=>p.1=q.1/\H q.2.1=some (.tup (p.1.map kV))/\A3c p.2 q.2.2) kvs c/\
   ∃o g k,h.get? a=some o/\o.ExactDict/\o.data= .dict g k/\g.toList=c.map (entryOfKey (tupleKind (A1x P w)))/\(c.map (·.1)).Nodup
 | .set S n=>h.SetOf (intKind P w) a S n
 | .ins C dx fs=>H dx=some (.own a)/\fs.length<=1000/\dx≠a/\h.get? a=some (instObj C dx)/\
   ∃d,h.Ns1 dx d/\(∀f,B7r (fs.lookup f) (d f))/\PySem.Within d (fs.map (·.1))
 | .own _=>∃o,h.get? a=some o
 | .xd fs=>∃d,h.Ns1 a d/\∀f,B7r (fs.lookup f) (d f)
 | .rng lo hi=>∃t u v,h.get? a=some { cls:= .type "range",data:= .fields #[.int lo t,.int hi u,.int 1 v] }
 | .frz o u=>h.get? a=some o/\A2q H h a u
 | .tbl ps=>h.get? a=some { cls:= .none,data:= .fields ps }
 | .met f x=>h.get? a=some (PySem.W.methodObj (.ref f) (.ref x))
 | .ext φ=>φ h/\(∃o,h.get? a=some o)/\∀e j:Heap,φ e->(∀o,e.get? a=some o->j.get? a=some o)->φ j
def HOk (H:Hp) (h:Heap):Prop:=∀a o,H a=some o->A2q P w H h a o
end
section
variable {P:Program} {w:World} {H H':Hp} {h h':Heap} {a:Addr} {o:HO}
theorem A2q.lt (x:A2q P w H h a o):a<h.objs.size:=by
 cases o with
 | lst xs=>obtain ⟨_,_,_,_,e⟩:=x;exact Z0a e
 | tup xs=>obtain ⟨_,_,_,p⟩:=x;exact p.lt
 | dK kvs=>obtain ⟨_,_,_,_,o,_,_,e,_⟩:=x;exact Z0a e
 | dT kvs=>obtain ⟨_,_,_,_,o,_,_,e,_⟩:=x;exact Z0a e
 | set S n=>obtain ⟨o,_,_,_,e,_⟩:=x;exact Z0a e
 | ins C dx fs=>obtain ⟨_,_,_,e,_⟩:=x;exact Z0a e
 | own y=>obtain ⟨_,e⟩:=x;exact Z0a e
 | xd fs=>obtain ⟨_,⟨_,_,_,e,_⟩,_⟩:=x;exact Z0a e
 | rng lo hi=>obtain ⟨_,_,_,e⟩:=x;exact Z0a e
 | frz ob u=>obtain ⟨e,_⟩:=x;exact Z0a e
 | tbl ps=>exact Z0a (show h.get? a=some _ from x)
 | met f y=>exact Z0a (show h.get? a=some _ from x)
 | ext φ=>obtain ⟨_,⟨_,e⟩,_⟩:=x;exact Z0a e
theorem Paired.mapP {α β:Type} {F G:α->β->Prop}:∀{c:List α} {d:List β},Paired F c d->(∀a b,F a b->G a b)->Paired G c d
 | _,_,.nil,_=> .nil
 | _,_,.cons r t,f=> .cons (f _ _ r) (Paired.mapP t f)
theorem A2q.stay (x:A2q P w H h a o) (k:∀b u,(b=a\/H b=some (.own a))->h.get? b=some u->h'.get? b=some u)
  (G:∀b,H b=some (.own a)->H' b=some (.own a)) (F:∀b xs,H b=some (.tup xs)->H' b=some (.tup xs)):A2q P w H' h' a o:=by
 induction o with
 | lst xs=>obtain ⟨z,l,n,r,e⟩:=x;exact i0b z l n r (k _ _ (.inl rfl) e)
 | tup xs=>obtain ⟨z,l,r,g,e,c⟩:=x;exact ⟨z,(i0e l r g (k _ _ (.inl rfl) e) c)⟩
 | dK kvs=>obtain ⟨z,y,D,r,g,j,i,e,c⟩:=x;exact i0a z y D r (i0g g j i (k _ _ (.inl rfl) e) c)
 | dT kvs =>
  obtain ⟨z,y,xs,r,g,j,i,e,c⟩:=x;exact i0a z y xs (Paired.mapP r λp q z=>(i00 z.1 (F _ _ z.2.1) z.2.2)) (i0g g j i (k _ _ (.inl rfl) e) c)
 | set S n=>obtain ⟨g,j,i,t,e,c⟩:=x;exact ⟨g,(i0g j i t (k _ _ (.inl rfl) e) c)⟩
 | ins C dx fs =>
  obtain ⟨d,z,I,e,s,⟨m,j,i,B,c⟩,r⟩:=x;exact i00 (G _ d) z (i0a I (k _ _ (.inl rfl) e) s (i0g m j i (k _ _ (.inr d) B) c) r)
 | own y=>obtain ⟨g,e⟩:=x;exact ⟨g,k _ _ (.inl rfl) e⟩
 | xd fs=>obtain ⟨s,⟨m,j,i,e,c⟩,r⟩:=x;exact i02 s (i0g m j i (k _ _ (.inl rfl) e) c) r
 | rng lo hi=>obtain ⟨t,u,v,e⟩:=x;exact i08 t u v (k _ _ (.inl rfl) e)
 | frz g u ih=>obtain ⟨e,q⟩:=x;exact ⟨k _ _ (.inl rfl) e,ih q⟩
 | tbl ps =>
  have e:h.get? a=some { cls:= .none,data:= .fields ps }:=x;show h'.get? a=some { cls:= .none,data:= .fields ps };exact k a _ (.inl rfl) e
 | met f y =>
  have e:h.get? a=some (PySem.W.methodObj (.ref f) (.ref y)):=x;show h'.get? a=some (PySem.W.methodObj (.ref f) (.ref y));exact k a _ (.inl rfl) e
 | ext φ=>obtain ⟨p,⟨o,e⟩,A⟩:=x;exact i00 (A _ _ p λo q=>k _ _ (.inl rfl) q) ⟨o,k _ _ (.inl rfl) e⟩ A
theorem HOk.lt (x:HOk P w H h) (e:H a=some o):a<h.objs.size:=(x a o e).lt
theorem HOk.fresh (x:HOk P w H h) (e:h.objs.size<=a):H a=none:=by
 cases q:H a with
 | none=>rfl
 | some u=>exact absurd (Z0q (x.lt q) e) (Nat.lt_irrefl _)
theorem HOk.kept (x:HOk P w H h) (k:∀b u,h.get? b=some u->h'.get? b=some u):HOk P w H h':=λa o e =>
 (x a o e).stay (λb u _ q=>k b u q) (λ_ q=>q) λ_ _ q=>q
theorem HOk.laid (x:HOk P w H h) (k:∀b u,h.get? b=some u->h'.get? b=some u) (g:h.objs.size<=a) (d:A2q P w (upd H a o) h' a o):HOk P w (upd H a o) h':=λb u e=>by
 have f:=x.fresh g;by_cases hb:b=a
 ·subst hb;rw [A0b] at e;cases e;exact d
 ·rw [A0i hb] at e;exact (x b u e).stay (λc v _ q=>k c v q) (λc q=>by rw [A0i (A0z q f)];exact q) λc i q=>by rw [A0i (A0z q f)];exact q
end
def Rd (H:Hp) (a:Addr) (u:HO):Prop:=H a=some u\/∃o,H a=some (.frz o u)
theorem Rd.ok {P:Program} {w:World} {H:Hp} {h:Heap} {a:Addr} {u:HO} (r:Rd H a u) (x:HOk P w H h):A2q P w H h a u:=by
 rcases r with r | ⟨o,r⟩
 ·exact x a u r
 ·obtain ⟨_,q⟩:=x a _ r;exact q
def Mut:Option HO->Prop
 | some (.lst _)=>True
 | some (.dK _)=>True
 | some (.dT _)=>True
 | some (.set _ _)=>True
 | some (.ins _ _ _)=>True
 | some (.ext _)=>True
 | _=>False
section
variable {P:Program} {w:World} {H:Hp} {h h':Heap} {x e:Addr} {o':HO}
theorem HOk.write (p:HOk P w H h) (g:Mut (H x)) (m:e=x\/H e=some (.own x)) (k:∀b u,b≠e->h.get? b=some u->h'.get? b=some u) (l:∃u,h'.get? e=some u)
  (j:A2q P w (upd H x o') h' x o'):HOk P w (upd H x o') h':=λb u q=>by
 have a:∀c y,H c=some (.own y)->c≠x:=λc y r z=>by subst z;rw [r] at g;exact g
 have d:∀c f,H c=some (.tup f)->c≠x:=λc f r z=>by subst z;rw [r] at g;exact g
 by_cases hb:b=x
 ·subst hb;rw [A0b] at q;cases q;exact j
 ·rw [A0i hb] at q;by_cases hbe:b=e
  ·have n:H b=some (.own x):=by
    rcases m with z | z
    ·exact absurd (hbe.trans z) hb
    ·rw [hbe];exact z
   rw [q] at n;cases n;obtain ⟨v,o⟩:=l;exact ⟨v,by rw [hbe];exact o⟩
  ·refine (p b u q).stay (λc v i r=>k c v ?_ r) (λc r=>by rw [A0i (a c b r)];exact r) λc f r=>by rw [A0i (d c f r)];exact r
   rcases i with rfl | i
   ·exact hbe
   ·rintro rfl;rcases m with z | z
    ·exact a c b i z
    ·rw [i] at z;cases z;exact hb rfl
end
structure Un (fs ex:List Addr) (H H':Hp) (h h':Heap):Prop where
 keep:∀b o,h.get? b=some o->H b=none->b∉fs->b∉ex->h'.get? b=some o
 slot:∀b o,h.get? b=some o->H b=none->b∈fs->b∉ex->∃sl,h'.get? b=some { o with slots:=sl }
 free:∀b o,h.get? b=some o->H b=none->b∉ex->H' b=none
 there:∀b o,h.get? b=some o->b∉ex->∃o',h'.get? b=some o'
 tups:∀b xs,H b=some (.tup xs)->H' b=some (.tup xs)
 frzs:∀b o u,H b=some (.frz o u)->H' b=some (.frz o u)
 tbls:∀b ps,H b=some (.tbl ps)->∃more,H' b=some (.tbl (ps++more))
section
variable {fs fs' ex ex':List Addr} {H H1 H2:Hp} {h h1 h2 h':Heap} {a x e:Addr} {o:HO}
theorem Un.any (u:Un fs ex H H1 h h1) {b:Addr} {a:Obj} (q:h.get? b=some a) (n:H b=none) (c:b∉ex):∃sl,h1.get? b=some { a with slots:=sl }:=by
 by_cases hb:b∈fs
 ·exact u.slot b a q n hb c
 ·exact ⟨a.slots,u.keep b a q n hb c⟩
theorem Un.kept (k:∀b u,h.get? b=some u->h'.get? b=some u):Un fs ex H H h h' :=
 ⟨λb a q _ _ _=>k b a q,λb a q _ _ _=>⟨a.slots,k b a q⟩,λ_ _ _ n _=>n,λb a q _=>⟨a,k b a q⟩,λ_ _ q=>q,λ_ _ _ q=>q,λ_ c q=>⟨#[],by rw [q];simp⟩⟩
theorem Un.refl:Un fs ex H H h h:=Un.kept λ_ _ q=>q
theorem Un.laid (k:∀b u,h.get? b=some u->h'.get? b=some u) (e:h.objs.size<=a) (c:H a=none):Un fs ex H (upd H a o) h h' where
 keep:=λb u q _ _ _=>k b u q
 slot:=λb u q _ _ _=>⟨u.slots,k b u q⟩
 free:=λb u q n _=>by rw [A0i (Z0h (Z0q (Z0a q) e))];exact n
 there:=λb u q _=>⟨u,k b u q⟩
 tups:=λb d q=>by rw [A0i (A0z q c)];exact q
 frzs:=λb u d q=>by rw [A0i (A0z q c)];exact q
 tbls:=λb f q=>⟨#[],by rw [A0i (A0z q c),q];simp⟩
theorem Un.write (a:Mut (H x)) (i:e=x\/H e=some (.own x)) (k:∀b u,b≠e->h.get? b=some u->h'.get? b=some u) (d:∃u,h'.get? e=some u):Un fs ex H (upd H x o) h h':=by
 have f:∀b,H b=none->b≠x:=λb n z=>by subst z;rw [n] at a;exact a
 have g:∀b,H b=none->b≠e:=λb n z=>by
  subst z;rcases i with r | r
  ·exact f b n r
  ·rw [n] at r;cases r
 have c:∀b u,H b=some u->¬Mut (some u)->b≠x:=λb u q l z=>by subst z;rw [q] at a;exact l a
 refine ⟨λb u q n _ _=>k b u (g b n) q,λb u q n _ _=>⟨u.slots,k b u (g b n) q⟩,λb u q n _=>by rw [A0i (f b n)];exact n,λb u q _=> ?_,
  λb j q=>by rw [A0i (c b _ q λz=>z)];exact q,λb u j q=>by rw [A0i (c b _ q λz=>z)];exact q,λb m q=>⟨#[],by rw [A0i (c b _ q λz=>z),q];simp⟩⟩
 by_cases hbe:b=e
 ·subst hbe;exact d
 ·exact ⟨u,k b u hbe q⟩
end
def trk (h:Heap) (H:Hp):List Addr:=(List.range h.objs.size).filter λa=>(H a).isSome
def D1f (h:Heap) (H:Hp):Heap:=hideAll h (trk h H)
theorem C7k (h:Heap) (H:Hp):(D1f h H).objs.size=h.objs.size:=PySem.W.hideAll_size _ _
theorem D2j {h:Heap} {H:Hp} {b:Addr} {o:Obj} (e:h.get? b=some o) (n:H b=none):(D1f h H).get? b=some o :=
 PySem.W.hideAll_get _ e λa=>by
  have q:(H b).isSome=true:=(List.mem_filter.mp a).2;rw [n] at q;simp at q
theorem D5j {h:Heap} {H:Hp} {b:Addr} {o:Obj} (e:(D1f h H).get? b=some o):h.get? b=some o/\H b=none:=by
 have a:h.get? b=some o:=PySem.W.of_hideAll (trk h H) e;refine ⟨a,?_⟩
 cases q:H b with
 | none=>rfl
 | some x =>
  have c:b∈trk h H:=List.mem_filter.mpr ⟨List.mem_range.mpr (Z0a a),by simp [q]⟩;have z:(D1f h H).get? b=none:=PySem.W.hideAll_none (trk h H) c;rw [z] at e;cases e
structure Mod (K:Frag) (mg:Str->Option Value) (base:Heap):Prop where
 kin:K.In base
 glob:base.Ns mainGlobals mg
 blt:∃mb,base.Ns builtinsNs mb/\∀x:Str,x≠"__name__"->mb x=bootBuiltins x
 nolimit:base.NoLimit
structure Cx where
 prog:Program
 w:World
 K:Frag
 mg:Str->Option Value
 base:Heap
 A:Around
 N:List Str
 s₀:Shared
 H₀:Hp
 env:Env
 outer:List Env
 stack:List Env
 ex:List Addr
 fn:Str->Bool
 calm:Bool
 pn:List (Addr×Obj)
 xe:Value->Shared->Prop
def frs (l:List Env):List Addr:=l.filterMap (·.frame)
abbrev Cx.fs (X:Cx):List Addr:=frs X.outer
def Vis (sc:Scope) (x:Str):Prop:=sc.names.lookup x=some .local\/sc.names.lookup x=some .cell\/sc.names.lookup x=some .free
def Loc (sc:Scope) (x:Str):Prop:=sc.names.lookup x=some .local\/sc.names.lookup x=some .cell
def Look (a:Env) (h:Heap) (m:Str->Option Value) (x:Str) (u:Value):Prop :=
 (a.kindOf x=some .local/\m x=some u)\/((a.kindOf x=some .cell\/a.kindOf x=some .free)/\∃c,a.cells.lookup x=some c/\h.IsCell c (some u))
structure Cx.Ok (X:Cx):Prop where
 mod:Mod X.K X.mg X.base
 kind:X.env.scope.kind= .function
 glob:X.env.globals=mainGlobals
 blt:X.env.builtins=builtinsNs
 above:X.s₀.heap.objs.size<=X.env.locals
 inj:∀x y c,X.env.cells.lookup x=some c->X.env.cells.lookup y=some c->x=y
 has:∀x,(X.env.kindOf x=some .cell\/X.env.kindOf x=some .free)->∃c,X.env.cells.lookup x=some c
 cab:∀x c,X.fn x=true->X.env.cells.lookup x=some c->X.s₀.heap.objs.size<=c
 hd:X.calm=true->X.A.handled=none
 frames:X.A.frames=some X.stack
 stk:X.stack=X.outer\/(X.stack=X.env::X.outer/\X.env.frame=some X.env.locals)
 exf:∀b∈X.ex,b≠X.env.locals/\∀x c,X.env.cells.lookup x=some c->c≠b
 bs:∀b o,X.base.get? b=some o->X.s₀.heap.get? b=some o/\X.H₀ b=none
 bsz:X.base.objs.size<=X.s₀.heap.objs.size
 noex:∀b o,X.base.get? b=some o->b∉X.ex
 exfs:∀b∈X.ex,b∉X.fs
 funs:X.s₀.heap.FunFrames X.base X.outer
 frf:∀b∈X.fs,X.H₀ b=none
structure Inv (X:Cx) (pins:List (Addr×Obj)) (Z:List (Option V)) (H:Hp) (s:Shared):Prop where
 ok:X.Ok
 os:s.os=X.s₀.os
 bare:AllBare s.gens
 base:Un X.fs X.ex X.H₀ H X.s₀.heap s.heap
 loc:∃m,s.heap.Ns X.env.locals m/\∀(i:Nat) (x:Str) (v:V),X.N[i]? =some x->Z[i]? =some (some v)->Vis X.env.scope x->∃u,A3c v u/\Look X.env s.heap m x u
 cell:∀x c,X.env.cells.lookup x=some c->∃v,s.heap.IsCell c v
 free:H X.env.locals=none
 freeC:∀x c,X.env.cells.lookup x=some c->H c=none
 pin:∀p∈X.pn++pins,s.heap.get? p.1=some p.2/\H p.1=none/\p.1≠X.env.locals/\p.1∉X.fs/\∀v,p.2.data≠.cell v
 hok:HOk X.prog X.w H s.heap
 len:Z.length=X.N.length
section
variable {X:Cx} {pins:List (Addr×Obj)} {Z:List (Option V)} {H H':Hp} {s:Shared} {h':Heap}
theorem Cx.Ok.nofr (c:X.Ok) {b:Addr} {o:Obj} (e:X.base.get? b=some o):b∉X.fs:=λa=>by
 have:=(c.funs.mem a).1;rw [e] at this;cases this
theorem Inv.bs (I:Inv X pins Z H s):∀b o,X.base.get? b=some o->s.heap.get? b=some o/\H b=none:=λb o e =>
 ⟨I.base.keep b o (I.ok.bs b o e).1 (I.ok.bs b o e).2 (I.ok.nofr e) (I.ok.noex b o e),I.base.free b o (I.ok.bs b o e).1 (I.ok.bs b o e).2 (I.ok.noex b o e)⟩
theorem Inv.bk (I:Inv X pins Z H s):∀b o,X.base.get? b=some o->s.heap.get? b=some o:=λb o e=>(I.bs b o e).1
theorem Inv.mod (I:Inv X pins Z H s):Mod X.K X.mg X.base:=I.ok.mod
theorem Inv.kIn (I:Inv X pins Z H s):X.K.In s.heap:=I.ok.mod.kin.keeps I.bk
theorem Inv.lt (I:Inv X pins Z H s):X.env.locals<s.heap.objs.size:=let ⟨_,hn,_⟩:=I.loc;hn.lt
theorem Inv.sz (I:Inv X pins Z H s):X.s₀.heap.objs.size<=s.heap.objs.size:=Z1n I.ok.above (Nat.le_of_lt I.lt)
theorem Inv.nofs (I:Inv X pins Z H s) {a:Addr} (h:s.heap.objs.size<=a):a∉X.fs:=λb=>by
 obtain ⟨_,o,c,_⟩:=I.ok.funs.mem b;exact absurd (Z0q (Z0a c) (Z1n I.sz h)) (Nat.lt_irrefl _)
theorem Inv.cne (I:Inv X pins Z H s):∀x c,X.env.cells.lookup x=some c->c≠X.env.locals:=λx c e z=>by
 obtain ⟨v,o,d,f⟩:=I.cell x c e;obtain ⟨m,⟨h,i,g,a,b,_⟩,_⟩:=I.loc;rw [z,a] at d;cases d;rw [b] at f;cases f
theorem Inv.funs (I:Inv X pins Z H s):s.heap.FunFrames X.base X.outer:=by
 have d:∀(l:List Env),(∀b∈frs l,b∈X.fs)->X.s₀.heap.FunFrames X.base l->s.heap.FunFrames X.base l:=by
  intro l
  induction l with
  | nil=>intro _ _;trivial
  | cons env r ih =>
   intro g j;obtain ⟨m,⟨L,o,a,i,n,k⟩,h⟩:=j;have f:L∈X.fs:=g L (by unfold frs;rw [List.filterMap_cons,a];exact Z27);obtain ⟨p,e⟩:=I.base.slot L o n (I.ok.frf L f) f λz=>I.ok.exfs L z f;exact i00 m (i0m L _ a i e k) (ih (λb c=>g b (by unfold frs;rw [List.filterMap_cons,a];exact Z1f _ c)) h)
 exact d X.outer (λ_ c=>c) I.ok.funs
theorem Inv.stack (I:Inv X pins Z H s):s.heap.FunFrames X.base X.stack:=by
 rcases I.ok.stk with e | ⟨e,b⟩
 ·rw [e];exact I.funs
 ·rw [e];obtain ⟨m,a,_⟩:=I.loc;refine .cons (by rw [I.ok.kind];decide) b a ?_ I.funs;exact Heap.get?_none_of_le (Z1n I.ok.bsz I.ok.above)
theorem Inv.stkSub (I:Inv X pins Z H s):∀b∈frs X.stack,b∈X.env.locals::X.fs:=λb a=>by
 rcases I.ok.stk with e | ⟨e,c⟩
 ·rw [e] at a;exact Z1f _ a
 ·rw [e] at a;unfold frs at a;rw [List.filterMap_cons,c] at a;exact a
theorem Inv.stkFree (I:Inv X pins Z H s):∀b∈frs X.stack,H b=none:=λb a=>by
 rcases Z0e.mp (I.stkSub b a) with e | a
 ·rw [e];exact I.free
 ·obtain ⟨_,o,c,_⟩:=I.ok.funs.mem a;exact I.base.free b o c (I.ok.frf b a) λz=>I.ok.exfs b z a
theorem Inv.step {g':Array GenState} {t':Nat} {d':Drawn} {ch:List Addr} (I:Inv X pins Z H s)
  (g:∀b∈ch,(b∈X.ex\/X.s₀.heap.objs.size<=b)/\b≠X.env.locals/\(∀x c,X.env.cells.lookup x=some c->c≠b)/\∀p∈X.pn++pins,p.1≠b)
  (h:∀b o,b≠X.env.locals->b∉X.fs->b∉ch->s.heap.get? b=some o->H b=none->h'.get? b=some o)
  (B:∀b o,b≠X.env.locals->b∈X.fs->b∉ch->s.heap.get? b=some o->H b=none->∃sl,h'.get? b=some { o with slots:=sl }) (f:∀b o,b∉ch->s.heap.get? b=some o->H b=none->H' b=none)
  (D:∀b o,b∉ch->s.heap.get? b=some o->∃o',h'.get? b=some o')
  (M:∀b xs,H b=some (.tup xs)->H' b=some (.tup xs)) (J:∀b o u,H b=some (.frz o u)->H' b=some (.frz o u)) (N:∀b ps,H b=some (.tbl ps)->∃K,H' b=some (.tbl (ps++K)))
  (ns:∀m,s.heap.Ns X.env.locals m->h'.Ns X.env.locals m) (Q:HOk X.prog X.w H' h') (E:AllBare g') :
  Inv X pins Z H' { s with heap:=h',gens:=g',drawn:=d',toks:=t' }:=by
 have G:∀b o,X.s₀.heap.get? b=some o->b≠X.env.locals:=λb o e=>Z0h (Z0q (Z0a e) I.ok.above)
 have A:∀b o,X.s₀.heap.get? b=some o->b∉X.ex->b∉ch:=λb o e a C=>by
  rcases (g b C).1 with z | z
  ·exact a z
  ·exact absurd (Z0q (Z0a e) z) (Nat.lt_irrefl _)
 have j:∀x c,X.env.cells.lookup x=some c->∀v,s.heap.IsCell c v->h'.IsCell c v:=λx c e v ⟨o,F,P⟩=>by
  have t:c∉ch:=λz=>(g c z).2.2.1 x c e rfl;by_cases hc:c∈X.fs
  ·obtain ⟨sl,q⟩:=B c o (I.cne x c e) hc t F (I.freeC x c e);exact i02 _ q P
  ·exact i02 o (h c o (I.cne x c e) hc t F (I.freeC x c e)) P
 refine ⟨I.ok,I.os,E,⟨λb o e n C a=> ?_,λb o e n C a=> ?_,λb o e n a=> ?_,λb o e a=> ?_,λb xs e=>M b xs (I.base.tups b xs e),λb o xs e=>J b o xs (I.base.frzs b o xs e),λb ps e=> ?_⟩,?_,λx c e=> ?_,?_,λx c e=> ?_,λp S=> ?_,Q,I.len⟩
 ·exact h b o (G b o e) C (A b o e a) (I.base.keep b o e n C a) (I.base.free b o e n a)
 ·obtain ⟨sl,y⟩:=I.base.slot b o e n C a;obtain ⟨O,L⟩:=B b _ (G b o e) C (A b o e a) y (I.base.free b o e n a);exact ⟨O,L⟩
 ·obtain ⟨o',y⟩:=I.base.there b o e a;exact f b o' (A b o e a) y (I.base.free b o e n a)
 ·obtain ⟨o',y⟩:=I.base.there b o e a;exact D b o' (A b o e a) y
 ·obtain ⟨m1,y⟩:=I.base.tbls b ps e;obtain ⟨W,L⟩:=N b _ y;exact ⟨m1++W,by rw [L,Array.append_assoc]⟩
 ·obtain ⟨m,Y,U⟩:=I.loc;refine i02 m (ns m Y) λi x v y L e3=> ?_;obtain ⟨u,r,l⟩:=U i x v y L e3;refine i02 u r ?_;rcases l with l | ⟨k,c,e,z⟩
  ·exact .inl l
  ·exact .inr (i05 k c e (j x c e _ z))
 ·obtain ⟨v,z⟩:=I.cell x c e;exact ⟨v,j x c e v z⟩
 ·obtain ⟨m,⟨o,_,_,F,_⟩,_⟩:=I.loc;exact f _ o (λz=>(g _ z).2.1 rfl) F I.free
 ·obtain ⟨v,o,F,P⟩:=I.cell x c e;exact f c o (λz=>(g c z).2.2.1 x c e rfl) F (I.freeC x c e)
 ·obtain ⟨e,n,R,T,d⟩:=I.pin p S;have t:p.1∉ch:=λz=>(g p.1 z).2.2.2 p S rfl;exact i09 (h p.1 p.2 R T t e n) (f p.1 p.2 t e n) R T d
theorem Inv.un {t':Nat} (I:Inv X pins Z H s) (u:Un X.fs [] H H' s.heap h') (f:HOk X.prog X.w H' h'):Inv X pins Z H' { s with heap:=h',toks:=t' }:=by
 obtain ⟨m,⟨o,q,l,h,r⟩,_⟩:=id I.loc;obtain ⟨p,k⟩:=u.any h I.free (by simp)
 exact I.step (g':=s.gens) (d':=s.drawn) (ch:=[]) (λ_ z=>nomatch z) (λb o _ c _ e n=>u.keep b o e n c (by simp)) (λb o _ c _ e n=>u.slot b o e n c (by simp)) (λb o _ e n=>u.free b o e n (by simp)) (λb o _ e=>u.there b o e (by simp)) u.tups u.frzs u.tbls (λt j=>by
  obtain ⟨v,d,g,a,i⟩:=j;rw [h] at a;cases a
  exact i0g _ d g k i) f I.bare
theorem Inv.call {g':Array GenState} {t':Nat} {d':Drawn} {ch:List Addr} (I:Inv X pins Z H s) (u:Un (frs X.stack) ch H H' s.heap h') (h:HOk X.prog X.w H' h') (q:AllBare g')
  (d:∀b∈ch,(b∈X.ex\/X.s₀.heap.objs.size<=b)/\b≠X.env.locals/\(∀x c,X.env.cells.lookup x=some c->c≠b)/\∀p∈X.pn++pins,p.1≠b) :
  Inv X pins Z H' { s with heap:=h',gens:=g',drawn:=d',toks:=t' }:=by
 obtain ⟨m,⟨o,B,y,k,r⟩,_⟩:=id I.loc;obtain ⟨A,j⟩:=u.any k I.free λz=>(d _ z).2.1 rfl
 exact I.step (ch:=ch) d (λb o j l a e n=>u.keep b o e n (λz=>(Z0e.mp (I.stkSub b z)).elim j l) a) (λb o _ _ a e n=>u.any e n a) (λb o a e n=>u.free b o e n a) (λb o a e=>u.there b o e a) u.tups u.frzs u.tbls (λC v=>by
  obtain ⟨D,g,i,f,t⟩:=v;rw [k] at f;cases f
  exact i0g _ g i j t) h q
theorem Inv.turned {t':Nat} {it:Addr} (I:Inv X pins Z H s) (k:∀b o,b≠it->s.heap.get? b=some o->h'.get? b=some o) (i:H it=none) (f:it≠X.env.locals)
  (h1:it∈X.ex\/X.s₀.heap.objs.size<=it) (h2:∀x c,X.env.cells.lookup x=some c->c≠it) (h:∀p∈X.pn++pins,p.1≠it):Inv X pins Z H { s with heap:=h',toks:=t' }:=by
 have d:∀b u,H b=some u->b≠it:=λb u e z=>by rw [z,i] at e;cases e
 refine I.step (g':=s.gens) (d':=s.drawn) (ch:=[it]) (λb j=> ?_) (λb o _ _ a e _=>k b o (λz=>a (by simp [z])) e) (λb o _ _ a e _=>⟨o.slots,k b o (λz=>a (by simp [z])) e⟩) (λ_ _ _ _ n=>n)
  (λb o a e=>⟨o,k b o (λz=>a (by simp [z])) e⟩) (λ_ _ e=>e) (λ_ _ _ e=>e) (λb y e=>⟨#[],by rw [e];simp⟩) (λm w=> ?_) (λb u e=> ?_) I.bare
 ·have e:b=it:=by simpa using j
  subst e;exact i04 h1 f h2 h
 ·obtain ⟨o,l,g,t,r⟩:=w;exact i0g o l g (k _ o (Ne.symm f) t) r
 ·refine (I.hok b u e).stay (λc v a q=>k c v ?_ q) (λ_ q=>q) λ_ _ q=>q;rcases a with z | z
  ·rw [z];exact d b u e
  ·exact d c _ z
theorem Inv.tok (I:Inv X pins Z H s) (t:Nat):Inv X pins Z H { s with toks:=t }:=I.un (h':=s.heap) (t':=t) Un.refl I.hok
theorem Inv.kept {t':Nat} (I:Inv X pins Z H s) (k:∀b u,s.heap.get? b=some u->h'.get? b=some u):Inv X pins Z H { s with heap:=h',toks:=t' }:=I.un (Un.kept k) (I.hok.kept k)
theorem Inv.laid {a:Addr} {o:HO} {t':Nat} (I:Inv X pins Z H s) (k:∀b u,s.heap.get? b=some u->h'.get? b=some u) (d:s.heap.objs.size<=a) (c:A2q X.prog X.w (upd H a o) h' a o) :
  Inv X pins Z (upd H a o) { s with heap:=h',toks:=t' }:=I.un (Un.laid k d (I.hok.fresh d)) (I.hok.laid k d c)
theorem Inv.write {x e:Addr} {o:HO} {t':Nat} (I:Inv X pins Z H s) (f:Mut (H x)) (d:e=x\/H e=some (.own x)) (k:∀b u,b≠e->s.heap.get? b=some u->h'.get? b=some u) (a:∃u,h'.get? e=some u)
  (c:A2q X.prog X.w (upd H x o) h' x o):Inv X pins Z (upd H x o) { s with heap:=h',toks:=t' }:=I.un (Un.write f d k a) (I.hok.write f d k a c)
theorem Inv.weak {Z':List (Option V)} (I:Inv X pins Z H s) (b:Z'.length=Z.length) (w:∀(i:Nat) v,Z'[i]? =some (some v)->Z[i]? =some (some v)):Inv X pins Z' H s :=
 ⟨I.ok,I.os,I.bare,I.base,let ⟨m,hn,hl'⟩:=I.loc;(i02 m hn λi x v d c a=>hl' i x v d (w i v c) a),I.cell,I.free,I.freeC,I.pin,I.hok,b.trans I.len⟩
theorem Inv.pins_of {a:List (Addr×Obj)} (I:Inv X pins Z H s) (h:∀p∈a,s.heap.get? p.1=some p.2/\H p.1=none/\p.1≠X.env.locals/\p.1∉X.fs/\∀v,p.2.data≠.cell v):Inv X a Z H s :=
 ⟨I.ok,I.os,I.bare,I.base,I.loc,I.cell,I.free,I.freeC,λp b=>(Z07.mp b).elim (λz=>I.pin p (Z05 _ z)) (h p),I.hok,I.len⟩
theorem C2n {N:List Str} (c:N.Nodup) {i j:Nat} {x:Str} (a:N[i]? =some x) (b:N[j]? =some x):i=j:=by
 obtain ⟨g,e⟩:=Z03.mp a;obtain ⟨f,d⟩:=Z03.mp b;exact (List.getElem_inj c).mp (e.trans d.symm)
theorem B8m {M:Model} {A:Around} {E:Value->Shared->Prop} {i:Nat} {x:Str} {v:V} {u:Value} {Q:Unit->Shared->Prop} (I:Inv X pins Z H s) (hN:X.N.Nodup) (hi:X.N[i]? =some x) (B:Loc X.env.scope x) (r:A3c v u)
  (h:∀s',Inv X pins (Z.set i (some v)) H s'->(∃a,Heap.SameBut a s.heap s'.heap/\(a=X.env.locals\/X.env.cells.lookup x=some a))->Q () s') (hf:X.fn x=true\/X.env.scope.names.lookup x=some .local:=by first | exact .inl rfl | exact .inr rfl | assumption):wpAny M A (storeName X.env x u) Q E s:=by
 obtain ⟨m,hn,hl⟩:=id I.loc;have S:(X.env.scope.kind == .class||(X.env.scope.kind == .module&&X.env.locals != X.env.globals))=false:=by rw [I.ok.kind];rfl
 have P:i<Z.length:=by rw [I.len];exact (Z03.mp hi).1
 have G:=I.cne
 have l:∀{a:Addr} {h':Heap},(∃o,s.heap.get? a=some o/\H a=none)->Heap.SameBut a s.heap h'->HOk X.prog X.w H h':=λ{a h'} ha f b ob e=>by
  obtain ⟨_,_,C⟩:=ha;refine (I.hok b ob e).stay (λc T t q=>(f.2 c ?_).trans q) (λ_ q=>q) λ_ _ q=>q;rintro rfl;rcases t with rfl | t
  ·rw [C] at e;cases e
  ·rw [C] at t;cases t
 rcases B with F | F
 ·refine wpAny_storeName_local F hn (λh' a1 f=> ?_) S;obtain ⟨oL,_,_,a0,_⟩:=id hn;refine h _ ⟨I.ok,I.os,I.bare,⟨λb o e n K B=> ?_,λb o e n K B=> ?_,I.base.free,λb o e B=> ?_,I.base.tups,I.base.frzs,I.base.tbls⟩,(i02 _ a1 λj y v' g D e3=> ?_),λy c e=> ?_,I.free,I.freeC,λp hp=> ?_,l (i02 oL a0 I.free) f,by simpa using I.len⟩ (i02 _ f (.inl rfl))
  ·exact (f.2 b (Z0h (Z0q (Z0a e) I.ok.above))).trans (I.base.keep b o e n K B)
  ·obtain ⟨Y,g⟩:=I.base.slot b o e n K B;exact ⟨Y,(f.2 b (Z0h (Z0q (Z0a e) I.ok.above))).trans g⟩
  ·obtain ⟨o',g⟩:=I.base.there b o e B;exact ⟨o',(f.2 b (Z0h (Z0q (Z0a e) I.ok.above))).trans g⟩
  ·by_cases hj:j=i
   ·subst hj;rw [hi] at g;cases g;rw [Z23 P] at D;cases D;exact i02 u r (.inl ⟨F,by simp⟩)
   ·rw [Z2a (Ne.symm hj)] at D;obtain ⟨u',r',q⟩:=hl j y v' g D e3;refine i02 u' r' ?_;rcases q with ⟨k,e⟩ | ⟨k,c,e,z⟩
    ·refine .inl ⟨k,?_⟩;have:y≠x:=λe=>hj (C2n hN g (e▸hi));simp [this,e]
    ·exact .inr (i05 k c e (z.sameBut f (G y c e)))
  ·obtain ⟨T,z⟩:=I.cell y c e;exact ⟨T,z.sameBut f (G y c e)⟩
  ·obtain ⟨e,n,U,nf,d⟩:=I.pin p hp;exact i09 ((f.2 p.1 U).trans e) n U nf d
 ·have J:X.fn x=true:=by
   rcases hf with z | z
   ·exact z
   ·rw [z] at F;cases F
  obtain ⟨c,t⟩:=I.ok.has x (.inl F);obtain ⟨T,z⟩:=I.cell x c t;refine wpAny_storeName_cell I.ok.kind F t z (λh' L f=> ?_);obtain ⟨oc,R,O⟩:=id z;refine h { s with heap:=h' } ⟨I.ok,I.os,I.bare,⟨λb o e n K B=> ?_,λb o e n K B=> ?_,I.base.free,λb o e B=> ?_,I.base.tups,I.base.frzs,I.base.tbls⟩,(i02 m (hn.sameBut f (Ne.symm (G x c t))) λj y v' g D e3=> ?_),λy W e=> ?_,I.free,I.freeC,λp hp=> ?_,l (i02 oc R (I.freeC x c t)) f,by simpa using I.len⟩ (i02 c f (.inr t))
  ·exact (f.2 b (Z0h (Z0q (Z0a e) (I.ok.cab x c J t)))).trans (I.base.keep b o e n K B)
  ·obtain ⟨Y,g⟩:=I.base.slot b o e n K B;exact ⟨Y,(f.2 b (Z0h (Z0q (Z0a e) (I.ok.cab x c J t)))).trans g⟩
  ·obtain ⟨o',g⟩:=I.base.there b o e B;exact ⟨o',(f.2 b (Z0h (Z0q (Z0a e) (I.ok.cab x c J t)))).trans g⟩
  ·by_cases hj:j=i
   ·subst hj;rw [hi] at g;cases g;rw [Z23 P] at D;cases D;exact i02 u r (.inr (i05 (.inl F) c t L))
   ·rw [Z2a (Ne.symm hj)] at D;obtain ⟨u',r',q⟩:=hl j y v' g D e3;refine i02 u' r' ?_;rcases q with q | ⟨k,W,e,z'⟩
    ·exact .inl q
    ·refine .inr (i05 k W e (z'.sameBut f ?_));rintro rfl;exact hj (C2n hN g (I.ok.inj _ _ _ e t▸hi))
  ·by_cases hcc:W=c
   ·subst hcc;exact ⟨_,L⟩
   ·obtain ⟨w2,z2⟩:=I.cell y W e;exact ⟨w2,z2.sameBut f hcc⟩
  ·obtain ⟨e,n,U,nf,d⟩:=I.pin p hp;refine i09 ((f.2 p.1 ?_).trans e) n U nf d;intro q;rw [q,R] at e;have q':oc=p.2:=Z1a e;exact d T (by rw [<-q'];exact O)
theorem C3g {M:Model} {A:Around} {E:Value->Shared->Prop} {i:Nat} {x:Str} {v:V} {u:Value} {Q:Unit->Shared->Prop} (I:Inv X pins Z H s) (c:X.N.Nodup) (hi:X.N[i]? =some x) (a:Loc X.env.scope x) (r:A3c v u)
  (h:∀s',Inv X pins (Z.set i (some v)) H s'->Q () s') (b:X.fn x=true\/X.env.scope.names.lookup x=some .local:=by first | exact .inl rfl | exact .inr rfl | assumption):wpAny M A (storeName X.env x u) Q E s :=
 B8m I c hi a r (λs' I' _=>h s' I') b
theorem Inv.call' {s':Shared} {ch:List Addr} (I:Inv X pins Z H s) (g:s'.os=s.os) (u:Un (frs X.stack) ch H H' s.heap s'.heap) (d:HOk X.prog X.w H' s'.heap) (f:AllBare s'.gens)
  (a:∀b∈ch,(b∈X.ex\/X.s₀.heap.objs.size<=b)/\b≠X.env.locals/\(∀x c,X.env.cells.lookup x=some c->c≠b)/\∀p∈X.pn++pins,p.1≠b):Inv X pins Z H' s':=by
 obtain ⟨i,g',d',t',h⟩:=s';have e:h=s.os:=g;subst e;exact I.call (g':=g') (t':=t') (d':=d') u d f a
end
abbrev XK:=Value->Option Addr->Hp->Prop
abbrev St:=List (Option V)
abbrev VK:=V->Hp->Prop
abbrev TE:=St->Hp->VK->Prop
abbrev TT:=St->Hp->(Bool->Hp->Prop)->Prop
abbrev TA:=St->Hp->(List V->Hp->Prop)->Prop
structure C6c where
 nx:St->Hp->Prop
 rt:VK
 bk:St->Hp->Prop:=λ_ _=>False
 ct:St->Hp->Prop:=λ_ _=>False
abbrev TS:=C6c->St->Hp->Prop
def EP (X:Cx) (pins:List (Addr×Obj)) (Z:St) (Q:VK) (u:Value) (s':Shared):Prop:=∃v a,Inv X pins Z a s'/\A3c v u/\Q v a
def TP (X:Cx) (pins:List (Addr×Obj)) (Z:St) (Q:Bool->Hp->Prop) (b:Bool) (s':Shared):Prop:=∃a,Inv X pins Z a s'/\Q b a
def AP (X:Cx) (pins:List (Addr×Obj)) (Z:St) (Q:List V->Hp->Prop) (us:List Value) (s':Shared):Prop:=∃a b,Inv X pins Z b s'/\A3z a us/\Q a b
def SP (X:Cx) (pins:List (Addr×Obj)) (D:C6c) (f:Flow) (s':Shared):Prop :=
 match f with
 | .next=>∃Z' a,Inv X pins Z' a s'/\D.nx Z' a
 | .brk=>∃Z' a,Inv X pins Z' a s'/\D.bk Z' a
 | .cont=>∃Z' a,Inv X pins Z' a s'/\D.ct Z' a
 | .ret u=>∃v Z' a,Inv X pins Z' a s'/\A3c v u/\D.rt v a
def PE (X:Cx) (e:Expr) (t:TE):Prop :=
 ∀(a:List (Addr×Obj)) (s:Shared) (Z:St) (H:Hp) (Q:VK),Inv X a Z H s->t Z H Q->wpAny (model X.prog X.w) X.A (eval e X.env) (EP X a Z Q) X.xe s
def PT (X:Cx) (e:Expr) (t:TT):Prop :=
 ∀(a:List (Addr×Obj)) (s:Shared) (Z:St) (H:Hp) (Q:Bool->Hp->Prop),Inv X a Z H s->t Z H Q->wpAny (model X.prog X.w) X.A (isTrue e X.env (eval e X.env)) (TP X a Z Q) X.xe s
def PW (X:Cx) (e:Expr) (t:TT):Prop :=
 ∀(b:Sem Value) (a:List (Addr×Obj)) (s:Shared) (Z:St) (H:Hp) (Q:Bool->Hp->Prop),Inv X a Z H s->t Z H Q->wpAny (model X.prog X.w) X.A (isTrue e X.env b) (TP X a Z Q) X.xe s
theorem PW.pt {X:Cx} {e:Expr} {t:TT} (h:PW X e t):PT X e t:=h _
def PA (X:Cx) (es:List Expr) (t:TA):Prop :=
 ∀(b:Pos) (a:List (Addr×Obj)) (s:Shared) (Z:St) (H:Hp) (Q:List V->Hp->Prop),Inv X a Z H s->t Z H Q->wpAny (model X.prog X.w) X.A (spliced (backTo b (starEach es X.env))) (AP X a Z Q) X.xe s
def PS (X:Cx) (st:Stmt) (t:TS):Prop :=
 ∀(a:List (Addr×Obj)) (s:Shared) (Z:St) (H:Hp) (D:C6c),Inv X a Z H s->t D Z H->wpAny (model X.prog X.w) X.A (exec st X.env) (SP X a D) X.xe s
def PSs (X:Cx) (st:List Stmt) (t:TS):Prop :=
 ∀(a:List (Addr×Obj)) (s:Shared) (Z:St) (H:Hp) (D:C6c),Inv X a Z H s->t D Z H->wpAny (model X.prog X.w) X.A (execs st X.env) (SP X a D) X.xe s
theorem thn {α:Type} {t:Sem α} {Q b:α->Shared->Prop} {M:Model} {A:Around} {E:Value->Shared->Prop} {s:Shared} (h:wpAny M A t Q E s) (c:∀a s,Q a s->b a s):wpAny M A t b E s:=Z10 h c λ_ _ x=>x
section
variable {X:Cx}
def C8c (i:Nat):TE:=λZ H Q=>∃v,Z[i]? =some (some v)/\Q v H
def tC (v:V):TE:=λ_ H Q=>Q v H
theorem E2c {i:Nat} {x:Str} {pos:Pos} (k:X.N[i]? =some x) (q:Vis X.env.scope x) (f:(x == ("__debug__":Str))=false:=by decide) (g:(x == ("__classdict__":Str))=false:=by decide):PE X (.Name x pos) (C8c i):=by
 intro d s Z H Q I h;obtain ⟨v,e,h⟩:=h;obtain ⟨m,o,n⟩:=I.loc;obtain ⟨u,r,l⟩:=n i x v k e q;have fin:EP X d Z Q u s:=(i0f v H I r h);rcases l with ⟨b,p⟩ | ⟨b,c,j,a⟩
 ·exact wpAny_Name (wpAny_loadName_local I.ok.kind b o p fin) f
 ·rcases b with b | b
  ·exact wpAny_Name (wpAny_loadName_cell I.ok.kind b j a fin) f
  ·exact wpAny_Name (wpAny_loadName_free I.ok.kind b j a fin g) f
theorem A0d {i j pos}:PE X (.Constant (.int i) j pos) (tC (.int i)):=λ_ _ _ H _ I h=>wpAny_Constant_int (i0f (.int i) H (I.tok _) ⟨_,rfl⟩ h)
theorem D3b {b j pos}:PE X (.Constant (.bool b) j pos) (tC (.bl b)):=λ_ _ _ H _ I h=>Constant_bool (i0f (.bl b) H I rfl h)
theorem B8i {j pos}:PE X (.Constant .none j pos) (tC .non):=λ_ _ _ H _ I h=>Constant_none (i0f .non H I rfl h)
theorem A1w {x j pos}:PE X (.Constant (.str x) j pos) (tC (.str x)):=λ_ _ _ H _ I h=>Calls.Constant_str (i0f (.str x) H (I.tok _) ⟨_,rfl⟩ h)
def Gl (X:Cx) (x:Str):Prop:=X.env.kindOf x=some .globalImplicit
theorem C0r {E:Value->Shared->Prop} {pins:List (Addr×Obj)} {s:Shared} {Z:St} {H:Hp} {x:Str} {u:Value} {pos:Pos} {Q:Value->Shared->Prop} (I:Inv X pins Z H s) (b:Gl X x) (a:X.mg x=some u) (h:Q u s)
  (c:(x == ("__debug__":Str))=false:=by decide):wpAny (model X.prog X.w) X.A (eval (.Name x pos) X.env) Q E s :=
 Calls.Name_function_global I.ok.kind b (Calls.loadGlobal_global (by rw [I.ok.glob];exact I.mod.glob.keeps I.bk) a h) c
theorem B1u {E:Value->Shared->Prop} {pins:List (Addr×Obj)} {s:Shared} {Z:St} {H:Hp} {x:Str} {u:Value} {pos:Pos} {Q:Value->Shared->Prop} (I:Inv X pins Z H s) (g:Gl X x) (e:X.mg x=none) (f:bootBuiltins x=some u) (h:Q u s)
  (b:x≠"__name__":=by decide) (d:(x == ("__debug__":Str))=false:=by decide):wpAny (model X.prog X.w) X.A (eval (.Name x pos) X.env) Q E s:=by
 obtain ⟨i,a,c⟩:=I.mod.blt;exact Calls.Name_function_global I.ok.kind g (Calls.loadGlobal_builtin (by rw [I.ok.glob];exact I.mod.glob.keeps I.bk) e (by rw [I.ok.blt];exact a.keeps I.bk) ((c x b).trans f) h) d
theorem A3k {x:Str} {v:V} {u:Value} {pos:Pos} (c:Gl X x) (b:X.mg x=some u) (r:A3c v u) (a:(x == ("__debug__":Str))=false:=by decide):PE X (.Name x pos) (tC v) :=
 λ_ _ _ H _ I h=>C0r I c b (i0f v H I r h) a
theorem A5d {x:Str} {v:V} {u:Value} {pos:Pos} (e:Gl X x) (c:X.mg x=none) (d:bootBuiltins x=some u) (r:A3c v u) (a:x≠"__name__":=by decide) (b:(x == ("__debug__":Str))=false:=by decide):PE X (.Name x pos) (tC v) :=
 λ_ _ _ H _ I h=>B1u I e c d (i0f v H I r h) a b
variable {a b:Expr} {ta tb:TE} {pos:Pos}
def PC (X:Cx) (op:CmpOp) (a b:Expr) (t:TE):Prop :=
 ∀(c:List (Addr×Obj)) (s:Shared) (Z:St) (H:Hp) (Q:VK),Inv X c Z H s->t Z H Q->
  wpAny (model X.prog X.w) X.A (eval a X.env) (λv d=>wpAny (model X.prog X.w) X.A (eval b X.env) (λu e=>wpAny (model X.prog X.w) X.A (compareOp op v u) (EP X c Z Q) X.xe e) X.xe d) X.xe s
def tB (t:TE):TT:=λZ H Q=>t Z H λx a=>∃c,x= .bl c/\Q c a
theorem E1x {op:CmpOp} {t:TE} (h:PC X op a b t) (h1:behindInMarks op b=false:=by first | exact nobehind _ (by decide) (by decide) | rfl):PT X (.Compare a [op] [b] pos) (tB t):=by
 intro e s Z H Q I g;refine wpAny_isTrue_Compare1 (thn (h e s Z H _ I g) λv m h1=>thn h1 λu n k=>thn k ?_) h1;rintro c l ⟨x,f,I1,i,j⟩;obtain ⟨d,rfl,q⟩:=j;cases i;exact wpAny_truthy_bool (i02 f I1 q)
theorem A2s {e:Expr} {t:TE} (h:PE X e t) (c:∀a,isTrue e X.env a=(do let v<-a;standAt e.pos;holding [v] (truthy v)):=by intro _;rfl):PT X e (tB t):=by
 intro b s Z H Q I g;refine isTrue_plain (thn (h b s Z H _ I g) ?_) (c _);rintro v k ⟨x,f,I1,i,j⟩;obtain ⟨d,rfl,q⟩:=j;cases i;exact wpAny_truthy_bool (i02 f I1 q)
variable {tA tB':TT} {rest:List Expr}
def D4s (t u:TT):TT:=λZ H Q=>t Z H λc a=>if c=true then u Z a Q else Q false a
def tOr (t u:TT):TT:=λZ H Q=>t Z H λc a=>if c=true then Q true a else u Z a Q
theorem A4f (d:PT X a tA):PW X (.BoolOp .And [a] pos) tA:=by
 intro f b s Z H Q I h;refine isTrue_and (thn (d b s Z H Q I h) λc g e=> ?_)
 cases c with
 | true=>exact isTrue_and_nil e
 | false=>exact e
theorem B5l (d:PT X a tA):PW X (.BoolOp .Or [a] pos) tA:=by
 intro f b s Z H Q I h;refine isTrue_or (thn (d b s Z H Q I h) λc g e=> ?_)
 cases c with
 | false=>exact isTrue_or_nil e
 | true=>exact e
theorem A3x (i:PT X a tA) (k:PW X (.BoolOp .And (b::rest) pos) tB'):PW X (.BoolOp .And (a::b::rest) pos) (D4s tA tB'):=by
 intro g d s Z H Q I h;refine isTrue_and (thn (i d s Z H _ I h) ?_);rintro c j ⟨e,I1,f⟩
 cases c with
 | true=>exact k g d j Z e Q I1 f
 | false=>exact i02 e I1 f
theorem B6w (i:PT X a tA) (k:PW X (.BoolOp .Or (b::rest) pos) tB'):PW X (.BoolOp .Or (a::b::rest) pos) (tOr tA tB'):=by
 intro g d s Z H Q I h;refine isTrue_or (thn (i d s Z H _ I h) ?_);rintro c j ⟨e,I1,f⟩
 cases c with
 | true=>exact i02 e I1 f
 | false=>exact k g d j Z e Q I1 f
end
def SqL (K:Frag) (H:Hp) (a:Addr) (xs:List V):Prop :=
 Rd H a (.lst xs)\/
  ∃(o:Obj) (b:Array Value) (n:Nat),K.lookup a=some o/\o.cls= .type "list"/\o.dict=none/\o.data= .seq b n/\b.size<=sizeLine/\A3z xs b.toList
def SqT (K:Frag) (H:Hp) (a:Addr) (xs:List V):Prop :=
 Rd H a (.tup xs)\/
  ∃(o:Obj) (b:Array Value) (n:Nat),K.lookup a=some o/\o.cls= .type "tuple"/\o.data= .seq b n/\b.size<=sizeLine/\A3z xs b.toList
noncomputable def absV:Value->Option V
 | .none=>some .non
 | .bool b=>some (.bl b)
 | .int i _=>some (.int i)
 | .str x _=>some (.str x)
 | .bytes b _=>some (.byt b)
 | .float b _=>some (.flt b)
 | .ref a=>some (.ref a)
 | .type n=>some (.ty n)
 | _=>none
theorem A3c.abs {x:V} {u:Value} (r:A3c x u):absV u=some x:=by
 cases x with
 | non=>cases r;rfl
 | bl _=>cases r;rfl
 | int _=>obtain ⟨t,rfl⟩:=r;rfl
 | str _=>obtain ⟨t,rfl⟩:=r;rfl
 | byt _=>obtain ⟨t,rfl⟩:=r;rfl
 | flt _=>obtain ⟨t,rfl⟩:=r;rfl
 | ref _=>cases r;rfl
 | ty _=>cases r;rfl
theorem A3c.inj {x y:V} {u:Value} (r:A3c x u) (q:A3c y u):x=y:=Z1a (r.abs.symm.trans q.abs)
theorem A3z.inj:∀{xs ys:List V} {us:List Value},A3z xs us->A3z ys us->xs=ys
 | _,_,_,.nil,.nil=>rfl
 | _,_,_,.cons r t,.cons r' t'=>by rw [r.inj r',A3z.inj t t']
section
variable {X:Cx} {pins:List (Addr×Obj)} {Z:St} {H:Hp} {s:Shared} {a:Addr} {xs ys:List V}
theorem SqL.of {K:Frag} (h:H a=some (.lst xs)):SqL K H a xs:= .inl (.inl h)
theorem SqT.of {K:Frag} (h:H a=some (.tup xs)):SqT K H a xs:= .inl (.inl h)
theorem Inv.list (I:Inv X pins Z H s) (h:SqL X.K H a xs):∃its:List Value,A3z xs its/\PlainL s.heap a its.toArray/\xs.length<=sizeLine:=by
 rcases h with h | ⟨o,its,n,b,c,d,f,g,r⟩
 ·obtain ⟨z,its,n,r,e⟩:=h.ok I.hok;exact i06 its r (i0m _ n e rfl rfl rfl) z
 ·refine i06 its.toList r (i0m o n (I.kIn a o b) c d (by simpa using f)) ?_;have e:=r.length;simp only [Array.length_toList] at e
  lia
theorem Inv.tuple (I:Inv X pins Z H s) (h:SqT X.K H a xs):∃its:List Value,A3z xs its/\IsTup s.heap a its.toArray/\xs.length<=sizeLine:=by
 rcases h with h | ⟨o,its,n,b,c,d,f,r⟩
 ·obtain ⟨z,its,r,p⟩:=h.ok I.hok;exact i06 its r p z
 ·refine i06 its.toList r (i0d o (I.kIn a o b) c n (by simpa using d)) ?_;have e:=r.length;simp only [Array.length_toList] at e
  lia
theorem Inv.list_inj (I:Inv X pins Z H s) (h:SqL X.K H a xs) (h':SqL X.K H a ys):xs=ys:=by
 obtain ⟨c,r,⟨o,n,e,_,_,d⟩,_⟩:=I.list h;obtain ⟨b,i,⟨j,k,g,_,_,f⟩,_⟩:=I.list h';rw [e] at g;cases g;rw [d] at f;injection f with d1 _;have:c=b:=by simpa using congrArg Array.toList d1
 subst this;exact r.inj i
theorem Inv.tuple_inj (I:Inv X pins Z H s) (h:SqT X.K H a xs) (h':SqT X.K H a ys):xs=ys:=by
 obtain ⟨c,r,⟨o,e,_,n,d⟩,_⟩:=I.tuple h;obtain ⟨b,i,⟨j,g,_,k,f⟩,_⟩:=I.tuple h';rw [e] at g;cases g;rw [d] at f;injection f with d1 _;have:c=b:=by simpa using congrArg Array.toList d1
 subst this;exact r.inj i
end
abbrev Cx.wish (X:Cx) (E:Value->Shared->Prop):Cx:={ X with xe:=E }
abbrev Cx.nox (X:Cx):Cx:=X.wish λ_ _=>False
theorem Cx.Ok.wish {X:Cx} (a:X.Ok) (E:Value->Shared->Prop):(X.wish E).Ok :=
 ⟨a.mod,a.kind,a.glob,a.blt,a.above,a.inj,a.has,a.cab,a.hd,a.frames,a.stk,a.exf,a.bs,a.bsz,a.noex,a.exfs,a.funs,a.frf⟩
theorem Cx.Ok.unwish {X:Cx} {E:Value->Shared->Prop} (a:(X.wish E).Ok):X.Ok :=
 ⟨a.mod,a.kind,a.glob,a.blt,a.above,a.inj,a.has,a.cab,a.hd,a.frames,a.stk,a.exf,a.bs,a.bsz,a.noex,a.exfs,a.funs,a.frf⟩
section
variable {X:Cx} {pins:List (Addr×Obj)} {Z:St} {H:Hp} {s:Shared} {E:Value->Shared->Prop}
theorem Inv.wish (I:Inv X pins Z H s) (E:Value->Shared->Prop):Inv (X.wish E) pins Z H s:=⟨I.ok.wish E,I.os,I.bare,I.base,I.loc,I.cell,I.free,I.freeC,I.pin,I.hok,I.len⟩
theorem Inv.unwish (I:Inv (X.wish E) pins Z H s):Inv X pins Z H s:=⟨I.ok.unwish,I.os,I.bare,I.base,I.loc,I.cell,I.free,I.freeC,I.pin,I.hok,I.len⟩
theorem SP.unwish {D:C6c} {f:Flow} {s':Shared} (h:SP (X.wish E) pins D f s'):SP X pins D f s':=by
 cases f with
 | next=>obtain ⟨Z',a,I,q⟩:=h;exact i07 Z' a I.unwish q
 | brk=>obtain ⟨Z',a,I,q⟩:=h;exact i07 Z' a I.unwish q
 | cont=>obtain ⟨Z',a,I,q⟩:=h;exact i07 Z' a I.unwish q
 | ret u=>obtain ⟨v,Z',a,I,r,q⟩:=h;exact i0n v Z' a I.unwish r q
theorem PSs.nox {st:List Stmt} {t:TS} (h:PSs X.nox st t):PSs X st t:=λa s Z H D I b =>
 Z10 (h a s Z H D (I.wish _) b) (λ_ _ q=>q.unwish) λ_ _ z=>False.elim z
end
section
variable {X:Cx} {st:Stmt} {rest:List Stmt} {t u:TS} {e:Expr} {te:TE} {pos:Pos}
def C7r:TS:=λD Z H=>D.nx Z H
def D3p (t u:TS):TS:=λD Z H=>t { D with nx:=u D } Z H
theorem A0x:PSs X [] C7r:=λ_ _ Z H _ I h=>Z2b (i07 Z H I h)
theorem A1t (h1:PS X st t) (h2:PSs X rest u):PSs X (st::rest) (D3p t u):=by
 intro a s Z H D I h;refine wpAny_execs_cons (thn (h1 a s Z H { D with nx:=u D } I h) λf b q=> ?_)
 cases f with
 | next =>
  obtain ⟨Z',c,I',q⟩:=q;exact h2 a b Z' c D I' q
 | ret v=>exact q
 | brk=>exact q
 | cont=>exact q
theorem A2z (h1:PS X st t):PSs X [st] t:=by
 intro a s Z H D I h;refine wpAny_execs_cons (thn (h1 a s Z H D I h) λf b q=> ?_)
 cases f with
 | next=>exact Z2b q
 | ret v=>exact q
 | brk=>exact q
 | cont=>exact q
theorem Inv.quiet {pins:List (Addr×Obj)} {Z:St} {H:Hp} {s:Shared} (I:Inv X pins Z H s):interactive X.env=false:=by simp [interactive,I.ok.kind]
def E2r (te:TE):TS:=λD Z H=>te Z H λ_ a=>D.nx Z a
theorem A2r (b:PE X e te) (f:swapsWith e none pos.line X.env=pure false:=by rfl):PS X (.Expr e pos) (E2r te):=by
 intro a s Z H D I h;exact wpAny_Expr_any (thn (b a s Z H _ I h) (by rintro v i ⟨x,c,I1,g,d⟩;exact i07 Z c I1 d)) I.quiet f
def E4r (te:TE):TS:=λD Z H=>te Z H D.rt
theorem B3y (b:PE X e te):PS X (.Return (some e) pos) (E4r te):=by
 intro a s Z H D I h;exact wpAny_Return_some (thn (b a s Z H _ I h) (by rintro v g ⟨x,c,I1,f,d⟩;exact i0n x Z c I1 f d))
def D5d (c:TT) (t u:TS):TS:=λD Z H=>c Z H λb a=>if b=true then t D Z a else u D Z a
theorem B5c {c:Expr} {a b:List Stmt} {tc:TT} (k:PT X c tc) (j:PSs X a t) (l:PSs X b u):PS X (.If c a b pos) (D5d tc t u):=by
 intro e s Z H D I h;refine wpAny_If (thn (k e s Z H _ I h) ?_);rintro d g ⟨f,I1,i⟩
 cases d with
 | true=>exact j e g Z f D I1 i
 | false=>exact l e g Z f D I1 i
end
variable {es:List Expr} {u:Value} {g:Int->Int->Int} {pins:List (Addr×Obj)} {Z:St} {H:Hp} {s:Shared} {A:Around} {E Q:Value->Shared->Prop} {o:Option Value} {vs:List V} {P:Program} {w:World} {K:Frag} {R:Result->Shared->Prop} {pos:Pos} {fp:List Addr} {h base:Heap} {pl:Sem Bool} {body:List Stmt} {f:Value->Value->Sem Value} {op:CmpOp} {C:Addr} {us:List Value} {mA mg:Str->Option Value} {kw:List (Str×Value)} {CX:CXT} {fd:FuncData} {ps:List Str} {outer:List Env} {scope:Scope} {osl:Array (Option Value)}
abbrev TG:=V->St->Hp->(St->Hp->Prop)->Prop
abbrev TGs:=List V->St->Hp->(St->Hp->Prop)->Prop
def PG (X:Cx) (a:Expr) (t:TG):Prop :=
 ∀(b:List (Addr×Obj)) (s:Shared) (Z:St) (H:Hp) (v:V) (u:Value) (Q:St->Hp->Prop),Inv X b Z H s->A3c v u->t v Z H Q->
  wpAny (model X.prog X.w) X.A (assign a X.env u) (λ_ d=>∃Z' c,Inv X b Z' c d/\Q Z' c) X.xe s
def PGs (X:Cx) (ts:List Expr) (t:TGs):Prop :=
 ∀(a:List (Addr×Obj)) (s:Shared) (Z:St) (H:Hp) (b:List V) (d:List Value) (Q:St->Hp->Prop),Inv X a Z H s->A3z b d->t b Z H Q->
  wpAny (model X.prog X.w) X.A (assignInOrder ((assignEach ts X.env).map (·.2)) d) (λ_ e=>∃Z' c,Inv X a Z' c e/\Q Z' c) X.xe s
section
variable {X:Cx} {pos:Pos}
def A7u (i:Nat):TG:=λv Z H Q=>Q (Z.set i (some v)) H
theorem A0k {i:Nat} {x:Str} (d:X.N.Nodup) (hi:X.N[i]? =some x) (b:Loc X.env.scope x) (c:X.fn x=true\/X.env.scope.names.lookup x=some .local:=by first | exact .inl rfl | exact .inr rfl | assumption):PG X (.Name x pos) (A7u i):=by
 intro a s Z H v u Q I r h;exact wpAny_assign_Name (C3g I d hi b r (λe I'=>(i07 _ H I' h)) c)
def D8h:TGs:=λa Z H Q=>a=[]/\Q Z H
def B2f (t:TG) (u:TGs):TGs:=λa Z H Q=>∃v r,a=v::r/\t v Z H λZ' b=>u r Z' b Q
theorem A2p:PGs X [] D8h:=by
 intro a s Z H b c Q I r h;obtain ⟨e,h⟩:=h;subst e;cases r;exact assignInOrder_nil (i07 Z H I h)
theorem A0r {e:Expr} {t:TG} {u:TGs} (h1:PG X e t) (h2:PGs X es u)
  (g:(assignEach (e::es) X.env).map (·.2)=assign e X.env::(assignEach es X.env).map (·.2):=by rfl):PGs X (e::es) (B2f t u):=by
 intro a s Z H k i Q I r h;obtain ⟨v,j,c,h⟩:=h;subst c
 cases r with
 | cons r rr =>
  rw [g];refine assignInOrder_cons (thn (h1 a s Z H _ _ _ I r h) ?_);rintro _ d ⟨Z1,b,I1,f⟩;exact h2 a d Z1 b _ _ Q I1 rr f
def D8n (K:Frag) (n:Nat) (t:TGs):TG:=λv Z H Q=>∃a b,v= .ref a/\SqT K H a b/\b.length=n/\t b Z H Q
theorem A3v {k:Nat} {t:TGs} {n:Nat} (z:X.calm=true) (h:PGs X es t)
  (p:(assignEach es X.env).length=n:=by rfl) (f:(assignEach es X.env).findIdx? (·.1)=none:=by rfl):PG X (.Tuple es k pos) (D8n X.K n t):=by
 intro c s Z H v u Q I r d;obtain ⟨a,j,l,y,m,d⟩:=d;subst l;cases r;obtain ⟨x,g,w,A⟩:=I.tuple y;refine assign_Tuple_tuple (I.ok.hd z) w (by simp [p,<-m,g.length]) f λq i=> ?_;have I1:Inv X c Z H { s with heap:=q }:=I.kept (t':=s.toks) λb o e=>i b o (Z0h (Z0a e)) e
 exact h c _ Z H j _ Q I1 (by simpa using g) d
def D8t (te:TE) (g:TG):TS:=λD Z H=>te Z H λx a=>g x Z a D.nx
theorem A9g {tg e:Expr} {te:TE} {g:TG} (b:PE X e te) (i:PG X tg g) (l:swapsWithSole [tg] e pos.line X.env=pure false:=by rfl) (d:swappedStores [tg] e X.env=pure none:=by rfl)
  (h1:(assignEach [tg] X.env).map (·.2)=[assign tg X.env]:=by rfl):PS X (.Assign [tg] e pos) (D8t te g):=by
 intro a s Z H D I h;refine wpAny_Assign_stores (thn (b a s Z H _ I h) ?_) l d;rintro v j ⟨x,c,I1,f,k⟩;rw [h1];exact thn (i a j Z c x v _ I1 f k) λ_ m q=>q
theorem A3e {i:Nat} {x:Str} {e:Expr} {te:TE} {pos':Pos} (g:X.N.Nodup) (hi:X.N[i]? =some x) (b:Loc X.env.scope x) (c:PE X e te) (l:swapsWith e (some (.Name x pos')) pos.line X.env=pure false:=by rfl) (d:X.fn x=true\/X.env.scope.names.lookup x=some .local:=by first | exact .inl rfl | exact .inr rfl | assumption) :
  PS X (.Assign [.Name x pos'] e pos) (D8t te (A7u i)):=by
 intro a s Z H D I h;refine wpAny_Assign_Name (thn (c a s Z H _ I h) ?_) l;rintro v m ⟨y,f,I1,j,k⟩;exact C3g I1 g hi b j (λn I2=>(i07 _ f I2 k)) d
def E1l (c:TT) (tb:TS):TS:=λD Z H=>∃W:Nat->St->Hp->Prop,(∃m,W m Z H)/\∀m Z H,W m Z H->
 c Z H λb d=>if b=true then∃N:St->Hp->Prop,(∀Z' e,N Z' e->∃a,a<m/\W a Z' e)/\tb { D with nx:=N,ct:=N,bk:=D.nx } Z d else D.nx Z d
theorem B0a {c:Expr} {body:List Stmt} {tc:TT} {tb:TS} (t:PassesOwn (model X.prog X.w) X.A X.env X.xe) (F:PT X c tc) (z:PSs X body tb):PS X (.While c body [] pos) (E1l tc tb):=by
 intro a s Z H D I h;obtain ⟨W,⟨B,C⟩,e⟩:=h;refine wpAny_While (codeAny_whileLoop (λn y=>∃Z' r,Inv X a Z' r y/\W n Z' r) ?_ B (i07 Z H I C));rintro n x ⟨Z1,q,I1,u⟩;refine wpAny_passesOwn t (thn (F a x Z1 q _ I1 (e n Z1 q u)) ?_);rintro b G ⟨o,I2,g⟩
 cases b with
 | true =>
  obtain ⟨N,p,g⟩:=g;rw [Z12 rfl];refine wpAny_passesOwn t (thn (z a G Z1 o _ I2 g) λf J i=> ?_)
  cases f with
  | next =>
   obtain ⟨Z3,d,I3,l⟩:=i;obtain ⟨j,m,k⟩:=p Z3 d l;exact ⟨j,(i0b m Z3 d I3 k)⟩
  | cont =>
   obtain ⟨Z3,d,I3,l⟩:=i;obtain ⟨j,m,k⟩:=p Z3 d l;exact ⟨j,(i0b m Z3 d I3 k)⟩
  | brk=>exact i
  | ret v=>exact i
 | false =>
  rw [Z0t Z0v];exact Z2b (i07 Z1 o I2 g)
end
structure It where
 go:Nat->Hp->Prop
 yld:Nat->Hp->V->Hp->Prop
 stop:Nat->Hp->Prop
def C1d (X:Cx) (pins:List (Addr×Obj)) (H:Hp) (b:Addr):Prop :=
 H b=none/\b≠X.env.locals/\b∉X.fs/\(b∈X.ex\/X.s₀.heap.objs.size<=b)/\(∀x c,X.env.cells.lookup x=some c->c≠b)/\∀p∈X.pn++pins,p.1≠b
theorem Inv.fpOk {X:Cx} {H':Hp} {b:Addr} (I:Inv X pins Z H s) (a:s.heap.objs.size<=b) (f:H' b=none):C1d X pins H' b:=by
 refine i0h f (Z1q (Z0q I.lt a)) (I.nofs a) (.inr (Z1n I.sz a)) (λx c e z=> ?_) λp d z=> ?_
 ·obtain ⟨v,q⟩:=I.cell x c e;exact absurd (Z0q q.lt (by rw [z];exact a)) (Nat.lt_irrefl _)
 ·exact absurd (Z0q (Z0a (I.pin p d).1) (by rw [z];exact a)) (Nat.lt_irrefl _)
structure D4a (P:Program) (w:World) (K:Frag) (tg:Expr) (J:It) (fp:List Addr) (it:Addr) (tn:Nat->Heap->Prop):Prop where
 mem:it∈fp
 obj:∀i h,tn i h->∀b∈fp,∃o,h.get? b=some o/\∀v,o.data≠.cell v
 keep:∀i h h',tn i h->(∀b∈fp,∀o,h.get? b=some o->h'.get? b=some o)->tn i h'
 item:∀(X:Cx),X.prog=P->X.w=w->X.K=K->X.calm=true->∀(i:Nat) (pins:List (Addr×Obj)) (s:Shared) (Z:St) (H:Hp) (E:Value->Shared->Prop),Inv X pins Z H s->(∀b∈fp,C1d X pins H b)->tn i s.heap->J.go i H->
  wpAny (model P w) X.A (pyNext (.ref it)) (λr s1=>∃u,r=some u/\
   wpAny (model P w) X.A (letOwnedTupleGo tg (.ref it) u) (λ_ s2=>∃x H',Inv X pins Z H' s2/\A3c x u/\J.yld i H x H'/\tn (i+1) s2.heap/\∀b∈fp,H' b=none) E s1) E s
 done:∀(X:Cx),X.prog=P->X.w=w->X.K=K->X.calm=true->∀(i:Nat) (pins:List (Addr×Obj)) (s:Shared) (Z:St) (H:Hp) (E:Value->Shared->Prop),Inv X pins Z H s->(∀b∈fp,C1d X pins H b)->tn i s.heap->J.stop i H->
  wpAny (model P w) X.A (pyNext (.ref it)) (λr s1=>r=none/\Inv X pins Z H s1) E s
 self:∀(A:Around) (i:Nat) (s:Shared) (Q:Value->Shared->Prop) (E:Value->Shared->Prop),tn i s.heap->Q (.ref it) s->wpAny (model P w) A (pyIter (.ref it)) Q E s
abbrev TI:=St->Hp->(It->Hp->Prop)->Prop
def PIE (X:Cx) (pins:List (Addr×Obj)) (Z:St) (tg:Expr) (R:It->Hp->Prop) (c:Value) (f:Shared):Prop :=
 ∃(d:Addr) (g:List Addr) (e:Nat->Heap->Prop) (J:It) (a:Hp),c= .ref d/\Inv X pins Z a f/\D4a X.prog X.w X.K tg J g d e/\e 0 f.heap/\(∀b∈g,C1d X pins a b)/\R J a
def PI (X:Cx) (tg iter:Expr) (wi:TI):Prop :=
 ∀(a:List (Addr×Obj)) (s:Shared) (Z:St) (H:Hp) (R:It->Hp->Prop),Inv X a Z H s->wi Z H R->
  wpAny (model X.prog X.w) X.A (eval iter X.env) (λv b=>wpAny (model X.prog X.w) X.A (pyIter v) (PIE X a Z tg R) X.xe b) X.xe s
theorem C4x {M:Model} {tg:Expr} {it:Addr} {o:Obj} {n:String} {vs:Array Value} {Q:Unit->Shared->Prop} (b:s.heap.get? it=some o) (d:o.cls= .type n) (e:o.data= .fields vs)
  (c:["enumerate","zip","dict_itemiterator","dict_reverseitemiterator","odict_iterator","itertools.zip_longest","itertools.pairwise"].contains n=false) (a:Q () s):wpAny M A (letOwnedTupleGo tg (.ref it) u) Q E s:=by
 unfold letOwnedTupleGo
 cases tg <;> first
  | exact Z04 a
  | (cases u <;> first
    | exact Z04 a
    | (refine Z00 (wpAny_load b ?_);rw [d,e];show wpAny M A (if (["enumerate","zip","dict_itemiterator","dict_reverseitemiterator","odict_iterator","itertools.zip_longest","itertools.pairwise"].contains n&&vs[0]? == some (rawInt _))=true then _ else _) Q E s;rw [Z0t (by intro h;rw [c,Bool.false_and] at h;cases h)];exact Z04 a))
def Itl (K:Frag) (a:Addr):It :=
 ⟨λi H=>∃b x,SqL K H a b/\b[i]? =some x,λi H x c=>c=H/\∀b,SqL K H a b->b[i]? =some x,λi H=>∃b,SqL K H a b/\b.length<=i⟩
def Itt (K:Frag) (a:Addr):It :=
 ⟨λi H=>∃b x,SqT K H a b/\b[i]? =some x,λi H x c=>c=H/\∀b,SqT K H a b->b[i]? =some x,λi H=>∃b,SqT K H a b/\b.length<=i⟩
def Itr (lo:Int) (n:Nat):It:=⟨λi _=>i<n,λi H x a=>a=H/\x= .int (lo+i),λi _=>n<=i⟩
theorem C6o {tg:Expr} (a it:Addr):D4a P w K tg (Itl K a) [it] it (λi h=>h.IsListIter it a i) where
 mem:=by simp
 obj:=λi h f b j=>by
  have e:b=it:=by simpa using j
  subst e;obtain ⟨o,e,c,d⟩:=f;exact i02 o e λv z=>by rw [d] at z;cases z
 keep:=λi h m f k=>f.at λo e=>k it (by simp) o e
 item:=by
  intro X F r M N i g s Z H E I q f L;subst F r M;obtain ⟨O,x,n,G⟩:=L;obtain ⟨A,y,p,T⟩:=I.list n;obtain ⟨u,Q,W⟩:=y.get G;obtain ⟨D,t,S,C,J,B⟩:=q it (by simp);refine wpAny_pyNext_list_item f p.isList (x:=u) (by simpa using Q) λm l Y=> ?_;have I1:Inv X g Z H { s with heap:=m }:=I.turned (t':=s.toks) (λb o j e=>(Y.2 b j).trans e) D t C J B
  obtain ⟨o,e,c,d⟩:=id l;exact i02 u rfl (C4x (s:={ s with heap:=m }) e c d (by decide) (i0p x H I1 W ⟨rfl,λys R=>by rw [I.list_inj R n];exact G⟩ l λb j=>(q b j).1))
 done:=by
  intro X F r M N i g s Z H E I q f L;subst F r M;obtain ⟨O,n,G⟩:=L;obtain ⟨A,y,p,T⟩:=I.list n;obtain ⟨D,t,S,C,J,B⟩:=q it (by simp);have hl:=y.length;exact wpAny_pyNext_list_end (I.ok.hd N) f p.isList (by simp;lia) λm U=>⟨rfl,I.turned (t':=s.toks) (λb o j e=>U b o j e) D t C J B⟩
 self:=λ_ _ _ _ _ f h=>wpAny_pyIter_listiter f h
theorem C5r {tg:Expr} (a it:Addr):D4a P w K tg (Itt K a) [it] it (λi h=>h.IsTupleIter it a i) where
 mem:=by simp
 obj:=λi h f b l=>by
  have e:b=it:=by simpa using l
  subst e;obtain ⟨o,e,c,d⟩:=f;exact i02 o e λv z=>by rw [d] at z;cases z
 keep:=λi h n f k=>f.at λo e=>k it (by simp) o e
 item:=by
  intro X F t M N i g s Z H E I r f L;subst F t M;obtain ⟨O,x,q,G⟩:=L;obtain ⟨j,A,p,T⟩:=I.tuple q;obtain ⟨u,Q,W⟩:=A.get G;obtain ⟨D,y,S,C,J,B⟩:=r it (by simp);refine wpAny_pyNext_tuple_item f (show s.heap.IsTuple a j.toArray from p) (x:=u) (by simpa using Q) λn m Y=> ?_;have I1:Inv X g Z H { s with heap:=n }:=I.turned (t':=s.toks) (λb o l e=>(Y.2 b l).trans e) D y C J B
  obtain ⟨o,e,c,d⟩:=id m;exact i02 u rfl (C4x (s:={ s with heap:=n }) e c d (by decide) (i0p x H I1 W ⟨rfl,λys R=>by rw [I.tuple_inj R q];exact G⟩ m λb l=>(r b l).1))
 done:=by
  intro X F t M N i g s Z H E I r f L;subst F t M;obtain ⟨O,q,G⟩:=L;obtain ⟨j,A,p,T⟩:=I.tuple q;obtain ⟨D,y,S,C,J,B⟩:=r it (by simp);have hl:=A.length;exact wpAny_pyNext_tuple_end (I.ok.hd N) f (show s.heap.IsTuple a j.toArray from p) (by simp;lia) λn U=>⟨rfl,I.turned (t':=s.toks) (λb o l e=>U b o l e) D y C J B⟩
 self:=λ_ _ _ _ _ f h=>wpAny_pyIter_tupleiter f h
theorem C4z {tg:Expr} (it:Addr) (lo:Int) (n:Nat):D4a P w K tg (Itr lo n) [it] it (λi h=>IsRangeIter h it (lo+(i:Nat)*1) ((n:Int)-(i:Nat)) 1) where
 mem:=by simp
 obj:=λi h a b d=>by
  have e:b=it:=by simpa using d
  subst e
  exact ⟨_,a,λv z=>by
   have F:Data.fields _=Data.cell v:=z
   cases F⟩
 keep:=λi h g a k=>k it (by simp) _ a
 item:=by
  intro X u l A B i c s Z H E I j a y;subst u l A;obtain ⟨r,m,G,q,x,p⟩:=j it (by simp);have W:=Walks.range (prog:=X.prog) (w:=X.w) (I.ok.hd B) it lo 1 n;refine W.item i s _ _ y a λv g C J f D=> ?_;obtain ⟨t,rfl⟩:=J;have I1:Inv X c Z H { s with heap:=g,toks:=C }:=I.turned (λb o d e=>D b o (by simpa using d) e) r m q x p
  refine i02 _ rfl (C4x (s:={ s with heap:=g,toks:=C }) (n:="range_iterator") f rfl rfl (by decide) (i0p (.int (lo+i)) H I1 ⟨t,?_⟩ ⟨rfl,rfl⟩ f λb d=>(j b d).1))
  rw [Int.mul_one]
 done:=by
  intro X u l A B i c s Z H E I j a y;subst u l A;obtain ⟨r,m,G,q,x,p⟩:=j it (by simp);exact wpAny_pyNext_range_end (I.ok.hd B) a (by have:n<=i:=y;lia) λg L=>⟨rfl,I.turned (t':=s.toks) (λb o d e=>L b o d e) r m q x p⟩
 self:=λ_ _ _ _ _ a h=>wpAny_pyIter_rangeiter a h
section
variable {X:Cx} {tg:Expr}
def E0z (K:Frag) (tl:TE):TI:=λZ H R=>tl Z H λx b=>∃a,x= .ref a/\(∃c,SqL K b a c)/\R (Itl K a) b
def E4s (K:Frag) (tl:TE):TI:=λZ H R=>tl Z H λx b=>∃a,x= .ref a/\(∃c,SqT K b a c)/\R (Itt K a) b
theorem A2c {l:Expr} {tl:TE} (g:PE X l tl):PI X tg l (E0z X.K tl):=by
 intro c s Z H R I h;refine thn (g c s Z H _ I h) ?_;rintro v d ⟨x,f,I1,i,n⟩;obtain ⟨a,e,⟨r,m⟩,q⟩:=n;subst e;cases i;obtain ⟨k,u,p,t⟩:=I1.list m;refine wpAny_pyIter_list p.isList ?_;refine i14 d.heap.objs.size [d.heap.objs.size] _ _ f rfl (I1.kept (t':=d.toks) λb o e=>Z01 _ e) (C6o a _) (i06 _ (Z0c _ rfl) rfl rfl) (λb j=> ?_) q;have e:b=d.heap.objs.size:=by simpa using j
 subst e;exact I1.fpOk (Z09 _) (I1.hok.fresh (Z09 _))
theorem D9l {l:Expr} {tl:TE} (i:PE X l tl):PI X tg l (E4s X.K tl):=by
 intro d s Z H R I h;refine thn (i d s Z H _ I h) ?_;rintro v c ⟨x,g,I1,j,n⟩;obtain ⟨a,e,⟨r,m⟩,q⟩:=n;subst e;cases j;obtain ⟨f,u,p,t⟩:=I1.tuple m;refine wpAny_pyIter_tuple (show c.heap.IsTuple a f.toArray from p) ?_;refine i14 c.heap.objs.size [c.heap.objs.size] _ _ g rfl (I1.kept (t':=c.toks) λb o e=>Z01 _ e) (C5r a _) (i06 _ (Z0c _ rfl) rfl rfl) (λb k=> ?_) q;have e:b=c.heap.objs.size:=by simpa using k
 subst e;exact I1.fpOk (Z09 _) (I1.hok.fresh (Z09 _))
theorem D2y {R:It->Hp->Prop} {lo hi:Int} {t u v:Tok} {tk:Nat} (I:Inv X pins Z H s) (h1: -(2^62)<=lo) (h2:lo<2^62) (g: -(2^62)<=hi) (d:hi<2^62)
  (q:R (Itr lo (hi-lo).toNat) H):wpAny (model X.prog X.w) X.A (pyIter (.ref s.heap.objs.size)) (PIE X pins Z tg R) E { s with heap:=s.heap.push { cls:= .type "range",data:= .fields #[.int lo t,.int hi u,.int 1 v] },toks:=tk }:=by
 refine wpAny_pyIter_range (IsRange.new ..) (small_one h1 h2 g d) ?_;have I1:Inv X pins Z H { s with heap:=s.heap.push { cls:= .type "range",data:= .fields #[.int lo t,.int hi u,.int 1 v] },toks:=tk }:=I.kept λb o e=>Z01 _ e
 refine ⟨(s.heap.push { cls:= .type "range",data:= .fields #[.int lo t,.int hi u,.int 1 v] }).objs.size,[(s.heap.push { cls:= .type "range",data:= .fields #[.int lo t,.int hi u,.int 1 v] }).objs.size],_,_,H,rfl,
  I1.kept (t':=tk) λb o e=>Z01 _ e,C4z _ lo (hi-lo).toNat,?_,λb f=> ?_,q⟩
 ·have c:lo+((0:Nat):Int)*1=lo:=by simp
  have a:(((hi-lo).toNat:Nat):Int)-((0:Nat):Int)=Builtin.Range.rangeSize lo hi 1:=by rw [rangeSize_one];split <;> lia
  show IsRangeIter _ _ (lo+((0:Nat):Int)*1) ((((hi-lo).toNat:Nat):Int)-((0:Nat):Int)) 1;rw [c,a];exact Z0c _ rfl
 ·have e:b=(s.heap.push { cls:= .type "range",data:= .fields #[.int lo t,.int hi u,.int 1 v] }).objs.size:=by simpa using f
  subst e;exact I1.fpOk (Z09 _) (I1.hok.fresh (Z09 _))
def E2z (ta:TA):TI:=λZ H R=>ta Z H λb a=>∃j:Int,b=[.int j]/\-(2^62)<=j/\j<2^62/\R (Itr 0 j.toNat) a
theorem A4a {a:Expr} {ta:TA} {p:Pos} (g:Gl X "range") (l:X.mg "range"=none) (i:PA X [a] ta) (k:starEach [a] X.env=[(false,eval a X.env)]:=by rfl):PI X tg (.Call (.Name "range" p) [a] [] pos) (E2z ta):=by
 intro b s Z H R I h;refine Call_ (B1u I g l boot_range (PyProof.Rows.callWith_type1 (thn (i pos b s Z H _ I h) ?_) k rfl));rintro n u ⟨o,m,I1,f,c⟩;obtain ⟨j,e,c,d,q⟩:=c;subst e
 cases f with
 | cons r rr =>
  cases rr
  obtain ⟨t,rfl⟩:=r;exact call_range_1 (D2y I1 (by lia) (by lia) c d (by simpa using q))
def E4i (wi:TI) (g:TG) (tb:TS):TS:=λD Z H=>wi Z H λJ d=>∃W:Nat->Nat->St->Hp->Prop,(∃m,W 0 m Z d)/\∀i m Z H,W i m Z H->
 (J.stop i H/\D.nx Z H)\/(J.go i H/\∃N:St->Hp->Prop,(∀Z' a,N Z' a->∃b,b<m/\W (i+1) b Z' a)/\∀x a,J.yld i H x a->g x Z a λZ2 c=>tb { D with nx:=N,ct:=N,bk:=D.nx } Z2 c)
def B5q (fp:List Addr) (h:Heap):List (Addr×Obj):=fp.filterMap λb=>(h.get? b).map λo=>(b,o)
theorem A5j {b:Addr} {o:Obj} (a:b∈fp) (e:h.get? b=some o):(b,o)∈B5q fp h:=List.mem_filterMap.mpr (i02 b a (by rw [e];rfl))
theorem C6p {p:Addr×Obj} (d:p∈B5q fp h):p.1∈fp/\h.get? p.1=some p.2:=by
 obtain ⟨b,c,e⟩:=List.mem_filterMap.mp d
 cases q:h.get? b with
 | none=>rw [q] at e;cases e
 | some o =>
  rw [q] at e;have a:(b,o)=p:=Z1a e;subst a;exact ⟨c,q⟩
theorem Inv.pinned (I:Inv X pins Z H s) (f:∀b∈fp,C1d X pins H b) (h:∀b∈fp,∃o,s.heap.get? b=some o/\∀v,o.data≠.cell v):Inv X (pins++B5q fp s.heap) Z H s :=
 I.pins_of λp g=>(Z07.mp g).elim (λz=>I.pin p (Z02 _ z)) λz=>by
  obtain ⟨c,e⟩:=C6p z;obtain ⟨i,k,j,_⟩:=f p.1 c;obtain ⟨o,a,d⟩:=h p.1 c;rw [e] at a;cases a;exact i09 e i k j d
theorem Inv.unpinned {pl:List (Addr×Obj)} (I:Inv X (pins++pl) Z H s):Inv X pins Z H s:=I.pins_of λp a=>I.pin p (Z02 _ (Z05 _ a))
theorem C6y {iter:Expr} {wi:TI} {g:TG} {tb:TS} (K:PassesOwn (model X.prog X.w) X.A X.env X.xe) (U:X.calm=true) (hi:PI X tg iter wi) (hg:PG X tg g) (l:PSs X body tb)
  (hs:∀x,foldedSetIterable iter X.env x=pure x:=by intro _;rfl):PS X (.For tg iter body [] pos) (E4i wi g tb):=by
 intro a s Z H D I h;refine wpAny_For (thn (hi a s Z H _ I h) λv s1 h1=>thn h1 λa0 s2 h2=> ?_) hs;obtain ⟨it,C,E,J,H2,e,I2,T,M,Y,W,⟨m0,w0⟩,B⟩:=h2;subst e;have j:∀{H':Hp},(∀b∈C,H' b=none)->∀b∈C,C1d X a H' b:=λhn b l=>⟨hn b l,(Y b l).2⟩;refine codeAny_forLoop_any (λn S=>∃i Z' H',Inv X a Z' H' S/\E i S.heap/\(∀b∈C,H' b=none)/\W i n Z' H') ?_ m0 (i0r 0 Z H2 I2 M (λb l=>(Y b l).1) w0);rintro n R ⟨i,Z3,L,I3,F,y,w3⟩;rcases B i n Z3 L w3 with ⟨z,qn⟩ | ⟨go,N,hN,G⟩
 ·refine wpAny_passesOwn K (thn (T.done X rfl rfl rfl U i a R Z3 L X.xe I3 (j y) F z) ?_);rintro r s4 ⟨Q,I4⟩;subst Q;exact Z2b (i07 Z3 L I4 qn)
 ·refine wpAny_passesOwn K (thn (T.item X rfl rfl rfl U i a R Z3 L X.xe I3 (j y) F go) ?_);rintro r s4 ⟨u,Q,h4⟩;subst Q;refine wpAny_passesOwn K (thn h4 ?_);rintro _ s5 ⟨x,H5,I5,r5,y5,q,P⟩;have I5':=I5.pinned (j P) (T.obj _ _ q);refine wpAny_passesOwn K (thn (hg _ s5 Z3 H5 x u _ I5' r5 (G x H5 y5)) ?_);rintro _ s6 ⟨Z6,H6,I6,q6⟩;refine wpAny_passesOwn K (thn (l _ s6 Z6 H6 _ I6 q6) λf O p=> ?_)
  have c:∀{Z7:St} {k:Hp},Inv X (a++B5q C s5.heap) Z7 k O->N Z7 k->∃m,m<n/\∃i Z' H',Inv X a Z' H' O/\E i O.heap/\(∀b∈C,H' b=none)/\W i m Z' H':=λ{Z7 k} I7 t=>by
   obtain ⟨m',hm,w7⟩:=hN Z7 k t;refine i0x m' hm (i+1) Z7 k I7.unpinned (T.keep _ _ _ q λb l o e=>(I7.pin (b,o) (Z02 _ (Z02 _ (A5j l e)))).1) (λb l=> ?_) w7;obtain ⟨o,e,d⟩:=T.obj _ _ q b l;exact (I7.pin (b,o) (Z02 _ (Z02 _ (A5j l e)))).2.1
  cases f with
  | next=>obtain ⟨Z7,k,I7,t⟩:=p;exact c I7 t
  | cont=>obtain ⟨Z7,k,I7,t⟩:=p;exact c I7 t
  | brk=>obtain ⟨Z7,k,I7,p⟩:=p;exact i07 Z7 k I7.unpinned p
  | ret v=>obtain ⟨x7,Z7,k,I7,r7,p⟩:=p;exact ⟨x7,Z7,k,I7.unpinned,r7,p⟩
end
theorem A2l {a:Addr} {xs:List V} {g:TG} {tb:TS} {D:C6c} (Pv:Nat->St->Hp->Prop) (d:Pv 0 Z H) (h:∀i Z H,i<=xs.length->Pv i Z H->SqL K H a xs)
  (k:∀i x Z H,xs[i]? =some x->Pv i Z H->g x Z H λZ2 H2=>tb { D with nx:=Pv (i+1),ct:=Pv (i+1),bk:=D.nx } Z2 H2) (j:∀Z H,Pv xs.length Z H->D.nx Z H) :
  ∃W:Nat->Nat->St->Hp->Prop,(∃m,W 0 m Z H)/\∀i m Z H,W i m Z H->
   ((Itl K a).stop i H/\D.nx Z H)\/((Itl K a).go i H/\∃N:St->Hp->Prop,(∀Z' H',N Z' H'->∃b,b<m/\W (i+1) b Z' H')/\∀x H',(Itl K a).yld i H x H'->g x Z H' λZ2 H2=>tb { D with nx:=N,ct:=N,bk:=D.nx } Z2 H2):=by
 refine i02 (λi m Z H=>m=xs.length-i/\i<=xs.length/\Pv i Z H) (i06 xs.length (by simp) (Z1e _) d) ?_;rintro i m Z H ⟨rfl,f,p⟩;have q:=h i Z H f p;by_cases hlt:i<xs.length
 ·refine .inr (i05 (i07 xs (xs[i]) q (by simp [hlt])) (Pv (i+1)) (λZ' H' c=>(i0c (xs.length-(i+1)) (by lia) rfl hlt c)) λx H' y=> ?_);obtain ⟨e,y⟩:=y;subst e;exact k i x Z _ (y xs q) p
 ·have e:i=xs.length:=by lia
  subst e;exact .inl ⟨(i02 xs q (Z09 _)),j Z H p⟩
theorem A4k {lo:Int} {n:Nat} {g:TG} {tb:TS} {D:C6c} (Pv:Nat->St->Hp->Prop) (c:Pv 0 Z H)
  (f:∀i Z H,i<n->Pv i Z H->g (.int (lo+i)) Z H λZ2 H2=>tb { D with nx:=Pv (i+1),ct:=Pv (i+1),bk:=D.nx } Z2 H2) (d:∀Z H,Pv n Z H->D.nx Z H) :
  ∃W:Nat->Nat->St->Hp->Prop,(∃m,W 0 m Z H)/\∀i m Z H,W i m Z H->
   ((Itr lo n).stop i H/\D.nx Z H)\/((Itr lo n).go i H/\∃N:St->Hp->Prop,(∀Z' H',N Z' H'->∃a,a<m/\W (i+1) a Z' H')/\∀x H',(Itr lo n).yld i H x H'->g x Z H' λZ2 H2=>tb { D with nx:=N,ct:=N,bk:=D.nx } Z2 H2):=by
 refine i02 (λi m Z H=>m=n-i/\i<=n/\Pv i Z H) (i06 n (by simp) (Z1e _) c) ?_;rintro i m Z H ⟨rfl,h,p⟩;by_cases hlt:i<n
 ·refine .inr (i05 hlt (Pv (i+1)) (λZ' H' b=>(i0c (n-(i+1)) (by lia) rfl hlt b)) λx H' y=> ?_);obtain ⟨e,y⟩:=y;subst e y;exact f i Z _ hlt p
 ·have e:i=n:=by lia
  subst e;exact .inl ⟨Z09 _,d Z H p⟩
abbrev R2:=V->V->Hp->VK->Prop
def OpR (X:Cx) (f:Value->Value->Sem Value) (r:R2):Prop :=
 ∀(a:List (Addr×Obj)) (s:Shared) (Z:St) (H:Hp) (x y:V) (v u:Value) (Q:VK),Inv X a Z H s->A3c x v->A3c y u->r x y H Q->
  wpAny (model X.prog X.w) X.A (f v u) (EP X a Z Q) X.xe s
def UnR (X:Cx) (f:Value->Sem Value) (r:V->Hp->VK->Prop):Prop :=
 ∀(a:List (Addr×Obj)) (s:Shared) (Z:St) (H:Hp) (x:V) (v:Value) (Q:VK),Inv X a Z H s->A3c x v->r x H Q->
  wpAny (model X.prog X.w) X.A (f v) (EP X a Z Q) X.xe s
def A8h (X:Cx) (f:Value) (r:List V->Hp->VK->Prop):Prop :=
 ∀(a:List (Addr×Obj)) (s:Shared) (Z:St) (H:Hp) (b:List V) (c:List Value) (Q:VK),Inv X a Z H s->A3z b c->r b H Q->
  wpAny (model X.prog X.w) X.A (call f c) (EP X a Z Q) X.xe s
def tOp (r:R2) (ta tb:TE):TE:=λZ H Q=>ta Z H λx b=>tb Z b λy a=>r x y a Q
def tUn (r:V->Hp->VK->Prop) (ta:TE):TE:=λZ H Q=>ta Z H λx a=>r x a Q
def rI (C:Int->Int->Prop) (g:Int->Int->V):R2:=λx y H Q=>∃i j,x= .int i/\y= .int j/\C i j/\Q (g i j) H
def rI0 (g:Int->Int->V):R2:=λx y H Q=>∃i j,x= .int i/\y= .int j/\Q (g i j) H
def rU (g:Int->V):V->Hp->VK->Prop:=λx H Q=>∃i,x= .int i/\Q (g i) H
section
variable {X:Cx} {a b c:Expr} {ta tb tc:TE} {pos:Pos}
theorem E3p (e:PE X a ta) (d:PE X b tb) {R:V->V->Hp->Prop} (I:Inv X pins Z H s)
  (h:ta Z H λx H1=>tb Z H1 λy H2=>R x y H2)
  (g:∀v u c x y H2,Inv X pins Z H2 c->A3c x v->A3c y u->R x y H2->wpAny (model X.prog X.w) X.A (f v u) Q X.xe c) :
  wpAny (model X.prog X.w) X.A (eval a X.env) (λv s₁=>wpAny (model X.prog X.w) X.A (eval b X.env) (λu s₂=>wpAny (model X.prog X.w) X.A (f v u) Q X.xe s₂) X.xe s₁) X.xe s:=by
 refine thn (e pins s Z H _ I h) ?_;rintro v i ⟨x,H1,I1,m,k⟩;refine thn (d pins i Z H1 _ I1 k) ?_;rintro u c ⟨y,H2,I2,j,l⟩;exact g v u c x y H2 I2 m j l
theorem A0j {op:Operator} {r:R2} (j:OpR X (binaryOp op) r) (i:PE X a ta) (f:PE X b tb):PE X (.BinOp a op b pos) (tOp r ta tb):=by
 intro c s Z H Q I h;exact wpAny_BinOp (E3p i f I h λv u k x y d I2 g e q=>j c k Z d x y v u Q I2 g e q)
theorem B7k {op:UnaryOp} {r:V->Hp->VK->Prop} (g:UnR X (unaryOp op) r) (e:PE X a ta):PE X (.UnaryOp op a pos) (tUn r ta):=by
 intro b s Z H Q I h;exact UnaryOp_ (thn (e b s Z H _ I h) (by rintro v f ⟨x,c,I1,d,i⟩;exact g b f Z c x v Q I1 d i))
theorem opI {C:Int->Int->Prop}
  (a:∀(i j:Int) (t u:Tok) (s:Shared) (Q:Value->Shared->Prop) (E:Value->Shared->Prop),C i j->Q (.int (g i j) s.toks) { s with toks:=s.toks+1 }->wpAny (model X.prog X.w) X.A (f (.int i t) (.int j u)) Q E s) :
  OpR X f (rI C λi j=> .int (g i j)):=by
 intro b s Z H x y v u Q I k d h;obtain ⟨i,j,rfl,rfl,c,q⟩:=h;obtain ⟨t,rfl⟩:=k;obtain ⟨e,rfl⟩:=d;exact a i j t e s _ _ c (i0f (.int (g i j)) H (I.tok _) ⟨_,rfl⟩ q)
theorem E4n
  (a:∀(i j:Int) (t u:Tok) (s:Shared) (Q:Value->Shared->Prop) (E:Value->Shared->Prop),Q (.int (g i j) s.toks) { s with toks:=s.toks+1 }->wpAny (model X.prog X.w) X.A (f (.int i t) (.int j u)) Q E s) :
  OpR X f (rI0 λi j=> .int (g i j)):=by
 intro b s Z H x y v u Q I e c h;obtain ⟨i,j,rfl,rfl,q⟩:=h;obtain ⟨t,rfl⟩:=e;obtain ⟨d,rfl⟩:=c;exact a i j t d s _ _ (i0f (.int (g i j)) H (I.tok _) ⟨_,rfl⟩ q)
theorem E2n {g:Int->Int->Bool}
  (a:∀(i j:Int) (t u:Tok) (s:Shared) (Q:Value->Shared->Prop) (E:Value->Shared->Prop),Q (.bool (g i j)) s->wpAny (model X.prog X.w) X.A (f (.int i t) (.int j u)) Q E s) :
  OpR X f (rI0 λi j=> .bl (g i j)):=by
 intro b s Z H x y v u Q I e c h;obtain ⟨i,j,rfl,rfl,q⟩:=h;obtain ⟨t,rfl⟩:=e;obtain ⟨d,rfl⟩:=c;exact a i j t d s _ _ (i0f (.bl (g i j)) H I rfl q)
def CDiv (i j:Int):Prop:=0<j/\j<1073741824
def CPow (i j:Int):Prop:=0<=j/\j<=1000000/\i.natAbs<2^64
def E4c (i j:Int):Prop:=(-(2^64)<i/\i<2^64)\/(-(2^64)<j/\j<2^64)
theorem E4c.ok {i j:Int} (h:E4c i j):IntMulOk i j:=by
 rcases h with ⟨b,a⟩ | ⟨b,a⟩
 ·exact .of_left (intBits_le_64 b a)
 ·exact .of_right (intBits_le_64 b a)
theorem A2h:OpR X (binaryOp .Add) (rI0 λi j=> .int (i+j)):=E4n λ_ _ _ _ _ _ _ q=>add_int q
theorem A3p:OpR X (binaryOp .Sub) (rI0 λi j=> .int (i-j)):=E4n λ_ _ _ _ _ _ _ q=>sub_int q
theorem A6e:OpR X (binaryOp .Mult) (rI E4c λi j=> .int (i*j)):=opI λ_ _ _ _ _ _ _ a q=>mul_int q a.ok
theorem A1o:OpR X (binaryOp .FloorDiv) (rI CDiv λi j=> .int (i/j)):=opI λi j _ _ _ _ _ a q=>by
 have c:(0:Int)<j:=a.1;have b:j<1073741824:=a.2;exact floordiv_int (by lia) (by rw [Int.fdiv_eq_ediv_of_nonneg i (by lia)];exact q) (.inl (PyProof.noPylong_small (by lia)))
theorem A1j:OpR X (binaryOp .Mod) (rI (λ_ j=>0<j) λi j=> .int (i%j)):=opI λi j _ _ _ _ _ a q=>by
 have b:(0:Int)<j:=a;exact mod_int' (by lia) (by rw [Int.fmod_eq_emod_of_nonneg i (by lia)];exact q)
theorem A7e:OpR X (binaryOp .Pow) (rI CPow λi j=> .int (i^j.toNat)):=opI λ_ _ _ _ _ _ _ a q=>pow_int_small a.1 a.2.1 a.2.2 q
theorem unI {f:Value->Sem Value} {g:Int->Int}
  (a:∀(i:Int) (t:Tok) (s:Shared) (Q:Value->Shared->Prop) (E:Value->Shared->Prop),Q (.int (g i) s.toks) { s with toks:=s.toks+1 }->wpAny (model X.prog X.w) X.A (f (.int i t)) Q E s) :
  UnR X f (rU λi=> .int (g i)):=by
 intro b s Z H x v Q I c h;obtain ⟨i,rfl,q⟩:=h;obtain ⟨t,rfl⟩:=c;exact a i t s _ _ (i0f (.int (g i)) H (I.tok _) ⟨_,rfl⟩ q)
theorem B0p:UnR X (unaryOp .USub) (rU λi=> .int (-i)):=unI λ_ _ _ _ _ q=>neg_int q
end
def E4g:V->V->Bool
 | .non,.non=>true | .non,.int _=>true | .int _,.non=>true | .non,.bl _=>true | .bl _,.non=>true | .non,.str _=>true | .str _,.non=>true
 | .int _,.int _=>true | .bl _,.bl _=>true | .str _,.str _=>true | .byt _,.byt _=>true
 | .int _,.str _=>true | .str _,.int _=>true | .bl _,.str _=>true | .str _,.bl _=>true
 | _,_=>false
def rEq:R2:=λx y H Q=>E4g x y=true/\Q (.bl (decide (x=y))) H
def rNe:R2:=λx y H Q=>E4g x y=true/\Q (.bl (! decide (x=y))) H
theorem C6k {i j:Int}:decide (V.int i=V.int j)=(i == j):=by
 rw [Bool.eq_iff_iff];simp
theorem D4g {i j:Bool}:decide (V.bl i=V.bl j)=(i == j):=by
 rw [Bool.eq_iff_iff];simp
theorem C7t {i j:Str}:decide (V.str i=V.str j)=(i == j):=by
 rw [Bool.eq_iff_iff];simp
theorem C7v {i j:Array UInt8}:decide (V.byt i=V.byt j)=(i.toList == j.toList):=by
 rw [Bool.eq_iff_iff];cases i;cases j;simp
section
variable {X:Cx} {a b c:Expr} {ta tb tc:TE} {pos:Pos}
theorem A2o {Q:VK} {k a:Bool} (I:Inv X pins Z H s) (q:Q (.bl k) H) (e:k=a):EP X pins Z Q (.bool a) s:=by
 subst e;exact i0f (.bl k) H I rfl q
theorem A3d:OpR X (compareOp .Eq) rEq:=by
 intro e s Z H x y v u Q I d a h;obtain ⟨c,q⟩:=h
 cases x with
 | non =>
  cases d
  cases y with
  | non=>cases a;exact PySem.EqNone.eq_none_none (A2o I q (by simp))
  | bl j=>cases a;exact PySem.EqNone.eq_none_bool (A2o I q (by simp))
  | int j=>obtain ⟨b,rfl⟩:=a;exact PySem.EqNone.eq_none_int (A2o I q (by simp))
  | str j=>obtain ⟨b,rfl⟩:=a;exact PySem.EqNone.eq_none_str (A2o I q (by simp))
  | _=>exact absurd (show false=true from c) Z0v
 | bl i =>
  cases d
  cases y with
  | non=>cases a;exact PySem.EqNone.eq_bool_none (A2o I q (by simp))
  | bl j=>cases a;exact eq_bool (A2o I q D4g)
  | str j=>obtain ⟨b,rfl⟩:=a;exact PySem.EqMixed.eq_bool_str (A2o I q (by simp))
  | _=>exact absurd (show false=true from c) Z0v
 | int i =>
  obtain ⟨t,rfl⟩:=d
  cases y with
  | non=>cases a;exact PySem.EqNone.eq_int_none (A2o I q (by simp))
  | int j=>obtain ⟨b,rfl⟩:=a;exact eq_int (A2o I q C6k)
  | str j=>obtain ⟨b,rfl⟩:=a;exact PySem.EqMixed.eq_int_str (A2o I q (by simp))
  | _=>exact absurd (show false=true from c) Z0v
 | str i =>
  obtain ⟨t,rfl⟩:=d
  cases y with
  | non=>cases a;exact PySem.EqNone.eq_str_none (A2o I q (by simp))
  | bl j=>cases a;exact PySem.EqMixed.eq_str_bool (A2o I q (by simp))
  | int j=>obtain ⟨b,rfl⟩:=a;exact PySem.EqMixed.eq_str_int (A2o I q (by simp))
  | str j=>obtain ⟨b,rfl⟩:=a;exact eq_str (A2o I q C7t)
  | _=>exact absurd (show false=true from c) Z0v
 | byt i =>
  obtain ⟨t,rfl⟩:=d
  cases y with
  | byt j=>obtain ⟨b,rfl⟩:=a;exact PySem.W.eq_bytes (A2o I q C7v)
  | _=>exact absurd (show false=true from c) Z0v
 | _=>cases y <;> exact absurd (show false=true from c) Z0v
theorem D6h:OpR X (compareOp .NotEq) rNe:=by
 intro e s Z H x y v u Q I d a h;obtain ⟨c,q⟩:=h
 cases x with
 | non =>
  cases d
  cases y with
  | non=>cases a;exact PySem.EqNone.ne_none_none (A2o I q (by simp))
  | bl j=>cases a;exact PySem.EqNone.ne_none_bool (A2o I q (by simp))
  | int j=>obtain ⟨b,rfl⟩:=a;exact PySem.EqNone.ne_none_int (A2o I q (by simp))
  | str j=>obtain ⟨b,rfl⟩:=a;exact PySem.EqNone.ne_none_str (A2o I q (by simp))
  | _=>exact absurd (show false=true from c) Z0v
 | bl i =>
  cases d
  cases y with
  | non=>cases a;exact PySem.EqNone.ne_bool_none (A2o I q (by simp))
  | bl j=>cases a;exact ne_bool (A2o I q (congrArg not D4g))
  | str j=>obtain ⟨b,rfl⟩:=a;exact PySem.EqMixed.ne_bool_str (A2o I q (by simp))
  | _=>exact absurd (show false=true from c) Z0v
 | int i =>
  obtain ⟨t,rfl⟩:=d
  cases y with
  | non=>cases a;exact PySem.EqNone.ne_int_none (A2o I q (by simp))
  | int j=>obtain ⟨b,rfl⟩:=a;exact ne_int (A2o I q (congrArg not C6k))
  | str j=>obtain ⟨b,rfl⟩:=a;exact PySem.EqMixed.ne_int_str (A2o I q (by simp))
  | _=>exact absurd (show false=true from c) Z0v
 | str i =>
  obtain ⟨t,rfl⟩:=d
  cases y with
  | non=>cases a;exact PySem.EqNone.ne_str_none (A2o I q (by simp))
  | bl j=>cases a;exact PySem.EqMixed.ne_str_bool (A2o I q (by simp))
  | int j=>obtain ⟨b,rfl⟩:=a;exact PySem.EqMixed.ne_str_int (A2o I q (by simp))
  | str j=>obtain ⟨b,rfl⟩:=a;exact ne_str (A2o I q (congrArg not C7t))
  | _=>exact absurd (show false=true from c) Z0v
 | byt i =>
  obtain ⟨t,rfl⟩:=d
  cases y with
  | byt j=>obtain ⟨b,rfl⟩:=a;exact PySem.W.ne_bytes (A2o I q (congrArg not C7v))
  | _=>exact absurd (show false=true from c) Z0v
 | _=>cases y <;> exact absurd (show false=true from c) Z0v
theorem B9a:OpR X (compareOp .Lt) (rI0 λi j=> .bl (decide (i<j))):=E2n λ_ _ _ _ _ _ _ q=>lt_int q
theorem D5g:OpR X (compareOp .LtE) (rI0 λi j=> .bl (decide (i<=j))):=E2n λ_ _ _ _ _ _ _ q=>le_int q
theorem A8u:OpR X (compareOp .Gt) (rI0 λi j=> .bl (decide (j<i))):=E2n λ_ _ _ _ _ _ _ q=>gt_int q
theorem E4d:OpR X (compareOp .GtE) (rI0 λi j=> .bl (decide (j<=i))):=E2n λ_ _ _ _ _ _ _ q=>ge_int q
theorem C6z:OpR X (compareOp .IsNot) (λx y H Q=>y= .non/\Q (.bl (! decide (x= .non))) H):=by
 intro a s Z H x y v u Q I b c h;obtain ⟨rfl,q⟩:=h;cases c;refine isnot_none_gen (A2o I q ?_)
 cases x <;> first
  | (cases b;rfl)
  | (obtain ⟨t,rfl⟩:=b;rfl)
theorem A1b (b:Expr) (h:op≠.In:=by decide) (h2:op≠.NotIn:=by decide):behindInMarks op b=false:=by
 have c:(op == CmpOp.In)=false:=by cases op <;> first | rfl | exact absurd rfl h
 have a:(op == CmpOp.NotIn)=false:=by cases op <;> first | rfl | exact absurd rfl h2
 cases b <;> simp [behindInMarks,c,a]
theorem D0u {r:R2} (j:OpR X (compareOp op) r) (i:PE X a ta) (f:PE X b tb) (l:behindInMarks op b=false):PE X (.Compare a [op] [b] pos) (tOp r ta tb):=by
 intro c s Z H Q I h;exact wpAny_Compare1 (E3p i f I h λv u k x y d I2 g e q=>j c k Z d x y v u Q I2 g e q) l
def C1p (t:TE):TT:=λZ H Q=>t Z H λx a=>∃k,x= .bl k/\Q k a
theorem A0p {r:R2} (n:OpR X (compareOp op) r) (B:PE X a ta) (A:PE X b tb) (p:behindInMarks op b=false):PT X (.Compare a [op] [b] pos) (C1p (tOp r ta tb)):=by
 intro d s Z H Q I h
 refine wpAny_isTrue_Compare1 (thn (B d s Z H _ I h) λv l ⟨x,t,I1,w,o⟩=>thn (A d l Z t _ I1 o) λu C ⟨y,q,I2,m,g⟩ =>
  thn (n d C Z q x y v u _ I2 w m g) λc D ⟨z,f,I3,i,k,e,j⟩=> ?_) p
 subst e;cases i;exact wpAny_truthy_bool (i02 f I3 j)
def D8v (r e:R2) (ta tb tc:TE):TE:=λZ H Q=>ta Z H λx c=>tb Z c λy b=>r x y b λz a=>∃k,z= .bl k/\
 (if k=true then tc Z a λf d=>e y f d Q else Q (.bl false) a)
theorem D2u {g:CmpOp} {r l:R2} (D:OpR X (compareOp op) r) (i:OpR X (compareOp g) l) (U:PE X a ta) (P:PE X b tb) (W:PE X c tc)
  (F:lastMarks [op,g] [b,c]=false:=by with_unfolding_all rfl):PT X (.Compare a [op,g] [b,c] pos) (C1p (D8v r l ta tb tc)):=by
 intro f s Z H Q I h
 refine isTrue_chain (thn (U f s Z H _ I h) λv w ⟨x,L,I1,N,C⟩=>test_link (thn (P f w Z L _ I1 C) λu Y ⟨y,K,I2,n,q⟩ =>
  thn (D f Y Z K x y v u _ I2 N n q) λd J ⟨z,j,I3,t,k,e,m⟩=> ?_)) F
 subst e;cases t;refine wpAny_truthy_bool ?_
 cases k with
 | false =>
  obtain ⟨k',B,p⟩:=m;cases B;exact ite_ff (i02 j I3 p)
 | true =>
  refine ite_tt (test_last (thn (W f J Z j _ I3 m) ?_));rintro G M ⟨o,E,I4,T,q4⟩;refine thn (i f M Z E y o u G _ I4 n T q4) ?_;rintro d' s5 ⟨z2,S,I5,R,k2,A,O⟩;subst A;cases R;exact wpAny_truthy_bool (i02 S I5 O)
theorem B9z:(sizeLine:Nat)<2^63:=by rw [sizeLine_eq];decide
theorem A8w:OpR X (binaryOp .Add) (λx y H Q=>∃i j,x= .str i/\y= .str j/\i.length+j.length<=sizeLine/\Q (.str (i++j)) H):=by
 intro a s Z H x y v u Q I e c h;obtain ⟨i,j,rfl,rfl,b,q⟩:=h;obtain ⟨t,rfl⟩:=e;obtain ⟨d,rfl⟩:=c;exact add_str (λd f=>(i0f (.str (i++j)) H (I.tok _) ⟨_,rfl⟩ q)) b
theorem B1d {x:V} (r:A3z [x] us):∃u,us=[u]/\A3c x u:=by
 cases r with
 | cons r1 r2=>cases r2;exact i02 _ rfl r1
theorem C9f {x y:V} (r:A3z [x,y] us):∃u w',us=[u,w']/\A3c x u/\A3c y w':=by
 cases r with
 | cons r1 r2 =>
  cases r2 with
  | cons r3 r4=>cases r4;exact i0f _ _ rfl r1 r3
theorem C9t (b:X.calm=true):A8h X (.builtin "max") (λxs H Q=>∃i j,xs=[.int i,.int j]/\Q (.int (if j>i then j else i)) H):=by
 intro a s Z H xs c Q I r h;obtain ⟨i,j,rfl,q⟩:=h;obtain ⟨u,f,rfl,⟨t,rfl⟩,⟨g,rfl⟩⟩:=C9f r;refine max_two_ints (I.ok.hd b) λe d k=>(i0f _ H (I.kept k) ?_ q);by_cases hj:j>i
 ·rw [Z12 hj,Z12 hj];exact ⟨_,rfl⟩
 ·rw [Z0t hj,Z0t hj];exact ⟨_,rfl⟩
theorem C9s (b:X.calm=true):A8h X (.builtin "min") (λxs H Q=>∃i j,xs=[.int i,.int j]/\Q (.int (if j<i then j else i)) H):=by
 intro a s Z H xs c Q I r h;obtain ⟨i,j,rfl,q⟩:=h;obtain ⟨u,f,rfl,⟨t,rfl⟩,⟨g,rfl⟩⟩:=C9f r;refine min_two_ints (I.ok.hd b) λe d k=>(i0f _ H (I.kept k) ?_ q);by_cases hj:j<i
 ·rw [Z12 hj,Z12 hj];exact ⟨_,rfl⟩
 ·rw [Z0t hj,Z0t hj];exact ⟨_,rfl⟩
theorem B7y:A8h X (.type "int") (λxs H Q=>(∃i,xs=[.int i]/\Q (.int i) H)\/∃k,xs=[.bl k]/\Q (.int (if k then 1 else 0)) H):=by
 intro a s Z H xs c Q I r h;rcases h with ⟨i,rfl,q⟩ | ⟨k,rfl,q⟩
 ·obtain ⟨u,rfl,t,rfl⟩:=B1d r;exact call_int_int (i0f (.int i) H I ⟨_,rfl⟩ q)
 ·obtain ⟨u,rfl,b⟩:=B1d r;cases b;exact call_int_bool (i0f (.int (if k then 1 else 0)) H (I.tok _) ⟨_,rfl⟩ q)
end
structure D6m (h:Heap) (x dx C:Addr) (mA:Str->Option Value):Prop where
 obj:h.get? x=some (instObj C dx)
 ns:h.Ns1 dx mA
 ne:dx≠x
theorem C8n {dx:Addr} (n:h.Ns1 dx mA):∃od,h.get? dx=some od/\∀name,PySem.W.lookIn name od=some (mA name):=by
 obtain ⟨o,c,l,j,f,g,_,k⟩:=n;refine i02 o j λname=> ?_;have e:=k name;unfold nsFind findBy at e;rw [<-Array.find?_toList] at e;unfold PySem.W.lookIn;rw [f];dsimp only;split
 ·rename_i y q;rw [q] at e;exact congrArg some e
 ·rename_i q;rw [q] at e
  have a:c.toList.any (·.refKey)=false:=by
   rw [List.any_eq_false];intro y d;obtain ⟨z,t,b⟩:=g y (Array.mem_toList_iff.mp d);simp [DictEntry.refKey,b]
  have i:¬c.toList.any (·.refKey)=true:=by rw [a];exact Z0v
  rw [Z0t i];exact congrArg some e
theorem D6m.look {x dx:Addr} (I:D6m h x dx C mA):∃od,PySem.W.InstAt h x (instObj C dx) C (some od)/\∀name,PySem.W.lookIn name od=some (mA name) :=
 let ⟨od,ho,hl⟩:=C8n I.ns
 (i02 od ⟨I.obj,rfl,rfl,ho⟩ hl)
section
variable {prog:Program} {w:World} {A:Around} {E:Value->Shared->Prop} {s:Shared} {K:Frag} {x dx C f:Addr} {mA:Str->Option Value} {name:Str} {v:Value}
theorem A6l {a:Bool} (X:K.In s.heap) (I:D6m s.heap x dx C mA) (g:plainGet K C name=true) (d:hasDictIn K C=true)
  (c:findIn K (.ref C) name=some none) (f:mA name=some v) (b:PySem.W.handedIn v=true) (h:Q v { s with toks:=s.toks+1 }) :
  wpAny (model prog w) A (getAttr (.ref x) name a) Q E s:=by
 obtain ⟨i,J,e⟩:=I.look;exact PySem.W.get_value X J (PySem.W.plainGet_of g).1 (PySem.W.findObj_own d c rfl (by rw [e,f])) b h
theorem D3a {Q:Value×List Value->Shared->Prop} (X:K.In s.heap) (I:D6m s.heap x dx C mA) (a:plainGet K C name=true)
  (d:findIn K (.ref C) name=some (some (.ref f))) (g:isFn K (.ref f)=true) (e:mA name=none) (h:Q (.ref f,[.ref x]) s) :
  wpAny (model prog w) A (getMethod (.ref x) name pl) Q E s:=by
 obtain ⟨c,J,b⟩:=I.look;exact PySem.W.method_fn X J (PySem.W.plainGet_of a).1 (PySem.W.plainGet_of a).2 d (beq_iff_eq.mp g) (by show (PySem.W.lookIn name c).map (·.isSome)=some false;rw [b,e];rfl) h
theorem D6r {ns:List Str} {Q:Unit->Shared->Prop} (X:K.In s.heap) (I:D6m s.heap x dx C mA)
  (t:findIn K (.ref C) "__setattr__"=some (some (.builtin "object.__setattr__"))) (n:plainOver K C=true) (o:PySem.W.takerIn K C name=some none) (l:hasDictIn K C=true)
  (m:PySem.Within mA ns) (hsz:ns.length<=sizeLine)
  (h:∀h',D6m h' x dx C (λy=>if y=name then some v else mA y)->Heap.SameBut dx s.heap h'->Q () { s with heap:=h',toks:=s.toks+2 }) :
  wpAny (model prog w) A (setAttr (.ref x) name v) Q E s:=by
 obtain ⟨u,J,B⟩:=I.look;refine PySem.W.set_plain X J t (PySem.W.osa_open (s:={ s with toks:=s.toks+1 }) (r:=none) X J n o λb=> ?_)
 obtain ⟨z,q,i⟩:=PySem.W.any_some l;have j:s.heap.get? x=some ⟨.ref C,some dx,.plain,#[]⟩:=I.obj;refine Z00 (Z04 (Z00 (Z00 (wpAny_loadPart j (Z00 (PySem.W.Looks.here (s:={ s with toks:=s.toks+1 }) (PySem.W.looks_clsIn X q) ?_))))));rw [i];refine Z04 (a:=some dx) (Z00 (Z04 (Z00 ?_)));refine wpAny_nsSet1 (s:={ s with toks:=s.toks+1 }) I.ns λh' c d=> ?_
 obtain ⟨D,k,p,f,e,g⟩:=c.count (PySem.Within.cons name v m);refine Z00 (wpAny_lookBehind f (by rw [e];exact pastItsLine_dict (Z1n g (by rw [Z0y];lia))) ?_);exact Z04 (h _ ⟨(d.2 _ (Ne.symm I.ne)).trans I.obj,c,I.ne⟩ d)
theorem D2z {vs:List Value} (X:K.In s.heap) (c:makesIn K C=true)
  (hi:findIn K (.ref C) "__init__"=some (some (.ref f))) (b:typeIn K (.ref f)=some (.type "function"))
  (h:codeAny (model prog w) (A.under (.builtin "type.__call__" ⟨.ref C::vs,kw⟩)) (.call (.ref f) ⟨.ref (s.heap.objs.size+1)::vs,kw⟩) (PySem.W.InitBack (s.heap.objs.size+1) R)
   { s with heap:=(s.heap.push emptyDict).push (instObj C s.heap.objs.size) }) :
  codeAny (model prog w) A (.call (.ref C) ⟨vs,kw⟩) R s:=by
 obtain ⟨e,g,d,t,i⟩:=s;exact PySem.W.make_core (PySem.W.makes_of X c) (PySem.W.looks_findIn X hi) (λa=>PySem.W.bind_fn X a b) (.inl rfl) h
end
def A4n (f:Str) (v:V):List (Str×V)->List (Str×V)
 | []=>[(f,v)]
 | (g,x)::r=>if g=f then (g,v)::r else (g,x)::A4n f v r
theorem B3c (f g:Str) (v:V):∀fs:List (Str×V),(A4n f v fs).lookup g=if g=f then some v else fs.lookup g
 | []=>by
  show List.lookup g [(f,v)]=_;by_cases h:g=f
  ·have a:(g == f)=true:=beq_iff_eq.mpr h;simp only [List.lookup,a,Z12 h]
  ·have a:(g == f)=false:=Z22.mpr h;simp only [List.lookup,a,Z0t h]
 | (k,x)::r=>by
  have b:=B3c f g v r;rw [show A4n f v ((k,x)::r)=(if k=f then (k,v)::r else (k,x)::A4n f v r) from rfl];by_cases hk:k=f
  ·rw [Z12 hk];by_cases h:g=k
   ·have a:(g == k)=true:=beq_iff_eq.mpr h;simp only [List.lookup,a,Z12 (h.trans hk)]
   ·have a:(g == k)=false:=Z22.mpr h;simp only [List.lookup,a,Z0t (λe:g=f=>h (e.trans hk.symm))]
  ·rw [Z0t hk];by_cases h:g=k
   ·have a:(g == k)=true:=beq_iff_eq.mpr h;simp only [List.lookup,a,Z0t (λe:g=f=>hk (h.symm.trans e))]
   ·have a:(g == k)=false:=Z22.mpr h;simp only [List.lookup,a];exact b
theorem B2z (f:Str) (v:V):∀fs:List (Str×V),f∈(A4n f v fs).map (·.1)/\∀g,g∈fs.map (·.1)->g∈(A4n f v fs).map (·.1)
 | []=>⟨by simp [A4n],λg h=>by simp at h⟩
 | (k,x)::r=>by
  obtain ⟨b,a⟩:=B2z f v r;rw [show A4n f v ((k,x)::r)=(if k=f then (k,v)::r else (k,x)::A4n f v r) from rfl];by_cases hk:k=f
  ·rw [Z12 hk];subst hk;exact ⟨by simp,λg h=>by simpa using h⟩
  ·rw [Z0t hk];refine ⟨?_,λg h=> ?_⟩
   ·rw [Z0p];exact Z1f _ b
   ·rw [Z0p] at h⊢;rcases Z0e.mp h with e | e
    ·exact Z0e.mpr (.inl e)
    ·exact Z1f _ (a g e)
theorem B3j (f:Str) (v:V):∀fs:List (Str×V),(A4n f v fs).length<=fs.length+1
 | []=>by simp [A4n]
 | (k,x)::r=>by
  have a:=B3j f v r;rw [show A4n f v ((k,x)::r)=(if k=f then (k,v)::r else (k,x)::A4n f v r) from rfl];by_cases hk:k=f
  ·rw [Z12 hk,Z0y,Z0y];lia
  ·rw [Z0t hk,Z0y,Z0y];lia
theorem B7r.some_of {v:V} (r:B7r (some v) o):∃u,o=some u/\A3c v u:=by
 cases o with
 | none=>exact (show False from r).elim
 | some u=>exact i02 u rfl r
theorem B7r.none_of (r:B7r none o):o=none:=by
 cases o with
 | none=>rfl
 | some u=>exact (show False from r).elim
theorem C8d {v:V} (r:A3c v u):PySem.W.handedIn u=true:=by
 cases v with
 | non=>cases (show u=Value.none from r);rfl
 | bl b=>cases (show u=Value.bool b from r);rfl
 | int i=>obtain ⟨t,e⟩:=(show∃t,u=Value.int i t from r);cases e;rfl
 | str x=>obtain ⟨t,e⟩:=(show∃t,u=Value.str x t from r);cases e;rfl
 | byt b=>obtain ⟨t,e⟩:=(show∃t,u=Value.bytes b t from r);cases e;rfl
 | flt b=>obtain ⟨t,e⟩:=(show∃t,u=Value.float b t from r);cases e;rfl
 | ref a=>cases (show u=Value.ref a from r);rfl
 | ty n=>cases (show u=Value.type n from r);rfl
section
variable {P:Program} {w:World} {H H':Hp} {h h':Heap} {a C dx:Addr} {fs fs':List (Str×V)}
theorem B3v (b:HOk P w H h) (e:H a=some (.ins C dx fs)):∃mA,D6m h a dx C mA/\(∀f,B7r (fs.lookup f) (mA f))/\PySem.Within mA (fs.map (·.1))/\fs.length<=1000/\H dx=some (.own a):=by
 obtain ⟨d,z,g,c,mA,n,r,q⟩:=(show A2q P w H h a (.ins C dx fs) from b a _ e);exact ⟨mA,(i09 ⟨c,n,g⟩ r q z d)⟩
end
structure Cls (K:Frag) (C:Addr):Prop where
 pg:plainGet K C Str.empty=true
 hd:hasDictIn K C=true
 po:plainOver K C=true
 sa:findIn K (.ref C) "__setattr__"=some (some (.builtin "object.__setattr__"))
theorem Cls.get (c:Cls K C) (f:Str):plainGet K C f=true:=c.pg
def A1m (K:Frag) (C:Addr) (f:Str):Prop:=findIn K (.ref C) f=some none
theorem A1m.taker {f:Str} (n:A1m K C f):PySem.W.takerIn K C f=some none:=by
 unfold PySem.W.takerIn;rw [show findIn K (.ref C) f=some none from n];rfl
structure C2y (K:Frag) (C:Addr) (m:Str) (f:Addr):Prop where
 at_:findIn K (.ref C) m=some (some (.ref f))
 fn:isFn K (.ref f)=true
 kp:keepIn K (.ref f)=true
section
variable {X:Cx} {pins:List (Addr×Obj)} {Z:St} {H:Hp} {s:Shared} {a C dx:Addr} {fs:List (Str×V)} {f:Str} {v:V} {A:Around} {E:Value->Shared->Prop}
theorem C4y {b:Bool} (I:Inv X pins Z H s) (e:H a=some (.ins C dx fs)) (c:Cls X.K C) (n:A1m X.K C f) (l:fs.lookup f=some v)
  (h:∀u s',Inv X pins Z H s'->A3c v u->Q u s'):wpAny (model X.prog X.w) A (getAttr (.ref a) f b) Q E s:=by
 obtain ⟨g,O,r,_,_,_⟩:=B3v I.hok e;obtain ⟨u,i,d⟩:=B7r.some_of (v:=v) (o:=g f) (by rw [<-l];exact r f);exact A6l I.kIn O (c.get f) c.hd n i (C8d d) (h u _ (I.tok _) d)
theorem B0v {m:Str} {g:Addr} {Q:Value×List Value->Shared->Prop} (I:Inv X pins Z H s) (e:H a=some (.ins C dx fs)) (c:Cls X.K C) (k:C2y X.K C m g) (l:fs.lookup m=none)
  (h:Q (.ref g,[.ref a]) s):wpAny (model X.prog X.w) A (getMethod (.ref a) m pl) Q E s:=by
 obtain ⟨b,O,r,_,_,_⟩:=B3v I.hok e;have d:b m=none:=B7r.none_of (by rw [<-l];exact r m);exact D3a I.kIn O (c.get m) k.at_ k.fn d h
theorem C5g {y:V} {Q:Unit->Shared->Prop} (I:Inv X pins Z H s) (e:H a=some (.ins C dx fs)) (c:Cls X.K C) (n:A1m X.K C f) (D:fs.length<1000) (l:A3c y u)
  (h:∀s',Inv X pins Z (upd H a (.ins C dx (A4n f y fs))) s'->Q () s'):wpAny (model X.prog X.w) A (setAttr (.ref a) f u) Q E s:=by
 obtain ⟨d,O,r,j,_,i⟩:=B3v I.hok e;have t:(fs.map (·.1)).length<=sizeLine:=by rw [Z08,sizeLine_eq];lia
 refine D6r I.kIn O c.sa c.po n.taker c.hd j t λv O' B=>h _ ?_;have k:∃o,v.get? dx=some o:=let ⟨o,_,_,e',_⟩:=O'.ns;⟨o,e'⟩;refine I.write (x:=a) (e:=dx) (by rw [e];exact True.intro) (.inr i) (λb q m z=>(B.2 b m).trans z) k ?_;refine i09 (by rw [A0i O.ne];exact i) ?_ O.ne O'.obj (i06 _ O'.ns (λg=> ?_) λg p=> ?_)
 ·have:=B3j f y fs;lia
 ·show B7r ((A4n f y fs).lookup g) (if g=f then some u else d g);rw [B3c];by_cases q:g=f
  ·rw [Z12 q,Z12 q];exact l
  ·rw [Z0t q,Z0t q];exact r g
 ·by_cases q:g=f
  ·rw [q];exact (B2z f y fs).1
  ·refine (B2z f y fs).2 g (j g λz=>p ?_);show (if g=f then some u else d g)=none;rw [Z0t q];exact z
theorem Inv.made (I:Inv X pins Z H s):Inv X pins Z (upd (upd H s.heap.objs.size (.own (s.heap.objs.size+1))) (s.heap.objs.size+1) (.ins C s.heap.objs.size []))
  { s with heap:=(s.heap.push emptyDict).push (instObj C s.heap.objs.size) }:=by
 have c:(s.heap.push emptyDict).get? s.heap.objs.size=some emptyDict:=Z0c s.heap rfl
 have h:((s.heap.push emptyDict).push (instObj C s.heap.objs.size)).get? (s.heap.objs.size+1)=some (instObj C s.heap.objs.size):=by
  have:=Z0c (s.heap.push emptyDict) (o:=instObj C s.heap.objs.size) rfl
  rwa [Z1s] at this
 have i:(s.heap.push emptyDict).Ns s.heap.objs.size (λ_=>none):=(i0r emptyDict (#[]) _ c rfl (λe f=>absurd f (by simp)) λ_=>rfl);have I1:=I.laid (a:=s.heap.objs.size) (o:= .own (s.heap.objs.size+1)) (h':=s.heap.push emptyDict) (t':=s.toks) (λb u q=>Z01 _ q) (Z09 _) ⟨_,c⟩;refine I1.laid (a:=s.heap.objs.size+1) (o:= .ins C s.heap.objs.size []) (t':=s.toks) (λb u q=>Z01 _ q) (Nat.le_of_eq (Z1s _ _)) ?_;have d:s.heap.objs.size≠s.heap.objs.size+1:=Z0h (Nat.lt_succ_self _);refine i09 (by rw [A0i d,A0b]) (Z1e _) d h (i06 (λ_=>none) ((Heap.Ns1.of_empty i).at λo q=>Z01 _ q) (λ_=>True.intro) λy g=>absurd rfl g)
theorem D6c {prog:Program} {a:Env} {e:Expr} {f:Str} (b:attributeBase e f a (eval e a)=eval e a)
  (h:wpAny (model prog w) A (eval e a) (λo s₁=>wpAny (model prog w) A (getAttr o f true) Q E s₁) E s):wpAny (model prog w) A (eval (.Attribute e f pos) a) Q E s :=
 Attribute_any_ h (by rw [arm_eval_Attribute,b])
end
def tFld (K:Frag) (ta:TE) (f:Str):TE:=λZ H Q=>ta Z H λx c=>∃a C d b v,x= .ref a/\c a=some (.ins C d b)/\Cls K C/\A1m K C f/\b.lookup f=some v/\Q v c
def sFld (K:Frag) (ta tv:TE) (f:Str):TS:=λD Z H=>tv Z H λy e=>ta Z e λx d=>∃a C c b,x= .ref a/\d a=some (.ins C c b)/\Cls K C/\A1m K C f/\b.length<1000/\
 D.nx Z (upd d a (.ins C c (A4n f y b)))
section
variable {X:Cx} {o e value:Expr} {f:Str} {pos pos' tpos:Pos} {ta tv:TE}
theorem A1c (g:PE X e ta) (j:attributeBase e f X.env (eval e X.env)=eval e X.env):PE X (.Attribute e f pos) (tFld X.K ta f):=by
 intro b s Z H Q I h;refine D6c j (thn (g b s Z H _ I h) ?_);rintro u y d;refine e0b d ?_;clear d;rintro x i I1 k a C w ⟨r,v,m,o,c,n,l,q⟩;subst m;obtain rfl:u=Value.ref a:=k;exact C4y I1 o c n l λt z I2 p=>(i0f v i I2 p q)
theorem A2d (r:PE X o ta) (m:PE X value tv) (k:swapsWith value (some (.Attribute o f pos')) pos.line X.env=pure false):PS X (.Assign [.Attribute o f pos'] value pos) (sFld X.K ta tv f):=by
 intro b s Z H D I h;refine plainObj_wpAny_Assign_Attribute (thn (m b s Z H _ I h) ?_) k;rintro u j ⟨y,p,I1,e,q⟩;refine thn (r b j Z p _ I1 q) ?_;rintro i F ⟨x,B,I2,g,a,C,z,w,t,v,c,n,l,d⟩;subst t;obtain rfl:i=Value.ref a:=g;exact C5g I2 v c n l e λA I3=>(i07 Z _ I3 d)
end
section
variable {X:Cx} {pins:List (Addr×Obj)} {Z:St} {H:Hp} {s:Shared} {A:Around} {E:Value->Shared->Prop} {Q:Value->Shared->Prop} {c:Value} {b:Bool}
inductive A8a (K:Frag) (H:Hp):V->Value->Prop where
 | non:A8a K H .non (.type "NoneType")
 | bl (x:Bool):A8a K H (.bl x) (.type "bool")
 | int (i:Int):A8a K H (.int i) (.type "int")
 | str (x:Str):A8a K H (.str x) (.type "str")
 | flt (x:UInt64):A8a K H (.flt x) (.type "float")
 | lst {a:Addr} {xs:List V} (e:H a=some (.lst xs)):A8a K H (.ref a) (.type "list")
 | frz {a:Addr} {o:Obj} {xs:List V} (e:H a=some (.frz o (.lst xs))):A8a K H (.ref a) (.type "list")
 | tup {a:Addr} {xs:List V} (e:H a=some (.tup xs)):A8a K H (.ref a) (.type "tuple")
 | dK {a:Addr} {kvs:List (Key×V)} (e:H a=some (.dK kvs)):A8a K H (.ref a) (.type "dict")
 | dT {a:Addr} {kvs:List (List Key×V)} (e:H a=some (.dT kvs)):A8a K H (.ref a) (.type "dict")
 | ins {a C dx:Addr} {fs:List (Str×V)} (e:H a=some (.ins C dx fs)) (cl:Cls K C) (ha:findIn K (.ref C) "__class__"=some (some (.builtin "object.__class__")))
   (hn:specialIn K (.builtin "object.__class__") "__get__"=some (some (.builtin "getset_descriptor.__get__"))) (htk:takesIn K (.builtin "object.__class__")=some true)
   (hm:mroIn K C (.type "object")=some true):A8a K H (.ref a) (.ref C)
theorem C9v {x:V} {t:Value} (I:Inv X pins Z H s) (d:A3c x u) (ty:A8a X.K H x t) (e:kitOne X.K t c=some b) (h:∀tk,Q (.bool b) { s with toks:=tk }) :
  wpAny (model X.prog X.w) A (call (.builtin "isinstance") [u,c]) Q E s:=by
 cases ty with
 | non=>cases (show u=Value.none from d);exact PySem.W.kia_one PySem.W.kitx_none I.kIn True.intro e (λz=>nomatch z) h
 | bl y=>cases (show u=Value.bool y from d);exact PySem.W.kia_one PySem.W.kitx_bool I.kIn True.intro e (λz=>nomatch z) h
 | int i=>obtain ⟨t,q⟩:=(show∃t,u=Value.int i t from d);cases q;exact PySem.W.kia_one PySem.W.kitx_int I.kIn True.intro e (λz=>nomatch z) h
 | str y=>obtain ⟨t,q⟩:=(show∃t,u=Value.str y t from d);cases q;exact PySem.W.kia_one PySem.W.kitx_str I.kIn True.intro e (λz=>nomatch z) h
 | flt y=>obtain ⟨t,q⟩:=(show∃t,u=Value.float y t from d);cases q;exact PySem.W.kia_one PySem.W.kitx_float I.kIn True.intro e (λz=>nomatch z) h
 | @lst a g ea =>
  cases (show u=Value.ref a from d)
  obtain ⟨_,_,n,_,f⟩:=(show A2q X.prog X.w H s.heap a (.lst g) from I.hok a _ ea);exact PySem.W.kia_one PySem.W.kitx_list I.kIn (i02 _ f rfl) e (λz=>nomatch z) h
 | @frz a ob g ea =>
  cases (show u=Value.ref a from d)
  obtain ⟨_,_,_,n,_,f⟩:=(show A2q X.prog X.w H s.heap a (.frz ob (.lst g)) from I.hok a _ ea);exact PySem.W.kia_one PySem.W.kitx_list I.kIn (i02 _ f rfl) e (λz=>nomatch z) h
 | @tup a g ea =>
  cases (show u=Value.ref a from d)
  obtain ⟨_,_,_,p⟩:=(show A2q X.prog X.w H s.heap a (.tup g) from I.hok a _ ea);obtain ⟨o,f,j,_⟩:=p;exact PySem.W.kia_one PySem.W.kitx_tuple I.kIn (i02 o f j) e (λz=>nomatch z) h
 | @dK a kvs ea =>
  cases (show u=Value.ref a from d)
  obtain ⟨_,_,v,_,p⟩:=(show A2q X.prog X.w H s.heap a (.dK kvs) from I.hok a _ ea);obtain ⟨o,l,k,f,j,_⟩:=p;exact PySem.W.kia_one PySem.W.kitx_dict I.kIn (i02 o f j.1) e (λz=>nomatch z) h
 | @dT a kvs ea =>
  cases (show u=Value.ref a from d)
  obtain ⟨_,_,g,_,o,l,k,f,j,_⟩:=(show A2q X.prog X.w H s.heap a (.dT kvs) from I.hok a _ ea);exact PySem.W.kia_one PySem.W.kitx_dict I.kIn (i02 o f j.1) e (λz=>nomatch z) h
 | @ins a C dx fs ea cl ha hn htk hm =>
  cases (show u=Value.ref a from d)
  obtain ⟨r,O,_⟩:=B3v I.hok ea;obtain ⟨m,J,_⟩:=O.look;exact PySem.W.kia_one (PySem.W.kitx_own (cl.get _) cl.hd ha hn htk hm) I.kIn J e (λz=>nomatch z) h
end
structure B0r (k:Nat) (A:Around):Prop where
 hd:A.handled=none
 dp:A.depth+3*k+5<recursionLimit
 un:A.units+16*k+200<cLine
 gd:A.guards=some []
theorem B0r.mono {j k:Nat} (r:B0r k A) (h:j<=k):B0r j A:=⟨r.hd,by have:=r.dp;lia,by have:=r.un;lia,r.gd⟩
theorem B0r.deeper {k:Nat} (r:B0r (k+1) A) (a:Env):B0r k (A.deeper a) :=
 ⟨r.hd,by have:=r.dp;show A.depth+1+3*k+5<_;lia,by have:=r.un;show A.units+3+16*k+200<_;lia,r.gd⟩
theorem C5t:(A.under (.builtin "type.__call__" ⟨.ref C::us,kw⟩)).depth=A.depth+1:=by
 first | rfl | simp [Around.under,Code.weight,Code.isCreation,Code.isGuard,Code.isCaller,Code.frames,Code.isFrame,guardIds]
theorem C4m:(A.under (.builtin "type.__call__" ⟨.ref C::us,kw⟩)).units=A.units+1:=by
 first | rfl | simp [Around.under,Code.cUnits,Code.frames,Code.isFrame]
theorem C0s:(A.under (.builtin "type.__call__" ⟨.ref C::us,kw⟩)).guards=A.guards:=by
 show pushGuards (Code.guards (.builtin "type.__call__" ⟨.ref C::us,kw⟩)) A.guards=A.guards;have h:Code.isGuard (.builtin "type.__call__" ⟨.ref C::us,kw⟩)=false:=by first | rfl | (simp [Code.isGuard,guardIds]) | decide
 unfold Code.guards;rw [h];cases A.guards <;> rfl
theorem B0r.make {k:Nat} (r:B0r (k+1) A) (C:Addr) (us:List Value) (kw:List (Str×Value)):B0r k (A.under (.builtin "type.__call__" ⟨.ref C::us,kw⟩)) :=
 ⟨r.hd,by have:=r.dp;rw [C5t];lia,by have:=r.un;rw [C4m];lia,by rw [C0s];exact r.gd⟩
theorem B0r.depth {k:Nat} (r:B0r k A):A.depth<recursionLimit:=by have:=r.dp;lia
theorem B0r.units {k:Nat} (r:B0r k A):A.units+64<cLine:=by have:=r.un;lia
def E4q:TA:=λ_ H Q=>Q [] H
def E3h (ta:TE) (tr:TA):TA:=λZ H Q=>ta Z H λx c=>tr Z c λb a=>Q (x::b) a
section
variable {X:Cx} {e:Expr} {es:List Expr} {te:TE} {t:TA} {pos:Pos}
theorem A0c:PA X [] E4q:=λ_ _ _ _ H Q I h=>Calls.spliced_nil (i0f [] H I .nil h)
theorem A0a (k:PE X e te) (c:PA X es t) (o:starEach (e::es) X.env=(false,eval e X.env)::starEach es X.env:=by rfl):PA X (e::es) (E3h te t):=by
 intro b a s Z H Q I h;rw [o];show wpAny _ _ (spliced ((false,eval e X.env)::backTo b (starEach es X.env))) _ _ s;refine Calls.spliced_cons (thn (k a s Z H _ I h) ?_);rintro u l ⟨x,g,I1,j,n⟩;exact thn (c b a l Z g _ I1 n) (by rintro p q ⟨d,f,I2,m,i⟩;exact i0f (x::d) f I2 (.cons j m) i)
def tTup (t:TA):TE:=λZ H Q=>t Z H λa b=>a.length<=sizeLine/\∀p,b p=none->Q (.ref p) (upd b p (.tup a))
def tLst (t:TA):TE:=λZ H Q=>t Z H λa b=>a.length<=sizeLine/\∀p,b p=none->Q (.ref p) (upd b p (.lst a))
theorem A1z {x1} (h:PA X es t):PE X (.Tuple es x1 pos) (tTup t):=by
 intro a s Z H Q I j;refine wpAny_Tuple_spliced (thn (h pos a s Z H _ I j) λi c ⟨f,d,I1,r,z,q⟩=>⟨by rw [<-r.length];exact z,?_⟩);have g:d c.heap.objs.size=none:=I1.hok.fresh (Z09 _);refine i0f (.ref c.heap.objs.size) (upd d c.heap.objs.size (.tup f)) (I1.laid (t':=c.toks) (λb u e=>Z01 _ e) (Z09 _) ?_) rfl (q _ g);exact i05 z i r (i0d _ (Z0c _ rfl) rfl _ rfl)
theorem A1r (h:PA X es t):PE X (.List es pos) (tLst t):=by
 intro a s Z H Q I j;refine wpAny_List_spliced (thn (h pos a s Z H _ I j) λi c ⟨f,d,I1,r,z,q⟩=>⟨by rw [<-r.length];exact z,?_⟩);have g:d c.heap.objs.size=none:=I1.hok.fresh (Z09 _);refine i0f (.ref c.heap.objs.size) (upd d c.heap.objs.size (.lst f)) (I1.laid (t':=c.toks) (λb u e=>Z01 _ e) (Z09 _) ?_) rfl (q _ g);exact i0b z i 0 r (Z0c _ rfl)
end
abbrev Sp:=List V->Hp->VK->XK->Prop
abbrev CXT:=List Env->Hp->Shared->XK->Value->Shared->Prop
structure D5o (P:Program) (w:World) (K:Frag) (mg:Str->Option Value) (base:Heap) (A:Around) (outer:List Env) (s:Shared) (H:Hp):Prop where
 frames:A.frames=some outer
 mod:Mod K mg base
 bs:∀b o,base.get? b=some o->s.heap.get? b=some o/\H b=none
 bsz:base.objs.size<=s.heap.objs.size
 funs:s.heap.FunFrames base outer
 frf:∀b∈frs outer,H b=none
 hok:HOk P w H s.heap
 bare:AllBare s.gens
def CE (outer:List Env) (P:Program) (w:World) (H:Hp) (s:Shared) (Q:VK) (u:Value) (s':Shared):Prop :=
 ∃v a,s'.os=s.os/\AllBare s'.gens/\Un (frs outer) [] H a s.heap s'.heap/\HOk P w a s'.heap/\A3c v u/\Q v a
def CR (CX:CXT) (outer:List Env) (P:Program) (w:World) (H:Hp) (s:Shared) (Q:VK) (E:XK) (r:Result) (s':Shared):Prop :=
 match r with
 | .ok (.ret u)=>CE outer P w H s Q u s'
 | .ok _=>False
 | .error e=>CX outer H s E e s'
structure A3h (P:Program) (w:World) (K:Frag) (mg:Str->Option Value) (base:Heap) (CX:CXT) (k:Nat) (f:Addr) (fd:FuncData) (ps:List Str) (sp:Sp):Prop where
 len:∀vs H Q E,sp vs H Q E->vs.length=ps.length
 run:∀(A:Around) (outer:List Env) (s:Shared) (H:Hp) (args:Args) (us:List Value) (vs:List V) (Q:VK) (E:XK),B0r k A->D5o P w K mg base A outer s H->BindsTo s fd args (ps.zip us)->A3z vs us->sp vs H Q E->
  codeAny (model P w) A (.call (.ref f) args) (CR CX outer P w H s Q E) s
theorem A3h.mono {j k:Nat} {f:Addr} {sp:Sp} (F:A3h P w K mg base CX j f fd ps sp) (h:j<=k) :
  A3h P w K mg base CX k f fd ps sp:=⟨F.len,λA a s H b e d Q E c=>F.run A a s H b e d Q E (c.mono h)⟩
theorem D5o.make (e:D5o P w K mg base A outer s H) (C:Addr) (us:List Value) (kw:List (Str×Value)) :
  D5o P w K mg base (A.under (.builtin "type.__call__" ⟨.ref C::us,kw⟩)) outer s H:=⟨by first | exact e.frames | (simpa [Around.under,Code.envs,Code.isFrame,pushEnvs] using e.frames),e.mod,e.bs,e.bsz,e.funs,e.frf,e.hok,e.bare⟩
section
variable {X:Cx} {pins:List (Addr×Obj)} {Z:St} {H:Hp} {s s':Shared}
theorem Inv.env0 (I:Inv X pins Z H s):D5o X.prog X.w X.K X.mg X.base X.A X.stack s H :=
 ⟨I.ok.frames,I.ok.mod,I.bs,Z1n I.ok.bsz I.sz,I.stack,I.stkFree,I.hok,I.bare⟩
theorem Inv.after {Q:VK} (I:Inv X pins Z H s) (h:CE X.stack X.prog X.w H s Q u s'):EP X pins Z Q u s':=by
 obtain ⟨v,k,j,a,f,c,r,q⟩:=h;obtain ⟨i,g,d,t,e⟩:=s';obtain rfl:e=s.os:=j;exact i0f v k (I.call (h':=i) (g':=g) (d':=d) (t':=t) (ch:=[]) f c a (λb z=>absurd z (by simp))) r q
end
def D9w (sp:Sp) (dvs:List V) (E:XK) (t:TA):TE:=λZ H Q=>t Z H λb a=>sp (b++dvs) a Q E
def D9x (C:Addr) (m:Str) (sp:Sp) (dvs:List V) (E:XK) (ta:TE) (t:TA):TE:=λZ H Q=>ta Z H λx c=>∃a d b,x= .ref a/\c a=some (.ins C d b)/\b.lookup m=none/\
 t Z c λf e=>sp (x::(f++dvs)) e Q E
def E1a (C:Addr) (sp:Sp) (dvs:List V) (E:XK) (t:TA):TE:=λZ H Q=>t Z H λd b=>∀x a,b x=none->b a=none->a≠x->
 sp (.ref x::(d++dvs)) (upd (upd b a (.own x)) x (.ins C a [])) (λv c=>v= .non/\Q (.ref x) c) E
def A9b (K:Frag) (fd:FuncData) (ps:List Str) (ds:List Value):Prop :=
 ∀(s:Shared) (a:List Value),K.In s.heap->(a++ds).length=ps.length->BindsTo s fd ⟨a,[]⟩ (ps.zip (a++ds))
theorem A9b.all (h:∀us:List Value,us.length=ps.length->bindArgs fd ⟨us,[]⟩=pure (ps.zip us)):A9b K fd ps []:=λs us _ a=>by
 rw [Z0u] at a⊢;exact .of_eq (h us a)
def B3t (CX:CXT) (X:Cx) (E:XK):Prop:=∀(a:List (Addr×Obj)) (Z:St) (H:Hp) (s:Shared) (e:Value) (b:Shared),Inv X a Z H s->CX X.stack H s E e b->X.xe e b
section
variable {X:Cx} {CX:CXT} {k:Nat} {f C:Addr} {fd:FuncData} {ps:List Str} {sp:Sp} {dvs:List V} {ds:List Value} {E:XK} {x m:Str} {p pos apos:Pos} {e o:Expr} {es:List Expr} {ta:TE} {t:TA}
theorem C3k {Q:VK} (F:A3h X.prog X.w X.K X.mg X.base CX k f fd ps sp) (c:B0r k X.A) (l:A9b X.K fd ps ds) (j:A3z dvs ds) (d:B3t CX X E)
  (I:Inv X pins Z H s) (r:A3z vs us) (h:sp (vs++dvs) H Q E):wpAny (model X.prog X.w) X.A (call (.ref f) us) (EP X pins Z Q) X.xe s:=by
 have b:A3z (vs++dvs) (us++ds):=r.append j;have g:(us++ds).length=ps.length:=by rw [<-b.length];exact F.len _ _ _ _ h
 refine wpAny_call (codeAny_mono (F.run X.A X.stack s H ⟨us,[]⟩ (us++ds) (vs++dvs) Q E c I.env0 (l s us I.kIn g) b h) λr i a=> ?_)
 cases r with
 | error e=>exact d pins Z H s e i I a
 | ok fl =>
  cases fl with
  | ret u=>exact I.after a
  | next=>exact False.elim a
  | brk=>exact False.elim a
  | cont=>exact False.elim a
theorem D5i (F:A3h X.prog X.w X.K X.mg X.base CX k f fd ps sp) (d:B0r k X.A) (m:Gl X x) (u:X.mg x=some (.ref f)) (n:keepIn X.K (.ref f)=true) (l:A9b X.K fd ps ds) (j:A3z dvs ds) (i:B3t CX X E)
  (o:PA X (e::es) t) (c:(x == ("__debug__":Str))=false:=by decide) (g:starEach (e::es) X.env=(false,eval e X.env)::starEach es X.env:=by rfl) (b:(backTo pos (starEach es X.env)).any (·.1)=false:=by rfl) :
  PE X (.Call (.Name x p) (e::es) [] pos) (D9w sp dvs E t):=by
 intro a s Z H Q I h;refine wpAny_Call_Name_kw (C0r I m u ?_ c);refine PySem.W.callWith_K (h₀:=X.base) I.ok.mod.kin n (thn (o pos a s Z H _ I h) λy B ⟨z,v,I1,r,q⟩=>⟨I1.kIn,?_⟩) g b;exact C3k F d l j i I1 r q
theorem B4a (B:PE X o ta) (c:Cls X.K C) (i:C2y X.K C m f) (F:A3h X.prog X.w X.K X.mg X.base CX k f fd ps sp) (j:B0r k X.A) (G:A9b X.K fd ps ds) (p:A3z dvs ds) (z:B3t CX X E) (J:PA X (e::es) t)
  (d:starEach (e::es) X.env=(false,eval e X.env)::starEach es X.env:=by rfl) (g:(backTo pos (starEach es X.env)).any (·.1)=false:=by rfl)
  (N:eval (.Call (.Attribute o m apos) (e::es) [] pos) X.env=(do
   let ov<-eval o X.env
   standAt apos.atName
   let (f,first)<-holding [ov] (getMethod ov m pl)
   callWith pos f first (backTo pos (starEach (e::es) X.env)) (backToKw pos (keywordEach [] X.env))):=by rfl) :
  PE X (.Call (.Attribute o m apos) (e::es) [] pos) (D9x C m sp dvs E ta t):=by
 intro b s Z H Q I h;refine PySem.W.methodCall_KW (pl:=pl) (thn (B b s Z H _ I h) ?_) N;rintro u y ⟨x,D,I1,v,a,P,O,L,M,l,q⟩;subst L;obtain rfl:u=Value.ref a:=v;refine B0v I1 M c i l ?_;refine PySem.W.callWith_K (first:=[.ref a]) (h₀:=X.base) I.ok.mod.kin i.kp (thn (J pos b y Z D _ I1 q) λus S ⟨vs,R,I2,r,n⟩=>⟨I2.kIn,?_⟩) d g;exact C3k (us:= .ref a::us) (vs:= .ref a::vs) F j G p z I2 (.cons rfl r) n
theorem D2a (i:PE X o ta) (c:Cls X.K C) (d:C2y X.K C m f) (F:A3h X.prog X.w X.K X.mg X.base CX k f fd ps sp) (e:B0r k X.A) (n:A9b X.K fd ps ds) (j:A3z dvs ds) (g:B3t CX X E)
  (v:eval (.Call (.Attribute o m apos) [] [] pos) X.env=(do
   let ov<-eval o X.env
   standAt apos.atName
   let (f,first)<-holding [ov] (getMethod ov m pl)
   callWith pos f first (backTo pos (starEach [] X.env)) (backToKw pos (keywordEach [] X.env))):=by rfl) :
  PE X (.Call (.Attribute o m apos) [] [] pos) (D9x C m sp dvs E ta E4q):=by
 intro b s Z H Q I h;refine PySem.W.methodCall_KW (pl:=pl) (thn (i b s Z H _ I h) ?_) v;rintro u D ⟨x,z,I1,p,a,B,y,r,t,l,q⟩;subst r;obtain rfl:u=Value.ref a:=p;refine B0v I1 t c d l ?_;exact PySem.W.callWith_K0 (first:=[.ref a]) I1.kIn d.kp (C3k (us:=[.ref a]) (vs:=[.ref a]) F e n j g I1 (.cons rfl .nil) q)
structure Mk (K:Frag) (C f:Addr):Prop where
 makes:makesIn K C=true
 init:findIn K (.ref C) "__init__"=some (some (.ref f))
 fn:isFn K (.ref f)=true
 kp:keepIn K (.ref C)=true
theorem D3h {Q:VK} (M:Mk X.K C f) (F:A3h X.prog X.w X.K X.mg X.base CX k f fd ps sp) (d:B0r (k+1) X.A) (n:A9b X.K fd ps ds) (m:A3z dvs ds)
  (g:B3t CX X E) (I:Inv X pins Z H s) (r:A3z vs us)
  (h:∀x dx,H x=none->H dx=none->dx≠x->sp (.ref x::(vs++dvs)) (upd (upd H dx (.own x)) x (.ins C dx [])) (λv H2=>v= .non/\Q (.ref x) H2) E) :
  wpAny (model X.prog X.w) X.A (call (.ref C) us) (EP X pins Z Q) X.xe s:=by
 have b:=h (s.heap.objs.size+1) s.heap.objs.size (I.hok.fresh (Nat.le_succ _)) (I.hok.fresh (Z09 _)) (Z0h (Nat.lt_succ_self _));have I2:=Inv.made (C:=C) I;have c:A3z (V.ref (s.heap.objs.size+1)::(vs++dvs)) (Value.ref (s.heap.objs.size+1)::(us++ds)):= .cons rfl (r.append m)
 have i:(Value.ref (s.heap.objs.size+1)::us++ds).length=ps.length:=by
  have e:=c.length;rw [F.len _ _ _ _ b] at e;exact e.symm
 refine wpAny_call (D2z (f:=f) I.kIn M.makes M.init (beq_iff_eq.mp M.fn) (codeAny_mono (F.run _ X.stack _ _ ⟨Value.ref (s.heap.objs.size+1)::us,[]⟩ (Value.ref (s.heap.objs.size+1)::(us++ds)) _ _ E (d.make C us [])
  (I2.env0.make C us []) (n _ (Value.ref (s.heap.objs.size+1)::us) I2.kIn i) c b) λr j a=> ?_))
 cases r with
 | error e=>exact g pins Z _ _ e j I2 a
 | ok fl =>
  cases fl with
  | ret u =>
   obtain ⟨v,l,I3,p,o,q⟩:=I2.after a;subst o;exact i0i p (V.ref (s.heap.objs.size+1)) l I3 rfl q
  | next=>exact False.elim a
  | brk=>exact False.elim a
  | cont=>exact False.elim a
theorem D6a (M:Mk X.K C f) (F:A3h X.prog X.w X.K X.mg X.base CX k f fd ps sp) (d:B0r (k+1) X.A) (m:Gl X x) (o:X.mg x=some (.ref C)) (l:A9b X.K fd ps ds) (j:A3z dvs ds) (g:B3t CX X E)
  (n:PA X (e::es) t) (c:(x == ("__debug__":Str))=false:=by decide) (i:starEach (e::es) X.env=(false,eval e X.env)::starEach es X.env:=by rfl) (b:(backTo pos (starEach es X.env)).any (·.1)=false:=by rfl) :
  PE X (.Call (.Name x p) (e::es) [] pos) (E1a C sp dvs E t):=by
 intro a s Z H Q I h;refine wpAny_Call_Name_kw (C0r I m o ?_ c);refine PySem.W.callWith_K (h₀:=X.base) I.ok.mod.kin M.kp (thn (n pos a s Z H _ I h) λv z ⟨y,u,I1,r,q⟩=>⟨I1.kIn,?_⟩) i b;exact D3h M F d l j g I1 r q
end
section
variable {X:Cx} {CX:CXT} {k:Nat} {f C:Addr} {fd:FuncData} {ps ks:List Str} {sp:Sp} {E:XK} {x m:Str} {p pos apos kpos:Pos} {e o:Expr} {es:List Expr} {kws:List Keyword} {te ta:TE} {t tk:TA} {nm:Option Str}
variable {g:List Value->List Value->List Value} {gV:List V->List V->List V}
end
structure A0w (N P:List Str) (sc:Scope):Prop where
 kind:sc.kind= .function
 co:sc.isCoroutine=false
 gen:sc.isGenerator=false
 nd:N.Nodup
 pre:N.take P.length=P
 par:∀x∈P,sc.names.lookup x=some .local\/sc.names.lookup x=some .cell
 nofree:∀y∈sc.names,y.2≠.free
theorem B8p {b:Str->Option NameKind} {x:Str}:∀{a:List (Str×Value)} {m:Str->Option Value},(∀v,(x,v)∉a)->bindL b a m x=m x
 | [],_,_=>rfl
 | (n,v)::r,m,h=>by
  unfold bindL;rw [B8p λw c=>h w (Z1f _ c)];split
  ·have:x≠n:=by rintro rfl;exact h v Z27
   simp [this]
  ·rfl
theorem B9y {b:Str->Option NameKind} {x:Str}:∀{a:List (Str×Value)} {m:Str->Option Value},(∀v,(x,v)∉a)->bindC b a m x=m x
 | [],_,_=>rfl
 | (n,v)::r,m,h=>by
  unfold bindC;rw [B9y λw c=>h w (Z1f _ c)];split
  ·rfl
  ·have:x≠n:=by rintro rfl;exact h v Z27
   simp [this]
theorem B8l {a:Str->Option NameKind} {x:Str} {v:Value}:∀{P:List Str} {vs:List Value} {i:Nat} {m:Str->Option Value},P.Nodup->P[i]? =some x->vs[i]? =some v->a x=some .local->
  bindL a (P.zip vs) m x=some v
 | [],_,_,_,_,h,_,_=>by simp at h
 | _::_,[],_,_,_,_,h,_=>by simp at h
 | p::P,w::vs,0,m,nd,h1,h2,hk=>by
  simp at h1 h2;subst h1;subst h2;show bindL a ((p,w)::P.zip vs) m p=_;unfold bindL;rw [B8p λv b=>(Z15.mp nd).1 (List.of_mem_zip b).1,Z12 hk];simp
 | p::P,w::vs,i+1,m,nd,h1,h2,hk=>by
  show bindL a ((p,w)::P.zip vs) m x=_;unfold bindL;exact B8l (i:=i) (Z15.mp nd).2 (by simpa using h1) (by simpa using h2) hk
theorem B8c {a:Str->Option NameKind} {x:Str} {v:Value}:∀{P:List Str} {vs:List Value} {i:Nat} {m:Str->Option Value},P.Nodup->P[i]? =some x->vs[i]? =some v->a x≠some .local->
  bindC a (P.zip vs) m x=some v
 | [],_,_,_,_,h,_,_=>by simp at h
 | _::_,[],_,_,_,_,h,_=>by simp at h
 | p::P,w::vs,0,m,nd,h1,h2,hk=>by
  simp at h1 h2;subst h1;subst h2;show bindC a ((p,w)::P.zip vs) m p=_;unfold bindC;rw [B9y λv b=>(Z15.mp nd).1 (List.of_mem_zip b).1,Z0t hk];simp
 | p::P,w::vs,i+1,m,nd,h1,h2,hk=>by
  show bindC a ((p,w)::P.zip vs) m x=_;unfold bindC;exact B8c (i:=i) (Z15.mp nd).2 (by simpa using h1) (by simpa using h2) hk
def B8s (N:List Str) (vs:List V):St:=vs.map some++List.replicate (N.length-vs.length) none
def D8j (CX:CXT) (P:Program) (w:World) (K:Frag) (mg:Str->Option Value) (base:Heap) (N:List Str) (qual:Str) (scope:Scope) (f:Addr) (cd:Value) (A:Around) (outer:List Env) (s:Shared) (H:Hp) (E:XK):Cx where
 prog:=P
 w:=w
 K:=K
 mg:=mg
 base:=base
 A:=A.deeper (envOfC qual scope s.heap.objs.size f cd)
 N:=N
 s₀:=s
 H₀:=H
 env:=envOfC qual scope s.heap.objs.size f cd
 outer:=outer
 stack:=envOfC qual scope s.heap.objs.size f cd::outer
 ex:=[]
 calm:=true
 fn:=λ_=>true
 pn:=[]
 xe:=λe c=>wpAny (model P w) (A.deeper (envOfC qual scope s.heap.objs.size f cd)) (leaving (envOfC qual scope s.heap.objs.size f cd) e) (λ_ a=>CX outer H s E e a) (λb a=>CX outer H s E b a) c
theorem C2m {sc:Scope} {n:Nat} {x:Str} (h:sc.names.lookup x=some .cell):∃c,(cellsFrom n sc.names []).lookup x=some c:=by
 have q:=PySem.W.cellsFrom_some sc.names n [] (.inl h);exact Option.isSome_iff_exists.mp q
theorem D0v {N:List Str} {qual:Str} {f:Addr} {cd:Value} {s1:Shared} {E:XK}
  (S:A0w N ps scope) (F:A.handled=none) (g:D5o P w K mg base A outer s H) (M:vs.length=ps.length) (r:A3z vs us)
  (x:InCallC s s.heap.objs.size (bindL (envOfC qual scope s.heap.objs.size f cd).kindOf (ps.zip us) λ_=>none) (cellsFrom (s.heap.objs.size+1) scope.names []) (bindC (envOfC qual scope s.heap.objs.size f cd).kindOf (ps.zip us) λ_=>none) s1) :
  Inv (D8j CX P w K mg base N qual scope f cd A outer s H E) [] (B8s N vs) H s1:=by
 have G:ps.length<=N.length:=by have:=congrArg List.length S.pre;rw [Z0x] at this;lia
 obtain ⟨B,O,rfl,D⟩:=x.done;have l:∀b:Addr,b∉(D8j CX P w K mg base N qual scope f cd A outer s H E).ex:=λb z=>absurd (show b∈([]:List Addr) from z) (by simp)
 refine ⟨⟨g.mod,S.kind,rfl,rfl,Z09 _,λy z c B d=> ?_,λy j=> ?_,λy c _ h=> ?_,λ_=>F,Around.frames_deeper g.frames,.inr ⟨rfl,rfl⟩,λb z=>absurd z (l b),g.bs,g.bsz,λb _ _=>l b,λb z=>absurd z (l b),g.funs,g.frf⟩,
  rfl,g.bare,Un.kept D,(i02 _ x.toInCall.ns λi y v B d L=> ?_),λy c h=>⟨_,x.cell y c h⟩,g.hok.fresh (Z09 _),λy c h=> ?_,λp m=>absurd (show p∈([]:List (Addr×Obj)) from m) (by simp),g.hok.kept D,?_⟩
 ·exact name_of_addr x.apart (PySem.mem_of_lookup B) (PySem.mem_of_lookup d)
 ·have j:scope.names.lookup y=some .cell\/scope.names.lookup y=some .free:=j;rcases j with j | j
  ·exact C2m j
  ·exact absurd rfl (S.nofree _ (PySem.mem_of_lookup j))
 ·exact Nat.le_of_lt (x.above y c (PySem.mem_of_lookup h))
 ·have t:i<vs.length:=by
   unfold B8s at d;by_cases t:i<vs.length
   ·exact t
   ·rw [Z1l (by simpa using t)] at d;rw [List.getElem?_replicate] at d;split at d <;> cases d
  have J:vs[i]? =some v:=by
   unfold B8s at d;rw [Z26 (by simpa using t),Z1z] at d
   cases e:vs[i]? with
   | none=>rw [e] at d;cases d
   | some a=>rw [e] at d;cases d;rfl
  obtain ⟨u,C,I⟩:=r.get J
  have m:ps[i]? =some y:=by
   rw [<-S.pre,List.getElem?_take_of_lt (by lia)];exact B
  have o:ps.Nodup:=by rw [<-S.pre];exact S.nd.sublist (Z2o _ _)
  refine i02 u I ?_;rcases S.par y (Z13 m) with k | k
  ·exact .inl ⟨k,B8l o m C k⟩
  ·obtain ⟨c,e⟩:=C2m (n:=s.heap.objs.size+1) k;refine .inr (i05 (.inl k) c e ?_);have q:=x.cell y c e;rw [B8c o m C (by show scope.names.lookup y≠_;rw [k];decide)] at q;exact q
 ·exact g.hok.fresh (Nat.le_of_lt (x.above y c (PySem.mem_of_lookup h)))
 ·unfold B8s;show _=N.length;rw [Z06,Z08,List.length_replicate]
  lia
theorem E2x {k:Nat} {f:Addr} {name qual:Str} {c:Arguments} {L kV i M a G X:Value} {D od:Option Addr}
 {N:List Str} {sp:Sp} (lk:K.lookup f=some ⟨X,od,.func (fnOf name qual c body scope L kV i M D a G),osl⟩) (B:codeIn K a qual=true) (S:A0w N ps scope)
  (l:∀vs H Q E,sp vs H Q E->vs.length=ps.length)
  (d:∀(A:Around) (outer:List Env) (s:Shared) (H:Hp) (vs:List V) (Q:VK) (E:XK),B0r k (A.deeper (envOfC qual scope s.heap.objs.size f a))->sp vs H Q E->
   ∃t,PSs (D8j CX P w K mg base N qual scope f a A outer s H E) body t/\t { nx:=λ_ H'=>Q .non H',rt:=Q } (B8s N vs) H) :
  A3h P w K mg base CX (k+1) f (fnOf name qual c body scope L kV i M D a G) ps sp:=by
 refine ⟨l,λA outer s H F Z vs Q E p j Y r m=> ?_⟩;have R:=l _ _ _ _ m;have KX:K.In s.heap:=j.mod.kin.keeps λb o e=>(j.bs b o e).1;have C:s.heap.NoLimit:=j.mod.nolimit.keeps λb o e=>(j.bs b o e).1
 have g:∀y∈ps.zip Z,scope.names.lookup y.1=some .local\/(scope.names.lookup y.1=some .cell/\((cellsFrom (s.heap.objs.size+1) scope.names []).lookup y.1).isSome=true):=λ⟨n,v⟩ O=>by
  rcases S.par n (List.of_mem_zip O).1 with q | q
  ·exact .inl q
  ·exact .inr ⟨q,PySem.W.cellsFrom_some _ _ _ (.inl q)⟩
 refine codeAny_call_function p.depth (KX _ _ lk) rfl S.co S.gen rfl (PySem.W.codeRec_of KX B) (Y _ _ _ _ ?_);refine wpAny_newFunctionEnv_cells S.kind g λa0 U s1 x=> ?_;subst U;refine ⟨C.keeps x.toInCall.keep,codeAny_func ?_⟩;obtain ⟨t,ht,T⟩:=d A outer s H vs Q E (p.deeper _) m;have I:Inv (D8j CX P w K mg base N qual scope f a A outer s H E) [] (B8s N vs) H s1:=D0v S p.hd j R r x;refine Z10 (ht [] s1 (B8s N vs) H _ I T) (λfl s' h=> ?_) λe s' h=>h
 have fin:∀{Z':St} {H':Hp} {v:V} {u:Value},Inv (D8j CX P w K mg base N qual scope f a A outer s H E) [] Z' H' s'->A3c v u->Q v H'->CE outer P w H s Q u s' :=
  λ{Z' H' v u} J z q=>(i0t v H' J.os J.bare J.base J.hok z q)
 cases fl with
 | ret u =>
  obtain ⟨v,Z',H',J,z,q⟩:=h;exact fin J z q
 | next =>
  obtain ⟨Z',H',J,q⟩:=h;exact fin (v:=V.non) (u:=Value.none) J rfl q
 | brk =>
  obtain ⟨_,_,_,q⟩:=h;exact False.elim q
 | cont =>
  obtain ⟨_,_,_,q⟩:=h;exact False.elim q
section
variable {X:Cx} {x:Str} {p pos:Pos} {e:Expr} {es:List Expr} {t:TA} {id T:String} {r:List V->Hp->VK->Prop}
def tCB (r:List V->Hp->VK->Prop) (t:TA):TE:=λZ H Q=>t Z H λb a=>r b a Q
theorem A0q (q:A8h X (.builtin id) r) (k:Gl X x) (u:X.mg x=none) (v:bootBuiltins x=some (.builtin id)) (l:PA X (e::es) t) (g:x≠"__name__":=by decide) (c:(x == ("__debug__":Str))=false:=by decide)
  (d:starEach (e::es) X.env=(false,eval e X.env)::starEach es X.env:=by rfl) (b:(backTo pos (starEach es X.env)).any (·.1)=false:=by rfl):PE X (.Call (.Name x p) (e::es) [] pos) (tCB r t):=by
 intro a s Z H Q I h;refine wpAny_Call_Name_kw (B1u I k u v ?_ g c);exact PyProof.Rows.callWith_builtin1 (thn (l pos a s Z H _ I h) (by rintro i n ⟨m,f,I1,j,o⟩;exact q a n Z f m i Q I1 j o)) d b
theorem A2k (q:A8h X (.type T) r) (k:Gl X x) (u:X.mg x=none) (v:bootBuiltins x=some (.type T)) (l:PA X (e::es) t) (g:x≠"__name__":=by decide) (c:(x == ("__debug__":Str))=false:=by decide)
  (d:starEach (e::es) X.env=(false,eval e X.env)::starEach es X.env:=by rfl) (b:(backTo pos (starEach es X.env)).any (·.1)=false:=by rfl):PE X (.Call (.Name x p) (e::es) [] pos) (tCB r t):=by
 intro a s Z H Q I h;refine wpAny_Call_Name_kw (B1u I k u v ?_ g c);exact PyProof.Rows.callWith_type1 (thn (l pos a s Z H _ I h) (by rintro i n ⟨m,f,I1,j,o⟩;exact q a n Z f m i Q I1 j o)) d b
end
end L2
namespace HT
open PySem PyProof.Rows
section
open PySem.SeqAt
open PySem.AutoSeq1 (wpAny_loadPart')
open PySem.MeetsSeq PySem.MeetsSeq2 PySem.MeetsSeq3
end
section
variable {prog:Program} {w:World} {A:Around} {E:Value->Shared->Prop} {s:Shared}
theorem cat_tup {t b:Addr} {vs ws:List Value} {Q:Value->Shared->Prop} (u:IsTup s.heap t vs.toArray) (r:IsTup s.heap b ws.toArray) (q:vs≠[])
  (h1:ws=[]->Q (.ref t) s) (h2:ws≠[]->Q (.ref s.heap.objs.size) { s with heap:=s.heap.push { cls:= .type "tuple",data:= .seq (vs++ws).toArray } })
  (hsz:vs.length+ws.length<=sizeLine):wpAny (model prog w) A (binaryOp .Add (.ref t) (.ref b)) Q E s:=by
 obtain ⟨⟨cls,o,data,j⟩,h,p,n,l⟩:=id u;obtain ⟨⟨m,d,i,c⟩,a,g,k,f⟩:=id r;simp only at p l g f;subst p l g f;have e:vs.toArray++ws.toArray=(vs++ws).toArray:=by simp
 by_cases hw:ws=[]
 ·exact concat_meets (i02 _ h rfl) (i02 _ a rfl) noFill_tuple_add seq_tuple_add PySem.F.slot_tuple_add PySem.F.entry_tuple_add (PySem.F.args_tuple_add_2 _ _)
   (tuple_addW1 t b vs.toArray ws.toArray n k o d j c (by simpa using q) (by simp [hw])) (i00 h a (h1 hw))
 ·refine concat_meets (i02 _ h rfl) (i02 _ a rfl) noFill_tuple_add seq_tuple_add PySem.F.slot_tuple_add PySem.F.entry_tuple_add (PySem.F.args_tuple_add_2 _ _)
   (tuple_addW2 t b vs.toArray ws.toArray n k o d j c (by simpa using q) (by simpa using hw) (by rw [Z0g,Z0g];exact hsz)) (i00 h a ?_)
  rw [e];exact h2 hw
def sIx (n d:Nat):Option Int->Nat
 | none=>d
 | some v=>if v<0 then (v+(n:Int)).toNat else min v.toNat n
theorem sIx_nat (n d k:Nat):sIx n d (some (k:Int))=min k n:=by
 show (if (k:Int)<0 then ((k:Int)+(n:Int)).toNat else min (k:Int).toNat n)=min k n;rw [Z0t (by lia),Int.toNat_natCast]
end
end HT
namespace L2
open PySem PySem.Spec PyProof.Rows
variable {r:V->Option Int->Option Int->Hp->VK->Prop} {xs:List (List Key×Addr×Value)} {s:Shared} {y:V} {u:Value} {pins:List (Addr×Obj)} {H:Hp} {its:List Value} {f:Array Value->Array Value} {t':Nat} {o:Option V} {P:Program} {w:World} {kvs:List (List Key×V)} {a:Addr} {Q:Value->Shared->Prop}
abbrev TO:=St->Hp->(Option Int->Hp->Prop)->Prop
def PO (X:Cx) (e:Option Expr) (t:TO):Prop :=
 ∀(a:List (Addr×Obj)) (s:Shared) (Z:St) (H:Hp) (Q:Option Int->Hp->Prop),Inv X a Z H s->t Z H Q->
  wpAny (model X.prog X.w) X.A (evalPart e X.env) (λu c=>∃o b,Inv X a Z b c/\IsPart u o/\Q o b) X.xe s
def D4u:TO:=λ_ H Q=>Q none H
def E3x (t:TE):TO:=λZ H Q=>t Z H λx a=>∃i,x= .int i/\Q (some i) a
section
variable {X:Cx} {e:Expr} {te:TE} {lo hi:Option Expr} {tl th:TO} {pos p2:Pos}
theorem C0m:PO X none D4u:=by
 intro a s Z H Q I h;rw [evalPart_none];exact Z04 (i0f none H I .none h)
theorem B3e (h:PE X e te):PO X (some e) (E3x te):=by
 intro a s Z H Q I c;rw [evalPart_some];refine thn (h a s Z H _ I c) ?_;rintro u g ⟨x,b,I1,d,f⟩;obtain ⟨i,rfl,q⟩:=f;obtain ⟨t,rfl⟩:=d;exact i0f (some i) b I1 (.int i t) q
def SlR (X:Cx) (r:V->Option Int->Option Int->Hp->VK->Prop):Prop :=
 ∀(a:List (Addr×Obj)) (s:Shared) (Z:St) (H:Hp) (x:V) (v f e:Value) (b c:Option Int) (d:Addr) (Q:VK),Inv X a Z H s->A3c x v->s.heap.IsSliceOf d f e .none->IsPart f b->IsPart e c->r x b c H Q->
  ∃T id,typeLookup (.type T) "__getitem__"=pure (some (.builtin id))/\s.TypeIs v T/\wpAny (model X.prog X.w) X.A (getItem v (.ref d)) (EP X a Z Q) X.xe s
def tSl (r:V->Option Int->Option Int->Hp->VK->Prop) (te:TE) (tl th:TO):TE:=λZ H Q=>te Z H λx b=>tl Z b λl a=>th Z a λu c=>r x l u c Q
theorem B2o (j:SlR X r) (C:PE X e te) (m:PO X lo tl) (k:PO X hi th):PE X (.Subscript e (.Slice lo hi none p2) pos) (tSl r te tl th):=by
 intro a s Z H Q I h;refine Subscript_ (thn (C a s Z H _ I h) ?_);rintro v p ⟨x,D,I1,F,t⟩;refine wpAny_Slice (thn (m a p Z D _ I1 t) ?_);rintro d K ⟨l,y,I2,z,n⟩;refine thn (k a K Z y _ I2 n) ?_;rintro f c ⟨u,g,I3,i,o⟩;rw [evalPart_none];refine Z04 ?_;have I4:Inv X a Z g { c with heap:=c.heap.push { cls:= .type "slice",data:= .fields #[d,f,.none] } }:=I3.kept (t':=c.toks) λb L q=>Z01 _ q
 obtain ⟨T,id,B,J,G⟩:=j a { c with heap:=c.heap.push { cls:= .type "slice",data:= .fields #[d,f,.none] } } Z g x v d f l u c.heap.objs.size Q I4 F (Heap.IsSliceOf.new ..) z i o;show wpAny (model X.prog X.w) X.A (subscriptTail e (.Slice lo hi none p2) v (.ref c.heap.objs.size)) (EP X a Z Q) X.xe { c with heap:=c.heap.push { cls:= .type "slice",data:= .fields #[d,f,.none] } };exact tail_any (ops:=[.ref c.heap.objs.size,v]) J B G (by with_unfolding_all rfl)
def D1b (xs:List V) (lo hi:Option Int):List V:=(xs.drop (HT.sIx xs.length 0 lo)).take (HT.sIx xs.length xs.length hi-HT.sIx xs.length 0 lo)
theorem C0u (xs:List V) (lo hi:Option Int):(D1b xs lo hi).length<=xs.length:=by
 unfold D1b;rw [Z0x,List.length_drop]
 lia
def E3y (K:Frag):R2:=λx y H Q=>∃a b d c,x= .ref a/\y= .ref b/\SqT K H a d/\SqT K H b c/\d≠[]/\d.length+c.length<=sizeLine/\
 (c=[]->Q (.ref a) H)/\(c≠[]->∀p,H p=none->Q (.ref p) (upd H p (.tup (d++c))))
theorem A3z.nil_iff {xs:List V} {us:List Value} (r:A3z xs us):us=[]↔xs=[]:=by
 cases r with
 | nil=>simp
 | cons _ _=>simp
theorem D7z:OpR X (binaryOp .Add) (E3y X.K):=by
 intro f s Z H x y v u Q I n m h;obtain ⟨a,b,i,j,rfl,rfl,C,B,A,e,t,k⟩:=h;cases n;cases m;obtain ⟨p,d,l,_⟩:=I.tuple C;obtain ⟨g,c,r,_⟩:=I.tuple B;refine HT.cat_tup l r (λz=>A (d.nil_iff.mp z)) (λz=>(i0f (.ref a) H I rfl (t (c.nil_iff.mp z)))) (λz=> ?_) (by rw [<-d.length,<-c.length];exact e);refine i0f (.ref s.heap.objs.size) _ (I.laid (t':=s.toks) (o:= .tup (i++j)) (λb D q=>Z01 _ q) (Z09 _) ?_) rfl (k (λw=>z (c.nil_iff.mpr w)) _ (I.hok.fresh (Z09 _)));exact i05 (by rw [Z06];exact e) _ (d.append c) (IsTup.new _ _)
end
def ixN (n:Nat) (i:Int):Option Nat:=if 0<=i then (if i<n then some i.toNat else none) else if -(n:Int)<=i then some (i+n).toNat else none
def atI {α:Type} (xs:List α) (i:Int):Option α:=(ixN xs.length i).bind λj=>xs[j]?
theorem D5r {n:Nat} {i:Int} {j:Nat} (h:ixN n i=some j):seqIndex? i n=some j/\j<n/\-(n:Int)<=i/\i<n:=by
 unfold ixN at h;by_cases h0:0<=i
 ·rw [Z12 h0] at h;by_cases h1:i<n
  ·rw [Z12 h1] at h;have e:i.toNat=j:=Z1a h;exact i04 (by rw [seqIndex_of h0 h1,e]) (by lia) (by lia) h1
  ·rw [Z0t h1] at h;cases h
 ·rw [Z0t h0] at h;by_cases h1: -(n:Int)<=i
  ·rw [Z12 h1] at h;have e:(i+n).toNat=j:=Z1a h;exact i04 (by rw [seqIndex_neg (by lia) h1,e]) (by lia) h1 (by lia)
  ·rw [Z0t h1] at h;cases h
theorem C2h {α:Type} {xs:List α} {i:Int} {v:α} (h:atI xs i=some v):∃j,seqIndex? i xs.length=some j/\xs[j]? =some v/\j<xs.length/\-(xs.length:Int)<=i/\i<xs.length:=by
 unfold atI at h
 cases e:ixN xs.length i with
 | none=>rw [e] at h;cases h
 | some j =>
  rw [e] at h;obtain ⟨d,a,c,b⟩:=D5r e;exact ⟨j,(i09 d h a c b)⟩
theorem A3j {α:Type} {xs:List α} {j:Nat} {v:α} (h:xs[j]? =some v):atI xs (j:Int)=some v:=by
 have a:j<xs.length:=(Z03.mp h).1
 have e:ixN xs.length (j:Int)=some j:=by
  unfold ixN;rw [Z12 (by lia),Z12 (by lia)];simp
 unfold atI;rw [e];exact h
def D7c (b:Expr):Prop:=∀o i,subscripted b false o i=operate [o,i] (getItem o i)
def IxR (X:Cx) (r:R2):Prop :=
 ∀(c a:Expr) (b:List (Addr×Obj)) (s:Shared) (Z:St) (H:Hp) (x y:V) (v u:Value) (Q:VK),Inv X b Z H s->A3c x v->A3c y u->r x y H Q->
  subscripted a false v u=operate [v,u] (getItem v u)->wpAny (model X.prog X.w) X.A (subscriptTail c a v u) (EP X b Z Q) X.xe s
def MtR (X:Cx) (id:String) (r:V->List V->Hp->VK->Prop):Prop :=
 ∀(a:List (Addr×Obj)) (s:Shared) (Z:St) (H:Hp) (x:V) (b:List V) (v:Value) (c:List Value) (Q:VK),Inv X a Z H s->A3c x v->A3z b c->r x b H Q->
  wpAny (model X.prog X.w) X.A (call (.builtin id) (v::c)) (EP X a Z Q) X.xe s
section
variable {X:Cx} {a b:Expr} {ta tb:TE} {pos:Pos}
theorem A1f {r:R2} (d:IxR X r) (j:PE X a ta) (g:PE X b tb) (l:D7c b):PE X (.Subscript a b pos) (tOp r ta tb):=by
 intro c s Z H Q I h;exact Subscript_ (E3p j g I h λv u k x y e I2 i f q=>d a b c k Z e x y v u Q I2 i f q (l _ _))
def E4j (K:Frag):R2:=λx y H Q=>∃p a i v,x= .ref p/\y= .int i/\SqL K H p a/\atI a i=some v/\Q v H
def rIxT (K:Frag):R2:=λx y H Q=>∃p a i v,x= .ref p/\y= .int i/\SqT K H p a/\atI a i=some v/\Q v H
def rIxS:R2:=λx y H Q=>∃z i c,x= .str z/\y= .int i/\z.length<=sizeLine/\atI z.cps.toList i=some c/\Q (.str ⟨#[c]⟩) H
theorem A1n:IxR X (E4j X.K):=by
 intro f c a s Z H x y v u Q I B A h m;obtain ⟨p,L,i,z,rfl,rfl,C,F,q⟩:=h;cases B;obtain ⟨t,rfl⟩:=A;obtain ⟨d,r,g,M⟩:=I.list C;obtain ⟨j,b,D,N,J,n⟩:=C2h F;obtain ⟨w,l,k⟩:=r.get D;have o:=r.length;have O:=B9z;have fin:EP X a Z Q w s:=(i0f z H I k q);by_cases h0:0<=i
 ·have e:i.toNat=j:=by
   rw [seqIndex_of h0 n] at b;exact Z1a b
  exact item_listR g.isList h0 (by lia) (by rw [e];simpa using l) fin m
 ·have e:(i+(d.toArray.size:Int)).toNat=j:=by
   rw [seqIndex_neg (by lia) J] at b;rw [Z0g,<-o];exact Z1a b
  exact subscriptTail_builtinR (x:=w) g.isList.typeIs slot_list_getitem.lookup
   (wpAny_getItem_list_neg (Q:=λr G=>r=w/\EP X a Z Q r G) g.isList (by lia) (by rw [Z0g] <;> lia) (by lia) (by rw [e];simpa using l) ⟨rfl,fin⟩) m
theorem A1h:IxR X (rIxT X.K):=by
 intro c b a s Z H x y v u Q I m k h B;obtain ⟨p,F,i,z,rfl,rfl,o,C,q⟩:=h;cases m;obtain ⟨t,rfl⟩:=k;obtain ⟨n,r,e,J⟩:=I.tuple o;obtain ⟨j,f,A,L,N,G⟩:=C2h C;obtain ⟨w,l,d⟩:=r.get A;have g:=r.length;have M:=B9z;have fin:EP X a Z Q w s:=(i0f z H I d q)
 exact subscriptTail_builtinR (x:=w) e.typeIs slot_tuple_getitem.lookup
  (getItem_tuple (j:=j) (Q:=λr D=>r=w/\EP X a Z Q r D) e (by lia) (by lia) (by rw [Z0g,<-g];exact f) (by simpa using l) ⟨rfl,fin⟩) B
theorem C6n:IxR X rIxS:=by
 intro b a e s Z H x y v u Q I m l h p;obtain ⟨z,i,c,rfl,rfl,A,r,q⟩:=h;obtain ⟨t,rfl⟩:=m;obtain ⟨D,rfl⟩:=l;obtain ⟨j,d,o,B,w,g⟩:=C2h r;have k:z.cps.toList.length=z.length:=by simp [Str.length]
 rw [k] at d w g;have C:=B9z
 exact tail_any (typeIs_str s z t) slot_str_getitem.lookup (getItem_str (c:=c) (by
  have f:decide (i< -(2^63:Int))=false:=Z1j (by lia);have n:decide (i≥2^63)=false:=Z1j (by lia)
  rw [f,n,Bool.or_false]) (by rw [d];simpa using o) (i0f (.str ⟨#[c]⟩) H (I.tok _) ⟨_,rfl⟩ q)) p
theorem B8t (lo hi:Option Int) (n:Nat):(sliceBounds lo hi none n).1=((HT.sIx n 0 lo:Nat):Int)/\(sliceBounds lo hi none n).2.1=((HT.sIx n n hi:Nat):Int)/\(sliceBounds lo hi none n).2.2=1:=by
 refine i00 ?_ ?_ rfl
 ·cases lo with
  | none=>simp [sliceBounds,HT.sIx]
  | some i =>
   simp only [sliceBounds,HT.sIx,Option.getD_none,show (1:Int)>0 by decide,if_true];by_cases h:i<0
   ·simp only [h,if_true] <;> lia
   ·simp only [h,if_false] <;> lia
 ·cases hi with
  | none=>simp [sliceBounds,HT.sIx]
  | some i =>
   simp only [sliceBounds,HT.sIx,Option.getD_none,show (1:Int)>0 by decide,if_true];by_cases h:i<0
   ·simp only [h,if_true] <;> lia
   ·simp only [h,if_false] <;> lia
theorem B6l (its:List Value) (lo hi:Option Int):slicePick its.toArray lo hi none=((its.drop (HT.sIx its.length 0 lo)).take (HT.sIx its.length its.length hi-HT.sIx its.length 0 lo)).toArray:=by
 obtain ⟨a,b,c⟩:=B8t lo hi its.toArray.size;unfold slicePick;rw [a,b,c];simp only [sliceRange_one,pick_run,Z0g] <;> rfl
def rSlL (K:Frag):V->Option Int->Option Int->Hp->VK->Prop:=λx c d H Q=>∃a b,x= .ref a/\SqL K H a b/\∀p,H p=none->Q (.ref p) (upd H p (.lst (D1b b c d)))
theorem C6l:SlR X (rSlL X.K):=by
 intro i s Z H x v y z e f u Q I m t l j h;obtain ⟨a,c,rfl,k,q⟩:=h;cases m;obtain ⟨p,r,g,n⟩:=I.list k;have d:=r.length;refine i0f "list" _ slot_list_getitem.lookup g.isList.typeIs ?_;refine wpAny_getItem_list_slice g.isList t l j .none (by simp) ?_ (by rw [Z0g] <;> lia);rw [B6l,<-d];refine i0f (.ref s.heap.objs.size) _ (I.laid (t':=s.toks) (o:= .lst (D1b c e f)) (λb w q=>Z01 _ q) (Z09 _) ?_) rfl (q _ (I.hok.fresh (Z09 _)));exact i0b (Z1n (C0u c e f) n) _ 0 ((r.drop (HT.sIx c.length 0 e)).take (HT.sIx c.length c.length f-HT.sIx c.length 0 e)) (Z0c _ rfl)
def B6s:V->Bool
 | .non=>true
 | .bl _=>true
 | .int _=>true
 | .str _=>true
 | _=>false
noncomputable def eqV:V->V->Bool
 | .non,.non=>true
 | .bl a,.bl b=>a == b
 | .bl a,.int b=>(if a then 1 else 0) == b
 | .int a,.bl b=>a == (if b then 1 else 0)
 | .int a,.int b=>a == b
 | .str a,.str b=>a == b
 | _,_=>false
theorem E0t {A:Around} {x:V} {v:Value} (f:A3c y u) (c:A3c x v) (g:B6s y=true) (e:B6s x=true):SeqAt.EqAt A s u v (eqV y x):=by
 cases y with
 | non =>
  cases f
  cases x with
  | non=>cases c;exact SeqAt.EqAt.same _
  | bl b=>cases c;exact SeqAt.EqAt.none_bool b
  | int b=>obtain ⟨t,rfl⟩:=c;exact SeqAt.EqAt.none_int b t
  | str b=>obtain ⟨t,rfl⟩:=c;exact SeqAt.EqAt.none_str b t
  | _=>exact absurd (show false=true from e) Z0v
 | bl a =>
  cases f
  cases x with
  | non=>cases c;exact SeqAt.EqAt.bool_none a
  | bl b=>cases c;exact SeqAt.EqAt.bool_bool a b
  | int b=>obtain ⟨t,rfl⟩:=c;exact SeqAt.EqAt.bool_int a b t
  | str b=>obtain ⟨t,rfl⟩:=c;exact SeqAt.EqAt.bool_str a b t
  | _=>exact absurd (show false=true from e) Z0v
 | int a =>
  obtain ⟨d,rfl⟩:=f
  cases x with
  | non=>cases c;exact SeqAt.EqAt.int_none a d
  | bl b=>cases c;exact SeqAt.EqAt.int_bool a d b
  | int b=>obtain ⟨t,rfl⟩:=c;exact SeqAt.EqAt.int_int a d b t
  | str b=>obtain ⟨t,rfl⟩:=c;exact SeqAt.EqAt.int_str a d b t
  | _=>exact absurd (show false=true from e) Z0v
 | str a =>
  obtain ⟨d,rfl⟩:=f
  cases x with
  | non=>cases c;exact SeqAt.EqAt.str_none a d
  | bl b=>cases c;exact SeqAt.EqAt.str_bool a d b
  | int b=>obtain ⟨t,rfl⟩:=c;exact SeqAt.EqAt.str_int a d b t
  | str b=>obtain ⟨t,rfl⟩:=c;exact SeqAt.EqAt.str_str a d b t
  | _=>exact absurd (show false=true from e) Z0v
 | _=>exact absurd (show false=true from g) Z0v
def eqU (x:V) (u:Value):Bool:=match u with
 | .none=>eqV .non x
 | .bool b=>eqV (.bl b) x
 | .int i _=>eqV (.int i) x
 | .str z _=>eqV (.str z) x
 | _=>false
theorem D3j {x:V} (r:A3c y u) (f:B6s y=true):eqU x u=eqV y x:=by
 cases y with
 | non=>cases r;rfl
 | bl b=>cases r;rfl
 | int i=>obtain ⟨t,rfl⟩:=r;rfl
 | str z=>obtain ⟨t,rfl⟩:=r;rfl
 | _=>exact absurd (show false=true from f) Z0v
theorem B3w {x:V}:∀{xs:List V} {us:List Value},A3z xs us->xs.all B6s=true->us.any (eqU x)=xs.any λy=>eqV y x
 | _,_,.nil,_=>rfl
 | y::xs,u::us,.cons r t,f=>by
  rw [List.all_cons,Z1x] at f;rw [List.any_cons,List.any_cons,D3j r f.1,B3w t f.2]
theorem B0d {A:Around} {s:Shared} {x:V} {v:Value} (c:A3c x v) (b:B6s x=true):∀{xs:List V} {us:List Value},A3z xs us->xs.all B6s=true->∀u∈us,SeqAt.EqAt A s u v (eqU x u)
 | _,_,.nil,_=>λu a=>by cases a
 | y::xs,u::us,.cons r t,f=>λd a=>by
  rw [List.all_cons,Z1x] at f;rcases Z0e.mp a with rfl | a
  ·rw [D3j r f.1];exact E0t r c f.1 b
  ·exact B0d c b t f.2 d a
def inV (x:V) (xs:List V):Bool:=xs.any λy=>eqV y x
def rIn (K:Frag) (b:Bool):R2:=λx y H Q=>∃p a,y= .ref p/\(SqL K H p a\/SqT K H p a)/\B6s x=true/\a.all B6s=true/\Q (.bl (if b then ! inV x a else inV x a)) H
theorem D0p:OpR X (compareOp .In) (rIn X.K false):=by
 intro f s Z H x y v u Q I i j h;obtain ⟨p,l,rfl,b,g,c,q⟩:=h;cases j;rcases b with b | b
 ·obtain ⟨a,r,d,k⟩:=I.list b;refine SeqAt.in_listAt (eqU x) d.isList (λw e=>B0d i g r c w (by simpa using e)) (i0f (.bl _) H I rfl ?_);rw [show a.toArray.any (eqU x)=a.any (eqU x) by simp,B3w r c];exact q
 ·obtain ⟨a,r,d,k⟩:=I.tuple b;refine SeqAt.in_tupleAt (eqU x) d (λw e=>B0d i g r c w (by simpa using e)) (i0f (.bl _) H I rfl ?_);rw [show a.toArray.any (eqU x)=a.any (eqU x) by simp,B3w r c];exact q
theorem A6c:OpR X (compareOp .NotIn) (rIn X.K true):=by
 intro f s Z H x y v u Q I i j h;obtain ⟨p,l,rfl,b,g,c,q⟩:=h;cases j;rcases b with b | b
 ·obtain ⟨a,r,d,k⟩:=I.list b;refine SeqAt.notIn_listAt (eqU x) d.isList (λw e=>B0d i g r c w (by simpa using e)) (i0f (.bl _) H I rfl ?_);rw [show a.toArray.any (eqU x)=a.any (eqU x) by simp,B3w r c];exact q
 ·obtain ⟨a,r,d,k⟩:=I.tuple b;refine SeqAt.notIn_tupleAt (eqU x) d (λw e=>B0d i g r c w (by simpa using e)) (i0f (.bl _) H I rfl ?_);rw [show a.toArray.any (eqU x)=a.any (eqU x) by simp,B3w r c];exact q
theorem A0y:A8h X (.builtin "len") (λxs H Q=>∃p ys,xs=[.ref p]/\(SqL X.K H p ys\/SqT X.K H p ys)/\Q (.int ys.length) H):=by
 intro f s Z H xs k Q I r h;obtain ⟨p,ys,rfl,b,q⟩:=h;obtain ⟨u,rfl,g⟩:=B1d r;cases g;have j:=B9z;rcases b with b | b
 ·obtain ⟨e,d,c,i⟩:=I.list b;have a:=d.length;exact Calls.call_len_list c.isList (by simp only [Z0g] <;> lia) (i0f (.int ys.length) H (I.tok _) ⟨s.toks+1,by rw [Z0g,a]⟩ q)
 ·obtain ⟨e,d,c,i⟩:=I.tuple b;have a:=d.length;exact len_tuple c (by simp only [Z0g] <;> lia) (i0f (.int ys.length) H (I.tok _) ⟨s.toks+1,by rw [Z0g,a]⟩ q)
theorem B9m:A8h X (.builtin "len") (λxs H Q=>∃z,xs=[.str z]/\z.length<=sizeLine/\Q (.int z.length) H):=by
 intro a s Z H xs d Q I r h;obtain ⟨z,rfl,b,q⟩:=h;obtain ⟨u,rfl,t,rfl⟩:=B1d r;have c:=B9z;exact len_str (by lia) (i0f (.int z.length) H (I.tok _) ⟨_,rfl⟩ q)
theorem A5b:A8h X (.type "list") (λxs H Q=>∃p ys,xs=[.ref p]/\(SqL X.K H p ys\/SqT X.K H p ys)/\∀l,H l=none->Q (.ref l) (upd H l (.lst ys))):=by
 intro m s Z H xs B Q I r h;obtain ⟨p,ys,rfl,j,q⟩:=h;obtain ⟨u,rfl,A⟩:=B1d r;cases A
 have fin:∀(a:List Value),A3z ys a->ys.length<=sizeLine->∀(c:Heap) (f:Nat),(∀b z,s.heap.get? b=some z->c.get? b=some z)->
   c.get? s.heap.objs.size=some { cls:= .type "list",dict:=none,data:= .seq a.toArray f,slots:= #[] }->EP X m Z Q (.ref s.heap.objs.size) { s with heap:=c }:=λa d i c f k e =>
  (i0f (.ref s.heap.objs.size) _ (I.laid (t':=s.toks) k (Z09 _) (show A2q X.prog X.w _ c _ (.lst ys) from (i0b i a f d e))) rfl (q _ (I.hok.fresh (Z09 _))))
 rcases j with j | j
 ·obtain ⟨a,d,t,i⟩:=I.list j;have g:=d.length;obtain ⟨o,x,y,n,v⟩:=t.isList;exact call_list_seq p (.inl rfl) x y v (λc f k e=>fin a d i c f k e) (by simp only [Z0g] <;> lia)
 ·obtain ⟨a,d,t,i⟩:=I.tuple j;have g:=d.length;obtain ⟨o,x,y,n,v⟩:=t;exact call_list_seq p (.inr rfl) x y v (λc f k e=>fin a d i c f k e) (by simp only [Z0g] <;> lia)
theorem A5i:A8h X (.type "tuple") (λxs H Q=>∃p ys,xs=[.ref p]/\((SqL X.K H p ys/\∀l,H l=none->Q (.ref l) (upd H l (.tup ys)))\/(SqT X.K H p ys/\Q (.ref p) H))):=by
 intro a s Z H xs t Q I r h;obtain ⟨p,ys,rfl,h⟩:=h;obtain ⟨u,rfl,m⟩:=B1d r;cases m;rcases h with ⟨i,q⟩ | ⟨i,q⟩
 ·obtain ⟨c,g,f,k⟩:=I.list i;have j:=g.length;refine call_tuple_list f.isList (λd n=> ?_) (by simp only [Z0g] <;> lia);have I1:Inv X a Z H { s with heap:=d }:=I.kept (t':=s.toks) n
  have I2:Inv X a Z (upd H d.objs.size (.tup ys)) { s with heap:=d.push { cls:= .type "tuple",data:= .seq c.toArray } } :=
   I1.laid (t':=s.toks) (λb o e=>Z01 _ e) (Z09 _) (show A2q X.prog X.w _ _ _ (.tup ys) from (i05 k c g (IsTup.new _ _)))
  exact i0f (.ref d.objs.size) _ I2 rfl (q _ (I1.hok.fresh (Z09 _)))
 ·obtain ⟨c,g,f,k⟩:=I.tuple i;exact call_tuple_same f (i0f (.ref p) H I rfl q)
def tyV (K:Frag) (T:String) (x:V) (H:Hp):Prop:=match x with
 | .str _=>T="str"
 | .int _=>T="int"
 | .ref p=>(T="list"/\∃b,SqL K H p b)\/(T="tuple"/\∃o,K.lookup p=some o/\o.cls= .type "tuple"/\o.dict=none)\/
   (T="dict"/\((∃a,H p=some (.dK a))\/∃a,H p=some (.dT a)))\/(T="set"/\∃S n,H p=some (.set S n))
 | _=>False
theorem D4f {Z:St} {T:String} {x:V} {v:Value} (I:Inv X pins Z H s) (r:A3c x v) (ty:tyV X.K T x H) :
  s.TypeIs v T/\∀a,v= .ref a->∃k,s.heap.get? a=some k/\k.dict=none:=by
 cases x with
 | str z =>
  obtain ⟨t,rfl⟩:=r;cases (show T="str" from ty);exact ⟨typeIs_str s z t,λ_ e=>nomatch e⟩
 | int i =>
  obtain ⟨t,rfl⟩:=r;cases (show T="int" from ty);exact ⟨typeIs_int s i t,λ_ e=>nomatch e⟩
 | ref p =>
  cases r
  rcases ty with ⟨rfl,u,m⟩ | ⟨rfl,o,b,q,f⟩ | ⟨rfl,b⟩ | ⟨rfl,S,n,b⟩
  ·obtain ⟨l,_,j,_⟩:=I.list m;refine ⟨j.isList.typeIs,λa e=> ?_⟩;cases e;obtain ⟨o,n,e,c,f,_⟩:=j;exact i02 o e f
  ·refine ⟨(i02 o (I.kIn p o b) q),λa e=> ?_⟩;cases e;exact i02 o (I.kIn _ o b) f
  ·have z:∃o,s.heap.get? p=some o/\o.ExactDict:=by
    rcases b with ⟨h,b⟩ | ⟨h,b⟩
    ·obtain ⟨_,_,_,_,o,_,_,e,d,_⟩:=I.hok p _ b;exact i02 o e d
    ·obtain ⟨_,_,_,_,o,_,_,e,d,_⟩:=I.hok p _ b;exact i02 o e d
   obtain ⟨o,e,d⟩:=z;refine ⟨(i02 o e d.1),λa g=> ?_⟩;cases g;exact i02 o e d.2.1
  ·obtain ⟨o,_,_,_,e,d,_⟩:=I.hok p _ b;refine ⟨(i02 o e d.1),λa g=> ?_⟩;cases g;exact i02 o e d.2.1
 | _=>exact False.elim ty
def tBM0 (K:Frag) (T:String) (r:V->List V->Hp->VK->Prop) (to:TE):TE:=λZ H Q=>to Z H λx a=>tyV K T x a/\r x [] a Q
def tBM (K:Frag) (T:String) (r:V->List V->Hp->VK->Prop) (to:TE) (t:TA):TE:=λZ H Q=>to Z H λx a=>tyV K T x a/\t Z a λc b=>r x c b Q
variable {o e:Expr} {es:List Expr} {to:TE} {t:TA} {name:Str} {apos cpos:Pos} {T id:String} {r:V->List V->Hp->VK->Prop}
theorem E0e (k:PlainAttrs T) (d:Slot T name id) (e:typeOf (.builtin id)=pure (.type "method_descriptor")) (q:MtR X id r) (m:PE X o to)
  (c:attributeBase o name X.env (eval o X.env)=eval o X.env:=by rfl) (b:(apos.endLine == cpos.line)=true:=by rfl):PE X (.Call (.Attribute o name apos) [] [] cpos) (tBM0 X.K T r to):=by
 intro a s Z H Q I h;refine wpAny_Call_method0_late c b (thn (m a s Z H _ I h) ?_);rintro v l ⟨x,g,I1,f,j,n⟩;obtain ⟨i,p⟩:=D4f I1 f j;exact i0t T id k d e i p (Calls.callWith_builtin rfl (PySem.evalArgs_none (q a l Z g x [] v [] Q I1 f .nil n)))
theorem A7c (p:PlainAttrs T) (g:Slot T name id) (i:typeOf (.builtin id)=pure (.type "method_descriptor")) (B:MtR X id r) (w:PE X o to) (G:PA X (e::es) t)
  (c:attributeBase o name X.env (eval o X.env)=eval o X.env:=by rfl)
  (f:((backTo cpos (starEach (e::es) X.env)).all (λx=> ! x.1)&&(backToKw cpos (keywordEach [] X.env)).all (λx=>x.1.isSome)
   && decide ((e::es).length+([]:List Keyword).length+(if ([]:List Keyword).isEmpty then 0 else 1)<30))=true:=by rfl)
  (d:(apos.endLine == cpos.line)=true:=by rfl) (A:starEach (e::es) X.env=(false,eval e X.env)::starEach es X.env:=by rfl) (b:(backTo cpos (starEach es X.env)).any (·.1)=false:=by rfl) :
  PE X (.Call (.Attribute o name apos) (e::es) [] cpos) (tBM X.K T r to t):=by
 intro a s Z H Q I h;refine wpAny_Call_method_late c f d rfl (thn (w a s Z H _ I h) ?_);rintro v q ⟨x,D,I1,k,m,y⟩;obtain ⟨l,z⟩:=D4f I1 k m;refine i0t T id p g i l z ?_;have j:=G cpos a q Z D _ I1 y;rw [A] at j⊢;refine Calls.callWith_builtin (by show (false||(backTo cpos (starEach es X.env)).any (·.1))=false;rw [b] <;> rfl) (Calls.evalArgs_plain ?_);exact thn j (by rintro F L ⟨J,C,I2,u,n⟩;exact B a L Z C x J v F Q I2 k u n)
end
def MtM (X:Cx) (id:String) (r:V->List V->Hp->VK->Prop):Prop :=
 ∀(a:List (Addr×Obj)) (s:Shared) (Z:St) (H:Hp) (x:V) (b:List V) (v:Value) (c:List Value) (Q:VK),Inv X a Z H s->A3c x v->A3z b c->r x b H Q->
  wpAny (model X.prog X.w) X.A (call (.builtin id) (v::c)) (EP X a Z Q) X.xe s
theorem A3z.one:∀{x:V} {us:List Value},A3z [x] us->∃u,us=[u]/\A3c x u
 | _,_,.cons r .nil=>(i02 _ rfl r)
section
variable {X:Cx} {pins:List (Addr×Obj)} {Z:St} {H:Hp} {s:Shared} {l b:Addr} {xs ys zs:List V}
theorem Inv.lset {its':List Value} {n:Nat} (I:Inv X pins Z H s) (d:H l=some (.lst xs))
  (e:s.heap.get? l=some { cls:= .type "list",data:= .seq its.toArray n }) (c:f its.toArray=its'.toArray) (h:A3z ys its') (a:ys.length<=sizeLine) :
  Inv X pins Z (upd H l (.lst ys)) { s with heap:=s.heap.update l (Obj.mapSeq f),toks:=t' }:=by
 have q:=PySem.IsL.update e f;rw [c] at q;refine I.write (x:=l) (e:=l) (by rw [d];exact trivial) (.inl rfl) (λi u g b=>(Heap.get?_update_other s.heap (Obj.mapSeq f) (Ne.symm g)).trans b) ⟨_,q⟩ ?_;exact i0b a its' _ h q
theorem Inv.lnew (I:Inv X pins Z H s) (a:A3z ys its) (b:ys.length<=sizeLine) :
  Inv X pins Z (upd H s.heap.objs.size (.lst ys)) { s with heap:=s.heap.push { cls:= .type "list",data:= .seq its.toArray },toks:=t' } :=
 I.laid (λ_ _ q=>Z01 _ q) (Z09 _) (i0b b its 0 a (Z0c _ rfl))
theorem Inv.fresh (I:Inv X pins Z H s):H s.heap.objs.size=none:=I.hok.fresh (Z09 _)
theorem Inv.lstM (I:Inv X pins Z H s) (a:H l=some (.lst xs)):xs.length<=sizeLine/\∃(its:List Value) (n:Nat),A3z xs its/\xs.length=its.length/\s.heap.get? l=some { cls:= .type "list",data:= .seq its.toArray n }:=by
 obtain ⟨z,its,n,r,e⟩:=I.hok l _ a;exact i0i z its n r r.length e
theorem D1z {n:Nat} (h:n<=sizeLine):Builtin.List.listTooLong n=false:=by
 unfold Builtin.List.listTooLong;exact Z1j (by lia)
end
section
variable {X:Cx}
def D5z:V->List V->Hp->VK->Prop:=λx b H Q=>∃l a y,x= .ref l/\b=[y]/\H l=some (.lst a)/\a.length<sizeLine/\Q .non (upd H l (.lst (a++[y])))
theorem A2e:MtM X "list.append" D5z:=by
 intro b s Z H x o v k Q I d f h;obtain ⟨l,i,y,rfl,rfl,c,m,q⟩:=h;cases d;obtain ⟨u,rfl,g⟩:=f.one;obtain ⟨z,a,n,r,j,e⟩:=I.lstM c;refine call_meets F.slot_list_append (i02 _ e rfl) F.entry_list_append (F.args_list_append_2 _ _) (PySem.list_append l a.toArray n u (by rw [Z0g];lia)) ⟨e,?_⟩;refine i0f .non _ (I.lset (its':=a++[u]) c e (by simp) (r.append (.cons g .nil)) ?_) rfl q;rw [Z06,Z0j]
 lia
def D4t:V->List V->Hp->VK->Prop:=λx d H Q=>∃l b a c,x= .ref l/\d=[.ref b]/\H l=some (.lst a)/\H b=some (.lst c)/\a.length+c.length<=sizeLine/\Q .non (upd H l (.lst (a++c)))
theorem B3f:MtM X "list.extend" D4t:=by
 intro i s Z H x J v G Q I k m h;obtain ⟨l,b,A,B,rfl,rfl,g,w,D,q⟩:=h;cases k;obtain ⟨u,rfl,t⟩:=m.one;cases t;obtain ⟨z,c,n,r,C,e⟩:=I.lstM g;obtain ⟨K,a,y,p,j,o⟩:=I.lstM w;have f:c.toArray.size+a.toArray.size<=sizeLine:=by rw [Z0g,Z0g];lia
 have d:¬(! c.toArray.isEmpty&&Builtin.List.listTooLong (c.toArray.size+a.toArray.size))=true:=by
  rw [D1z f,Bool.and_false];exact Z0v
 refine call_meets F.slot_list_extend (i02 _ e rfl) F.entry_list_extend (F.args_list_extend_2 _ _)
  (AutoSeq1.list_extend_list_list_0 l c.toArray n b a.toArray y d (by rw [Z0g];lia) (by lia)) (i00 e o ?_)
 refine i0f .non _ (I.lset (its':=c++a) g e (by simp) (r.append p) ?_) rfl q;rw [Z06]
 lia
def rCat:R2:=λx y H Q=>∃l b a c,x= .ref l/\y= .ref b/\H l=some (.lst a)/\H b=some (.lst c)/\a.length+c.length<=sizeLine/\∀p,H p=none->Q (.ref p) (upd H p (.lst (a++c)))
theorem B0b:OpR X (binaryOp .Add) rCat:=by
 intro d s Z H x y v u Q I j f h;obtain ⟨l,b,t,w,rfl,rfl,g,p,B,q⟩:=h;cases j;cases f;obtain ⟨z,c,n,r,A,e⟩:=I.lstM g;obtain ⟨C,a,D,m,i,k⟩:=I.lstM p;refine PySem.P.add_list e k ?_ (by rw [Z0g,Z0g];lia);have o:c.toArray++a.toArray=(c++a).toArray:=by simp
 rw [o];exact i0f (.ref _) _ (I.lnew (t':=s.toks) (r.append m) (by rw [Z06];lia)) rfl (q _ I.fresh)
end
section
variable {prog:Program} {w:World} {A:Around} {E:Value->Shared->Prop} {s:Shared}
set_option maxRecDepth 100000 in
end
section
variable {X:Cx}
end
section
variable {κ:Type} [DecidableEq κ]
def A5k (kvs:List (κ×V)) (k:κ):Option V:=(kvs.find? λa=>decide (a.1=k)).map (·.2)
def A7z (kvs:List (κ×V)) (k:κ) (v:V):List (κ×V) :=
 if (kvs.any λa=>decide (a.1=k))=true then kvs.map (λa=>if a.1=k then (a.1,v) else a) else kvs++[(k,v)]
theorem A4d {p:κ×V} {r:List (κ×V)} {k:κ} (e:p.1=k):A5k (p::r) k=some p.2:=by simp [A5k,Z2h,e]
theorem A4c {p:κ×V} {r:List (κ×V)} {k:κ} (e:¬p.1=k):A5k (p::r) k=A5k r k:=by simp [A5k,Z2h,e]
theorem B2q (k:κ):∀kvs:List (κ×V),(kvs.any λkv=>decide (kv.1=k))=(A5k kvs k).isSome
 | []=>rfl
 | p::r=>by
  rw [List.any_cons];by_cases e:p.1=k
  ·simp only [A4d e,Z20 e,Bool.true_or,Option.isSome_some]
  ·rw [A4c e,Z1j e,Bool.false_or];exact B2q k r
theorem C3v (k j:κ) (y:V):∀kvs:List (κ×V),A5k (kvs.map λkv=>if kv.1=k then (kv.1,y) else kv) j=(A5k kvs j).map λx=>if j=k then y else x
 | []=>rfl
 | p::r=>by
  have a:=C3v k j y r;rw [Z0p];by_cases h:p.1=k
  ·rw [Z12 h];by_cases e:p.1=j
   ·rw [A4d (p:=(p.1,y)) e,A4d e,Option.map_some,Z12 (e.symm.trans h)]
   ·rw [A4c (p:=(p.1,y)) e,A4c e,a]
  ·rw [Z0t h];by_cases e:p.1=j
   ·rw [A4d (p:=p) e,A4d e,Option.map_some,Z0t (λz=>h (e.trans z))]
   ·rw [A4c (p:=p) e,A4c e,a]
theorem B4m (k j:κ) (y:V):∀kvs:List (κ×V),A5k kvs k=none->A5k (kvs++[(k,y)]) j=if j=k then some y else A5k kvs j
 | [],_=>by
  by_cases e:k=j
  ·rw [Z12 e.symm];exact A4d (p:=(k,y)) e
  ·rw [Z0t (λz=>e z.symm)];exact A4c (p:=(k,y)) e
 | p::r,hn=>by
  rw [List.cons_append];have a:¬p.1=k:=λz=>by rw [A4d z] at hn;cases hn
  rw [A4c a] at hn;have b:=B4m k j y r hn;by_cases e:p.1=j
  ·rw [A4d e,A4d e,Z0t (λz=>a (e.trans z))]
  ·rw [A4c e,A4c e,b]
theorem D3d (kvs:List (κ×V)) (k j:κ) (y:V):A5k (A7z kvs k y) j=if j=k then some y else A5k kvs j:=by
 unfold A7z;by_cases a:(kvs.any λb=>decide (b.1=k))=true
 ·rw [Z12 a,C3v];rw [B2q] at a;by_cases e:j=k
  ·obtain ⟨x,c⟩:=Option.isSome_iff_exists.mp a;rw [Z12 e,e,c,Option.map_some,Z12 rfl]
  ·rw [Z0t e]
   cases A5k kvs j with
   | none=>rfl
   | some x=>rw [Option.map_some,Z0t e]
 ·rw [Z0t a];refine B4m k j y kvs ?_;rw [B2q] at a
  cases q:A5k kvs k with
  | none=>rfl
  | some x=>rw [q] at a;exact (a rfl).elim
theorem A7q (kvs:List (κ×V)) (k:κ) (v:V):(A7z kvs k v).length<=kvs.length+1:=by
 unfold A7z;split
 ·rw [Z08];lia
 ·rw [Z06,Z0y,Z2g];lia
theorem B7r.isSome_eq {u:Option Value} (r:B7r o u):o.isSome=u.isSome:=by
 cases o with
 | none=>cases u with
  | none=>rfl
  | some _=>exact (show False from r).elim
 | some _=>cases u with
  | none=>exact (show False from r).elim
  | some _=>rfl
theorem B7r.getD {u:Option Value} {d:V} {d':Value} (r:B7r o u) (a:A3c d d'):A3c (o.getD d) (u.getD d'):=by
 cases o with
 | none=>cases u with
  | none=>exact a
  | some _=>exact (show False from r).elim
 | some _=>cases u with
  | none=>exact (show False from r).elim
  | some _=>exact r
theorem KV.val {kvs:List (κ×V)} {vs:List (κ×Value)} (r:KV kvs vs) (k:κ):B7r (A5k kvs k) (valueAt vs k):=by
 unfold KV at r
 induction r with
 | nil=>exact True.intro
 | @cons p q ps qs h t ih =>
  obtain ⟨c,d⟩:=h;by_cases e:p.1=k
  ·have a:q.1=k:=c.symm.trans e;have b:valueAt (q::qs) k=some q.2:=by simp [valueAt,Z2h,a]
   rw [A4d e,b];exact d
  ·have a:¬q.1=k:=λz=>e (c.trans z);have b:valueAt (q::qs) k=valueAt qs k:=by simp [valueAt,Z2h,a]
   rw [A4c e,b];exact ih
theorem KV.any {kvs:List (κ×V)} {vs:List (κ×Value)} (r:KV kvs vs) (k:κ):(kvs.any λkv=>decide (kv.1=k))=vs.any λkv=>decide (kv.1=k):=by
 unfold KV at r
 induction r with
 | nil=>rfl
 | cons h t ih=>rw [List.any_cons,List.any_cons,ih,h.1]
theorem KV.repl {kvs:List (κ×V)} {vs:List (κ×Value)} (r:KV kvs vs) (k:κ) (c:A3c y u) :
  KV (kvs.map λkv=>if kv.1=k then (kv.1,y) else kv) (vs.map λkv=>if kv.1=k then (kv.1,u) else kv):=by
 unfold KV at r⊢
 induction r with
 | nil=>exact .nil
 | @cons p q ps qs h t ih =>
  rw [Z0p,Z0p];refine .cons ?_ ih;obtain ⟨a,b⟩:=h;by_cases e:p.1=k
  ·rw [Z12 e,Z12 (a.symm.trans e)];exact ⟨a,c⟩
  ·rw [Z0t e,Z0t (λz=>e (a.trans z))];exact ⟨a,b⟩
theorem KV.put {kvs:List (κ×V)} {vs:List (κ×Value)} (r:KV kvs vs) (k:κ) (a:A3c y u):KV (A7z kvs k y) (stored vs k u):=by
 unfold A7z stored;rw [r.any k];by_cases e:(vs.any λb=>decide (b.1=k))=true
 ·rw [Z12 e,Z12 e];exact r.repl k a
 ·rw [Z0t e,Z0t e];exact Paired.snoc r ⟨rfl,a⟩
theorem KV.length {kvs:List (κ×V)} {vs:List (κ×Value)} (r:KV kvs vs):kvs.length=vs.length:=Paired.length r
end
theorem C2d {k:Key} (r:A3c (kV k) u):(A1x P w).is k u=true:=by
 cases k with
 | inl i=>obtain ⟨t,e⟩:=(show∃t,u=Value.int i t from r);subst e;exact C1h P w i t
 | inr x=>obtain ⟨t,e⟩:=(show∃t,u=Value.str x t from r);subst e;exact C1c P w x t
theorem B8b {P:Program} {w:World}:∀{ks:List Key} {us:List Value},A3z (ks.map kV) us->ItemsAre (A1x P w) ks us
 | [],_,r=>by rw [List.map_nil] at r;cases r;exact .nil
 | k::ks,_,r=>by
  rw [Z0p] at r
  cases r with
  | cons h t=>exact .cons (C2d h) (B8b t)
abbrev KT (H:Hp):List (List Key×V)->List (List Key×Addr×Value)->Prop:=Paired λp q=>p.1=q.1/\H q.2.1=some (.tup (p.1.map kV))/\A3c p.2 q.2.2
theorem KT.val (r:KT H kvs xs) (k:List Key):B7r (A5k kvs k) ((atKey xs k).map (·.2)):=by
 induction r with
 | nil=>exact True.intro
 | @cons p q ps qs h t ih =>
  obtain ⟨c,_,d⟩:=h;by_cases e:p.1=k
  ·have a:q.1=k:=c.symm.trans e;have b:atKey (q::qs) k=some q.2:=by simp [atKey,Z2h,a]
   rw [A4d e,b];exact d
  ·have a:¬q.1=k:=λz=>e (c.trans z);have b:atKey (q::qs) k=atKey qs k:=by simp [atKey,Z2h,a]
   rw [A4c e,b];exact ih
theorem KT.repl (r:KT H kvs xs) (k:List Key) (c:A3c y u) :
  KT H (kvs.map λkv=>if kv.1=k then (kv.1,y) else kv) (xs.map (putAt k u)):=by
 induction r with
 | nil=>exact .nil
 | @cons p q ps qs h t ih =>
  rw [Z0p,Z0p];refine .cons ?_ ih;obtain ⟨a,b,d⟩:=h;unfold putAt;by_cases e:p.1=k
  ·rw [Z12 e,Z12 (a.symm.trans e)];exact i00 a b c
  ·rw [Z0t e,Z0t (λz=>e (a.trans z))];exact i00 a b d
theorem KT.put (r:KT H kvs xs) (k:List Key) {b:Addr} (c:H b=some (.tup (k.map kV))) (a:A3c y u) :
  KT H (A7z kvs k y) (storedH xs k b u):=by
 have e:(kvs.any λd=>decide (d.1=k))=(atKey xs k).isSome:=by
  rw [B2q,(r.val k).isSome_eq,Option.isSome_map]
 unfold A7z storedH;rw [e];by_cases q:(atKey xs k).isSome=true
 ·rw [Z12 q,Z12 q];exact r.repl k a
 ·rw [Z0t q,Z0t q];exact Paired.snoc r (i00 rfl c a)
theorem KT.keeps {H':Hp} (r:KT H kvs xs) (a:∀b ys,H b=some (.tup ys)->H' b=some (.tup ys)):KT H' kvs xs :=
 Paired.mapP r λ_ _ z=>(i00 z.1 (a _ _ z.2.1) z.2.2)
section
variable {P:Program} {w:World} {H:Hp} {h:Heap} {a:Addr}
theorem E1t {u:HO} (b:HOk P w H h) (e:Rd H a u):A2q P w H h a u:=e.ok b
theorem B4t {kvs:List (Key×V)} (b:HOk P w H h) (e:Rd H a (.dK kvs)):kvs.length<=sizeLine/\(a == sysModules)=false/\∃vs,KV kvs vs/\h.DictOf (A1x P w) a vs :=
 show A2q P w H h a (.dK kvs) from E1t b e
theorem C6d {kvs:List (Key×V)} (b:HOk P w H h) (e:H a=some (.dK kvs)):kvs.length<=sizeLine/\(a == sysModules)=false/\∃vs,KV kvs vs/\h.DictOf (A1x P w) a vs:=B4t b (.inl e)
theorem B9x {ks:List Key} (c:HOk P w H h) (e:H a=some (.tup (ks.map kV))):(tupleKind (A1x P w)).is h ks a:=by
 obtain ⟨_,b,r,o,d,f,n,g⟩:=(show A2q P w H h a (.tup (ks.map kV)) from c a _ e);exact i0r o b.toArray n d f g (by simpa using B8b r)
theorem B4s (d:HOk P w H h) (e:Rd H a (.dT kvs)):kvs.length<=sizeLine/\(a == sysModules)=false/\
  ∃xs,KT H kvs xs/\h.DictOfH (tupleKind (A1x P w)) a xs:=by
 obtain ⟨z,y,xs,r,o,j,f,g,n,s,k,i⟩:=(show A2q P w H h a (.dT kvs) from E1t d e);refine i0a z y xs r ⟨o,(i0t j f g n s k (λx b=> ?_) i)⟩
 have c:∀{l:List (List Key×V)} {m:List (List Key×Addr×Value)},KT H l m->∀x∈m,(tupleKind (A1x P w)).is h x.1 x.2.1:=by
  intro l m q
  induction q with
  | nil=>intro x b;exact nomatch b
  | @cons p q ps qs hq t ih =>
   intro x b;rcases Z0e.mp b with e | b
   ·subst e;exact B9x d (by rw [<-hq.1];exact hq.2.1)
   ·exact ih x b
 exact c r x b
theorem E4a (b:HOk P w H h) (e:H a=some (.dT kvs)):kvs.length<=sizeLine/\(a == sysModules)=false/\
  ∃xs,KT H kvs xs/\h.DictOfH (tupleKind (A1x P w)) a xs:=B4s b (.inl e)
end
def A9e (H:Hp) (a:Addr) (y:V) (r:Option V):Prop :=
 (∃c k,Rd H a (.dK c)/\y=kV k/\r=A5k c k)\/∃c k b,Rd H a (.dT c)/\y= .ref b/\H b=some (.tup (k.map kV))/\r=A5k c k
def C0g (H:Hp) (a:Addr) (y v:V) (H':Hp):Prop :=
 (∃c k,H a=some (.dK c)/\y=kV k/\c.length<sizeLine/\H'=upd H a (.dK (A7z c k v)))\/
 ∃c k b,H a=some (.dT c)/\y= .ref b/\H b=some (.tup (k.map kV))/\c.length<sizeLine/\H'=upd H a (.dT (A7z c k v))
theorem A9e.k {kvs:List (Key×V)} {k:Key} (e:H a=some (.dK kvs)):A9e H a (kV k) (A5k kvs k):= .inl (i0f kvs k (.inl e) rfl rfl)
theorem A9e.t {b:Addr} {k:List Key} (e:H a=some (.dT kvs)) (c:H b=some (.tup (k.map kV))):A9e H a (.ref b) (A5k kvs k):= .inr (i0r kvs k b (.inl e) rfl c rfl)
theorem C0g.k {kvs:List (Key×V)} {k:Key} {v:V} (e:H a=some (.dK kvs)) (b:kvs.length<sizeLine):C0g H a (kV k) v (upd H a (.dK (A7z kvs k v))):= .inl (i0m kvs k e rfl b rfl)
theorem C0g.t {b:Addr} {k:List Key} {v:V} (e:H a=some (.dT kvs)) (c:H b=some (.tup (k.map kV))) (d:kvs.length<sizeLine) :
  C0g H a (.ref b) v (upd H a (.dT (A7z kvs k v))):= .inr (i0u kvs k b e rfl c d rfl)
section
variable {X:Cx} {pins:List (Addr×Obj)} {Z:St} {H:Hp} {s:Shared} {a:Addr} {y v:V} {u r:Value} {o:Option V} {A:Around} {E:Value->Shared->Prop}
theorem Inv.big (I:Inv X pins Z H s):sysModules<s.heap.objs.size:=by
 have h:mainGlobals<s.heap.objs.size:=(I.mod.glob.keeps I.bk).lt;exact Nat.lt_trans (by decide) h
theorem C6s (x:A.units+1<cLine) (I:Inv X pins Z H s) (g:A9e H a y (some v)) (r:A3c y u) (h:∀f s',Inv X pins Z H s'->A3c v f->Q f s') :
  wpAny (model X.prog X.w) A (getItem (.ref a) u) Q E s:=by
 rcases g with ⟨q,k,e,i,l⟩ | ⟨q,k,b,e,i,C,l⟩
 ·subst i;obtain ⟨z,B,F,c,n⟩:=B4t I.hok e;obtain ⟨f,j,d⟩:=B7r.some_of (v:=v) (o:=valueAt F k) (by rw [l];exact c.val k);exact wpAny_getItem_of (C2d r) n.mapOf j (h f _ (I.tok _) d)
 ·subst i;cases (show u=Value.ref b from r);obtain ⟨z,B,t,c,n⟩:=B4s I.hok e;obtain ⟨f,j,d⟩:=B7r.some_of (v:=v) (o:=(atKey t k).map (·.2)) (by rw [l];exact c.val k);obtain ⟨p,D,m⟩:=Z0i.mp j;refine wpAny_getItem_heap (tupleKind_room_in1 x) (B9x I.hok C) n D ?_;rw [m];exact h f _ (I.tok _) d
theorem D7e (n:A.units+1<cLine) (I:Inv X pins Z H s) (g:A9e H a y o) (m:A3c y u) (h:∀s',Inv X pins Z H s'->Q (.bool (! o.isSome)) s') :
  wpAny (model X.prog X.w) A (compareOp .NotIn u (.ref a)) Q E s:=by
 rcases g with ⟨j,k,e,d,l⟩ | ⟨j,k,b,e,d,p,l⟩
 ·subst d;obtain ⟨z,f,t,c,i⟩:=B4t I.hok e;refine wpAny_notIn_of (C2d m) f i.mapOf ?_;rw [<-(c.val k).isSome_eq,<-l];exact h _ (I.tok _)
 ·subst d;cases (show u=Value.ref b from m);obtain ⟨z,f,r,c,i⟩:=B4s I.hok e;refine wpAny_notIn_heap (tupleKind_room_in1 n) (B9x I.hok p) f i ?_;have q:=(c.val k).isSome_eq;rw [Option.isSome_map] at q;rw [<-q,<-l];exact h _ (I.tok _)
theorem C6r {h':Heap} {d:HO} (I:Inv X pins Z H s) (g:Mut (H a)) (h:Heap.SameBut a s.heap h') (f:∃q,h'.get? a=some q) (c:A2q X.prog X.w (upd H a d) h' a d) :
  Inv X pins Z (upd H a d) { s with heap:=h',toks:=t' } :=
 I.write (x:=a) (e:=a) g (.inl rfl) (λb q i z=>(h.2 b i).trans z) f c
theorem D8y {H':Hp} {h':Heap} {kvs:List (Key×V)} {vs:List (Key×Value)} (z:kvs.length<=sizeLine) (c:(a == sysModules)=false) (b:KV kvs vs) (d:h'.DictOf (A1x P w) a vs) :
  A2q P w H' h' a (.dK kvs):=(i0a z c vs b d)
theorem C6w {H':Hp} {Q:Unit->Shared->Prop} (M:A.units+1<cLine) (I:Inv X pins Z H s) (g:C0g H a y v H') (C:A3c y u) (D:A3c v r) (h:∀s',Inv X pins Z H' s'->Q () s') :
  wpAny (model X.prog X.w) A (setItem (.ref a) u r) Q E s:=by
 rcases g with ⟨f,k,e,m,l,n⟩ | ⟨f,k,b,e,m,J,l,n⟩
 ·subst m n;obtain ⟨z,p,T,d,B⟩:=C6d I.hok e;have t:T.length<=sizeLine:=by rw [<-d.length];exact z
  have o:(A7z f k v).length<=sizeLine:=by have:=A7q f k v;lia
  refine wpAny_setItem_pairs (hsz:=t) (C2d C) B λF i x=>h _ ?_;have S:∃q,F.get? a=some q:=let ⟨q,_,_,j,_⟩:=i;⟨q,j⟩;exact C6r I (by rw [e];exact True.intro) x S (D8y o p (d.put k D) i)
 ·subst m n;cases (show u=Value.ref b from C);obtain ⟨z,p,L,d,B⟩:=E4a I.hok e;have t:L.length<=sizeLine:=by rw [<-Paired.length d];exact z
  have o:(A7z f k v).length<=sizeLine:=by have:=A7q f k v;lia
  refine wpAny_setItem_heap (hsz:=t) (tupleKind_room_in1 M) (B9x I.hok J) B λF i x=>h _ ?_;obtain ⟨q,O,K,j,P,R,U,_,N⟩:=i;refine C6r I (by rw [e];exact True.intro) x ⟨q,j⟩ (i0a o p _ ((d.put k J D).keeps λc W G=> ?_) (i0u q O K j P R U N));rw [A0i (A3m G e (λz=>nomatch z))];exact G
end
section
variable {X:Cx} {pins:List (Addr×Obj)} {Z:St} {H:Hp} {s:Shared} {a:Addr} {kvs:List (Key×V)} {k:Key} {u:Value} {A:Around} {E:Value->Shared->Prop}
theorem E3b (I:Inv X pins Z H s) (e:Rd H a (.dK kvs)) (h:∀t s',Inv X pins Z H s'->Q (.int kvs.length t) s'):wpAny (model X.prog X.w) A (call (.builtin "len") [.ref a]) Q E s:=by
 obtain ⟨z,c,f,b,d⟩:=B4t I.hok e;refine call_len_dict c d (by rw [<-b.length];rw [sizeLine_eq] at z;lia) ?_;rw [<-b.length];exact h _ _ (I.tok _)
end
def E4f (i:Expr):Prop:=∀a b,subscripted i false a b=operate [a,b] (getItem a b)
theorem D5t {prog:Program} {A:Around} {E:Value->Shared->Prop} {b:Env} {value a:Expr} {pos:Pos} {T id:String}
  (g:typeLookup (.type T) "__getitem__"=pure (some (.builtin id))) (j:E4f a)
  (h:wpAny (model prog w) A (eval value b) (λo s₁=>wpAny (model prog w) A (eval a b) (λi s₂=>s₂.TypeIs o T/\wpAny (model prog w) A (getItem o i) Q E s₂) E s₁) E s) :
  wpAny (model prog w) A (eval (.Subscript value a pos) b) Q E s:=by
 refine Subscript_ (Z10 h (λo s₁ k=>Z10 k (λi s₂ c=> ?_) λ_ _ x=>x) λ_ _ x=>x);obtain ⟨d,c⟩:=c;unfold subscriptTail;refine Z00 ?_;rw [getitemInPython_of_ne d.not_modules];refine Z00 (wpAny_specialOf d g ?_)
 have fin:wpAny (model prog w) A (subscripted a false o i) (λr e=>wpAny (model prog w) A (letTemporaryGo value o r >>= λ_=>pure r) Q E e) E s₂:=by
  rw [j o i];exact wpAny_operating (Z10 c (λr e f=>Z00 (wpAny_letTemporaryGo (Z04 f))) λ_ _ x=>x)
 first
  | exact Z04 (Z00 fin)
  | exact Z00 (Z04 (Z00 fin))
  | exact Z00 fin
theorem C1t {X:Cx} {Z:St} (I:Inv X pins Z H s) (g:A9e H a y o):s.TypeIs (.ref a) "dict":=by
 rcases g with ⟨d,k,e,_,_⟩ | ⟨d,k,b,e,_,_,_⟩
 ·obtain ⟨_,_,h,_,c⟩:=B4t I.hok e;exact c.typeIs
 ·obtain ⟨_,_,f,_,c⟩:=B4s I.hok e;exact c.typeIs
def E3t (td ty:TE):TE:=λZ H Q=>td Z H λx c=>ty Z c λy b=>∃a v,x= .ref a/\A9e b a y (some v)/\Q v b
def D5k (ty td:TE):TE:=λZ H Q=>ty Z H λy c=>td Z c λx b=>∃a o,x= .ref a/\A9e b a y o/\Q (.bl (! o.isSome)) b
def E3f (td ty tv:TE):TS:=λD Z H=>tv Z H λv d=>td Z d λx c=>ty Z c λy e=>∃a b,x= .ref a/\C0g e a y v b/\D.nx Z b
section
variable {X:Cx} {o i e value:Expr} {pos pos' tpos:Pos} {td ty tv:TE}
theorem A2u (d:X.A.units+1<cLine) (l:PE X o td) (hi:PE X i ty) (n:E4f i):PE X (.Subscript o i pos) (E3t td ty):=by
 intro b s Z H Q I h;refine D5t PySem.F.slot_dict_getitem.lookup n (thn (l b s Z H _ I h) ?_);rintro u k ⟨x,q,I1,j,m⟩;refine thn (hi b k Z q _ I1 m) ?_;rintro B z ⟨y,p,I2,f,a,v,r,g,e⟩;subst r;obtain rfl:u=Value.ref a:=j;exact ⟨C1t I2 g,C6s d I2 g f λt w I3 c=>(i0f v p I3 c e)⟩
theorem C9u (d:X.A.units+1<cLine) (hi:PE X i ty) (p:PE X o td):PC X .NotIn i o (D5k ty td):=by
 intro b s Z H Q I h;refine thn (hi b s Z H _ I h) ?_;rintro t n ⟨y,e,I1,j,q⟩;refine thn (p b n Z e _ I1 q) ?_;rintro u v ⟨x,c,I2,k,a,l,m,g,f⟩;subst m;obtain rfl:u=Value.ref a:=k;exact D7e d I2 g j λr I3=>(i0f (.bl (! l.isSome)) c I3 rfl f)
theorem A6k (c:X.A.units+1<cLine) (m:PE X o td) (hi:PE X i ty) (q:PE X value tv) (p:swapsWith value (some (.Subscript o i pos')) pos.line X.env=pure false) :
  PS X (.Assign [.Subscript o i pos'] value pos) (E3f td ty tv):=by
 intro b s Z H D I h;refine wpAny_Assign_Subscript (thn (q b s Z H _ I h) ?_) p;rintro r l ⟨v,w,I1,j,n⟩;refine thn (m b l Z w _ I1 n) ?_;rintro u B ⟨x,t,I2,f,d⟩;refine thn (hi b B Z t _ I2 d) ?_;rintro K G ⟨y,F,I3,e,a,C,z,g,k⟩;subst z;obtain rfl:u=Value.ref a:=f;exact C6w c I3 g e j λJ I4=>(i07 Z C I4 k)
end
theorem D2i (h:Heap) (a:sysModules<h.objs.size):A2q P w H (h.push { cls:= .type "dict",data:= .dict #[] }) h.objs.size (.dK []) :=
 (i0a (Z1e _) (Z22.mpr (Ne.symm (Z0h a))) [] .nil (Heap.DictOf.new h))
theorem D1g (h:Heap) (a:sysModules<h.objs.size):A2q P w H (h.push { cls:= .type "dict",data:= .dict #[] }) h.objs.size (.dT []) :=
 (i0a (Z1e _) (Z22.mpr (Ne.symm (Z0h a))) [] .nil (i0u _ (#[]) 0 (Z0c _ rfl) (i00 rfl rfl rfl) rfl rfl List.nodup_nil))
def D9k:TE:=λ_ H Q=>∀p,H p=none->Q (.ref p) (upd H p (.dK []))
def E1p:TE:=λ_ H Q=>∀p,H p=none->Q (.ref p) (upd H p (.dT []))
section
variable {X:Cx} {pos:Pos}
theorem B2p:PE X (.Dict [] [] pos) D9k:=λb s Z H Q I h =>
 wpAny_Dict_empty (i0f (.ref s.heap.objs.size) _ (I.laid (a:=s.heap.objs.size) (o:= .dK []) (t':=s.toks) (λ_ _ q=>Z01 _ q) (Z09 _) (D2i s.heap I.big)) rfl (h _ (I.hok.fresh (Z09 _))))
theorem C2o:PE X (.Dict [] [] pos) E1p:=λb s Z H Q I h =>
 wpAny_Dict_empty (i0f (.ref s.heap.objs.size) _ (I.laid (a:=s.heap.objs.size) (o:= .dT []) (t':=s.toks) (λ_ _ q=>Z01 _ q) (Z09 _) (D1g s.heap I.big)) rfl (h _ (I.hok.fresh (Z09 _))))
end
def A4g (kvs a:List (Key×V)):List (Key×V):=a.foldl (λb c=>A7z b c.1 c.2) kvs
theorem KV.merge:∀{a:List (Key×V)} {rs:List (Key×Value)} {kvs:List (Key×V)} {vs:List (Key×Value)},KV a rs->KV kvs vs->KV (A4g kvs a) (merged vs rs):=by
 intro a rs kvs vs r;unfold KV at r
 induction r generalizing kvs vs with
 | nil=>intro q;exact q
 | @cons p q ps qs h t ih =>
  intro b
  have e:KV (A7z kvs p.1 p.2) (stored vs q.1 q.2):=by
   have:=b.put p.1 h.2;rw [<-h.1];exact this
  exact ih e
theorem A7m:∀(a kvs:List (Key×V)),(A4g kvs a).length<=kvs.length+a.length
 | [],kvs=>by show kvs.length<=kvs.length+0;lia
 | p::r,kvs=>by
  have c:=A7m r (A7z kvs p.1 p.2);have b:=A7q kvs p.1 p.2;show (A4g (A7z kvs p.1 p.2) r).length<=_;rw [Z0y];lia
structure M2 (X:Cx) (o:Expr) (m:Str) (apos:Pos) (e f:Expr) (cpos:Pos):Prop where
 base:attributeBase o m X.env (eval o X.env)=eval o X.env
 few:((backTo cpos (starEach [e,f] X.env)).all (λx=> ! x.1)&&(backToKw cpos (keywordEach [] X.env)).all (λx=>x.1.isSome)
  && decide (([e,f]:List Expr).length+([]:List Keyword).length+(if ([]:List Keyword).isEmpty then 0 else 1)<30))=true
 line:(apos.endLine == cpos.line)=true
 trees:backTo cpos (starEach [e,f] X.env)=[(false,eval e X.env),(false,eval f X.env)]
def IsD (H:Hp) (a:Addr):Prop:=(∃b,Rd H a (.dK b))\/∃b,Rd H a (.dT b)
theorem E1b {X:Cx} {Z:St} (I:Inv X pins Z H s) (d:IsD H a) :
  s.TypeIs (.ref a) "dict"/\(∀b,Value.ref a= .ref b->∃c,s.heap.get? b=some c/\c.dict=none)/\(a == sysModules)=false:=by
 rcases d with ⟨j,e⟩ | ⟨j,e⟩
 ·obtain ⟨_,h,l,_,f⟩:=B4t I.hok e;refine i00 f.typeIs (λb q=> ?_) h;cases q;obtain ⟨c,_,_,g,i,_⟩:=f;exact i02 c g i.2.1
 ·obtain ⟨_,h,k,_,f⟩:=B4s I.hok e;refine i00 f.typeIs (λb q=> ?_) h;cases q;obtain ⟨c,_,_,g,i,_⟩:=f;exact i02 c g i.2.1
section
variable {X:Cx} {pins:List (Addr×Obj)} {Z:St} {H:Hp} {s:Shared} {a:Addr} {y d:V} {u r:Value} {o:Option V} {A:Around} {E:Value->Shared->Prop}
theorem E0c (v:A.units+1<cLine) (I:Inv X pins Z H s) (g:A9e H a y o) (n:A3c y u) (p:A3c d r) (h:∀q s',Inv X pins Z H s'->A3c (o.getD d) q->Q q s') :
  wpAny (model X.prog X.w) A (call (.builtin "dict.get") [.ref a,u,r]) Q E s:=by
 rcases g with ⟨m,k,e,i,l⟩ | ⟨m,k,b,e,i,x,l⟩
 ·subst i;obtain ⟨z,j,B,c,f⟩:=B4t I.hok e;refine call_meetsIn PySem.F.slot_dict_get f.typeIs PySem.F.entry_dict_get (PySem.F.args_dict_get_3 _ _ _) (meets_dict_get_default (A1x X.prog X.w) a (C2d n) j r) (i02 _ f.mapOf (h _ _ (I.tok _) ?_));rw [l];exact (c.val k).getD p
 ·subst i;cases (show u=Value.ref b from n);obtain ⟨z,j,t,c,f⟩:=B4s I.hok e;refine call_meetsIn PySem.F.slot_dict_get f.typeIs PySem.F.entry_dict_get (PySem.F.args_dict_get_3 _ _ _) (meetsH_dict_get_default (tupleKind (A1x X.prog X.w)) a b j r) (i0i (tupleKind_room_in1 v) k t (B9x I.hok x) f (h _ _ (I.tok _) ?_));rw [l];exact (c.val k).getD p
end
def E1n (td ty tx:TE):TE:=λZ H Q=>td Z H λx b=>∃a,x= .ref a/\IsD b a/\ty Z b λy d=>tx Z d λz c=>∃o,A9e c a y o/\Q (o.getD z) c
section
variable {X:Cx} {o e f:Expr} {apos cpos:Pos} {td ty tx:TE}
theorem C3u (i:X.A.units+1<cLine) (v:PE X o td) (D:PE X e ty) (G:PE X f tx) (m:M2 X o "get" apos e f cpos):PE X (.Call (.Attribute o "get" apos) [e,f] [] cpos) (E1n td ty tx):=by
 intro b s Z H Q I h;refine wpAny_Call_method m.base m.few m.line PySem.F.plainAttrs_dict PySem.F.slot_dict_get PySem.F.type_dict_get (thn (v b s Z H _ I h) ?_);rintro u t ⟨x,J,I1,n,a,K,d,w⟩;subst K;obtain rfl:u=Value.ref a:=n;obtain ⟨B,q,_⟩:=E1b I1 d;refine i00 B q ?_;rw [m.trees]
 refine Calls.callWith_builtin rfl (Calls.evalArgs_plain (Calls.spliced_cons (thn (D b t Z J _ I1 w) λS L ⟨y,C,I2,l,k⟩ =>
  Calls.spliced_cons (thn (G b L Z C _ I2 k) λP O ⟨z,j,I3,p,M,g,r⟩=>Calls.spliced_nil ?_))))
 exact E0c i I3 g l p λN R I4 c=>(i0f _ j I4 c r)
end
section
variable {X:Cx} {pins:List (Addr×Obj)} {Z:St} {H:Hp} {s:Shared} {a:Addr} {kvs:List (Key×V)} {A:Around} {E:Value->Shared->Prop}
end
section
variable {X:Cx} {pins:List (Addr×Obj)} {Z:St} {H:Hp} {s:Shared} {a:Addr} {y:V} {u:Value} {A:Around} {E:Value->Shared->Prop}
end
end L2
namespace Att
open PySem PySem.W PySem.Calls PyProof.Rows
theorem B2s {P:Params} {h:Heap}:∀(ns:List Int) (vs:List Value),WellAll P h vs (ns.map WData.int)->IntsAre vs ns:=by
 intro ns
 induction ns with
 | nil =>
  intro vs w;rw [List.map_nil] at w;cases w;exact .nil
 | cons n ns ih =>
  intro vs w;rw [Z0p] at w
  cases w with
  | cons a b =>
   cases a
   exact .cons _ _ (ih _ b)
theorem C8f {l:OpenLaw} {n:Nat} (p:l.most=some n) {P:Params} {h:Heap} {args:List WData} {b:List Value}
  (c:l.row.toRowW.claim.pre args=true) (j:WellAll P h b args) :
  ∃a vs ns,b=[Value.ref a]/\args=[WData.list (ns.map WData.int)]/\h.get? a=some { cls:= .type "list",data:= .seq vs.toArray }/\IntsAre vs ns/\ns.length<=n:=by
 have i:WShape.hasAll [] args [.list .int]=true:=(pre_splitW c).1;have k:l.pre.holds [] { args:=args }=true:=(pre_splitW c).2;obtain ⟨d,r,rfl,m,s⟩:=hasAllW_cons i;obtain rfl:=hasAllW_nil s;obtain ⟨u,rfl,t⟩:=hasW_list m;obtain ⟨ns,rfl⟩:=items_int t
 have e:ns.length<=n:=by
  unfold OpenLaw.pre at k
  have g:(WTm.not (.lt (.lit (.int (n:Int))) (.len (.arg 0)))).holds [] { args:=[.list (ns.map .int)] }=true:=by
   have g:=(holds_andW k).1;rw [p] at g;exact g
  have f:=condW_of g (w_not (w_lt w_lit (w_len_list (w_arg rfl))));rw [Z08] at f;refine Nat.le_of_not_lt λq=> ?_;have o:(n:Int)<((ns.length:Nat):Int):=by lia
  first
   | (rw [Z20 o] at f;exact absurd f (by decide))
   | (simp at f;lia)
 cases j with
 | cons w1 w2 =>
  cases w2
  cases w1 with
  | list ho hall=>exact i0u _ _ ns rfl rfl ho (B2s ns _ hall) e
theorem C8h (l:OpenLaw) (args:List WData):l.row.toRowW.claim.post args (.bool true) args=true :=
 postW_of (r:=l.row.toRowW) (X:=(true == true))
  (show WShape.has [] (.bool true) .bool=true by first | rfl | decide | simp [WShape.has,WShape.arms,WShape.armsAll])
  (show (WTm.eq .res (.lit (.bool true))).value [] { args:=args,res:=some (.bool true),after:=args }=some (.bool (true == true)) from w_eq_bool (w_res rfl) w_lit) rfl
theorem attach_call {l:OpenLaw} {n:Nat} {q:Program} {b:List Str} {XP:(Str->Option Value)->Heap->Prop} {YP:World->Heap->Prop} {d:DefRec}
  (O:l.most=some n) (t:d.params.defaults=[])
  (m:∀(w:World) (p c:Shared) (mg u:Str->Option Value) (i:Addr) (o:Obj) (v cd e:Value) (a:Addr) (vs:List Value) (ns:List Int),
   Ground q b [] XP w p mg u c.heap->YP w c.heap->
   c.heap.get? i=some o->o.data= .func (docDef d.name d.params d.body d.scope v cd e)->c.heap.CodeRec cd d.name->mg d.name=some (.ref i)->
   c.heap.get? a=some { cls:= .type "list",data:= .seq vs.toArray }->IntsAre vs ns->ns.length<=n->c.gens= #[]->
   codeAny (model l.prog w) callerA (.call (.ref i) ⟨[.ref a],[]⟩) (λr s'=>r= .ok (.ret (.bool true))/\OldK c.heap s'.heap/\s'.os=c.os/\AllBare s'.gens) c) :
  WalkO q b XP YP l.row.toRowW d [] (λf vs=>PySem.call f vs):=by
 intro w p c mg u G Y i o v cd e N kV H F s z x P A B R h C D y M;obtain rfl:N= .none:=Dflts.none z t;obtain rfl:kV= .none:=Dflts.noKw z;obtain ⟨a,vs,ns,rfl,rfl,j,g,k⟩:=C8f O h y;refine enter_call (codeAny_mono (m w p c mg u i o v cd e a vs ns G Y H (fd_plain F) s x j g k P) λr s' I=> ?_);obtain ⟨rfl,J,L,Q⟩:=I;exact i04 (.inl (i0u (.bool true) (.bool true) [] rfl (λ_=>rfl) (.bool true) (C8h l _) λ_=>⟨List.Pairwise.nil,λ_ K=>(nomatch K)⟩)) J L Q
section
variable {prog:Program} {w:World} {A:Around} {E:Value->Shared->Prop} {s:Shared} {K:Frag}
end
end Att
namespace L2
open PySem PySem.Spec PyProof.Rows
variable {P prog:Program} {w:World} {K:Frag} {mg:Str->Option Value} {a l d f it p C:Addr} {fd:FuncData} {x qual x₀:Str} {vs:List (Key×Value)} {n k1 k2 i ep i₀:Nat} {XP:(Str->Option Value)->Heap->Prop} {X:Cx} {st:Stmt} {ps N':List Str} {od o:Obj} {osl sl:Array (Option Value)} {A:Around} {pos pos₀ spos:Pos} {B:Prop} {H H':Hp} {xs ys:Array Value} {b:Bool} {Q:Option Value->Shared->Prop} {y:Value} {g:TG} {tb:TS} {D:C6c} {Z:St} {h' h:Heap} {v:V} {scope:Scope} {u:HO} {S:Addr->Prop} {r:List (Str×V)} {pins:List (Addr×Obj)} {s:Shared} {kvs:List (Key×V)} {es:Array DictEntry} {elt iter:Expr} {cs elts:List Expr} {ix:List (Option Nat)} {cl:List (Str×Addr)} {wi:TI} {tc:TT} {te:TE} {sts:List Stmt} {E:Value->Shared->Prop}
theorem B9q:∀{vs:List Value} {ns:List Int},IntsAre vs ns->A3z (ns.map V.int) vs
 | _,_,.nil=> .nil
 | _,_,.cons n t h=> .cons ⟨t,rfl⟩ (B9q h)
def E3g (H:Hp):Prop:=∀b,H b=none\/∃o a,H b=some (.frz o (.lst a))
theorem D1l {Q:Str->Option Value} {CX:CXT} {k:Nat} {L:Addr} {sp:Sp} {s₁:Shared} {vs:List Value} {ns:List Int}
  (KX:K.In s₁.heap) (t:s₁.heap.Ns mainGlobals mg) (f:s₁.heap.Ns builtinsNs Q) (N:∀x:Str,x≠"__name__"->Q x=bootBuiltins x) (A:s₁.heap.NoLimit) (hg:s₁.gens= #[])
  (I:s₁.heap.get? a=some { cls:= .type "list",data:= .seq vs.toArray }) (hi:IntsAre vs ns) (T:ns.length<=sizeLine) (Z:B0r k callerA)
  (F:∀base:Heap,K.In base->base.Ns mainGlobals mg->A3h P w K mg base CX k L fd [x] sp) (j:∀(s:Shared) (u:Value),BindsTo s fd ⟨[u],[]⟩ [(x,u)])
  (O:∀H:Hp,E3g H->SqL K H a (ns.map V.int)->sp [.ref a] H (λv _=>v= .bl true) λ_ _ _=>False)
  (R:∀H e s',CX [] H s₁ (λ_ _ _=>False) e s'->False) :
  codeAny (model P w) callerA (.call (.ref L) ⟨[.ref a],[]⟩) (λr s'=>r= .ok (.ret (.bool true))/\OldK s₁.heap s'.heap/\s'.os=s₁.os/\AllBare s'.gens) s₁:=by
 have W:=B9q hi;have B:=hi.length
 have i:∀H:Hp,E3g H->SqL K H a (ns.map V.int)->HOk P w H s₁.heap->(∀b,H b≠none->b=a)->(H a≠none->K.lookup a=none)->
   codeAny (model P w) callerA (.call (.ref L) ⟨[.ref a],[]⟩) (λr s'=>r= .ok (.ret (.bool true))/\OldK s₁.heap s'.heap/\s'.os=s₁.os/\AllBare s'.gens) s₁:=by
  intro H Y hS D X hK;have c:∀{b:Addr} {o:Obj},s₁.heap.get? b=some o->H b=none->(D1f s₁.heap H).get? b=some o:=λe n=>D2j e n
  have J:∀{b:Addr} {o:Obj} {y:Array DictEntry} {ep:Nat},s₁.heap.get? b=some o->o.data= .dict y ep->H b=none:=λ{b o y ep} e d=>by
   cases q:H b with
   | none=>rfl
   | some u =>
    have M:b=a:=X b (by rw [q];simp);subst M;rw [I] at e;cases e;have d':Data.seq vs.toArray _=Data.dict y ep:=d;cases d'
  have g:∀{b:Addr} {m:Str->Option Value},s₁.heap.Ns b m->(D1f s₁.heap H).Ns b m:=λ{b m} ⟨o,y,ep,e,d,r⟩=>(i0n o y ep (c e (J e d)) d r)
  have C:K.In (D1f s₁.heap H):=λb o e=>c (KX b o e) (by
   cases q:H b with
   | none=>rfl
   | some u =>
    have M:b=a:=X b (by rw [q];simp);subst M
    rw [hK (by rw [q];simp)] at e;cases e)
  have hM:Mod K mg (D1f s₁.heap H):=⟨C,g t,(i02 Q (g f) N),let ⟨mc,h1,h2⟩:=A;(i02 mc (g h1) h2)⟩;have E:D5o P w K mg (D1f s₁.heap H) callerA [] s₁ H:=⟨rfl,hM,λb o e=>D5j e,Nat.le_of_eq (C7k _ _),trivial,λb f=>absurd (show b∈([]:List Addr) from f) (by simp),D,.of_eq hg⟩;refine codeAny_mono ((F _ C (g t)).run callerA [] s₁ H ⟨[.ref a],[]⟩ [.ref a] [.ref a] _ _ Z E (j s₁ (.ref a)) (.cons rfl .nil) (O H Y hS)) λr s' h=> ?_
  cases r with
  | error e=>exact (R H e s' h).elim
  | ok fl =>
   cases fl with
   | next=>exact False.elim h
   | brk=>exact False.elim h
   | cont=>exact False.elim h
   | ret u =>
    obtain ⟨v,H',os,G,U,p,r',q⟩:=h;have q':v= .bl true:=q;subst q';obtain rfl:u=Value.bool true:=r';refine i04 rfl (OldK.of_keep λb o e=> ?_) os G
    cases q:H b with
    | none=>exact U.keep b o e q (by intro z;exact absurd (show b∈([]:List Addr) from z) (by simp)) (by simp)
    | some u =>
     rcases Y b with z | ⟨ob,xs,z⟩
     ·rw [q] at z;cases z
     ·have z2:=U.frzs b ob _ z;obtain ⟨S,_⟩:=D b _ z;obtain ⟨e2,_⟩:=p b _ z2;rw [e] at S;cases S;exact e2
 cases hk:K.lookup a with
 | some o =>
  have e:=KX a o hk;rw [I] at e;cases e;refine i (λ_=>none) (λ_=> .inl rfl) (.inr ⟨_,(i0t vs.toArray _ hk rfl rfl rfl (by rw [Z0g,B];exact T) (by simpa using W))⟩) (λb u z=>by have l:(none:Option HO)=some u:=z;cases l) (λb z=>absurd rfl z) λz=>absurd rfl z
 | none =>
  refine i (λb=>if b=a then some (.frz { cls:= .type "list",data:= .seq vs.toArray } (.lst (ns.map V.int))) else none) (λb=> ?_) (.inl (.inr ⟨{ cls:= .type "list",data:= .seq vs.toArray },Z12 rfl⟩)) (λb u z=> ?_) (λb z=> ?_) λ_=>hk
  ·by_cases f:b=a
   ·exact .inr (i03 _ _ (Z12 f))
   ·exact .inl (Z0t f)
  ·by_cases f:b=a
   ·have l:=(Z12 f).symm.trans z;cases l;subst f;exact ⟨I,(i0b (by rw [Z08];exact T) vs _ W I)⟩
   ·have l:=(Z0t f).symm.trans z;cases l
  ·by_cases f:b=a
   ·exact f
   ·exact absurd (Z0t f) z
theorem D8a {l:PySem.W.OpenLaw} {k:Nat} {q:Program} {i:List Str} {YP:World->Heap->Prop} {d:DefRec} {K:Params->Frag} {CX:World->CXT} {sp:World->Sp}
  (J:l.most=some n) (r:n<=sizeLine) (t:d.params.defaults=[]) (B:B0r k callerA)
  (D:∀(w:World) (h:Heap),YP w h->(K w.params).In h)
  (F:∀(w:World) (mg:Str->Option Value) (p:Addr) (h:Heap),(K w.params).In h->h.Ns mainGlobals mg->mg d.name=some (.ref p)->
   ∃fd:FuncData,(∀(s:Shared) (u:Value),BindsTo s fd ⟨[u],[]⟩ [(x,u)])/\
    ∀base:Heap,(K w.params).In base->base.Ns mainGlobals mg->A3h l.prog w (K w.params) mg base (CX w) k p fd [x] (sp w))
  (y:∀(w:World) (H:Hp) (a:Addr) (ns:List Int),ns.length<=n->E3g H->SqL (K w.params) H a (ns.map V.int)->sp w [.ref a] H (λv _=>v= .bl true) λ_ _ _=>False)
  (A:∀(w:World) (H:Hp) (s:Shared) (e:Value) (s':Shared),CX w [] H s (λ_ _ _=>False) e s'->False) :
  PySem.W.WalkO q i XP YP l.row.toRowW d [] (λf vs=>PySem.call f vs):=by
 refine Att.attach_call J t λw S O mg Z p o E X C a vs ns G Y U R I z m j c M=> ?_;have KX:=D w _ Y;obtain ⟨fd,L,N⟩:=F w mg p _ KX G.T.g z;exact D1l KX G.T.g G.T.b G.T.builtins G.T.nolimit M m j (Z1n c r) B N L (λH Q P=>y w H a ns c Q P) λH e s'=>A w H O e s'
def A3a (s:Stmt) (j:Nat):Stmt:=match s with
 | .ClassDef _ _ _ body _ _ _ _ _ _ _=>body.getD j (.Pass ⟨0,0,0,0⟩)
 | _=> .Pass ⟨0,0,0,0⟩
def A9r (s:Stmt):Arguments:=match s with
 | .FunctionDef _ a _ _ _ _ _ _ _ _=>a
 | _=>{ posonlyargs:=[],args:=[],vararg:=none,kwonlyargs:=[],kw_defaults:=[],kwarg:=none,defaults:=[] }
def A8t (s:Stmt):List Stmt:=match s with
 | .FunctionDef _ _ b _ _ _ _ _ _ _=>b
 | _=>[]
def A0n (s:Stmt):Scope:=match s with
 | .FunctionDef _ _ _ _ _ _ sc _ _ _=>sc
 | _=>{ kind:= .function,names:=[],isGenerator:=false,isCoroutine:=false }
abbrev CX0:CXT:=λ_ _ _ _ _ _=>False
abbrev E0:XK:=λ_ _ _=>False
theorem B6f:B3t CX0 X E0:=λ_ _ _ _ _ _ _ h=>h.elim
structure Fun (K:Frag) (x qual:Str) (st:Stmt) (f:Addr) (fd:FuncData):Prop where
 ex:∃(oc:Value) (od:Option Addr) (kV doc pm:Value) (an:Option Addr) (cdv ct:Value) (osl:Array (Option Value)),
  fd=fnOf x qual (A9r st) (A8t st) (A0n st) .none kV doc pm an cdv ct/\K.lookup f=some ⟨oc,od,.func fd,osl⟩/\codeIn K cdv qual=true
 kp:keepIn K (.ref f)=true
section
variable {P:Program} {w:World} {K:Frag} {mg:Str->Option Value} {base:Heap}
theorem Fun.ok {N:List Str} {k:Nat} {sp:Sp} (F:Fun K x qual st f fd) (S:A0w N ps (A0n st)) (d:∀vs H Q E,sp vs H Q E->vs.length=ps.length)
  (b:∀(a:Value) (A:Around) (outer:List Env) (s:Shared) (H:Hp) (vs:List V) (Q:VK) (E:XK),B0r k (A.deeper (envOfC qual (A0n st) s.heap.objs.size f a))->sp vs H Q E->
   ∃t,PSs (D8j CX0 P w K mg base N qual (A0n st) f a A outer s H E).nox (A8t st) t/\t { nx:=λ_ H'=>Q .non H',rt:=Q } (B8s N vs) H):A3h P w K mg base CX0 (k+1) f fd ps sp:=by
 obtain ⟨p,o,kV,j,r,m,a,n,g,rfl,l,e⟩:=F.ex;refine E2x l e S d λA outer s H vs Q E i c=> ?_;obtain ⟨t,h,q⟩:=b a A outer s H vs Q E i c;exact i02 t h.nox q
theorem Fun.binds (F:Fun K x qual st f fd)
  (h:∀(kV a e:Value) (c:Option Addr) (b d:Value) (us:List Value),us.length=ps.length->bindArgs (fnOf x qual (A9r st) (A8t st) (A0n st) .none kV a e c b d) ⟨us,[]⟩=pure (ps.zip us)):A9b K fd ps []:=by
 obtain ⟨k,j,kV,a,e,c,b,d,g,rfl,l,i⟩:=F.ex;exact .all (h kV a e c b d)
theorem D3s {h:Value} {od d:Option Addr} {kV b g a e:Value} (l:K.lookup f=some ⟨h,od,.func (fnOf x qual (A9r st) (A8t st) (A0n st) .none kV b g d a e),osl⟩)
  (c:codeIn K a qual=true) (k:keepIn K (.ref f)=true):Fun K x qual st f (fnOf x qual (A9r st) (A8t st) (A0n st) .none kV b g d a e):=⟨(i11 h od kV b g d a e osl (i00 rfl l c)),k⟩
end
theorem A8b {k:Nat} (a:B0r k A):A.units+1<cLine:=Z2d (Nat.add_le_add_left (by decide:1<=64) _) a.units
section
variable {X:Cx}
theorem pv (i:Nat) (b:X.N[i]? =some x:=by rfl) (c:Vis X.env.scope x:=by first | exact Or.inl rfl | exact Or.inr (Or.inl rfl) | exact Or.inr (Or.inr rfl)) (d:(x == ("__debug__":Str))=false:=by decide)
  (a:(x == ("__classdict__":Str))=false:=by decide):PE X (.Name x pos) (C8c i):=E2c b c d a
theorem C8g:A8h X (.builtin "len") (λxs H Q=>∃a kvs,xs=[V.ref a]/\H a=some (.dK kvs)/\Q (.int kvs.length) H):=by
 intro b s Z H xs f Q I r h;obtain ⟨a,kvs,rfl,c,q⟩:=h;obtain ⟨u,rfl,d⟩:=B1d r;cases d;exact E3b I (.inl c) λt e I'=>(i0f (.int kvs.length) H I' ⟨t,rfl⟩ q)
end
theorem A2m {A:Prop} (h:B):if false=true then A else B:=by
 rw [Z0t Z0v];exact h
theorem A5r {A:Prop} (h:A):if true=true then A else B:=by
 rw [Z12 rfl];exact h
theorem D3c {c A:Prop} [Decidable c] (h1:c->A) (h2:¬c->B):if c then A else B:=by
 by_cases h:c
 ·rw [Z12 h];exact h1 h
 ·rw [Z0t h];exact h2 h
def A0u (H H':Hp):Prop:=∀b o,H b=some o->H' b=some o
theorem A0u.refl (H:Hp):A0u H H:=λ_ _ h=>h
theorem A0u.trans {H1 H2:Hp} (a:A0u H H1) (b:A0u H1 H2):A0u H H2:=λc o h=>b c o (a c o h)
theorem A0u.free (e:A0u H H') (h:H' l=Option.none):H l=Option.none:=by
 cases q:H l with
 | none=>rfl
 | some o =>
  rw [e l o q] at h;cases h
theorem A0u.seq {xs:List V} (e:A0u H H') (h:SqL K H a xs):SqL K H' a xs:=by
 rcases h with (h | ⟨o,h⟩) | h
 ·exact .inl (.inl (e _ _ h))
 ·exact .inl (.inr ⟨o,e _ _ h⟩)
 ·exact .inr h
section
variable {κ:Type} [DecidableEq κ]
end
section
variable {X:Cx}
def E4e (t u:TS):TS:=λD Z H=>∃M:St->Hp->Prop,t { D with nx:=M } Z H/\∀Z' a,M Z' a->u D Z' a
theorem A9l {st:Stmt} {rest:List Stmt} {t u:TS} (h1:PS X st t) (h2:PSs X rest u):PSs X (st::rest) (E4e t u):=by
 intro a s Z H D I h;obtain ⟨M,h,d⟩:=h;refine wpAny_execs_cons (thn (h1 a s Z H { D with nx:=M } I h) λf b q=> ?_)
 cases f with
 | next =>
  obtain ⟨Z',c,I',q⟩:=q;exact h2 a b Z' c D I' (d _ _ q)
 | ret v=>exact q
 | brk=>exact q
 | cont=>exact q
def rIsi (K:Frag):List V->Hp->VK->Prop:=λa H Q=>∃x c t b,a=[x,c]/\A8a K H x t/\(∀u,A3c c u->kitOne K t u=some b)/\Q (.bl b) H
theorem A1d:A8h X (.builtin "isinstance") (rIsi X.K):=by
 intro d s Z H k l Q I r h;obtain ⟨x,c,t,b,rfl,f,e,q⟩:=h;obtain ⟨u,j,rfl,i,a⟩:=C9f r;exact C9v I i f (e j a) λg=>(i0f (.bl b) H (I.tok g) rfl q)
theorem B2l (T:String):∀u,A3c (.ty T) u->kitOne K (.type T) u=some true:=by
 intro u h;cases (show u=Value.type T from h);unfold kitOne;rw [Z12 (beq_self_eq_true _)]
theorem B8f {T U:String} (h:(Value.type T == Value.type U)=false) (c:PySem.W.kitMeta U=true) (a:(PySem.fastBuiltinMro T).map (·.contains (Value.type U))=some b) :
  ∀u,A3c (.ty U) u->kitOne K (.type T) u=some b:=by
 intro u z;cases (show u=Value.type U from z);unfold kitOne;rw [Z0t (by rw [h];exact Z0v)];show (if PySem.W.kitMeta U=true then subIn K (.type T) (.type U) else none)=some b;rw [Z12 c];exact a
def CBig (i j:Int):Prop:=i.natAbs<2^4000/\j.natAbs<2^4000
theorem D7y:OpR X (binaryOp .Mult) (rI CBig λi j=> .int (i*j)):=opI λ_ _ _ _ _ _ _ a q =>
 mul_int q (IntMulOk.of_le (m:=4000) (n:=4000) (intBits_le_iff.mpr a.1) (intBits_le_iff.mpr a.2) (by decide))
def E2w (_ j:Int):Prop:=0<j/\j.natAbs<2^4000
theorem C3f:OpR X (binaryOp .FloorDiv) (rI E2w λi j=> .int (i/j)):=opI λi j _ _ _ _ _ a q=>by
 have c:(0:Int)<j:=a.1;have b:j.natAbs.log2<9000:=Nat.lt_trans ((Nat.log2_lt (by lia)).mpr a.2) (by decide);exact floordiv_int (by lia) (by rw [Int.fdiv_eq_ediv_of_nonneg i (by lia)];exact q) (.inl (PyProof.noPylong_of_log2 b))
end
structure Nx (it l:Addr) (st:Nat->Heap->Prop) (src:Array Value->Heap->Prop):Prop where
 item:∀{prog:Program} {w:World} {A:Around} {E:Value->Shared->Prop} {s:Shared} {k:Nat} {xs:Array Value} {x:Value} {Q:Value->Shared->Prop},st k s.heap->src xs s.heap->xs[k]? =some x->
  (∀h',st (k+1) h'->Heap.SameBut it s.heap h'->Q x { s with heap:=h' })->wpAny (model prog w) A (Builtin.SmallTypes.nextOf (.ref it)) Q E s
 fin:∀{prog:Program} {w:World} {A:Around} {E:Value->Shared->Prop} {s:Shared} {k:Nat} {xs:Array Value} {Q:Value->Shared->Prop},A.handled=none->st k s.heap->src xs s.heap->xs[k]? =none->
  (∀h' e,Heap.ExtBut it s.heap h'->(∃o,h'.get? e=some o/\o.cls= .type "StopIteration")->E (.ref e) { s with heap:=h' })->wpAny (model prog w) A (Builtin.SmallTypes.nextOf (.ref it)) Q E s
 mv:∀{k:Nat} {h h':Heap},st k h->(∀o,h.get? it=some o->h'.get? it=some o)->st k h'
 mvS:∀{xs:Array Value} {h h':Heap},src xs h->(∀o,h.get? l=some o->h'.get? l=some o)->src xs h'
 ob:∀{k:Nat} {h:Heap},st k h->∃o,h.get? it=some o/\∀v,o.data≠.cell v
theorem A8p (it l:Addr):Nx it l (λk h=>h.IsListIter it l k) (λxs h=>h.IsList l xs) where
 item:=wpAny_nextOf_list_item
 fin:=wpAny_nextOf_list_end
 mv:=λx e=>x.at e
 mvS:=λx e=>x.at e
 ob:=λ⟨o,e,_,d⟩=>(i02 o e λv z=>by rw [d] at z;cases z)
section
variable {prog:Program} {w:World} {A:Around} {E:Value->Shared->Prop} {s:Shared}
theorem B1c {k:Nat} {x:Value} {Q:Value->Shared->Prop} (hi:s.heap.IsTupleIter it l k) (g:s.heap.IsTuple l xs) (e:xs[k]? =some x)
  (f:∀h',h'.IsTupleIter it l (k+1)->Heap.SameBut it s.heap h'->Q x { s with heap:=h' }):wpAny (model prog w) A (Builtin.SmallTypes.nextOf (.ref it)) Q E s:=by
 obtain ⟨o,b,h,a⟩:=id hi;obtain ⟨i,c,_,j,d⟩:=g;unfold Builtin.SmallTypes.nextOf;refine Z00 (Z1b (name:=Str.ofString "__next__") hi.typeIs F.slot_tuple_iterator_next (Z1g F.slot_tuple_iterator_next hi.typeIs F.entry_tuple_iterator_next ?_ (F.args_tuple_iterator_next_1 _)));show wpAny _ _ (field (.ref it) 0 >>= _) _ _ s;refine Z00 (Z11 b a (x:= .ref l) rfl ?_);show wpAny _ _ (if (Value.ref l == Value.none)=true then _ else _) _ _ s;rw [Z0t (show¬((Value.ref l == Value.none)=true) from Z0v)];show wpAny _ _ (field (.ref it) 1 >>= _) _ _ s;refine Z00 (Z11 b a (x:= .int k 0) rfl ?_);show wpAny _ _ (seqItems? (.ref l) >>= _) _ _ s;refine Z00 (Z21 c d ?_);simp only [Int.toNat_natCast,e];refine Z00 (Z1t b a (by simp) (Z04 (i02 x rfl (Z04 (f _ ?_ (Heap.SameBut.update ..))))));exact i06 _ (Heap.get?_update_self _ b (Obj.isFreed_of_fields (Obj.data_mapFields a _))) ((Obj.cls_mapFields ..).trans h) (by rw [Obj.data_mapFields a];simp [rawInt])
theorem B2a {k:Nat} {Q:Value->Shared->Prop} (g:A.handled=none) (hi:s.heap.IsTupleIter it l k) (j:s.heap.IsTuple l xs) (h:xs[k]? =none)
  (i:∀h' e,Heap.ExtBut it s.heap h'->(∃o,h'.get? e=some o/\o.cls= .type "StopIteration")->E (.ref e) { s with heap:=h' }):wpAny (model prog w) A (Builtin.SmallTypes.nextOf (.ref it)) Q E s:=by
 obtain ⟨o,c,q,d⟩:=id hi;obtain ⟨n,b,_,p,f⟩:=j;unfold Builtin.SmallTypes.nextOf;refine Z00 (Z1b (name:=Str.ofString "__next__") hi.typeIs F.slot_tuple_iterator_next (Z1g F.slot_tuple_iterator_next hi.typeIs F.entry_tuple_iterator_next ?_ (F.args_tuple_iterator_next_1 _)));show wpAny _ _ (field (.ref it) 0 >>= _) _ _ s;refine Z00 (Z11 c d (x:= .ref l) rfl ?_);show wpAny _ _ (if (Value.ref l == Value.none)=true then _ else _) _ _ s;rw [Z0t (show¬((Value.ref l == Value.none)=true) from Z0v)];show wpAny _ _ (field (.ref it) 1 >>= _) _ _ s;refine Z00 (Z11 c d (x:= .int k 0) rfl ?_);show wpAny _ _ (seqItems? (.ref l) >>= _) _ _ s;refine Z00 (Z21 b f ?_);simp only [Int.toNat_natCast,h];refine Z00 (wpAny_rule (Z00 (Z1t c d (by simp) ?_)));show wpAny _ _ (newExc (.type "StopIteration") [] >>= _) _ _ _;refine Z00 ?_;simp only [newExc,newTuple];refine Z00 (Z16 ?_ (by size_fits));refine Z00 (m:=firstArgMember _ _) (wpAny_of_eq (a:=Value.none) (by first | rfl | (simp only [firstArgMember];rfl)) ?_);refine Z16 ?_ (by size_fits);simp only [raiseNew];refine Z00 (wpAny_handled ?_)
 first | rw [show A.in1.handled=none from g] | rw [g]
 refine Z00 (Z04 (wpAny_throw ?_));exact i _ _ (((Heap.SameBut.update ..).extBut.push _).push _) (i02 _ (Z0c _ rfl) rfl)
end
theorem A6f (it l:Addr):Nx it l (λk h=>h.IsTupleIter it l k) (λxs h=>h.IsTuple l xs) where
 item:=B1c
 fin:=B2a
 mv:=λ⟨o,e,r⟩ f=>(i02 o (f _ e) r)
 mvS:=λ⟨o,e,r⟩ f=>(i02 o (f _ e) r)
 ob:=λ⟨o,e,_,d⟩=>(i02 o e λv z=>by rw [d] at z;cases z)
section
variable {z TI TO i1 i2 l1 l2:Addr} {st1 st2:Nat->Heap->Prop} {src1 src2:Array Value->Heap->Prop} {prog:Program} {w:World} {A:Around} {E:Value->Shared->Prop} {s:Shared}
theorem D2e (N1:Nx i1 l1 st1 src1) (N2:Nx i2 l2 st2 src2) {x a b:Value} (D:ZipApart z TI TO i1 i2 l1 l2)
  (h:IsZip s.heap z TI TO .none) (G:IsPair s.heap TI (.ref i1) (.ref i2)) (J:IsPair s.heap TO a b) (h1:st1 k1 s.heap) (h2:st2 k2 s.heap) (H:src1 xs s.heap) (v:src2 ys s.heap) (hx:xs[k1]? =some x) (W:ys[k2]? =some y)
  (hQ:∀h',IsZip h' z TI TO (rawInt s.heap.objs.size)->IsPair h' TO x y->st1 (k1+1) h'->st2 (k2+1) h'->IsPair h' s.heap.objs.size x y->
   (∀c o,c≠z->c≠TO->c≠i1->c≠i2->s.heap.get? c=some o->h'.get? c=some o)->Q (some (.ref s.heap.objs.size)) { s with heap:=h' }):wpAny (model prog w) A (pyNext (.ref z)) Q E s:=by
 have S:s.TypeIs (.ref z) "zip":=(i02 _ h rfl);unfold pyNext;refine Z00 (wpAny_attempt (Z1b (name:=Str.ofString "__next__") S F.slot_zip_next (Z1g F.slot_zip_next S F.entry_zip_next ?_ (F.args_zip_next_1 _))));show wpAny _ _ (field (.ref z) 2 >>= _) _ _ _;refine Z00 (Z11 h rfl (x:= .bool false) rfl ?_);show wpAny _ _ (field (.ref z) 3 >>= _) _ _ _;refine Z00 (Z11 h rfl (x:= .ref TI) rfl ?_);refine Z00 (Z21 G rfl ?_);show wpAny _ _ (Builtin.SmallTypes.ownedTupleIsFree (.ref z) >>= _) _ _ _;refine Z00 ?_;unfold Builtin.SmallTypes.ownedTupleIsFree;refine Z00 (Z11 h rfl (x:= .none) rfl (Z04 ?_));simp only [if_true];refine Z00 (wpAny_rule ?_);refine Z00 (Z11 h rfl (x:= .ref TO) rfl ?_);refine Z00 (Z1h h (by simp) λg1 C d=> ?_)
 replace C:IsZip g1 z TI TO .ellipsis:=C
 refine Z00 ?_;simp only [List.zipIdx_cons,List.zipIdx_nil,List.forIn_cons,List.forIn_nil];refine Z00 (Z00 (wpAny_onRaise ?_));show wpAny _ _ (Builtin.SmallTypes.nextOf (.ref i1) >>= _) _ _ _;refine Z00 (N1.item (N1.mv h1 λo e=>d.extBut _ _ D.i1z e) (N1.mvS H λo e=>d.extBut _ _ D.l1z e) hx λg2 Y i=>Z04 ?_);have O:IsPair g2 TO a b:=i.extBut _ _ D.TOi1 (d.extBut _ _ D.TOz J);refine Z00 (Z21 O rfl ?_);refine Z00 (wpAny_updateSeq_pair O λT K g=> ?_)
 replace K:IsPair T TO x b:=K
 refine Z00 (wpAny_letGo (Z04 ?_));refine Z00 (Z00 (wpAny_onRaise ?_));show wpAny _ _ (Builtin.SmallTypes.nextOf (.ref i2) >>= _) _ _ _;refine Z00 (N2.item (N2.mv h2 λo e=>g.extBut _ _ D.TOi2.symm (i.extBut _ _ D.i12.symm (d.extBut _ _ D.i2z e))) (N2.mvS v λo e=>g.extBut _ _ D.l2TO (i.extBut _ _ D.l2i1 (d.extBut _ _ D.l2z e))) W λg4 X k=>Z04 ?_);have L:IsPair g4 TO x b:=k.extBut _ _ D.TOi2 K;refine Z00 (Z21 L rfl ?_);refine Z00 (wpAny_updateSeq_pair L λg5 t m=> ?_)
 replace t:IsPair g5 TO x y:=t
 refine Z00 (wpAny_letGo (Z04 (Z04 ?_)));refine Z00 (Z21 t rfl ?_);refine Z00 (wpAny_newTuple ?_);have j:g5.objs.size=s.heap.objs.size:=by rw [m.1,k.1,g.1,i.1,d.1]
 have P:IsZip g5 z TI TO .ellipsis:=m.extBut _ _ D.TOz.symm (k.extBut _ _ D.i2z.symm (g.extBut _ _ D.TOz.symm (i.extBut _ _ D.i1z.symm C)));have U:∀c o,c≠z->c≠TO->c≠i1->c≠i2->s.heap.get? c=some o->g5.get? c=some o:=λc o f n I B e=>m.extBut _ _ n (k.extBut _ _ B (g.extBut _ _ n (i.extBut _ _ I (d.extBut _ _ f e))));have Z:st1 (k1+1) g5:=N1.mv Y λo e=>m.extBut _ _ D.TOi1.symm (k.extBut _ _ D.i12 (g.extBut _ _ D.TOi1.symm e));have s2:st2 (k2+1) g5:=N2.mv X λo e=>m.extBut _ _ D.TOi2.symm e;have l:z<g5.objs.size:=Z0a P;show wpAny _ _ (Builtin.SmallTypes.ownedTupleHandOut (.ref z) (.ref g5.objs.size) >>= _) _ _ _;refine Z00 ?_;unfold Builtin.SmallTypes.ownedTupleHandOut;have z6:IsZip (g5.push { cls:= .type "tuple",data:= .seq #[x,y] }) z TI TO .ellipsis:=Z01 _ P;refine Z00 (Z1h z6 (by simp) λg7 u M=> ?_)
 replace u:IsZip g7 z TI TO (rawInt g5.objs.size):=u
 refine Z1h u (by simp) λp q N=> ?_
 replace q:IsZip p z TI TO (rawInt g5.objs.size):=q
 have r:∀c o,c≠z->g5.get? c=some o->p.get? c=some o:=λc o f e=>N.extBut _ _ f (M.extBut _ _ f (Z01 _ e));have R:IsPair p g5.objs.size x y:=N.extBut _ _ (Z1q l) (M.extBut _ _ (Z1q l) (Z0c _ rfl));rw [j] at q R;refine Z04 (i02 _ rfl (Z04 ?_));show Q (some (.ref g5.objs.size)) _;rw [j];exact hQ p q (r _ _ D.TOz t) (N1.mv Z λo e=>r _ o D.i1z e) (N2.mv s2 λo e=>r _ o D.i2z e) R λc o f n I B e=>r c o f (U c o f n I B e)
theorem D4z (N1:Nx i1 l1 st1 src1) (N2:Nx i2 l2 st2 src2) {a b:Value} (H:A.handled=none) (D:ZipApart z TI TO i1 i2 l1 l2)
  (k:IsZip s.heap z TI TO .none) (u:IsPair s.heap TI (.ref i1) (.ref i2)) (C:IsPair s.heap TO a b) (h1:st1 k1 s.heap) (h2:st2 k2 s.heap) (y:src1 xs s.heap) (p:src2 ys s.heap) (m:xs[k1]? =none\/ys[k2]? =none)
  (W:∀h',(∀c o,c≠z->c≠TO->c≠i1->c≠i2->s.heap.get? c=some o->h'.get? c=some o)->Q none { s with heap:=h' }):wpAny (model prog w) A (pyNext (.ref z)) Q E s:=by
 have L:s.TypeIs (.ref z) "zip":=(i02 _ k rfl);unfold pyNext
 have fin:∀(h':Heap) (e:Addr),(∀c o,c≠z->c≠TO->c≠i1->c≠i2->s.heap.get? c=some o->h'.get? c=some o)->(∃o,h'.get? e=some o/\o.cls= .type "StopIteration")->
   wpAny (model prog w) A (isInstance (.ref e) (.type "StopIteration") >>= λb=>if b=true then pure none else throw (.ref e)) Q E { s with heap:=h' }:=λh' e U ⟨o,X,hc⟩ =>
  Z00 (wpAny_isInstance (T:="StopIteration") (b:=true) (i02 o X hc) isSubtype_stop (Z04 (W _ U)))
 refine Z00 (wpAny_attempt (Z1b (name:=Str.ofString "__next__") L F.slot_zip_next (Z1g F.slot_zip_next L F.entry_zip_next ?_ (F.args_zip_next_1 _))));show wpAny _ _ (field (.ref z) 2 >>= _) _ _ _;refine Z00 (Z11 k rfl (x:= .bool false) rfl ?_);show wpAny _ _ (field (.ref z) 3 >>= _) _ _ _;refine Z00 (Z11 k rfl (x:= .ref TI) rfl ?_);refine Z00 (Z21 u rfl ?_);show wpAny _ _ (Builtin.SmallTypes.ownedTupleIsFree (.ref z) >>= _) _ _ _;refine Z00 ?_;unfold Builtin.SmallTypes.ownedTupleIsFree;refine Z00 (Z11 k rfl (x:= .none) rfl (Z04 ?_));simp only [if_true];refine Z00 (wpAny_rule ?_);refine Z00 (Z11 k rfl (x:= .ref TO) rfl ?_);refine Z00 (Z1h k (by simp) λZ n i=> ?_)
 replace n:IsZip Z z TI TO .ellipsis:=n
 refine Z00 ?_;simp only [List.zipIdx_cons,List.zipIdx_nil,List.forIn_cons,List.forIn_nil];refine Z00 (Z00 (wpAny_onRaise ?_));show wpAny _ _ (Builtin.SmallTypes.nextOf (.ref i1) >>= _) _ _ _;have M:=N1.mv h1 λo e=>i.extBut _ _ D.i1z e;have I:=N1.mvS y λo e=>i.extBut _ _ D.l1z e
 cases hx:xs[k1]? with
 | none =>
  refine Z00 (N1.fin H M I hx λr e g t=> ?_);obtain ⟨v,d,f⟩:=t;have P:IsZip r z TI TO .ellipsis:=g _ _ D.i1z.symm n;have q:e≠z:=λx=>by subst x;rw [P] at d;cases d;simp at f
  exact Z1h P (by simp) λG _ j=>fin G e (λc o l _ B _ x=>j.extBut _ _ l (g _ _ B (i.extBut _ _ l x))) (i02 v (j.extBut _ _ q d) f)
 | some x =>
  have R:ys[k2]? =none:=by
   rcases m with h | h
   ·rw [hx] at h;cases h
   ·exact h
  refine Z00 (N1.item M I hx λr t2 g=>Z04 ?_);have K:IsPair r TO a b:=g.extBut _ _ D.TOi1 (i.extBut _ _ D.TOz C);refine Z00 (Z21 K rfl ?_);refine Z00 (wpAny_updateSeq_pair K λG p3 j=> ?_);refine Z00 (wpAny_letGo (Z04 ?_));refine Z00 (Z00 (wpAny_onRaise ?_));show wpAny _ _ (Builtin.SmallTypes.nextOf (.ref i2) >>= _) _ _ _;refine Z00 (N2.fin H (N2.mv h2 λo e=>j.extBut _ _ D.TOi2.symm (g.extBut _ _ D.i12.symm (i.extBut _ _ D.i2z e))) (N2.mvS p λo e=>j.extBut _ _ D.l2TO (g.extBut _ _ D.l2i1 (i.extBut _ _ D.l2z e))) R λg4 e J t=> ?_);obtain ⟨v,d,f⟩:=t;have N:IsZip g4 z TI TO .ellipsis:=J _ _ D.i2z.symm (j.extBut _ _ D.TOz.symm (g.extBut _ _ D.i1z.symm n));have q:e≠z:=λx=>by subst x;rw [N] at d;cases d;simp at f
  exact Z1h N (by simp) λg5 _ O=>fin g5 e (λc o l Y B S x=>O.extBut _ _ l (J _ _ S (j.extBut _ _ Y (g.extBut _ _ B (i.extBut _ _ l x))))) (i02 v (O.extBut _ _ q d) f)
end
section
variable {X:Cx} {pins:List (Addr×Obj)} {Z:St} {H:Hp} {s:Shared} {h':Heap}
theorem Inv.turnedNew {t':Nat} {ts:List Addr} {o:HO} (I:Inv X pins Z H s) (k:∀b u,b∉ts->s.heap.get? b=some u->h'.get? b=some u) (f:∀b∈ts,C1d X pins H b) (t:s.heap.objs.size<=a)
  (i:A2q X.prog X.w (upd H a o) h' a o):Inv X pins Z (upd H a o) { s with heap:=h',toks:=t' }:=by
 have p:∀b u,H b=some u->b∉ts:=λb u e z=>by have:=(f b z).1;rw [e] at this;cases this
 have y:∀b u,s.heap.get? b=some u->b≠a:=λb u e=>Z0h (Z0q (Z0a e) t);have h:H a=none:=I.hok.fresh t
 refine I.step (g':=s.gens) (d':=s.drawn) (ch:=ts) (λb g=>(i04 ((f b g).2.2.2.1) ((f b g).2.1) ((f b g).2.2.2.2.1) ((f b g).2.2.2.2.2))) (λb u _ _ d e _=>k b u d e) (λb u _ _ d e _=>⟨u.slots,k b u d e⟩)
  (λb u _ e n=>by rw [A0i (y b u e)];exact n) (λb u d e=>⟨u,k b u d e⟩) (λb j e=>by rw [A0i (A0z e h)];exact e) (λb u j e=>by rw [A0i (A0z e h)];exact e)
  (λb D e=>⟨#[],by rw [A0i (A0z e h),e];simp⟩) (λm C=> ?_) (λb u e=> ?_) I.bare
 ·obtain ⟨l,A,x,B,r⟩:=C;exact i0g l A x (k _ l (λz=>(f _ z).2.1 rfl) B) r
 ·by_cases g:b=a
  ·subst g;rw [A0b] at e;cases e;exact i
  ·rw [A0i g] at e;refine (I.hok b u e).stay (λc v d q=>k c v ?_ q) (λc q=>by rw [A0i (A0z q h)];exact q) λc j q=>by rw [A0i (A0z q h)];exact q
   rcases d with rfl | d
   ·exact p _ _ e
   ·exact p _ _ d
end
def SrK (k:Bool) (h:Heap) (l:Addr) (xs:Array Value):Prop:=match k with | true=>h.IsList l xs | false=>h.IsTuple l xs
def StK (k:Bool) (it l:Addr) (i:Nat) (h:Heap):Prop:=match k with | true=>h.IsListIter it l i | false=>h.IsTupleIter it l i
abbrev itK (k:Bool):String:=match k with | true=>"list_iterator" | false=>"tuple_iterator"
theorem nxK:∀(k:Bool) (it l:Addr),Nx it l (λi h=>StK k it l i h) (λxs h=>SrK k h l xs)
 | true=>A8p
 | false=>A6f
theorem E1g {prog:Program} {w:World} {A:Around} {E:Value->Shared->Prop} {s:Shared} {l:Addr} {xs:Array Value} {Q:Value->Shared->Prop}:∀{k:Bool},SrK k s.heap l xs->Q (.ref s.heap.objs.size) { s with heap:=s.heap.push { cls:= .type (itK k),data:= .fields #[.ref l,.int 0 0] } }->wpAny (model prog w) A (pyIter (.ref l)) Q E s
 | true,h,q=>wpAny_pyIter_list h q
 | false,h,q=>wpAny_pyIter_tuple h q
theorem E4l {h:Heap} {it l:Addr}:∀{k:Bool},h.get? it=some { cls:= .type (itK k),data:= .fields #[.ref l,.int 0 0] }->StK k it l 0 h
 | true,e=>(i06 _ e rfl rfl)
 | false,e=>(i06 _ e rfl rfl)
def D9e (k1 k2:Bool) (z TI TO i1 i2 a b:Addr) (i:Nat) (h:Heap):Prop:=IsZip h z TI TO .none/\IsPair h TI (.ref i1) (.ref i2)/\(∃u v,IsPair h TO u v)/\StK k1 i1 a i h/\StK k2 i2 b i h
abbrev E2i (k1:Bool) (h:Heap) (l1:Addr):Heap:=h.push { cls:= .type (itK k1),data:= .fields #[.ref l1,.int 0 0] }
abbrev E2g (k1 k2:Bool) (h:Heap) (l1 l2:Addr):Heap:=(E2i k1 h l1).push { cls:= .type (itK k2),data:= .fields #[.ref l2,.int 0 0] }
noncomputable abbrev E2h (k1 k2:Bool) (h:Heap) (l1 l2:Addr):Heap:=(E2g k1 k2 h l1 l2).push { cls:= .type "tuple",data:= .seq #[.ref h.objs.size,.ref (E2i k1 h l1).objs.size] }
noncomputable abbrev E2j (k1 k2:Bool) (h:Heap) (l1 l2:Addr):Heap:=(E2h k1 k2 h l1 l2).push { cls:= .type "tuple",data:= .seq #[.none,.none] }
noncomputable abbrev D8l (k1 k2:Bool) (h:Heap) (l1 l2:Addr):Heap:=(E2j k1 k2 h l1 l2).push { cls:= .type "zip",data:= .fields #[.none,.bool false,.bool false,.ref (E2g k1 k2 h l1 l2).objs.size,.ref (E2h k1 k2 h l1 l2).objs.size] }
theorem C4g (k1 k2:Bool) (l1 l2:Addr) (xs ys:Array Value):Meets (Builtin.«zip.__new__» ⟨[.type "zip",.ref l1,.ref l2],[]⟩) (λ_ R s=>SrK k1 s.heap l1 xs/\SrK k2 s.heap l2 ys/\
  R (.ok (.ret (.ref (E2j k1 k2 s.heap l1 l2).objs.size))) { s with heap:=D8l k1 k2 s.heap l1 l2 }) :=
 .of_wp λi w A R s h=>by
  obtain ⟨k,g,d,j,m⟩:=s;obtain ⟨c,b,h⟩:=h;have l:=sub_zip;have a:SrK k1 (Shared.heap ⟨k,g,d,j,m⟩) l1 xs:=c;have f:SrK k2 (Shared.heap ⟨k.push { cls:= .type (itK k1),data:= .fields #[.ref l1,.int 0 0] },g,d,j,m⟩) l2 ys:=(nxK k2 0 l2).mvS b λo e=>Z01 _ e
  wp_walk using E1g a,E1g f
  exact i02 _ rfl h
theorem D0f {k1 k2:Bool} {prog:Program} {w:World} {A:Around} {E:Value->Shared->Prop} {s:Shared} {l1 l2:Addr} {xs ys:Array Value} {Q:Value->Shared->Prop} (b:SrK k1 s.heap l1 xs) (f:SrK k2 s.heap l2 ys)
  (h:∀h',D9e k1 k2 (s.heap.objs.size+4) (s.heap.objs.size+2) (s.heap.objs.size+3) s.heap.objs.size (s.heap.objs.size+1) l1 l2 0 h'->(∀c o,s.heap.get? c=some o->h'.get? c=some o)->Q (.ref (s.heap.objs.size+4)) { s with heap:=h' }) :
  wpAny (model prog w) A (call (.type "zip") [.ref l1,.ref l2]) Q E s:=by
 refine callType_new F.called_zip (by decide) (F.typeCall_zip_2 _ _) (F.newCall_zip_2 _ _) (λa=>F.args_object_init_3 a _ _) F.entry_zip_new (C4g k1 k2 l1 l2 xs ys) (i00 b f ?_);have e:(E2i k1 s.heap l1).objs.size=s.heap.objs.size+1:=Z1s ..;have i:(E2g k1 k2 s.heap l1 l2).objs.size=s.heap.objs.size+2:=by rw [Z1s,e]
 have d:(E2h k1 k2 s.heap l1 l2).objs.size=s.heap.objs.size+3:=by rw [Z1s,i]
 have k:(E2j k1 k2 s.heap l1 l2).objs.size=s.heap.objs.size+4:=by rw [Z1s,d]
 have g:(D8l k1 k2 s.heap l1 l2).get? (E2j k1 k2 s.heap l1 l2).objs.size=some _:=Z0c _ rfl;have m:(D8l k1 k2 s.heap l1 l2).get? (E2h k1 k2 s.heap l1 l2).objs.size=some _:=Z01 _ (Z0c _ rfl);have j:(D8l k1 k2 s.heap l1 l2).get? (E2g k1 k2 s.heap l1 l2).objs.size=some _:=Z01 _ (Z01 _ (Z0c _ rfl));have l:(D8l k1 k2 s.heap l1 l2).get? (E2i k1 s.heap l1).objs.size=some _:=Z01 _ (Z01 _ (Z01 _ (Z0c _ rfl)));have n:(D8l k1 k2 s.heap l1 l2).get? s.heap.objs.size=some _:=Z01 _ (Z01 _ (Z01 _ (Z01 _ (Z0c _ rfl))));show _/\_;rw [i,d,k] at g;rw [e,i] at j;rw [d] at m;rw [e] at l;rw [k];exact ⟨(i02 _ g rfl),h _ (i09 g j (i03 _ _ m) (E4l n) (E4l l)) λc o x=>Z01 _ (Z01 _ (Z01 _ (Z01 _ (Z01 _ x))))⟩
abbrev C1q:= @D0f true false
def Itv (K:Frag) (a:Addr) (n:Nat):It :=
 ⟨λi H=>∃b x,SqL K H a b/\b.length=n/\i<n/\b[n-1-i]? =some x,λi H x c=>c=H/\∀b,SqL K H a b->b[n-1-i]? =some x,λi _=>i=n⟩
theorem D2m {tg:Expr} (a it:Addr) (n:Nat):D4a P w K tg (Itv K a n) [it] it (λi h=>h.IsRevIter it a ((n:Int)-1-(i:Int))) where
 mem:=by simp
 obj:=λi h f b l=>by
  have e:b=it:=by simpa using l
  subst e;obtain ⟨o,e,c,d⟩:=f;exact i02 o e λv z=>by rw [d] at z;cases z
 keep:=λi h m f k=>f.at λo e=>k it (by simp) o e
 item:=by
  intro X D r J O i g s Z H E I q f G;subst D r J;obtain ⟨xs,x,M,hn,L,N⟩:=G;obtain ⟨W,T,p,hz⟩:=I.list M;obtain ⟨u,Q,ru⟩:=T.get N;obtain ⟨C,y,S,B,F,A⟩:=q it (by simp);have t:(n:Int)-1-(i:Int)=((n-1-i:Nat):Int):=by lia
  rw [t] at f;refine wpAny_pyNext_rev_item f p.isList (x:=u) (by simpa using Q) λm j sb=> ?_;have I1:Inv X g Z H { s with heap:=m }:=I.turned (t':=s.toks) (λb o l e=>(sb.2 b l).trans e) C y B F A
  have U:((n-1-i:Nat):Int)-1=(n:Int)-1-((i+1:Nat):Int):=by lia
  rw [U] at j;obtain ⟨o,e,c,d⟩:=id j;exact i02 u rfl (C4x (s:={ s with heap:=m }) e c d (by decide) (i0p x H I1 ru ⟨rfl,λys R=>by rw [I.list_inj R M];exact N⟩ j λb l=>(q b l).1))
 done:=by
  intro X D r J O i g s Z H E I q f G;subst D r J;have L:i=n:=G;subst L;obtain ⟨C,y,S,B,F,A⟩:=q it (by simp);have t:(i:Int)-1-(i:Int)= -1:=by lia
  rw [t] at f;exact wpAny_pyNext_rev_end (I.ok.hd O) f λm Y=>⟨rfl,I.turned (t':=s.toks) (λb o l e=>Y b o l e) C y B F A⟩
 self:=λ_ _ _ _ _ f h=>wpAny_pyIter_revIter f h
def iRev (K:Frag) (ta:TA):TI:=λZ H R=>ta Z H λd c=>∃a b,d=[.ref a]/\SqL K c a b/\R (Itv K a b.length) c
theorem C8z {tg:Expr} {a:Expr} {ta:TA} {p:Pos} (z:Gl X "reversed") (v:X.mg "reversed"=none) (A:PA X [a] ta) (t:starEach [a] X.env=[(false,eval a X.env)]:=by rfl) :
  PI X tg (.Call (.Name "reversed" p) [a] [] pos) (iRev X.K ta):=by
 intro f s Z H R I h;refine Call_ (B1u I z v boot_reversed (PyProof.Rows.callWith_type1 (thn (A pos f s Z H _ I h) λC c ⟨D,w,I1,x,r⟩=> ?_) t rfl));obtain ⟨l,d,e,n,q⟩:=r;subst e;obtain ⟨u,rfl,B⟩:=B1d x;cases B;obtain ⟨g,m,j,_⟩:=I1.list n;have k:(g.toArray.size:Int)-1=(d.length:Int)-1-((0:Nat):Int):=by rw [Z0g,<-m.length];lia
 refine call_reversed_list j.isList ?_;rw [k];have i:(c.heap.push (revObj l ((d.length:Int)-1-((0:Nat):Int)))).IsRevIter c.heap.objs.size l ((d.length:Int)-1-((0:Nat):Int)):=(i06 _ (Z0c _ rfl) rfl rfl);refine wpAny_pyIter_revIter (s:={ c with heap:=c.heap.push (revObj l ((d.length:Int)-1-((0:Nat):Int))) }) i ?_;refine i14 _ [c.heap.objs.size] _ _ w rfl (I1.kept (t':=c.toks) λb o e=>Z01 _ e) (D2m l _ d.length) i (λb y=> ?_) q
 have e:b=c.heap.objs.size:=by simpa using y
 subst e;exact I1.fpOk (Z09 _) (I1.hok.fresh (Z09 _))
theorem C1x {xs:List V} (Pv:Nat->St->Hp->Prop) (d:Pv 0 Z H) (f:∀i Z H,Pv i Z H->SqL K H a xs)
  (j:∀i x Z H,i<xs.length->xs[xs.length-1-i]? =some x->Pv i Z H->g x Z H λZ2 H2=>tb { D with nx:=Pv (i+1),ct:=Pv (i+1),bk:=D.nx } Z2 H2) (h:∀Z H,Pv xs.length Z H->D.nx Z H) :
  ∃W:Nat->Nat->St->Hp->Prop,(∃m,W 0 m Z H)/\∀i m Z H,W i m Z H->
   ((Itv K a xs.length).stop i H/\D.nx Z H)\/((Itv K a xs.length).go i H/\∃N:St->Hp->Prop,(∀Z' H',N Z' H'->∃b,b<m/\W (i+1) b Z' H')/\∀x H',(Itv K a xs.length).yld i H x H'->g x Z H' λZ2 H2=>tb { D with nx:=N,ct:=N,bk:=D.nx } Z2 H2):=by
 refine i02 (λi m Z H=>m=xs.length-i/\i<=xs.length/\Pv i Z H) (i06 xs.length (by simp) (Z1e _) d) ?_;rintro i m Z H ⟨rfl,k,p⟩;have q:=f i Z H p;by_cases hlt:i<xs.length
 ·refine .inr (i05 (i0m xs (xs[xs.length-1-i]) q rfl hlt (Z0b _)) (Pv (i+1)) (λZ' H' c=>(i0c (xs.length-(i+1)) (by lia) rfl hlt c)) λx H' y=> ?_);obtain ⟨e,y⟩:=y;subst e;exact j i x Z _ hlt (y xs q) p
 ·have e:i=xs.length:=by lia
  subst e;exact .inl ⟨rfl,h Z H p⟩
structure C6f (X:Cx) (scope:Scope) (cl:List (Str×Addr)):Prop where
 eq:closureFor scope X.env=pure cl
 sub:∀x c,cl.lookup x=some c->X.env.cells.lookup x=some c
 has:∀x,((relabel scope X.env).names.lookup x=some .cell\/(relabel scope X.env).names.lookup x=some .free)->∃c,cl.lookup x=some c
 kind:scope.kind= .function
 ncell:∀y∈scope.names,y.2≠.cell
 names:∀y∈scope.names,y.2= .local->scope.names.lookup y.1=some .local
noncomputable def blk (X:Cx) (N':List Str) (scope:Scope) (cl:List (Str×Addr)) (C:Addr) (s₀:Shared) (H₀:Hp) (fp:List Addr):Cx :=
 { X with N:=N',s₀:=s₀,H₀:=H₀,env:=compEnvC scope cl C X.env,outer:=X.stack,ex:=fp,fn:=λ_=>false,pn:=[],xe:=λ_ _=>False }
def A6q (ix:List (Option Nat)) (Z:St):St:=ix.map λo=>o.bind λj=>(Z[j]?).bind id
section
variable {X:Cx} {pins:List (Addr×Obj)} {Z:St} {H:Hp} {s:Shared} {N':List Str} {scope:Scope} {cl:List (Str×Addr)} {fp:List Addr} {ix:List (Option Nat)}
def D0y (X:Cx) (N':List Str) (scope:Scope) (ix:List (Option Nat)):Prop :=
 ix.length=N'.length/\∀i j:Nat,ix[i]? =some (some j)->∃x,N'[i]? =some x/\X.N[j]? =some x/\(X.env.scope.names.lookup x=some .cell\/X.env.scope.names.lookup x=some .free)/\
  ((relabel scope X.env).names.lookup x=some .cell\/(relabel scope X.env).names.lookup x=some .free)
theorem D8p (I:Inv X pins Z H s) (d:C6f X scope cl) (f:∀b∈fp,C1d X pins H b) (g:∀b∈fp,b<s.heap.objs.size):(blk X N' scope cl s.heap.objs.size s H fp).Ok where
 mod:=I.ok.mod
 kind:=d.kind
 glob:=I.ok.glob
 blt:=I.ok.blt
 above:=Z09 _
 inj:=λx y c i j=>I.ok.inj x y c (d.sub x c i) (d.sub y c j)
 has:=λx h=>d.has x h
 cab:=λx c h=>by cases h
 hd:=I.ok.hd
 frames:=I.ok.frames
 stk:= .inl rfl
 exf:=λb a=>⟨Z0h (g b a),λx c h=>(f b a).2.2.2.2.1 x c (d.sub x c h)⟩
 bs:=I.bs
 bsz:=Z1n I.ok.bsz I.sz
 noex:=λb o e a=>by
  rcases (f b a).2.2.2.1 with z | z
  ·exact I.ok.noex b o e z
  ·exact absurd (Z0q (Z0a (I.ok.bs b o e).1) z) (Nat.lt_irrefl _)
 exfs:=λb a k=>by
  rcases Z0e.mp (I.stkSub b k) with z | z
  ·exact (f b a).2.1 z
  ·exact (f b a).2.2.1 z
 funs:=I.stack
 frf:=I.stkFree
theorem B8q (I:Inv X pins Z H s) (n:C6f X scope cl) (D:D0y X N' scope ix) (f:∀b∈fp,C1d X pins H b) (B:∀b∈fp,b<s.heap.objs.size) {m:Str->Option Value} {t':Nat}
  (N:h'.Ns s.heap.objs.size m) (k:∀b o,s.heap.get? b=some o->h'.get? b=some o):Inv (blk X N' scope cl s.heap.objs.size s H fp) [] (A6q ix Z) H { s with heap:=h',toks:=t' }:=by
 have A:∀x c,cl.lookup x=some c->∃v,s.heap.IsCell c v:=λx c h=>I.cell x c (n.sub x c h);refine ⟨D8p I n f B,rfl,I.bare,Un.kept k,(i02 m N λi x v J d E=> ?_),λx c e=> ?_,I.hok.fresh (Z09 _),λx c e=>I.freeC x c (n.sub x c e),(λp R=>by cases R),I.hok.kept k,?_⟩
 ·unfold A6q at d;rw [Z1z] at d
  cases hi:ix[i]? with
  | none=>rw [hi] at d;cases d
  | some o =>
   rw [hi] at d
   cases o with
   | none=>cases Z1a d
   | some j =>
    have a:(Z[j]?).bind id=some v:=Z1a d;obtain ⟨l,P,O,g,C⟩:=D.2 i j hi;have S:l=x:=Z1a (P.symm.trans J);subst S
    have L:Z[j]? =some (some v):=by
     cases q:Z[j]? with
     | none=>rw [q] at a;cases a
     | some w =>
      rw [q] at a;exact congrArg some a
    obtain ⟨Y,_,K⟩:=I.loc;obtain ⟨u,T,Q⟩:=K j l v O L (g.elim (λz=> .inr (.inl z)) λz=> .inr (.inr z));refine i02 u T (.inr ⟨C,?_⟩);obtain ⟨c,F⟩:=n.has l C;refine i02 c F ?_;rcases Q with ⟨z,_⟩ | ⟨_,U,r,W⟩
    ·exfalso;have G:X.env.scope.names.lookup l=some .local:=z;rcases g with g | g <;> (rw [G] at g;cases g)
    ·have M:U=c:=Z1a (r.symm.trans (n.sub l c F));subst M;obtain ⟨o,y,t⟩:=W;exact i02 o (k _ _ y) t
 ·obtain ⟨v,o,y,t⟩:=A x c e;exact i07 v o (k _ _ y) t
 ·unfold A6q;rw [Z08];exact D.1
theorem D0d (I:Inv X pins Z H s) (f:∀b∈fp,C1d X pins H b) {Z':St} {s':Shared} {pl:List (Addr×Obj)} (J:Inv (blk X N' scope cl s.heap.objs.size s H fp) pl Z' H' s') (g:Heap.SameBut s.heap.objs.size s'.heap h') :
  Inv X pins Z H' { s' with heap:=h' }:=by
 have h:∀b o,s.heap.get? b=some o->b≠s.heap.objs.size:=λb o e=>Z0h (Z0a e);have j:H' s.heap.objs.size=none:=J.free;have u:Un (frs X.stack) fp H H' s.heap s'.heap:=J.base
 refine I.call' (ch:=fp) (s':={ s' with heap:=h' }) J.os ⟨λb o e n a d=>(g.2 b (h b o e)).trans (u.keep b o e n a d),λb o e n a d=> ?_,u.free,λb o e d=> ?_,u.tups,u.frzs,u.tbls⟩ (λb o e=> ?_) J.bare
  (λb a=>(i04 ((f b a).2.2.2.1) ((f b a).2.1) ((f b a).2.2.2.2.1) ((f b a).2.2.2.2.2)))
 ·obtain ⟨k,q⟩:=u.slot b o e n a d;exact ⟨k,(g.2 b (h b o e)).trans q⟩
 ·obtain ⟨l,q⟩:=u.there b o e d;exact ⟨l,(g.2 b (h b o e)).trans q⟩
 ·refine (J.hok b o e).stay (λc v i q=>(g.2 c ?_).trans q) (λc q=>q) λc m q=>q;rcases i with rfl | i
  ·exact A0z e j
  ·exact A0z i j
end
def A2w:St->St->Prop
 | [],_=>True
 | none::r,_::r'=>A2w r r'
 | none::r,[]=>A2w r []
 | some v::r,w::r'=>w=some v/\A2w r r'
 | some _::_,[]=>False
theorem A2w.get:∀{a b:St},A2w a b->∀(j:Nat) v,a[j]? =some (some v)->b[j]? =some (some v)
 | [],_,_,_,_,e=>by simp at e
 | none::r,_::r',h,0,v,e=>by simp at e
 | none::r,_::r',h,j+1,v,e=>by simpa using A2w.get (a:=r) (b:=r') h j v (by simpa using e)
 | none::r,[],h,0,v,e=>by simp at e
 | none::r,[],h,j+1,v,e=>by have:=A2w.get (a:=r) (b:=[]) h j v (by simpa using e);simp at this
 | some w::r,_::r',h,0,v,e=>by
  have c:w=v:=by simpa using e
  subst c
  simpa using h.1
 | some _::r,_::r',h,j+1,v,e=>by simpa using A2w.get (a:=r) (b:=r') h.2 j v (by simpa using e)
section
variable {X:Cx}
def E0b (ix:List (Option Nat)) (wi:TI) (g:TG) (te:TE):TE:=λZ H Q=>wi Z H λJ d=>∀D,d D=none->∃W:Nat->Nat->Hp->Prop,(∃m,W 0 m (upd d D (.lst [])))/\∀i m a,W i m a->
 (J.stop i a/\Q (.ref D) a)\/(J.go i a/\∃N:VK,(∀y c,N y c->∃b,c D=some (.lst b)/\b.length<sizeLine/\∃f,f<m/\W (i+1) f (upd c D (.lst (b++[y]))))/\∀x e,J.yld i a x e->g x (A6q ix Z) e λZ4 h=>A2w (A6q ix Z) Z4/\te Z4 h N)
end
section
variable {X:Cx} {m:Str} {pos apos:Pos} {e o:Expr} {es:List Expr} {ta:TE} {t:TA}
def E0l (X:Cx) (m:Str) (ta:TE) (t:TA):TE:=λZ H Q=>ta Z H λx c=>∃(a C i:Addr) (b:List (Str×V)) (k:Nat) (f:Addr) (e:FuncData) (d:List Str) (g:Sp),x= .ref a/\c a=some (.ins C i b)/\Cls X.K C/\C2y X.K C m f/\b.lookup m=none/\
 A3h X.prog X.w X.K X.mg X.base CX0 k f e d g/\B0r k X.A/\A9b X.K e d []/\t Z c λj h=>g (x::j) h Q E0
theorem B7g {pl:Sem Bool} (y:PE X o ta) (B:PA X (e::es) t)
  (d:starEach (e::es) X.env=(false,eval e X.env)::starEach es X.env:=by rfl) (g:(backTo pos (starEach es X.env)).any (·.1)=false:=by rfl)
  (J:eval (.Call (.Attribute o m apos) (e::es) [] pos) X.env=(do
   let ov<-eval o X.env
   standAt apos.atName
   let (f,first)<-holding [ov] (getMethod ov m pl)
   callWith pos f first (backTo pos (starEach (e::es) X.env)) (backToKw pos (keywordEach [] X.env))):=by rfl) :
  PE X (.Call (.Attribute o m apos) (e::es) [] pos) (E0l X m ta t):=by
 intro b s Z H Q I h;refine PySem.W.methodCall_KW (pl:=pl) (thn (y b s Z H _ I h) ?_) J;rintro u w j;refine e0b j ?_;clear j;rintro x z I1 v a C M ⟨K,k,f,P,L,N,D,G,c,i,l,F,n,A,q⟩;subst D;obtain rfl:u=Value.ref a:=v;refine B0v I1 G c i l ?_;refine PySem.W.callWith_K (first:=[.ref a]) (h₀:=X.base) I.ok.mod.kin i.kp (thn (B pos b w Z z _ I1 q) λus R ⟨vs,O,I2,r,p⟩=>⟨I2.kIn,?_⟩) d g;exact C3k (us:= .ref a::us) (vs:= .ref a::vs) (dvs:=[]) F n A .nil B6f I2 (.cons rfl r) (by rw [Z0u];exact p)
end
mutual
inductive Rep (H:Hp):V->PyData->Prop
 | non:Rep H .non .none
 | bl (b:Bool):Rep H (.bl b) (.bool b)
 | int (i:Int):Rep H (.int i) (.int i)
 | str (x:Str):Rep H (.str x) (.str x)
 | lst {p:Addr} {xs:List V} {ds:List PyData}:H p=some (.lst xs)->A4y H xs ds->Rep H (.ref p) (.list ds)
 | tup {p:Addr} {xs:List V} {ds:List PyData}:H p=some (.tup xs)->A4y H xs ds->Rep H (.ref p) (.tuple ds)
inductive A4y (H:Hp):List V->List PyData->Prop
 | nil:A4y H [] []
 | cons {v:V} {vs:List V} {d:PyData} {ds:List PyData}:Rep H v d->A4y H vs ds->A4y H (v::vs) (d::ds)
end
mutual
theorem Rep.imp {H H':Hp} (f:∀p o,H p=some o->H' p=some o):∀{v:V} {d:PyData},Rep H v d->Rep H' v d
 | _,_,.non=> .non
 | _,_,.bl b=> .bl b
 | _,_,.int i=> .int i
 | _,_,.str x=> .str x
 | _,_,.lst e r=> .lst (f _ _ e) (A4y.imp f r)
 | _,_,.tup e r=> .tup (f _ _ e) (A4y.imp f r)
theorem A4y.imp {H H':Hp} (f:∀p o,H p=some o->H' p=some o):∀{vs:List V} {ds:List PyData},A4y H vs ds->A4y H' vs ds
 | _,_,.nil=> .nil
 | _,_,.cons a r=> .cons (Rep.imp f a) (A4y.imp f r)
end
theorem Rep.same {d:PyData} (h:Rep H v d) (s:A0u H H'):Rep H' v d:=h.imp s
theorem A4y.same {v:List V} {d:List PyData} (h:A4y H v d) (s:A0u H H'):A4y H' v d:=h.imp s
theorem A4y.len {H:Hp}:∀{vs:List V} {ds:List PyData},A4y H vs ds->vs.length=ds.length
 | _,_,.nil=>rfl
 | _,_,.cons _ r=>by rw [Z0y,Z0y,A4y.len r]
theorem A4y.snoc {H:Hp} {v:V} {d:PyData} (a:Rep H v d):∀{vs:List V} {ds:List PyData},A4y H vs ds->A4y H (vs++[v]) (ds++[d])
 | _,_,.nil=> .cons a .nil
 | _,_,.cons b r=> .cons b (A4y.snoc a r)
theorem A4y.strs {H:Hp}:∀xs:List Str,A4y H (xs.map V.str) (xs.map PyData.str)
 | []=> .nil
 | x::r=> .cons (.str x) (A4y.strs r)
section
variable {X:Cx} {pins:List (Addr×Obj)} {Z:St} {H:Hp} {s:Shared}
mutual
theorem A8k (I:Inv X pins Z H s):∀{v:V} {d:PyData} {u:Value},Rep H v d->A3c v u->∃as,Reads s.heap u d as
 | _,_,u,.non,r=>by cases (show u=Value.none from r);exact ⟨_,.none⟩
 | _,_,u,.bl b,r=>by cases (show u=Value.bool b from r);exact ⟨_,.bool b⟩
 | _,_,u,.int i,r=>by obtain ⟨t,q⟩:=(show∃t,u=Value.int i t from r);cases q;exact ⟨_,.int i t⟩
 | _,_,u,.str x,r=>by obtain ⟨t,q⟩:=(show∃t,u=Value.str x t from r);cases q;exact ⟨_,.str x t⟩
 | _,_,u,@Rep.lst _ p xs ds e q,r=>by
  cases (show u=Value.ref p from r)
  obtain ⟨_,c,n,a,f⟩:=(show A2q X.prog X.w H s.heap p (.lst xs) from I.hok p _ e);obtain ⟨as,z⟩:=B1l I q a;exact ⟨_,Reads.list f rfl rfl (by simpa using z)⟩
 | _,_,u,@Rep.tup _ p xs ds e q,r=>by
  cases (show u=Value.ref p from r)
  obtain ⟨_,c,a,o,f,g,n,h⟩:=(show A2q X.prog X.w H s.heap p (.tup xs) from I.hok p _ e);obtain ⟨as,z⟩:=B1l I q a;exact ⟨_,Reads.tuple f g h (by simpa using z)⟩
theorem B1l (I:Inv X pins Z H s):∀{vs:List V} {ds:List PyData} {us:List Value},A4y H vs ds->A3z vs us->∃as,ReadsAll s.heap us ds as
 | _,_,_,.nil,.nil=>⟨_,.nil⟩
 | _,_,_,.cons a r,.cons q rv=>by
  obtain ⟨as,z⟩:=A8k I a q;obtain ⟨b,y⟩:=B1l I r rv;exact ⟨_,.cons z y⟩
end
end
def rEqD (a:Bool):R2:=λx y H Q=>∃d e,Rep H x d/\Rep H y e/\SeqAt.shaped d=true/\SeqAt.shaped e=true/\Q (.bl (if a then ! PyData.eqv d e else PyData.eqv d e)) H
section
variable {X:Cx}
theorem E0p (b:X.A.units+64<cLine):OpR X (compareOp .Eq) (rEqD false):=by
 intro a s Z H x y v u Q I i f h;obtain ⟨d,e,c,l,j,m,q⟩:=h;obtain ⟨o,g⟩:=A8k I c i;obtain ⟨n,k⟩:=A8k I l f;exact eq_dataH g k j m b (i0f (.bl (PyData.eqv d e)) H I rfl q)
def rSlS:V->Option Int->Option Int->Hp->VK->Prop:=λx a b H Q=>∃z,x= .str z/\z.length<=sizeLine/\Q (.str (Txt.slice z a b)) H
theorem D3w:SlR X rSlS:=by
 intro a s Z H x v A B o n y Q I r w p m h;obtain ⟨z,rfl,d,q⟩:=h;obtain ⟨t,rfl⟩:=(show∃t,v=Value.str z t from r);refine i0f "str" _ F.slot_str_getitem.lookup (typeIs_str _ _ _) ?_;obtain ⟨c,e,f,b⟩:=w;have fin:∀g k,EP X a Z Q (.str (Txt.slice z o n) g) { s with toks:=k }:=λg k=>(i0f (.str (Txt.slice z o n)) H (I.tok k) ⟨g,rfl⟩ q)
 cases p with
 | none =>
  cases m with
  | none=>exact wpAny_getItem_str_slice (l:=none) (u:=none) (st:=none) (i06 c e f b) rfl (post_val_or_str ⟨Z1n (Txt.slice_le z _ _) d,fin⟩)
  | int j uj=>exact wpAny_getItem_str_slice (l:=none) (u:=some (j,uj)) (st:=none) (i06 c e f b) rfl (post_val_or_str ⟨Z1n (Txt.slice_le z _ _) d,fin⟩)
 | int i ui =>
  cases m with
  | none=>exact wpAny_getItem_str_slice (l:=some (i,ui)) (u:=none) (st:=none) (i06 c e f b) rfl (post_val_or_str ⟨Z1n (Txt.slice_le z _ _) d,fin⟩)
  | int j uj=>exact wpAny_getItem_str_slice (l:=some (i,ui)) (u:=some (j,uj)) (st:=none) (i06 c e f b) rfl (post_val_or_str ⟨Z1n (Txt.slice_le z _ _) d,fin⟩)
def E4b:V->List V->Hp->VK->Prop:=λx a H Q=>∃z y,x= .str z/\a=[.str y]/\Q (.int (Txt.find z y)) H
theorem D5e:MtR X "str.find" E4b:=by
 intro a s Z H x e v f Q I b c h;obtain ⟨z,y,rfl,rfl,q⟩:=h;obtain ⟨t,rfl⟩:=(show∃t,v=Value.str z t from b);obtain ⟨u,rfl,d⟩:=B1d c;obtain ⟨g,rfl⟩:=(show∃t,u=Value.str y t from d);exact SC.find (i0f (.int (Txt.find z y)) H (I.tok _) ⟨_,rfl⟩ q)
end
theorem A2y (m:scope.kind= .function) (d:∀y∈scope.names,y.2≠.free/\y.2≠.cell) (j:∀y∈scope.names,y.2= .local->scope.names.lookup y.1=some .local):C6f X scope [] where
 eq:=closureFor_none λy b=>(d y b).1
 sub:=λx c h=>by cases h
 has:=λx h=>by
  exfalso
  have e:(relabel scope X.env).names=scope.names:=map_eq_self λy b=>by
   obtain ⟨n,k⟩:=y;have z:=(d _ b).1;have i:(k == NameKind.free)=false:=by simpa using z
   simp [i]
  rw [e] at h
  have f:∀{k:NameKind},scope.names.lookup x=some k->(x,k)∈scope.names:=λ{k} q=>by
   generalize scope.names=l at q
   induction l with
   | nil=>cases q
   | cons a r ih =>
    obtain ⟨n,o⟩:=a;rw [Z28] at q;split at q
    ·rename_i hb;have g:x=n:=by simpa using hb
     cases q
     subst g;exact .head _
    ·exact .tail _ (ih q)
  rcases h with h | h
  ·exact (d _ (f h)).2 rfl
  ·exact (d _ (f h)).1 rfl
 kind:=m
 ncell:=λy b=>(d y b).2
 names:=j
theorem A3b (h:n=N'.length):D0y X N' scope (List.replicate n none):=⟨by rw [List.length_replicate];exact h,λi j e=>by
 rw [List.getElem?_replicate] at e
 split at e <;> cases e⟩
section
variable {K:Frag} {a D:Addr} {xs:List V} {g:TG} {te:TE} {Q:VK} {Z₀:St} {H:Hp}
theorem C8u (Pv:Nat->List V->Hp->Prop) (f:Pv 0 [] (upd H D (.lst []))) (h:∀i ys H,Pv i ys H->SqL K H a xs)
  (k:∀i x ys H,xs[i]? =some x->Pv i ys H->g x Z₀ H λZ4 H4=>A2w Z₀ Z4/\te Z4 H4 λy b=>b D=some (.lst ys)/\ys.length<sizeLine/\Pv (i+1) (ys++[y]) (upd b D (.lst (ys++[y])))) (j:∀ys H,Pv xs.length ys H->Q (.ref D) H) :
  ∃W:Nat->Nat->Hp->Prop,(∃m,W 0 m (upd H D (.lst [])))/\∀i m H2,W i m H2->
   ((Itl K a).stop i H2/\Q (.ref D) H2)\/((Itl K a).go i H2/\∃N:VK,(∀y b,N y b->∃xs,b D=some (.lst xs)/\xs.length<sizeLine/\∃d,d<m/\W (i+1) d (upd b D (.lst (xs++[y]))))/\
    ∀x c,(Itl K a).yld i H2 x c->g x Z₀ c λZ4 H4=>A2w Z₀ Z4/\te Z4 H4 N):=by
 refine i02 (λi m H=>m=xs.length-i/\i<=xs.length/\∃ys,Pv i ys H) (i0d xs.length (by simp) (Z1e _) [] f) ?_;rintro i m H2 ⟨rfl,l,ys,p⟩;have q:=h i ys H2 p;by_cases hlt:i<xs.length
 ·refine .inr (i05 (i07 xs (xs[i]) q (by simp [hlt])) (λy b=>b D=some (.lst ys)/\ys.length<sizeLine/\Pv (i+1) (ys++[y]) (upd b D (.lst (ys++[y])))) (λy b n=>(i0v ys n.1 n.2.1 (xs.length-(i+1)) (by lia) rfl hlt _ n.2.2)) λx c z=> ?_);obtain ⟨e,z⟩:=z;subst e;exact k i x ys _ (z xs q) p
 ·have e:i=xs.length:=by lia
  subst e;exact .inl ⟨(i02 xs q (Z09 _)),j ys H2 p⟩
theorem D1j (Pv:Nat->List V->Hp->Prop) (f:Pv 0 [] (upd H D (.lst []))) (h:∀i ys H,Pv i ys H->SqT K H a xs)
  (k:∀i x ys H,xs[i]? =some x->Pv i ys H->g x Z₀ H λZ4 H4=>A2w Z₀ Z4/\te Z4 H4 λy b=>b D=some (.lst ys)/\ys.length<sizeLine/\Pv (i+1) (ys++[y]) (upd b D (.lst (ys++[y])))) (j:∀ys H,Pv xs.length ys H->Q (.ref D) H) :
  ∃W:Nat->Nat->Hp->Prop,(∃m,W 0 m (upd H D (.lst [])))/\∀i m H2,W i m H2->
   ((Itt K a).stop i H2/\Q (.ref D) H2)\/((Itt K a).go i H2/\∃N:VK,(∀y b,N y b->∃xs,b D=some (.lst xs)/\xs.length<sizeLine/\∃d,d<m/\W (i+1) d (upd b D (.lst (xs++[y]))))/\
    ∀x c,(Itt K a).yld i H2 x c->g x Z₀ c λZ4 H4=>A2w Z₀ Z4/\te Z4 H4 N):=by
 refine i02 (λi m H=>m=xs.length-i/\i<=xs.length/\∃ys,Pv i ys H) (i0d xs.length (by simp) (Z1e _) [] f) ?_;rintro i m H2 ⟨rfl,l,ys,p⟩;have q:=h i ys H2 p;by_cases hlt:i<xs.length
 ·refine .inr (i05 (i07 xs (xs[i]) q (by simp [hlt])) (λy b=>b D=some (.lst ys)/\ys.length<sizeLine/\Pv (i+1) (ys++[y]) (upd b D (.lst (ys++[y])))) (λy b n=>(i0v ys n.1 n.2.1 (xs.length-(i+1)) (by lia) rfl hlt _ n.2.2)) λx c z=> ?_);obtain ⟨e,z⟩:=z;subst e;exact k i x ys _ (z xs q) p
 ·have e:i=xs.length:=by lia
  subst e;exact .inl ⟨(i02 xs q (Z09 _)),j ys H2 p⟩
end
abbrev TJ:=St->Hp->Str->(Str->Hp->Prop)->Prop
def PJ (X:Cx) (es:List Expr) (t:TJ):Prop :=
 ∀(a:List (Addr×Obj)) (s:Shared) (Z:St) (H:Hp) (b:Str) (Q:Str->Hp->Prop),Inv X a Z H s->t Z H b Q->wpAny (model X.prog X.w) X.A (joinParts b (evalEach es X.env)) (EP X a Z λv c=>∃z,v= .str z/\Q z c) X.xe s
def FmtV (x:V) (y:Str):Prop:=(x= .str y/\y.length<=sizeLine)\/∃i:Int,x= .int i/\i.natAbs.log2<1920/\y=(toString i:Str)
def E3o:TJ:=λ_ H a Q=>a.length<=sizeLine/\Q a H
def E1h (te:TE) (tr:TJ):TJ:=λZ H a Q=>te Z H λx b=>∃y,FmtV x y/\(a++y).length<=sizeLine/\tr Z b (a++y) Q
def E3n (x:Str) (tr:TJ):TJ:=λZ H a Q=>(a++x).length<=sizeLine/\tr Z H (a++x) Q
section
variable {X:Cx} {e:Expr} {es:List Expr} {te:TE} {tr:TJ} {pos p2:Pos}
theorem E2d:PJ X [] E3o:=λb s Z H a Q I h=>joinParts_nil (i0q (.str a) H (I.tok _) ⟨_,rfl⟩ a rfl h.2) h.1
theorem D9h (j:PE X e te) (b:PJ X es tr) (n:evalEach (.FormattedValue e (-1) none pos::es) X.env=eval (.FormattedValue e (-1) none pos) X.env::evalEach es X.env:=by rfl):PJ X (.FormattedValue e (-1) none pos::es) (E1h te tr):=by
 intro a s Z H o Q I h;rw [n];refine joinParts_cons (FormattedValue_plain (thn (j a s Z H _ I h) ?_));rintro v r ⟨x,c,I1,d,y,f,g,q⟩;rcases f with ⟨rfl,k⟩ | ⟨i,rfl,l,rfl⟩
 ·obtain ⟨t,rfl⟩:=(show∃t,v=Value.str y t from d);exact formatField_str (λp m=>⟨g,b a _ Z c _ Q (I1.tok m) q⟩) k
 ·obtain ⟨t,rfl⟩:=(show∃t,v=Value.int i t from d);exact formatField_int_small l ⟨g,b a _ Z c _ Q (I1.tok _) q⟩
theorem D9j {j:Nat} (b:PJ X es tr) (k:evalEach (.Constant (.str x) j pos::es) X.env=eval (.Constant (.str x) j pos) X.env::evalEach es X.env:=by rfl):PJ X (.Constant (.str x) j pos::es) (E3n x tr):=by
 intro a s Z H l Q I h;rw [k];refine joinParts_cons (thn (A1w a s Z H (λv f=>v= .str x/\f=H) I ⟨rfl,rfl⟩) ?_);rintro v i ⟨y,d,I1,g,c,e⟩;subst c e;obtain ⟨t,rfl⟩:=(show∃t,v=Value.str x t from g);exact ⟨h.1,b a i Z d _ Q I1 h.2⟩
def E3z (a:TJ):TE:=λZ H Q=>a Z H Str.empty λz b=>Q (.str z) b
theorem D7l {a b:Expr} {d:TJ} (h:PJ X (a::b::es) d) (j:evalEach (a::b::es) X.env=eval a X.env::eval b X.env::evalEach es X.env:=by rfl):PE X (.JoinedStr (a::b::es) pos) (E3z d):=by
 intro c s Z H Q I i;refine JoinedStr_many ?_;rw [<-j];exact thn (h c s Z H _ _ I i) (by rintro u k ⟨v,e,I1,g,z,f,q⟩;subst f;exact i0f (.str z) e I1 g q)
end
theorem A7d {x:Str} {k:NameKind}:∀{l:List (Str×NameKind)},l.lookup x=some k->(x,k)∈l
 | [],q=>by cases q
 | (n,k')::r,q=>by
  rw [Z28] at q;split at q
  ·rename_i hb;have a:x=n:=by simpa using hb
   cases q
   subst a;exact .head _
  ·exact .tail _ (A7d q)
theorem A7o {c:Addr} (o:closureFor scope X.env=pure [(x,c)]) (u:X.env.cells.lookup x=some c) (a:scope.kind= .function) (b:∀y∈scope.names,y.2≠.cell/\(y.2= .free->y.1=x))
  (r:∀y∈scope.names,y.2= .local->scope.names.lookup y.1=some .local):C6f X scope [(x,c)] where
 eq:=o
 sub:=λy d h=>by
  rw [Z28] at h;split at h
  ·rename_i f;have g:y=x:=by simpa using f
   cases h
   subst g;exact u
  ·cases h
 has:=λy h=>by
  have j:y=x:=by
   have m:∃k,(y,k)∈(relabel scope X.env).names/\(k= .cell\/k= .free):=h.elim (λz=>(i02 _ (A7d z) (.inl rfl))) λz=>(i02 _ (A7d z) (.inr rfl));obtain ⟨k,q,a⟩:=m;obtain ⟨⟨n,i⟩,l,e⟩:=Z2c.mp q;dsimp only at e;by_cases hf:i= .free
   ·have s:n=y:=by
     split at e
     ·exact congrArg Prod.fst e
     ·exact congrArg Prod.fst e
    rw [<-s];exact (b _ l).2 hf
   ·have f:(i == NameKind.free)=false:=by simpa using hf
    simp only [f,Bool.false_and,Bool.false_eq_true,if_false] at e;have t:i=k:=congrArg Prod.snd e;subst t;rcases a with a | a
    ·exact absurd a (b _ l).1
    ·exact absurd a hf
  subst j;exact ⟨c,by simp [Z28]⟩
 kind:=a
 ncell:=λy p=>(b y p).1
 names:=r
theorem A5u {N0:List Str} {j:Nat} (c:X.N[j]? =some x) (h1:X.env.scope.names.lookup x=some .cell\/X.env.scope.names.lookup x=some .free)
  (h2:(relabel scope X.env).names.lookup x=some .cell\/(relabel scope X.env).names.lookup x=some .free):D0y X (N0++[x]) scope (List.replicate N0.length none++[some j]):=by
 refine ⟨by simp,λi k e=> ?_⟩;by_cases hi:i<N0.length
 ·rw [Z26 (by simpa using hi),List.getElem?_replicate] at e;split at e <;> cases e
 ·have a:i=N0.length:=by
   have:=(Z03.mp e).1;simp at this
   lia
  subst a;rw [Z1l (by simp)] at e;have b:j=k:=by simpa using e
  subst b;exact i0c x (by simp) c h1 h2
def D9u (lo c:Int) (n:Nat):It:=⟨λi _=>i<n,λi H x a=>a=H/\x= .int (lo+i*c),λi _=>i=n⟩
theorem C2f {tg:Expr} (it:Addr) (lo c:Int) (n:Nat):D4a P w K tg (D9u lo c n) [it] it (λi h=>IsRangeIter h it (lo+(i:Nat)*c) ((n:Int)-(i:Nat)) c) where
 mem:=by simp
 obj:=λi h a b f=>by
  have e:b=it:=by simpa using f
  subst e;exact i02 _ a λv z=>by cases (show Data.fields _=Data.cell v from z)
 keep:=λi h j a k=>k it (by simp) _ a
 item:=by
  intro X y p F G i d s Z H E I l a C;subst y p F;obtain ⟨x,q,J,u,B,r⟩:=l it (by simp);have W:=Walks.range (prog:=X.prog) (w:=X.w) (I.ok.hd G) it lo c n;refine W.item i s _ _ C a λv j D L g m=> ?_;obtain ⟨t,rfl⟩:=L;have I1:Inv X d Z H { s with heap:=j,toks:=D }:=I.turned (λb o f e=>m b o (by simpa using f) e) x q u B r
  exact i02 _ rfl (C4x (s:={ s with heap:=j,toks:=D }) (n:="range_iterator") g rfl rfl (by decide) (i0p (.int (lo+i*c)) H I1 ⟨t,rfl⟩ ⟨rfl,rfl⟩ g λb f=>(l b f).1))
 done:=by
  intro X y p F G i d s Z H E I l a C;subst y p F;obtain ⟨x,q,J,u,B,r⟩:=l it (by simp);have W:=Walks.range (prog:=X.prog) (w:=X.w) (I.ok.hd G) it lo c n;have e:i=n:=C;subst e;exact W.done s _ _ a λj D m=>⟨rfl,I.turned (λb o f e=>m b o (by simpa using f) e) x q u B r⟩
 self:=λA i s Q E a h=>wpAny_pyIter_rangeiter a h
def E2t (ta:TA):TI:=λZ H R=>ta Z H λe d=>∃a b c:Int,e=[.int a,.int b,.int c]/\(0<=a/\a<=1000000/\-1000000<=b/\b<=1000000/\0<c/\c<=1000000)/\R (D9u a c (Builtin.Range.rangeSize a b c).toNat) d
theorem D4x {a b c:Int} (h:0<=a/\a<=1000000/\-1000000<=b/\b<=1000000/\0<c/\c<=1000000):0<=Builtin.Range.rangeSize a b c/\Builtin.Range.rangeSize a b c<=1000000:=by
 unfold Builtin.Range.rangeSize;rw [Z12 h.2.2.2.2.1];split
 ·have e:0<=(b-a-1)/c:=Int.ediv_nonneg (by lia) (by lia);have d:(b-a-1)/c<=b-a-1:=Int.ediv_le_self _ (by lia)
  lia
 ·lia
theorem E1y {a b c:Int} (h:0<=a/\a<=1000000/\-1000000<=b/\b<=1000000/\0<c/\c<=1000000):Builtin.Range.small a b c=true:=by
 obtain ⟨d,e⟩:=D4x h;unfold Builtin.Range.small;simp only [Builtin.Range.rangeFitsLong,Z1x,Bool.or_eq_true,decide_eq_true_eq,beq_iff_eq,Z12 h.2.2.2.2.1]
 lia
theorem B7w {tg:Expr} {a b c:Expr} {ta:TA} {p:Pos} (C:Gl X "range") (A:X.mg "range"=none) (D:PA X [a,b,c] ta) (z:starEach [a,b,c] X.env=[(false,eval a X.env),(false,eval b X.env),(false,eval c X.env)]:=by rfl)
  (l:starEach [b,c] X.env=[(false,eval b X.env),(false,eval c X.env)]:=by rfl):PI X tg (.Call (.Name "range" p) [a,b,c] [] pos) (E2t ta):=by
 intro g s Z H R I h;refine Call_ (B1u I C A boot_range (PyProof.Rows.callWith_type1 (thn (D pos g s Z H _ I h) ?_) (by rw [z,l]) (by rw [l];rfl)));rintro F f ⟨G,n,I1,B,y⟩;obtain ⟨i,j,k,e,m,q⟩:=y;subst e
 cases B with
 | cons r rr =>
  cases rr with
  | cons r' rr =>
   cases rr with
   | cons r'' rr =>
    cases rr
    obtain ⟨t,rfl⟩:=r;obtain ⟨t',rfl⟩:=r';obtain ⟨d,rfl⟩:=r'';refine call_range_3 (by lia) ?_ (.inl (PyProof.noPylong_small (by lia)));have I2:Inv X g Z n { f with heap:=f.heap.push { cls:= .type "range",data:= .fields #[.int i t,.int j t',.int k d] },toks:=f.toks }:=I1.kept λb o e=>Z01 _ e
    refine wpAny_pyIter_range (t:=t) (u:=t') (v:=d) (s:={ f with heap:=f.heap.push { cls:= .type "range",data:= .fields #[.int i t,.int j t',.int k d] },toks:=f.toks }) (Z0c _ rfl) (E1y m) ?_;have w:i+((0:Nat):Int)*k=i:=by simp
    have x:(((Builtin.Range.rangeSize i j k).toNat:Nat):Int)-((0:Nat):Int)=Builtin.Range.rangeSize i j k:=by have:=(D4x m).1;lia
    refine i14 _ [(f.heap.push { cls:= .type "range",data:= .fields #[.int i t,.int j t',.int k d] }).objs.size] _ _ n rfl (I2.kept (t':=f.toks) λb o e=>Z01 _ e) (C2f _ i k _) ?_ (λb m=> ?_) q
    ·show IsRangeIter _ _ (i+((0:Nat):Int)*k) _ k;rw [w,x];exact Z0c _ rfl
    ·have e:b=(f.heap.push { cls:= .type "range",data:= .fields #[.int i t,.int j t',.int k d] }).objs.size:=by simpa using m
     subst e;exact I2.fpOk (Z09 _) (I2.hok.fresh (Z09 _))
theorem C4s {lo c:Int} (Pv:Nat->St->Hp->Prop) (d:Pv 0 Z H)
  (h:∀i Z H,i<n->Pv i Z H->g (.int (lo+i*c)) Z H λZ2 H2=>tb { D with nx:=Pv (i+1),ct:=Pv (i+1),bk:=D.nx } Z2 H2) (f:∀Z H,Pv n Z H->D.nx Z H) :
  ∃W:Nat->Nat->St->Hp->Prop,(∃m,W 0 m Z H)/\∀i m Z H,W i m Z H->
   ((D9u lo c n).stop i H/\D.nx Z H)\/((D9u lo c n).go i H/\∃N:St->Hp->Prop,(∀Z' H',N Z' H'->∃a,a<m/\W (i+1) a Z' H')/\∀x H',(D9u lo c n).yld i H x H'->g x Z H' λZ2 H2=>tb { D with nx:=N,ct:=N,bk:=D.nx } Z2 H2):=by
 refine i02 (λi m Z H=>m=n-i/\i<=n/\Pv i Z H) (i06 n (by simp) (Z1e _) d) ?_;rintro i m Z H ⟨rfl,j,p⟩;by_cases hlt:i<n
 ·refine .inr (i05 hlt (Pv (i+1)) (λZ' H' b=>(i0c (n-(i+1)) (by lia) rfl hlt b)) λx H' y=> ?_);obtain ⟨e,rfl⟩:=y;subst e;exact h i Z _ hlt p
 ·have e:i=n:=by lia
  subst e;exact .inl ⟨rfl,f Z H p⟩
theorem A0o {o:HO} (s:A0u H H') (a:H l=none):A0u H (upd H' l o):=λb u e=>by
 rw [A0i (A0z e a)];exact s b u e
theorem A0e {o:HO} (a:H l=none):A0u H (upd H l o):=A0o (A0u.refl H) a
theorem A2f {x dx:Addr} {o v:HO} (a:H x=none) (b:H dx=none):A0u H (upd (upd (upd H dx o) x u) x v):=A0o (A0o (A0e b) a) a
theorem A2a (h:n<=1000000):n<=sizeLine:=by rw [sizeLine_eq];lia
theorem A1l (h:n<=1000000):n<sizeLine:=by rw [sizeLine_eq];lia
noncomputable def A0s (S:Addr->Prop) (H:Hp):Hp:=λa=> @ite _ (S a) (Classical.propDecidable _) (H a) none
theorem C3d (h:S a):A0s S H a=H a:=by unfold A0s;rw [Z12 h]
theorem C8y (h:¬S a):A0s S H a=none:=by unfold A0s;rw [Z0t h]
theorem A0l {o:HO} (h:A0s S H a=some o):S a/\H a=some o:=by
 by_cases hs:S a
 ·rw [C3d hs] at h;exact ⟨hs,h⟩
 ·rw [C8y hs] at h;cases h
theorem A0h {o:HO} (b:S a) (h:H a=some o):A0s S H a=some o:=by rw [C3d b];exact h
theorem A0m:A0u (A0s S H) H:=λ_ _ e=>(A0l e).2
theorem A0g (s:A0u H H'):A0u (A0s S H) (A0s S H'):=λb o e=>A0h (A0l e).1 (s _ _ (A0l e).2)
theorem A2x {S':Addr->Prop} (s:A0u H H') (h:∀a o,H a=some o->S a->S' a):A0u (A0s S H) (A0s S' H'):=λb o e=>A0h (h _ _ (A0l e).2 (A0l e).1) (s _ _ (A0l e).2)
theorem A2i {o:HO} (s:A0u (A0s S H) (A0s S H')) (h:¬S l):A0u (A0s S H) (A0s S (upd H' l o)):=λb u e=>by
 have q:=A0l (s _ _ e);have a:b≠l:=λz=>h (by rw [<-z];exact q.1);exact A0h q.1 (by rw [A0i a];exact q.2)
def Fr (S:Addr->Prop) (H:Hp):Prop:=∀a,H a=none->S a
theorem Fr.same (f:Fr S H) (s:A0u H H'):Fr S H':=λa h=>f a (s.free h)
mutual
theorem Rep.imp2 {H H':Hp} (f:∀p xs,H p=some (.lst xs)->H' p=some (.lst xs)) (g:∀p xs,H p=some (.tup xs)->H' p=some (.tup xs)):∀{v:V} {d:PyData},Rep H v d->Rep H' v d
 | _,_,.non=> .non
 | _,_,.bl b=> .bl b
 | _,_,.int i=> .int i
 | _,_,.str x=> .str x
 | _,_,.lst e r=> .lst (f _ _ e) (A4y.imp2 f g r)
 | _,_,.tup e r=> .tup (g _ _ e) (A4y.imp2 f g r)
theorem A4y.imp2 {H H':Hp} (f:∀p xs,H p=some (.lst xs)->H' p=some (.lst xs)) (g:∀p xs,H p=some (.tup xs)->H' p=some (.tup xs)):∀{vs:List V} {ds:List PyData},A4y H vs ds->A4y H' vs ds
 | _,_,.nil=> .nil
 | _,_,.cons a r=> .cons (Rep.imp2 f g a) (A4y.imp2 f g r)
end
theorem Rep.ins {d:PyData} {dx:Addr} {fs:List (Str×V)} {o:HO} (h:Rep H v d) (e:H p=some (.ins C dx fs)):Rep (upd H p o) v d :=
 h.imp2 (λq a z=>by rw [A0i (A3m z e (by intro w;cases w))];exact z) (λq a z=>by rw [A0i (A3m z e (by intro w;cases w))];exact z)
section
variable {G:Hp} {v:V} {vs:List V} {d:PyData} {ds:List PyData}
theorem B6p (h:Rep G v (.tuple ds)):∃p xs,v= .ref p/\G p=some (.tup xs)/\A4y G xs ds:=by
 cases h with
 | tup e r=>exact i0f _ _ rfl e r
theorem A5m (h:Rep G v (.list ds)):∃p xs,v= .ref p/\G p=some (.lst xs)/\A4y G xs ds:=by
 cases h with
 | lst e r=>exact i0f _ _ rfl e r
theorem B0s (h:Rep G v (.str x)):v= .str x:=by cases h;rfl
theorem C2i {x:Int} (h:Rep G v (.int x)):v= .int x:=by cases h;rfl
theorem A4m (h:A4y G vs (d::ds)):∃u r,vs=u::r/\Rep G u d/\A4y G r ds:=by
 cases h with
 | cons a r=>exact i0f _ _ rfl a r
theorem B2r (h:A4y G vs []):vs=[]:=by cases h;rfl
end
mutual
def cnt:PyData->Nat
 | .none=>1
 | .bool _=>1
 | .int _=>1
 | .str _=>1
 | .list xs=>A4i xs+1
 | .tuple xs=>A4i xs+1
 | .dict _=>1
def A4i:List PyData->Nat
 | []=>0
 | x::xs=>cnt x+A4i xs
end
theorem D6z (d:PyData):1<=cnt d:=by cases d <;> simp [cnt]
theorem C0v:∀ds:List PyData,ds.length<=A4i ds
 | []=>by simp [A4i]
 | d::r=>by
  have:=C0v r;have:=D6z d;simp only [A4i,Z0y]
  lia
theorem C9o:∀{ds:List PyData} {i:Nat} {d:PyData},ds[i]? =some d->cnt d<=A4i ds/\PyData.depth d<=PyData.depthAll ds
 | [],_,_,e=>by simp at e
 | d::r,0,_,e=>by
  simp at e;subst e;simp only [A4i,PyData.depthAll]
  lia
 | x::r,i+1,d,e=>by
  have:=C9o (ds:=r) (i:=i) (d:=d) (by simpa using e);simp only [A4i,PyData.depthAll]
  lia
theorem A4y.get2 {H:Hp}:∀{vs:List V} {ds:List PyData} {i:Nat} {v:V},A4y H vs ds->vs[i]? =some v->∃d,ds[i]? =some d/\Rep H v d
 | _,_,_,_,.nil,e=>by simp at e
 | _,_,0,_,.cons a _,e=>by simp at e;subst e;exact i02 _ rfl a
 | _,_,i+1,v,.cons _ r,e=>by
  obtain ⟨d,c,b⟩:=A4y.get2 (i:=i) (v:=v) r (by simpa using e);exact i02 d (by simpa using c) b
theorem lk0 {k:Str}:List.lookup k ((k,v)::r)=some v:=by simp [Z28]
theorem lk1 {k j:Str} {o:Option V} (h:(k == j)=false) (e:List.lookup k r=o):List.lookup k ((j,v)::r)=o:=by
 rw [Z28,h];exact e
theorem A1i {f:Str}:A4n f v []=[(f,v)]:=rfl
theorem A1a {f g:Str} {x:V} (h:¬g=f):A4n f v ((g,x)::r)=(g,x)::A4n f v r:=by rw [A4n,Z0t h]
theorem A8z {c A:Prop} [Decidable c] (h1:c->A) (h2:¬c->B):if decide c=true then A else B :=
 D3c (λh=>h1 (of_decide_eq_true h)) (λh=>h2 λa=>h (Z20 a))
theorem D7h {c A:Prop} [Decidable c] (h1:¬c->A) (h2:c->B):if (! decide c)=true then A else B :=
 D3c (λh=>h1 λa=>by rw [Z20 a] at h;cases h) (λh=>h2 (by
  by_cases a:c
  ·exact a
  ·rw [Z1j a] at h;exact absurd rfl h))
section
variable {X:Cx}
theorem B1x {tg l:Expr} {tl:TE} (b:PE X l tl):PI X tg l (λZ H R=>E0z X.K tl Z H R\/E4s X.K tl Z H R):=λa s Z H R I h=>h.elim (A2c b a s Z H R I) (D9l b a s Z H R I)
end
theorem C4c {α:Type} {xs:List α} {i:Int} (b:0<=i) (h1:i<xs.length):∃v,xs[i.toNat]? =some v/\atI xs i=some v:=by
 obtain ⟨n,rfl⟩:=Int.eq_ofNat_of_zero_le b;have a:n<xs.length:=by lia
 exact i02 (xs[n]) (by simp [a]) (A3j (by simp [a]))
theorem A6t {α:Type} {f:α->V} {xs:List α} {i:Int} (b:0<=i) (h1:i<xs.length):∃x,xs[i.toNat]? =some x/\atI (xs.map f) i=some (f x):=by
 obtain ⟨n,rfl⟩:=Int.eq_ofNat_of_zero_le b;have a:n<xs.length:=by lia
 exact i02 (xs[n]) (by simp [a]) (A3j (by simp [a]))
theorem C3j {α:Type} {xs:List α} (h:0<xs.length):∃v,xs[xs.length-1]? =some v/\atI xs (-1)=some v:=by
 have a:xs.length-1<xs.length:=by lia
 refine i02 (xs[xs.length-1]) (by simp [a]) ?_
 have e:ixN xs.length (-1)=some (xs.length-1):=by
  unfold ixN;rw [Z0t (by decide),Z12 (by lia)];congr 1
  lia
 unfold atI;rw [e];simp [a]
section
variable {K:Frag} {a D:Addr} {xs:List V} {g:TG} {te:TE} {QD:Hp->Prop} {Z₀:St} {H:Hp}
theorem A4h (Pv:Nat->List V->Hp->Prop) (e:Pv 0 [] (upd H D (.lst []))) (f:∀i ys H,Pv i ys H->SqL K H a xs)
  (j:∀i x ys H,xs[i]? =some x->Pv i ys H->g x Z₀ H λZ4 H4=>A2w Z₀ Z4/\te Z4 H4 λy b=>b D=some (.lst ys)/\ys.length<sizeLine/\Pv (i+1) (ys++[y]) (upd b D (.lst (ys++[y])))) (h:∀ys H,Pv xs.length ys H->QD H) :
  ∃W:Nat->Nat->Hp->Prop,(∃m,W 0 m (upd H D (.lst [])))/\∀i m H2,W i m H2->
   ((Itl K a).stop i H2/\QD H2)\/((Itl K a).go i H2/\∃N:VK,(∀y b,N y b->∃xs,b D=some (.lst xs)/\xs.length<sizeLine/\∃c,c<m/\W (i+1) c (upd b D (.lst (xs++[y]))))/\
    ∀x d,(Itl K a).yld i H2 x d->g x Z₀ d λZ4 H4=>A2w Z₀ Z4/\te Z4 H4 N):=C8u (Q:=λ_ H=>QD H) Pv e f j h
theorem C9c (Pv:Nat->List V->Hp->Prop) (e:Pv 0 [] (upd H D (.lst []))) (f:∀i ys H,Pv i ys H->SqT K H a xs)
  (j:∀i x ys H,xs[i]? =some x->Pv i ys H->g x Z₀ H λZ4 H4=>A2w Z₀ Z4/\te Z4 H4 λy b=>b D=some (.lst ys)/\ys.length<sizeLine/\Pv (i+1) (ys++[y]) (upd b D (.lst (ys++[y])))) (h:∀ys H,Pv xs.length ys H->QD H) :
  ∃W:Nat->Nat->Hp->Prop,(∃m,W 0 m (upd H D (.lst [])))/\∀i m H2,W i m H2->
   ((Itt K a).stop i H2/\QD H2)\/((Itt K a).go i H2/\∃N:VK,(∀y b,N y b->∃xs,b D=some (.lst xs)/\xs.length<sizeLine/\∃c,c<m/\W (i+1) c (upd b D (.lst (xs++[y]))))/\
    ∀x d,(Itt K a).yld i H2 x d->g x Z₀ d λZ4 H4=>A2w Z₀ Z4/\te Z4 H4 N):=D1j (Q:=λ_ H=>QD H) Pv e f j h
end
theorem A4t {D:Addr} (h1:isClsIn K D=true) (h2:typeIn K (.ref D)=some (.type "type")) (b:mroIn K C (.ref D)=some true):kitOne K (.ref C) (.ref D)=some true:=by
 unfold kitOne;split
 ·rfl
 ·show (if ((clsIn K D).isSome&&typeIn K (.ref D) == some (.type "type"))=true then subIn K (.ref C) (.ref D) else none)=some true;have a:(clsIn K D).isSome=true:=h1;rw [Z12 (by rw [a,h2];rfl)];exact b
theorem A0f {D:Addr} (b:(Value.ref C == Value.ref D)=false) (h1:isClsIn K D=true) (h2:typeIn K (.ref D)=some (.type "type")) (c:mroIn K C (.ref D)=some false):kitOne K (.ref C) (.ref D)=some false:=by
 unfold kitOne;rw [Z0t (by rw [b];exact Z0v)];show (if ((clsIn K D).isSome&&typeIn K (.ref D) == some (.type "type"))=true then subIn K (.ref C) (.ref D) else none)=some false;have a:(clsIn K D).isSome=true:=h1;rw [Z12 (by rw [a,h2];rfl)];exact c
section
variable {X:Cx}
theorem C4j:A8h X (.type "dict") (λxs H Q=>∃a kvs,xs=[V.ref a]/\Rd H a (.dK kvs)/\∀p,H p=none->Q (.ref p) (upd H p (.dK kvs))):=by
 intro j s Z H xs A Q I r h;obtain ⟨a,kvs,rfl,m,q⟩:=h;obtain ⟨u,rfl,t⟩:=B1d r;cases t;obtain ⟨i,y,n,c,v⟩:=B4t I.hok m;refine kt_call_dict (knd:=A1x X.prog X.w) y v (by rw [<-c.length];exact i) λl d x=> ?_;have k:=I.hok.fresh (Z09 s.heap.objs.size);have z:∀b u,s.heap.get? b=some u->l.get? b=some u:=λb u e=>(x.2 b (Z0h (Z0a e))).trans (Z01 _ e)
 have f:(s.heap.objs.size == sysModules)=false:=by
  have:=I.big;have g:s.heap.objs.size≠sysModules:=Z1q this
  simpa using g
 exact i0f (.ref s.heap.objs.size) _ (I.laid (t':=s.toks) (o:= .dK kvs) z (Z09 _) (i0a i f n c d)) rfl (q _ k)
theorem Inv.frozen (I:Inv X pins Z H s) (b:H a=some (.dK kvs)) (c:s.heap.get? a=some o):Inv X pins Z (upd H a (.frz o (.dK kvs))) s :=
 I.write (t':=s.toks) (h':=s.heap) (e:=a) (by rw [b];trivial) (.inl rfl) (λ_ _ _ e=>e) ⟨o,c⟩ ⟨c,(show A2q X.prog X.w H s.heap a (.dK kvs) from I.hok a _ b)⟩
theorem Inv.thaw (I:Inv X pins Z H s) (d:H a=some (.frz o u)) (m:∃kvs,u= .dK kvs) (t:∀o' h,X.H₀ a≠some (.frz o' h)):Inv X pins Z (upd H a u) s:=by
 have g:∀b,H b=none->upd H a u b=none:=λb e=>by rw [A0i (λz=>by subst z;rw [d] at e;cases e)];exact e
 obtain ⟨kvs,rfl⟩:=m
 refine ⟨I.ok,I.os,I.bare,⟨I.base.keep,I.base.slot,λb i e n l=>g b (I.base.free b i e n l),I.base.there,λb k e=> ?_,λb i h e=> ?_,λb r e=> ?_⟩,I.loc,I.cell,g _ I.free,λx c e=>g _ (I.freeC x c e),
  λp j=>(i00 ((I.pin p j).1) (g _ (I.pin p j).2.1) ((I.pin p j).2.2)),λb v e=> ?_,I.len⟩
 ·have q:=I.base.tups b k e;rw [A0i (A3m q d (by intro z;cases z))];exact q
 ·have q:=I.base.frzs b i h e;rw [A0i (λz=>by subst z;exact t _ _ e)];exact q
 ·obtain ⟨f,q⟩:=I.base.tbls b r e;exact ⟨f,by rw [A0i (A3m q d (by intro z;cases z))];exact q⟩
 ·by_cases hb:b=a
  ·subst hb;rw [A0b] at e;cases e;obtain ⟨_,q⟩:=(show A2q X.prog X.w H s.heap b (.frz o (.dK kvs)) from I.hok b _ d);exact q
  ·rw [A0i hb] at e;exact (I.hok b v e).stay (λ_ _ _ q=>q) (λc q=>by rw [A0i (A3m q d (by intro z;cases z))];exact q) λc k q=>by rw [A0i (A3m q d (by intro z;cases z))];exact q
def E3l (X:Cx) (t:TS):TS:=λD Z H=>∃a o b,H a=some (.frz o (.dK b))/\(∀d c,X.H₀ a≠some (.frz d c))/\t D Z (upd H a (.dK b))
theorem C2k {sts:List Stmt} {t:TS} (h:PSs X sts t):PSs X sts (E3l X t):=by
 intro b s Z H D I f;obtain ⟨a,o,c,e,d,q⟩:=f;exact h b s Z _ D (I.thaw e ⟨c,rfl⟩ d) q
def Itd (a:Addr) (o:Obj) (kvs:List (Key×V)):It :=
 ⟨λi H=>H a=some (.frz o (.dK kvs))/\i<kvs.length,λi H x b=>b=H/\∃k v,kvs[i]? =some (k,v)/\x=kV k,λi H=>H a=some (.frz o (.dK kvs))/\i=kvs.length⟩
theorem D6j {k:Key} {u:Value} (h:(A1x P w).is k u=true):A3c (kV k) u:=by
 rcases A2v (show C1k k u=true from h) with ⟨i,t,rfl,rfl⟩ | ⟨x,t,rfl,rfl⟩
 ·exact ⟨t,rfl⟩
 ·exact ⟨t,rfl⟩
theorem KV.at:KV kvs vs->∀{i:Nat} {k:Key} {v:V},kvs[i]? =some (k,v)->∃u,vs[i]? =some (k,u)/\A3c v u:=by
 intro r;unfold KV at r
 induction r with
 | nil=>intro i k v e;simp at e
 | @cons p q ps qs h t ih =>
  intro i k v e
  cases i with
  | zero =>
   simp at e;subst e;obtain ⟨c,d⟩:=h;obtain ⟨g,f⟩:=q;cases c;exact i02 f rfl d
  | succ j =>
   obtain ⟨u,b,a⟩:=ih (i:=j) (by simpa using e);exact i02 u (by simpa using b) a
end
theorem C6t (m:HOk P w H h) (j:H a=some (.frz o (.dK kvs))) (g:o.data= .dict es ep) :
  (a == sysModules)=false/\∃vs,KV kvs vs/\h.DictAt (A1x P w) a vs ep:=by
 obtain ⟨f,n,k,vs,b,p,i,l,e,c,d,r⟩:=(show A2q P w H h a (.frz o (.dK kvs)) from m a _ j);rw [f] at e;cases e;rw [g] at d;cases d;exact ⟨k,(i0s vs b o es f c g r)⟩
theorem D0k {tg:Expr} (it a:Addr) (o:Obj) (kvs:List (Key×V)) (es:Array DictEntry) (ep:Nat) (Q:o.data= .dict es ep) :
  D4a P w K tg (Itd a o kvs) [it] it (λi h=>h.IsKeyIter it a i kvs.length ep) where
 mem:=by simp
 obj:=λi h f b m=>by
  have e:b=it:=by simpa using m
  subst e;obtain ⟨l,e,_,d⟩:=f;exact i02 l e λv z=>by rw [d] at z;cases z
 keep:=λi h r f k=>f.at λl e=>k it (by simp) l e
 item:=by
  intro X F x L R i j s Z H E I t f J;subst F x L;obtain ⟨M,O⟩:=J;obtain ⟨C,y,T,B,G,A⟩:=t it (by simp);obtain ⟨_,Y,g,N⟩:=C6t I.hok M Q;have q:=g.length;obtain ⟨⟨k,v⟩,hkv⟩:∃p,kvs[i]? =some p:=⟨kvs[i],by simp [O]⟩;obtain ⟨u,S,_⟩:=g.at hkv;rw [q] at f;refine wpAny_pyNext_dict_item f N S λD r U n sb=> ?_;have I1:Inv X j Z H { s with heap:=r,toks:=s.toks }:=I.turned (t':=s.toks) (λb l m e=>(sb.2 b m).trans e) C y B G A
  obtain ⟨l,e,c,d⟩:=id n;exact i02 D rfl (C4x (s:={ s with heap:=r }) e c d (by decide) (i0p (kV k) H I1 (D6j U) (i0b rfl k v hkv rfl) (by rw [q];exact n) λb m=>(t b m).1))
 done:=by
  intro X F x L R i j s Z H E I t f J;subst F x L;obtain ⟨M,O⟩:=J;obtain ⟨C,y,T,B,G,A⟩:=t it (by simp);obtain ⟨_,Y,g,N⟩:=C6t I.hok M Q;have q:=g.length;rw [q] at f;exact wpAny_pyNext_dict_end (I.ok.hd R) f N (by simp;lia) λr W=>⟨rfl,I.turned (t':=s.toks) (λb l m e=>W b l m e) C y B G A⟩
 self:=λ_ _ _ _ _ f h=>wpAny_pyIter_keyiter f h
def E2y (tl:TE):TI:=λZ H R=>tl Z H λx c=>∃a b,x= .ref a/\c a=some (.dK b)/\∀o,R (Itd a o b) (upd c a (.frz o (.dK b)))
theorem C9q {tg l:Expr} {tl:TE} (p:PE X l tl):PI X tg l (E2y tl):=by
 intro c s Z H R I h;refine thn (p c s Z H _ I h) ?_;rintro u d ⟨x,z,I1,t,a,g,B,i,q⟩;subst B;cases t;obtain ⟨D,v,n,f,o,k,ep,m,y,j,r⟩:=C6d I1.hok i;have C:d.heap.DictAt (A1x X.prog X.w) a n ep:=(i0m o k m y j r);refine wpAny_pyIter_dict v C ?_;have I2:Inv X c Z z { d with heap:=d.heap.push { cls:= .type "dict_keyiterator",data:= .fields #[.ref a,.int 0 0,.int n.length 0,.int ep 0] },toks:=d.toks }:=I1.kept λb F e=>Z01 _ e
 have I3:=I2.frozen i (Z01 _ m);refine i14 _ [d.heap.objs.size] _ _ _ rfl I3 (D0k _ a o g k ep j) ?_ (λb A=> ?_) (q o)
 ·rw [f.length];exact i06 _ (Z0c _ rfl) rfl rfl
 ·have e:b=d.heap.objs.size:=by simpa using A
  subst e;refine I1.fpOk (Z09 _) ?_;rw [A0i (Z1q (I1.hok.lt i))];exact I1.hok.fresh (Z09 _)
theorem C9b {H2:Hp} (c:H a=some u) (s:A0u (upd H a (.frz o u)) H2):A0u H (upd H2 a u):=λb v e=>by
 by_cases hb:b=a
 ·subst hb;rw [c] at e;cases e;exact A0b
 ·rw [A0i hb];exact s b v (by rw [A0i hb];exact e)
theorem D5v {m:List (Key×Value)}:∀{kvs:List (Key×V)} {c:List (Key×Value)},KV kvs c->(∀p∈kvs,(∃i,p.2= .int i)\/∃z,p.2= .str z)->
  (∀p∈kvs,∃u,PySem.valueAt m p.1=some u/\A3c p.2 u)->PySem.W.KeqHits A s m c true:=by
 intro kvs c r;unfold KV at r
 induction r with
 | nil=>intro _ _;exact .nil
 | @cons p q ps qs h t ih =>
  intro j o;obtain ⟨k,v⟩:=p;obtain ⟨B,u⟩:=q;obtain ⟨e,n⟩:=h;cases e;obtain ⟨y,x,l⟩:=o _ (.head _);have w:=ih (λp f=>j p (.tail _ f)) λp f=>o p (.tail _ f)
  have a:SeqAt.EqAt A s u y true:=by
   rcases j _ (.head _) with ⟨i,e⟩ | ⟨z,e⟩
   ·have e:v= .int i:=e;subst e;obtain ⟨g,rfl⟩:=n;obtain ⟨d,rfl⟩:=l
    simpa using SeqAt.EqAt.int_int (A:=A) (s:=s) i g i d
   ·have e:v= .str z:=e;subst e;obtain ⟨g,rfl⟩:=n;obtain ⟨d,rfl⟩:=l
    simpa using SeqAt.EqAt.str_str (A:=A) (s:=s) z g z d
  exact PySem.W.KeqHits.hit (e:=true) (b:=true) x a w
theorem B5o:∀{l:List (Key×Value)} {p:Key×Value},(l.map (·.1)).Nodup->p∈l->PySem.valueAt l p.1=some p.2
 | [],_,_,h=>by cases h
 | q::r,p,a,h=>by
  have a:(q.1::r.map (·.1)).Nodup:=a;obtain ⟨c,d⟩:=Z15.mp a;rcases Z0e.mp h with rfl | h
  ·simp [PySem.valueAt]
  ·have b:¬q.1=p.1:=λe=>c (e▸List.mem_map_of_mem h);have:=B5o d h
   simpa [PySem.valueAt,Z2h,b] using this
theorem KV.mem (r:KV kvs vs) {p:Key×V} (h:p∈kvs):∃u,(p.1,u)∈vs/\A3c p.2 u:=by
 obtain ⟨i,a⟩:=List.getElem?_of_mem h;obtain ⟨u,e,b⟩:=r.at (k:=p.1) (v:=p.2) a;exact i02 u (Z13 e) b
section
variable {X:Cx}
def C8v (ix:List (Option Nat)) (wi:TI) (g:TG) (tc:TT) (te:TE):TE:=λZ H Q=>wi Z H λJ f=>∀D,f D=none->∃W:Nat->Nat->Hp->Prop,(∃m,W 0 m (upd f D (.lst [])))/\∀i m c,W i m c->
 (J.stop i c/\Q (.ref D) c)\/(J.go i c/\∃(N:VK) (M:Hp->Prop),(∀y a,N y a->∃e,a D=some (.lst e)/\e.length<sizeLine/\∃d,d<m/\W (i+1) d (upd a D (.lst (e++[y]))))/\(∀a,M a->∃d,d<m/\W (i+1) d a)/\∀x h,J.yld i c x h->g x (A6q ix Z) h λZ4 j=>A2w (A6q ix Z) Z4/\tc Z4 j λb a=>if b=true then te Z4 a N else M a)
def PTs (X:Cx) (cs:List Expr) (t:TT):Prop :=
 ∀(a:List (Addr×Obj)) (s:Shared) (Z:St) (H:Hp) (Q:Bool->Hp->Prop),Inv X a Z H s->t Z H Q->wpAny (model X.prog X.w) X.A (forIn cs true λc r=>if r=true then do let b<-isTrue c X.env (eval c X.env);pure (ForInStep.yield b) else pure (ForInStep.yield r)) (TP X a Z Q) X.xe s
theorem C2r {tg:Expr} (hc:X.calm=true) (O:C6f X scope cl) (io:D0y X N' scope ix) (hi:PI X tg iter wi)
  (hg:∀C s₀ H₀ fp,PG (blk X N' scope cl C s₀ H₀ fp) tg g) (ht:∀C s₀ H₀ fp,PTs (blk X N' scope cl C s₀ H₀ fp) cs tc) (he:∀C s₀ H₀ fp,PE (blk X N' scope cl C s₀ H₀ fp) elt te) (R:VK->St->It->Hp->Prop) (hR:∀Q Z J H1,R Q Z J H1->∀D,H1 D=none->∃W:Nat->Nat->Hp->Prop,(∃m,W 0 m (upd H1 D (.lst [])))/\∀i m H2,W i m H2->
 (J.stop i H2/\Q (.ref D) H2)\/(J.go i H2/\∃(N:VK) (M:Hp->Prop),(∀y k,N y k->∃xs,k D=some (.lst xs)/\xs.length<sizeLine/\∃l,l<m/\W (i+1) l (upd k D (.lst (xs++[y]))))/\(∀k,M k->∃l,l<m/\W (i+1) l k)/\∀x H3,J.yld i H2 x H3->g x (A6q ix Z) H3 λZ4 H4=>A2w (A6q ix Z) Z4/\tc Z4 H4 λb k=>if b=true then te Z4 k N else M k)) (hs:∀x,foldedSetIterable iter X.env x=pure x:=by intro _;rfl) :
  PE X (.ListComp elt [⟨tg,iter,cs,0⟩] scope pos) (λZ H Q=>wi Z H (R Q Z)):=by
 intro q s Z H Q I h;rw [eval_ListComp];refine wpAny_comprehension_free (use:=none) rfl hs O.eq O.kind O.names (thn (hi q s Z H _ I h) λxv s1 h1=>thn h1 λb8 a h2=> ?_);obtain ⟨it,fp,tn,J,H1,rfl,I1,T,a2,f1,R1⟩:=h2;refine Z16 ?_;have hD:H1 a.heap.objs.size=none:=I1.hok.fresh (Z09 _);obtain ⟨W,⟨m0,w0⟩,a7⟩:=hR _ _ _ _ R1 _ hD;have a5:∀b∈fp,b<a.heap.objs.size:=λb f=>let ⟨o,e,_⟩:=T.obj _ _ a2 b f;Z0a e;have I2:Inv X q Z (upd H1 a.heap.objs.size (.lst [])) { a with heap:=a.heap.push { cls:= .type "list",data:= .seq ([]:List Value).toArray },toks:=a.toks }:=I1.lnew (its:=[]) .nil (Z1e _);have f2:∀b∈fp,C1d X q (upd H1 a.heap.objs.size (.lst [])) b:=λb f=>⟨by rw [A0i (Z0h (a5 b f))];exact (f1 b f).1,(f1 b f).2⟩
 have P:∀b∈fp,b<(a.heap.push { cls:= .type "list",data:= .seq ([]:List Value).toArray }).objs.size:=λb f=>by rw [Z1s];exact Nat.lt_succ_of_lt (a5 b f)
 refine wpAny_newFunctionEnv O.ncell (by intro y hy;simp at hy) (λh3 S a6=> ?_) O.kind;dsimp only at S a6⊢;have k3:∀b o,(a.heap.push { cls:= .type "list",data:= .seq ([]:List Value).toArray }).get? b=some o->h3.get? b=some o:=λb o e=>(a6.2 b (Z0h (Z0a e))).trans (Z01 _ e);generalize hs2:({ a with heap:=a.heap.push { cls:= .type "list",data:= .seq ([]:List Value).toArray },toks:=a.toks }:Shared)=s3 at I2;have e3:a.heap.push { cls:= .type "list",data:= .seq ([]:List Value).toArray }=s3.heap:=by rw [<-hs2]
 rw [e3] at S k3 P;have I3:=B8q (N':=N') (ix:=ix) I2 O io f2 P (h':=h3) (t':=a.toks+([]:List (Str×Value)).length) S k3;have e4:({ s3 with heap:=h3,toks:=a.toks+([]:List (Str×Value)).length }:Shared)={ a with heap:=h3,toks:=a.toks+([]:List (Str×Value)).length }:=by rw [<-hs2]
 rw [e4] at I3;have a4:tn 0 h3:=T.keep _ _ _ a2 λb f o e=>k3 b o (by rw [<-e3];exact Z01 _ e)
 have G:∀s4:Shared,s4={ a with heap:=h3,toks:=a.toks+([]:List (Str×Value)).length }->
   codeAny (model X.prog X.w) X.A (.compLoop (.ListComp elt [⟨tg,iter,cs,0⟩] scope pos) 0 (.ref it) (.ref a.heap.objs.size) (compEnvC scope cl s3.heap.objs.size X.env))
    (compPost (model X.prog X.w) X.A X.xe none (EP X q Z Q) (.ref a.heap.objs.size) s3.heap.objs.size) s4:=by
  rintro s4 rfl
  have t:∀{H':Hp},(∀b∈fp,H' b=none)->∀b∈fp,C1d (blk X N' scope cl s3.heap.objs.size s3 (upd H1 a.heap.objs.size (.lst [])) fp) [] H' b:=λhn b f =>
   (i0h (hn b f) (Z0h (P b f)) (λhs=>I3.ok.exfs b f hs) (.inl f) (λx c e=>(f2 b f).2.2.2.2.1 x c (O.sub x c e)) (λp hp=>by cases hp))
  refine codeAny_loop rfl (λn s'=>∃i Z' H',Inv (blk X N' scope cl s3.heap.objs.size s3 (upd H1 a.heap.objs.size (.lst [])) fp) [] Z' H' s'/\(∀(j:Nat) v,(A6q ix Z)[j]? =some (some v)->Z'[j]? =some (some v))/\tn i s'.heap/\(∀b∈fp,H' b=none)/\W i n H')
   (λn s' hI=> ?_) m0 (i0u 0 _ _ I3 (λ_ _ z=>z) a4 (λb f=>(f2 b f).1) w0)
  obtain ⟨i,Z5,k,I5,wk,a0,a3,w5⟩:=hI;show wpAny _ _ ((compTurn (.ListComp elt [⟨tg,iter,cs,0⟩] scope pos) 0 (.ref it) (.ref a.heap.objs.size) (compEnvC scope cl s3.heap.objs.size X.env)).onRaise (λx=>do noteFrame x (compEnvC scope cl s3.heap.objs.size X.env);theTreesLotGoes x)) _ _ s';refine wpAny_noted ?_;rw [compTurn_list];refine Z00 (Z1y ?_);rcases a7 i n k w5 with ⟨stop,qn⟩ | ⟨go,NN,MM,b7,b0,a9⟩
  ·refine Z00 (Z10 (T.done (blk X N' scope cl s3.heap.objs.size s3 (upd H1 a.heap.objs.size (.lst [])) fp) rfl rfl rfl hc i [] s' Z5 k (λ_ _=>False) I5 (t a3) a0 stop) (λr s6 h6=> ?_) λ_ _ z=>z.elim);obtain ⟨rfl,I6⟩:=h6;refine Z04 ?_;obtain ⟨mm,hm,_⟩:=id I6.loc;exact i02 mm hm λh' sb=>(i0f (.ref a.heap.objs.size) k (D0d I2 f2 I6 sb) rfl qn)
  ·refine Z00 (Z10 (T.item (blk X N' scope cl s3.heap.objs.size s3 (upd H1 a.heap.objs.size (.lst [])) fp) rfl rfl rfl hc i [] s' Z5 k (λ_ _=>False) I5 (t a3) a0 go) (λr s6 h6=> ?_) λ_ _ z=>z.elim);obtain ⟨u,rfl,h6⟩:=h6;refine Z00 (Z10 h6 (λ_ s7 h7=> ?_) λ_ _ z=>z.elim);obtain ⟨x,H7,I7,r7,y7,Y,b3⟩:=h7;have I7w:Inv (blk X N' scope cl s3.heap.objs.size s3 (upd H1 a.heap.objs.size (.lst [])) fp) [] (A6q ix Z) H7 s7:=I7.weak (by rw [I7.len];unfold A6q;rw [Z08];exact io.1) wk;have I7p:=I7w.pinned (t b3) (T.obj _ _ Y);refine Z00 (Z10 (hg _ _ _ _ _ s7 _ H7 x u _ I7p r7 (a9 x H7 y7)) (λ_ s8 h8=> ?_) λ_ _ z=>z.elim);obtain ⟨Z8,H8,I8,a8,q8⟩:=h8
   have L:∀{F:Shared} {Z10:St} {K:Hp} {l:Nat},Inv (blk X N' scope cl s3.heap.objs.size s3 (upd H1 a.heap.objs.size (.lst [])) fp) ([]++B5q fp s7.heap) Z10 K F->(∀(j:Nat) v,(A6q ix Z)[j]? =some (some v)->Z10[j]? =some (some v))->W (i+1) l K->
     ∃i Z' H',Inv (blk X N' scope cl s3.heap.objs.size s3 (upd H1 a.heap.objs.size (.lst [])) fp) [] Z' H' F/\(∀(j:Nat) v,(A6q ix Z)[j]? =some (some v)->Z'[j]? =some (some v))/\tn i F.heap/\(∀b∈fp,H' b=none)/\W i l H':=by
    intro F Z10 K l I10 kk E;refine i0u (i+1) Z10 K I10.unpinned kk (T.keep _ _ _ Y λb f o e=>(I10.pin (b,o) (Z02 _ (Z02 _ (A5j f e)))).1) (λb f=> ?_) E;obtain ⟨o,e,d⟩:=T.obj _ _ Y b f;exact (I10.pin (b,o) (Z02 _ (Z02 _ (A5j f e)))).2.1
   refine Z00 (Z10 (ht _ _ _ _ _ s8 Z8 H8 _ I8 q8) (λok b5 b4=> ?_) λ_ _ z=>z.elim);obtain ⟨H9',I9',a1⟩:=b4
   cases ok with
   | false =>
    have B:MM H9':=by simpa using a1
    obtain ⟨l,U,w9⟩:=b0 _ B;exact Z00 (Z04 (Z04 (i05 rfl l U (L I9' a8.get w9))))
   | true =>
    have B:te Z8 H9' NN:=by simpa using a1
    refine Z00 (Z00 (Z10 (he _ _ _ _ _ b5 Z8 H9' _ I9' B) (λyv s9 h9=> ?_) λ_ _ z=>z.elim));obtain ⟨y,H9,I9,r9,n9⟩:=h9;obtain ⟨xs,b1,b2,l,U,w9⟩:=b7 _ _ n9;refine Z00 (Z10 (A2e (X:=blk X N' scope cl s3.heap.objs.size s3 (upd H1 a.heap.objs.size (.lst [])) fp) _ s9 Z8 H9 (.ref a.heap.objs.size) [y] (.ref a.heap.objs.size) [yv] (λ_ H'=>W (i+1) l H') I9 rfl (.cons r9 .nil) (i0u _ xs y rfl rfl b1 b2 w9)) (λ_ F b6=> ?_) λ_ _ z=>z.elim);obtain ⟨_,K,I10,_,E⟩:=b6;exact Z04 (Z04 (i05 rfl l U (L I10 a8.get E)))
 have e5:s3.heap.objs.size=(a.heap.push { cls:= .type "list",data:= .seq ([]:List Value).toArray }).objs.size:=by rw [e3]
 rw [e5] at G;exact codeAny_compStart_list (G _ rfl) (T.self X.A 0 _ _ _ a4 (G _ rfl))
theorem C0b {tg c:Expr} (j:X.calm=true) (e:C6f X scope cl) (l:D0y X N' scope ix) (hi:PI X tg iter wi)
  (f:∀C a H₀ fp,PG (blk X N' scope cl C a H₀ fp) tg g) (i:∀C a H₀ fp,PT (blk X N' scope cl C a H₀ fp) c tc) (d:∀C a H₀ fp,PE (blk X N' scope cl C a H₀ fp) elt te) (k:∀x,foldedSetIterable iter X.env x=pure x:=by intro _;rfl) :
  PE X (.ListComp elt [⟨tg,iter,[c],0⟩] scope pos) (C8v ix wi g tc te) :=
 C2r j e l hi f (λC a H₀ fp b s Z H Q I h=>wpAny_tests_one (i C a H₀ fp b s Z H Q I h)) d _ (λ_ _ _ _ R=>R) k
theorem A4p {tg:Expr} (o:X.calm=true) (k:C6f X scope cl) (r:D0y X N' scope ix) (hi:PI X tg iter wi)
  (l:∀C c H₀ fp,PG (blk X N' scope cl C c H₀ fp) tg g) (e:∀C c H₀ fp,PE (blk X N' scope cl C c H₀ fp) elt te) (p:∀x,foldedSetIterable iter X.env x=pure x:=by intro _;rfl) :
  PE X (.ListComp elt [⟨tg,iter,[],0⟩] scope pos) (E0b ix wi g te) :=
 C2r (tc:=λ_ H Q=>Q true H) o k r hi l (λ_ _ _ _ _ _ _ _ _ I h=>wpAny_tests_nil (i02 _ I h)) e _ (λ_ _ _ _ R s j=>by
  obtain ⟨W,n,a⟩:=R s j;refine i02 W n λi m d w=>(a i m d w).imp id λ⟨q,N,f,b⟩=>(i0i q N (λ_=>False) f (λ_ z=>z.elim) ?_)
  simpa using b) p
end
section
variable {K:Frag} {a D:Addr} {xs:List V} {g:TG} {tc:TT} {te:TE} {QD:Hp->Prop} {Z₀:St} {H:Hp}
theorem A9t (Pv:Nat->List V->Hp->Prop) (h:Pv 0 [] (upd H D (.lst []))) (j:∀i ys H,Pv i ys H->SqL K H a xs)
  (l:∀i x ys H,xs[i]? =some x->Pv i ys H->g x Z₀ H λZ4 H4=>A2w Z₀ Z4/\tc Z4 H4 λb c=>if b=true then te Z4 c (λy c=>c D=some (.lst ys)/\ys.length<sizeLine/\Pv (i+1) (ys++[y]) (upd c D (.lst (ys++[y])))) else Pv (i+1) ys c) (k:∀ys H,Pv xs.length ys H->QD H) :
  ∃W:Nat->Nat->Hp->Prop,(∃m,W 0 m (upd H D (.lst [])))/\∀i m H2,W i m H2->
   ((Itl K a).stop i H2/\QD H2)\/((Itl K a).go i H2/\∃(N:VK) (M:Hp->Prop),(∀y c,N y c->∃xs,c D=some (.lst xs)/\xs.length<sizeLine/\∃d,d<m/\W (i+1) d (upd c D (.lst (xs++[y]))))/\(∀c,M c->∃d,d<m/\W (i+1) d c)/\
    ∀x f,(Itl K a).yld i H2 x f->g x Z₀ f λZ4 H4=>A2w Z₀ Z4/\tc Z4 H4 λb c=>if b=true then te Z4 c N else M c):=by
 refine i02 (λi m H=>m=xs.length-i/\i<=xs.length/\∃ys,Pv i ys H) (i0d xs.length (by simp) (Z1e _) [] h) ?_;rintro i m H2 ⟨rfl,o,ys,p⟩;have q:=j i ys H2 p;by_cases hlt:i<xs.length
 ·refine .inr (i0i (i07 xs (xs[i]) q (by simp [hlt])) (λy c=>c D=some (.lst ys)/\ys.length<sizeLine/\Pv (i+1) (ys++[y]) (upd c D (.lst (ys++[y])))) (λc=>Pv (i+1) ys c) (λy c n=>(i0v ys n.1 n.2.1 (xs.length-(i+1)) (by lia) rfl hlt _ n.2.2)) (λc n=>(i0c (xs.length-(i+1)) (by lia) rfl hlt ⟨_,n⟩)) λx f z=> ?_);obtain ⟨e,z⟩:=z;subst e;exact l i x ys _ (z xs q) p
 ·have e:i=xs.length:=by lia
  subst e;exact .inl ⟨(i02 xs q (Z09 _)),k ys H2 p⟩
end
section
variable {prog:Program} {w:World} {A:Around} {E:Value->Shared->Prop} {s:Shared}
theorem C5x {v:Addr} {Q:Value->Shared->Prop} (h1:s.heap.IsItemsView v d) (h2:s.heap.get? d=some od) (a:od.data= .dict es ep)
  (q:Q (.ref s.heap.objs.size) { s with heap:=s.heap.push { cls:= .type "dict_itemiterator",data:= .fields #[.none,.bool false,.ref d,.int 0 0,.int es.size 0,.int ep 0,.none,.none] } }) :
  wpAny (model prog w) A (pyIter (.ref v)) Q E s:=by
 obtain ⟨e,c,f,b⟩:=id h1;refine wpAny_pyIter_slot h1.typeIs F.slot_dict_items_iter (Z1g F.slot_dict_items_iter h1.typeIs F.entry_dict_items_iter ?_ (F.args_dict_items_iter_1 _));unfold Builtin.«dict_items.__iter__»;refine Z00 (Z04 (Z00 ?_));unfold Builtin.Dict_items.dictOf;refine Z00 (Z11 c b (x:= .ref d) rfl (Z04 (Z00 ?_)));unfold Builtin.Dict_items.newIterator;refine Z00 (wpAny_dictEntries h2 a (Z00 (wpAny_dictEpoch h2 a ?_)));simp only [show Builtin.Dict_items.ownsTuple "dict_itemiterator"=true by decide,if_true]
 refine Z16 (Z04 (i0o _ rfl "dict_itemiterator" _ (i02 _ (Z0c _ rfl) rfl) F.slot_dict_itemiterator_next.lookup ?_)) (by
  simp only [sizeOk,Builtin.Dict_items.ownedTupleFields,Z0g,Z06,Z0y,Z2g,sizeLine_eq]
  lia)
 simpa [rawInt,Builtin.Dict_items.ownedTupleFields] using q
theorem C5w {e:DictEntry} {x:Value}
  (h1:IsItemIter s.heap it d i n ep x y) (h2:s.heap.get? d=some od) (P:od.data= .dict es ep) (R:es.size=n) (M:es[i]? =some e)
  (q:∀h',IsItemIterOut h' it d (i+1) n ep e.key e.val s.heap.objs.size->h'.get? s.heap.objs.size=some { cls:= .type "tuple",data:= .seq #[e.key,e.val] }->
   (∀c u,c≠it->s.heap.get? c=some u->h'.get? c=some u)->Q (some (.ref s.heap.objs.size)) { s with heap:=h' }) :
  wpAny (model prog w) A (pyNext (.ref it)) Q E s:=by
 obtain ⟨f,g,p,t,r⟩:=s;have k:Shared.TypeIs ⟨f,g,p,t,r⟩ (.ref it) "dict_itemiterator":=(i02 _ h1 rfl);unfold pyNext;refine Z00 (wpAny_attempt (Z1b (name:=Str.ofString "__next__") k F.slot_dict_itemiterator_next (Z1g F.slot_dict_itemiterator_next k F.entry_dict_itemiterator_next ?_ (F.args_dict_itemiterator_next_1 _))));refine Z00 (Z04 (Z00 (Z00 ?_)));refine Z00 (wpAny_typeNameOfWhole_itemiter k (Z04 (Z00 (wpAny_fieldsOf h1 rfl ?_))));simp only [show Builtin.Dict_items.ownsTuple "dict_itemiterator"=true by decide,if_true];show wpAny _ _ (ite ((Value.ref d == Value.none)=true) _ _) _ _ _;rw [Z0t (show¬((Value.ref d == Value.none)=true) from Z0v)];refine Z00 (Z04 (Z00 (wpAny_dictEntries h2 P ?_)));rw [Z0t (by rw [R];simp)];refine Z00 (Z04 (Z00 (wpAny_dictEpoch h2 P ?_)));rw [Z0t (by simp)];obtain ⟨T,U⟩:=Array.getElem?_eq_some_iff.mp M;refine Z04 ?_;simp only [show¬((i:Int)<0) from by lia,if_false,Int.toNat_natCast,M];refine Z00 (Z00 (wpAny_typeNameOfWhole_itemiter k (Z04 (Z00 (wpAny_isOneOf_itemiter k ?_)))));show wpAny _ _ (setField (.ref it) 3 (rawInt ((i:Int)+1)) >>= _) _ _ (⟨f,g,p,t,r⟩:Shared);refine Z00 (Z1h h1 (by simp) λk1 j m=> ?_)
 replace m:Heap.SameBut it f k1:=m
 replace j:IsItemIter k1 it d (i+1) n ep x y:=by
  have z:((i+1:Nat):Int)=(i:Int)+1:=by lia
  unfold IsItemIter;rw [z]
  simpa [rawInt] using j
 have h:Shared.TypeIs ⟨k1,g,p,t,r⟩ (.ref it) "dict_itemiterator":=(i02 _ j rfl);refine Z00 (Z1w (Z00 (wpAny_isOneOf_itemiter h (Z00 (wpAny_isOneOf_itemiter h ?_)))));show wpAny _ _ (Builtin.Dict_items.pairFromOwner (.ref it) 6 e.key e.val) _ _ (⟨k1,g,p,t,r⟩:Shared);unfold Builtin.Dict_items.pairFromOwner;refine Z00 (wpAny_newTuple ?_);have H:k1.objs.size=f.objs.size:=m.1;have S:it<f.objs.size:=Z0a h1;have l:IsItemIter (k1.push { cls:= .type "tuple",data:= .seq #[e.key,e.val] }) it d (i+1) n ep x y:=Z01 _ j;have N:(k1.push { cls:= .type "tuple",data:= .seq #[e.key,e.val] }).get? f.objs.size=some { cls:= .type "tuple",data:= .seq #[e.key,e.val] }:=by rw [<-H];exact Z0c _ rfl
 have O:∀b o,b≠it->f.get? b=some o->(k1.push { cls:= .type "tuple",data:= .seq #[e.key,e.val] }).get? b=some o:=λb o a z=>Z01 _ (m.extBut b o a z);generalize k1.push { cls:= .type "tuple",data:= .seq #[e.key,e.val] }=k2 at l N O;show wpAny _ _ (Builtin.Dict_items.ownedTupleIsFree (.ref it) >>= _) _ _ (⟨k2,g,p,t,r⟩:Shared);rw [H];clear j m h H k1;refine Z00 ?_;unfold Builtin.Dict_items.ownedTupleIsFree;refine Z00 (Z11 l rfl (x:= .none) rfl (Z04 ?_));simp only [if_true];refine Z00 (Z11 l rfl (x:=x) rfl (Z00 (Z11 l rfl (x:=y) rfl (Z00 (Z1h l (by simp) λk3 L J=> ?_)))))
 replace J:Heap.SameBut it k2 k3:=J
 replace L:IsItemIter k3 it d (i+1) n ep e.key y:=L
 refine Z00 (Z1h L (by simp) λk4 C K=> ?_)
 replace K:Heap.SameBut it k3 k4:=K
 replace C:IsItemIter k4 it d (i+1) n ep e.key e.val:=C
 refine Z00 (Z1h C (by simp) λk5 B G=> ?_)
 replace G:Heap.SameBut it k4 k5:=G
 replace B:IsItemIterOut k5 it d (i+1) n ep e.key e.val f.objs.size:=B
 refine Z00 (Z1h B (by simp) λk6 I D=> ?_)
 replace D:Heap.SameBut it k5 k6:=D
 replace I:IsItemIterOut k6 it d (i+1) n ep e.key e.val f.objs.size:=I
 have v:∀b o,b≠it->k2.get? b=some o->k6.get? b=some o:=λb o a z=>D.extBut b o a (G.extBut b o a (K.extBut b o a (J.extBut b o a z)));exact Z00 (wpAny_letGo (Z04 (Z04 (i02 _ rfl (Z04 (q k6 I (v _ _ (Z1q S) N) λb o a z=>v b o a (O b o a z)))))))
theorem C6m {x:Value} (f:A.handled=none)
  (h1:IsItemIter s.heap it d i n ep x y) (h2:s.heap.get? d=some od) (e:od.data= .dict es ep) (g:es.size=n) (h:n<=i)
  (q:∀h',Heap.ExtBut it s.heap h'->Q none { s with heap:=h' }):wpAny (model prog w) A (pyNext (.ref it)) Q E s:=by
 have c:s.TypeIs (.ref it) "dict_itemiterator":=(i02 _ h1 rfl);unfold pyNext;refine Z00 (wpAny_attempt (Z1b (name:=Str.ofString "__next__") c F.slot_dict_itemiterator_next (Z1g F.slot_dict_itemiterator_next c F.entry_dict_itemiterator_next ?_ (F.args_dict_itemiterator_next_1 _))));refine Z00 (Z04 (Z00 (Z00 ?_)));refine Z00 (wpAny_typeNameOfWhole_itemiter c (Z04 (Z00 (wpAny_fieldsOf h1 rfl ?_))));simp only [show Builtin.Dict_items.ownsTuple "dict_itemiterator"=true by decide,if_true];show wpAny _ _ (ite ((Value.ref d == Value.none)=true) _ _) _ _ _;rw [Z0t (show¬((Value.ref d == Value.none)=true) from Z0v)];refine Z00 (Z04 (Z00 (wpAny_dictEntries h2 e ?_)));rw [Z0t (by rw [g];simp)];refine Z00 (Z04 (Z00 (wpAny_dictEpoch h2 e ?_)));rw [Z0t (by simp)];refine Z04 ?_;simp only [show¬((i:Int)<0) from by lia,if_false,Int.toNat_natCast,Array.getElem?_eq_none (show es.size<=i by lia)];refine Z00 (Z00 (wpAny_typeNameOfWhole_itemiter c (Z04 ?_)));show wpAny _ _ (setField (.ref it) 2 .none >>= _) _ _ _;refine Z00 (Z1t h1 rfl (by simp) ?_);show wpAny _ _ (newExc (.type "StopIteration") [] >>= _) _ _ (_:Shared);refine Z00 ?_;simp only [newExc,newTuple];refine Z00 (Z16 (Z00 (m:=firstArgMember _ _) (wpAny_of_eq (a:=Value.none) (by first | rfl | (simp only [firstArgMember];rfl)) (Z16 ?_ (by size_fits)))) (by size_fits));simp only [raiseNew];refine Z00 (wpAny_handled ?_);rw [show A.in1.handled=none from f];refine Z00 (Z04 (wpAny_throw ?_));refine Z00 (wpAny_isInstance (T:="StopIteration") (b:=true) (i02 _ (Z0c _ rfl) rfl) isSubtype_stop (Z04 ?_));exact q _ (((Heap.SameBut.update ..).extBut.push _).push _)
theorem C1w:entryFor table "dict_itemiterator.__iter__"=some Builtin.«dict_keyiterator.__iter__»:=entryFor_alias (id':="dict_keyiterator.__iter__") (by kernel_rfl) rfl (by decide +kernel) (by kernel_rfl)
theorem C5l {x:Value} {Q:Value->Shared->Prop} (st:IsItemIter s.heap it d i n ep x y) (h:Q (.ref it) s):wpAny (model prog w) A (pyIter (.ref it)) Q E s:=by
 have a:s.TypeIs (.ref it) "dict_itemiterator":=(i02 _ st rfl);refine wpAny_pyIter_slot a F.slot_dict_itemiterator_iter (Z1g F.slot_dict_itemiterator_iter a C1w ?_ (F.args_dict_itemiterator_iter_1 _));show wpAny _ _ (ret (.ref it)) _ _ s;exact Z04 (i0o _ rfl "dict_itemiterator" _ a F.slot_dict_itemiterator_next.lookup h)
theorem C4r (d:Addr) (a:(d == sysModules)=false) :
  MeetsIn prog w (Builtin.«dict.items» ⟨[.ref d],[]⟩) (λ_ R s=>s.TypeIs (.ref d) "dict"/\R (.ok (.ret (.ref s.heap.objs.size))) { s with heap:=s.heap.push { cls:= .type "dict_items",data:= .fields #[.ref d] } }) :=
 .of_wp λA R s ⟨b,q⟩=>by
  unfold Builtin.«dict.items»;refine Z00 ?_;unfold Builtin.Dict.noArgs;refine Z00 (wpAny_notOrdered_dict b ?_);show wpAny _ _ (pure d) _ _ s;refine Z04 ?_;show wpAny _ _ (Builtin.Dict.showsAll d >>= _) _ _ s;unfold Builtin.Dict.showsAll;rw [Z0t (by rw [a];exact Z0v)];exact Z00 (Z04 (Z00 (Z16 (Z04 (i02 _ rfl q)))))
end
section
variable {X:Cx}
def isD (u:HO):Prop:=(∃a,u= .dK a)\/∃a,u= .dT a
def C4v (v d:Addr):HO:= .ext λh=>h.IsItemsView v d
theorem D3e {v:Addr} (e:h.IsItemsView v d):A2q P w H h v (C4v v d) :=
 (i00 e (let ⟨o,a,_⟩:=e;⟨o,a⟩) (by rintro f c ⟨o,a,b⟩ k;exact i02 o (k o a) b))
theorem D5a (j:isD u) (x:A2q P w H h a u):(a == sysModules)=false/\∃o es ep,h.get? a=some o/\o.ExactDict/\o.data= .dict es ep:=by
 rcases j with ⟨g,rfl⟩ | ⟨g,rfl⟩
 ·obtain ⟨i,e,k,f,o,es,ep,c,b,d,r⟩:=x;exact ⟨e,(i0n o es ep c b d)⟩
 ·obtain ⟨i,e,k,f,o,es,ep,c,b,d,r⟩:=x;exact ⟨e,(i0n o es ep c b d)⟩
def E1j:V->List V->Hp->VK->Prop:=λx b H Q=>∃a u,x= .ref a/\b=[]/\H a=some u/\isD u/\∀p,H p=none->Q (.ref p) (upd H p (C4v p a))
theorem D1e:MtR X "dict.items" E1j:=by
 intro c s Z H x p v t Q I i j h;obtain ⟨a,u,rfl,rfl,k,g,q⟩:=h;cases i;cases j;obtain ⟨m,o,w,n,l,f,r⟩:=D5a g (I.hok a u k);have d:s.TypeIs (.ref a) "dict":=(i02 o l f.1);refine call_meetsIn PySem.F.slot_dict_items d PySem.F.entry_dict_items (PySem.F.args_dict_items_1 _) (C4r a m) ⟨d,?_⟩;exact i0f (.ref s.heap.objs.size) _ (I.laid (t':=s.toks) (o:=C4v s.heap.objs.size a) (λb u e=>Z01 _ e) (Z09 _) (D3e (i06 _ (Z0c _ rfl) rfl rfl))) rfl (q _ (I.hok.fresh (Z09 _)))
theorem Inv.frozenD (I:Inv X pins Z H s) (c:H a=some u) (f:isD u) (h:s.heap.get? a=some o):Inv X pins Z (upd H a (.frz o u)) s:=by
 have j:∀b d,H b=some (.tup d)->upd H a (.frz o u) b=some (.tup d):=λb d q=>by
  rw [A0i (A3m q c (by rcases f with ⟨_,rfl⟩ | ⟨_,rfl⟩ <;> intro z <;> cases z))];exact q
 have i:∀b,H b=some (.own a)->upd H a (.frz o u) b=some (.own a):=λb q=>by
  rw [A0i (A3m q c (by rcases f with ⟨_,rfl⟩ | ⟨_,rfl⟩ <;> intro z <;> cases z))];exact q
 have g:A2q X.prog X.w (upd H a (.frz o u)) s.heap a (.frz o u):=⟨h,(I.hok a u c).stay (λ_ _ _ q=>q) i j⟩;exact I.write (t':=s.toks) (h':=s.heap) (e:=a) (by rw [c];rcases f with ⟨_,rfl⟩ | ⟨_,rfl⟩ <;> trivial) (.inl rfl) (λ_ _ _ e=>e) ⟨o,h⟩ g
theorem Inv.thawD (I:Inv X pins Z H s) (f:H a=some (.frz o u)) (A:isD u) (y:∀o' i,X.H₀ a≠some (.frz o' i)):Inv X pins Z (upd H a u) s:=by
 have h:∀b,H b=none->upd H a u b=none:=λb e=>by rw [A0i (λz=>by subst z;rw [f] at e;cases e)];exact e
 have k:∀b d,H b=some (.tup d)->upd H a u b=some (.tup d):=λb d q=>by rw [A0i (A3m q f (by intro z;cases z))];exact q
 have m:∀b c,H b=some (.own c)->upd H a u b=some (.own c):=λb c q=>by rw [A0i (A3m q f (by intro z;cases z))];exact q
 refine ⟨I.ok,I.os,I.bare,⟨I.base.keep,I.base.slot,λb j e n r=>h b (I.base.free b j e n r),I.base.there,λb d e=>k b d (I.base.tups b d e),λb j i e=> ?_,λb t e=> ?_⟩,I.loc,I.cell,h _ I.free,λx c e=>h _ (I.freeC x c e),
  λp l=>(i00 ((I.pin p l).1) (h _ (I.pin p l).2.1) ((I.pin p l).2.2)),λb v e=> ?_,I.len⟩
 ·have q:=I.base.frzs b j i e;rw [A0i (λz=>by subst z;exact y _ _ e)];exact q
 ·obtain ⟨g,q⟩:=I.base.tbls b t e;exact ⟨g,by rw [A0i (A3m q f (by intro z;cases z))];exact q⟩
 ·by_cases hb:b=a
  ·subst hb;rw [A0b] at e;cases e;obtain ⟨_,q⟩:=(show A2q X.prog X.w H s.heap b (.frz o u) from I.hok b _ f);exact q.stay (λ_ _ _ q=>q) (λc q=>m c b q) λc d q=>k c d q
  ·rw [A0i hb] at e;exact (I.hok b v e).stay (λ_ _ _ q=>q) (λc q=>m c b q) λc d q=>k c d q
def D9f (X:Cx) (t:TS):TS:=λD Z H=>∃a o u,H a=some (.frz o u)/\isD u/\(∀c b,X.H₀ a≠some (.frz c b))/\t D Z (upd H a u)
theorem C6g {t:TS} (h:PSs X sts t):PSs X sts (D9f X t):=by
 intro b s Z H D I f;obtain ⟨a,o,u,e,c,d,q⟩:=f;exact h b s Z _ D (I.thawD e c d) q
abbrev E2f (es:Array DictEntry) (L:List (V×V)):Prop:=Paired (λ(e:DictEntry) (p:V×V)=>A3c p.1 e.key/\A3c p.2 e.val) es.toList L
def Iti (a:Addr) (o:Obj) (u:HO) (L:List (V×V)):It :=
 ⟨λi H=>H a=some (.frz o u)/\i<L.length,λi H x b=>∃k v p,L[i]? =some (k,v)/\H p=none/\x= .ref p/\b=upd H p (.tup [k,v]),λi H=>H a=some (.frz o u)/\i=L.length⟩
theorem B1f {α β:Type} {F:α->β->Prop}:∀{l:List α} {m:List β},Paired F l m->l.length=m.length
 | _,_,.nil=>rfl
 | _,_,.cons _ t=>by simp [B1f t]
theorem A6y {α β:Type} {F:α->β->Prop}:∀{l:List α} {m:List β},Paired F l m->∀{i:Nat} {y:β},m[i]? =some y->∃x,l[i]? =some x/\F x y
 | _,_,.nil,i,y,e=>by simp at e
 | _,_,.cons r t,0,y,e=>by simp at e;subst e;exact i02 _ rfl r
 | _,_,.cons r t,i+1,y,e=>by
  obtain ⟨x,b,a⟩:=A6y t (i:=i) (by simpa using e);exact i02 x (by simpa using b) a
theorem C4h {kk:Nat} (it a:Addr) (o:Obj) (u:HO) (L:List (V×V)) (es:Array DictEntry) (ep:Nat) (M:o.data= .dict es ep) (B:E2f es L) :
  D4a P w K (.Tuple elts kk pos) (Iti a o u L) [it] it (λi h=>∃x y,IsItemIter h it a i es.size ep x y) where
 mem:=by simp
 obj:=λi h d b C=>by
  have e:b=it:=by simpa using C
  subst e;obtain ⟨x,y,e⟩:=d;exact i02 _ e λv z=>by cases (show Data.fields _=Data.cell v from z)
 keep:=λi h t d k=>let ⟨x,y,e⟩:=d;(i03 x y (k it (by simp) _ e))
 item:=by
  intro X A q F l i f s Z H E I n d D;subst A q F;obtain ⟨G,J⟩:=D;obtain ⟨x,y,d⟩:=d;have Q:es.size=L.length:=by have:=B1f B;simpa using this
  obtain ⟨⟨k,v⟩,hkv⟩:∃p,L[i]? =some p:=⟨L[i],by simp [J]⟩;obtain ⟨e,he,r1,S⟩:=A6y B hkv;obtain ⟨j,_⟩:=(show A2q X.prog X.w H s.heap a (.frz o u) from I.hok a _ G);refine C5w d j M rfl (e:=e) (by simpa using he) λt U z2 kp=> ?_;refine i02 _ rfl (wpAny_letOwnedTupleGo_items (s:={ s with heap:=t }) U λg zg O=> ?_)
  have N:s.heap.objs.size≠it:=Z1q (Z0a d)
  have I1:Inv X f Z (upd H s.heap.objs.size (.tup [k,v])) { s with heap:=g,toks:=s.toks }:=I.turnedNew (ts:=[it]) (λc o l e=>by
   have m:c≠it:=by simpa using l
   exact O.extBut _ _ m (kp c o m e)) n (Z09 _) (i05 (by show 2<=sizeLine;decide) [e.key,e.val] (.cons r1 (.cons S .nil)) (i0d _ (O.extBut _ _ N z2) rfl _ rfl))
  refine i0p (.ref s.heap.objs.size) _ I1 rfl (i0r k v _ hkv (I.hok.fresh (Z09 _)) rfl rfl) (i03 _ _ zg) λc l=> ?_;have r:c=it:=by simpa using l
  subst r;rw [A0i N.symm];exact (n c l).1
 done:=by
  intro X A q F l i f s Z H E I n d D;subst A q F;obtain ⟨G,J⟩:=D;obtain ⟨x,y,d⟩:=d;have Q:es.size=L.length:=by have:=B1f B;simpa using this
  obtain ⟨j,_⟩:=(show A2q X.prog X.w H s.heap a (.frz o u) from I.hok a _ G);obtain ⟨Y,R,f2,W,f4,T⟩:=n it (by simp);exact C6m (I.ok.hd l) d j M rfl (by lia) λt eb=>⟨rfl,I.turned (t':=s.toks) (λb ob C e=>eb b ob C e) Y R W f4 T⟩
 self:=λ_ _ s _ _ d h=>by
  obtain ⟨x,y,d⟩:=d;exact C5l d h
end
section
abbrev KL (H:Hp) (kvs:List (List Key×V)) (L:List (V×V)):Prop:=Paired (λ(p:List Key×V) (q:V×V)=>∃b,q.1= .ref b/\H b=some (.tup (p.1.map kV))/\q.2=p.2) kvs L
theorem B3m {α β:Type} {F:α->β->Prop}:∀{l:List α} {m:List β},l.length=m.length->(∀(i:Nat) (x:α) (y:β),l[i]? =some x->m[i]? =some y->F x y)->Paired F l m
 | [],[],_,_=> .nil
 | [],_::_,e,_=>by simp at e
 | _::_,[],e,_=>by simp at e
 | x::l,y::m,e,h=> .cons (h 0 x y rfl rfl) (B3m (by simpa using e) λi a b p q=>h (i+1) a b (by simpa using p) (by simpa using q))
theorem D9m (r:KV kvs vs) (p:Pairs (A1x P w) es.toList vs):E2f es (kvs.map λq=>(kV q.1,q.2)):=by
 refine B3m (by rw [p.length,Z08];exact r.length.symm) λi e y c a=> ?_;rw [Z1z] at a;obtain ⟨⟨k,v⟩,b,rfl⟩:=Z0i.mp a;obtain ⟨u,d,f⟩:=r.at b;obtain ⟨g,h⟩:=p.get? c d;subst h;exact ⟨D6j g,f⟩
theorem D3r {P:Program} {w:World} {H:Hp}:∀{kvs:List (List Key×V)} {xs:List (List Key×Addr×Value)},KT H kvs xs->
  ∃L,Paired (λ(e:DictEntry) (p:V×V)=>A3c p.1 e.key/\A3c p.2 e.val) (xs.map (entryOfKey (tupleKind (A1x P w)))) L/\KL H kvs L
 | _,_,.nil=>(i02 [] .nil .nil)
 | _,_,@Paired.cons _ _ _ p q _ _ h t=>by
  obtain ⟨L,b,a⟩:=D3r (P:=P) (w:=w) t;exact i02 ((.ref q.2.1,p.2)::L) (.cons ⟨rfl,h.2.2⟩ b) (.cons (i06 q.2.1 rfl h.2.1 rfl) a)
def E1q (tl:TE):TI:=λZ H R=>tl Z H λx c=>∃v a u,x= .ref v/\c v=some (C4v v a)/\c a=some u/\
 ((∃b,u= .dK b/\∀o,R (Iti a o u (b.map λq=>(kV q.1,q.2))) (upd c a (.frz o u)))\/∃b,u= .dT b/\∀o L,KL c b L->R (Iti a o u L) (upd c a (.frz o u)))
theorem D3i {l:Expr} {tl:TE} {kk:Nat} (B:PE X l tl):PI X (.Tuple elts kk pos) l (E1q tl):=by
 intro c s Z H R I h;refine thn (B c s Z H _ I h) ?_;rintro y s1 ⟨x,m,I1,C,v,a,u,T,K,n,q⟩;subst T;cases C;obtain ⟨D,_⟩:=(show A2q X.prog X.w m s1.heap v (C4v v a) from I1.hok v _ K)
 have p:∀(o:Obj) (d:Array DictEntry) (f:Nat) (L:List (V×V)),s1.heap.get? a=some o->o.data= .dict d f->isD u->E2f d L->R (Iti a o u L) (upd m a (.frz o u))->
   wpAny (model X.prog X.w) X.A (pyIter (.ref v)) (PIE X c Z (.Tuple elts kk pos) R) X.xe s1:=by
  intro o d f L j i t O Q;refine C5x D j i ?_;have I2:Inv X c Z m { s1 with heap:=s1.heap.push { cls:= .type "dict_itemiterator",data:= .fields #[.none,.bool false,.ref a,.int 0 0,.int d.size 0,.int f 0,.none,.none] },toks:=s1.toks }:=I1.kept λb W e=>Z01 _ e
  have I3:=I2.frozenD n t (Z01 _ j);refine i14 _ [s1.heap.objs.size] _ _ _ rfl I3 (C4h _ a o u L d f i O) (i03 .none .none (Z0c _ rfl)) (λb S=> ?_) Q;have e:b=s1.heap.objs.size:=by simpa using S
  subst e;refine I1.fpOk (Z09 _) ?_;rw [A0i (Z1q (I1.hok.lt n))];exact I1.hok.fresh (Z09 _)
 rcases q with ⟨k,rfl,q⟩ | ⟨k,rfl,q⟩
 ·obtain ⟨F,J,Y,g,o,d,f,j,M,i,_,r,_⟩:=C6d I1.hok n;exact p o d f _ j i (.inl ⟨_,rfl⟩) (D9m g r) (q o)
 ·obtain ⟨F,J,U,g,o,d,f,j,M,i,N,_⟩:=(show A2q X.prog X.w m s1.heap a (.dT k) from I1.hok a _ n);obtain ⟨L,z,G⟩:=D3r (P:=X.prog) (w:=X.w) g;exact p o d f L j i (.inr ⟨_,rfl⟩) (by unfold E2f;rw [N];exact z) (q o L G)
theorem D0e {L:List (V×V)} (Pv:Nat->St->Hp->Prop) (f:Pv 0 Z H) (c:∀i Z H,Pv i Z H->H a=some (.frz o u))
  (n:∀i k v p Z H,L[i]? =some (k,v)->H p=none->Pv i Z H->g (.ref p) Z (upd H p (.tup [k,v])) λZ2 H2=>tb { D with nx:=Pv (i+1),ct:=Pv (i+1),bk:=D.nx } Z2 H2) (l:∀Z H,Pv L.length Z H->D.nx Z H) :
  ∃W:Nat->Nat->St->Hp->Prop,(∃m,W 0 m Z H)/\∀i m Z H,W i m Z H->
   ((Iti a o u L).stop i H/\D.nx Z H)\/((Iti a o u L).go i H/\∃N:St->Hp->Prop,(∀Z' H',N Z' H'->∃b,b<m/\W (i+1) b Z' H')/\∀x H',(Iti a o u L).yld i H x H'->g x Z H' λZ2 H2=>tb { D with nx:=N,ct:=N,bk:=D.nx } Z2 H2):=by
 refine i02 (λi m Z H=>m=L.length-i/\i<=L.length/\Pv i Z H) (i06 L.length (by simp) (Z1e _) f) ?_;rintro i m Z H ⟨rfl,r,p⟩;by_cases hlt:i<L.length
 ·refine .inr (i05 ⟨c i Z H p,hlt⟩ (Pv (i+1)) (λZ' H' d=>(i0c (L.length-(i+1)) (by lia) rfl hlt d)) λx H' y=> ?_);obtain ⟨k,v,q,j,h,rfl,rfl⟩:=y;exact n i k v q Z _ j h p
 ·have e:i=L.length:=by lia
  subst e;exact .inl ⟨⟨c _ Z H p,rfl⟩,l Z H p⟩
end
section
variable {X:Cx}
def E2a (H:Hp):Prop:=(∀a b,H a=some (.dK b)->(b.map (·.1)).Nodup)/\∀a b,H a=some (.dT b)->(b.map (·.1)).Nodup
theorem D8e (r:KV kvs vs):kvs.map (·.1)=vs.map (·.1):=by
 unfold KV at r
 induction r with
 | nil=>rfl
 | cons h t ih=>rw [Z0p,Z0p,ih,h.1]
theorem D5h {kvs:List (List Key×V)} {xs:List (List Key×Addr×Value)} (r:KT H kvs xs):kvs.map (·.1)=xs.map (·.1):=by
 induction r with
 | nil=>rfl
 | cons h t ih=>rw [Z0p,Z0p,ih,h.1]
theorem Inv.apart (I:Inv X pins Z H s):E2a H:=by
 refine ⟨λa c e=> ?_,λa c e=> ?_⟩
 ·obtain ⟨_,_,h,b,o,f,d,_,_,_,_,_,n⟩:=C6d I.hok e;rw [D8e b];exact n
 ·obtain ⟨_,_,g,b,o,f,d,_,_,_,_,n⟩:=(show A2q X.prog X.w H s.heap a (.dT c) from I.hok a _ e);rw [D5h b];exact n
theorem D2o {t:TS} (h:PSs X sts t):PSs X sts (λD Z H=>E2a H->t D Z H):=λa s Z H D I q=>h a s Z H D I (q I.apart)
theorem B2n {κ:Type} [DecidableEq κ] {kvs:List (κ×V)} {k:κ} (n:(kvs.map (·.1)).Nodup) (h:kvs[i]? =some (k,v)) (ws:List (κ×V)) (e:ws.map (·.1)=(kvs.take i).map (·.1)) (u:V):A7z ws k u=ws++[(k,u)]:=by
 unfold A7z;rw [Z0t];intro a;obtain ⟨p,r,c⟩:=List.any_eq_true.mp a;have c:p.1=k:=by simpa using c
 have f:k∈ws.map (·.1):=Z2c.mpr (i02 p r c);rw [e] at f;obtain ⟨q,t,o⟩:=Z2c.mp f;obtain ⟨j,A,d⟩:=List.mem_iff_getElem.mp t;have m:j<i:=by have:=List.length_take_le i kvs;lia
 rw [List.getElem_take] at d;obtain ⟨y,B⟩:=Z03.mp h;have b:j<kvs.length:=by lia
 have l:(kvs.map λx=>x.1)[j]? =some k:=by rw [Z1z,Z0b b,d];exact congrArg some o
 have w:(kvs.map λx=>x.1)[i]? =some k:=by rw [Z1z,h];rfl
 obtain ⟨z,g⟩:=Z03.mp l;obtain ⟨C,s⟩:=Z03.mp w;have:j=i:=(List.getElem_inj n).mp (g.trans s.symm)
 lia
end
theorem C9d:typeLookup (.type "list") "keys"=pure none:=by rw [typeLookup_type,builtinLookup_eq_fast];kernel_rfl
theorem A4v:entryFor table "dict.update.loop"=some Builtin.«dict.update.loop»:=entryFor_of_tree (by kernel_rfl)
theorem A2n:plainId "dict.update.loop"=true:=by decide +kernel
theorem C7x {k:Nat}
  (l:s.heap.get? a=some o) (q:o.cls= .type "list") (f:o.data= .seq xs k) (n:o.dict=none) (x:A.handled=none)
  (h:∀h' tk,(∀b p,s.heap.get? b=some p->h'.get? b=some p)->Q none { s with heap:=h',toks:=tk }):wpAny (model prog w) A (getAttr? (.ref a) "keys") Q E s:=by
 obtain ⟨c,r,t,u⟩:=o;simp only at q f n;subst q f n;obtain ⟨v,g,d,tk,y⟩:=s;have m:∀i,(⟨v,g,d,i,y⟩:Shared).TypeIs (.ref a) "list":=λ_=>(i02 _ l rfl);have D:=sub_AttributeError;have H:=F.slot_list_getattribute.lookup;have C:=F.slot_list_getattribute.bind (.ref a);have G:=am_list_getattr_none;unfold getAttr? getAttrBy? getAttrBy
 repeat (any_goals (first | assumption | exact m _ | ((with_reducible show wpAny _ _ (call (Value.builtin "list.__getattribute__") _ _) _ _ _);refine call_meets F.slot_list_getattribute (m _) am_entry_list_getattribute (F.args_list_getattribute_2 _ _) (meets_getattribute_miss_list a xs k u "keys" _ C9d (by decide) (by decide)) (i00 l x λh' i e j=> ?_)) | wp_step))
 obtain ⟨I,z,B⟩:=j.there;show wpAny _ _ (getattributeRaised _ _ _ _ _ _ _) _ _ _;unfold getattributeRaised
 repeat (any_goals (first | assumption | wp_step))
 all_goals exact h _ _ j.1
section
variable {prog:Program} {w:World} {K:Type} [DecidableEq K] {knd:KeyKind prog w K} {A:Around} {R:Result->Shared->Prop} {I l d:Addr} {items:Array Value} {rs:List (K×Value)} {h₀:Heap} {g:Array GenState} {dr:Drawn} {os:OsState}
def D6d (knd:KeyKind prog w K) (h:Heap) (I d:Addr) (items:Array Value) (rs:List (K×Value)):Prop:=items.size=rs.length/\∀(i:Nat) (v:Value) (k:K) (u:Value),items[i]? =some v->rs[i]? =some (k,u)->
 ∃(b:Addr) (o:Obj) (n:Nat) (a:Value),v= .ref b/\b≠I/\b≠d/\h.get? b=some o/\o.cls= .type "tuple"/\o.data= .seq #[a,u] n/\knd.is k a=true
theorem D1m (hh:A.handled=none) (q:l≠I) (m:d≠I) (M:d≠l) (hsz:rs.length<=sizeLine) (B:D6d knd h₀ I d items rs) (hl:h₀.IsList l items)
  (fin:∀h' tk,h'.DictOf knd d (merged [] rs)->(∀b o,b≠I->b≠d->h₀.get? b=some o->h'.get? b=some o)->R (.ok (.ret .none)) ⟨h',g,dr,tk,os⟩) :
  ∀(k i:Nat) (h:Heap) (tk:Nat),rs.length-i=k->i<=rs.length->h.IsListIter I l i->(∀b o,b≠I->b≠d->h₀.get? b=some o->h.get? b=some o)->h.DictOf knd d (merged [] (rs.take i))->
   codeAny (model prog w) A (.builtin "dict.update.loop" ⟨[.ref d,.ref I,rawInt i,.none],[]⟩) R ⟨h,g,dr,tk,os⟩:=by
 have W:=Walks.list (prog:=prog) (w:=w) (A:=A.in1) hh I l q items;intro k
 induction k with
 | zero =>
  intro i h tk hk hi j t N;have X:i=items.size:=by have:=B.1;lia
  have z:i=rs.length:=by lia
  refine codeAny_builtin A4v ?_;rw [Around.under_plainId A2n _];show wpAny _ A.in1 (pyNext (.ref I) >>= _) _ _ _;refine Z00 (W.done ⟨h,g,dr,tk,os⟩ _ _ (by rw [<-X];exact ⟨j,hl.at λo e=>t l o q (Ne.symm M) e⟩) λh' f a=> ?_);show wpAny _ A.in1 (Builtin.Dict.addKeywords d [] >>= λ_=>ret Value.none) _ _ _;rw [z,Z18] at N;obtain ⟨F,Q,O,S,r⟩:=N;refine Z00 (Z04 (Z04 (fin h' f (i0g F Q O (a d F (by simpa using m) S) r) λb o x T e=>a b o (by simpa using x) (t b o x T e))))
 | succ k ih =>
  intro i h tk hk hi j t N;have Y:i<items.size:=by have:=B.1;lia
  refine codeAny_builtin A4v ?_;rw [Around.under_plainId A2n _];show wpAny _ A.in1 (pyNext (.ref I) >>= _) _ _ _;refine Z00 (W.item i ⟨h,g,dr,tk,os⟩ _ _ Y ⟨j,hl.at λo e=>t l o q (Ne.symm M) e⟩ λv h' f hv H a=> ?_);obtain ⟨⟨k',u⟩,hku⟩:∃p,rs[i]? =some p:=⟨rs[i]'(by have:=B.1;lia),Z0b _⟩;obtain ⟨b,o,n,kv,rfl,y,Z,hb,E,C,P⟩:=B.2 i v k' u hv hku;have L:h'.get? b=some o:=a b o (by simpa using y) (t b o y Z hb);have hT:(⟨h',g,dr,f,os⟩:Shared).TypeIs (.ref b) "tuple":=(i02 _ L E);show wpAny _ A.in1 (holding [Value.ref b] _ >>= _) _ _ _;refine Z00 (Z1w (Z00 (wpAny_tryCatch ?_)));unfold Builtin.Dict.pairItems;refine Z00 (wpAny_typeOf hT ?_);rw [Z12 (by decide)];refine Z00 (Z21 L C (Z04 ?_));show wpAny _ A.in1 (holding [kv,u] (dictSet d kv u)) _ _ _
  have U:h'.DictOf knd d (merged [] (rs.take i)):=by
   obtain ⟨F,Q,O,S,r⟩:=N;exact i0g F Q O (a d F (by simpa using m) S) r
  have J:(merged [] (rs.take i)).length<=sizeLine:=by
   have e1:=merged_length_le ([]:List (K×Value)) (rs.take i);have e2:(rs.take i).length<=rs.length:=by rw [Z0x];lia
   simp only [Z2g,Nat.zero_add] at e1
   lia
  refine Z1w (wpAny_dictSet_pairs (hsz:=J) (s:=⟨h',g,dr,f,os⟩) P U λT G sb=> ?_);rw [<-merged_take_succ [] rs i (k',u) hku] at G;refine Z04 ⟨plainId_quiet A2n _,ih (i+1) T _ (by lia) (by have:=B.1;lia) ?_ ?_ G⟩
  ·exact H.1.at λo e=>(sb.2 I (Ne.symm m)).trans e
  ·intro c oc x D e;exact (sb.2 c D).trans (a c oc (by simpa using x) (t c oc x D e))
end
def B2v (a:Env):List (Str×Addr)->Prop
 | []=>True
 | p::r=>a.cells.lookup p.1=some p.2/\B2v a r
theorem B2v.get {a:Env}:∀{cl:List (Str×Addr)},B2v a cl->∀{x:Str} {c:Addr},cl.lookup x=some c->a.cells.lookup x=some c
 | [],_,_,_,h=>by cases h
 | (y,d)::r,h,x,c,e=>by
  rw [Z28] at e;split at e
  ·rename_i hb;have b:x=y:=by simpa using hb
   cases e
   subst b;exact h.1
  ·exact B2v.get h.2 e
theorem B0l {x:Str}:∀{cl:List (Str×Addr)},x∈cl.map (·.1)->∃c,cl.lookup x=some c
 | [],h=>by cases h
 | (y,d)::r,h=>by
  rw [Z28]
  cases hb:(x == y) with
  | true=>exact ⟨d,rfl⟩
  | false =>
   have a:x≠y:=by simpa using hb
   rcases Z0e.mp h with e | e
   ·exact absurd e a
   ·exact B0l e
theorem D0o {xs:List Str} (j:closureFor scope X.env=pure cl) (t:B2v X.env cl) (i:cl.map (·.1)=xs) (a:scope.kind= .function) (c:∀y∈scope.names,y.2≠.cell/\(y.2= .free->y.1∈xs))
  (p:∀y∈scope.names,y.2= .local->scope.names.lookup y.1=some .local):C6f X scope cl where
 eq:=j
 sub:=λy d h=>t.get h
 has:=λy h=>by
  have b:y∈xs:=by
   have m:∃k,(y,k)∈(relabel scope X.env).names/\(k= .cell\/k= .free):=h.elim (λz=>(i02 _ (A7d z) (.inl rfl))) λz=>(i02 _ (A7d z) (.inr rfl));obtain ⟨k,o,a⟩:=m;obtain ⟨⟨n,f⟩,g,e⟩:=Z2c.mp o;dsimp only at e;by_cases hf:f= .free
   ·have r:n=y:=by
     split at e
     ·exact congrArg Prod.fst e
     ·exact congrArg Prod.fst e
    rw [<-r];exact (c _ g).2 hf
   ·have q:(f == NameKind.free)=false:=by simpa using hf
    simp only [q,Bool.false_and,Bool.false_eq_true,if_false] at e;have s:f=k:=congrArg Prod.snd e;subst s;rcases a with a | a
    ·exact absurd a (c _ g).1
    ·exact absurd a hf
  rw [<-i] at b;exact B0l b
 kind:=a
 ncell:=λy l=>(c y l).1
 names:=p
def B9i (X:Cx) (scope:Scope):List Str->List Nat->Prop
 | [],[]=>True
 | x::xs,j::js=>(X.N[j]? =some x/\(X.env.scope.names.lookup x=some .cell\/X.env.scope.names.lookup x=some .free)/\((relabel scope X.env).names.lookup x=some .cell\/(relabel scope X.env).names.lookup x=some .free))/\B9i X scope xs js
 | _,_=>False
theorem B9i.get {X:Cx} {scope:Scope}:∀{xs:List Str} {js:List Nat},B9i X scope xs js->xs.length=js.length/\∀(i j:Nat),js[i]? =some j->∃x,xs[i]? =some x/\X.N[j]? =some x/\(X.env.scope.names.lookup x=some .cell\/X.env.scope.names.lookup x=some .free)/\((relabel scope X.env).names.lookup x=some .cell\/(relabel scope X.env).names.lookup x=some .free)
 | [],[],_=>⟨rfl,λi j e=>by simp at e⟩
 | x::xs,j::js,h=>by
  obtain ⟨e,f⟩:=B9i.get h.2;refine ⟨by simp [e],λi k a=> ?_⟩
  cases i with
  | zero=>simp at a;subst a;exact i02 x rfl h.1
  | succ i=>exact f i k (by simpa using a)
 | [],_::_,h=>h.elim
 | _::_,[],h=>h.elim
theorem C7c {N0 xs:List Str} {js:List Nat} (h:B9i X scope xs js):D0y X (N0++xs) scope (List.replicate N0.length none++js.map some):=by
 obtain ⟨g,c⟩:=h.get;refine ⟨by simp [g],λi k e=> ?_⟩;by_cases hi:i<N0.length
 ·rw [Z26 (by simpa using hi),List.getElem?_replicate] at e;split at e <;> cases e
 ·rw [Z1l (by simpa using hi),List.length_replicate,Z1z] at e;obtain ⟨j,b,a⟩:=Z0i.mp e;cases a;obtain ⟨x,d,l,m,f⟩:=c _ _ b;exact i0c x (by rw [Z1l (by lia)];exact d) l m f
abbrev PL (H:Hp) (xs:List V) (kvs:List (Key×V)):Prop:=Paired (λ(x:V) (p:Key×V)=>∃b,x= .ref b/\H b=some (.tup [kV p.1,p.2])) xs kvs
section
variable {X:Cx}
theorem D3l {pins:List (Addr×Obj)} {Z:St} {H:Hp} {s:Shared} (I:Inv X pins Z H s):∀{xs:List V} {kvs:List (Key×V)} {its:List Value},PL H xs kvs->A3z xs its->
  ∃rs,KV kvs rs/\Paired (λ(v:Value) (p:Key×Value)=>∃(b:Addr) (o:Obj) (n:Nat) (a:Value),v= .ref b/\s.heap.get? b=some o/\o.cls= .type "tuple"/\o.data= .seq #[a,p.2] n/\(A1x X.prog X.w).is p.1 a=true) its rs
 | _,_,_,.nil,.nil=>(i02 [] .nil .nil)
 | _,_,_,@Paired.cons _ _ _ x p _ _ ⟨b,e,hb⟩ t,.cons rv vs=>by
  obtain ⟨rs,f,g⟩:=D3l I t vs;subst e;cases rv;obtain ⟨_,its,r,o,d,h,n,c⟩:=(show A2q X.prog X.w H s.heap b (.tup [kV p.1,p.2]) from I.hok b _ hb)
  cases r with
  | cons r1 r =>
   cases r with
   | cons r2 r =>
    cases r
    exact i02 ((p.1,_)::rs) (.cons ⟨rfl,r2⟩ f) (.cons (i0y b o n _ rfl d h c (C2d r1)) g)
theorem B5t (hc:X.calm=true):A8h X (.type "dict") (λvs H Q=>∃a xs kvs,vs=[V.ref a]/\H a=some (.lst xs)/\PL H xs kvs/\∀p,H p=none->Q (.ref p) (upd H p (.dK (A4g [] kvs)))):=by
 intro T s Z H vs us Q I r h;obtain ⟨a,xs,kvs,rfl,ha,R,q⟩:=h;obtain ⟨u,rfl,ru⟩:=B1d r;cases ru;obtain ⟨z,f,n,rv,hl,e⟩:=I.lstM ha;obtain ⟨rs,C,rp⟩:=D3l I R rv;have P:X.A.handled=none:=I.ok.hd hc;have lk:kvs.length=xs.length:=(Paired.length R).symm;have lr:rs.length=kvs.length:=C.length.symm;have hn:=I.hok.fresh (Z09 s.heap.objs.size);refine callType_codes (Q₁:=λj W=>j= .ref s.heap.objs.size/\W={ s with heap:=s.heap.push { cls:= .type "dict",data:= .dict #[] } }) F.kt_called_dict (F.kt_typeCall_dict_1 _) F.entry_dict_init (kt_code_dict_new _ ⟨rfl,rfl⟩) ?_;rintro j W ⟨rfl,rfl⟩;have c:(s.heap.push { cls:= .type "dict",data:= .dict #[] }).DictOf (A1x X.prog X.w) s.heap.objs.size []:=Heap.DictOf.new s.heap;have D:(s.heap.push { cls:= .type "dict",data:= .dict #[] }).get? a=some { cls:= .type "list",data:= .seq f.toArray n }:=Z01 _ e;have J:Shared.TypeIs { s with heap:=s.heap.push { cls:= .type "dict",data:= .dict #[] } } (.ref a) "list":=(i02 _ D rfl);refine i00 c.typeIs (F.args_dict_init_2 _ _) ?_;unfold Builtin.«dict.__init__»;refine Z00 ?_;unfold Builtin.Dict.selfAndRest;refine Z00 (wpAny_notOrdered_dict c.typeIs ?_);show wpAny _ _ (pure (s.heap.objs.size,[Value.ref a])) _ _ _;refine Z04 ?_;show wpAny _ _ (Builtin.Dict.updateFrom "dict.__init__" s.heap.objs.size (.ref a) [] .none) _ _ _;unfold Builtin.Dict.updateFrom;refine Z00 (wpAny_typeOf J ?_);rw [Z12 (by decide)];refine Z00 (C7x (o:={ cls:= .type "list",data:= .seq f.toArray n }) D rfl rfl rfl (by simpa using P) λy K d=> ?_)
 rw [Z12 (show (none:Option Value).isNone=true from rfl)];refine Z00 (wpAny_rule ?_);have t:y.IsList a f.toArray:=(i0d _ (d _ _ D) rfl n rfl);refine Z00 (wpAny_pyIter_list (s:={ s with heap:=y,toks:=K }) t ?_);have la:a<y.objs.size:=Z0a (d _ _ D);have G:s.heap.objs.size<y.objs.size:=let ⟨_,_,_,g,_⟩:=c;Z0a (d _ _ g);have L:a<s.heap.objs.size:=Z0a e;refine Z04 ⟨plainId_quiet A2n _,D1m (knd:=A1x X.prog X.w) (rs:=rs) (l:=a) (items:=f.toArray) (h₀:=y.push { cls:= .type "list_iterator",data:= .fields #[.ref a,.int 0 0] }) (by simpa using P) (Z0h la) (Z0h G) (Z1q L) (by lia) ?_ (t.push _) ?_ rs.length 0 _ _ (by lia) (Z1e _) (i06 _ (Z0c _ rfl) rfl rfl) (λ_ _ _ _ z=>z) ?_⟩
 ·refine ⟨by simp;lia,λi v k u B N=> ?_⟩;obtain ⟨x,hx,b,o,m,C,ev,U,g2,Y,g4⟩:=A6y rp N
  have ex:x=v:=by
   have B:f[i]? =some v:=by simpa using B
   rw [hx] at B;exact Z1a B
  subst ex;have S:=Z0a U;exact i10 b o m C ev (Z0h (Nat.lt_trans S G)) (Z0h S) (Z01 _ (d _ _ (Z01 _ U))) g2 ⟨Y,g4⟩
 ·intro h' tk dd kp;refine i0i rfl (.ref s.heap.objs.size) _ (I.laid (t':=tk) (o:= .dK (A4g [] kvs)) (λb u M=>kp b u (Z0h (Nat.lt_trans (Z0a M) G)) (Z0h (Z0a M)) (Z01 _ (d _ _ (Z01 _ M)))) (Z09 _) (i0a ?_ ?_ _ (KV.merge C .nil) dd)) rfl (q _ hn)
  ·have:=A7m kvs [];simp only [Z2g] at this
   lia
  ·have:=I.big;have O:s.heap.objs.size≠sysModules:=Z1q this
   simpa using O
 ·obtain ⟨od,es,E,g,r⟩:=c;exact i0g od es E (Z01 _ (d _ _ g)) r
end
section
variable {D:Addr} {g:TG} {te:TE} {QD:Hp->Prop} {Z₀:St} {H:Hp}
theorem B4c {J:It} (n:Nat) (Pv:Nat->List V->Hp->Prop) (h:Pv 0 [] (upd H D (.lst []))) (c:∀i ys H,i<n->Pv i ys H->J.go i H) (d:∀ys H,Pv n ys H->J.stop n H)
  (k:∀i ys H,i<n->Pv i ys H->∀x b,J.yld i H x b->g x Z₀ b λZ4 H4=>A2w Z₀ Z4/\te Z4 H4 λy a=>a D=some (.lst ys)/\ys.length<sizeLine/\Pv (i+1) (ys++[y]) (upd a D (.lst (ys++[y])))) (j:∀ys H,Pv n ys H->QD H) :
  ∃W:Nat->Nat->Hp->Prop,(∃m,W 0 m (upd H D (.lst [])))/\∀i m H2,W i m H2->
   (J.stop i H2/\QD H2)\/(J.go i H2/\∃N:VK,(∀y a,N y a->∃xs,a D=some (.lst xs)/\xs.length<sizeLine/\∃f,f<m/\W (i+1) f (upd a D (.lst (xs++[y]))))/\
    ∀x b,J.yld i H2 x b->g x Z₀ b λZ4 H4=>A2w Z₀ Z4/\te Z4 H4 N):=by
 refine i02 (λi m H=>m=n-i/\i<=n/\∃ys,Pv i ys H) (i0d n (by simp) (Z1e _) [] h) ?_;rintro i m H2 ⟨rfl,l,ys,p⟩;by_cases hlt:i<n
 ·exact .inr (i05 (c i ys H2 hlt p) (λy a=>a D=some (.lst ys)/\ys.length<sizeLine/\Pv (i+1) (ys++[y]) (upd a D (.lst (ys++[y])))) (λy a z=>(i0v ys z.1 z.2.1 (n-(i+1)) (by lia) rfl hlt _ z.2.2)) λx b z=>k i ys H2 hlt p x b z)
 ·have e:i=n:=by lia
  subst e;exact .inl ⟨d ys H2 p,j ys H2 p⟩
end
theorem D2s (h:X.K=K):IxR X (E4j K):=h▸A1n
theorem C9j {U:String} (h:mroIn K C (.type U)=some b) (a:PySem.W.kitMeta U=true):∀u,A3c (.ty U) u->kitOne K (.ref C) u=some b:=by
 intro u z;cases (show u=Value.type U from z);unfold kitOne;rw [Z0t (show¬(Value.ref C == Value.type U)=true from Z0v)];show (if PySem.W.kitMeta U=true then subIn K (.ref C) (.type U) else none)=some b;rw [Z12 a];exact h
theorem A3h.or {base:Heap} {CX:CXT} {k:Nat} {sp sp':Sp} (F:A3h P w K mg base CX k f fd ps sp) (e:A3h P w K mg base CX k f fd ps sp') :
  A3h P w K mg base CX k f fd ps (λvs H Q E=>sp vs H Q E\/sp' vs H Q E) :=
 ⟨λvs H Q E q=>q.elim (F.len vs H Q E) (e.len vs H Q E),λA a s H b g vs Q E c d h i q=>q.elim (F.run A a s H b g vs Q E c d h i) (e.run A a s H b g vs Q E c d h i)⟩
theorem C0w (a ws:List (Key×V)) (w:Key×V):A4g a (ws++[w])=A7z (A4g a ws) w.1 w.2:=by unfold A4g;rw [List.foldl_append];rfl
section
variable {X:Cx}
theorem C2w {tg:Expr} (c2:X.N.Nodup) (c1:X.N[i₀]? =some x₀) (c3:Loc X.env.scope x₀) (hc:X.calm=true) (U:C6f X scope cl) (io:D0y X N' scope ix) (hi:PI X tg iter wi)
  (hg:∀C s₀ H₀ fp,PG (blk X N' scope cl C s₀ H₀ fp) tg g) (ht:∀C s₀ H₀ fp,PTs (blk X N' scope cl C s₀ H₀ fp) cs tc) (he:∀C s₀ H₀ fp,PE (blk X N' scope cl C s₀ H₀ fp) elt te) (R:C6c->St->It->Hp->Prop) (hR:∀D Z J H1,R D Z J H1->∀D2,H1 D2=none->∃W:Nat->Nat->Hp->Prop,(∃m,W 0 m (upd H1 D2 (.lst [])))/\∀i m H2,W i m H2->
   (J.stop i H2/\D.nx (Z.set i₀ (some (.ref D2))) H2)\/(J.go i H2/\∃(N:VK) (M:Hp->Prop),(∀y q,N y q->∃xs,q D2=some (.lst xs)/\xs.length<sizeLine/\∃t,t<m/\W (i+1) t (upd q D2 (.lst (xs++[y]))))/\(∀q,M q->∃t,t<m/\W (i+1) t q)/\∀x H3,J.yld i H2 x H3->g x (A6q ix Z) H3 λZ4 H4=>A2w (A6q ix Z) Z4/\tc Z4 H4 λb q=>if b=true then te Z4 q N else M q)) (hs:∀x,foldedSetIterable iter X.env x=pure x:=by intro _;rfl)
  (c4:swapsWith (.ListComp elt [⟨tg,iter,cs,0⟩] scope pos) (some (.Name x₀ pos₀)) spos.line X.env=pure true:=by rfl) (b9:X.fn x₀=true\/X.env.scope.names.lookup x₀=some .local:=by first | exact .inl rfl | exact .inr rfl | assumption) :
  PS X (.Assign [.Name x₀ pos₀] (.ListComp elt [⟨tg,iter,cs,0⟩] scope pos) spos) (λD Z H=>wi Z H (R D Z)):=by
 intro k s Z H D₀ I h;rw [exec_Assign_Name_used _ _ _ _ c4];refine Z00 (Z1y (Z00 ?_));show wpAny _ X.A (do let _<-comprehension (.ListComp elt [⟨tg,iter,cs,0⟩] scope pos) scope X.env _ (newList []) false (eval iter X.env) (some (assign (.Name x₀ pos₀) X.env))) _ _ s;refine Z00 (Z10 (wpAny_comprehension_free (use:=some (assign (.Name x₀ pos₀) X.env)) (Q:=λ_ B=>∃Z' H',Inv X k Z' H' B/\D₀.nx Z' H') rfl hs U.eq U.kind U.names (thn (hi k s Z H _ I h) λxv s1 h1=>thn h1 λc8 f h2=> ?_)) (λ_ B hq=>Z04 (Z04 hq)) λ_ _ e=>e);obtain ⟨it,fp,tn,J,H1,rfl,I1,T,a5,f1,R1⟩:=h2;refine Z16 ?_;have hD:H1 f.heap.objs.size=none:=I1.hok.fresh (Z09 _);obtain ⟨W,⟨m0,w0⟩,b0⟩:=hR _ _ _ _ R1 _ hD;have a8:∀b∈fp,b<f.heap.objs.size:=λb l=>let ⟨o,e,_⟩:=T.obj _ _ a5 b l;Z0a e;have I2:Inv X k Z (upd H1 f.heap.objs.size (.lst [])) { f with heap:=f.heap.push { cls:= .type "list",data:= .seq ([]:List Value).toArray },toks:=f.toks }:=I1.lnew (its:=[]) .nil (Z1e _);have f2:∀b∈fp,C1d X k (upd H1 f.heap.objs.size (.lst [])) b:=λb l=>⟨by rw [A0i (Z0h (a8 b l))];exact (f1 b l).1,(f1 b l).2⟩
 have Y:∀b∈fp,b<(f.heap.push { cls:= .type "list",data:= .seq ([]:List Value).toArray }).objs.size:=λb l=>by rw [Z1s];exact Nat.lt_succ_of_lt (a8 b l)
 refine wpAny_newFunctionEnv U.ncell (by intro y hy;simp at hy) (λh3 E a9=> ?_) U.kind;dsimp only at E a9⊢;have k3:∀b o,(f.heap.push { cls:= .type "list",data:= .seq ([]:List Value).toArray }).get? b=some o->h3.get? b=some o:=λb o e=>(a9.2 b (Z0h (Z0a e))).trans (Z01 _ e);generalize hs2:({ f with heap:=f.heap.push { cls:= .type "list",data:= .seq ([]:List Value).toArray },toks:=f.toks }:Shared)=s3 at I2;have e3:f.heap.push { cls:= .type "list",data:= .seq ([]:List Value).toArray }=s3.heap:=by rw [<-hs2]
 rw [e3] at E k3 Y;have I3:=B8q (N':=N') (ix:=ix) I2 U io f2 Y (h':=h3) (t':=f.toks+([]:List (Str×Value)).length) E k3;have e4:({ s3 with heap:=h3,toks:=f.toks+([]:List (Str×Value)).length }:Shared)={ f with heap:=h3,toks:=f.toks+([]:List (Str×Value)).length }:=by rw [<-hs2]
 rw [e4] at I3;have a7:tn 0 h3:=T.keep _ _ _ a5 λb l o e=>k3 b o (by rw [<-e3];exact Z01 _ e)
 have L:∀s4:Shared,s4={ f with heap:=h3,toks:=f.toks+([]:List (Str×Value)).length }->
   codeAny (model X.prog X.w) X.A (.compLoop (.ListComp elt [⟨tg,iter,cs,0⟩] scope pos) 0 (.ref it) (.ref f.heap.objs.size) (compEnvC scope cl s3.heap.objs.size X.env))
    (compPost (model X.prog X.w) X.A X.xe (some (assign (.Name x₀ pos₀) X.env)) (λ_ B=>∃Z' H',Inv X k Z' H' B/\D₀.nx Z' H') (.ref f.heap.objs.size) s3.heap.objs.size) s4:=by
  rintro s4 rfl
  have F:∀{H':Hp},(∀b∈fp,H' b=none)->∀b∈fp,C1d (blk X N' scope cl s3.heap.objs.size s3 (upd H1 f.heap.objs.size (.lst [])) fp) [] H' b:=λhn b l =>
   (i0h (hn b l) (Z0h (Y b l)) (λhs=>I3.ok.exfs b l hs) (.inl l) (λx c e=>(f2 b l).2.2.2.2.1 x c (U.sub x c e)) (λp hp=>by cases hp))
  refine codeAny_loop rfl (λn B=>∃i Z' H',Inv (blk X N' scope cl s3.heap.objs.size s3 (upd H1 f.heap.objs.size (.lst [])) fp) [] Z' H' B/\(∀(j:Nat) v,(A6q ix Z)[j]? =some (some v)->Z'[j]? =some (some v))/\tn i B.heap/\(∀b∈fp,H' b=none)/\W i n H')
   (λn B hI=> ?_) m0 (i0u 0 _ _ I3 (λ_ _ z=>z) a7 (λb l=>(f2 b l).1) w0)
  obtain ⟨i,Z5,q,I5,wk,a3,a6,w5⟩:=hI;show wpAny _ _ ((compTurn (.ListComp elt [⟨tg,iter,cs,0⟩] scope pos) 0 (.ref it) (.ref f.heap.objs.size) (compEnvC scope cl s3.heap.objs.size X.env)).onRaise (λx=>do noteFrame x (compEnvC scope cl s3.heap.objs.size X.env);theTreesLotGoes x)) _ _ B;refine wpAny_noted ?_;rw [compTurn_list];refine Z00 (Z1y ?_);rcases b0 i n q w5 with ⟨stop,qn⟩ | ⟨go,NN,MM,c6,b3,b2⟩
  ·refine Z00 (Z10 (T.done (blk X N' scope cl s3.heap.objs.size s3 (upd H1 f.heap.objs.size (.lst [])) fp) rfl rfl rfl hc i [] B Z5 q (λ_ _=>False) I5 (F a6) a3 stop) (λr s6 h6=> ?_) λ_ _ z=>z.elim);obtain ⟨rfl,I6⟩:=h6;refine Z04 ?_;obtain ⟨mm,hm,_⟩:=id I6.loc;have S:C1d X k q s3.heap.objs.size:=I2.fpOk (Z09 _) I6.free;have Io:Inv X k Z q s6:=D0d I2 f2 I6 (Heap.SameBut.refl _ _);show wpAny _ X.A (assign (.Name x₀ pos₀) X.env (.ref f.heap.objs.size)) _ _ s6;refine wpAny_assign_Name (B8m Io c2 c1 c3 (v:= .ref f.heap.objs.size) rfl (λs7 I7 c7=> ?_) b9);obtain ⟨a,sb,ha⟩:=c7
   have ca:s3.heap.objs.size≠a:=by
    rcases ha with ha | ha
    ·rw [ha];exact S.2.1
    ·exact λz=>S.2.2.2.2.1 _ _ ha z.symm
   obtain ⟨oC,es,ep,ho,r⟩:=hm;exact i02 mm (i0g oC es ep ((sb.2 _ ca).trans ho) r) λh' c0=>(i07 _ q (I7.turned (t':=s7.toks) (λb o l e=>(c0.2 b l).trans e) S.1 S.2.1 S.2.2.2.1 S.2.2.2.2.1 S.2.2.2.2.2) qn)
  ·refine Z00 (Z10 (T.item (blk X N' scope cl s3.heap.objs.size s3 (upd H1 f.heap.objs.size (.lst [])) fp) rfl rfl rfl hc i [] B Z5 q (λ_ _=>False) I5 (F a6) a3 go) (λr s6 h6=> ?_) λ_ _ z=>z.elim);obtain ⟨u,rfl,h6⟩:=h6;refine Z00 (Z10 h6 (λ_ s7 h7=> ?_) λ_ _ z=>z.elim);obtain ⟨x,H7,I7,r7,y7,a1,b6⟩:=h7;have I7w:Inv (blk X N' scope cl s3.heap.objs.size s3 (upd H1 f.heap.objs.size (.lst [])) fp) [] (A6q ix Z) H7 s7:=I7.weak (by rw [I7.len];unfold A6q;rw [Z08];exact io.1) wk;have I7p:=I7w.pinned (F b6) (T.obj _ _ a1);refine Z00 (Z10 (hg _ _ _ _ _ s7 _ H7 x u _ I7p r7 (b2 x H7 y7)) (λ_ s8 h8=> ?_) λ_ _ z=>z.elim);obtain ⟨Z8,H8,I8,b1,q8⟩:=h8
   have P:∀{K:Shared} {Z10:St} {O:Hp} {t:Nat},Inv (blk X N' scope cl s3.heap.objs.size s3 (upd H1 f.heap.objs.size (.lst [])) fp) ([]++B5q fp s7.heap) Z10 O K->(∀(j:Nat) v,(A6q ix Z)[j]? =some (some v)->Z10[j]? =some (some v))->W (i+1) t O->
     ∃i Z' H',Inv (blk X N' scope cl s3.heap.objs.size s3 (upd H1 f.heap.objs.size (.lst [])) fp) [] Z' H' K/\(∀(j:Nat) v,(A6q ix Z)[j]? =some (some v)->Z'[j]? =some (some v))/\tn i K.heap/\(∀b∈fp,H' b=none)/\W i t H':=by
    intro K Z10 O t I10 kk a2;refine i0u (i+1) Z10 O I10.unpinned kk (T.keep _ _ _ a1 λb l o e=>(I10.pin (b,o) (Z02 _ (Z02 _ (A5j l e)))).1) (λb l=> ?_) a2;obtain ⟨o,e,d⟩:=T.obj _ _ a1 b l;exact (I10.pin (b,o) (Z02 _ (Z02 _ (A5j l e)))).2.1
   refine Z00 (Z10 (ht _ _ _ _ _ s8 Z8 H8 _ I8 q8) (λok b8 b7=> ?_) λ_ _ z=>z.elim);obtain ⟨H9',I9',a4⟩:=b7
   cases ok with
   | false =>
    have G:MM H9':=by simpa using a4
    obtain ⟨t,a0,w9⟩:=b3 _ G;exact Z00 (Z04 (Z04 (i05 rfl t a0 (P I9' b1.get w9))))
   | true =>
    have G:te Z8 H9' NN:=by simpa using a4
    refine Z00 (Z00 (Z10 (he _ _ _ _ _ b8 Z8 H9' _ I9' G) (λyv s9 h9=> ?_) λ_ _ z=>z.elim));obtain ⟨y,H9,I9,r9,n9⟩:=h9;obtain ⟨xs,b4,b5,t,a0,w9⟩:=c6 _ _ n9;refine Z00 (Z10 (A2e (X:=blk X N' scope cl s3.heap.objs.size s3 (upd H1 f.heap.objs.size (.lst [])) fp) _ s9 Z8 H9 (.ref f.heap.objs.size) [y] (.ref f.heap.objs.size) [yv] (λ_ H'=>W (i+1) t H') I9 rfl (.cons r9 .nil) (i0u _ xs y rfl rfl b4 b5 w9)) (λ_ K c5=> ?_) λ_ _ z=>z.elim);obtain ⟨_,O,I10,_,a2⟩:=c5;exact Z04 (Z04 (i05 rfl t a0 (P I10 b1.get a2)))
 have e5:s3.heap.objs.size=(f.heap.push { cls:= .type "list",data:= .seq ([]:List Value).toArray }).objs.size:=by rw [e3]
 rw [e5] at L;exact codeAny_compStart_list (L _ rfl) (T.self X.A 0 _ _ _ a7 (L _ rfl))
theorem B6j {tg:Expr} (f:X.N.Nodup) (e:X.N[i₀]? =some x₀) (k:Loc X.env.scope x₀) (t:X.calm=true) (q:C6f X scope cl) (y:D0y X N' scope ix) (hi:PI X tg iter wi)
  (r:∀C j H₀ fp,PG (blk X N' scope cl C j H₀ fp) tg g) (n:∀C j H₀ fp,PE (blk X N' scope cl C j H₀ fp) elt te) (u:∀x,foldedSetIterable iter X.env x=pure x:=by intro _;rfl)
  (c:swapsWith (.ListComp elt [⟨tg,iter,[],0⟩] scope pos) (some (.Name x₀ pos₀)) spos.line X.env=pure true:=by rfl) (d:X.fn x₀=true\/X.env.scope.names.lookup x₀=some .local:=by first | exact .inl rfl | exact .inr rfl | assumption) :
  PS X (.Assign [.Name x₀ pos₀] (.ListComp elt [⟨tg,iter,[],0⟩] scope pos) spos) (D8t (E0b ix wi g te) (A7u i₀)) :=
 C2w (tc:=λ_ H Q=>Q true H) f e k t q y hi r (λ_ _ _ _ _ _ _ _ _ I h=>wpAny_tests_nil (i02 _ I h)) n _ (λ_ _ _ _ R A p=>by
  obtain ⟨W,s,a⟩:=R A p;refine i02 W s λi m l w=>(a i m l w).imp id λ⟨v,N,o,b⟩=>(i0i v N (λ_=>False) o (λ_ z=>z.elim) ?_)
  simpa using b) u c d
theorem B8z {tg c:Expr} (i:X.N.Nodup) (f:X.N[i₀]? =some x₀) (j:Loc X.env.scope x₀) (o:X.calm=true) (l:C6f X scope cl) (q:D0y X N' scope ix) (hi:PI X tg iter wi)
  (m:∀C a H₀ fp,PG (blk X N' scope cl C a H₀ fp) tg g) (n:∀C a H₀ fp,PT (blk X N' scope cl C a H₀ fp) c tc) (k:∀C a H₀ fp,PE (blk X N' scope cl C a H₀ fp) elt te) (p:∀x,foldedSetIterable iter X.env x=pure x:=by intro _;rfl)
  (d:swapsWith (.ListComp elt [⟨tg,iter,[c],0⟩] scope pos) (some (.Name x₀ pos₀)) spos.line X.env=pure true:=by rfl) (e:X.fn x₀=true\/X.env.scope.names.lookup x₀=some .local:=by first | exact .inl rfl | exact .inr rfl | assumption) :
  PS X (.Assign [.Name x₀ pos₀] (.ListComp elt [⟨tg,iter,[c],0⟩] scope pos) spos) (D8t (C8v ix wi g tc te) (A7u i₀)) :=
 C2w i f j o l q hi m (λC a H₀ fp b s Z H Q I h=>wpAny_tests_one (n C a H₀ fp b s Z H Q I h)) k _ (λ_ _ _ _ R=>R) p d e
end
def D8u (H:Hp) (u v:V):Prop:=(∃d,Rep H u d/\Rep H v d/\d.canLay0=true/\d.depth<=60)\/
 ∃a b c,u= .ref a/\v= .ref b/\Rd H a (.dK c)/\Rd H b (.dK c)/\∀p∈c,(∃i,p.2= .int i)\/∃z,p.2= .str z
section
variable {X:Cx}
theorem D2f (I:Inv X pins Z H s) (S:A.units+62<cLine) {u:V} {p q:Value} (h:D8u H u v) (e:A3c u p) (l:A3c v q) {Q:Bool->Shared->Prop} (f:Q true s) :
  wpAny (model X.prog X.w) A (eqBool p q) Q E s:=by
 rcases h with ⟨d,t,C,g,T⟩ | ⟨a,b,D,rfl,rfl,M,J,G⟩
 ·obtain ⟨F,B⟩:=A8k I t e;obtain ⟨y,o⟩:=A8k I C l
  have c:SeqAt.EqAt A s p q (PyData.eqv d d):=SeqAt.eqAt_reads d d A s p q F y B o g g (by
   have m:min d.depth d.depth<=d.depth:=Nat.min_le_left _ _
   lia)
  rw [SeqAt.eqv_refl d g] at c;exact c _ _ _ _ f
 ·cases e
  cases l
  by_cases hab:a=b
  ·subst hab;exact SeqAt.EqAt.same _ _ _ _ _ f
  ·obtain ⟨_,x,L,n,R⟩:=B4t I.hok M;obtain ⟨_,P,j,i,k⟩:=B4t I.hok J;have N:(j.map (·.1)).Nodup:=let ⟨_,_,_,_,_,_,_,_,hn⟩:=k;hn;have K:L.length=j.length:=n.length.symm.trans i.length;unfold eqBool;refine Z1w (wpAny_ite_split (λz=>absurd (by have:=eq_of_beq z;injection this) hab) λ_=> ?_);refine Z00 (PySem.W.keq_eq (knd:=A1x X.prog X.w) (r:=true) x P R k (by lia) (λ_=>D5v n G λp O=> ?_) ?_)
   ·obtain ⟨u,m,e⟩:=i.mem O;exact i02 u (B5o N m) e
   ·rw [K];simp only [beq_self_eq_true,Bool.and_self];exact wpAny_truthy_bool f
end
theorem B0i (h:X.K=K):A8h X (.type "list") (λxs H Q=>∃p ys,xs=[.ref p]/\(SqL K H p ys\/SqT K H p ys)/\∀l,H l=none->Q (.ref l) (upd H l (.lst ys))):=h▸A5b
section
variable {X:Cx}
theorem C4o (T:X.calm=true):A8h X (.type "list") (λvs H Q=>∃a kvs,vs=[V.ref a]/\H a=some (.dK kvs)/\∀l,H l=none->Q (.ref l) (upd H l (.lst (kvs.map λp=>kV p.1)))):=by
 intro n s Z H vs us Q I r h;obtain ⟨a,kvs,rfl,O,q⟩:=h;obtain ⟨u,rfl,P⟩:=B1d r;cases P;obtain ⟨m,K,M,d,o,C,ep,J,f,A,U⟩:=C6d I.hok O;have R:s.heap.DictAt (A1x X.prog X.w) a M ep:=(i0m o C J f A U);have t:=d.length;refine PySem.W.kdl_call (PySem.W.kdl_dict K) (I.ok.hd T) R (by rw [<-t];exact m) λF N e c L B b=> ?_
 have D:A3z (kvs.map λp=>kV p.1) e.toList:=B3m (by rw [Z08,t];exact b.1.symm) λi x y f z=>by
  rw [Z1z] at f;obtain ⟨⟨k,v⟩,g,rfl⟩:=Z0i.mp f;obtain ⟨E,Y,j,G⟩:=b.2 i y (by rw [<-Array.getElem?_toList];exact z);obtain ⟨u,S,_⟩:=d.at g;rw [S] at j;cases j;exact D6j G
 exact i0f (.ref s.heap.objs.size) _ (I.laid (t':=N) L (Z09 _) (show A2q X.prog X.w _ F _ (.lst _) from (i0b (by rw [Z08];exact m) e.toList c D (by simpa using B)))) rfl (q _ (I.hok.fresh (Z09 _)))
end
def E0o (K:Frag):List V->Hp->VK->Prop:=λh H Q=>∃a C g f c d b,h=[.ref a,.ref c]/\H a=some (.ins C g f)/\Cls K C/\findIn K (.ref C) "__class__"=some (some (.builtin "object.__class__"))/\
 specialIn K (.builtin "object.__class__") "__get__"=some (some (.builtin "getset_descriptor.__get__"))/\takesIn K (.builtin "object.__class__")=some true/\mroIn K C (.type "object")=some true/\
 H c=some (.tup d)/\(∀e,A3z d e->kitAny K (.ref C) e=some b)/\Q (.bl b) H
theorem B5n:A8h X (.builtin "isinstance") (E0o X.K):=by
 intro j s Z H P E Q I r h;refine e08 h ?_;clear h;rintro a C R N l ⟨t,b,rfl,G,i,F,A,d,v,L,k,q⟩;obtain ⟨u,S,rfl,M,f⟩:=C9f r;cases M;cases f;obtain ⟨_,e,p,B,c,m,n,g⟩:=(show A2q X.prog X.w H s.heap l (.tup t) from I.hok l _ L);obtain ⟨U,T,y,x⟩:=B;dsimp only at m g;subst m g;obtain ⟨Y,O,_⟩:=B3v I.hok G;obtain ⟨o,J,_⟩:=O.look;exact PySem.W.kia_tup (PySem.W.kitx_own (i.get _) i.hd F A d v) I.kIn J c (k e p) (λz=>nomatch z) λD=>(i0f (.bl b) H (I.tok D) rfl q)
abbrev B4f (h:Heap) (z TI TO:Addr) (a:Value) (b:Bool):Prop :=
 h.get? z=some { cls:= .type "zip",dict:=none,data:= .fields #[a,.bool b,.bool false,.ref TI,.ref TO],slots:= #[] }
section
variable {prog:Program} {w:World} {A:Around} {E:Value->Shared->Prop} {s:Shared}
theorem C1e {Q:Option Obj->Shared->Prop} (h:Q (s.heap.get? a) s):wpAny (model prog w) A (loadIfAlive a) Q E s:=λΓ p _=>by
 show PySem.Sem.wp _ Γ (.loadIfAlive a .pure) _ _ p s;rw [PySem.Sem.wp];exact h
theorem B3a {z TI TO:Addr} {Q:Bool->Shared->Prop} (a:B4f s.heap z TI TO (rawInt (p:Int)) b) (e:s.heap.get? p=some o)
  (q:∀h',B4f h' z TI TO (rawInt (p:Int)) true->Heap.SameBut z s.heap h'->Q false { s with heap:=h' }):wpAny (model prog w) A (Builtin.SmallTypes.ownedTupleIsFree (.ref z)) Q E s:=by
 unfold Builtin.SmallTypes.ownedTupleIsFree;refine Z00 (Z11 a rfl (x:=rawInt (p:Int)) rfl ?_);show wpAny _ _ (loadIfAlive (Int.toNat (p:Int)) >>= _) _ _ _;refine Z00 (C1e ?_);rw [Int.toNat_natCast,e];show wpAny _ _ (field (.ref z) 1 >>= _) _ _ _;refine Z00 (Z11 a rfl (x:= .bool b) rfl ?_)
 cases b with
 | true =>
  show wpAny _ _ (pure false) _ _ _;exact Z04 (q s.heap a ⟨rfl,λ_ _=>rfl⟩)
 | false =>
  show wpAny _ _ (setField (.ref z) 1 (.bool true) >>= _) _ _ _;refine Z00 (Z1h a (by simp) λd c f=> ?_);exact Z04 (q d c f)
end
section
variable {z TI TO i1 i2 l1 l2:Addr} {st1 st2:Nat->Heap->Prop} {src1 src2:Array Value->Heap->Prop} {prog:Program} {w:World} {A:Around} {E:Value->Shared->Prop} {s:Shared}
theorem D1x (N1:Nx i1 l1 st1 src1) (N2:Nx i2 l2 st2 src2) {x:Value} (D:ZipApart z TI TO i1 i2 l1 l2)
  (f:B4f s.heap z TI TO (rawInt (p:Int)) b) (J:s.heap.get? p=some o) (i:IsPair s.heap TI (.ref i1) (.ref i2)) (h1:st1 k1 s.heap) (h2:st2 k2 s.heap) (n:src1 xs s.heap) (j:src2 ys s.heap) (t:xs[k1]? =some x) (v:ys[k2]? =some y)
  (K:∀h',B4f h' z TI TO (rawInt (p:Int)) true->st1 (k1+1) h'->st2 (k2+1) h'->IsPair h' s.heap.objs.size x y->
   (∀c o,c≠z->c≠i1->c≠i2->s.heap.get? c=some o->h'.get? c=some o)->Q (some (.ref s.heap.objs.size)) { s with heap:=h' }):wpAny (model prog w) A (pyNext (.ref z)) Q E s:=by
 have q:s.TypeIs (.ref z) "zip":=(i02 _ f rfl);unfold pyNext;refine Z00 (wpAny_attempt (Z1b (name:=Str.ofString "__next__") q F.slot_zip_next (Z1g F.slot_zip_next q F.entry_zip_next ?_ (F.args_zip_next_1 _))));show wpAny _ _ (field (.ref z) 2 >>= _) _ _ _;refine Z00 (Z11 f rfl (x:= .bool false) rfl ?_);show wpAny _ _ (field (.ref z) 3 >>= _) _ _ _;refine Z00 (Z11 f rfl (x:= .ref TI) rfl ?_);refine Z00 (Z21 i rfl ?_);show wpAny _ _ (Builtin.SmallTypes.ownedTupleIsFree (.ref z) >>= _) _ _ _;refine Z00 (B3a f J λM L d=> ?_);simp only [Bool.false_eq_true,if_false];refine Z00 ?_;simp only [<-Array.forIn_toList,List.forIn_cons,List.forIn_nil];refine Z00 (Z00 (Z1w ?_));show wpAny _ _ (Builtin.SmallTypes.nextOf (.ref i1) >>= _) _ _ _;refine Z00 (N1.item (N1.mv h1 λo e=>d.extBut _ _ D.i1z e) (N1.mvS n λo e=>d.extBut _ _ D.l1z e) t λN H g=>Z04 (Z04 ?_));refine Z00 (Z00 (Z1w ?_));show wpAny _ _ (Builtin.SmallTypes.nextOf (.ref i2) >>= _) _ _ _;refine Z00 (N2.item (N2.mv h2 λo e=>g.extBut _ _ D.i12.symm (d.extBut _ _ D.i2z e)) (N2.mvS j λo e=>g.extBut _ _ D.l2i1 (d.extBut _ _ D.l2z e)) v λg3 C h=>Z04 (Z04 (Z04 ?_)));have a:g3.objs.size=s.heap.objs.size:=by rw [h.1,g.1,d.1]
 have G:z<g3.objs.size:=by rw [a];exact Z0a f
 show wpAny _ _ (newTuple [x,y] >>= _) _ _ _;refine Z00 (wpAny_newTuple ?_);have B:B4f g3 z TI TO (rawInt (p:Int)) true:=h.extBut _ _ D.i2z.symm (g.extBut _ _ D.i1z.symm L);have I:∀c o,c≠z->c≠i1->c≠i2->s.heap.get? c=some o->g3.get? c=some o:=λc o l m k e=>h.extBut _ _ k (g.extBut _ _ m (d.extBut _ _ l e));have u:st1 (k1+1) g3:=N1.mv H λo e=>h.extBut _ _ D.i12 e;have r:IsPair (g3.push { cls:= .type "tuple",data:= .seq #[x,y] }) g3.objs.size x y:=Z0c _ rfl;rw [a] at r;refine Z04 (i02 _ rfl (Z04 ?_));show Q (some (.ref g3.objs.size)) _;rw [a];exact K _ (Z01 _ B) (N1.mv u λo e=>Z01 _ e) (N2.mv C λo e=>Z01 _ e) r λc o l m k e=>Z01 _ (I c o l m k e)
theorem D6o (N1:Nx i1 l1 st1 src1) (N2:Nx i2 l2 st2 src2) (q:A.handled=none) (D:ZipApart z TI TO i1 i2 l1 l2)
  (g:B4f s.heap z TI TO (rawInt (p:Int)) b) (K:s.heap.get? p=some o) (l:IsPair s.heap TI (.ref i1) (.ref i2)) (h1:st1 k1 s.heap) (h2:st2 k2 s.heap) (m:src1 xs s.heap) (i:src2 ys s.heap) (f:xs[k1]? =none\/ys[k2]? =none)
  (H:∀h',(∀c o,c≠z->c≠i1->c≠i2->s.heap.get? c=some o->h'.get? c=some o)->Q none { s with heap:=h' }):wpAny (model prog w) A (pyNext (.ref z)) Q E s:=by
 have u:s.TypeIs (.ref z) "zip":=(i02 _ g rfl);unfold pyNext
 have fin:∀(h':Heap) (e:Addr),(∀c o,c≠z->c≠i1->c≠i2->s.heap.get? c=some o->h'.get? c=some o)->(∃o,h'.get? e=some o/\o.cls= .type "StopIteration")->
   wpAny (model prog w) A (isInstance (.ref e) (.type "StopIteration") >>= λb=>if b=true then pure none else throw (.ref e)) Q E { s with heap:=h' }:=λh' e C ⟨o,I,L⟩ =>
  Z00 (wpAny_isInstance (T:="StopIteration") (b:=true) (i02 o I L) isSubtype_stop (Z04 (H _ C)))
 refine Z00 (wpAny_attempt (Z1b (name:=Str.ofString "__next__") u F.slot_zip_next (Z1g F.slot_zip_next u F.entry_zip_next ?_ (F.args_zip_next_1 _))));show wpAny _ _ (field (.ref z) 2 >>= _) _ _ _;refine Z00 (Z11 g rfl (x:= .bool false) rfl ?_);show wpAny _ _ (field (.ref z) 3 >>= _) _ _ _;refine Z00 (Z11 g rfl (x:= .ref TI) rfl ?_);refine Z00 (Z21 l rfl ?_);show wpAny _ _ (Builtin.SmallTypes.ownedTupleIsFree (.ref z) >>= _) _ _ _;refine Z00 (B3a g K λO N a=> ?_);simp only [Bool.false_eq_true,if_false];refine Z00 ?_;simp only [<-Array.forIn_toList,List.forIn_cons,List.forIn_nil];refine Z00 (Z00 (Z1w ?_));show wpAny _ _ (Builtin.SmallTypes.nextOf (.ref i1) >>= _) _ _ _;have v:=N1.mv h1 λo e=>a.extBut _ _ D.i1z e;have r:=N1.mvS m λo e=>a.extBut _ _ D.l1z e
 cases hx:xs[k1]? with
 | none =>
  refine Z00 (N1.fin q v r hx λt e d k=> ?_);exact fin t e (λc o j n _ x=>d _ _ n (a.extBut _ _ j x)) k
 | some x =>
  have y:ys[k2]? =none:=by
   rcases f with h | h
   ·rw [hx] at h;cases h
   ·exact h
  refine Z00 (N1.item v r hx λt M d=>Z04 (Z04 ?_));refine Z00 (Z00 (Z1w ?_));show wpAny _ _ (Builtin.SmallTypes.nextOf (.ref i2) >>= _) _ _ _;refine Z00 (N2.fin q (N2.mv h2 λo e=>d.extBut _ _ D.i12.symm (a.extBut _ _ D.i2z e)) (N2.mvS i λo e=>d.extBut _ _ D.l2i1 (a.extBut _ _ D.l2z e)) y λJ e G k=> ?_);exact fin J e (λc o j n B x=>G _ _ B (d.extBut _ _ n (a.extBut _ _ j x))) k
end
def ZS (z TI TO i1 i2 a b d:Addr) (i:Nat) (h:Heap):Prop:=IsPair h TI (.ref i1) (.ref i2)/\h.IsListIter i1 a i/\h.IsTupleIter i2 b i/\
 ((IsZip h z TI TO .none/\∃u v,IsPair h TO u v)\/∃(p:Addr) (o:Obj) (c:Bool),B4f h z TI TO (rawInt (p:Int)) c/\h.get? p=some o/\p≠z/\p≠i1/\p≠i2/\p≠d)
theorem ZS.at {z TI TO i1 i2 b:Addr} (x:ZS z TI TO i1 i2 a b d i h) (l:z≠d) (r:TI≠d) (q:TO≠d) (A:i1≠d) (w:i2≠d) (f:∀c o,c≠d->h.get? c=some o->h'.get? c=some o):ZS z TI TO i1 i2 a b d i h':=by
 obtain ⟨n,y,C,g⟩:=x;refine i04 (f _ _ r n) ((A8p i1 a).mv y λo e=>f _ _ A e) ((A6f i2 b).mv C λo e=>f _ _ w e) ?_;rcases g with ⟨g,u,v,j⟩ | ⟨p,o,m,g,j,s,t,B,k⟩
 ·exact .inl ⟨f _ _ l g,(i03 u v (f _ _ q j))⟩
 ·exact .inr ⟨p,(i0t o m (f _ _ l g) (f _ _ k j) s t B k)⟩
section
variable {z TI TO i1 i2 a b d:Addr} {prog:Program} {w:World} {A:Around} {E:Value->Shared->Prop} {s:Shared}
theorem D6b {x:Value} (D:ZipApart z TI TO i1 i2 a b) (M:d<s.heap.objs.size) (O:ZS z TI TO i1 i2 a b d i s.heap) (B:s.heap.IsList a xs) (J:s.heap.IsTuple b ys) (H:xs[i]? =some x) (t:ys[i]? =some y)
  (C:∀h',ZS z TI TO i1 i2 a b d (i+1) h'->IsPair h' s.heap.objs.size x y->(∀c o,c≠z->c≠TO->c≠i1->c≠i2->s.heap.get? c=some o->h'.get? c=some o)->Q (some (.ref s.heap.objs.size)) { s with heap:=h' }) :
  wpAny (model prog w) A (pyNext (.ref z)) Q E s:=by
 obtain ⟨h,n,q,g⟩:=O;have T:i1<s.heap.objs.size:=let ⟨_,e,_⟩:=(A8p i1 a).ob n;Z0a e;have R:i2<s.heap.objs.size:=let ⟨_,e,_⟩:=(A6f i2 b).ob q;Z0a e;rcases g with ⟨g,u,v,j⟩ | ⟨p,o,U,g,j,I,F,G,K⟩
 ·have P:z<s.heap.objs.size:=Z0a g;refine D2e (A8p i1 a) (A6f i2 b) D g h j n q B J H t λh' m W l r k f=> ?_;exact C h' (i04 (f _ _ D.TIz D.TITO D.TIi1 D.TIi2 h) l r (.inr ⟨s.heap.objs.size,(i0t _ false m k (Z1q P) (Z1q T) (Z1q R) (Z1q M))⟩)) k f
 ·refine D1x (A8p i1 a) (A6f i2 b) D g j h n q B J H t λh' m l r k f=> ?_;exact C h' (i04 (f _ _ D.TIz D.TIi1 D.TIi2 h) l r (.inr ⟨p,(i0t o true m (f _ _ I F G j) I F G K)⟩)) k λc o N _ S L e=>f c o N S L e
theorem E1m (j:A.handled=none) (D:ZipApart z TI TO i1 i2 a b) (y:ZS z TI TO i1 i2 a b d i s.heap) (l:s.heap.IsList a xs) (m:s.heap.IsTuple b ys) (h:xs[i]? =none\/ys[i]? =none)
  (n:∀h',(∀c o,c≠z->c≠TO->c≠i1->c≠i2->s.heap.get? c=some o->h'.get? c=some o)->Q none { s with heap:=h' }):wpAny (model prog w) A (pyNext (.ref z)) Q E s:=by
 obtain ⟨k,q,r,f⟩:=y;rcases f with ⟨f,u,v,g⟩ | ⟨p,o,G,f,g,H,I,J,F⟩
 ·exact D4z (A8p i1 a) (A6f i2 b) j D f k g q r l m h n
 ·exact D6o (A8p i1 a) (A6f i2 b) j D f g k q r l m h λh' C=>n h' λc o x _ B t e=>C c o x B t e
end
section
variable {prog:Program} {w:World} {K:Type} [DecidableEq K] {knd:KeyKind prog w K} {A:Around} {R:Result->Shared->Prop} {z TI TO i1 i2 a b d:Addr} {xs ys:Array Value} {rs:List (K×Value)} {h₀:Heap} {g:Array GenState} {dr:Drawn} {os:OsState}
theorem D0m (hh:A.handled=none) (D:ZipApart z TI TO i1 i2 a b) (S:z≠d) (n1:TI≠d) (U:TO≠d) (P:i1≠d) (T:i2≠d) (na:a≠d) (nb:b≠d) (hsz:rs.length<=sizeLine)
  (pa:∀(i:Nat) (k:K) (u:Value),rs[i]? =some (k,u)->∃n,xs[i]? =some n/\ys[i]? =some u/\knd.is k n=true) (he:xs[rs.length]? =none\/ys[rs.length]? =none) (X:h₀.IsList a xs) (ht:h₀.IsTuple b ys) (v:a≠TO) (Y:a≠i1) (a2:a≠i2) (Z:a≠z) (t:b≠TO) (W:b≠i1) (E:b≠i2) (bz:b≠z)
  (fin:∀h' tk,h'.DictOf knd d (merged [] rs)->(∀c o,c≠z->c≠TO->c≠i1->c≠i2->c≠d->h₀.get? c=some o->h'.get? c=some o)->R (.ok (.ret .none)) ⟨h',g,dr,tk,os⟩) :
  ∀(k i:Nat) (h:Heap) (tk:Nat),rs.length-i=k->i<=rs.length->ZS z TI TO i1 i2 a b d i h->(∀c o,c≠z->c≠TO->c≠i1->c≠i2->c≠d->h₀.get? c=some o->h.get? c=some o)->h.DictOf knd d (merged [] (rs.take i))->
   codeAny (model prog w) A (.builtin "dict.update.loop" ⟨[.ref d,.ref z,rawInt i,.none],[]⟩) R ⟨h,g,dr,tk,os⟩:=by
 intro k
 induction k with
 | zero =>
  intro i h tk hk hi l m q;have j:i=rs.length:=by lia
  refine codeAny_builtin A4v ?_;rw [Around.under_plainId A2n _];show wpAny _ A.in1 (pyNext (.ref z) >>= _) _ _ _;refine Z00 (E1m (s:=⟨h,g,dr,tk,os⟩) (by simpa using hh) D l (X.at λo e=>m a o Z v Y a2 na e) (let ⟨o,e,r⟩:=ht;(i02 o (m b o bz t W E nb e) r)) (by rw [j];exact he) λh' f=> ?_);show wpAny _ A.in1 (Builtin.Dict.addKeywords d [] >>= λ_=>ret Value.none) _ _ _;rw [j,Z18] at q;obtain ⟨C,N,L,O,r⟩:=q;exact Z00 (Z04 (Z04 (fin h' tk (i0g C N L (f d C S.symm U.symm P.symm T.symm O) r) λc o y B H x J e=>f c o y B H x (m c o y B H x J e))))
 | succ k ih =>
  intro i h tk hk hi l m q;have a0:i<rs.length:=by lia
  obtain ⟨⟨k',u⟩,hku⟩:∃p,rs[i]? =some p:=⟨rs[i],Z0b _⟩;obtain ⟨n,hx,hy,M⟩:=pa i k' u hku;refine codeAny_builtin A4v ?_;rw [Around.under_plainId A2n _];show wpAny _ A.in1 (pyNext (.ref z) >>= _) _ _ _;have ld:d<h.objs.size:=let ⟨_,_,_,e,_⟩:=q;Z0a e;refine Z00 (D6b (s:=⟨h,g,dr,tk,os⟩) D ld l (X.at λo e=>m a o Z v Y a2 na e) (let ⟨o,e,r⟩:=ht;(i02 o (m b o bz t W E nb e) r)) hx hy λh' zs I f=> ?_);have I:IsPair h' h.objs.size n u:=I;have hT:(⟨h',g,dr,tk,os⟩:Shared).TypeIs (.ref h.objs.size) "tuple":=(i02 _ I rfl);show wpAny _ A.in1 (holding [Value.ref h.objs.size] _ >>= _) _ _ _;refine Z00 (Z1w (Z00 (wpAny_tryCatch ?_)));unfold Builtin.Dict.pairItems;refine Z00 (wpAny_typeOf hT ?_);rw [Z12 (by decide)];refine Z00 (Z21 I rfl (Z04 ?_));show wpAny _ A.in1 (holding [n,u] (dictSet d n u)) _ _ _
  have Q:h'.DictOf knd d (merged [] (rs.take i)):=by
   obtain ⟨C,N,L,O,r⟩:=q;exact i0g C N L (f d C S.symm U.symm P.symm T.symm O) r
  have G:(merged [] (rs.take i)).length<=sizeLine:=by
   have e1:=merged_length_le ([]:List (K×Value)) (rs.take i);have e2:(rs.take i).length<=rs.length:=by rw [Z0x];lia
   simp only [Z2g,Nat.zero_add] at e1
   lia
  refine Z1w (wpAny_dictSet_pairs (hsz:=G) (s:=⟨h',g,dr,tk,os⟩) M Q λh2 F sb=> ?_);rw [<-merged_take_succ [] rs i (k',u) hku] at F;refine Z04 ⟨plainId_quiet A2n _,ih (i+1) h2 _ (by lia) (by lia) (zs.at S n1 U P T λc o hc e=>(sb.2 c hc).trans e) ?_ F⟩;intro c oc y B H x J e;exact (sb.2 c J).trans (f c oc y B H x (m c oc y B H x J e))
end
theorem A9v:typeLookup (.type "zip") "__getattr__"=pure none:=by rw [typeLookup_type,builtinLookup_eq_fast];kernel_rfl
theorem A6m:entryFor table "zip.__getattribute__"=some Builtin.«object.__getattribute__» :=
 entryFor_alias (id':="object.__getattribute__") (by kernel_rfl) (by decide +kernel) (by decide +kernel) (by kernel_rfl)
theorem C4q:typeLookup (.type "zip") "keys"=pure none:=by rw [typeLookup_type,builtinLookup_eq_fast];kernel_rfl
theorem B5h (a:Addr) (fs:Array Value) (sl:Array (Option Value)) (name:Str) (u:Tok) (e:typeLookup (.type "zip") name=pure none) (b:(["__module__","__name__","__qualname__","__doc__","__annotations__"]:List Str).contains name=false) (hsz:name.length+100<=sizeLine:=by size_fits) :
  Meets (Builtin.«object.__getattribute__» ⟨[.ref a,.str name u],[]⟩) (λA R s=>s.heap.get? a=some { cls:= .type "zip",dict:=none,data:= .fields fs,slots:=sl }/\raisesAttr (.ref a) name A R s) :=
 Meets.of_wp λf w A R s c=>by
  obtain ⟨j,g,d,h,k⟩:=s;obtain ⟨i,c⟩:=c;have l:(⟨j,g,d,h,k⟩:Shared).TypeIs (.ref a) "zip":=(i02 _ i rfl);unfold Builtin.«object.__getattribute__»
  repeat (any_goals (first | assumption | wp_step))
  simp only [b,Bool.false_eq_true,if_false]
  repeat (any_goals (first | assumption | wp_step))
  exact wpAny_raiseAttrError c.1 c.2 (attrMsg_fits (by decide +kernel) hsz)
theorem C5h {fs:Array Value}
  (i:s.heap.get? a=some { cls:= .type "zip",dict:=none,data:= .fields fs,slots:=sl }) (m:A.handled=none)
  (h:∀h' tk,(∀b k,s.heap.get? b=some k->h'.get? b=some k)->Q none { s with heap:=h',toks:=tk }):wpAny (model prog w) A (getAttr? (.ref a) "keys") Q E s:=by
 obtain ⟨l,g,d,tk,n⟩:=s;have j:∀c,(⟨l,g,d,c,n⟩:Shared).TypeIs (.ref a) "zip":=λ_=>(i02 _ i rfl);have r:=sub_AttributeError;have u:=F.slot_zip_getattribute.lookup;have q:=F.slot_zip_getattribute.bind (.ref a);have t:=A9v;unfold getAttr? getAttrBy? getAttrBy
 repeat (any_goals (first | assumption | exact j _ | ((with_reducible show wpAny _ _ (call (Value.builtin "zip.__getattribute__") _ _) _ _ _);refine call_meets F.slot_zip_getattribute (j _) A6m (F.args_zip_getattribute_2 _ _) (B5h a fs sl "keys" _ C4q (by decide) (by decide)) (i00 i m λh' c e f=> ?_)) | wp_step))
 obtain ⟨v,o,p⟩:=f.there;show wpAny _ _ (getattributeRaised _ _ _ _ _ _ _) _ _ _;unfold getattributeRaised
 repeat (any_goals (first | assumption | wp_step))
 all_goals exact h _ _ f.1
def tDZ (K:Frag) (ta:TA):TE:=λZ H Q=>ta Z H λd a=>∃l t b c,d=[.ref l,.ref t]/\SqL K a l ((b:List Key).map kV)/\SqT K a t c/\b.length=c.length/\∀p,a p=none->Q (.ref p) (upd a p (.dK (A4g [] (b.zip c))))
theorem D4l:∀{ks:List Key} {us:List V} {vs:List Value},ks.length=us.length->A3z us vs->KV (ks.zip us) (ks.zip vs)
 | [],[],_,_,.nil=> .nil
 | k::ks,u::us,_,h,.cons r t=> .cons ⟨rfl,r⟩ (D4l (by simpa using h) t)
theorem C3o {P:Program} {w:World}:∀{ks:List Key} {its:List Value},A3z (ks.map kV) its->∀{i:Nat} {k:Key},ks[i]? =some k->∃v,its[i]? =some v/\(A1x P w).is k v=true
 | [],_,.nil,i,k,h=>by simp at h
 | _::_,_,.cons r t,0,k,h=>by simp at h;subst h;exact i02 _ rfl (C2d r)
 | _::_,_,.cons r t,i+1,k,h=>by
  obtain ⟨v,b,a⟩:=C3o (P:=P) (w:=w) t (i:=i) (k:=k) (by simpa using h);exact i02 v (by simpa using b) a
section
variable {X:Cx}
theorem C5a {a b:Expr} {ta:TA} {p1 p2 t l:Pos} (hc:X.calm=true) (a2:Gl X "dict") (a5:X.mg "dict"=none) (a7:Gl X "zip") (b1:X.mg "zip"=none) (ha:PA X [a,b] ta)
  (N:starEach [.Call (.Name "zip" p2) [a,b] [] l] X.env=(false,eval (.Call (.Name "zip" p2) [a,b] [] l) X.env)::starEach [] X.env:=by rfl)
  (hs:starEach [a,b] X.env=[(false,eval a X.env),(false,eval b X.env)]:=by rfl) (O:starEach [b] X.env=[(false,eval b X.env)]:=by rfl) :
  PE X (.Call (.Name "dict" p1) [.Call (.Name "zip" p2) [a,b] [] l] [] t) (tDZ X.K ta):=by
 intro T s Z H Q I h;have hh:X.A.handled=none:=I.ok.hd hc;refine wpAny_Call_Name_kw (B1u I a2 a5 boot_dict ?_);refine PyProof.Rows.callWith_type1 ?_ N (by rfl);rw [N];show wpAny _ _ (spliced ((false,eval _ X.env)::backTo t (starEach [] X.env))) _ _ s;refine Calls.spliced_cons ?_;refine Call_ (B1u I a7 b1 boot_zip (PyProof.Rows.callWith_type1 (thn (ha l T s Z H _ I h) ?_) (by rw [hs,O]) (by rw [O];rfl)));rintro us d ⟨vs,H1,I1,r1,y⟩;obtain ⟨l1,l2,p,ws,e,a0,a8,a3,q⟩:=y;subst e;obtain ⟨u,u2,rfl,ru,a4⟩:=C9f r1;cases ru;cases a4;obtain ⟨E,rv,B,zk⟩:=I1.list a0;obtain ⟨j,R,C,_⟩:=I1.tuple a8;have L:l1<d.heap.objs.size:=let ⟨_,e,_⟩:=B.isList;Z0a e;have J:l2<d.heap.objs.size:=C.lt;have e1:=rv.length;have e2:=R.length;rw [Z08] at e1;have hn:=I1.hok.fresh (Z09 d.heap.objs.size);refine C1q B.isList (show d.heap.IsTuple l2 j.toArray from C) λf zs kp=>Calls.spliced_nil ?_;obtain ⟨Y,b0,⟨tu,tv,b5⟩,a6,a9⟩:=zs;have D:=zipApart_new L J;have lz:d.heap.objs.size+4<f.objs.size:=Z0a Y;refine callType_codes (Q₁:=λM s₁=>M= .ref f.objs.size/\s₁={ d with heap:=f.push { cls:= .type "dict",data:= .dict #[] } }) F.kt_called_dict (F.kt_typeCall_dict_1 _) F.entry_dict_init (kt_code_dict_new (s:={ d with heap:=f }) _ ⟨rfl,rfl⟩) ?_;rintro M s₁ ⟨rfl,rfl⟩;have n:(f.push { cls:= .type "dict",data:= .dict #[] }).DictOf (A1x X.prog X.w) f.objs.size []:=Heap.DictOf.new f;have W:(f.push { cls:= .type "dict",data:= .dict #[] }).get? (d.heap.objs.size+4)=some _:=Z01 _ Y;have b2:Shared.TypeIs { d with heap:=f.push { cls:= .type "dict",data:= .dict #[] } } (.ref (d.heap.objs.size+4)) "zip":=(i02 _ W rfl);refine i00 n.typeIs (F.args_dict_init_2 _ _) ?_;unfold Builtin.«dict.__init__»;refine Z00 ?_;unfold Builtin.Dict.selfAndRest;refine Z00 (wpAny_notOrdered_dict n.typeIs ?_);show wpAny _ _ (pure (f.objs.size,[Value.ref (d.heap.objs.size+4)])) _ _ _;refine Z04 ?_;show wpAny _ _ (Builtin.Dict.updateFrom "dict.__init__" f.objs.size (.ref (d.heap.objs.size+4)) [] .none) _ _ _;unfold Builtin.Dict.updateFrom;refine Z00 (wpAny_typeOf b2 ?_);rw [Z12 (by decide)];refine Z00 (C5h W (by simpa using hh) λU a1 G=> ?_)
 rw [Z12 (show (none:Option Value).isNone=true from rfl)];refine Z00 (wpAny_rule ?_);refine Z00 (wpAny_pyIter_zip (s:={ d with heap:=U,toks:=a1 }) (G _ _ W) ?_);have v:∀c o,f.get? c=some o->U.get? c=some o:=λc o e=>G _ _ (Z01 _ e)
 have lr:(p.zip j).length=p.length:=by rw [List.length_zip];lia
 have y:∀i:Nat,i<=4->d.heap.objs.size+i≠f.objs.size:=λi hi z=>by lia
 have q2:∀c:Nat,c<d.heap.objs.size->c≠f.objs.size:=λc hc z=>by lia
 have m:∀c i:Nat,c<d.heap.objs.size->c≠d.heap.objs.size+i:=λc i hc z=>by lia
 have x:d.heap.objs.size<=f.objs.size:=by lia
 have z1:p.length<=sizeLine:=by rw [Z08] at zk;exact zk
 refine Z04 ⟨plainId_quiet A2n _,D0m (knd:=A1x X.prog X.w) (rs:=p.zip j) (xs:=E.toArray) (ys:=j.toArray) (h₀:=U) (by simpa using hh) D (y 4 (by decide)) (y 2 (by decide)) (y 3 (by decide)) (y 0 (by decide)) (y 1 (by decide)) (q2 _ L) (q2 _ J) (by rw [lr];exact z1) (λi k u hr=> ?_) ?_ (B.isList.at λo e=>v _ _ (kp _ _ e)) (let ⟨o,e,r⟩:=C;(i02 o (v _ _ (kp _ _ e)) r)) (m _ 3 L) (m _ 0 L) (m _ 1 L) (m _ 4 L) (m _ 3 J) (m _ 0 J) (m _ 1 J) (m _ 4 J) (λh2 tk dd b3=> ?_) (p.zip j).length 0 U _ (by lia) (Z1e _) (i04 (v _ _ b0) ((A8p _ l1).mv a6 λo e=>v _ _ e) ((A6f _ l2).mv a9 λo e=>v _ _ e) (.inl ⟨v _ _ Y,(i03 tu tv (v _ _ b5))⟩)) (λ_ _ _ _ _ _ _ z=>z) ?_⟩
 ·obtain ⟨g1,g2⟩:=Z2m.mp hr;obtain ⟨kv,g3,g4⟩:=C3o (P:=X.prog) (w:=X.w) rv g1;exact i06 kv (by simpa using g3) (by simpa using g2) g4
 ·left;rw [lr];simp
  lia
 ·have kv:=D4l a3 R;refine i0i rfl (.ref f.objs.size) _ (I1.laid (t':=tk) (o:= .dK (A4g [] (p.zip ws))) (λb u eb=> ?_) x (i0a ?_ ?_ _ (KV.merge kv .nil) dd)) rfl (q _ (I1.hok.fresh x))
  ·have S:=Z0a eb;exact b3 b u (m _ 4 S) (m _ 3 S) (m _ 0 S) (m _ 1 S) (q2 _ S) (v _ _ (kp _ _ eb))
  ·have:=A7m (p.zip ws) [];have lw:(p.zip ws).length=p.length:=by rw [List.length_zip];lia
   simp only [Z2g] at this
   lia
  ·have:=I1.big;have b4:f.objs.size≠sysModules:=Z1q (Z0q this x)
   simpa using b4
 ·obtain ⟨od,es,ep,g,r⟩:=n;exact i0g od es ep (G _ _ g) r
def E1c (K:Frag):R2:=λx y H Q=>∃a b c d,x= .ref a/\y= .ref b/\SqT K H a c/\SqT K H b d/\c.length+d.length<=sizeLine/\
 (c=[]->Q (.ref b) H)/\(c≠[]->d=[]->Q (.ref a) H)/\(c≠[]->d≠[]->∀p,H p=none->Q (.ref p) (upd H p (.tup (c++d))))
theorem D2n:OpR X (binaryOp .Add) (E1c X.K):=by
 intro g s Z H x y v u Q I r p h;obtain ⟨a,b,m,D,rfl,rfl,B,A,N,R,L,O⟩:=h;by_cases hx:m=[]
 ·subst hx;cases r;cases p;obtain ⟨f,S,M,_⟩:=I.tuple B;obtain ⟨i,Y,P,_⟩:=I.tuple A;have J:f=[]:=S.nil_iff.mpr rfl;obtain ⟨⟨T,U,q,G⟩,w,C,n,o⟩:=id M;obtain ⟨⟨t,k,l,j⟩,d,c,W,e⟩:=id P;simp only at C o c e;subst C o c e
  exact concat_meets (i02 _ w rfl) (i02 _ d rfl) noFill_tuple_add seq_tuple_add PySem.F.slot_tuple_add PySem.F.entry_tuple_add (PySem.F.args_tuple_add_2 _ _)
   (tuple_addW0 a b f.toArray i.toArray n W U k G j (by simp [J])) ⟨w,(i0i d (.ref b) H I rfl (R rfl))⟩
 ·exact D7z g s Z H _ _ v u Q I r p (i0y a b m D rfl rfl B A (i04 hx N (λz=>L hx z) λz=>O hx z))
def E0d:R2:=λx y H Q=>∃a b c d,x= .ref a/\y= .ref b/\H a=some (.tup c)/\H b=some (.tup d)/\c.length+d.length<=sizeLine/\∀q e,A0u H e->e q=some (.tup (c++d))->Q (.ref q) e
theorem B7c:OpR X (binaryOp .Add) E0d:=λc s Z H x y v u Q I k j h=>by
 obtain ⟨a,b,f,g,i,n,e,d,l,q⟩:=h;refine D2n c s Z H x y v u Q I k j (i0y a b f g i n (SqT.of e) (SqT.of d) (i04 l (λz=> ?_) (λ_ z=> ?_) λ_ _ p m=> ?_))
 ·subst z;exact q b H (A0u.refl _) d
 ·subst z;exact q a H (A0u.refl _) (by rw [Z0u];exact e)
 ·exact q p _ (A0e m) A0b
end
section
variable {prog:Program} {w:World} {A:Around} {E:Value->Shared->Prop} {s:Shared}
end
section
variable {X:Cx}
end
section
variable {prog:Program} {w:World} {A:Around} {E:Value->Shared->Prop} {s:Shared} {d:Addr} {od:Obj} {es:Array DictEntry} {ep:Nat}
theorem B7x {Q:Value->Shared->Prop} (f:(d == sysModules)=false) (a:s.heap.get? d=some od) (c:s.TypeIs (.ref d) "dict") (b:od.data= .dict es ep) (e:(es.size:Int)<2^63)
  (h:Q (.int es.size (s.toks+1)) { s with toks:=s.toks+1+1 }):wpAny (model prog w) A (call (.builtin "len") [.ref d]) Q E s:=by
 refine Calls.call_function_entry kind_len plain_len entry_len (args_len1 _) ?_;unfold Builtin.«len»;refine Z00 (m:=oneArg "len" _) (Z04 (Z00 (m:=callSpecial? (.ref d) (Str.ofString "__len__")) (Z1b (name:=Str.ofString "__len__") c F.slot_dict_len (Z1g F.slot_dict_len c F.entry_dict_len ?_ (F.args_dict_len_1 _)))));show wpAny _ _ (dictSize d >>= _) _ _ s;unfold dictSize;refine Z00 (Z00 (wpAny_dictEntries a b (Z04 (show wpAny _ _ (Builtin.Dict.pendingCount d >>= _) _ _ s from Z00 (wpAny_pendingCount_other f (wpAny_ret_mkInt ?_))))));rw [Nat.add_zero];show wpAny _ _ _ _ _ { s with toks:=s.toks+1 };refine Z00 (Z1w (Z04 (Z00 (wpAny_letGo (show wpAny _ _ (if ((es.size:Nat):Int)<0 then _ else _) _ _ _ from ?_)))));rw [Z0t (by lia)];show wpAny _ _ (if ((es.size:Nat):Int)≥2^63 then _ else _) _ _ _;rw [Z0t (by lia)];exact Z00 (wpAny_mkInt (Z04 (i02 _ rfl h)))
end
section
variable {X:Cx}
theorem C8i:A8h X (.builtin "len") (λxs H Q=>∃a kvs,xs=[V.ref a]/\H a=some (.dT kvs)/\Q (.int kvs.length) H):=by
 intro b s Z H xs v Q I r h;obtain ⟨a,kvs,rfl,e,q⟩:=h;obtain ⟨u,rfl,j⟩:=B1d r;cases j;obtain ⟨z,i,f,m,o,d,p,c,l,n,k,t⟩:=(show A2q X.prog X.w H s.heap a (.dT kvs) from I.hok a _ e);have x:=Paired.length m;have y:d.size=f.length:=by rw [<-Array.length_toList,k,Z08]
 have g:kvs.length=d.size:=by lia
 refine B7x i c (i02 o c l.1) n (by rw [sizeLine_eq] at z;lia) ?_;rw [<-g];exact i0f (.int kvs.length) H (I.tok _) ⟨_,rfl⟩ q
end
theorem B3x {x:V} (h:let D':=D;g x Z H λZ2 H2=>tb D' Z2 H2):g x Z H λZ2 H2=>tb D Z2 H2:=h
theorem C6a {N:VK} {x:V} (h:let N':=N;g x Z H λZ4 H4=>A2w Z Z4/\te Z4 H4 N'):g x Z H λZ4 H4=>A2w Z Z4/\te Z4 H4 N:=h
section
variable {CX:CXT} {P:Program} {w:World} {K:Frag} {mg:Str->Option Value} {base:Heap} {N:List Str} {qual:Str} {scope:Scope} {f:Addr} {cd:Value} {A:Around} {outer:List Env} {s:Shared} {H:Hp} {E:XK}
end
section
variable {X:Cx} {CX:CXT} {E:XK} {p pos:Pos} {e o i:Expr} {es:List Expr} {tf:TE} {t:TA}
end
theorem C3a {α β γ δ:Type} {F:(α×β)->(α×γ)->Prop} {g:α->δ} (h:∀p q,F p q->p.1=q.1):∀{l:List (α×β)} {m:List (α×γ)},Paired F l m->m.map (λx=>g x.1)=l.map λx=>g x.1
 | _,_,.nil=>rfl
 | _,_,.cons z r=>by rw [Z0p,Z0p,C3a h r,h _ _ z]
section
variable {prog:Program} {w:World} {A:Around} {E:Value->Shared->Prop} {s:Shared}
end
section
variable {X:Cx}
end
theorem C3x {α:Type}:∀{l:List α},l.Nodup->∀{i j:Nat} {x:α},l[i]? =some x->l[j]? =some x->i=j
 | [],_,_,_,_,h,_=>by simp at h
 | a::r,nd,0,0,_,_,_=>rfl
 | a::r,nd,0,j+1,x,h1,h2=>by
  simp at h1;subst h1;exact absurd (Z13 (by simpa using h2)) (Z15.mp nd).1
 | a::r,nd,i+1,0,x,h1,h2=>by
  simp at h2;subst h2;exact absurd (Z13 (by simpa using h1)) (Z15.mp nd).1
 | a::r,nd,i+1,j+1,x,h1,h2=>by
  have:=C3x (Z15.mp nd).2 (i:=i) (j:=j) (x:=x) (by simpa using h1) (by simpa using h2)
  lia
section
variable {prog:Program} {w:World} {A:Around} {E:Value->Shared->Prop} {s:Shared}
theorem C5j {nm:String} {b:Addr} {z y:Obj} {c:Array DictEntry} {v:Nat} {Q:Bool->Shared->Prop} (F:(a == sysModules)=false) (D:(b == sysModules)=false)
  (g:s.heap.get? a=some z) (f:z.data= .dict es ep) (p:s.heap.get? b=some y) (t:y.data= .dict c v) (hsz:es.size=c.size)
  (k:∀(i:Nat) (e:DictEntry),es[i]? =some e->∀(Q:Option Nat->Shared->Prop) (E:Value->Shared->Prop),Q (some i) s->wpAny (model prog w) A (dictFind b e.key e.hash) Q E s)
  (r:∀(i:Nat) (e B:DictEntry),es[i]? =some e->c[i]? =some B->∀(Q:Bool->Shared->Prop) (E:Value->Shared->Prop),Q true s->wpAny (model prog w) A (eqBool e.val B.val) Q E s)
  (h:Q true s):wpAny (model prog w) A (Builtin.Dict.samePairs nm a b) Q E s:=by
 unfold Builtin.Dict.samePairs Builtin.Dict.showsAll;rw [Z0t (show¬(a == sysModules)=true by rw [F];exact Z0v),Z0t (show¬(b == sysModules)=true by rw [D];exact Z0v)];refine Z00 (Z04 (Z00 (Z04 ?_)));refine Z00 (wpAny_dictEntries g f ?_);dsimp only;refine Z00 (wpAny_dictEntries p t ?_);rw [Z0t (by rw [hsz];simp)];refine Z00 (wpAny_dictEpoch g f ?_);refine Z00 ?_;rw [Std.Legacy.Range.forIn_eq_forIn_range'];simp only [Std.Legacy.Range.size,Nat.sub_zero,Nat.add_sub_cancel,Nat.div_one]
 refine wpAny_forIn_list _
  (λd q u=>u=s/\q=(none,())/\∃i,d=List.range' i (es.size-i)/\i<=es.size)
  _ ?_ ?_ _ _ (i0a rfl rfl 0 (by simp) (Z1e _))
 ·rintro x d q u ⟨rfl,rfl,i,n,C⟩
  have m:i<es.size:=by
   rcases Nat.lt_or_ge i es.size with h | h
   ·exact h
   ·rw [Nat.sub_eq_zero_of_le h] at n;simp at n
  obtain ⟨rfl,hrest⟩:x=i/\d=List.range' (i+1) (es.size-(i+1)):=by
   have e:es.size-i=(es.size-(i+1))+1:=by lia
   rw [e,List.range'_succ] at n;injection n with h1 h2;exact ⟨h1,h2⟩
  refine Z00 (wpAny_dictEntries g f ?_);have l:es[x]? =some es[x]:=Array.getElem?_eq_getElem m;rw [l];have o:x<c.size:=by rw [<-hsz];exact m
  have j:c[x]? =some c[x]:=Array.getElem?_eq_getElem o;show wpAny _ _ (holding [es[x].key,es[x].val] _ >>= _) _ _ _;refine Z00 (Z1w (Z00 (k x _ l _ _ ?_)));refine Z00 (wpAny_dictEntries p t ?_);rw [j];refine Z1w (r x _ _ l j _ _ ?_);show wpAny _ _ (if (! true)=true then _ else _) _ _ _;rw [Z0t (by decide)];refine Z00 (wpAny_dictEpoch g f ?_);rw [Z0t (by simp)];exact Z04 (i0a rfl rfl (x+1) hrest m)
 ·rintro q u ⟨rfl,rfl,i,n,C⟩;exact Z04 h
end
section
variable {X:Cx} {pins:List (Addr×Obj)} {Z:St} {H:Hp} {s:Shared} {A:Around} {E:Value->Shared->Prop} {Q:Bool->Shared->Prop}
theorem D7i (I:Inv X pins Z H s) (c:A.units+62<cLine) {p q:Value} (e:∃i,v= .int i) (b:A3c v p) (d:A3c v q) (a:Q true s):wpAny (model X.prog X.w) A (eqBool p q) Q E s:=by
 obtain ⟨i,rfl⟩:=e;exact D2f I c (.inl (i0c (.int i) (.int i) (.int i) (by simp [PyData.canLay0]) (by simp [PyData.depth]))) b d a
theorem B0z {α β γ:Type} {F:(α×β)->(α×γ)->Prop}:∀{l:List (α×β)} {m:List (α×γ)},Paired F l m->∀{i:Nat} {y:α×γ},m[i]? =some y->∃x,l[i]? =some x/\F x y
 | _,_,.nil,i,y,e=>by simp at e
 | _,_,.cons r t,0,y,e=>by simp at e;subst e;exact i02 _ rfl r
 | _,_,.cons r t,i+1,y,e=>by
  obtain ⟨x,b,a⟩:=B0z t (i:=i) (by simpa using e);exact i02 x (by simpa using b) a
end
section
variable {X:Cx}
end
section
variable {X:Cx} {pins:List (Addr×Obj)} {Z:St} {H:Hp} {s:Shared} {A:Around} {E:Value->Shared->Prop}
theorem D2c {Q:Bool->Shared->Prop} (I:Inv X pins Z H s) (K:A.units+62<cLine) {nm:String} {c:Addr} {kvs:List (List Key×V)} (hc:Rd H c (.dT kvs)) (hd:Rd H d (.dT kvs)) (hi:∀e∈kvs,∃i,e.2=V.int i) (hq:Q true s):wpAny (model X.prog X.w) A (Builtin.Dict.samePairs nm c d) Q E s:=by
 obtain ⟨_,sc,m,r,oc,o,pc,c1,c2,c3,n,c5,W⟩:=B4s I.hok hc;obtain ⟨_,sd,L,t,od,R,pd,N,d2,O,v,d5,U⟩:=B4s I.hok hd;have lx:=Paired.length r;have ly:=Paired.length t;have sx:o.size=m.length:=by have:=congrArg List.length n;simpa using this
 have sy:R.size=L.length:=by have:=congrArg List.length v;simpa using this
 have J:∀{m:List (List Key×Addr×Value)} {o:Array DictEntry},o.toList=m.map (entryOfKey (tupleKind (A1x X.prog X.w)))->∀(i:Nat) (e:DictEntry),o[i]? =some e->∃x,m[i]? =some x/\e=entryOfKey (tupleKind (A1x X.prog X.w)) x:=λ{m o} n i e h=>by
  rw [<-Array.getElem?_toList,n,Z1z] at h
  cases l:m[i]? with
  | none=>rw [l] at h;cases h
  | some x=>rw [l] at h;cases h;exact i02 x rfl rfl
 have D:(kvs.map (·.1)).Nodup:=by
  have e2:m.map (·.1)=kvs.map (·.1):=C3a (g:=id) (λ_ _ z=>z.1) r;rw [<-e2];exact W
 refine C5j sc sd c1 c3 N O (by lia) (λi e C Y T B=> ?_) (λi e e' C F Y T B=> ?_) hq
 ·obtain ⟨x,l,rfl⟩:=J n i e C;obtain ⟨P,b,G,z2,M⟩:=B0z r l;have q:=c5 x (Z13 l);refine wpAny_dictFind_heap (knd:=tupleKind (A1x X.prog X.w)) (k:=x.1) (by show A.units<cLine;lia) q N O v d5 U (λhn=> ?_) (λj p hj=> ?_)
  ·obtain ⟨yy,hyi⟩:∃yy,L[i]? =some yy:=⟨_,Z0b (by have:=(Z03.mp l).1;lia)⟩;obtain ⟨f,a,u,_⟩:=B0z t hyi;rw [b] at a;cases a;exact absurd hyi (by rw [show yy=(x.1,yy.2) from Prod.ext (u.symm.trans G) rfl];exact hn i _)
  ·obtain ⟨f,a,u,_⟩:=B0z t hj;have g1:(kvs.map (·.1))[j]? =some f.1:=by rw [Z1z,a];rfl
   have g2:(kvs.map (·.1))[i]? =some f.1:=by rw [Z1z,b,u.trans G.symm];rfl
   have:=C3x D g1 g2;subst this;exact B
 ·obtain ⟨x,l,rfl⟩:=J n i e C;obtain ⟨y,S,rfl⟩:=J v i e' F;obtain ⟨P,b,G,z2,M⟩:=B0z r l;obtain ⟨f,a,u,y2,y3⟩:=B0z t S;rw [b] at a;cases a;exact D7i I K (hi P (Z13 b)) M y3 B
end
section
variable {X:Cx}
def E3v:R2:=λx y H Q=>∃a b c,x= .ref a/\y= .ref b/\H a=some (.dT c)/\H b=some (.dT c)/\(∀e∈c,∃i,e.2=V.int i)/\Q (.bl false) H
theorem D6w (w:X.A.units+64<cLine):OpR X (compareOp .NotEq) E3v:=by
 intro d s Z H x y v u Q I o m h;obtain ⟨a,b,n,rfl,rfl,g,e,j,q⟩:=h;cases o;cases m;obtain ⟨_,_,_,_,r,_,_,p,i,_⟩:=B4s I.hok (.inl g);obtain ⟨_,_,_,_,l,_,_,k,t,_⟩:=B4s I.hok (.inl e);have c:s.TypeIs (.ref a) "dict":=(i02 r p i.1);have f:s.TypeIs (.ref b) "dict":=(i02 l k t.1);refine wpAny_richCompare_same_room (op:= .NotEq) c f PySem.F.slot_dict_ne (Z1g PySem.F.slot_dict_ne c PySem.F.entry_dict_ne ?_ (PySem.F.args_dict_ne_2 _ _)) (by lia);show wpAny _ _ (Builtin.Dict.dictSlotArgs "__ne__" ⟨[.ref a,.ref b],[]⟩ >>= _) _ _ s;refine Z00 ?_;unfold Builtin.Dict.dictSlotArgs;refine Z00 (wpAny_notOrdered_dict c ?_);show wpAny _ _ (pure (Value.ref a,Value.ref b)) _ _ s;refine Z04 ?_;refine Z00 (wpAny_isInstance (T:="dict") f PySem.F.sub_dict_dict ?_);simp only [Bool.not_true,Bool.false_eq_true,if_false];refine Z00 (Z04 (Z00 (Z04 ?_)));refine Z00 (D2c I (by show X.A.units+1+62<cLine;lia) (.inl g) (.inl e) j ?_);refine Z04 (i06 _ rfl ?_ ?_)
 ·exact λx=>nomatch x
 ·exact i0f (.bl false) H I rfl q
end
structure RS (X:Cx) (sts:List Stmt) (t:TS):Prop where
 r:PSs X sts t
structure R1 (X:Cx) (st:Stmt) (t:TS):Prop where
 r:PS X st t
section
variable {X:Cx} {st:Stmt} {rest a b body:List Stmt} {t u tb:TS} {e c:Expr} {te:TE} {tc:TT} {pos pos':Pos}
theorem rq1 (h1:R1 X st t) (h2:RS X rest u):RS X (st::rest) (D3p t u):=⟨A1t h1.r h2.r⟩
theorem rq2 (h1:R1 X st t) (h2:RS X rest u):RS X (st::rest) (E4e t u):=⟨A9l h1.r h2.r⟩
theorem rq3 (h1:R1 X st t):RS X [st] t:=⟨A2z h1.r⟩
theorem rq4 (e:PT X c tc) (d:RS X a t) (f:RS X b u):R1 X (.If c a b pos) (D5d tc t u):=⟨B5c e d.r f.r⟩
theorem rq5 (a:PE X e te):R1 X (.Return (some e) pos) (E4r te):=⟨B3y a⟩
theorem rq6 (i:Nat) (f:X.N.Nodup) (b:PE X e te) (hi:X.N[i]? =some x:=by exact rfl) (a:Loc X.env.scope x:=by exact .inl rfl) (c:swapsWith e (some (.Name x pos')) pos.line X.env=pure false:=by exact rfl) (d:X.fn x=true\/X.env.scope.names.lookup x=some .local:=by exact .inl rfl):R1 X (.Assign [.Name x pos'] e pos) (D8t te (A7u i)):=⟨A3e f hi a b c d⟩
theorem rq7 {tg:Expr} (hi:PI X tg iter wi) (e:PG X tg g) (c:RS X body tb) (d:PassesOwn (model X.prog X.w) X.A X.env X.xe:=by exact PassesOwn.never) (a:X.calm=true:=by exact rfl) (b:∀x,foldedSetIterable iter X.env x=pure x:=by intro _;rfl):R1 X (.For tg iter body [] pos) (E4i wi g tb):=⟨C6y d a hi e c.r b⟩
end
end L2
namespace My
open PySem L2
inductive Op3 | plus | minus | times
inductive Tm
 | num (z:Int) | place (x:Str) | read (a:Str) (ix:List (Str×Int)) | sum (x:Str) (b:Tm) | pair (k:Op3) (l r:Tm) | guard (x:Str) (lo hi:Int) (l r:Tm)
def Op3.name:Op3->Str | .plus=>"plus" | .minus=>"minus" | .times=>"times"
def B1n (e:Str×Int):PyData:= .tuple [.str e.1,.int e.2]
def A5c (ix:List (Str×Int)):PyData:= .list (ix.map B1n)
def enc:Tm->PyData
 | .num z=> .tuple [.str "number",.int z]
 | .place x=> .tuple [.str "place",.str x]
 | .read a ix=> .tuple [.str "read",.str a,A5c ix]
 | .sum x b=> .tuple [.str "sum",.str x,enc b]
 | .pair k l r=> .tuple [.str k.name,enc l,enc r]
 | .guard x lo hi l r=> .tuple [.str "guard",.str x,.int lo,.int hi,enc l,enc r]
def dep:Tm->Nat
 | .sum _ b=>dep b+1
 | .pair _ l r=>max (dep l) (dep r)+1
 | .guard _ _ _ l r=>max (dep l) (dep r)+1
 | _=>1
def nod:Tm->Nat
 | .sum _ b=>nod b+1
 | .pair _ l r=>nod l+nod r+1
 | .guard _ _ _ l r=>nod l+nod r+1
 | _=>1
def Sm (z:Int):Prop:=z.natAbs<=10^32
def B4q (x:Str):Prop:=x.length<=20/\PyData.strOk x=true
theorem A6n:∀t:Tm,1<=dep t
 | .num z=>by simp [dep]
 | .place x=>by simp [dep]
 | .read a ix=>by simp [dep]
 | .sum x b=>by simp [dep]
 | .pair k l r=>by simp [dep]
 | .guard x lo hi l r=>by simp [dep]
theorem E4t:∀a b:List (Str×Int),PyData.eqvAll (a.map B1n) (b.map B1n)=true->a=b
 | [],[],_=>rfl
 | [],_::_,h=>by simp [PyData.eqvAll] at h
 | _::_,[],h=>by simp [PyData.eqvAll] at h
 | (x,i)::r,(y,j)::s,h=>by
  simp only [Z0p,B1n,PyData.eqvAll,PyData.eqv,Z1x,beq_iff_eq,Bool.and_true] at h;obtain ⟨⟨c,d⟩,e⟩:=h;rw [c,d,E4t r s e]
theorem D1y {a b:Op3} (h:a.name=b.name):a=b:=by cases a <;> cases b <;> first | rfl | exact absurd h (by decide +kernel)
theorem A7y {x y:Str} {r s:List PyData} (h:PyData.eqv (.tuple (.str x::r)) (.tuple (.str y::s))=true):x=y:=by
 rw [PyData.eqv,PyData.eqvAll,PyData.eqv] at h;exact beq_iff_eq.mp (Bool.and_eq_true_iff.mp h).1
theorem D6e:∀a b:Tm,PyData.eqv (enc a) (enc b)=true->a=b:=by
 intro a
 induction a with
 | num z=>intro b h;cases b with
  | num w=>simp only [enc,PyData.eqv,PyData.eqvAll,Z1x,beq_iff_eq,Bool.and_true] at h;rw [h.2]
  | pair k l r=>exact absurd (A7y h) (by cases k <;> decide +kernel)
  | _=>exact absurd (A7y h) (by decide +kernel)
 | place x=>intro b h;cases b with
  | place w=>simp only [enc,PyData.eqv,PyData.eqvAll,Z1x,beq_iff_eq,Bool.and_true] at h;rw [h.2]
  | pair k l r=>exact absurd (A7y h) (by cases k <;> decide +kernel)
  | _=>exact absurd (A7y h) (by decide +kernel)
 | read x ix=>intro b h;cases b with
  | read y jx =>
   simp only [enc,A5c,PyData.eqv,PyData.eqvAll,Z1x,beq_iff_eq,Bool.and_true] at h;obtain ⟨_,e,f⟩:=h;rw [e,E4t _ _ f]
  | pair k l r=>exact absurd (A7y h) (by cases k <;> decide +kernel)
  | _=>exact absurd (A7y h) (by decide +kernel)
 | sum x c ih=>intro b h;cases b with
  | sum y d =>
   simp only [enc,PyData.eqv,PyData.eqvAll,Z1x,beq_iff_eq,Bool.and_true] at h;obtain ⟨_,e,f⟩:=h;rw [e,ih _ f]
  | pair k l r=>exact absurd (A7y h) (by cases k <;> decide +kernel)
  | _=>exact absurd (A7y h) (by decide +kernel)
 | pair k l r ihl ihr=>intro b h;cases b with
  | pair k' l' r' =>
   simp only [enc,PyData.eqv,PyData.eqvAll,Z1x,beq_iff_eq,Bool.and_true] at h;obtain ⟨g,e,f⟩:=h;rw [D1y g,ihl _ e,ihr _ f]
  | guard _ _ _ _ _=>exact absurd (A7y h) (by cases k <;> decide +kernel)
  | _=>exact absurd (A7y h) (by cases k <;> decide +kernel)
 | guard x lo hi l r ihl ihr=>intro b h;cases b with
  | guard y lo' hi' l' r' =>
   simp only [enc,PyData.eqv,PyData.eqvAll,Z1x,beq_iff_eq,Bool.and_true] at h;obtain ⟨g,e,f,j,m,i⟩:=h;rw [e,f,j,ihl _ m,ihr _ i]
  | pair k l' r'=>exact absurd (A7y h) (by cases k <;> decide +kernel)
  | _=>exact absurd (A7y h) (by decide +kernel)
theorem E4h:∀a:List (Str×Int),(∀e∈a,B4q e.1/\Sm e.2)->PyData.canLayAll0 (a.map B1n)=true/\PyData.depthAll (a.map B1n)<=1
 | [],_=>⟨rfl,Z1e _⟩
 | (x,i)::r,h=>by
  obtain ⟨f,d⟩:=E4h r λe c=>h e (.tail _ c);have b:PyData.strOk x=true:=(h (x,i) (.head _)).1.2;constructor
  ·simp [B1n,PyData.canLayAll0,PyData.canLay0,b,f]
  ·simp [B1n,PyData.depthAll,PyData.depth,d]
theorem D5u (k:Op3):PyData.strOk k.name=true:=by cases k <;> decide +kernel
theorem D0g {n:Nat} (h:n<10^33):(Str.ofString (Nat.repr n)).length<=33:=by
 rw [PyProof.Rows.ofString_len]
 simpa [Nat.repr] using PySem.toDigits_len_pow (b:=10) (k:=33) (by decide) (by decide) h
theorem D4p (a b:String):Str.ofString (a++b)=Str.ofString a++Str.ofString b:=by
 rw [Str.ofString_eq_toList,Str.ofString_eq_toList,Str.ofString_eq_toList];apply Str.ext';simp [Str.cps_append,String.toList_append]
theorem C6h {z:Int} (h:Sm z):(toString z:Str).length<=34:=by
 unfold Sm at h
 cases z with
 | ofNat m =>
  have a:m<10^33:=Z2d (show m<=10^32 from h) (by decide);exact Nat.le_succ_of_le (D0g a)
 | negSucc m =>
  have a:m+1<10^33:=Z2d (show m+1<=10^32 from h) (by decide);have e:(toString (Int.negSucc m):Str)=Str.ofString "-"++Str.ofString (Nat.repr (m+1)):=D4p "-" (Nat.repr (m+1));rw [e,Str.length_append];have c:=D0g a;have b:(Str.ofString "-").length=1:=by decide +kernel
  lia
theorem E0m {z:Int} (h:Sm z):z.natAbs.log2<1920:=by
 by_cases h0:z.natAbs=0
 ·rw [h0];decide
 ·exact (Nat.log2_lt h0).mpr (Z2d h (Z0q (show 10^32<2^110 by decide) (Nat.pow_le_pow_right (by decide) (by decide))))
theorem B4w {z:Int} (h1: -100000000000000000000000000000000<=z) (h2:z<=100000000000000000000000000000000):Sm z:=by
 unfold Sm;have:(10:Nat)^32=100000000000000000000000000000000:=by decide
 lia
abbrev abc:Str:="abcdefghijklmnopqrstuvwxyz"
theorem D0t:abc.cps.toList.length=26:=by decide +kernel
theorem C3i:abc.length=26:=by decide +kernel
theorem D4b:∀c∈abc.cps.toList,c<0x110000:=by decide +kernel
theorem C9r {x:Str}:PyData.strOk x=true↔∀c∈x.cps.toList,c<0x110000:=by
 unfold PyData.strOk;rw [<-Array.all_toList,List.all_eq_true];simp
theorem C3e {x y:Str} (b:PyData.strOk x=true) (d:PyData.strOk y=true):PyData.strOk (x++y)=true:=by
 rw [C9r] at *;intro c a;rw [Str.cps_append,Array.toList_append] at a;rcases Z07.mp a with h | h
 ·exact b c h
 ·exact d c h
theorem D3k {c:Nat} (h:c<0x110000):PyData.strOk ⟨#[c]⟩=true:=by
 rw [C9r];intro d a;simp at a
 lia
theorem C3z {x:Str} {l u:Option Int} (a:PyData.strOk x=true):PyData.strOk (Txt.slice x l u)=true:=by
 unfold Txt.slice;split
 ·exact a
 ·rw [C9r] at *;intro c b;simp only [List.mem_filterMap] at b;obtain ⟨i,_,d⟩:=b;refine a c ?_;rw [Array.getElem?_toList.symm] at d;exact Z13 d
theorem lenC (x:Str):x.cps.toList.length=x.length:=by rfl
theorem D2l {ix:List (Str×Int)}:PyData.depth (A5c ix)<=2:=by
 have h:∀l:List (Str×Int),PyData.depthAll (l.map B1n)<=1:=by
  intro l
  induction l with
  | nil=>simp [PyData.depthAll]
  | cons e r ih=>simp [B1n,PyData.depthAll,PyData.depth] at *;lia
 have:=h ix;simp only [A5c,PyData.depth]
 lia
theorem D3m {ix:List (Str×Int)}:cnt (A5c ix)<=1+3*ix.length:=by
 have h:∀l:List (Str×Int),A4i (l.map B1n)<=3*l.length:=by
  intro l
  induction l with
  | nil=>simp [A4i]
  | cons e r ih=>simp only [B1n,A4i,cnt,Z0p,Z0y] at *;lia
 have:=h ix;simp only [A5c,cnt]
 lia
theorem C9y {n:Nat} (h:2<=n):(Builtin.Range.rangeSize 0 ((n:Int)-1) 2).toNat=n/2:=by
 unfold Builtin.Range.rangeSize;rw [Z12 (by decide),Z12 (by lia)]
 lia
section
variable {G:Hp} {v:V}
theorem D7b {z:Int} (h:Rep G v (enc (.num z))):∃p,v= .ref p/\G p=some (.tup [.str "number",.int z]):=by
 obtain ⟨p,g,rfl,e,r⟩:=B6p (show Rep G v (.tuple [.str "number",.int z]) from h);obtain ⟨a,f,rfl,c,r⟩:=A4m r;obtain ⟨b,i,rfl,d,r⟩:=A4m r;cases B2r r;cases B0s c;cases C2i d;exact i02 p rfl e
theorem C7i {x:Str} (h:Rep G v (enc (.place x))):∃p,v= .ref p/\G p=some (.tup [.str "place",.str x]):=by
 obtain ⟨p,g,rfl,e,r⟩:=B6p (show Rep G v (.tuple [.str "place",.str x]) from h);obtain ⟨a,f,rfl,c,r⟩:=A4m r;obtain ⟨b,i,rfl,d,r⟩:=A4m r;cases B2r r;cases B0s c;cases B0s d;exact i02 p rfl e
theorem D2b {x:Str} {ix:List (Str×Int)} (h:Rep G v (enc (.read x ix))):∃p q xs,v= .ref p/\G p=some (.tup [.str "read",.str x,.ref q])/\G q=some (.lst xs)/\A4y G xs (ix.map B1n):=by
 obtain ⟨p,xs,rfl,e,r⟩:=B6p (show Rep G v (.tuple [.str "read",.str x,A5c ix]) from h);obtain ⟨a,l,rfl,g,r⟩:=A4m r;obtain ⟨b,d,rfl,k,r⟩:=A4m r;obtain ⟨c,m,rfl,j,r⟩:=A4m r;cases B2r r;cases B0s g;cases B0s k;obtain ⟨q,f,rfl,i,d⟩:=A5m (show Rep G c (.list (ix.map B1n)) from j);exact i0r p q f rfl e i d
theorem E1o {e:Str×Int} (h:Rep G v (B1n e)):∃p,v= .ref p/\G p=some (.tup [.str e.1,.int e.2]):=by
 obtain ⟨p,g,rfl,q,r⟩:=B6p (show Rep G v (.tuple [.str e.1,.int e.2]) from h);obtain ⟨a,f,rfl,c,r⟩:=A4m r;obtain ⟨b,i,rfl,d,r⟩:=A4m r;cases B2r r;cases B0s c;cases C2i d;exact i02 p rfl q
end
end My
namespace M84
open PySem PySem.NumText
abbrev sg (x:Str):List Nat:=x.cps.toList
def figs (n:Nat):List Nat:=(Nat.toDigits 10 n).map Char.toNat
theorem sg_nat (n:Nat):sg (Str.ofString (toString (n:Int)))=figs n:=PySem.W.KIN.signs_num n
theorem figs_val (n:Nat):digitsVal (figs n)=n:=PySem.W.KIN.val_back n
theorem E0k:∀d:Nat,d<10->(Nat.digitChar d).toNat=48+d:=by decide
theorem C0q {n:Nat} (h:n<10):figs n=[48+n]:=by
 unfold figs;rw [Nat.toDigits_of_lt_base h];simp [E0k n h]
theorem C8e {n:Nat} (h:10<=n):figs n=figs (n/10)++[48+n%10]:=by
 have a:n%10<10:=Nat.mod_lt n (by decide);have t:Nat.toDigits 10 (n/10)++Nat.toDigits 10 (n%10)=Nat.toDigits 10 (10*(n/10)+n%10):=Nat.toDigits_append_toDigits (by decide) (by lia) a;rw [Nat.div_add_mod] at t;show (Nat.toDigits 10 n).map Char.toNat=_;rw [<-t,Z0s];show figs (n/10)++figs (n%10)=_;rw [C0q a]
theorem figs_dg (n:Nat):∀c∈figs n,48<=c/\c<=57:=by
 induction n using Nat.strongRecOn with
 | _ n ih =>
  intro c a;by_cases h:n<10
  ·rw [C0q h] at a;rw [Z0w.mp a];lia
  ·rw [C8e (by lia)] at a;rcases Z07.mp a with a | a
   ·exact ih (n/10) (by lia) c a
   ·rw [Z0w.mp a];lia
theorem figs_pos (n:Nat):1<=(figs n).length:=by
 by_cases h:n<10
 ·rw [C0q h];simp
 ·rw [C8e (by lia)];simp
section
variable {w:List Nat} {ns:List Nat}
end
end M84
namespace My
open PySem L2
variable {f cur:List (List Int×Int)} {fd:FuncData} {ps ys os pend sc as:List Str} {x a y:Str} {q p d l nd:Addr} {e:Str×List Str} {es tb:List (Str×List Str)} {n i m:Nat} {H H' H2:Hp} {o:HO} {K:Frag} {mg:Str->Option Value} {v:V} {A:Adr} {S:Addr->Prop} {ax:List (Str×Int)} {ls:List Lt} {u b:Tm} {g:List Gd} {T:String} {sp':Sp} {kvs ws lk kk:List (Key×V)} {c:List Int} {lo hi W:Int} {z:LS} {r:Tm×LS} {D D' D0:Dt} {t1 t2:TT} {Z:St} {Q:Bool->Hp->Prop} {d1 d2:Bool} {L:Str->Int} {ρ:Env} {gs:List (Str×List Int)} {own:Option (Str×List Str)} {kd:List G3} {Zz:Tm->Prop} {cs:List (List Int)}
def top (i:Nat):Stmt:=PySem.Challenge.pw_arrayloom_k34_whole_lines_mean_the_lets.main.body.getD i (.Pass ⟨0,0,0,0⟩)
abbrev B6u:Stmt:=top 2
abbrev A7k:Stmt:=top 3
abbrev A9s:Stmt:=A3a (top 5) 0
abbrev A8q:Stmt:=A3a (top 6) 0
abbrev A7g:Stmt:=A3a (top 9) 0
abbrev A8j:Stmt:=A3a (top 10) 0
abbrev A9m:Stmt:=A3a (top 11) 0
abbrev A9k:Stmt:=A3a (top 12) 0
abbrev A6p:Stmt:=A3a (top 13) 2
abbrev A5s:Stmt:=A3a (top 14) 2
abbrev A5p:Stmt:=A3a (top 15) 2
abbrev B1i:Stmt:=A3a (top 16) 0
abbrev A8d:Stmt:=A3a (top 17) 0
abbrev A5v:Stmt:=A3a (top 17) 2
abbrev A9z:Stmt:=A3a (top 19) 0
abbrev B1r:Stmt:=top 20
abbrev A8r:Stmt:=top 21
abbrev A3y:Stmt:=top 22
abbrev A7j:Stmt:=top 23
abbrev A7p:Stmt:=top 24
abbrev B1o:Stmt:=A3a (top 26) 0
abbrev A6j:Stmt:=A3a (top 27) 0
abbrev A8e:Stmt:=top 28
abbrev A7l:Stmt:=top 29
abbrev A8f:Stmt:=top 30
abbrev B1j:Stmt:=top 32
abbrev B1p:Stmt:=top 33
abbrev A7t:Stmt:=A3a (top 34) 0
abbrev A4r:Stmt:=A3a (top 34) 1
abbrev A3u:Stmt:=A3a (top 34) 2
abbrev A7f:Stmt:=A3a (top 34) 3
abbrev A4e:Stmt:=A3a (top 34) 4
abbrev B2x:Stmt:=top 35
abbrev B2t:Stmt:=top 36
abbrev B3s:Stmt:=top 37
abbrev A9w:Stmt:=top 39
abbrev B2u:Stmt:=top 40
abbrev B7l:Stmt:=top 41
abbrev A8l:Stmt:=top 42
abbrev A7h:Stmt:=top 43
abbrev B6x:Stmt:=top 44
abbrev A9o:Stmt:=top 45
abbrev A9y:Stmt:=top 46
abbrev A9u:Stmt:=top 47
abbrev A9h:Stmt:=top 48
abbrev B0u:Stmt:=top 49
abbrev B5y:Stmt:=top 50
abbrev B0t:Stmt:=top 51
abbrev B1b:Stmt:=top 52
abbrev A6s:Stmt:=top 53
abbrev A6r:Stmt:=top 54
abbrev B6z:Stmt:=top 55
abbrev A8s:Stmt:=top 56
abbrev A5e:Stmt:=top 57
abbrev A8v:Stmt:=top 58
abbrev B7a:Stmt:=top 59
abbrev B4i:Stmt:=top 60
abbrev A7r:Stmt:=top 61
abbrev B4h:Stmt:=top 62
abbrev B6h:Stmt:=top 63
abbrev D2h:Stmt:=top 64
structure TyC (K:Frag) (C:Addr):Prop where
 ha:findIn K (.ref C) "__class__"=some (some (.builtin "object.__class__"))
 hn:specialIn K (.builtin "object.__class__") "__get__"=some (some (.builtin "getset_descriptor.__get__"))
 htk:takesIn K (.builtin "object.__class__")=some true
 hm:mroIn K C (.type "object")=some true
abbrev C0e:List Str:=["value"]
abbrev E2o:List Str:=["self","name","axes","sums","term"]
abbrev E3d:List Str:=["self","wheel","lengths","arrays","tables","lines","outs"]
abbrev E2k:List Str:=["self","number"]
abbrev E2q:List Str:=["self","array","indexes"]
abbrev C5z:List Str:=["self","left","right"]
abbrev E3e:List Str:=["self","axis","body"]
abbrev E2p:List Str:=["self","axis","low","high","inner","outer"]
abbrev E3u:List Str:=["self","inner","outer"]
abbrev E3s:List Str:=["self","term","sums","guards"]
abbrev B2d:List Str:=["term"]
abbrev D4v:List Str:=["self","name","axes","term"]
abbrev D7g:List Str:=["self","wheel","axes","tables","lets","outs"]
abbrev A9q:List Str:=["program"]
abbrev B1z:List Str:=["self","part"]
abbrev D6s:List Str:=["_law_script","_law_k"]
abbrev C4t:List Str:=["_law_cell_here","_law_k"]
abbrev D7n:List Str:=["_law_cell_here","_law_other","_law_many_here"]
abbrev C4p:List Str:=["_law_axes","_law_lengths"]
abbrev D8d:List Str:=["_law_rest","_law_given","_law_lengths","_law_most"]
abbrev D8c:List Str:=["_law_read","_law_guards","_law_rest","_law_lengths"]
abbrev D6y:List Str:=["_law_rest","_law_array","_law_scope","_law_lengths","_law_own"]
abbrev D7a:List Str:=["_law_rest","_law_arrays","_law_scope","_law_lengths","_law_own"]
abbrev D5c:List Str:=["_law_axis","_law_body","_law_rest","_law_lengths"]
abbrev C5n:List Str:=["_law_cells","_law_at","_law_scope","_law_book","_law_room"]
abbrev C5f:List Str:=["_law_tree","_law_lengths"]
abbrev D7d:List Str:=["_law_cells","_law_scope","_law_book","_law_most"]
abbrev D4w:List Str:=["_law_script","_law_names"]
abbrev C5p:List Str:=["_law_script"]
abbrev B3g:List Str:=["_law_tree","_law_kept"]
abbrev C4n:List Str:=["_law_term","_law_at","_law_lengths","_law_numbers","_law_wheel"]
abbrev D6k:List Str:=["_law_program","_law_seed"]
abbrev D7w:List Str:=["_law_program","_law_given"]
abbrev D4y:List Str:=["_law_line","_law_sums","_law_lengths","_law_numbers","_law_wheel"]
set_option genInjectivity false in
set_option genSizeOf false in
structure Adr where
 ba:Addr
 ao:Addr
 AN:Addr
 ae:Addr
 am:Addr
 aj:Addr
 c8:Addr
 bf:Addr
 av:Addr
 cf:Addr
 bp:Addr
 af:Addr
 aw:Addr
 ci:Addr
 ai:Addr
 au:Addr
 fk:Addr
 ft:FuncData
 fi:Addr
 fg:FuncData
 tq:Addr
 yi:FuncData
 re:Addr
 xm:FuncData
 nj:Addr
 vg:FuncData
 q9:Addr
 xq:FuncData
 sv:Addr
 xz:FuncData
 iq:Addr
 yl:FuncData
 mr:Addr
 v8:FuncData
 jz:Addr
 u7:FuncData
 j_:Addr
 u6:FuncData
 u_:Addr
 yz:FuncData
 qx:Addr
 x8:FuncData
 jv:Addr
 ud:FuncData
 t7:Addr
 yh:FuncData
 yq:Addr
 yC:FuncData
 gf:Addr
 gh:FuncData
 kj:Addr
 mh:FuncData
 wm:Addr
 vi:FuncData
 wg:Addr
 vh:FuncData
 ug:Addr
 yA:FuncData
 mf:Addr
 ul:FuncData
 wx:Addr
 xp:FuncData
 wo:Addr
 vy:FuncData
 xr:Addr
 xw:FuncData
 yG:Addr
 yF:FuncData
 yE:Addr
 yt:FuncData
 oh:Addr
 ve:FuncData
 ii:Addr
 qu:FuncData
 be:Addr
 br:FuncData
 ff:Addr
 j0:FuncData
 ge:Addr
 nc:FuncData
 yU:Addr
 yP:FuncData
 zc:Addr
 yT:FuncData
 yQ:Addr
 yX:FuncData
 yf:Addr
 yg:FuncData
 yO:Addr
 yR:FuncData
 zw:Addr
 zS:FuncData
 xb:Addr
 wz:FuncData
 v_:Addr
 w6:FuncData
 zL:Addr
 zM:FuncData
 yc:Addr
 xx:FuncData
 yj:Addr
 x_:FuncData
 ym:Addr
 yd:FuncData
 y8:Addr
 xZ:FuncData
 yH:Addr
 yr:FuncData
 q_:Addr
 qj:FuncData
 ji:Addr
 jg:FuncData
 yu:Addr
 yw:FuncData
 um:Addr
 uz:FuncData
 uw:Addr
 uy:FuncData
 qa:Addr
 qw:FuncData
 jb:Addr
 jf:FuncData
 rh:Addr
 rn:FuncData
 xu:Addr
 xf:FuncData
 zx:Addr
 zR:FuncData
 n6:Addr
 n8:FuncData
 w8:Addr
 wj:FuncData
 yY:Addr
 ze:FuncData
 zt:Addr
 zJ:FuncData
 AF:Addr
 AK:FuncData
abbrev zR0 (f:Addr):Option (Option Value):=some (some (.ref f))
abbrev zC0:Option (Option Value):=some (some (.builtin "object.__class__"))
abbrev zN0:Option (Option Value):=some none
abbrev zK0 (K:Frag) (a b:Addr) (c:Bool):Prop:=kitOne K (.ref a) (.ref b)=some c
structure FQ (K:Frag) (mg:Str->Option Value) (x q:Str) (st:Stmt) (f:Addr) (fd:FuncData) (ps:List Str):Prop where
 F:Fun K x q st f fd
 m:mg x=some (.ref f)
 b:A9b K fd ps []
structure FM (K:Frag) (x q:Str) (st:Stmt) (f:Addr) (fd:FuncData) (ps:List Str):Prop where
 F:Fun K x q st f fd
 b:A9b K fd ps []
structure Txt (K:Frag) (mg:Str->Option Value) (t:Adr):Prop where
 aq:FQ K mg "copied" "copied" B6u t.fk t.ft C0e
 cx:FQ K mg "copied_dict" "copied_dict" A7k t.fi t.fg C0e
 im:FM K "__init__" "Line.__init__" A9s t.tq t.yi E2o
 jd:FM K "__init__" "Cloth.__init__" A8q t.re t.xm E3d
 di:FM K "__init__" "Number.__init__" A7g t.nj t.vg E2k
 jk:FM K "__init__" "Place.__init__" A8j t.q9 t.xq ["self","axis"]
 ie:FM K "__init__" "Read.__init__" A9m t.sv t.xz E2q
 cn:FM K "__init__" "Pair.__init__" A9k t.iq t.yl C5z
 ia:FM K "made_of" "Plus.made_of" A6p t.mr t.v8 C5z
 ga:FM K "made_of" "Minus.made_of" A5s t.jz t.u7 C5z
 fz:FM K "made_of" "Times.made_of" A5p t.j_ t.u6 C5z
 p6:FM K "__init__" "Sum.__init__" B1i t.u_ t.yz E3e
 gm:FM K "__init__" "Guard.__init__" A8d t.qx t.x8 E2p
 cv:FM K "made_of" "Guard.made_of" A5v t.jv t.ud E3u
 cg:FM K "__init__" "Part.__init__" A9z t.t7 t.yh E3s
 py:FQ K mg "parts_of" "parts_of" B1r t.yq t.yC B2d
 je:FQ K mg "parts_from" "parts_from" A8r t.gf t.gh ["part"]
 bv:FQ K mg "parts_right_within" "parts_right_within" A3y t.kj t.mh ["part"]
 j6:FQ K mg "sums_at_top" "sums_at_top" A7j t.wm t.vi B2d
 fj:FQ K mg "within_sums" "within_sums" A7p t.wg t.vh ["part"]
 ph:FM K "__init__" "Let.__init__" B1o t.ug t.yA D4v
 gu:FM K "__init__" "Program.__init__" A6j t.mf t.ul D7g
 j9:FQ K mg "axis_names" "axis_names" A8e t.wx t.xp A9q
 iu:FQ K mg "table_names" "table_names" A7l t.wo t.vy A9q
 jo:FQ K mg "lengths_of" "lengths_of" A8f t.xr t.xw A9q
 o_:FQ K mg "cloth_of" "cloth_of" B1j t.yG t.yF A9q
 px:FQ K mg "lines_of" "lines_of" B1p t.yE t.yt A9q
 iy:FM K "__init__" "Lifter.__init__" A7t t.oh t.ve ["self","known"]
 dw:FM K "lift_let" "Lifter.lift_let" A4r t.ii t.qu ["self","let"]
 cb:FM K "without_sums" "Lifter.without_sums" A3u t.be t.br B1z
 nw:FM K "lift" "Lifter.lift" A7f t.ff t.j0 B1z
 df:FM K "fresh_name" "Lifter.fresh_name" A4e t.ge t.nc ["self"]
 se:FQ K mg "guarded" "guarded" B2x t.yU t.yP ["body","guards"]
 rg:FQ K mg "axes_in" "axes_in" B2t t.zc t.yT B2d
 rj:FQ K mg "axes_of" "axes_of" B3s t.yQ t.yX B2d
 bc:FQ K mg "_law_cell_at" "_law_cell_at" A9w t.yf t.yg D6s
 e8:FQ K mg "_law_mixed" "_law_mixed" B2u t.yO t.yR C4t
 ms:FQ K mg "_law_part" "_law_part" B7l t.zw t.zS C4t
 jp:FQ K mg "_law_names_by" "_law_names_by" A8l t.xb t.wz D7n
 dh:FQ K mg "_law_number_by" "_law_number_by" A7h t.v_ t.w6 ["_law_rest"]
 kz:FQ K mg "_law_many" "_law_many" B6x t.zL t.zM C4p
 fu:FQ K mg "_law_axes_by" "_law_axes_by" A9o t.yc t.xx D8d
 ko:FQ K mg "_law_guarded" "_law_guarded" A9y t.yj t.x_ D8c
 ij:FQ K mg "_law_read_by" "_law_read_by" A9u t.ym t.yd D6y
 ir:FQ K mg "_law_leaf_by" "_law_leaf_by" A9h t.y8 t.xZ D7a
 jc:FQ K mg "_law_summed" "_law_summed" B0u t.yH t.yr D5c
 gx:FQ K mg "_law_grow" "_law_grow" B5y t.q_ t.qj C5n
 fc:FQ K mg "_law_weight" "_law_weight" B0t t.ji t.jg C5f
 pf:FQ K mg "_law_let_by" "_law_let_by" B1b t.yu t.yw D7d
 g_:FQ K mg "_law_lengths_by" "_law_lengths_by" A6s t.um t.uz D4w
 gn:FQ K mg "_law_program_by" "_law_program_by" A6r t.uw t.uy C5p
 ky:FQ K mg "_law_made" "_law_made" B6z t.qa t.qw B3g
 qi:FQ K mg "_law_made_new" "_law_made_new" A8s t.jb t.jf B3g
 e_:FQ K mg "_law_made_program" "_law_made_program" A5e t.rh t.rn ["_law_program"]
 cz:FQ K mg "_law_cells_of" "_law_cells_of" A8v t.xu t.xf C4p
 v7:FQ K mg "_law_cell" "_law_cell" B7a t.zx t.zR ["_law_indexes","_law_at"]
 eh:FQ K mg "_law_worth" "_law_worth" B4i t.n6 t.n8 C4n
 iz:FQ K mg "_law_tables_by" "_law_tables_by" A7r t.w8 t.wj D6k
 m_:FQ K mg "_law_taken" "_law_taken" B4h t.yY t.ze D7w
 qz:FQ K mg "_law_told" "_law_told" B6h t.zt t.zJ D4y
 Au:FQ K mg "law" "law" D2h t.AF t.AK C5p
 zC:mg "Line"=some (.ref t.ba)
 Aj:mg "Cloth"=some (.ref t.ao)
 qy:mg "Number"=some (.ref t.ae)
 xo:mg "Place"=some (.ref t.am)
 xj:mg "Read"=some (.ref t.aj)
 zI:mg "Pair"=some (.ref t.c8)
 yD:mg "Plus"=some (.ref t.bf)
 wy:mg "Minus"=some (.ref t.av)
 yL:mg "Times"=some (.ref t.cf)
 ww:mg "Sum"=some (.ref t.bp)
 mw:mg "Guard"=some (.ref t.af)
 pw:mg "Part"=some (.ref t.aw)
 AG:mg "Let"=some (.ref t.ci)
 yW:mg "Program"=some (.ref t.ai)
 zQ:mg "Lifter"=some (.ref t.au)
 gz:Cls K t.ao
 zD:Mk K t.ao t.re
 uh:A1m K t.ao "wheel"
 sj:A1m K t.ao "lengths"
 uf:A1m K t.ao "arrays"
 tz:A1m K t.ao "tables"
 m7:A1m K t.ao "lines"
 wq:A1m K t.ao "outs"
 AH:TyC K t.ao
 zN:zK0 K t.ao t.af false
 zF:zK0 K t.ao t.av false
 zi:zK0 K t.ao t.ae false
 A7:zK0 K t.ao t.c8 false
 zv:zK0 K t.ao t.am false
 zW:zK0 K t.ao t.bf false
 zY:zK0 K t.ao t.aj false
 Ah:zK0 K t.ao t.bp false
 ay:Cls K t.af
 y6:Mk K t.af t.qx
 fh:A1m K t.af "axis"
 jq:A1m K t.af "low"
 j7:A1m K t.af "high"
 gy:A1m K t.af "inner"
 dz:A1m K t.af "outer"
 fb:C2y K t.af "made_of" t.jv
 bn:TyC K t.af
 h_:zK0 K t.af t.af true
 zB:zK0 K t.af t.av false
 u5:zK0 K t.af t.ae false
 om:zK0 K t.af t.c8 false
 kl:zK0 K t.af t.am false
 z_:zK0 K t.af t.bf false
 oz:zK0 K t.af t.aj false
 ja:zK0 K t.af t.bp false
 l_:Cls K t.ci
 AC:Mk K t.ci t.ug
 lj:A1m K t.ci "name"
 mi:A1m K t.ci "axes"
 k_:A1m K t.ci "term"
 Az:TyC K t.ci
 xy:mroIn K t.ci (.type "list")=some false
 w_:mroIn K t.ci (.type "tuple")=some false
 yp:mroIn K t.ci (.type "dict")=some false
 Ak:zK0 K t.ci t.af false
 Al:zK0 K t.ci t.av false
 zZ:zK0 K t.ci t.ae false
 Ar:zK0 K t.ci t.c8 false
 Ao:zK0 K t.ci t.am false
 Ay:zK0 K t.ci t.bf false
 Aw:zK0 K t.ci t.aj false
 AA:zK0 K t.ci t.bp false
 bt:Cls K t.au
 yN:Mk K t.au t.oh
 jw:A1m K t.au "known"
 dj:A1m K t.au "lines"
 gb:A1m K t.au "lifts"
 kr:C2y K t.au "fresh_name" t.ge
 v0:C2y K t.au "lift" t.ff
 p_:C2y K t.au "lift_let" t.ii
 cq:C2y K t.au "without_sums" t.be
 AE:TyC K t.au
 zj:zK0 K t.au t.af false
 zm:zK0 K t.au t.av false
 yZ:zK0 K t.au t.ae false
 zK:zK0 K t.au t.c8 false
 zq:zK0 K t.au t.am false
 zP:zK0 K t.au t.bf false
 zu:zK0 K t.au t.aj false
 Aa:zK0 K t.au t.bp false
 gj:Cls K t.ba
 yM:Mk K t.ba t.tq
 jh:A1m K t.ba "name"
 jr:A1m K t.ba "axes"
 qv:A1m K t.ba "sums"
 qh:A1m K t.ba "term"
 Am:TyC K t.ba
 xh:mroIn K t.ba (.type "list")=some false
 vj:mroIn K t.ba (.type "tuple")=some false
 xg:mroIn K t.ba (.type "dict")=some false
 zV:zK0 K t.ba t.af false
 A9:zK0 K t.ba t.av false
 zE:zK0 K t.ba t.ae false
 Ad:zK0 K t.ba t.c8 false
 Ab:zK0 K t.ba t.am false
 Ap:zK0 K t.ba t.bf false
 Af:zK0 K t.ba t.aj false
 At:zK0 K t.ba t.bp false
 lh:Cls K t.av
 ye:Mk K t.av t.iq
 vk:A1m K t.av "left"
 uu:A1m K t.av "right"
 r_:C2y K t.av "made_of" t.jz
 bh:TyC K t.av
 kh:zK0 K t.av t.af false
 uq:zK0 K t.av t.av true
 t_:zK0 K t.av t.ae false
 n_:zK0 K t.av t.c8 true
 kg:zK0 K t.av t.am false
 vq:zK0 K t.av t.bf false
 nh:zK0 K t.av t.aj false
 jt:zK0 K t.av t.bp false
 cy:Cls K t.ae
 sn:Mk K t.ae t.nj
 c_:A1m K t.ae "number"
 a_:TyC K t.ae
 ju:zK0 K t.ae t.af false
 zh:zK0 K t.ae t.av false
 sr:zK0 K t.ae t.ae true
 m9:zK0 K t.ae t.c8 false
 ue:zK0 K t.ae t.am false
 zG:zK0 K t.ae t.bf false
 ur:zK0 K t.ae t.aj false
 i_:zK0 K t.ae t.bp false
 bq:Cls K t.aw
 jl:Mk K t.aw t.t7
 b_:A1m K t.aw "term"
 cr:A1m K t.aw "sums"
 c9:A1m K t.aw "guards"
 AM:TyC K t.aw
 zT:zK0 K t.aw t.af false
 Ac:zK0 K t.aw t.av false
 zy:zK0 K t.aw t.ae false
 Ai:zK0 K t.aw t.c8 false
 A8:zK0 K t.aw t.am false
 Ag:zK0 K t.aw t.bf false
 Aq:zK0 K t.aw t.aj false
 Av:zK0 K t.aw t.bp false
 fw:Cls K t.am
 zA:Mk K t.am t.q9
 iw:A1m K t.am "axis"
 bo:TyC K t.am
 ml:zK0 K t.am t.af false
 zO:zK0 K t.am t.av false
 u9:zK0 K t.am t.ae false
 oo:zK0 K t.am t.c8 false
 mn:zK0 K t.am t.am true
 zX:zK0 K t.am t.bf false
 vd:zK0 K t.am t.aj false
 jn:zK0 K t.am t.bp false
 rf:Cls K t.bf
 yI:Mk K t.bf t.iq
 x6:A1m K t.bf "left"
 vf:A1m K t.bf "right"
 uc:C2y K t.bf "made_of" t.mr
 bx:TyC K t.bf
 ox:zK0 K t.bf t.af false
 zU:zK0 K t.bf t.av false
 uv:zK0 K t.bf t.ae false
 qp:zK0 K t.bf t.c8 true
 oq:zK0 K t.bf t.am false
 xi:zK0 K t.bf t.bf true
 q0:zK0 K t.bf t.aj false
 kf:zK0 K t.bf t.bp false
 bu:Cls K t.ai
 yB:Mk K t.ai t.mf
 j8:A1m K t.ai "wheel"
 f_:A1m K t.ai "axes"
 dy:A1m K t.ai "tables"
 gc:A1m K t.ai "lets"
 jy:A1m K t.ai "outs"
 AB:TyC K t.ai
 zd:zK0 K t.ai t.af false
 yV:zK0 K t.ai t.av false
 yJ:zK0 K t.ai t.ae false
 zf:zK0 K t.ai t.c8 false
 y_:zK0 K t.ai t.am false
 zr:zK0 K t.ai t.bf false
 zo:zK0 K t.ai t.aj false
 zH:zK0 K t.ai t.bp false
 fe:Cls K t.aj
 yK:Mk K t.aj t.sv
 oj:A1m K t.aj "array"
 g9:A1m K t.aj "indexes"
 bw:TyC K t.aj
 ou:zK0 K t.aj t.af false
 A6:zK0 K t.aj t.av false
 ux:zK0 K t.aj t.ae false
 rc:zK0 K t.aj t.c8 false
 ni:zK0 K t.aj t.am false
 Ae:zK0 K t.aj t.bf false
 r8:zK0 K t.aj t.aj true
 mq:zK0 K t.aj t.bp false
 d_:Cls K t.bp
 AD:Mk K t.bp t.u_
 fm:A1m K t.bp "axis"
 ik:A1m K t.bp "body"
 cj:TyC K t.bp
 qm:zK0 K t.bp t.af false
 An:zK0 K t.bp t.av false
 wn:zK0 K t.bp t.ae false
 s_:zK0 K t.bp t.c8 false
 qg:zK0 K t.bp t.am false
 Ax:zK0 K t.bp t.bf false
 tw:zK0 K t.bp t.aj false
 jm:zK0 K t.bp t.bp true
 lq:Cls K t.cf
 yk:Mk K t.cf t.iq
 wf:A1m K t.cf "left"
 v9:A1m K t.cf "right"
 si:C2y K t.cf "made_of" t.j_
 bj:TyC K t.cf
 ke:zK0 K t.cf t.af false
 ut:zK0 K t.cf t.av false
 u8:zK0 K t.cf t.ae false
 nq:zK0 K t.cf t.c8 true
 ma:zK0 K t.cf t.am false
 vz:zK0 K t.cf t.bf false
 on:zK0 K t.cf t.aj false
 jj:zK0 K t.cf t.bp false
 ab:mg "isinstance"=none
 ib:mg "list"=none
 ip:mg "tuple"=none
 kq:mg "dict"=none
 pq:mg "reversed"=none
 ce:mg "len"=none
 dm:mg "range"=none
 As:mg "int"=none
 AI:mg "min"=none
 AJ:mg "max"=none
 AL:mg "zip"=none
abbrev FO (P:Program) (w:World) (base:Heap) {K:Frag} {mg:Str->Option Value} {x q:Str} {st:Stmt} {f:Addr} {fd:FuncData} {ps:List Str} (_:FQ K mg x q st f fd ps) (n:Nat) (sp:Sp):Prop:=A3h P w K mg base CX0 n f fd ps sp
abbrev FP (P:Program) (w:World) (mg:Str->Option Value) (base:Heap) {K:Frag} {x q:Str} {st:Stmt} {f:Addr} {fd:FuncData} {ps:List Str} (_:FM K x q st f fd ps) (n:Nat) (sp:Sp):Prop:=A3h P w K mg base CX0 n f fd ps sp
theorem pcl {X:Cx} {k k2:Nat} {f:Addr} {sp:Sp} {q:Str} {st:Stmt} {e:Expr} {es:List Expr} {t:TA} {p pos:Pos} (F:A3h X.prog X.w X.K X.mg X.base CX0 k f fd ps sp) (d:B0r k2 X.A) (Zz:FQ X.K X.mg x q st f fd ps) (i:PA X (e::es) t) (g:k<=k2:=by lia) (j:Gl X x:=by rfl) (a:(x == ("__debug__":Str))=false:=by decide) (h:starEach (e::es) X.env=(false,eval e X.env)::starEach es X.env:=by rfl) (c:(backTo pos (starEach es X.env)).any (·.1)=false:=by rfl):PE X (.Call (.Name x p) (e::es) [] pos) (D9w sp [] E0 t):=D5i F (d.mono g) j Zz.m Zz.F.kp Zz.b .nil B6f i a h c
theorem pmk {X:Cx} {C:Addr} {k k2:Nat} {f:Addr} {sp:Sp} {e:Expr} {es:List Expr} {t:TA} {p pos:Pos} (M:Mk X.K C f) (F:A3h X.prog X.w X.K X.mg X.base CX0 k f fd ps sp) (c:B0r k2 X.A) (j:X.mg x=some (.ref C)) (i:A9b X.K fd ps []) (h:PA X (e::es) t) (d:k+1<=k2:=by lia) (l:Gl X x:=by rfl) (a:(x == ("__debug__":Str))=false:=by decide) (g:starEach (e::es) X.env=(false,eval e X.env)::starEach es X.env:=by rfl) (b:(backTo pos (starEach es X.env)).any (·.1)=false:=by rfl):PE X (.Call (.Name x p) (e::es) [] pos) (E1a C sp [] E0 t):=D6a M F (c.mono d) l j i .nil B6f h a g b
theorem A0v (h:Nat.ble n 1000000=true):n<=sizeLine:=A2a (Nat.le_of_ble_eq_true h)
theorem E3k:(0:Int)<10:=by decide
theorem E3w:(0:Int)<15:=by decide
theorem D6i:(0:Int)<2:=by decide
theorem D9v:(0:Int)<26:=by decide
theorem D6l:(0:Int)<3:=by decide
theorem E2e:(0:Int)<4:=by decide
theorem z_50:(0:Int)<5:=by decide
theorem E3c:(0:Int)<60:=by decide
theorem E4k:(0:Int)<7:=by decide
theorem E2l:(0:Int)<8:=by decide
theorem z_90:(0:Int)<9:=by decide
theorem nH {x:Addr} (h:H x=none):∃H',A0u H H'/\H' x=some o/\upd H x o=H':=⟨_,A0e h,A0b,rfl⟩
abbrev Sro (a:Addr):Option V:=some (.ref a)
abbrev Sio (a:Int):Option V:=some (.int a)
abbrev Sso (a:Str):Option V:=some (.str a)
abbrev Sbo (a:Bool):Option V:=some (.bl a)
local macro_rules | `(tactic| walk_at "ix") => `(tactic| first | exact Or.inl rfl | exact Or.inr rfl | (simp [relabel]; rfl) | (with_unfolding_all exact Or.inl rfl) | (with_unfolding_all exact Or.inr rfl) | (with_unfolding_all decide))
local macro_rules | `(tactic| walk_at "sc") => `(tactic| exact ⟨rfl, rfl, rfl, by decide +kernel, rfl, by decide +kernel, by decide +kernel⟩)
local macro_rules | `(tactic| walk_at "ln") => `(tactic| (intro _ _ _ _ h; first | (cases h; subst_vars; rfl) | ((repeat (obtain ⟨_, h⟩ := h)); subst_vars; rfl)))
theorem B0q:A0w C0e ["value"] (A0n B6u):=by walk_at "sc"
theorem A4w:A0w ["value","fresh","key","member"] C0e (A0n A7k):=by walk_at "sc"
theorem B7t:A0w E2o ["self","name","axes","sums","term"] (A0n A9s):=by walk_at "sc"
theorem B6y:A0w E3d ["self","wheel","lengths","arrays","tables","lines","outs"] (A0n A8q):=by walk_at "sc"
theorem B4x:A0w E2k ["self","number"] (A0n A7g):=by walk_at "sc"
theorem B7d:A0w ["self","axis"] ["self","axis"] (A0n A8j):=by walk_at "sc"
theorem B7z:A0w E2q ["self","array","indexes"] (A0n A9m):=by walk_at "sc"
theorem B8n:A0w C5z ["self","left","right"] (A0n A9k):=by walk_at "sc"
theorem B3p:A0w C5z ["self","left","right"] (A0n A6p):=by walk_at "sc"
theorem B2e:A0w C5z ["self","left","right"] (A0n A5s):=by walk_at "sc"
theorem B2g:A0w C5z ["self","left","right"] (A0n A5p):=by walk_at "sc"
theorem C1l:A0w E3e ["self","axis","body"] (A0n B1i):=by walk_at "sc"
theorem B7e:A0w E2p ["self","axis","low","high","inner","outer"] (A0n A8d):=by walk_at "sc"
theorem B2c:A0w E3u ["self","inner","outer"] (A0n A5v):=by walk_at "sc"
theorem B9u:A0w E3s ["self","term","sums","guards"] (A0n A9z):=by walk_at "sc"
theorem C1f:A0w B2d ["term"] (A0n B1r):=by walk_at "sc"
theorem A7n:A0w ["part","parts","inner"] ["part"] (A0n A8r):=by walk_at "sc"
theorem A2t:A0w ["part","term","inner","outer"] ["part"] (A0n A3y):=by walk_at "sc"
theorem A4u:A0w ["term","axes","rest"] B2d (A0n A7j):=by walk_at "sc"
theorem A6h:A0w ["part","rest"] ["part"] (A0n A7p):=by walk_at "sc"
theorem C0x:A0w D4v ["self","name","axes","term"] (A0n B1o):=by walk_at "sc"
theorem B3q:A0w D7g ["self","wheel","axes","tables","lets","outs"] (A0n A6j):=by walk_at "sc"
theorem B6v:A0w A9q ["program"] (A0n A8e):=by walk_at "sc"
theorem B5e:A0w A9q ["program"] (A0n A7l):=by walk_at "sc"
theorem B6q:A0w A9q ["program"] (A0n A8f):=by walk_at "sc"
theorem A7i:A0w ["program","lines","arrays","line"] A9q (A0n B1j):=by walk_at "sc"
theorem A9n:A0w ["program","lifter","let"] A9q (A0n B1p):=by walk_at "sc"
theorem B5d:A0w ["self","known"] ["self","known"] (A0n A7t):=by walk_at "sc"
theorem A4j:A0w ["self","let","body","term"] ["self","let"] (A0n A4r):=by walk_at "sc"
theorem A4o:A0w ["self","part","within"] B1z (A0n A3u):=by walk_at "sc"
theorem A3i:A0w ["self","part","sums","term","coming","axes","name"] B1z (A0n A7f):=by walk_at "sc"
theorem A5g:A0w E2k ["self"] (A0n A4e):=by walk_at "sc"
theorem A5l:A0w ["body","guards","term","guard","inner"] ["body","guards"] (A0n B2x):=by walk_at "sc"
theorem B1g:A0w ["term","axes","part"] B2d (A0n B2t):=by walk_at "sc"
theorem C4w:A0w B2d ["term"] (A0n B3s):=by walk_at "sc"
theorem B7v:A0w D6s ["_law_script","_law_k"] (A0n A9w):=by walk_at "sc"
theorem C5o:A0w C4t ["_law_cell_here","_law_k"] (A0n B2u):=by walk_at "sc"
theorem B0n:A0w ["_law_cell_here","_law_k","_law_rest","_law_turn"] C4t (A0n B7l):=by walk_at "sc"
theorem A1u:A0w ["_law_cell_here","_law_other","_law_many_here","_law_some","_law_word","_law_rest","_law_k","_law_spot","_law_names","_law_sign","_law_made_here"] D7n (A0n A8l):=by walk_at "sc"
theorem B5b:A0w ["_law_rest"] ["_law_rest"] (A0n A7h):=by walk_at "sc"
theorem B0o:A0w ["_law_axes","_law_lengths","_law_many_here","_law_axis"] C4p (A0n B6x):=by walk_at "sc"
theorem A4z:A0w ["_law_rest","_law_given","_law_lengths","_law_most","_law_axes","_law_k","_law_axis"] D8d (A0n A9o):=by walk_at "sc"
theorem A3r:A0w ["_law_read","_law_guards","_law_rest","_law_lengths","_law_tree","_law_axis","_law_low","_law_high"] D8c (A0n A9y):=by walk_at "sc"
theorem A1q:A0w ["_law_rest","_law_array","_law_scope","_law_lengths","_law_own","_law_indexes","_law_guards","_law_step","_law_k","_law_length","_law_axis","_law_shift"] D6y (A0n A9u):=by walk_at "sc"
theorem A8c:A0w ["_law_rest","_law_arrays","_law_scope","_law_lengths","_law_own","_law_way"] D7a (A0n A9h):=by walk_at "sc"
theorem A3s:A0w ["_law_axis","_law_body","_law_rest","_law_lengths","_law_outside","_law_tree","_law_kept"] D5c (A0n B0u):=by walk_at "sc"
theorem A1k:A0w ["_law_cells","_law_at","_law_scope","_law_book","_law_room","_law_arrays","_law_lengths","_law_own","_law_rest","_law_way","_law_axis","_law_free","_law_body","_law_second","_law_inner","_law_low","_law_high","_law_outer","_law_left","_law_right"] C5n (A0n B5y):=by walk_at "sc"
theorem C1i:A0w C5f ["_law_tree","_law_lengths"] (A0n B0t):=by walk_at "sc"
theorem A2j:A0w ["_law_cells","_law_scope","_law_book","_law_most","_law_base","_law_row","_law_at","_law_tree","_law_fewer","_law_k","_law_made_here"] D7d (A0n B1b):=by walk_at "sc"
theorem A3q:A0w ["_law_script","_law_names","_law_lengths","_law_many_here","_law_k","_law_rest"] D4w (A0n A6s):=by walk_at "sc"
theorem A0t:A0w ["_law_script","_law_names","_law_lengths","_law_given","_law_arrays","_law_k","_law_rest","_law_tables","_law_lets","_law_many_here","_law_cells","_law_j","_law_axes","_law_most","_law_axis","_law_sums","_law_book","_law_tree","_law_wheel"] C5p (A0n A6r):=by walk_at "sc"
theorem B0h:A0w ["_law_tree","_law_kept","_law_known","_law_made_here"] B3g (A0n B6z):=by walk_at "sc"
theorem A7w:A0w ["_law_tree","_law_kept","_law_left","_law_right"] B3g (A0n A8s):=by walk_at "sc"
theorem A1p:A0w ["_law_program","_law_wheel","_law_lengths","_law_tables","_law_lets","_law_outs","_law_axes","_law_some","_law_kept","_law_told_here"] ["_law_program"] (A0n A5e):=by walk_at "sc"
theorem A3w:A0w ["_law_axes","_law_lengths","_law_found","_law_axis","_law_longer","_law_cell_here"] C4p (A0n A8v):=by walk_at "sc"
theorem A8i:A0w ["_law_indexes","_law_at","_law_cell_here","_law_axis","_law_shift"] ["_law_indexes","_law_at"] (A0n B7a):=by walk_at "sc"
theorem A4q:A0w ["_law_term","_law_at","_law_lengths","_law_numbers","_law_wheel","_law_total","_law_number","_law_within","_law_left","_law_right"] C4n (A0n B4i):=by walk_at "sc"
theorem A1g:A0w ["_law_program","_law_seed","_law_wheel","_law_lengths","_law_tables","_law_lets","_law_outs","_law_made_here","_law_rest","_law_name","_law_axes","_law_row","_law_cell_here","_law_number"] D6k (A0n A7r):=by walk_at "sc"
theorem A3g:A0w ["_law_program","_law_given","_law_wheel","_law_lengths","_law_tables","_law_lets","_law_outs","_law_numbers","_law_name","_law_axes","_law_cell_here"] D7w (A0n B4h):=by walk_at "sc"
theorem A7a:A0w ["_law_line","_law_sums","_law_lengths","_law_numbers","_law_wheel","_law_cell_here","_law_total","_law_turn","_law_at"] D4y (A0n B6h):=by walk_at "sc"
theorem A7x:A0w ["_law_script","_law_program","_law_given","_law_made_here","_law_due","_law_one","_law_cloth","_law_found","_law_line","_law_name","_law_axes","_law_tree"] C5p (A0n D2h):=by walk_at "sc"
theorem A4x:(["member"]:List Str).Nodup:=by decide +kernel
theorem C0d:(["name","length"]:List Str).Nodup:=by decide +kernel
theorem B8e:(["name","axes"]:List Str).Nodup:=by decide +kernel
theorem C8o:(["inner","self"]:List Str).Nodup:=by decide +kernel
theorem C8x:(["axis","coming","sums"]:List Str).Nodup:=by decide +kernel
theorem C6v:(["axis"]:List Str).Nodup:=by decide +kernel
theorem B8w:(["axis","shift"]:List Str).Nodup:=by decide +kernel
theorem C8q:(["_law_axis","_law_scope"]:List Str).Nodup:=by decide +kernel
theorem C8j:(["_law_axis","_law_axes"]:List Str).Nodup:=by decide +kernel
theorem C8k:(["_law_k","_law_cells"]:List Str).Nodup:=by decide +kernel
theorem C5s:(["_law_name","_law_lengths"]:List Str).Nodup:=by decide +kernel
theorem B5r:(["_law_name","_law_own"]:List Str).Nodup:=by decide +kernel
theorem B0x:(["_law_name","_law_own","_law_tree","_law_kept"]:List Str).Nodup:=by decide +kernel
theorem C5m:(["_law_number","_law_cell_here"]:List Str).Nodup:=by decide +kernel
theorem A3h.none {P:Program} {w:World} {base:Heap} {CX:CXT} {k:Nat} {f:Addr} {sp:Sp} (h:∀vs H Q E,¬sp vs H Q E):A3h P w K mg base CX k f fd ps sp :=
 ⟨λvs H Q E q=>(h vs H Q E q).elim,λ_ _ _ H _ _ vs Q E _ _ _ _ q=>(h vs H Q E q).elim⟩
def C6b (e:Str×List Str):PyData:= .tuple [.str e.1,.list (e.2.map PyData.str)]
def B4y (ts:List (Str×List Str)):PyData:= .list (ts.map C6b)
def C0f (xs:List Str):PyData:= .list (xs.map PyData.str)
theorem C2e:∀xs:List Str,PyData.depthAll (xs.map PyData.str)=0/\A4i (xs.map PyData.str)=xs.length
 | []=>⟨rfl,rfl⟩
 | x::r=>by
  obtain ⟨a,b⟩:=C2e r;refine ⟨?_,?_⟩
  ·simp [PyData.depthAll,PyData.depth,a]
  ·simp [A4i,cnt,b];lia
theorem A9j (xs:List Str):(C0f xs).depth<=1/\cnt (C0f xs)<=1+xs.length:=by
 obtain ⟨a,b⟩:=C2e xs;refine ⟨?_,?_⟩
 ·simp [C0f,PyData.depth,a]
 ·simp only [C0f,cnt,b];lia
theorem D8w {n:Nat}:∀ts:List (Str×List Str),(∀e∈ts,e.2.length<=n)->PyData.depthAll (ts.map C6b)<=2/\A4i (ts.map C6b)<=ts.length*(n+4)
 | [],_=>⟨by simp [PyData.depthAll],by simp [A4i]⟩
 | e::r,h=>by
  obtain ⟨f,g⟩:=D8w r λx a=>h x (.tail _ a);obtain ⟨c,b⟩:=C2e e.2;have d:=h e (.head _);refine ⟨?_,?_⟩
  ·simp only [Z0p,C6b,PyData.depthAll,PyData.depth,c]
   lia
  ·simp only [Z0p,C6b,A4i,cnt,b,Z0y,Nat.add_mul,Nat.one_mul]
   lia
theorem D1v (ts:List (Str×List Str)) (h:∀e∈ts,e.2.length<=n):(B4y ts).depth<=3/\cnt (B4y ts)<=1+ts.length*(n+4):=by
 obtain ⟨a,b⟩:=D8w ts h;refine ⟨?_,?_⟩
 ·simp only [B4y,PyData.depth];lia
 ·simp only [B4y,cnt];lia
theorem D9s:∀ts:List (Str×Int),PyData.depthAll (ts.map B1n)<=1
 | []=>by simp [PyData.depthAll]
 | e::r=>by
  have a:=D9s r;simp only [Z0p,B1n,PyData.depthAll,PyData.depth];lia
theorem D1n (ts:List (Str×Int)):(A5c ts).depth<=2:=by
 have a:=D9s ts;simp only [A5c,PyData.depth];lia
theorem B9p {H:Hp}:∀{ys:List Str} {xs:List V},A4y H xs (ys.map PyData.str)->xs=ys.map V.str
 | [],_,r=>by cases r;rfl
 | y::ys,_,r=>by
  rw [Z0p] at r
  cases r with
  | cons a r =>
   cases a
   rw [Z0p,B9p r]
theorem B6r (h:Rep H v (C0f ys)):∃p,v= .ref p/\H p=some (.lst (ys.map V.str)):=by
 obtain ⟨p,a,rfl,e,r⟩:=A5m (show Rep H v (.list (ys.map PyData.str)) from h);rw [B9p r] at e;exact i02 p rfl e
theorem C0z (e:H p=some (.lst (ys.map V.str))):Rep H (.ref p) (C0f ys):= .lst e (A4y.strs ys)
theorem D8r (h:Rep H v (C6b e)):∃b c,v= .ref b/\H b=some (.tup [.str e.1,.ref c])/\H c=some (.lst (e.2.map V.str)):=by
 unfold C6b at h
 cases h with
 | @tup b xs _ eb r =>
  cases r with
  | cons a r =>
   cases r with
   | cons a2 r =>
    cases r
    cases a
    obtain ⟨c,rfl,d⟩:=B6r a2;exact i0f b c rfl eb d
theorem D7x {e:Str×Int} (h:Rep H v (B1n e)):∃b,v= .ref b/\H b=some (.tup [.str e.1,.int e.2]):=by
 unfold B1n at h
 cases h with
 | @tup b xs _ eb r =>
  cases r with
  | cons a r =>
   cases r with
   | cons a2 r =>
    cases r
    cases a
    cases a2
    exact i02 b rfl eb
theorem C1r {α:Type} {f:α->PyData} {ts:List α} {xs:List V} (r:A4y H xs (ts.map f)) {x:V} (c:xs[i]? =some x):∃e,ts[i]? =some e/\Rep H x (f e):=by
 obtain ⟨d,a,g⟩:=r.get2 c;rw [Z1z] at a;obtain ⟨e,b,rfl⟩:=Z0i.mp a;exact i02 e b g
def A6z (A:Adr):Op3->Addr
 | .plus=>A.bf
 | .minus=>A.av
 | .times=>A.cf
inductive Ob (A:Adr) (H:Hp):V->Tm->Prop
 | num {a dx:Addr} {z:Int}:H a=some (.ins A.ae dx [("number",.int z)])->Ob A H (.ref a) (.num z)
 | place {a dx:Addr} {x:Str}:H a=some (.ins A.am dx [("axis",.str x)])->Ob A H (.ref a) (.place x)
 | read {a dx l:Addr} {x:Str} {ix:List (Str×Int)}:H a=some (.ins A.aj dx [("array",.str x),("indexes",.ref l)])->Rep H (.ref l) (A5c ix)->Ob A H (.ref a) (.read x ix)
 | sum {a dx:Addr} {x:Str} {u:V} {b:Tm}:H a=some (.ins A.bp dx [("axis",.str x),("body",u)])->Ob A H u b->Ob A H (.ref a) (.sum x b)
 | pair {a dx:Addr} {k:Op3} {u w:V} {l r:Tm}:H a=some (.ins (A6z A k) dx [("left",u),("right",w)])->Ob A H u l->Ob A H w r->Ob A H (.ref a) (.pair k l r)
 | guard {a dx:Addr} {x:Str} {lo hi:Int} {u w:V} {l r:Tm}:H a=some (.ins A.af dx [("axis",.str x),("low",.int lo),("high",.int hi),("inner",u),("outer",w)])->Ob A H u l->Ob A H w r->Ob A H (.ref a) (.guard x lo hi l r)
theorem Ob.imp (f:A0u H H') {t:Tm} (h:Ob A H v t):Ob A H' v t:=by
 induction h with
 | num e=>exact .num (f _ _ e)
 | place e=>exact .place (f _ _ e)
 | read e r=>exact .read (f _ _ e) (r.same f)
 | sum e _ ih=>exact .sum (f _ _ e) ih
 | pair e _ _ i1 i2=>exact .pair (f _ _ e) i1 i2
 | guard e _ _ i1 i2=>exact .guard (f _ _ e) i1 i2
abbrev Lt:=Str×List Str×Tm
def C0j (A:Adr) (S:Addr->Prop) (H:Hp) (v:V) (e:Lt):Prop:=∃(a b c:Addr) (n:V) (d:Unit),v= .ref a/\H a=some (.ins A.ci b [("name",.str e.1),("axes",.ref c),("term",n)])/\S c/\H c=some (.lst (e.2.1.map V.str))/\Ob A H n e.2.2
abbrev D9p (A:Adr) (S:Addr->Prop) (H:Hp) (xs:List V) (ls:List Lt):Prop:=Paired (C0j A S H) xs ls
theorem C0j.same {e:Lt} (h:C0j A S H v e) (s:A0u H H'):C0j A S H' v e:=by
 obtain ⟨a,b,c,n,d,rfl,i,f,g,j⟩:=h;exact ⟨a,(i0y b c n d rfl (s _ _ i) f (s _ _ g) (j.imp s))⟩
structure D3f (A:Adr) (H:Hp) (p:Addr) (wh:Int) (ax:List (Str×Int)) (tb:List (Str×List Str)) (ls:List Lt) (os:List Str):Prop where
 ob:∃dx a t l o,H p=some (.ins A.ai dx [("wheel",.int wh),("axes",.ref a),("tables",.ref t),("lets",.ref l),("outs",.ref o)])/\Rep H (.ref a) (A5c ax)/\Rep H (.ref t) (B4y tb)/\(∃xs,H l=some (.lst xs)/\D9p A (λ_=>True) H xs ls)/\Rep H (.ref o) (C0f os)
theorem D3f.same {b:Int} (h:D3f A H p b ax tb ls os) (s:A0u H H'):D3f A H' p b ax tb ls os:=by
 obtain ⟨c,a,t,l,o,e,j,i,⟨d,g,k⟩,f⟩:=h.ob;exact ⟨c,a,t,l,o,s _ _ e,j.same s,i.same s,(i02 d (s _ _ g) (Paired.mapP k λ_ _ z=>z.same s)),f.same s⟩
abbrev Gd:=Str×Int×Int×Bool
abbrev PT:=Tm×List Str×List Gd
noncomputable def prT:Tm->List Str->List Gd->List PT
 | .sum x b,s,g=>(.sum x b,s,g)::prT b (s++[x]) g
 | .pair k l r,s,g=>(.pair k l r,s,g)::(prT l s g++prT r s g)
 | .guard x lo hi l r,s,g=>(.guard x lo hi l r,s,g)::(prT l s (g++[(x,lo,hi,true)])++prT r s (g++[(x,lo,hi,false)]))
 | .num z,s,g=>[(.num z,s,g)]
 | .place x,s,g=>[(.place x,s,g)]
 | .read a i,s,g=>[(.read a i,s,g)]
noncomputable def B7s:Tm->List Str->List Gd->List PT
 | .sum x b,s,g=>[(b,s++[x],g)]
 | .pair _ l r,s,g=>[(l,s,g),(r,s,g)]
 | .guard x lo hi l r,s,g=>[(l,s,g++[(x,lo,hi,true)]),(r,s,g++[(x,lo,hi,false)])]
 | _,_,_=>[]
theorem C3b:∀(u:Tm) (s:List Str) (g:List Gd),prT u s g=(u,s,g)::(B7s u s g).flatMap λk=>prT k.1 k.2.1 k.2.2
 | .num _,_,_=>rfl
 | .place _,_,_=>rfl
 | .read _ _,_,_=>rfl
 | .sum x b,s,g=>by simp [prT,B7s]
 | .pair k l r,s,g=>by simp [prT,B7s]
 | .guard x lo hi l r,s,g=>by simp [prT,B7s]
theorem D1p {s:List Str} {k:PT} (h:k∈B7s u s g):dep k.1+1<=dep u:=by
 cases u with
 | num z=>cases h
 | place x=>cases h
 | read a ix=>cases h
 | sum x b=>rw [Z0w.mp h];simp [dep]
 | pair o l r =>
  simp only [B7s,Z0e,List.not_mem_nil,or_false] at h;rcases h with rfl | rfl <;> simp only [dep] <;> lia
 | guard x lo hi l r =>
  simp only [B7s,Z0e,List.not_mem_nil,or_false] at h;rcases h with rfl | rfl <;> simp only [dep] <;> lia
theorem A5w:∀(u:Tm) (s:List Str) (g:List Gd),(prT u s g).length=nod u
 | .num _,_,_=>rfl
 | .place _,_,_=>rfl
 | .read _ _,_,_=>rfl
 | .sum x b,s,g=>by simp [prT,nod,A5w b]
 | .pair k l r,s,g=>by simp [prT,nod,A5w l,A5w r]
 | .guard x lo hi l r,s,g=>by simp [prT,nod,A5w l,A5w r]
def E0f (A:Adr) (H:Hp) (v:V) (g:Gd):Prop:=∃(a b c:Addr) (u w:V),v= .ref a/\H a=some (.tup [.ref b,.bl g.2.2.2])/\H b=some (.ins A.af c [("axis",.str g.1),("low",.int g.2.1),("high",.int g.2.2.1),("inner",u),("outer",w)])
theorem E0f.same {g:Gd} (h:E0f A H v g) (s:A0u H H'):E0f A H' v g:=by
 obtain ⟨b,e,a,u,w,rfl,d,c⟩:=h;exact i03 b e (i0n a u w rfl (s _ _ d) (s _ _ c))
def A3f (A:Adr) (H:Hp) (v:V) (e:PT):Prop:=∃a g c f d b,v= .ref a/\H a=some (.ins A.aw g [("term",c),("sums",.ref f),("guards",.ref d)])/\Ob A H c e.1/\H f=some (.lst (e.2.1.map V.str))/\H d=some (.lst b)/\b.length+dep e.1<=100/\e.2.1.length+dep e.1<=100/\Paired (E0f A H) b e.2.2
theorem A3f.same {e:PT} (h:A3f A H v e) (s:A0u H H'):A3f A H' v e:=by
 obtain ⟨a,k,b,c,i,f,rfl,d,o,l,m,g,n,j⟩:=h;exact i1d a k b c i f rfl (s _ _ d) (o.imp s) (s _ _ l) (s _ _ m) g n (Paired.mapP j λ_ _ z=>z.same s)
local macro_rules | `(tactic| walk_at "lk") => `(tactic| first | with_reducible exact lk0 | (refine lk1 (by decide +kernel) ?_; walk_at "lk") | rfl)
theorem B3z {α β:Type} {F:α->β->Prop}:∀{l:List α} {m:List β},Paired F l m->∀{i:Nat} {x:α},l[i]? =some x->∃y,m[i]? =some y/\F x y
 | _,_,.nil,i,x,e=>by simp at e
 | _,_,.cons r t,0,x,e=>by simp at e;subst e;exact i02 _ rfl r
 | _,_,.cons r t,i+1,x,e=>by
  obtain ⟨y,b,a⟩:=B3z t (i:=i) (by simpa using e);exact i02 y (by simpa using b) a
theorem B2i {α β:Type} {F:α->β->Prop}:∀{a c:List α} {b d:List β},Paired F a b->Paired F c d->Paired F (a++c) (b++d)
 | _,_,_,_,.nil,h=>h
 | _,_,_,_,.cons r t,h=> .cons r (B2i t h)
def C3w (K:Frag) (f:Str):Sp:=λb H Q _=>∃(p C a:Addr) (v:V),b=[.ref p,v]/\H p=some (.ins C a [])/\Cls K C/\A1m K C f/\Q .non (upd H p (.ins C a [(f,v)]))
def C3p (K:Frag) (f g:Str):Sp:=λb H Q _=>∃(p C a:Addr) (v u:V),b=[.ref p,v,u]/\H p=some (.ins C a [])/\Cls K C/\A1m K C f/\A1m K C g/\Q .non (upd H p (.ins C a [(f,v),(g,u)]))
def C7l (n:Nat):Sp:=λe H Q _=>∃(v:V) (d:PyData),e=[v]/\Rep H v d/\PyData.depth d<=n/\cnt d<=100000/\∀(c:V) (b:Hp),A0u H b->Rep (A0s (λa=>H a=none) b) c d->Q c b
def E1z (C:Addr):Sp:=λd H Q _=>∃(a c:Addr) (b:List (Str×V)),d=[.ref a]/\H a=some (.ins C c b)/\Q (.ref a) H
def D0q (C:Addr):Sp:=λf H Q _=>∃(p:Addr) (b:List V),f=[.ref p]/\H p=some (.lst b)/\b.length<=1000/\(∀x∈b,∃a e d,x= .ref a/\H a=some (.ins C e d))/\∀(D:Addr) (c:Hp),H D=none->A0u H c->c D=some (.lst b)->Q (.ref D) c
def D7o:Sp:=λh H Q _=>∃(d:Addr) (e:List (Key×V)) (g:List PyData),h=[.ref d]/\H d=some (.dK e)/\e.length<=100000/\Paired (λ(a:Key×V) (x:PyData)=>Rep H a.2 x/\PyData.depth x<=1/\cnt x<=100000) e g/\
 ∀(p:Addr) (c:List (Key×V)) (f:Hp),H p=none->A0u H f->f p=some (.dK c)->c.map (·.1)=e.map (·.1)->Paired (λ(b:Key×V) (x:PyData)=>Rep (A0s (λa=>H a=none) f) b.2 x) c g->Q (.ref p) f
def D2p (A:Adr):Sp:=λg H Q _=>∃(p f:Addr) (a b c d e:V),g=[.ref p,a,b,c,d,e]/\H p=some (.ins A.af f [])/\Q .non (upd H p (.ins A.af f [("axis",a),("low",b),("high",c),("inner",d),("outer",e)]))
def D1w (A:Adr):Sp:=λf H Q _=>∃(p d l:Addr) (x:Str) (c:List (Str×Int)),f=[.ref p,.str x,.ref l]/\H p=some (.ins A.aj d [])/\Rep H (.ref l) (A5c c)/\c.length<=1000/\
 ∀(e:Addr) (a:Hp),a p=some (.ins A.aj d [("array",.str x),("indexes",.ref e)])->Rep (A0s (λb=>H b=none) a) (.ref e) (A5c c)->(∀b o,b≠p->H b=some o->a b=some o)->Q .non a
variable {P:Program} {w:World} {K:Frag} {mg:Str->Option Value} {base:Heap} {t:Adr}
theorem A9d (T:Txt K mg t):FP P w mg base T.di 1 (C3w K "number"):=by
 refine T.di.F.ok B4x (by walk_at "ln") λ_ A _ s H _ Q E e h=> ?_
 ·obtain ⟨p,C,b,v,rfl,c,d,a,k⟩:=h;exact i02 _ (@RS.r _ _ _ (rq3 ⟨A2d (pv 0) (pv 1) rfl⟩)) (i1b _ rfl _ rfl p C b [] rfl c d a (by decide) k)
theorem B7p (T:Txt K mg t):FP P w mg base T.jk 1 (C3w K "axis"):=by
 refine T.jk.F.ok B7d (by walk_at "ln") λ_ A _ s H _ Q E e h=> ?_
 ·obtain ⟨p,C,b,v,rfl,c,d,a,k⟩:=h;exact i02 _ (@RS.r _ _ _ (rq3 ⟨A2d (pv 0) (pv 1) rfl⟩)) (i1b _ rfl _ rfl p C b [] rfl c d a (by decide) k)
theorem A6g (T:Txt K mg t):FP P w mg base T.cn 1 (C3p K "left" "right"):=by
 refine T.cn.F.ok B8n (by walk_at "ln") λ_ A _ s H _ Q E f h=> ?_
 ·obtain ⟨p,C,a,v,u,rfl,e,b,d,c,k⟩:=h;refine i02 _ (@RS.r _ _ _ (rq1 ⟨A2d (pv 0) (pv 1) rfl⟩ (rq3 ⟨A2d (pv 0) (pv 2) rfl⟩))) (i1b _ rfl _ rfl p C a [] rfl e b d (by decide) (i1b _ rfl _ rfl p C a _ rfl A0b b c (by show 1<1000;decide) ?_));show Q V.non (upd (upd H p _) p (.ins C a (A4n "right" u (A4n "left" v []))));rw [A5o,A1i,A1a (by decide +kernel),A1i];exact k
theorem C1v (T:Txt K mg t):FP P w mg base T.p6 1 (C3p K "axis" "body"):=by
 refine T.p6.F.ok C1l (by walk_at "ln") λ_ A _ s H _ Q E f h=> ?_
 ·obtain ⟨p,C,a,v,u,rfl,e,b,d,c,k⟩:=h;refine i02 _ (@RS.r _ _ _ (rq1 ⟨A2d (pv 0) (pv 1) rfl⟩ (rq3 ⟨A2d (pv 0) (pv 2) rfl⟩))) (i1b _ rfl _ rfl p C a [] rfl e b d (by decide) (i1b _ rfl _ rfl p C a _ rfl A0b b c (by show 1<1000;decide) ?_));show Q V.non (upd (upd H p _) p (.ins C a (A4n "body" u (A4n "axis" v []))));rw [A5o,A1i,A1a (by decide +kernel),A1i];exact k
theorem A5q (h:T="NoneType"\/T="bool"\/T="int"\/T="str"\/T="tuple"):∀u,A3c (.ty "list") u->kitOne K (.type T) u=some false:=by
 rcases h with rfl | rfl | rfl | rfl | rfl <;> exact B8f (by decide +kernel) (by decide +kernel) (by decide +kernel)
theorem A6a (h:T="NoneType"\/T="bool"\/T="int"\/T="str"):∀u,A3c (.ty "tuple") u->kitOne K (.type T) u=some false:=by
 rcases h with rfl | rfl | rfl | rfl <;> exact B8f (by decide +kernel) (by decide +kernel) (by decide +kernel)
theorem A7s (h:T="NoneType"\/T="bool"\/T="int"\/T="str"):∀u,A3c (.ty "dict") u->kitOne K (.type T) u=some false:=by
 rcases h with rfl | rfl | rfl | rfl <;> exact B8f (by decide +kernel) (by decide +kernel) (by decide +kernel)
theorem C2x (T:Txt K mg t) (Ga0:A3h P w K mg base CX0 m t.fk t.ft C0e sp')
  (Z:∀(v:V) (d:PyData) (H:Hp) (Q:VK),Rep H v d->PyData.depth d+1<=n->cnt d<=100000->(∀(M:V) (H':Hp),A0u H H'->Rep (A0s (λa=>H a=none) H') M d->Q M H')->sp' [v] H Q E0) :
  A3h P w K mg base CX0 (m+1) t.fk t.ft C0e (C7l n):=by
 refine T.aq.F.ok B0q (by walk_at "ln") λ_ A _ s H _ Q E O h=> ?_
 ·obtain ⟨v,d,rfl,rp,Y,hc,k⟩:=h;have Ga1:A3h P w K mg base CX0 0 t.fi t.fg C0e (λ_ _ _ _=>False):=A3h.none λ_ _ _ _ h=>h;refine i02 _ (@RS.r _ _ _ (rq1 (rq4 (A2s (A0q A1d (by rfl) T.ab Z0d (A0a (pv 0) (A0a (A5d (v:=V.ty "list") rfl T.ib Z1o rfl) A0c)))) (rq3 (rq5 (A4p (N':=["member"]) (ix:=(List.replicate 1 none)) rfl (A2y rfl (by decide +kernel) (by decide +kernel)) (A3b rfl) (B1x (pv 0)) (λ_ _ _ _=>(A0k (i:=0) A4x rfl (.inl rfl))) (λ_ _ _ _=>(pcl Ga0 O T.aq (A0a (pv 0) A0c)))))) ⟨A0x⟩) (rq1 (rq4 (A2s (A0q A1d (by rfl) T.ab Z0d (A0a (pv 0) (A0a (A5d (v:=V.ty "tuple") rfl T.ip Z0m rfl) A0c)))) (rq3 (rq5 (A2k A5i (by rfl) T.ip Z0m (A0a (A4p (N':=["member"]) (ix:=(List.replicate 1 none)) rfl (A2y rfl (by decide +kernel) (by decide +kernel)) (A3b rfl) (B1x (pv 0)) (λ_ _ _ _=>(A0k (i:=0) A4x rfl (.inl rfl))) (λ_ _ _ _=>(pcl Ga0 O T.aq (A0a (pv 0) A0c)))) A0c)))) ⟨A0x⟩) (rq1 (rq4 (A2s (A0q A1d (by rfl) T.ab Z0d (A0a (pv 0) (A0a (A5d (v:=V.ty "dict") rfl T.kq Z2q rfl) A0c)))) (rq3 (rq5 (pcl Ga1 O T.cx (A0a (pv 0) A0c)))) ⟨A0x⟩) (rq3 (rq5 (pv 0))))))) ?_
  cases rp with
  | non =>
   refine i16 _ rfl _ _ _ _ rfl .non (A5q (.inl rfl)) false rfl (A2m ?_);refine i16 _ rfl _ _ _ _ rfl .non (A6a (.inl rfl)) false rfl (A2m ?_);exact i16 _ rfl _ _ _ _ rfl .non (A7s (.inl rfl)) false rfl (A2m (i02 _ rfl (k _ _ (A0u.refl _) .non)))
  | bl b =>
   refine i16 _ rfl _ _ _ _ rfl (.bl b) (A5q (.inr (.inl rfl))) false rfl (A2m ?_);refine i16 _ rfl _ _ _ _ rfl (.bl b) (A6a (.inr (.inl rfl))) false rfl (A2m ?_);exact i16 _ rfl _ _ _ _ rfl (.bl b) (A7s (.inr (.inl rfl))) false rfl (A2m (i02 _ rfl (k _ _ (A0u.refl _) (.bl b))))
  | int b =>
   refine i16 _ rfl _ _ _ _ rfl (.int b) (A5q (.inr (.inr (.inl rfl)))) false rfl (A2m ?_);refine i16 _ rfl _ _ _ _ rfl (.int b) (A6a (.inr (.inr (.inl rfl)))) false rfl (A2m ?_);exact i16 _ rfl _ _ _ _ rfl (.int b) (A7s (.inr (.inr (.inl rfl)))) false rfl (A2m (i02 _ rfl (k _ _ (A0u.refl _) (.int b))))
  | str b =>
   refine i16 _ rfl _ _ _ _ rfl (.str b) (A5q (.inr (.inr (.inr (.inl rfl))))) false rfl (A2m ?_);refine i16 _ rfl _ _ _ _ rfl (.str b) (A6a (.inr (.inr (.inr rfl)))) false rfl (A2m ?_);exact i16 _ rfl _ _ _ _ rfl (.str b) (A7s (.inr (.inr (.inr rfl)))) false rfl (A2m (i02 _ rfl (k _ _ (A0u.refl _) (.str b))))
  | @lst p xs ds e r =>
   have J:=r.len;have U:=C0v ds;have R:A4i ds+1<=100000:=hc;have W:PyData.depthAll ds+1<=n:=Y;refine i16 _ rfl _ _ _ _ rfl (.lst e) (B2l "list") true rfl (A5r ?_);refine .inl (i0k _ rfl p rfl ⟨_,SqL.of e⟩ λD L=> ?_)
   refine A4h (K:=K) (a:=p) (D:=D) (xs:=xs) (λi f g=>A0u H g/\g D=some (.lst f)/\A4y (A0s (λa=>H a=none/\a≠D) g) f (ds.take i)/\f.length=i)
    (i04 (A0e L) A0b (by rw [List.take_zero];exact .nil) rfl) (λi f g j=>SqL.of (j.1 _ _ e)) ?_ ?_
   ·rintro i x f g N ⟨j,c,B,y⟩;refine C6a ?_;intro N';obtain ⟨d,q,X⟩:=r.get2 N;obtain ⟨c1,c2⟩:=C9o q;have hi:i<xs.length:=(Z03.mp N).1;refine i05 True.intro _ rfl (Z x d g _ (X.same j) (by lia) (by lia) λM H5 C G=> ?_);have u:¬(H D=none/\D≠D):=λz=>z.2 rfl;refine i0h (C _ _ c) (A1l (by lia)) (A0o (j.trans C) L) A0b ?_ (by simp [y]);rw [Z14,q];show A4y _ (f++[M]) (ds.take i++[d]);refine (B.same (A2i (A0g C) u)).snoc (G.same ((A2x (A0u.refl _) λa o _ I=>⟨j.free I,λz=> ?_⟩).trans (A2i (A0u.refl _) u)));subst z;rw [c] at I;cases I
   ·rintro f g ⟨j,c,B,y⟩;refine k (.ref D) g j (.lst (A0h L c) ?_);rw [J,Z18] at B;exact B.same (A2x (A0u.refl _) λa o _ h=>h.1)
  | @tup p xs ds e r =>
   have J:=r.len;have U:=C0v ds;have R:A4i ds+1<=100000:=hc;have W:PyData.depthAll ds+1<=n:=Y;refine i16 _ rfl _ _ _ _ rfl (.tup e) (A5q (.inr (.inr (.inr (.inr rfl))))) false rfl (A2m ?_);refine i16 _ rfl _ _ _ _ rfl (.tup e) (B2l "tuple") true rfl (A5r ?_);refine .inr (i0k _ rfl p rfl ⟨_,SqT.of e⟩ λD L=> ?_)
   refine C9c (K:=K) (a:=p) (D:=D) (xs:=xs) (λi f g=>A0u H g/\g D=some (.lst f)/\A4y (A0s (λa=>H a=none/\a≠D) g) f (ds.take i)/\f.length=i)
    (i04 (A0e L) A0b (by rw [List.take_zero];exact .nil) rfl) (λi f g j=>SqT.of (j.1 _ _ e)) ?_ ?_
   ·rintro i x f g N ⟨j,c,B,y⟩;refine C6a ?_;intro N';obtain ⟨d,q,X⟩:=r.get2 N;obtain ⟨c1,c2⟩:=C9o q;have hi:i<xs.length:=(Z03.mp N).1;refine i05 True.intro _ rfl (Z x d g _ (X.same j) (by lia) (by lia) λM H5 C G=> ?_);have u:¬(H D=none/\D≠D):=λz=>z.2 rfl;refine i0h (C _ _ c) (A1l (by lia)) (A0o (j.trans C) L) A0b ?_ (by simp [y]);rw [Z14,q];show A4y _ (f++[M]) (ds.take i++[d]);refine (B.same (A2i (A0g C) u)).snoc (G.same ((A2x (A0u.refl _) λa o _ I=>⟨j.free I,λz=> ?_⟩).trans (A2i (A0u.refl _) u)));subst z;rw [c] at I;cases I
   ·rintro f g ⟨j,c,B,y⟩;refine i07 D f rfl (.inl ⟨SqL.of c,λl S=> ?_⟩);refine k (.ref l) _ (j.trans (A0e S)) (.tup (A0h (j.free S) A0b) ?_);rw [J,Z18] at B;exact B.same ((A2x (A0u.refl _) λa o _ h=>h.1).trans (A0g (A0e S)))
theorem B0g (T:Txt K mg t):∀n:Nat,A3h P w K mg base CX0 (n+1) t.fk t.ft C0e (C7l n)
 | 0=>C2x T (sp':=λ_ _ _ _=>False) (m:=0) (A3h.none λ_ _ _ _ h=>h) λv d H Q _ h=>absurd h (by lia)
 | n+1=>C2x T (B0g T n) λv d H Q a c b k=>(i0p v d rfl a (by lia) b k)
theorem D6q (T:Txt K mg t) {C:Addr} (cl:Cls K C) (tc:TyC K C) (d:mroIn K C (.type "list")=some false) (f:mroIn K C (.type "tuple")=some false) (g:mroIn K C (.type "dict")=some false):A3h P w K mg base CX0 1 t.fk t.ft C0e (E1z C):=by
 refine T.aq.F.ok B0q (by walk_at "ln") λ_ A _ s H _ Q E b h=> ?_
 ·obtain ⟨a,l,j,rfl,e,k⟩:=h;have Ga0:A3h P w K mg base CX0 0 t.fk t.ft C0e (λ_ _ _ _=>False):=A3h.none λ_ _ _ _ h=>h;have c:A8a K H (.ref a) (.ref C):= .ins e cl tc.ha tc.hn tc.htk tc.hm;have Ga1:A3h P w K mg base CX0 0 t.fi t.fg C0e (λ_ _ _ _=>False):=A3h.none λ_ _ _ _ h=>h;refine i02 _ (@RS.r _ _ _ (rq1 (rq4 (A2s (A0q A1d (by rfl) T.ab Z0d (A0a (pv 0) (A0a (A5d (v:=V.ty "list") rfl T.ib Z1o rfl) A0c)))) (rq3 (rq5 (A4p (N':=["member"]) (ix:=(List.replicate 1 none)) rfl (A2y rfl (by decide +kernel) (by decide +kernel)) (A3b rfl) (B1x (pv 0)) (λ_ _ _ _=>(A0k (i:=0) A4x rfl (.inl rfl))) (λ_ _ _ _=>(pcl Ga0 b T.aq (A0a (pv 0) A0c)))))) ⟨A0x⟩) (rq1 (rq4 (A2s (A0q A1d (by rfl) T.ab Z0d (A0a (pv 0) (A0a (A5d (v:=V.ty "tuple") rfl T.ip Z0m rfl) A0c)))) (rq3 (rq5 (A2k A5i (by rfl) T.ip Z0m (A0a (A4p (N':=["member"]) (ix:=(List.replicate 1 none)) rfl (A2y rfl (by decide +kernel) (by decide +kernel)) (A3b rfl) (B1x (pv 0)) (λ_ _ _ _=>(A0k (i:=0) A4x rfl (.inl rfl))) (λ_ _ _ _=>(pcl Ga0 b T.aq (A0a (pv 0) A0c)))) A0c)))) ⟨A0x⟩) (rq1 (rq4 (A2s (A0q A1d (by rfl) T.ab Z0d (A0a (pv 0) (A0a (A5d (v:=V.ty "dict") rfl T.kq Z2q rfl) A0c)))) (rq3 (rq5 (pcl Ga1 b T.cx (A0a (pv 0) A0c)))) ⟨A0x⟩) (rq3 (rq5 (pv 0))))))) ?_;refine i16 _ rfl _ _ _ _ rfl c (C9j d (by decide +kernel)) false rfl (A2m ?_);refine i16 _ rfl _ _ _ _ rfl c (C9j f (by decide +kernel)) false rfl (A2m ?_);exact i16 _ rfl _ _ _ _ rfl c (C9j g (by decide +kernel)) false rfl (A2m (i02 _ rfl k))
theorem C7q (T:Txt K mg t) {C:Addr} (cl:Cls K C) (tc:TyC K C) (z:mroIn K C (.type "list")=some false) (o:mroIn K C (.type "tuple")=some false) (q:mroIn K C (.type "dict")=some false):A3h P w K mg base CX0 2 t.fk t.ft C0e (D0q C):=by
 have Ga0:= @D6q P w K mg base t T _ cl tc z o q;refine T.aq.F.ok B0q (by walk_at "ln") λ_ A _ s H _ Q E j h=> ?_
 ·obtain ⟨p,xs,rfl,e,G,u,k⟩:=h;have Ga1:A3h P w K mg base CX0 0 t.fi t.fg C0e (λ_ _ _ _=>False):=A3h.none λ_ _ _ _ h=>h;refine i02 _ (@RS.r _ _ _ (rq1 (rq4 (A2s (A0q A1d (by rfl) T.ab Z0d (A0a (pv 0) (A0a (A5d (v:=V.ty "list") rfl T.ib Z1o rfl) A0c)))) (rq3 (rq5 (A4p (N':=["member"]) (ix:=(List.replicate 1 none)) rfl (A2y rfl (by decide +kernel) (by decide +kernel)) (A3b rfl) (B1x (pv 0)) (λ_ _ _ _=>(A0k (i:=0) A4x rfl (.inl rfl))) (λ_ _ _ _=>(pcl Ga0 j T.aq (A0a (pv 0) A0c)))))) ⟨A0x⟩) (rq1 (rq4 (A2s (A0q A1d (by rfl) T.ab Z0d (A0a (pv 0) (A0a (A5d (v:=V.ty "tuple") rfl T.ip Z0m rfl) A0c)))) (rq3 (rq5 (A2k A5i (by rfl) T.ip Z0m (A0a (A4p (N':=["member"]) (ix:=(List.replicate 1 none)) rfl (A2y rfl (by decide +kernel) (by decide +kernel)) (A3b rfl) (B1x (pv 0)) (λ_ _ _ _=>(A0k (i:=0) A4x rfl (.inl rfl))) (λ_ _ _ _=>(pcl Ga0 j T.aq (A0a (pv 0) A0c)))) A0c)))) ⟨A0x⟩) (rq1 (rq4 (A2s (A0q A1d (by rfl) T.ab Z0d (A0a (pv 0) (A0a (A5d (v:=V.ty "dict") rfl T.kq Z2q rfl) A0c)))) (rq3 (rq5 (pcl Ga1 j T.cx (A0a (pv 0) A0c)))) ⟨A0x⟩) (rq3 (rq5 (pv 0))))))) ?_;refine i16 _ rfl _ _ _ _ rfl (.lst e) (B2l "list") true rfl (A5r ?_);refine .inl (i0k _ rfl p rfl ⟨_,SqL.of e⟩ λD l=> ?_)
  refine A4h (K:=K) (a:=p) (D:=D) (xs:=xs) (λi f c=>A0u H c/\c D=some (.lst f)/\f=xs.take i)
   (i00 (A0e l) A0b rfl) (λi f c d=>SqL.of (d.1 _ _ e)) ?_ ?_
  ·rintro i x f c g ⟨d,b,rfl⟩;refine C6a ?_;intro N';obtain ⟨a,n,m,rfl,B⟩:=u x (Z13 g);have y:(xs.take i).length<=xs.length:=by rw [Z0x];lia
   refine ⟨True.intro,(i0x _ rfl a n m rfl (d _ _ B) b (i04 (A1l (by lia)) (A0o d l) A0b ?_))⟩;rw [Z14,g];rfl
  ·rintro f c ⟨d,b,rfl⟩;rw [Z18] at b;exact k D c l d b
theorem B5i (T:Txt K mg t):FO P w base T.cx 3 D7o:=by
 have Ga0:= @B0g P w K mg base t T 1;refine T.cx.F.ok A4w (by walk_at "ln") λ_ A _ s H _ Q E hr h=> ?_
 ·obtain ⟨d,c,ds,rfl,u,hl,D,k⟩:=h;have hu:=A8b hr;refine i02 _ (@RS.r _ _ _ ⟨D2o (@A1t _ _ _ _ _ (@A3e _ _ 1 _ _ _ _ A4w.nd rfl (.inl rfl) B2p rfl (.inl rfl)) (@A1t _ _ _ _ _ (C6y PassesOwn.never rfl (D3i (E0e PySem.F.plainAttrs_dict PySem.F.slot_dict_items PySem.F.type_dict_items D1e (pv 0))) (A3v (n:=2) rfl (A0r (A0k (i:=2) A4w.nd rfl (.inl rfl)) (A0r (A0k (i:=3) A4w.nd rfl (.inl rfl)) A2p))) (@A2z _ _ _ (@A6k _ _ _ _ _ _ _ _ _ hu (pv 1) (pv 2) (pcl Ga0 hr T.aq (A0a (pv 3) A0c)) rfl))) (C6g (@A2z _ _ _ (@B3y _ _ _ _ (pv 1))))))⟩) ?_;intro ap;have nd:=ap.1 d c u;refine λp N=> ?_;have J:d≠p:=A0z u N;have g:upd H p (.dK []) d=some (.dK c):=by rw [A0i J];exact u
  refine i06 _ rfl (.inr (.inr (.inl ⟨rfl,.inl ⟨_,g⟩⟩))) (i0p d _ rfl rfl g (.inl ⟨_,rfl⟩) λB j=> ?_);have vp:p≠B:=A0z A0b j;have dv:d≠B:=A0z g j;refine i0r B d _ rfl A0b (by rw [A0i dv];exact g) (.inl (i02 c rfl λo=> ?_));have S:H B=none:=by rw [A0i vp.symm] at j;exact j
  have g0:A0u (upd H d (.frz o (.dK c))) (upd (upd (upd H p (.dK [])) B (C4v B d)) d (.frz o (.dK c))):=λb v e=>by
   by_cases hb:b=d
   ·subst hb;rw [A0b] at e⊢;exact e
   ·rw [A0i hb] at e⊢;rw [A0i (A0z e S),A0i (A0z e N)];exact e
  have R:upd H d (.frz o (.dK c)) p=none:=by rw [A0i J.symm];exact N
  have a2:∀b,upd H d (.frz o (.dK c)) b=none->H b=none:=λb e=>by
   by_cases hb:b=d
   ·subst hb;rw [A0b] at e;cases e
   ·rw [A0i hb] at e;exact e
  refine D0e (L:=c.map λq=>(kV q.1,q.2)) (λi Z f=>∃(o2 o3:Option V) (l:List (Key×V)),Z=[Sro d,Sro p,o2,o3]/\A0u (upd H d (.frz o (.dK c))) f/\f p=some (.dK l)/\l.map (·.1)=(c.take i).map (·.1)/\Paired (λ(b:Key×V) (x:PyData)=>Rep (A0s (λa=>H a=none/\a≠p) f) b.2 x) l (ds.take i))
   (i0u none none [] rfl g0 (by rw [A0i J.symm,A0i vp,A0b]) rfl .nil) (by rintro i Z f ⟨_,_,_,_,m,_⟩;exact m _ _ A0b) ?_ ?_
  ·rintro i kx vx q Z f hx hq ⟨o2,o3,l,rfl,m,O,y,M⟩;refine B3x ?_;intro D';rw [Z1z] at hx;obtain ⟨⟨k',v⟩,I,e⟩:=Z0i.mp hx;cases e;obtain ⟨x,U,rv,Y,a1⟩:=B3z D I;have C:A0u f (upd f q (.tup [kV k',v])):=A0e hq;have W:Rep (upd f q (.tup [kV k',v])) v x:=(rv.imp2 (λb ys z=>m _ _ (by rw [A0i (A3m z u (by intro w;cases w))];exact z)) λb ys z=>m _ _ (by rw [A0i (A3m z u (by intro w;cases w))];exact z)).same C;refine i1a q _ rfl (SqT.of A0b) rfl _ _ rfl _ _ rfl rfl (i0s _ rfl v x rfl W Y ⟨a1,λv' H6 X r6=> ?_⟩);have h6:=X _ _ (C _ _ O);have lw:l.length=(c.take i).length:=by have:=congrArg List.length y;simpa using this
   have a4:(c.take i).length<=c.length:=by rw [Z0x];lia
   refine i0w _ rfl _ rfl p _ rfl (C0g.k (k:=k') h6 (A1l (by lia))) ?_;have G:¬(H p=none/\p≠p):=λz=>z.2 rfl;refine i0u _ _ _ rfl (A0o (m.trans (C.trans X)) R) A0b ?_ ?_
   ·rw [B2n nd I l y v',Z14,I,Z0s,Z0s,y];rfl
   ·rw [B2n nd I l y v',Z14,U];refine B2i (Paired.mapP M λ_ _ z=>z.same (A2i (A0g (C.trans X)) G)) (.cons (r6.same ((A2x (A0u.refl _) λa ob ea ha=>⟨?_,λz=> ?_⟩).trans (A2i (A0u.refl _) G))) .nil)
    ·exact a2 a (m.free (C.free ha))
    ·subst z;rw [C _ _ O] at ha;cases ha
  ·rintro Z f ⟨o2,o3,l,rfl,m,O,y,M⟩;have ld:=Paired.length D;rw [Z08,Z18] at y;rw [Z08,ld,Z18] at M;have a0:f d=some (.frz o (.dK c)):=m _ _ A0b;refine i0g d o _ a0 (i0a (.inl ⟨_,rfl⟩) (λo' u' z=>by have z:H d=some (.frz o' u'):=z;rw [u] at z;cases z) _ rfl ?_);have a3:¬(H d=none/\d≠p):=λz=>by rw [u] at z;cases z.1
   exact k p l _ N (C9b u m) (by rw [A0i J.symm];exact O) y (Paired.mapP M λ_ _ z=>z.same ((A2i (A0u.refl _) a3).trans (A2x (A0u.refl _) λa ob _ h=>h.1)))
theorem D5s (T:Txt K mg t):FO P w base T.aq 4 D7o:=by
 have Ga1:= @B5i P w K mg base t T;have Ga0:A3h P w K mg base CX0 0 t.fk t.ft C0e (λ_ _ _ _=>False):=A3h.none λ_ _ _ _ h=>h;refine T.aq.F.ok B0q (by walk_at "ln") λ_ A _ s H _ Q E a h=> ?_
 ·have c:=h;obtain ⟨d,e,f,rfl,b,_⟩:=h;refine i02 _ (@RS.r _ _ _ (rq1 (rq4 (A2s (A0q A1d (by rfl) T.ab Z0d (A0a (pv 0) (A0a (A5d (v:=V.ty "list") rfl T.ib Z1o rfl) A0c)))) (rq3 (rq5 (A4p (N':=["member"]) (ix:=(List.replicate 1 none)) rfl (A2y rfl (by decide +kernel) (by decide +kernel)) (A3b rfl) (B1x (pv 0)) (λ_ _ _ _=>(A0k (i:=0) A4x rfl (.inl rfl))) (λ_ _ _ _=>(pcl Ga0 a T.aq (A0a (pv 0) A0c)))))) ⟨A0x⟩) (rq1 (rq4 (A2s (A0q A1d (by rfl) T.ab Z0d (A0a (pv 0) (A0a (A5d (v:=V.ty "tuple") rfl T.ip Z0m rfl) A0c)))) (rq3 (rq5 (A2k A5i (by rfl) T.ip Z0m (A0a (A4p (N':=["member"]) (ix:=(List.replicate 1 none)) rfl (A2y rfl (by decide +kernel) (by decide +kernel)) (A3b rfl) (B1x (pv 0)) (λ_ _ _ _=>(A0k (i:=0) A4x rfl (.inl rfl))) (λ_ _ _ _=>(pcl Ga0 a T.aq (A0a (pv 0) A0c)))) A0c)))) ⟨A0x⟩) (rq1 (rq4 (A2s (A0q A1d (by rfl) T.ab Z0d (A0a (pv 0) (A0a (A5d (v:=V.ty "dict") rfl T.kq Z2q rfl) A0c)))) (rq3 (rq5 (pcl Ga1 a T.cx (A0a (pv 0) A0c)))) ⟨A0x⟩) (rq3 (rq5 (pv 0))))))) ?_;refine i16 _ rfl _ _ _ _ rfl (.dK b) (B8f (by decide +kernel) (by decide +kernel) (by decide +kernel)) false rfl (A2m ?_);refine i16 _ rfl _ _ _ _ rfl (.dK b) (B8f (by decide +kernel) (by decide +kernel) (by decide +kernel)) false rfl (A2m ?_);exact i16 _ rfl _ _ _ _ rfl (.dK b) (B2l "dict") true rfl (A5r (i02 _ rfl c))
def D9d (A:Adr):Sp:=λa H Q E=>((C7l 3 a H Q E\/D0q A.ci a H Q E)\/D0q A.ba a H Q E)\/D7o a H Q E
theorem C2l (T:Txt K mg t):FO P w base T.aq 4 (D9d t) :=
 A3h.or (A3h.or (A3h.or (B0g T 3) ((C7q T T.l_ T.Az T.xy T.w_ T.yp).mono (by lia))) ((C7q T T.gj T.Am T.xh T.vj T.xg).mono (by lia))) (D5s T)
theorem B0k (T:Txt K mg t):FP P w mg base T.gm 1 (D2p t):=by
 refine T.gm.F.ok B7e (by walk_at "ln") λ_ A _ s H _ Q E n h=> ?_
 ·obtain ⟨p,f,a,b,c,d,e,rfl,j,k⟩:=h;have g:A4n "low" b (A4n "axis" a [])=([("axis",a),("low",b)]:List (Str×V)):=by rw [A1i,A1a (by decide +kernel),A1i]
  have l:A4n "high" c ([("axis",a),("low",b)]:List (Str×V))=([("axis",a),("low",b),("high",c)]:List (Str×V)):=by rw [A1a (by decide +kernel),A1a (by decide +kernel),A1i]
  have m:A4n "inner" d ([("axis",a),("low",b),("high",c)]:List (Str×V))=([("axis",a),("low",b),("high",c),("inner",d)]:List (Str×V)):=by rw [A1a (by decide +kernel),A1a (by decide +kernel),A1a (by decide +kernel),A1i]
  have i:A4n "outer" e ([("axis",a),("low",b),("high",c),("inner",d)]:List (Str×V))=([("axis",a),("low",b),("high",c),("inner",d),("outer",e)]:List (Str×V)):=by rw [A1a (by decide +kernel),A1a (by decide +kernel),A1a (by decide +kernel),A1a (by decide +kernel),A1i]
  refine i02 _ (@RS.r _ _ _ (rq1 ⟨A2d (pv 0) (pv 1) rfl⟩ (rq1 ⟨A2d (pv 0) (pv 2) rfl⟩ (rq1 ⟨A2d (pv 0) (pv 3) rfl⟩ (rq1 ⟨A2d (pv 0) (pv 4) rfl⟩ (rq3 ⟨A2d (pv 0) (pv 5) rfl⟩)))))) (i1b _ rfl _ rfl p _ f [] rfl j T.ay T.fh (by decide) (i1b _ rfl _ rfl p _ f _ rfl A0b T.ay T.jq (by show 1<1000;decide) ?_));rw [A5o,g];refine i1b _ rfl _ rfl p _ f _ rfl A0b T.ay T.j7 (by show 2<1000;decide) ?_;rw [A5o,l];refine i1b _ rfl _ rfl p _ f _ rfl A0b T.ay T.gy (by show 3<1000;decide) ?_;rw [A5o,m];refine i1b _ rfl _ rfl p _ f _ rfl A0b T.ay T.dz (by show 4<1000;decide) ?_;show Q V.non (upd (upd H p _) p _);rw [A5o,i];exact k
theorem B1w (T:Txt K mg t):FP P w mg base T.ie 5 (D1w t):=by
 have Ga0:= @B0g P w K mg base t T 2;refine T.ie.F.ok B7z (by walk_at "ln") λ_ A _ s H _ Q E u h=> ?_
 ·obtain ⟨p,f,l,x,ix,rfl,j,B,C,k⟩:=h;have y:=D3m (ix:=ix);refine i02 _ (@RS.r _ _ _ (rq1 ⟨A2d (pv 0) (pv 1) rfl⟩ (rq3 ⟨A2d (pv 0) (pcl Ga0 u T.aq (A0a (pv 2) A0c)) rfl⟩))) (i1b _ rfl _ rfl p _ f [] rfl j T.fe T.oj (by decide) ?_);refine i0s _ rfl (.ref l) (A5c ix) rfl (B.ins j) D2l ⟨by lia,λD G m d=> ?_⟩;have c:=m _ _ (A0b (H:=H) (a:=p));obtain ⟨n,I,rfl,J,L⟩:=A5m (show Rep _ D (.list (ix.map B1n)) from d);refine i15 _ rfl p _ f _ rfl c T.fe T.g9 (by show 1<1000;decide) ?_;show Q V.non (upd G p (.ins t.aj f (A4n "indexes" (.ref n) (A4n "array" (.str x) []))));rw [A1i,A1a (by decide +kernel),A1i]
  have g:∀{q:Addr},upd H p (.ins t.aj f (A4n "array" (.str x) [])) q=none->H q=none:=λ{q} z=>by
   by_cases zb:q=p
   ·subst zb;rw [A0b] at z;cases z
   ·rw [A0i zb] at z;exact z
  refine k n _ A0b (d.imp2 (λq v z=>A0h (g (A0l z).1) (by rw [A0i (A3m (A0l z).2 c (by intro z;cases z))];exact (A0l z).2)) λq v z=>A0h (g (A0l z).1) (by rw [A0i (A3m (A0l z).2 c (by intro z;cases z))];exact (A0l z).2)) λb o i e=> ?_;rw [A0i i];exact m _ _ (by rw [A0i i];exact e)
def KT (H H':Hp):Prop:=∀p a,H p=some (.tup a)->H' p=some (.tup a)
def KB (p:Addr) (H H':Hp):Prop:=∀b o,b≠p->H b=some o->H' b=some o
theorem KB.upd (k:KB p H H'):KB p H (upd H' p o):=λb u a e=>by rw [A0i a];exact k b u a e
theorem KB.refl:KB p H H:=λ_ _ _ e=>e
theorem KB.trans (a:KB p H H') (b:KB p H' H2):KB p H H2:=λc o d e=>b c o d (a c o d e)
theorem KB.of (s:A0u H H'):KB p H H':=λb o _ e=>s _ _ e
theorem KB.free {b:Addr} {u:HO} (k:KB p H H') (d:H' p=some u) (a:H' b=none):H b=none:=by
 cases e:H b with
 | none=>rfl
 | some o =>
  have c:b≠p:=λz=>by subst z;rw [d] at a;cases a
  rw [k b o c e] at a;cases a
theorem KB.same (s:A0u H H2) (k:KB p H2 H') (a:H p=none):A0u H H':=λb o e=>k b o (A0z e a) (s _ _ e)
abbrev AR (S:Addr->Prop) (H:Hp) (kvs:List (Key×V)) (es:List (Str×List Str)):Prop:=Paired (λ(p:Key×V) (e:Str×List Str)=>p.1=Sum.inr e.1/\∃b,p.2= .ref b/\S b/\H b=some (.lst (e.2.map V.str))) kvs es
theorem AR.imp {S':Addr->Prop} (h:AR S H kvs es) (f:∀b xs,S b->H b=some (.lst xs)->S' b/\H' b=some (.lst xs)):AR S' H' kvs es :=
 Paired.mapP h (by rintro _ _ ⟨d,b,e,c,a⟩;exact ⟨d,(i06 b e ((f b _ c a).1) ((f b _ c a).2))⟩)
theorem AR.same (h:AR S H kvs es) (s:A0u H H'):AR S H' kvs es:=h.imp λb a z e=>⟨z,s _ _ e⟩
theorem AR.src {S:Addr->Prop} {H:Hp}:∀{kvs:List (Key×V)} {es:List (Str×List Str)},AR S H kvs es->(∀e∈es,e.2.length<=100)->Paired (λ(a:Key×V) (x:PyData)=>Rep H a.2 x/\PyData.depth x<=1/\cnt x<=100000) kvs (es.map λe=>C0f e.2)
 | _,_,.nil,_=> .nil
 | _,_,@Paired.cons _ _ _ p e _ _ ⟨_,b,z2,_,z4⟩ t,h=>by
  obtain ⟨d,f⟩:=A9j e.2;have:=h e (.head _);exact .cons (i00 (by rw [z2];exact C0z z4) d (by show cnt (C0f e.2)<=100000;lia)) (AR.src t λx c=>h x (.tail _ c))
theorem E0i {S S':Addr->Prop} {H H':Hp}:∀{kvs c:List (Key×V)} {es:List (Str×List Str)},AR S H kvs es->c.map (·.1)=kvs.map (·.1)->Paired (λ(b:Key×V) (x:PyData)=>Rep (A0s S' H') b.2 x) c (es.map λe=>C0f e.2)->AR S' H' c es
 | _,[],_,.nil,_,_=> .nil
 | _,_::_,_,.nil,ks,_=>by cases ks
 | _,[],_,.cons _ _,ks,_=>by cases ks
 | _,q::r,_,@Paired.cons _ _ _ p e _ _ ⟨z1,_⟩ t,ks,pr=>by
  rw [Z0p,Z0p] at ks;injection ks with k1 k2;rw [Z0p] at pr
  cases pr with
  | cons a pr =>
   obtain ⟨b,f,d⟩:=B6r a;exact .cons ⟨k1.trans z1,(i06 b f ((A0l d).1) ((A0l d).2))⟩ (E0i t k2 pr)
abbrev D2d (kvs:List (Key×V)) (a:List Int):Prop:=Paired (λ(p:Key×V) (i:Int)=>p.2= .int i) kvs a
theorem C4e {H:Hp}:∀{kvs:List (Key×V)} {b:List Int},D2d kvs b->Paired (λ(a:Key×V) (x:PyData)=>Rep H a.2 x/\PyData.depth x<=1/\cnt x<=100000) kvs (b.map PyData.int)
 | _,_,.nil=> .nil
 | _,_,.cons a t=> .cons (i00 (by rw [a];exact .int _) (by simp [PyData.depth]) (by simp [cnt])) (C4e t)
theorem C9i {S:Addr->Prop} {H:Hp}:∀{kvs c:List (Key×V)} {d:List Int},D2d kvs d->c.map (·.1)=kvs.map (·.1)->Paired (λ(b:Key×V) (x:PyData)=>Rep (A0s S H) b.2 x) c (d.map PyData.int)->c=kvs
 | _,[],_,.nil,_,_=>rfl
 | _,_::_,_,.nil,ks,_=>by cases ks
 | _,[],_,.cons _ _,ks,_=>by cases ks
 | _,q::r,_,@Paired.cons _ _ _ p i _ _ a t,ks,pr=>by
  rw [Z0p,Z0p] at ks;injection ks with k1 k2;rw [Z0p] at pr
  cases pr with
  | cons b pr =>
   rw [C9i t k2 pr];have e:=C2i b;have:q=p:=Prod.ext k1 (e.trans a.symm);rw [this]
def C8a (A:Adr):Sp:=λf H Q _=>∃(p e l m:Addr) (n:V) (x:Str) (b d:List Str),f=[.ref p,.str x,.ref l,.ref m,n]/\H p=some (.ins A.ba e [])/\H l=some (.lst (b.map V.str))/\H m=some (.lst (d.map V.str))/\b.length<=1000/\d.length<=1000/\
 ∀(c u:Addr) (a:Hp),H c=none->H u=none->a p=some (.ins A.ba e [("name",.str x),("axes",.ref c),("sums",.ref u),("term",n)])->a c=some (.lst (b.map V.str))->a u=some (.lst (d.map V.str))->KB p H a->Q .non a
abbrev clo (A:Adr) (dx:Addr) (c:Int) (l a tb b o:Addr):HO:= .ins A.ao dx [("wheel",.int c),("lengths",.ref l),("arrays",.ref a),("tables",.ref tb),("lines",.ref b),("outs",.ref o)]
def D2v (A:Adr):Sp:=λC H Q _=>∃(p h r y u v w:Addr) (s:Int) (i t:List (Key×V)) (B:List Int) (g:List (Str×List Str)) (l k:List Str) (f:List V) (S:Addr->Prop),C=[.ref p,.int s,.ref r,.ref y,.ref u,.ref v,.ref w]/\H p=some (.ins A.ao h [])/\
 H r=some (.dK i)/\D2d i B/\i.length<=1000/\H y=some (.dK t)/\AR S H t g/\g.length<=1000/\(∀e∈g,e.2.length<=100)/\H u=some (.lst (l.map V.str))/\l.length<=1000/\H v=some (.lst f)/\f.length<=1000/\(∀x∈f,∃a h z,x= .ref a/\a≠p/\H a=some (.ins A.ba h z))/\H w=some (.lst (k.map V.str))/\k.length<=1000/\
 ∀(o m q j n:Addr) (d:List (Key×V)) (c:Hp),c p=some (clo A h s o m q j n)->H o=none->c o=some (.dK i)->H m=none->c m=some (.dK d)->AR (λb=>H b=none) c d g->H q=none->c q=some (.lst (l.map V.str))->H j=none->c j=some (.lst f)->H n=none->c n=some (.lst (k.map V.str))->KB p H c->Q .non c
def D1d (A:Adr):Sp:=λf H Q _=>∃(p e l:Addr) (n:V) (x:Str) (d:List Str),f=[.ref p,.str x,.ref l,n]/\H p=some (.ins A.ci e [])/\H l=some (.lst (d.map V.str))/\d.length<=1000/\
 ∀(c:Addr) (a:Hp),H c=none->a p=some (.ins A.ci e [("name",.str x),("axes",.ref c),("term",n)])->a c=some (.lst (d.map V.str))->(∀b o,b≠p->H b=some o->a b=some o)->Q .non a
def D1o (A:Adr):Sp:=λr H Q _=>∃(p d a t l o:Addr) (i:Int) (g:List (Str×Int)) (f:List (Str×List Str)) (c:List V) (h:List Str),r=[.ref p,.int i,.ref a,.ref t,.ref l,.ref o]/\H p=some (.ins A.ai d [])/\
 Rep H (.ref a) (A5c g)/\g.length<=1000/\Rep H (.ref t) (B4y f)/\f.length<=1000/\(∀e∈f,e.2.length<=10)/\H l=some (.lst c)/\c.length<=1000/\(∀x∈c,∃a d q,x= .ref a/\a≠p/\H a=some (.ins A.ci d q))/\H o=some (.lst (h.map V.str))/\h.length<=1000/\
 ∀(j n m k:Addr) (b:Hp),b p=some (.ins A.ai d [("wheel",.int i),("axes",.ref j),("tables",.ref n),("lets",.ref m),("outs",.ref k)])->Rep b (.ref j) (A5c g)->Rep b (.ref n) (B4y f)->b m=some (.lst c)->b k=some (.lst (h.map V.str))->KB p H b->Q .non b
def D0a (A:Adr):Sp:=λc H Q _=>∃(p b:Addr) (v:V),c=[.ref p,v]/\H p=some (.ins A.au b [])/\∀(l:Addr) (a:Hp),H l=none->a p=some (.ins A.au b [("known",v),("lines",.ref l),("lifts",.int 0)])->a l=some (.lst [])->KB p H a->Q .non a
def E0u (A:Adr):Sp:=λd H Q _=>∃(p:Addr) (c:Int) (b:List (Str×Int)) (g:List (Str×List Str)) (f:List Lt) (e:List Str),d=[.ref p]/\D3f A H p c b g f e/\b.length<=100/\∀(q:Addr) (a:Hp),H q=none->A0u H a->a q=some (.lst ((b.map (·.1)).map V.str))->Q (.ref q) a
def E1i (A:Adr):Sp:=λd H Q _=>∃(p:Addr) (c:Int) (f:List (Str×Int)) (b:List (Str×List Str)) (g:List Lt) (e:List Str),d=[.ref p]/\D3f A H p c f b g e/\b.length<=100/\∀(q:Addr) (a:Hp),H q=none->A0u H a->a q=some (.lst ((b.map (·.1)).map V.str))->Q (.ref q) a
def A2g (ax:List (Str×Int)):List (Key×V):=ax.map λe=>(Sum.inr e.1,V.int e.2)
theorem E0w {H:Hp}:∀{ax:List (Str×Int)} {xs:List V},A4y H xs (ax.map B1n)->PL H xs (A2g ax)
 | [],_,r=>by cases r;exact .nil
 | e::ax,_,r=>by
  rw [Z0p] at r
  cases r with
  | cons a r =>
   obtain ⟨b,rfl,c⟩:=D7x a;exact .cons (i02 b rfl c) (E0w r)
theorem E0g {H:Hp}:∀{tb:List (Str×List Str)} {xs:List V},A4y H xs (tb.map C6b)->∃kvs,PL H xs kvs/\AR (λ_=>True) H kvs tb
 | [],_,r=>by cases r;exact i02 [] .nil .nil
 | e::tb,_,r=>by
  rw [Z0p] at r
  cases r with
  | cons a r =>
   obtain ⟨b,c,rfl,g,d⟩:=D8r a;obtain ⟨kvs,h,f⟩:=E0g r;exact i02 ((Sum.inr e.1,.ref c)::kvs) (.cons (i02 b rfl g) h) (.cons ⟨rfl,(i06 c rfl True.intro d)⟩ f)
theorem B4e (n:(ws.map (·.1)).Nodup):A4g [] ws=ws:=by
 have a:∀i,i<=ws.length->A4g [] (ws.take i)=ws.take i:=by
  intro i
  induction i with
  | zero=>intro _;rfl
  | succ i ih =>
   intro b;have e:ws[i]? =some ws[i]:=Z0b (by lia);rw [Z14,e,Z2f,C0w,ih (by lia)];exact B2n (k:=ws[i].1) (v:=ws[i].2) n e (ws.take i) rfl ws[i].2
 have:=a ws.length (Z09 _)
 rwa [Z18] at this
theorem D5p (n:(es.map (·.1)).Nodup) (h:es[i]? =some e) (ks:ws.map (·.1)=(es.take i).map λe=>(Sum.inr e.1:Key)) (u:V):A7z ws (Sum.inr e.1) u=ws++[(Sum.inr e.1,u)]:=by
 have c:((es.map λe=>((Sum.inr e.1:Key),V.non)).map (·.1)).Nodup:=by
  rw [List.map_map];have:(es.map ((λx=>x.1)∘λe=>((Sum.inr e.1:Key),V.non)))=(es.map (·.1)).map (Sum.inr:Str->Key):=by rw [List.map_map];rfl
  rw [this];exact List.Pairwise.map _ (λa b h z=>h (by injection z)) n
 exact B2n (v:=V.non) c (by rw [Z1z,h];rfl) ws (by rw [ks,<-List.map_take,List.map_map];rfl) u
def E1k (A:Adr):Sp:=λc H Q _=>∃(p:Addr) (b:Int) (a:List (Str×Int)) (f:List (Str×List Str)) (e:List Lt) (d:List Str),c=[.ref p]/\D3f A H p b a f e d/\(a.map (·.1)).Nodup/\∀q,H q=none->Q (.ref q) (upd H q (.dK (A2g a)))
theorem B1v (T:Txt K mg t):FP P w mg base T.im 5 (C8a t):=by
 have Ga0:= @C2l P w K mg base t T;refine T.im.F.ok B7t (by walk_at "ln") λ_ A _ s H _ Q E L h=> ?_
 ·refine e0e h ?_;clear h;rintro p e l m n x M N ⟨rfl,f,O,R,ly,lz,k⟩;obtain ⟨c2,c3⟩:=A9j M;obtain ⟨d2,d3⟩:=A9j N;have lp:l≠p:=A3m O f (by intro z;cases z);have mp:m≠p:=A3m R f (by intro z;cases z);have X:∀v:V,A4n "axes" v [("name",.str x)]=([("name",.str x),("axes",v)]:List (Str×V)):=λv=>by rw [A1a (by decide +kernel),A1i]
  have e2:∀u v:V,A4n "sums" v [("name",.str x),("axes",u)]=([("name",.str x),("axes",u),("sums",v)]:List (Str×V)):=λu v=>by rw [A1a (by decide +kernel),A1a (by decide +kernel),A1i]
  have e3:∀C u v:V,A4n "term" v [("name",.str x),("axes",C),("sums",u)]=([("name",.str x),("axes",C),("sums",u),("term",v)]:List (Str×V)):=λC u v=>by rw [A1a (by decide +kernel),A1a (by decide +kernel),A1a (by decide +kernel),A1i]
  refine i02 _ (@RS.r _ _ _ (rq1 ⟨A2d (pv 0) (pv 1) rfl⟩ (rq1 ⟨A2d (pv 0) (pcl Ga0 L T.aq (A0a (pv 2) A0c)) rfl⟩ (rq1 ⟨A2d (pv 0) (pcl Ga0 L T.aq (A0a (pv 3) A0c)) rfl⟩ (rq3 ⟨A2d (pv 0) (pv 4) rfl⟩))))) (i1b _ rfl _ rfl p _ e [] rfl f T.gj T.jh (by decide) ?_);rw [A1i];have G:KB p H (upd H p (.ins t.ba e [("name",.str x)])):=KB.refl.upd;refine i02 _ rfl (.inl (.inl (.inl (i0p (.ref l) (C0f M) rfl (C0z (G _ _ lp O)) (by lia) (by lia) λv' S W D=> ?_))));have j:=W _ _ (A0b (H:=H) (a:=p));obtain ⟨c,rfl,q⟩:=B6r D;obtain ⟨g,q⟩:=A0l q;have d:H c=none:=G.free A0b g;have U:c≠p:=λz=>by subst z;rw [f] at d;cases d
  refine i15 _ rfl p _ e _ rfl j T.gj T.jr (by show 1<1000;decide) ?_;rw [X];have o:KB p H (upd S p (.ins t.ba e [("name",.str x),("axes",.ref c)])):=(G.trans (KB.of W)).upd;refine i02 _ rfl (.inl (.inl (.inl (i0p (.ref m) (C0f N) rfl (C0z (o _ _ mp R)) (by lia) (by lia) λZ Y B y=> ?_))));have i:=B _ _ (A0b (H:=S) (a:=p));obtain ⟨u,rfl,I⟩:=B6r y;obtain ⟨J,I⟩:=A0l I;have b:H u=none:=o.free A0b J;have up:u≠p:=λz=>by subst z;rw [f] at b;cases b
  refine i15 _ rfl p _ e _ rfl i T.gj T.qv (by show 2<1000;decide) ?_;rw [e2];refine i1b _ rfl _ rfl p _ e _ rfl A0b T.gj T.qh (by show 3<1000;decide) ?_;show Q V.non (upd (upd Y p _) p _);rw [A5o,e3];exact k c u _ d b A0b (by rw [A0i U];exact B _ _ (by rw [A0i U];exact q)) (by rw [A0i up];exact I) (o.trans (KB.of B)).upd
theorem B5z (T:Txt K mg t):FP P w mg base T.jd 5 (D2v t):=by
 have Ga0:= @C2l P w K mg base t T;refine T.jd.F.ok B6y (λvs H Q E h=> ?_) λ_ A _ s H _ Q E X h=> ?_
 ·refine e0h h ?_;clear h;rintro p c ld ad tl lv ol a lk ak is ⟨es,Z,os,xs,S,rfl,_⟩;rfl
 ·refine e0h h ?_;clear h;rintro p c ld ad tl lv ol a lk ak is ⟨es,Z,os,xs,S,rfl,hp,L,il,ll,I,ar,c0,R,W,b9,G,b3,a6,O,c1,k⟩;have f1:∀v:V,A4n "lengths" v [("wheel",.int a)]=([("wheel",.int a),("lengths",v)]:List (Str×V)):=λv=>by rw [A1a (by decide +kernel),A1i]
  have f2:∀u v:V,A4n "arrays" v [("wheel",.int a),("lengths",u)]=([("wheel",.int a),("lengths",u),("arrays",v)]:List (Str×V)):=λu v=>by rw [A1a (by decide +kernel),A1a (by decide +kernel),A1i]
  have f3:∀i u v:V,A4n "tables" v [("wheel",.int a),("lengths",i),("arrays",u)]=([("wheel",.int a),("lengths",i),("arrays",u),("tables",v)]:List (Str×V)):=λi u v=>by rw [A1a (by decide +kernel),A1a (by decide +kernel),A1a (by decide +kernel),A1i]
  have f4:∀i m u v:V,A4n "lines" v [("wheel",.int a),("lengths",i),("arrays",m),("tables",u)]=([("wheel",.int a),("lengths",i),("arrays",m),("tables",u),("lines",v)]:List (Str×V)):=λi m u v=>by rw [A1a (by decide +kernel),A1a (by decide +kernel),A1a (by decide +kernel),A1a (by decide +kernel),A1i]
  have f5:∀i m u3 u v:V,A4n "outs" v [("wheel",.int a),("lengths",i),("arrays",m),("tables",u3),("lines",u)]=([("wheel",.int a),("lengths",i),("arrays",m),("tables",u3),("lines",u),("outs",v)]:List (Str×V)):=λi m u3 u v=>by rw [A1a (by decide +kernel),A1a (by decide +kernel),A1a (by decide +kernel),A1a (by decide +kernel),A1a (by decide +kernel),A1i]
  have q:∀{b:Addr} {u:HO},H b=some u->(∀C d fs,u≠.ins C d fs)->b≠p:=λe n z=>by subst z;rw [hp] at e;cases e;exact n _ _ _ rfl
  have f:∀{b:Addr},H b=none->b≠p:=λe z=>by subst z;rw [hp] at e;cases e
  refine i02 _ (@RS.r _ _ _ (rq1 ⟨A2d (pv 0) (pv 1) rfl⟩ (rq1 ⟨A2d (pv 0) (pcl Ga0 X T.aq (A0a (pv 2) A0c)) rfl⟩ (rq1 ⟨A2d (pv 0) (pcl Ga0 X T.aq (A0a (pv 3) A0c)) rfl⟩ (rq1 ⟨A2d (pv 0) (pcl Ga0 X T.aq (A0a (pv 4) A0c)) rfl⟩ (rq1 ⟨A2d (pv 0) (pcl Ga0 X T.aq (A0a (pv 5) A0c)) rfl⟩ (rq3 ⟨A2d (pv 0) (pcl Ga0 X T.aq (A0a (pv 6) A0c)) rfl⟩))))))) (i1b _ rfl _ rfl p _ c [] rfl hp T.gz T.uh (by decide) ?_);rw [A1i];obtain ⟨G0,hG0⟩:∃G0,G0=upd H p (.ins t.ao c [("wheel",.int a)]):=⟨_,rfl⟩;rw [<-hG0];have p0:G0 p=some (.ins t.ao c [("wheel",.int a)]):=by rw [hG0];exact A0b
  have k0:KB p H G0:=by rw [hG0];exact KB.refl.upd
  refine i02 _ rfl (.inr (i0u ld lk (is.map PyData.int) rfl (k0 _ _ (q L (by intros;intro z;cases z)) L) (by lia) (C4e il) λg a3 H1 a9 s1 h1 ks cp=> ?_));have ek:=C9i il ks cp;subst ek;have D:H g=none:=k0.free p0 a9;refine i15 _ rfl p _ c _ rfl (s1 _ _ p0) T.gz T.sj (by show 1<1000;decide) ?_;rw [f1];obtain ⟨G1,hG1⟩:∃G1,G1=upd H1 p (.ins t.ao c [("wheel",.int a),("lengths",.ref g)]):=⟨_,rfl⟩;rw [<-hG1];have p1:G1 p=some (.ins t.ao c [("wheel",.int a),("lengths",.ref g)]):=by rw [hG1];exact A0b
  have B:KB p H G1:=by rw [hG1];exact (k0.trans (KB.of s1)).upd
  have a2:G1 g=some (.dK a3):=by rw [hG1,A0i (f D)];exact h1
  have U:AR (λb=>S b) G1 ak es:=ar.imp λb ys z e=>⟨z,B _ _ (q e (by intros;intro z;cases z)) e⟩;refine i02 _ rfl (.inr (i0u ad ak _ rfl (B _ _ (q I (by intros;intro z;cases z)) I) (by have:=Paired.length ar;lia) (U.src R) λj o H2 b6 s2 h2 b5 a0=> ?_));have a7:=E0i U b5 a0;have M:H j=none:=B.free p1 b6;refine i15 _ rfl p _ c _ rfl (s2 _ _ p1) T.gz T.uf (by show 2<1000;decide) ?_;rw [f2];obtain ⟨G2,hG2⟩:∃G2,G2=upd H2 p (.ins t.ao c [("wheel",.int a),("lengths",.ref g),("arrays",.ref j)]):=⟨_,rfl⟩;rw [<-hG2];have p2:G2 p=some (.ins t.ao c [("wheel",.int a),("lengths",.ref g),("arrays",.ref j)]):=by rw [hG2];exact A0b
  have j2:KB p G1 G2:=by rw [hG2];exact (KB.of s2).upd
  have k2:=B.trans j2;have b7:G2 j=some (.dK o):=by rw [hG2,A0i (f M)];exact h2
  have b8:AR (λb=>H b=none) G2 o es:=a7.imp λb ys z e=>⟨B.free p1 z,by rw [hG2,A0i (f (B.free p1 z))];exact e⟩;obtain ⟨c2,c3⟩:=A9j Z;refine i02 _ rfl (.inl (.inl (.inl (i0p (.ref tl) (C0f Z) rfl (C0z (k2 _ _ (q W (by intros;intro z;cases z)) W)) (by lia) (by lia) λvt H3 s3 b0=> ?_))));obtain ⟨l,rfl,et⟩:=B6r b0;obtain ⟨a8,et⟩:=A0l et;have Y:H l=none:=k2.free p2 a8;refine i15 _ rfl p _ c _ rfl (s3 _ _ p2) T.gz T.tz (by show 3<1000;decide) ?_;rw [f3];obtain ⟨G3,hG3⟩:∃G3,G3=upd H3 p (.ins t.ao c [("wheel",.int a),("lengths",.ref g),("arrays",.ref j),("tables",.ref l)]):=⟨_,rfl⟩;rw [<-hG3];have p3:G3 p=some (.ins t.ao c [("wheel",.int a),("lengths",.ref g),("arrays",.ref j),("tables",.ref l)]):=by rw [hG3];exact A0b
  have j3:KB p G2 G3:=by rw [hG3];exact (KB.of s3).upd
  have k3:=k2.trans j3;have b2:G3 l=some (.lst (Z.map V.str)):=by rw [hG3,A0i (f Y)];exact et
  refine i02 _ rfl (.inl (.inr (i0p lv xs rfl (k3 _ _ (q G (by intros;intro z;cases z)) G) b3 (λx hx=> ?_) λy H4 a1 s4 b1=> ?_)))
  ·obtain ⟨b,db,fs,rfl,nb,eb⟩:=a6 x hx;exact i0g b db fs rfl (k3 _ _ nb eb)
  have nv:H y=none:=k3.free p3 a1;refine i15 _ rfl p _ c _ rfl (s4 _ _ p3) T.gz T.m7 (by show 4<1000;decide) ?_;rw [f4];obtain ⟨G4,hG4⟩:∃G4,G4=upd H4 p (.ins t.ao c [("wheel",.int a),("lengths",.ref g),("arrays",.ref j),("tables",.ref l),("lines",.ref y)]):=⟨_,rfl⟩;rw [<-hG4];have p4:G4 p=some (.ins t.ao c [("wheel",.int a),("lengths",.ref g),("arrays",.ref j),("tables",.ref l),("lines",.ref y)]):=by rw [hG4];exact A0b
  have J:KB p G3 G4:=by rw [hG4];exact (KB.of s4).upd
  have k4:=k3.trans J;have a4:G4 y=some (.lst xs):=by rw [hG4,A0i (f nv)];exact b1
  obtain ⟨o2,o3⟩:=A9j os;refine i02 _ rfl (.inl (.inl (.inl (i0p (.ref ol) (C0f os) rfl (C0z (k4 _ _ (q O (by intros;intro z;cases z)) O)) (by lia) (by lia) λvo H5 s5 b4=> ?_))));obtain ⟨o',rfl,eo⟩:=B6r b4;obtain ⟨a5,eo⟩:=A0l eo;have no:H o'=none:=k4.free p4 a5;refine i15 _ rfl p _ c _ rfl (s5 _ _ p4) T.gz T.wq (by show 5<1000;decide) ?_;show Q V.non (upd H5 p _);rw [f5];have j5:KB p G4 (upd H5 p (clo t c a g j l y o')):=(KB.of s5).upd;have N:=λ{b:Addr} (hb:H b=none) {u:HO} (e:G4 b=some u)=>j5 _ _ (f hb) e;exact k g j l y o' o _ A0b D (N D (J _ _ (f D) (j3 _ _ (f D) (j2 _ _ (f D) a2)))) M (N M (J _ _ (f M) (j3 _ _ (f M) b7))) (b8.imp λb ys z e=>⟨z,N z (J _ _ (f z) (j3 _ _ (f z) e))⟩) Y (N Y (J _ _ (f Y) b2)) nv (N nv a4) no (by rw [A0i (f no)];exact eo) (k4.trans j5)
theorem C2g (T:Txt K mg t):FP P w mg base T.ph 5 (D1d t):=by
 have Ga0:= @C2l P w K mg base t T;refine T.ph.F.ok C0x (by walk_at "ln") λ_ A _ s H _ Q E C h=> ?_
 ·obtain ⟨p,g,l,n,x,u,rfl,i,v,L,k⟩:=h;obtain ⟨N,R⟩:=A9j u;have O:l≠p:=A3m v i (by intro z;cases z);refine i02 _ (@RS.r _ _ _ (rq1 ⟨A2d (pv 0) (pv 1) rfl⟩ (rq1 ⟨A2d (pv 0) (pcl Ga0 C T.aq (A0a (pv 2) A0c)) rfl⟩ (rq3 ⟨A2d (pv 0) (pv 3) rfl⟩)))) (i1b _ rfl _ rfl p _ g [] rfl i T.l_ T.lj (by decide) ?_);refine i02 _ rfl (.inl (.inl (.inl (i0p (.ref l) (C0f u) rfl ((C0z v).ins i) (by lia) (by lia) λM I B q=> ?_))));have j:=B _ _ (A0b (H:=H) (a:=p));obtain ⟨c,rfl,m⟩:=B6r q;obtain ⟨d,m⟩:=A0l m
  have f:H c=none:=by
   by_cases z:c=p
   ·subst z;rw [A0b] at d;cases d
   ·rw [A0i z] at d;exact d
  have J:c≠p:=λz=>by subst z;rw [i] at f;cases f
  refine i15 _ rfl p _ g _ rfl j T.l_ T.mi (by show 1<1000;decide) ?_;refine i1b _ rfl _ rfl p _ g _ rfl A0b T.l_ T.k_ (by show 2<1000;decide) ?_;show Q V.non (upd (upd I p _) p (.ins t.ci g (A4n "term" n (A4n "axes" (.ref c) (A4n "name" (.str x) [])))));have D:A4n "axes" (V.ref c) (A4n "name" (.str x) [])=([("name",.str x),("axes",.ref c)]:List (Str×V)):=by rw [A1i,A1a (by decide +kernel),A1i]
  have G:A4n "term" n ([("name",.str x),("axes",.ref c)]:List (Str×V))=([("name",.str x),("axes",.ref c),("term",n)]:List (Str×V)):=by rw [A1a (by decide +kernel),A1a (by decide +kernel),A1i]
  rw [A5o,D,G];refine k c _ f A0b (by rw [A0i J];exact m) λb o y e=> ?_;rw [A0i y];exact B _ _ (by rw [A0i y];exact e)
theorem A1e {A:Addr} {B:Addr} {b:Bool} (h:kitOne K (.ref A) (.ref B)=some b):∀u,A3c (.ref B) u->kitOne K (.ref A) u=some b:=λu z=>by
 cases (show u=Value.ref B from z)
 exact h
theorem B3u (T:Txt K mg t):FP P w mg base T.gu 5 (D1o t):=by
 have Ga0:= @C2l P w K mg base t T;refine T.gu.F.ok B3q (by walk_at "ln") λ_ A _ s H _ Q E R h=> ?_
 ·refine e0h h ?_;clear h;rintro p f a tt l o c y J xs os ⟨rfl,hp,ra,la,rt,lt,X,hl,ll,hx,ho,lo,k⟩;have a2:=D1n y;have a3:=D3m (ix:=y);obtain ⟨t2,t3⟩:=D1v J X;obtain ⟨o2,o3⟩:=A9j os;have f1:∀v:V,A4n "axes" v [("wheel",.int c)]=([("wheel",.int c),("axes",v)]:List (Str×V)):=λv=>by rw [A1a (by decide +kernel),A1i]
  have f2:∀u v:V,A4n "tables" v [("wheel",.int c),("axes",u)]=([("wheel",.int c),("axes",u),("tables",v)]:List (Str×V)):=λu v=>by rw [A1a (by decide +kernel),A1a (by decide +kernel),A1i]
  have f3:∀i u v:V,A4n "lets" v [("wheel",.int c),("axes",i),("tables",u)]=([("wheel",.int c),("axes",i),("tables",u),("lets",v)]:List (Str×V)):=λi u v=>by rw [A1a (by decide +kernel),A1a (by decide +kernel),A1a (by decide +kernel),A1i]
  have f4:∀i u2 u v:V,A4n "outs" v [("wheel",.int c),("axes",i),("tables",u2),("lets",u)]=([("wheel",.int c),("axes",i),("tables",u2),("lets",u),("outs",v)]:List (Str×V)):=λi u2 u v=>by rw [A1a (by decide +kernel),A1a (by decide +kernel),A1a (by decide +kernel),A1a (by decide +kernel),A1i]
  have L:∀{b:Addr} {u:HO},H b=some u->(∀C d D,u≠.ins C d D)->b≠p:=λe n z=>by subst z;rw [hp] at e;cases e;exact n _ _ _ rfl
  have rp:∀{v:V} {d:PyData} {G:Hp},KB p H G->Rep H v d->Rep G v d:=λB r=>r.imp2 (λq S z=>B _ _ (L z (by intros;intro z;cases z)) z) λq S z=>B _ _ (L z (by intros;intro z;cases z)) z;have M:∀{v:V} {d:PyData} {G G':Hp} {C dd:Addr} {D:List (Str×V)},KB p G G'->G p=some (.ins C dd D)->Rep G v d->Rep G' v d:=λB hG r=>r.imp2 (λq S z=>B _ _ (A3m z hG (by intro w;cases w)) z) λq S z=>B _ _ (A3m z hG (by intro w;cases w)) z;refine i02 _ (@RS.r _ _ _ (rq1 ⟨A2d (pv 0) (pv 1) rfl⟩ (rq1 ⟨A2d (pv 0) (pcl Ga0 R T.aq (A0a (pv 2) A0c)) rfl⟩ (rq1 ⟨A2d (pv 0) (pcl Ga0 R T.aq (A0a (pv 3) A0c)) rfl⟩ (rq1 ⟨A2d (pv 0) (pcl Ga0 R T.aq (A0a (pv 4) A0c)) rfl⟩ (rq3 ⟨A2d (pv 0) (pcl Ga0 R T.aq (A0a (pv 5) A0c)) rfl⟩)))))) (i1b _ rfl _ rfl p _ f [] rfl hp T.bu T.j8 (by decide) ?_);rw [A1i];obtain ⟨G0,hG0⟩:∃G0,G0=upd H p (.ins t.ai f [("wheel",.int c)]):=⟨_,rfl⟩;rw [<-hG0];have p0:G0 p=some (.ins t.ai f [("wheel",.int c)]):=by rw [hG0];exact A0b
  have k0:KB p H G0:=by rw [hG0];exact KB.refl.upd
  refine i02 _ rfl (.inl (.inl (.inl (i0p (.ref a) (A5c y) rfl (rp k0 ra) (by lia) (by lia) λva H1 s1 r1=> ?_))));obtain ⟨g,xa,rfl,ea,_⟩:=A5m (show Rep _ va (.list (y.map B1n)) from r1);refine i15 _ rfl p _ f _ rfl (s1 _ _ p0) T.bu T.f_ (by show 1<1000;decide) ?_;rw [f1];obtain ⟨G1,hG1⟩:∃G1,G1=upd H1 p (.ins t.ai f [("wheel",.int c),("axes",.ref g)]):=⟨_,rfl⟩;rw [<-hG1];have W:G1 p=some (.ins t.ai f [("wheel",.int c),("axes",.ref g)]):=by rw [hG1];exact A0b
  have k1:KB p H G1:=by rw [hG1];exact (k0.trans (KB.of s1)).upd
  have a0:Rep G1 (.ref g) (A5c y):=by rw [hG1];exact M (KB.refl.upd) (s1 _ _ p0) (r1.same A0m)
  refine i02 _ rfl (.inl (.inl (.inl (i0p (.ref tt) (B4y J) rfl (rp k1 rt) (by lia) (by lia) λvt H2 s2 r2=> ?_))));obtain ⟨j,xt,rfl,et,_⟩:=A5m (show Rep _ vt (.list (J.map C6b)) from r2);refine i15 _ rfl p _ f _ rfl (s2 _ _ W) T.bu T.dy (by show 2<1000;decide) ?_;rw [f2];obtain ⟨G2,hG2⟩:∃G2,G2=upd H2 p (.ins t.ai f [("wheel",.int c),("axes",.ref g),("tables",.ref j)]):=⟨_,rfl⟩;rw [<-hG2];have p2:G2 p=some (.ins t.ai f [("wheel",.int c),("axes",.ref g),("tables",.ref j)]):=by rw [hG2];exact A0b
  have j2:KB p G1 G2:=by rw [hG2];exact (KB.of s2).upd
  have k2:=k1.trans j2;have Z:Rep G2 (.ref j) (B4y J):=by rw [hG2];exact M (KB.refl.upd) (s2 _ _ W) (r2.same A0m)
  refine i02 _ rfl (.inl (.inl (.inr (i0p l xs rfl (k2 _ _ (L hl (by intros;intro z;cases z)) hl) ll (λx a1=> ?_) λm H3 I s3 a4=> ?_))))
  ·obtain ⟨b,db,D,rfl,nb,eb⟩:=hx x a1;exact i0g b db D rfl (k2 _ _ nb eb)
  have lp:m≠p:=λz=>by subst z;rw [p2] at I;cases I
  refine i15 _ rfl p _ f _ rfl (s3 _ _ p2) T.bu T.gc (by show 3<1000;decide) ?_;rw [f3];obtain ⟨G3,hG3⟩:∃G3,G3=upd H3 p (.ins t.ai f [("wheel",.int c),("axes",.ref g),("tables",.ref j),("lets",.ref m)]):=⟨_,rfl⟩;rw [<-hG3];have p3:G3 p=some (.ins t.ai f [("wheel",.int c),("axes",.ref g),("tables",.ref j),("lets",.ref m)]):=by rw [hG3];exact A0b
  have Y:KB p G2 G3:=by rw [hG3];exact (KB.of s3).upd
  have k3:=k2.trans Y;have U:G3 m=some (.lst xs):=by rw [hG3,A0i lp];exact a4
  refine i02 _ rfl (.inl (.inl (.inl (i0p (.ref o) (C0f os) rfl (C0z (k3 _ _ (L ho (by intros;intro z;cases z)) ho)) (by lia) (by lia) λvo H4 s4 r4=> ?_))));obtain ⟨o',rfl,O⟩:=B6r r4;have O:=(A0l O).2;refine i15 _ rfl p _ f _ rfl (s4 _ _ p3) T.bu T.jy (by show 4<1000;decide) ?_;show Q V.non (upd H4 p _);rw [f4];have N:KB p G3 (upd H4 p (.ins t.ai f [("wheel",.int c),("axes",.ref g),("tables",.ref j),("lets",.ref m),("outs",.ref o')])):=(KB.of s4).upd;exact k g j m o' _ A0b (M ((j2.trans Y).trans N) W a0) (M (Y.trans N) p2 Z) (N _ _ lp U) (by rw [A0i (A3m O (s4 _ _ p3) (by intro z;cases z))];exact O) (k3.trans N)
theorem B4r (T:Txt K mg t):FP P w mg base T.iy 1 (D0a t):=by
 refine T.iy.F.ok B5d (by walk_at "ln") λ_ A _ s H _ Q E j h=> ?_
 ·obtain ⟨p,b,v,rfl,i,k⟩:=h;have g:∀u:V,A4n "lines" u [("known",v)]=([("known",v),("lines",u)]:List (Str×V)):=λu=>by rw [A1a (by decide +kernel),A1i]
  have f:∀u z:V,A4n "lifts" z [("known",v),("lines",u)]=([("known",v),("lines",u),("lifts",z)]:List (Str×V)):=λu z=>by rw [A1a (by decide +kernel),A1a (by decide +kernel),A1i]
  refine i02 _ (@RS.r _ _ _ (rq1 ⟨A2d (pv 0) (pv 1) rfl⟩ (rq1 ⟨A2d (pv 0) (@A1r _ _ _ _ A0c) rfl⟩ (rq3 ⟨A2d (pv 0) A0d rfl⟩)))) (i1b _ rfl _ rfl p _ b [] rfl i T.bt T.jw (by decide) ?_);rw [A1i];refine ⟨A0v rfl,λl a=>(i15 _ rfl p _ b _ rfl ((A0e a) _ _ A0b) T.bt T.dj (by show 1<1000;decide) ?_)⟩;rw [g];have c:KB p H (upd H p (.ins t.au b [("known",v)])):=KB.refl.upd;have d:H l=none:=c.free A0b a;have e:l≠p:=λz=>by subst z;rw [A0b] at a;cases a
  refine i15 _ rfl p _ b _ rfl A0b T.bt T.gb (by show 2<1000;decide) ?_;show Q V.non (upd (upd _ p _) p _);rw [A5o,f];exact k l _ d A0b (by rw [A0i e];exact A0b) (c.trans (KB.of (A0e a))).upd
theorem B7h (T:Txt K mg t):FO P w base T.j9 1 (E0u t):=by
 refine T.j9.F.ok B6v (by walk_at "ln") λ_ A _ s H _ Q E N h=> ?_
 ·obtain ⟨p,S,y,Y,R,U,rfl,G,W,k⟩:=h;obtain ⟨I,a,tt,l,o,e,J,_⟩:=G.ob;obtain ⟨Z,xs,M,z,B⟩:=A5m (show Rep H (.ref a) (.list (y.map B1n)) from J);cases M;have m:=B.len;rw [Z08] at m;refine i02 _ (@RS.r _ _ _ (rq3 (rq5 (A4p (N':=["name","length"]) (ix:=(List.replicate 2 none)) (g:=D8n K 2 (B2f (A7u 0) (B2f (A7u 1) D8h))) rfl (A2y rfl (by decide +kernel) (by decide +kernel)) (A3b rfl) (A2c (A1c (pv 0) rfl)) (λ_ _ _ _=>(A3v (n:=2) rfl (A0r (A0k (i:=0) C0d rfl (.inl rfl)) (A0r (A0k (i:=1) C0d rfl (.inl rfl)) A2p)))) (λ_ _ _ _=>(pv 0)))))) ?_;refine i19 _ rfl p _ I _ _ rfl e T.bu T.f_ (by walk_at "lk") (i06 a rfl ⟨_,SqL.of z⟩ λD q=> ?_);refine A4h (K:=K) (a:=a) (D:=D) (xs:=xs) (λi j d=>A0u H d/\d D=some (.lst j)/\j=((y.take i).map (·.1)).map V.str) (i00 (A0e q) A0b rfl) (λi j d f=>SqL.of (f.1 _ _ z)) ?_ ?_
  ·rintro i x j d v ⟨f,c,rfl⟩;refine C6a ?_;intro N';have O:i<xs.length:=(Z03.mp v).1;obtain ⟨X,u,C⟩:=C1r B v;obtain ⟨b,rfl,L⟩:=D7x C;refine i1a b _ rfl (SqT.of (f _ _ L)) rfl _ _ rfl _ _ rfl rfl ?_;refine i01 True.intro _ (i0h rfl c (A1l (by simp;lia)) (A0o f q) A0b ?_);rw [Z14,u,Z2f];simp
  ·rintro j d ⟨f,c,rfl⟩;rw [m,Z18] at c;exact k D d q f c
theorem B4z (T:Txt K mg t):FO P w base T.iu 1 (E1i t):=by
 refine T.iu.F.ok B5e (by walk_at "ln") λ_ A _ s H _ Q E R h=> ?_
 ·obtain ⟨p,X,U,B,W,Z,rfl,L,lt,k⟩:=h;obtain ⟨M,a,y,l,o,e,ra,N,_⟩:=L.ob;obtain ⟨Y,xs,J,C,G⟩:=A5m (show Rep H (.ref y) (.list (B.map C6b)) from N);cases J;have q:=G.len;rw [Z08] at q;refine i02 _ (@RS.r _ _ _ (rq3 (rq5 (A4p (N':=["name","axes"]) (ix:=(List.replicate 2 none)) (g:=D8n K 2 (B2f (A7u 0) (B2f (A7u 1) D8h))) rfl (A2y rfl (by decide +kernel) (by decide +kernel)) (A3b rfl) (A2c (A1c (pv 0) rfl)) (λ_ _ _ _=>(A3v (n:=2) rfl (A0r (A0k (i:=0) B8e rfl (.inl rfl)) (A0r (A0k (i:=1) B8e rfl (.inl rfl)) A2p)))) (λ_ _ _ _=>(pv 0)))))) ?_;refine i19 _ rfl p _ M _ _ rfl e T.bu T.dy (by walk_at "lk") (i06 y rfl ⟨_,SqL.of C⟩ λD u=> ?_);refine A4h (K:=K) (a:=y) (D:=D) (xs:=xs) (λi m f=>A0u H f/\f D=some (.lst m)/\m=((B.take i).map (·.1)).map V.str) (i00 (A0e u) A0b rfl) (λi m f j=>SqL.of (j.1 _ _ C)) ?_ ?_
  ·rintro i x m f z ⟨j,d,rfl⟩;refine C6a ?_;intro N';have S:i<xs.length:=(Z03.mp z).1;obtain ⟨te,v,I⟩:=C1r G z;obtain ⟨b,c,rfl,O,ec⟩:=D8r I;refine i1a b _ rfl (SqT.of (j _ _ O)) rfl _ _ rfl _ _ rfl rfl ?_;refine i01 True.intro _ (i0h rfl d (A1l (by simp;lia)) (A0o j u) A0b ?_);rw [Z14,v,Z2f];simp
  ·rintro m f ⟨j,d,rfl⟩;rw [q,Z18] at d;exact k D f u j d
theorem B5w (T:Txt K mg t):FO P w base T.jo 1 (E1k t):=by
 refine T.jo.F.ok B6q (by walk_at "ln") λ_ A _ s H _ Q E y h=> ?_
 ·obtain ⟨p,C,c,G,B,D,rfl,g,f,k⟩:=h;obtain ⟨i,a,J,l,o,e,m,_⟩:=g.ob;obtain ⟨I,d,x,n,u⟩:=A5m (show Rep H (.ref a) (.list (c.map B1n)) from m);cases x
  have v:((A2g c).map (·.1)).Nodup:=by
   have:(A2g c).map (·.1)=(c.map (·.1)).map (Sum.inr:Str->Key):=by unfold A2g;rw [List.map_map,List.map_map];rfl
   rw [this];exact List.Pairwise.map _ (λa b h z=>h (by injection z)) f
  refine i02 _ (@RS.r _ _ _ (rq3 (rq5 (A2k (B5t rfl) (by rfl) T.kq Z2q (A0a (A1c (pv 0) rfl) A0c))))) ?_;refine i19 _ rfl p _ i _ _ rfl e T.bu T.f_ (by walk_at "lk") (i0r a d _ rfl n (E0w u) λq j=> ?_);rw [B4e v];exact k q j
def C7h (A:Adr):Sp:=λe H Q _=>∃(p d:Addr) (a b c:V),e=[.ref p,a,b,c]/\H p=some (.ins A.aw d [])/\Q .non (upd H p (.ins A.aw d [("term",a),("sums",b),("guards",c)]))
def C7m (A:Adr):Sp:=λc H Q _=>∃(p:V) (u:Tm) (s:List Str) (g:List Gd) (S:Addr->Prop),c=[p]/\Fr S H/\A3f A (A0s S H) p (u,s,g)/\∀(q:Addr) (b:List V) (a:Hp),H q=none->A0u H a->a q=some (.lst b)->Paired (A3f A (A0s S a)) b (B7s u s g)->Q (.ref q) a
def D0h (A:Adr) (n:Nat):Sp:=λc H Q _=>∃(p:V) (u:Tm) (s:List Str) (g:List Gd) (S:Addr->Prop),c=[p]/\Fr S H/\A3f A (A0s S H) p (u,s,g)/\dep u<=n/\nod u<=1000/\∀(q:Addr) (b:List V) (a:Hp),H q=none->A0u H a->a q=some (.lst b)->Paired (A3f A (A0s S a)) b (prT u s g)->Q (.ref q) a
def D2x (A:Adr):Sp:=λc H Q _=>∃(v:V) (u:Tm) (S:Addr->Prop),c=[v]/\Fr S H/\Ob A (A0s S H) v u/\dep u<=40/\nod u<=1000/\∀(q:Addr) (b:List V) (a:Hp),H q=none->A0u H a->a q=some (.lst b)->Paired (A3f A (A0s S a)) b (prT u [] [])->Q (.ref q) a
theorem A5t {x dx:Addr} {u v:HO} (a:H x=none) (b:H dx=none):A0u H (upd (upd (upd H dx o) x u) x v):=A2f a b
theorem A8o (T:Txt K mg t):FP P w mg base T.cg 1 (C7h t):=by
 refine T.cg.F.ok B9u (by walk_at "ln") λ_ A _ s H _ Q E i h=> ?_
 ·obtain ⟨p,d,a,b,c,rfl,f,k⟩:=h;have e:A4n "sums" b (A4n "term" a [])=([("term",a),("sums",b)]:List (Str×V)):=by rw [A1i,A1a (by decide +kernel),A1i]
  have g:A4n "guards" c ([("term",a),("sums",b)]:List (Str×V))=([("term",a),("sums",b),("guards",c)]:List (Str×V)):=by rw [A1a (by decide +kernel),A1a (by decide +kernel),A1i]
  refine i02 _ (@RS.r _ _ _ (rq1 ⟨A2d (pv 0) (pv 1) rfl⟩ (rq1 ⟨A2d (pv 0) (pv 2) rfl⟩ (rq3 ⟨A2d (pv 0) (pv 3) rfl⟩)))) (i1b _ rfl _ rfl p _ d [] rfl f T.bq T.b_ (by decide) (i1b _ rfl _ rfl p _ d _ rfl A0b T.bq T.cr (by show 1<1000;decide) ?_));rw [A5o,e];refine i1b _ rfl _ rfl p _ d _ rfl A0b T.bq T.c9 (by show 2<1000;decide) ?_;show Q V.non (upd (upd H p _) p _);rw [A5o,g];exact k
theorem C9h (T:Txt K mg t) {a dx:Addr} {k:Op3} {fs:List (Str×V)} (e:H a=some (.ins (A6z t k) dx fs)):A8a K H (.ref a) (.ref (A6z t k)):=by
 cases k with
 | plus=>exact .ins e T.rf T.bx.ha T.bx.hn T.bx.htk T.bx.hm
 | minus=>exact .ins e T.lh T.bh.ha T.bh.hn T.bh.htk T.bh.hm
 | times=>exact .ins e T.lq T.bj.ha T.bj.hn T.bj.htk T.bj.hm
theorem D4r (T:Txt K mg t) (k:Op3):kitOne K (.ref (A6z t k)) (.ref t.c8)=some true:=by
 cases k with
 | plus=>exact T.qp
 | minus=>exact T.n_
 | times=>exact T.nq
theorem A8n (T:Txt K mg t) (k:Op3):Cls K (A6z t k):=by cases k with
 | plus=>exact T.rf
 | minus=>exact T.lh
 | times=>exact T.lq
theorem B7u (T:Txt K mg t) (k:Op3):A1m K (A6z t k) "left":=by cases k with
 | plus=>exact T.x6
 | minus=>exact T.vk
 | times=>exact T.wf
theorem C0a (T:Txt K mg t) (k:Op3):A1m K (A6z t k) "right":=by cases k with
 | plus=>exact T.vf
 | minus=>exact T.uu
 | times=>exact T.v9
theorem A3t (T:Txt K mg t):FO P w base T.bv 3 (C7m t):=by
 have Ga2:= @A8o P w K mg base t T;refine T.bv.F.ok A2t (by walk_at "ln") λ_ A _ s H _ Q E hr h=> ?_
 ·obtain ⟨p,u,Z,gg,S,rfl,B,⟨a,n,tv,M,O,C,rfl,e0,ob,y,N,bg,bs,pg⟩,k⟩:=h;have e:=A0m _ _ e0;have hs:=A0m _ _ y;have hg:=A0m _ _ N;refine i02 _ (@RS.r _ _ _ (rq1 (rq6 1 A2t.nd (A1c (pv 0) rfl)) (rq1 (rq4 (A2s (A0q A1d (by rfl) T.ab Z0d (A0a (pv 1) (A0a (A3k (v:=V.ref t.c8) rfl T.zI rfl) A0c)))) (rq3 (rq5 (@A1r _ _ _ _ (A0a (pmk T.jl Ga2 hr T.pw T.cg.b (A0a (A1c (pv 1) rfl) (A0a (A1c (pv 0) rfl) (A0a (A1c (pv 0) rfl) A0c)))) (A0a (pmk T.jl Ga2 hr T.pw T.cg.b (A0a (A1c (pv 1) rfl) (A0a (A1c (pv 0) rfl) (A0a (A1c (pv 0) rfl) A0c)))) A0c))))) ⟨A0x⟩) (rq1 (rq4 (A2s (A0q A1d (by rfl) T.ab Z0d (A0a (pv 1) (A0a (A3k (v:=V.ref t.bp) rfl T.ww rfl) A0c)))) (rq3 (rq5 (@A1r _ _ _ _ (A0a (pmk T.jl Ga2 hr T.pw T.cg.b (A0a (A1c (pv 1) rfl) (A0a (A0j B0b (A1c (pv 0) rfl) (@A1r _ _ _ _ (A0a (A1c (pv 1) rfl) A0c))) (A0a (A1c (pv 0) rfl) A0c)))) A0c)))) ⟨A0x⟩) (rq1 (rq4 (A2s (A0q A1d (by rfl) T.ab Z0d (A0a (pv 1) (A0a (A3k (v:=V.ref t.af) rfl T.mw rfl) A0c)))) (rq1 (rq6 2 A2t.nd (pmk T.jl Ga2 hr T.pw T.cg.b (A0a (A1c (pv 1) rfl) (A0a (A1c (pv 0) rfl) (A0a (A0j B0b (A1c (pv 0) rfl) (@A1r _ _ _ _ (A0a (A1z (A0a (pv 1) (A0a D3b A0c))) A0c))) A0c))))) (rq1 (rq6 3 A2t.nd (pmk T.jl Ga2 hr T.pw T.cg.b (A0a (A1c (pv 1) rfl) (A0a (A1c (pv 0) rfl) (A0a (A0j B0b (A1c (pv 0) rfl) (@A1r _ _ _ _ (A0a (A1z (A0a (pv 1) (A0a D3b A0c))) A0c))) A0c))))) (rq3 (rq5 (@A1r _ _ _ _ (A0a (pv 2) (A0a (pv 3) A0c))))))) ⟨A0x⟩) (rq3 (rq5 (@A1r _ _ _ _ A0c)))))))) ?_;refine i19 _ rfl a _ n _ _ rfl e T.bq T.b_ (by walk_at "lk") ?_
  cases id ob with
  | @num o dd z eo0 =>
   have g:=A0m _ _ eo0;have f:A8a K H (.ref o) (.ref t.ae):= .ins g T.cy T.a_.ha T.a_.hn T.a_.htk T.a_.hm;refine i16 _ rfl _ _ _ _ rfl f (A1e T.m9) false rfl (A2m ?_);refine i16 _ rfl _ _ _ _ rfl f (A1e T.i_) false rfl (A2m ?_);refine i16 _ rfl _ _ _ _ rfl f (A1e T.ju) false rfl (A2m ?_);exact ⟨A0v rfl,λq d=>k q [] _ d (A0e d) A0b .nil⟩
  | @place o dd x eo0 =>
   have g:=A0m _ _ eo0;have f:A8a K H (.ref o) (.ref t.am):= .ins g T.fw T.bo.ha T.bo.hn T.bo.htk T.bo.hm;refine i16 _ rfl _ _ _ _ rfl f (A1e T.oo) false rfl (A2m ?_);refine i16 _ rfl _ _ _ _ rfl f (A1e T.jn) false rfl (A2m ?_);refine i16 _ rfl _ _ _ _ rfl f (A1e T.ml) false rfl (A2m ?_);exact ⟨A0v rfl,λq d=>k q [] _ d (A0e d) A0b .nil⟩
  | @read o dd ll x ix eo0 rp0 =>
   have g:=A0m _ _ eo0;have f:A8a K H (.ref o) (.ref t.aj):= .ins g T.fe T.bw.ha T.bw.hn T.bw.htk T.bw.hm;refine i16 _ rfl _ _ _ _ rfl f (A1e T.rc) false rfl (A2m ?_);refine i16 _ rfl _ _ _ _ rfl f (A1e T.mq) false rfl (A2m ?_);refine i16 _ rfl _ _ _ _ rfl f (A1e T.ou) false rfl (A2m ?_);exact ⟨A0v rfl,λq d=>k q [] _ d (A0e d) A0b .nil⟩
  | @sum o dd x v b eo0 ob1 =>
   have g:=A0m _ _ eo0;have f:A8a K H (.ref o) (.ref t.bp):= .ins g T.d_ T.cj.ha T.cj.hn T.cj.htk T.cj.hm;simp only [dep] at bg bs;refine i16 _ rfl _ _ _ _ rfl f (A1e T.s_) false rfl (A2m ?_);refine i16 _ rfl _ _ _ _ rfl f (A1e T.jm) true rfl (A5r ?_);refine i19 _ rfl o _ dd _ _ rfl g T.d_ T.ik (by walk_at "lk") (i19 _ rfl a _ n _ _ rfl e T.bq T.cr (by walk_at "lk") (i19 _ rfl o _ dd _ _ rfl g T.d_ T.fm (by walk_at "lk") ⟨A0v rfl,λl1 L=> ?_⟩));have D:A0u H (upd H l1 (.lst [.str x])):=A0e L;refine i10 M l1 _ _ rfl rfl (D _ _ hs) A0b (A2a (by simp;lia)) λl2 j=> ?_;have s2:=D.trans (A0e (o:= .lst (Z.map V.str++[.str x])) j);refine i19 _ rfl a _ n _ _ rfl (s2 _ _ e) T.bq T.c9 (by walk_at "lk") λnp dn hn a3 a6=>⟨np,(i0y dn _ _ _ rfl A0b rfl (A0v rfl) λq d=> ?_)⟩;have s3:=s2.trans (A5t (o:= .own np) (u:= .ins t.aw dn []) (v:= .ins t.aw dn [("term",v),("sums",.ref l2),("guards",.ref O)]) hn a3);have c:=s3.trans (A0e (o:= .lst [.ref np]) d);refine k q _ _ (s3.free d) c A0b (.cons (i1d np dn v l2 O C rfl (A0h (B _ (s2.free hn)) ?_) (ob1.imp (A0g c)) (A0h (B _ (D.free j)) ?_) (A0g c _ _ N) (by show C.length+dep b<=100;lia) (by show (Z++[x]).length+dep b<=100;rw [Z06];simp only [Z0y,Z2g];lia) (Paired.mapP pg λ_ _ z=>z.same (A0g c))) .nil)
   ·exact (A0e d) _ _ A0b
   ·have e2:=((A5t (o:= .own np) (u:= .ins t.aw dn []) (v:= .ins t.aw dn [("term",v),("sums",.ref l2),("guards",.ref O)]) hn a3).trans (A0e (o:= .lst [.ref np]) d)) _ _ (A0b (H:=upd H l1 (.lst [.str x])) (a:=l2) (o:= .lst (Z.map V.str++[.str x])));rw [Z0s];exact e2
  | @pair o dd op v1 v2 l r eo0 ob1 ob2 =>
   have g:=A0m _ _ eo0;simp only [dep] at bg bs;refine i16 _ rfl _ _ _ _ rfl (C9h T g) (A1e (D4r T op)) true rfl (A5r ?_);refine i19 _ rfl o _ dd _ _ rfl g (A8n T op) (B7u T op) (by walk_at "lk") (i19 _ rfl a _ n _ _ rfl e T.bq T.cr (by walk_at "lk") (i19 _ rfl a _ n _ _ rfl e T.bq T.c9 (by walk_at "lk") λJ I i W a4=>(i03 J I (i0r _ _ _ rfl A0b rfl ?_))));have D:=A5t (o:= .own J) (u:= .ins t.aw I []) (v:= .ins t.aw I [("term",v1),("sums",.ref M),("guards",.ref O)]) i W;refine i19 _ rfl o _ dd _ _ rfl (D _ _ g) (A8n T op) (C0a T op) (by walk_at "lk") (i19 _ rfl a _ n _ _ rfl (D _ _ e) T.bq T.cr (by walk_at "lk") (i19 _ rfl a _ n _ _ rfl (D _ _ e) T.bq T.c9 (by walk_at "lk") λU R m a0 a5=>⟨U,(i0y R _ _ _ rfl A0b rfl (A0v rfl) λq d=> ?_)⟩));have s2:=A5t (o:= .own U) (u:= .ins t.aw R []) (v:= .ins t.aw R [("term",v2),("sums",.ref M),("guards",.ref O)]) m a0;have s3:=A0e (o:= .lst [.ref J,.ref U]) d;have c:=D.trans (s2.trans s3);refine k q _ _ ((D.trans s2).free d) c A0b (.cons (i1d J I v1 M O C rfl (A0h (B _ i) (s3 _ _ (s2 _ _ A0b))) (ob1.imp (A0g c)) (A0g c _ _ y) (A0g c _ _ N) (by show C.length+dep l<=100;lia) (by show Z.length+dep l<=100;lia) (Paired.mapP pg λ_ _ z=>z.same (A0g c))) (.cons (i1d U R v2 M O C rfl (A0h (B _ (D.free m)) (s3 _ _ A0b)) (ob2.imp (A0g c)) (A0g c _ _ y) (A0g c _ _ N) (by show C.length+dep r<=100;lia) (by show Z.length+dep r<=100;lia) (Paired.mapP pg λ_ _ z=>z.same (A0g c))) .nil))
  | @guard o dd x lo hi v1 v2 l r eo0 ob1 ob2 =>
   have g:=A0m _ _ eo0;have f:A8a K H (.ref o) (.ref t.af):= .ins g T.ay T.bn.ha T.bn.hn T.bn.htk T.bn.hm;simp only [dep] at bg bs;refine i16 _ rfl _ _ _ _ rfl f (A1e T.om) false rfl (A2m ?_);refine i16 _ rfl _ _ _ _ rfl f (A1e T.ja) false rfl (A2m ?_);refine i16 _ rfl _ _ _ _ rfl f (A1e T.h_) true rfl (A5r ?_);refine i19 _ rfl o _ dd _ _ rfl g T.ay T.gy (by walk_at "lk") (i19 _ rfl a _ n _ _ rfl e T.bq T.cr (by walk_at "lk") (i19 _ rfl a _ n _ _ rfl e T.bq T.c9 (by walk_at "lk") (i06 _ rfl (A0v rfl) λt1 a1=>⟨A0v rfl,λl1 L=> ?_⟩)));have z1:=(A0e (o:= .tup [.ref o,.bl true]) a1).trans (A0e (o:= .lst [.ref t1]) L);refine i10 O l1 _ _ rfl rfl (z1 _ _ hg) A0b (A2a (by simp;lia)) λg1 X=> ?_;have z2:=z1.trans (A0e (o:= .lst (C++[.ref t1])) X);refine λJ I i W a4=>(i03 J I (i0r _ _ _ rfl A0b rfl ?_));have y1:=A5t (o:= .own J) (u:= .ins t.aw I []) (v:= .ins t.aw I [("term",v1),("sums",.ref M),("guards",.ref g1)]) i W;have G:=z2.trans y1;refine i19 _ rfl o _ dd _ _ rfl (G _ _ g) T.ay T.dz (by walk_at "lk") (i19 _ rfl a _ n _ _ rfl (G _ _ e) T.bq T.cr (by walk_at "lk") (i19 _ rfl a _ n _ _ rfl (G _ _ e) T.bq T.c9 (by walk_at "lk") (i06 _ rfl (A0v rfl) λt2 a2=>⟨A0v rfl,λl2 j=> ?_⟩)));have y2:=(A0e (o:= .tup [.ref o,.bl false]) a2).trans (A0e (o:= .lst [.ref t2]) j);refine i10 O l2 _ _ rfl rfl (y2 _ _ (G _ _ hg)) A0b (A2a (by simp;lia)) λg2 Y=> ?_;have y3:=y2.trans (A0e (o:= .lst (C++[.ref t2])) Y);refine λU R m a0 a5=>(i03 U R (i0r _ _ _ rfl A0b rfl (i0k _ rfl _ rfl (A0v rfl) λq d=> ?_)));have y4:=A5t (o:= .own U) (u:= .ins t.aw R []) (v:= .ins t.aw R [("term",v2),("sums",.ref M),("guards",.ref g2)]) m a0;have y5:=A0e (o:= .lst [.ref J,.ref U]) d;have c:=G.trans (y3.trans (y4.trans y5));refine k q _ _ ((G.trans (y3.trans y4)).free d) c A0b (.cons (i1d J I v1 M g1 _ rfl (A0h (B _ (z2.free i)) ((y3.trans (y4.trans y5)) _ _ A0b)) (ob1.imp (A0g c)) (A0g c _ _ y) (A0h (B _ (z1.free X)) ((y1.trans (y3.trans (y4.trans y5))) _ _ A0b)) (by show (C++[V.ref t1]).length+dep l<=100;rw [Z06];simp only [Z0y,Z2g];lia) (by show Z.length+dep l<=100;lia) (B2i (Paired.mapP pg λ_ _ z=>z.same (A0g c)) (.cons (i03 t1 o (i0n dd v1 v2 rfl (A0h (B _ a1) (((A0e L).trans ((A0e X).trans (y1.trans (y3.trans (y4.trans y5))))) _ _ A0b)) (A0g c _ _ eo0))) .nil))) (.cons (i1d U R v2 M g2 _ rfl (A0h (B _ ((G.trans y3).free m)) (y5 _ _ A0b)) (ob2.imp (A0g c)) (A0g c _ _ y) (A0h (B _ ((G.trans y2).free Y)) ((y4.trans y5) _ _ A0b)) (by show (C++[V.ref t2]).length+dep r<=100;rw [Z06];simp only [Z0y,Z2g];lia) (by show Z.length+dep r<=100;lia) (B2i (Paired.mapP pg λ_ _ z=>z.same (A0g c)) (.cons (i03 t2 o (i0n dd v1 v2 rfl (A0h (B _ (G.free a2)) (((A0e j).trans ((A0e Y).trans (y4.trans y5))) _ _ A0b)) (A0g c _ _ eo0))) .nil))) .nil))
theorem B9n (T:Txt K mg t) (hm:3<=m) (Ga3:A3h P w K mg base CX0 m t.gf t.gh ["part"] sp')
  (hs:∀(p:V) (u:Tm) (s:List Str) (g:List Gd) (S:Addr->Prop) (H:Hp) (Q:VK),Fr S H->A3f t (A0s S H) p (u,s,g)->dep u+1<=n->nod u<=1000->(∀(q:Addr) (xs:List V) (H':Hp),H q=none->A0u H H'->H' q=some (.lst xs)->Paired (A3f t (A0s S H')) xs (prT u s g)->Q (.ref q) H')->sp' [p] H Q E0) :
  A3h P w K mg base CX0 (m+1) t.gf t.gh ["part"] (D0h t n):=by
 have Ga4:= @A3t P w K mg base t T;refine T.je.F.ok A7n (by walk_at "ln") λ_ A _ s H _ Q E hr h=> ?_
 ·obtain ⟨p,u,f,d,S,rfl,fr,O,hd,hn,k⟩:=h;obtain ⟨a,dx,tv,sl,gl,gs,rfl,e0,ob,a5,a6,bg,bs,pg⟩:=id O;have dp:=A6n u;refine i02 _ (@RS.r _ _ _ (rq1 (rq6 1 A7n.nd (@A1r _ _ _ _ (A0a (pv 0) A0c))) (rq1 (rq7 (A2c (pcl Ga4 hr T.bv (A0a (pv 0) A0c))) (A0k (i:=2) A7n.nd rfl (.inl rfl)) (rq3 ⟨A2r (A7c Z0k PySem.F.slot_list_extend PySem.F.type_list_extend B3f (pv 1) (A0a (pcl Ga3 hr T.je (A0a (pv 2) A0c)) A0c))⟩)) (rq3 (rq5 (pv 1)))))) ?_;refine i06 _ rfl (A0v rfl) λl I=> ?_;have M:A0u H (upd H l (.lst [.ref a])):=A0e I;have m1:A0u (A0s S H) (A0s (λb=>S b/\b≠l) (upd H l (.lst [.ref a]))):=λb o z=>A0h ⟨(A0l z).1,A0z (A0l z).2 I⟩ (M _ _ (A0l z).2);have Y:∀{G:Hp},A0u (upd H l (.lst [.ref a])) G->Fr (λb=>S b/\b≠l) G:=λ{G} s b c=>⟨fr b (M.free (s.free c)),λz=>by subst z;rw [s _ _ A0b] at c;cases c⟩;have nl:¬(S l/\l≠l):=λz=>z.2 rfl;refine i0l _ rfl (.ref a) u f (i0m d (λb=>S b/\b≠l) rfl (Y (A0u.refl _)) (O.same m1) λq W H2 hq s2 J pk=>(i06 q rfl ⟨_,SqL.of J⟩ ?_));have ql:q≠l:=λz=>by subst z;rw [A0b] at hq;cases hq
  have U:=Paired.length pk
  have X:((B7s u f d).flatMap λk=>prT k.1 k.2.1 k.2.2).length+1=nod u:=by
   have h1:(prT u f d).length=nod u:=A5w u f d;rw [C3b,Z0y] at h1;exact h1
  have a1:∀(i:Nat),(((B7s u f d).take i).flatMap λk=>prT k.1 k.2.1 k.2.2).length<=nod u:=λi=>by
   have e:=Z2e i (B7s u f d);have e2:((B7s u f d).flatMap λk=>prT k.1 k.2.1 k.2.2)=(((B7s u f d).take i).flatMap λk=>prT k.1 k.2.1 k.2.2)++(((B7s u f d).drop i).flatMap λk=>prT k.1 k.2.1 k.2.2):=by rw [<-List.flatMap_append,e]
   rw [e2,Z06] at X;lia
  refine A2l (K:=K) (a:=q) (xs:=W) (λi Z H3=>∃(o2:Option V) (xs:List V),Z=[Sro a,Sro l,o2]/\A0u H H3/\(∀b,H3 b=none->upd H l (.lst [.ref a]) b=none)/\H3 q=some (.lst W)/\Paired (A3f t (A0s (λb=>S b/\b≠l) H3)) W (B7s u f d)/\H3 l=some (.lst (.ref a::xs))/\Paired (A3f t (A0s (λb=>S b/\b≠l) H3)) xs (((B7s u f d).take i).flatMap λk=>prT k.1 k.2.1 k.2.2))
   (i0t none [] rfl (M.trans s2) (λb c=>s2.free c) J pk ⟨s2 _ _ A0b,.nil⟩) (by rintro i Z H3 _ ⟨_,_,_,_,_,h,_⟩;exact SqL.of h) ?_ ?_
  ·rintro i y Z H3 hy ⟨o2,xs,rfl,L,R,h3,x,j,C⟩;refine B3x ?_;intro D';obtain ⟨v,B,a0⟩:=B3z x hy;have km:=Z13 B;have a4:=D1p km
   have nk:nod v.1<=1000:=by
    have J:(prT v.1 v.2.1 v.2.2).length<=((B7s u f d).flatMap λk=>prT k.1 k.2.1 k.2.2).length:=by
     obtain ⟨l1,l2,e2⟩:=List.append_of_mem km;rw [e2,List.flatMap_append,List.flatMap_cons,Z06,Z06];lia
    rw [A5w] at J
    lia
   have N:Fr (λb=>S b/\b≠l) H3:=λb c=>⟨fr b (M.free (R b c)),λz=>by subst z;rw [j] at c;cases c⟩;refine i0j _ rfl (.inl (i01 rfl _ (SqL.of j))) _ rfl (hs y v.1 v.2.1 v.2.2 _ H3 _ N a0 (by lia) nk λq2 zs H4 a7 D h4 pz=> ?_);have a3:=Paired.length C;have a2:=Paired.length pz;rw [A5w] at a2;have b1:=a1 i;refine i10 l q2 _ _ rfl rfl (D _ _ j) h4 (A2a (by simp;lia)) ?_;have u4:A0u (A0s (λb=>S b/\b≠l) H4) (A0s (λb=>S b/\b≠l) (upd H4 l (.lst (.ref a::xs++zs)))):=A2i (A0u.refl _) nl;have v4:=(A0g (S:=λb=>S b/\b≠l) D).trans u4;refine i0t _ (xs++zs) rfl (A0o (L.trans D) I) (λb c=> ?_) ?_ (Paired.mapP x λ_ _ z=>z.same v4) ⟨A0b,?_⟩
   ·by_cases z:b=l
    ·subst z;rw [A0b] at c;cases c
    ·rw [A0i z] at c;exact R b (D.free c)
   ·rw [A0i ql];exact D _ _ h3
   ·rw [Z14,B,Z2f,List.flatMap_append,List.flatMap_cons,List.flatMap_nil,Z0u];exact B2i (Paired.mapP C λ_ _ z=>z.same v4) (Paired.mapP pz λ_ _ z=>z.same u4)
  ·rintro Z H3 ⟨o2,xs,rfl,L,R,h3,x,j,C⟩;rw [U,Z18] at C;refine i02 _ rfl (k l _ H3 I L j ?_);rw [C3b];refine .cons (O.same (A0g L)) (Paired.mapP C λ_ _ z=>z.same (A2x (A0u.refl _) λb o _ h=>h.1))
theorem C7e (T:Txt K mg t):∀n:Nat,A3h P w K mg base CX0 (n+4) t.gf t.gh ["part"] (D0h t n)
 | 0=>B9n T (sp':=λ_ _ _ _=>False) (m:=3) (by lia) (A3h.none λ_ _ _ _ h=>h) λp u s g S H Q _ _ h=>absurd h (by lia)
 | n+1=>B9n T (m:=n+4) (by lia) (C7e T n) λp u s g S H Q c a d b k=>(i14 p u s g S rfl c a (by lia) b k)
theorem C1b (T:Txt K mg t):FO P w base T.py 46 (D2x t):=by
 have Ga3:= @C7e P w K mg base t T 40;have Ga2:= @A8o P w K mg base t T;refine T.py.F.ok C1f (by walk_at "ln") λ_ A _ s H _ Q E l h=> ?_
 ·obtain ⟨v,u,S,rfl,e,I,z,G,k⟩:=h;refine i02 _ (@RS.r _ _ _ (rq3 (rq5 (pcl Ga3 l T.je (A0a (pmk T.jl Ga2 l T.pw T.cg.b (A0a (pv 0) (A0a (@A1r _ _ _ _ A0c) (A0a (@A1r _ _ _ _ A0c) A0c)))) A0c))))) ?_;refine i06 _ rfl (A0v rfl) λm c=>⟨A0v rfl,λx a=> ?_⟩;refine λn f d i N=>(i03 n f (i0r _ _ _ rfl A0b rfl ?_));have p:=(A0e (o:= .lst []) c).trans (A0e (o:= .lst []) a);have j:=A5t (o:= .own n) (u:= .ins t.aw f []) (v:= .ins t.aw f [("term",v),("sums",.ref m),("guards",.ref x)]) d i;have g:=p.trans j;refine i14 (.ref n) u [] [] S rfl (λb J=>e b (g.free J)) (i1d n f v m x [] rfl (A0h (e _ (p.free d)) A0b) (I.imp (A0g g)) (A0h (e _ c) (j _ _ ((A0e a) _ _ A0b))) (A0h (e _ ((A0e c).free a)) (j _ _ A0b)) (by show 0+dep u<=100;lia) (by show 0+dep u<=100;lia) .nil) z G λq y M C D L B=> ?_;exact k q y M (g.free C) (g.trans D) L B
def TmW:Tm->Prop
 | .num z=>Sm z
 | .place x=>B4q x
 | .read a ix=>a.length<=60/\ix.length<=12/\∀e∈ix,B4q e.1/\Sm e.2
 | .sum x b=>B4q x/\TmW b
 | .pair _ l r=>TmW l/\TmW r
 | .guard x lo hi l r=>B4q x/\Sm lo/\Sm hi/\TmW l/\TmW r
def isS:Tm->Bool
 | .sum _ _=>true
 | _=>false
def isP:Tm->Bool
 | .pair _ _ _=>true
 | _=>false
def isG:Tm->Bool
 | .guard _ _ _ _ _=>true
 | _=>false
def isL:Tm->Bool
 | .place _=>true
 | _=>false
def isR:Tm->Bool
 | .read _ _=>true
 | _=>false
theorem E4m {v:Value} {c:Addr} {e b:Bool} (h1:kitOne K v (.ref c)=some e) (h2:kitOne K v (.ref d)=some b):∀us,A3z ([V.ref c,V.ref d]) us->kitAny K v us=some (e||b):=λus r=>by
 cases r with
 | cons a r =>
  cases a
  cases r with
  | cons a r =>
   cases a
   cases r
   unfold kitAny;rw [h1]
   cases e with
   | true=>rfl
   | false =>
    unfold kitAny;rw [h2];cases b <;> rfl
structure Kit (K:Frag) (t:Adr) (H:Hp) (v:V) (u:Tm):Prop where
 ex:∃(a C dx:Addr) (fs:List (Str×V)),v= .ref a/\H a=some (.ins C dx fs)/\Cls K C/\findIn K (.ref C) "__class__"=some (some (.builtin "object.__class__"))/\
 specialIn K (.builtin "object.__class__") "__get__"=some (some (.builtin "getset_descriptor.__get__"))/\takesIn K (.builtin "object.__class__")=some true/\mroIn K C (.type "object")=some true/\A8a K H (.ref a) (.ref C)/\kitOne K (.ref C) (.ref t.bp)=some (isS u)/\kitOne K (.ref C) (.ref t.c8)=some (isP u)/\kitOne K (.ref C) (.ref t.af)=some (isG u)/\kitOne K (.ref C) (.ref t.am)=some (isL u)/\kitOne K (.ref C) (.ref t.aj)=some (isR u)
theorem C9x {t:Adr} (T:Txt K mg t) (a:Ob t H v u):Kit K t H v u:=by
 cases a with
 | num e=>exact ⟨_,_,_,_,rfl,e,T.cy,T.a_.ha,T.a_.hn,T.a_.htk,T.a_.hm,.ins e T.cy T.a_.ha T.a_.hn T.a_.htk T.a_.hm,T.i_,T.m9,T.ju,T.ue,T.ur⟩
 | place e=>exact ⟨_,_,_,_,rfl,e,T.fw,T.bo.ha,T.bo.hn,T.bo.htk,T.bo.hm,.ins e T.fw T.bo.ha T.bo.hn T.bo.htk T.bo.hm,T.jn,T.oo,T.ml,T.mn,T.vd⟩
 | read e _=>exact ⟨_,_,_,_,rfl,e,T.fe,T.bw.ha,T.bw.hn,T.bw.htk,T.bw.hm,.ins e T.fe T.bw.ha T.bw.hn T.bw.htk T.bw.hm,T.mq,T.rc,T.ou,T.ni,T.r8⟩
 | sum e _=>exact ⟨_,_,_,_,rfl,e,T.d_,T.cj.ha,T.cj.hn,T.cj.htk,T.cj.hm,.ins e T.d_ T.cj.ha T.cj.hn T.cj.htk T.cj.hm,T.jm,T.s_,T.qm,T.qg,T.tw⟩
 | guard e _ _=>exact ⟨_,_,_,_,rfl,e,T.ay,T.bn.ha,T.bn.hn,T.bn.htk,T.bn.hm,.ins e T.ay T.bn.ha T.bn.hn T.bn.htk T.bn.hm,T.ja,T.om,T.h_,T.kl,T.oz⟩
 | @pair _ _ k _ _ _ _ e _ _ =>
  cases k with
  | plus=>exact ⟨_,_,_,_,rfl,e,T.rf,T.bx.ha,T.bx.hn,T.bx.htk,T.bx.hm,.ins e T.rf T.bx.ha T.bx.hn T.bx.htk T.bx.hm,T.kf,T.qp,T.ox,T.oq,T.q0⟩
  | minus=>exact ⟨_,_,_,_,rfl,e,T.lh,T.bh.ha,T.bh.hn,T.bh.htk,T.bh.hm,.ins e T.lh T.bh.ha T.bh.hn T.bh.htk T.bh.hm,T.jt,T.n_,T.kh,T.kg,T.nh⟩
  | times=>exact ⟨_,_,_,_,rfl,e,T.lq,T.bj.ha,T.bj.hn,T.bj.htk,T.bj.hm,.ins e T.lq T.bj.ha T.bj.hn T.bj.htk T.bj.hm,T.jj,T.nq,T.ke,T.ma,T.on⟩
def A3o:Tm->List Str
 | .sum x b=>x::A3o b
 | _=>[]
def inS:Tm->Tm
 | .sum _ b=>inS b
 | u=>u
def axO:Tm->List Str
 | .place x=>[x]
 | .guard x _ _ _ _=>[x]
 | .read _ ix=>(ix.filter λe=>decide (¬e.1=("":Str))).map (·.1)
 | _=>[]
def C0k (u:Tm):List Str:=(prT u [] []).flatMap λe=>axO e.1
def gd1 (e:Gd) (u:Tm):Tm:=match e.2.2.2 with
 | true=> .guard e.1 e.2.1 e.2.2.1 u (.num 0)
 | false=> .guard e.1 e.2.1 e.2.2.1 (.num 0) u
def gdM (g:List Gd) (u:Tm):Tm:=g.foldr gd1 u
def D9r (A:Adr):Sp:=λb H Q _=>∃(v:V) (u:Tm),b=[v]/\Ob A H v u/\dep u<=100/\∀(q:Addr) (a:Hp),H q=none->A0u H a->a q=some (.lst ((A3o u).map V.str))->Q (.ref q) a
def E3a (A:Adr):Sp:=λc H Q _=>∃(v:V) (u:Tm) (s:List Str) (g:List Gd) (S:Addr->Prop),c=[v]/\Fr S H/\A3f A (A0s S H) v (u,s,g)/\∀(b:V) (a:Hp),A0u H a->A3f A (A0s S a) b (inS u,s++A3o u,g)->Q b a
def D2r (A:Adr) (o:Op3):Sp:=λe H Q _=>∃(v a b:V),e=[v,a,b]/\∀(x d:Addr) (c:Hp),H x=none->A0u H c->c x=some (.ins (A6z A o) d [("left",a),("right",b)])->Q (.ref x) c
def E1w (A:Adr):Sp:=λi H Q _=>∃(g d:Addr) (x f e u v a b:V),i=[.ref g,a,b]/\H g=some (.ins A.af d [("axis",x),("low",f),("high",e),("inner",u),("outer",v)])/\∀(n h:Addr) (c:Hp),H n=none->A0u H c->c n=some (.ins A.af h [("axis",x),("low",f),("high",e),("inner",a),("outer",b)])->Q (.ref n) c
def C4l (A:Adr):Sp:=λe H Q _=>∃(v:V) (d:Addr) (c:List V) (g:List Gd) (u:Tm) (S:Addr->Prop),e=[v,.ref d]/\Fr S H/\Ob A (A0s S H) v u/\H d=some (.lst c)/\Paired (E0f A (A0s S H)) c g/\∀(b:V) (a:Hp),A0u H a->Ob A (A0s S a) b (gdM g u)->Q b a
def E0n (A:Adr):Sp:=λb H Q _=>∃(v:V) (u:Tm),b=[v]/\Ob A H v u/\TmW u/\∀(q:Addr) (a:Hp),H q=none->A0u H a->a q=some (.lst ((axO u).map V.str))->Q (.ref q) a
def E0j (A:Adr):Sp:=λb H Q _=>∃(v:V) (u:Tm),b=[v]/\Ob A H v u/\TmW u/\dep u<=40/\nod u<=1000/\∀(q:Addr) (a:Hp),H q=none->A0u H a->a q=some (.lst ((C0k u).map V.str))->Q (.ref q) a
abbrev lfO (A:Adr) (d:Addr) (kn l:Addr) (n:Nat):HO:= .ins A.au d [("known",.ref kn),("lines",.ref l),("lifts",.int (n:Int))]
def sN (n:Nat):Str:="s"++(toString (n:Int):Str)
def D2t (A:Adr):Sp:=λb H Q _=>∃(p d a l:Addr) (n:Nat),b=[.ref p]/\H p=some (lfO A d a l n)/\n<=100000/\Q (.str (sN n)) (upd H p (lfO A d a l (n+1)))
theorem B5a (T:Txt K mg t):FO P w base T.j6 1 (D9r t):=by
 refine T.j6.F.ok A4u (by walk_at "ln") λ_ A _ s H _ Q E J h=> ?_
 ·obtain ⟨v,u,rfl,I,L,k⟩:=h;refine i02 _ (@RS.r _ _ _ (rq1 (rq6 1 A4u.nd (@A1r _ _ _ _ A0c)) (rq1 (rq6 2 A4u.nd (pv 0)) (rq1 ⟨@B0a _ _ _ _ _ _ PassesOwn.never (A2s (A0q A1d (by rfl) T.ab Z0d (A0a (pv 2) (A0a (A3k (v:=V.ref t.bp) rfl T.ww rfl) A0c)))) (@A1t _ _ _ _ _ (A2r (A7c Z0k Z0n Z0o A2e (pv 1) (A0a (A1c (pv 2) rfl) A0c))) (@A2z _ _ _ (@A3e _ _ 2 _ _ _ _ A4u.nd rfl (.inl rfl) (A1c (pv 2) rfl) rfl (.inl rfl))))⟩ (rq3 (rq5 (pv 1))))))) ?_;refine ⟨A0v rfl,λl i=> ?_⟩;have D:A0u H (upd H l (.lst [])):=A0e i;refine i02 _ rfl ?_;refine i02 (λm Z d=>∃(a:V) (f:Tm) (b:List Str),Z=[some v,Sro l,some a]/\Ob t H a f/\A0u H d/\d l=some (.lst (b.map V.str))/\b++A3o f=A3o u/\b.length+dep f<=100/\m=dep f) (i10 (dep u) v u [] rfl I D A0b rfl ⟨by show 0+dep u<=100;lia,rfl⟩) ?_;rintro m Z d ⟨a,f,b,rfl,p,c,j,n,B,rfl⟩
  cases id p with
  | @num o dd z eo =>
   have g:A8a K d (.ref o) (.ref t.ae):= .ins (c _ _ eo) T.cy T.a_.ha T.a_.hn T.a_.htk T.a_.hm;have e:b=A3o u:=by rw [<-n];exact (Z0u _).symm
   exact i16 _ rfl _ _ _ _ rfl g (A1e T.i_) false rfl (A2m (i02 _ rfl (k l d i c (by rw [<-e];exact j))))
  | @place o dd x eo =>
   have g:A8a K d (.ref o) (.ref t.am):= .ins (c _ _ eo) T.fw T.bo.ha T.bo.hn T.bo.htk T.bo.hm;have e:b=A3o u:=by rw [<-n];exact (Z0u _).symm
   exact i16 _ rfl _ _ _ _ rfl g (A1e T.jn) false rfl (A2m (i02 _ rfl (k l d i c (by rw [<-e];exact j))))
  | @read o dd ll x ix eo rp =>
   have g:A8a K d (.ref o) (.ref t.aj):= .ins (c _ _ eo) T.fe T.bw.ha T.bw.hn T.bw.htk T.bw.hm;have e:b=A3o u:=by rw [<-n];exact (Z0u _).symm
   exact i16 _ rfl _ _ _ _ rfl g (A1e T.mq) false rfl (A2m (i02 _ rfl (k l d i c (by rw [<-e];exact j))))
  | @pair o dd op v1 v2 ll r eo ob1 ob2 =>
   have e:b=A3o u:=by rw [<-n];exact (Z0u _).symm
   have C:kitOne K (.ref (A6z t op)) (.ref t.bp)=some false:=by cases op with
    | plus=>exact T.kf
    | minus=>exact T.jt
    | times=>exact T.jj
   exact i16 _ rfl _ _ _ _ rfl (C9h T (c _ _ eo)) (A1e C) false rfl (A2m (i02 _ rfl (k l d i c (by rw [<-e];exact j))))
  | @guard o dd x lo hi v1 v2 ll r eo ob1 ob2 =>
   have g:A8a K d (.ref o) (.ref t.af):= .ins (c _ _ eo) T.ay T.bn.ha T.bn.hn T.bn.htk T.bn.hm;have e:b=A3o u:=by rw [<-n];exact (Z0u _).symm
   exact i16 _ rfl _ _ _ _ rfl g (A1e T.ja) false rfl (A2m (i02 _ rfl (k l d i c (by rw [<-e];exact j))))
  | @sum o dd x v2 bb eo ob1 =>
   have g:A8a K d (.ref o) (.ref t.bp):= .ins (c _ _ eo) T.d_ T.cj.ha T.cj.hn T.cj.htk T.cj.hm;have B:b.length+(dep bb+1)<=100:=B;refine i16 _ rfl _ _ _ _ rfl g (A1e T.jm) true rfl (A5r ?_);refine i02 (λZ' q=>∃y,y<dep (.sum x bb)/\∃(a:V) (f:Tm) (b:List Str),Z'=[some v,some (.ref l),some a]/\Ob t H a f/\A0u H q/\q l=some (.lst (b.map V.str))/\b++A3o f=A3o u/\b.length+dep f<=100/\y=dep f) (λZ' q z=>z) ?_;refine i06 _ rfl (.inl (i01 rfl _ (SqL.of j))) (i19 _ rfl o _ dd _ _ rfl (c _ _ eo) T.d_ T.fm (by walk_at "lk") (i0u l _ _ rfl rfl j (A1l (by rw [Z08];lia)) ?_));have G:o≠l:=λz=>by subst z;rw [i] at eo;cases eo
   refine i19 _ rfl o _ dd _ _ rfl (by rw [A0i G];exact c _ _ eo) T.d_ T.ik (by walk_at "lk") ?_;refine i0x (dep bb) (by show dep bb<dep bb+1;lia) v2 bb (b++[x]) rfl ob1 (A0o c i) (i04 (by rw [A0b,Z0s];rfl) ?_ ?_ rfl)
   ·rw [<-n,Z0z];rfl
   ·rw [Z06];show b.length+1+dep bb<=100;lia
theorem A9f (T:Txt K mg t):FO P w base T.fj 4 (E3a t):=by
 have Ga4:= @A3t P w K mg base t T;refine T.fj.F.ok A6h (by walk_at "ln") λ_ A _ s H _ Q E M h=> ?_
 ·obtain ⟨v,u,D,g,S,rfl,U,X,k⟩:=h;refine i02 _ (@RS.r _ _ _ (rq1 (rq6 1 A6h.nd (pv 0)) (rq1 ⟨@B0a _ _ _ _ _ _ PassesOwn.never (A2s (A0q A1d (by rfl) T.ab Z0d (A0a (A1c (pv 1) rfl) (A0a (A3k (v:=V.ref t.bp) rfl T.ww rfl) A0c)))) (@A2z _ _ _ (@A3e _ _ 1 _ _ _ _ A6h.nd rfl (.inl rfl) (A1f A1n (pcl Ga4 M T.bv (A0a (pv 1) A0c)) A0d (λ_ _=>rfl)) rfl (.inl rfl)))⟩ (rq3 (rq5 (pv 1)))))) ?_;refine i02 _ rfl ?_;refine i02 (λm Z H2=>∃(c:V) (f:Tm) (e:List Str),Z=[some v,some c]/\A0u H H2/\A3f t (A0s S H2) c (f,e,g)/\inS f=inS u/\e++A3o f=D++A3o u/\m=dep f) (i10 (dep u) v u D rfl (A0u.refl _) X rfl rfl rfl) ?_;rintro m Z H2 ⟨c,f,e,rfl,n,d,y,p,rfl⟩;obtain ⟨a,W,tv,sl,gl,gs,rfl,N,J,a0,O,bg,bs,pg⟩:=id d;have Y:=A0m _ _ N;obtain ⟨o,C,dd,fs,rfl,eo,_,_,_,_,_,R,k1,_⟩:=(C9x T (J.imp A0m)).ex;refine i19 _ rfl a _ W _ _ rfl Y T.bq T.b_ (by walk_at "lk") ⟨_,(i0g _ _ _ rfl (i0a R (A1e k1) (isS f) rfl ?_))⟩
  cases f with
  | sum x b =>
   refine A5r ?_;refine i02 (λZ' I=>∃L,L<dep (.sum x b)/\∃(c:V) (f:Tm) (e:List Str),Z'=[some v,some c]/\A0u H I/\A3f t (A0s S I) c (f,e,g)/\inS f=inS u/\e++A3o f=D++A3o u/\L=dep f) (λZ' I z=>z) ?_;have B:Fr S H2:=λb hb=>U b (n.free hb);refine i0l _ rfl (.ref a) (.sum x b) e (i0m g S rfl B d λq xs H3 hq s3 h3 G=> ?_)
   cases G with
   | cons p1 G =>
    cases G
    refine i0y q _ _ _ rfl rfl (SqL.of h3) (A3j (j:=0) rfl) ?_;exact i0l (dep b) (by show dep b<dep b+1;lia) _ b (e++[x]) (i0h rfl (n.trans s3) p1 y (by rw [<-p,Z0z];rfl) rfl)
  | num z=>exact A2m (i02 _ rfl (k _ H2 n (by rw [show inS u= .num z from y.symm,<-p];show A3f t (A0s S H2) _ (.num z,e++[],g);rw [Z0u];exact d)))
  | place z=>exact A2m (i02 _ rfl (k _ H2 n (by rw [show inS u= .place z from y.symm,<-p];show A3f t (A0s S H2) _ (.place z,e++[],g);rw [Z0u];exact d)))
  | read z i=>exact A2m (i02 _ rfl (k _ H2 n (by rw [show inS u= .read z i from y.symm,<-p];show A3f t (A0s S H2) _ (.read z i,e++[],g);rw [Z0u];exact d)))
  | pair z l r=>exact A2m (i02 _ rfl (k _ H2 n (by rw [show inS u= .pair z l r from y.symm,<-p];show A3f t (A0s S H2) _ (.pair z l r,e++[],g);rw [Z0u];exact d)))
  | guard z i j l r=>exact A2m (i02 _ rfl (k _ H2 n (by rw [show inS u= .guard z i j l r from y.symm,<-p];show A3f t (A0s S H2) _ (.guard z i j l r,e++[],g);rw [Z0u];exact d)))
theorem B3l (T:Txt K mg t):FP P w mg base T.ia 3 (D2r t .plus):=by
 have Ga5:= @A6g P w K mg base t T;refine T.ia.F.ok B3p (by walk_at "ln") λ_ A _ s H _ Q E f h=> ?_
 ·obtain ⟨v,a,b,rfl,k⟩:=h;refine i02 _ (@RS.r _ _ _ (rq3 (rq5 (pmk T.yI Ga5 f T.yD T.cn.b (A0a (pv 1) (A0a (pv 2) A0c)))))) ?_;exact i0e _ rfl _ rfl λx e d c g=>(i14 x _ e _ _ rfl A0b (A8n T .plus) (B7u T .plus) (C0a T .plus) ⟨rfl,k x e _ d (A2f d c) A0b⟩)
theorem B2h (T:Txt K mg t):FP P w mg base T.ga 3 (D2r t .minus):=by
 have Ga5:= @A6g P w K mg base t T;refine T.ga.F.ok B2e (by walk_at "ln") λ_ A _ s H _ Q E f h=> ?_
 ·obtain ⟨v,a,b,rfl,k⟩:=h;refine i02 _ (@RS.r _ _ _ (rq3 (rq5 (pmk T.ye Ga5 f T.wy T.cn.b (A0a (pv 1) (A0a (pv 2) A0c)))))) ?_;exact i0e _ rfl _ rfl λx e d c g=>(i14 x _ e _ _ rfl A0b (A8n T .minus) (B7u T .minus) (C0a T .minus) ⟨rfl,k x e _ d (A2f d c) A0b⟩)
theorem B1y (T:Txt K mg t):FP P w mg base T.fz 3 (D2r t .times):=by
 have Ga5:= @A6g P w K mg base t T;refine T.fz.F.ok B2g (by walk_at "ln") λ_ A _ s H _ Q E f h=> ?_
 ·obtain ⟨v,a,b,rfl,k⟩:=h;refine i02 _ (@RS.r _ _ _ (rq3 (rq5 (pmk T.yk Ga5 f T.yL T.cn.b (A0a (pv 1) (A0a (pv 2) A0c)))))) ?_;exact i0e _ rfl _ rfl λx e d c g=>(i14 x _ e _ _ rfl A0b (A8n T .times) (B7u T .times) (C0a T .times) ⟨rfl,k x e _ d (A2f d c) A0b⟩)
theorem moOk (T:Txt K mg t) (o:Op3):∃f fd,C2y K (A6z t o) "made_of" f/\A3h P w K mg base CX0 3 f fd ["self","left","right"] (D2r t o)/\A9b K fd ["self","left","right"] []:=by cases o with
 | plus=>exact i0f _ _ T.uc (B3l T) T.ia.b
 | minus=>exact i0f _ _ T.r_ (B2h T) T.ga.b
 | times=>exact i0f _ _ T.si (B1y T) T.fz.b
theorem A5f (T:Txt K mg t):FP P w mg base T.cv 3 (E1w t):=by
 have Ga6:= @B0k P w K mg base t T;refine T.cv.F.ok B2c (by walk_at "ln") λ_ A _ s H _ Q E j h=> ?_
 ·obtain ⟨g,d,x,o,m,u,v,a,b,rfl,e,k⟩:=h;refine i02 _ (@RS.r _ _ _ (rq3 (rq5 (pmk T.y6 Ga6 j T.mw T.gm.b (A0a (A1c (pv 0) rfl) (A0a (A1c (pv 0) rfl) (A0a (A1c (pv 0) rfl) (A0a (pv 1) (A0a (pv 2) A0c))))))))) ?_;exact i19 _ rfl g _ d _ _ rfl e T.ay T.fh (by walk_at "lk") (i19 _ rfl g _ d _ _ rfl e T.ay T.jq (by walk_at "lk") (i19 _ rfl g _ d _ _ rfl e T.ay T.j7 (by walk_at "lk") (i0e _ rfl _ rfl λn i f c l=>(i08 n i _ ⟨_,(i0r _ _ _ rfl A0b rfl (k n i _ f (A2f f c) A0b))⟩))))
theorem C5v (T:Txt K mg t):FO P w base T.se 5 (C4l t):=by
 have Ga7:= @A9d P w K mg base t T;refine T.se.F.ok A5l (by walk_at "ln") λ_ A _ s H _ Q E N h=> ?_
 ·obtain ⟨v,W,U,g,u,S,rfl,fr,ob,C,pg,k⟩:=h;have lg:=Paired.length pg;refine i02 _ (@RS.r _ _ _ (rq1 (rq6 2 A5l.nd (pv 0)) (rq1 (rq7 (C8z rfl T.pq (A0a (pv 1) A0c)) (A3v (n:=2) rfl (A0r (A0k (i:=3) A5l.nd rfl (.inl rfl)) (A0r (A0k (i:=4) A5l.nd rfl (.inl rfl)) A2p))) (rq3 (rq4 (A2s (pv 4)) (rq3 (rq6 2 A5l.nd (B7g (pv 3) (A0a (pv 2) (A0a (pmk T.sn Ga7 N T.qy T.di.b (A0a A0d A0c)) A0c))))) (rq3 (rq6 2 A5l.nd (B7g (pv 3) (A0a (pmk T.sn Ga7 N T.qy T.di.b (A0a A0d A0c)) (A0a (pv 2) A0c)))))))) (rq3 (rq5 (pv 2)))))) ?_;refine i0w _ rfl _ rfl W _ rfl (SqL.of C) ?_;refine C1x (K:=K) (a:=W) (xs:=U) (λi Z G=>∃(o3 X:Option V) (m:V),Z=[some v,Sro W,some m,o3,X]/\A0u H G/\Ob t (A0s S G) m (gdM (g.drop (g.length-i)) u)) (i0n none none v rfl (A0u.refl _) (by rw [Nat.sub_zero,Z2i];exact ob)) (by rintro i Z G ⟨_,_,_,_,sg,_⟩;exact SqL.of (sg _ _ C)) ?_ ?_
  ·rintro i y Z G hi hy ⟨o3,X,m,rfl,sg,f⟩;obtain ⟨e,R,tp,M,L,u1,w1,rfl,Y,a1⟩:=B3z pg hy;have D:=sg _ _ (A0m _ _ Y);have d:=sg _ _ (A0m _ _ a1)
   have ed:g.drop (g.length-(i+1))=e::g.drop (g.length-i):=by
    have a2:=(Z03.mp R);have e1:U.length-1-i=g.length-(i+1):=by lia
    rw [e1] at R;have h1:=(Z03.mp R);rw [Z1u h1.1,h1.2];congr 2
    lia
   have eg:gdM (g.drop (g.length-(i+1))) u=gd1 e (gdM (g.drop (g.length-i)) u):=by rw [ed];rfl
   rw [eg];generalize gdM (g.drop (g.length-i)) u=tm at f;refine i1a tp _ rfl (SqT.of D) rfl _ _ rfl _ _ rfl rfl ?_;obtain ⟨x,lo,J,bb⟩:=e;refine i0e _ rfl bb rfl ?_;have l:∀{G':Hp},A0u G G'->Fr S G':=λs b hb=>fr b (sg.free (s.free hb))
   cases bb with
   | true =>
    refine A5r ?_;refine i0l _ rfl M _ L (i1d _ _ _ _ _ _ rfl d T.ay T.fb (by walk_at "lk") (A5f T) (N.mono (by lia)) (i05 T.cv.b _ rfl λn c I p a0=>(i10 n _ c _ rfl A0b T.cy T.c_ rfl ?_)));have j:A0u G (upd (upd (upd G c (.own n)) n (.ins t.ae c [])) n (.ins t.ae c [("number",.int 0)])):=A2f I p;have B:upd (upd (upd G c (.own n)) n (.ins t.ae c [])) n (.ins t.ae c [("number",.int 0)]) n=some (.ins t.ae c [("number",.int 0)]):=A0b;generalize upd (upd (upd G c (.own n)) n (.ins t.ae c [])) n (.ins t.ae c [("number",.int 0)])=G1 at j B;refine i11 M L (.str x) (.int lo) (.int J) u1 w1 m (.ref n) (i00 rfl (j _ _ d) λq dq G2 O z o=> ?_);exact i0n _ _ (.ref q) rfl (sg.trans (j.trans z)) (.guard (A0h (l j q O) o) (f.imp (A0g (j.trans z))) (.num (A0h (l (A0u.refl _) n I) (z _ _ B))))
   | false =>
    refine A2m ?_;refine i0l _ rfl M _ L (i1d _ _ _ _ _ _ rfl d T.ay T.fb (by walk_at "lk") (A5f T) (N.mono (by lia)) ⟨T.cv.b,λn c I p a0=>(i0y n _ c _ rfl A0b T.cy T.c_ (i05 rfl _ rfl ?_))⟩);have j:A0u G (upd (upd (upd G c (.own n)) n (.ins t.ae c [])) n (.ins t.ae c [("number",.int 0)])):=A2f I p;have B:upd (upd (upd G c (.own n)) n (.ins t.ae c [])) n (.ins t.ae c [("number",.int 0)]) n=some (.ins t.ae c [("number",.int 0)]):=A0b;generalize upd (upd (upd G c (.own n)) n (.ins t.ae c [])) n (.ins t.ae c [("number",.int 0)])=G1 at j B;refine i11 M L (.str x) (.int lo) (.int J) u1 w1 (.ref n) m (i00 rfl (j _ _ d) λq dq G2 O z o=> ?_);exact i0n _ _ (.ref q) rfl (sg.trans (j.trans z)) (.guard (A0h (l j q O) o) (.num (A0h (l (A0u.refl _) n I) (z _ _ B))) (f.imp (A0g (j.trans z))))
  ·rintro Z G ⟨o3,X,m,rfl,sg,f⟩;have e0:g.drop (g.length-U.length)=g:=by rw [lg,Nat.sub_self];rfl
   rw [e0] at f;exact i02 _ rfl (k m G sg f)
theorem A9c (T:Txt K mg t):FP P w mg base T.df 1 (D2t t):=by
 refine T.df.F.ok A5g (by walk_at "ln") λ_ A _ s H _ Q E g h=> ?_
 ·obtain ⟨p,d,b,l,n,rfl,e,i,k⟩:=h;refine i02 _ (@RS.r _ _ _ (rq1 (rq6 1 A5g.nd (A1c (pv 0) rfl)) (rq1 ⟨A2d (pv 0) (A0j A2h (pv 1) A0d) rfl⟩ (rq3 (rq5 (D7l (D9j (D9h (pv 1) E2d)))))))) ?_;refine i19 _ rfl p _ d _ _ rfl e T.bt T.gb (by walk_at "lk") ?_;have a:Sm (n:Int):=by unfold Sm;lia
  have o:=C6h a;have j:(Str.empty++("s":Str)).length<=1:=by decide +kernel
  have m:(Str.empty++("s":Str)++(toString (n:Int):Str)).length<=60:=by rw [Str.length_append];lia
  have c:A4n "lifts" (V.int ((n:Int)+1)) ([("known",.ref b),("lines",.ref l),("lifts",.int (n:Int))]:List (Str×V))=([("known",.ref b),("lines",.ref l),("lifts",.int ((n+1:Nat):Int))]:List (Str×V)):=by rw [A1a (by decide +kernel),A1a (by decide +kernel),A4n,Z12 rfl];rfl
  refine i0o _ rfl _ _ rfl rfl (i15 _ rfl p _ d _ rfl e T.bt T.gb (by show 3<1000;decide) ?_);rw [c];refine i05 (A2a (by lia)) _ rfl (i0c _ (.inr (i06 _ rfl (E0m a) rfl)) (A2a (by lia)) (A2a (by lia)) ?_);have f:Str.empty++("s":Str)++(toString (n:Int):Str)=sN n:=by rw [Str.empty_append];rfl
  rw [f];exact k
theorem B9r:∀(u:Tm) (s:List Str) (g:List Gd),TmW u->∀e∈prT u s g,TmW e.1
 | .num _,_,_,h=>λe m=>by rw [Z0w.mp m];exact h
 | .place _,_,_,h=>λe m=>by rw [Z0w.mp m];exact h
 | .read _ _,_,_,h=>λe m=>by rw [Z0w.mp m];exact h
 | .sum x b,s,g,h=>λe m=>by
  rcases Z0e.mp m with rfl | m
  ·exact h
  ·exact B9r b _ _ h.2 e m
 | .pair k l r,s,g,h=>λe m=>by
  rcases Z0e.mp m with rfl | m
  ·exact h
  ·rcases Z07.mp m with m | m
   ·exact B9r l _ _ h.1 e m
   ·exact B9r r _ _ h.2 e m
 | .guard x lo hi l r,s,g,h=>λe m=>by
  rcases Z0e.mp m with rfl | m
  ·exact h
  ·rcases Z07.mp m with m | m
   ·exact B9r l _ _ h.2.2.2.1 e m
   ·exact B9r r _ _ h.2.2.2.2 e m
theorem C9m (h:TmW u):(axO u).length<=12:=by
 cases u with
 | read a ix =>
  show ((ix.filter _).map _).length<=12;rw [Z08];have d:=List.length_filter_le (λe:Str×Int=>decide (¬e.1=("":Str))) ix;have c:=h.2.1
  lia
 | num z=>exact Z1e _
 | place z=>show 1<=12;lia
 | sum x b=>exact Z1e _
 | pair k l r=>exact Z1e _
 | guard x lo hi l r=>show 1<=12;lia
theorem C0n:∀(es:List PT),(∀e∈es,TmW e.1)->(es.flatMap λe=>axO e.1).length<=12*es.length
 | [],_=>Z1e _
 | e::es,h=>by
  have c:=C9m (h e (by simp));have b:=C0n es λe a=>h e (by simp [a]);rw [List.flatMap_cons,Z06,Z0y]
  lia
theorem C4i (T:Txt K mg t):FO P w base T.rj 1 (E0n t):=by
 refine T.rj.F.ok C4w (by walk_at "ln") λ_ A _ s H _ Q E hr h=> ?_
 ·obtain ⟨v,u,rfl,J,hw,k⟩:=h;refine e0d ((C9x T J).ex) ?_;rintro o C dd fs rfl eo X c2 ⟨c3,W,c5,ty,k1,k2,k3,k4,I⟩;refine i02 _ (@RS.r _ _ _ (rq1 (rq4 (A2s (A0q B5n (by rfl) T.ab Z0d (A0a (pv 0) (A0a (A1z (A0a (A3k (v:=V.ref t.am) rfl T.xo rfl) (A0a (A3k (v:=V.ref t.af) rfl T.mw rfl) A0c))) A0c)))) (rq3 (rq5 (@A1r _ _ _ _ (A0a (A1c (pv 0) rfl) A0c)))) ⟨A0x⟩) (rq1 (rq4 (A2s (A0q A1d (by rfl) T.ab Z0d (A0a (pv 0) (A0a (A3k (v:=V.ref t.aj) rfl T.xj rfl) A0c)))) (rq3 (rq5 (C0b (N':=["axis","shift"]) (ix:=(List.replicate 2 none)) (g:=D8n K 2 (B2f (A7u 0) (B2f (A7u 1) D8h))) (tc:=C1p (tOp rNe (C8c 0) (tC (.str "")))) rfl (A2y rfl (by decide +kernel) (by decide +kernel)) (A3b rfl) (A2c (A1c (pv 0) rfl)) (λ_ _ _ _=>(A3v (n:=2) rfl (A0r (A0k (i:=0) B8w rfl (.inl rfl)) (A0r (A0k (i:=1) B8w rfl (.inl rfl)) A2p)))) (λ_ _ _ _=>(A0p D6h (pv 0) A1w (A1b _))) (λ_ _ _ _=>(pv 0))))) ⟨A0x⟩) (rq3 (rq5 (@A1r _ _ _ _ A0c)))))) ?_;refine i06 _ rfl (A0v rfl) λtp N=> ?_;obtain ⟨H1,c,h1,M⟩:=nH (o:= .tup [.ref t.am,.ref t.af]) N
  try rw [M]
  refine ⟨o,(i1d C dd fs tp _ _ rfl (c _ _ eo) X c2 c3 W c5 (i0a h1 (E4m k4 k3) _ rfl ?_))⟩;have m:A8a K H1 (.ref o) (.ref C):= .ins (c _ _ eo) X c2 c3 W c5
  cases u with
  | num z=>exact A2m (i16 _ rfl _ _ _ _ rfl m (A1e I) false rfl (A2m ⟨A0v rfl,λq f=>k q _ (c.free f) (c.trans (A0e f)) A0b⟩))
  | sum x b=>exact A2m (i16 _ rfl _ _ _ _ rfl m (A1e I) false rfl (A2m ⟨A0v rfl,λq f=>k q _ (c.free f) (c.trans (A0e f)) A0b⟩))
  | pair x l r=>exact A2m (i16 _ rfl _ _ _ _ rfl m (A1e I) false rfl (A2m ⟨A0v rfl,λq f=>k q _ (c.free f) (c.trans (A0e f)) A0b⟩))
  | place x =>
   cases J with
   | @place a dx _ e=>exact A5r (i19 _ rfl o _ dx _ _ rfl (c _ _ e) T.fw T.iw (by walk_at "lk") ⟨A0v rfl,λq f=>k q _ (c.free f) (c.trans (A0e f)) A0b⟩)
  | guard x lo R l r =>
   cases J with
   | @guard a dx _ _ _ _ _ _ _ e _ _=>exact A5r (i19 _ rfl o _ dx _ _ rfl (c _ _ e) T.ay T.fh (by walk_at "lk") ⟨A0v rfl,λq f=>k q _ (c.free f) (c.trans (A0e f)) A0b⟩)
  | read z ix =>
   cases J with
   | @read a dx l _ _ e rp =>
    obtain ⟨_,es,q,el,rs⟩:=A5m (show Rep H (.ref l) (.list (ix.map B1n)) from rp);cases q;have S:=rs.len;rw [Z08] at S;have Z:=hw.2.1;refine A2m (i16 _ rfl _ _ _ _ rfl m (A1e I) true rfl (A5r ?_));refine i19 _ rfl o _ dx _ _ rfl (c _ _ e) T.fe T.g9 (by walk_at "lk") (i06 l rfl ⟨_,SqL.of (c _ _ el)⟩ λD L=> ?_);refine A9t (K:=K) (a:=l) (D:=D) (xs:=es) (λi B G=>A0u H1 G/\G D=some (.lst B)/\B=(axO (.read z (ix.take i))).map V.str/\B.length<=i) (i04 (A0e L) A0b rfl (Z09 _)) (λi B G y=>SqL.of (y.1 _ _ (c _ _ el))) ?_ ?_
    ·rintro i x B G hx ⟨y,j,O,ly⟩;have R:i<ix.length:=by have:=(Z03.mp hx).1;lia
     obtain ⟨d,U,rx⟩:=rs.get2 hx;have p:ix[i]? =some ix[i]:=Z0b R;rw [Z1z,p] at U;cases U;obtain ⟨q,rfl,Y⟩:=E1o rx;generalize ix[i]=e0 at p Y
     have ea:axO (.read z (ix.take (i+1)))=axO (.read z (ix.take i))++(if e0.1=("":Str) then [] else [e0.1]):=by
      show ((ix.take (i+1)).filter _).map _=((ix.take i).filter _).map _++_;rw [Z14,p,Z2f,List.filter_append,Z0s,List.filter_cons,List.filter_nil];by_cases z0:e0.1=("":Str)
      ·rw [Z12 z0,Z1j (λh=>h z0)];rfl
      ·rw [Z0t z0,Z20 z0];rfl
     refine i1a q _ rfl (SqT.of (y _ _ (c _ _ Y))) rfl _ _ rfl _ _ rfl rfl (i05 True.intro _ rfl ?_);refine i05 rfl _ rfl ?_;by_cases z0:e0.1=("":Str)
     ·rw [z0];refine A2m (i04 y j ?_ (by lia));rw [O,ea,Z12 z0,Z0u]
     ·rw [Z1j (λh=>z0 (V.str.inj h))];refine A5r (i02 _ rfl (i0h j (A1l (by lia)) (A0o y L) A0b ?_ (by rw [Z06];simp only [Z0y,Z2g];lia)));rw [O,ea,Z0t z0,Z0s];rfl
    ·rintro B G ⟨y,j,rfl,_⟩;rw [S,Z18] at j;exact k D G (c.free L) (c.trans y) j
theorem C5e (T:Txt K mg t):FO P w base T.rg 47 (E0j t):=by
 have Ga8:= @C1b P w K mg base t T;have Ga9:= @C4i P w K mg base t T;refine T.rg.F.ok B1g (by walk_at "ln") λ_ A _ s H _ Q E M h=> ?_
 ·obtain ⟨v,u,rfl,ob,n,hd,hn,k⟩:=h;refine i02 _ (@RS.r _ _ _ (rq1 (rq6 1 B1g.nd (@A1r _ _ _ _ A0c)) (rq1 (rq7 (A2c (pcl Ga8 M T.py (A0a (pv 0) A0c))) (A0k (i:=2) B1g.nd rfl (.inl rfl)) (rq3 ⟨A2r (A7c Z0k PySem.F.slot_list_extend PySem.F.type_list_extend B3f (pv 1) (A0a (pcl Ga9 M T.rj (A0a (A1c (pv 2) rfl) A0c)) A0c))⟩)) (rq3 (rq5 (pv 1)))))) ?_;refine ⟨A0v rfl,λl g=> ?_⟩;have O:A0u H (upd H l (.lst [])):=A0e g;refine i0l _ rfl v u (λb=>b≠l) (i0h rfl (λb R z=>by subst z;rw [A0b] at R;cases R) (ob.imp (λb o z=>A0h (S:=λb=>b≠l) (A0z z g) (O _ _ z))) hd hn λq xs H2 J U L B=>(i06 q rfl ⟨_,SqL.of L⟩ ?_));have ql:q≠l:=λz=>by subst z;rw [A0b] at J;cases J
  have lp:=Paired.length B;have x:=C0n (prT u [] []) (B9r u [] [] n);rw [A5w] at lp;rw [A5w] at x;have p:=U _ _ (A0b (H:=H) (a:=l) (o:= .lst []))
  refine A2l (K:=K) (a:=q) (xs:=xs) (λi Z d=>∃(C:Option V),Z=[some v,Sro l,C]/\A0u H d/\A0u (A0s (λb=>b≠l) H2) d/\d l=some (.lst ((((prT u [] []).take i).flatMap λe=>axO e.1).map V.str)))
   (i0c none rfl (O.trans U) A0m p) (by rintro i Z d _ ⟨_,_,_,f,_⟩;exact SqL.of (f _ _ (A0h ql L))) ?_ ?_
  ·rintro i y Z d Y ⟨C,rfl,f,j,c⟩;refine B3x ?_;intro D';obtain ⟨e,m,pe⟩:=B3z B Y;have hm:=Z13 m;have N:=B9r u [] [] n e hm;obtain ⟨a,dx,W,sl,gl,gs,rfl,X,I,_⟩:=pe;refine i06 _ rfl (.inl (i01 rfl _ (SqL.of c))) (i19 _ rfl a _ dx _ _ rfl (j _ _ X) T.bq T.b_ (by walk_at "lk") (i0m W e.1 rfl (I.imp j) N λq2 H4 a0 D h4=> ?_));have lt:=C0n ((prT u [] []).take i) λe m=>B9r u [] [] n e (Z2p m);rw [Z0x,A5w] at lt;have la:=C9m N;refine i10 l q2 _ _ rfl rfl (D _ _ c) h4 (A2a (by rw [Z08,Z08];lia)) ?_;refine i0c _ rfl (A0o (f.trans D) g) (λb o z=> ?_) ?_
   ·rw [A0i (A0l z).1];exact D _ _ (j _ _ z)
   ·rw [A0b,Z14,m,Z2f,List.flatMap_append,Z0s,List.flatMap_cons,List.flatMap_nil,Z0u]
  ·rintro Z d ⟨C,rfl,f,j,c⟩;have G:xs.length=(prT u [] []).length:=Paired.length B;rw [G,Z18] at c;exact i02 _ rfl (k l d g f c)
abbrev Ln:=Str×List Str×List Str×Tm
abbrev LS:=Nat×List Ln
def B4p (kn pend:List Str) (b:Tm):List Str:=kn.filter λx=>decide (x∈C0k b)&&decide (x∉pend)
def lfR (kn pend:List Str) (n:Nat) (b:Tm):Tm:= .read (sN n) ((B4p kn pend b).map λx=>(x,(0:Int)))
def lfL (kn pend:List Str) (n:Nat) (b:Tm):Ln:=(sN n,B4p kn pend b,pend,b)
def fin (kn pend:List Str) (g:List Gd) (r:Tm×LS):Tm×LS:=match pend with
 | []=>r
 | x::s=>(lfR kn (x::s) r.2.1 (gdM g r.1),r.2.1+1,r.2.2++[lfL kn (x::s) r.2.1 (gdM g r.1)])
def wsP (kn:List Str):Tm->List Str->List Gd->LS->Tm×LS
 | .sum x b,pend,g,z=>wsP kn b (pend++[x]) g z
 | .pair k l r,pend,g,z=>fin kn pend g (.pair k (wsP kn l [] g z).1 (wsP kn r [] g (wsP kn l [] g z).2).1,(wsP kn r [] g (wsP kn l [] g z).2).2)
 | .guard x lo hi l r,pend,g,z=>fin kn pend g (.guard x lo hi (wsP kn l [] (g++[(x,lo,hi,true)]) z).1 (wsP kn r [] (g++[(x,lo,hi,false)]) (wsP kn l [] (g++[(x,lo,hi,true)]) z).2).1,(wsP kn r [] (g++[(x,lo,hi,false)]) (wsP kn l [] (g++[(x,lo,hi,true)]) z).2).2)
 | .num n,pend,g,z=>fin kn pend g (.num n,z)
 | .place x,pend,g,z=>fin kn pend g (.place x,z)
 | .read a ix,pend,g,z=>fin kn pend g (.read a ix,z)
theorem D3x {kn:List Str}:∀(u:Tm) (pend:List Str) (g:List Gd) (z:LS),wsP kn u pend g z=fin kn (pend++A3o u) g (wsP kn (inS u) [] g z)
 | .num _,pend,_,_=>by show _=fin kn (pend++[]) _ _;rw [Z0u];rfl
 | .place _,pend,_,_=>by show _=fin kn (pend++[]) _ _;rw [Z0u];rfl
 | .read _ _,pend,_,_=>by show _=fin kn (pend++[]) _ _;rw [Z0u];rfl
 | .pair _ _ _,pend,_,_=>by show _=fin kn (pend++[]) _ _;rw [Z0u];rfl
 | .guard _ _ _ _ _,pend,_,_=>by show _=fin kn (pend++[]) _ _;rw [Z0u];rfl
 | .sum x b,pend,g,z=>by
  show wsP kn b (pend++[x]) g z=fin kn (pend++x::A3o b) g (wsP kn (inS b) [] g z);rw [D3x b,Z0z];rfl
def GdW (g:List Gd):Prop:=∀e∈g,B4q e.1/\Sm e.2.1/\Sm e.2.2.1
theorem GdW.add (h:GdW g) {b:Bool} (c:B4q x) (h1:Sm lo) (h2:Sm hi):GdW (g++[(x,lo,hi,b)]):=λe a=>by
 rcases Z07.mp a with a | a
 ·exact h e a
 ·rw [Z0w.mp a];exact i00 c h1 h2
theorem sm0:Sm 0:=by unfold Sm;decide
theorem C6u:∀(g:List Gd) (u:Tm),GdW g->TmW u->TmW (gdM g u)/\dep (gdM g u)<=g.length+dep u/\nod (gdM g u)=2*g.length+nod u
 | [],u,_,hu=>(i00 hu (by show dep u<=0+dep u;lia) (by show nod u=2*0+nod u;lia))
 | e::g,u,hg,hu=>by
  obtain ⟨a,n,o⟩:=C6u g u (λe j=>hg e (by simp [j])) hu;obtain ⟨f,i,c⟩:=hg e (by simp);have p:=A6n u;obtain ⟨x,d,h,b⟩:=e;have k:gdM ((x,d,h,b)::g) u=gd1 (x,d,h,b) (gdM g u):=rfl;rw [k];have l:=A6n (gdM g u);generalize gdM g u=m at a n o l
  cases b with
  | true=>exact i00 (i09 f i c a sm0) (by simp only [gd1,dep,Z0y];lia) (by simp only [gd1,nod,Z0y];lia)
  | false=>exact i00 (i09 f i c sm0 a) (by simp only [gd1,dep,Z0y];lia) (by simp only [gd1,nod,Z0y];lia)
def C7b (e:Ln):Prop:=e.1.length<=60/\e.2.1.length<=12/\(∀x∈e.2.1,B4q x)/\e.2.2.1.length<=100/\TmW e.2.2.2/\dep e.2.2.2<=40/\nod e.2.2.2<=1000
def D1c (kn:List Str):Prop:=kn.length<=12/\∀x∈kn,B4q x
structure WsR (z:LS) (u:Tm) (c:Nat) (r:Tm×LS):Prop where
 w:TmW r.1
 d:dep r.1<=dep u
 n:nod r.1<=nod u
 k:r.2.1<=z.1+nod u+c
 l:r.2.2.length<=z.2.length+nod u+c
 a:∀e∈r.2.2,C7b e
theorem C2a {kn:List Str} (h:D1c kn):(B4p kn pend b).length<=12/\∀x∈B4p kn pend b,B4q x:=⟨Z1n (List.length_filter_le _ _) h.1,λx a=>h.2 x (List.mem_filter.mp a).1⟩
theorem D3y (h:n<=200000):(sN n).length<=60:=by
 have b:Sm (n:Int):=by unfold Sm;lia
 have c:=C6h b;have a:(("s":Str)).length=1:=by decide +kernel
 unfold sN;rw [Str.length_append,a]
 lia
theorem D8s {kn:List Str} (h:D1c kn) (f:n<=200000):TmW (lfR kn pend n b):=by
 obtain ⟨d,g⟩:=C2a (pend:=pend) (b:=b) h;refine i00 (D3y f) (by rw [Z08];exact d) λe c=> ?_;obtain ⟨x,a,rfl⟩:=Z2c.mp c;exact ⟨g x a,sm0⟩
theorem B8x {kn:List Str} (j:D1c kn) (h:WsR z u 0 r) (q:GdW g) (G:g.length+dep u<=40) (A:pend.length<=100) (D:nod u<=500) (I:z.1+nod u<=200000) (c:Nat) (f:pend=[]\/c=1):WsR z u c (fin kn pend g r):=by
 cases pend with
 | nil=>exact ⟨h.w,h.d,h.n,by have:=h.k;show r.2.1<=_;lia,by have:=h.l;show r.2.2.length<=_;lia,h.a⟩
 | cons x s =>
  have f:c=1:=by rcases f with f | f;cases f;exact f
  subst f;have p:=h.k;have F:=h.l;have v:=h.d;have y:=h.n;have H:=A6n u;have C:1<=nod u:=by cases u <;> simp only [nod] <;> lia
  obtain ⟨o,J,B⟩:=C6u g r.1 q h.w;obtain ⟨t,m⟩:=C2a (pend:=x::s) (b:=gdM g r.1) j;refine ⟨D8s j (by lia),by show dep (.read _ _)<=_;simp only [dep];lia,by show nod (.read _ _)<=_;simp only [nod];lia,by show r.2.1+1<=_;lia,by show (r.2.2++[_]).length<=_;rw [Z06];simp only [Z0y,Z2g];lia,λe i=> ?_⟩;rcases Z07.mp i with i | i
  ·exact h.a e i
  ·rw [Z0w.mp i];exact ⟨D3y (by lia),(i0h t m A o (by show dep (gdM g r.1)<=40;lia) (by show nod (gdM g r.1)<=1000;lia))⟩
theorem C5c {kn:List Str} (f:D1c kn):∀(u:Tm) (pend:List Str) (g:List Gd) (z:LS),TmW u->GdW g->g.length+dep u<=40->pend.length+dep u<=100->nod u<=500->z.1+nod u<=200000->(∀e∈z.2,C7b e)->∀(c:Nat),(pend=[]\/c=1)->WsR z u c (wsP kn u pend g z)
 | .num n,pend,g,z,hw,hg,hd,hp,hn,hz,hl,c,hc=>B8x f (z:=z) (u:= .num n) (r:=(.num n,z)) ⟨hw,Z09 _,Z09 _,by show z.1<=_;lia,by show z.2.length<=_;lia,hl⟩ hg hd (by lia) hn hz c hc
 | .place x,pend,g,z,hw,hg,hd,hp,hn,hz,hl,c,hc=>B8x f (z:=z) (u:= .place x) (r:=(.place x,z)) ⟨hw,Z09 _,Z09 _,by show z.1<=_;lia,by show z.2.length<=_;lia,hl⟩ hg hd (by lia) hn hz c hc
 | .read a ix,pend,g,z,hw,hg,hd,hp,hn,hz,hl,c,hc=>B8x f (z:=z) (u:= .read a ix) (r:=(.read a ix,z)) ⟨hw,Z09 _,Z09 _,by show z.1<=_;lia,by show z.2.length<=_;lia,hl⟩ hg hd (by lia) hn hz c hc
 | .sum x b,pend,g,z,hw,hg,hd,hp,hn,hz,hl,c,hc=>by
  simp only [dep,nod] at hd hp hn hz;have h:=C5c f b (pend++[x]) g z hw.2 hg (by lia) (by rw [Z06];simp only [Z0y,Z2g];lia) (by lia) (by lia) hl 1 (.inr rfl);have J:=h.d;have L:=h.n;have M:=h.k;have K:=h.l;exact ⟨h.w,by show dep (wsP kn b (pend++[x]) g z).1<=_;simp only [dep];lia,by show nod (wsP kn b (pend++[x]) g z).1<=_;simp only [nod];lia,by show (wsP kn b (pend++[x]) g z).2.1<=_;simp only [nod];lia,by show (wsP kn b (pend++[x]) g z).2.2.length<=_;simp only [nod];lia,h.a⟩
 | .pair k l r,pend,g,z,hw,hg,hd,hp,hn,hz,hl,c,hc=>by
  have j:=hd;have i:=hp;have m:=hn;have o:=hz;simp only [dep,nod] at j i m o;have a:=C5c f l [] g z hw.1 hg (by lia) (by show 0+dep l<=100;lia) (by lia) (by lia) hl 0 (.inl rfl);have G:=a.k;have b:=C5c f r [] g (wsP kn l [] g z).2 hw.2 hg (by lia) (by show 0+dep r<=100;lia) (by lia) (by lia) a.a 0 (.inl rfl);have D:=a.d;have v:=a.n;have B:=a.l;have y:=b.d;have I:=b.n;have C:=b.k;have H:=b.l;refine B8x f (z:=z) (u:= .pair k l r) (r:=(.pair k (wsP kn l [] g z).1 (wsP kn r [] g (wsP kn l [] g z).2).1,(wsP kn r [] g (wsP kn l [] g z).2).2)) ⟨⟨a.w,b.w⟩,?_,?_,?_,?_,b.a⟩ hg hd (by lia) hn hz c hc
  ·simp only [dep];lia
  ·simp only [nod];lia
  ·simp only [nod];lia
  ·simp only [nod];lia
 | .guard x lo hi l r,pend,g,z,hw,hg,hd,hp,hn,hz,hl,c,hc=>by
  have j:=hd;have i:=hp;have m:=hn;have o:=hz;simp only [dep,nod] at j i m o;obtain ⟨p,q,s,A,F⟩:=hw;have t:∀b:Bool,(g++[(x,lo,hi,b)]).length=g.length+1:=λb=>by simp
  have a:=C5c f l [] (g++[(x,lo,hi,true)]) z A (hg.add p q s) (by rw [t];lia) (by show 0+dep l<=100;lia) (by lia) (by lia) hl 0 (.inl rfl);have G:=a.k;have b:=C5c f r [] (g++[(x,lo,hi,false)]) (wsP kn l [] (g++[(x,lo,hi,true)]) z).2 F (hg.add p q s) (by rw [t];lia) (by show 0+dep r<=100;lia) (by lia) (by lia) a.a 0 (.inl rfl);have D:=a.d;have v:=a.n;have B:=a.l;have y:=b.d;have I:=b.n;have C:=b.k;have H:=b.l;refine B8x f (z:=z) (u:= .guard x lo hi l r) (r:=(.guard x lo hi (wsP kn l [] (g++[(x,lo,hi,true)]) z).1 (wsP kn r [] (g++[(x,lo,hi,false)]) (wsP kn l [] (g++[(x,lo,hi,true)]) z).2).1,(wsP kn r [] (g++[(x,lo,hi,false)]) (wsP kn l [] (g++[(x,lo,hi,true)]) z).2).2)) ⟨(i09 p q s a.w b.w),?_,?_,?_,?_,b.a⟩ hg hd (by lia) hn hz c hc
  ·simp only [dep];lia
  ·simp only [nod];lia
  ·simp only [nod];lia
  ·simp only [nod];lia
abbrev S2 (p l:Addr):Addr->Prop:=λb=>b≠p/\b≠l
def K2 (p l:Addr) (H H':Hp):Prop:=∀b o,S2 p l b->H b=some o->H' b=some o
theorem K2.of (s:A0u H H'):K2 p l H H':=λb o _ e=>s _ _ e
theorem K2.trans (a:K2 p l H H') (b:K2 p l H' H2):K2 p l H H2:=λc o d e=>b c o d (a c o d e)
theorem K2.atp:K2 p l H (upd H p o):=λb u a e=>by rw [A0i a.1];exact e
theorem K2.atl:K2 p l H (upd H l o):=λb u a e=>by rw [A0i a.2];exact e
theorem K2.rs (k:K2 p l H H') (d:¬S p) (c:¬S l):A0u (A0s S H) (A0s S H'):=λb o z=>by
 have a:=(A0l z).1;exact A0h a (k b o ⟨λe=>d (e▸a),λe=>c (e▸a)⟩ (A0l z).2)
theorem K2.free {b:Addr} {o':HO} (k:K2 p l H H') (f:H' p=some o) (c:H' l=some o') (a:H' b=none):H b=none:=by
 cases e:H b with
 | none=>rfl
 | some u =>
  have g:b≠p:=λz=>by subst z;rw [f] at a;cases a
  have d:b≠l:=λz=>by subst z;rw [c] at a;cases a
  rw [k b u ⟨g,d⟩ e] at a;cases a
def D8k (A:Adr) (H:Hp) (v:V) (e:Ln):Prop:=∃(a b c s:Addr) (n:V),v= .ref a/\H a=some (.ins A.ba b [("name",.str e.1),("axes",.ref c),("sums",.ref s),("term",n)])/\H c=some (.lst (e.2.1.map V.str))/\H s=some (.lst (e.2.2.1.map V.str))/\Ob A H n e.2.2.2
theorem D8k.same {e:Ln} (h:D8k A H v e) (s:A0u H H'):D8k A H' v e:=by
 obtain ⟨a,d,c,b,n,rfl,g,f,i,j⟩:=h;exact ⟨a,(i0y d c b n rfl (s _ _ g) (s _ _ f) (s _ _ i) (j.imp s))⟩
structure B1t (A:Adr) (S:Addr->Prop) (H:Hp) (p l d ka:Addr) (kn:List Str) (z:LS):Prop where
 np:¬S p
 nl:¬S l
 fr:Fr S H
 ep:H p=some (lfO A d ka l z.1)
 hk:A0s S H ka=some (.lst (kn.map V.str))
 hl:∃xs,H l=some (.lst xs)/\Paired (D8k A (A0s S H)) xs z.2
theorem B1t.same {a:Addr} {kn:List Str} (h:B1t A S H p l d a kn z) (s:A0u H H'):B1t A S H' p l d a kn z:=by
 obtain ⟨c,e,r⟩:=h.hl;exact ⟨h.np,h.nl,λb f=>h.fr b (s.free f),s _ _ h.ep,A0g s _ _ h.hk,c,s _ _ e,Paired.mapP r λ_ _ q=>q.same (A0g s)⟩
theorem B1t.out {g D:Addr} {kn:List Str} (h:B1t A S H p l d g kn z) (c:H D=none):B1t A (λb=>S b/\b≠D) (upd H D o) p l d g kn z:=by
 obtain ⟨i,e,r⟩:=h.hl;have m:A0u (A0s S H) (A0s (λb=>S b/\b≠D) (upd H D o)):=λb u q=>A0h ⟨(A0l q).1,A0z (A0l q).2 c⟩ ((A0e c) _ _ (A0l q).2);refine ⟨λq=>h.np q.1,λq=>h.nl q.1,λb f=> ?_,(A0e c) _ _ h.ep,m _ _ h.hk,i,(A0e c) _ _ e,Paired.mapP r λ_ _ q=>q.same m⟩;have a:b≠D:=λq=>by rw [q,A0b] at f;cases f
 rw [A0i a] at f;exact ⟨h.fr b f,a⟩
theorem B1t.upD {f D:Addr} {kn:List Str} (h:B1t A (λb=>S b/\b≠D) H p l d f kn z) (i:D≠p) (j:D≠l):B1t A (λb=>S b/\b≠D) (upd H D o) p l d f kn z:=by
 obtain ⟨g,e,r⟩:=h.hl;have m:A0u (A0s (λb=>S b/\b≠D) H) (A0s (λb=>S b/\b≠D) (upd H D o)):=A2i (A0u.refl _) λq=>q.2 rfl;refine ⟨h.np,h.nl,λb a=> ?_,by rw [A0i i.symm];exact h.ep,m _ _ h.hk,g,by rw [A0i j.symm];exact e,Paired.mapP r λ_ _ q=>q.same m⟩;have c:b≠D:=λq=>by rw [q,A0b] at a;cases a
 rw [A0i c] at a;exact h.fr b a
theorem B1t.back {a D:Addr} {kn:List Str} (h:B1t A (λb=>S b/\b≠D) H p l d a kn z) (c:¬S p) (g:¬S l):B1t A S H p l d a kn z:=by
 obtain ⟨f,e,r⟩:=h.hl;have m:A0u (A0s (λb=>S b/\b≠D) H) (A0s S H):=A2x (A0u.refl _) λb o _ q=>q.1;exact ⟨c,g,λb i=>(h.fr b i).1,h.ep,m _ _ h.hk,f,e,Paired.mapP r λ_ _ q=>q.same m⟩
structure Lim (kn:List Str) (u:Tm) (g:List Gd) (z:LS):Prop where
 hk:D1c kn
 hw:TmW u
 hg:GdW g
 hd:g.length+dep u<=40
 hn:nod u<=500
 hz:z.1+nod u<=100000
 hl:z.2.length+nod u<=100000
 ha:∀e∈z.2,C7b e
theorem Lim.ok {kn:List Str} (h:Lim kn u g z):WsR z u 0 (wsP kn u [] g z):=by
 have:=h.hd;have:=h.hz;exact C5c h.hk u [] g z h.hw h.hg h.hd (by show 0+dep u<=100;lia) h.hn (by lia) h.ha 0 (.inl rfl)
def D5n (A:Adr) (n:Nat):Sp:=λf H Q _=>∃(p l d c:Addr) (S:Addr->Prop) (a:List Str) (z:LS) (v:V) (u:Tm) (s:List Str) (g:List Gd),f=[.ref p,v]/\B1t A S H p l d c a z/\A3f A (A0s S H) v (u,s,g)/\Lim a u g z/\dep u<=n/\
 ∀(e:V) (b:Hp),K2 p l H b->B1t A S b p l d c a (wsP a u [] g z).2->Ob A (A0s S b) e (wsP a u [] g z).1->Q e b
def D9o (A:Adr) (n:Nat):Sp:=λf H Q _=>∃(p l d c:Addr) (S:Addr->Prop) (a:List Str) (z:LS) (v:V) (u:Tm) (s:List Str) (g:List Gd),f=[.ref p,v]/\B1t A S H p l d c a z/\A3f A (A0s S H) v (u,s,g)/\Lim a u g z/\dep u<=n/\isS u=true/\
 ∀(e:V) (b:Hp),K2 p l H b->B1t A S b p l d c a (wsP a u [] g z).2->Ob A (A0s S b) e (wsP a u [] g z).1->Q e b
theorem D7u (T:Txt K mg t) {m0:Nat} (hm:5<=m) (b4:m0<=m) (Gb0:A3h P w K mg base CX0 m t.ff t.j0 B1z (D9o t n)) (Gb1:A3h P w K mg base CX0 m0 t.be t.br B1z sp')
  (hs:∀(p l d X:Addr) (S:Addr->Prop) (kn:List Str) (z:LS) (v:V) (u:Tm) (s:List Str) (g:List Gd) (H:Hp) (Q:VK),B1t t S H p l d X kn z->A3f t (A0s S H) v (u,s,g)->Lim kn u g z->dep u+1<=n->(∀(L:V) (H':Hp),K2 p l H H'->B1t t S H' p l d X kn (wsP kn u [] g z).2->Ob t (A0s S H') L (wsP kn u [] g z).1->Q L H')->sp' [.ref p,v] H Q E0) :
  A3h P w K mg base CX0 (m+1) t.be t.br B1z (D5n t n):=by
 have Ga4:= @A3t P w K mg base t T;refine T.cb.F.ok A4o (by walk_at "ln") λ_ A _ s H _ Q E hr h=> ?_
 ·refine e0h h ?_;clear h;rintro p l d X S kn z v u ss g ⟨rfl,I,pa,c,hd,k⟩;obtain ⟨q,dq,tv,sl,gl,gs,rfl,e0,a3,b5,b7,bg,bs,pg⟩:=id pa;have eq:=A0m _ _ e0;have ob:=a3.imp A0m;have kt:=(C9x T a3).ex;refine e0d kt ?_;clear kt;rintro o C dd fs rfl a4 c1 c2 ⟨c3,c4,c5,_,k1,k2,k3,k4,k5⟩;have eo:=A0m _ _ a4;have ty:A8a K H (.ref o) (.ref C):= .ins eo c1 c2 c3 c4 c5;refine i02 _ (@RS.r _ _ _ (rq1 (rq4 (A2s (A0q A1d (by rfl) T.ab Z0d (A0a (A1c (pv 1) rfl) (A0a (A3k (v:=V.ref t.bp) rfl T.ww rfl) A0c)))) (rq3 (rq5 (B4a (pv 0) T.bt T.v0 Gb0 (hr.mono (by lia)) T.nw.b .nil B6f (A0a (pv 1) A0c)))) ⟨A0x⟩) (rq1 (rq4 (A2s (A0q B5n (by rfl) T.ab Z0d (A0a (A1c (pv 1) rfl) (A0a (A1z (A0a (A3k (v:=V.ref t.c8) rfl T.zI rfl) (A0a (A3k (v:=V.ref t.af) rfl T.mw rfl) A0c))) A0c)))) (rq1 ⟨B6j (i₀:=2) (N':=["inner","self"]) (ix:=(List.replicate 1 none++[some 0])) A4o.nd rfl (.inl rfl) rfl (A7o (x:="self") rfl rfl rfl (by decide +kernel) (by decide +kernel)) (A5u (N0:=["inner"]) rfl (.inl rfl) (by walk_at "ix")) (A2c (pcl Ga4 hr T.bv (A0a (pv 1) A0c))) (λ_ _ _ _=>(A0k (i:=0) C8o rfl (.inl rfl))) (λ_ _ _ _=>(B4a (pv 1) T.bt T.cq Gb1 (hr.mono (by lia)) T.cb.b .nil B6f (A0a (pv 0) A0c)))⟩ (rq3 (rq5 (B7g (A1c (pv 1) rfl) (A0a (A1f A1n (pv 2) A0d (λ_ _=>rfl)) (A0a (A1f A1n (pv 2) A0d (λ_ _=>rfl)) A0c)))))) ⟨A0x⟩) (rq3 (rq5 (A1c (pv 1) rfl)))))) ?_;refine i19 _ rfl q _ dq _ _ rfl eq T.bq T.b_ (by walk_at "lk") ⟨_,(i0g _ _ _ rfl (i0a ty (A1e k1) _ rfl ?_))⟩
  cases hS:isS u with
  | true=>exact A5r (i0x _ rfl p d _ rfl I.ep (by walk_at "lk") (i02 _ rfl (i11 p l d X S kn z _ u (i0t ss g rfl I pa c hd ⟨hS,k⟩))))
  | false =>
   refine A2m ?_;refine i19 _ rfl q _ dq _ _ rfl eq T.bq T.b_ (by walk_at "lk") ⟨A0v rfl,λtp b2=> ?_⟩;have U:=A0e (o:= .tup [.ref t.c8,.ref t.af]) b2;have h2:upd H tp (.tup [.ref t.c8,.ref t.af]) tp=some (.tup [.ref t.c8,.ref t.af]):=A0b;generalize upd H tp (.tup [.ref t.c8,.ref t.af])=G at U h2;refine ⟨o,(i1d C dd fs tp _ _ rfl (U _ _ eo) c1 c2 c3 c4 c5 (i0a h2 (E4m k2 k3) _ rfl ?_))⟩;have N:=I.same U;have a9:=pa.same (A0g (S:=S) U);have a7:=U _ _ eq;have b6:=U _ _ eo;have b3:isP u=false->isG u=false->wsP kn u [] g z=(u,z)->(λ(b:Bool)=>b) (isP u||isG u)=false:=λh1 h2 _=>by rw [h1,h2];rfl
   cases hB:(isP u||isG u) with
   | false =>
    have ew:wsP kn u [] g z=(u,z):=by
     cases u with
     | num _=>rfl
     | place _=>rfl
     | read _ _=>rfl
     | sum _ _=>cases hS
     | pair _ _ _=>cases hB
     | guard _ _ _ _ _=>cases hB
    refine A2m (i19 _ rfl q _ dq _ _ rfl a7 T.bq T.b_ (by walk_at "lk") (k _ G (K2.of U) (by rw [ew];exact N) (by rw [ew];exact a3.imp (A0g U))))
   | true =>
    refine A5r ?_
    obtain ⟨l',r',g1,g2,ek,J,m2,d1,d2,ew,f,fd,ps,sp,lv,me,lu,fo,lv3,bi,mk⟩:∃(l' r':Tm) (g1 g2:List Gd),B7s u ss g=[(l',ss,g1),(r',ss,g2)]/\Lim kn l' g1 z/\Lim kn r' g2 (wsP kn l' [] g1 z).2/\dep l'+1<=n/\dep r'+1<=n/\(wsP kn u [] g z).2=(wsP kn r' [] g2 (wsP kn l' [] g1 z).2).2/\
      ∃(f:Addr) (fd:FuncData) (ps:List Str) (sp:Sp) (lv:Nat),C2y K C "made_of" f/\fs.lookup ("made_of":Str)=none/\A3h P w K mg base CX0 lv f fd ps sp/\lv<=3/\A9b K fd ps []/\∀(a b:V) (Y:Hp) (Q:VK),Fr S Y->Y o=some (.ins C dd fs)->Ob t (A0s S Y) a (wsP kn l' [] g1 z).1->Ob t (A0s S Y) b (wsP kn r' [] g2 (wsP kn l' [] g1 z).2).1->(∀(L:V) (R:Hp),A0u Y R->Ob t (A0s S R) L (wsP kn u [] g z).1->Q L R)->sp [.ref o,a,b] Y Q E0:=by
     cases u with
     | num _=>cases hB
     | place _=>cases hB
     | read _ _=>cases hB
     | sum _ _=>cases hS
     | pair op l' r' =>
      cases ob with
      | @pair _ dx _ v1 v2 _ _ e o1 o2 =>
       cases e.symm.trans eo
       have x1:=c.hd;have x2:=c.hn;have x3:=c.hz;have x4:=c.hl;simp only [dep,nod] at x1 x2 x3 x4 hd;have J:Lim kn l' g z:=⟨c.hk,c.hw.1,c.hg,by lia,by lia,by lia,by lia,c.ha⟩;have y1:=J.ok.k;have y2:=J.ok.l;obtain ⟨f,fd,me,fo,bi⟩:=moOk (P:=P) (w:=w) (base:=base) T op;refine i10 l' r' g g rfl J ⟨c.hk,c.hw.2,c.hg,by lia,by lia,by lia,by lia,J.ok.a⟩ (by lia) (by lia) ⟨rfl,(i14 f fd _ _ _ me (by walk_at "lk") fo (Z09 _) bi λa b Y Q f6 e6 oa ob k6=> ?_)⟩;exact i0g _ a b rfl λx b0 R hx O h7=>k6 _ R O (.pair (A0h (f6 x hx) h7) (oa.imp (A0g O)) (ob.imp (A0g O)))
     | guard x lo hi l' r' =>
      cases ob with
      | @guard _ dx _ _ _ v1 v2 _ _ e o1 o2 =>
       cases e.symm.trans eo
       have x1:=c.hd;have x2:=c.hn;have x3:=c.hz;have x4:=c.hl;simp only [dep,nod] at x1 x2 x3 x4 hd;obtain ⟨w1,w2,w3,w4,w5⟩:=c.hw;have lg:∀b:Bool,(g++[(x,lo,hi,b)]).length=g.length+1:=λb=>by simp
       have J:Lim kn l' (g++[(x,lo,hi,true)]) z:=⟨c.hk,w4,c.hg.add w1 w2 w3,by rw [lg];lia,by lia,by lia,by lia,c.ha⟩;have y1:=J.ok.k;have y2:=J.ok.l;refine i10 l' r' _ (g++[(x,lo,hi,false)]) rfl J ⟨c.hk,w5,c.hg.add w1 w2 w3,by rw [lg];lia,by lia,by lia,by lia,J.ok.a⟩ (by lia) (by lia) ⟨rfl,(i14 _ _ _ _ _ T.fb (by walk_at "lk") (A5f T) (Z09 _) T.cv.b λa b Y Q f6 e6 oa ob k6=> ?_)⟩;exact i11 o dd _ _ _ _ _ a b (i00 rfl e6 λx b0 R hx O h7=>k6 _ R O (.guard (A0h (f6 x hx) h7) (oa.imp (A0g O)) (ob.imp (A0g O))))
    refine i0l _ rfl (.ref q) u ss (i0m g S rfl N.fr a9 λlp xs H3 W s3 h3 pp=> ?_);rw [ek] at pp
    cases pp with
    | @cons x1 _ _ _ p1 pp =>
    cases pp with
    | @cons x2 _ _ _ p2 pp =>
    cases pp
    have a0:=N.same s3;refine i06 lp rfl ⟨_,SqL.of h3⟩ λD Z=> ?_;have Dp:D≠p:=λe=>by rw [e,a0.ep] at Z;cases Z
    have Dl:D≠l:=λe=>by obtain ⟨_,e2,_⟩:=a0.hl;rw [e,e2] at Z;cases Z
    have sq:S2 p l q:=⟨λe=>I.np (e▸(A0l e0).1),λe=>I.nl (e▸(A0l e0).1)⟩;have so:S2 p l o:=⟨λe=>I.np (e▸(A0l a4).1),λe=>I.nl (e▸(A0l a4).1)⟩;have a6:lp≠p:=λe=>by rw [e,N.ep] at W;cases W
    have a5:lp≠l:=λe=>by obtain ⟨_,e2,_⟩:=N.hl;rw [e,e2] at W;cases W
    have b1:S2 p l lp:=⟨a6,a5⟩
    have mm:∀{H4:Hp},K2 p l H3 H4->A0u (A0s S H3) (A0s (λb=>S b/\b≠D) H4):=λ{H4} B b u e=>by
     obtain ⟨e1,e2⟩:=A0l e;exact A0h ⟨e1,A0z e2 Z⟩ (B b u ⟨λe=>I.np (e▸e1),λe=>I.nl (e▸e1)⟩ e2)
    have ku:∀{H4:Hp} {o:HO},K2 p l H3 H4->K2 p l H3 (upd H4 D o):=λ{H4 o} B b u hb e=>by rw [A0i (A0z e Z)];exact B b u hb e
    have mu:∀{H4:Hp} {o:HO},A0u (A0s (λb=>S b/\b≠D) H4) (A0s (λb=>S b/\b≠D) (upd H4 D o)):=A2i (A0u.refl _) λq=>q.2 rfl
    refine A4h (K:=K) (a:=lp) (D:=D) (xs:=[x1,x2]) (λi ys H4=>K2 p l H3 H4/\H4 D=some (.lst ys)/\((i=0/\ys=[]/\B1t t (λb=>S b/\b≠D) H4 p l d X kn z)\/(i=1/\∃a,ys=[a]/\B1t t (λb=>S b/\b≠D) H4 p l d X kn (wsP kn l' [] g1 z).2/\Ob t (A0s (λb=>S b/\b≠D) H4) a (wsP kn l' [] g1 z).1)\/(i=2/\∃a b,ys=[a,b]/\B1t t (λb=>S b/\b≠D) H4 p l d X kn (wsP kn r' [] g2 (wsP kn l' [] g1 z).2).2/\Ob t (A0s (λb=>S b/\b≠D) H4) a (wsP kn l' [] g1 z).1/\Ob t (A0s (λb=>S b/\b≠D) H4) b (wsP kn r' [] g2 (wsP kn l' [] g1 z).2).1)))
     (i00 (K2.of (A0e Z)) A0b (.inl (i00 rfl rfl (a0.out Z)))) (λi ys H4 B=>SqL.of (B.1 _ _ b1 h3)) ?_ ?_
    ·rintro i y ys H4 hy ⟨B,M,h4⟩;refine C6a ?_;intro N';rcases h4 with ⟨rfl,rfl,j⟩ | ⟨rfl,a,rfl,j,oa⟩ | ⟨rfl,_⟩
     ·have e:x1=y:=by simpa using hy
      subst e;refine ⟨⟨rfl,True.intro⟩,(i0x _ rfl p d _ rfl j.ep (by walk_at "lk") (i02 _ rfl (hs p l d X _ kn z x1 l' ss g1 H4 _ j (p1.same (mm B)) J d1 λL H5 k5 a2 o5=> ?_)))⟩;exact i09 (k5 _ _ ⟨Dp,Dl⟩ M) (A1l (by simp)) (ku (B.trans k5)) A0b (.inr (.inl ⟨rfl,(i06 L rfl (a2.upD Dp Dl) (o5.imp mu))⟩))
     ·have e:x2=y:=by simpa using hy
      subst e;refine ⟨⟨rfl,True.intro⟩,(i0x _ rfl p d _ rfl j.ep (by walk_at "lk") (i02 _ rfl (hs p l d X _ kn _ x2 r' ss g2 H4 _ j (p2.same (mm B)) m2 d2 λL H5 k5 a2 o5=> ?_)))⟩;exact i09 (k5 _ _ ⟨Dp,Dl⟩ M) (A1l (by simp)) (ku (B.trans k5)) A0b (.inr (.inr ⟨rfl,(i0m a L rfl (a2.upD Dp Dl) ((oa.imp (k5.rs j.np j.nl)).imp mu) (o5.imp mu))⟩))
     ·simp at hy
    ·rintro ys H4 ⟨B,M,h4⟩;rcases h4 with ⟨h0,_⟩ | ⟨h0,_⟩ | ⟨_,a,b,rfl,j,oa,a8⟩
     ·cases h0
     ·cases h0
     have a1:K2 p l H H4:=(K2.of (U.trans s3)).trans B;have e4:=a1 _ _ sq eq;have o4:=a1 _ _ so eo;have bk:A0u (A0s (λb=>S b/\b≠D) H4) (A0s S H4):=A2x (A0u.refl _) λb o _ q=>q.1;refine i19 _ rfl q _ dq _ _ rfl e4 T.bq T.b_ (by walk_at "lk") (i08 o C dd (i1d fs lv f fd ps sp rfl o4 c1 me lu fo (hr.mono (by lia)) ⟨bi,?_⟩));refine i13 _ rfl D _ _ _ rfl rfl (SqL.of M) rfl (i13 _ rfl D _ _ _ rfl rfl (SqL.of M) rfl (mk a b H4 Q (λb hb=>(j.fr b hb).1) o4 (oa.imp bk) (a8.imp bk) λL R O o7=> ?_));exact k L R (a1.trans (K2.of O)) (by rw [ew];exact (j.back I.np I.nl).same O) o7
theorem B4l (c:∀a:Bool->Hp->Prop,a d1 H->t1 Z H a) (b:∀a:Bool->Hp->Prop,a d2 H->t2 Z H a) (h:Q (d1&&d2) H):D4s t1 t2 Z H Q:=by
 refine c _ ?_
 cases d1 with
 | false=>exact h
 | true=>exact b _ h
theorem B1m (z:Str):∀c:List Str,inV (.str z) (c.map V.str)=decide (z∈c)
 | []=>rfl
 | b::r=>by
  have a:=B1m z r;unfold inV at a⊢;rw [Z0p,List.any_cons,a];show ((b == z)||decide (z∈r))=decide (z∈b::r);by_cases e:b=z
  ·subst e;simp
  ·have:¬z=b:=λh=>e h.symm;simp [e,this]
theorem A6x:∀a:List Str,(a.map V.str).all B6s=true
 | []=>rfl
 | b::r=>by rw [Z0p,List.all_cons,A6x r];rfl
theorem B5x {H:Hp}:∀{vs:List V} {ax:List (Str×Int)},Paired (λ(v:V) (e:Str×Int)=>∃q,v= .ref q/\H q=some (.tup [.str e.1,.int e.2])) vs ax->A4y H vs (ax.map B1n)
 | _,_,.nil=> .nil
 | _,_,@Paired.cons _ _ _ v e _ _ r t=>by
  obtain ⟨q,rfl,a⟩:=r;exact .cons (.tup a (.cons (.str _) (.cons (.int _) .nil))) (B5x t)
theorem B9v:∀(u:Tm),TmW u->TmW (inS u)/\dep (inS u)<=dep u/\nod (inS u)<=nod u/\(A3o u).length+dep (inS u)=dep u
 | .num _,h=>(i04 h (Z09 _) (Z09 _) (Nat.zero_add _))
 | .place _,h=>(i04 h (Z09 _) (Z09 _) (Nat.zero_add _))
 | .read _ _,h=>(i04 h (Z09 _) (Z09 _) (Nat.zero_add _))
 | .pair _ _ _,h=>(i04 h (Z09 _) (Z09 _) (Nat.zero_add _))
 | .guard _ _ _ _ _,h=>(i04 h (Z09 _) (Z09 _) (Nat.zero_add _))
 | .sum x b,h=>by
  obtain ⟨a,c,d,e⟩:=B9v b h.2;exact i04 a (by show dep (inS b)<=_;simp only [dep];lia) (by show nod (inS b)<=_;simp only [nod];lia) (by show (x::A3o b).length+dep (inS b)=_;simp only [dep,Z0y];lia)
theorem D9a (h:isS u=true):A3o u≠[]:=by
 cases u with
 | sum x b=>exact λe=>by cases e
 | num _=>cases h
 | place _=>cases h
 | read _ _=>cases h
 | pair _ _ _=>cases h
 | guard _ _ _ _ _=>cases h
theorem D0j {kn:List Str} (h:pend≠[]):fin kn pend g r=(lfR kn pend r.2.1 (gdM g r.1),r.2.1+1,r.2.2++[lfL kn pend r.2.1 (gdM g r.1)]):=by
 cases pend with
 | nil=>exact absurd rfl h
 | cons x s=>rfl
theorem D6p (T:Txt K mg t) (hm:47<=m) (Gb1:A3h P w K mg base CX0 m t.be t.br B1z (D5n t n)) :
  A3h P w K mg base CX0 (m+1) t.ff t.j0 B1z (D9o t (n+1)):=by
 have Gb2:= @B5a P w K mg base t T;have Gb3:= @A9f P w K mg base t T;have Gb4:= @C5v P w K mg base t T;have Gb5:= @C5e P w K mg base t T;have Gb6:= @A9c P w K mg base t T;have Gb7:= @B1v P w K mg base t T;have Gb8:= @B1w P w K mg base t T;refine T.nw.F.ok A3i (by walk_at "ln") λ_ A _ s H _ Q E hr h=> ?_
 ·refine e0h h ?_;clear h;rintro p l d W S f z v u ss g ⟨rfl,c,pa,R,hd,hS,k⟩;obtain ⟨q,dq,tv,sl,gl,gs,rfl,e0,c7,d8,a5,bg,bs,pg⟩:=id pa;have eq:=A0m _ _ e0;have sq:S2 p l q:=⟨λe=>c.np (e▸(A0l e0).1),λe=>c.nl (e▸(A0l e0).1)⟩;have b7:S2 p l gl:=⟨λe=>c.np (e▸(A0l a5).1),λe=>c.nl (e▸(A0l a5).1)⟩;have tn:=D9a hS;obtain ⟨i1,i2,i3,i4⟩:=B9v u R.hw;have tl:1<=(A3o u).length:=by cases h:A3o u with | nil=>exact absurd h tn | cons _ _=>simp
  have l1:=R.hd;have l2:=R.hn;have l3:=R.hz;have l4:=R.hl;have dp:=A6n (inS u);have m1:Lim f (inS u) g z:=⟨R.hk,i1,R.hg,by lia,by lia,by lia,by lia,R.ha⟩;have ro:=m1.ok;have ew:wsP f u [] g z=fin f (A3o u) g (wsP f (inS u) [] g z):=D3x u [] g z;rw [D0j tn] at ew;rw [ew] at k;generalize hr0:wsP f (inS u) [] g z=r at ro k;refine i02 _ (@RS.r _ _ _ (rq1 ⟨@A3e _ _ 2 _ _ _ _ A3i.nd rfl (.inr rfl) (pcl Gb2 hr T.j6 (A0a (A1c (pv 1) rfl) A0c)) rfl (.inl rfl)⟩ (rq1 (rq6 3 A3i.nd (pcl Gb4 hr T.se (A0a (B4a (pv 0) T.bt T.cq Gb1 (hr.mono (by lia)) T.cb.b .nil B6f (A0a (pcl Gb3 hr T.fj (A0a (pv 1) A0c)) A0c)) (A0a (A1c (pv 1) rfl) A0c)))) (rq1 ⟨@A3e _ _ 4 _ _ _ _ A3i.nd rfl (.inr rfl) (pcl Gb5 hr T.rg (A0a (pv 3) A0c)) rfl (.inl rfl)⟩ (rq1 ⟨B8z (i₀:=5) (N':=["axis","coming","sums"]) (ix:=(List.replicate 1 none++[some 4,some 2])) (tc:=D4s (C1p (tOp (rIn K false) (C8c 0) (C8c 1))) (C1p (tOp (rIn K true) (C8c 0) (C8c 2)))) A3i.nd rfl (.inl rfl) rfl (D0o (cl:=[("sums",_),("coming",_)]) (xs:=["sums","coming"]) rfl (i00 rfl rfl trivial) rfl rfl (by decide +kernel) (by decide +kernel)) (C7c (N0:=["axis"]) (xs:=["coming","sums"]) (js:=[4,2]) (i00 (i00 rfl (.inl rfl) (by walk_at "ix")) (i00 rfl (.inl rfl) (by walk_at "ix")) trivial)) (A2c (A1c (pv 0) rfl)) (λ_ _ _ _=>(A0k (i:=0) C8x rfl (.inl rfl))) (λ_ _ _ _=>(PW.pt (A3x (A0p D0p (pv 0) (pv 1) (by with_unfolding_all rfl)) (A4f (A0p A6c (pv 0) (pv 2) (by with_unfolding_all rfl)))))) (λ_ _ _ _=>(pv 0))⟩ (rq1 (rq6 6 A3i.nd (D2a (pv 0) T.bt T.kr Gb6 (hr.mono (by lia)) T.df.b .nil B6f)) (rq1 ⟨A2r (A7c Z0k Z0n Z0o A2e (A1c (pv 0) rfl) (A0a (pmk T.yM Gb7 hr T.zC T.im.b (A0a (pv 6) (A0a (pv 5) (A0a (pv 2) (A0a (pv 3) A0c))))) A0c))⟩ (rq3 (rq5 (pmk T.yK Gb8 hr T.xj T.ie.b (A0a (pv 6) (A0a (A4p (N':=["axis"]) (ix:=(List.replicate 1 none)) rfl (A2y rfl (by decide +kernel) (by decide +kernel)) (A3b rfl) (A2c (pv 5)) (λ_ _ _ _=>(A0k (i:=0) C6v rfl (.inl rfl))) (λ_ _ _ _=>(A1z (A0a (pv 0) (A0a A0d A0c))))) A0c)))))))))))) ?_;refine i19 _ rfl q _ dq _ _ rfl eq T.bq T.b_ (by walk_at "lk") (i0m tv u rfl (c7.imp A0m) (by lia) λsm H1 N s1 h1=> ?_);have a6:=c.same s1;have b5:sm≠p:=λe=>by rw [e,c.ep] at N;cases N
  have a9:sm≠l:=λe=>by obtain ⟨_,e2,_⟩:=c.hl;rw [e,e2] at N;cases N
  have Ssm:S sm:=c.fr sm N;refine i0x _ rfl p d _ rfl a6.ep (by walk_at "lk") (i0l _ rfl (.ref q) u ss (i0m g S rfl a6.fr (pa.same (A0g s1)) λv2 H2 s2 c3=> ?_));have d5:=a6.same s2;refine i11 p l d W S f z v2 (inS u) (i0t (ss++A3o u) g rfl d5 c3 m1 (by lia) λv3 H3 k3 a1 o3=> ?_);rw [hr0] at a1 o3;have a0:K2 p l H H3:=(K2.of (s1.trans s2)).trans k3;have g3:H3 gl=some (.lst gs):=a0 _ _ b7 (A0m _ _ a5);refine i19 _ rfl q _ dq _ _ rfl (a0 _ _ sq eq) T.bq T.c9 (by walk_at "lk") ⟨v3,(i14 gl gs g r.1 S rfl a1.fr o3 g3 (Paired.mapP pg λ_ _ q=>q.same (a0.rs c.np c.nl)) λv4 H4 s4 o4=> ?_)⟩;have c6:=a1.same s4;obtain ⟨q1,q2,q3⟩:=C6u g r.1 R.hg ro.w;have r1:=ro.d;have r2:=ro.n;have r3:=ro.k;have r4:=ro.l;generalize hb:gdM g r.1=b at o4 k q1 q2 q3;refine i02 _ rfl (i0t v4 b rfl (o4.imp A0m) q1 (by lia) (by lia) λcm H5 d9 s5 h5=> ?_);have J:=c6.same s5;have c2:K2 p l H H5:=a0.trans (K2.of (s4.trans s5));have b2:H5 sm=some (.lst ((A3o u).map V.str)):=(K2.of s2).trans (k3.trans (K2.of (s4.trans s5))) _ _ ⟨b5,a9⟩ h1;have o5:=o4.imp (A0g (S:=S) s5);obtain ⟨n1,n2⟩:=C2a (pend:=A3o u) (b:=b) R.hk;refine i19 _ rfl p _ d _ _ rfl J.ep T.bt T.jw (by walk_at "lk") (i06 W rfl ⟨_,SqL.of (A0m _ _ J.hk)⟩ λD hD=> ?_);refine A9t (K:=K) (a:=W) (D:=D) (xs:=f.map V.str) (λj M L=>A0u H5 L/\L D=some (.lst M)/\M=(B4p (f.take j) (A3o u) b).map V.str/\M.length<=j) (i04 (A0e hD) A0b rfl (Z09 _)) (λj M L O=>SqL.of (O.1 _ _ (A0m _ _ J.hk))) ?_ ?_
  ·rintro j y M L hy ⟨O,h6,ey,ly⟩;rw [Z1z] at hy;obtain ⟨x,hx,rfl⟩:=Z0i.mp hy;have hj:j<f.length:=(Z03.mp hx).1;have lk:=R.hk.1
   have ea:B4p (f.take (j+1)) (A3o u) b=B4p (f.take j) (A3o u) b++(if (decide (x∈C0k b)&&decide (x∉A3o u))=true then [x] else []):=by
    show (f.take (j+1)).filter _=(f.take j).filter _++_;rw [Z14,hx,Z2f,List.filter_append,List.filter_cons,List.filter_nil]
   refine ⟨(i00 rfl rfl True.intro),?_⟩;refine B4l (d1:=decide (x∈C0k b)) (d2:=decide (x∉A3o u)) (λQ' q=> ?_) (λQ' q=> ?_) ?_
   ·refine i0w _ rfl _ rfl cm _ rfl (.inl (SqL.of (O _ _ h5))) (i0a rfl (A6x _) _ rfl ?_);show Q' (inV (V.str x) ((C0k b).map V.str)) L;rw [B1m];exact q
   ·refine i0w _ rfl _ rfl sm _ rfl (.inl (SqL.of (O _ _ b2))) (i0a rfl (A6x _) _ rfl ?_);show Q' (! inV (V.str x) ((A3o u).map V.str)) L;rw [B1m];have e:(! decide (x∈A3o u))=decide (x∉A3o u):=by by_cases h:x∈A3o u <;> simp [h]
    rw [e];exact q
   ·cases hc:(decide (x∈C0k b)&&decide (x∉A3o u)) with
    | false =>
     rw [hc] at ea;exact A2m (i04 O h6 (by rw [ey,ea];simp) (by lia))
    | true =>
     rw [hc] at ea;exact A5r (i02 _ rfl (i0h h6 (A1l (by lia)) (A0o O hD) A0b (by rw [ey,ea,Z0s];rfl) (by rw [Z06];simp only [Z0y,Z2g];lia)))
  rintro M L ⟨O,h6,rfl,_⟩;rw [Z08,Z18] at h6;have C:=J.same O;have Dp:D≠p:=λe=>by rw [e,J.ep] at hD;cases hD
  have Dl:D≠l:=λe=>by obtain ⟨_,e2,_⟩:=J.hl;rw [e,e2] at hD;cases hD
  obtain ⟨xs,a4,b0⟩:=C.hl;have pl:p≠l:=λe=>by rw [<-e,C.ep] at a4;cases a4
  generalize hax:B4p f (A3o u) b=ax at h6 n1 n2;refine i0x _ rfl p d _ rfl C.ep (by walk_at "lk") (i03 p d (i0r W l r.2.1 rfl C.ep (by lia) ?_));have B:K2 p l L (upd L p (lfO t d W l (r.2.1+1))):=K2.atp;have p7:upd L p (lfO t d W l (r.2.1+1)) p=some (lfO t d W l (r.2.1+1)):=A0b;have l7:upd L p (lfO t d W l (r.2.1+1)) l=some (.lst xs):=by rw [A0i pl.symm];exact a4
  generalize upd L p (lfO t d W l (r.2.1+1))=H7 at B p7 l7;have D7:=B _ _ ⟨Dp,Dl⟩ h6;have c5:=B _ _ ⟨b5,a9⟩ (O _ _ b2);have o7:=(o5.imp (A0g (S:=S) O)).imp (B.rs c.np c.nl);have Y:Fr S H7:=λb hb=>C.fr b (B.free p7 l7 hb);refine i19 _ rfl p _ d _ (.ref l) rfl p7 T.bt T.dj (by walk_at "lk") ⟨.inl (i01 rfl _ (SqL.of l7)),?_⟩;refine i0e _ rfl _ rfl (i0e _ rfl _ rfl λx dx hx b8 e3=> ?_);have I:A0u H7 (upd (upd H7 dx (.own x)) x (.ins t.ba dx [])):=A0o (A0e b8) hx;have b6:upd (upd H7 dx (.own x)) x (.ins t.ba dx []) x=some (.ins t.ba dx []):=A0b;generalize upd (upd H7 dx (.own x)) x (.ins t.ba dx [])=G8 at I b6;refine i08 x dx D (i14 sm v4 (sN r.2.1) ax (A3o u) rfl b6 (I _ _ D7) (I _ _ c5) (by lia) ⟨by lia,λcc cu H8 b9 c4 d3 d4 c1 kb=>⟨rfl,?_⟩⟩);have s8:A0u H7 H8:=KB.same I kb hx;have l8:=s8 _ _ l7;have e4:=Paired.length b0;refine i0u l _ _ rfl rfl l8 (A1l (by lia)) ?_;have Sx:S x:=Y x hx;have Sc:S cc:=Y cc (I.free b9);have Su:S cu:=Y cu (I.free c4);have U:K2 p l H7 (upd H8 l (.lst (xs++[.ref x]))):=(K2.of s8).trans K2.atl;have b4:K2 p l H8 (upd H8 l (.lst (xs++[.ref x]))):=K2.atl;have p9:upd H8 l (.lst (xs++[.ref x])) p=some (lfO t d W l (r.2.1+1)):=by rw [A0i pl];exact s8 _ _ p7
  have l9:upd H8 l (.lst (xs++[.ref x])) l=some (.lst (xs++[.ref x])):=A0b;generalize upd H8 l (.lst (xs++[.ref x]))=H9 at U b4 p9 l9;have Z:=b4.rs (S:=S) c.np c.nl
  have d7:B1t t S H9 p l d W f (r.2.1+1,r.2.2++[lfL f (A3o u) r.2.1 b]):=by
   have a8:=(B.trans U).rs (S:=S) c.np c.nl;refine ⟨c.np,c.nl,λb hb=>Y b (U.free p9 l9 hb),p9,a8 _ _ C.hk,xs++[.ref x],l9,B2i (Paired.mapP b0 λ_ _ q=>q.same a8) (.cons ⟨x,(i0y dx cc cu v4 rfl (Z _ _ (A0h Sx d3)) ?_ (Z _ _ (A0h Su c1)) ((o7.imp (A0g s8)).imp Z))⟩ .nil)⟩;show A0s S H9 cc=some (.lst ((B4p f (A3o u) b).map V.str));rw [hax];exact Z _ _ (A0h Sc d4)
  have D9:=U _ _ ⟨Dp,Dl⟩ D7;have d6:K2 p l H H9:=c2.trans ((K2.of O).trans (B.trans U));have er:lfR f (A3o u) r.2.1 b= .read (sN r.2.1) (ax.map λx=>(x,(0:Int))):=by rw [<-hax];rfl
  rw [er] at k;refine i02 _ rfl (i0k _ rfl D rfl ⟨_,SqL.of D9⟩ λD2 b1=> ?_);refine A4h (K:=K) (a:=D) (D:=D2) (xs:=ax.map V.str) (λi M G=>A0u H9 G/\G D2=some (.lst M)/\Paired (λ(v:V) (e:Str×Int)=>∃q,v= .ref q/\G q=some (.tup [.str e.1,.int e.2])) M ((ax.take i).map λx=>(x,(0:Int)))) (i00 (A0e b1) A0b .nil) (λi M G s=>SqL.of (s.1 _ _ D9)) ?_ ?_
  ·rintro i y0 M G b3 ⟨sG,hG,pG⟩;refine C6a ?_;intro N';rw [Z1z] at b3;obtain ⟨y,hy,rfl⟩:=Z0i.mp b3;have hi:=(Z03.mp hy).1;have lG:=Paired.length pG;rw [Z08,Z0x] at lG;refine ⟨True.intro,(i06 _ rfl (A0v rfl) λtp a7=> ?_)⟩;have sT:=A0e (o:= .tup [.str y,.int 0]) a7;have eT:upd G tp (.tup [.str y,.int 0]) tp=some (.tup [.str y,.int 0]):=A0b;generalize upd G tp (.tup [.str y,.int 0])=G2 at sT eT;refine i09 (sT _ _ hG) (A1l (by lia)) (A0o (sG.trans sT) b1) A0b ?_;have tD:tp≠D2:=λe=>by rw [e,hG] at a7;cases a7
   rw [Z14,hy,Z2f,Z0s];exact B2i (Paired.mapP pG (by rintro v e ⟨q,e1,e2⟩;exact i02 q e1 (by rw [A0i (A3m e2 hG (by intro h;cases h))];exact sT _ _ e2))) (.cons (i02 tp rfl (by rw [A0i tD];exact eT)) .nil)
  rintro M G ⟨sG,hG,pG⟩;rw [Z08,Z18] at pG;have a3:=d7.same sG;have d0:Rep G (.ref D2) (A5c (ax.map λx=>(x,(0:Int)))):= .lst hG (B5x pG);refine λX rd a2 c8 e5=> ?_;have sX:A0u G (upd (upd G rd (.own X)) X (.ins t.aj rd [])):=A0o (A0e c8) a2;have gX:upd (upd G rd (.own X)) X (.ins t.aj rd []) X=some (.ins t.aj rd []):=A0b;generalize upd (upd G rd (.own X)) X (.ins t.aj rd [])=GX at sX gX;refine ⟨X,(i0y rd D2 (sN r.2.1) _ rfl gX (d0.same sX) (by rw [Z08];lia) λl' GY hY rY kY=>⟨rfl,?_⟩)⟩;have sY:A0u G GY:=KB.same sX kY a2;have c0:=a3.same sY;refine k _ GY (d6.trans (K2.of (sG.trans sY))) c0 (.read (A0h (a3.fr X a2) hY) (rY.same λb o e=> ?_));obtain ⟨z1,z2⟩:=A0l e;exact A0h (a3.fr b (sX.free z1)) z2
theorem D6n (T:Txt K mg t):∀n:Nat,A3h P w K mg base CX0 (49+2*n) t.be t.br B1z (D5n t n)
 | 0=>A3h.none λo H Q E h=>by
  refine e0h h ?_;clear h;rintro p l d a S b z v u j g ⟨_,_,_,_,e,_⟩;have:=A6n u
  lia
 | n+1=>D7u T (m:=49+2*n+1) (m0:=49+2*n) (by lia) (by lia) (D6p T (by lia) (D6n T n)) (D6n T n) λp l d a S b z v u s g H Q c f i e k=>(i11 p l d a S b z v u (i0t s g rfl c f i (by lia) k))
structure D7p (e:Lt):Prop where
 l1:e.1.length<=60
 l2:e.2.1.length<=12
 l3:∀x∈e.2.1,B4q x
 w:TmW e.2.2
 d:dep e.2.2<=20
 n:nod e.2.2<=122
def C8t (kn:List Str) (e:Lt) (z:LS):LS:=((wsP kn (inS e.2.2) [] [] z).2.1,(wsP kn (inS e.2.2) [] [] z).2.2++[(e.1,e.2.1,A3o e.2.2,(wsP kn (inS e.2.2) [] [] z).1)])
theorem D7p.lim {e:Lt} (h:D7p e) {kn:List Str} (c:D1c kn) (g:z.1<=90000) (k:z.2.length<=90000) (f:∀e∈z.2,C7b e):Lim kn (inS e.2.2) [] z:=by
 obtain ⟨b,j,i,_⟩:=B9v e.2.2 h.w;have:=h.d;have:=h.n;exact ⟨c,b,(λe a=>by cases a),by show 0+dep (inS e.2.2)<=40;lia,by lia,by lia,by lia,f⟩
theorem D5w {e:Lt} (h:D7p e) {kn:List Str} (i:D1c kn) (g:z.1<=90000) (f:z.2.length<=90000) (j:∀e∈z.2,C7b e):(C8t kn e z).1<=z.1+122/\(C8t kn e z).2.length<=z.2.length+123/\∀e'∈(C8t kn e z).2,C7b e':=by
 have b:=(h.lim i g f j).ok;obtain ⟨m,p,t,o⟩:=B9v e.2.2 h.w;have r:=b.d;have v:=b.n;have s:=b.k;have u:=b.l;have q:=h.d;have x:=h.n;refine i00 (by show (wsP kn (inS e.2.2) [] [] z).2.1<=_;lia) (by show ((wsP kn (inS e.2.2) [] [] z).2.2++[_]).length<=_;rw [Z06];simp only [Z0y,Z2g];lia) λe' c=> ?_;rcases Z07.mp c with c | c
 ·exact b.a e' c
 ·rw [Z0w.mp c];exact ⟨h.l1,(i0h h.l2 h.l3 (by show (A3o e.2.2).length<=100;lia) b.w (by show dep (wsP kn (inS e.2.2) [] [] z).1<=40;lia) (by show nod (wsP kn (inS e.2.2) [] [] z).1<=1000;lia))⟩
def duP (kn:List Str) (ls:List Lt):LS:=ls.foldl (λz e=>C8t kn e z) (0,[])
theorem B0m {kn:List Str} {e:Lt} (h:ls[i]? =some e):duP kn (ls.take (i+1))=C8t kn e (duP kn (ls.take i)):=by
 unfold duP;rw [Z14,h,Z2f,List.foldl_append];rfl
theorem C6j {kn:List Str} (b:D1c kn) {ls:List Lt} (h:∀e∈ls,D7p e) (f:ls.length<=100):∀i,i<=ls.length->(duP kn (ls.take i)).1<=122*i/\(duP kn (ls.take i)).2.length<=123*i/\∀e∈(duP kn (ls.take i)).2,C7b e
 | 0,_=>(i00 (Z1e _) (Z1e _) λe a=>by cases a)
 | i+1,hi=>by
  obtain ⟨j,k,d⟩:=C6j b h f i (by lia);have a:ls[i]? =some ls[i]:=Z0b (by lia);rw [B0m a];obtain ⟨l,g,c⟩:=D5w (h _ (Z13 a)) b (z:=duP kn (ls.take i)) (by lia) (by lia) d;exact i00 (by lia) (by lia) c
def E3r (A:Adr):Sp:=λf H Q _=>∃(p l d c:Addr) (S:Addr->Prop) (a:List Str) (z:LS) (v:V) (e:Lt),f=[.ref p,v]/\B1t A S H p l d c a z/\C0j A (λ_=>True) (A0s S H) v e/\D7p e/\D1c a/\z.1<=90000/\z.2.length<=90000/\(∀e∈z.2,C7b e)/\
 ∀(b:Hp),K2 p l H b->B1t A S b p l d c a (C8t a e z)->Q .non b
theorem B0j (T:Txt K mg t):FP P w mg base T.dw 90 (E3r t):=by
 have Gb3:= @A9f P w K mg base t T;have Ga2:= @A8o P w K mg base t T;have Gb7:= @B1v P w K mg base t T;have Gb1:= @D6n P w K mg base t T 20;refine T.dw.F.ok A4j (by walk_at "ln") λ_ A _ s H _ Q E hr h=> ?_
 ·refine e0e h ?_;clear h;rintro p l d ka S kn z v ⟨e,rfl,f,la,Y,hk,hz,hl,ha,k⟩;obtain ⟨a,da,c,X,_,rfl,N,_,I,b8⟩:=la;have ea:=A0m _ _ N;have sa:S2 p l a:=⟨λe=>f.np (e▸(A0l N).1),λe=>f.nl (e▸(A0l N).1)⟩;have sc:S2 p l c:=⟨λe=>f.np (e▸(A0l I).1),λe=>f.nl (e▸(A0l I).1)⟩;have m1:=Y.lim hk hz hl ha;have ro:=m1.ok;obtain ⟨i1,i2,i3,i4⟩:=B9v e.2.2 Y.w;have o1:=Y.d;have o2:=Y.n;have o3:=Y.l2;have r4:=ro.l;refine i02 _ (@RS.r _ _ _ (rq1 (rq6 2 A4j.nd (pcl Gb3 hr T.fj (A0a (pmk T.jl Ga2 hr T.pw T.cg.b (A0a (A1c (pv 1) rfl) (A0a (@A1r _ _ _ _ A0c) (A0a (@A1r _ _ _ _ A0c) A0c)))) A0c))) (rq1 (rq6 3 A4j.nd (B4a (pv 0) T.bt T.cq Gb1 (hr.mono (by lia)) T.cb.b .nil B6f (A0a (pv 2) A0c))) (rq3 ⟨A2r (A7c Z0k Z0n Z0o A2e (A1c (pv 0) rfl) (A0a (pmk T.yM Gb7 hr T.zC T.im.b (A0a (A1c (pv 1) rfl) (A0a (A1c (pv 1) rfl) (A0a (A1c (pv 2) rfl) (A0a (pv 3) A0c))))) A0c))⟩)))) ?_;refine i19 _ rfl a _ da _ _ rfl ea T.l_ T.k_ (by walk_at "lk") ⟨A0v rfl,λu a6=>⟨A0v rfl,λy a4=> ?_⟩⟩;have s1:A0u H (upd H u (.lst [])):=A0e a6;have Z:=A0e (o:= .lst []) a4;have s2:=s1.trans Z;have g1:upd (upd H u (.lst [])) y (.lst []) u=some (.lst []):=Z _ _ A0b;have g2:upd (upd H u (.lst [])) y (.lst []) y=some (.lst []):=A0b;have f1:=f.fr u a6;have f2:=f.fr y (s1.free a4);generalize upd (upd H u (.lst [])) y (.lst [])=G at s2 g1 g2;refine λi m hn c1 c3=>(i03 i m (i0r _ _ _ rfl A0b rfl ?_));have s3:A0u G (upd (upd (upd G m (.own i)) i (.ins t.aw m [])) i (.ins t.aw m [("term",X),("sums",.ref u),("guards",.ref y)])):=A2f hn c1;have e3:upd (upd (upd G m (.own i)) i (.ins t.aw m [])) i (.ins t.aw m [("term",X),("sums",.ref u),("guards",.ref y)]) i=some (.ins t.aw m [("term",X),("sums",.ref u),("guards",.ref y)]):=A0b;generalize upd (upd (upd G m (.own i)) i (.ins t.aw m [])) i (.ins t.aw m [("term",X),("sums",.ref u),("guards",.ref y)])=G3 at s3 e3;have J:=s2.trans s3;have b0:=f.same J;have b3:A3f t (A0s S G3) (.ref i) (e.2.2,[],[]):=(i1d i m X u y [] rfl (A0h (f.fr i (s2.free hn)) e3) (b8.imp (A0g J)) (A0h f1 (s3 _ _ g1)) (A0h f2 (s3 _ _ g2)) (by show 0+dep e.2.2<=100;lia) (by show 0+dep e.2.2<=100;lia) .nil);refine i03 (.ref i) e.2.2 (i0r [] [] S rfl b0.fr b3 λv4 H4 s4 a7=> ?_);have a1:=J.trans s4;have a2:=f.same a1;obtain ⟨b4,b7,c2,sl4,c7,c6,rfl,M,_,W,_⟩:=id a7;have sb:S2 p l b4:=⟨λe=>f.np (e▸(A0l M).1),λe=>f.nl (e▸(A0l M).1)⟩;have b5:S2 p l sl4:=⟨λe=>f.np (e▸(A0l W).1),λe=>f.nl (e▸(A0l W).1)⟩;refine i0x _ rfl p d _ rfl a2.ep (by walk_at "lk") (i02 _ rfl (i11 p l d ka S kn z _ (inS e.2.2) (i0t _ [] rfl a2 a7 m1 (by lia) λv5 H5 k5 g o5=> ?_)));have O:K2 p l H H5:=(K2.of a1).trans k5;obtain ⟨R,D,a0⟩:=g.hl;have c5:=Paired.length a0;have pl:p≠l:=λe=>by rw [<-e,g.ep] at D;cases D
  refine i19 _ rfl p _ d _ (.ref l) rfl g.ep T.bt T.dj (by walk_at "lk") ⟨.inl (i01 rfl _ (SqL.of D)),?_⟩;have a8:=O _ _ sa ea;refine i19 _ rfl a _ da _ _ rfl a8 T.l_ T.lj (by walk_at "lk") (i19 _ rfl a _ da _ _ rfl a8 T.l_ T.mi (by walk_at "lk") (i19 _ rfl b4 _ b7 _ _ rfl (k5 _ _ sb (A0m _ _ M)) T.bq T.cr (by walk_at "lk") (i02 _ rfl λx C hx b1 c4=> ?_)));have j:A0u H5 (upd (upd H5 C (.own x)) x (.ins t.ba C [])):=A0o (A0e b1) hx;have a9:upd (upd H5 C (.own x)) x (.ins t.ba C []) x=some (.ins t.ba C []):=A0b;generalize upd (upd H5 C (.own x)) x (.ins t.ba C [])=G8 at j a9;refine i08 x C c (i14 sl4 v5 e.1 e.2.1 (A3o e.2.2) rfl a9 (j _ _ (O _ _ sc (A0m _ _ I))) (j _ _ (k5 _ _ b5 (A0m _ _ W))) (by lia) ⟨by lia,λcc cu H8 a3 b6 b9 c0 b2 kb=>⟨rfl,?_⟩⟩);have s8:A0u H5 H8:=KB.same j kb hx;refine i0u l _ _ rfl rfl (s8 _ _ D) (A1l (by lia)) ?_;have Sx:S x:=g.fr x hx;have Sc:S cc:=g.fr cc (j.free a3);have Su:S cu:=g.fr cu (j.free b6);have B:K2 p l H5 (upd H8 l (.lst (R++[.ref x]))):=(K2.of s8).trans K2.atl;have a5:K2 p l H8 (upd H8 l (.lst (R++[.ref x]))):=K2.atl;have p9:upd H8 l (.lst (R++[.ref x])) p=some (lfO t d ka l (C8t kn e z).1):=by rw [A0i pl];exact s8 _ _ g.ep
  have l9:upd H8 l (.lst (R++[.ref x])) l=some (.lst (R++[.ref x])):=A0b;generalize upd H8 l (.lst (R++[.ref x]))=H9 at B a5 p9 l9;have U:=a5.rs (S:=S) f.np f.nl;have L:=B.rs (S:=S) f.np f.nl;exact k H9 (O.trans B) ⟨f.np,f.nl,λb hb=>g.fr b (B.free p9 l9 hb),p9,L _ _ g.hk,R++[.ref x],l9,B2i (Paired.mapP a0 λ_ _ q=>q.same L) (.cons ⟨x,(i0y C cc cu v5 rfl (U _ _ (A0h Sx b9)) (U _ _ (A0h Sc c0)) (U _ _ (A0h Su b2)) (o5.imp L))⟩ .nil)⟩
theorem C3c:∀(ax:List (Str×Int)),D2d (A2g ax) (ax.map (·.2))
 | []=> .nil
 | _::r=> .cons rfl (C3c r)
def B8a (es:List (Str×List Str)) (e:Str×List Str):List (Str×List Str):=if (es.any λf=>decide (f.1=e.1))=true then es.map (λf=>if f.1=e.1 then (f.1,e.2) else f) else es++[e]
theorem D4c {S:Addr->Prop} {H:Hp} {x:Str}:∀{ws:List (Key×V)} {es:List (Str×List Str)},AR S H ws es->(ws.any λkv=>decide (kv.1=(Sum.inr x:Key)))=es.any λf=>decide (f.1=x)
 | _,_,.nil=>rfl
 | _,_,.cons r t=>by
  rw [List.any_cons,List.any_cons,D4c t,r.1];congr 1;exact decide_eq_decide.mpr ⟨λh=>by injection h,λh=>by rw [h]⟩
theorem D4i {S:Addr->Prop} {H:Hp} {x:Str} {c:Addr} {ys:List Str} (sc:S c) (d:H c=some (.lst (ys.map V.str))):∀{ws:List (Key×V)} {es:List (Str×List Str)},AR S H ws es->AR S H (ws.map λkv=>if kv.1=(Sum.inr x:Key) then (kv.1,V.ref c) else kv) (es.map λf=>if f.1=x then (f.1,ys) else f)
 | _,_,.nil=> .nil
 | _,_,@Paired.cons _ _ _ p e _ _ ⟨z1,b,z2,z3,z4⟩ t=>by
  refine .cons ?_ (D4i sc d t);dsimp only;by_cases h:e.1=x
  ·have a:p.1=(Sum.inr x:Key):=by rw [z1,h]
   rw [Z12 h,Z12 a];exact ⟨z1,(i06 c rfl sc d)⟩
  ·have a:¬p.1=(Sum.inr x:Key):=λq=>h (by rw [z1] at q;injection q);rw [Z0t h,Z0t a];exact ⟨z1,(i06 b z2 z3 z4)⟩
theorem D3q {c:Addr} (sc:S c) (a:H c=some (.lst (e.2.map V.str))) (h:AR S H ws es):AR S H (A7z ws (Sum.inr e.1) (.ref c)) (B8a es e):=by
 unfold A7z B8a;rw [D4c h];by_cases q:(es.any λf=>decide (f.1=e.1))=true
 ·rw [Z12 q,Z12 q];exact D4i sc a h
 ·rw [Z0t q,Z0t q];exact B2i h (.cons ⟨rfl,(i06 c rfl sc a)⟩ .nil)
theorem C2p {S:Addr->Prop} {H:Hp}:∀{ws:List (Key×V)} {es:List (Str×List Str)} {as:List (Key×V)} {a:List (Str×List Str)},AR S H as a->AR S H ws es->AR S H (A4g as ws) (es.foldl B8a a)
 | _,_,_,_,ha,.nil=>ha
 | _,_,as,a,ha,@Paired.cons _ _ _ p e ws es ⟨z1,b,z2,z3,z4⟩ t=>by
  obtain ⟨d,c⟩:=p;cases z1;cases z2;have h:=D3q (e:=e) z3 z4 ha;show AR S H (A4g (A7z as (Sum.inr e.1) (.ref b)) ws) (es.foldl B8a (B8a a e));exact C2p h t
theorem D7m (h:(es.map (·.1)).Nodup):((B8a es e).map (·.1)).Nodup:=by
 unfold B8a;by_cases q:(es.any λf=>decide (f.1=e.1))=true
 ·rw [Z12 q,List.map_map]
  have:((λx:Str×List Str=>x.1)∘λf:Str×List Str=>if f.1=e.1 then (f.1,e.2) else f)=λf=>f.1:=by
   funext f;by_cases z:f.1=e.1
   ·show (if f.1=e.1 then (f.1,e.2) else f).1=f.1;rw [Z12 z]
   ·show (if f.1=e.1 then (f.1,e.2) else f).1=f.1;rw [Z0t z]
  rw [this];exact h
 ·rw [Z0t q,Z0s];refine Z0l.mpr (i00 h (by simp) λa d b c=> ?_);have c:=Z0w.mp c;subst c;intro z;subst z;obtain ⟨f,g,i⟩:=Z2c.mp d;exact q (List.any_eq_true.mpr (i02 f g (by simpa using i)))
theorem D2w:(B8a es e).length<=es.length+1:=by
 unfold B8a;by_cases q:(es.any λf=>decide (f.1=e.1))=true
 ·rw [Z12 q,Z08];lia
 ·rw [Z0t q,Z06];simp
theorem D2g {p:List Str->Prop} (h:∀f∈es,p f.2) (b:p e.2):∀f∈B8a es e,p f.2:=λf a=>by
 unfold B8a at a;by_cases q:(es.any λf=>decide (f.1=e.1))=true
 ·rw [Z12 q] at a;obtain ⟨c,d,rfl⟩:=Z2c.mp a;by_cases z:c.1=e.1
  ·rw [Z12 z];exact b
  ·rw [Z0t z];exact h c d
 ·rw [Z0t q] at a;rcases Z07.mp a with a | a
  ·exact h f a
  ·rw [Z0w.mp a];exact b
structure D0x (es:List (Str×List Str)) (n:Nat):Prop where
 nd:(es.map (·.1)).Nodup
 l:es.length<=n
 a:∀e∈es,e.2.length<=100
theorem D0x.put (h:D0x es n) (b:e.2.length<=100):D0x (B8a es e) (n+1):=⟨D7m h.nd,Z1n D2w (by have:=h.l;lia),D2g (p:=λc=>c.length<=100) h.a b⟩
theorem D0x.fold:∀(fs:List (Str×List Str)) {es:List (Str×List Str)} {n:Nat},D0x es n->(∀e∈fs,e.2.length<=100)->D0x (fs.foldl B8a es) (n+fs.length)
 | [],_,_,h,_=>h
 | f::fs,es,n,h,hf=>by
  have:=D0x.fold fs (h.put (hf f (by simp))) λe a=>hf e (by simp [a]);rw [Z0y,show n+(fs.length+1)=n+1+fs.length by lia];exact this
def arP (tb:List (Str×List Str)) (z:List Ln):List (Str×List Str):=(z.map λe=>(e.1,e.2.1)).foldl B8a (tb.foldl B8a [])
theorem D1q {z:List Ln} {e:Ln} (h:z[i]? =some e):arP tb (z.take (i+1))=B8a (arP tb (z.take i)) (e.1,e.2.1):=by
 unfold arP;rw [Z14,h,Z2f,Z0s,List.foldl_append];rfl
theorem D4h {z:List Ln} (h:∀e∈tb,e.2.length<=100) (c:∀e∈z,C7b e):D0x (arP tb z) (tb.length+z.length):=by
 have d:D0x ([]:List (Str×List Str)) 0:=⟨.nil,Z09 _,λe a=>by cases a⟩;have i:=D0x.fold tb d h
 have b:=D0x.fold (z.map λe=>(e.1,e.2.1)) i λe a=>by
  obtain ⟨f,g,rfl⟩:=Z2c.mp a;have:=(c f g).2.1;show f.2.1.length<=100
  lia
 rw [Z08,Nat.zero_add] at b;exact b
structure D9q (ax:List (Str×Int)) (tb:List (Str×List Str)) (ls:List Lt) (os:List Str):Prop where
 nd:(ax.map (·.1)).Nodup
 k:D1c (ax.map (·.1))
 t1:tb.length<=10
 t2:∀e∈tb,e.2.length<=100
 l1:ls.length<=8
 l2:∀e∈ls,D7p e
 o:os.length<=100
abbrev C2z (ax:List (Str×Int)) (ls:List Lt):List Ln:=(duP (ax.map (·.1)) ls).2
theorem D9q.due (h:D9q ax tb ls os):(C2z ax ls).length<=984/\∀e∈C2z ax ls,C7b e:=by
 have c:=h.l1;obtain ⟨_,b,a⟩:=C6j h.k h.l2 (by lia) ls.length (Z09 _);rw [Z18] at b a;exact ⟨by show (duP _ ls).2.length<=984;lia,a⟩
def E2u (A:Adr):Sp:=λh H Q _=>∃(p:Addr) (g:Int) (b:List (Str×Int)) (f:List (Str×List Str)) (c:List Lt) (e:List Str),h=[.ref p]/\D3f A H p g b f c e/\D9q b f c e/\∀(l:Addr) (d:List V) (a:Hp),H l=none->A0u H a->a l=some (.lst d)->Paired (D8k A a) d (C2z b c)->Q (.ref l) a
structure ClAt (A:Adr) (H:Hp) (q:Addr) (ax:List (Str×Int)) (tb:List (Str×List Str)) (ls:List Lt):Prop where
 ob:∃(dc:Addr) (wh:Int) (l a t v o:Addr) (ak:List (Key×V)) (xs:List V),H q=some (clo A dc wh l a t v o)/\H a=some (.dK ak)/\AR (λ_=>True) H ak (arP tb (C2z ax ls))/\H v=some (.lst xs)/\Paired (D8k A H) xs (C2z ax ls)
def D8x (A:Adr):Sp:=λg H Q _=>∃(p:Addr) (f:Int) (b:List (Str×Int)) (d:List (Str×List Str)) (c:List Lt) (e:List Str),g=[.ref p]/\D3f A H p f b d c e/\D9q b d c e/\∀(q:Addr) (a:Hp),A0u H a->ClAt A a q b d c->Q (.ref q) a
theorem C0y (T:Txt K mg t):FO P w base T.px 91 (E2u t):=by
 have Gb9:= @B7h P w K mg base t T;have Gc0:= @B4r P w K mg base t T;have Gc1:= @B0j P w K mg base t T;refine T.px.F.ok A9n (by walk_at "ln") λ_ A _ s H _ Q E hr h=> ?_
 ·obtain ⟨p,wh,U,tb,ls,os,rfl,pr,C,k⟩:=h;obtain ⟨dx,a,tt,ll,o,e,ra,rt,⟨xl,M,j⟩,ho⟩:=pr.ob;have a3:=Paired.length j;have l8:=C.l1;have Y:=C.k.1;rw [Z08] at Y;refine i02 _ (@RS.r _ _ _ (rq1 (rq6 1 A9n.nd (pmk T.yN Gc0 hr T.zQ T.iy.b (A0a (pcl Gb9 hr T.j9 (A0a (pv 0) A0c)) A0c))) (rq1 (rq7 (A2c (A1c (pv 0) rfl)) (A0k (i:=2) A9n.nd rfl (.inl rfl)) (rq3 ⟨A2r (B4a (pv 1) T.bt T.p_ Gc1 (hr.mono (by lia)) T.dw.b .nil B6f (A0a (pv 2) A0c))⟩)) (rq3 (rq5 (A1c (pv 1) rfl)))))) ?_;refine i0l _ rfl p wh U (i0r tb ls os rfl pr (by lia) λq u hq W h1=> ?_);refine λd c g O a6=> ?_;have S:A0u u (upd (upd u c (.own d)) d (.ins t.au c [])):=A0o (A0e O) g;have gG:upd (upd u c (.own d)) d (.ins t.au c []) d=some (.ins t.au c []):=A0b;generalize upd (upd u c (.own d)) d (.ins t.au c [])=G at S gG;refine i0n d c (.ref q) rfl gG λl H2 J I D a1=>⟨rfl,?_⟩;have L:A0u u H2:=KB.same S a1 g;have v:=W.trans L;have a5:H d=none:=W.free g;have lH:H l=none:=W.free (S.free J);have a2:u l=none:=S.free J;have n:A0u u (A0s (S2 d l) H2):=λb o e=>A0h ⟨A0z e g,A0z e a2⟩ (L _ _ e);have N:∀{H3:Hp},K2 d l H2 H3->A0u H H3:=λ{H3} m b o e=>m b o ⟨A0z e a5,A0z e lH⟩ (v _ _ e)
  have B:B1t t (S2 d l) H2 d l c q (U.map (·.1)) (0,[]):=by
   refine ⟨λz=>z.1 rfl,λz=>z.2 rfl,λb X=> ?_,I,n _ _ h1,[],D,.nil⟩;have z1:b≠d:=λz=>by rw [z,I] at X;cases X
   have z2:b≠l:=λz=>by rw [z,D] at X;cases X
   exact ⟨z1,z2⟩
  refine i19 _ rfl p _ dx _ (.ref ll) rfl (v _ _ e) T.bu T.gc (by walk_at "lk") (i06 ll rfl ⟨_,SqL.of (v _ _ M)⟩ ?_)
  refine A2l (K:=K) (a:=ll) (xs:=xl) (λi Z H3=>∃(o2:Option V),Z=[Sro p,Sro d,o2]/\K2 d l H2 H3/\B1t t (S2 d l) H3 d l c q (U.map (·.1)) (duP (U.map (·.1)) (ls.take i)))
   (i06 none rfl (K2.of (A0u.refl _)) B) (by rintro i Z H3 _ ⟨_,_,m,_⟩;exact SqL.of (N m _ _ M)) ?_ ?_
  ·rintro i y Z H3 hy ⟨o2,rfl,m,f⟩;refine B3x ?_;intro D';obtain ⟨le,x,lt⟩:=B3z j hy;have hi:i<ls.length:=(Z03.mp x).1;obtain ⟨d1,d2,d3⟩:=C6j C.k C.l2 (by lia) i (by lia);have a4:=lt.same ((W.trans n).trans (m.rs B.np B.nl));refine i0x _ rfl d c _ rfl f.ep (by walk_at "lk") (i0l _ rfl d l c (i1d q _ _ _ y le rfl f a4 (C.l2 le (Z13 x)) C.k (by lia) (by lia) ⟨d3,λH4 k4 R=> ?_⟩));rw [<-B0m x] at R;exact i06 _ rfl (m.trans k4) R
  ·rintro Z H3 ⟨o2,rfl,m,f⟩;rw [a3,Z18] at f;obtain ⟨xs,h3,a0⟩:=f.hl;exact i19 _ rfl d _ c _ (.ref l) rfl f.ep T.bt T.dj (by walk_at "lk") (k l xs H3 lH (N m) h3 (Paired.mapP a0 λ_ _ z=>z.same A0m))
theorem C2b (T:Txt K mg t):FO P w base T.o_ 92 (D8x t):=by
 have Gc2:= @B5z P w K mg base t T;have Gc3:= @B5w P w K mg base t T;have Gc4:= @C0y P w K mg base t T;have Gc5:= @B4z P w K mg base t T;refine T.o_.F.ok A7i (by walk_at "ln") λ_ A _ s H _ Q E hr h=> ?_
 ·obtain ⟨p,M,g,tb,O,os,rfl,pr,C,k⟩:=h;have hu:=A8b hr;obtain ⟨c1,a2⟩:=C.due;have c5:=C.t1;have a4:=C.k.1;rw [Z08] at a4;have lo:=C.o;refine i02 _ (@RS.r _ _ _ (rq1 (rq6 1 A7i.nd (pcl Gc4 hr T.px (A0a (pv 0) A0c))) (rq1 (rq6 2 A7i.nd (A2k (B5t rfl) (by rfl) T.kq Z2q (A0a (A1c (pv 0) rfl) A0c))) (rq1 (rq7 (A2c (pv 1)) (A0k (i:=3) A7i.nd rfl (.inl rfl)) (rq3 ⟨@A6k _ _ _ _ _ _ _ _ _ hu (pv 2) (A1c (pv 3) rfl) (A1c (pv 3) rfl) rfl⟩)) (rq3 (rq5 (pmk T.zD Gc2 hr T.Aj T.jd.b (A0a (A1c (pv 0) rfl) (A0a (pcl Gc3 hr T.jo (A0a (pv 0) A0c)) (A0a (pv 2) (A0a (pcl Gc5 hr T.iu (A0a (pv 0) A0c)) (A0a (pv 1) (A0a (A1c (pv 0) rfl) A0c))))))))))))) ?_;refine i0l _ rfl p M g (i0r tb O os rfl pr C λl xs N c9 s1 I q=> ?_);have b3:=Paired.length q;obtain ⟨dx,a,tt,ll,o,e,ra,rt,_,ho⟩:=(pr.same s1).ob;obtain ⟨t2,xt,et,c0,b6⟩:=A5m (show Rep N (.ref tt) (.list (tb.map C6b)) from rt);cases et;obtain ⟨D,pl,ar⟩:=E0g b6;have a1:AR (λ_=>True) N (A4g [] D) (tb.foldl B8a []):=C2p .nil ar;refine i19 _ rfl p _ dx _ (.ref tt) rfl e T.bu T.dy (by walk_at "lk") (i0r tt xt D rfl c0 pl λad S=> ?_);generalize A4g [] D=kv0 at a1;have s2:A0u N (upd N ad (.dK kv0)):=A0e S;refine i0k _ rfl l rfl ⟨_,SqL.of (s2 _ _ I)⟩ ?_
  refine A2l (K:=K) (a:=l) (xs:=xs) (λi Z J=>∃(o3:Option V) (Y:List (Key×V)),Z=[Sro p,Sro l,Sro ad,o3]/\A0u N J/\J ad=some (.dK Y)/\AR (λ_=>True) J Y (arP tb ((C2z g O).take i)))
   (i0m none kv0 rfl s2 A0b (a1.same s2)) (by rintro i Z J _ ⟨_,_,_,d,_⟩;exact SqL.of (d _ _ I)) ?_ ?_
  ·rintro i y Z J hy ⟨o3,Y,rfl,d,U,f⟩;refine B3x ?_;intro D';obtain ⟨le,a7,lb,db,c,u,tv,rfl,eb,hc,_⟩:=B3z q hy;have lw:=Paired.length f;have eo:=D4h (tb:=tb) (z:=(C2z g O).take i) C.t2 λe he=>a2 e (Z2p he);have a0:=eo.l;rw [Z0x] at a0;have X:=d _ _ hc;refine i19 _ rfl lb _ db _ (.ref c) rfl (d _ _ eb) T.gj T.jr (by walk_at "lk") (i02 _ rfl (i19 _ rfl lb _ db _ (.str le.1) rfl (d _ _ eb) T.gj T.jh (by walk_at "lk") (i0f ad _ rfl (C0g.k (k:=Sum.inr le.1) U (A1l (by lia))) ?_)));refine i0m _ _ rfl (A0o d S) A0b ?_;rw [D1q a7];refine D3q (e:=(le.1,le.2.1)) (c:=c) True.intro ?_ (f.imp λb zs _ z=>⟨True.intro,by rw [A0i (A3m z U (by intro w;cases w))];exact z⟩);rw [A0i (A3m X U (by intro w;cases w))];exact X
  ·rintro Z J ⟨o3,Y,rfl,d,U,f⟩;rw [b3,Z18] at f;have eo:=D4h (tb:=tb) (z:=C2z g O) C.t2 a2;have a0:=eo.l;have lw:=Paired.length f;have R:=s1.trans d;refine i19 _ rfl p _ dx _ (.int M) rfl (d _ _ e) T.bu T.j8 (by walk_at "lk") (i0l _ rfl p M g (i0r tb O os rfl (pr.same R) C.nd λql b1=> ?_));obtain ⟨G4,s4,a8,a6⟩:=nH (o:= .dK (A2g g)) b1
   try rw [a6]
   refine i02 _ rfl (i0l _ rfl p M g (i0r tb O os rfl (pr.same (R.trans s4)) (by lia) λqt H5 c8 s5 h5=> ?_));have n:=s4.trans s5;refine i02 _ rfl (i19 _ rfl p _ dx _ (.ref o) rfl (n _ _ (d _ _ e)) T.bu T.jy (by walk_at "lk") λB m v b2 c6=> ?_);have L:A0u H5 (upd (upd H5 m (.own B)) B (.ins t.ao m [])):=A0o (A0e b2) v;have g6:upd (upd H5 m (.own B)) B (.ins t.ao m []) B=some (.ins t.ao m []):=A0b;generalize upd (upd H5 m (.own B)) B (.ins t.ao m [])=G6 at L g6;have G:=n.trans L;have a3:=d.trans G
   have a5:N o=some (.lst (os.map V.str)):=by
    obtain ⟨_,e1,e2⟩:=B6r ho;cases e1;exact e2
   refine ⟨B,(i11 m ql ad qt l o M (A2g g) Y (i1d (g.map (·.2)) _ (tb.map (·.1)) os xs _ rfl g6 (L _ _ (s5 _ _ a8)) (C3c g) (by unfold A2g;rw [Z08];lia) (G _ _ U) (f.same G) (i09 (by lia) eo.a (L _ _ h5) (by rw [Z08];lia) (i0h (a3 _ _ I) (by lia) (λx hx=> ?_) (a3 _ _ a5) (by lia) λl' a' t' v' o' b9 H9 b8 d1 c4 d3 a9 b7 c2 c7 d2 b0 d4 c3 b5=>⟨rfl,?_⟩))))⟩
   ·obtain ⟨j,hj⟩:=List.getElem?_of_mem hx;obtain ⟨le,_,x0,d0,_,_,_,rfl,e0,_⟩:=B3z q hj;have e5:=n _ _ (d _ _ e0);exact i0n x0 d0 _ rfl (λz=>by subst z;rw [e5] at v;cases v) (L _ _ e5)
   have b4:A0u H5 H9:=KB.same L b5 v;have W:=d.trans (n.trans b4);exact k B H9 (s1.trans W) ⟨m,M,l',a',t',v',o',b9,xs,b8,a9,b7.imp λb zs _ z=>⟨True.intro,z⟩,b0,Paired.mapP q λ_ _ z=>z.same W⟩
abbrev Env:=Str->Int
def A5z (ρ:Env) (ix:List (Str×Int)):List Int:=ix.map λe=>ρ e.1+e.2
def A5h (ρ:Env):Tm->List (Str×List Int)
 | .read a ix=>[(a,A5z ρ ix)]
 | .guard x lo hi l r=>if lo<=ρ x/\ρ x<hi then A5h ρ l else A5h ρ r
 | .pair _ l r=>A5h ρ l++A5h ρ r
 | _=>[]
def inC (L:Str->Int):List Str->List Int->Prop
 | [],[]=>True
 | x::xs,c::cs=>(0<=c/\c<L x)/\inC L xs cs
 | _,_=>False
def A6u:List Int->List Int->Prop
 | a::as,b::bs=>a<b\/(a=b/\A6u as bs)
 | _,_=>False
abbrev OkP:=Env->Str->List Int->Prop
def B2m (ρ:Env) (x:Str) (i:Int):Env:=λy=>if y=x then i else ρ y
theorem B9e (ρ:Env) (x:Str):B2m ρ x (ρ x)=ρ:=by
 funext y;unfold B2m;split
 ·next h=>rw [h]
 ·rfl
def A1y (L:Str->Int) (okn:OkP):OkP->Env->Tm->Prop
 | ok,ρ,.read a ix=>ok ρ a (A5z ρ ix)
 | ok,ρ,.guard x lo hi l r=>(lo<=ρ x/\ρ x<hi->A1y L okn ok ρ l)/\(¬(lo<=ρ x/\ρ x<hi)->A1y L okn ok ρ r)
 | ok,ρ,.pair _ l r=>A1y L okn ok ρ l/\A1y L okn ok ρ r
 | _,ρ,.sum x b=>∀i,0<=i->i<L x->A1y L okn okn (B2m ρ x i) b
 | _,_,.num _=>True
 | _,_,.place _=>True
def InR (L:Str->Int) (sc:List Str) (ρ:Env):Prop:=ρ ""=0/\∀x∈sc,0<=ρ x/\ρ x<L x
def C1u (g:List Gd) (ρ:Env):Prop:=∀e∈g,(e.2.2.2=true↔(e.2.1<=ρ e.1/\ρ e.1<e.2.2.1))
def A6o (nm:List Str):List Str->Tm->Prop
 | sc,.place x=>x∈sc
 | sc,.read _ ix=>∀e∈ix,e.1=""\/e.1∈sc
 | sc,.guard x _ _ l r=>x∈sc/\A6o nm sc l/\A6o nm sc r
 | sc,.pair _ l r=>A6o nm sc l/\A6o nm sc r
 | sc,.sum x b=>x∈nm/\x∉sc/\A6o nm (sc++[x]) b
 | _,.num _=>True
def nsM:Tm->Prop
 | .sum _ _=>False
 | .pair _ l r=>nsM l/\nsM r
 | .guard _ _ _ l r=>nsM l/\nsM r
 | _=>True
def knM (L:Str->Int) (tb:List (Str×List Str)) (zs:List Ln) (a:Str) (c:List Int):Prop:=(∃e∈tb,e.1=a/\inC L e.2 c)\/∃e∈zs,e.1=a/\inC L e.2.1 c
theorem knM.mono {zs ys:List Ln} (h:knM L tb zs a c):knM L tb (zs++ys) a c:=by
 rcases h with h | ⟨e,b,h⟩
 ·exact .inl h
 ·exact .inr (i02 e (Z07.mpr (.inl b)) h)
structure E2s (L:Str->Int) (tb:List (Str×List Str)) (zs:List Ln) (e:Ln):Prop where
 ns:nsM e.2.2.2
 ti:∀nm,A6o nm (e.2.1++e.2.2.1) e.2.2.2
 lk:∀ρ:Env,InR L (e.2.1++e.2.2.1) ρ->(∀x,x∉e.2.1++e.2.2.1->ρ x=0)->∀p∈A5h ρ e.2.2.2,knM L tb zs p.1 p.2\/(p.1=e.1/\inC L e.2.1 p.2/\A6u p.2 (e.2.1.map ρ))
def B9c (L:Str->Int) (tb:List (Str×List Str)) (zs:List Ln):Prop:=∀(i:Nat) (e:Ln),zs[i]? =some e->E2s L tb (zs.take i) e
theorem B9c.snoc {zs:List Ln} {e:Ln} (h:B9c L tb zs) (b:E2s L tb zs e):B9c L tb (zs++[e]):=by
 intro i f a;by_cases hi:i<zs.length
 ·rw [Z26 hi] at a;rw [List.take_append_of_le_length (by lia)];exact h i f a
 ·have:i=zs.length:=by
   have:=(Z03.mp a).1;simp at this
   lia
  subst this;rw [Z1l (Z09 _)] at a;simp at a;subst a;rw [List.take_append_of_le_length (Z09 _),Z18];exact b
theorem C1z {ρ:Env} {u:Tm}:∀{g:List Gd} {p:Str×List Int},p∈A5h ρ (gdM g u)->C1u g ρ/\p∈A5h ρ u
 | [],p,h=>⟨(λe a=>by cases a),h⟩
 | (x,lo,hi,b)::g,p,h=>by
  cases b with
  | true =>
   have h:p∈(if lo<=ρ x/\ρ x<hi then A5h ρ (gdM g u) else []):=h;split at h
   ·next hc =>
    obtain ⟨c,d⟩:=C1z h;refine ⟨λe a=> ?_,d⟩;rcases Z0e.mp a with rfl | a
    ·exact ⟨λ_=>hc,λ_=>rfl⟩
    ·exact c e a
   ·cases h
  | false =>
   have h:p∈(if lo<=ρ x/\ρ x<hi then [] else A5h ρ (gdM g u)):=h;split at h
   ·cases h
   ·next hc =>
    obtain ⟨c,d⟩:=C1z h;refine ⟨λe a=> ?_,d⟩;rcases Z0e.mp a with rfl | a
    ·exact ⟨(λz=>by cases z),λz=>absurd z hc⟩
    ·exact c e a
theorem D7r {u:Tm} (h:nsM u):∀g:List Gd,nsM (gdM g u)
 | []=>h
 | (x,lo,hi,b)::g=>by
  have:=D7r h g
  cases b with
  | true=>exact ⟨this,True.intro⟩
  | false=>exact ⟨True.intro,this⟩
theorem D5f {nm sc:List Str} {u:Tm} (h:A6o nm sc u):∀g:List Gd,(∀e∈g,e.1∈sc)->A6o nm sc (gdM g u)
 | [],_=>h
 | (x,lo,hi,b)::g,hg=>by
  have:=D5f h g λe a=>hg e (.tail _ a)
  cases b with
  | true=>exact i00 (hg _ (.head _)) this True.intro
  | false=>exact i00 (hg _ (.head _)) True.intro this
theorem B1e {nm:List Str}:∀{u:Tm} {s:List Str} {g:List Gd} {sc:List Str},nsM u->A6o nm sc u->∀{d:List Str},(∀x,¬x=("":Str)->x∈((prT u s g).flatMap λe=>axO e.1)->x∈d)->(∀x∈sc,¬x=("":Str))->A6o nm d u
 | .num _,_,_,_,_,_,_,_,_=>True.intro
 | .place x,_,_,_,_,h,_,hc,hn=>hc x (hn x h) (by simp [prT,axO])
 | .read a ix,_,_,_,_,h,_,hc,hn=>λe f=>by
  rcases h e f with z | z
  ·exact .inl z
  ·refine .inr (hc e.1 (hn _ z) ?_);simp only [prT,List.flatMap_cons,List.flatMap_nil,Z0u];show e.1∈(ix.filter _).map _;exact Z2c.mpr (i02 e (List.mem_filter.mpr ⟨f,Z20 (hn _ z)⟩) rfl)
 | .pair k l r,s,g,_,n,h,_,hc,hn=>by
  refine ⟨B1e (s:=s) (g:=g) n.1 h.1 (λx c b=>hc x c ?_) hn,B1e (s:=s) (g:=g) n.2 h.2 (λx c b=>hc x c ?_) hn⟩
  ·simp only [prT,List.flatMap_cons,List.flatMap_append,Z07];exact .inr (.inl b)
  ·simp only [prT,List.flatMap_cons,List.flatMap_append,Z07];exact .inr (.inr b)
 | .guard y lo hi l r,s,g,_,n,h,_,hc,hn=>by
  refine i00 (hc y (hn y h.1) ?_) (B1e (s:=s) (g:=g++[(y,lo,hi,true)]) n.1 h.2.1 (λx c b=>hc x c ?_) hn) (B1e (s:=s) (g:=g++[(y,lo,hi,false)]) n.2 h.2.2 (λx c b=>hc x c ?_) hn)
  ·simp only [prT,List.flatMap_cons,List.flatMap_append,Z07];exact .inl (by show y∈[y];simp)
  ·simp only [prT,List.flatMap_cons,List.flatMap_append,Z07];exact .inr (.inl b)
  ·simp only [prT,List.flatMap_cons,List.flatMap_append,Z07];exact .inr (.inr b)
 | .sum _ _,_,_,_,n,_,_,_,_=>n.elim
theorem A8g {nm:List Str} {x:Str}:∀{u:Tm} {s:List Str} {g:List Gd} {sc:List Str},nsM u->A6o nm sc u->x∈((prT u s g).flatMap λe=>axO e.1)->x∈sc
 | .num _,_,_,_,_,_,h=>by simp [prT,axO] at h
 | .place y,_,_,_,_,t,h=>by
  have:x=y:=by simpa [prT,axO] using h
  rw [this];exact t
 | .read a ix,_,_,_,_,t,h=>by
  simp only [prT,List.flatMap_cons,List.flatMap_nil,Z0u] at h;obtain ⟨e,b,rfl⟩:=Z2c.mp (show x∈(ix.filter λe=>decide (¬e.1=("":Str))).map (·.1) from h);obtain ⟨d,c⟩:=List.mem_filter.mp b;exact (t e d).resolve_left (of_decide_eq_true c)
 | .pair k l r,_,_,_,n,t,h=>by
  simp only [prT,List.flatMap_cons,List.flatMap_append,Z07] at h;rcases h with h | h | h
  ·cases h
  ·exact A8g n.1 t.1 h
  ·exact A8g n.2 t.2 h
 | .guard y lo hi l r,_,_,_,n,t,h=>by
  simp only [prT,List.flatMap_cons,List.flatMap_append,Z07] at h;rcases h with h | h | h
  ·have:x=y:=by simpa [axO] using h
   rw [this];exact t.1
  ·exact A8g n.1 t.2.1 h
  ·exact A8g n.2 t.2.2 h
 | .sum _ _,_,_,_,n,_,_=>n.elim
theorem C7w {L:Str->Int} {ρ:Env}:∀{ys:List Str},(∀x∈ys,0<=ρ x/\ρ x<L x)->inC L ys (A5z ρ (ys.map λx=>(x,(0:Int))))
 | [],_=>True.intro
 | y::ys,h=>by
  have b:=h y (.head _);refine ⟨?_,C7w λx a=>h x (.tail _ a)⟩;show 0<=ρ y+0/\ρ y+0<L y
  lia
theorem B5m {nm a:List Str}:∀{u:Tm} {sc:List Str},nsM u->A6o nm sc u->A6o a sc u
 | .num _,_,_,_=>True.intro
 | .place _,_,_,h=>h
 | .read _ _,_,_,h=>h
 | .guard _ _ _ l r,_,n,h=>(i00 h.1 (B5m n.1 h.2.1) (B5m n.2 h.2.2))
 | .pair _ l r,_,n,h=>⟨B5m n.1 h.1,B5m n.2 h.2⟩
 | .sum _ _,_,n,_=>n.elim
structure WsG (L:Str->Int) (tb:List (Str×List Str)) (ok:OkP) (nm sc:List Str) (g:List Gd) (z:LS) (r:Tm×LS):Prop where
 pre:∃ys,r.2.2=z.2++ys
 all:B9c L tb r.2.2
 ns:nsM r.1
 ti:A6o nm sc r.1
 lk:∀ρ,InR L sc ρ->C1u g ρ->∀p∈A5h ρ r.1,ok ρ p.1 p.2\/knM L tb r.2.2 p.1 p.2
def okP (okn a:OkP) (pend:List Str):OkP:=if pend=[] then a else okn
structure WsC (L:Str->Int) (nm sc pend:List Str) (g:List Gd):Prop where
 n:∀x∈nm,¬x=("":Str)
 l:∀x∈nm,1<=L x
 s:∀x∈sc++pend,x∈nm
 g:∀e∈g,e.1∈sc
theorem A8y {nm:List Str}:x∈B4p nm pend b↔x∈nm/\x∈C0k b/\x∉pend:=by
 unfold B4p;rw [List.mem_filter];simp
theorem B9h {okn t:OkP} {nm:List Str} (c:WsC L nm sc pend g) (I:∀ρ a d,okn ρ a d->knM L tb z.2 a d) (h:WsG L tb (okP okn t pend) nm (sc++pend) g z r):WsG L tb t nm sc g z (fin nm pend g r):=by
 by_cases j:pend=[]
 ·subst j;have h:WsG L tb t nm (sc++[]) g z r:=h;rw [Z0u] at h;exact h
 ·have w:okP okn t pend=okn:=by unfold okP;rw [Z0t j]
  rw [w] at h;rw [D0j j];have f:=D7r h.ns g;have k:A6o nm (sc++pend) (gdM g r.1):=D5f h.ti g λe u=>Z07.mpr (.inl (c.g e u));have B:=h.lk
  have q:∀ρ,InR L (sc++pend) ρ->∀p∈A5h ρ (gdM g r.1),okn ρ p.1 p.2\/knM L tb r.2.2 p.1 p.2:=λρ m p j=>by
   obtain ⟨G,y⟩:=C1z j;exact B ρ m G p y
  obtain ⟨F,A⟩:=h.pre;have D:=h.all;clear B h;generalize gdM g r.1=b at f k q
  have o:∀x∈B4p nm pend b,x∈sc:=λx i=>by
   obtain ⟨_,y,K⟩:=A8y.mp i;rcases Z07.mp (A8g f k y) with z | z
   ·exact z
   ·exact absurd z K
  have H:E2s L tb r.2.2 (lfL nm pend r.2.1 b):=by
   refine ⟨f,λC=>B5m f (B1e (s:=[]) (g:=[]) f k (λx M i=> ?_) λx i=>c.n x (c.s x i)),λρ m J p j=> .inl ?_⟩
   ·by_cases hq:x∈pend
    ·exact Z07.mpr (.inr hq)
    ·exact Z07.mpr (.inl (A8y.mpr (i00 (c.s x (A8g f k i)) i hq)))
   ·have v:InR L (sc++pend) ρ:=by
     refine ⟨m.1,λx i=> ?_⟩;by_cases hq:x∈B4p nm pend b++pend
     ·exact m.2 x hq
     ·rw [J x hq];have:=c.l x (c.s x i)
      lia
    rcases q ρ v p j with z | z
    ·have:=I ρ _ _ z;rw [A];exact this.mono
    ·exact z
  refine ⟨⟨F++[lfL nm pend r.2.1 b],by show r.2.2++_=_;rw [A,Z0z]⟩,D.snoc H,True.intro,λe u=> ?_,λρ m _ p j=> .inr ?_⟩
  ·obtain ⟨x,i,rfl⟩:=Z2c.mp u;exact .inr (o x i)
  ·have j:p=(sN r.2.1,A5z ρ ((B4p nm pend b).map λx=>(x,(0:Int)))):=Z0w.mp j;rw [j];exact .inr (i06 (lfL nm pend r.2.1 b) (Z07.mpr (.inr (.head _))) rfl (C7w λx i=>m.2 x (o x i)))
theorem C1u.add {b:Bool}:C1u (g++[(x,lo,hi,b)]) ρ↔C1u g ρ/\(b=true↔(lo<=ρ x/\ρ x<hi)):=by
 constructor
 ·intro h;exact ⟨λe a=>h e (Z07.mpr (.inl a)),h _ (Z07.mpr (.inr (.head _)))⟩
 ·rintro ⟨d,c⟩ e a;rcases Z07.mp a with a | a
  ·exact d e a
  ·rw [Z0w.mp a];exact c
theorem B3b {okn a:OkP}:okP okn a []=a:=Z12 rfl
theorem C5d {L:Str->Int} {tb:List (Str×List Str)} {okn:OkP} {nm:List Str}:∀(u:Tm) (q:OkP) (sc pend:List Str) (g:List Gd) (z:LS),WsC L nm sc pend g->(∀ρ a d,okn ρ a d->knM L tb z.2 a d)->(∀ρ,InR L (sc++pend) ρ->C1u g ρ->A1y L okn (okP okn q pend) ρ u)->A6o nm (sc++pend) u->B9c L tb z.2->WsG L tb q nm sc g z (wsP nm u pend g z)
 | .num n,q,sc,pend,g,z,c,hk,hs,m,al=>B9h c hk (r:=(.num n,z)) ⟨⟨[],(Z0u _).symm⟩,al,True.intro,True.intro,λρ _ _ p i=>by cases i⟩
 | .place x,q,sc,pend,g,z,c,hk,hs,m,al=>B9h c hk (r:=(.place x,z)) ⟨⟨[],(Z0u _).symm⟩,al,True.intro,m,λρ _ _ p i=>by cases i⟩
 | .read a ix,q,sc,pend,g,z,c,hk,hs,m,al=>B9h c hk (r:=(.read a ix,z)) ⟨⟨[],(Z0u _).symm⟩,al,True.intro,m,λρ f j p i=>by rw [Z0w.mp i];exact .inl (hs ρ f j)⟩
 | .sum x b,q,sc,pend,g,z,c,hk,hs,m,al=>by
  have e:sc++(pend++[x])=sc++pend++[x]:=(Z0z _ _ _).symm;have H:okP okn q (pend++[x])=okn:=by unfold okP;rw [Z0t (by simp)]
  refine C5d b q sc (pend++[x]) g z ⟨c.n,c.l,λy o=> ?_,c.g⟩ hk (λρ f j=> ?_) (by rw [e];exact m.2.2) al
  ·rw [e] at o;rcases Z07.mp o with o | o
   ·exact c.s y o
   ·rw [Z0w.mp o];exact m.1
  ·rw [H];rw [e] at f;have G:=f.2 x (by simp);have h:=hs ρ ⟨f.1,λy o=>f.2 y (Z07.mpr (.inl o))⟩ j (ρ x) G.1 G.2;rw [B9e] at h;exact h
 | .pair k l r,q,sc,pend,g,z,c,hk,hs,m,al=>by
  have v:WsC L nm (sc++pend) [] g:=⟨c.n,c.l,λy o=>c.s y (by rw [Z0u] at o;exact o),λe t=>Z07.mpr (.inl (c.g e t))⟩;have a:=C5d (L:=L) (tb:=tb) (okn:=okn) l (okP okn q pend) (sc++pend) [] g z v hk (λρ f j=>by rw [Z0u] at f;rw [B3b];exact (hs ρ f j).1) (by rw [Z0u];exact m.1) al;obtain ⟨D,A⟩:=a.pre;have b:=C5d (L:=L) (tb:=tb) (okn:=okn) r (okP okn q pend) (sc++pend) [] g (wsP nm l [] g z).2 v (λρ a d h=>by rw [A];exact (hk ρ a d h).mono) (λρ f j=>by rw [Z0u] at f;rw [B3b];exact (hs ρ f j).2) (by rw [Z0u];exact m.2) a.all;obtain ⟨C,w⟩:=b.pre;refine B9h c hk (r:=(.pair k _ _,_)) ⟨⟨D++C,by rw [w,A,Z0z]⟩,b.all,⟨a.ns,b.ns⟩,⟨a.ti,b.ti⟩,λρ f j p i=> ?_⟩;rcases Z07.mp i with i | i
  ·refine (a.lk ρ f j p i).imp id λh=> ?_;rw [w];exact h.mono
  ·exact b.lk ρ f j p i
 | .guard x lo hi l r,q,sc,pend,g,z,c,hk,hs,m,al=>by
  have v:∀b:Bool,WsC L nm (sc++pend) [] (g++[(x,lo,hi,b)]):=λb=>by
   refine ⟨c.n,c.l,λy o=>c.s y (by rw [Z0u] at o;exact o),λe t=> ?_⟩;rcases Z07.mp t with t | t
   ·exact Z07.mpr (.inl (c.g e t))
   ·rw [Z0w.mp t];exact m.1
  have a:=C5d (L:=L) (tb:=tb) (okn:=okn) l (okP okn q pend) (sc++pend) [] (g++[(x,lo,hi,true)]) z (v true) hk (λρ f j=>by rw [Z0u] at f;rw [B3b];obtain ⟨B,F⟩:=C1u.add.mp j;exact (hs ρ f B).1 (F.mp rfl)) (by rw [Z0u];exact m.2.1) al;obtain ⟨D,A⟩:=a.pre;have b:=C5d (L:=L) (tb:=tb) (okn:=okn) r (okP okn q pend) (sc++pend) [] (g++[(x,lo,hi,false)]) (wsP nm l [] (g++[(x,lo,hi,true)]) z).2 (v false) (λρ a d h=>by rw [A];exact (hk ρ a d h).mono) (λρ f j=>by rw [Z0u] at f;rw [B3b];obtain ⟨B,F⟩:=C1u.add.mp j;exact (hs ρ f B).2 λz=>absurd (F.mpr z) (by decide)) (by rw [Z0u];exact m.2.2) a.all;obtain ⟨C,w⟩:=b.pre;refine B9h c hk (r:=(.guard x lo hi _ _,_)) ⟨⟨D++C,by rw [w,A,Z0z]⟩,b.all,⟨a.ns,b.ns⟩,(i00 m.1 a.ti b.ti),λρ f j p i=> ?_⟩;by_cases hc:lo<=ρ x/\ρ x<hi
  ·have i:p∈(if lo<=ρ x/\ρ x<hi then A5h ρ (wsP nm l [] (g++[(x,lo,hi,true)]) z).1 else _):=i;rw [Z12 hc] at i;refine (a.lk ρ f (C1u.add.mpr ⟨j,λ_=>hc,λ_=>rfl⟩) p i).imp id λh=> ?_;rw [w];exact h.mono
  ·have i:p∈(if lo<=ρ x/\ρ x<hi then _ else A5h ρ (wsP nm r [] (g++[(x,lo,hi,false)]) (wsP nm l [] (g++[(x,lo,hi,true)]) z).2).1):=i;rw [Z0t hc] at i;exact b.lk ρ f (C1u.add.mpr ⟨j,(λz=>by cases z),λz=>absurd z hc⟩) p i
def A3n (L:Str->Int):List Str->Int
 | []=>1
 | x::xs=>L x*A3n L xs
theorem A8m {L:Str->Int}:∀xs ys:List Str,A3n L (xs++ys)=A3n L xs*A3n L ys
 | [],ys=>(Int.one_mul _).symm
 | x::xs,ys=>by
  show L x*A3n L (xs++ys)=L x*A3n L xs*A3n L ys;rw [A8m xs ys,Int.mul_assoc]
theorem A7b {L:Str->Int}:∀{xs:List Str},(∀x∈xs,1<=L x)->1<=A3n L xs
 | [],_=>Int.le_refl 1
 | x::xs,h=>by
  have c:=h x (.head _);have b:=A7b λy a=>h y (.tail _ a);have:=Int.mul_le_mul c b (by lia) (by lia);show 1<=L x*A3n L xs
  lia
theorem C3m {L:Str->Int}:∀{ax sc:List Str},ax.Nodup->(∀x∈ax,x∈sc)->(∀x∈sc,1<=L x)->A3n L ax<=A3n L sc
 | [],sc,_,_,h=>A7b h
 | x::ax,sc,n,hs,h=>by
  obtain ⟨d,f⟩:=Z15.mp n;obtain ⟨b,c,rfl⟩:=List.append_of_mem (hs x (.head _))
  have e:A3n L (b++x::c)=L x*A3n L (b++c):=by
   rw [A8m,A8m];show A3n L b*(L x*A3n L c)=L x*(A3n L b*A3n L c);rw [Int.mul_left_comm]
  rw [e];refine Z29 (C3m f (λy a=> ?_) λy a=>h y ?_) (by have:=h x (by simp);lia)
  ·have:=hs y (.tail _ a);rcases Z07.mp this with z | z
   ·exact Z07.mpr (.inl z)
   ·rcases Z0e.mp z with z | z
    ·rw [z] at a;exact absurd a d
    ·exact Z07.mpr (.inr z)
  ·rcases Z07.mp a with z | z
   ·exact Z07.mpr (.inl z)
   ·exact Z07.mpr (.inr (.tail _ z))
def wtM (L:Str->Int):Tm->Int
 | .sum x b=>1+L x*wtM L b
 | .pair _ l r=>1+wtM L l+wtM L r
 | .guard _ _ _ l r=>1+wtM L l+wtM L r
 | _=>1
theorem A6l {α:Type} {f:α->V} {xs:List α} (h:(xs.map f)[i]? =some v):∃x,xs[i]? =some x/\v=f x:=by
 rw [Z1z] at h
 cases e:xs[i]? with
 | none=>rw [e] at h;cases h
 | some x=>rw [e] at h;exact i02 x rfl ((Z1a h).symm)
def B5g:Sp:=λa H Q _=>∃r:Int,a=[.int r]/\∀z:Int,Sm z->Q (.int z) H
def B0c (lk:List (Key×V)) (nm:List Str):Prop:=∀y∈nm,∃n:Int,A5k lk (Sum.inr y)=some (.int n)/\1<=n/\n<=60
inductive B0f (lk:List (Key×V)):List Str->Int->Prop
 | nil:B0f lk [] 1
 | snoc {ys:List Str} {y:Str} {z n:Int}:B0f lk ys z->A5k lk (Sum.inr y)=some (.int n)->B0f lk (ys++[y]) (z*n)
def C7d:Sp:=λc H Q _=>∃(l d:Addr) (a:List Str) (b:List (Key×V)),c=[.ref l,.ref d]/\H l=some (.lst (a.map V.str))/\H d=some (.dK b)/\B0c b a/\∀(z:Int),1<=z->B0f b a z->Q (.int z) H
def B8j:Sp:=λh H Q _=>∃(r a:Int) (g d:Addr) (c:List Str) (f:List (Key×V)),h=[.int r,.ref g,.ref d,.int a]/\H g=some (.lst (c.map V.str))/\c.length<=1000/\H d=some (.dK f)/\B0c f c/\
 ∀(l:Addr) (b:List Str) (e:Hp),H l=none->A0u H e->e l=some (.lst (b.map V.str))->(∀y∈b,y∈c)->b.length<=3->(b≠[]->∃z,B0f f b z/\z<=a)->b.Nodup->Q (.ref l) e
theorem C3l {k:Key}:(kvs.map (·.1)).Nodup->kvs[i]? =some (k,v)->A5k kvs k=some v:=by
 induction kvs generalizing i with
 | nil=>intro _ h;simp at h
 | cons p r ih =>
  intro n h;have n:(p.1::r.map (·.1)).Nodup:=n;obtain ⟨a,b⟩:=Z15.mp n
  cases i with
  | zero =>
   simp at h;subst h;exact A4d rfl
  | succ j =>
   have h:r[j]? =some (k,v):=by simpa using h
   rw [A4c (λe=>a (by rw [e];exact Z2c.mpr (i02 _ (Z13 h) rfl)))];exact ih b h
theorem C2u {k:Key} (h:A5k kvs k=some v):∃p∈kvs,p.1=k/\p.2=v:=by
 unfold A5k at h;obtain ⟨p,a,e⟩:=Z0i.mp h;have:=List.find?_some a;exact i06 p (List.mem_of_find?_eq_some a) (of_decide_eq_true this) e
def C0c (K:Frag):Sp:=λb H Q _=>∃(a:Addr) (c:List Int) (k:Int),b=[.ref a,.int k]/\SqL K H a (c.map V.int)/\0<=k/\∀z:Int,Q (.int z) H
def Dsc (a b:Str) (F:Int) (j:Nat) (x:Str):Prop:=∃c,abc.cps.toList[((F+(j:Int))%26).toNat]? =some c/\(x=a++⟨#[c]⟩++b\/x=a++⟨#[c]⟩++b++"s")
theorem C9l:abc.cps.toList.Nodup:=by decide +kernel
theorem B6d (h:x=y):x.cps.toList=y.cps.toList:=by rw [h]
theorem D4n (a b c:Str):(a++b++c).cps.toList=a.cps.toList++b.cps.toList++c.cps.toList:=by rw [Str.cps_append,Array.toList_append,Str.cps_append,Array.toList_append]
theorem D9c {a b:Str} {F:Int} {j:Nat} (hi:i<26) (u:j<26) (n:Dsc a b F i x) (p:Dsc a b F j y) (v:i≠j):x≠y:=by
 obtain ⟨c,k,s⟩:=n;obtain ⟨d,m,r⟩:=p
 have o:c≠d:=λz=>by
  subst z;have q:=(Z03.mp k).1;have t:=(Z03.mp m).1;have:=(List.getElem?_inj q C9l).mp (k.trans m.symm)
  lia
 have g:(⟨#[c]⟩:Str).cps.toList=[c]:=rfl;have h:(⟨#[d]⟩:Str).cps.toList=[d]:=rfl
 have f:a.cps.toList++[c]++b.cps.toList≠a.cps.toList++[d]++b.cps.toList:=λz=>by
  rw [Z0z,Z0z] at z;have:=List.append_cancel_left z;injection this with z1 z2;exact o z1
 have l:("s":Str).cps.toList.length=1:=by decide +kernel
 intro e;rcases s with rfl | rfl <;> rcases r with rfl | rfl
 ·have:=B6d e;rw [D4n,D4n,g,h] at this;exact f this
 ·have:=congrArg List.length (B6d e);rw [Str.cps_append _ ("s":Str),Array.toList_append,D4n,D4n,g,h] at this;simp only [Z06,Z0y,Z2g,l] at this
  lia
 ·have:=congrArg List.length (B6d e);rw [Str.cps_append _ ("s":Str),Array.toList_append,D4n,D4n,g,h] at this;simp only [Z06,Z0y,Z2g,l] at this
  lia
 ·have:=B6d e;rw [Str.cps_append _ ("s":Str),Array.toList_append,Str.cps_append _ ("s":Str),Array.toList_append,D4n,D4n,g,h] at this;exact f (List.append_cancel_right this)
theorem C7j {c d:Str} {F:Int} {nm:List Str} (q:n<=26) (h:Paired (Dsc c d F) (List.range n) nm):nm.Nodup:=by
 have m:=Paired.length h;rw [List.length_range] at m;refine List.pairwise_iff_getElem.mpr λi j l o p=> ?_;obtain ⟨a,f,g⟩:=A6y h (Z0b l);obtain ⟨b,e,k⟩:=A6y h (Z0b o);rw [List.getElem?_range (by lia)] at f e;cases f;cases e;exact D9c (by lia) (by lia) g k (by lia)
def NmG (x:Str):Prop:=∀c∈x.cps.toList,97<=c
theorem D9g:∀c∈abc.cps.toList,97<=c:=by decide +kernel
theorem NmG.app (b:NmG x) (d:NmG y):NmG (x++y):=by
 intro c a;rw [Str.cps_append,Array.toList_append] at a;rcases Z07.mp a with h | h
 ·exact b c h
 ·exact d c h
theorem NmG.one {c:Nat} (h:97<=c):NmG ⟨#[c]⟩:=by
 intro d a;simp at a
 lia
theorem NmG.slice {l u:Option Int} (a:NmG x):NmG (Txt.slice x l u):=by
 unfold Txt.slice;split
 ·exact a
 ·intro c b;simp only [List.mem_filterMap] at b;obtain ⟨i,_,d⟩:=b;refine a c ?_;rw [Array.getElem?_toList.symm] at d;exact Z13 d
def B7i:Sp:=λd H Q _=>∃c o:Int,d=[.int c,.int o,.int 22]/\∀(p:Addr) (a:List Str) (b:Hp),H p=none->A0u H b->b p=some (.lst (a.map V.str))->a.length=22->(∀x∈a,B4q x/\1<=x.length)->a.Nodup->(∀x∈a,NmG x)->Q (.ref p) b
theorem D9n {nm:List Str} (n:nm.Nodup) (h:nm[i]? =some y) (ks:ws.map (·.1)=(nm.take i).map λx=>(Sum.inr x:Key)) (u:V):A7z ws (Sum.inr y) u=ws++[(Sum.inr y,u)]:=by
 have a:((nm.map λx=>(x,([]:List Str))).map (·.1)).Nodup:=by rw [List.map_map,show ((λx:Str×List Str=>x.1)∘λx=>(x,([]:List Str)))=id from rfl,List.map_id];exact n
 exact D5p (es:=nm.map λx=>(x,([]:List Str))) (e:=(y,[])) a (by rw [Z1z,h];rfl) (by rw [ks,<-List.map_take,List.map_map];rfl) u
def C5u:Sp:=λa H Q _=>∃c k:Int,a=[.int c,.int k]/\0<=k/\k<=1000000/\∀z:Int,Q (.int z) H
def C7g:Sp:=λa H Q _=>∃c k:Int,a=[.int c,.int k]/\0<=k/\k<=1000/\∀z:Int,Q (.int z) H
theorem A5a (T:Txt K mg t):FO P w base T.bc 1 (C0c K):=by
 refine T.bc.F.ok B7v (by walk_at "ln") λ_ A _ s H _ Q E i h=> ?_
 ·obtain ⟨a,g,k,rfl,b,c,q⟩:=h;refine i02 _ (@RS.r _ _ _ (rq1 (rq4 (A0p B9a (pv 1) (A0q A0y (by rfl) T.ce Z0r (A0a (pv 0) A0c)) (A1b _)) (rq3 (rq5 (A1f A1n (pv 0) (pv 1) (λ_ _=>rfl)))) ⟨A0x⟩) (rq3 (rq5 (A0j A2h (A0j A6e A0d (pv 1)) A0d))))) ?_;refine i0w _ rfl _ rfl a _ rfl (.inl b) (i0q _ _ rfl rfl _ rfl ?_);refine A8z (λd=> ?_) (λ_=>(i0o _ rfl _ _ rfl rfl (i0i (.inl ⟨by decide,by decide⟩) _ _ rfl rfl (q _))));obtain ⟨z,_,e⟩:=A6t (f:=V.int) (xs:=g) c (by simpa using d);exact i17 _ rfl _ rfl a _ _ _ rfl rfl b e (q _)
theorem B6b (T:Txt K mg t):FO P w base T.jp 1 B7i:=by
 refine T.jp.F.ok A1u (by walk_at "ln") λ_ A _ s H _ Q E hr h=> ?_
 ·obtain ⟨c,o,rfl,k⟩:=h;refine i02 _ (@RS.r _ _ _ (rq1 (rq6 3 A1u.nd A1w) (rq1 (rq6 4 A1u.nd A1w) (rq1 (rq6 5 A1u.nd (A0j A1o (pv 0) A0d)) (rq1 (rq7 (A4a rfl T.dm (A0a (A0j A2h A0d (A0j A1j (pv 0) A0d)) A0c)) (A0k (i:=6) A1u.nd rfl (.inl rfl)) (rq1 (rq6 4 A1u.nd (A0j A8w (pv 4) (A1f C6n (pv 3) (A0j A1j (pv 5) A0d) (λ_ _=>rfl)))) (rq3 (rq6 5 A1u.nd (A0j A1o (pv 5) A0d))))) (rq1 (rq6 7 A1u.nd (A0j A1j (pv 1) (A0q B9m (by rfl) T.ce Z0r (A0a (pv 4) A0c)))) (rq1 (rq6 8 A1u.nd (@A1r _ _ _ _ A0c)) (rq1 (rq7 (A4a rfl T.dm (A0a (pv 2) A0c)) (A0k (i:=6) A1u.nd rfl (.inl rfl)) (rq1 (rq6 9 A1u.nd (A1f C6n (pv 3) (A0j A1j (A0j A2h (A7c PySem.F.plainAttrs_str PySem.F.slot_str_find PySem.F.type_str_find D5e (pv 3) (A0a (A1f C6n (pv 4) (pv 7) (λ_ _=>rfl)) A0c)) (pv 6)) A0d) (λ_ _=>rfl))) (rq1 (rq6 10 A1u.nd (A0j A8w (A0j A8w (B2o D3w (pv 4) C0m (B3e (pv 7))) (pv 9)) (B2o D3w (pv 4) (B3e (A0j A2h (pv 7) A0d)) C0m))) (rq2 (rq4 (PW.pt (B6w (A0p A3d (pv 10) A1w (A1b _)) (B5l (A0p A3d (pv 10) A1w (A1b _))))) (rq3 (rq6 10 A1u.nd (A0j A8w (pv 10) A1w))) ⟨A0x⟩) (rq3 ⟨A2r (A7c Z0k Z0n Z0o A2e (pv 8) (A0a (pv 10) A0c))⟩))))) (rq3 (rq5 (pv 8))))))))))) ?_;have c1:1<=1+c%8/\1+c%8<=8:=by lia
  refine i0s _ rfl _ _ rfl rfl ⟨by decide,by decide⟩ (i0o _ rfl _ _ rfl rfl (i0i E2l _ _ rfl rfl (i0c _ rfl (by lia) (by lia) ?_)))
  refine A4k (n:=(1+c%8).toNat) (λi Z d=>H=d/\∃(a:Str) (r:Int) (j:Option V),Z=[Sio c,Sio o,Sio 22,Sso abc,Sso a,Sio r,j,none,none,none,none]/\a.length=i/\PyData.strOk a=true/\NmG a)
   ⟨rfl,(i0r _ _ none rfl rfl (by decide +kernel) (λc q=>by cases q))⟩ ?_ ?_
  ·rintro i Z d hi ⟨rfl,a,r,j,rfl,z,G,J⟩;refine B3x ?_;intro D';obtain ⟨b,v,N⟩:=C4c (xs:=abc.cps.toList) (i:=r%26) (by lia) (by rw [D0t];lia);have q:b<0x110000:=D4b b (Z13 v);have X:(⟨#[b]⟩:Str).length=1:=rfl;refine i12 _ rfl _ rfl _ rfl _ _ rfl rfl ⟨D9v,(i0u _ _ b rfl rfl (A2a (by rw [C3i];decide)) N (i0m _ _ rfl rfl (A2a (by lia)) ?_))⟩;refine i0s _ rfl _ _ rfl rfl ⟨by decide,by decide⟩ ⟨rfl,(i0r (a++⟨#[b]⟩) _ _ rfl (by rw [Str.length_append,X,z]) (C3e G (D3k q)) (J.app (.one (D9g b (Z13 v)))))⟩
  rintro Z d ⟨rfl,a,r,j,rfl,z,G,J⟩;have a0:1<=a.length/\a.length<=8:=by lia
  refine i02 _ rfl (i0k _ rfl a rfl (A2a (by lia)) (i0p _ _ rfl rfl (by show (0:Int)<(a.length:Int);lia) (A0v rfl) λl z=> ?_));have s0:0<=o%(a.length:Int):=Z1v _ (by lia);have s1:o%(a.length:Int)<a.length:=Z1p _ (by lia);obtain ⟨O,f1,f2⟩:=C4c (xs:=a.cps.toList) s0 (by rw [lenC];exact s1)
  refine ⟨_,rfl,22,rfl,by decide,by decide,A4k (n:=22) (λi Z d=>∃(g:List Str) (j M U:Option V),Z=[Sio c,Sio o,Sio 22,Sso abc,Sso a,Sio r,j,Sio (o%(a.length:Int)),Sro l,M,U]/\A0u H d/\
   d l=some (.lst (g.map V.str))/\g.length=i/\(∀x∈g,(B4q x/\1<=x.length)/\NmG x)/\Paired (Dsc (Txt.slice a none (some (o%(a.length:Int)))) (Txt.slice a (some (o%(a.length:Int)+1)) none) (Txt.find abc ⟨#[O]⟩)) (List.range i) g) (i10 [] j none none rfl (A0e z) A0b rfl (by intro x B;cases B) .nil) ?_ ?_⟩
  ·rintro i Z d hi ⟨g,j,M,U,rfl,S,I,R,B,L⟩;rw [Int.zero_add];obtain ⟨b,v,N⟩:=C4c (xs:=abc.cps.toList) (i:=(Txt.find abc ⟨#[O]⟩+(i:Int))%26) (by lia) (by rw [D0t];lia);have q:b<0x110000:=D4b b (Z13 v);have X:(⟨#[b]⟩:Str).length=1:=rfl;have la:=Txt.slice_le a none (some (o%(a.length:Int)));have lb:=Txt.slice_le a (some (o%(a.length:Int)+1)) none;refine i02 _ rfl (i0j _ rfl rfl _ rfl (i0x _ rfl _ _ O rfl rfl (A2a (by lia)) (i0i f2 _ _ rfl rfl (i0o _ rfl _ _ rfl rfl (i0m _ _ rfl rfl D9v (i0u _ _ b rfl rfl (A2a (by rw [C3i];decide)) N ?_))))));refine i0e _ rfl _ rfl (i0k _ rfl a rfl (A2a (by lia)) (i0s _ rfl _ _ rfl rfl (A2a (by lia)) (i0w _ rfl _ rfl _ _ rfl rfl (i0k _ rfl a rfl (A2a (by lia)) (i0m _ _ rfl rfl (A2a (by rw [Str.length_append];lia)) ?_)))));have m:=(J.slice (l:=none) (u:=some (o%(a.length:Int)))).app (.one (D9g b (Z13 v))) |>.app (J.slice (l:=some (o%(a.length:Int)+1)) (u:=none));have p:PyData.strOk (Txt.slice a none (some (o%(a.length:Int)))++⟨#[b]⟩++Txt.slice a (some (o%(a.length:Int)+1)) none)=true:=C3e (C3e (C3z G) (D3k q)) (C3z G);have lm:(Txt.slice a none (some (o%(a.length:Int)))++⟨#[b]⟩++Txt.slice a (some (o%(a.length:Int)+1)) none).length<=17:=by rw [Str.length_append,Str.length_append];lia
   have ls:("s":Str).length=1:=by decide +kernel
   have m1:1<=(Txt.slice a none (some (o%(a.length:Int)))++⟨#[b]⟩++Txt.slice a (some (o%(a.length:Int)+1)) none).length:=by rw [Str.length_append,Str.length_append];lia
   generalize hmd:(Txt.slice a none (some (o%(a.length:Int)))++⟨#[b]⟩++Txt.slice a (some (o%(a.length:Int)+1)) none)=md at p m lm m1;refine i02 (λZ W=>d=W/\∃x,PyData.strOk x=true/\(x=md\/x=md++"s")/\Z=[Sio c,Sio o,Sio 22,Sso abc,Sso a,Sio r,Sio (i:Int),Sio (o%(a.length:Int)),Sro l,some (.str ⟨#[b]⟩),Sso x]) ?_ ?_
   ·have D:PyData.strOk (md++"s")=true:=C3e p (by decide +kernel);refine i0j _ rfl rfl _ rfl (D3c (λ_=>A5r (i0o _ rfl _ _ rfl rfl (i0a (A2a (by lia)) rfl _ D ⟨.inr rfl,rfl⟩))) (λ_=> ?_));exact i0j _ rfl rfl _ rfl (D3c (λ_=>(i0o _ rfl _ _ rfl rfl (i0a (A2a (by lia)) rfl _ D ⟨.inr rfl,rfl⟩))) (λ_=>⟨rfl,(i06 _ p (.inl rfl) rfl)⟩))
   rintro Z W ⟨rfl,x,f,Y,rfl⟩;refine i0j _ rfl (.inl (i01 rfl _ (SqL.of I))) _ rfl (i0u l _ _ rfl rfl I (A1l (by simp;lia)) (i10 (g++[x]) _ _ _ rfl (A0o S z) (by rw [A0b,Z0s];rfl) (by simp [R]) (λy C=> ?_) ?_))
   ·rcases Z07.mp C with C | C
    ·exact B y C
    ·have:y=x:=by simpa using C
     subst this;rcases Y with e | e
     ·rw [e] at f⊢;exact ⟨⟨⟨by lia,f⟩,m1⟩,m⟩
     ·have:=Str.length_append md ("s":Str);rw [e] at f⊢;exact ⟨⟨⟨by lia,f⟩,by lia⟩,m.app (by intro c q;have:c∈[115]:=q;rw [Z0w.mp this];decide)⟩
   ·rw [List.range_succ];exact B2i L (.cons (i02 b v (by rw [hmd];exact Y)) .nil)
  ·rintro Z d ⟨g,j,M,U,rfl,S,I,R,B,L⟩;exact i02 _ rfl (k l g d z S I R (λx h=>(B x h).1) (C7j (by decide) L) λx h=>(B x h).2)
theorem B3i (T:Txt K mg t):FO P w base T.kz 1 C7d:=by
 refine T.kz.F.ok B0o (by walk_at "ln") λ_ A _ s H _ Q E u h=> ?_
 ·obtain ⟨l,d,m,L,rfl,q,B,I,k⟩:=h;have v:=A8b u;refine i02 _ (@RS.r _ _ _ (rq1 (rq6 2 B0o.nd A0d) (rq1 (rq7 (A2c (pv 0)) (A0k (i:=3) B0o.nd rfl (.inl rfl)) (rq3 (rq6 2 B0o.nd (A0j A6e (pv 2) (A2u v (pv 1) (pv 3) (λ_ _=>rfl)))))) (rq3 (rq5 (pv 2)))))) ?_;refine i0k _ rfl l rfl ⟨_,SqL.of q⟩ ?_;refine A2l (K:=K) (a:=l) (xs:=m.map V.str) (λi Z c=>H=c/\∃(j:Option V) (z:Int),Z=[Sro l,Sro d,Sio z,j]/\1<=z/\B0f L (m.take i) z) (i0i rfl none 1 rfl (by decide) .nil) (λi Z c _ e=>SqL.of (by rw [<-e.1];exact q)) ?_ ?_
  ·rintro i x Z c D ⟨rfl,j,z,rfl,f,b⟩;refine B3x ?_;intro M;obtain ⟨y,o,rfl⟩:=A6l D;obtain ⟨n,p,G,J⟩:=I y (Z13 o);have g:=A9e.k (H:=H) (a:=d) (k:=Sum.inr y) B;rw [p] at g
   have C:1<=z*n:=by
    have:=Int.mul_le_mul f G (by lia) (by lia)
    lia
   refine i12 _ rfl _ rfl _ rfl d _ rfl g (i0m _ _ rfl rfl (.inr ⟨by lia,by lia⟩) (i0i rfl _ (z*n) rfl C ?_));rw [Z14,o];exact b.snoc p
  ·rintro Z c ⟨rfl,j,z,rfl,f,b⟩;rw [Z08,Z18] at b;exact i02 _ rfl (k z f b)
theorem B8k (T:Txt K mg t):FO P w base T.fu 2 B8j:=by
 have Gc6:= @B3i P w K mg base t T;refine T.fu.F.ok A4z (by walk_at "ln") λ_ A _ s H _ Q E hr h=> ?_
 ·obtain ⟨r,q,g,d,D,lk,rfl,Y,a3,hd,dk,k⟩:=h;refine i02 _ (@RS.r _ _ _ (rq1 (rq6 4 A4z.nd (@A1r _ _ _ _ A0c)) (rq1 (rq4 (A0p A3d (A0q A0y (by rfl) T.ce Z0r (A0a (pv 1) A0c)) A0d (A1b _)) (rq3 (rq5 (pv 4))) ⟨A0x⟩) (rq1 (rq7 (A4a rfl T.dm (A0a (A0j A1j (pv 0) A0d) A0c)) (A0k (i:=5) A4z.nd rfl (.inl rfl)) (rq1 (rq6 0 A4z.nd (A0j A1o (pv 0) A0d)) (rq1 (rq6 6 A4z.nd (A1f A1n (pv 1) (A0j A1j (pv 0) (A0q A0y (by rfl) T.ce Z0r (A0a (pv 1) A0c))) (λ_ _=>rfl))) (rq3 (rq4 (PW.pt (A3x (A0p A6c (pv 6) (pv 4) (by with_unfolding_all rfl)) (A4f (A0p D5g (pcl Gc6 hr T.kz (A0a (A0j B0b (pv 4) (@A1r _ _ _ _ (A0a (pv 6) A0c))) (A0a (pv 2) A0c))) (pv 3) (A1b _))))) (rq3 ⟨A2r (A7c Z0k Z0n Z0o A2e (pv 4) (A0a (pv 6) A0c))⟩) ⟨A0x⟩))))) (rq3 (rq5 (pv 4))))))) ?_;refine ⟨A0v rfl,λL S=> ?_⟩;have U:A0u H (upd H L (.lst [])):=A0e S;refine i0o _ rfl g _ rfl (.inl (SqL.of (U _ _ Y))) (i05 rfl _ rfl (A8z (λ_=> ?_) (λa1=> ?_)))
  ·exact i02 _ rfl (k L [] _ S U A0b (by intro y I;cases I) (by simp) (λz=>absurd rfl z) .nil)
  have a2:0<D.length:=by
   rcases Nat.eq_zero_or_pos D.length with z | z
   ·exact absurd (by rw [Z08,z];rfl) a1
   ·exact z
  have m4:0<=r%4/\r%4<4:=by lia
  refine i0s _ rfl _ _ rfl rfl E2e (i0c _ rfl (by lia) (by lia) ?_)
  refine A4k (n:=(r%4).toNat) (λi Z l=>∃(M:Int) (o5 X:Option V) (e:List Str),Z=[Sio M,Sro g,Sro d,Sio q,Sro L,o5,X]/\A0u H l/\l L=some (.lst (e.map V.str))/\(∀y∈e,y∈D)/\e.length<=i/\(e≠[]->∃z,B0f lk e z/\z<=q)/\e.Nodup)
   (i10 r none none [] rfl U A0b (by intro y I;cases I) (Z09 _) ⟨(λz=>absurd rfl z),.nil⟩) ?_ ?_
  ·rintro i Z l hi ⟨M,o5,X,e,rfl,v,m,j,ly,R,N⟩;refine B3x ?_;intro D';have p:(0:Int)<((D.map V.str).length:Int):=by rw [Z08];lia
   refine i0s _ rfl _ _ rfl rfl ⟨by decide,by decide⟩ ?_;obtain ⟨y,I,ey⟩:=A6t (f:=V.str) (xs:=D) (i:=M/4%((D.map V.str).length:Int)) (Z1v _ (by lia)) (by have:=Z1p (M/4) p;rw [Z08] at this⊢;exact this);refine i12 _ rfl _ rfl _ rfl g _ rfl (.inl (SqL.of (v _ _ Y))) (i0m _ _ rfl rfl p (i0y g _ _ _ rfl rfl (SqL.of (v _ _ Y)) ey ?_));have my:=Z13 I;refine i0w _ rfl _ rfl L _ rfl (.inl (SqL.of m)) (i0a rfl (A6x e) _ rfl ?_);show if (! inV (V.str y) (e.map V.str))=true then _ else _
   rw [B1m];refine D7h (λJ=> ?_) (λa4=>A2m (i10 _ _ _ e rfl v m j (by lia) ⟨R,N⟩));refine i0k _ rfl _ rfl (A0v rfl) λz hz=> ?_;have sz:A0u l (upd l z (.lst [.str y])):=A0e hz;refine i10 L z _ _ rfl rfl (sz _ _ m) A0b (A2a (by simp;lia)) λc hc=> ?_;have a0:=A0e (o:= .lst (e.map V.str++[V.str y])) hc;have C:=sz.trans a0;have O:upd (upd l z (.lst [.str y])) c (.lst (e.map V.str++[V.str y])) c=some (.lst ((e++[y]).map V.str)):=by rw [A0b,Z0s];rfl
   generalize upd (upd l z (.lst [.str y])) c (.lst (e.map V.str++[V.str y]))=G at C O
   have u:∀x∈e++[y],x∈D:=λx B=>by
    rcases Z07.mp B with B | B
    ·exact j x B
    ·rw [Z0w.mp B];exact my
   refine i13 _ rfl c d (e++[y]) lk rfl O (C _ _ (v _ _ hd)) (λx B=>dk x (u x B)) λzz z1 mo=> ?_;refine i02 _ rfl (i0q _ _ rfl rfl _ rfl (A8z (λW=> ?_) (λ_=>(i10 _ _ _ e rfl (v.trans C) (C _ _ m) j (by lia) ⟨R,N⟩))));refine i0j _ rfl (.inl (i01 rfl _ (SqL.of (C _ _ m)))) _ rfl (i0u L _ _ rfl rfl (C _ _ m) (A1l (by simp;lia)) ?_);exact i10 _ _ _ (e++[y]) rfl (A0o (v.trans C) S) (by rw [A0b,Z0s];rfl) u (by simp;lia) ⟨(λ_=>(i02 zz mo W)),Z0l.mpr (i00 N (by simp) λa ha b hb=>by rw [Z0w.mp hb];intro z;exact J (z▸ha))⟩
  ·rintro Z l ⟨M,o5,X,e,rfl,v,m,j,ly,R,N⟩;exact i02 _ rfl (k L e l S v m j (by lia) R N)
theorem A6i (T:Txt K mg t):FO P w base T.dh 1 B5g:=by
 refine T.dh.F.ok B5b (by walk_at "ln") λ_ A _ s H _ Q E c h=> ?_
 ·obtain ⟨r,rfl,q⟩:=h;refine i02 _ (@RS.r _ _ _ (rq1 (rq4 (A0p A3d (A0j A1j (pv 0) A0d) A0d (A1b _)) (rq3 (rq5 (A0j A3p (A0j A1j (A0j A1o (pv 0) A0d) (A0j A3p (A0j A6e A0d (A0j A7e A0d A0d)) A0d)) (A0j A3p (A0j A7e A0d A0d) A0d)))) ⟨A0x⟩) (rq3 (rq5 (A0j A3p (A0j A1j (A0j A1o (pv 0) A0d) A0d) A0d))))) ?_;have a:((10:Int)^(30:Int).toNat)=1000000000000000000000000000000:=by decide +kernel
  have b:(0:Int)<2*(10:Int)^(30:Int).toNat-1:=by rw [a];decide
  refine i0o _ rfl _ _ rfl rfl (i0a D6l rfl _ rfl (D3c (λ_=> ?_) (λ_=> ?_)))
  ·refine i18 _ rfl _ _ rfl rfl ⟨by decide,by decide⟩ _ _ rfl rfl (i00 (by decide) (by decide) (by decide)) (i0f _ _ rfl rfl (i0b (.inl ⟨by decide,by decide⟩) _ _ rfl (i0i rfl _ _ rfl rfl (i0i b _ _ rfl rfl (i0b (i00 (by decide) (by decide) (by decide)) _ _ rfl (i0i rfl _ _ rfl rfl (q _ (B4w ?_ ?_))))))))
   ·have:=Z1v (r/3) (show (2*(10:Int)^(30:Int).toNat-1)≠0 by lia);rw [a] at this⊢
    lia
   ·have:=Z1p (r/3) b;rw [a] at this⊢
    lia
  ·refine (i18 _ rfl _ _ rfl rfl ⟨by decide,by decide⟩ _ _ rfl rfl E3w (i0f _ _ rfl rfl (q _ (B4w ?_ ?_)))) <;> lia
theorem A6w (T:Txt K mg t):FO P w base T.e8 1 C5u:=by
 refine T.e8.F.ok C5o (by walk_at "ln") λ_ A _ s H _ Q E b h=> ?_
 ·obtain ⟨c,k,rfl,d,e,q⟩:=h;have a:(0:Int)<10^(60:Int).toNat:=by decide +kernel
  refine i02 _ (@RS.r _ _ _ (rq1 (rq4 (A0p A3d (A0j A1j (pv 0) A0d) A0d (A1b _)) (rq3 (rq5 (A0j A1o (pv 0) A0d))) ⟨A0x⟩) (rq3 (rq5 (A0j A2h (A0j A6e (A0j A2h (A0j A1j (A0j A1o (pv 0) A0d) (A0j A7e A0d A0d)) (A0j A6e (pv 1) (pv 1))) A0d) (A0j A6e (A0j A2h (pv 1) A0d) A0d)))))) ?_;refine i0o _ rfl _ _ rfl rfl (i0a D6i rfl _ rfl (D3c (λ_=> ?_) (λ_=> ?_)))
  ·exact i0s _ rfl _ _ rfl rfl ⟨by decide,by decide⟩ (q _)
  ·exact i18 _ rfl _ _ rfl rfl ⟨by decide,by decide⟩ _ _ rfl rfl (i00 (by decide) (by decide) (by decide)) (i0m _ _ rfl rfl a (i0w _ rfl _ rfl _ _ rfl rfl (i0i (.inr ⟨by lia,by lia⟩) _ _ rfl rfl (i0m _ _ rfl rfl (.inr ⟨by decide,by decide⟩) (i0o _ rfl _ _ rfl rfl (i0f _ _ rfl rfl (i0i (.inr ⟨by decide,by decide⟩) _ _ rfl rfl (q _))))))))
theorem B8g (T:Txt K mg t):FO P w base T.ms 2 C7g:=by
 have Gc7:= @A6w P w K mg base t T;refine T.ms.F.ok B0n (by walk_at "ln") λ_ A _ s H _ Q E d h=> ?_
 ·obtain ⟨c,k,rfl,f,l,q⟩:=h;refine i02 _ (@RS.r _ _ _ (rq1 (rq6 2 B0n.nd (pcl Gc7 d T.e8 (A0a (pv 0) (A0a (pv 1) A0c)))) (rq1 (rq7 (A4a rfl T.dm (A0a (A0j A6e (pv 1) (A0j A3p A0d (A0j A1j (pv 0) A0d))) A0c)) (A0k (i:=3) B0n.nd rfl (.inl rfl)) (rq3 (rq6 2 B0n.nd (A0j C3f (pv 2) (A0j A7e A0d A0d))))) (rq3 (rq5 (pv 2)))))) ?_;refine i0w _ rfl _ rfl c k rfl f ⟨by lia,λz=> ?_⟩
  have m:0<=k*(1-c%2)/\k*(1-c%2)<=1000:=by
   rcases Int.emod_two_eq c with e | e
   ·rw [e];lia
   ·rw [e];lia
  refine i0w _ rfl _ rfl _ _ rfl rfl (i0i D6i _ _ rfl rfl (i0m _ _ rfl rfl (.inl ⟨by lia,by lia⟩) (i0c _ rfl (by lia) (by lia) ?_)));refine A4k (n:=(k*(1-c%2)).toNat) (λi Z a=>H=a/\∃(z:Int) (b:Option V),Z=[Sio c,Sio k,Sio z,b]) ⟨rfl,(i03 z none rfl)⟩ ?_ ?_
  ·rintro i Z a g ⟨rfl,z,b,rfl⟩;refine B3x ?_;intro j;exact i18 _ rfl _ _ rfl rfl (i00 (by decide) (by decide) (by decide)) _ _ rfl rfl ⟨by decide +kernel,by decide +kernel⟩ ⟨rfl,(i03 _ _ rfl)⟩
  ·rintro Z a ⟨rfl,z,b,rfl⟩;exact i02 _ rfl (q z)
def opS:Op3->Str
 | .plus=>"plus"
 | .minus=>"minus"
 | .times=>"times"
def A1s:Tm->PyData
 | .num z=> .tuple [.str "number",.int z]
 | .place x=> .tuple [.str "place",.str x]
 | .read a ix=> .tuple [.str "read",.str a,A5c ix]
 | .sum x b=> .tuple [.str "sum",.str x,A1s b]
 | .pair k l r=> .tuple [.str (opS k),A1s l,A1s r]
 | .guard x lo hi l r=> .tuple [.str "guard",.str x,.int lo,.int hi,A1s l,A1s r]
theorem C6x {z:Int} (h:H p=some (.tup [.str "number",.int z])):Rep H (.ref p) (A1s (.num z)):= .tup h (.cons (.str _) (.cons (.int _) .nil))
theorem D1i (h:H p=some (.tup [.str "place",.str x])):Rep H (.ref p) (A1s (.place x)):= .tup h (.cons (.str _) (.cons (.str _) .nil))
theorem D6u {ix:List (Str×Int)} (h:H p=some (.tup [.str "read",.str a,v])) (r:Rep H v (A5c ix)):Rep H (.ref p) (A1s (.read a ix)):= .tup h (.cons (.str _) (.cons (.str _) (.cons r .nil)))
theorem D4o (h:H p=some (.tup [.str "sum",.str x,v])) (r:Rep H v (A1s b)):Rep H (.ref p) (A1s (.sum x b)):= .tup h (.cons (.str _) (.cons (.str _) (.cons r .nil)))
theorem B7j {k:Op3} {u:V} {l r:Tm} (h:H p=some (.tup [.str (opS k),v,u])) (b:Rep H v (A1s l)) (a:Rep H u (A1s r)):Rep H (.ref p) (A1s (.pair k l r)):= .tup h (.cons (.str _) (.cons b (.cons a .nil)))
theorem B6i {u:V} {l r:Tm} (h:H p=some (.tup [.str "guard",.str x,.int lo,.int hi,v,u])) (b:Rep H v (A1s l)) (a:Rep H u (A1s r)):Rep H (.ref p) (A1s (.guard x lo hi l r)):= .tup h (.cons (.str _) (.cons (.str _) (.cons (.int _) (.cons (.int _) (.cons b (.cons a .nil))))))
def TmL (lk:List (Key×V)):Tm->Prop
 | .sum x b=>B0c lk [x]/\TmL lk b
 | .pair _ l r=>TmL lk l/\TmL lk r
 | .guard x _ _ l r=>B0c lk [x]/\TmL lk l/\TmL lk r
 | .read a _=>PyData.strOk a=true
 | _=>True
theorem dk1 {n:Int} (h:A5k lk (Sum.inr x)=some (.int n)) (h1:1<=n) (h2:n<=60):B0c lk [x]:=λy a=>by
 rw [Z0w.mp a];exact i06 n h h1 h2
def NmS (nm:List Str):Prop:=∀x∈nm,B4q x/\1<=x.length
abbrev G3:=Str×Int×Int
def E3q (H:Hp) (v:V) (e:G3):Prop:=∃q,v= .ref q/\H q=some (.tup [.str e.1,.int e.2.1,.int e.2.2])
def lnL (lk:List (Key×V)) (x:Str):Int:=match A5k lk (Sum.inr x) with | some (.int n)=>n | _=>0
theorem A6v {n:Int} (h:A5k lk (Sum.inr x)=some (.int n)):lnL lk x=n:=by unfold lnL;rw [h]
structure GdP (lk:List (Key×V)) (gs:List G3) (u v:Tm):Prop where
 ti:∀nm sc,(∀e∈gs,e.1∈sc)->A6o nm sc u->A6o nm sc v
 sf:∀(okn ok:OkP) (ρ:Env),(∀e∈gs,0<=ρ e.1/\ρ e.1<lnL lk e.1)->((∀e∈gs,e.2.1<=ρ e.1/\ρ e.1<e.2.2)->A1y (lnL lk) okn ok ρ u)->A1y (lnL lk) okn ok ρ v
theorem GdP.nil:GdP lk [] u u:=⟨λ_ _ _ h=>h,λ_ _ _ _ h=>h λe a=>by cases a⟩
theorem A6d {α:Type} {xs:List α} {y:α} {p:α->Prop} (h:∀x∈xs,p x) (b:p y):∀x∈xs++[y],p x:=λx a=>by
 rcases Z07.mp a with a | a
 ·exact h x a
 ·rw [Z0w.mp a];exact b
theorem GdP.put {gs:List G3} {v:Tm} {e:G3} {z:Int} (h:GdP lk gs u v):GdP lk (gs++[e]) u (.guard e.1 e.2.1 e.2.2 v (.num z)):=by
 refine ⟨λj g a k=>(i00 (a e (by simp)) (h.ti j g (λf c=>a f (by simp [c])) k) True.intro),λb m ρ d l=>⟨λi=> ?_,λ_=>True.intro⟩⟩;exact h.sf b m ρ (λf c=>d f (by simp [c])) λa=>l (A6d a i)
theorem GdP.skip {gs:List G3} {v:Tm} {e:G3} (h:GdP lk gs u v) (h1:¬0<e.2.1) (h2:¬e.2.2<lnL lk e.1):GdP lk (gs++[e]) u v:=by
 refine ⟨λi g c j=>h.ti i g (λf b=>c f (by simp [b])) j,λa l ρ d k=>h.sf a l ρ (λf b=>d f (by simp [b])) λc=>k (A6d c ?_)⟩;have:=d e (by simp)
 lia
theorem E3i {b:TT} {d3:Bool} (e:∀a:Bool->Hp->Prop,a d1 H->t1 Z H a) (d:∀a:Bool->Hp->Prop,a d2 H->t2 Z H a) (c:∀a:Bool->Hp->Prop,a d3 H->b Z H a) (h:Q (d1||(d2||d3)) H):tOr t1 (tOr t2 b) Z H Q:=by
 refine e _ ?_
 cases d1 with
 | true=>exact h
 | false =>
  refine A2m (d _ ?_)
  cases d2 with
  | true=>exact h
  | false=>exact A2m (c _ h)
def B8r:Sp:=λj H Q _=>∃(v:V) (h d:Addr) (r:Int) (g:List V) (b:List G3) (u:Tm) (c:List (Key×V)) (S:Addr->Prop),j=[v,.ref h,.int r,.ref d]/\Fr S H/\Rep (A0s S H) v (A1s u)/\TmW u/\TmL c u/\H h=some (.lst g)/\Paired (E3q H) g b/\(∀e∈b,B4q e.1/\Sm e.2.1/\Sm e.2.2)/\H d=some (.dK c)/\B0c c (b.map (·.1))/\
 ∀(i:V) (a:Tm) (f:Hp),A0u H f->Rep (A0s S f) i (A1s a)->TmW a->TmL c a->dep a<=dep u+b.length->GdP c b u a->Q i f
theorem B9w (T:Txt K mg t):FO P w base T.ko 2 B8r:=by
 have Gc8:= @A6i P w K mg base t T;refine T.ko.F.ok A3r (by walk_at "ln") λ_ A _ s H _ Q E hr h=> ?_
 ·refine e0e h ?_;clear h;rintro v M d r gs N u G ⟨S,rfl,fr,rp,wu,tu,I,pg,hg,hd,dk,k⟩;have hu:=A8b hr;have lg:=Paired.length pg;refine i02 _ (@RS.r _ _ _ (rq1 (rq6 4 A3r.nd (pv 0)) (rq1 (rq7 (A2c (pv 1)) (A3v (n:=3) rfl (A0r (A0k (i:=5) A3r.nd rfl (.inl rfl)) (A0r (A0k (i:=6) A3r.nd rfl (.inl rfl)) (A0r (A0k (i:=7) A3r.nd rfl (.inl rfl)) A2p)))) (rq2 (rq4 (PW.pt (B6w (A0p A8u (pv 6) A0d (A1b _)) (B6w (A0p B9a (pv 7) (A2u hu (pv 3) (pv 5) (λ_ _=>rfl)) (A1b _)) (B5l (A0p A3d (A0j A1j (pv 2) A0d) A0d (A1b _)))))) (rq3 (rq6 4 A3r.nd (A1z (A0a A1w (A0a (pv 5) (A0a (pv 6) (A0a (pv 7) (A0a (pv 4) (A0a (A1z (A0a A1w (A0a (pcl Gc8 hr T.dh (A0a (A0j A1o (pv 2) A0d) A0c)) A0c))) A0c))))))))) ⟨A0x⟩) (rq3 (rq6 2 A3r.nd (A0j A1o (pv 2) A0d))))) (rq3 (rq5 (pv 4)))))) ?_;refine i02 _ rfl (i0k _ rfl M rfl ⟨_,SqL.of I⟩ ?_);refine A2l (K:=K) (a:=M) (xs:=gs) (λi Z p=>∃(B:Int) (c:V) (b:Tm) (o5 U o7:Option V),Z=[some v,Sro M,Sio B,Sro d,some c,o5,U,o7]/\A0u H p/\Rep (A0s S p) c (A1s b)/\TmW b/\TmL G b/\dep b<=dep u+i/\GdP G (N.take i) u b) ⟨r,(i14 v u none none none rfl (A0u.refl _) rp wu tu ⟨Z09 _,.nil⟩)⟩ (by rintro i Z p _ ⟨_,_,_,_,_,_,_,l,_⟩;exact SqL.of (l _ _ I)) ?_ ?_
  ·rintro i y Z p hy ⟨B,c,b,o5,U,o7,rfl,l,g,j,f,a3,L⟩;refine B3x ?_;intro D';obtain ⟨e,he,q,rfl,eq⟩:=B3z pg hy;obtain ⟨x,C,m⟩:=e;have hm:=Z13 he;obtain ⟨g1,g2,g3⟩:=hg _ hm;obtain ⟨n,vn,n1,a2⟩:=dk x (Z2c.mpr (i02 _ hm rfl));have dp:=A6n b;have dg:=A9e.k (H:=p) (a:=d) (k:=Sum.inr x) (l _ _ hd);rw [vn] at dg;refine i0f q _ rfl (SqT.of (l _ _ eq)) (i0b rfl _ _ rfl ⟨_,(i0o _ rfl _ _ rfl rfl ?_)⟩);refine i02 (λZ O=>∃(c:V) (b:Tm),Z=[some v,Sro M,Sio B,Sro d,some c,Sso x,Sio C,Sio m]/\A0u H O/\Rep (A0s S O) c (A1s b)/\TmW b/\TmL G b/\dep b<=dep u+(i+1)/\GdP G (N.take (i+1)) u b) ?_ ?_
   ·have tk:N.take (i+1)=N.take i++[(x,C,m)]:=by rw [Z14,he];rfl
    rw [tk];refine E3i (d1:=decide (0<C)) (d2:=decide (m<n)) (d3:=decide (V.int (B%3)=V.int 0)) (λQ' q=>(i02 _ rfl (i0q _ _ rfl rfl _ rfl q))) (λQ' q=>(i12 _ rfl _ rfl _ rfl d _ rfl dg (i0q _ _ rfl rfl _ rfl q))) (λQ' q=>(i0o _ rfl _ _ rfl rfl (i0a D6l rfl _ rfl q))) ?_
    cases hb:(decide (0<C)||(decide (m<n)||decide (V.int (B%3)=V.int 0))) with
    | false =>
     simp only [Bool.or_eq_false_iff,decide_eq_false_iff_not] at hb;exact A2m (i0t c b rfl l g j f ⟨by lia,L.skip hb.1 (by show¬m<lnL G x;rw [A6v vn];exact hb.2.1)⟩)
    | true =>
     refine A5r (i0e _ rfl _ rfl (i12 _ rfl _ rfl _ rfl _ _ rfl rfl (i05 ⟨by decide,by decide⟩ _ rfl λz hz=>⟨A0v rfl,λq1 D=>⟨A0v rfl,λq2 J=> ?_⟩⟩)));have R:=A0e (o:= .tup [.str "number",.int z]) D;have sB:=A0e (o:= .tup [.str "guard",.str x,.int C,.int m,c,.ref q1]) J;have f2:=fr.same l;refine i0t (.ref q2) (.guard x C m b (.num z)) rfl (l.trans (R.trans sB)) (B6i (A0h (f2 q2 (R.free J)) A0b) (g.same (A0g (R.trans sB))) (C6x (A0h (f2 q1 D) (sB _ _ A0b)))) (i09 g1 g2 g3 j hz) (i00 (dk1 vn n1 a2) f True.intro) ⟨?_,L.put⟩;simp only [dep]
     lia
   ·rintro Z O ⟨v3,u3,rfl,s3,a1,Y,X,a0,W⟩;exact i0s _ rfl _ _ rfl rfl ⟨by decide,by decide⟩ ⟨_,(i14 v3 u3 _ _ _ rfl s3 a1 Y X ⟨a0,W⟩)⟩
  ·rintro Z p ⟨B,c,b,o5,U,o7,rfl,l,g,j,f,a3,L⟩;rw [lg,Z18] at L;exact i02 _ rfl (k c b p l g j f (by lia) L)
def D1a (H:Hp) (lk:List (Key×V)) (v:V) (e:Str×List Str):Prop:=∃q a,v= .ref q/\H q=some (.tup [.str e.1,.ref a])/\H a=some (.lst (e.2.map V.str))/\(e.1.length<=60/\PyData.strOk e.1=true)/\e.2.length<=3/\NmS e.2/\B0c lk e.2
theorem D1a.same (h:D1a H lk v e) (s:A0u H H'):D1a H' lk v e:=by
 obtain ⟨q,a,rfl,c,b,r⟩:=h;exact i0m q a rfl (s _ _ c) (s _ _ b) r
def D0z (H:Hp) (lk:List (Key×V)) (a:Addr) (sc:List Str):Prop:=H a=some (.lst (sc.map V.str))/\sc.length<=100/\NmS sc/\B0c lk sc
structure SfT (L:Str->Int) (okn ok:OkP) (nm sc:List Str) (u:Tm):Prop where
 ti:A6o nm sc u
 sf:∀ρ,InR L sc ρ->A1y L okn ok ρ u
def RdS (lk:List (Key×V)) (f:Str) (d a:List Str) (h:V) (u:Tm):Prop:=∀(b e:OkP) (g:List Str),(∀ρ,InR (lnL lk) a ρ->∀c,inC (lnL lk) d c->(¬h= .non->A6u c (d.map ρ))->e ρ f c)->SfT (lnL lk) b e g a u
def D5x (S:Addr->Prop) (lk:List (Key×V)) (n:Nat) (Zz:Tm->Prop) (H:Hp) (Q:VK):Prop:=∀(c:V) (a:Tm) (b:Hp),A0u H b->Rep (A0s S b) c (A1s a)->TmW a->TmL lk a->dep a<=n->Zz a->Q c b
theorem C7z {lk:List (Key×V)} {ρ:Env} {f:List G3} {a:List Str} (d:ρ ""=0) (i:∀e∈f,e.2.1<=ρ e.1/\ρ e.1<e.2.2):∀{c:List Str} {ix:List (Str×Int)},Paired (λ(y:Str) (e:Str×Int)=>(e.1=""/\0<=e.2/\e.2<lnL lk y)\/(e.1∈a/\(e.1,0-e.2,lnL lk y-e.2)∈f)) c ix->inC (lnL lk) c (A5z ρ ix)
 | [],_,.nil=>True.intro
 | y::c,_,.cons (b:=e) h r=>by
  refine ⟨?_,C7z d i r⟩;show 0<=ρ e.1+e.2/\ρ e.1+e.2<lnL lk y;rcases h with ⟨j,g,k⟩ | ⟨_,g⟩
  ·rw [j,d];lia
  ·have k:0-e.2<=ρ e.1/\ρ e.1<lnL lk y-e.2:=i _ g
   lia
theorem B5p {ρ:Env}:∀{a:List Str} {ix:List (Str×Int)} {n:Nat},n<a.length->a.length=ix.length->(∀(k:Nat) (y:Str) (e:Str×Int),a[k]? =some y->ix[k]? =some e->(k<n->e=(y,0))/\(k=n->e.1=y/\e.2<0))->A6u (A5z ρ ix) (a.map ρ)
 | [],_,_,h,_,_=>absurd h (by simp)
 | y::a,[],_,_,h,_=>absurd h (by simp)
 | y::a,e::ix,0,_,_,h=>by
  obtain ⟨b,i⟩:=(h 0 y e rfl rfl).2 rfl;refine .inl ?_;show ρ e.1+e.2<ρ y;rw [b];lia
 | y::a,e::ix,n+1,hn,hl,h=>by
  have b:=(h 0 y e rfl rfl).1 (by lia);refine .inr ⟨?_,B5p (n:=n) (by simpa using hn) (by simpa using hl) λk z f c g=> ?_⟩
  ·show ρ e.1+e.2=ρ y;rw [b];show ρ y+0=ρ y;lia
  ·have:=h (k+1) z f (by simpa using c) (by simpa using g);exact ⟨λd=>this.1 (by lia),λd=>this.2 (by lia)⟩
def D8m (lk:List (Key×V)) (x:Str):Prop:=x=""\/(¬x=""/\B4q x/\∃n:Int,A5k lk (Sum.inr x)=some (.int n)/\1<=n/\n<=60)
theorem D8m.nm (h:D8m lk x):B4q x:=by
 rcases h with rfl | h
 ·exact ⟨by decide +kernel,by decide +kernel⟩
 ·exact h.2.1
theorem E0q {nm:List Str} (h1:NmS nm) (h2:B0c lk nm) (h:x∈nm):D8m lk x:= .inr (i00 (λz=>by have:=(h1 x h).2;rw [z] at this;exact absurd this (by decide +kernel)) ((h1 x h).1) (h2 x h))
def B8d:Sp:=λi H Q _=>∃(r:Int) (q g h d:Addr) (e:Str) (a b:List Str) (f:V) (c:List (Key×V)) (S:Addr->Prop),i=[.int r,.ref q,.ref h,.ref d,f]/\H q=some (.tup [.str e,.ref g])/\H g=some (.lst (a.map V.str))/\(e.length<=60/\PyData.strOk e=true)/\a.length<=3/\NmS a/\B0c c a/\D0z H c h b/\H d=some (.dK c)/\(f= .non\/(f= .ref g/\1<=a.length/\∀x∈a,x∈b))/\Fr S H/\D5x S c 4 (RdS c e a b f) H Q
theorem B8u (T:Txt K mg t):FO P w base T.ij 3 B8d:=by
 have Gc9:= @B9w P w K mg base t T;refine T.ij.F.ok A1q (by walk_at "ln") λ_ A _ s H _ Q E hr h=> ?_
 ·refine e0h h ?_;clear h;rintro r q al sc d an aa c ow lk S ⟨rfl,hq,a3,e6,i1,d8,d4,⟨d1,i2,h0,g0⟩,hd,f8,fr,k⟩;have hu:=A8b hr;refine i02 _ (@RS.r _ _ _ (rq1 (rq6 5 A1q.nd (@A1r _ _ _ _ A0c)) (rq1 (rq6 6 A1q.nd (@A1r _ _ _ _ A0c)) (rq1 (rq6 7 A1q.nd (B7k B0p A0d)) (rq2 (rq4 (A0p C6z (pv 4) B8i (A1b _)) (rq1 (rq6 7 A1q.nd (A0j A1j (pv 0) (A0q A0y (by rfl) T.ce Z0r (A0a (A1f A1h (pv 1) A0d (λ_ _=>rfl)) A0c)))) (rq3 (rq6 0 A1q.nd (A0j A1o (pv 0) A0d)))) ⟨A0x⟩) (rq1 (rq7 (A4a rfl T.dm (A0a (A0q A0y (by rfl) T.ce Z0r (A0a (A1f A1h (pv 1) A0d (λ_ _=>rfl)) A0c)) A0c)) (A0k (i:=8) A1q.nd rfl (.inl rfl)) (rq1 (rq6 9 A1q.nd (A2u hu (pv 3) (A1f A1n (A1f A1h (pv 1) A0d (λ_ _=>rfl)) (pv 8) (λ_ _=>rfl)) (λ_ _=>rfl))) (rq1 (rq6 10 A1q.nd (A1f A1n (A0j B0b (pv 2) (@A1r _ _ _ _ (A0a A1w A0c))) (A0j A1j (A0j A1o (pv 0) A0d) (A0j A2h (A0q A0y (by rfl) T.ce Z0r (A0a (pv 2) A0c)) A0d)) (λ_ _=>rfl))) (rq1 (rq6 11 A1q.nd (A0j A3p (A0j A1j (A0j A1o (pv 0) A0d) A0d) A0d)) (rq2 (rq4 (A0p B9a (pv 8) (pv 7) (A1b _)) (rq1 (rq6 10 A1q.nd (A1f A1n (pv 4) (pv 8) (λ_ _=>rfl))) (rq3 (rq6 11 A1q.nd A0d))) ⟨A0x⟩) (rq2 (rq4 (A0p A3d (pv 8) (pv 7) (A1b _)) (rq1 (rq6 10 A1q.nd (A1f A1n (pv 4) (pv 8) (λ_ _=>rfl))) (rq3 (rq6 11 A1q.nd (A0j A3p (B7k B0p A0d) (A0j A1j (pv 0) A0d))))) ⟨A0x⟩) (rq2 (rq4 (A0p A3d (pv 10) A1w (A1b _)) (rq3 (rq6 11 A1q.nd (A0j A1j (A0j A1o (pv 0) A0d) (pv 9)))) (rq3 ⟨A2r (A7c Z0k Z0n Z0o A2e (pv 6) (A0a (A1z (A0a (pv 10) (A0a (A0j A3p A0d (pv 11)) (A0a (A0j A3p (pv 9) (pv 11)) A0c)))) A0c))⟩)) (rq1 ⟨A2r (A7c Z0k Z0n Z0o A2e (pv 5) (A0a (A1z (A0a (pv 10) (A0a (pv 11) A0c))) A0c))⟩ (rq3 (rq6 0 A1q.nd (A0j A1o (pv 0) A0d))))))))))) (rq3 (rq5 (pcl Gc9 hr T.ko (A0a (A1z (A0a A1w (A0a (A1f A1h (pv 1) A0d (λ_ _=>rfl)) (A0a (pv 5) A0c)))) (A0a (pv 6) (A0a (pv 0) (A0a (pv 3) A0c))))))))))))) ?_;refine ⟨A0v rfl,λu c1=>⟨A0v rfl,λI a8=> ?_⟩⟩;have s1:=A0e (o:= .lst []) c1;have e7:=A0e (o:= .lst []) a8;have s2:=s1.trans e7;have gi:upd (upd H u (.lst [])) I (.lst []) u=some (.lst []):=e7 _ _ A0b;have gg:upd (upd H u (.lst [])) I (.lst []) I=some (.lst []):=A0b;have ig:u≠I:=λe=>by rw [<-e,A0b] at a8;cases a8
  have h4:H I=none:=s1.free a8;have Sil:=fr u c1;generalize upd (upd H u (.lst [])) I (.lst [])=G at s2 gi gg;refine i0e _ rfl (λZ H2=>H2=G/\∃(M D:Int),Z=[Sio M,Sro q,Sro sc,Sro d,some ow,Sro u,Sro I,Sio D,none,none,none,none]/\((ow= .non/\D= -1)\/(ow= .ref al/\0<=D/\D<aa.length/\∀x∈aa,x∈c))) ?_ ?_
  ·refine i0j _ rfl rfl _ rfl ?_;rcases f8 with rfl | ⟨rfl,l1,a1⟩
   ·exact A2m (i0b rfl r (-1) rfl (.inl ⟨rfl,rfl⟩))
   ·have p0:(0:Int)<((aa.map V.str).length:Int):=by rw [Z08];lia
    refine A5r (i17 _ rfl _ rfl q _ _ _ rfl rfl (SqT.of (s2 _ _ hq)) rfl (i0f al _ rfl (.inl (SqL.of (s2 _ _ a3))) (i0m _ _ rfl rfl p0 (i0s _ rfl _ _ rfl rfl ⟨by decide,by decide⟩ (i0b rfl _ _ rfl (.inr (i04 rfl (Z1v _ (by lia)) ?_ a1)))))));have:=Z1p r p0;rw [Z08] at this⊢;exact this
  rintro Z H2 ⟨rfl,r1,D,rfl,b7⟩;refine i0z _ rfl q _ _ _ rfl rfl (SqT.of (s2 _ _ hq)) (i0i rfl al _ rfl (.inl (SqL.of (s2 _ _ a3))) (i0c _ rfl (by lia) (by rw [Z08];lia) ?_))
  refine A4k (n:=(aa.map V.str).length) (λi Z O=>∃(M:Int) (o8 o9 b5 b6:Option V) (iv gv:List V) (R:List (Str×Int)) (l:List G3),Z=[Sio M,Sro q,Sro sc,Sro d,some ow,Sro u,Sro I,Sio D,o8,o9,b5,b6]/\A0u H O/\O u=some (.lst iv)/\O I=some (.lst gv)/\Paired (λ(v:V) (e:Str×Int)=>∃q,v= .ref q/\S q/\O q=some (.tup [.str e.1,.int e.2])) iv R/\Paired (E3q O) gv l/\R.length=i/\l.length<=i/\(∀e∈R,B4q e.1/\Sm e.2)/\(∀e∈l,B4q e.1/\Sm e.2.1/\Sm e.2.2)/\B0c lk (l.map (·.1))/\(∀e∈l,e.1∈c)/\Paired (λ(y:Str) (e:Str×Int)=>(e.1=""/\0<=e.2/\e.2<lnL lk y)\/(e.1∈c/\(e.1,0-e.2,lnL lk y-e.2)∈l)) (aa.take i) R/\(∀(k:Nat) (y:Str) (e:Str×Int),aa[k]? =some y->R[k]? =some e->((k:Int)<D->e=(y,0))/\((k:Int)=D->e.1=y/\e.2<0)))
   (i08 r1 none none (i1d none none [] [] [] [] rfl s2 gi gg .nil .nil rfl ⟨Z09 _,(i0h (λe b=>by cases b) (λe b=>by cases b) (λe b=>by cases b) (λe b=>by cases b) .nil (λk y e _ b=>by cases b))⟩)) ?_ ?_
  ·rintro i Z O hi zz;refine e0e zz ?_;clear zz;rintro M o8 o9 b5 b6 iv gv R ⟨l,rfl,s3,c2,c0,pi,pg,b0,c9,b3,a9,a6,a2,W,a4⟩;refine B3x ?_;intro D';rw [Z08] at hi;have nl:((0:Int)+(i:Int))=(i:Int):=by lia
   obtain ⟨y,X,ey⟩:=A6t (f:=V.str) (xs:=aa) (i:=(0:Int)+(i:Int)) (by lia) (by lia);have my:=Z13 X;obtain ⟨n,vn,n1,i0⟩:=d4 y my;have dg:=A9e.k (H:=O) (a:=d) (k:=Sum.inr y) (s3 _ _ hd);rw [vn] at dg;refine i17 _ rfl _ rfl q _ _ _ rfl rfl (SqT.of (s3 _ _ hq)) rfl (i0z _ rfl al _ _ _ rfl rfl (SqL.of (s3 _ _ a3)) (i0i ey d _ rfl dg ?_));refine i06 _ rfl (A0v rfl) λzl g2=> ?_;have sz:=A0e (o:= .lst [.str ""]) g2;refine i10 sc zl _ _ rfl rfl (sz _ _ (s3 _ _ d1)) A0b (A2a (by simp;lia)) λcl h6=> ?_;have g6:=A0e (o:= .lst (c.map V.str++[V.str ""])) h6;have s5:=sz.trans g6;have d9:upd (upd O zl (.lst [.str ""])) cl (.lst (c.map V.str++[V.str ""])) cl=some (.lst ((c++[("":Str)]).map V.str)):=by rw [A0b,Z0s];rfl
   generalize upd (upd O zl (.lst [.str ""])) cl (.lst (c.map V.str++[V.str ""]))=H5 at s5 d9;have p1:(0:Int)<((c.map V.str).length:Int)+1:=by lia
   obtain ⟨x,hx,ex⟩:=A6t (f:=V.str) (xs:=c++[("":Str)]) (i:=M/7%(((c.map V.str).length:Int)+1)) (Z1v _ (by lia)) (by have:=Z1p (M/7) p1;rw [Z08] at this⊢;rw [Z06,Z0j];lia)
   have c5:D8m lk x/\(x=""\/x∈c):=by
    rcases Z07.mp (Z13 hx) with z | z
    ·exact ⟨E0q h0 g0 z,.inr z⟩
    ·exact ⟨.inl (Z0w.mp z),.inl (Z0w.mp z)⟩
   have e8:lnL lk y=n:=A6v vn;refine i0s _ rfl _ _ rfl rfl ⟨by decide,by decide⟩ (i0o _ rfl sc _ rfl (.inl (SqL.of (s5 _ _ (s3 _ _ d1)))) (i0f _ _ rfl rfl (i0m _ _ rfl rfl p1 (i0y cl _ _ _ rfl rfl (SqL.of d9) ex ?_))));have a5:=s3.trans s5;refine i18 _ rfl _ _ rfl rfl ⟨by decide,by decide⟩ _ _ rfl rfl z_50 (i0f _ _ rfl rfl ?_);have yo:=E0q d8 d4 my;refine i02 (λZ U=>H5=U/\∃(x:Str) (z:Int),Z=[Sio M,Sro q,Sro sc,Sro d,some ow,Sro u,Sro I,Sio D,Sio (0+(i:Int)),Sio n,Sso x,Sio z]/\(D8m lk x/\(x=""\/x∈c))/\-2<=z/\z<=2/\((0+(i:Int))<D->x=y/\z=0)) ?_ ?_
   ·refine i0e _ rfl _ rfl (i0q _ _ rfl rfl _ rfl (A8z (λb9=> ?_) (λb9=>⟨rfl,(i0p x _ rfl c5 (by lia) (by lia) λh=>absurd h b9)⟩)));rcases b7 with ⟨_,e⟩ | ⟨rfl,_,_,a1⟩
    ·exact absurd b9 (by lia)
    ·exact i1b _ rfl _ rfl al _ _ _ rfl rfl (SqL.of (a5 _ _ a3)) ey rfl (i0p y 0 rfl ⟨yo,.inr (a1 y my)⟩ (by decide) (by decide) λ_=>⟨rfl,rfl⟩)
   rintro Z U ⟨rfl,x1,z1,rfl,f7,h5,f6,h3⟩;refine i02 (λZ U=>H5=U/\∃(x:Str) (z:Int),Z=[Sio M,Sro q,Sro sc,Sro d,some ow,Sro u,Sro I,Sio D,Sio (0+(i:Int)),Sio n,Sso x,Sio z]/\(D8m lk x/\(x=""\/x∈c))/\-2<=z/\z<=2/\((0+(i:Int))<D->x=y/\z=0)/\((0+(i:Int))=D->x=y/\z<0)) ?_ ?_
   ·refine i02 _ rfl (i0j _ rfl rfl _ rfl (A8z (λB=> ?_) (λB=>⟨rfl,(i0t x1 z1 rfl f7 h5 f6 h3 λh=>absurd (congrArg V.int h) B)⟩)));have B:(0:Int)+(i:Int)=D:=V.int.inj B;rcases b7 with ⟨_,e⟩ | ⟨rfl,_,_,a1⟩
    ·exact absurd B (by lia)
    ·exact i17 _ rfl _ rfl al _ _ _ rfl rfl (SqL.of (a5 _ _ a3)) ey (i02 _ rfl (i18 _ rfl _ _ rfl rfl D6i _ _ rfl rfl rfl (i0t y _ rfl ⟨yo,.inr (a1 y my)⟩ (by lia) (by lia) (λh=>absurd h (by lia)) λ_=>⟨rfl,by lia⟩)))
   rintro Z U ⟨rfl,C,L,rfl,⟨c6,d6⟩,g4,h9,b8,c4⟩;have d2:¬y="":=λz=>by have:=(d8 y my).2;rw [z] at this;exact absurd this (by decide +kernel)
   have a7:=s5 _ _ c0;obtain ⟨gt0,egt⟩:∃g,g=l:=⟨l,rfl⟩;refine i02 (λZ U=>∃(z:Int) (gv:List V) (l:List G3),Z=[Sio M,Sro q,Sro sc,Sro d,some ow,Sro u,Sro I,Sio D,Sio (0+(i:Int)),Sio n,Sso C,Sio z]/\-2<=z/\z<=60/\A0u H U/\KB I H5 U/\U I=some (.lst gv)/\Paired (E3q U) gv l/\l.length<=i+1/\(∀e∈l,B4q e.1/\Sm e.2.1/\Sm e.2.2)/\B0c lk (l.map (·.1))/\(∀e∈l,e.1∈c)/\(∀e∈gt0,e∈l)/\((C=""/\0<=z/\z<lnL lk y)\/(C∈c/\(C,0-z,lnL lk y-z)∈l))/\((0+(i:Int))<D->(C,z)=(y,0))/\((0+(i:Int))=D->C=y/\z<0)) ?_ ?_
   ·have e0:∀{q:Addr} {ys:List V},O q=some (.tup ys)->H5 q=some (.tup ys):=λ{q ys} e=>s5 _ _ e;refine i0j _ rfl rfl _ rfl (A8z (λB=> ?_) (λa0=> ?_))
    ·refine i0s _ rfl _ _ rfl rfl ⟨by decide,by decide⟩ (i0s _ rfl _ _ rfl rfl (by show (0:Int)<n;lia) (i0u _ gv l rfl ?_ ?_ a5 (i0h KB.refl a7 (Paired.mapP pg (by rintro v e ⟨q,e1,Y⟩;exact i02 q e1 (e0 Y))) (by lia) a9 (i0h a6 a2 (λe b=>egt▸b) (.inl (i00 (V.str.inj B) ?_ ?_)) (λh=>absurd ((b8 h).1.symm.trans (V.str.inj B)) d2) λh=>absurd ((c4 h).1.symm.trans (V.str.inj B)) d2))))
     ·have:=Z1v (M/63) (show n≠0 by lia)
      lia
     ·have:=Z1p (M/63) (show 0<n by lia)
      lia
     ·exact Z1v (M/63) (show n≠0 by lia)
     ·rw [e8];exact Z1p (M/63) (show 0<n by lia)
    ·have a0:¬C="":=λe=>a0 (by rw [e]);rcases c6 with e | ⟨_,nx,m,vm,m1,g8⟩
     ·exact absurd e a0
     have i3:=Paired.length pg;refine i06 _ rfl (.inl (i01 rfl _ (SqL.of a7))) (i0w _ rfl _ rfl _ _ rfl rfl (i0w _ rfl _ rfl _ _ rfl rfl ⟨A0v rfl,λtp N=> ?_⟩));have p:=A0e (o:= .tup [.str C,.int (0-L),.int (n-L)]) N;have eT:upd H5 tp (.tup [.str C,.int (0-L),.int (n-L)]) tp=some (.tup [.str C,.int (0-L),.int (n-L)]):=A0b;generalize upd H5 tp (.tup [.str C,.int (0-L),.int (n-L)])=H7 at p eT;have g7:=p _ _ a7;refine i0u I _ _ rfl rfl g7 (A1l (by lia)) (i0u L (gv++[.ref tp]) (l++[(C,0-L,n-L)]) rfl g4 (by lia) (A0o (a5.trans p) h4) (i0h ((KB.of p).trans KB.refl.upd) A0b ?_ (by rw [Z06];simp only [Z0y,Z2g];lia) (λe b=> ?_) (i0h (λy X=> ?_) (A6d a2 (d6.resolve_left a0)) (λe b=>Z07.mpr (.inl (egt▸b))) (.inr ⟨d6.resolve_left a0,by rw [e8];simp⟩) (λh=>by rw [(b8 h).1,(b8 h).2]) c4)))
     ·exact B2i (Paired.mapP pg (by rintro v e ⟨q,e1,Y⟩;exact i02 q e1 (by rw [A0i (A3m (p _ _ (e0 Y)) g7 (by intro h;cases h))];exact p _ _ (e0 Y)))) (.cons (i02 tp rfl (by rw [A0i (A3m eT g7 (by intro h;cases h))];exact eT)) .nil)
     ·rcases Z07.mp b with b | b
      ·exact a9 e b
      ·rw [Z0w.mp b];exact i00 nx (B4w (by show _<=0-L;lia) (by show 0-L<=_;lia)) (B4w (by show _<=n-L;lia) (by show n-L<=_;lia))
     ·rw [Z0s] at X;rcases Z07.mp X with X | X
      ·exact a6 y X
      ·rw [Z0w.mp X];exact i06 m vm m1 g8
   rintro Z U zz;refine e09 zz ?_;clear zz;rintro z3 e9 g1 rfl i4 h7 ⟨s6,c3,f4,g3,d3,d0,c7,c8,e4,g9,f1,f0⟩;subst egt;have d7:aa[i]? =some y:=by simpa using X
   have f5:=s5 _ _ c2;have e5:=c3 _ _ ig f5;have h8:=Paired.length pi;refine i06 _ rfl (.inl (i01 rfl _ (SqL.of e5))) (i0k _ rfl _ rfl (A0v rfl) λtp N=> ?_);have p:=A0e (o:= .tup [.str C,.int z3]) N;have eT:upd U tp (.tup [.str C,.int z3]) tp=some (.tup [.str C,.int z3]):=A0b;generalize upd U tp (.tup [.str C,.int z3])=H7 at p eT;have d5:=p _ _ e5;refine i0u u _ _ rfl rfl d5 (A1l (by lia)) ?_;have s7:=s6.trans p;have Stp:S tp:=(fr.same s6) tp N;refine i0s _ rfl _ _ rfl rfl ⟨by decide,by decide⟩ ?_;have J:∀{q:Addr} {ys:List V},H7 q=some (.tup ys)->upd H7 u (.lst (iv++[.ref tp])) q=some (.tup ys):=λ{q ys} e=>by rw [A0i (A3m e d5 (by intro h;cases h))];exact e
   have h1:∀{q:Addr} {ys:List V},O q=some (.tup ys)->H7 q=some (.tup ys):=λ{q ys} e=>p _ _ (c3 _ _ (A3m (s5 _ _ e) a7 (by intro h;cases h)) (s5 _ _ e));refine i08 _ _ _ (i1d _ _ (iv++[.ref tp]) e9 (R++[(C,z3)]) g1 rfl (A0o s7 c1) A0b (by rw [A0i ig.symm];exact p _ _ f4) (B2i (Paired.mapP pi (by rintro v e ⟨q,e1,Y,e3⟩;exact i06 q e1 Y (J (h1 e3)))) (.cons (i06 tp rfl Stp (J eT)) .nil)) (Paired.mapP g3 (by rintro v e ⟨q,e1,Y⟩;exact i02 q e1 (J (p _ _ Y)))) (by rw [Z06,b0];rfl) ⟨d3,(i0h (λe b=> ?_) d0 c7 c8 ?_ λk y' e b4 b=> ?_)⟩)
   ·rcases Z07.mp b with b | b
    ·exact b3 e b
    ·rw [Z0w.mp b];exact ⟨c6.nm,B4w (by lia) (by lia)⟩
   ·rw [Z14,d7];exact B2i (Paired.mapP W λy e h=>h.imp id λh=>⟨h.1,e4 _ h.2⟩) (.cons g9 .nil)
   ·by_cases hk:k<R.length
    ·rw [Z26 hk] at b;exact a4 k y' e b4 b
    ·have f9:k=i:=by have:=(Z03.mp b).1;simp at this;lia
     subst f9;rw [d7] at b4;cases b4;rw [<-b0,Z1l (Z09 _)] at b;simp at b;subst b;exact ⟨λh=>f1 (by lia),λh=>f0 (by lia)⟩
  ·rintro Z O zz;refine e0e zz ?_;clear zz;rintro M o8 o9 b5 b6 iv gv R ⟨l,rfl,s3,c2,c0,pi,pg,b0,c9,b3,a9,a6,a2,W,a4⟩;rw [Z08] at b0 c9 W;rw [Z18] at W;refine i13 _ rfl q _ _ _ rfl rfl (SqT.of (s3 _ _ hq)) rfl (i06 _ rfl (A0v rfl) λtp N=> ?_);have p:=A0e (o:= .tup [.str "read",.str an,.ref u]) N;have eT:upd O tp (.tup [.str "read",.str an,.ref u]) tp=some (.tup [.str "read",.str an,.ref u]):=A0b;generalize upd O tp (.tup [.str "read",.str an,.ref u])=H4 at p eT;have s4:=s3.trans p;have f3:=fr.same s3;have h2:Rep (A0s S H4) (.ref u) (A5c R):= .lst (A0h Sil (p _ _ c2)) (B5x (Paired.mapP pi (by rintro v e ⟨q,e1,Y,e3⟩;exact i02 q e1 (A0h Y (p _ _ e3)))));refine i0e _ rfl _ rfl (i0l _ rfl (.ref tp) I d (i1d M gv l (.read an R) lk S rfl (fr.same s4) (D6u (A0h (f3 tp N) eT) h2) (i00 e6.1 (by lia) b3) e6.2 (p _ _ c0) (Paired.mapP pg (by rintro v e ⟨q,e1,Y⟩;exact i02 q e1 (p _ _ Y))) (i04 a9 (s4 _ _ hd) a6 λv' u' H5 s5 rp wu tu du gp=>k v' u' H5 (s4.trans s5) rp wu tu ?_ ?_)))
   ·have:dep (.read an R)=1:=rfl
    lia
   ·intro g5 ok nm f2
    have tr:A6o nm c (.read an R):=λe b=>by
     obtain ⟨j,hj,ej⟩:=List.mem_iff_getElem.mp b;obtain ⟨y,_,h⟩:=A6y W (Z0b hj);rw [ej] at h;exact h.imp (·.1) (·.1)
    refine ⟨gp.ti nm c a2 tr,λρ hr=>gp.sf g5 ok ρ (λe b=>hr.2 _ (a2 e b)) λhg=>f2 ρ hr _ (C7z hr.1 hg W) λhn=> ?_⟩;rcases b7 with ⟨e,_⟩ | ⟨_,b1,b2,_⟩
    ·exact absurd e hn
    ·obtain ⟨n,rfl⟩:=Int.eq_ofNat_of_zero_le b1;exact B5p (n:=n) (by lia) (by lia) λk y e X b=>⟨λh=>(a4 k y e X b).1 (by lia),λh=>(a4 k y e X b).2 (by lia)⟩
def D5y (H:Hp) (lk:List (Key×V)) (a:Addr) (es:List (Str×List Str)):Prop:=∃b,H a=some (.lst b)/\Paired (D1a H lk) b es/\es.length<=100
def D7t (H:Hp) (lk:List (Key×V)) (v:V) (own:Option (Str×List Str)):Prop:=(v= .non/\own=none)\/∃e,D1a H lk v e/\own=some e
theorem D7t.same (h:D7t H lk v own) (s:A0u H H'):D7t H' lk v own:=by
 rcases h with h | ⟨e,h,a⟩
 ·exact .inl h
 ·exact .inr (i02 e (h.same s) a)
def okA (L:Str->Int) (es:List (Str×List Str)):OkP:=λ_ a c=>∃e∈es,e.1=a/\inC L e.2 c
def okO (L:Str->Int) (es:List (Str×List Str)) (own:Option (Str×List Str)):OkP:=λρ a c=>okA L es ρ a c\/∃e,own=some e/\a=e.1/\inC L e.2 c/\A6u c (e.2.map ρ)
def LfZ (lk:List (Key×V)) (es:List (Str×List Str)) (own:Option (Str×List Str)) (nm a:List Str) (u:Tm):Prop:=SfT (lnL lk) (okA (lnL lk) es) (okO (lnL lk) es own) nm a u
def OwS (own:Option (Str×List Str)) (a:List Str):Prop:=∀e,own=some e->∀x∈e.2,x∈a
def B9s:Sp:=λj H Q _=>∃(r:Int) (h f d:Addr) (g:V) (a:Option (Str×List Str)) (e:List (Str×List Str)) (b:List Str) (c:List (Key×V)) (S:Addr->Prop),j=[.int r,.ref h,.ref f,.ref d,g]/\D5y H c h e/\D0z H c f b/\H d=some (.dK c)/\D7t H c g a/\OwS a b/\Fr S H/\D5x S c 4 (λu=>∀i,LfZ c e a i b u) H Q
theorem C7p {c:TT} (b:Q false H) (f:∀a:Bool->Hp->Prop,a d1 H->t1 Z H a) (e:∀a:Bool->Hp->Prop,a d2 H->t2 Z H a) (d:Q false H->d1=true->d2=true->c Z H Q):D4s t1 (D4s t2 c) Z H Q:=by
 refine f _ ?_
 cases d1 with
 | false=>exact A2m b
 | true =>
  refine A5r (e _ ?_)
  cases d2 with
  | false=>exact A2m b
  | true=>exact A5r (d b rfl rfl)
theorem B9t (T:Txt K mg t):FO P w base T.ir 4 B9s:=by
 have Gc8:= @A6i P w K mg base t T;have Gd0:= @B8u P w K mg base t T;refine T.ir.F.ok A8c (by walk_at "ln") λ_ A _ s H _ Q E I h=> ?_
 ·refine e0e h ?_;clear h;rintro r U C d ow a6 es a ⟨lk,S,rfl,a2,n,hd,a1,a0,M,k⟩;obtain ⟨g,p,J,a4⟩:=id a2;obtain ⟨j,a7,Z,a8⟩:=id n;have a5:=Paired.length J;refine i02 _ (@RS.r _ _ _ (rq1 (rq6 5 A8c.nd (A0j A1j (pv 0) A0d)) (rq1 (rq6 0 A8c.nd (A0j A1o (pv 0) A0d)) (rq1 (rq4 (PW.pt (A3x (A0p A8u (pv 5) A0d (A1b _)) (A3x (A0p C6z (pv 4) B8i (A1b _)) (A4f (A0p A8u (A0q A0y (by rfl) T.ce Z0r (A0a (A1f A1h (pv 4) A0d (λ_ _=>rfl)) A0c)) A0d (A1b _)))))) (rq3 (rq5 (pcl Gd0 I T.ij (A0a (pv 0) (A0a (pv 4) (A0a (pv 2) (A0a (pv 3) (A0a (A1f A1h (pv 4) A0d (λ_ _=>rfl)) A0c)))))))) ⟨A0x⟩) (rq1 (rq4 (PW.pt (A3x (A0p A3d (pv 5) A0d (A1b _)) (A4f (A0p A8u (A0q A0y (by rfl) T.ce Z0r (A0a (pv 2) A0c)) A0d (A1b _))))) (rq3 (rq5 (A1z (A0a A1w (A0a (A1f A1n (pv 2) (A0j A1j (pv 0) (A0q A0y (by rfl) T.ce Z0r (A0a (pv 2) A0c))) (λ_ _=>rfl)) A0c))))) ⟨A0x⟩) (rq1 (rq4 (PW.pt (B6w (A0p A3d (pv 5) A0d (A1b _)) (B6w (A0p A3d (A0q A0y (by rfl) T.ce Z0r (A0a (pv 1) A0c)) A0d (A1b _)) (B5l (PW.pt (A3x (A0p A3d (A0q A0y (by rfl) T.ce Z0r (A0a (pv 2) A0c)) A0d (A1b _)) (A4f (A0p B9a (pv 5) A0d (A1b _))))))))) (rq3 (rq5 (A1z (A0a A1w (A0a (pcl Gc8 I T.dh (A0a (pv 0) A0c)) A0c))))) ⟨A0x⟩) (rq3 (rq5 (pcl Gd0 I T.ij (A0a (A0j A1o (pv 0) A0d) (A0a (A1f A1n (pv 1) (A0j A1j (pv 0) (A0q A0y (by rfl) T.ce Z0r (A0a (pv 1) A0c))) (λ_ _=>rfl)) (A0a (pv 2) (A0a (pv 3) (A0a B8i A0c)))))))))))))) ?_;refine i0s _ rfl _ _ rfl rfl E2l (i0s _ rfl _ _ rfl rfl ⟨by decide,by decide⟩ ?_);have w0:0<=r%8/\r%8<8:=by lia
  dsimp only [A7u,D3p,D5d];refine C7p (d1:=decide (4<r%8)) (d2:= ! decide (ow= .non)) ?_ (λm q=>(i02 _ rfl (i0q _ _ rfl rfl _ rfl q))) (λm q=>(i0j _ rfl rfl _ rfl q)) (λhF _ hn=> ?_)
  ·refine A2m ?_;dsimp only [C7r,D3p,D5d];refine B4l (d1:=decide (r%8=1)) (d2:=decide (0<a.length)) (λm q=>(i0j _ rfl rfl _ rfl (by rw [show decide (V.int (r%8)=V.int 1)=decide (r%8=1) from decide_eq_decide.mpr ⟨λh=>V.int.inj h,λh=>by rw [h]⟩];exact q))) (λm q=>(i0o _ rfl C _ rfl (.inl (SqL.of j)) (i0q _ _ rfl rfl _ rfl (by rw [show decide ((0:Int)<((a.map V.str).length:Int))=decide (0<a.length) from decide_eq_decide.mpr (by rw [Z08];lia)];exact q)))) ?_
   cases hp:(decide (r%8=1)&&decide (0<a.length)) with
   | true =>
    have a3:0<a.length:=by simp at hp;lia
    have p2:(0:Int)<((a.map V.str).length:Int):=by rw [Z08];lia
    obtain ⟨x,hx,ex⟩:=A6t (f:=V.str) (xs:=a) (i:=r/8%((a.map V.str).length:Int)) (Z1v _ (by lia)) (by have:=Z1p (r/8) p2;rw [Z08] at this⊢;exact this);refine A5r (i12 _ rfl _ rfl _ rfl C _ rfl (.inl (SqL.of j)) (i0m _ _ rfl rfl p2 (i10 C _ _ _ rfl rfl (SqL.of j) ex (A0v rfl) λN b=> ?_)));exact k _ (.place x) _ (A0e b) (D1i (A0h (M N b) A0b)) (Z x (Z13 hx)).1 True.intro (by show 1<=4;lia) λL=>⟨Z13 hx,λ_ _=>True.intro⟩
   | false =>
    refine A2m ?_;have de:∀c:Int,decide (V.int (r%8)=V.int c)=decide (r%8=c):=λc=>decide_eq_decide.mpr ⟨λh=>V.int.inj h,λh=>by rw [h]⟩;have dl:∀{α:Type} (xs:List α),decide (V.int (xs.length:Int)=V.int 0)=decide (xs.length=0):=λxs=>decide_eq_decide.mpr ⟨λh=>by have:=V.int.inj h;lia,λh=>by rw [h];rfl⟩;refine E3i (d1:=decide (r%8=0)) (d2:=decide (g.length=0)) (d3:=decide ((a.map V.str).length=0)&&decide (r%8<3)) (λm q=>(i0j _ rfl rfl _ rfl (by rw [de];exact q))) (λm q=>(i0o _ rfl U _ rfl (.inl (SqL.of p)) (i05 rfl _ rfl (by rw [dl];exact q)))) (λm q=>B4l (d1:=decide ((a.map V.str).length=0)) (d2:=decide (r%8<3)) (λm q=>(i0o _ rfl C _ rfl (.inl (SqL.of j)) (i05 rfl _ rfl (by rw [dl];exact q)))) (λm q=>(i02 _ rfl (i0q _ _ rfl rfl _ rfl q))) q) ?_
    cases ho:(decide (r%8=0)||(decide (g.length=0)||(decide ((a.map V.str).length=0)&&decide (r%8<3)))) with
    | true =>
     refine A5r (i0e _ rfl _ rfl λz hz=>⟨A0v rfl,λN b=> ?_⟩);exact k _ (.num z) _ (A0e b) (C6x (A0h (M N b) A0b)) hz True.intro (by show 1<=4;lia) λL=>⟨True.intro,λ_ _=>True.intro⟩
    | false =>
     simp only [Bool.or_eq_false_iff,Bool.and_eq_false_iff,decide_eq_false_iff_not,Z08] at ho;obtain ⟨h0,h1,h2⟩:=ho;refine A2m ?_
     ·have p1:(0:Int)<(g.length:Int):=by lia
      obtain ⟨v,hv,ev⟩:=C4c (xs:=g) (i:=r/8%(g.length:Int)) (Z1v _ (by lia)) (Z1p _ p1);obtain ⟨e,he,q,G,rfl,D,l,B,o,y,u⟩:=B3z J hv;exact i0s _ rfl _ _ rfl rfl ⟨by decide,by decide⟩ (i12 _ rfl _ rfl _ rfl U _ rfl (.inl (SqL.of p)) (i0m _ _ rfl rfl p1 (i0y U _ _ _ rfl rfl (SqL.of p) ev (i0e _ rfl _ rfl (i11 _ q G C d e.1 e.2 a .non (i0t lk S rfl D l B o ⟨y,(i0h u n hd (.inl rfl) M λY u' O s X wu tu W rd=>k Y u' O s X wu tu W λL=>rd _ _ L λρ I c R _=> .inl (i06 e (Z13 he) rfl R))⟩))))))
  ·rcases a1 with ⟨rfl,_⟩ | ⟨e,⟨q,G,rfl,D,l,B,o,y,u⟩,rfl⟩
   ·cases hn
   refine i0z _ rfl q _ _ _ rfl rfl (SqT.of D) (i0i rfl G _ rfl (.inl (SqL.of l)) (i0q _ _ rfl rfl _ rfl ?_));by_cases hl:(0:Int)<((e.2.map V.str).length:Int)
   ·rw [Z20 hl];rw [Z08] at hl;exact A5r (i02 _ rfl (i0e _ rfl _ rfl (i17 _ rfl _ rfl q _ _ _ rfl rfl (SqT.of D) rfl (i11 _ q G C d e.1 e.2 a (.ref G) (i0t lk S rfl D l B o ⟨y,(i0h u n hd (.inr (i00 rfl (by lia) (a0 e rfl))) M λY u' O s X wu tu W rd=>k Y u' O s X wu tu W λL=>rd _ _ L λρ I c R ha=> .inr (i0c e rfl rfl R (ha (by intro h;cases h))))⟩)))))
   ·rw [Z1j hl];exact hF
def tg:Tm->Str
 | .num _=>"number"
 | .place _=>"place"
 | .read _ _=>"read"
 | .sum _ _=>"sum"
 | .pair k _ _=>opS k
 | .guard _ _ _ _ _=>"guard"
theorem B6m (h:Rep H v (A1s u)):∃q vs,v= .ref q/\H q=some (.tup (.str (tg u)::vs)):=by
 cases u <;> (unfold A1s at h;cases h with | @tup p xs _ e r=>cases r with | cons a r=>cases a;exact i07 p _ rfl e)
theorem B3d {l r:Tm} (h:Rep H v (A1s (.guard x lo hi l r))):∃q a b,v= .ref q/\H q=some (.tup [.str "guard",.str x,.int lo,.int hi,a,b])/\Rep H a (A1s l)/\Rep H b (A1s r):=by
 unfold A1s at h
 cases h with
 | @tup p xs _ e r =>
  cases r with
  | cons a r =>
   cases a
   cases r with
   | cons a r =>
    cases a
    cases r with
    | cons a r =>
     cases a
     cases r with
     | cons a r =>
      cases a
      cases r with
      | cons r1 r =>
       cases r with
       | cons r2 r =>
        cases r
        exact i0r p _ _ rfl e r1 r2
theorem D4d (k:Op3):¬opS k="guard"/\¬opS k="number":=by cases k <;> exact ⟨by decide +kernel,by decide +kernel⟩
theorem D0s (h:tg u="guard"):∃x lo hi l r,u= .guard x lo hi l r:=by
 cases u with
 | guard x lo hi l r=>exact i03 x lo (i08 hi l r rfl)
 | num _=>exact absurd h (show¬("number":Str)="guard" by decide +kernel)
 | place _=>exact absurd h (show¬("place":Str)="guard" by decide +kernel)
 | read _ _=>exact absurd h (show¬("read":Str)="guard" by decide +kernel)
 | sum _ _=>exact absurd h (show¬("sum":Str)="guard" by decide +kernel)
 | pair k _ _=>exact absurd h (D4d k).1
theorem D6g (h:tg u="number"):∃z,u= .num z:=by
 cases u with
 | num z=>exact ⟨z,rfl⟩
 | guard _ _ _ _ _=>exact absurd h (show¬("guard":Str)="number" by decide +kernel)
 | place _=>exact absurd h (show¬("place":Str)="number" by decide +kernel)
 | read _ _=>exact absurd h (show¬("read":Str)="number" by decide +kernel)
 | sum _ _=>exact absurd h (show¬("sum":Str)="number" by decide +kernel)
 | pair k _ _=>exact absurd h (D4d k).2
def KpR (S:Addr->Prop) (lk:List (Key×V)) (H:Hp) (v:V) (e:G3):Prop:=∃(q:Addr) (z:Int) (a b:V),v= .ref q/\H q=some (.tup [.str "guard",.str e.1,.int e.2.1,.int e.2.2,a,b])/\Rep (A0s S H) b (A1s (.num z))/\Sm z/\B4q e.1/\Sm e.2.1/\Sm e.2.2/\B0c lk [e.1]
theorem KpR.same {e:G3} (h:KpR S lk H v e) (s:A0u H H'):KpR S lk H' v e:=by
 obtain ⟨q,z,a,b,rfl,e,r,m⟩:=h;exact ⟨q,(i0r z a b rfl (s _ _ e) (r.same (A0g s)) m)⟩
theorem GdP.perm {gs b:List G3} {v:Tm} (h:GdP lk gs u v) (d:∀e,e∈gs↔e∈b):GdP lk b u v:=⟨λj i f=>h.ti j i λe a=>f e ((d e).mp a),λc l ρ g k=>h.sf c l ρ (λe a=>g e ((d e).mp a)) λf=>k λe a=>f e ((d e).mpr a)⟩
theorem GdP.out {gs:List G3} {v:Tm} {e:G3} {z:Int} (h:GdP lk gs u v) (i:∀y:Int,0<=y->y<lnL lk e.1->¬(lo<=y/\y<hi)->e.2.1<=y/\y<e.2.2):GdP lk (gs++[e]) u (.guard e.1 lo hi (.num z) v):=by
 refine ⟨λl k a m=>(i00 (a e (by simp)) True.intro (h.ti l k (λf c=>a f (by simp [c])) m)),λb j ρ d n=>⟨λ_=>True.intro,λg=> ?_⟩⟩;have:=d e (by simp);exact h.sf b j ρ (λf c=>d f (by simp [c])) λa=>n (A6d a (i _ this.1 this.2 g))
theorem B7q {α:Type} {xs:List α} {y:α}:∀e,e∈xs++[y]↔e∈y::xs:=λe=>by
 constructor
 ·intro h;rcases Z07.mp h with h | h
  ·exact .tail _ h
  ·rw [Z0w.mp h];exact .head _
 ·intro h;rcases Z0e.mp h with h | h
  ·rw [h];exact Z07.mpr (.inr (.head _))
  ·exact Z07.mpr (.inl h)
structure KpI (L:Str->Int) (x:Str) (u:Tm) (kd:List G3) (b:Tm):Prop where
 ti:∀nm sc,A6o nm sc u->A6o nm sc b/\∀e∈kd,e.1∈sc
 sf:∀(okn ok:OkP) (ρ:Env),A1y L okn ok ρ u->(∀e∈kd,e.2.1<=ρ e.1/\ρ e.1<e.2.2)->A1y L okn ok ρ b
 ne:∀e∈kd,¬e.1=x
theorem KpI.nil:KpI L x u [] u:=⟨λ_ _ h=>⟨h,λe a=>by cases a⟩,λ_ _ _ h _=>h,λe a=>by cases a⟩
theorem KpI.put {l r:Tm} (h:KpI L x u kd (.guard y lo hi l r)) (i:¬y=x):KpI L x u (kd++[(y,lo,hi)]) l:=by
 refine ⟨λg d j=> ?_,λa n ρ m c=> ?_,A6d h.ne i⟩
 ·obtain ⟨b,k⟩:=h.ti g d j;exact ⟨b.2.1,A6d k b.1⟩
 ·exact (h.sf a n ρ m λe f=>c e (by simp [f])).1 (c (y,lo,hi) (by simp))
def SmZ (lk:List (Key×V)) (x:Str) (u v:Tm):Prop:=∀(a d:OkP) (c b:List Str),x∈c->x∉b->A6o c (b++[x]) u->(∀ρ,InR (lnL lk) (b++[x]) ρ->A1y (lnL lk) a a ρ u)->SfT (lnL lk) a d c b v
theorem smZ {v:Tm} (C:¬x=("":Str)) (h:KpI (lnL lk) x u kd b) (g:GdP lk kd (.sum x b) v):SmZ lk x u v:=by
 intro c w n m r o B F;obtain ⟨D,A⟩:=h.ti n _ B
 have l:∀e∈kd,e.1∈m:=λe d=>by
  rcases Z07.mp (A e d) with z | z
  ·exact z
  ·exact absurd (Z0w.mp z) (h.ne e d)
 refine ⟨g.ti n m l (i00 r o D),λρ j=>g.sf c w ρ (λe d=>j.2 _ (l e d)) λt i s p=> ?_⟩;have a:∀y,¬y=x->B2m ρ x i y=ρ y:=λy k=>Z0t k;have f:B2m ρ x i x=i:=Z12 rfl;refine h.sf c c _ (F _ ⟨by rw [a _ (λz=>C z.symm)];exact j.1,λy k=> ?_⟩) λe d=> ?_
 ·rcases Z07.mp k with z | z
  ·rw [a y (λq=>o (q▸z))];exact j.2 y z
  ·rw [Z0w.mp z,f];exact ⟨s,p⟩
 ·rw [a e.1 (h.ne e d)];exact t e d
def C1n:Sp:=λb H Q _=>∃(x:Str) (v:V) (r:Int) (d:Addr) (u:Tm) (a:List (Key×V)) (S:Addr->Prop) (n:Nat),b=[.str x,v,.int r,.ref d]/\B4q x/\¬x=("":Str)/\B0c a [x]/\H d=some (.dK a)/\Fr S H/\Rep (A0s S H) v (A1s u)/\TmW u/\TmL a u/\dep u<=n/\n<=1000/\D5x S a (n+1) (SmZ a x u) H Q
theorem E3m {b:TT} {d3:Bool} (e:∀a:Bool->Hp->Prop,a d1 H->t1 Z H a) (d:∀a:Bool->Hp->Prop,a d2 H->t2 Z H a) (c:∀a:Bool->Hp->Prop,a d3 H->b Z H a) (h:Q (d1&&(d2&&d3)) H):D4s t1 (D4s t2 b) Z H Q:=B4l e (λa q=>B4l (d1:=d2) (d2:=d3) d c q) h
theorem C1s (T:Txt K mg t):FO P w base T.jc 1 C1n:=by
 refine T.jc.F.ok A3s (by walk_at "ln") λ_ A _ s H _ Q E hr h=> ?_
 ·refine e0e h ?_;clear h;rintro x v r d u N S n ⟨rfl,nx,xn,dx,hd,fr,rp,wu,tu,du,b1,k⟩;have hu:=A8b hr;refine i02 _ (@RS.r _ _ _ (rq1 (rq6 4 A3s.nd (@A1r _ _ _ _ A0c)) (rq1 ⟨@B0a _ _ _ _ _ _ PassesOwn.never (PW.pt (A3x (A0p A8u (A0j A1j (pv 2) A0d) A0d (A1b _)) (A3x (A0p A3d (A1f A1h (pv 1) A0d (λ_ _=>rfl)) A1w (A1b _)) (A3x (A0p D6h (A1f A1h (pv 1) A0d (λ_ _=>rfl)) (pv 0) (A1b _)) (A4f (A0p A3d (A1f A1h (A1f A1h (pv 1) A0d (λ_ _=>rfl)) A0d (λ_ _=>rfl)) A1w (A1b _))))))) (@A1t _ _ _ _ _ (A2r (A7c Z0k Z0n Z0o A2e (pv 4) (A0a (pv 1) A0c))) (@A2z _ _ _ (@A3e _ _ 1 _ _ _ _ A3s.nd rfl (.inl rfl) (A1f A1h (pv 1) A0d (λ_ _=>rfl)) rfl (.inl rfl))))⟩ (rq1 (rq6 5 A3s.nd (A1z (A0a A1w (A0a (pv 0) (A0a (pv 1) A0c))))) (rq1 (rq7 (C8z rfl T.pq (A0a (pv 4) A0c)) (A0k (i:=6) A3s.nd rfl (.inl rfl)) (rq3 (rq4 (PW.pt (A3x (A0p A3d (A0j A1j (pv 2) A0d) A0d (A1b _)) (A3x (A0p A8u (A1f A1h (pv 6) A0d (λ_ _=>rfl)) A0d (A1b _)) (A4f (A0p E4d (A1f A1h (pv 6) A0d (λ_ _=>rfl)) (A2u hu (pv 3) (A1f A1h (pv 6) A0d (λ_ _=>rfl)) (λ_ _=>rfl)) (A1b _)))))) (rq3 (rq6 5 A3s.nd (A1z (A0a A1w (A0a (A1f A1h (pv 6) A0d (λ_ _=>rfl)) (A0a A0d (A0a (A1f A1h (pv 6) A0d (λ_ _=>rfl)) (A0a (A1f A1h (pv 6) A0d (λ_ _=>rfl)) (A0a (pv 5) A0c))))))))) (rq3 (rq4 (PW.pt (A3x (A0p A3d (A0j A1j (pv 2) A0d) A0d (A1b _)) (A4f (A0p D5g (A1f A1h (pv 6) A0d (λ_ _=>rfl)) A0d (A1b _))))) (rq3 (rq6 5 A3s.nd (A1z (A0a A1w (A0a (A1f A1h (pv 6) A0d (λ_ _=>rfl)) (A0a (A1f A1h (pv 6) A0d (λ_ _=>rfl)) (A0a (A2u hu (pv 3) (A1f A1h (pv 6) A0d (λ_ _=>rfl)) (λ_ _=>rfl)) (A0a (A1f A1h (pv 6) A0d (λ_ _=>rfl)) (A0a (pv 5) A0c))))))))) (rq3 (rq6 5 A3s.nd (A1z (A0a A1w (A0a (A1f A1h (pv 6) A0d (λ_ _=>rfl)) (A0a (A1f A1h (pv 6) A0d (λ_ _=>rfl)) (A0a (A1f A1h (pv 6) A0d (λ_ _=>rfl)) (A0a (pv 5) (A0a (A1f A1h (pv 6) A0d (λ_ _=>rfl)) A0c)))))))))))))) (rq3 (rq5 (pv 5)))))))) ?_;refine ⟨A0v rfl,λU a7=> ?_⟩;have s1:A0u H (upd H U (.lst [])):=A0e a7;refine i02 (λm Z H2=>∃(v':V) (f:Tm) (D:List V) (L:List G3),Z=[Sso x,some v',Sio r,Sro d,Sro U,none,none]/\A0u H H2/\H2 U=some (.lst D)/\Paired (KpR S N H) D L/\Rep (A0s S H) v' (A1s f)/\TmW f/\TmL N f/\D.length+dep f<=n/\m=dep f/\KpI (lnL N) x u L f) (i14 (dep u) v u [] [] rfl s1 A0b .nil rp (i09 wu tu (by show 0+dep u<=n;lia) rfl .nil)) ?_;rintro m Z H2 ⟨v',f,D,L,rfl,s2,h2,kp,a2,R,a4,a3,rfl,ki⟩;have b4:=Paired.length kp;obtain ⟨q,vs,rfl,eq⟩:=B6m a2;have eq:=A0m _ _ eq;have dp:=A6n f;have dt:∀(a b:Str),decide (V.str a=V.str b)=decide (a=b):=λa b=>decide_eq_decide.mpr ⟨λh=>V.str.inj h,λh=>by rw [h]⟩;refine C7p (d1:=decide (0<r%4)) (d2:=decide (tg f="guard")) ?_ (λQ' q=>(i0s _ rfl _ _ rfl rfl E2e (i0q _ _ rfl rfl _ rfl q))) (λQ' J=>(i1c _ rfl q _ _ _ rfl rfl (SqT.of (s2 _ _ eq)) (A3j (j:=0) rfl) rfl _ rfl (by rw [dt];exact J))) (λhF _ b2=> ?_)
  ·refine A2m ?_;refine i0k _ rfl _ rfl (A0v rfl) λtp a9=> ?_;have sT:=A0e (o:= .tup [.str "sum",.str x,.ref q]) a9;have eT:upd H2 tp (.tup [.str "sum",.str x,.ref q]) tp=some (.tup [.str "sum",.str x,.ref q]):=A0b;generalize upd H2 tp (.tup [.str "sum",.str x,.ref q])=H3 at sT eT;have s3:=s2.trans sT;have h3:=sT _ _ h2;have f2:=fr.same s2;refine i0o _ rfl U _ rfl (SqL.of h3) ?_;refine C1x (K:=K) (a:=U) (xs:=D) (λi Z G=>∃(v3:V) (u3:Tm) (o6:Option V),Z=[Sso x,Sro q,Sio r,Sro d,Sro U,some v3,o6]/\A0u H G/\G U=some (.lst D)/\Rep (A0s S G) v3 (A1s u3)/\TmW u3/\TmL N u3/\dep u3<=dep f+1+i/\GdP N (L.drop (L.length-i)) (.sum x f) u3) (i0n (.ref tp) (.sum x f) none rfl s3 (i0h h3 (D4o (A0h (f2 tp a9) eT) (a2.same (A0g s3))) ⟨nx,R⟩ ⟨dx,a4⟩ (by simp only [dep];lia) (by rw [Nat.sub_zero,Z2i];exact .nil))) (by rintro i Z G ⟨_,_,_,_,_,hG,_⟩;exact SqL.of hG) ?_ ?_
   ·rintro i y Z G hi hy ⟨v3,u3,o6,rfl,sG,hG,Y,W,a0,a1,O⟩;obtain ⟨e,he,b3⟩:=B3z kp hy;obtain ⟨I,z,a,b,rfl,ek,rb,hz,nk,b0,a6,dk⟩:=b3.same sG;have a8:=(Z03.mp he).1
    have ed:L.drop (L.length-(i+1))=e::L.drop (L.length-i):=by
     have e1:L.length-(i+1)=D.length-1-i:=by lia
     have e2:L.length-i=D.length-1-i+1:=by lia
     rw [e1,e2,Z1u a8];rw [Z0b a8] at he;rw [Z1a he]
    rw [ed];obtain ⟨xk,M,g⟩:=e;obtain ⟨nn,vn,n1,b5⟩:=dk xk (by simp);have dg:=A9e.k (H:=G) (a:=d) (k:=Sum.inr xk) (sG _ _ hd);rw [vn] at dg;have b6:lnL N xk=nn:=A6v vn;have fG:=fr.same sG;have C:=SqT.of (K:=K) ek
    have mk:∀(B p:Int) (v1 v2:V) (l r':Tm) (G2:Hp) (c:Addr),Sm B->Sm p->Rep (A0s S G) v1 (A1s l)->Rep (A0s S G) v2 (A1s r')->TmW l->TmW r'->TmL N l->TmL N r'->dep l<=dep f+1+i->dep r'<=dep f+1+i->G c=none->G2=upd G c (.tup [.str "guard",.str xk,.int B,.int p,v1,v2])->A0u H G2/\G2 U=some (.lst D)/\Rep (A0s S G2) (.ref c) (A1s (.guard xk B p l r'))/\TmW (.guard xk B p l r')/\TmL N (.guard xk B p l r')/\dep (.guard xk B p l r')<=dep f+1+(i+1):=λB p v1 v2 l r' G2 c m1 m2 r1 r2 w1 w2 t1 t2 d1 d2 ht e=>by
     subst e;have sN:=A0e (o:= .tup [.str "guard",.str xk,.int B,.int p,v1,v2]) ht;exact i0h (sG.trans sN) (sN _ _ hG) (B6i (A0h (fG c ht) A0b) (r1.same (A0g sN)) (r2.same (A0g sN))) (i09 nk m1 m2 w1 w2) (i00 dk t1 t2) (by simp only [dep];lia)
    refine E3m (d1:=decide (V.int (r%4)=V.int 1)) (d2:=decide (0<M)) (d3:=decide (nn<=g)) (λQ' J=>(i0o _ rfl _ _ rfl rfl (i0a E2e rfl _ rfl J))) (λQ' J=>(i13 _ rfl I _ _ _ rfl rfl C rfl (i0q _ _ rfl rfl _ rfl J))) (λQ' J=>(i13 _ rfl I _ _ _ rfl rfl C rfl (i17 _ rfl _ rfl I _ _ _ rfl rfl C rfl (i0f d _ rfl dg (i0q _ _ rfl rfl _ rfl J))))) ?_;have dn:dep (.num z)<=dep f+1+i:=by show 1<=_;lia
    cases hb1:(decide (V.int (r%4)=V.int 1)&&(decide (0<M)&&decide (nn<=g))) with
    | true =>
     simp only [Z1x,decide_eq_true_eq] at hb1;refine A5r (i13 _ rfl I _ _ _ rfl rfl C rfl (i13 _ rfl I _ _ _ rfl rfl C rfl (i13 _ rfl I _ _ _ rfl rfl C rfl (i06 _ rfl (A0v rfl) λc X=> ?_))));obtain ⟨m1,m2,m3,m4,m5,m6⟩:=mk 0 M b v3 (.num z) u3 _ c sm0 b0 rb Y hz W True.intro a0 dn a1 X rfl;exact i0n _ _ _ rfl m1 (i0h m2 m3 m4 m5 m6 ((O.out (e:=(xk,M,g)) λy y0 y1 hn=>⟨by show M<=y;lia,by have:y<lnL N xk:=y1;show y<g;lia⟩).perm B7q))
    | false =>
     refine A2m ?_;refine B4l (d1:=decide (V.int (r%4)=V.int 1)) (d2:=decide (M<=0)) (λQ' J=>(i0o _ rfl _ _ rfl rfl (i0a E2e rfl _ rfl J))) (λQ' J=>(i13 _ rfl I _ _ _ rfl rfl C rfl (i0q _ _ rfl rfl _ rfl J))) ?_
     cases hb2:(decide (V.int (r%4)=V.int 1)&&decide (M<=0)) with
     | true =>
      simp only [Z1x,decide_eq_true_eq] at hb2;refine A5r (i13 _ rfl I _ _ _ rfl rfl C rfl (i13 _ rfl I _ _ _ rfl rfl C rfl (i17 _ rfl _ rfl I _ _ _ rfl rfl C rfl (i0f d _ rfl dg (i13 _ rfl I _ _ _ rfl rfl C rfl (i06 _ rfl (A0v rfl) λc X=> ?_))))));obtain ⟨m1,m2,m3,m4,m5,m6⟩:=mk g nn b v3 (.num z) u3 _ c a6 (B4w (by lia) (by lia)) rb Y hz W True.intro a0 dn a1 X rfl;exact i0n _ _ _ rfl m1 (i0h m2 m3 m4 m5 m6 ((O.out (e:=(xk,M,g)) λy y0 y1 hn=>⟨by have:=hb2.2;show M<=y;lia,by have:y<lnL N xk:=y1;show y<g;lia⟩).perm B7q))
     | false =>
      refine A2m (i13 _ rfl I _ _ _ rfl rfl C rfl (i13 _ rfl I _ _ _ rfl rfl C rfl (i13 _ rfl I _ _ _ rfl rfl C rfl (i1b _ rfl _ rfl I _ _ _ rfl rfl C rfl (A0v rfl) λc X=> ?_))));obtain ⟨m1,m2,m3,m4,m5,m6⟩:=mk M g v3 b u3 (.num z) _ c b0 a6 Y rb W hz a0 True.intro a1 dn X rfl;exact i0n _ _ _ rfl m1 (i0h m2 m3 m4 m5 m6 ((O.put (e:=(xk,M,g))).perm B7q))
   ·rintro Z G ⟨v3,u3,o6,rfl,sG,hG,Y,W,a0,a1,O⟩;rw [b4,Nat.sub_self,List.drop_zero] at O;exact i02 _ rfl (k v3 u3 G sG Y W a0 (by lia) (smZ xn ki O))
  ·obtain ⟨y,M,hi,l,rr,rfl⟩:=D0s (of_decide_eq_true b2);obtain ⟨q',a,b,e1,e2,ra,rb⟩:=B3d a2;cases e1;obtain ⟨qb,vb,rfl,eb⟩:=B6m rb;have a5:=A0m _ _ e2;have e2:=s2 _ _ a5;have eb:=s2 _ _ (A0m _ _ eb);refine B4l (d1:= ! decide (y=x)) (d2:=decide (tg rr="number")) (λQ' J=>(i13 _ rfl q _ _ _ rfl rfl (SqT.of e2) rfl (i0j _ rfl rfl _ rfl (by rw [dt];exact J)))) (λQ' J=>(i13 _ rfl q _ _ _ rfl rfl (SqT.of e2) rfl (i0y qb _ _ _ rfl rfl (SqT.of eb) (A3j (j:=0) rfl) (i05 rfl _ rfl (by rw [dt];exact J))))) ?_
   cases hc:(! decide (y=x)&&decide (tg rr="number")) with
   | false=>exact hF
   | true =>
    simp only [Z1x,decide_eq_true_eq] at hc;obtain ⟨z,rfl⟩:=D6g hc.2;have a3:D.length+dep (.guard y M hi l (.num z))<=n:=a3;simp only [dep] at a3;refine A5r (i02 (λZ' H'=>∃m',m'<dep (.guard y M hi l (.num z))/\∃(v':V) (f:Tm) (D:List V) (L:List G3),Z'=[some (.str x),some v',some (.int r),some (.ref d),some (.ref U),none,none]/\A0u H H'/\H' U=some (.lst D)/\Paired (KpR S N H) D L/\Rep (A0s S H) v' (A1s f)/\TmW f/\TmL N f/\D.length+dep f<=n/\m'=dep f/\KpI (lnL N) x u L f) (λZ' H' z=>z) ?_);refine i0j _ rfl (.inl (i01 rfl _ (SqL.of h2))) _ rfl (i0u U _ _ rfl rfl h2 (A1l (by lia)) ?_);have qo:q≠U:=A3m e2 h2 (by intro h;cases h);refine i13 _ rfl q _ _ _ rfl rfl (SqT.of (by rw [A0i qo];exact e2)) rfl ?_;refine i13 (dep l) (by simp only [dep];lia) a l (D++[.ref q]) (L++[(y,M,hi)]) rfl (A0o s2 a7) A0b (B2i kp (.cons (i0y q z a (.ref qb) rfl a5 rb R.2.2.2.2 (i04 R.1 R.2.1 R.2.2.1 a4.1)) .nil)) (i0h ra R.2.2.2.1 a4.2.1 (by rw [Z06];simp only [Z0y,Z2g];lia) rfl (ki.put (by have:=hc.1;simpa using this)))
theorem C8p (h:Rep H v (A1s (.sum x b))):∃q a,v= .ref q/\H q=some (.tup [.str "sum",.str x,a])/\Rep H a (A1s b):=by
 unfold A1s at h
 cases h with
 | @tup p xs _ e r =>
  cases r with
  | cons a r =>
   cases a
   cases r with
   | cons a r =>
    cases a
    cases r with
    | cons r1 r =>
     cases r
     exact i0f p _ rfl e r1
theorem C2q {k:Op3} {l r:Tm} (h:Rep H v (A1s (.pair k l r))):∃q a b,v= .ref q/\H q=some (.tup [.str (opS k),a,b])/\Rep H a (A1s l)/\Rep H b (A1s r):=by
 unfold A1s at h
 cases h with
 | @tup p xs _ e r =>
  cases r with
  | cons a r =>
   cases a
   cases r with
   | cons r1 r =>
    cases r with
    | cons r2 r =>
     cases r
     exact i0r p _ _ rfl e r1 r2
def isF:Tm->Bool
 | .num _=>true
 | .place _=>true
 | .read _ _=>true
 | _=>false
theorem D8b (u:Tm):decide (tg u="sum")=isS u/\(decide (tg u="number")||(decide (tg u="place")||decide (tg u="read")))=isF u:=by
 cases u with
 | num _=>exact ⟨(show decide (("number":Str)="sum")=false by decide +kernel),(show (decide (("number":Str)="number")||(decide (("number":Str)="place")||decide (("number":Str)="read")))=true by decide +kernel)⟩
 | place _=>exact ⟨(show decide (("place":Str)="sum")=false by decide +kernel),(show (decide (("place":Str)="number")||(decide (("place":Str)="place")||decide (("place":Str)="read")))=true by decide +kernel)⟩
 | read _ _=>exact ⟨(show decide (("read":Str)="sum")=false by decide +kernel),(show (decide (("read":Str)="number")||(decide (("read":Str)="place")||decide (("read":Str)="read")))=true by decide +kernel)⟩
 | sum _ _=>exact ⟨(show decide (("sum":Str)="sum")=true by decide +kernel),(show (decide (("sum":Str)="number")||(decide (("sum":Str)="place")||decide (("sum":Str)="read")))=false by decide +kernel)⟩
 | guard _ _ _ _ _=>exact ⟨(show decide (("guard":Str)="sum")=false by decide +kernel),(show (decide (("guard":Str)="number")||(decide (("guard":Str)="place")||decide (("guard":Str)="read")))=false by decide +kernel)⟩
 | pair k _ _=>cases k with
  | plus=>exact ⟨(show decide (("plus":Str)="sum")=false by decide +kernel),(show (decide (("plus":Str)="number")||(decide (("plus":Str)="place")||decide (("plus":Str)="read")))=false by decide +kernel)⟩
  | minus=>exact ⟨(show decide (("minus":Str)="sum")=false by decide +kernel),(show (decide (("minus":Str)="number")||(decide (("minus":Str)="place")||decide (("minus":Str)="read")))=false by decide +kernel)⟩
  | times=>exact ⟨(show decide (("times":Str)="sum")=false by decide +kernel),(show (decide (("times":Str)="number")||(decide (("times":Str)="place")||decide (("times":Str)="read")))=false by decide +kernel)⟩
theorem dtS (a b:Str):decide (V.str a=V.str b)=decide (a=b):=decide_eq_decide.mpr ⟨λh=>V.str.inj h,λh=>by rw [h]⟩
def B4g (n:Nat):Sp:=λb H Q _=>∃(v:V) (d:Addr) (u:Tm) (a:List (Key×V)),b=[v,.ref d]/\Rep H v (A1s u)/\TmL a u/\H d=some (.dK a)/\dep u<=n/\∀z:Int,(nod u:Int)<=z->z=wtM (lnL a) u->Q (.int z) H
theorem B3o (T:Txt K mg t) (Gd1:A3h P w K mg base CX0 m t.ji t.jg C5f sp')
  (p:∀(v:V) (d:Addr) (u:Tm) (lk:List (Key×V)) (H:Hp) (Q:VK),Rep H v (A1s u)->TmL lk u->H d=some (.dK lk)->dep u+1<=n->(∀z:Int,(nod u:Int)<=z->z=wtM (lnL lk) u->Q (.int z) H)->sp' [v,.ref d] H Q E0):A3h P w K mg base CX0 (m+1) t.ji t.jg C5f (B4g n):=by
 refine T.fc.F.ok C1i (by walk_at "ln") λ_ A _ s H _ Q E C h=> ?_
 ·obtain ⟨v,d,u,lk,rfl,D,f,e,J,k⟩:=h;have X:=A8b C;obtain ⟨q,vs,rfl,eq⟩:=B6m D;obtain ⟨t1,t2⟩:=D8b u;have c:=SqT.of (K:=K) eq;refine i02 _ (@RS.r _ _ _ (rq1 (rq4 (A0p A3d (A1f A1h (pv 0) A0d (λ_ _=>rfl)) A1w (A1b _)) (rq3 (rq5 (A0j A2h A0d (A0j A6e (A2u X (pv 1) (A1f A1h (pv 0) A0d (λ_ _=>rfl)) (λ_ _=>rfl)) (pcl Gd1 C T.fc (A0a (A1f A1h (pv 0) A0d (λ_ _=>rfl)) (A0a (pv 1) A0c))))))) ⟨A0x⟩) (rq1 (rq4 (PW.pt (B6w (A0p A3d (A1f A1h (pv 0) A0d (λ_ _=>rfl)) A1w (A1b _)) (B6w (A0p A3d (A1f A1h (pv 0) A0d (λ_ _=>rfl)) A1w (A1b _)) (B5l (A0p A3d (A1f A1h (pv 0) A0d (λ_ _=>rfl)) A1w (A1b _)))))) (rq3 (rq5 A0d)) ⟨A0x⟩) (rq3 (rq5 (A0j A2h (A0j A2h A0d (pcl Gd1 C T.fc (A0a (A1f A1h (pv 0) (B7k B0p A0d) (λ_ _=>rfl)) (A0a (pv 1) A0c)))) (pcl Gd1 C T.fc (A0a (A1f A1h (pv 0) (B7k B0p A0d) (λ_ _=>rfl)) (A0a (pv 1) A0c))))))))) ?_;refine i1c _ rfl q _ _ _ rfl rfl c (A3j (j:=0) rfl) rfl _ rfl ?_;rw [dtS,t1]
  cases hS:isS u with
  | true =>
   cases u with
   | sum x b =>
    obtain ⟨U,a,g,i,y⟩:=C8p D;cases g;obtain ⟨I,R,n1,a0⟩:=f.1 x (by simp);have S:=A9e.k (H:=H) (a:=d) (k:=Sum.inr x) e;rw [R] at S;simp only [dep] at J;have c:=SqT.of (K:=K) i;refine A5r (i17 _ rfl _ rfl q _ _ _ rfl rfl c rfl (i0f d _ rfl S (i0z _ rfl q _ _ _ rfl rfl c (i05 rfl _ rfl (p a d b lk H _ y f.2 e (by lia) λz hz Y=> ?_)))))
    have zn:z<=I*z:=by
     have:0<=(I-1)*z:=Int.mul_nonneg (by lia) (by lia);rw [Int.sub_mul,Int.one_mul] at this
     lia
    refine i0f _ _ rfl rfl (i0i (.inl ⟨by lia,by lia⟩) _ _ rfl rfl (k _ ?_ ?_))
    ·simp only [nod]
     lia
    ·show 1+I*z=1+lnL lk x*wtM (lnL lk) b;rw [A6v R,Y]
   | num _=>cases hS
   | place _=>cases hS
   | read _ _=>cases hS
   | pair _ _ _=>cases hS
   | guard _ _ _ _ _=>cases hS
  | false =>
   refine A2m ?_;dsimp only [C7r,D3p,D5d];refine E3i (d1:=decide (tg u="number")) (d2:=decide (tg u="place")) (d3:=decide (tg u="read")) (λW B=>(i1c _ rfl q _ _ _ rfl rfl c (A3j (j:=0) rfl) rfl _ rfl (by rw [dtS];exact B))) (λW B=>(i1c _ rfl q _ _ _ rfl rfl c (A3j (j:=0) rfl) rfl _ rfl (by rw [dtS];exact B))) (λW B=>(i1c _ rfl q _ _ _ rfl rfl c (A3j (j:=0) rfl) rfl _ rfl (by rw [dtS];exact B))) ?_;rw [t2]
   cases u with
   | sum _ _=>cases hS
   | num _=>exact A5r (k 1 (by show ((1:Nat):Int)<=1;lia) rfl)
   | place _=>exact A5r (k 1 (by show ((1:Nat):Int)<=1;lia) rfl)
   | read _ _=>exact A5r (k 1 (by show ((1:Nat):Int)<=1;lia) rfl)
   | pair o l r =>
    obtain ⟨U,a,b,g,i,y,G⟩:=C2q D;cases g;simp only [dep] at J;have c:=SqT.of (K:=K) i;refine A2m (i17 _ rfl _ rfl q _ _ _ rfl rfl c rfl (i02 _ rfl (p a d l lk H _ y f.1 e (by lia) λM Z L=>(i0f _ _ rfl rfl (i17 _ rfl _ rfl q _ _ _ rfl rfl c rfl (i02 _ rfl (p b d r lk H _ G f.2 e (by lia) λO h2 N=>(i0f _ _ rfl rfl (k _ ?_ ?_)))))))))
    ·simp only [nod]
     lia
    ·show 1+M+O=1+wtM (lnL lk) l+wtM (lnL lk) r;rw [L,N]
   | guard x lo hi l r =>
    obtain ⟨U,a,b,g,i,y,G⟩:=B3d D;cases g;simp only [dep] at J;have c:=SqT.of (K:=K) i;refine A2m (i17 _ rfl _ rfl q _ _ _ rfl rfl c rfl (i02 _ rfl (p a d l lk H _ y f.2.1 e (by lia) λM Z L=>(i0f _ _ rfl rfl (i17 _ rfl _ rfl q _ _ _ rfl rfl c rfl (i02 _ rfl (p b d r lk H _ G f.2.2 e (by lia) λO h2 N=>(i0f _ _ rfl rfl (k _ ?_ ?_)))))))))
    ·simp only [nod]
     lia
    ·show 1+M+O=1+wtM (lnL lk) l+wtM (lnL lk) r;rw [L,N]
theorem B9j (T:Txt K mg t):∀n:Nat,A3h P w K mg base CX0 (n+1) t.ji t.jg C5f (B4g n)
 | 0=>B3o T (m:=0) (sp':=λ_ _ _ _=>False) (A3h.none λ_ _ _ _ h=>h) λv d u a H Q _ _ _ h=>absurd h (by lia)
 | n+1=>B3o T (m:=n+1) (B9j T n) λv d u a H Q r b c e k=>(i10 v d u a rfl r b c (by lia) k)
theorem C1g {a D:Addr} {o:Obj} {g:TG} {tc:TT} {te:TE} {QD:Hp->Prop} {Z₀:St} (Pv:Nat->List V->Hp->Prop) (q:Pv 0 [] (upd H D (.lst []))) (h:∀i ys H,Pv i ys H->H a=some (.frz o (.dK kvs)))
  (s:∀i k v ys H,kvs[i]? =some (k,v)->Pv i ys H->g (kV k) Z₀ H λZ4 H4=>A2w Z₀ Z4/\tc Z4 H4 λb c=>if b=true then te Z4 c (λy c=>c D=some (.lst ys)/\ys.length<sizeLine/\Pv (i+1) (ys++[y]) (upd c D (.lst (ys++[y])))) else Pv (i+1) ys c) (l:∀ys H,Pv kvs.length ys H->QD H) :
  ∃W:Nat->Nat->Hp->Prop,(∃m,W 0 m (upd H D (.lst [])))/\∀i m H2,W i m H2->
   ((Itd a o kvs).stop i H2/\QD H2)\/((Itd a o kvs).go i H2/\∃(N:VK) (M:Hp->Prop),(∀y c,N y c->∃xs,c D=some (.lst xs)/\xs.length<sizeLine/\∃d,d<m/\W (i+1) d (upd c D (.lst (xs++[y]))))/\(∀c,M c->∃d,d<m/\W (i+1) d c)/\
    ∀x f,(Itd a o kvs).yld i H2 x f->g x Z₀ f λZ4 H4=>A2w Z₀ Z4/\tc Z4 H4 λb c=>if b=true then te Z4 c N else M c):=by
 refine i02 (λi m H=>m=kvs.length-i/\i<=kvs.length/\∃ys,Pv i ys H) (i0d kvs.length (by simp) (Z1e _) [] q) ?_;rintro i m H2 ⟨rfl,t,ys,p⟩;by_cases hlt:i<kvs.length
 ·refine .inr (i0i ⟨h i ys H2 p,hlt⟩ (λy c=>c D=some (.lst ys)/\ys.length<sizeLine/\Pv (i+1) (ys++[y]) (upd c D (.lst (ys++[y])))) (λc=>Pv (i+1) ys c) (λy c n=>(i0v ys n.1 n.2.1 (kvs.length-(i+1)) (by lia) rfl hlt _ n.2.2)) (λc n=>(i0c (kvs.length-(i+1)) (by lia) rfl hlt ⟨_,n⟩)) λx f z=> ?_);obtain ⟨e,k,v,j,r⟩:=z;subst e r;exact s i k v ys _ j p
 ·have e:i=kvs.length:=by lia
  subst e;exact .inl ⟨⟨h _ ys H2 p,rfl⟩,l ys H2 p⟩
def gw:Nat->Nat
 | 0=>1
 | n+1=>2*gw n+1
theorem C3h:∀n,1<=gw n
 | 0=>Z09 _
 | n+1=>by show 1<=2*gw n+1;lia
structure D7k (H:Hp) (d:Addr) (lk:List (Key×V)) (nm:List Str):Prop where
 h:H d=some (.dK lk)
 ks:lk.map (·.1)=nm.map (Sum.inr:Str->Key)
 dk:B0c lk nm
 hn:NmS nm
 l:nm.length<=12
theorem D7k.same {nm:List Str} (h:D7k H d lk nm) (s:A0u H H'):D7k H' d lk nm:=⟨s _ _ h.h,h.ks,h.dk,h.hn,h.l⟩
theorem D0z.same {a:Addr} (h:D0z H lk a sc) (s:A0u H H'):D0z H' lk a sc:=⟨s _ _ h.1,h.2⟩
theorem D5y.same {a:Addr} (h:D5y H lk a es) (s:A0u H H'):D5y H' lk a es:=by
 obtain ⟨b,e,r,l⟩:=h;exact i06 b (s _ _ e) (Paired.mapP r λ_ _ z=>z.same s) l
theorem A1y.mono {L:Str->Int} {okn d b:OkP} (h:∀ρ a c,d ρ a c->b ρ a c):∀{u:Tm} {ρ:Env},A1y L okn d ρ u->A1y L okn b ρ u
 | .num _,_,_=>True.intro
 | .place _,_,_=>True.intro
 | .read _ _,_,s=>h _ _ _ s
 | .sum _ _,_,s=>s
 | .pair _ l r,_,s=>⟨A1y.mono h s.1,A1y.mono h s.2⟩
 | .guard _ _ _ l r,_,s=>⟨λz=>A1y.mono h (s.1 z),λz=>A1y.mono h (s.2 z)⟩
theorem D1h:∀(ρ:Env) (a:Str) (c:List Int),okO L es none ρ a c->okA L es ρ a c:=λρ a c h=>by
 rcases h with h | ⟨e,h,_⟩
 ·exact h
 ·cases h
theorem LfZ.non {nm:List Str} (h:LfZ lk es none nm sc u):SfT (lnL lk) (okA (lnL lk) es) (okA (lnL lk) es) nm sc u:=⟨h.ti,λρ a=>A1y.mono D1h (h.sf ρ a)⟩
theorem E0s (h:1<=x.length):¬x=("":Str):=λz=>by rw [z] at h;exact absurd h (by decide +kernel)
def B9l (n:Nat):Sp:=λu H Q _=>∃(q m k s d:Addr) (p a:Nat) (r:V) (c:Option (Str×List Str)) (t:List Int) (l:List (Str×List Str)) (b i:List Str) (e:List (Key×V)) (S:Addr->Prop),u=[.ref q,.int (p:Int),.ref m,.ref k,.int (a:Int)]/\H q=some (.lst (t.map V.int))/\p+gw a<=1000/\D0z H e m b/\b.length+2*a<=90/\H k=some (.tup [.ref s,.ref d,r])/\D5y H e s l/\D7k H d e i/\D7t H e r c/\OwS c b/\(∀x∈b,x∈i)/\a<=n/\Fr S H/\
 ∀(o:Addr) (j:V) (f:Tm) (h:Nat) (g:Hp),A0u H g->g o=some (.tup [j,.int (h:Int)])->Rep (A0s S g) j (A1s f)->TmW f->TmL e f->dep f<=4+3*a->p<h->h<=p+gw a->LfZ e l c i b f->Q (.ref o) g
theorem D0z.add {a:Addr} {nm:List Str} (e:H a=some (.lst ((sc++ys).map V.str))) (h1:NmS sc) (h2:B0c lk sc) (l:(sc++ys).length<=100) (c:NmS nm) (d:B0c lk nm) (m:∀y∈ys,y∈nm):D0z H lk a (sc++ys):=by
 refine i04 e l (λz b=> ?_) λz b=> ?_
 ·rcases Z07.mp b with b | b
  ·exact h1 z b
  ·exact c z (m z b)
 ·rcases Z07.mp b with b | b
  ·exact h2 z b
  ·exact d z (m z b)
theorem D6v (z:Int):∃o:Op3,atI [V.str "plus",V.str "minus",V.str "times"] (z%3)=some (.str (opS o)):=by
 have h:z%3=0\/z%3=1\/z%3=2:=by lia
 rcases h with h | h | h
 ·exact ⟨.plus,by rw [h];rfl⟩
 ·exact ⟨.minus,by rw [h];rfl⟩
 ·exact ⟨.times,by rw [h];rfl⟩
theorem B9g (T:Txt K mg t) (hm:4<=m) (Gd2:A3h P w K mg base CX0 m t.q_ t.qj C5n sp')
  (hs:∀(cl sc bk U d:Addr) (p v:Nat) (ow:V) (own:Option (Str×List Str)) (ns:List Int) (es:List (Str×List Str)) (g nm:List Str) (lk:List (Key×V)) (S:Addr->Prop) (H:Hp) (Q:VK),H cl=some (.lst (ns.map V.int))->p+gw v<=1000->D0z H lk sc g->g.length+2*v<=90->H bk=some (.tup [.ref U,.ref d,ow])->D5y H lk U es->D7k H d lk nm->D7t H lk ow own->OwS own g->(∀x∈g,x∈nm)->v+1<=n->Fr S H->∀(pa ra:Int),pa=(p:Int)->ra=(v:Int)->
   (∀(tp:Addr) (tv:V) (u':Tm) (p':Nat) (H':Hp),A0u H H'->H' tp=some (.tup [tv,.int (p':Int)])->Rep (A0s S H') tv (A1s u')->TmW u'->TmL lk u'->dep u'<=4+3*v->p<p'->p'<=p+gw v->LfZ lk es own nm g u'->Q (.ref tp) H')->sp' [.ref cl,.int pa,.ref sc,.ref bk,.int ra] H Q E0):A3h P w K mg base CX0 (m+1) t.q_ t.qj C5n (B9l n):=by
 have Gc7:= @A6w P w K mg base t T;have Gd3:= @A5a P w K mg base t T;have Gd4:= @B9t P w K mg base t T;have Gd5:= @C1s P w K mg base t T;refine T.gx.F.ok A1k (λvs H Q E h=> ?_) λ_ A _ s H _ Q E L h=> ?_
 ·refine e0h h ?_;clear h;rintro cl sc bk U d p v ow own ns es ⟨g,nm,lk,S,rfl,_⟩;rfl
 ·refine e0h h ?_;clear h;rintro cl sc bk U d p v ow own ns es ⟨g,nm,lk,S,rfl,a7,pb,J,k1,b5,b8,B,c7,b0,b4,k0,fr,k⟩;have hu:=A8b L;have g1:=C3h v;refine i02 _ (@RS.r _ _ _ (rq1 ⟨A9g (pv 3) (A3v (n:=3) rfl (A0r (A0k (i:=5) A1k.nd rfl (.inl rfl)) (A0r (A0k (i:=6) A1k.nd rfl (.inl rfl)) (A0r (A0k (i:=7) A1k.nd rfl (.inl rfl)) A2p))))⟩ (rq1 (rq6 8 A1k.nd (pcl Gc7 L T.e8 (A0a (pcl Gd3 L T.bc (A0a (pv 0) (A0a (pv 1) A0c))) (A0a (pv 1) A0c)))) (rq1 (rq6 9 A1k.nd (A0j A1j (pv 8) A0d)) (rq1 (rq6 8 A1k.nd (A0j A1o (pv 8) A0d)) (rq1 ⟨B8z (i₀:=11) (N':=["_law_axis","_law_scope"]) (ix:=(List.replicate 1 none++[some 2])) (tc:=C1p (tOp (rIn K true) (C8c 0) (C8c 1))) A1k.nd rfl (.inl rfl) rfl (A7o (x:="_law_scope") rfl rfl rfl (by decide +kernel) (by decide +kernel)) (A5u (N0:=["_law_axis"]) rfl (.inl rfl) (by walk_at "ix")) (C9q (pv 6)) (λ_ _ _ _=>(A0k (i:=0) C8q rfl (.inl rfl))) (λ_ _ _ _=>(A0p A6c (pv 0) (pv 1) (by with_unfolding_all rfl))) (λ_ _ _ _=>(pv 0))⟩ ⟨@C2k _ _ _ (@A1t _ _ _ _ _ (@B5c _ _ _ _ _ _ _ _ (PW.pt (A3x (A0p A8u (pv 4) A0d (A1b _)) (A3x (A0p A3d (pv 9) A0d (A1b _)) (A4f (A0p A8u (A0q A0y (by rfl) T.ce Z0r (A0a (pv 11) A0c)) A0d (A1b _)))))) (@A1t _ _ _ _ _ (@A3e _ _ 10 _ _ _ _ A1k.nd rfl (.inl rfl) (A1f A1n (pv 11) (A0j A1j (pv 8) (A0q A0y (by rfl) T.ce Z0r (A0a (pv 11) A0c))) (λ_ _=>rfl)) rfl (.inl rfl)) (@A1t _ _ _ _ _ (A9g (pcl Gd2 L T.gx (A0a (pv 0) (A0a (A0j A2h (pv 1) A0d) (A0a (A0j B0b (pv 2) (@A1r _ _ _ _ (A0a (pv 10) A0c))) (A0a (A1z (A0a (pv 5) (A0a (pv 6) (A0a B8i A0c)))) (A0a (A0j A3p (pv 4) A0d) A0c)))))) (A3v (n:=2) rfl (A0r (A0k (i:=12) A1k.nd rfl (.inl rfl)) (A0r (A0k (i:=1) A1k.nd rfl (.inl rfl)) A2p)))) (@A1t _ _ _ _ _ (@A3e _ _ 13 _ _ _ _ A1k.nd rfl (.inl rfl) (A1f A1n (pv 11) (A0j A1j (A0j A2h (pv 8) A0d) (A0q A0y (by rfl) T.ce Z0r (A0a (pv 11) A0c))) (λ_ _=>rfl)) rfl (.inl rfl)) (@A9l _ _ _ _ _ (@B5c _ _ _ _ _ _ _ _ (PW.pt (A3x (A0p A3d (A0j A1j (A0j A1o (pv 8) A0d) A0d) A0d (A1b _)) (A4f (A0p D6h (pv 13) (pv 10) (A1b _))))) (@A1t _ _ _ _ _ (@A3e _ _ 14 _ _ _ _ A1k.nd rfl (.inl rfl) (pcl Gd4 L T.ir (A0a (A0j A1o (pv 8) A0d) (A0a (pv 5) (A0a (A0j B0b (pv 2) (@A1r _ _ _ _ (A0a (pv 10) (A0a (pv 13) A0c)))) (A0a (pv 6) (A0a B8i A0c)))))) rfl (.inl rfl)) (@A1t _ _ _ _ _ (@A3e _ _ 14 _ _ _ _ A1k.nd rfl (.inl rfl) (pcl Gd5 L T.jc (A0a (pv 13) (A0a (pv 14) (A0a (A0j A1o (pv 8) A0d) (A0a (pv 6) A0c))))) rfl (.inl rfl)) (@A2z _ _ _ (@A3e _ _ 12 _ _ _ _ A1k.nd rfl (.inl rfl) (A1z (A0a (A1f A1n (@A1r _ _ _ _ (A0a A1w (A0a A1w (A0a A1w A0c)))) (A0j A1j (A0j A1o (pv 8) A0d) A0d) (λ_ _=>rfl)) (A0a (pv 12) (A0a (pv 14) A0c)))) rfl (.inl rfl))))) A0x) (@A2z _ _ _ (@B3y _ _ _ _ (A1z (A0a (pcl Gd5 L T.jc (A0a (pv 10) (A0a (pv 12) (A0a (A0j A1o (pv 8) A0d) (A0a (pv 6) A0c))))) (A0a (pv 1) A0c))))))))) A0x) (@A1t _ _ _ _ _ (@B5c _ _ _ _ _ _ _ _ (PW.pt (A3x (A0p A8u (pv 4) A0d (A1b _)) (A3x (A0p A3d (pv 9) A0d (A1b _)) (A4f (A0p A8u (A0q A0y (by rfl) T.ce Z0r (A0a (pv 2) A0c)) A0d (A1b _)))))) (@A1t _ _ _ _ _ (@A3e _ _ 10 _ _ _ _ A1k.nd rfl (.inl rfl) (A1f A1n (pv 2) (A0j A1j (pv 8) (A0q A0y (by rfl) T.ce Z0r (A0a (pv 2) A0c))) (λ_ _=>rfl)) rfl (.inl rfl)) (@A1t _ _ _ _ _ (@A3e _ _ 15 _ _ _ _ A1k.nd rfl (.inl rfl) (A0j A3p (A0j A1j (A0j A1o (pv 8) A0d) (A0j A2h (A2u hu (pv 6) (pv 10) (λ_ _=>rfl)) A0d)) A0d) rfl (.inl rfl)) (@A1t _ _ _ _ _ (@A3e _ _ 16 _ _ _ _ A1k.nd rfl (.inl rfl) (A0j A2h (pv 15) (A0j A1j (A0j A1o (pv 8) A0d) (A0j A2h (A2u hu (pv 6) (pv 10) (λ_ _=>rfl)) A0d))) rfl (.inl rfl)) (@A9l _ _ _ _ _ (@B5c _ _ _ _ _ _ _ _ (A0p A3d (A0j A1j (A0j A1o (pv 8) A0d) A0d) A0d (A1b _)) (@A2z _ _ _ (@A3e _ _ 16 _ _ _ _ A1k.nd rfl (.inl rfl) (A0j A2h (pv 16) (A0j A7e A0d A0d)) rfl (.inl rfl))) A0x) (@A1t _ _ _ _ _ (A9g (pcl Gd2 L T.gx (A0a (pv 0) (A0a (A0j A2h (pv 1) A0d) (A0a (pv 2) (A0a (pv 3) (A0a (A0j A3p (pv 4) A0d) A0c)))))) (A3v (n:=2) rfl (A0r (A0k (i:=14) A1k.nd rfl (.inl rfl)) (A0r (A0k (i:=1) A1k.nd rfl (.inl rfl)) A2p)))) (@A1t _ _ _ _ _ (A9g (pcl Gd2 L T.gx (A0a (pv 0) (A0a (pv 1) (A0a (pv 2) (A0a (pv 3) (A0a (A0j A3p (pv 4) A0d) A0c)))))) (A3v (n:=2) rfl (A0r (A0k (i:=17) A1k.nd rfl (.inl rfl)) (A0r (A0k (i:=1) A1k.nd rfl (.inl rfl)) A2p)))) (@A9l _ _ _ _ _ (@B5c _ _ _ _ _ _ _ _ (A0p A3d (A0j A1j (A0j A1o (pv 8) A0d) A0d) A0d (A1b _)) (@A2z _ _ _ (@A3e _ _ 17 _ _ _ _ A1k.nd rfl (.inl rfl) (A1z (A0a A1w (A0a (pv 17) (A0a (pv 14) A0c)))) rfl (.inl rfl))) A0x) (@A2z _ _ _ (@B3y _ _ _ _ (A1z (A0a (A1z (A0a A1w (A0a (pv 10) (A0a (pv 15) (A0a (pv 16) (A0a (pv 14) (A0a (pv 17) A0c))))))) (A0a (pv 1) A0c)))))))))))) A0x) (@A1t _ _ _ _ _ (@B5c _ _ _ _ _ _ _ _ (PW.pt (A3x (A0p A8u (pv 4) A0d (A1b _)) (A3x (A0p A8u (pv 9) A0d (A1b _)) (A4f (A0p B9a (pv 9) A0d (A1b _)))))) (@A1t _ _ _ _ _ (A9g (pcl Gd2 L T.gx (A0a (pv 0) (A0a (A0j A2h (pv 1) A0d) (A0a (pv 2) (A0a (pv 3) (A0a (A0j A3p (pv 4) A0d) A0c)))))) (A3v (n:=2) rfl (A0r (A0k (i:=18) A1k.nd rfl (.inl rfl)) (A0r (A0k (i:=1) A1k.nd rfl (.inl rfl)) A2p)))) (@A1t _ _ _ _ _ (A9g (pcl Gd2 L T.gx (A0a (pv 0) (A0a (pv 1) (A0a (pv 2) (A0a (pv 3) (A0a (A0j A3p (pv 4) A0d) A0c)))))) (A3v (n:=2) rfl (A0r (A0k (i:=19) A1k.nd rfl (.inl rfl)) (A0r (A0k (i:=1) A1k.nd rfl (.inl rfl)) A2p)))) (@A2z _ _ _ (@B3y _ _ _ _ (A1z (A0a (A1z (A0a (A1f A1n (@A1r _ _ _ _ (A0a A1w (A0a A1w (A0a A1w A0c)))) (A0j A1j (pv 8) A0d) (λ_ _=>rfl)) (A0a (pv 18) (A0a (pv 19) A0c)))) (A0a (pv 1) A0c))))))) A0x) (@A2z _ _ _ (@B3y _ _ _ _ (A1z (A0a (pcl Gd4 L T.ir (A0a (pv 8) (A0a (pv 5) (A0a (pv 2) (A0a (pv 6) (A0a (pv 7) A0c)))))) (A0a (A0j A2h (pv 1) A0d) A0c))))))))⟩)))))) ?_;refine i0o _ rfl bk _ rfl (SqT.of b5) (i0b rfl _ _ rfl ⟨_,(i0o _ rfl _ _ rfl rfl ?_)⟩);refine i02 _ rfl (i0x _ rfl cl ns (p:Int) rfl (SqL.of a7) (by lia) λc0=>(i0s _ rfl c0 (p:Int) rfl (by lia) (by lia) λI=> ?_));refine i0s _ rfl _ _ rfl rfl E2l (i0s _ rfl _ _ rfl rfl ⟨by decide,by decide⟩ ?_);refine i0o _ rfl d lk rfl B.h λo=>λD hD=> ?_;have Dd:D≠d:=λe=>by rw [e,A0b] at hD;cases hD
  have j6:H D=none:=by rw [A0i Dd] at hD;exact hD
  refine C1g (a:=d) (D:=D) (o:=o) (kvs:=lk) (λj ys G=>A0u (upd H d (.frz o (.dK lk))) G/\G D=some (.lst ys)/\∃zs:List Str,ys=zs.map V.str/\zs.length<=j/\∀z∈zs,z∈nm/\z∉g) (i0a (A0e hD) A0b [] rfl ⟨Z09 _,(by intro z O;cases O)⟩) (λj ys G sG=>sG.1 _ _ A0b) ?_ ?_
  ·rintro j kk vv ys G e6 ⟨sG,hG,zs,rfl,lz,mz⟩;have hj:j<lk.length:=(Z03.mp e6).1;have ek:nm[j]?.map (Sum.inr:Str->Key)=some kk:=by rw [<-Z1z,<-B.ks,Z1z,e6];rfl
   obtain ⟨x,hx,rfl⟩:=Z0i.mp ek;have j4:lk.length=nm.length:=by rw [<-Z08 (f:=(·.1)) (as:=lk),B.ks,Z08]
   have j7:=B.l;have e4:G sc=some (.lst (g.map V.str)):=sG _ _ (by rw [A0i (A3m J.1 B.h (by intro h;cases h))];exact J.1);refine ⟨⟨rfl,True.intro⟩,(i0w _ rfl _ rfl sc _ rfl (.inl (SqL.of e4)) (i0a rfl (A6x g) _ rfl ?_))⟩;show if (! inV (V.str x) (g.map V.str))=true then _ else _
   rw [B1m];refine D7h (λe5=> ?_) (λ_=>(i0a sG hG zs rfl ⟨by lia,mz⟩));refine i0c _ rfl hG (A1l (by rw [Z08];lia)) (i0a (A0o sG hD) A0b (zs++[x]) (by rw [Z0s];rfl) ⟨by rw [Z06];simp only [Z0y,Z2g];lia,λz O=> ?_⟩);rcases Z07.mp O with O | O
   ·exact mz z O
   ·rw [Z0w.mp O];exact ⟨Z13 hx,e5⟩
  rintro ys G ⟨sG,hG,a4,rfl,j3,c4⟩;have g3:=sG _ _ (A0b (H:=H) (a:=d) (o:= .frz o (.dK lk)));refine i0n d o lk g3 (λo' u' e=>by have e:H d=some (.frz o' u'):=e;rw [B.h] at e;cases e) ?_
  have s1:A0u H (upd G d (.dK lk)):=λb u e=>by
   by_cases hb:b=d
   ·rw [hb] at e⊢;rw [B.h] at e;rw [A0b];exact e
   ·rw [A0i hb];exact sG _ _ (by rw [A0i hb];exact e)
  have W:upd G d (.dK lk) D=some (.lst (a4.map V.str)):=by rw [A0i Dd];exact hG
  generalize upd G d (.dK lk)=H1 at s1 W;have w0:0<=I%8/\I%8<8:=by lia
  have f1:=fr.same s1;have a1:=B.same s1;have a8:=b8.same s1;have M:=J.same s1;have b6:=c7.same s1;have de:∀a c:Int,decide (V.int a=V.int c)=decide (a=c):=λa c=>decide_eq_decide.mpr ⟨λh=>V.int.inj h,λh=>by rw [h]⟩;show D3p _ _ _ [some (.ref cl),some (.int (p:Int)),some (.ref sc),some (.ref bk),some (.int (v:Int)),some (.ref U),some (.ref d),some ow,some (.int (I/8)),some (.int (I%8)),none,some (.ref D),none,none,none,none,none,none,none,none] _;dsimp only [A7u,C7r,D3p,D5d];refine C7p (d1:=decide ((0:Int)<(v:Int))) (d2:=decide (I%8=6)) ?_ (λQ' q=>(i02 _ rfl (i0q _ _ rfl rfl _ rfl q))) (λQ' q=>(i0j _ rfl rfl _ rfl (by rw [de];exact q))) (λhF h1 h2=> ?_)
  ·refine A2m ?_;refine C7p (d1:=decide ((0:Int)<(v:Int))) (d2:=decide (I%8=5)) ?_ (λQ' q=>(i02 _ rfl (i0q _ _ rfl rfl _ rfl q))) (λQ' q=>(i0j _ rfl rfl _ rfl (by rw [de];exact q))) (λhF h1 h2=> ?_)
   ·refine A2m ?_;refine C7p (d1:=decide ((0:Int)<(v:Int))) (d2:=decide (2<I%8)) ?_ (λQ' q=>(i02 _ rfl (i0q _ _ rfl rfl _ rfl q))) (λQ' q=>(i02 _ rfl (i0q _ _ rfl rfl _ rfl q))) (λhF h1 h2=> ?_)
    ·refine A2m ?_;refine i0e _ rfl _ rfl (i0e _ rfl _ rfl (i0l _ rfl _ U sc ⟨d,(i1d ow own es g lk S rfl a8 M a1.h b6 b0 f1 λv' u' H2 s2 rp wu tu du lz=> ?_)⟩));refine i0s _ rfl _ _ rfl rfl (A0v rfl) λtp i9=> ?_;have sT:=A0e (o:= .tup [v',.int ((p:Int)+1)]) i9;exact k tp v' u' (p+1) _ (s1.trans (s2.trans sT)) A0b (rp.same (A0g sT)) wu tu (by lia) (by lia) (by lia) (lz nm)
    ·obtain ⟨ro,rfl⟩:∃ro,v=ro+1:=⟨v-1,by have:=of_decide_eq_true h1;lia⟩;have er:(((ro+1:Nat):Int)-1)=(ro:Int):=by lia
     have gp:=C3h ro;have pb:p+(2*gw ro+1)<=1000:=pb;refine i02 _ rfl (i0q _ _ rfl rfl _ rfl ?_);by_cases hc:I%8<5
     ·rw [Z20 hc];refine A5r (i0w _ rfl _ rfl _ _ rfl rfl (i12 _ rfl _ rfl _ rfl _ _ rfl rfl ?_));refine hs cl sc bk U d (p+1) ro ow own ns es g nm lk S H1 _ (s1 _ _ a7) (by lia) M (by lia) (s1 _ _ b5) a8 a1 b6 b0 b4 (by lia) f1 _ _ (by lia) (by lia) λt1 v1 u1 p1 H2 s2 h2 a5 Y a0 d8 f5 e1 R=> ?_;have C:=s1.trans s2;refine i1a t1 _ rfl (SqT.of h2) rfl _ _ rfl _ _ rfl rfl ?_;refine i0e _ rfl _ rfl (i12 _ rfl _ rfl _ rfl _ _ rfl rfl (hs cl sc bk U d p1 ro ow own ns es g nm lk S H2 _ (C _ _ a7) (by lia) (J.same C) (by lia) (C _ _ b5) (b8.same C) (B.same C) (c7.same C) b0 b4 (by lia) (fr.same C) _ _ (by lia) (by lia) λt2 v2 u2 p2 H3 s3 h3 a2 a3 a6 c9 i2 g9 X=> ?_));have b2:=C.trans s3;have f3:=fr.same b2;obtain ⟨op,c6⟩:=D6v (I/8);refine i1a t2 _ rfl (SqT.of h3) rfl _ _ rfl _ _ rfl rfl ?_;refine ⟨A0v rfl,λll d4=>(i0s _ rfl _ _ rfl rfl D6l (i0y ll _ _ _ rfl rfl (SqL.of A0b) c6 (i0k _ rfl _ rfl (A0v rfl) λq1 N=>(i06 _ rfl (A0v rfl) λq2 a9=> ?_))))⟩;have sA:=A0e (o:= .lst [.str "plus",.str "minus",.str "times"]) d4;have sB:=A0e (o:= .tup [.str (opS op),v1,v2]) N;have sC:=A0e (o:= .tup [.ref q1,.int (p2:Int)]) a9;have d5:=sA.trans (sB.trans sC);have gr:gw (ro+1)=2*gw ro+1:=rfl;refine k q2 (.ref q1) (.pair op u1 u2) p2 _ (b2.trans d5) A0b (B7j (A0h (f3 q1 (sA.free N)) (sC _ _ A0b)) ((a5.same (A0g s3)).same (A0g d5)) (a2.same (A0g d5))) ⟨Y,a3⟩ ⟨a0,a6⟩ (by simp only [dep];lia) (by lia) (by lia) ⟨⟨R.ti,X.ti⟩,λρ L=>⟨R.sf ρ L,X.sf ρ L⟩⟩
     ·rw [Z1j hc];exact hF
   ·obtain ⟨ro,rfl⟩:∃ro,v=ro+1:=⟨v-1,by have:=of_decide_eq_true h1;lia⟩;have gp:=C3h ro;have pb:p+(2*gw ro+1)<=1000:=pb;refine i0o _ rfl sc _ rfl (.inl (SqL.of M.1)) (i0q _ _ rfl rfl _ rfl ?_);by_cases hc:(0:Int)<((g.map V.str).length:Int)
    ·rw [Z20 hc];obtain ⟨x,hx,ex⟩:=A6t (f:=V.str) (xs:=g) (i:=I/8%((g.map V.str).length:Int)) (Z1v _ (by lia)) (by have:=Z1p (I/8) hc;rw [Z08] at this⊢;exact this);have mx:=Z13 hx;obtain ⟨nn,vn,n1,h4⟩:=J.2.2.2 x mx;have nx:=(J.2.2.1 x mx).1;have dg:=A9e.k (H:=H1) (a:=d) (k:=Sum.inr x) a1.h;rw [vn] at dg;refine A5r (i12 _ rfl _ rfl _ rfl sc _ rfl (.inl (SqL.of M.1)) (i0m _ _ rfl rfl hc (i0y sc _ _ _ rfl rfl (SqL.of M.1) ex ?_)));refine i0s _ rfl _ _ rfl rfl ⟨by decide,by decide⟩ (i0w _ rfl _ rfl d _ rfl dg (i07 _ _ rfl (i0i rfl _ _ rfl rfl (i0i (by show (0:Int)<nn+2;lia) _ _ rfl rfl ?_))));refine i0w _ rfl _ rfl _ _ rfl rfl ⟨⟨by decide,by decide⟩,(i0w _ rfl _ rfl d _ rfl dg (i07 _ _ rfl (i0i rfl _ _ rfl rfl (i0i (by show (0:Int)<nn+1;lia) _ _ rfl rfl ?_))))⟩;have z1:=Z1v (I/8/7) (show nn+2≠0 by lia);have z2:=Z1p (I/8/7) (show 0<nn+2 by lia);have z3:=Z1v (I/8/77) (show nn+1≠0 by lia);have z4:=Z1p (I/8/77) (show 0<nn+1 by lia);have e7:((10:Int)^(29:Int).toNat)=100000000000000000000000000000:=by decide +kernel
     refine i02 (λZ H6=>H1=H6/\∃(lo hi:Int),Z=[Sro cl,Sio (p:Int),Sro sc,Sro bk,Sio ((ro+1:Nat):Int),Sro U,Sro d,some ow,Sio (I/8),Sio (I%8),Sso x,Sro D,none,none,none,Sio lo,Sio hi,none,none,none]/\Sm lo/\Sm hi) ?_ ?_
     ·refine i18 _ rfl _ _ rfl rfl ⟨by decide,by decide⟩ _ _ rfl rfl E4k (i05 rfl _ rfl (D3c (λ_=> ?_) (λ_=>(i0i rfl _ _ rfl (B4w (by lia) (by lia)) (B4w (by lia) (by lia))))));refine i18 _ rfl _ _ rfl rfl (i00 (by decide) (by decide) (by decide)) _ _ rfl rfl rfl (i0f _ _ rfl (B4w (by lia) (by lia)) (B4w ?_ ?_))
      ·rw [e7];lia
      ·rw [e7];lia
     rintro Z H6 ⟨rfl,lo,hi,rfl,j0,i0⟩;refine i0w _ rfl _ rfl _ _ rfl rfl (i12 _ rfl _ rfl _ rfl _ _ rfl rfl ?_);refine hs cl sc bk U d (p+1) ro ow own ns es g nm lk S H1 _ (s1 _ _ a7) (by lia) M (by lia) (s1 _ _ b5) a8 a1 b6 b0 b4 (by lia) f1 _ _ (by lia) (by lia) λt1 v1 u1 p1 H2 s2 h2 a5 Y a0 d8 f5 e1 R=> ?_;have C:=s1.trans s2;refine i1a t1 _ rfl (SqT.of h2) rfl _ _ rfl _ _ rfl rfl ?_;refine i0e _ rfl _ rfl (i12 _ rfl _ rfl _ rfl _ _ rfl rfl (hs cl sc bk U d p1 ro ow own ns es g nm lk S H2 _ (C _ _ a7) (by lia) (J.same C) (by lia) (C _ _ b5) (b8.same C) (B.same C) (c7.same C) b0 b4 (by lia) (fr.same C) _ _ (by lia) (by lia) λt2 v2 u2 p2 H3 s3 h3 a2 a3 a6 c9 i2 g9 X=> ?_));have b2:=C.trans s3;have f3:=fr.same b2;refine i1a t2 _ rfl (SqT.of h3) rfl _ _ rfl _ _ rfl rfl ?_;have rq:=a5.same (A0g s3);refine i02 (λZ G=>∃(vo:V) (uo:Tm),Z=[Sro cl,Sio (p2:Int),Sro sc,Sro bk,Sio ((ro+1:Nat):Int),Sro U,Sro d,some ow,Sio (I/8),Sio (I%8),Sso x,Sro D,none,none,some v1,Sio lo,Sio hi,some vo,none,none]/\A0u H3 G/\Rep (A0s S G) vo (A1s uo)/\TmW uo/\TmL lk uo/\dep uo<=5+3*ro/\LfZ lk es own nm g uo) ?_ ?_
     ·refine i18 _ rfl _ _ rfl rfl ⟨by decide,by decide⟩ _ _ rfl rfl D6l (i05 rfl _ rfl (D3c (λ_=> ?_) (λ_=>(i0t v2 u2 rfl (A0u.refl _) a2 a3 a6 ⟨by lia,X⟩))));refine i0k _ rfl _ rfl (A0v rfl) λq1 N=> ?_;have sB:=A0e (o:= .tup [.str "plus",v2,v1]) N;exact i0t (.ref q1) (.pair .plus u2 u1) rfl sB (B7j (A0h (f3 q1 N) A0b) (a2.same (A0g sB)) (rq.same (A0g sB))) ⟨a3,Y⟩ ⟨a6,a0⟩ ⟨by simp only [dep];lia,⟨X.ti,R.ti⟩,λρ L=>⟨X.sf ρ L,R.sf ρ L⟩⟩
     rintro Z G ⟨vo,uo,rfl,sG,h5,h9,h7,j5,d9⟩;have fG:=f3.same sG;refine i02 _ rfl (i0e _ rfl _ rfl (i0k _ rfl _ rfl (A0v rfl) λq1 N=>(i06 _ rfl (A0v rfl) λq2 a9=> ?_)));have sB:=A0e (o:= .tup [.str "guard",.str x,.int lo,.int hi,v1,vo]) N;have sC:=A0e (o:= .tup [.ref q1,.int (p2:Int)]) a9;have d3:=sB.trans sC;have gr:gw (ro+1)=2*gw ro+1:=rfl;exact k q2 (.ref q1) (.guard x lo hi u1 uo) p2 _ (b2.trans (sG.trans d3)) A0b (B6i (A0h (fG q1 N) (sC _ _ A0b)) ((rq.same (A0g sG)).same (A0g d3)) (h5.same (A0g d3))) (i09 nx j0 i0 Y h9) (i00 (dk1 vn n1 h4) a0 h7) (by simp only [dep];lia) (by lia) (by lia) ⟨(i00 mx R.ti d9.ti),λρ L=>⟨λ_=>R.sf ρ L,λ_=>d9.sf ρ L⟩⟩
    ·rw [Z1j hc];exact hF
  ·obtain ⟨ro,rfl⟩:∃ro,v=ro+1:=⟨v-1,by have:=of_decide_eq_true h1;lia⟩;have gp:=C3h ro;have pb:p+(2*gw ro+1)<=1000:=pb;have gr:gw (ro+1)=2*gw ro+1:=rfl;refine i0o _ rfl D _ rfl (.inl (SqL.of W)) (i0q _ _ rfl rfl _ rfl ?_);by_cases hc:(0:Int)<((a4.map V.str).length:Int)
   ·rw [Z20 hc];obtain ⟨x,hx,ex⟩:=A6t (f:=V.str) (xs:=a4) (i:=I/8%((a4.map V.str).length:Int)) (Z1v _ (by lia)) (by have:=Z1p (I/8) hc;rw [Z08] at this⊢;exact this);obtain ⟨mx,f8⟩:=c4 x (Z13 hx);obtain ⟨y,hy,ey⟩:=A6t (f:=V.str) (xs:=a4) (i:=(I/8+1)%((a4.map V.str).length:Int)) (Z1v _ (by lia)) (by have:=Z1p (I/8+1) hc;rw [Z08] at this⊢;exact this);obtain ⟨my,h0⟩:=c4 y (Z13 hy);have g0:B0c lk [x]:=λz O=>by rw [Z0w.mp O];exact B.dk x mx
    have j1:B0c lk [y]:=λz O=>by rw [Z0w.mp O];exact B.dk y my
    refine A5r (i12 _ rfl _ rfl _ rfl D _ rfl (.inl (SqL.of W)) (i0m _ _ rfl rfl hc (i0y D _ _ _ rfl rfl (SqL.of W) ex ?_)));refine i0w _ rfl _ rfl _ _ rfl rfl (i0k _ rfl _ rfl (A0v rfl) λzl b1=>(i10 sc zl _ _ rfl rfl ((A0e b1) _ _ M.1) A0b (A2a (by simp;lia)) λc2 j2=> ?_));have s5:=(A0e (o:= .lst [.str x]) b1).trans (A0e (o:= .lst (g.map V.str++[V.str x])) j2);have f0:upd (upd H1 zl (.lst [.str x])) c2 (.lst (g.map V.str++[V.str x])) c2=some (.lst ((g++[x]).map V.str)):=by rw [A0b,Z0s];rfl
    generalize upd (upd H1 zl (.lst [.str x])) c2 (.lst (g.map V.str++[V.str x]))=H5 at s5 f0;refine i0k _ rfl _ rfl (A0v rfl) λtb g6=> ?_;have sT:=A0e (o:= .tup [.ref U,.ref d,.non]) g6;have eT:upd H5 tb (.tup [.ref U,.ref d,.non]) tb=some (.tup [.ref U,.ref d,.non]):=A0b;generalize upd H5 tb (.tup [.ref U,.ref d,.non])=H6 at sT eT;have s6:=s1.trans (s5.trans sT);refine i0o _ rfl _ _ rfl rfl ?_;refine hs cl c2 tb U d (p+1) ro .non none ns es (g++[x]) nm lk S H6 _ (s6 _ _ a7) (by lia) (.add (sT _ _ f0) J.2.2.1 J.2.2.2 (by simp;lia) B.hn B.dk λz O=>by rw [Z0w.mp O];exact mx) (by simp;lia) eT (b8.same s6) (B.same s6) (.inl ⟨rfl,rfl⟩) (λe he=>by cases he) (A6d b4 mx) (by lia) (fr.same s6) _ _ (by lia) (by lia) λt1 v1 u1 p1 H2 s2 h2 a5 Y a0 d8 f5 e1 R=> ?_;have d0:=R.non;have b9:=s6.trans s2;have b7:=s2 _ _ (sT _ _ (s5 _ _ W));refine i1a t1 _ rfl (SqT.of h2) rfl _ _ rfl _ _ rfl rfl ?_;refine i0w _ rfl _ rfl _ _ rfl rfl (i0o _ rfl D _ rfl (.inl (SqL.of b7)) (i0m _ _ rfl rfl hc (i0y D _ _ _ rfl rfl (SqL.of b7) ey ?_)));have f2:=fr.same b9;refine i02 (λZ G=>∃(vb:V) (ub:Tm) (oi:Option V),Z=[Sro cl,Sio (p1:Int),Sro sc,Sro bk,Sio ((ro+1:Nat):Int),Sro U,Sro d,some ow,Sio (I/8),Sio (I%8),Sso x,Sro D,some vb,Sso y,oi,none,none,none,none,none]/\A0u H2 G/\Rep (A0s S G) vb (A1s ub)/\TmW ub/\TmL lk ub/\dep ub<=6+3*ro/\SfT (lnL lk) (okA (lnL lk) es) (okA (lnL lk) es) nm (g++[x]) ub) ?_ ?_
    ·refine B4l (d1:=decide (V.int (I/8/1001%3)=V.int 0)) (d2:= ! decide (V.str y=V.str x)) (λQ' q=>(i18 _ rfl _ _ rfl rfl ⟨by decide,by decide⟩ _ _ rfl rfl D6l (i05 rfl _ rfl q))) (λQ' q=>(i02 _ rfl (i0j _ rfl rfl _ rfl q))) ?_
     cases hb:(decide (V.int (I/8/1001%3)=V.int 0)&& ! decide (V.str y=V.str x)) with
     | false=>exact A2m (i0g v1 u1 none rfl (i0h (A0u.refl _) a5 Y a0 (by lia) d0))
     | true =>
      have yx:¬y=x:=λz=>by rw [z] at hb;simp at hb
      refine A5r (i0s _ rfl _ _ rfl rfl ⟨by decide,by decide⟩ (i0e _ rfl _ rfl (i0k _ rfl _ rfl (A0v rfl) λzl b1=>(i10 sc zl _ _ rfl rfl ((A0e b1) _ _ (b9 _ _ J.1)) A0b (A2a (by simp;lia)) λc3 g5=> ?_))));have s7:=(A0e (o:= .lst [.str x,.str y]) b1).trans (A0e (o:= .lst (g.map V.str++[V.str x,V.str y])) g5);have f6:upd (upd H2 zl (.lst [.str x,.str y])) c3 (.lst (g.map V.str++[V.str x,V.str y])) c3=some (.lst ((g++[x,y]).map V.str)):=by rw [A0b,Z0s];rfl
      generalize upd (upd H2 zl (.lst [.str x,.str y])) c3 (.lst (g.map V.str++[V.str x,V.str y]))=H7 at s7 f6;have c1:=b9.trans s7;refine i0l _ rfl _ U c3 ⟨d,(i1d .non none es (g++[x,y]) lk S rfl (b8.same c1) (.add f6 J.2.2.1 J.2.2.2 (by simp;lia) B.hn B.dk (λz O=> ?_)) ((B.same c1).h) (.inl ⟨rfl,rfl⟩) (λe he=>by cases he) (fr.same c1) λv2 u2 G2 e3 a2 a3 a6 c9 X=> ?_)⟩
      ·rcases Z0e.mp O with O | O
       ·rw [O];exact mx
       ·rw [Z0w.mp O];exact my
      have c5:=c1.trans e3;refine i12 _ rfl _ rfl _ rfl _ _ rfl rfl (i05 ⟨by decide,by decide⟩ _ rfl (i03 y v2 (i1d _ d u2 lk S 4 rfl ((B.hn y my).1) (E0s (B.hn y my).2) j1 ((B.same c5).h) (fr.same c5) a2 (i09 a3 a6 c9 (by decide) λv3 u3 G3 d7 g7 g4 i4 j8 i7=> ?_))));have e2:g++[x,y]=g++[x]++[y]:=by simp
      have b3:=(X nm).non;rw [e2] at b3;have e0:=i7 (okA (lnL lk) es) (okA (lnL lk) es) nm (g++[x]) my (λz=>by rcases Z07.mp z with z | z;exact h0 z;exact yx (Z0w.mp z)) b3.ti b3.sf;have g8:=c5.trans d7;have f9:=fr.same g8;have e9:=s7.trans (e3.trans d7);obtain ⟨op,c6⟩:=D6v (I/8/11);refine ⟨A0v rfl,λll d4=>(i18 _ rfl _ _ rfl rfl ⟨by decide,by decide⟩ _ _ rfl rfl D6l (i0y ll _ _ _ rfl rfl (SqL.of A0b) c6 (i0k _ rfl _ rfl (A0v rfl) λq1 N=> ?_)))⟩
      have sA:=A0e (o:= .lst [.str "plus",.str "minus",.str "times"]) d4;have sB:=A0e (o:= .tup [.str (opS op),v1,v3]) N;have c8:=sA.trans sB;exact i0g (.ref q1) (.pair op u1 u3) _ rfl (i0h (e9.trans c8) (B7j (A0h (f9 q1 (sA.free N)) A0b) (a5.same (A0g (e9.trans c8))) (g7.same (A0g c8))) ⟨Y,g4⟩ ⟨a0,i4⟩ (by simp only [dep];lia) ⟨⟨d0.ti,e0.ti⟩,λρ L=>⟨d0.sf ρ L,e0.sf ρ L⟩⟩)
    rintro Z G ⟨vb,ub,oi,rfl,sG,i1,h8,i8,i3,f4⟩;have d6:=b9.trans sG;refine i12 _ rfl _ rfl _ rfl _ _ rfl rfl (i05 ⟨by decide,by decide⟩ _ rfl (i03 x vb (i1d _ d ub lk S (6+3*ro) rfl ((B.hn x mx).1) (E0s (B.hn x mx).2) g0 ((B.same d6).h) (fr.same d6) i1 (i09 h8 i8 i3 (by lia) λv4 u4 G4 h6 g2 i6 f7 j9 i5=>(i06 _ rfl (A0v rfl) λq2 a9=> ?_)))));have sC:=A0e (o:= .tup [v4,.int (p1:Int)]) a9;exact k q2 v4 u4 p1 _ (d6.trans (h6.trans sC)) A0b (g2.same (A0g sC)) i6 f7 (by lia) (by lia) (by lia) (i5 _ _ nm g mx f8 f4.ti f4.sf)
   ·rw [Z1j hc];exact hF
theorem D0b (T:Txt K mg t):∀n:Nat,A3h P w K mg base CX0 (n+5) t.q_ t.qj C5n (B9l n)
 | 0=>B9g T (m:=4) (sp':=λ_ _ _ _=>False) (by decide) (A3h.none λ_ _ _ _ h=>h) λ_ _ _ _ _ _ _ _ _ _ _ _ _ _ _ _ _ _ _ _ _ _ _ _ _ _ _ h=>absurd h (by lia)
 | n+1=>B9g T (m:=n+5) (by lia) (D0b T n) λr o y F d p a D b I j c A G S H Q l x B i C u k z f v L e J M g s q=>by
  subst g s;exact i11 r o y F d p a D b (i1d I j c A G S rfl l x B i C u ⟨k,(i0h z f v (by lia) e q)⟩)
def c60:Nat->Int
 | 0=>1
 | n+1=>c60 n*60
theorem E1e (h:n<=5):c60 n<=777600000:=by
 have h:n=0\/n=1\/n=2\/n=3\/n=4\/n=5:=by lia
 rcases h with rfl | rfl | rfl | rfl | rfl | rfl <;> decide
theorem B0f.le {z:Int} (h:B0f lk ys z):B0c lk ys->1<=z/\z<=c60 ys.length:=by
 induction h with
 | nil=>intro _;exact ⟨by decide,by decide⟩
 | @snoc ys y z n a b ih =>
  intro c;obtain ⟨g,i⟩:=ih λx d=>c x (Z07.mpr (.inl d));obtain ⟨m,e,f,j⟩:=c y (by simp);rw [b] at e;cases e;rw [Z06];have l:=Int.mul_le_mul g f (by lia) (by lia);have k:=Int.mul_le_mul i j (by lia) (by lia);exact ⟨by lia,k⟩
def TrB (Zz:Tm->Prop) (S:Addr->Prop) (lk:List (Key×V)) (n:Nat) (H:Hp) (v:V):Prop:=∃u,Rep (A0s S H) v (A1s u)/\TmW u/\TmL lk u/\dep u<=n/\nod u<=120/\Zz u
theorem TrB.mono {S':Addr->Prop} {b:Nat} (h:TrB Zz S lk n H v) (s:A0u H H') (c:∀a o,H a=some o->S a->S' a) (e:n<=b):TrB Zz S' lk b H' v:=by
 obtain ⟨u,r,w,t,d,k⟩:=h;exact ⟨u,(i09 (r.same (A2x s c)) w t (by lia) k)⟩
theorem TrB.same (h:TrB Zz S lk n H v) (s:A0u H H'):TrB Zz S lk n H' v:=h.mono s (λ_ _ _ q=>q) (Z09 _)
theorem TrB.lst (h:TrB Zz S lk n H v) (a:¬S l):TrB Zz S lk n (upd H l o) v:=by
 obtain ⟨u,r,w,t,d,k⟩:=h;exact ⟨u,(i09 (r.same (A2i (A0u.refl _) a)) w t d k)⟩
theorem tOr2 (c:∀a:Bool->Hp->Prop,a d1 H->t1 Z H a) (b:∀a:Bool->Hp->Prop,a d2 H->t2 Z H a) (h:Q (d1||d2) H):tOr t1 t2 Z H Q:=by
 refine c _ ?_
 cases d1 with
 | true=>exact h
 | false=>exact A2m (b _ h)
def LbI (Zz:Tm->Prop) (S:Addr->Prop) (lk:List (Key×V)) (H:Hp) (cl sc e c:Addr) (a z:Int) (m:Nat) (Z:St) (H2:Hp):Prop:=∃(b:List V) (p:Nat) (d:Option V),Z=[Sro cl,Sro sc,Sro e,Sio a,Sio z,Sro c,Sio (p:Int),d,none,none,none]/\A0u H H2/\H2 c=some (.lst b)/\b.length<=16/\p<=7*b.length/\(∀v∈b,TrB Zz S lk 10 H2 v)/\m=16-b.length
def LbJ (Zz:Tm->Prop) (S:Addr->Prop) (lk:List (Key×V)) (H:Hp) (cl sc e:Addr) (b z:Int) (p:Nat) (m:Nat) (Z:St) (H2:Hp):Prop:=∃(l:Addr) (c:List V) (g f h d:Option V) (S':Addr->Prop),Z=[Sro cl,Sro sc,Sro e,Sio b,Sio z,Sro l,Sio (p:Int),g,f,h,d]/\A0u H H2/\H2 l=some (.lst c)/\Fr S' H2/\(∀a,S' a->S a)/\1<=c.length/\c.length<=2^m/\m<=4/\∀v∈c,TrB Zz S' lk (14-m) H2 v
def C0p:Sp:=λq H Q _=>∃(m k i o d:Addr) (n:V) (c:Option (Str×List Str)) (b:Int) (p:List Int) (j:List (Str×List Str)) (a h:List Str) (f:List (Key×V)) (S:Addr->Prop),q=[.ref m,.ref k,.ref i,.int b]/\H m=some (.lst (p.map V.int))/\D0z H f k a/\a.length<=5/\H i=some (.tup [.ref o,.ref d,n])/\D5y H f o j/\D7k H d f h/\D7t H f n c/\OwS c a/\(∀x∈a,x∈h)/\b<=120/\Fr S H/\
 ∀(l:V) (e:Tm) (g:Hp),A0u H g->Rep (A0s S g) l (A1s e)->TmW e->TmL f e->dep e<=14->nod e<=120->LfZ f j c h a e->Q l g
theorem D3t {z w a:Int} (c:1<=z) (h:(n:Int)<=w) (b:a<=120) (d:¬a<z*w):n<=120:=by
 have:0<=(z-1)*w:=Int.mul_nonneg (by lia) (by lia);rw [Int.sub_mul,Int.one_mul] at this
 lia
theorem C0h (T:Txt K mg t):FO P w base T.pf 25 C0p:=by
 have Gc6:= @B3i P w K mg base t T;have Gc7:= @A6w P w K mg base t T;have Gd3:= @A5a P w K mg base t T;have Gc8:= @A6i P w K mg base t T;have Gd2:= @D0b P w K mg base t T 2;have Gd1:= @B9j P w K mg base t T 23;refine T.pf.F.ok A2j (λc H Q E h=> ?_) λ_ A _ s H _ Q E hr h=> ?_
 ·refine e0h h ?_;clear h;rintro O W N ar d ow I g ns es scn ⟨nm,x,S,rfl,_⟩;rfl
 ·refine e0h h ?_;clear h;rintro O W N ar d ow I g ns es scn ⟨nm,x,S,rfl,b6,a5,d6,a8,d7,a6,d0,c9,d4,b7,fr,k⟩;have zn:∀z,LfZ x es I nm scn (.num z):=λz=>⟨True.intro,λ_ _=>True.intro⟩;have zp:∀o a b,LfZ x es I nm scn a->LfZ x es I nm scn b->LfZ x es I nm scn (.pair o a b):=λo a b U hb=>⟨⟨U.ti,hb.ti⟩,λρ hr=>⟨U.sf ρ hr,hb.sf ρ hr⟩⟩;obtain ⟨Zz,hZ⟩:∃Zz,Zz=LfZ x es I nm scn:=⟨_,rfl⟩;rw [<-hZ] at zn zp k;refine i02 _ (@RS.r _ _ _ (rq1 (rq6 4 A2j.nd (pcl Gc6 hr T.kz (A0a (pv 1) (A0a (A1f A1h (pv 2) A0d (λ_ _=>rfl)) A0c)))) (rq1 (rq6 5 A2j.nd (@A1r _ _ _ _ A0c)) (rq1 (rq6 6 A2j.nd A0d) (rq1 ⟨@B0a _ _ _ _ _ _ PassesOwn.never (PW.pt (B6w (A0p A3d (A0q A0y (by rfl) T.ce Z0r (A0a (pv 5) A0c)) A0d (A1b _)) (B5l (PW.pt (A3x (A0p B9a (pv 6) (A0q A0y (by rfl) T.ce Z0r (A0a (pv 0) A0c)) (A1b _)) (A4f (A0p B9a (A0q A0y (by rfl) T.ce Z0r (A0a (pv 5) A0c)) A0d (A1b _)))))))) (@A1t _ _ _ _ _ (A9g (pcl Gd2 hr T.gx (A0a (pv 0) (A0a (pv 6) (A0a (pv 1) (A0a (pv 2) (A0a A0d A0c)))))) (A3v (n:=2) rfl (A0r (A0k (i:=7) A2j.nd rfl (.inl rfl)) (A0r (A0k (i:=6) A2j.nd rfl (.inl rfl)) A2p)))) (@A9l _ _ _ _ _ (@B5c _ _ _ _ _ _ _ _ (A0p A8u (A0j A6e (pv 4) (pcl Gd1 hr T.fc (A0a (pv 7) (A0a (A1f A1h (pv 2) A0d (λ_ _=>rfl)) A0c)))) (pv 3) (A1b _)) (@A2z _ _ _ (@A3e _ _ 7 _ _ _ _ A2j.nd rfl (.inl rfl) (A1z (A0a A1w (A0a (pcl Gc8 hr T.dh (A0a (pcl Gc7 hr T.e8 (A0a (pcl Gd3 hr T.bc (A0a (pv 0) (A0a (pv 6) A0c))) (A0a (pv 6) A0c))) A0c)) A0c))) rfl (.inl rfl))) A0x) (@A2z _ _ _ (A2r (A7c Z0k Z0n Z0o A2e (pv 5) (A0a (pv 7) A0c))))))⟩ (rq1 ⟨@B0a _ _ _ _ _ _ PassesOwn.never (A0p A8u (A0q A0y (by rfl) T.ce Z0r (A0a (pv 5) A0c)) A0d (A1b _)) (@A1t _ _ _ _ _ (@A3e _ _ 8 _ _ _ _ A2j.nd rfl (.inl rfl) (@A1r _ _ _ _ A0c) rfl (.inl rfl)) (@A1t _ _ _ _ _ (C6y PassesOwn.never rfl (B7w rfl T.dm (A0a A0d (A0a (A0j A3p (A0q A0y (by rfl) T.ce Z0r (A0a (pv 5) A0c)) A0d) (A0a A0d A0c)))) (A0k (i:=9) A2j.nd rfl (.inl rfl)) (@A1t _ _ _ _ _ (@A3e _ _ 10 _ _ _ _ A2j.nd rfl (.inl rfl) (A1z (A0a (A1f A1n (@A1r _ _ _ _ (A0a A1w (A0a A1w (A0a A1w A0c)))) (A0j A1j (A0j A2h (pv 9) (A0q A0y (by rfl) T.ce Z0r (A0a (pv 5) A0c))) A0d) (λ_ _=>rfl)) (A0a (A1f A1n (pv 5) (pv 9) (λ_ _=>rfl)) (A0a (A1f A1n (pv 5) (A0j A2h (pv 9) A0d) (λ_ _=>rfl)) A0c)))) rfl (.inl rfl)) (@A9l _ _ _ _ _ (@B5c _ _ _ _ _ _ _ _ (A0p A8u (A0j A6e (pv 4) (pcl Gd1 hr T.fc (A0a (pv 10) (A0a (A1f A1h (pv 2) A0d (λ_ _=>rfl)) A0c)))) (pv 3) (A1b _)) (@A2z _ _ _ (@A3e _ _ 10 _ _ _ _ A2j.nd rfl (.inl rfl) (A1f A1n (pv 5) (pv 9) (λ_ _=>rfl)) rfl (.inl rfl))) A0x) (@A2z _ _ _ (A2r (A7c Z0k Z0n Z0o A2e (pv 8) (A0a (pv 10) A0c))))))) (@A9l _ _ _ _ _ (@B5c _ _ _ _ _ _ _ _ (A0p A3d (A0j A1j (A0q A0y (by rfl) T.ce Z0r (A0a (pv 5) A0c)) A0d) A0d (A1b _)) (@A2z _ _ _ (A2r (A7c Z0k Z0n Z0o A2e (pv 8) (A0a (A1f A1n (pv 5) (B7k B0p A0d) (λ_ _=>rfl)) A0c)))) A0x) (@A2z _ _ _ (@A3e _ _ 5 _ _ _ _ A2j.nd rfl (.inl rfl) (pv 8) rfl (.inl rfl))))))⟩ (rq3 (rq5 (A1f A1n (pv 5) A0d (λ_ _=>rfl)))))))))) ?_;refine i17 _ rfl _ rfl N _ _ _ rfl rfl (SqT.of a8) rfl (i0y W d scn x rfl a5.1 a6.h a5.2.2.2 λz z1 mo=> ?_);have zb:=Int.le_trans (mo.le a5.2.2.2).2 (E1e d6);refine ⟨A0v rfl,λM c1=> ?_⟩;have s1:=A0e (o:= .lst []) c1;refine i02 (LbI Zz (λb=>S b/\b≠M) x H O W N M g z) (i10 16 [] 0 none rfl s1 A0b (by decide) (by decide) ⟨(λv hv=>by cases hv),rfl⟩) ?_;rintro m Z H2 ⟨c,p,o7,rfl,D,R,b9,lp,b2,rfl⟩;have a7:∀{G:Hp},A0u H2 G->Fr (λb=>S b/\b≠M) G:=λ{G} s b hb=>⟨fr b ((D.trans s).free hb),λe=>by rw [e,s _ _ R] at hb;cases hb⟩;have dl:∀{α:Type} (xs:List α),decide (V.int (xs.length:Int)=V.int 0)=decide (xs.length=0):=λxs=>decide_eq_decide.mpr ⟨λh=>by have:=V.int.inj h;lia,λh=>by rw [h];rfl⟩;refine tOr2 (d1:=decide (c.length=0)) (d2:=decide ((p:Int)<((ns.map V.int).length:Int))&&decide ((c.length:Int)<16)) (λQ' q=>(i0o _ rfl M _ rfl (.inl (SqL.of R)) (i05 rfl _ rfl (by rw [dl];exact q)))) (λQ' q=>B4l (d1:=decide ((p:Int)<((ns.map V.int).length:Int))) (d2:=decide ((c.length:Int)<16)) (λQ' q=>(i0w _ rfl _ rfl O _ rfl (.inl (SqL.of (D _ _ b6))) (i0q _ _ rfl rfl _ rfl q))) (λQ' q=>(i0o _ rfl M _ rfl (.inl (SqL.of R)) (i0q _ _ rfl rfl _ rfl q))) q) ?_
  cases hb:(decide (c.length=0)||(decide ((p:Int)<((ns.map V.int).length:Int))&&decide ((c.length:Int)<16))) with
  | true =>
   have lv:c.length<16:=by
    simp only [Bool.or_eq_true,Z1x,decide_eq_true_eq] at hb
    lia
   refine A5r (i02 (λZ' H'=>∃m',m'<16-c.length/\LbI Zz (λb=>S b/\b≠M) x H O W N M g z m' Z' H') (λZ' H' z=>z) ?_);refine i0e _ rfl _ rfl (i0e _ rfl _ rfl (i11 O W N ar d p 2 ow I (i1d ns es scn nm x (λb=>S b/\b≠M) rfl (D _ _ b6) (by show p+7<=1000;lia) (a5.same D) (by lia) (D _ _ a8) (d7.same D) ⟨a6.same D,(i0h (d0.same D) c9 d4 (Z09 _) (a7 (A0u.refl _)) λtp tv u' p' H3 s3 e3 rp wu tu du lo hi lz=> ?_)⟩)));rw [<-hZ] at lz;have hi:p'<=p+7:=hi;have du:dep u'<=10:=du;have b5:=D.trans s3;refine i1a tp _ rfl (SqT.of e3) rfl _ _ rfl _ _ rfl rfl ?_;refine i02 (λZ G=>∃(v:V),Z=[Sro O,Sro W,Sro N,Sio g,Sio z,Sro M,Sio (p':Int),some v,none,none,none]/\A0u H3 G/\TrB Zz (λb=>S b/\b≠M) x 10 G v) ?_ ?_
   ·refine i02 _ rfl (i17 _ rfl _ rfl N _ _ _ rfl rfl (SqT.of (b5 _ _ a8)) rfl (i10 tv d u' x rfl (rp.same A0m) tu ((a6.same b5).h) (by lia) λwt hw _=> ?_));refine i07 _ _ rfl (i0a rfl (.inl ⟨by lia,by lia⟩) _ rfl (i0q _ _ rfl rfl _ rfl (A8z (λ_=> ?_) (λb0=> ?_))))
    ·refine i02 _ rfl (i0x _ rfl O ns (p':Int) rfl (SqL.of (b5 _ _ b6)) (by lia) λc0=>(i0s _ rfl c0 (p':Int) rfl (by lia) (by lia) λr0=>(i02 r0 rfl λn hn=>⟨A0v rfl,λq1 a3=> ?_⟩)));exact i0d _ rfl (A0e a3) (.num n) (i0h (C6x (A0h (a7 s3 q1 a3) A0b)) hn True.intro (by show 1<=10;decide) (by show 1<=120;decide) (zn n))
    ·exact i0d tv rfl (A0u.refl _) u' (i0h rp wu tu du (D3t z1 hw b7 b0) lz)
   rintro Z G ⟨v,rfl,sG,c8⟩;have b3:=s3.trans sG;have hG:=b3 _ _ R;refine i0j _ rfl (.inl (i01 rfl _ (SqL.of hG))) _ rfl (i0u M _ _ rfl rfl hG (A1l (by lia)) ?_);refine i0x (15-c.length) (by lia) (c++[v]) p' _ rfl (A0o (D.trans b3) c1) A0b (i04 (by rw [Z06];simp only [Z0y,Z2g];lia) (by rw [Z06];simp only [Z0y,Z2g];lia) (λy B=> ?_) (by rw [Z06];simp only [Z0y,Z2g];lia));rcases Z07.mp B with B | B
   ·exact ((b2 y B).same b3).lst λq=>q.2 rfl
   ·rw [Z0w.mp B];exact c8.lst λq=>q.2 rfl
  | false =>
   have lv:1<=c.length:=by
    simp only [Bool.or_eq_false_iff,Bool.and_eq_false_iff,decide_eq_false_iff_not] at hb
    lia
   refine A2m ?_;refine i02 (LbJ Zz S x H O W N g z p) (i03 4 M (i1d c o7 none none none (λb=>S b/\b≠M) rfl D R (a7 (A0u.refl _)) (λa q=>q.1) lv b9 ⟨by decide,b2⟩)) ?_;clear a7 hb b9 lp b2 R D lv c;rintro m Z H2 zz;refine e08 zz ?_;clear zz;rintro l c o7 o8 o9 ⟨Y,S',rfl,D,R,c3,c4,v1,vm,m4,hv⟩;refine i0o _ rfl l _ rfl (.inl (SqL.of R)) (i0q _ _ rfl rfl _ rfl (A8z (λu=> ?_) (λu=> ?_)))
   ·have u:2<=c.length:=by
     have:(1:Int)<(c.length:Int):=u
     lia
    obtain ⟨n,rfl⟩:∃n,m=n+1:=by
     cases m with
     | zero=>simp at vm;lia
     | succ n=>exact ⟨n,rfl⟩
    rw [Nat.pow_succ] at vm
    have d8:c.length<=16:=by
     have:2^n<=2^3:=Nat.pow_le_pow_right (by decide) (by lia)
     lia
    refine i02 (λZ' H'=>∃m',m'<n+1/\LbJ Zz S x H O W N g z p m' Z' H') (λZ' H' z=>z) ?_;refine ⟨A0v rfl,λf hf=> ?_⟩;have s3:A0u H2 (upd H2 f (.lst [])):=A0e hf;refine i0o _ rfl l _ rfl (.inl (SqL.of (s3 _ _ R))) (i0f _ _ rfl rfl (i0n 0 _ 2 rfl (i0h (by decide) (by decide) (by lia) (by lia) (by decide) (by decide)) ?_));have a0:=C9y u;have b4:∀a o,H2 a=some o->S' a->S' a/\a≠f:=λa o U hs=>⟨hs,A0z U hf⟩
    refine C4s (n:=(Builtin.Range.rangeSize 0 ((c.length:Int)-1) 2).toNat) (λi Z H4=>∃(o9 Y:Option V) (L:List V),Z=[Sro O,Sro W,Sro N,Sio g,Sio z,Sro l,Sio (p:Int),o7,Sro f,o9,Y]/\A0u H2 H4/\H4 f=some (.lst L)/\L.length=i/\
     ∀v∈L,TrB Zz (λa=>S' a/\a≠f) x (14-n) H4 v) (i0u _ _ [] rfl s3 A0b rfl (by simp)) ?_ ?_
    ·rintro i Z H4 hi ⟨o9,Y,L,rfl,X,h4,a4,hw⟩;refine B3x ?_;intro D';rw [a0] at hi;have ek:(0:Int)+(i:Int)*2=((2*i:Nat):Int):=by lia
     rw [ek];have c7:∀{G:Hp},A0u H4 G->Fr (λa=>S' a/\a≠f) G:=λ{G} s a U=>⟨c3 a ((X.trans s).free U),λz=>by rw [z,s _ _ h4] at U;cases U⟩;have J:=X _ _ R;obtain ⟨va,a1⟩:∃va,c[2*i]? =some va:=⟨c[2*i]'(by lia),by simp⟩;obtain ⟨vb,b1⟩:∃vb,c[2*i+1]? =some vb:=⟨c[2*i+1]'(by lia),by simp⟩;have ta:=(hv _ (Z13 a1)).mono X b4 (Z09 _);have tb:=(hv _ (Z13 b1)).mono X b4 (Z09 _);have eb:atI c (((2*i:Nat):Int)+1)=some vb:=A3j (j:=2*i+1) b1;obtain ⟨op,c6⟩:=D6v (((2*i:Nat):Int)+(c.length:Int));refine ⟨A0v rfl,λll d5=> ?_⟩;have sA:=A0e (o:= .lst [.str "plus",.str "minus",.str "times"]) d5;refine i0w _ rfl _ rfl l _ rfl (.inl (SqL.of (sA _ _ J))) (i0f _ _ rfl rfl (i0m _ _ rfl rfl D6l (i0y ll _ _ _ rfl rfl (SqL.of A0b) c6 ?_)));refine i17 _ rfl _ rfl l _ _ _ rfl rfl (SqL.of (sA _ _ J)) (A3j a1) (i0w _ rfl _ rfl _ _ rfl rfl (i10 l _ _ _ rfl rfl (SqL.of (sA _ _ J)) eb (A0v rfl) λq1 a3=> ?_));have sB:=A0e (o:= .tup [.str (opS op),va,vb]) a3;have C:=sA.trans sB;have fq:=c7 sA q1 a3;have e5:upd (upd H4 ll (.lst [.str "plus",.str "minus",.str "times"])) q1 (.tup [.str (opS op),va,vb]) q1=some (.tup [.str (opS op),va,vb]):=A0b;generalize upd (upd H4 ll (.lst [.str "plus",.str "minus",.str "times"])) q1 (.tup [.str (opS op),va,vb])=H5 at C e5;have b8:=ta.same C;have d3:=tb.same C;obtain ⟨ua,ra,wa,la,da,na,za⟩:=id b8;obtain ⟨ub,rb,wb,lb,db,nb,zb⟩:=d3;have rq:Rep (A0s (λa=>S' a/\a≠f) H5) (.ref q1) (A1s (.pair op ua ub)):=B7j (A0h fq e5) ra rb;have dq:dep (.pair op ua ub)<=14-n:=by simp only [dep];lia
     have c2:=D.trans (X.trans C);refine i02 (λZ H6=>H5=H6/\∃(v:V),Z=[Sro O,Sro W,Sro N,Sio g,Sio z,Sro l,Sio (p:Int),o7,Sro f,Sio ((2*i:Nat):Int),some v]/\TrB Zz (λa=>S' a/\a≠f) x (14-n) H5 v) ?_ ?_
     ·refine i02 _ rfl (i17 _ rfl _ rfl N _ _ _ rfl rfl (SqT.of (c2 _ _ a8)) rfl (i10 (.ref q1) d _ x rfl (rq.same A0m) ⟨la,lb⟩ ((a6.same c2).h) (by lia) λwt hw _=> ?_));refine i07 _ _ rfl (i0a rfl (.inl ⟨by lia,by lia⟩) _ rfl (i0q _ _ rfl rfl _ rfl (A8z (λ_=> ?_) (λb0=> ?_))))
      ·exact i02 _ rfl (i1c _ rfl l _ _ _ rfl rfl (SqL.of (C _ _ J)) (A3j a1) rfl va rfl (b8.mono (A0u.refl _) (λ_ _ _ q=>q) (by lia)))
      ·exact i05 rfl _ rfl ⟨_,(i0h rq ⟨wa,wb⟩ ⟨la,lb⟩ dq (D3t z1 hw b7 b0) (zp op ua ub za zb))⟩
     rintro Z H6 ⟨rfl,v6,rfl,t6⟩;have h6:=C _ _ h4;refine i0j _ rfl (.inl (i01 rfl _ (SqL.of h6))) _ rfl (i0u f _ _ rfl rfl h6 (A1l (by lia)) ?_);refine i0u _ _ (L++[v6]) rfl (A0o (X.trans C) hf) A0b (by simp [a4]) λy B=> ?_;rcases Z07.mp B with B | B
     ·exact ((hw y B).same C).lst λq=>q.2 rfl
     ·rw [Z0w.mp B];exact t6.lst λq=>q.2 rfl
    rintro Z H4 ⟨o9,Y,L,rfl,X,h4,a4,hw⟩;rw [a0] at a4;have J:=X _ _ R;refine i02 (λZ H5=>∃L,Z=[Sro O,Sro W,Sro N,Sio g,Sio z,Sro l,Sio (p:Int),o7,Sro f,o9,Y]/\A0u H2 H5/\H5 f=some (.lst L)/\L.length=(c.length+1)/2/\∀v∈L,TrB Zz (λa=>S' a/\a≠f) x (14-n) H5 v) ?_ ?_
    ·refine i0o _ rfl l _ rfl (.inl (SqL.of J)) (i0f _ _ rfl rfl (i0a D6i rfl _ rfl (A8z (λa9=> ?_) (λc5=> ?_))))
     ·have a9:((c.length:Int)%2)=1:=by injection a9
      obtain ⟨va,a1,a2⟩:=C3j (xs:=c) (by lia);refine i06 _ rfl (.inl (i01 rfl _ (SqL.of h4))) (i17 _ rfl _ rfl l _ _ _ rfl rfl (SqL.of J) a2 (i0u f _ _ rfl rfl h4 (A1l (by lia)) ?_));refine ⟨L++[va],(i09 rfl (A0o X hf) A0b (by simp;lia) λy B=> ?_)⟩;rcases Z07.mp B with B | B
      ·exact (hw y B).lst λq=>q.2 rfl
      ·rw [Z0w.mp B];exact ((hv _ (Z13 a1)).mono X b4 (by lia)).lst λq=>q.2 rfl
     ·have c5:¬((c.length:Int)%2)=1:=λz=>c5 (congrArg V.int z);exact ⟨L,(i09 rfl X h4 (by lia) hw)⟩
    rintro Z H5 ⟨L,rfl,s5,h5,a4,hw⟩;exact i0e _ rfl n (by lia) ⟨f,(i1d L _ _ _ _ _ rfl (D.trans s5) h5 (λa U=>⟨c3 a (s5.free U),λz=>by rw [z,h5] at U;cases U⟩) (λa q=>c4 a q.1) (by lia) (by lia) ⟨by lia,hw⟩)⟩
   ·have u:c.length=1:=by
     have:¬(1:Int)<(c.length:Int):=u
     lia
    obtain ⟨va,a1⟩:∃va,c[0]? =some va:=⟨c[0]'(by lia),by simp⟩;obtain ⟨ua,ra,wa,la,da,na,za⟩:=hv _ (Z13 a1);exact i13 _ rfl l _ _ _ rfl rfl (SqL.of R) (A3j (j:=0) a1) (k va ua H2 D (ra.same (A2x (A0u.refl _) λa _ _ q=>c4 a q)) wa la (by lia) na za)
theorem C1a {xs:List Nat} {i:Int} {b:Nat} (e:0<=i) (h1:i<xs.length) (a:∀x∈xs,x<=b):∃m:Nat,m<=b/\atI (xs.map λ(n:Nat)=>V.int (n:Int)) i=some (.int (m:Int)):=by
 obtain ⟨x,d,c⟩:=A6t (f:=λn:Nat=>V.int (n:Int)) e h1;exact i02 x (a x (Z13 d)) c
def AxL (ax:List (Str×Int)):Prop:=(∀e∈ax,1<=e.2/\e.2<=60)/\NmS (ax.map (·.1))/\(ax.map (·.1)).Nodup/\ax.length<=8
theorem E0v (h:H d=some (.dK (A2g ax))) (k:AxL ax):D7k H d (A2g ax) (ax.map (·.1)):=by
 have j:(A2g ax).map (·.1)=(ax.map (·.1)).map (Sum.inr:Str->Key):=by unfold A2g;rw [List.map_map,List.map_map];rfl
 refine ⟨h,j,λy l=> ?_,k.2.1,by have:=k.2.2.2;rw [Z08];lia⟩;obtain ⟨e,g,rfl⟩:=Z2c.mp l;obtain ⟨i,m,n⟩:=List.mem_iff_getElem.mp g;refine i02 e.2 (C3l (i:=i) ?_ ?_) (k.1 e g)
 ·rw [j];exact k.2.2.1.map (f:=(Sum.inr:Str->Key)) λa b c z=>c (Sum.inr.inj z)
 ·unfold A2g;rw [Z1z,Z0b m,n];rfl
def mxL (m:Nat):Int:=if 4<m then 2 else 4
def Bd (m:Nat) (ax:List (Str×Int)):Prop:=∀(j:Nat) (e:Str×Int),ax[j]? =some e->1<=j->e.2<=mxL m
def B4b (K:Frag):Sp:=λh H Q _=>∃(a g:Addr) (i:List Int) (c:List Str),h=[.ref a,.ref g]/\SqL K H a (i.map V.int)/\H g=some (.lst (c.map V.str))/\10<=c.length/\c.Nodup/\
 ∀(d:Addr) (b:List (Str×Int)) (f:Hp),H d=none->A0u H f->f d=some (.dK (A2g b))->b.map (·.1)=c.take b.length->b.length<=8->(∀e∈b,1<=e.2/\e.2<=60)->Bd b.length b->Q (.ref d) f
theorem B2w (T:Txt K mg t):FO P w base T.g_ 3 (B4b K):=by
 have Gd6:= @B8g P w K mg base t T;have Gd3:= @A5a P w K mg base t T;refine T.g_.F.ok A3q (by walk_at "ln") λ_ A _ s H _ Q E M h=> ?_
 ·obtain ⟨a,v,ns,f,rfl,hS,B,a1,nd,k⟩:=h;have hu:=A8b M;refine i02 _ (@RS.r _ _ _ (rq1 (rq6 2 A3q.nd B2p) (rq1 (rq6 3 A3q.nd (A1f A1n (@A1r _ _ _ _ (A0a A0d (A0a A0d (A0a A0d (A0a A0d (A0a A0d (A0a A0d (A0a A0d (A0a A0d (A0a A0d (A0a A0d A0c))))))))))) (A0j A1j (A0j A1o (pcl Gd3 M T.bc (A0a (pv 0) (A0a A0d A0c))) A0d) A0d) (λ_ _=>rfl))) (rq1 (rq7 (A4a rfl T.dm (A0a (pv 3) A0c)) (A0k (i:=4) A3q.nd rfl (.inl rfl)) (rq1 (rq6 5 A3q.nd (pcl Gd6 M T.ms (A0a (pcl Gd3 M T.bc (A0a (pv 0) (A0a A0d A0c))) (A0a (pv 4) A0c)))) (rq1 ⟨@A6k _ _ _ _ _ _ _ _ _ hu (pv 2) (A1f A1n (pv 1) (pv 4) (λ_ _=>rfl)) (A0j A2h A0d (A0j A1j (pv 5) (A1f A1n (@A1r _ _ _ _ (A0a A0d (A0a A0d A0c))) (A2k B7y (by rfl) T.As PyProof.Rows.boot_int (A0a (D0u A8u (pv 3) A0d (A1b _)) A0c)) (λ_ _=>rfl)))) rfl⟩ (rq3 (rq4 (PW.pt (A3x (A0p A3d (pv 4) A0d (A1b _)) (A4f (A0p A3d (A0j A1j (A0j A1o (pv 5) A0d) A0d) A0d (A1b _))))) (rq3 ⟨@A6k _ _ _ _ _ _ _ _ _ hu (pv 2) (A1f A1n (pv 1) (pv 4) (λ_ _=>rfl)) (A0j A2h A0d (A0j A1j (A0j A1o (pv 5) A0d) A0d)) rfl⟩) ⟨A0x⟩))))) (rq3 (rq5 (pv 2))))))) ?_;refine λd N=> ?_;have s0:A0u H (upd H d (.dK [])):=A0e N;refine ⟨A0v rfl,λzl y=> ?_⟩;have s1:=s0.trans (A0e (o:= .lst [.int 0,.int 1,.int 2,.int 3,.int 4,.int 2,.int 3,.int 4,.int 6,.int 8]) y);have h1:=(A0e (o:= .lst [.int 0,.int 1,.int 2,.int 3,.int 4,.int 2,.int 3,.int 4,.int 6,.int 8]) y) d _ A0b;refine i0x _ rfl a ns 2 rfl (s1.seq hS) (by decide) λc=> ?_;obtain ⟨m,m8,em⟩:=C1a (xs:=[0,1,2,3,4,2,3,4,6,8]) (i:=c/3%10) (b:=8) (by lia) (by show c/3%10<10;lia) (by decide);refine i0m _ _ rfl rfl ⟨by decide,by decide⟩ (i0m _ _ rfl rfl E3k (i0y zl _ _ _ rfl rfl (SqL.of A0b) em ?_));generalize upd (upd H d (.dK [])) zl (.lst [.int 0,.int 1,.int 2,.int 3,.int 4,.int 2,.int 3,.int 4,.int 6,.int 8])=H1 at s1 h1;refine i0k _ rfl _ rfl (by lia) ⟨by lia,?_⟩
  refine A4k (n:=((m:Nat):Int).toNat) (λi Z l=>∃(I D:Option V) (ax:List (Str×Int)),Z=[Sro a,Sro v,Sro d,Sio (m:Int),I,D]/\A0u H l/\l d=some (.dK (A2g ax))/\ax.length=i/\ax.map (·.1)=f.take i/\(∀e∈ax,1<=e.2/\e.2<=60)/\Bd m ax)
   (i0g none none [] rfl (i0h s1 h1 rfl rfl (by intro e g;cases g) (by intro j e g;cases g))) ?_ ?_
  ·rintro i Z l hi ⟨I,D,ax,rfl,J,R,u,C,W,U⟩;refine B3x ?_;intro D';rw [Int.toNat_natCast] at hi;rw [Int.zero_add];have p:f[i]? =some f[i]:=Z0b (by lia);have ey:atI (f.map V.str) (i:Int)=some (.str f[i]):=A3j (by rw [Z1z,p];rfl);refine i0x _ rfl a ns 2 rfl (J.seq hS) (by decide) λc0=>(i0s _ rfl c0 (i:Int) rfl (by lia) (by lia) λr=> ?_)
   obtain ⟨b,b1,b4,bm,eb⟩:∃b:Int,1<=b/\b<=4/\b<=mxL m/\atI [V.int 4,V.int 2] (if decide ((4:Int)<(m:Int))=true then 1 else 0)=some (.int b):=by
    by_cases h4:4<m
    ·rw [Z20 (show (4:Int)<(m:Int) by lia)];exact i0c 2 (by decide) (by decide) (by unfold mxL;rw [Z12 h4];exact Int.le_refl _) rfl
    ·rw [Z1j (show¬(4:Int)<(m:Int) by lia)];exact i0c 4 (by decide) (by decide) (by unfold mxL;rw [Z0t h4];exact Int.le_refl _) rfl
   have a2:(A2g ax).length=i:=by unfold A2g;rw [Z08,u]
   have kk:(A2g ax).map (·.1)=(f.take i).map λx=>(Sum.inr x:Key):=by rw [<-C];unfold A2g;rw [List.map_map,List.map_map];rfl
   refine i06 _ rfl (A0v rfl) λO Y=> ?_;have X:=A0e (o:= .lst [.int 4,.int 2]) Y;refine i0o _ rfl _ _ rfl rfl (.inr (i13 _ rfl O _ _ _ rfl rfl (SqL.of A0b) eb (i0m _ _ rfl rfl (by show 0<b;lia) (i0q _ _ rfl rfl _ rfl (i17 _ rfl _ rfl v _ _ _ rfl rfl (SqL.of (X _ _ (J _ _ B))) ey (i0f d _ rfl (C0g.k (k:=Sum.inr f[i]) (X _ _ R) (A1l (by lia))) ?_))))));have r0:0<=r%b:=Z1v _ (by lia);have r1:r%b<b:=Z1p _ (by lia)
   have pn:A7z (A2g ax) (Sum.inr f[i]) (.int (1+r%b))=A2g (ax++[(f[i],1+r%b)]):=by
    rw [D9n nd p kk];unfold A2g;rw [Z0s];rfl
   have L:A0u H (upd (upd l O (.lst [.int 4,.int 2])) d (.dK (A2g (ax++[(f[i],1+r%b)])))):=A0o (J.trans X) N;have S:upd (upd l O (.lst [.int 4,.int 2])) d (.dK (A2g (ax++[(f[i],1+r%b)]))) d=some (.dK (A2g (ax++[(f[i],1+r%b)]))):=A0b;rw [pn];generalize upd (upd l O (.lst [.int 4,.int 2])) d (.dK (A2g (ax++[(f[i],1+r%b)])))=H3 at L S
   have fin:∀(q:Int) (G:Hp),1<=q->q<=60->(1<=i->q<=mxL m)->A0u H G->G d=some (.dK (A2g (ax++[(f[i],q)])))->∃(I D:Option V) (ax:List (Str×Int)),[some (V.ref a),some (.ref v),some (.ref d),some (.int (m:Int)),some (.int (i:Int)),some (.int r)]=[some (.ref a),some (.ref v),some (.ref d),some (.int (m:Int)),I,D]/\A0u H G/\G d=some (.dK (A2g ax))/\ax.length=i+1/\ax.map (·.1)=f.take (i+1)/\(∀e∈ax,1<=e.2/\e.2<=60)/\Bd m ax:=λq G q1 q2 q3 sG hG=>by
    refine i0g _ _ (ax++[(f[i],q)]) rfl (i0h sG hG (by simp [u]) ?_ (λe g=> ?_) λj e g hj=> ?_)
    ·rw [Z0s,C,Z14,p];rfl
    ·rcases Z07.mp g with g | g
     ·exact W e g
     ·rw [Z0w.mp g];exact ⟨q1,q2⟩
    ·by_cases hji:j<ax.length
     ·rw [Z26 hji] at g;exact U j e g hj
     ·rw [Z1l (by lia)] at g;have:j-ax.length=0:=by have:=(Z03.mp g).1;simp at this;lia
      rw [this] at g;cases g;exact q3 (by lia)
   dsimp only [A7u,C7r,D3p,D5d];refine B4l (d1:=decide (V.int (i:Int)=V.int 0)) (d2:=decide (V.int (r/4%8)=V.int 5)) (λQ' q=>(i0j _ rfl rfl _ rfl q)) (λQ' q=>(i18 _ rfl _ _ rfl rfl ⟨by decide,by decide⟩ _ _ rfl rfl E2l (i05 rfl _ rfl q))) ?_
   cases hb:(decide (V.int (i:Int)=V.int 0)&&decide (V.int (r/4%8)=V.int 5)) with
   | false=>exact A2m (fin _ _ (by lia) (by lia) (λ_=>by lia) L S)
   | true =>
    have i0:i=0:=by
     have:=of_decide_eq_true (Z1x _ _▸hb).1;have:=V.int.inj this
     lia
    have a0:ax=[]:=List.eq_nil_of_length_eq_zero (by lia);have r2:0<=r/32%60/\r/32%60<60:=by lia
    refine A5r (i18 _ rfl _ _ rfl rfl ⟨by decide,by decide⟩ _ _ rfl rfl E3c (i0q _ _ rfl rfl _ rfl (i17 _ rfl _ rfl v _ _ _ rfl rfl (SqL.of (L _ _ B)) ey (i0f d _ rfl (C0g.k (k:=Sum.inr f[i]) S (A1l (by unfold A2g;simp;lia))) ?_))));refine fin (1+r/32%60) _ (by lia) (by lia) (λz=>by lia) (A0o L N) ?_;rw [A0b];subst a0;show some (HO.dK (A7z [(Sum.inr f[i],V.int (1+r%b))] (Sum.inr f[i]) (.int (1+r/32%60))))=some (.dK [(Sum.inr f[i],V.int (1+r/32%60))]);unfold A7z;simp
  ·rintro Z l ⟨I,D,ax,rfl,J,R,u,C,W,U⟩;rw [Int.toNat_natCast] at u C;exact i02 _ rfl (k d ax l N J R (by rw [u];exact C) (by lia) W (by rw [u];exact U))
theorem D6t {α:Type} (f:α->V) (nm:List α) (lo hi:Option Int):∃zs:List α,D1b (nm.map f) lo hi=zs.map f/\zs.length<=nm.length/\∀x∈zs,x∈nm:=by
 refine i06 ((nm.drop (HT.sIx nm.length 0 lo)).take (HT.sIx nm.length nm.length hi-HT.sIx nm.length 0 lo)) ?_ ?_ λx a=> ?_
 ·unfold D1b;rw [Z08,<-List.map_drop,<-List.map_take]
 ·rw [Z0x,List.length_drop];lia
 ·exact List.mem_of_mem_drop (Z2p a)
theorem D7v {α:Type} (f:α->V) (nm:List α) (lo hi:Option Int):∃zs:List α,D1b (nm.map f) lo hi=zs.map f/\zs.Sublist nm:=by
 refine i02 ((nm.drop (HT.sIx nm.length 0 lo)).take (HT.sIx nm.length nm.length hi-HT.sIx nm.length 0 lo)) ?_ ((Z2o _ _).trans (List.drop_sublist _ _));unfold D1b;rw [Z08,<-List.map_drop,<-List.map_take]
theorem E4o (xs:List V) (lo:Option Int) (n:Nat):(D1b xs lo (some (n:Int))).length<=n:=by
 unfold D1b;rw [Z0x]
 have:HT.sIx xs.length xs.length (some (n:Int))<=n:=by
  have e:=HT.sIx_nat xs.length xs.length n;have e:HT.sIx xs.length xs.length (some (n:Int))=min n xs.length:=e;rw [e];exact Nat.min_le_left _ _
 lia
theorem D5q {a b c:Int} (d:0<c) (h:i<(Builtin.Range.rangeSize a b c).toNat):a+(i:Int)*c<b:=by
 unfold Builtin.Range.rangeSize at h;rw [Z12 d] at h;by_cases hab:a<b
 ·rw [Z12 hab] at h;have e:(i:Int)<=(b-a-1)/c:=by lia
  have:=(Int.le_ediv_iff_mul_le d).mp e
  lia
 ·rw [Z0t hab] at h;simp at h
def TmS:Tm->Prop
 | .read a _=>PyData.strOk a=true
 | .sum _ b=>TmS b
 | .pair _ l r=>TmS l/\TmS r
 | .guard _ _ _ l r=>TmS l/\TmS r
 | _=>True
theorem D8i {lk:List (Key×V)}:∀u:Tm,TmL lk u->TmS u
 | .read _ _,h=>h
 | .sum _ b,h=>D8i b h.2
 | .pair _ l r,h=>⟨D8i l h.1,D8i r h.2⟩
 | .guard _ _ _ l r,h=>⟨D8i l h.2.1,D8i r h.2.2⟩
 | .num _,_=>True.intro
 | .place _,_=>True.intro
def D9y (H:Hp) (v:V) (e:Lt):Prop:=∃q b a,v= .ref q/\H q=some (.tup [.str e.1,.ref b,a])/\H b=some (.lst (e.2.1.map V.str))/\Rep H a (A1s e.2.2)
theorem D9y.same {e:Lt} (h:D9y H v e) (s:A0u H H'):D9y H' v e:=by
 obtain ⟨q,a,b,rfl,d,c,r⟩:=h;exact i0r q a b rfl (s _ _ d) (s _ _ c) (r.same s)
structure E2m (lk:List (Key×V)) (e:Lt):Prop where
 o:PyData.strOk e.1=true
 l1:e.1.length<=60
 l3:e.2.1.length<=3
 n:NmS e.2.1
 w:TmW e.2.2
 s:TmS e.2.2
 d:dep e.2.2<=16
 k:nod e.2.2<=122
def B4k:List Str->Tm->Tm
 | [],u=>u
 | x::s,u=> .sum x (B4k s u)
structure LtS (lk:List (Key×V)) (nm:List Str) (es:List (Str×List Str)) (e:Lt):Prop where
 ex:∃sums u,e.2.2=B4k sums u/\(e.2.1++sums).Nodup/\(∀x∈e.2.1++sums,x∈nm)/\LfZ lk es (some (e.1,e.2.1)) nm (e.2.1++sums) u
 tl:TmL lk e.2.2
abbrev C5y (ls:List Lt):List (Str×List Str):=ls.map λe=>(e.1,e.2.1)
theorem D4q {nm:List Str} (c:m<=6) (nd:nm.Nodup):((nm.drop 8).take m++(nm.drop 14).take i).Nodup:=by
 refine nd.sublist ?_
 have b:((nm.drop 8).take m).Sublist (nm.take 14):=by
  have e:(nm.drop 8).take m=((nm.take 14).drop 8).take m:=by rw [List.drop_take,List.take_take,Nat.min_eq_left (by lia)]
  rw [e];exact (Z2o _ _).trans (List.drop_sublist _ _)
 have a:((nm.drop 14).take i).Sublist (nm.drop 14):=Z2o _ _;have:=b.append a;rw [Z2e] at this;exact this
structure B2b (H:Hp) (p:Addr) (ax:List (Str×Int)) (tb:List (Str×List Str)) (ls:List Lt):Prop where
 ob:∃(wh:Int) (d tl ll ol:Addr) (tvs lvs:List V) (o:Str),H p=some (.tup [.int wh,.ref d,.ref tl,.ref ll,.ref ol])/\H d=some (.dK (A2g ax))/\H tl=some (.lst tvs)/\Paired (D1a H (A2g ax)) tvs tb/\H ll=some (.lst lvs)/\Paired (D9y H) lvs ls/\H ol=some (.lst [.str o])
 hx:AxL ax
 t:tb.length<=6
 l:ls.length<=8
 ok:∀e∈ls,E2m (A2g ax) e
 sf:∀(j:Nat) (e:Lt),ls[j]? =some e->LtS (A2g ax) (ax.map (·.1)) (tb++C5y (ls.take j)) e
 nd:(tb.map (·.1)++ls.map (·.1)).Nodup
 ng:∀x∈tb.map (·.1)++ls.map (·.1),NmG x
 pb:Bd ax.length ax
 wp:∀(wh:Int) (r:List V),H p=some (.tup (.int wh::r))->0<wh/\wh<=10^31
def B3k (K:Frag):Sp:=λd H Q _=>∃(a:Addr) (f:List Int),d=[.ref a]/\SqL K H a (f.map V.int)/\∀(p:Addr) (e:List (Str×Int)) (g:List (Str×List Str)) (c:List Lt) (b:Hp),A0u H b->B2b b p e g c->Q (.ref p) b
theorem D1r {k:Key}:∃g:Int,(A5k (A2g ax) k).getD (.int 1)= .int g:=by
 cases e:A5k (A2g ax) k with
 | none=>exact ⟨1,rfl⟩
 | some v =>
  obtain ⟨p,a,c,b⟩:=C2u e;obtain ⟨f,_,rfl⟩:=Z2c.mp a;exact ⟨f.2,b.symm⟩
abbrev S2P (a c:Addr):Addr->Prop:=λb=>b≠a/\b≠c
theorem B4j (T:Txt K mg t):FO P w base T.gn 26 (B3k K):=by
 have Gd7:= @B6b P w K mg base t T;have Gd8:= @B2w P w K mg base t T;have Gd6:= @B8g P w K mg base t T;have Gc7:= @A6w P w K mg base t T;have Gd3:= @A5a P w K mg base t T;have Gd9:= @B8k P w K mg base t T;have Gc6:= @B3i P w K mg base t T;have Ge0:= @C0h P w K mg base t T;refine T.gn.F.ok A0t (by walk_at "ln") λ_ A _ s H _ Q E W h=> ?_
 ·obtain ⟨a,ns,rfl,hS,k⟩:=h;have hu:=A8b W;refine i02 _ (@RS.r _ _ _ (rq1 (rq6 1 A0t.nd (pcl Gd7 W T.jp (A0a (pcl Gd3 W T.bc (A0a (pv 0) (A0a A0d A0c))) (A0a (pcl Gd3 W T.bc (A0a (pv 0) (A0a A0d A0c))) (A0a A0d A0c))))) (rq1 (rq6 2 A0t.nd (pcl Gd8 W T.g_ (A0a (pv 0) (A0a (pv 1) A0c)))) (rq1 (rq6 3 A0t.nd (A2k (C4o rfl) (by rfl) T.ib Z1o (A0a (pv 2) A0c))) (rq1 (rq6 4 A0t.nd (@A1r _ _ _ _ A0c)) (rq1 (rq7 (A4a rfl T.dm (A0a (A1f A1n (@A1r _ _ _ _ (A0a A0d (A0a A0d (A0a A0d (A0a A0d (A0a A0d (A0a A0d (A0a A0d A0c)))))))) (A0j A1j (pcl Gd3 W T.bc (A0a (pv 0) (A0a A0d A0c))) A0d) (λ_ _=>rfl)) A0c)) (A0k (i:=5) A0t.nd rfl (.inl rfl)) (rq1 (rq6 6 A0t.nd (pcl Gd6 W T.ms (A0a (pcl Gd3 W T.bc (A0a (pv 0) (A0a A0d A0c))) (A0a (pv 5) A0c)))) (rq3 ⟨A2r (A7c Z0k Z0n Z0o A2e (pv 4) (A0a (A1z (A0a (A1f A1n (pv 1) (A0j A2h A0d (pv 5)) (λ_ _=>rfl)) (A0a (pcl Gd9 W T.fu (A0a (pv 6) (A0a (pv 3) (A0a (pv 2) (A0a A0d A0c))))) A0c))) A0c))⟩))) (rq1 (rq6 7 A0t.nd (A2k A5b (by rfl) T.ib Z1o (A0a (pv 4) A0c))) (rq1 (rq6 8 A0t.nd (@A1r _ _ _ _ A0c)) (rq1 (rq6 9 A0t.nd (A1f A1n (@A1r _ _ _ _ (A0a A0d (A0a A0d (A0a A0d (A0a A0d (A0a A0d (A0a A0d (A0a A0d (A0a A0d (A0a A0d A0c)))))))))) (A0j A1j (pcl Gd3 W T.bc (A0a (pv 0) (A0a A0d A0c))) A0d) (λ_ _=>rfl))) (rq2 (rq4 (PW.pt (A3x (A0p A3d (pv 9) A0d (A1b _)) (A4f (A0p A3d (A0q A0y (by rfl) T.ce Z0r (A0a (pv 7) A0c)) A0d (A1b _))))) (rq3 (rq6 9 A0t.nd A0d)) ⟨A0x⟩) (rq1 ⟨@A3e _ _ 10 _ _ _ _ A0t.nd rfl (.inr rfl) (B2o C6l (pv 0) (B3e A0d) (B3e A0d)) rfl (.inl rfl)⟩ (rq1 (rq7 (A4a rfl T.dm (A0a (pv 9) A0c)) (A0k (i:=11) A0t.nd rfl (.inl rfl)) (rq1 (rq6 6 A0t.nd (pcl Gd6 W T.ms (A0a (pcl Gd3 W T.bc (A0a (pv 0) (A0a A0d A0c))) (A0a (pv 11) A0c)))) (rq1 ⟨@A3e _ _ 12 _ _ _ _ A0t.nd rfl (.inr rfl) (pcl Gd9 W T.fu (A0a (pv 6) (A0a (pv 3) (A0a (pv 2) (A0a (A1f A1n (@A1r _ _ _ _ (A0a A0d (A0a A0d A0c))) (A2k B7y (by rfl) T.As PyProof.Rows.boot_int (A0a (D0u A8u (C3u hu (pv 2) (A1f A1n (pv 1) A0d (λ_ _=>rfl)) A0d ⟨rfl,rfl,rfl,rfl⟩) A0d (A1b _)) A0c)) (λ_ _=>rfl)) A0c))))) rfl (.inl rfl)⟩ (rq1 (rq6 13 A0t.nd (A0q (C9s rfl) (by rfl) T.AI PyProof.Rows.boot_min (A0a A0d (A0a (A0q (C9t rfl) (by rfl) T.AJ PyProof.Rows.boot_max (A0a A0d (A0a (A0j A1o A0d (pcl Gc6 W T.kz (A0a (pv 12) (A0a (pv 2) A0c)))) A0c))) A0c)))) (rq1 (rq6 15 A0t.nd (B2o C6l (C0b (N':=["_law_axis","_law_axes"]) (ix:=(List.replicate 1 none++[some 12])) (tc:=C1p (tOp (rIn K true) (C8c 0) (C8c 1))) rfl (A7o (x:="_law_axes") rfl rfl rfl (by decide +kernel) (by decide +kernel)) (A5u (N0:=["_law_axis"]) rfl (.inl rfl) (by walk_at "ix")) (A2c (pcl Gd9 W T.fu (A0a (A0j A1o (pv 6) (A0j A7e A0d A0d)) (A0a (pv 3) (A0a (pv 2) (A0a (pv 13) A0c)))))) (λ_ _ _ _=>(A0k (i:=0) C8j rfl (.inl rfl))) (λ_ _ _ _=>(A0p A6c (pv 0) (pv 1) (by with_unfolding_all rfl))) (λ_ _ _ _=>(pv 0))) C0m (B3e A0d))) (rq1 (rq6 16 A0t.nd (A1z (A0a (A2k A5b (by rfl) T.ib Z1o (A0a (pv 4) A0c)) (A0a (pv 2) (A0a (A1z (A0a (A1f A1n (pv 1) (A0j A2h A0d (pv 11)) (λ_ _=>rfl)) (A0a (pv 12) A0c))) A0c))))) (rq1 (rq6 17 A0t.nd (pcl Ge0 W T.pf (A0a (A4p (N':=["_law_k","_law_cells"]) (ix:=(List.replicate 1 none++[some 10])) rfl (A7o (x:="_law_cells") rfl rfl rfl (by decide +kernel) (by decide +kernel)) (A5u (N0:=["_law_k"]) rfl (.inl rfl) (by walk_at "ix")) (B7w rfl T.dm (A0a (pv 11) (A0a (A0q A0y (by rfl) T.ce Z0r (A0a (pv 10) A0c)) (A0a (pv 9) A0c)))) (λ_ _ _ _=>(A0k (i:=0) C8k rfl (.inl rfl))) (λ_ _ _ _=>(A1f (D2s (K:=K) rfl) (pv 1) (pv 0) (λ_ _=>rfl)))) (A0a (A0j B0b (pv 12) (pv 15)) (A0a (pv 16) (A0a (A0j A1o A0d (A0j A2h A0d (A0j A1o (pv 9) A0d))) A0c)))))) (rq1 (rq7 (C8z rfl T.pq (A0a (pv 15) A0c)) (A0k (i:=14) A0t.nd rfl (.inl rfl)) (rq3 (rq6 17 A0t.nd (A1z (A0a A1w (A0a (pv 14) (A0a (pv 17) A0c))))))) (rq1 ⟨A2r (A7c Z0k Z0n Z0o A2e (pv 8) (A0a (A1z (A0a (A1f A1n (pv 1) (A0j A2h A0d (pv 11)) (λ_ _=>rfl)) (A0a (pv 12) (A0a (pv 17) A0c)))) A0c))⟩ (rq3 ⟨A2r (A7c Z0k Z0n Z0o A2e (pv 4) (A0a (A1z (A0a (A1f A1n (pv 1) (A0j A2h A0d (pv 11)) (λ_ _=>rfl)) (A0a (pv 12) A0c))) A0c))⟩)))))))))) (rq1 (rq6 6 A0t.nd (pcl Gc7 W T.e8 (A0a (pcl Gd3 W T.bc (A0a (pv 0) (A0a A0d A0c))) (A0a A0d A0c)))) (rq1 (rq6 18 A0t.nd (A0j A2h A0d (A0j A1j (A0j A1o (pv 6) A0d) (A1f A1n (@A1r _ _ _ _ (A0a A0d (A0a (A0j A3p (A0j A7e A0d A0d) A0d) (A0a (A0j A3p (A0j A7e A0d A0d) A0d) (A0a (A0j A7e A0d A0d) A0c))))) (A0j A1j (pv 6) A0d) (λ_ _=>rfl))))) (rq3 (rq5 (A1z (A0a (pv 18) (A0a (pv 2) (A0a (pv 7) (A0a (pv 8) (A0a (@A1r _ _ _ _ (A0a (A1f A1h (A1f A1n (pv 4) (B7k B0p A0d) (λ_ _=>rfl)) A0d (λ_ _=>rfl)) A0c)) A0c)))))))))))))))))))))) ?_;refine i0x _ rfl a ns 0 rfl hS (by decide) λc0=>(i0x _ rfl a ns 1 rfl hS (by decide) λc1=>(i07 c0 c1 rfl λnl J H1 t7 s1 h1 t0 hn nd ng=> ?_));refine i1b _ rfl _ rfl a nl ns J rfl (s1.seq hS) h1 (by lia) nd λd ax H2 hd s2 h2 m3 r8 p4 r2=> ?_;have j0:AxL ax:=(i04 p4 (by rw [m3];exact λx hx=>hn x (Z2p hx)) (by rw [m3];exact nd.sublist (Z2o _ _)) r8);refine i0o _ rfl d _ rfl h2 λgl r6=> ?_;have d8:upd H2 gl (.lst ((A2g ax).map λp=>kV p.1)) gl=some (.lst ((ax.map (·.1)).map V.str)):=by rw [A0b];unfold A2g;rw [List.map_map,List.map_map];rfl
  have sg:=A0e (o:= .lst ((A2g ax).map λp=>kV p.1)) r6;have s3:=(s1.trans s2).trans sg;have U:=sg _ _ h2;have a5:=sg _ _ (s2 _ _ h1);generalize upd H2 gl (.lst ((A2g ax).map λp=>kV p.1))=H3 at d8 s3 U a5;clear sg;have L:=E0v U j0;have g1:(ax.map (·.1)).length<=1000:=by rw [Z08];lia
  refine ⟨A0v rfl,λg b6=> ?_⟩;refine ⟨A0v rfl,λzl q9=> ?_⟩;have sZ:=A0e (o:= .lst [.int 0,.int 1,.int 2,.int 3,.int 1,.int 2,.int 6]) q9;have f4:=(A0e (o:= .lst []) b6).trans sZ;have l9:=sZ _ _ (A0b (H:=H3) (a:=g) (o:= .lst []));refine i0x _ rfl a ns 3 rfl ((s3.trans f4).seq hS) (by decide) λc3=> ?_;obtain ⟨m,m6,em⟩:=C1a (xs:=[0,1,2,3,1,2,6]) (i:=c3%7) (b:=6) (by lia) (by show c3%7<7;lia) (by decide);refine i0m _ _ rfl rfl E4k (i0y zl _ _ _ rfl rfl (SqL.of A0b) em (i0c _ rfl (by lia) (by lia) ?_));generalize upd (upd H3 g (.lst [])) zl (.lst [.int 0,.int 1,.int 2,.int 3,.int 1,.int 2,.int 6])=H4 at f4 l9;clear sZ
  refine A4k (n:=((m:Nat):Int).toNat) (λi Z G=>∃(o5 o6:Option V) (B:List V) (es:List (Str×List Str)),Z=[Sro a,Sro nl,Sro d,Sro gl,Sro g,o5,o6,none,none,none,none,none,none,none,none,none,none,none,none]/\A0u H3 G/\G g=some (.lst B)/\Paired (D1a (A0s (λb=>b≠g) G) (A2g ax)) B es/\es.length=i/\es.map (·.1)=(J.drop 8).take i)
   (i10 none none [] [] rfl f4 l9 .nil rfl rfl) ?_ ?_
  ·rintro i Z G hi ⟨o5,o6,B,es,rfl,sG,hG,pG,lG,nG⟩;refine B3x ?_;intro D';rw [Int.toNat_natCast] at hi;rw [Int.zero_add];have R:J[8+i]? =some J[8+i]:=Z0b (by lia);have ey:atI (J.map V.str) (8+(i:Int))=some (.str J[8+i]):=A3j (j:=8+i) (by rw [Z1z,R];rfl);have ny:=(hn _ (Z13 R)).1.1;have oy:=(hn _ (Z13 R)).1.2;refine i0x _ rfl a ns 3 rfl ((s3.trans sG).seq hS) (by decide) λc=>(i0s _ rfl c (i:Int) rfl (by lia) (by lia) λr=> ?_);refine i06 _ rfl (.inl (i01 rfl _ (SqL.of hG))) (i0w _ rfl _ rfl _ _ rfl rfl (i0y nl _ _ _ rfl rfl (SqL.of (sG _ _ a5)) ey (i02 _ rfl (i0e _ rfl _ rfl ⟨r,(i14 60 gl d (ax.map (·.1)) (A2g ax) rfl (sG _ _ d8) g1 (sG _ _ U) L.dk λl ys G2 hl b3 n3 a1 l3 pm _=>⟨A0v rfl,λq hq=> ?_⟩)⟩))));have sT:=A0e (o:= .tup [.str J[8+i],.ref l]) hq;have eT:upd G2 q (.tup [.str J[8+i],.ref l]) q=some (.tup [.str J[8+i],.ref l]):=A0b;have k4:=hq;generalize upd G2 q (.tup [.str J[8+i],.ref l])=G5 at sT eT;have f7:=b3.trans sT;have q0:=Paired.length pG;refine i0u g _ _ rfl rfl (f7 _ _ hG) (A1l (by lia)) ?_;have q1:q≠g:=λe=>by rw [e,b3 _ _ hG] at k4;cases k4
   have l1:l≠g:=λe=>by rw [e,hG] at hl;cases hl
   refine i10 _ _ (B++[.ref q]) (es++[(J[8+i],ys)]) rfl (A0o (sG.trans f7) b6) A0b (B2i (Paired.mapP pG λv e z=>z.same (A2i (A0g f7) λq=>q rfl)) (.cons (i0t q l rfl (A0h q1 (by rw [A0i q1];exact eT)) (A0h l1 (by rw [A0i l1];exact sT _ _ n3)) ⟨by show J[8+i].length<=60;lia,oy⟩ l3 ⟨λy hy=>L.hn y (a1 y hy),λy hy=>L.dk y (a1 y hy)⟩) .nil)) (by simp [lG]) (by rw [Z0s,nG,Z14,List.getElem?_drop,R];rfl)
  rintro Z G ⟨o5,o6,N,tb,rfl,sG,hG,pG,lG,nG⟩;rw [Int.toNat_natCast] at lG nG;have u4:tb.length<=6:=by lia
  refine i0o _ rfl g _ rfl (.inl (SqL.of hG)) λtl h6=> ?_;refine ⟨A0v rfl,λC c9=> ?_⟩;refine ⟨A0v rfl,λz9 n9=> ?_⟩;have h7:=A0e (o:= .lst N) h6;have f8:=A0e (o:= .lst []) c9;have d0:=A0e (o:= .lst [.int 0,.int 1,.int 2,.int 3,.int 4,.int 1,.int 2,.int 3,.int 8]) n9;have a0:=h7.trans (f8.trans d0);have b4:=d0 _ _ (f8 _ _ (A0b (H:=G) (a:=tl) (o:= .lst N)));have b2:=d0 _ _ (A0b (H:=upd G tl (.lst N)) (a:=C) (o:= .lst []));have d3:G C=none:=h7.free c9;refine i0x _ rfl a ns 4 rfl ((s3.trans (sG.trans a0)).seq hS) (by decide) λc4=> ?_;obtain ⟨m2,k7,j9⟩:=C1a (xs:=[0,1,2,3,4,1,2,3,8]) (i:=c4%9) (b:=8) (by lia) (by show c4%9<9;lia) (by decide);refine i0m _ _ rfl rfl z_90 (i0y z9 _ _ _ rfl rfl (SqL.of A0b) j9 ?_);have o1:tl≠g:=λe=>by rw [e,hG] at h6;cases h6
  have n8:tl≠C:=λe=>by rw [<-e,A0b] at c9;cases c9
  generalize upd (upd (upd G tl (.lst N)) C (.lst [])) z9 (.lst [.int 0,.int 1,.int 2,.int 3,.int 4,.int 1,.int 2,.int 3,.int 8])=H5 at a0 b4 b2;clear h7 f8 d0;have u1:=Paired.length pG;refine i02 (λZ G'=>H5=G'/\∃m:Nat,Z=[Sro a,Sro nl,Sro d,Sro gl,Sro g,o5,o6,Sro tl,Sro C,Sio (m:Int),none,none,none,none,none,none,none,none,none]/\m<=8/\1<=tb.length+m) ?_ ?_
  ·refine B4l (d1:=decide (V.int (m2:Int)=V.int 0)) (d2:=decide (V.int (N.length:Int)=V.int 0)) (λQ' q=>(i0j _ rfl rfl _ rfl q)) (λQ' q=>(i0o _ rfl tl _ rfl (.inl (SqL.of b4)) (i05 rfl _ rfl q))) ?_
   cases hb:(decide (V.int (m2:Int)=V.int 0)&&decide (V.int (N.length:Int)=V.int 0)) with
   | true=>exact A5r ⟨rfl,(i06 1 rfl (by decide) (by lia))⟩
   | false =>
    refine A2m ⟨rfl,(i06 m2 rfl k7 ?_)⟩;by_cases z:m2=0
    ·by_cases z2:N.length=0
     ·rw [z,z2] at hb;exact absurd hb (by decide)
     ·lia
    ·lia
  rintro Z G' ⟨rfl,m,rfl,m8,mt⟩;have c8:∃m0,m0<=6/\tb.map (·.1)=(J.drop 8).take m0:=(i02 _ m6 nG);clear nG m6 em c3 k7 j9 c4 m2;obtain ⟨zs,l0,u9,_⟩:=D6t V.int ns (some 8) (some 71)
  have r9:zs.length<=71:=by
   have:=E4o (ns.map V.int) (some 8) 71;rw [show (some ((71:Nat):Int))=some (71:Int) from rfl,l0,Z08] at this;exact this
  refine i12 _ rfl _ rfl _ rfl a _ rfl ((s3.trans (sG.trans a0)).seq hS) λcl a6=> ?_;rw [l0];have sC:=A0e (o:= .lst (zs.map V.int)) a6;have eC:upd H5 cl (.lst (zs.map V.int)) cl=some (.lst (zs.map V.int)):=A0b;have d7:=a0 _ _ hG;have c1:cl≠g:=λe=>by rw [e,d7] at a6;cases a6
  have c2:cl≠C:=λe=>by rw [e,b2] at a6;cases a6
  generalize upd H5 cl (.lst (zs.map V.int))=HB at sC eC;have a0:=a0.trans sC;have b4:=sC _ _ b4;have b2:=sC _ _ b2;have d7:=sC _ _ d7;clear sC a6;have o7:A0s (S2P g C) HB cl=some (.lst (zs.map V.int)):=A0h ⟨c1,c2⟩ eC;have r1:A0s (S2P g C) HB tl=some (.lst N):=A0h ⟨o1,n8⟩ b4;have l6:∀b o,G b=some o->b≠g->S2P g C b:=λb o hb h=>⟨h,λe=>by rw [e,d3] at hb;cases hb⟩;have pB:Paired (D1a (A0s (S2P g C) HB) (A2g ax)) N tb:=Paired.mapP pG λv e z=>z.same (A2x a0 l6);have p2:=sG.trans a0;have n7:H3 C=none:=sG.free d3;clear pG l6;refine i0k _ rfl _ rfl (by lia) ⟨by lia,?_⟩
  refine A4k (n:=((m:Nat):Int).toNat) (λi Z G=>∃(o5 o6 f6 g6 h3 a7 e4 f3 f5:Option V) (B M:List V) (es:List (Str×List Str)) (Y:List Lt),Z=[Sro a,Sro nl,Sro d,Sro gl,Sro g,o5,o6,Sro tl,Sro C,Sio (m:Int),Sro cl,f6,g6,h3,a7,e4,f3,f5,none]/\A0u H3 G/\A0u (A0s (S2P g C) HB) (A0s (S2P g C) G)/\G g=some (.lst B)/\Paired (D1a (A0s (S2P g C) G) (A2g ax)) B es/\es=tb++C5y Y/\G C=some (.lst M)/\Paired (D9y (A0s (S2P g C) G)) M Y/\Y.length=i/\(∀e∈Y,E2m (A2g ax) e)/\(∀(j:Nat) (e:Lt),Y[j]? =some e->LtS (A2g ax) (ax.map (·.1)) (tb++C5y (Y.take j)) e)/\Y.map (·.1)=(J.drop 14).take i)
   (i11 o5 o6 none none none none none none none (i10 N [] tb [] rfl p2 (A0u.refl _) d7 pB ⟨(Z0u _).symm,(i0h b2 .nil rfl (λe O=>by cases O) (λj e O=>by cases O) rfl)⟩)) ?_ ?_
  ·clear o5 o6;rintro i Z G hi zz;refine e0h zz ?_;clear zz;rintro o5 o6 f6 g6 h3 a7 e4 f3 f5 B M ⟨es,Y,rfl,sG,sS,hA,pA,eA,hL,pL,lL,g2,h0,nL⟩;refine B3x ?_;intro D';rw [Int.toNat_natCast] at hi;have lA:es.length=tb.length+i:=by rw [eA,Z06,Z08,lL]
   rw [Int.zero_add];have R:J[14+i]? =some J[14+i]:=Z0b (by lia);have ey:atI (J.map V.str) (14+(i:Int))=some (.str J[14+i]):=A3j (j:=14+i) (by rw [Z1z,R];rfl);have ny:=(hn _ (Z13 R)).1.1;have oy:=(hn _ (Z13 R)).1.2;have l4:(J.drop 14).take (i+1)=Y.map (·.1)++[J[14+i]]:=by rw [nL,Z14,List.getElem?_drop,R];rfl
   generalize J[14+i]=y at ey ny oy l4;have o9:J[0]? =some J[0]:=Z0b (by lia);have o0:atI (J.map V.str) 0=some (.str J[0]):=A3j (j:=0) (by rw [Z1z,o9];rfl);refine i0x _ rfl a ns 5 rfl ((s3.trans sG).seq hS) (by decide) λc=>(i0s _ rfl c (i:Int) rfl (by lia) (by lia) λr=> ?_);refine i02 _ rfl (i0k _ rfl _ rfl (A0v rfl) λz2 q3=> ?_);have sz:=A0e (o:= .lst [.int 12,.int 60]) q3;have m7:upd G z2 (.lst [.int 12,.int 60]) z2=some (.lst [.int 12,.int 60]):=A0b;generalize upd G z2 (.lst [.int 12,.int 60])=G1 at sz m7;have t1:=sG.trans sz;obtain ⟨g0,p8⟩:=D1r (ax:=ax) (k:=Sum.inr J[0])
   obtain ⟨b,eb⟩:∃b:Int,atI [V.int 12,V.int 60] (if decide ((4:Int)<g0)=true then 1 else 0)=some (.int b):=by
    cases decide ((4:Int)<g0) with
    | true=>exact ⟨60,rfl⟩
    | false=>exact ⟨12,rfl⟩
   refine i0k _ rfl d rfl (.inl ⟨_,.inl (t1 _ _ U)⟩) (i13 _ rfl nl _ _ _ rfl rfl (SqL.of (t1 _ _ a5)) o0 (i0o _ (A9e.k (k:=Sum.inr J[0]) (t1 _ _ U)) g0 _ p8 rfl (.inr (i13 _ rfl z2 _ _ _ rfl rfl (SqL.of m7) eb ?_))));refine ⟨r,(i14 b gl d (ax.map (·.1)) (A2g ax) rfl (t1 _ _ d8) g1 (t1 _ _ U) L.dk λxl ys G2 d5 l2 g9 a1 l3 pm yn=> ?_)⟩;have t2:=t1.trans l2;have b8:B0c (A2g ax) ys:=λy hy=>L.dk y (a1 y hy);have c5:NmS ys:=λy hy=>L.hn y (a1 y hy);refine i17 _ rfl _ rfl xl d ys (A2g ax) rfl g9 (t2 _ _ U) b8 λzz z1 mo=> ?_;have zb:=(mo.le b8).2;have u7:=E1e (n:=ys.length) (by lia);refine i0f _ _ rfl rfl (i0b ⟨by lia,by lia⟩ _ _ rfl (i07 _ _ rfl ?_));refine i18 _ rfl _ _ rfl rfl (i00 (by decide) (by decide) (by decide)) _ _ rfl rfl ⟨by decide +kernel,by decide +kernel⟩ (i02 _ rfl (i0e _ rfl _ rfl ⟨_,(i14 _ gl d (ax.map (·.1)) (A2g ax) rfl (t2 _ _ d8) g1 (t2 _ _ U) L.dk λcs e7 G3 s8 d9 i7 j2 s9 _ q8=>(i06 cs rfl ⟨_,SqL.of i7⟩ λD hD=> ?_))⟩));have t3:=t2.trans d9
   refine A9t (K:=K) (a:=cs) (D:=D) (xs:=e7.map V.str) (λi zs H3=>A0u G3 H3/\H3 D=some (.lst zs)/\∃I:List Str,zs=I.map V.str/\I.length<=i/\I.Sublist (e7.take i)/\∀y∈I,y∉ys)
    (i00 (A0e hD) A0b (i0c [] rfl (Z09 _) (List.nil_sublist _) (by intro y hy;cases hy))) (λi zs H3 s3=>SqL.of (s3.1 _ _ i7)) ?_ ?_
   ·rintro i x zs H3 hx ⟨s3,n0,I,rfl,s6,a2,j6⟩;obtain ⟨y,hy,rfl⟩:=A6l hx;have hi:i<e7.length:=(Z03.mp hy).1;refine ⟨⟨rfl,True.intro⟩,(i0w _ rfl _ rfl xl _ rfl (.inl (SqL.of (s3 _ _ (d9 _ _ g9)))) (i0a rfl (A6x ys) _ rfl ?_))⟩;show if (! inV (V.str y) (ys.map V.str))=true then _ else _
    rw [B1m];refine D7h (λj3=> ?_) (λ_=>(i00 s3 n0 (i0c I rfl (by lia) (a2.trans (by rw [Z14];exact List.sublist_append_left _ _)) j6)));refine ⟨_,(i0h rfl n0 (A1l (by rw [Z08];lia)) (A0o s3 hD) A0b (i0c (I++[y]) (by simp) (by simp;lia) ?_ (A6d j6 j3)))⟩;rw [Z14,hy];exact a2.append (List.Sublist.refl _)
   rintro s5 G4 ⟨g4,q6,k8,rfl,s0,b1,i1⟩;rw [Z08,Z18] at b1;have t4:=t3.trans g4;obtain ⟨I,i5,a2⟩:=D7v V.str k8 none (some 2);have c7:∀x∈I,x∈ax.map (·.1):=λx hx=>j2 x (b1.mem (a2.mem hx));have o3:(ys++I).Nodup:=Z0l.mpr (i00 yn (q8.sublist (a2.trans b1)) λa ha b hb z=>i1 b (a2.mem hb) (z▸ha))
   have s4:I.length<=2:=by
    have:=E4o (k8.map V.str) none 2;rw [show (some ((2:Nat):Int))=some (2:Int) from rfl,i5,Z08] at this;exact this
   refine i0o _ rfl D _ rfl (SqL.of q6) λsl o4=> ?_;rw [i5];have e0:=A0e (o:= .lst (I.map V.str)) o4;have k6:upd G4 sl (.lst (I.map V.str)) sl=some (.lst (I.map V.str)):=A0b;generalize upd G4 sl (.lst (I.map V.str))=G5 at e0 k6;have t5:=t4.trans e0;have x5:=e0 _ _ (g4 _ _ (d9 _ _ g9));have m9:=sz.trans (l2.trans (d9.trans (g4.trans e0)));refine i0o _ rfl g _ rfl (.inl (SqL.of (m9 _ _ hA))) λcp p0=> ?_;have a8:=A0e (o:= .lst B) p0;have j5:upd G5 cp (.lst B) cp=some (.lst B):=A0b;generalize upd G5 cp (.lst B)=G6 at a8 j5;have t6:=t5.trans a8;refine i12 _ rfl _ rfl _ rfl _ _ rfl rfl (i0y nl _ _ _ rfl rfl (SqL.of (t6 _ _ a5)) ey (i06 _ rfl (A0v rfl) λot n2=>⟨A0v rfl,λbk p6=> ?_⟩));have i9:=A0e (o:= .tup [.str y,.ref xl]) n2;have f0:=A0e (o:= .tup [.ref cp,.ref d,.ref ot]) p6;have l7:=f0 _ _ (A0b (H:=G6) (a:=ot) (o:= .tup [.str y,.ref xl]));have l5:upd (upd G6 ot (.tup [.str y,.ref xl])) bk (.tup [.ref cp,.ref d,.ref ot]) bk=some (.tup [.ref cp,.ref d,.ref ot]):=A0b;have a4:=i9.trans f0;generalize upd (upd G6 ot (.tup [.str y,.ref xl])) bk (.tup [.ref cp,.ref d,.ref ot])=G8 at a4 l7 l5;clear i9 f0;have t8:=t6.trans a4;have j1:=m9.trans (a8.trans a4);have e3:G8 cl=some (.lst (zs.map V.int)):=j1 _ _ (A0m _ _ (sS _ _ o7));refine i0e _ rfl _ rfl (i0q cl _ rfl (.inl (SqL.of e3)) _ rfl (i0n (i:Int) _ (m:Int) rfl (i0h (by lia) (by lia) (by lia) (by rw [Z08];lia) (by lia) (by lia)) λF hF=> ?_));refine B4c (D:=F) (Builtin.Range.rangeSize (i:Int) ((zs.map V.int).length:Int) (m:Int)).toNat (λj ys H3=>A0u G8 H3/\H3 F=some (.lst ys)/\j<=(Builtin.Range.rangeSize (i:Int) ((zs.map V.int).length:Int) (m:Int)).toNat/\∃qs:List Int,ys=qs.map V.int/\qs.length=j) ⟨A0e hF,(i0a A0b (Z1e _) [] rfl rfl)⟩ (λi ys H3 hi _=>hi) (λys H3 _=>rfl) ?_ ?_
   ·rintro j p9 u6 hj ⟨i6,r7,_,qs,rfl,i3⟩ x u3 ⟨rfl,rfl⟩;refine C6a ?_;intro N';have lt:=D5q (by lia) hj;have mj:0<=(j:Int)*(m:Int):=Int.mul_nonneg (by lia) (by lia);obtain ⟨z,_,ez⟩:=A6t (f:=V.int) (xs:=zs) (i:=(i:Int)+(j:Int)*(m:Int)) (by lia) (by rw [Z08] at lt;exact lt);have u5:=(D4x (a:=(i:Int)) (b:=((zs.map V.int).length:Int)) (c:=(m:Int)) (i0h (by lia) (by lia) (by lia) (by rw [Z08];lia) (by lia) (by lia))).2;refine ⟨⟨rfl,True.intro⟩,(i17 _ rfl _ rfl cl _ _ _ rfl rfl (SqL.of (i6 _ _ e3)) ez (i04 r7 (A1l (by rw [Z08];lia)) (A0o i6 hF) (i0a A0b hj (qs++[z]) (by simp) (by simp [i3]))))⟩
   rintro p9 G9 ⟨b5,p3,_,qs,rfl,i3⟩;have t9:=t8.trans b5;have n5:=j1.trans b5;have x9:=b5 _ _ (a4 _ _ (a8 _ _ x5));have y9:=b5 _ _ (a4 _ _ (a8 _ _ k6));refine i1b _ rfl _ rfl xl sl _ _ rfl rfl x9 y9 (A2a (by rw [Z08,Z08];lia)) λsc q5=> ?_;have X:=A0e (o:= .lst (ys.map V.str++I.map V.str)) q5;have j8:upd G9 sc (.lst (ys.map V.str++I.map V.str)) sc=some (.lst ((ys++I).map V.str)):=by rw [A0b,Z0s]
   generalize upd G9 sc (.lst (ys.map V.str++I.map V.str))=Ga at X j8;have ta:=t9.trans X;have g7:=n5.trans X;have h9:=b5.trans X;have m5:0<=(m:Int)/5:=by lia
   refine i0w _ rfl _ rfl _ _ rfl rfl (i0i ⟨by decide,by decide⟩ _ _ rfl rfl (i0m _ _ rfl rfl ⟨by lia,by lia⟩ ?_));have h8:∀{F:Hp},A0u G F->Fr (S2P g C) F:=λ{F} s b hb=>⟨(λe=>by rw [e,s _ _ hA] at hb;cases hb),λe=>by rw [e,s _ _ hL] at hb;cases hb⟩;have r3:Paired (D1a Ga (A2g ax)) B es:=Paired.mapP pA λv e z=>(z.same A0m).same g7;have lm:(120:Int)/(1+(m:Int)/5)<=120:=Int.ediv_le_self _ (by decide);refine i11 F sc bk cp d (.ref ot) (some (y,ys)) _ qs (i14 es (ys++I) (ax.map (·.1)) (A2g ax) (S2P g C) rfl (X _ _ p3) (.add j8 c5 b8 (by rw [Z06];lia) L.hn L.dk (λz hz=>c7 z hz)) (by rw [Z06];lia) (h9 _ _ l5) (i00 (i06 B (h9 _ _ (a4 _ _ j5)) r3 (by lia)) (L.same ta) (i0h (.inr (i02 (y,ys) (i0t ot xl rfl (h9 _ _ l7) (X _ _ x9) ⟨by show y.length<=60;lia,oy⟩ l3 ⟨c5,b8⟩) rfl)) (λe O x hx=>by cases O;exact Z07.mpr (.inl hx)) (λz hz=>by rcases Z07.mp hz with hz | hz;exact a1 z hz;exact c7 z hz) lm (h8 g7) λtv u Gb d4 rp wu tu du nu lz=> ?_)))
   have k5:=g7.trans d4;have r5:=ta.trans d4;have yb:=d4 _ _ (X _ _ y9);refine i0o _ rfl sl _ rfl (SqL.of yb) ?_;obtain ⟨u0,eu0⟩:∃u0,u0=u:=⟨u,rfl⟩;refine C1x (K:=K) (a:=sl) (xs:=I.map V.str) (λj Z Gc=>∃(a7:Option V) (v:V) (u:Tm),Z=[Sro a,Sro nl,Sro d,Sro gl,Sro g,o5,Sio r,Sro tl,Sro C,Sio (m:Int),Sro cl,Sio (i:Int),some (.ref xl),_,a7,Sro sl,Sro bk,some v,none]/\A0u Gb Gc/\Rep (A0s (S2P g C) Gc) v (A1s u)/\TmW u/\TmS u/\dep u<=14+j/\nod u<=120+j/\u=B4k (I.drop (I.length-j)) u0/\TmL (A2g ax) u) (i0r _ tv u rfl (A0u.refl _) rp (i0h wu (D8i _ tu) du nu (by rw [Nat.sub_zero,Z2i,eu0];rfl) tu)) (by rintro j Z Gc ⟨_,_,_,_,sc,_⟩;exact SqL.of (sc _ _ yb)) ?_ ?_
   ·rintro j x Z Gc hj hx ⟨k9,v,u',rfl,k0,e6,e5,f9,n1,j4,b9,g5⟩;refine B3x ?_;intro D';obtain ⟨x0,a9,rfl⟩:=A6l hx;rw [Z08] at a9 hj;have i4:=c7 x0 (Z13 a9);have r4:=L.hn x0 i4;have j7:=(Z03.mp a9).1
    have ed:I.drop (I.length-(j+1))=x0::I.drop (I.length-j):=by
     have e1:I.length-(j+1)=I.length-1-j:=by lia
     have e2:I.length-j=I.length-1-j+1:=by lia
     rw [e1,e2,Z1u j7];rw [Z0b j7] at a9;rw [Z1a a9]
    refine i0k _ rfl _ rfl (A0v rfl) λtp m4=> ?_;have sT:=A0e (o:= .tup [.str "sum",.str x0,v]) m4;exact i0r _ _ (.sum x0 u') rfl (k0.trans sT) (D4o (A0h (h8 (k5.trans k0) tp m4) A0b) (e6.same (A0g sT))) (i0h ⟨r4.1,e5⟩ f9 (by simp only [dep];lia) (by simp only [nod];lia) (by rw [ed,b9];rfl) ⟨λz hz=>by rw [Z0w.mp hz];exact L.dk x0 i4,g5⟩)
   rintro Z Gc ⟨k9,v,u',rfl,g8,e6,e5,f9,n1,j4,b9,g5⟩;rw [Z08] at n1 j4 b9;rw [Nat.sub_self,List.drop_zero] at b9;subst eu0;have g3:=k5.trans g8;have tc:=r5.trans g8;have xc:=g8 _ _ (d4 _ _ (X _ _ x9));have u8:=Paired.length pL;have s7:=Paired.length pA;refine i06 _ rfl (.inl (i01 rfl _ (SqL.of (g3 _ _ hL)))) (i0w _ rfl _ rfl _ _ rfl rfl (i0y nl _ _ _ rfl rfl (SqL.of (tc _ _ a5)) ey (i0k _ rfl _ rfl (A0v rfl) λq1 l8=> ?_)));have a3:=A0e (o:= .tup [.str y,.ref xl,v]) l8;have m1:upd Gc q1 (.tup [.str y,.ref xl,v]) q1=some (.tup [.str y,.ref xl,v]):=A0b;have Sq1:=h8 g3 q1 l8;generalize upd Gc q1 (.tup [.str y,.ref xl,v])=Gd at a3 m1;have h5:=g3.trans a3;have td:=tc.trans a3;have n4:=h5 _ _ hL;have o2:=h5 _ _ hA;have Sxl:S2P g C xl:=⟨(λe=>by rw [e,sz _ _ hA] at d5;cases d5),λe=>by rw [e,sz _ _ hL] at d5;cases d5⟩;have la:C≠g:=λe=>by rw [e,hG] at d3;cases d3
   refine i0u C _ _ rfl rfl n4 (A1l (by lia)) ?_;have k1:A0u (A0s (S2P g C) Gd) (A0s (S2P g C) (upd Gd C (.lst (M++[.ref q1])))):=A2i (A0u.refl _) λz=>z.2 rfl;have te:A0u H3 (upd Gd C (.lst (M++[.ref q1]))):=A0o td n7;have d6:upd Gd C (.lst (M++[.ref q1])) g=some (.lst B):=by rw [A0i la.symm];exact o2
   have i0:upd Gd C (.lst (M++[.ref q1])) C=some (.lst (M++[.ref q1])):=A0b;generalize upd Gd C (.lst (M++[.ref q1]))=Ge at k1 te d6 i0;have q7:∀b,Ge b=none->S2P g C b:=λb hb=>⟨(λe=>by rw [e,d6] at hb;cases hb),λe=>by rw [e,i0] at hb;cases hb⟩;refine i06 _ rfl (.inl (i01 rfl _ (SqL.of d6))) (i0w _ rfl _ rfl _ _ rfl rfl (i0y nl _ _ _ rfl rfl (SqL.of (te _ _ a5)) ey (i06 _ rfl (A0v rfl) λq2 i8=> ?_)));have b7:=A0e (o:= .tup [.str y,.ref xl]) i8;have i2:upd Ge q2 (.tup [.str y,.ref xl]) q2=some (.tup [.str y,.ref xl]):=A0b;have Sq2:=q7 q2 i8;generalize upd Ge q2 (.tup [.str y,.ref xl])=Gf at b7 i2;refine i0u g _ _ rfl rfl (b7 _ _ d6) (A1l (by lia)) ?_;have k2:A0u (A0s (S2P g C) Gd) (A0s (S2P g C) (upd Gf g (.lst (B++[.ref q2])))):=A2i (k1.trans (A0g b7)) λz=>z.1 rfl;have kG:=(A0g (S:=S2P g C) h5).trans k2;refine i11 _ _ _ _ _ _ _ _ _ (i10 (B++[.ref q2]) (M++[.ref q1]) (es++[(y,ys)]) (Y++[(y,ys,u')]) rfl (A0o (te.trans b7) b6) (sS.trans kG) A0b (B2i (Paired.mapP pA λv e z=>z.same kG) (.cons (i0t q2 xl rfl (A0h Sq2 (by rw [A0i Sq2.1];exact i2)) (k2 _ _ (A0h Sxl (a3 _ _ xc))) ⟨by show y.length<=60;lia,oy⟩ l3 ⟨c5,b8⟩) .nil)) ⟨by rw [eA];show _=tb++(Y++[(y,ys,u')]).map _;rw [Z0s,Z0z];rfl,(i0h (by rw [A0i la];exact b7 _ _ i0) (B2i (Paired.mapP pL λv e z=>z.same kG) (.cons (i0r q1 xl v rfl (k2 _ _ (A0h Sq1 m1)) (k2 _ _ (A0h Sxl (a3 _ _ xc))) ((e6.same (A0g a3)).same k2)) .nil)) (by rw [Z06,lL];rfl) (λe O=> ?_) (λj e O=> ?_) (by rw [Z0s,l4];rfl))⟩)
   ·rcases Z07.mp O with O | O
    ·exact g2 e O
    ·rw [Z0w.mp O];exact ⟨oy,by show y.length<=60;lia,l3,c5,e5,f9,by show dep u'<=16;lia,by show nod u'<=122;lia⟩
   ·by_cases hj:j<Y.length
    ·rw [Z26 hj] at O;rw [List.take_append_of_le_length (by lia)];exact h0 j e O
    ·have n6:j=Y.length:=by
      have:=(Z03.mp O).1;simp at this
      lia
     subst n6;rw [Z1l (Z09 _)] at O;simp at O;subst O;rw [List.take_append_of_le_length (Z09 _),Z18,<-eA];exact ⟨(i0m I u0 b9 o3 (λz hz=>by rcases Z07.mp hz with hz | hz;exact a1 z hz;exact c7 z hz) lz),g5⟩
  clear o5 o6;rintro Z G zz;refine e0h zz ?_;clear zz;rintro o5 o6 f6 g6 h3 a7 e4 f3 f5 B M ⟨es,Y,rfl,sG,sS,hA,pA,eA,hL,pL,lL,g2,h0,nL⟩;rw [Int.toNat_natCast] at lL nL;have lA:es.length=tb.length+m:=by rw [eA,Z06,Z08,lL]
  obtain ⟨m0,p5,c8⟩:=c8;have r0:(tb.map (·.1)++Y.map (·.1)).Nodup:=by rw [c8,nL];exact D4q p5 nd
  have q4:∀x∈tb.map (·.1)++Y.map (·.1),NmG x:=λx hx=>by
   rw [c8,nL] at hx;rcases Z07.mp hx with h | h
   ·exact ng x (List.mem_of_mem_drop (Z2p h))
   ·exact ng x (List.mem_of_mem_drop (Z2p h))
  refine i0x _ rfl a ns 6 rfl ((s3.trans sG).seq hS) (by decide) λc6=>(i0m c6 1 rfl (by decide) (by decide) λr=> ?_)
  obtain ⟨b,b0,b31,eb⟩:∃b:Int,0<b/\b<=10^30/\atI [V.int 20,V.int ((10:Int)^(30:Int).toNat-2),V.int ((10:Int)^(30:Int).toNat-2),V.int ((10:Int)^(9:Int).toNat)] (r%4)=some (.int b):=by
   have h4:r%4=0\/r%4=1\/r%4=2\/r%4=3:=by lia
   have k3:(0:Int)<(10:Int)^(30:Int).toNat-2:=by decide +kernel
   have e9:(0:Int)<(10:Int)^(9:Int).toNat:=by decide +kernel
   rcases h4 with e | e | e | e <;> rw [e]
   ·exact i06 _ (by decide) (by decide +kernel) rfl
   ·exact i06 _ k3 (by decide +kernel) rfl
   ·exact i06 _ k3 (by decide +kernel) rfl
   ·exact i06 _ e9 (by decide +kernel) rfl
  refine i18 _ rfl _ _ rfl rfl ⟨by decide,by decide⟩ _ _ rfl rfl (i00 (by decide) (by decide) (by decide)) (i07 _ _ rfl (i0i rfl _ _ rfl rfl (i0i (i00 (by decide) (by decide) (by decide)) _ _ rfl rfl (i0p _ _ rfl rfl (i00 (by decide) (by decide) (by decide)) (A0v rfl) λwl o8=> ?_))));have sw:=A0e (o:= .lst [V.int 20,V.int ((10:Int)^(30:Int).toNat-2),V.int ((10:Int)^(30:Int).toNat-2),V.int ((10:Int)^(9:Int).toNat)]) o8;refine i0s _ rfl _ _ rfl rfl E2e (i0y wl _ _ _ rfl rfl (SqL.of A0b) eb (i0f _ _ rfl rfl (i0i b0 _ _ rfl rfl ?_)));generalize upd G wl (.lst [V.int 20,V.int ((10:Int)^(30:Int).toNat-2),V.int ((10:Int)^(30:Int).toNat-2),V.int ((10:Int)^(9:Int).toNat)])=G1 at sw;have q0:=Paired.length pA;obtain ⟨vl,f1,f2⟩:=C3j (xs:=B) (by lia);obtain ⟨e,O,q,al,rfl,hq,u2,_⟩:=B3z pA f1;refine i0e _ rfl _ rfl (i0e _ rfl _ rfl (i17 _ rfl _ rfl g _ _ _ rfl rfl (SqL.of (sw _ _ hA)) f2 (i10 q _ _ _ rfl rfl (SqT.of (sw _ _ (A0m _ _ hq))) rfl (A0v rfl) λol p1=>⟨A0v rfl,λp hp=> ?_⟩)));have p7:=A0e (o:= .lst [.str e.1]) p1;have b3:=A0e (o:= .tup [.int (2+r/4%b),.ref d,.ref tl,.ref C,.ref ol]) hp;have sE:=sw.trans (p7.trans b3);refine k p ax tb Y _ (s3.trans (sG.trans sE)) ⟨(i08 (2+r/4%b) d tl (i14 C ol N M e.1 A0b (sE _ _ (sG _ _ U)) (sE _ _ (A0m _ _ (sS _ _ r1))) (Paired.mapP pB λv e z=>((z.same sS).same A0m).same sE) (sE _ _ hL) ⟨Paired.mapP pL λv e z=>(z.same A0m).same sE,b3 _ _ A0b⟩)),j0,by lia,by lia,g2,h0,r0,q4,r2,λwh r' e'=> ?_⟩;have e':=e';rw [A0b] at e';cases e';have z1:=Z1v (r/4) (show b≠0 by lia);have z2:=Z1p (r/4) b0;have z3:(10:Int)^30+2<=10^31:=by decide +kernel
  lia
theorem E0h (n:Nat):(sN n).cps.toList=115::M84.figs n:=by
 unfold sN;rw [Str.cps_append,Array.toList_append];have h:(Str.ofString (toString (n:Int))).cps.toList=M84.figs n:=M84.sg_nat n;rw [h];rfl
theorem D4k (h:sN n=sN m):n=m:=by
 have a:=congrArg (λx:Str=>x.cps.toList) h;simp only [E0h] at a;injection a with _ h2;rw [<-M84.figs_val n,<-M84.figs_val m,h2]
theorem D6x (n:Nat):¬NmG (sN n):=λh=>by
 have a:=M84.figs_pos n
 cases e:M84.figs n with
 | nil=>rw [e] at a;simp at a
 | cons c r =>
  have d:=h c (by rw [E0h,e];simp);have b:=M84.figs_dg n c (by rw [e];simp)
  lia
structure NmR (z z':LS):Prop where
 ex:∃c,z'.1=z.1+c/\z'.2.map (·.1)=z.2.map (·.1)++(List.range c).map λi=>sN (z.1+i)
theorem NmR.refl:NmR z z:=⟨0,rfl,by simp⟩
theorem NmR.trans {a b c:LS} (h:NmR a b) (k:NmR b c):NmR a c:=by
 obtain ⟨m,e,f⟩:=h.ex;obtain ⟨n,g,d⟩:=k.ex;refine ⟨m+n,by lia,?_⟩;rw [d,f,Z0z,List.range_add,Z0s,List.map_map,e];congr 2;apply List.map_congr_left;intro i _;show sN (a.1+m+i)=sN (a.1+(m+i));rw [Nat.add_assoc]
theorem B8v {kn:List Str} (h:NmR z r.2):NmR z (fin kn pend g r).2:=by
 cases pend with
 | nil=>exact h
 | cons x s =>
  refine h.trans ⟨1,rfl,?_⟩;show (r.2.2++[lfL kn (x::s) r.2.1 (gdM g r.1)]).map (·.1)=_;rw [Z0s];rfl
theorem C4u {kn:List Str}:∀(u:Tm) (pend:List Str) (g:List Gd) (z:LS),NmR z (wsP kn u pend g z).2
 | .num _,_,_,_=>B8v (r:=(.num _,_)) .refl
 | .place _,_,_,_=>B8v (r:=(.place _,_)) .refl
 | .read _ _,_,_,_=>B8v (r:=(.read _ _,_)) .refl
 | .sum x b,pend,g,z=>C4u b (pend++[x]) g z
 | .pair k l r,pend,g,z=>B8v (r:=(.pair _ _ _,_)) ((C4u l _ _ _).trans (C4u r _ _ _))
 | .guard x lo hi l r,pend,g,z=>B8v (r:=(.guard _ _ _ _ _,_)) ((C4u l _ _ _).trans (C4u r _ _ _))
structure NmI (as:List Str) (z:LS):Prop where
 nd:(z.2.map (·.1)).Nodup
 ex:∀x∈z.2.map (·.1),(∃k,k<z.1/\x=sN k)\/x∈as
theorem NmI.lift {z':LS} (h:NmI as z) (r:NmR z z') (p:∀x∈as,NmG x):NmI as z':=by
 obtain ⟨c,t,m⟩:=r.ex;refine ⟨?_,λx g=> ?_⟩
 ·rw [m];refine Z0l.mpr (i00 h.nd ?_ λa s b o e=> ?_)
  ·exact List.Pairwise.map (f:=λi=>sN (z.1+i)) (λi j (l:i≠j) e=>l (by have:=D4k e;lia)) List.nodup_range
  ·obtain ⟨i,_,rfl⟩:=Z2c.mp o;rcases h.ex a s with ⟨k,q,d⟩ | d
   ·have:=D4k (d.symm.trans e)
    lia
   ·exact D6x _ (e▸p a d)
 ·rw [m] at g;rcases Z07.mp g with g | g
  ·rcases h.ex x g with ⟨k,q,d⟩ | d
   ·exact .inl (i02 k (by lia) d)
   ·exact .inr d
  ·obtain ⟨i,n,rfl⟩:=Z2c.mp g;have:=List.mem_range.mp n;exact .inl (i02 (z.1+i) (by lia) rfl)
theorem C4f:∀(s:List Str) (u:Tm),A3o (B4k s u)=s++A3o u/\inS (B4k s u)=inS u
 | [],u=>⟨rfl,rfl⟩
 | x::s,u=>by
  obtain ⟨b,a⟩:=C4f s u;exact ⟨by show x::A3o (B4k s u)=_;rw [b];rfl,a⟩
theorem C4a {nm:List Str}:∀{u:Tm} {sc:List Str},A6o nm sc u->sc.Nodup->A6o nm (sc++A3o u) (inS u)/\(∀x∈A3o u,x∈nm)/\(sc++A3o u).Nodup
 | .num _,sc,h,n=>(i00 True.intro (λx c=>by cases c) (by show (sc++[]).Nodup;rw [Z0u];exact n))
 | .place x,sc,h,n=>(i00 (by show x∈sc++[];rw [Z0u];exact h) (λx c=>by cases c) (by show (sc++[]).Nodup;rw [Z0u];exact n))
 | .read a ix,sc,h,n=>(i00 (by show A6o nm (sc++[]) (.read a ix);rw [Z0u];exact h) (λx c=>by cases c) (by show (sc++[]).Nodup;rw [Z0u];exact n))
 | .pair k l r,sc,h,n=>(i00 (by show A6o nm (sc++[]) (.pair k l r);rw [Z0u];exact h) (λx c=>by cases c) (by show (sc++[]).Nodup;rw [Z0u];exact n))
 | .guard x lo hi l r,sc,h,n=>(i00 (by show A6o nm (sc++[]) (.guard x lo hi l r);rw [Z0u];exact h) (λx c=>by cases c) (by show (sc++[]).Nodup;rw [Z0u];exact n))
 | .sum x b,sc,h,n=>by
  have g:(sc++[x]).Nodup:=Z0l.mpr (i00 n (by simp) λa j b i=>by rw [Z0w.mp i];intro z;exact h.2.1 (z▸j));obtain ⟨f,m,o⟩:=C4a h.2.2 g;have e:sc++A3o (.sum x b)=sc++[x]++A3o b:=by show sc++(x::A3o b)=_;simp
  rw [e];refine i00 f (λy d=> ?_) o;rcases Z0e.mp (show y∈x::A3o b from d) with rfl | d
  ·exact h.1
  ·exact m y d
theorem C3q {L:Str->Int} {okn d:OkP} {ρ:Env} (f:∀ρ a c,okn ρ a c->d ρ a c):∀{u:Tm},A1y L okn d ρ u->(∀x∈A3o u,0<=ρ x/\ρ x<L x)->A1y L okn d ρ (inS u)
 | .num _,h,_=>h
 | .place _,h,_=>h
 | .read _ _,h,_=>h
 | .pair _ _ _,h,_=>h
 | .guard _ _ _ _ _,h,_=>h
 | .sum x b,h,hr=>by
  have e:=hr x (.head _);have h:=h (ρ x) e.1 e.2;rw [B9e] at h;have g:A1y L okn d ρ b:=A1y.mono f h;show A1y L okn d ρ (inS b);exact C3q f g λy i=>hr y (.tail _ i)
theorem B7b {nm:List Str} {u:Tm}:∀{s sc:List Str},A6o nm (sc++s) u->(sc++s).Nodup->(∀x∈s,x∈nm)->A6o nm sc (B4k s u)
 | [],sc,h,_,_=>by rw [Z0u] at h;exact h
 | x::s,sc,h,n,hs=>by
  have e:sc++x::s=sc++[x]++s:=by simp
  rw [e] at h n;refine i00 (hs x (.head _)) (λa=> ?_) (B7b h n λy b=>hs y (.tail _ b));have:=(Z0l.mp n).1;exact (Z0l.mp this).2.2 x a x (by simp) rfl
structure KnC (lk:List (Key×V)) (nm:List Str):Prop where
 n:∀x∈nm,¬x=("":Str)
 l:∀x∈nm,1<=lnL lk x
 d:nm.Nodup
theorem D2q {nm:List Str} {e:Lt} (c:KnC lk nm) (h:LtS lk nm es e) (y:∀f∈es,f∈tb\/∃l∈z.2,l.1=f.1/\l.2.1=f.2) (S:B9c (lnL lk) tb z.2) :
  B9c (lnL lk) tb (C8t nm e z).2/\(∃ys,(C8t nm e z).2=z.2++ys++[(e.1,e.2.1,A3o e.2.2,(wsP nm (inS e.2.2) [] [] z).1)])/\NmR z (wsP nm (inS e.2.2) [] [] z).2:=by
 obtain ⟨k,u,w,o,m,F⟩:=h.ex;have G:A6o nm e.2.1 e.2.2:=by rw [w];exact B7b F.ti o λx b=>m x (Z07.mpr (.inr b))
 have B:=(Z0l.mp o).1;obtain ⟨O,J,X⟩:=C4a G B;obtain ⟨I,N⟩:=C4f k u
 have A:∀x∈e.2.1++A3o e.2.2,x∈nm:=λx b=>by
  rcases Z07.mp b with b | b
  ·exact m x (Z07.mpr (.inl b))
  ·exact J x b
 have W:WsC (lnL lk) nm (e.2.1++A3o e.2.2) [] []:=⟨c.n,c.l,λx b=>A x (by rw [Z0u] at b;exact b),λf j=>by cases j⟩
 have C:∀ρ a d,okA (lnL lk) es ρ a d->knM (lnL lk) tb z.2 a d:=λρ a d j=>by
  obtain ⟨f,j,t,s⟩:=j;rcases y f j with q | ⟨l,H,K,Q⟩
  ·exact .inl (i06 f q t s)
  ·exact .inr (i06 l H (K.trans t) (by rw [Q];exact s))
 have T:∀ρ,InR (lnL lk) (e.2.1++A3o e.2.2) ρ->A1y (lnL lk) (okA (lnL lk) es) (okO (lnL lk) es (some (e.1,e.2.1))) ρ (inS e.2.2):=λρ i=>by
  rw [w,N];rw [w,I] at i;refine C3q (λρ a d h=> .inl h) (F.sf ρ ⟨i.1,λx b=>i.2 x ?_⟩) λx b=>i.2 x ?_
  ·rw [<-Z0z];exact Z07.mpr (.inl b)
  ·rw [<-Z0z];exact Z07.mpr (.inr b)
 have g:=C5d (L:=lnL lk) (tb:=tb) (okn:=okA (lnL lk) es) (nm:=nm) (inS e.2.2) (okO (lnL lk) es (some (e.1,e.2.1))) (e.2.1++A3o e.2.2) [] [] z W C (λρ i _=>by rw [Z0u] at i;rw [B3b];exact T ρ i) (by rw [Z0u];exact O) S;have D:=C4u (kn:=nm) (inS e.2.2) [] [] z;obtain ⟨ys,v⟩:=g.pre;have M:(C8t nm e z).2=(wsP nm (inS e.2.2) [] [] z).2.2++[(e.1,e.2.1,A3o e.2.2,(wsP nm (inS e.2.2) [] [] z).1)]:=rfl;rw [M];generalize wsP nm (inS e.2.2) [] [] z=r at g D v;refine i00 (g.all.snoc ⟨g.ns,λR=>B5m g.ns g.ti,λρ i _ p U=> ?_⟩) ⟨ys,by rw [v]⟩ D
 ·rcases g.lk ρ i (λf j=>by cases j) p U with q | q
  ·rcases q with q | ⟨f,j,t,s,P⟩
   ·have:=C ρ _ _ q;rw [v];exact .inl this.mono
   ·cases j
    exact .inr (i00 t s P)
  ·exact .inl q
structure DuI (lk:List (Key×V)) (tb:List (Str×List Str)) (ls:List Lt) (z:LS):Prop where
 al:B9c (lnL lk) tb z.2
 ar:∀f∈C5y ls,∃l∈z.2,l.1=f.1/\l.2.1=f.2
 nm:NmI (ls.map (·.1)) z
theorem E0y {lk:List (Key×V)} {tb:List (Str×List Str)} {nm:List Str} {ls:List Lt} (c:KnC lk nm) (y:∀(j:Nat) (e:Lt),ls[j]? =some e->LtS lk nm (tb++C5y (ls.take j)) e) (nd:(ls.map (·.1)).Nodup) (u:∀x∈ls.map (·.1),NmG x):∀i,i<=ls.length->DuI lk tb (ls.take i) (duP nm (ls.take i))
 | 0,_=>⟨(λi e B=>by cases B),(λf m=>by cases m),⟨.nil,λx d=>by cases d⟩⟩
 | i+1,hi=>by
  have g:ls[i]? =some ls[i]:=Z0b (by lia);have r:=E0y c y nd u i (by lia);have h:=y i _ g;rw [B0m g];have w:ls.take (i+1)=ls.take i++[ls[i]]:=by rw [Z14,g];rfl
  rw [w]
  have o:((ls.take i).map (·.1)++[ls[i].1]).Nodup:=by
   have:=nd.sublist ((Z2o (i+1) ls).map (·.1));rw [w,Z0s] at this;exact this
  have t:∀x∈(ls.take i).map (·.1),NmG x:=λx d=>u x ((Z2o i ls).map (·.1) |>.mem d);have p:NmG ls[i].1:=u _ (Z2c.mpr (i02 _ (Z13 g) rfl));generalize ls[i]=e at h o p;generalize duP nm (ls.take i)=z at r;obtain ⟨I,⟨J,A⟩,C⟩:=D2q c h (λf m=>(Z07.mp m).elim .inl λq=> .inr (r.ar f q)) r.al;have s:=r.nm.lift C t;refine ⟨I,λf m=> ?_,?_⟩
  ·rw [A];unfold C5y at m;rw [Z0s] at m;rcases Z07.mp m with q | q
   ·obtain ⟨l,D,H⟩:=r.ar f q;exact i02 l (Z07.mpr (.inl (Z07.mpr (.inl D)))) H
   ·rw [Z0w.mp q];exact i06 _ (Z07.mpr (.inr (.head _))) rfl rfl
  ·have v:(C8t nm e z).2.map (·.1)=(wsP nm (inS e.2.2) [] [] z).2.2.map (·.1)++[e.1]:=by
    show ((wsP nm (inS e.2.2) [] [] z).2.2++[_]).map _=_;rw [Z0s];rfl
   refine ⟨?_,λx d=> ?_⟩
   ·rw [v];refine Z0l.mpr (i00 s.nd (by simp) λa G b F q=> ?_);rw [Z0w.mp F] at q;rcases s.ex a G with ⟨k,_,n⟩ | n
    ·exact D6x k (by rw [<-n,q];exact p)
    ·exact (Z0l.mp o).2.2 a n e.1 (by simp) q
   ·rw [v] at d;rw [Z0s];rcases Z07.mp d with d | d
    ·rcases s.ex x d with n | n
     ·exact .inl n
     ·exact .inr (Z07.mpr (.inl n))
    ·exact .inr (Z07.mpr (.inr d))
theorem A6b:∀u:Tm,A1s u=enc u
 | .num _=>rfl
 | .place _=>rfl
 | .read _ _=>rfl
 | .sum x b=>by show PyData.tuple [.str "sum",.str x,A1s b]= .tuple [.str "sum",.str x,enc b];rw [A6b b]
 | .pair k l r=>by cases k <;> (show PyData.tuple [_,A1s l,A1s r]= .tuple [_,enc l,enc r];rw [A6b l,A6b r];rfl)
 | .guard x lo hi l r=>by show PyData.tuple [.str "guard",.str x,.int lo,.int hi,A1s l,A1s r]= .tuple [.str "guard",.str x,.int lo,.int hi,enc l,enc r];rw [A6b l,A6b r]
theorem B5k:∀u:Tm,TmW u->TmS u->PyData.canLay0 (enc u)=true/\PyData.depth (enc u)<=dep u+2
 | .num z,_,_=>by simp [enc,PyData.canLay0,PyData.canLayAll0,PyData.depth,PyData.depthAll,dep];decide +kernel
 | .place x,h,_=>by
  have:PyData.strOk x=true:=h.2;simp [enc,PyData.canLay0,PyData.canLayAll0,PyData.depth,PyData.depthAll,dep,this];decide +kernel
 | .read a ix,h,hs=>by
  have d:PyData.strOk a=true:=hs;obtain ⟨c,e⟩:=E4h ix h.2.2;constructor
  ·simp [enc,A5c,PyData.canLay0,PyData.canLayAll0,d,c];decide +kernel
  ·simp [enc,A5c,PyData.depth,PyData.depthAll,dep];lia
 | .sum x b,h,hs=>by
  have d:PyData.strOk x=true:=h.1.2;obtain ⟨c,e⟩:=B5k b h.2 hs;constructor
  ·simp [enc,PyData.canLay0,PyData.canLayAll0,d,c];decide +kernel
  ·simp [enc,PyData.depth,PyData.depthAll,dep];lia
 | .pair k l r,h,hs=>by
  obtain ⟨c,e⟩:=B5k l h.1 hs.1;obtain ⟨f,g⟩:=B5k r h.2 hs.2;constructor
  ·simp [enc,PyData.canLay0,PyData.canLayAll0,D5u,c,f]
  ·simp [enc,PyData.depth,PyData.depthAll,dep];lia
 | .guard x lo hi l r,h,hs=>by
  have d:PyData.strOk x=true:=h.1.2;obtain ⟨c,e⟩:=B5k l h.2.2.2.1 hs.1;obtain ⟨f,g⟩:=B5k r h.2.2.2.2 hs.2;constructor
  ·simp [enc,PyData.canLay0,PyData.canLayAll0,d,c,f];decide +kernel
  ·simp [enc,PyData.depth,PyData.depthAll,dep];lia
theorem B9k (h:TmW u) (s:TmS u) (b:dep u<=40):SeqAt.shaped (A1s u)=true:=by
 obtain ⟨a,c⟩:=B5k u h s;rw [A6b];simp only [SeqAt.shaped,a,Bool.true_and,decide_eq_true_eq]
 lia
theorem D9b {a:Tm} (h:PyData.eqv (A1s a) (A1s b)=true):a=b:=D6e a b (by rw [A6b,A6b] at h;exact h)
theorem B9b {a:Addr} (k:KB a H H') (n:¬S a):A0u (A0s S H) (A0s S H'):=λb o e=>A0h (A0l e).1 (k b o (λz=>n (z▸(A0l e).1)) (A0l e).2)
theorem B0w {c b:Addr} (k:KB c H H') (h:H' c=some o) (a:H' b=none):H b=none:=by
 cases e:H b with
 | none=>rfl
 | some u =>
  have:b≠c:=λz=>by rw [z,h] at a;cases a
  rw [k b u this e] at a;cases a
def D8f (A:Adr) (H:Hp) (v:V):Prop:=∃(q:Addr) (a b:V) (u:Tm),v= .ref q/\H q=some (.tup [a,b])/\Rep H a (A1s u)/\TmW u/\TmS u/\dep u<=40/\Ob A H b u
theorem D8f.same (h:D8f A H v) (s:A0u H H'):D8f A H' v:=by
 obtain ⟨q,b,a,u,rfl,e,r,w,t,d,o⟩:=h;exact i10 q b a u rfl (s _ _ e) (r.same s) w t ⟨d,o.imp s⟩
structure E4p (A:Adr) (S:Addr->Prop) (H:Hp) (v:V) (kp:Addr) (kvs:List V) (u:Tm):Prop where
 ns:¬S kp
 fr:Fr S H
 hk:H kp=some (.lst kvs)
 kv:∀x∈kvs,D8f A (A0s S H) x
 l:kvs.length+nod u<=100000
 rp:Rep (A0s S H) v (A1s u)
 w:TmW u
 s:TmS u
 d:dep u<=40
def E1s (A:Adr) (S:Addr->Prop) (d:Addr) (kvs:List V) (n:Nat) (u:Tm) (H:Hp) (Q:VK):Prop:=∀(c:V) (a:List V) (b:Hp),KB d H b->b d=some (.lst a)->(∀x∈a,D8f A (A0s S b) x)->a.length+n<=kvs.length+nod u->Ob A (A0s S b) c u->Q c b
def B4n (A:Adr) (n:Nat):Sp:=λc H Q _=>∃(v:V) (b:Addr) (a:List V) (u:Tm) (S:Addr->Prop),c=[v,.ref b]/\E4p A S H v b a u/\dep u<=n/\E1s A S b a 0 u H Q
def D0r (A:Adr) (n:Nat):Sp:=λc H Q _=>∃(v:V) (b:Addr) (a:List V) (u:Tm) (S:Addr->Prop),c=[v,.ref b]/\E4p A S H v b a u/\dep u<=n/\E1s A S b a 1 u H Q
theorem sne {b:Str} {C:Prop} (h:V.str a=V.str b) (n:¬a=b):C:=absurd (V.str.inj h) n
theorem D7j (T:Txt K mg t) (hm:6<=m) (Ge1:A3h P w K mg base CX0 m t.qa t.qw B3g (B4n t n)):A3h P w K mg base CX0 (m+1) t.jb t.jf B3g (D0r t (n+1)):=by
 have Ga7:= @A9d P w K mg base t T;have Ge2:= @B7p P w K mg base t T;have Gb8:= @B1w P w K mg base t T;have Ga6:= @B0k P w K mg base t T;have Ga5:= @A6g P w K mg base t T;have Ge3:= @C1v P w K mg base t T;refine T.qi.F.ok A7w (by walk_at "ln") λ_ A _ s H _ Q E N h=> ?_
 ·obtain ⟨v,kp,C,u,S,rfl,⟨M,I,hk,kv,lk,rp,wu,su,du⟩,hd,k⟩:=h;refine i02 _ (@RS.r _ _ _ (rq1 (rq4 (A0p A3d (A1f A1h (pv 0) A0d (λ_ _=>rfl)) A1w (A1b _)) (rq3 (rq5 (pmk T.sn Ga7 N T.qy T.di.b (A0a (A1f A1h (pv 0) A0d (λ_ _=>rfl)) A0c)))) ⟨A0x⟩) (rq1 (rq4 (A0p A3d (A1f A1h (pv 0) A0d (λ_ _=>rfl)) A1w (A1b _)) (rq3 (rq5 (pmk T.zA Ge2 N T.xo T.jk.b (A0a (A1f A1h (pv 0) A0d (λ_ _=>rfl)) A0c)))) ⟨A0x⟩) (rq1 (rq4 (A0p A3d (A1f A1h (pv 0) A0d (λ_ _=>rfl)) A1w (A1b _)) (rq3 (rq5 (pmk T.yK Gb8 N T.xj T.ie.b (A0a (A1f A1h (pv 0) A0d (λ_ _=>rfl)) (A0a (A2k A5b (by rfl) T.ib Z1o (A0a (A1f A1h (pv 0) A0d (λ_ _=>rfl)) A0c)) A0c))))) ⟨A0x⟩) (rq1 (rq4 (A0p A3d (A1f A1h (pv 0) A0d (λ_ _=>rfl)) A1w (A1b _)) (rq3 (rq5 (pmk T.AD Ge3 N T.ww T.p6.b (A0a (A1f A1h (pv 0) A0d (λ_ _=>rfl)) (A0a (pcl Ge1 N T.ky (A0a (A1f A1h (pv 0) A0d (λ_ _=>rfl)) (A0a (pv 1) A0c))) A0c))))) ⟨A0x⟩) (rq1 (rq6 2 A7w.nd (pcl Ge1 N T.ky (A0a (A1f A1h (pv 0) (B7k B0p A0d) (λ_ _=>rfl)) (A0a (pv 1) A0c)))) (rq1 (rq6 3 A7w.nd (pcl Ge1 N T.ky (A0a (A1f A1h (pv 0) (B7k B0p A0d) (λ_ _=>rfl)) (A0a (pv 1) A0c)))) (rq1 (rq4 (A0p A3d (A1f A1h (pv 0) A0d (λ_ _=>rfl)) A1w (A1b _)) (rq3 (rq5 (pmk T.y6 Ga6 N T.mw T.gm.b (A0a (A1f A1h (pv 0) A0d (λ_ _=>rfl)) (A0a (A1f A1h (pv 0) A0d (λ_ _=>rfl)) (A0a (A1f A1h (pv 0) A0d (λ_ _=>rfl)) (A0a (pv 2) (A0a (pv 3) A0c)))))))) ⟨A0x⟩) (rq1 (rq4 (A0p A3d (A1f A1h (pv 0) A0d (λ_ _=>rfl)) A1w (A1b _)) (rq3 (rq5 (pmk T.yI Ga5 N T.yD T.cn.b (A0a (pv 2) (A0a (pv 3) A0c))))) ⟨A0x⟩) (rq1 (rq4 (A0p A3d (A1f A1h (pv 0) A0d (λ_ _=>rfl)) A1w (A1b _)) (rq3 (rq5 (pmk T.ye Ga5 N T.wy T.cn.b (A0a (pv 2) (A0a (pv 3) A0c))))) ⟨A0x⟩) (rq3 (rq5 (pmk T.yk Ga5 N T.yL T.cn.b (A0a (pv 2) (A0a (pv 3) A0c))))))))))))))) ?_;obtain ⟨q,xs,rfl,eq⟩:=B6m rp;have sq:=SqT.of (K:=K) (A0m _ _ eq);have G:∀(v':V) (U:List V) (H1 H':Hp),KB kp H H1->H1 kp=some (.lst U)->(∀x∈U,D8f t (A0s S H1) x)->U.length+1<=C.length+nod u->A0u H1 H'->Ob t (A0s S H') v' u->Q v' H':=λv' U H1 H' kb h1 hv hl s ob=>k v' U H' (kb.trans (KB.of s)) (s _ _ h1) (λx f=>(hv x f).same (A0g s)) hl ob
  cases u with
  | num z =>
   obtain ⟨q',O,d⟩:=D7b (z:=z) rp;cases O;have d:=SqT.of (K:=K) (A0m _ _ d);refine i1c _ rfl q _ _ _ rfl rfl d rfl rfl _ rfl (A8z (λ_=> ?_) (λh=>absurd rfl h));refine i13 _ rfl q _ _ _ rfl rfl d rfl λx g f c D=>(i10 x _ g _ rfl A0b T.cy T.c_ rfl ?_);exact G _ C H _ KB.refl hk kv (Z09 _) (A2f f c) (.num (A0h (I x f) A0b))
  | place z =>
   obtain ⟨q',O,d⟩:=C7i (x:=z) rp;cases O;have d:=SqT.of (K:=K) (A0m _ _ d);refine i1c _ rfl q _ _ _ rfl rfl d rfl rfl _ rfl (A8z (λh=>sne h (by decide +kernel)) (λ_=> ?_));refine i1c _ rfl q _ _ _ rfl rfl d rfl rfl _ rfl (A8z (λ_=> ?_) (λh=>absurd rfl h));refine i13 _ rfl q _ _ _ rfl rfl d rfl λx g f c D=>(i10 x _ g _ rfl A0b T.fw T.iw rfl ?_);exact G _ C H _ KB.refl hk kv (Z09 _) (A2f f c) (.place (A0h (I x f) A0b))
  | read a ix =>
   obtain ⟨q',l,iv,O,d,Z,ri⟩:=D2b (x:=a) (ix:=ix) rp;cases O;have d:=SqT.of (K:=K) (A0m _ _ d);refine i1c _ rfl q _ _ _ rfl rfl d rfl rfl _ rfl (A8z (λh=>sne h (by decide +kernel)) (λ_=> ?_));refine i1c _ rfl q _ _ _ rfl rfl d rfl rfl _ rfl (A8z (λh=>sne h (by decide +kernel)) (λ_=> ?_));refine i1c _ rfl q _ _ _ rfl rfl d rfl rfl _ rfl (A8z (λ_=> ?_) (λh=>absurd rfl h));refine i13 _ rfl q _ _ _ rfl rfl d rfl (i0z _ rfl q _ _ _ rfl rfl d (i0i rfl l _ rfl (.inl (SqL.of (A0m _ _ Z))) λl2 a5 x g f c D=> ?_));have v1:A0u H (upd H l2 (.lst iv)):=A0e a5;have a0:upd H l2 (.lst iv) l2=some (.lst iv):=A0b;generalize upd H l2 (.lst iv)=G1 at v1 a0 f c⊢;have v2:A0u G1 (upd (upd G1 g (.own x)) x (.ins t.aj g [])):=A0o (A0e c) f;have a4:upd (upd G1 g (.own x)) x (.ins t.aj g []) x=some (.ins t.aj g []):=A0b;generalize upd (upd G1 g (.own x)) x (.ins t.aj g [])=G2 at v2 a4⊢;have a9:=wu.2.1;refine ⟨x,(i0y g l2 a ix rfl a4 (.lst (v2 _ _ a0) (ri.same (A0m.trans (v1.trans v2)))) (by lia) λl' G3 a6 a8 a7=>⟨rfl,?_⟩)⟩;have v3:A0u G1 G3:=λb o e=>a7 b o (A0z e f) (v2 _ _ e);exact G (.ref x) C H G3 KB.refl hk kv (Z09 _) (v1.trans v3) (.read (A0h (I x (v1.free f)) a6) (a8.same (A2x (A0u.refl _) λa o _ h=>I a ((v1.trans v2).free h))))
  | sum x b =>
   obtain ⟨q',a,O,d,ra⟩:=C8p rp;cases O;have d:=SqT.of (K:=K) (A0m _ _ d);simp only [dep] at hd du;simp only [nod] at lk;refine i1c _ rfl q _ _ _ rfl rfl d rfl rfl _ rfl (A8z (λh=>sne h (by decide +kernel)) (λ_=> ?_));refine i1c _ rfl q _ _ _ rfl rfl d rfl rfl _ rfl (A8z (λh=>sne h (by decide +kernel)) (λ_=> ?_));refine i1c _ rfl q _ _ _ rfl rfl d rfl rfl _ rfl (A8z (λh=>sne h (by decide +kernel)) (λ_=> ?_));refine i1c _ rfl q _ _ _ rfl rfl d rfl rfl _ rfl (A8z (λ_=> ?_) (λh=>absurd rfl h));refine i13 _ rfl q _ _ _ rfl rfl d rfl (i13 _ rfl q _ _ _ rfl rfl d rfl (i0l _ rfl a kp C (i0m b S rfl ⟨M,I,hk,kv,by lia,ra,wu.2,su,by lia⟩ (by lia) λv1 R H1 j B p l1 Y=>λy g f c D=>(i14 y _ g _ _ rfl A0b T.d_ T.fm T.ik ⟨rfl,?_⟩))));exact G (.ref y) R H1 _ j B p (by simp only [nod];lia) (A2f f c) (.sum (A0h (I y (B0w j B f)) A0b) (Y.imp (A0g (A2f f c))))
  | pair kk l r =>
   obtain ⟨q',a,b,O,d,ra,rb⟩:=C2q rp;cases O;have L:=d;have d:=SqT.of (K:=K) (A0m _ _ d);simp only [dep] at hd du;simp only [nod] at lk;have tn:¬opS kk="number"/\¬opS kk="place"/\¬opS kk="read"/\¬opS kk="sum"/\¬opS kk="guard":=by cases kk <;> exact i09 (by decide +kernel) (by decide +kernel) (by decide +kernel) (by decide +kernel) (by decide +kernel)
   refine i1c _ rfl q _ _ _ rfl rfl d rfl rfl _ rfl (A8z (λh=>sne h tn.1) (λ_=> ?_));refine i1c _ rfl q _ _ _ rfl rfl d rfl rfl _ rfl (A8z (λh=>sne h tn.2.1) (λ_=> ?_));refine i1c _ rfl q _ _ _ rfl rfl d rfl rfl _ rfl (A8z (λh=>sne h tn.2.2.1) (λ_=> ?_));refine i1c _ rfl q _ _ _ rfl rfl d rfl rfl _ rfl (A8z (λh=>sne h tn.2.2.2.1) (λ_=> ?_));refine i17 _ rfl _ rfl q _ _ _ rfl rfl d rfl (i0l _ rfl a kp C (i0m l S rfl ⟨M,I,hk,kv,by lia,ra,wu.1,su.1,by lia⟩ (by lia) λv1 R H1 j B p l1 Y=> ?_));have r1:=B9b j M;have a3:Fr S H1:=λy hy=>I y (B0w j B hy);refine i17 _ rfl _ rfl q _ _ _ rfl rfl (SqT.of (A0m _ _ (r1 _ _ L))) rfl (i0l _ rfl b kp R (i0m r S rfl ⟨M,a3,B,p,by lia,rb.same r1,wu.2,su.2,by lia⟩ (by lia) λv2 a1 H2 J W X l2 a2=> ?_));have i:=j.trans J;have r2:=B9b i M;have Z:=SqT.of (K:=K) (A0m _ _ (r2 _ _ L))
   have fin:∀(o:Op3) (x g:Addr),kk=o->H2 x=none->H2 g=none->Q (.ref x) (upd (upd (upd H2 g (.own x)) x (.ins (A6z t o) g [])) x (.ins (A6z t o) g [("left",v1),("right",v2)])):=by
    intro o x g eo f c;subst eo;exact G (.ref x) a1 H2 _ i W X (by simp only [nod];lia) (A2f f c) (.pair (A0h (I x (B0w i W f)) A0b) ((Y.imp (B9b J M)).imp (A0g (A2f f c))) (a2.imp (A0g (A2f f c))))
   refine i1c _ rfl q _ _ _ rfl rfl Z rfl rfl _ rfl (A8z (λh=>sne h tn.2.2.2.2) (λ_=> ?_));refine i1c _ rfl q _ _ _ rfl rfl Z rfl rfl _ rfl (A8z (λh0=> ?_) (λh0=> ?_))
   ·exact i0e _ rfl _ rfl λx g f c D=>(i14 x _ g _ _ rfl A0b (A8n T .plus) (B7u T .plus) (C0a T .plus) ⟨rfl,fin .plus x g (by cases kk with | plus=>rfl | minus=>exact sne h0 (by decide +kernel) | times=>exact sne h0 (by decide +kernel)) f c⟩)
   refine i1c _ rfl q _ _ _ rfl rfl Z rfl rfl _ rfl (A8z (λh1=> ?_) (λh1=> ?_))
   ·exact i0e _ rfl _ rfl λx g f c D=>(i14 x _ g _ _ rfl A0b (A8n T .minus) (B7u T .minus) (C0a T .minus) ⟨rfl,fin .minus x g (by cases kk with | minus=>rfl | plus=>exact sne h1 (by decide +kernel) | times=>exact sne h1 (by decide +kernel)) f c⟩)
   exact i0e _ rfl _ rfl λx g f c D=>(i14 x _ g _ _ rfl A0b (A8n T .times) (B7u T .times) (C0a T .times) ⟨rfl,fin .times x g (by cases kk with | times=>rfl | plus=>exact absurd rfl h0 | minus=>exact absurd rfl h1) f c⟩)
  | guard x lo hi l r =>
   obtain ⟨q',a,b,O,d,ra,rb⟩:=B3d rp;cases O;have L:=d;have d:=SqT.of (K:=K) (A0m _ _ d);simp only [dep] at hd du;simp only [nod] at lk;refine i1c _ rfl q _ _ _ rfl rfl d rfl rfl _ rfl (A8z (λh=>sne h (by decide +kernel)) (λ_=> ?_));refine i1c _ rfl q _ _ _ rfl rfl d rfl rfl _ rfl (A8z (λh=>sne h (by decide +kernel)) (λ_=> ?_));refine i1c _ rfl q _ _ _ rfl rfl d rfl rfl _ rfl (A8z (λh=>sne h (by decide +kernel)) (λ_=> ?_));refine i1c _ rfl q _ _ _ rfl rfl d rfl rfl _ rfl (A8z (λh=>sne h (by decide +kernel)) (λ_=> ?_));refine i17 _ rfl _ rfl q _ _ _ rfl rfl d rfl (i0l _ rfl a kp C (i0m l S rfl ⟨M,I,hk,kv,by lia,ra,wu.2.2.2.1,su.1,by lia⟩ (by lia) λv1 R H1 j B p l1 Y=> ?_));have r1:=B9b j M;have a3:Fr S H1:=λy hy=>I y (B0w j B hy);refine i17 _ rfl _ rfl q _ _ _ rfl rfl (SqT.of (A0m _ _ (r1 _ _ L))) rfl (i0l _ rfl b kp R (i0m r S rfl ⟨M,a3,B,p,by lia,rb.same r1,wu.2.2.2.2,su.2,by lia⟩ (by lia) λv2 a1 H2 J W X l2 a2=> ?_));have i:=j.trans J;have r2:=B9b i M;have Z:=SqT.of (K:=K) (A0m _ _ (r2 _ _ L));refine i1c _ rfl q _ _ _ rfl rfl Z rfl rfl _ rfl (A8z (λ_=> ?_) (λh=>absurd rfl h));refine i13 _ rfl q _ _ _ rfl rfl Z rfl (i13 _ rfl q _ _ _ rfl rfl Z rfl (i13 _ rfl q _ _ _ rfl rfl Z rfl (i0e _ rfl _ rfl λy g f c D=>(i08 y g _ ⟨_,(i0r _ _ _ rfl A0b rfl ?_)⟩))));exact G (.ref y) a1 H2 _ i W X (by simp only [nod];lia) (A2f f c) (.guard (A0h (I y (B0w i W f)) A0b) ((Y.imp (B9b J M)).imp (A0g (A2f f c))) (a2.imp (A0g (A2f f c))))
theorem D7q (T:Txt K mg t) (Ge4:A3h P w K mg base CX0 m t.jb t.jf B3g (D0r t n)):A3h P w K mg base CX0 (m+1) t.qa t.qw B3g (B4n t n):=by
 refine T.ky.F.ok B0h (by walk_at "ln") λ_ A _ s H _ Q E U h=> ?_
 ·obtain ⟨v,d,c,u,S,rfl,W,hd,k⟩:=h;obtain ⟨R,fr,I,kv,lk,rp,wu,su,X⟩:=id W;refine i02 _ (@RS.r _ _ _ (rq1 (rq7 (A2c (pv 1)) (A3v (n:=2) rfl (A0r (A0k (i:=2) B0h.nd rfl (.inl rfl)) (A0r (A0k (i:=3) B0h.nd rfl (.inl rfl)) A2p))) (rq3 (rq4 (A0p (E0p U.units) (pv 2) (pv 0) (A1b _)) (rq3 (rq5 (pv 3))) ⟨A0x⟩))) (rq1 (rq6 3 B0h.nd (pcl Ge4 U T.qi (A0a (pv 0) (A0a (pv 1) A0c)))) (rq1 ⟨A2r (A7c Z0k Z0n Z0o A2e (pv 1) (A0a (A1z (A0a (pv 0) (A0a (pv 3) A0c))) A0c))⟩ (rq3 (rq5 (pv 3))))))) ?_;refine i0k _ rfl d rfl ⟨_,SqL.of I⟩ ?_;refine A2l (K:=K) (a:=d) (xs:=c) (λi Z G=>H=G/\∃(L N:Option V),Z=[some v,Sro d,L,N]) ⟨rfl,(i03 none none rfl)⟩ (λi Z G _ e=>SqL.of (by rw [<-e.1];exact I)) ?_ ?_
  ·rintro i x Z G f ⟨rfl,L,N,rfl⟩;refine B3x ?_;intro D';obtain ⟨q,tv,ov,J,rfl,e,rk,wk,sk,dk,ok⟩:=kv x (Z13 f);refine i1a q _ rfl (SqT.of (A0m _ _ e)) rfl _ _ rfl _ _ rfl rfl ?_;refine i0w _ rfl _ rfl (A1s J) (A1s u) (rk.same A0m) (rp.same A0m) (i0a (B9k wk sk dk) (B9k wu su X) _ rfl ?_);show if (PyData.eqv (A1s J) (A1s u))=true then _ else _
   cases hb:PyData.eqv (A1s J) (A1s u) with
   | true =>
    cases D9b hb
    exact A5r (i02 _ rfl (k ov c H KB.refl I kv (by lia) ok))
   | false=>exact A2m ⟨rfl,(i03 _ _ rfl)⟩
  ·rintro Z G ⟨rfl,L,N,rfl⟩;refine i02 _ rfl (i0l _ rfl v d c (i0m u S rfl W hd λj p M b g l l1 B=> ?_));refine i06 _ rfl (.inl (i01 rfl _ (SqL.of g))) (i0k _ rfl _ rfl (A0v rfl) λtp y=> ?_);have D:=A0e (o:= .tup [v,j]) y;have Y:upd M tp (.tup [v,j]) tp=some (.tup [v,j]):=A0b;have St:S tp:=fr tp (B0w b g y);generalize upd M tp (.tup [v,j])=H3 at D Y;have O:=D _ _ g;refine i0u d _ _ rfl rfl O (A1l (by lia)) ?_;have C:A0u (A0s S M) (A0s S (upd H3 d (.lst (p++[.ref tp])))):=A2i (A0g D) R;refine i02 _ rfl (k j (p++[.ref tp]) _ ((b.trans (KB.of D)).upd) A0b (λx f=> ?_) (by rw [Z06];simp only [Z0y,Z2g];lia) (B.imp C));rcases Z07.mp f with f | f
   ·exact (l x f).same C
   ·rw [Z0w.mp f];have n1:tp≠d:=λz=>R (z▸St);exact i10 tp v j u rfl (A0h St (by rw [A0i n1];exact Y)) ((rp.same (B9b b R)).same C) wu su ⟨X,B.imp C⟩
theorem E1u (T:Txt K mg t):∀n:Nat,A3h P w K mg base CX0 (2*n+8) t.qa t.qw B3g (B4n t n)
 | 0=>A3h.none (by rintro b H Q E ⟨v,c,a,u,S,_,_,h,_⟩;have:=A6n u;lia)
 | n+1=>D7q T (m:=2*n+9) (D7j T (by lia) (E1u T n))
theorem E0x {α β:Type} {R:α->β->Prop} {xs:List α} {ys:List β} (h:Paired R xs ys):∀y∈ys,∃x,R x y:=by
 induction h with
 | nil=>intro y b;cases b
 | cons a _ ih =>
  intro y b;rcases Z0e.mp b with rfl | b
  ·exact ⟨_,a⟩
  ·exact ih y b
theorem C7y {H:Hp}:∀{vs:List V} {tb:List (Str×List Str)},Paired (λ(v:V) (e:Str×List Str)=>∃q l,v= .ref q/\H q=some (.tup [.str e.1,.ref l])/\H l=some (.lst (e.2.map V.str))) vs tb->A4y H vs (tb.map C6b)
 | _,_,.nil=> .nil
 | _,_,.cons ⟨q,l,rfl,e1,e2⟩ r=> .cons (.tup e1 (.cons (.str _) (.cons (.lst e2 (A4y.strs _)) .nil))) (C7y r)
def D6f (A:Adr):Sp:=λg H Q _=>∃(p:Addr) (c:List (Str×Int)) (e:List (Str×List Str)) (d:List Lt),g=[.ref p]/\B2b H p c e d/\∀(r:Addr) (f:Int) (b:List Str) (a:Hp),A0u H a->D3f A a r f c e d b->b.length<=100->Q (.ref r) a
theorem B0y (T:Txt K mg t):FO P w base T.e_ 89 (D6f t):=by
 have Ge1:= @E1u P w K mg base t T 40;have Ge5:= @C2g P w K mg base t T;have Ge6:= @B3u P w K mg base t T;refine T.e_.F.ok A1p (by walk_at "ln") λ_ A _ s H _ Q E hr h=> ?_
 ·obtain ⟨p,C,tb,ls,rfl,a0,k⟩:=h;refine e0e a0.ob ?_;rintro wh d tl ll ol e6 d5 o0 ⟨hp,hd,d0,b5,d2,c5,f3⟩;have c6:=a0.hx;have g4:=a0.t;have g1:=a0.l;have f7:=a0.ok;have hu:=A8b hr;refine i02 _ (@RS.r _ _ _ (rq1 ⟨A9g (pv 0) (A3v (n:=5) rfl (A0r (A0k (i:=1) A1p.nd rfl (.inl rfl)) (A0r (A0k (i:=2) A1p.nd rfl (.inr rfl)) (A0r (A0k (i:=3) A1p.nd rfl (.inl rfl)) (A0r (A0k (i:=4) A1p.nd rfl (.inl rfl)) (A0r (A0k (i:=5) A1p.nd rfl (.inl rfl)) A2p))))))⟩ (rq1 ⟨B6j (i₀:=6) (N':=["_law_name","_law_lengths"]) (ix:=(List.replicate 1 none++[some 2])) A1p.nd rfl (.inl rfl) rfl (A7o (x:="_law_lengths") rfl rfl rfl (by decide +kernel) (by decide +kernel)) (A5u (N0:=["_law_name"]) rfl (.inl rfl) (by walk_at "ix")) (C9q (pv 2)) (λ_ _ _ _=>(A0k (i:=0) C5s rfl (.inl rfl))) (λ_ _ _ _=>(A1z (A0a (pv 0) (A0a (A2u hu (pv 1) (pv 0) (λ_ _=>rfl)) A0c))))⟩ ⟨@C2k _ _ _ (@A1t _ _ _ _ _ (B6j (i₀:=7) (N':=["_law_name","_law_own"]) (ix:=(List.replicate 2 none)) (g:=D8n K 2 (B2f (A7u 0) (B2f (A7u 1) D8h))) A1p.nd rfl (.inl rfl) rfl (A2y rfl (by decide +kernel) (by decide +kernel)) (A3b rfl) (A2c (pv 3)) (λ_ _ _ _=>(A3v (n:=2) rfl (A0r (A0k (i:=0) B5r rfl (.inl rfl)) (A0r (A0k (i:=1) B5r rfl (.inl rfl)) A2p)))) (λ_ _ _ _=>(A1z (A0a (pv 0) (A0a (A2k (B0i (K:=K) rfl) (by rfl) T.ib Z1o (A0a (pv 1) A0c)) A0c))))) (@A1t _ _ _ _ _ (@A3e _ _ 8 _ _ _ _ A1p.nd rfl (.inr rfl) (@A1r _ _ _ _ A0c) rfl (.inl rfl)) (@A1t _ _ _ _ _ (B6j (i₀:=9) (N':=["_law_name","_law_own","_law_tree","_law_kept"]) (ix:=(List.replicate 3 none++[some 8])) (g:=D8n K 3 (B2f (A7u 0) (B2f (A7u 1) (B2f (A7u 2) D8h)))) A1p.nd rfl (.inl rfl) rfl (A7o (x:="_law_kept") rfl rfl rfl (by decide +kernel) (by decide +kernel)) (A5u (N0:=["_law_name","_law_own","_law_tree"]) rfl (.inl rfl) (by walk_at "ix")) (A2c (pv 4)) (λ_ _ _ _=>(A3v (n:=3) rfl (A0r (A0k (i:=0) B0x rfl (.inl rfl)) (A0r (A0k (i:=1) B0x rfl (.inl rfl)) (A0r (A0k (i:=2) B0x rfl (.inl rfl)) A2p))))) (λ_ _ _ _=>(pmk T.AC Ge5 hr T.AG T.ph.b (A0a (pv 0) (A0a (A2k (B0i (K:=K) rfl) (by rfl) T.ib Z1o (A0a (pv 1) A0c)) (A0a (pcl Ge1 hr T.ky (A0a (pv 2) (A0a (pv 3) A0c))) A0c)))))) (@A2z _ _ _ (@B3y _ _ _ _ (pmk T.yB Ge6 hr T.yW T.gu.b (A0a (pv 1) (A0a (pv 6) (A0a (pv 7) (A0a (pv 9) (A0a (A2k A5b (by rfl) T.ib Z1o (A0a (pv 5) A0c)) A0c)))))))))))⟩))) ?_;refine i0o _ rfl p _ rfl (SqT.of hp) (i0b rfl _ _ rfl (i03 _ _ (i0b rfl _ _ rfl ⟨_,(i0o _ rfl _ _ rfl rfl ?_)⟩)))
  have d6:((A2g C).map (·.1)).Nodup:=by
   have ks:(A2g C).map (·.1)=(C.map (·.1)).map (Sum.inr:Str->Key):=by unfold A2g;rw [List.map_map,List.map_map];rfl
   rw [ks];exact c6.2.2.1.map (f:=(Sum.inr:Str->Key)) λa b f4 z=>f4 (Sum.inr.inj z)
  have d8:(A2g C).length=C.length:=by unfold A2g;rw [Z08]
  have l8:=c6.2.2.2;refine i0o _ rfl d (A2g C) rfl hd λo=>λD hD=> ?_;have Dd:D≠d:=λe=>by rw [e,A0b] at hD;cases hD
  refine B4c (D:=D) (A2g C).length (λj J G=>A0u (upd H d (.frz o (.dK (A2g C)))) G/\G D=some (.lst J)/\Paired (λ(v:V) (e:Str×Int)=>∃q,v= .ref q/\q≠D/\G q=some (.tup [.str e.1,.int e.2])) J (C.take j)) (i00 (A0e hD) A0b .nil) (by rintro j J G hj ⟨m,_⟩;exact ⟨m _ _ A0b,hj⟩) (by rintro J G ⟨m,_⟩;exact ⟨m _ _ A0b,rfl⟩) ?_ ?_
  ·rintro j J G0 hj ⟨m,X,B⟩ x G ⟨rfl,kk,vv,O,rfl⟩;refine C6a ?_;intro N';have b8:C[j]? =some C[j]:=Z0b (by lia);have c8:=O;unfold A2g at O;rw [Z1z,b8] at O;generalize C[j]=e at b8 O;cases O;have dg:A9e G d (kV (Sum.inr e.1)) (A5k (A2g C) (Sum.inr e.1)):= .inl (i0f _ _ (.inr ⟨o,m _ _ A0b⟩) rfl rfl);rw [C3l d6 c8] at dg;have ly:=Paired.length B;rw [Z0x] at ly;refine ⟨⟨rfl,True.intro⟩,(i12 _ rfl _ rfl _ rfl d _ rfl dg ⟨A0v rfl,λtp U=> ?_⟩)⟩;have sT:=A0e (o:= .tup [.str e.1,.int e.2]) U;have tD:tp≠D:=λz=>by rw [z,X] at U;cases U
   refine i09 (sT _ _ X) (A1l (by lia)) (A0o (m.trans sT) hD) A0b ?_;rw [Z14,b8];refine B2i (Paired.mapP B (by rintro v e ⟨q,L,R,e3⟩;exact i06 q L R (by rw [A0i R];exact sT _ _ e3))) (.cons (i06 tp rfl tD (by rw [A0i tD];exact A0b)) .nil)
  rintro J G ⟨m,X,B⟩;rw [d8,Z18] at B;have b1:=m _ _ (A0b (H:=H) (a:=d) (o:= .frz o (.dK (A2g C))));refine i0n d o (A2g C) b1 (λo' u' e=>by have e:H d=some (.frz o' u'):=e;rw [hd] at e;cases e) ?_
  have s1:A0u H (upd G d (.dK (A2g C))):=λb u e=>by
   by_cases hb:b=d
   ·rw [hb] at e⊢;rw [hd] at e;rw [A0b];exact e
   ·rw [A0i hb];exact m _ _ (by rw [A0i hb];exact e)
  have r1:Rep (upd G d (.dK (A2g C))) (.ref D) (A5c C):= .lst (by rw [A0i Dd];exact X) (B5x (Paired.mapP B (by rintro v e ⟨q,L,R,e3⟩;exact i02 q L (by rw [A0i (A3m e3 b1 (by intro h;cases h))];exact e3))));generalize upd G d (.dK (A2g C))=H1 at s1 r1;clear B b1 m X hD Dd;refine i0k _ rfl tl rfl ⟨_,SqL.of (s1 _ _ d0)⟩ λD2 c7=> ?_;have e7:=Paired.length b5;refine A4h (K:=K) (a:=tl) (D:=D2) (xs:=e6) (λj J G=>A0u H1 G/\G D2=some (.lst J)/\Paired (λ(v:V) (e:Str×List Str)=>∃q l,v= .ref q/\q≠D2/\l≠D2/\G q=some (.tup [.str e.1,.ref l])/\G l=some (.lst (e.2.map V.str))) J (tb.take j)) (i00 (A0e c7) A0b .nil) (by rintro j J G ⟨m,_⟩;exact SqL.of (m _ _ (s1 _ _ d0))) ?_ ?_
  ·rintro j x J G hx ⟨m,X,B⟩;refine C6a ?_;intro N';obtain ⟨e,he,q,al,rfl,L,R,_⟩:=B3z b5 hx;have L:=m _ _ (s1 _ _ L);have R:=m _ _ (s1 _ _ R);have ly:=Paired.length B;rw [Z0x] at ly;refine i1a q _ rfl (SqT.of L) rfl _ _ rfl _ _ rfl rfl ⟨True.intro,(i0w _ rfl _ rfl al _ rfl (.inl (SqL.of R)) λl2 S=>⟨A0v rfl,λtp U=> ?_⟩)⟩;have sA:=A0e (o:= .lst (e.2.map V.str)) S;have sB:=A0e (o:= .tup [.str e.1,.ref l2]) U;have a3:=sA.trans sB;have lD:l2≠D2:=λz=>by rw [z,X] at S;cases S
   have tD:tp≠D2:=λz=>by rw [z,sA _ _ X] at U;cases U
   refine i09 (a3 _ _ X) (A1l (by lia)) (A0o (m.trans a3) c7) A0b ?_;rw [Z14,he];exact B2i (Paired.mapP B (by rintro v e ⟨q,l,L,n1,n2,R,e3⟩;exact i0p q l L n1 n2 (by rw [A0i n1];exact a3 _ _ R) (by rw [A0i n2];exact a3 _ _ e3))) (.cons (i0p tp l2 rfl tD lD (by rw [A0i tD];exact A0b) (by rw [A0i lD];exact sB _ _ A0b)) .nil)
  rintro g2 H2 ⟨c4,d9,B⟩;rw [e7,Z18] at B;have s2:=s1.trans c4;have r2:Rep H2 (.ref D2) (B4y tb):= .lst d9 (C7y (Paired.mapP B (by rintro v e ⟨q,l,L,n1,n2,R,e3⟩;exact i0f q l L R e3)));have r1:=r1.same c4;clear B;refine ⟨A0v rfl,λN a4=> ?_⟩;have sk:=A0e (o:= .lst []) a4;have b6:upd H2 N (.lst []) N=some (.lst []):=A0b;generalize upd H2 N (.lst [])=H3 at sk b6;have s3:=s2.trans sk;refine i0k _ rfl ll rfl ⟨_,SqL.of (s3 _ _ d2)⟩ λM a6=> ?_;have e9:=Paired.length c5;have kD:N≠M:=λz=>by rw [<-z,b6] at a6;cases a6
  have b7:H2 M=none:=sk.free a6;refine A4h (K:=K) (a:=ll) (D:=M) (xs:=d5) (λj J G=>A0u H2 G/\G M=some (.lst J)/\∃W,G N=some (.lst W)/\W.length<=122*j/\(∀x∈W,D8f t (A0s (S2P N M) G) x)/\Paired (C0j t (λ_=>True) (A0s (S2P N M) G)) J (ls.take j)) (i00 (sk.trans (A0e a6)) A0b (i0c [] (by rw [A0i kD];exact b6) (by simp) (λx hx=>by cases hx) .nil)) (by rintro j J G ⟨m,_⟩;exact SqL.of (m _ _ (s2 _ _ d2))) ?_ ?_
  ·rintro j x J G hx ⟨m,X,W,b2,d7,O,B⟩;refine C6a ?_;intro N';obtain ⟨e,he,q,al,tv,rfl,L,R,rt⟩:=B3z c5 hx;have Y:=f7 e (Z13 he);have hj:=(Z03.mp he).1;have ly:=Paired.length B;rw [Z0x] at ly;have f8:∀{F:Hp},A0u H2 F->A0u H (A0s (S2P N M) F):=λ{F} s b u z=>A0h ⟨(λy=>by rw [y] at z;rw [s2 _ _ z] at a4;cases a4),λy=>by rw [y] at z;rw [s2 _ _ z] at b7;cases b7⟩ (s _ _ (s2 _ _ z));have L:=m _ _ (s2 _ _ L);have R:=m _ _ (s2 _ _ R);have l3:=Y.l3;refine i0f q _ rfl (SqT.of L) (i0b rfl _ _ rfl ⟨_,(i0s _ rfl _ _ rfl rfl ⟨rfl,True.intro⟩ (i0w _ rfl _ rfl al _ rfl (.inl (SqL.of R)) λl2 S=> ?_))⟩);have sA:=A0e (o:= .lst (e.2.1.map V.str)) S;have a8:upd G l2 (.lst (e.2.1.map V.str)) l2=some (.lst (e.2.1.map V.str)):=A0b;generalize upd G l2 (.lst (e.2.1.map V.str))=G1 at sA a8;have c3:=m.trans sA;have a7:=sA _ _ b2;have d3:=sA _ _ X;have f5:Fr (S2P N M) G1:=λb hb=>⟨(λz=>by rw [z,a7] at hb;cases hb),λz=>by rw [z,d3] at hb;cases hb⟩;have n3:=Y.k;refine i02 _ rfl (i0l _ rfl tv N W (i0m e.2.2 (S2P N M) rfl ⟨λz=>z.1 rfl,f5,a7,λx hx=>(O x hx).same (A0g sA),by lia,rt.same (f8 c3),Y.w,Y.s,by have:=Y.d;lia⟩ (by have:=Y.d;lia) λv1 f6 G2 kb b9 f1 l1 ob=> ?_));have a1:=kb _ _ kD.symm d3;have f2:=kb _ _ (λz=>by rw [z,b2] at S;cases S) a8;intro y I hy a9 e4;have sM:A0u G2 (upd (upd G2 I (.own y)) y (.ins t.ci I [])):=A0o (A0e a9) hy;have Z:upd (upd G2 I (.own y)) y (.ins t.ci I []) y=some (.ins t.ci I []):=A0b;generalize upd (upd G2 I (.own y)) y (.ins t.ci I [])=G3 at sM Z;refine i03 y I (i0y l2 v1 e.1 e.2.1 rfl Z (sM _ _ f2) (by lia) λc G4 hc b4 g0 e8=>⟨rfl,?_⟩);have a2:A0u G2 G4:=λb u z=>e8 b u (A0z z hy) (sM _ _ z);have e0:=a2 _ _ a1;have e5:=a2 _ _ b9;have c2:G2 c=none:=sM.free hc;have cS:S2P N M c:=⟨(λz=>by rw [z,b9] at c2;cases c2),λz=>by rw [z,a1] at c2;cases c2⟩;have yS:S2P N M y:=⟨(λz=>by rw [z,b9] at hy;cases hy),λz=>by rw [z,a1] at hy;cases hy⟩;have b3:A0u (A0s (S2P N M) G2) (A0s (S2P N M) (upd G4 M (.lst (J++[.ref y])))):=A2i (A0g a2) λz=>z.2 rfl;have f9:A0u (A0s (S2P N M) G) (A0s (S2P N M) (upd G4 M (.lst (J++[.ref y])))):=((A0g sA).trans (B9b kb λz=>z.1 rfl)).trans b3;have sE:A0u H2 G4:=λb u z=>a2 _ _ (kb b u (λy=>by rw [y,a4] at z;cases z) (c3 _ _ z));refine i09 e0 (A1l (by lia)) (A0o sE b7) A0b (i0c f6 (by rw [A0i kD];exact e5) (by lia) (λx hx=>(f1 x hx).same b3) ?_);rw [Z14,he];exact B2i (Paired.mapP B λv e z=>z.same f9) (.cons ⟨y,(i0y I c v1 () rfl (A0h yS (by rw [A0i yS.2];exact b4)) True.intro (A0h cS (by rw [A0i cS.2];exact g0)) (ob.imp b3))⟩ .nil)
  rintro b0 G ⟨m,X,W,b2,d7,O,B⟩;rw [e9,Z18] at B;have g3:=Paired.length B;refine i0e _ rfl _ rfl (i12 _ rfl _ rfl _ rfl ol _ rfl (.inl (SqL.of (m _ _ (s2 _ _ f3)))) λa5 c0=> ?_);have sO:=A0e (o:= .lst [.str o0]) c0;have hO:upd G a5 (.lst [.str o0]) a5=some (.lst ([o0].map V.str)):=A0b;generalize upd G a5 (.lst [.str o0])=G1 at sO hO;intro y I hy a9 e4;have sM:A0u G1 (upd (upd G1 I (.own y)) y (.ins t.ai I [])):=A0o (A0e a9) hy;have Z:upd (upd G1 I (.own y)) y (.ins t.ai I []) y=some (.ins t.ai I []):=A0b;generalize upd (upd G1 I (.own y)) y (.ins t.ai I [])=G2 at sM Z;have c1:=sO.trans sM;have d4:=m.trans c1;have d1:Paired (C0j t (λ_=>True) G1) b0 ls:=Paired.mapP B λv e z=>(z.same A0m).same sO;refine i03 y I (i08 D D2 M (i1d a5 wh C tb b0 [o0] rfl Z (r1.same d4) (by lia) (r2.same d4) (by lia) ?_ (i0h (c1 _ _ X) (by lia) ?_ (sM _ _ hO) (by show 1<=1000;decide) λa' t' l' o' G3 b4 ra rt hl ho kb=>⟨rfl,?_⟩)))
  ·intro e he;obtain ⟨x,q,al,_,_,_,_,l3,_⟩:=E0x b5 e he
   lia
  ·intro x hx;obtain ⟨i,hi,ei⟩:=List.mem_iff_getElem.mp hx;obtain ⟨e,_,a,f0,c,n,dn,ex,L,_⟩:=B3z d1 (Z0b hi);rw [ei] at ex;exact i0n a f0 _ ex (A0z L hy) (sM _ _ L)
  ·have c9:A0u G1 G3:=λb u z=>kb b u (A0z z hy) (sM _ _ z);exact k y wh [o0] G3 (s2.trans (m.trans (sO.trans c9))) ⟨I,a',t',l',o',b4,ra,rt,(i02 b0 hl (Paired.mapP d1 λv e z=>z.same c9)),.lst ho (A4y.strs _)⟩ (by show 1<=100;decide)
theorem KT.at {u:HO} (e:H l=some u) (n:∀xs,u≠.tup xs):KT H (upd H l o):=λp xs z=>by rw [A0i (A3m z e (n xs).symm)];exact z
def A4l (H:Hp) (ps:List Addr) (cs:List (List Int)):Prop:=Paired (λ(p:Addr) (c:List Int)=>H p=some (.tup (c.map V.int))) ps cs
theorem A4l.imp {H H':Hp}:∀{ps:List Addr} {cs:List (List Int)},A4l H ps cs->(∀p xs,H p=some (.tup xs)->H' p=some (.tup xs))->A4l H' ps cs
 | _,_,.nil,_=> .nil
 | _,_,.cons r t,f=> .cons (f _ _ r) (A4l.imp t f)
theorem A4l.same {ps:List Addr} (h:A4l H ps cs) (s:A0u H H'):A4l H' ps cs:=h.imp λ_ _ e=>s _ _ e
theorem A4l.snoc {H:Hp} {p:Addr} {c:List Int} (e:H p=some (.tup (c.map V.int))):∀{ps:List Addr} {cs:List (List Int)},A4l H ps cs->A4l H (ps++[p]) (cs++[c])
 | _,_,.nil=> .cons e .nil
 | _,_,.cons r t=> .cons r (A4l.snoc e t)
theorem A4l.get {ps:List Addr} (h:A4l H ps cs) (a:ps[i]? =some p):∃c,cs[i]? =some c/\H p=some (.tup (c.map V.int)):=B3z h a
structure D0w (H:Hp) (a:Addr) (cs:List (List Int)):Prop where
 ex:∃ps:List Addr,H a=some (.lst (ps.map V.ref))/\A4l H ps cs
abbrev nxt (n:Int) (cs:List (List Int)):List (List Int):=cs.flatMap λc=>(List.range n.toNat).map λ(m:Nat)=>c++[(m:Int)]
def A1v (L:Str->Int) (ys:List Str):List (List Int):=ys.foldl (λa y=>nxt (L y) a) [[]]
theorem C5b (h:ys[i]? =some y):A1v L (ys.take (i+1))=nxt (L y) (A1v L (ys.take i)):=by
 unfold A1v;rw [Z14,h,List.foldl_append];rfl
theorem C2v {L:Str->Int}:∀(ys:List Str) (cs:List (List Int)) (c:List Int),c∈ys.foldl (λcs y=>nxt (L y) cs) cs↔∃p∈cs,∃s,c=p++s/\inC L ys s
 | [],cs,c=>by
  refine ⟨λh=>(i0e c h [] ((Z0u _).symm) True.intro),?_⟩;rintro ⟨p,d,s,e,h⟩
  cases s with
  | nil=>rw [e,Z0u];exact d
  | cons a b=>exact h.elim
 | y::ys,cs,c=>by
  show c∈ys.foldl (λcs y=>nxt (L y) cs) (nxt (L y) cs)↔_;rw [C2v ys];constructor
  ·rintro ⟨p,d,s,e,h⟩;obtain ⟨q,f,d⟩:=List.mem_flatMap.mp d;obtain ⟨m,g,rfl⟩:=Z2c.mp d;have:=List.mem_range.mp g;exact i0e q f ((m:Int)::s) (by rw [e,Z0z];rfl) ⟨⟨by lia,by lia⟩,h⟩
  ·rintro ⟨q,f,s,e,h⟩
   cases s with
   | nil=>exact h.elim
   | cons a s =>
    refine i0e (q++[a]) (List.mem_flatMap.mpr (i02 q f (Z2c.mpr (i02 a.toNat (List.mem_range.mpr ?_) ?_)))) s (by rw [e,Z0z];rfl) h.2
    ·have:=h.1;lia
    ·rw [Int.toNat_of_nonneg h.1.1]
theorem A4b:c∈A1v L ys↔inC L ys c:=by
 unfold A1v;rw [C2v];constructor
 ·rintro ⟨p,a,s,e,h⟩;rw [Z0w.mp a] at e;rw [e];exact h
 ·intro h;exact i0e [] (by simp) c rfl h
theorem C1o {n:Int} (a:0<=n):∀cs:List (List Int),((nxt n cs).length:Int)=cs.length*n
 | []=>(Int.zero_mul _).symm
 | c::cs=>by
  have:=C1o a cs;unfold nxt at this⊢;rw [List.flatMap_cons,Z06,Z08,List.length_range,Int.natCast_add,this,Z0y,Int.natCast_add,Int.add_mul,Int.toNat_of_nonneg a]
  lia
theorem C3s {L:Str->Int}:∀(ys:List Str) (cs:List (List Int)),(∀y∈ys,1<=L y)->((ys.foldl (λcs y=>nxt (L y) cs) cs).length:Int)=cs.length*A3n L ys
 | [],cs,_=>(Int.mul_one _).symm
 | y::ys,cs,h=>by
  show ((ys.foldl (λcs y=>nxt (L y) cs) (nxt (L y) cs)).length:Int)=cs.length*(L y*A3n L ys);rw [C3s ys _ λz a=>h z (.tail _ a),C1o (by have:=h y (.head _);lia),Int.mul_assoc]
theorem B4o (h:∀y∈ys,1<=L y):((A1v L ys).length:Int)=A3n L ys:=by
 unfold A1v;rw [C3s ys _ h];exact Int.one_mul _
theorem A5n {L:Str->Int}:∀{ys:List Str} {c:List Int},inC L ys c->c.length=ys.length
 | [],[],_=>rfl
 | _::_,_::_,h=>congrArg (· +1) (A5n h.2)
theorem B8y (h:∀y∈ys,1<=L y) (i:Nat):A3n L (ys.take i)<=A3n L ys:=by
 have e:A3n L ys=A3n L (ys.take i)*A3n L (ys.drop i):=by rw [<-A8m,Z2e]
 have a:=A7b (L:=L) (xs:=ys.take i) λx c=>h x (Z2p c);have b:=A7b (L:=L) (xs:=ys.drop i) λx c=>h x (List.mem_of_mem_drop c);have:=Z29 b (show 0<=A3n L (ys.take i) by lia)
 lia
def B6g:Sp:=λe H Q _=>∃(l d:Addr) (a:List Str) (b:List (Key×V)),e=[.ref l,.ref d]/\H l=some (.lst (a.map V.str))/\H d=some (.dK b)/\B0c b a/\A3n (lnL b) a<=216000/\a.length<=100/\∀(q:Addr) (c:Hp),H q=none->A0u H c->D0w c q (A1v (lnL b) a)->Q (.ref q) c
theorem A7v (T:Txt K mg t):FO P w base T.cz 1 B6g:=by
 refine T.cz.F.ok A3w (by walk_at "ln") λ_ A _ s H _ Q E hr h=> ?_
 ·obtain ⟨l,d,ys,b,rfl,hl,hd,dk,pm,a6,k⟩:=h;have hu:=A8b hr
  have C:∀y∈ys,1<=lnL b y:=λy O=>by
   obtain ⟨n,e,n1,_⟩:=dk y O;rw [A6v e];exact n1
  refine i02 _ (@RS.r _ _ _ (rq1 (rq6 2 A3w.nd (@A1r _ _ _ _ (A0a (A1z A0c) A0c))) (rq1 (rq7 (A2c (pv 0)) (A0k (i:=3) A3w.nd rfl (.inl rfl)) (rq1 (rq6 4 A3w.nd (@A1r _ _ _ _ A0c)) (rq1 (rq7 (A2c (pv 2)) (A0k (i:=5) A3w.nd rfl (.inr rfl)) (rq3 ⟨A2r (A7c Z0k PySem.F.slot_list_extend PySem.F.type_list_extend B3f (pv 4) (A0a (A4p (N':=["_law_number","_law_cell_here"]) (ix:=(List.replicate 1 none++[some 5])) rfl (A7o (x:="_law_cell_here") rfl rfl rfl (by decide +kernel) (by decide +kernel)) (A5u (N0:=["_law_number"]) rfl (.inl rfl) (by walk_at "ix")) (A4a rfl T.dm (A0a (A2u hu (pv 1) (pv 3) (λ_ _=>rfl)) A0c)) (λ_ _ _ _=>(A0k (i:=0) C5m rfl (.inl rfl))) (λ_ _ _ _=>(A0j B7c (pv 1) (A1z (A0a (pv 0) A0c))))) A0c))⟩)) (rq3 (rq6 2 A3w.nd (pv 4)))))) (rq3 (rq5 (pv 2)))))) ?_;refine ⟨A0v rfl,λe he=>⟨A0v rfl,λq J=> ?_⟩⟩;have a4:H q=none:=(A0e he).free J;have s1:A0u H (upd (upd H e (.tup [])) q (.lst [V.ref e])):=(A0e he).trans (A0e J)
  refine ⟨_,rfl,l,rfl,⟨_,SqL.of (s1 _ _ hl)⟩,A2l (K:=K) (a:=l) (xs:=ys.map V.str) (λi Z g=>∃(o3 o4 G:Option V) (q:Addr),Z=[Sro l,Sro d,Sro q,o3,o4,G]/\A0u H g/\H q=none/\D0w g q (A1v (lnL b) (ys.take i)))
   ⟨none,(i0r none none q rfl s1 a4 ⟨[e],A0b,.cons (by rw [A0i (A0z A0b J)];exact A0b) .nil⟩)⟩ (by rintro i Z g _ ⟨_,_,_,_,_,I,_⟩;exact SqL.of (I _ _ hl)) ?_ ?_⟩
  ·rintro i y Z g hi ⟨o3,o4,G,q,rfl,I,J,X⟩;obtain ⟨y,O,rfl⟩:=A6l hi;obtain ⟨n,ev,n1,a8⟩:=dk y (Z13 O);have en:lnL b y=n:=A6v ev;have cl:=B4o (L:=lnL b) (ys:=ys.take i) λx hx=>C x (Z2p hx);have pl:=B8y C i;obtain ⟨ps,U,tp⟩:=X.ex;have a3:=Paired.length tp;refine ⟨A0v rfl,λL hL=> ?_⟩;have sL:A0u g (upd g L (.lst [])):=A0e hL
   refine ⟨_,rfl,q,rfl,⟨_,SqL.of (sL _ _ U)⟩,A2l (K:=K) (a:=q) (xs:=ps.map V.ref) (λj Z p=>∃(G:Option V) (v:List Addr),Z=[Sro l,Sro d,Sro q,Sso y,Sro L,G]/\A0u g p/\p L=some (.lst (v.map V.ref))/\A4l p v (nxt n ((A1v (lnL b) (ys.take i)).take j)))
    (i0m _ [] rfl sL A0b .nil) (by rintro j Z p _ ⟨_,_,_,B,_⟩;exact SqL.of (B _ _ U)) ?_ ?_⟩
   ·rintro j z Z p hz ⟨G,v,rfl,B,W,R⟩;obtain ⟨pc,a1,rfl⟩:=A6l hz;obtain ⟨c,hc,a5⟩:=tp.get a1;have cw:=A5n (A4b.mp (Z13 hc));rw [Z0x] at cw;have gk:=A9e.k (H:=p) (a:=d) (k:=Sum.inr y) (B _ _ (I _ _ hd));rw [ev] at gk
    have a7:v.length<=216000:=by
     have e:=Paired.length R;have e2:=C1o (n:=n) (by lia) ((A1v (lnL b) (ys.take i)).take j);have e1:(((A1v (lnL b) (ys.take i)).take j).length:Int)<=(A1v (lnL b) (ys.take i)).length:=by rw [Z0x];lia
     have e3:=Int.mul_le_mul_of_nonneg_right e1 (show 0<=n by lia);have e4:=B8y C (i+1);rw [Z14,O,A8m] at e4;have e5:A3n (lnL b) [y]=n:=by show lnL b y*1=n;rw [en,Int.mul_one]
     rw [show (some y).toList=[y] from rfl,e5,<-cl] at e4
     lia
    refine i06 _ rfl (.inl (i01 rfl _ (SqL.of W))) (i0w _ rfl _ rfl d _ rfl gk (i0c n rfl (by lia) (by lia) λD hD=> ?_));refine B4c (D:=D) n.toNat (λm M o=>A0u p o/\o D=some (.lst M)/\∃f:List Addr,M=f.map V.ref/\f.length=m/\A4l o f ((List.range m).map λ(m:Nat)=>c++[(m:Int)])) (i0a (A0e hD) A0b [] rfl ⟨rfl,.nil⟩) (λm M o hm _=>hm) (λM o _=>Z09 _) ?_ ?_
    ·rintro m M o hm ⟨N,h4,f,rfl,lw,t4⟩ x H5 ⟨rfl,rfl⟩;refine C6a ?_;intro N';rw [Int.zero_add];refine ⟨⟨rfl,True.intro⟩,(i0k _ rfl _ rfl (A0v rfl) λu a2=> ?_)⟩;have Y:A0u H5 (upd H5 u (.tup [V.int (m:Int)])):=A0e a2;refine i10 pc u (c.map V.int) [V.int (m:Int)] rfl rfl (Y _ _ (N _ _ (B _ _ a5))) A0b (A2a (by simp;lia)) λq' H6 s6 a0=> ?_;have h6:=s6 _ _ (Y _ _ h4);refine i09 h6 (A1l (by rw [Z08];lia)) (A0o (N.trans (Y.trans s6)) hD) A0b (i06 (f++[q']) (by simp) (by simp [lw]) ?_);rw [List.range_succ,Z0s];have kD:KT H6 (upd H6 D (.lst (f.map V.ref++[.ref q']))):=KT.at h6 (by intro xs z;cases z);exact A4l.snoc (kD _ _ (by rw [a0,Z0s];rfl)) ((t4.same (Y.trans s6)).imp kD)
    ·rintro M o ⟨N,h4,f,rfl,lw,t4⟩;have S:=N _ _ W;refine i10 L D _ _ rfl rfl S h4 (A2a (by rw [Z08,Z08];lia)) ?_;have kL:KT o (upd o L (.lst (v.map V.ref++f.map V.ref))):=KT.at S (by intro xs z;cases z);refine i0m _ (v++f) rfl (A0o (B.trans N) hL) (by rw [A0b,Z0s]) ?_
     have e:nxt n ((A1v (lnL b) (ys.take i)).take (j+1))=nxt n ((A1v (lnL b) (ys.take i)).take j)++(List.range n.toNat).map λ(m:Nat)=>c++[(m:Int)]:=by
      rw [Z14,hc];simp [nxt]
     rw [e];exact B2i ((R.same N).imp kL) (t4.imp kL)
   ·rintro Z p ⟨G,v,rfl,B,W,R⟩;refine i0z _ rfl _ _ _ L rfl (I.trans B) (I.free hL) ⟨v,W,?_⟩;rw [Z08,a3,Z18] at R;rw [C5b O,en];exact R
  ·rintro Z g ⟨o3,o4,G,q,rfl,I,J,X⟩;rw [Z08,Z18] at X;exact i02 _ rfl (k q g J I X)
def C6q:Sp:=λe H Q _=>∃(v:V) (d:Addr) (a:List (Str×Int)) (c:List (Key×V)) (ρ:Env),e=[v,.ref d]/\Rep H v (A5c a)/\H d=some (.dK c)/\(∀x,(A5k c (Sum.inr x)).getD (.int 0)= .int (ρ x))/\a.length<=1000/\∀(q:Addr) (b:Hp),A0u H b->b q=some (.tup ((A5z ρ a).map V.int))->Q (.ref q) b
theorem C9k (T:Txt K mg t):FO P w base T.v7 1 C6q:=by
 refine T.v7.F.ok A8i (by walk_at "ln") λ_ A _ s H _ Q E O h=> ?_
 ·obtain ⟨v,d,L,ak,ρ,rfl,W,D,X,l1,k⟩:=h;have R:=A8b O;refine i02 _ (@RS.r _ _ _ (rq1 (rq6 2 A8i.nd (A1z A0c)) (rq1 (rq7 (A2c (pv 0)) (A3v (n:=2) rfl (A0r (A0k (i:=3) A8i.nd rfl (.inl rfl)) (A0r (A0k (i:=4) A8i.nd rfl (.inl rfl)) A2p))) (rq3 (rq6 2 A8i.nd (A0j B7c (pv 2) (A1z (A0a (A0j A2h (C3u R (pv 1) (pv 3) A0d ⟨rfl,rfl,rfl,rfl⟩) (pv 4)) A0c)))))) (rq3 (rq5 (pv 2)))))) ?_;refine ⟨A0v rfl,λe Y=> ?_⟩;obtain ⟨l,N,rfl,J,M⟩:=A5m (show Rep H v (.list (L.map B1n)) from W);have g:=M.len;rw [Z08] at g;have G:A0u H (upd H e (.tup [])):=A0e Y;refine i0k _ rfl l rfl ⟨_,SqL.of (G _ _ J)⟩ (A2l (K:=K) (a:=l) (xs:=N) (λi Z c=>∃(B p:Option V) (q:Addr),Z=[Sro l,Sro d,Sro q,B,p]/\A0u H c/\c q=some (.tup ((A5z ρ (L.take i)).map V.int))) (i0n none none e rfl G A0b) (by rintro i Z c _ ⟨_,_,_,_,f,_⟩;exact SqL.of (f _ _ J)) ?_ ?_)
  ·rintro i x Z c C ⟨B,p,q,rfl,f,j⟩;have hi:i<N.length:=(Z03.mp C).1;obtain ⟨m,y,U⟩:=C1r M C;obtain ⟨b,rfl,eb⟩:=D7x U;refine i1a b _ rfl (SqT.of (f _ _ eb)) rfl _ _ rfl _ _ rfl rfl (i02 _ rfl (i0k _ rfl d rfl (.inl ⟨_,.inl (f _ _ D)⟩) (i12 _ rfl _ (A9e.k (k:=Sum.inr m.1) (f _ _ D)) _ rfl _ _ (X m.1) rfl ⟨A0v rfl,λu z=> ?_⟩)));have I:A0u c (upd c u (.tup [V.int (ρ m.1+m.2)])):=A0e z;refine i10 q u _ _ rfl rfl (I _ _ j) A0b (A2a (by simp [A5z];lia)) λS H3 s4 o=>(i0n _ _ S rfl (f.trans (I.trans s4)) ?_);rw [o,Z14,y];simp [A5z]
  ·rintro Z c ⟨B,p,q,rfl,f,j⟩;rw [g,Z18] at j;exact i02 _ rfl (k q c f j)
theorem B1a:∀{xs:List Int},¬A6u xs xs
 | [],h=>h
 | a::as,h=>h.elim (λz=>by lia) λz=>B1a z.2
def LnN (nm:List Str) (e:Ln):Prop:=(e.2.1++e.2.2.1).Nodup/\∀x∈e.2.1++e.2.2.1,x∈nm
theorem B9d {nm:List Str} (i:nm.Nodup) (j:pend.Nodup) (sp:∀x∈pend,x∈nm) (h:∀e∈r.2.2,LnN nm e):∀e∈(fin nm pend g r).2.2,LnN nm e:=by
 cases pend with
 | nil=>exact h
 | cons x s =>
  intro e c;rcases Z07.mp c with c | c
  ·exact h e c
  ·rw [Z0w.mp c];refine ⟨Z0l.mpr (i00 (i.sublist List.filter_sublist) j λa k b l f=> ?_),λy d=> ?_⟩
   ·have:=(List.mem_filter.mp k).2;rw [Z1x] at this;exact of_decide_eq_true this.2 (f▸l)
   ·rcases Z07.mp d with d | d
    ·exact (List.mem_filter.mp d).1
    ·exact sp y d
theorem C5i {nm:List Str} (c:nm.Nodup):∀(u:Tm) (sc pend:List Str) (g:List Gd) (z:LS),A6o nm (sc++pend) u->pend.Nodup->(∀x∈pend,x∈nm)->(∀e∈z.2,LnN nm e)->∀e∈(wsP nm u pend g z).2.2,LnN nm e
 | .num _,_,_,_,_,_,np,sp,h=>B9d (r:=(.num _,_)) c np sp h
 | .place _,_,_,_,_,_,np,sp,h=>B9d (r:=(.place _,_)) c np sp h
 | .read _ _,_,_,_,_,_,np,sp,h=>B9d (r:=(.read _ _,_)) c np sp h
 | .sum x b,sc,pend,g,z,ti,np,sp,h=>by
  refine C5i c b sc (pend++[x]) g z (by rw [<-Z0z];exact ti.2.2) (Z0l.mpr (i00 np (by simp) λa i b j e=> ?_)) (λy f=> ?_) h
  ·rw [Z0w.mp j] at e;exact ti.2.1 (Z07.mpr (.inr (e▸i)))
  ·rcases Z07.mp f with f | f
   ·exact sp y f
   ·rw [Z0w.mp f];exact ti.1
 | .pair k l r,sc,pend,g,z,ti,np,sp,h=>B9d (r:=(.pair _ _ _,_)) c np sp (C5i c r (sc++pend) [] _ _ (by rw [Z0u];exact ti.2) .nil (λx d=>by cases d) (C5i c l (sc++pend) [] _ _ (by rw [Z0u];exact ti.1) .nil (λx d=>by cases d) h))
 | .guard x lo hi l r,sc,pend,g,z,ti,np,sp,h=>B9d (r:=(.guard _ _ _ _ _,_)) c np sp (C5i c r (sc++pend) [] _ _ (by rw [Z0u];exact ti.2.2) .nil (λx d=>by cases d) (C5i c l (sc++pend) [] _ _ (by rw [Z0u];exact ti.2.1) .nil (λx d=>by cases d) h))
theorem E0r {lk:List (Key×V)} {tb:List (Str×List Str)} {nm:List Str} {ls:List Lt} (h:nm.Nodup) (n:∀(j:Nat) (e:Lt),ls[j]? =some e->LtS lk nm (tb++C5y (ls.take j)) e):∀i,i<=ls.length->∀e∈(duP nm (ls.take i)).2,LnN nm e
 | 0,_=>λe q=>by cases q
 | i+1,hi=>by
  have g:ls[i]? =some ls[i]:=Z0b (by lia);have o:=E0r h n i (by lia);obtain ⟨l,u,k,c,b,m⟩:=(n i _ g).ex;rw [B0m g];generalize ls[i]=e at k c b m;generalize duP nm (ls.take i)=z at o;have p:A6o nm e.2.1 e.2.2:=by rw [k];exact B7b m.ti c λx a=>b x (Z07.mpr (.inr a))
  obtain ⟨t,s,r⟩:=C4a p (Z0l.mp c).1;intro f d;rcases Z07.mp d with d | d
  ·exact C5i h (inS e.2.2) (e.2.1++A3o e.2.2) [] [] z (by rw [Z0u];exact t) .nil (λx a=>by cases a) o f d
  ·rw [Z0w.mp d];refine ⟨r,λx a=> ?_⟩;rcases Z07.mp a with a | a
   ·exact b x (Z07.mpr (.inl a))
   ·exact s x a
def A5y:List Str->List Int->Env
 | x::xs,c::cs=>λy=>if y=x then c else A5y xs cs y
 | _,_=>λ_=>0
theorem C2c:∀{xs:List Str} {cs:List Int},xs.Nodup->cs.length=xs.length->xs.map (A5y xs cs)=cs
 | [],[],_,_=>rfl
 | x::xs,c::cs,n,l=>by
  have a:=Z15.mp n;rw [Z0p];congr 1
  ·show (if x=x then c else _)=c;rw [Z12 rfl]
  ·have h:∀y∈xs,A5y (x::xs) (c::cs) y=A5y xs cs y:=λy b=>by
    show (if y=x then c else A5y xs cs y)=_;rw [Z0t λe:y=x=>a.1 (e▸b)]
   rw [List.map_congr_left h];exact C2c a.2 (Nat.succ.inj l)
theorem B1q:∀{xs:List Str} {cs:List Int} {y:Str},y∉xs->A5y xs cs y=0
 | [],_,_,_=>rfl
 | _::_,[],_,_=>rfl
 | x::xs,c::cs,y,h=>by
  show (if y=x then c else A5y xs cs y)=0;rw [Z0t λe:y=x=>h (e▸.head _)];exact B1q λa=>h (.tail _ a)
theorem C9n {L:Str->Int}:∀{xs:List Str} {cs:List Int},inC L xs cs->∀x∈xs,0<=A5y xs cs x/\A5y xs cs x<L x
 | x::xs,c::cs,h,y,a=>by
  show 0<=(if y=x then c else A5y xs cs y)/\(if y=x then c else A5y xs cs y)<L y;by_cases e:y=x
  ·rw [Z12 e,e];exact h.1
  ·rw [Z0t e];rcases Z0e.mp a with a | a
   ·exact absurd a e
   ·exact C9n h.2 y a
theorem C1j {L:Str->Int}:∀{xs:List Str} {cs:List Int} {ys:List Str} {ds:List Int},inC L xs cs->inC L ys ds->inC L (xs++ys) (cs++ds)
 | [],[],_,_,_,h=>h
 | _::_,_::_,_,_,h,k=>⟨h.1,C1j h.2 k⟩
theorem C0l {L:Str->Int} {M:Int} (e:1<=M):∀{xs:List Str},(∀x∈xs,1<=L x/\L x<=M)->A3n L xs<=M^xs.length
 | [],_=>by show (1:Int)<=M^0;rw [Int.pow_zero];decide
 | x::xs,h=>by
  have a:=h x (.head _);have b:=C0l e λy d=>h y (.tail _ d);have c:=A7b (L:=L) (xs:=xs) λy d=>(h y (.tail _ d)).1;show L x*A3n L xs<=M^(xs.length+1);rw [Int.pow_succ,Int.mul_comm];exact Int.mul_le_mul b a.2 (by lia) (by lia)
theorem E2v (h:AxL ax) {e:Str×Int} (d:e∈ax):lnL (A2g ax) e.1=e.2:=by
 obtain ⟨i,g,k⟩:=List.mem_iff_getElem.mp d;refine A6v (C3l (i:=i) ?_ ?_)
 ·have j:(A2g ax).map (·.1)=(ax.map (·.1)).map (Sum.inr:Str->Key):=by unfold A2g;rw [List.map_map,List.map_map];rfl
  rw [j];exact h.2.2.1.map (f:=(Sum.inr:Str->Key)) λa b c z=>c (Sum.inr.inj z)
 ·unfold A2g;rw [Z1z,Z0b g,k];rfl
theorem D7s (h:AxL ax) (b:Bd ax.length ax):A3n (lnL (A2g ax)) (ax.map (·.1))<=8000:=by
 have g:=λe m=>E2v h (e:=e) m;have k:=h.1;have q:=h.2.2.2;generalize lnL (A2g ax)=L at g
 cases ax with
 | nil=>show (1:Int)<=8000;decide
 | cons e r =>
  have d:=(k e (.head _))
  have j:∀x∈r.map (·.1),1<=L x/\L x<=mxL (r.length+1):=λx a=>by
   obtain ⟨f,c,rfl⟩:=Z2c.mp a;rw [g f (.tail _ c)];obtain ⟨i,p,s⟩:=List.mem_iff_getElem.mp c;exact ⟨(k f (.tail _ c)).1,b (i+1) f (by rw [List.getElem?_cons_succ,Z0b p,s]) (by lia)⟩
  have u:=A7b (L:=L) (xs:=r.map (·.1)) λx a=>(j x a).1;have l:=C0l (by unfold mxL;split <;> decide) j;rw [Z08] at l
  have t:mxL (r.length+1)^r.length<=128:=by
   have o:r.length<=7:=by simp at q;lia
   generalize r.length=n at o;unfold mxL;have:∀n:Nat,n<8->(if 4<n+1 then (2:Int) else 4)^n<=128:=by decide
   exact this n (by lia)
  show L e.1*A3n L (r.map (·.1))<=8000;rw [g e (.head _)];have:=Int.mul_le_mul d.2 (Int.le_trans l t) (by lia) (by decide)
  lia
def opI:Op3->Int->Int->Int
 | .plus,a,b=>a+b
 | .minus,a,b=>a-b
 | .times,a,b=>a*b
def B6n (f:Nat->Int):Nat->Int
 | 0=>0
 | n+1=>B6n f n+f n
def B2y {α:Type} (f:α->Int):List α->Int
 | []=>0
 | x::r=>f x+B2y f r
theorem B2k {α:Type} (f:α->Int):∀xs ys:List α,B2y f (xs++ys)=B2y f xs+B2y f ys
 | [],ys=>(Int.zero_add _).symm
 | x::xs,ys=>by show f x+B2y f (xs++ys)=f x+B2y f xs+B2y f ys;rw [B2k f xs ys,Int.add_assoc]
theorem C3n {α β:Type} (f:β->Int) (g:α->β):∀xs:List α,B2y f (xs.map g)=B2y (λx=>f (g x)) xs
 | []=>rfl
 | x::xs=>by show f (g x)+B2y f (xs.map g)=_;rw [C3n f g xs];rfl
theorem A8x {α:Type} {f g:α->Int}:∀{xs:List α},(∀x∈xs,f x=g x)->B2y f xs=B2y g xs
 | [],_=>rfl
 | x::xs,h=>by show f x+_=g x+_;rw [h x (.head _),A8x λy a=>h y (.tail _ a)]
theorem B8o {α β:Type} (f:β->Int) (g:α->List β):∀xs:List α,B2y f (xs.flatMap g)=B2y (λx=>B2y f (g x)) xs
 | []=>rfl
 | x::xs=>by rw [List.flatMap_cons,B2k,B8o f g xs];rfl
theorem B5u (f:Nat->Int):∀n:Nat,B2y f (List.range n)=B6n f n
 | 0=>rfl
 | n+1=>by rw [List.range_succ,B2k,B5u f n];show _+(f n+0)=_;rw [Int.add_zero];rfl
theorem A9a {f g:Nat->Int}:∀{n:Nat},(∀i,i<n->f i=g i)->B6n f n=B6n g n
 | 0,_=>rfl
 | n+1,h=>by show B6n f n+f n=B6n g n+g n;rw [A9a λi a=>h i (by lia),h n (by lia)]
theorem B7n (f:Nat->Int) (W:Int):∀n:Nat,B6n (λi=>f i%W) n%W=B6n f n%W
 | 0=>rfl
 | n+1=>by
  show (B6n (λi=>f i%W) n+f n%W)%W=(B6n f n+f n)%W;rw [Int.add_emod,B7n f W n,Int.emod_emod_of_dvd _ (Int.dvd_refl W),<-Int.add_emod]
abbrev D0i:=Str->List Int->Int
def A3l (L:Str->Int) (W:Int) (N:D0i):Env->Tm->Int
 | _,.num z=>z%W
 | ρ,.place x=>ρ x%W
 | ρ,.read a ix=>N a (A5z ρ ix)
 | ρ,.guard x lo hi l r=>if lo<=ρ x/\ρ x<hi then A3l L W N ρ l else A3l L W N ρ r
 | ρ,.pair o l r=>opI o (A3l L W N ρ l) (A3l L W N ρ r)%W
 | ρ,.sum x b=>B6n (λi=>A3l L W N (B2m ρ x (i:Int)) b) (L x).toNat%W
theorem C9e {a:Env}:∀{ix:List (Str×Int)},(∀e∈ix,ρ e.1=a e.1)->A5z ρ ix=A5z a ix:=λ{ix} h=>List.map_congr_left λe b=>by show ρ e.1+e.2=a e.1+e.2;rw [h e b]
theorem A9i {L:Str->Int} {W:Int} {N:D0i} {nm:List Str}:∀{u:Tm} {sc:List Str} {ρ c:Env},A6o nm sc u->(∀x∈sc,ρ x=c x)->ρ ""=c ""->A3l L W N ρ u=A3l L W N c u
 | .num _,_,_,_,_,_,_=>rfl
 | .place x,_,ρ,c,t,h,_=>by show ρ x%W=c x%W;rw [h x t]
 | .read a ix,_,ρ,c,t,h,h0=>by
  show N a (A5z ρ ix)=N a (A5z c ix);rw [C9e λe f=> ?_];rcases t e f with z | z
  ·rw [z];exact h0
  ·exact h _ z
 | .guard x lo hi l r,_,ρ,c,t,h,h0=>by
  show (if lo<=ρ x/\ρ x<hi then A3l L W N ρ l else A3l L W N ρ r)=if lo<=c x/\c x<hi then A3l L W N c l else A3l L W N c r
  rw [h x t.1,A9i t.2.1 h h0,A9i t.2.2 h h0]
 | .pair o l r,_,ρ,c,t,h,h0=>by
  show opI o (A3l L W N ρ l) (A3l L W N ρ r)%W=opI o (A3l L W N c l) (A3l L W N c r)%W;rw [A9i t.1 h h0,A9i t.2 h h0]
 | .sum x b,sc,ρ,c,t,h,h0=>by
  show B6n (λi=>A3l L W N (B2m ρ x (i:Int)) b) (L x).toNat%W=B6n (λi=>A3l L W N (B2m c x (i:Int)) b) (L x).toNat%W;congr 1;refine A9a λi _=>A9i t.2.2 (λy d=> ?_) ?_
  ·unfold B2m;by_cases e:y=x
   ·rw [Z12 e,Z12 e]
   ·rw [Z0t e,Z0t e];rcases Z07.mp d with d | d
    ·exact h y d
    ·exact absurd (Z0w.mp d) e
  ·unfold B2m;by_cases e:("":Str)=x
   ·rw [Z12 e,Z12 e]
   ·rw [Z0t e,Z0t e,h0]
abbrev PrP:=Str->List Int->Prop
abbrev okC (pr:PrP):OkP:=λ_ a c=>pr a c
theorem A5x {L:Str->Int} {W:Int} {N N':D0i} {pr:PrP} (h:∀a c,pr a c->N a c=N' a c):∀{u:Tm} {ρ:Env},A1y L (okC pr) (okC pr) ρ u->A3l L W N ρ u=A3l L W N' ρ u
 | .num _,_,_=>rfl
 | .place _,_,_=>rfl
 | .read _ _,_,s=>h _ _ s
 | .guard x lo d l r,ρ,s=>by
  show (if lo<=ρ x/\ρ x<d then A3l L W N ρ l else A3l L W N ρ r)=if lo<=ρ x/\ρ x<d then A3l L W N' ρ l else A3l L W N' ρ r
  by_cases hc:lo<=ρ x/\ρ x<d
  ·rw [Z12 hc,Z12 hc];exact A5x h (s.1 hc)
  ·rw [Z0t hc,Z0t hc];exact A5x h (s.2 hc)
 | .pair o l r,ρ,s=>by
  show opI o (A3l L W N ρ l) (A3l L W N ρ r)%W=opI o (A3l L W N' ρ l) (A3l L W N' ρ r)%W;rw [A5x h s.1,A5x h s.2]
 | .sum x b,ρ,s=>by
  show B6n (λi=>A3l L W N (B2m ρ x (i:Int)) b) (L x).toNat%W=B6n (λi=>A3l L W N' (B2m ρ x (i:Int)) b) (L x).toNat%W;congr 1;exact A9a λi d=>A5x h (s (i:Int) (by lia) (by lia))
theorem A9x {L:Str->Int} {okn:OkP} {pr:PrP} (b:∀ρ a c,okn ρ a c->pr a c):∀{u:Tm} {d:OkP} {ρ:Env},(∀a c,d ρ a c->pr a c)->A1y L okn d ρ u->A1y L (okC pr) (okC pr) ρ u
 | .num _,_,_,_,_=>True.intro
 | .place _,_,_,_,_=>True.intro
 | .read _ _,_,_,h,s=>h _ _ s
 | .sum _ _,_,_,_,s=>λi e f=>A9x b (λa c z=>b _ a c z) (s i e f)
 | .pair _ l r,_,_,h,s=>⟨A9x b h s.1,A9x b h s.2⟩
 | .guard _ _ _ l r,_,_,h,s=>⟨λz=>A9x b h (s.1 z),λz=>A9x b h (s.2 z)⟩
theorem B3r {L:Str->Int} {pr:PrP}:∀{u:Tm} {ρ:Env},nsM u->(∀p∈A5h ρ u,pr p.1 p.2)->A1y L (okC pr) (okC pr) ρ u
 | .num _,_,_,_=>True.intro
 | .place _,_,_,_=>True.intro
 | .read a ix,ρ,_,h=>h (a,A5z ρ ix) (.head _)
 | .sum _ _,_,n,_=>n.elim
 | .pair _ l r,_,n,h=>⟨B3r n.1 λp b=>h p (Z07.mpr (.inl b)),B3r n.2 λp b=>h p (Z07.mpr (.inr b))⟩
 | .guard x lo hi l r,ρ,n,h=>by
  have h:∀p∈(if lo<=ρ x/\ρ x<hi then A5h ρ l else A5h ρ r),pr p.1 p.2:=h;refine ⟨λz=> ?_,λz=> ?_⟩
  ·rw [Z12 z] at h;exact B3r n.1 h
  ·rw [Z0t z] at h;exact B3r n.2 h
def C6e (ρ:Env):List Str->List Int->Env
 | x::xs,c::cs=>C6e (B2m ρ x c) xs cs
 | _,_=>ρ
theorem A4s {y:Str}:∀{xs:List Str} {cs:List Int} {ρ:Env},y∉xs->C6e ρ xs cs y=ρ y
 | [],_,_,_=>rfl
 | _::_,[],_,_=>rfl
 | x::xs,c::cs,ρ,h=>by
  show C6e (B2m ρ x c) xs cs y=ρ y;rw [A4s λz=>h (.tail _ z)];exact Z0t λe:y=x=>h (e▸.head _)
theorem B6o {y:Str}:∀{xs:List Str} {cs:List Int} {ρ:Env},xs.Nodup->cs.length=xs.length->y∈xs->C6e ρ xs cs y=A5y xs cs y
 | x::xs,c::cs,ρ,n,l,h=>by
  have a:=Z15.mp n;show C6e (B2m ρ x c) xs cs y=if y=x then c else A5y xs cs y
  by_cases e:y=x
  ·rw [Z12 e,e,A4s a.1];exact Z12 rfl
  ·rw [Z0t e];exact B6o a.2 (Nat.succ.inj l) ((Z0e.mp h).resolve_left e)
theorem C0i {y:Str}:∀{xs:List Str} {cs:List Int} {ys:List Str} {ds:List Int},cs.length=xs.length->A5y (xs++ys) (cs++ds) y=if y∈xs then A5y xs cs y else A5y ys ds y
 | [],[],ys,ds,_=>by rw [Z0t (by simp)];rfl
 | x::xs,c::cs,ys,ds,l=>by
  show (if y=x then c else A5y (xs++ys) (cs++ds) y)=if y∈x::xs then (if y=x then c else A5y xs cs y) else A5y ys ds y
  rw [C0i (Nat.succ.inj l)];by_cases e:y=x
  ·rw [Z12 e,Z12 (by rw [e];exact .head _),Z12 e]
  ·rw [Z0t e,Z0t e];by_cases h:y∈xs
   ·rw [Z12 h,Z12 (.tail _ h)]
   ·rw [Z0t h,Z0t λz=>h ((Z0e.mp z).resolve_left e)]
theorem B1k {L:Str->Int}:∀(ys:List Str) (cs:List (List Int)),ys.foldl (λcs y=>nxt (L y) cs) cs=cs.flatMap λp=>(A1v L ys).map λs=>p++s
 | [],cs=>by
  show cs=cs.flatMap λp=>[p++[]]
  induction cs with
  | nil=>rfl
  | cons c cs ih=>rw [List.flatMap_cons,<-ih,Z0u];rfl
 | y::ys,cs=>by
  show ys.foldl (λcs y=>nxt (L y) cs) (nxt (L y) cs)=cs.flatMap λp=>(ys.foldl (λcs y=>nxt (L y) cs) (nxt (L y) [[]])).map λs=>p++s;rw [B1k ys,B1k ys];unfold nxt;rw [List.flatMap_assoc];congr 1;funext p;simp [List.flatMap_map,List.map_flatMap,Function.comp_def]
theorem B5j (x:Str) (xs:List Str):A1v L (x::xs)=(List.range (L x).toNat).flatMap λ(i:Nat)=>(A1v L xs).map λs=>(i:Int)::s:=by
 show xs.foldl (λa y=>nxt (L y) a) (nxt (L x) [[]])=_;rw [B1k];unfold nxt;simp [List.flatMap_map,Function.comp_def]
theorem B6k {L:Str->Int} {W:Int} {N:D0i} {u:Tm}:∀(s:List Str) (ρ:Env),B2y (λt=>A3l L W N (C6e ρ s t) u) (A1v L s)%W=A3l L W N ρ (B4k s u)%W/\(s≠[]->A3l L W N ρ (B4k s u)%W=A3l L W N ρ (B4k s u))
 | [],ρ=>⟨by show (A3l L W N ρ u+0)%W=_;rw [Int.add_zero];rfl,λh=>absurd rfl h⟩
 | x::s,ρ=>by
  have a:A3l L W N ρ (B4k (x::s) u)%W=A3l L W N ρ (B4k (x::s) u):=by
   show B6n (λi=>A3l L W N (B2m ρ x (i:Int)) (B4k s u)) (L x).toNat%W%W=B6n _ _%W;exact Int.emod_emod_of_dvd _ (Int.dvd_refl W)
  refine ⟨?_,λ_=>a⟩;rw [a,B5j,B8o,B5u];show _=B6n (λi=>A3l L W N (B2m ρ x (i:Int)) (B4k s u)) (L x).toNat%W;rw [<-B7n,<-B7n (λi=>A3l L W N (B2m ρ x (i:Int)) (B4k s u))];congr 1;refine A9a λi _=> ?_;rw [C3n];exact (B6k s (B2m ρ x (i:Int))).1
theorem B9o {x:Str} {u:Tm}:∀s:List Str,B4k (s++[x]) u=B4k s (.sum x u)
 | []=>rfl
 | y::s=>by show Tm.sum y (B4k (s++[x]) u)=_;rw [B9o s];rfl
theorem C4b:∀u:Tm,B4k (A3o u) (inS u)=u
 | .num _=>rfl
 | .place _=>rfl
 | .read _ _=>rfl
 | .pair _ _ _=>rfl
 | .guard _ _ _ _ _=>rfl
 | .sum x b=>by show Tm.sum x (B4k (A3o b) (inS b))=_;rw [C4b b]
def C8b (L:Str->Int) (W:Int) (N:D0i) (e:Ln) (c:List Int):Int:=B2y (λt=>A3l L W N (A5y (e.2.1++e.2.2.1) (c++t)) e.2.2.2) (A1v L e.2.2.1)%W
def D8g (L:Str->Int) (W:Int) (N:D0i) (e:Ln):Prop:=∀c,inC L e.2.1 c->N e.1 c=C8b L W N e c
theorem A9p {kn:List Str} {e:Ln} (h:e∈r.2.2):e∈(fin kn pend g r).2.2:=by
 cases pend with
 | nil=>exact h
 | cons x s=>exact Z07.mpr (.inl h)
theorem B0e {kn:List Str} {e:Ln}:∀(u:Tm) (pend:List Str) (g:List Gd) (z:LS),e∈z.2->e∈(wsP kn u pend g z).2.2
 | .num _,_,_,_,h=>A9p (r:=(.num _,_)) h
 | .place _,_,_,_,h=>A9p (r:=(.place _,_)) h
 | .read _ _,_,_,_,h=>A9p (r:=(.read _ _,_)) h
 | .sum x b,pend,g,z,h=>B0e b (pend++[x]) g z h
 | .pair _ l r,_,_,_,h=>A9p (r:=(.pair _ _ _,_)) (B0e r _ _ _ (B0e l _ _ _ h))
 | .guard _ _ _ l r,_,_,_,h=>A9p (r:=(.guard _ _ _ _ _,_)) (B0e r _ _ _ (B0e l _ _ _ h))
theorem D4e {L:Str->Int} {W:Int} {N:D0i} {ρ:Env} {u:Tm}:∀{g:List Gd},C1u g ρ->A3l L W N ρ (gdM g u)=A3l L W N ρ u
 | [],_=>rfl
 | (x,lo,hi,b)::g,h=>by
  have c:=D4e (L:=L) (W:=W) (N:=N) (u:=u) λe d=>h e (.tail _ d);have a:=h _ (.head _)
  cases b with
  | true =>
   show (if lo<=ρ x/\ρ x<hi then A3l L W N ρ (gdM g u) else _)=_;rw [Z12 (a.mp rfl)];exact c
  | false =>
   show (if lo<=ρ x/\ρ x<hi then _ else A3l L W N ρ (gdM g u))=_;rw [Z0t λz=>Z0v (a.mpr z)];exact c
structure WsV (L:Str->Int) (W:Int) (N:D0i) (nm sc:List Str) (g:List Gd) (u:Tm) (r:Tm):Prop where
 ns:nsM r
 ti:A6o nm sc r
 v:∀ρ,InR L sc ρ->C1u g ρ->A3l L W N ρ r=A3l L W N ρ u
theorem E1v {ρ:Env}:∀ys:List Str,A5z ρ (ys.map λx=>(x,(0:Int)))=ys.map ρ
 | []=>rfl
 | y::ys=>by show (ρ y+0)::A5z ρ (ys.map λx=>(x,(0:Int)))=_;rw [E1v ys,Int.add_zero];rfl
theorem C7s {L:Str->Int} {ρ:Env}:∀{ys:List Str},(∀x∈ys,0<=ρ x/\ρ x<L x)->inC L ys (ys.map ρ)
 | [],_=>True.intro
 | y::ys,h=>⟨h y (.head _),C7s λx a=>h x (.tail _ a)⟩
theorem C3y {ρ:Env} {y:Str}:∀{ys:List Str},y∈ys->A5y ys (ys.map ρ) y=ρ y
 | x::ys,h=>by
  show (if y=x then ρ x else A5y ys (ys.map ρ) y)=ρ y;by_cases e:y=x
  ·rw [Z12 e,e]
  ·rw [Z0t e];exact C3y ((Z0e.mp h).resolve_left e)
theorem C2j {t:List Int} (a:InR L sc ρ) (f:¬("":Str)∈pend) (e:pend.Nodup) (b:inC L pend t):InR L (sc++pend) (C6e ρ pend t):=by
 have c:=A5n b;refine ⟨by rw [A4s f];exact a.1,λx d=> ?_⟩;by_cases hp:x∈pend
 ·rw [B6o e c hp];exact C9n b x hp
 ·rw [A4s hp];exact a.2 x ((Z07.mp d).resolve_right hp)
theorem B3n {N:D0i} {nm:List Str} (c:WsC L nm sc pend g) (nd:(sc++pend).Nodup) (q:∀e∈(fin nm pend g r).2.2,D8g L W N e) (h:WsV L W N nm (sc++pend) g u r.1):WsV L W N nm sc g (B4k pend u) (fin nm pend g r).1:=by
 by_cases hp:pend=[]
 ·subst hp;rw [Z0u] at h;exact h
 ·rw [D0j hp] at q⊢;have d:=D7r h.ns g;have f:A6o nm (sc++pend) (gdM g r.1):=D5f h.ti g λe i=>Z07.mpr (.inl (c.g e i));have A:=q (lfL nm pend r.2.1 (gdM g r.1)) (Z07.mpr (.inr (.head _)));obtain ⟨_,B,w⟩:=Z0l.mp nd;have C:∀ρ,InR L (sc++pend) ρ->C1u g ρ->A3l L W N ρ (gdM g r.1)=A3l L W N ρ u:=λρ j l=>by rw [D4e l];exact h.v ρ j l
  clear h q;generalize gdM g r.1=b at d f A C
  have k:∀x∈B4p nm pend b,x∈sc:=λx a=>by
   obtain ⟨_,H,J⟩:=A8y.mp a;rcases Z07.mp (A8g d f H) with z | z
   ·exact z
   ·exact absurd z J
  have y:A6o nm (B4p nm pend b++pend) b:=B1e (s:=[]) (g:=[]) d f (λx K a=>by
   by_cases hq:x∈pend
   ·exact Z07.mpr (.inr hq)
   ·exact Z07.mpr (.inl (A8y.mpr (i00 (c.s x (A8g d f a)) a hq)))) λx a=>c.n x (c.s x a)
  have p:¬("":Str)∈B4p nm pend b++pend:=λz=>by
   rcases Z07.mp z with z | z
   ·exact c.n _ (A8y.mp z).1 rfl
   ·exact c.n _ (c.s _ (Z07.mpr (.inr z))) rfl
  refine ⟨True.intro,λe i=> ?_,λρ j l=> ?_⟩
  ·obtain ⟨x,a,rfl⟩:=Z2c.mp i;exact .inr (k x a)
  ·show N (sN r.2.1) (A5z ρ ((B4p nm pend b).map λx=>(x,(0:Int))))=_;rw [E1v];have F:N (sN r.2.1) ((B4p nm pend b).map ρ)=C8b L W N (lfL nm pend r.2.1 b) ((B4p nm pend b).map ρ):=A _ (C7s λx a=>j.2 x (k x a));rw [F];show B2y (λt=>A3l L W N (A5y (B4p nm pend b++pend) ((B4p nm pend b).map ρ++t)) b) (A1v L pend)%W=_;obtain ⟨G,I⟩:=B6k (L:=L) (W:=W) (N:=N) (u:=u) pend ρ;rw [<-I hp,<-G];congr 1;refine A8x λt m=> ?_;have m:=A4b.mp m;have D:=A5n m;rw [<-C (C6e ρ pend t) (C2j j (λz=>p (Z07.mpr (.inr z))) B m) λe i=>by rw [A4s λz=>w _ (c.g e i) _ z rfl];exact l e i];refine A9i y (λx a=> ?_) ?_
   ·rw [C0i (by rw [Z08])];by_cases hq:x∈B4p nm pend b
    ·rw [Z12 hq,C3y hq,A4s (A8y.mp hq).2.2]
    ·have o:=(Z07.mp a).resolve_left hq;rw [Z0t hq,B6o B D o]
   ·rw [B1q p,A4s λz=>p (Z07.mpr (.inr z)),j.1]
theorem B5s {L:Str->Int} {W:Int} {N:D0i} {nm:List Str}:∀(u:Tm) (sc pend:List Str) (g:List Gd) (z:LS),WsC L nm sc pend g->(sc++pend).Nodup->A6o nm (sc++pend) u->(∀e∈(wsP nm u pend g z).2.2,D8g L W N e)->WsV L W N nm sc g (B4k pend u) (wsP nm u pend g z).1
 | .num n,sc,pend,g,z,c,nd,d,hl=>B3n c nd (r:=(.num n,z)) hl ⟨True.intro,True.intro,λ_ _ _=>rfl⟩
 | .place x,sc,pend,g,z,c,nd,d,hl=>B3n c nd (r:=(.place x,z)) hl ⟨True.intro,d,λ_ _ _=>rfl⟩
 | .read a ix,sc,pend,g,z,c,nd,d,hl=>B3n c nd (r:=(.read a ix,z)) hl ⟨True.intro,d,λ_ _ _=>rfl⟩
 | .sum x b,sc,pend,g,z,c,nd,d,hl=>by
  have e:sc++(pend++[x])=sc++pend++[x]:=(Z0z _ _ _).symm;have h:=B5s b sc (pend++[x]) g z ⟨c.n,c.l,λy i=> ?_,c.g⟩ (by rw [e];exact Z0l.mpr (i00 nd (by simp) λa t b q z=>d.2.1 (by rw [<-Z0w.mp q,<-z];exact t))) (by rw [e];exact d.2.2) hl
  ·rw [B9o] at h;exact h
  ·rw [e] at i;rcases Z07.mp i with i | i
   ·exact c.s y i
   ·rw [Z0w.mp i];exact d.1
 | .pair k l r,sc,pend,g,z,c,nd,d,hl=>by
  have o:WsC L nm (sc++pend) [] g:=⟨c.n,c.l,λy i=>c.s y (by rw [Z0u] at i;exact i),λe f=>Z07.mpr (.inl (c.g e f))⟩;have j:∀e∈(wsP nm r [] g (wsP nm l [] g z).2).2.2,D8g L W N e:=λe f=>hl e (A9p (r:=(.pair k _ _,_)) f);have b:=B5s r (sc++pend) [] g (wsP nm l [] g z).2 o (by rw [Z0u];exact nd) (by rw [Z0u];exact d.2) j;have a:=B5s l (sc++pend) [] g z o (by rw [Z0u];exact nd) (by rw [Z0u];exact d.1) λe f=>j e (B0e r [] g _ f);refine B3n c nd (r:=(.pair k _ _,_)) hl ⟨⟨a.ns,b.ns⟩,⟨a.ti,b.ti⟩,λρ m p=> ?_⟩;show opI k (A3l L W N ρ _) (A3l L W N ρ _)%W=opI k (A3l L W N ρ l) (A3l L W N ρ r)%W;rw [a.v ρ m p,b.v ρ m p];rfl
 | .guard x lo hi l r,sc,pend,g,z,c,nd,d,hl=>by
  have o:∀b:Bool,WsC L nm (sc++pend) [] (g++[(x,lo,hi,b)]):=λb=>by
   refine ⟨c.n,c.l,λy i=>c.s y (by rw [Z0u] at i;exact i),λe f=> ?_⟩;rcases Z07.mp f with f | f
   ·exact Z07.mpr (.inl (c.g e f))
   ·rw [Z0w.mp f];exact d.1
  have j:∀e∈(wsP nm r [] (g++[(x,lo,hi,false)]) (wsP nm l [] (g++[(x,lo,hi,true)]) z).2).2.2,D8g L W N e:=λe f=>hl e (A9p (r:=(.guard x lo hi _ _,_)) f);have b:=B5s r (sc++pend) [] (g++[(x,lo,hi,false)]) (wsP nm l [] (g++[(x,lo,hi,true)]) z).2 (o false) (by rw [Z0u];exact nd) (by rw [Z0u];exact d.2.2) j;have a:=B5s l (sc++pend) [] (g++[(x,lo,hi,true)]) z (o true) (by rw [Z0u];exact nd) (by rw [Z0u];exact d.2.1) λe f=>j e (B0e r [] _ _ f);refine B3n c nd (r:=(.guard x lo hi _ _,_)) hl ⟨⟨a.ns,b.ns⟩,(i00 d.1 a.ti b.ti),λρ m p=> ?_⟩;show (if lo<=ρ x/\ρ x<hi then A3l L W N ρ _ else A3l L W N ρ _)=if lo<=ρ x/\ρ x<hi then A3l L W N ρ l else A3l L W N ρ r
  by_cases hc:lo<=ρ x/\ρ x<hi
  ·rw [Z12 hc,Z12 hc];exact a.v ρ m (C1u.add.mpr ⟨p,λ_=>hc,λ_=>rfl⟩)
  ·rw [Z0t hc,Z0t hc];exact b.v ρ m (C1u.add.mpr ⟨p,(λz=>by cases z),λz=>absurd z hc⟩)
abbrev Dt:=List (Str×List (List Int×Int))
def luA {α β:Type} [DecidableEq α] (l:List (α×β)) (k:α):Option β:=(l.find? λe=>decide (e.1=k)).map (·.2)
theorem B4d {α β:Type} [DecidableEq α] (l m:List (α×β)) (k:α):luA (l++m) k=(luA l k).or (luA m k):=by
 unfold luA;rw [List.find?_append];cases l.find? λe=>decide (e.1=k) <;> rfl
theorem C0t {α β:Type} [DecidableEq α] (a k:α) (y:β):luA [(a,y)] k=if k=a then some y else none:=by
 unfold luA;rw [Z2h];by_cases h:a=k
 ·rw [Z20 h,Z12 h.symm];rfl
 ·rw [Z1j h,Z0t λz=>h z.symm];rfl
theorem B2j {α β:Type} [DecidableEq α] {l:List (α×β)} {k:α} (h:k∉l.map (·.1)):luA l k=none:=by
 unfold luA;rw [List.find?_eq_none.mpr λe a z=>h (Z2c.mpr (i02 e a (of_decide_eq_true z)))];rfl
theorem D0l {α β:Type} [DecidableEq α] {l:List (α×β)} {k:α} (h:k∈l.map (·.1)):∃v,luA l k=some v:=by
 obtain ⟨e,a,rfl⟩:=Z2c.mp h;unfold luA
 cases hf:l.find? λx=>decide (x.1=e.1) with
 | none=>exact absurd (Z20 rfl) (List.find?_eq_none.mp hf e a)
 | some x=>exact ⟨x.2,rfl⟩
def NO (D:Dt) (a:Str) (c:List Int):Option Int:=(luA D a).bind λf=>luA f c
def Nm (D:Dt):D0i:=λa c=>(NO D a c).getD 0
abbrev prD (D:Dt):PrP:=λa c=>∃v,NO D a c=some v
def Ext (D D':Dt):Prop:=∀a c v,NO D a c=some v->NO D' a c=some v
theorem Ext.refl (D:Dt):Ext D D:=λ_ _ _ h=>h
theorem Ext.trans {D'':Dt} (h:Ext D D') (k:Ext D' D''):Ext D D'':=λa c v z=>k a c v (h a c v z)
theorem Ext.nm (h:Ext D D') (p:prD D a c):Nm D a c=Nm D' a c:=by
 obtain ⟨v,e⟩:=p;unfold Nm;rw [e,h a c v e]
theorem B7m {b:Str} (h:a∉D.map (·.1)):NO (D++[(a,f)]) b c=if b=a then luA f c else NO D b c:=by
 unfold NO;rw [B4d,C0t];by_cases e:b=a
 ·rw [Z12 e,Z12 e,e,B2j h];rfl
 ·rw [Z0t e,Z0t e];cases luA D b <;> rfl
theorem Ext.new (h:a∉D.map (·.1)):Ext D (D++[(a,f)]):=λb c v z=>by
 rw [B7m h];by_cases e:b=a
 ·unfold NO at z;rw [e,B2j h] at z;cases z
 ·rw [Z0t e];exact z
theorem Ext.cell {g:List (List Int×Int)} (h:a∉D.map (·.1)):Ext (D++[(a,f)]) (D++[(a,f++g)]):=λb c v z=>by
 rw [B7m h] at z⊢;by_cases e:b=a
 ·rw [Z12 e] at z⊢;rw [B4d,z];rfl
 ·rw [Z0t e] at z⊢;exact z
structure B4u (L:Str->Int) (W:Int) (D:Dt) (e:Ln) (c:List Int):Prop where
 s:∀t∈A1v L e.2.2.1,A1y L (okC (prD D)) (okC (prD D)) (A5y (e.2.1++e.2.2.1) (c++t)) e.2.2.2
 v:NO D e.1 c=some (C8b L W (Nm D) e c)
theorem C7u {e:Ln} (x:Ext D D') (s:∀t∈A1v L e.2.2.1,A1y L (okC (prD D)) (okC (prD D)) (A5y (e.2.1++e.2.2.1) (c++t)) e.2.2.2):C8b L W (Nm D) e c=C8b L W (Nm D') e c:=by
 unfold C8b;rw [A8x λt b=>A5x (λa c p=>x.nm p) (s t b)]
theorem C2t (x:Ext D D') (s:A1y L (okC (prD D)) (okC (prD D)) ρ u):A1y L (okC (prD D')) (okC (prD D')) ρ u:=A9x (by rintro _ a c ⟨v,z⟩;exact ⟨v,x a c v z⟩) (by rintro a c ⟨v,z⟩;exact ⟨v,x a c v z⟩) s
theorem B4u.ext {e:Ln} (h:B4u L W D e c) (x:Ext D D'):B4u L W D' e c:=⟨λt a=>C2t x (h.s t a),by rw [<-C7u x h.s];exact x _ _ _ h.v⟩
theorem B4u.mk2 {e:Ln} (h:e.1∉D.map (·.1)) (a:c∉cur.map (·.1)) (s:∀t∈A1v L e.2.2.1,A1y L (okC (prD (D++[(e.1,cur)]))) (okC (prD (D++[(e.1,cur)]))) (A5y (e.2.1++e.2.2.1) (c++t)) e.2.2.2):B4u L W (D++[(e.1,cur++[(c,C8b L W (Nm (D++[(e.1,cur)])) e c)])]) e c:=by
 have x:Ext (D++[(e.1,cur)]) (D++[(e.1,cur++[(c,C8b L W (Nm (D++[(e.1,cur)])) e c)])]):=Ext.cell h;refine ⟨λt b=>C2t x (s t b),?_⟩;rw [<-C7u x s,B7m h,Z12 rfl,B4d,B2j a,C0t,Z12 rfl];rfl
def BdD (W:Int) (D:Dt):Prop:=∀f∈D,∀e∈f.2,0<=e.2/\e.2<W
theorem D3z {α β:Type} [DecidableEq α] {l:List (α×β)} {k:α} {v:β} (h:luA l k=some v):(k,v)∈l:=by
 unfold luA at h;obtain ⟨e,a,rfl⟩:=Z0i.mp h;have z:=List.find?_some a;have z:e.1=k:=by simpa using z
 rw [<-z];exact List.mem_of_find?_eq_some a
theorem BdD.no (h:BdD W D) {v:Int} (e:NO D a c=some v):0<=v/\v<W:=by
 obtain ⟨f,b,e⟩:=Option.bind_eq_some_iff.mp e;exact h _ (D3z b) _ (D3z e)
theorem C2s {L:Str->Int} {W:Int} {D:Dt} (c:0<W) (b:BdD W D):∀{u:Tm} {ρ:Env},A1y L (okC (prD D)) (okC (prD D)) ρ u->0<=A3l L W (Nm D) ρ u/\A3l L W (Nm D) ρ u<W
 | .num _,_,_=>⟨Z1v _ (by lia),Z1p _ c⟩
 | .place _,_,_=>⟨Z1v _ (by lia),Z1p _ c⟩
 | .sum _ _,_,_=>⟨Z1v _ (by lia),Z1p _ c⟩
 | .pair _ _ _,_,_=>⟨Z1v _ (by lia),Z1p _ c⟩
 | .read a ix,ρ,⟨v,e⟩=>by
  show 0<=Nm D a (A5z ρ ix)/\Nm D a (A5z ρ ix)<W;unfold Nm;rw [e];exact b.no e
 | .guard x lo hi l r,ρ,s=>by
  show 0<=(if lo<=ρ x/\ρ x<hi then A3l L W (Nm D) ρ l else A3l L W (Nm D) ρ r)/\(if lo<=ρ x/\ρ x<hi then A3l L W (Nm D) ρ l else A3l L W (Nm D) ρ r)<W;by_cases hc:lo<=ρ x/\ρ x<hi
  ·rw [Z12 hc];exact C2s c b (s.1 hc)
  ·rw [Z0t hc];exact C2s c b (s.2 hc)
def C0o (c:List Int):List Key:=c.map Sum.inl
def B7o (f:List (List Int×Int)):List (List Key×V):=f.map λe=>(C0o e.1,V.int e.2)
theorem B6e:∀{c d:List Int},C0o c=C0o d->c=d
 | [],[],_=>rfl
 | a::c,b::d,h=>by
  have h:(Sum.inl a:Key)::C0o c=Sum.inl b::C0o d:=h;injection h with h1 h2;rw [Sum.inl.inj h1,B6e h2]
theorem C8w (c:List Int):(C0o c).map kV=c.map V.int:=by unfold C0o;rw [List.map_map];rfl
theorem C3r (c:List Int):∀f:List (List Int×Int),A5k (B7o f) (C0o c)=(luA f c).map V.int
 | []=>rfl
 | e::f=>by
  have a:=C3r c f;unfold B7o A5k luA at a⊢;rw [Z0p,Z2h,Z2h];by_cases h:e.1=c
  ·rw [Z20 h,Z20 (show (C0o e.1)=C0o c by rw [h])];rfl
  ·rw [Z1j h,Z1j (λz:C0o e.1=C0o c=>h (B6e z))];exact a
abbrev C7n (H:Hp) (p:Key×V) (f:Str×List (List Int×Int)):Prop:=p.1=Sum.inr f.1/\∃q,p.2= .ref q/\H q=some (.dT (B7o f.2))
structure B1s (H:Hp) (nd:Addr) (D:Dt):Prop where
 ex:∃kk:List (Key×V),H nd=some (.dK kk)/\Paired (C7n H) kk D
theorem B1s.same (h:B1s H nd D) (s:A0u H H'):B1s H' nd D:=by
 obtain ⟨d,e,p⟩:=h.ex;exact ⟨d,s _ _ e,Paired.mapP p (by rintro _ _ ⟨a,q,b,c⟩;exact i05 a q b (s _ _ c))⟩
theorem C8m {H:Hp} {a:Str} {f:List (List Int×Int)}:∀{kk:List (Key×V)} {D:Dt},Paired (C7n H) kk D->luA D a=some f->∃q,A5k kk (Sum.inr a)=some (.ref q)/\H q=some (.dT (B7o f))
 | _,_,.nil,h=>by cases h
 | p::kk,g::D,.cons r t,h=>by
  obtain ⟨d,q,c,b⟩:=r;unfold luA at h;rw [Z2h] at h;unfold A5k;rw [Z2h,d];by_cases z:g.1=a
  ·rw [Z20 z] at h;cases h;rw [Z20 (show (Sum.inr g.1:Key)=Sum.inr a by rw [z])];exact i02 q (by rw [<-c];rfl) b
  ·rw [Z1j z] at h;rw [Z1j λy:(Sum.inr g.1:Key)=Sum.inr a=>z (Sum.inr.inj y)];exact C8m t h
theorem C6i {H:Hp} {a:Str}:∀{kk:List (Key×V)} {D:Dt},Paired (C7n H) kk D->a∉D.map (·.1)->(Sum.inr a:Key)∉kk.map (·.1)
 | _,_,.nil,_=>by simp
 | p::kk,g::D,.cons r t,h=>by
  intro z;rcases Z0e.mp z with z | z
  ·exact h (Z0e.mpr (.inl (Sum.inr.inj (z.trans r.1))))
  ·exact C6i t (λy=>h (.tail _ y)) z
theorem B1s.get (h:B1s H nd D) (e:luA D a=some f):∃q,A9e H nd (.str a) (some (.ref q))/\H q=some (.dT (B7o f)):=by
 obtain ⟨i,b,p⟩:=h.ex;obtain ⟨q,d,c⟩:=C8m p e;refine i02 q ?_ c;have g:=A9e.k (H:=H) (a:=nd) (k:=Sum.inr a) b;rw [d] at g;exact g
theorem D1k {b:Addr} {v:Int} (d:H q=some (.dT (B7o f))) (h:H b=some (.tup (c.map V.int))) (e:luA f c=some v):A9e H q (.ref b) (some (.int v)):=by
 have g:=A9e.t (H:=H) (a:=q) (b:=b) (k:=C0o c) d (by rw [C8w];exact h);rw [C3r,e] at g;exact g
theorem B5v {α:Type} [DecidableEq α] {kk:List (α×V)} {k:α} (h:k∉kk.map (·.1)):A7z kk k v=kk++[(k,v)]:=by
 unfold A7z;rw [Z0t];intro z;obtain ⟨p,a,e⟩:=List.any_eq_true.mp z;exact h (Z2c.mpr (i02 p a (of_decide_eq_true e)))
theorem C4d {b:Addr} {v:Int} (j:H q=some (.dT (B7o f))) (n:H b=some (.tup (c.map V.int))) (m:c∉f.map (·.1)) (l:f.length<300000):C0g H q (.ref b) (.int v) (upd H q (.dT (B7o (f++[(c,v)])))):=by
 have g:=C0g.t (H:=H) (a:=q) (b:=b) (k:=C0o c) (v:= .int v) j (by rw [C8w];exact n) (A1l (by unfold B7o;rw [Z08];lia))
 have e:A7z (B7o f) (C0o c) (V.int v)=B7o (f++[(c,v)]):=by
  rw [B5v]
  ·unfold B7o;rw [Z0s];rfl
  ·intro z;obtain ⟨x,d,h⟩:=Z2c.mp z;obtain ⟨y,i,rfl⟩:=Z2c.mp d;exact m (Z2c.mpr (i02 y i (B6e h)))
 rw [e] at g;exact g
structure PK (K:Frag) (t:Adr) (o:Op3):Prop where
 c2:findIn K (.ref (A6z t o)) "__class__"=some (some (.builtin "object.__class__"))
 c3:specialIn K (.builtin "object.__class__") "__get__"=some (some (.builtin "getset_descriptor.__get__"))
 c4:takesIn K (.builtin "object.__class__")=some true
 c5:mroIn K (A6z t o) (.type "object")=some true
 n:kitOne K (.ref (A6z t o)) (.ref t.ae)=some false
 p:kitOne K (.ref (A6z t o)) (.ref t.am)=some false
 r:kitOne K (.ref (A6z t o)) (.ref t.aj)=some false
 g:kitOne K (.ref (A6z t o)) (.ref t.af)=some false
 s:kitOne K (.ref (A6z t o)) (.ref t.bp)=some false
theorem E3j {K:Frag} {mg:Str->Option Value} {t:Adr} (T:Txt K mg t):∀o,PK K t o
 | .plus=>⟨T.bx.ha,T.bx.hn,T.bx.htk,T.bx.hm,T.uv,T.oq,T.q0,T.ox,T.kf⟩
 | .minus=>⟨T.bh.ha,T.bh.hn,T.bh.htk,T.bh.hm,T.t_,T.kg,T.nh,T.kh,T.jt⟩
 | .times=>⟨T.bj.ha,T.bj.hn,T.bj.htk,T.bj.hm,T.u8,T.ma,T.on,T.ke,T.jj⟩
structure AtV (H:Hp) (d:Addr) (sc:List Str) (ρ:Env) (m:Nat):Prop where
 ex:∃ak:List (Key×V),H d=some (.dK ak)/\(∀x,(A5k ak (Sum.inr x)).getD (.int 0)= .int (ρ x))/\(∀x∈sc,A5k ak (Sum.inr x)=some (.int (ρ x)))/\ak.length<=m
theorem AtV.same (h:AtV H d sc ρ m) (s:A0u H H'):AtV H' d sc ρ m :=
 let ⟨ak,e,r⟩:=h.ex
 ⟨ak,s _ _ e,r⟩
theorem E0a {a:List (Key×V)} {i:Int} (e:H d=some (.dK (A7z a (Sum.inr x) (.int i)))) (h1:∀x,(A5k a (Sum.inr x)).getD (.int 0)= .int (ρ x)) (h2:∀x∈sc,A5k a (Sum.inr x)=some (.int (ρ x))) (l:a.length<=m):AtV H d (sc++[x]) (B2m ρ x i) (m+1):=by
 have c:=A7q a (Sum.inr x) (.int i)
 have v:∀y,A5k (A7z a (Sum.inr x) (.int i)) (Sum.inr y)=if y=x then some (.int i) else A5k a (Sum.inr y):=λy=>by
  rw [D3d];by_cases z:y=x
  ·rw [Z12 z,Z12 (by rw [z])]
  ·rw [Z0t z,Z0t λq=>z (Sum.inr.inj q)]
 refine ⟨_,e,λy=> ?_,λy b=> ?_,by lia⟩
 ·rw [v];unfold B2m;by_cases z:y=x
  ·rw [Z12 z,Z12 z];rfl
  ·rw [Z0t z,Z0t z];exact h1 y
 ·rw [v];unfold B2m;by_cases z:y=x
  ·rw [Z12 z,Z12 z]
  ·rw [Z0t z,Z0t z];rcases Z07.mp b with b | b
   ·exact h2 y b
   ·exact absurd (Z0w.mp b) z
structure WoIn (A:Adr) (H:Hp) (v:V) (da d nd:Addr) (W:Int) (u:Tm) (sc nm:List Str) (ρ:Env) (lk:List (Key×V)) (D:Dt) (m:Nat):Prop where
 ob:Ob A H v u
 at0:AtV H da sc ρ m
 hd:H d=some (.dK lk)
 nu:B1s H nd D
 w0:0<W
 w1:W<=10^31
 bd:BdD W D
 wu:TmW u
 ti:A6o nm sc u
 dk:B0c lk nm
 mm:m+dep u<=1000
 sf:A1y (lnL lk) (okC (prD D)) (okC (prD D)) ρ u
def B1h (A:Adr) (n:Nat):Sp:=λh H Q _=>∃(v:V) (e d a:Addr) (W:Int) (u:Tm) (f g:List Str) (ρ:Env) (c:List (Key×V)) (D:Dt) (m:Nat),h=[v,.ref e,.ref d,.ref a,.int W]/\WoIn A H v e d a W u f g ρ c D m/\dep u<=n/\∀b,A0u H b->Q (.int (A3l (lnL c) W (Nm D) ρ u)) b
theorem D4j {z:Int} (h:0<=z/\z<W) (w:W<=10^31):z.natAbs<2^4000:=by
 have a:z.natAbs<10^31:=by
  have:(10:Int)^31=((10^31:Nat):Int):=by norm_cast
  lia
 exact Nat.lt_trans a (by decide +kernel)
theorem D5l (T:Txt K mg t) (hm:6<=m) (Ge7:A3h P w K mg base CX0 m t.n6 t.n8 C4n (B1h t n)):A3h P w K mg base CX0 (m+1) t.n6 t.n8 C4n (B1h t (n+1)):=by
 have Ge8:= @C9k P w K mg base t T;refine T.eh.F.ok A4q (by walk_at "ln") λ_ A _ s H _ Q E hr h=> ?_
 ·refine e0h h ?_;clear h;rintro v L d Y W u sc nm ρ C D ⟨m,rfl,⟨ob,J,hd,nu,B,w1,bd,wu,X,dk,mm,U⟩,hn,k⟩;have hu:=A8b hr;obtain ⟨N,S,hρ,hs,a0⟩:=J.ex;refine i02 _ (@RS.r _ _ _ (rq1 (rq4 (A2s (A0q A1d (by rfl) T.ab Z0d (A0a (pv 0) (A0a (A3k (v:=V.ref t.ae) rfl T.qy rfl) A0c)))) (rq3 (rq5 (A0j A1j (A1c (pv 0) rfl) (pv 4)))) ⟨A0x⟩) (rq1 (rq4 (A2s (A0q A1d (by rfl) T.ab Z0d (A0a (pv 0) (A0a (A3k (v:=V.ref t.am) rfl T.xo rfl) A0c)))) (rq3 (rq5 (A0j A1j (A2u hu (pv 1) (A1c (pv 0) rfl) (λ_ _=>rfl)) (pv 4)))) ⟨A0x⟩) (rq1 (rq4 (A2s (A0q A1d (by rfl) T.ab Z0d (A0a (pv 0) (A0a (A3k (v:=V.ref t.aj) rfl T.xj rfl) A0c)))) (rq3 (rq5 (A2u hu (A2u hu (pv 3) (A1c (pv 0) rfl) (λ_ _=>rfl)) (pcl Ge8 hr T.v7 (A0a (A1c (pv 0) rfl) (A0a (pv 1) A0c))) (λ_ _=>rfl)))) ⟨A0x⟩) (rq1 (rq4 (A2s (A0q A1d (by rfl) T.ab Z0d (A0a (pv 0) (A0a (A3k (v:=V.ref t.af) rfl T.mw rfl) A0c)))) (rq1 (rq4 (D2u D5g B9a (A1c (pv 0) rfl) (A2u hu (pv 1) (A1c (pv 0) rfl) (λ_ _=>rfl)) (A1c (pv 0) rfl)) (rq3 (rq5 (pcl Ge7 hr T.eh (A0a (A1c (pv 0) rfl) (A0a (pv 1) (A0a (pv 2) (A0a (pv 3) (A0a (pv 4) A0c)))))))) ⟨A0x⟩) (rq3 (rq5 (pcl Ge7 hr T.eh (A0a (A1c (pv 0) rfl) (A0a (pv 1) (A0a (pv 2) (A0a (pv 3) (A0a (pv 4) A0c))))))))) ⟨A0x⟩) (rq1 (rq4 (A2s (A0q A1d (by rfl) T.ab Z0d (A0a (pv 0) (A0a (A3k (v:=V.ref t.bp) rfl T.ww rfl) A0c)))) (rq1 (rq6 5 A4q.nd A0d) (rq1 (rq7 (A4a rfl T.dm (A0a (A2u hu (pv 2) (A1c (pv 0) rfl) (λ_ _=>rfl)) A0c)) (A0k (i:=6) A4q.nd rfl (.inl rfl)) (rq1 (rq6 7 A4q.nd (A2k C4j (by rfl) T.kq Z2q (A0a (pv 1) A0c))) (rq1 ⟨@A6k _ _ _ _ _ _ _ _ _ hu (pv 7) (A1c (pv 0) rfl) (pv 6) rfl⟩ (rq3 (rq6 5 A4q.nd (A0j A2h (pv 5) (pcl Ge7 hr T.eh (A0a (A1c (pv 0) rfl) (A0a (pv 7) (A0a (pv 2) (A0a (pv 3) (A0a (pv 4) A0c)))))))))))) (rq3 (rq5 (A0j A1j (pv 5) (pv 4)))))) ⟨A0x⟩) (rq1 (rq6 8 A4q.nd (pcl Ge7 hr T.eh (A0a (A1c (pv 0) rfl) (A0a (pv 1) (A0a (pv 2) (A0a (pv 3) (A0a (pv 4) A0c))))))) (rq1 (rq6 9 A4q.nd (pcl Ge7 hr T.eh (A0a (A1c (pv 0) rfl) (A0a (pv 1) (A0a (pv 2) (A0a (pv 3) (A0a (pv 4) A0c))))))) (rq1 (rq4 (A2s (A0q A1d (by rfl) T.ab Z0d (A0a (pv 0) (A0a (A3k (v:=V.ref t.bf) rfl T.yD rfl) A0c)))) (rq3 (rq5 (A0j A1j (A0j A2h (pv 8) (pv 9)) (pv 4)))) ⟨A0x⟩) (rq1 (rq4 (A2s (A0q A1d (by rfl) T.ab Z0d (A0a (pv 0) (A0a (A3k (v:=V.ref t.av) rfl T.wy rfl) A0c)))) (rq3 (rq5 (A0j A1j (A0j A3p (pv 8) (pv 9)) (pv 4)))) ⟨A0x⟩) (rq3 (rq5 (A0j A1j (A0j D7y (pv 8) (pv 9)) (pv 4)))))))))))))) ?_
  cases ob with
  | @num a dx z e =>
   have j:A8a K H (.ref a) (.ref t.ae):= .ins e T.cy T.a_.ha T.a_.hn T.a_.htk T.a_.hm;refine i16 _ rfl _ _ _ _ rfl j (A1e T.sr) true rfl (A5r ?_);exact i19 _ rfl a _ dx _ _ rfl e T.cy T.c_ (by walk_at "lk") (i0s _ rfl _ _ rfl rfl B (k _ (A0u.refl _)))
  | @place a dx x e =>
   have j:A8a K H (.ref a) (.ref t.am):= .ins e T.fw T.bo.ha T.bo.hn T.bo.htk T.bo.hm;have gk:=A9e.k (H:=H) (a:=L) (k:=Sum.inr x) S;rw [hs x X] at gk;refine i16 _ rfl _ _ _ _ rfl j (A1e T.u9) false rfl (A2m ?_);refine i16 _ rfl _ _ _ _ rfl j (A1e T.mn) true rfl (A5r ?_);exact i02 _ rfl (i19 _ rfl a _ dx _ _ rfl e T.fw T.iw (by walk_at "lk") (i0f L _ rfl gk (i0s _ rfl _ _ rfl rfl B (k _ (A0u.refl _)))))
  | @read a dx l x ix e ri =>
   have j:A8a K H (.ref a) (.ref t.aj):= .ins e T.fe T.bw.ha T.bw.hn T.bw.htk T.bw.hm;refine i16 _ rfl _ _ _ _ rfl j (A1e T.ux) false rfl (A2m ?_);refine i16 _ rfl _ _ _ _ rfl j (A1e T.ni) false rfl (A2m ?_);refine i16 _ rfl _ _ _ _ rfl j (A1e T.r8) true rfl (A5r ?_);obtain ⟨z,ez⟩:=U;obtain ⟨f,hf,ef⟩:=Option.bind_eq_some_iff.mp ez;obtain ⟨q,dg,hq⟩:=nu.get hf;have a1:=wu.2.1;refine i02 _ rfl (i19 _ rfl a _ dx _ _ rfl e T.fe T.oj (by walk_at "lk") (i0f Y _ rfl dg (i19 _ rfl a _ dx _ _ rfl e T.fe T.g9 (by walk_at "lk") (i19 _ rfl (.ref l) L ix N ρ rfl ri S hρ (by lia) λb H1 I hb=> ?_))))
   have en:A3l (lnL C) W (Nm D) ρ (.read x ix)=z:=by
    show (NO D x (A5z ρ ix)).getD 0=z;rw [ez];rfl
   rw [en] at k;exact i0f q _ rfl (D1k (I _ _ hq) hb ef) (k _ I)
  | @guard a dx x lo hi v1 v2 l r e o1 o2 =>
   have j:A8a K H (.ref a) (.ref t.af):= .ins e T.ay T.bn.ha T.bn.hn T.bn.htk T.bn.hm;simp only [dep] at hn mm;have gk:=A9e.k (H:=H) (a:=L) (k:=Sum.inr x) S;rw [hs x X.1] at gk;have fl:lo<=ρ x/\ρ x<hi->A3l (lnL C) W (Nm D) ρ (.guard x lo hi l r)=A3l (lnL C) W (Nm D) ρ l:=λh=>Z12 h;have fr:¬(lo<=ρ x/\ρ x<hi)->A3l (lnL C) W (Nm D) ρ (.guard x lo hi l r)=A3l (lnL C) W (Nm D) ρ r:=λh=>Z0t h;refine i16 _ rfl _ _ _ _ rfl j (A1e T.u5) false rfl (A2m ?_);refine i16 _ rfl _ _ _ _ rfl j (A1e T.kl) false rfl (A2m ?_);refine i16 _ rfl _ _ _ _ rfl j (A1e T.oz) false rfl (A2m ?_);refine i16 _ rfl _ _ _ _ rfl j (A1e T.h_) true rfl (A5r ?_);refine i19 _ rfl a _ dx _ _ rfl e T.ay T.jq (by walk_at "lk") (i02 _ rfl (i19 _ rfl a _ dx _ _ rfl e T.ay T.fh (by walk_at "lk") (i0f L _ rfl gk (i0q _ _ rfl rfl _ rfl (A8z (λh1=> ?_) (λh1=> ?_))))))
   ·refine i19 _ rfl a _ dx _ _ rfl e T.ay T.j7 (by walk_at "lk") (i0q _ _ rfl rfl _ rfl (A8z (λh2=> ?_) (λh2=> ?_)))
    ·exact i19 _ rfl a _ dx _ _ rfl e T.ay T.gy (by walk_at "lk") (i0e _ rfl _ rfl (i0e _ rfl _ rfl (i11 v1 L d Y W l sc nm ρ (i0r C D m rfl ⟨o1,J,hd,nu,B,w1,bd,wu.2.2.2.1,X.2.1,dk,by lia,U.1 ⟨h1,h2⟩⟩ (by lia) (by rw [<-fl ⟨h1,h2⟩];exact k)))))
    ·exact i19 _ rfl a _ dx _ _ rfl e T.ay T.dz (by walk_at "lk") (i0e _ rfl _ rfl (i0e _ rfl _ rfl (i11 v2 L d Y W r sc nm ρ (i0r C D m rfl ⟨o2,J,hd,nu,B,w1,bd,wu.2.2.2.2,X.2.2,dk,by lia,U.2 λz=>h2 z.2⟩ (by lia) (by rw [<-fr λz=>h2 z.2];exact k)))))
   ·exact i02 _ rfl (A2m (i19 _ rfl a _ dx _ _ rfl e T.ay T.dz (by walk_at "lk") (i0e _ rfl _ rfl (i0e _ rfl _ rfl (i11 v2 L d Y W r sc nm ρ (i0r C D m rfl ⟨o2,J,hd,nu,B,w1,bd,wu.2.2.2.2,X.2.2,dk,by lia,U.2 λz=>h1 z.1⟩ (by lia) (by rw [<-fr λz=>h1 z.1];exact k)))))))
  | @sum a dx x v1 b e o1 =>
   have j:A8a K H (.ref a) (.ref t.bp):= .ins e T.d_ T.cj.ha T.cj.hn T.cj.htk T.cj.hm;simp only [dep] at hn mm;obtain ⟨c,ev,c1,c60⟩:=dk x X.1;have ec:lnL C x=c:=A6v ev;have gk:=A9e.k (H:=H) (a:=d) (k:=Sum.inr x) hd;rw [ev] at gk;refine i16 _ rfl _ _ _ _ rfl j (A1e T.wn) false rfl (A2m ?_);refine i16 _ rfl _ _ _ _ rfl j (A1e T.qg) false rfl (A2m ?_);refine i16 _ rfl _ _ _ _ rfl j (A1e T.tw) false rfl (A2m ?_);refine i16 _ rfl _ _ _ _ rfl j (A1e T.qm) false rfl (A2m ?_);refine i16 _ rfl _ _ _ _ rfl j (A1e T.jm) true rfl (A5r ?_);refine i02 _ rfl (i19 _ rfl a _ dx _ _ rfl e T.d_ T.fm (by walk_at "lk") (i0f d _ rfl gk (i0c c rfl (by lia) (by lia) ?_)));refine A4k (n:=c.toNat) (λi Z G=>∃(o6 o7:Option V),Z=[Sro a,Sro L,Sro d,Sro Y,Sio W,Sio (B6n (λi=>A3l (lnL C) W (Nm D) (B2m ρ x (i:Int)) b) i),o6,o7,none,none]/\A0u H G) (i07 none none rfl (A0u.refl _)) ?_ ?_
   ·rintro i Z G hi ⟨o6,o7,rfl,sG⟩;refine B3x ?_;intro D';rw [Int.zero_add];refine i0o _ rfl L N rfl (.inl (sG _ _ S)) λp hp=> ?_;have I:=A0e (o:= .dK N) hp;have e1:upd G p (.dK N) p=some (.dK N):=A0b;generalize upd G p (.dK N)=G1 at I e1;refine i0e _ rfl _ rfl (i19 _ rfl a _ dx _ _ rfl (I _ _ (sG _ _ e)) T.d_ T.fm (by walk_at "lk") (i0f p _ rfl (C0g.k (k:=Sum.inr x) e1 (A1l (by lia))) ?_));have s2:A0u G (upd G1 p (.dK (A7z N (Sum.inr x) (.int (i:Int))))):=A0o I hp;have a2:=E0a (m:=m) (A0b (H:=G1) (a:=p) (o:= .dK (A7z N (Sum.inr x) (.int (i:Int))))) hρ hs a0;generalize upd G1 p (.dK (A7z N (Sum.inr x) (.int (i:Int))))=G2 at s2 a2;have M:=sG.trans s2;refine i02 _ rfl (i19 _ rfl a _ dx _ _ rfl (M _ _ e) T.d_ T.ik (by walk_at "lk") (i0e _ rfl _ rfl (i0e _ rfl _ rfl (i11 v1 p d Y W b (sc++[x]) nm (B2m ρ x (i:Int)) (i0r C D (m+1) rfl ⟨o1.imp M,a2,M _ _ hd,nu.same M,B,w1,bd,wu.2,X.2.2,dk,by lia,U (i:Int) (by lia) (by rw [ec];lia)⟩ (by lia) λG3 s3=>(i07 _ _ rfl (i0b rfl _ _ rfl (M.trans s3))))))))
   ·rintro Z G ⟨o6,o7,rfl,sG⟩;refine i0w _ rfl _ rfl _ _ rfl rfl ⟨B,?_⟩;rw [<-ec];exact k _ sG
  | @pair a dx kk v1 v2 l r e o1 o2 =>
   have R:=E3j T kk;have j:A8a K H (.ref a) (.ref (A6z t kk)):= .ins e (A8n T kk) R.c2 R.c3 R.c4 R.c5;simp only [dep] at hn mm;refine i16 _ rfl _ _ _ _ rfl j (A1e R.n) false rfl (A2m ?_);refine i16 _ rfl _ _ _ _ rfl j (A1e R.p) false rfl (A2m ?_);refine i16 _ rfl _ _ _ _ rfl j (A1e R.r) false rfl (A2m ?_);refine i16 _ rfl _ _ _ _ rfl j (A1e R.g) false rfl (A2m ?_);refine i16 _ rfl _ _ _ _ rfl j (A1e R.s) false rfl (A2m ?_);refine i19 _ rfl a _ dx _ _ rfl e (A8n T kk) (B7u T kk) (by walk_at "lk") (i0e _ rfl _ rfl (i0e _ rfl _ rfl (i11 v1 L d Y W l sc nm ρ (i0r C D m rfl ⟨o1,J,hd,nu,B,w1,bd,wu.1,X.1,dk,by lia,U.1⟩ (by lia) λH1 I=> ?_))));refine i19 _ rfl a _ dx _ _ rfl (I _ _ e) (A8n T kk) (C0a T kk) (by walk_at "lk") (i0e _ rfl _ rfl (i0e _ rfl _ rfl (i11 v2 L d Y W r sc nm ρ (i0r C D m rfl ⟨o2.imp I,J.same I,I _ _ hd,nu.same I,B,w1,bd,wu.2,X.2,dk,by lia,U.2⟩ (by lia) λH2 s2=> ?_))));have O:=I.trans s2;have e2:=O _ _ e;have b1:=C2s B bd U.1;have b2:=C2s B bd U.2
   cases kk with
   | plus =>
    have y:A8a K H2 (.ref a) (.ref t.bf):= .ins e2 T.rf T.bx.ha T.bx.hn T.bx.htk T.bx.hm;refine i16 _ rfl _ _ _ _ rfl y (A1e T.xi) true rfl (A5r ?_);exact i0w _ rfl _ rfl _ _ rfl rfl (i0s _ rfl _ _ rfl rfl B (k _ O))
   | minus =>
    have y:A8a K H2 (.ref a) (.ref t.av):= .ins e2 T.lh T.bh.ha T.bh.hn T.bh.htk T.bh.hm;refine i16 _ rfl _ _ _ _ rfl y (A1e T.vq) false rfl (A2m ?_);refine i16 _ rfl _ _ _ _ rfl y (A1e T.uq) true rfl (A5r ?_);exact i0w _ rfl _ rfl _ _ rfl rfl (i0s _ rfl _ _ rfl rfl B (k _ O))
   | times =>
    have y:A8a K H2 (.ref a) (.ref t.cf):= .ins e2 T.lq T.bj.ha T.bj.hn T.bj.htk T.bj.hm;refine i16 _ rfl _ _ _ _ rfl y (A1e T.vz) false rfl (A2m ?_);refine i16 _ rfl _ _ _ _ rfl y (A1e T.ut) false rfl (A2m ?_);exact i0w _ rfl _ rfl _ _ rfl rfl ⟨⟨D4j b1 w1,D4j b2 w1⟩,(i0s _ rfl _ _ rfl rfl B (k _ O))⟩
theorem D9t (T:Txt K mg t):∀n:Nat,A3h P w K mg base CX0 (n+7) t.n6 t.n8 C4n (B1h t n)
 | 0=>A3h.none (by (rintro g H Q E a;refine e0h a ?_;clear a;rintro v b d c W u e f ρ i D ⟨m,_,_,h,_⟩);have:=A6n u;lia)
 | n+1=>D5l T (by lia) (D9t T n)
theorem C1m:∀{xs:List Str} {cs:List Int} (y:Str),cs.length=xs.length->A5k ((xs.map (Sum.inr:Str->Key)).zip (cs.map V.int)) (Sum.inr y)=if y∈xs then some (.int (A5y xs cs y)) else none
 | [],[],_,_=>rfl
 | x::xs,c::cs,y,l=>by
  have a:=C1m y (Nat.succ.inj l);unfold A5k at a⊢;rw [Z0p,Z0p,List.zip_cons_cons,Z2h];by_cases e:y=x
  ·subst e;simp [A5y]
  ·have b:¬(Sum.inr x:Key)=Sum.inr y:=λz=>e (Sum.inr.inj z).symm;rw [Z1j b];show _=if y∈x::xs then some (V.int (if y=x then c else A5y xs cs y)) else none
   rw [Z0t e];simp only [Z0e,e,false_or];exact a
theorem E2b {xs:List Str} {cs:List Int} (n:xs.Nodup) (l:cs.length=xs.length) (i:xs.length<=m) (h:H d=some (.dK (A4g [] ((xs.map (Sum.inr:Str->Key)).zip (cs.map V.int))))):AtV H d xs (A5y xs cs) m:=by
 have g:(((xs.map (Sum.inr:Str->Key)).zip (cs.map V.int)).map (·.1)).Nodup:=by
  have:((xs.map (Sum.inr:Str->Key)).zip (cs.map V.int)).map (·.1)=xs.map Sum.inr:=List.map_fst_zip (by simp [l]);rw [this];exact n.map (f:=(Sum.inr:Str->Key)) λa b e z=>e (Sum.inr.inj z)
 rw [B4e g] at h;refine ⟨_,h,λx=> ?_,λx c=> ?_,?_⟩
 ·rw [C1m x l];by_cases c:x∈xs
  ·rw [Z12 c];rfl
  ·rw [Z0t c,B1q c];rfl
 ·rw [C1m x l,Z12 c]
 ·rw [List.length_zip,Z08,Z08];lia
theorem B3h:∀{a b:List Int},A6u a b->¬A6u b a
 | a::as,b::bs,h,k=>by
  rcases h with h | ⟨e,c⟩
  ·rcases k with k | k
   ·lia
   ·lia
  ·rcases k with k | ⟨_,d⟩
   ·lia
   ·exact B3h c d
theorem B7f {L:Str->Int}:∀ys:List Str,(A1v L ys).Pairwise A6u
 | []=>List.pairwise_singleton _ _
 | x::ys=>by
  rw [B5j,List.pairwise_flatMap];refine ⟨λi _=>List.Pairwise.map _ (λa b h=> .inr ⟨rfl,h⟩) (B7f ys),?_⟩;refine List.Pairwise.imp ?_ (List.pairwise_lt_range (n:=(L x).toNat));intro i j e a c b d;obtain ⟨s,_,rfl⟩:=Z2c.mp c;obtain ⟨u,_,rfl⟩:=Z2c.mp d;exact .inl (by lia)
theorem C5q {d:List Int} (g:(A1v L ys)[i]? =some c) (k:inC L ys d) (h:A6u d c):d∈(A1v L ys).take i:=by
 obtain ⟨j,f,a⟩:=List.mem_iff_getElem.mp (A4b.mpr k);obtain ⟨e,b⟩:=Z03.mp g;rcases Nat.lt_trichotomy i j with z | z | z
 ·have:=List.pairwise_iff_getElem.mp (B7f (L:=L) ys) i j e f z;rw [b,a] at this;exact absurd h (B3h this)
 ·subst z;rw [<-a,<-b] at h;exact absurd h B1a
 ·exact List.mem_iff_getElem.mpr ⟨j,by rw [Z0x];lia,by rw [List.getElem_take];exact a⟩
theorem B6c (ys:List Str):(A1v L ys).Nodup:=List.Pairwise.imp (S:=λa b=>a≠b) (λ{a b} h e=>by rw [e] at h;exact B1a h) (B7f ys)
structure D5m (lk:List (Key×V)) (nm:List Str) (D:Dt) (e:Ln):Prop where
 dk:B0c lk nm
 sub:∀x∈e.2.1++e.2.2.1,x∈nm
 pa:A3n (lnL lk) e.2.1<=8000
 ps:A3n (lnL lk) e.2.2.1<=8000
 la:e.2.1.length<=100
 ls:e.2.2.1.length<=100
 nd:(e.2.1++e.2.2.1).Nodup
 ti:A6o nm (e.2.1++e.2.2.1) e.2.2.2
 w:TmW e.2.2.2
 d:dep e.2.2.2<=40
 nn:e.1∉D.map (·.1)
 sf:∀c,inC (lnL lk) e.2.1 c->∀t,inC (lnL lk) e.2.2.1 t->∀pr:PrP,(∀a d,prD D a d->pr a d)->(∀d,inC (lnL lk) e.2.1 d->A6u d c->pr e.1 d)->A1y (lnL lk) (okC pr) (okC pr) (A5y (e.2.1++e.2.2.1) (c++t)) e.2.2.2
structure LnG (A:Adr) (K:Frag) (H:Hp) (a:Addr) (e:Ln):Prop where
 ex:∃(C dx ca:Addr) (fs:List (Str×V)) (nv:V),H a=some (.ins C dx fs)/\Cls K C/\(A1m K C "name"/\A1m K C "axes"/\A1m K C "term")/\fs.lookup ("name":Str)=some (V.str e.1)/\fs.lookup ("axes":Str)=some (V.ref ca)/\fs.lookup ("term":Str)=some nv/\H ca=some (.lst (e.2.1.map V.str))/\Ob A H nv e.2.2.2
theorem LnG.same {a:Addr} {e:Ln} (h:LnG A K H a e) (s:A0u H H'):LnG A K H' a e:=by
 obtain ⟨C,d,i,b,m,f,l,o,g,j,c,n,k⟩:=h.ex;exact ⟨C,d,i,b,m,s _ _ f,l,o,g,j,c,s _ _ n,k.imp s⟩
theorem D3g {xs:List (List Int)} (h:cur.map (·.1)=xs) {d:List Int} (a:d∈xs):∃v,luA cur d=some v:=D0l (by rw [h];exact a)
theorem BdD.snoc (h:BdD W D) (k:∀e∈cur,0<=e.2/\e.2<W):BdD W (D++[(a,cur)]):=λf b=>by
 rcases Z07.mp b with b | b
 ·exact h f b
 ·rw [Z0w.mp b];exact k
structure D8o (G H2 B:Hp) (nd q:Addr) (kk:List (Key×V)) (D:Dt) (x:Str):Prop where
 g:A0u (A0s (λb=>b≠nd) G) B
 s:A0u B H2
 n:B q=none
 p:Paired (C7n B) kk D
 e1:H2 nd=some (.dK (kk++[(Sum.inr x,.ref q)]))
 e2:H2 q=some (.dT [])
 k:∀{b:Addr} {o:HO},H2 b=some o->(∀x,o≠.dK x)->(∀x,o≠.dT x)->B b=some o
 ne:nd≠q
 nk:(Sum.inr x:Key)∉kk.map (·.1)
theorem D8o.of {G:Hp} (h:G q=none) (c:G nd=some (.dK kk)) (p:Paired (C7n G) kk D) (r:(Sum.inr x:Key)∉kk.map (·.1)) (i:A0u (upd (upd G q (.dT [])) nd (.dK (kk++[(Sum.inr x,.ref q)]))) H2):∃B,D8o G H2 B nd q kk D x:=by
 have d:nd≠q:=λz=>by rw [z,h] at c;cases c
 have j:=i _ _ (A0b (H:=upd G q (.dT [])) (a:=nd) (o:= .dK (kk++[(Sum.inr x,.ref q)])));have l:=i _ _ (show upd (upd G q (.dT [])) nd (.dK (kk++[(Sum.inr x,.ref q)])) q=some (.dT []) by rw [A0i d.symm];exact A0b)
 have g:A0u (A0s (λb=>b≠nd) G) (A0s (λb=>b≠nd/\b≠q) H2):=λb o z=>by
  obtain ⟨f,e⟩:=A0l z;exact A0h ⟨f,λy=>by rw [y,h] at e;cases e⟩ (i _ _ (by rw [A0i f];exact A0e h _ _ e))
 refine ⟨A0s (λb=>b≠nd/\b≠q) H2,g,A0m,?_,Paired.mapP p (by rintro _ _ ⟨f,m,e,k⟩;exact i05 f m e (g _ _ (A0h (A3m k c (by intro z;cases z)) k))),j,l,λz n s=>A0h ⟨A3m z j (n _),A3m z l (s _)⟩ z,d,r⟩
 cases z:A0s (λb=>b≠nd/\b≠q) H2 q with
 | none=>rfl
 | some o=>exact absurd rfl (A0l z).1.2
theorem C9z {F:Hp} (d:(Sum.inr x:Key)∉kk.map (·.1)) (h:F nd=some (.dK (kk++[(Sum.inr x,.ref q)]))):A9e F nd (.str x) (some (.ref q)):=by
 have f:A5k kk (Sum.inr x)=none:=by
  cases hv:A5k kk (Sum.inr x) with
  | none=>rfl
  | some v =>
   obtain ⟨c,e,g,_⟩:=C2u hv;exact absurd (Z2c.mpr (i02 c e g)) d
 have b:=A9e.k (H:=F) (a:=nd) (k:=Sum.inr x) h;rw [B4m _ _ _ _ f,Z12 rfl] at b;exact b
theorem D8o.num {G B F:Hp} (h:D8o G H2 B nd q kk D x) (s:A0u B F) (h1:F nd=some (.dK (kk++[(Sum.inr x,.ref q)]))) (h2:F q=some (.dT (B7o cur))):B1s F nd (D++[(x,cur)]):=⟨_,h1,B2i (Paired.mapP h.p (by rintro _ _ ⟨b,a,c,d⟩;exact i05 b a c (s _ _ d))) (.cons (i05 rfl q rfl h2) .nil)⟩
def C8r (A:Adr) (K:Frag):Sp:=λl H Q _=>∃(a j d g:Addr) (W:Int) (e:Ln) (h:List (Key×V)) (k:List Str) (D:Dt),l=[.ref a,.ref j,.ref d,.ref g,.int W]/\LnG A K (A0s (λb=>b≠g) H) a e/\H j=some (.lst (e.2.2.1.map V.str))/\(H d=some (.dK h)/\d≠g)/\B1s H g D/\D.length<=2000/\(0<W/\W<=10^31)/\BdD W D/\D5m h k D e/\
 ∀(f:List (List Int×Int)) (i:Hp),KB g H i->B1s i g (D++[(e.1,f)])->f.map (·.1)=A1v (lnL h) e.2.1->(∀c,inC (lnL h) e.2.1 c->B4u (lnL h) W (D++[(e.1,f)]) e c)->BdD W (D++[(e.1,f)])->Q .non i
theorem C9a (T:Txt K mg t):FO P w base T.qz 51 (C8r t K):=by
 have Ge9:= @A7v P w K mg base t T;have Ge7:= @D9t P w K mg base t T 40;refine T.qz.F.ok A7a (by walk_at "ln") λ_ A _ s H _ Q E hr h=> ?_
 ·refine e0e h ?_;clear h;rintro a sl d X W e I nm ⟨D,rfl,ln,b6,⟨hd,d8⟩,nu,lD,⟨w0,w1⟩,bd,u,k⟩;have hu:=A8b hr;obtain ⟨C,dx,ca,fs,nv,ha,cl,⟨b0,b7,e7⟩,lk1,b1,d6,d0,ob⟩:=ln.ex;obtain ⟨kk,a7,pk⟩:=nu.ex;have f6:=Paired.length pk;have nk:=C6i pk u.nn;refine i02 _ (@RS.r _ _ _ (rq1 ⟨@A6k _ _ _ _ _ _ _ _ _ hu (pv 3) (A1c (pv 0) rfl) C2o rfl⟩ (rq3 (rq7 (A2c (pcl Ge9 hr T.cz (A0a (A1c (pv 0) rfl) (A0a (pv 2) A0c)))) (A0k (i:=5) A7a.nd rfl (.inl rfl)) (rq1 (rq6 6 A7a.nd A0d) (rq1 (rq7 (A2c (pcl Ge9 hr T.cz (A0a (pv 1) (A0a (pv 2) A0c)))) (A0k (i:=7) A7a.nd rfl (.inl rfl)) (rq1 (rq6 8 A7a.nd (C5a rfl (by rfl) T.kq (by rfl) T.AL (A0a (A0j B0b (A1c (pv 0) rfl) (pv 1)) (A0a (A0j B7c (pv 5) (pv 7)) A0c)))) (rq3 (rq6 6 A7a.nd (A0j A2h (pv 6) (pcl Ge7 hr T.eh (A0a (A1c (pv 0) rfl) (A0a (pv 8) (A0a (pv 2) (A0a (pv 3) (A0a (pv 4) A0c))))))))))) (rq3 ⟨@A6k _ _ _ _ _ _ _ _ _ hu (A2u hu (pv 3) (A1c (pv 0) rfl) (λ_ _=>rfl)) (pv 5) (A0j A1j (pv 6) (pv 4)) rfl⟩))))))) ?_;refine λq hq=>(i02 _ rfl (i19 _ rfl a _ dx _ _ rfl (A0e hq _ _ (A0m _ _ ha)) cl b0 lk1 (i0f X _ rfl (C0g.k (k:=Sum.inr e.1) (A0e hq _ _ a7) (A1l (by lia))) ?_)));rw [B5v nk]
  have s0:A0u (A0s (λb=>b≠X) H) (upd (upd H q (.dT [])) X (.dK (kk++[(Sum.inr e.1,.ref q)]))):=λb o z=>by
   obtain ⟨z1,z2⟩:=A0l z;rw [A0i z1];exact A0e hq _ _ z2
  have c8:B0c I e.2.1:=λy hy=>u.dk y (u.sub y (Z07.mpr (.inl hy)));have e3:B0c I e.2.2.1:=λy hy=>u.dk y (u.sub y (Z07.mpr (.inr hy)));have pa:=u.pa;have ps:=u.ps;have la:=u.la;have e6:=u.ls;have U:=A0h (S:=λb=>b≠X) d8 hd;have a1:=A0h (S:=λb=>b≠X) (A3m b6 a7 (by intro z;cases z)) b6;refine i19 _ rfl a _ dx _ _ rfl (s0 _ _ ha) cl b7 b1 (i15 _ rfl ca d e.2.1 I rfl (s0 _ _ d0) (s0 _ _ U) c8 (by lia) ⟨la,λqc H2 f7 s2 c2=> ?_⟩);obtain ⟨c9,a2,a5⟩:=c2.ex
  have f4:=B4o (L:=lnL I) (ys:=e.2.1) λy hy=>by
   obtain ⟨m,z,m1,_⟩:=c8 y hy;rw [A6v z];exact m1
  have f3:=Paired.length a5;obtain ⟨B,M⟩:=D8o.of hq a7 pk nk s2;have c7:=M.k a2 (by intro x z;cases z) (by intro x z;cases z);have e5:A4l B c9 (A1v (lnL I) e.2.1):=a5.imp λp xs z=>M.k z (by intro x z;cases z) (by intro x z;cases z);have a6:=M.g _ _ ha;have d3:=M.g _ _ d0;have d5:=ob.imp M.g;have U:=M.g _ _ U;have a1:=M.g _ _ a1;clear s0 s2 c2 a5;refine i06 qc rfl ⟨_,SqL.of a2⟩ (A2l (K:=K) (a:=qc) (xs:=c9.map V.ref) (λi Z G=>∃(o5 o6 o7 o8:Option V) (l:List (List Int×Int)),Z=[Sro a,Sro sl,Sro d,Sro X,Sio W,o5,o6,o7,o8]/\A0u B G/\G X=some (.dK (kk++[(Sum.inr e.1,.ref q)]))/\G q=some (.dT (B7o l))/\l.map (·.1)=(A1v (lnL I) e.2.1).take i/\(∀c∈(A1v (lnL I) e.2.1).take i,B4u (lnL I) W (D++[(e.1,l)]) e c)/\BdD W (D++[(e.1,l)])) (i14 none none none none [] rfl M.s M.e1 M.e2 rfl ⟨(λc Y=>by cases Y),bd.snoc λx hx=>by cases hx⟩) (by rintro i Z G _ ⟨_,_,_,_,_,_,s,_⟩;exact SqL.of (s _ _ c7)) ?_ ?_)
  ·rintro i y Z G hi ⟨o5,o6,o7,o8,l,rfl,sG,R,gq,kc,O,a0⟩;obtain ⟨pc,e4,rfl⟩:=A6l hi;obtain ⟨c,Y,c4⟩:=e5.get e4;have a9:=A4b.mp (Z13 Y);have e8:=A5n a9
   have c1:∀t,inC (lnL I) e.2.2.1 t->A1y (lnL I) (okC (prD (D++[(e.1,l)]))) (okC (prD (D++[(e.1,l)]))) (A5y (e.2.1++e.2.2.1) (c++t)) e.2.2.2:=λt ht=>u.sf c a9 t ht _ (by rintro a d ⟨v,z⟩;exact ⟨v,Ext.new u.nn a d v z⟩) λd hd ah=>by
    obtain ⟨v,z⟩:=D3g kc (C5q Y hd ah);exact ⟨v,by rw [B7m u.nn,Z12 rfl];exact z⟩
   have e9:=M.num sG R gq;refine i1b _ rfl _ rfl sl d e.2.2.1 I rfl (sG _ _ a1) (sG _ _ U) e3 (by lia) ⟨e6,λq2 G3 f5 s3 c3=> ?_⟩;obtain ⟨f0,b8,c0⟩:=c3.ex;have f1:=Paired.length c0;refine i06 q2 rfl ⟨_,SqL.of b8⟩ (A2l (K:=K) (a:=q2) (xs:=f0.map V.ref) (λj Z F=>∃(o7 o8:Option V),Z=[Sro a,Sro sl,Sro d,Sro X,Sio W,Sro pc,some (.int (B2y (λt=>A3l (lnL I) W (Nm (D++[(e.1,l)])) (A5y (e.2.1++e.2.2.1) (c++t)) e.2.2.2) ((A1v (lnL I) e.2.2.1).take j))),o7,o8]/\A0u G3 F) (i07 _ _ rfl (A0u.refl _)) (by rintro j Z F _ ⟨_,_,_,s⟩;exact SqL.of (s _ _ b8)) ?_ ?_)
   ·rintro j y Z F hj ⟨o7,o8,rfl,sF⟩;obtain ⟨d1,b3,rfl⟩:=A6l hj;obtain ⟨c2,d4,b9⟩:=c0.get b3;have a3:=A4b.mp (Z13 d4);have e0:=A5n a3;have N:=s3.trans sF;have J:=sG.trans N;refine i19 _ rfl a _ dx _ _ rfl (J _ _ a6) cl b7 b1 (i15 _ rfl ca sl _ _ rfl rfl (J _ _ d3) (J _ _ a1) (A2a (by simp;lia)) λcc f2=> ?_);have s5:=A0e (o:= .lst (e.2.1.map V.str++e.2.2.1.map V.str)) f2;have h5:upd F cc (.lst (e.2.1.map V.str++e.2.2.1.map V.str)) cc=some (.lst (e.2.1.map V.str++e.2.2.1.map V.str)):=A0b;generalize upd F cc (.lst (e.2.1.map V.str++e.2.2.1.map V.str))=F5 at s5 h5;refine i1b _ rfl _ rfl pc d1 _ _ rfl rfl (s5 _ _ (J _ _ c4)) (s5 _ _ (sF _ _ b9)) (A2a (by simp;lia)) λpz F6 s6 a8=> ?_;have ek:e.2.1.map V.str++e.2.2.1.map V.str=((e.2.1++e.2.2.1).map (Sum.inr:Str->Key)).map kV:=by rw [List.map_map,Z0s];rfl
    have eu:c.map V.int++c2.map V.int=(c++c2).map V.int:=by rw [Z0s]
    rw [ek] at h5;rw [eu] at a8;have lz:(c++c2).length=(e.2.1++e.2.2.1).length:=by rw [Z06,Z06,e8,e0]
    refine i0y cc pz ((e.2.1++e.2.2.1).map Sum.inr) ((c++c2).map V.int) rfl (SqL.of (s6 _ _ h5)) (SqT.of a8) (by rw [Z08,Z08,lz]) λdd d7=> ?_;have s7:=A0e (o:= .dK (A4g [] (((e.2.1++e.2.2.1).map (Sum.inr:Str->Key)).zip ((c++c2).map V.int)))) d7;have d2:=E2b (m:=200) u.nd lz (by rw [Z06];lia) (A0b (H:=F6) (a:=dd) (o:= .dK (A4g [] (((e.2.1++e.2.2.1).map (Sum.inr:Str->Key)).zip ((c++c2).map V.int)))));generalize upd F6 dd (.dK (A4g [] (((e.2.1++e.2.2.1).map (Sum.inr:Str->Key)).zip ((c++c2).map V.int))))=F7 at s7 d2;have b4:=s5.trans (s6.trans s7);have b2:=N.trans b4;have a4:=sG.trans b2;have gd:=u.d;refine i02 _ rfl (i19 _ rfl a _ dx _ _ rfl (a4 _ _ a6) cl e7 d6 (i0e _ rfl _ rfl (i0e _ rfl _ rfl (i11 nv dd d X W e.2.2.2 (e.2.1++e.2.2.1) nm (A5y (e.2.1++e.2.2.1) (c++c2)) (i0r I (D++[(e.1,l)]) 200 rfl ⟨d5.imp a4,d2,a4 _ _ U,e9.same b2,w0,w1,a0,u.w,u.ti,u.dk,by lia,c1 c2 a3⟩ (by lia) λF8 s8=>(i07 _ _ rfl (i0b rfl (some (.ref d1)) (some (.ref dd)) ?_ (sF.trans (b4.trans s8)))))))))
    have es:∀f:List Int->Int,B2y f ((A1v (lnL I) e.2.2.1).take (j+1))=B2y f ((A1v (lnL I) e.2.2.1).take j)+f c2:=λf=>by
     rw [Z14,d4,B2k];show _+(f c2+0)=_;rw [Int.add_zero]
    rw [es];rfl
   ·rintro Z F ⟨o7,o8,rfl,sF⟩;rw [Z08,f1,Z18];have N:=s3.trans sF;have J:=sG.trans N;have dg:=C9z M.nk (N _ _ R);have d9:=N _ _ gq
    have c5:c∉l.map (·.1):=by
     rw [kc];intro z;have n2:=(B6c (L:=lnL I) e.2.1).sublist (Z2o (i+1) _);rw [Z14,Y] at n2;exact (Z0l.mp n2).2.2 c z c (by simp) rfl
    have b5:l.length<300000:=by
     have z:=congrArg List.length kc;rw [Z08,Z0x] at z
     lia
    refine i0w _ rfl _ rfl _ _ rfl rfl (i05 w0 _ rfl (i19 _ rfl a _ dx _ _ rfl (J _ _ a6) cl b0 lk1 (i0f X _ rfl dg (i0o _ rfl _ _ rfl (C4d d9 (J _ _ c4) c5 b5) ?_))));refine i14 _ _ _ _ (l++[(c,C8b (lnL I) W (Nm (D++[(e.1,l)])) e c)]) rfl (A0o J M.n) (by rw [A0i M.ne];exact N _ _ R) A0b ?_ ⟨?_,?_⟩
    ·rw [Z0s,kc,Z14,Y];rfl
    ·intro c' c6;rw [Z14,Y] at c6;rcases Z07.mp c6 with z | z
     ·exact (O c' z).ext (Ext.cell u.nn)
     ·rw [Z0w.mp z];exact B4u.mk2 u.nn c5 λt ht=>c1 t (A4b.mp ht)
    ·refine bd.snoc λx hx=> ?_;rcases Z07.mp hx with z | z
     ·exact a0 (e.1,l) (Z07.mpr (.inr (.head _))) x z
     ·rw [Z0w.mp z];exact ⟨Z1v _ (by lia),Z1p _ w0⟩
  ·rintro Z G ⟨o5,o6,o7,o8,l,rfl,sG,R,gq,kc,O,a0⟩;rw [Z08,f3,Z18] at kc O;exact k l G (λb o hb z=>sG _ _ (M.g _ _ (A0h hb z))) (M.num sG R gq) kc (λc Y=>O c (A4b.mpr Y)) a0
theorem B2b.same (h:B2b H p ax tb ls) (s:A0u H H'):B2b H' p ax tb ls:=by
 refine e0e h.ob ?_;rintro k d q j f b c o ⟨e,m,n,i,g,u,v⟩;exact ⟨(i08 k d q (i14 j f b c o (s _ _ e) (s _ _ m) (s _ _ n) (Paired.mapP i λ_ _ z=>z.same s) (s _ _ g) ⟨Paired.mapP u λ_ _ z=>z.same s,s _ _ v⟩)),h.hx,h.t,h.l,h.ok,h.sf,h.nd,h.ng,h.pb,λa r z=>h.wp a r (by rw [s _ _ e] at z;rw [e];exact z)⟩
theorem E2m.lt {e:Lt} (h:E2m lk e):D7p e:=⟨h.l1,by have:=h.l3;lia,λx a=>(h.n x a).1,h.w,by have:=h.d;lia,h.k⟩
theorem B2b.pr (h:B2b H p ax tb ls) (d:os.length<=100):D9q ax tb ls os:=by
 obtain ⟨_,_,_,_,_,_,_,_,_,_,_,b,_⟩:=h.ob;refine ⟨h.hx.2.2.1,⟨by have:=h.hx.2.2.2;rw [Z08];lia,λx c=>(h.hx.2.1 x c).1⟩,by have:=h.t;lia,λe a=> ?_,h.l,λe a=>(h.ok e a).lt,d⟩;obtain ⟨x,q,f,_,_,_,_,g,_⟩:=E0x b e a
 lia
theorem B2b.dk (h:B2b H p ax tb ls):B0c (A2g ax) (ax.map (·.1)):=by
 obtain ⟨e,d,i,j,f,a,b,o,g,c,_⟩:=h.ob;exact (E0v c h.hx).dk
theorem B2b.axs (h:B2b H p ax tb ls) (n:ys.Nodup) (a:∀x∈ys,x∈ax.map (·.1)):A3n (lnL (A2g ax)) ys<=8000:=by
 refine Int.le_trans (C3m n a λx b=> ?_) (D7s h.hx h.pb);obtain ⟨m,e,c,_⟩:=h.dk x b;rw [A6v e];exact c
abbrev esU (tb:List (Str×List Str)) (zs:List Ln):List (Str×List Str):=tb++zs.map λe=>(e.1,e.2.1)
section
variable {H:Hp} {p:Addr} {ax:List (Str×Int)} {tb:List (Str×List Str)} {ls:List Lt}
theorem B2b.kn (h:B2b H p ax tb ls):KnC (A2g ax) (ax.map (·.1)):=by
 refine ⟨λx a e=> ?_,λx a=> ?_,h.hx.2.2.1⟩
 ·have:=(h.hx.2.1 x a).2;rw [e] at this;exact absurd this (by decide)
 ·obtain ⟨m,e,b,_⟩:=h.dk x a;rw [A6v e];exact b
theorem B2b.du (h:B2b H p ax tb ls):DuI (A2g ax) tb ls (duP (ax.map (·.1)) ls):=by
 have:=E0y h.kn h.sf (Z0l.mp h.nd).2.1 (λx a=>h.ng x (Z07.mpr (.inr a))) ls.length (Z09 _);rw [Z18] at this;exact this
theorem B2b.lnn (h:B2b H p ax tb ls):∀e∈C2z ax ls,LnN (ax.map (·.1)) e:=by
 have:=E0r h.hx.2.2.1 h.sf ls.length (Z09 _);rw [Z18] at this;exact this
theorem B2b.nms (h:B2b H p ax tb ls):(tb.map (·.1)++(C2z ax ls).map (·.1)).Nodup:=by
 obtain ⟨f,i,d⟩:=Z0l.mp h.nd;refine Z0l.mpr (i00 f h.du.nm.nd λa c b g e=> ?_);rcases h.du.nm.ex b g with ⟨k,_,z⟩ | z
 ·exact D6x k (z▸e▸h.ng a (Z07.mpr (.inl c)))
 ·exact d a c b z e
end
abbrev GvP (H:Hp) (p:Key×V) (g:Str×List Int):Prop:=p.1=Sum.inr g.1/\∃r,p.2= .ref r/\H r=some (.lst (g.2.map V.int))
structure D5b (H:Hp) (gd:Addr) (gs:List (Str×List Int)):Prop where
 ex:∃kk:List (Key×V),H gd=some (.dK kk)/\Paired (GvP H) kk gs
theorem GvP.same (s:A0u H H') (h:Paired (GvP H) kk gs):Paired (GvP H') kk gs:=Paired.mapP h (by rintro _ _ ⟨a,r,b,c⟩;exact i05 a r b (s _ _ c))
theorem D5b.same {a:Addr} (h:D5b H a gs) (s:A0u H H'):D5b H' a gs:=by
 obtain ⟨b,e,p⟩:=h.ex;exact ⟨b,s _ _ e,GvP.same s p⟩
theorem C1y {H:Hp}:∀{kk:List (Key×V)} {gs:List (Str×List Int)},Paired (GvP H) kk gs->kk.map (·.1)=(gs.map (·.1)).map Sum.inr
 | _,_,.nil=>rfl
 | _,_,.cons r t=>by rw [Z0p,Z0p,Z0p,r.1,C1y t]
theorem D5b.get {l:Addr} (h:D5b H l gs) (n:(gs.map (·.1)).Nodup) {g:Str×List Int} (o:gs[i]? =some g):∃r,A9e H l (.str g.1) (some (.ref r))/\H r=some (.lst (g.2.map V.int)):=by
 obtain ⟨e,q,p⟩:=h.ex;have u:=Paired.length p;have t:=(Z03.mp o).1;have d:e[i]? =some e[i]:=Z0b (by lia);obtain ⟨f,m,a,r,b,c⟩:=B3z p d;rw [o] at m;cases m;refine i02 r ?_ c;have s:(e.map (·.1)).Nodup:=by rw [C1y p];exact n.map (f:=(Sum.inr:Str->Key)) λa b j z=>j (Sum.inr.inj z)
 have v:=C3l (k:=Sum.inr g.1) (v:= .ref r) s (by rw [d,<-a,<-b]);have g:=A9e.k (H:=H) (a:=l) (k:=Sum.inr g.1) q;rw [v] at g;exact g
abbrev D3u (L:Str->Int):List (Str×List Int)->List (Str×List Str)->Prop:=Paired λg e=>g.1=e.1/\g.2.length=(A1v L e.2).length
theorem D3u.names {L:Str->Int}:∀{gs:List (Str×List Int)} {tb:List (Str×List Str)},D3u L gs tb->gs.map (·.1)=tb.map (·.1)
 | _,_,.nil=>rfl
 | _,_,.cons r t=>by rw [Z0p,Z0p,r.1,D3u.names t]
theorem C7f (l:ys.length<=3) (h:B0c lk ys):A3n (lnL lk) ys<=216000:=by
 have e:=C0l (L:=lnL lk) (M:=60) (by decide) (xs:=ys) λy c=>by
  obtain ⟨m,z,a,d⟩:=h y c;rw [A6v z];exact ⟨a,d⟩
 have b:∀n:Nat,n<4->(60:Int)^n<=216000:=by decide
 exact Int.le_trans e (b _ (by lia))
theorem D4m (h:B0c lk ys):((A1v (lnL lk) ys).length:Int)=A3n (lnL lk) ys:=B4o λy b=>by
 obtain ⟨m,z,a,_⟩:=h y b;rw [A6v z];exact a
def B4v:Sp:=λf H Q _=>∃(p:Addr) (g:Int) (c:List (Str×Int)) (e:List (Str×List Str)) (h:List Lt),f=[.ref p,.int g]/\B2b H p c e h/\∀(d:Addr) (b:List (Str×List Int)) (a:Hp),A0u H a->D5b a d b->D3u (lnL (A2g c)) b e->Q (.ref d) a
theorem B5f (T:Txt K mg t):FO P w base T.iz 2 B4v:=by
 have Ge9:= @A7v P w K mg base t T;have Gc7:= @A6w P w K mg base t T;refine T.iz.F.ok A1g (by walk_at "ln") λ_ A _ s H _ Q E hr h=> ?_
 ·obtain ⟨p,sd,ax,tb,ls,rfl,pg,k⟩:=h;have hu:=A8b hr;refine e0e pg.ob ?_;rintro wh d tl ll ol a4 b1 o0 ⟨hp,hd,a0,R,b3,b4,b2⟩;have a7:=Paired.length R;have t6:=pg.t;refine i02 _ (@RS.r _ _ _ (rq1 ⟨A9g (pv 0) (A3v (n:=5) rfl (A0r (A0k (i:=2) A1g.nd rfl (.inl rfl)) (A0r (A0k (i:=3) A1g.nd rfl (.inl rfl)) (A0r (A0k (i:=4) A1g.nd rfl (.inl rfl)) (A0r (A0k (i:=5) A1g.nd rfl (.inl rfl)) (A0r (A0k (i:=6) A1g.nd rfl (.inl rfl)) A2p))))))⟩ (rq1 (rq6 7 A1g.nd B2p) (rq1 (rq6 8 A1g.nd (A0j A1o (pv 1) A0d)) (rq1 (rq7 (A2c (pv 4)) (A3v (n:=2) rfl (A0r (A0k (i:=9) A1g.nd rfl (.inl rfl)) (A0r (A0k (i:=10) A1g.nd rfl (.inl rfl)) A2p))) (rq1 (rq6 11 A1g.nd (@A1r _ _ _ _ A0c)) (rq1 (rq7 (A2c (pcl Ge9 hr T.cz (A0a (pv 10) (A0a (pv 3) A0c)))) (A0k (i:=12) A1g.nd rfl (.inl rfl)) (rq1 (rq6 13 A1g.nd (A0j A1j (pv 8) (A0j A3p (A0j A6e A0d (A0j A7e A0d A0d)) A0d))) (rq1 (rq6 8 A1g.nd (A0j C3f (pv 8) (A0j A3p (A0j A6e A0d (A0j A7e A0d A0d)) A0d))) (rq2 (rq4 (A0p A3d (A0j A1j (pv 1) A0d) A0d (A1b _)) (rq1 (rq6 13 A1g.nd (A0j A1o (pcl Gc7 hr T.e8 (A0a (pv 1) (A0a (A0j A2h (A0q A0y (by rfl) T.ce Z0r (A0a (pv 11) A0c)) (A0j A6e A0d (A0q C8g (by rfl) T.ce Z0r (A0a (pv 7) A0c)))) A0c))) (A0j A7e A0d A0d))) (rq3 (rq6 13 A1g.nd (A0j A1j (A0j A1o (pv 13) A0d) (A1f A1n (@A1r _ _ _ _ (A0a A0d (A0a (A0j A3p (A0j A6e A0d (A0j A7e A0d A0d)) A0d) A0c))) (A0j A1j (pv 13) A0d) (λ_ _=>rfl)))))) ⟨A0x⟩) (rq3 ⟨A2r (A7c Z0k Z0n Z0o A2e (pv 11) (A0a (A1f A1n (@A1r _ _ _ _ (A0a (A0j A1o (pv 13) A0d) (A0a (A0j A3p (B7k B0p A0d) (A0j A1o (pv 13) A0d)) A0c))) (A0j A1j (pv 13) A0d) (λ_ _=>rfl)) A0c))⟩))))) (rq3 ⟨@A6k _ _ _ _ _ _ _ _ _ hu (pv 7) (pv 9) (pv 11) rfl⟩)))) (rq3 (rq5 (pv 7)))))))) ?_;refine i0o _ rfl p _ rfl (SqT.of hp) (i0b rfl _ _ rfl (i03 _ _ (i0b rfl _ _ rfl ⟨_,(i0o _ rfl _ _ rfl rfl ?_)⟩)));refine λc C=> ?_;have s0:=A0e (o:= .dK []) C;have h0:upd H c (.dK []) c=some (.dK []):=A0b;generalize upd H c (.dK [])=H0 at s0 h0;refine i0s _ rfl _ _ rfl rfl ⟨by decide,by decide⟩ ?_;refine i0k _ rfl tl rfl ⟨_,SqL.of (s0 _ _ a0)⟩ ?_;refine A2l (K:=K) (a:=tl) (xs:=a4) (λi Z G=>∃(u:Int) (o9 J L l g:Option V) (q:List (Key×V)) (D:List (Str×List Int)),Z=[Sro p,Sio sd,Sio wh,Sro d,Sro tl,Sro ll,Sro ol,Sro c,Sio u,o9,J,L,l,g]/\A0u H G/\G c=some (.dK q)/\Paired (GvP (A0s (λb=>b≠c) G)) q D/\D3u (lnL (A2g ax)) D (tb.take i)) (i08 _ none none ⟨none,(i0y none none [] [] rfl s0 h0 .nil .nil)⟩) (by rintro i Z G _ ⟨_,_,_,_,_,_,_,_,_,s,_⟩;exact SqL.of (s _ _ a0)) ?_ ?_
  ·rintro i x Z G hx ⟨u,o9,J,L,l,g,q,D,rfl,O,U,S,M⟩;refine B3x ?_;intro D';obtain ⟨e,he,qe,al,rfl,e1,e2,_,e3,_,e4⟩:=B3z R hx;have i6:i<tb.length:=(Z03.mp he).1;have b5:D.length=i:=by have:=Paired.length M;rw [Z0x] at this;lia
   have b6:=Paired.length S;refine i1a qe _ rfl (SqT.of (O _ _ e1)) rfl _ _ rfl _ _ rfl rfl ?_;refine ⟨A0v rfl,λm X=> ?_⟩;have s1:=A0e (o:= .lst []) X;have h1:upd G m (.lst []) m=some (.lst []):=A0b;generalize upd G m (.lst [])=G1 at s1 h1;have Y:=O.trans s1;have pe:=C7f e3 e4;refine i1b _ rfl _ rfl al d e.2 (A2g ax) rfl (Y _ _ e2) (Y _ _ hd) e4 pe ⟨by lia,λqc G2 a3 s2 cc=> ?_⟩;obtain ⟨ps,a2,tp⟩:=cc.ex;have a8:=Paired.length tp;have a9:=D4m e4;have a6:=s1.trans s2;refine i06 qc rfl ⟨_,SqL.of a2⟩ (A2l (K:=K) (a:=qc) (xs:=ps.map V.ref) (λj Z F=>∃(u:Int) (l g:Option V) (N:List Int),Z=[Sro p,Sio sd,Sio wh,Sro d,Sro tl,Sro ll,Sro ol,Sro c,Sio u,Sso e.1,Sro al,Sro m,l,g]/\A0u G F/\F qc=some (.lst (ps.map V.ref))/\F m=some (.lst (N.map V.int))/\N.length=j) (i0y _ _ _ [] rfl a6 a2 (s2 _ _ h1) rfl) (by rintro j Z F _ ⟨_,_,_,_,_,_,s,_⟩;exact SqL.of s) ?_ ?_)
   ·rintro j y Z F hj ⟨u,l,g,N,rfl,B,W,f,lz⟩;have j1:j<ps.length:=by have:=(Z03.mp hj).1;rw [Z08] at this;exact this
    have I:(0:Int)<2*10^(60:Int).toNat-1:=by decide +kernel
    have a5:((2:Int)*10^(60:Int).toNat-1).natAbs<2^4000:=by decide +kernel
    refine i18 _ rfl _ _ rfl rfl (i00 (by decide) (by decide) (by decide)) _ _ rfl rfl (.inl ⟨by decide,by decide⟩) (i0f _ _ rfl rfl (i0m _ _ rfl rfl I ?_));refine i18 _ rfl _ _ rfl rfl (i00 (by decide) (by decide) (by decide)) _ _ rfl rfl (.inl ⟨by decide,by decide⟩) (i0f _ _ rfl rfl (i0m _ _ rfl rfl ⟨I,a5⟩ ?_));refine i02 (λZ F'=>∃n:Int,Z=[Sro p,Sio sd,Sio wh,Sro d,Sro tl,Sro ll,Sro ol,Sro c,Sio (u/(2*10^(60:Int).toNat-1)),Sso e.1,Sro al,Sro m,some y,Sio n]/\A0u F F') ?_ ?_
    ·refine i0o _ rfl _ _ rfl rfl (i0a D6i rfl _ rfl (D3c (λ_=> ?_) (λ_=>(i02 _ rfl (A0u.refl _)))));refine i0w _ rfl _ rfl m _ rfl (.inl (SqL.of f)) (i0o _ rfl c q rfl (B _ _ U) (i0f _ _ rfl rfl (i0i (.inl ⟨by decide,by decide⟩) _ _ rfl rfl (i0m sd _ rfl (by lia) (by rw [Z08];lia) λr=> ?_))));refine i0m _ _ rfl rfl (i00 (by decide) (by decide) (by decide)) (i0m _ _ rfl rfl ⟨by decide +kernel,by decide +kernel⟩ ?_)
     obtain ⟨b,b0,eb⟩:∃b:Int,0<b/\atI [V.int 21,V.int (2*10^(60:Int).toNat-1)] (r/10^(6:Int).toNat%2)=some (.int b):=by
      rcases Int.emod_two_eq (r/10^(6:Int).toNat) with e | e <;> rw [e]
      ·exact i02 21 (by decide) rfl
      ·exact i02 _ I rfl
     refine i18 _ rfl _ _ rfl rfl ⟨by decide,by decide⟩ _ _ rfl rfl (i00 (by decide) (by decide) (by decide)) (i0m _ _ rfl rfl (.inl ⟨by decide,by decide⟩) (i0m _ _ rfl rfl (A0v rfl) λzl v=>(i0s _ rfl _ _ rfl rfl D6i (i0y zl _ _ _ rfl rfl (SqL.of A0b) eb (i07 _ _ rfl (i0a rfl b0 _ rfl (A0e v)))))))
    ·rintro Z F' ⟨n,rfl,a1⟩
     obtain ⟨b,eb⟩:∃b:Int,atI [V.int (n/2),V.int (-1-n/2)] (n%2)=some (.int b):=by
      rcases Int.emod_two_eq n with e | e <;> rw [e]
      ·exact ⟨_,rfl⟩
      ·exact ⟨_,rfl⟩
     refine i06 _ rfl (.inl (i01 rfl _ (SqL.of (a1 _ _ f)))) (i0o _ rfl _ _ rfl rfl (i05 ⟨by decide,by decide⟩ _ rfl (i18 _ rfl _ _ rfl rfl ⟨by decide,by decide⟩ _ _ rfl rfl (A0v rfl) λzl v=>(i0s _ rfl _ _ rfl rfl D6i (i0y zl _ _ _ rfl rfl (SqL.of A0b) eb ?_)))));have sz:=a1.trans (A0e (o:= .lst [V.int (n/2),V.int (-1-n/2)]) v);refine i0u m _ _ rfl rfl (sz _ _ f) (A1l (by rw [Z08];lia)) ?_;have qr:qc≠m:=λz=>by rw [z,h1] at a3;cases a3
     refine i0y _ _ _ (N++[b]) rfl (A0o (B.trans sz) X) (by rw [A0i qr];exact sz _ _ W) (by rw [A0b,Z0s];rfl) (by simp [lz])
   ·rintro Z F ⟨u,l,g,N,rfl,B,W,f,lz⟩;rw [Z08,a8] at lz
    have nk:(Sum.inr e.1:Key)∉q.map (·.1):=by
     rw [C1y S,M.names];intro z;obtain ⟨y,hy,ey⟩:=Z2c.mp z;have n2:=((Z0l.mp pg.nd).1).sublist ((Z2o (i+1) tb).map (·.1));rw [Z14,he,Z0s] at n2;exact (Z0l.mp n2).2.2 y hy e.1 (by simp) (Sum.inr.inj ey)
    refine i12 _ rfl _ rfl _ rfl c _ rfl (C0g.k (k:=Sum.inr e.1) (B _ _ U) (A1l (by lia))) ?_;have rm:m≠c:=λz=>by rw [z,B _ _ U] at f;cases f
    have b7:H c=none:=C;have sR:A0u (A0s (λb=>b≠c) G) (A0s (λb=>b≠c) (upd F c (.dK (A7z q (Sum.inr e.1) (.ref m))))):=A2i (A0g B) λz=>z rfl;rw [B5v nk] at sR⊢;refine i08 _ _ _ ⟨_,(i0y _ _ (q++[(Sum.inr e.1,.ref m)]) (D++[(e.1,N)]) rfl (A0o (O.trans B) C) A0b (B2i (GvP.same sR S) (.cons (i05 rfl m rfl (A0h rm (by rw [A0i rm];exact f))) .nil)) ?_)⟩;rw [Z14,he];exact B2i M (.cons ⟨rfl,lz⟩ .nil)
  ·rintro Z G ⟨u,o9,J,L,l,g,q,D,rfl,O,U,S,M⟩;rw [a7,Z18] at M;exact i02 _ rfl (k c D G O ⟨q,U,GvP.same A0m S⟩ M)
theorem B8h {L:Str->Int} {pr:PrP} {u:Tm}:∀{s:List Str} {ρ:Env},(∀t,inC L s t->A1y L (okC pr) (okC pr) (C6e ρ s t) u)->A1y L (okC pr) (okC pr) ρ (B4k s u)
 | [],_,h=>h [] True.intro
 | _::_,_,h=>λi c a=>B8h λt b=>h (i::t) ⟨⟨c,a⟩,b⟩
theorem LtS.ti {nm:List Str} {e:Lt} (h:LtS lk nm es e):A6o nm e.2.1 e.2.2/\e.2.1.Nodup/\∀x∈e.2.1,x∈nm:=by
 obtain ⟨d,u,g,b,a,f⟩:=h.ex;exact i00 (by rw [g];exact B7b f.ti b λx c=>a x (Z07.mpr (.inr c))) ((Z0l.mp b).1) λx c=>a x (Z07.mpr (.inl c))
theorem D1s {ax s:List Str} {t:List Int} (h:∀x∈ax,x∉s):ax.map (C6e ρ s t)=ax.map ρ:=List.map_congr_left λx a=>A4s (h x a)
theorem B6t {nm xs:List Str} (d:∀x∈nm,¬x=("":Str)) (a:∀x∈xs,x∈nm) (b:inC L xs c):InR L xs (A5y xs c):=⟨B1q λz=>d _ (a _ z) rfl,C9n b⟩
theorem C9w {nm:List Str} {e:Lt} (o:KnC lk nm) (h:LtS lk nm es e) (q:inC (lnL lk) e.2.1 c) {pr:PrP} (h1:∀f∈es,∀d,inC (lnL lk) f.2 d->pr f.1 d) (h2:∀d,inC (lnL lk) e.2.1 d->A6u d c->pr e.1 d):A1y (lnL lk) (okC pr) (okC pr) (A5y e.2.1 c) e.2.2:=by
 obtain ⟨k,u,w,m,j,C⟩:=h.ex;obtain ⟨v,D,B⟩:=Z0l.mp m;rw [w];refine B8h λt y=> ?_;have s:=B6t (L:=lnL lk) o.n (λx l=>j x (Z07.mpr (.inl l))) q;have A:=C2j s (λz=>o.n _ (j _ (Z07.mpr (.inr z))) rfl) D y;have r:e.2.1.map (C6e (A5y e.2.1 c) k t)=c:=by rw [D1s λx l z=>B x l x z rfl,C2c v (A5n q)]
 refine A9x (okn:=okA (lnL lk) es) (by rintro ρ a d ⟨f,b,i,g⟩;exact i▸h1 f b d g) (λa d z=> ?_) (C.sf _ A);rcases z with ⟨f,b,i,g⟩ | ⟨f,b,i,g,p⟩
 ·exact i▸h1 f b d g
 ·cases b
  rw [i];rw [r] at p;exact h2 d g p
abbrev ltL (e:Lt):Ln:=(e.1,e.2.1,[],e.2.2)
structure StI (L:Str->Int) (W:Int) (tb:List (Str×List Str)) (D0:Dt) (rs:List Ln) (D:Dt):Prop where
 nm:D.map (·.1)=tb.map (·.1)++rs.map (·.1)
 cov:∀f∈esU tb rs,∀d,inC L f.2 d->prD D f.1 d
 good:∀e∈rs,∀c,inC L e.2.1 c->B4u L W D e c
 ext:Ext D0 D
 bd:BdD W D
 row:∀e∈rs,∃cur,luA D e.1=some cur/\cur.map (·.1)=A1v L e.2.1
theorem StI.snoc {rs:List Ln} {e:Ln} (h:StI L W tb D0 rs D) (l:e.1∉D.map (·.1)) (n:cur.map (·.1)=A1v L e.2.1) (j:∀c,inC L e.2.1 c->B4u L W (D++[(e.1,cur)]) e c) (b:BdD W (D++[(e.1,cur)])):StI L W tb D0 (rs++[e]) (D++[(e.1,cur)]):=by
 have x:Ext D (D++[(e.1,cur)]):=Ext.new l;refine ⟨by rw [Z0s,Z0s,h.nm,Z0z];rfl,λf a d i=> ?_,λf a c g=> ?_,h.ext.trans x,b,λf a=> ?_⟩
 ·unfold esU at a;rw [Z0s,<-Z0z] at a;rcases Z07.mp a with a | a
  ·obtain ⟨v,z⟩:=h.cov f a d i;exact ⟨v,x _ _ _ z⟩
  ·rw [Z0w.mp a] at i⊢;exact ⟨_,(j d i).v⟩
 ·rcases Z07.mp a with a | a
  ·exact (h.good f a c g).ext x
  ·rw [Z0w.mp a] at g⊢;exact j c g
 ·rcases Z07.mp a with a | a
  ·obtain ⟨k,m,o⟩:=h.row f a;exact i02 k (by rw [B4d,m];rfl) o
  ·rw [Z0w.mp a];exact i02 cur (by rw [B4d,B2j l,C0t,Z12 rfl];rfl) n
theorem C9p {L:Str->Int}:∀{xs:List Str} {P:List Int->Prop},(∀c,inC L xs c->(∀d,inC L xs d->A6u d c->P d)->P c)->∀c,inC L xs c->P c
 | [],P,h,[],hc=>h [] hc λd _ b=>by cases d <;> exact b.elim
 | x::xs,P,h,c::a,hc=>by
  have g:∀(n:Nat) (a:List Int),(n:Int)<L x->inC L xs a->P ((n:Int)::a):=by
   intro n
   induction n using Nat.strongRecOn with
   | ind n ih =>
    intro a j e;refine C9p (P:=λa=>P ((n:Int)::a)) (λa e i=>h _ ⟨⟨by lia,j⟩,e⟩ λd f b=> ?_) a e
    cases d with
    | nil=>exact b.elim
    | cons d ds =>
     rcases b with b | ⟨rfl,b⟩
     ·have:=ih d.toNat (by have:=f.1;lia) ds (by have:=f.1;lia) f.2;rw [Int.toNat_of_nonneg f.1.1] at this;exact this
     ·exact i ds f.2 b
  have:=g c.toNat a (by have:=hc.1;lia) hc.2;rw [Int.toNat_of_nonneg hc.1.1] at this;exact this
theorem D3o:∀{f g:List (List Int×Int)},f.map (·.1)=g.map (·.1)->(f.map (·.1)).Nodup->(∀k∈f.map (·.1),luA f k=luA g k)->f=g
 | [],[],_,_,_=>rfl
 | a::f,b::g,e,n,h=>by
  rw [Z0p,Z0p] at e;injection e with e1 e2;rw [Z0p,Z15] at n;have i:=h a.1 (.head _);have j:luA (a::f) a.1=some a.2:=by unfold luA;rw [Z2h,Z20 rfl];rfl
  have l:luA (b::g) a.1=some b.2:=by unfold luA;rw [Z2h,Z20 e1.symm];rfl
  rw [j,l] at i;have c:a=b:=Prod.ext e1 (Z1a i);subst c;congr 1;refine D3o e2 n.2 λk d=> ?_;have:=h k (.tail _ d);have m:¬a.1=k:=λz=>n.1 (z▸d);unfold luA at this⊢;rw [Z2h,Z2h,Z1j m] at this;exact this
theorem B6a {nm:List Str} {ls:List Lt}:∀i,i<=ls.length->∀e∈ls.take i,∃z,(e.1,e.2.1,A3o e.2.2,(wsP nm (inS e.2.2) [] [] z).1)∈(duP nm (ls.take i)).2/\∀f∈(wsP nm (inS e.2.2) [] [] z).2.2,f∈(duP nm (ls.take i)).2
 | 0,_,e,a=>by cases a
 | i+1,hi,e,a=>by
  have b:ls[i]? =some ls[i]:=Z0b (by lia);rw [Z14,b] at a;rw [B0m b];rcases Z07.mp a with a | a
  ·obtain ⟨z,g,d⟩:=B6a i (by lia) e a;exact i02 z (Z07.mpr (.inl (B0e _ _ _ _ g))) λf c=>Z07.mpr (.inl (B0e _ _ _ _ (d f c)))
  ·rw [Z0w.mp a];exact i02 (duP nm (ls.take i)) (Z07.mpr (.inr (.head _))) λf c=>Z07.mpr (.inl c)
theorem D7f {nm:List Str} {e:Lt} (d:∀x∈nm,¬x=("":Str)) (s:∀x∈nm,1<=L x) (y:A6o nm e.2.1 e.2.2) (nd:e.2.1.Nodup) (g:∀x∈e.2.1,x∈nm) (l:∀f∈(wsP nm (inS e.2.2) [] [] z).2.2,D8g L W (Nm D) f) (k:inC L e.2.1 c):C8b L W (Nm D) (e.1,e.2.1,A3o e.2.2,(wsP nm (inS e.2.2) [] [] z).1) c=A3l L W (Nm D) (A5y e.2.1 c) e.2.2%W:=by
 obtain ⟨p,n,m⟩:=C4a y nd;obtain ⟨_,A,w⟩:=Z0l.mp m;have a:∀x∈e.2.1++A3o e.2.2,x∈nm:=λx b=>(Z07.mp b).elim (g x) (n x);have q:=B5s (L:=L) (W:=W) (N:=Nm D) (inS e.2.2) (e.2.1++A3o e.2.2) [] [] z ⟨d,s,λx b=>a x (by rw [Z0u] at b;exact b),λf j=>by cases j⟩ (by rw [Z0u];exact m) (by rw [Z0u];exact p) l;have r:=B6t (L:=L) d g k;have o:=(B6k (L:=L) (W:=W) (N:=Nm D) (u:=inS e.2.2) (A3o e.2.2) (A5y e.2.1 c)).1;rw [C4b] at o;rw [<-o];show B2y (λt=>A3l L W (Nm D) (A5y (e.2.1++A3o e.2.2) (c++t)) _) (A1v L (A3o e.2.2))%W=_;congr 1;refine A8x λt i=> ?_;have i:=A4b.mp i;rw [q.v _ (B6t d a (C1j k i)) (λf j=>by cases j)];refine A9i p (λx b=> ?_) ?_
 ·rw [C0i (A5n k)];by_cases h:x∈e.2.1
  ·rw [Z12 h,A4s λz=>w x h x z rfl]
  ·rw [Z0t h,B6o A (A5n i) ((Z07.mp b).resolve_left h)]
 ·rw [B1q λz=>d _ (a _ z) rfl,A4s λz=>d _ (n _ z) rfl,r.1]
theorem B9f {lk:List (Key×V)} {W:Int} {tb:List (Str×List Str)} {nm:List Str} {ls:List Lt} {D0 Dd Df:Dt} (m:KnC lk nm) (y:∀(j:Nat) (e:Lt),ls[j]? =some e->LtS lk nm (tb++C5y (ls.take j)) e) (u:∀f∈tb,∀d,inC (lnL lk) f.2 d->prD D0 f.1 d) (r:StI (lnL lk) W tb D0 (ls.map ltL) Dd) (k:StI (lnL lk) W tb D0 (duP nm ls).2 Df):∀j,j<=ls.length->∀f∈tb++C5y (ls.take j),∀d,inC (lnL lk) f.2 d->NO Dd f.1 d=NO Df f.1 d
 | 0,_,f,b,d,g=>by
  rw [List.take_zero] at b;obtain ⟨v,z⟩:=u f (by unfold C5y at b;rw [List.map_nil,Z0u] at b;exact b) d g;rw [r.ext _ _ _ z,k.ext _ _ _ z]
 | j+1,hj,f,b,d,g=>by
  have h:ls[j]? =some ls[j]:=Z0b (by lia);have x:=B9f m y u r k j (by lia);unfold C5y at b;rw [Z14,h,Z0s,<-Z0z] at b;rcases Z07.mp b with b | b
  ·exact x f b d g
  ·rw [Z0w.mp b] at g⊢;have p:=Z13 h;have o:=y j _ h;generalize ls[j]=e at o p g;obtain ⟨C,I,H⟩:=o.ti
   have s:∀f∈(duP nm ls).2,D8g (lnL lk) W (Nm Df) f:=λf b c i=>by
    have:=(k.good f b c i).v;unfold Nm at this⊢;rw [this];rfl
   obtain ⟨z,w,B⟩:=B6a (nm:=nm) (ls:=ls) ls.length (Z09 _) e (by rw [Z18];exact p);rw [Z18] at w B;refine C9p (L:=lnL lk) (xs:=e.2.1) (P:=λc=>NO Dd e.1 c=NO Df e.1 c) (λc i D=> ?_) d g;have t:=(r.good (ltL e) (Z2c.mpr (i02 e p rfl)) c i).v;have A:=(k.good _ w c i).v;rw [D7f m.n m.l C I H (λf b=>s f (B f b)) i] at A
   have F:C8b (lnL lk) W (Nm Dd) (ltL e) c=A3l (lnL lk) W (Nm Dd) (A5y e.2.1 c) e.2.2%W:=by
    show (A3l (lnL lk) W (Nm Dd) (A5y (e.2.1++[]) (c++[])) e.2.2+0)%W=_;rw [Z0u,Z0u,Int.add_zero]
   rw [F] at t;have G:=A5x (W:=W) (N:=Nm Dd) (N':=Nm Df) (pr:=λa d=>NO Dd a d=NO Df a d) (λa d q=>by unfold Nm;rw [q]) (C9w m o i (λf b d g=>x f b d g) D);show NO Dd e.1 c=NO Df e.1 c;rw [show NO Dd e.1 c=_ from t,show NO Df e.1 c=_ from A,G]
theorem D1u {nm:List Str} {Dd Df:Dt} (n:KnC lk nm) (q:∀(j:Nat) (e:Lt),ls[j]? =some e->LtS lk nm (tb++C5y (ls.take j)) e) (o:∀f∈tb,∀d,inC (lnL lk) f.2 d->prD D0 f.1 d) (i:StI (lnL lk) W tb D0 (ls.map ltL) Dd) (h:StI (lnL lk) W tb D0 (duP nm ls).2 Df) {e:Lt} (c:e∈ls):∃cur,luA Dd e.1=some cur/\luA Df e.1=some cur:=by
 obtain ⟨c1,b,g⟩:=i.row (ltL e) (Z2c.mpr (i02 e c rfl));obtain ⟨z,m,_⟩:=B6a (nm:=nm) (ls:=ls) ls.length (Z09 _) e (by rw [Z18];exact c);rw [Z18] at m;obtain ⟨c2,a,r⟩:=h.row _ m;have b:luA Dd e.1=some c1:=b;have a:luA Df e.1=some c2:=a
 have p:c1=c2:=by
  refine D3o (g.trans r.symm) (by rw [g];exact B6c _) λk l=> ?_;rw [g] at l;have:=B9f n q o i h ls.length (Z09 _) (e.1,e.2.1) (Z07.mpr (.inr (by rw [Z18];exact Z2c.mpr (i02 e c rfl)))) k (A4b.mp l);unfold NO at this;rw [show luA Dd (e.1,e.2.1).1=some c1 from b,show luA Df (e.1,e.2.1).1=some c2 from a] at this;exact this
 exact i02 c1 b (by rw [p];exact a)
abbrev tkR (L:Str->Int) (W:Int) (e:Str×List Str) (g:Str×List Int):List (List Int×Int):=((A1v L e.2).zip g.2).map λx=>(x.1,x.2%W)
def tkD (L:Str->Int) (W:Int):List (Str×List Str)->List (Str×List Int)->Dt
 | e::tb,g::gs=>(e.1,tkR L W e g)::tkD L W tb gs
 | _,_=>[]
theorem D3v {L:Str->Int} {W:Int}:∀{tb:List (Str×List Str)} {gs:List (Str×List Int)} {i:Nat} {e:Str×List Str} {g:Str×List Int},tb[i]? =some e->gs[i]? =some g->(tkD L W tb gs)[i]? =some (e.1,tkR L W e g)
 | _::_,_::_,0,_,_,h1,h2=>by cases h1;cases h2;rfl
 | _::tb,_::gs,i+1,e,g,h1,h2=>by
  show (tkD L W tb gs)[i]? =_;exact D3v (by simpa using h1) (by simpa using h2)
theorem C7o {L:Str->Int} {W:Int}:∀{tb:List (Str×List Str)} {gs:List (Str×List Int)},D3u L gs tb->(tkD L W tb gs).map (·.1)=tb.map (·.1)
 | _,_,.nil=>rfl
 | _,_,.cons r t=>by show _::(tkD L W _ _).map (·.1)=_;rw [C7o t];rfl
theorem C3t {g:Str×List Int} (h:g.2.length=(A1v L e.2).length):(tkR L W e g).map (·.1)=A1v L e.2:=by
 unfold tkR;rw [List.map_map];exact List.map_fst_zip (by lia)
theorem C8l {L:Str->Int} {W:Int}:∀{tb:List (Str×List Str)} {gs:List (Str×List Int)},D3u L gs tb->(tb.map (·.1)).Nodup->∀f∈tb,∀d,inC L f.2 d->prD (tkD L W tb gs) f.1 d
 | _,_,.nil,_,f,a,_,_=>by cases a
 | e::tb,g::gs,.cons r t,n,f,a,d,hd=>by
  rw [Z0p,Z15] at n;show∃v,(luA ((e.1,tkR L W e g)::tkD L W tb gs) f.1).bind (λh=>luA h d)=some v;unfold luA;rw [Z2h];rcases Z0e.mp a with rfl | a
  ·rw [Z20 rfl];obtain ⟨v,z⟩:=D0l (l:=tkR L W f g) (k:=d) (by rw [C3t r.2];exact A4b.mpr hd);exact ⟨v,z⟩
  ·have b:¬e.1=f.1:=λz=>n.1 (z▸Z2c.mpr (i02 f a rfl));rw [Z1j b];exact C8l t n.2 f a d hd
theorem D3n {L:Str->Int} {W:Int} (b:0<W):∀{tb:List (Str×List Str)} {gs:List (Str×List Int)},BdD W (tkD L W tb gs)
 | [],_,f,a=>by cases a
 | _::_,[],f,a=>by cases a
 | e::tb,g::gs,f,a=>by
  rcases Z0e.mp a with rfl | a
  ·intro x c;obtain ⟨y,_,rfl⟩:=Z2c.mp c;exact ⟨Z1v _ (by lia),Z1p _ b⟩
  ·exact D3n b f a
def C4k:Sp:=λh H Q _=>∃(p g:Addr) (d:List (Str×Int)) (e:List (Str×List Str)) (i:List Lt) (b:List (Str×List Int)) (f:Int) (r:List V),h=[.ref p,.ref g]/\B2b H p d e i/\H p=some (.tup (.int f::r))/\D5b H g b/\D3u (lnL (A2g d)) b e/\∀(a:Addr) (c:Hp),H a=none->A0u H c->B1s c a (tkD (lnL (A2g d)) f e b)->Q (.ref a) c
theorem C5k (T:Txt K mg t):FO P w base T.m_ 2 C4k:=by
 have Ge9:= @A7v P w K mg base t T;refine T.m_.F.ok A3g (by walk_at "ln") λ_ A _ s H _ Q E hr h=> ?_
 ·obtain ⟨p,gd,m,N,ls,D,f,r,rfl,pg,O,gv,og,k⟩:=h;have U:=A8b hr;refine e0e pg.ob ?_;rintro c3 d tl ll ol b2 b8 o0 ⟨hp,hd,a4,a2,c4,b9,c2⟩;rw [hp] at O;cases O;have w0:=(pg.wp _ _ hp).1;have b4:=Paired.length a2;have c1:=Paired.length og;have t6:=pg.t;have a9:(D.map (·.1)).Nodup:=by rw [og.names];exact (Z0l.mp pg.nd).1
  have X:=C7o (W:=f) og;have lD:(tkD (lnL (A2g m)) f N D).length=N.length:=by have:=congrArg List.length X;rw [Z08,Z08] at this;exact this
  refine i02 _ (@RS.r _ _ _ (rq1 ⟨A9g (pv 0) (A3v (n:=5) rfl (A0r (A0k (i:=2) A3g.nd rfl (.inl rfl)) (A0r (A0k (i:=3) A3g.nd rfl (.inl rfl)) (A0r (A0k (i:=4) A3g.nd rfl (.inl rfl)) (A0r (A0k (i:=5) A3g.nd rfl (.inl rfl)) (A0r (A0k (i:=6) A3g.nd rfl (.inl rfl)) A2p))))))⟩ (rq1 (rq6 7 A3g.nd B2p) (rq1 (rq7 (A2c (pv 4)) (A3v (n:=2) rfl (A0r (A0k (i:=8) A3g.nd rfl (.inl rfl)) (A0r (A0k (i:=9) A3g.nd rfl (.inl rfl)) A2p))) (rq1 ⟨@A6k _ _ _ _ _ _ _ _ _ U (pv 7) (pv 8) C2o rfl⟩ (rq3 (rq7 (A2c (pcl Ge9 hr T.cz (A0a (pv 9) (A0a (pv 3) A0c)))) (A0k (i:=10) A3g.nd rfl (.inl rfl)) (rq3 ⟨@A6k _ _ _ _ _ _ _ _ _ U (A2u U (pv 7) (pv 8) (λ_ _=>rfl)) (pv 10) (A0j A1j (A1f A1n (A2u U (pv 1) (pv 8) (λ_ _=>rfl)) (A0q C8i (by rfl) T.ce Z0r (A0a (A2u U (pv 7) (pv 8) (λ_ _=>rfl)) A0c)) (λ_ _=>rfl)) (pv 2)) rfl⟩))))) (rq3 (rq5 (pv 7))))))) ?_;refine i0o _ rfl p _ rfl (SqT.of hp) (i0b rfl _ _ rfl (i03 _ _ (i0b rfl _ _ rfl ⟨_,(i0o _ rfl _ _ rfl rfl ?_)⟩)));refine λu J=> ?_;have s0:=A0e (o:= .dK []) J;have h0:upd H u (.dK []) u=some (.dK []):=A0b;generalize upd H u (.dK [])=H0 at s0 h0;refine i0k _ rfl tl rfl ⟨_,SqL.of (s0 _ _ a4)⟩ ?_;refine A2l (K:=K) (a:=tl) (xs:=b2) (λi Z G=>∃(o8 o9 l:Option V),Z=[Sro p,Sro gd,Sio f,Sro d,Sro tl,Sro ll,Sro ol,Sro u,o8,o9,l]/\A0u H G/\B1s G u ((tkD (lnL (A2g m)) f N D).take i)) (i0n none none none rfl s0 ⟨[],h0,.nil⟩) (by rintro i Z G _ ⟨_,_,_,_,s,_⟩;exact SqL.of (s _ _ a4)) ?_ ?_
  ·rintro i x Z G hx ⟨o8,o9,l,rfl,sG,nu⟩;refine B3x ?_;intro D';obtain ⟨e,he,qe,al,rfl,e1,e2,_,e3,_,e4⟩:=B3z a2 hx;have i6:i<N.length:=(Z03.mp he).1;have hg:D[i]? =some D[i]:=Z0b (by lia);obtain ⟨e',R,eg,lg⟩:=B3z og hg;rw [he] at R;cases R;have I:=D3v (L:=lnL (A2g m)) (W:=f) he hg;generalize D[i]=g at hg eg lg I
   have nn:e.1∉((tkD (lnL (A2g m)) f N D).take i).map (·.1):=λz=>by
    have n2:=((Z0l.mp pg.nd).1);rw [<-X] at n2;have n3:=n2.sublist ((Z2o (i+1) (tkD (lnL (A2g m)) f N D)).map (·.1));rw [Z14,I,Z0s] at n3;exact (Z0l.mp n3).2.2 e.1 z e.1 (by simp) rfl
   obtain ⟨kk,hk,pk⟩:=nu.ex;have a8:=Paired.length pk;have nk:=C6i pk nn;refine i1a qe _ rfl (SqT.of (sG _ _ e1)) rfl _ _ rfl _ _ rfl rfl ?_;refine λq hq=>(i0w _ rfl _ rfl u _ rfl (C0g.k (k:=Sum.inr e.1) (A0e hq _ _ hk) (A1l (by rw [Z0x] at a8;lia))) ?_);rw [B5v nk];have sH:∀b o,H b=some o->A0s (λb=>b≠u) G b=some o:=λb o z=>A0h (λy=>by rw [y,J] at z;cases z) (sG _ _ z)
   have s1:A0u H (upd (upd G q (.dT [])) u (.dK (kk++[(Sum.inr e.1,.ref q)]))):=λb o z=>by
    obtain ⟨z1,z2⟩:=A0l (sH b o z);rw [A0i z1];exact A0e hq _ _ z2
   have pe:=C7f e3 e4;refine i1b _ rfl _ rfl al d e.2 (A2g m) rfl (s1 _ _ e2) (s1 _ _ hd) e4 pe ⟨by lia,λqc H2 c5 s2 cc=> ?_⟩;obtain ⟨ps,a0,tp⟩:=cc.ex;have b6:=Paired.length tp;have b7:=D4m e4;obtain ⟨B,v⟩:=D8o.of hq hk pk nk s2;have b3:=v.k a0 (by intro x z;cases z) (by intro x z;cases z);have a7:A4l B ps (A1v (lnL (A2g m)) e.2):=tp.imp λp xs z=>v.k z (by intro x z;cases z) (by intro x z;cases z);have a3:A0u H B:=λb o z=>v.g _ _ (sH b o z);clear s1 s2 cc tp;have a1:(tkR (lnL (A2g m)) f e g).length=(A1v (lnL (A2g m)) e.2).length:=by unfold tkR;rw [Z08,List.length_zip];lia
   refine i06 qc rfl ⟨_,SqL.of a0⟩ (A2l (K:=K) (a:=qc) (xs:=ps.map V.ref) (λj Z F=>∃(l:Option V),Z=[Sro p,Sro gd,Sio f,Sro d,Sro tl,Sro ll,Sro ol,Sro u,Sso e.1,Sro al,l]/\A0u B F/\F u=some (.dK (kk++[(Sum.inr e.1,.ref q)]))/\F q=some (.dT (B7o ((tkR (lnL (A2g m)) f e g).take j)))) (i0c _ rfl v.s v.e1 v.e2) (by rintro j Z F _ ⟨_,_,s,_⟩;exact SqL.of (s _ _ b3)) ?_ ?_)
   ·rintro j y Z F hj ⟨l,rfl,M,C,fq⟩;obtain ⟨pc,a6,rfl⟩:=A6l hj;obtain ⟨c,hc,b0⟩:=a7.get a6;have c0:=(Z03.mp hc).1;have dg:=C9z v.nk C;have hz:g.2[j]? =some g.2[j]:=Z0b (by lia)
    have S:(tkR (lnL (A2g m)) f e g)[j]? =some (c,g.2[j]%f):=by
     unfold tkR;rw [Z1z,(Z2m (z:=(c,g.2[j]))).mpr ⟨hc,hz⟩];rfl
    have lt:(B7o ((tkR (lnL (A2g m)) f e g).take j)).length=j:=by unfold B7o;rw [Z08,Z0x];lia
    have ez:atI (g.2.map V.int) (((B7o ((tkR (lnL (A2g m)) f e g).take j)).length:Nat):Int)=some (.int g.2[j]):=by rw [lt];exact A3j (by rw [Z1z,hz];rfl)
    have b1:c∉((tkR (lnL (A2g m)) f e g).take j).map (·.1):=λz=>by
     rw [List.map_take,C3t lg] at z;have n2:=(B6c (L:=lnL (A2g m)) e.2).sublist (Z2o (j+1) _);rw [Z14,hc] at n2;exact (Z0l.mp n2).2.2 c z c (by simp) rfl
    have a5:A0u H F:=a3.trans M;obtain ⟨rr,Y,b5⟩:=(gv.same a5).get a9 hg;rw [eg] at Y;refine i0w _ rfl _ rfl gd _ rfl Y (i0w _ rfl _ rfl u _ rfl dg (i0f q _ rfl fq (i0y rr _ _ _ rfl rfl (SqL.of b5) ez (i0s _ rfl _ _ rfl rfl w0 (i0w _ rfl _ rfl u _ rfl dg (i0o _ rfl q _ rfl (C4d fq (M _ _ b0) b1 (by rw [Z0x];lia)) ?_))))));refine i0c _ rfl (A0o M v.n) (by rw [A0i v.ne];exact C) ?_;rw [A0b,Z14,S];rfl
   ·rintro Z F ⟨l,rfl,M,C,fq⟩;rw [Z08,b6,<-a1,Z18] at fq;refine i0n _ _ _ rfl (a3.trans M) ?_;rw [Z14,I];exact v.num M C fq
  ·rintro Z G ⟨o8,o9,l,rfl,sG,nu⟩;rw [b4,<-lD,Z18] at nu;exact i02 _ rfl (k u G J sG nu)
theorem C9g {α:Type} {f:α->Str} {rs:List α} {e:α} (n:(as++rs.map f).Nodup) (c:rs[i]? =some e):f e∉as++(rs.take i).map f:=by
 have b:(rs.take i).map f++[f e]=(rs.take (i+1)).map f:=by rw [Z14,c,Z0s];rfl
 have a:(as++(rs.take i).map f++[f e]).Nodup:=by
  refine n.sublist ?_;rw [Z0z,b];exact List.Sublist.append (List.Sublist.refl _) ((Z2o _ _).map _)
 exact λz=>(Z0l.mp a).2.2 (f e) z (f e) (by simp) rfl
section
variable {H:Hp} {p:Addr} {ax:List (Str×Int)} {tb:List (Str×List Str)} {ls:List Lt}
theorem B2b.rowL (h:B2b H p ax tb ls) {j:Nat} {e:Lt} (b:ls[j]? =some e) (st:StI (lnL (A2g ax)) W tb D0 ((ls.take j).map ltL) D):D5m (A2g ax) (ax.map (·.1)) D (ltL e):=by
 have i:=h.sf j e b;obtain ⟨m,l,k⟩:=i.ti;have g:=h.ok e (Z13 b);have a:e.2.1++[]=e.2.1:=Z0u _;refine ⟨h.dk,λx n=>k x (by rw [<-a];exact n),h.axs l k,by show (1:Int)<=8000;decide,by have:=g.l3;show e.2.1.length<=100;lia,by show 0<=100;decide,by show (e.2.1++[]).Nodup;rw [a];exact l,by show A6o _ (e.2.1++[]) e.2.2;rw [a];exact m,g.w,by have:=g.d;show dep e.2.2<=40;lia,?_,λc v t s y q u=> ?_⟩
 ·rw [st.nm,List.map_map];exact C9g (f:=λe:Lt=>e.1) h.nd b
 ·cases t with
  | cons _ _=>exact s.elim
  | nil =>
   show A1y _ _ _ (A5y (e.2.1++[]) (c++[])) e.2.2;rw [a,Z0u];refine C9w h.kn i v (λf o d r=>q _ _ (st.cov f ?_ d r)) u;unfold esU;rw [List.map_map];exact o
theorem B2b.rowN (h:B2b H p ax tb ls) (lo:∀e∈C2z ax ls,C7b e) {e:Ln} (b:(C2z ax ls)[i]? =some e) (st:StI (lnL (A2g ax)) W tb D0 ((C2z ax ls).take i) D):D5m (A2g ax) (ax.map (·.1)) D e:=by
 have k:=h.du.al i e b;obtain ⟨d,g⟩:=h.lnn e (Z13 b);obtain ⟨_,L,_,C,A,B,K⟩:=lo e (Z13 b);refine ⟨h.dk,g,h.axs (Z0l.mp d).1 λx a=>g x (Z07.mpr (.inl a)),h.axs (Z0l.mp d).2.1 λx a=>g x (Z07.mpr (.inr a)),by lia,C,d,k.ti _,A,B,?_,λc v t s J o I=> ?_⟩
 ·rw [st.nm];exact C9g (f:=λe:Ln=>e.1) h.nms b
 ·have r:=A5n v;refine B3r k.ns λq F=> ?_
  have w:e.2.1.map (A5y (e.2.1++e.2.2.1) (c++t))=c:=by
   have:=C2c d (show (c++t).length=(e.2.1++e.2.2.1).length by rw [Z06,Z06,r,A5n s]);rw [Z0s] at this;exact (List.append_inj this (by rw [Z08,r])).1
  have u:=k.lk (A5y (e.2.1++e.2.2.1) (c++t)) (B6t h.kn.n g (C1j v s)) (λx a=>B1q a) q F;rw [w] at u;rcases u with (⟨f,j,m,l⟩ | ⟨f,j,m,l⟩) | ⟨G,y,z⟩
  ·rw [<-m];exact o _ _ (st.cov f (Z07.mpr (.inl j)) _ l)
  ·rw [<-m];exact o _ _ (st.cov (f.1,f.2.1) (Z07.mpr (.inr (Z2c.mpr (i02 f j rfl)))) _ l)
  ·rw [G];exact I _ y z
end
theorem D1t:∀e∈B7o f,∃i,e.2=V.int i:=λe a=>by
 obtain ⟨x,_,rfl⟩:=Z2c.mp a;exact ⟨x.2,rfl⟩
def D2k (K:Frag):Sp:=λd H Q _=>∃(a:Addr) (b:List Int),d=[.ref a]/\SqL K H a (b.map V.int)/\b.length<=63/\∀c,Q (.bl true) c
theorem D9z (T:Txt K mg t):FO P w base T.Au 93 (D2k K):=by
 have Gf0:= @B4j P w K mg base t T;have Gf1:= @B5f P w K mg base t T;have Gd3:= @A5a P w K mg base t T;have Gf2:= @B0y P w K mg base t T;have Gf3:= @C5k P w K mg base t T;have Gf4:= @C9a P w K mg base t T;have Gf5:= @C2b P w K mg base t T;refine T.Au.F.ok A7x (by walk_at "ln") λ_ A _ s H _ Q E M h=> ?_
 ·obtain ⟨a,ns,rfl,hS,_,k⟩:=h;have hu:=A8b M;refine i02 _ (@RS.r _ _ _ (rq1 (rq6 1 A7x.nd (pcl Gf0 M T.gn (A0a (pv 0) A0c))) (rq1 (rq6 2 A7x.nd (pcl Gf1 M T.iz (A0a (pv 1) (A0a (pcl Gd3 M T.bc (A0a (pv 0) (A0a A0d A0c))) A0c)))) (rq1 (rq6 3 A7x.nd (pcl Gf2 M T.e_ (A0a (pv 1) A0c))) (rq1 (rq6 4 A7x.nd (pcl Gf3 M T.m_ (A0a (pv 1) (A0a (pv 2) A0c)))) (rq1 (rq7 (A2c (A1c (pv 3) rfl)) (A0k (i:=5) A7x.nd rfl (.inl rfl)) (rq3 ⟨A2r (pcl Gf4 M T.qz (A0a (pv 5) (A0a (@A1r _ _ _ _ A0c) (A0a (A1f A1h (pv 1) A0d (λ_ _=>rfl)) (A0a (pv 4) (A0a (A1f A1h (pv 1) A0d (λ_ _=>rfl)) A0c))))))⟩)) (rq1 (rq6 6 A7x.nd (pcl Gf5 M T.o_ (A0a (pv 3) A0c))) (rq1 (rq6 7 A7x.nd (pcl Gf3 M T.m_ (A0a (pv 1) (A0a (pv 2) A0c)))) (rq1 (rq7 (A2c (A1c (pv 6) rfl)) (A0k (i:=8) A7x.nd rfl (.inl rfl)) (rq3 ⟨A2r (pcl Gf4 M T.qz (A0a (pv 8) (A0a (A1c (pv 8) rfl) (A0a (A1f A1h (pv 1) A0d (λ_ _=>rfl)) (A0a (pv 7) (A0a (A1f A1h (pv 1) A0d (λ_ _=>rfl)) A0c))))))⟩)) (rq1 (rq7 (A2c (A1f A1h (pv 1) A0d (λ_ _=>rfl))) (A3v (n:=3) rfl (A0r (A0k (i:=9) A7x.nd rfl (.inl rfl)) (A0r (A0k (i:=10) A7x.nd rfl (.inl rfl)) (A0r (A0k (i:=11) A7x.nd rfl (.inl rfl)) A2p)))) (rq3 (rq4 (PW.pt (B6w (E1x (C9u hu (pv 9) (pv 7)) (by with_unfolding_all rfl)) (B5l (A0p (D6w M.units) (A2u hu (pv 7) (pv 9) (λ_ _=>rfl)) (A2u hu (pv 4) (pv 9) (λ_ _=>rfl)) (A1b _))))) (rq3 (rq5 D3b)) ⟨A0x⟩))) (rq3 (rq5 D3b)))))))))))) ?_;refine i0o _ rfl a ns rfl hS λp g u ls H1 s1 j=> ?_;refine e0e j.ob ?_;rintro B d tl ll ol e8 c8 o ⟨C,O,e5,e6,X,c6,e4⟩;obtain ⟨w0,w1⟩:=j.wp _ _ C;refine i02 _ rfl (i0x _ rfl a ns 7 rfl (s1.seq hS) (by decide) λc7=>(i03 p c7 (i0n g u ls rfl j λgd gs H2 s2 gv og=> ?_)));refine i0l _ rfl p g u (i06 ls rfl (j.same s2) λr wr os H3 s3 b8 d9=> ?_);have I:=s2.trans s3;refine i02 _ rfl (i0l _ rfl p gd g (i14 u ls gs B _ rfl (j.same I) (I _ _ C) (gv.same s3) og λnd H4 b1 s4 c4=> ?_));have D0c:=C8l (W:=B) og (Z0l.mp j.nd).1;have D0n:=C7o (W:=B) og
  have a2:∀e:List Ln,e=[]->StI (lnL (A2g g)) B u (tkD (lnL (A2g g)) B u gs) e (tkD (lnL (A2g g)) B u gs):=λe v=>by
   subst v;exact ⟨by rw [D0n];simp,λf hf d hd=>D0c f (by unfold esU at hf;rw [List.map_nil,Z0u] at hf;exact hf) d hd,(λe v=>by cases v),Ext.refl _,D3n w0,λe v=>by cases v⟩
  generalize hD0:tkD (lnL (A2g g)) B u gs=D0 at c4 D0c a2;have t6:=j.t;have l8:=j.l;obtain ⟨dp,pa,pt,pl,po,d1,_,_,⟨xs,Y,a0⟩,_⟩:=b8.ob;have d6:=Paired.length a0
  have b3:∀{D:Dt} {rs:List Ln},StI (lnL (A2g g)) B u D0 rs D->D.length=u.length+rs.length:=λJ=>by
   have:=congrArg List.length J.nm;rw [Z08,Z06,Z08,Z08] at this;exact this
  refine i19 _ rfl r _ dp _ _ rfl (s4 _ _ d1) T.bu T.gc (by walk_at "lk") (i06 pl rfl ⟨_,SqL.of (s4 _ _ Y)⟩ ?_);refine A2l (K:=K) (a:=pl) (xs:=xs) (λi Z G=>∃(o5:Option V) (D:Dt),Z=[Sro a,Sro p,Sro gd,Sro r,Sro nd,o5,none,none,none,none,none,none]/\A0u H3 G/\B1s G nd D/\StI (lnL (A2g g)) B u D0 ((ls.take i).map ltL) D) (i0m none D0 rfl s4 c4 (a2 _ rfl)) (by rintro i Z G _ ⟨_,_,_,s,_⟩;exact SqL.of (s _ _ Y)) ?_ ?_
  ·rintro i x Z G hx ⟨o5,D,rfl,sG,a7,J⟩;refine B3x ?_;intro D';obtain ⟨e,v,a',dx,c,n,_,rfl,S,_,d5,a3⟩:=B3z a0 hx;have ro:=j.rowL v J;have lD:=b3 J;rw [Z08,Z0x] at lD;have N:=sG _ _ (I _ _ C);refine i06 _ rfl (A0v rfl) λsl d2=> ?_;have sS:=A0e (o:= .lst []) d2;have b2:A0u H3 (A0s (λb=>b≠nd) (upd G sl (.lst []))):=λb o z=>A0h (λy=>by rw [y,b1] at z;cases z) (sS _ _ (sG _ _ z));refine i13 _ rfl p _ _ _ rfl rfl (SqT.of (sS _ _ N)) rfl (i17 _ rfl _ rfl p _ _ _ rfl rfl (SqT.of (sS _ _ N)) rfl ?_);refine i08 a' sl d (i1d nd B (ltL e) (A2g g) (g.map (·.1)) D rfl (LnG.same ⟨_,dx,c,_,n,S,T.l_,(i00 T.lj T.mi T.k_),(by walk_at "lk"),(by walk_at "lk"),(by walk_at "lk"),d5,a3⟩ b2) A0b ⟨sS _ _ (sG _ _ (I _ _ O)),λy=>by have z:=I _ _ O;rw [y,b1] at z;cases z⟩ (a7.same sS) (by lia) ⟨w0,w1⟩ (i00 J.bd ro λc1 G' kb a6 kc L b0=>(i0m _ _ rfl (λb o z=>kb b o (λy=>by rw [y,b1] at z;cases z) (sS _ _ (sG _ _ z))) a6 ?_)));rw [Z14,v,Z0s];exact J.snoc ro.nn kc L b0
  rintro Z G ⟨o5,Dd,rfl,sG,a7,c0⟩;rw [d6,Z18] at c0;have b9:=j.pr d9;refine i0l _ rfl r wr g (i0r u ls os rfl (b8.same sG) b9 λq H5 s5 d3=> ?_);have b6:=sG.trans s5;have m:=I.trans b6;obtain ⟨dq,e9,lc,ac,tc,vc,oc,ak,ys,c9,_,_,a1,b5⟩:=d3.ob;obtain ⟨e7,d4⟩:=b9.due;have d0:=Paired.length b5;refine i02 _ rfl (i0l _ rfl p gd g (i14 u ls gs B _ rfl (j.same m) (m _ _ C) (gv.same (s3.trans b6)) og λnf H6 a8 s6 c5=> ?_));rw [hD0] at c5;refine i19 _ rfl q _ dq _ _ rfl (s6 _ _ c9) T.gz T.m7 (by walk_at "lk") (i06 vc rfl ⟨_,SqL.of (s6 _ _ a1)⟩ ?_);refine A2l (K:=K) (a:=vc) (xs:=ys) (λi Z F=>∃(o8:Option V) (D:Dt),Z=[Sro a,Sro p,Sro gd,Sro r,Sro nd,o5,Sro q,Sro nf,o8,none,none,none]/\A0u H5 F/\B1s F nf D/\StI (lnL (A2g g)) B u D0 ((C2z g ls).take i) D) (i0m none D0 rfl s6 c5 (a2 _ rfl)) (by rintro i Z F _ ⟨_,_,_,s,_⟩;exact SqL.of (s _ _ a1)) ?_ ?_
  ·rintro i x Z F hx ⟨o8,D,rfl,R,a9,J⟩;refine B3x ?_;intro D';obtain ⟨e,v,a',dx,ca,cs,n,rfl,S,b7,b4,a3⟩:=B3z b5 hx;have ro:=j.rowN d4 v J;have lD:=b3 J;rw [Z0x] at lD;have N:=R _ _ (m _ _ C);have b2:A0u H5 (A0s (λb=>b≠nf) F):=λb o z=>A0h (λy=>by rw [y,a8] at z;cases z) (R _ _ z);refine i02 _ rfl (i19 _ rfl a' _ dx _ _ rfl (R _ _ S) T.gj T.qv (by walk_at "lk") (i13 _ rfl p _ _ _ rfl rfl (SqT.of N) rfl (i17 _ rfl _ rfl p _ _ _ rfl rfl (SqT.of N) rfl ?_)));refine i08 a' cs d (i1d nf B e (A2g g) (g.map (·.1)) D rfl (LnG.same ⟨_,dx,ca,_,n,S,T.gj,(i00 T.jh T.jr T.qh),(by walk_at "lk"),(by walk_at "lk"),(by walk_at "lk"),b7,a3⟩ b2) (R _ _ b4) ⟨R _ _ (m _ _ O),λy=>by have z:=m _ _ O;rw [y,a8] at z;cases z⟩ a9 (by lia) ⟨w0,w1⟩ (i00 J.bd ro λc1 G' kb a6 kc L b0=>(i0m _ _ rfl (λb o z=>kb b o (λy=>by rw [y,a8] at z;cases z) (R _ _ z)) a6 ?_)));rw [Z14,v];exact J.snoc ro.nn kc L b0
  rintro Z F ⟨o8,Df,rfl,R,a9,c2⟩;rw [d0,Z18] at c2;have e0:=a7.same (s5.trans R);have U:=m.trans R;refine i13 _ rfl p _ _ _ rfl rfl (SqT.of (U _ _ C)) rfl (i06 ll rfl ⟨_,SqL.of (U _ _ X)⟩ ?_);refine A2l (K:=K) (a:=ll) (xs:=c8) (λi Z G'=>F=G'/\∃(o9 a4 a5:Option V),Z=[Sro a,Sro p,Sro gd,Sro r,Sro nd,o5,Sro q,Sro nf,o8,o9,a4,a5]) ⟨rfl,(i08 none none none rfl)⟩ (by rintro i Z G' _ ⟨rfl,_⟩;exact SqL.of (U _ _ X)) ?_ ?_
  ·rintro i x Z G' hx ⟨rfl,o9,a4,a5,rfl⟩;refine B3x ?_;intro D';obtain ⟨e,v,qe,al,tv,rfl,e1,e2,_⟩:=B3z c6 hx;obtain ⟨c1,z1,z2⟩:=D1u j.kn j.sf D0c c0 c2 (Z13 v);obtain ⟨qd,e3,d8⟩:=e0.get z1;obtain ⟨qf,c3,d7⟩:=a9.get z2;refine i0f qe _ rfl (SqT.of (U _ _ e1)) (i0b rfl _ _ rfl ⟨_,(i0o _ rfl _ _ rfl rfl ?_)⟩);refine i0e _ rfl _ rfl (i0q nf _ rfl c3 _ rfl (A2m ?_));exact i0w _ rfl _ rfl nf _ rfl c3 (i0w _ rfl _ rfl nd _ rfl e3 (i0r qf qd _ rfl rfl d7 (i0a d8 D1t _ rfl (A2m ⟨rfl,(i08 _ _ _ rfl)⟩))))
  ·rintro Z G' ⟨rfl,o9,a4,a5,rfl⟩;exact k F
end My
namespace PySem.W.Fast
def tw10527106348922523641:=()
def tw10936731298832431290:=()
def tw14255192515245427850:=()
def tw10658942667280162062:=()
def tw10357805338511182848:=()
def tw15158493296764424817:=()
def tw9077510320372852633:=()
def tw2058766673055997186:=()
def tw6764119048441109164:=()
def tw10892054641920420083:=()
def tw13264647763928129042:=()
def tw13396438407277699087:=()
def tw3507206511943803434:=()
def tw13148873193760475504:=()
def tw7999494692592763754:=()
def tw9776145700119162594:=()
def tw15685555374226492771:=()
def tw11073732903436217072:=()
def tw67979956869307677:=()
def tw11542371946342834260:=()
def tw12307523670485840992:=()
def tw7302599092954257343:=()
def tw14963414275611825881:=()
def tw17370436767193633375:=()
def tw7987691481190662019:=()
def tw8255142035467537603:=()
def tw15750546290396143210:=()
def tw4192663587937558816:=()
def tw1631300970832852620:=()
def tw17573595382097441994:=()
def tw16293902159010334966:=()
def tw4521156417710204991:=()
def tw1115142702475961466:=()
def tw5944059462956463966:=()
def tw17627787603994738053:=()
def tw11478597750418153660:=()
def tw2690225169459313309:=()
def tw3822742546859493184:=()
def tw11404139915340123704:=()
def tw7535186304242648000:=()
def tw799975513990982770:=()
def tw12427426117018111033:=()
def tw2551820658085429925:=()
def tw7016386313311294417:=()
def tw11580165152044917806:=()
def tw4310984573177939712:=()
def tw2486119197990026973:=()
def tw12300234447595222469:=()
def tw3555872102581751321:=()
def tw15909155762666047311:=()
def tw1870427459502957603:=()
def tw1894542694143326808:=()
def tw3608374500943302531:=()
def tw15906700581510877117:=()
def tw6574961143820846781:=()
def tw2456866084700195492:=()
def tw13554123862795936028:=()
def tw1261159782575332732:=()
def tw2464673479970946653:=()
def tw13785613246714939161:=()
def tw10133044725938377812:=()
def tw15374871642862508369:=()
def tw16998289124243612968:=()
def tw17939109733911123762:=()
def tw17247589494535558228:=()
def tw3210158250733305140:=()
def tw10115782600531779213:=()
def tw10413541896648186391:=()
def tw11791106223951015862:=()
def tw1950336800697837927:=()
def tw3283681777591440473:=()
def tw11384183737990541691:=()
def tw3513584378321656210:=()
def tw8017519867976530933:=()
def tw716674065461715202:=()
def tw13633359067606203683:=()
def tw6941834695455967801:=()
def tw13273290495055884774:=()
def tw3673298124637475650:=()
def tw11658705926983547862:=()
def tw1360889090101098594:=()
def tw12357236258225211581:=()
def tw4364617222555397569:=()
def tw5296104627095231913:=()
def tw10101182329907620605:=()
def tw4774350663944318883:=()
def tw17404273878615881632:=()
def tw14590762659006453325:=()
def tw3290872289503878648:=()
def tw7391149411980604540:=()
def tw14751982592983859794:=()
def tw7301631333152757028:=()
def tw4054988973571835610:=()
def tw14219382914815826772:=()
def tw10388627677705396079:=()
def tw14297831695734891143:=()
def tw14770431594625213420:=()
def tw16306565178669153405:=()
def tw13415205324925119806:=()
def tw7205875934011249153:=()
def tw17419551497151287525:=()
def tw7025949762497365198:=()
def tw2195188056117337131:=()
def tw2711406032622159182:=()
def tw14252431098212874883:=()
def tw2757544316408209294:=()
def tw9746029777116767754:=()
def tw15078339927169535998:=()
def tw12217307756125673692:=()
def tw14814884030270121545:=()
def tw117528126315133602:=()
def tw856625807522717807:=()
def tw13702838654600447152:=()
def tw13674897525205050072:=()
def tw17253258953679517019:=()
def tw4709317579966076650:=()
def tw15836807548635210092:=()
def tw7254759067155443589:=()
def tw6514120866533087964:=()
def tw18305447365916170873:=()
def tw10682514735381312593:=()
def tw12295741363139030735:=()
def tw2082579272972052256:=()
def tw16400314162154456244:=()
def tw4791440492658733729:=()
def tw16764892355281941459:=()
def tw13985727469976308232:=()
def tw14268190228419003891:=()
def tw4816522634935585848:=()
def tw18354972988965445669:=()
def tw9251501497580592389:=()
def tw3886918208826066689:=()
def tw12609418001989220958:=()
def tw9493567295576316213:=()
def tw17612843496053932200:=()
def tw11316400921892979559:=()
def tw5367077994520887518:=()
def tw16133786133879520281:=()
def tw13589385756032186218:=()
def tw13734177488620555091:=()
def tw15762017577850269579:=()
def tw13793640461436063058:=()
def tw9610487762180853495:=()
def tw10507543042068163237:=()
def tw12638414534390501733:=()
def tw2783578848184465011:=()
def tw17139589188778594053:=()
def tw18156222537769898732:=()
def tw9220663631793186384:=()
def tw13715744287564183857:=()
def tw2502336031343872410:=()
def tw17154558500745965947:=()
def tw16646539069428174738:=()
def tw15268079587845177933:=()
def tw14410938022948011442:=()
def tw18409211944079234740:=()
def tw1996759892752168388:=()
def tw4741969485932266730:=()
def tw3678717008574513068:=()
def tw1639016271833530919:=()
def tw10509092305273438150:=()
def tw10494227055448936090:=()
def tw6668280067774263113:=()
def tw1051959265106863432:=()
def tw11120025718334671514:=()
def tw283663463401145245:=()
def tw17263554960717541726:=()
def tw16970334068769579566:=()
def tw12402878112259861499:=()
def tw8439997359250660500:=()
def tw13409273384525907092:=()
def tw8318616900259121680:=()
def tw13780957611404786574:=()
def tw4919842935132415529:=()
def tw8732913640889163135:=()
def tw18071175660623618457:=()
def tw7401011691063048917:=()
def tw16475829837882708528:=()
def tw14891722710547551446:=()
def tw5865596342141040640:=()
def tw17400243897040721881:=()
def tw11121497895176456349:=()
def tw11510842600179087755:=()
def tw3169979830853218154:=()
def tw6783431494469588623:=()
def tw6121159946844411600:=()
def tw7226299144422258784:=()
def tw4000307615011304901:=()
def tw4686027210298646604:=()
def tw1420397131129676014:=()
end PySem.W.Fast
namespace My
open PySem L2
variable {K:Frag} {sl:Array (Option Value)} {l:PySem.W.OpenLaw} {XP:(Str->Option Value)->Heap->Prop}
abbrev LkF (K:Frag) (x q:Str) (st:Stmt) (f:Addr):Prop:=∃(g:Value) (d:Option Addr) (kV h i:Value) (b:Option Addr) (a c:Value) (e:Array (Option Value)),K.lookup f=some ⟨g,d,.func (fnOf x q (A9r st) (A8t st) (A0n st) .none kV h i b a c),e⟩/\codeIn K a q=true/\keepIn K (.ref f)=true
theorem D9i {x q:Str} {st:Stmt} {f:Addr} {b:Value} {od:Option Addr} {kV g e:Value} {a:Option Addr} {cd d:Value} (l:K.lookup f=some ⟨b,od,.func (fnOf x q (A9r st) (A8t st) (A0n st) .none kV g e a cd d),sl⟩) (c:codeIn K cd q=true) (k:keepIn K (.ref f)=true):LkF K x q st f:=⟨_,_,_,_,_,_,_,_,_,l,c,k⟩
theorem A2b {x q:Str} {st:Stmt} {f:Addr} {ps:List Str} (l:LkF K x q st f) (h:∀(kV a i:Value) (e:Option Addr) (b g:Value) (us:List Value),us.length=ps.length->bindArgs (fnOf x q (A9r st) (A8t st) (A0n st) .none kV a i e b g) ⟨us,[]⟩=pure (ps.zip us)):∃d,Fun K x q st f d/\A9b K d ps []/\keepIn K (.ref f)=true:=by
 obtain ⟨_,_,_,_,_,_,_,_,_,l,c,k⟩:=l;have F:=D3s (st:=st) l c k;exact ⟨_,F,F.binds h,k⟩
theorem len0 {p:List Value->Prop} (h:p []):∀us:List Value,us.length=0->p us:=λus e=>by rw [List.length_eq_zero_iff.mp e];exact h
theorem lenS {n:Nat} {p:List Value->Prop} (h:∀(a:Value) (us:List Value),us.length=n->p (a::us)):∀us:List Value,us.length=n+1->p us
 | a::r,e=>h a r (Nat.succ.inj e)
local macro_rules | `(tactic| walk_at "le") => `(tactic| (intro _ _ _ _ _ _; (repeat (refine lenS fun _ => ?_)); exact len0 rfl))
theorem E1f {w:World} {h:Heap} {mg:Str->Option Value} {fa:Addr} (X:K.In h) (G:h.Ns mainGlobals mg) (e5:mg "law"=some (.ref fa))
  {m n rP i j b u f g r d a q o p k:Addr}
  (oW:nsIn K mainGlobals "Line"=zR0 m)
  (mY:nsIn K mainGlobals "Cloth"=zR0 n)
  (rJ:nsIn K mainGlobals "Term"=zR0 rP)
  (mE:nsIn K mainGlobals "Number"=zR0 i)
  (mZ:nsIn K mainGlobals "Place"=zR0 j)
  (oX:nsIn K mainGlobals "Read"=zR0 b)
  (oY:nsIn K mainGlobals "Pair"=zR0 u)
  (oZ:nsIn K mainGlobals "Plus"=zR0 f)
  (nA:nsIn K mainGlobals "Minus"=zR0 g)
  (nB:nsIn K mainGlobals "Times"=zR0 r)
  (qN:nsIn K mainGlobals "Sum"=zR0 d)
  (nC:nsIn K mainGlobals "Guard"=zR0 a)
  (pA:nsIn K mainGlobals "Part"=zR0 q)
  (qO:nsIn K mainGlobals "Let"=zR0 o)
  (lQ:nsIn K mainGlobals "Program"=zR0 p)
  (mF:nsIn K mainGlobals "Lifter"=zR0 k)
  {f0:Addr}
  (a0:nsIn K mainGlobals "copied"=zR0 f0)
  (l0:LkF K "copied" "copied" B6u f0)
  {f1:Addr}
  (a1:nsIn K mainGlobals "copied_dict"=zR0 f1)
  (l1:LkF K "copied_dict" "copied_dict" A7k f1)
  {f2:Addr}
  (a2:findIn K (.ref m) "__init__"=zR0 f2)
  (l2:LkF K "__init__" "Line.__init__" A9s f2)
  (i2:isFn K (.ref f2)=true)
  {Y:Addr}
  (a3:findIn K (.ref n) "__init__"=zR0 Y)
  (l3:LkF K "__init__" "Cloth.__init__" A8q Y)
  (i3:isFn K (.ref Y)=true)
  {f4:Addr}
  (a4:findIn K (.ref i) "__init__"=zR0 f4)
  (l4:LkF K "__init__" "Number.__init__" A7g f4)
  (i4:isFn K (.ref f4)=true)
  {f5:Addr}
  (a5:findIn K (.ref j) "__init__"=zR0 f5)
  (l5:LkF K "__init__" "Place.__init__" A8j f5)
  (i5:isFn K (.ref f5)=true)
  {f6:Addr}
  (a6:findIn K (.ref b) "__init__"=zR0 f6)
  (l6:LkF K "__init__" "Read.__init__" A9m f6)
  (i6:isFn K (.ref f6)=true)
  {S:Addr}
  (a7:findIn K (.ref u) "__init__"=zR0 S)
  (l7:LkF K "__init__" "Pair.__init__" A9k S)
  (i7:isFn K (.ref S)=true)
  {Z:Addr}
  (a8:findIn K (.ref f) "made_of"=zR0 Z)
  (l8:LkF K "made_of" "Plus.made_of" A6p Z)
  (i8:isFn K (.ref Z)=true)
  {W:Addr}
  (a9:findIn K (.ref g) "made_of"=zR0 W)
  (l9:LkF K "made_of" "Minus.made_of" A5s W)
  (i9:isFn K (.ref W)=true)
  {rR:Addr}
  (xM:findIn K (.ref r) "made_of"=zR0 rR)
  (sE:LkF K "made_of" "Times.made_of" A5p rR)
  (sF:isFn K (.ref rR)=true)
  {U:Addr}
  (xN:findIn K (.ref d) "__init__"=zR0 U)
  (sG:LkF K "__init__" "Sum.__init__" B1i U)
  (sH:isFn K (.ref U)=true)
  {rT:Addr}
  (xO:findIn K (.ref a) "__init__"=zR0 rT)
  (sI:LkF K "__init__" "Guard.__init__" A8d rT)
  (sJ:isFn K (.ref rT)=true)
  {rU:Addr}
  (xP:findIn K (.ref a) "made_of"=zR0 rU)
  (sK:LkF K "made_of" "Guard.made_of" A5v rU)
  (sL:isFn K (.ref rU)=true)
  {rV:Addr}
  (xQ:findIn K (.ref q) "__init__"=zR0 rV)
  (sM:LkF K "__init__" "Part.__init__" A9z rV)
  (sN:isFn K (.ref rV)=true)
  {wA:Addr}
  (sO:nsIn K mainGlobals "parts_of"=zR0 wA)
  (sP:LkF K "parts_of" "parts_of" B1r wA)
  {wB:Addr}
  (sQ:nsIn K mainGlobals "parts_from"=zR0 wB)
  (sR:LkF K "parts_from" "parts_from" A8r wB)
  {wC:Addr}
  (sS:nsIn K mainGlobals "parts_right_within"=zR0 wC)
  (sT:LkF K "parts_right_within" "parts_right_within" A3y wC)
  {wD:Addr}
  (sU:nsIn K mainGlobals "sums_at_top"=zR0 wD)
  (sV:LkF K "sums_at_top" "sums_at_top" A7j wD)
  {wE:Addr}
  (sW:nsIn K mainGlobals "within_sums"=zR0 wE)
  (sX:LkF K "within_sums" "within_sums" A7p wE)
  {E:Addr}
  (xR:findIn K (.ref o) "__init__"=zR0 E)
  (sY:LkF K "__init__" "Let.__init__" B1o E)
  (sZ:isFn K (.ref E)=true)
  {rX:Addr}
  (xS:findIn K (.ref p) "__init__"=zR0 rX)
  (tA:LkF K "__init__" "Program.__init__" A6j rX)
  (tB:isFn K (.ref rX)=true)
  {wF:Addr}
  (tC:nsIn K mainGlobals "axis_names"=zR0 wF)
  (tD:LkF K "axis_names" "axis_names" A8e wF)
  {wG:Addr}
  (tE:nsIn K mainGlobals "table_names"=zR0 wG)
  (tF:LkF K "table_names" "table_names" A7l wG)
  {wH:Addr}
  (tG:nsIn K mainGlobals "lengths_of"=zR0 wH)
  (tH:LkF K "lengths_of" "lengths_of" A8f wH)
  {wI:Addr}
  (tI:nsIn K mainGlobals "cloth_of"=zR0 wI)
  (tJ:LkF K "cloth_of" "cloth_of" B1j wI)
  {wJ:Addr}
  (tK:nsIn K mainGlobals "lines_of"=zR0 wJ)
  (tL:LkF K "lines_of" "lines_of" B1p wJ)
  {T:Addr}
  (xT:findIn K (.ref k) "__init__"=zR0 T)
  (tM:LkF K "__init__" "Lifter.__init__" A7t T)
  (tN:isFn K (.ref T)=true)
  {rZ:Addr}
  (xU:findIn K (.ref k) "lift_let"=zR0 rZ)
  (tO:LkF K "lift_let" "Lifter.lift_let" A4r rZ)
  (tP:isFn K (.ref rZ)=true)
  {sA:Addr}
  (xV:findIn K (.ref k) "without_sums"=zR0 sA)
  (tQ:LkF K "without_sums" "Lifter.without_sums" A3u sA)
  (tR:isFn K (.ref sA)=true)
  {sB:Addr}
  (xW:findIn K (.ref k) "lift"=zR0 sB)
  (tS:LkF K "lift" "Lifter.lift" A7f sB)
  (tT:isFn K (.ref sB)=true)
  {sC:Addr}
  (xX:findIn K (.ref k) "fresh_name"=zR0 sC)
  (tU:LkF K "fresh_name" "Lifter.fresh_name" A4e sC)
  (tV:isFn K (.ref sC)=true)
  {wK:Addr}
  (tW:nsIn K mainGlobals "guarded"=zR0 wK)
  (tX:LkF K "guarded" "guarded" B2x wK)
  {wL:Addr}
  (tY:nsIn K mainGlobals "axes_in"=zR0 wL)
  (tZ:LkF K "axes_in" "axes_in" B2t wL)
  {wM:Addr}
  (uA:nsIn K mainGlobals "axes_of"=zR0 wM)
  (uB:LkF K "axes_of" "axes_of" B3s wM)
  {wN:Addr}
  (uC:nsIn K mainGlobals "_law_cell_at"=zR0 wN)
  (uD:LkF K "_law_cell_at" "_law_cell_at" A9w wN)
  {wO:Addr}
  (uE:nsIn K mainGlobals "_law_mixed"=zR0 wO)
  (uF:LkF K "_law_mixed" "_law_mixed" B2u wO)
  {wP:Addr}
  (uG:nsIn K mainGlobals "_law_part"=zR0 wP)
  (uH:LkF K "_law_part" "_law_part" B7l wP)
  {wQ:Addr}
  (uI:nsIn K mainGlobals "_law_names_by"=zR0 wQ)
  (uJ:LkF K "_law_names_by" "_law_names_by" A8l wQ)
  {wR:Addr}
  (uK:nsIn K mainGlobals "_law_number_by"=zR0 wR)
  (uL:LkF K "_law_number_by" "_law_number_by" A7h wR)
  {wS:Addr}
  (uM:nsIn K mainGlobals "_law_many"=zR0 wS)
  (uN:LkF K "_law_many" "_law_many" B6x wS)
  {wT:Addr}
  (uO:nsIn K mainGlobals "_law_axes_by"=zR0 wT)
  (uP:LkF K "_law_axes_by" "_law_axes_by" A9o wT)
  {wU:Addr}
  (uQ:nsIn K mainGlobals "_law_guarded"=zR0 wU)
  (uR:LkF K "_law_guarded" "_law_guarded" A9y wU)
  {wV:Addr}
  (uS:nsIn K mainGlobals "_law_read_by"=zR0 wV)
  (uT:LkF K "_law_read_by" "_law_read_by" A9u wV)
  {wW:Addr}
  (uU:nsIn K mainGlobals "_law_leaf_by"=zR0 wW)
  (uV:LkF K "_law_leaf_by" "_law_leaf_by" A9h wW)
  {wX:Addr}
  (uW:nsIn K mainGlobals "_law_summed"=zR0 wX)
  (uX:LkF K "_law_summed" "_law_summed" B0u wX)
  {wY:Addr}
  (uY:nsIn K mainGlobals "_law_grow"=zR0 wY)
  (uZ:LkF K "_law_grow" "_law_grow" B5y wY)
  {wZ:Addr}
  (vA:nsIn K mainGlobals "_law_weight"=zR0 wZ)
  (vB:LkF K "_law_weight" "_law_weight" B0t wZ)
  {xA:Addr}
  (vC:nsIn K mainGlobals "_law_let_by"=zR0 xA)
  (vD:LkF K "_law_let_by" "_law_let_by" B1b xA)
  {xB:Addr}
  (vE:nsIn K mainGlobals "_law_lengths_by"=zR0 xB)
  (vF:LkF K "_law_lengths_by" "_law_lengths_by" A6s xB)
  {xC:Addr}
  (vG:nsIn K mainGlobals "_law_program_by"=zR0 xC)
  (vH:LkF K "_law_program_by" "_law_program_by" A6r xC)
  {xD:Addr}
  (vI:nsIn K mainGlobals "_law_made"=zR0 xD)
  (vJ:LkF K "_law_made" "_law_made" B6z xD)
  {xE:Addr}
  (vK:nsIn K mainGlobals "_law_made_new"=zR0 xE)
  (vL:LkF K "_law_made_new" "_law_made_new" A8s xE)
  {xF:Addr}
  (vM:nsIn K mainGlobals "_law_made_program"=zR0 xF)
  (vN:LkF K "_law_made_program" "_law_made_program" A5e xF)
  {xG:Addr}
  (vO:nsIn K mainGlobals "_law_cells_of"=zR0 xG)
  (vP:LkF K "_law_cells_of" "_law_cells_of" A8v xG)
  {xH:Addr}
  (vQ:nsIn K mainGlobals "_law_cell"=zR0 xH)
  (vR:LkF K "_law_cell" "_law_cell" B7a xH)
  {xI:Addr}
  (vS:nsIn K mainGlobals "_law_worth"=zR0 xI)
  (vT:LkF K "_law_worth" "_law_worth" B4i xI)
  {xJ:Addr}
  (vU:nsIn K mainGlobals "_law_tables_by"=zR0 xJ)
  (vV:LkF K "_law_tables_by" "_law_tables_by" A7r xJ)
  {xK:Addr}
  (vW:nsIn K mainGlobals "_law_taken"=zR0 xK)
  (vX:LkF K "_law_taken" "_law_taken" B4h xK)
  {xL:Addr}
  (vY:nsIn K mainGlobals "_law_told"=zR0 xL)
  (vZ:LkF K "_law_told" "_law_told" B6h xL)
  {xY:Addr}
  (sD:nsIn K mainGlobals "law"=zR0 xY)
  (rQ:LkF K "law" "law" D2h xY)
  (nD:plainGet K n Str.empty=true)
  (nE:hasDictIn K n=true)
  (nF:plainOver K n=true)
  (nG:findIn K (.ref n) "__setattr__"=some (some (.builtin "object.__setattr__")))
  (nH:makesIn K n=true)
  (nI:keepIn K (.ref n)=true)
  (nJ:findIn K (.ref n) "__init__"=zR0 Y)
  (dM:findIn K (.ref n) "wheel"=zN0)
  (bL:findIn K (.ref n) "lengths"=zN0)
  (cA:findIn K (.ref n) "arrays"=zN0)
  (cB:findIn K (.ref n) "tables"=zN0)
  (dN:findIn K (.ref n) "lines"=zN0)
  (fR:findIn K (.ref n) "outs"=zN0)
  (nK:findIn K (.ref n) "__class__"=zC0)
  (B:specialIn K (.builtin "object.__class__") "__get__"=some (some (.builtin "getset_descriptor.__get__")))
  (I:takesIn K (.builtin "object.__class__")=some true)
  (nL:mroIn K n (.type "object")=some true)
  (D:isClsIn K a=true)
  (P:typeIn K (.ref a)=some (.type "type"))
  (dO:mroIn K n (.ref a)=some false)
  (dP:(Value.ref n == Value.ref a)=false)
  (N:isClsIn K g=true)
  (x:typeIn K (.ref g)=some (.type "type"))
  (dQ:mroIn K n (.ref g)=some false)
  (dR:(Value.ref n == Value.ref g)=false)
  (H:isClsIn K i=true)
  (F:typeIn K (.ref i)=some (.type "type"))
  (cC:mroIn K n (.ref i)=some false)
  (cD:(Value.ref n == Value.ref i)=false)
  (O:isClsIn K u=true)
  (A:typeIn K (.ref u)=some (.type "type"))
  (fS:mroIn K n (.ref u)=some false)
  (fT:(Value.ref n == Value.ref u)=false)
  (y:isClsIn K j=true)
  (M:typeIn K (.ref j)=some (.type "type"))
  (dS:mroIn K n (.ref j)=some false)
  (dT:(Value.ref n == Value.ref j)=false)
  (C:isClsIn K f=true)
  (R:typeIn K (.ref f)=some (.type "type"))
  (fU:mroIn K n (.ref f)=some false)
  (fV:(Value.ref n == Value.ref f)=false)
  (z:isClsIn K b=true)
  (Q:typeIn K (.ref b)=some (.type "type"))
  (fW:mroIn K n (.ref b)=some false)
  (fX:(Value.ref n == Value.ref b)=false)
  (L:isClsIn K d=true)
  (J:typeIn K (.ref d)=some (.type "type"))
  (iK:mroIn K n (.ref d)=some false)
  (iL:(Value.ref n == Value.ref d)=false)
  (nM:plainGet K a Str.empty=true)
  (nN:hasDictIn K a=true)
  (nO:plainOver K a=true)
  (nP:findIn K (.ref a) "__setattr__"=some (some (.builtin "object.__setattr__")))
  (nQ:makesIn K a=true)
  (nR:keepIn K (.ref a)=true)
  (nS:findIn K (.ref a) "__init__"=zR0 rT)
  (fY:findIn K (.ref a) "axis"=zN0)
  (iM:findIn K (.ref a) "low"=zN0)
  (fZ:findIn K (.ref a) "high"=zN0)
  (dU:findIn K (.ref a) "inner"=zN0)
  (dV:findIn K (.ref a) "outer"=zN0)
  (bM:findIn K (.ref a) "made_of"=zR0 rU)
  (nT:findIn K (.ref a) "__class__"=zC0)
  (nU:mroIn K a (.type "object")=some true)
  (dW:mroIn K a (.ref a)=some true)
  (dX:mroIn K a (.ref g)=some false)
  (dY:(Value.ref a == Value.ref g)=false)
  (cE:mroIn K a (.ref i)=some false)
  (cF:(Value.ref a == Value.ref i)=false)
  (gA:mroIn K a (.ref u)=some false)
  (gB:(Value.ref a == Value.ref u)=false)
  (dZ:mroIn K a (.ref j)=some false)
  (eA:(Value.ref a == Value.ref j)=false)
  (gC:mroIn K a (.ref f)=some false)
  (gD:(Value.ref a == Value.ref f)=false)
  (gE:mroIn K a (.ref b)=some false)
  (gF:(Value.ref a == Value.ref b)=false)
  (iN:mroIn K a (.ref d)=some false)
  (iO:(Value.ref a == Value.ref d)=false)
  (qP:plainGet K o Str.empty=true)
  (qQ:hasDictIn K o=true)
  (qR:plainOver K o=true)
  (qS:findIn K (.ref o) "__setattr__"=some (some (.builtin "object.__setattr__")))
  (qT:makesIn K o=true)
  (qU:keepIn K (.ref o)=true)
  (qV:findIn K (.ref o) "__init__"=zR0 E)
  (kN:findIn K (.ref o) "name"=zN0)
  (kO:findIn K (.ref o) "axes"=zN0)
  (kP:findIn K (.ref o) "term"=zN0)
  (qW:findIn K (.ref o) "__class__"=zC0)
  (qX:mroIn K o (.type "object")=some true)
  (kQ:mroIn K o (.type "list")=some false)
  (iP:mroIn K o (.type "tuple")=some false)
  (kR:mroIn K o (.type "dict")=some false)
  (iQ:mroIn K o (.ref a)=some false)
  (iR:(Value.ref o == Value.ref a)=false)
  (iS:mroIn K o (.ref g)=some false)
  (iT:(Value.ref o == Value.ref g)=false)
  (gG:mroIn K o (.ref i)=some false)
  (gH:(Value.ref o == Value.ref i)=false)
  (kS:mroIn K o (.ref u)=some false)
  (kT:(Value.ref o == Value.ref u)=false)
  (iU:mroIn K o (.ref j)=some false)
  (iV:(Value.ref o == Value.ref j)=false)
  (kU:mroIn K o (.ref f)=some false)
  (kV:(Value.ref o == Value.ref f)=false)
  (kW:mroIn K o (.ref b)=some false)
  (kX:(Value.ref o == Value.ref b)=false)
  (lR:mroIn K o (.ref d)=some false)
  (lS:(Value.ref o == Value.ref d)=false)
  (mG:plainGet K k Str.empty=true)
  (mH:hasDictIn K k=true)
  (mI:plainOver K k=true)
  (mJ:findIn K (.ref k) "__setattr__"=some (some (.builtin "object.__setattr__")))
  (mK:makesIn K k=true)
  (mL:keepIn K (.ref k)=true)
  (mM:findIn K (.ref k) "__init__"=zR0 T)
  (cG:findIn K (.ref k) "known"=zN0)
  (cH:findIn K (.ref k) "lines"=zN0)
  (cI:findIn K (.ref k) "lifts"=zN0)
  (bE:findIn K (.ref k) "fresh_name"=zR0 sC)
  (eB:findIn K (.ref k) "lift"=zR0 sB)
  (bH:findIn K (.ref k) "lift_let"=zR0 rZ)
  (bD:findIn K (.ref k) "without_sums"=zR0 sA)
  (mN:findIn K (.ref k) "__class__"=zC0)
  (mO:mroIn K k (.type "object")=some true)
  (cJ:mroIn K k (.ref a)=some false)
  (cK:(Value.ref k == Value.ref a)=false)
  (cL:mroIn K k (.ref g)=some false)
  (cM:(Value.ref k == Value.ref g)=false)
  (bN:mroIn K k (.ref i)=some false)
  (bO:(Value.ref k == Value.ref i)=false)
  (eC:mroIn K k (.ref u)=some false)
  (eD:(Value.ref k == Value.ref u)=false)
  (cN:mroIn K k (.ref j)=some false)
  (cO:(Value.ref k == Value.ref j)=false)
  (eE:mroIn K k (.ref f)=some false)
  (eF:(Value.ref k == Value.ref f)=false)
  (eG:mroIn K k (.ref b)=some false)
  (eH:(Value.ref k == Value.ref b)=false)
  (gI:mroIn K k (.ref d)=some false)
  (gJ:(Value.ref k == Value.ref d)=false)
  (pB:plainGet K m Str.empty=true)
  (pC:hasDictIn K m=true)
  (pD:plainOver K m=true)
  (pE:findIn K (.ref m) "__setattr__"=some (some (.builtin "object.__setattr__")))
  (pF:makesIn K m=true)
  (pG:keepIn K (.ref m)=true)
  (pH:findIn K (.ref m) "__init__"=zR0 f2)
  (iW:findIn K (.ref m) "name"=zN0)
  (iX:findIn K (.ref m) "axes"=zN0)
  (iY:findIn K (.ref m) "sums"=zN0)
  (iZ:findIn K (.ref m) "term"=zN0)
  (pI:findIn K (.ref m) "__class__"=zC0)
  (pJ:mroIn K m (.type "object")=some true)
  (jA:mroIn K m (.type "list")=some false)
  (gK:mroIn K m (.type "tuple")=some false)
  (jB:mroIn K m (.type "dict")=some false)
  (gL:mroIn K m (.ref a)=some false)
  (gM:(Value.ref m == Value.ref a)=false)
  (gN:mroIn K m (.ref g)=some false)
  (gO:(Value.ref m == Value.ref g)=false)
  (eI:mroIn K m (.ref i)=some false)
  (eJ:(Value.ref m == Value.ref i)=false)
  (jC:mroIn K m (.ref u)=some false)
  (jD:(Value.ref m == Value.ref u)=false)
  (gP:mroIn K m (.ref j)=some false)
  (gQ:(Value.ref m == Value.ref j)=false)
  (jE:mroIn K m (.ref f)=some false)
  (jF:(Value.ref m == Value.ref f)=false)
  (jG:mroIn K m (.ref b)=some false)
  (jH:(Value.ref m == Value.ref b)=false)
  (kY:mroIn K m (.ref d)=some false)
  (kZ:(Value.ref m == Value.ref d)=false)
  (nV:plainGet K g Str.empty=true)
  (nW:hasDictIn K g=true)
  (nX:plainOver K g=true)
  (nY:findIn K (.ref g) "__setattr__"=some (some (.builtin "object.__setattr__")))
  (nZ:makesIn K g=true)
  (oA:keepIn K (.ref g)=true)
  (oB:findIn K (.ref g) "__init__"=zR0 S)
  (gR:findIn K (.ref g) "left"=zN0)
  (eK:findIn K (.ref g) "right"=zN0)
  (bP:findIn K (.ref g) "made_of"=zR0 W)
  (oC:findIn K (.ref g) "__class__"=zC0)
  (oD:mroIn K g (.type "object")=some true)
  (eL:mroIn K g (.ref a)=some false)
  (eM:(Value.ref g == Value.ref a)=false)
  (eN:mroIn K g (.ref g)=some true)
  (cP:mroIn K g (.ref i)=some false)
  (cQ:(Value.ref g == Value.ref i)=false)
  (gS:mroIn K g (.ref u)=some true)
  (eO:mroIn K g (.ref j)=some false)
  (eP:(Value.ref g == Value.ref j)=false)
  (gT:mroIn K g (.ref f)=some false)
  (gU:(Value.ref g == Value.ref f)=false)
  (gV:mroIn K g (.ref b)=some false)
  (gW:(Value.ref g == Value.ref b)=false)
  (jI:mroIn K g (.ref d)=some false)
  (jJ:(Value.ref g == Value.ref d)=false)
  (mP:plainGet K i Str.empty=true)
  (mQ:hasDictIn K i=true)
  (mR:plainOver K i=true)
  (mS:findIn K (.ref i) "__setattr__"=some (some (.builtin "object.__setattr__")))
  (mT:makesIn K i=true)
  (mU:keepIn K (.ref i)=true)
  (mV:findIn K (.ref i) "__init__"=zR0 f4)
  (bQ:findIn K (.ref i) "number"=zN0)
  (mW:findIn K (.ref i) "__class__"=zC0)
  (mX:mroIn K i (.type "object")=some true)
  (cR:mroIn K i (.ref a)=some false)
  (cS:(Value.ref i == Value.ref a)=false)
  (cT:mroIn K i (.ref g)=some false)
  (cU:(Value.ref i == Value.ref g)=false)
  (bR:mroIn K i (.ref i)=some true)
  (eQ:mroIn K i (.ref u)=some false)
  (eR:(Value.ref i == Value.ref u)=false)
  (cV:mroIn K i (.ref j)=some false)
  (cW:(Value.ref i == Value.ref j)=false)
  (eS:mroIn K i (.ref f)=some false)
  (eT:(Value.ref i == Value.ref f)=false)
  (eU:mroIn K i (.ref b)=some false)
  (eV:(Value.ref i == Value.ref b)=false)
  (gX:mroIn K i (.ref d)=some false)
  (gY:(Value.ref i == Value.ref d)=false)
  (pK:plainGet K q Str.empty=true)
  (pL:hasDictIn K q=true)
  (pM:plainOver K q=true)
  (pN:findIn K (.ref q) "__setattr__"=some (some (.builtin "object.__setattr__")))
  (pO:makesIn K q=true)
  (pP:keepIn K (.ref q)=true)
  (pQ:findIn K (.ref q) "__init__"=zR0 rV)
  (jK:findIn K (.ref q) "term"=zN0)
  (jL:findIn K (.ref q) "sums"=zN0)
  (eW:findIn K (.ref q) "guards"=zN0)
  (pR:findIn K (.ref q) "__class__"=zC0)
  (pS:mroIn K q (.type "object")=some true)
  (gZ:mroIn K q (.ref a)=some false)
  (hA:(Value.ref q == Value.ref a)=false)
  (hB:mroIn K q (.ref g)=some false)
  (hC:(Value.ref q == Value.ref g)=false)
  (eX:mroIn K q (.ref i)=some false)
  (eY:(Value.ref q == Value.ref i)=false)
  (jM:mroIn K q (.ref u)=some false)
  (jN:(Value.ref q == Value.ref u)=false)
  (hD:mroIn K q (.ref j)=some false)
  (hE:(Value.ref q == Value.ref j)=false)
  (jO:mroIn K q (.ref f)=some false)
  (jP:(Value.ref q == Value.ref f)=false)
  (jQ:mroIn K q (.ref b)=some false)
  (jR:(Value.ref q == Value.ref b)=false)
  (lA:mroIn K q (.ref d)=some false)
  (lB:(Value.ref q == Value.ref d)=false)
  (oE:plainGet K j Str.empty=true)
  (oF:hasDictIn K j=true)
  (oG:plainOver K j=true)
  (oH:findIn K (.ref j) "__setattr__"=some (some (.builtin "object.__setattr__")))
  (oI:makesIn K j=true)
  (oJ:keepIn K (.ref j)=true)
  (oK:findIn K (.ref j) "__init__"=zR0 f5)
  (hF:findIn K (.ref j) "axis"=zN0)
  (oL:findIn K (.ref j) "__class__"=zC0)
  (oM:mroIn K j (.type "object")=some true)
  (eZ:mroIn K j (.ref a)=some false)
  (fA:(Value.ref j == Value.ref a)=false)
  (fB:mroIn K j (.ref g)=some false)
  (fC:(Value.ref j == Value.ref g)=false)
  (cX:mroIn K j (.ref i)=some false)
  (cY:(Value.ref j == Value.ref i)=false)
  (hG:mroIn K j (.ref u)=some false)
  (hH:(Value.ref j == Value.ref u)=false)
  (fD:mroIn K j (.ref j)=some true)
  (hI:mroIn K j (.ref f)=some false)
  (hJ:(Value.ref j == Value.ref f)=false)
  (hK:mroIn K j (.ref b)=some false)
  (hL:(Value.ref j == Value.ref b)=false)
  (jS:mroIn K j (.ref d)=some false)
  (jT:(Value.ref j == Value.ref d)=false)
  (pT:plainGet K f Str.empty=true)
  (pU:hasDictIn K f=true)
  (pV:plainOver K f=true)
  (pW:findIn K (.ref f) "__setattr__"=some (some (.builtin "object.__setattr__")))
  (pX:makesIn K f=true)
  (pY:keepIn K (.ref f)=true)
  (pZ:findIn K (.ref f) "__init__"=zR0 S)
  (jU:findIn K (.ref f) "left"=zN0)
  (hM:findIn K (.ref f) "right"=zN0)
  (cZ:findIn K (.ref f) "made_of"=zR0 Z)
  (qA:findIn K (.ref f) "__class__"=zC0)
  (qB:mroIn K f (.type "object")=some true)
  (hN:mroIn K f (.ref a)=some false)
  (hO:(Value.ref f == Value.ref a)=false)
  (hP:mroIn K f (.ref g)=some false)
  (hQ:(Value.ref f == Value.ref g)=false)
  (fE:mroIn K f (.ref i)=some false)
  (fF:(Value.ref f == Value.ref i)=false)
  (jV:mroIn K f (.ref u)=some true)
  (hR:mroIn K f (.ref j)=some false)
  (hT:(Value.ref f == Value.ref j)=false)
  (jW:mroIn K f (.ref f)=some true)
  (jX:mroIn K f (.ref b)=some false)
  (jY:(Value.ref f == Value.ref b)=false)
  (lC:mroIn K f (.ref d)=some false)
  (lD:(Value.ref f == Value.ref d)=false)
  (lT:plainGet K p Str.empty=true)
  (lU:hasDictIn K p=true)
  (lV:plainOver K p=true)
  (lW:findIn K (.ref p) "__setattr__"=some (some (.builtin "object.__setattr__")))
  (lX:makesIn K p=true)
  (lY:keepIn K (.ref p)=true)
  (lZ:findIn K (.ref p) "__init__"=zR0 rX)
  (bS:findIn K (.ref p) "wheel"=zN0)
  (dA:findIn K (.ref p) "axes"=zN0)
  (bI:findIn K (.ref p) "tables"=zN0)
  (dB:findIn K (.ref p) "lets"=zN0)
  (dC:findIn K (.ref p) "outs"=zN0)
  (mA:findIn K (.ref p) "__class__"=zC0)
  (mB:mroIn K p (.type "object")=some true)
  (bT:mroIn K p (.ref a)=some false)
  (bU:(Value.ref p == Value.ref a)=false)
  (bV:mroIn K p (.ref g)=some false)
  (bW:(Value.ref p == Value.ref g)=false)
  (bJ:mroIn K p (.ref i)=some false)
  (bK:(Value.ref p == Value.ref i)=false)
  (dD:mroIn K p (.ref u)=some false)
  (dE:(Value.ref p == Value.ref u)=false)
  (bX:mroIn K p (.ref j)=some false)
  (bY:(Value.ref p == Value.ref j)=false)
  (dF:mroIn K p (.ref f)=some false)
  (dG:(Value.ref p == Value.ref f)=false)
  (dH:mroIn K p (.ref b)=some false)
  (dI:(Value.ref p == Value.ref b)=false)
  (fG:mroIn K p (.ref d)=some false)
  (fH:(Value.ref p == Value.ref d)=false)
  (qC:plainGet K b Str.empty=true)
  (qD:hasDictIn K b=true)
  (qE:plainOver K b=true)
  (qF:findIn K (.ref b) "__setattr__"=some (some (.builtin "object.__setattr__")))
  (qG:makesIn K b=true)
  (qH:keepIn K (.ref b)=true)
  (qI:findIn K (.ref b) "__init__"=zR0 f6)
  (hU:findIn K (.ref b) "array"=zN0)
  (dJ:findIn K (.ref b) "indexes"=zN0)
  (qJ:findIn K (.ref b) "__class__"=zC0)
  (qK:mroIn K b (.type "object")=some true)
  (hV:mroIn K b (.ref a)=some false)
  (hW:(Value.ref b == Value.ref a)=false)
  (hX:mroIn K b (.ref g)=some false)
  (hZ:(Value.ref b == Value.ref g)=false)
  (fI:mroIn K b (.ref i)=some false)
  (fJ:(Value.ref b == Value.ref i)=false)
  (jZ:mroIn K b (.ref u)=some false)
  (kA:(Value.ref b == Value.ref u)=false)
  (iA:mroIn K b (.ref j)=some false)
  (iB:(Value.ref b == Value.ref j)=false)
  (kB:mroIn K b (.ref f)=some false)
  (kC:(Value.ref b == Value.ref f)=false)
  (kD:mroIn K b (.ref b)=some true)
  (lE:mroIn K b (.ref d)=some false)
  (lF:(Value.ref b == Value.ref d)=false)
  (qY:plainGet K d Str.empty=true)
  (qZ:hasDictIn K d=true)
  (rA:plainOver K d=true)
  (rB:findIn K (.ref d) "__setattr__"=some (some (.builtin "object.__setattr__")))
  (rC:makesIn K d=true)
  (rD:keepIn K (.ref d)=true)
  (rE:findIn K (.ref d) "__init__"=zR0 U)
  (lG:findIn K (.ref d) "axis"=zN0)
  (lH:findIn K (.ref d) "body"=zN0)
  (rF:findIn K (.ref d) "__class__"=zC0)
  (rG:mroIn K d (.type "object")=some true)
  (kE:mroIn K d (.ref a)=some false)
  (kF:(Value.ref d == Value.ref a)=false)
  (kG:mroIn K d (.ref g)=some false)
  (kH:(Value.ref d == Value.ref g)=false)
  (iC:mroIn K d (.ref i)=some false)
  (iD:(Value.ref d == Value.ref i)=false)
  (lI:mroIn K d (.ref u)=some false)
  (lJ:(Value.ref d == Value.ref u)=false)
  (kI:mroIn K d (.ref j)=some false)
  (kJ:(Value.ref d == Value.ref j)=false)
  (lK:mroIn K d (.ref f)=some false)
  (lL:(Value.ref d == Value.ref f)=false)
  (lM:mroIn K d (.ref b)=some false)
  (lN:(Value.ref d == Value.ref b)=false)
  (mC:mroIn K d (.ref d)=some true)
  (oN:plainGet K r Str.empty=true)
  (oO:hasDictIn K r=true)
  (oP:plainOver K r=true)
  (oQ:findIn K (.ref r) "__setattr__"=some (some (.builtin "object.__setattr__")))
  (oR:makesIn K r=true)
  (oS:keepIn K (.ref r)=true)
  (oT:findIn K (.ref r) "__init__"=zR0 S)
  (iE:findIn K (.ref r) "left"=zN0)
  (fK:findIn K (.ref r) "right"=zN0)
  (bZ:findIn K (.ref r) "made_of"=zR0 rR)
  (oU:findIn K (.ref r) "__class__"=zC0)
  (oV:mroIn K r (.type "object")=some true)
  (fL:mroIn K r (.ref a)=some false)
  (fM:(Value.ref r == Value.ref a)=false)
  (fN:mroIn K r (.ref g)=some false)
  (fO:(Value.ref r == Value.ref g)=false)
  (dK:mroIn K r (.ref i)=some false)
  (dL:(Value.ref r == Value.ref i)=false)
  (iF:mroIn K r (.ref u)=some true)
  (fP:mroIn K r (.ref j)=some false)
  (fQ:(Value.ref r == Value.ref j)=false)
  (iG:mroIn K r (.ref f)=some false)
  (iH:(Value.ref r == Value.ref f)=false)
  (iI:mroIn K r (.ref b)=some false)
  (iJ:(Value.ref r == Value.ref b)=false)
  (kK:mroIn K r (.ref d)=some false)
  (kL:(Value.ref r == Value.ref d)=false)
  (kM:nsIn K mainGlobals "isinstance"=zN0)
  (rH:nsIn K mainGlobals "list"=zN0)
  (qL:nsIn K mainGlobals "tuple"=zN0)
  (rI:nsIn K mainGlobals "dict"=zN0)
  (mD:nsIn K mainGlobals "reversed"=zN0)
  (rK:nsIn K mainGlobals "len"=zN0)
  (qM:nsIn K mainGlobals "range"=zN0)
  (rL:nsIn K mainGlobals "int"=zN0)
  (rM:nsIn K mainGlobals "min"=zN0)
  (rN:nsIn K mainGlobals "max"=zN0)
  (rO:nsIn K mainGlobals "zip"=zN0)
  :∃fd:FuncData,(∀(s:Shared) (v:Value),BindsTo s fd ⟨[v],[]⟩ [("_law_script",v)])/\∀base:Heap,K.In base->base.Ns mainGlobals mg->A3h l.prog w K mg base CX0 93 fa fd ["_law_script"] (D2k K):=by
 have e:=e5.symm.trans (Z0f X G sD);cases e;obtain ⟨d0,F0,b0,k0⟩:=A2b (ps:=C0e) l0 (by walk_at "le");obtain ⟨d1,F1,b1,k1⟩:=A2b (ps:=C0e) l1 (by walk_at "le");obtain ⟨d2,F2,b2,k2⟩:=A2b (ps:=E2o) l2 (by walk_at "le");obtain ⟨d3,F3,b3,k3⟩:=A2b (ps:=E3d) l3 (by walk_at "le");obtain ⟨d4,F4,b4,k4⟩:=A2b (ps:=E2k) l4 (by walk_at "le");obtain ⟨d5,F5,b5,k5⟩:=A2b (ps:=["self","axis"]) l5 (by walk_at "le");obtain ⟨d6,F6,b6,k6⟩:=A2b (ps:=E2q) l6 (by walk_at "le");obtain ⟨d7,F7,b7,k7⟩:=A2b (ps:=C5z) l7 (by walk_at "le");obtain ⟨d8,F8,b8,k8⟩:=A2b (ps:=C5z) l8 (by walk_at "le");obtain ⟨d9,F9,b9,k9⟩:=A2b (ps:=C5z) l9 (by walk_at "le");obtain ⟨y6,c3,j0,m3⟩:=A2b (ps:=C5z) sE (by walk_at "le");obtain ⟨z5,m2,p1,v5⟩:=A2b (ps:=E3e) sG (by walk_at "le");obtain ⟨t1,m1,r1,z0⟩:=A2b (ps:=E2p) sI (by walk_at "le");obtain ⟨r8,q3,p7,n6⟩:=A2b (ps:=E3u) sK (by walk_at "le");obtain ⟨d14,g7,c4,w3⟩:=A2b (ps:=E3s) sM (by walk_at "le");obtain ⟨d15,e8,q9,v4⟩:=A2b (ps:=B2d) sP (by walk_at "le");obtain ⟨s7,n9,q6,k16⟩:=A2b (ps:=["part"]) sR (by walk_at "le");obtain ⟨v9,h8,j6,t8⟩:=A2b (ps:=["part"]) sT (by walk_at "le");obtain ⟨y0,i1,q7,v8⟩:=A2b (ps:=B2d) sV (by walk_at "le");obtain ⟨d19,q5,m7,z1⟩:=A2b (ps:=["part"]) sX (by walk_at "le");obtain ⟨u3,m9,o4,t3⟩:=A2b (ps:=D4v) sY (by walk_at "le");obtain ⟨s8,m8,j1,w7⟩:=A2b (ps:=D7g) tA (by walk_at "le");obtain ⟨v0,e4,n4,y1⟩:=A2b (ps:=A9q) tD (by walk_at "le");obtain ⟨d23,c1,p4,y7⟩:=A2b (ps:=A9q) tF (by walk_at "le");obtain ⟨t5,m4,r4,w4⟩:=A2b (ps:=A9q) tH (by walk_at "le");obtain ⟨v1,q2,q0,z6⟩:=A2b (ps:=A9q) tJ (by walk_at "le");obtain ⟨t9,j5,h6,t4⟩:=A2b (ps:=A9q) tL (by walk_at "le");obtain ⟨u6,e3,n1,s0⟩:=A2b (ps:=["self","known"]) tM (by walk_at "le");obtain ⟨z2,p2,m6,n5⟩:=A2b (ps:=["self","let"]) tO (by walk_at "le");obtain ⟨d29,n2,c9,r6⟩:=A2b (ps:=B1z) tQ (by walk_at "le");obtain ⟨s3,h7,g8,c5⟩:=A2b (ps:=B1z) tS (by walk_at "le");obtain ⟨u8,g2,q4,c8⟩:=A2b (ps:=["self"]) tU (by walk_at "le");obtain ⟨w1,p5,o6,w8⟩:=A2b (ps:=["body","guards"]) tX (by walk_at "le");obtain ⟨d33,g6,j8,s6⟩:=A2b (ps:=B2d) tZ (by walk_at "le");obtain ⟨y4,n0,q8,s1⟩:=A2b (ps:=B2d) uB (by walk_at "le");obtain ⟨u9,r2,g5,z9⟩:=A2b (ps:=D6s) uD (by walk_at "le");obtain ⟨t0,m0,m5,y9⟩:=A2b (ps:=C4t) uF (by walk_at "le");obtain ⟨y3,c7,e6,w0⟩:=A2b (ps:=C4t) uH (by walk_at "le");obtain ⟨s9,g0,p3,k38⟩:=A2b (ps:=D7n) uJ (by walk_at "le");obtain ⟨v2,r7,h4,y5⟩:=A2b (ps:=["_law_rest"]) uL (by walk_at "le");obtain ⟨x9,o9,h2,k40⟩:=A2b (ps:=C4p) uN (by walk_at "le");obtain ⟨s5,o0,o2,k41⟩:=A2b (ps:=D8d) uP (by walk_at "le");obtain ⟨y2,g3,g1,w5⟩:=A2b (ps:=D8c) uR (by walk_at "le");obtain ⟨v3,c6,n8,x5⟩:=A2b (ps:=D6y) uT (by walk_at "le");obtain ⟨w2,p6,p0,z3⟩:=A2b (ps:=D7a) uV (by walk_at "le");obtain ⟨d45,r5,o7,x3⟩:=A2b (ps:=D5c) uX (by walk_at "le");obtain ⟨z4,j7,r3,y8⟩:=A2b (ps:=C5n) uZ (by walk_at "le");obtain ⟨u4,j9,p9,s2⟩:=A2b (ps:=C5f) vB (by walk_at "le");obtain ⟨v6,e7,g4,x8⟩:=A2b (ps:=D7d) vD (by walk_at "le");obtain ⟨r9,h0,n3,s4⟩:=A2b (ps:=D4w) vF (by walk_at "le");obtain ⟨t2,o5,c2,w9⟩:=A2b (ps:=C5p) vH (by walk_at "le");obtain ⟨d51,h5,q1,t7⟩:=A2b (ps:=B3g) vJ (by walk_at "le");obtain ⟨x2,e9,o1,t6⟩:=A2b (ps:=B3g) vL (by walk_at "le");obtain ⟨u7,o3,h9,v7⟩:=A2b (ps:=["_law_program"]) vN (by walk_at "le");obtain ⟨w6,h1,i0,x0⟩:=A2b (ps:=C4p) vP (by walk_at "le");obtain ⟨u0,j3,g9,z7⟩:=A2b (ps:=["_law_indexes","_law_at"]) vR (by walk_at "le");obtain ⟨x7,e1,r0,x1⟩:=A2b (ps:=C4n) vT (by walk_at "le");obtain ⟨u2,o8,h3,u5⟩:=A2b (ps:=D6k) vV (by walk_at "le");obtain ⟨x6,j2,e2,x4⟩:=A2b (ps:=D7w) vX (by walk_at "le");obtain ⟨z8,n7,p8,u1⟩:=A2b (ps:=D4y) vZ (by walk_at "le");obtain ⟨_,_,_,_,_,_,_,_,_,rQ,c,e0⟩:=rQ;have c0:=D3s (st:=D2h) rQ c e0;have j4:=c0.binds (ps:=C5p) (by walk_at "le");exact ⟨_,λs v=> .of_eq rfl,λbase _ _=>D9z (t:=⟨m,n,rP,i,j,b,u,f,g,r,d,a,q,o,p,k,f0,_,f1,_,f2,_,Y,_,f4,_,f5,_,f6,_,S,_,Z,_,W,_,rR,_,U,_,rT,_,rU,_,rV,_,wA,_,wB,_,wC,_,wD,_,wE,_,E,_,rX,_,wF,_,wG,_,wH,_,wI,_,wJ,_,T,_,rZ,_,sA,_,sB,_,sC,_,wK,_,wL,_,wM,_,wN,_,wO,_,wP,_,wQ,_,wR,_,wS,_,wT,_,wU,_,wV,_,wW,_,wX,_,wY,_,wZ,_,xA,_,xB,_,xC,_,xD,_,xE,_,xF,_,xG,_,xH,_,xI,_,xJ,_,xK,_,xL,_,fa,_⟩) ⟨⟨F0,Z0f X G a0,b0⟩,⟨F1,Z0f X G a1,b1⟩,⟨F2,b2⟩,⟨F3,b3⟩,⟨F4,b4⟩,⟨F5,b5⟩,⟨F6,b6⟩,⟨F7,b7⟩,⟨F8,b8⟩,⟨F9,b9⟩,⟨c3,j0⟩,⟨m2,p1⟩,⟨m1,r1⟩,⟨q3,p7⟩,⟨g7,c4⟩,⟨e8,Z0f X G sO,q9⟩,⟨n9,Z0f X G sQ,q6⟩,⟨h8,Z0f X G sS,j6⟩,⟨i1,Z0f X G sU,q7⟩,⟨q5,Z0f X G sW,m7⟩,⟨m9,o4⟩,⟨m8,j1⟩,⟨e4,Z0f X G tC,n4⟩,⟨c1,Z0f X G tE,p4⟩,⟨m4,Z0f X G tG,r4⟩,⟨q2,Z0f X G tI,q0⟩,⟨j5,Z0f X G tK,h6⟩,⟨e3,n1⟩,⟨p2,m6⟩,⟨n2,c9⟩,⟨h7,g8⟩,⟨g2,q4⟩,⟨p5,Z0f X G tW,o6⟩,⟨g6,Z0f X G tY,j8⟩,⟨n0,Z0f X G uA,q8⟩,⟨r2,Z0f X G uC,g5⟩,⟨m0,Z0f X G uE,m5⟩,⟨c7,Z0f X G uG,e6⟩,⟨g0,Z0f X G uI,p3⟩,⟨r7,Z0f X G uK,h4⟩,⟨o9,Z0f X G uM,h2⟩,⟨o0,Z0f X G uO,o2⟩,⟨g3,Z0f X G uQ,g1⟩,⟨c6,Z0f X G uS,n8⟩,⟨p6,Z0f X G uU,p0⟩,⟨r5,Z0f X G uW,o7⟩,⟨j7,Z0f X G uY,r3⟩,⟨j9,Z0f X G vA,p9⟩,⟨e7,Z0f X G vC,g4⟩,⟨h0,Z0f X G vE,n3⟩,⟨o5,Z0f X G vG,c2⟩,⟨h5,Z0f X G vI,q1⟩,⟨e9,Z0f X G vK,o1⟩,⟨o3,Z0f X G vM,h9⟩,⟨h1,Z0f X G vO,i0⟩,⟨j3,Z0f X G vQ,g9⟩,⟨e1,Z0f X G vS,r0⟩,⟨o8,Z0f X G vU,h3⟩,⟨j2,Z0f X G vW,e2⟩,⟨n7,Z0f X G vY,p8⟩,⟨c0,Z0f X G sD,j4⟩,Z0f X G oW,Z0f X G mY,Z0f X G mE,Z0f X G mZ,Z0f X G oX,Z0f X G oY,Z0f X G oZ,Z0f X G nA,Z0f X G nB,Z0f X G qN,Z0f X G nC,Z0f X G pA,Z0f X G qO,Z0f X G lQ,Z0f X G mF,⟨nD,nE,nF,nG⟩,⟨nH,nJ,i3,nI⟩,dM,bL,cA,cB,dN,fR,⟨nK,B,I,nL⟩,A0f dP D P dO,A0f dR N x dQ,A0f cD H F cC,A0f fT O A fS,A0f dT y M dS,A0f fV C R fU,A0f fX z Q fW,A0f iL L J iK,⟨nM,nN,nO,nP⟩,⟨nQ,nS,sJ,nR⟩,fY,iM,fZ,dU,dV,⟨bM,sL,n6⟩,⟨nT,B,I,nU⟩,A4t D P dW,A0f dY N x dX,A0f cF H F cE,A0f gB O A gA,A0f eA y M dZ,A0f gD C R gC,A0f gF z Q gE,A0f iO L J iN,⟨qP,qQ,qR,qS⟩,⟨qT,qV,sZ,qU⟩,kN,kO,kP,⟨qW,B,I,qX⟩,kQ,iP,kR,A0f iR D P iQ,A0f iT N x iS,A0f gH H F gG,A0f kT O A kS,A0f iV y M iU,A0f kV C R kU,A0f kX z Q kW,A0f lS L J lR,⟨mG,mH,mI,mJ⟩,⟨mK,mM,tN,mL⟩,cG,cH,cI,⟨bE,tV,c8⟩,⟨eB,tT,c5⟩,⟨bH,tP,n5⟩,⟨bD,tR,r6⟩,⟨mN,B,I,mO⟩,A0f cK D P cJ,A0f cM N x cL,A0f bO H F bN,A0f eD O A eC,A0f cO y M cN,A0f eF C R eE,A0f eH z Q eG,A0f gJ L J gI,⟨pB,pC,pD,pE⟩,⟨pF,pH,i2,pG⟩,iW,iX,iY,iZ,⟨pI,B,I,pJ⟩,jA,gK,jB,A0f gM D P gL,A0f gO N x gN,A0f eJ H F eI,A0f jD O A jC,A0f gQ y M gP,A0f jF C R jE,A0f jH z Q jG,A0f kZ L J kY,⟨nV,nW,nX,nY⟩,⟨nZ,oB,i7,oA⟩,gR,eK,⟨bP,i9,k9⟩,⟨oC,B,I,oD⟩,A0f eM D P eL,A4t N x eN,A0f cQ H F cP,A4t O A gS,A0f eP y M eO,A0f gU C R gT,A0f gW z Q gV,A0f jJ L J jI,⟨mP,mQ,mR,mS⟩,⟨mT,mV,i4,mU⟩,bQ,⟨mW,B,I,mX⟩,A0f cS D P cR,A0f cU N x cT,A4t H F bR,A0f eR O A eQ,A0f cW y M cV,A0f eT C R eS,A0f eV z Q eU,A0f gY L J gX,⟨pK,pL,pM,pN⟩,⟨pO,pQ,sN,pP⟩,jK,jL,eW,⟨pR,B,I,pS⟩,A0f hA D P gZ,A0f hC N x hB,A0f eY H F eX,A0f jN O A jM,A0f hE y M hD,A0f jP C R jO,A0f jR z Q jQ,A0f lB L J lA,⟨oE,oF,oG,oH⟩,⟨oI,oK,i5,oJ⟩,hF,⟨oL,B,I,oM⟩,A0f fA D P eZ,A0f fC N x fB,A0f cY H F cX,A0f hH O A hG,A4t y M fD,A0f hJ C R hI,A0f hL z Q hK,A0f jT L J jS,⟨pT,pU,pV,pW⟩,⟨pX,pZ,i7,pY⟩,jU,hM,⟨cZ,i8,k8⟩,⟨qA,B,I,qB⟩,A0f hO D P hN,A0f hQ N x hP,A0f fF H F fE,A4t O A jV,A0f hT y M hR,A4t C R jW,A0f jY z Q jX,A0f lD L J lC,⟨lT,lU,lV,lW⟩,⟨lX,lZ,tB,lY⟩,bS,dA,bI,dB,dC,⟨mA,B,I,mB⟩,A0f bU D P bT,A0f bW N x bV,A0f bK H F bJ,A0f dE O A dD,A0f bY y M bX,A0f dG C R dF,A0f dI z Q dH,A0f fH L J fG,⟨qC,qD,qE,qF⟩,⟨qG,qI,i6,qH⟩,hU,dJ,⟨qJ,B,I,qK⟩,A0f hW D P hV,A0f hZ N x hX,A0f fJ H F fI,A0f kA O A jZ,A0f iB y M iA,A0f kC C R kB,A4t z Q kD,A0f lF L J lE,⟨qY,qZ,rA,rB⟩,⟨rC,rE,sH,rD⟩,lG,lH,⟨rF,B,I,rG⟩,A0f kF D P kE,A0f kH N x kG,A0f iD H F iC,A0f lJ O A lI,A0f kJ y M kI,A0f lL C R lK,A0f lN z Q lM,A4t L J mC,⟨oN,oO,oP,oQ⟩,⟨oR,oT,i7,oS⟩,iE,fK,⟨bZ,sF,m3⟩,⟨oU,B,I,oV⟩,A0f fM D P fL,A0f fO N x fN,A0f dL H F dK,A4t O A iF,A0f fQ y M fP,A0f iH C R iG,A0f iJ z Q iI,A0f kL L J kK,Z1c X G kM,Z1c X G rH,Z1c X G qL,Z1c X G rI,Z1c X G mD,Z1c X G rK,Z1c X G qM,Z1c X G rL,Z1c X G rM,Z1c X G rN,Z1c X G rO⟩⟩
theorem walk {q:Program} {b:List Str} {YP:World->Heap->Prop} {d:DefRec} {K:Params->Frag} (j:l.most=some 63) (c:d.params.defaults=[])
  (i:∀(w:World) (h:Heap),YP w h->(K w.params).In h)
  (F:∀(w:World) (mg:Str->Option Value) (e:Addr) (h:Heap),(K w.params).In h->h.Ns mainGlobals mg->mg d.name=some (.ref e)->
   ∃fd:FuncData,(∀(s:Shared) (u:Value),BindsTo s fd ⟨[u],[]⟩ [("_law_script",u)])/\∀base:Heap,(K w.params).In base->base.Ns mainGlobals mg->A3h l.prog w (K w.params) mg base CX0 93 e fd ["_law_script"] (D2k (K w.params))) :
  PySem.W.WalkO q b XP YP l.row.toRowW d [] (λf vs=>PySem.call f vs) :=
 L2.D8a (n:=63) (k:=93) (x:="_law_script") (CX:=λ_=>CX0) (sp:=λw=>D2k (K w.params)) j (by decide) c ⟨rfl,by decide,by decide,rfl⟩ i F (λ_ _ a o m _ g=>⟨a,o,rfl,g,m,λ_=>rfl⟩) λ_ _ _ _ _ z=>z
end My
local macro_rules | `(tactic| walk_at "kf") => `(tactic| (refine' My.D9i ?l ?c ?k; (case l => k_is); (case c => k_is); (case k => k_is)))
open PySem PySem.W PyProof.Rows
set_option maxRecDepth 100000 in
set_option maxHeartbeats 0 in
theorem PySem.Challenge.cw_arrayloom_k34_whole_lines_mean_the_lets_holds : PySem.Challenge.rw_arrayloom_k34_whole_lines_mean_the_lets.Holds := by
 w_on;o_law;k_head;(case hw=>w_witness2)
 k_fill
 refine My.walk (l:=PySem.Challenge.rw_arrayloom_k34_whole_lines_mean_the_lets) rfl rfl (λw h Y=>PySem.W.kIn_of Y) ?F
 case F =>
  intro w c b h KX G a;refine' My.E1f KX G a ?_ ?_ ?_ ?_ ?_ ?_ ?_ ?_ ?_ ?_ ?_ ?_ ?_ ?_ ?_ ?_ ?_ ?_ ?_ ?_ ?_ ?_ ?_ ?_ ?_ ?_ ?_ ?_ ?_ ?_ ?_ ?_ ?_ ?_ ?_ ?_ ?_ ?_ ?_ ?_ ?_ ?_ ?_ ?_ ?_ ?_ ?_ ?_ ?_ ?_ ?_ ?_ ?_ ?_ ?_ ?_ ?_ ?_ ?_ ?_ ?_ ?_ ?_ ?_ ?_ ?_ ?_ ?_ ?_ ?_ ?_ ?_ ?_ ?_ ?_ ?_ ?_ ?_ ?_ ?_ ?_ ?_ ?_ ?_ ?_ ?_ ?_ ?_ ?_ ?_ ?_ ?_ ?_ ?_ ?_ ?_ ?_ ?_ ?_ ?_ ?_ ?_ ?_ ?_ ?_ ?_ ?_ ?_ ?_ ?_ ?_ ?_ ?_ ?_ ?_ ?_ ?_ ?_ ?_ ?_ ?_ ?_ ?_ ?_ ?_ ?_ ?_ ?_ ?_ ?_ ?_ ?_ ?_ ?_ ?_ ?_ ?_ ?_ ?_ ?_ ?_ ?_ ?_ ?_ ?_ ?_ ?_ ?_ ?_ ?_ ?_ ?_ ?_ ?_ ?_ ?_ ?_ ?_ ?_ ?_ ?_ ?_ ?_ ?_ ?_ ?_ ?_ ?_ ?_ ?_ ?_ ?_ ?_ ?_ ?_ ?_ ?_ ?_ ?_ ?_ ?_ ?_ ?_ ?_ ?_ ?_ ?_ ?_ ?_ ?_ ?_ ?_ ?_ ?_ ?_ ?_ ?_ ?_ ?_ ?_ ?_ ?_ ?_ ?_ ?_ ?_ ?_ ?_ ?_ ?_ ?_ ?_ ?_ ?_ ?_ ?_ ?_ ?_ ?_ ?_ ?_ ?_ ?_ ?_ ?_ ?_ ?_ ?_ ?_ ?_ ?_ ?_ ?_ ?_ ?_ ?_ ?_ ?_ ?_ ?_ ?_ ?_ ?_ ?_ ?_ ?_ ?_ ?_ ?_ ?_ ?_ ?_ ?_ ?_ ?_ ?_ ?_ ?_ ?_ ?_ ?_ ?_ ?_ ?_ ?_ ?_ ?_ ?_ ?_ ?_ ?_ ?_ ?_ ?_ ?_ ?_ ?_ ?_ ?_ ?_ ?_ ?_ ?_ ?_ ?_ ?_ ?_ ?_ ?_ ?_ ?_ ?_ ?_ ?_ ?_ ?_ ?_ ?_ ?_ ?_ ?_ ?_ ?_ ?_ ?_ ?_ ?_ ?_ ?_ ?_ ?_ ?_ ?_ ?_ ?_ ?_ ?_ ?_ ?_ ?_ ?_ ?_ ?_ ?_ ?_ ?_ ?_ ?_ ?_ ?_ ?_ ?_ ?_ ?_ ?_ ?_ ?_ ?_ ?_ ?_ ?_ ?_ ?_ ?_ ?_ ?_ ?_ ?_ ?_ ?_ ?_ ?_ ?_ ?_ ?_ ?_ ?_ ?_ ?_ ?_ ?_ ?_ ?_ ?_ ?_ ?_ ?_ ?_ ?_ ?_ ?_ ?_ ?_ ?_ ?_ ?_ ?_ ?_ ?_ ?_ ?_ ?_ ?_ ?_ ?_ ?_ ?_ ?_ ?_ ?_ ?_ ?_ ?_ ?_ ?_ ?_ ?_ ?_ ?_ ?_ ?_ ?_ ?_ ?_ ?_ ?_ ?_ ?_ ?_ ?_ ?_ ?_ ?_ ?_ ?_ ?_ ?_ ?_ ?_ ?_ ?_ ?_ ?_ ?_ ?_ ?_ ?_ ?_ ?_ ?_ ?_ ?_ ?_ ?_ ?_ ?_ ?_ ?_ ?_ ?_ ?_ ?_ ?_ ?_ ?_ ?_ ?_ ?_ ?_ ?_ ?_ ?_ ?_ ?_ ?_ ?_ ?_ ?_ ?_ ?_ ?_ ?_ ?_ ?_ ?_ ?_ ?_ ?_ ?_ ?_ ?_ ?_ ?_ ?_ ?_ ?_ ?_ ?_ ?_ ?_ ?_ ?_ ?_ ?_ ?_ ?_ ?_ ?_ ?_ ?_ ?_ ?_ ?_ ?_ ?_ ?_ ?_ ?_ ?_ ?_ ?_ ?_ ?_ ?_ ?_ ?_ ?_ ?_ ?_ ?_ ?_ ?_ ?_ ?_ ?_ ?_ ?_ ?_ ?_ ?_ ?_ ?_ ?_ ?_ ?_ ?_ ?_ ?_ ?_ ?_ ?_ ?_ ?_ ?_ ?_ ?_ ?_ ?_ ?_ ?_ ?_ ?_ ?_ ?_ ?_ ?_ ?_ ?_ ?_ ?_ ?_ ?_ ?_ ?_ ?_ ?_ ?_ ?_ ?_ ?_ ?_ ?_ ?_ ?_ ?_ ?_ ?_ ?_ ?_ ?_ ?_ ?_ ?_ ?_ ?_ ?_ ?_ ?_ ?_ ?_ ?_ ?_
  rotate_left 16
  iterate 16 k_is
  iterate 3 (rotate_left 1;k_is;walk_at "kf")
  iterate 13 (k_is;rotate_left 1;k_is;walk_at "kf")
  iterate 5 (rotate_left 1;k_is;walk_at "kf")
  iterate 2 (k_is;rotate_left 1;k_is;walk_at "kf")
  iterate 5 (rotate_left 1;k_is;walk_at "kf")
  iterate 5 (k_is;rotate_left 1;k_is;walk_at "kf")
  iterate 28 (rotate_left 1;k_is;walk_at "kf")
  iterate 20 k_is
  iterate 8 ((first | rfl | decide);k_is;k_is;k_is)
  iterate 14 k_is
  iterate 7 ((first | rfl | decide);k_is)
  iterate 15 k_is
  iterate 8 ((first | rfl | decide);k_is)
  iterate 16 k_is
  iterate 8 ((first | rfl | decide);k_is)
  iterate 16 k_is
  iterate 8 ((first | rfl | decide);k_is)
  iterate 12 k_is
  iterate 2 ((first | rfl | decide);k_is;k_is)
  iterate 4 ((first | rfl | decide);k_is)
  iterate 10 k_is
  iterate 2 ((first | rfl | decide);k_is)
  iterate 5 (k_is;(first | rfl | decide))
  iterate 13 k_is
  iterate 8 ((first | rfl | decide);k_is)
  iterate 10 k_is
  iterate 4 ((first | rfl | decide);k_is)
  iterate 3 (k_is;(first | rfl | decide))
  iterate 13 k_is
  iterate 3 ((first | rfl | decide);k_is)
  iterate 2 (k_is;(first | rfl | decide);k_is)
  (first | rfl | decide)
  iterate 15 k_is
  iterate 8 ((first | rfl | decide);k_is)
  iterate 11 k_is
  iterate 6 ((first | rfl | decide);k_is)
  k_is
  (first | rfl | decide)
  iterate 12 k_is
  iterate 7 ((first | rfl | decide);k_is)
  iterate 13 k_is
  iterate 3 ((first | rfl | decide);k_is)
  iterate 4 (k_is;(first | rfl | decide))
  iterate 11 k_is
