import PyProof.Rows.All
import Wide.All
import OpenK.AllK
import Wide.FinOn
import Lean
import PySem.Challenge.RW_arrayloom_k57_needs_told
set_option compiler.extract_closed false
section
open PySem PySem.Spec PyProof.Rows PySem.Calls
abbrev bc:=@wpAny_bind
abbrev fS:=@Heap.get?_push_of_some
abbrev lj:=@List.mem_append_right
abbrev fY:=@List.getElem?_eq_some_iff
abbrev ck:=@wpAny_pure
abbrev lL:=@List.mem_append_left
abbrev gc:=@List.length_append
abbrev iw:=@List.mem_append
abbrev eA:=@List.length_map
abbrev fH:=@Nat.le_refl
abbrev fW:=@Heap.lt_size
abbrev gU:=@List.getElem?_eq_getElem
abbrev gR:=@Heap.get?_push_size
abbrev kr:=@PyProof.Rows.boot_isinstance
abbrev gB:=@List.mem_cons
abbrev iL:=@List.size_toArray
abbrev im:=@Nat.ne_of_lt
abbrev nK:=@Option.map_eq_some_iff
abbrev lK:=@List.length_singleton
abbrev jW:=@PySem.F.plainAttrs_list
abbrev ox:=@List.nodup_append
abbrev mI:=@PyProof.Rows.boot_tuple
abbrev lJ:=@PySem.F.slot_list_append
abbrev lI:=@PySem.F.type_list_append
abbrev gA:=@List.map_cons
abbrev jM:=@Nat.lt_of_lt_of_le
abbrev qG:=@PySem.boot_len
abbrev gy:=@List.map_append
abbrev bp:=@if_neg
abbrev kQ:=@List.append_nil
abbrev gL:=@Bool.false_ne_true
abbrev gz:=@List.mem_singleton
abbrev jd:=@List.length_take
abbrev gZ:=@List.length_cons
abbrev iE:=@List.append_assoc
abbrev jE:=@wpAny_mono
abbrev jc:=@wpAny_field
abbrev bz:=@if_pos
abbrev gq:=@List.mem_of_getElem?
abbrev gW:=@List.take_add_one
abbrev ou:=@List.nodup_cons
abbrev kP:=@wpAny_newObj_type
abbrev sZ:=@List.cons_append
abbrev hZ:=@List.take_length
abbrev ot:=@List.length_drop
abbrev iO:=@Option.some.inj
abbrev lh:=@wpAny_callSpecial?_slot
abbrev qF:=@Heap.get?_update_other
abbrev jj:=@Nat.zero_le
abbrev jD:=@List.mem_cons_of_mem
abbrev jb:=@wpAny_call_entry
abbrev jV:=@wpAny_setField_rec
abbrev mf:=@List.not_mem_nil
abbrev gK:=@decide_eq_false
abbrev mH:=@List.getElem?_append_right
abbrev oZ:=@Array.getElem?_eq_some_iff
abbrev jU:=@Nat.le_trans
abbrev nq:=@PyProof.Rows.boot_list
abbrev oq:=@Int.emod_lt_of_pos
abbrev jm:=@Nat.ne_of_gt
abbrev oY:=@Heap.get?_update_self
abbrev me:=@Heap.size_push
abbrev pN:=@wpAny_setField
abbrev sW:=@List.drop_eq_getElem_cons
abbrev om:=@Int.emod_nonneg
abbrev jC:=@wpAny_holding
abbrev sV:=@wpAny_standAt
abbrev ju:=@List.getElem?_map
abbrev iY:=@decide_eq_true
abbrev jL:=@wpAny_seqItems
abbrev oX:=@beq_eq_false_iff_ne
abbrev vm:=@List.getElem?_set_self
abbrev mG:=@List.getElem?_append_left
abbrev jG:=@List.mem_cons_self
abbrev nJ:=@List.lookup_cons
abbrev vk:=@List.getElem?_set_ne
abbrev sU:=@wpAny_execs_nil
abbrev gY:=@List.mem_map
abbrev np:=@List.take_append_drop
abbrev jt:=@Option.toList_some
abbrev kZ:=@List.length_nil
abbrev nn:=@List.find?_cons
abbrev nI:=@List.take_of_length_le
abbrev oV:=@List.getElem?_zip_eq_some
abbrev nG:=@List.length_eq_zero_iff
abbrev sT:=@List.take_sublist
abbrev mT:=@List.mem_of_mem_take
abbrev qE:=@PyProof.Rows.boot_dict
end
noncomputable section
open PySem.W (Frag findIn nsIn mroIn kitOne keepIn typeIn hideAll isFn plainGet isClsIn hasDictIn exmOne plainOver makesIn clsIn fnOf emptyDict instObj excIn kitAny takesIn specialIn subIn codeIn)
set_option Elab.async false
set_option bootstrap.genMatcherCode false
set_option linter.all false
set_option maxRecDepth 100000
set_option maxHeartbeats 4000000
section
variable{G:Prop}{T0 T1 T2 T3 T4 T5 T6 T7 T8 T9 T10 T11 T12 T13:Sort _}{A0 A1 A2 A3 A4 A5:Prop}{B0 B1 B2 B3:T0->Prop}{C0 C1 C2 C3 C4 C5:T0->T1->Prop}{D0 D1 D2 D3 D4 D5:T0->T1->T2->Prop}{E0 E1 E2 E3 E4 E5:T0->T1->T2->T3->Prop}{F0 F1 F2 F3 F4 F5 F6 F7 F8:T0->T1->T2->T3->T4->Prop}{G0 G1 G2 G3 G4 G5 G6 G7 G8:T0->T1->T2->T3->T4->T5->Prop}{H0:T0->T1->T2->T3->T4->T5->T6->Prop}{J0:T0->T1->T2->T3->T4->T5->T6->T7->T8->Prop}{O0:T0->T1->T2->T3->T4->T5->T6->T7->T8->T9->T10->T11->T12->T13->Prop}
theorem fL:A0->A1->A2->A0/\A1/\A2:=λm n i=>⟨m,n,i⟩
theorem gk:A0->∀x,B0 x->A0/\∃x,B0 x:=λm x n=>⟨m,x,n⟩
theorem bd:∀x,B0 x->B1 x->∃x,B0 x/\B1 x:=λx m n=>⟨x,m,n⟩
theorem ij:∀x y,C0 x y->∃x y,C0 x y:=λx y m=>⟨x,y,m⟩
theorem iW:A0->A1->A2->A3->A0/\A1/\A2/\A3:=λm n i j=>⟨m,n,i,j⟩
theorem gT:A0->∀x,B0 x->B1 x->A0/\∃x,B0 x/\B1 x:=λm x n i=>⟨m,x,n,i⟩
theorem fJ:∀x,B0 x->B1 x->B2 x->∃x,B0 x/\B1 x/\B2 x:=λx m n i=>⟨x,m,n,i⟩
theorem gF:∀x y,C0 x y->C1 x y->∃x y,C0 x y/\C1 x y:=λx y m n=>⟨x,y,m,n⟩
theorem jF:∀x y z,D0 x y z->∃x y z,D0 x y z:=λx y z m=>⟨x,y,z,m⟩
theorem iV:A0->A1->A2->A3->A4->A0/\A1/\A2/\A3/\A4:=λm n i j k=>⟨m,n,i,j,k⟩
theorem iK:A0->A1->∀x,B0 x->B1 x->A0/\A1/\∃x,B0 x/\B1 x:=λm n x i j=>⟨m,n,x,i,j⟩
theorem kY:A0->∀x,B0 x->B1 x->B2 x->A0/\∃x,B0 x/\B1 x/\B2 x:=λm x n i j=>⟨m,x,n,i,j⟩
theorem md:A0->∀x y,C0 x y->C1 x y->A0/\∃x y,C0 x y/\C1 x y:=λm x y n i=>⟨m,x,y,n,i⟩
theorem iU:∀x,B0 x->B1 x->B2 x->B3 x->∃x,B0 x/\B1 x/\B2 x/\B3 x:=λx m n i j=>⟨x,m,n,i,j⟩
theorem pM:∀x,B0 x->B1 x->∀y,C0 x y->∃x,B0 x/\B1 x/\∃y,C0 x y:=λx m n y i=>⟨x,m,n,y,i⟩
theorem iJ:∀x,B0 x->∀y,C0 x y->C1 x y->∃x,B0 x/\∃y,C0 x y/\C1 x y:=λx m y n i=>⟨x,m,y,n,i⟩
theorem fC:∀x y,C0 x y->C1 x y->C2 x y->∃x y,C0 x y/\C1 x y/\C2 x y:=λx y m n i=>⟨x,y,m,n,i⟩
theorem iC:∀x y z,D0 x y z->D1 x y z->∃x y z,D0 x y z/\D1 x y z:=λx y z m n=>⟨x,y,z,m,n⟩
theorem jh:A0->A1->A2->A3->A4->A5->A0/\A1/\A2/\A3/\A4/\A5:=λm n i j k l=>⟨m,n,i,j,k,l⟩
theorem jg:A0->∀x y,C0 x y->C1 x y->C2 x y->A0/\∃x y,C0 x y/\C1 x y/\C2 x y:=λm x y n i j=>⟨m,x,y,n,i,j⟩
theorem jA:∀x,B0 x->B1 x->∀y,C0 x y->C1 x y->∃x,B0 x/\B1 x/\∃y,C0 x y/\C1 x y:=λx m n y i j=>⟨x,m,n,y,i,j⟩
theorem iB:∀x,B0 x->∀y,C0 x y->C1 x y->C2 x y->∃x,B0 x/\∃y,C0 x y/\C1 x y/\C2 x y:=λx m y n i j=>⟨x,m,y,n,i,j⟩
theorem ga:∀x y,C0 x y->C1 x y->C2 x y->C3 x y->∃x y,C0 x y/\C1 x y/\C2 x y/\C3 x y:=λx y m n i j=>⟨x,y,m,n,i,j⟩
theorem iM:∀x y z,D0 x y z->D1 x y z->D2 x y z->∃x y z,D0 x y z/\D1 x y z/\D2 x y z:=λx y z m n i=>⟨x,y,z,m,n,i⟩
theorem fZ:∀x,B0 x->∀y z,D0 x y z->D1 x y z->D2 x y z->∃x,B0 x/\∃y z,D0 x y z/\D1 x y z/\D2 x y z:=λx m y z n i j=>⟨x,m,y,z,n,i,j⟩
theorem jr:∀x y,C0 x y->C1 x y->C2 x y->C3 x y->C4 x y->∃x y,C0 x y/\C1 x y/\C2 x y/\C3 x y/\C4 x y:=λx y m n i j k=>⟨x,y,m,n,i,j,k⟩
theorem gE:∀x y z,D0 x y z->D1 x y z->D2 x y z->D3 x y z->∃x y z,D0 x y z/\D1 x y z/\D2 x y z/\D3 x y z:=λx y z m n i j=>⟨x,y,z,m,n,i,j⟩
theorem qB:A0->∀x,B0 x->∀y,C0 x y->C1 x y->∀z,D0 x y z->A0/\∃x,B0 x/\∃y,C0 x y/\C1 x y/\∃z,D0 x y z:=λm x n y i j z k=>⟨m,x,n,y,i,j,z,k⟩
theorem kX:A0->∀x y,C0 x y->C1 x y->C2 x y->C3 x y->C4 x y->A0/\∃x y,C0 x y/\C1 x y/\C2 x y/\C3 x y/\C4 x y:=λm x y n i j k l=>⟨m,x,y,n,i,j,k,l⟩
theorem ma:∀x,B0 x->∀y,C0 x y->∀z u v,F0 x y z u v->∃x,B0 x/\∃y,C0 x y/\∃z u v,F0 x y z u v:=λx m y n z u v i=>⟨x,m,y,n,z,u,v,i⟩
theorem jz:∀x y,C0 x y->C1 x y->C2 x y->C3 x y->C4 x y->C5 x y->∃x y,C0 x y/\C1 x y/\C2 x y/\C3 x y/\C4 x y/\C5 x y:=λx y m n i j k l=>⟨x,y,m,n,i,j,k,l⟩
theorem iH:∀x y z,D0 x y z->D1 x y z->D2 x y z->D3 x y z->D4 x y z->∃x y z,D0 x y z/\D1 x y z/\D2 x y z/\D3 x y z/\D4 x y z:=λx y z m n i j k=>⟨x,y,z,m,n,i,j,k⟩
theorem iu:∀x y z u v w p,H0 x y z u v w p->∃x y z u v w p,H0 x y z u v w p:=λx y z u v w p m=>⟨x,y,z,u,v,w,p,m⟩
theorem sS:∀x,B0 x->B1 x->∀y,C0 x y->C1 x y->C2 x y->∀z,D0 x y z->∃x,B0 x/\B1 x/\∃y,C0 x y/\C1 x y/\C2 x y/\∃z,D0 x y z:=λx m n y i j k z l=>⟨x,m,n,y,i,j,k,z,l⟩
theorem ig:∀x,B0 x->∀y,C0 x y->∀z u,E0 x y z u->E1 x y z u->E2 x y z u->∃x,B0 x/\∃y,C0 x y/\∃z u,E0 x y z u/\E1 x y z u/\E2 x y z u:=λx m y n z u i j k=>⟨x,m,y,n,z,u,i,j,k⟩
theorem mR:∀x y z,D0 x y z->D1 x y z->D2 x y z->D3 x y z->D4 x y z->D5 x y z->∃x y z,D0 x y z/\D1 x y z/\D2 x y z/\D3 x y z/\D4 x y z/\D5 x y z:=λx y z m n i j k l=>⟨x,y,z,m,n,i,j,k,l⟩
theorem hU:∀x y z u,E0 x y z u->E1 x y z u->E2 x y z u->E3 x y z u->E4 x y z u->∃x y z u,E0 x y z u/\E1 x y z u/\E2 x y z u/\E3 x y z u/\E4 x y z u:=λx y z u m n i j k=>⟨x,y,z,u,m,n,i,j,k⟩
theorem iG:∀x y z u,E0 x y z u->E1 x y z u->E2 x y z u->E3 x y z u->E4 x y z u->E5 x y z u->∃x y z u,E0 x y z u/\E1 x y z u/\E2 x y z u/\E3 x y z u/\E4 x y z u/\E5 x y z u:=λx y z u m n i j k l=>⟨x,y,z,u,m,n,i,j,k,l⟩
theorem i12:∀x,B0 x->∀y z u v,F0 x y z u v->F1 x y z u v->F2 x y z u v->F3 x y z u v->F4 x y z u v->∃x,B0 x/\∃y z u v,F0 x y z u v/\F1 x y z u v/\F2 x y z u v/\F3 x y z u v/\F4 x y z u v:=λx m y z u v n i j k l=>⟨x,m,y,z,u,v,n,i,j,k,l⟩
theorem kN:∀x y z u v,F0 x y z u v->F1 x y z u v->F2 x y z u v->F3 x y z u v->F4 x y z u v->F5 x y z u v->∃x y z u v,F0 x y z u v/\F1 x y z u v/\F2 x y z u v/\F3 x y z u v/\F4 x y z u v/\F5 x y z u v:=λx y z u v m n i j k l=>⟨x,y,z,u,v,m,n,i,j,k,l⟩
theorem lH:∀x,B0 x->∀y z u v,F0 x y z u v->F1 x y z u v->F2 x y z u v->F3 x y z u v->F4 x y z u v->F5 x y z u v->∃x,B0 x/\∃y z u v,F0 x y z u v/\F1 x y z u v/\F2 x y z u v/\F3 x y z u v/\F4 x y z u v/\F5 x y z u v:=λx m y z u v n i j k l o=>⟨x,m,y,z,u,v,n,i,j,k,l,o⟩
theorem iT:∀x,B0 x->∀y z u v,F0 x y z u v->F1 x y z u v->F2 x y z u v->∀w,G0 x y z u v w->G1 x y z u v w->∃x,B0 x/\∃y z u v,F0 x y z u v/\F1 x y z u v/\F2 x y z u v/\∃w,G0 x y z u v w/\G1 x y z u v w:=λx m y z u v n i j w k l=>⟨x,m,y,z,u,v,n,i,j,w,k,l⟩
theorem km:∀x y,C0 x y->C1 x y->C2 x y->∀z u,E0 x y z u->∀v w,G0 x y z u v w->G1 x y z u v w->∃x y,C0 x y/\C1 x y/\C2 x y/\∃z u,E0 x y z u/\∃v w,G0 x y z u v w/\G1 x y z u v w:=λx y m n i z u j v w k l=>⟨x,y,m,n,i,z,u,j,v,w,k,l⟩
theorem iS:∀x y z u v,F0 x y z u v->F1 x y z u v->F2 x y z u v->F3 x y z u v->F4 x y z u v->F5 x y z u v->F6 x y z u v->∃x y z u v,F0 x y z u v/\F1 x y z u v/\F2 x y z u v/\F3 x y z u v/\F4 x y z u v/\F5 x y z u v/\F6 x y z u v:=λx y z u v m n i j k l o=>⟨x,y,z,u,v,m,n,i,j,k,l,o⟩
theorem jJ:∀x,B0 x->∀y,C0 x y->∀z u v w,G0 x y z u v w->G1 x y z u v w->G2 x y z u v w->G3 x y z u v w->G4 x y z u v w->∃x,B0 x/\∃y,C0 x y/\∃z u v w,G0 x y z u v w/\G1 x y z u v w/\G2 x y z u v w/\G3 x y z u v w/\G4 x y z u v w:=λx m y n z u v w i j k l o=>⟨x,m,y,n,z,u,v,w,i,j,k,l,o⟩
theorem jf:∀x,B0 x->∀y z u v w,G0 x y z u v w->G1 x y z u v w->G2 x y z u v w->G3 x y z u v w->G4 x y z u v w->G5 x y z u v w->∃x,B0 x/\∃y z u v w,G0 x y z u v w/\G1 x y z u v w/\G2 x y z u v w/\G3 x y z u v w/\G4 x y z u v w/\G5 x y z u v w:=λx m y z u v w n i j k l o=>⟨x,m,y,z,u,v,w,n,i,j,k,l,o⟩
theorem kM:∀x,B0 x->∀y,C0 x y->∀z u v w,G0 x y z u v w->G1 x y z u v w->G2 x y z u v w->G3 x y z u v w->G4 x y z u v w->G5 x y z u v w->∃x,B0 x/\∃y,C0 x y/\∃z u v w,G0 x y z u v w/\G1 x y z u v w/\G2 x y z u v w/\G3 x y z u v w/\G4 x y z u v w/\G5 x y z u v w:=λx m y n z u v w i j k l o a=>⟨x,m,y,n,z,u,v,w,i,j,k,l,o,a⟩
theorem sR:∀x y z u v,F0 x y z u v->F1 x y z u v->F2 x y z u v->F3 x y z u v->F4 x y z u v->F5 x y z u v->F6 x y z u v->F7 x y z u v->F8 x y z u v->∃x y z u v,F0 x y z u v/\F1 x y z u v/\F2 x y z u v/\F3 x y z u v/\F4 x y z u v/\F5 x y z u v/\F6 x y z u v/\F7 x y z u v/\F8 x y z u v:=λx y z u v m n i j k l o a b=>⟨x,y,z,u,v,m,n,i,j,k,l,o,a,b⟩
theorem kK:∀x y z u v w,G0 x y z u v w->G1 x y z u v w->G2 x y z u v w->G3 x y z u v w->G4 x y z u v w->G5 x y z u v w->G6 x y z u v w->G7 x y z u v w->G8 x y z u v w->∃x y z u v w,G0 x y z u v w/\G1 x y z u v w/\G2 x y z u v w/\G3 x y z u v w/\G4 x y z u v w/\G5 x y z u v w/\G6 x y z u v w/\G7 x y z u v w/\G8 x y z u v w:=λx y z u v w m n i j k l o a b=>⟨x,y,z,u,v,w,m,n,i,j,k,l,o,a,b⟩
theorem iD(h:∃x,B0 x/\B1 x/\B2 x)(f:∀x,B0 x->B1 x->B2 x->G):G:=by obtain⟨x,m,n,i⟩:=h;exact f x m n i
theorem iN(h:∃x y z,D0 x y z)(f:∀x y z,D0 x y z->G):G:=by obtain⟨x,y,z,m⟩:=h;exact f x y z m
theorem ji(h:A0/\A1/\A2/\A3/\A4)(f:A0->A1->A2->A3->A4->G):G:=by obtain⟨m,n,i,j,k⟩:=h;exact f m n i j k
theorem nk(h:A0/\A1/\∃x,B0 x/\B1 x)(f:A0->A1->∀x,B0 x->B1 x->G):G:=by obtain⟨m,n,x,i,j⟩:=h;exact f m n x i j
theorem iX(h:A0/\∃x y,C0 x y/\C1 x y)(f:A0->∀x y,C0 x y->C1 x y->G):G:=by obtain⟨m,x,y,n,i⟩:=h;exact f m x y n i
theorem fO(h:∃x y,C0 x y/\C1 x y/\C2 x y)(f:∀x y,C0 x y->C1 x y->C2 x y->G):G:=by obtain⟨x,y,m,n,i⟩:=h;exact f x y m n i
theorem fV(h:∃x y,C0 x y/\C1 x y/\C2 x y/\C3 x y)(f:∀x y,C0 x y->C1 x y->C2 x y->C3 x y->G):G:=by obtain⟨x,y,m,n,i,j⟩:=h;exact f x y m n i j
theorem jK(h:∃x y z,D0 x y z/\D1 x y z/\D2 x y z)(f:∀x y z,D0 x y z->D1 x y z->D2 x y z->G):G:=by obtain⟨x,y,z,m,n,i⟩:=h;exact f x y z m n i
theorem ik(h:∃x y z u v,F0 x y z u v)(f:∀x y z u v,F0 x y z u v->G):G:=by obtain⟨x,y,z,u,v,m⟩:=h;exact f x y z u v m
theorem gn(h:∃x y z,D0 x y z/\D1 x y z/\D2 x y z/\D3 x y z)(f:∀x y z,D0 x y z->D1 x y z->D2 x y z->D3 x y z->G):G:=by obtain⟨x,y,z,m,n,i,j⟩:=h;exact f x y z m n i j
theorem qD(h:A0/\∃x,B0 x/\∃y,C0 x y/\C1 x y/\∃z,D0 x y z)(f:A0->∀x,B0 x->∀y,C0 x y->C1 x y->∀z,D0 x y z->G):G:=by obtain⟨m,x,n,y,i,j,z,k⟩:=h;exact f m x n y i j z k
theorem oU(h:∃x y,C0 x y/\C1 x y/\∃z u v,F0 x y z u v)(f:∀x y,C0 x y->C1 x y->∀z u v,F0 x y z u v->G):G:=by obtain⟨x,y,m,n,z,u,v,i⟩:=h;exact f x y m n z u v i
theorem ko(h:A0/\A1/\∃x,B0 x/\∃y z u,E0 x y z u/\E1 x y z u)(f:A0->A1->∀x,B0 x->∀y z u,E0 x y z u->E1 x y z u->G):G:=by obtain⟨m,n,x,i,y,z,u,j,k⟩:=h;exact f m n x i y z u j k
theorem iq(h:∃x y z u,E0 x y z u/\E1 x y z u/\E2 x y z u/\E3 x y z u/\E4 x y z u)(f:∀x y z u,E0 x y z u->E1 x y z u->E2 x y z u->E3 x y z u->E4 x y z u->G):G:=by obtain⟨x,y,z,u,m,n,i,j,k⟩:=h;exact f x y z u m n i j k
theorem jB(h:∃x y z u v w p q r,J0 x y z u v w p q r)(f:∀x y z u v w p q r,J0 x y z u v w p q r->G):G:=by obtain⟨x,y,z,u,v,w,p,q,r,m⟩:=h;exact f x y z u v w p q r m
theorem kO(h:∃x y z u v,F0 x y z u v/\F1 x y z u v/\F2 x y z u v/\F3 x y z u v/\F4 x y z u v/\F5 x y z u v)(f:∀x y z u v,F0 x y z u v->F1 x y z u v->F2 x y z u v->F3 x y z u v->F4 x y z u v->F5 x y z u v->G):G:=by obtain⟨x,y,z,u,v,m,n,i,j,k,l⟩:=h;exact f x y z u v m n i j k l
theorem kn(h:∃x y z u v w,G0 x y z u v w/\G1 x y z u v w/\G2 x y z u v w/\G3 x y z u v w/\G4 x y z u v w)(f:∀x y z u v w,G0 x y z u v w->G1 x y z u v w->G2 x y z u v w->G3 x y z u v w->G4 x y z u v w->G):G:=by obtain⟨x,y,z,u,v,w,m,n,i,j,k⟩:=h;exact f x y z u v w m n i j k
theorem qC(h:∃x y z u v w p q r s t a b c,O0 x y z u v w p q r s t a b c)(f:∀x y z u v w p q r s t a b c,O0 x y z u v w p q r s t a b c->G):G:=by obtain⟨x,y,z,u,v,w,p,q,r,s,t,a,b,c,m⟩:=h;exact f x y z u v w p q r s t a b c m
end
abbrev zW:=PySem.Addr
abbrev zX:=PySem.Value
abbrev zY:=PySem.Shared
abbrev zZ:=PySem.Around
abbrev yA:=PySem.Heap
abbrev yB:=PySem.Program
abbrev yC:=PySem.Expr
abbrev yD:=PySem.World
namespace L2
open PySem PySem.Spec PyProof.Rows
abbrev Key:=Sum Int Str
abbrev _root_.zA:=zX->zY->Prop
abbrev _root_.zB:=List (Str×List Str)
abbrev _root_.zC:=List Str
abbrev _root_.zD:=List (zW×Obj)
abbrev _root_.zE:=Str->Option zX
abbrev _root_.zF:=Array (Option zX)
abbrev _root_.zG:=Array zX
abbrev _root_.zH:=List zX
abbrev _root_.zI:=List Int
abbrev _root_.zL:=List (Str×Int)
abbrev _root_.zN:=Option zX
abbrev _root_.zO:=Option zW
abbrev _root_.zQ:=List zW
abbrev _root_.zR:=Str->Int
abbrev _root_.zS:=FuncData
abbrev _root_.zT:=List yC
abbrev _root_.zU:=List Key
abbrev _root_.zV:=zW->Prop
def mW:Key->zX->Bool|.inl k,v=>Value.isInt k v|.inr x,v=>Value.isStrOf x v
def keyH(w:yD):Key->Int|.inl k=>hashInt k|.inr x=>hashStr w x
theorem lG:∀{k:Key}{v:zX},mW k v=true->(∃i t,k=Sum.inl i/\v=Value.int i t)\/(∃x t,k=Sum.inr x/\v=Value.str x t)|.inl i,v,h=>by obtain⟨t,e⟩:=Value.isInt_shape (k:=i) (v:=v) h;exact .inl (gF i t rfl e)|.inr x,v,h=>by obtain⟨t,e⟩:=Value.isStrOf_shape (x:=x) (v:=v) h;exact .inr (gF x t rfl e)
theorem EB(i:Int)(t:Tok):mW (.inl i) (.int i t)=true:=by simp[mW,Value.isInt]
theorem Er(x:Str)(t:Tok):mW (.inr x) (.str x t)=true:=by simp[mW,Value.isStrOf]
theorem Bz(a b:Int):decide ((Sum.inl a:Key)=Sum.inl b)=(a==b):=by
 by_cases e:a=b
 ·subst e;simp
 ·have h:¬(Sum.inl a:Key)=Sum.inl b:=λq=>e (Sum.inl.inj q);rw[gK h];exact(oX.mpr e).symm
theorem BM(a b:Str):decide ((Sum.inr a:Key)=Sum.inr b)=decide (a=b):=by
 by_cases e:a=b
 ·subst e;simp
 ·have h:¬(Sum.inr a:Key)=Sum.inr b:=λq=>e (Sum.inr.inj q);rw[gK h,gK e]
theorem BE(a:Int)(b:Str):decide ((Sum.inl a:Key)=Sum.inr b)=false:=gK (λq=>nomatch q)
theorem Bv(a:Str)(b:Int):decide ((Sum.inr a:Key)=Sum.inl b)=false:=gK (λq=>nomatch q)
def gG(prog:yB)(w:yD):PySem.KeyKind prog w Key where
 is:=mW
 hash:=keyH w
 inj:=λv a b g d=>by
  rcases lG g with ⟨i,t,rfl,rfl⟩|⟨x,t,rfl,rfl⟩
  ·rcases lG d with ⟨j,u,rfl,e⟩|⟨y,u,rfl,e⟩
   ·injection e with e1 _;rw[e1]
   ·exact nomatch e
  ·rcases lG d with ⟨j,u,rfl,e⟩|⟨y,u,rfl,e⟩
   ·exact nomatch e
   ·injection e with e1 _;rw[e1]
 byValue:=λk v h=>by rcases lG h with ⟨i,t,rfl,rfl⟩|⟨x,t,rfl,rfl⟩<;>rfl
 pyHash:=λc h=>by
  rcases lG c with ⟨i,t,rfl,rfl⟩|⟨x,t,rfl,rfl⟩
  ·exact wpAny_pyHash_int h
  ·exact wpAny_pyHash_str h
 eqBool:=λf c h=>by
  rcases lG f with ⟨i,t,rfl,rfl⟩|⟨x,t,rfl,rfl⟩
  ·rcases lG c with ⟨j,u,rfl,rfl⟩|⟨y,u,rfl,rfl⟩
   ·rw[Bz]at h;exact wpAny_eqBool_int h
   ·rw[BE]at h;exact SeqAt.EqAt.int_str i t y u _ _ _ _ h
  ·rcases lG c with ⟨j,u,rfl,rfl⟩|⟨y,u,rfl,rfl⟩
   ·rw[Bv]at h;exact SeqAt.EqAt.str_int x t j u _ _ _ _ h
   ·rw[BM]at h;exact wpAny_eqBool_str h
 «strs»:=λk x t v h=>by
  rcases lG h with ⟨i,u,rfl,e⟩|⟨y,u,rfl,e⟩
  ·exact nomatch e
  ·injection e with e1 _;subst e1;cases v<;>rfl
theorem Ab(prog:yB)(w:yD)(i:Int)(t:Tok):(gG prog w).is (.inl i) (.int i t)=true:=EB i t
theorem Gu(prog:yB)(w:yD)(x:Str)(t:Tok):(gG prog w).is (.inr x) (.str x t)=true:=Er x t
inductive V where
 |non|bl (b:Bool)|int (i:Int)|str (x:Str)|byt (b:Array UInt8)|flt (b:UInt64)|ref (a:zW)|ty (n:String)
 deriving DecidableEq
abbrev _root_.zJ:=List (Key×V)
abbrev _root_.zK:=List (Str×V)
abbrev _root_.zM:=List V
abbrev _root_.zP:=Option V
def A2h:V->zX->Prop|.non,u=>u=Value.none|.bl b,u=>u=Value.bool b|.int i,u=>∃t,u=Value.int i t|.str x,u=>∃t,u=Value.str x t|.byt b,u=>∃t,u=Value.bytes b t|.flt b,u=>∃t,u=Value.float b t|.ref a,u=>u=Value.ref a|.ty n,u=>u=Value.type n
abbrev A3b:zM->List zX->Prop:=Paired A2h
theorem A3b.length{xs:zM}{us:zH}(r:A3b xs us):xs.length=us.length:=Paired.length r
theorem A3b.get:∀{xs:zM}{us:zH}{i:Nat}{x:V},A3b xs us->xs[i]?=some x->∃u,us[i]?=some u/\A2h x u|_,_,_,_,.nil,e=>by simp at e|_,_,0,_,.cons r _,e=>by simp at e;subst e;exact bd _ rfl r|_,_,i+1,x,.cons _ t,e=>by obtain⟨u,a,b⟩:=A3b.get (i:=i) (x:=x) t (by simpa using e);exact bd u (by simpa using a) b
theorem A3b.append:∀{xs ys:zM}{us a:zH},A3b xs us->A3b ys a->A3b (xs++ys) (us++a)|_,_,_,_,.nil,s=>s|_,_,_,_,.cons r t,s=>.cons r (A3b.append t s)
theorem A3b.take:∀{xs:zM}{us:zH}(n:Nat),A3b xs us->A3b (xs.take n) (us.take n)|_,_,0,_=>.nil|_,_,_+1,.nil=>.nil|_,_,n+1,.cons r t=>.cons r (A3b.take n t)
theorem A3b.drop:∀{xs:zM}{us:zH}(n:Nat),A3b xs us->A3b (xs.drop n) (us.drop n)|_,_,0,r=>r|_,_,_+1,.nil=>.nil|_,_,n+1,.cons _ t=>A3b.drop n t
def B2e:zP->Option zX->Prop|some v,some u=>A2h v u|none,none=>True|_,_=>False
def KV{κ:Type}:List (κ×V)->List (κ×zX)->Prop:=Paired λ(p:κ×V)(q:κ×zX)=>p.1=q.1/\A2h p.2 q.2
def kV:Key->V|.inl i=>.int i|.inr x=>.str x
inductive HO where|lst (xs:zM)|tup (xs:zM)|dK (kvs:zJ)|dT (kvs:List (List Key×V))|set (S:Int->Bool) (n:Nat)|ins (C dx:zW) (fs:zK)|own (x:zW)|xd (fs:zK)|met (f x:zW)|rng (lo hi:Int)|frz (o:Obj) (u:HO)|tbl (ps:zG)|ext (φ:yA->Prop)
abbrev Hp:=zW->Option HO
def upd(H:Hp)(a:zW)(o:HO):Hp:=λb=>if b=a then some o else H b
theorem dh{H:Hp}{a:zW}{o:HO}:upd H a o a=some o:=by unfold upd;rw[bz rfl]
theorem eh{H:Hp}{a b:zW}{o:HO}(h:b≠a):upd H a o b=H b:=by unfold upd;rw[bp h]
theorem oK{H:Hp}{a:zW}{o u:HO}:upd (upd H a o) a u=upd H a u:=by funext b;unfold upd;split<;>rfl
theorem gN{H:Hp}{a b:zW}{o u:HO}(h:H a=some o)(h':H b=some u)(d:o≠u):a≠b:=by intro e;subst e;rw[h]at h';exact d (iO h')
theorem gh{H:Hp}{a b:zW}{o:HO}(h:H a=some o)(h':H b=none):a≠b:=by intro e;subst e;rw[h]at h';cases h'
section
variable(P:yB)(w:yD)
def A1w(H:Hp)(h:yA)(a:zW):HO->Prop
 |.lst c=>c.length<=sizeLine/\∃(b:zH)(n:Nat),A3b c b/\h.get? a=some {cls:=.type "list",data:=.seq b.toArray n}
 |.tup c=>c.length<=sizeLine/\∃b:zH,A3b c b/\IsTup h a b.toArray
 |.dK kvs=>kvs.length<=sizeLine/\(a==sysModules)=false/\∃e,KV kvs e/\h.DictOf (gG P w) a e
 |.dT kvs=>kvs.length<=sizeLine/\(a==sysModules)=false/\∃c:List (List Key×zW×zX),
   Paired (λ(p:List Key×V)(q:List Key×zW×zX)=>p.1=q.1/\H q.2.1=some (.tup (p.1.map kV))/\A2h p.2 q.2.2) kvs c/\
   ∃o g k,h.get? a=some o/\o.ExactDict/\o.data=.dict g k/\g.toList=c.map (entryOfKey (tupleKind (gG P w)))/\(c.map (·.1)).Nodup
 |.set S n=>h.SetOf (intKind P w) a S n
 |.ins C dx fs=>H dx=some (.own a)/\fs.length<=1000/\dx≠a/\h.get? a=some (instObj C dx)/\
   ∃d,h.Ns1 dx d/\(∀f,B2e (fs.lookup f) (d f))/\PySem.Within d (fs.map (·.1))
 |.own _=>∃o,h.get? a=some o
 |.xd fs=>∃d,h.Ns1 a d/\∀f,B2e (fs.lookup f) (d f)
 |.rng lo hi=>∃t u v,h.get? a=some {cls:=.type "range",data:=.fields #[.int lo t,.int hi u,.int 1 v]}
 |.frz o u=>h.get? a=some o/\A1w H h a u
 |.tbl ps=>h.get? a=some {cls:=.none,data:=.fields ps}
 |.met f x=>h.get? a=some (PySem.W.methodObj (.ref f) (.ref x))
 |.ext φ=>φ h/\(∃o,h.get? a=some o)/\∀i j:yA,φ i->(∀o,i.get? a=some o->j.get? a=some o)->φ j
def HOk(H:Hp)(h:yA):Prop:=∀a o,H a=some o->A1w P w H h a o
end
section
variable{P:yB}{w:yD}{H H':Hp}{h h':yA}{a:zW}{o:HO}
theorem A1w.lt(x:A1w P w H h a o):a<h.objs.size:=by
 cases o with
 |lst xs=>(refine iX x λ_ _ _ _ e=>?_;clear x);exact fW e
 |tup xs=>obtain⟨_,_,_,p⟩:=x;exact p.lt
 |dK kvs=>(refine ko x λ_ _ _ _ o _ _ e _=>?_;clear x);exact fW e
 |dT kvs=>(refine ko x λ_ _ _ _ o _ _ e _=>?_;clear x);exact fW e
 |set S n=>(refine iN x ?_;clear x;rintro o _ _ ⟨_,e,_⟩);exact fW e
 |ins C dx fs=>(refine ji x λ_ _ _ e _=>?_;clear x);exact fW e
 |own y=>obtain⟨_,e⟩:=x;exact fW e
 |xd fs=>obtain⟨_,⟨_,_,_,e,_⟩,_⟩:=x;exact fW e
 |rng lo hi=>obtain⟨_,_,_,e⟩:=x;exact fW e
 |frz ob u=>obtain⟨e,_⟩:=x;exact fW e
 |tbl ps=>exact fW (show h.get? a=some _ from x)
 |met f y=>exact fW (show h.get? a=some _ from x)
 |ext φ=>obtain⟨_,⟨_,e⟩,_⟩:=x;exact fW e
theorem Paired.mapP{α β:Type}{F G:α->β->Prop}:∀{d:List α}{c:List β},Paired F d c->(∀a b,F a b->G a b)->Paired G d c|_,_,.nil,_=>.nil|_,_,.cons r t,f=>.cons (f _ _ r) (Paired.mapP t f)
theorem A1w.stay(x:A1w P w H h a o)(k:∀b u,(b=a\/H b=some (.own a))->h.get? b=some u->h'.get? b=some u)
  (I:∀b,H b=some (.own a)->H' b=some (.own a)) (G:∀b xs,H b=some (.tup xs)->H' b=some (.tup xs)):A1w P w H' h' a o:=by
 induction o with
 |lst xs=>(refine iX x λz l n r e=>?_;clear x);exact md z l n r (k _ _ (.inl rfl) e)
 |tup xs=>obtain⟨z,l,r,g,e,c⟩:=x;exact⟨z,(iJ l r g (k _ _ (.inl rfl) e) c)⟩
 |dK kvs=>(refine ko x λz y F r g i j e c=>?_;clear x);exact iK z y F r (iC g i j (k _ _ (.inl rfl) e) c)
 |dT kvs=>refine ko x λz y xs r g i j e c=>?_;clear x;exact iK z y xs (Paired.mapP r λp q z=>(fL z.1 (G _ _ z.2.1) z.2.2)) (iC g i j (k _ _ (.inl rfl) e) c)
 |set S n=>(refine iN x ?_;clear x;rintro g i j ⟨t,e,c⟩);exact⟨g,(iC i j t (k _ _ (.inl rfl) e) c)⟩
 |ins C dx fs=>refine ji x ?_;clear x;rintro d z D e ⟨s,⟨m,i,j,B,c⟩,r⟩;exact fL (I _ d) z (iK D (k _ _ (.inl rfl) e) s (iC m i j (k _ _ (.inr d) B) c) r)
 |own y=>obtain⟨g,e⟩:=x;exact⟨g,k _ _ (.inl rfl) e⟩
 |xd fs=>obtain⟨s,⟨m,i,j,e,c⟩,r⟩:=x;exact bd s (iC m i j (k _ _ (.inl rfl) e) c) r
 |rng lo hi=>obtain⟨t,u,v,e⟩:=x;exact jF t u v (k _ _ (.inl rfl) e)
 |frz g u ih=>obtain⟨e,q⟩:=x;exact⟨k _ _ (.inl rfl) e,ih q⟩
 |tbl ps=>have e:h.get? a=some {cls:=.none,data:=.fields ps}:=x;show h'.get? a=some {cls:=.none,data:=.fields ps};exact k a _ (.inl rfl) e
 |met f y=>have e:h.get? a=some (PySem.W.methodObj (.ref f) (.ref y)):=x;show h'.get? a=some (PySem.W.methodObj (.ref f) (.ref y));exact k a _ (.inl rfl) e
 |ext φ=>obtain⟨p,⟨o,e⟩,A⟩:=x;exact fL (A _ _ p λo q=>k _ _ (.inl rfl) q) ⟨o,k _ _ (.inl rfl) e⟩ A
theorem HOk.lt(x:HOk P w H h)(e:H a=some o):a<h.objs.size:=(x a o e).lt
theorem HOk.fresh(x:HOk P w H h)(e:h.objs.size<=a):H a=none:=by
 cases q:H a with
 |none=>rfl
 |some u=>exact absurd (jM (x.lt q) e) (Nat.lt_irrefl _)
theorem HOk.kept(x:HOk P w H h)(k:∀b u,h.get? b=some u->h'.get? b=some u):HOk P w H h':=λa o e=>(x a o e).stay (λb u _ q=>k b u q) (λ_ q=>q) λ_ _ q=>q
theorem HOk.laid(x:HOk P w H h)(k:∀b u,h.get? b=some u->h'.get? b=some u)(g:h.objs.size<=a)(d:A1w P w (upd H a o) h' a o):HOk P w (upd H a o) h':=λb u e=>by
 have f:=x.fresh g;by_cases hb:b=a
 ·subst hb;rw[dh]at e;cases e;exact d
 ·rw[eh hb]at e;exact(x b u e).stay (λc v _ q=>k c v q) (λc q=>by rw[eh (gh q f)];exact q) λc i q=>by rw[eh (gh q f)];exact q
end
def Rd(H:Hp)(a:zW)(u:HO):Prop:=H a=some u\/∃o,H a=some (.frz o u)
theorem Rd.ok{P:yB}{w:yD}{H:Hp}{h:yA}{a:zW}{u:HO}(r:Rd H a u)(x:HOk P w H h):A1w P w H h a u:=by
 rcases r with r|⟨o,r⟩
 ·exact x a u r
 ·obtain⟨_,q⟩:=x a _ r;exact q
def Mut:Option HO->Prop|some (.lst _)=>True|some (.dK _)=>True|some (.dT _)=>True|some (.set _ _)=>True|some (.ins _ _ _)=>True|some (.ext _)=>True|_=>False
section
variable{P:yB}{w:yD}{H:Hp}{h h':yA}{x e:zW}{o':HO}
theorem HOk.write(p:HOk P w H h)(g:Mut (H x))(m:e=x\/H e=some (.own x))(k:∀b u,b≠e->h.get? b=some u->h'.get? b=some u)(j:∃u,h'.get? e=some u)
  (l:A1w P w (upd H x o') h' x o'):HOk P w (upd H x o') h':=λb u q=>by
 have a:∀c y,H c=some (.own y)->c≠x:=λc y r z=>by subst z;rw[r]at g;exact g
 have d:∀c i,H c=some (.tup i)->c≠x:=λc i r z=>by subst z;rw[r]at g;exact g
 by_cases hb:b=x
 ·subst hb;rw[dh]at q;cases q;exact l
 ·rw[eh hb]at q;by_cases hbe:b=e
  ·have n:H b=some (.own x):=by
    rcases m with z|z
    ·exact absurd (hbe.trans z) hb
    ·rw[hbe];exact z
   rw[q]at n;cases n;obtain⟨v,o⟩:=j;exact⟨v,by rw[hbe];exact o⟩
  ·refine(p b u q).stay (λc v f r=>k c v ?_ r) (λc r=>by rw[eh (a c b r)];exact r) λc i r=>by rw[eh (d c i r)];exact r
   rcases f with rfl|f
   ·exact hbe
   ·rintro rfl;rcases m with z|z
    ·exact a c b f z
    ·rw[f]at z;cases z;exact hb rfl
end
structure Un(fs ex:zQ)(H H':Hp)(h h':yA):Prop where
 keep:∀b o,h.get? b=some o->H b=none->b∉fs->b∉ex->h'.get? b=some o
 slot:∀b o,h.get? b=some o->H b=none->b∈fs->b∉ex->∃sl,h'.get? b=some {o with slots:=sl}
 free:∀b o,h.get? b=some o->H b=none->b∉ex->H' b=none
 there:∀b o,h.get? b=some o->b∉ex->∃o',h'.get? b=some o'
 tups:∀b xs,H b=some (.tup xs)->H' b=some (.tup xs)
 frzs:∀b o u,H b=some (.frz o u)->H' b=some (.frz o u)
 tbls:∀b ps,H b=some (.tbl ps)->∃more,H' b=some (.tbl (ps++more))
section
variable{fs fs' ex ex':zQ}{H H1 H2:Hp}{h h1 h2 h':yA}{a x e:zW}{o:HO}
theorem Un.any(u:Un fs ex H H1 h h1){b:zW}{a:Obj}(q:h.get? b=some a)(n:H b=none)(c:b∉ex):∃sl,h1.get? b=some {a with slots:=sl}:=by
 by_cases hb:b∈fs
 ·exact u.slot b a q n hb c
 ·exact⟨a.slots,u.keep b a q n hb c⟩
theorem Un.kept(k:∀b u,h.get? b=some u->h'.get? b=some u):Un fs ex H H h h' :=⟨λb a q _ _ _=>k b a q,λb a q _ _ _=>⟨a.slots,k b a q⟩,λ_ _ _ n _=>n,λb a q _=>⟨a,k b a q⟩,λ_ _ q=>q,λ_ _ _ q=>q,λ_ c q=>⟨#[],by rw[q];simp⟩⟩
theorem Un.refl:Un fs ex H H h h:=Un.kept λ_ _ q=>q
theorem Un.laid(k:∀b u,h.get? b=some u->h'.get? b=some u)(d:h.objs.size<=a)(c:H a=none):Un fs ex H (upd H a o) h h' where
 keep:=λb u q _ _ _=>k b u q
 slot:=λb u q _ _ _=>⟨u.slots,k b u q⟩
 free:=λb u q n _=>by rw[eh (im (jM (fW q) d))];exact n
 there:=λb u q _=>⟨u,k b u q⟩
 tups:=λb e q=>by rw[eh (gh q c)];exact q
 frzs:=λb u e q=>by rw[eh (gh q c)];exact q
 tbls:=λb f q=>⟨#[],by rw[eh (gh q c),q];simp⟩
theorem Un.write(a:Mut (H x))(j:e=x\/H e=some (.own x))(k:∀b u,b≠e->h.get? b=some u->h'.get? b=some u)(d:∃u,h'.get? e=some u):Un fs ex H (upd H x o) h h':=by
 have g:∀b,H b=none->b≠x:=λb n z=>by subst z;rw[n]at a;exact a
 have f:∀b,H b=none->b≠e:=λb n z=>by
  subst z;rcases j with r|r
  ·exact g b n r
  ·rw[n]at r;cases r
 have c:∀b u,H b=some u->¬Mut (some u)->b≠x:=λb u q l z=>by subst z;rw[q]at a;exact l a
 refine⟨λb u q n _ _=>k b u (f b n) q,λb u q n _ _=>⟨u.slots,k b u (f b n) q⟩,λb u q n _=>by rw[eh (g b n)];exact n,λb u q _=>?_,
  λb i q=>by rw[eh (c b _ q λz=>z)];exact q,λb u i q=>by rw[eh (c b _ q λz=>z)];exact q,λb m q=>⟨#[],by rw[eh (c b _ q λz=>z),q];simp⟩⟩
 by_cases hbe:b=e
 ·subst hbe;exact d
 ·exact⟨u,k b u hbe q⟩
end
def trk(h:yA)(H:Hp):zQ:=(List.range h.objs.size).filter λa=>(H a).isSome
def nu(h:yA)(H:Hp):yA:=hideAll h (trk h H)
theorem Fb(h:yA)(H:Hp):(nu h H).objs.size=h.objs.size:=PySem.W.hideAll_size _ _
theorem D6{h:yA}{H:Hp}{b:zW}{o:Obj}(e:h.get? b=some o)(n:H b=none):(nu h H).get? b=some o :=PySem.W.hideAll_get _ e λa=>by have q:(H b).isSome=true:=(List.mem_filter.mp a).2;rw[n]at q;simp at q
theorem CM{h:yA}{H:Hp}{b:zW}{o:Obj}(e:(nu h H).get? b=some o):h.get? b=some o/\H b=none:=by
 have a:h.get? b=some o:=PySem.W.of_hideAll (trk h H) e;refine⟨a,?_⟩
 cases q:H b with
 |none=>rfl
 |some x=>have c:b∈trk h H:=List.mem_filter.mpr ⟨List.mem_range.mpr (fW a),by simp[q]⟩;have z:(nu h H).get? b=none:=PySem.W.hideAll_none (trk h H) c;rw[z]at e;cases e
structure Mod(K:Frag)(mg:zE)(base:yA):Prop where
 kin:K.In base
 glob:base.Ns mainGlobals mg
 blt:∃mb,base.Ns builtinsNs mb/\∀x:Str,x≠"__name__"->mb x=bootBuiltins x
 nolimit:base.NoLimit
structure Cx where
 prog:yB
 w:yD
 K:Frag
 mg:Str->Option zX
 base:yA
 A:zZ
 N:zC
 s₀:zY
 H₀:Hp
 env:Env
 outer:List Env
 stack:List Env
 ex:zQ
 fn:Str->Bool
 calm:Bool
 pn:zD
 xe:zX->zY->Prop
def frs(l:List Env):zQ:=l.filterMap (·.frame)
abbrev Cx.fs(X:Cx):zQ:=frs X.outer
def Vis(a:Scope)(x:Str):Prop:=a.names.lookup x=some .local\/a.names.lookup x=some .cell\/a.names.lookup x=some .free
def Loc(a:Scope)(x:Str):Prop:=a.names.lookup x=some .local\/a.names.lookup x=some .cell
def Look(a:Env)(h:yA)(m:zE)(x:Str)(u:zX):Prop :=(a.kindOf x=some .local/\m x=some u)\/((a.kindOf x=some .cell\/a.kindOf x=some .free)/\∃c,a.cells.lookup x=some c/\h.IsCell c (some u))
structure Cx.Ok(X:Cx):Prop where
 mod:Mod X.K X.mg X.base
 kind:X.env.scope.kind=.function
 glob:X.env.globals=mainGlobals
 blt:X.env.builtins=builtinsNs
 above:X.s₀.heap.objs.size<=X.env.locals
 inj:∀x y c,X.env.cells.lookup x=some c->X.env.cells.lookup y=some c->x=y
 has:∀x,(X.env.kindOf x=some .cell\/X.env.kindOf x=some .free)->∃c,X.env.cells.lookup x=some c
 cab:∀x c,X.fn x=true->X.env.cells.lookup x=some c->X.s₀.heap.objs.size<=c
 hd:X.calm=true->X.A.handled=none
 frames:X.A.frames=some X.stack
 stk:X.stack=X.outer\/(X.stack=X.env::X.outer/\X.env.frame=some X.env.locals)
 exf:∀b∈X.ex,b≠X.env.locals/\∀x c,X.env.cells.lookup x=some c->c≠b
 bs:∀b o,X.base.get? b=some o->X.s₀.heap.get? b=some o/\X.H₀ b=none
 bsz:X.base.objs.size<=X.s₀.heap.objs.size
 noex:∀b o,X.base.get? b=some o->b∉X.ex
 exfs:∀b∈X.ex,b∉X.fs
 funs:X.s₀.heap.FunFrames X.base X.outer
 frf:∀b∈X.fs,X.H₀ b=none
structure Inv(X:Cx)(pins:zD)(Z:List zP)(H:Hp)(s:zY):Prop where
 ok:X.Ok
 os:s.os=X.s₀.os
 bare:AllBare s.gens
 base:Un X.fs X.ex X.H₀ H X.s₀.heap s.heap
 loc:∃m,s.heap.Ns X.env.locals m/\∀(i:Nat)(x:Str)(v:V),X.N[i]?=some x->Z[i]?=some (some v)->Vis X.env.scope x->∃u,A2h v u/\Look X.env s.heap m x u
 cell:∀x c,X.env.cells.lookup x=some c->∃v,s.heap.IsCell c v
 free:H X.env.locals=none
 freeC:∀x c,X.env.cells.lookup x=some c->H c=none
 pin:∀p∈X.pn++pins,s.heap.get? p.1=some p.2/\H p.1=none/\p.1≠X.env.locals/\p.1∉X.fs/\∀v,p.2.data≠.cell v
 hok:HOk X.prog X.w H s.heap
 len:Z.length=X.N.length
section
variable{X:Cx}{pins:zD}{Z:List zP}{H H':Hp}{s:zY}{h':yA}
theorem Cx.Ok.nofr(c:X.Ok){b:zW}{o:Obj}(e:X.base.get? b=some o):b∉X.fs:=λa=>by have:=(c.funs.mem a).1;rw[e]at this;cases this
theorem Inv.bs(I:Inv X pins Z H s):∀b o,X.base.get? b=some o->s.heap.get? b=some o/\H b=none:=λb o e=>⟨I.base.keep b o (I.ok.bs b o e).1 (I.ok.bs b o e).2 (I.ok.nofr e) (I.ok.noex b o e),I.base.free b o (I.ok.bs b o e).1 (I.ok.bs b o e).2 (I.ok.noex b o e)⟩
theorem Inv.bk(I:Inv X pins Z H s):∀b o,X.base.get? b=some o->s.heap.get? b=some o:=λb o e=>(I.bs b o e).1
theorem Inv.mod(I:Inv X pins Z H s):Mod X.K X.mg X.base:=I.ok.mod
theorem Inv.kIn(I:Inv X pins Z H s):X.K.In s.heap:=I.ok.mod.kin.keeps I.bk
theorem Inv.lt(I:Inv X pins Z H s):X.env.locals<s.heap.objs.size:=let⟨_,hn,_⟩:=I.loc;hn.lt
theorem Inv.sz(I:Inv X pins Z H s):X.s₀.heap.objs.size<=s.heap.objs.size:=jU I.ok.above (Nat.le_of_lt I.lt)
theorem Inv.nofs(I:Inv X pins Z H s){a:zW}(h:s.heap.objs.size<=a):a∉X.fs:=λb=>by obtain⟨_,o,c,_⟩:=I.ok.funs.mem b;exact absurd (jM (fW c) (jU I.sz h)) (Nat.lt_irrefl _)
theorem Inv.cne(I:Inv X pins Z H s):∀x c,X.env.cells.lookup x=some c->c≠X.env.locals:=λx c e z=>by obtain⟨v,o,f,d⟩:=I.cell x c e;obtain⟨m,⟨g,i,h,a,b,_⟩,_⟩:=I.loc;rw[z,a]at f;cases f;rw[b]at d;cases d
theorem Inv.funs(I:Inv X pins Z H s):s.heap.FunFrames X.base X.outer:=by
 have f:∀(l:List Env),(∀b∈frs l,b∈X.fs)->X.s₀.heap.FunFrames X.base l->s.heap.FunFrames X.base l:=by
  intro l
  induction l with
  |nil=>intro _ _;trivial
  |cons env r ih=>intro g h;obtain⟨m,⟨L,o,d,i,n,j⟩,k⟩:=h;have c:L∈X.fs:=g L (by unfold frs;rw[List.filterMap_cons,d];exact jG);obtain⟨p,e⟩:=I.base.slot L o n (I.ok.frf L c) c λz=>I.ok.exfs L z c;exact fL m (ga L _ d i e j) (ih (λb a=>g b (by unfold frs;rw[List.filterMap_cons,d];exact jD _ a)) k)
 exact f X.outer (λ_ a=>a) I.ok.funs
theorem Inv.stack(I:Inv X pins Z H s):s.heap.FunFrames X.base X.stack:=by
 rcases I.ok.stk with e|⟨e,b⟩
 ·rw[e];exact I.funs
 ·rw[e];obtain⟨m,a,_⟩:=I.loc;refine .cons (by rw[I.ok.kind];decide) b a ?_ I.funs;exact Heap.get?_none_of_le (jU I.ok.bsz I.ok.above)
theorem Inv.stkSub(I:Inv X pins Z H s):∀b∈frs X.stack,b∈X.env.locals::X.fs:=λb a=>by
 rcases I.ok.stk with e|⟨e,c⟩
 ·rw[e]at a;exact jD _ a
 ·rw[e]at a;unfold frs at a;rw[List.filterMap_cons,c]at a;exact a
theorem Inv.stkFree(I:Inv X pins Z H s):∀b∈frs X.stack,H b=none:=λb a=>by
 rcases gB.mp (I.stkSub b a)with e|a
 ·rw[e];exact I.free
 ·obtain⟨_,o,c,_⟩:=I.ok.funs.mem a;exact I.base.free b o c (I.ok.frf b a) λz=>I.ok.exfs b z a
theorem Inv.step{g':Array GenState}{t':Nat}{d':Drawn}{ch:zQ}(I:Inv X pins Z H s)
  (t:∀b∈ch,(b∈X.ex\/X.s₀.heap.objs.size<=b)/\b≠X.env.locals/\(∀x c,X.env.cells.lookup x=some c->c≠b)/\∀p∈X.pn++pins,p.1≠b)
  (h:∀b o,b≠X.env.locals->b∉X.fs->b∉ch->s.heap.get? b=some o->H b=none->h'.get? b=some o)
  (B:∀b o,b≠X.env.locals->b∈X.fs->b∉ch->s.heap.get? b=some o->H b=none->∃sl,h'.get? b=some {o with slots:=sl}) (f:∀b o,b∉ch->s.heap.get? b=some o->H b=none->H' b=none)
  (C:∀b o,b∉ch->s.heap.get? b=some o->∃o',h'.get? b=some o')
  (N:∀b xs,H b=some (.tup xs)->H' b=some (.tup xs)) (J:∀b o u,H b=some (.frz o u)->H' b=some (.frz o u)) (M:∀b ps,H b=some (.tbl ps)->∃K,H' b=some (.tbl (ps++K)))
  (ns:∀m,s.heap.Ns X.env.locals m->h'.Ns X.env.locals m) (P:HOk X.prog X.w H' h') (hg:AllBare g'):
  Inv X pins Z H' {s with heap:=h',gens:=g',drawn:=d',toks:=t'}:=by
 have G:∀b o,X.s₀.heap.get? b=some o->b≠X.env.locals:=λb o e=>im (jM (fW e) I.ok.above)
 have y:∀b o,X.s₀.heap.get? b=some o->b∉X.ex->b∉ch:=λb o e a D=>by
  rcases(t b D).1 with z|z
  ·exact a z
  ·exact absurd (jM (fW e) z) (Nat.lt_irrefl _)
 have g:∀x c,X.env.cells.lookup x=some c->∀v,s.heap.IsCell c v->h'.IsCell c v:=λx c e v ⟨o,F,O⟩=>by
  have j:c∉ch:=λz=>(t c z).2.2.1 x c e rfl;by_cases hc:c∈X.fs
  ·obtain⟨sl,q⟩:=B c o (I.cne x c e) hc j F (I.freeC x c e);exact bd _ q O
  ·exact bd o (h c o (I.cne x c e) hc j F (I.freeC x c e)) O
 refine⟨I.ok,I.os,hg,⟨λb o e n D a=>?_,λb o e n D a=>?_,λb o e n a=>?_,λb o e a=>?_,λb xs e=>N b xs (I.base.tups b xs e),λb o xs e=>J b o xs (I.base.frzs b o xs e),λb ps e=>?_⟩,?_,λx c e=>?_,?_,λx c e=>?_,λp S=>?_,P,I.len⟩
 ·exact h b o (G b o e) D (y b o e a) (I.base.keep b o e n D a) (I.base.free b o e n a)
 ·obtain⟨sl,A⟩:=I.base.slot b o e n D a;obtain⟨Q,L⟩:=B b _ (G b o e) D (y b o e a) A (I.base.free b o e n a);exact⟨Q,L⟩
 ·obtain⟨o',A⟩:=I.base.there b o e a;exact f b o' (y b o e a) A (I.base.free b o e n a)
 ·obtain⟨o',A⟩:=I.base.there b o e a;exact C b o' (y b o e a) A
 ·obtain⟨m1,A⟩:=I.base.tbls b ps e;obtain⟨Y,L⟩:=M b _ A;exact⟨m1++Y,by rw[L,Array.append_assoc]⟩
 ·obtain⟨m,U,E⟩:=I.loc;refine bd m (ns m U) λi x v A L W=>?_;obtain⟨u,r,l⟩:=E i x v A L W;refine bd u r ?_;rcases l with l|⟨k,c,e,z⟩
  ·exact .inl l
  ·exact .inr (gT k c e (g x c e _ z))
 ·obtain⟨v,z⟩:=I.cell x c e;exact⟨v,g x c e v z⟩
 ·obtain⟨m,⟨o,_,_,F,_⟩,_⟩:=I.loc;exact f _ o (λz=>(t _ z).2.1 rfl) F I.free
 ·obtain⟨v,o,F,O⟩:=I.cell x c e;exact f c o (λz=>(t c z).2.2.1 x c e rfl) F (I.freeC x c e)
 ·refine ji (I.pin p S) λe n T R d=>?_;have j:p.1∉ch:=λz=>(t p.1 z).2.2.2 p S rfl;exact iV (h p.1 p.2 T R j e n) (f p.1 p.2 j e n) T R d
theorem Inv.un{t':Nat}(I:Inv X pins Z H s)(u:Un X.fs [] H H' s.heap h')(d:HOk X.prog X.w H' h'):Inv X pins Z H' {s with heap:=h',toks:=t'}:=by
 obtain⟨m,⟨o,p,t,i,r⟩,_⟩:=id I.loc;obtain⟨q,j⟩:=u.any i I.free (by simp)
 exact I.step (g':=s.gens) (d':=s.drawn) (ch:=[]) (λ_ z=>nomatch z) (λb o _ c _ e n=>u.keep b o e n c (by simp)) (λb o _ c _ e n=>u.slot b o e n c (by simp)) (λb o _ e n=>u.free b o e n (by simp)) (λb o _ e=>u.there b o e (by simp)) u.tups u.frzs u.tbls (λv h=>by
  refine iN h ?_;clear h;rintro l f g ⟨a,k⟩;rw[i]at a;cases a
  exact iC _ f g j k) d I.bare
theorem Inv.call{g':Array GenState}{t':Nat}{d':Drawn}{ch:zQ}(I:Inv X pins Z H s)(u:Un (frs X.stack) ch H H' s.heap h')(h:HOk X.prog X.w H' h')(v:AllBare g')
  (d:∀b∈ch,(b∈X.ex\/X.s₀.heap.objs.size<=b)/\b≠X.env.locals/\(∀x c,X.env.cells.lookup x=some c->c≠b)/\∀p∈X.pn++pins,p.1≠b):
  Inv X pins Z H' {s with heap:=h',gens:=g',drawn:=d',toks:=t'}:=by
 obtain⟨m,⟨o,A,C,l,r⟩,_⟩:=id I.loc;obtain⟨B,g⟩:=u.any l I.free λz=>(d _ z).2.1 rfl
 exact I.step (ch:=ch) d (λb o g q a e n=>u.keep b o e n (λz=>(gB.mp (I.stkSub b z)).elim g q) a) (λb o _ _ a e n=>u.any e n a) (λb o a e n=>u.free b o e n a) (λb o a e=>u.there b o e a) u.tups u.frzs u.tbls (λD k=>by
  refine iN k ?_;clear k;rintro y i j ⟨f,t⟩;rw[l]at f;cases f
  exact iC _ i j g t) h v
theorem Inv.turned{t':Nat}{it:zW}(I:Inv X pins Z H s)(k:∀b o,b≠it->s.heap.get? b=some o->h'.get? b=some o)(i:H it=none)(f:it≠X.env.locals)
  (h1:it∈X.ex\/X.s₀.heap.objs.size<=it) (h2:∀x c,X.env.cells.lookup x=some c->c≠it) (j:∀p∈X.pn++pins,p.1≠it):Inv X pins Z H {s with heap:=h',toks:=t'}:=by
 have d:∀b u,H b=some u->b≠it:=λb u e z=>by rw[z,i]at e;cases e
 refine I.step (g':=s.gens) (d':=s.drawn) (ch:=[it]) (λb h=>?_) (λb o _ _ a e _=>k b o (λz=>a (by simp[z])) e) (λb o _ _ a e _=>⟨o.slots,k b o (λz=>a (by simp[z])) e⟩) (λ_ _ _ _ n=>n)
  (λb o a e=>⟨o,k b o (λz=>a (by simp[z])) e⟩) (λ_ _ e=>e) (λ_ _ _ e=>e) (λb y e=>⟨#[],by rw[e];simp⟩) (λm g=>?_) (λb u e=>?_) I.bare
 ·have e:b=it:=by simpa using h
  subst e;exact iW h1 f h2 j
 ·refine iN g ?_;clear g;rintro o l t ⟨w,r⟩;exact iC o l t (k _ o (Ne.symm f) w) r
 ·refine(I.hok b u e).stay (λc v a q=>k c v ?_ q) (λ_ q=>q) λ_ _ q=>q;rcases a with z|z
  ·rw[z];exact d b u e
  ·exact d c _ z
theorem Inv.tok(I:Inv X pins Z H s)(t:Nat):Inv X pins Z H {s with toks:=t}:=I.un (h':=s.heap) (t':=t) Un.refl I.hok
theorem Inv.kept{t':Nat}(I:Inv X pins Z H s)(k:∀b u,s.heap.get? b=some u->h'.get? b=some u):Inv X pins Z H {s with heap:=h',toks:=t'}:=I.un (Un.kept k) (I.hok.kept k)
theorem Inv.laid{a:zW}{o:HO}{t':Nat}(I:Inv X pins Z H s)(k:∀b u,s.heap.get? b=some u->h'.get? b=some u)(c:s.heap.objs.size<=a)(d:A1w X.prog X.w (upd H a o) h' a o):
  Inv X pins Z (upd H a o) {s with heap:=h',toks:=t'}:=I.un (Un.laid k c (I.hok.fresh c)) (I.hok.laid k c d)
theorem Inv.write{x e:zW}{o:HO}{t':Nat}(I:Inv X pins Z H s)(d:Mut (H x))(f:e=x\/H e=some (.own x))(k:∀b u,b≠e->s.heap.get? b=some u->h'.get? b=some u)(a:∃u,h'.get? e=some u)
  (c:A1w X.prog X.w (upd H x o) h' x o):Inv X pins Z (upd H x o) {s with heap:=h',toks:=t'}:=I.un (Un.write d f k a) (I.hok.write d f k a c)
theorem Inv.weak{Z':List zP}(I:Inv X pins Z H s)(a:Z'.length=Z.length)(w:∀(i:Nat) v,Z'[i]?=some (some v)->Z[i]?=some (some v)):Inv X pins Z' H s :=⟨I.ok,I.os,I.bare,I.base,let⟨m,hn,hl'⟩:=I.loc;(bd m hn λi x v d c b=>hl' i x v d (w i v c) b),I.cell,I.free,I.freeC,I.pin,I.hok,a.trans I.len⟩
theorem Inv.pins_of{a:zD}(I:Inv X pins Z H s)(h:∀p∈a,s.heap.get? p.1=some p.2/\H p.1=none/\p.1≠X.env.locals/\p.1∉X.fs/\∀v,p.2.data≠.cell v):Inv X a Z H s :=⟨I.ok,I.os,I.bare,I.base,I.loc,I.cell,I.free,I.freeC,λp b=>(iw.mp b).elim (λz=>I.pin p (lL _ z)) (h p),I.hok,I.len⟩
theorem xS{N:zC}(c:N.Nodup){i j:Nat}{x:Str}(a:N[i]?=some x)(b:N[j]?=some x):i=j:=by obtain⟨g,e⟩:=fY.mp a;obtain⟨f,d⟩:=fY.mp b;exact(List.getElem_inj c).mp (e.trans d.symm)
theorem yr{M:Model}{A:zZ}{E:zA}{i:Nat}{x:Str}{v:V}{u:zX}{Q:Unit->zY->Prop}(I:Inv X pins Z H s)(hN:X.N.Nodup)(hi:X.N[i]?=some x)(B:Loc X.env.scope x)(r:A2h v u)
  (h:∀s',Inv X pins (Z.set i (some v)) H s'->(∃a,Heap.SameBut a s.heap s'.heap/\(a=X.env.locals\/X.env.cells.lookup x=some a))->Q () s') (hf:X.fn x=true\/X.env.scope.names.lookup x=some .local:=by first|exact .inl rfl|exact .inr rfl|assumption):wpAny M A (storeName X.env x u) Q E s:=by
 obtain⟨m,Y,hl⟩:=id I.loc;have R:(X.env.scope.kind==.class||(X.env.scope.kind==.module&&X.env.locals != X.env.globals))=false:=by rw[I.ok.kind];rfl
 have P:i<Z.length:=by rw[I.len];exact(fY.mp hi).1
 have K:=I.cne
 have g:∀{a:zW}{h':yA},(∃o,s.heap.get? a=some o/\H a=none)->Heap.SameBut a s.heap h'->HOk X.prog X.w H h':=λ{a h'} ha f b ob e=>by
  obtain⟨_,_,C⟩:=ha;refine(I.hok b ob e).stay (λc T t q=>(f.2 c ?_).trans q) (λ_ q=>q) λ_ _ q=>q;rintro rfl;rcases t with rfl|t
  ·rw[C]at e;cases e
  ·rw[C]at t;cases t
 rcases B with F|F
 ·refine wpAny_storeName_local F Y (λh' a1 f=>?_) R;refine iN (id Y) ?_;rintro oL _ _ ⟨a0,_⟩;refine h _ ⟨I.ok,I.os,I.bare,⟨λb o e n J B=>?_,λb o e n J B=>?_,I.base.free,λb o e B=>?_,I.base.tups,I.base.frzs,I.base.tbls⟩,(bd _ a1 λj y v' l D e3=>?_),λy c e=>?_,I.free,I.freeC,λp hp=>?_,g (bd oL a0 I.free) f,by simpa using I.len⟩ (bd _ f (.inl rfl))
  ·exact(f.2 b (im (jM (fW e) I.ok.above))).trans (I.base.keep b o e n J B)
  ·obtain⟨sl,l⟩:=I.base.slot b o e n J B;exact⟨sl,(f.2 b (im (jM (fW e) I.ok.above))).trans l⟩
  ·obtain⟨o',l⟩:=I.base.there b o e B;exact⟨o',(f.2 b (im (jM (fW e) I.ok.above))).trans l⟩
  ·by_cases hj:j=i
   ·subst hj;rw[hi]at l;cases l;rw[vm P]at D;cases D;exact bd u r (.inl ⟨F,by simp⟩)
   ·rw[vk (Ne.symm hj)]at D;obtain⟨u',r',q⟩:=hl j y v' l D e3;refine bd u' r' ?_;rcases q with ⟨k,e⟩|⟨k,c,e,z⟩
    ·refine .inl ⟨k,?_⟩;have:y≠x:=λe=>hj (xS hN l (e▸hi));simp[this,e]
    ·exact .inr (gT k c e (z.sameBut f (K y c e)))
  ·obtain⟨T,z⟩:=I.cell y c e;exact⟨T,z.sameBut f (K y c e)⟩
  ·refine ji (I.pin p hp) λe n U nf d=>?_;exact iV ((f.2 p.1 U).trans e) n U nf d
 ·have G:X.fn x=true:=by
   rcases hf with z|z
   ·exact z
   ·rw[z]at F;cases F
  obtain⟨c,t⟩:=I.ok.has x (.inl F);obtain⟨T,z⟩:=I.cell x c t;refine wpAny_storeName_cell I.ok.kind F t z (λh' O f=>?_);obtain⟨oc,L,S⟩:=id z;refine h {s with heap:=h'} ⟨I.ok,I.os,I.bare,⟨λb o e n J B=>?_,λb o e n J B=>?_,I.base.free,λb o e B=>?_,I.base.tups,I.base.frzs,I.base.tbls⟩,(bd m (Y.sameBut f (Ne.symm (K x c t))) λj y v' l D e3=>?_),λy W e=>?_,I.free,I.freeC,λp hp=>?_,g (bd oc L (I.freeC x c t)) f,by simpa using I.len⟩ (bd c f (.inr t))
  ·exact(f.2 b (im (jM (fW e) (I.ok.cab x c G t)))).trans (I.base.keep b o e n J B)
  ·obtain⟨sl,l⟩:=I.base.slot b o e n J B;exact⟨sl,(f.2 b (im (jM (fW e) (I.ok.cab x c G t)))).trans l⟩
  ·obtain⟨o',l⟩:=I.base.there b o e B;exact⟨o',(f.2 b (im (jM (fW e) (I.ok.cab x c G t)))).trans l⟩
  ·by_cases hj:j=i
   ·subst hj;rw[hi]at l;cases l;rw[vm P]at D;cases D;exact bd u r (.inr (gT (.inl F) c t O))
   ·rw[vk (Ne.symm hj)]at D;obtain⟨u',r',q⟩:=hl j y v' l D e3;refine bd u' r' ?_;rcases q with q|⟨k,W,e,z'⟩
    ·exact .inl q
    ·refine .inr (gT k W e (z'.sameBut f ?_));rintro rfl;exact hj (xS hN l (I.ok.inj _ _ _ e t▸hi))
  ·by_cases hcc:W=c
   ·subst hcc;exact⟨_,O⟩
   ·obtain⟨w2,z2⟩:=I.cell y W e;exact⟨w2,z2.sameBut f hcc⟩
  ·refine ji (I.pin p hp) λe n U nf d=>?_;refine iV ((f.2 p.1 ?_).trans e) n U nf d;intro q;rw[q,L]at e;have q':oc=p.2:=iO e;exact d T (by rw[<-q'];exact S)
theorem xF{M:Model}{A:zZ}{E:zA}{i:Nat}{x:Str}{v:V}{u:zX}{Q:Unit->zY->Prop}(I:Inv X pins Z H s)(b:X.N.Nodup)(hi:X.N[i]?=some x)(c:Loc X.env.scope x)(r:A2h v u)
  (h:∀s',Inv X pins (Z.set i (some v)) H s'->Q () s') (a:X.fn x=true\/X.env.scope.names.lookup x=some .local:=by first|exact .inl rfl|exact .inr rfl|assumption):wpAny M A (storeName X.env x u) Q E s :=
 yr I b hi c r (λs' I' _=>h s' I') a
theorem Inv.call'{s':zY}{ch:zQ}(I:Inv X pins Z H s)(h:s'.os=s.os)(u:Un (frs X.stack) ch H H' s.heap s'.heap)(a:HOk X.prog X.w H' s'.heap)(g:AllBare s'.gens)
  (d:∀b∈ch,(b∈X.ex\/X.s₀.heap.objs.size<=b)/\b≠X.env.locals/\(∀x c,X.env.cells.lookup x=some c->c≠b)/\∀p∈X.pn++pins,p.1≠b):Inv X pins Z H' s':=by
 obtain⟨i,g',d',t',f⟩:=s';have e:f=s.os:=h;subst e;exact I.call (g':=g') (t':=t') (d':=d') u a g d
end
abbrev XK:=zX->Option zW->Hp->Prop
abbrev St:=List zP
abbrev VK:=V->Hp->Prop
abbrev TE:=St->Hp->VK->Prop
abbrev TT:=St->Hp->(Bool->Hp->Prop)->Prop
abbrev TA:=St->Hp->(zM->Hp->Prop)->Prop
variable{α:Type}{ys xs dvs:zM}{y:V}{x name m:Str}{w:yD}{value tg l iter c b:yC}{v u pm oc ct cd:zX}{tv to tl tc ta:TE}{tpos pos' p kpos apos:Pos}{tn:Nat->yA->Prop}{tk:TA}{tB' tA:TT}{s1 s' s:zY}{r:zM->Hp->VK->Prop}{ps ks N:zC}{prog P:yB}{pins:zD}{od an:zO}{nm:Option Str}{n j i:Nat}{mA:zE}{lo hi:Int}{kws:List Keyword}{it dx a C:zW}{h' h:yA}{gV:zM->List V->List V}{fd:zS}{ds:zH}{d:List Env}{Z:St}{X:Cx}{e:yC}{es:zT}{te:TE}{t:TA}{pos:Pos}{T:String}{Q E:zA}{M:Model}{K:Frag}{H' H:Hp}{A:zZ}
structure lO where
 nx:St->Hp->Prop
 rt:VK
 bk:St->Hp->Prop:=λ_ _=>False
 ct:St->Hp->Prop:=λ_ _=>False
abbrev TS:=lO->St->Hp->Prop
def EP(X:Cx)(pins:zD)(Z:St)(Q:VK)(u:zX)(s':zY):Prop:=∃v a,Inv X pins Z a s'/\A2h v u/\Q v a
def TP(X:Cx)(pins:zD)(Z:St)(Q:Bool->Hp->Prop)(b:Bool)(s':zY):Prop:=∃a,Inv X pins Z a s'/\Q b a
def AP(X:Cx)(pins:zD)(Z:St)(Q:zM->Hp->Prop)(us:zH)(s':zY):Prop:=∃a b,Inv X pins Z b s'/\A3b a us/\Q a b
def SP(X:Cx)(pins:zD)(D:lO)(f:Flow)(s':zY):Prop :=
 match f with
 |.next=>∃Z' a,Inv X pins Z' a s'/\D.nx Z' a
 |.brk=>∃Z' a,Inv X pins Z' a s'/\D.bk Z' a
 |.cont=>∃Z' a,Inv X pins Z' a s'/\D.ct Z' a
 |.ret u=>∃v Z' a,Inv X pins Z' a s'/\A2h v u/\D.rt v a
def PE(X:Cx)(e:yC)(t:TE):Prop :=∀(a:zD)(s:zY)(Z:St)(H:Hp)(Q:VK),Inv X a Z H s->t Z H Q->wpAny (model X.prog X.w) X.A (eval e X.env) (EP X a Z Q) X.xe s
def PT(X:Cx)(e:yC)(t:TT):Prop :=∀(a:zD)(s:zY)(Z:St)(H:Hp)(Q:Bool->Hp->Prop),Inv X a Z H s->t Z H Q->wpAny (model X.prog X.w) X.A (isTrue e X.env (eval e X.env)) (TP X a Z Q) X.xe s
def PW(X:Cx)(e:yC)(t:TT):Prop :=∀(b:Sem zX)(a:zD)(s:zY)(Z:St)(H:Hp)(Q:Bool->Hp->Prop),Inv X a Z H s->t Z H Q->wpAny (model X.prog X.w) X.A (isTrue e X.env b) (TP X a Z Q) X.xe s
theorem PW.pt{t:TT}(h:PW X e t):PT X e t:=h _
def PA(X:Cx)(es:zT)(t:TA):Prop :=∀(b:Pos)(a:zD)(s:zY)(Z:St)(H:Hp)(Q:zM->Hp->Prop),Inv X a Z H s->t Z H Q->wpAny (model X.prog X.w) X.A (spliced (backTo b (starEach es X.env))) (AP X a Z Q) X.xe s
def PS(X:Cx)(st:Stmt)(t:TS):Prop :=∀(a:zD)(s:zY)(Z:St)(H:Hp)(D:lO),Inv X a Z H s->t D Z H->wpAny (model X.prog X.w) X.A (exec st X.env) (SP X a D) X.xe s
def PSs(X:Cx)(st:List Stmt)(t:TS):Prop :=∀(a:zD)(s:zY)(Z:St)(H:Hp)(D:lO),Inv X a Z H s->t D Z H->wpAny (model X.prog X.w) X.A (execs st X.env) (SP X a D) X.xe s
theorem thn{t:Sem α}{Q b:α->zY->Prop}(h:wpAny M A t Q E s)(c:∀a s,Q a s->b a s):wpAny M A t b E s:=jE h c λ_ _ x=>x
section
def pj(i:Nat):TE:=λZ H Q=>∃v,Z[i]?=some (some v)/\Q v H
def tC(v:V):TE:=λ_ H Q=>Q v H
theorem BQ(q:X.N[i]?=some x)(p:Vis X.env.scope x)(g:(x==("__debug__":Str))=false:=by decide)(j:(x==("__classdict__":Str))=false:=by decide):PE X (.Name x pos) (pj i):=by
 intro f s Z H Q I h;obtain⟨v,e,h⟩:=h;obtain⟨m,o,n⟩:=I.loc;obtain⟨u,r,l⟩:=n i x v q e p;have b:EP X f Z Q u s:=(fC v H I r h);rcases l with ⟨d,t⟩|⟨d,c,k,a⟩
 ·exact wpAny_Name (wpAny_loadName_local I.ok.kind d o t b) g
 ·rcases d with d|d
  ·exact wpAny_Name (wpAny_loadName_cell I.ok.kind d k a b) g
  ·exact wpAny_Name (wpAny_loadName_free I.ok.kind d k a b j) g
theorem fM{i j pos}:PE X (.Constant (.int i) j pos) (tC (.int i)):=λ_ _ _ H _ I h=>wpAny_Constant_int (fC (.int i) H (I.tok _) ⟨_,rfl⟩ h)
theorem mZ{b j pos}:PE X (.Constant (.bool b) j pos) (tC (.bl b)):=λ_ _ _ H _ I h=>Constant_bool (fC (.bl b) H I rfl h)
theorem je{x j pos}:PE X (.Constant (.str x) j pos) (tC (.str x)):=λ_ _ _ H _ I h=>Calls.Constant_str (fC (.str x) H (I.tok _) ⟨_,rfl⟩ h)
def Gl(X:Cx)(x:Str):Prop:=X.env.kindOf x=some .globalImplicit
theorem wN(I:Inv X pins Z H s)(c:Gl X x)(b:X.mg x=some u)(h:Q u s)
  (a:(x==("__debug__":Str))=false:=by decide):wpAny (model X.prog X.w) X.A (eval (.Name x pos) X.env) Q E s :=
 Calls.Name_function_global I.ok.kind c (Calls.loadGlobal_global (by rw[I.ok.glob];exact I.mod.glob.keeps I.bk) b h) a
theorem mM(I:Inv X pins Z H s)(f:Gl X x)(d:X.mg x=none)(e:bootBuiltins x=some u)(h:Q u s)
  (a:x≠"__name__":=by decide) (b:(x==("__debug__":Str))=false:=by decide):wpAny (model X.prog X.w) X.A (eval (.Name x pos) X.env) Q E s:=by
 obtain⟨i,c,g⟩:=I.mod.blt;exact Calls.Name_function_global I.ok.kind f (Calls.loadGlobal_builtin (by rw[I.ok.glob];exact I.mod.glob.keeps I.bk) d (by rw[I.ok.blt];exact c.keeps I.bk) ((g x a).trans e) h) b
theorem kG{v:V}(e:Gl X x)(c:X.mg x=none)(d:bootBuiltins x=some u)(r:A2h v u)(a:x≠"__name__":=by decide)(b:(x==("__debug__":Str))=false:=by decide):PE X (.Name x pos) (tC v):=λ_ _ _ H _ I h=>mM I e c d (fC v H I r h) a b
variable{a:yC}{tb:TE}
def tB(t:TE):TT:=λZ H Q=>t Z H λx a=>∃c,x=.bl c/\Q c a
theorem jP{t:TE}(h:PE X e t)(g:∀a,isTrue e X.env a=(do let v<-a;standAt e.pos;holding [v] (truthy v)):=by intro _;rfl):PT X e (tB t):=by intro b s Z H Q I j;refine isTrue_plain (thn (h b s Z H _ I j) ?_) (g _);refine λv l c=>fO c λx k I1 f i=>?_;clear c;obtain⟨d,rfl,q⟩:=i;cases f;exact wpAny_truthy_bool (bd k I1 q)
variable{rest:zT}
def tAnd(t u:TT):TT:=λZ H Q=>t Z H λc a=>if c=true then u Z a Q else Q false a
def tOr(t u:TT):TT:=λZ H Q=>t Z H λc a=>if c=true then Q true a else u Z a Q
def tNot(t:TT):TT:=λZ H Q=>t Z H λc a=>Q (! c) a
theorem uw(d:PT X a tA):PW X (.BoolOp .And [a] pos) tA:=by
 intro g b s Z H Q I h;refine isTrue_and (thn (d b s Z H Q I h) λc f e=>?_)
 cases c with
 |true=>exact isTrue_and_nil e
 |false=>exact e
theorem qe(d:PT X a tA):PW X (.BoolOp .Or [a] pos) tA:=by
 intro g b s Z H Q I h;refine isTrue_or (thn (d b s Z H Q I h) λc f e=>?_)
 cases c with
 |false=>exact isTrue_or_nil e
 |true=>exact e
theorem ue(k:PT X a tA)(i:PW X (.BoolOp .And (b::rest) pos) tB'):PW X (.BoolOp .And (a::b::rest) pos) (tAnd tA tB'):=by
 intro j d s Z H Q I h;refine isTrue_and (thn (k d s Z H _ I h) ?_);rintro c g ⟨e,I1,f⟩
 cases c with
 |true=>exact i j d g Z e Q I1 f
 |false=>exact bd e I1 f
theorem pT(k:PT X a tA)(i:PW X (.BoolOp .Or (b::rest) pos) tB'):PW X (.BoolOp .Or (a::b::rest) pos) (tOr tA tB'):=by
 intro j d s Z H Q I h;refine isTrue_or (thn (k d s Z H _ I h) ?_);rintro c g ⟨e,I1,f⟩
 cases c with
 |true=>exact bd e I1 f
 |false=>exact i j d g Z e Q I1 f
theorem qb(e:PT X a tA):PT X (.UnaryOp .Not a pos) (tNot tA):=by intro b s Z H Q I h;exact isTrue_not (e b s Z H (λc d=>Q (! c) d) I h)
def A7(ta tb:TE):TE:=λZ H Q=>ta Z H λx a=>∃c,x=.bl c/\if c=true then tb Z a Q else Q (.bl false) a
def Bb(ta:TE):TE:=λZ H Q=>ta Z H λx a=>∃c,x=.bl c/\Q (.bl (! c)) a
theorem wB{op}{t:TE}(h:PE X a t):PE X (.BoolOp op [a] pos) t:=λb s Z H Q I c=>BoolOp_one (h b s Z H Q I c)
theorem wF(l:PE X a ta)(j:PE X (.BoolOp .And (b::rest) pos) tb):PE X (.BoolOp .And (a::b::rest) pos) (A7 ta tb):=by
 intro d s Z H Q I h;refine BoolOp_and (thn (l d s Z H _ I h) ?_);refine λv i f=>fO f λx g I1 k e=>?_;clear f;obtain⟨c,rfl,e⟩:=e;cases k;refine wpAny_truthy_bool ?_
 cases c with
 |true=>exact j d i Z g Q I1 e
 |false=>exact fC (.bl false) g I1 rfl e
theorem BH(i:PE X a ta):PE X (.UnaryOp .Not a pos) (Bb ta):=by intro b s Z H Q I h;refine UnaryOp_ (thn (i b s Z H _ I h) ?_);refine λv j e=>fO e λx g I1 f d=>?_;clear e;obtain⟨c,rfl,d⟩:=d;cases f;exact not_of (wpAny_truthy_bool (fC (.bl (! c)) g I1 rfl d))
end
def SqL(K:Frag)(H:Hp)(a:zW)(xs:zM):Prop :=
 Rd H a (.lst xs)\/
  ∃(o:Obj)(b:zG)(n:Nat),K.lookup a=some o/\o.cls=.type "list"/\o.dict=none/\o.data=.seq b n/\b.size<=sizeLine/\A3b xs b.toList
def SqT(K:Frag)(H:Hp)(a:zW)(xs:zM):Prop :=
 Rd H a (.tup xs)\/
  ∃(o:Obj)(b:zG)(n:Nat),K.lookup a=some o/\o.cls=.type "tuple"/\o.data=.seq b n/\b.size<=sizeLine/\A3b xs b.toList
noncomputable def absV:zX->Option V|.none=>some .non|.bool b=>some (.bl b)|.int i _=>some (.int i)|.str x _=>some (.str x)|.bytes b _=>some (.byt b)|.float b _=>some (.flt b)|.ref a=>some (.ref a)|.type n=>some (.ty n)|_=>none
theorem A2h.abs{x:V}(r:A2h x u):absV u=some x:=by
 cases x with
 |non=>cases r;rfl
 |bl _=>cases r;rfl
 |int _=>obtain⟨t,rfl⟩:=r;rfl
 |str _=>obtain⟨t,rfl⟩:=r;rfl
 |byt _=>obtain⟨t,rfl⟩:=r;rfl
 |flt _=>obtain⟨t,rfl⟩:=r;rfl
 |ref _=>cases r;rfl
 |ty _=>cases r;rfl
theorem A2h.inj{x y:V}{u:zX}(r:A2h x u)(q:A2h y u):x=y:=iO (r.abs.symm.trans q.abs)
theorem A3b.inj:∀{xs ys:zM}{us:zH},A3b xs us->A3b ys us->xs=ys|_,_,_,.nil,.nil=>rfl|_,_,_,.cons r t,.cons r' t'=>by rw[r.inj r',A3b.inj t t']
theorem SqL.of(h:H a=some (.lst xs)):SqL K H a xs:=.inl (.inl h)
theorem SqT.of(h:H a=some (.tup xs)):SqT K H a xs:=.inl (.inl h)
theorem Inv.list(I:Inv X pins Z H s)(h:SqL X.K H a xs):∃its:zH,A3b xs its/\PlainL s.heap a its.toArray/\xs.length<=sizeLine:=by
 rcases h with h|⟨o,its,n,c,f,b,d,g,r⟩
 ·refine iX (h.ok I.hok) λz its n r e=>?_;exact fJ its r (ga _ n e rfl rfl rfl) z
 ·refine fJ its.toList r (ga o n (I.kIn a o c) f b (by simpa using d)) ?_;have e:=r.length;simp only [Array.length_toList]at e
  lia
theorem Inv.tuple(I:Inv X pins Z H s)(h:SqT X.K H a xs):∃its:zH,A3b xs its/\IsTup s.heap a its.toArray/\xs.length<=sizeLine:=by
 rcases h with h|⟨o,its,n,b,d,c,f,r⟩
 ·obtain⟨z,its,r,p⟩:=h.ok I.hok;exact fJ its r p z
 ·refine fJ its.toList r (pM o (I.kIn a o b) d n (by simpa using c)) ?_;have e:=r.length;simp only [Array.length_toList]at e
  lia
theorem Inv.list_inj(I:Inv X pins Z H s)(h:SqL X.K H a xs)(h':SqL X.K H a ys):xs=ys:=by
 obtain⟨c,r,⟨o,n,e,_,_,d⟩,_⟩:=I.list h;obtain⟨b,i,⟨j,k,f,_,_,g⟩,_⟩:=I.list h';rw[e]at f;cases f;rw[d]at g;injection g with d1 _;have:c=b:=by simpa using congrArg Array.toList d1
 subst this;exact r.inj i
theorem Inv.tuple_inj(I:Inv X pins Z H s)(h:SqT X.K H a xs)(h':SqT X.K H a ys):xs=ys:=by
 obtain⟨c,r,⟨o,e,_,n,d⟩,_⟩:=I.tuple h;obtain⟨b,i,⟨j,f,_,k,g⟩,_⟩:=I.tuple h';rw[e]at f;cases f;rw[d]at g;injection g with d1 _;have:c=b:=by simpa using congrArg Array.toList d1
 subst this;exact r.inj i
abbrev Cx.wish(X:Cx)(E:zA):Cx:={X with xe:=E}
abbrev Cx.nox(X:Cx):Cx:=X.wish λ_ _=>False
theorem Cx.Ok.wish(a:X.Ok)(E:zA):(X.wish E).Ok :=⟨a.mod,a.kind,a.glob,a.blt,a.above,a.inj,a.has,a.cab,a.hd,a.frames,a.stk,a.exf,a.bs,a.bsz,a.noex,a.exfs,a.funs,a.frf⟩
theorem Cx.Ok.unwish(a:(X.wish E).Ok):X.Ok :=⟨a.mod,a.kind,a.glob,a.blt,a.above,a.inj,a.has,a.cab,a.hd,a.frames,a.stk,a.exf,a.bs,a.bsz,a.noex,a.exfs,a.funs,a.frf⟩
theorem Inv.wish(I:Inv X pins Z H s)(E:zA):Inv (X.wish E) pins Z H s:=⟨I.ok.wish E,I.os,I.bare,I.base,I.loc,I.cell,I.free,I.freeC,I.pin,I.hok,I.len⟩
theorem Inv.unwish(I:Inv (X.wish E) pins Z H s):Inv X pins Z H s:=⟨I.ok.unwish,I.os,I.bare,I.base,I.loc,I.cell,I.free,I.freeC,I.pin,I.hok,I.len⟩
theorem SP.unwish{D:lO}{f:Flow}(h:SP (X.wish E) pins D f s'):SP X pins D f s':=by
 cases f with
 |next=>obtain⟨Z',a,I,q⟩:=h;exact gF Z' a I.unwish q
 |brk=>obtain⟨Z',a,I,q⟩:=h;exact gF Z' a I.unwish q
 |cont=>obtain⟨Z',a,I,q⟩:=h;exact gF Z' a I.unwish q
 |ret u=>(refine jK h λv Z' a I r q=>?_;clear h);exact iM v Z' a I.unwish r q
theorem PSs.nox{st:List Stmt}{t:TS}(h:PSs X.nox st t):PSs X st t:=λa s Z H D I b=>jE (h a s Z H D (I.wish _) b) (λ_ _ q=>q.unwish) λ_ _ z=>False.elim z
section
variable{X:Cx}{st:Stmt}{rest:List Stmt}{t u:TS}{e:yC}{te:TE}{pos:Pos}
def AV:TS:=λD Z H=>D.nx Z H
def vv(t u:TS):TS:=λD Z H=>t {D with nx:=u D} Z H
theorem gO:PSs X [] AV:=λ_ _ Z H _ I h=>sU (gF Z H I h)
theorem jT(h1:PS X st t)(h2:PSs X rest u):PSs X (st::rest) (vv t u):=by
 intro a s Z H D I h;refine wpAny_execs_cons (thn (h1 a s Z H {D with nx:=u D} I h) λf b q=>?_)
 cases f with
 |next=>obtain⟨Z',c,I',q⟩:=q;exact h2 a b Z' c D I' q
 |ret v=>exact q
 |brk=>exact q
 |cont=>exact q
theorem nD(h1:PS X st t):PSs X [st] t:=by
 intro a s Z H D I h;refine wpAny_execs_cons (thn (h1 a s Z H D I h) λf b q=>?_)
 cases f with
 |next=>exact sU q
 |ret v=>exact q
 |brk=>exact q
 |cont=>exact q
theorem Inv.quiet(I:Inv X pins Z H s):interactive X.env=false:=by simp[interactive,I.ok.kind]
def Bi(te:TE):TS:=λD Z H=>te Z H λ_ a=>D.nx Z a
theorem kc(d:PE X e te)(c:swapsWith e none pos.line X.env=pure false:=by rfl):PS X (.Expr e pos) (Bi te):=by intro a s Z H D I h;exact wpAny_Expr_any (thn (d a s Z H _ I h) (by (refine λv i b=>fO b λx g I1 j f=>?_;clear b);exact gF Z g I1 f)) I.quiet c
def vA(te:TE):TS:=λD Z H=>te Z H D.rt
theorem qa(d:PE X e te):PS X (.Return (some e) pos) (vA te):=by intro a s Z H D I h;exact wpAny_Return_some (thn (d a s Z H _ I h) (by (refine λv i b=>fO b λx g I1 c f=>?_;clear b);exact iM x Z g I1 c f))
def vt(c:TT)(t u:TS):TS:=λD Z H=>c Z H λb a=>if b=true then t D Z a else u D Z a
theorem rc{c:yC}{a b:List Stmt}{tc:TT}(l:PT X c tc)(k:PSs X a t)(j:PSs X b u):PS X (.If c a b pos) (vt tc t u):=by
 intro e s Z H D I h;refine wpAny_If (thn (l e s Z H _ I h) ?_);rintro d f ⟨g,I1,i⟩
 cases d with
 |true=>exact k e f Z g D I1 i
 |false=>exact j e f Z g D I1 i
end
variable{es:zT}{u:zX}{o:zN}{tg:yC}{g:Int->Int->Int}{pins:zD}{Z:St}{H:Hp}{s:zY}{A:zZ}{E Q:zA}{vs:zM}{P:yB}{w:yD}{K:Frag}{fp:zQ}{R:Result->zY->Prop}{pos:Pos}{h base:yA}{pl:Sem Bool}{body:List Stmt}{tb:TS}{f:zX->zX->Sem zX}{op:CmpOp}{C:zW}{us:zH}{mA mg:zE}{kw:List (Str×zX)}{CX:CXT}{fd:zS}{ps:zC}{scope:Scope}{osl:zF}
abbrev TG:=V->St->Hp->(St->Hp->Prop)->Prop
abbrev TGs:=zM->St->Hp->(St->Hp->Prop)->Prop
def PG(X:Cx)(a:yC)(t:TG):Prop :=
 ∀(b:zD)(s:zY)(Z:St)(H:Hp)(v:V)(u:zX)(Q:St->Hp->Prop),Inv X b Z H s->A2h v u->t v Z H Q->
  wpAny (model X.prog X.w) X.A (assign a X.env u) (λ_ d=>∃Z' c,Inv X b Z' c d/\Q Z' c) X.xe s
def PGs(X:Cx)(ts:zT)(t:TGs):Prop :=
 ∀(a:zD)(s:zY)(Z:St)(H:Hp)(c:zM)(b:zH)(Q:St->Hp->Prop),Inv X a Z H s->A3b c b->t c Z H Q->
  wpAny (model X.prog X.w) X.A (assignInOrder ((assignEach ts X.env).map (·.2)) b) (λ_ e=>∃Z' d,Inv X a Z' d e/\Q Z' d) X.xe s
abbrev qP:=V->V->V->Hp->(Hp->Prop)->Prop
def vw(X:Cx)(t:qP):Prop :=
 ∀(a:zD)(s:zY)(Z:St)(H:Hp)(o i v:V)(d b u:zX)(Q:Hp->Prop),Inv X a Z H s->A2h o d->A2h i b->A2h v u->t o i v H Q->
  wpAny (model X.prog X.w) X.A (setItem d b u) (λ_ e=>∃c,Inv X a Z c e/\Q c) X.xe s
def mY(i:Nat):TG:=λv Z H Q=>Q (Z.set i (some v)) H
theorem fR(b:X.N.Nodup)(hi:X.N[i]?=some x:=by rfl)(d:Loc X.env.scope x:=by exact .inl rfl)(c:X.fn x=true\/X.env.scope.names.lookup x=some .local:=by first|exact .inl rfl|exact .inr rfl|assumption):PG X (.Name x pos) (mY i):=by intro a s Z H v u Q I r h;exact wpAny_assign_Name (xF I b hi d r (λe I'=>(gF _ H I' h)) c)
def qV:TGs:=λa Z H Q=>a=[]/\Q Z H
def oE(t:TG)(u:TGs):TGs:=λa Z H Q=>∃v r,a=v::r/\t v Z H λZ' b=>u r Z' b Q
theorem kE:PGs X [] qV:=by intro a s Z H c b Q I r h;obtain⟨e,h⟩:=h;subst e;cases r;exact assignInOrder_nil (gF Z H I h)
theorem gP{t:TG}{u:TGs}(h1:PG X e t)(h2:PGs X es u)
  (c:(assignEach (e::es) X.env).map (·.2)=assign e X.env::(assignEach es X.env).map (·.2):=by rfl):PGs X (e::es) (oE t u):=by
 intro a s Z H i j Q I r h;obtain⟨v,k,g,h⟩:=h;subst g
 cases r with
 |cons r rr=>rw[c];refine assignInOrder_cons (thn (h1 a s Z H _ _ _ I r h) ?_);rintro _ b ⟨Z1,f,I1,d⟩;exact h2 a b Z1 f _ _ Q I1 rr d
def qQ(K:Frag)(n:Nat)(t:TGs):TG:=λv Z H Q=>∃a b,v=.ref a/\SqT K H a b/\b.length=n/\t b Z H Q
theorem kC{k:Nat}{t:TGs}(y:X.calm=true)(h:PGs X es t)
  (j:(assignEach es X.env).length=n:=by rfl) (d:(assignEach es X.env).findIdx? (·.1)=none:=by rfl):PG X (.Tuple es k pos) (qQ X.K n t):=by
 intro c s Z H v u Q I r f;obtain⟨a,q,z,w,i,f⟩:=f;subst z;cases r;obtain⟨l,g,x,A⟩:=I.tuple w;refine assign_Tuple_tuple (I.ok.hd y) x (by simp[j,<-i,g.length]) d λp m=>?_;have I1:Inv X c Z H {s with heap:=p}:=I.kept (t':=s.toks) λb o e=>m b o (im (fW e)) e
 exact h c _ Z H q _ Q I1 (by simpa using g) f
def gSub(to b:TE)(t:qP):TG:=λv Z H Q=>to Z H λo c=>b Z c λi d=>t o i v d λa=>Q Z a
theorem tY{o i:yC}{c:TE}{t:qP}(z:PE X o to)(hi:PE X i c)(k:vw X t)
  (w:∀v,assign (.Subscript o i pos) X.env v=(do
   let ov<-holding [v] (eval o X.env)
   let iv<-holding [v,ov] (eval i X.env)
   standAt pos
   holding [v,ov,iv] (setItem ov iv v)
   release [v,ov,iv] []):=by intro _;rfl):PG X (.Subscript o i pos) (gSub to c t):=by
 intro a s Z H v u Q I r h;rw[w];refine bc (jC (thn (z a s Z H _ I h) ?_));refine λov e b=>fO b λx p I1 j l=>?_;clear b;refine bc (jC (thn (hi a e Z p _ I1 l) ?_));refine λiv f b=>fO b λy n I2 m g=>?_;clear b;refine bc (sV (bc (jC (thn (k a f Z n x y v ov iv u _ I2 j m r g) ?_))));rintro _ A ⟨d,I3,q⟩;exact wpAny_release (gF Z d I3 q)
def qU(te:TE)(g:TG):TS:=λD Z H=>te Z H λx a=>g x Z a D.nx
theorem nC{g:TG}(i:PE X e te)(l:PG X tg g)(f:swapsWithSole [tg] e pos.line X.env=pure false:=by rfl)(k:swappedStores [tg] e X.env=pure none:=by rfl)
  (h1:(assignEach [tg] X.env).map (·.2)=[assign tg X.env]:=by rfl):PS X (.Assign [tg] e pos) (qU te g):=by
 intro a s Z H D I h;refine wpAny_Assign_stores (thn (i a s Z H _ I h) ?_) f k;refine λv c b=>fO b λx m I1 d j=>?_;clear b;rw[h1];exact thn (l a c Z m x v _ I1 d j) λ_ n q=>q
theorem lR{i:Nat}{x:Str}{e:yC}{te:TE}{pos':Pos}(k:X.N.Nodup)(hi:X.N[i]?=some x)(j:Loc X.env.scope x)(f:PE X e te)(d:swapsWith e (some (.Name x pos')) pos.line X.env=pure false:=by rfl)(m:X.fn x=true\/X.env.scope.names.lookup x=some .local:=by first|exact .inl rfl|exact .inr rfl|assumption):
  PS X (.Assign [.Name x pos'] e pos) (qU te (mY i)):=by
 intro a s Z H D I h;refine wpAny_Assign_Name (thn (f a s Z H _ I h) ?_) d;refine λv o b=>fO b λy l I1 c g=>?_;clear b;exact xF I1 k hi j c (λn I2=>(gF _ l I2 g)) m
structure It where
 go:Nat->Hp->Prop
 yld:Nat->Hp->V->Hp->Prop
 stop:Nat->Hp->Prop
def kf(X:Cx)(pins:zD)(H:Hp)(b:zW):Prop :=H b=none/\b≠X.env.locals/\b∉X.fs/\(b∈X.ex\/X.s₀.heap.objs.size<=b)/\(∀x c,X.env.cells.lookup x=some c->c≠b)/\∀p∈X.pn++pins,p.1≠b
theorem Inv.fpOk{b:zW}(I:Inv X pins Z H s)(a:s.heap.objs.size<=b)(d:H' b=none):kf X pins H' b:=by
 refine jh d (jm (jM I.lt a)) (I.nofs a) (.inr (jU I.sz a)) (λx c e z=>?_) λp f z=>?_
 ·obtain⟨v,q⟩:=I.cell x c e;exact absurd (jM q.lt (by rw[z];exact a)) (Nat.lt_irrefl _)
 ·exact absurd (jM (fW (I.pin p f).1) (by rw[z];exact a)) (Nat.lt_irrefl _)
structure A8x(ok:zZ->Prop)(P:yB)(w:yD)(K:Frag)(tg:yC)(J:It)(fp:zQ)(it:zW)(tn:Nat->yA->Prop):Prop where
 mem:it∈fp
 obj:∀i h,tn i h->∀b∈fp,∃o,h.get? b=some o/\∀v,o.data≠.cell v
 keep:∀i h h',tn i h->(∀b∈fp,∀o,h.get? b=some o->h'.get? b=some o)->tn i h'
 item:∀(X:Cx),X.prog=P->X.w=w->X.K=K->ok X.A->∀(i:Nat)(pins:zD)(s:zY)(Z:St)(H:Hp)(E:zA),Inv X pins Z H s->(∀b∈fp,kf X pins H b)->tn i s.heap->J.go i H->
  wpAny (model P w) X.A (pyNext (.ref it)) (λr s1=>∃u,r=some u/\
   wpAny (model P w) X.A (letOwnedTupleGo tg (.ref it) u) (λ_ s2=>∃x H',Inv X pins Z H' s2/\A2h x u/\J.yld i H x H'/\tn (i+1) s2.heap/\∀b∈fp,H' b=none) E s1) E s
 done:∀(X:Cx),X.prog=P->X.w=w->X.K=K->ok X.A->∀(i:Nat)(pins:zD)(s:zY)(Z:St)(H:Hp)(E:zA),Inv X pins Z H s->(∀b∈fp,kf X pins H b)->tn i s.heap->J.stop i H->
  wpAny (model P w) X.A (pyNext (.ref it)) (λr s1=>r=none/\Inv X pins Z H s1) E s
 self:∀(A:zZ)(i:Nat)(s:zY)(Q:zA)(E:zA),tn i s.heap->Q (.ref it) s->wpAny (model P w) A (pyIter (.ref it)) Q E s
abbrev tH:zZ->Prop:=λA=>A.handled=none
abbrev C3g:=A8x tH
abbrev TI:=St->Hp->(It->Hp->Prop)->Prop
def vo(h:zZ->Prop)(X:Cx)(pins:zD)(Z:St)(tg:yC)(R:It->Hp->Prop)(c:zX)(d:zY):Prop :=∃(e:zW)(f:zQ)(g:Nat->yA->Prop)(J:It)(a:Hp),c=.ref e/\Inv X pins Z a d/\A8x h X.prog X.w X.K tg J f e g/\g 0 d.heap/\(∀b∈f,kf X pins a b)/\R J a
def PIP(c:zZ->Prop)(X:Cx)(tg iter:yC)(wi:TI):Prop :=
 ∀(a:zD)(s:zY)(Z:St)(H:Hp)(R:It->Hp->Prop),Inv X a Z H s->wi Z H R->
  wpAny (model X.prog X.w) X.A (eval iter X.env) (λv b=>wpAny (model X.prog X.w) X.A (pyIter v) (vo c X a Z tg R) X.xe b) X.xe s
abbrev PIE:=vo tH
abbrev PI:=PIP tH
theorem pX{o:Obj}{n:String}{vs:zG}{Q:Unit->zY->Prop}(e:s.heap.get? it=some o)(d:o.cls=.type n)(c:o.data=.fields vs)
  (b:["enumerate","zip","dict_itemiterator","dict_reverseitemiterator","odict_iterator","itertools.zip_longest","itertools.pairwise"].contains n=false) (a:Q () s):wpAny M A (letOwnedTupleGo tg (.ref it) u) Q E s:=by
 unfold letOwnedTupleGo
 cases tg<;>first|exact ck a|(cases u<;>first|exact ck a|(refine bc (wpAny_load e ?_);rw[d,c];show wpAny M A (if (["enumerate","zip","dict_itemiterator","dict_reverseitemiterator","odict_iterator","itertools.zip_longest","itertools.pairwise"].contains n&&vs[0]?==some (rawInt _))=true then _ else _) Q E s;rw[bp (by intro h;rw[b,Bool.false_and]at h;cases h)];exact ck a))
def Itl(K:Frag)(a:zW):It :=⟨λi H=>∃b x,SqL K H a b/\b[i]?=some x,λi H x c=>c=H/\∀b,SqL K H a b->b[i]?=some x,λi H=>∃b,SqL K H a b/\b.length<=i⟩
def Itt(K:Frag)(a:zW):It :=⟨λi H=>∃b x,SqT K H a b/\b[i]?=some x,λi H x c=>c=H/\∀b,SqT K H a b->b[i]?=some x,λi H=>∃b,SqT K H a b/\b.length<=i⟩
def Itr(lo:Int)(n:Nat):It:=⟨λi _=>i<n,λi H x a=>a=H/\x=.int (lo+i),λi _=>n<=i⟩
abbrev It.on(J:It):It:=⟨J.go,J.yld,λ_ _=>False⟩
theorem A8x.fin{e:zZ->Prop}{J:It}(T:A8x (λ_=>True) P w K tg (It.on J) fp it tn)
  (d:∀(X:Cx),X.prog=P->X.w=w->X.K=K->e X.A->∀(i:Nat)(pins:zD)(s:zY)(Z:St)(H:Hp)(E:zA),Inv X pins Z H s->(∀b∈fp,kf X pins H b)->tn i s.heap->J.stop i H->
   wpAny (model P w) X.A (pyNext (.ref it)) (λr s1=>r=none/\Inv X pins Z H s1) E s):A8x e P w K tg J fp it tn:=⟨T.mem,T.obj,T.keep,λX a b c _=>T.item X a b c trivial,d,T.self⟩
theorem FT(a it:zW):A8x (λ_=>True) P w K tg (It.on (Itl K a)) [it] it (λi h=>h.IsListIter it a i) where
 mem:=by simp
 obj:=λi h f b l=>by
  have e:b=it:=by simpa using l
  subst e;obtain⟨o,e,c,d⟩:=f;exact bd o e λv z=>by rw[d]at z;cases z
 keep:=λi h m f k=>f.at λo e=>k it (by simp) o e
 item:=by
  intro X y M L W i g s Z H E I q f R;subst y M L;obtain⟨U,x,r,n⟩:=R;obtain⟨G,F,p,S⟩:=I.list r;obtain⟨u,N,J⟩:=F.get n;refine ji (q it (by simp)) ?_;rintro C Q Y t ⟨D,O⟩;refine wpAny_pyNext_list_item f p.isList (x:=u) (by simpa using N) λm j B=>?_;have I1:Inv X g Z H {s with heap:=m}:=I.turned (t':=s.toks) (λb o l e=>(B.2 b l).trans e) C Q t D O
  obtain⟨o,e,c,d⟩:=id j;exact bd u rfl (pX (s:={s with heap:=m}) e c d (by decide) (jr x H I1 J ⟨rfl,λT A=>by rw[I.list_inj A r];exact n⟩ j λb l=>(q b l).1))
 done:=λ_ _ _ _ _ _ _ _ _ _ _ _ _ _ z=>z.elim
 self:=λ_ _ _ _ _ f h=>wpAny_pyIter_listiter f h
theorem ET(a it:zW):C3g P w K tg (Itl K a) [it] it (λi h=>h.IsListIter it a i):=A8x.fin (FT a it)<|by intro X g v u l i c s Z H E I k d A;subst g v u;obtain⟨D,z,C⟩:=A;obtain⟨t,r,p,B⟩:=I.list z;refine ji (k it (by simp)) ?_;rintro j y J f ⟨m,x⟩;have F:=r.length;exact wpAny_pyNext_list_end l d p.isList (by simp;lia) λG n=>⟨rfl,I.turned (t':=s.toks) (λb o q e=>n b o q e) j y f m x⟩
theorem Gz(a it:zW):A8x (λ_=>True) P w K tg (It.on (Itt K a)) [it] it (λi h=>h.IsTupleIter it a i) where
 mem:=by simp
 obj:=λi h f b l=>by
  have e:b=it:=by simpa using l
  subst e;obtain⟨o,e,c,d⟩:=f;exact bd o e λv z=>by rw[d]at z;cases z
 keep:=λi h n f k=>f.at λo e=>k it (by simp) o e
 item:=by
  intro X A M L W i g s Z H E I r f R;subst A M L;obtain⟨U,x,t,q⟩:=R;obtain⟨m,G,p,S⟩:=I.tuple t;obtain⟨u,N,J⟩:=G.get q;refine ji (r it (by simp)) ?_;rintro D Q Y y ⟨F,O⟩;refine wpAny_pyNext_tuple_item f (show s.heap.IsTuple a m.toArray from p) (x:=u) (by simpa using N) λn j C=>?_;have I1:Inv X g Z H {s with heap:=n}:=I.turned (t':=s.toks) (λb o l e=>(C.2 b l).trans e) D Q y F O
  obtain⟨o,e,c,d⟩:=id j;exact bd u rfl (pX (s:={s with heap:=n}) e c d (by decide) (jr x H I1 J ⟨rfl,λT B=>by rw[I.tuple_inj B t];exact q⟩ j λb l=>(r b l).1))
 done:=λ_ _ _ _ _ _ _ _ _ _ _ _ _ _ z=>z.elim
 self:=λ_ _ _ _ _ f h=>wpAny_pyIter_tupleiter f h
theorem Fu(a it:zW):C3g P w K tg (Itt K a) [it] it (λi h=>h.IsTupleIter it a i):=A8x.fin (Gz a it)<|by intro X j v u m i d s Z H E I l f A;subst j v u;obtain⟨D,z,C⟩:=A;obtain⟨c,t,p,B⟩:=I.tuple z;refine ji (l it (by simp)) ?_;rintro k y J g ⟨n,x⟩;have F:=t.length;exact wpAny_pyNext_tuple_end m f (show s.heap.IsTuple a c.toArray from p) (by simp;lia) λG q=>⟨rfl,I.turned (t':=s.toks) (λb o r e=>q b o r e) k y g n x⟩
theorem Gr(it:zW)(lo:Int)(n:Nat):A8x (λ_=>True) P w K tg (It.on (Itr lo n)) [it] it (λi h=>IsRangeIter h it (lo+(i:Nat)*1) ((n:Int)-(i:Nat)) 1) where
 mem:=by simp
 obj:=λi h a b f=>by
  have x:b=it:=by simpa using f
  subst x
  exact⟨_,a,λv z=>by
   have y:Data.fields _=Data.cell v:=z
   cases y⟩
 keep:=λi h g a k=>k it (by simp) _ a
 item:=by
  intro X p C B G i c s Z H E I j a l;subst p C B;refine ji (j it (by simp)) ?_;rintro r F J m ⟨u,D⟩;have l:i<n:=l;refine wpAny_pyNext_range_item a (by lia) λg d q=>?_;have I1:Inv X c Z H {s with heap:=g,toks:=s.toks+1}:=I.turned (λb o f e=>(q.2 b f).trans e) r F m u D
  have t:lo+((i+1:Nat):Int)*1=lo+(i:Int)*1+1:=by lia
  have A:(n:Int)-((i+1:Nat):Int)=(n:Int)-(i:Int)-1:=by lia
  refine bd _ rfl (pX (s:={s with heap:=g,toks:=s.toks+1}) (n:="range_iterator") d rfl rfl (by decide) (jr (.int (lo+i)) H I1 ⟨s.toks,?_⟩ ⟨rfl,rfl⟩ ?_ λb f=>(j b f).1))
  ·rw[Int.mul_one]
  ·show IsRangeIter g it (lo+((i+1:Nat):Int)*1) ((n:Int)-((i+1:Nat):Int)) 1;rw[t,A];exact d
 done:=λ_ _ _ _ _ _ _ _ _ _ _ _ _ _ z=>z.elim
 self:=λ_ _ _ _ _ a h=>wpAny_pyIter_rangeiter a h
theorem Fx(it:zW)(lo:Int)(n:Nat):C3g P w K tg (Itr lo n) [it] it (λi h=>IsRangeIter h it (lo+(i:Nat)*1) ((n:Int)-(i:Nat)) 1):=A8x.fin (Gr it lo n)<|by intro X p l k u i a s Z H E I t f r;subst p l k;refine ji (t it (by simp)) ?_;rintro j q y g ⟨v,m⟩;exact wpAny_pyNext_range_end u f (by have:n<=i:=r;lia) λx c=>⟨rfl,I.turned (t':=s.toks) (λb o d e=>c b o d e) j q g v m⟩
def vQ(K:Frag)(tl:TE):TI:=λZ H R=>tl Z H λx b=>∃a,x=.ref a/\(∃c,SqL K b a c)/\R (Itl K a) b
def vB(K:Frag)(tl:TE):TI:=λZ H R=>tl Z H λx b=>∃a,x=.ref a/\(∃c,SqT K b a c)/\R (Itt K a) b
theorem jl(i:PE X l tl):PI X tg l (vQ X.K tl):=by
 intro c s Z H R I h;refine thn (i c s Z H _ I h) ?_;refine λv d f=>fO f λx r I1 j m=>?_;clear f;obtain⟨a,e,⟨w,n⟩,q⟩:=m;subst e;cases j;obtain⟨k,u,p,t⟩:=I1.list n;refine wpAny_pyIter_list p.isList ?_;refine kN d.heap.objs.size [d.heap.objs.size] _ _ r rfl (I1.kept (t':=d.toks) λb o e=>fS _ e) (ET a _) (fJ _ (gR _ rfl) rfl rfl) (λb g=>?_) q;have e:b=d.heap.objs.size:=by simpa using g
 subst e;exact I1.fpOk (fH _) (I1.hok.fresh (fH _))
theorem BW(j:PE X l tl):PI X tg l (vB X.K tl):=by
 intro d s Z H R I h;refine thn (j d s Z H _ I h) ?_;refine λv c g=>fO g λx r I1 k m=>?_;clear g;obtain⟨a,e,⟨w,n⟩,q⟩:=m;subst e;cases k;obtain⟨f,u,p,t⟩:=I1.tuple n;refine wpAny_pyIter_tuple (show c.heap.IsTuple a f.toArray from p) ?_;refine kN c.heap.objs.size [c.heap.objs.size] _ _ r rfl (I1.kept (t':=c.toks) λb o e=>fS _ e) (Fu a _) (fJ _ (gR _ rfl) rfl rfl) (λb i=>?_) q;have e:b=c.heap.objs.size:=by simpa using i
 subst e;exact I1.fpOk (fH _) (I1.hok.fresh (fH _))
theorem D7{R:It->Hp->Prop}{t u v:Tok}{tk:Nat}(I:Inv X pins Z H s)(h1: -(2^62)<=lo)(h2:lo<2^62)(d: -(2^62)<=hi)(f:hi<2^62)
  (q:R (Itr lo (hi-lo).toNat) H):wpAny (model X.prog X.w) X.A (pyIter (.ref s.heap.objs.size)) (PIE X pins Z tg R) E {s with heap:=s.heap.push {cls:=.type "range",data:=.fields #[.int lo t,.int hi u,.int 1 v]},toks:=tk}:=by
 refine wpAny_pyIter_range (IsRange.new ..) (small_one h1 h2 d f) ?_;have I1:Inv X pins Z H {s with heap:=s.heap.push {cls:=.type "range",data:=.fields #[.int lo t,.int hi u,.int 1 v]},toks:=tk}:=I.kept λb o e=>fS _ e
 refine⟨(s.heap.push {cls:=.type "range",data:=.fields #[.int lo t,.int hi u,.int 1 v]}).objs.size,[(s.heap.push {cls:=.type "range",data:=.fields #[.int lo t,.int hi u,.int 1 v]}).objs.size],_,_,H,rfl,
  I1.kept (t':=tk) λb o e=>fS _ e,Fx _ lo (hi-lo).toNat,?_,λb a=>?_,q⟩
 ·have g:lo+((0:Nat):Int)*1=lo:=by simp
  have c:(((hi-lo).toNat:Nat):Int)-((0:Nat):Int)=Builtin.Range.rangeSize lo hi 1:=by rw[rangeSize_one];split<;>lia
  show IsRangeIter _ _ (lo+((0:Nat):Int)*1) ((((hi-lo).toNat:Nat):Int)-((0:Nat):Int)) 1;rw[g,c];exact gR _ rfl
 ·have e:b=(s.heap.push {cls:=.type "range",data:=.fields #[.int lo t,.int hi u,.int 1 v]}).objs.size:=by simpa using a
  subst e;exact I1.fpOk (fH _) (I1.hok.fresh (fH _))
def Bk(ta:TA):TI:=λZ H R=>ta Z H λa b=>∃j:Int,a=[.int j]/\-(2^62)<=j/\j<2^62/\R (Itr 0 j.toNat) b
theorem nE{a:yC}{ta:TA}(l:Gl X "range")(k:X.mg "range"=none)(m:PA X [a] ta)(i:starEach [a] X.env=[(false,eval a X.env)]:=by rfl):PI X tg (.Call (.Name "range" p) [a] [] pos) (Bk ta):=by
 intro b s Z H R I h;refine Call_ (mM I l k boot_range (PyProof.Rows.callWith_type1 (thn (m pos b s Z H _ I h) ?_) i rfl));refine λu n d=>fO d λo v I1 g c=>?_;clear d;refine iD c ?_;clear c;rintro j e c ⟨f,q⟩;subst e
 cases g with
 |cons r rr=>
  cases rr
  obtain⟨t,rfl⟩:=r;exact call_range_1 (D7 I1 (by lia) (by lia) c f (by simpa using q))
def tf(wi:TI)(g:TG)(tb:TS):TS:=λD Z H=>wi Z H λJ c=>∃W:Nat->Nat->St->Hp->Prop,(∃m,W 0 m Z c)/\∀i m Z H,W i m Z H->
 (J.stop i H/\D.nx Z H)\/(J.go i H/\∃N:St->Hp->Prop,(∀Z' a,N Z' a->∃b,b<m/\W (i+1) b Z' a)/\∀x a,J.yld i H x a->g x Z a λZ2 d=>tb {D with nx:=N,ct:=N,bk:=D.nx} Z2 d)
def qg(fp:zQ)(h:yA):zD:=fp.filterMap λb=>(h.get? b).map λo=>(b,o)
theorem sv{b:zW}{o:Obj}(a:b∈fp)(e:h.get? b=some o):(b,o)∈qg fp h:=List.mem_filterMap.mpr (bd b a (by rw[e];rfl))
theorem ED{p:zW×Obj}(d:p∈qg fp h):p.1∈fp/\h.get? p.1=some p.2:=by
 obtain⟨b,c,e⟩:=List.mem_filterMap.mp d
 cases q:h.get? b with
 |none=>rw[q]at e;cases e
 |some o=>rw[q]at e;have a:(b,o)=p:=iO e;subst a;exact⟨c,q⟩
theorem Inv.pinned(I:Inv X pins Z H s)(f:∀b∈fp,kf X pins H b)(k:∀b∈fp,∃o,s.heap.get? b=some o/\∀v,o.data≠.cell v):Inv X (pins++qg fp s.heap) Z H s :=I.pins_of λp i=>(iw.mp i).elim (λz=>I.pin p (lj _ z)) λz=>by obtain⟨a,e⟩:=ED z;obtain⟨j,g,h,_⟩:=f p.1 a;obtain⟨o,c,d⟩:=k p.1 a;rw[e]at c;cases c;exact iV e j g h d
theorem Inv.unpinned{pl:zD}(I:Inv X (pins++pl) Z H s):Inv X pins Z H s:=I.pins_of λp a=>I.pin p (lj _ (lL _ a))
theorem CG{ok:zZ->Prop}{wi:TI}{g:TG}(z:PassesOwn (model X.prog X.w) X.A X.env X.xe)(Y:ok X.A)(hi:PIP ok X tg iter wi)(hg:PG X tg g)(c:PSs X body tb)
  (hs:∀x,foldedSetIterable iter X.env x=pure x:=by intro _;rfl):PS X (.For tg iter body [] pos) (tf wi g tb):=by
 intro a s Z H D I h;refine wpAny_For (thn (hi a s Z H _ I h) λv s1 h1=>thn h1 λa0 s2 h2=>?_) hs;refine kO h2 ?_;clear h2;rintro it C U J H2 e I2 T P f2 ⟨W,⟨m0,w0⟩,F⟩;subst e;have j:∀{H':Hp},(∀b∈C,H' b=none)->∀b∈C,kf X a H' b:=λhn b c=>⟨hn b c,(f2 b c).2⟩;refine codeAny_forLoop_any (λn s'=>∃i Z' H',Inv X a Z' H' s'/\U i s'.heap/\(∀b∈C,H' b=none)/\W i n Z' H') ?_ m0 (gE 0 Z H2 I2 P (λb c=>(f2 b c).1) w0);refine λn s3 B=>gn B λi Z3 M I3 t y w3=>?_;clear B;rcases F i n Z3 M w3 with ⟨G,qn⟩|⟨go,N,hN,L⟩
 ·refine wpAny_passesOwn z (thn (T.done X rfl rfl rfl Y i a s3 Z3 M X.xe I3 (j y) t G) ?_);rintro r s4 ⟨R,I4⟩;subst R;exact sU (gF Z3 M I4 qn)
 ·refine wpAny_passesOwn z (thn (T.item X rfl rfl rfl Y i a s3 Z3 M X.xe I3 (j y) t go) ?_);rintro r s4 ⟨u,R,h4⟩;subst R;refine wpAny_passesOwn z (thn h4 ?_);rintro _ E B;refine fV B ?_;clear B;rintro x S I5 r5 y5 ⟨q,O⟩;have I5':=I5.pinned (j O) (T.obj _ _ q);refine wpAny_passesOwn z (thn (hg _ E Z3 S x u _ I5' r5 (L x S y5)) ?_);rintro _ s6 ⟨Z6,H6,I6,q6⟩;refine wpAny_passesOwn z (thn (c _ s6 Z6 H6 _ I6 q6) λf Q p=>?_)
  have k:∀{Z7:St}{l:Hp},Inv X (a++qg C E.heap) Z7 l Q->N Z7 l->∃m,m<n/\∃i Z' H',Inv X a Z' H' Q/\U i Q.heap/\(∀b∈C,H' b=none)/\W i m Z' H':=λ{Z7 l} I7 K=>by obtain⟨m',hm,w7⟩:=hN Z7 l K;refine bd m' hm (gE (i+1) Z7 l I7.unpinned (T.keep _ _ _ q λb c o e=>(I7.pin (b,o) (lj _ (lj _ (sv c e)))).1) (λb c=>?_) w7);obtain⟨o,e,d⟩:=T.obj _ _ q b c;exact(I7.pin (b,o) (lj _ (lj _ (sv c e)))).2.1
  cases f with
  |next=>obtain⟨Z7,l,I7,K⟩:=p;exact k I7 K
  |cont=>obtain⟨Z7,l,I7,K⟩:=p;exact k I7 K
  |brk=>obtain⟨Z7,l,I7,p⟩:=p;exact gF Z7 l I7.unpinned p
  |ret v=>obtain⟨x7,Z7,l,I7,r7,p⟩:=p;exact⟨x7,Z7,l,I7.unpinned,r7,p⟩
theorem rA{wi:TI}{g:TG}(c:PassesOwn (model X.prog X.w) X.A X.env X.xe)(f:X.calm=true)(hi:PI X tg iter wi)(d:PG X tg g)(b:PSs X body tb)
  (e:∀x,foldedSetIterable iter X.env x=pure x:=by intro _;rfl):PS X (.For tg iter body [] pos) (tf wi g tb):=
 λa s Z H D I h=>CG c (I.ok.hd f) hi d b e a s Z H D I h
theorem kH{g:TG}{D:lO}(Pv:Nat->St->Hp->Prop)(h0:Pv 0 Z H)(c:∀i Z H,i<=xs.length->Pv i Z H->SqL K H a xs)
  (j:∀i x Z H,xs[i]?=some x->Pv i Z H->g x Z H λZ2 H2=>tb {D with nx:=Pv (i+1),ct:=Pv (i+1),bk:=D.nx} Z2 H2) (h:∀Z H,Pv xs.length Z H->D.nx Z H):
  ∃W:Nat->Nat->St->Hp->Prop,(∃m,W 0 m Z H)/\∀i m Z H,W i m Z H->
   ((Itl K a).stop i H/\D.nx Z H)\/((Itl K a).go i H/\∃N:St->Hp->Prop,(∀Z' H',N Z' H'->∃b,b<m/\W (i+1) b Z' H')/\∀x H',(Itl K a).yld i H x H'->g x Z H' λZ2 H2=>tb {D with nx:=N,ct:=N,bk:=D.nx} Z2 H2):=by
 refine bd (λi m Z H=>m=xs.length-i/\i<=xs.length/\Pv i Z H) (fJ xs.length (by simp) (jj _) h0) ?_;rintro i m Z H ⟨rfl,d,p⟩;have q:=c i Z H d p;by_cases hlt:i<xs.length
 ·refine .inr (gT (gF xs (xs[i]) q (by simp[hlt])) (Pv (i+1)) (λZ' H' f=>(iU (xs.length-(i+1)) (by lia) rfl hlt f)) λx H' y=>?_);obtain⟨e,y⟩:=y;subst e;exact j i x Z _ (y xs q) p
 ·have e:i=xs.length:=by lia
  subst e;exact .inl ⟨(bd xs q (fH _)),h Z H p⟩
theorem nV{g:TG}{D:lO}(Pv:Nat->St->Hp->Prop)(h0:Pv 0 Z H)
  (d:∀i Z H,i<n->Pv i Z H->g (.int (lo+i)) Z H λZ2 H2=>tb {D with nx:=Pv (i+1),ct:=Pv (i+1),bk:=D.nx} Z2 H2) (c:∀Z H,Pv n Z H->D.nx Z H):
  ∃W:Nat->Nat->St->Hp->Prop,(∃m,W 0 m Z H)/\∀i m Z H,W i m Z H->
   ((Itr lo n).stop i H/\D.nx Z H)\/((Itr lo n).go i H/\∃N:St->Hp->Prop,(∀Z' H',N Z' H'->∃a,a<m/\W (i+1) a Z' H')/\∀x H',(Itr lo n).yld i H x H'->g x Z H' λZ2 H2=>tb {D with nx:=N,ct:=N,bk:=D.nx} Z2 H2):=by
 refine bd (λi m Z H=>m=n-i/\i<=n/\Pv i Z H) (fJ n (by simp) (jj _) h0) ?_;rintro i m Z H ⟨rfl,f,p⟩;by_cases hlt:i<n
 ·refine .inr (gT hlt (Pv (i+1)) (λZ' H' b=>(iU (n-(i+1)) (by lia) rfl hlt b)) λx H' y=>?_);obtain⟨e,y⟩:=y;subst e y;exact d i Z _ hlt p
 ·have e:i=n:=by lia
  subst e;exact .inl ⟨fH _,c Z H p⟩
abbrev R2:=V->V->Hp->VK->Prop
def OpR(X:Cx)(f:zX->zX->Sem zX)(r:R2):Prop :=
 ∀(a:zD)(s:zY)(Z:St)(H:Hp)(x y:V)(v u:zX)(Q:VK),Inv X a Z H s->A2h x v->A2h y u->r x y H Q->
  wpAny (model X.prog X.w) X.A (f v u) (EP X a Z Q) X.xe s
def UnR(X:Cx)(f:zX->Sem zX)(r:V->Hp->VK->Prop):Prop :=
 ∀(a:zD)(s:zY)(Z:St)(H:Hp)(x:V)(v:zX)(Q:VK),Inv X a Z H s->A2h x v->r x H Q->
  wpAny (model X.prog X.w) X.A (f v) (EP X a Z Q) X.xe s
def mu(X:Cx)(f:zX)(r:zM->Hp->VK->Prop):Prop :=
 ∀(a:zD)(s:zY)(Z:St)(H:Hp)(b:zM)(c:zH)(Q:VK),Inv X a Z H s->A3b b c->r b H Q->
  wpAny (model X.prog X.w) X.A (call f c) (EP X a Z Q) X.xe s
def tOp(r:R2)(ta tb:TE):TE:=λZ H Q=>ta Z H λx a=>tb Z a λy b=>r x y b Q
def tUn(r:V->Hp->VK->Prop)(ta:TE):TE:=λZ H Q=>ta Z H λx a=>r x a Q
def rI(C:Int->Int->Prop)(g:Int->Int->V):R2:=λx y H Q=>∃i j,x=.int i/\y=.int j/\C i j/\Q (g i j) H
def oj(g:Int->Int->V):R2:=λx y H Q=>∃i j,x=.int i/\y=.int j/\Q (g i j) H
def rU(g:Int->V):V->Hp->VK->Prop:=λx H Q=>∃i,x=.int i/\Q (g i) H
section
variable{a:yC}{tb:TE}
theorem tG(k:PE X a ta)(g:PE X b tb){R:V->V->Hp->Prop}(I:Inv X pins Z H s)
  (h:ta Z H λx H1=>tb Z H1 λy H2=>R x y H2)
  (m:∀v u d x y H2,Inv X pins Z H2 d->A2h x v->A2h y u->R x y H2->wpAny (model X.prog X.w) X.A (f v u) Q X.xe d):
  wpAny (model X.prog X.w) X.A (eval a X.env) (λv s₁=>wpAny (model X.prog X.w) X.A (eval b X.env) (λu s₂=>wpAny (model X.prog X.w) X.A (f v u) Q X.xe s₂) X.xe s₁) X.xe s:=by
 refine thn (k pins s Z H _ I h) ?_;refine λv e c=>fO c λx H1 I1 j l=>?_;clear c;refine thn (g pins e Z H1 _ I1 l) ?_;refine λu d c=>fO c λy H2 I2 n i=>?_;clear c;exact m v u d x y H2 I2 j n i
theorem fQ{op:Operator}{r:R2}(k:OpR X (binaryOp op) r)(j:PE X a ta)(e:PE X b tb):PE X (.BinOp a op b pos) (tOp r ta tb):=by intro c s Z H Q I h;exact wpAny_BinOp (tG j e I h λv u d x y g I2 i f q=>k c d Z g x y v u Q I2 i f q)
theorem re{op:UnaryOp}{r:V->Hp->VK->Prop}(j:UnR X (unaryOp op) r)(i:PE X a ta):PE X (.UnaryOp op a pos) (tUn r ta):=by intro b s Z H Q I h;exact UnaryOp_ (thn (i b s Z H _ I h) (by (refine λv d c=>fO c λx g I1 e f=>?_;clear c);exact j b d Z g x v Q I1 e f))
theorem opI{C:Int->Int->Prop}
  (a:∀(i j:Int)(t u:Tok)(s:zY)(Q:zA)(E:zA),C i j->Q (.int (g i j) s.toks) {s with toks:=s.toks+1}->wpAny (model X.prog X.w) X.A (f (.int i t) (.int j u)) Q E s):
  OpR X f (rI C λi j=>.int (g i j)):=by
 intro b s Z H x y v u Q I c d h;refine fV h ?_;clear h;rintro i j rfl rfl e q;obtain⟨t,rfl⟩:=c;obtain⟨k,rfl⟩:=d;exact a i j t k s _ _ e (fC (.int (g i j)) H (I.tok _) ⟨_,rfl⟩ q)
theorem vD
  (a:∀(i j:Int)(t u:Tok)(s:zY)(Q:zA)(E:zA),Q (.int (g i j) s.toks) {s with toks:=s.toks+1}->wpAny (model X.prog X.w) X.A (f (.int i t) (.int j u)) Q E s):
  OpR X f (oj λi j=>.int (g i j)):=by
 intro b s Z H x y v u Q I c d h;refine fO h ?_;clear h;rintro i j rfl rfl q;obtain⟨t,rfl⟩:=c;obtain⟨e,rfl⟩:=d;exact a i j t e s _ _ (fC (.int (g i j)) H (I.tok _) ⟨_,rfl⟩ q)
theorem tj{g:Int->Int->Bool}
  (a:∀(i j:Int)(t u:Tok)(s:zY)(Q:zA)(E:zA),Q (.bool (g i j)) s->wpAny (model X.prog X.w) X.A (f (.int i t) (.int j u)) Q E s):
  OpR X f (oj λi j=>.bl (g i j)):=by
 intro b s Z H x y v u Q I c d h;refine fO h ?_;clear h;rintro i j rfl rfl q;obtain⟨t,rfl⟩:=c;obtain⟨e,rfl⟩:=d;exact a i j t e s _ _ (fC (.bl (g i j)) H I rfl q)
def CDiv(i j:Int):Prop:=0<j/\j<1073741824
def D8g(i j:Int):Prop:=(-(2^64)<i/\i<2^64)\/(-(2^64)<j/\j<2^64)
theorem D8g.ok{i j:Int}(h:D8g i j):IntMulOk i j:=by
 rcases h with ⟨a,b⟩|⟨a,b⟩
 ·exact .of_left (intBits_le_64 a b)
 ·exact .of_right (intBits_le_64 a b)
theorem jQ:OpR X (binaryOp .Add) (oj λi j=>.int (i+j)):=vD λ_ _ _ _ _ _ _ q=>add_int q
theorem pB:OpR X (binaryOp .Sub) (oj λi j=>.int (i-j)):=vD λ_ _ _ _ _ _ _ q=>sub_int q
theorem nQ:OpR X (binaryOp .Mult) (rI D8g λi j=>.int (i*j)):=opI λ_ _ _ _ _ _ _ a q=>mul_int q a.ok
theorem my:OpR X (binaryOp .FloorDiv) (rI CDiv λi j=>.int (i/j)):=opI λi j _ _ _ _ _ a q=>by have c:(0:Int)<j:=a.1;have b:j<1073741824:=a.2;exact floordiv_int (by lia) (by rw[Int.fdiv_eq_ediv_of_nonneg i (by lia)];exact q) (.inl (PyProof.noPylong_small (by lia)))
theorem jp:OpR X (binaryOp .Mod) (rI (λ_ j=>0<j) λi j=>.int (i%j)):=opI λi j _ _ _ _ _ a q=>by have b:(0:Int)<j:=a;exact mod_int' (by lia) (by rw[Int.fmod_eq_emod_of_nonneg i (by lia)];exact q)
theorem unI{f:zX->Sem zX}{g:Int->Int}
  (a:∀(i:Int)(t:Tok)(s:zY)(Q:zA)(E:zA),Q (.int (g i) s.toks) {s with toks:=s.toks+1}->wpAny (model X.prog X.w) X.A (f (.int i t)) Q E s):
  UnR X f (rU λi=>.int (g i)):=by
 intro b s Z H x v Q I c h;obtain⟨i,rfl,q⟩:=h;obtain⟨t,rfl⟩:=c;exact a i t s _ _ (fC (.int (g i)) H (I.tok _) ⟨_,rfl⟩ q)
theorem rC:UnR X (unaryOp .USub) (rU λi=>.int (-i)):=unI λ_ _ _ _ _ q=>neg_int q
end
def vu:V->V->Bool|.non,.non=>true|.non,.int _=>true|.int _,.non=>true|.non,.bl _=>true|.bl _,.non=>true|.non,.str _=>true|.str _,.non=>true|.int _,.int _=>true|.bl _,.bl _=>true|.str _,.str _=>true|.byt _,.byt _=>true|.int _,.str _=>true|.str _,.int _=>true|.bl _,.str _=>true|.str _,.bl _=>true|_,_=>false
def rEq:R2:=λx y H Q=>vu x y=true/\Q (.bl (decide (x=y))) H
def rNe:R2:=λx y H Q=>vu x y=true/\Q (.bl (! decide (x=y))) H
theorem xg{i j:Int}:decide (V.int i=V.int j)=(i==j):=by rw[Bool.eq_iff_iff];simp
theorem wK{i j:Bool}:decide (V.bl i=V.bl j)=(i==j):=by rw[Bool.eq_iff_iff];simp
theorem wZ{i j:Str}:decide (V.str i=V.str j)=(i==j):=by rw[Bool.eq_iff_iff];simp
theorem xm{i j:Array UInt8}:decide (V.byt i=V.byt j)=(i.toList==j.toList):=by rw[Bool.eq_iff_iff];cases i;cases j;simp
section
variable{a:yC}{tb:TE}
theorem ir{Q:VK}{k a:Bool}(I:Inv X pins Z H s)(q:Q (.bl k) H)(e:k=a):EP X pins Z Q (.bool a) s:=by subst e;exact fC (.bl k) H I rfl q
theorem lA:OpR X (compareOp .Eq) rEq:=by
 intro e s Z H x y v u Q I d a h;obtain⟨c,q⟩:=h
 cases x with
 |non=>
  cases d
  cases y with
  |non=>cases a;exact PySem.EqNone.eq_none_none (ir I q (by simp))
  |bl j=>cases a;exact PySem.EqNone.eq_none_bool (ir I q (by simp))
  |int j=>obtain⟨b,rfl⟩:=a;exact PySem.EqNone.eq_none_int (ir I q (by simp))
  |str j=>obtain⟨b,rfl⟩:=a;exact PySem.EqNone.eq_none_str (ir I q (by simp))
  |_=>exact absurd (show false=true from c) gL
 |bl i=>
  cases d
  cases y with
  |non=>cases a;exact PySem.EqNone.eq_bool_none (ir I q (by simp))
  |bl j=>cases a;exact eq_bool (ir I q wK)
  |str j=>obtain⟨b,rfl⟩:=a;exact PySem.EqMixed.eq_bool_str (ir I q (by simp))
  |_=>exact absurd (show false=true from c) gL
 |int i=>
  obtain⟨t,rfl⟩:=d
  cases y with
  |non=>cases a;exact PySem.EqNone.eq_int_none (ir I q (by simp))
  |int j=>obtain⟨b,rfl⟩:=a;exact eq_int (ir I q xg)
  |str j=>obtain⟨b,rfl⟩:=a;exact PySem.EqMixed.eq_int_str (ir I q (by simp))
  |_=>exact absurd (show false=true from c) gL
 |str i=>
  obtain⟨t,rfl⟩:=d
  cases y with
  |non=>cases a;exact PySem.EqNone.eq_str_none (ir I q (by simp))
  |bl j=>cases a;exact PySem.EqMixed.eq_str_bool (ir I q (by simp))
  |int j=>obtain⟨b,rfl⟩:=a;exact PySem.EqMixed.eq_str_int (ir I q (by simp))
  |str j=>obtain⟨b,rfl⟩:=a;exact eq_str (ir I q wZ)
  |_=>exact absurd (show false=true from c) gL
 |byt i=>
  obtain⟨t,rfl⟩:=d
  cases y with
  |byt j=>obtain⟨b,rfl⟩:=a;exact PySem.W.eq_bytes (ir I q xm)
  |_=>exact absurd (show false=true from c) gL
 |_=>cases y<;>exact absurd (show false=true from c) gL
theorem pY:OpR X (compareOp .NotEq) rNe:=by
 intro e s Z H x y v u Q I d a h;obtain⟨c,q⟩:=h
 cases x with
 |non=>
  cases d
  cases y with
  |non=>cases a;exact PySem.EqNone.ne_none_none (ir I q (by simp))
  |bl j=>cases a;exact PySem.EqNone.ne_none_bool (ir I q (by simp))
  |int j=>obtain⟨b,rfl⟩:=a;exact PySem.EqNone.ne_none_int (ir I q (by simp))
  |str j=>obtain⟨b,rfl⟩:=a;exact PySem.EqNone.ne_none_str (ir I q (by simp))
  |_=>exact absurd (show false=true from c) gL
 |bl i=>
  cases d
  cases y with
  |non=>cases a;exact PySem.EqNone.ne_bool_none (ir I q (by simp))
  |bl j=>cases a;exact ne_bool (ir I q (congrArg not wK))
  |str j=>obtain⟨b,rfl⟩:=a;exact PySem.EqMixed.ne_bool_str (ir I q (by simp))
  |_=>exact absurd (show false=true from c) gL
 |int i=>
  obtain⟨t,rfl⟩:=d
  cases y with
  |non=>cases a;exact PySem.EqNone.ne_int_none (ir I q (by simp))
  |int j=>obtain⟨b,rfl⟩:=a;exact ne_int (ir I q (congrArg not xg))
  |str j=>obtain⟨b,rfl⟩:=a;exact PySem.EqMixed.ne_int_str (ir I q (by simp))
  |_=>exact absurd (show false=true from c) gL
 |str i=>
  obtain⟨t,rfl⟩:=d
  cases y with
  |non=>cases a;exact PySem.EqNone.ne_str_none (ir I q (by simp))
  |bl j=>cases a;exact PySem.EqMixed.ne_str_bool (ir I q (by simp))
  |int j=>obtain⟨b,rfl⟩:=a;exact PySem.EqMixed.ne_str_int (ir I q (by simp))
  |str j=>obtain⟨b,rfl⟩:=a;exact ne_str (ir I q (congrArg not wZ))
  |_=>exact absurd (show false=true from c) gL
 |byt i=>
  obtain⟨t,rfl⟩:=d
  cases y with
  |byt j=>obtain⟨b,rfl⟩:=a;exact PySem.W.ne_bytes (ir I q (congrArg not xm))
  |_=>exact absurd (show false=true from c) gL
 |_=>cases y<;>exact absurd (show false=true from c) gL
theorem pW:OpR X (compareOp .Lt) (oj λi j=>.bl (decide (i<j))):=tj λ_ _ _ _ _ _ _ q=>lt_int q
theorem rk:OpR X (compareOp .LtE) (oj λi j=>.bl (decide (i<=j))):=tj λ_ _ _ _ _ _ _ q=>le_int q
theorem vW:OpR X (compareOp .Gt) (oj λi j=>.bl (decide (j<i))):=tj λ_ _ _ _ _ _ _ q=>gt_int q
theorem ua(b:yC)(h:op≠.In:=by decide)(h2:op≠.NotIn:=by decide):behindInMarks op b=false:=by
 have c:(op==CmpOp.In)=false:=by cases op<;>first|rfl|exact absurd rfl h
 have a:(op==CmpOp.NotIn)=false:=by cases op<;>first|rfl|exact absurd rfl h2
 cases b<;>simp[behindInMarks,c,a]
theorem CK{r:R2}(l:OpR X (compareOp op) r)(k:PE X a ta)(e:PE X b tb)(j:behindInMarks op b=false:=by exact ua _):PE X (.Compare a [op] [b] pos) (tOp r ta tb):=by intro c s Z H Q I h;exact wpAny_Compare1 (tG k e I h λv u d x y g I2 i f q=>l c d Z g x y v u Q I2 i f q) j
def vY(t:TE):TT:=λZ H Q=>t Z H λx a=>∃k,x=.bl k/\Q k a
theorem iA{r:R2}(m:OpR X (compareOp op) r)(B:PE X a ta)(p:PE X b tb)(w:behindInMarks op b=false:=by exact ua _):PT X (.Compare a [op] [b] pos) (vY (tOp r ta tb)):=by
 intro d s Z H Q I h
 refine wpAny_isTrue_Compare1 (thn (B d s Z H _ I h) λv n ⟨x,l,I1,q,i⟩=>thn (p d n Z l _ I1 i) λu o ⟨y,j,I2,t,g⟩=>thn (m d o Z j x y v u _ I2 q t g) λc D ⟨z,f,I3,C,k,e,A⟩=>?_) w
 subst e;cases C;exact wpAny_truthy_bool (bd f I3 A)
def BB(r d:R2)(ta tb tc:TE):TE:=λZ H Q=>ta Z H λx e=>tb Z e λy f=>r x y f λz a=>∃k,z=.bl k/\
 (if k=true then tc Z a λb c=>d y b c Q else Q (.bl false) a)
theorem xz{g:CmpOp}{r l:R2}(F:OpR X (compareOp op) r)(i:OpR X (compareOp g) l)(S:PE X a ta)(K:PE X b tb)(D:PE X c tc)
  (R:lastMarks [op,g] [b,c]=false:=by with_unfolding_all rfl):PE X (.Compare a [op,g] [b,c] pos) (BB r l ta tb tc):=by
 intro f s Z H Q I h
 refine Compare_chain (thn (S f s Z H _ I h) λv G ⟨x,C,I1,M,w⟩=>chain_link (thn (K f G Z C _ I1 w) λu J ⟨y,A,I2,n,p⟩=>thn (F f J Z A x y v u _ I2 M n p) λd q ⟨z,j,I3,T,k,e,o⟩=>?_)) R
 subst e;cases T;refine wpAny_truthy_bool ?_
 cases k with
 |false=>exact ite_ff (fC (.bl false) j I3 rfl o)
 |true=>exact ite_tt (chain_last (thn (D f q Z j _ I3 o) (by (refine λB t m=>fO m λL N I4 P O=>?_;clear m);exact i f t Z N y L u B Q I4 n P O)))
theorem tX:(sizeLine:Nat)<2^63:=by rw[sizeLine_eq];decide
theorem FX:OpR X (binaryOp .Add) (λx y H Q=>∃i j,x=.str i/\y=.str j/\i.length+j.length<=sizeLine/\Q (.str (i++j)) H):=by intro a s Z H x y v u Q I c d h;refine fV h ?_;clear h;rintro i j rfl rfl b q;obtain⟨t,rfl⟩:=c;obtain⟨e,rfl⟩:=d;exact add_str (λe f=>(fC (.str (i++j)) H (I.tok _) ⟨_,rfl⟩ q)) b
theorem mq{x:V}(r:A3b [x] us):∃u,us=[u]/\A2h x u:=by
 cases r with
 |cons r1 r2=>cases r2;exact bd _ rfl r1
theorem rf{x:V}(r:A3b [x,y] us):∃u w',us=[u,w']/\A2h x u/\A2h y w':=by
 cases r with
 |cons r1 r2=>
  cases r2 with
  |cons r3 r4=>cases r4;exact fC _ _ rfl r1 r3
theorem EX(b:X.calm=true):mu X (.builtin "min") (λxs H Q=>∃i j,xs=[.int i,.int j]/\Q (.int (if j<i then j else i)) H):=by
 intro a s Z H xs f Q I r h;obtain⟨i,j,rfl,q⟩:=h;refine fO (rf r) ?_;rintro u d rfl ⟨t,rfl⟩ ⟨g,rfl⟩;refine min_two_ints (I.ok.hd b) λc e k=>(fC _ H (I.kept k) ?_ q);by_cases hj:j<i
 ·rw[bz hj,bz hj];exact⟨_,rfl⟩
 ·rw[bp hj,bp hj];exact⟨_,rfl⟩
theorem EC:mu X (.type "int") (λxs H Q=>(∃i,xs=[.int i]/\Q (.int i) H)\/∃k,xs=[.bl k]/\Q (.int (if k then 1 else 0)) H):=by
 intro a s Z H xs c Q I r h;rcases h with ⟨i,rfl,q⟩|⟨k,rfl,q⟩
 ·obtain⟨u,rfl,t,rfl⟩:=mq r;exact call_int_int (fC (.int i) H I ⟨_,rfl⟩ q)
 ·obtain⟨u,rfl,b⟩:=mq r;cases b;exact call_int_bool (fC (.int (if k then 1 else 0)) H (I.tok _) ⟨_,rfl⟩ q)
theorem Hi:mu X (.type "str") (λxs H Q=>∃i,xs=[.int i]/\i.natAbs.log2<1920/\Q (.str (toString i)) H):=by intro a s Z H xs c Q I r h;obtain⟨i,rfl,b,q⟩:=h;obtain⟨u,rfl,t,rfl⟩:=mq r;exact PySem.P.str_of_int b (fC (.str _) H (I.tok _) ⟨_,rfl⟩ q)
end
structure D2r(h:yA)(x dx C:zW)(mA:zE):Prop where
 obj:h.get? x=some (instObj C dx)
 ns:h.Ns1 dx mA
 ne:dx≠x
theorem EO(n:h.Ns1 dx mA):∃od,h.get? dx=some od/\∀name,PySem.W.lookIn name od=some (mA name):=by
 refine gn n ?_;clear n;rintro o c l k d g ⟨_,f⟩;refine bd o k λname=>?_;have e:=f name;unfold nsFind findBy at e;rw[<-Array.find?_toList]at e;unfold PySem.W.lookIn;rw[d];dsimp only;split
 ·rename_i y q;rw[q]at e;exact congrArg some e
 ·rename_i q;rw[q]at e
  have a:c.toList.any (·.refKey)=false:=by rw[List.any_eq_false];intro y i;obtain⟨z,t,b⟩:=g y (Array.mem_toList_iff.mp i);simp[DictEntry.refKey,b]
  have j:¬c.toList.any (·.refKey)=true:=by rw[a];exact gL
  rw[bp j];exact congrArg some e
theorem D2r.look{x:zW}(I:D2r h x dx C mA):∃od,PySem.W.InstAt h x (instObj C dx) C (some od)/\∀name,PySem.W.lookIn name od=some (mA name):=
 let⟨od,ho,hl⟩:=EO I.ns
 (bd od ⟨I.obj,rfl,rfl,ho⟩ hl)
section
variable{x f:zW}
theorem jZ{a:Bool}(X:K.In s.heap)(I:D2r s.heap x dx C mA)(f:plainGet K C name=true)(d:hasDictIn K C=true)
  (g:findIn K (.ref C) name=some none) (e:mA name=some v) (b:PySem.W.handedIn v=true) (h:Q v {s with toks:=s.toks+1}):
  wpAny (model prog w) A (getAttr (.ref x) name a) Q E s:=by
 obtain⟨i,J,c⟩:=I.look;exact PySem.W.get_value X J (PySem.W.plainGet_of f).1 (PySem.W.findObj_own d g rfl (by rw[c,e])) b h
theorem DK{Q:zX×List zX->zY->Prop}(X:K.In s.heap)(I:D2r s.heap x dx C mA)(a:plainGet K C name=true)
  (d:findIn K (.ref C) name=some (some (.ref f))) (e:isFn K (.ref f)=true) (g:mA name=none) (h:Q (.ref f,[.ref x]) s):
  wpAny (model prog w) A (getMethod (.ref x) name pl) Q E s:=by
 obtain⟨c,J,b⟩:=I.look;exact PySem.W.method_fn X J (PySem.W.plainGet_of a).1 (PySem.W.plainGet_of a).2 d (beq_iff_eq.mp e) (by show(PySem.W.lookIn name c).map (·.isSome)=some false;rw[b,g];rfl) h
theorem CI{j:zC}{Q:Unit->zY->Prop}(X:K.In s.heap)(I:D2r s.heap x dx C mA)
  (o:findIn K (.ref C) "__setattr__"=some (some (.builtin "object.__setattr__"))) (l:plainOver K C=true) (t:PySem.W.takerIn K C name=some none) (k:hasDictIn K C=true)
  (q:PySem.Within mA j) (hsz:j.length<=sizeLine)
  (h:∀h',D2r h' x dx C (λy=>if y=name then some v else mA y)->Heap.SameBut dx s.heap h'->Q () {s with heap:=h',toks:=s.toks+2}):
  wpAny (model prog w) A (setAttr (.ref x) name v) Q E s:=by
 obtain⟨D,J,z⟩:=I.look;refine PySem.W.set_plain X J o (PySem.W.osa_open (s:={s with toks:=s.toks+1}) (r:=none) X J l t λb=>?_)
 obtain⟨B,u,i⟩:=PySem.W.any_some k;have p:s.heap.get? x=some ⟨.ref C,some dx,.plain,#[]⟩:=I.obj;refine bc (ck (bc (bc (wpAny_loadPart p (bc (PySem.W.Looks.here (s:={s with toks:=s.toks+1}) (PySem.W.looks_clsIn X u) ?_))))));rw[i];refine ck (a:=some dx) (bc (ck (bc ?_)));refine wpAny_nsSet1 (s:={s with toks:=s.toks+1}) I.ns λh' c d=>?_
 refine jK (c.count (PySem.Within.cons name v q)) λF m n f e g=>?_;refine bc (wpAny_lookBehind f (by rw[e];exact pastItsLine_dict (jU g (by rw[gZ];lia))) ?_);exact ck (h _ ⟨(d.2 _ (Ne.symm I.ne)).trans I.obj,c,I.ne⟩ d)
theorem DJ{vs:zH}(X:K.In s.heap)(b:makesIn K C=true)
  (hi:findIn K (.ref C) "__init__"=some (some (.ref f))) (c:typeIn K (.ref f)=some (.type "function"))
  (h:codeAny (model prog w) (A.under (.builtin "type.__call__" ⟨.ref C::vs,kw⟩)) (.call (.ref f) ⟨.ref (s.heap.objs.size+1)::vs,kw⟩) (PySem.W.InitBack (s.heap.objs.size+1) R)
   {s with heap:=(s.heap.push emptyDict).push (instObj C s.heap.objs.size)}):
  codeAny (model prog w) A (.call (.ref C) ⟨vs,kw⟩) R s:=by
 obtain⟨i,g,d,t,e⟩:=s;exact PySem.W.make_core (PySem.W.makes_of X b) (PySem.W.looks_findIn X hi) (λa=>PySem.W.bind_fn X a c) (.inl rfl) h
end
def gX(f:Str)(v:V):List (Str×V)->List (Str×V)| []=>[(f,v)]|(g,x)::r=>if g=f then (g,v)::r else (g,x)::gX f v r
theorem zu(f g:Str)(v:V):∀fs:zK,(gX f v fs).lookup g=if g=f then some v else fs.lookup g
 | []=>by
  show List.lookup g [(f,v)]=_;by_cases h:g=f
  ·have a:(g==f)=true:=beq_iff_eq.mpr h;simp only [List.lookup,a,bz h]
  ·have a:(g==f)=false:=oX.mpr h;simp only [List.lookup,a,bp h]
 |(k,x)::r=>by
  have b:=zu f g v r;rw[show gX f v ((k,x)::r)=(if k=f then (k,v)::r else (k,x)::gX f v r) from rfl];by_cases hk:k=f
  ·rw[bz hk];by_cases h:g=k
   ·have a:(g==k)=true:=beq_iff_eq.mpr h;simp only [List.lookup,a,bz (h.trans hk)]
   ·have a:(g==k)=false:=oX.mpr h;simp only [List.lookup,a,bp (λe:g=f=>h (e.trans hk.symm))]
  ·rw[bp hk];by_cases h:g=k
   ·have a:(g==k)=true:=beq_iff_eq.mpr h;simp only [List.lookup,a,bp (λe:g=f=>hk (h.symm.trans e))]
   ·have a:(g==k)=false:=oX.mpr h;simp only [List.lookup,a];exact b
theorem uL(f:Str)(v:V):∀fs:zK,f∈(gX f v fs).map (·.1)/\∀g,g∈fs.map (·.1)->g∈(gX f v fs).map (·.1)
 | []=>⟨by simp[gX],λg h=>by simp at h⟩
 |(k,x)::r=>by
  obtain⟨b,a⟩:=uL f v r;rw[show gX f v ((k,x)::r)=(if k=f then (k,v)::r else (k,x)::gX f v r) from rfl];by_cases hk:k=f
  ·rw[bz hk];subst hk;exact⟨by simp,λg h=>by simpa using h⟩
  ·rw[bp hk];refine⟨?_,λg h=>?_⟩
   ·rw[gA];exact jD _ b
   ·rw[gA]at h⊢;rcases gB.mp h with e|e
    ·exact gB.mpr (.inl e)
    ·exact jD _ (a g e)
theorem Aa(f:Str)(v:V):∀fs:zK,(gX f v fs).length<=fs.length+1
 | []=>by simp[gX]
 |(k,x)::r=>by
  have a:=Aa f v r;rw[show gX f v ((k,x)::r)=(if k=f then (k,v)::r else (k,x)::gX f v r) from rfl];by_cases hk:k=f
  ·rw[bz hk,gZ,gZ];lia
  ·rw[bp hk,gZ,gZ];lia
theorem B2e.some_of{v:V}(r:B2e (some v) o):∃u,o=some u/\A2h v u:=by
 cases o with
 |none=>exact(show False from r).elim
 |some u=>exact bd u rfl r
theorem B2e.none_of(r:B2e none o):o=none:=by
 cases o with
 |none=>rfl
 |some u=>exact(show False from r).elim
theorem Fi{v:V}(r:A2h v u):PySem.W.handedIn u=true:=by
 cases v with
 |non=>cases(show u=Value.none from r);rfl
 |bl b=>cases(show u=Value.bool b from r);rfl
 |int i=>obtain⟨t,e⟩:=(show∃t,u=Value.int i t from r);cases e;rfl
 |str x=>obtain⟨t,e⟩:=(show∃t,u=Value.str x t from r);cases e;rfl
 |byt b=>obtain⟨t,e⟩:=(show∃t,u=Value.bytes b t from r);cases e;rfl
 |flt b=>obtain⟨t,e⟩:=(show∃t,u=Value.float b t from r);cases e;rfl
 |ref a=>cases(show u=Value.ref a from r);rfl
 |ty n=>cases(show u=Value.type n from r);rfl
section
variable{fs fs':zK}
theorem rN(b:HOk P w H h)(e:H a=some (.ins C dx fs)):∃mA,D2r h a dx C mA/\(∀f,B2e (fs.lookup f) (mA f))/\PySem.Within mA (fs.map (·.1))/\fs.length<=1000/\H dx=some (.own a):=by refine ji (show A1w P w H h a (.ins C dx fs) from b a _ e) ?_;rintro d z g c ⟨mA,n,r,q⟩;exact⟨mA,(iV ⟨c,n,g⟩ r q z d)⟩
end
structure Cls(K:Frag)(C:zW):Prop where
 pg:plainGet K C Str.empty=true
 hd:hasDictIn K C=true
 po:plainOver K C=true
 sa:findIn K (.ref C) "__setattr__"=some (some (.builtin "object.__setattr__"))
theorem Cls.get(c:Cls K C)(f:Str):plainGet K C f=true:=c.pg
def A1n(K:Frag)(C:zW)(f:Str):Prop:=findIn K (.ref C) f=some none
theorem A1n.taker{f:Str}(n:A1n K C f):PySem.W.takerIn K C f=some none:=by unfold PySem.W.takerIn;rw[show findIn K (.ref C) f=some none from n];rfl
structure lQ(K:Frag)(C:zW)(m:Str)(f:zW):Prop where
 at_:findIn K (.ref C) m=some (some (.ref f))
 fn:isFn K (.ref f)=true
 kp:keepIn K (.ref f)=true
section
variable{fs:zK}{f:Str}{v:V}
theorem FU{b:Bool}(I:Inv X pins Z H s)(e:H a=some (.ins C dx fs))(c:Cls X.K C)(n:A1n X.K C f)(l:fs.lookup f=some v)
  (h:∀u s',Inv X pins Z H s'->A2h v u->Q u s'):wpAny (model X.prog X.w) A (getAttr (.ref a) f b) Q E s:=by
 refine iD (rN I.hok e) ?_;rintro g O r ⟨_,_,_⟩;obtain⟨u,i,d⟩:=B2e.some_of (v:=v) (o:=g f) (by rw[<-l];exact r f);exact jZ I.kIn O (c.get f) c.hd n i (Fi d) (h u _ (I.tok _) d)
theorem Fw{g:zW}{Q:zX×List zX->zY->Prop}(I:Inv X pins Z H s)(e:H a=some (.ins C dx fs))(c:Cls X.K C)(k:lQ X.K C m g)(l:fs.lookup m=none)
  (h:Q (.ref g,[.ref a]) s):wpAny (model X.prog X.w) A (getMethod (.ref a) m pl) Q E s:=by
 refine iD (rN I.hok e) ?_;rintro b O r ⟨_,_,_⟩;have d:b m=none:=B2e.none_of (by rw[<-l];exact r m);exact DK I.kIn O (c.get m) k.at_ k.fn d h
theorem FH{Q:Unit->zY->Prop}(I:Inv X pins Z H s)(e:H a=some (.ins C dx fs))(c:Cls X.K C)(n:A1n X.K C f)(D:fs.length<1000)(p:A2h y u)
  (h:∀s',Inv X pins Z (upd H a (.ins C dx (gX f y fs))) s'->Q () s'):wpAny (model X.prog X.w) A (setAttr (.ref a) f u) Q E s:=by
 refine iD (rN I.hok e) ?_;rintro i O r ⟨d,_,j⟩;have l:(fs.map (·.1)).length<=sizeLine:=by rw[eA,sizeLine_eq];lia
 refine CI I.kIn O c.sa c.po n.taker c.hd d l λt O' B=>h _ ?_;have m:∃o,t.get? dx=some o:=let⟨o,_,_,e',_⟩:=O'.ns;⟨o,e'⟩;refine I.write (x:=a) (e:=dx) (by rw[e];exact True.intro) (.inr j) (λb q k z=>(B.2 b k).trans z) m ?_;refine iW (by rw[eh O.ne];exact j) ?_ O.ne (kY O'.obj _ O'.ns (λg=>?_) λg v=>?_)
 ·have:=Aa f y fs;lia
 ·show B2e ((gX f y fs).lookup g) (if g=f then some u else i g);rw[zu];by_cases q:g=f
  ·rw[bz q,bz q];exact p
  ·rw[bp q,bp q];exact r g
 ·by_cases q:g=f
  ·rw[q];exact(uL f y fs).1
  ·refine(uL f y fs).2 g (d g λz=>v ?_);show(if g=f then some u else i g)=none;rw[bp q];exact z
theorem Inv.made(I:Inv X pins Z H s):Inv X pins Z (upd (upd H s.heap.objs.size (.own (s.heap.objs.size+1))) (s.heap.objs.size+1) (.ins C s.heap.objs.size []))
  {s with heap:=(s.heap.push emptyDict).push (instObj C s.heap.objs.size)}:=by
 have c:(s.heap.push emptyDict).get? s.heap.objs.size=some emptyDict:=gR s.heap rfl
 have g:((s.heap.push emptyDict).push (instObj C s.heap.objs.size)).get? (s.heap.objs.size+1)=some (instObj C s.heap.objs.size):=by
  have:=gR (s.heap.push emptyDict) (o:=instObj C s.heap.objs.size) rfl
  rwa[me]at this
 have f:(s.heap.push emptyDict).Ns s.heap.objs.size (λ_=>none):=(gE emptyDict (#[]) _ c rfl (λe h=>absurd h (by simp)) λ_=>rfl);have I1:=I.laid (a:=s.heap.objs.size) (o:=.own (s.heap.objs.size+1)) (h':=s.heap.push emptyDict) (t':=s.toks) (λb u q=>fS _ q) (fH _) ⟨_,c⟩;refine I1.laid (a:=s.heap.objs.size+1) (o:=.ins C s.heap.objs.size []) (t':=s.toks) (λb u q=>fS _ q) (Nat.le_of_eq (me _ _)) ?_;have d:s.heap.objs.size≠s.heap.objs.size+1:=im (Nat.lt_succ_self _);refine iW (by rw[eh d,dh]) (jj _) d (kY g (λ_=>none) ((Heap.Ns1.of_empty f).at λo q=>fS _ q) (λ_=>True.intro) λy i=>absurd rfl i)
theorem Cy{a:Env}{f:Str}(b:attributeBase e f a (eval e a)=eval e a)
  (h:wpAny (model prog w) A (eval e a) (λo s₁=>wpAny (model prog w) A (getAttr o f true) Q E s₁) E s):wpAny (model prog w) A (eval (.Attribute e f pos) a) Q E s :=
 Attribute_any_ h (by rw[arm_eval_Attribute,b])
end
def tFld(K:Frag)(ta:TE)(f:Str):TE:=λZ H Q=>ta Z H λx c=>∃a C d b v,x=.ref a/\c a=some (.ins C d b)/\Cls K C/\A1n K C f/\b.lookup f=some v/\Q v c
def sFld(K:Frag)(ta tv:TE)(f:Str):TS:=λD Z H=>tv Z H λy e=>ta Z e λx d=>∃a C c b,x=.ref a/\d a=some (.ins C c b)/\Cls K C/\A1n K C f/\b.length<1000/\
 D.nx Z (upd d a (.ins C c (gX f y b)))
section
variable{o:yC}{f:Str}
theorem jw(j:PE X e ta)(g:attributeBase e f X.env (eval e X.env)=eval e X.env):PE X (.Attribute e f pos) (tFld X.K ta f):=by intro b s Z H Q I h;refine Cy g (thn (j b s Z H _ I h) ?_);rintro u t d;refine oU d ?_;clear d;rintro x p I1 k a C z ⟨y,v,m,o,c,n,l,q⟩;subst m;obtain rfl:u=Value.ref a:=k;exact FU I1 o c n l λr w I2 i=>(fC v p I2 i q)
theorem jH(w:PE X o ta)(m:PE X value tv)(p:swapsWith value (some (.Attribute o f pos')) pos.line X.env=pure false):PS X (.Assign [.Attribute o f pos'] value pos) (sFld X.K ta tv f):=by intro b s Z H D I h;refine plainObj_wpAny_Assign_Attribute (thn (m b s Z H _ I h) ?_) p;refine λu j d=>fO d λy i I1 k q=>?_;clear d;refine thn (w b j Z i _ I1 q) ?_;rintro t F d;refine oU d ?_;clear d;rintro x B I2 r a C G ⟨A,v,g,c,n,l,e⟩;subst v;obtain rfl:t=Value.ref a:=r;exact FH I2 g c n l k λz I3=>(gF Z _ I3 e)
end
section
variable{c:zX}{b:Bool}
inductive kA(K:Frag)(H:Hp):V->zX->Prop where
 |non:kA K H .non (.type "NoneType")
 |bl (x:Bool):kA K H (.bl x) (.type "bool")
 |int (i:Int):kA K H (.int i) (.type "int")
 |str (x:Str):kA K H (.str x) (.type "str")
 |flt (x:UInt64):kA K H (.flt x) (.type "float")
 |lst {a:zW} {xs:zM} (e:H a=some (.lst xs)):kA K H (.ref a) (.type "list")
 |frz {a:zW} {o:Obj} {xs:zM} (e:H a=some (.frz o (.lst xs))):kA K H (.ref a) (.type "list")
 |tup {a:zW} {xs:zM} (e:H a=some (.tup xs)):kA K H (.ref a) (.type "tuple")
 |dK {a:zW} {kvs:zJ} (e:H a=some (.dK kvs)):kA K H (.ref a) (.type "dict")
 |dT {a:zW} {kvs:List (List Key×V)} (e:H a=some (.dT kvs)):kA K H (.ref a) (.type "dict")
 |ins {a C dx:zW} {fs:zK} (e:H a=some (.ins C dx fs)) (cl:Cls K C) (ha:findIn K (.ref C) "__class__"=some (some (.builtin "object.__class__")))
   (hn:specialIn K (.builtin "object.__class__") "__get__"=some (some (.builtin "getset_descriptor.__get__"))) (htk:takesIn K (.builtin "object.__class__")=some true)
   (hm:mroIn K C (.type "object")=some true):kA K H (.ref a) (.ref C)
theorem Ft{x:V}{t:zX}(I:Inv X pins Z H s)(d:A2h x u)(ty:kA X.K H x t)(e:kitOne X.K t c=some b)(h:∀tk,Q (.bool b) {s with toks:=tk}):
  wpAny (model X.prog X.w) A (call (.builtin "isinstance") [u,c]) Q E s:=by
 cases ty with
 |non=>cases(show u=Value.none from d);exact PySem.W.kia_one PySem.W.kitx_none I.kIn True.intro e (λz=>nomatch z) h
 |bl y=>cases(show u=Value.bool y from d);exact PySem.W.kia_one PySem.W.kitx_bool I.kIn True.intro e (λz=>nomatch z) h
 |int i=>obtain⟨t,q⟩:=(show∃t,u=Value.int i t from d);cases q;exact PySem.W.kia_one PySem.W.kitx_int I.kIn True.intro e (λz=>nomatch z) h
 |str y=>obtain⟨t,q⟩:=(show∃t,u=Value.str y t from d);cases q;exact PySem.W.kia_one PySem.W.kitx_str I.kIn True.intro e (λz=>nomatch z) h
 |flt y=>obtain⟨t,q⟩:=(show∃t,u=Value.float y t from d);cases q;exact PySem.W.kia_one PySem.W.kitx_float I.kIn True.intro e (λz=>nomatch z) h
 |@lst a g ea=>
  cases(show u=Value.ref a from d)
  refine iX (show A1w X.prog X.w H s.heap a (.lst g) from I.hok a _ ea) λ_ _ n _ f=>?_;exact PySem.W.kia_one PySem.W.kitx_list I.kIn (bd _ f rfl) e (λz=>nomatch z) h
 |@frz a ob g ea=>
  cases(show u=Value.ref a from d)
  obtain⟨_,_,_,n,_,f⟩:=(show A1w X.prog X.w H s.heap a (.frz ob (.lst g)) from I.hok a _ ea);exact PySem.W.kia_one PySem.W.kitx_list I.kIn (bd _ f rfl) e (λz=>nomatch z) h
 |@tup a g ea=>
  cases(show u=Value.ref a from d)
  obtain⟨_,_,_,p⟩:=(show A1w X.prog X.w H s.heap a (.tup g) from I.hok a _ ea);obtain⟨o,f,j,_⟩:=p;exact PySem.W.kia_one PySem.W.kitx_tuple I.kIn (bd o f j) e (λz=>nomatch z) h
 |@dK a kvs ea=>
  cases(show u=Value.ref a from d)
  refine nk (show A1w X.prog X.w H s.heap a (.dK kvs) from I.hok a _ ea) λ_ _ m _ p=>?_;refine jK p λo k l f j _=>?_;clear p;exact PySem.W.kia_one PySem.W.kitx_dict I.kIn (bd o f j.1) e (λz=>nomatch z) h
 |@dT a kvs ea=>
  cases(show u=Value.ref a from d)
  refine ko (show A1w X.prog X.w H s.heap a (.dT kvs) from I.hok a _ ea) ?_;rintro _ _ g _ o k l f ⟨j,_⟩;exact PySem.W.kia_one PySem.W.kitx_dict I.kIn (bd o f j.1) e (λz=>nomatch z) h
 |@ins a C dx fs ea cl ha hn htk hm=>
  cases(show u=Value.ref a from d)
  obtain⟨v,O,_⟩:=rN I.hok ea;obtain⟨r,J,_⟩:=O.look;exact PySem.W.kia_one (PySem.W.kitx_own (cl.get _) cl.hd ha hn htk hm) I.kIn J e (λz=>nomatch z) h
end
structure A7s(k:Nat)(A:zZ):Prop where
 hd:A.handled=none
 dp:A.depth+3*k+5<recursionLimit
 un:A.units+16*k+200<cLine
 gd:A.guards=some []
theorem A7s.mono{k:Nat}(r:A7s k A)(h:j<=k):A7s j A:=⟨r.hd,by have:=r.dp;lia,by have:=r.un;lia,r.gd⟩
theorem A7s.deeper{k:Nat}(r:A7s (k+1) A)(a:Env):A7s k (A.deeper a):=⟨r.hd,by have:=r.dp;show A.depth+1+3*k+5<_;lia,by have:=r.un;show A.units+3+16*k+200<_;lia,r.gd⟩
theorem FA:(A.under (.builtin "type.__call__" ⟨.ref C::us,kw⟩)).depth=A.depth+1:=by first|rfl|simp[Around.under,Code.weight,Code.isCreation,Code.isGuard,Code.isCaller,Code.frames,Code.isFrame,guardIds]
theorem FK:(A.under (.builtin "type.__call__" ⟨.ref C::us,kw⟩)).units=A.units+1:=by first|rfl|simp[Around.under,Code.cUnits,Code.frames,Code.isFrame]
theorem Gq:(A.under (.builtin "type.__call__" ⟨.ref C::us,kw⟩)).guards=A.guards:=by
 show pushGuards (Code.guards (.builtin "type.__call__" ⟨.ref C::us,kw⟩)) A.guards=A.guards;have h:Code.isGuard (.builtin "type.__call__" ⟨.ref C::us,kw⟩)=false:=by first|rfl|(simp[Code.isGuard,guardIds])|decide
 unfold Code.guards;rw[h];cases A.guards<;>rfl
theorem A7s.make{k:Nat}(r:A7s (k+1) A)(C:zW)(us:zH)(kw:List (Str×zX)):A7s k (A.under (.builtin "type.__call__" ⟨.ref C::us,kw⟩)):=⟨r.hd,by have:=r.dp;rw[FA];lia,by have:=r.un;rw[FK];lia,by rw[Gq];exact r.gd⟩
theorem A7s.depth{k:Nat}(r:A7s k A):A.depth<recursionLimit:=by have:=r.dp;lia
theorem A7s.units{k:Nat}(r:A7s k A):A.units+64<cLine:=by have:=r.un;lia
theorem A7s.units0{k:Nat}(r:A7s k A):A.units<cLine:=by have:=r.un;lia
def vK:TA:=λ_ H Q=>Q [] H
def vO(ta:TE)(b:TA):TA:=λZ H Q=>ta Z H λx c=>b Z c λa d=>Q (x::a) d
theorem dV:PA X [] vK:=λ_ _ _ _ H Q I h=>Calls.spliced_nil (fC [] H I .nil h)
theorem bm(p:PE X e te)(i:PA X es t)(j:starEach (e::es) X.env=(false,eval e X.env)::starEach es X.env:=by rfl):PA X (e::es) (vO te t):=by intro c a s Z H Q I h;rw[j];show wpAny _ _ (spliced ((false,eval e X.env)::backTo c (starEach es X.env))) _ _ s;refine Calls.spliced_cons (thn (p a s Z H _ I h) ?_);refine λu d b=>fO b λx o I1 g k=>?_;clear b;exact thn (i c a d Z o _ I1 k) (by (refine λr q b=>fO b λn m I2 l f=>?_;clear b);exact fC (x::n) m I2 (.cons g l) f)
def tTup(t:TA):TE:=λZ H Q=>t Z H λa b=>a.length<=sizeLine/\∀p,b p=none->Q (.ref p) (upd b p (.tup a))
def tLst(t:TA):TE:=λZ H Q=>t Z H λa b=>a.length<=sizeLine/\∀p,b p=none->Q (.ref p) (upd b p (.lst a))
theorem hW{x1}(h:PA X es t):PE X (.Tuple es x1 pos) (tTup t):=by intro a s Z H Q I i;refine wpAny_Tuple_spliced (thn (h pos a s Z H _ I i) λg c ⟨f,d,I1,r,z,q⟩=>⟨by rw[<-r.length];exact z,?_⟩);have j:d c.heap.objs.size=none:=I1.hok.fresh (fH _);refine fC (.ref c.heap.objs.size) (upd d c.heap.objs.size (.tup f)) (I1.laid (t':=c.toks) (λb u e=>fS _ e) (fH _) ?_) rfl (q _ j);exact qB z g r _ (gR _ rfl) rfl _ rfl
theorem hJ(h:PA X es t):PE X (.List es pos) (tLst t):=by intro a s Z H Q I i;refine wpAny_List_spliced (thn (h pos a s Z H _ I i) λg c ⟨f,d,I1,r,z,q⟩=>⟨by rw[<-r.length];exact z,?_⟩);have j:d c.heap.objs.size=none:=I1.hok.fresh (fH _);refine fC (.ref c.heap.objs.size) (upd d c.heap.objs.size (.lst f)) (I1.laid (t':=c.toks) (λb u e=>fS _ e) (fH _) ?_) rfl (q _ j);exact md z g 0 r (gR _ rfl)
abbrev Sp:=zM->Hp->VK->XK->Prop
abbrev CXT:=List Env->Hp->zY->XK->zX->zY->Prop
structure D1z(P:yB)(w:yD)(K:Frag)(mg:zE)(base:yA)(A:zZ)(outer:List Env)(s:zY)(H:Hp):Prop where
 frames:A.frames=some outer
 mod:Mod K mg base
 bs:∀b o,base.get? b=some o->s.heap.get? b=some o/\H b=none
 bsz:base.objs.size<=s.heap.objs.size
 funs:s.heap.FunFrames base outer
 frf:∀b∈frs outer,H b=none
 hok:HOk P w H s.heap
 bare:AllBare s.gens
def CE(a:List Env)(P:yB)(w:yD)(H:Hp)(s:zY)(Q:VK)(u:zX)(s':zY):Prop :=∃v b,s'.os=s.os/\AllBare s'.gens/\Un (frs a) [] H b s.heap s'.heap/\HOk P w b s'.heap/\A2h v u/\Q v b
def CR(CX:CXT)(a:List Env)(P:yB)(w:yD)(H:Hp)(s:zY)(Q:VK)(E:XK)(r:Result)(s':zY):Prop :=
 match r with
 |.ok (.ret u)=>CE a P w H s Q u s'
 |.ok _=>False
 |.error e=>CX a H s E e s'
structure A4x(P:yB)(w:yD)(K:Frag)(mg:zE)(base:yA)(CX:CXT)(k:Nat)(f:zW)(fd:zS)(ps:zC)(sp:Sp):Prop where
 len:∀vs H Q E,sp vs H Q E->vs.length=ps.length
 run:∀(A:zZ)(outer:List Env)(s:zY)(H:Hp)(args:Args)(us:zH)(vs:zM)(Q:VK)(E:XK),A7s k A->D1z P w K mg base A outer s H->BindsTo s fd args (ps.zip us)->A3b vs us->sp vs H Q E->
  codeAny (model P w) A (.call (.ref f) args) (CR CX outer P w H s Q E) s
theorem A4x.mono{k:Nat}{f:zW}{sp:Sp}(F:A4x P w K mg base CX j f fd ps sp)(h:j<=k):
  A4x P w K mg base CX k f fd ps sp:=⟨F.len,λA a s H b c d Q E e=>F.run A a s H b c d Q E (e.mono h)⟩
theorem D1z.make{a:List Env}(e:D1z P w K mg base A a s H)(C:zW)(us:zH)(kw:List (Str×zX)):
  D1z P w K mg base (A.under (.builtin "type.__call__" ⟨.ref C::us,kw⟩)) a s H:=⟨by first|exact e.frames|(simpa[Around.under,Code.envs,Code.isFrame,pushEnvs]using e.frames),e.mod,e.bs,e.bsz,e.funs,e.frf,e.hok,e.bare⟩
theorem Inv.env0(I:Inv X pins Z H s):D1z X.prog X.w X.K X.mg X.base X.A X.stack s H :=⟨I.ok.frames,I.ok.mod,I.bs,jU I.ok.bsz I.sz,I.stack,I.stkFree,I.hok,I.bare⟩
theorem Inv.after{Q:VK}(I:Inv X pins Z H s)(h:CE X.stack X.prog X.w H s Q u s'):EP X pins Z Q u s':=by refine fV h ?_;clear h;rintro v k f a j ⟨e,r,q⟩;obtain⟨i,g,d,t,c⟩:=s';obtain rfl:c=s.os:=f;exact fC v k (I.call (h':=i) (g':=g) (d':=d) (t':=t) (ch:=[]) j e a (λb z=>absurd z (by simp))) r q
def wc(sp:Sp)(dvs:zM)(E:XK)(t:TA):TE:=λZ H Q=>t Z H λa b=>sp (a++dvs) b Q E
def vV(C:zW)(sp:Sp)(dvs:zM)(E:XK)(t:TA):TE:=λZ H Q=>t Z H λc b=>∀x a,b x=none->b a=none->a≠x->
 sp (.ref x::(c++dvs)) (upd (upd b a (.own x)) x (.ins C a [])) (λv d=>v=.non/\Q (.ref x) d) E
def A9v(K:Frag)(fd:zS)(ps:zC)(ds:zH):Prop :=∀(s:zY)(a:zH),K.In s.heap->(a++ds).length=ps.length->BindsTo s fd ⟨a,[]⟩ (ps.zip (a++ds))
theorem A9v.all(h:∀us:zH,us.length=ps.length->bindArgs fd ⟨us,[]⟩=pure (ps.zip us)):A9v K fd ps []:=λs us _ a=>by rw[kQ]at a⊢;exact .of_eq (h us a)
def qf(CX:CXT)(X:Cx)(E:XK):Prop:=∀(a:zD)(Z:St)(H:Hp)(s:zY)(e:zX)(b:zY),Inv X a Z H s->CX X.stack H s E e b->X.xe e b
section
variable{CX:CXT}{k:Nat}{f:zW}{sp:Sp}{E:XK}{o:yC}
theorem wE{Q:VK}(F:A4x X.prog X.w X.K X.mg X.base CX k f fd ps sp)(j:A7s k X.A)(d:A9v X.K fd ps ds)(g:A3b dvs ds)(l:qf CX X E)
  (I:Inv X pins Z H s) (r:A3b vs us) (h:sp (vs++dvs) H Q E):wpAny (model X.prog X.w) X.A (call (.ref f) us) (EP X pins Z Q) X.xe s:=by
 have b:A3b (vs++dvs) (us++ds):=r.append g;have c:(us++ds).length=ps.length:=by rw[<-b.length];exact F.len _ _ _ _ h
 refine wpAny_call (codeAny_mono (F.run X.A X.stack s H ⟨us,[]⟩ (us++ds) (vs++dvs) Q E j I.env0 (d s us I.kIn c) b h) λr i a=>?_)
 cases r with
 |error e=>exact l pins Z H s e i I a
 |ok fl=>
  cases fl with
  |ret u=>exact I.after a
  |next=>exact False.elim a
  |brk=>exact False.elim a
  |cont=>exact False.elim a
theorem C6(F:A4x X.prog X.w X.K X.mg X.base CX k f fd ps sp)(i:A7s k X.A)(o:Gl X x)(m:X.mg x=some (.ref f))(n:keepIn X.K (.ref f)=true)(d:A9v X.K fd ps ds)(g:A3b dvs ds)(l:qf CX X E)
  (u:PA X (e::es) t) (c:(x==("__debug__":Str))=false:=by decide) (j:starEach (e::es) X.env=(false,eval e X.env)::starEach es X.env:=by rfl) (b:(backTo pos (starEach es X.env)).any (·.1)=false:=by rfl):
  PE X (.Call (.Name x p) (e::es) [] pos) (wc sp dvs E t):=by
 intro a s Z H Q I h;refine wpAny_Call_Name_kw (wN I o m ?_ c);refine PySem.W.callWith_K (h₀:=X.base) I.ok.mod.kin n (thn (u pos a s Z H _ I h) λz v ⟨y,B,I1,r,q⟩=>⟨I1.kIn,?_⟩) j b;exact wE F i d g l I1 r q
structure Mk(K:Frag)(C f:zW):Prop where
 makes:makesIn K C=true
 init:findIn K (.ref C) "__init__"=some (some (.ref f))
 fn:isFn K (.ref f)=true
 kp:keepIn K (.ref C)=true
theorem Dp{Q:VK}(M:Mk X.K C f)(F:A4x X.prog X.w X.K X.mg X.base CX k f fd ps sp)(m:A7s (k+1) X.A)(g:A9v X.K fd ps ds)(i:A3b dvs ds)
  (o:qf CX X E) (I:Inv X pins Z H s) (r:A3b vs us)
  (h:∀x dx,H x=none->H dx=none->dx≠x->sp (.ref x::(vs++dvs)) (upd (upd H dx (.own x)) x (.ins C dx [])) (λv H2=>v=.non/\Q (.ref x) H2) E):
  wpAny (model X.prog X.w) X.A (call (.ref C) us) (EP X pins Z Q) X.xe s:=by
 have c:=h (s.heap.objs.size+1) s.heap.objs.size (I.hok.fresh (Nat.le_succ _)) (I.hok.fresh (fH _)) (im (Nat.lt_succ_self _));have I2:=Inv.made (C:=C) I;have b:A3b (V.ref (s.heap.objs.size+1)::(vs++dvs)) (Value.ref (s.heap.objs.size+1)::(us++ds)):=.cons rfl (r.append i)
 have d:(Value.ref (s.heap.objs.size+1)::us++ds).length=ps.length:=by have e:=b.length;rw[F.len _ _ _ _ c]at e;exact e.symm
 refine wpAny_call (DJ (f:=f) I.kIn M.makes M.init (beq_iff_eq.mp M.fn) (codeAny_mono (F.run _ X.stack _ _ ⟨Value.ref (s.heap.objs.size+1)::us,[]⟩ (Value.ref (s.heap.objs.size+1)::(us++ds)) _ _ E (m.make C us [])
  (I2.env0.make C us []) (g _ (Value.ref (s.heap.objs.size+1)::us) I2.kIn d) b c) λr l a=>?_))
 cases r with
 |error e=>exact o pins Z _ _ e l I2 a
 |ok fl=>
  cases fl with
  |ret u=>refine fV (I2.after a) λv n I3 j p q=>?_;subst p;exact jg j (V.ref (s.heap.objs.size+1)) n I3 rfl q
  |next=>exact False.elim a
  |brk=>exact False.elim a
  |cont=>exact False.elim a
theorem Di(M:Mk X.K C f)(F:A4x X.prog X.w X.K X.mg X.base CX k f fd ps sp)(i:A7s (k+1) X.A)(n:Gl X x)(m:X.mg x=some (.ref C))(d:A9v X.K fd ps ds)(g:A3b dvs ds)(l:qf CX X E)
  (o:PA X (e::es) t) (c:(x==("__debug__":Str))=false:=by decide) (j:starEach (e::es) X.env=(false,eval e X.env)::starEach es X.env:=by rfl) (b:(backTo pos (starEach es X.env)).any (·.1)=false:=by rfl):
  PE X (.Call (.Name x p) (e::es) [] pos) (vV C sp dvs E t):=by
 intro a s Z H Q I h;refine wpAny_Call_Name_kw (wN I n m ?_ c);refine PySem.W.callWith_K (h₀:=X.base) I.ok.mod.kin M.kp (thn (o pos a s Z H _ I h) λy u ⟨v,z,I1,r,q⟩=>⟨I1.kIn,?_⟩) j b;exact Dp M F i d g l I1 r q
end
section
variable{CX:CXT}{k:Nat}{f:zW}{sp:Sp}{E:XK}{o:yC}
variable{g:zH->List zX->List zX}
end
structure gC(N P:zC)(sc:Scope):Prop where
 kind:sc.kind=.function
 co:sc.isCoroutine=false
 gen:sc.isGenerator=false
 nd:N.Nodup
 pre:N.take P.length=P
 par:∀x∈P,sc.names.lookup x=some .local\/sc.names.lookup x=some .cell
 nofree:∀y∈sc.names,y.2≠.free
theorem yJ{b:Str->Option NameKind}{x:Str}:∀{a:List (Str×zX)}{m:zE},(∀v,(x,v)∉a)->bindL b a m x=m x
 | [],_,_=>rfl
 |(n,v)::r,m,h=>by
  unfold bindL;rw[yJ λw c=>h w (jD _ c)];split
  ·have:x≠n:=by rintro rfl;exact h v jG
   simp[this]
  ·rfl
theorem yz{b:Str->Option NameKind}{x:Str}:∀{a:List (Str×zX)}{m:zE},(∀v,(x,v)∉a)->bindC b a m x=m x
 | [],_,_=>rfl
 |(n,v)::r,m,h=>by
  unfold bindC;rw[yz λw c=>h w (jD _ c)];split
  ·rfl
  ·have:x≠n:=by rintro rfl;exact h v jG
   simp[this]
theorem yx{a:Str->Option NameKind}{x:Str}{v:zX}:∀{P:zC}{vs:zH}{i:Nat}{m:zE},P.Nodup->P[i]?=some x->vs[i]?=some v->a x=some .local->
  bindL a (P.zip vs) m x=some v
 | [],_,_,_,_,h,_,_=>by simp at h
 |_::_,[],_,_,_,_,h,_=>by simp at h
 |p::P,w::vs,0,m,nd,h1,h2,hk=>by simp at h1 h2;subst h1;subst h2;show bindL a ((p,w)::P.zip vs) m p=_;unfold bindL;rw[yJ λv b=>(ou.mp nd).1 (List.of_mem_zip b).1,bz hk];simp
 |p::P,w::vs,i+1,m,nd,h1,h2,hk=>by show bindL a ((p,w)::P.zip vs) m x=_;unfold bindL;exact yx (i:=i) (ou.mp nd).2 (by simpa using h1) (by simpa using h2) hk
theorem yM{a:Str->Option NameKind}{x:Str}{v:zX}:∀{P:zC}{vs:zH}{i:Nat}{m:zE},P.Nodup->P[i]?=some x->vs[i]?=some v->a x≠some .local->
  bindC a (P.zip vs) m x=some v
 | [],_,_,_,_,h,_,_=>by simp at h
 |_::_,[],_,_,_,_,h,_=>by simp at h
 |p::P,w::vs,0,m,nd,h1,h2,hk=>by simp at h1 h2;subst h1;subst h2;show bindC a ((p,w)::P.zip vs) m p=_;unfold bindC;rw[yz λv b=>(ou.mp nd).1 (List.of_mem_zip b).1,bp hk];simp
 |p::P,w::vs,i+1,m,nd,h1,h2,hk=>by show bindC a ((p,w)::P.zip vs) m x=_;unfold bindC;exact yM (i:=i) (ou.mp nd).2 (by simpa using h1) (by simpa using h2) hk
def start(N:zC)(vs:zM):St:=vs.map some++List.replicate (N.length-vs.length) none
def pe(CX:CXT)(P:yB)(w:yD)(K:Frag)(mg:zE)(base:yA)(N:zC)(a:Str)(scope:Scope)(f:zW)(cd:zX)(A:zZ)(outer:List Env)(s:zY)(H:Hp)(E:XK):Cx where
 prog:=P
 w:=w
 K:=K
 mg:=mg
 base:=base
 A:=A.deeper (envOfC a scope s.heap.objs.size f cd)
 N:=N
 s₀:=s
 H₀:=H
 env:=envOfC a scope s.heap.objs.size f cd
 outer:=outer
 stack:=envOfC a scope s.heap.objs.size f cd::outer
 ex:=[]
 calm:=true
 fn:=λ_=>true
 pn:=[]
 xe:=λe d=>wpAny (model P w) (A.deeper (envOfC a scope s.heap.objs.size f cd)) (leaving (envOfC a scope s.heap.objs.size f cd) e) (λ_ b=>CX outer H s E e b) (λc b=>CX outer H s E c b) d
theorem ym{a:Scope}(h:a.names.lookup x=some .cell):∃c,(cellsFrom n a.names []).lookup x=some c:=by have q:=PySem.W.cellsFrom_some a.names n [] (.inl h);exact Option.isSome_iff_exists.mp q
theorem Et{g:Str}{f:zW}{E:XK}
  (S:gC N ps scope) (I:A.handled=none) (l:D1z P w K mg base A d s H) (Q:vs.length=ps.length) (r:A3b vs us)
  (x:InCallC s s.heap.objs.size (bindL (envOfC g scope s.heap.objs.size f cd).kindOf (ps.zip us) λ_=>none) (cellsFrom (s.heap.objs.size+1) scope.names []) (bindC (envOfC g scope s.heap.objs.size f cd).kindOf (ps.zip us) λ_=>none) s1):
  Inv (pe CX P w K mg base N g scope f cd A d s H E) [] (start N vs) H s1:=by
 have J:ps.length<=N.length:=by have:=congrArg List.length S.pre;rw[jd]at this;lia
 obtain⟨C,O,rfl,G⟩:=x.done;have o:∀b:zW,b∉(pe CX P w K mg base N g scope f cd A d s H E).ex:=λb z=>absurd (show b∈([]:zQ) from z) (by simp)
 refine⟨⟨l.mod,S.kind,rfl,rfl,fH _,λy z c C j=>?_,λy m=>?_,λy c _ h=>?_,λ_=>I,Around.frames_deeper l.frames,.inr ⟨rfl,rfl⟩,λb z=>absurd z (o b),l.bs,l.bsz,λb _ _=>o b,λb z=>absurd z (o b),l.funs,l.frf⟩,
  rfl,l.bare,Un.kept G,(bd _ x.toInCall.ns λi y v C j R=>?_),λy c h=>⟨_,x.cell y c h⟩,l.hok.fresh (fH _),λy c h=>?_,λp t=>absurd (show p∈([]:zD) from t) (by simp),l.hok.kept G,?_⟩
 ·exact name_of_addr x.apart (PySem.mem_of_lookup C) (PySem.mem_of_lookup j)
 ·have m:scope.names.lookup y=some .cell\/scope.names.lookup y=some .free:=m;rcases m with m|m
  ·exact ym m
  ·exact absurd rfl (S.nofree _ (PySem.mem_of_lookup m))
 ·exact Nat.le_of_lt (x.above y c (PySem.mem_of_lookup h))
 ·have D:i<vs.length:=by
   unfold start at j;by_cases D:i<vs.length
   ·exact D
   ·rw[mH (by simpa using D)]at j;rw[List.getElem?_replicate]at j;split at j<;>cases j
  have M:vs[i]?=some v:=by
   unfold start at j;rw[mG (by simpa using D),ju]at j
   cases e:vs[i]? with
   |none=>rw[e]at j;cases j
   |some a=>rw[e]at j;cases j;rfl
  obtain⟨u,F,L⟩:=r.get M
  have t:ps[i]?=some y:=by rw[<-S.pre,List.getElem?_take_of_lt (by lia)];exact C
  have B:ps.Nodup:=by rw[<-S.pre];exact S.nd.sublist (sT _ _)
  refine bd u L ?_;rcases S.par y (gq t)with k|k
  ·exact .inl ⟨k,yx B t F k⟩
  ·obtain⟨c,e⟩:=ym (n:=s.heap.objs.size+1) k;refine .inr (gT (.inl k) c e ?_);have q:=x.cell y c e;rw[yM B t F (by show scope.names.lookup y≠_;rw[k];decide)]at q;exact q
 ·exact l.hok.fresh (Nat.le_of_lt (x.above y c (PySem.mem_of_lookup h)))
 ·unfold start;show _=N.length;rw[gc,eA,List.length_replicate]
  lia
theorem Bj{k:Nat}{f:zW}{c:Str}{g:Arguments}{M kV m d:zX}
 {N:zC} {sp:Sp} (lk:K.lookup f=some ⟨oc,od,.func (fnOf name c g body scope M kV m pm an d ct),osl⟩) (G:codeIn K d c=true) (S:gC N ps scope)
  (l:∀vs H Q E,sp vs H Q E->vs.length=ps.length)
  (h:∀(A:zZ)(a:List Env)(s:zY)(H:Hp)(vs:zM)(Q:VK)(E:XK),A7s k (A.deeper (envOfC c scope s.heap.objs.size f d))->sp vs H Q E->
   ∃t,PSs (pe CX P w K mg base N c scope f d A a s H E) body t/\t {nx:=λ_ H'=>Q .non H',rt:=Q} (start N vs) H):
  A4x P w K mg base CX (k+1) f (fnOf name c g body scope M kV m pm an d ct) ps sp:=by
 refine⟨l,λA a s H L O vs Q E F B U r z=>?_⟩;have T:=l _ _ _ _ z;have KX:K.In s.heap:=B.mod.kin.keeps λb o e=>(B.bs b o e).1;have C:s.heap.NoLimit:=B.mod.nolimit.keeps λb o e=>(B.bs b o e).1
 have j:∀y∈ps.zip O,scope.names.lookup y.1=some .local\/(scope.names.lookup y.1=some .cell/\((cellsFrom (s.heap.objs.size+1) scope.names []).lookup y.1).isSome=true):=λ⟨n,v⟩ R=>by
  rcases S.par n (List.of_mem_zip R).1 with q|q
  ·exact .inl q
  ·exact .inr ⟨q,PySem.W.cellsFrom_some _ _ _ (.inl q)⟩
 refine codeAny_call_function F.depth (KX _ _ lk) rfl S.co S.gen rfl (PySem.W.codeRec_of KX G) (U _ _ _ _ ?_);refine wpAny_newFunctionEnv_cells S.kind j λa0 X s1 x=>?_;subst X;refine⟨C.keeps x.toInCall.keep,codeAny_func ?_⟩;obtain⟨t,Y,Z⟩:=h A a s H vs Q E (F.deeper _) z;have I:Inv (pe CX P w K mg base N c scope f d A a s H E) [] (start N vs) H s1:=Et S F.hd B T r x;refine jE (Y [] s1 (start N vs) H _ I Z) (λfl s' i=>?_) λe s' i=>i
 have p:∀{Z':St}{H':Hp}{v:V}{u:zX},Inv (pe CX P w K mg base N c scope f d A a s H E) [] Z' H' s'->A2h v u->Q v H'->CE a P w H s Q u s' :=λ{Z' H' v u} J D q=>(jz v H' J.os J.bare J.base J.hok D q)
 cases fl with
 |ret u=>refine jK i λv Z' H' J D q=>?_;clear i;exact p J D q
 |next=>obtain⟨Z',H',J,q⟩:=i;exact p (v:=V.non) (u:=Value.none) J rfl q
 |brk=>obtain⟨_,_,_,q⟩:=i;exact False.elim q
 |cont=>obtain⟨_,_,_,q⟩:=i;exact False.elim q
section
variable{id:String}
def tCB(r:zM->Hp->VK->Prop)(t:TA):TE:=λZ H Q=>t Z H λa b=>r a b Q
theorem jy(w:mu X (.builtin id) r)(q:Gl X x)(o:X.mg x=none)(j:bootBuiltins x=some (.builtin id))(v:PA X (e::es) t)(g:x≠"__name__":=by decide)(c:(x==("__debug__":Str))=false:=by decide)
  (l:starEach (e::es) X.env=(false,eval e X.env)::starEach es X.env:=by rfl) (b:(backTo pos (starEach es X.env)).any (·.1)=false:=by rfl):PE X (.Call (.Name x p) (e::es) [] pos) (tCB r t):=by
 intro a s Z H Q I h;refine wpAny_Call_Name_kw (mM I q o j ?_ g c);exact PyProof.Rows.callWith_builtin1 (thn (v pos a s Z H _ I h) (by (refine λn f d=>fO d λk u I1 i m=>?_;clear d);exact w a f Z u k n Q I1 i m)) l b
theorem mE(w:mu X (.type T) r)(q:Gl X x)(o:X.mg x=none)(j:bootBuiltins x=some (.type T))(v:PA X (e::es) t)(g:x≠"__name__":=by decide)(c:(x==("__debug__":Str))=false:=by decide)
  (l:starEach (e::es) X.env=(false,eval e X.env)::starEach es X.env:=by rfl) (b:(backTo pos (starEach es X.env)).any (·.1)=false:=by rfl):PE X (.Call (.Name x p) (e::es) [] pos) (tCB r t):=by
 intro a s Z H Q I h;refine wpAny_Call_Name_kw (mM I q o j ?_ g c);exact PyProof.Rows.callWith_type1 (thn (v pos a s Z H _ I h) (by (refine λn f d=>fO d λk u I1 i m=>?_;clear d);exact w a f Z u k n Q I1 i m)) l b
end
end L2
namespace HT
open PySem PyProof.Rows
section
open PySem.SeqAt
open PySem.AutoSeq1 (wpAny_loadPart')
open PySem.MeetsSeq PySem.MeetsSeq2 PySem.MeetsSeq3
end
section
variable{prog:yB}{w:yD}{A:zZ}{E:zA}{s:zY}
theorem cat_tup{t b:zW}{vs a:zH}{Q:zA}(v:IsTup s.heap t vs.toArray)(u:IsTup s.heap b a.toArray)(l:vs≠[])
  (h1:a=[]->Q (.ref t) s) (h2:a≠[]->Q (.ref s.heap.objs.size) {s with heap:=s.heap.push {cls:=.type "tuple",data:=.seq (vs++a).toArray}})
  (hsz:vs.length+a.length<=sizeLine):wpAny (model prog w) A (binaryOp .Add (.ref t) (.ref b)) Q E s:=by
 refine iD (id v) ?_;rintro⟨cls,r,data,m⟩ i q ⟨n,k⟩;refine iD (id u) ?_;rintro⟨p,h,j,g⟩ c d ⟨o,f⟩;simp only at q k d f;subst q k d f;have e:vs.toArray++a.toArray=(vs++a).toArray:=by simp
 by_cases hw:a=[]
 ·exact concat_meets (bd _ i rfl) (bd _ c rfl) noFill_tuple_add seq_tuple_add PySem.F.slot_tuple_add PySem.F.entry_tuple_add (PySem.F.args_tuple_add_2 _ _)
   (tuple_addW1 t b vs.toArray a.toArray n o r h m g (by simpa using l) (by simp[hw])) (fL i c (h1 hw))
 ·refine concat_meets (bd _ i rfl) (bd _ c rfl) noFill_tuple_add seq_tuple_add PySem.F.slot_tuple_add PySem.F.entry_tuple_add (PySem.F.args_tuple_add_2 _ _)
   (tuple_addW2 t b vs.toArray a.toArray n o r h m g (by simpa using l) (by simpa using hw) (by rw[iL,iL];exact hsz)) (fL i c ?_)
  rw[e];exact h2 hw
def sIx(n d:Nat):Option Int->Nat|none=>d|some v=>if v<0 then (v+(n:Int)).toNat else min v.toNat n
theorem sIx_nat(n d k:Nat):sIx n d (some (k:Int))=min k n:=by show(if (k:Int)<0 then ((k:Int)+(n:Int)).toNat else min (k:Int).toNat n)=min k n;rw[bp (by lia),Int.toNat_natCast]
end
end HT
namespace L2
open PySem PySem.Spec PyProof.Rows
variable{α:Type}{zs ys:zM}{x v d:V}{value e:yC}{us its':zH}{ty tx tv to tk te td tb ta:TE}{t:TA}{r:V->Option Int->Option Int->Hp->VK->Prop}{xs:List (List Key×zW×zX)}{prog:yB}{pins:zD}{p2 cpos apos:Pos}{name:Str}{n j:Nat}{lo hi:Option yC}{l b:zW}{ks:zU}{h' h:yA}{es:zT}{d':zX}{c:HO}{Z:St}{T:String}{H' H:Hp}{s:zY}{its:zH}{f:zG->Array zX}{t':Nat}{o:zP}{u:zX}{y:V}{P:yB}{w:yD}{kvs:List (List Key×V)}{a:zW}{Q E:zA}{pos:Pos}{X:Cx}{trs:List (TE×TE)}{keys:List (Option yC)}{A:zZ}
abbrev TO:=St->Hp->(Option Int->Hp->Prop)->Prop
def PO(X:Cx)(e:Option yC)(t:TO):Prop :=
 ∀(a:zD)(s:zY)(Z:St)(H:Hp)(Q:Option Int->Hp->Prop),Inv X a Z H s->t Z H Q->
  wpAny (model X.prog X.w) X.A (evalPart e X.env) (λu c=>∃o b,Inv X a Z b c/\IsPart u o/\Q o b) X.xe s
def Ci:TO:=λ_ H Q=>Q none H
def AL(t:TE):TO:=λZ H Q=>t Z H λx a=>∃i,x=.int i/\Q (some i) a
section
variable{tl th:TO}
theorem uv:PO X none Ci:=by intro a s Z H Q I h;rw[evalPart_none];exact ck (fC none H I .none h)
theorem qi(h:PE X e te):PO X (some e) (AL te):=by intro a s Z H Q I f;rw[evalPart_some];refine thn (h a s Z H _ I f) ?_;refine λu j b=>fO b λx g I1 c d=>?_;clear b;obtain⟨i,rfl,q⟩:=d;obtain⟨t,rfl⟩:=c;exact fC (some i) g I1 (.int i t) q
def SlR(X:Cx)(r:V->Option Int->Option Int->Hp->VK->Prop):Prop :=
 ∀(a:zD)(s:zY)(Z:St)(H:Hp)(x:V)(v c d:zX)(e b:Option Int)(f:zW)(Q:VK),Inv X a Z H s->A2h x v->s.heap.IsSliceOf f c d .none->IsPart c e->IsPart d b->r x e b H Q->
  ∃T id,typeLookup (.type T) "__getitem__"=pure (some (.builtin id))/\s.TypeIs v T/\wpAny (model X.prog X.w) X.A (getItem v (.ref f)) (EP X a Z Q) X.xe s
def tSl(r:V->Option Int->Option Int->Hp->VK->Prop)(te:TE)(tl th:TO):TE:=λZ H Q=>te Z H λx b=>tl Z b λl c=>th Z c λu a=>r x l u a Q
theorem rT(D:SlR X r)(F:PE X e te)(y:PO X lo tl)(G:PO X hi th):PE X (.Subscript e (.Slice lo hi none p2) pos) (tSl r te tl th):=by
 intro a s Z H Q I h;refine Subscript_ (thn (F a s Z H _ I h) ?_);refine λv z d=>fO d λx t I1 C o=>?_;clear d;refine wpAny_Slice (thn (y a z Z t _ I1 o) ?_);refine λf B d=>fO d λl p I2 k j=>?_;clear d;refine thn (G a B Z p _ I2 j) ?_;refine λg c d=>fO d λu i I3 m L=>?_;clear d;rw[evalPart_none];refine ck ?_;have I4:Inv X a Z i {c with heap:=c.heap.push {cls:=.type "slice",data:=.fields #[f,g,.none]}}:=I3.kept (t':=c.toks) λb M q=>fS _ q
 refine fO (D a {c with heap:=c.heap.push {cls:=.type "slice",data:=.fields #[f,g,.none]}} Z i x v f g l u c.heap.objs.size Q I4 C (Heap.IsSliceOf.new ..) k m L) λT id n J K=>?_
 show wpAny (model X.prog X.w) X.A (subscriptTail e (.Slice lo hi none p2) v (.ref c.heap.objs.size)) (EP X a Z Q) X.xe {c with heap:=c.heap.push {cls:=.type "slice",data:=.fields #[f,g,.none]}};exact tail_any (ops:=[.ref c.heap.objs.size,v]) J n K (by with_unfolding_all rfl)
def mV(xs:zM)(lo hi:Option Int):zM:=(xs.drop (HT.sIx xs.length 0 lo)).take (HT.sIx xs.length xs.length hi-HT.sIx xs.length 0 lo)
theorem GC(xs:zM)(lo hi:Option Int):(mV xs lo hi).length<=xs.length:=by
 unfold mV;rw[jd,ot]
 lia
def AS(K:Frag):R2:=λx y H Q=>∃a b d c,x=.ref a/\y=.ref b/\SqT K H a d/\SqT K H b c/\d≠[]/\d.length+c.length<=sizeLine/\
 (c=[]->Q (.ref a) H)/\(c≠[]->∀p,H p=none->Q (.ref p) (upd H p (.tup (d++c))))
theorem A3b.nil_iff{xs:zM}(r:A3b xs us):us=[]↔xs=[]:=by
 cases r with
 |nil=>simp
 |cons _ _=>simp
theorem wQ:OpR X (binaryOp .Add) (AS X.K):=by intro f s Z H x y v u Q I B A h;refine iq h ?_;clear h;rintro a b n m rfl rfl C p ⟨l,e,k,j⟩;cases B;cases A;obtain⟨r,d,i,_⟩:=I.tuple C;obtain⟨g,c,t,_⟩:=I.tuple p;refine HT.cat_tup i t (λz=>l (d.nil_iff.mp z)) (λz=>(fC (.ref a) H I rfl (k (c.nil_iff.mp z)))) (λz=>?_) (by rw[<-d.length,<-c.length];exact e);refine fC (.ref s.heap.objs.size) _ (I.laid (t':=s.toks) (o:=.tup (n++m)) (λb D q=>fS _ q) (fH _) ?_) rfl (j (λw=>z (c.nil_iff.mpr w)) _ (I.hok.fresh (fH _)));exact gT (by rw[gc];exact e) _ (d.append c) (IsTup.new _ _)
end
def ixN(n:Nat)(i:Int):Option Nat:=if 0<=i then (if i<n then some i.toNat else none)else if -(n:Int)<=i then some (i+n).toNat else none
def atI{α:Type}(xs:List α)(i:Int):Option α:=(ixN xs.length i).bind λj=>xs[j]?
theorem Cu{i:Int}(h:ixN n i=some j):seqIndex? i n=some j/\j<n/\-(n:Int)<=i/\i<n:=by
 unfold ixN at h;by_cases h0:0<=i
 ·rw[bz h0]at h;by_cases h1:i<n
  ·rw[bz h1]at h;have e:i.toNat=j:=iO h;exact iW (by rw[seqIndex_of h0 h1,e]) (by lia) (by lia) h1
  ·rw[bp h1]at h;cases h
 ·rw[bp h0]at h;by_cases h1: -(n:Int)<=i
  ·rw[bz h1]at h;have e:(i+n).toNat=j:=iO h;exact iW (by rw[seqIndex_neg (by lia) h1,e]) (by lia) h1 (by lia)
  ·rw[bp h1]at h;cases h
theorem xq{xs:List α}{i:Int}{v:α}(h:atI xs i=some v):∃j,seqIndex? i xs.length=some j/\xs[j]?=some v/\j<xs.length/\-(xs.length:Int)<=i/\i<xs.length:=by
 unfold atI at h
 cases e:ixN xs.length i with
 |none=>rw[e]at h;cases h
 |some j=>rw[e]at h;obtain⟨c,a,b,d⟩:=Cu e;exact⟨j,(iV c h a b d)⟩
theorem gD{xs:List α}{v:α}(h:xs[j]?=some v):atI xs (j:Int)=some v:=by
 have a:j<xs.length:=(fY.mp h).1
 have e:ixN xs.length (j:Int)=some j:=by unfold ixN;rw[bz (by lia),bz (by lia)];simp
 unfold atI;rw[e];exact h
def CN(b:yC):Prop:=∀o i,subscripted b false o i=operate [o,i] (getItem o i)
def IxR(X:Cx)(r:R2):Prop :=
 ∀(c a:yC)(b:zD)(s:zY)(Z:St)(H:Hp)(x y:V)(v u:zX)(Q:VK),Inv X b Z H s->A2h x v->A2h y u->r x y H Q->
  subscripted a false v u=operate [v,u] (getItem v u)->wpAny (model X.prog X.w) X.A (subscriptTail c a v u) (EP X b Z Q) X.xe s
def MtR(X:Cx)(id:String)(r:V->List V->Hp->VK->Prop):Prop :=
 ∀(a:zD)(s:zY)(Z:St)(H:Hp)(x:V)(b:zM)(v:zX)(c:zH)(Q:VK),Inv X a Z H s->A2h x v->A3b b c->r x b H Q->
  wpAny (model X.prog X.w) X.A (call (.builtin id) (v::c)) (EP X a Z Q) X.xe s
section
variable{a b:yC}
theorem iZ{r:R2}(g:IxR X r)(l:PE X a ta)(e:PE X b tb)(i:CN b:=by exact λ_ _=>rfl):PE X (.Subscript a b pos) (tOp r ta tb):=by intro c s Z H Q I h;exact Subscript_ (tG l e I h λv u d x y j I2 k f q=>g a b c d Z j x y v u Q I2 k f q (i _ _))
def vC(K:Frag):R2:=λx y H Q=>∃p a i v,x=.ref p/\y=.int i/\SqL K H p a/\atI a i=some v/\Q v H
def tz(K:Frag):R2:=λx y H Q=>∃p a i v,x=.ref p/\y=.int i/\SqT K H p a/\atI a i=some v/\Q v H
theorem jx:IxR X (vC X.K):=by
 intro d l a s Z H x y v u Q I G D h m;refine iq h ?_;clear h;rintro p O i z rfl rfl J F q;cases G;obtain⟨t,rfl⟩:=D;obtain⟨k,r,f,N⟩:=I.list J;refine iD (xq F) ?_;rintro j c L ⟨P,C,A⟩;obtain⟨w,n,g⟩:=r.get L;have B:=r.length;have M:=tX;have b:EP X a Z Q w s:=(fC z H I g q);by_cases h0:0<=i
 ·have e:i.toNat=j:=by
   rw[seqIndex_of h0 A]at c;exact iO c
  exact item_listR f.isList h0 (by lia) (by rw[e];simpa using n) b m
 ·have e:(i+(k.toArray.size:Int)).toNat=j:=by
   rw[seqIndex_neg (by lia) C]at c;rw[iL,<-B];exact iO c
  exact subscriptTail_builtinR (x:=w) f.isList.typeIs slot_list_getitem.lookup
   (wpAny_getItem_list_neg (Q:=λr o=>r=w/\EP X a Z Q r o) f.isList (by lia) (by rw[iL]<;>lia) (by lia) (by rw[e];simpa using n) ⟨rfl,b⟩) m
theorem rD:IxR X (tz X.K):=by
 intro b d a s Z H x y v u Q I B n h o;refine iq h ?_;clear h;rintro p M i z rfl rfl C A q;cases B;obtain⟨t,rfl⟩:=n;obtain⟨m,r,f,J⟩:=I.tuple C;refine iD (xq A) ?_;rintro j k F ⟨N,O,L⟩;obtain⟨w,D,c⟩:=r.get F;have l:=r.length;have G:=tX;have e:EP X a Z Q w s:=(fC z H I c q)
 exact subscriptTail_builtinR (x:=w) f.typeIs slot_tuple_getitem.lookup
  (getItem_tuple (j:=j) (Q:=λr g=>r=w/\EP X a Z Q r g) f (by lia) (by lia) (by rw[iL,<-l];exact k) (by simpa using D) ⟨rfl,e⟩) o
theorem GP(lo hi:Option Int)(n:Nat):(sliceBounds lo hi none n).1=((HT.sIx n 0 lo:Nat):Int)/\(sliceBounds lo hi none n).2.1=((HT.sIx n n hi:Nat):Int)/\(sliceBounds lo hi none n).2.2=1:=by
 refine fL ?_ ?_ rfl
 ·cases lo with
  |none=>simp[sliceBounds,HT.sIx]
  |some i=>
   simp only [sliceBounds,HT.sIx,Option.getD_none,show(1:Int)>0 by decide,if_true];by_cases h:i<0
   ·simp only [h,if_true]<;>lia
   ·simp only [h,if_false]<;>lia
 ·cases hi with
  |none=>simp[sliceBounds,HT.sIx]
  |some i=>
   simp only [sliceBounds,HT.sIx,Option.getD_none,show(1:Int)>0 by decide,if_true];by_cases h:i<0
   ·simp only [h,if_true]<;>lia
   ·simp only [h,if_false]<;>lia
theorem Hj(its:zH)(lo hi:Option Int):slicePick its.toArray lo hi none=((its.drop (HT.sIx its.length 0 lo)).take (HT.sIx its.length its.length hi-HT.sIx its.length 0 lo)).toArray:=by obtain⟨b,c,a⟩:=GP lo hi its.toArray.size;unfold slicePick;rw[b,c,a];simp only [sliceRange_one,pick_run,iL]<;>rfl
def rSlL(K:Frag):V->Option Int->Option Int->Hp->VK->Prop:=λx d c H Q=>∃a b,x=.ref a/\SqL K H a b/\∀p,H p=none->Q (.ref p) (upd H p (.lst (mV b d c)))
theorem rM:SlR X (rSlL X.K):=by intro g s Z H x v u z e f w Q I t l m n h;refine fO h ?_;clear h;rintro a c rfl p q;cases t;obtain⟨k,r,i,j⟩:=I.list p;have d:=r.length;refine fC "list" _ slot_list_getitem.lookup i.isList.typeIs ?_;refine wpAny_getItem_list_slice i.isList l m n .none (by simp) ?_ (by rw[iL]<;>lia);rw[Hj,<-d];refine fC (.ref s.heap.objs.size) _ (I.laid (t':=s.toks) (o:=.lst (mV c e f)) (λb y q=>fS _ q) (fH _) ?_) rfl (q _ (I.hok.fresh (fH _)));exact md (jU (GC c e f) j) _ 0 ((r.drop (HT.sIx c.length 0 e)).take (HT.sIx c.length c.length f-HT.sIx c.length 0 e)) (gR _ rfl)
theorem GW:mu X (.builtin "len") (λxs H Q=>∃p ys,xs=[.ref p]/\(SqL X.K H p ys\/SqT X.K H p ys)/\Q (.int ys.length) H):=by
 intro f s Z H xs k Q I r h;refine fO h ?_;clear h;rintro p ys rfl b q;obtain⟨u,rfl,i⟩:=mq r;cases i;have j:=tX;rcases b with b|b
 ·obtain⟨c,d,e,g⟩:=I.list b;have a:=d.length;exact Calls.call_len_list e.isList (by simp only [iL]<;>lia) (fC (.int ys.length) H (I.tok _) ⟨s.toks+1,by rw[iL,a]⟩ q)
 ·obtain⟨c,d,e,g⟩:=I.tuple b;have a:=d.length;exact len_tuple e (by simp only [iL]<;>lia) (fC (.int ys.length) H (I.tok _) ⟨s.toks+1,by rw[iL,a]⟩ q)
theorem sC:mu X (.type "list") (λxs H Q=>∃p ys,xs=[.ref p]/\(SqL X.K H p ys\/SqT X.K H p ys)/\∀l,H l=none->Q (.ref l) (upd H l (.lst ys))):=by
 intro i s Z H xs C Q I r h;refine fO h ?_;clear h;rintro p ys rfl m q;obtain⟨u,rfl,B⟩:=mq r;cases B
 have j:∀(a:zH),A3b ys a->ys.length<=sizeLine->∀(c:yA)(f:Nat),(∀b A,s.heap.get? b=some A->c.get? b=some A)->
   c.get? s.heap.objs.size=some {cls:=.type "list",dict:=none,data:=.seq a.toArray f,slots:=#[]}->EP X i Z Q (.ref s.heap.objs.size) {s with heap:=c}:=λa d g c f t e=>
  (fC (.ref s.heap.objs.size) _ (I.laid (t':=s.toks) t (fH _) (show A1w X.prog X.w _ c _ (.lst ys) from (md g a f d e))) rfl (q _ (I.hok.fresh (fH _))))
 rcases m with m|m
 ·obtain⟨a,d,v,g⟩:=I.list m;have k:=d.length;refine iD v.isList ?_;rintro o z y ⟨n,x⟩;exact call_list_seq p (.inl rfl) z y x (λc f t e=>j a d g c f t e) (by simp only [iL]<;>lia)
 ·obtain⟨a,d,v,g⟩:=I.tuple m;have k:=d.length;refine iD v ?_;clear v;rintro o z y ⟨n,x⟩;exact call_list_seq p (.inr rfl) z y x (λc f t e=>j a d g c f t e) (by simp only [iL]<;>lia)
theorem pK:mu X (.type "tuple") (λxs H Q=>∃p ys,xs=[.ref p]/\((SqL X.K H p ys/\∀l,H l=none->Q (.ref l) (upd H l (.tup ys)))\/(SqT X.K H p ys/\Q (.ref p) H))):=by
 intro a s Z H xs t Q I r h;obtain⟨p,ys,rfl,h⟩:=h;obtain⟨u,rfl,m⟩:=mq r;cases m;rcases h with ⟨i,q⟩|⟨i,q⟩
 ·obtain⟨c,f,g,j⟩:=I.list i;have k:=f.length;refine call_tuple_list g.isList (λd n=>?_) (by simp only [iL]<;>lia);have I1:Inv X a Z H {s with heap:=d}:=I.kept (t':=s.toks) n
  have I2:Inv X a Z (upd H d.objs.size (.tup ys)) {s with heap:=d.push {cls:=.type "tuple",data:=.seq c.toArray}}:=I1.laid (t':=s.toks) (λb o e=>fS _ e) (fH _) (show A1w X.prog X.w _ _ _ (.tup ys) from (gT j c f (IsTup.new _ _)))
  exact fC (.ref d.objs.size) _ I2 rfl (q _ (I1.hok.fresh (fH _)))
 ·obtain⟨c,f,g,j⟩:=I.tuple i;exact call_tuple_same g (fC (.ref p) H I rfl q)
def tyV(K:Frag)(T:String)(x:V)(H:Hp):Prop:=match x with
 |.str _=>T="str"
 |.int _=>T="int"
 |.ref p=>(T="list"/\∃b,SqL K H p b)\/(T="tuple"/\∃o,K.lookup p=some o/\o.cls=.type "tuple"/\o.dict=none)\/
   (T="dict"/\((∃a,H p=some (.dK a))\/∃a,H p=some (.dT a)))\/(T="set"/\∃S n,H p=some (.set S n))
 |_=>False
theorem wC{v:zX}(I:Inv X pins Z H s)(r:A2h x v)(ty:tyV X.K T x H):
  s.TypeIs v T/\∀a,v=.ref a->∃k,s.heap.get? a=some k/\k.dict=none:=by
 cases x with
 |str z=>obtain⟨t,rfl⟩:=r;cases(show T="str" from ty);exact⟨typeIs_str s z t,λ_ e=>nomatch e⟩
 |int i=>obtain⟨t,rfl⟩:=r;cases(show T="int" from ty);exact⟨typeIs_int s i t,λ_ e=>nomatch e⟩
 |ref p=>
  cases r
  rcases ty with ⟨rfl,u,m⟩|⟨rfl,o,b,q,f⟩|⟨rfl,b⟩|⟨rfl,S,n,b⟩
  ·obtain⟨l,_,h,_⟩:=I.list m;refine⟨h.isList.typeIs,λa e=>?_⟩;cases e;refine fV h λo n e c f _=>?_;clear h;exact bd o e f
  ·refine⟨(bd o (I.kIn p o b) q),λa e=>?_⟩;cases e;exact bd o (I.kIn _ o b) f
  ·have z:∃o,s.heap.get? p=some o/\o.ExactDict:=by
    rcases b with ⟨j,b⟩|⟨j,b⟩
    ·refine ko (I.hok p _ b) ?_;rintro _ _ _ _ o _ _ e ⟨d,_⟩;exact bd o e d
    ·refine ko (I.hok p _ b) ?_;rintro _ _ _ _ o _ _ e ⟨d,_⟩;exact bd o e d
   obtain⟨o,e,d⟩:=z;refine⟨(bd o e d.1),λa g=>?_⟩;cases g;exact bd o e d.2.1
  ·refine iN (I.hok p _ b) ?_;rintro o _ _ ⟨_,e,d,_⟩;refine⟨(bd o e d.1),λa g=>?_⟩;cases g;exact bd o e d.2.1
 |_=>exact False.elim ty
def sQ(K:Frag)(T:String)(r:V->List V->Hp->VK->Prop)(to:TE):TE:=λZ H Q=>to Z H λx a=>tyV K T x a/\r x [] a Q
def tBM(K:Frag)(T:String)(r:V->List V->Hp->VK->Prop)(to:TE)(t:TA):TE:=λZ H Q=>to Z H λx a=>tyV K T x a/\t Z a λb c=>r x b c Q
variable{o:yC}{id:String}{r:V->List V->Hp->VK->Prop}
theorem BC(l:PlainAttrs T)(d:Slot T name id)(e:typeOf (.builtin id)=pure (.type "method_descriptor"))(n:MtR X id r)(t:PE X o to)
  (c:attributeBase o name X.env (eval o X.env)=eval o X.env:=by rfl) (b:(apos.endLine==cpos.line)=true:=by rfl):PE X (.Call (.Attribute o name apos) [] [] cpos) (sQ X.K T r to):=by
 intro a s Z H Q I h;refine wpAny_Call_method0_late c b (thn (t a s Z H _ I h) ?_);refine λv i g=>fV g λx p I1 f j k=>?_;clear g;obtain⟨m,q⟩:=wC I1 f j;exact jz T id l d e m q (Calls.callWith_builtin rfl (PySem.evalArgs_none (n a i Z p x [] v [] Q I1 f .nil k)))
theorem jY(G:PlainAttrs T)(g:Slot T name id)(j:typeOf (.builtin id)=pure (.type "method_descriptor"))(J:MtR X id r)(z:PE X o to)(M:PA X (e::es) t)
  (d:attributeBase o name X.env (eval o X.env)=eval o X.env:=by rfl)
  (f:((backTo cpos (starEach (e::es) X.env)).all (λx=> ! x.1)&&(backToKw cpos (keywordEach [] X.env)).all (λx=>x.1.isSome)
   && decide ((e::es).length+([]:List Keyword).length+(if ([]:List Keyword).isEmpty then 0 else 1)<30))=true:=by rfl)
  (c:(apos.endLine==cpos.line)=true:=by rfl) (D:starEach (e::es) X.env=(false,eval e X.env)::starEach es X.env:=by rfl) (b:(backTo cpos (starEach es X.env)).any (·.1)=false:=by rfl):
  PE X (.Call (.Attribute o name apos) (e::es) [] cpos) (tBM X.K T r to t):=by
 intro a s Z H Q I h;refine wpAny_Call_method_late d f c rfl (thn (z a s Z H _ I h) ?_);refine λv A i=>fV i λx y I1 l C p=>?_;clear i;obtain⟨w,L⟩:=wC I1 l C;refine jz T id G g j w L ?_;have k:=M cpos a A Z y _ I1 p;rw[D]at k⊢;refine Calls.callWith_builtin (by show(false||(backTo cpos (starEach es X.env)).any (·.1))=false;rw[b]<;>rfl) (Calls.evalArgs_plain ?_);exact thn k (by (refine λu B i=>fO i λn q I2 F m=>?_;clear i);exact J a B Z q x n v u Q I2 l F m)
end
def MtM(X:Cx)(id:String)(r:V->List V->Hp->VK->Prop):Prop :=
 ∀(a:zD)(s:zY)(Z:St)(H:Hp)(x:V)(b:zM)(v:zX)(c:zH)(Q:VK),Inv X a Z H s->A2h x v->A3b b c->r x b H Q->
  wpAny (model X.prog X.w) X.A (call (.builtin id) (v::c)) (EP X a Z Q) X.xe s
theorem A3b.one:∀{x:V}{us:zH},A3b [x] us->∃u,us=[u]/\A2h x u|_,_,.cons r .nil=>(bd _ rfl r)
section
variable{xs:zM}
theorem Inv.lset(I:Inv X pins Z H s)(d:H l=some (.lst xs))
  (e:s.heap.get? l=some {cls:=.type "list",data:=.seq its.toArray n}) (c:f its.toArray=its'.toArray) (b:A3b ys its') (hz:ys.length<=sizeLine):
  Inv X pins Z (upd H l (.lst ys)) {s with heap:=s.heap.update l (Obj.mapSeq f),toks:=t'}:=by
 have q:=PySem.IsL.update e f;rw[c]at q;refine I.write (x:=l) (e:=l) (by rw[d];exact trivial) (.inl rfl) (λh u a g=>(qF s.heap (Obj.mapSeq f) (Ne.symm a)).trans g) ⟨_,q⟩ ?_;exact md hz its' _ b q
theorem Inv.lnew(I:Inv X pins Z H s)(a:A3b ys its)(hz:ys.length<=sizeLine):
  Inv X pins Z (upd H s.heap.objs.size (.lst ys)) {s with heap:=s.heap.push {cls:=.type "list",data:=.seq its.toArray},toks:=t'}:=
 I.laid (λ_ _ q=>fS _ q) (fH _) (md hz its 0 a (gR _ rfl))
theorem Inv.fresh(I:Inv X pins Z H s):H s.heap.objs.size=none:=I.hok.fresh (fH _)
theorem Inv.lstM(I:Inv X pins Z H s)(a:H l=some (.lst xs)):xs.length<=sizeLine/\∃(its:zH)(n:Nat),A3b xs its/\xs.length=its.length/\s.heap.get? l=some {cls:=.type "list",data:=.seq its.toArray n}:=by refine iX (I.hok l _ a) λz its n r e=>?_;exact jg z its n r r.length e
theorem Ds(h:n<=sizeLine):Builtin.List.listTooLong n=false:=by unfold Builtin.List.listTooLong;exact gK (by lia)
end
def wP:V->List V->Hp->VK->Prop:=λx b H Q=>∃l a y,x=.ref l/\b=[y]/\H l=some (.lst a)/\a.length<sizeLine/\Q .non (upd H l (.lst (a++[y])))
theorem lF:MtM X "list.append" wP:=by
 intro b s Z H x k v o Q I g d h;refine gn h ?_;clear h;rintro l m y rfl rfl c ⟨j,q⟩;cases g;obtain⟨u,rfl,f⟩:=d.one;refine iX (I.lstM c) ?_;rintro z a n r ⟨i,e⟩;refine call_meets F.slot_list_append (bd _ e rfl) F.entry_list_append (F.args_list_append_2 _ _) (PySem.list_append l a.toArray n u (by rw[iL];lia)) ⟨e,?_⟩;refine fC .non _ (I.lset (its':=a++[u]) c e (by simp) (r.append (.cons f .nil)) ?_) rfl q;rw[gc,lK]
 lia
def Cs:V->List V->Hp->VK->Prop:=λx d H Q=>∃l b a c,x=.ref l/\d=[.ref b]/\H l=some (.lst a)/\H b=some (.lst c)/\a.length+c.length<=sizeLine/\Q .non (upd H l (.lst (a++c)))
theorem qr:MtM X "list.extend" Cs:=by
 intro g s Z H x B v D Q I w m h;refine iq h ?_;clear h;rintro l b C K rfl rfl i k ⟨A,q⟩;cases w;obtain⟨u,rfl,o⟩:=m.one;cases o;refine iX (I.lstM i) ?_;rintro z c n r ⟨G,e⟩;refine iX (I.lstM k) ?_;rintro J a j t ⟨y,p⟩;have f:c.toArray.size+a.toArray.size<=sizeLine:=by rw[iL,iL];lia
 have d:¬(! c.toArray.isEmpty&&Builtin.List.listTooLong (c.toArray.size+a.toArray.size))=true:=by rw[Ds f,Bool.and_false];exact gL
 refine call_meets F.slot_list_extend (bd _ e rfl) F.entry_list_extend (F.args_list_extend_2 _ _)
  (AutoSeq1.list_extend_list_list_0 l c.toArray n b a.toArray j d (by rw[iL];lia) (by lia)) (fL e p ?_)
 refine fC .non _ (I.lset (its':=c++a) i e (by simp) (r.append t) ?_) rfl q;rw[gc]
 lia
def rCat:R2:=λx y H Q=>∃l b a c,x=.ref l/\y=.ref b/\H l=some (.lst a)/\H b=some (.lst c)/\a.length+c.length<=sizeLine/\∀p,H p=none->Q (.ref p) (upd H p (.lst (a++c)))
theorem oG:OpR X (binaryOp .Add) rCat:=by
 intro d s Z H x y v u Q I m j h;refine iq h ?_;clear h;rintro l b A D rfl rfl p g ⟨t,q⟩;cases m;cases j;refine iX (I.lstM p) ?_;rintro z c n r ⟨B,e⟩;refine iX (I.lstM g) ?_;rintro C a w k ⟨o,i⟩;refine PySem.P.add_list e i ?_ (by rw[iL,iL];lia);have f:c.toArray++a.toArray=(c++a).toArray:=by simp
 rw[f];exact fC (.ref _) _ (I.lnew (t':=s.toks) (r.append k) (by rw[gc];lia)) rfl (q _ I.fresh)
section
set_option maxRecDepth 100000 in
end
section
variable{κ:Type}[DecidableEq κ]
def fN(kvs:List (κ×V))(k:κ):zP:=(kvs.find? λa=>decide (a.1=k)).map (·.2)
def gr(kvs:List (κ×V))(k:κ)(v:V):List (κ×V):=if (kvs.any λa=>decide (a.1=k))=true then kvs.map (λa=>if a.1=k then (a.1,v)else a)else kvs++[(k,v)]
theorem mC{p:κ×V}{r:List (κ×V)}{k:κ}(e:p.1=k):fN (p::r) k=some p.2:=by simp[fN,nn,e]
theorem mB{p:κ×V}{r:List (κ×V)}{k:κ}(e:¬p.1=k):fN (p::r) k=fN r k:=by simp[fN,nn,e]
theorem qm(k:κ):∀kvs:List (κ×V),(kvs.any λkv=>decide (kv.1=k))=(fN kvs k).isSome
 | []=>rfl
 |p::r=>by
  rw[List.any_cons];by_cases e:p.1=k
  ·simp only [mC e,iY e,Bool.true_or,Option.isSome_some]
  ·rw[mB e,gK e,Bool.false_or];exact qm k r
theorem xJ(k j:κ)(y:V):∀kvs:List (κ×V),fN (kvs.map λkv=>if kv.1=k then (kv.1,y)else kv) j=(fN kvs j).map λx=>if j=k then y else x
 | []=>rfl
 |p::r=>by
  have a:=xJ k j y r;rw[gA];by_cases h:p.1=k
  ·rw[bz h];by_cases e:p.1=j
   ·rw[mC (p:=(p.1,y)) e,mC e,Option.map_some,bz (e.symm.trans h)]
   ·rw[mB (p:=(p.1,y)) e,mB e,a]
  ·rw[bp h];by_cases e:p.1=j
   ·rw[mC (p:=p) e,mC e,Option.map_some,bp (λz=>h (e.trans z))]
   ·rw[mB (p:=p) e,mB e,a]
theorem yH(k j:κ)(y:V):∀kvs:List (κ×V),fN kvs k=none->fN (kvs++[(k,y)]) j=if j=k then some y else fN kvs j
 | [],_=>by
  by_cases e:k=j
  ·rw[bz e.symm];exact mC (p:=(k,y)) e
  ·rw[bp (λz=>e z.symm)];exact mB (p:=(k,y)) e
 |p::r,hn=>by
  rw[sZ];have a:¬p.1=k:=λz=>by rw[mC z]at hn;cases hn
  rw[mB a]at hn;have b:=yH k j y r hn;by_cases e:p.1=j
  ·rw[mC e,mC e,bp (λz=>a (e.trans z))]
  ·rw[mB e,mB e,b]
theorem lE(kvs:List (κ×V))(k j:κ)(y:V):fN (gr kvs k y) j=if j=k then some y else fN kvs j:=by
 unfold gr;by_cases a:(kvs.any λc=>decide (c.1=k))=true
 ·rw[bz a,xJ];rw[qm]at a;by_cases e:j=k
  ·obtain⟨x,b⟩:=Option.isSome_iff_exists.mp a;rw[bz e,e,b,Option.map_some,bz rfl]
  ·rw[bp e]
   cases fN kvs j with
   |none=>rfl
   |some x=>rw[Option.map_some,bp e]
 ·rw[bp a];refine yH k j y kvs ?_;rw[qm]at a
  cases q:fN kvs k with
  |none=>rfl
  |some x=>rw[q]at a;exact(a rfl).elim
theorem og(kvs:List (κ×V))(k:κ)(v:V):(gr kvs k v).length<=kvs.length+1:=by
 unfold gr;split
 ·rw[eA];lia
 ·rw[gc,gZ,kZ];lia
theorem B2e.isSome_eq{u:zN}(r:B2e o u):o.isSome=u.isSome:=by
 cases o with
 |none=>cases u with|none=>rfl|some _=>exact(show False from r).elim
 |some _=>cases u with|none=>exact(show False from r).elim|some _=>rfl
theorem B2e.getD{u:zN}(r:B2e o u)(rd:A2h d d'):A2h (o.getD d) (u.getD d'):=by
 cases o with
 |none=>cases u with|none=>exact rd|some _=>exact(show False from r).elim
 |some _=>cases u with|none=>exact(show False from r).elim|some _=>exact r
theorem KV.val{kvs:List (κ×V)}{vs:List (κ×zX)}(r:KV kvs vs)(k:κ):B2e (fN kvs k) (valueAt vs k):=by
 unfold KV at r
 induction r with
 |nil=>exact True.intro
 |@cons p q ps qs h t ih=>
  obtain⟨c,d⟩:=h;by_cases e:p.1=k
  ·have a:q.1=k:=c.symm.trans e;have b:valueAt (q::qs) k=some q.2:=by simp[valueAt,nn,a]
   rw[mC e,b];exact d
  ·have a:¬q.1=k:=λz=>e (c.trans z);have b:valueAt (q::qs) k=valueAt qs k:=by simp[valueAt,nn,a]
   rw[mB e,b];exact ih
theorem KV.any{kvs:List (κ×V)}{vs:List (κ×zX)}(r:KV kvs vs)(k:κ):(kvs.any λkv=>decide (kv.1=k))=vs.any λkv=>decide (kv.1=k):=by
 unfold KV at r
 induction r with
 |nil=>rfl
 |cons h t ih=>rw[List.any_cons,List.any_cons,ih,h.1]
theorem KV.repl{kvs:List (κ×V)}{vs:List (κ×zX)}(r:KV kvs vs)(k:κ)(b:A2h y u):
  KV (kvs.map λkv=>if kv.1=k then (kv.1,y)else kv) (vs.map λkv=>if kv.1=k then (kv.1,u)else kv):=by
 unfold KV at r⊢
 induction r with
 |nil=>exact .nil
 |@cons p q ps qs h t ih=>
  rw[gA,gA];refine .cons ?_ ih;obtain⟨a,c⟩:=h;by_cases e:p.1=k
  ·rw[bz e,bz (a.symm.trans e)];exact⟨a,b⟩
  ·rw[bp e,bp (λz=>e (a.trans z))];exact⟨a,c⟩
theorem KV.put{kvs:List (κ×V)}{vs:List (κ×zX)}(r:KV kvs vs)(k:κ)(a:A2h y u):KV (gr kvs k y) (stored vs k u):=by
 unfold gr stored;rw[r.any k];by_cases e:(vs.any λb=>decide (b.1=k))=true
 ·rw[bz e,bz e];exact r.repl k a
 ·rw[bp e,bp e];exact Paired.snoc r ⟨rfl,a⟩
theorem KV.length{kvs:List (κ×V)}{vs:List (κ×zX)}(r:KV kvs vs):kvs.length=vs.length:=Paired.length r
end
theorem py{k:Key}(r:A2h (kV k) u):(gG P w).is k u=true:=by
 cases k with
 |inl i=>obtain⟨t,e⟩:=(show∃t,u=Value.int i t from r);subst e;exact Ab P w i t
 |inr x=>obtain⟨t,e⟩:=(show∃t,u=Value.str x t from r);subst e;exact Gu P w x t
theorem yY{P:yB}{w:yD}:∀{ks:zU}{us:zH},A3b (ks.map kV) us->ItemsAre (gG P w) ks us
 | [],_,r=>by rw[List.map_nil]at r;cases r;exact .nil
 |k::ks,_,r=>by
  rw[gA]at r
  cases r with
  |cons h t=>exact .cons (py h) (yY t)
abbrev KT(H:Hp):List (List Key×V)->List (List Key×zW×zX)->Prop:=Paired λp q=>p.1=q.1/\H q.2.1=some (.tup (p.1.map kV))/\A2h p.2 q.2.2
theorem KT.val(r:KT H kvs xs)(k:zU):B2e (fN kvs k) ((atKey xs k).map (·.2)):=by
 induction r with
 |nil=>exact True.intro
 |@cons p q ps qs h t ih=>
  obtain⟨c,_,d⟩:=h;by_cases e:p.1=k
  ·have a:q.1=k:=c.symm.trans e;have b:atKey (q::qs) k=some q.2:=by simp[atKey,nn,a]
   rw[mC e,b];exact d
  ·have a:¬q.1=k:=λz=>e (c.trans z);have b:atKey (q::qs) k=atKey qs k:=by simp[atKey,nn,a]
   rw[mB e,b];exact ih
theorem KT.repl(r:KT H kvs xs)(k:zU)(c:A2h y u):
  KT H (kvs.map λkv=>if kv.1=k then (kv.1,y)else kv) (xs.map (putAt k u)):=by
 induction r with
 |nil=>exact .nil
 |@cons p q ps qs h t ih=>
  rw[gA,gA];refine .cons ?_ ih;obtain⟨a,b,d⟩:=h;unfold putAt;by_cases e:p.1=k
  ·rw[bz e,bz (a.symm.trans e)];exact fL a b c
  ·rw[bp e,bp (λz=>e (a.trans z))];exact fL a b d
theorem KT.put(r:KT H kvs xs)(k:zU)(c:H b=some (.tup (k.map kV)))(a:A2h y u):
  KT H (gr kvs k y) (storedH xs k b u):=by
 have e:(kvs.any λd=>decide (d.1=k))=(atKey xs k).isSome:=by rw[qm,(r.val k).isSome_eq,Option.isSome_map]
 unfold gr storedH;rw[e];by_cases q:(atKey xs k).isSome=true
 ·rw[bz q,bz q];exact r.repl k a
 ·rw[bp q,bp q];exact Paired.snoc r (fL rfl c a)
theorem KT.keeps(r:KT H kvs xs)(a:∀b ys,H b=some (.tup ys)->H' b=some (.tup ys)):KT H' kvs xs :=Paired.mapP r λ_ _ z=>(fL z.1 (a _ _ z.2.1) z.2.2)
theorem vT{u:HO}(b:HOk P w H h)(e:Rd H a u):A1w P w H h a u:=e.ok b
theorem rh{kvs:zJ}(b:HOk P w H h)(e:Rd H a (.dK kvs)):kvs.length<=sizeLine/\(a==sysModules)=false/\∃vs,KV kvs vs/\h.DictOf (gG P w) a vs :=show A1w P w H h a (.dK kvs) from vT b e
theorem pS{kvs:zJ}(b:HOk P w H h)(e:H a=some (.dK kvs)):kvs.length<=sizeLine/\(a==sysModules)=false/\∃vs,KV kvs vs/\h.DictOf (gG P w) a vs:=rh b (.inl e)
theorem rE(f:HOk P w H h)(e:H a=some (.tup (ks.map kV))):(tupleKind (gG P w)).is h ks a:=by refine qD (show A1w P w H h a (.tup (ks.map kV)) from f a _ e) λ_ b r o d g n c=>?_;exact gE o b.toArray n d g c (by simpa using yY r)
theorem tJ(d:HOk P w H h)(e:Rd H a (.dT kvs)):kvs.length<=sizeLine/\(a==sysModules)=false/\
  ∃xs,KT H kvs xs/\h.DictOfH (tupleKind (gG P w)) a xs:=by
 refine ko (show A1w P w H h a (.dT kvs) from vT d e) ?_;rintro z y xs r o j n k ⟨s,f,g,i⟩;refine iK z y xs r (mR o j n k s f g (λx b=>?_) i)
 have c:∀{l:List (List Key×V)}{m:List (List Key×zW×zX)},KT H l m->∀x∈m,(tupleKind (gG P w)).is h x.1 x.2.1:=by
  intro l m q
  induction q with
  |nil=>intro x b;exact nomatch b
  |@cons p q ps qs hq t ih=>
   intro x b;rcases gB.mp b with e|b
   ·subst e;exact rE d (by rw[<-hq.1];exact hq.2.1)
   ·exact ih x b
 exact c r x b
theorem AI(b:HOk P w H h)(e:H a=some (.dT kvs)):kvs.length<=sizeLine/\(a==sysModules)=false/\
  ∃xs,KT H kvs xs/\h.DictOfH (tupleKind (gG P w)) a xs:=tJ b (.inl e)
def B2i(H:Hp)(a:zW)(y:V)(r:zP):Prop :=(∃c k,Rd H a (.dK c)/\y=kV k/\r=fN c k)\/∃c k b,Rd H a (.dT c)/\y=.ref b/\H b=some (.tup (k.map kV))/\r=fN c k
def C7r(H:Hp)(a:zW)(y v:V)(H':Hp):Prop :=
 (∃c k,H a=some (.dK c)/\y=kV k/\c.length<sizeLine/\H'=upd H a (.dK (gr c k v)))\/
 ∃c k b,H a=some (.dT c)/\y=.ref b/\H b=some (.tup (k.map kV))/\c.length<sizeLine/\H'=upd H a (.dT (gr c k v))
theorem B2i.k{kvs:zJ}{k:Key}(e:H a=some (.dK kvs)):B2i H a (kV k) (fN kvs k):=.inl (fC kvs k (.inl e) rfl rfl)
theorem C7r.k{kvs:zJ}{k:Key}(e:H a=some (.dK kvs))(b:kvs.length<sizeLine):C7r H a (kV k) v (upd H a (.dK (gr kvs k v))):=.inl (ga kvs k e rfl b rfl)
section
variable{r:zX}
theorem Inv.big(I:Inv X pins Z H s):sysModules<s.heap.objs.size:=by have h:mainGlobals<s.heap.objs.size:=(I.mod.glob.keeps I.bk).lt;exact Nat.lt_trans (by decide) h
theorem Fk(D:A.units+1<cLine)(I:Inv X pins Z H s)(g:B2i H a y (some v))(r:A2h y u)(h:∀f s',Inv X pins Z H s'->A2h v f->Q f s'):
  wpAny (model X.prog X.w) A (getItem (.ref a) u) Q E s:=by
 rcases g with ⟨n,k,e,i,l⟩|⟨n,k,b,e,i,t,l⟩
 ·subst i;refine nk (rh I.hok e) λz x C d q=>?_;obtain⟨f,j,c⟩:=B2e.some_of (v:=v) (o:=valueAt C k) (by rw[l];exact d.val k);exact wpAny_getItem_of (py r) q.mapOf j (h f _ (I.tok _) c)
 ·subst i;cases(show u=Value.ref b from r);refine nk (tJ I.hok e) λz x F d q=>?_;obtain⟨f,j,c⟩:=B2e.some_of (v:=v) (o:=(atKey F k).map (·.2)) (by rw[l];exact d.val k);obtain⟨p,B,m⟩:=nK.mp j;refine wpAny_getItem_heap (tupleKind_room_in1 D) (rE I.hok t) q B ?_;rw[m];exact h f _ (I.tok _) c
theorem rO(I:Inv X pins Z H s)(g:Mut (H a))(h:Heap.SameBut a s.heap h')(i:∃q,h'.get? a=some q)(d:A1w X.prog X.w (upd H a c) h' a c):
  Inv X pins Z (upd H a c) {s with heap:=h',toks:=t'}:=
 I.write (x:=a) (e:=a) g (.inl rfl) (λb q f z=>(h.2 b f).trans z) i d
theorem wD{kvs:zJ}{vs:List (Key×zX)}(z:kvs.length<=sizeLine)(c:(a==sysModules)=false)(b:KV kvs vs)(d:h'.DictOf (gG P w) a vs):
  A1w P w H' h' a (.dK kvs):=(iK z c vs b d)
theorem Fs{Q:Unit->zY->Prop}(S:A.units+1<cLine)(I:Inv X pins Z H s)(g:C7r H a y v H')(F:A2h y u)(D:A2h v r)(h:∀s',Inv X pins Z H' s'->Q () s'):
  wpAny (model X.prog X.w) A (setItem (.ref a) u r) Q E s:=by
 rcases g with ⟨d,k,e,x,l,o⟩|⟨d,k,b,e,x,C,l,o⟩
 ·subst x o;refine nk (pS I.hok e) λz m K f B=>?_;have n:K.length<=sizeLine:=by rw[<-f.length];exact z
  have p:(gr d k v).length<=sizeLine:=by have:=og d k v;lia
  refine wpAny_setItem_pairs (hsz:=n) (py F) B λG i t=>h _ ?_;have R:∃q,G.get? a=some q:=let⟨q,_,_,j,_⟩:=i;⟨q,j⟩;exact rO I (by rw[e];exact True.intro) t R (wD p m (f.put k D) i)
 ·subst x o;cases(show u=Value.ref b from F);refine nk (AI I.hok e) λz m M f B=>?_;have n:M.length<=sizeLine:=by rw[<-Paired.length f];exact z
  have p:(gr d k v).length<=sizeLine:=by have:=og d k v;lia
  refine wpAny_setItem_heap (hsz:=n) (tupleKind_room_in1 S) (rE I.hok C) B λG i t=>h _ ?_;refine gn i ?_;clear i;rintro q T N j U O ⟨P,_,L⟩;refine rO I (by rw[e];exact True.intro) t ⟨q,j⟩ (iK p m _ ((f.put k C D).keeps λc W J=>?_) (iH q T N j U O P L));rw[eh (gN J e (λz=>nomatch z))];exact J
end
section
variable{kvs:zJ}{k:Key}
theorem A8(I:Inv X pins Z H s)(e:Rd H a (.dK kvs))(h:∀t s',Inv X pins Z H s'->Q (.int kvs.length t) s'):wpAny (model X.prog X.w) A (call (.builtin "len") [.ref a]) Q E s:=by refine nk (rh I.hok e) λz c f b d=>?_;refine call_len_dict c d (by rw[<-b.length];rw[sizeLine_eq]at z;lia) ?_;rw[<-b.length];exact h _ _ (I.tok _)
end
def ti(i:yC):Prop:=∀b a,subscripted i false b a=operate [b,a] (getItem b a)
theorem wO{c:Env}{a:yC}{id:String}
  (g:typeLookup (.type T) "__getitem__"=pure (some (.builtin id))) (l:ti a)
  (h:wpAny (model prog w) A (eval value c) (λo s₁=>wpAny (model prog w) A (eval a c) (λi s₂=>s₂.TypeIs o T/\wpAny (model prog w) A (getItem o i) Q E s₂) E s₁) E s):
  wpAny (model prog w) A (eval (.Subscript value a pos) c) Q E s:=by
 refine Subscript_ (jE h (λo s₁ k=>jE k (λi s₂ d=>?_) λ_ _ x=>x) λ_ _ x=>x);obtain⟨e,d⟩:=d;unfold subscriptTail;refine bc ?_;rw[getitemInPython_of_ne e.not_modules];refine bc (wpAny_specialOf e g ?_)
 have b:wpAny (model prog w) A (subscripted a false o i) (λr f=>wpAny (model prog w) A (letTemporaryGo value o r>>=λ_=>pure r) Q E f) E s₂:=by rw[l o i];exact wpAny_operating (jE d (λr f j=>bc (wpAny_letTemporaryGo (ck j))) λ_ _ x=>x)
 first|exact ck (bc b)|exact bc (ck (bc b))|exact bc b
theorem GF(I:Inv X pins Z H s)(g:B2i H a y o):s.TypeIs (.ref a) "dict":=by
 rcases g with ⟨c,k,e,_,_⟩|⟨c,k,b,e,_,_,_⟩
 ·refine nk (rh I.hok e) λ_ _ h _ d=>?_;exact d.typeIs
 ·refine nk (tJ I.hok e) λ_ _ f _ d=>?_;exact d.typeIs
def AJ(td ty:TE):TE:=λZ H Q=>td Z H λx c=>ty Z c λy b=>∃a v,x=.ref a/\B2i b a y (some v)/\Q v b
def Ba(td ty tv:TE):TS:=λD Z H=>tv Z H λv d=>td Z d λx e=>ty Z e λy c=>∃a b,x=.ref a/\C7r c a y v b/\D.nx Z b
section
variable{X:Cx}{o i e value:yC}{pos pos' tpos:Pos}{td ty tv:TE}
theorem ng(q:X.A.units+1<cLine)(l:PE X o td)(hi:PE X i ty)(p:ti i:=by exact λ_ _=>rfl):PE X (.Subscript o i pos) (AJ td ty):=by intro b s Z H Q I h;refine wO PySem.F.slot_dict_getitem.lookup p (thn (l b s Z H _ I h) ?_);refine λu m c=>fO c λx k I1 r f=>?_;clear c;refine thn (hi b m Z k _ I1 f) ?_;rintro C B c;refine fO c ?_;clear c;rintro y j I2 n ⟨a,v,t,g,e⟩;subst t;obtain rfl:u=Value.ref a:=r;exact⟨GF I2 g,Fk q I2 g n λz w I3 d=>(fC v j I3 d e)⟩
theorem pD(z:X.A.units+1<cLine)(k:PE X o td)(hi:PE X i ty)(w:PE X value tv)(t:swapsWith value (some (.Subscript o i pos')) pos.line X.env=pure false):
  PS X (.Assign [.Subscript o i pos'] value pos) (Ba td ty tv):=by
 intro b s Z H D I h;refine wpAny_Assign_Subscript (thn (w b s Z H _ I h) ?_) t;refine λr l c=>fO c λv j I1 n e=>?_;clear c;refine thn (k b l Z j _ I1 e) ?_;refine λu m c=>fO c λx f I2 B d=>?_;clear c;refine thn (hi b m Z f _ I2 d) ?_;rintro L J c;refine fO c ?_;clear c;rintro y G I3 p ⟨a,q,C,g,F⟩;subst C;obtain rfl:u=Value.ref a:=B;exact Fs z I3 g p n λK I4=>(gF Z q I4 F)
end
theorem xA(h:yA)(a:sysModules<h.objs.size):A1w P w H (h.push {cls:=.type "dict",data:=.dict #[]}) h.objs.size (.dK []):=(iK (jj _) (oX.mpr (Ne.symm (im a))) [] .nil (Heap.DictOf.new h))
def BJ:TE:=λ_ H Q=>∀p,H p=none->Q (.ref p) (upd H p (.dK []))
theorem rV:PE X (.Dict [] [] pos) BJ:=λb s Z H Q I h=>wpAny_Dict_empty (fC (.ref s.heap.objs.size) _ (I.laid (a:=s.heap.objs.size) (o:=.dK []) (t':=s.toks) (λ_ _ q=>fS _ q) (fH _) (xA s.heap I.big)) rfl (h _ (I.hok.fresh (fH _))))
def ub:List (TE×TE)->St->Hp->(List (V×V)->Hp->Prop)->Prop| [],_,H,Q=>Q [] H|(tk,tv)::r,Z,H,Q=>tk Z H λx b=>tv Z b λy d=>ub r Z d λc a=>Q ((x,y)::c) a
abbrev VV:List (V×V)->List (zX×zX)->Prop:=Paired λp q=>A2h p.1 q.1/\A2h p.2 q.2
def PPs(X:Cx)(pos:Pos)(keys:List (Option yC))(a:zT)(trs:List (TE×TE)):Prop :=
 ∀(b:zD)(s:zY)(Z:St)(H:Hp)(Q:List (V×V)->Hp->Prop),Inv X b Z H s->ub trs Z H Q->
  wpAny (model X.prog X.w) X.A (evalPairs (pairTrees keys a X.env pos)) (λf e=>∃c d,Inv X b Z d e/\VV c f/\Q c d) X.xe s
theorem CP:PPs X pos [] [] []:=λa s Z H Q I h=>pairTrees_nil_walk (fC [] H I .nil h)
theorem Dz{k v:yC}{ks:List (Option yC)}{vs:zT}(r:PE X k tk)(p:PE X v tv)(o:PPs X pos ks vs trs):
  PPs X pos (some k::ks) (v::vs) ((tk,tv)::trs):=λa s Z H Q I h=>
 pairTrees_cons_walk (thn (r a s Z H _ I h) λu j ⟨x,i,I1,q,f⟩=>thn (p a j Z i _ I1 f) λz l ⟨y,g,I2,n,e⟩=>thn (o a l Z g _ I2 e) (by (refine λA w c=>fO c λm d I3 b t=>?_;clear c);exact fC ((x,y)::m) d I3 (.cons ⟨q,n⟩ b) t))
def hV(kvs a:zJ):zJ:=a.foldl (λb c=>gr b c.1 c.2) kvs
theorem KV.merge:∀{a:zJ}{rs:List (Key×zX)}{kvs:zJ}{vs:List (Key×zX)},KV a rs->KV kvs vs->KV (hV kvs a) (merged vs rs):=by
 intro a rs kvs vs r;unfold KV at r
 induction r generalizing kvs vs with
 |nil=>intro q;exact q
 |@cons p q ps qs h t ih=>
  intro b
  have e:KV (gr kvs p.1 p.2) (stored vs q.1 q.2):=by have:=b.put p.1 h.2;rw[<-h.1];exact this
  exact ih e
theorem vg:∀(a kvs:zJ),(hV kvs a).length<=kvs.length+a.length| [],kvs=>by show kvs.length<=kvs.length+0;lia|p::r,kvs=>by have b:=vg r (gr kvs p.1 p.2);have c:=og kvs p.1 p.2;show(hV (gr kvs p.1 p.2) r).length<=_;rw[gZ];lia
theorem zm{P:yB}{w:yD}:∀{kvs:zJ}{d:List (zX×zX)},VV (kvs.map λkv=>(kV kv.1,kv.2)) d->∃rs,Carries (gG P w) d rs/\KV kvs rs
 | [],_,r=>by rw[List.map_nil]at r;cases r;exact bd [] True.intro .nil
 |p::kvs,_,r=>by
  rw[gA]at r
  cases r with
  |@cons a b as bs h t=>obtain⟨rs,c,q⟩:=zm (P:=P) (w:=w) t;obtain⟨f,e⟩:=b;exact bd ((p.1,e)::rs) (fL (py h.1) rfl c) (.cons ⟨rfl,h.2⟩ q)
def Bf(trs:List (TE×TE)):TE:=λZ H Q=>∀p,H p=none->ub trs Z (upd H p (.dK [])) λd c=>c p=some (.dK [])/\∃a:zJ,d=a.map (λb=>(kV b.1,b.2))/\a.length<=15/\Q (.ref p) (upd c p (.dK (hV [] a)))
theorem CV{b:zT}(h:PPs X pos keys b trs)(i:keys.all (·.isSome)=true)(A:keys.length=b.length)(h0:keys≠[])
  (k:keys.length<=15):PE X (.Dict keys b pos) (Bf trs):=by
 intro d s Z H Q I q;have m:=I.hok.fresh (fH s.heap.objs.size);have I1:=I.laid (a:=s.heap.objs.size) (o:=.dK []) (h':=s.heap.push {cls:=.type "dict",data:=.dict #[]}) (t':=s.toks) (λ_ _ q=>fS _ q) (fH _) (xA s.heap I.big);refine wpAny_Dict_walk (knd:=gG X.prog X.w) i A h0 k (thn (h d _ Z _ _ I1 (q _ m)) ?_);rintro M J l;refine fV l ?_;clear l;rintro K G I2 j e ⟨f,x,L,p⟩;subst x;obtain⟨t,c,v⟩:=zm (P:=X.prog) (w:=X.w) j;refine nk (pS I2.hok e) λz n y B F=>?_;cases B;refine fJ t c F λh' g C=>(fC (.ref s.heap.objs.size) _ ?_ rfl p)
 have r:(hV [] f).length<=sizeLine:=by have u:=vg f [];rw[kZ]at u;rw[sizeLine_eq];lia
 have D:∃q,h'.get? s.heap.objs.size=some q:=let⟨q,_,_,hq,_⟩:=g;⟨q,hq⟩;exact rO I2 (by rw[e];exact True.intro) C D (wD r n (v.merge .nil) g)
section
variable{r:zX}
end
section
variable{o f:yC}
end
section
variable{kvs:zJ}
end
end L2
namespace Att
open PySem PySem.W PySem.Calls PyProof.Rows
variable{w:yD}{s:zY}{q prog:yB}{n:Nat}{l:OpenLaw}{h:yA}{e:zH}{d:DefRec}{b:zC}{args:List WData}{YP:yD->yA->Prop}{XP:zE->yA->Prop}{P:Params}{K:Frag}{E:zA}{A:zZ}
theorem Ie:∀(ns:zI)(vs:zH),WellAll P h vs (ns.map WData.int)->IntsAre vs ns:=by
 intro ns
 induction ns with
 |nil=>intro vs w;rw[List.map_nil]at w;cases w;exact .nil
 |cons n ns ih=>
  intro vs w;rw[gA]at w
  cases w with
  |cons a b=>
   cases a
   exact .cons _ _ (ih _ b)
theorem EY(o:l.most=some n)
  (c:l.row.toRowW.claim.pre args=true) (k:WellAll P h e args):
  ∃a vs b,e=[Value.ref a]/\args=[WData.list (b.map WData.int)]/\h.get? a=some {cls:=.type "list",data:=.seq vs.toArray}/\IntsAre vs b/\b.length<=n:=by
 have j:WShape.hasAll [] args [.list .int]=true:=(pre_splitW c).1;have m:l.pre.holds [] {args:=args}=true:=(pre_splitW c).2;refine fO (hasAllW_cons j) ?_;rintro d r rfl t u;obtain rfl:=hasAllW_nil u;obtain⟨v,rfl,p⟩:=hasW_list t;obtain⟨b,rfl⟩:=items_int p
 have f:b.length<=n:=by
  unfold OpenLaw.pre at m
  have g:(WTm.not (.lt (.lit (.int (n:Int))) (.len (.arg 0)))).holds [] {args:=[.list (b.map .int)]}=true:=by have g:=(holds_andW m).1;rw[o]at g;exact g
  have i:=condW_of g (w_not (w_lt w_lit (w_len_list (w_arg rfl))));rw[eA]at i;refine Nat.le_of_not_lt λq=>?_;have s:(n:Int)<((b.length:Nat):Int):=by lia
  first|(rw[iY s]at i;exact absurd i (by decide))|(simp at i;lia)
 cases k with
 |cons w1 w2=>
  cases w2
  cases w1 with
  |list ho hall=>exact iH _ _ b rfl rfl ho (Ie b _ hall) f
theorem Eu(l:OpenLaw)(args:List WData):l.row.toRowW.claim.post args (.bool true) args=true :=
 postW_of (r:=l.row.toRowW) (X:=(true==true))
  (show WShape.has [] (.bool true) .bool=true by first|rfl|decide|simp[WShape.has,WShape.arms,WShape.armsAll])
  (show(WTm.eq .res (.lit (.bool true))).value [] {args:=args,res:=some (.bool true),after:=args}=some (.bool (true==true)) from w_eq_bool (w_res rfl) w_lit) rfl
theorem attach_call
  (D:l.most=some n) (t:d.params.defaults=[])
  (h:∀(w:yD)(s c:zY)(mg y:zE)(k:zW)(o:Obj)(pm cd e:zX)(a:zW)(vs:zH)(p:zI),
   Ground q b [] XP w s mg y c.heap->YP w c.heap->
   c.heap.get? k=some o->o.data=.func (docDef d.name d.params d.body d.scope pm cd e)->c.heap.CodeRec cd d.name->mg d.name=some (.ref k)->
   c.heap.get? a=some {cls:=.type "list",data:=.seq vs.toArray}->IntsAre vs p->p.length<=n->c.gens=#[]->
   codeAny (model l.prog w) callerA (.call (.ref k) ⟨[.ref a],[]⟩) (λr s'=>r=.ok (.ret (.bool true))/\OldK c.heap s'.heap/\s'.os=c.os/\AllBare s'.gens) c):
  WalkO q b XP YP l.row.toRowW d [] (λf vs=>PySem.call f vs):=by
 intro w s c mg y G Y k o pm cd e H kV I F x z u P A C R j B J v M;obtain rfl:H=.none:=Dflts.none z t;obtain rfl:kV=.none:=Dflts.noKw z;refine gn (EY D j v) ?_;rintro a vs p rfl rfl i ⟨g,m⟩;refine enter_call (codeAny_mono (h w s c mg y k o pm cd e a vs p G Y I (fd_plain F) x u i g m P) λr s' O=>?_);obtain⟨rfl,Q,K,L⟩:=O;exact iW (.inl (iH (.bool true) (.bool true) [] rfl (λ_=>rfl) (.bool true) (Eu l _) λ_=>⟨List.Pairwise.nil,λ_ N=>(nomatch N)⟩)) Q K L
end Att
namespace L2
open PySem PySem.Spec PyProof.Rows
variable{xs:zM}{x b:Str}{w:yD}{vs:zH}{s₁:zY}{st:Stmt}{sp:Sp}{q P:yB}{ps i N:zC}{pos:Pos}{pm oc ct:zX}{osl:zF}{od an:zO}{n:Nat}{mg S:zE}{l:PySem.W.OpenLaw}{fd:zS}{f a R:zW}{d:DefRec}{c B A:Prop}{base:yA}{YP:yD->yA->Prop}{XP:zE->yA->Prop}{X:Cx}{K:Frag}{H2 H1 H' H:Hp}{D:zI}{CX:CXT}
theorem yL:∀{vs:zH}{a:zI},IntsAre vs a->A3b (a.map V.int) vs|_,_,.nil=>.nil|_,_,.cons n t h=>.cons ⟨t,rfl⟩ (yL h)
def tw(H:Hp):Prop:=∀b,H b=none\/∃o a,H b=some (.frz o (.lst a))
theorem DP{k:Nat}
  (KX:K.In s₁.heap) (C:s₁.heap.Ns mainGlobals mg) (f:s₁.heap.Ns builtinsNs S) (L:∀x:Str,x≠"__name__"->S x=bootBuiltins x) (y:s₁.heap.NoLimit) (hg:s₁.gens=#[])
  (J:s₁.heap.get? a=some {cls:=.type "list",data:=.seq vs.toArray}) (hi:IntsAre vs D) (X:D.length<=sizeLine) (hr:A7s k callerA)
  (F:∀base:yA,K.In base->base.Ns mainGlobals mg->A4x P w K mg base CX k R fd [x] sp) (j:∀(s:zY)(u:zX),BindsTo s fd ⟨[u],[]⟩ [(x,u)])
  (Q:∀H:Hp,tw H->SqL K H a (D.map V.int)->sp [.ref a] H (λv _=>v=.bl true) λ_ _ _=>False)
  (O:∀H e s',CX [] H s₁ (λ_ _ _=>False) e s'->False):
  codeAny (model P w) callerA (.call (.ref R) ⟨[.ref a],[]⟩) (λr s'=>r=.ok (.ret (.bool true))/\OldK s₁.heap s'.heap/\s'.os=s₁.os/\AllBare s'.gens) s₁:=by
 have Y:=yL hi;have A:=hi.length
 have i:∀H:Hp,tw H->SqL K H a (D.map V.int)->HOk P w H s₁.heap->(∀b,H b≠none->b=a)->(H a≠none->K.lookup a=none)->
   codeAny (model P w) callerA (.call (.ref R) ⟨[.ref a],[]⟩) (λr s'=>r=.ok (.ret (.bool true))/\OldK s₁.heap s'.heap/\s'.os=s₁.os/\AllBare s'.gens) s₁:=by
  intro H Z hS p U hK;have c:∀{b:zW}{o:Obj},s₁.heap.get? b=some o->H b=none->(nu s₁.heap H).get? b=some o:=λe n=>D6 e n
  have N:∀{b:zW}{o:Obj}{I:Array DictEntry}{ep:Nat},s₁.heap.get? b=some o->o.data=.dict I ep->H b=none:=λ{b o I ep} e d=>by
   cases q:H b with
   |none=>rfl
   |some u=>have M:b=a:=U b (by rw[q];simp);subst M;rw[J]at e;cases e;have d':Data.seq vs.toArray _=Data.dict I ep:=d;cases d'
  have g:∀{b:zW}{m:zE},s₁.heap.Ns b m->(nu s₁.heap H).Ns b m:=λ{b m} ⟨o,I,ep,e,d,r⟩=>(iM o I ep (c e (N e d)) d r)
  have B:K.In (nu s₁.heap H):=λb o e=>c (KX b o e) (by
   cases q:H b with
   |none=>rfl
   |some u=>
    have M:b=a:=U b (by rw[q];simp);subst M
    rw[hK (by rw[q];simp)]at e;cases e)
  have E:Mod K mg (nu s₁.heap H):=⟨B,g C,(bd S (g f) L),let⟨mc,h1,h2⟩:=y;(bd mc (g h1) h2)⟩;have e0:D1z P w K mg (nu s₁.heap H) callerA [] s₁ H:=⟨rfl,E,λb o e=>CM e,Nat.le_of_eq (Fb _ _),trivial,λb f=>absurd (show b∈([]:zQ) from f) (by simp),p,.of_eq hg⟩;refine codeAny_mono ((F _ B (g C)).run callerA [] s₁ H ⟨[.ref a],[]⟩ [.ref a] [.ref a] _ _ hr e0 (j s₁ (.ref a)) (.cons rfl .nil) (Q H Z hS)) λr s' h=>?_
  cases r with
  |error e=>exact(O H e s' h).elim
  |ok fl=>
   cases fl with
   |next=>exact False.elim h
   |brk=>exact False.elim h
   |cont=>exact False.elim h
   |ret u=>
    refine fV h ?_;clear h;rintro v H' os t T ⟨l,r',q⟩;have q':v=.bl true:=q;subst q';obtain rfl:u=Value.bool true:=r';refine iW rfl (OldK.of_keep λb o e=>?_) os t
    cases q:H b with
    |none=>exact T.keep b o e q (by intro z;exact absurd (show b∈([]:zQ) from z) (by simp)) (by simp)
    |some u=>
     rcases Z b with z|⟨ob,xs,z⟩
     ·rw[q]at z;cases z
     ·have z2:=T.frzs b ob _ z;obtain⟨W,_⟩:=p b _ z;obtain⟨e2,_⟩:=l b _ z2;rw[e]at W;cases W;exact e2
 cases hk:K.lookup a with
 |some o=>have e:=KX a o hk;rw[J]at e;cases e;refine i (λ_=>none) (λ_=>.inl rfl) (.inr (mR _ vs.toArray _ hk rfl rfl rfl (by rw[iL,A];exact X) (by simpa using Y))) (λb u z=>by have G:(none:Option HO)=some u:=z;cases G) (λb z=>absurd rfl z) λz=>absurd rfl z
 |none=>
  refine i (λb=>if b=a then some (.frz {cls:=.type "list",data:=.seq vs.toArray} (.lst (D.map V.int)))else none) (λb=>?_) (.inl (.inr ⟨{cls:=.type "list",data:=.seq vs.toArray},bz rfl⟩)) (λb u z=>?_) (λb z=>?_) λ_=>hk
  ·by_cases f:b=a
   ·exact .inr (ij _ _ (bz f))
   ·exact .inl (bp f)
  ·by_cases f:b=a
   ·have G:=(bz f).symm.trans z;cases G;subst f;exact⟨J,(md (by rw[eA];exact X) vs _ Y J)⟩
   ·have G:=(bp f).symm.trans z;cases G
  ·by_cases f:b=a
   ·exact f
   ·exact absurd (bp f) z
theorem D3t{k:Nat}{K:Params->Frag}{CX:yD->CXT}{sp:yD->Sp}
  (C:l.most=some n) (A:n<=sizeLine) (t:d.params.defaults=[]) (O:A7s k callerA)
  (L:∀(w:yD)(h:yA),YP w h->(K w.params).In h)
  (F:∀(w:yD)(mg:zE)(r:zW)(h:yA),(K w.params).In h->h.Ns mainGlobals mg->mg d.name=some (.ref r)->
   ∃fd:zS,(∀(s:zY)(u:zX),BindsTo s fd ⟨[u],[]⟩ [(x,u)])/\
    ∀base:yA,(K w.params).In base->base.Ns mainGlobals mg->A4x l.prog w (K w.params) mg base (CX w) k r fd [x] (sp w))
  (B:∀(w:yD)(H:Hp)(a:zW)(p:zI),p.length<=n->tw H->SqL (K w.params) H a (p.map V.int)->sp w [.ref a] H (λv _=>v=.bl true) λ_ _ _=>False)
  (z:∀(w:yD)(H:Hp)(s:zY)(e:zX)(s':zY),CX w [] H s (λ_ _ _=>False) e s'->False):
  PySem.W.WalkO q i XP YP l.row.toRowW d [] (λf vs=>PySem.call f vs):=by
 refine Att.attach_call C t λw E I mg mb r o X S J a vs p G Y Z U Q y m j c R=>?_;have KX:=L w _ Y;obtain⟨fd,N,D⟩:=F w mg r _ KX G.T.g y;exact DP KX G.T.g G.T.b G.T.builtins G.T.nolimit R m j (jU c A) O D N (λH P M=>B w H a p c P M) λH e s'=>z w H I e s'
def lT(s:Stmt)(j:Nat):Stmt:=match s with|.ClassDef _ _ _ body _ _ _ _ _ _ _=>body.getD j (.Pass ⟨0,0,0,0⟩)|_=>.Pass ⟨0,0,0,0⟩
def nh(s:Stmt):Arguments:=match s with|.FunctionDef _ a _ _ _ _ _ _ _ _=>a|_=>{posonlyargs:=[],args:=[],vararg:=none,kwonlyargs:=[],kw_defaults:=[],kwarg:=none,defaults:=[]}
def mN(s:Stmt):List Stmt:=match s with|.FunctionDef _ _ b _ _ _ _ _ _ _=>b|_=>[]
def gi(s:Stmt):Scope:=match s with|.FunctionDef _ _ _ _ _ _ sc _ _ _=>sc|_=>{kind:=.function,names:=[],isGenerator:=false,isCoroutine:=false}
abbrev jk:CXT:=λ_ _ _ _ _ _=>False
abbrev E0:XK:=λ_ _ _=>False
theorem tO:qf jk X E0:=λ_ _ _ _ _ _ _ h=>h.elim
structure Fun(K:Frag)(x qual:Str)(st:Stmt)(f:zW)(fd:zS):Prop where
 ex:∃(oc:zX)(od:zO)(kV doc pm:zX)(an:zO)(cdv ct:zX)(osl:zF),
  fd=fnOf x qual (nh st) (mN st) (gi st) .none kV doc pm an cdv ct/\K.lookup f=some ⟨oc,od,.func fd,osl⟩/\codeIn K cdv qual=true
 kp:keepIn K (.ref f)=true
theorem Fun.ok{k:Nat}(F:Fun K x b st f fd)(S:gC N ps (gi st))
  (d:∀(c:zX)(A:zZ)(a:List Env)(s:zY)(H:Hp)(vs:zM)(Q:VK)(E:XK),A7s k (A.deeper (envOfC b (gi st) s.heap.objs.size f c))->sp vs H Q E->
   ∃t,PSs (pe jk P w K mg base N b (gi st) f c A a s H E).nox (mN st) t/\t {nx:=λ_ H'=>Q .non H',rt:=Q} (start N vs) H) (e:∀vs H Q E,sp vs H Q E->vs.length=ps.length:=by walk_at"ln"):A4x P w K mg base jk (k+1) f fd ps sp:=by
 refine jB F.ex ?_;rintro v u kV n r p c o l ⟨rfl,j,i⟩;refine Bj j i S e λA a s H vs Q E m g=>?_;obtain⟨t,h,q⟩:=d c A a s H vs Q E m g;exact bd t h.nox q
theorem Fun.binds{a:Str}(F:Fun K x a st f fd)
  (h:∀(kV b pm:zX)(an:zO)(c ct:zX)(us:zH),us.length=ps.length->bindArgs (fnOf x a (nh st) (mN st) (gi st) .none kV b pm an c ct) ⟨us,[]⟩=pure (ps.zip us)):A9v K fd ps []:=by
 refine jB F.ex ?_;rintro j g kV b pm an c ct d ⟨rfl,i,e⟩;exact .all (h kV b pm an c ct)
theorem rB{a:Str}{kV d b:zX}(l:K.lookup f=some ⟨oc,od,.func (fnOf x a (nh st) (mN st) (gi st) .none kV d pm an b ct),osl⟩)
  (c:codeIn K b a=true) (k:keepIn K (.ref f)=true):Fun K x a st f (fnOf x a (nh st) (mN st) (gi st) .none kV d pm an b ct):=⟨(iu oc od kV d pm an b (fC ct osl rfl l c)),k⟩
theorem nA{A:zZ}{k:Nat}(a:A7s k A):A.units+1<cLine:=Nat.lt_of_le_of_lt (Nat.add_le_add_left (by decide:1<=64) _) a.units
theorem pv(i:Nat)(b:X.N[i]?=some x:=by rfl)(d:Vis X.env.scope x:=by first|exact Or.inl rfl|exact Or.inr (Or.inl rfl)|exact Or.inr (Or.inr rfl))(c:(x==("__debug__":Str))=false:=by decide)
  (a:(x==("__classdict__":Str))=false:=by decide):PE X (.Name x pos) (pj i):=BQ b d c a
theorem yF:mu X (.builtin "len") (λxs H Q=>∃a kvs,xs=[V.ref a]/\H a=some (.dK kvs)/\Q (.int kvs.length) H):=by intro b s Z H xs e Q I r h;refine fO h ?_;clear h;rintro a kvs rfl d q;obtain⟨u,rfl,c⟩:=mq r;cases c;exact A8 I (.inl d) λt f I'=>(fC (.int kvs.length) H I' ⟨t,rfl⟩ q)
theorem iz(h:B):if false=true then A else B:=by rw[bp gL];exact h
theorem nL(h:A):if true=true then A else B:=by rw[bz rfl];exact h
theorem vI[Decidable c](h1:c->A)(h2:¬c->B):if c then A else B:=by
 by_cases h:c
 ·rw[bz h];exact h1 h
 ·rw[bp h];exact h2 h
theorem vR[Decidable c](a:c)(h:B):if (! decide c)=true then A else B:=by rw[iY a];exact iz h
def A0k(H H':Hp):Prop:=∀b o,H b=some o->H' b=some o
theorem A0k.refl(H:Hp):A0k H H:=λ_ _ h=>h
theorem A0k.trans(a:A0k H H1)(b:A0k H1 H2):A0k H H2:=λc o h=>b c o (a c o h)
theorem A0k.free(e:A0k H H'){l:zW}(h:H' l=Option.none):H l=Option.none:=by
 cases q:H l with
 |none=>rfl
 |some o=>rw[e l o q]at h;cases h
theorem A0k.seq(e:A0k H H')(h:SqL K H a xs):SqL K H' a xs:=by
 rcases h with (h|⟨o,h⟩)|h
 ·exact .inl (.inl (e _ _ h))
 ·exact .inl (.inr ⟨o,e _ _ h⟩)
 ·exact .inr h
section
variable{κ:Type}[DecidableEq κ]
end
end L2
namespace SA
open PySem PyProof.Rows
variable{ys xs r b arr a1 a0 a:Array Keyed}{y x u key:Keyed}{v:zX}{sa q pw' pw p o nb na n lo j ib ia i hint g0 g f e d c base:Nat}{rest Y X U R L F:List Keyed}{prog:yB}{w:yD}{p2:List (Nat×Nat×Nat)}{ns:zI}{h:yA}{S:Keyed->Prop}{P:Array (Nat×Nat×Nat)}{A:zZ}{E:zA}{s:zY}
abbrev SM:=StateT SortSt Sem
def nc:Bool->Keyed->Array Keyed->Nat->Nat->Nat->SM (Option Nat):=sortPriv% PySem.Builtin.gallop
def pJ:Nat->SM Unit:=sortPriv% PySem.Builtin.setMinGallop
def uJ:Array Keyed->Array Keyed->SM (Array Keyed):=sortPriv% PySem.Builtin.mergeLo
def uI:Array Keyed->Array Keyed->SM (Array Keyed):=sortPriv% PySem.Builtin.mergeHi
abbrev ku(st:SortSt)(g:Nat):SortSt:=SortSt.mk' (kindOf st) (arrOf st) (pendingOf st) g (failedOf st)
theorem Il(g:Nat):pJ g=modify λs=>ku s g:=rfl
theorem FR(left:Bool)(key:Keyed)(arr:Array Keyed)(base n hint:Nat):nc left key arr base n hint=(do
 let beyond (i:Nat):SM (Option Bool):=do
  let x<-elem' arr (base+i)
  if left then lt' x key else return (<-lt' key x).map (!·)
 let mut lastofs:=0
 let mut ofs:=1
 let mut lo:=0
 let mut hi:=0
 let some right<-beyond hint|return none
 if right then
  let maxofs:=n-hint
  for _ in [0:n] do
   if ofs≥maxofs then break
   let some more<-beyond (hint+ofs)|return none
   if ! more then break
   lastofs:=ofs
   ofs:=2*ofs+1
  lo:=hint+lastofs+1
  hi:=hint+min ofs maxofs
 else
  let maxofs:=hint+1
  for _ in [0:n] do
   if ofs≥maxofs then break
   let some found<-beyond (hint-ofs)|return none
   if found then break
   lastofs:=ofs
   ofs:=2*ofs+1
  lo:=hint+1-min ofs maxofs
  hi:=hint-lastofs
 for _ in [0:n] do
  if lo≥hi then break
  let m:=lo+(hi-lo)/2
  let some more<-beyond m|return none
  if more then lo:=m+1 else hi:=m
 return some hi):=rfl
theorem GJ(a b:Array Keyed):uJ a b=(do
 rule "list.sort.merge-lo"
 let total:=a.size+b.size
 let done (out:Array Keyed) (ia ib:Nat):=out++a.extract ia a.size++b.extract ib b.size
 let lastOfA (out:Array Keyed) (ia ib:Nat):=out++b.extract ib b.size++a.extract ia a.size
 let mut out:Array Keyed:=#[<-elem' b 0]
 let mut ia:=0
 let mut ib:=1
 if ib==b.size then return done out ia ib
 if ia+1==a.size then return lastOfA out ia ib
 let mut minGallop:=gallopOf (<-get)
 for _ in [0:total] do
  let mut acount:=0
  let mut bcount:=0
  for _ in [0:total] do
   let some bWins<-lt' (<-elem' b ib) (<-elem' a ia)|return done out ia ib
   if bWins then
    out:=out.push (<-elem' b ib);ib:=ib+1;bcount:=bcount+1;acount:=0
    if ib==b.size then return done out ia ib
    if bcount≥minGallop then break
   else
    out:=out.push (<-elem' a ia);ia:=ia+1;acount:=acount+1;bcount:=0
    if ia+1==a.size then return lastOfA out ia ib
    if acount≥minGallop then break
  rule "list.sort.gallop"
  minGallop:=minGallop+1
  for _ in [0:total] do
   if minGallop>1 then minGallop:=minGallop-1
   pJ minGallop
   let some k<-nc false (<-elem' b ib) a ia (a.size-ia) 0|return done out ia ib
   acount:=k
   if k>0 then
    out:=out++a.extract ia (ia+k);ia:=ia+k
    if ia+1==a.size then return lastOfA out ia ib
    if ia==a.size then return done out ia ib
   out:=out.push (<-elem' b ib);ib:=ib+1
   if ib==b.size then return done out ia ib
   let some k<-nc true (<-elem' a ia) b ib (b.size-ib) 0|return done out ia ib
   bcount:=k
   if k>0 then
    out:=out++b.extract ib (ib+k);ib:=ib+k
    if ib==b.size then return done out ia ib
   out:=out.push (<-elem' a ia);ia:=ia+1
   if ia+1==a.size then return lastOfA out ia ib
   if acount<7&&bcount<7 then break
  minGallop:=minGallop+1
  pJ minGallop
 unsupported "internal:list.sort.merge-bound"):=rfl
theorem Gs(a b:Array Keyed):uI a b=(do
 rule "list.sort.merge-hi"
 let total:=a.size+b.size
 let done (out:Array Keyed) (na nb:Nat):=a.extract 0 na++b.extract 0 nb++out.reverse
 let firstOfB (out:Array Keyed) (na nb:Nat):=b.extract 0 nb++a.extract 0 na++out.reverse
 let mut na:=a.size-1
 let mut nb:=b.size
 let mut out:Array Keyed:=#[<-elem' a na]
 if na==0 then return done out na nb
 if nb==1 then return firstOfB out na nb
 let mut minGallop:=gallopOf (<-get)
 for _ in [0:total] do
  let mut acount:=0
  let mut bcount:=0
  for _ in [0:total] do
   let some aWins<-lt' (<-elem' b (nb-1)) (<-elem' a (na-1))|return done out na nb
   if aWins then
    na:=na-1;out:=out.push (<-elem' a na);acount:=acount+1;bcount:=0
    if na==0 then return done out na nb
    if acount≥minGallop then break
   else
    nb:=nb-1;out:=out.push (<-elem' b nb);bcount:=bcount+1;acount:=0
    if nb==1 then return firstOfB out na nb
    if bcount≥minGallop then break
  rule "list.sort.gallop"
  minGallop:=minGallop+1
  for _ in [0:total] do
   if minGallop>1 then minGallop:=minGallop-1
   pJ minGallop
   let some at_<-nc false (<-elem' b (nb-1)) a 0 na (na-1)|return done out na nb
   let k:=na-at_
   acount:=k
   if k>0 then
    out:=out++(a.extract at_ na).reverse;na:=at_
    if na==0 then return done out na nb
   nb:=nb-1;out:=out.push (<-elem' b nb)
   if nb==1 then return firstOfB out na nb
   let some at_<-nc true (<-elem' a (na-1)) b 0 nb (nb-1)|return done out na nb
   let k:=nb-at_
   bcount:=k
   if k>0 then
    out:=out++(b.extract at_ nb).reverse;nb:=at_
    if nb==1 then return firstOfB out na nb
    if nb==0 then return done out na nb
   na:=na-1;out:=out.push (<-elem' a na)
   if na==0 then return done out na nb
   if acount<7&&bcount<7 then break
  minGallop:=minGallop+1
  pJ minGallop
 unsupported "internal:list.sort.merge-bound"):=rfl
theorem Gx(i:Nat):mergeAt' i=(do
 let s<-get
 let(some (sa,na,power),some (sb,nb,_)):=((pendingOf s)[i]?,(pendingOf s)[i+1]?)|unsupported "internal:list.sort.pending"
 set (setPending s (((pendingOf s).setIfInBounds i (sa,na+nb,power)).eraseIdxIfInBounds (i+1)))
 let some k<-nc false (<-elem' (arrOf s) sb) (arrOf s) sa na 0|return false
 let(sa,na):=(sa+k,na-k)
 if na==0 then return true
 let some nb<-nc true (<-elem' (arrOf s) (sa+na-1)) (arrOf s) sb nb (nb-1)|return false
 if nb==0 then return true
 let x:=(arrOf s).extract sa sb
 let y:=(arrOf s).extract sb (sb+nb)
 let merged<-if na<=nb then uJ x y else uI x y
 modify λs=>setArr s (merged.toList.zipIdx.foldl (λa (p,j)=>a.setIfInBounds (sa+j) p) (arrOf s))
 return (failedOf (<-get)).isNone):=rfl
section
structure Tr(lt:Keyed->Keyed->Bool)(S:Keyed->Prop):Prop where
 tr:∀x y z,S x->S y->S z->lt y x=false->lt z y=false->lt z x=false
structure B1w(prog:yB)(w:yD)(A:zZ)(s:zY)(κ:SortKind)(lt:Keyed->Keyed->Bool)(S:Keyed->Prop):Prop extends Tr lt S where
 ask:∀x y,S x->S y->∀(E:zA)(Q:Bool->zY->Prop),Q (lt x y) s->wpAny (model prog w) A (keyLt' κ x.1 y.1) Q E s
 asym:∀x y,S x->S y->lt x y=true->lt y x=false
variable{κ:SortKind}{lt:Keyed->Keyed->Bool}
theorem jq{Q:Keyed->SortSt->Prop}{st:SortSt}(h:arr[i]?=some x)(a:Q x st):wpS (model prog w) A E s (elem' arr i) Q st:=by rw[elem'_eq,h];exact wpS_pure a
theorem qd(a:B1w prog w A s κ lt S){Q:Option Bool->SortSt->Prop}{st:SortSt}(e:kindOf st=κ)(d:S x)(c:S y)(b:Q (some (lt x y)) st):wpS (model prog w) A E s (lt' x y) Q st:=by rw[lt'_eq];refine wpS_bind (wpS_get ?_);rw[e];refine wpS_bind (wpS_lift (wpAny_attempt (a.ask x y d c _ _ ⟨rfl,?_⟩)));exact wpS_pure b
def Cnt(b:Nat->Bool)(n k:Nat):Prop:=k<=n/\(∀i,i<k->b i=true)/\∀i,k<=i->i<n->b i=false
theorem za(as:B1w prog w A s κ lt S){left:Bool}{b:Nat->Bool}{Q:Option Nat->SortSt->Prop}{st:SortSt}(hk:kindOf st=κ)(hkey:S key)
  (hel:∀i,i<n->∃x,arr[base+i]?=some x/\S x/\b i=if left then lt x key else ! lt key x) (hmono:∀i j,i<=j->j<n->b j=true->b i=true) (hh:hint<n) (hq:∀k,Cnt b n k->Q (some k) st):
  wpS (model prog w) A E s (nc left key arr base n hint) Q st:=by
 rw[FR]
 have bey:∀(i:Nat),i<n->∀(R:Option Bool->SortSt->Prop),R (some (b i)) st->wpS (model prog w) A E s (do
   let x<-elem' arr (base+i)
   if left then lt' x key else return (<-lt' key x).map (!·)) R st:=λi hi R hR=>by
  obtain⟨x,h1,h2,h3⟩:=hel i hi;refine wpS_bind (jq h1 ?_)
  cases left with
  |true=>simp only [if_true]at h3⊢;exact qd as hk h2 hkey (by rw[<-h3];exact hR)
  |false=>simp only [Bool.false_eq_true,if_false]at h3⊢;refine wpS_bind (qd as hk hkey h2 ?_);exact wpS_pure (by show R (some (! lt key x)) st;rw[<-h3];exact hR)
 have hf:∀i j,i<=j->j<n->b i=false->b j=false:=λi j h1 h2 h3=>by
  cases e:b j with
  |false=>rfl
  |true=>rw[hmono i j h1 h2 e]at h3;cases h3
 have fin:∀lo hi,lo<=hi->hi<=n->(∀i,i<lo->b i=true)->(∀i,hi<=i->i<n->b i=false)->wpS (model prog w) A E s (do
   let mut lo:=lo
   let mut hi:=hi
   for _ in [0:n] do
    if lo≥hi then break
    let m:=lo+(hi-lo)/2
    let some more<-(do
     let x<-elem' arr (base+m)
     if left then lt' x key else return (<-lt' key x).map (!·):SM (Option Bool))|return none
    if more then lo:=m+1 else hi:=m
   return some hi:SM (Option Nat)) Q st:=λlo hi h1 h2 h3 h4=>by
  refine wpS_bind (wpS_mono (wpS_forRange (I:=λx c st'=>st'=st/\∃lo hi,c=(none,lo,hi)/\lo<=hi/\hi<=n/\hi-lo<=n-x/\(∀i,i<lo->b i=true)/\∀i,hi<=i->i<n->b i=false)
   (Q:=λc st'=>st'=st/\∃k,c=(none,k,k)/\Cnt b n k) ?step ?fin ⟨rfl,(jz lo hi rfl h1 h2 (by lia) h3 h4)⟩) ?post)
  case post=>rintro c st' ⟨rfl,k,rfl,hc⟩;exact wpS_pure (hq k hc)
  case fin=>
   rintro c st' zz;refine iX zz ?_;clear zz;rintro rfl lo hi rfl ⟨g1,g2,g3,g4,g5⟩;have:lo=hi:=by lia
   subst this;exact⟨rfl,(iU lo rfl g2 g4 g5)⟩
  case step=>
   rintro x c st' _ hx zz;refine iX zz ?_;clear zz;rintro rfl lo hi rfl ⟨g1,g2,g3,g4,g5⟩;dsimp only;by_cases hge:lo≥hi
   ·rw[bz hge];have:lo=hi:=by lia
    subst this;exact wpS_pure ⟨rfl,(iU lo rfl g2 g4 g5)⟩
   ·rw[bp hge];refine wpS_bind (bey _ (by lia) _ ?_);dsimp only
    cases e:b (lo+(hi-lo)/2)with
    |true=>simp only [if_true];exact wpS_pure ⟨rfl,(jz _ hi rfl (by lia) g2 (by lia) (λi hi'=>hmono i _ (by lia) (by lia) e) g5)⟩
    |false=>simp only [Bool.false_eq_true,if_false];exact wpS_pure ⟨rfl,(jz lo _ rfl (by lia) (by lia) (by lia) g4 λi h5 h6=>hf _ i h5 h6 e)⟩
 refine wpS_bind (bey hint hh _ ?_);dsimp only
 cases e0:b hint with
 |true=>
  simp only [if_true]
  refine wpS_bind (wpS_mono (wpS_forRange (I:=λx c st'=>st'=st/\∃lastofs ofs,c=(none,lastofs,ofs)/\lastofs<ofs/\x+1<=ofs/\hint+lastofs<n/\b (hint+lastofs)=true)
   (Q:=λc st'=>st'=st/\∃lastofs ofs,c=(none,lastofs,ofs)/\lastofs<ofs/\hint+lastofs<n/\b (hint+lastofs)=true/\(n-hint<=ofs\/b (hint+ofs)=false)) ?step2 ?fin2 (kX rfl 0 1 rfl (by lia) (by lia) (by lia) e0)) ?post2)
  case post2=>
   rintro c st' zz;refine iX zz ?_;clear zz;rintro rfl lastofs ofs rfl ⟨g1,g2,g3,g4⟩;dsimp only;refine fin _ _ (by lia) (by lia) (λi hi=>hmono i _ (by lia) g2 g3) (λi h1 h2=>?_);rcases g4 with g4|g4
   ·lia
   ·exact hf (hint+ofs) i (by lia) h2 g4
  case fin2=>rintro c st' zz;refine iX zz ?_;clear zz;rintro rfl lastofs ofs rfl ⟨g1,g2,g3,g4⟩;exact kX rfl lastofs ofs rfl g1 g3 g4 (.inl (by lia))
  case step2=>
   rintro x c st' _ hx zz;refine iX zz ?_;clear zz;rintro rfl lastofs ofs rfl ⟨g1,g2,g3,g4⟩;dsimp only;by_cases hge:ofs≥n-hint
   ·rw[bz hge];exact wpS_pure (kX rfl lastofs ofs rfl g1 g3 g4 (.inl hge))
   ·rw[bp hge];refine wpS_bind (bey _ (by lia) _ ?_);dsimp only
    cases e:b (hint+ofs)with
    |true=>simp only [Bool.not_true,Bool.false_eq_true,if_false];exact wpS_pure (kX rfl ofs _ rfl (by lia) (by lia) (by lia) e)
    |false=>simp only [Bool.not_false,if_true];exact wpS_pure (kX rfl lastofs ofs rfl g1 g3 g4 (.inr e))
 |false=>
  simp only [Bool.false_eq_true,if_false]
  refine wpS_bind (wpS_mono (wpS_forRange (I:=λx c st'=>st'=st/\∃lastofs ofs,c=(none,lastofs,ofs)/\lastofs<ofs/\x+1<=ofs/\lastofs<=hint/\b (hint-lastofs)=false)
   (Q:=λc st'=>st'=st/\∃lastofs ofs,c=(none,lastofs,ofs)/\lastofs<ofs/\lastofs<=hint/\b (hint-lastofs)=false/\(hint+1<=ofs\/ofs<=hint/\b (hint-ofs)=true)) ?step3 ?fin3 (kX rfl 0 1 rfl (by lia) (by lia) (by lia) e0)) ?post3)
  case post3=>
   rintro c st' zz;refine iX zz ?_;clear zz;rintro rfl lastofs ofs rfl ⟨g1,g2,g3,g4⟩;dsimp only;refine fin _ _ (by lia) (by lia) (λi hi=>?_) (λi h1 h2=>hf _ i h1 h2 g3);rcases g4 with g4|⟨g4,g5⟩
   ·lia
   ·exact hmono i (hint-ofs) (by lia) (by lia) g5
  case fin3=>rintro c st' zz;refine iX zz ?_;clear zz;rintro rfl lastofs ofs rfl ⟨g1,g2,g3,g4⟩;exact kX rfl lastofs ofs rfl g1 g3 g4 (.inl (by lia))
  case step3=>
   rintro x c st' _ hx zz;refine iX zz ?_;clear zz;rintro rfl lastofs ofs rfl ⟨g1,g2,g3,g4⟩;dsimp only;by_cases hge:ofs≥hint+1
   ·rw[bz hge];exact wpS_pure (kX rfl lastofs ofs rfl g1 g3 g4 (.inl hge))
   ·rw[bp hge];refine wpS_bind (bey _ (by lia) _ ?_);dsimp only
    cases e:b (hint-ofs)with
    |true=>simp only [if_true];exact wpS_pure (kX rfl lastofs ofs rfl g1 g3 g4 (.inr ⟨by lia,e⟩))
    |false=>simp only [Bool.false_eq_true,if_false];exact wpS_pure (kX rfl ofs _ rfl (by lia) (by lia) (by lia) e)
end
section
variable{κ:SortKind}{lt:Keyed->Keyed->Bool}{S:Keyed->Prop}
abbrev Le(lt:Keyed->Keyed->Bool)(x y:Keyed):Prop:=lt y x=false
structure A1o(lt:Keyed->Keyed->Bool)(S:Keyed->Prop)(a:Array Keyed):Prop where
 s:∀(i:Nat)(x:Keyed),a[i]?=some x->S x
 so:∀(i j:Nat)(x y:Keyed),i<=j->a[i]?=some x->a[j]?=some y->Le lt x y
structure A5r(lt:Keyed->Keyed->Bool)(a b out:Array Keyed)(ia ib:Nat):Prop where
 pm:out.toList.Perm (a.toList.take ia++b.toList.take ib)
 so:out.toList.Pairwise (Le lt)
 fa:∀x∈out.toList,∀(i:Nat)(y:Keyed),ia<=i->a[i]?=some y->Le lt x y
 fb:∀x∈out.toList,∀(i:Nat)(y:Keyed),ib<=i->b[i]?=some y->Le lt x y
def Res(lt:Keyed->Keyed->Bool)(a b r:Array Keyed):Prop:=r.toList.Perm (a.toList++b.toList)/\r.toList.Pairwise (Le lt)
theorem EJ(h:a[i]?=some x):a.toList.take (i+1)=a.toList.take i++[x]:=by
 have b:a.toList[i]?=some x:=by simpa using h
 rw[gW,b];rfl
theorem A5r.takeA(r:Tr lt S){g:Array Keyed}(h:A5r lt a b g j ib)(o:A1o lt S a)(l:A1o lt S b)(k:a[j]?=some x)(m:∀y,b[ib]?=some y->Le lt x y):A5r lt a b (g.push x) (j+1) ib:=by
 have p:=o.s _ _ k
 have f:∀i y,ib<=i->b[i]?=some y->Le lt x y:=λi y e d=>by have t:=(oZ.mp d).1;have n:b[ib]?=some b[ib]:=Array.getElem?_eq_getElem (by lia);exact r.tr x _ y p (l.s _ _ n) (l.s _ _ d) (m _ n) (l.so _ _ _ _ e n d)
 refine⟨?_,?_,?_,?_⟩
 ·rw[Array.toList_push,EJ k];refine(h.pm.append_right [x]).trans ?_;rw[iE,iE];exact List.Perm.append_left _ List.perm_append_comm
 ·rw[Array.toList_push,List.pairwise_append];exact fL h.so (by simp) λu c v q=>by rw[gz.mp q];exact h.fa u c j x (fH _) k
 ·intro u c i y e d;rw[Array.toList_push]at c;rcases iw.mp c with c|c
  ·exact h.fa u c i y (by lia) d
  ·rw[gz.mp c];exact o.so _ _ _ _ (by lia) k d
 ·intro u c i y e d;rw[Array.toList_push]at c;rcases iw.mp c with c|c
  ·exact h.fb u c i y e d
  ·rw[gz.mp c];exact f i y e d
theorem A5r.symm{c:Array Keyed}(h:A5r lt a b c ia d):A5r lt b a c d ia:=⟨h.pm.trans List.perm_append_comm,h.so,h.fb,h.fa⟩
theorem A5r.takeB(g:Tr lt S){c:Array Keyed}(h:A5r lt a b c e f)(j:A1o lt S a)(i:A1o lt S b)(k:b[f]?=some x)(d:∀y,a[e]?=some y->Le lt x y):A5r lt a b (c.push x) e (f+1):=(h.symm.takeA g i j k d).symm
theorem Dk{k:Nat}(h:a[i+k]?=some x):a.extract i (i+(k+1))=(a.extract i (i+k)).push x:=by
 have c:=(oZ.mp h).1;apply Array.toList_inj.mp;rw[Array.toList_push,Array.toList_extract,Array.toList_extract];have b:(a.toList.drop i)[k]?=some x:=by rw[List.getElem?_drop];simpa using h
 simp only [List.extract_eq_drop_take,show i+(k+1)-i=k+1 by lia,show i+k-i=k by lia];rw[gW,b];rfl
theorem A5r.takesA(g:Tr lt S){a b d:Array Keyed}{c f:Nat}(h:A5r lt a b d c f)(l:A1o lt S a)(j:A1o lt S b):∀k,c+k<=a.size->(∀i x y,i<k->a[c+i]?=some x->b[f]?=some y->Le lt x y)->A5r lt a b (d++a.extract c (c+k)) (c+k) f
 |0,_,_=>by
  have:a.extract c (c+0)=#[]:=by simp;lia
  rw[this,Array.append_empty];exact h
 |k+1,hk,hle=>by have m:=A5r.takesA g h l j k (by lia) λi x y o=>hle i x y (by lia);have e:a[c+k]?=some a[c+k]:=Array.getElem?_eq_getElem (by lia);rw[Dk e,Array.append_push];exact m.takeA g l j e λy n=>hle k _ y (by lia) e n
theorem A5r.takesB(g:Tr lt S){d:Array Keyed}(h:A5r lt a b d f c)(m:A1o lt S a)(j:A1o lt S b)(k:Nat)(l:c+k<=b.size)(e:∀i x y,i<k->b[c+i]?=some x->a[f]?=some y->Le lt x y):A5r lt a b (d++b.extract c (c+k)) f (c+k):=(h.symm.takesA g j m k l e).symm
theorem wV(a:Array Keyed)(i:Nat):(a.extract i a.size).toList=a.toList.drop i:=by rw[Array.toList_extract,List.extract_eq_drop_take];exact nI (by rw[ot];simp)
theorem A5r.endA{d:Array Keyed}(h:A5r lt a b d c b.size)(m:A1o lt S a):Res lt a b (d++a.extract c a.size):=by
 have e:b.toList.take b.size=b.toList:=nI (by simp);have g:=h.pm;rw[e]at g;refine⟨?_,?_⟩
 ·rw[Array.toList_append,wV];refine(g.append_right _).trans ?_;rw[iE];refine(List.Perm.append_left _ List.perm_append_comm).trans ?_;rw[<-iE,np]
 ·rw[Array.toList_append,wV,List.pairwise_append];refine fL h.so ?_ λx o y n=>?_
  ·rw[List.pairwise_iff_getElem];intro i j f l k;refine m.so (c+i) (c+j) _ _ (by lia) ?_ ?_
   ·rw[<-Array.getElem?_toList,<-List.getElem?_drop];exact gU f
   ·rw[<-Array.getElem?_toList,<-List.getElem?_drop];exact gU l
  ·obtain⟨i,f⟩:=List.getElem?_of_mem n;rw[List.getElem?_drop]at f;exact h.fa x o (c+i) y (by lia) (by rw[<-Array.getElem?_toList];exact f)
theorem A5r.endB{c:Array Keyed}(h:A5r lt a b c a.size d)(e:A1o lt S b):Res lt a b (c++b.extract d b.size):=by obtain⟨g,f⟩:=h.symm.endA e;exact⟨g.trans List.perm_append_comm,f⟩
theorem A5r.endL(m:Tr lt S){f:Array Keyed}(h:A5r lt a b f d e)(k:A1o lt S a)(n:A1o lt S b)(p:d+1=a.size)(o:e<=b.size)(c:∀x y,a[d]?=some x->y∈b.toList->Le lt y x):Res lt a b (f++b.extract e b.size++a.extract d a.size):=by
 have l:a[d]?=some a[d]:=Array.getElem?_eq_getElem (by lia)
 have g:=h.takesB m k n (b.size-e) (by lia) λi x y q g j=>by rw[l]at j;cases j;exact c _ x l (by have:=Array.mem_of_getElem? g;simpa using this)
 rw[show e+(b.size-e)=b.size by lia]at g;exact g.endA k
theorem pF{n:String}{Q:Unit->SortSt->Prop}{st:SortSt}(h:Q () st):wpS (model prog w) A E s (liftM (rule n):SM Unit) Q st:=wpS_lift (wpAny_rule ⟨rfl,h⟩)
theorem sr{Q:Unit->SortSt->Prop}{st:SortSt}(h:Q () (ku st g)):wpS (model prog w) A E s (pJ g) Q st:=by rw[Il];exact wpS_modify h
structure A1g(lt:Keyed->Keyed->Bool)(S:Keyed->Prop)(a:Array Keyed)(lo n:Nat):Prop where
 len:lo+n<=a.size
 s:∀(i:Nat)(x:Keyed),lo<=i->i<lo+n->a[i]?=some x->S x
 so:∀(i j:Nat)(x y:Keyed),lo<=i->i<=j->j<lo+n->a[i]?=some x->a[j]?=some y->Le lt x y
theorem A1o.inn(h:A1o lt S a)(c:lo<=a.size):A1g lt S a lo (a.size-lo):=⟨by lia,λi x _ _=>h.s i x,λi j x y _ b _=>h.so i j x y b⟩
theorem tS(o:B1w prog w A s κ lt S){Q:Option Nat->SortSt->Prop}{st:SortSt}(B:kindOf st=κ)(e:S key)(f:A1g lt S a lo n)(q:d<n)
  (C:∀k,k<=n->(∀i x,lo<=i->i<lo+k->a[i]?=some x->Le lt x key)->(∀i x,lo+k<=i->i<lo+n->a[i]?=some x->lt key x=true)->Q (some k) st):wpS (model prog w) A E s (nc false key a lo n d) Q st:=by
 have g:∀i,i<n->∃x,a[lo+i]?=some x:=λi m=>⟨_,Array.getElem?_eq_getElem (by have:=f.len;lia)⟩;refine za o (b:=λi=>match a[lo+i]? with|some x=> ! lt key x|none=>false) B e ?_ ?_ q ?_
 ·intro i m;obtain⟨x,c⟩:=g i m;exact fJ x c (f.s _ x (by lia) (by lia) c) (by simp only [c];rfl)
 ·intro i j z r h;obtain⟨x,c⟩:=g i (by lia);obtain⟨y,l⟩:=g j r;simp only [c,l,Bool.not_eq_true']at h⊢;exact o.tr x y key (f.s _ x (by lia) (by lia) c) (f.s _ y (by lia) (by lia) l) e (f.so _ _ x y (by lia) (by lia) (by lia) c l) h
 ·rintro k ⟨v,D,p⟩;refine C k v (λi x t u c=>?_) (λi x t u c=>?_)
  ·have:=D (i-lo) (by lia);simp only [show lo+(i-lo)=i by lia,c,Bool.not_eq_true']at this;exact this
  ·have:=p (i-lo) (by lia) (by lia);simp only [show lo+(i-lo)=i by lia,c,Bool.not_eq_false']at this;exact this
theorem tQ(p:B1w prog w A s κ lt S){Q:Option Nat->SortSt->Prop}{st:SortSt}(C:kindOf st=κ)(f:S key)(g:A1g lt S a lo n)(r:d<n)
  (D:∀k,k<=n->(∀i x,lo<=i->i<lo+k->a[i]?=some x->lt x key=true)->(∀i x,lo+k<=i->i<lo+n->a[i]?=some x->Le lt key x)->Q (some k) st):wpS (model prog w) A E s (nc true key a lo n d) Q st:=by
 have l:∀i,i<n->∃x,a[lo+i]?=some x:=λi o=>⟨_,Array.getElem?_eq_getElem (by have:=g.len;lia)⟩;refine za p (b:=λi=>match a[lo+i]? with|some x=>lt x key|none=>false) C f ?_ ?_ r ?_
 ·intro i o;obtain⟨x,c⟩:=l i o;exact fJ x c (g.s _ x (by lia) (by lia) c) (by simp only [c];rfl)
 ·intro i j B t h;obtain⟨x,c⟩:=l i (by lia);obtain⟨y,m⟩:=l j t;simp only [c,m]at h⊢
  cases e:lt x key with
  |true=>rfl
  |false=>have:=p.tr key x y f (g.s _ x (by lia) (by lia) c) (g.s _ y (by lia) (by lia) m) e (g.so _ _ x y (by lia) (by lia) (by lia) c m);rw[this]at h;cases h
 ·rintro k ⟨z,F,q⟩;refine D k z (λi x u v c=>?_) (λi x u v c=>?_)
  ·have:=F (i-lo) (by lia);simp only [show lo+(i-lo)=i by lia,c]at this;exact this
  ·have:=q (i-lo) (by lia) (by lia);simp only [show lo+(i-lo)=i by lia,c]at this;exact this
theorem Gy(D:B1w prog w A s κ lt S){Q:Array Keyed->SortSt->Prop}{st:SortSt}(hk:kindOf st=κ)(C:A1o lt S a)(B:A1o lt S b)(na:0<a.size)(nb:0<b.size)
  (h0:∀x y,b[0]?=some x->a[0]?=some y->Le lt x y) (hl:∀x y,a[a.size-1]?=some x->y∈b.toList->Le lt y x) (hq:∀r g,Res lt a b r->Q r (ku st g)):wpS (model prog w) A E s (uJ a b) Q st:=by
 rw[GJ];refine wpS_bind (pF ?_);have P:b[0]?=some b[0]:=Array.getElem?_eq_getElem nb;refine wpS_bind (jq P ?_);dsimp only;have m0:A5r lt a b #[] 0 0:=⟨by simp,by simp,by simp,by simp⟩;have m1:A5r lt a b #[b[0]] 0 1:=m0.takeB D.toTr C B P λy Y=>h0 _ y P Y
 have eb:∀{n:Array Keyed}{o p:Nat},A5r lt a b n o p->p=b.size->Res lt a b (n++a.extract o a.size++b.extract p b.size):=λ{n o p} m e=>by
  subst e;have:b.extract b.size b.size=#[]:=by simp
  rw[this,Array.append_empty];exact m.endA C
 have ea:∀{n:Array Keyed}{o p:Nat},A5r lt a b n o p->o=a.size->Res lt a b (n++a.extract o a.size++b.extract p b.size):=λ{n o p} m e=>by
  subst e;have:a.extract a.size a.size=#[]:=by simp
  rw[this,Array.append_empty];exact m.endB B
 have el:∀{n:Array Keyed}{o p:Nat},A5r lt a b n o p->o+1=a.size->p<=b.size->Res lt a b (n++b.extract p b.size++a.extract o a.size):=λ{n o p} m e hi=>m.endL D.toTr C B e hi λx y hx Y=>hl x y (by rw[<-e];exact hx) Y;have M:∀r,Res lt a b r->Q r st:=λr h=>hq r (gallopOf st) h;by_cases c1:1=b.size
 ·rw[bz (by simpa using c1)];exact wpS_pure (M _ (eb m1 c1))
 rw[bp (by simpa using c1)];by_cases c2:0+1=a.size
 ·rw[bz (by simpa using c2)];exact wpS_pure (M _ (el m1 c2 (by lia)))
 rw[bp (by simpa using c2)];refine wpS_bind (wpS_get ?_);have get:∀{c:Array Keyed}{i:Nat}(h:i<c.size),c[i]?=some c[i]:=λh=>Array.getElem?_eq_getElem h
 refine wpS_bind (wpS_mono (wpS_forRange (I:=λx c l=>(∃g,l=ku st g)/\∃n o p N,c=(none,n,o,p,N)/\A5r lt a b n o p/\o+1<a.size/\p<b.size/\(a.size-o)+(b.size-p)+x<=a.size+b.size)
  (Q:=λc l=>(∃g,l=ku st g)/\∃r,c.1=some r/\Res lt a b r) ?step ?fin ⟨⟨gallopOf st,rfl⟩,(hU _ _ _ _ rfl m1 (by lia) (by lia) (by lia))⟩) ?post)
 case post=>rintro⟨c1,c2⟩ l ⟨⟨g,rfl⟩,r,e,hr⟩;dsimp only at e;subst e;exact wpS_pure (hq r g hr)
 case fin=>
  rintro c l ⟨⟨g,rfl⟩,n,o,p,N,rfl,m,h1,h2,h3⟩
  lia
 case step=>
  rintro x c l _ hx ⟨⟨g,rfl⟩,n,o,p,N,rfl,m,h1,h2,h3⟩;dsimp only
  refine wpS_bind (wpS_mono (wpS_forRange (I:=λy c l=>l=ku st g/\∃j d f H G,c=(none,j,d,f,H,G)/\A5r lt a b j d f/\d+1<a.size/\f<b.size/\(a.size-d)+(b.size-f)+y=(a.size-o)+(b.size-p))
   (Q:=λc l=>l=ku st g/\((∃r t,c=(some r,t)/\Res lt a b r)\/∃j d f H G,c=(none,j,d,f,H,G)/\A5r lt a b j d f/\d+1<a.size/\f<b.size/\(a.size-d)+(b.size-f)<(a.size-o)+(b.size-p))) ?step1 ?fin1 (gk rfl _ (hU _ _ _ _ rfl m h1 h2 (by lia)))) ?post1)
  case fin1=>
   rintro c l ⟨rfl,j,d,f,H,G,rfl,O,X,R,g3⟩
   lia
  case step1=>
   rintro y c l _ Y ⟨rfl,j,d,f,H,G,rfl,O,X,R,g3⟩;dsimp only;have F:=get R;have J:=get (show d<a.size by lia);refine wpS_bind (jq F ?_);refine wpS_bind (jq J ?_);refine wpS_bind (qd D hk (B.s _ _ F) (C.s _ _ J) ?_);dsimp only
   cases e:lt b[f] a[d]with
   |true=>
    rw[bz rfl];refine wpS_bind (jq F ?_)
    have K:=O.takeB D.toTr C B F λz L=>by rw[J]at L;cases L;exact D.asym _ _ (B.s _ _ F) (C.s _ _ J) e
    by_cases c3:f+1=b.size
    ·rw[bz (by simpa using c3)];exact wpS_pure ⟨rfl,.inl (gF _ _ rfl (eb K c3))⟩
    rw[bp (by simpa using c3)];split
    ·exact wpS_pure ⟨rfl,.inr ⟨_,(hU _ _ _ _ rfl K (by lia) (by lia) (by lia))⟩⟩
    ·exact wpS_pure (gk rfl _ (hU _ _ _ _ rfl K (by lia) (by lia) (by lia)))
   |false=>
    rw[bp (by simp)];refine wpS_bind (jq J ?_)
    have K:=O.takeA D.toTr C B J λz L=>by rw[F]at L;cases L;exact e
    by_cases c3:d+1+1=a.size
    ·rw[bz (by simpa using c3)];exact wpS_pure ⟨rfl,.inl (gF _ _ rfl (el K c3 (by lia)))⟩
    rw[bp (by simpa using c3)];split
    ·exact wpS_pure ⟨rfl,.inr ⟨_,(hU _ _ _ _ rfl K (by lia) (by lia) (by lia))⟩⟩
    ·exact wpS_pure (gk rfl _ (hU _ _ _ _ rfl K (by lia) (by lia) (by lia)))
  case post1=>
   rintro c l ⟨rfl,⟨r,t,rfl,hr⟩|⟨a3,a0,T,a5,a7,rfl,n1,n2,n3,n4⟩⟩
   ·dsimp only;exact wpS_pure (gT ⟨g,rfl⟩ r rfl hr)
   dsimp only;refine wpS_bind (pF ?_)
   refine wpS_bind (wpS_mono (wpS_forRange (I:=λy c l=>(∃g,l=ku st g)/\∃j d f N H G,c=(none,j,d,f,N,H,G)/\A5r lt a b j d f/\d+1<a.size/\f<b.size/\(a.size-d)+(b.size-f)+y<=(a.size-a0)+(b.size-T))
    (Q:=λc l=>(∃g,l=ku st g)/\((∃r t,c=(some r,t)/\Res lt a b r)\/∃j d f N H G,c=(none,j,d,f,N,H,G)/\A5r lt a b j d f/\d+1<a.size/\f<b.size/\(a.size-d)+(b.size-f)<=(a.size-a0)+(b.size-T))) ?step2 ?fin2 (gk ⟨g,rfl⟩ _ ⟨_,(hU _ _ _ _ rfl n1 n2 n3 (by lia))⟩)) ?post2)
   case fin2=>
    rintro c l ⟨⟨g,rfl⟩,j,d,f,Z,H,G,rfl,O,X,R,g3⟩
    lia
   case post2=>
    rintro c l ⟨⟨g',rfl⟩,⟨r,t,rfl,hr⟩|⟨a2,a4,a6,b1,a8,a9,rfl,K,X,R,g3⟩⟩
    ·dsimp only;exact wpS_pure (gT ⟨g',rfl⟩ r rfl hr)
    dsimp only;refine wpS_bind (sr ?_);exact wpS_pure ⟨⟨_,rfl⟩,(hU _ _ _ _ rfl K X R (by lia))⟩
   case step2=>
    rintro y c l _ Y ⟨⟨g',rfl⟩,j,d,f,Z,H,G,rfl,O,X,R,g3⟩;dsimp only;have F:=get R;have J:=get (show d<a.size by lia);by_cases hg:Z>1
    all_goals
     first|rw[bz hg]|rw[bp hg]
     refine wpS_bind (sr ?_);refine wpS_bind (jq F ?_);refine wpS_bind (tS D hk (B.s _ _ F) (C.inn (by lia)) (by lia) ?_);intro k b0 a1 W;dsimp only
     have m3:=O.takesA D.toTr C B k (by lia) λi u v hi hu U=>by rw[F]at U;cases U;exact a1 _ u (by lia) (by lia) hu
     by_cases hk0:k>0
     case' pos=>
      rw[bz hk0];by_cases c4:d+k+1=a.size
      ·rw[bz (by simpa using c4)];exact wpS_pure ⟨⟨_,rfl⟩,.inl (gF _ _ rfl (el m3 c4 (by lia)))⟩
      rw[bp (by simpa using c4)];by_cases c5:d+k=a.size
      ·rw[bz (by simpa using c5)];exact wpS_pure ⟨⟨_,rfl⟩,.inl (gF _ _ rfl (ea m3 c5))⟩
      rw[bp (by simpa using c5)];have m4:=m3;have q:=get (show d+k<a.size by lia);have t4:=W (d+k) _ (by lia) (by lia) q
     case' neg=>rw[bp hk0];have m4:=O;have q:=J;have t4:=W d _ (by lia) (by lia) J
     all_goals
      refine wpS_bind (jq F ?_)
      have m5:=m4.takeB D.toTr C B F λz L=>by rw[q]at L;cases L;exact D.asym _ _ (B.s _ _ F) (C.s _ _ q) t4
      by_cases c6:f+1=b.size
      ·rw[bz (by simpa using c6)];exact wpS_pure ⟨⟨_,rfl⟩,.inl (gF _ _ rfl (eb m5 c6))⟩
      rw[bp (by simpa using c6)];refine wpS_bind (jq q ?_);refine wpS_bind (tQ D hk (C.s _ _ q) (B.inn (by lia)) (by lia) ?_);intro k' q1 q2 q3;dsimp only
      have m6:=m5.takesB D.toTr C B k' (by lia) λi u v hi hu U=>by rw[q]at U;cases U;exact D.asym _ _ (B.s _ _ hu) (C.s _ _ q) (q2 _ u (by lia) (by lia) hu)
      by_cases hk':k'>0
      case' pos=>
       rw[bz hk'];by_cases c7:f+1+k'=b.size
       ·rw[bz (by simpa using c7)];exact wpS_pure ⟨⟨_,rfl⟩,.inl (gF _ _ rfl (eb m6 c7))⟩
       rw[bp (by simpa using c7)];have m7:=m6;have t7:=λz=>q3 (f+1+k') z (by lia) (by lia)
      case' neg=>rw[bp hk'];have m7:=m5;have t7:=λz=>q3 (f+1) z (by lia) (by lia)
      all_goals
       refine wpS_bind (jq q ?_);have m8:=m7.takeA D.toTr C B q t7;split
       ·rename_i c8;exact wpS_pure ⟨⟨_,rfl⟩,.inl (gF _ _ rfl (el m8 (by simpa using c8) (by lia)))⟩
       rename_i c8;have c9:¬_=a.size:=λe=>c8 (by simpa using e);split
       ·exact wpS_pure ⟨⟨_,rfl⟩,.inr (ij _ _ (hU _ _ _ _ rfl m8 (by lia) (by lia) (by lia)))⟩
       ·exact wpS_pure (gk ⟨_,rfl⟩ _ ⟨_,(hU _ _ _ _ rfl m8 (by lia) (by lia) (by lia))⟩)
def fl(lt:Keyed->Keyed->Bool):Keyed->Keyed->Bool:=λx y=>lt y x
theorem Tr.fl(h:Tr lt S):Tr (fl lt) S:=⟨λx y z d e a b c=>h.tr z y x a e d c b⟩
theorem rJ(h:i<a.size):a.reverse[i]?=a[a.size-1-i]? :=by rw[Array.getElem?_reverse h]
theorem oH(h:a.reverse[i]?=some x):i<a.size/\a[a.size-1-i]?=some x:=by have b:=(oZ.mp h).1;rw[Array.size_reverse]at b;rw[rJ b]at h;exact⟨b,h⟩
theorem A1o.rev(h:A1o lt S a):A1o (fl lt) S a.reverse:=⟨λi x b=>h.s _ x (oH b).2,λi j x y c b d=>h.so _ _ y x (by lia) (oH d).2 (oH b).2⟩
def HI(lt:Keyed->Keyed->Bool)(a b c:Array Keyed)(d e:Nat):Prop:=A5r (fl lt) a.reverse b.reverse c (a.size-d) (b.size-e)
theorem HI.symm{c:Array Keyed}(h:HI lt a b c na d):HI lt b a c d na:=A5r.symm h
theorem HI.takeA(f:Tr lt S){d:Array Keyed}(h:HI lt a b d c nb)(i:A1o lt S a)(g:A1o lt S b)(h1:0<c)(h2:c<=a.size)(l:0<nb)(m:nb<=b.size)(k:a[c-1]?=some x)(e:∀y,b[nb-1]?=some y->Le lt y x):HI lt a b (d.push x) (c-1) nb:=by
 have:=A5r.takeA f.fl h i.rev g.rev (x:=x) (by rw[rJ (by lia)];rw[show a.size-1-(a.size-c)=c-1 by lia];exact k) λy j=>by have:=(oH j).2;rw[show b.size-1-(b.size-nb)=nb-1 by lia]at this;exact e y this
 rw[show a.size-c+1=a.size-(c-1)by lia]at this;exact this
theorem HI.takeB(g:Tr lt S){d:Array Keyed}(h:HI lt a b d e c)(l:A1o lt S a)(i:A1o lt S b)(h1:0<c)(h2:c<=b.size)(j:0<e)(k:e<=a.size)(m:b[c-1]?=some x)(f:∀y,a[e-1]?=some y->Le lt y x):HI lt a b (d.push x) e (c-1):=(h.symm.takeA g i l h1 h2 j k m f).symm
theorem xj{k:Nat}(h1:k<=n)(h2:n<=a.size):(a.extract k n).reverse=a.reverse.extract (a.size-n) (a.size-n+(n-k)):=by
 apply Array.ext_getElem?;intro i;by_cases hi:i<n-k
 ·rw[rJ (by rw[Array.size_extract];lia),Array.getElem?_extract,Array.getElem?_extract,Array.size_extract,bz (by lia),bz (by rw[Array.size_reverse];lia),rJ (by lia)];congr 1
  lia
 ·rw[Array.getElem?_eq_none (by rw[Array.size_reverse,Array.size_extract];lia),Array.getElem?_eq_none (by rw[Array.size_extract,Array.size_reverse];lia)]
theorem HI.takesA(j:Tr lt S){e:Array Keyed}{k:Nat}(h:HI lt a b e c nb)(m:A1o lt S a)(l:A1o lt S b)(h1:k<=c)(h2:c<=a.size)(q:0<nb)(r:nb<=b.size)(f:∀i x y,k<=i->i<c->a[i]?=some x->b[nb-1]?=some y->Le lt y x):HI lt a b (e++(a.extract k c).reverse) k nb:=by
 have:=A5r.takesA j.fl h m.rev l.rev (c-k) (by rw[Array.size_reverse];lia) λi x y p o n=>by have d:=(oH n).2;rw[show b.size-1-(b.size-nb)=nb-1 by lia]at d;have g:=(oH o).2;exact f _ x y (by lia) (by lia) g d
 rw[<-xj h1 h2,show a.size-c+(c-k)=a.size-k by lia]at this;exact this
theorem HI.takesB(g:Tr lt S){d:Array Keyed}{k:Nat}(h:HI lt a b d e c)(n:A1o lt S a)(j:A1o lt S b)(h1:k<=c)(h2:c<=b.size)(l:0<e)(m:e<=a.size)(f:∀i x y,k<=i->i<c->b[i]?=some x->a[e-1]?=some y->Le lt y x):HI lt a b (d++(b.extract k c).reverse) e k :=(h.symm.takesA g j n h1 h2 l m f).symm
theorem Res.rev(h:Res (fl lt) a.reverse b.reverse r):Res lt a b r.reverse:=by
 refine⟨?_,?_⟩
 ·rw[Array.toList_reverse];refine(List.reverse_perm _).trans (h.1.trans ?_);rw[Array.toList_reverse,Array.toList_reverse];exact(List.reverse_perm _).append (List.reverse_perm _)
 ·rw[Array.toList_reverse,List.pairwise_reverse];exact h.2
theorem Res.symm(h:Res lt a b r):Res lt b a r:=⟨h.1.trans List.perm_append_comm,h.2⟩
theorem ut(h:n<=a.size):a.reverse.extract (a.size-n) a.reverse.size=(a.extract 0 n).reverse:=by
 rw[xj (jj n) h,Array.size_reverse];congr 1
 lia
theorem HI.endA{c:Array Keyed}(h:HI lt a b c d 0)(e:A1o lt S a)(f:d<=a.size):Res lt a b (a.extract 0 d++c.reverse):=by
 have g:A5r (fl lt) a.reverse b.reverse c (a.size-d) b.reverse.size:=by have:=h;unfold HI at this;rw[Array.size_reverse];exact this
 have:=(g.endA e.rev).rev;rw[ut f,Array.reverse_append,Array.reverse_reverse]at this;exact this
theorem HI.endL(f:Tr lt S){d:Array Keyed}(h:HI lt a b d e 1)(l:A1o lt S a)(i:A1o lt S b)(j:e<=a.size)(k:0<b.size)(g:∀x y,b[0]?=some x->y∈a.toList->Le lt x y):Res lt a b (b.extract 0 1++a.extract 0 e++d.reverse):=by
 have:=((A5r.endL f.fl (A5r.symm h) i.rev l.rev (by rw[Array.size_reverse];lia) (by rw[Array.size_reverse];lia) λx y n m=>by
  have c:=(oH n).2;rw[show b.size-1-(b.size-1)=0 by lia]at c
  exact g x y c (by simpa using m)).rev).symm
 rw[ut j,ut k,Array.reverse_append,Array.reverse_append,Array.reverse_reverse,Array.reverse_reverse]at this;rw[Array.append_assoc];exact this
theorem Go(J:B1w prog w A s κ lt S){Q:Array Keyed->SortSt->Prop}{st:SortSt}(hk:kindOf st=κ)(G:A1o lt S a)(H:A1o lt S b)(na:0<a.size)(nb:0<b.size)
  (h0:∀x y,b[0]?=some x->a[0]?=some y->Le lt x y) (hl:∀x y,a[a.size-1]?=some x->y∈b.toList->Le lt y x) (hq:∀r g,Res lt a b r->Q r (ku st g)):wpS (model prog w) A E s (uI a b) Q st:=by
 rw[Gs];have get:∀{c:Array Keyed}{i:Nat}(h:i<c.size),c[i]?=some c[i]:=λh=>Array.getElem?_eq_getElem h;refine wpS_bind (pF ?_);have xl:=get (show a.size-1<a.size by lia);refine wpS_bind (jq xl ?_);dsimp only
 have m0:HI lt a b #[] a.size b.size:=by unfold HI;rw[Nat.sub_self,Nat.sub_self];exact⟨by simp,by simp,by simp,by simp⟩
 have m1:=m0.takeA J.toTr G H na (fH _) nb (fH _) xl λy hy=>hl _ y xl (by have:=Array.mem_of_getElem? hy;simpa using this);have e0:∀c:Array Keyed,c.extract 0 0=#[]:=λc=>by simp
 have eb:∀{p:Array Keyed}{q B:Nat},HI lt a b p q B->B=0->q<=a.size->Res lt a b (a.extract 0 q++b.extract 0 B++p.reverse):=λ{p q B} m e h=>by subst e;rw[e0,Array.append_empty];exact m.endA G h
 have ea:∀{p:Array Keyed}{q B:Nat},HI lt a b p q B->q=0->B<=b.size->Res lt a b (a.extract 0 q++b.extract 0 B++p.reverse):=λ{p q B} m e h=>by subst e;rw[e0,Array.empty_append];exact(m.symm.endA H h).symm
 have el:∀{p:Array Keyed}{q B:Nat},HI lt a b p q B->B=1->q<=a.size->Res lt a b (b.extract 0 B++a.extract 0 q++p.reverse):=λ{p q B} m e h=>by
  subst e;refine m.endL J.toTr G H h nb λx y hx hy=>?_;have ya:=get na;obtain⟨i,hi⟩:=List.getElem?_of_mem hy;have P:a[i]?=some y:=by simpa using hi
  exact J.tr _ _ _ (H.s _ _ hx) (G.s _ _ ya) (G.s _ _ P) (h0 _ _ hx ya) (G.so _ _ _ _ (jj _) ya P)
 have T:∀r,Res lt a b r->Q r st:=λr h=>hq r (gallopOf st) h;by_cases c1:a.size-1=0
 ·rw[bz (by simpa using c1)];exact wpS_pure (T _ (ea m1 c1 (by lia)))
 rw[bp (by simpa using c1)];by_cases c2:b.size=1
 ·rw[bz (by simpa using c2)];exact wpS_pure (T _ (el m1 c2 (by lia)))
 rw[bp (by simpa using c2)];refine wpS_bind (wpS_get ?_)
 refine wpS_bind (wpS_mono (wpS_forRange (I:=λx c o=>(∃g,o=ku st g)/\∃q B p U,c=(none,q,B,p,U)/\HI lt a b p q B/\0<q/\q<=a.size/\1<B/\B<=b.size/\q+B+x<=a.size+b.size)
  (Q:=λc o=>(∃g,o=ku st g)/\∃r,c.1=some r/\Res lt a b r) ?step ?fin ⟨⟨gallopOf st,rfl⟩,(iG _ _ _ _ rfl m1 (by lia) (by lia) (by lia) ⟨by lia,by lia⟩)⟩) ?post)
 case post=>rintro⟨c1,c2⟩ o ⟨⟨g,rfl⟩,r,e,hr⟩;dsimp only at e;subst e;exact wpS_pure (hq r g hr)
 case fin=>
  rintro c o ⟨⟨g,rfl⟩,q,B,p,U,rfl,m,Y,Z,h2,a4,h3⟩
  lia
 case step=>
  rintro x c o _ hx ⟨⟨g,rfl⟩,q,B,p,U,rfl,m,Y,Z,h2,a4,h3⟩;dsimp only
  refine wpS_bind (wpS_mono (wpS_forRange (I:=λy c o=>o=ku st g/\∃f d l N L,c=(none,f,d,l,N,L)/\HI lt a b l f d/\0<f/\f<=a.size/\1<d/\d<=b.size/\f+d+y=q+B)
   (Q:=λc o=>o=ku st g/\((∃r t,c=(some r,t)/\Res lt a b r)\/∃f d l N L,c=(none,f,d,l,N,L)/\HI lt a b l f d/\0<f/\f<=a.size/\1<d/\d<=b.size/\f+d<q+B)) ?step1 ?fin1 ⟨rfl,(iS _ _ _ _ _ rfl m Y Z h2 a4 (by lia))⟩) ?post1)
  case fin1=>
   rintro c o ⟨rfl,f,d,l,N,L,rfl,X,W,D,g2,C,g3⟩
   lia
  case step1=>
   rintro y c o _ hy ⟨rfl,f,d,l,N,L,rfl,X,W,D,g2,C,g3⟩;dsimp only;have K:=get (show d-1<b.size by lia);have O:=get (show f-1<a.size by lia);refine wpS_bind (jq K ?_);refine wpS_bind (jq O ?_);refine wpS_bind (qd J hk (H.s _ _ K) (G.s _ _ O) ?_);dsimp only
   cases e:lt b[d-1] a[f-1]with
   |true=>
    rw[bz rfl];refine wpS_bind (jq O ?_)
    have R:=X.takeA J.toTr G H W D (by lia) C O λz M=>by rw[K]at M;cases M;exact J.asym _ _ (H.s _ _ K) (G.s _ _ O) e
    by_cases c3:f-1=0
    ·rw[bz (by simpa using c3)];exact wpS_pure ⟨rfl,.inl (gF _ _ rfl (ea R c3 C))⟩
    rw[bp (by simpa using c3)];split
    ·exact wpS_pure ⟨rfl,.inr (iS _ _ _ _ _ rfl R (by lia) (by lia) (by lia) (by lia) (by lia))⟩
    ·exact wpS_pure ⟨rfl,(iS _ _ _ _ _ rfl R (by lia) (by lia) (by lia) (by lia) (by lia))⟩
   |false=>
    rw[bp (by simp)];refine wpS_bind (jq K ?_)
    have R:=X.takeB J.toTr G H (by lia) C W D K λz M=>by rw[O]at M;cases M;exact e
    by_cases c3:d-1=1
    ·rw[bz (by simpa using c3)];exact wpS_pure ⟨rfl,.inl (gF _ _ rfl (el R c3 D))⟩
    rw[bp (by simpa using c3)];split
    ·exact wpS_pure ⟨rfl,.inr (iS _ _ _ _ _ rfl R (by lia) (by lia) (by lia) (by lia) (by lia))⟩
    ·exact wpS_pure ⟨rfl,(iS _ _ _ _ _ rfl R (by lia) (by lia) (by lia) (by lia) (by lia))⟩
  case post1=>
   rintro c o ⟨rfl,⟨r,t,rfl,hr⟩|⟨a3,a1,b0,b2,b4,rfl,n1,n2,a6,n3,a5,n4⟩⟩
   ·dsimp only;exact wpS_pure (gT ⟨g,rfl⟩ r rfl hr)
   dsimp only;refine wpS_bind (pF ?_)
   refine wpS_bind (wpS_mono (wpS_forRange (I:=λy c o=>(∃g,o=ku st g)/\∃f d l U N L,c=(none,f,d,l,U,N,L)/\HI lt a b l f d/\0<f/\f<=a.size/\1<d/\d<=b.size/\f+d+y<=a3+a1)
    (Q:=λc o=>(∃g,o=ku st g)/\((∃r t,c=(some r,t)/\Res lt a b r)\/∃f d l U N L,c=(none,f,d,l,U,N,L)/\HI lt a b l f d/\0<f/\f<=a.size/\1<d/\d<=b.size/\f+d<=a3+a1)) ?step2 ?fin2 (gk ⟨g,rfl⟩ _ (iS _ _ _ _ _ rfl n1 n2 a6 n3 a5 (by lia)))) ?post2)
   case fin2=>
    rintro c o ⟨⟨g,rfl⟩,f,d,l,a2,N,L,rfl,X,W,D,g2,C,g3⟩
    lia
   case post2=>
    rintro c o ⟨⟨g',rfl⟩,⟨r,t,rfl,hr⟩|⟨b1,b3,a9,b7,b5,b6,rfl,R,W,D,g2,C,g3⟩⟩
    ·dsimp only;exact wpS_pure (gT ⟨g',rfl⟩ r rfl hr)
    dsimp only;refine wpS_bind (sr ?_);exact wpS_pure ⟨⟨_,rfl⟩,(iG _ _ _ _ rfl R W D g2 ⟨C,by lia⟩)⟩
   case step2=>
    rintro y c o _ hy ⟨⟨g',rfl⟩,f,d,l,a2,N,L,rfl,X,W,D,g2,C,g3⟩;dsimp only;have K:=get (show d-1<b.size by lia);have O:=get (show f-1<a.size by lia);have sa:∀n,n<=a.size->A1g lt S a 0 n:=λn hn=>⟨by lia,λi u _ _=>G.s i u,λi j u v _ Y _=>G.so i j u v Y⟩;have sb:∀n,n<=b.size->A1g lt S b 0 n:=λn hn=>⟨by lia,λi u _ _=>H.s i u,λi j u v _ Y _=>H.so i j u v Y⟩;by_cases hg:a2>1
    all_goals
     first|rw[bz hg]|rw[bp hg]
     refine wpS_bind (sr ?_);refine wpS_bind (jq K ?_);refine wpS_bind (tS J hk (H.s _ _ K) (sa f D) (by lia) ?_);intro k a8 a0 a7;dsimp only
     have m3:=X.takesA J.toTr G H a8 D (by lia) C λi u v hi P hu hv=>by rw[K]at hv;cases hv;exact J.asym _ _ (H.s _ _ K) (G.s _ _ hu) (a7 _ u (by lia) (by lia) hu)
     by_cases hk0:f-k>0
     case' pos=>
      rw[bz hk0];by_cases c4:k=0
      ·rw[bz (by simpa using c4)];exact wpS_pure ⟨⟨_,rfl⟩,.inl (gF _ _ rfl (ea m3 c4 C))⟩
      rw[bp (by simpa using c4)];have m4:=m3;have F:=get (show k-1<a.size by lia);have t4:=a0 (k-1) _ (by lia) (by lia) F
     case' neg=>rw[bp hk0];have m4:=X;have F:=O;have t4:=a0 (f-1) _ (by lia) (by lia) O
     all_goals
      refine wpS_bind (jq K ?_)
      have m5:=m4.takeB J.toTr G H (by lia) C (by lia) (by lia) K λz M=>by rw[F]at M;cases M;exact t4
      by_cases c6:d-1=1
      ·rw[bz (by simpa using c6)];exact wpS_pure ⟨⟨_,rfl⟩,.inl (gF _ _ rfl (el m5 c6 (by lia)))⟩
      rw[bp (by simpa using c6)];refine wpS_bind (jq F ?_);refine wpS_bind (tQ J hk (G.s _ _ F) (sb (d-1) (by lia)) (by lia) ?_);intro k' q1 q2 q3;dsimp only
      have m6:=m5.takesB J.toTr G H q1 (by lia) (by lia) (by lia) λi u v hi P hu hv=>by rw[F]at hv;cases hv;exact q3 _ u (by lia) (by lia) hu
      by_cases hk':d-1-k'>0
      case' pos=>
       rw[bz hk'];by_cases c7:k'=1
       ·rw[bz (by simpa using c7)];exact wpS_pure ⟨⟨_,rfl⟩,.inl (gF _ _ rfl (el m6 c7 (by lia)))⟩
       rw[bp (by simpa using c7)];by_cases c8:k'=0
       ·rw[bz (by simpa using c8)];exact wpS_pure ⟨⟨_,rfl⟩,.inl (gF _ _ rfl (eb m6 c8 (by lia)))⟩
       rw[bp (by simpa using c8)];have m7:=m6;have t7:=λz=>q2 (k'-1) z (by lia) (by lia)
      case' neg=>rw[bp hk'];have m7:=m5;have t7:=λz=>q2 (d-1-1) z (by lia) (by lia)
      all_goals
       refine wpS_bind (jq F ?_);have m8:=m7.takeA J.toTr G H (by lia) (by lia) (by lia) (by lia) F λz M=>J.asym _ _ (H.s _ _ M) (G.s _ _ F) (t7 z M);split
       ·rename_i c8;exact wpS_pure ⟨⟨_,rfl⟩,.inl (gF _ _ rfl (ea m8 (by simpa using c8) (by lia)))⟩
       rename_i c8;have c9:¬_=0:=λe=>c8 (by simpa using e);split
       ·exact wpS_pure ⟨⟨_,rfl⟩,.inr ⟨_,(iS _ _ _ _ _ rfl m8 (by lia) (by lia) (by lia) (by lia) (by lia))⟩⟩
       ·exact wpS_pure (gk ⟨_,rfl⟩ _ (iS _ _ _ _ _ rfl m8 (by lia) (by lia) (by lia) (by lia) (by lia)))
structure Bs(S:Keyed->Prop)(a1:Array Keyed)(lo:Nat)(xs:Array Keyed):Prop where
 pm:xs.Perm a1
 low:∀i,i<lo->xs[i]?=a1[i]?
 mem:∀(i:Nat)(x:Keyed),xs[i]?=some x->S x
theorem Bs.size(h:Bs S a1 lo xs):xs.size=a1.size:=h.pm.size_eq
theorem Bs.get{a1 xs:Array Keyed}{lo:Nat}(h:Bs S a1 lo xs){i:Nat}(hi:i<a1.size):∃x,xs[i]?=some x/\S x:=by
 have:i<xs.size:=by rw[h.size];exact hi
 exact bd (xs[i]) (Array.getElem?_eq_getElem this) (h.mem i _ (Array.getElem?_eq_getElem this))
theorem xI(h:ys.Perm xs)(c:∀(i:Nat)(x:Keyed),xs[i]?=some x->S x):∀(i:Nat)(x:Keyed),ys[i]?=some x->S x:=λi x e=>by have d:x∈ys:=Array.mem_of_getElem? e;have b:x∈xs:=h.mem_iff.mp d;obtain⟨j,a⟩:=Array.getElem?_of_mem b;exact c j x a
theorem Bs.put(h:Bs S a1 lo xs)(a:ys.Perm xs)(c:∀i,i<lo->ys[i]?=xs[i]?):Bs S a1 lo ys:=⟨a.trans h.pm,λi b=>(c i b).trans (h.low i b),xI a h.mem⟩
theorem Bs.mirror(h:Bs S a1 lo xs)(hi:lo<=i)(a:j<=a1.size):Bs S a1 lo (mirror xs i j ((j-i)/2)):=h.put (mirror_perm _ _ _ _) λk b=>by rw[getElem?_mirror_all (by rw[h.size];exact a),bp (by lia)]
theorem pG(a:B1w prog w A s κ lt S){Q:Option Bool->SortSt->Prop}{st:SortSt}(f:kindOf st=κ)(hi:(arrOf st)[i]?=some x)(b:(arrOf st)[j]?=some y)(e:S x)(d:S y)(c:Q (some (lt x y)) st):wpS (model prog w) A E s (ltAt' i j) Q st:=by rw[ltAt'_eq];refine wpS_bind (wpS_get ?_);refine wpS_bind (jq hi ?_);exact wpS_bind (jq b (qd a f e d c))
def C2q(lt:Keyed->Keyed->Bool)(xs:Array Keyed)(lo n:Nat):Prop:=∀(i j:Nat)(x y:Keyed),lo<=i->i<=j->j<lo+n->xs[i]?=some x->xs[j]?=some y->Le lt y x
def Eqb(lt:Keyed->Keyed->Bool)(xs:Array Keyed)(p q:Nat):Prop:=∀(i j:Nat)(x y:Keyed),p<=i->i<q->p<=j->j<q->xs[i]?=some x->xs[j]?=some y->Le lt x y
theorem C2q.mirror(h:C2q lt xs lo n)(g:Eqb lt xs p q)(h1:lo<=p)(h2:q<=lo+n)(f:q<=xs.size):C2q lt (mirror xs p q ((q-p)/2)) lo n:=λi j x y c e d b a=>by
 rw[getElem?_mirror_all f]at b a;by_cases c1:p<=i/\i<q
 ·rw[bz c1]at b;by_cases c2:p<=j/\j<q
  ·rw[bz c2]at a;exact g _ _ _ _ (by lia) (by lia) (by lia) (by lia) a b
  ·rw[bp c2]at a;exact h _ _ _ _ (by lia) (by lia) d b a
 ·rw[bp c1]at b;by_cases c2:p<=j/\j<q
  ·rw[bz c2]at a;exact h _ _ _ _ c (by lia) (by lia) b a
  ·rw[bp c2]at a;exact h _ _ _ _ c e d b a
theorem C2q.turn(b:Bs S a1 lo xs)(h:C2q lt xs lo n)(c:lo+n<=a1.size):A1g lt S (PyProof.Rows.mirror xs lo (lo+n) ((lo+n-lo)/2)) lo n:=by
 have d:=b.mirror (fH lo) c;have a:lo+n<=xs.size:=by rw[b.size];exact c
 refine⟨by rw[d.size];exact c,λi x _ _=>d.mem i x,λi j x y l g k f e=>?_⟩;rw[getElem?_mirror_all a,bz (by lia)]at f e;exact h _ _ _ _ (by lia) (by lia) (by lia) e f
theorem A1g.snoc(m:B1w prog w A s κ lt S)(h:A1g lt S xs lo n)(h1:1<=n)(q:lo+n<xs.size)(p:xs[lo+n-1]?=some y)(l:xs[lo+n]?=some x)(k:S x)(d:Le lt y x):A1g lt S xs lo (n+1):=by
 have f:∀u,S u->Le lt u u:=λu a=>by
  cases e:lt u u with
  |false=>exact e
  |true=>have:=m.asym u u a a e;rw[e]at this;cases this
 refine⟨by lia,λi u b o a=>?_,λi j u v b o r a g=>?_⟩
 ·by_cases c:i=lo+n
  ·subst c;rw[l]at a;cases a;exact k
  ·exact h.s i u b (by lia) a
 ·by_cases c:j=lo+n
  ·subst c;rw[l]at g;cases g;by_cases c2:i=lo+n
   ·subst c2;rw[l]at a;cases a;exact f x k
   ·exact m.tr u y x (h.s i u b (by lia) a) (h.s _ y (by lia) (by lia) p) k (h.so i _ u y b (by lia) (by lia) a p) d
  ·exact h.so i j u v b o (by lia) a g
theorem B1w.irr(b:B1w prog w A s κ lt S)(a:S u):Le lt u u:=by
 cases e:lt u u with
 |false=>exact e
 |true=>have:=b.asym u u a a e;rw[e]at this;cases this
theorem Eqb.one(b:B1w prog w A s κ lt S)(d:∀(i:Nat)(x:Keyed),xs[i]?=some x->S x)(h:q<=p+1):Eqb lt xs p q:=λi j u v l g k m a e=>by
 have f:i=j:=by lia
 rw[f]at a;have c:u=v:=iO (a.symm.trans e);rw[<-c];exact b.irr (d _ _ a)
theorem A1g.one(c:B1w prog w A s κ lt S)(f:lo<xs.size)(b:∀(i:Nat)(x:Keyed),xs[i]?=some x->S x):A1g lt S xs lo 1 :=⟨by lia,λi u _ _ a=>b i u a,λi j u v e g h a d=>Eqb.one c b (fH (lo+1)) i j u v e (by lia) (by lia) (by lia) a d⟩
theorem C2q.snoc(f:B1w prog w A s κ lt S)(h:C2q lt xs lo n)(b:∀(i:Nat)(x:Keyed),xs[i]?=some x->S x)(h1:1<=n)(g:xs[lo+n-1]?=some y)(c:xs[lo+n]?=some x)(d:Le lt x y):C2q lt xs lo (n+1):=λi j u v k m p a e=>by
 by_cases cj:j=lo+n
 ·rw[cj]at e;have l:x=v:=iO (c.symm.trans e);rw[<-l];by_cases ci:i=lo+n
  ·rw[ci]at a;have o:x=u:=iO (c.symm.trans a);rw[<-o];exact f.irr (b _ _ c)
  ·exact f.tr x y u (b _ _ c) (b _ _ g) (b _ _ a) d (h i _ u y k (by lia) (by lia) a g)
 ·exact h i j u v k m (by lia) a e
theorem Hc(k:B1w prog w A s κ lt S){a:Nat}{st:SortSt}{Q:Option Nat->SortSt->Prop}(hk:kindOf st=κ)(b:Bs S a1 lo (arrOf st))(hn:lo+a<=a1.size)(h1:1<=a)
  (U:∀n xs,1<=n->n<=a->Bs S a1 lo xs->A1g lt S xs lo n->Q (some n) (setArr st xs)):wpS (model prog w) A E s (countRun' lo a) Q st:=by
 rw[countRun'_eq];obtain⟨x0,W,Z⟩:=b.get (show lo<a1.size by lia)
 refine wpS_bind (wpS_mono (wpS_forRange (I:=λx c f=>f=st/\c=(none,x)/\A1g lt S (arrOf st) lo x)
  (Q:=λc f=>f=st/\∃n,c=(none,n)/\1<=n/\n<=a/\A1g lt S (arrOf st) lo n/\(n<a->∀x y,(arrOf st)[lo+n]?=some x->(arrOf st)[lo+n-1]?=some y->lt x y=true)) ?step ?fin (fL rfl rfl (A1g.one k (by rw[b.size];lia) b.mem))) ?post)
 case fin=>rintro c f ⟨rfl,rfl,D⟩;rw[show max 1 a=a by lia]at D⊢;exact gk rfl _ (iV rfl h1 (fH _) D λh=>by lia)
 case step=>
  rintro n c f R g2 ⟨rfl,rfl,D⟩;dsimp only;obtain⟨x,P,sx⟩:=b.get (show lo+n<a1.size by lia);obtain⟨y,H,T⟩:=b.get (show lo+n-1<a1.size by lia);refine wpS_bind (pG k hk P H sx T ?_);dsimp only
  cases e:lt x y with
  |true=>rw[bz rfl];exact wpS_pure (gk rfl n (iV rfl R (by lia) D λ_ p q hp U=>by rw[P]at hp;rw[H]at U;cases hp;cases U;exact e))
  |false=>rw[bp (by simp)];exact wpS_pure (fL rfl rfl (D.snoc k R (by rw[b.size];lia) H P sx e))
 case post=>
  rintro c f ⟨rfl,n,rfl,R,g2,D,hs⟩;dsimp only;by_cases c1:n=a
  ·rw[bz (by simpa using c1)];exact wpS_pure (U n (arrOf f) R g2 b D)
  rw[bp (by simpa using c1)];have hs:=hs (by lia);obtain⟨x,P,sx⟩:=b.get (show lo+n<a1.size by lia);obtain⟨y,H,T⟩:=b.get (show lo+n-1<a1.size by lia);have a0:=hs x y P H;have a2:lo+n<=(arrOf f).size:=by rw[b.size];lia
  by_cases c2:n>1
  case' pos=>
   rw[bz c2];refine wpS_bind (pG k hk W H Z T ?_);dsimp only;by_cases e:lt x0 y=true
   ·rw[bz e];exact wpS_pure (U n (arrOf f) R g2 b D)
   rw[bp e];rw[Bool.not_eq_true]at e;rw[reverseSlice'_eq];refine wpS_bind (wpS_modify ?_)
   have M:Eqb lt (arrOf f) lo (lo+n):=λi j u v g B F C z l=>by have G:=b.mem _ _ z;have J:=b.mem _ _ l;exact k.tr u y v G T J (D.so i _ u y g (by lia) (by lia) z H) (k.tr y x0 v T Z J e (D.so lo j x0 v (fH _) F C W l))
   have Y:=b.mirror (fH lo) (show lo+n<=a1.size by lia);have d1:C2q lt (arrOf f) lo n:=λi j u v g B F z l=>M _ _ _ _ (by lia) (by lia) g (by lia) l z;have d2:=C2q.mirror (d1.snoc k b.mem R H P (k.asym _ _ sx T a0)) M (fH _) (show lo+n<=lo+(n+1)by lia) a2;generalize mirror (arrOf f) lo (lo+n) ((lo+n-lo)/2)=xs2 at Y d2⊢
  case' neg=>rw[bp c2];have Y:=b;have d1:C2q lt (arrOf f) lo n:=λi j u v g B F z l=>Eqb.one k b.mem (fH (lo+1)) j i v u (by lia) (by lia) g (by lia) l z;have d2:=d1.snoc k b.mem R H P (k.asym _ _ sx T a0);change wpS _ _ _ _ _ _ (setArr f (arrOf f));generalize arrOf f=xs2 at Y d2⊢
  all_goals
   refine wpS_bind (pF ?_)
   refine wpS_bind (wpS_mono (wpS_forRange (I:=λm c t=>∃xs d,t=setArr f xs/\c=(none,m,d)/\Bs S a1 lo xs/\C2q lt xs lo m/\d<m/\Eqb lt xs (lo+m-(d+1)) (lo+m))
    (Q:=λc t=>∃xs m d,t=setArr f xs/\c=(none,m,d)/\1<=m/\m<=a/\Bs S a1 lo xs/\C2q lt xs lo m/\d<m/\Eqb lt xs (lo+m-(d+1)) (lo+m)) ?step2 ?fin2 (jz xs2 0 rfl rfl Y d2 (by lia) (Eqb.one k Y.mem (by lia)))) ?post2)
   case fin2=>rintro c t L;refine fV L ?_;clear L;rintro xs d rfl rfl g ⟨B,F,C⟩;rw[show max (n+1) a=a by lia]at B F C⊢;exact iM xs a d rfl rfl (jh h1 (fH _) g B F C)
   case step2=>
    rintro m c t p1 p2 L;refine fV L ?_;clear L;rintro xs d rfl rfl g ⟨B,F,C⟩;dsimp only;obtain⟨u,z,G⟩:=g.get (show lo+m<a1.size by lia);obtain⟨v,l,J⟩:=g.get (show lo+m-1<a1.size by lia);refine wpS_bind (pG k hk z l G J ?_);dsimp only;by_cases e:lt u v=true
    ·rw[bz e];have O:=B.snoc k g.mem (by lia) l z (k.asym _ _ G J e);by_cases c3:d>0
     ·rw[bz c3,reverseSlice'_eq];refine wpS_bind (wpS_modify (wpS_pure ?_));have N:=g.mirror (show lo<=lo+m-(d+1)by lia) (show lo+m<=a1.size by lia);exact jz _ 0 rfl rfl N (O.mirror C (by lia) (by lia) (by rw[g.size];lia)) (by lia) (Eqb.one k N.mem (by lia))
     ·rw[bp c3];exact wpS_pure (jz xs 0 rfl rfl g O (by lia) (Eqb.one k g.mem (by lia)))
    rw[bp e];rw[Bool.not_eq_true]at e;refine wpS_bind (pG k hk l z J G ?_);dsimp only;by_cases e2:lt v u=true
    ·rw[bz e2];exact wpS_pure (iM xs m d rfl rfl (jh (by lia) (by lia) g B F C))
    rw[bp e2];rw[Bool.not_eq_true]at e2;refine wpS_pure (jz xs (d+1) rfl rfl g (B.snoc k g.mem (by lia) l z e2) (by lia) λi j x' y' X r2 r3 r4 o a3=>?_)
    have K:∀i x',lo+(m+1)-(d+1+1)<=i->i<lo+(m+1)->xs[i]?=some x'->S x'/\Le lt x' v/\Le lt v x':=λi x' X r2 o=>by
     by_cases ci:i=lo+m
     ·rw[ci]at o;have ex:u=x':=iO (z.symm.trans o);rw[<-ex];exact fL G e2 e
     ·exact fL (g.mem _ _ o) (C _ _ _ _ (by lia) (by lia) (by lia) (by lia) o l) (C _ _ _ _ (by lia) (by lia) (by lia) (by lia) l o)
    obtain⟨s1,s2,s3⟩:=K i x' X r2 o;obtain⟨t1,t2,t3⟩:=K j y' r3 r4 a3;exact k.tr x' v y' s1 J t1 s2 t3
   case post2=>
    rintro c t L;refine gn L ?_;clear L;rintro xs m d rfl rfl p1 ⟨p2,g,B,F,C⟩;dsimp only;by_cases c3:d>0
    case' pos=>rw[bz c3,reverseSlice'_eq];refine wpS_bind (wpS_modify ?_);have N:=g.mirror (show lo<=lo+m-(d+1)by lia) (show lo+m<=a1.size by lia);have O:=B.mirror C (show lo<=lo+m-(d+1)by lia) (by lia) (by rw[g.size];lia);change wpS _ _ _ _ _ _ (setArr f (mirror xs (lo+m-(d+1)) (lo+m) ((lo+m-(lo+m-(d+1)))/2)));generalize mirror xs (lo+m-(d+1)) (lo+m) ((lo+m-(lo+m-(d+1)))/2)=xs3 at N O⊢
    case' neg=>rw[bp c3];have N:=g;have O:=B;generalize xs=xs3 at N O⊢
    all_goals
     rw[reverseSlice'_eq];refine wpS_bind (wpS_modify ?_);have b4:=N.mirror (fH lo) (show lo+m<=a1.size by lia);have s4:=O.turn N (by lia);change wpS _ _ _ _ _ _ (setArr f (mirror xs3 lo (lo+m) ((lo+m-lo)/2)));generalize mirror xs3 lo (lo+m) ((lo+m-lo)/2)=xs4 at b4 s4⊢
     refine wpS_bind (wpS_mono (wpS_forRange (I:=λx c t=>t=setArr f xs4/\c=(none,x)/\A1g lt S xs4 lo x)
      (Q:=λc t=>t=setArr f xs4/\∃m,c=(none,m)/\1<=m/\m<=a/\A1g lt S xs4 lo m) ?step3 ?fin3 (fL rfl rfl s4)) ?post3)
     case fin3=>rintro c t ⟨rfl,rfl,r⟩;rw[show max m a=a by lia]at r⊢;exact⟨rfl,(iU _ rfl h1 (fH _) r)⟩
     case step3=>
      rintro x c t X r2 ⟨rfl,rfl,r⟩;dsimp only;obtain⟨u,z,G⟩:=b4.get (show lo+x<a1.size by lia);obtain⟨v,l,J⟩:=b4.get (show lo+x-1<a1.size by lia);refine wpS_bind (pG k hk z l G J ?_);dsimp only;by_cases e:lt u v=true
      ·rw[bz e];exact wpS_pure ⟨rfl,(iU x rfl (by lia) (by lia) r)⟩
      ·rw[bp e];rw[Bool.not_eq_true]at e;exact wpS_pure (fL rfl rfl (r.snoc k (by lia) (by rw[b4.size];lia) l z G e))
     case post3=>rintro c t ⟨rfl,x,rfl,X,r2,r⟩;exact wpS_pure (U x xs4 X r2 b4 r)
theorem HY(F:B1w prog w A s κ lt S){h:Array Keyed}{st:SortSt}{Q:Bool->SortSt->Prop}(P:kindOf st=κ)(b:Bs S a1 lo h)(U:lo+n<=a1.size)(h1:1<=o)(h2:o<=n)(M:A1g lt S h lo o)
  (R:∀xs,Bs S a1 lo xs->A1g lt S xs lo n->Q true (setArr st xs)):wpS (model prog w) A E s (binarySort' lo n o) Q (setArr st h):=by
 rw[binarySort'_eq]
 refine wpS_bind (wpS_mono (wpS_forRange (I:=λk c t=>c=(none,())/\∃xs,t=setArr st xs/\Bs S a1 lo xs/\A1g lt S xs lo k)
  (Q:=λc t=>c=(none,())/\∃xs,t=setArr st xs/\Bs S a1 lo xs/\A1g lt S xs lo n) ?step ?fin (kY rfl h rfl b (by rw[show max o 1=o by lia];exact M))) ?post)
 case post=>rintro c t ⟨rfl,xs,rfl,f,g⟩;exact wpS_pure (R xs f g)
 case fin=>rintro c t ⟨rfl,xs,rfl,f,g⟩;rw[show max (max o 1) n=n by lia]at g;exact kY rfl xs rfl f g
 case step=>
  rintro k c t W p2 ⟨rfl,xs,rfl,f,g⟩;obtain⟨x,G,D⟩:=f.get (show lo+k<a1.size by lia);have Y:1<=k:=by lia
  refine wpS_bind (wpS_mono (wpS_forRange (I:=λz c t=>t=setArr st xs/\∃l r,c=(none,l,r)/\l<=r/\r<=k/\r-l<=k-z/\(∀i u,lo<=i->i<lo+l->xs[i]?=some u->Le lt u x)/\∀i u,lo+r<=i->i<lo+k->xs[i]?=some u->Le lt x u)
   (Q:=λc t=>t=setArr st xs/\∃l r,c=(none,l,r)/\l<=k/\(∀i u,lo<=i->i<lo+l->xs[i]?=some u->Le lt u x)/\∀i u,lo+l<=i->i<lo+k->xs[i]?=some u->Le lt x u) ?istep ?ifin ⟨rfl,(jz 0 k rfl (by lia) (by lia) (by lia) (λi u K C=>by lia) λi u K C=>by lia)⟩) ?ipost)
  case ifin=>
   rintro c t m;refine iX m ?_;clear m;rintro rfl l r rfl ⟨K,C,O,B,q⟩;have:l=r:=by lia
   subst this;exact⟨rfl,(ga l l rfl C B q)⟩
  case istep=>
   rintro z c t _ X m;refine iX m ?_;clear m;rintro rfl l r rfl ⟨K,C,O,B,q⟩;dsimp only;by_cases hge:l≥r
   ·rw[bz hge];have:l=r:=by lia
    subst this;exact wpS_pure ⟨rfl,(ga l l rfl C B q)⟩
   rw[bp hge];obtain⟨y,L,H⟩:=f.get (show lo+(l+r)/2<a1.size by lia);refine wpS_bind (pG F P G L D H ?_);dsimp only;by_cases e:lt x y=true
   ·rw[bz e];refine wpS_pure ⟨rfl,(jz l _ rfl (by lia) (by lia) (by lia) B λi u p J a=>?_)⟩;exact F.tr x y u D H (f.mem _ _ a) (F.asym _ _ D H e) (g.so _ i y u (by lia) p J L a)
   ·rw[bp e];rw[Bool.not_eq_true]at e;refine wpS_pure ⟨rfl,(jz _ r rfl (by lia) (by lia) (by lia) (λi u p J a=>?_) q)⟩;exact F.tr u y x (f.mem _ _ a) H D (g.so i _ u y p (by lia) (by lia) a L) e
  case ipost=>
   rintro c t m;refine iX m ?_;clear m;rintro rfl l r rfl ⟨C,B,q⟩;dsimp only;rw[moveDown'_eq];refine wpS_bind (wpS_modify (wpS_pure (kY rfl _ rfl ?_ ?_)))
   ·refine f.put (bubble_perm _ _ _) λi Z=>?_;show(bubble xs (lo+k) (lo+k-(lo+l)))[i]?=_;rw[getElem?_bubble (by rw[f.size];lia) _ (by lia),bp (by lia),bp (by lia)]
   ·have N:lo+k<xs.size:=by rw[f.size];lia
    have T:∀i,(bubble xs (lo+k) (lo+k-(lo+l)))[i]?=if i=lo+l then xs[lo+k]? else if lo+l<i/\i<=lo+k then xs[i-1]? else xs[i]? :=λi=>by rw[getElem?_bubble N _ (by lia),show lo+k-(lo+k-(lo+l))=lo+l by lia]
    refine⟨?_,λi u _ _ a=>xI (bubble_perm xs _ _) f.mem i u a,λi j u v p J r3 a d=>?_⟩
    ·show lo+(k+1)<=(bubble xs (lo+k) (lo+k-(lo+l))).size;rw[bubble_size];lia
    ·have a:(bubble xs (lo+k) (lo+k-(lo+l)))[i]?=some u:=a;have d:(bubble xs (lo+k) (lo+k-(lo+l)))[j]?=some v:=d;rw[T]at a d;by_cases ci:i=lo+l
     ·rw[bz ci,G]at a;cases a;by_cases cj:j=lo+l
      ·rw[bz cj,G]at d;cases d;exact F.irr D
      ·rw[bp cj,bz (by lia)]at d;exact q _ v (by lia) (by lia) d
     ·rw[bp ci]at a;by_cases cj:j=lo+l
      ·rw[bz cj,G]at d;cases d;rw[bp (by lia)]at a;exact B _ u p (by lia) a
      ·rw[bp cj]at d;by_cases di:lo+l<i/\i<=lo+k
       ·rw[bz di]at a;rw[bz (by lia)]at d;exact g.so _ _ u v (by lia) (by lia) (by lia) a d
       ·rw[bp di]at a;by_cases dj:lo+l<j/\j<=lo+k
        ·rw[bz dj]at d;exact g.so _ _ u v p (by lia) (by lia) a d
        ·rw[bp dj]at d;exact g.so _ _ u v p J (by lia) a d
theorem seg{V:List Keyed}(h:arr.toList=U++X++V)(hi:i<X.length):arr[U.length+i]?=X[i]? :=by rw[<-Array.getElem?_toList,h,iE,mH (by lia),show U.length+i-U.length=i by lia,mG hi]
theorem uT(q:B1w prog w A s κ lt S){V:List Keyed}(h:arr.toList=U++X++V)(m:X.Pairwise (Le lt))(l:∀x∈X,S x):A1g lt S arr U.length X.length:=by
 have v:arr.size=U.length+X.length+V.length:=by rw[<-Array.length_toList,h];simp only [gc]
 have g:∀i x,U.length<=i->i<U.length+X.length->arr[i]?=some x->X[i-U.length]?=some x:=λi x d f a=>by rw[<-seg h (by lia),show U.length+(i-U.length)=i by lia];exact a
 refine⟨by lia,λi x d f a=>l x (gq (g i x d f a)),λi j x y d f n a t=>?_⟩;have b:=g i x d (by lia) a;have k:=g j y (by lia) n t;by_cases c:i=j
 ·rw[c]at b;have e:x=y:=iO (b.symm.trans k);rw[<-e];exact q.irr (l x (gq b))
 ·rw[List.pairwise_iff_getElem]at m;obtain⟨u,r⟩:=fY.mp b;obtain⟨o,p⟩:=fY.mp k;rw[<-r,<-p];exact m _ _ u o (by lia)
theorem DE{V:List Keyed}(m:List Keyed):∀(W U:List Keyed)(n:Nat)(arr:Array Keyed),arr.toList=U++W++V->W.length=m.length->U.length=sa+n->((m.zipIdx n).foldl (λa (p,j)=>a.setIfInBounds (sa+j) p) arr).toList=U++m++V:=by
 induction m with
 |nil=>intro W U n arr h b _;rw[List.eq_nil_of_length_eq_zero b]at h;exact h
 |cons p m ih=>
  intro W U n arr h b c
  cases W with
  |nil=>cases b
  |cons q W=>rw[List.zipIdx_cons,List.foldl_cons];have:=ih W (U++[p]) (n+1) (arr.setIfInBounds (sa+n) p) (by rw[Array.toList_setIfInBounds,h,<-c];simp) (by simpa using b) (by simp;lia);rw[iE]at this⊢;rw[iE]at this;exact this
theorem Cf{a:SortSt}{Q:PUnit->SortSt->Prop}{st:SortSt}(h:Q ⟨⟩ a):wpS (model prog w) A E s (set a:SM PUnit) Q st:=by unfold wpS;rw[StateT.run_set];exact ck ⟨rfl,h⟩
theorem wX{V:List Keyed}(h:arr.toList=U++X++V):(arr.extract U.length (U.length+X.length)).toList=X:=by rw[Array.toList_extract,List.extract_eq_drop_take,h,iE,List.drop_left,show U.length+X.length-U.length=X.length by lia,List.take_left]
theorem wy(e:B1w prog w A s κ lt S)(f:a.toList.Pairwise (Le lt))(c:∀x∈a.toList,S x):A1o lt S a:=by
 have:=uT e (arr:=a) (U:=[]) (X:=a.toList) (V:=[]) (by simp) f c;refine⟨λi x b=>c x (by have:=Array.mem_of_getElem? b;simpa using this),λi j x y g b d=>this.so i j x y (jj _) g ?_ b d⟩;have:=(oZ.mp d).1
 simpa using this
theorem GA(f:B1w prog w A s κ lt S){V:List Keyed}{Q:Bool->SortSt->Prop}(h:arr.toList=U++X++Y++V)(hm:∀x∈arr.toList,S x)(sX:X.Pairwise (Le lt))(sY:Y.Pairwise (Le lt))(nX:X≠[])(nY:Y≠[])
  (p1:P[i]?=some (U.length,X.length,pw)) (p2:P[i+1]?=some (U.length+X.length,Y.length,pw'))
  (hq:∀(xs:Array Keyed)(Zz:List Keyed) g',xs.toList=U++Zz++V->Zz.Perm (X++Y)->Zz.Pairwise (Le lt)->Q true (SortSt.mk' κ xs ((P.setIfInBounds i (U.length,X.length+Y.length,pw)).eraseIdxIfInBounds (i+1)) g' none)):
  wpS (model prog w) A E s (mergeAt' i) Q (SortSt.mk' κ arr P g none):=by
 rw[Gx];refine wpS_bind (wpS_get ?_);dsimp only;rw[p1,p2];dsimp only;refine wpS_bind (Cf ?_);have hX:0<X.length:=List.length_pos_iff.mpr nX;have hY:0<Y.length:=List.length_pos_iff.mpr nY;have D:arr.toList=U++X++(Y++V):=by rw[h];simp
 have C:arr.toList=(U++X)++Y++V:=by rw[h]
 have o:∀x∈X,S x:=λx b=>hm x (by rw[h];simp[b]);have u:∀x∈Y,S x:=λx b=>hm x (by rw[h];simp[b]);have W:=uT f D sX o;have I:=uT f C sY u;rw[gc]at I
 have O:∀i x,X[i]?=some x->arr[U.length+i]?=some x:=λi x b=>by rw[seg D (fY.mp b).1];exact b
 have M:∀i x,Y[i]?=some x->arr[U.length+X.length+i]?=some x:=λi x b=>by have:=seg C (fY.mp b).1;rw[gc]at this;rw[this];exact b
 have ix:∀x∈X,∃i,i<X.length/\X[i]?=some x:=λx b=>by obtain⟨i,d⟩:=List.getElem?_of_mem b;exact bd i ((fY.mp d).1) d
 have iy:∀x∈Y,∃i,i<Y.length/\Y[i]?=some x:=λx b=>by obtain⟨i,d⟩:=List.getElem?_of_mem b;exact bd i ((fY.mp d).1) d
 obtain⟨y0,hy0⟩:∃y,Y[0]?=some y:=⟨_,gU hY⟩;obtain⟨xl,hxl⟩:∃x,X[X.length-1]?=some x:=⟨_,gU (by lia)⟩;have l:=u y0 (gq hy0);have t:=o xl (gq hxl);have G:=M 0 y0 hy0;rw[Nat.add_zero]at G;have N:=O _ xl hxl;have B:(∀x∈X,∀y∈Y,Le lt x y)->(X++Y).Pairwise (Le lt):=λh=>List.pairwise_append.mpr (fL sX sY h)
 have m:∀y∈Y,Le lt y0 y:=λy c=>by obtain⟨i,d,e⟩:=iy y c;exact I.so (U.length+X.length) _ y0 y (fH _) (Nat.le_add_right _ i) (by lia) G (M i y e)
 have v:∀x∈X,Le lt x xl:=λx b=>by obtain⟨i,d,e⟩:=ix x b;exact W.so (U.length+i) _ x xl (by lia) (by lia) (by lia) (O i x e) N
 refine wpS_bind (jq G ?_);refine wpS_bind (tS f rfl l W hX ?_);intro k k1 k2 k3;dsimp only;by_cases c1:X.length-k=0
 ·rw[bz (by simpa using c1)];refine wpS_pure (hq arr (X++Y) g (by rw[h];simp) (List.Perm.refl _) (B λx b y c=>?_));obtain⟨i,d,e⟩:=ix x b;exact f.tr x y0 y (o x b) l (u y c) (k2 _ x (by lia) (by lia) (O i x e)) (m y c)
 rw[bp (by simpa using c1)];have el:U.length+k+(X.length-k)-1=U.length+(X.length-1):=by lia
 rw[el];refine wpS_bind (jq N ?_);refine wpS_bind (tQ f rfl t I (show Y.length-1<Y.length by lia) ?_);intro n n1 n2 n3;dsimp only;by_cases c2:n=0
 ·rw[bz (by simpa using c2)];refine wpS_pure (hq arr (X++Y) g (by rw[h];simp) (List.Perm.refl _) (B λx b y c=>?_));obtain⟨i,d,e⟩:=iy y c;exact f.tr x xl y (o x b) t (u y c) (v x b) (n3 _ y (by lia) (by lia) (M i y e))
 rw[bp (by simpa using c2)];have eX:X=X.take k++X.drop k:=(np k X).symm;have eY:Y=Y.take n++Y.drop n:=(np n Y).symm;have tk:(X.take k).length=k:=by rw[jd];lia
 have dk:(X.drop k).length=X.length-k:=ot;have tn:(Y.take n).length=n:=by rw[jd];lia
 have K:(arr.extract (U.length+k) (U.length+X.length)).toList=X.drop k:=by
  have:=wX (arr:=arr) (U:=U++X.take k) (X:=X.drop k) (V:=Y++V) (by
   rw[D]
   conv=>lhs;rw[eX]
   simp only [iE])
  rw[gc,tk,dk,show U.length+k+(X.length-k)=U.length+X.length by lia]at this;exact this
 have H:(arr.extract (U.length+X.length) (U.length+X.length+n)).toList=Y.take n:=by
  have:=wX (arr:=arr) (U:=U++X) (X:=Y.take n) (V:=Y.drop n++V) (by
   rw[C]
   conv=>lhs;rw[eY]
   simp only [iE])
  rw[gc,tn]at this;exact this
 generalize arr.extract (U.length+k) (U.length+X.length)=ax at K⊢;generalize arr.extract (U.length+X.length) (U.length+X.length+n)=ay at H⊢;have Z:A1o lt S ax:=wy f (by rw[K];exact sX.sublist (List.drop_sublist _ _)) λx b=>o x (List.mem_of_mem_drop (by rw[K]at b;exact b));have a0:A1o lt S ay:=wy f (by rw[H];exact sY.sublist (sT _ _)) λx b=>u x (mT (by rw[H]at b;exact b));have zx:ax.size=X.length-k:=by rw[<-Array.length_toList,K,dk]
 have zy:ay.size=n:=by rw[<-Array.length_toList,H,tn]
 have R:∀i,ax[i]?=X[k+i]? :=λi=>by rw[<-Array.getElem?_toList,K,List.getElem?_drop]
 have b0:∀x y,ay[0]?=some x->ax[0]?=some y->Le lt x y:=λx y b c=>by rw[<-Array.getElem?_toList,H,List.getElem?_take_of_lt (by lia),hy0]at b;cases b;rw[R]at c;exact f.asym _ _ l (o y (gq c)) (k3 _ y (by lia) (by lia) (O _ y c))
 have bl:∀x y,ax[ax.size-1]?=some x->y∈ay.toList->Le lt y x:=λx y b c=>by rw[R,zx,show k+(X.length-k-1)=X.length-1 by lia,hxl]at b;cases b;rw[H]at c;obtain⟨i,d⟩:=List.getElem?_of_mem c;have L:=(fY.mp d).1;rw[tn]at L;rw[List.getElem?_take_of_lt L]at d;exact f.asym _ _ (u y (gq d)) t (n2 _ y (by lia) (by lia) (M i y d))
 have z:∀(r:Array Keyed)(g':Nat),Res lt ax ay r->wpS (model prog w) A E s (do
   modify λs=>setArr s (r.toList.zipIdx.foldl (λa (p,j)=>a.setIfInBounds (U.length+k+j) p) (arrOf s))
   return (failedOf (<-get)).isNone:SM Bool) Q (SortSt.mk' κ arr ((P.setIfInBounds i (U.length,X.length+Y.length,pw)).eraseIdxIfInBounds (i+1)) g' none):=λr g' hr=>by
  refine wpS_bind (wpS_modify (wpS_bind (wpS_get (wpS_pure ?_))));obtain⟨rp,rs⟩:=hr;rw[K,H]at rp
  have fp:=DE (sa:=U.length+k) (V:=Y.drop n++V) r.toList (X.drop k++Y.take n) (U++X.take k) 0 arr (by
   rw[h]
   conv=>lhs;rw[eX,eY]
   simp only [iE]) rp.length_eq.symm (by rw[gc,tk];rfl)
  refine hq _ (X.take k++r.toList++Y.drop n) g' (by
   refine fp.trans ?_
   simp only [iE]) ?_ ?_
  ·have:(X.take k++r.toList++Y.drop n).Perm (X.take k++(X.drop k++Y.take n)++Y.drop n):=(rp.append_left _).append_right _;refine this.trans ?_
   conv=>rhs;rw[eX,eY]
   simp only [iE];exact List.Perm.refl _
  ·have T:∀x∈r.toList,x∈X.drop k\/x∈Y.take n:=λx b=>iw.mp (rp.mem_iff.mp b)
   have hA:∀x∈X.take k,Le lt x y0:=λx b=>by obtain⟨i,d⟩:=List.getElem?_of_mem b;have L:=(fY.mp d).1;rw[tk]at L;rw[List.getElem?_take_of_lt L]at d;exact k2 _ x (by lia) (by lia) (O i x d)
   have hB:∀y∈Y.drop n,Le lt xl y:=λy c=>by obtain⟨i,d⟩:=List.getElem?_of_mem c;rw[List.getElem?_drop]at d;have L:=(fY.mp d).1;exact n3 _ y (by lia) (by lia) (M _ y d)
   have F:=sX;rw[eX,List.pairwise_append]at F;have J:=sY;rw[eY,List.pairwise_append]at J;rw[List.pairwise_append,List.pairwise_append];refine fL (fL F.1 rs λx b y c=>?_) J.2.1 λx b y c=>?_
   ·rcases T y c with q|q
    ·exact F.2.2 x b y q
    ·exact f.tr x y0 y (o x (mT b)) l (u y (mT q)) (hA x b) (m y (mT q))
   ·have yy:=u y (List.mem_of_mem_drop c);rcases iw.mp b with q|q
    ·exact f.tr x y0 y (o x (mT q)) l yy (hA x q) (m y (List.mem_of_mem_drop c))
    ·rcases T x q with q|q
     ·exact f.tr x xl y (o x (List.mem_of_mem_drop q)) t yy (v x (List.mem_of_mem_drop q)) (hB y c)
     ·exact J.2.2 x q y c
 by_cases c3:X.length-k<=n
 ·rw[bz c3];exact wpS_bind (Gy f rfl Z a0 (by lia) (by lia) b0 bl λr g' hr=>z r g' hr)
 ·rw[bp c3];exact wpS_bind (Go f rfl Z a0 (by lia) (by lia) b0 bl λr g' hr=>z r g' hr)
def A6f:List (Nat×Nat×Nat)->Nat->List (List Keyed)->Prop| [],_,[]=>True|e::ps,s,L::Ls=>e.1=s/\e.2.1=L.length/\A6f ps (s+L.length) Ls| [],_,_::_=>False|_::_,_,[]=>False
theorem A6f.len:∀{ps:List (Nat×Nat×Nat)}{s:Nat}{Ls:List (List Keyed)},A6f ps s Ls->ps.length=Ls.length| [],_,[],_=>rfl|e::ps,s,L::Ls,h=>by rw[gZ,gZ,A6f.len h.2.2]
theorem A6f.push:∀{ps:List (Nat×Nat×Nat)}{s:Nat}{Ls:List (List Keyed)},A6f ps s Ls->∀(lo:Nat)(L:List Keyed)(q:Nat),lo=s+Ls.flatten.length->A6f (ps++[(lo,L.length,q)]) s (Ls++[L])| [],s,[],_,lo,L,q,e=>(fL (by simpa using e) rfl trivial)|_::ps,s,M::Ls,h,lo,L,q,e=>(fL h.1 h.2.1 (A6f.push h.2.2 lo L q (by rw[e,List.flatten_cons,gc];lia)))
theorem A6f.congr:∀{ps a:List (Nat×Nat×Nat)}{s:Nat}{Ls:List (List Keyed)},A6f ps s Ls->ps.map (λe=>(e.1,e.2.1))=a.map (λe=>(e.1,e.2.1))->A6f a s Ls| [],[],_,[],_,_=>trivial|e::ps,f::a,s,L::Ls,h,he=>by simp only [gA,List.cons.injEq,Prod.mk.injEq]at he;exact fL (he.1.1▸h.1) (he.1.2▸h.2.1) (A6f.congr h.2.2 he.2)
theorem A6f.split:∀(i:Nat){ps:List (Nat×Nat×Nat)}{s:Nat}{Ls:List (List Keyed)},A6f ps s Ls->i+1<ps.length->∃(L1:List (List Keyed))(X Y:List Keyed)(L2:List (List Keyed))(a:List (Nat×Nat×Nat))(pw pw':Nat)(p2:List (Nat×Nat×Nat)),Ls=L1++X::Y::L2/\ps=a++(s+L1.flatten.length,X.length,pw)::(s+L1.flatten.length+X.length,Y.length,pw')::p2/\a.length=i/\∀(Zz:List Keyed),Zz.length=X.length+Y.length->A6f (a++(s+L1.flatten.length,X.length+Y.length,pw)::p2) s (L1++Zz::L2)
 |0,e::f::ps,s,X::Y::Ls,h,_=>by
  refine ji h λk m d j p=>?_;clear h;refine iu [] X Y Ls [] e.2.2 f.2.2 (iU ps rfl ?_ rfl λZz b=>(fL rfl b.symm ?_))
  ·show e::f::ps=_;obtain⟨n,g,c⟩:=e;obtain⟨r,t,q⟩:=f;dsimp only at k m d j;subst k m d j;rfl
  ·rw[b,<-Nat.add_assoc];exact p
 |i+1,e::ps,s,M::Ls,h,hl=>by
  refine ik (A6f.split i h.2.2 (by simpa using hl)) ?_;rintro L1 X Y L2 a ⟨pw,pw',p2,n,g,c,o⟩;have l:s+(M::L1).flatten.length=s+M.length+L1.flatten.length:=by rw[List.flatten_cons,gc];lia
  refine iu (M::L1) X Y L2 (e::a) pw pw' (iU p2 (by rw[n];rfl) ?_ (by rw[gZ,c]) λZz b=>(fL h.1 h.2.1 ?_))
  ·rw[l,g];rfl
  ·rw[l];exact o Zz b
theorem wz{a:List (Nat×Nat×Nat)}{e b v:Nat×Nat×Nat}(h:P.toList=a++e::b::p2)(hi:a.length=i):((P.setIfInBounds i v).eraseIdxIfInBounds (i+1)).toList=a++v::p2:=by rw[Array.toList_eraseIdxIfInBounds,Array.toList_setIfInBounds,h,<-hi];simp[List.eraseIdx_append_of_length_le]
structure Rn(κ:SortKind)(lt:Keyed->Keyed->Bool)(a0:Array Keyed)(lo:Nat)(rest:List Keyed)(n:Nat)(st:SortSt):Prop where
 ex:∃(xs:Array Keyed)(P:Array (Nat×Nat×Nat))(g:Nat)(Ls:List (List Keyed)),st=SortSt.mk' κ xs P g none/\xs.toList=Ls.flatten++rest/\A6f P.toList 0 Ls/\(∀L∈Ls,L≠[]/\L.Pairwise (Le lt))/\Ls.flatten.length=lo/\xs.Perm a0/\P.size=n
theorem zr(I:B1w prog w A s κ lt S)(K:∀x∈a0.toList,S x){st:SortSt}{Q:Bool->SortSt->Prop}(h:Rn κ lt a0 lo rest n st)(hi:i+1<n)(M:∀c,Rn κ lt a0 lo rest (n-1) c->Q true c):wpS (model prog w) A E s (mergeAt' i) Q st:=by
 refine iq h.ex ?_;rintro m P g Ls rfl F G a ⟨t,r,B⟩;refine ik (A6f.split i G (by rw[Array.length_toList,B];exact hi)) ?_;rintro L1 X Y L2 l ⟨pw,pw',N,J,b,f,p⟩;simp only [Nat.zero_add]at b p;subst J;have j:m.toList=L1.flatten++X++Y++(L2.flatten++rest):=by rw[F];simp
 have z:∀x∈m.toList,S x:=λx j=>K x ((Array.perm_iff_toList_perm.mp r).mem_iff.mp j);refine GA I j z (a X (by simp)).2 (a Y (by simp)).2 (a X (by simp)).1 (a Y (by simp)).1 (pw:=pw) (pw':=pw') ?_ ?_ ?_
 ·rw[<-Array.getElem?_toList,b,<-f,mH (fH _),Nat.sub_self];rfl
 ·rw[<-Array.getElem?_toList,b,<-f,mH (by lia),show l.length+1-l.length=1 by lia];rfl
 ·intro k Zz C o d H;refine M _ ⟨k,_,C,L1++Zz::L2,rfl,by rw[o];simp,by rw[wz b f];exact p Zz (by rw[d.length_eq,gc]),λL u=>?_,?_,?_,?_⟩
  ·rcases iw.mp u with q|q
   ·exact a L (by simp[q])
   ·rcases gB.mp q with q|q
    ·subst q;refine⟨λe=>?_,H⟩;rw[e]at d;have:=d.length_eq;rw[gc]at this;have:=List.length_pos_iff.mpr (a X (by simp)).1;simp at *
     lia
    ·exact a L (by simp[q])
  ·have:=d.length_eq;rw[<-t];simp only [List.flatten_append,List.flatten_cons,gc]at this⊢
   lia
  ·refine Array.Perm.trans ?_ r;rw[Array.perm_iff_toList_perm,o,j];simp only [iE];refine List.Perm.append_left _ ?_;rw[<-iE,<-iE,<-iE];simp only [iE];rw[<-iE X Y];exact d.append_right _
  ·have y:=congrArg List.length b;have D:=congrArg List.length (wz (v:=(L1.flatten.length,X.length+Y.length,pw)) b f);simp only [Array.length_toList,gc,gZ]at y D
   lia
theorem yk(h:a1.toList=F++R)(b:Bs S a1 F.length xs)(c:A1g lt S xs F.length n):∃L R',xs.toList=F++(L++R')/\L.length=n/\L.Pairwise (Le lt):=by
 have g:=c.len;refine fC ((xs.toList.drop F.length).take n) ((xs.toList.drop F.length).drop n) ?_ ?_ ?_
 ·rw[np]
  have e:xs.toList.take F.length=F:=by
   apply List.ext_getElem?;intro i;by_cases a:i<F.length
   ·rw[List.getElem?_take_of_lt a,Array.getElem?_toList,b.low i a,<-Array.getElem?_toList,h,mG a]
   ·rw[List.getElem?_eq_none (by rw[jd];lia),List.getElem?_eq_none (by lia)]
  conv=>lhs;rw[<-np F.length xs.toList,e]
 ·rw[jd,ot,Array.length_toList]
  lia
 ·rw[List.pairwise_iff_getElem];intro i j a f d;rw[jd,ot,Array.length_toList]at a f;refine c.so (F.length+i) (F.length+j) _ _ (by lia) (by lia) (by lia) ?_ ?_
  ·rw[List.getElem_take,List.getElem_drop,<-Array.getElem?_toList];exact gU _
  ·rw[List.getElem_take,List.getElem_drop,<-Array.getElem?_toList];exact gU _
theorem Rn.push{st:SortSt}(h:Rn κ lt a0 lo (L++R) n st)(e:L≠[])(i:L.Pairwise (Le lt)):Rn κ lt a0 (lo+L.length) R (n+1) (setPending st ((pendingOf st).push (lo,L.length,0))):=by
 refine iq h.ex ?_;rintro f P g Ls rfl l d b ⟨c,j,k⟩;refine⟨f,P.push (lo,L.length,0),g,Ls++[L],rfl,by rw[l];simp,?_,λM a=>?_,by rw[<-c];simp,j,by rw[Array.size_push,k]⟩
 ·rw[Array.toList_push];exact d.push lo L 0 (by lia)
 ·rcases iw.mp a with q|q
  ·exact b M q
  ·rw[gz.mp q];exact⟨e,i⟩
theorem Rn.modify{st:SortSt}(h:Rn κ lt a0 lo R n st)(i:Nat){f:Nat×Nat×Nat->Nat×Nat×Nat}(o:∀e,(f e).1=e.1/\(f e).2.1=e.2.1):Rn κ lt a0 lo R n (setPending st ((pendingOf st).modify i f)):=by
 refine iq h.ex ?_;rintro a P g Ls rfl p k b ⟨d,l,m⟩;refine⟨a,P.modify i f,g,Ls,rfl,p,k.congr ?_,b,d,l,by rw[Array.size_modify,m]⟩;rw[Array.toList_modify];apply List.ext_getElem?;intro j;rw[ju,ju,List.getElem?_modify];by_cases c:i=j
 ·simp only [c,if_true]
  cases P.toList[j]? with
  |none=>rfl
  |some e=>simp[o e]
 ·simp only [c,if_false];cases P.toList[j]?<;>rfl
theorem GV(K:B1w prog w A s κ lt S)(U:∀x∈a0.toList,S x){Q:Unit->SortSt->Prop}
  (hq:∀(xs:Array Keyed) P g,xs.Perm a0->xs.toList.Pairwise (Le lt)->Q () (SortSt.mk' κ xs P g none)):wpS (model prog w) A E s sortRuns' Q (SortSt.mk' κ a0 #[] g0 none):=by
 rw[sortRuns'_eq];refine wpS_bind (wpS_get ?_);dsimp only;rw[show(arrOf (SortSt.mk' κ a0 #[] g0 none)).size=a0.size from rfl];generalize minRun' a0.size a0.size 0=mr
 refine wpS_bind (wpS_mono (wpS_forRange (I:=λx c t=>∃lo a n,c=(none,lo)/\x<=lo/\Rn κ lt a0 lo a n t)
  (Q:=λc t=>∃lo a n,c=(none,lo)/\a0.size<=lo/\Rn κ lt a0 lo a n t) ?step ?fin (iM 0 a0.toList 0 rfl (by lia) ⟨a0,#[],g0,[],rfl,rfl,trivial,by simp,rfl,Array.Perm.refl _,rfl⟩)) ?post)
 case fin=>rintro c t v;refine jK v ?_;clear v;rintro lo a n rfl h1 z;exact iM lo a n rfl (by lia) z
 case step=>
  rintro x c t _ O v;refine jK v ?_;clear v;rintro lo a f rfl h1 z;dsimp only;by_cases c1:lo≥a0.size
  ·rw[bz c1];exact wpS_pure (iM lo a f rfl c1 z)
  rw[bp c1];refine iq z.ex ?_;rintro xs P g Ls rfl o u j ⟨G,p,B⟩;subst G;have T:xs.size=a0.size:=p.size_eq;have mx:∀(i:Nat)(x:Keyed),xs[i]?=some x->S x:=λi x O=>U x ((Array.perm_iff_toList_perm.mp p).mem_iff.mp (by have:=Array.mem_of_getElem? O;simpa using this));have b0:Bs S xs Ls.flatten.length xs:=⟨Array.Perm.refl _,λi _=>rfl,mx⟩;refine wpS_bind (Hc K (a1:=xs) (lo:=Ls.flatten.length) rfl b0 (by lia) (by lia) ?_);intro n W n1 J Z H;dsimp only;by_cases c2:n<mr
  case' pos=>
   rw[bz c2];refine wpS_bind (pF ?_);have hf:n<=min (a0.size-Ls.flatten.length) mr:=by lia
   refine wpS_bind (HY K (a1:=xs) (st:=SortSt.mk' κ W P g none) rfl Z (show Ls.flatten.length+min (a0.size-Ls.flatten.length) mr<=xs.size by lia) n1 hf H λa2 b s2=>?_);simp only [Bool.not_true,Bool.false_eq_true,if_false];refine fO (yk o b s2) λL R f1 N f3=>?_;rw[<-N]
  case' neg=>rw[bp c2];have b:=Z;refine fO (yk o b H) λL R f1 N f3=>?_;rw[<-N]
  all_goals
   have Y:L≠[]:=λe=>by rw[e,kZ]at N;lia
   have r0:Rn κ lt a0 Ls.flatten.length (L++R) f (SortSt.mk' κ _ P g none):=⟨_,P,g,Ls,rfl,f1,u,j,rfl,b.pm.trans p,B⟩;have a3:=List.length_pos_iff.mpr Y
   have fin:∀f t,Rn κ lt a0 Ls.flatten.length (L++R) f t->wpS (model prog w) A E s (do
     modify λs=>setPending s ((pendingOf s).push (Ls.flatten.length,L.length,0))
     return ForInStep.yield (none,Ls.flatten.length+L.length):SM (ForInStep (Option Unit×Nat))) (λr l=>match r with
     |.done c'=>∃lo a n,c'=(none,lo)/\a0.size<=lo/\Rn κ lt a0 lo a n l
     |.yield c'=>∃lo a n,c'=(none,lo)/\x+1<=lo/\Rn κ lt a0 lo a n l) t:=λf t h=>by
    refine wpS_bind (wpS_modify (wpS_pure ?_));exact iM _ R _ rfl (by lia) (h.push Y f3)
   refine wpS_bind (wpS_get ?_)
   cases hb:P.back? with
   |none=>exact fin f _ r0
   |some e=>
    obtain⟨H,J,q⟩:=e;dsimp only;generalize power' a0.size (2*H+J) (2*H+J+J+L.length) a0.size=pw
    refine wpS_bind (wpS_mono (wpS_forRange (I:=λx c t=>c=(none,())/\∃f,Rn κ lt a0 Ls.flatten.length (L++R) f t)
     (Q:=λc t=>c=(none,())/\∃f,Rn κ lt a0 Ls.flatten.length (L++R) f t) ?step3 ?fin3 (gk rfl f r0)) ?post3)
    case fin3=>exact λc t h=>h
    case post3=>rintro c t ⟨rfl,d,D⟩;dsimp only;exact wpS_bind (wpS_modify (fin d _ (D.modify _ λe=>⟨rfl,rfl⟩)))
    case step3=>
     rintro y c t _ _ ⟨rfl,d,D⟩;refine wpS_bind (wpS_get ?_)
     have hp:(pendingOf t).size=d:=by refine iq D.ex ?_;rintro xs P g Ls rfl o u j ⟨G,p,B⟩;exact B
     by_cases c3:(pendingOf t).size>1
     ·rw[bz c3]
      cases(pendingOf t)[(pendingOf t).size-2]? with
      |none=>exact wpS_pure (gk rfl d D)
      |some e=>
       obtain⟨o1,o2,C⟩:=e;dsimp only;by_cases c4:C<=pw
       ·rw[bz c4];exact wpS_pure (gk rfl d D)
       rw[bp c4];refine wpS_bind (zr K U D (by lia) λl k=>?_);simp only [Bool.not_true,Bool.false_eq_true,if_false];exact wpS_pure (gk rfl _ k)
     ·rw[bp c3];exact wpS_pure (gk rfl d D)
 case post=>
  rintro c t v;refine jK v ?_;clear v;rintro lo a n rfl h1 z;dsimp only
  have X:n<=a0.size/\a=[]:=by
   refine iq z.ex ?_;rintro xs P g Ls rfl o u j ⟨G,p,B⟩;have T:xs.toList.length=a0.size:=by rw[Array.length_toList];exact p.size_eq
   rw[o,gc]at T
   have:Ls.length<=Ls.flatten.length:=by
    clear o u G T z
    induction Ls with
    |nil=>simp
    |cons L Ls ih=>
     have:=List.length_pos_iff.mpr (j L (by simp)).1;have:=ih λM hM=>j M (by simp[hM]);rw[List.flatten_cons,gc,gZ]
     lia
   have k:=u.len;rw[Array.length_toList]at k;exact⟨by lia,nG.mp (by lia)⟩
  obtain⟨X,rfl⟩:=X
  refine wpS_bind (wpS_mono (wpS_forRange (I:=λx c t=>∃m,c=(none,())/\(m<=1\/m+x<=a0.size)/\Rn κ lt a0 lo [] m t)
   (Q:=λc t=>∃m,c=(none,())/\m<=1/\Rn κ lt a0 lo [] m t) ?step2 ?fin2 (fJ n rfl (.inr (by lia)) z)) ?post2)
  case fin2=>rintro c t ⟨m,rfl,g1,F⟩;exact fJ m rfl (by lia) F
  case post2=>
   rintro c t ⟨m,rfl,g1,F⟩;refine iq F.ex ?_;rintro xs P g Ls rfl o u j ⟨G,p,B⟩;refine wpS_pure (hq xs P g p ?_);have k:=u.len;rw[Array.length_toList]at k;rw[o,kQ]
   match Ls,k,j with
   | [],_,_=>exact List.Pairwise.nil
   | [L],_,j=>simpa using (j L (by simp)).2
   |_::_::_,k,_=>simp only [gZ]at k;lia
  case step2=>
   rintro x c t _ O ⟨m,rfl,g1,F⟩;refine wpS_bind (wpS_get ?_)
   have hp:(pendingOf t).size=m:=by refine iq F.ex ?_;rintro xs P g Ls rfl o u j ⟨G,p,B⟩;exact B
   by_cases c1:(pendingOf t).size<=1
   ·rw[bz c1];exact wpS_pure (fJ m rfl (by lia) F)
   rw[bp c1];refine wpS_bind (zr K U F (i:=_) (by (repeat' split)<;>lia) λl k=>?_);simp only [Bool.not_true,Bool.false_eq_true,if_false];exact wpS_pure (fJ _ rfl (by lia) k)
end
def gM:zI->List Int->Bool|_,[]=>false| [],_::_=>true|x::xs,y::ys=>if x=y then gM xs ys else decide (x<y)
theorem qu:∀(x y:zI),gM x y=true->gM y x=false
 | [],[],h=>by cases h
 |_::_,[],h=>by cases h
 | [],y::ys,_=>rfl
 |x::xs,y::ys,h=>by
  unfold gM at h⊢;by_cases c:x=y
  ·rw[bz c]at h;rw[bz c.symm];exact qu xs ys h
  ·rw[bp c]at h;rw[bp λe=>c e.symm];have:=of_decide_eq_true h;exact gK (by lia)
theorem rK:∀(x y z:zI),gM y x=false->gM z y=false->gM z x=false
 | [],_,z,_,_=>by cases z<;>rfl
 |x::xs,[],z,h,_=>by cases h
 |x::xs,y::ys,[],_,h=>by cases h
 |x::xs,y::ys,z::zs,h1,h2=>by
  unfold gM at h1 h2⊢;by_cases c1:y=x
  ·rw[bz c1]at h1;by_cases c2:z=y
   ·rw[bz c2]at h2;rw[bz (c2.trans c1)];exact rK xs ys zs h1 h2
   ·rw[bp c2]at h2;rw[bp (by lia)];have:=of_decide_eq_false h2;exact gK (by lia)
  ·rw[bp c1]at h1;have a:=of_decide_eq_false h1;by_cases c2:z=y
   ·rw[bp (by lia)];exact gK (by lia)
   ·rw[bp c2]at h2;have b:=of_decide_eq_false h2;rw[bp (by lia)];exact gK (by lia)
theorem yc:∀(x y:zI),gM x y=false->gM y x=false->x=y
 | [],[],_,_=>rfl
 |x::xs,[],_,h=>by cases h
 | [],y::ys,h,_=>by cases h
 |x::xs,y::ys,h1,h2=>by
  unfold gM at h1 h2;by_cases c:x=y
  ·rw[bz c]at h1;rw[bz c.symm]at h2;rw[c,yc xs ys h1 h2]
  ·rw[bp c]at h1;rw[bp λe=>c e.symm]at h2;have:=of_decide_eq_false h1;have:=of_decide_eq_false h2
   lia
section
theorem xG{Q:Bool->zY->Prop}:∀{xs ys:zH}{b d:zI}(i n k:Nat),IntsAre xs b->IntsAre ys d->n+d.length=k+b.length->Q (gM b d) s->PySem.W.KatLex prog w A true (decide (n<k)) Q (xs.zip ys) i s
 | [],[],_,_,i,n,k,.nil,.nil,hl,h=>by refine PySem.W.kat_nil ?_;simp only [kZ]at hl;rw[gK (by lia)];exact h
 | [],_::_,_,_,i,n,k,.nil,.cons _ _ _,hl,h=>by refine PySem.W.kat_nil ?_;simp only [kZ,gZ]at hl;rw[iY (by lia)];exact h
 |_::_,[],_,_,i,n,k,.cons _ _ _,.nil,hl,h=>by refine PySem.W.kat_nil ?_;simp only [kZ,gZ]at hl;rw[gK (by lia)];exact h
 |_::xs,_::ys,_,_,i,n,k,.cons a t hx,.cons c u hy,hl,h=>by
  rw[List.zip_cons_cons];refine PySem.W.kat_cons (wpAny_eqBool_int ?_);simp only [gZ]at hl;unfold gM at h;by_cases e:a=c
  ·rw[bz e]at h;rw[show(a==c)=true by simpa using e];exact PySem.W.kat_yes (xG (i+1) n k hx hy (by lia) h)
  ·rw[bp e]at h;rw[show(a==c)=false by simpa using e];refine PySem.W.kat_no ?_;by_cases z:i=0
   ·rw[show(true&&i==0)=true by simpa using z];exact PySem.W.kat_lt_int (t:=t) (u:=u) h
   ·rw[show(true&&i==0)=false by simpa using z];exact PySem.W.kat_one _ _ (PyProof.Rows.lt_int h)
def A7c(h:yA)(v:zX)(c:zI):Prop:=∃a o b n,v=.ref a/\h.get? a=some o/\o.cls=.type "tuple"/\o.data=.seq b n/\IntsAre b.toList c
theorem xV:∀{xs:zH}{b c:zI},IntsAre xs b->IntsAre xs c->b=c|_,_,_,.nil,.nil=>rfl|_,_,_,.cons a t h,.cons _ _ h'=>by rw[xV h h']
theorem A7c.one{f g:zI}(x:A7c h v f)(y:A7c h v g):f=g:=by refine iq x ?_;clear x;rintro a o q n rfl l r i j;refine iq y λt p k s e b m c d=>?_;clear y;cases e;rw[l]at b;cases b;rw[i]at c;cases c;exact xV j d
open Classical in
noncomputable def nM(h:yA)(v:zX):zI:=if e:∃a,A7c h v a then e.choose else []
theorem oM(x:A7c h v ns):nM h v=ns:=by unfold nM;have e:∃ns,A7c h v ns:=⟨ns,x⟩;rw[dif_pos e];exact e.choose_spec.one x
theorem Dr:B1w prog w A s (tuples' true) (λx y=>gM (nM s.heap x.1) (nM s.heap y.1)) (λx=>∃i,A7c s.heap x.1 i) where
 tr:=λx y z _ _ _=>rK _ _ _
 asym:=λx y _ _=>qu _ _
 ask:=λx y ⟨i,d⟩ ⟨F,g⟩ E Q h=>by rw[oM d,oM g]at h;refine iq d λa o v n k q B l j=>?_;clear d;refine iq g λD u p C e c t f b=>?_;clear g;rw[k,e];have r:=j.length;have m:=b.length;rw[Array.length_toList]at r m;exact PySem.W.kat_lt q l c f (xG 0 _ _ j b (by lia) h)
end
theorem wq:∀{ks:zH}{h:yA},(∀k∈ks,∃n d,A7c h k (n::d))->∃fs:zH,PySem.W.KatTups h ks fs/\fs.length=ks.length/\∀v∈fs,∃(n:Int)(t:Tok),v=.int n t
 | [],h,_=>(fJ [] PySem.W.KatTups.nil rfl λv c=>by cases c)
 |k::ks,h,hk=>by
  obtain⟨fs,j,l,g⟩:=wq (ks:=ks) λq s=>hk q (jD _ s);refine kn (hk k (jG)) ?_;rintro n d a o i m rfl p u e b
  cases hx:i.toList with
  |nil=>rw[hx]at b;cases b
  |cons f r=>
   rw[hx]at b
   cases b with
   |cons _ t h5=>
   refine fJ (.int n t::fs) (PySem.W.KatTups.cons p u e (by rw[<-Array.getElem?_toList,hx];rfl) j) (by simp[l]) λv c=>?_;rcases gB.mp c with q|q
   ·exact ij n t q
   ·exact g v q
end SA
namespace L2
open PySem PySem.Spec PyProof.Rows
variable{κ α:Type}{z l2 l1 i2 i1 dx d b a D C:zW}{value:yC}{v:V}{ty tv to tl te td ta:TE}{tpos pos' pos p2 p1 cpos apos:Pos}{tn st2 st1:Nat->yA->Prop}{tc:TT}{tb:TS}{t:TA}{st:Stmt}{src2 src1:zG->yA->Prop}{sp' sp:Sp}{sh:List Bool}{scope:Scope}{s1 s' s:zY}{rest:List Stmt}{q2 q1:Bool}{ps N0 N':zC}{prog P:yB}{w:yD}{pl pins:zD}{name m f:Str}{mg:zE}{js:List Nat}{j i₀:Nat}{ix:List (Option Nat)}{h' h g' base:yA}{g:TG}{fp:zQ}{fd:zS}{ds:List PyData}{cl:List (Str×zW)}{Z₀ Z' Z:St}{X:Cx}{U T:String}{S':zV}{QD:Hp->Prop}{L:List (V×V)}{K:Frag}{J:It}{H2 H1 H G:Hp}{E:zA}{CX:CXT}{B:Prop}{A:zZ}
variable{u:HO}{K:Frag}{b c it l a p d:zW}{h h':yA}{g:TG}{e:zO}{fp ts:zQ}{vs:List (Key×zX)}{Q Qf:zA}{es:Array DictEntry}{xs ys:zG}{x y:zX}{k1 k2 t' kk n i ep:Nat}{o od:Obj}{X:Cx}{pins:zD}{Z:St}{H H':Hp}{s:zY}{P:yB}{w:yD}{elts cs:zT}{pos:Pos}{tg elt iter:yC}{v:V}{scope:Scope}{N':zC}{S:zV}{r:zK}{kvs:zJ}{ix:List (Option Nat)}{cl:List (Str×zW)}{wi:TI}{te:TE}{use:Option (zX->Sem Unit)}{sts:List Stmt}{sl:zF}{ks:zU}{kas:List (fP×zW×V)}{sh:List Bool}
def vH(t u:TS):TS:=λD Z H=>∃M:St->Hp->Prop,t {D with nx:=M} Z H/\∀Z' a,M Z' a->u D Z' a
theorem Dc{t u:TS}(h1:PS X st t)(h2:PSs X rest u):PSs X (st::rest) (vH t u):=by
 intro a s Z H D I h;obtain⟨M,h,c⟩:=h;refine wpAny_execs_cons (thn (h1 a s Z H {D with nx:=M} I h) λf b q=>?_)
 cases f with
 |next=>obtain⟨Z',d,I',q⟩:=q;exact h2 a b Z' d D I' (c _ _ q)
 |ret v=>exact q
 |brk=>exact q
 |cont=>exact q
def rIsi(K:Frag):zM->Hp->VK->Prop:=λa H Q=>∃x c t b,a=[x,c]/\kA K H x t/\(∀u,A2h c u->kitOne K t u=some b)/\Q (.bl b) H
theorem kJ:mu X (.builtin "isinstance") (rIsi X.K):=by intro d s Z H k l Q I r h;refine iN h ?_;clear h;rintro x c t ⟨b,rfl,g,e,q⟩;refine fO (rf r) ?_;rintro u i rfl f a;exact Ft I f g (e i a) λj=>(fC (.bl b) H (I.tok j) rfl q)
theorem oN(T:String):∀u,A2h (.ty T) u->kitOne K (.type T) u=some true:=by intro u h;cases(show u=Value.type T from h);unfold kitOne;rw[bz (beq_self_eq_true _)]
theorem pC{b:Bool}(h:(Value.type T==Value.type U)=false)(a:PySem.W.kitMeta U=true)(c:(PySem.fastBuiltinMro T).map (·.contains (Value.type U))=some b):
  ∀u,A2h (.ty U) u->kitOne K (.type T) u=some b:=by
 intro u z;cases(show u=Value.type U from z);unfold kitOne;rw[bp (by rw[h];exact gL)];show(if PySem.W.kitMeta U=true then subIn K (.type T) (.type U)else none)=some b;rw[bz a];exact c
def Ca(K:Frag):R2:=λx y H Q=>∃a b c d,x=.ref a/\y=.ref b/\SqT K H a c/\SqT K H b d/\d≠[]/\c.length+d.length<=sizeLine/\
 (c=[]->Q (.ref b) H)/\(c≠[]->∀p,H p=none->Q (.ref p) (upd H p (.tup (c++d))))
theorem DX:OpR X (binaryOp .Add) (Ca X.K):=by
 intro c s Z H x y v u Q I B w h;refine iq h ?_;clear h;rintro a b o O rfl rfl C t ⟨P,G,L,J⟩;by_cases hx:o=[]
 ·subst hx;cases B;cases w;obtain⟨f,S,D,_⟩:=I.tuple C;obtain⟨e,Y,T,_⟩:=I.tuple t;have R:f=[]:=S.nil_iff.mpr rfl;refine iD (id D) ?_;rintro⟨U,W,p,M⟩ r q ⟨n,m⟩;refine iD (id T) ?_;rintro⟨A,k,l,j⟩ d g ⟨N,i⟩;simp only at q m g i;subst q m g i
  exact concat_meets (bd _ r rfl) (bd _ d rfl) noFill_tuple_add seq_tuple_add PySem.F.slot_tuple_add PySem.F.entry_tuple_add (PySem.F.args_tuple_add_2 _ _)
   (tuple_addW0 a b f.toArray e.toArray n N W k M j (by simp[R])) ⟨r,(jg d (.ref b) H I rfl (L rfl))⟩
 ·exact wQ c s Z H _ _ v u Q I B w (hU a b o O rfl rfl C t (iW hx G (λz=>absurd z P) λ_=>J hx))
structure Nx(it l:zW)(st:Nat->yA->Prop)(src:zG->yA->Prop):Prop where
 item:∀{prog:yB}{w:yD}{A:zZ}{E:zA}{s:zY}{k:Nat}{xs:zG}{x:zX}{Q:zA},st k s.heap->src xs s.heap->xs[k]?=some x->
  (∀h',st (k+1) h'->Heap.SameBut it s.heap h'->Q x {s with heap:=h'})->wpAny (model prog w) A (Builtin.SmallTypes.nextOf (.ref it)) Q E s
 fin:∀{prog:yB}{w:yD}{A:zZ}{E:zA}{s:zY}{k:Nat}{xs:zG}{Q:zA},A.handled=none->st k s.heap->src xs s.heap->xs[k]?=none->
  (∀h' e,Heap.ExtBut it s.heap h'->(∃o,h'.get? e=some o/\o.cls=.type "StopIteration")->E (.ref e) {s with heap:=h'})->wpAny (model prog w) A (Builtin.SmallTypes.nextOf (.ref it)) Q E s
 mv:∀{k:Nat}{h h':yA},st k h->(∀o,h.get? it=some o->h'.get? it=some o)->st k h'
 mvS:∀{xs:zG}{h h':yA},src xs h->(∀o,h.get? l=some o->h'.get? l=some o)->src xs h'
 ob:∀{k:Nat}{h:yA},st k h->∃o,h.get? it=some o/\∀v,o.data≠.cell v
theorem oI(it l:zW):Nx it l (λk h=>h.IsListIter it l k) (λxs h=>h.IsList l xs) where
 item:=wpAny_nextOf_list_item
 fin:=wpAny_nextOf_list_end
 mv:=λx e=>x.at e
 mvS:=λx e=>x.at e
 ob:=λ⟨o,e,_,d⟩=>(bd o e λv z=>by rw[d]at z;cases z)
def D7m(h:zW)(g:yA):Prop:=∃a b,g.get? h=some a/\a.data=.fields b/\b[2]?=some .none
theorem D7m.at{h:zW}{g:yA}(k:D7m h g)(f:∀o,g.get? h=some o->g'.get? h=some o):D7m h g':=let⟨oh,vs,e,d,z⟩:=k;(fC oh vs (f _ e) d z)
abbrev HdA(e:zO):zZ->Prop:=λA=>A.handled=e.map Value.ref
def HdF(e:zO)(fp:zQ)(g:yA):Prop:=∀h,e=some h->D7m h g/\∀c∈fp,h≠c
theorem HdF.at{g:yA}(k:HdF e fp g)(f:∀h o,(∀c∈fp,h≠c)->g.get? h=some o->g'.get? h=some o)(b:c∈fp):HdF e [c] g':=λh z=>⟨(k h z).1.at λo q=>f h o (k h z).2 q,λd a=>by rw[gz.mp a];exact(k h z).2 c b⟩
theorem Hm:entryFor table "proto.unchain"=some Builtin.«proto.unchain»:=entryFor_of_fast (by kernel_rfl)
theorem GS{e:zX}{h:zW}{a:Obj}{vs:zG}(c:s.heap.get? h=some a)(b:a.data=.fields vs)(h2:vs[2]?=some .none)(d:Q .none s):
  wpAny (model prog w) A (runValue (.builtin "proto.unchain" ⟨[e,.ref h,.ref h,.bool false],[]⟩)) Q E s:=by
 refine runValue_entry Hm ?_;show wpAny _ _ (field (.ref h) 2>>=_) _ _ s;refine bc (jc c b h2 ?_);exact ck (bd _ rfl d)
theorem HH{h e:zW}{b c:Obj}{vs es:zG}{Q:α->zY->Prop}(g:A.handled=some (.ref h))(i:h≠e)(l:s.heap.get? h=some b)(f:b.data=.fields vs)(h2:vs[2]?=some .none)(j:s.heap.get? e=some c)(a:c.data=.fields es)(hz:2<es.size)
  (k:E (.ref e) {s with heap:=s.heap.update e (Obj.mapFields (·.setIfInBounds 2 (.ref h)))}):wpAny (model prog w) A (raiseNew (.ref e)) Q E s:=by
 simp only [raiseNew];refine bc (wpAny_handled ?_);rw[g];have d:(Value.ref h != Value.ref e)=true:=by simpa using i
 dsimp only;rw[bz d];refine bc (jC (GS l f h2 ?_));refine bc (pN (x:=.ref h) j a hz (wpAny_throw k))
theorem wb{Q:α->zY->Prop}(g:HdA e A)(t:HdF e [it] s.heap)(f:Heap.ExtBut it s.heap s1.heap)
  (i:∀h' a,Heap.ExtBut it s.heap h'->(∃o,h'.get? a=some o/\o.cls=.type "StopIteration")->E (.ref a) {s1 with heap:=h'}):wpAny (model prog w) A (newExc (.type "StopIteration") []>>=λx=>(raiseNew x:Sem α)) Q E s1:=by
 refine bc ?_;simp only [newExc,newTuple];refine bc (kP ?_ (by size_fits));refine bc (m:=firstArgMember _ _) (wpAny_of_eq (a:=Value.none) (by first|rfl|(simp only [firstArgMember];rfl)) ?_);refine kP ?_ (by size_fits)
 cases e with
 |none=>simp only [raiseNew];refine bc (wpAny_handled ?_);rw[show A.handled=none from g];exact bc (ck (wpAny_throw (i _ _ ((f.push _).push _) (bd _ (gR _ rfl) rfl))))
 |some h=>
  obtain⟨⟨l,u,n,q,r⟩,p⟩:=t h rfl;have c:=f h l (p it (.head _)) n;refine HH (h:=h) g ?_ (fS _ (fS _ c)) q r (gR _ rfl) rfl (by simp;lia) ?_
  ·exact im (by rw[me];exact Nat.lt_succ_of_lt (fW c))
  refine i _ _ (λb o k j=>?_) (bd _ (oY _ (gR _ rfl) rfl) rfl);have d:=f b o k j;exact(qF _ _ (jm (by rw[me];exact Nat.lt_succ_of_lt (fW d)))).trans (fS _ (fS _ d))
theorem CT{k:Nat}(i:HdA e A)(j:HdF e [it] s.heap)(hi:s.heap.IsListIter it l k)(g:s.heap.IsList l xs)(m:xs[k]?=none)
  (n:∀h' a,Heap.ExtBut it s.heap h'->(∃o,h'.get? a=some o/\o.cls=.type "StopIteration")->E (.ref a) {s with heap:=h'}):wpAny (model prog w) A (callSpecial? (.ref it) (Str.ofString "__next__")) (λ_ _=>False) E s:=by
 obtain⟨o,f,q,c⟩:=id hi;refine iD g ?_;clear g;rintro r b _ ⟨p,d⟩;refine lh (name:=Str.ofString "__next__") hi.typeIs slot_listiter_next (jb slot_listiter_next hi.typeIs entry_listiter_next ?_ (args_listiter_next _));show wpAny _ _ (field (.ref it) 0>>=_) _ _ s;refine bc (jc f c (x:=.ref l) rfl ?_);show wpAny _ _ (if (Value.ref l==Value.none)=true then _ else _) _ _ s;rw[bp (show¬((Value.ref l==Value.none)=true) from gL)];show wpAny _ _ (field (.ref it) 1>>=_) _ _ s;refine bc (jc f c (x:=.int k 0) rfl ?_);show wpAny _ _ (seqItems? (.ref l)>>=_) _ _ s;refine bc (jL b d ?_);simp only [Int.toNat_natCast,m];exact bc (wpAny_rule (bc (pN f c (by simp) (wb i j (Heap.SameBut.update (a:=it) (h:=s.heap) (Obj.mapFields (·.setIfInBounds 0 .none))).extBut n))))
theorem xb{k:Nat}(i:HdA e A)(j:HdF e [it] s.heap)(hi:s.heap.IsTupleIter it l k)(g:s.heap.IsTuple l xs)(m:xs[k]?=none)
  (n:∀h' a,Heap.ExtBut it s.heap h'->(∃o,h'.get? a=some o/\o.cls=.type "StopIteration")->E (.ref a) {s with heap:=h'}):wpAny (model prog w) A (callSpecial? (.ref it) (Str.ofString "__next__")) (λ_ _=>False) E s:=by
 obtain⟨o,f,q,c⟩:=id hi;refine iD g ?_;clear g;rintro r b _ ⟨p,d⟩;refine lh (name:=Str.ofString "__next__") hi.typeIs F.slot_tuple_iterator_next (jb F.slot_tuple_iterator_next hi.typeIs F.entry_tuple_iterator_next ?_ (F.args_tuple_iterator_next_1 _));show wpAny _ _ (field (.ref it) 0>>=_) _ _ s;refine bc (jc f c (x:=.ref l) rfl ?_);show wpAny _ _ (if (Value.ref l==Value.none)=true then _ else _) _ _ s;rw[bp (show¬((Value.ref l==Value.none)=true) from gL)];show wpAny _ _ (field (.ref it) 1>>=_) _ _ s;refine bc (jc f c (x:=.int k 0) rfl ?_);show wpAny _ _ (seqItems? (.ref l)>>=_) _ _ s;refine bc (jL b d ?_);simp only [Int.toNat_natCast,m];exact bc (wpAny_rule (bc (pN f c (by simp) (wb i j (Heap.SameBut.update (a:=it) (h:=s.heap) (Obj.mapFields (·.setIfInBounds 0 .none))).extBut n))))
theorem uo(h:wpAny (model prog w) A (callSpecial? x (Str.ofString "__next__")) (λ_ _=>False) E s):wpAny (model prog w) A (Builtin.SmallTypes.nextOf x) Q E s:=by unfold Builtin.SmallTypes.nextOf;exact bc (jE h (λ_ _ z=>z.elim) λ_ _ z=>z)
theorem Iv{k:Nat}(hi:s.heap.IsTupleIter it l k)(e:s.heap.IsTuple l xs)(g:xs[k]?=some x)
  (f:∀h',h'.IsTupleIter it l (k+1)->Heap.SameBut it s.heap h'->Q x {s with heap:=h'}):wpAny (model prog w) A (Builtin.SmallTypes.nextOf (.ref it)) Q E s:=by
 obtain⟨o,b,h,a⟩:=id hi;refine iD e ?_;clear e;rintro j c _ ⟨i,d⟩;unfold Builtin.SmallTypes.nextOf;refine bc (lh (name:=Str.ofString "__next__") hi.typeIs F.slot_tuple_iterator_next (jb F.slot_tuple_iterator_next hi.typeIs F.entry_tuple_iterator_next ?_ (F.args_tuple_iterator_next_1 _)));show wpAny _ _ (field (.ref it) 0>>=_) _ _ s;refine bc (jc b a (x:=.ref l) rfl ?_);show wpAny _ _ (if (Value.ref l==Value.none)=true then _ else _) _ _ s;rw[bp (show¬((Value.ref l==Value.none)=true) from gL)];show wpAny _ _ (field (.ref it) 1>>=_) _ _ s;refine bc (jc b a (x:=.int k 0) rfl ?_);show wpAny _ _ (seqItems? (.ref l)>>=_) _ _ s;refine bc (jL c d ?_);simp only [Int.toNat_natCast,g];refine bc (pN b a (by simp) (ck (bd x rfl (ck (f _ ?_ (Heap.SameBut.update ..))))));exact fJ _ (oY _ b (Obj.isFreed_of_fields (Obj.data_mapFields a _))) ((Obj.cls_mapFields ..).trans h) (by rw[Obj.data_mapFields a];simp[rawInt])
theorem Iq{k:Nat}(c:A.handled=none)(hi:s.heap.IsTupleIter it l k)(a:s.heap.IsTuple l xs)(d:xs[k]?=none)
  (b:∀h' e,Heap.ExtBut it s.heap h'->(∃o,h'.get? e=some o/\o.cls=.type "StopIteration")->E (.ref e) {s with heap:=h'}):wpAny (model prog w) A (Builtin.SmallTypes.nextOf (.ref it)) Q E s :=
 uo (xb (e:=none) c (λ_ z=>nomatch z) hi a d b)
theorem oP(it l:zW):Nx it l (λk h=>h.IsTupleIter it l k) (λxs h=>h.IsTuple l xs) where
 item:=Iv
 fin:=Iq
 mv:=λ⟨o,e,r⟩ f=>(bd o (f _ e) r)
 mvS:=λ⟨o,e,r⟩ f=>(bd o (f _ e) r)
 ob:=λ⟨o,e,_,d⟩=>(bd o e λv z=>by rw[d]at z;cases z)
section
variable{TI TO:zW}
theorem xQ(N1:Nx i1 l1 st1 src1)(N2:Nx i2 l2 st2 src2){a b:zX}{Q:zN->zY->Prop}(D:ZipApart z TI TO i1 i2 l1 l2)
  (hz:IsZip s.heap z TI TO .none) (B:IsPair s.heap TI (.ref i1) (.ref i2)) (u:IsPair s.heap TO a b) (h1:st1 k1 s.heap) (h2:st2 k2 s.heap) (v:src1 xs s.heap) (J:src2 ys s.heap) (U:xs[k1]?=some x) (Z:ys[k2]?=some y)
  (hQ:∀h',IsZip h' z TI TO (rawInt s.heap.objs.size)->IsPair h' TO x y->st1 (k1+1) h'->st2 (k2+1) h'->IsPair h' s.heap.objs.size x y->
   (∀c o,c≠z->c≠TO->c≠i1->c≠i2->s.heap.get? c=some o->h'.get? c=some o)->Q (some (.ref s.heap.objs.size)) {s with heap:=h'}):wpAny (model prog w) A (pyNext (.ref z)) Q E s:=by
 have L:s.TypeIs (.ref z) "zip":=(bd _ hz rfl);unfold pyNext;refine bc (wpAny_attempt (lh (name:=Str.ofString "__next__") L F.slot_zip_next (jb F.slot_zip_next L F.entry_zip_next ?_ (F.args_zip_next_1 _))));show wpAny _ _ (field (.ref z) 2>>=_) _ _ _;refine bc (jc hz rfl (x:=.bool false) rfl ?_);show wpAny _ _ (field (.ref z) 3>>=_) _ _ _;refine bc (jc hz rfl (x:=.ref TI) rfl ?_);refine bc (jL B rfl ?_);show wpAny _ _ (Builtin.SmallTypes.ownedTupleIsFree (.ref z)>>=_) _ _ _;refine bc ?_;unfold Builtin.SmallTypes.ownedTupleIsFree;refine bc (jc hz rfl (x:=.none) rfl (ck ?_));simp only [if_true];refine bc (wpAny_rule ?_);refine bc (jc hz rfl (x:=.ref TO) rfl ?_);refine bc (jV hz (by simp) λW C d=>?_)
 replace C:IsZip W z TI TO .ellipsis:=C
 refine bc ?_;simp only [List.zipIdx_cons,List.zipIdx_nil,List.forIn_cons,List.forIn_nil];refine bc (bc (wpAny_onRaise ?_));show wpAny _ _ (Builtin.SmallTypes.nextOf (.ref i1)>>=_) _ _ _;refine bc (N1.item (N1.mv h1 λo e=>d.extBut _ _ D.i1z e) (N1.mvS v λo e=>d.extBut _ _ D.l1z e) U λg2 Y g=>ck ?_);have O:IsPair g2 TO a b:=g.extBut _ _ D.TOi1 (d.extBut _ _ D.TOz u);refine bc (jL O rfl ?_);refine bc (wpAny_updateSeq_pair O λg3 t h=>?_)
 replace t:IsPair g3 TO x b:=t
 refine bc (wpAny_letGo (ck ?_));refine bc (bc (wpAny_onRaise ?_));show wpAny _ _ (Builtin.SmallTypes.nextOf (.ref i2)>>=_) _ _ _;refine bc (N2.item (N2.mv h2 λo e=>h.extBut _ _ D.TOi2.symm (g.extBut _ _ D.i12.symm (d.extBut _ _ D.i2z e))) (N2.mvS J λo e=>h.extBut _ _ D.l2TO (g.extBut _ _ D.l2i1 (d.extBut _ _ D.l2z e))) Z λX t4 l=>ck ?_);have K:IsPair X TO x b:=l.extBut _ _ D.TOi2 t;refine bc (jL K rfl ?_);refine bc (wpAny_updateSeq_pair K λg5 m i=>?_)
 replace m:IsPair g5 TO x y:=m
 refine bc (wpAny_letGo (ck (ck ?_)));refine bc (jL m rfl ?_);refine bc (wpAny_newTuple ?_);have j:g5.objs.size=s.heap.objs.size:=by rw[i.1,l.1,h.1,g.1,d.1]
 have P:IsZip g5 z TI TO .ellipsis:=i.extBut _ _ D.TOz.symm (l.extBut _ _ D.i2z.symm (h.extBut _ _ D.TOz.symm (g.extBut _ _ D.i1z.symm C)));have T:∀c o,c≠z->c≠TO->c≠i1->c≠i2->s.heap.get? c=some o->g5.get? c=some o:=λc o f n H I e=>i.extBut _ _ n (l.extBut _ _ I (h.extBut _ _ n (g.extBut _ _ H (d.extBut _ _ f e))));have s1:st1 (k1+1) g5:=N1.mv Y λo e=>i.extBut _ _ D.TOi1.symm (l.extBut _ _ D.i12 (h.extBut _ _ D.TOi1.symm e));have s2:st2 (k2+1) g5:=N2.mv t4 λo e=>i.extBut _ _ D.TOi2.symm e;have k:z<g5.objs.size:=fW P;show wpAny _ _ (Builtin.SmallTypes.ownedTupleHandOut (.ref z) (.ref g5.objs.size)>>=_) _ _ _;refine bc ?_;unfold Builtin.SmallTypes.ownedTupleHandOut;have z6:IsZip (g5.push {cls:=.type "tuple",data:=.seq #[x,y]}) z TI TO .ellipsis:=fS _ P;refine bc (jV z6 (by simp) λS G R=>?_)
 replace G:IsZip S z TI TO (rawInt g5.objs.size):=G
 refine jV G (by simp) λr p N=>?_
 replace p:IsZip r z TI TO (rawInt g5.objs.size):=p
 have q:∀c o,c≠z->g5.get? c=some o->r.get? c=some o:=λc o f e=>N.extBut _ _ f (R.extBut _ _ f (fS _ e));have M:IsPair r g5.objs.size x y:=N.extBut _ _ (jm k) (R.extBut _ _ (jm k) (gR _ rfl));rw[j]at p M;refine ck (bd _ rfl (ck ?_));show Q (some (.ref g5.objs.size)) _;rw[j];exact hQ r p (q _ _ D.TOz m) (N1.mv s1 λo e=>q _ o D.i1z e) (N2.mv s2 λo e=>q _ o D.i2z e) M λc o f n H I e=>q c o f (T c o f n H I e)
end
theorem Inv.turnedNew{o:HO}(I:Inv X pins Z H s)(k:∀b u,b∉ts->s.heap.get? b=some u->h'.get? b=some u)(f:∀b∈ts,kf X pins H b)(j:s.heap.objs.size<=a)
  (i:A1w X.prog X.w (upd H a o) h' a o):Inv X pins Z (upd H a o) {s with heap:=h',toks:=t'}:=by
 have l:∀b u,H b=some u->b∉ts:=λb u e z=>by have:=(f b z).1;rw[e]at this;cases this
 have C:∀b u,s.heap.get? b=some u->b≠a:=λb u e=>im (jM (fW e) j);have h:H a=none:=I.hok.fresh j
 refine I.step (g':=s.gens) (d':=s.drawn) (ch:=ts) (λb g=>(iW ((f b g).2.2.2.1) ((f b g).2.1) ((f b g).2.2.2.2.1) ((f b g).2.2.2.2.2))) (λb u _ _ d e _=>k b u d e) (λb u _ _ d e _=>⟨u.slots,k b u d e⟩)
  (λb u _ e n=>by rw[eh (C b u e)];exact n) (λb u d e=>⟨u,k b u d e⟩) (λb t e=>by rw[eh (gh e h)];exact e) (λb u t e=>by rw[eh (gh e h)];exact e)
  (λb D e=>⟨#[],by rw[eh (gh e h),e];simp⟩) (λm x=>?_) (λb u e=>?_) I.bare
 ·refine iN x ?_;clear x;rintro p y A ⟨B,r⟩;exact iC p y A (k _ p (λz=>(f _ z).2.1 rfl) B) r
 ·by_cases g:b=a
  ·subst g;rw[dh]at e;cases e;exact i
  ·rw[eh g]at e;refine(I.hok b u e).stay (λc v d q=>k c v ?_ q) (λc q=>by rw[eh (gh q h)];exact q) λc t q=>by rw[eh (gh q h)];exact q
   rcases d with rfl|d
   ·exact l _ _ e
   ·exact l _ _ d
theorem Inv.turnedL(I:Inv X pins Z H s)(k:∀b u,b∉ts->s.heap.get? b=some u->h'.get? b=some u)(f:∀b∈ts,kf X pins H b):Inv X pins Z H {s with heap:=h',toks:=t'}:=by
 have g:∀b u,H b=some u->b∉ts:=λb u e z=>by have:=(f b z).1;rw[e]at this;cases this
 refine I.step (g':=s.gens) (d':=s.drawn) (ch:=ts) (λb d=>(iW ((f b d).2.2.2.1) ((f b d).2.1) ((f b d).2.2.2.2.1) ((f b d).2.2.2.2.2))) (λb u _ _ a e _=>k b u a e) (λb u _ _ a e _=>⟨u.slots,k b u a e⟩)
  (λb u _ e n=>n) (λb u a e=>⟨u,k b u a e⟩) (λb i e=>e) (λb u i e=>e) (λb t e=>⟨#[],by rw[e];simp⟩) (λm j=>?_) (λb u e=>?_) I.bare
 ·refine iN j ?_;clear j;rintro h l o ⟨p,r⟩;exact iC h l o (k _ h (λz=>(f _ z).2.1 rfl) p) r
 ·refine(I.hok b u e).stay (λc v a q=>k c v ?_ q) (λc q=>q) λc i q=>q;rcases a with rfl|a
  ·exact g _ _ e
  ·exact g _ _ a
def SqK(k:Bool)(K:Frag)(H:Hp)(a:zW)(xs:zM):Prop:=match k with|true=>SqL K H a xs|false=>SqT K H a xs
def SrK(k:Bool)(h:yA)(l:zW)(xs:zG):Prop:=match k with|true=>h.IsList l xs|false=>h.IsTuple l xs
def StK(k:Bool)(it l:zW)(i:Nat)(h:yA):Prop:=match k with|true=>h.IsListIter it l i|false=>h.IsTupleIter it l i
abbrev itK(k:Bool):String:=match k with|true=>"list_iterator" |false=>"tuple_iterator"
theorem nxK:∀(k:Bool)(it l:zW),Nx it l (λi h=>StK k it l i h) (λxs h=>SrK k h l xs)|true=>oI|false=>oP
theorem pb{X:Cx}{pins:zD}{Z:St}{H:Hp}{s:zY}{a:zW}{xs:zM}(I:Inv X pins Z H s):∀{k:Bool},SqK k X.K H a xs->∃its:zH,A3b xs its/\SrK k s.heap a its.toArray|true,h=>let⟨its,rv,p,_⟩:=I.list h;(bd its rv p.isList)|false,h=>let⟨its,rv,p,_⟩:=I.tuple h;(bd its rv p)
theorem vN{X:Cx}{pins:zD}{Z:St}{H:Hp}{s:zY}{a:zW}{xs ys:zM}(I:Inv X pins Z H s):∀{k:Bool},SqK k X.K H a xs->SqK k X.K H a ys->xs=ys|true,h,g=>I.list_inj h g|false,h,g=>I.tuple_inj h g
theorem ltK{h:yA}{l:zW}{xs:zG}:∀{k:Bool},SrK k h l xs->l<h.objs.size|true,⟨_,e,_⟩=>fW e|false,⟨_,e,_⟩=>fW e
theorem vU{prog:yB}{w:yD}{A:zZ}{E:zA}{s:zY}{l:zW}{xs:zG}{Q:zA}:∀{k:Bool},SrK k s.heap l xs->Q (.ref s.heap.objs.size) {s with heap:=s.heap.push {cls:=.type (itK k),data:=.fields #[.ref l,.int 0 0]}}->wpAny (model prog w) A (pyIter (.ref l)) Q E s|true,h,q=>wpAny_pyIter_list h q|false,h,q=>wpAny_pyIter_tuple h q
theorem vq{h:yA}{it l:zW}:∀{k:Bool},h.get? it=some {cls:=.type (itK k),data:=.fields #[.ref l,.int 0 0]}->StK k it l 0 h|true,e=>(fJ _ e rfl rfl)|false,e=>(fJ _ e rfl rfl)
def Itk(k1 k2:Bool)(K:Frag)(a b:zW):It :=
 ⟨λi H=>∃d c x y,SqK k1 K H a d/\SqK k2 K H b c/\d[i]?=some x/\c[i]?=some y,
  λi H v e=>∃p,H p=none/\v=.ref p/\∃x y,(∀d,SqK k1 K H a d->d[i]?=some x)/\(∀c,SqK k2 K H b c->c[i]?=some y)/\e=upd H p (.tup [x,y]),
  λi H=>∃d c,SqK k1 K H a d/\SqK k2 K H b c/\(d.length<=i\/c.length<=i)⟩
def tZ(k1 k2:Bool)(z TI TO i1 i2 a b:zW)(i:Nat)(h:yA):Prop:=IsZip h z TI TO .none/\IsPair h TI (.ref i1) (.ref i2)/\(∃u v,IsPair h TO u v)/\StK k1 i1 a i h/\StK k2 i2 b i h
theorem vG{a:Bool}{k:Nat}(d:HdA e A)(g:HdF e [it] s.heap)(hi:StK a it l k s.heap)(b:SrK a s.heap l xs)(f:xs[k]?=none)
  (c:∀h' e,Heap.ExtBut it s.heap h'->(∃o,h'.get? e=some o/\o.cls=.type "StopIteration")->E (.ref e) {s with heap:=h'}):wpAny (model prog w) A (Builtin.SmallTypes.nextOf (.ref it)) Q E s:=by
 cases a with
 |true=>exact uo (CT d g hi b f c)
 |false=>exact uo (xb d g hi b f c)
section
variable{TI TO:zW}
theorem xy{a b:zX}{Q:zN->zY->Prop}(J:HdA e A)(r:HdF e [z,TI,TO,i1,i2] s.heap)(D:ZipApart z TI TO i1 i2 l1 l2)
  (hz:IsZip s.heap z TI TO .none) (y:IsPair s.heap TI (.ref i1) (.ref i2)) (u:IsPair s.heap TO a b) (h1:StK q1 i1 l1 k1 s.heap) (h2:StK q2 i2 l2 k2 s.heap) (v:SrK q1 s.heap l1 xs) (H:SrK q2 s.heap l2 ys) (k:xs[k1]?=none\/ys[k2]?=none)
  (hQ:∀h',(∀c o,c≠z->c≠TO->c≠i1->c≠i2->s.heap.get? c=some o->h'.get? c=some o)->Q none {s with heap:=h'}):wpAny (model prog w) A (pyNext (.ref z)) Q E s:=by
 have L:s.TypeIs (.ref z) "zip":=(bd _ hz rfl);have N1:=nxK q1 i1 l1;have N2:=nxK q2 i2 l2;unfold pyNext
 have m:∀(h':yA)(e:zW),(∀c o,c≠z->c≠TO->c≠i1->c≠i2->s.heap.get? c=some o->h'.get? c=some o)->(∃o,h'.get? e=some o/\o.cls=.type "StopIteration")->
   wpAny (model prog w) A (isInstance (.ref e) (.type "StopIteration")>>=λb=>if b=true then pure none else throw (.ref e)) Q E {s with heap:=h'}:=λh' e r ⟨o,ho,hc⟩=>
  bc (wpAny_isInstance (T:="StopIteration") (b:=true) (bd o ho hc) isSubtype_stop (ck (hQ _ r)))
 refine bc (wpAny_attempt (lh (name:=Str.ofString "__next__") L F.slot_zip_next (jb F.slot_zip_next L F.entry_zip_next ?_ (F.args_zip_next_1 _))));show wpAny _ _ (field (.ref z) 2>>=_) _ _ _;refine bc (jc hz rfl (x:=.bool false) rfl ?_);show wpAny _ _ (field (.ref z) 3>>=_) _ _ _;refine bc (jc hz rfl (x:=.ref TI) rfl ?_);refine bc (jL y rfl ?_);show wpAny _ _ (Builtin.SmallTypes.ownedTupleIsFree (.ref z)>>=_) _ _ _;refine bc ?_;unfold Builtin.SmallTypes.ownedTupleIsFree;refine bc (jc hz rfl (x:=.none) rfl (ck ?_));simp only [if_true];refine bc (wpAny_rule ?_);refine bc (jc hz rfl (x:=.ref TO) rfl ?_);refine bc (jV hz (by simp) λX p i=>?_)
 replace p:IsZip X z TI TO .ellipsis:=p
 refine bc ?_;simp only [List.zipIdx_cons,List.zipIdx_nil,List.forIn_cons,List.forIn_nil];refine bc (bc (wpAny_onRaise ?_));show wpAny _ _ (Builtin.SmallTypes.nextOf (.ref i1)>>=_) _ _ _;have S:=N1.mv h1 λo e=>i.extBut _ _ D.i1z e;have K:=N1.mvS v λo e=>i.extBut _ _ D.l1z e
 cases hx:xs[k1]? with
 |none=>
  refine bc (vG J (r.at (λh o n q=>i.extBut _ _ (n z (by simp)) q) (by simp)) S K hx λG e g B=>?_);obtain⟨t,d,f⟩:=B;have R:IsZip G z TI TO .ellipsis:=g _ _ D.i1z.symm p;have I:e≠z:=λx=>by subst x;rw[R]at d;cases d;simp at f
  exact jV R (by simp) λO _ j=>m O e (λc o l _ C _ x=>j.extBut _ _ l (g _ _ C (i.extBut _ _ l x))) (bd t (j.extBut _ _ I d) f)
 |some x=>
  have hy:ys[k2]?=none:=by
   rcases k with h|h
   ·rw[hx]at h;cases h
   ·exact h
  refine bc (N1.item S K hx λG t2 g=>ck ?_);have N:IsPair G TO a b:=g.extBut _ _ D.TOi1 (i.extBut _ _ D.TOz u);refine bc (jL N rfl ?_);refine bc (wpAny_updateSeq_pair N λO p3 j=>?_);refine bc (wpAny_letGo (ck ?_));refine bc (bc (wpAny_onRaise ?_));show wpAny _ _ (Builtin.SmallTypes.nextOf (.ref i2)>>=_) _ _ _;refine bc (vG J (r.at (λh o n q=>j.extBut _ _ (n TO (by simp)) (g.extBut _ _ (n i1 (by simp)) (i.extBut _ _ (n z (by simp)) q))) (by simp)) (N2.mv h2 λo e=>j.extBut _ _ D.TOi2.symm (g.extBut _ _ D.i12.symm (i.extBut _ _ D.i2z e))) (N2.mvS H λo e=>j.extBut _ _ D.l2TO (g.extBut _ _ D.l2i1 (i.extBut _ _ D.l2z e))) hy λZ e U B=>?_);obtain⟨t,d,f⟩:=B;have P:IsZip Z z TI TO .ellipsis:=U _ _ D.i2z.symm (j.extBut _ _ D.TOz.symm (g.extBut _ _ D.i1z.symm p));have I:e≠z:=λx=>by subst x;rw[P]at d;cases d;simp at f
  exact jV P (by simp) λY _ M=>m Y e (λc o l W C c4 x=>M.extBut _ _ l (U _ _ c4 (j.extBut _ _ W (g.extBut _ _ C (i.extBut _ _ l x))))) (bd t (M.extBut _ _ I d) f)
end
def xcG(b C:zW)(od:zO):yA->Prop:=λh=>∃o a,h.get? b=some o/\o.cls=.ref C/\o.dict=od/\o.data=.fields a/\a[2]?=some .none
def HdO(e:zO)(H:Hp):Prop:=∀a,e=some a->∃C b,H a=some (.ext (xcG a C b))
theorem HdO.heap(h:HdO e H)(I:Inv X pins Z H s)(g:∀b∈fp,kf X pins H b):HdF e fp s.heap:=λa z=>by obtain⟨C,f,d⟩:=h a z;obtain⟨⟨o,j,m,_,_,i,k⟩,_,_⟩:=(show A1w X.prog X.w H s.heap a (.ext (xcG a C f)) from I.hok a _ d);exact⟨(fC o j m i k),λc l y=>by rw[y,(g c l).1]at d;cases d⟩
def ItO(e:zO)(J:It):It:=⟨J.go,J.yld,λi H=>J.stop i H/\HdO e H⟩
theorem E9{k1 k2:Bool}{TI TO:zW}(D:ZipApart z TI TO i1 i2 a b):
  A8x (HdA e) P w K (.Tuple elts kk pos) (ItO e (Itk k1 k2 K a b)) [z,TI,TO,i1,i2] z (tZ k1 k2 z TI TO i1 i2 a b) where
 mem:=by simp
 obj:=λi h f c d=>by
  refine ji f ?_;clear f;rintro p j ⟨u,v,q⟩ r n;simp only [gB,mf,or_false]at d;rcases d with rfl|rfl|rfl|rfl|rfl
  ·exact bd _ p λv z=>by cases(show Data.fields _=Data.cell v from z)
  ·exact bd _ j λv z=>by cases(show Data.seq _ _=Data.cell v from z)
  ·exact bd _ q λv z=>by cases(show Data.seq _ _=Data.cell v from z)
  ·exact(nxK k1 _ a).ob r
  ·exact(nxK k2 _ b).ob n
 keep:=λi h Q f k=>by refine ji f ?_;clear f;rintro p j ⟨u,v,q⟩ r n;exact iV (k z (by simp) _ p) (k TI (by simp) _ j) (ij u v (k TO (by simp) _ q)) ((nxK k1 i1 a).mv r λo e=>k i1 (by simp) o e) ((nxK k2 i2 b).mv n λo e=>k i2 (by simp) o e)
 item:=by
  intro X W hw O d i t s Z H E I F f J;subst W hw O;refine iN J ?_;clear J;rintro xs ys x ⟨y,m,l,T,hy⟩;obtain⟨Y,N,R⟩:=pb I m;obtain⟨C,A,p2⟩:=pb I l;obtain⟨u,hu,ru⟩:=N.get T;obtain⟨u2,U,L⟩:=A.get hy;refine ji f ?_;clear f;rintro p j ⟨o1,o2,q⟩ r n;refine xQ (nxK k1 i1 a) (nxK k2 i2 b) D p j q r n R p2 (x:=u) (by simpa using hu) (y:=u2) (by simpa using U) λQ z1 z2 z3 z4 z5 G=>?_;refine bd _ rfl (wpAny_letOwnedTupleGo_zip (s:={s with heap:=Q}) z1 λg zg B=>?_)
  have nz:s.heap.objs.size≠z:=jm (fW p);have n2:TI<s.heap.objs.size:=fW j;have n3:TO<s.heap.objs.size:=fW q;have n4:i1<s.heap.objs.size:=let⟨_,e,_⟩:=(nxK k1 i1 a).ob r;fW e;have n5:i2<s.heap.objs.size:=let⟨_,e,_⟩:=(nxK k2 i2 b).ob n;fW e;have zq:IsPair g s.heap.objs.size u u2:=B.extBut _ _ nz z5
  have I1:Inv X t Z (upd H s.heap.objs.size (.tup [x,y])) {s with heap:=g,toks:=s.toks}:=I.turnedNew (ts:=[z,TI,TO,i1,i2]) (λc o d e=>by
   simp only [gB,mf,or_false,not_or]at d
   exact B.extBut _ _ d.1 (G c o d.1 d.2.2.1 d.2.2.2.1 d.2.2.2.2 e)) F (fH _) (qB (by show 2<=sizeLine;decide) [u,u2] (.cons ru (.cons L .nil)) _ zq rfl _ rfl)
  refine⟨.ref s.heap.objs.size,_,I1,rfl,(bd _ (I.hok.fresh (fH _)) (jg rfl x y (λzs S=>by rw[vN I S m];exact T) (λzs S=>by rw[vN I S l];exact hy) rfl)),
   (iV zg (B.extBut _ _ D.TIz (G _ _ D.TIz D.TITO D.TIi1 D.TIi2 j)) (ij _ _ (B.extBut _ _ D.TOz z2)) ((nxK k1 i1 a).mv z3 λo e=>B.extBut _ _ D.i1z e) ((nxK k2 i2 b).mv z4 λo e=>B.extBut _ _ D.i2z e)),λc d=>?_⟩
  have M:c≠s.heap.objs.size:=by
   simp only [gB,mf,or_false]at d;rcases d with rfl|rfl|rfl|rfl|rfl
   ·exact nz.symm
   ·exact im n2
   ·exact im n3
   ·exact im n4
   ·exact im n5
  rw[eh M];exact(F c d).1
 done:=by
  intro X W hw O d i t s Z H E I F f J;subst W hw O;obtain⟨⟨xs,ys,m,l,T⟩,hO⟩:=J;have hF:=hO.heap I F;obtain⟨Y,N,R⟩:=pb I m;obtain⟨C,A,p2⟩:=pb I l;have e1:=N.length;have e2:=A.length;refine ji f ?_;clear f;rintro p j ⟨o1,o2,q⟩ r n;refine xy d hF D p j q r n R p2 (by simp;lia) λQ G=>⟨rfl,?_⟩
  exact I.turnedL (t':=s.toks) (ts:=[z,TI,TO,i1,i2]) (λc o d e=>by
   simp only [gB,mf,or_false,not_or]at d
   exact G c o d.1 d.2.2.1 d.2.2.2.1 d.2.2.2.2 e) F
 self:=λ_ _ _ _ _ f h=>wpAny_pyIter_zip f.1 h
theorem C3g.of(T:A8x (HdA none) P w K tg (ItO none J) fp it tn):C3g P w K tg J fp it tn:=⟨T.mem,T.obj,T.keep,T.item,λX a b c d i e s Z H E I f g q=>T.done X a b c d i e s Z H E I f g ⟨q,λ_ z=>nomatch z⟩,T.self⟩
theorem Fq{k1 k2:Bool}{TI TO:zW}(D:ZipApart z TI TO i1 i2 a b):
  C3g P w K (.Tuple elts kk pos) (Itk k1 k2 K a b) [z,TI,TO,i1,i2] z (tZ k1 k2 z TI TO i1 i2 a b):=
 C3g.of (E9 D)
abbrev qK(k1:Bool)(h:yA)(l1:zW):yA:=h.push {cls:=.type (itK k1),data:=.fields #[.ref l1,.int 0 0]}
abbrev qO(k1 k2:Bool)(h:yA)(l1 l2:zW):yA:=(qK k1 h l1).push {cls:=.type (itK k2),data:=.fields #[.ref l2,.int 0 0]}
noncomputable abbrev qR(k1 k2:Bool)(h:yA)(l1 l2:zW):yA:=(qO k1 k2 h l1 l2).push {cls:=.type "tuple",data:=.seq #[.ref h.objs.size,.ref (qK k1 h l1).objs.size]}
noncomputable abbrev qS(k1 k2:Bool)(h:yA)(l1 l2:zW):yA:=(qR k1 k2 h l1 l2).push {cls:=.type "tuple",data:=.seq #[.none,.none]}
noncomputable abbrev pd(k1 k2:Bool)(h:yA)(l1 l2:zW):yA:=(qS k1 k2 h l1 l2).push {cls:=.type "zip",data:=.fields #[.none,.bool false,.bool false,.ref (qO k1 k2 h l1 l2).objs.size,.ref (qR k1 k2 h l1 l2).objs.size]}
theorem Fy(k1 k2:Bool)(l1 l2:zW)(xs ys:zG):Meets (Builtin.«zip.__new__» ⟨[.type "zip",.ref l1,.ref l2],[]⟩) (λ_ R s=>SrK k1 s.heap l1 xs/\SrK k2 s.heap l2 ys/\
  R (.ok (.ret (.ref (qS k1 k2 s.heap l1 l2).objs.size))) {s with heap:=pd k1 k2 s.heap l1 l2}):=
 .of_wp λm w A R s h=>by
  obtain⟨j,g,d,k,i⟩:=s;obtain⟨b,c,h⟩:=h;have l:=sub_zip;have a:SrK k1 (Shared.heap ⟨j,g,d,k,i⟩) l1 xs:=b;have f:SrK k2 (Shared.heap ⟨j.push {cls:=.type (itK k1),data:=.fields #[.ref l1,.int 0 0]},g,d,k,i⟩) l2 ys:=(nxK k2 0 l2).mvS c λo e=>fS _ e
  wp_walk using vU a,vU f
  exact bd _ rfl h
theorem yG{k1 k2:Bool}{prog:yB}{w:yD}{A:zZ}{E:zA}{s:zY}{l1 l2:zW}{xs ys:zG}{Q:zA}(a:SrK k1 s.heap l1 xs)(g:SrK k2 s.heap l2 ys)
  (h:∀h',tZ k1 k2 (s.heap.objs.size+4) (s.heap.objs.size+2) (s.heap.objs.size+3) s.heap.objs.size (s.heap.objs.size+1) l1 l2 0 h'->(∀c o,s.heap.get? c=some o->h'.get? c=some o)->Q (.ref (s.heap.objs.size+4)) {s with heap:=h'}):
  wpAny (model prog w) A (call (.type "zip") [.ref l1,.ref l2]) Q E s:=by
 refine callType_new F.called_zip (by decide) (F.typeCall_zip_2 _ _) (F.newCall_zip_2 _ _) (λb=>F.args_object_init_3 b _ _) F.entry_zip_new (Fy k1 k2 l1 l2 xs ys) (fL a g ?_);have i:(qK k1 s.heap l1).objs.size=s.heap.objs.size+1:=me ..;have d:(qO k1 k2 s.heap l1 l2).objs.size=s.heap.objs.size+2:=by rw[me,i]
 have e:(qR k1 k2 s.heap l1 l2).objs.size=s.heap.objs.size+3:=by rw[me,d]
 have j:(qS k1 k2 s.heap l1 l2).objs.size=s.heap.objs.size+4:=by rw[me,e]
 have f:(pd k1 k2 s.heap l1 l2).get? (qS k1 k2 s.heap l1 l2).objs.size=some _:=gR _ rfl;have m:(pd k1 k2 s.heap l1 l2).get? (qR k1 k2 s.heap l1 l2).objs.size=some _:=fS _ (gR _ rfl);have l:(pd k1 k2 s.heap l1 l2).get? (qO k1 k2 s.heap l1 l2).objs.size=some _:=fS _ (fS _ (gR _ rfl));have k:(pd k1 k2 s.heap l1 l2).get? (qK k1 s.heap l1).objs.size=some _:=fS _ (fS _ (fS _ (gR _ rfl)));have n:(pd k1 k2 s.heap l1 l2).get? s.heap.objs.size=some _:=fS _ (fS _ (fS _ (fS _ (gR _ rfl))));show _/\_;rw[d,e,j]at f;rw[i,d]at l;rw[e]at m;rw[i]at k;rw[j];exact⟨(bd _ f rfl),h _ (iV f l (ij _ _ m) (vq n) (vq k)) λc o x=>fS _ (fS _ (fS _ (fS _ (fS _ x))))⟩
def A6(k1 k2:Bool)(K:Frag)(ta:TA):TI:=λZ H R=>ta Z H λf c=>∃a b e d,f=[.ref a,.ref b]/\SqK k1 K c a e/\SqK k2 K c b d/\R (Itk k1 k2 K a b) c
theorem Ck{k1 k2:Bool}{X:Cx}{elts:zT}{kk:Nat}{tpos:Pos}{a b:yC}{ta:TA}{p pos:Pos}(M:Gl X "zip")(J:X.mg "zip"=none)(O:PA X [a,b] ta)(D:starEach [a,b] X.env=[(false,eval a X.env),(false,eval b X.env)]:=by rfl)(i:starEach [b] X.env=[(false,eval b X.env)]:=by rfl):
  PI X (.Tuple elts kk tpos) (.Call (.Name "zip" p) [a,b] [] pos) (A6 k1 k2 X.K ta):=by
 intro f s Z H R I h;refine Call_ (mM I M J boot_zip (PyProof.Rows.callWith_type1 (thn (O pos f s Z H _ I h) λU d ⟨P,r,I1,A,n⟩=>?_) (by rw[D,i]) (by rw[i];rfl)));refine iN n ?_;clear n;rintro L G T ⟨S,e,k,l,q⟩;subst e;refine fO (rf A) ?_;rintro u Q rfl B j;cases B;cases j;obtain⟨C,W,m⟩:=pb I1 k;obtain⟨o,x,v⟩:=pb I1 l;have N:L<d.heap.objs.size:=ltK m;have z:G<d.heap.objs.size:=ltK v;refine yG m v λF w y=>wpAny_pyIter_zip w.1 ?_;have I2:Inv X f Z r {d with heap:=F}:=I1.kept (t':=d.toks) y;refine kN _ [d.heap.objs.size+4,d.heap.objs.size+2,d.heap.objs.size+3,d.heap.objs.size,d.heap.objs.size+1] _ _ r rfl I2 (Fq (zipApart_new N z)) w (λc t=>?_) q
 have g:d.heap.objs.size<=c:=by
  simp only [gB,mf,or_false]at t;rcases t with rfl|rfl|rfl|rfl|rfl
  ·exact Nat.le_add_right _ _
  ·exact Nat.le_add_right _ _
  ·exact Nat.le_add_right _ _
  ·exact fH _
  ·exact Nat.le_add_right _ _
 exact I1.fpOk g (I1.hok.fresh g)
theorem Eh{k1 k2:Bool}{xs ys:zM}{D:lO}(Pv:Nat->St->Hp->Prop)(h0:Pv 0 Z H)(k:∀i Z H,Pv i Z H->SqK k1 K H a xs/\SqK k2 K H b ys)(j:xs.length<=ys.length)
  (o:∀i x y Z H p,xs[i]?=some x->ys[i]?=some y->Pv i Z H->H p=none->g (.ref p) Z (upd H p (.tup [x,y])) λZ2 H2=>tb {D with nx:=Pv (i+1),ct:=Pv (i+1),bk:=D.nx} Z2 H2) (l:∀Z H,Pv xs.length Z H->D.nx Z H):
  ∃W:Nat->Nat->St->Hp->Prop,(∃m,W 0 m Z H)/\∀i m Z H,W i m Z H->
   ((Itk k1 k2 K a b).stop i H/\D.nx Z H)\/((Itk k1 k2 K a b).go i H/\∃N:St->Hp->Prop,(∀Z' H',N Z' H'->∃h,h<m/\W (i+1) h Z' H')/\∀x H',(Itk k1 k2 K a b).yld i H x H'->g x Z H' λZ2 H2=>tb {D with nx:=N,ct:=N,bk:=D.nx} Z2 H2):=by
 refine bd (λi m Z H=>m=xs.length-i/\i<=xs.length/\Pv i Z H) (fJ xs.length (by simp) (jj _) h0) ?_;rintro i m Z H ⟨rfl,w,p⟩;obtain⟨f,d⟩:=k i Z H p;by_cases hlt:i<xs.length
 ·have u:xs[i]?=some xs[i]:=gU hlt;have n:ys[i]?=some (ys[i]'(by lia)):=gU _;refine .inr (gT ⟨xs,(gE ys _ _ f d u n)⟩ (Pv (i+1)) (λZ' H' q=>(iU (xs.length-(i+1)) (by lia) rfl hlt q)) λv H' y=>?_);refine iD y ?_;clear y;rintro c t rfl ⟨x,z,r,s,rfl⟩;exact o i x z Z H c (r xs f) (s ys d) p t
 ·have e:i=xs.length:=by lia
  subst e;exact .inl ⟨(fC xs ys f d (.inl (fH _))),l Z H p⟩
abbrev GN:=@yG true false
abbrev Ek:=@Ck true false
abbrev De{K:Frag}{a b:zW}{xs ys:zM}{g:TG}{tb:TS}{D:lO}{Z:St}{H:Hp}(Pv:Nat->St->Hp->Prop)(h0:Pv 0 Z H)(d:∀i Z H,Pv i Z H->SqL K H a xs/\SqT K H b ys)(c:xs.length=ys.length):=Eh (k1:=true) (k2:=false) (g:=g) (tb:=tb) (D:=D) Pv h0 d (Nat.le_of_eq c)
def Itv(K:Frag)(a:zW)(n:Nat):It :=⟨λi H=>∃b x,SqL K H a b/\b.length=n/\i<n/\b[n-1-i]?=some x,λi H x c=>c=H/\∀b,SqL K H a b->b[n-1-i]?=some x,λi _=>i=n⟩
theorem Em(a it:zW)(n:Nat):C3g P w K tg (Itv K a n) [it] it (λi h=>h.IsRevIter it a ((n:Int)-1-(i:Int))) where
 mem:=by simp
 obj:=λi h f b l=>by
  have e:b=it:=by simpa using l
  subst e;obtain⟨o,e,c,d⟩:=f;exact bd o e λv z=>by rw[d]at z;cases z
 keep:=λi h q f k=>f.at λo e=>k it (by simp) o e
 item:=by
  intro X y F D M i g s Z H E I m f r;subst y F D;refine fV r λxs x O hn N L=>?_;clear r;obtain⟨W,T,p,hz⟩:=I.list O;obtain⟨u,hu,Y⟩:=T.get L;refine ji (m it (by simp)) ?_;rintro A J f2 t ⟨C,G⟩;have B:(n:Int)-1-(i:Int)=((n-1-i:Nat):Int):=by lia
  rw[B]at f;refine wpAny_pyNext_rev_item f p.isList (x:=u) (by simpa using hu) λq j R=>?_;have I1:Inv X g Z H {s with heap:=q}:=I.turned (t':=s.toks) (λb o l e=>(R.2 b l).trans e) A J t C G
  have U:((n-1-i:Nat):Int)-1=(n:Int)-1-((i+1:Nat):Int):=by lia
  rw[U]at j;obtain⟨o,e,c,d⟩:=id j;exact bd u rfl (pX (s:={s with heap:=q}) e c d (by decide) (jr x H I1 Y ⟨rfl,λys Q=>by rw[I.list_inj Q O];exact L⟩ j λb l=>(m b l).1))
 done:=by
  intro X y F D M i g s Z H E I m f r;subst y F D;have N:i=n:=r;subst N;refine ji (m it (by simp)) ?_;rintro A J f2 t ⟨C,G⟩;have B:(i:Int)-1-(i:Int)= -1:=by lia
  rw[B]at f;exact wpAny_pyNext_rev_end M f λq S=>⟨rfl,I.turned (t':=s.toks) (λb o l e=>S b o l e) A J t C G⟩
 self:=λ_ _ _ _ _ f h=>wpAny_pyIter_revIter f h
def iRev(K:Frag)(ta:TA):TI:=λZ H R=>ta Z H λd c=>∃a b,d=[.ref a]/\SqL K c a b/\R (Itv K a b.length) c
theorem Cc{a:yC}{ta:TA}{p:Pos}(A:Gl X "reversed")(y:X.mg "reversed"=none)(B:PA X [a] ta)(x:starEach [a] X.env=[(false,eval a X.env)]:=by rfl):
  PI X tg (.Call (.Name "reversed" p) [a] [] pos) (iRev X.K ta):=by
 intro d s Z H R I h;refine Call_ (mM I A y boot_reversed (PyProof.Rows.callWith_type1 (thn (B pos d s Z H _ I h) λD c ⟨C,n,I1,v,j⟩=>?_) x rfl));refine fO j λl f e z q=>?_;clear j;subst e;obtain⟨u,rfl,w⟩:=mq v;cases w;obtain⟨g,t,k,_⟩:=I1.list z;have m:(g.toArray.size:Int)-1=(f.length:Int)-1-((0:Nat):Int):=by rw[iL,<-t.length];lia
 refine call_reversed_list k.isList ?_;rw[m];have i:(c.heap.push (revObj l ((f.length:Int)-1-((0:Nat):Int)))).IsRevIter c.heap.objs.size l ((f.length:Int)-1-((0:Nat):Int)):=(fJ _ (gR _ rfl) rfl rfl);refine wpAny_pyIter_revIter (s:={c with heap:=c.heap.push (revObj l ((f.length:Int)-1-((0:Nat):Int)))}) i ?_;refine kN _ [c.heap.objs.size] _ _ n rfl (I1.kept (t':=c.toks) λb o e=>fS _ e) (Em l _ f.length) i (λb r=>?_) q
 have e:b=c.heap.objs.size:=by simpa using r
 subst e;exact I1.fpOk (fH _) (I1.hok.fresh (fH _))
structure mU(X:Cx)(scope:Scope)(cl:List (Str×zW)):Prop where
 eq:closureFor scope X.env=pure cl
 sub:∀x c,cl.lookup x=some c->X.env.cells.lookup x=some c
 has:∀x,((relabel scope X.env).names.lookup x=some .cell\/(relabel scope X.env).names.lookup x=some .free)->∃c,cl.lookup x=some c
 kind:scope.kind=.function
 ncell:∀y∈scope.names,y.2≠.cell
 names:∀y∈scope.names,y.2=.local->scope.names.lookup y.1=some .local
noncomputable def blk(X:Cx)(N':zC)(scope:Scope)(cl:List (Str×zW))(C:zW)(s₀:zY)(H₀:Hp)(fp:zQ):Cx :={X with N:=N',s₀:=s₀,H₀:=H₀,env:=compEnvC scope cl C X.env,outer:=X.stack,ex:=fp,fn:=λ_=>false,pn:=[],xe:=λ_ _=>False}
def kB(ix:List (Option Nat))(Z:St):St:=ix.map λo=>o.bind λj=>(Z[j]?).bind id
def nw(X:Cx)(N':zC)(scope:Scope)(ix:List (Option Nat)):Prop :=
 ix.length=N'.length/\∀i j:Nat,ix[i]?=some (some j)->∃x,N'[i]?=some x/\X.N[j]?=some x/\(X.env.scope.names.lookup x=some .cell\/X.env.scope.names.lookup x=some .free)/\
  ((relabel scope X.env).names.lookup x=some .cell\/(relabel scope X.env).names.lookup x=some .free)
theorem Bq(I:Inv X pins Z H s)(d:mU X scope cl)(f:∀b∈fp,kf X pins H b)(g:∀b∈fp,b<s.heap.objs.size):(blk X N' scope cl s.heap.objs.size s H fp).Ok where
 mod:=I.ok.mod
 kind:=d.kind
 glob:=I.ok.glob
 blt:=I.ok.blt
 above:=fH _
 inj:=λx y c i j=>I.ok.inj x y c (d.sub x c i) (d.sub y c j)
 has:=λx h=>d.has x h
 cab:=λx c h=>by cases h
 hd:=I.ok.hd
 frames:=I.ok.frames
 stk:=.inl rfl
 exf:=λb a=>⟨im (g b a),λx c h=>(f b a).2.2.2.2.1 x c (d.sub x c h)⟩
 bs:=I.bs
 bsz:=jU I.ok.bsz I.sz
 noex:=λb o e a=>by
  rcases(f b a).2.2.2.1 with z|z
  ·exact I.ok.noex b o e z
  ·exact absurd (jM (fW (I.ok.bs b o e).1) z) (Nat.lt_irrefl _)
 exfs:=λb a k=>by
  rcases gB.mp (I.stkSub b k)with z|z
  ·exact(f b a).2.1 z
  ·exact(f b a).2.2.1 z
 funs:=I.stack
 frf:=I.stkFree
theorem Fr(I:Inv X pins Z H s)(n:mU X scope cl)(C:nw X N' scope ix)(f:∀b∈fp,kf X pins H b)(B:∀b∈fp,b<s.heap.objs.size){m:zE}
  (J:h'.Ns s.heap.objs.size m) (k:∀b o,s.heap.get? b=some o->h'.get? b=some o):Inv (blk X N' scope cl s.heap.objs.size s H fp) [] (kB ix Z) H {s with heap:=h',toks:=t'}:=by
 have A:∀x c,cl.lookup x=some c->∃v,s.heap.IsCell c v:=λx c h=>I.cell x c (n.sub x c h);refine⟨Bq I n f B,rfl,I.bare,Un.kept k,(bd m J λi x v N d E=>?_),λx c e=>?_,I.hok.fresh (fH _),λx c e=>I.freeC x c (n.sub x c e),(λp Q=>by cases Q),I.hok.kept k,?_⟩
 ·unfold kB at d;rw[ju]at d
  cases hi:ix[i]? with
  |none=>rw[hi]at d;cases d
  |some o=>
   rw[hi]at d
   cases o with
   |none=>cases iO d
   |some j=>
    have a:(Z[j]?).bind id=some v:=iO d;refine iD (C.2 i j hi) ?_;rintro l K M ⟨g,F⟩;have U:l=x:=iO (K.symm.trans N);subst U
    have S:Z[j]?=some (some v):=by
     cases q:Z[j]? with
     |none=>rw[q]at a;cases a
     |some w=>rw[q]at a;exact congrArg some a
    obtain⟨Y,_,O⟩:=I.loc;obtain⟨u,R,L⟩:=O j l v M S (g.elim (λz=>.inr (.inl z)) λz=>.inr (.inr z));refine bd u R (.inr ⟨F,?_⟩);obtain⟨c,D⟩:=n.has l F;refine bd c D ?_;rcases L with ⟨z,_⟩|⟨_,W,t,G⟩
    ·exfalso;have P:X.env.scope.names.lookup l=some .local:=z;rcases g with g|g<;>(rw[P]at g;cases g)
    ·have T:W=c:=iO (t.symm.trans (n.sub l c D));subst T;obtain⟨o,y,r⟩:=G;exact bd o (k _ _ y) r
 ·obtain⟨v,o,y,r⟩:=A x c e;exact gF v o (k _ _ y) r
 ·unfold kB;rw[eA];exact C.1
theorem Dd(I:Inv X pins Z H s)(f:∀b∈fp,kf X pins H b)(J:Inv (blk X N' scope cl s.heap.objs.size s H fp) pl Z' H' s')(g:Heap.SameBut s.heap.objs.size s'.heap h'):
  Inv X pins Z H' {s' with heap:=h'}:=by
 have i:∀b o,s.heap.get? b=some o->b≠s.heap.objs.size:=λb o e=>im (fW e);have j:H' s.heap.objs.size=none:=J.free;have u:Un (frs X.stack) fp H H' s.heap s'.heap:=J.base
 refine I.call' (ch:=fp) (s':={s' with heap:=h'}) J.os ⟨λb o e n a d=>(g.2 b (i b o e)).trans (u.keep b o e n a d),λb o e n a d=>?_,u.free,λb o e d=>?_,u.tups,u.frzs,u.tbls⟩ (λb o e=>?_) J.bare
  (λb a=>(iW ((f b a).2.2.2.1) ((f b a).2.1) ((f b a).2.2.2.2.1) ((f b a).2.2.2.2.2)))
 ·obtain⟨l,q⟩:=u.slot b o e n a d;exact⟨l,(g.2 b (i b o e)).trans q⟩
 ·obtain⟨k,q⟩:=u.there b o e d;exact⟨k,(g.2 b (i b o e)).trans q⟩
 ·refine(J.hok b o e).stay (λc v h q=>(g.2 c ?_).trans q) (λc q=>q) λc m q=>q;rcases h with rfl|h
  ·exact gh e j
  ·exact gh h j
def A2z:St->St->Prop| [],_=>True|none::r,_::r'=>A2z r r'|none::r,[]=>A2z r []|some v::r,w::r'=>w=some v/\A2z r r'|some _::_,[]=>False
theorem A2z.get:∀{a b:St},A2z a b->∀(j:Nat) v,a[j]?=some (some v)->b[j]?=some (some v)
 | [],_,_,_,_,e=>by simp at e
 |none::r,_::r',h,0,v,e=>by simp at e
 |none::r,_::r',h,j+1,v,e=>by simpa using A2z.get (a:=r) (b:=r') h j v (by simpa using e)
 |none::r,[],h,0,v,e=>by simp at e
 |none::r,[],h,j+1,v,e=>by have:=A2z.get (a:=r) (b:=[]) h j v (by simpa using e);simp at this
 |some w::r,_::r',h,0,v,e=>by
  have c:w=v:=by simpa using e
  subst c
  simpa using h.1
 |some _::r,_::r',h,j+1,v,e=>by simpa using A2z.get (a:=r) (b:=r') h.2 j v (by simpa using e)
def tN(ix:List (Option Nat))(wi:TI)(g:TG)(te:TE):TE:=λZ H Q=>wi Z H λJ f=>∀D,f D=none->∃W:Nat->Nat->Hp->Prop,(∃m,W 0 m (upd f D (.lst [])))/\∀i m a,W i m a->
 (J.stop i a/\Q (.ref D) a)\/(J.go i a/\∃N:VK,(∀y b,N y b->∃c,b D=some (.lst c)/\c.length<sizeLine/\∃e,e<m/\W (i+1) e (upd b D (.lst (c++[y]))))/\∀x d,J.yld i a x d->g x (kB ix Z) d λZ4 h=>A2z (kB ix Z) Z4/\te Z4 h N)
section
variable{e o:yC}{es:zT}
def BL(X:Cx)(m:Str)(ta:TE)(t:TA):TE:=λZ H Q=>ta Z H λx e=>∃(a C j:zW)(b:zK)(k:Nat)(f:zW)(d:zS)(c:zC)(g:Sp),x=.ref a/\e a=some (.ins C j b)/\Cls X.K C/\lQ X.K C m f/\b.lookup m=none/\
 A4x X.prog X.w X.K X.mg X.base jk k f d c g/\A7s k X.A/\A9v X.K d c []/\t Z e λh i=>g (x::h) i Q E0
theorem oO{pl:Sem Bool}(A:PE X o ta)(J:PA X (e::es) t)
  (d:starEach (e::es) X.env=(false,eval e X.env)::starEach es X.env:=by rfl) (g:(backTo pos (starEach es X.env)).any (·.1)=false:=by rfl)
  (D:eval (.Call (.Attribute o m apos) (e::es) [] pos) X.env=(do
   let ov<-eval o X.env
   standAt apos.atName
   let(f,first)<-holding [ov] (getMethod ov m pl)
   callWith pos f first (backTo pos (starEach (e::es) X.env)) (backToKw pos (keywordEach [] X.env))):=by rfl):
  PE X (.Call (.Attribute o m apos) (e::es) [] pos) (BL X m ta t):=by
 intro b s Z H Q I h;refine PySem.W.methodCall_KW (pl:=pl) (thn (A b s Z H _ I h) ?_) D;rintro u w i;refine oU i ?_;clear i;rintro x v I1 B a C P ⟨K,k,f,O,N,R,G,p,c,j,l,F,z,y,q⟩;subst G;obtain rfl:u=Value.ref a:=B;refine Fw I1 p c j l ?_;refine PySem.W.callWith_K (first:=[.ref a]) (h₀:=X.base) I.ok.mod.kin j.kp (thn (J pos b w Z v _ I1 q) λus M ⟨vs,L,I2,r,n⟩=>⟨I2.kIn,?_⟩) d g;exact wE (us:=.ref a::us) (vs:=.ref a::vs) (dvs:=[]) F z y .nil tO I2 (.cons rfl r) (by rw[kQ];exact n)
end
mutual
inductive Rep(H:Hp):V->PyData->Prop|non:Rep H .non .none|bl (b:Bool):Rep H (.bl b) (.bool b)|int (i:Int):Rep H (.int i) (.int i)|str (x:Str):Rep H (.str x) (.str x)|lst {p:zW} {xs:zM} {ds:List PyData}:H p=some (.lst xs)->A3v H xs ds->Rep H (.ref p) (.list ds)|tup {p:zW} {xs:zM} {ds:List PyData}:H p=some (.tup xs)->A3v H xs ds->Rep H (.ref p) (.tuple ds)
inductive A3v(H:Hp):zM->List PyData->Prop|nil:A3v H [] []|cons {v:V} {vs:zM} {d:PyData} {ds:List PyData}:Rep H v d->A3v H vs ds->A3v H (v::vs) (d::ds)
end
mutual
theorem Rep.imp{H H':Hp}(f:∀p o,H p=some o->H' p=some o):∀{v:V}{d:PyData},Rep H v d->Rep H' v d|_,_,.non=>.non|_,_,.bl b=>.bl b|_,_,.int i=>.int i|_,_,.str x=>.str x|_,_,.lst e r=>.lst (f _ _ e) (A3v.imp f r)|_,_,.tup e r=>.tup (f _ _ e) (A3v.imp f r)
theorem A3v.imp{H H':Hp}(f:∀p o,H p=some o->H' p=some o):∀{vs:zM}{ds:List PyData},A3v H vs ds->A3v H' vs ds|_,_,.nil=>.nil|_,_,.cons a r=>.cons (Rep.imp f a) (A3v.imp f r)
end
theorem Rep.same{d:PyData}(h:Rep H v d)(s:A0k H H'):Rep H' v d:=h.imp s
theorem A3v.same{v:zM}{d:List PyData}(h:A3v H v d)(s:A0k H H'):A3v H' v d:=h.imp s
theorem A3v.len{H:Hp}:∀{vs:zM}{ds:List PyData},A3v H vs ds->vs.length=ds.length|_,_,.nil=>rfl|_,_,.cons _ r=>by rw[gZ,gZ,A3v.len r]
theorem A3v.snoc{H:Hp}{v:V}{d:PyData}(a:Rep H v d):∀{vs:zM}{ds:List PyData},A3v H vs ds->A3v H (vs++[v]) (ds++[d])|_,_,.nil=>.cons a .nil|_,_,.cons b r=>.cons b (A3v.snoc a r)
theorem A3v.strs{H:Hp}:∀xs:zC,A3v H (xs.map V.str) (xs.map PyData.str)| []=>.nil|x::r=>.cons (.str x) (A3v.strs r)
mutual
theorem qt(I:Inv X pins Z H s):∀{v:V}{d:PyData}{u:zX},Rep H v d->A2h v u->∃a,Reads s.heap u d a
 |_,_,u,.non,r=>by cases(show u=Value.none from r);exact⟨_,.none⟩
 |_,_,u,.bl b,r=>by cases(show u=Value.bool b from r);exact⟨_,.bool b⟩
 |_,_,u,.int i,r=>by obtain⟨t,q⟩:=(show∃t,u=Value.int i t from r);cases q;exact⟨_,.int i t⟩
 |_,_,u,.str x,r=>by obtain⟨t,q⟩:=(show∃t,u=Value.str x t from r);cases q;exact⟨_,.str x t⟩
 |_,_,u,@Rep.lst _ p xs ds e q,r=>by
  cases(show u=Value.ref p from r)
  refine iX (show A1w X.prog X.w H s.heap p (.lst xs) from I.hok p _ e) λ_ f n c g=>?_;obtain⟨a,z⟩:=uR I q c;exact⟨_,Reads.list g rfl rfl (by simpa using z)⟩
 |_,_,u,@Rep.tup _ p xs ds e q,r=>by
  cases(show u=Value.ref p from r)
  refine qD (show A1w X.prog X.w H s.heap p (.tup xs) from I.hok p _ e) λ_ f c o g j n h=>?_;obtain⟨a,z⟩:=uR I q c;exact⟨_,Reads.tuple g j h (by simpa using z)⟩
theorem uR(I:Inv X pins Z H s):∀{vs:zM}{ds:List PyData}{us:zH},A3v H vs ds->A3b vs us->∃b,ReadsAll s.heap us ds b|_,_,_,.nil,.nil=>⟨_,.nil⟩|_,_,_,.cons a r,.cons q rv=>by obtain⟨b,z⟩:=qt I a q;obtain⟨c,y⟩:=uR I r rv;exact⟨_,.cons z y⟩
end
def vM(a:Bool):R2:=λx y H Q=>∃d e,Rep H x d/\Rep H y e/\SeqAt.shaped d=true/\SeqAt.shaped e=true/\Q (.bl (if a then ! PyData.eqv d e else PyData.eqv d e)) H
theorem BT(j:X.A.units+64<cLine):OpR X (compareOp .Eq) (vM false):=by intro a s Z H x y v u Q I k g h;refine fV h ?_;clear h;rintro d e l m b ⟨c,q⟩;obtain⟨o,f⟩:=qt I l k;obtain⟨n,i⟩:=qt I m g;exact eq_dataH f i b c j (fC (.bl (PyData.eqv d e)) H I rfl q)
theorem wn(j:X.A.units+64<cLine):OpR X (compareOp .NotEq) (vM true):=by intro a s Z H x y v u Q I k g h;refine fV h ?_;clear h;rintro d e l m b ⟨c,q⟩;obtain⟨o,f⟩:=qt I l k;obtain⟨n,i⟩:=qt I m g;exact ne_dataH f i b c j (fC (.bl (! PyData.eqv d e)) H I rfl q)
theorem lX(m:scope.kind=.function)(b:∀y∈scope.names,y.2≠.free/\y.2≠.cell)(i:∀y∈scope.names,y.2=.local->scope.names.lookup y.1=some .local):mU X scope [] where
 eq:=closureFor_none λy d=>(b y d).1
 sub:=λx c h=>by cases h
 has:=λx h=>by
  exfalso
  have e:(relabel scope X.env).names=scope.names:=map_eq_self λy d=>by
   obtain⟨n,k⟩:=y;have z:=(b _ d).1;have j:(k==NameKind.free)=false:=by simpa using z
   simp[j]
  rw[e]at h
  have f:∀{k:NameKind},scope.names.lookup x=some k->(x,k)∈scope.names:=λ{k} q=>by
   generalize scope.names=l at q
   induction l with
   |nil=>cases q
   |cons a r ih=>
    obtain⟨n,o⟩:=a;rw[nJ]at q;split at q
    ·rename_i hb;have g:x=n:=by simpa using hb
     cases q
     subst g;exact .head _
    ·exact .tail _ (ih q)
  rcases h with h|h
  ·exact(b _ (f h)).2 rfl
  ·exact(b _ (f h)).1 rfl
 kind:=m
 ncell:=λy d=>(b y d).2
 names:=i
theorem lV(h:n=N'.length):nw X N' scope (List.replicate n none):=⟨by rw[List.length_replicate];exact h,λi j e=>by
 rw[List.getElem?_replicate]at e
 split at e<;>cases e⟩
section
variable{xs:zM}{Q:VK}
theorem EL(Pv:Nat->List V->Hp->Prop)(h0:Pv 0 [] (upd H D (.lst [])))(f:∀i ys H,Pv i ys H->SqL K H a xs)
  (j:∀i x ys H,xs[i]?=some x->Pv i ys H->g x Z₀ H λZ4 H4=>A2z Z₀ Z4/\te Z4 H4 λy b=>b D=some (.lst ys)/\ys.length<sizeLine/\Pv (i+1) (ys++[y]) (upd b D (.lst (ys++[y])))) (h:∀ys H,Pv xs.length ys H->Q (.ref D) H):
  ∃W:Nat->Nat->Hp->Prop,(∃m,W 0 m (upd H D (.lst [])))/\∀i m H2,W i m H2->
   ((Itl K a).stop i H2/\Q (.ref D) H2)\/((Itl K a).go i H2/\∃N:VK,(∀y b,N y b->∃xs,b D=some (.lst xs)/\xs.length<sizeLine/\∃d,d<m/\W (i+1) d (upd b D (.lst (xs++[y]))))/\
    ∀x c,(Itl K a).yld i H2 x c->g x Z₀ c λZ4 H4=>A2z Z₀ Z4/\te Z4 H4 N):=by
 refine bd (λi m H=>m=xs.length-i/\i<=xs.length/\∃ys,Pv i ys H) (pM xs.length (by simp) (jj _) [] h0) ?_;rintro i m H2 ⟨rfl,k,ys,p⟩;have q:=f i ys H2 p;by_cases hlt:i<xs.length
 ·refine .inr (gT (gF xs (xs[i]) q (by simp[hlt])) (λy b=>b D=some (.lst ys)/\ys.length<sizeLine/\Pv (i+1) (ys++[y]) (upd b D (.lst (ys++[y])))) (λy b n=>(sS ys n.1 n.2.1 (xs.length-(i+1)) (by lia) rfl hlt _ n.2.2)) λx c z=>?_);obtain⟨e,z⟩:=z;subst e;exact j i x ys _ (z xs q) p
 ·have e:i=xs.length:=by lia
  subst e;exact .inl ⟨(bd xs q (fH _)),h ys H2 p⟩
theorem DO(Pv:Nat->List V->Hp->Prop)(h0:Pv 0 [] (upd H D (.lst [])))(f:∀i ys H,Pv i ys H->SqT K H a xs)
  (j:∀i x ys H,xs[i]?=some x->Pv i ys H->g x Z₀ H λZ4 H4=>A2z Z₀ Z4/\te Z4 H4 λy b=>b D=some (.lst ys)/\ys.length<sizeLine/\Pv (i+1) (ys++[y]) (upd b D (.lst (ys++[y])))) (h:∀ys H,Pv xs.length ys H->Q (.ref D) H):
  ∃W:Nat->Nat->Hp->Prop,(∃m,W 0 m (upd H D (.lst [])))/\∀i m H2,W i m H2->
   ((Itt K a).stop i H2/\Q (.ref D) H2)\/((Itt K a).go i H2/\∃N:VK,(∀y b,N y b->∃xs,b D=some (.lst xs)/\xs.length<sizeLine/\∃d,d<m/\W (i+1) d (upd b D (.lst (xs++[y]))))/\
    ∀x c,(Itt K a).yld i H2 x c->g x Z₀ c λZ4 H4=>A2z Z₀ Z4/\te Z4 H4 N):=by
 refine bd (λi m H=>m=xs.length-i/\i<=xs.length/\∃ys,Pv i ys H) (pM xs.length (by simp) (jj _) [] h0) ?_;rintro i m H2 ⟨rfl,k,ys,p⟩;have q:=f i ys H2 p;by_cases hlt:i<xs.length
 ·refine .inr (gT (gF xs (xs[i]) q (by simp[hlt])) (λy b=>b D=some (.lst ys)/\ys.length<sizeLine/\Pv (i+1) (ys++[y]) (upd b D (.lst (ys++[y])))) (λy b n=>(sS ys n.1 n.2.1 (xs.length-(i+1)) (by lia) rfl hlt _ n.2.2)) λx c z=>?_);obtain⟨e,z⟩:=z;subst e;exact j i x ys _ (z xs q) p
 ·have e:i=xs.length:=by lia
  subst e;exact .inl ⟨(bd xs q (fH _)),h ys H2 p⟩
end
theorem qw{x:Str}{k:NameKind}:∀{l:List (Str×NameKind)},l.lookup x=some k->(x,k)∈l
 | [],q=>by cases q
 |(n,k')::r,q=>by
  rw[nJ]at q;split at q
  ·rename_i hb;have a:x=n:=by simpa using hb
   cases q
   subst a;exact .head _
  ·exact .tail _ (qw q)
theorem qk{x:Str}(q:closureFor scope X.env=pure [(x,c)])(u:X.env.cells.lookup x=some c)(a:scope.kind=.function)(g:∀y∈scope.names,y.2≠.cell/\(y.2=.free->y.1=x))
  (o:∀y∈scope.names,y.2=.local->scope.names.lookup y.1=some .local):mU X scope [(x,c)] where
 eq:=q
 sub:=λy d h=>by
  rw[nJ]at h;split at h
  ·rename_i b;have j:y=x:=by simpa using b
   cases h
   subst j;exact u
  ·cases h
 has:=λy h=>by
  have i:y=x:=by
   have m:∃k,(y,k)∈(relabel scope X.env).names/\(k=.cell\/k=.free):=h.elim (λz=>(bd _ (qw z) (.inl rfl))) λz=>(bd _ (qw z) (.inr rfl));obtain⟨k,s,a⟩:=m;obtain⟨⟨n,f⟩,l,e⟩:=gY.mp s;dsimp only at e;by_cases hf:f=.free
   ·have r:n=y:=by
     split at e
     ·exact congrArg Prod.fst e
     ·exact congrArg Prod.fst e
    rw[<-r];exact(g _ l).2 hf
   ·have b:(f==NameKind.free)=false:=by simpa using hf
    simp only [b,Bool.false_and,Bool.false_eq_true,if_false]at e;have p:f=k:=congrArg Prod.snd e;subst p;rcases a with a|a
    ·exact absurd a (g _ l).1
    ·exact absurd a hf
  subst i;exact⟨c,by simp[nJ]⟩
 kind:=a
 ncell:=λy t=>(g y t).1
 names:=o
theorem qo{x:Str}(c:X.N[j]?=some x)(h1:X.env.scope.names.lookup x=some .cell\/X.env.scope.names.lookup x=some .free)
  (h2:(relabel scope X.env).names.lookup x=some .cell\/(relabel scope X.env).names.lookup x=some .free):nw X (N0++[x]) scope (List.replicate N0.length none++[some j]):=by
 refine⟨by simp,λi k e=>?_⟩;by_cases hi:i<N0.length
 ·rw[mG (by simpa using hi),List.getElem?_replicate]at e;split at e<;>cases e
 ·have a:i=N0.length:=by
   have:=(fY.mp e).1;simp at this
   lia
  subst a;rw[mH (by simp)]at e;have b:j=k:=by simpa using e
  subst b;exact iU x (by simp) c h1 h2
theorem uC{o:HO}(b:H p=none)(h:H a=some u):upd H p o a=some u:=by rw[eh (gh h b)];exact h
theorem gQ{o:HO}(s:A0k H H')(a:H l=none):A0k H (upd H' l o):=λb u e=>by rw[eh (gh e a)];exact s b u e
theorem fI{o:HO}(a:H l=none):A0k H (upd H l o):=gQ (A0k.refl H) a
theorem si{x:zW}{o v:HO}(a:H x=none)(b:H dx=none):A0k H (upd (upd (upd H dx o) x u) x v):=gQ (gQ (fI b) a) a
theorem jR(h:n<=1000000):n<=sizeLine:=by rw[sizeLine_eq];lia
theorem gJ(h:n<=1000000):n<sizeLine:=by rw[sizeLine_eq];lia
theorem Paired.snoc{α β:Type}{F:α->β->Prop}{a:α}{b:β}(h:F a b):∀{xs:List α}{ys:List β},Paired F xs ys->Paired F (xs++[a]) (ys++[b])|_,_,.nil=>.cons h .nil|_,_,.cons r t=>.cons r (Paired.snoc h t)
noncomputable def iF(S:zV)(H:Hp):Hp:=λa=>@ite _ (S a) (Classical.propDecidable _) (H a) none
theorem xN(h:S a):iF S H a=H a:=by unfold iF;rw[bz h]
theorem Fn(h:¬S a):iF S H a=none:=by unfold iF;rw[bp h]
theorem jI{o:HO}(h:iF S H a=some o):S a/\H a=some o:=by
 by_cases hs:S a
 ·rw[xN hs]at h;exact⟨hs,h⟩
 ·rw[Fn hs]at h;cases h
theorem lU{o:HO}(b:S a)(h:H a=some o):iF S H a=some o:=by rw[xN b];exact h
theorem EH:A0k (iF S H) H:=λ_ _ e=>(jI e).2
theorem mF(s:A0k H H'):A0k (iF S H) (iF S H'):=λb o e=>lU (jI e).1 (s _ _ (jI e).2)
theorem oe(s:A0k H H')(h:∀a o,H a=some o->S a->S' a):A0k (iF S H) (iF S' H'):=λb o e=>lU (h _ _ (jI e).2 (jI e).1) (s _ _ (jI e).2)
theorem oQ{o:HO}(s:A0k (iF S H) (iF S H'))(h:¬S l):A0k (iF S H) (iF S (upd H' l o)):=λb u e=>by have q:=jI (s _ _ e);have a:b≠l:=λz=>h (by rw[<-z];exact q.1);exact lU q.1 (by rw[eh a];exact q.2)
mutual
theorem Rep.imp2{H H':Hp}(f:∀p xs,H p=some (.lst xs)->H' p=some (.lst xs))(g:∀p xs,H p=some (.tup xs)->H' p=some (.tup xs)):∀{v:V}{d:PyData},Rep H v d->Rep H' v d|_,_,.non=>.non|_,_,.bl b=>.bl b|_,_,.int i=>.int i|_,_,.str x=>.str x|_,_,.lst e r=>.lst (f _ _ e) (A3v.imp2 f g r)|_,_,.tup e r=>.tup (g _ _ e) (A3v.imp2 f g r)
theorem A3v.imp2{H H':Hp}(f:∀p xs,H p=some (.lst xs)->H' p=some (.lst xs))(g:∀p xs,H p=some (.tup xs)->H' p=some (.tup xs)):∀{vs:zM}{ds:List PyData},A3v H vs ds->A3v H' vs ds|_,_,.nil=>.nil|_,_,.cons a r=>.cons (Rep.imp2 f g a) (A3v.imp2 f g r)
end
theorem Rep.ins{d:PyData}{C dx:zW}{fs:zK}{o:HO}(h:Rep H v d)(e:H p=some (.ins C dx fs)):Rep (upd H p o) v d :=h.imp2 (λq a z=>by rw[eh (gN z e (by intro w;cases w))];exact z) (λq a z=>by rw[eh (gN z e (by intro w;cases w))];exact z)
section
variable{vs:zM}{d:PyData}
theorem CD(h:Rep G v (.tuple ds)):∃p xs,v=.ref p/\G p=some (.tup xs)/\A3v G xs ds:=by
 cases h with
 |tup e r=>exact fC _ _ rfl e r
theorem um(h:Rep G v (.list ds)):∃p xs,v=.ref p/\G p=some (.lst xs)/\A3v G xs ds:=by
 cases h with
 |lst e r=>exact fC _ _ rfl e r
theorem CZ{x:Str}(h:Rep G v (.str x)):v=.str x:=by cases h;rfl
theorem xc{x:Int}(h:Rep G v (.int x)):v=.int x:=by cases h;rfl
theorem yV(h:A3v G vs (d::ds)):∃u r,vs=u::r/\Rep G u d/\A3v G r ds:=by
 cases h with
 |cons a r=>exact fC _ _ rfl a r
theorem DQ(h:A3v G vs []):vs=[]:=by cases h;rfl
end
mutual
def cnt:PyData->Nat|.none=>1|.bool _=>1|.int _=>1|.str _=>1|.list xs=>kD xs+1|.tuple xs=>kD xs+1|.dict _=>1
def kD:List PyData->Nat| []=>0|x::xs=>cnt x+kD xs
end
theorem Ct(d:PyData):1<=cnt d:=by cases d<;>simp[cnt]
theorem ux:∀ds:List PyData,ds.length<=kD ds
 | []=>by simp[kD]
 |d::r=>by
  have:=ux r;have:=Ct d;simp only [kD,gZ]
  lia
theorem ug:∀{ds:List PyData}{i:Nat}{d:PyData},ds[i]?=some d->cnt d<=kD ds/\PyData.depth d<=PyData.depthAll ds
 | [],_,_,e=>by simp at e
 |d::r,0,_,e=>by
  simp at e;subst e;simp only [kD,PyData.depthAll]
  lia
 |x::r,i+1,d,e=>by
  have:=ug (ds:=r) (i:=i) (d:=d) (by simpa using e);simp only [kD,PyData.depthAll]
  lia
theorem A3v.get2{H:Hp}:∀{vs:zM}{ds:List PyData}{i:Nat}{v:V},A3v H vs ds->vs[i]?=some v->∃d,ds[i]?=some d/\Rep H v d|_,_,_,_,.nil,e=>by simp at e|_,_,0,_,.cons a _,e=>by simp at e;subst e;exact bd _ rfl a|_,_,i+1,v,.cons _ r,e=>by obtain⟨d,b,c⟩:=A3v.get2 (i:=i) (v:=v) r (by simpa using e);exact bd d (by simpa using b) c
theorem AE{k:Str}:List.lookup k ((k,v)::r)=some v:=by simp[nJ]
theorem AD{k j:Str}{o:zP}(h:(k==j)=false)(e:List.lookup k r=o):List.lookup k ((j,v)::r)=o:=by rw[nJ,h];exact e
theorem jS:gX f v []=[(f,v)]:=rfl
theorem ip{g:Str}{x:V}(h:¬g=f):gX f v ((g,x)::r)=(g,x)::gX f v r:=by rw[gX,bp h]
theorem iP{c A:Prop}[Decidable c](h1:c->A)(h2:¬c->B):if decide c=true then A else B :=vI (λh=>h1 (of_decide_eq_true h)) (λh=>h2 λa=>h (iY a))
theorem pU{c A:Prop}[Decidable c](h1:¬c->A)(h2:c->B):if (! decide c)=true then A else B :=
 vI (λh=>h1 λa=>by rw[iY a]at h;cases h) (λh=>h2 (by
  by_cases a:c
  ·exact a
  ·rw[gK a]at h;exact absurd rfl h))
theorem nR{l:yC}(b:PE X l tl):PI X tg l (λZ H R=>vQ X.K tl Z H R\/vB X.K tl Z H R):=λa s Z H R I h=>h.elim (jl b a s Z H R I) (BW b a s Z H R I)
theorem uh{f:α->V}{xs:List α}{i:Int}(h0:0<=i)(h1:i<xs.length):∃x,xs[i.toNat]?=some x/\atI (xs.map f) i=some (f x):=by
 obtain⟨n,rfl⟩:=Int.eq_ofNat_of_zero_le h0;have a:n<xs.length:=by lia
 exact bd (xs[n]) (by simp[a]) (gD (by simp[a]))
theorem DB{xs:List α}(h:0<xs.length):∃v,xs[xs.length-1]?=some v/\atI xs (-1)=some v:=by
 have a:xs.length-1<xs.length:=by lia
 refine bd (xs[xs.length-1]) (by simp[a]) ?_
 have e:ixN xs.length (-1)=some (xs.length-1):=by
  unfold ixN;rw[bp (by decide),bz (by lia)];congr 1
  lia
 unfold atI;rw[e];simp[a]
section
variable{xs:zM}
theorem nF(Pv:Nat->List V->Hp->Prop)(h0:Pv 0 [] (upd H D (.lst [])))(e:∀i ys H,Pv i ys H->SqL K H a xs)
  (h:∀i x ys H,xs[i]?=some x->Pv i ys H->g x Z₀ H λZ4 H4=>A2z Z₀ Z4/\te Z4 H4 λy b=>b D=some (.lst ys)/\ys.length<sizeLine/\Pv (i+1) (ys++[y]) (upd b D (.lst (ys++[y])))) (f:∀ys H,Pv xs.length ys H->QD H):
  ∃W:Nat->Nat->Hp->Prop,(∃m,W 0 m (upd H D (.lst [])))/\∀i m H2,W i m H2->
   ((Itl K a).stop i H2/\QD H2)\/((Itl K a).go i H2/\∃N:VK,(∀y b,N y b->∃xs,b D=some (.lst xs)/\xs.length<sizeLine/\∃d,d<m/\W (i+1) d (upd b D (.lst (xs++[y]))))/\
    ∀x c,(Itl K a).yld i H2 x c->g x Z₀ c λZ4 H4=>A2z Z₀ Z4/\te Z4 H4 N):=EL (Q:=λ_ H=>QD H) Pv h0 e h f
theorem Fj(Pv:Nat->List V->Hp->Prop)(h0:Pv 0 [] (upd H D (.lst [])))(e:∀i ys H,Pv i ys H->SqT K H a xs)
  (h:∀i x ys H,xs[i]?=some x->Pv i ys H->g x Z₀ H λZ4 H4=>A2z Z₀ Z4/\te Z4 H4 λy b=>b D=some (.lst ys)/\ys.length<sizeLine/\Pv (i+1) (ys++[y]) (upd b D (.lst (ys++[y])))) (f:∀ys H,Pv xs.length ys H->QD H):
  ∃W:Nat->Nat->Hp->Prop,(∃m,W 0 m (upd H D (.lst [])))/\∀i m H2,W i m H2->
   ((Itt K a).stop i H2/\QD H2)\/((Itt K a).go i H2/\∃N:VK,(∀y b,N y b->∃xs,b D=some (.lst xs)/\xs.length<sizeLine/\∃d,d<m/\W (i+1) d (upd b D (.lst (xs++[y]))))/\
    ∀x c,(Itt K a).yld i H2 x c->g x Z₀ c λZ4 H4=>A2z Z₀ Z4/\te Z4 H4 N):=DO (Q:=λ_ H=>QD H) Pv h0 e h f
end
theorem Inv.frozen(I:Inv X pins Z H s)(c:H a=some (.dK kvs))(b:s.heap.get? a=some o):Inv X pins Z (upd H a (.frz o (.dK kvs))) s :=I.write (t':=s.toks) (h':=s.heap) (e:=a) (by rw[c];trivial) (.inl rfl) (λ_ _ _ e=>e) ⟨o,b⟩ ⟨b,(show A1w X.prog X.w H s.heap a (.dK kvs) from I.hok a _ c)⟩
theorem Inv.thaw(I:Inv X pins Z H s)(d:H a=some (.frz o u))(r:∃kvs,u=.dK kvs)(h0:∀o' h,X.H₀ a≠some (.frz o' h)):Inv X pins Z (upd H a u) s:=by
 have g:∀b,H b=none->upd H a u b=none:=λb e=>by rw[eh (λz=>by subst z;rw[d]at e;cases e)];exact e
 obtain⟨kvs,rfl⟩:=r
 refine⟨I.ok,I.os,I.bare,⟨I.base.keep,I.base.slot,λb j e n m=>g b (I.base.free b j e n m),I.base.there,λb k e=>?_,λb j h e=>?_,λb l e=>?_⟩,I.loc,I.cell,g _ I.free,λx c e=>g _ (I.freeC x c e),
  λp i=>(fL ((I.pin p i).1) (g _ (I.pin p i).2.1) ((I.pin p i).2.2)),λb v e=>?_,I.len⟩
 ·have q:=I.base.tups b k e;rw[eh (gN q d (by intro z;cases z))];exact q
 ·have q:=I.base.frzs b j h e;rw[eh (λz=>by subst z;exact h0 _ _ e)];exact q
 ·obtain⟨f,q⟩:=I.base.tbls b l e;exact⟨f,by rw[eh (gN q d (by intro z;cases z))];exact q⟩
 ·by_cases hb:b=a
  ·subst hb;rw[dh]at e;cases e;obtain⟨_,q⟩:=(show A1w X.prog X.w H s.heap b (.frz o (.dK kvs)) from I.hok b _ d);exact q
  ·rw[eh hb]at e;exact(I.hok b v e).stay (λ_ _ _ q=>q) (λc q=>by rw[eh (gN q d (by intro z;cases z))];exact q) λc k q=>by rw[eh (gN q d (by intro z;cases z))];exact q
def AY(X:Cx)(t:TS):TS:=λD Z H=>∃a o b,H a=some (.frz o (.dK b))/\(∀d c,X.H₀ a≠some (.frz d c))/\t D Z (upd H a (.dK b))
theorem Dl{sts:List Stmt}{t:TS}(h:PSs X sts t):PSs X sts (AY X t):=by intro b s Z H D I d;refine jK d λa o c f e q=>?_;clear d;exact h b s Z _ D (I.thaw f ⟨c,rfl⟩ e) q
def Itd(a:zW)(o:Obj)(kvs:zJ):It :=⟨λi H=>H a=some (.frz o (.dK kvs))/\i<kvs.length,λi H x b=>b=H/\∃k v,kvs[i]?=some (k,v)/\x=kV k,λi H=>H a=some (.frz o (.dK kvs))/\i=kvs.length⟩
theorem vZ{k:Key}{u:zX}(h:(gG P w).is k u=true):A2h (kV k) u:=by
 rcases lG (show mW k u=true from h)with ⟨i,t,rfl,rfl⟩|⟨x,t,rfl,rfl⟩
 ·exact⟨t,rfl⟩
 ·exact⟨t,rfl⟩
theorem KV.at:KV kvs vs->∀{i:Nat}{k:Key}{v:V},kvs[i]?=some (k,v)->∃u,vs[i]?=some (k,u)/\A2h v u:=by
 intro r;unfold KV at r
 induction r with
 |nil=>intro i k v e;simp at e
 |@cons p q ps qs h t ih=>
  intro i k v e
  cases i with
  |zero=>simp at e;subst e;obtain⟨c,d⟩:=h;obtain⟨g,b⟩:=q;cases c;exact bd b rfl d
  |succ j=>obtain⟨u,f,a⟩:=ih (i:=j) (by simpa using e);exact bd u (by simpa using f) a
theorem wL(k:HOk P w H h)(m:H a=some (.frz o (.dK kvs)))(f:o.data=.dict es ep):
  (a==sysModules)=false/\∃vs,KV kvs vs/\h.DictAt (gG P w) a vs ep:=by
 obtain⟨g,n,l,vs,b,p,i,j,e,c,d,r⟩:=(show A1w P w H h a (.frz o (.dK kvs)) from k a _ m);rw[g]at e;cases e;rw[f]at d;cases d;exact gT l vs b (ga o es g c f r)
theorem EV(it a:zW)(o:Obj)(kvs:zJ)(es:Array DictEntry)(ep:Nat)(Q:o.data=.dict es ep):
  C3g P w K tg (Itd a o kvs) [it] it (λi h=>h.IsKeyIter it a i kvs.length ep) where
 mem:=by simp
 obj:=λi h f b m=>by
  have e:b=it:=by simpa using m
  subst e;obtain⟨l,e,_,d⟩:=f;exact bd l e λv z=>by rw[d]at z;cases z
 keep:=λi h t f k=>f.at λl e=>k it (by simp) l e
 item:=by
  intro X y D C O i j s Z H E I q f J;subst y D C;obtain⟨L,R⟩:=J;refine ji (q it (by simp)) ?_;rintro A G Y x ⟨B,F⟩;obtain⟨_,S,g,N⟩:=wL I.hok L Q;have r:=g.length;obtain⟨⟨k,v⟩,hkv⟩:∃p,kvs[i]?=some p:=⟨kvs[i],by simp[R]⟩;obtain⟨u,W,_⟩:=g.at hkv;rw[r]at f;refine wpAny_pyNext_dict_item f N W λM t hk n T=>?_;have I1:Inv X j Z H {s with heap:=t,toks:=s.toks}:=I.turned (t':=s.toks) (λb l m e=>(T.2 b m).trans e) A G x B F
  obtain⟨l,e,c,d⟩:=id n;exact bd M rfl (pX (s:={s with heap:=t}) e c d (by decide) (jr (kV k) H I1 (vZ hk) (md rfl k v hkv rfl) (by rw[r];exact n) λb m=>(q b m).1))
 done:=by intro X y D C O i j s Z H E I q f J;subst y D C;obtain⟨L,R⟩:=J;refine ji (q it (by simp)) ?_;rintro A G Y x ⟨B,F⟩;obtain⟨_,S,g,N⟩:=wL I.hok L Q;have r:=g.length;rw[r]at f;exact wpAny_pyNext_dict_end O f N (by simp;lia) λt U=>⟨rfl,I.turned (t':=s.toks) (λb l m e=>U b l m e) A G x B F⟩
 self:=λ_ _ _ _ _ f h=>wpAny_pyIter_keyiter f h
def Bl(tl:TE):TI:=λZ H R=>tl Z H λx c=>∃a b,x=.ref a/\c a=some (.dK b)/\∀o,R (Itd a o b) (upd c a (.frz o (.dK b)))
theorem uy{l:yC}(y:PE X l tl):PI X tg l (Bl tl):=by
 intro c s Z H R I h;refine thn (y c s Z H _ I h) ?_;rintro u d n;refine fO n ?_;clear n;rintro x v I1 B ⟨a,f,C,i,q⟩;subst C;cases B;refine ko (pS I1.hok i) ?_;rintro F A k g o p ep m ⟨t,j,r⟩;have D:d.heap.DictAt (gG X.prog X.w) a k ep:=(ga o p m t j r);refine wpAny_pyIter_dict A D ?_;have I2:Inv X c Z v {d with heap:=d.heap.push {cls:=.type "dict_keyiterator",data:=.fields #[.ref a,.int 0 0,.int k.length 0,.int ep 0]},toks:=d.toks}:=I1.kept λb G e=>fS _ e
 have I3:=I2.frozen i (fS _ m);refine kN _ [d.heap.objs.size] _ _ _ rfl I3 (EV _ a o f p ep j) ?_ (λb z=>?_) (q o)
 ·rw[g.length];exact fJ _ (gR _ rfl) rfl rfl
 ·have e:b=d.heap.objs.size:=by simpa using z
  subst e;refine I1.fpOk (fH _) ?_;rw[eh (jm (I1.hok.lt i))];exact I1.hok.fresh (fH _)
theorem sq(c:H a=some u)(s:A0k (upd H a (.frz o u)) H2):A0k H (upd H2 a u):=λb v e=>by
 by_cases hb:b=a
 ·subst hb;rw[c]at e;cases e;exact dh
 ·rw[eh hb];exact s b v (by rw[eh hb];exact e)
def PTs(X:Cx)(cs:zT)(t:TT):Prop :=∀(a:zD)(s:zY)(Z:St)(H:Hp)(Q:Bool->Hp->Prop),Inv X a Z H s->t Z H Q->wpAny (model X.prog X.w) X.A (forIn cs true λc r=>if r=true then do let b<-isTrue c X.env (eval c X.env);pure (ForInStep.yield b)else pure (ForInStep.yield r)) (TP X a Z Q) X.xe s
theorem yo{ok:zZ->Prop}(hc:ok X.A)(P:mU X scope cl)(io:nw X N' scope ix)(hi:PIP ok X tg iter wi)
  (hg:∀C s₀ H₀ fp,PG (blk X N' scope cl C s₀ H₀ fp) tg g) (ht:∀C s₀ H₀ fp,PTs (blk X N' scope cl C s₀ H₀ fp) cs tc) (he:∀C s₀ H₀ fp,PE (blk X N' scope cl C s₀ H₀ fp) elt te) (hs:∀x,foldedSetIterable iter X.env x=pure x) {pp:Pos} {S:zW->Hp->Prop} {R:It->Hp->Prop}
  (hR:∀J H1,R J H1->∀D,H1 D=none->∃W:Nat->Nat->Hp->Prop,(∃m,W 0 m (upd H1 D (.lst [])))/\∀i m H2,W i m H2->(J.stop i H2/\S D H2)\/(J.go i H2/\∃(N:VK)(M:Hp->Prop),(∀y k,N y k->∃xs,k D=some (.lst xs)/\xs.length<sizeLine/\∃l,l<m/\W (i+1) l (upd k D (.lst (xs++[y]))))/\(∀k,M k->∃l,l<m/\W (i+1) l k)/\∀x H3,J.yld i H2 x H3->g x (kB ix Z) H3 λZ4 H4=>A2z (kB ix Z) Z4/\tc Z4 H4 λb k=>if b=true then te Z4 k N else M k))
  (b3:∀(D C:zW)(k:Hp)(s6:zY)(x:Flow),S D k->(∃m,s6.heap.Ns C m)->kf X pins k C->(∀h',Heap.SameBut C s6.heap h'->Inv X pins Z k {s6 with heap:=h'})->compPost (model X.prog X.w) X.A X.xe use Qf (.ref D) C (.ok x) s6)
  (I:Inv X pins Z H s) (h:wi Z H R):wpAny (model X.prog X.w) X.A (comprehension (.ListComp elt [⟨tg,iter,cs,0⟩] scope pos) scope X.env pp (newList []) false (eval iter X.env) use) Qf X.xe s:=by
 refine wpAny_comprehension_free rfl hs P.eq P.kind P.names (thn (hi pins s Z H _ I h) λxv s1 h1=>thn h1 λb9 a h2=>?_);refine kO h2 ?_;clear h2;rintro it fp tn J H1 rfl I1 T b0 f1 R1;refine kP ?_;have hD:H1 a.heap.objs.size=none:=I1.hok.fresh (fH _);obtain⟨W,⟨m0,w0⟩,a3⟩:=hR _ _ R1 _ hD;have a9:∀b∈fp,b<a.heap.objs.size:=λb f=>let⟨o,e,_⟩:=T.obj _ _ b0 b f;fW e;have I2:Inv X pins Z (upd H1 a.heap.objs.size (.lst [])) {a with heap:=a.heap.push {cls:=.type "list",data:=.seq ([]:zH).toArray},toks:=a.toks}:=I1.lnew (its:=[]) .nil (jj _);have f2:∀b∈fp,kf X pins (upd H1 a.heap.objs.size (.lst [])) b:=λb f=>⟨by rw[eh (im (a9 b f))];exact(f1 b f).1,(f1 b f).2⟩
 have Q:∀b∈fp,b<(a.heap.push {cls:=.type "list",data:=.seq ([]:zH).toArray}).objs.size:=λb f=>by rw[me];exact Nat.lt_succ_of_lt (a9 b f)
 refine wpAny_newFunctionEnv P.ncell (by intro y hy;simp at hy) (λh3 O a2=>?_) P.kind;dsimp only at O a2⊢;have k3:∀b o,(a.heap.push {cls:=.type "list",data:=.seq ([]:zH).toArray}).get? b=some o->h3.get? b=some o:=λb o e=>(a2.2 b (im (fW e))).trans (fS _ e);generalize hs2:({a with heap:=a.heap.push {cls:=.type "list",data:=.seq ([]:zH).toArray},toks:=a.toks}:zY)=s3 at I2;have e3:a.heap.push {cls:=.type "list",data:=.seq ([]:zH).toArray}=s3.heap:=by rw[<-hs2]
 rw[e3]at O k3 Q;have I3:=Fr (N':=N') (ix:=ix) I2 P io f2 Q (h':=h3) (t':=a.toks+([]:List (Str×zX)).length) O k3;have e4:({s3 with heap:=h3,toks:=a.toks+([]:List (Str×zX)).length}:zY)={a with heap:=h3,toks:=a.toks+([]:List (Str×zX)).length}:=by rw[<-hs2]
 rw[e4]at I3;have a0:tn 0 h3:=T.keep _ _ _ b0 λb f o e=>k3 b o (by rw[<-e3];exact fS _ e)
 have t:∀s4:zY,s4={a with heap:=h3,toks:=a.toks+([]:List (Str×zX)).length}->
   codeAny (model X.prog X.w) X.A (.compLoop (.ListComp elt [⟨tg,iter,cs,0⟩] scope pos) 0 (.ref it) (.ref a.heap.objs.size) (compEnvC scope cl s3.heap.objs.size X.env))
    (compPost (model X.prog X.w) X.A X.xe use Qf (.ref a.heap.objs.size) s3.heap.objs.size) s4:=by
  rintro s4 rfl
  have G:∀{H':Hp},(∀b∈fp,H' b=none)->∀b∈fp,kf (blk X N' scope cl s3.heap.objs.size s3 (upd H1 a.heap.objs.size (.lst [])) fp) [] H' b:=λhn b f=>(jh (hn b f) (im (Q b f)) (λhs=>I3.ok.exfs b f hs) (.inl f) (λx c e=>(f2 b f).2.2.2.2.1 x c (P.sub x c e)) (λp hp=>by cases hp))
  refine codeAny_loop rfl (λn E=>∃i Z' H',Inv (blk X N' scope cl s3.heap.objs.size s3 (upd H1 a.heap.objs.size (.lst [])) fp) [] Z' H' E/\(∀(j:Nat) v,(kB ix Z)[j]?=some (some v)->Z'[j]?=some (some v))/\tn i E.heap/\(∀b∈fp,H' b=none)/\W i n H')
   (λn E hI=>?_) m0 (iH 0 _ _ I3 (λ_ _ z=>z) a0 (λb f=>(f2 b f).1) w0)
  refine gn hI ?_;clear hI;rintro i Z5 k I5 wk a4 ⟨a8,w5⟩;show wpAny _ _ ((compTurn (.ListComp elt [⟨tg,iter,cs,0⟩] scope pos) 0 (.ref it) (.ref a.heap.objs.size) (compEnvC scope cl s3.heap.objs.size X.env)).onRaise (λx=>do noteFrame x (compEnvC scope cl s3.heap.objs.size X.env);theTreesLotGoes x)) _ _ E;refine wpAny_noted ?_;rw[compTurn_list];refine bc (sV ?_);rcases a3 i n k w5 with ⟨stop,qn⟩|⟨go,NN,MM,b1,b7,a6⟩
  ·refine bc (jE (T.done (blk X N' scope cl s3.heap.objs.size s3 (upd H1 a.heap.objs.size (.lst [])) fp) rfl rfl rfl hc i [] E Z5 k (λ_ _=>False) I5 (G a8) a4 stop) (λr s6 h6=>?_) λ_ _ z=>z.elim);obtain⟨rfl,I6⟩:=h6;refine ck ?_;obtain⟨mm,hm,_⟩:=id I6.loc;exact b3 _ _ _ _ _ qn ⟨mm,hm⟩ (I2.fpOk (fH _) I6.free) λh' sb=>Dd I2 f2 I6 sb
  ·refine bc (jE (T.item (blk X N' scope cl s3.heap.objs.size s3 (upd H1 a.heap.objs.size (.lst [])) fp) rfl rfl rfl hc i [] E Z5 k (λ_ _=>False) I5 (G a8) a4 go) (λr s6 h6=>?_) λ_ _ z=>z.elim);obtain⟨u,rfl,h6⟩:=h6;refine bc (jE h6 (λ_ s7 h7=>?_) λ_ _ z=>z.elim);refine fV h7 ?_;clear h7;rintro x H7 I7 r7 y7 ⟨L,b8⟩;have I7w:Inv (blk X N' scope cl s3.heap.objs.size s3 (upd H1 a.heap.objs.size (.lst [])) fp) [] (kB ix Z) H7 s7:=I7.weak (by rw[I7.len];unfold kB;rw[eA];exact io.1) wk;have I7p:=I7w.pinned (G b8) (T.obj _ _ L);refine bc (jE (hg _ _ _ _ _ s7 _ H7 x u _ I7p r7 (a6 x H7 y7)) (λ_ s8 h8=>?_) λ_ _ z=>z.elim);refine fO h8 λZ8 H8 I8 a5 q8=>?_;clear h8
   have K:∀{B:zY}{jE:St}{q:Hp}{l:Nat},Inv (blk X N' scope cl s3.heap.objs.size s3 (upd H1 a.heap.objs.size (.lst [])) fp) ([]++qg fp s7.heap) jE q B->(∀(j:Nat) v,(kB ix Z)[j]?=some (some v)->jE[j]?=some (some v))->W (i+1) l q->
     ∃i Z' H',Inv (blk X N' scope cl s3.heap.objs.size s3 (upd H1 a.heap.objs.size (.lst [])) fp) [] Z' H' B/\(∀(j:Nat) v,(kB ix Z)[j]?=some (some v)->Z'[j]?=some (some v))/\tn i B.heap/\(∀b∈fp,H' b=none)/\W i l H':=by
    intro B jE q l I10 kk Y;refine iH (i+1) jE q I10.unpinned kk (T.keep _ _ _ L λb f o e=>(I10.pin (b,o) (lj _ (lj _ (sv f e)))).1) (λb f=>?_) Y;obtain⟨o,e,d⟩:=T.obj _ _ L b f;exact(I10.pin (b,o) (lj _ (lj _ (sv f e)))).2.1
   refine bc (jE (ht _ _ _ _ _ s8 Z8 H8 _ I8 q8) (λok b5 b4=>?_) λ_ _ z=>z.elim);obtain⟨H9',I9',a1⟩:=b4
   cases ok with
   |false=>
    have F:MM H9':=by simpa using a1
    obtain⟨l,U,w9⟩:=b7 _ F;exact bc (ck (ck (gT rfl l U (K I9' a5.get w9))))
   |true=>
    have F:te Z8 H9' NN:=by simpa using a1
    refine bc (bc (jE (he _ _ _ _ _ b5 Z8 H9' _ I9' F) (λyv s9 h9=>?_) λ_ _ z=>z.elim));refine fO h9 λy H9 I9 r9 n9=>?_;clear h9;refine iD (b1 _ _ n9) ?_;rintro xs b2 b6 ⟨l,U,w9⟩;refine bc (jE (lF (X:=blk X N' scope cl s3.heap.objs.size s3 (upd H1 a.heap.objs.size (.lst [])) fp) _ s9 Z8 H9 (.ref a.heap.objs.size) [y] (.ref a.heap.objs.size) [yv] (λ_ H'=>W (i+1) l H') I9 rfl (.cons r9 .nil) (iH _ xs y rfl rfl b2 b6 w9)) (λ_ B a7=>?_) λ_ _ z=>z.elim);refine fO a7 λ_ q I10 _ Y=>?_;clear a7;exact ck (ck (gT rfl l U (K I10 a5.get Y)))
 have e5:s3.heap.objs.size=(a.heap.push {cls:=.type "list",data:=.seq ([]:zH).toArray}).objs.size:=by rw[e3]
 rw[e5]at t;exact codeAny_compStart_list (t _ rfl) (T.self X.A 0 _ _ _ a0 (t _ rfl))
theorem Fm{j:zZ->Prop}(B:j X.A)(q:mU X scope cl)(t:nw X N' scope ix)(hi:PIP j X tg iter wi)
  (w:∀C c H₀ fp,PG (blk X N' scope cl C c H₀ fp) tg g) (v:∀C c H₀ fp,PTs (blk X N' scope cl C c H₀ fp) cs tc) (l:∀C c H₀ fp,PE (blk X N' scope cl C c H₀ fp) elt te) (R:VK->St->It->Hp->Prop) (p:∀Q Z J H1,R Q Z J H1->∀D,H1 D=none->∃W:Nat->Nat->Hp->Prop,(∃m,W 0 m (upd H1 D (.lst [])))/\∀i m H2,W i m H2->
 (J.stop i H2/\Q (.ref D) H2)\/(J.go i H2/\∃(N:VK)(M:Hp->Prop),(∀y a,N y a->∃xs,a D=some (.lst xs)/\xs.length<sizeLine/\∃d,d<m/\W (i+1) d (upd a D (.lst (xs++[y]))))/\(∀a,M a->∃d,d<m/\W (i+1) d a)/\∀x e,J.yld i H2 x e->g x (kB ix Z) e λZ4 H4=>A2z (kB ix Z) Z4/\tc Z4 H4 λb a=>if b=true then te Z4 a N else M a)) (k:∀x,foldedSetIterable iter X.env x=pure x:=by intro _;rfl):
  PE X (.ListComp elt [⟨tg,iter,cs,0⟩] scope pos) (λZ H Q=>wi Z H (R Q Z)):=by
 intro f s Z H Q I h;rw[eval_ListComp];exact yo (use:=none) B q t hi w v l k (S:=λD H2=>Q (.ref D) H2) (p Q Z) (λD C a F x n ⟨u,r⟩ _ Io=>(bd u r λo z=>(fC (.ref D) a (Io o z) rfl n))) I h
theorem kF(t:X.calm=true)(o:mU X scope cl)(p:nw X N' scope ix)(hi:PI X tg iter wi)
  (q:∀C d H₀ fp,PG (blk X N' scope cl C d H₀ fp) tg g) (j:∀C d H₀ fp,PE (blk X N' scope cl C d H₀ fp) elt te) (f:∀x,foldedSetIterable iter X.env x=pure x:=by intro _;rfl):
  PE X (.ListComp elt [⟨tg,iter,[],0⟩] scope pos) (tN ix wi g te):=
 λa s Z H Q I h=>(show PE X _ (tN ix wi g te) from Fm (tc:=λ_ H Q=>Q true H) (I.ok.hd t) o p hi q (λ_ _ _ _ _ _ _ _ _ I h=>wpAny_tests_nil (bd _ I h)) j _ (λ_ _ _ _ R u e=>by
  obtain⟨W,r,b⟩:=R u e;refine bd W r λi m k w=>(b i m k w).imp id λ⟨l,N,n,c⟩=>(jg l N (λ_=>False) n (λ_ z=>z.elim) ?_)
  simpa using c) f) a s Z H Q I h
section
variable{xs:zM}
end
theorem FW{v:zW}(h1:s.heap.IsItemsView v d)(h2:s.heap.get? d=some od)(a:od.data=.dict es ep)
  (q:Q (.ref s.heap.objs.size) {s with heap:=s.heap.push {cls:=.type "dict_itemiterator",data:=.fields #[.none,.bool false,.ref d,.int 0 0,.int es.size 0,.int ep 0,.none,.none]}}):
  wpAny (model prog w) A (pyIter (.ref v)) Q E s:=by
 obtain⟨f,b,e,c⟩:=id h1;refine wpAny_pyIter_slot h1.typeIs F.slot_dict_items_iter (jb F.slot_dict_items_iter h1.typeIs F.entry_dict_items_iter ?_ (F.args_dict_items_iter_1 _));unfold Builtin.«dict_items.__iter__»;refine bc (ck (bc ?_));unfold Builtin.Dict_items.dictOf;refine bc (jc b c (x:=.ref d) rfl (ck (bc ?_)));unfold Builtin.Dict_items.newIterator;refine bc (wpAny_dictEntries h2 a (bc (wpAny_dictEpoch h2 a ?_)));simp only [show Builtin.Dict_items.ownsTuple "dict_itemiterator"=true by decide,if_true]
 refine kP (ck (fZ _ rfl "dict_itemiterator" _ (bd _ (gR _ rfl) rfl) F.slot_dict_itemiterator_next.lookup ?_)) (by
  simp only [sizeOk,Builtin.Dict_items.ownedTupleFields,iL,gc,gZ,kZ,sizeLine_eq]
  lia)
 simpa[rawInt,Builtin.Dict_items.ownedTupleFields]using q
theorem FV{e:DictEntry}{Q:zN->zY->Prop}
  (h1:IsItemIter s.heap it d i n ep x y) (h2:s.heap.get? d=some od) (P:od.data=.dict es ep) (S:es.size=n) (M:es[i]?=some e)
  (q:∀h',IsItemIterOut h' it d (i+1) n ep e.key e.val s.heap.objs.size->h'.get? s.heap.objs.size=some {cls:=.type "tuple",data:=.seq #[e.key,e.val]}->
   (∀c u,c≠it->s.heap.get? c=some u->h'.get? c=some u)->Q (some (.ref s.heap.objs.size)) {s with heap:=h'}):
  wpAny (model prog w) A (pyNext (.ref it)) Q E s:=by
 obtain⟨f,g,r,j,m⟩:=s;have v:Shared.TypeIs ⟨f,g,r,j,m⟩ (.ref it) "dict_itemiterator":=(bd _ h1 rfl);unfold pyNext;refine bc (wpAny_attempt (lh (name:=Str.ofString "__next__") v F.slot_dict_itemiterator_next (jb F.slot_dict_itemiterator_next v F.entry_dict_itemiterator_next ?_ (F.args_dict_itemiterator_next_1 _))));refine bc (ck (bc (bc ?_)));refine bc (wpAny_typeNameOfWhole_itemiter v (ck (bc (wpAny_fieldsOf h1 rfl ?_))));simp only [show Builtin.Dict_items.ownsTuple "dict_itemiterator"=true by decide,if_true];show wpAny _ _ (ite ((Value.ref d==Value.none)=true) _ _) _ _ _;rw[bp (show¬((Value.ref d==Value.none)=true) from gL)];refine bc (ck (bc (wpAny_dictEntries h2 P ?_)));rw[bp (by rw[S];simp)];refine bc (ck (bc (wpAny_dictEpoch h2 P ?_)));rw[bp (by simp)];obtain⟨U,T⟩:=oZ.mp M;refine ck ?_;simp only [show¬((i:Int)<0) from by lia,if_false,Int.toNat_natCast,M];refine bc (bc (wpAny_typeNameOfWhole_itemiter v (ck (bc (wpAny_isOneOf_itemiter v ?_)))));show wpAny _ _ (setField (.ref it) 3 (rawInt ((i:Int)+1))>>=_) _ _ (⟨f,g,r,j,m⟩:zY);refine bc (jV h1 (by simp) λk1 k p=>?_)
 replace p:Heap.SameBut it f k1:=p
 replace k:IsItemIter k1 it d (i+1) n ep x y:=by
  have z:((i+1:Nat):Int)=(i:Int)+1:=by lia
  unfold IsItemIter;rw[z]
  simpa[rawInt]using k
 have h:Shared.TypeIs ⟨k1,g,r,j,m⟩ (.ref it) "dict_itemiterator":=(bd _ k rfl);refine bc (jC (bc (wpAny_isOneOf_itemiter h (bc (wpAny_isOneOf_itemiter h ?_)))));show wpAny _ _ (Builtin.Dict_items.pairFromOwner (.ref it) 6 e.key e.val) _ _ (⟨k1,g,r,j,m⟩:zY);unfold Builtin.Dict_items.pairFromOwner;refine bc (wpAny_newTuple ?_);have J:k1.objs.size=f.objs.size:=p.1;have R:it<f.objs.size:=fW h1;have t:IsItemIter (k1.push {cls:=.type "tuple",data:=.seq #[e.key,e.val]}) it d (i+1) n ep x y:=fS _ k;have O:(k1.push {cls:=.type "tuple",data:=.seq #[e.key,e.val]}).get? f.objs.size=some {cls:=.type "tuple",data:=.seq #[e.key,e.val]}:=by rw[<-J];exact gR _ rfl
 have N:∀b o,b≠it->f.get? b=some o->(k1.push {cls:=.type "tuple",data:=.seq #[e.key,e.val]}).get? b=some o:=λb o a z=>fS _ (p.extBut b o a z);generalize k1.push {cls:=.type "tuple",data:=.seq #[e.key,e.val]}=k2 at t O N;show wpAny _ _ (Builtin.Dict_items.ownedTupleIsFree (.ref it)>>=_) _ _ (⟨k2,g,r,j,m⟩:zY);rw[J];clear k p h J k1;refine bc ?_;unfold Builtin.Dict_items.ownedTupleIsFree;refine bc (jc t rfl (x:=.none) rfl (ck ?_));simp only [if_true];refine bc (jc t rfl (x:=x) rfl (bc (jc t rfl (x:=y) rfl (bc (jV t (by simp) λk3 C G=>?_)))))
 replace G:Heap.SameBut it k2 k3:=G
 replace C:IsItemIter k3 it d (i+1) n ep e.key y:=C
 refine bc (jV C (by simp) λk4 D H=>?_)
 replace H:Heap.SameBut it k3 k4:=H
 replace D:IsItemIter k4 it d (i+1) n ep e.key e.val:=D
 refine bc (jV D (by simp) λk5 L K=>?_)
 replace K:Heap.SameBut it k4 k5:=K
 replace L:IsItemIterOut k5 it d (i+1) n ep e.key e.val f.objs.size:=L
 refine bc (jV L (by simp) λk6 I B=>?_)
 replace B:Heap.SameBut it k5 k6:=B
 replace I:IsItemIterOut k6 it d (i+1) n ep e.key e.val f.objs.size:=I
 have l:∀b o,b≠it->k2.get? b=some o->k6.get? b=some o:=λb o a z=>B.extBut b o a (K.extBut b o a (H.extBut b o a (G.extBut b o a z)));exact bc (wpAny_letGo (ck (ck (bd _ rfl (ck (q k6 I (l _ _ (jm R) O) λb o a z=>l b o a (N b o a z)))))))
theorem E8{Q:zN->zY->Prop}(f:A.handled=none)
  (h1:IsItemIter s.heap it d i n ep x y) (h2:s.heap.get? d=some od) (e:od.data=.dict es ep) (g:es.size=n) (h:n<=i)
  (q:∀h',Heap.ExtBut it s.heap h'->Q none {s with heap:=h'}):wpAny (model prog w) A (pyNext (.ref it)) Q E s:=by
 have c:s.TypeIs (.ref it) "dict_itemiterator":=(bd _ h1 rfl);unfold pyNext;refine bc (wpAny_attempt (lh (name:=Str.ofString "__next__") c F.slot_dict_itemiterator_next (jb F.slot_dict_itemiterator_next c F.entry_dict_itemiterator_next ?_ (F.args_dict_itemiterator_next_1 _))));refine bc (ck (bc (bc ?_)));refine bc (wpAny_typeNameOfWhole_itemiter c (ck (bc (wpAny_fieldsOf h1 rfl ?_))));simp only [show Builtin.Dict_items.ownsTuple "dict_itemiterator"=true by decide,if_true];show wpAny _ _ (ite ((Value.ref d==Value.none)=true) _ _) _ _ _;rw[bp (show¬((Value.ref d==Value.none)=true) from gL)];refine bc (ck (bc (wpAny_dictEntries h2 e ?_)));rw[bp (by rw[g];simp)];refine bc (ck (bc (wpAny_dictEpoch h2 e ?_)));rw[bp (by simp)];refine ck ?_;simp only [show¬((i:Int)<0) from by lia,if_false,Int.toNat_natCast,Array.getElem?_eq_none (show es.size<=i by lia)];refine bc (bc (wpAny_typeNameOfWhole_itemiter c (ck ?_)));show wpAny _ _ (setField (.ref it) 2 .none>>=_) _ _ _;refine bc (pN h1 rfl (by simp) ?_);show wpAny _ _ (newExc (.type "StopIteration") []>>=_) _ _ (_:zY);refine bc ?_;simp only [newExc,newTuple];refine bc (kP (bc (m:=firstArgMember _ _) (wpAny_of_eq (a:=Value.none) (by first|rfl|(simp only [firstArgMember];rfl)) (kP ?_ (by size_fits)))) (by size_fits));simp only [raiseNew];refine bc (wpAny_handled ?_);rw[show A.in1.handled=none from f];refine bc (ck (wpAny_throw ?_));refine bc (wpAny_isInstance (T:="StopIteration") (b:=true) (bd _ (gR _ rfl) rfl) isSubtype_stop (ck ?_));exact q _ (((Heap.SameBut.update ..).extBut.push _).push _)
theorem GM:entryFor table "dict_itemiterator.__iter__"=some Builtin.«dict_keyiterator.__iter__»:=entryFor_alias (id':="dict_keyiterator.__iter__") (by kernel_rfl) rfl (by decide+kernel) (by kernel_rfl)
theorem FD(st:IsItemIter s.heap it d i n ep x y)(h:Q (.ref it) s):wpAny (model prog w) A (pyIter (.ref it)) Q E s:=by have a:s.TypeIs (.ref it) "dict_itemiterator":=(bd _ st rfl);refine wpAny_pyIter_slot a F.slot_dict_itemiterator_iter (jb F.slot_dict_itemiterator_iter a GM ?_ (F.args_dict_itemiterator_iter_1 _));show wpAny _ _ (ret (.ref it)) _ _ s;exact ck (fZ _ rfl "dict_itemiterator" _ a F.slot_dict_itemiterator_next.lookup h)
theorem Gf(d:zW)(a:(d==sysModules)=false):
  MeetsIn prog w (Builtin.«dict.items» ⟨[.ref d],[]⟩) (λ_ R s=>s.TypeIs (.ref d) "dict"/\R (.ok (.ret (.ref s.heap.objs.size))) {s with heap:=s.heap.push {cls:=.type "dict_items",data:=.fields #[.ref d]}}):=
 .of_wp λA R s ⟨b,q⟩=>by unfold Builtin.«dict.items»;refine bc ?_;unfold Builtin.Dict.noArgs;refine bc (wpAny_notOrdered_dict b ?_);show wpAny _ _ (pure d) _ _ s;refine ck ?_;show wpAny _ _ (Builtin.Dict.showsAll d>>=_) _ _ s;unfold Builtin.Dict.showsAll;rw[bp (by rw[a];exact gL)];exact bc (ck (bc (kP (ck (bd _ rfl q)))))
def isD(u:HO):Prop:=(∃a,u=.dK a)\/∃a,u=.dT a
def pA(v d:zW):HO:=.ext λh=>h.IsItemsView v d
theorem Dx{v:zW}(e:h.IsItemsView v d):A1w P w H h v (pA v d):=(fL e (let⟨o,a,_⟩:=e;⟨o,a⟩) (by rintro f c ⟨o,a,b⟩ k;exact bd o (k o a) b))
theorem C8(k:isD u)(x:A1w P w H h a u):(a==sysModules)=false/\∃o es ep,h.get? a=some o/\o.ExactDict/\o.data=.dict es ep:=by
 rcases k with ⟨c,rfl⟩|⟨c,rfl⟩
 ·refine ko x ?_;clear x;rintro i d j e o es ep g ⟨f,b,r⟩;exact⟨d,(iM o es ep g f b)⟩
 ·refine ko x ?_;clear x;rintro i d j e o es ep g ⟨f,b,r⟩;exact⟨d,(iM o es ep g f b)⟩
def Bp:V->List V->Hp->VK->Prop:=λx b H Q=>∃a u,x=.ref a/\b=[]/\H a=some u/\isD u/\∀p,H p=none->Q (.ref p) (upd H p (pA p a))
theorem DV:MtR X "dict.items" Bp:=by intro c s Z H x r v t Q I k f h;refine fV h ?_;clear h;rintro a u rfl rfl l ⟨j,q⟩;cases k;cases f;obtain⟨g,o,p,w,m,i,n⟩:=C8 j (I.hok a u l);have d:s.TypeIs (.ref a) "dict":=(bd o m i.1);refine call_meetsIn PySem.F.slot_dict_items d PySem.F.entry_dict_items (PySem.F.args_dict_items_1 _) (Gf a g) ⟨d,?_⟩;exact fC (.ref s.heap.objs.size) _ (I.laid (t':=s.toks) (o:=pA s.heap.objs.size a) (λb u e=>fS _ e) (fH _) (Dx (fJ _ (gR _ rfl) rfl rfl))) rfl (q _ (I.hok.fresh (fH _)))
theorem Inv.frozenD(I:Inv X pins Z H s)(c:H a=some u)(g:isD u)(h:s.heap.get? a=some o):Inv X pins Z (upd H a (.frz o u)) s:=by
 have j:∀b d,H b=some (.tup d)->upd H a (.frz o u) b=some (.tup d):=λb d q=>by rw[eh (gN q c (by rcases g with ⟨_,rfl⟩|⟨_,rfl⟩<;>intro z<;>cases z))];exact q
 have i:∀b,H b=some (.own a)->upd H a (.frz o u) b=some (.own a):=λb q=>by rw[eh (gN q c (by rcases g with ⟨_,rfl⟩|⟨_,rfl⟩<;>intro z<;>cases z))];exact q
 have f:A1w X.prog X.w (upd H a (.frz o u)) s.heap a (.frz o u):=⟨h,(I.hok a u c).stay (λ_ _ _ q=>q) i j⟩;exact I.write (t':=s.toks) (h':=s.heap) (e:=a) (by rw[c];rcases g with ⟨_,rfl⟩|⟨_,rfl⟩<;>trivial) (.inl rfl) (λ_ _ _ e=>e) ⟨o,h⟩ f
theorem Inv.thawD(I:Inv X pins Z H s)(g:H a=some (.frz o u))(y:isD u)(h0:∀o' i,X.H₀ a≠some (.frz o' i)):Inv X pins Z (upd H a u) s:=by
 have h:∀b,H b=none->upd H a u b=none:=λb e=>by rw[eh (λz=>by subst z;rw[g]at e;cases e)];exact e
 have k:∀b d,H b=some (.tup d)->upd H a u b=some (.tup d):=λb d q=>by rw[eh (gN q g (by intro z;cases z))];exact q
 have m:∀b c,H b=some (.own c)->upd H a u b=some (.own c):=λb c q=>by rw[eh (gN q g (by intro z;cases z))];exact q
 refine⟨I.ok,I.os,I.bare,⟨I.base.keep,I.base.slot,λb l e n t=>h b (I.base.free b l e n t),I.base.there,λb d e=>k b d (I.base.tups b d e),λb l i e=>?_,λb r e=>?_⟩,I.loc,I.cell,h _ I.free,λx c e=>h _ (I.freeC x c e),
  λp j=>(fL ((I.pin p j).1) (h _ (I.pin p j).2.1) ((I.pin p j).2.2)),λb v e=>?_,I.len⟩
 ·have q:=I.base.frzs b l i e;rw[eh (λz=>by subst z;exact h0 _ _ e)];exact q
 ·obtain⟨f,q⟩:=I.base.tbls b r e;exact⟨f,by rw[eh (gN q g (by intro z;cases z))];exact q⟩
 ·by_cases hb:b=a
  ·subst hb;rw[dh]at e;cases e;obtain⟨_,q⟩:=(show A1w X.prog X.w H s.heap b (.frz o u) from I.hok b _ g);exact q.stay (λ_ _ _ q=>q) (λc q=>m c b q) λc d q=>k c d q
  ·rw[eh hb]at e;exact(I.hok b v e).stay (λ_ _ _ q=>q) (λc q=>m c b q) λc d q=>k c d q
def BS(X:Cx)(t:TS):TS:=λD Z H=>∃a o u,H a=some (.frz o u)/\isD u/\(∀c b,X.H₀ a≠some (.frz c b))/\t D Z (upd H a u)
theorem Fp{t:TS}(h:PSs X sts t):PSs X sts (BS X t):=by intro b s Z H D I c;refine gn c λa o u e f d q=>?_;clear c;exact h b s Z _ D (I.thawD e f d) q
abbrev qN(es:Array DictEntry)(L:List (V×V)):Prop:=Paired (λ(e:DictEntry)(p:V×V)=>A2h p.1 e.key/\A2h p.2 e.val) es.toList L
def Iti(a:zW)(o:Obj)(u:HO)(L:List (V×V)):It :=⟨λi H=>H a=some (.frz o u)/\i<L.length,λi H x b=>∃k v p,L[i]?=some (k,v)/\H p=none/\x=.ref p/\b=upd H p (.tup [k,v]),λi H=>H a=some (.frz o u)/\i=L.length⟩
theorem uS{α β:Type}{F:α->β->Prop}:∀{l:List α}{m:List β},Paired F l m->l.length=m.length|_,_,.nil=>rfl|_,_,.cons _ t=>by simp[uS t]
theorem yP{α β:Type}{F:α->β->Prop}:∀{l:List α}{m:List β},Paired F l m->∀{i:Nat}{y:β},m[i]?=some y->∃x,l[i]?=some x/\F x y|_,_,.nil,i,y,e=>by simp at e|_,_,.cons r t,0,y,e=>by simp at e;subst e;exact bd _ rfl r|_,_,.cons r t,i+1,y,e=>by obtain⟨x,b,a⟩:=yP t (i:=i) (by simpa using e);exact bd x (by simpa using b) a
theorem Gi(it a:zW)(o:Obj)(u:HO)(L:List (V×V))(es:Array DictEntry)(ep:Nat)(N:o.data=.dict es ep)(t:qN es L):
  C3g P w K (.Tuple elts kk pos) (Iti a o u L) [it] it (λi h=>∃x y,IsItemIter h it a i es.size ep x y) where
 mem:=by simp
 obj:=λi h d b A=>by
  have e:b=it:=by simpa using A
  subst e;obtain⟨x,y,e⟩:=d;exact bd _ e λv z=>by cases(show Data.fields _=Data.cell v from z)
 keep:=λi h D d k=>let⟨x,y,e⟩:=d;(ij x y (k it (by simp) _ e))
 item:=by
  intro X q C B l i f s Z H E I n d F;subst q C B;obtain⟨G,O⟩:=F;obtain⟨x,y,d⟩:=d;have hl:es.size=L.length:=by have:=uS t;simpa using this
  obtain⟨⟨k,v⟩,hkv⟩:∃p,L[i]?=some p:=⟨L[i],by simp[O]⟩;obtain⟨e,he,r1,r2⟩:=yP t hkv;obtain⟨j,_⟩:=(show A1w X.prog X.w H s.heap a (.frz o u) from I.hok a _ G);refine FV d j N rfl (e:=e) (by simpa using he) λD W z2 T=>?_;refine bd _ rfl (wpAny_letOwnedTupleGo_items (s:={s with heap:=D}) W λg R M=>?_)
  have J:s.heap.objs.size≠it:=jm (fW d)
  have I1:Inv X f Z (upd H s.heap.objs.size (.tup [k,v])) {s with heap:=g,toks:=s.toks}:=I.turnedNew (ts:=[it]) (λc o l e=>by
   have m:c≠it:=by simpa using l
   exact M.extBut _ _ m (T c o m e)) n (fH _) (qB (by show 2<=sizeLine;decide) [e.key,e.val] (.cons r1 (.cons r2 .nil)) _ (M.extBut _ _ J z2) rfl _ rfl)
  refine jr (.ref s.heap.objs.size) _ I1 rfl (gE k v _ hkv (I.hok.fresh (fH _)) rfl rfl) (ij _ _ R) λc l=>?_;have r:c=it:=by simpa using l
  subst r;rw[eh J.symm];exact(n c l).1
 done:=by
  intro X q C B l i f s Z H E I n d F;subst q C B;obtain⟨G,O⟩:=F;obtain⟨x,y,d⟩:=d;have hl:es.size=L.length:=by have:=uS t;simpa using this
  obtain⟨j,_⟩:=(show A1w X.prog X.w H s.heap a (.frz o u) from I.hok a _ G);refine ji (n it (by simp)) ?_;rintro U f1 f2 Q ⟨Y,f5⟩;exact E8 l d j N rfl (by lia) λD eb=>⟨rfl,I.turned (t':=s.toks) (λb S A e=>eb b S A e) U f1 Q Y f5⟩
 self:=λ_ _ s _ _ d h=>by obtain⟨x,y,d⟩:=d;exact FD d h
abbrev KL(H:Hp)(kvs:List (List Key×V))(L:List (V×V)):Prop:=Paired (λ(p:List Key×V)(q:V×V)=>∃b,q.1=.ref b/\H b=some (.tup (p.1.map kV))/\q.2=p.2) kvs L
theorem yO{α β:Type}{F:α->β->Prop}:∀{l:List α}{m:List β},l.length=m.length->(∀(i:Nat)(x:α)(y:β),l[i]?=some x->m[i]?=some y->F x y)->Paired F l m| [],[],_,_=>.nil| [],_::_,e,_=>by simp at e|_::_,[],e,_=>by simp at e|x::l,y::m,e,h=>.cons (h 0 x y rfl rfl) (yO (by simpa using e) λi a b p q=>h (i+1) a b (by simpa using p) (by simpa using q))
theorem B7(r:KV kvs vs)(p:Pairs (gG P w) es.toList vs):qN es (kvs.map λq=>(kV q.1,q.2)):=by refine yO (by rw[p.length,eA];exact r.length.symm) λi e y g a=>?_;rw[ju]at a;obtain⟨⟨k,v⟩,c,rfl⟩:=nK.mp a;obtain⟨u,h,d⟩:=r.at c;obtain⟨b,f⟩:=p.get? g h;subst f;exact⟨vZ b,d⟩
theorem wI{P:yB}{w:yD}{H:Hp}:∀{kvs:List (List Key×V)}{xs:List (List Key×zW×zX)},KT H kvs xs->
  ∃L,Paired (λ(e:DictEntry)(p:V×V)=>A2h p.1 e.key/\A2h p.2 e.val) (xs.map (entryOfKey (tupleKind (gG P w)))) L/\KL H kvs L
 |_,_,.nil=>(bd [] .nil .nil)
 |_,_,@Paired.cons _ _ _ p q _ _ h t=>by obtain⟨L,a,b⟩:=wI (P:=P) (w:=w) t;exact bd ((.ref q.2.1,p.2)::L) (.cons ⟨rfl,h.2.2⟩ a) (.cons (fJ q.2.1 rfl h.2.1 rfl) b)
def BZ(tl:TE):TI:=λZ H R=>tl Z H λx c=>∃v a u,x=.ref v/\c v=some (pA v a)/\c a=some u/\
 ((∃b,u=.dK b/\∀o,R (Iti a o u (b.map λq=>(kV q.1,q.2))) (upd c a (.frz o u)))\/∃b,u=.dT b/\∀o L,KL c b L->R (Iti a o u L) (upd c a (.frz o u)))
theorem DI{l:yC}(G:PE X l tl):PI X (.Tuple elts kk pos) l (BZ tl):=by
 intro c s Z H R I h;refine thn (G c s Z H _ I h) ?_;rintro y s1 t;refine oU t ?_;clear t;rintro x m I1 S v a u ⟨T,K,n,q⟩;subst T;cases S;obtain⟨Q,_⟩:=(show A1w X.prog X.w m s1.heap v (pA v a) from I1.hok v _ K)
 have p:∀(o:Obj)(d:Array DictEntry)(f:Nat)(L:List (V×V)),s1.heap.get? a=some o->o.data=.dict d f->isD u->qN d L->R (Iti a o u L) (upd m a (.frz o u))->
   wpAny (model X.prog X.w) X.A (pyIter (.ref v)) (PIE X c Z (.Tuple elts kk pos) R) X.xe s1:=by
  intro o d f L j i O D F;refine FW Q j i ?_;have I2:Inv X c Z m {s1 with heap:=s1.heap.push {cls:=.type "dict_itemiterator",data:=.fields #[.none,.bool false,.ref a,.int 0 0,.int d.size 0,.int f 0,.none,.none]},toks:=s1.toks}:=I1.kept λb Y e=>fS _ e
  have I3:=I2.frozenD n O (fS _ j);refine kN _ [s1.heap.objs.size] _ _ _ rfl I3 (Gi _ a o u L d f i D) (ij .none .none (gR _ rfl)) (λb J=>?_) F;have e:b=s1.heap.objs.size:=by simpa using J
  subst e;refine I1.fpOk (fH _) ?_;rw[eh (jm (I1.hok.lt n))];exact I1.hok.fresh (fH _)
 rcases q with ⟨k,rfl,q⟩|⟨k,rfl,q⟩
 ·refine ko (pS I1.hok n) ?_;rintro z M W g o d f j ⟨B,i,_,r,_⟩;exact p o d f _ j i (.inl ⟨_,rfl⟩) (B7 g r) (q o)
 ·refine ko (show A1w X.prog X.w m s1.heap a (.dT k) from I1.hok a _ n) ?_;rintro z M E g o d f j ⟨B,i,N,_⟩;obtain⟨L,C,U⟩:=wI (P:=X.prog) (w:=X.w) g;exact p o d f L j i (.inr ⟨_,rfl⟩) (by unfold qN;rw[N];exact C) (q o L U)
theorem EI{D:lO}(Pv:Nat->St->Hp->Prop)(h0:Pv 0 Z H)(b:∀i Z H,Pv i Z H->H a=some (.frz o u))
  (j:∀i k v p Z H,L[i]?=some (k,v)->H p=none->Pv i Z H->g (.ref p) Z (upd H p (.tup [k,v])) λZ2 H2=>tb {D with nx:=Pv (i+1),ct:=Pv (i+1),bk:=D.nx} Z2 H2) (f:∀Z H,Pv L.length Z H->D.nx Z H):
  ∃W:Nat->Nat->St->Hp->Prop,(∃m,W 0 m Z H)/\∀i m Z H,W i m Z H->
   ((Iti a o u L).stop i H/\D.nx Z H)\/((Iti a o u L).go i H/\∃N:St->Hp->Prop,(∀Z' H',N Z' H'->∃c,c<m/\W (i+1) c Z' H')/\∀x H',(Iti a o u L).yld i H x H'->g x Z H' λZ2 H2=>tb {D with nx:=N,ct:=N,bk:=D.nx} Z2 H2):=by
 refine bd (λi m Z H=>m=L.length-i/\i<=L.length/\Pv i Z H) (fJ L.length (by simp) (jj _) h0) ?_;rintro i m Z H ⟨rfl,n,p⟩;by_cases hlt:i<L.length
 ·refine .inr (gT ⟨b i Z H p,hlt⟩ (Pv (i+1)) (λZ' H' d=>(iU (L.length-(i+1)) (by lia) rfl hlt d)) λx H' y=>?_);refine gn y ?_;clear y;rintro k v q l h rfl rfl;exact j i k v q Z _ l h p
 ·have e:i=L.length:=by lia
  subst e;exact .inl ⟨⟨b _ Z H p,rfl⟩,f Z H p⟩
def vX(H:Hp):Prop:=(∀a b,H a=some (.dK b)->(b.map (·.1)).Nodup)/\∀a b,H a=some (.dT b)->(b.map (·.1)).Nodup
theorem Cj(r:KV kvs vs):kvs.map (·.1)=vs.map (·.1):=by
 unfold KV at r
 induction r with
 |nil=>rfl
 |cons h t ih=>rw[gA,gA,ih,h.1]
theorem C7{kvs:List (List Key×V)}{xs:List (List Key×zW×zX)}(r:KT H kvs xs):kvs.map (·.1)=xs.map (·.1):=by
 induction r with
 |nil=>rfl
 |cons h t ih=>rw[gA,gA,ih,h.1]
theorem Inv.apart(I:Inv X pins Z H s):vX H:=by
 refine⟨λa c e=>?_,λa c e=>?_⟩
 ·refine ko (pS I.hok e) ?_;rintro _ _ h b o f d _ ⟨_,_,_,_,n⟩;rw[Cj b];exact n
 ·refine ko (show A1w X.prog X.w H s.heap a (.dT c) from I.hok a _ e) ?_;rintro _ _ g b o f d _ ⟨_,_,_,n⟩;rw[C7 b];exact n
theorem Ep{t:TS}(h:PSs X sts t):PSs X sts (λD Z H=>vX H->t D Z H):=λa s Z H D I q=>h a s Z H D I (q I.apart)
theorem yg[DecidableEq κ]{kvs:List (κ×V)}{k:κ}(n:(kvs.map (·.1)).Nodup)(h:kvs[i]?=some (k,v))(b:List (κ×V))(e:b.map (·.1)=(kvs.take i).map (·.1))(u:V):gr b k u=b++[(k,u)]:=by
 unfold gr;rw[bp];intro a;obtain⟨p,m,c⟩:=List.any_eq_true.mp a;have c:p.1=k:=by simpa using c
 have g:k∈b.map (·.1):=gY.mpr (bd p m c);rw[e]at g;obtain⟨q,t,o⟩:=gY.mp g;obtain⟨j,A,f⟩:=List.mem_iff_getElem.mp t;have r:j<i:=by have:=List.length_take_le i kvs;lia
 rw[List.getElem_take]at f;obtain⟨z,B⟩:=fY.mp h;have d:j<kvs.length:=by lia
 have s:(kvs.map λx=>x.1)[j]?=some k:=by rw[ju,gU d,f];exact congrArg some o
 have w:(kvs.map λx=>x.1)[i]?=some k:=by rw[ju,h];rfl
 obtain⟨D,y⟩:=fY.mp s;obtain⟨C,l⟩:=fY.mp w;have:j=i:=(List.getElem_inj n).mp (y.trans l.symm)
 lia
theorem At:entryFor table "dict.update.loop"=some Builtin.«dict.update.loop»:=entryFor_of_tree (by kernel_rfl)
theorem sL:plainId "dict.update.loop"=true:=by decide+kernel
section
variable{prog:yB}{w:yD}{K:Type}[DecidableEq K]{knd:KeyKind prog w K}{A:zZ}{R:Result->zY->Prop}{I l d:zW}{items:zG}{rs:List (K×zX)}{h₀:yA}{g:Array GenState}{dr:Drawn}{os:OsState}
end
def B1b(a:Env):List (Str×zW)->Prop| []=>True|p::r=>a.cells.lookup p.1=some p.2/\B1b a r
theorem B1b.get{a:Env}:∀{cl:List (Str×zW)},B1b a cl->∀{x:Str}{c:zW},cl.lookup x=some c->a.cells.lookup x=some c
 | [],_,_,_,h=>by cases h
 |(y,d)::r,h,x,c,e=>by
  rw[nJ]at e;split at e
  ·rename_i hb;have b:x=y:=by simpa using hb
   cases e
   subst b;exact h.1
  ·exact B1b.get h.2 e
theorem An{x:Str}:∀{cl:List (Str×zW)},x∈cl.map (·.1)->∃c,cl.lookup x=some c
 | [],h=>by cases h
 |(y,d)::r,h=>by
  rw[nJ]
  cases hb:(x==y)with
  |true=>exact⟨d,rfl⟩
  |false=>
   have a:x≠y:=by simpa using hb
   rcases gB.mp h with e|e
   ·exact absurd e a
   ·exact An e
theorem yE{xs:zC}(o:closureFor scope X.env=pure cl)(t:B1b X.env cl)(p:cl.map (·.1)=xs)(a:scope.kind=.function)(f:∀y∈scope.names,y.2≠.cell/\(y.2=.free->y.1∈xs))
  (i:∀y∈scope.names,y.2=.local->scope.names.lookup y.1=some .local):mU X scope cl where
 eq:=o
 sub:=λy d h=>t.get h
 has:=λy h=>by
  have b:y∈xs:=by
   have m:∃k,(y,k)∈(relabel scope X.env).names/\(k=.cell\/k=.free):=h.elim (λz=>(bd _ (qw z) (.inl rfl))) λz=>(bd _ (qw z) (.inr rfl));obtain⟨k,r,a⟩:=m;obtain⟨⟨n,c⟩,g,e⟩:=gY.mp r;dsimp only at e;by_cases hf:c=.free
   ·have q:n=y:=by
     split at e
     ·exact congrArg Prod.fst e
     ·exact congrArg Prod.fst e
    rw[<-q];exact(f _ g).2 hf
   ·have j:(c==NameKind.free)=false:=by simpa using hf
    simp only [j,Bool.false_and,Bool.false_eq_true,if_false]at e;have l:c=k:=congrArg Prod.snd e;subst l;rcases a with a|a
    ·exact absurd a (f _ g).1
    ·exact absurd a hf
  rw[<-p]at b;exact An b
 kind:=a
 ncell:=λy s=>(f y s).1
 names:=i
def B5c(X:Cx)(scope:Scope):zC->List Nat->Prop| [],[]=>True|x::xs,j::js=>(X.N[j]?=some x/\(X.env.scope.names.lookup x=some .cell\/X.env.scope.names.lookup x=some .free)/\((relabel scope X.env).names.lookup x=some .cell\/(relabel scope X.env).names.lookup x=some .free))/\B5c X scope xs js|_,_=>False
theorem B5c.get{X:Cx}{scope:Scope}:∀{xs:zC}{js:List Nat},B5c X scope xs js->xs.length=js.length/\∀(i j:Nat),js[i]?=some j->∃x,xs[i]?=some x/\X.N[j]?=some x/\(X.env.scope.names.lookup x=some .cell\/X.env.scope.names.lookup x=some .free)/\((relabel scope X.env).names.lookup x=some .cell\/(relabel scope X.env).names.lookup x=some .free)
 | [],[],_=>⟨rfl,λi j e=>by simp at e⟩
 |x::xs,j::js,h=>by
  obtain⟨e,f⟩:=B5c.get h.2;refine⟨by simp[e],λi k a=>?_⟩
  cases i with
  |zero=>simp at a;subst a;exact bd x rfl h.1
  |succ i=>exact f i k (by simpa using a)
 | [],_::_,h=>h.elim
 |_::_,[],h=>h.elim
theorem yT{xs:zC}(h:B5c X scope xs js):nw X (N0++xs) scope (List.replicate N0.length none++js.map some):=by
 obtain⟨a,b⟩:=h.get;refine⟨by simp[a],λi k e=>?_⟩;by_cases hi:i<N0.length
 ·rw[mG (by simpa using hi),List.getElem?_replicate]at e;split at e<;>cases e
 ·rw[mH (by simpa using hi),List.length_replicate,ju]at e;obtain⟨j,m,c⟩:=nK.mp e;cases c;refine iD (b _ _ m) ?_;rintro x f l ⟨d,g⟩;exact iU x (by rw[mH (by lia)];exact f) l d g
theorem qv(n:Nat)(Pv:Nat->List V->Hp->Prop)(h0:Pv 0 [] (upd H D (.lst [])))(c:∀i ys H,i<n->Pv i ys H->J.go i H)(d:∀ys H,Pv n ys H->J.stop n H)
  (j:∀i ys H,i<n->Pv i ys H->∀x b,J.yld i H x b->g x Z₀ b λZ4 H4=>A2z Z₀ Z4/\te Z4 H4 λy a=>a D=some (.lst ys)/\ys.length<sizeLine/\Pv (i+1) (ys++[y]) (upd a D (.lst (ys++[y])))) (h:∀ys H,Pv n ys H->QD H):
  ∃W:Nat->Nat->Hp->Prop,(∃m,W 0 m (upd H D (.lst [])))/\∀i m H2,W i m H2->
   (J.stop i H2/\QD H2)\/(J.go i H2/\∃N:VK,(∀y a,N y a->∃xs,a D=some (.lst xs)/\xs.length<sizeLine/\∃f,f<m/\W (i+1) f (upd a D (.lst (xs++[y]))))/\
    ∀x b,J.yld i H2 x b->g x Z₀ b λZ4 H4=>A2z Z₀ Z4/\te Z4 H4 N):=by
 refine bd (λi m H=>m=n-i/\i<=n/\∃ys,Pv i ys H) (pM n (by simp) (jj _) [] h0) ?_;rintro i m H2 ⟨rfl,k,ys,p⟩;by_cases hlt:i<n
 ·exact .inr (gT (c i ys H2 hlt p) (λy a=>a D=some (.lst ys)/\ys.length<sizeLine/\Pv (i+1) (ys++[y]) (upd a D (.lst (ys++[y])))) (λy a z=>(sS ys z.1 z.2.1 (n-(i+1)) (by lia) rfl hlt _ z.2.2)) λx b z=>j i ys H2 hlt p x b z)
 ·have e:i=n:=by lia
  subst e;exact .inl ⟨d ys H2 p,h ys H2 p⟩
theorem uc{b:Bool}(h:mroIn K C (.type U)=some b)(a:PySem.W.kitMeta U=true):∀u,A2h (.ty U) u->kitOne K (.ref C) u=some b:=by intro u z;cases(show u=Value.type U from z);unfold kitOne;rw[bp (show¬(Value.ref C==Value.type U)=true from gL)];show(if PySem.W.kitMeta U=true then subIn K (.ref C) (.type U)else none)=some b;rw[bz a];exact h
theorem A4x.or{k:Nat}{f:zW}(F:A4x P w K mg base CX k f fd ps sp)(i:A4x P w K mg base CX k f fd ps sp'):
  A4x P w K mg base CX k f fd ps (λvs H Q E=>sp vs H Q E\/sp' vs H Q E):=
 ⟨λvs H Q E q=>q.elim (F.len vs H Q E) (i.len vs H Q E),λA a s H b d vs Q E g h c e q=>q.elim (F.run A a s H b d vs Q E g h c e) (i.run A a s H b d vs Q E g h c e)⟩
theorem Gv(acc a:zJ)(w:Key×V):hV acc (a++[w])=gr (hV acc a) w.1 w.2:=by unfold hV;rw[List.foldl_append];rfl
theorem ye{k:Key}{p:Key×V}(h:p∈gr kvs k v):p∈kvs\/p=(k,v):=by
 unfold gr at h;split at h
 ·obtain⟨q,a,e⟩:=gY.mp h;split at e
  ·rename_i ek;exact .inr (by rw[<-e,ek])
  ·exact .inl (e▸a)
 ·rcases iw.mp h with h|h
  ·exact .inl h
  ·exact .inr (by simpa using h)
theorem D8{c j:Pos}(t:X.N.Nodup)(G:X.N[i₀]?=some f)(K:Loc X.env.scope f)(hc:X.calm=true)(Y:mU X scope cl)(E:nw X N' scope ix)(hi:PI X tg iter wi)
  (hg:∀C p H₀ fp,PG (blk X N' scope cl C p H₀ fp) tg g) (ht:∀C p H₀ fp,PTs (blk X N' scope cl C p H₀ fp) cs tc) (he:∀C p H₀ fp,PE (blk X N' scope cl C p H₀ fp) elt te) (R:lO->St->It->Hp->Prop) (U:∀D Z J H1,R D Z J H1->∀D2,H1 D2=none->∃W:Nat->Nat->Hp->Prop,(∃m,W 0 m (upd H1 D2 (.lst [])))/\∀i m H2,W i m H2->
   (J.stop i H2/\D.nx (Z.set i₀ (some (.ref D2))) H2)\/(J.go i H2/\∃(N:VK)(M:Hp->Prop),(∀y d,N y d->∃xs,d D2=some (.lst xs)/\xs.length<sizeLine/\∃n,n<m/\W (i+1) n (upd d D2 (.lst (xs++[y]))))/\(∀d,M d->∃n,n<m/\W (i+1) n d)/\∀x L,J.yld i H2 x L->g x (kB ix Z) L λZ4 H4=>A2z (kB ix Z) Z4/\tc Z4 H4 λb d=>if b=true then te Z4 d N else M d)) (hs:∀x,foldedSetIterable iter X.env x=pure x:=by intro _;rfl)
  (F:swapsWith (.ListComp elt [⟨tg,iter,cs,0⟩] scope pos) (some (.Name f c)) j.line X.env=pure true:=by rfl) (w:X.fn f=true\/X.env.scope.names.lookup f=some .local:=by first|exact .inl rfl|exact .inr rfl|assumption):
  PS X (.Assign [.Name f c] (.ListComp elt [⟨tg,iter,cs,0⟩] scope pos) j) (λD Z H=>wi Z H (R D Z)):=by
 intro l s Z H D₀ I h;rw[exec_Assign_Name_used _ _ _ _ F];refine bc (sV (bc ?_));show wpAny _ X.A (do let _<-comprehension (.ListComp elt [⟨tg,iter,cs,0⟩] scope pos) scope X.env _ (newList []) false (eval iter X.env) (some (assign (.Name f c) X.env))) _ _ s;refine bc (jE (yo (use:=some (assign (.Name f c) X.env)) (I.ok.hd hc) Y E hi hg ht he hs (S:=λD2 H2=>D₀.nx (Z.set i₀ (some (.ref D2))) H2) (U D₀ Z) (Qf:=λ_ O=>∃Z' P,Inv X l Z' P O/\D₀.nx Z' P) (λD C d T x qn Q k Io=>?_) I h) (λ_ O hq=>ck (ck hq)) λ_ _ e=>e);have Io:=Io _ (Heap.SameBut.refl _ _);show wpAny _ X.A (assign (.Name f c) X.env (.ref D)) _ _ T;refine wpAny_assign_Name (yr Io t G K (v:=.ref D) rfl (λs7 I7 B=>?_) w);obtain⟨a,sb,q⟩:=B
 have ca:C≠a:=by
  rcases q with q|q
  ·rw[q];exact k.2.1
  ·exact λz=>k.2.2.2.2.1 _ _ q z.symm
 refine iN Q ?_;clear Q;rintro mm oC es ⟨ep,ho,r⟩;exact bd mm (iC oC es ep ((sb.2 _ ca).trans ho) r) λh' u=>(gF _ d (I7.turned (t':=s7.toks) (λb o hb e=>(u.2 b hb).trans e) k.1 k.2.1 k.2.2.2.1 k.2.2.2.2.1 k.2.2.2.2.2) qn)
theorem rG{c:Str}{b a:Pos}(f:X.N.Nodup)(n:X.N[i₀]?=some c)(o:Loc X.env.scope c)(u:X.calm=true)(s:mU X scope cl)(t:nw X N' scope ix)(hi:PI X tg iter wi)
  (D:∀C k H₀ fp,PG (blk X N' scope cl C k H₀ fp) tg g) (A:∀C k H₀ fp,PE (blk X N' scope cl C k H₀ fp) elt te) (y:∀x,foldedSetIterable iter X.env x=pure x:=by intro _;rfl)
  (l:swapsWith (.ListComp elt [⟨tg,iter,[],0⟩] scope pos) (some (.Name c b)) a.line X.env=pure true:=by rfl) (j:X.fn c=true\/X.env.scope.names.lookup c=some .local:=by first|exact .inl rfl|exact .inr rfl|assumption):
  PS X (.Assign [.Name c b] (.ListComp elt [⟨tg,iter,[],0⟩] scope pos) a) (qU (tN ix wi g te) (mY i₀)):=
 D8 (tc:=λ_ H Q=>Q true H) f n o u s t hi D (λ_ _ _ _ _ _ _ _ _ I h=>wpAny_tests_nil (bd _ I h)) A _ (λ_ _ _ _ R v p=>by
  obtain⟨W,F,d⟩:=R v p;refine bd W F λi m q w=>(d i m q w).imp id λ⟨r,N,B,e⟩=>(jg r N (λ_=>False) B (λ_ z=>z.elim) ?_)
  simpa using e) y l j
def pP(K:Frag)(a:zW):It :=
 ⟨λi H=>∃b x,SqL K H a b/\b[i]?=some x,
  λi H v c=>∃p,H p=none/\v=.ref p/\∃x,(∀b,SqL K H a b->b[i]?=some x)/\c=upd H p (.tup [.int (i:Nat),x]),
  λi H=>∃b,SqL K H a b/\b.length<=i⟩
def EnSt(e it a:zW)(i:Nat)(h:yA):Prop:=(∃b,IsEnum h e it (i:Nat) b)/\h.IsListIter it a i
theorem EN{e:zW}(O:e≠it):C3g P w K (.Tuple elts kk pos) (pP K a) [e,it] e (EnSt e it a) where
 mem:=by simp
 obj:=λi h j c b=>by
  obtain⟨⟨d,f⟩,m⟩:=j;simp only [gB,mf,or_false]at b;rcases b with rfl|rfl
  ·exact bd _ f λv z=>by cases(show Data.fields _=Data.cell v from z)
  ·obtain⟨o,ho,_,R⟩:=m;exact bd o ho λv z=>by rw[R]at z;cases z
 keep:=λi h J j k=>by obtain⟨⟨d,f⟩,m⟩:=j;exact⟨⟨d,k e (by simp) _ f⟩,m.at λo z=>k it (by simp) o z⟩
 item:=by
  intro X y G L b i l s Z H E I n j M;subst y G L;obtain⟨Y,x,p,t⟩:=M;obtain⟨F,D,r,_⟩:=I.list p;obtain⟨u,hu,ru⟩:=D.get t;obtain⟨⟨d,f⟩,m⟩:=j;refine wpAny_pyNext_enum_item f m r.isList (x:=u) (by simpa using hu) O λJ z1 z2 Q z4 A=>?_;refine bd _ rfl (wpAny_letOwnedTupleGo_enum (s:={s with heap:=J,toks:=s.toks+1}) z1 λg U C=>?_)
  have N:s.heap.objs.size≠e:=jm (fW f);have W:it<s.heap.objs.size:=let⟨_,q,_⟩:=m;fW q;have S:g.get? s.heap.objs.size=some {cls:=.type "tuple",data:=.seq #[.int i s.toks,u]}:=C.extBut _ _ N Q
  have I1:Inv X l Z (upd H s.heap.objs.size (.tup [.int (i:Nat),x])) {s with heap:=g,toks:=s.toks+1}:=I.turnedNew (ts:=[e,it]) (λc o b q=>by
   simp only [gB,mf,or_false,not_or]at b
   exact C.extBut _ _ b.1 (A c o b.1 b.2 q)) n (fH _) (qB (by show 2<=sizeLine;decide) [.int i s.toks,u] (.cons ⟨_,rfl⟩ (.cons ru .nil)) _ S rfl _ rfl)
  refine⟨.ref s.heap.objs.size,_,I1,rfl,⟨_,I.hok.fresh (fH _),rfl,x,λzs T=>by rw[I.list_inj T p];exact t,rfl⟩,⟨⟨_,U⟩,z2.at λo q=>C.extBut _ _ O.symm q⟩,λc b=>?_⟩
  have B:c≠s.heap.objs.size:=by
   simp only [gB,mf,or_false]at b;rcases b with rfl|rfl
   ·exact N.symm
   ·exact im W
  rw[eh B];exact(n c b).1
 done:=by
  intro X y G L b i l s Z H E I n j M;subst y G L;obtain⟨Y,p,t⟩:=M;obtain⟨F,D,r,_⟩:=I.list p;have e1:=D.length;obtain⟨⟨d,f⟩,m⟩:=j;refine wpAny_pyNext_enum_end b f m r.isList (by simp;lia) λJ A=>⟨rfl,?_⟩
  exact I.turnedL (t':=s.toks) (ts:=[e,it]) (λc o b q=>by
   simp only [gB,mf,or_false,not_or]at b
   exact A c o b.2 q) n
 self:=λ_ _ _ _ _ j h=>by obtain⟨⟨d,f⟩,_⟩:=j;exact wpAny_pyIter_enum f h
def A9(K:Frag)(ta:TA):TI:=λZ H R=>ta Z H λc b=>∃a d,c=[.ref a]/\SqL K b a d/\R (pP K a) b
theorem wY{a:yC}{ta:TA}{p:Pos}(B:Gl X "enumerate")(z:X.mg "enumerate"=none)(C:PA X [a] ta)(w:starEach [a] X.env=[(false,eval a X.env)]:=by rfl):
  PI X (.Tuple elts kk tpos) (.Call (.Name "enumerate" p) [a] [] pos) (A9 X.K ta):=by
 intro b s Z H R I h;refine Call_ (mM I B z boot_enumerate (PyProof.Rows.callWith_type1 (thn (C pos b s Z H _ I h) ?_) (by rw[w];rfl) (by rfl)));refine λJ f m=>fO m λF i I1 r g=>?_;clear m;refine fO g λl G e A q=>?_;clear g;subst e;obtain⟨u,rfl,t⟩:=mq r;cases t;obtain⟨v,L,n,_⟩:=I1.list A;refine call_enumerate_list n.isList λx j y D o=>wpAny_pyIter_enum j ?_;have I2:Inv X b Z i {f with heap:=x}:=I1.kept (t':=f.toks) o;refine kN _ [f.heap.objs.size+1,f.heap.objs.size] _ _ i rfl I2 (EN (jm (Nat.lt_succ_self _))) ⟨⟨_,j⟩,y⟩ (λc k=>?_) q
 have d:f.heap.objs.size<=c:=by
  simp only [gB,mf,or_false]at k;rcases k with rfl|rfl
  ·exact Nat.le_succ _
  ·exact fH _
 exact I1.fpOk d (I1.hok.fresh d)
theorem xD{xs:zM}{D:lO}(Pv:Nat->St->Hp->Prop)(h0:Pv 0 Z H)(d:∀i Z H,Pv i Z H->SqL K H a xs)
  (j:∀i x Z H p,xs[i]?=some x->Pv i Z H->H p=none->g (.ref p) Z (upd H p (.tup [.int (i:Nat),x])) λZ2 H2=>tb {D with nx:=Pv (i+1),ct:=Pv (i+1),bk:=D.nx} Z2 H2) (h:∀Z H,Pv xs.length Z H->D.nx Z H):
  ∃W:Nat->Nat->St->Hp->Prop,(∃m,W 0 m Z H)/\∀i m Z H,W i m Z H->
   ((pP K a).stop i H/\D.nx Z H)\/((pP K a).go i H/\∃N:St->Hp->Prop,(∀Z' H',N Z' H'->∃b,b<m/\W (i+1) b Z' H')/\∀x H',(pP K a).yld i H x H'->g x Z H' λZ2 H2=>tb {D with nx:=N,ct:=N,bk:=D.nx} Z2 H2):=by
 refine bd (λi m Z H=>m=xs.length-i/\i<=xs.length/\Pv i Z H) (fJ xs.length (by simp) (jj _) h0) ?_;rintro i m Z H ⟨rfl,n,p⟩;have q:=d i Z H p;by_cases hlt:i<xs.length
 ·refine .inr (gT (gF xs _ q (gU hlt)) (Pv (i+1)) (λZ' H' k=>(iU (xs.length-(i+1)) (by lia) rfl hlt k)) λv H' y=>?_);refine iD y ?_;clear y;rintro c l rfl ⟨x,f,rfl⟩;exact j i x Z H c (f xs q) p l
 ·have e:i=xs.length:=by lia
  subst e;exact .inl ⟨(bd xs q (fH _)),h Z H p⟩
def BV(X:Cx)(t:TE):TE:=λZ H Q=>t Z H λv c=>∃a o b,c a=some (.frz o (.dK b))/\(∀e d,X.H₀ a≠some (.frz e d))/\Q v (upd c a (.dK b))
theorem xT{e:yC}{t:TE}(h:PE X e t):PE X e (BV X t):=λb s Z H Q I q=>thn (h b s Z H _ I q) (by (rintro u k d;refine oU d ?_;clear d;rintro v l I1 g a o c ⟨j,f,i⟩);exact fC v _ (I1.thaw j ⟨c,rfl⟩ f) g i)
abbrev oF(h:yA)(z TI TO:zW)(a:zX)(b:Bool):Prop :=h.get? z=some {cls:=.type "zip",dict:=none,data:=.fields #[a,.bool b,.bool false,.ref TI,.ref TO],slots:=#[]}
theorem GD{Q:Option Obj->zY->Prop}(h:Q (s.heap.get? a) s):wpAny (model prog w) A (loadIfAlive a) Q E s:=λΓ p _=>by show PySem.Sem.wp _ Γ (.loadIfAlive a .pure) _ _ p s;rw[PySem.Sem.wp];exact h
theorem Ad{TI TO:zW}{b:Bool}{Q:Bool->zY->Prop}(hz:oF s.heap z TI TO (rawInt (p:Int)) b)(c:s.heap.get? p=some o)
  (q:∀h',oF h' z TI TO (rawInt (p:Int)) true->Heap.SameBut z s.heap h'->Q false {s with heap:=h'}):wpAny (model prog w) A (Builtin.SmallTypes.ownedTupleIsFree (.ref z)) Q E s:=by
 unfold Builtin.SmallTypes.ownedTupleIsFree;refine bc (jc hz rfl (x:=rawInt (p:Int)) rfl ?_);show wpAny _ _ (loadIfAlive (Int.toNat (p:Int))>>=_) _ _ _;refine bc (GD ?_);rw[Int.toNat_natCast,c];show wpAny _ _ (field (.ref z) 1>>=_) _ _ _;refine bc (jc hz rfl (x:=.bool b) rfl ?_)
 cases b with
 |true=>show wpAny _ _ (pure false) _ _ _;exact ck (q s.heap hz ⟨rfl,λ_ _=>rfl⟩)
 |false=>show wpAny _ _ (setField (.ref z) 1 (.bool true)>>=_) _ _ _;refine bc (jV hz (by simp) λe a d=>?_);exact ck (q e a d)
section
variable{TI TO:zW}
theorem DU(N1:Nx i1 l1 st1 src1)(N2:Nx i2 l2 st2 src2){b:Bool}{Q:zN->zY->Prop}(D:ZipApart z TI TO i1 i2 l1 l2)
  (hz:oF s.heap z TI TO (rawInt (p:Int)) b) (u:s.heap.get? p=some o) (l:IsPair s.heap TI (.ref i1) (.ref i2)) (h1:st1 k1 s.heap) (h2:st2 k2 s.heap) (j:src1 xs s.heap) (m:src2 ys s.heap) (C:xs[k1]?=some x) (I:ys[k2]?=some y)
  (v:∀h',oF h' z TI TO (rawInt (p:Int)) true->st1 (k1+1) h'->st2 (k2+1) h'->IsPair h' s.heap.objs.size x y->
   (∀c o,c≠z->c≠i1->c≠i2->s.heap.get? c=some o->h'.get? c=some o)->Q (some (.ref s.heap.objs.size)) {s with heap:=h'}):wpAny (model prog w) A (pyNext (.ref z)) Q E s:=by
 have q:s.TypeIs (.ref z) "zip":=(bd _ hz rfl);unfold pyNext;refine bc (wpAny_attempt (lh (name:=Str.ofString "__next__") q F.slot_zip_next (jb F.slot_zip_next q F.entry_zip_next ?_ (F.args_zip_next_1 _))));show wpAny _ _ (field (.ref z) 2>>=_) _ _ _;refine bc (jc hz rfl (x:=.bool false) rfl ?_);show wpAny _ _ (field (.ref z) 3>>=_) _ _ _;refine bc (jc hz rfl (x:=.ref TI) rfl ?_);refine bc (jL l rfl ?_);show wpAny _ _ (Builtin.SmallTypes.ownedTupleIsFree (.ref z)>>=_) _ _ _;refine bc (Ad hz u λL J d=>?_);simp only [Bool.false_eq_true,if_false];refine bc ?_;simp only [<-Array.forIn_toList,List.forIn_cons,List.forIn_nil];refine bc (bc (jC ?_));show wpAny _ _ (Builtin.SmallTypes.nextOf (.ref i1)>>=_) _ _ _;refine bc (N1.item (N1.mv h1 λo e=>d.extBut _ _ D.i1z e) (N1.mvS j λo e=>d.extBut _ _ D.l1z e) C λM H f=>ck (ck ?_));refine bc (bc (jC ?_));show wpAny _ _ (Builtin.SmallTypes.nextOf (.ref i2)>>=_) _ _ _;refine bc (N2.item (N2.mv h2 λo e=>f.extBut _ _ D.i12.symm (d.extBut _ _ D.i2z e)) (N2.mvS m λo e=>f.extBut _ _ D.l2i1 (d.extBut _ _ D.l2z e)) I λg3 r g=>ck (ck (ck ?_)));have a:g3.objs.size=s.heap.objs.size:=by rw[g.1,f.1,d.1]
 have K:z<g3.objs.size:=by rw[a];exact fW hz
 show wpAny _ _ (newTuple [x,y]>>=_) _ _ _;refine bc (wpAny_newTuple ?_);have t:oF g3 z TI TO (rawInt (p:Int)) true:=g.extBut _ _ D.i2z.symm (f.extBut _ _ D.i1z.symm J);have B:∀c o,c≠z->c≠i1->c≠i2->s.heap.get? c=some o->g3.get? c=some o:=λc o h i k e=>g.extBut _ _ k (f.extBut _ _ i (d.extBut _ _ h e));have G:st1 (k1+1) g3:=N1.mv H λo e=>g.extBut _ _ D.i12 e;have n:IsPair (g3.push {cls:=.type "tuple",data:=.seq #[x,y]}) g3.objs.size x y:=gR _ rfl;rw[a]at n;refine ck (bd _ rfl (ck ?_));show Q (some (.ref g3.objs.size)) _;rw[a];exact v _ (fS _ t) (N1.mv G λo e=>fS _ e) (N2.mv r λo e=>fS _ e) n λc o h i k e=>fS _ (B c o h i k e)
theorem Cm(N1:Nx i1 l1 st1 src1)(N2:Nx i2 l2 st2 src2){b:Bool}{Q:zN->zY->Prop}(q:A.handled=none)(D:ZipApart z TI TO i1 i2 l1 l2)
  (hz:oF s.heap z TI TO (rawInt (p:Int)) b) (H:s.heap.get? p=some o) (j:IsPair s.heap TI (.ref i1) (.ref i2)) (h1:st1 k1 s.heap) (h2:st2 k2 s.heap) (i:src1 xs s.heap) (n:src2 ys s.heap) (f:xs[k1]?=none\/ys[k2]?=none)
  (I:∀h',(∀c o,c≠z->c≠i1->c≠i2->s.heap.get? c=some o->h'.get? c=some o)->Q none {s with heap:=h'}):wpAny (model prog w) A (pyNext (.ref z)) Q E s:=by
 have t:s.TypeIs (.ref z) "zip":=(bd _ hz rfl);unfold pyNext
 have g:∀(h':yA)(e:zW),(∀c o,c≠z->c≠i1->c≠i2->s.heap.get? c=some o->h'.get? c=some o)->(∃o,h'.get? e=some o/\o.cls=.type "StopIteration")->
   wpAny (model prog w) A (isInstance (.ref e) (.type "StopIteration")>>=λb=>if b=true then pure none else throw (.ref e)) Q E {s with heap:=h'}:=λh' e J ⟨o,G,C⟩=>
  bc (wpAny_isInstance (T:="StopIteration") (b:=true) (bd o G C) isSubtype_stop (ck (I _ J)))
 refine bc (wpAny_attempt (lh (name:=Str.ofString "__next__") t F.slot_zip_next (jb F.slot_zip_next t F.entry_zip_next ?_ (F.args_zip_next_1 _))));show wpAny _ _ (field (.ref z) 2>>=_) _ _ _;refine bc (jc hz rfl (x:=.bool false) rfl ?_);show wpAny _ _ (field (.ref z) 3>>=_) _ _ _;refine bc (jc hz rfl (x:=.ref TI) rfl ?_);refine bc (jL j rfl ?_);show wpAny _ _ (Builtin.SmallTypes.ownedTupleIsFree (.ref z)>>=_) _ _ _;refine bc (Ad hz H λM O a=>?_);simp only [Bool.false_eq_true,if_false];refine bc ?_;simp only [<-Array.forIn_toList,List.forIn_cons,List.forIn_nil];refine bc (bc (jC ?_));show wpAny _ _ (Builtin.SmallTypes.nextOf (.ref i1)>>=_) _ _ _;have v:=N1.mv h1 λo e=>a.extBut _ _ D.i1z e;have r:=N1.mvS i λo e=>a.extBut _ _ D.l1z e
 cases hx:xs[k1]? with
 |none=>refine bc (N1.fin q v r hx λu e d l=>?_);exact g u e (λc o k m _ x=>d _ _ m (a.extBut _ _ k x)) l
 |some x=>
  have B:ys[k2]?=none:=by
   rcases f with h|h
   ·rw[hx]at h;cases h
   ·exact h
  refine bc (N1.item v r hx λu N d=>ck (ck ?_));refine bc (bc (jC ?_));show wpAny _ _ (Builtin.SmallTypes.nextOf (.ref i2)>>=_) _ _ _;refine bc (N2.fin q (N2.mv h2 λo e=>d.extBut _ _ D.i12.symm (a.extBut _ _ D.i2z e)) (N2.mvS n λo e=>d.extBut _ _ D.l2i1 (a.extBut _ _ D.l2z e)) B λy e L l=>?_);exact g y e (λc o k m K x=>L _ _ K (d.extBut _ _ m (a.extBut _ _ k x))) l
end
def ZS(z TI TO i1 i2 a b d:zW)(i:Nat)(h:yA):Prop:=IsPair h TI (.ref i1) (.ref i2)/\h.IsListIter i1 a i/\h.IsTupleIter i2 b i/\
 ((IsZip h z TI TO .none/\∃u v,IsPair h TO u v)\/∃(p:zW)(o:Obj)(c:Bool),oF h z TI TO (rawInt (p:Int)) c/\h.get? p=some o/\p≠z/\p≠i1/\p≠i2/\p≠d)
theorem ZS.at{TI TO:zW}(x:ZS z TI TO i1 i2 a b d i h)(l:z≠d)(m:TI≠d)(s:TO≠d)(A:i1≠d)(r:i2≠d)(f:∀c o,c≠d->h.get? c=some o->h'.get? c=some o):ZS z TI TO i1 i2 a b d i h':=by
 obtain⟨t,y,n,g⟩:=x;refine iW (f _ _ m t) ((oI i1 a).mv y λo e=>f _ _ A e) ((oP i2 b).mv n λo e=>f _ _ r e) ?_;rcases g with ⟨g,u,v,j⟩|⟨p,o,B,g,j,C,w,q,k⟩
 ·exact .inl ⟨f _ _ l g,(ij u v (f _ _ s j))⟩
 ·exact .inr (mR p o B (f _ _ l g) (f _ _ k j) C w q k)
section
variable{TI TO:zW}
theorem Dh{Q:zN->zY->Prop}(D:ZipApart z TI TO i1 i2 a b)(ld:d<s.heap.objs.size)(hz:ZS z TI TO i1 i2 a b d i s.heap)(F:s.heap.IsList a xs)(I:s.heap.IsTuple b ys)(t:xs[i]?=some x)(C:ys[i]?=some y)
  (G:∀h',ZS z TI TO i1 i2 a b d (i+1) h'->IsPair h' s.heap.objs.size x y->(∀c o,c≠z->c≠TO->c≠i1->c≠i2->s.heap.get? c=some o->h'.get? c=some o)->Q (some (.ref s.heap.objs.size)) {s with heap:=h'}):
  wpAny (model prog w) A (pyNext (.ref z)) Q E s:=by
 obtain⟨j,r,n,g⟩:=hz;have K:i1<s.heap.objs.size:=let⟨_,e,_⟩:=(oI i1 a).ob r;fW e;have O:i2<s.heap.objs.size:=let⟨_,e,_⟩:=(oP i2 b).ob n;fW e;rcases g with ⟨g,u,v,h⟩|⟨p,o,T,g,h,J,B,H,M⟩
 ·have L:z<s.heap.objs.size:=fW g;refine xQ (oI i1 a) (oP i2 b) D g j h r n F I t C λh' m S l q k f=>?_;exact G h' (iW (f _ _ D.TIz D.TITO D.TIi1 D.TIi2 j) l q (.inr (mR s.heap.objs.size _ false m k (jm L) (jm K) (jm O) (jm ld)))) k f
 ·refine DU (oI i1 a) (oP i2 b) D g h j r n F I t C λh' m l q k f=>?_;exact G h' (iW (f _ _ D.TIz D.TIi1 D.TIi2 j) l q (.inr (mR p o true m (f _ _ J B H h) J B H M))) k λc o N _ P R e=>f c o N P R e
theorem B9{Q:zN->zY->Prop}(k:A.handled=none)(D:ZipApart z TI TO i1 i2 a b)(hz:ZS z TI TO i1 i2 a b d i s.heap)(h:s.heap.IsList a xs)(q:s.heap.IsTuple b ys)(m:xs[i]?=none\/ys[i]?=none)
  (l:∀h',(∀c o,c≠z->c≠TO->c≠i1->c≠i2->s.heap.get? c=some o->h'.get? c=some o)->Q none {s with heap:=h'}):wpAny (model prog w) A (pyNext (.ref z)) Q E s:=by
 obtain⟨n,r,j,f⟩:=hz;rcases f with ⟨f,u,v,g⟩|⟨p,o,H,f,g,I,G,F,C⟩
 ·exact xy (e:=none) (q1:=true) (q2:=false) k (λ_ z=>nomatch z) D f n g r j h q m l
 ·exact Cm (oI i1 a) (oP i2 b) k D f g n r j h q m λh' y=>l h' λc o t _ x B e=>y c o t x B e
end
section
variable{prog:yB}{w:yD}{K:Type}[DecidableEq K]{knd:KeyKind prog w K}{A:zZ}{R:Result->zY->Prop}{z TI TO i1 i2 a b d:zW}{xs ys:zG}{rs:List (K×zX)}{h₀:yA}{g:Array GenState}{dr:Drawn}{os:OsState}
theorem Fo(hh:A.handled=none)(D:ZipApart z TI TO i1 i2 a b)(P:z≠d)(n1:TI≠d)(M:TO≠d)(W:i1≠d)(N:i2≠d)(na:a≠d)(Z:b≠d)(hsz:rs.length<=sizeLine)
  (pa:∀(i:Nat)(k:K)(u:zX),rs[i]?=some (k,u)->∃q,xs[i]?=some q/\ys[i]?=some u/\knd.is k q=true) (he:xs[rs.length]?=none\/ys[rs.length]?=none) (hl:h₀.IsList a xs) (ht:h₀.IsTuple b ys) (B:a≠TO) (a1:a≠i1) (a2:a≠i2) (az:a≠z) (t:b≠TO) (E:b≠i1) (Y:b≠i2) (X:b≠z)
  (T:∀h' tk,h'.DictOf knd d (merged [] rs)->(∀c o,c≠z->c≠TO->c≠i1->c≠i2->c≠d->h₀.get? c=some o->h'.get? c=some o)->R (.ok (.ret .none)) ⟨h',g,dr,tk,os⟩):
  ∀(k i:Nat)(h:yA)(tk:Nat),rs.length-i=k->i<=rs.length->ZS z TI TO i1 i2 a b d i h->(∀c o,c≠z->c≠TO->c≠i1->c≠i2->c≠d->h₀.get? c=some o->h.get? c=some o)->h.DictOf knd d (merged [] (rs.take i))->
   codeAny (model prog w) A (.builtin "dict.update.loop" ⟨[.ref d,.ref z,rawInt i,.none],[]⟩) R ⟨h,g,dr,tk,os⟩:=by
 intro k
 induction k with
 |zero=>
  intro i h tk hk hi n m l;have j:i=rs.length:=by lia
  refine codeAny_builtin At ?_;rw[Around.under_plainId sL _];show wpAny _ A.in1 (pyNext (.ref z)>>=_) _ _ _;refine bc (B9 (s:=⟨h,g,dr,tk,os⟩) (by simpa using hh) D n (hl.at λo e=>m a o az B a1 a2 na e) (let⟨o,e,r⟩:=ht;(bd o (m b o X t E Y Z e) r)) (by rw[j];exact he) λh' f=>?_);show wpAny _ A.in1 (Builtin.Dict.addKeywords d []>>=λ_=>ret Value.none) _ _ _;rw[j,hZ]at l;refine iN l ?_;clear l;rintro C U Q ⟨S,r⟩;exact bc (ck (ck (T h' tk (iC C U Q (f d C P.symm M.symm W.symm N.symm S) r) λc o x v y F J e=>f c o x v y F (m c o x v y F J e))))
 |succ k ih=>
  intro i h tk hk hi n m l;have a0:i<rs.length:=by lia
  obtain⟨⟨k',u⟩,hku⟩:∃p,rs[i]?=some p:=⟨rs[i],gU _⟩;obtain⟨q,hx,hy,O⟩:=pa i k' u hku;refine codeAny_builtin At ?_;rw[Around.under_plainId sL _];show wpAny _ A.in1 (pyNext (.ref z)>>=_) _ _ _;have ld:d<h.objs.size:=let⟨_,_,_,e,_⟩:=l;fW e;refine bc (Dh (s:=⟨h,g,dr,tk,os⟩) D ld n (hl.at λo e=>m a o az B a1 a2 na e) (let⟨o,e,r⟩:=ht;(bd o (m b o X t E Y Z e) r)) hx hy λh' zs I f=>?_);have I:IsPair h' h.objs.size q u:=I;have hT:(⟨h',g,dr,tk,os⟩:zY).TypeIs (.ref h.objs.size) "tuple":=(bd _ I rfl);show wpAny _ A.in1 (holding [Value.ref h.objs.size] _>>=_) _ _ _;refine bc (jC (bc (wpAny_tryCatch ?_)));unfold Builtin.Dict.pairItems;refine bc (wpAny_typeOf hT ?_);rw[bz (by decide)];refine bc (jL I rfl (ck ?_));show wpAny _ A.in1 (holding [q,u] (dictSet d q u)) _ _ _
  have L:h'.DictOf knd d (merged [] (rs.take i)):=by refine iN l ?_;clear l;rintro C U Q ⟨S,r⟩;exact iC C U Q (f d C P.symm M.symm W.symm N.symm S) r
  have G:(merged [] (rs.take i)).length<=sizeLine:=by
   have e1:=merged_length_le ([]:List (K×zX)) (rs.take i);have e2:(rs.take i).length<=rs.length:=by rw[jd];lia
   simp only [kZ,Nat.zero_add]at e1
   lia
  refine jC (wpAny_dictSet_pairs (hsz:=G) (s:=⟨h',g,dr,tk,os⟩) O L λh2 H sb=>?_);rw[<-merged_take_succ [] rs i (k',u) hku]at H;refine ck ⟨plainId_quiet sL _,ih (i+1) h2 _ (by lia) (by lia) (zs.at P n1 M W N λc o hc e=>(sb.2 c hc).trans e) ?_ H⟩;intro c oc x v y F J e;exact(sb.2 c J).trans (f c oc x v y F (m c oc x v y F J e))
end
theorem Iz:typeLookup (.type "zip") "__getattr__"=pure none:=by rw[typeLookup_type,builtinLookup_eq_fast];kernel_rfl
theorem IA:entryFor table "zip.__getattribute__"=some Builtin.«object.__getattribute__» :=entryFor_alias (id':="object.__getattribute__") (by kernel_rfl) (by decide+kernel) (by decide+kernel) (by kernel_rfl)
theorem Gh:typeLookup (.type "zip") "keys"=pure none:=by rw[typeLookup_type,builtinLookup_eq_fast];kernel_rfl
theorem HW(a:zW)(fs:zG)(sl:zF)(name:Str)(u:Tok)(e:typeLookup (.type "zip") name=pure none)(b:(["__module__","__name__","__qualname__","__doc__","__annotations__"]:zC).contains name=false)(hsz:name.length+100<=sizeLine:=by size_fits):
  Meets (Builtin.«object.__getattribute__» ⟨[.ref a,.str name u],[]⟩) (λA R s=>s.heap.get? a=some {cls:=.type "zip",dict:=none,data:=.fields fs,slots:=sl}/\raisesAttr (.ref a) name A R s):=
 Meets.of_wp λf w A R s c=>by
  obtain⟨j,g,d,i,h⟩:=s;obtain⟨k,c⟩:=c;have l:(⟨j,g,d,i,h⟩:zY).TypeIs (.ref a) "zip":=(bd _ k rfl);unfold Builtin.«object.__getattribute__»
  repeat (any_goals (first|assumption|wp_step))
  simp only [b,Bool.false_eq_true,if_false]
  repeat (any_goals (first|assumption|wp_step))
  exact wpAny_raiseAttrError c.1 c.2 (attrMsg_fits (by decide+kernel) hsz)
theorem FY{fs:zG}{Q:zN->zY->Prop}
  (j:s.heap.get? a=some {cls:=.type "zip",dict:=none,data:=.fields fs,slots:=sl}) (n:A.handled=none)
  (h:∀h' tk,(∀b k,s.heap.get? b=some k->h'.get? b=some k)->Q none {s with heap:=h',toks:=tk}):wpAny (model prog w) A (getAttr? (.ref a) "keys") Q E s:=by
 obtain⟨m,g,d,tk,l⟩:=s;have i:∀f,(⟨m,g,d,f,l⟩:zY).TypeIs (.ref a) "zip":=λ_=>(bd _ j rfl);have t:=sub_AttributeError;have p:=F.slot_zip_getattribute.lookup;have v:=F.slot_zip_getattribute.bind (.ref a);have r:=Iz;unfold getAttr? getAttrBy? getAttrBy
 repeat (any_goals (first|assumption|exact i _|((with_reducible show wpAny _ _ (call (Value.builtin "zip.__getattribute__") _ _) _ _ _);refine call_meets F.slot_zip_getattribute (i _) IA (F.args_zip_getattribute_2 _ _) (HW a fs sl "keys" _ Gh (by decide) (by decide)) (fL j n λh' f e c=>?_))|wp_step))
 obtain⟨u,o,q⟩:=c.there;show wpAny _ _ (getattributeRaised _ _ _ _ _ _ _) _ _ _;unfold getattributeRaised
 repeat (any_goals (first|assumption|wp_step))
 all_goals exact h _ _ c.1
def tDZ(K:Frag)(ta:TA):TE:=λZ H Q=>ta Z H λd a=>∃l t c b,d=[.ref l,.ref t]/\SqL K a l ((c:zU).map kV)/\SqT K a t b/\c.length=b.length/\∀p,a p=none->Q (.ref p) (upd a p (.dK (hV [] (c.zip b))))
theorem wu:∀{ks:zU}{us:zM}{vs:zH},ks.length=us.length->A3b us vs->KV (ks.zip us) (ks.zip vs)| [],[],_,_,.nil=>.nil|k::ks,u::us,_,h,.cons r t=>.cons ⟨rfl,r⟩ (wu (by simpa using h) t)
theorem yb{P:yB}{w:yD}:∀{ks:zU}{its:zH},A3b (ks.map kV) its->∀{i:Nat}{k:Key},ks[i]?=some k->∃v,its[i]?=some v/\(gG P w).is k v=true| [],_,.nil,i,k,h=>by simp at h|_::_,_,.cons r t,0,k,h=>by simp at h;subst h;exact bd _ rfl (py r)|_::_,_,.cons r t,i+1,k,h=>by obtain⟨v,b,a⟩:=yb (P:=P) (w:=w) t (i:=i) (k:=k) (by simpa using h);exact bd v (by simpa using b) a
theorem Gg{a b:yC}{ta:TA}{x l:Pos}(hc:X.calm=true)(b0:Gl X "dict")(a3:X.mg "dict"=none)(a7:Gl X "zip")(E:X.mg "zip"=none)(ha:PA X [a,b] ta)
  (T:starEach [.Call (.Name "zip" p2) [a,b] [] l] X.env=(false,eval (.Call (.Name "zip" p2) [a,b] [] l) X.env)::starEach [] X.env:=by rfl)
  (hs:starEach [a,b] X.env=[(false,eval a X.env),(false,eval b X.env)]:=by rfl) (S:starEach [b] X.env=[(false,eval b X.env)]:=by rfl):
  PE X (.Call (.Name "dict" p1) [.Call (.Name "zip" p2) [a,b] [] l] [] x) (tDZ X.K ta):=by
 intro N s Z H Q I h;have hh:X.A.handled=none:=I.ok.hd hc;refine wpAny_Call_Name_kw (mM I b0 a3 boot_dict ?_);refine PyProof.Rows.callWith_type1 ?_ T (by rfl);rw[T];show wpAny _ _ (spliced ((false,eval _ X.env)::backTo x (starEach [] X.env))) _ _ s;refine Calls.spliced_cons ?_;refine Call_ (mM I a7 E boot_zip (PyProof.Rows.callWith_type1 (thn (ha l N s Z H _ I h) ?_) (by rw[hs,S]) (by rw[S];rfl)));refine λus d zz=>fO zz λvs H1 I1 r1 v=>?_;clear zz;refine iq v λl1 l2 p ws e b3 a4 a6 q=>?_;clear v;subst e;refine fO (rf r1) ?_;rintro u u2 rfl ru W;cases ru;cases W;obtain⟨b2,rv,C,zk⟩:=I1.list b3;obtain⟨f,M,G,_⟩:=I1.tuple a4;have L:l1<d.heap.objs.size:=let⟨_,e,_⟩:=C.isList;fW e;have J:l2<d.heap.objs.size:=G.lt;have e1:=rv.length;have e2:=M.length;rw[eA]at e1;have hn:=I1.hok.fresh (fH d.heap.objs.size);refine GN C.isList (show d.heap.IsTuple l2 f.toArray from G) λj zs kp=>Calls.spliced_nil ?_;refine ji zs ?_;clear zs;rintro hz Y ⟨tu,tv,a8⟩ a0 b1;have D:=zipApart_new L J;have lz:d.heap.objs.size+4<j.objs.size:=fW hz;refine callType_codes (Q₁:=λR s₁=>R=.ref j.objs.size/\s₁={d with heap:=j.push {cls:=.type "dict",data:=.dict #[]}}) F.kt_called_dict (F.kt_typeCall_dict_1 _) F.entry_dict_init (kt_code_dict_new (s:={d with heap:=j}) _ ⟨rfl,rfl⟩) ?_;rintro R s₁ ⟨rfl,rfl⟩;have m:(j.push {cls:=.type "dict",data:=.dict #[]}).DictOf (gG X.prog X.w) j.objs.size []:=Heap.DictOf.new j;have ez:(j.push {cls:=.type "dict",data:=.dict #[]}).get? (d.heap.objs.size+4)=some _:=fS _ hz;have a2:Shared.TypeIs {d with heap:=j.push {cls:=.type "dict",data:=.dict #[]}} (.ref (d.heap.objs.size+4)) "zip":=(bd _ ez rfl);refine fL m.typeIs (F.args_dict_init_2 _ _) ?_;unfold Builtin.«dict.__init__»;refine bc ?_;unfold Builtin.Dict.selfAndRest;refine bc (wpAny_notOrdered_dict m.typeIs ?_);show wpAny _ _ (pure (j.objs.size,[Value.ref (d.heap.objs.size+4)])) _ _ _;refine ck ?_;show wpAny _ _ (Builtin.Dict.updateFrom "dict.__init__" j.objs.size (.ref (d.heap.objs.size+4)) [] .none) _ _ _;unfold Builtin.Dict.updateFrom;refine bc (wpAny_typeOf a2 ?_);rw[bz (by decide)];refine bc (FY ez (by simpa using hh) λU a5 y=>?_)
 rw[bz (show(none:zN).isNone=true from rfl)];refine bc (wpAny_rule ?_);refine bc (wpAny_pyIter_zip (s:={d with heap:=U,toks:=a5}) (y _ _ ez) ?_);have t:∀c o,j.get? c=some o->U.get? c=some o:=λc o e=>y _ _ (fS _ e)
 have lr:(p.zip f).length=p.length:=by rw[List.length_zip];lia
 have v:∀i:Nat,i<=4->d.heap.objs.size+i≠j.objs.size:=λi hi z=>by lia
 have q2:∀c:Nat,c<d.heap.objs.size->c≠j.objs.size:=λc hc z=>by lia
 have n:∀c i:Nat,c<d.heap.objs.size->c≠d.heap.objs.size+i:=λc i hc z=>by lia
 have B:d.heap.objs.size<=j.objs.size:=by lia
 have z1:p.length<=sizeLine:=by rw[eA]at zk;exact zk
 refine ck ⟨plainId_quiet sL _,Fo (knd:=gG X.prog X.w) (rs:=p.zip f) (xs:=b2.toArray) (ys:=f.toArray) (h₀:=U) (by simpa using hh) D (v 4 (by decide)) (v 2 (by decide)) (v 3 (by decide)) (v 0 (by decide)) (v 1 (by decide)) (q2 _ L) (q2 _ J) (by rw[lr];exact z1) (λi k u hr=>?_) ?_ (C.isList.at λo e=>t _ _ (kp _ _ e)) (let⟨o,e,r⟩:=G;(bd o (t _ _ (kp _ _ e)) r)) (n _ 3 L) (n _ 0 L) (n _ 1 L) (n _ 4 L) (n _ 3 J) (n _ 0 J) (n _ 1 J) (n _ 4 J) (λh2 tk dd a9=>?_) (p.zip f).length 0 U _ (by lia) (jj _) (iW (t _ _ Y) ((oI _ l1).mv a0 λo e=>t _ _ e) ((oP _ l2).mv b1 λo e=>t _ _ e) (.inl ⟨t _ _ hz,(ij tu tv (t _ _ a8))⟩)) (λ_ _ _ _ _ _ _ z=>z) ?_⟩
 ·obtain⟨g1,g2⟩:=oV.mp hr;obtain⟨kv,g3,g4⟩:=yb (P:=X.prog) (w:=X.w) rv g1;exact fJ kv (by simpa using g3) (by simpa using g2) g4
 ·left;rw[lr];simp
  lia
 ·have kv:=wu a6 M;refine jg rfl (.ref j.objs.size) _ (I1.laid (t':=tk) (o:=.dK (hV [] (p.zip ws))) (λb u eb=>?_) B (iK ?_ ?_ _ (KV.merge kv .nil) dd)) rfl (q _ (I1.hok.fresh B))
  ·have O:=fW eb;exact a9 b u (n _ 4 O) (n _ 3 O) (n _ 0 O) (n _ 1 O) (q2 _ O) (t _ _ (kp _ _ eb))
  ·have:=vg (p.zip ws) [];have lw:(p.zip ws).length=p.length:=by rw[List.length_zip];lia
   simp only [kZ]at this
   lia
  ·have:=I1.big;have a1:j.objs.size≠sysModules:=jm (jM this B)
   simpa using a1
 ·refine iN m ?_;clear m;rintro od es ep ⟨g,r⟩;exact iC od es ep (y _ _ g) r
def BR(K:Frag):R2:=λx y H Q=>∃a b c d,x=.ref a/\y=.ref b/\SqT K H a c/\SqT K H b d/\c.length+d.length<=sizeLine/\
 (c=[]->Q (.ref b) H)/\(c≠[]->d=[]->Q (.ref a) H)/\(c≠[]->d≠[]->∀p,H p=none->Q (.ref p) (upd H p (.tup (c++d))))
theorem El:OpR X (binaryOp .Add) (BR X.K):=by
 intro c s Z H x y v u Q I B w h;refine iq h ?_;clear h;rintro a b o O rfl rfl C t ⟨G,L,J,U⟩;by_cases hx:o=[]
 ·subst hx;cases B;cases w;obtain⟨f,R,D,_⟩:=I.tuple C;obtain⟨e,Y,S,_⟩:=I.tuple t;have P:f=[]:=R.nil_iff.mpr rfl;refine iD (id D) ?_;rintro⟨T,W,p,M⟩ r q ⟨n,m⟩;refine iD (id S) ?_;rintro⟨A,k,l,j⟩ d g ⟨N,i⟩;simp only at q m g i;subst q m g i
  exact concat_meets (bd _ r rfl) (bd _ d rfl) noFill_tuple_add seq_tuple_add PySem.F.slot_tuple_add PySem.F.entry_tuple_add (PySem.F.args_tuple_add_2 _ _)
   (tuple_addW0 a b f.toArray e.toArray n N W k M j (by simp[P])) ⟨r,(jg d (.ref b) H I rfl (L rfl))⟩
 ·exact wQ c s Z H _ _ v u Q I B w (hU a b o O rfl rfl C t (iW hx G (λz=>J hx z) λz=>U hx z))
def Bo:R2:=λx y H Q=>∃a b d c,x=.ref a/\y=.ref b/\H a=some (.tup d)/\H b=some (.tup c)/\d.length+c.length<=sizeLine/\∀q e,A0k H e->e q=some (.tup (d++c))->Q (.ref q) e
theorem uF:OpR X (binaryOp .Add) Bo:=λc s Z H x y v u Q I m j h=>by
 refine iq h ?_;clear h;rintro a b l k n g e d ⟨f,q⟩;refine El c s Z H x y v u Q I m j (hU a b l k n g (SqT.of e) (SqT.of d) (iW f (λz=>?_) (λ_ z=>?_) λ_ _ p i=>?_))
 ·subst z;exact q b H (A0k.refl _) d
 ·subst z;exact q a H (A0k.refl _) (by rw[kQ];exact e)
 ·exact q p _ (fI i) dh
abbrev lB:=Key ⊕ zU
abbrev fP:=List lB
def A5g(prog:yB)(w:yD)(h:yA):lB->zX->Prop|.inl k,v=>(gG prog w).is k v=true|.inr ks,v=>∃b,v=.ref b/\IsTupleKey (gG prog w) h ks b
abbrev A3i(prog:yB)(w:yD)(h:yA):List lB->List zX->Prop:=Paired (A5g prog w h)
def A1r(prog:yB)(w:yD)(h:yA)(k:fP)(a:zW):Prop:=∃o b n,h.get? a=some o/\o.cls=.type "tuple"/\o.data=.seq b n/\A3i prog w h k b.toList
theorem A1r.typeIs{k:fP}(x:A1r prog w s.heap k a):s.TypeIs (.ref a) "tuple":=let⟨o,_,_,ho,hc,_⟩:=x;(bd o ho hc)
theorem yS{k:Key}(h:(gG prog w).is k (.ref a)=true):False:=by have:=(gG prog w).byValue _ _ h;simp[carriedByValue]at this
theorem A5g.inj{p q:lB}{v:zX}(a:A5g prog w h p v)(d:A5g prog w h q v):p=q:=by
 cases p with
 |inl k=>
  cases q with
  |inl l=>exact congrArg Sum.inl ((gG prog w).inj _ _ _ a d)
  |inr ks=>obtain⟨b,rfl,_⟩:=d;exact(yS a).elim
 |inr ks=>
  cases q with
  |inl l=>obtain⟨b,rfl,_⟩:=a;exact(yS d).elim
  |inr ls=>obtain⟨b,rfl,f⟩:=a;obtain⟨c,e,g⟩:=d;injection e with e;subst e;exact congrArg Sum.inr (f.inj g)
theorem A3i.inj{h:yA}:∀{x y:List lB}{vs:zH},A3i prog w h x vs->A3i prog w h y vs->x=y|_,_,_,.nil,.nil=>rfl|_,_,_,.cons a t,.cons b u=>by rw[a.inj b,A3i.inj t u]
theorem A1r.inj{x y:fP}(f:A1r prog w h x a)(e:A1r prog w h y a):x=y:=by refine gn f λo t n k _ i g=>?_;clear f;refine gn e λj m l c _ b d=>?_;clear e;obtain rfl:o=j:=iO (k.symm.trans c);rw[i]at b;injection b with h1 _;subst h1;exact A3i.inj g d
theorem A5g.keeps{p:lB}{v:zX}{es ep}(x:A5g prog w h p v)(g:h.get? d=some o)(f:o.data=.dict es ep)(c:Heap.SameBut d h h'):A5g prog w h' p v:=by
 cases p with
 |inl k=>exact x
 |inr ks=>obtain⟨b,e,a⟩:=x;exact bd b e (a.keeps g f c)
theorem A1r.keeps{k:fP}{es ep}(x:A1r prog w h k a)(j:h.get? d=some o)(f:o.data=.dict es ep)(i:Heap.SameBut d h h'):A1r prog w h' k a:=by
 refine gn x λg t n c m b l=>?_;clear x
 have e:a≠d:=by rintro rfl;obtain rfl:g=o:=iO (c.symm.trans j);rw[f]at b;exact nomatch b
 exact gE g t n ((i.2 a e).trans c) m b (Paired.mapP l λp v z=>z.keeps j f i)
def rP(prog:yB)(w:yD):lB->Int|.inl k=>(gG prog w).hash k|.inr ks=>tupleKeyHash (gG prog w) ks
def qq:lB->Nat|.inl _=>1|.inr ks=>ks.length+1
def kU:fP->Nat| []=>0|p::r=>qq p+kU r
theorem AA:∀(a b:fP),kU (a++b)=kU a+kU b| [],b=>by show kU b=0+kU b;lia|p::r,b=>by show qq p+kU (r++b)=qq p+kU r+kU b;rw[AA r b];lia
def gH(prog:yB)(w:yD)(k:fP):Int:=reduceHash (Builtin.Tuple.tupleHashOf (k.map (rP prog w)))
theorem Gj{p:lB}{v:zX}{Q:Int->zY->Prop}(d:A.units<cLine)(a:A5g prog w s.heap p v)(h:Q (rP prog w p) {s with toks:=s.toks+qq p}):
  wpAny (model prog w) A (pyHash v) Q E s:=by
 cases p with
 |inl k=>exact(gG prog w).pyHash a h
 |inr ks=>obtain⟨b,rfl,c⟩:=a;exact wpAny_pyHash_tuple d c h
theorem z8{k:fP}{Q:Int->zY->Prop}(z:A.units+8<cLine)(q:A1r prog w s.heap k a)(h:Q (gH prog w k) {s with toks:=s.toks+(kU k+1)}):
  wpAny (model prog w) A (pyHash (.ref a)) Q E s:=by
 have g:=q.typeIs;refine gn q λo m n y _ v u=>?_;clear q;unfold pyHash
 first|unfold pyHashByItsType|skip
 first|refine bc (wpAny_cRoomFor_or (.inr (by lia)) ?_)|skip
 refine bc (wpAny_specialOf g PySem.F.slot_tuple_hash.lookup ?_);show wpAny _ _ (if (some (Value.builtin "tuple.__hash__")==some Value.none)=true then _ else _) Q E s;rw[bp (by rw[beq_builtin_none];exact gL)];refine bc (wpAny_specialOf g PySem.F.slot_tuple_hash.lookup ?_);show wpAny _ _ (callSpecialIfBoundUnlessNone? (.ref a) "__hash__" _>>=_) Q E s;refine bc (wpAny_callSpecialIfBoundUnlessNone?_slot g PySem.F.slot_tuple_hash (jb PySem.F.slot_tuple_hash g PySem.F.entry_tuple_hash ?_ (PySem.F.args_tuple_hash_1 _)));show wpAny _ _ (Builtin.Tuple.tupleItemsOf (.ref a)>>=_) _ _ s;refine bc (wpAny_tupleItemsOf y v ?_);refine bc ?_;rw[<-Array.forIn_toList]
 refine wpAny_forIn_list _
  (λd (i:Array Int) l=>∃b c,k=b++c/\A3i prog w s.heap c d/\i.toList=b.map (rP prog w)/\l={s with toks:=s.toks+kU b})
  _ ?_ ?_ _ _ (ga [] k rfl u rfl rfl)
 ·rintro x d i l e;refine fV e ?_;clear e;rintro b c rfl j f rfl
  cases j with
  |@cons p _ ps _ h1 hl'=>
   refine bc (Gj (by show A.units+1<cLine;lia) h1 ?_);have r:b++p::ps=(b++[p])++ps:=by simp
   have t:kU (b++[p])=kU b+qq p:=by rw[AA];rfl
   first|exact ck (ga (b++[p]) ps r hl' (by simp[f]) (by rw[t];simp[Nat.add_assoc]))|exact bc (ck (ck ⟨b++[p],ps,r,hl',by simp[f],by rw[t];simp[Nat.add_assoc]⟩))
 ·rintro i l e;refine fV e ?_;clear e;rintro b c rfl j f rfl;cases j;rw[kQ]at h;show wpAny _ _ (retInt (Builtin.Tuple.tupleHashOf i.toList)) _ _ _;rw[f];refine wpAny_ret_mkInt ?_;generalize hL:b.map (rP prog w)=L;show wpAny _ _ (if (decide (-(2:Int)^63<=Builtin.Tuple.tupleHashOf L)&&decide (Builtin.Tuple.tupleHashOf L<2^63))=true then _ else _) Q E _;unfold gH reduceHash at h;rw[hL]at h;by_cases hr:(decide (-(2:Int)^63<=Builtin.Tuple.tupleHashOf L)&&decide (Builtin.Tuple.tupleHashOf L<2^63))=true
  ·rw[bz hr];rw[bz hr]at h;exact ck (by simpa[Nat.add_assoc]using h)
  ·rw[bp hr];rw[bp hr]at h;exact bc (wpAny_rule (ck (by simpa[Nat.add_assoc]using h)))
theorem Gk{p q:lB}{u v:zX}{Q:Bool->zY->Prop}(m:A.units<cLine)(g:p.isLeft=q.isLeft)(d:A5g prog w s.heap p u)(f:A5g prog w s.heap q v)(h:Q (decide (p=q)) s):
  wpAny (model prog w) A (eqBool u v) Q E s:=by
 cases p with
 |inl k=>
  cases q with
  |inl l=>
   refine(gG prog w).eqBool (a:=k) (b:=l) d f ?_
   have e:decide (k=l)=decide ((Sum.inl k:lB)=Sum.inl l):=by
    by_cases z:k=l
    ·subst z;simp
    ·rw[gK z,gK (λy=>z (by injection y))]
   rw[e];exact h
  |inr ls=>cases g
 |inr ks=>
  cases q with
  |inl l=>cases g
  |inr ls=>
   obtain⟨b,rfl,i⟩:=d;obtain⟨c,rfl,j⟩:=f;refine wpAny_eqBool_tuple m i j ?_
   have e:decide (ks=ls)=decide ((Sum.inr ks:lB)=Sum.inr ls):=by
    by_cases z:ks=ls
    ·subst z;simp
    ·rw[gK z,gK (λy=>z (by injection y))]
   rw[e];exact h
theorem GX{x y:fP}{P:Fin->zY->Prop}(U:A.units+4<cLine)(C:x.map Sum.isLeft=y.map Sum.isLeft)(L:A1r prog w s.heap x a)(D:A1r prog w s.heap y b)(h:P (.done (.ret (.bool (decide (x=y))))) s):
  wpAny (model prog w) A (Builtin.«tuple.__eq__» ⟨[.ref a,.ref b],[]⟩) P E s:=by
 have I:=D.typeIs;refine gn L λN t R G _ J z=>?_;clear L;refine gn D λQ q O B _ K F=>?_;clear D;show wpAny _ _ (isInstance (.ref b) (.type "tuple")>>=_) _ _ s;refine bc (wpAny_isInstance I isSubtype_tuple_tuple ?_);simp only [Bool.not_true,Bool.false_eq_true,if_false];refine bc (wpAny_tupleItemsOf G J ?_);refine bc (wpAny_tupleItemsOf B K ?_);refine bc ?_
 refine wpAny_forIn_list _
  (λi r p=>r.1=none/\p=s/\∃n o e d,i=List.zip e d/\A3i prog w s.heap n e/\A3i prog w s.heap o d/\n.map Sum.isLeft=o.map Sum.isLeft/\decide (n=o)=decide (x=y)/\(e.length==d.length)=(t.size==q.size))
  _ ?_ ?_ _ _ (fL rfl rfl (iG x y t.toList q.toList rfl z F C rfl (by simp)))
 ·rintro⟨u,v⟩ i r p ⟨H,rfl,n,o,e,d,k,j,g,l,c,f⟩
  cases j with
  |nil=>simp at k
  |@cons k1 u' x'' xs'' h1 hx''=>
   cases g with
   |nil=>simp at k
   |@cons k2 v' y'' ys'' h2 hy''=>
    simp only [List.zip_cons_cons,List.cons.injEq,Prod.mk.injEq]at k;obtain⟨⟨rfl,rfl⟩,rfl⟩:=k;rw[gA,gA]at l;injection l with hs1 hs2;refine bc (Gk (by lia) hs1 h1 h2 ?_);by_cases hk:k1=k2
    ·subst hk;rw[iY rfl];simp only [Bool.not_true,Bool.false_eq_true,if_false];refine ck (fL rfl rfl (iG x'' y'' xs'' ys'' rfl hx'' hy'' hs2 ?_ (by simpa using f)));rw[<-c];by_cases hxy:x''=y''
     ·simp[hxy]
     ·simp[hxy]
    ·rw[gK hk];simp only [Bool.not_false,if_true];have M:decide (x=y)=false:=by rw[<-c];simp[hk]
     rw[M]at h;exact bc (ck (ck (ck h)))
 ·rintro⟨S,T⟩ p ⟨H,rfl,n,o,e,d,k,j,g,_,c,f⟩;simp only at H;subst H;refine ck ?_
  have m:(t.size==q.size)=decide (x=y):=by
   rw[<-c,<-f]
   cases j with
   |nil=>
    cases g with
    |nil=>simp
    |cons _ _=>simp
   |cons _ _=>
    cases g with
    |nil=>simp
    |cons _ _=>simp at k
  show P (.done (.ret (.bool (t.size==q.size)))) p;rw[m];exact h
theorem Ac{x y:fP}{Q:Bool->zY->Prop}(g:A.units+8<cLine)(f:x.map Sum.isLeft=y.map Sum.isLeft)(c:A1r prog w s.heap x a)(d:A1r prog w s.heap y b)(h:Q (decide (x=y)) s):
  wpAny (model prog w) A (eqBool (.ref a) (.ref b)) Q E s:=by
 unfold eqBool
 try with_reducible refine jC ?_
 show wpAny _ _ (if (Value.ref a==Value.ref b)=true then _ else _) Q E s;by_cases hab:(Value.ref a==Value.ref b)=true
 ·rw[bz hab];have e:a=b:=by have:=eq_of_beq hab;injection this
  subst e;obtain rfl:=c.inj d;exact bc (wpAny_rule (ck (by simpa using h)))
 ·rw[bp hab]
  exact bc (wpAny_richCompare_same_room (op:=.Eq) c.typeIs d.typeIs PySem.F.slot_tuple_eq
   (jb PySem.F.slot_tuple_eq c.typeIs PySem.F.entry_tuple_eq (GX (by show A.units+1+4<cLine;lia) f c d (fJ _ rfl (λe=>nomatch e) (wpAny_truthy_bool h))) (PySem.F.args_tuple_eq_2 _ _)) (by lia))
theorem HF{Q:Bool->zY->Prop}(i:IsTupleKey (gG prog w) s.heap ks a)(h:Q true s):wpAny (model prog w) A (eqIsQuiet (n+1) (.ref a)) Q E s:=by
 have j:=i.typeIs;refine gn i λo d m p _ l k=>?_;clear i;unfold eqIsQuiet;refine bc (wpAny_specialOf j PySem.F.slot_tuple_eq.lookup ?_);show wpAny _ _ (isInstance (.ref a) (.type "tuple")>>=_) _ _ s;refine bc (wpAny_isInstance j isSubtype_tuple_tuple ?_);simp only [Bool.not_true,Bool.false_eq_true,if_false];refine bc (jL p l ?_);refine bc ?_;show wpAny _ _ (forIn d _ _) _ _ s;rw[<-Array.forIn_toList];refine wpAny_forIn_list _ (λc r f=>r.1=none/\f=s/\∀v∈c,carriedByValue v=true) _ ?_ ?_ _ _ (fL rfl rfl k.byValue)
 ·rintro v c r f ⟨g,rfl,b⟩;rw[eqIsQuiet_byValue _ (b v jG)];refine bc (ck ?_);simp only [Bool.not_true,Bool.false_eq_true,if_false];exact ck (fL rfl rfl λu e=>b u (jD _ e))
 ·rintro⟨q,t⟩ f ⟨g,rfl,_⟩;simp only at g;subst g;exact ck h
theorem vj{k:fP}{Q:Bool->zY->Prop}(i:A1r prog w s.heap k a)(h:Q true s):wpAny (model prog w) A (eqIsQuiet 8 (.ref a)) Q E s:=by
 have l:=i.typeIs;refine gn i λo d m x _ t n=>?_;clear i;unfold eqIsQuiet;refine bc (wpAny_specialOf l PySem.F.slot_tuple_eq.lookup ?_);show wpAny _ _ (isInstance (.ref a) (.type "tuple")>>=_) _ _ s;refine bc (wpAny_isInstance l isSubtype_tuple_tuple ?_);simp only [Bool.not_true,Bool.false_eq_true,if_false];refine bc (jL x t ?_);refine bc ?_;show wpAny _ _ (forIn d _ _) _ _ s;rw[<-Array.forIn_toList];refine wpAny_forIn_list _ (λc r f=>r.1=none/\f=s/\∃j,A3i prog w s.heap j c) _ ?_ ?_ _ _ ⟨rfl,(gk rfl k n)⟩
 ·rintro v c r f ⟨g,rfl,j,e⟩
  cases e with
  |@cons p _ ps' _ h1 hl=>
   cases p with
   |inl q=>rw[eqIsQuiet_byValue _ ((gG prog w).byValue _ _ h1)];refine bc (ck ?_);simp only [Bool.not_true,Bool.false_eq_true,if_false];exact ck ⟨rfl,(gk rfl ps' hl)⟩
   |inr ks=>obtain⟨b,rfl,u⟩:=h1;refine bc (HF u ?_);simp only [Bool.not_true,Bool.false_eq_true,if_false];exact ck ⟨rfl,(gk rfl ps' hl)⟩
 ·rintro⟨y,z⟩ f ⟨g,rfl,_⟩;simp only at g;subst g;exact ck h
def mD(prog:yB)(w:yD)(sh:List Bool):HeapKind prog w fP where
 is:=λh k a=>k.map Sum.isLeft=sh/\A1r prog w h k a
 hash:=gH prog w
 draws:=λk=>kU k+1
 room:=λA=>A.units+8<cLine
 inj:=λb c=>b.2.inj c.2
 keeps:=λx i f g=>⟨x.1,x.2.keeps i f g⟩
 pyHash:=λe d h=>z8 e d.2 h
 eqBool:=λe b c h=>Ac e (b.1.trans c.1.symm) b.2 c.2 h
 quiet:=λd h=>vj d.2 h
section
variable{prog:yB}{w:yD}{K:Type}[DecidableEq K]{knd:HeapKind prog w K}{A:zZ}{E:zA}{s:zY}
theorem Iy{xs:List (K×zW×zX)}{k:K}{c:zX}(t:knd.room A)(f:knd.is s.heap k a)(u:s.heap.DictOfH knd d xs)
  (h1:∀p,atKey xs k=some p->Q p.2 {s with toks:=s.toks+knd.draws k})
  (h2:atKey xs k=none->∀h',h'.DictOfH knd d (storedH xs k a c)->Heap.SameBut d s.heap h'->Q c {s with heap:=h',toks:=s.toks+knd.draws k})
  (hsz:xs.length<=sizeLine):wpAny (model prog w) A (dictSetDefault d (.ref a) c) Q E s:=by
 refine gn u ?_;clear u;rintro o C z i B h ⟨n,m,q⟩;unfold dictSetDefault
 try with_reducible refine jC ?_
 refine bc (knd.pyHash t f (bc (wpAny_dictFind_heap (s:={s with toks:=s.toks+knd.draws k}) t f i h n m q ?_ ?_)))
 ·intro b;have l:k∉xs.map (·.1):=not_mem_keys_of_get b
  refine bc (wpAny_rule (bc (wpAny_updateDictKeys (hz:=by have e:=size_of_entries n;lia) (s:={s with toks:=s.toks+knd.draws k}) i h (ck (h2 (atKey_none_of_get b) _ ⟨_,_,z+1,oY _ i (Obj.isFreed_of_dict (Obj.data_mapDictKeys h _)),
   B.mapDictKeys _,Obj.data_mapDictKeys h _,?_,?_,?_⟩ (Heap.SameBut.update ..))))))
  ·rw[storedH_new (atKey_none_of_get b)];simp[n,entryOfKey]
  ·rw[storedH_new (atKey_none_of_get b)];intro x g;rcases iw.mp g with g|g
   ·exact knd.keeps (m x g) i h (Heap.SameBut.update ..)
   ·simp only [gz]at g;subst g;exact knd.keeps f i h (Heap.SameBut.update ..)
  ·rw[storedH_new (atKey_none_of_get b)];rw[gy,ox];refine fL q (by simp) ?_;intro x g y v;simp only [gA,List.map_nil,gz]at v;subst v;exact λe=>l (e▸g)
 ·intro j p r;refine bc (wpAny_dictEntries (s:={s with toks:=s.toks+knd.draws k}) i h ?_);rw[entry_at n j,r];exact bc (wpAny_rule (ck (h1 _ (atKey_of_get q r))))
theorem Iu(knd:HeapKind prog w K)(d a:zW)(j:(d==sysModules)=false)(b:zX):
  MeetsIn prog w (Builtin.«dict.setdefault» ⟨[.ref d,.ref a,b],[]⟩) (λA R s=>knd.room A.in1/\∃k xs,knd.is s.heap k a/\s.heap.DictOfH knd d xs/\xs.length<=sizeLine/\
   (∀p,atKey xs k=some p->R (.ok (.ret p.2)) {s with toks:=s.toks+knd.draws k})/\
   (atKey xs k=none->∀h',h'.DictOfH knd d (storedH xs k a b)->Heap.SameBut d s.heap h'->R (.ok (.ret b)) {s with heap:=h',toks:=s.toks+knd.draws k})):=
 .of_wp λA R s ⟨o,k,xs,c,g,i,l,n⟩=>by unfold Builtin.«dict.setdefault»;refine bc ?_;unfold Builtin.Dict.keyAndDefault;refine bc (wpAny_notOrdered_dict g.typeIs ?_);show wpAny _ _ (pure (d,Value.ref a,some b)) _ _ s;refine ck ?_;show wpAny _ _ (if (d==sysModules)=true then _ else (dictSetDefault d (.ref a) b>>=_)) _ _ s;rw[bp (by rw[j];exact gL)];exact bc (Iy (hsz:=i) o c g (λv m=>ck (bd _ rfl (l v m))) λh h' f e=>ck (bd b rfl (n h h' f e)))
end
def B6r(H:Hp):lB->V->Prop|.inl k,v=>v=kV k|.inr ks,v=>∃b,v=.ref b/\H b=some (.tup (ks.map kV))
def A2m(H:Hp)(k:fP)(b:zW):Prop:=∃a,H b=some (.tup a)/\Paired (B6r H) k a
theorem B6r.keeps{p:lB}(e:B6r H p v)(d:∀b xs,H b=some (.tup xs)->H' b=some (.tup xs)):B6r H' p v:=by
 cases p with
 |inl k=>exact e
 |inr ks=>obtain⟨b,c,a⟩:=e;exact bd b c (d _ _ a)
theorem A2m.keeps{k:fP}(e:A2m H k b)(a:∀b xs,H b=some (.tup xs)->H' b=some (.tup xs)):A2m H' k b :=let⟨vs,e1,e2⟩:=e;(bd vs (a _ _ e1) (Paired.mapP e2 λ_ _ z=>z.keeps a))
theorem va{x:Str}(h:H b=some (.tup [.str x,.ref c]))(a:H c=some (.tup (ks.map kV))):A2m H [.inl (.inr x),.inr ks] b :=(bd _ h (.cons rfl (.cons (bd c rfl a) .nil)))
theorem GG{x y:Str}(h:H b=some (.tup [.str x,.str y,.ref c]))(a:H c=some (.tup (ks.map kV))):A2m H [.inl (.inr x),.inl (.inr y),.inr ks] b :=(bd _ h (.cons rfl (.cons rfl (.cons (bd c rfl a) .nil))))
theorem yt(a:HOk P w H h):∀{k:fP}{vs:zM}{us:zH},Paired (B6r H) k vs->A3b vs us->A3i P w h k us
 |_,_,_,.nil,.nil=>.nil
 |p::_,_,_,.cons e t,.cons r u=>by
  refine .cons ?_ (yt a t u)
  cases p with
  |inl k=>obtain rfl:=e;exact py r
  |inr ks=>obtain⟨c,rfl,b⟩:=e;cases r;exact bd c rfl (rE a b)
theorem A2m.is{k:fP}(c:HOk P w H h)(e:A2m H k b):A1r P w h k b:=by obtain⟨j,d,f⟩:=e;refine qD (show A1w P w H h b (.tup j) from c b _ d) λ_ a r o g l n i=>?_;exact gE o a.toArray n g l i (by simpa using yt c f r)
abbrev KN:List (fP×zW×V)->List (fP×zW×zX)->Prop:=Paired λp q=>p.1=q.1/\p.2.1=q.2.1/\A2h p.2.2 q.2.2
def kh(kas:List (fP×zW×V)):List (fP×V):=kas.map λp=>(p.1,p.2.2)
def ndV(P:yB)(w:yD)(sh:List Bool)(a:zW)(kas:List (fP×zW×V)):HO:=.ext λh=>kas.length<=sizeLine/\(a==sysModules)=false/\∃b,KN kas b/\
 ∃o c d,h.get? a=some o/\o.ExactDict/\o.data=.dict c d/\c.toList=b.map (entryOfKey (mD P w sh))/\(b.map (·.1)).Nodup
def A6e(P:yB)(w:yD)(sh:List Bool)(H:Hp)(a:zW)(kvs:List (fP×V)):Prop :=∃b,H a=some (ndV P w sh a b)/\kh b=kvs/\∀p∈b,p.1.map Sum.isLeft=sh/\A2m H p.1 p.2.1
theorem wj{xs:List (fP×zW×zX)}(z:kas.length<=sizeLine)(c:(a==sysModules)=false)(r:KN kas xs)(m:h.DictOfH (mD P w sh) a xs):A1w P w H h a (ndV P w sh a kas):=by refine gn m ?_;clear m;rintro o j f b g d ⟨e,_,i⟩;exact fL (iK z c xs r (iH o j f b g d e i)) ⟨o,b⟩ (by (rintro p n l;refine ko l ?_;clear l;rintro z c xs r o j f b ⟨g,d,e,i⟩ k);exact iK z c xs r (iH o j f (k o b) g d e i))
theorem A6e.keeps{kvs:List (fP×V)}(d:A6e P w sh H a kvs)(f:∀o,H a=some o->H' a=some o)(g:∀b xs,H b=some (.tup xs)->H' b=some (.tup xs)):A6e P w sh H' a kvs :=let⟨kas,e,b,n⟩:=d;(fJ kas (f _ e) b λp c=>⟨(n p c).1,(n p c).2.keeps g⟩)
theorem A6e.at{kvs:List (fP×V)}(g:HOk P w H h)(d:A6e P w sh H a kvs):∃kas xs,H a=some (ndV P w sh a kas)/\kh kas=kvs/\(∀p∈kas,p.1.map Sum.isLeft=sh/\A2m H p.1 p.2.1)/\
  kas.length<=sizeLine/\(a==sysModules)=false/\KN kas xs/\h.DictOfH (mD P w sh) a xs:=by
 obtain⟨kas,e,i,n⟩:=d;obtain⟨⟨z,j,xs,r,o,v,B,A,C,k,s,u⟩,_,_⟩:=(show A1w P w H h a (ndV P w sh a kas) from g a _ e);refine jz kas xs e i n z j ⟨r,(mR o v B A C k s (λx b=>?_) u)⟩
 have c:∀{l:List (fP×zW×V)}{m:List (fP×zW×zX)},KN l m->(∀p∈l,p.1.map Sum.isLeft=sh/\A2m H p.1 p.2.1)->∀x∈m,(mD P w sh).is h x.1 x.2.1:=by
  intro l m q
  induction q with
  |nil=>intro _ x b;exact nomatch b
  |@cons p q ps qs hq t ih=>
   intro f x b;rcases gB.mp b with e|b
   ·subst e;have:=f p jG;rw[<-hq.1,<-hq.2.1];exact⟨this.1,this.2.is g⟩
   ·exact ih (λy D=>f y (jD _ D)) x b
 exact c r n x b
theorem KN.val{xs:List (fP×zW×zX)}(r:KN kas xs)(k:fP):B2e (fN (kh kas) k) ((atKey xs k).map (·.2)):=by
 induction r with
 |nil=>exact True.intro
 |@cons p q ps qs h t ih=>
  obtain⟨c,_,d⟩:=h;show B2e (fN ((p.1,p.2.2)::kh ps) k) _;by_cases e:p.1=k
  ·have a:q.1=k:=c.symm.trans e;have b:atKey (q::qs) k=some q.2:=by simp[atKey,nn,a]
   rw[mC (p:=(p.1,p.2.2)) e,b];exact d
  ·have a:¬q.1=k:=λz=>e (c.trans z);have b:atKey (q::qs) k=atKey qs k:=by simp[atKey,nn,a]
   rw[mB (p:=(p.1,p.2.2)) e,b];exact ih
def mj(kas:List (fP×zW×V))(k:fP)(b:zW)(v:V):List (fP×zW×V):=if ((kh kas).any λa=>decide (a.1=k))=true then kas.map λp=>if p.1=k then (p.1,p.2.1,v)else p else kas++[(k,b,v)]
theorem Eg(kas:List (fP×zW×V))(k:fP)(b:zW)(v:V):kh (mj kas k b v)=gr (kh kas) k v:=by
 unfold mj gr;by_cases q:((kh kas).any λa=>decide (a.1=k))=true
 ·rw[bz q,bz q];unfold kh;rw[List.map_map,List.map_map];refine List.map_congr_left λp _=>?_;simp only [Function.comp];split<;>rfl
 ·rw[bp q,bp q];unfold kh;rw[gy];rfl
theorem GO(kas:List (fP×zW×V))(k:fP)(b:zW)(v:V):(mj kas k b v).length<=kas.length+1:=by
 unfold mj;split
 ·rw[eA];lia
 ·rw[gc];exact fH _
theorem Dm{k:fP}{p:fP×zW×V}(h:p∈mj kas k b v):(∃q∈kas,p.1=q.1/\p.2.1=q.2.1)\/(p.1=k/\p.2.1=b):=by
 unfold mj at h;split at h
 ·obtain⟨q,a,e⟩:=gY.mp h;refine .inl (bd q a ?_);split at e
  ·subst e;exact⟨rfl,rfl⟩
  ·subst e;exact⟨rfl,rfl⟩
 ·rcases iw.mp h with h|h
  ·exact .inl (fJ p h rfl rfl)
  ·rw[gz]at h;subst h;exact .inr ⟨rfl,rfl⟩
theorem KN.put{xs:List (fP×zW×zX)}(r:KN kas xs)(k:fP){y:V}{u:zX}(c:A2h y u):KN (mj kas k b y) (storedH xs k b u):=by
 have e:((kh kas).any λf=>decide (f.1=k))=(atKey xs k).isSome:=by rw[qm,(r.val k).isSome_eq,Option.isSome_map]
 unfold mj storedH;rw[e];by_cases q:(atKey xs k).isSome=true
 ·rw[bz q,bz q];clear e q
  induction r with
  |nil=>exact .nil
  |@cons p q ps qs h t ih=>
   rw[gA,gA];refine .cons ?_ ih;obtain⟨a,d,g⟩:=h;unfold putAt;by_cases e:p.1=k
   ·rw[bz e,bz (a.symm.trans e)];exact fL a d c
   ·rw[bp e,bp (λz=>e (a.trans z))];exact fL a d g
 ·rw[bp q,bp q];exact Paired.snoc (F:=λ(p:fP×zW×V)(q:fP×zW×zX)=>p.1=q.1/\p.2.1=q.2.1/\A2h p.2.2 q.2.2) (fL rfl rfl c) r
theorem qZ{k:Nat}(a:A7s k A):A.units+9<cLine:=by have:=a.un;lia
section
variable{d:V}{r u:zX}{k:fP}{kvs:List (fP×V)}
theorem A6e.typeIs(I:Inv X pins Z H s)(g:A6e X.prog X.w sh H a kvs):s.TypeIs (.ref a) "dict" :=let⟨_,_,_,_,_,_,_,_,dd⟩:=g.at I.hok;dd.typeIs
theorem Fd(B:A.units+9<cLine)(I:Inv X pins Z H s)(g:A6e X.prog X.w sh H a kvs)(x:A2m H k b)(m:k.map Sum.isLeft=sh)(l:fN kvs k=some v)
  (h:∀c s',Inv X pins Z H s'->A2h v c->Q c s'):wpAny (model X.prog X.w) A (getItem (.ref a) (.ref b)) Q E s:=by
 refine fV (g.at I.hok) ?_;rintro q t e rfl n ⟨z,y,i,u⟩;obtain⟨c,r,d⟩:=B2e.some_of (v:=v) (o:=(atKey t k).map (·.2)) (by rw[<-l];exact i.val k);obtain⟨p,j,f⟩:=nK.mp r;refine wpAny_getItem_heap (knd:=mD X.prog X.w sh) (show A.units+1+8<cLine by lia) ⟨m,x.is I.hok⟩ u j ?_;rw[f];exact h c _ (I.tok _) d
theorem CW(o:A.units+9<cLine)(I:Inv X pins Z H s)(g:A6e X.prog X.w sh H a kvs)(f:A2m H k b)(i:k.map Sum.isLeft=sh)
  (h:∀s',Inv X pins Z H s'->Q (.bool (!(fN kvs k).isSome)) s'):wpAny (model X.prog X.w) A (compareOp .NotIn (.ref b) (.ref a)) Q E s:=by
 refine fV (g.at I.hok) ?_;rintro j m e rfl n ⟨z,d,c,l⟩;refine wpAny_notIn_heap (knd:=mD X.prog X.w sh) (show A.units+1+8<cLine by lia) ⟨i,f.is I.hok⟩ d l ?_;have q:=(c.val k).isSome_eq;rw[Option.isSome_map]at q;rw[<-q];exact h _ (I.tok _)
theorem Bx(q:A.units+9<cLine)(I:Inv X pins Z H s)(g:A6e X.prog X.w sh H a kvs)(m:A2m H k b)(o:k.map Sum.isLeft=sh)(rd:A2h d r)
  (h:∀f s',Inv X pins Z H s'->A2h ((fN kvs k).getD d) f->Q f s'):wpAny (model X.prog X.w) A (call (.builtin "dict.get") [.ref a,.ref b,r]) Q E s:=by
 refine fV (g.at I.hok) ?_;rintro p j e rfl n ⟨z,l,c,i⟩;refine call_meetsIn PySem.F.slot_dict_get i.typeIs PySem.F.entry_dict_get (PySem.F.args_dict_get_3 _ _ _) (meetsH_dict_get_default (mD X.prog X.w sh) a b l r) (jg (show A.units+1+8<cLine by lia) k j ⟨o,m.is I.hok⟩ i (h _ _ (I.tok _) ?_));exact(c.val k).getD rd
theorem zi{xs:List (fP×zW×zX)}(I:Inv X pins Z H s)(e:H a=some (ndV X.prog X.w sh a kas))(n:∀p∈kas,p.1.map Sum.isLeft=sh/\A2m H p.1 p.2.1)
  (C:(kh kas).length<sizeLine) (t:(a==sysModules)=false) (j:KN kas xs) (B:A2m H k b) (A:k.map Sum.isLeft=sh) (x:A2h v u)
  (r:h'.DictOfH (mD X.prog X.w sh) a (storedH xs k b u)) (i:Heap.SameBut a s.heap h'):
  Inv X pins Z (upd H a (ndV X.prog X.w sh a (mj kas k b v))) {s with heap:=h',toks:=t'}/\A6e X.prog X.w sh (upd H a (ndV X.prog X.w sh a (mj kas k b v))) a (gr (kh kas) k v):=by
 have g:(mj kas k b v).length<=sizeLine:=by
  have D:=GO kas k b v;have F:(kh kas).length=kas.length:=eA _
  lia
 have o:∀c h,H c=some (.tup h)->upd H a (ndV X.prog X.w sh a (mj kas k b v)) c=some (.tup h):=λc h m=>by rw[eh (gN m e (λz=>nomatch z))];exact m
 refine kY (rO I (by rw[e];exact True.intro) i (let⟨q,_,_,d,_⟩:=r;⟨q,d⟩) (wj g t (j.put k x) r)) _ dh (Eg _ _ _ _) λp y=>?_;rcases Dm y with ⟨q,d,l,f⟩|⟨l,f⟩
 ·rw[l,f];exact⟨(n q d).1,(n q d).2.keeps o⟩
 ·rw[l,f];exact⟨A,B.keeps o⟩
theorem Ey{Q:Unit->zY->Prop}(B:A.units+9<cLine)(I:Inv X pins Z H s)(g:A6e X.prog X.w sh H a kvs)(j:A2m H k b)(i:k.map Sum.isLeft=sh)(l:kvs.length<sizeLine)(q:A2h v u)
  (h:∀o s',Inv X pins Z (upd H a o) s'->A6e X.prog X.w sh (upd H a o) a (gr kvs k v)->Q () s'):wpAny (model X.prog X.w) A (setItem (.ref a) (.ref b) u) Q E s:=by
 refine fV (g.at I.hok) ?_;rintro r t e rfl n ⟨z,m,c,x⟩;have p:t.length<=sizeLine:=by rw[<-Paired.length c];exact z
 refine wpAny_setItem_heap (knd:=mD X.prog X.w sh) (hsz:=p) (show A.units+1+8<cLine by lia) ⟨i,j.is I.hok⟩ x λC d f=>?_;obtain⟨I',y⟩:=zi (t':=s.toks+(mD X.prog X.w sh).draws k) I e n l m c j i q d f;exact h _ _ I' y
theorem B4(K:A.units+9<cLine)(I:Inv X pins Z H s)(g:A6e X.prog X.w sh H a kvs)(t:A2m H k b)(l:k.map Sum.isLeft=sh)(x:kvs.length<sizeLine)(G:A2h v u)
  (h1:∀y q s',fN kvs k=some y->Inv X pins Z H s'->A2h y q->Q q s')
  (h2:fN kvs k=none->∀o s',Inv X pins Z (upd H a o) s'->A6e X.prog X.w sh (upd H a o) a (gr kvs k v)->Q u s'):wpAny (model X.prog X.w) A (call (.builtin "dict.setdefault") [.ref a,.ref b,u]) Q E s:=by
 refine fV (g.at I.hok) ?_;rintro f m e rfl n ⟨z,j,d,r⟩;have C:m.length<=sizeLine:=by rw[<-Paired.length d];exact z
 have c:=d.val k;refine call_meetsIn PySem.F.slot_dict_setdefault r.typeIs PySem.F.entry_dict_setdefault (PySem.F.args_dict_setdefault_3 _ _ _) (Iu (mD X.prog X.w sh) a b j u) (kX (show A.units+1+8<cLine by lia) k m ⟨l,t.is I.hok⟩ r C (λp D=>?_) λB L h i=>?_)
 ·rw[D]at c
  cases ev:fN (kh f) k with
  |none=>rw[ev]at c;exact False.elim c
  |some y=>rw[ev]at c;exact h1 y _ _ ev (I.tok _) c
 ·rw[B]at c
  cases ev:fN (kh f) k with
  |none=>obtain⟨I',J⟩:=zi (t':=s.toks+(mD X.prog X.w sh).draws k) I e n x j d t l G h i;exact h2 ev _ _ I' J
  |some y=>rw[ev]at c;exact False.elim c
end
structure pQ(P:yB)(w:yD)(H:Hp)(x y:V)(a b:zW)(sh:List Bool)(kvs:List (fP×V))(k:fP):Prop where
 ex:x=.ref a
 ey:y=.ref b
 nd:A6e P w sh H a kvs
 at':A2m H k b
 sh':k.map Sum.isLeft=sh
def AN(P:yB)(w:yD)(td ty:TE):TE:=λZ H Q=>td Z H λx f=>ty Z f λy d=>∃a b e c k v,pQ P w d x y a b e c k/\fN c k=some v/\Q v d
def CF(P:yB)(w:yD):R2:=λy x H Q=>∃a b d c k,pQ P w H x y a b d c k/\Q (.bl (!(fN c k).isSome)) H
def AO(P:yB)(w:yD):qP:=λx y v H Q=>∃a b d c k,pQ P w H x y a b d c k/\c.length<sizeLine/\∀o,A6e P w d (upd H a o) a (gr c k v)->Q (upd H a o)
def BU(P:yB)(w:yD)(sh:List Bool):TE:=λ_ H Q=>∀p o,H p=none->A6e P w sh (upd H p o) p []->Q (.ref p) (upd H p o)
def AF(P:yB)(w:yD):V->List V->Hp->VK->Prop:=λx e H Q=>∃a b d c k y z,e=[y,z]/\pQ P w H x y a b d c k/\Q ((fN c k).getD z) H
def B6(P:yB)(w:yD):V->List V->Hp->VK->Prop:=λx e H Q=>∃a b d c k y z,e=[y,z]/\pQ P w H x y a b d c k/\c.length<sizeLine/\
 (∀v,fN c k=some v->Q v H)/\(fN c k=none->∀o,A6e P w d (upd H a o) a (gr c k z)->Q z (upd H a o))
def tBMN(P:yB)(w:yD)(r:V->List V->Hp->VK->Prop)(to:TE)(t:TA):TE:=λZ H Q=>to Z H λx c=>(∃a e b,x=.ref a/\A6e P w e c a b)/\t Z c λd f=>r x d f Q
section
variable{o i e:yC}
theorem Co(J:X.A.units+9<cLine)(t:PE X o td)(hi:PE X i ty)(D:ti i):PE X (.Subscript o i pos) (AN X.prog X.w td ty):=by intro c s Z H Q I h;refine wO PySem.F.slot_dict_getitem.lookup D (thn (t c s Z H _ I h) ?_);refine λu z d=>fO d λx r I1 K n=>?_;clear d;refine thn (hi c z Z r _ I1 n) ?_;rintro B O d;refine oU d ?_;clear d;rintro y p I2 C a b P ⟨q,k,v,⟨L,G,j,g,e⟩,l,m⟩;subst L G;obtain rfl:u=Value.ref a:=K;obtain rfl:B=Value.ref b:=C;exact⟨j.typeIs I2,Fd J I2 j g e l λN M I3 f=>(fC v p I3 f m)⟩
theorem EU(l:X.A.units+9<cLine):OpR X (compareOp .NotIn) (CF X.prog X.w):=by intro f s Z H x y v u Q I m g h;refine ik h ?_;clear h;rintro a b p c k ⟨⟨n,j,i,e,d⟩,q⟩;subst n j;obtain rfl:v=Value.ref b:=m;obtain rfl:u=Value.ref a:=g;exact CW l I i e d λo I3=>(fC (.bl (!(fN c k).isSome)) H I3 rfl q)
theorem uE(x:X.A.units+9<cLine):vw X (AO X.prog X.w):=by intro e s Z H o i v z n u Q I j p m h;refine ik h ?_;clear h;rintro a b C g k ⟨⟨y,t,r,d,c⟩,l,q⟩;subst y t;obtain rfl:z=Value.ref a:=j;obtain rfl:n=Value.ref b:=p;exact Ey x I r d c l m λo B I3 f=>(bd _ I3 (q o f))
theorem uH:PE X (.Dict [] [] pos) (BU X.prog X.w sh):=λb s Z H Q I h=>by have c:=I.big;have d:(s.heap.objs.size==sysModules)=false:=oX.mpr (Ne.symm (im c));refine wpAny_Dict_empty (fC (.ref s.heap.objs.size) _ (I.laid (a:=s.heap.objs.size) (o:=ndV X.prog X.w sh s.heap.objs.size []) (t':=s.toks) (λ_ _ q=>fS _ q) (fH _) (wj (jj _) d .nil (Heap.DictOfH.new s.heap))) rfl (h _ _ (I.hok.fresh (fH _)) (fJ [] dh rfl λp e=>nomatch e)))
theorem ui(m:X.A.units+9<cLine):MtR X "dict.get" (AF X.prog X.w):=by
 intro g s Z H x r v u Q I n c h;refine ik h ?_;clear h;rintro a b B i k ⟨y,z,rfl,⟨o,l,j,f,d⟩,q⟩;subst o l;obtain rfl:v=Value.ref a:=n
 cases c with
 |cons r1 c=>
  cases c with
  |cons r2 c=>
   cases c
   cases r1
   exact Bx m I j f d r2 λt p I3 e=>(fC _ H I3 e q)
theorem Dw(u:X.A.units+9<cLine):MtR X "dict.setdefault" (B6 X.prog X.w):=by
 intro g s Z H x D v G Q I B c h;refine ik h ?_;clear h;rintro a b J p k ⟨y,z,rfl,⟨C,t,r,f,d⟩,q,n,j⟩;subst C t;obtain rfl:v=Value.ref a:=B
 cases c with
 |cons r1 c=>
  cases c with
  |cons r2 c=>
   cases c
   cases r1
   exact B4 u I r f d q r2 (λy F m l I3 e=>(fC _ H I3 e (n y l))) λl o m I3 i=>(fC _ _ I3 r2 (j l o i))
theorem A6e.noDict{kvs:List (fP×V)}(I:Inv X pins Z H s)(g:A6e X.prog X.w sh H a kvs):∀b,Value.ref a=.ref b->∃c,s.heap.get? b=some c/\c.dict=none:=λb q=>by
 cases q
 refine fV (g.at I.hok) ?_;rintro _ _ _ _ _ ⟨_,_,_,c,_,_,e,d,_⟩;exact bd c e d.2.1
variable{es:zT}{id:String}{r:V->List V->Hp->VK->Prop}
theorem rF(i:Slot "dict" name id)(k:typeOf (.builtin id)=pure (.type "method_descriptor"))(L:MtR X id r)(B:PE X o to)(N:PA X (e::es) t)
  (f:attributeBase o name X.env (eval o X.env)=eval o X.env:=by rfl)
  (g:((backTo cpos (starEach (e::es) X.env)).all (λx=> ! x.1)&&(backToKw cpos (keywordEach [] X.env)).all (λx=>x.1.isSome)
   && decide ((e::es).length+([]:List Keyword).length+(if ([]:List Keyword).isEmpty then 0 else 1)<30))=true:=by rfl)
  (d:(apos.endLine==cpos.line)=true:=by rfl) (J:starEach (e::es) X.env=(false,eval e X.env)::starEach es X.env:=by rfl) (c:(backTo cpos (starEach es X.env)).any (·.1)=false:=by rfl):
  PE X (.Call (.Attribute o name apos) (e::es) [] cpos) (tBMN X.prog X.w r to t):=by
 intro b s Z H Q I h;refine wpAny_Call_method_late f g d rfl (thn (B b s Z H _ I h) ?_);rintro v C j;refine fV j ?_;clear j;rintro x A I1 G ⟨a,O,z,M,m⟩ q;subst M;obtain rfl:v=Value.ref a:=G;refine jz "dict" id PySem.F.plainAttrs_dict i k (m.typeIs I1) (m.noDict I1) ?_;have l:=N cpos b C Z A _ I1 q;rw[J]at l⊢;refine Calls.callWith_builtin (by show(false||(backTo cpos (starEach es X.env)).any (·.1))=false;rw[c]<;>rfl) (Calls.evalArgs_plain ?_);exact thn l (by (refine λy D j=>fO j λp u I2 K n=>?_;clear j);exact L b D Z u (.ref a) p _ y Q I2 rfl K n)
end
section
variable{o:HO}
theorem Inv.trackO(I1:Inv X pins Z H1 s1)(I:Inv X pins Z H s)(t:s1.heap.get? a=none)(A:H a=none)(i:A1w X.prog X.w (upd H a o) s.heap a o):Inv X pins Z (upd H a o) s:=by
 have d:∀b o,s1.heap.get? b=some o->b≠a:=λb o e z=>by rw[z,t]at e;cases e
 have g:∀b u,H b=some u->upd H a o b=some u:=λb u e=>by rw[eh (gh e A)];exact e
 refine⟨I.ok,I.os,I.bare,⟨I.base.keep,I.base.slot,λb o e n f=>?_,I.base.there,λb l e=>g _ _ (I.base.tups b l e),λb o u e=>g _ _ (I.base.frzs b o u e),λb y e=>?_⟩,I.loc,I.cell,?_,λx c e=>?_,λp k=>?_,λb u e=>?_,I.len⟩
 ·obtain⟨B,h⟩:=I1.base.there b o e f;rw[eh (d b B h)];exact I.base.free b o e n f
 ·obtain⟨m,q⟩:=I.base.tbls b y e;exact⟨m,g _ _ q⟩
 ·obtain⟨m,⟨o,_,_,j,_⟩,_⟩:=I1.loc;rw[eh (d _ o j)];exact I.free
 ·obtain⟨v,o,j,_⟩:=I1.cell x c e;rw[eh (d _ o j)];exact I.freeC x c e
 ·obtain⟨e,n,r⟩:=I.pin p k;have h:=(I1.pin p k).1;exact fL e (by rw[eh (d _ _ h)];exact n) r
 ·by_cases f:b=a
  ·subst f;rw[dh]at e;cases e;exact i
  ·rw[eh f]at e;exact(I.hok b u e).stay (λ_ _ _ q=>q) (λc q=>g _ _ q) λc l q=>g _ _ q
end
end L2
namespace HT
open PySem PySem.Spec PyProof.Rows L2
section
variable{prog:yB}{w:yD}{A:zZ}{E:zA}{s:zY}
end
end HT
namespace L2
open PySem PySem.Spec PyProof.Rows
variable{α:Type}{z ns ms g:zI}{y x:Int}{w:yD}{sp:Sp}{s:zY}{ps:zC}{prog:yB}{pins:zD}{od:Obj}{i ep:Nat}{fd:zS}{f d c b a:zW}{es:Array DictEntry}{Z:St}{X:Cx}{Q E:zA}{P:PySem.Fin->zY->Prop}{H:Hp}{A:zZ}
theorem CQ{f:α->V}{ys:List α}:mV (ys.map f) none (some (i:Int))=(ys.take i).map f:=by
 unfold mV;have b:HT.sIx (ys.map f).length 0 none=0:=rfl;have a:HT.sIx (ys.map f).length (ys.map f).length (some (i:Int))=min i (ys.map f).length:=HT.sIx_nat _ _ _;rw[b,a,List.drop_zero,Nat.sub_zero,List.map_take];by_cases h:i<=(ys.map f).length
 ·rw[Nat.min_eq_left h]
 ·rw[Nat.min_eq_right (by lia),nI (fH _),nI (by lia)]
theorem He(f:(d==sysModules)=false)(b:s.heap.get? d=some od)(e:s.TypeIs (.ref d) "dict")(a:od.data=.dict es ep)(c:(es.size:Int)<2^63)
  (h:Q (.int es.size (s.toks+1)) {s with toks:=s.toks+1+1}):wpAny (model prog w) A (call (.builtin "len") [.ref d]) Q E s:=by
 refine Calls.call_function_entry kind_len plain_len entry_len (args_len1 _) ?_;unfold Builtin.«len»;refine bc (m:=oneArg "len" _) (ck (bc (m:=callSpecial? (.ref d) (Str.ofString "__len__")) (lh (name:=Str.ofString "__len__") e F.slot_dict_len (jb F.slot_dict_len e F.entry_dict_len ?_ (F.args_dict_len_1 _)))));show wpAny _ _ (dictSize d>>=_) _ _ s;unfold dictSize;refine bc (bc (wpAny_dictEntries b a (ck (show wpAny _ _ (Builtin.Dict.pendingCount d>>=_) _ _ s from bc (wpAny_pendingCount_other f (wpAny_ret_mkInt ?_))))));rw[Nat.add_zero];show wpAny _ _ _ _ _ {s with toks:=s.toks+1};refine bc (jC (ck (bc (wpAny_letGo (show wpAny _ _ (if ((es.size:Nat):Int)<0 then _ else _) _ _ _ from ?_)))));rw[bp (by lia)];show wpAny _ _ (if ((es.size:Nat):Int)≥2^63 then _ else _) _ _ _;rw[bp (by lia)];exact bc (wpAny_mkInt (ck (bd _ rfl h)))
theorem E7:mu X (.builtin "len") (λxs H Q=>∃a sh kvs,xs=[V.ref a]/\A6e X.prog X.w sh H a kvs/\Q (.int kvs.length) H):=by
 intro c s Z H xs A Q I r h;refine jK h ?_;clear h;rintro a sh kvs rfl n q;obtain⟨u,rfl,m⟩:=mq r;cases m;obtain⟨b,e,g,_⟩:=n;obtain⟨⟨z,j,p,t,o,d,C,f,v,k,l,x⟩,_,_⟩:=(show A1w X.prog X.w H s.heap a (ndV X.prog X.w sh a b) from I.hok a _ e);have B:=Paired.length t;have y:d.size=p.length:=by rw[<-Array.length_toList,l,eA]
 have i:kvs.length=d.size:=by rw[<-g];unfold kh;rw[eA];lia
 refine He j f (bd o f v.1) k (by rw[sizeLine_eq]at z;lia) ?_;rw[<-i];exact fC (.int kvs.length) H (I.tok _) ⟨_,rfl⟩ q
open PySem PySem.Spec PyProof.Rows SA
section
variable{k:Nat}
theorem uf(I:Inv X pins Z H s)(h:H c=some (.tup (ns.map .int))):A7c s.heap (.ref c) ns:=by
 refine qD (I.hok c _ h) λz a r o d e n b=>?_;refine hU c o a.toArray n rfl d e b ?_;clear h d b z;show IntsAre a ns
 induction ns generalizing a with
 |nil=>cases r;exact .nil
 |cons m ns ih=>
  cases r with
  |cons r rr=>obtain⟨t,rfl⟩:=r;exact .cons m t (ih _ rr)
theorem B1h:bootBuiltins "sorted"=some (.builtin "sorted"):=by decide+kernel
end
def mK(le:Bool)(a b:zI):Bool:=if le=true then ! gM b a else gM a b
theorem Fl(le:Bool)(x:Int)(a ms:zI):mK le (x::a) (x::ms)=mK le a ms:=by
 unfold mK
 conv=>lhs;unfold gM
 rw[bz rfl,bz rfl]
theorem CO(le:Bool)(h:¬x=y)(a b:zI):mK le (x::a) (y::b)=decide (x<y)/\decide (x<=y)=decide (x<y):=by
 unfold mK;have e:decide (x<=y)=decide (x<y):=by rw[decide_eq_decide];lia
 refine⟨?_,e⟩
 have d:gM (x::a) (y::b)=decide (x<y):=by
  conv=>lhs;unfold gM
  rw[bp h]
 have c:gM (y::b) (x::a)=decide (y<x):=by
  conv=>lhs;unfold gM
  rw[bp λz=>h z.symm]
 rw[d,c];cases le
 ·rfl
 ·show(! decide (y<x))=decide (x<y);by_cases z:x<y
  ·rw[iY z,gK (by lia)];rfl
  ·rw[gK z,iY (by lia)];rfl
def cmpF(le:Bool):Builtin:=if le=true then Builtin.«tuple.__le__» else Builtin.«tuple.__lt__»
theorem Al{le:Bool}(X:A7c s.heap (.ref a) z)(Y:A7c s.heap (.ref b) ms)(h:P (.done (.ret (.bool (mK le z ms)))) s):
  wpAny (model prog w) A (cmpF le ⟨[.ref a,.ref b],[]⟩) P E s:=by
 refine iq X λa' oa M na ea N a0 T B=>?_;clear X;cases ea;refine iq Y λb' ob L nb eb F R U G=>?_;clear Y;cases eb;have S:s.TypeIs (.ref b) "tuple":=(bd ob F R)
 have H:∀(m n:Nat)(d f:zI),mK le d f=mK le z ms->m+f.length=n+d.length->(d=[]\/f=[])->(if le=true then decide (m<=n)else decide (m<n))=mK le z ms:=λm n d f e I ez=>by
  rw[<-e];unfold mK;rcases ez with rfl|rfl
  ·cases f with
   |nil=>
    simp only [kZ]at I;cases le
    ·rw[bp gL,bp gL];exact gK (by lia)
    ·rw[bz rfl,bz rfl];exact iY (by lia)
   |cons y r=>
    simp only [kZ,gZ]at I;cases le
    ·rw[bp gL,bp gL];exact iY (by lia)
    ·rw[bz rfl,bz rfl];exact iY (by lia)
  ·cases d with
   |nil=>
    simp only [kZ]at I;cases le
    ·rw[bp gL,bp gL];exact gK (by lia)
    ·rw[bz rfl,bz rfl];exact iY (by lia)
   |cons y r=>
    simp only [kZ,gZ]at I;cases le
    ·rw[bp gL,bp gL];exact gK (by lia)
    ·rw[bz rfl,bz rfl];exact gK (by lia)
 have Z:=Fl le;have W:=λ{x y:Int}(h:¬x=y)=>CO le h;generalize mK le=C at Z W H h;cases le
 case' false=>have D:∀(n m:Int)(t p:Tok)(Q:zA),¬n=m->Q (.bool (decide (n<m))) s->wpAny (model prog w) A (richCompare .Lt (.int n t) (.int m p)) Q E s:=λn m t p Q _ h=>lt_int h
 case' true=>have D:∀(n m:Int)(t p:Tok)(Q:zA),¬n=m->Q (.bool (decide (n<m))) s->wpAny (model prog w) A (richCompare .LtE (.int n t) (.int m p)) Q E s:=λn m t p Q hn h=>le_int (by rw[show decide (n<=m)=decide (n<m)by rw[decide_eq_decide];lia];exact h)
 all_goals
  show wpAny _ _ (isInstance (.ref b) (.type "tuple")>>=_) _ _ s;refine bc (wpAny_isInstance S isSubtype_tuple_tuple ?_);simp only [Bool.not_true,Bool.false_eq_true,if_false];refine bc (wpAny_tupleItemsOf N T ?_);refine bc (wpAny_tupleItemsOf F U ?_);refine bc ?_
  refine wpAny_forIn_list _
   (λk r K=>r.1=none/\K=s/\∃d f j i,k=List.zip j i/\IntsAre j d/\IntsAre i f/\C d f=C z ms/\M.size+f.length=L.size+d.length)
   _ ?_ ?_ _ _ ⟨rfl,rfl,z,ms,M.toList,L.toList,rfl,B,G,rfl,by
    have l1:=B.length;have l2:=G.length;rw[Array.length_toList]at l1 l2
    lia⟩
  ·rintro⟨u,v⟩ k r K ⟨O,rfl,d,f,j,i,q,o,l,J,g⟩
   cases o with
   |nil=>simp at q
   |@cons n t xs'' ns'' hx''=>
    cases l with
    |nil=>simp at q
    |@cons m p ys'' ms'' hy''=>
     simp only [List.zip_cons_cons,List.cons.injEq,Prod.mk.injEq]at q;obtain⟨⟨rfl,rfl⟩,rfl⟩:=q;refine bc (wpAny_eqBool_int ?_);by_cases hk:n=m
     ·subst hk;rw[show(n==n)=true by simp];simp only [Bool.not_true,Bool.false_eq_true,if_false];refine ck (fL rfl rfl (hU ns'' ms'' xs'' ys'' rfl hx'' hy'' ?_ (by simp only [gZ]at g;lia)));rw[<-J,Z]
     ·rw[show(n==m)=false by simpa using hk];simp only [Bool.not_false,if_true];have c:=W hk ns'' ms'';rw[<-J,c.1]at h;refine bc (wpAny_rule (bc (D n m t p _ hk ?_)));exact bc (ck (ck (ck h)))
  ·rintro⟨r1,r2⟩ K ⟨O,rfl,d,f,j,i,q,o,l,J,g⟩;simp only at O;subst O;refine ck ?_
   have:=H M.size L.size d f J g (by
    cases o with
    |nil=>exact .inl rfl
    |cons _ _ _=>
     cases l with
     |nil=>exact .inr rfl
     |cons _ _ _=>simp at q)
   rw[<-this]at h;exact h
theorem A7c.typeIs{b:zI}(x:A7c s.heap (.ref a) b):s.TypeIs (.ref a) "tuple":=by refine iN x ?_;clear x;rintro g o f ⟨n,e,c,d,_⟩;cases e;exact bd o c d
theorem CY{d:zI}(i:A.units<cLine)(c:A7c s.heap (.ref a) d)(f:A7c s.heap (.ref b) g)(h:Q (.bool (gM d g)) s):wpAny (model prog w) A (compareOp .Lt (.ref a) (.ref b)) Q E s:=by
 show wpAny _ _ (richCompare .Lt (.ref a) (.ref b)) Q E s
 exact wpAny_richCompare_same_room (op:=.Lt) (A7c.typeIs c) (A7c.typeIs f) PySem.F.slot_tuple_lt
  (jb PySem.F.slot_tuple_lt (A7c.typeIs c) PySem.F.entry_tuple_lt (Al (le:=false) c f (fJ _ rfl (λe=>nomatch e) h)) (PySem.F.args_tuple_lt_2 _ _)) (by lia)
theorem Ce{d:zI}(i:A.units<cLine)(c:A7c s.heap (.ref a) d)(f:A7c s.heap (.ref b) g)(h:Q (.bool (! gM g d)) s):wpAny (model prog w) A (compareOp .LtE (.ref a) (.ref b)) Q E s:=by
 show wpAny _ _ (richCompare .LtE (.ref a) (.ref b)) Q E s
 exact wpAny_richCompare_same_room (op:=.LtE) (A7c.typeIs c) (A7c.typeIs f) PySem.F.slot_tuple_le
  (jb PySem.F.slot_tuple_le (A7c.typeIs c) PySem.F.entry_tuple_le (Al (le:=true) c f (fJ _ rfl (λe=>nomatch e) h)) (PySem.F.args_tuple_le_2 _ _)) (by lia)
theorem CL(e:X.A.units<cLine):OpR X (compareOp .LtE) (λx y H Q=>∃(p q:zW)(a b:zI),x=.ref p/\y=.ref q/\H p=some (.tup (a.map .int))/\H q=some (.tup (b.map .int))/\Q (.bl (! gM b a)) H):=by intro c s Z H x y v u Q I f d h;refine iq h ?_;clear h;rintro p q a b rfl rfl g i k;cases f;cases d;exact Ce e (uf I g) (uf I i) (ir I k rfl)
end L2
namespace SA
open PySem PyProof.Rows
variable{w:yD}{vs:zH}{v:zX}{s:zY}{prog:yB}{ns:zI}{n:Nat}{h' h:yA}{a:zW}{P:PySem.Fin->zY->Prop}{E:zA}{A:zZ}
structure Ordd(prog:yB)(w:yD)(A:zZ)(h:yA)(vs:zH)(lt:zX->zX->Bool):Prop where
 kind:∀(s:zY),(∀b o,h.get? b=some o->o.cls=.type "tuple"->s.heap.get? b=some o)->2<=vs.length->∀(E:zA)(Q:SortKind->zY->Prop),(∀κ,B1w prog w A s κ (λx y=>lt x.1 y.1) (λx=>x.1∈vs)->Q κ s)->wpAny (model prog w) A (keyKind' vs.toArray) Q E s
theorem HG{lt:zX->zX->Bool}(O:Ordd prog w A s.heap vs lt)(v:s.heap.get? a=some (seqObj "list" vs.toArray n))(hz:vs.length<=sizeLine)
  (h:∀(t:zH)(h':yA)(c:Nat),t.Perm vs->t.Pairwise (λx y=>lt y x=false)->h'.get? a=some (seqObj "list" t.toArray c)->(∀b o,b≠a->s.heap.get? b=some o->h'.get? b=some o)->P (.done (.ret .none)) {s with heap:=h'}):
  wpAny (model prog w) A (Builtin.«list.sort» ⟨[.ref a],[]⟩) P E s:=by
 have Y:a<s.heap.objs.size:=fW v;have N:=Heap.SameBut.update s.heap a (Obj.mapSeq λ_=>(#[]:zG));obtain⟨e1,ho1⟩:∃e1,(s.heap.update a (Obj.mapSeq λ_=>(#[]:zG))).get? a=some (seqObj "list" #[] e1):=⟨_,get?_update_seq v λ_=>#[]⟩;rw[list_sort_plain];refine bc (listItems_at v rfl ?_);refine bc (listUpdate_at v rfl ?_ (by rw[iL];lia) (jj _));refine bc (seqEpoch_at ho1 rfl ?_);refine bc (wpAny_newTuple ?_ (by show vs.length<=_;lia));refine bc (wpAny_newList ?_ (jj _));refine jC ?_;show wpAny (model prog w) A _ P E {s with heap:=((s.heap.update a (Obj.mapSeq λ_=>(#[]:zG))).push (seqObj "tuple" vs.toArray 0)).push (seqObj "list" #[] 0)}
 have p:∀b o,b≠a->s.heap.get? b=some o->(((s.heap.update a (Obj.mapSeq λ_=>(#[]:zG))).push (seqObj "tuple" vs.toArray 0)).push (seqObj "list" #[] 0)).get? b=some o:=λb o D e=>fS _ (fS _ ((N.2 b D).trans e));have k:(((s.heap.update a (Obj.mapSeq λ_=>(#[]:zG))).push (seqObj "tuple" vs.toArray 0)).push (seqObj "list" #[] 0)).get? a=some (seqObj "list" #[] e1):=fS _ (fS _ ho1);generalize ((s.heap.update a (Obj.mapSeq λ_=>(#[]:zG))).push (seqObj "tuple" vs.toArray 0)).push (seqObj "list" #[] 0)=h3 at p k⊢;dsimp only
 have K:(vs.toArray.zip vs.toArray).toList.map (·.2)=vs:=by rw[Array.toList_zip];exact List.map_snd_zip (fH _)
 have C:∀d:SortSt,(arrOf d).Perm (vs.toArray.zip vs.toArray)->(arrOf d).toList.Pairwise (λx y=>lt y.1 x.1=false)->failedOf d=none->wpAny (model prog w) A (do
   let l:=(arrOf d).map (·.2)
   let j:=(<-seqEpoch a) != e1
   Builtin.List.listUpdate (.ref a) λ_=>l
   if let some e:=failedOf d then rule "list.sort.comparison-raised";throw e
   if j then rule "list.sort.modified";raiseError "ValueError" "list modified during sort"
   ret .none) P E {s with heap:=h3}:=λd B H F=>by
  have J:∀x∈(arrOf d).toList,x.1=x.2:=λx u=>by have m:=(Array.perm_iff_toList_perm.mp B).mem_iff.mp u;rw[Array.toList_zip]at m;simp only at m;obtain⟨i,G⟩:=List.getElem?_of_mem m;rw[oV]at G;exact iO (G.1.symm.trans G.2)
  have R:=Heap.SameBut.update h3 a (Obj.mapSeq λ_=>(arrOf d).map (·.2));obtain⟨c2,hc2⟩:∃c2,(h3.update a (Obj.mapSeq λ_=>(arrOf d).map (·.2))).get? a=some (seqObj "list" ((arrOf d).map (·.2)) c2):=⟨_,get?_update_seq k λ_=>(arrOf d).map (·.2)⟩;have U:(arrOf d).size=vs.length:=by rw[B.size_eq,Array.size_zip];simp
  refine bc (seqEpoch_at k rfl ?_);refine bc (listUpdate_at k rfl ?_ (jj _) (by rw[Array.size_map,U];exact Nat.le_succ_of_le hz));rw[F];simp only [bne_self_eq_false,Bool.false_eq_true,if_false];refine ck (h ((arrOf d).toList.map (·.2)) _ c2 ?_ ?_ ?_ λb o D e=>(R.2 b D).trans (p b o D e))
  ·have:=(Array.perm_iff_toList_perm.mp B).map (·.2)
   rwa[K]at this
  ·rw[List.pairwise_map];refine H.imp_of_mem λ{x y} u M q=>?_;rw[J x u,J y M]at q;exact q
  ·rw[hc2];congr 1;congr 1;rw[<-Array.toList_map]
 by_cases h2:vs.toArray.size<2
 ·rw[bz h2,bz h2];refine bc (ck ?_);rw[StateT.run_pure];refine bc (ck ?_)
  try dsimp only
  refine C (SortSt.mk' general' (vs.toArray.zip vs.toArray) #[] 7 none) (Array.Perm.refl _) ?_ rfl;show(vs.toArray.zip vs.toArray).toList.Pairwise _;have r:(vs.toArray.zip vs.toArray).toList.length<2:=by rw[Array.length_toList,Array.size_zip,Nat.min_self];exact h2
  match (vs.toArray.zip vs.toArray).toList,r with
  | [],_=>exact List.Pairwise.nil
  | [x],_=>exact List.pairwise_singleton _ _
  |_::_::_,r=>simp only [gZ]at r;lia
 ·rw[bp h2,bp h2];rw[iL]at h2;refine bc (O.kind _ (λb o e I=>p b o (λz=>by subst z;rw[v]at e;injection e with e;rw[<-e]at I;exact absurd I (by show¬(Value.type "list"=Value.type "tuple");decide)) e) (by lia) _ _ λκ T=>?_)
  refine bc (jE (GV T (a0:=vs.toArray.zip vs.toArray) (g0:=7) (λx u=>?_)
   (Q:=λ_ f=>(arrOf f).Perm (vs.toArray.zip vs.toArray)/\failedOf f=none/\(arrOf f).toList.Pairwise (λx y=>lt y.1 x.1=false)) λX Pq g L S=>(fL L rfl S)) ?_ λ_ _ e=>e)
  ·rw[Array.toList_zip]at u;exact(List.of_mem_zip u).1
  ·rintro⟨⟨⟩,f⟩ W ⟨rfl,B,F,H⟩
   try dsimp only
   exact C f B H F
theorem A7c.keep(k:∀b o,h.get? b=some o->o.cls=.type "tuple"->h'.get? b=some o)(x:A7c h v ns):A7c h' v ns:=by refine iN x ?_;clear x;rintro a o d ⟨n,e,f,c,r⟩;exact⟨a,(gE o d n e (k _ _ f c) c r)⟩
theorem Do(f:∀v∈vs,∃n a,A7c h v (n::a)):Ordd prog w A h vs (λx y=>gM (nM h x) (nM h y)) where
 kind:=λs b B E Q l=>by
  have e:∀v∈vs,∃n a,A7c s.heap v (n::a):=λv d=>by obtain⟨n,a,q⟩:=f v d;exact ij n a (q.keep b)
  obtain⟨p,k,u,i⟩:=wq e;refine PySem.W.kat_kind (T:=.type "int") k (by lia) (λv d=>?_) rfl ?_
  ·obtain⟨n,t,rfl⟩:=i v d;exact .now
  rw[show(Value.type "int" != Value.type "tuple")=true from rfl];refine l _ {tr:=λx y z _ _ _=>rK _ _ _,asym:=λx y _ _=>qu _ _,ask:=λx y j o E Q q=>?_};obtain⟨n,a,c⟩:=f _ j;obtain⟨m,r,g⟩:=f _ o;rw[oM c,oM g]at q;refine Dr.ask x y ⟨_,c.keep b⟩ ⟨_,g.keep b⟩ E Q ?_;rw[oM (c.keep b),oM (g.keep b)];exact q
end SA
namespace L2
open PySem PySem.Spec PyProof.Rows SA
section
variable{X:Cx}
theorem ES{e its:zH}(p:e.Perm its):∀{ys:zM},A3b ys its->∃zs,A3b zs e/\zs.Perm ys:=by
 induction p with
 |nil=>intro ys h;cases h;exact bd [] .nil (.refl _)
 |cons x _ ih=>
  intro ys h
  cases h with
  |cons r t=>obtain⟨zs,a,b⟩:=ih t;exact bd (_::zs) (.cons r a) (b.cons _)
 |swap x y l=>
  intro ys h
  cases h with
  |cons r t=>
   cases t with
   |cons r' t'=>exact bd _ (.cons r' (.cons r t')) (List.Perm.swap _ _ _)
 |trans _ _ ih1 ih2=>intro ys h;obtain⟨g,a,b⟩:=ih2 h;obtain⟨f,c,d⟩:=ih1 a;exact bd f c (d.trans b)
theorem _root_.SA.Ordd.mono{prog:yB}{w:yD}{A:zZ}{h h':yA}{vs:zH}{lt:zX->zX->Bool}(O:Ordd prog w A h vs lt)(k:∀b o,h.get? b=some o->h'.get? b=some o):Ordd prog w A h' vs lt :=⟨λs c=>O.kind s λb o e a=>c b o (k b o e) a⟩
theorem z7{pins:zD}{Z:St}{H:Hp}{s:zY}{ys:zM}{its:zH}{lt:zX->zX->Bool}{P:PySem.Fin->zY->Prop}{E:zA}(I:Inv X pins Z H s)(n:A3b ys its)(hz:ys.length<=sizeLine)(O:Ordd X.prog X.w X.A.in1.in1 s.heap its lt)
  (h:∀zs s' l its',Inv X pins Z (upd H l (.lst zs)) s'->H l=none->zs.Perm ys->A3b zs its'->its'.Pairwise (λx y=>lt y x=false)->P (.done (.ret (.ref l))) s'):
  wpAny (model X.prog X.w) X.A.in1 (do
   let l<-newList its
   let _<-holding [l] (call (.builtin "list.sort") [l] [])
   ret l) P E s:=by
 have z:=n.length;refine bc (wpAny_newList ?_ (by lia));have j:s.heap.get? s.heap.objs.size=none:=Heap.get?_none_of_le (fH _);have f:H s.heap.objs.size=none:=I.hok.fresh (fH _);have q:kf X pins H s.heap.objs.size:=I.fpOk (fH _) f;have d:∀b o,s.heap.get? b=some o->(s.heap.push (seqObj "list" its.toArray 0)).get? b=some o:=λb o e=>fS _ e;have g:(s.heap.push (seqObj "list" its.toArray 0)).get? s.heap.objs.size=some (seqObj "list" its.toArray 0):=gR _ rfl;show wpAny _ _ _ _ _ {s with heap:=s.heap.push (seqObj "list" its.toArray 0)};have I1:=I.kept (t':=s.toks) d;have O1:=O.mono d;generalize s.heap.push (seqObj "list" its.toArray 0)=h1 at d g I1 O1⊢;generalize s.heap.objs.size=a at j f q g⊢;refine bc (jC (jb slot_list_sort (bd _ g rfl) entry_list_sort ?body (args_list_sort _)))
 case body=>
  show wpAny (model X.prog X.w) X.A.in1.in1 (Builtin.«list.sort» ⟨[.ref a],[]⟩) _ _ _;refine HG O1 g (by lia) λi h' c r u v t=>(bd _ rfl ?_);obtain⟨zs,p,m⟩:=ES r n;have I2:=I1.turnedL (t':=s.toks) (h':=h') (ts:=[a]) (λb o k e=>t b o (by simpa using k) e) λb k=>by rw[gz.mp k];exact q
  refine ck (h zs _ a i (I.trackO I2 j f ?_) f m p u);exact md (by rw[m.length_eq];exact hz) i c p v
theorem Hs(hu:True):mu X (.builtin "sorted") (λxs H Q=>∃(p:zW)(ys:zM)(kI:V->List Int),xs=[.ref p]/\SqL X.K H p ys/\(∀y∈ys,∃c n d,y=.ref c/\kI y=n::d/\H c=some (.tup ((n::d).map .int)))/\
  ∀zs,zs.Perm ys->zs.Pairwise (λx y=>gM (kI y) (kI x)=false)->∀l,H l=none->Q (.ref l) (upd H l (.lst zs))):=by
 intro N s Z H xs us Q I E h;refine gn h ?_;clear h;rintro p ys kI rfl hq ht k;obtain⟨u,rfl,W⟩:=mq E;cases W;obtain⟨f,G,R,j⟩:=I.list hq;have U:=G.length;refine Calls.call_function_entry kind_sorted plain_sorted entry_sorted (args_sorted1 _) ?_;unfold Builtin.«sorted»;refine bc (m:=checkCount "sorted" 1 1 _) (ck ?_);refine bc (collect_list R.isList ?_ (by lia))
 have g:∀b o,s.heap.get? b=some o->((s.heap.push (seqObj "list" #[] 0)).update s.heap.objs.size (Obj.mapSeq (·++f.toArray))).get? b=some o:=λb o q=>by have C:b<s.heap.objs.size:=fW q;rw[Heap.get?_update_ne _ _ _ _ (im C),Heap.get?_push_ne _ _ _ (im C)];exact q
 have I1:=I.kept (t':=s.toks) g;show wpAny _ _ _ _ _ {s with heap:=((s.heap.push (seqObj "list" #[] 0)).update s.heap.objs.size (Obj.mapSeq (·++f.toArray)))};generalize (s.heap.push (seqObj "list" #[] 0)).update s.heap.objs.size (Obj.mapSeq (·++f.toArray))=h1 at g I1⊢
 have B:∀(y:V)(v:zX),y∈ys->A2h y v->∃n d,kI y=n::d/\A7c h1 v (n::d):=λy v D w=>by refine jK (ht y D) ?_;rintro c n d rfl e T;cases w;exact gF n d e (uf I1 T)
 have J:∀v∈f,∃n d,A7c h1 v (n::d):=λv J=>by obtain⟨i,P⟩:=List.getElem?_of_mem J;have O:=(fY.mp P).1;have D:ys[i]?=some ys[i]:=gU (by lia);obtain⟨v',A,w⟩:=G.get D;rw[P]at A;cases A;obtain⟨n,d,_,q⟩:=B _ _ (gq D) w;exact ij n d q
 refine z7 I1 G j (Do J) λzs s' l a I2 O M rz Y=>(fZ _ rfl (.ref l) _ I2 rfl (k zs M ?_ l O))
 have S:∀(zs:zM)(a:zH),A3b zs a->(∀z∈zs,z∈ys)->a.map (nM h1)=zs.map kI:=λzs a r j=>by
  induction r with
  |nil=>rfl
  |cons w t ih=>obtain⟨n,d,e,q⟩:=B _ _ (j _ jG) w;rw[gA,gA,ih λz F=>j z (jD _ F),oM q,e]
 have e:=S zs a rz λz j=>M.mem_iff.mp j;have L:(a.map (nM h1)).Pairwise (λx y=>gM y x=false):=by rw[List.pairwise_map];exact Y
 rw[e,List.pairwise_map]at L;exact L
end
end L2
namespace SN
open PySem SetTable
variable{β α:Type}{zs:List Nat}{xs vs us l:zH}{x a S I:zW}{wr fp:zQ}{w:yD}{v:zX}{t:SetTable}{sl' sl pl n m j i ep L:Nat}{sh:List Bool}{s' s:zY}{prog:yB}{pos p2 p:Pos}{pins:zD}{op o:Obj}{ld:Bool}{ks:List fP}{key:Nat->fP}{its items acc:zG}{h0 h' h:yA}{es:Array (Int×zX)}{e:yC}{d:zI}{c:Prop}{adr:Nat->zW}{Z:L2.St}{X:Cx}{R:Result->zY->Prop}{Q₁ E:zA}{Q:Bool->zY->Prop}{P:Nat->zX->Prop}{M:Model}{H:Hp}{G:Array GenState->Array GenState->Prop}{B:Str}{A:zZ}
def gw(m:Nat):Array Nat:=((List.range 8).filter λj=>m.testBit j).toArray
def tE(m:Nat):Bool:=(List.range 8).all λj=>
 if m.testBit j then decide ((gw m)[below (gw m) j]?=some j)
 else decide (insertAt (gw m) (below (gw m) j) j=gw (m||| 2^j))&&decide (below (gw m) j<=(gw m).size)&&decide (m||| 2^j<256)
theorem xM:∀m:Fin 256,tE m.1=true:=by decide+kernel
theorem vP(b:m<256)(a:j<8)(h:m.testBit j=true):(gw m)[below (gw m) j]?=some j:=by have:=xM ⟨m,b⟩;unfold tE at this;have:=List.all_eq_true.mp this j (List.mem_range.mpr a);dsimp only at this;rw[bz h]at this;exact of_decide_eq_true this
theorem Bu(b:m<256)(a:j<8)(h:m.testBit j=false):insertAt (gw m) (below (gw m) j) j=gw (m||| 2^j)/\below (gw m) j<=(gw m).size/\m||| 2^j<256:=by have:=xM ⟨m,b⟩;unfold tE at this;have:=List.all_eq_true.mp this j (List.mem_range.mpr a);dsimp only at this;rw[bp (by rw[h];exact gL),Bool.and_eq_true,Bool.and_eq_true]at this;exact fL (of_decide_eq_true this.1.1) (of_decide_eq_true this.1.2) (of_decide_eq_true this.2)
theorem ud(h:(gw m)[i]?=some j):m.testBit j=true/\j<8:=by
 have:j∈(List.range 8).filter λj=>m.testBit j:=by
  have a:((List.range 8).filter λj=>m.testBit j)[i]?=some j:=by unfold gw at h;rw[List.getElem?_toArray]at h;exact h
  exact gq a
 rw[List.mem_filter]at this;exact⟨this.2,List.mem_range.mp this.1⟩
def pst(h:Int):Nat->Nat×Nat|0=>(bits h%8,bits h)|n+1=>leap 7 (pst h n).1 (pst h n).2
def gS(h:Int)(n:Nat):Nat:=(pst h n).1
def kd(h:Int)(n:Nat):Probe:=⟨gS h n,0,gS h n,(pst h n).2,none⟩
theorem ur(h:Int):∀n,gS h n<8|0=>Nat.mod_lt _ (by decide)|n+1=>Nat.mod_lt _ (by decide)
theorem xk(i:Nat):runEnd 7 i-i=0:=by
 unfold runEnd;rw[bp (by lia)]
 lia
theorem Ej(a:t.mask=7)(h:Int):t.probeStart h=kd h 0:=by unfold probeStart;rw[a];dsimp only;rw[xk];rfl
theorem wG(b:t.mask=7)(h:Int)(n:Nat):t.advance (kd h n)=kd h (n+1):=by unfold advance;rw[b];have a:¬(kd h n).more>0:=Nat.lt_irrefl 0;rw[bp a];show({j:=(leap 7 (gS h n) (pst h n).2).1,more:=runEnd 7 (leap 7 (gS h n) (pst h n).2).1-(leap 7 (gS h n) (pst h n).2).1,i:=(leap 7 (gS h n) (pst h n).2).1,perturb:=(leap 7 (gS h n) (pst h n).2).2,dummy:=none}:Probe)=_;rw[xk];rfl
theorem vz(h:Int):∀n,(pst h n).2=bits h/32^n|0=>by rw[Nat.pow_zero,Nat.div_one];rfl|n+1=>by show(pst h n).2/32=_;rw[vz h n,Nat.pow_succ,Nat.div_div_eq_div_mul]
theorem Cp(h:Int):bits h<2^64:=by
 unfold bits;have a:=om h (show(2:Int)^64≠0 by decide);have b:=oq h (show(0:Int)<2^64 by decide)
 lia
theorem AH(h:Int)(a:13<=n):(pst h n).2=0:=by rw[vz];refine Nat.div_eq_of_lt (jM (Cp h) ?_);exact jU (show 2^64<=32^13 by decide) (Nat.pow_le_pow_right (by decide) a)
def cyc:Nat->Nat->Nat|0,i=>i|n+1,i=>(cyc n i*5+1)%8
theorem yh(h:Int):∀n,gS h (13+n)=cyc n (gS h 13)|0=>rfl|n+1=>by show((pst h (13+n)).1*5+1+(pst h (13+n)).2/32)%8=(cyc n (gS h 13)*5+1)%8;rw[AH h (by lia),<-yh h n];rfl
theorem CJ:∀(i j:Fin 8),∃n:Fin 8,cyc n.1 i.1=j.1:=by decide+kernel
theorem FZ(h:Int)(c:j<8)(b:m.testBit j=false):∃N,N<21/\m.testBit (gS h N)=false:=by obtain⟨n,a⟩:=CJ ⟨gS h 13,ur h 13⟩ ⟨j,c⟩;dsimp only at a;exact bd (13+n.1) (by have:=n.2;lia) (by rw[yh,a];exact b)
theorem E6(b:(gw m).size<=7):∃j,j<8/\m.testBit j=false:=by
 refine Classical.byContradiction λd=>?_
 have c:∀j<8,m.testBit j=true:=λj a=>by
  cases e:m.testBit j with
  |true=>rfl
  |false=>exact absurd (bd j a e) d
 have:(List.range 8).filter (λj=>m.testBit j)=List.range 8:=List.filter_eq_self.mpr λj a=>c j (List.mem_range.mp a);unfold gw at b;rw[this]at b;exact absurd b (by decide)
structure Tb(t:SetTable)(m:Nat):Prop where
 mask:t.mask=7
 dum:t.dummies=#[]
 pl:t.place=gw m
 lt:m<256
theorem EM(T:Tb t m)(a:j<8)(h:m.testBit j=true):∃i,t.slot j=.live i/\(gw m)[i]?=some j:=by refine bd (below (gw m) j) ?_ (vP T.lt a h);unfold slot;dsimp only;rw[T.pl,vP T.lt a h];simp
theorem FS(T:Tb t m)(h:m.testBit j=false):t.slot j=.empty:=by
 unfold slot;dsimp only;rw[T.pl,T.dum]
 have a:¬(gw m)[below (gw m) j]?=some j:=λe=>by rw[(ud e).1]at h;cases h
 rw[bp (by simpa using a)];have:has #[] j=false:=by unfold has;simp
 rw[this];rfl
theorem xO{t:SetTable}{m:Nat}(T:Tb t m)(d:Nat->Int)(h:Int):∀(f n N:Nat),n<=N->N<n+f->m.testBit (gS h N)=false->
  ∃g,n<=g/\g<=N/\(∀q,n<=q->q<g->∃i,(gw m)[i]?=some (gS h q)/\(d i==h)=false)/\
   ((probe.go t d h f (kd h n)=some (.empty (gS h g) none)/\m.testBit (gS h g)=false)\/∃i,t.slot (gS h g)=.live i/\(gw m)[i]?=some (gS h g)/\(d i==h)=true/\g<N/\probe.go t d h f (kd h n)=some (.candidate (gS h g) i (kd h (g+1))))
 |0,n,N,h1,h2,_=>by lia
 |f+1,n,N,h1,h2,hf=>by
  cases hb:m.testBit (gS h n)with
  |false=>refine iU n (fH _) h1 (λq a b=>by lia) (.inl ⟨?_,hb⟩);unfold probe.go;have:=FS T hb;rw[show(kd h n).j=gS h n from rfl,this];rfl
  |true=>
   obtain⟨i,l,o⟩:=EM T (ur h n) hb;have k:n<N:=Nat.lt_of_le_of_ne h1 λe=>by rw[<-e,hb]at hf;cases hf
   cases he:d i==h with
   |true=>refine iU n (fH _) h1 (λq a b=>by lia) (.inr ⟨i,(iV l o he k ?_)⟩);unfold probe.go;rw[show(kd h n).j=gS h n from rfl,l];dsimp only;rw[bz he,wG T.mask]
   |false=>
    refine iD (xO T d h f (n+1) N k (by lia) hf) ?_;rintro g w u ⟨r,s⟩;refine iU g (by lia) u (λq v p=>?_) ?_
    ·rcases Nat.lt_or_ge n q with c|c
     ·exact r q c p
     ·have:q=n:=by lia
      rw[this];exact bd i o he
    ·have e:probe.go t d h (f+1) (kd h n)=probe.go t d h f (kd h (n+1)):=by
      conv=>lhs;unfold probe.go
      rw[show(kd h n).j=gS h n from rfl,l];dsimp only;rw[bp (by rw[he];exact gL),wG T.mask]
     rw[e];exact s
open PySem L2
theorem CU{k:Key}(h:(gG prog w).is k v=true):(∃i t,v=.int i t)\/∃x t,v=.str x t:=by
 rcases lG h with ⟨i,t,_,e⟩|⟨x,t,_,e⟩
 ·exact .inl (ij i t e)
 ·exact .inr (ij x t e)
theorem Dy{x:Str}{k:fP}(c:A1r prog w s.heap (.inl (.inr x)::k) a)(h:Q false s):wpAny (model prog w) A (hashByValue (n+1) (.ref a)) Q E s:=by
 have g:=c.typeIs;refine gn c λo b m j _ f d=>?_;clear c;unfold hashByValue;refine bc (wpAny_specialOf g PySem.F.slot_tuple_hash.lookup ?_);dsimp only;refine bc (jL j f ?_);show wpAny _ _ (forIn b _ _>>=_) _ _ s;rw[<-Array.forIn_toList];generalize b.toList=l at d
 cases d with
 |cons h1 hl=>
  rcases lG (show mW (.inr x) _=true from h1)with ⟨i,t,e,_⟩|⟨y,t,e,rfl⟩
  ·cases e
  rw[List.forIn_cons];have e:hashByValue n (.str y t)=pure false:=by cases n<;>rfl
  rw[e];refine bc (bc (bc (ck ?_)));exact ck (ck (ck h))
theorem xa{k:Key}(h:(gG prog w).is k v=true):ofAClassStatement n v=pure false:=by rcases CU h with ⟨i,t,rfl⟩|⟨x,t,rfl⟩<;>(cases n<;>rfl)
theorem Ch{ks:zU}(g:IsTupleKey (gG prog w) s.heap ks a)(h:Q false s):wpAny (model prog w) A (ofAClassStatement (n+1) (.ref a)) Q E s:=by
 have l:=g.typeIs;refine gn g λo f m p _ k i=>?_;clear g;unfold ofAClassStatement;refine bc (wpAny_typeOf l ?_);dsimp only;rw[bz (by decide)];refine bc (ck ?_);simp only [Bool.not_true,Bool.false_eq_true,if_false];refine bc (jL p k ?_);dsimp only;refine bc ?_;rw[<-Array.forIn_toList];refine wpAny_forIn_list _ (λb r d=>r.1=none/\d=s/\∃ks,ItemsAre (gG prog w) ks b) _ ?_ ?_ _ _ ⟨rfl,(gk rfl ks i)⟩
 ·rintro v b r d ⟨e,rfl,j,c⟩
  cases c with
  |cons h1 hl=>rw[xa h1];refine bc (ck ?_);simp only [Bool.false_eq_true,if_false];exact ck ⟨rfl,(gk rfl _ hl)⟩
 ·rintro⟨q,t⟩ d ⟨e,rfl,_⟩;simp only at e;subst e;exact ck h
theorem yf{k:fP}(i:A1r prog w s.heap k a)(h:Q false s):wpAny (model prog w) A (ofAClassStatement (n+2) (.ref a)) Q E s:=by
 have u:=i.typeIs;refine gn i λo g m y _ t l=>?_;clear i;unfold ofAClassStatement;refine bc (wpAny_typeOf u ?_);dsimp only;rw[bz (by decide)];refine bc (ck ?_);simp only [Bool.not_true,Bool.false_eq_true,if_false];refine bc (jL y t ?_);dsimp only;refine bc ?_;rw[<-Array.forIn_toList];refine wpAny_forIn_list _ (λc r e=>r.1=none/\e=s/\∃j,A3i prog w s.heap j c) _ ?_ ?_ _ _ ⟨rfl,(gk rfl k l)⟩
 ·rintro v c r e ⟨f,rfl,j,d⟩
  cases d with
  |@cons p _ ps' _ h1 hl=>
   cases p with
   |inl q=>rw[xa (show(gG prog w).is q v=true from h1)];refine bc (ck ?_);simp only [Bool.false_eq_true,if_false];exact ck ⟨rfl,(gk rfl ps' hl)⟩
   |inr ks=>obtain⟨b,rfl,x⟩:=h1;refine bc (Ch x ?_);simp only [Bool.false_eq_true,if_false];exact ck ⟨rfl,(gk rfl ps' hl)⟩
 ·rintro⟨z,B⟩ e ⟨f,rfl,_⟩;simp only at f;subst f;exact ck h
theorem Dv{k:fP}(j:A1r prog w s.heap k x)(n:∀v∈l,∃a f,v=.ref a/\A1r prog w s.heap f a)(h:Q false s):wpAny (model prog w) A (searchCouldBeSeen (.ref x) l) Q E s:=by
 unfold searchCouldBeSeen;refine bc ?_;refine wpAny_forIn_list _ (λc r g=>r.1=none/\g=s/\∀v∈c,∃a f,v=.ref a/\A1r prog w s.heap f a) _ ?_ ?_ _ _ (fL rfl rfl n)
 ·rintro v c r g ⟨i,rfl,d⟩;obtain⟨a,f,rfl,m⟩:=d v jG;have b:∀v∈c,∃a f,v=.ref a/\A1r prog w g.heap f a:=λu o=>d u (jD _ o);dsimp only;by_cases e:(x==a||(carriedByValue (.ref x)&&carriedByValue (.ref a)))=true
  ·rw[bz e];exact ck (fL rfl rfl b)
  ·rw[bp e];refine bc (vj j ?_);simp only [Bool.not_true,Bool.false_eq_true,if_false];refine bc (vj m ?_);simp only [Bool.not_true,Bool.false_eq_true,if_false];refine bc (yf j ?_);simp only [Bool.false_eq_true,if_false];refine bc (yf m ?_);simp only [Bool.false_eq_true,if_false];exact ck (fL rfl rfl b)
 ·rintro⟨p,q⟩ g ⟨i,rfl,_⟩;simp only at i;subst i;exact ck h
theorem pgt{α β:Type}{F:α->β->Prop}:∀{l:List α}{m:List β},Paired F l m->∀{i:Nat}{x:α},l[i]?=some x->∃y,m[i]?=some y/\F x y|_,_,.nil,i,x,e=>by simp at e|_,_,.cons r t,0,x,e=>by simp at e;subst e;exact bd _ rfl r|_,_,.cons r t,i+1,x,e=>by obtain⟨y,b,a⟩:=pgt t (i:=i) (by simpa using e);exact bd y (by simpa using b) a
structure B5b(prog:yB)(w:yD)(h:yA)(S:zW)(sh:List Bool)(ld:Bool)(o:Obj)(es:Array (Int×zX))(ep:Nat)(t:SetTable)(m:Nat)(ks:List fP):Prop where
 ho:h.get? S=some o
 ex:o.ExactSet
 led:t.led=ld
 pln:0<es.size->t.plain=false
 hd:o.data=.set es ep t
 tb:Tb t m
 sz:es.size=(gw m).size
 le:es.size<=4
 ok:Paired (λ(e:Int×zX)(k:fP)=>∃a,e=(gH prog w k,.ref a)/\k.map Sum.isLeft=sh/\A1r prog w h k a) es.toList ks
 nd:ks.Nodup
 pa:∀p∈(gw m).toList.zip ks,∃n,gS (gH prog w p.2) n=p.1/\∀q<n,m.testBit (gS (gH prog w p.2) q)=true
theorem B5b.fits(N:B5b prog w h S sh ld o es ep t m ks):t.fits es.size=true:=by
 unfold SetTable.fits SetTable.fill;rw[N.tb.pl,N.tb.dum,N.tb.mask,<-N.sz];have:=N.le;simp only [beq_self_eq_true,Bool.true_and,decide_eq_true_eq];show es.size+0<=7
 lia
theorem B5b.at(N:B5b prog w h S sh ld o es ep t m ks)(hi:(gw m)[i]?=some j):∃k a,ks[i]?=some k/\es[i]?=some (gH prog w k,.ref a)/\k.map Sum.isLeft=sh/\A1r prog w h k a/\(j,k)∈(gw m).toList.zip ks:=by
 have e:i<(gw m).size:=(oZ.mp hi).1;have b:i<es.size:=by rw[N.sz];exact e
 have c:es.toList[i]?=some es[i]:=by rw[Array.getElem?_toList];exact Array.getElem?_eq_getElem b
 obtain⟨k,d,a,f,g,l⟩:=pgt N.ok c;refine jr k a d (by rw[<-Array.getElem?_toList,c,f]) g l ?_;refine gq (i:=i) ?_;rw[oV];exact⟨by rw[Array.getElem?_toList];exact hi,d⟩
def qT(prog:yB)(w:yD)(m:Nat)(ks:List fP)(k:fP)(n:Nat):Prop:=∀q<n,∃(i:Nat)(a:fP),(gw m)[i]?=some (gS (gH prog w k) q)/\ks[i]?=some a/\a≠k
theorem yR(N:B5b prog w s.heap S sh ld o es ep t m ks){k:fP}{x:zW}(M:A.units+8<cLine)(C:A1r prog w s.heap k x)(L:k.map Sum.isLeft=sh){Q:SetFound->zY->Prop}
  (h1:k∈ks->Q (.there none) s) (h2:∀n',qT prog w m ks k n'->m.testBit (gS (gH prog w k) n')=false->Q (.free (gS (gH prog w k) n') false) s):
  ∀(d n F:Nat)(b:Option SetTable.Probe),n<=F->F<n+d->F<21->m.testBit (gS (gH prog w k) F)=false->(b=none/\n=0\/b=some (kd (gH prog w k) n))->qT prog w m ks k n->
   wpAny (model prog w) A (setSearchFrom S (.ref x) (gH prog w k) true d b) Q E s
 |0,n,F,b,a1,D,_,_,_,_=>by lia
 |d+1,n,F,b,a1,D,a21,hf,hst,seen=>by
  unfold setSearchFrom;refine bc (wpAny_setState_of N.ho N.hd N.fits ?_);dsimp only;have Y:t.gaveWay=false:=by unfold SetTable.gaveWay;rw[N.tb.mask];rfl
  rw[Y];simp only [Bool.false_eq_true,if_false]
  have J:b.getD (t.probeStart (gH prog w k))=kd (gH prog w k) n:=by
   rcases hst with ⟨rfl,rfl⟩|rfl
   ·exact Ej N.tb.mask _
   ·rfl
  rw[J];refine iD (xO N.tb (λi=>(es[i]?.map (·.1)).getD 0) (gH prog w k) (10*SetTable.turns t.mask) n F a1 (by unfold SetTable.turns;rw[N.tb.mask];lia) hf) ?_;rintro n' b1 b2 ⟨T,b4⟩
  have f:qT prog w m ks k n':=λq O=>by
   rcases Nat.lt_or_ge q n with c|c
   ·exact seen q c
   ·obtain⟨i,l,B⟩:=T q c O;refine fO (N.at l) λg a r u _=>?_;refine fC i g l r λe=>?_;rw[u,e]at B;simp at B
  rcases b4 with ⟨e,y⟩|⟨i,G,l,B,a0,e⟩
  ·have H:t.probe (λi=>(es[i]?.map (·.1)).getD 0) (gH prog w k) (kd (gH prog w k) n)=some (.empty (gS (gH prog w k) n') none):=e
   erw [H]
   exact ck (h2 n' f y)
  ·have H:t.probe (λi=>(es[i]?.map (·.1)).getD 0) (gH prog w k) (kd (gH prog w k) n)=some (.candidate (gS (gH prog w k) n') i (kd (gH prog w k) (n'+1))):=e
   erw [H]
   dsimp only;refine fV (N.at l) ?_;rintro g a r u W ⟨R,g5⟩
   have K:∀v∈(es.filter (λx=>x.1==gH prog w k)).toList.map (λx=>x.2),∃a g,v=.ref a/\A1r prog w s.heap g a:=λv U=>by
    obtain⟨Z,I,rfl⟩:=gY.mp U
    have z:Z∈es.toList:=by have:=Array.mem_toList_iff.mp I;exact Array.mem_toList_iff.mpr (Array.mem_filter.mp this).1
    obtain⟨j,P⟩:=List.getElem?_of_mem z;obtain⟨X,_,D,rfl,_,q⟩:=pgt N.ok P;exact gF D X rfl q
   by_cases hled:(! t.led)=true
   case' pos=>rw[bz hled];refine bc (Dv C K ?_);simp only [Bool.false_eq_true,if_false]
   case' neg=>rw[bp hled]
   all_goals
    rw[u];dsimp only;refine bc (jC (Ac M (W.trans L.symm) R C ?_));refine bc (wpAny_setState_of N.ho N.hd N.fits ?_);dsimp only;by_cases hk:g=k
    ·rw[iY hk];simp only [Bool.and_true,if_true];exact ck (h1 (by rw[<-hk];exact gq r))
    ·rw[gK hk];simp only [Bool.and_false,Bool.false_eq_true,if_false];have p:t.sameMemory t.moves t.mask=some true:=by unfold SetTable.sameMemory;rw[bz (by simp)]
     rw[p];dsimp only;rw[bz rfl,G];dsimp only;rw[u];dsimp only;have h:isSame (.ref a) (.ref a)=pure true:=by unfold isSame;simp
     rw[h];refine bc (ck ?_);refine bc (ck ?_);simp only [if_true];refine yR N M C L h1 h2 d (n'+1) F _ (by lia) (by lia) a21 hf (.inr rfl) λq O=>?_;rcases Nat.lt_or_ge q n' with c|c
     ·exact f q c
     ·have:q=n':=by lia
      rw[this];exact fC i g l r hk
theorem qx{k:fP}(j:∀b o,h.get? b=some o->o.cls=.type "tuple"->h'.get? b=some o)(x:A1r prog w h k a):A1r prog w h' k a:=by
 refine gn x λo d n t i m l=>?_;clear x;refine gE o d n (j _ _ t i) i m (Paired.mapP l λp v z=>?_)
 cases p with
 |inl k=>exact z
 |inr ks=>obtain⟨b,e,q,c,s,g,f,r⟩:=z;exact bd b e (iM q c s (j _ _ g f) f r)
theorem xR(xs:Array α)(p:Nat)(x:α):(SetTable.insertAt xs p x).toList=xs.toList.take p++x::xs.toList.drop p:=by
 unfold SetTable.insertAt;rw[Array.toList_append,Array.toList_push,Array.toList_extract,Array.toList_extract,iE];have b:xs.toList.extract 0 p=xs.toList.take p:=by simp[List.extract]
 have a:xs.toList.extract p xs.size=xs.toList.drop p:=by simp only [List.extract];rw[nI (by rw[ot,Array.length_toList];lia)]
 rw[b,a];rfl
theorem yZ{α β:Type}{F:α->β->Prop}{x:α}{y:β}(r:F x y):∀(p:Nat){xs:List α}{ys:List β},Paired F xs ys->Paired F (xs.take p++x::xs.drop p) (ys.take p++y::ys.drop p)|0,_,_,h=>.cons r h|p+1,_,_,.nil=>.cons r .nil|p+1,_,_,.cons a t=>.cons a (yZ r p t)
theorem wT{α β:Type}{x:α}{y:β}:∀(p:Nat){xs:List α}{ys:List β},xs.length=ys.length->∀q∈(xs.take p++x::xs.drop p).zip (ys.take p++y::ys.drop p),q∈xs.zip ys\/q=(x,y)
 |0,xs,ys,_,q,h=>by
  rcases gB.mp h with e|e
  ·exact .inr e
  ·exact .inl e
 |p+1,[],[],_,q,h=>by
  rcases gB.mp h with e|e
  ·exact .inr e
  ·cases e
 |p+1,[],_::_,e,_,_=>by cases e
 |p+1,_::_,[],e,_,_=>by cases e
 |p+1,a::xs,b::ys,e,q,h=>by
  rcases gB.mp h with c|c
  ·exact .inl (by rw[c];exact jG)
  ·rcases wT p (by simpa using e) q c with z|z
   ·exact .inl (jD _ z)
   ·exact .inr z
theorem ql(xs:List α)(p:Nat)(x:α):(xs.take p++x::xs.drop p).Perm (x::xs):=by refine List.perm_middle.trans ?_;rw[np]
theorem BK{a:Nat}(h1:(gw m)[i]?=some j)(h2:(gw m)[a]?=some j):i=a:=by unfold gw at h1 h2;rw[List.getElem?_toArray]at h1 h2;have e:((List.range 8).filter λj=>m.testBit j).Nodup:=List.nodup_range.filter _;have d:=(fY.mp h1);have b:=(fY.mp h2);obtain⟨h,f⟩:=d;obtain⟨g,c⟩:=b;exact(List.getElem_inj e).mp (f.trans c.symm)
theorem B5b.fresh(N:B5b prog w h S sh ld o es ep t m ks){k:fP}(u:qT prog w m ks k n)(d:m.testBit (gS (gH prog w k) n)=false):k∉ks:=λv=>by
 obtain⟨b,a⟩:=List.getElem?_of_mem v;have g:=Paired.length N.ok;rw[Array.length_toList,N.sz]at g;have r:b<(gw m).size:=by rw[g];exact(fY.mp a).1
 have e:(gw m)[b]?=some (gw m)[b]:=Array.getElem?_eq_getElem r;obtain⟨j,f,q⟩:=N.pa ((gw m)[b],k) (gq (i:=b) (by rw[oV];exact⟨by rw[Array.getElem?_toList];exact e,a⟩));dsimp only at f q;rcases Nat.lt_trichotomy j n with c|c|c
 ·refine fO (u j c) λi x l p s=>?_;rw[f]at l;have:=BK l e;rw[this,a]at p;exact s (iO p).symm
 ·rw[<-c,f,(ud e).1]at d;cases d
 ·rw[q n c]at d;cases d
theorem DT(N:B5b prog w s.heap S sh ld o es ep t m ks){r:fP}(hu:A.units+8<cLine)(G:A1r prog w s.heap (.inl (.inr B)::r) x)(U:(Sum.inl (Sum.inr B)::r:fP).map Sum.isLeft=sh)(h3:es.size<=3)
  (h:∀h' o' v Y t' m' y b,B5b prog w h' S sh ld o' v Y t' m' y->Heap.SameBut S s.heap h'->(∀n,n∈y↔n∈ks\/n=.inl (.inr B)::r)->(∀e∈v.toList,e∈es.toList\/e.2=.ref x)->v.size<=es.size+1->Q b {s with heap:=h'}):
  wpAny (model prog w) A (setAddHashed S (.ref x) (gH prog w (.inl (.inr B)::r))) Q E s:=by
 generalize hk:(Sum.inl (Sum.inr B)::r:fP)=k at U h;have K:=G;rw[hk]at G;unfold setAddHashed setAddHashedIn;refine jC (bc (wpAny_setState_of N.ho N.hd N.fits ?_));dsimp only;have L:byScan (.ref x) es=false:=rfl;rw[L];simp only [Bool.false_eq_true,if_false];obtain⟨j0,X,a0⟩:=E6 (m:=m) (by rw[<-N.sz];have:=N.le;lia);obtain⟨F,hF,W⟩:=FZ (gH prog w k) X a0;unfold setSearch;refine bc (yR N hu G U (λhm=>?_) (λl sn O=>?_) 100000 0 F none (jj _) (by lia) hF W (.inl ⟨rfl,rfl⟩) λq J=>absurd J (Nat.not_lt_zero _))
 ·have e:s={s with heap:=s.heap}:=by cases s;rfl
  refine ck ?_;rw[e];exact h s.heap o es ep t m ks _ N (Heap.SameBut.refl S s.heap) (λn=>⟨.inl,λz=>z.elim id λz=>by rw[z];exact hm⟩) (λe I=>.inl I) (Nat.le_succ _)
 ·dsimp only;refine bc (wpAny_setState_of N.ho N.hd N.fits ?_);have hj:=ur (gH prog w k) l;obtain⟨D,p2,p3⟩:=Bu N.tb.lt hj O
  have c:t.put (gS (gH prog w k) l)=({t with place:=gw (m||| 2^gS (gH prog w k) l)},SetTable.below (gw m) (gS (gH prog w k) l)):=by
   unfold SetTable.put;dsimp only;rw[N.tb.pl,N.tb.dum,D];have:SetTable.has #[] (gS (gH prog w k) l)=false:=by unfold SetTable.has;simp
   rw[this];have hd:=N.tb.dum;cases t;simp only at hd;subst hd;rfl
  dsimp only;rw[c];dsimp only;generalize hp:SetTable.below (gw m) (gS (gH prog w k) l)=p at D p2 c⊢;generalize hj':gS (gH prog w k) l=j at O hj D p3 c⊢
  have C:∀d:SetTable,d={t with place:=gw (m||| 2^j),plain:=false}->wpAny (model prog w) A (do
    storeSet S (SetTable.insertAt es p (gH prog w k,.ref x)) d
    if (! false&&d.tooFull)=true then do
      setRelay S (SetTable.grown (es.size+1))
      pure true
     else pure true) Q E s:=λd H=>by
   have R:=xR es p (gH prog w k,.ref x)
   have f:(SetTable.insertAt es p (gH prog w k,Value.ref x)).size=es.size+1:=by rw[<-Array.length_toList,R,(ql _ _ _).length_eq,gZ,Array.length_toList]
   have u:=congrArg Array.toList D;rw[xR]at u
   have g:(gw (m||| 2^j)).size=(gw m).size+1:=by rw[<-Array.length_toList,<-u,(ql _ _ _).length_eq,gZ,Array.length_toList]
   refine bc (wpAny_storeSet_of N.ho N.hd ?_ (by rw[f,sizeLine_eq];lia))
   have Z:d.tooFull=false:=by subst H;unfold SetTable.tooFull SetTable.fill;rw[N.tb.dum,N.tb.mask];show decide (((gw (m||| 2^j)).size+0)*5≥7*3)=false;rw[g,<-N.sz];exact gK (by lia)
   rw[Z];simp only [Bool.and_false,Bool.false_eq_true,if_false];have sb:=Heap.SameBut.update s.heap S (Obj.putSet (SetTable.insertAt es p (gH prog w k,.ref x)) d)
   have hg:(s.heap.update S (Obj.putSet (SetTable.insertAt es p (gH prog w k,.ref x)) d)).get? S=some {o with data:=.set (SetTable.insertAt es p (gH prog w k,.ref x)) (ep+1) d}:=by have:=oY (Obj.putSet (SetTable.insertAt es p (gH prog w k,.ref x)) d) N.ho (by rw[putSet_of _ _ N.hd];rfl);rw[putSet_of _ _ N.hd]at this;exact this
   have kt:∀b ob,s.heap.get? b=some ob->ob.cls=.type "tuple"->(s.heap.update S (Obj.putSet (SetTable.insertAt es p (gH prog w k,.ref x)) d)).get? b=some ob:=λb ob e hc=>by refine(sb.2 b λz=>?_).trans e;subst z;rw[N.ho]at e;injection e with e;rw[<-e,N.ex.1]at hc;exact absurd hc (by decide)
   have P:=N.fresh sn (by rw[hj'];exact O);refine ck (h _ _ _ _ _ (m||| 2^j) (ks.take p++k::ks.drop p) _ ⟨hg,N.ex,?_,λ_=>?_,rfl,?_,?_,?_,?_,?_,?_⟩ sb (λn=>?_) (λe I=>?_) (by rw[f];lia))
   ·rw[H];exact N.led
   ·rw[H]
   ·rw[H];exact⟨N.tb.mask,N.tb.dum,rfl,p3⟩
   ·rw[f,g,N.sz]
   ·rw[f];lia
   ·rw[R];refine yZ ⟨x,rfl,U,qx kt G⟩ p (Paired.mapP N.ok λe n z=>?_);obtain⟨a,e1,M,e3⟩:=z;exact fJ a e1 M (qx kt e3)
   ·exact(ql ks p k).nodup_iff.mpr (ou.mpr ⟨P,N.nd⟩)
   ·intro q J;rw[<-u]at J;have lk:=Paired.length N.ok;rw[Array.length_toList]at lk;rcases wT p (by rw[Array.length_toList,<-N.sz,lk]) q J with z|z
    ·obtain⟨n0,e0,q0⟩:=N.pa q z;exact bd n0 e0 λi T=>by rw[Nat.testBit_or,q0 i T];rfl
    ·subst z;refine bd l hj' λi T=>?_;obtain⟨i',n,g1,_⟩:=sn i T;dsimp only;rw[Nat.testBit_or,(ud g1).1];rfl
   ·rw[(ql ks p k).mem_iff,gB];exact or_comm
   ·rw[R,(ql _ _ _).mem_iff,gB]at I;rcases I with e|e
    ·exact .inr (by rw[e])
    ·exact .inl e
  cases hpl:t.plain with
  |true=>rw[bz rfl];refine bc (Dy K ?_);simp only [Bool.false_eq_true,if_false];exact C _ rfl
  |false=>rw[bp gL];refine bc (ck ?_);simp only [if_true];exact C _ (by cases t;simp only at hpl;subst hpl;rfl)
open PySem PySem.Spec PyProof.Rows L2
def Has(prog:yB)(w:yD)(h:yA)(S:zW)(sh:List Bool)(ld:Bool)(key:Nat->fP)(adr:Nat->zW)(i:Nat):Prop :=∃o a c t m b,B5b prog w h S sh ld o a c t m b/\a.size<=i/\(∀k,k∈b↔∃j,j<i/\key j=k)/\∀e∈a.toList,∃j,j<i/\e.2=.ref (adr j)
theorem B5b.keep(N:B5b prog w h S sh ld o es ep t m ks)(f:h'.get? S=some o)(g:∀b o,h.get? b=some o->o.cls=.type "tuple"->h'.get? b=some o):B5b prog w h' S sh ld o es ep t m ks :=
 ⟨f,N.ex,N.led,N.pln,N.hd,N.tb,N.sz,N.le,Paired.mapP N.ok λe k z=>by
  obtain⟨a,i,d,c⟩:=z
  exact(fJ a i d (qx g c)),N.nd,N.pa⟩
section
variable{St:Nat->zY->Prop}
theorem AW(W:WalksS prog w A.in1 I fp wr G n P St)(S:zW)(y:S∉fp)(B:∀i v,P i v->v=.ref (adr i))(hn:n<=4)(hu:A.in1.units+8<cLine)
  (hk:∀i<n,(∃x r,key i=.inl (.inr x)::r)/\(key i).map Sum.isLeft=sh/\A1r prog w h0 (key i) (adr i)) (H:∀i s,St i s->∀b o,b∈wr->s.heap.get? b=some o->o.cls≠.type "tuple"):
  ∀(k i:Nat)(s:zY),n-i=k->i<=n->St i s->(∀b o,h0.get? b=some o->o.cls=.type "tuple"->s.heap.get? b=some o)->Has prog w s.heap S sh ld key adr i->
   (∀s',Moved (S::wr) G s s'->Has prog w s'.heap S sh ld key adr n->R (.ok (.ret .none)) s')->
   codeAny (model prog w) A (.builtin "set.update.loop" ⟨[.ref S,.ref I],[]⟩) R s:=by
 have O:S∉wr:=λh=>y (W.sub _ h);have g:∀b∈wr,b∈S::wr:=λb C=>jD _ C
 have mv:∀{s s':zY}{i j:Nat},Moved wr G s s'->St j s->Has prog w s.heap S sh ld key adr i->Has prog w s'.heap S sh ld key adr i:=λ{s s' i j} f st ⟨o,es,ep,t,m,ks,N,r⟩=>(jF o es ep (iC t m ks (N.keep (f.heap S _ O N.ho) (λb o e d=>f.heap b o (λz=>H _ _ st b o z e d) e)) r))
 intro k
 induction k with
 |zero=>
  intro i s X hi a Y T Q;have a1:i=n:=by lia
  subst a1;refine codeAny_builtin F.entry_set_update_loop ?_;rw[Around.under_plainId F.plain_set_update_loop _];show wpAny _ A.in1 (pyNext (.ref I)>>=_) _ _ s;refine bc (W.done s _ _ a λs' f=>?_);show wpAny _ A.in1 (ret Value.none) _ _ s';exact ck (Q s' (f.mono g) (mv f a T))
 |succ k ih=>
  intro i s X hi a Y T Q;have p:i<n:=by lia
  refine codeAny_builtin F.entry_set_update_loop ?_;rw[Around.under_plainId F.plain_set_update_loop _];show wpAny _ A.in1 (pyNext (.ref I)>>=_) _ _ s;refine bc (W.item i s _ _ p a λv s' hP u f=>?_);obtain rfl:=B i v hP;refine ik (mv f a T) ?_;rintro o es ep t m ⟨ks,N,c1,c2,c3⟩;have K:∀b o,h0.get? b=some o->o.cls=.type "tuple"->s'.heap.get? b=some o:=λb o e d=>f.heap b o (λz=>H _ _ a b o z (Y b o e d) d) (Y b o e d);obtain⟨⟨x,r,L⟩,q,hN⟩:=hk i p;have l:=qx K hN;show wpAny _ A.in1 (holding [Value.ref (adr i)] (setAdd S (.ref (adr i)))>>=_) _ _ s';refine bc (jC ?_);unfold setAdd;refine jC ?_;refine bc (z8 hu l ?_);rw[L]at l q⊢;refine DT (s:={s' with toks:=s'.toks+(kU (Sum.inl (Sum.inr x)::r)+1)}) N hu l q (by lia) λh' o' Z a0 t' m' M b N' U q1 q2 q3=>?_
  have a2:∀b o,s'.heap.get? b=some o->o.cls=.type "tuple"->h'.get? b=some o:=λb o e d=>by refine(U.2 b λz=>?_).trans e;subst z;rw[N.ho]at e;injection e with e;rw[<-e,N.ex.1]at d;exact absurd d (by decide)
  refine ck ⟨plainId_quiet F.plain_set_update_loop _,ih (i+1) _ (by lia) p (W.frame _ s' _ _ u (Nat.le_add_right _ _) λb C o e=>?_) (λb o e d=>a2 b o (K b o e d) d) (jF o' Z a0 (gE t' m' M N' (by lia) (λk'=>?_) λe he=>?_)) λE J D=>?_⟩
  ·rw[U.2 b (λh:b=S=>y (by rw[<-h];exact C))];exact e
  ·rw[q1 k',c2 k'];constructor
   ·rintro(⟨j,hj,e⟩|e)
    ·exact bd j (by lia) e
    ·exact bd i (by lia) (by rw[L,e])
   ·rintro⟨j,hj,e⟩;rcases Nat.lt_or_ge j i with c|c
    ·exact .inl (bd j c e)
    ·have:j=i:=by lia
     rw[this,L]at e;exact .inr e.symm
  ·rcases q2 e he with z|z
   ·obtain⟨j,hj,e⟩:=c3 e z;exact bd j (by lia) e
   ·exact bd i (by lia) z
  ·refine Q E (Moved.trans W.gtrans ((f.mono g).then_heap (Nat.le_add_right _ _) λb o C e=>?_) J) D;rw[U.2 b (λh:b=S=>C (by rw[h];exact jG))];exact e
end
abbrev jo(w:yD):Bool:=w.params.followText "set-order"
abbrev lC(a:Bool):Obj:={cls:=.type "set",dict:=none,data:=.set #[] 0 (.fresh 0 0 a)}
theorem Hz(a:zX)
  (h:Q₁ (.ref s.heap.objs.size) {s with heap:=s.heap.push (lC (! jo w))}):
  codeAny (model prog w) A (.call (.builtin "set.__new__") ⟨[.type "set",a],[]⟩) (wants Q₁ E) s:=by
 refine codeAny_of_tree ?_;show wpAny _ A.in1 (do checkBuiltinCall "set.__new__" ⟨[.type "set",a],[]⟩;again (.builtin "set.__new__" ⟨[.type "set",a],[]⟩)) _ _ s;refine bc (wpAny_of_eq (F.newCall_set_1 a) (ck ⟨plainId_quiet F.plain_set_new _,codeAny_builtin F.entry_set_new ?_⟩));rw[Around.under_plainId F.plain_set_new _];unfold Builtin.«set.__new__» Builtin.Frozenset.newClass;have b:=sub_set_self;obtain⟨f,g,d,e,c⟩:=s;dsimp only
 wp_walk
 refine wpAny_askSetting (ck ?_);dsimp only;simp only [newObj];refine bc (wpAny_alloc (ck ?_));exact ck h
theorem Dt(b:h.get? S=some (lC ld)):B5b prog w h S sh ld (lC ld) #[] 0 (.fresh 0 0 ld) 0 []:=⟨b,(fL rfl rfl rfl),rfl,λh=>absurd h (by decide),rfl,⟨rfl,rfl,rfl,by decide⟩,rfl,by decide,.nil,List.nodup_nil,λp a=>by simp at a⟩
theorem Es{l:zW}{Q:zA}(hh:A.handled=none)(hu:A.units+20<cLine)(hl:s.heap.IsList l items)(n:∀(i:Nat)(v:zX),items[i]?=some v->v=.ref (adr i))(h4:items.size<=4)
  (hk:∀i<items.size,(∃x r,key i=.inl (.inr x)::r)/\(key i).map Sum.isLeft=sh/\A1r prog w s.heap (key i) (adr i))
  (h:∀(h':yA)(tk:Nat),Has prog w h' s.heap.objs.size sh (! jo w) key adr items.size->(∀b o,b<s.heap.objs.size->s.heap.get? b=some o->h'.get? b=some o)->Q (.ref s.heap.objs.size) {s with heap:=h',toks:=tk}):
  wpAny (model prog w) A (call (.type "set") [.ref l]) Q E s:=by
 obtain⟨c,tl,a3⟩:=F.called_set.mro;have J:=F.called_set.made;have Z:=F.called_set.sub;refine wpAny_call (codeAny_of_tree ?_);show wpAny _ _ (callAny (.type "set") _) _ _ _;refine ck ⟨Code.quiet_builtin _ (by decide+kernel),codeAny_builtin F.entry_type_call ?_⟩;rw[Around.under_plain (weight_type_call_type "set" [.ref l] []) rfl];have h1:=F.called_set.notType;have h2:=F.called_set.canCreate;have a5:=F.typeCall_set_1 (.ref l)
 repeat (any_goals (first|assumption|wp_step))
 refine codeAny_mono (Hz (.ref l) (E:=E) (Q₁:=λy X=>y=.ref s.heap.objs.size/\X={s with heap:=s.heap.push (lC (! jo w))}) ⟨rfl,rfl⟩) λr X U=>?_
 cases r with
 |error e=>exact U
 |ok fl=>
  cases fl with
  |ret y=>
   obtain⟨rfl,rfl⟩:=U;have hS:(s.heap.push (lC (! jo w))).get? s.heap.objs.size=some (lC (! jo w)):=gR _ rfl;have hT:Shared.TypeIs {s with heap:=s.heap.push (lC (! jo w))} (.ref s.heap.objs.size) "set":=(bd _ hS rfl);have a6:=F.called_set.init.lookup;have a7:=F.called_set.init.bind (.ref s.heap.objs.size)
   repeat (any_goals (first|assumption|wp_step))
   refine codeAny_mono (codeAny_call_builtin (R:=wants (λr s₂=>r=.none/\∃h' tk,s₂={s with heap:=h',toks:=tk}/\Has prog w h' s.heap.objs.size sh (! jo w) key adr items.size/\
     (∀b o,b<s.heap.objs.size->s.heap.get? b=some o->h'.get? b=some o)) E) F.called_set.init.plain F.entry_set_init (check_set_init_1 hT ?_)) λr₂ s₂ a=>?_
   ·refine iD hl ?_;clear hl;rintro ol C q ⟨Y,B⟩;obtain⟨a0,g,H,d⟩:=ol;simp only at q B;subst q;subst B;have p:(s.heap.push (lC (! jo w))).get? l=some {cls:=.type "list",dict:=g,data:=.seq items Y,slots:=d}:=fS _ C;have a1:=F.sub_list_set;have a2:=F.sub_list_frozenset;have a4:(Value.type "list"==Value.type "dict")=false:=by decide
    have m:(s.heap.push (lC (! jo w))).IsList l items:=(pM _ p rfl Y rfl);unfold Builtin.«set.__init__» noKeywords Builtin.Frozenset.updateFrom;generalize hPI:pyIter=PI
    wp_walk
    subst hPI;refine wpAny_pyIter_list m ?_;refine bc (wpAny_runValue ?_);have t:l<s.heap.objs.size:=fW C;have M:A.in1.in1.in1.handled=none:=by simp[hh]
    have u:l≠(s.heap.push (lC (! jo w))).objs.size:=by rw[me];exact im (Nat.lt_succ_of_lt t)
    have N:s.heap.objs.size∉[(s.heap.push (lC (! jo w))).objs.size,l]:=by rw[me];simp only [gB,gz,mf,or_false,not_or];exact⟨im (Nat.lt_succ_self _),jm t⟩
    have W:((s.heap.push (lC (! jo w))).push {cls:=.type "list_iterator",data:=.fields #[.ref l,.int 0 0]}).get? s.heap.objs.size=some (lC (! jo w)):=fS _ hS
    refine AW ((Walks.list M _ l u items).toS) s.heap.objs.size N (key:=key) (adr:=adr) (sh:=sh) (ld:= ! jo w) (h0:=s.heap) n h4 (by show A.units+1+1+1+8<cLine;lia) hk ?hnt (items.size-0) 0 _ (by lia) (jj _)
     ⟨(fJ _ (gR _ rfl) rfl rfl),(m.push _)⟩ (λb o e _=>fS _ (fS _ e)) (jF _ _ _ (gE _ _ _ (Dt W) (fH _) (λk=>?_) λe he=>?_)) ?hR
    case hnt=>intro i s' L b o D e;rw[gz.mp D]at e;obtain⟨⟨o',e',P,_⟩,_⟩:=L;rw[e]at e';cases e';rw[P];decide
    ·constructor
     ·intro z;cases z
     ·rintro⟨j,hj,_⟩;lia
    ·simp at he
    case hR=>
     intro s' G f;obtain⟨h',g',d',K,O⟩:=s';have eg:g'=s.gens:=G.gens;have ed:d'=s.drawn:=G.drawn;have eo:O=s.os:=G.os;subst eg;subst ed;subst eo;show wpAny _ _ _ _ _ _;refine ck ?_;show wpAny _ _ (ret Value.none) _ _ _;refine ck (jg rfl h' K rfl f λb o D e=>?_);have S:b≠s.heap.objs.size:=im D
     have T:b≠(s.heap.push (lC (! jo w))).objs.size:=by rw[me];exact im (Nat.lt_succ_of_lt D)
     exact G.heap b o (by simp only [gB,gz,mf,or_false,not_or];exact⟨S,T⟩) (fS _ (fS _ e))
   ·cases r₂ with
    |error e=>exact a
    |ok fl₂=>
     cases fl₂ with
     |ret r=>
      refine iX a ?_;clear a;rintro rfl h' tk rfl ⟨f,I⟩
      repeat (any_goals (first|assumption|wp_step))
      exact h _ _ f I
     |_=>exact a.elim
  |_=>exact U.elim
theorem lZ:Slot "set_iterator" "__next__" "set_iterator.__next__" :=
 .of (owner:="set_iterator") (n:="__next__") (by rw[typeLookup_type,builtinLookup_eq_fast];kernel_rfl) (by decide+kernel) (by decide+kernel) (by decide+kernel)
  (by first|exact .inl (by decide+kernel)|exact .inr (by decide+kernel)) (by rw[isSubtype_type];kernel_rfl)
theorem sI:Slot "set_iterator" "__iter__" "set_iterator.__iter__" :=
 .of (owner:="set_iterator") (n:="__iter__") (by rw[typeLookup_type,builtinLookup_eq_fast];kernel_rfl) (by decide+kernel) (by decide+kernel) (by decide+kernel)
  (by first|exact .inl (by decide+kernel)|exact .inr (by decide+kernel)) (by rw[isSubtype_type];kernel_rfl)
theorem sN:entryFor table "set_iterator.__next__"=some Builtin.«set_iterator.__next__»:=entryFor_of_fast (by kernel_rfl)
theorem Aw:entryFor table "set_iterator.__iter__"=some Builtin.«dict_keyiterator.__iter__»:=entryFor_alias (id':="dict_keyiterator.__iter__") (by kernel_rfl) rfl (by decide+kernel) (by kernel_rfl)
theorem sJ(a:zX):argsOk "set_iterator.__next__" ⟨[a],[]⟩:=by unfold argsOk;kernel_rfl
theorem Aq(a:zX):argsOk "set_iterator.__iter__" ⟨[a],[]⟩:=by unfold argsOk;kernel_rfl
theorem Ig:entryFor table "set.__iter__"=some Builtin.«frozenset.__iter__»:=entryFor_alias (id':="frozenset.__iter__") (by kernel_rfl) rfl (by decide+kernel) (by kernel_rfl)
abbrev itO(f:zX)(i:Nat)(S:zW)(n ep:Nat):Obj:={cls:=.type "set_iterator",dict:=none,data:=.fields #[f,.int (i:Nat) 0,.ref S,.int (n:Nat) 0,.int (ep:Nat) 0],slots:=#[]}
theorem GU{a:Source}{Q:Nat->zY->Prop}(b:n≠0)(h:∀i d,i<n->Q i {s with drawn:=d}):wpAny M A (choose a n) Q E s :=λΓ p _=>⟨b,h _ _ (Nat.mod_lt _ (Nat.pos_of_ne_zero b))⟩
theorem uZ{α:Type}:∀{l:List α}{i:Nat}(h:i<l.length),(l[i]::l.eraseIdx i).Perm l
 |x::l,0,_=>.refl _
 |x::l,i+1,h=>by
  have a:i<l.length:=by simpa using h
  exact(List.Perm.swap _ _ _).trans ((uZ a).cons x)
theorem Ai{α:Type}{M:Model}:∀(n:Nat)(xs:List α)(s:zY){Q:List α->zY->Prop},xs.length=n->(∀zs d,zs.Perm xs->Q zs {s with drawn:=d})->wpAny M A (drawOrder n xs) Q E s|0,xs,s,Q,hl,h=>by have:xs=[]:=List.eq_nil_of_length_eq_zero hl;subst this;exact ck (h [] s.drawn (.refl _))|n+1,[],s,Q,hl,h=>by cases hl|n+1,x::xs,s,Q,hl,h=>by unfold drawOrder;refine bc (GU (by simp) λi d a=>?_);rw[gU a];dsimp only;refine bc (Ai n _ _ (by rw[List.length_eraseIdx_of_lt a];simpa using hl) λzs b c=>ck (h _ b ?_));exact(c.cons _).trans (uZ a)
section
variable{It:zW}
theorem qA{Q:Array (Int×zX)->zY->Prop}(c:s.heap.get? S=some o)(a:o.data=.set es ep t)(b:t.fits es.size=true)(h:Q es s):wpAny (model prog w) A (setEntries S) Q E s:=by unfold setEntries;exact bc (wpAny_setState_of c a b (ck h))
theorem EZ{x:zX}{Q:zN->zY->Prop}(a:s.heap.get? It=some (itO (.int (sl:Nat) 0) i S es.size ep))(l:s.heap.get? S=some o)(e:o.data=.set es ep t)(j:t.fits es.size=true)
  (k:∀(A:zZ)(E:zA)(Q:Option (zX×Nat)->zY->Prop),Q (some (x,sl')) s->wpAny (model prog w) A (setNext S sl i ep) Q E s)
  (g:∀h',h'.get? It=some (itO (.int (sl':Nat) 0) (i+1) S es.size ep)->Heap.SameBut It s.heap h'->Q (some x) {s with heap:=h'}):wpAny (model prog w) A (pyNext (.ref It)) Q E s:=by
 have d:s.TypeIs (.ref It) "set_iterator":=(bd _ a rfl);unfold pyNext
 refine bc (wpAny_attempt (lh (name:=Str.ofString "__next__") d lZ
  (jb lZ d sN ?_ (sJ _))))
 show wpAny _ _ (fieldsOf (.ref It)>>=_) _ _ s;unfold fieldsOf;refine bc (bc (wpAny_load a (ck ?_)));show wpAny _ _ (setEntries S>>=_) _ _ s;refine bc (qA l e j ?_);show wpAny _ _ (if ((es.size:Int) !=(es.size:Int))=true then _ else _) _ _ s;rw[bp (by simp)];show wpAny _ _ (setNext S ((sl:Int)).toNat ((i:Int)).toNat ((ep:Int)).toNat>>=_) _ _ s;rw[Int.toNat_natCast,Int.toNat_natCast,Int.toNat_natCast];refine bc (k _ _ _ ?_);dsimp only;refine bc (jV a (by simp) λn m c=>?_);refine bc (jV m (by simp) λh f b=>?_);refine ck (bd x rfl (ck (g h ?_ (c.trans b))));exact f
theorem Dq(g:A.handled=none){Q:zN->zY->Prop}(c:s.heap.get? It=some (itO (.int (sl:Nat) 0) i S es.size ep))(l:s.heap.get? S=some o)(f:o.data=.set es ep t)(j:t.fits es.size=true)
  (k:∀(A:zZ)(E:zA)(Q:Option (zX×Nat)->zY->Prop),Q none s->wpAny (model prog w) A (setNext S sl i ep) Q E s)
  (h:∀h',Heap.ExtBut It s.heap h'->Q none {s with heap:=h'}):wpAny (model prog w) A (pyNext (.ref It)) Q E s:=by
 have e:s.TypeIs (.ref It) "set_iterator":=(bd _ c rfl);unfold pyNext
 refine bc (wpAny_attempt (lh (name:=Str.ofString "__next__") e lZ
  (jb lZ e sN ?_ (sJ _))))
 show wpAny _ _ (fieldsOf (.ref It)>>=_) _ _ s;unfold fieldsOf;refine bc (bc (wpAny_load c (ck ?_)));show wpAny _ _ (setEntries S>>=_) _ _ s;refine bc (qA l f j ?_);show wpAny _ _ (if ((es.size:Int) !=(es.size:Int))=true then _ else _) _ _ s;rw[bp (by simp)];show wpAny _ _ (setNext S ((sl:Int)).toNat ((i:Int)).toNat ((ep:Int)).toNat>>=_) _ _ s;rw[Int.toNat_natCast,Int.toNat_natCast,Int.toNat_natCast];refine bc (k _ _ _ ?_);dsimp only;refine bc (jV c (by simp) λn p d=>?_);show wpAny _ _ (newExc (.type "StopIteration") []>>=_) _ _ _;refine bc ?_;simp only [newExc,newTuple];refine bc (kP ?_ (by size_fits));refine bc (m:=firstArgMember _ _) (wpAny_of_eq (a:=Value.none) (by first|rfl|(simp only [firstArgMember];rfl)) ?_);refine kP ?_ (by size_fits);simp only [raiseNew];refine bc (wpAny_handled ?_);rw[show A.in1.handled=none from g];refine bc (ck (wpAny_throw ?_));refine bc (wpAny_isInstance (T:="StopIteration") (b:=true) (bd _ (gR _ rfl) rfl) isSubtype_stop ?_);exact ck (h _ ((d.extBut.push _).push _))
theorem FG{P:zW}{l:Nat}{x:Int×zX}{Q:zN->zY->Prop}(a:s.heap.get? It=some (itO (.ref P) i S es.size ep))(g:s.heap.get? S=some o)(d:o.data=.set es ep t)(f:t.fits es.size=true)
  (j:s.heap.get? P=some op) (b:op.data=.seq its l) (hi:its[i]?=some (.int (pl:Nat) 0)) (m:es[pl]?=some x)
  (k:∀h',h'.get? It=some (itO (.ref P) (i+1) S es.size ep)->Heap.SameBut It s.heap h'->Q (some x.2) {s with heap:=h'}):wpAny (model prog w) A (pyNext (.ref It)) Q E s:=by
 have e:s.TypeIs (.ref It) "set_iterator":=(bd _ a rfl);unfold pyNext
 refine bc (wpAny_attempt (lh (name:=Str.ofString "__next__") e lZ
  (jb lZ e sN ?_ (sJ _))))
 show wpAny _ _ (fieldsOf (.ref It)>>=_) _ _ s;unfold fieldsOf;refine bc (bc (wpAny_load a (ck ?_)));show wpAny _ _ (setEntries S>>=_) _ _ s;refine bc (qA g d f ?_);show wpAny _ _ (if ((es.size:Int) !=(es.size:Int))=true then _ else _) _ _ s;rw[bp (by simp)];show wpAny _ _ (seqItems? (.ref P)>>=_) _ _ s;refine bc (jL j b ?_);dsimp only;rw[Int.toNat_natCast,hi];dsimp only;show wpAny _ _ (setNextDrawn S ((pl:Int)).toNat ((ep:Int)).toNat>>=_) _ _ s;rw[Int.toNat_natCast,Int.toNat_natCast];unfold setNextDrawn;refine bc (bc (wpAny_setState_of g d f ?_));dsimp only;rw[bp (by simp),m];refine ck ?_;refine bc (jV a (by simp) λh n c=>?_);refine ck (bd x.2 rfl (ck (k h ?_ c)));exact n
theorem EF(j:A.handled=none){P:zW}{Q:zN->zY->Prop}(c:s.heap.get? It=some (itO (.ref P) i S es.size ep))(q:s.heap.get? S=some o)(h:o.data=.set es ep t)(p:t.fits es.size=true)
  (k:s.heap.get? P=some op) (d:op.data=.seq its n) (hi:its[i]?=none)
  (l:∀h',Heap.ExtBut It s.heap h'->Q none {s with heap:=h'}):wpAny (model prog w) A (pyNext (.ref It)) Q E s:=by
 have g:s.TypeIs (.ref It) "set_iterator":=(bd _ c rfl);unfold pyNext
 refine bc (wpAny_attempt (lh (name:=Str.ofString "__next__") g lZ
  (jb lZ g sN ?_ (sJ _))))
 show wpAny _ _ (fieldsOf (.ref It)>>=_) _ _ s;unfold fieldsOf;refine bc (bc (wpAny_load c (ck ?_)));show wpAny _ _ (setEntries S>>=_) _ _ s;refine bc (qA q h p ?_);show wpAny _ _ (if ((es.size:Int) !=(es.size:Int))=true then _ else _) _ _ s;rw[bp (by simp)];show wpAny _ _ (seqItems? (.ref P)>>=_) _ _ s;refine bc (jL k d ?_);dsimp only;rw[Int.toNat_natCast,hi];dsimp only;refine bc (jV c (by simp) λv r e=>?_);refine bc (jV r (by simp) λx u f=>?_);show wpAny _ _ (newExc (.type "StopIteration") []>>=_) _ _ _;refine bc ?_;simp only [newExc,newTuple];refine bc (kP ?_ (by size_fits));refine bc (m:=firstArgMember _ _) (wpAny_of_eq (a:=Value.none) (by first|rfl|(simp only [firstArgMember];rfl)) ?_);refine kP ?_ (by size_fits);simp only [raiseNew];refine bc (wpAny_handled ?_);rw[show A.in1.handled=none from j];refine bc (ck (wpAny_throw ?_));refine bc (wpAny_isInstance (T:="StopIteration") (b:=true) (bd _ (gR _ rfl) rfl) isSubtype_stop ?_);exact ck (l _ (((e.trans f).extBut.push _).push _))
theorem uV[Decidable c]{a b:Sem α}{Q:α->zY->Prop}(d:c)(h:wpAny M A a Q E s):wpAny M A (if c then a else b) Q E s:=by rw[bz d];exact h
theorem uX[Decidable c]{a b:Sem α}{Q:α->zY->Prop}(d:¬c)(h:wpAny M A b Q E s):wpAny M A (if c then a else b) Q E s:=by rw[bp d];exact h
theorem rZ(h:Q (jo w) s):wpAny (model prog w) A setsByText Q E s:=by unfold setsByText;exact bc (wpAny_askSetting (ck h))
theorem yN{α:Type}(next:Nat->Nat):∀(n k:Nat)(a:List α)(b:Array α),a.length=n->(pickOrder.go next n k a b).toList.Perm (b.toList++a)|0,k,a,b,hl=>by have:a=[]:=List.eq_nil_of_length_eq_zero hl;subst this;rw[kQ];exact .refl _|n+1,k,a,b,hl=>by have c:next k%a.length<a.length:=Nat.mod_lt _ (by lia);unfold pickOrder.go;rw[gU c];dsimp only;refine(yN next n (k+1) _ _ (by rw[List.length_eraseIdx_of_lt c];lia)).trans ?_;rw[Array.toList_push,iE];exact List.Perm.append_left _ (uZ c)
def Goes(prog:yB)(w:yD)(A:zZ)(d:zY)(S:zW)(es:Array (Int×zX))(v:zX)(s1:zY):Prop :=
 ∃(It:zW)(e:zQ)(P:Nat->zX->Prop)(St:Nat->zY->Prop),v=.ref It/\WalksS prog w A It e [It] (λa b=>b=a) es.size P St/\St 0 s1/\(∀b∈e,b=S\/d.heap.objs.size<=b)/\d.heap.objs.size<=It/\
  (∀b o,d.heap.get? b=some o->s1.heap.get? b=some o)/\s1.gens=d.gens/\s1.os=d.os/\∀c,ItemsOf P c es.size->c.toList.Perm (es.toList.map (·.2))
theorem uY(h:ItemsOf (λi v=>xs[i]?=some v) acc xs.length):acc.toList=xs:=by
 refine List.ext_getElem? λi=>?_;rw[Array.getElem?_toList];rcases Nat.lt_or_ge i acc.size with c|c
 ·have e:acc[i]?=some acc[i]:=Array.getElem?_eq_getElem c;rw[h.2 i acc[i] e,e]
 ·rw[Array.getElem?_eq_none c,List.getElem?_eq_none (by rw[<-h.1];exact c)]
theorem yI(z:A.handled=none)(l:It≠S)(m:o.data=.set es ep t)(y:t.fits es.size=true){sl:Nat->Nat}(D:xs.length=es.size)
  (n:∀(i:Nat)(s:zY),s.heap.get? S=some o->∀(x:zN),x=xs[i]?->∀(A:zZ)(E:zA)(Q:Option (zX×Nat)->zY->Prop),i<=es.size->Q (x.map λv=>(v,sl (i+1))) s->wpAny (model prog w) A (setNext S (sl i) i ep) Q E s):
  WalksS prog w A It [It,S] [It] (λa b=>b=a) es.size (λi v=>xs[i]?=some v) (λi s=>s.heap.get? It=some (itO (.int (sl i:Nat) 0) i S es.size ep)/\s.heap.get? S=some o) where
 sub:=λb f=>by simp at f;simp[f]
 grefl:=λ_=>rfl
 gtrans:=λa b c B C=>C.trans B
 frame:=λi s p G d _ r=>⟨r It (by simp) _ d.1,r S (by simp) _ d.2⟩
 item:=λi s Q E F d g=>by have h:xs[i]?=some (xs[i]'(by lia)):=gU (by lia);refine EZ d.1 d.2 m y (sl':=sl (i+1)) (x:=xs[i]'(by lia)) (λA E Q q=>n i s d.2 _ h.symm A E Q (by lia) q) λp k u=>?_;exact g _ _ h ⟨k,(u.2 S (Ne.symm l)).trans d.2⟩ ⟨λb o f e=>(u.2 b (by simpa using f)).trans e,rfl,rfl,rfl,fH _⟩
 done:=λs Q E d g=>by have h:xs[es.size]?=none:=List.getElem?_eq_none (by lia);refine Dq z d.1 d.2 m y (λA E Q q=>n es.size s d.2 none h.symm A E Q (fH _) q) λp k=>?_;exact g _ ⟨λb o f e=>k b o (by simpa using f) e,rfl,rfl,rfl,fH _⟩
 self:=λi s Q E d g=>by have j:s.TypeIs (.ref It) "set_iterator":=(bd _ d.1 rfl);refine wpAny_pyIter_slot j sI (jb sI j Aw ?_ (Aq _));exact ck (fZ _ rfl "set_iterator" _ j lZ.lookup g)
theorem FJ(I:A.handled=none){P:zW}(u:It≠S)(C:It≠P)(D:o.data=.set es ep t)(F:t.fits es.size=true)(k:op.data=.seq (zs.map λ(i:Nat)=>rawInt i).toArray L)(hz:zs.Perm (List.range es.size)):
  WalksS prog w A It [It,S,P] [It] (λa b=>b=a) es.size (λi v=>(zs.filterMap λj=>es[j]?.map (·.2))[i]?=some v) (λi s=>s.heap.get? It=some (itO (.ref P) i S es.size ep)/\s.heap.get? S=some o/\s.heap.get? P=some op):=by
 have R:zs.length=es.size:=by rw[hz.length_eq,List.length_range]
 have f:∀j∈zs,j<es.size:=λj n=>List.mem_range.mp (hz.mem_iff.mp n)
 have H:∀(zs:List Nat),(∀j∈zs,j<es.size)->∀(i j:Nat),zs[i]?=some j->∃x,es[j]?=some x/\(zs.filterMap λj=>es[j]?.map (·.2))[i]?=some x.2:=λzs=>by
  induction zs with
  |nil=>intro _ i j h;simp at h
  |cons z zs ih=>
   intro f i j h;have q:z<es.size:=f z jG;have hz:es[z]?=some es[z]:=Array.getElem?_eq_getElem q
   have e:((z::zs).filterMap λj=>es[j]?.map (·.2))=es[z].2::zs.filterMap λj=>es[j]?.map (·.2):=by rw[List.filterMap_cons,hz];rfl
   rw[e]
   cases i with
   |zero=>simp at h;subst h;exact bd _ hz rfl
   |succ i=>exact ih (λj n=>f j (jD _ n)) i j (by simpa using h)
 exact {
  sub:=λb g=>by simp at g;simp[g]
  grefl:=λ_=>rfl
  gtrans:=λa b c K N=>N.trans K
  frame:=λi s G O d _ B=>(fL (B It (by simp) _ d.1) (B S (by simp) _ d.2.1) (B P (by simp) _ d.2.2))
  item:=λi s Q E T d l=>by have m:zs[i]?=some (zs[i]'(by lia)):=gU (by lia);obtain⟨x,J,M⟩:=H zs f i _ m;refine FG d.1 d.2.1 D F d.2.2 k (pl:=zs[i]'(by lia)) (x:=x) (by rw[List.getElem?_toArray,ju,m];rfl) J λG r y=>?_;exact l _ _ M (fL r ((y.2 S (Ne.symm u)).trans d.2.1) ((y.2 P (Ne.symm C)).trans d.2.2)) ⟨λb o g e=>(y.2 b (by simpa using g)).trans e,rfl,rfl,rfl,fH _⟩
  done:=λs Q E d l=>by refine EF I d.1 d.2.1 D F d.2.2 k (by rw[List.getElem?_toArray];exact List.getElem?_eq_none (by rw[eA];lia)) λG r=>?_;exact l _ ⟨λb o g e=>r b o (by simpa using g) e,rfl,rfl,rfl,fH _⟩
  self:=λi s Q E d l=>by
   have p:s.TypeIs (.ref It) "set_iterator":=(bd _ d.1 rfl);refine wpAny_pyIter_slot p sI (jb sI p Aw ?_ (Aq _))
   exact ck (fZ _ rfl "set_iterator" _ p lZ.lookup l)}
end
section
variable{It:zW}
theorem EW(b:jo w=true)(d:o.data=.set es ep t)(c:t.fits es.size=true)(i:Nat)(s:zY)(e:s.heap.get? S=some o)(x:zN)(f:x=((pickOrder (w.params.setOrder S ep) es).toList.map (·.2))[i]?)(A:zZ)(E:zA)(Q:Option (zX×Nat)->zY->Prop)(a:Q (x.map λv=>(v,0)) s):wpAny (model prog w) A (setNext S 0 i ep) Q E s:=by unfold setNext;refine bc (wpAny_setState_of e d c ?_);refine bc (rZ ?_);rw[b];simp only [if_true];rw[bp (by simp)];unfold setWalk;refine bc (bc (wpAny_setState_of e d c ?_));refine bc (rZ ?_);rw[b];simp only [if_true];refine bc (wpAny_askSetting (ck (ck ?_)));rw[f]at a;rw[ju,Array.getElem?_toList,Option.map_map]at a;exact a
theorem wx(j:Nat):SetTable.below #[j] 0=0/\SetTable.below #[j] (j+1)=1:=by
 refine⟨?_,?_⟩
 ·unfold SetTable.below SetTable.below.go;simp[SetTable.below.go]
 ·unfold SetTable.below SetTable.below.go;simp[SetTable.below.go]
theorem DM(y:jo w=false)(N:B5b prog w s.heap S sh (! jo w) o es ep t m ks)(h1:es.size<=1):∃sl:Nat->Nat,sl 0=0/\∀(i:Nat)(s:zY),s.heap.get? S=some o->∀(x:zN),x=(es.toList.map (·.2))[i]?->∀(A:zZ)(E:zA)(Q:Option (zX×Nat)->zY->Prop),i<=es.size->Q (x.map λv=>(v,sl (i+1))) s->wpAny (model prog w) A (setNext S (sl i) i ep) Q E s:=by
 have F:=N.hd;have I:=N.fits;have l:t.led=true:=by rw[N.led,y];rfl
 have r:=N.tb.pl;have u:=N.sz
 have b:∀(i a:Nat)(s:zY),s.heap.get? S=some o->∀(A:zZ)(E:zA)(Q:Option (zX×Nat)->zY->Prop),Q (match es[SetTable.below t.place a]?,t.place[SetTable.below t.place a]? with
   |some (_,x),some j=>some (x,j+1)
   |_,_=>none) s->wpAny (model prog w) A (setNext S a i ep) Q E s:=λi a s n A E Q q=>by
  unfold setNext;refine bc (wpAny_setState_of n F I ?_);refine bc (rZ ?_);rw[y];simp only [Bool.false_eq_true,if_false]
  refine uX (show¬((! t.plain&&decide (es.size>1))=true) from by rw[gK (by lia),Bool.and_false];exact gL) ?_
  refine bc (show wpAny _ _ (if (! t.led&& ! es.isEmpty)=true then unsupported "set:maker-not-led" else pure ()) _ _ _ from uX (by rw[l];simp) (ck ?_));exact ck q
 rcases Nat.lt_or_ge es.size 1 with c|c
 ·have H:es=#[]:=Array.eq_empty_of_size_eq_zero (by lia);refine bd (λ_=>0) rfl λi s n x f A E Q D g=>b i 0 s n A E Q ?_;subst H;rw[f]at g
  simpa using g
 ·have z:es.size=1:=by lia
  have p:t.place.size=1:=by rw[r,<-u,z]
  have k:∀{α:Type}(xs:Array α),xs.size=1->∃x,xs=#[x]:=λxs h=>by
   have C:xs.toList.length=1:=by rw[Array.length_toList];exact h
   match f:xs.toList,C with
   | [x],_=>exact⟨x,by rw[<-Array.toArray_toList (xs:=xs),f]⟩
  obtain⟨j,G⟩:=k t.place p;obtain⟨e,B⟩:=k es z;refine bd (λi=>if i=0 then 0 else j+1) rfl λi s n x f A E Q D g=>b i _ s n A E Q ?_;rw[G,B];rw[B]at f;rcases Nat.lt_or_ge i 1 with d|d
  ·have:i=0:=by lia
   subst this;dsimp only;rw[bz rfl,(wx j).1];rw[f]at g
   simpa using g
  ·have:i=1:=by lia
   subst this;dsimp only;rw[bp (by decide),(wx j).2];rw[f]at g
   simpa using g
theorem yj{α:Type}:∀l:List α,(List.range l.length).filterMap (λj=>l[j]?)=l| []=>rfl|x::l=>by rw[gZ,List.range_succ_eq_map,List.filterMap_cons];show x::_=_;rw[List.filterMap_map];exact congrArg _ (yj l)
theorem Ee(B:A.handled=none)(N:B5b prog w s.heap S sh (! jo w) o es ep t m ks){Q:zA}(h:∀v s1,Goes prog w A s S es v s1->Q v s1):wpAny (model prog w) A (pyIter (.ref S)) Q E s:=by
 have G:s.TypeIs (.ref S) "set":=(bd _ N.ho N.ex.1);have D:=fW N.ho;refine wpAny_pyIter_slot G PySem.F.slot_set_iter (jb PySem.F.slot_set_iter G Ig ?_ (PySem.F.args_set_iter_1 _));show wpAny _ _ (Builtin.Frozenset.sizeOf S>>=_) _ _ s;unfold Builtin.Frozenset.sizeOf;refine bc (bc (qA N.ho N.hd N.fits (ck ?_)));unfold setDrawn;refine bc (bc (wpAny_setState_of N.ho N.hd N.fits ?_));refine bc (rZ (ck ?_));dsimp only
 cases c:jo w with
 |true=>
  simp only [Bool.not_true,Bool.false_and,Bool.false_eq_true,if_false];refine bc (ck ?_);refine bc (wpAny_setEpoch_of N.ho N.hd N.fits ?_);refine bc (kP (ck (fZ _ rfl "set_iterator" _ (bd _ (gR _ rfl) rfl) lZ.lookup (h _ _ ?_))));have k:=yN (w.params.setOrder S ep) es.size 0 es.toList #[] (Array.length_toList)
  have n:((pickOrder (w.params.setOrder S ep) es).toList.map (·.2)).length=es.size:=by rw[eA];exact k.length_eq.trans (by simp)
  refine hU s.heap.objs.size [s.heap.objs.size,S] _ _ rfl (yI B (jm D) N.hd N.fits (sl:=λ_=>0) n (λi s J x H A E Q _ q=>EW c N.hd N.fits i s J x H A E Q q)) ⟨gR _ rfl,fS _ N.ho⟩ (λb c=>?_) (iV (fH _) (λb o e=>fS _ e) rfl rfl λr f=>?_)
  ·rcases gB.mp c with z|z
   ·exact .inr (Nat.le_of_eq z.symm)
   ·exact .inl (gz.mp z)
  ·rw[<-n]at f;rw[uY f];refine List.Perm.map _ (k.trans ?_);simp
 |false=>
  by_cases h1:es.size<=1
  ·refine uX (show¬((! false&&(! t.plain&&decide (es.size>1)))=true) from by
    rw[gK (by lia),Bool.and_false];exact gL) (bc (ck ?_))
   refine bc (wpAny_setEpoch_of N.ho N.hd N.fits ?_);refine bc (kP (ck (fZ _ rfl "set_iterator" _ (bd _ (gR _ rfl) rfl) lZ.lookup (h _ _ ?_))));obtain⟨sl,M,K⟩:=DM c N h1;have u:(es.toList.map (·.2)).length=es.size:=by simp
   refine hU s.heap.objs.size [s.heap.objs.size,S] _ _ rfl (yI B (jm D) N.hd N.fits (sl:=sl) u K) ⟨by rw[M];exact gR _ rfl,fS _ N.ho⟩ (λb c=>?_) (iV (fH _) (λb o e=>fS _ e) rfl rfl λr f=>?_)
   ·rcases gB.mp c with z|z
    ·exact .inr (Nat.le_of_eq z.symm)
    ·exact .inl (gz.mp z)
   ·rw[<-u]at f;rw[uY f]
  ·have C:=N.pln (by lia)
   refine uV (show(! false&&(! t.plain&&decide (es.size>1)))=true from by rw[iY (by lia),C];rfl) ?_
   refine bc (Ai es.size (List.range es.size) s (by simp) λg d y=>?_);have L:g.length=es.size:=by rw[y.length_eq];simp
   have O:=N.le;refine bc (wpAny_newTuple ?_ (by rw[eA,L,sizeLine_eq];lia));have p:=fS (seqObj "tuple" (g.map λ(i:Nat)=>rawInt i).toArray 0) N.ho;refine bc (wpAny_setEpoch_of p N.hd N.fits ?_);refine bc (kP (ck (fZ _ rfl "set_iterator" _ (bd _ (gR _ rfl) rfl) lZ.lookup (h _ _ ?_))));have I:(s.heap.push (seqObj "tuple" (g.map λ(i:Nat)=>rawInt i).toArray 0)).get? s.heap.objs.size=some (seqObj "tuple" (g.map λ(i:Nat)=>rawInt i).toArray 0):=gR _ rfl;have a:(s.heap.push (seqObj "tuple" (g.map λ(i:Nat)=>rawInt i).toArray 0)).objs.size=s.heap.objs.size+1:=size_push' _ _;refine hU _ [_,S,s.heap.objs.size] _ _ rfl (FJ B (P:=s.heap.objs.size) (by rw[a];exact jm (Nat.lt_succ_of_lt D)) (by rw[a];exact jm (Nat.lt_succ_self _)) N.hd N.fits rfl y) (fL (gR _ rfl) (fS _ p) (fS _ I)) (λb c=>?_) (iV (by rw[a];lia) (λb o e=>fS _ (fS _ e)) rfl rfl λr f=>?_)
   ·rcases gB.mp c with z|z
    ·exact .inr (by rw[z,a];lia)
    ·rcases gB.mp z with z|z
     ·exact .inl z
     ·exact .inr (Nat.le_of_eq (gz.mp z).symm)
   ·have l:(g.filterMap λj=>es[j]?.map (·.2)).Perm (es.toList.map (·.2)):=by
     refine(y.filterMap _).trans ?_;rw[<-List.map_filterMap];refine List.Perm.map _ ?_;have:=yj es.toList;rw[Array.length_toList]at this;simp only [Array.getElem?_toList]at this;rw[this]
    have u:(g.filterMap λj=>es[j]?.map (·.2)).length=es.size:=by rw[l.length_eq];simp
    rw[<-u]at f;rw[uY f];exact l
theorem GE:isSubtype (.type "set") (.type "set")=pure true:=by rw[isSubtype_type];kernel_rfl
theorem HP:splitId "set.__len__"=some ("set","__len__"):=by kernel_rfl
theorem GB(M:A.handled=none)(N:B5b prog w s.heap S sh (! jo w) o es ep t m ks){Q:zH->zY->Prop}
  (U:∀(xs:zH)(s':zY),xs.Perm (es.toList.map (·.2))->(∀b o,s.heap.get? b=some o->s'.heap.get? b=some o)->s'.gens=s.gens->s'.os=s.os->Q xs s'):wpAny (model prog w) A (collect (.ref S)) Q E s:=by
 have Z:s.TypeIs (.ref S) "set":=(bd _ N.ho N.ex.1);have i:=fW N.ho;unfold collect;refine bc (wpAny_runValue (codeAny_builtin F.entry_proto_collect ?_));rw[Around.under_plainId F.plain_proto_collect _];show wpAny _ A.in1 (newList []>>=λl=>again (.builtin "list.__iadd__" ⟨[l,.ref S],[]⟩)) _ _ s;refine bc (kP ?_);refine ck ⟨plainId_quiet F.plain_list_iadd _,codeAny_builtin F.entry_list_iadd ?_⟩;rw[Around.under_plainId F.plain_list_iadd _];show wpAny _ A.in1 (Builtin.List.listExtendWith (.ref s.heap.objs.size) (.ref S) (.ref s.heap.objs.size)) _ _ _;unfold Builtin.List.listExtendWith;have x:∀b ob,s.heap.get? b=some ob->(s.heap.push {cls:=.type "list",data:=.seq ([]:zH).toArray}).get? b=some ob:=λb ob e=>fS _ e;have r:(s.heap.push {cls:=.type "list",data:=.seq ([]:zH).toArray}).get? s.heap.objs.size=some {cls:=.type "list",dict:=none,data:=.seq #[] 0,slots:=#[]}:=gR _ rfl;have a:(s.heap.push {cls:=.type "list",data:=.seq ([]:zH).toArray}).objs.size=s.heap.objs.size+1:=size_push' _ _;have N1:B5b prog w (s.heap.push {cls:=.type "list",data:=.seq ([]:zH).toArray}) S sh (! jo w) o es ep t m ks:=N.keep (x _ _ N.ho) λb ob e _=>x b ob e;generalize hh1:s.heap.push {cls:=.type "list",data:=.seq ([]:zH).toArray}=h1 at x r a N1⊢;have C:Shared.TypeIs {s with heap:=h1} (.ref S) "set":=(bd _ N1.ho N1.ex.1);refine bc (wpAny_typeOf C ?_)
 have O:Builtin.List.listSameRef (.ref s.heap.objs.size) (.ref S)=false:=by have:¬s.heap.objs.size=S:=jm i;simp[Builtin.List.listSameRef,this]
 have R:(Value.type "set"==Value.type "list")=false:=by decide
 have L:(Value.type "set"==Value.type "tuple")=false:=by decide
 simp only [O,R,L,Bool.or_false,Bool.false_eq_true,if_false];refine bc (Ee (A:=A.in1) (s:={s with heap:=h1}) (show A.in1.handled=none from M) N1 λv f J=>?_)
 refine iq J ?_;clear J;rintro It X P St rfl W H p ⟨g,y,I,K,T⟩;dsimp only at p g y I K;have h:f.TypeIs (.ref S) "set":=(bd _ (y _ _ N1.ho) N1.ex.1);have u:=y _ _ r
 have q:s.heap.objs.size∉X:=λz=>by
  rcases p _ z with e|e
  ·exact absurd e (jm i)
  ·rw[a]at e;lia
 refine bc (jC ?_);unfold Builtin.List.listLengthHint;refine bc (wpAny_specialOf h PySem.F.slot_set_len.lookup ?_);dsimp only;rw[HP];dsimp only;refine bc (wpAny_isInstance h GE ?_);simp only [Bool.not_true,Bool.false_eq_true,if_false];refine uV (by decide+kernel) ?_;refine bc (wpAny_typeOf h (ck ?_));refine uV (by decide+kernel) ?_;refine bc (wpAny_rule ?_);refine bc ?_;show wpAny _ A.in1 (updateSeq s.heap.objs.size (·.push .none)>>=λ_=>updateSeq s.heap.objs.size (·.pop)) _ _ _;refine bc (wpAny_updateSeq u rfl ?_);have n:=oY (Obj.mapSeq (·.push Value.none)) u rfl;refine wpAny_updateSeq n rfl ?_;have D:=oY (Obj.mapSeq (·.pop)) n rfl
 have j:∀b ob,b≠s.heap.objs.size->f.heap.get? b=some ob->((f.heap.update s.heap.objs.size (Obj.mapSeq (·.push Value.none))).update s.heap.objs.size (Obj.mapSeq (·.pop))).get? b=some ob :=λb o c e=>(qF _ _ (Ne.symm c)).trans ((qF _ _ (Ne.symm c)).trans e)
 have Y:=N.le
 refine ck ⟨plainId_quiet F.plain_extend_loop _,codeAny_extend_loopS W (by rw[sizeLine_eq];lia) _ q _ es.size 0 _ _ _ rfl (jj _)
  (W.frame 0 f _ f.toks H (fH _) λb c ob e=>j b ob (λz=>q (z▸c)) e) D (ItemsOf.nil P) λs' d c' G B k=>?_⟩
 show wpAny _ A (load s.heap.objs.size>>=_) _ _ s';refine bc (wpAny_load B ?_);refine ck (U d.toList s' (T d k) (λb ob e=>?_) ?_ ?_)
 ·have c:b<s.heap.objs.size:=fW e;refine G.heap b ob (λz=>?_) (j b ob (im c) (y _ _ (x _ _ e)));rcases gB.mp z with z|z
  ·exact absurd z (im c)
  ·rw[gz.mp z]at c;rw[a]at g;exact absurd (jM c (Nat.le_of_succ_le g)) (Nat.lt_irrefl _)
 ·exact(show s'.gens=f.gens from G.gens).trans I
 ·exact(show s'.os=f.os from G.os).trans K
end
open PySem PySem.Spec PyProof.Rows L2 SA
abbrev mh:=Str×List Int
def ltR(a b:mh):Bool:=if a.1=b.1 then gM a.2 b.2 else decide (a.1.cps.toList<b.1.cps.toList)
theorem B8{a b:Str}(h:a.cps.toList=b.cps.toList):a=b:=by
 cases a;cases b
 simp only at h;rw[Array.toList_inj.mp h]
theorem DC(a b:mh)(h:ltR a b=true):ltR b a=false:=by
 unfold ltR at h⊢;by_cases e:a.1=b.1
 ·rw[bz e]at h;rw[bz e.symm];exact qu _ _ h
 ·rw[bp e]at h;rw[bp λz=>e z.symm];exact gK (List.lt_asymm (of_decide_eq_true h))
theorem Bn(x y z:mh)(h1:ltR y x=false)(h2:ltR z y=false):ltR z x=false:=by
 unfold ltR at h1 h2⊢;by_cases e1:y.1=x.1
 ·rw[bz e1]at h1;by_cases e2:z.1=y.1
  ·rw[bz e2]at h2;rw[bz (e2.trans e1)];exact rK _ _ _ h1 h2
  ·rw[bp e2]at h2;rw[bp λq=>e2 (q.trans e1.symm),<-e1];exact h2
 ·rw[bp e1]at h1;have b:=List.not_lt.mp (of_decide_eq_false h1);by_cases e2:z.1=y.1
  ·rw[bp λq=>e1 (e2.symm.trans q),e2];exact h1
  ·rw[bp e2]at h2;have a:=List.not_lt.mp (of_decide_eq_false h2);have c:=List.le_trans b a;by_cases e3:z.1=x.1
   ·rw[e3]at a;exact absurd (B8 (List.le_antisymm a b)) e1
   ·rw[bp e3];exact gK (List.not_lt.mpr c)
def NR(h:yA)(v:zX)(r:mh):Prop:=∃a o c n t b,v=.ref a/\h.get? a=some o/\o.cls=.type "tuple"/\o.data=.seq c n/\c.toList=[.str r.1 t,.ref b]/\A7c h (.ref b) r.2
theorem NR.one{r q:mh}(x:NR h v r)(y:NR h v q):r=q:=by refine kn x ?_;clear x;rintro a o w n t b rfl m z i ⟨j,k⟩;refine kn y ?_;clear y;rintro B u l A C s e c p d ⟨f,g⟩;cases e;rw[m]at c;cases c;rw[i]at d;cases d;rw[j]at f;injection f with e1 e2;injection e1 with e1 _;injection e2 with e2 _;injection e2 with e2;subst e2;exact Prod.ext e1 (k.one g)
open Classical in
noncomputable def kg(h:yA)(v:zX):mh:=if e:∃r,NR h v r then e.choose else ("",[])
theorem qh{r:mh}(x:NR h v r):kg h v=r:=by unfold kg;have e:∃r,NR h v r:=⟨r,x⟩;rw[dif_pos e];exact e.choose_spec.one x
theorem NR.keep{r:mh}(k:∀b o,h.get? b=some o->o.cls=.type "tuple"->h'.get? b=some o)(x:NR h v r):NR h' v r:=by refine kn x ?_;clear x;rintro a o d n t b e g c f ⟨i,j⟩;exact⟨a,(kN o d n t b e (k _ _ g c) c f i (j.keep k))⟩
theorem xU:∀{vs:zH}{h:yA},(∀v∈vs,∃r,NR h v r)->∃fs:zH,PySem.W.KatTups h vs fs/\fs.length=vs.length/\∀v∈fs,∃(x:Str)(t:Tok),v=.str x t
 | [],h,_=>(fJ [] PySem.W.KatTups.nil rfl λv c=>by cases c)
 |k::vs,h,hk=>by
  obtain⟨fs,g,i,f⟩:=xU (vs:=vs) λq l=>hk q (jD _ l);refine ik (hk k (jG)) ?_;rintro r a o s m ⟨t,b,rfl,j,n,d,e,p⟩;refine fJ (.str r.1 t::fs) (PySem.W.KatTups.cons j n d (by rw[<-Array.getElem?_toList,e];rfl) g) (by simp[i]) λv c=>?_;rcases gB.mp c with q|q
  ·exact ij _ _ q
  ·exact f v q
theorem Cw{c:zI}{b:zW}(u:A.units+8<cLine)(k:A7c s.heap (.ref a) c)(r:A7c s.heap (.ref b) d)(h:Q (decide (c=d)) s):wpAny (model prog w) A (eqBool (.ref a) (.ref b)) Q E s:=by
 have f:∀{a:zW}{c:zI},A7c s.heap (.ref a) c->IsTupleKey (gG prog w) s.heap (c.map Sum.inl) a:=λ{a c} q=>by
  refine iq q λv o i n e m p j g=>?_;clear q;cases e;refine gE o i n m p j ?_;generalize i.toList=l at g
  induction g with
  |nil=>exact .nil
  |cons n t _ ih=>exact .cons (Ab prog w n t) ih
 refine wpAny_eqBool_tuple (by lia) (f k) (f r) ?_
 have e:decide (c.map (Sum.inl:Int->Key)=d.map Sum.inl)=decide (c=d):=by
  rw[decide_eq_decide];constructor
  ·intro e;exact(List.map_inj_right λa b q=>by injection q).mp e
  ·intro e;rw[e]
 rw[e];exact h
theorem ER(S:A.units+8<cLine)(B:∀v∈vs,∃r,NR h v r):Ordd prog w A h vs (λx y=>ltR (kg h x) (kg h y)) where
 kind:=λs u Y E Q X=>by
  have k:∀v∈vs,∃r,NR s.heap v r:=λv j=>by obtain⟨r,q⟩:=B v j;exact⟨r,q.keep u⟩
  obtain⟨fs,U,f2,K⟩:=xU k;refine PySem.W.kat_kind (T:=.type "str") U (by lia) (λv j=>?_) rfl ?_
  ·obtain⟨x,t,rfl⟩:=K v j;exact .now
  rw[show(Value.type "str" != Value.type "tuple")=true from rfl];refine X _ {tr:=λx y z _ _ _=>Bn _ _ _,asym:=λx y _ _=>DC _ _,ask:=λx y L O E Q q=>?_};obtain⟨r,F⟩:=B _ L;obtain⟨p,D⟩:=B _ O;rw[qh F,qh D]at q;refine kn (F.keep u) ?_;rintro a o M n t b P N Y R ⟨G,C⟩;refine kn (D.keep u) ?_;rintro a' o' m n' t' b' g f Z l ⟨c,d⟩;rw[P,g];refine PySem.W.kat_lt N R f l ?_;rw[G,c]
  have J:M.size=2/\m.size=2:=by have I:=congrArg List.length G;have H:=congrArg List.length c;rw[Array.length_toList]at I H;exact⟨I,H⟩
  rw[J.1,J.2];rw[List.zip_cons_cons,List.zip_cons_cons];refine PySem.W.kat_cons (wpAny_eqBool_str ?_);unfold ltR at q;by_cases e:r.1=p.1
  ·rw[bz e]at q;rw[iY e];refine PySem.W.kat_yes (PySem.W.kat_cons (Cw S C d ?_));by_cases e2:r.2=p.2
   ·rw[iY e2];refine PySem.W.kat_yes (PySem.W.kat_nil ?_);rw[e2]at q
    have i:gM p.2 p.2=false:=by
     cases z:gM p.2 p.2 with
     |false=>rfl
     |true=>rw[qu _ _ z]at z;cases z
    rw[i]at q;exact q
   ·rw[gK e2];refine PySem.W.kat_no (PySem.W.kat_one _ _ (CY (by lia) C d ?_));exact q
  ·rw[bp e]at q;rw[gK e];exact PySem.W.kat_no (oneLt_str q)
def nkR(r:mh):fP:=[.inl (.inr r.1),.inr (r.2.map Sum.inl)]
theorem nkR_inj{a b:mh}(h:nkR a=nkR b):a=b:=by unfold nkR at h;injection h with h1 h2;injection h1 with h1;injection h1 with h1;injection h2 with h2 _;injection h2 with h2;exact Prod.ext h1 ((List.map_inj_right λa b q=>by injection q).mp h2)
def vOf:zX->V|.ref a=>.ref a|_=>.non
theorem wM{α β:Type}{F:α->β->Prop}{f:α->β}:∀{xs:List α}{ks:List β},Paired F xs ks->(∀x∈xs,∀k,F x k->f x=k)->xs.map f=ks|_,_,.nil,_=>rfl|_,_,.cons r t,h=>by rw[gA,h _ jG _ r,wM t λx a=>h x (jD _ a)]
theorem Bh{r:mh}(x:A1r prog w h (nkR r) a):NR h (.ref a) r:=by
 refine gn x λo d n A z s q=>?_;clear x;generalize hl:d.toList=l at q
 cases q with
 |cons h1 t1=>
  cases t1 with
  |cons h2 t2=>
   cases t2
   rcases lG (show mW (.inr r.1) _=true from h1)with ⟨i,t,e,_⟩|⟨y,t,e,rfl⟩
   ·cases e
   cases e
   obtain⟨b,rfl,u,g,v,k,j,p,f⟩:=h2;refine⟨a,(kN o d n t b rfl A z s hl (hU b u g v rfl k j p ?_))⟩;generalize g.toList=l' at f;generalize hr:r.2=c at f;clear hr
   induction c generalizing l' with
   |nil=>cases f;exact .nil
   |cons m c ih=>
    cases f with
    |cons g1 g2=>
     rcases lG (show mW (.inl m) _=true from g1)with ⟨i,t,e,rfl⟩|⟨y,t,e,rfl⟩
     ·cases e
      exact .cons _ _ (ih _ g2)
     ·cases e
theorem Hb{f:α->β}{l:List α}(h:(l.map f).Nodup):l.Nodup:=by rw[List.Nodup,List.pairwise_map]at h;exact h.imp λa e=>a (by rw[e])
section
variable{k:Nat}
theorem B5(I:Inv X pins Z H s)(k:∀b o,s.heap.get? b=some o->s'.heap.get? b=some o)(a:s'.gens=s.gens)(c:s'.os=s.os):Inv X pins Z H s':=by have I1:=I.kept (h':=s'.heap) (t':=s'.toks) k;exact⟨I1.ok,by rw[c];exact I1.os,by rw[a];exact I1.bare,I1.base,I1.loc,I1.cell,I1.free,I1.freeC,I1.pin,I1.hok,I1.len⟩
def xZ(K:Frag):zM->Hp->VK->Prop:=λe H Q=>∃(p:zW)(c:zM)(a:V->mh),e=[.ref p]/\SqL K H p c/\c.length<=4/\(∀y∈c,∃b,y=.ref b/\A2m H (nkR (a y)) b)/\
 ∀d,d.length<=4->(∀z∈d,z∈c)->(d.map a).Nodup->(∀y∈c,a y∈d.map a)->∀l,H l=none->Q (.ref l) (upd H l (.lst d))
theorem D9:bootBuiltins "set"=some (.type "set"):=by decide+kernel
theorem Ge{xs:zM}{Q:VK}(E:A7s (k+2) X.A)(I:Inv X pins Z H s)(rx:A3b xs us)(h:xZ X.K xs H Q):
  wpAny (model X.prog X.w) X.A (call (.type "set") us) (λu s1=>wpAny (model X.prog X.w) X.A (call (.builtin "sorted") [u]) (EP X pins Z Q) X.xe s1) X.xe s:=by
 refine gn h ?_;clear h;rintro p g key rfl hq h4 ⟨ht,q⟩;obtain⟨u,rfl,ru⟩:=mq rx;cases ru;obtain⟨x,rv,pl,R⟩:=I.list hq;have r:=rv.length;have un:=E.un
 have n:∀i,i<x.toArray.size->∃b,g[i]?=some (.ref b)/\x[i]?=some (.ref b)/\A2m H (nkR (key (.ref b))) b:=λi f=>by
  have G:i<g.length:=by rw[r];simpa using f
  have e:g[i]?=some g[i]:=gU G;obtain⟨b,C,d⟩:=ht _ (List.getElem_mem G);obtain⟨v,c,J⟩:=rv.get e;rw[C]at J e d;cases J;exact fJ b e c d
 refine Es (sh:=[true,false]) (key:=λi=>match g[i]? with|some y=>nkR (key y)|none=>[]) (adr:=λi=>match g[i]? with|some (.ref b)=>b|_=>0) E.hd (by lia) pl.isList (λi v c=>?_) (by rw[iL,<-r];exact h4) (λi f=>?_) λh' tk hH L=>?_
 ·rw[List.getElem?_toArray]at c;have f:i<x.toArray.size:=by rw[iL];exact(fY.mp c).1
  obtain⟨b,D,U,_⟩:=n i f;rw[U]at c;rw[D];exact(iO c).symm
 ·obtain⟨b,D,U,d⟩:=n i f;simp only [D];exact fL (ij _ _ rfl) rfl (d.is I.hok)
 refine ik hH ?_;clear hH;rintro o es ep t m ⟨ks,N,c1,c2,c3⟩;have B:∀b o,s.heap.get? b=some o->h'.get? b=some o:=λb o e=>L b o (fW e) e;have I1:=I.kept (h':=h') (t':=tk) B
 have M:∀e∈es.toList,∃b,e.2=.ref b/\V.ref b∈g/\A1r X.prog X.w h' (nkR (key (.ref b))) b:=λe F=>by obtain⟨j,hj,ej⟩:=c3 e F;obtain⟨b,D,U,d⟩:=n j hj;dsimp only at ej;rw[D]at ej;exact fJ b ej (gq D) (d.is I1.hok)
 have W:(es.toList.map λe=>nkR (key (vOf e.2)))=ks:=wM N.ok λe F k hk=>by obtain⟨b,C,_,d⟩:=M e F;obtain⟨a,ea,_,ha⟩:=hk;rw[ea]at C⊢;cases C;exact d.inj ha
 refine Calls.call_function_entry kind_sorted plain_sorted entry_sorted (args_sorted1 _) ?_;unfold Builtin.«sorted»;refine bc (m:=checkCount "sorted" 1 1 _) (ck ?_);refine bc (GB (s:={s with heap:=h',toks:=tk}) (show X.A.in1.handled=none from E.hd) N λxs s' P k2 g2 o2=>?_)
 have I2:Inv X pins Z H s':=B5 I1 k2 g2 o2
 have Y:∀v∈xs,∃b,v=.ref b/\V.ref b∈g/\A1r X.prog X.w s'.heap (nkR (key (.ref b))) b:=λv c=>by obtain⟨e,F,rfl⟩:=gY.mp (P.mem_iff.mp c);obtain⟨b,C,T,d⟩:=M e F;exact fJ b C T (qx (λb o e _=>k2 b o e) d)
 have a0:A3b (xs.map vOf) xs:=by
  have:∀l:zH,(∀v∈l,∃b,v=.ref b)->A3b (l.map vOf) l:=λl=>by
   induction l with
   |nil=>intro _;exact .nil
   |cons v l ih=>intro h;obtain⟨b,rfl⟩:=h v jG;exact .cons rfl (ih λu hu=>h u (jD _ hu))
  exact this xs λv c=>by obtain⟨b,e,_⟩:=Y v c;exact⟨b,e⟩
 have lx:(xs.map vOf).length<=sizeLine:=by
  rw[eA,P.length_eq,eA,Array.length_toList,sizeLine_eq];have:=N.le
  lia
 refine z7 I2 a0 lx (ER (by show X.A.units+1+1+8<cLine;lia) λv c=>?_) λO s3 l a1 I3 hl S rz p2=>(fZ _ rfl (.ref l) _ I3 rfl (q O (by rw[S.length_eq,eA,P.length_eq,eA,Array.length_toList];exact N.le) ?_ ?_ ?_ l hl))
 ·obtain⟨b,rfl,_,d⟩:=Y v c;exact⟨_,Bh d⟩
 ·intro z R;obtain⟨v,c,rfl⟩:=gY.mp (S.mem_iff.mp R);obtain⟨b,rfl,T,_⟩:=Y v c;exact T
 all_goals
  have pk:(O.map λz=>nkR (key z)).Perm ks:=by refine(S.map _).trans ?_;rw[List.map_map];refine(P.map _).trans ?_;rw[List.map_map];exact List.Perm.of_eq W
 ·have nd:(O.map λz=>nkR (key z)).Nodup:=pk.nodup_iff.mpr N.nd;have e:(O.map λz=>nkR (key z))=(O.map key).map nkR:=by rw[List.map_map];rfl
  rw[e]at nd;exact Hb nd
 ·intro y hy;obtain⟨i,f⟩:=List.getElem?_of_mem hy;have hk:nkR (key y)∈ks:=(c2 _).mpr (bd i (by rw[iL,<-r];exact(fY.mp f).1) (by dsimp only;rw[f]));obtain⟨z,R,ez⟩:=gY.mp (pk.mem_iff.mpr hk);rw[<-nkR_inj ez];exact gY.mpr (bd z R rfl)
theorem pe_sortedSet{t:TA}{a:Pos}(n:A7s (k+2) X.A)(v:Gl X "sorted")(r:X.mg "sorted"=none)(i:Gl X "set")(f:X.mg "set"=none)(w:PA X [e] t)
  (o:starEach [e] X.env=(false,eval e X.env)::starEach [] X.env:=by rfl) (g:(backTo a (starEach [] X.env)).any (·.1)=false:=by rfl)
  (d:starEach [.Call (.Name "set" p2) [e] [] a] X.env=(false,eval (.Call (.Name "set" p2) [e] [] a) X.env)::starEach [] X.env:=by rfl) (b:(backTo pos (starEach [] X.env)).any (·.1)=false:=by rfl):
  PE X (.Call (.Name "sorted" p) [.Call (.Name "set" p2) [e] [] a] [] pos) (tCB (xZ X.K) t):=by
 intro c s Z H Q I h;refine wpAny_Call_Name_kw (mM I v r L2.B1h ?_);refine PyProof.Rows.callWith_builtin1 ?_ d b;rw[d];show wpAny _ _ (spliced ((false,eval (.Call (.Name "set" p2) [e] [] a) X.env)::backTo pos (starEach [] X.env))) _ _ s;refine Calls.spliced_cons ?_;refine wpAny_Call_Name_kw (mM I i f D9 ?_);refine PyProof.Rows.callWith_type1 (thn (w a c s Z H _ I h) ?_) o g;refine λB x j=>fO j λz C I1 m q=>?_;clear j;refine thn (Ge n I1 m q) λu y l=>?_;exact Calls.spliced_nil l
end
end SN
namespace L2
open PySem PySem.Spec PyProof.Rows
section
variable{X:Cx}
theorem Ed(hu:X.A.units+64<cLine):OpR X (compareOp .Eq) (λx y H Q=>∃(a b:zW)(kvs:zJ),x=.ref a/\y=.ref b/\H a=some (.dK kvs)/\H b=some (.dK [])/\Q (.bl (decide (kvs=[]))) H):=by
 intro t s Z H x y v u Q I P M h;refine gn h ?_;clear h;rintro a b kvs rfl rfl J ⟨U,q⟩;cases P;cases M;obtain⟨z1,sa,vas,ra,da⟩:kvs.length<=sizeLine/\(a==sysModules)=false/\∃vs,KV kvs vs/\s.heap.DictOf (gG X.prog X.w) a vs:=I.hok a _ J;obtain⟨z2,sb,vbs,rb,db⟩:([]:zJ).length<=sizeLine/\(b==sysModules)=false/\∃vs,KV [] vs/\s.heap.DictOf (gG X.prog X.w) b vs:=I.hok b _ U;have i:=da.typeIs (s:=s);have D:=db.typeIs (s:=s);refine gn da ?_;clear da;rintro E o ep e _ f ⟨N,p,L⟩;refine gn db ?_;clear db;rintro ob c R j _ m ⟨Y,r,S⟩;have K:vas.length=o.size:=by rw[<-p.length];exact Array.length_toList
 have O:vbs.length=c.size:=by rw[<-r.length];exact Array.length_toList
 have G:kvs.length=vas.length:=ra.length;have l2:0=vbs.length:=rb.length;have W:c.size=0:=by lia
 have n:∀(C:String)(k:Bool->zY->Prop)(z:zA)(A:zZ),k (decide (kvs=[])) s->wpAny (model X.prog X.w) A (Builtin.Dict.samePairs C a b) k z s:=λC k z A g=>by
  unfold Builtin.Dict.samePairs Builtin.Dict.showsAll;rw[bp (show¬(a==sysModules)=true by rw[sa];exact gL),bp (show¬(b==sysModules)=true by rw[sb];exact gL)];refine bc (ck (bc (ck ?_)));refine bc (wpAny_dictEntries e f ?_);dsimp only;refine bc (wpAny_dictEntries j m ?_);by_cases hk:kvs=[]
  ·rw[iY hk]at g;have d:o.size=0:=by rw[hk]at G;simp at G;lia
   rw[bp (by rw[W,d];simp)];refine bc (wpAny_dictEpoch e f ?_);refine bc ?_;rw[Std.Legacy.Range.forIn_eq_forIn_range'];simp only [Std.Legacy.Range.size,Nat.sub_zero,Nat.add_sub_cancel,Nat.div_one];rw[d];exact ck (ck g)
  ·rw[gK hk]at g;have B:0<kvs.length:=List.length_pos_iff.mpr hk;have l:(o.size != c.size)=true:=by rw[bne_iff_ne];lia
   rw[bz l];exact bc (wpAny_rule (ck g))
 show wpAny _ _ (richCompare .Eq (.ref a) (.ref b)) _ _ s;refine wpAny_richCompare_same_room (op:=.Eq) i D PySem.F.slot_dict_eq (jb PySem.F.slot_dict_eq i PySem.F.entry_dict_eq ?_ (PySem.F.args_dict_eq_2 _ _)) (by lia);show wpAny _ _ (Builtin.Dict.dictSlotArgs "__eq__" ⟨[.ref a,.ref b],[]⟩>>=_) _ _ s;refine bc ?_;unfold Builtin.Dict.dictSlotArgs;refine bc (wpAny_notOrdered_dict i ?_);show wpAny _ _ (pure (Value.ref a,Value.ref b)) _ _ s;refine ck ?_;refine bc (wpAny_isInstance (T:="dict") D PySem.F.sub_dict_dict ?_);simp only [Bool.not_true,Bool.false_eq_true,if_false];refine bc (ck (bc (ck ?_)));refine bc (n _ _ _ _ ?_);refine ck (fJ _ rfl ?_ (ir I q (by simp)));exact λx=>nomatch x
end
structure RS(X:Cx)(sts:List Stmt)(t:TS):Prop where
 r:PSs X sts t
structure R1(X:Cx)(st:Stmt)(t:TS):Prop where
 r:PS X st t
section
variable{X:Cx}{st:Stmt}{rest a b body:List Stmt}{t u tb:TS}{e c:yC}{te:TE}{tc:TT}{pos pos':Pos}
theorem eH(h1:R1 X st t)(h2:RS X rest u):RS X (st::rest) (vv t u):=⟨jT h1.r h2.r⟩
theorem nj(h1:R1 X st t)(h2:RS X rest u):RS X (st::rest) (vH t u):=⟨Dc h1.r h2.r⟩
theorem fm(h1:R1 X st t):RS X [st] t:=⟨nD h1.r⟩
theorem gI(d:PT X c tc)(e:RS X a t)(f:RS X b u):R1 X (.If c a b pos) (vt tc t u):=⟨rc d e.r f.r⟩
theorem fU(a:PE X e te):R1 X (.Return (some e) pos) (vA te):=⟨qa a⟩
theorem fX(i:Nat){x:Str}(d:X.N.Nodup)(c:PE X e te)(hi:X.N[i]?=some x:=by exact rfl)(f:Loc X.env.scope x:=by exact .inl rfl)(b:swapsWith e (some (.Name x pos')) pos.line X.env=pure false:=by exact rfl)(a:X.fn x=true\/X.env.scope.names.lookup x=some .local:=by exact .inl rfl):R1 X (.Assign [.Name x pos'] e pos) (qU te (mY i)):=⟨lR d hi f c b a⟩
theorem ja{tg iter:yC}{wi:TI}{g:TG}(hi:PI X tg iter wi)(e:PG X tg g)(a:RS X body tb)(d:PassesOwn (model X.prog X.w) X.A X.env X.xe:=by exact PassesOwn.never)(c:X.calm=true:=by exact rfl)(b:∀x,foldedSetIterable iter X.env x=pure x:=by intro _;rfl):R1 X (.For tg iter body [] pos) (tf wi g tb):=⟨rA d c hi e a.r b⟩
end
end L2
namespace My
open PySem L2
variable{ix:zL}{e:Rw}{c:zI}{n i:Nat}{cs:List zI}{rows lns:List LnM}{kvs lk:zJ}{x:Str}{v:V}{H H':Hp}{rs:List (Str×List Int)}{A:Adr}{r:Spt}{p f y d l a:zW}{N Kp:List (Int×Int)}{s:StM}{zs:List Spt}{X:Cx}{fd:zS}{ps ys sums BD axs:zC}{es:zB}{pos:Pos}{o:HO}{P:yB}{w:yD}{xs:zM}{T:String}{m:Mrk}{b:Tm}{S:zV}{M M':zQ}{L:List Stp}{sh:List Bool}{cur:Mrk->List Int}{g:Str×Int×Int}{rws:List Rw}{lws:List Lw}{wr:Stp->Spt}{rd':Stp->List Spt}
inductive Op3|plus|minus|times
inductive Tm|num (z:Int)|place (x:Str)|read (a:Str) (ix:zL)|sum (x:Str) (b:Tm)|pair (k:Op3) (l r:Tm)|guard (x:Str) (lo hi:Int) (l r:Tm)
def kS(e:Str×Int):PyData:=.tuple [.str e.1,.int e.2]
def nB(ix:zL):PyData:=.list (ix.map kS)
def dep:Tm->Nat|.sum _ b=>dep b+1|.pair _ l r=>max (dep l) (dep r)+1|.guard _ _ _ l r=>max (dep l) (dep r)+1|_=>1
theorem Df:∀t:Tm,1<=dep t|.num z=>by simp[dep]|.place x=>by simp[dep]|.read a ix=>by simp[dep]|.sum x b=>by simp[dep]|.pair k l r=>by simp[dep]|.guard x lo hi l r=>by simp[dep]
def Axs(A:zC):Tm->Prop|.num _=>True|.place x=>x∈A|.read _ ix=>∀e∈ix,e.1=""\/e.1∈A|.sum x b=>x∈A/\Axs A b|.pair _ l r=>Axs A l/\Axs A r|.guard x _ _ l r=>x∈A/\Axs A l/\Axs A r
theorem DZ:PyData.depth (nB ix)<=2:=by
 have h:∀l:zL,PyData.depthAll (l.map kS)<=1:=by
  intro l
  induction l with
  |nil=>simp[PyData.depthAll]
  |cons e r ih=>simp[kS,PyData.depthAll,PyData.depth]at *;lia
 have:=h ix;simp only [nB,PyData.depth]
 lia
theorem Br:cnt (nB ix)<=1+3*ix.length:=by
 have h:∀l:zL,kD (l.map kS)<=3*l.length:=by
  intro l
  induction l with
  |nil=>simp[kD]
  |cons e r ih=>simp only [kS,kD,cnt,gA,gZ]at *;lia
 have:=h ix;simp only [nB,cnt]
 lia
section
variable{G:Hp}{v:V}
theorem BY{e:Str×Int}(h:Rep G v (kS e)):∃p,v=.ref p/\G p=some (.tup [.str e.1,.int e.2]):=by refine fO (CD (show Rep G v (.tuple [.str e.1,.int e.2]) from h)) ?_;rintro p f rfl q r;refine fO (yV r) ?_;rintro a g rfl d r;refine fO (yV r) ?_;rintro b i rfl c r;cases DQ r;cases CZ d;cases xc c;exact bd p rfl q
end
noncomputable def jv(cs:List zI)(n:Int):List zI:=cs.flatMap λc=>(List.range n.toNat).map λ(k:Nat)=>c++[(k:Int)]
def gu(ls:zI):List zI:=ls.foldl jv [[]]
def iI(ls:zI):Int:=ls.foldl (·* ·) 1
theorem sA(ls:zI)(n:Int):gu (ls++[n])=jv (gu ls) n:=by unfold gu;rw[List.foldl_append];rfl
theorem zf(ls:zI)(n:Int):iI (ls++[n])=iI ls*n:=by unfold iI;rw[List.foldl_append];rfl
theorem vc(cs:List zI)(n:Int):(jv cs n).length=cs.length*n.toNat:=by
 induction cs with
 |nil=>simp[jv]
 |cons c r ih=>
  have:jv (c::r) n=((List.range n.toNat).map λ(k:Nat)=>c++[(k:Int)])++jv r n:=by simp[jv]
  rw[this,gc,ih,eA,List.length_range,gZ,Nat.succ_mul];lia
def Within(c ls:zI):Prop:=c.length=ls.length/\∀(k:Nat)(x n:Int),c[k]?=some x->ls[k]?=some n->0<=x/\x<n
theorem Within.snoc{ls:zI}{n:Int}{k:Nat}(h:Within c ls)(f:(k:Int)<n):Within (c++[(k:Int)]) (ls++[n]):=by
 obtain⟨d,e⟩:=h;refine⟨by simp[d],λi x m a b=>?_⟩;by_cases hi:i<c.length
 ·rw[mG hi]at a;rw[mG (by lia)]at b;exact e i x m a b
 ·have:i=c.length:=by
   have:=(fY.mp a).1;simp at this;lia
  subst this;rw[mH (fH _)]at a;rw[d,mH (fH _)]at b;simp at a b
  lia
theorem En{n:Int}(h:c∈jv cs n):∃b∈cs,∃k:Nat,k<n.toNat/\c=b++[(k:Int)]:=by unfold jv at h;obtain⟨b,a,d⟩:=List.mem_flatMap.mp h;obtain⟨k,f,e⟩:=gY.mp d;exact iJ b a k (List.mem_range.mp f) e.symm
theorem sD:∀(ls:zI),∀c∈gu ls,Within c ls:=by
 intro ls
 have f:∀(m:Nat)(ls:zI),ls.length=m->∀c∈gu ls,Within c ls:=by
  intro m
  induction m with
  |zero=>
   intro ls a c d;have:ls=[]:=nG.mp a;subst this;have:c=[]:=by simpa[gu]using d
   subst this;exact⟨rfl,λk x n h _=>by simp at h⟩
  |succ m ih=>intro ls a c d;obtain⟨init,n,rfl⟩:∃init n,ls=init++[n]:=⟨ls.dropLast,ls.getLast (by intro e;simp[e]at a),(List.dropLast_concat_getLast _).symm⟩;rw[sA]at d;obtain⟨b,g,k,i,rfl⟩:=En d;exact(ih init (by simp at a;lia) b g).snoc (by lia)
 exact f _ ls rfl
theorem oi(ls:zI)(h:∀n∈ls,1<=n):((gu ls).length:Int)=iI ls/\1<=iI ls:=by
 have b:∀(m:Nat)(ls:zI),ls.length=m->(∀n∈ls,1<=n)->((gu ls).length:Int)=iI ls/\1<=iI ls:=by
  intro m
  induction m with
  |zero=>intro ls a _;have:ls=[]:=nG.mp a;subst this;simp[gu,iI]
  |succ m ih=>
   intro ls a c;obtain⟨init,n,rfl⟩:∃init n,ls=init++[n]:=⟨ls.dropLast,ls.getLast (by intro e;simp[e]at a),(List.dropLast_concat_getLast _).symm⟩;obtain⟨g,i⟩:=ih init (by simp at a;lia) λn d=>c n (by simp[d]);have f:1<=n:=c n (by simp);rw[sA,zf,vc];have e:((n.toNat:Nat):Int)=n:=by lia
   refine⟨by rw[Int.natCast_mul,g,e],?_⟩;have:=Int.mul_le_mul i f (by lia) (by lia)
   simpa using this
 exact b _ ls rfl h
structure pR(ls:zI):Prop where
 pos:∀n∈ls,1<=n/\n<=60
 few:ls.length<=8
 most:iI ls<=4000
theorem Ag(ls:zI)(h:∀n∈ls,1<=n)(i:Nat):1<=iI (ls.take i)/\iI (ls.take i)<=iI ls:=by
 have a:=(oi (ls.take i) λn d=>h n (mT d)).2;refine⟨a,?_⟩;have b:=(oi (ls.drop i) λn d=>h n (List.mem_of_mem_drop d)).2
 have c:∀(ys:zI)(x:Int),ys.foldl (·* ·) x=x*iI ys:=by
  intro ys
  induction ys with
  |nil=>intro x;simp[iI]
  |cons y r ih=>intro x;simp only [iI,List.foldl_cons]at ih⊢;rw[ih,ih (1*y),Int.one_mul,Int.mul_assoc]
 have e:iI ls=iI (ls.take i)*iI (ls.drop i):=by have:=c (ls.drop i) (iI (ls.take i));rw[<-this];unfold iI;rw[<-List.foldl_append,np]
 rw[e];have:=Int.mul_le_mul_of_nonneg_left b (show(0:Int)<=iI (ls.take i)by lia)
 simpa using this
theorem AB{ls:zI}{n:Int}(h:ls[i]?=some n):gu (ls.take (i+1))=jv (gu (ls.take i)) n:=by rw[gW,h];exact sA _ _
structure Rw where
 own:zC
 sums:zC
 so:zI
 ss:zI
abbrev Stp:=Int×Str×List Int×List Int
def iR(k:Int)(ss:zI)(c:zI):List Stp:=if ss=[]then [(k,"set",c,[])]else (k,"start",c,[])::(gu ss).map λu=>(k,"add",c,u)
def oR(k:Int)(e:Rw):List Stp:=(gu e.so).flatMap (iR k e.ss)
def lS(rows:List Rw)(k:Nat):List Stp:=match rows[k]? with|some e=>oR k e|none=>[]
def gj(rows:List Rw)(i:Nat):List Stp:=(List.range i).flatMap (lS rows)
theorem vb{rows:List Rw}(h:rows[i]?=some e):gj rows (i+1)=gj rows i++oR i e:=by unfold gj;rw[List.range_succ,List.flatMap_append,List.flatMap_singleton];unfold lS;rw[h]
theorem pE{α β:Type}{f:α->List β}{B:Nat}:∀{l:List α},(∀x∈l,(f x).length<=B)->(l.flatMap f).length<=l.length*B
 | [],_=>by simp
 |x::r,h=>by
  have c:=h x (.head _);have b:=pE (l:=r) λy a=>h y (.tail _ a);rw[List.flatMap_cons,gc,gZ,Nat.add_mul]
  lia
structure C6x(e:Rw):Prop where
 go:pR e.so
 gs:pR e.ss
 po:iI e.so<=60
 ps:iI e.ss<=60
 lo:e.own.length=e.so.length
 ls:e.sums.length=e.ss.length
theorem C6x.cells(h:C6x e):(gu e.so).length<=60/\(gu e.ss).length<=60:=by
 have b:=(oi e.so λn a=>(h.go.pos n a).1).1;have c:=(oi e.ss λn a=>(h.gs.pos n a).1).1;have:=h.po;have:=h.ps
 lia
theorem ul{k:Int}(h:C6x e)(c:zI):(iR k e.ss c).length<=61:=by
 have:=h.cells.2;unfold iR;split
 ·simp
 ·simp;lia
theorem yq{k:Int}(h:C6x e):(oR k e).length<=3660:=by
 have b:=pE (l:=gu e.so) (f:=iR k e.ss) (B:=61) λc _=>ul h c;have a:=h.cells.1;have:(gu e.so).length*61<=60*61:=Nat.mul_le_mul_right _ a;unfold oR
 lia
theorem yQ{k:Int}(h:C6x e)(j:Nat):(((gu e.so).take j).flatMap (iR k e.ss)).length<=3660:=by
 have d:=pE (l:=(gu e.so).take j) (f:=iR k e.ss) (B:=61) λc _=>ul h c;have b:=h.cells.1;have a:((gu e.so).take j).length<=60:=by rw[jd];lia
 have:((gu e.so).take j).length*61<=60*61:=Nat.mul_le_mul_right _ a
 lia
theorem Ei{rows:List Rw}(h:∀e∈rows,C6x e)(i:Nat):(gj rows i).length<=i*3660:=by
 have:=pE (l:=List.range i) (f:=lS rows) (B:=3660) λk _=>by
  unfold lS;split
  ·rename_i e he;exact yq (h e (gq he))
  ·simp
 rw[List.length_range]at this;exact this
def iQ(f:zR)(ix:zL):zI:=ix.map λ(e:Str×Int)=>if e.1=("":Str)then e.2 else f e.1+e.2
def setA(f:zR)(x:Str)(k:Int):zR:=λy=>if y=x then k else f y
def rd(c:zR):Tm->zR->List (Str×List Int)|.num _,_=>[]|.place _,_=>[]|.read a ix,f=>[(a,iQ f ix)]|.sum x b,f=>(List.range (c x).toNat).flatMap λ(k:Nat)=>rd c b (setA f x (k:Int))|.pair _ l r,f=>rd c l f++rd c r f|.guard x lo hi l r,f=>if lo<=f x/\f x<hi then rd c l f else rd c r f
def Fv:Tm->Str->Prop|.num _,_=>False|.place x,y=>y=x|.read _ ix,y=>y≠""/\∃e∈ix,e.1=y|.sum x b,y=>y≠x/\Fv b y|.pair _ l r,y=>Fv l y\/Fv r y|.guard x _ _ l r,y=>y=x\/Fv l y\/Fv r y
def ai(kvs:zJ)(x:Str):Int:=match fN kvs (Sum.inr x)with|some (.int i)=>i|_=>0
theorem ro{i:Int}(h:fN kvs (Sum.inr x)=some (.int i)):ai kvs x=i:=by unfold ai;rw[h]
theorem xC{k:Key}(h:fN kvs k=some v):∃p∈kvs,p.1=k/\p.2=v:=by unfold fN at h;obtain⟨p,a,rfl⟩:=nK.mp h;exact fJ p (List.mem_of_find?_eq_some a) (by simpa using List.find?_some a) rfl
def vJ(kvs:zJ)(t:Tm):Prop:=∀x,Fv t x->fN kvs (Sum.inr x)=some (.int (ai kvs x))
def wa(A:zC)(lk:zJ):Prop:=∀x∈A,fN lk (Sum.inr x)=some (.int (ai lk x))/\1<=ai lk x/\ai lk x<=60
def C8y(H:Hp)(v:V)(e:Str×List Int):Prop:=∃p q,v=.ref p/\H p=some (.tup [.str e.1,.ref q])/\H q=some (.tup (e.2.map V.int))
def Rds(H:Hp):zM->List (Str×List Int)->Prop:=Paired (C8y H)
theorem Rds.keep{vs:zM}(h:Rds H vs rs)(f:∀p xs,H p=some (.tup xs)->H' p=some (.tup xs)):Rds H' vs rs :=Paired.mapP h (by (refine λ_ _ a=>fO a λp q e c b=>?_;clear a);exact fC p q e (f _ _ c) (f _ _ b))
theorem Rds.same{vs:zM}(h:Rds H vs rs)(s:A0k H H'):Rds H' vs rs:=h.keep λ_ _ e=>s _ _ e
theorem Paired.app{α β:Type}{F:α->β->Prop}:∀{a c:List α}{b d:List β},Paired F a b->Paired F c d->Paired F (a++c) (b++d)|_,_,_,_,.nil,h=>h|_,_,_,_,.cons r t,h=>.cons r (Paired.app t h)
abbrev Spt:=Str×List Int
section
variable(wr:Stp->Spt)
def hE(A:List Stp)(r:Spt):zI:=(A.zipIdx.filter λ(p:Stp×Nat)=>decide (wr p.1=r)).map λ(p:Stp×Nat)=>((p.2:Nat):Int)
def lu(A:List Stp)(r:Spt):zI:=(A.zipIdx.filter λ(p:Stp×Nat)=>decide (wr p.1=r)&&decide (p.1.2.1=("start":Str))).map λ(p:Stp×Nat)=>((p.2:Nat):Int)
variable{wr}
theorem nU(A:List Stp)(s:Stp)(r:Spt):hE wr (A++[s]) r=hE wr A r++if wr s=r then [(A.length:Int)]else []:=by
 unfold hE;rw[List.zipIdx_append,List.filter_append,gy];congr 1;by_cases h:wr s=r
 ·rw[bz h];simp[List.zipIdx,h]
 ·rw[bp h];simp[List.zipIdx,h]
theorem qp(A:List Stp)(s:Stp)(r:Spt):lu wr (A++[s]) r=lu wr A r++if wr s=r/\s.2.1="start" then [(A.length:Int)]else []:=by
 unfold lu;rw[List.zipIdx_append,List.filter_append,gy];congr 1;by_cases h:wr s=r
 ·by_cases h2:s.2.1="start"
  ·rw[bz ⟨h,h2⟩];simp[List.zipIdx,h,h2]
  ·rw[bp λz=>h2 z.2];simp[List.zipIdx,h,h2]
 ·rw[bp λz=>h z.1];simp[List.zipIdx,h]
theorem xP:∀(B A:List Stp)(r:Spt),(∀x∈B,wr x≠r)->hE wr (A++B) r=hE wr A r| [],A,r,_=>by rw[kQ]|b::B,A,r,h=>by rw[show A++b::B=(A++[b])++B by simp,xP B _ r λx a=>h x (jD _ a),nU,bp (h b jG),kQ]
theorem uG:∀(B A:List Stp)(r:Spt),(∀x∈B,wr x=r->x.2.1≠"start")->lu wr (A++B) r=lu wr A r| [],A,r,_=>by rw[kQ]|b::B,A,r,h=>by rw[show A++b::B=(A++[b])++B by simp,uG B _ r λx a=>h x (jD _ a),qp,bp λz=>h b jG z.1 z.2,kQ]
theorem yp:∀(B A:List Stp)(r:Spt),∃t,hE wr (A++B) r=hE wr A r++t| [],A,r=>⟨[],by simp⟩|b::B,A,r=>by obtain⟨t,e⟩:=yp B (A++[b]) r;refine⟨(if wr b=r then [(A.length:Int)]else [])++t,?_⟩;rw[show A++b::B=(A++[b])++B by simp,e,nU,iE]
theorem pH(A:List Stp)(r:Spt)(i:Int):i∈hE wr A r↔∃(n:Nat)(s:Stp),i=n/\A[n]?=some s/\wr s=r:=by
 unfold hE;constructor
 ·intro h;obtain⟨p,d,rfl⟩:=gY.mp h;obtain⟨b,a⟩:=List.mem_filter.mp d;have:=List.mem_zipIdx_iff_getElem?.mp b;exact fC p.2 p.1 rfl this (of_decide_eq_true a)
 ·rintro c;refine fO c ?_;clear c;rintro n s rfl b a;exact gY.mpr (bd (s,n) (List.mem_filter.mpr ⟨List.mem_zipIdx_iff_getElem?.mpr b,iY a⟩) rfl)
theorem rS{α:Type}{P:List α->Prop}(h0:P [])(b:∀A s,P A->P (A++[s]))(A:List α):P A:=by
 have:∀n (A:List α),A.length=n->P A:=λn=>by
  induction n with
  |zero=>intro A h;rw[List.eq_nil_of_length_eq_zero h];exact h0
  |succ n ih=>
   intro A h;have a:A≠[]:=λz=>by rw[z]at h;cases h
   rw[<-List.dropLast_concat_getLast a];exact b _ _ (ih _ (by rw[List.length_dropLast,h];rfl))
 exact this _ A rfl
theorem FB(A:List Stp)(r:Spt):(hE wr A r).Nodup:=by
 refine rS (P:=λA=>(hE wr A r).Nodup) List.nodup_nil (λA s c=>?_) A
 ·rw[nU];by_cases h:wr s=r
  ·rw[bz h,ox];refine fL c (by simp) λa g b d=>?_;refine fO ((pH A r a).mp g) ?_;rintro n x rfl f _;have:=(fY.mp f).1;rw[gz.mp d];intro e
   lia
  ·rw[bp h,kQ];exact c
theorem xB{A:List Stp}{i:Int}:i∈lu wr A r->i∈hE wr A r:=by
 refine rS (P:=λA=>i∈lu wr A r->i∈hE wr A r) (λh=>by cases h) (λA s a=>?_) A;rw[nU,qp];intro h;rcases iw.mp h with q|q
 ·exact lL _ (a q)
 ·by_cases z:wr s=r/\s.2.1=("start":Str)
  ·rw[bz z]at q;rw[bz z.1];exact lj _ q
  ·rw[bp z]at q;cases q
variable(wr)(rd:Stp->List Spt)
def qH(A:List Stp)(s:Stp)(p:Int×Int):Prop:=p.2=A.length/\((∃r∈rd s,p.1∈hE wr A r)\/(s.2.1=("add":Str)/\p.1∈lu wr A (wr s)))
def NdS(L:List Stp)(p:Int×Int):Prop:=∃A s B,L=A++s::B/\qH wr rd A s p
variable{wr rd}
theorem zd{α:Type}{A A' B:List α}{s x:α}(h:A++[s]=A'++x::B):(A'=A/\x=s/\B=[])\/∃c,B=c++[s]/\A=A'++x::c:=by
 rcases List.eq_nil_or_concat B with rfl|⟨c,b,rfl⟩
 ·obtain⟨d,a⟩:=List.append_inj' h rfl;injection a with a _;exact .inl (fL d.symm a.symm rfl)
 ·rw[List.concat_eq_append,show A'++x::(c++[b])=(A'++x::c)++[b]by simp]at h;obtain⟨d,a⟩:=List.append_inj' h rfl;injection a with a _;exact .inr (bd c (by rw[List.concat_eq_append,a]) d)
theorem DS(A:List Stp)(s:Stp)(p:Int×Int):NdS wr rd (A++[s]) p↔NdS wr rd A p\/qH wr rd A s p:=by
 constructor
 ·rintro a;refine iN a ?_;clear a;rintro A' x B ⟨e,h⟩;rcases zd e with ⟨rfl,rfl,_⟩|⟨c,_,b⟩
  ·exact .inr h
  ·exact .inl (iC A' x c b h)
 ·rintro(⟨A',x,B,rfl,h⟩|h)
  ·exact iC A' x (B++[s]) (by simp) h
  ·exact iC A s [] rfl h
theorem Bw{A:List Stp}{p:Int×Int}(h:NdS wr rd A p):p.2<A.length:=by
 refine jK h ?_;clear h;rintro A' s B rfl a _;rw[a,gc,gZ]
 lia
structure D4f(wr:Stp->Spt)(rd:Stp->List Spt)(A:List Stp)(N:List (Int×Int)):Prop where
 nd:N.Nodup
 iff:∀p,p∈N↔NdS wr rd A p
def oz(A:List Stp)(s:Stp)(zs:List Spt):List (Int×Int):=(zs.flatMap λr=>(hE wr A r).map λi=>(i,(A.length:Int)))++if s.2.1=("add":Str)then (lu wr A (wr s)).map λi=>(i,(A.length:Int))else []
theorem sH{α β:Type}{f:α->β}(h:∀a b,f a=f b->a=b){l:List α}(n:l.Nodup):(l.map f).Nodup:=by rw[List.Nodup,List.pairwise_map];exact n.imp λc e=>c (h _ _ e)
theorem D4f.step{A:List Stp}(k:D4f wr rd A N){s:Stp}(K:zs.Nodup)(hz:∀r,r∈zs↔r∈rd s)(own:s.2.1=("add":Str)->wr s∉rd s)(J:s.2.1=("add":Str)->(lu wr A (wr s)).Nodup):
  D4f wr rd (A++[s]) (N++oz (wr:=wr) A s zs):=by
 have f:∀a b:Int,(a,(A.length:Int))=(b,(A.length:Int))->a=b:=λa b e=>by injection e
 have F:∀p,p∈oz (wr:=wr) A s zs↔qH wr rd A s p:=λp=>by
  unfold oz qH;rw[iw];constructor
  ·rintro(h|h)
   ·obtain⟨r,o,h⟩:=List.mem_flatMap.mp h;obtain⟨i,c,rfl⟩:=gY.mp h;exact⟨rfl,.inl (bd r ((hz r).mp o) c)⟩
   ·by_cases e:s.2.1=("add":Str)
    ·rw[bz e]at h;obtain⟨i,c,rfl⟩:=gY.mp h;exact⟨rfl,.inr ⟨e,c⟩⟩
    ·rw[bp e]at h;cases h
  ·rintro⟨t,B⟩;obtain⟨D,L⟩:=p;dsimp only at t B;subst t;rcases B with ⟨r,o,c⟩|⟨e,c⟩
   ·exact .inl (List.mem_flatMap.mpr (bd r ((hz r).mpr o) (gY.mpr (bd D c rfl))))
   ·rw[bz e];exact .inr (gY.mpr (bd D c rfl))
 refine⟨?_,λp=>by rw[iw,DS,k.iff p,F p]⟩;rw[ox];refine fL k.nd ?_ λp m q g e=>?_
 ·unfold oz;rw[ox];refine fL ?_ ?_ λp m q g e=>?_
  ·rw[List.Nodup,List.pairwise_flatMap];refine⟨λr _=>sH f (FB A r),K.imp λ{r G} z p m q g e=>?_⟩;obtain⟨i,c,rfl⟩:=gY.mp m;obtain⟨j,u,rfl⟩:=gY.mp g;have:=f _ _ e;subst this;refine fO ((pH A r i).mp c) λn x I v y=>?_;refine fO ((pH A G i).mp u) λC H w d l=>?_;have:n=C:=by lia
   subst this;rw[v]at d;cases d;exact z (y.symm.trans l)
  ·by_cases e:s.2.1=("add":Str)
   ·rw[bz e];exact sH f (J e)
   ·rw[bp e];exact List.nodup_nil
  ·by_cases ea:s.2.1=("add":Str)
   ·rw[bz ea]at g;obtain⟨r,o,m⟩:=List.mem_flatMap.mp m;obtain⟨i,c,rfl⟩:=gY.mp m;obtain⟨j,u,rfl⟩:=gY.mp g;have:=f _ _ e;subst this;refine fO ((pH A r i).mp c) λn x I v y=>?_;refine fO ((pH A _ i).mp (xB u)) λC H w d l=>?_;have:n=C:=by lia
    subst this;rw[v]at d;cases d;exact own ea (by rw[<-l,y];exact(hz r).mp o)
   ·rw[bp ea]at g;cases g
 ·have t:=Bw ((k.iff p).mp m);have B:=((F q).mp g).1;rw[e]at t
  lia
def nS(wr:Stp->Spt)(L:List Stp):Prop:=∀A s B,L=A++s::B->s.2.1=("add":Str)->∃h,lu wr A (wr s)=[h]/\(hE wr A (wr s)).head? =some h
theorem uQ{α β:Type}{f:α->List β}:∀{l:List α}{A B:List β}{s:β},l.flatMap f=A++s::B->∃l1 x l2 A' b,l=l1++x::l2/\f x=A'++s::b/\A=l1.flatMap f++A'
 | [],A,B,s,h=>by simp at h
 |x::l,A,B,s,h=>by
  rw[List.flatMap_cons]at h
  have d:∀e,A=f x++e->l.flatMap f=e++s::B->∃l1 y l2 A' b,x::l=l1++y::l2/\f y=A'++s::b/\A=l1.flatMap f++A':=λe g a=>by refine ik (uQ a) ?_;rintro l1 y l2 A' b ⟨j,k,n⟩;exact ij (x::l1) y (iM l2 A' b (by rw[j];rfl) k (by rw[g,n,List.flatMap_cons,iE]))
  rcases List.append_eq_append_iff.mp h with ⟨e,g,a⟩|⟨i,m,a⟩
  ·exact d e g a
  ·cases i with|nil=>exact d [] (by rw[m];simp) (by simpa using a.symm)|cons c i=>injection a with j k;exact ij [] x (iM l A i rfl (by rw[m,j]) rfl)
theorem Gm(ls:zI):(gu ls).Nodup:=by
 refine rS (P:=λls=>(gu ls).Nodup) (by show([[]]:List zI).Nodup;simp) (λls n h=>?_) ls;rw[sA];unfold jv;rw[List.Nodup,List.pairwise_flatMap];refine⟨λc _=>?_,h.imp λ{c k} d p f q g e=>?_⟩
 ·exact sH (λa b e=>by have:=(List.append_inj' e rfl).2;injection this with this _;exact Int.ofNat.inj this) List.nodup_range
 ·obtain⟨i,_,rfl⟩:=gY.mp f;obtain⟨j,_,rfl⟩:=gY.mp g;exact d (List.append_inj' e rfl).1
theorem sw{k:Int}{ss:zI}{x:Stp}(h:x∈iR k ss c):x.1=k/\x.2.2.1=c:=by
 unfold iR at h;split at h
 ·rw[gz.mp h];exact⟨rfl,rfl⟩
 ·rcases gB.mp h with q|q
  ·rw[q];exact⟨rfl,rfl⟩
  ·obtain⟨u,_,rfl⟩:=gY.mp q;exact⟨rfl,rfl⟩
theorem uU{rows:List Rw}{k:Nat}{x:Stp}(h:x∈lS rows k):x.1=k:=by
 unfold lS at h;split at h
 ·unfold oR at h;obtain⟨c,_,a⟩:=List.mem_flatMap.mp h;exact(sw a).1
 ·cases h
theorem GI{rows:List Rw}(F:∀x∈gj rows n,∀y∈gj rows n,wr x=wr y->x.1=y.1/\x.2.2.1=y.2.2.1)(ext:∀x y:Stp,x.1=y.1->x.2.2.1=y.2.2.1->wr x=wr y):nS wr (gj rows n):=by
 intro A s B e w;have T:s∈gj rows n:=by rw[e];simp
 have O:∀x∈A,x∈gj rows n:=λx d=>by rw[e];simp[d]
 refine ik (uQ (show(List.range n).flatMap (lS rows)=A++s::B from e)) ?_;rintro v k Y A' U ⟨Q,l,K⟩
 have R:∀j∈v,j≠k:=λj h z=>by have m:(List.range n).Nodup:=List.nodup_range;rw[Q,ox]at m;exact m.2.2 j h k (by simp) z
 have I:s.1=k:=uU (rows:=rows) (by rw[l];simp);unfold lS at l;split at l
 ·rename_i er her;refine ik (uQ (show(gu er.so).flatMap (iR k er.ss)=A'++s::U from l)) ?_;rintro p c X A2 Z ⟨W,b,L⟩
  have M:∀o∈p,o≠c:=λo f z=>by have m:=Gm er.so;rw[W,ox]at m;exact m.2.2 o f c (by simp) z
  have G:s.2.2.1=c:=(sw (k:=k) (ss:=er.ss) (by rw[b];simp)).2;have N:=b;unfold iR at b;split at b
  ·cases A2 with|nil=>injection b with b _;rw[<-b]at w;exact absurd (show("set":Str)=("add":Str) from w) (by decide)|cons a A2=>injection b with _ b;simp at b
  ·cases A2 with
   |nil=>injection b with b _;rw[<-b]at w;exact absurd (show("start":Str)=("add":Str) from w) (by decide)
   |cons a A2=>
    injection b with g1 g2;have J:wr a=wr s:=ext a s (by rw[<-g1,I]) (by rw[<-g1,G]);have r:A=(v.flatMap (lS rows)++p.flatMap (iR k er.ss))++a::A2:=by rw[K,L];simp
    have i:∀x∈v.flatMap (lS rows)++p.flatMap (iR k er.ss),wr x≠wr s:=λx d z=>by
     have D:x∈A:=by rw[r];exact lL _ d
     obtain⟨P,H⟩:=F x (O x D) s T z;rcases iw.mp d with q|q
     ·obtain⟨j,h,g⟩:=List.mem_flatMap.mp q;have:=uU g;rw[this,I]at P;exact R j h (by lia)
     ·obtain⟨o,f,g⟩:=List.mem_flatMap.mp q;rw[(sw g).2,G]at H;exact M o f H
    have C:∀x∈A2,wr x=wr s->x.2.1≠("start":Str):=λx d _ z=>by
     have:x∈(gu er.ss).map λu=>((k:Int),("add":Str),c,u):=by rw[g2];exact lL _ d
     obtain⟨u,_,rfl⟩:=gY.mp this;exact absurd (show("add":Str)=("start":Str) from z) (by decide)
    generalize v.flatMap (lS rows)++p.flatMap (iR k er.ss)=A1 at r i;refine bd (A1.length:Int) ?_ ?_
    ·rw[r,show A1++a::A2=(A1++[a])++A2 by simp,uG _ _ _ C,qp,bz ⟨J,by rw[<-g1]⟩]
     have:lu wr A1 (wr s)=[]:=by have:=uG (wr:=wr) A1 [] (wr s) λx d z=>absurd z (i x d);exact this
     rw[this];rfl
    ·rw[r,show A1++a::A2=(A1++[a])++A2 by simp];obtain⟨t,S⟩:=yp (wr:=wr) A2 (A1++[a]) (wr s)
     have:hE wr A1 (wr s)=[]:=by have:=xP (wr:=wr) A1 [] (wr s) i;exact this
     rw[S,nU,bz J,this];rfl
 ·simp at l
end
def top(i:Nat):Stmt:=PySem.Challenge.pw_arrayloom_k57_needs_told.main.body.getD i (.Pass ⟨0,0,0,0⟩)
abbrev z9:Stmt:=lT (top 20) 0
abbrev Ak:Stmt:=lT (top 21) 0
abbrev Ap:Stmt:=lT (top 24) 0
abbrev Av:Stmt:=lT (top 24) 2
abbrev zw:Stmt:=lT (top 25) 0
abbrev Ar:Stmt:=lT (top 25) 1
abbrev Af:Stmt:=lT (top 25) 3
abbrev Ae:Stmt:=lT (top 27) 0
abbrev Ah:Stmt:=lT (top 27) 2
abbrev Aj:Stmt:=lT (top 31) 0
abbrev Ay:Stmt:=lT (top 31) 1
abbrev AC:Stmt:=lT (top 31) 3
abbrev Am:Stmt:=lT (top 31) 5
structure TyC(K:Frag)(C:zW):Prop where
 ha:findIn K (.ref C) "__class__"=some (some (.builtin "object.__class__"))
 hn:specialIn K (.builtin "object.__class__") "__get__"=some (some (.builtin "getset_descriptor.__get__"))
 htk:takesIn K (.builtin "object.__class__")=some true
 hm:mroIn K C (.type "object")=some true
abbrev ml:zC:=["value"]
abbrev qX:zC:=["axes","lengths"]
abbrev nN:zC:=["cloth","step"]
abbrev vy:zC:=["self","name","axes","sums","term"]
abbrev vr:zC:=["self","wheel","lengths","arrays","tables","lines","outs"]
abbrev mi:zC:=["self","at","lengths"]
abbrev ph:zC:=["self","at"]
abbrev vL:zC:=["axis","shift","at"]
abbrev vE:zC:=["self","axis","low","high","inner","outer"]
set_option genInjectivity false in
set_option genSizeOf false in
structure Adr where
 aa:zW
 a8:zW
 fi:zW
 a7:zW
 ab:zW
 eB:zW
 bJ:zW
 aU:zW
 aV:zW
 a9:zW
 eE:zW
 eC:zS
 dE:zW
 dz:zS
 aZ:zW
 b6:zS
 aE:zW
 aB:zS
 cP:zW
 cM:zS
 d7:zW
 d6:zS
 d5:zW
 cZ:zS
 cI:zW
 cO:zS
 eK:zW
 eG:zS
 dm:zW
 dB:zS
 dy:zW
 df:zS
 cG:zW
 cF:zS
 e8:zW
 d_:zS
 cE:zW
 dL:zS
 cr:zW
 dG:zS
 bU:zW
 cY:zS
 aQ:zW
 bK:zS
 cD:zW
 dN:zS
 aS:zW
 bE:zS
 bt:zW
 cb:zS
 e7:zW
 ef:zS
 aW:zW
 dY:zS
 aj:zW
 cw:zS
 cm:zW
 dl:zS
 aL:zW
 bx:zS
 au:zW
 aT:zS
 aX:zW
 bX:zS
 dO:zW
 dX:zS
 eN:zW
 eJ:zS
 f9:zW
 f8:zS
 dH:zW
 dJ:zS
 dq:zW
 dw:zS
 dQ:zW
 dM:zS
 dS:zW
 dU:zS
 eI:zW
 eL:zS
 dI:zW
 dF:zS
 dA:zW
 dC:zS
 dt:zW
 dD:zS
 cX:zW
 d4:zS
 fu:zW
 ff:zS
variable{β α:Type}{u:HO}{sts:List Stmt}{st:Stmt}{sp' sp:Sp}{p2:Pos}{os:List Stp}{nm arr:Str}{lo hi:Int}{k2 j:Nat}{f a WD PD DD C:zW}{es':zB}{Zz:St}{S':zV}{Q:VK}{P:yB}{w:yD}{K:Frag}{mg:zE}{base:yA}{t:Adr}{H2 H1 G:Hp}{D:lO}{CX:CXT}
abbrev IB(f:zW):Option zN:=some (some (.ref f))
abbrev IF:Option zN:=some (some (.builtin "object.__class__"))
abbrev IC:Option zN:=some none
abbrev IE(K:Frag)(a b:zW)(c:Bool):Prop:=kitOne K (.ref a) (.ref b)=some c
structure FQ(K:Frag)(mg:zE)(x:Str)(st:Stmt)(f:zW)(fd:zS)(ps:zC):Prop where
 F:Fun K x x st f fd
 m:mg x=some (.ref f)
 b:A9v K fd ps []
structure FM(K:Frag)(C:zW)(x q:Str)(st:Stmt)(f:zW)(fd:zS)(ps:zC):Prop where
 F:Fun K x q st f fd
 b:A9v K fd ps []
structure Txt(K:Frag)(mg:zE)(t:Adr):Prop where
 fk:mg "Line"=some (.ref t.aa)
 e_:mg "Cloth"=some (.ref t.a8)
 fG:mg "Term"=some (.ref t.fi)
 dP:mg "Number"=some (.ref t.a7)
 fj:mg "Read"=some (.ref t.ab)
 fF:mg "Pair"=some (.ref t.eB)
 fh:mg "Plus"=some (.ref t.bJ)
 eV:mg "Minus"=some (.ref t.aU)
 eU:mg "Times"=some (.ref t.aV)
 f6:mg "Guard"=some (.ref t.a9)
 c0:FQ K mg "cells_of" (top 2) t.eE t.eC ["lengths"]
 bj:FQ K mg "lengthened" (top 3) t.dE t.dz ["cells","length"]
 a6:FQ K mg "copied" (top 5) t.aZ t.b6 ml
 ag:FQ K mg "copied_dict" (top 6) t.aE t.aB ml
 aK:FQ K mg "lengths_along" (top 8) t.cP t.cM qX
 aA:FQ K mg "cells_along" (top 9) t.d7 t.d6 qX
 aY:FQ K mg "first_order" (top 11) t.d5 t.cZ ["cloth"]
 aI:FQ K mg "steps_of_cell" (top 12) t.cI t.cO ["number","line","cell","turns"]
 cA:FQ K mg "read_by" (top 14) t.eK t.eG nN
 aP:FQ K mg "written_by" (top 15) t.dm t.dB nN
 bh:FQ K mg "marks_left" (top 16) t.dy t.df nN
 aJ:FQ K mg "marks_awaited" (top 17) t.cG t.cF nN
 br:FQ K mg "needs_of" (top 18) t.e8 t.d_ ["cloth"]
 bG:FM K t.aa "__init__" "Line.__init__" z9 t.cE t.dL vy
 bu:FM K t.a8 "__init__" "Cloth.__init__" Ak t.cr t.dG vr
 aw:FM K t.a7 "__init__" "Number.__init__" Ap t.bU t.cY ["self","number"]
 bD:FM K t.a7 "reads" "Number.reads" Av t.aQ t.bK mi
 bH:FM K t.ab "__init__" "Read.__init__" zw t.cD t.dN ["self","array","indexes"]
 aR:FM K t.ab "cell_at" "Read.cell_at" Ar t.aS t.bE ph
 cv:FM K t.ab "reads" "Read.reads" Af t.bt t.cb mi
 bZ:FQ K mg "index_at" (top 26) t.e7 t.ef vL
 aF:FM K t.eB "__init__" "Pair.__init__" Ae t.aW t.dY ["self","left","right"]
 cx:FM K t.eB "reads" "Pair.reads" Ah t.aj t.cw mi
 bf:FM K t.a9 "__init__" "Guard.__init__" Aj t.cm t.dl vE
 aH:FM K t.a9 "lets_in" "Guard.lets_in" Ay t.aL t.bx ph
 ao:FM K t.a9 "looked_at" "Guard.looked_at" AC t.au t.aT ph
 bV:FM K t.a9 "reads" "Guard.reads" Am t.aX t.bX mi
 aG:FQ K mg "_law_cell_at" (top 33) t.dO t.dX ["_law_script","_law_k"]
 bP:FQ K mg "_law_whole" (top 34) t.eN t.eJ ["_law_found"]
 bM:FQ K mg "_law_mix" (top 35) t.f9 t.f8 ["_law_cell","_law_k"]
 be:FQ K mg "_law_index_by" (top 36) t.dH t.dJ ["_law_two","_law_bound","_law_length","_law_lengths"]
 bq:FQ K mg "_law_piece_by" (top 37) t.dq t.dw ["_law_cell","_law_arrays","_law_lengths","_law_line"]
 bB:FQ K mg "_law_term_of" (top 38) t.dQ t.dM ["_law_pieces","_law_cell"]
 bI:FQ K mg "_law_line_by" (top 39) t.dS t.dU ["_law_cell","_law_name","_law_axes","_law_lengths","_law_arrays"]
 bO:FQ K mg "_law_cells" (top 40) t.eI t.eL ["_law_axes","_law_lengths"]
 b9:FQ K mg "_law_steps_by" (top 41) t.dI t.dF ["_law_k","_law_line","_law_lengths"]
 ba:FQ K mg "_law_spots_of" (top 42) t.dA t.dC ["_law_step","_law_line"]
 bv:FQ K mg "_law_needs_by" (top 43) t.dt t.dD ["_law_rows","_law_lengths"]
 aC:FQ K mg "_law_all_needs" (top 44) t.cX t.d4 ["_law_found","_law_due"]
 eS:FQ K mg "law" (top 45) t.fu t.ff ["_law_script"]
 af:Cls K t.a8
 eT:Mk K t.a8 t.cr
 cS:A1n K t.a8 "wheel"
 ah:A1n K t.a8 "lengths"
 cN:A1n K t.a8 "arrays"
 cH:A1n K t.a8 "tables"
 av:A1n K t.a8 "lines"
 d8:A1n K t.a8 "outs"
 fy:TyC K t.a8
 ae:Cls K t.a9
 eQ:Mk K t.a9 t.cm
 bQ:A1n K t.a9 "axis"
 cy:A1n K t.a9 "low"
 bR:A1n K t.a9 "high"
 bF:A1n K t.a9 "inner"
 bA:A1n K t.a9 "outer"
 cB:lQ K t.a9 "lets_in" t.aL
 b_:lQ K t.a9 "looked_at" t.au
 cV:lQ K t.a9 "reads" t.aX
 fr:TyC K t.a9
 am:Cls K t.aa
 eZ:Mk K t.aa t.cE
 cg:A1n K t.aa "name"
 bo:A1n K t.aa "axes"
 aN:A1n K t.aa "sums"
 cf:A1n K t.aa "term"
 cQ:TyC K t.aa
 dg:mroIn K t.aa (.type "list")=some false
 d9:mroIn K t.aa (.type "tuple")=some false
 dn:mroIn K t.aa (.type "dict")=some false
 dR:Cls K t.aU
 eO:Mk K t.aU t.aW
 bY:A1n K t.aU "left"
 bC:A1n K t.aU "right"
 cU:lQ K t.aU "reads" t.aj
 fB:TyC K t.aU
 cz:Cls K t.a7
 de:Mk K t.a7 t.bU
 a_:A1n K t.a7 "number"
 cK:lQ K t.a7 "reads" t.aQ
 fq:TyC K t.a7
 eF:Cls K t.bJ
 f7:Mk K t.bJ t.aW
 cn:A1n K t.bJ "left"
 bW:A1n K t.bJ "right"
 cW:lQ K t.bJ "reads" t.aj
 fD:TyC K t.bJ
 bN:Cls K t.ab
 fc:Mk K t.ab t.cD
 bS:A1n K t.ab "array"
 bw:A1n K t.ab "indexes"
 cJ:lQ K t.ab "cell_at" t.aS
 c_:lQ K t.ab "reads" t.bt
 fE:TyC K t.ab
 dW:Cls K t.aV
 eR:Mk K t.aV t.aW
 bT:A1n K t.aV "left"
 bL:A1n K t.aV "right"
 cR:lQ K t.aV "reads" t.aj
 fA:TyC K t.aV
 aO:mg "range"=none
 a5:mg "isinstance"=none
 bn:mg "list"=none
 aq:mg "tuple"=none
 cT:mg "dict"=none
 cC:mg "enumerate"=none
 aM:mg "len"=none
 fe:mg "zip"=none
 dZ:mg "sorted"=none
 fz:mg "set"=none
 fo:mg "bool"=none
 fg:mg "int"=none
 e9:mg "reversed"=none
 ft:mg "str"=none
 fw:mg "min"=none
abbrev FO(P:yB)(w:yD)(base:yA){K:Frag}{mg:zE}{x:Str}{st:Stmt}{f:zW}{fd:zS}{ps:zC}(_:FQ K mg x st f fd ps)(n:Nat)(sp:Sp):Prop:=A4x P w K mg base jk n f fd ps sp
abbrev FP(P:yB)(w:yD)(mg:zE)(base:yA){K:Frag}{C:zW}{x q:Str}{st:Stmt}{f:zW}{fd:zS}{ps:zC}(_:FM K C x q st f fd ps)(n:Nat)(sp:Sp):Prop:=A4x P w K mg base jk n f fd ps sp
theorem pcl{k:Nat}{e:yC}{es:zT}{t:TA}{p:Pos}(F:A4x X.prog X.w X.K X.mg X.base jk k f fd ps sp)(h:A7s k2 X.A)(Zz:FQ X.K X.mg x st f fd ps)(i:PA X (e::es) t)(d:k<=k2:=by lia)(g:Gl X x:=by rfl)(c:(x==("__debug__":Str))=false:=by decide)(j:starEach (e::es) X.env=(false,eval e X.env)::starEach es X.env:=by rfl)(a:(backTo pos (starEach es X.env)).any (·.1)=false:=by rfl):PE X (.Call (.Name x p) (e::es) [] pos) (wc sp [] E0 t):=C6 F (h.mono d) g Zz.m Zz.F.kp Zz.b .nil tO i c j a
theorem pmk{k:Nat}{e:yC}{es:zT}{t:TA}{p:Pos}(M:Mk X.K C f)(F:A4x X.prog X.w X.K X.mg X.base jk k f fd ps sp)(i:A7s k2 X.A)(d:X.mg x=some (.ref C))(c:A9v X.K fd ps [])(j:PA X (e::es) t)(g:k+1<=k2:=by lia)(h:Gl X x:=by rfl)(b:(x==("__debug__":Str))=false:=by decide)(l:starEach (e::es) X.env=(false,eval e X.env)::starEach es X.env:=by rfl)(a:(backTo pos (starEach es X.env)).any (·.1)=false:=by rfl):PE X (.Call (.Name x p) (e::es) [] pos) (vV C sp [] E0 t):=Di M F (i.mono g) h d c .nil tO j b l a
theorem fT(h:Nat.ble n 1000000=true):n<=sizeLine:=jR (Nat.le_of_ble_eq_true h)
theorem CB:(0:Int)<1000:=by decide
theorem Bd:(0:Int)<12:=by decide
theorem vF:(0:Int)<2:=by decide
theorem pf:(0:Int)<3:=by decide
theorem qJ:(0:Int)<4:=by decide
theorem z_50:(0:Int)<5:=by decide
theorem z_60:(0:Int)<6:=by decide
theorem Ec:(0:Int)<99989:=by decide
theorem DG:(0:Int)<99991:=by decide
theorem pit(i:Nat){k:Int}{j}{b:Pos}(c:X.N[i]?=some x:=by rfl)(e:Vis X.env.scope x:=by first|exact Or.inl rfl|exact Or.inr (Or.inl rfl)|exact Or.inr (Or.inr rfl))(d:(x==("__debug__":Str))=false:=by decide)(a:(x==("__classdict__":Str))=false:=by decide):PE X (.Subscript (.Name x pos) (.Constant (.int k) j p2) b) (tOp (tz X.K) (pj i) (tC (.int k))):=iZ rD (pv i c e d a) fM λ_ _=>rfl
theorem pil(i:Nat){k:Int}{j}{b:Pos}(c:X.N[i]?=some x:=by rfl)(e:Vis X.env.scope x:=by first|exact Or.inl rfl|exact Or.inr (Or.inl rfl)|exact Or.inr (Or.inr rfl))(d:(x==("__debug__":Str))=false:=by decide)(a:(x==("__classdict__":Str))=false:=by decide):PE X (.Subscript (.Name x pos) (.Constant (.int k) j p2) b) (tOp (vC X.K) (pj i) (tC (.int k))):=iZ jx (pv i c e d a) fM λ_ _=>rfl
theorem pkd(i:Nat){k:Int}{y:Str}{j l}{b f e:Pos}(c:X.N[i]?=some x:=by rfl)(g:Vis X.env.scope x:=by first|exact Or.inl rfl|exact Or.inr (Or.inl rfl)|exact Or.inr (Or.inr rfl))(d:(x==("__debug__":Str))=false:=by decide)(a:(x==("__classdict__":Str))=false:=by decide):L2.PT X (.Compare (.Subscript (.Name x pos) (.Constant (.int k) j p2) b) [.Eq] [.Constant (.str y) l f] e) (vY (tOp rEq (tOp (tz X.K) (pj i) (tC (.int k))) (tC (.str y)))):=iA lA (pit i c g d a) je (ua _)
theorem fK(i:Nat)(c:X.N[i]?=some x:=by rfl)(e:Vis X.env.scope x:=by first|exact Or.inl rfl|exact Or.inr (Or.inl rfl)|exact Or.inr (Or.inr rfl))(d:(x==("__debug__":Str))=false:=by decide)(a:(x==("__classdict__":Str))=false:=by decide)(b:starEach [.Name x pos] X.env=(false,eval (.Name x pos) X.env)::starEach [] X.env:=by rfl):PA X [.Name x pos] (vO (pj i) vK):=bm (pv i c e d a) dV b
theorem lM{e:yC}{es:zT}{t:TA}{p:Pos}(d:X.mg "len"=none)(b:PA X (e::es) t)(f:Gl X "len":=by rfl)(c:starEach (e::es) X.env=(false,eval e X.env)::starEach es X.env:=by rfl)(a:(backTo pos (starEach es X.env)).any (·.1)=false:=by rfl):PE X (.Call (.Name "len" p) (e::es) [] pos) (tCB (λxs H Q=>∃p ys,xs=[.ref p]/\(SqL X.K H p ys\/SqT X.K H p ys)/\Q (.int ys.length) H) t):=jy GW f d qG b (by decide) (by decide) c a
theorem rsq{t:TS}(h:RS X sts t)(q:t D Zz H):∃t,PSs X sts t/\t D Zz H:=⟨t,h.r,q⟩
theorem nH{x:zW}(h:H x=none):∃H',A0k H H'/\H' x=some o/\upd H x o=H':=⟨_,fI h,dh,rfl⟩
abbrev Sro(a:zW):zP:=some (.ref a)
abbrev Sio(a:Int):zP:=some (.int a)
abbrev Sso(a:Str):zP:=some (.str a)
abbrev Sbo(a:Bool):zP:=some (.bl a)
local macro_rules | `(tactic| walk_at"ix") => `(tactic| first |exact Or.inl rfl |exact Or.inr rfl |(simp[relabel]; rfl) |(with_unfolding_all exact Or.inl rfl) |(with_unfolding_all exact Or.inr rfl) |(with_unfolding_all decide))
local macro_rules | `(tactic| walk_at"sc") => `(tactic| exact⟨rfl, rfl, rfl, by decide +kernel, rfl, by decide +kernel, by decide +kernel⟩)
local macro_rules | `(tactic| walk_at"ln") => `(tactic| (intro _ _ _ _ h; first |(cases h; subst_vars; rfl) |((repeat (obtain⟨_, h⟩ := h)); subst_vars; rfl)))
theorem sB:gC ["lengths","cells","length"] ["lengths"] (gi (top 2)):=by walk_at"sc"
theorem sK:gC ["cells","length","longer","cell","number"] ["cells","length"] (gi (top 3)):=by walk_at"sc"
theorem sk:gC ml ["value"] (gi (top 5)):=by walk_at"sc"
theorem sM:gC ["value","fresh","key","member"] ml (gi (top 6)):=by walk_at"sc"
theorem Im:gC qX ["axes","lengths"] (gi (top 8)):=by walk_at"sc"
theorem Ia:gC qX ["axes","lengths"] (gi (top 9)):=by walk_at"sc"
theorem pL:gC ["cloth","steps","number","line","turns","cell"] ["cloth"] (gi (top 11)):=by walk_at"sc"
theorem Az:gC ["number","line","cell","turns","adds"] ["number","line","cell","turns"] (gi (top 12)):=by walk_at"sc"
theorem oS:gC ["cloth","step","number","word","cell","turn","line","at"] nN (gi (top 14)):=by walk_at"sc"
theorem qz:gC ["cloth","step","number","word","cell","turn"] nN (gi (top 15)):=by walk_at"sc"
theorem vi:gC ["cloth","step","array","cell"] nN (gi (top 16)):=by walk_at"sc"
theorem sP:gC ["cloth","step","array","cell","marks"] nN (gi (top 17)):=by walk_at"sc"
theorem oT:gC ["cloth","needs","places","place","step","mark"] ["cloth"] (gi (top 18)):=by walk_at"sc"
theorem GY:gC vy ["self","name","axes","sums","term"] (gi z9):=by walk_at"sc"
theorem HN:gC vr ["self","wheel","lengths","arrays","tables","lines","outs"] (gi Ak):=by walk_at"sc"
theorem Ib:gC ["self","number"] ["self","number"] (gi Ap):=by walk_at"sc"
theorem Id:gC mi ["self","at","lengths"] (gi Av):=by walk_at"sc"
theorem GR:gC ["self","array","indexes"] ["self","array","indexes"] (gi zw):=by walk_at"sc"
theorem Ih:gC ph ["self","at"] (gi Ar):=by walk_at"sc"
theorem HQ:gC mi ["self","at","lengths"] (gi Af):=by walk_at"sc"
theorem Gp:gC vL ["axis","shift","at"] (gi (top 26)):=by walk_at"sc"
theorem G9:gC ["self","left","right"] ["self","left","right"] (gi Ae):=by walk_at"sc"
theorem Hr:gC mi ["self","at","lengths"] (gi Ah):=by walk_at"sc"
theorem HM:gC vE ["self","axis","low","high","inner","outer"] (gi Aj):=by walk_at"sc"
theorem Ir:gC ph ["self","at"] (gi Ay):=by walk_at"sc"
theorem Ix:gC ph ["self","at"] (gi AC):=by walk_at"sc"
theorem HS:gC mi ["self","at","lengths"] (gi Am):=by walk_at"sc"
theorem GT:gC ["_law_script","_law_k"] ["_law_script","_law_k"] (gi (top 33)):=by walk_at"sc"
theorem F9:gC ["_law_found"] ["_law_found"] (gi (top 34)):=by walk_at"sc"
theorem xY:gC ["_law_cell","_law_k","_law_one"] ["_law_cell","_law_k"] (gi (top 35)):=by walk_at"sc"
theorem vh:gC ["_law_two","_law_bound","_law_length","_law_lengths","_law_axis"] ["_law_two","_law_bound","_law_length","_law_lengths"] (gi (top 36)):=by walk_at"sc"
theorem kj:gC ["_law_cell","_law_arrays","_law_lengths","_law_line","_law_one","_law_array","_law_axes","_law_fixed","_law_indexes","_law_guards","_law_k","_law_two","_law_length","_law_axis","_law_shift"] ["_law_cell","_law_arrays","_law_lengths","_law_line"] (gi (top 37)):=by walk_at"sc"
theorem kW:gC ["_law_pieces","_law_cell","_law_term","_law_k","_law_array","_law_indexes","_law_guards","_law_one","_law_axis","_law_low","_law_high"] ["_law_pieces","_law_cell"] (gi (top 38)):=by walk_at"sc"
theorem mQ:gC ["_law_cell","_law_name","_law_axes","_law_lengths","_law_arrays","_law_rest","_law_sides","_law_worth","_law_turned","_law_k","_law_side","_law_line"] ["_law_cell","_law_name","_law_axes","_law_lengths","_law_arrays"] (gi (top 39)):=by walk_at"sc"
theorem pI:gC ["_law_axes","_law_lengths","_law_made","_law_axis","_law_longer","_law_cell"] ["_law_axes","_law_lengths"] (gi (top 40)):=by walk_at"sc"
theorem vf:gC ["_law_k","_law_line","_law_lengths","_law_steps","_law_cell"] ["_law_k","_law_line","_law_lengths"] (gi (top 41)):=by walk_at"sc"
theorem lY:gC ["_law_step","_law_line","_law_at","_law_axis","_law_number","_law_due","_law_array","_law_indexes","_law_guards","_law_inside","_law_low","_law_high"] ["_law_step","_law_line"] (gi (top 42)):=by walk_at"sc"
theorem ni:gC ["_law_rows","_law_lengths","_law_steps","_law_k","_law_writers","_law_due","_law_j","_law_line","_law_own","_law_spot","_law_i"] ["_law_rows","_law_lengths"] (gi (top 43)):=by walk_at"sc"
theorem sO:gC ["_law_found","_law_due","_law_last","_law_pair"] ["_law_found","_law_due"] (gi (top 44)):=by walk_at"sc"
theorem jO:gC ["_law_script","_law_head","_law_axes","_law_lengths","_law_k","_law_arrays","_law_name","_law_tables","_law_rows","_law_left","_law_cell","_law_line","_law_lines","_law_term","_law_cloth","_law_due","_law_found"] ["_law_script"] (gi (top 45)):=by walk_at"sc"
theorem nZ:(["member"]:zC).Nodup:=by decide+kernel
theorem Ez:(["axis","lengths"]:zC).Nodup:=by decide+kernel
theorem Fh:(["turn","cell","number"]:zC).Nodup:=by decide+kernel
theorem yn:(["array","cell"]:zC).Nodup:=by decide+kernel
theorem Ff:(["ahead","place"]:zC).Nodup:=by decide+kernel
theorem yu:(["axis","shift","at"]:zC).Nodup:=by decide+kernel
theorem EK:(["_law_name"]:zC).Nodup:=by decide+kernel
theorem Fc:(["_law_axis"]:zC).Nodup:=by decide+kernel
theorem Ev:(["_law_count","_law_cell"]:zC).Nodup:=by decide+kernel
theorem Fg:(["_law_turn","_law_cell","_law_k"]:zC).Nodup:=by decide+kernel
theorem zj:(["_law_axis","_law_shift","_law_at"]:zC).Nodup:=by decide+kernel
theorem zn:(["_law_name"]:zC).Nodup:=by decide+kernel
theorem A4x.none{k:Nat}(h:∀vs H Q E,¬sp vs H Q E):A4x P w K mg base CX k f fd ps sp :=⟨λvs H Q E q=>(h vs H Q E q).elim,λ_ _ _ H _ _ vs Q E _ _ _ _ q=>(h vs H Q E q).elim⟩
def jn(xs:zC):PyData:=.list (xs.map PyData.str)
def OkS(xs:zC):Prop:=∀x∈xs,PyData.strOk x=true
theorem wW:∀xs:zC,PyData.depthAll (xs.map PyData.str)=0/\kD (xs.map PyData.str)=xs.length
 | []=>⟨rfl,rfl⟩
 |x::r=>by
  obtain⟨b,a⟩:=wW r;refine⟨?_,?_⟩
  ·simp[PyData.depthAll,PyData.depth,b]
  ·simp[kD,cnt,a];lia
theorem xK:∀{xs:zC},OkS xs->PyData.canLayAll0 (xs.map PyData.str)=true| [],_=>rfl|x::r,h=>by have a:=xK (xs:=r) λy b=>h y (.tail _ b);simp[PyData.canLayAll0,PyData.canLay0,a,h x (.head _)]
theorem nT(xs:zC):(jn xs).depth<=1/\cnt (jn xs)<=1+xs.length:=by
 obtain⟨b,a⟩:=wW xs;refine⟨?_,?_⟩
 ·simp[jn,PyData.depth,b]
 ·simp only [jn,cnt,a];lia
theorem uK{xs:zC}(h:OkS xs):(jn xs).canLay0=true:=by simp[jn,PyData.canLay0,xK h]
theorem uO{d:PyData}(h:d.canLay0=true)(a:d.depth<=60):SeqAt.shaped d=true:=by unfold SeqAt.shaped;rw[h,Bool.true_and];exact iY (by lia)
theorem yX{H:Hp}:∀{ys:zC}{xs:zM},A3v H xs (ys.map PyData.str)->xs=ys.map V.str
 | [],_,r=>by cases r;rfl
 |y::ys,_,r=>by
  rw[gA]at r
  cases r with
  |cons a r=>
   cases a
   rw[gA,yX r]
theorem pZ(h:Rep H v (jn ys)):∃p,v=.ref p/\H p=some (.lst (ys.map V.str)):=by refine fO (um (show Rep H v (.list (ys.map PyData.str)) from h)) ?_;rintro p a rfl e r;rw[yX r]at e;exact bd p rfl e
theorem mL(e:H p=some (.lst (ys.map V.str))):Rep H (.ref p) (jn ys):=.lst e (A3v.strs ys)
theorem AQ{e:Str×Int}(h:Rep H v (kS e)):∃b,v=.ref b/\H b=some (.tup [.str e.1,.int e.2]):=by
 unfold kS at h
 cases h with
 |@tup b xs _ eb r=>
  cases r with
  |cons a r=>
   cases r with
   |cons a2 r=>
    cases r
    cases a
    cases a2
    exact bd b rfl eb
theorem uA{f:α->PyData}{ts:List α}(r:A3v H xs (ts.map f)){x:V}(g:xs[i]?=some x):∃e,ts[i]?=some e/\Rep H x (f e):=by obtain⟨d,a,b⟩:=r.get2 g;rw[ju]at a;obtain⟨e,c,rfl⟩:=nK.mp a;exact bd e c b
theorem ic{α β:Type}{F:α->β->Prop}:∀{l:List α}{m:List β},Paired F l m->∀{i:Nat}{x:α},l[i]?=some x->∃y,m[i]?=some y/\F x y|_,_,.nil,i,x,e=>by simp at e|_,_,.cons r t,0,x,e=>by simp at e;subst e;exact bd _ rfl r|_,_,.cons r t,i+1,x,e=>by obtain⟨y,b,a⟩:=ic t (i:=i) (by simpa using e);exact bd y (by simpa using b) a
theorem jN{α β:Type}{F:α->β->Prop}:∀{a c:List α}{b d:List β},Paired F a b->Paired F c d->Paired F (a++c) (b++d)|_,_,_,_,.nil,h=>h|_,_,_,_,.cons r t,h=>.cons r (jN t h)
theorem jZ{f:α->V}{xs:List α}(h:(xs.map f)[i]?=some v):∃x,xs[i]?=some x/\v=f x:=by
 rw[ju]at h
 cases e:xs[i]? with
 |none=>rw[e]at h;cases h
 |some x=>rw[e]at h;exact bd x rfl ((iO h).symm)
def KT(H H':Hp):Prop:=∀p a,H p=some (.tup a)->H' p=some (.tup a)
theorem KT.same(s:A0k H H'):KT H H':=λp a e=>s _ _ e
theorem KT.at(e:H l=some u)(n:∀xs,u≠.tup xs):KT H (upd H l o):=λp xs z=>by rw[eh (gN z e (n xs).symm)];exact z
theorem KT.trans(a:KT H H')(b:KT H' H2):KT H H2:=λp c e=>b _ _ (a _ _ e)
def px(A:Adr):Op3->zW|.plus=>A.bJ|.minus=>A.aU|.times=>A.aV
inductive Ob(A:Adr)(H:Hp):V->Tm->Prop|num {a dx:zW} {z:Int}:H a=some (.ins A.a7 dx [("number",.int z)])->Ob A H (.ref a) (.num z)|read {a dx l:zW} {x:Str} {ix:zL}:H a=some (.ins A.ab dx [("array",.str x),("indexes",.ref l)])->Rep H (.ref l) (nB ix)->Ob A H (.ref a) (.read x ix)|pair {a dx:zW} {k:Op3} {u w:V} {l r:Tm}:H a=some (.ins (px A k) dx [("left",u),("right",w)])->Ob A H u l->Ob A H w r->Ob A H (.ref a) (.pair k l r)|guard {a dx:zW} {x:Str} {lo hi:Int} {u w:V} {l r:Tm}:H a=some (.ins A.a9 dx [("axis",.str x),("low",.int lo),("high",.int hi),("inner",u),("outer",w)])->Ob A H u l->Ob A H w r->Ob A H (.ref a) (.guard x lo hi l r)
theorem Ob.imp(f:A0k H H'){t:Tm}(h:Ob A H v t):Ob A H' v t:=by
 induction h with
 |num e=>exact .num (f _ _ e)
 |read e r=>exact .read (f _ _ e) (r.same f)
 |pair e _ _ i1 i2=>exact .pair (f _ _ e) i1 i2
 |guard e _ _ i1 i2=>exact .guard (f _ _ e) i1 i2
local macro_rules | `(tactic| walk_at"lk") => `(tactic| first |with_reducible exact AE |(refine AD (by decide +kernel) ?_; walk_at"lk") |rfl)
def Ea(K:Frag)(f:Str):Sp:=λb H Q _=>∃(p C a:zW)(v:V),b=[.ref p,v]/\H p=some (.ins C a [])/\Cls K C/\A1n K C f/\Q .non (upd H p (.ins C a [(f,v)]))
def Du(K:Frag)(f g:Str):Sp:=λb H Q _=>∃(p C a:zW)(v u:V),b=[.ref p,v,u]/\H p=some (.ins C a [])/\Cls K C/\A1n K C f/\A1n K C g/\Q .non (upd H p (.ins C a [(f,v),(g,u)]))
def Eb(A:Adr):Sp:=λg H Q _=>∃(p f:zW)(a b c d e:V),g=[.ref p,a,b,c,d,e]/\H p=some (.ins A.a9 f [])/\Q .non (upd H p (.ins A.a9 f [("axis",a),("low",b),("high",c),("inner",d),("outer",e)]))
def DH(A:Adr):Sp:=λg H Q _=>∃(p e l:zW)(x:Str)(d:zL),g=[.ref p,.str x,.ref l]/\H p=some (.ins A.ab e [])/\Rep H (.ref l) (nB d)/\d.length<=1000/\
 ∀(f:zW)(c:Hp),c p=some (.ins A.ab e [("array",.str x),("indexes",.ref f)])->Rep (iF (λa=>H a=none) c) (.ref f) (nB d)->(∀b o,b≠p->H b=some o->c b=some o)->Q .non c
def tV(n:Nat):Sp:=λe H Q _=>∃(v:V)(d:PyData),e=[v]/\Rep H v d/\PyData.depth d<=n/\cnt d<=100000/\∀(c:V)(b:Hp),A0k H b->Rep (iF (λa=>H a=none) b) c d->Q c b
def BP(A:Adr):Sp:=λb H Q _=>∃(a c:zW)(d:zK),b=[.ref a]/\H a=some (.ins A.aa c d)/\Q (.ref a) H
def wA(A:Adr):Sp:=λf H Q _=>∃(p:zW)(b:zM),f=[.ref p]/\H p=some (.lst b)/\b.length<=1000/\(∀x∈b,∃a d e,x=.ref a/\H a=some (.ins A.aa d e))/\∀(D:zW)(c:Hp),H D=none->A0k H c->c D=some (.lst b)->Q (.ref D) c
def tM:Sp:=λh H Q _=>∃(d:zW)(e:zJ)(g:List PyData),h=[.ref d]/\H d=some (.dK e)/\e.length<=100000/\Paired (λ(a:Key×V)(x:PyData)=>Rep H a.2 x/\PyData.depth x<=1/\cnt x<=100000) e g/\
 ∀(p:zW)(c:zJ)(f:Hp),H p=none->A0k H f->f p=some (.dK c)->c.map (·.1)=e.map (·.1)->Paired (λ(b:Key×V)(x:PyData)=>Rep (iF (λa=>H a=none) f) b.2 x) c g->Q (.ref p) f
theorem As(T:Txt K mg t):FP P w mg base T.aw 1 (Ea K "number"):=by
 refine T.aw.F.ok Ib λ_ A _ s H _ Q E e h=>?_
 ·refine iq h ?_;clear h;rintro p C b v rfl a d c k;exact rsq (fm ⟨jH (pv 0) (pv 1) rfl⟩) (kM _ rfl _ rfl p C b [] rfl a d c (by decide) k)
theorem vd(T:Txt K mg t):FP P w mg base T.aF 1 (Du K "left" "right"):=by
 refine T.aF.F.ok G9 λ_ A _ s H _ Q E f h=>?_
 ·refine kO h ?_;clear h;rintro p C a v u rfl d b c e k;refine rsq (eH ⟨jH (pv 0) (pv 1) rfl⟩ (fm ⟨jH (pv 0) (pv 2) rfl⟩)) (kM _ rfl _ rfl p C a [] rfl d b c (by decide) (kM _ rfl _ rfl p C a _ rfl dh b e (by show 1<1000;decide) ?_));show Q V.non (upd (upd H p _) p (.ins C a (gX "right" u (gX "left" v []))));rw[oK,jS,ip (by decide+kernel),jS];exact k
theorem Ho(T:Txt K mg t):FP P w mg base T.bf 1 (Eb t):=by
 refine T.bf.F.ok HM λ_ A _ s H _ Q E n h=>?_
 ·refine ik h ?_;clear h;rintro p f a b c ⟨d,e,rfl,l,k⟩;have m:gX "low" b (gX "axis" a [])=([("axis",a),("low",b)]:zK):=by rw[jS,ip (by decide+kernel),jS]
  have j:gX "high" c ([("axis",a),("low",b)]:zK)=([("axis",a),("low",b),("high",c)]:zK):=by rw[ip (by decide+kernel),ip (by decide+kernel),jS]
  have g:gX "inner" d ([("axis",a),("low",b),("high",c)]:zK)=([("axis",a),("low",b),("high",c),("inner",d)]:zK):=by rw[ip (by decide+kernel),ip (by decide+kernel),ip (by decide+kernel),jS]
  have i:gX "outer" e ([("axis",a),("low",b),("high",c),("inner",d)]:zK)=([("axis",a),("low",b),("high",c),("inner",d),("outer",e)]:zK):=by rw[ip (by decide+kernel),ip (by decide+kernel),ip (by decide+kernel),ip (by decide+kernel),jS]
  refine rsq (eH ⟨jH (pv 0) (pv 1) rfl⟩ (eH ⟨jH (pv 0) (pv 2) rfl⟩ (eH ⟨jH (pv 0) (pv 3) rfl⟩ (eH ⟨jH (pv 0) (pv 4) rfl⟩ (fm ⟨jH (pv 0) (pv 5) rfl⟩))))) (kM _ rfl _ rfl p _ f [] rfl l T.ae T.bQ (by decide) (kM _ rfl _ rfl p _ f _ rfl dh T.ae T.cy (by show 1<1000;decide) ?_));rw[oK,m];refine kM _ rfl _ rfl p _ f _ rfl dh T.ae T.bR (by show 2<1000;decide) ?_;rw[oK,j];refine kM _ rfl _ rfl p _ f _ rfl dh T.ae T.bF (by show 3<1000;decide) ?_;rw[oK,g];refine kM _ rfl _ rfl p _ f _ rfl dh T.ae T.bA (by show 4<1000;decide) ?_;show Q V.non (upd (upd H p _) p _);rw[oK,i];exact k
theorem qy(h:T="NoneType"\/T="bool"\/T="int"\/T="str"\/T="tuple"):∀u,A2h (.ty "list") u->kitOne K (.type T) u=some false:=by rcases h with rfl|rfl|rfl|rfl|rfl<;>exact pC (by decide+kernel) (by decide+kernel) (by decide+kernel)
theorem sE(h:T="NoneType"\/T="bool"\/T="int"\/T="str"):∀u,A2h (.ty "tuple") u->kitOne K (.type T) u=some false:=by rcases h with rfl|rfl|rfl|rfl<;>exact pC (by decide+kernel) (by decide+kernel) (by decide+kernel)
theorem sy(h:T="NoneType"\/T="bool"\/T="int"\/T="str"):∀u,A2h (.ty "dict") u->kitOne K (.type T) u=some false:=by rcases h with rfl|rfl|rfl|rfl<;>exact pC (by decide+kernel) (by decide+kernel) (by decide+kernel)
theorem xw(T:Txt K mg t){m:Nat}(Ga0:A4x P w K mg base jk m t.aZ t.b6 ml sp')
  (hs:∀(v:V)(d:PyData)(H:Hp)(Q:VK),Rep H v d->PyData.depth d+1<=n->cnt d<=100000->(∀(M:V)(H':Hp),A0k H H'->Rep (iF (λa=>H a=none) H') M d->Q M H')->sp' [v] H Q E0):
  A4x P w K mg base jk (m+1) t.aZ t.b6 ml (tV n):=by
 refine T.a6.F.ok sk λ_ A _ s H _ Q E U h=>?_
 ·refine fV h ?_;clear h;rintro v d rfl rp Y ⟨Z,k⟩;have Ga1:A4x P w K mg base jk 0 t.aE t.aB ml (λ_ _ _ _=>False):=A4x.none λ_ _ _ _ h=>h;refine rsq (eH (gI (jP (jy kJ (by rfl) T.a5 kr (bm (pv 0) (bm (kG (v:=V.ty "list") rfl T.bn nq rfl) dV)))) (fm (fU (kF (N':=["member"]) (ix:=(List.replicate 1 none)) rfl (lX rfl (by decide+kernel) (by decide+kernel)) (lV rfl) (nR (pv 0)) (λ_ _ _ _=>(fR (i:=0) nZ)) (λ_ _ _ _=>(pcl Ga0 U T.a6 (fK 0)))))) ⟨gO⟩) (eH (gI (jP (jy kJ (by rfl) T.a5 kr (bm (pv 0) (bm (kG (v:=V.ty "tuple") rfl T.aq mI rfl) dV)))) (fm (fU (mE pK (by rfl) T.aq mI (bm (kF (N':=["member"]) (ix:=(List.replicate 1 none)) rfl (lX rfl (by decide+kernel) (by decide+kernel)) (lV rfl) (nR (pv 0)) (λ_ _ _ _=>(fR (i:=0) nZ)) (λ_ _ _ _=>(pcl Ga0 U T.a6 (fK 0)))) dV)))) ⟨gO⟩) (eH (gI (jP (jy kJ (by rfl) T.a5 kr (bm (pv 0) (bm (kG (v:=V.ty "dict") rfl T.cT qE rfl) dV)))) (fm (fU (pcl Ga1 U T.ag (fK 0)))) ⟨gO⟩) (fm (fU (pv 0)))))) ?_
  cases rp with
  |non=>refine iT _ rfl _ _ _ _ rfl .non (qy (.inl rfl)) false rfl (iz ?_);refine iT _ rfl _ _ _ _ rfl .non (sE (.inl rfl)) false rfl (iz ?_);exact iT _ rfl _ _ _ _ rfl .non (sy (.inl rfl)) false rfl (iz (bd _ rfl (k _ _ (A0k.refl _) .non)))
  |bl b=>refine iT _ rfl _ _ _ _ rfl (.bl b) (qy (.inr (.inl rfl))) false rfl (iz ?_);refine iT _ rfl _ _ _ _ rfl (.bl b) (sE (.inr (.inl rfl))) false rfl (iz ?_);exact iT _ rfl _ _ _ _ rfl (.bl b) (sy (.inr (.inl rfl))) false rfl (iz (bd _ rfl (k _ _ (A0k.refl _) (.bl b))))
  |int b=>refine iT _ rfl _ _ _ _ rfl (.int b) (qy (.inr (.inr (.inl rfl)))) false rfl (iz ?_);refine iT _ rfl _ _ _ _ rfl (.int b) (sE (.inr (.inr (.inl rfl)))) false rfl (iz ?_);exact iT _ rfl _ _ _ _ rfl (.int b) (sy (.inr (.inr (.inl rfl)))) false rfl (iz (bd _ rfl (k _ _ (A0k.refl _) (.int b))))
  |str b=>refine iT _ rfl _ _ _ _ rfl (.str b) (qy (.inr (.inr (.inr (.inl rfl))))) false rfl (iz ?_);refine iT _ rfl _ _ _ _ rfl (.str b) (sE (.inr (.inr (.inr rfl)))) false rfl (iz ?_);exact iT _ rfl _ _ _ _ rfl (.str b) (sy (.inr (.inr (.inr rfl)))) false rfl (iz (bd _ rfl (k _ _ (A0k.refl _) (.str b))))
  |@lst p xs ds e r=>
   have C:=r.len;have X:=ux ds;have O:kD ds+1<=100000:=Z;have R:PyData.depthAll ds+1<=n:=Y;refine iT _ rfl _ _ _ _ rfl (.lst e) (oN "list") true rfl (nL ?_);refine .inl (iB _ rfl p rfl ⟨_,SqL.of e⟩ λD L=>?_)
   refine nF (K:=K) (a:=p) (D:=D) (xs:=xs) (λi g f=>A0k H f/\f D=some (.lst g)/\A3v (iF (λa=>H a=none/\a≠D) f) g (ds.take i)/\g.length=i)
    (iW (fI L) dh (by rw[List.take_zero];exact .nil) rfl) (λi g f ⟨j,_⟩=>SqL.of (j _ _ e)) ?_ ?_
   ·rintro i x g f N ⟨j,c,B,u⟩;obtain⟨d,q,W⟩:=r.get2 N;obtain⟨c1,c2⟩:=ug q;have hi:i<xs.length:=(fY.mp N).1;refine gT True.intro _ rfl (hs x d f _ (W.same j) (by lia) (by lia) λM H5 G I=>?_);have y:¬(H D=none/\D≠D):=λz=>z.2 rfl;refine jh (G _ _ c) (gJ (by lia)) (gQ (j.trans G) L) dh ?_ (by simp[u]);rw[gW,q];show A3v _ (g++[M]) (ds.take i++[d]);refine(B.same (oQ (mF G) y)).snoc (I.same ((oe (A0k.refl _) λa o _ J=>⟨j.free J,λz=>?_⟩).trans (oQ (A0k.refl _) y)));subst z;rw[c]at J;cases J
   ·rintro g f ⟨j,c,B,u⟩;refine k (.ref D) f j (.lst (lU L c) ?_);rw[C,hZ]at B;exact B.same (oe (A0k.refl _) λa o _ h=>h.1)
  |@tup p xs ds e r=>
   have C:=r.len;have X:=ux ds;have O:kD ds+1<=100000:=Z;have R:PyData.depthAll ds+1<=n:=Y;refine iT _ rfl _ _ _ _ rfl (.tup e) (qy (.inr (.inr (.inr (.inr rfl))))) false rfl (iz ?_);refine iT _ rfl _ _ _ _ rfl (.tup e) (oN "tuple") true rfl (nL ?_);refine .inr (iB _ rfl p rfl ⟨_,SqT.of e⟩ λD L=>?_)
   refine Fj (K:=K) (a:=p) (D:=D) (xs:=xs) (λi g f=>A0k H f/\f D=some (.lst g)/\A3v (iF (λa=>H a=none/\a≠D) f) g (ds.take i)/\g.length=i)
    (iW (fI L) dh (by rw[List.take_zero];exact .nil) rfl) (λi g f ⟨j,_⟩=>SqT.of (j _ _ e)) ?_ ?_
   ·rintro i x g f N ⟨j,c,B,u⟩;obtain⟨d,q,W⟩:=r.get2 N;obtain⟨c1,c2⟩:=ug q;have hi:i<xs.length:=(fY.mp N).1;refine gT True.intro _ rfl (hs x d f _ (W.same j) (by lia) (by lia) λM H5 G I=>?_);have y:¬(H D=none/\D≠D):=λz=>z.2 rfl;refine jh (G _ _ c) (gJ (by lia)) (gQ (j.trans G) L) dh ?_ (by simp[u]);rw[gW,q];show A3v _ (g++[M]) (ds.take i++[d]);refine(B.same (oQ (mF G) y)).snoc (I.same ((oe (A0k.refl _) λa o _ J=>⟨j.free J,λz=>?_⟩).trans (oQ (A0k.refl _) y)));subst z;rw[c]at J;cases J
   ·rintro g f ⟨j,c,B,u⟩;refine gF D g rfl (.inl ⟨SqL.of c,λl S=>?_⟩);refine k (.ref l) _ (j.trans (fI S)) (.tup (lU (j.free S) dh) ?_);rw[C,hZ]at B;exact B.same ((oe (A0k.refl _) λa o _ h=>h.1).trans (mF (fI S)))
theorem uM(T:Txt K mg t):∀n:Nat,A4x P w K mg base jk (n+1) t.aZ t.b6 ml (tV n)|0=>xw T (sp':=λ_ _ _ _=>False) (m:=0) (A4x.none λ_ _ _ _ h=>h) λv d H Q _ h=>absurd h (by lia)|n+1=>xw T (uM T n) λv d H Q a c b k=>(jr v d rfl a (by lia) b k)
theorem xi(T:Txt K mg t):FO P w base T.a6 1 (BP t):=by
 refine T.a6.F.ok sk λ_ A _ s H _ Q E b h=>?_
 ·refine jK h ?_;clear h;rintro a f d rfl e k;have Ga0:A4x P w K mg base jk 0 t.aZ t.b6 ml (λ_ _ _ _=>False):=A4x.none λ_ _ _ _ h=>h;have c:kA K H (.ref a) (.ref t.aa):=.ins e T.am T.cQ.ha T.cQ.hn T.cQ.htk T.cQ.hm;have Ga1:A4x P w K mg base jk 0 t.aE t.aB ml (λ_ _ _ _=>False):=A4x.none λ_ _ _ _ h=>h;refine rsq (eH (gI (jP (jy kJ (by rfl) T.a5 kr (bm (pv 0) (bm (kG (v:=V.ty "list") rfl T.bn nq rfl) dV)))) (fm (fU (kF (N':=["member"]) (ix:=(List.replicate 1 none)) rfl (lX rfl (by decide+kernel) (by decide+kernel)) (lV rfl) (nR (pv 0)) (λ_ _ _ _=>(fR (i:=0) nZ)) (λ_ _ _ _=>(pcl Ga0 b T.a6 (fK 0)))))) ⟨gO⟩) (eH (gI (jP (jy kJ (by rfl) T.a5 kr (bm (pv 0) (bm (kG (v:=V.ty "tuple") rfl T.aq mI rfl) dV)))) (fm (fU (mE pK (by rfl) T.aq mI (bm (kF (N':=["member"]) (ix:=(List.replicate 1 none)) rfl (lX rfl (by decide+kernel) (by decide+kernel)) (lV rfl) (nR (pv 0)) (λ_ _ _ _=>(fR (i:=0) nZ)) (λ_ _ _ _=>(pcl Ga0 b T.a6 (fK 0)))) dV)))) ⟨gO⟩) (eH (gI (jP (jy kJ (by rfl) T.a5 kr (bm (pv 0) (bm (kG (v:=V.ty "dict") rfl T.cT qE rfl) dV)))) (fm (fU (pcl Ga1 b T.ag (fK 0)))) ⟨gO⟩) (fm (fU (pv 0)))))) ?_;refine iT _ rfl _ _ _ _ rfl c (uc T.dg (by decide+kernel)) false rfl (iz ?_);refine iT _ rfl _ _ _ _ rfl c (uc T.d9 (by decide+kernel)) false rfl (iz ?_);exact iT _ rfl _ _ _ _ rfl c (uc T.dn (by decide+kernel)) false rfl (iz (bd _ rfl k))
theorem CC(T:Txt K mg t):FO P w base T.a6 2 (wA t):=by
 refine T.a6.F.ok sk λ_ A _ s H _ Q E l h=>?_
 ·refine fV h ?_;clear h;rintro p xs rfl e u ⟨n,k⟩;have Ga1:A4x P w K mg base jk 0 t.aE t.aB ml (λ_ _ _ _=>False):=A4x.none λ_ _ _ _ h=>h;refine rsq (eH (gI (jP (jy kJ (by rfl) T.a5 kr (bm (pv 0) (bm (kG (v:=V.ty "list") rfl T.bn nq rfl) dV)))) (fm (fU (kF (N':=["member"]) (ix:=(List.replicate 1 none)) rfl (lX rfl (by decide+kernel) (by decide+kernel)) (lV rfl) (nR (pv 0)) (λ_ _ _ _=>(fR (i:=0) nZ)) (λ_ _ _ _=>(pcl (xi T) l T.a6 (fK 0)))))) ⟨gO⟩) (eH (gI (jP (jy kJ (by rfl) T.a5 kr (bm (pv 0) (bm (kG (v:=V.ty "tuple") rfl T.aq mI rfl) dV)))) (fm (fU (mE pK (by rfl) T.aq mI (bm (kF (N':=["member"]) (ix:=(List.replicate 1 none)) rfl (lX rfl (by decide+kernel) (by decide+kernel)) (lV rfl) (nR (pv 0)) (λ_ _ _ _=>(fR (i:=0) nZ)) (λ_ _ _ _=>(pcl (xi T) l T.a6 (fK 0)))) dV)))) ⟨gO⟩) (eH (gI (jP (jy kJ (by rfl) T.a5 kr (bm (pv 0) (bm (kG (v:=V.ty "dict") rfl T.cT qE rfl) dV)))) (fm (fU (pcl Ga1 l T.ag (fK 0)))) ⟨gO⟩) (fm (fU (pv 0)))))) ?_;refine iT _ rfl _ _ _ _ rfl (.lst e) (oN "list") true rfl (nL ?_);refine .inl (iB _ rfl p rfl ⟨_,SqL.of e⟩ λD j=>?_)
  refine nF (K:=K) (a:=p) (D:=D) (xs:=xs) (λi f c=>A0k H c/\c D=some (.lst f)/\f=xs.take i)
   (fL (fI j) dh rfl) (λi f c ⟨d,_⟩=>SqL.of (d _ _ e)) ?_ ?_
  ·rintro i x f c g ⟨d,b,rfl⟩;refine iN (n x (gq g)) ?_;rintro a q m ⟨rfl,o⟩;have r:(xs.take i).length<=xs.length:=by rw[jd];lia
   refine gT True.intro _ rfl (mR a q m rfl (d _ _ o) b (gJ (by lia)) (gQ d j) ⟨dh,?_⟩);rw[gW,g];rfl
  ·rintro f c ⟨d,b,rfl⟩;rw[hZ]at b;exact k D c j d b
theorem HV(T:Txt K mg t):FO P w base T.ag 3 tM:=by
 refine T.ag.F.ok sM λ_ A _ s H _ Q E hr h=>?_
 ·refine gn h ?_;clear h;rintro d c ds rfl u hl ⟨D,k⟩;have hu:=nA hr;refine bd _ (@RS.r _ _ _ ⟨Ep (@jT _ _ _ _ _ (@lR _ _ 1 _ _ _ _ sM.nd rfl (.inl rfl) rV rfl (.inl rfl)) (@jT _ _ _ _ _ (rA PassesOwn.never rfl (DI (BC PySem.F.plainAttrs_dict PySem.F.slot_dict_items PySem.F.type_dict_items DV (pv 0))) (kC (n:=2) rfl (gP (fR (i:=2) sM.nd) (gP (fR (i:=3) sM.nd) kE))) (@nD _ _ _ (@pD _ _ _ _ _ _ _ _ _ hu (pv 1) (pv 2) (pcl (uM T 1) hr T.a6 (fK 3)) rfl))) (Fp (@nD _ _ _ (@qa _ _ _ _ (pv 1))))))⟩) ?_;intro ap;have nd:=ap.1 d c u;refine λp J=>?_;have N:d≠p:=gh u J;have m:upd H p (.dK []) d=some (.dK c):=by rw[eh N];exact u
  refine bd _ rfl (kX (.inr (.inr (.inl ⟨rfl,.inl ⟨_,m⟩⟩))) d _ rfl rfl m (.inl ⟨_,rfl⟩) λC g=>?_);have vp:p≠C:=gh dh g;have dv:d≠C:=gh m g;refine gE C d _ rfl dh (by rw[eh dv];exact m) (.inl (bd c rfl λo=>?_));have a4:H C=none:=by rw[eh vp.symm]at g;exact g
  have g0:A0k (upd H d (.frz o (.dK c))) (upd (upd (upd H p (.dK [])) C (pA C d)) d (.frz o (.dK c))):=λb v e=>by
   by_cases hb:b=d
   ·subst hb;rw[dh]at e⊢;exact e
   ·rw[eh hb]at e⊢;rw[eh (gh e a4),eh (gh e J)];exact e
  have a1:upd H d (.frz o (.dK c)) p=none:=by rw[eh N.symm];exact J
  have W:∀b,upd H d (.frz o (.dK c)) b=none->H b=none:=λb e=>by
   by_cases hb:b=d
   ·subst hb;rw[dh]at e;cases e
   ·rw[eh hb]at e;exact e
  refine EI (L:=c.map λq=>(kV q.1,q.2)) (λi Z f=>∃(o2 o3:zP)(l:zJ),Z=[Sro d,Sro p,o2,o3]/\A0k (upd H d (.frz o (.dK c))) f/\f p=some (.dK l)/\l.map (·.1)=(c.take i).map (·.1)/\Paired (λ(b:Key×V)(x:PyData)=>Rep (iF (λa=>H a=none/\a≠p) f) b.2 x) l (ds.take i))
   (iH none none [] rfl g0 (by rw[eh N.symm,eh vp,dh]) rfl .nil) (λi Z f zq=>by obtain⟨_,_,_,_,j,_⟩:=zq;exact j _ _ dh) ?_ ?_
  ·rintro i kx vx q Z f hx hq G;refine gn G ?_;clear G;rintro o2 o3 l rfl j M ⟨y,O⟩;rw[ju]at hx;obtain⟨⟨X,v⟩,R,e⟩:=nK.mp hx;cases e;refine iD (ic D R) ?_;rintro x a5 rv ⟨U,a3⟩;have B:A0k f (upd f q (.tup [kV X,v])):=fI hq;have a0:Rep (upd f q (.tup [kV X,v])) v x:=(rv.imp2 (λb ys z=>j _ _ (by rw[eh (gN z u (by intro w;cases w))];exact z)) λb ys z=>j _ _ (by rw[eh (gN z u (by intro w;cases w))];exact z)).same B;refine km q _ rfl (SqT.of dh) rfl _ _ rfl _ _ rfl (gk rfl _ (kX rfl v x rfl a0 U a3 λv' H6 S r6=>?_));have h6:=S _ _ (B _ _ M);have lw:l.length=(c.take i).length:=by have:=congrArg List.length y;simpa using this
   have a7:(c.take i).length<=c.length:=by rw[jd];lia
   refine ig _ rfl _ rfl p _ rfl (C7r.k (k:=X) h6 (gJ (by lia))) ?_;have I:¬(H p=none/\p≠p):=λz=>z.2 rfl;refine iH _ _ _ rfl (gQ (j.trans (B.trans S)) a1) dh ?_ ?_
   ·rw[yg nd R l y v',gW,R,gy,gy,y];rfl
   ·rw[yg nd R l y v',gW,a5];refine jN (Paired.mapP O λ_ _ z=>z.same (oQ (mF (B.trans S)) I)) (.cons (r6.same ((oe (A0k.refl _) λa ob ea ha=>⟨?_,λz=>?_⟩).trans (oQ (A0k.refl _) I))) .nil)
    ·exact W a (j.free (B.free ha))
    ·subst z;rw[B _ _ M]at ha;cases ha
  ·rintro Z f G;refine gn G ?_;clear G;rintro o2 o3 l rfl j M ⟨y,O⟩;have ld:=Paired.length D;rw[eA,hZ]at y;rw[eA,ld,hZ]at O;have Y:f d=some (.frz o (.dK c)):=j _ _ dh;refine iC d o _ Y (iK (.inl ⟨_,rfl⟩) (λo' u' z=>by have z:H d=some (.frz o' u'):=z;rw[u]at z;cases z) _ rfl ?_);have a2:¬(H d=none/\d≠p):=λz=>by rw[u]at z;cases z.1
   exact k p l _ J (sq u j) (by rw[eh N.symm];exact M) y (Paired.mapP O λ_ _ z=>z.same ((oQ (A0k.refl _) a2).trans (oe (A0k.refl _) λa ob _ h=>h.1)))
theorem Cv(T:Txt K mg t):FO P w base T.a6 4 tM:=by
 have Ga0:A4x P w K mg base jk 0 t.aZ t.b6 ml (λ_ _ _ _=>False):=A4x.none λ_ _ _ _ h=>h;refine T.a6.F.ok sk λ_ A _ s H _ Q E b h=>?_
 ·have c:=h;refine jK h ?_;clear h;rintro d e f rfl a _;refine rsq (eH (gI (jP (jy kJ (by rfl) T.a5 kr (bm (pv 0) (bm (kG (v:=V.ty "list") rfl T.bn nq rfl) dV)))) (fm (fU (kF (N':=["member"]) (ix:=(List.replicate 1 none)) rfl (lX rfl (by decide+kernel) (by decide+kernel)) (lV rfl) (nR (pv 0)) (λ_ _ _ _=>(fR (i:=0) nZ)) (λ_ _ _ _=>(pcl Ga0 b T.a6 (fK 0)))))) ⟨gO⟩) (eH (gI (jP (jy kJ (by rfl) T.a5 kr (bm (pv 0) (bm (kG (v:=V.ty "tuple") rfl T.aq mI rfl) dV)))) (fm (fU (mE pK (by rfl) T.aq mI (bm (kF (N':=["member"]) (ix:=(List.replicate 1 none)) rfl (lX rfl (by decide+kernel) (by decide+kernel)) (lV rfl) (nR (pv 0)) (λ_ _ _ _=>(fR (i:=0) nZ)) (λ_ _ _ _=>(pcl Ga0 b T.a6 (fK 0)))) dV)))) ⟨gO⟩) (eH (gI (jP (jy kJ (by rfl) T.a5 kr (bm (pv 0) (bm (kG (v:=V.ty "dict") rfl T.cT qE rfl) dV)))) (fm (fU (pcl (HV T) b T.ag (fK 0)))) ⟨gO⟩) (fm (fU (pv 0)))))) ?_;refine iT _ rfl _ _ _ _ rfl (.dK a) (pC (by decide+kernel) (by decide+kernel) (by decide+kernel)) false rfl (iz ?_);refine iT _ rfl _ _ _ _ rfl (.dK a) (pC (by decide+kernel) (by decide+kernel) (by decide+kernel)) false rfl (iz ?_);exact iT _ rfl _ _ _ _ rfl (.dK a) (oN "dict") true rfl (nL (bd _ rfl c))
def BG(A:Adr):Sp:=λa H Q E=>(tV 2 a H Q E\/wA A a H Q E)\/tM a H Q E
theorem nO(T:Txt K mg t):FO P w base T.a6 4 (BG t):=A4x.or (A4x.or ((uM T 2).mono (by lia)) ((CC T).mono (by lia))) (Cv T)
theorem GQ(T:Txt K mg t):FP P w mg base T.bH 5 (DH t):=by
 refine T.bH.F.ok GR λ_ A _ s H _ Q E y h=>?_
 ·refine ik h ?_;clear h;rintro p g l x ix ⟨rfl,m,C,B,k⟩;have u:=Br (ix:=ix);refine rsq (eH ⟨jH (pv 0) (pv 1) rfl⟩ (fm ⟨jH (pv 0) (pcl (nO T) y T.a6 (fK 2)) rfl⟩)) (kM _ rfl _ rfl p _ g [] rfl m T.bN T.bS (by decide) ?_);refine bd _ rfl (.inl (.inl (jr (.ref l) (nB ix) rfl (C.ins m) DZ (by lia) λq r j d=>?_)));have f:=j _ _ (dh (H:=H) (a:=p));refine fO (um (show Rep _ q (.list (ix.map kS)) from d)) ?_;rintro n I rfl D G;refine lH _ rfl p _ g _ rfl f T.bN T.bw (by show 1<1000;decide) ?_;show Q V.non (upd r p (.ins t.ab g (gX "indexes" (.ref n) (gX "array" (.str x) []))));rw[jS,ip (by decide+kernel),jS];refine k n _ dh (d.same λb o e=>?_) λb o c e=>?_
  ·obtain⟨c,v⟩:=jI e;have c:upd H p _ b=none:=c;have i:b≠p:=λz=>by rw[z,dh]at c;cases c
   rw[eh i]at c;exact lU c (by rw[eh i];exact v)
  rw[eh c];exact j _ _ (by rw[eh c];exact e)
def KB(p:zW)(H H':Hp):Prop:=∀b o,b≠p->H b=some o->H' b=some o
theorem KB.upd(k:KB p H H'):KB p H (upd H' p o):=λb u a e=>by rw[eh a];exact k b u a e
theorem KB.refl:KB p H H:=λ_ _ _ e=>e
theorem KB.trans(a:KB p H H')(b:KB p H' H2):KB p H H2:=λc o d e=>b c o d (a c o d e)
theorem KB.of(s:A0k H H'):KB p H H':=λb o _ e=>s _ _ e
theorem KB.free{b:zW}(k:KB p H H')(d:H' p=some u)(a:H' b=none):H b=none:=by
 cases e:H b with
 |none=>rfl
 |some o=>
  have c:b≠p:=λz=>by subst z;rw[d]at a;cases a
  rw[k b o c e]at a;cases a
theorem KB.kt(k:KB p H H')(a:H p=some u)(n:∀xs,u≠.tup xs):KT H H':=λb xs e=>k b _ (gN e a (n xs).symm) e
theorem KB.same(s:A0k H H2)(k:KB p H2 H')(a:H p=none):A0k H H':=λb o e=>k b o (gh e a) (s _ _ e)
abbrev AR(S:zV)(H:Hp)(kvs:zJ)(es:zB):Prop:=Paired (λ(p:Key×V)(e:Str×List Str)=>p.1=Sum.inr e.1/\∃b,p.2=.ref b/\S b/\H b=some (.lst (e.2.map V.str))) kvs es
theorem AR.imp(h:AR S H kvs es)(f:∀b xs,S b->H b=some (.lst xs)->S' b/\H' b=some (.lst xs)):AR S' H' kvs es :=Paired.mapP h λ_ _ ⟨e,b,d,a,c⟩=>(kY e b d ((f b _ a c).1) ((f b _ a c).2))
theorem AR.same(h:AR S H kvs es)(s:A0k H H'):AR S H' kvs es:=h.imp λb a z e=>⟨z,s _ _ e⟩
theorem AR.src{S:zV}{H:Hp}:∀{kvs:zJ}{es:zB},AR S H kvs es->(∀e∈es,e.2.length<=100)->Paired (λ(a:Key×V)(x:PyData)=>Rep H a.2 x/\PyData.depth x<=1/\cnt x<=100000) kvs (es.map λe=>jn e.2)|_,_,.nil,_=>.nil|_,_,@Paired.cons _ _ _ p e _ _ ⟨_,b,z2,_,z4⟩ t,h=>by obtain⟨d,f⟩:=nT e.2;have:=h e (.head _);exact .cons (fL (by rw[z2];exact mL z4) d (by show cnt (jn e.2)<=100000;lia)) (AR.src t λx c=>h x (.tail _ c))
theorem we{S S':zV}{H H':Hp}:∀{kvs c:zJ}{es:zB},AR S H kvs es->c.map (·.1)=kvs.map (·.1)->Paired (λ(b:Key×V)(x:PyData)=>Rep (iF S' H') b.2 x) c (es.map λe=>jn e.2)->AR S' H' c es
 |_,[],_,.nil,_,_=>.nil
 |_,_::_,_,.nil,ks,_=>by cases ks
 |_,[],_,.cons _ _,ks,_=>by cases ks
 |_,q::r,_,@Paired.cons _ _ _ p e _ _ ⟨z1,_⟩ t,ks,pr=>by
  rw[gA,gA]at ks;injection ks with k1 k2;rw[gA]at pr
  cases pr with
  |cons a pr=>obtain⟨b,f,d⟩:=pZ a;exact .cons (kY (k1.trans z1) b f ((jI d).1) ((jI d).2)) (we t k2 pr)
abbrev rm(kvs:zJ)(a:zI):Prop:=Paired (λ(p:Key×V)(i:Int)=>p.2=.int i) kvs a
theorem xW{H:Hp}:∀{kvs:zJ}{b:zI},rm kvs b->Paired (λ(a:Key×V)(x:PyData)=>Rep H a.2 x/\PyData.depth x<=1/\cnt x<=100000) kvs (b.map PyData.int)|_,_,.nil=>.nil|_,_,.cons a t=>.cons (fL (by rw[a];exact .int _) (by simp[PyData.depth]) (by simp[cnt])) (xW t)
theorem xf{S:zV}{H:Hp}:∀{kvs c:zJ}{d:zI},rm kvs d->c.map (·.1)=kvs.map (·.1)->Paired (λ(b:Key×V)(x:PyData)=>Rep (iF S H) b.2 x) c (d.map PyData.int)->c=kvs
 |_,[],_,.nil,_,_=>rfl
 |_,_::_,_,.nil,ks,_=>by cases ks
 |_,[],_,.cons _ _,ks,_=>by cases ks
 |_,q::r,_,@Paired.cons _ _ _ p i _ _ a t,ks,pr=>by
  rw[gA,gA]at ks;injection ks with k1 k2;rw[gA]at pr
  cases pr with
  |cons b pr=>rw[xf t k2 pr];have e:=xc b;have:q=p:=Prod.ext k1 (e.trans a.symm);rw[this]
def EQ(A:Adr):Sp:=λf H Q _=>∃(p e l m:zW)(n:V)(x:Str)(b d:zC),f=[.ref p,.str x,.ref l,.ref m,n]/\H p=some (.ins A.aa e [])/\H l=some (.lst (b.map V.str))/\H m=some (.lst (d.map V.str))/\b.length<=1000/\d.length<=1000/\
 ∀(c u:zW)(a:Hp),H c=none->H u=none->a p=some (.ins A.aa e [("name",.str x),("axes",.ref c),("sums",.ref u),("term",n)])->a c=some (.lst (b.map V.str))->a u=some (.lst (d.map V.str))->KB p H a->Q .non a
abbrev clo(A:Adr)(dx:zW)(b:Int)(l a tb c o:zW):HO:=.ins A.a8 dx [("wheel",.int b),("lengths",.ref l),("arrays",.ref a),("tables",.ref tb),("lines",.ref c),("outs",.ref o)]
def Eo(A:Adr):Sp:=λB H Q _=>∃(p i u s y v t:zW)(r:Int)(g w:zJ)(C:zI)(h:zB)(n l:zC)(f:zM)(S:zV),B=[.ref p,.int r,.ref u,.ref s,.ref y,.ref v,.ref t]/\H p=some (.ins A.a8 i [])/\
 H u=some (.dK g)/\rm g C/\g.length<=1000/\H s=some (.dK w)/\AR S H w h/\h.length<=1000/\(∀e∈h,e.2.length<=100)/\H y=some (.lst (n.map V.str))/\n.length<=1000/\H v=some (.lst f)/\f.length<=1000/\(∀x∈f,∃a i z,x=.ref a/\a≠p/\H a=some (.ins A.aa i z))/\H t=some (.lst (l.map V.str))/\l.length<=1000/\
 ∀(m o q k j:zW)(d:zJ)(c:Hp),c p=some (clo A i r m o q k j)->H m=none->c m=some (.dK g)->H o=none->c o=some (.dK d)->AR (λb=>H b=none) c d h->H q=none->c q=some (.lst (n.map V.str))->H k=none->c k=some (.lst f)->H j=none->c j=some (.lst (l.map V.str))->KB p H c->Q .non c
theorem Hd(T:Txt K mg t):FP P w mg base T.bG 5 (EQ t):=by
 refine T.bG.F.ok GY λ_ A _ s H _ Q E S h=>?_
 ·refine ik h ?_;clear h;rintro p e l m n ⟨x,M,L,rfl,f,O,U,ly,lz,k⟩;obtain⟨c2,c3⟩:=nT M;obtain⟨d2,d3⟩:=nT L;have lp:l≠p:=gN O f (by intro z;cases z);have Y:m≠p:=gN U f (by intro z;cases z);have Z:∀v:V,gX "axes" v [("name",.str x)]=([("name",.str x),("axes",v)]:zK):=λv=>by rw[ip (by decide+kernel),jS]
  have e2:∀u v:V,gX "sums" v [("name",.str x),("axes",u)]=([("name",.str x),("axes",u),("sums",v)]:zK):=λu v=>by rw[ip (by decide+kernel),ip (by decide+kernel),jS]
  have X:∀G u v:V,gX "term" v [("name",.str x),("axes",G),("sums",u)]=([("name",.str x),("axes",G),("sums",u),("term",v)]:zK):=λG u v=>by rw[ip (by decide+kernel),ip (by decide+kernel),ip (by decide+kernel),jS]
  refine rsq (eH ⟨jH (pv 0) (pv 1) rfl⟩ (eH ⟨jH (pv 0) (pcl (nO T) S T.a6 (fK 2)) rfl⟩ (eH ⟨jH (pv 0) (pcl (nO T) S T.a6 (fK 3)) rfl⟩ (fm ⟨jH (pv 0) (pv 4) rfl⟩)))) (kM _ rfl _ rfl p _ e [] rfl f T.am T.cg (by decide) ?_);rw[jS];have i:KB p H (upd H p (.ins t.aa e [("name",.str x)])):=KB.refl.upd;refine bd _ rfl (.inl (.inl (jr (.ref l) (jn M) rfl (mL (i _ _ lp O)) (by lia) (by lia) λv' N R B=>?_)));have o:=R _ _ (dh (H:=H) (a:=p));obtain⟨c,rfl,D⟩:=pZ B;obtain⟨q,D⟩:=jI D;have d:H c=none:=i.free dh q;have J:c≠p:=λz=>by subst z;rw[f]at d;cases d
  refine lH _ rfl p _ e _ rfl o T.am T.bo (by show 1<1000;decide) ?_;rw[Z];have C:KB p H (upd N p (.ins t.aa e [("name",.str x),("axes",.ref c)])):=(i.trans (KB.of R)).upd;refine bd _ rfl (.inl (.inl (jr (.ref m) (jn L) rfl (mL (C _ _ Y U)) (by lia) (by lia) λa0 W g y=>?_)));have I:=g _ _ (dh (H:=N) (a:=p));obtain⟨u,rfl,r⟩:=pZ y;obtain⟨j,r⟩:=jI r;have b:H u=none:=C.free dh j;have up:u≠p:=λz=>by subst z;rw[f]at b;cases b
  refine lH _ rfl p _ e _ rfl I T.am T.aN (by show 2<1000;decide) ?_;rw[e2];refine kM _ rfl _ rfl p _ e _ rfl dh T.am T.cf (by show 3<1000;decide) ?_;show Q V.non (upd (upd W p _) p _);rw[oK,X];exact k c u _ d b dh (by rw[eh J];exact g _ _ (by rw[eh J];exact D)) (by rw[eh up];exact r) (C.trans (KB.of g)).upd
theorem Hk(T:Txt K mg t):FP P w mg base T.bu 5 (Eo t):=by
 refine T.bu.F.ok HN λ_ A _ s H _ Q E U h=>?_
 ·refine qC h ?_;clear h;rintro p c ld ad tl lv ol a lk ak is es tb os ⟨xs,S,rfl,hp,G,il,ll,I,ar,c5,N,J,c4,L,a2,b2,W,c1,k⟩;have f1:∀v:V,gX "lengths" v [("wheel",.int a)]=([("wheel",.int a),("lengths",v)]:zK):=λv=>by rw[ip (by decide+kernel),jS]
  have f2:∀u v:V,gX "arrays" v [("wheel",.int a),("lengths",u)]=([("wheel",.int a),("lengths",u),("arrays",v)]:zK):=λu v=>by rw[ip (by decide+kernel),ip (by decide+kernel),jS]
  have f3:∀i u v:V,gX "tables" v [("wheel",.int a),("lengths",i),("arrays",u)]=([("wheel",.int a),("lengths",i),("arrays",u),("tables",v)]:zK):=λi u v=>by rw[ip (by decide+kernel),ip (by decide+kernel),ip (by decide+kernel),jS]
  have f4:∀i o u v:V,gX "lines" v [("wheel",.int a),("lengths",i),("arrays",o),("tables",u)]=([("wheel",.int a),("lengths",i),("arrays",o),("tables",u),("lines",v)]:zK):=λi o u v=>by rw[ip (by decide+kernel),ip (by decide+kernel),ip (by decide+kernel),ip (by decide+kernel),jS]
  have f5:∀i o u3 u v:V,gX "outs" v [("wheel",.int a),("lengths",i),("arrays",o),("tables",u3),("lines",u)]=([("wheel",.int a),("lengths",i),("arrays",o),("tables",u3),("lines",u),("outs",v)]:zK):=λi o u3 u v=>by rw[ip (by decide+kernel),ip (by decide+kernel),ip (by decide+kernel),ip (by decide+kernel),ip (by decide+kernel),jS]
  have q:∀{b:zW}{u:HO},H b=some u->(∀C d fs,u≠.ins C d fs)->b≠p:=λe n z=>by subst z;rw[hp]at e;cases e;exact n _ _ _ rfl
  have f:∀{b:zW},H b=none->b≠p:=λe z=>by subst z;rw[hp]at e;cases e
  refine rsq (eH ⟨jH (pv 0) (pv 1) rfl⟩ (eH ⟨jH (pv 0) (pcl (nO T) U T.a6 (fK 2)) rfl⟩ (eH ⟨jH (pv 0) (pcl (nO T) U T.a6 (fK 3)) rfl⟩ (eH ⟨jH (pv 0) (pcl (nO T) U T.a6 (fK 4)) rfl⟩ (eH ⟨jH (pv 0) (pcl (nO T) U T.a6 (fK 5)) rfl⟩ (fm ⟨jH (pv 0) (pcl (nO T) U T.a6 (fK 6)) rfl⟩)))))) (kM _ rfl _ rfl p _ c [] rfl hp T.af T.cS (by decide) ?_);rw[jS];obtain⟨G0,hG0⟩:∃G0,G0=upd H p (.ins t.a8 c [("wheel",.int a)]):=⟨_,rfl⟩;rw[<-hG0];have p0:G0 p=some (.ins t.a8 c [("wheel",.int a)]):=by rw[hG0];exact dh
  have k0:KB p H G0:=by rw[hG0];exact KB.refl.upd
  refine bd _ rfl (.inr (iH ld lk (is.map PyData.int) rfl (k0 _ _ (q G (by intros;intro z;cases z)) G) (by lia) (xW il) λg a9 H1 b7 s1 h1 ks cp=>?_));have ek:=xf il ks cp;subst ek;have r:H g=none:=k0.free p0 b7;refine lH _ rfl p _ c _ rfl (s1 _ _ p0) T.af T.ah (by show 1<1000;decide) ?_;rw[f1];obtain⟨G1,hG1⟩:∃G1,G1=upd H1 p (.ins t.a8 c [("wheel",.int a),("lengths",.ref g)]):=⟨_,rfl⟩;rw[<-hG1];have Y:G1 p=some (.ins t.a8 c [("wheel",.int a),("lengths",.ref g)]):=by rw[hG1];exact dh
  have y:KB p H G1:=by rw[hG1];exact(k0.trans (KB.of s1)).upd
  have c0:G1 g=some (.dK a9):=by rw[hG1,eh (f r)];exact h1
  have R:AR (λb=>S b) G1 ak es:=ar.imp λb ys z e=>⟨z,y _ _ (q e (by intros;intro z;cases z)) e⟩;refine bd _ rfl (.inr (iH ad ak _ rfl (y _ _ (q I (by intros;intro z;cases z)) I) (by have:=Paired.length ar;lia) (R.src N) λj m H2 a0 s2 h2 b5 b8=>?_));have b4:=we R b5 b8;have O:H j=none:=y.free Y a0;refine lH _ rfl p _ c _ rfl (s2 _ _ Y) T.af T.cN (by show 2<1000;decide) ?_;rw[f2];obtain⟨G2,hG2⟩:∃G2,G2=upd H2 p (.ins t.a8 c [("wheel",.int a),("lengths",.ref g),("arrays",.ref j)]):=⟨_,rfl⟩;rw[<-hG2];have p2:G2 p=some (.ins t.a8 c [("wheel",.int a),("lengths",.ref g),("arrays",.ref j)]):=by rw[hG2];exact dh
  have j2:KB p G1 G2:=by rw[hG2];exact(KB.of s2).upd
  have k2:=y.trans j2;have a4:G2 j=some (.dK m):=by rw[hG2,eh (f O)];exact h2
  have b1:AR (λb=>H b=none) G2 m es:=b4.imp λb ys z e=>⟨y.free Y z,by rw[hG2,eh (f (y.free Y z))];exact e⟩;obtain⟨c2,c3⟩:=nT tb;refine bd _ rfl (.inl (.inl (jr (.ref tl) (jn tb) rfl (mL (k2 _ _ (q J (by intros;intro z;cases z)) J)) (by lia) (by lia) λvt H3 s3 a1=>?_)));obtain⟨l,rfl,et⟩:=pZ a1;obtain⟨a7,et⟩:=jI et;have nt:H l=none:=k2.free p2 a7;refine lH _ rfl p _ c _ rfl (s3 _ _ p2) T.af T.cH (by show 3<1000;decide) ?_;rw[f3];obtain⟨G3,hG3⟩:∃G3,G3=upd H3 p (.ins t.a8 c [("wheel",.int a),("lengths",.ref g),("arrays",.ref j),("tables",.ref l)]):=⟨_,rfl⟩;rw[<-hG3];have p3:G3 p=some (.ins t.a8 c [("wheel",.int a),("lengths",.ref g),("arrays",.ref j),("tables",.ref l)]):=by rw[hG3];exact dh
  have Z:KB p G2 G3:=by rw[hG3];exact(KB.of s3).upd
  have X:=k2.trans Z;have a5:G3 l=some (.lst (tb.map V.str)):=by rw[hG3,eh (f nt)];exact et
  refine bd _ rfl (.inl (.inr (jr lv xs rfl (X _ _ (q L (by intros;intro z;cases z)) L) a2 (λx hx=>?_) λB H4 b9 s4 b3=>?_)))
  ·refine jK (b2 x hx) ?_;rintro b db fs rfl nb eb;exact iC b db fs rfl (X _ _ nb eb)
  have nv:H B=none:=X.free p3 b9;refine lH _ rfl p _ c _ rfl (s4 _ _ p3) T.af T.av (by show 4<1000;decide) ?_;rw[f4];obtain⟨G4,hG4⟩:∃G4,G4=upd H4 p (.ins t.a8 c [("wheel",.int a),("lengths",.ref g),("arrays",.ref j),("tables",.ref l),("lines",.ref B)]):=⟨_,rfl⟩;rw[<-hG4];have p4:G4 p=some (.ins t.a8 c [("wheel",.int a),("lengths",.ref g),("arrays",.ref j),("tables",.ref l),("lines",.ref B)]):=by rw[hG4];exact dh
  have D:KB p G3 G4:=by rw[hG4];exact(KB.of s4).upd
  have k4:=X.trans D;have a3:G4 B=some (.lst xs):=by rw[hG4,eh (f nv)];exact b3
  obtain⟨o2,o3⟩:=nT os;refine bd _ rfl (.inl (.inl (jr (.ref ol) (jn os) rfl (mL (k4 _ _ (q W (by intros;intro z;cases z)) W)) (by lia) (by lia) λvo H5 s5 b6=>?_)));obtain⟨o',rfl,eo⟩:=pZ b6;obtain⟨b0,eo⟩:=jI eo;have no:H o'=none:=k4.free p4 b0;refine lH _ rfl p _ c _ rfl (s5 _ _ p4) T.af T.d8 (by show 5<1000;decide) ?_;show Q V.non (upd H5 p _);rw[f5];have j5:KB p G4 (upd H5 p (clo t c a g j l B o')):=(KB.of s5).upd;have M:=λ{b:zW}(hb:H b=none){u:HO}(e:G4 b=some u)=>j5 _ _ (f hb) e;exact k g j l B o' m _ dh r (M r (D _ _ (f r) (Z _ _ (f r) (j2 _ _ (f r) c0)))) O (M O (D _ _ (f O) (Z _ _ (f O) a4))) (b1.imp λb ys z e=>⟨z,M z (D _ _ (f z) (Z _ _ (f z) e))⟩) nt (M nt (D _ _ (f nt) a5)) nv (M nv a3) no (by rw[eh (f no)];exact eo) (k4.trans j5)
def Gd:Tm->Prop|.read _ ix=>ix.length<=100|.sum _ b=>Gd b|.pair _ l r=>Gd l/\Gd r|.guard _ _ _ l r=>Gd l/\Gd r|_=>True
structure B4u(n:Nat)(u:Tm)(H:Hp)(d l:zW)(kvs lk:zJ):Prop where
 good:Gd u
 deep:dep u<=n
 hd:H d=some (.dK kvs)
 at_:vJ kvs u
 hl:H l=some (.dK lk)
 ax:∃AX,Axs AX u/\wa AX lk
 few:kvs.length+n<=1000
 most:(rd (ai lk) u (ai kvs)).length<=100000
theorem B4u.same{u:Tm}(h:B4u n u H d l kvs lk)(s:A0k H H'):B4u n u H' d l kvs lk:=⟨h.good,h.deep,s _ _ h.hd,h.at_,s _ _ h.hl,h.ax,h.few,h.most⟩
theorem B4u.left{o:Op3}{a:Tm}(h:B4u (n+1) (.pair o a b) H d l kvs lk):B4u n a H d l kvs lk:=by obtain⟨AX,i,g⟩:=h.ax;have e:=h.deep;have f:=h.few;have c:=h.most;simp only [dep]at e;simp only [rd,gc]at c;exact⟨h.good.1,by lia,h.hd,λx j=>h.at_ x (.inl j),h.hl,(bd AX i.1 g),by lia,by lia⟩
theorem B4u.right{o:Op3}{a:Tm}(h:B4u (n+1) (.pair o a b) H d l kvs lk):B4u n b H d l kvs lk:=by obtain⟨AX,i,g⟩:=h.ax;have e:=h.deep;have f:=h.few;have c:=h.most;simp only [dep]at e;simp only [rd,gc]at c;exact⟨h.good.2,by lia,h.hd,λx j=>h.at_ x (.inr j),h.hl,(bd AX i.2 g),by lia,by lia⟩
theorem B4u.inner{a:Tm}(h:B4u (n+1) (.guard x lo hi a b) H d l kvs lk)(c:lo<=ai kvs x/\ai kvs x<hi):B4u n a H d l kvs lk/\rd (ai lk) (.guard x lo hi a b) (ai kvs)=rd (ai lk) a (ai kvs):=by
 obtain⟨AX,k,j⟩:=h.ax;have g:=h.deep;have i:=h.few;have f:=h.most;have e:rd (ai lk) (.guard x lo hi a b) (ai kvs)=rd (ai lk) a (ai kvs):=by simp only [rd];rw[bz c]
 rw[e]at f;simp only [dep]at g;exact⟨⟨h.good.1,by lia,h.hd,λx m=>h.at_ x (.inr (.inl m)),h.hl,(bd AX k.2.1 j),by lia,f⟩,e⟩
theorem B4u.outer{a:Tm}(h:B4u (n+1) (.guard x lo hi a b) H d l kvs lk)(c:¬(lo<=ai kvs x/\ai kvs x<hi)):B4u n b H d l kvs lk/\rd (ai lk) (.guard x lo hi a b) (ai kvs)=rd (ai lk) b (ai kvs):=by
 obtain⟨AX,k,j⟩:=h.ax;have g:=h.deep;have i:=h.few;have f:=h.most;have e:rd (ai lk) (.guard x lo hi a b) (ai kvs)=rd (ai lk) b (ai kvs):=by simp only [rd];rw[bp c]
 rw[e]at f;simp only [dep]at g;exact⟨⟨h.good.2,by lia,h.hd,λx m=>h.at_ x (.inr (.inr m)),h.hl,(bd AX k.2.2 j),by lia,f⟩,e⟩
theorem B4u.gat{a:Tm}(h:B4u n (.guard x lo hi a b) H d l kvs lk)(s:A0k H H'):B2i H' d (.str x) (some (.int (ai kvs x))):=by have g:=B2i.k (H:=H') (a:=d) (k:=Sum.inr x) (s _ _ h.hd);rw[h.at_ x (.inl rfl)]at g;exact g
def RdQ(H:Hp)(rs:List (Str×List Int))(Q:VK):Prop:=∀(p:zW)(b:zM)(a:Hp),H p=none->A0k H a->a p=some (.lst b)->Rds a b rs->Q (.ref p) a
def Gn:Sp:=λb H Q _=>∃(x:Str)(z:Int)(d:zW)(a:zJ),b=[.str x,.int z,.ref d]/\H d=some (.dK a)/\(¬x=""->fN a (Sum.inr x)=some (.int (ai a x)))/\Q (.int (if x="" then z else ai a x+z)) H
def FE(A:Adr):Sp:=λh H Q _=>∃(o g d l:zW)(a:Str)(c:zL)(b:zJ),h=[.ref o,.ref d]/\H o=some (.ins A.ab g [("array",.str a),("indexes",.ref l)])/\Rep H (.ref l) (nB c)/\c.length<=100/\H d=some (.dK b)/\
 (∀e∈c,¬e.1=""->fN b (Sum.inr e.1)=some (.int (ai b e.1)))/\∀(p:zW)(f:Hp),H p=none->A0k H f->f p=some (.tup ((iQ (ai b) c).map V.int))->Q (.ref p) f
def EA(A:Adr):Sp:=λf H Q _=>∃(o e d:zW)(x:Str)(c b:Int)(u v:V)(a:zJ),f=[.ref o,.ref d]/\H o=some (.ins A.a9 e [("axis",.str x),("low",.int c),("high",.int b),("inner",u),("outer",v)])/\B2i H d (.str x) (some (.int (ai a x)))/\
 (c<=ai a x/\ai a x<b->Q u H)/\(¬(c<=ai a x/\ai a x<b)->Q v H)
def qW(A:Adr)(n:Nat)(e:Tm->Prop):Sp:=λc H Q _=>∃(v:V)(u:Tm)(d l:zW)(a b:zJ),c=[v,.ref d,.ref l]/\e u/\Ob A H v u/\B4u n u H d l a b/\RdQ H (rd (ai b) u (ai a)) Q
theorem Gw(T:Txt K mg t):FO P w base T.bZ 1 Gn:=by
 refine T.bZ.F.ok Gp λ_ A _ s H _ Q E f h=>?_
 ·refine iN h ?_;clear h;rintro x z d ⟨l,rfl,c,i,k⟩;have j:=nA f;refine rsq (eH (gI (iA lA (pv 0) je) (fm (fU (pv 1))) ⟨gO⟩) (fm (fU (fQ jQ (ng j (pv 2) (pv 0)) (pv 1))))) ?_;refine jA _ rfl rfl _ rfl (iP (λh=>?_) (λh=>?_))
  ·rw[bz (by injection h)]at k;exact bd _ rfl k
  ·have b:¬x="":=λe=>h (by rw[e]);rw[bp b]at k;have g:=B2i.k (H:=H) (a:=d) (k:=Sum.inr x) c;rw[i b]at g;exact ig _ rfl _ rfl d _ rfl g (fZ _ rfl _ _ rfl rfl k)
theorem Ii(T:Txt K mg t):FP P w mg base T.aR 2 (FE t):=by
 refine T.aR.F.ok Ih λ_ A _ s H _ Q E M h=>?_
 ·refine ik h ?_;clear h;rintro o U d l a ⟨ix,m,rfl,J,W,N,G,I,k⟩;refine fO (um (show Rep H (.ref l) (.list (ix.map kS)) from W)) λ_ R q y z=>?_;cases q;have B:=z.len;rw[eA]at B;refine rsq (fm (fU (mE pK (by rfl) T.aq mI (bm (kF (N':=["axis","shift","at"]) (ix:=(List.replicate 2 none++[some 1])) (g:=qQ K 2 (oE (mY 0) (oE (mY 1) qV))) rfl (qk (x:="at") rfl rfl rfl (by decide+kernel) (by decide+kernel)) (qo (N0:=["axis","shift"]) rfl (.inl rfl) (by walk_at"ix")) (jl (jw (pv 0) rfl)) (λ_ _ _ _=>(kC (n:=2) rfl (gP (fR (i:=0) yu) (gP (fR (i:=1) yu) kE)))) (λ_ _ _ _=>(pcl (Gw T) M T.bZ (bm (pv 0) (bm (pv 1) (fK 2)))))) dV)))) ?_;refine jf _ rfl o _ U _ _ rfl J T.bN T.bw (by walk_at"lk") (fJ l rfl ⟨_,SqL.of y⟩ λD v=>?_);refine nF (K:=K) (a:=l) (D:=D) (xs:=R) (λi j f=>A0k H f/\f D=some (.lst j)/\j=(iQ (ai m) (ix.take i)).map V.int) (fL (fI v) dh rfl) (λi j f ⟨c,_⟩=>SqL.of (c _ _ y)) ?_ ?_
  ·rintro i x j f u ⟨c,b,rfl⟩;have L:i<ix.length:=by have:=(fY.mp u).1;lia
   obtain⟨X,r,S⟩:=z.get2 u;have e:ix[i]?=some ix[i]:=gU L;rw[ju,e]at r;cases r;obtain⟨q,rfl,O⟩:=BY S;refine km q _ rfl (SqT.of (c _ _ O)) rfl _ _ rfl _ _ rfl (iK rfl ⟨rfl,True.intro⟩ _ rfl (ma _ rfl _ rfl (ix[i].1) (ix[i].2) d (iU m rfl (c _ _ G) (I _ (gq e)) ?_)));refine iV b (gJ (by simp[iQ];lia)) (gQ c v) dh ?_;rw[gW,e,jt];unfold iQ;rw[gy,gy];rfl
  ·rintro j f ⟨c,b,rfl⟩;rw[B,hZ]at b;exact gF D _ rfl (.inl ⟨SqL.of b,λp C=>k p _ (c.free C) (c.trans (fI C)) dh⟩)
def CA(A:Adr):Sp:=λf H Q _=>∃(o e d:zW)(x:Str)(c b:Int)(u v:V)(a:zJ),f=[.ref o,.ref d]/\H o=some (.ins A.a9 e [("axis",.str x),("low",.int c),("high",.int b),("inner",u),("outer",v)])/\B2i H d (.str x) (some (.int (ai a x)))/\Q (.bl (decide (c<=ai a x/\ai a x<b))) H
theorem Is(T:Txt K mg t):FP P w mg base T.aH 1 (CA t):=by
 refine T.aH.F.ok Ir λ_ A _ s H _ Q E l h=>?_
 ·refine jB h ?_;clear h;rintro o i d x c f u v a ⟨rfl,j,g,k⟩;have m:=nA l;refine rsq (fm (fU (xz rk pW (jw (pv 0) rfl) (ng m (pv 1) (jw (pv 0) rfl)) (jw (pv 0) rfl)))) ?_;refine jf _ rfl o _ i _ _ rfl j T.ae T.cy (by walk_at"lk") (bd _ rfl (jf _ rfl o _ i _ _ rfl j T.ae T.bQ (by walk_at"lk") (fC d _ rfl g ⟨_,(jA _ rfl rfl _ rfl (iP (λb=>?_) (λb=>?_)))⟩)))
  ·have b:c<=ai a x:=b;refine jf _ rfl o _ i _ _ rfl j T.ae T.bR (by walk_at"lk") (fC _ _ rfl rfl ?_);have e:decide (c<=ai a x/\ai a x<f)=decide (ai a x<f):=by simp[b]
   rw[e]at k;exact k
  ·have b:¬c<=ai a x:=b;have e:decide (c<=ai a x/\ai a x<f)=false:=gK λz=>b z.1;rw[e]at k;exact k
theorem Iw(T:Txt K mg t):FP P w mg base T.ao 2 (EA t):=by
 have G:=@Is P w K mg base t T;refine T.ao.F.ok Ix λ_ A _ s H _ Q E l h=>?_
 ·refine jB h ?_;clear h;rintro o a d x j i u v f ⟨rfl,c,g,k,m⟩;refine rsq (eH (gI (jP (oO (pv 0) (fK 1))) (fm (fU (jw (pv 0) rfl))) ⟨gO⟩) (fm (fU (jw (pv 0) rfl)))) ?_;refine bd _ rfl (jF o _ a (kK _ 1 t.aL t.bx _ _ rfl c T.ae T.cB (by walk_at"lk") G (l.mono (by lia)) T.aH.b (bd _ rfl (iu o a d x j i u (gF v f rfl (iK c g _ rfl (iP (λe=>?_) (λe=>?_))))))))
  ·exact jf _ rfl o _ a _ _ rfl c T.ae T.bF (by walk_at"lk") (k e)
  ·exact jf _ rfl o _ a _ _ rfl c T.ae T.bA (by walk_at"lk") (m e)
theorem Ic(T:Txt K mg t)(n:Nat):A4x P w K mg base jk 1 t.aQ t.bK mi (qW t n λu=>∃z,u=.num z):=by
 refine T.bD.F.ok Id λ_ A _ s H _ Q E f h=>?_
 ·refine kn h ?_;clear h;rintro v u d l c e rfl ⟨z,rfl⟩ g b k;exact rsq (fm (fU (@hJ _ _ _ _ dV))) ⟨fT rfl,λp a=>k p [] _ a (fI a) dh .nil⟩
theorem Hv(T:Txt K mg t)(n:Nat):A4x P w K mg base jk 3 t.bt t.cb mi (qW t n λu=>∃z ix,u=.read z ix):=by
 have G:=@Ii P w K mg base t T;refine T.cv.F.ok HQ λ_ A _ s H _ Q E y h=>?_
 ·refine kn h ?_;clear h;rintro v u d l i I rfl ⟨z,ix,rfl⟩ C c k
  cases C with
  |@read a dx li _ _ e rp=>
   refine rsq (fm (fU (@hJ _ _ _ _ (bm (hW (bm (jw (pv 0) rfl) (bm (oO (pv 0) (fK 1)) dV))) dV)))) ?_
   refine⟨_,rfl,a,_,dx,_,_,rfl,e,T.bN,T.bS,(by walk_at"lk"),_,rfl,a,_,dx,_,2,t.aS,t.bE,_,_,rfl,e,T.bN,T.cJ,(by walk_at"lk"),G,y.mono (by lia),T.aR.b,_,rfl,
    a,dx,d,li,z,ix,i,rfl,e,rp,c.good,c.hd,λe B x=>c.at_ e.1 (gT x e B rfl),λq J L m D=>?_⟩
   refine⟨fT rfl,λr f=>⟨fT rfl,λp g=>?_⟩⟩;have j:=m.trans (fI (o:=.tup [.str z,.ref q]) f);exact k p [.ref r] _ (j.free g) (j.trans (fI g)) dh (.cons (fC r q rfl (uC g dh) (uC g (uC f D))) .nil)
def ROk(P:yB)(w:yD)(K:Frag)(mg:zE)(base:yA)(A:Adr)(n:Nat):Prop:=∀(H:Hp)(v:V)(u:Tm),Ob A H v u->dep u<=n->
 ∃(a C m:zW)(e:zK)(k:Nat)(f:zW)(i:zS)(g:zC)(j:Sp),v=.ref a/\H a=some (.ins C m e)/\Cls K C/\lQ K C "reads" f/\e.lookup ("reads":Str)=none/\A4x P w K mg base jk k f i g j/\k<=n+3/\A9v K i g []/\
  ∀(c:Hp)(d l:zW)(b h:zJ)(Q:VK),A0k H c->B4u n u c d l b h->RdQ c (rd (ai h) u (ai b)) Q->j [v,.ref d,.ref l] c Q E0
theorem tU(T:Txt K mg t)(k:Op3):Cls K (px t k):=by cases k with|plus=>exact T.eF|minus=>exact T.dR|times=>exact T.dW
theorem AG(T:Txt K mg t)(k:Op3):A1n K (px t k) "left":=by cases k with|plus=>exact T.cn|minus=>exact T.bY|times=>exact T.bT
theorem AZ(T:Txt K mg t)(k:Op3):A1n K (px t k) "right":=by cases k with|plus=>exact T.bW|minus=>exact T.bC|times=>exact T.bL
theorem BA(T:Txt K mg t)(k:Op3):lQ K (px t k) "reads" t.aj:=by cases k with|plus=>exact T.cW|minus=>exact T.cU|times=>exact T.cR
theorem HA(T:Txt K mg t)(W:ROk P w K mg base t n):A4x P w K mg base jk (n+4) t.aj t.cw mi (qW t (n+1) λu=>∃o x b,u=.pair o x b):=by
 refine T.cx.F.ok Hr λ_ A _ s H _ Q E hr h=>?_
 ·refine kn h ?_;clear h;rintro v u d l q lk rfl ⟨o,x,y,rfl⟩ ob f k
  cases ob with
  |@pair a dx _ u v _ _ e ob1 ob2=>have a1:=f.left;have Y:=f.right;have hm:=f.most;simp only [rd,gc]at hm;refine rsq (fm (fU (fQ oG (oO (jw (pv 0) rfl) (bm (pv 1) (fK 2))) (oO (jw (pv 0) rfl) (bm (pv 1) (fK 2)))))) ?_;refine jf _ rfl a _ dx _ _ rfl e (tU T o) (AG T o) (by walk_at"lk") ?_;refine jB (W H u x ob1 a1.deep) ?_;rintro U C' g m D S i j c ⟨rfl,I,X,J,O,L,N,C,M⟩;refine jF U C' g (kK m D S i j c rfl I X J O L (hr.mono (by lia)) C (iJ _ rfl _ rfl (M H d l q lk _ (A0k.refl _) a1 λp1 G Z a3 r h1 r1=>?_)));refine jf _ rfl a _ dx _ _ rfl (r _ _ e) (tU T o) (AZ T o) (by walk_at"lk") ?_;refine jB (W Z v y (ob2.imp r) Y.deep) ?_;rintro U C' g m D S i j c ⟨rfl,I,X,J,O,L,N,C,M⟩;refine jF U C' g (kK m D S i j c rfl I X J O L (hr.mono (by lia)) C (iJ _ rfl _ rfl (M Z d l q lk _ (A0k.refl _) (Y.same r) λp2 R H2 a0 z h2 r2=>?_)));have l1:=Paired.length r1;have l2:=Paired.length r2;refine iG p1 p2 _ _ rfl rfl (z _ _ h1) h2 (jR (by lia)) λp B=>?_;have s3:=r.trans (z.trans (fI (o:=.lst (G++R)) B));exact k p _ _ (r.free (z.free B)) s3 dh (Paired.app (r1.same (z.trans (fI B))) (r2.same (fI B)))
theorem HZ(T:Txt K mg t)(W:ROk P w K mg base t n):A4x P w K mg base jk (n+4) t.aX t.bX mi (qW t (n+1) λu=>∃x lo hi l r,u=.guard x lo hi l r):=by
 have G:=@Iw P w K mg base t T;refine T.bV.F.ok HS λ_ A _ s H _ Q E N h=>?_
 ·refine kn h ?_;clear h;rintro v u d l m Y rfl ⟨x,lo,hi,y,z,rfl⟩ Z g k
  cases Z with
  |@guard a dx _ _ _ u v _ _ e ob1 ob2=>
   refine rsq (fm (fU (oO (oO (pv 0) (fK 1)) (bm (pv 1) (fK 2))))) ?_
   refine⟨_,rfl,a,_,dx,_,2,t.au,t.aT,_,_,rfl,e,T.ae,T.b_,(by walk_at"lk"),G,N.mono (by lia),T.ao.b,_,rfl,
    a,dx,d,x,lo,hi,u,v,m,rfl,e,g.gat (A0k.refl _),λc=>?_,λc=>?_⟩
   ·obtain⟨q,O⟩:=g.inner c;rw[O]at k;refine jB (W H u y ob1 q.deep) ?_;rintro U C' i p C S j o f ⟨rfl,D,X,I,R,J,M,B,L⟩;exact jF U C' i (kK p C S j o f rfl D X I R J (N.mono (by lia)) B (iJ _ rfl _ rfl (L H d l m Y _ (A0k.refl _) q k)))
   ·obtain⟨q,O⟩:=g.outer c;rw[O]at k;refine jB (W H v z ob2 q.deep) ?_;rintro U C' i p C S j o f ⟨rfl,D,X,I,R,J,M,B,L⟩;exact jF U C' i (kK p C S j o f rfl D X I R J (N.mono (by lia)) B (iJ _ rfl _ rfl (L H d l m Y _ (A0k.refl _) q k)))
theorem rok(T:Txt K mg t):∀n:Nat,ROk P w K mg base t n
 |0=>λH v u g i=>absurd i (by have:=Df u;lia)
 |n+1=>λH v u g i=>by
  have W:=rok T n
  cases id g with
  |num e=>exact jF _ _ _ (kK _ _ _ _ _ _ rfl e T.cz T.cK (by walk_at"lk") (Ic T (n+1)) (by lia) T.bD.b λh d l c f Q s a k=>(ij _ _ (hU d l c f rfl ⟨_,rfl⟩ (g.imp s) a k)))
  |read e r=>exact jF _ _ _ (kK _ _ _ _ _ _ rfl e T.bN T.c_ (by walk_at"lk") (Hv T (n+1)) (by lia) T.cv.b λh d l c f Q s a k=>(ij _ _ (hU d l c f rfl (ij _ _ rfl) (g.imp s) a k)))
  |@pair _ _ o _ _ _ _ e o1 o2=>exact jF _ _ _ (kK _ _ _ _ _ _ rfl e (tU T o) (BA T o) (by walk_at"lk") (HA T W) (by lia) T.cx.b λh d l c f Q s a k=>(ij _ _ (hU d l c f rfl (jF _ _ _ rfl) (g.imp s) a k)))
  |guard e o1 o2=>exact jF _ _ _ (kK _ _ _ _ _ _ rfl e T.ae T.cV (by walk_at"lk") (HZ T W) (by lia) T.bV.b λh d l c f Q s a k=>(ij _ _ (hU d l c f rfl (ij _ _ (jF _ _ _ rfl)) (g.imp s) a k)))
structure LnM where
 nm:Str
 own:zC
 sums:zC
 tm:Tm
def B0s(A:Adr)(M:zQ)(H:Hp)(v:V)(e:LnM):Prop:=∃(a d c u:zW)(n:V),v=.ref a/\H a=some (.ins A.aa d [("name",.str e.nm),("axes",.ref c),("sums",.ref u),("term",n)])/\c∉M/\H c=some (.lst (e.own.map V.str))/\u∉M/\H u=some (.lst (e.sums.map V.str))/\Ob A (iF (λb=>b∉M) H) n e.tm
abbrev oJ(A:Adr)(M:zQ)(H:Hp)(xs:zM)(rows:List LnM):Prop:=Paired (B0s A M H) xs rows
theorem B0s.same{e:LnM}(h:B0s A M H v e)(s:A0k H H'):B0s A M H' v e:=by refine kO h ?_;clear h;rintro a g c u n rfl j k f i ⟨d,b⟩;exact iS a g c u n rfl (s _ _ j) k (s _ _ f) i (s _ _ d) (b.imp (mF s))
structure StM where
 k:Nat
 wd:Str
 ce:zI
 tu:zI
def qM(H:Hp)(v:V)(s:StM):Prop:=∃b c u,v=.ref b/\H b=some (.tup [.int (s.k:Nat),.str s.wd,.ref c,.ref u])/\H c=some (.tup (s.ce.map V.int))/\H u=some (.tup (s.tu.map V.int))
def atM(e:LnM)(s:StM):zJ:=hV [] (((e.own++e.sums).map (Sum.inr:Str->Key)).zip ((s.ce++s.tu).map V.int))
structure pV(lk:zJ)(e:LnM)(s:StM):Prop where
 lc:s.ce.length=e.own.length
 lt:s.tu.length=e.sums.length
 l8:e.own.length+e.sums.length<=8
 good:Gd e.tm
 deep:dep e.tm<=10
 at_:vJ (atM e s) e.tm
 ax:∃AX,Axs AX e.tm/\wa AX lk
 most:(rd (ai lk) e.tm (ai (atM e s))).length<=100000
def FF(A:Adr):Sp:=λi H Q _=>∃(p m l a j f o d:zW)(h:Int)(c:zJ)(g:zM)(M:zQ)(b:List LnM)(e:LnM)(s:StM),i=[.ref p,.ref d]/\H p=some (clo A m h l a j f o)/\H l=some (.dK c)/\H f=some (.lst g)/\oJ A M H g b/\qM H (.ref d) s/\b[s.k]?=some e/\
 (s.wd="start"->RdQ H [] Q)/\(s.wd≠"start"->pV c e s/\RdQ H (rd (ai c) e.tm (ai (atM e s))) Q)
def Ht(A:Adr):Sp:=λi H Q _=>∃(p m l a j f o d:zW)(h:Int)(g:zM)(M:zQ)(b:List LnM)(e:LnM)(s:StM),i=[.ref p,.ref d]/\H p=some (clo A m h l a j f o)/\H f=some (.lst g)/\oJ A M H g b/\qM H (.ref d) s/\b[s.k]?=some e/\
 ∀(q:zW)(c:Hp),A0k H c->C8y c (.ref q) (e.nm,s.ce)->Q (.ref q) c
theorem xL(acc:zJ):∀a:zJ,(hV acc a).length<=acc.length+a.length:=by
 intro a;unfold hV
 induction a generalizing acc with
 |nil=>simp
 |cons w r ih=>
  rw[List.foldl_cons];refine jU (ih _) ?_;have:=og acc w.1 w.2;rw[gZ]
  lia
theorem Ao(T:Txt K mg t):FO P w base T.aP 1 (Ht t):=by
 refine T.aP.F.ok qz λ_ A _ s H _ Q E hr h=>?_
 ·refine qC h ?_;clear h;rintro p S l a tb O o G Y j M B e m ⟨rfl,R,x,d,⟨b,c,u,L,N,J,hu⟩,C,k⟩;cases L;have v:=Paired.length d;have y:m.k<j.length:=by rw[v];exact(fY.mp C).1
  have g:j[m.k]?=some j[m.k]:=gU y;obtain⟨Z,f,z,U,ca,cu,n,r,I,_⟩:=ic d g;rw[C]at f;cases f;refine rsq (eH ⟨nC (pv 1) (kC (n:=4) rfl (gP (fR (i:=2) qz.nd) (gP (fR (i:=3) qz.nd) (gP (fR (i:=4) qz.nd) (gP (fR (i:=5) qz.nd) kE)))))⟩ (fm (fU (hW (bm (jw (iZ jx (jw (pv 0) rfl) (pv 2)) rfl) (fK 4)))))) ?_;refine bd _ rfl (km G _ rfl (SqT.of N) rfl _ _ rfl _ _ rfl ⟨_,(fZ _ rfl _ _ rfl rfl ?_)⟩);have X:atI j ((m.k:Nat):Int)=some (.ref z):=gD (by rw[g,r]);refine jf _ rfl p _ S _ _ rfl R T.af T.av (by walk_at"lk") (i12 _ rfl O _ _ _ rfl rfl (SqL.of x) X (kN z _ U _ _ rfl I T.am T.cg (by walk_at"lk") (fJ _ rfl (fT rfl) λq W=>?_)));have D:=fI (o:=.tup [.str e.nm,.ref c]) W;exact k q _ D (fC q c rfl dh (D _ _ J))
theorem FC(T:Txt K mg t):FO P w base T.cA 15 (FF t):=by
 refine T.cA.F.ok oS λ_ A _ s H _ Q E hr h=>?_
 ·refine qC h ?_;clear h;rintro p dx l a tb ln o st wh lk L M b0 e ⟨f,rfl,hp,hl,a0,C,⟨b,c,u,eb,hb,hc,hu⟩,hk,k1,k2⟩;cases eb;have a7:=Paired.length C;have a1:f.k<L.length:=by rw[a7];exact(fY.mp hk).1
  have B:L[f.k]?=some L[f.k]:=gU a1;obtain⟨e',y,J,da,ca,cu,n,a2,X,m1,h2,m2,h3,ob⟩:=ic C B;rw[hk]at y;cases y;refine rsq (eH ⟨nC (pv 1) (kC (n:=4) rfl (gP (fR (i:=2) oS.nd) (gP (fR (i:=3) oS.nd) (gP (fR (i:=4) oS.nd) (gP (fR (i:=5) oS.nd) kE)))))⟩ (eH (gI (iA lA (pv 3) je) (fm (fU (@hJ _ _ _ _ dV))) ⟨gO⟩) (eH (fX 6 oS.nd (iZ jx (jw (pv 0) rfl) (pv 2))) (eH (fX 7 oS.nd (Gg rfl (by rfl) T.cT (by rfl) T.fe (bm (fQ oG (jw (pv 6) rfl) (jw (pv 6) rfl)) (bm (fQ uF (pv 4) (pv 5)) dV)))) (fm (fU (oO (jw (pv 6) rfl) (bm (pv 7) (bm (jw (pv 0) rfl) dV))))))))) ?_;refine bd _ rfl (km st _ rfl (SqT.of hb) rfl _ _ rfl _ _ rfl ⟨_,(fZ _ rfl _ _ rfl rfl ?_)⟩);refine jA _ rfl rfl _ rfl (iP (λv=>?_) (λv=>?_))
  ·have v:f.wd="start":=by injection v
   exact⟨fT rfl,λq hq=>k1 v q [] _ hq (fI hq) dh .nil⟩
  have v:f.wd≠"start":=λz=>v (by rw[z]);obtain⟨g,kq⟩:=k2 v;have e0:atI L ((f.k:Nat):Int)=some (.ref J):=gD (by rw[B,a2]);refine jf _ rfl p _ dx _ _ rfl hp T.af T.av (by walk_at"lk") (i12 _ rfl ln _ _ _ rfl rfl (SqL.of a0) e0 ?_);have lc:=g.lc;have lt:=g.lt;have l8:=g.l8;refine jf _ rfl J _ da _ _ rfl X T.am T.bo (by walk_at"lk") (jf _ rfl J _ da _ _ rfl X T.am T.aN (by walk_at"lk") (iG ca cu _ _ rfl rfl h2 h3 (jR (by rw[eA,eA];lia)) λI O=>?_));have N:A0k H (upd H I (.lst (e.own.map V.str++e.sums.map V.str))):=fI O;have m:upd H I (.lst (e.own.map V.str++e.sums.map V.str)) I=some (.lst ((e.own++e.sums).map V.str)):=by rw[dh,gy]
  generalize upd H I (.lst (e.own.map V.str++e.sums.map V.str))=H1 at N m⊢;refine kM _ rfl _ rfl c u _ _ rfl rfl (N _ _ hc) (N _ _ hu) (jR (by rw[eA,eA];lia)) λtt G s2 r=>?_;have r:G tt=some (.tup ((f.ce++f.tu).map V.int)):=by rw[gy];exact r
  have S:=N.trans s2;refine hU I tt ((e.own++e.sums).map (Sum.inr:Str->Key)) ((f.ce++f.tu).map V.int) rfl (by rw[List.map_map];exact SqL.of (s2 _ _ m)) (SqT.of r) (by rw[eA,eA,gc,gc];lia) λd hd=>?_;have t3:A0k G (upd G d (.dK (hV [] (((e.own++e.sums).map (Sum.inr:Str->Key)).zip ((f.ce++f.tu).map V.int))))):=fI hd;have D:upd G d (.dK (hV [] (((e.own++e.sums).map (Sum.inr:Str->Key)).zip ((f.ce++f.tu).map V.int)))) d=some (.dK (atM e f)):=dh;have j:=S.trans t3;generalize upd G d (.dK (hV [] (((e.own++e.sums).map (Sum.inr:Str->Key)).zip ((f.ce++f.tu).map V.int))))=G3 at t3 D j⊢;refine jf _ rfl J _ da _ _ rfl (j _ _ X) T.am T.cf (by walk_at"lk") ?_;have a9:Ob t G3 n e.tm:=(ob.imp EH).imp j;refine jB (rok (P:=P) (w:=w) (base:=base) T 10 G3 n e.tm a9 g.deep) ?_;rintro a' C' W a8 k' f' Y a6 a3 ⟨rfl,e',c',m',l',F',b1,b',q'⟩;have x:=xL [] (((e.own++e.sums).map (Sum.inr:Str->Key)).zip ((f.ce++f.tu).map V.int));rw[List.length_zip,eA,eA,gc]at x;refine jF a' C' W (kK a8 k' f' Y a6 a3 rfl e' c' m' l' F' (hr.mono (by lia)) b' (bd _ rfl (jf _ rfl p _ dx _ _ rfl (j _ _ hp) T.af T.ah (by walk_at"lk") (q' G3 d l (atM e f) lk _ (A0k.refl _) ⟨g.good,g.deep,D,g.at_,j _ _ hl,g.ax,?_,g.most⟩ λp1 a4 a5 Z U R r1=>kq p1 a4 a5 (j.free Z) (j.trans U) R r1))));show(atM e f).length+10<=1000;unfold atM;simp only [kZ]at x
  lia
def B6u(H:Hp)(v:V)(s:Stp):Prop:=∃b c u,v=.ref b/\H b=some (.tup [.int s.1,.str s.2.1,.ref c,.ref u])/\H c=some (.tup (s.2.2.1.map V.int))/\H u=some (.tup (s.2.2.2.map V.int))
theorem B6u.kt{s:Stp}(h:B6u H v s)(k:KT H H'):B6u H' v s:=by refine gn h ?_;clear h;rintro b c u rfl e a d;exact gE b c u rfl (k _ _ e) (k _ _ a) (k _ _ d)
abbrev A5m(H:Hp)(xs:zM)(os:List Stp):Prop:=Paired (B6u H) xs os
theorem A5m.kt(h:A5m H xs os)(k:KT H H'):A5m H' xs os:=Paired.mapP h λ_ _ z=>z.kt k
def B5x(A:Adr)(M:zQ)(H:Hp)(v:V)(e:Rw):Prop:=∃(a b c u:zW)(n:V)(x:Str),v=.ref a/\H a=some (.ins A.aa b [("name",.str x),("axes",.ref c),("sums",.ref u),("term",n)])/\c∉M/\H c=some (.lst (e.own.map V.str))/\u∉M/\H u=some (.lst (e.sums.map V.str))
abbrev tT(A:Adr)(M:zQ)(H:Hp)(xs:zM)(rows:List Rw):Prop:=Paired (B5x A M H) xs rows
theorem B5x.imp(h:B5x A M H v e)(f:∀a C dx fs,H a=some (.ins C dx fs)->H' a=some (.ins C dx fs))(g:∀c xs,c∉M->H c=some (.lst xs)->c∉M'/\H' c=some (.lst xs)):B5x A M' H' v e:=by refine kn h ?_;clear h;rintro a dx c u n x rfl k j d ⟨i,b⟩;exact⟨a,(kN dx c u n x rfl (f _ _ _ _ k) ((g _ _ j d).1) ((g _ _ j d).2) ((g _ _ i b).1) ((g _ _ i b).2))⟩
theorem B5x.same(h:B5x A M H v e)(s:A0k H H'):B5x A M H' v e:=h.imp (λ_ _ _ _ z=>s _ _ z) λ_ _ y z=>⟨y,s _ _ z⟩
abbrev Sz(lk:zJ)(ys:zC)(ls:zI):Prop:=Paired (λ(y:Str)(n:Int)=>fN lk (Sum.inr y)=some (.int n)) ys ls
def Tot(lk:zJ)(rows:List Rw):Prop:=∀e∈rows,C6x e/\Sz lk e.own e.so/\Sz lk e.sums e.ss/\OkS e.own/\OkS e.sums
def A2f(H:Hp)(ps:zQ)(cs:List zI):Prop:=Paired (λ(p:zW)(c:zI)=>H p=some (.tup (c.map V.int))) ps cs
theorem A2f.imp{H H':Hp}:∀{ps:zQ}{cs:List zI},A2f H ps cs->(∀p xs,H p=some (.tup xs)->H' p=some (.tup xs))->A2f H' ps cs|_,_,.nil,_=>.nil|_,_,.cons r t,f=>.cons (f _ _ r) (A2f.imp t f)
theorem A2f.same{ps:zQ}(h:A2f H ps cs)(s:A0k H H'):A2f H' ps cs:=h.imp λ_ _ e=>s _ _ e
theorem A2f.lst{ys:zM}{ps:zQ}(h:A2f H ps cs)(e:H l=some (.lst xs)):A2f (upd H l (.lst ys)) ps cs :=h.imp λp a z=>by rw[eh (gN z e (by intro q;cases q))];exact z
theorem A2f.snoc{H:Hp}{p:zW}{c:zI}(e:H p=some (.tup (c.map V.int))):∀{ps:zQ}{cs:List zI},A2f H ps cs->A2f H (ps++[p]) (cs++[c])|_,_,.nil=>.cons e .nil|_,_,.cons r t=>.cons r (A2f.snoc e t)
theorem A2f.len{H:Hp}:∀{ps:zQ}{cs:List zI},A2f H ps cs->ps.length=cs.length|_,_,.nil=>rfl|_,_,.cons _ t=>by simp[A2f.len t]
theorem A2f.get{H:Hp}:∀{ps:zQ}{cs:List zI}{i:Nat}{p:zW},A2f H ps cs->ps[i]?=some p->∃c,cs[i]?=some c/\H p=some (.tup (c.map V.int))|_,_,_,_,.nil,e=>by simp at e|_,_,0,_,.cons r _,e=>by simp at e;subst e;exact bd _ rfl r|_,_,i+1,p,.cons _ t,e=>by obtain⟨c,a,b⟩:=A2f.get (i:=i) (p:=p) t (by simpa using e);exact bd c (by simpa using a) b
structure A3o(H:Hp)(a:zW)(cs:List zI):Prop where
 ex:∃ps:zQ,H a=some (.lst (ps.map V.ref))/\A2f H ps cs
theorem A3o.same(h:A3o H a cs)(s:A0k H H'):A3o H' a cs :=
 let⟨ps,h1,h2⟩:=h.ex
 ⟨ps,s _ _ h1,h2.same s⟩
def HR:Sp:=λe H Q _=>∃(a:zW)(n:Int)(b:List zI),e=[.ref a,.int n]/\A3o H a b/\(∀c∈b,c.length<=8)/\0<=n/\n<=60/\b.length<=4000/\
 ∀(p:zW)(d:Hp),H p=none->A0k H d->A3o d p (jv b n)->Q (.ref p) d
def GH:Sp:=λd H Q _=>∃(a:zW)(b:zI),d=[.ref a]/\H a=some (.lst (b.map V.int))/\pR b/\
 ∀(p:zW)(c:Hp),H p=none->A0k H c->A3o c p (gu b)->Q (.ref p) c
def AT:Sp:=λf H Q _=>∃(l d:zW)(a:zC)(e:zJ)(c:zI),f=[.ref l,.ref d]/\H l=some (.lst (a.map V.str))/\H d=some (.dK e)/\Sz e a c/\a.length<=1000/\∀(q:zW)(b:Hp),H q=none->A0k H b->b q=some (.lst (c.map V.int))->Q (.ref q) b
def Be:Sp:=λf H Q _=>∃(l d:zW)(c:zC)(e:zJ)(a:zI),f=[.ref l,.ref d]/\H l=some (.lst (c.map V.str))/\H d=some (.dK e)/\Sz e c a/\pR a/\∀(q:zW)(b:Hp),H q=none->A0k H b->A3o b q (gu a)->Q (.ref q) b
def Cd(A:Adr):Sp:=λh H Q _=>∃(k:Int)(f c d:zW)(M:zQ)(e:Rw)(g:zI),h=[.int k,.ref f,.ref c,.ref d]/\B5x A M H (.ref f) e/\C6x e/\H c=some (.tup (g.map V.int))/\A3o H d (gu e.ss)/\
 ∀(D:zW)(b:zM)(a:Hp),H D=none->A0k H a->a D=some (.lst b)->A5m a b (iR k e.ss g)->Q (.ref D) a
def Bc(A:Adr):Sp:=λi H Q _=>∃(p k l a j d o:zW)(h:Int)(e:zJ)(g:zM)(M:zQ)(b:List Rw),i=[.ref p]/\H p=some (clo A k h l a j d o)/\H l=some (.dK e)/\H d=some (.lst g)/\tT A M H g b/\Tot e b/\b.length<=100/\
 ∀(D:zW)(f:zM)(c:Hp),H D=none->A0k H c->c D=some (.lst f)->A5m c f (gj b b.length)->Q (.ref D) c
theorem A3o.kb{L:zW}{zs:zM}(h:A3o H a cs)(k:KB L H H')(c:H L=some (.lst zs))(b:a≠L):A3o H' a cs :=
 let⟨ps,h1,h2⟩:=h.ex
 ⟨ps,k _ _ b h1,h2.imp λp d e=>k _ _ (gN e c (by intro z;cases z)) e⟩
theorem HK(T:Txt K mg t):FO P w base T.bj 1 HR:=by
 refine T.bj.F.ok sK λ_ A _ s H _ Q E hr h=>?_
 ·refine gn h ?_;clear h;rintro a n v rfl ⟨ps,X,Y⟩ h8 ⟨n0,a1,a3,k⟩;refine rsq (eH (fX 2 sK.nd (@hJ _ _ _ _ dV)) (eH (ja (jl (pv 0)) (fR (i:=3) sK.nd) (fm (ja (nE rfl T.aO (fK 1)) (fR (i:=4) sK.nd) (fm ⟨kc (jY jW lJ lI lF (pv 2) (bm (fQ DX (pv 3) (hW (fK 4))) dV))⟩)))) (fm (fU (pv 2))))) ?_;refine⟨jR (by decide),λl J=>?_⟩;have la:a≠l:=gh X J;have M:upd H l (.lst []) a=some (.lst (ps.map V.ref)):=by rw[eh la];exact X
  refine⟨_,rfl,a,rfl,⟨_,SqL.of M⟩,kH (K:=K) (a:=a) (xs:=ps.map V.ref) (λi Z r=>∃(U f:zP)(b:zQ),Z=[Sro a,Sio n,Sro l,U,f]/\A0k H r/\
   r l=some (.lst (b.map V.ref))/\A2f r b (jv (v.take i) n)) (gE none none [] rfl (fI J) dh .nil) (λi Z r _ zq=>by obtain⟨_,_,_,_,B,_⟩:=zq;exact SqL.of (B _ _ X)) ?_ ?_⟩
  ·rintro i y Z r hi d;refine gn d ?_;clear d;rintro U f b rfl B R I;obtain⟨x,W,rfl⟩:=jZ hi;obtain⟨c,hc,N⟩:=Y.get W;have a2:c.length<=8:=h8 c (gq hc)
   refine⟨_,rfl,n,rfl,by lia,by lia,nV (n:=n.toNat) (λj Z g=>∃(f:zP)(b:zQ),Z=[Sro a,Sio n,Sro l,Sro x,f]/\A0k H g/\
    g l=some (.lst (b.map V.ref))/\A2f g b (jv (v.take i) n++(List.range j).map λ(m:Nat)=>c++[(m:Int)])) (ga f b rfl B R (by simpa using I)) ?_ ?_⟩
   ·rintro j Z g hj d;refine fV d ?_;clear d;rintro f b rfl G z D;rw[Int.zero_add]
    have a0:b.length<=300000:=by
     have e:=D.len;rw[gc,vc,eA,List.length_range]at e;have e1:(v.take i).length*n.toNat<=4000*60:=Nat.mul_le_mul (by rw[jd];lia) (by lia)
     lia
    have S:g x=some (.tup (c.map V.int)):=G _ _ N;refine fJ _ rfl (.inl (gk rfl _ (SqL.of z))) (iB _ rfl _ rfl (fT rfl) λu hu=>?_)
    have C:∀(q:zW)(L:Hp),A0k g L->L q=some (.tup ((c++[(j:Int)]).map V.int))->wP (V.ref l) [V.ref q] L λ_ O=>∃(f:zP)(b:zQ),[some (V.ref a),some (.int n),some (.ref l),some (.ref x),some (.int (j:Int))]=[some (.ref a),some (.int n),some (.ref l),some (.ref x),f]/\A0k H O/\
      O l=some (.lst (b.map V.ref))/\A2f O b (jv (v.take i) n++(List.range (j+1)).map λ(m:Nat)=>c++[(m:Int)]):=λq L o h4=>by
     refine iH l _ _ rfl rfl (o _ _ z) (by rw[eA];exact gJ (by lia)) ?_;refine ga _ (b++[q]) rfl (gQ (G.trans o) J) (by rw[dh,gy];rfl) ?_;rw[List.range_succ,gy,<-iE];exact((D.same o).snoc h4).lst (o _ _ z)
    have o:A0k g (upd g u (.tup [V.int (j:Int)])):=fI hu;refine hU x u _ _ rfl rfl (SqT.of (o _ _ S)) (SqT.of dh) (iW (by simp) (jR (by simp;lia)) (λhx=>?_) λhx p hp=>?_)
    ·have ec:c=[]:=by simpa using hx
     subst ec;exact C u _ o dh
    ·refine C p _ (o.trans (fI hp)) ?_;rw[dh,gy];rfl
   ·rintro Z g d;refine fV d ?_;clear d;rintro f b rfl G z D;refine gE _ _ b rfl G z ?_
    have e:jv (v.take (i+1)) n=jv (v.take i) n++(List.range n.toNat).map λ(m:Nat)=>c++[(m:Int)]:=by rw[gW,hc];simp[jv]
    rw[e];exact D
  ·rintro Z r d;refine gn d ?_;clear d;rintro U f b rfl B R I;refine bd _ rfl (k l r J B ⟨b,R,?_⟩);rw[eA,Y.len,hZ]at I;exact I
theorem GK(T:Txt K mg t):FO P w base T.c0 2 GH:=by
 refine T.c0.F.ok sB λ_ A _ s H _ Q E L h=>?_
 ·refine fV h ?_;clear h;rintro a o rfl C g k;refine rsq (eH (fX 1 sB.nd (@hJ _ _ _ _ (bm (hW dV) dV))) (eH (ja (jl (pv 0)) (fR (i:=2) sB.nd) (fm (fX 1 sB.nd (pcl (HK T) L T.bj (bm (pv 1) (fK 2)))))) (fm (fU (pv 1))))) ?_;refine⟨fT rfl,λe B=>⟨fT rfl,λq f=>?_⟩⟩;have r:H q=none:=(fI B).free f;have z:A0k H (upd (upd H e (.tup [])) q (.lst [V.ref e])):=(fI B).trans (fI f)
  refine⟨_,rfl,a,rfl,⟨_,SqL.of (z _ _ C)⟩,kH (K:=K) (a:=a) (xs:=o.map V.int) (λi Z b=>∃(v:zP)(q:zW),Z=[Sro a,Sro q,v]/\A0k H b/\H q=none/\A3o b q (gu (o.take i)))
   (ga none q rfl z r ⟨[e],dh,.cons (by rw[eh (gh dh f)];exact dh) .nil⟩) (λi Z b _ M=>by obtain⟨_,_,_,d,_⟩:=M;exact SqL.of (d _ _ C)) ?_ ?_⟩
  ·rintro i y Z b I j;refine fV j ?_;clear j;rintro v q rfl d f l;obtain⟨n,x,rfl⟩:=jZ I;have W:=g.pos n (gq x);have S:=oi (o.take i) λm u=>(g.pos m (mT u)).1;have R:=Ag o (λm u=>(g.pos m u).1) i;have U:=g.most;have X:=g.few;refine iJ _ rfl _ rfl (mR q n _ rfl l (λc G=>?_) (by lia) (by lia) ⟨by lia,λp O J D N=>?_⟩)
   ·have e:=(sD _ c G).1;rw[jd]at e
    lia
   ·refine ga _ p rfl (d.trans D) (d.free J) ?_;rw[AB x];exact N
  ·rintro Z b j;refine fV j ?_;clear j;rintro v q rfl d f l;rw[eA,hZ]at l;exact bd _ rfl (k q b f d l)
theorem Ij(T:Txt K mg t):FO P w base T.aK 1 AT:=by
 refine T.aK.F.ok Im λ_ A _ s H _ Q E C h=>?_
 ·refine kO h ?_;clear h;rintro l d u J z rfl m q o L k;have G:=nA C;have I:=Paired.length o;refine rsq (fm (fU (kF (N':=["axis","lengths"]) (ix:=(List.replicate 1 none++[some 1])) rfl (qk (x:="lengths") rfl rfl rfl (by decide+kernel) (by decide+kernel)) (qo (N0:=["axis"]) rfl (.inl rfl) (by walk_at"ix")) (jl (pv 0)) (λ_ _ _ _=>(fR (i:=0) Ez)) (λ_ _ _ _=>(ng G (pv 1) (pv 0)))))) ?_;refine iB _ rfl l rfl ⟨_,SqL.of m⟩ λD j=>?_;refine nF (K:=K) (a:=l) (D:=D) (xs:=u.map V.str) (λi f c=>A0k H c/\c D=some (.lst f)/\f=(z.take i).map V.int) (fL (fI j) dh rfl) (λi f c ⟨e,_⟩=>SqL.of (e _ _ m)) ?_ ?_
  ·rintro i x f c r ⟨e,b,rfl⟩;obtain⟨y,B,rfl⟩:=jZ r;obtain⟨n,p,v⟩:=ic o B;have g:=B2i.k (H:=c) (a:=d) (k:=Sum.inr y) (e _ _ q);rw[v]at g;refine⟨⟨rfl,True.intro⟩,(ig _ rfl _ rfl d _ rfl g (iV b (gJ (by simp;lia)) (gQ e j) dh ?_))⟩;rw[gW,p,jt,gy];rfl
  ·rintro f c ⟨e,b,rfl⟩;rw[eA,I,hZ]at b;exact k D c j e b
theorem Ax(T:Txt K mg t):FO P w base T.aA 3 Be:=by
 refine T.aA.F.ok Ia λ_ A _ s H _ Q E b h=>?_
 ·refine kO h ?_;clear h;rintro l d u j e rfl f i c g k;have y:=Paired.length c;have z:=g.few;refine rsq (fm (fU (pcl (GK T) b T.c0 (bm (pcl (Ij T) b T.aK (bm (pv 0) (fK 1))) dV)))) ?_;exact bd _ rfl (jf _ rfl l d u j e rfl f i c (by lia) λr B n a v=>(ga r e rfl v g λq o x m p=>k q o (a.free x) (a.trans m) p))
theorem Ip(T:Txt K mg t):FO P w base T.aI 1 (Cd t):=by
 refine T.aI.F.ok Az λ_ A _ s H _ Q E hr h=>?_
 ·refine ik h ?_;clear h;rintro k ln c tu M ⟨e,ce,rfl,li,ok,X,ct,q⟩;refine kn li ?_;clear li;rintro a dx ca u n x ea Z _ _ ⟨_,eu⟩;cases ea;obtain⟨ps,C,tp⟩:=ct.ex;have a1:=ok.cells.2;have a0:=tp.len;refine rsq (eH (gI (iA lA (lM T.aM (bm (jw (pv 1) rfl) dV)) fM) (fm (fU (@hJ _ _ _ _ (bm (hW (bm (pv 0) (bm je (bm (pv 2) (bm (hW dV) dV))))) dV)))) ⟨gO⟩) (eH ⟨rG (i₀:=4) (N':=["turn","cell","number"]) (ix:=(List.replicate 1 none++[some 2,some 0])) Az.nd rfl (.inl rfl) rfl (yE (cl:=[("number",_),("cell",_)]) (xs:=["number","cell"]) rfl (fL rfl rfl trivial) rfl rfl (by decide+kernel) (by decide+kernel)) (yT (N0:=["turn"]) (xs:=["cell","number"]) (js:=[2,0]) (fL (fL rfl (.inl rfl) (by walk_at"ix")) (fL rfl (.inl rfl) (by walk_at"ix")) trivial)) (jl (pv 3)) (λ_ _ _ _=>(fR (i:=0) Fh)) (λ_ _ _ _=>(hW (bm (pv 2) (bm je (bm (pv 1) (fK 0))))))⟩ (fm (fU (fQ oG (@hJ _ _ _ _ (bm (hW (bm (pv 0) (bm je (bm (pv 2) (bm (hW dV) dV))))) dV)) (pv 4)))))) ?_;refine jf _ rfl ln _ dx _ _ rfl Z T.am T.aN (by walk_at"lk") (gF u _ rfl (iK (.inl (SqL.of eu)) rfl _ rfl (iP (λhz=>?_) (λhz=>?_))))
  ·have es:e.ss=[]:=by
    have h1:((e.sums.map V.str).length:Int)=0:=by injection hz
    have h2:=ok.ls;rw[eA]at h1;exact nG.mp (by lia)
   refine iB _ rfl _ rfl (fT rfl) λm j=>⟨fT rfl,λb g=>⟨fT rfl,λD r=>?_⟩⟩;have s1:A0k H (upd H m (.tup [])):=fI j;have f:=s1.trans (fI (o:=.tup [.int k,.str "set",.ref c,.ref m]) g);refine q D [.ref b] _ (f.free r) (f.trans (fI r)) dh ?_;unfold iR;rw[bz es];refine .cons (gE b c m rfl ?_ ?_ ?_) .nil
   ·rw[eh (gh dh r)];exact dh
   ·exact(f.trans (fI r)) _ _ X
   ·rw[eh (gh ((fI g) _ _ dh) r)];exact(fI g) _ _ dh
  ·have es:e.ss≠[]:=λz=>by
    have h2:=ok.ls;rw[z]at h2;exact hz (by rw[eA,h2];rfl)
   refine iB _ rfl tu rfl ⟨_,SqL.of C⟩ λD r=>?_;refine nF (K:=K) (a:=tu) (D:=D) (xs:=ps.map V.ref) (λi l d=>A0k H d/\d D=some (.lst l)/\l.length=i/\A5m d l (((gu e.ss).take i).map λu=>(k,"add",ce,u))) (iW (fI r) dh rfl .nil) (λi l d ⟨f,_⟩=>SqL.of (f _ _ C)) ?_ ?_
   ·rintro i y l d hy ⟨f,p,ly,G⟩;obtain⟨J,B,rfl⟩:=jZ hy;obtain⟨uu,Y,S⟩:=tp.get B;have hi:i<ps.length:=(fY.mp B).1;refine gT (fL rfl rfl True.intro) _ rfl (iB _ rfl _ rfl (fT rfl) λb g=>?_);have v:A0k d (upd d b (.tup [.int k,.str "add",.ref c,.ref J])):=fI g;have O:KT (upd d b (.tup [.int k,.str "add",.ref c,.ref J])) (upd (upd d b (.tup [.int k,.str "add",.ref c,.ref J])) D (.lst (l++[.ref b]))):=KT.at (v _ _ p) (by intro xs z;cases z);refine jh (v _ _ p) (gJ (by lia)) (gQ (f.trans v) r) dh (by simp[ly]) ?_;rw[gW,Y,jt,gy];exact jN (G.kt ((KT.same v).trans O)) (.cons (gE b c J rfl (O _ _ dh) (O _ _ (v _ _ (f _ _ X))) (O _ _ (v _ _ (f _ _ S)))) .nil)
   ·rintro l d ⟨f,p,ly,G⟩;rw[eA,a0,hZ]at G;refine iB _ rfl _ rfl (fT rfl) λm j=>⟨fT rfl,λb g=>⟨fT rfl,λL I=>(lH _ rfl L D _ l rfl rfl dh ?_ (jR ?_) λR N=>?_)⟩⟩
    ·have s3:A0k d (upd d m (.tup [])):=fI j;have W:=s3.trans (fI (o:=.tup [.int k,.str "start",.ref c,.ref m]) g);exact(W.trans (fI I)) _ _ p
    ·have:=Paired.length G;rw[eA]at this;simp
     lia
    ·have s3:A0k d (upd d m (.tup [])):=fI j;have W:=s3.trans (fI (o:=.tup [.int k,.str "start",.ref c,.ref m]) g);have s5:=W.trans (fI (o:=.lst [.ref b]) I);have U:=s5.trans (fI (o:=.lst ([.ref b]++l)) N);refine q R _ _ (f.free (s5.free N)) (f.trans U) dh ?_;unfold iR;rw[bp es];refine .cons (gE b c m rfl ?_ (U _ _ (f _ _ X)) ?_) (G.kt (KT.same U))
     ·exact(fI N) _ _ ((fI I) _ _ dh)
     ·exact(fI N) _ _ ((fI I) _ _ ((fI g) _ _ dh))
theorem HX(T:Txt K mg t):FO P w base T.aY 4 (Bc t):=by
 refine T.aY.F.ok pL λ_ A _ s H _ Q E hr h=>?_
 ·refine jB h ?_;clear h;rintro p dx l a tb ln o wh lk ⟨xs,M,b,rfl,hp,hl,W,Y,O,b4,k⟩;have a9:=Paired.length Y;refine rsq (eH (fX 1 pL.nd (@hJ _ _ _ _ dV)) (eH (ja (wY rfl T.cC (bm (jw (pv 0) rfl) dV)) (kC (n:=2) rfl (gP (fR (i:=2) pL.nd) (gP (fR (i:=3) pL.nd) kE))) (eH (fX 4 pL.nd (pcl (Ax T) hr T.aA (bm (jw (pv 3) rfl) (bm (jw (pv 0) rfl) dV)))) (fm (ja (jl (pcl (Ax T) hr T.aA (bm (jw (pv 3) rfl) (bm (jw (pv 0) rfl) dV)))) (fR (i:=5) pL.nd) (fm ⟨kc (jY jW PySem.F.slot_list_extend PySem.F.type_list_extend qr (pv 1) (bm (pcl (Ip T) hr T.aI (bm (pv 2) (bm (pv 3) (bm (pv 5) (fK 4))))) dV))⟩))))) (fm (fU (pv 1))))) ?_;refine⟨fT rfl,λL hL=>?_⟩;have s0:A0k H (upd H L (.lst [])):=fI hL;refine jf _ rfl p _ dx _ _ rfl (s0 _ _ hp) T.af T.av (by walk_at"lk") (fC ln xs rfl (SqL.of (s0 _ _ W)) ?_)
  refine xD (K:=K) (a:=ln) (xs:=xs) (λi Z g=>∃(o2 o3 o4 m:zP)(u:zM),Z=[Sro p,Sro L,o2,o3,o4,m]/\A0k H g/\g L=some (.lst u)/\A5m g u (gj b i))
   (ij none none (gE none none [] rfl s0 dh .nil)) (λi Z g zq=>by obtain⟨_,_,_,_,_,_,s2,_⟩:=zq;exact SqL.of (s2 _ _ W)) ?_ ?_
  ·rintro i x Z g z hx f;refine ik f ?_;clear f;rintro o2 o3 o4 m u ⟨rfl,s2,h2,st⟩ hz;obtain⟨e,U,li⟩:=ic Y hx;refine ji (O e (gq U)) λok a4 b1 _ _=>?_;have hi:i<b.length:=(fY.mp U).1;have ol:=Ei (λe U=>(O e U).1) i;have b5:i*3660<=100*3660:=Nat.mul_le_mul_right _ (by lia);have b3:=li;refine kn li ?_;clear li;rintro G da ca cu n nm rfl a1 _ a6 ⟨_,b2⟩;obtain⟨H3,hH3⟩:∃H3,H3=upd g z (.tup [.int (i:Nat),.ref G]):=⟨_,rfl⟩;rw[<-hH3];have B:A0k g H3:=by rw[hH3];exact fI hz
   have s3:=s2.trans B;have a8:H3 z=some (.tup [.int (i:Nat),.ref G]):=by rw[hH3];exact dh
   refine km z _ rfl (SqT.of a8) rfl _ _ rfl _ _ rfl ⟨rfl,?_⟩;refine jf _ rfl G _ da _ _ rfl (s3 _ _ a1) T.am T.aN (by walk_at"lk") (jf _ rfl p _ dx _ _ rfl (s3 _ _ hp) T.af T.ah (by walk_at"lk") (kN cu l e.sums lk e.ss rfl (s3 _ _ b2) (s3 _ _ hl) b1 ok.gs λtu H4 J s4 ct=>?_));have d:=s3.trans s4;refine jf _ rfl G _ da _ _ rfl (d _ _ a1) T.am T.bo (by walk_at"lk") (jf _ rfl p _ dx _ _ rfl (d _ _ hp) T.af T.ah (by walk_at"lk") (kN ca l e.own lk e.so rfl (d _ _ a6) (d _ _ hl) a4 ok.go λqc H5 a0 s5 cc=>?_));obtain⟨ps,r,tp⟩:=cc.ex;have X:=B _ _ h2;have N:=s4 _ _ X;have v:=s5 _ _ N;have qL:qc≠L:=λy=>by subst y;rw[N]at a0;cases a0
   have tL:tu≠L:=λy=>by subst y;rw[X]at J;cases J
   have R:=d.trans s5;have a5:A5m H5 u (gj b i):=st.kt (KT.same (B.trans (s4.trans s5)));refine fJ qc rfl ⟨_,SqL.of r⟩ ?_
   refine kH (K:=K) (a:=qc) (xs:=ps.map V.ref) (λj Z H6=>∃(m:zP)(C:zM),Z=[Sro p,Sro L,Sio (i:Nat),Sro G,Sro tu,m]/\KB L H5 H6/\H6 L=some (.lst C)/\A5m H6 C (gj b i++((gu e.so).take j).flatMap (iR i e.ss)))
    (ga m u rfl KB.refl v (by simpa using a5)) (λj Z H6 _ zq=>by obtain⟨_,_,_,q,_⟩:=zq;exact SqL.of (q _ _ qL r)) ?_ ?_
   ·rintro j y Z H6 hy f;refine fV f ?_;clear f;rintro m C rfl q h6 c;obtain⟨pc,a7,rfl⟩:=jZ hy;obtain⟨ce,a3,a2⟩:=tp.get a7;have I:H6 pc=some (.tup (ce.map V.int)):=q _ _ (gN a2 v (by intro z;cases z)) a2;have b0:A0k H H6:=KB.same R q hL;refine fJ _ rfl (.inl (gk rfl _ (SqL.of h6))) (iJ _ rfl _ rfl (ma _ rfl _ rfl (i:Int) G pc (iG tu M e ce rfl (b3.same b0) ok I ((ct.same s5).kb q v tL) λD ws H7 hD s7 h7 S=>?_)));have lz:=Paired.length c;have lw:=Paired.length S;have lc:=ul ok (k:=(i:Int)) ce;have lp:=yQ ok (k:=(i:Int)) j;rw[gc]at lz;refine iG L D _ _ rfl rfl (s7 _ _ h6) h7 (jR (by lia)) ?_;have kL:KT H7 (upd H7 L (.lst (C++ws))):=KT.at (s7 _ _ h6) (by intro xs z;cases z);refine ga _ (C++ws) rfl ((q.trans (KB.of s7)).upd) dh ?_;rw[gW,a3,jt,List.flatMap_append,List.flatMap_singleton,<-iE];exact jN (c.kt ((KT.same s7).trans kL)) (S.kt kL)
   ·rintro Z H6 f;refine fV f ?_;clear f;rintro m C rfl q h6 c;rw[eA,tp.len,hZ]at c;refine ij _ _ (gE _ _ C rfl (KB.same R q hL) h6 ?_);rw[vb U];exact c
  ·rintro Z g f;refine ik f ?_;clear f;rintro o2 o3 o4 m u ⟨rfl,s2,h2,st⟩;rw[a9]at st;exact bd _ rfl (k L u g hL s2 h2 st)
open PySem L2 SA
theorem Bg(h:C8y H v r):∃b,v=.ref b/\A2m H (SN.nkR r) b:=by refine fO h ?_;clear h;rintro p q rfl c a;refine bd p rfl (va c ?_);rw[List.map_map];exact a
theorem C8y.keep(h:C8y H v r)(k:KT H H'):C8y H' v r:=by refine fO h λp q e b a=>?_;clear h;exact fC p q e (k _ _ b) (k _ _ a)
def toM(s:Stp):StM:=⟨s.1.toNat,s.2.1,s.2.2.1,s.2.2.2⟩
theorem B6u.toM{s:Stp}(h:B6u H v s)(h0:0<=s.1):qM H v (toM s):=by refine gn h ?_;clear h;rintro b c u rfl e a d;refine gE b c u rfl ?_ a d;show H b=some (.tup [.int ((s.1.toNat:Nat):Int),.str s.2.1,.ref c,.ref u]);rw[Int.toNat_of_nonneg h0];exact e
def rdS(lk:zJ)(rows:List LnM)(s:Stp):List Spt:=if s.2.1="start" then []else match rows[s.1.toNat]? with|some e=>rd (ai lk) e.tm (ai (atM e (toM s)))|none=>[]
def wrS(rows:List LnM)(s:Stp):Spt:=match rows[s.1.toNat]? with|some e=>(e.nm,s.2.2.1)|none=>("",s.2.2.1)
structure rj(lk:zJ)(rows:List LnM)(s:Stp):Prop where
 pos:0<=s.1
 ask:∃e,rows[s.1.toNat]?=some e/\(s.2.1≠"start"->pV lk e (toM s))
 few:(rdS lk rows s).length<=4
theorem rdq{sp:Stp}{e:LnM}(d:rows[sp.1.toNat]?=some e)(c:sp.2.1≠"start"->pV lk e (toM sp))(h:RdQ H (rdS lk rows sp) Q):
  ((toM sp).wd="start"->RdQ H [] Q)/\((toM sp).wd≠"start"->pV lk e (toM sp)/\RdQ H (rd (ai lk) e.tm (ai (atM e (toM sp)))) Q):=by
 refine⟨λa=>?_,λa=>⟨c a,?_⟩⟩
 ·have z:rdS lk rows sp=[]:=bz a
  rwa[z]at h
 ·have z:rdS lk rows sp=rd (ai lk) e.tm (ai (atM e (toM sp))):=by
   have b:sp.2.1≠"start":=a;unfold rdS;rw[bp b,d]
  rwa[z]at h
abbrev Mrk:=Str×Spt
def mkK(m:Mrk):fP:=[.inl (.inr m.1),.inl (.inr m.2.1),.inr (m.2.2.map Sum.inl)]
theorem qj{a b:Mrk}(h:mkK a=mkK b):a=b:=by obtain⟨e,d,g⟩:=a;obtain⟨f,c,i⟩:=b;unfold mkK at h;injection h with h1 h2;injection h1 with h1;injection h1 with h1;injection h2 with h2 h3;injection h2 with h2;injection h2 with h2;injection h3 with h3 _;injection h3 with h3;dsimp only at h1 h2 h3;rw[h1,h2,(List.map_inj_right λa b q=>by injection q).mp h3]
def D4n(H:Hp)(v:V)(m:Mrk):Prop:=∃b c,v=.ref b/\H b=some (.tup [.str m.1,.str m.2.1,.ref c])/\H c=some (.tup (m.2.2.map V.int))
theorem D4n.kt(h:D4n H v m)(k:KT H H'):D4n H' v m:=by refine fO h λb c e d a=>?_;clear h;exact fC b c e (k _ _ d) (k _ _ a)
theorem D4n.nest(h:D4n H v m):∃b,v=.ref b/\A2m H (mkK m) b:=by refine fO h ?_;clear h;rintro b c rfl a d;refine bd b rfl (GG a ?_);rw[List.map_map];exact d
abbrev B9k(H:Hp)(xs:zM)(a:List Mrk):Prop:=Paired (D4n H) xs a
theorem B9k.kt{ms:List Mrk}(h:B9k H xs ms)(k:KT H H'):B9k H' xs ms:=Paired.mapP h λ_ _ z=>z.kt k
def mw(rows:List LnM)(s:Stp):List Mrk:=if s.2.1=("start":Str)then [("whole",wrS rows s),("begun",wrS rows s)]else [("whole",wrS rows s)]
def kT(rows:List LnM)(s:Stp)(zs:List Spt):List Mrk:=(zs.map λr=>(("whole":Str),r))++if s.2.1=("add":Str)then [(("begun":Str),wrS rows s)]else []
structure ClO(A:Adr)(H:Hp)(p:zW)(lk:zJ)(rows:List LnM):Prop where
 ex:∃(dx l a tb ln o:zW)(wh:Int)(xs:zM)(M:zQ),H p=some (clo A dx wh l a tb ln o)/\H l=some (.dK lk)/\H ln=some (.lst xs)/\oJ A M H xs rows
theorem ClO.same(h:ClO A H p lk rows)(s:A0k H H'):ClO A H' p lk rows:=by refine jB h.ex ?_;rintro f l a b e o d c M ⟨g,k,i,j⟩;exact⟨f,l,a,b,e,o,d,c,M,s _ _ g,s _ _ k,s _ _ i,Paired.mapP j λ_ _ z=>z.same s⟩
def AM(A:Adr):Sp:=λf H Q _=>∃(p d:zW)(e:zJ)(a:List LnM)(s:Stp),f=[.ref p,.ref d]/\ClO A H p e a/\B6u H (.ref d) s/\rj e a s/\
 ∀(D:zW)(c:zM)(b:Hp),H D=none->A0k H b->b D=some (.lst c)->B9k b c (mw a s)->Q (.ref D) b
def Bm(A:Adr):Sp:=λg H Q _=>∃(p f:zW)(d:zJ)(a:List LnM)(s:Stp),g=[.ref p,.ref f]/\ClO A H p d a/\B6u H (.ref f) s/\rj d a s/\
 ∀(c:List Spt)(D:zW)(e:zM)(b:Hp),c.length<=4->c.Nodup->(∀r,r∈c↔r∈rdS d a s)->H D=none->A0k H b->b D=some (.lst e)->B9k b e (kT a s c)->Q (.ref D) b
def toI:V->Int|.int n=>n|_=>0
theorem xt:∀a:zI,(a.map V.int).map toI=a| []=>rfl|n::r=>by rw[gA,gA,xt r];rfl
def kg(H:Hp):V->Spt
 |.ref b=>(match H b with|some (.tup [.str x,.ref c])=>(match H c with|some (.tup xs)=>(x,xs.map toI)|_=>(x,[]))|_=>("",[]))
 |_=>("",[])
theorem qh(h:C8y H v r):kg H v=r:=by
 refine fO h ?_;clear h;rintro p q rfl b a
 show(match H p with|some (.tup [.str x,.ref c])=>(match H c with|some (.tup xs)=>(x,xs.map toI)|_=>(x,[]))|_=>("",[]))=r
 rw[b];show(match H q with|some (.tup xs)=>(r.1,xs.map toI)|_=>(r.1,[]))=r
 rw[a];show(r.1,(r.2.map V.int).map toI)=r;rw[xt]
theorem HE(T:Txt K mg t):FO P w base T.bh 2 (AM t):=by
 refine T.bh.F.ok vi λ_ A _ s H _ Q E hr h=>?_
 ·refine ik h ?_;clear h;rintro p Z lk r y ⟨rfl,cl,C,ok,k⟩;refine jB cl.ex ?_;rintro dx l a tb ln o wh xs M ⟨hp,hl,U,W⟩;obtain⟨e,g,a1⟩:=ok.ask;have ew:wrS r y=(e.nm,y.2.2.1):=by unfold wrS;rw[g]
  refine gn (id C) λb c u eb hb hc a0=>?_;cases eb;refine rsq (eH ⟨nC (pcl (Ao T) hr T.aP (bm (pv 0) (fK 1))) (kC (n:=2) rfl (gP (fR (i:=2) vi.nd) (gP (fR (i:=3) vi.nd) kE)))⟩ (eH (gI (pkd 1) (fm (fU (@hJ _ _ _ _ (bm (hW (bm je (bm (pv 2) (fK 3)))) (bm (hW (bm je (bm (pv 2) (fK 3)))) dV))))) ⟨gO⟩) (fm (fU (@hJ _ _ _ _ (bm (hW (bm je (bm (pv 2) (fK 3)))) dV)))))) ?_;refine ma _ rfl _ rfl p dx l (iu a tb ln o Z wh xs (iG M r e (toM y) rfl hp U W (C.toM ok.pos) ⟨g,λq G I tr=>?_⟩));refine fO tr λq1 B eq g1 Y=>?_;clear tr;cases eq;refine km q _ rfl (SqT.of g1) rfl _ _ rfl _ _ rfl ⟨rfl,?_⟩;refine i12 _ rfl Z _ _ _ rfl rfl (SqT.of (I _ _ hb)) (gD (j:=1) rfl) (gT rfl _ rfl (iP (λx=>?_) (λx=>?_)))
  ·have x:y.2.1=("start":Str):=by injection x
   refine iB _ rfl _ rfl (fT rfl) λN v=>?_;obtain⟨O,m,X,d⟩:=nH (o:=.tup [.str "whole",.str e.nm,.ref B]) v;rw[d];refine iB _ rfl _ rfl (fT rfl) λm2 R=>?_;obtain⟨G3,L,g4,d⟩:=nH (o:=.tup [.str "begun",.str e.nm,.ref B]) R;rw[d];refine⟨fT rfl,λD J=>?_⟩;have f:A0k G3 (upd G3 D (.lst [.ref N,.ref m2])):=fI J;have S:=I.trans (m.trans (L.trans f));refine k D _ _ ((I.trans (m.trans L)).free J) S dh ?_;unfold mw;rw[bz x,ew];exact .cons (fC N B rfl (f _ _ (L _ _ X)) (f _ _ (L _ _ (m _ _ Y)))) (.cons (fC m2 B rfl (f _ _ g4) (f _ _ (L _ _ (m _ _ Y)))) .nil)
  ·have x:¬y.2.1=("start":Str):=λz=>x (by show V.str y.2.1=V.str "start";rw[z]);refine iB _ rfl _ rfl (fT rfl) λN v=>?_;obtain⟨O,m,X,d⟩:=nH (o:=.tup [.str "whole",.str e.nm,.ref B]) v;rw[d];refine⟨fT rfl,λD J=>?_⟩;have f:A0k O (upd O D (.lst [.ref N])):=fI J;refine k D _ _ ((I.trans m).free J) (I.trans (m.trans f)) dh ?_;unfold mw;rw[bp x,ew];exact .cons (fC N B rfl (f _ _ X) (f _ _ (m _ _ Y))) .nil
theorem Ik(T:Txt K mg t):FO P w base T.aJ 16 (Bm t):=by
 refine T.aJ.F.ok sP λ_ A _ s H _ Q E hr h=>?_
 ·refine ik h ?_;clear h;rintro p st lk d sp ⟨rfl,cl,L,ok,k⟩;refine jB cl.ex ?_;rintro dx l a tb ln o wh xs M ⟨hp,hl,a2,a3⟩;obtain⟨e,m,a8⟩:=ok.ask;have ew:wrS d sp=(e.nm,sp.2.2.1):=by unfold wrS;rw[m]
  refine gn (id L) λb c u eb hb hc b2=>?_;cases eb;refine rsq (eH ⟨rG (i₀:=4) (N':=["array","cell"]) (ix:=(List.replicate 2 none)) (g:=qQ K 2 (oE (mY 0) (oE (mY 1) qV))) sP.nd rfl (.inl rfl) rfl (lX rfl (by decide+kernel) (by decide+kernel)) (lV rfl) (jl (SN.pe_sortedSet (k:=0) (hr.mono (by lia)) (by rfl) T.dZ (by rfl) T.fz (bm (pcl (FC T) hr T.cA (bm (pv 0) (fK 1))) dV))) (λ_ _ _ _=>(kC (n:=2) rfl (gP (fR (i:=0) yn) (gP (fR (i:=1) yn) kE)))) (λ_ _ _ _=>(hW (bm je (bm (pv 0) (fK 1)))))⟩ (nj (gI (pkd 1) (eH ⟨nC (pcl (Ao T) hr T.aP (bm (pv 0) (fK 1))) (kC (n:=2) rfl (gP (fR (i:=2) sP.nd) (gP (fR (i:=3) sP.nd) kE)))⟩ (fm ⟨kc (jY jW lJ lI lF (pv 4) (bm (hW (bm je (bm (pv 2) (fK 3)))) dV))⟩)) ⟨gO⟩) (fm (fU (pv 4))))) ?_;refine ma _ rfl _ rfl p dx l (iu a tb ln o st wh lk (iS xs M d e (toM sp) rfl hp hl a2 a3 (L.toM ok.pos) ⟨m,?_⟩));refine rdq m a8 λq B G hq s1 g1 R=>?_;have b4:=ok.few;have a5:=Paired.length R
  have ky:∀y∈B,C8y G y (kg G y)/\kg G y∈rdS lk d sp:=λy hy=>by obtain⟨i,hi⟩:=List.getElem?_of_mem hy;obtain⟨r,C,W⟩:=ic R hi;rw[qh W];exact⟨W,gq C⟩
  refine iH q B (kg G) rfl (SqL.of g1) (by lia) (λy hy=>Bg (ky y hy).1) λv lz hz nd a9 l1 a4=>?_;have s2:A0k G (upd G l1 (.lst v)):=fI a4;have g2:upd G l1 (.lst v) l1=some (.lst v):=dh;have kz:∀z∈v,C8y (upd G l1 (.lst v)) z (kg G z):=λz U=>(ky z (hz z U)).1.keep (KT.same s2)
  have set:∀r,r∈v.map (kg G)↔r∈rdS lk d sp:=λr=>by
   constructor
   ·intro h;obtain⟨z,U,rfl⟩:=gY.mp h;exact(ky z (hz z U)).2
   ·intro h;obtain⟨i,hi⟩:=List.getElem?_of_mem h;have b0:i<B.length:=by rw[a5];exact(fY.mp hi).1
    have hy:B[i]?=some B[i]:=gU b0;obtain⟨r',C,W⟩:=ic R hy;rw[hi]at C;cases C;have:=a9 _ (gq hy)
    rwa[qh W]at this
  generalize upd G l1 (.lst v)=G2 at s2 g2 kz⊢;refine fJ l1 rfl ⟨_,SqL.of g2⟩ λD hD=>?_;have a0:=s1.trans s2;have D0:H D=none:=a0.free hD;refine nF (K:=K) (a:=l1) (xs:=v) (D:=D) (λi B G3=>A0k G2 G3/\G3 D=some (.lst B)/\B.length=i/\B9k G3 B (((v.map (kg G)).take i).map λr=>(("whole":Str),r))) (iW (fI hD) dh rfl .nil) (λi B G3 q=>SqL.of (q.1 _ _ g2)) ?_ ?_
  ·rintro i x J G3 hx ⟨s3,h3,ly,m3⟩;have a6:=gq hx;have b3:=(fY.mp hx).1;refine fO (kz x a6) ?_;rintro b1 c1 rfl f1 f2;refine km b1 _ rfl (SqT.of (s3 _ _ f1)) rfl _ _ rfl _ _ rfl (fL rfl True.intro (iB _ rfl _ rfl (fT rfl) λu1 N=>?_));obtain⟨G4,I,f3,S⟩:=nH (o:=.tup [.str "whole",.str (kg G (.ref b1)).1,.ref c1]) N;rw[S];have h4:=I _ _ h3;have O:KT G4 (upd G4 D (.lst (J++[.ref u1]))):=KT.at h4 (by intro xs z;cases z);refine jh h4 (gJ (by lia)) (gQ (s3.trans I) hD) dh (by simp[ly]) ?_;have e1:(v.map (kg G)).take (i+1)=(v.map (kg G)).take i++[kg G (.ref b1)]:=by rw[gW,ju,hx];rfl
   rw[e1,gy];exact jN ((m3.kt (KT.same I)).kt O) (.cons (fC u1 c1 rfl (O _ _ f3) (O _ _ (I _ _ (s3 _ _ f2)))) .nil)
  ·rintro J G3 ⟨s3,h3,ly,m3⟩;rw[nI (by rw[eA];lia)]at m3;have f:=a0.trans s3;refine bd (λZ X=>∃(o2 o3:zP)(xs:zM),Z=[Sro p,Sro st,o2,o3,Sro D]/\A0k H X/\X D=some (.lst xs)/\B9k X xs (kT d sp (v.map (kg G)))) ?_ ?_
   ·refine i12 _ rfl st _ _ _ rfl rfl (SqT.of (f _ _ hb)) (gD (j:=1) rfl) (gT rfl _ rfl (iP (λY=>?_) (λY=>?_)))
    ·have Y:sp.2.1=("add":Str):=by injection Y
     have a1:=L.kt (KT.same f);refine ma _ rfl _ rfl p dx l (iu a tb ln o st wh xs (iG M d e (toM sp) rfl (f _ _ hp) (f _ _ a2) (Paired.mapP a3 λ_ _ z=>z.same f) (a1.toM ok.pos) ⟨m,λq2 G4 I W=>?_⟩));refine fO W λq3 c3 eq f1 f2=>?_;clear W;cases eq;refine km q2 _ rfl (SqT.of f1) rfl _ _ rfl _ _ rfl ⟨rfl,?_⟩;refine fJ _ rfl (.inl (gk rfl _ (SqL.of (I _ _ h3)))) (iB _ rfl _ rfl (fT rfl) λu1 N=>?_);obtain⟨G5,s5,f3,S⟩:=nH (o:=.tup [.str "begun",.str e.nm,.ref c3]) N;rw[S];have h5:=s5 _ _ (I _ _ h3);have O:KT G5 (upd G5 D (.lst (J++[.ref u1]))):=KT.at h5 (by intro xs z;cases z);refine iH D _ _ rfl rfl h5 (gJ (by lia)) (gE _ _ _ rfl (gQ (f.trans (I.trans s5)) D0) dh ?_);unfold kT;rw[bz Y,ew];exact jN ((m3.kt (KT.same (I.trans s5))).kt O) (.cons (fC u1 c3 rfl (O _ _ f3) (O _ _ (s5 _ _ f2))) .nil)
    ·have Y:¬sp.2.1=("add":Str):=λz=>Y (by show V.str sp.2.1=V.str "add";rw[z]);refine gE _ _ J rfl f h3 ?_;unfold kT;rw[bp Y,kQ];exact m3
   ·rintro Z X zz;refine gn zz ?_;clear zz;rintro o2 o3 a7 rfl sX hX mX;exact bd _ rfl (k _ D a7 X (by rw[eA];exact lz) nd set D0 sX hX mX)
theorem ka{kvs:List (fP×V)}(h:A6e P w sh H a kvs)(s:A0k H H'):A6e P w sh H' a kvs:=h.keeps (λ_ e=>s _ _ e) λ_ _ e=>s _ _ e
theorem mz{kvs:List (fP×V)}(h:A6e P w sh H a kvs):∃o,H a=some o/\(∀xs,o≠.tup xs)/\∀xs,o≠.lst xs:=by obtain⟨_,e,_⟩:=h;exact fJ _ e (λ_ z=>(by cases z)) λ_ z=>(by cases z)
def D6f(H:Hp)(v:V)(p:Int×Int):Prop:=∃b,v=.ref b/\H b=some (.tup [.int p.1,.int p.2])
theorem D6f.kt{p:Int×Int}(h:D6f H v p)(k:KT H H'):D6f H' v p:=by obtain⟨b,e,a⟩:=h;exact bd b e (k _ _ a)
abbrev B1x(H:Hp)(xs:zM)(ps:List (Int×Int)):Prop:=Paired (D6f H) xs ps
theorem B1x.kt{ps:List (Int×Int)}(h:B1x H xs ps)(k:KT H H'):B1x H' xs ps:=Paired.mapP h λ_ _ z=>z.kt k
def K2(x y:zW)(H H':Hp):Prop:=∀b o,b≠x->b≠y->H b=some o->H' b=some o
theorem K2.refl{x:zW}:K2 x y H H:=λ_ _ _ _ e=>e
theorem K2.of{x:zW}(k:K2 x y H H')(s:A0k H' H2):K2 x y H H2:=λb o c a e=>s _ _ (k b o c a e)
theorem K2.fresh{x:zW}(k:K2 x y H H')(a:H l=none):K2 x y H (upd H' l o):=λb u d c e=>by rw[eh (gh e a)];exact k b u d c e
theorem K2.at1{x:zW}(k:K2 x y H H'):K2 x y H (upd H' x o):=λb u a c e=>by rw[eh a];exact k b u a c e
theorem K2.at2{x:zW}(k:K2 x y H H'):K2 x y H (upd H' y o):=λb u c a e=>by rw[eh a];exact k b u c a e
def MkN(m:Mrk):Prop:=m.1="whole"\/m.1="begun"
structure C7q(P:yB)(w:yD)(H1 G:Hp)(nl PD:zW)(kvs:List (fP×V))(cur:Mrk->List Int):Prop where
 nd:A6e P w [true,true,false] G PD kvs
 at_:∀m,MkN m->(fN kvs (mkK m)=none/\cur m=[])\/∃l,fN kvs (mkK m)=some (.ref l)/\H1 l=none/\G l=some (.lst ((cur m).map V.int))
 inj:∀m m' l,MkN m->MkN m'->fN kvs (mkK m)=some (.ref l)->fN kvs (mkK m')=some (.ref l)->m=m'
theorem C7q.kt{a:Hp}{b:zW}{kvs:List (fP×V)}(h:C7q P w H1 G b PD kvs cur)(f:∀o,G PD=some o->a PD=some o)(kt:KT G a)(g:∀l xs,H1 l=none->G l=some (.lst xs)->a l=some (.lst xs)):C7q P w H1 a b PD kvs cur :=⟨h.nd.keeps f kt,λm e=>(h.at_ m e).imp id λ⟨l,i,c,d⟩=>(fJ l i c (g _ _ c d)),h.inj⟩
theorem C7q.same{b:Hp}{kvs:List (fP×V)}(h:C7q P w H1 G a PD kvs cur)(s:A0k G b):C7q P w H1 b a PD kvs cur:=h.kt (λo e=>s _ _ e) (KT.same s) λl c _ e=>s _ _ e
def idx(rows:List LnM)(A:List Stp)(m:Mrk):zI:=if m.1=("begun":Str)then lu (wrS rows) A m.2 else hE (wrS rows) A m.2
def ki(cur:Mrk->List Int)(m:Mrk)(j:Int):Mrk->List Int:=λx=>if x=m then cur x++[j]else cur x
theorem DN(rows:List LnM)(A:List Stp)(s:Stp):∀m,MkN m->((mw rows s).foldl (λc x=>ki c x (A.length:Int)) (idx rows A)) m=idx rows (A++[s]) m:=λm d=>by
 obtain⟨n,r⟩:=m;have b:(("whole":Str)=("begun":Str))=False:=by simp;decide
 unfold mw;by_cases hs:s.2.1=("start":Str)
 ·rw[bz hs];show ki (ki (idx rows A) ("whole",wrS rows s) A.length) ("begun",wrS rows s) A.length (n,r)=_;unfold ki idx;rcases d with e|e
  ·have e:n="whole":=e;subst e;simp only [Prod.mk.injEq,b,if_false,false_and,true_and];rw[nU];by_cases z:wrS rows s=r
   ·simp[z]
   ·simp[z,Ne.symm z]
  ·have e:n="begun":=e;subst e;have a:(("begun":Str)=("whole":Str))=False:=by simp;decide
   simp only [Prod.mk.injEq,a,if_true,false_and,true_and,if_false];rw[qp];by_cases z:wrS rows s=r
   ·simp[z,hs]
   ·simp[z,Ne.symm z]
 ·rw[bp hs];show ki (idx rows A) ("whole",wrS rows s) A.length (n,r)=_;unfold ki idx;rcases d with e|e
  ·have e:n="whole":=e;subst e;simp only [Prod.mk.injEq,b,if_false,true_and];rw[nU];by_cases z:wrS rows s=r
   ·simp[z]
   ·simp[z,Ne.symm z]
  ·have e:n="begun":=e;subst e;have a:(("begun":Str)=("whole":Str))=False:=by simp;decide
   simp only [Prod.mk.injEq,a,if_true,false_and,if_false];rw[qp];simp[hs]
theorem EE(rows:List LnM)(A:List Stp)(s:Stp)(zs:List Spt):((kT rows s zs).flatMap λm=>(idx rows A m).map λi=>(i,(A.length:Int)))=oz (wr:=wrS rows) A s zs:=by
 have a:¬(("whole":Str)=("begun":Str)):=by decide
 unfold kT oz;rw[List.flatMap_append,List.flatMap_map]
 have b:(zs.flatMap λr=>(idx rows A (("whole":Str),r)).map λi=>(i,(A.length:Int)))=zs.flatMap λr=>(hE (wrS rows) A r).map λi=>(i,(A.length:Int)):=by refine congrArg (λf=>zs.flatMap f) (funext λr=>?_);unfold idx;rw[bp a]
 rw[b];congr 1
 ·by_cases ha:s.2.1=("add":Str)
  ·rw[bz ha,bz ha,List.flatMap_singleton];unfold idx;rw[bz rfl]
  ·rw[bp ha,bp ha];rfl
theorem uj(rows:List LnM)(A:List Stp)(m:Mrk):(idx rows A m).length<=A.length:=by
 unfold idx hE lu;split
 ·rw[eA];exact jU (List.length_filter_le _ _) (by rw[List.length_zipIdx];exact fH _)
 ·rw[eA];exact jU (List.length_filter_le _ _) (by rw[List.length_zipIdx];exact fH _)
theorem Fa(rows:List LnM)(s:Stp)(zs:List Spt):(kT rows s zs).length<=zs.length+1:=by unfold kT;rw[gc,eA];split<;>simp
theorem DA(rows:List LnM)(s:Stp):(mw rows s).length<=2:=by unfold mw;split<;>simp
theorem Fe(f:α->List β)(l:List α){x:α}(h:l[i]?=some x):(l.take (i+1)).flatMap f=(l.take i).flatMap f++f x:=by rw[gW,h,jt,List.flatMap_append,List.flatMap_singleton]
theorem Ex(f:β->α->β)(b:β)(l:List α){x:α}(h:l[i]?=some x):(l.take (i+1)).foldl f b=f ((l.take i).foldl f b) x:=by rw[gW,h,jt,List.foldl_append];rfl
theorem yd{l:List α}{x:α}(h:l[i]?=some x):l=l.take i++x::l.drop (i+1):=by obtain⟨a,e⟩:=fY.mp h;have:=(np i l).symm;rw[sW a,e]at this;exact this
theorem DY{s:Stp}(h:m∈kT rows s zs):MkN m:=by
 unfold kT at h;rcases iw.mp h with q|q
 ·obtain⟨r,_,rfl⟩:=gY.mp q;exact .inl rfl
 ·by_cases ha:s.2.1=("add":Str)
  ·rw[bz ha]at q;rw[gz.mp q];exact .inr rfl
  ·rw[bp ha]at q;cases q
theorem Cz{s:Stp}(h:m∈mw rows s):MkN m:=by
 unfold mw at h;split at h
 ·rcases gB.mp h with q|q
  ·rw[q];exact .inl rfl
  ·rw[gz.mp q];exact .inr rfl
 ·rw[gz.mp h];exact .inl rfl
def kIP(H:Hp):V->List Int|.ref b=>(match H b with|some (.tup xs)=>xs.map toI|_=>[])|_=>[]
theorem wJ{p:Int×Int}(h:D6f H v p):kIP H v=[p.1,p.2]:=by
 obtain⟨b,rfl,a⟩:=h;show(match H b with|some (.tup xs)=>xs.map toI|_=>[])=_
 rw[a];rfl
def prL(p:Int×Int):zI:=[p.1,p.2]
theorem wU{H:Hp}:∀{zs:zM}{ps:List (Int×Int)},B1x H zs ps->zs.map (kIP H)=ps.map prL|_,_,.nil=>rfl|_,_,.cons r t=>by rw[gA,gA,wJ r,wU t];rfl
theorem GL{F:α->β->Prop}{zs xs:List α}(p:zs.Perm xs):∀{ys:List β},Paired F xs ys->∃e,Paired F zs e/\e.Perm ys:=by
 induction p with
 |nil=>intro ys h;cases h;exact bd [] .nil (.refl _)
 |cons x _ ih=>
  intro ys h
  cases h with
  |cons r t=>obtain⟨e,a,b⟩:=ih t;exact bd (_::e) (.cons r a) (b.cons _)
 |swap x y l=>
  intro ys h
  cases h with
  |cons r t=>
   cases t with
   |cons r' t'=>exact bd _ (.cons r' (.cons r t')) (List.Perm.swap _ _ _)
 |trans _ _ ih1 ih2=>intro ys h;obtain⟨g,a,b⟩:=ih2 h;obtain⟨f,c,d⟩:=ih1 a;exact bd f c (d.trans b)
def tF(N:List (Int×Int)):Prop:=N.Pairwise λx y=>gM (prL x) (prL y)=true
theorem Cn(c:N.Nodup)(h:N.Pairwise λx y=>gM (prL y) (prL x)=false):tF N:=by
 refine(List.Pairwise.and c h).imp λ{x y} ⟨a,b⟩=>?_
 cases e:gM (prL x) (prL y)with
 |true=>rfl
 |false=>have:=yc _ _ e b;unfold prL at this;injection this with h1 h2;injection h2 with h2 _;exact absurd (Prod.ext h1 h2) a
def AK(A:Adr):Sp:=λj H Q _=>∃(p m l a k g o:zW)(i:Int)(d:zJ)(f:zM)(M:zQ)(c:List LnM)(b:List Rw),j=[.ref p]/\H p=some (clo A m i l a k g o)/\H l=some (.dK d)/\H g=some (.lst f)/\oJ A M H f c/\tT A M H f b/\Tot d b/\b.length<=100/\
 (∀s∈gj b b.length,rj d c s)/\(∀s∈gj b b.length,s.2.1=("add":Str)->wrS c s∉rdS d c s)/\nS (wrS c) (gj b b.length)/\(gj b b.length).length<=300/\
 ∀(N:List (Int×Int))(D:zW)(h:zM)(e:Hp),D4f (wrS c) (rdS d c) (gj b b.length) N->tF N->N.length<=600000->H D=none->A0k H e->e D=some (.lst h)->B1x e h N->Q (.ref D) e
theorem zt(T:Txt K mg t):FO P w base T.br 17 (AK t):=by
 refine T.br.F.ok oT λ_ A _ s H _ Q E hr h=>?_
 ·refine jB h ?_;clear h;rintro p dx l a tb ln o wh lk ⟨xs,M,rows,d,rfl,hp,hl,f1,i5,j6,i4,h6,j3,i0,i8,k6,k⟩;have hn:=qZ hr;refine rsq (eH (fX 1 oT.nd (@hJ _ _ _ _ dV)) (eH (fX 2 oT.nd (uH (sh:=[true,true,false]))) (eH (ja (wY rfl T.cC (bm (pcl (HX T) hr T.aY (fK 0)) dV)) (kC (n:=2) rfl (gP (fR (i:=3) oT.nd rfl (.inr rfl)) (gP (fR (i:=4) oT.nd) kE))) (eH (ja (jl (pcl (Ik T) hr T.aJ (bm (pv 0) (fK 4)))) (fR (i:=5) oT.nd) (fm ⟨kc (jY jW PySem.F.slot_list_extend PySem.F.type_list_extend qr (pv 1) (bm (kF (N':=["ahead","place"]) (ix:=(List.replicate 1 none++[some 3])) rfl (qk (x:="place") rfl rfl rfl (by decide+kernel) (by decide+kernel)) (qo (N0:=["ahead"]) rfl (.inl rfl) (by walk_at"ix")) (jl (rF PySem.F.slot_dict_get PySem.F.type_dict_get (ui hn) (pv 2) (bm (pv 5) (bm (@hJ _ _ _ _ dV) dV)))) (λ_ _ _ _=>(fR (i:=0) Ff)) (λ_ _ _ _=>(hW (bm (pv 0) (fK 1))))) dV))⟩)) (fm (ja (jl (pcl (HE T) hr T.bh (bm (pv 0) (fK 4)))) (fR (i:=5) oT.nd) (fm ⟨kc (jY jW lJ lI lF (rF PySem.F.slot_dict_setdefault PySem.F.type_dict_setdefault (Dw hn) (pv 2) (bm (pv 5) (bm (@hJ _ _ _ _ dV) dV))) (fK 3))⟩))))) (fm (fU (jy (Hs True.intro) (by rfl) T.dZ L2.B1h (fK 1))))))) ?_;refine⟨fT rfl,λg g9=>?_⟩;obtain⟨H0,s0,n0,U⟩:=nH (o:=.lst []) g9;rw[U];refine λPD o0 e6 a5=>?_;have s1:A0k H0 (upd H0 PD o0):=fI e6;have a5:A6e P w [true,true,false] (upd H0 PD o0) PD []:=a5;generalize upd H0 PD o0=H1' at s1 a5⊢;have b3:=s0.trans s1;have PDH:H PD=none:=s0.free e6;have nP:g≠PD:=gh n0 e6;refine bd _ rfl (iu p dx l a tb ln o (iS wh lk xs M d rfl (b3 _ _ hp) (b3 _ _ hl) (b3 _ _ f1) (Paired.mapP j6 λ_ _ z=>z.same b3) i4 ⟨h6,λF fs H1 hF s2 g8 d3=>(fC F fs rfl (SqL.of g8) ?_)⟩));have j7:=b3.trans s2;have j5:=ka a5 s2;have n1:=s2 _ _ (s1 _ _ n0);have FN:F≠g:=λz=>by rw[z,s1 _ _ n0]at hF;cases hF
  obtain⟨uP,eP,tP,lP⟩:=mz a5;have FP:F≠PD:=λz=>by rw[z,eP]at hF;cases hF
  have k0:=s2 _ _ eP;have i1:=Paired.length d3;have g5:∀{G:Hp},K2 g PD H1 G->KT H1 G:=λ{G} kk b ys e=>kk b _ (gN e n1 (by intro z;cases z)) (gN e k0 (λz=>tP _ z.symm)) e;have e4:∀{G:Hp},K2 g PD H1 G->A0k H G:=λ{G} kk b o e=>kk b o (gh e g9) (gh e PDH) (j7 _ _ e)
  refine xD (K:=K) (a:=F) (xs:=fs) (λi Z G=>∃(o3 o4 o5:zP)(ns:zM)(N:List (Int×Int))(r:List (fP×V)),Z=[Sro p,Sro g,Sro PD,o3,o4,o5]/\K2 g PD H1 G/\G g=some (.lst ns)/\B1x G ns N/\D4f (wrS rows) (rdS lk rows) ((gj d d.length).take i) N/\C7q P w H1 G g PD r (idx rows ((gj d d.length).take i))/\r.length<=2*i/\N.length<=2000*i)
   ⟨none,(iS none none [] [] [] rfl K2.refl n1 .nil ⟨List.nodup_nil,λq=>⟨λh=>(by cases h),λ⟨A,s,B,e,_⟩=>(by rw[List.take_zero]at e;cases A<;>cases e)⟩⟩ ⟨j5,λm _=>.inl ⟨rfl,by unfold idx;rw[List.take_zero];split<;>rfl⟩,λm m' l _ _ h _=>(by cases h)⟩ ⟨fH _,fH _⟩)⟩
   (by (rintro i Z G R;refine ik R ?_;clear R;rintro _ _ _ _ _ ⟨_,_,kk,_⟩);exact SqL.of (kk _ _ FN FP g8)) ?_ ?_
  ·rintro i v Z G z hv R;refine kn R ?_;clear R;rintro o3 o4 o5 ns N r rfl kk b9 prs ⟨a3,pl,i6,lN⟩ hz;obtain⟨L,d8,d6⟩:=ic d3 hv;have hi:i<fs.length:=(fY.mp hv).1;have h5:=gq d8;have ok:=j3 L h5;have f4:(gj d d.length).take (i+1)=(gj d d.length).take i++[L]:=by rw[gW,d8];rfl
   have c0:((gj d d.length).take i).length=i:=by rw[jd];lia
   generalize hA:(gj d d.length).take i=A at a3 pl f4 c0;rw[f4];obtain⟨G1,sz,j4,U⟩:=nH (o:=.tup [.int (i:Nat),v]) hz;rw[U];have c5:=kk.of sz;refine iN (id d6) ?_;rintro b0 _ _ ⟨rfl,_⟩;refine km z _ rfl (SqT.of j4) rfl _ _ rfl _ _ rfl ⟨rfl,?_⟩;have d0:∀{G:Hp},K2 g PD H1 G->ClO t G p lk rows:=λkk=>ClO.same ⟨dx,l,a,tb,ln,o,wh,xs,M,hp,hl,f1,i5⟩ (e4 kk);refine ma _ rfl _ rfl p b0 lk (jr rows L rfl (d0 c5) (d6.kt (g5 c5)) ok λzs MD h7 G2 l7 nd k5 a2 c8 d5 f0=>(fJ MD rfl ⟨_,SqL.of d5⟩ ?_));have k1:=c5.of c8;have i9:=Paired.length f0;have MDn:MD≠g:=λe=>by rw[e,sz _ _ b9]at a2;cases a2
   have H1MD:H1 MD=none:=by
    cases e:H1 MD with
    |none=>rfl
    |some oo=>
     by_cases c1:MD=g
     ·exact absurd c1 MDn
     ·by_cases c2:MD=PD
      ·obtain⟨uq,eq,_⟩:=mz pl.nd;rw[c2,sz _ _ eq]at a2;cases a2
      ·rw[c5 _ _ c1 c2 e]at a2;cases a2
   have l5:=ok.few;have k7:=Fa rows L zs;have e7:=c8 _ _ (sz _ _ b9);have g4:=(pl.same sz).same c8;have g7:=(prs.kt (KT.same sz)).kt (KT.same c8);have PDn:PD≠g:=Ne.symm nP;have H1nl:∀l,H1 l=none->l≠g:=λl e z=>by rw[z,n1]at e;cases e
   have e8:∀q,(N++((kT rows L zs).take q).flatMap λm=>(idx rows A m).map λj=>(j,(A.length:Int))).length<=2000*i+300*q:=λq=>by
    rw[gc];have J:=pE (l:=(kT rows L zs).take q) (f:=λm=>(idx rows A m).map λj=>(j,(A.length:Int))) (B:=300) λm _=>by rw[eA];have:=uj rows A m;lia
    have h2:((kT rows L zs).take q).length<=q:=by rw[jd];lia
    have h3:((kT rows L zs).take q).length*300<=q*300:=Nat.mul_le_mul_right _ h2
    lia
   refine kH (K:=K) (a:=MD) (xs:=h7) (λq Z X=>∃(o5:zP)(ns:zM),Z=[Sro p,Sro g,Sro PD,Sio (i:Nat),Sro b0,o5]/\KB g G2 X/\X g=some (.lst ns)/\B1x X ns (N++((kT rows L zs).take q).flatMap λm=>(idx rows A m).map λj=>(j,(A.length:Int))))
    (ga o5 ns rfl KB.refl e7 (by simpa using g7)) (λq Z X _ zq=>by obtain⟨_,_,_,kb,_⟩:=zq;exact SqL.of (kb _ _ MDn d5)) ?_ ?_
   ·rintro q mv Z X hm R;refine fV R ?_;clear R;rintro j2 c3 rfl kb I a4;obtain⟨m,a6,b2⟩:=ic f0 hm;have hq:=(fY.mp hm).1;have c7:KT G2 X:=kb.kt e7 (by intro xs z;cases z);have a0:C7q P w H1 X g PD r (idx rows A):=g4.kt (λo e=>kb _ _ PDn e) c7 λl xs O e2=>kb _ _ (H1nl l O) e2;obtain⟨mb,rfl,na⟩:=(b2.kt c7).nest;have mn:=DY (gq a6);refine jA _ rfl (.inl (gk rfl _ (SqL.of I))) _ rfl (kY (iC PD _ _ rfl a0.nd) _ rfl (fT rfl) λe he=>?_);obtain⟨X1,S,d9,U⟩:=nH (o:=.lst []) he;rw[U];refine iu PD mb _ r (mkK m) _ _ (fL rfl ⟨rfl,rfl,ka a0.nd S,na.keeps (λb xs e=>S _ _ e),rfl⟩ ?_)
    obtain⟨l0,el,hl0⟩:∃l0,(fN r (mkK m)).getD (.ref e)=.ref l0/\X1 l0=some (.lst ((idx rows A m).map V.int)):=by
     rcases a0.at_ m mn with ⟨J,h2⟩|⟨l0,J,_,h3⟩
     ·exact bd e (by rw[J];rfl) (by rw[h2];exact d9)
     ·exact bd l0 (by rw[J];rfl) (S _ _ h3)
    rw[el];refine fJ l0 rfl ⟨_,SqL.of hl0⟩ λD hD=>?_;have l6:=uj rows A m;have Dn:D≠g:=λz=>by rw[z,S _ _ I]at hD;cases hD
    refine nF (K:=K) (a:=l0) (xs:=(idx rows A m).map V.int) (D:=D) (λj ys Y=>A0k X1 Y/\Y D=some (.lst ys)/\ys.length=j/\B1x Y ys (((idx rows A m).take j).map λa=>(a,(A.length:Int)))) (iW (fI hD) dh rfl .nil) (λj ys Y q=>SqL.of (q.1 _ _ hl0)) ?_ ?_
    ·rintro j x ys Y hx ⟨sY,c6,ly,b7⟩;obtain⟨i7,j9,rfl⟩:=jZ hx;have hj:=(fY.mp hx).1;rw[eA]at hj;refine⟨⟨rfl,True.intro⟩,(iB _ rfl _ rfl (fT rfl) λu hu=>?_)⟩;obtain⟨Y1,su,j1,U⟩:=nH (o:=.tup [.int i7,.int (i:Nat)]) hu;rw[U];have b5:KT Y1 (upd Y1 D (.lst (ys++[.ref u]))):=KT.at (su _ _ c6) (by intro xs z;cases z);refine jh (su _ _ c6) (gJ (by lia)) (gQ (sY.trans su) hD) dh (by simp[ly]) ?_;rw[gW,j9,jt,gy];refine jN ((b7.kt (KT.same su)).kt b5) (.cons (bd u rfl ?_) .nil);rw[c0];exact b5 _ _ j1
    ·rintro ys Y ⟨sY,c6,ly,b7⟩;rw[eA,hZ]at b7;have b6:=S.trans sY;have k9:=Paired.length a4;have lq:=e8 q;rw[eA]at ly;refine iG g D _ _ rfl rfl (b6 _ _ I) c6 (jR (by lia)) ?_;have b5:KT Y (upd Y g (.lst (c3++ys))):=KT.at (b6 _ _ I) (by intro xs z;cases z);refine ga _ _ rfl ((kb.trans (KB.of b6)).upd) dh ?_;rw[Fe _ _ a6,<-iE];exact jN ((a4.kt (KT.same b6)).kt b5) (b7.kt b5)
   rintro Z X R;refine fV R ?_;clear R;rintro j2 c3 rfl kb I a4;have c7:KT G2 X:=kb.kt e7 (by intro xs z;cases z);have a0:C7q P w H1 X g PD r (idx rows A):=g4.kt (λo e=>kb _ _ PDn e) c7 λl xs O e2=>kb _ _ (H1nl l O) e2;have e5:K2 g PD H1 X:=λb o J h2 e=>kb _ _ J (k1 b o J h2 e);have f2:=e8 h7.length;rw[i9,hZ]at a4 f2;rw[EE]at a4 f2
   have g6:D4f (wrS rows) (rdS lk rows) (A++[L]) (N++oz (wr:=wrS rows) A L zs):=by
    refine a3.step nd k5 (i0 L h5) λha=>?_
    have e0:gj d d.length=A++L::(gj d d.length).drop (i+1):=by rw[<-hA];exact yd d8
    obtain⟨hh,O,_⟩:=i8 A L _ e0 ha;rw[O];simp
   refine ma _ rfl _ rfl p b0 lk (jr rows L rfl (d0 e5) (d6.kt (g5 e5)) ok λME e9 G3 a9 s3 d2 d4=>(fJ ME rfl ⟨_,SqL.of d2⟩ ?_));have i2:=e5.of s3;have j0:=a0.same s3;have k2:=Paired.length d4;have l1:=DA rows L;have MEn:ME≠g:=λe=>by rw[e,I]at a9;cases a9
   obtain⟨uq,eq,tq,l4⟩:=mz a0.nd;have MEP:ME≠PD:=λe=>by rw[e,eq]at a9;cases a9
   refine kH (K:=K) (a:=ME) (xs:=e9) (λq Z X3=>∃(o5:zP)(r:List (fP×V)),Z=[Sro p,Sro g,Sro PD,Sio (i:Nat),Sro b0,o5]/\K2 g PD H1 X3/\KT G3 X3/\X3 g=some (.lst c3)/\X3 ME=some (.lst e9)/\C7q P w H1 X3 g PD r (((mw rows L).take q).foldl (λc x=>ki c x (A.length:Int)) (idx rows A))/\(∀m l,MkN m->fN r (mkK m)=some (.ref l)->l≠ME)/\r.length<=2*i+q/\∀m,((((mw rows L).take q).foldl (λc x=>ki c x (A.length:Int)) (idx rows A)) m).length<=300+q)
    (ga _ r rfl i2 (KT.same (A0k.refl _)) (jh (s3 _ _ I) d2 j0 (λm l hm e z=>?_) (by lia) λm=>by have:=uj rows A m;show(idx rows A m).length<=_;lia)) (λq Z X3 _ zq=>by obtain⟨_,_,_,_,_,_,h,_⟩:=zq;exact SqL.of h) ?_ ?_
   ·rcases a0.at_ m hm with ⟨J,_⟩|⟨l',J,_,h3⟩
    ·rw[J]at e;cases e
    ·rw[J]at e;cases e;rw[z,a9]at h3;cases h3
   ·rintro q mv Z X3 hm R;refine fV R ?_;clear R;rintro f5 C rfl k3 a8 ⟨b4,b8,W,c4,i3,c9⟩;obtain⟨m,a6,b2⟩:=ic d4 hm;have hq:=(fY.mp hm).1;obtain⟨mb,rfl,na⟩:=(b2.kt a8).nest;have mn:=Cz (gq a6);obtain⟨uD,eD,tD,lD⟩:=mz W.nd;rw[Ex _ _ _ a6];generalize hc:((mw rows L).take q).foldl (λc x=>ki c x (A.length:Int)) (idx rows A)=c at W c9;refine jA _ rfl (iC PD _ _ rfl W.nd) _ rfl ⟨fT rfl,λe he=>?_⟩;obtain⟨X4,S,d9,U⟩:=nH (o:=.lst []) he;rw[U];have en:e≠g:=λz=>by rw[z,b4]at he;cases he
    have d7:e≠PD:=λz=>by rw[z,eD]at he;cases he
    have eM:e≠ME:=λz=>by rw[z,b8]at he;cases he
    have H1e:H1 e=none:=by
     cases z:H1 e with
     |none=>rfl
     |some oo=>rw[k3 _ _ en d7 z]at he;cases he
    have l3:=c9 m
    have f8:∀m',(ki c m (A.length:Int) m').length<=300+(q+1):=λm'=>by
     have:=c9 m';unfold ki;split
     ·rw[gc,lK];lia
     ·lia
    have d1:∀{l:zW}{ys:zM},X3 l=some (.lst ys)->l≠PD:=λ{l ys} h=>gN h eD (λz=>lD _ z.symm);refine jF PD mb _ (hU C (mkK m) _ _ rfl ⟨rfl,rfl,ka W.nd S,na.keeps (λb xs e=>S _ _ e),rfl⟩ (gJ (by lia)) (λv hv=>?_) λa7 o1 j8=>?_)
    ·rcases W.at_ m mn with ⟨J,_⟩|⟨l',J,h2,h3⟩
     ·rw[J]at hv;cases hv
     rw[J]at hv;cases hv;have h4:=S _ _ h3;refine gT (.inl (gk rfl _ (SqL.of h4))) _ rfl (iH l' _ _ rfl rfl h4 (gJ (by rw[eA];lia)) ?_);have b1:KT X4 (upd X4 l' (.lst ((c m).map V.int++[.int (i:Nat)]))):=KT.at h4 (by intro xs z;cases z);have lP:=d1 h3;refine ga _ C rfl ((k3.of S).fresh h2) (a8.trans ((KT.same S).trans b1)) (jh (by rw[eh (H1nl l' h2).symm];exact S _ _ b4) (by rw[eh (c4 m l' mn J).symm];exact S _ _ b8) ⟨(ka W.nd S).keeps (λo e=>by rw[eh lP.symm];exact e) b1,λm' a1=>?_,W.inj⟩ c4 (by lia) f8);by_cases em:m'=m
     ·subst em;refine .inr (fJ l' J h2 ?_);rw[dh];unfold ki;rw[bz rfl,gy,c0];rfl
     ·have ea:ki c m (A.length:Int) m'=c m':=by unfold ki;rw[bp em]
      rw[ea];refine(W.at_ m' a1).imp id λ⟨l2,g1,g2,g3⟩=>(fJ l2 g1 g2 ?_);rw[eh λz=>em (W.inj m' m l' a1 mn (by rw[<-z];exact g1) J)];exact S _ _ g3
    ·have h0:c m=[]:=by
      rcases W.at_ m mn with ⟨_,h0⟩|⟨l',J,_⟩
      ·exact h0
      ·rw[J]at a7;cases a7
     have eX:upd X4 PD o1 e=some (.lst []):=by rw[eh d7];exact d9
     have k4:KT X4 (upd X4 PD o1):=λb xs z=>by rw[eh (gN z (S _ _ eD) λq=>tD _ q.symm)];exact z
     have e3:∀b ob,b≠PD->b≠e->X3 b=some ob->upd (upd X4 PD o1) e (.lst ([]++[.int (i:Nat)])) b=some ob:=λb ob J h2 z=>by rw[eh h2,eh J];exact S _ _ z
     refine gT (.inl (gk rfl _ (SqL.of eX))) _ rfl (iH e _ _ rfl rfl eX (gJ (by simp)) ?_);have b1:KT (upd X4 PD o1) (upd (upd X4 PD o1) e (.lst ([]++[.int (i:Nat)]))):=KT.at eX (by intro xs z;cases z);have k8:=og C (mkK m) (V.ref e);refine ga _ (gr C (mkK m) (.ref e)) rfl (((k3.of S).at2).fresh H1e) (a8.trans ((KT.same S).trans (k4.trans b1))) (jh (e3 _ _ PDn.symm en.symm b4) (e3 _ _ MEP eM.symm b8) ⟨j8.keeps (λo e'=>by rw[eh d7.symm];exact e') b1,λm' a1=>?_,λm1 m2 l' g1 g2 O e2=>?_⟩ (λm' l' a1 O=>?_) (by lia) f8)
     ·rw[lE];by_cases em:m'=m
      ·subst em;rw[bz rfl];refine .inr (fJ e rfl H1e ?_);rw[dh];unfold ki;rw[bz rfl,h0,c0];rfl
      ·rw[bp λz=>em (qj z)];have ea:ki c m (A.length:Int) m'=c m':=by unfold ki;rw[bp em]
       rw[ea];refine(W.at_ m' a1).imp id λ⟨l2,g1,g2,g3⟩=>(fJ l2 g1 g2 ?_);exact e3 _ _ (d1 g3) (gh g3 he) g3
     ·have f6:∀mm,MkN mm->∀ll,fN C (mkK mm)=some (.ref ll)->ll≠e:=λmm f7 ll z=>by
       rcases W.at_ mm f7 with ⟨q1,_⟩|⟨l2,q1,_,q3⟩
       ·rw[q1]at z;cases z
       ·rw[q1]at z;cases z;exact gh q3 he
      rw[lE]at O e2;by_cases c1:m1=m
      ·by_cases c2:m2=m
       ·rw[c1,c2]
       ·rw[bz (by rw[c1])]at O;rw[bp λz=>c2 (qj z)]at e2;cases O;exact absurd rfl (f6 m2 g2 _ e2)
      ·rw[bp λz=>c1 (qj z)]at O;by_cases c2:m2=m
       ·rw[bz (by rw[c2])]at e2;cases e2;exact absurd rfl (f6 m1 g1 _ O)
       ·rw[bp λz=>c2 (qj z)]at e2;exact W.inj m1 m2 l' g1 g2 O e2
     ·rw[lE]at O;by_cases c1:m'=m
      ·rw[bz (by rw[c1])]at O;cases O;exact eM
      ·rw[bp λz=>c1 (qj z)]at O;exact c4 m' l' a1 O
   ·rintro Z X3 R;refine fV R ?_;clear R;rintro f5 C rfl k3 a8 ⟨b4,b8,W,c4,i3,c9⟩;rw[k2,hZ]at W;refine⟨_,(iS _ _ c3 _ C rfl k3 b4 ((a4.kt (KT.same s3)).kt a8) g6 ⟨W.nd,λm hm=>?_,W.inj⟩ ⟨by lia,?_⟩)⟩
    ·rw[<-DN rows A L m hm];exact W.at_ m hm
    ·lia
  ·rintro Z G R;refine kn R ?_;clear R;rintro o3 o4 o5 ns N r rfl kk b9 prs ⟨a3,pl,i6,lN⟩;rw[i1,hZ]at a3;refine bd _ rfl (gE g ns (kIP G) rfl (SqL.of b9) (λy hy=>?_) λzs pz sz l' f9=>?_)
   ·obtain⟨j,hj⟩:=List.getElem?_of_mem hy;obtain⟨pp,_,pr⟩:=ic prs hj;have O:=wJ pr;obtain⟨b,rfl,hb⟩:=pr;exact iM b pp.1 [pp.2] rfl O hb
   ·obtain⟨N',h9,pn⟩:=GL pz prs;have g0:N'.Nodup:=pn.nodup_iff.mpr a3.nd;have h8:(zs.map (kIP G)).Pairwise (λx y=>gM y x=false):=by rw[List.pairwise_map];exact sz
    rw[wU h9,List.pairwise_map]at h8;have f3:A0k G (upd G l' (.lst zs)):=fI f9;exact k N' l' zs _ ⟨g0,λq=>by rw[pn.mem_iff];exact a3.iff q⟩ (Cn g0 h8) (by have:=pn.length_eq;lia) ((e4 kk).free f9) ((e4 kk).trans f3) dh (B1x.kt h9 (KT.same f3))
def TH(H:Hp):Hp:=λa=>match H a with|some (.tup xs)=>some (.tup xs)|_=>none
theorem tR(e:H p=some (.tup xs)):TH H p=some (.tup xs):=by unfold TH;rw[e]
theorem xp(e:TH H p=some o):∃xs,o=.tup xs/\H p=some (.tup xs):=by
 unfold TH at e;split at e
 ·rename_i xs h;exact bd xs ((iO e).symm) h
 ·cases e
theorem oB(k:KT H H'):A0k (TH H) (TH H'):=λb o e=>by obtain⟨a,rfl,h⟩:=xp e;exact tR (k _ _ h)
theorem rL(H:Hp):A0k (TH H) H:=λb o e=>by obtain⟨a,rfl,h⟩:=xp e;exact h
theorem ny(s:A0k H H'):A0k (TH H) (TH H'):=oB (KT.same s)
theorem uz(xs:zC):PyData.eqv (jn xs) (jn [])=decide (xs=[]):=by
 cases xs with
 |nil=>rfl
 |cons x r=>rfl
def OkN(xs:zC):Prop:=∀x∈xs,PyData.strOk x=true/\1<=x.length
def Hh(K:Frag):Sp:=λc H Q _=>∃(a:zW)(b:zI)(k:Int),c=[.ref a,.int k]/\SqL K H a (b.map V.int)/\0<=k/\∀z:Int,Q (.int z) H
def Fz:Sp:=λa H Q _=>∃z:Int,a=[.int z]/\Q (.bl true) H
def DW:Sp:=λa H Q _=>∃(c k:Int),a=[.int c,.int k]/\0<=k/\k<=100/\∀z:Int,0<=z->z<99989->Q (.int z) H
def Hw:Sp:=λg H Q _=>∃(b c:Int)(e f:zW)(a:zC),g=[.int b,.ref e,.int c,.ref f]/\H e=some (.lst (a.map V.str))/\1<=c/\c<=60/\OkS a/\a.length<=100/\
 ∀(q:zW)(x:Str)(z:Int)(d:Hp),A0k H d->d q=some (.tup [.str x,.int z])->(x=""\/x∈a)->Q (.ref q) d
theorem ve(T:Txt K mg t):FO P w base T.aG 1 (Hh K):=by
 refine T.aG.F.ok GT λ_ A _ s H _ Q E i h=>?_
 ·refine gn h ?_;clear h;rintro a c k rfl b d q;refine rsq (eH (gI (iA pW (pv 1) (lM T.aM (fK 0))) (fm (fU (iZ jx (pv 0) (pv 1)))) ⟨gO⟩) (fm (fU fM))) ?_;refine ig _ rfl _ rfl a _ rfl (.inl b) ⟨_,(jA _ rfl rfl _ rfl ?_)⟩;refine iP (λg=>?_) (λ_=>q 0);obtain⟨z,_,e⟩:=uh (f:=V.int) (xs:=c) d (by simpa using g);exact jJ _ rfl _ rfl a _ _ _ rfl rfl b e (q _)
theorem zh(T:Txt K mg t):FO P w base T.bP 1 Fz:=by
 refine T.bP.F.ok F9 λ_ A _ s H _ Q E a h=>?_
 ·obtain⟨z,rfl,q⟩:=h;refine rsq (fm (fU (wF (jy kJ (by rfl) T.a5 kr (bm (pv 0) (bm (kG (v:=V.ty "int") rfl T.fg PyProof.Rows.boot_int rfl) dV))) (wB (BH (jy kJ (by rfl) T.a5 kr (bm (pv 0) (bm (kG (v:=V.ty "bool") rfl T.fo PyProof.Rows.boot_bool rfl) dV)))))))) ?_;refine iT _ rfl _ _ _ _ rfl (kA.int z) (oN "int") true rfl (nL ?_);exact iT _ rfl _ _ _ _ rfl (kA.int z) (pC (by decide+kernel) (by decide+kernel) (by decide+kernel)) false rfl q
theorem rR(T:Txt K mg t):FO P w base T.bM 1 DW:=by
 refine T.bM.F.ok xY λ_ A _ s H _ Q E b h=>?_
 ·refine fV h ?_;clear h;rintro c k rfl a d q;refine rsq (eH (fX 2 xY.nd (fQ jp (fQ jQ (fQ jQ (fQ nQ (pv 0) (fQ jQ fM (fQ nQ fM (pv 1)))) (fQ nQ fM (pv 1))) fM) fM)) (fm (fU (fQ jp (fQ nQ (pv 2) (fQ jQ (fQ jQ (pv 2) fM) (pv 1))) fM)))) ?_;refine ig _ rfl _ rfl _ _ rfl rfl (jg (.inl ⟨by decide,by decide⟩) _ _ rfl rfl (ga _ _ rfl rfl (.inr ⟨by lia,by lia⟩) (fZ _ rfl _ _ rfl rfl (md (.inl ⟨by decide,by decide⟩) _ _ rfl (jg rfl _ _ rfl rfl (ga _ _ rfl rfl DG ?_))))));refine ig _ rfl _ rfl _ _ rfl rfl (fZ _ rfl _ _ rfl rfl (ga _ _ rfl rfl (.inl ⟨by lia,by lia⟩) (ga _ _ rfl rfl Ec ?_)));exact q _ (om _ (by decide)) (oq _ (by decide))
theorem Hn(T:Txt K mg t):FO P w base T.be 1 Hw:=by
 refine T.be.F.ok vh λ_ A _ s H _ Q E D h=>?_
 ·refine kO h ?_;clear h;rintro d o r C a rfl b J B l ⟨I,k⟩;refine rsq (eH (fX 4 vh.nd je) (nj (gI (PW.pt (ue (iA (wn D.units) (pv 1) (@hJ _ _ _ _ dV)) (uw (iA pY (fQ jp (pv 0) fM) fM)))) (fm (fX 4 vh.nd (iZ jx (pv 1) (fQ jp (fQ my (pv 0) fM) (lM T.aM (fK 1)))))) ⟨gO⟩) (eH (gI (iA lA (pv 4) je) (fm (fU (hW (bm (pv 4) (bm (fQ jp (fQ my (pv 0) fM) (pv 2)) dV))))) ⟨gO⟩) (eH (gI (iA lA (fQ jp (fQ my (pv 0) fM) fM) fM) (fm (fU (hW (bm (pv 4) (bm (fQ pB (fQ jp (fQ my (pv 0) fM) (fQ jQ (fQ nQ fM (pv 2)) fM)) (pv 2)) dV))))) ⟨gO⟩) (fm (fU (hW (bm (pv 4) (bm (fQ pB (fQ jp (fQ my (pv 0) fM) fM) fM) dV))))))))) ?_;refine bd (λZ G=>∃x:Str,Z=[Sio d,Sro r,Sio o,Sro C,Sso x]/\A0k H G/\(x=""\/x∈a)) ?_ ?_
  ·refine fJ _ rfl (fT rfl) λz v=>?_;have c:A0k H (upd H z (.lst [])):=fI v;have g:upd H z (.lst []) z=some (.lst (([]:zC).map V.str)):=dh;generalize upd H z (.lst [])=H1 at c g⊢;refine fC (jn a) (jn []) (mL (c _ _ b)) (mL g) (iK (uO (uK l) (by have:=(nT a).1;lia)) rfl _ rfl ?_);rw[uz];refine pU (λn=>?_) (λ_=>iz (fJ _ rfl c (.inl rfl)))
   have u:0<a.length:=by
    rcases a with _|_
    ·exact absurd rfl n
    ·simp
   refine fZ _ rfl _ _ rfl rfl (iK qJ rfl _ rfl (pU (λ_=>?_) (λ_=>(fJ _ rfl c (.inl rfl)))));obtain⟨x,y,e⟩:=uh (f:=V.str) (xs:=a) (i:=d/4%((a.map V.str).length:Int)) (om _ (by rw[eA];lia)) (by rw[eA];exact oq _ (by lia));exact ig _ rfl _ rfl _ _ rfl rfl ⟨⟨by decide,by decide⟩,(fZ _ rfl r _ rfl (.inl (SqL.of (c _ _ b))) (ga _ _ rfl rfl (by show(0:Int)<((a.map V.str).length:Int);rw[eA];lia) (hU r _ _ _ rfl rfl (SqL.of (c _ _ b)) e (fJ x rfl c (.inr (gq y))))))⟩
  rintro Z G ⟨x,rfl,p,m⟩;refine jA _ rfl rfl _ rfl (iP (λ_=>?_) (λ_=>?_))
  ·exact ig _ rfl _ rfl _ _ rfl rfl (gk ⟨by decide,by decide⟩ _ (kX rfl _ _ rfl rfl (by show(0:Int)<o;lia) (fT rfl) λq j=>k q x _ _ (p.trans (fI j)) dh m))
  refine fZ _ rfl _ _ rfl rfl (jg ⟨by decide,by decide⟩ _ _ rfl rfl (iK pf rfl _ rfl (iP (λ_=>?_) (λ_=>?_))))
  ·exact ig _ rfl _ rfl _ _ rfl rfl ⟨⟨by decide,by decide⟩,(fZ _ rfl _ _ rfl rfl (jg (.inl ⟨by decide,by decide⟩) _ _ rfl rfl (ga _ _ rfl rfl (by show(0:Int)<2*o+1;lia) (fZ _ rfl _ _ rfl rfl ⟨fT rfl,λq j=>k q x _ _ (p.trans (fI j)) dh m⟩))))⟩
  ·exact ig _ rfl _ rfl _ _ rfl rfl (jg ⟨by decide,by decide⟩ _ _ rfl rfl ⟨z_50,(ga _ _ rfl rfl (fT rfl) λq j=>k q x _ _ (p.trans (fI j)) dh m)⟩)
structure Pc where
 arr:Str
 ix:zL
 gs:List (Str×Int×Int)
def oA(g:Str×Int×Int):PyData:=.tuple [.str g.1,.int g.2.1,.int g.2.2]
theorem vS(h:Rep H v (oA g)):∃b,v=.ref b/\H b=some (.tup [.str g.1,.int g.2.1,.int g.2.2]):=by
 unfold oA at h
 cases h with
 |@tup b xs _ eb r=>
  cases r with
  |cons a r=>
   cases r with
   |cons a2 r=>
    cases r with
    |cons a3 r=>
     cases r
     cases a
     cases a2
     cases a3
     exact bd b rfl eb
def C2y(M:zQ)(H:Hp)(v:V)(p:Pc):Prop:=∃(q b a:zW)(d c:zM),v=.ref q/\H q=some (.tup [.str p.arr,.ref b,.ref a])/\b∉M/\H b=some (.lst d)/\a∉M/\H a=some (.lst c)/\A3v (TH H) d (p.ix.map kS)/\A3v (TH H) c (p.gs.map oA)
theorem C2y.imp{p:Pc}(h:C2y M H v p)(f:KT H H')(g:∀c xs,c∉M->H c=some (.lst xs)->c∉M'/\H' c=some (.lst xs)):C2y M' H' v p:=by refine kO h ?_;clear h;rintro q j i l m rfl o e b d ⟨a,k,n⟩;exact iS q j i l m rfl (f _ _ o) ((g _ _ e b).1) ((g _ _ e b).2) ((g _ _ d a).1) ((g _ _ d a).2) ⟨k.same (oB f),n.same (oB f)⟩
theorem C2y.same{p:Pc}(h:C2y M H v p)(s:A0k H H'):C2y M H' v p:=h.imp (KT.same s) λ_ _ m z=>⟨m,s _ _ z⟩
structure Lw where
 nm:Str
 own:zC
 sums:zC
 ps:List Pc
 wo:Int
def C3b(M:zQ)(H:Hp)(v:V)(e:Lw):Prop:=∃(q O S Pl:zW)(pv:zM),v=.ref q/\H q=some (.tup [.str e.nm,.ref O,.ref S,.ref Pl,.int e.wo])/\O∉M/\H O=some (.lst (e.own.map V.str))/\S∉M/\H S=some (.lst (e.sums.map V.str))/\Pl∉M/\H Pl=some (.lst pv)/\Paired (C2y M H) pv e.ps
theorem C3b.imp{e:Lw}(h:C3b M H v e)(f:KT H H')(g:∀c xs,c∉M->H c=some (.lst xs)->c∉M'/\H' c=some (.lst xs)):C3b M' H' v e:=by refine kO h ?_;clear h;rintro q O S Pl pv rfl m k b j ⟨a,i,d,l⟩;exact sR q O S Pl pv rfl (f _ _ m) ((g _ _ k b).1) ((g _ _ k b).2) ((g _ _ j a).1) ((g _ _ j a).2) ((g _ _ i d).1) ((g _ _ i d).2) (Paired.mapP l λ_ _ z=>z.imp f g)
theorem C3b.same{e:Lw}(h:C3b M H v e)(s:A0k H H'):C3b M H' v e:=h.imp (KT.same s) λ_ _ m z=>⟨m,s _ _ z⟩
structure nr(BD:zC)(p:Pc):Prop where
 ix:∀e∈p.ix,e.1=""\/e.1∈BD
 gs:∀g∈p.gs,g.1∈BD
 lx:p.ix.length<=8
 lg:p.gs.length<=4
 ok:PyData.strOk p.arr=true
def gIn(f:zR)(g:Str×Int×Int):Prop:=g.2.1<=f g.1/\f g.1<g.2.2
instance (f:zR) (g:Str×Int×Int):Decidable (gIn f g):=inferInstanceAs (Decidable (_/\_))
def kR(f:zR)(a:List (Str×Int×Int)):Bool:=a.all λg=>decide (gIn f g)
theorem rX(f:zR)(a:List (Str×Int×Int))(g:Str×Int×Int):kR f (a++[g])=(kR f a&&decide (gIn f g)):=by simp[kR]
def rdP(f:zR)(p:Pc):List (Str×List Int):=if kR f p.gs=true then [(p.arr,iQ f p.ix)]else []
def prN:zI->Nat| []=>1|n::r=>n.toNat*prN r
theorem xu:∀(a b:zI),prN (a++b)=prN a*prN b| [],b=>by simp[prN]|n::r,b=>by rw[sZ,prN,prN,xu,Nat.mul_assoc]
theorem rH:∀{ls:zI},(∀n∈ls,1<=n)->1<=prN ls
 | [],_=>fH _
 |n::r,h=>by
  have c:=h n (.head _);have a:=rH (ls:=r) λm b=>h m (.tail _ b);rw[prN];have:1*1<=n.toNat*prN r:=Nat.mul_le_mul (by lia) a
  lia
def FI:Sp:=λf H Q _=>∃(l d:zW)(c:zC)(e:zJ)(a:zI),f=[.ref l,.ref d]/\H l=some (.lst (c.map V.str))/\H d=some (.dK e)/\Sz e c a/\pR a/\∀(q:zW)(b:Hp),H q=none->A0k H b->A3o b q (gu a)->Q (.ref q) b
theorem ze(T:Txt K mg t):FO P w base T.bO 1 FI:=by
 refine T.bO.F.ok pI λ_ A _ s H _ Q E hr h=>?_
 ·refine kO h ?_;clear h;rintro a d U lk l rfl ha hd sz g k;have hu:=nA hr;have b0:=Paired.length sz;refine rsq (eH (fX 2 pI.nd (@hJ _ _ _ _ (bm (hW dV) dV))) (eH (ja (jl (pv 0)) (fR (i:=3) pI.nd) (eH (fX 4 pI.nd (@hJ _ _ _ _ dV)) (eH (ja (jl (pv 2)) (fR (i:=5) pI.nd rfl (.inr rfl)) (fm ⟨kc (jY jW PySem.F.slot_list_extend PySem.F.type_list_extend qr (pv 4) (bm (kF (N':=["_law_count","_law_cell"]) (ix:=(List.replicate 1 none++[some 5])) rfl (qk (x:="_law_cell") rfl rfl rfl (by decide+kernel) (by decide+kernel)) (qo (N0:=["_law_count"]) rfl (.inl rfl) (by walk_at"ix")) (nE rfl T.aO (bm (ng hu (pv 1) (pv 3)) dV)) (λ_ _ _ _=>(fR (i:=0) Ev)) (λ_ _ _ _=>(fQ uF (pv 1) (hW (fK 0))))) dV))⟩)) (fm (fX 2 pI.nd (pv 4)))))) (fm (fU (pv 2))))) ?_;refine⟨fT rfl,λe he=>⟨fT rfl,λq O=>?_⟩⟩;have a4:H q=none:=(fI he).free O;have s1:A0k H (upd (upd H e (.tup [])) q (.lst [V.ref e])):=(fI he).trans (fI O)
  refine⟨_,rfl,a,rfl,⟨_,SqL.of (s1 _ _ ha)⟩,kH (K:=K) (a:=a) (xs:=U.map V.str) (λi Z B=>∃(o3 o4 R:zP)(q:zW),Z=[Sro a,Sro d,Sro q,o3,o4,R]/\A0k H B/\H q=none/\A3o B q (gu (l.take i)))
   ⟨none,(gE none none q rfl s1 a4 ⟨[e],dh,.cons (by rw[eh (gh dh O)];exact dh) .nil⟩)⟩ (λi Z B _ zq=>by obtain⟨_,_,_,_,_,I,_⟩:=zq;exact SqL.of (I _ _ ha)) ?_ ?_⟩
  ·rintro i y Z B hi f;refine iN f ?_;clear f;rintro o3 o4 R ⟨q,rfl,I,O,ps,M,tp⟩;obtain⟨nm,a5,rfl⟩:=jZ hi;obtain⟨n,hn,vn⟩:=ic sz a5;have gp:=g.pos n (gq hn);have cl:=oi (l.take i) λm N=>(g.pos m (mT N)).1;have pl:=Ag l (λm N=>(g.pos m N).1) i;have gm:=g.most;have gf:=g.few;have a7:=tp.len
   have h8:∀c∈gu (l.take i),c.length<=8:=λc Y=>by
    have e:=(sD _ c Y).1;rw[jd]at e
    lia
   refine⟨fT rfl,λL X=>?_⟩;obtain⟨H3,t1,b1,a6⟩:=nH (o:=.lst []) X;have L0:H L=none:=I.free X;have qL:q≠L:=gh M X;rw[a6];refine iB _ rfl q rfl ⟨_,SqL.of (t1 _ _ M)⟩ ?_
   refine kH (K:=K) (a:=q) (xs:=ps.map V.ref) (λj Z G=>∃(R:zP)(r:zQ),Z=[Sro a,Sro d,Sro q,Sso nm,Sro L,R]/\A0k B G/\G L=some (.lst (r.map V.ref))/\A2f G r (jv ((gu (l.take i)).take j) n))
    (ga _ [] rfl t1 b1 .nil) (λj Z G _ zq=>by obtain⟨_,_,_,C,_⟩:=zq;exact SqL.of (C _ _ M)) ?_ ?_
   ·rintro j x Z G hj f;refine fV f ?_;clear f;rintro a2 r rfl C b S;obtain⟨pc,a9,rfl⟩:=jZ hj;obtain⟨c,Y,a1⟩:=tp.get a9;have b3:=h8 c (gq Y)
    have b2:r.length<=240000:=by
     have e:=S.len;rw[vc,jd]at e;have e1:min j (gu (l.take i)).length*n.toNat<=4000*60:=Nat.mul_le_mul (by lia) (by lia)
     lia
    have gd:=B2i.k (H:=G) (a:=d) (k:=Sum.inr nm) ((I.trans C) _ _ hd);rw[vn]at gd;refine fJ _ rfl (.inl (gk rfl _ (SqL.of b))) (ig _ rfl _ rfl d _ rfl gd (iU _ rfl (by lia) (by lia) λD hD=>?_));have DL:D≠L:=λz=>by rw[z,b]at hD;cases hD
    refine qv (D:=D) n.toNat (λm U J=>A0k G J/\∃p:zQ,U=p.map V.ref/\J D=some (.lst (p.map V.ref))/\A2f J p ((List.range m).map λ(k:Nat)=>c++[(k:Int)])) (kY (fI hD) [] rfl dh .nil) (λm U J N _=>N) (λU J _=>fH _) ?_ ?_
    ·rintro m a3 J N ⟨v,p,rfl,h4,W⟩ x H5 ⟨rfl,rfl⟩;have lw:=W.len;rw[eA,List.length_range]at lw;refine⟨⟨rfl,True.intro⟩,(iB _ rfl _ rfl (fT rfl) λu a0=>?_)⟩;have v1:A0k H5 (upd H5 u (.tup [.int (0+(m:Int))])):=fI a0;refine iG pc u _ _ rfl rfl (v1 _ _ (v _ _ (C _ _ a1))) dh (jR (by rw[eA];simp;lia)) λq5 H6 s6 a8=>?_;have v6:=v1.trans s6;refine fL (v6 _ _ h4) (gJ (by rw[eA];lia)) (kY (gQ (v.trans v6) hD) (p++[q5]) (by rw[gy];rfl) (by rw[dh,gy];rfl) ?_);rw[List.range_succ,gy];refine((W.same v6).snoc ?_).lst (v6 _ _ h4);rw[a8,gy,Int.zero_add];rfl
    ·rintro a3 J ⟨v,p,rfl,h4,W⟩;have lw:=W.len;rw[eA,List.length_range]at lw;refine iG L D _ _ rfl rfl (v _ _ b) h4 (jR (by rw[eA,eA];lia)) ?_;refine ga _ (r++p) rfl (gQ (C.trans v) X) (by rw[dh,gy]) ?_
     have e:jv ((gu (l.take i)).take (j+1)) n=jv ((gu (l.take i)).take j) n++(List.range n.toNat).map λ(m:Nat)=>c++[(m:Int)]:=by rw[gW,Y];simp[jv]
     rw[e];exact A2f.lst (ps:=r++p) (jN (S.same v) W) (v _ _ b)
   ·rintro Z G f;refine fV f ?_;clear f;rintro a2 r rfl C b S;rw[eA,a7,hZ]at S;refine bd _ rfl ⟨_,(gE _ _ L rfl (I.trans C) L0 ⟨r,b,?_⟩)⟩;rw[AB hn];exact S
  ·rintro Z B f;refine iN f ?_;clear f;rintro o3 o4 R ⟨q,rfl,I,O,c2⟩;rw[eA,b0,hZ]at c2;exact bd _ rfl (k q B O I c2)
theorem zb{k:Key}:∀{b acc a:zJ},(k∈b.map (·.1)\/fN acc k=fN a k)->fN (hV acc b) k=fN (hV a b) k
 | [],acc,a,h=>by
  rcases h with h|h
  ·cases h
  ·exact h
 |w::r,acc,a,h=>by
  show fN (hV (gr acc w.1 w.2) r) k=fN (hV (gr a w.1 w.2) r) k;refine zb ?_;by_cases hk:k=w.1
  ·right;rw[lE,lE,hk];simp
  ·rcases h with h|h
   ·rw[gA,gB]at h;exact .inl (h.resolve_left hk)
   ·right;rw[lE,lE,h]
theorem yw{k:Key}:∀{a acc:zJ},(∀w∈a,∃i:Int,w.2=.int i)->(k∈a.map (·.1)\/∃i:Int,fN acc k=some (.int i))->∃i:Int,fN (hV acc a) k=some (.int i)
 | [],acc,_,h=>by
  rcases h with h|h
  ·cases h
  ·exact h
 |w::r,acc,hi,h=>by
  show∃i:Int,fN (hV (gr acc w.1 w.2) r) k=some (.int i);refine yw (λx c=>hi x (.tail _ c)) ?_;by_cases hk:k=w.1
  ·obtain⟨i,b⟩:=hi w (.head _);right;refine⟨i,?_⟩;rw[lE,hk,b];simp
  ·rcases h with h|⟨i,h⟩
   ·rw[gA,gB]at h;exact .inl (h.resolve_left hk)
   ·right;refine⟨i,?_⟩;rw[lE];split
    ·rename_i z
     first
     |exact absurd z hk
     |exact absurd z.symm hk
    ·exact h
theorem uN{k:Key}:∀{a acc:zJ},k∉a.map (·.1)->fN (hV acc a) k=fN acc k
 | [],acc,_=>rfl
 |w::r,acc,h=>by
  rw[gA,gB,not_or]at h;show fN (hV (gr acc w.1 w.2) r) k=_;rw[uN h.2,lE];split
  ·rename_i z
   first
   |exact absurd z h.1
   |exact absurd z.symm h.1
  ·rfl
def prs(own sums:zC)(s:StM):zJ:=((own++sums).map (Sum.inr:Str->Key)).zip ((s.ce++s.tu).map V.int)
def atW(own sums:zC)(s:StM):zJ:=hV [(Sum.inr (("":Str)),.int 0)] (prs own sums s)
theorem rQ{own:zC}(h1:s.ce.length=own.length)(h2:s.tu.length=sums.length):(prs own sums s).map (·.1)=(own++sums).map (Sum.inr:Str->Key):=by unfold prs;show List.map Prod.fst _=_;rw[List.map_fst_zip (by rw[eA,eA,gc,gc];lia)]
theorem CH{own:zC}:∀w∈prs own sums s,∃i:Int,w.2=.int i:=λw a=>by unfold prs at a;have:=(List.of_mem_zip a).2;obtain⟨i,_,e⟩:=gY.mp this;exact⟨i,e.symm⟩
theorem ww{own:zC}(h1:s.ce.length=own.length)(h2:s.tu.length=sums.length)(a:x∈own++sums):fN (atW own sums s) (Sum.inr x)=some (.int (ai (atW own sums s) x)):=by obtain⟨i,e⟩:=yw (k:=Sum.inr x) (acc:=[(Sum.inr (("":Str)),.int 0)]) (CH (own:=own) (sums:=sums) (s:=s)) (.inl (by rw[rQ h1 h2];exact gY.mpr (bd x a rfl)));have e:fN (atW own sums s) (Sum.inr x)=some (.int i):=e;rw[e,ro e]
theorem C9{own:zC}(h1:s.ce.length=own.length)(h2:s.tu.length=sums.length)(b:OkN (own++sums)):fN (atW own sums s) (Sum.inr (("":Str)))=some (.int 0):=by
 unfold atW;rw[uN]
 ·rfl
 ·rw[rQ h1 h2];intro m;obtain⟨x,a,e⟩:=gY.mp m;have:=(b x a).2;have e:x=("":Str):=by injection e
  rw[e]at this;exact absurd this (by decide+kernel)
theorem CS{own:zC}(h1:s.ce.length=own.length)(h2:s.tu.length=sums.length)(b:x∈own++sums):ai (hV [] (prs own sums s)) x=ai (atW own sums s) x/\fN (hV [] (prs own sums s)) (Sum.inr x)=some (.int (ai (hV [] (prs own sums s)) x)):=by have e:fN (hV [] (prs own sums s)) (Sum.inr x)=fN (atW own sums s) (Sum.inr x):=zb (.inl (by rw[rQ h1 h2];exact gY.mpr (bd x b rfl)));have c:=ww h1 h2 b;rw[c]at e;have a:=ro e;exact⟨a,by rw[a];exact e⟩
def ke(e:Lw)(s:StM):List (Str×List Int):=if s.wd="start" then []else e.ps.flatMap (rdP (ai (atW e.own e.sums s)))
def HD:Sp:=λc H Q _=>∃(v u:V)(e:Lw)(s:StM)(M:zQ),c=[v,u]/\qM H v s/\C3b M H u e/\(s.wd≠"start"->s.ce.length=e.own.length/\s.tu.length=e.sums.length)/\e.own.length+e.sums.length<=8/\OkN (e.own++e.sums)/\(∀p∈e.ps,nr (e.own++e.sums) p)/\e.ps.length<=3/\
 ∀(D:zW)(b:zM)(a:Hp),H D=none->A0k H a->a D=some (.lst b)->Rds a b (ke e s)->Q (.ref D) a
theorem Cg(f:zR)(p:Pc):(rdP f p).length<=1:=by unfold rdP;split<;>simp
theorem rY(f:zR):∀ps:List Pc,(ps.flatMap (rdP f)).length<=ps.length
 | []=>by simp
 |p::r=>by
  rw[List.flatMap_cons,gc,gZ];have:=rY f r;have:=Cg f p
  lia
theorem HB(T:Txt K mg t):FO P w base T.ba 1 HD:=by
 refine T.ba.F.ok lY λ_ A _ s H _ Q E hr h=>?_
 ·refine kO h ?_;clear h;rintro v u e d M rfl ⟨sb,sc,su,rfl,b6,d8,d9⟩ ⟨q,O,S,Pl,e8,rfl,hq,_,hO,_,hS,_,hP,d3⟩ c6 l8 ⟨c5,d5,f8,k⟩;have hu:=nA hr;have e4:=Paired.length d3;refine rsq (eH (gI (pkd 0) (fm (fU (@hJ _ _ _ _ dV))) ⟨gO⟩) (eH ⟨@lR _ _ 2 _ _ _ _ lY.nd rfl (.inr rfl) (CV (Dz je fM CP) rfl rfl (by simp) (by decide)) rfl (.inl rfl)⟩ (eH (ja (Ek rfl T.fe (bm (fQ oG (pit 1) (pit 1)) (bm (fQ uF (pit 0) (pit 0)) dV))) (kC (n:=2) rfl (gP (fR (i:=3) lY.nd) (gP (fR (i:=4) lY.nd) kE))) (fm ⟨@pD _ _ _ _ _ _ _ _ _ hu (pv 2) (pv 3) (pv 4) rfl⟩)) (eH (fX 5 lY.nd (@hJ _ _ _ _ dV)) (eH (ja (jl (pit 1)) (kC (n:=3) rfl (gP (fR (i:=6) lY.nd) (gP (fR (i:=7) lY.nd) (gP (fR (i:=8) lY.nd) kE)))) (eH (fX 9 lY.nd mZ) (eH (ja (jl (pv 8)) (kC (n:=3) rfl (gP (fR (i:=3) lY.nd) (gP (fR (i:=10) lY.nd) (gP (fR (i:=11) lY.nd) kE)))) (fm (fX 9 lY.nd (wF (pv 9) (wB (xz rk pW (pv 10) (ng hu (pv 2) (pv 3)) (pv 11))))))) (fm (gI (jP (pv 9)) (fm ⟨kc (jY jW lJ lI lF (pv 5) (bm (hW (bm (pv 6) (bm (mE pK (by rfl) T.aq mI (bm (kF (N':=["_law_axis","_law_shift","_law_at"]) (ix:=(List.replicate 2 none++[some 2])) (g:=qQ K 2 (oE (mY 0) (oE (mY 1) qV))) rfl (qk (x:="_law_at") rfl rfl rfl (by decide+kernel) (by decide+kernel)) (qo (N0:=["_law_axis","_law_shift"]) rfl (.inl rfl) (by walk_at"ix")) (jl (pv 7)) (λ_ _ _ _=>(kC (n:=2) rfl (gP (fR (i:=0) zj) (gP (fR (i:=1) zj) kE)))) (λ_ _ _ _=>(fQ jQ (ng hu (pv 2) (pv 0)) (pv 1)))) dV)) dV))) dV))⟩) ⟨gO⟩))))) (fm (fU (pv 5)))))))) ?_;refine i12 _ rfl sb _ _ _ rfl rfl (SqT.of b6) (gD (j:=1) rfl) (gT rfl _ rfl (iP (λhw=>?_) (λhw=>?_)))
  ·have hw:d.wd="start":=by injection hw
   refine⟨fT rfl,λD hD=>k D [] _ hD (fI hD) dh ?_⟩;unfold ke;rw[bz hw];exact .nil
  have hw:d.wd≠"start":=λz=>hw (by rw[z]);obtain⟨lc,lt⟩:=c6 hw;refine λc c9=>(kY dh [(Sum.inr (("":Str)),.int 0)] rfl (by decide) ?_);rw[oK];have t1:A0k H (upd H c (.dK (hV [] [(Sum.inr (("":Str)),.int 0)]))):=fI c9;have a9:upd H c (.dK (hV [] [(Sum.inr (("":Str)),.int 0)])) c=some (.dK [(Sum.inr (("":Str)),.int 0)]):=dh;generalize upd H c (.dK (hV [] [(Sum.inr (("":Str)),.int 0)]))=H1 at t1 a9⊢;refine i12 _ rfl q _ _ _ rfl rfl (SqT.of (t1 _ _ hq)) (gD (j:=1) rfl) (i12 _ rfl q _ _ _ rfl rfl (SqT.of (t1 _ _ hq)) (gD (j:=2) rfl) (iG O S _ _ rfl rfl (t1 _ _ hO) (t1 _ _ hS) (jR (by rw[eA,eA];lia)) λkl d4=>?_));have t2:A0k H1 (upd H1 kl (.lst (e.own.map V.str++e.sums.map V.str))):=fI d4;have a0:upd H1 kl (.lst (e.own.map V.str++e.sums.map V.str)) kl=some (.lst (((e.own++e.sums).map (Sum.inr:Str->Key)).map kV)):=by rw[dh,<-gy,List.map_map];rfl
  generalize upd H1 kl (.lst (e.own.map V.str++e.sums.map V.str))=H2 at t2 a0⊢;have a2:=t1.trans t2;refine i12 _ rfl sb _ _ _ rfl rfl (SqT.of (a2 _ _ b6)) (gD (j:=2) rfl) (i12 _ rfl sb _ _ _ rfl rfl (SqT.of (a2 _ _ b6)) (gD (j:=3) rfl) (iG sc su _ _ rfl rfl (a2 _ _ d8) (a2 _ _ d9) (jR (by rw[eA,eA];lia)) λtt H3 t3 a4=>?_));have a4:H3 tt=some (.tup ((d.ce++d.tu).map V.int)):=by rw[gy];exact a4
  have s3:=a2.trans t3;have d0:=(t2.trans t3) _ _ a9;have d2:(((e.own++e.sums).map (Sum.inr:Str->Key)).map kV).length=((d.ce++d.tu).map V.int).length:=by rw[eA,eA,eA,gc,gc];lia
  refine⟨kl,(gE tt _ _ rfl (SqL.of (t3 _ _ a0)) (SqT.of a4) ?_)⟩
  refine De (K:=K) (a:=kl) (b:=tt) (xs:=((e.own++e.sums).map (Sum.inr:Str->Key)).map kV) (ys:=(d.ce++d.tu).map V.int) (λi Z G=>∃(U o4:zP),Z=[Sro sb,Sro q,Sro c,U,o4,none,none,none,none,none,none,none]/\A0k H G/\G kl=some (.lst (((e.own++e.sums).map (Sum.inr:Str->Key)).map kV))/\G tt=some (.tup ((d.ce++d.tu).map V.int))/\G c=some (.dK (hV [(Sum.inr (("":Str)),.int 0)] ((prs e.own e.sums d).take i))))
   (jr none none rfl s3 (t3 _ _ a0) a4 d0) (λi Z G zq=>by obtain⟨_,_,_,_,g1,g2,_⟩:=zq;exact⟨SqL.of g1,SqT.of g2⟩) d2 ?_ ?_
  ·rintro i x y Z G p hx hy I;refine fV I ?_;clear I;rintro U o4 rfl sg g1 ⟨g2,g3⟩ hp;obtain⟨kx,b4,rfl⟩:=jZ hx
   obtain⟨xx,hxx,rfl⟩:∃xx,(e.own++e.sums)[i]?=some xx/\kx=Sum.inr xx:=by rw[ju]at b4;obtain⟨xx,h1,h2⟩:=nK.mp b4;exact bd xx h1 h2.symm
   obtain⟨yy,f4,rfl⟩:=jZ hy;have L:A0k G (upd G p (.tup [kV (Sum.inr xx),.int yy])):=fI hp;have c1:upd G p (.tup [kV (Sum.inr xx),.int yy]) p=some (.tup [.str xx,.int yy]):=dh;generalize upd G p (.tup [kV (Sum.inr xx),.int yy])=G1 at L c1⊢
   have hz:(prs e.own e.sums d)[i]?=some (Sum.inr xx,.int yy):=by unfold prs;rw[oV];exact⟨b4,hy⟩
   have lm:=xL [(Sum.inr (("":Str)),.int 0)] ((prs e.own e.sums d).take i);have lp:(prs e.own e.sums d).length<=8:=by unfold prs;rw[List.length_zip,eA,gc];lia
   have f6:((prs e.own e.sums d).take i).length<=8:=by rw[jd];lia
   refine km p _ rfl (SqT.of c1) rfl _ _ rfl _ _ rfl ⟨rfl,?_⟩;refine bd _ rfl (ig _ rfl _ rfl c _ rfl (C7r.k (k:=Sum.inr xx) (L _ _ g3) (gJ (by simp only [lK]at lm;lia))) ?_);have na:∀{b:zW}{o:HO},G1 b=some o->(∀e9,o≠.dK e9)->b≠c:=λeb n z=>by rw[z,L _ _ g3]at eb;cases eb;exact n _ rfl
   refine jr _ _ rfl (gQ (sg.trans L) c9) ?_ ?_ ?_
   ·rw[eh (na (L _ _ g1) (by intro k z;cases z))];exact L _ _ g1
   ·rw[eh (na (L _ _ g2) (by intro k z;cases z))];exact L _ _ g2
   ·rw[dh,gW,hz,jt,Gv]
  rintro Z G I;refine fV I ?_;clear I;rintro U o4 rfl sg g1 ⟨g2,g3⟩
  have a7:G c=some (.dK (atW e.own e.sums d)):=by rw[g3];unfold atW;rw[nI (by unfold prs;rw[List.length_zip];simp only [eA];lia)]
  generalize hf:ai (atW e.own e.sums d)=f
  have a8:∀(G':Hp)(x:Str),G' c=some (.dK (atW e.own e.sums d))->x∈e.own++e.sums->B2i G' c (.str x) (some (.int (f x))):=λG' x h hx=>by have g:=B2i.k (H:=G') (a:=c) (k:=Sum.inr x) h;rw[ww lc lt hx,hf]at g;exact g
  have b5:∀(G':Hp),G' c=some (.dK (atW e.own e.sums d))->B2i G' c (.str ("":Str)) (some (.int 0)):=λG' h=>by have g:=B2i.k (H:=G') (a:=c) (k:=Sum.inr (("":Str))) h;rw[C9 lc lt c5]at g;exact g
  refine⟨fT rfl,λD hD=>?_⟩;have D0:H D=none:=sg.free hD;obtain⟨G1,L,e7,b3⟩:=nH (o:=.lst []) hD;have aD:c≠D:=gh a7 hD;rw[b3];refine i12 _ rfl q _ _ _ rfl rfl (SqT.of ((sg.trans L) _ _ hq)) (gD (j:=3) rfl) (fJ Pl rfl ⟨_,SqL.of ((sg.trans L) _ _ hP)⟩ ?_)
  refine kH (K:=K) (a:=Pl) (xs:=e8) (λj Z X=>∃(U o4 o6 o7 o8 o9 B J:zP)(xs:zM),Z=[Sro sb,Sro q,Sro c,U,o4,Sro D,o6,o7,o8,o9,B,J]/\A0k H X/\X c=some (.dK (atW e.own e.sums d))/\X D=some (.lst xs)/\Rds X xs ((e.ps.take j).flatMap (rdP f)))
   (iu _ _ none none none none none (jr none [] rfl (sg.trans L) (L _ _ a7) e7 .nil)) (λj Z X _ zq=>by obtain⟨_,_,_,_,_,_,_,_,_,_,R,_⟩:=zq;exact SqL.of (R _ _ hP)) ?_ ?_
  ·rintro j x Z X hx I;refine jB I ?_;clear I;rintro U o4 o6 o7 o8 o9 B J xs ⟨rfl,R,N,W,rx⟩;obtain⟨p,hp,pq,il,gl,iv,gv,rfl,f0,_,c4,_,c2,ri,rg⟩:=ic d3 hx;have pi:=d5 p (gq hp);have f2:=pi.lx;have b7:=rg.len;have c0:=ri.len;rw[eA]at b7 c0;refine km pq _ rfl (SqT.of (R _ _ f0)) rfl _ _ rfl _ _ rfl (fC _ _ rfl rfl ?_);have e0:kR f (p.gs.take 0)=true:=rfl;refine iB _ rfl gl rfl ⟨_,SqL.of (R _ _ c2)⟩ ?_
   refine kH (K:=K) (a:=gl) (xs:=gv) (λm Z Y=>∃(U B J:zP),Z=[Sro sb,Sro q,Sro c,U,o4,Sro D,Sso p.arr,Sro il,Sro gl,Sbo (kR f (p.gs.take m)),B,J]/\Y=X)
    (iC U B J (by rw[e0];rfl) rfl) (λm Z Y _ zq=>by obtain⟨_,_,_,_,z⟩:=zq;exact by rw[z];exact SqL.of (R _ _ c2)) ?_ ?_
   ·rintro m y Z Y hy I;refine iN I ?_;clear I;rintro e6 b9 c8 ⟨rfl,rfl⟩;obtain⟨l,d1,ry⟩:=uA rg hy;obtain⟨gb,rfl,e3⟩:=vS (ry.same (rL H));have f1:=a8 Y l.1 N (pi.gs l (gq d1));refine km gb _ rfl (SqT.of (R _ _ e3)) rfl _ _ rfl _ _ rfl (fC _ _ rfl rfl ?_);have a1:∀b:Bool,b=kR f (p.gs.take (m+1))->∃(U B J:zP),[some (V.ref sb),some (.ref q),some (.ref c),some (.str l.1),o4,some (.ref D),some (.str p.arr),some (.ref il),some (.ref gl),some (.bl b),some (.int l.2.1),some (.int l.2.2)]=[some (.ref sb),some (.ref q),some (.ref c),U,o4,some (.ref D),some (.str p.arr),some (.ref il),some (.ref gl),some (.bl (kR f (p.gs.take (m+1)))),B,J]/\Y=Y:=λb hb=>(iC (some (.str l.1)) (some (.int l.2.1)) (some (.int l.2.2)) (by rw[hb]) rfl);have tk:p.gs.take (m+1)=p.gs.take m++[l]:=by rw[gW,d1,jt]
    cases hall:kR f (p.gs.take m)with
    |true=>
     refine iJ _ rfl true rfl (nL ?_);refine bd _ rfl (ig _ rfl _ rfl c _ rfl f1 ⟨_,(jA _ rfl rfl _ rfl (iP (λh1=>?_) (λh1=>?_)))⟩)
     ·have h1:l.2.1<=f l.1:=h1;refine fZ _ rfl _ _ rfl rfl (a1 _ ?_);show decide (f l.1<l.2.2)=_;rw[tk,rX,hall,Bool.true_and];by_cases h2:f l.1<l.2.2
      ·rw[iY h2,iY (show gIn f l from ⟨h1,h2⟩)]
      ·rw[gK h2,gK (λz:gIn f l=>h2 z.2)]
     ·have h1:¬l.2.1<=f l.1:=h1;refine a1 false ?_;rw[tk,rX,hall,Bool.true_and,gK (λz:gIn f l=>h1 z.1)]
    |false=>refine iJ _ rfl false rfl (iz (a1 false ?_));rw[tk,rX,hall,Bool.false_and]
   rintro Z Y I;refine iN I ?_;clear I;rintro e6 b9 c8 ⟨rfl,rfl⟩;rw[b7,hZ];have f9:=Paired.length rx;have f3:=rY f (e.ps.take j);have f5:(e.ps.take j).length<=3:=by rw[jd];lia
   have b8:(e.ps.take (j+1)).flatMap (rdP f)=(e.ps.take j).flatMap (rdP f)++rdP f p:=by rw[gW,hp,jt,List.flatMap_append,List.flatMap_singleton]
   by_cases hall:kR f p.gs=true
   ·refine iJ _ rfl true (by rw[hall]) (nL ?_);refine jA _ rfl (.inl (gk rfl _ (SqL.of W))) _ rfl (iB _ rfl il rfl ⟨_,SqL.of (R _ _ c4)⟩ λC hC=>?_);refine nF (K:=K) (a:=il) (D:=C) (xs:=iv) (λi zs H2=>A0k Y H2/\H2 C=some (.lst zs)/\zs=(iQ f (p.ix.take i)).map V.int) (fL (fI hC) dh rfl) (λi zs H2 ⟨s2,_⟩=>SqL.of (s2 _ _ (R _ _ c4))) ?_ ?_
    ·rintro i z zs H4 hz ⟨s4,a3,rfl⟩;obtain⟨ie,b1,rz⟩:=uA ri hz;obtain⟨ib,rfl,e2⟩:=AQ (rz.same (rL H));have hi:i<p.ix.length:=(fY.mp b1).1;have f7:(iQ f (p.ix.take i)).length<=8:=by unfold iQ;rw[eA,jd];lia
     have c3:∀r:Int,r=(if ie.1=("":Str)then ie.2 else f ie.1+ie.2)->H4 C=some (.lst ((iQ f (p.ix.take i)).map V.int))/\((iQ f (p.ix.take i)).map V.int).length<sizeLine/\A0k Y (upd H4 C (.lst ((iQ f (p.ix.take i)).map V.int++[.int r])))/\upd H4 C (.lst ((iQ f (p.ix.take i)).map V.int++[.int r])) C=some (.lst ((iQ f (p.ix.take i)).map V.int++[.int r]))/\(iQ f (p.ix.take i)).map V.int++[.int r]=(iQ f (p.ix.take (i+1))).map V.int:=λr e5=>by refine iV a3 (gJ (by rw[eA];lia)) (gQ s4 hC) dh ?_;rw[gW,b1,jt,e5];unfold iQ;rw[gy,gy];rfl
     refine km ib _ rfl (SqT.of ((R.trans s4) _ _ e2)) rfl _ _ rfl _ _ rfl (fL rfl ⟨rfl,True.intro⟩ ?_);rcases pi.ix ie (gq b1)with hn|hn
     ·have g0:=b5 H4 (s4 _ _ N);rw[<-hn]at g0;refine ig _ rfl _ rfl c _ rfl g0 (fZ _ rfl _ _ rfl rfl (c3 _ ?_));rw[bz hn,Int.zero_add]
     ·have g0:=a8 H4 ie.1 (s4 _ _ N) hn;refine ig _ rfl _ rfl c _ rfl g0 (fZ _ rfl _ _ rfl rfl (c3 _ ?_))
      have d6:ie.1≠("":Str):=λz=>by have:=(c5 _ hn).2;rw[z]at this;exact absurd this (by decide+kernel)
      rw[bp d6]
    ·rintro zs H4 ⟨s4,a3,rfl⟩;rw[c0,hZ]at a3;refine gF C _ rfl (.inl ⟨SqL.of a3,λct d7=>⟨fT rfl,λb hb=>?_⟩⟩);have w1:A0k H4 (upd H4 ct (.tup ((iQ f p.ix).map V.int))):=fI d7;have a6:upd H4 ct (.tup ((iQ f p.ix).map V.int)) ct=some (.tup ((iQ f p.ix).map V.int)):=dh;generalize upd H4 ct (.tup ((iQ f p.ix).map V.int))=H5 at w1 a6 hb⊢;obtain⟨H6,w2,e1,b3⟩:=nH (o:=.tup [.str p.arr,.ref ct]) hb;rw[b3];have a5:=s4.trans (w1.trans w2);have c7:=a5 _ _ W;refine iH D _ _ rfl rfl c7 (gJ (by lia)) ?_;have kt:∀p' b0,H6 p'=some (.tup b0)->upd H6 D (.lst (xs++[.ref b])) p'=some (.tup b0):=λp' b0 z=>by rw[eh (gN z c7 (by intro w;cases w))];exact z
     refine iu _ _ _ _ _ _ _ (jr _ (xs++[.ref b]) rfl (gQ (R.trans a5) D0) (by rw[eh aD];exact a5 _ _ N) dh ?_);rw[b8];unfold rdP;rw[bz hall];exact Paired.app (Rds.keep (rx.same a5) kt) (.cons (fC b ct rfl (kt _ _ e1) (kt _ _ (w2 _ _ a6))) .nil)
   ·have b2:kR f p.gs=false:=by simpa using hall
    refine iJ _ rfl false (by rw[b2]) (iz ?_);refine iu _ _ _ _ _ _ _ (jr _ xs rfl R N W ?_);rw[b8];have:rdP f p=[]:=by unfold rdP;rw[bp hall]
    rw[this,kQ];exact rx
  ·rintro Z X I;refine jB I ?_;clear I;rintro U o4 o6 o7 o8 o9 B J xs ⟨rfl,R,N,W,rx⟩;rw[e4,hZ]at rx;refine bd _ rfl (k D xs X D0 R W ?_);unfold ke;rw[bp hw,hf];exact rx
structure B7r(BD:zC)(T:Tm)(n:Nat):Prop where
 gd:Gd T
 dp:dep T<=n
 fv:∀x,Fv T x->x∈BD
 ax:Axs BD T
structure TmR(BD:zC)(T:Tm)(n:Nat)(ps:List Pc):Prop extends B7r BD T n where
 rds:∀len f,rd len T f=ps.flatMap (rdP f)
theorem B7r.num(BD:zC)(z:Int)(h:1<=n):B7r BD (.num z) n:=⟨True.intro,h,λx a=>a.elim,True.intro⟩
structure TmG(BD:zC)(T:Tm)(p:Pc)(j:Nat):Prop extends B7r BD T (j+1) where
 rds:∀len f,rd len T f=if kR f (p.gs.take j)=true then [(p.arr,iQ f p.ix)]else []
theorem TmG.start{p:Pc}(h:nr BD p):TmG BD (.read p.arr p.ix) p 0 where
 gd:=by have:=h.lx;show p.ix.length<=100;lia
 dp:=fH _
 fv:=λx ⟨b,e,d,a⟩=>by
  rcases h.ix e d with z|z
  ·rw[a]at z;exact absurd z b
  ·rw[<-a];exact z
 ax:=h.ix
 rds:=λc f=>by rw[List.take_zero];rfl
theorem TmG.step{T:Tm}{p:Pc}(h:nr BD p)(t:TmG BD T p j)(b:p.gs[j]?=some g)(z:Int):TmG BD (.guard g.1 g.2.1 g.2.2 T (.num z)) p (j+1) where
 gd:=⟨t.gd,True.intro⟩
 dp:=by
  have:=t.dp;show max (dep T) 1+1<=j+1+1
  lia
 fv:=λx a=>by
  rcases a with e|a|a
  ·rw[e];exact h.gs g (gq b)
  ·exact t.fv x a
  ·exact a.elim
 ax:=(fL (h.gs g (gq b)) t.ax True.intro)
 rds:=λc f=>by
  show(if g.2.1<=f g.1/\f g.1<g.2.2 then rd c T f else [])=_;rw[gW,b,jt,rX,t.rds];by_cases hi:g.2.1<=f g.1/\f g.1<g.2.2
  ·rw[bz hi,iY (show gIn f g from hi),Bool.and_true]
  ·rw[bp hi,gK (show¬gIn f g from hi),Bool.and_false];rfl
theorem TmG.full{T:Tm}{p:Pc}(h:TmG BD T p p.gs.length):∀a f,rd a T f=rdP f p:=λa f=>by rw[h.rds,hZ];rfl
theorem B7r.le{T:Tm}{m:Nat}(h:B7r BD T n)(l:n<=m):B7r BD T m:=⟨h.gd,jU h.dp l,h.fv,h.ax⟩
theorem B7r.pair{T U:Tm}(o:Op3)(h:B7r BD T n)(g:B7r BD U n):B7r BD (.pair o T U) (n+1):=⟨⟨h.gd,g.gd⟩,by have:=h.dp;have:=g.dp;show max (dep T) (dep U)+1<=n+1;lia,λx a=>a.elim (h.fv x) (g.fv x),⟨h.ax,g.ax⟩⟩
def Ha(A:Adr):Sp:=λf H Q _=>∃(Pl:zW)(a:zM)(d:List Pc)(c:Int)(M:zQ)(BD:zC),f=[.ref Pl,.int c]/\H Pl=some (.lst a)/\Paired (C2y M H) a d/\d.length<=3/\(∀p∈d,nr BD p)/\
 ∀(v:V)(T:Tm)(e:Hp),A0k H e->Ob A (iF (λb=>H b=none) e) v T->TmR BD T 10 d->Q v e
theorem GZ(T:Txt K mg t):FO P w base T.bB 7 (Ha t):=by
 refine T.bB.F.ok kW λ_ A _ s H _ Q E hr h=>?_
 ·refine kn h ?_;clear h;rintro Pl N ps c M BD rfl hP b9 l3 ⟨c1,k⟩;have c6:=Paired.length b9;refine rsq (eH (fX 2 kW.nd (pmk T.de (As T) hr T.dP T.aw.b (bm (fQ jp (pv 1) fM) dV))) (eH (ja (nE rfl T.aO (bm (lM T.aM (fK 0)) dV)) (fR (i:=3) kW.nd) (eH ⟨nC (iZ jx (pv 0) (pv 3)) (kC (n:=3) rfl (gP (fR (i:=4) kW.nd) (gP (fR (i:=5) kW.nd) (gP (fR (i:=6) kW.nd) kE))))⟩ (eH (fX 7 kW.nd (pmk T.fc (GQ T) hr T.fj T.bH.b (bm (pv 4) (bm (mE sC (by rfl) T.bn nq (fK 5)) dV)))) (eH (ja (jl (pv 6)) (kC (n:=3) rfl (gP (fR (i:=8) kW.nd) (gP (fR (i:=9) kW.nd) (gP (fR (i:=10) kW.nd) kE)))) (fm (fX 7 kW.nd (pmk T.eQ (Ho T) hr T.f6 T.bf.b (bm (pv 8) (bm (pv 9) (bm (pv 10) (bm (pv 7) (bm (pmk T.de (As T) hr T.dP T.aw.b (fK 3)) dV))))))))) (fm (gI (iA lA (pv 3) fM) (fm (fX 2 kW.nd (pv 7))) (fm (gI (iA lA (fQ jp (fQ jQ (pv 1) (pv 3)) fM) fM) (fm (fX 2 kW.nd (pmk T.f7 (vd T) hr T.fh T.aF.b (bm (pv 2) (fK 7))))) (fm (gI (iA lA (fQ jp (fQ jQ (pv 1) (pv 3)) fM) fM) (fm (fX 2 kW.nd (pmk T.eO (vd T) hr T.eV T.aF.b (bm (pv 2) (fK 7))))) (fm (fX 2 kW.nd (pmk T.eR (vd T) hr T.eU T.aF.b (bm (pv 2) (fK 7))))))))))))))) (fm (fU (pv 2))))) ?_;refine fZ _ rfl _ _ rfl rfl ⟨CB,λB g c0 b6 d6=>(iG B _ g _ rfl dh T.cz T.a_ rfl ?_)⟩;have u0:A0k H (upd (upd (upd H g (.own B)) B (.ins t.a7 g [])) B (.ins t.a7 g [("number",.int (c%1000))])):=si c0 b6;have h0:upd (upd (upd H g (.own B)) B (.ins t.a7 g [])) B (.ins t.a7 g [("number",.int (c%1000))]) B=some (.ins t.a7 g [("number",.int (c%1000))]):=dh;generalize upd (upd (upd H g (.own B)) B (.ins t.a7 g [])) B (.ins t.a7 g [("number",.int (c%1000))])=H1 at u0 h0⊢;refine fZ _ rfl Pl _ rfl (.inl (SqL.of (u0 _ _ hP))) (iU _ rfl (by lia) (by lia) ?_)
  refine nV (n:=N.length) (λi Z G=>∃(o3 o4 o5 o6 o7 o8 o9 m:zP)(v:V)(Tt:Tm),Z=[Sro Pl,Sio c,some v,o3,o4,o5,o6,o7,o8,o9,m]/\A0k H G/\Ob t (iF (λb=>H b=none) G) v Tt/\TmR BD Tt (5+i) (ps.take i))
   (iu none none none none none none none (gE none (.ref B) (.num (c%1000)) rfl u0 (.num (lU c0 h0)) ⟨B7r.num BD _ (by lia),λL f=>by rw[List.take_zero];rfl⟩)) ?_ ?_
  ·rintro i Z G hi I;refine jB I ?_;clear I;rintro o3 o4 o5 o6 o7 o8 o9 m v ⟨Tt,rfl,sg,ob,r⟩;have b2:N[i]?=some N[i]:=gU hi;obtain⟨p,hp,pq,il,gl,iv,gv,d0,d2,_,c5,_,b1,ri,rg⟩:=ic b9 b2;have pi:=c1 p (gq hp);have a5:=rg.len;have c2:=ri.len;rw[eA]at a5 c2;have e0:=pi.lg;have d9:=pi.lx;have ei:atI N (0+(i:Int))=some (.ref pq):=by rw[Int.zero_add];exact gD (by rw[b2,d0])
   refine jJ _ rfl _ rfl Pl _ _ _ rfl rfl (SqL.of (sg _ _ hP)) ei (km pq _ rfl (SqT.of (sg _ _ d2)) rfl _ _ rfl _ _ rfl (fC _ _ rfl rfl ?_));refine ig _ rfl _ rfl il _ rfl (.inl (SqL.of (sg _ _ c5))) λl2 d3 x dx hx a8 d8=>?_;have v1:A0k G (upd G l2 (.lst iv)):=fI d3;have a3:upd G l2 (.lst iv) l2=some (.lst iv):=dh;generalize upd G l2 (.lst iv)=G1 at v1 a3 hx a8⊢;have v2:A0k G1 (upd (upd G1 dx (.own x)) x (.ins t.ab dx [])):=gQ (fI a8) hx;have b7:upd (upd G1 dx (.own x)) x (.ins t.ab dx []) x=some (.ins t.ab dx []):=dh;generalize upd (upd G1 dx (.own x)) x (.ins t.ab dx [])=G2 at v2 b7⊢;have s2:=sg.trans (v1.trans v2);refine⟨x,(hU dx l2 p.arr p.ix rfl b7 (.lst (v2 _ _ a3) ((ri.same (ny s2)).same (rL _))) (by lia) λl' G3 c8 c3 d1=>⟨rfl,?_⟩)⟩;have v3:A0k G1 G3:=λb o e=>d1 b o (gh e hx) (v2 _ _ e);have s3:=sg.trans (v1.trans v3);have c7:=ob.imp (mF (S:=λb=>H b=none) (v1.trans v3));have xH:H x=none:=(sg.trans v1).free hx;refine iB _ rfl gl rfl ⟨_,SqL.of (s3 _ _ b1)⟩ ?_
   refine kH (K:=K) (a:=gl) (xs:=gv) (λj Z X=>∃(o8 o9 m:zP)(J:V)(T7:Tm),Z=[Sro Pl,Sio c,some v,Sio (0+(i:Int)),Sso p.arr,Sro il,Sro gl,some J,o8,o9,m]/\A0k G3 X/\Ob t (iF (λb=>H b=none) X) J T7/\TmG BD T7 p j)
    (ij _ _ (gE _ (.ref x) (.read p.arr p.ix) rfl (A0k.refl _) (.read (lU xH c8) (c3.same (oe (A0k.refl _) λa o _ h=>s2.free h))) (TmG.start pi))) (λj Z X _ zq=>by obtain⟨_,_,_,_,_,_,R,_⟩:=zq;exact SqL.of (R _ _ (s3 _ _ b1))) ?_ ?_
   ·rintro j y Z X hy I;refine ik I ?_;clear I;rintro a6 b0 W J T7 ⟨rfl,R,O,tg⟩;obtain⟨gg,c9,ry⟩:=uA rg hy;obtain⟨gb,rfl,c4⟩:=vS (ry.same (rL H));refine km gb _ rfl (SqT.of ((s3.trans R) _ _ c4)) rfl _ _ rfl _ _ rfl (fC _ _ rfl rfl ?_);refine bd _ rfl (iJ _ rfl _ rfl (iJ _ rfl _ rfl λD d b5 b4 d5=>(iG D _ d _ rfl dh T.cz T.a_ rfl ?_)));have y1:A0k X (upd (upd (upd X d (.own D)) D (.ins t.a7 d [])) D (.ins t.a7 d [("number",.int (0+(i:Int)))])):=si b5 b4;have a1:upd (upd (upd X d (.own D)) D (.ins t.a7 d [])) D (.ins t.a7 d [("number",.int (0+(i:Int)))]) D=some (.ins t.a7 d [("number",.int (0+(i:Int)))]):=dh;generalize upd (upd (upd X d (.own D)) D (.ins t.a7 d [])) D (.ins t.a7 d [("number",.int (0+(i:Int)))])=X1 at y1 a1⊢;refine λgx a4 b3 b8 d7=>(iu gx a4 _ _ _ _ _ (iW rfl dh rfl ?_));have y2:=si (u:=.ins t.a9 a4 []) (o:=.own gx) (v:=.ins t.a9 a4 [("axis",.str gg.1),("low",.int gg.2.1),("high",.int gg.2.2),("inner",J),("outer",.ref D)]) b3 b8;exact ij _ _ (gE _ (.ref gx) _ rfl (R.trans (y1.trans y2)) (.guard (lU ((s3.trans (R.trans y1)).free b3) dh) ((O.imp (mF y1)).imp (mF y2)) (.num (lU ((s3.trans R).free b5) (y2 _ _ a1)))) (tg.step pi c9 _))
   rintro Z X I;refine ik I ?_;clear I;rintro a6 b0 W J T7 ⟨rfl,R,O,tg⟩;rw[a5]at tg;have sX:=s3.trans R;have d4:=c7.imp (mF (S:=λb=>H b=none) R);have a0:=tg.full;have t5:B7r BD T7 (5+i):=(⟨tg.gd,tg.dp,tg.fv,tg.ax⟩:B7r _ _ _).le (by lia);have tk:ps.take (i+1)=ps.take i++[p]:=by rw[gW,hp,jt]
   have U:∀(o:Op3),TmR BD (.pair o Tt T7) (5+(i+1)) (ps.take (i+1)):=λo=>⟨(⟨r.gd,r.dp,r.fv,r.ax⟩:B7r _ _ _).pair o t5,λL f=>by
    show rd L Tt f++rd L T7 f=_
    rw[r.rds,a0,tk,List.flatMap_append,List.flatMap_singleton]⟩
   have mk:∀(o:Op3)(C:zW),px t o=C->∀(z l:zW),X z=none->X l=none->∃(o3 o4 o5 o6 o7 o8 o9 m:zP)(v':V)(Tt:Tm),[some (V.ref Pl),some (.int c),some (.ref z),some (.int (0+(i:Int))),some (.str p.arr),some (.ref il),some (.ref gl),some J,a6,b0,W]=[some (.ref Pl),some (.int c),some v',o3,o4,o5,o6,o7,o8,o9,m]/\A0k H (upd (upd (upd X l (.own z)) z (.ins C l [])) z (.ins C l [("left",v),("right",J)]))/\Ob t (iF (λb=>H b=none) (upd (upd (upd X l (.own z)) z (.ins C l [])) z (.ins C l [("left",v),("right",J)]))) v' Tt/\TmR BD Tt (5+(i+1)) (ps.take (i+1)):=λo C hC z l Y q=>by have y3:=si (u:=.ins C l []) (o:=.own z) (v:=.ins C l [("left",v),("right",J)]) Y q;subst hC;exact iu _ _ _ _ _ _ _ (gE _ (.ref z) (.pair o Tt T7) rfl (sX.trans y3) (.pair (lU (sX.free Y) dh) (d4.imp (mF y3)) (O.imp (mF y3))) (U o))
   refine jA _ rfl rfl _ rfl (iP (λh0=>?_) (λ_=>?_))
   ·have i0:i=0:=by
     have h0:V.int (0+(i:Int))=V.int 0:=h0;injection h0
     lia
    subst i0;refine bd _ rfl (iu _ _ _ _ _ _ _ (gE _ J T7 rfl sX O ⟨t5.le (by lia),λL f=>?_⟩));rw[a0,tk];simp
   refine ig _ rfl _ rfl _ _ rfl rfl (fC _ _ rfl rfl (iK pf rfl _ rfl (iP (λ_=>?_) (λ_=>?_))))
   ·exact iJ _ rfl _ rfl λz l Y q a2=>(iS z _ l _ _ rfl dh T.eF T.cn T.bW rfl (mk .plus _ rfl z l Y q))
   refine ig _ rfl _ rfl _ _ rfl rfl (fC _ _ rfl rfl (iK pf rfl _ rfl (iP (λ_=>?_) (λ_=>?_))))
   ·exact iJ _ rfl _ rfl λz l Y q a2=>(iS z _ l _ _ rfl dh T.dR T.bY T.bC rfl (mk .minus _ rfl z l Y q))
   ·exact iJ _ rfl _ rfl λz l Y q a2=>(iS z _ l _ _ rfl dh T.dW T.bT T.bL rfl (mk .times _ rfl z l Y q))
  ·rintro Z G I;refine jB I ?_;clear I;rintro o3 o4 o5 o6 o7 o8 o9 m v ⟨Tt,rfl,sg,ob,r⟩;rw[c6]at r;rw[hZ]at r;exact bd _ rfl (k v Tt G sg ob ⟨(⟨r.gd,r.dp,r.fv,r.ax⟩:B7r _ _ _).le (by lia),r.rds⟩)
def HC:Sp:=λi H Q _=>∃(g:Int)(v:V)(h:zW)(e:Lw)(c:zJ)(d b:zI)(M:zQ),i=[.int g,v,.ref h]/\C3b M H v e/\H h=some (.dK c)/\C6x ⟨e.own,e.sums,d,b⟩/\Sz c e.own d/\Sz c e.sums b/\OkS e.sums/\
 ∀(D:zW)(f:zM)(a:Hp),H D=none->A0k H a->a D=some (.lst f)->A5m a f (oR g ⟨e.own,e.sums,d,b⟩)->Q (.ref D) a
theorem Hq(T:Txt K mg t):FO P w base T.b9 2 HC:=by
 refine T.b9.F.ok vf λ_ A _ s H _ Q E hr h=>?_
 ·refine ik h ?_;clear h;rintro N v ld lw lk ⟨so,ss,M,rfl,⟨q,O,S,Pl,d4,rfl,hq,_,hO,_,hS,_,hP,_⟩,b0,ok,a5,a1,a6,k⟩;obtain⟨e,he⟩:∃e:Rw,e=⟨lw.own,lw.sums,so,ss⟩:=⟨_,rfl⟩;rw[<-he]at ok k;have hO:H O=some (.lst (e.own.map V.str)):=by rw[he];exact hO
  have hS:H S=some (.lst (e.sums.map V.str)):=by rw[he];exact hS
  have a5:Sz lk e.own e.so:=by rw[he];exact a5
  have a1:Sz lk e.sums e.ss:=by rw[he];exact a1
  have a6:OkS e.sums:=by rw[he];exact a6
  have c3:e.ss=[]↔e.sums=[]:=by
   have:=ok.ls;rw[<-nG,<-nG]
   lia
  have d5:=ok.cells;refine rsq (eH (fX 3 vf.nd (@hJ _ _ _ _ dV)) (eH (ja (jl (pcl (ze T) hr T.bO (bm (pit 1) (fK 2)))) (fR (i:=4) vf.nd rfl (.inr rfl)) (fm (gI (iA (BT hr.units) (pit 1) (@hJ _ _ _ _ dV)) (fm ⟨kc (jY jW lJ lI lF (pv 3) (bm (hW (bm (pv 0) (bm je (bm (pv 4) (bm (hW dV) dV))))) dV))⟩) (eH ⟨kc (jY jW lJ lI lF (pv 3) (bm (hW (bm (pv 0) (bm je (bm (pv 4) (bm (hW dV) dV))))) dV))⟩ (fm ⟨kc (jY jW PySem.F.slot_list_extend PySem.F.type_list_extend qr (pv 3) (bm (kF (N':=["_law_turn","_law_cell","_law_k"]) (ix:=(List.replicate 1 none++[some 4,some 0])) rfl (yE (cl:=[("_law_k",_),("_law_cell",_)]) (xs:=["_law_k","_law_cell"]) rfl (fL rfl rfl trivial) rfl rfl (by decide+kernel) (by decide+kernel)) (yT (N0:=["_law_turn"]) (xs:=["_law_cell","_law_k"]) (js:=[4,0]) (fL (fL rfl (.inl rfl) (by walk_at"ix")) (fL rfl (.inl rfl) (by walk_at"ix")) trivial)) (jl (pcl (ze T) hr T.bO (bm (pit 1) (fK 2)))) (λ_ _ _ _=>(fR (i:=0) Fg)) (λ_ _ _ _=>(hW (bm (pv 2) (bm je (bm (pv 1) (fK 0))))))) dV))⟩))))) (fm (fU (pv 3))))) ?_;refine⟨fT rfl,λL hL=>?_⟩;obtain⟨H1,s1,c4,l⟩:=nH (o:=.lst []) hL;rw[l];refine i12 _ rfl q _ _ _ rfl rfl (SqT.of (s1 _ _ hq)) (gD (j:=1) rfl) (jf _ rfl O ld e.own lk e.so rfl (s1 _ _ hO) (s1 _ _ b0) a5 ok.go λcq H2 b7 s2 ⟨ps,c2,cs⟩=>?_);have a8:=s1.trans s2;have b8:=s2 _ _ c4;have cL:cq≠L:=λz=>by rw[z,c4]at b7;cases b7
  have d1:=cs.len;refine fJ cq rfl ⟨_,SqL.of c2⟩ ?_
  refine kH (K:=K) (a:=cq) (xs:=ps.map V.ref) (λj Z G=>∃(o5:zP)(f:zM),Z=[Sio N,Sro q,Sro ld,Sro L,o5]/\KB L H2 G/\G L=some (.lst f)/\A5m G f (((gu e.so).take j).flatMap (iR N e.ss)))
   (ga none [] rfl KB.refl b8 .nil) (λj Z G _ zq=>by obtain⟨_,_,_,kb,_⟩:=zq;exact SqL.of (kb _ _ cL c2)) ?_ ?_
  ·rintro j x Z G hx zz;refine fV zz ?_;clear zz;rintro o5 f rfl kb g r;obtain⟨pc,b1,rfl⟩:=jZ hx;obtain⟨c,hc,b6⟩:=cs.get b1;have C:G pc=some (.tup (c.map V.int)):=kb _ _ (gN b6 b8 (by intro z;cases z)) b6;have sg:A0k H G:=KB.same a8 kb hL;have lz:=Paired.length r;have pl:=yQ (k:=N) ok j;have tk:((gu e.so).take (j+1)).flatMap (iR N e.ss)=((gu e.so).take j).flatMap (iR N e.ss)++iR N e.ss c:=by rw[gW,hc,jt,List.flatMap_append,List.flatMap_singleton]
   refine lH _ rfl q _ _ _ rfl rfl (SqT.of (sg _ _ hq)) (gD (j:=2) rfl) (fT rfl) λn0 d0=>?_;have t0:A0k G (upd G n0 (.lst [])):=fI d0;have b5:upd G n0 (.lst []) n0=some (.lst (([]:zC).map V.str)):=dh;generalize upd G n0 (.lst [])=G1 at t0 b5⊢;refine fC (jn e.sums) (jn []) (mL ((sg.trans t0) _ _ hS)) (mL b5) (iK (uO (uK a6) (by have:=(nT e.sums).1;lia)) rfl _ rfl ?_);rw[uz];refine iP (λhz=>?_) (λhz=>?_)
   ·refine fJ _ rfl (.inl (gk rfl _ (SqL.of (t0 _ _ g)))) (iB _ rfl _ rfl (fT rfl) λn a0=>⟨fT rfl,λb hb=>?_⟩);have t1:A0k G1 (upd G1 n (.tup [])):=fI a0;have J:upd G1 n (.tup []) n=some (.tup (([]:zI).map V.int)):=dh;generalize upd G1 n (.tup [])=G2 at t1 J hb⊢;obtain⟨R,t2,a7,l⟩:=nH (o:=.tup [.int N,.str "set",.ref pc,.ref n]) hb;rw[l];have d:=t0.trans (t1.trans t2);refine iH L _ _ rfl rfl (d _ _ g) (gJ (by lia)) ?_;have Y:KT R (upd R L (.lst (f++[.ref b]))):=KT.at (d _ _ g) (by intro xs z;cases z);refine ga _ (f++[.ref b]) rfl ((kb.trans (KB.of d)).upd) dh ?_;rw[tk];refine jN (r.kt ((KT.same d).trans Y)) ?_;unfold iR;rw[bz (c3.mpr hz)];exact .cons (gE b pc n rfl (Y _ _ a7) (Y _ _ (d _ _ C)) (Y _ _ (t2 _ _ J))) .nil
   ·refine fJ _ rfl (.inl (gk rfl _ (SqL.of (t0 _ _ g)))) (iB _ rfl _ rfl (fT rfl) λn a0=>⟨fT rfl,λb hb=>?_⟩);have t1:A0k G1 (upd G1 n (.tup [])):=fI a0;have J:upd G1 n (.tup []) n=some (.tup (([]:zI).map V.int)):=dh;generalize upd G1 n (.tup [])=G2 at t1 J hb⊢;obtain⟨R,t2,a7,l⟩:=nH (o:=.tup [.int N,.str "start",.ref pc,.ref n]) hb;rw[l];have d:=t0.trans (t1.trans t2);refine iH L _ _ rfl rfl (d _ _ g) (gJ (by lia)) ?_;have Y:KT R (upd R L (.lst (f++[.ref b]))):=KT.at (d _ _ g) (by intro xs z;cases z);have a4:upd R L (.lst (f++[.ref b])) L=some (.lst (f++[.ref b])):=dh;have b4:KB L R (upd R L (.lst (f++[.ref b]))):=KB.refl.upd;have W:A0k H (upd R L (.lst (f++[.ref b]))):=gQ (sg.trans d) hL;generalize upd R L (.lst (f++[.ref b]))=G4 at Y a4 b4 W⊢;have I:=(KT.same d).trans Y;refine fJ _ rfl (.inl (gk rfl _ (SqL.of a4))) (i12 _ rfl q _ _ _ rfl rfl (SqT.of (W _ _ hq)) (gD (j:=2) rfl) (jf _ rfl S ld e.sums lk e.ss rfl (W _ _ hS) (W _ _ b0) a1 ok.gs λtq G5 d6 s5 ⟨qs,a9,ct⟩=>(fJ tq rfl ⟨_,SqL.of a9⟩ λD hD=>?_)));have c5:=ct.len;refine nF (K:=K) (a:=tq) (D:=D) (xs:=qs.map V.ref) (λi B y=>A0k G5 y/\y D=some (.lst B)/\A5m y B (((gu e.ss).take i).map λu=>(N,("add":Str),c,u))) (fL (fI hD) dh .nil) (λi B y ⟨U,_⟩=>SqL.of (U _ _ a9)) ?_ ?_
    ·rintro i x B y d2 ⟨U,a3,p⟩;obtain⟨qc,c8,rfl⟩:=jZ d2;obtain⟨u,c7,d3⟩:=ct.get c8;have ly:=Paired.length p;rw[eA,jd]at ly;refine gT (fL rfl rfl True.intro) _ rfl (iB _ rfl _ rfl (fT rfl) λbb c9=>?_);obtain⟨G7,v1,c6,l⟩:=nH (o:=.tup [.int N,.str "add",.ref pc,.ref qc]) c9;rw[l];have b3:=v1 _ _ a3;have X:KT G7 (upd G7 D (.lst (B++[.ref bb]))):=KT.at b3 (by intro xs z;cases z);refine iV b3 (gJ (by lia)) (gQ (U.trans v1) hD) dh ?_;rw[gW,c7,jt,gy];refine jN (p.kt ((KT.same v1).trans X)) (.cons (gE bb pc qc rfl (X _ _ c6) (X _ _ (v1 _ _ (U _ _ (s5 _ _ (I _ _ C))))) (X _ _ (v1 _ _ (U _ _ d3)))) .nil)
    ·rintro B y ⟨U,a3,p⟩;rw[eA,c5,hZ]at p;have ly:=Paired.length p;rw[eA]at ly;have b2:=(s5.trans U) _ _ a4;refine iG L D _ _ rfl rfl b2 a3 (jR (by rw[gc];simp;lia)) ?_;have a2:KT y (upd y L (.lst (f++[.ref b]++B))):=KT.at b2 (by intro xs z;cases z);have c1:upd y L (.lst (f++[.ref b]++B)) L=some (.lst (f++[.ref b]++B)):=dh;have c0:KB L y (upd y L (.lst (f++[.ref b]++B))):=KB.refl.upd;generalize upd y L (.lst (f++[.ref b]++B))=G8 at a2 c1 c0⊢;refine ga _ (f++[.ref b]++B) rfl ((kb.trans (KB.of d)).trans ((b4.trans (KB.of (s5.trans U))).trans c0)) c1 ?_;rw[tk];have m:=(KT.same (s5.trans U)).trans a2;rw[iE];refine jN (r.kt (I.trans m)) ?_;unfold iR;rw[bp (λz=>hz (c3.mp z))];exact .cons (gE b pc n rfl (m _ _ (Y _ _ a7)) (m _ _ (I _ _ C)) (m _ _ (Y _ _ (t2 _ _ J)))) (p.kt a2)
  ·rintro Z G zz;refine fV zz ?_;clear zz;rintro o5 f rfl kb g r;rw[eA,d1,hZ]at r;exact bd _ rfl (k L f G hL (KB.same a8 kb hL) g r)
theorem EG{k:Key}{p:Key×V}(a:p∈kvs)(b:p.1=k):(fN kvs k).isSome=true:=by unfold fN;rw[Option.isSome_map,List.find?_isSome];exact bd p a (by simp[b])
theorem Bt(h:AR S H kvs es){e:Str×List Str}(s:e∈es):∃(l:zW)(b:Str×List Str),fN kvs (Sum.inr e.1)=some (.ref l)/\b∈es/\b.1=e.1/\H l=some (.lst (b.2.map V.str)):=by
 obtain⟨i,g⟩:=List.getElem?_of_mem s;have f:i<kvs.length:=by rw[Paired.length h];exact(fY.mp g).1
 have m:kvs[i]?=some kvs[i]:=gU f;obtain⟨u,a,t,_⟩:=ic h m;rw[g]at a;cases a;obtain⟨v,k⟩:=Option.isSome_iff_exists.mp (EG (gq m) t);obtain⟨p,o,pk,rfl⟩:=xC k;obtain⟨j,q⟩:=List.getElem?_of_mem o;refine iD (ic h q) ?_;rintro b d c ⟨l,r,_,n⟩;rw[pk]at c;refine ga l b (by rw[k,r]) (gq d) ?_ n;injection c with c;exact c.symm
def mJ(lk:zJ)(ys:zC):Prop:=∀y∈ys,∃n:Int,fN lk (Sum.inr y)=some (.int n)/\1<=n/\n<=60
structure D3f(lk:zJ)(es:zB):Prop where
 dk:∀e∈es,mJ lk e.2
 l4:∀e∈es,e.2.length<=4
 ok:∀e∈es,PyData.strOk e.1=true
 few:es.length<=900
theorem Dg{xs:zC}(h:OkN xs):OkS xs:=λx a=>(h x a).1
def rn(nm:Str)(own:zC)(p:Pc):Prop:=p.arr=nm->∃(k:Nat)(y:Str)(z:Int),p.ix[k]?=some (y,z)/\own[k]?=some y/\z<0
def FxO(nm:Str)(own:zC)(arr:Str)(axs:zC)(a:Int):Prop:=(a= -1/\arr≠nm)\/(axs=own/\0<=a/\a<own.length)
def D7b(a:Int)(axs:zC)(ix:zL)(i:Nat):Prop:=∀k:Nat,a=k->k<i->∃(y:Str)(z:Int),ix[k]?=some (y,z)/\axs[k]?=some y/\z<0
theorem D7b.snoc{d:Int}{b:Str}{sh:Int}(h:D7b d axs ix i)(l:ix.length=i)(j:d=(i:Int)->axs[i]?=some b/\sh<0):D7b d axs (ix++[(b,sh)]) (i+1):=λk g n=>by
 rcases Nat.lt_or_ge k i with c|c
 ·refine fO (h k g c) λy z f a m=>?_;exact fC y z (by rw[mG (by lia)];exact f) a m
 ·have e:k=i:=by lia
  subst e;obtain⟨f,a⟩:=j g;exact fC b sh (by rw[mH (by lia),l,Nat.sub_self];rfl) f a
theorem FxO.own{own:zC}{a:Int}{b:List (Str×Int×Int)}(h:FxO nm own arr axs a)(o:D7b a axs ix axs.length):rn nm own ⟨arr,ix,b⟩:=λe=>by
 rcases h with ⟨_,h⟩|⟨d,j,i⟩
 ·exact absurd e h
 ·subst d;refine fO (o a.toNat (by lia) (by lia)) λy z g c f=>?_;exact iM _ y z g c f
def HJ:Sp:=λm H Q _=>∃(c:Int)(k j q O S:zW)(l h:zJ)(g:zB)(f:Str)(d a:zC)(e:zM)(Zz:zV),m=[.int c,.ref k,.ref j,.ref q]/\H k=some (.dK l)/\AR Zz H l g/\H j=some (.dK h)/\D3f h g/\g≠[]/\f∉g.map (·.1)/\
 H q=some (.tup (.str f:: .ref O:: .ref S::e))/\H O=some (.lst (d.map V.str))/\H S=some (.lst (a.map V.str))/\mJ h (d++a)/\OkN (d++a)/\d.length<=4/\a.length<=4/\PyData.strOk f=true/\
 ∀(z:zW)(p:Pc)(i:Hp),A0k H i->(∀M:zQ,(∀b∈M,H b≠none)->C2y M i (.ref z) p)->nr (d++a) p->rn f d p->Q (.ref z) i
structure PB(H G:Hp)(I D:zW)(iv gv:zM)(BD:zC)(ix:zL)(gs:List (Str×Int×Int))(n:Nat):Prop where
 sm:A0k H G
 hI:G I=some (.lst iv)
 hD:G D=some (.lst gv)
 ri:A3v (TH G) iv (ix.map kS)
 rg:A3v (TH G) gv (gs.map oA)
 li:ix.length=n
 lg:gs.length<=n
 bi:∀e∈ix,e.1=""\/e.1∈BD
 bg:∀g∈gs,g.1∈BD
theorem HL(T:Txt K mg t):FO P w base T.bq 2 HJ:=by
 refine T.bq.F.ok kj λ_ A _ s H _ Q E hr h=>?_
 ·refine qC h ?_;clear h;rintro c U ld q O S ak lk es nm d l g7 Zz ⟨rfl,a5,ar,c8,b0,e5,f2,hq,hO,hS,dk,d3,lo,ls,e3,k⟩;have hu:=nA hr;have d7:=Paired.length ar;have h5:=b0.few
  have h3:0<es.length:=by
   have:=e5;rcases es with _|_
   ·exact absurd rfl this
   ·simp
  refine rsq (eH (fX 4 kj.nd (pcl (rR T) hr T.bM (bm (pv 0) (bm fM dV)))) (eH (fX 5 kj.nd (iZ jx (xT (kF (N':=["_law_name"]) (ix:=(List.replicate 1 none)) rfl (lX rfl (by decide+kernel) (by decide+kernel)) (lV rfl) (uy (pv 1)) (λ_ _ _ _=>(fR (i:=0) EK)) (λ_ _ _ _=>(pv 0)))) (fQ jp (pv 4) (jy yF (by rfl) T.aM qG (fK 1))))) (eH (fX 6 kj.nd (ng hu (pv 1) (pv 5))) (eH (fX 7 kj.nd (re rC fM)) (nj (gI (PW.pt (ue (iA (wn hr.units) (pit 3) (@hJ _ _ _ _ dV)) (uw (iA lA (fQ jp (fQ my (pv 4) fM) fM) fM)))) (eH (fX 5 kj.nd (pit 3)) (eH (fX 6 kj.nd (pit 3)) (fm (fX 7 kj.nd (fQ jp (fQ my (pv 4) fM) (lM T.aM (fK 6))))))) ⟨gO⟩) (eH (fX 8 kj.nd (@hJ _ _ _ _ dV)) (eH (fX 9 kj.nd (@hJ _ _ _ _ dV)) (eH (ja (nE rfl T.aO (bm (lM T.aM (fK 6)) dV)) (fR (i:=10) kj.nd) (eH (fX 11 kj.nd (pcl (rR T) hr T.bM (bm (pv 0) (bm (fQ jQ fM (pv 10)) dV)))) (eH (fX 12 kj.nd (ng hu (pv 2) (iZ jx (pv 6) (pv 10)))) (eH ⟨nC (pcl (Hn T) hr T.be (bm (pv 11) (bm (fQ oG (pit 3) (pit 3)) (bm (pv 12) (fK 2))))) (kC (n:=2) rfl (gP (fR (i:=13) kj.nd) (gP (fR (i:=14) kj.nd) kE)))⟩ (nj (gI (iA rk (pv 10) (pv 7)) (eH (fX 13 kj.nd (iZ jx (pv 6) (pv 10))) (fm (fX 14 kj.nd (fQ pB fM (fQ nQ (mE EC (by rfl) T.fg PyProof.Rows.boot_int (bm (CK lA (pv 10) (pv 7)) dV)) (fQ jQ fM (fQ jp (fQ my (pv 11) fM) fM))))))) ⟨gO⟩) (nj (gI (PW.pt (ue (iA pY (pv 13) je) (uw (PW.pt (pT (iA pW (pv 14) fM) (qe (iA vW (fQ jQ (ng hu (pv 2) (pv 13)) (pv 14)) (pv 12)))))))) (fm ⟨kc (jY jW lJ lI lF (pv 9) (bm (hW (bm (pv 13) (bm (fQ pB fM (pv 14)) (bm (fQ pB (pv 12) (pv 14)) dV)))) dV))⟩) ⟨gO⟩) (fm ⟨kc (jY jW lJ lI lF (pv 8) (bm (hW (bm (pv 13) (fK 14))) dV))⟩))))))) (fm (fU (hW (bm (pv 5) (bm (pv 8) (fK 9)))))))))))))) ?_;refine fZ _ rfl c 1 rfl (by decide) ⟨by decide,λR o0 o1=>?_⟩;refine fZ _ rfl U ak rfl a5 λo D hD=>?_;have Da:D≠U:=λz=>by subst z;rw[dh]at hD;cases hD
  refine qv (J:=Itd U o ak) (D:=D) ak.length (λi ys Hx=>A0k (upd H U (.frz o (.dK ak))) Hx/\Hx D=some (.lst ys)/\ys=((es.take i).map (·.1)).map V.str) (fL (fI hD) dh rfl) (λi ys Hx hi ⟨s2,_⟩=>⟨s2 _ _ dh,hi⟩) (λys Hx ⟨s2,_⟩=>⟨s2 _ _ dh,rfl⟩) ?_ ?_
  ·rintro i ys Hx hi ⟨sx,a7,rfl⟩ x Hy zz;refine iX zz ?_;clear zz;rintro rfl k' v f9 rfl;obtain⟨e,he,ek,_⟩:=ic ar f9;have ek:k'=Sum.inr e.1:=ek;subst ek;refine gk True.intro _ (jh rfl a7 (gJ (by simp;lia)) (gQ sx hD) dh ?_);rw[gW,he,jt,gy,gy];rfl
  rintro ys Hx ⟨sx,a7,rfl⟩;rw[d7,hZ]at a7;refine iM U o _ (sx _ _ dh) (λo' u' z=>by have z:H U=some (.frz o' u'):=z;rw[a5]at z;cases z) ?_;have st:A0k H (upd Hx U (.dK ak)):=sq a5 sx;have d1:upd Hx U (.dK ak) D=some (.lst ((es.map (·.1)).map V.str)):=by rw[eh Da];exact a7
  generalize upd Hx U (.dK ak)=Gt at st d1⊢;have d8:0<=R%(ak.length:Int):=om _ (by lia);have d5:R%(ak.length:Int)<((es.map (·.1)).map V.str).length:=by rw[eA,eA,<-d7];exact oq _ (by lia)
  obtain⟨x0,e6,f0⟩:=uh (f:=V.str) (xs:=es.map (·.1)) d8 (by simpa using d5);obtain⟨e0,c1,b7⟩:=gY.mp (gq e6);refine fV (Bt ar c1) λl1 e1 c5 d4 h4 f7=>?_;rw[b7]at c5;refine ig _ rfl _ rfl U ak rfl (st _ _ a5) (ga _ _ rfl rfl (by show(0:Int)<(ak.length:Int);lia) (hU D _ _ _ rfl rfl (SqL.of d1) f0 ?_));have gd:=B2i.k (H:=Gt) (a:=U) (k:=Sum.inr x0) (st _ _ a5);rw[c5]at gd;refine ig _ rfl _ rfl U _ rfl gd ?_;refine bd _ rfl ?_;refine bd (λZ G=>∃(p:Str)(L:zW)(b:zC)(fx:Int),Z=[Sio c,Sro U,Sro ld,Sro q,Sio R,Sso p,Sro L,Sio fx,none,none,none,none,none,none,none]/\A0k H G/\G L=some (.lst (b.map V.str))/\mJ lk b/\b.length<=4/\PyData.strOk p=true/\FxO nm d p b fx) ?_ ?_
  ·have a6:∀G,A0k H G->∃(p:Str)(L:zW)(b:zC)(fx:Int),[some (V.int c),some (.ref U),some (.ref ld),some (.ref q),some (.int R),some (.str x0),some (.ref l1),some (.int (-1)),none,none,none,none,none,none,none]=[some (.int c),some (.ref U),some (.ref ld),some (.ref q),some (.int R),some (.str p),some (.ref L),some (.int fx),none,none,none,none,none,none,none]/\A0k H G/\G L=some (.lst (b.map V.str))/\mJ lk b/\b.length<=4/\PyData.strOk p=true/\FxO nm d p b fx:=λG sG=>
    (iG x0 l1 e1.2 (-1) rfl sG (sG _ _ f7) (b0.dk e1 d4) (b0.l4 e1 d4) ⟨(by rw[<-b7];exact b0.ok e0 c1),.inl ⟨rfl,λz=>f2 (by rw[<-z,<-b7];exact gY.mpr (bd e0 c1 rfl))⟩⟩)
   refine lH _ rfl q _ _ _ rfl rfl (SqT.of (st _ _ hq)) (gD (j:=1) rfl) (fT rfl) λz hz=>?_;have t1:A0k Gt (upd Gt z (.lst [])):=fI hz;have a3:upd Gt z (.lst []) z=some (.lst (([]:zC).map V.str)):=dh;generalize upd Gt z (.lst [])=G1 at t1 a3⊢;have s1:=st.trans t1;refine fC (jn d) (jn []) (mL (s1 _ _ hO)) (mL a3) (iK (uO (uK λx hx=>(d3 x (lL _ hx)).1) (by have:=(nT d).1;lia)) rfl _ rfl ?_);rw[uz];refine pU (λa4=>?_) (λ_=>iz (a6 G1 s1))
   have g8:0<d.length:=by
    rcases d with _|_
    ·exact absurd rfl a4
    ·simp
   refine fZ _ rfl _ _ rfl rfl (jg ⟨by decide,by decide⟩ _ _ rfl rfl (iK pf rfl _ rfl (iP (λ_=>?_) (λ_=>a6 G1 s1))));refine i12 _ rfl q _ _ _ rfl rfl (SqT.of (s1 _ _ hq)) (gD (j:=0) rfl) ?_;refine i12 _ rfl q _ _ _ rfl rfl (SqT.of (s1 _ _ hq)) (gD (j:=1) rfl) ?_;refine fZ _ rfl _ _ rfl rfl ⟨⟨by decide,by decide⟩,(fZ _ rfl O _ rfl (.inl (SqL.of (s1 _ _ hO))) (ga _ _ rfl rfl (by show(0:Int)<((d.map V.str).length:Int);rw[eA];lia) ?_))⟩;exact iG nm O d _ rfl s1 (s1 _ _ hO) (λy hy=>dk y (lL _ hy)) lo ⟨e3,.inr (fL rfl (by rw[eA];exact om _ (by lia)) (by rw[eA];exact oq _ (by lia)))⟩
  rintro Z G zz;refine iq zz ?_;clear zz;rintro p L b fx rfl sG hL g6 ⟨l4,e8,c9⟩;refine⟨fT rfl,λI hI=>?_⟩;obtain⟨G1,t1,d2,a2⟩:=nH (o:=.lst []) hI;have I0:H I=none:=sG.free hI;rw[a2];refine⟨fT rfl,λN b3=>?_⟩;obtain⟨G2,t2,c7,a2⟩:=nH (o:=.lst []) b3;have c4:H N=none:=(sG.trans t1).free b3;have ID:I≠N:=gh d2 b3;rw[a2];have s2:=sG.trans (t1.trans t2);have d9:=(t1.trans t2) _ _ hL;have LI:L≠I:=gh hL hI;have LD:L≠N:=gh (t1 _ _ hL) b3;refine fZ _ rfl L _ rfl (.inl (SqL.of d9)) (iU _ rfl (by lia) (by rw[eA];lia) ?_)
  refine nV (n:=(b.map V.str).length) (λi Z X=>∃(c0 c2 b9 c3 b8:zP)(iv gv:zM)(ix:zL)(gs:List (Str×Int×Int)),Z=[Sio c,Sro U,Sro ld,Sro q,Sio R,Sso p,Sro L,Sio fx,Sro I,Sro N,c0,c2,b9,c3,b8]/\PB H X I N iv gv (d++l) ix gs i/\X L=some (.lst (b.map V.str))/\D7b fx b ix i)
   (iu none none none none none [] [] (ga [] [] rfl ⟨s2,t2 _ _ d2,c7,.nil,.nil,rfl,fH _,(by intro e he;cases he),(by intro e he;cases he)⟩ d9 λk _ h=>absurd h (Nat.not_lt_zero _))) ?_ ?_
  ·rintro i Z X hi zz;refine jB zz ?_;clear zz;rintro c0 c2 b9 c3 b8 iv gv ix gs ⟨rfl,u,b2,a8⟩;rw[eA]at hi;have a9:b[i]?=some b[i]:=gU hi;have ey:atI (b.map V.str) (0+(i:Int))=some (.str b[i]):=by rw[Int.zero_add];exact gD (by rw[ju,a9];rfl)
   obtain⟨ln,g5,f5,c6⟩:=g6 _ (gq a9);have sX:=u.sm;refine ig _ rfl _ rfl _ _ rfl rfl (ga c _ rfl (by lia) (by lia) λa1 w0 w1=>?_);have g1:=B2i.k (H:=X) (a:=ld) (k:=Sum.inr b[i]) (sX _ _ c8);rw[g5]at g1;refine bd _ rfl (jJ _ rfl _ rfl L _ _ _ rfl rfl (SqL.of b2) ey (fC ld _ rfl g1 ?_));refine jJ _ rfl _ rfl q _ _ _ rfl rfl (SqT.of (sX _ _ hq)) (gD (j:=1) rfl) (i12 _ rfl q _ _ _ rfl rfl (SqT.of (sX _ _ hq)) (gD (j:=2) rfl) (iG O S _ _ rfl rfl (sX _ _ hO) (sX _ _ hS) (jR (by rw[eA,eA];lia)) λbl f8=>?_));have u1:A0k X (upd X bl (.lst (d.map V.str++l.map V.str))):=fI f8;have b5:upd X bl (.lst (d.map V.str++l.map V.str)) bl=some (.lst ((d++l).map V.str)):=by rw[dh,gy]
   generalize upd X bl (.lst (d.map V.str++l.map V.str))=X1 at u1 b5⊢;refine iJ _ rfl _ rfl (iS a1 ln bl ld (d++l) rfl b5 f5 c6 (Dg d3) (by rw[gc];lia) λtq C B X2 v2 g0 b1=>?_);refine km tq _ rfl (SqT.of g0) rfl _ _ rfl _ _ rfl ⟨rfl,?_⟩;have u2:=u1.trans v2;refine bd (λZ Y=>∃(C:Str)(B:Int),Z=[Sio c,Sro U,Sro ld,Sro q,Sio R,Sso p,Sro L,Sio fx,Sro I,Sro N,Sio (0+(i:Int)),Sio a1,Sio ln,Sso C,Sio B]/\X2=Y/\(C=""\/C∈d++l)/\(fx=(i:Int)->b[i]?=some C/\B<0)) ?_ ?_
   ·refine ig _ rfl _ rfl _ _ rfl rfl (bd _ rfl (iP (λe2=>?_) (λhn=>(ga C B rfl rfl b1 λz=>absurd (show 0+(i:Int)<=fx by lia) hn))));have e2:0+(i:Int)<=fx:=e2
    have eo:b=d:=by
     rcases c9 with h|h
     ·have:=h.1
      lia
     ·exact h.1
    refine jJ _ rfl _ rfl L _ _ _ rfl rfl (SqL.of (u2 _ _ b2)) ey ?_;refine iB _ rfl _ rfl rfl (.inr (ig _ rfl _ rfl _ _ rfl rfl (jg ⟨by decide,by decide⟩ _ _ rfl rfl (md vF _ _ rfl (jg rfl _ _ rfl rfl (jg (.inr ⟨by lia,by lia⟩) _ _ rfl rfl ?_))))));refine ga (b[i]) _ rfl rfl (.inr (lL _ (by rw[<-eo];exact gq a9))) λz=>⟨a9,?_⟩;rw[z,Int.zero_add];simp
    lia
   rintro Z Y zz;refine fV zz ?_;clear zz;rintro C B rfl rfl b1 f1;have r:PB H X2 I N iv gv (d++l) ix gs i:=⟨sX.trans u2,u2 _ _ u.hI,u2 _ _ u.hD,u.ri.same (ny u2),u.rg.same (ny u2),u.li,u.lg,u.bi,u.bg⟩;have b4:=u2 _ _ b2
   have g9:gv.length<=4:=by
    have h1:=u.rg.len;have h2:=u.lg;rw[eA]at h1
    lia
   have h0:iv.length<=4:=by
    have h1:=u.ri.len;have h2:=u.li;rw[eA]at h1
    lia
   refine bd (λZ Y=>∃(gv:zM)(gs:List (Str×Int×Int)),Z=[Sio c,Sro U,Sro ld,Sro q,Sio R,Sso p,Sro L,Sio fx,Sro I,Sro N,Sio (0+(i:Int)),Sio a1,Sio ln,Sso C,Sio B]/\A0k H Y/\Y I=some (.lst iv)/\Y N=some (.lst gv)/\A3v (TH Y) iv (ix.map kS)/\A3v (TH Y) gv (gs.map oA)/\gs.length<=i+1/\(∀g∈gs,g.1∈d++l)/\Y L=some (.lst (b.map V.str))) ?_ ?_
   ·have no:∃(a0:zM)(W:List (Str×Int×Int)),[some (V.int c),some (.ref U),some (.ref ld),some (.ref q),some (.int R),some (.str p),some (.ref L),some (.int fx),some (.ref I),some (.ref N),some (.int (0+(i:Int))),some (.int a1),some (.int ln),some (.str C),some (.int B)]=[some (.int c),some (.ref U),some (.ref ld),some (.ref q),some (.int R),some (.str p),some (.ref L),some (.int fx),some (.ref I),some (.ref N),some (.int (0+(i:Int))),some (.int a1),some (.int ln),some (.str C),some (.int B)]/\A0k H X2/\X2 I=some (.lst iv)/\X2 N=some (.lst a0)/\A3v (TH X2) iv (ix.map kS)/\A3v (TH X2) a0 (W.map oA)/\W.length<=i+1/\(∀g∈W,g.1∈d++l)/\X2 L=some (.lst (b.map V.str)):=
     (ga gv gs rfl r.sm r.hI (jh r.hD r.ri r.rg (by have:=u.lg;lia) u.bg b4))
    refine jA _ rfl rfl _ rfl (pU (λa4=>?_) (λ_=>iz no));have a4:C≠"":=λz=>a4 (by rw[z]);have d0:C∈d++l:=b1.resolve_left a4;obtain⟨na,e9,_,_⟩:=dk C d0;have g2:=B2i.k (H:=X2) (a:=ld) (k:=Sum.inr C) (r.sm _ _ c8);rw[e9]at g2
    have d6:∀z,X2 z=none->∃(a0:zM)(W:List (Str×Int×Int)),[some (V.int c),some (.ref U),some (.ref ld),some (.ref q),some (.int R),some (.str p),some (.ref L),some (.int fx),some (.ref I),some (.ref N),some (.int (0+(i:Int))),some (.int a1),some (.int ln),some (.str C),some (.int B)]=[some (.int c),some (.ref U),some (.ref ld),some (.ref q),some (.int R),some (.str p),some (.ref L),some (.int fx),some (.ref I),some (.ref N),some (.int (0+(i:Int))),some (.int a1),some (.int ln),some (.str C),some (.int B)]/\A0k H (upd (upd X2 z (.tup [.str C,.int (0-B),.int (ln-B)])) N (.lst (gv++[.ref z])))/\upd (upd X2 z (.tup [.str C,.int (0-B),.int (ln-B)])) N (.lst (gv++[.ref z])) I=some (.lst iv)/\upd (upd X2 z (.tup [.str C,.int (0-B),.int (ln-B)])) N (.lst (gv++[.ref z])) N=some (.lst a0)/\A3v (TH (upd (upd X2 z (.tup [.str C,.int (0-B),.int (ln-B)])) N (.lst (gv++[.ref z])))) iv (ix.map kS)/\A3v (TH (upd (upd X2 z (.tup [.str C,.int (0-B),.int (ln-B)])) N (.lst (gv++[.ref z])))) a0 (W.map oA)/\W.length<=i+1/\(∀g∈W,g.1∈d++l)/\upd (upd X2 z (.tup [.str C,.int (0-B),.int (ln-B)])) N (.lst (gv++[.ref z])) L=some (.lst (b.map V.str)):=λz hz=>by
     obtain⟨X3,y1,a3,a2⟩:=nH (o:=.tup [.str C,.int (0-B),.int (ln-B)]) hz;rw[a2];have kt:KT X3 (upd X3 N (.lst (gv++[.ref z]))):=KT.at (y1 _ _ r.hD) (by intro xs z;cases z);refine ga (gv++[.ref z]) (gs++[(C,0-B,ln-B)]) rfl (gQ (r.sm.trans y1) c4) (by rw[eh ID];exact y1 _ _ r.hI) (jh dh (r.ri.same ((ny y1).trans (oB kt))) ?_ (by have:=u.lg;rw[gc,lK];lia) (λg hg=>?_) (by rw[eh LD];exact y1 _ _ b4))
     ·rw[gy];exact(r.rg.same ((ny y1).trans (oB kt))).snoc (.tup (tR (kt _ _ a3)) (.cons (.str _) (.cons (.int _) (.cons (.int _) .nil))))
     ·rcases iw.mp hg with hg|hg
      ·exact u.bg g hg
      ·rw[gz.mp hg];exact d0
    refine fZ _ rfl _ _ rfl rfl (bd _ rfl (iP (λ_=>nL ?_) (λ_=>?_)))
    ·refine fJ _ rfl (.inl (gk rfl _ (SqL.of r.hD))) (ig _ rfl _ rfl _ _ rfl rfl (ig _ rfl _ rfl _ _ rfl rfl ⟨fT rfl,λz hz=>?_⟩));exact iH N _ _ rfl rfl ((fI hz) _ _ r.hD) (gJ (by lia)) (d6 z hz)
    ·refine ig _ rfl _ rfl ld _ rfl g2 (fZ _ rfl _ _ rfl rfl (fZ _ rfl _ _ rfl rfl (bd _ rfl (iP (λ_=>?_) (λ_=>no)))));refine fJ _ rfl (.inl (gk rfl _ (SqL.of r.hD))) (ig _ rfl _ rfl _ _ rfl rfl (ig _ rfl _ rfl _ _ rfl rfl ⟨fT rfl,λz hz=>?_⟩));exact iH N _ _ rfl rfl ((fI hz) _ _ r.hD) (gJ (by lia)) (d6 z hz)
   rintro Z Y zz;refine fV zz ?_;clear zz;rintro a0 W rfl sY e4 ⟨f6,f4,g4,g3,f3,e7⟩;refine fJ _ rfl (.inl (gk rfl _ (SqL.of e4))) (iB _ rfl _ rfl (fT rfl) λz hz=>?_);obtain⟨Y1,y1,a3,a2⟩:=nH (o:=.tup [.str C,.int B]) hz;rw[a2];have b6:=y1 _ _ e4;have kt:KT Y1 (upd Y1 I (.lst (iv++[.ref z]))):=KT.at b6 (by intro xs z;cases z);refine iH I _ _ rfl rfl b6 (gJ (by lia)) ?_;refine iu _ _ _ _ _ (iv++[.ref z]) a0 (ga (ix++[(C,B)]) W rfl ⟨gQ (sY.trans y1) I0,dh,by rw[eh ID.symm];exact y1 _ _ f6,?_,g4.same ((ny y1).trans (oB kt)),by rw[gc,u.li];rfl,g3,λe he=>?_,f3⟩ (by rw[eh LI];exact y1 _ _ e7) (a8.snoc u.li f1))
   ·rw[gy];exact(f4.same ((ny y1).trans (oB kt))).snoc (.tup (tR (kt _ _ a3)) (.cons (.str _) (.cons (.int _) .nil)))
   ·rcases iw.mp he with he|he
    ·exact u.bi e he
    ·rw[gz.mp he];exact b1
  ·rintro Z X zz;refine jB zz ?_;clear zz;rintro c0 c2 b9 c3 b8 iv gv ix gs ⟨rfl,u,b2,a8⟩;have li:=u.li;have lg:=u.lg;rw[eA]at li lg;refine bd _ rfl (iB _ rfl _ rfl (fT rfl) λz hz=>?_);have y1:A0k X (upd X z (.tup [.str p,.ref I,.ref N])):=fI hz;refine k z ⟨p,ix,gs⟩ _ (u.sm.trans y1) (λM hM=>(iS z I N iv gv rfl dh (λm=>hM _ m I0) (y1 _ _ u.hI) (λm=>hM _ m c4) (y1 _ _ u.hD) ⟨u.ri.same (ny y1),u.rg.same (ny y1)⟩)) ⟨u.bi,u.bg,by show ix.length<=8;lia,by show gs.length<=4;lia,e8⟩ (c9.own (by rw[eA]at a8;exact a8))
structure oy(lk:zJ)(axs:zC)(e:Lw):Prop where
 sub:∀y∈e.own++e.sums,y∈axs
 l4:e.own.length+e.sums.length<=4
 sz:∃so ss:zI,Sz lk e.own so/\Sz lk e.sums ss/\(∀n∈so,1<=n/\n<=60)/\(∀n∈ss,1<=n/\n<=60)/\e.wo=((prN so*prN ss:Nat):Int)
 ps:∀p∈e.ps,nr (e.own++e.sums) p
 po:∀p∈e.ps,rn e.nm e.own p
 nd:(e.own++e.sums).Nodup
 lp:e.ps.length<=3
def Hf:Sp:=λm H Q _=>∃(c:Int)(g:Str)(d j k:zW)(a:zC)(l f:zJ)(i:zB)(Zz:zV),m=[.int c,.str g,.ref d,.ref j,.ref k]/\H d=some (.lst (a.map V.str))/\a.length<=4/\a.Nodup/\OkN a/\mJ f a/\H j=some (.dK f)/\H k=some (.dK l)/\AR Zz H l i/\D3f f i/\g∉i.map (·.1)/\PyData.strOk g=true/\
 ∀(q:zW)(e:Lw)(h:Hp),A0k H h->(∀M:zQ,(∀b∈M,H b≠none)->C3b M h (.ref q) e)->e.nm=g->oy f a e->Q (.ref q) h
structure SD(H X:Hp)(sd A0 A1 TL:zW)(lk:zJ)(axs ts own sums:zC)(so ss:zI)(wo:Int)(n:Nat):Prop where
 sm:A0k H X
 hs:X sd=some (.lst [.ref A0,.ref A1])
 h0:X A0=some (.lst (own.map V.str))
 h1:X A1=some (.lst (sums.map V.str))
 ht:X TL=some (.lst (ts.map V.str))
 sub:∀y∈own++sums,y∈axs
 ln:own.length+sums.length<=n
 zo:Sz lk own so
 zs:Sz lk sums ss
 po:∀n∈so,1<=n/\n<=60
 ps:∀n∈ss,1<=n/\n<=60
 hw:wo=((prN so*prN ss:Nat):Int)
 nd:(own++sums++ts.drop n).Nodup
theorem uB(ls:zI)(n:Int):prN (ls++[n])=prN ls*n.toNat:=by rw[xu];simp[prN]
theorem Hg(T:Txt K mg t):FO P w base T.bI 3 Hf:=by
 refine T.bI.F.ok mQ λ_ A _ s H _ Q E hr h=>?_
 ·refine jB h ?_;clear h;rintro c nm W ld ad G ak lk es ⟨Zz,rfl,a0,l4,c2,f0,dk,b6,c3,ar,f5,e7,d6,k⟩;have hu:=nA hr;have f3:=Paired.length ar;refine rsq (eH (fX 5 mQ.nd (pcl (rR T) hr T.bM (bm (pv 0) (bm fM dV)))) (eH (fX 6 mQ.nd (@hJ _ _ _ _ (bm (@hJ _ _ _ _ dV) (bm (@hJ _ _ _ _ dV) dV)))) (eH (fX 7 mQ.nd fM) (eH (fX 8 mQ.nd (pv 2)) (nj (gI (iA lA (fQ jp (pv 5) fM) fM) (fm ⟨rG (i₀:=8) (N':=["_law_axis"]) (ix:=(List.replicate 1 none)) mQ.nd rfl (.inl rfl) rfl (lX rfl (by decide+kernel) (by decide+kernel)) (lV rfl) (Cc rfl T.e9 (fK 2)) (λ_ _ _ _=>(fR (i:=0) Fc)) (λ_ _ _ _=>(pv 0))⟩) ⟨gO⟩) (eH (ja (nE rfl T.aO (bm (lM T.aM (fK 8)) dV)) (fR (i:=9) mQ.nd) (eH (fX 10 mQ.nd (fQ jp (fQ my (pv 5) (iZ jx (@hJ _ _ _ _ (bm fM (bm fM (bm fM (bm fM dV))))) (pv 9))) fM)) (fm (gI (iA pY (pv 10) fM) (eH ⟨kc (jY jW lJ lI lF (iZ jx (pv 6) (pv 10)) (bm (iZ jx (pv 8) (pv 9)) dV))⟩ (fm (fX 7 mQ.nd (fQ nQ (pv 7) (ng hu (pv 3) (iZ jx (pv 8) (pv 9))))))) ⟨gO⟩)))) (eH (fX 11 mQ.nd (hW (bm (pv 1) (bm (pil 6) (bm (pil 6) (bm (@hJ _ _ _ _ dV) (fK 7))))))) (eH (ja (nE rfl T.aO (bm (fQ jp (pcl (rR T) hr T.bM (bm (pv 0) (bm fM dV))) fM) dV)) (fR (i:=9) mQ.nd) (fm (gI (iA vW (jy yF (by rfl) T.aM qG (fK 4)) fM) (fm ⟨kc (jY jW lJ lI lF (pit 11) (bm (pcl (HL T) hr T.bq (bm (fQ jQ (fQ jQ (pv 0) (fQ nQ fM (pv 9))) (pv 9)) (bm (pv 4) (bm (pv 3) (fK 11))))) dV))⟩) ⟨gO⟩))) (fm (fU (pv 11))))))))))) ?_;refine fZ _ rfl c 9 rfl (by decide) ⟨by decide,λu r0 r1=>?_⟩;refine⟨fT rfl,λA0 a9=>⟨fT rfl,λA1 a8=>⟨fT rfl,λO a3=>?_⟩⟩⟩;have t0:A0k H (upd H A0 (.lst [])):=fI a9;have g0:upd H A0 (.lst []) A0=some (.lst []):=dh;generalize upd H A0 (.lst [])=H0 at t0 g0 a8 a3⊢;have t1:A0k H0 (upd H0 A1 (.lst [])):=fI a8;have g1:upd H0 A1 (.lst []) A1=some (.lst []):=dh;have c5:A0≠A1:=gh g0 a8;have A1H:H A1=none:=t0.free a8;generalize upd H0 A1 (.lst [])=H1 at t1 g1 a3⊢;have t2:A0k H1 (upd H1 O (.lst [.ref A0,.ref A1])):=fI a3;have g2:upd H1 O (.lst [.ref A0,.ref A1]) O=some (.lst [.ref A0,.ref A1]):=dh;have f6:A0≠O:=gh (t1 _ _ g0) a3;have d8:A1≠O:=gh g1 a3;have c0:=(t1.trans t2) _ _ g0;have b7:=t2 _ _ g1;have s2:=t0.trans (t1.trans t2);generalize upd H1 O (.lst [.ref A0,.ref A1])=H2 at t2 g2 c0 b7 s2⊢;refine bd _ rfl ?_;refine bd (λZ X=>∃(TL:zW)(r:zC),Z=[Sio c,Sso nm,Sro W,Sro ld,Sro ad,Sio u,Sro O,Sio 1,Sro TL,none,none,none]/\A0k H2 X/\X TL=some (.lst (r.map V.str))/\(∀y∈r,y∈G)/\r.length<=4/\r.Nodup/\TL≠A0/\TL≠A1) ?_ ?_
  ·refine fZ _ rfl _ _ rfl rfl (iK vF rfl _ rfl (iP (λ_=>?_) (λ_=>(fC W G rfl (A0k.refl _) (jh (s2 _ _ a0) (λy B=>B) l4 c2 (gh a0 a9) (gh a0 A1H))))));refine fZ _ rfl W _ rfl (SqL.of (s2 _ _ a0)) λD hD=>?_;have DA0:D≠A0:=λz=>by rw[z,c0]at hD;cases hD
   have DA1:D≠A1:=λz=>by rw[z,b7]at hD;cases hD
   refine qv (J:=Itv K W (G.map V.str).length) (D:=D) (G.map V.str).length (λi ys X=>A0k H2 X/\X D=some (.lst ys)/\ys.length=i/\∃r:zC,ys=r.map V.str/\r=G.reverse.take i) ⟨fI hD,(iK dh rfl [] rfl rfl)⟩ (λi ys X hi ⟨sx,_⟩=>?_) (λys X _=>rfl) ?_ ?_
   ·have e2:(G.map V.str).length-1-i<(G.map V.str).length:=by lia
    exact ga (G.map V.str) _ (SqL.of (sx _ _ (s2 _ _ a0))) rfl hi (gU e2)
   ·rintro i ys X hi ⟨sx,b4,ly,r,rfl,a1⟩ x Y ⟨rfl,hx⟩;obtain⟨y,B,rfl⟩:=jZ (hx _ (SqL.of (sx _ _ (s2 _ _ a0))));rw[eA]at ly hi;refine gk True.intro _ (iV rfl b4 (gJ (by rw[eA];lia)) (gQ sx hD) (iK dh (by rw[gc,eA,ly];rfl) (r++[y]) (by rw[gy];rfl) ?_));rw[eA]at B;rw[gW,<-a1,List.getElem?_reverse (by lia),B];rfl
   ·rintro ys X ⟨sx,b4,ly,r,rfl,a1⟩;rw[eA,eA]at ly;rw[eA,nI (by rw[List.length_reverse];lia)]at a1;exact fC D r rfl sx (jh b4 (λy B=>by rw[a1]at B;simpa using B) (by lia) (by rw[a1];exact(List.reverse_perm G).nodup_iff.mpr c2) DA0 DA1)
  rintro Z H3 S;refine fV S ?_;clear S;rintro TL r rfl s3 d4 ⟨e0,h2,e6,f4,e3⟩;have g5:=s2.trans s3;refine fZ _ rfl TL _ rfl (.inl (SqL.of d4)) (iU _ rfl (by lia) (by rw[eA];lia) ?_)
  refine nV (n:=(r.map V.str).length) (λi Z X=>∃(o9 a4:zP)(l f:zC)(so ss:zI)(wo:Int),Z=[Sio c,Sso nm,Sro W,Sro ld,Sro ad,Sio u,Sro O,Sio wo,Sro TL,o9,a4,none]/\SD H X O A0 A1 TL lk G r l f so ss wo i)
   (iu none none [] [] [] [] 1 ⟨rfl,g5,s3 _ _ g2,s3 _ _ c0,s3 _ _ b7,d4,(by intro y B;cases B),fH _,.nil,.nil,(by intro y B;cases B),(by intro y B;cases B),rfl,by simpa using e6⟩) ?_ ?_
  ·rintro i Z X hi S;refine ik S ?_;clear S;rintro o9 a4 l f so ⟨ss,wo,rfl,I⟩;rw[eA]at hi;have c9:r[i]?=some r[i]:=gU hi;have b5:r[i]∈G:=e0 _ (gq c9);have b8:r.drop i=r[i]::r.drop (i+1):=sW hi;have ey:atI (r.map V.str) (0+(i:Int))=some (.str r[i]):=by rw[Int.zero_add];exact gD (by rw[ju,c9];rfl)
   obtain⟨n,vn,n1,c6⟩:=dk _ b5
   obtain⟨d,ed,d1,d2⟩:∃d:Int,atI [V.int 2,.int 6,.int 18,.int 54] (0+(i:Int))=some (.int d)/\0<d/\d<1073741824:=by
    rw[Int.zero_add]
    match i,(show i<4 by lia)with
    |0,_=>exact fJ 2 rfl (by decide) (by decide)
    |1,_=>exact fJ 6 rfl (by decide) (by decide)
    |2,_=>exact fJ 18 rfl (by decide) (by decide)
    |3,_=>exact fJ 54 rfl (by decide) (by decide)
   refine fJ _ rfl (fT rfl) λz hz=>(i12 _ rfl z _ _ _ rfl rfl (SqL.of dh) ed (ga _ _ rfl rfl ⟨d1,d2⟩ (ga _ _ rfl rfl pf ?_)));have L:A0k X (upd X z (.lst [.int 2,.int 6,.int 18,.int 54])):=fI hz;generalize upd X z (.lst [.int 2,.int 6,.int 18,.int 54])=X1 at L⊢;have b9:=I.sm.trans L;have b0:0<=u/d%3:=om _ (by decide);have b1:u/d%3<3:=oq _ (by decide);refine jA _ rfl rfl _ rfl (pU (λd9=>?_) (λ_=>(iu _ _ l f so ss wo ⟨rfl,b9,L _ _ I.hs,L _ _ I.h0,L _ _ I.h1,L _ _ I.ht,I.sub,by have:=I.ln;lia,I.zo,I.zs,I.po,I.ps,I.hw,(by have h:=I.nd;rw[b8]at h;exact h.sublist (List.Sublist.append_left (List.sublist_cons_self _ _) _))⟩)));have g7:u/d%3≠2:=λz=>d9 (by show V.int (u/d%3)=V.int 2;rw[z]);have g8:=I.ln;have c4:((n.toNat:Nat):Int)=n:=Int.toNat_of_nonneg (by lia);rcases(show u/d%3=0\/u/d%3=1 by lia)with e5|f9
   ·have f8:atI [V.ref A0,.ref A1] (u/d%3)=some (.ref A0):=by rw[e5];rfl
    refine kM _ rfl _ rfl O _ _ _ rfl rfl (SqL.of (L _ _ I.hs)) f8 (.inl (gk rfl _ (SqL.of (L _ _ I.h0)))) (jJ _ rfl _ rfl TL _ _ _ rfl rfl (SqL.of (L _ _ I.ht)) ey (iH A0 _ _ rfl rfl (L _ _ I.h0) (gJ (by rw[eA];lia)) ?_));have v2:A0k H (upd X1 A0 (.lst (l.map V.str++[.str r[i]]))):=gQ b9 a9;have w0:upd X1 A0 (.lst (l.map V.str++[.str r[i]])) A0=some (.lst ((l++[r[i]]).map V.str)):=by rw[dh,gy];rfl
    have w1:upd X1 A0 (.lst (l.map V.str++[.str r[i]])) A1=some (.lst (f.map V.str)):=by rw[eh c5.symm];exact L _ _ I.h1
    have wt:upd X1 A0 (.lst (l.map V.str++[.str r[i]])) TL=some (.lst (r.map V.str)):=by rw[eh f4];exact L _ _ I.ht
    have ws:upd X1 A0 (.lst (l.map V.str++[.str r[i]])) O=some (.lst [.ref A0,.ref A1]):=by rw[eh f6.symm];exact L _ _ I.hs
    generalize upd X1 A0 (.lst (l.map V.str++[.str r[i]]))=X2 at v2 w0 w1 wt ws⊢;have g:=B2i.k (H:=X2) (a:=ld) (k:=Sum.inr r[i]) (v2 _ _ b6);rw[vn]at g;refine iJ _ rfl _ rfl (jJ _ rfl _ rfl TL _ _ _ rfl rfl (SqL.of wt) ey (fC ld _ rfl g (ga _ _ rfl rfl (.inr ⟨by lia,by lia⟩) ?_)));refine iu _ _ (l++[r[i]]) f (so++[n]) ss (wo*n) ⟨rfl,v2,ws,w0,w1,wt,λy B=>?_,by rw[gc,lK];lia,jN I.zo (.cons vn .nil),I.zs,λm hm=>?_,I.ps,?_,?_⟩
    ·rcases iw.mp B with B|B
     ·rcases iw.mp B with B|B
      ·exact I.sub y (lL _ B)
      ·rw[gz.mp B];exact b5
     ·exact I.sub y (lj _ B)
    ·rcases iw.mp hm with hm|hm
     ·exact I.po m hm
     ·rw[gz.mp hm];exact⟨n1,c6⟩
    ·rw[uB,I.hw,Nat.mul_right_comm,Int.natCast_mul (prN so*prN ss),c4]
    ·have h:=I.nd;rw[b8]at h;refine(List.Perm.nodup_iff ?_).mp h;simp only [iE,sZ,List.nil_append];exact List.Perm.append_left _ List.perm_middle
   ·have g3:atI [V.ref A0,.ref A1] (u/d%3)=some (.ref A1):=by rw[f9];rfl
    refine kM _ rfl _ rfl O _ _ _ rfl rfl (SqL.of (L _ _ I.hs)) g3 (.inl (gk rfl _ (SqL.of (L _ _ I.h1)))) (jJ _ rfl _ rfl TL _ _ _ rfl rfl (SqL.of (L _ _ I.ht)) ey (iH A1 _ _ rfl rfl (L _ _ I.h1) (gJ (by rw[eA];lia)) ?_));have v2:A0k H (upd X1 A1 (.lst (f.map V.str++[.str r[i]]))):=gQ b9 A1H;have w1:upd X1 A1 (.lst (f.map V.str++[.str r[i]])) A1=some (.lst ((f++[r[i]]).map V.str)):=by rw[dh,gy];rfl
    have w0:upd X1 A1 (.lst (f.map V.str++[.str r[i]])) A0=some (.lst (l.map V.str)):=by rw[eh c5];exact L _ _ I.h0
    have wt:upd X1 A1 (.lst (f.map V.str++[.str r[i]])) TL=some (.lst (r.map V.str)):=by rw[eh e3];exact L _ _ I.ht
    have ws:upd X1 A1 (.lst (f.map V.str++[.str r[i]])) O=some (.lst [.ref A0,.ref A1]):=by rw[eh d8.symm];exact L _ _ I.hs
    generalize upd X1 A1 (.lst (f.map V.str++[.str r[i]]))=X2 at v2 w0 w1 wt ws⊢;have g:=B2i.k (H:=X2) (a:=ld) (k:=Sum.inr r[i]) (v2 _ _ b6);rw[vn]at g;refine iJ _ rfl _ rfl (jJ _ rfl _ rfl TL _ _ _ rfl rfl (SqL.of wt) ey (fC ld _ rfl g (ga _ _ rfl rfl (.inr ⟨by lia,by lia⟩) ?_)));refine iu _ _ l (f++[r[i]]) so (ss++[n]) (wo*n) ⟨rfl,v2,ws,w0,w1,wt,λy B=>?_,by rw[gc,lK];lia,I.zo,jN I.zs (.cons vn .nil),I.po,λm hm=>?_,?_,?_⟩
    ·rw[<-iE]at B;rcases iw.mp B with B|B
     ·exact I.sub y B
     ·rw[gz.mp B];exact b5
    ·rcases iw.mp hm with hm|hm
     ·exact I.ps m hm
     ·rw[gz.mp hm];exact⟨n1,c6⟩
    ·rw[uB,I.hw,<-Nat.mul_assoc,Int.natCast_mul (prN so*prN ss),c4]
    ·have h:=I.nd;rw[b8]at h
     simpa[iE]using h
  rintro Z X S;refine ik S ?_;clear S;rintro o9 a4 l f so ⟨ss,wo,rfl,I⟩;have f1:=I.ln;rw[eA]at f1;refine jJ _ rfl _ rfl O _ _ _ rfl rfl (SqL.of I.hs) (gD (j:=0) rfl) (lH _ rfl O _ _ _ rfl rfl (SqL.of I.hs) (gD (j:=1) rfl) (fT rfl) λPL a7=>(fJ _ rfl (fT rfl) λq hq=>?_));have L:A0k X (upd X PL (.lst [])):=fI a7;have p1:upd X PL (.lst []) PL=some (.lst []):=dh;have PLH:H PL=none:=I.sm.free a7;have d5:A0≠PL:=gh I.h0 a7;have c8:A1≠PL:=gh I.h1 a7;generalize upd X PL (.lst [])=X1 at L p1 hq⊢;obtain⟨X2,u2,q2,f7⟩:=nH (o:=.tup [.str nm,.ref A0,.ref A1,.ref PL,.int wo]) hq;have d3:q≠PL:=(gh p1 hq).symm;rw[f7];have p2:=u2 _ _ p1;have a2:=L.trans u2;have c7:=I.sm.trans a2;have f2:mJ lk (l++f):=λy B=>dk y (I.sub y B);have e1:OkN (l++f):=λy B=>f0 y (I.sub y B);refine fZ _ rfl c 8 rfl (by decide) ⟨by decide,λm m0 m1=>?_⟩;have b0:0<=m%4:=om _ (by decide);have b1:m%4<4:=oq _ (by decide);refine ga _ _ rfl rfl qJ (iU _ rfl (by lia) (by lia) ?_)
  refine nV (n:=(m%4).toNat) (λi Z Y=>∃(o9 a4:zP)(N:zM)(ps:List Pc),Z=[Sio c,Sso nm,Sro W,Sro ld,Sro ad,Sio u,Sro O,Sio wo,Sro TL,o9,a4,Sro q]/\KB PL X2 Y/\Y PL=some (.lst N)/\ps.length<=i/\(∀p∈ps,nr (l++f) p)/\(∀p∈ps,rn nm l p)/\∀M:zQ,(∀b∈M,H b≠none)->Paired (C2y (PL::M) Y) N ps)
   (iG _ _ [] [] rfl KB.refl p2 (fH _) (by intro p hp;cases hp) ⟨(by intro p hp;cases hp),λ_ _=>.nil⟩) ?_ ?_
  ·rintro i Z Y hi S;refine iq S ?_;clear S;rintro e4 c1 N ps rfl kb U g4 ⟨a6,R,a5⟩;have sY:A0k H Y:=KB.same c7 kb PLH
   have g9:N.length<=i:=by
    have:=Paired.length (a5 [] (by intro b hb;cases hb))
    lia
   refine fZ _ rfl ad ak rfl (sY _ _ c3) ⟨_,(jA _ rfl rfl _ rfl (iP (λb3=>?_) (λhn=>(iG _ _ N ps rfl kb U (by lia) a6 ⟨R,a5⟩))))⟩;have b3:(0:Int)<(ak.length:Int):=b3
   have e8:es≠[]:=λz=>by
    have:ak.length=0:=by rw[f3,z];rfl
    lia
   have d0:=kb _ _ d3 q2;refine lH _ rfl q _ _ _ rfl rfl (SqT.of d0) (gD (j:=3) rfl) (.inl (gk rfl _ (SqL.of U))) (ig _ rfl _ rfl _ _ rfl rfl (jg (.inl ⟨by decide,by decide⟩) _ _ rfl rfl (fZ _ rfl _ _ rfl rfl (bd _ rfl (ma _ rfl _ rfl _ ad ld (iu q A0 A1 ak lk es nm (iG l f _ Zz rfl (sY _ _ c3) (ar.same sY) (sY _ _ b6) f5 (jh e8 e7 d0 (kb _ _ d5 (a2 _ _ I.h0)) (kb _ _ c8 (a2 _ _ I.h1)) (jh f2 e1 (by lia) (by lia) d6 λz p Y2 v2 g6 pi d7=>?_)))))))));have b2:=v2 _ _ U;refine iH PL _ _ rfl rfl b2 (gJ (by lia)) ?_;have kt:KT Y2 (upd Y2 PL (.lst (N++[.ref z]))):=KT.at b2 (by intro xs z;cases z);refine iG _ _ (N++[.ref z]) (ps++[p]) rfl ((kb.trans (KB.of v2)).upd) dh (by rw[gc,lK];lia) (λp' C=>?_) ⟨λp' C=>?_,λM hM=>?_⟩
   ·rcases iw.mp C with C|C
    ·exact a6 p' C
    ·rw[gz.mp C];exact pi
   ·rcases iw.mp C with C|C
    ·exact R p' C
    ·rw[gz.mp C];exact d7
   ·have up:∀{v:V}{p:Pc},C2y (PL::M) Y2 v p->C2y (PL::M) (upd Y2 PL (.lst (N++[.ref z]))) v p:=λh=>h.imp kt λb xs nb e=>⟨nb,by rw[eh (λz=>nb (by rw[z];exact .head _))];exact e⟩;refine jN (Paired.mapP (a5 M hM) λ_ _ h=>up (h.same v2)) (.cons (up (g6 (PL::M) λb hb=>?_)) .nil);rcases gB.mp hb with rfl|hb
    ·rw[U];intro z;cases z
    ·intro z;exact hM b hb (sY.free z)
  ·rintro Z Y S;refine iq S ?_;clear S;rintro e4 c1 N ps rfl kb U g4 ⟨a6,R,a5⟩;have sY:A0k H Y:=KB.same c7 kb PLH;refine bd _ rfl (k q ⟨nm,l,f,ps,wo⟩ Y sY (λM hM=>?_) rfl ⟨I.sub,by show l.length+f.length<=4;lia,(jr so ss I.zo I.zs I.po I.ps I.hw),a6,R,by have h:=I.nd;rw[eA,List.drop_length,kQ]at h;exact h,by show ps.length<=3;lia⟩);exact sR q A0 A1 PL N rfl (kb _ _ d3 q2) (λmm=>hM _ mm a9) (kb _ _ d5 (a2 _ _ I.h0)) (λmm=>hM _ mm A1H) (kb _ _ c8 (a2 _ _ I.h1)) (λmm=>hM _ mm PLH) U (Paired.mapP (a5 M hM) λ_ _ h=>h.imp (KT.same (A0k.refl _)) λb xs nb e=>⟨λmm=>nb (.tail _ mm),e⟩)
def pk(p:Int×Int):fP:=[.inl (.inl p.1),.inl (.inl p.2)]
theorem wv{a b:Int×Int}(h:pk a=pk b):a=b:=by unfold pk at h;injection h with h1 h2;injection h1 with h1;injection h1 with h1;injection h2 with h2 _;injection h2 with h2;injection h2 with h2;exact Prod.ext h1 h2
theorem tI{b:zW}{i j:Int}(h:H b=some (.tup [.int i,.int j])):A2m H (pk (i,j)) b:=(bd _ h (.cons rfl (.cons rfl .nil)))
def duK(Kp:List (Int×Int)):List (fP×V):=Kp.map λp=>(pk p,V.bl true)
theorem BO(Kp:List (Int×Int))(p:Int×Int):(fN (duK Kp) (pk p)).isSome=decide (p∈Kp):=by
 unfold fN duK;rw[Option.isSome_map]
 induction Kp with
 |nil=>rfl
 |cons q r ih=>
  rw[gA,nn];by_cases e:q=p
  ·subst e;simp
  ·have:decide (pk q=pk p)=false:=gK λz=>e (wv z);rw[this];rw[ih];simp[Ne.symm e]
theorem wH(Kp:List (Int×Int))(p:Int×Int):gr (duK Kp) (pk p) (V.bl true)=duK (if p∈Kp then Kp else Kp++[p]):=by
 unfold gr;by_cases m:p∈Kp
 ·rw[bz m,bz (by
   unfold duK;rw[List.any_map,List.any_eq_true]
   exact bd p m (by simp))]
  unfold duK;rw[List.map_map];refine List.map_congr_left λq _=>?_;show(if pk q=pk p then (pk q,V.bl true)else (pk q,V.bl true))=_;split<;>rfl
 ·rw[bp m,bp (by
   unfold duK;rw[List.any_map,List.any_eq_true];rintro⟨q,a,e⟩;have:q=p:=wv (by simpa using e)
   exact m (by rw[<-this];exact a))]
  unfold duK;rw[gy];rfl
def wrL(a:List Lw)(s:Stp):Spt:=match a[s.1.toNat]? with|some e=>(e.nm,s.2.2.1)|none=>("",s.2.2.1)
def duL(a:List Lw)(s:Stp):List Spt:=match a[s.1.toNat]? with|some e=>ke e (toM s)|none=>[]
section
variable(wr:Stp->Spt)(rd:Stp->List Spt)
def qI(A:List Stp)(s:Stp)(p:Int×Int):Prop:=p.2=A.length/\((∃r∈rd s,p.1∈hE wr A r)\/(s.2.1=("add":Str)/\(hE wr A (wr s)).head? =some p.1))
def DdS(L:List Stp)(p:Int×Int):Prop:=∃A s B,L=A++s::B/\qI wr rd A s p
variable{wr rd}
theorem xX(A:List Stp)(s:Stp)(p:Int×Int):DdS wr rd (A++[s]) p↔DdS wr rd A p\/qI wr rd A s p:=by
 constructor
 ·rintro a;refine iN a ?_;clear a;rintro A' x B ⟨e,h⟩;rcases zd e with ⟨rfl,rfl,_⟩|⟨c,_,b⟩
  ·exact .inr h
  ·exact .inl (iC A' x c b h)
 ·rintro(⟨A',x,B,rfl,h⟩|h)
  ·exact iC A' x (B++[s]) (by simp) h
  ·exact iC A s [] rfl h
theorem Db(st:nS wr L)(p:Int×Int):DdS wr rd L p↔NdS wr rd L p:=by
 constructor
 ·refine λb=>jK b λA s B e f g=>?_;clear b;refine iM A s B e f (g.imp id λ⟨c,a⟩=>⟨c,?_⟩);obtain⟨h,i,d⟩:=st A s B e c;rw[d]at a;rw[i,iO a];simp
 ·refine λb=>jK b λA s B e f g=>?_;clear b;refine iM A s B e f (g.imp id λ⟨c,a⟩=>⟨c,?_⟩);obtain⟨h,i,d⟩:=st A s B e c;rw[i]at a;rw[d,gz.mp a]
end
structure qY(wr:Stp->Spt)(rd:Stp->List Spt)(A:List Stp)(Kp:List (Int×Int)):Prop where
 nd:Kp.Nodup
 iff:∀p,p∈Kp↔DdS wr rd A p
theorem wR(Kp:List (Int×Int))(p q:Int×Int):q∈(if p∈Kp then Kp else Kp++[p])↔q∈Kp\/q=p:=by
 by_cases m:p∈Kp
 ·rw[bz m];exact⟨.inl,λh=>h.elim id λe=>by rw[e];exact m⟩
 ·rw[bp m,iw,gz]
theorem wm(h:Kp.Nodup)(p:Int×Int):(if p∈Kp then Kp else Kp++[p]).Nodup:=by
 by_cases m:p∈Kp
 ·rw[bz m];exact h
 ·rw[bp m,ox];exact fL h (by simp) λa d b c e=>m (by rw[<-gz.mp c,<-e];exact d)
theorem wS(Kp:List (Int×Int))(p:Int×Int):(if p∈Kp then Kp else Kp++[p]).length<=Kp.length+1:=by
 split
 ·lia
 ·simp
structure WrD(P:yB)(w:yD)(G:Hp)(WD DD:zW)(kvs:List (fP×V))(cur:Spt->List Int):Prop where
 nd:A6e P w [true,false] G WD kvs
 at_:∀r,(fN kvs (SN.nkR r)=none/\cur r=[])\/∃l,fN kvs (SN.nkR r)=some (.ref l)/\G l=some (.lst ((cur r).map V.int))
theorem WrD.kt{a:Hp}{kvs:List (fP×V)}{cur:Spt->List Int}(h:WrD P w G WD DD kvs cur)(c:∀o,G WD=some o->a WD=some o)(kt:KT G a)(d:∀l xs,G l=some (.lst xs)->a l=some (.lst xs)):WrD P w a WD DD kvs cur :=⟨h.nd.keeps c kt,λr=>(h.at_ r).imp id λ⟨l,e,b⟩=>(bd l e (d _ _ b))⟩
structure LwR(lk:zJ)(e:Lw)(r:Rw):Prop where
 o:r.own=e.own
 s:r.sums=e.sums
 ok:C6x r
 so:Sz lk e.own r.so
 ss:Sz lk e.sums r.ss
 oks:OkS e.sums
 okn:OkN (e.own++e.sums)
 l8:e.own.length+e.sums.length<=8
 pi:∀p∈e.ps,nr (e.own++e.sums) p
 lp:e.ps.length<=3
def Hl(P:yB)(w:yD):Sp:=λh H Q _=>∃(g e:zW)(d:zM)(b:List Lw)(a:List Rw)(f:zJ)(M:zQ),h=[.ref g,.ref e]/\H g=some (.lst d)/\Paired (C3b M H) d b/\Paired (LwR f) b a/\H e=some (.dK f)/\b.length<=100/\(gj a a.length).length<=300/\
 nS (wrL b) (gj a a.length)/\
 ∀(D:zW)(Kp:List (Int×Int))(c:Hp),H D=none->A0k H c->A6e P w [true,true] c D (duK Kp)->qY (wrL b) (duL b) (gj a a.length) Kp->Q (.ref D) c
structure StL(rws:List Rw)(s:Stp)(r:Rw):Prop where
 pos:0<=s.1
 at_:rws[s.1.toNat]?=some r
 lc:s.2.2.1.length=r.so.length
 lt:s.2.1≠("start":Str)->s.2.2.2.length=r.ss.length
theorem rW{s:Stp}(h:s∈gj rws n):∃r,StL rws s r:=by
 obtain⟨k,_,a⟩:=List.mem_flatMap.mp h;have d:=uU a;unfold lS at a;split at a
 ·rename_i r hr;obtain⟨c,g,b⟩:=List.mem_flatMap.mp a;have f:=(sw b).2;have j:=(sD _ c g).1;refine⟨r,by rw[d];lia,by rw[d,Int.toNat_natCast];exact hr,by rw[f];exact j,λe=>?_⟩;unfold iR at b;split at b
  ·rename_i hz;rw[gz.mp b,hz]
  ·rcases gB.mp b with q|q
   ·rw[q]at e;exact absurd rfl e
   ·obtain⟨u,i,rfl⟩:=gY.mp q;exact(sD _ u i).1
 ·cases a
theorem Hu(T:Txt K mg t):FO P w base T.bv 3 (Hl P w):=by
 refine T.bv.F.ok ni λ_ A _ s H _ Q E hr h=>?_
 ·refine ik h ?_;clear h;rintro rl ld xr d f ⟨lk,M,rfl,e5,d5,e7,j6,k9,f0,i2,k⟩;have hn:=qZ hr;have m3:=Paired.length d5;have m1:=Paired.length e7;refine rsq (eH (fX 2 ni.nd (@hJ _ _ _ _ dV)) (eH (ja (nE rfl T.aO (bm (lM T.aM (fK 0)) dV)) (fR (i:=3) ni.nd) (fm ⟨kc (jY jW PySem.F.slot_list_extend PySem.F.type_list_extend qr (pv 2) (bm (pcl (Hq T) hr T.b9 (bm (pv 3) (bm (iZ jx (pv 0) (pv 3)) (fK 1)))) dV))⟩)) (eH (fX 4 ni.nd (uH (sh:=[true,false]))) (eH (fX 5 ni.nd (uH (sh:=[true,true]))) (eH (ja (nE rfl T.aO (bm (lM T.aM (fK 2)) dV)) (fR (i:=6) ni.nd) (eH (fX 7 ni.nd (iZ jx (pv 0) (iZ rD (iZ jx (pv 2) (pv 6)) fM))) (eH (fX 8 ni.nd (hW (bm (pit 7) (bm (iZ rD (iZ jx (pv 2) (pv 6)) fM) dV)))) (eH (ja (jl (pcl (HB T) hr T.ba (bm (iZ jx (pv 2) (pv 6)) (fK 7)))) (fR (i:=9) ni.nd) (fm (ja (jl (rF PySem.F.slot_dict_get PySem.F.type_dict_get (ui hn) (pv 4) (bm (pv 9) (bm (@hJ _ _ _ _ dV) dV)))) (fR (i:=10) ni.nd) (fm ⟨nC mZ (tY (pv 5) (hW (bm (pv 10) (fK 6))) (uE hn))⟩)))) (nj (gI (iA lA (iZ rD (iZ jx (pv 2) (pv 6)) fM) je) (fm ⟨nC mZ (tY (pv 5) (hW (bm (iZ jx (Co hn (pv 4) (pv 8) (λ_ _=>rfl)) fM) (fK 6))) (uE hn))⟩) ⟨gO⟩) (fm ⟨nC (fQ oG (rF PySem.F.slot_dict_get PySem.F.type_dict_get (ui hn) (pv 4) (bm (pv 8) (bm (@hJ _ _ _ _ dV) dV))) (@hJ _ _ _ _ (fK 6))) (tY (pv 4) (pv 8) (uE hn))⟩)))))) (fm (fU (pv 5)))))))) ?_;refine⟨fT rfl,λSL g8=>?_⟩;obtain⟨H0,s0,h0,I⟩:=nH (o:=.lst []) g8;rw[I];refine fZ _ rfl rl _ rfl (.inl (SqL.of (s0 _ _ e5))) (iU _ rfl (by lia) (by lia) ?_)
  refine nV (n:=xr.length) (λi Z G=>∃(o3:zP)(zs:zM),Z=[Sro rl,Sro ld,Sro SL,o3,none,none,none,none,none,none,none]/\A0k H G/\G SL=some (.lst zs)/\A5m G zs (gj f i))
   (ga none [] rfl s0 h0 .nil) ?_ ?_
  ·rintro i Z G hi C;refine fV C ?_;clear C;rintro o3 zs rfl sG hG a5;have hx:xr[i]?=some xr[i]:=gU hi;have ex:atI xr (0+(i:Int))=some xr[i]:=by rw[Int.zero_add];exact gD hx
   obtain⟨e,he,lw⟩:=ic d5 hx;obtain⟨r,c5,lr⟩:=ic e7 he;have f2:(⟨e.own,e.sums,r.so,r.ss⟩:Rw)=r:=by rw[<-lr.o,<-lr.s]
   have lz:=Paired.length a5
   have lo:(gj f i).length<=300:=by
    have y:gj f f.length=gj f i++((List.range f.length).drop i).flatMap (lS f):=by unfold gj;rw[<-List.flatMap_append];congr 1;have x:=np i (List.range f.length);rw[List.take_range,Nat.min_eq_left (by lia)]at x;exact x.symm
    rw[y,gc]at f0
    lia
   refine jA _ rfl (.inl (gk rfl _ (SqL.of hG))) _ rfl (jJ _ rfl _ rfl rl _ _ _ rfl rfl (SqL.of (sG _ _ e5)) ex (bd _ rfl (jF _ (xr[i]) ld (iS e lk r.so r.ss M rfl (lw.same sG) (sG _ _ j6) (by rw[f2];exact lr.ok) lr.so lr.ss ⟨lr.oks,λD ys G2 hD s2 k7 e8=>?_⟩))));rw[f2,Int.zero_add]at e8;have ly:=Paired.length e8;have ll:=yq (k:=(i:Int)) lr.ok;refine iG SL D _ _ rfl rfl (s2 _ _ hG) k7 (jR (by lia)) ?_;have kt:KT G2 (upd G2 SL (.lst (zs++ys))):=KT.at (s2 _ _ hG) (by intro xs z;cases z);refine ga _ (zs++ys) rfl (gQ (sG.trans s2) g8) dh ?_;rw[vb c5];exact jN ((a5.kt (KT.same s2)).kt kt) (e8.kt kt)
  rintro Z G C;refine fV C ?_;clear C;rintro o3 zs rfl sG hG a5;rw[show xr.length=f.length by lia]at a5;have lz:=Paired.length a5;refine λWD oW d4 b7=>?_;have s1:A0k G (upd G WD oW):=fI d4;have b7:A6e P w [true,false] (upd G WD oW) WD []:=b7;have WDH:H WD=none:=sG.free d4;generalize upd G WD oW=G1 at s1 b7⊢;refine λDD oD c7 b1=>?_;have s2:A0k G1 (upd G1 DD oD):=fI c7;have b1:A6e P w [true,true] (upd G1 DD oD) DD (duK []):=b1;have DDH:H DD=none:=(sG.trans s1).free c7;obtain⟨uW,eW,tW,lW⟩:=mz b7;have WDn:WD≠DD:=gh eW c7;generalize upd G1 DD oD=G2 at s2 b1⊢;have a3:=s1.trans s2;have i9:=sG.trans a3;have f6:=a3 _ _ hG;have i0:=s2 _ _ eW;obtain⟨uD,eD,tD,lD⟩:=mz b1;have SW:SL≠WD:=gh hG d4;have SD:SL≠DD:=gh (s1 _ _ hG) c7;have e3:∀{X:Hp},K2 WD DD G2 X->KT G2 X:=λ{X} kk b ys e=>kk b _ (gN e i0 (λz=>tW _ z.symm)) (gN e eD (λz=>tD _ z.symm)) e;have c3:∀{X:Hp},K2 WD DD G2 X->A0k H X:=λ{X} kk b o e=>kk b o (gh e WDH) (gh e DDH) (i9 _ _ e);have g7:=a5.kt (KT.same a3);refine fZ _ rfl SL _ rfl (.inl (SqL.of f6)) (iU _ rfl (by lia) (by lia) ?_)
  refine nV (n:=zs.length) (λj Z X=>∃(o6 o7 o8 o9 a0:zP)(wk:List (fP×V))(Kp:List (Int×Int)),Z=[Sro rl,Sro ld,Sro SL,o3,Sro WD,Sro DD,o6,o7,o8,o9,a0]/\K2 WD DD G2 X/\WrD P w X WD DD wk (hE (wrL d) ((gj f f.length).take j))/\wk.length<=j/\A6e P w [true,true] X DD (duK Kp)/\qY (wrL d) (duL d) ((gj f f.length).take j) Kp/\Kp.length<=2000*j)
   (ij none none (iS none none none [] [] rfl K2.refl ⟨ka b7 s2,λr=>.inl ⟨rfl,by rw[List.take_zero];rfl⟩⟩ (fH _) b1 ⟨List.nodup_nil,λq=>⟨λh=>(by cases h),λ⟨A,s,B,e,_⟩=>(by rw[List.take_zero]at e;cases A<;>cases e)⟩⟩ (fH _))) ?_ ?_
  ·rintro j Z X hj C;refine ik C ?_;clear C;rintro o6 o7 o8 o9 a0 ⟨wk,Kp,rfl,kk,wd,h7,c4,du,i7⟩;have hv:zs[j]?=some zs[j]:=gU hj;have ez:atI zs (0+(j:Int))=some zs[j]:=by rw[Int.zero_add];exact gD hv
   obtain⟨v,d8,d2⟩:=ic g7 hv;have k4:=gq d8;obtain⟨r,sl⟩:=rW k4;have hk:v.1.toNat<d.length:=by have:=(fY.mp sl.at_).1;lia
   have he:d[v.1.toNat]?=some d[v.1.toNat]:=gU hk;obtain⟨r',c5,lr⟩:=ic e7 he;rw[sl.at_]at c5;cases c5;have hx:xr[v.1.toNat]?=some xr[v.1.toNat]:=gU (by lia);obtain⟨e',c2,lw⟩:=ic d5 hx;rw[he]at c2;injection c2 with c2;subst c2;have ex:atI xr v.1=some xr[v.1.toNat]:=by have:=gD hx;rwa[Int.toNat_of_nonneg sl.pos]at this
   generalize xr[v.1.toNat]=xv at ex lw;generalize zs[j]=zv at ez d2;generalize hee:d[v.1.toNat]=e at he lw lr;refine ik (id lw) ?_;rintro q O S Pl l3 ⟨rfl,hq,_⟩;refine gn (id d2) ?_;rintro b c u rfl hb hc hu;have k0:wrL d v=(e.nm,v.2.2.1):=by unfold wrL;rw[he]
   have k2:duL d v=ke e (toM v):=by unfold duL;rw[he]
   have f3:(gj f f.length).take (j+1)=(gj f f.length).take j++[v]:=by rw[gW,d8];rfl
   have c1:((gj f f.length).take j).length=j:=by rw[jd];lia
   have e0:gj f f.length=(gj f f.length).take j++v::(gj f f.length).drop (j+1):=yd d8;have c8:=λha=>i2 _ v _ e0 ha;generalize (gj f f.length).take j=A at wd du f3 c1 c8;clear e0;rw[f3];obtain⟨l1,l6,m5,l9⟩:=mz c4;have hS:∀{Y:Hp},K2 WD DD G2 Y->Y SL=some (.lst zs):=λkk=>kk _ _ SW SD f6;have e9:∀{Y:Hp},K2 WD DD G2 Y->Y b=some (.tup [.int v.1,.str v.2.1,.ref c,.ref u]):=λkk=>e3 kk _ _ hb;refine bd _ rfl (jJ _ rfl _ rfl SL _ _ _ rfl rfl (SqL.of (hS kk)) ez (hU b _ _ _ rfl rfl (SqT.of (e9 kk)) (gD (j:=0) rfl) (hU rl _ _ _ rfl rfl (SqL.of (c3 kk _ _ e5)) ex ?_)));refine i12 _ rfl q _ _ _ rfl rfl (SqT.of (c3 kk _ _ hq)) (gD (j:=0) rfl) (jJ _ rfl _ rfl SL _ _ _ rfl rfl (SqL.of (hS kk)) ez (iG b _ _ _ rfl rfl (SqT.of (e9 kk)) (gD (j:=2) rfl) (fT rfl) λow j2=>?_));obtain⟨X1,h4,j3,I⟩:=nH (o:=.tup [.str e.nm,.ref c]) j2;rw[I];have c6:=kk.of h4;refine jJ _ rfl _ rfl SL _ _ _ rfl rfl (SqL.of (hS c6)) ez (bd _ rfl (sR _ _ e (toM v) M rfl ((d2.kt (e3 c6)).toM sl.pos) (lw.same (c3 c6)) (λi3=>⟨by show v.2.2.1.length=_;rw[sl.lc];exact lr.so.length.symm,by show v.2.2.2.length=_;rw[sl.lt i3];exact lr.ss.length.symm⟩) lr.l8 lr.okn lr.pi lr.lp λSD' xs X2 l5 a3 a9 f8=>(fJ SD' rfl ⟨_,SqL.of a9⟩ ?_)));have g5:=c6.of a3;have b4:=h4.trans a3;have f7:=ka c4 b4;obtain⟨l4,e4,h9,f4⟩:=mz f7
   have l7:(ke e (toM v)).length<=3:=by
    unfold ke;split
    ·simp
    ·exact jU (rY _ _) lr.lp
   have g6:=Paired.length f8;have SDn:SD'≠DD:=gN a9 e4 (λz=>f4 _ z.symm);have b2:∀{Y:Hp},KB DD X2 Y->KT X2 Y:=λR=>R.kt e4 h9;have d9:∀{Y:Hp},KB DD X2 Y->WrD P w Y WD DD wk (hE (wrL d) A):=λ{Y} R=>wd.kt (λo e=>R _ _ WDn (b4 _ _ e)) ((KT.same b4).trans (b2 R)) λl ys e=>R _ _ (gN (b4 _ _ e) e4 (λz=>f4 _ z.symm)) (b4 _ _ e)
   have g4:∀r,(hE (wrL d) A r).length<=j:=λr=>by unfold hE;rw[eA];exact jU (List.length_filter_le _ _) (by rw[List.length_zipIdx];lia)
   refine kH (K:=K) (a:=SD') (xs:=xs) (λn Z Y=>∃(o9 a0:zP)(Kp':List (Int×Int)),Z=[Sro rl,Sro ld,Sro SL,o3,Sro WD,Sro DD,Sio (0+(j:Int)),Sro q,Sro ow,o9,a0]/\KB DD X2 Y/\A6e P w [true,true] Y DD (duK Kp')/\Kp'.Nodup/\(∀p,p∈Kp'↔p∈Kp\/(p.2=(j:Int)/\∃r∈(ke e (toM v)).take n,p.1∈hE (wrL d) A r))/\Kp'.length<=Kp.length+400*n)
    (mR o9 a0 Kp rfl KB.refl f7 du.nd (λp=>⟨.inl,λh=>h.elim id λ⟨_,r,hr,_⟩=>(by cases hr)⟩) (fH _)) (λn Z Y _ zq=>by obtain⟨_,_,_,_,R,_⟩:=zq;exact SqL.of (R _ _ SDn a9)) ?_ ?_
   ·rintro n xv Z Y g0 C;refine gn C ?_;clear C;rintro g3 a7 K1 rfl R c0 ⟨a4,N,b5⟩;obtain⟨J,g9,tr⟩:=ic f8 g0;refine fO tr ?_;clear tr;rintro sb sc rfl i8 j8;have d6:=(fY.mp g0).1;have a6:=d9 R;have na:A2m Y (SN.nkR J) sb:=va (ks:=J.2.map Sum.inl) (b2 R _ _ i8) (by rw[b2 R _ _ j8,List.map_map];rfl);refine jA _ rfl (iC WD _ _ rfl a6.nd) _ rfl ⟨fT rfl,λel a8=>?_⟩;obtain⟨Y1,se,b8,I⟩:=nH (o:=.lst []) a8;have m2:el≠DD:=λz=>by obtain⟨_,g,_⟩:=mz c0;rw[z,g]at a8;cases a8
    rw[I];refine iu WD sb _ wk (SN.nkR J) _ _ (fL rfl ⟨rfl,rfl,ka a6.nd se,na.keeps (λb xs e=>se _ _ e),rfl⟩ ?_)
    obtain⟨L,e1,hl0⟩:∃L,(fN wk (SN.nkR J)).getD (.ref el)=.ref L/\Y1 L=some (.lst ((hE (wrL d) A J).map V.int)):=by
     rcases a6.at_ J with ⟨y,x⟩|⟨L,y,h3⟩
     ·exact bd el (by rw[y];rfl) (by rw[x];exact b8)
     ·exact bd L (by rw[y];rfl) (se _ _ h3)
    rw[e1];have d1:=ka c0 se;obtain⟨l2,k5,m0,j0⟩:=mz d1;have h6:L≠DD:=gN hl0 k5 (λz=>j0 _ z.symm);have i5:=g4 J;refine fJ L rfl ⟨_,SqL.of hl0⟩ ?_
    refine kH (K:=K) (a:=L) (xs:=(hE (wrL d) A J).map V.int) (λm Z Zz=>∃(a0:zP)(Kp':List (Int×Int)),Z=[Sro rl,Sro ld,Sro SL,o3,Sro WD,Sro DD,Sio (0+(j:Int)),Sro q,Sro ow,Sro sb,a0]/\KB DD Y1 Zz/\A6e P w [true,true] Zz DD (duK Kp')/\Kp'.Nodup/\(∀p,p∈Kp'↔p∈K1\/(p.2=(j:Int)/\p.1∈(hE (wrL d) A J).take m))/\Kp'.length<=K1.length+m)
     (jz a7 K1 rfl KB.refl d1 a4 (λp=>⟨.inl,λh=>h.elim id λ⟨_,h⟩=>(by cases h)⟩) (fH _)) (λm Z Zz _ zq=>by obtain⟨_,_,_,kz,_⟩:=zq;exact SqL.of (kz _ _ h6 hl0)) ?_ ?_
    ·rintro m iv Z Zz i6 C;refine fV C ?_;clear C;rintro d3 K2' rfl kz b0 ⟨b3,U,c9⟩;obtain⟨ii,f5,rfl⟩:=jZ i6;have hm:=(fY.mp f5).1;refine bd _ rfl (iB _ rfl _ rfl (fT rfl) λpu d7=>?_);have a2:A0k Zz (upd Zz pu (.tup [.int ii,.int (0+(j:Int))])):=fI d7;have b6:upd Zz pu (.tup [.int ii,.int (0+(j:Int))]) pu=some (.tup [.int ii,.int (0+(j:Int))]):=dh;generalize upd Zz pu (.tup [.int ii,.int (0+(j:Int))])=Z1 at a2 b6⊢;have j5:(duK K2').length=K2'.length:=by unfold duK;rw[eA]
     refine ij DD pu (iM _ _ (pk (ii,0+(j:Int))) ⟨rfl,rfl,ka b0 a2,tI b6,rfl⟩ (gJ (by lia)) λo a1=>?_);rw[wH,Int.zero_add]at a1;refine jz _ _ rfl ((kz.trans (KB.of a2)).upd) a1 (wm b3 _) (λp=>?_) ?_
     ·rw[wR,U,gW,f5,jt,iw,gz,or_assoc];refine or_congr Iff.rfl ⟨λh=>?_,λ⟨y,x⟩=>x.imp (λz=>⟨y,z⟩) λz=>Prod.ext z y⟩;rcases h with ⟨y,x⟩|rfl
      ·exact⟨y,.inl x⟩
      ·exact⟨rfl,.inr rfl⟩
     ·have:=wS K2' (ii,(j:Int));lia
    ·rintro Z Zz C;refine fV C ?_;clear C;rintro d3 K2' rfl kz b0 ⟨b3,U,c9⟩;rw[eA]at U c9;rw[hZ]at U;refine mR _ _ K2' rfl ((R.trans (KB.of se)).trans kz) b0 b3 (λp=>?_) (by lia);rw[U,N,or_assoc,gW,g9,jt];refine or_congr Iff.rfl ⟨λh=>?_,λ⟨y,r,hr,x⟩=>?_⟩
     ·rcases h with ⟨y,r,hr,x⟩|⟨y,x⟩
      ·exact gT y r (lL _ hr) x
      ·exact gT y J (lj _ (gz.mpr rfl)) x
     ·rcases iw.mp hr with z|z
      ·exact .inl (gT y r z x)
      ·rw[gz.mp z]at x;exact .inr ⟨y,x⟩
   rintro Z Y C;refine gn C ?_;clear C;rintro g3 a7 K1 rfl R c0 ⟨a4,N,b5⟩;rw[g6,hZ]at N;rw[<-k2]at N;rw[g6]at b5;have b5:K1.length<=2000*j+1200:=by lia
   have e6:K2 WD DD G2 Y:=λb o y x e=>R _ _ x (g5 b o y x e);have a6:=d9 R
   have e2:∀{Zz:Hp},KT X2 Zz->A2m Zz (SN.nkR (wrL d v)) ow:=λ{Zz} kt=>by rw[k0];exact va (ks:=v.2.2.1.map Sum.inl) (kt _ _ (a3 _ _ j3)) (by rw[kt _ _ (e3 g5 _ _ hc),List.map_map];rfl)
   have d0:∀{Zz:Hp},KB DD Y Zz->KT X2 Zz:=λkz=>b2 (R.trans kz);have j9:∀{Zz:Hp},KB DD Y Zz->K2 WD DD G2 Zz:=λ{Zz} kz b o y x e=>kz _ _ x (e6 b o y x e);have j4:∀{Zz:Hp},KB DD Y Zz->WrD P w Zz WD DD wk (hE (wrL d) A):=λkz=>d9 (R.trans kz);refine bd (λZ Zz=>∃(K3:List (Int×Int)),Z=[Sro rl,Sro ld,Sro SL,o3,Sro WD,Sro DD,Sio (0+(j:Int)),Sro q,Sro ow,g3,a7]/\KB DD Y Zz/\A6e P w [true,true] Zz DD (duK K3)/\qY (wrL d) (duL d) (A++[v]) K3/\K3.length<=2000*(j+1)) ?_ ?_
   ·refine jJ _ rfl _ rfl SL _ _ _ rfl rfl (SqL.of (hS e6)) ez (hU b _ _ _ rfl rfl (SqT.of (e9 e6)) (gD (j:=1) rfl) (gT rfl _ rfl (iP (λhw=>?_) (λhw=>?_))))
    ·have ha:v.2.1=("add":Str):=by injection hw
     obtain⟨hd,_,hh⟩:=c8 ha
     obtain⟨L,e1,hl0⟩:∃L,fN wk (SN.nkR (wrL d v))=some (.ref L)/\Y L=some (.lst ((hE (wrL d) A (wrL d v)).map V.int)):=by
      rcases a6.at_ (wrL d v)with ⟨_,x⟩|h
      ·rw[x]at hh;cases hh
      ·exact h
     have k1:((hE (wrL d) A (wrL d v)).map V.int)[0]?=some (.int hd):=by rw[<-List.head?_eq_getElem?,List.head?_map,hh];rfl
     refine bd _ rfl (ma _ rfl _ rfl WD ow _ (iM wk _ _ ⟨rfl,rfl,a6.nd,e2 (b2 R),rfl⟩ e1 (hU L _ _ _ rfl rfl (SqL.of hl0) (gD (j:=0) k1) (fJ _ rfl (fT rfl) λpu d7=>?_))));have a2:A0k Y (upd Y pu (.tup [.int hd,.int (0+(j:Int))])):=fI d7;have b6:upd Y pu (.tup [.int hd,.int (0+(j:Int))]) pu=some (.tup [.int hd,.int (0+(j:Int))]):=dh;generalize upd Y pu (.tup [.int hd,.int (0+(j:Int))])=Z1 at a2 b6⊢;have j5:(duK K1).length=K1.length:=by unfold duK;rw[eA]
     refine ij DD pu (iM _ _ (pk (hd,0+(j:Int))) ⟨rfl,rfl,ka c0 a2,tI b6,rfl⟩ (gJ (by lia)) λo a1=>?_);rw[wH,Int.zero_add]at a1;refine⟨_,(iV rfl ((KB.of a2).upd) a1 ⟨wm a4 _,λp=>?_⟩ ?_)⟩
     ·rw[wR,N,xX,du.iff,or_assoc];unfold qI;rw[c1];refine or_congr Iff.rfl ⟨λh=>?_,λ⟨y,x⟩=>x.imp (λz=>⟨y,z⟩) λ⟨_,z⟩=>?_⟩
      ·rcases h with ⟨y,x⟩|rfl
       ·exact⟨y,.inl x⟩
       ·exact⟨rfl,.inr ⟨ha,hh⟩⟩
      ·rw[hh]at z;exact Prod.ext (iO z).symm y
     ·have:=wS K1 (hd,(j:Int));lia
    ·have ha:v.2.1≠("add":Str):=λz=>hw (by rw[z]);refine⟨K1,(iV rfl KB.refl c0 ⟨a4,λp=>?_⟩ (by lia))⟩;rw[N,xX,du.iff];unfold qI;rw[c1];exact or_congr Iff.rfl ⟨λ⟨y,x⟩=>⟨y,.inl x⟩,λ⟨y,x⟩=>⟨y,x.resolve_right λz=>ha z.1⟩⟩
   ·rintro Z Zz C;refine iD C ?_;clear C;rintro K3 rfl kz ⟨b0,j7,f1⟩;have W:=j4 kz;refine jA _ rfl (iC WD _ _ rfl W.nd) _ rfl ⟨fT rfl,λel a8=>?_⟩;obtain⟨Z1,se,b8,I⟩:=nH (o:=.lst []) a8;rw[I];refine iu WD ow _ wk _ _ _ (fL rfl ⟨rfl,rfl,ka W.nd se,(e2 (d0 kz)).keeps (λb xs e=>se _ _ e),rfl⟩ ?_)
    obtain⟨L,e1,hl0⟩:∃L,(fN wk (SN.nkR (wrL d v))).getD (.ref el)=.ref L/\Z1 L=some (.lst ((hE (wrL d) A (wrL d v)).map V.int)):=by
     rcases W.at_ (wrL d v)with ⟨y,x⟩|⟨L,y,h3⟩
     ·exact bd el (by rw[y];rfl) (by rw[x];exact b8)
     ·exact bd L (by rw[y];rfl) (se _ _ h3)
    rw[e1];have i5:=g4 (wrL d v);refine fJ _ rfl (fT rfl) λfl h8=>?_;obtain⟨Z2,sf,j1,I⟩:=nH (o:=.lst [.int (0+(j:Int))]) h8;rw[I];refine iG L fl _ _ rfl rfl (sf _ _ hl0) j1 (jR (by rw[eA,lK];lia)) λnl k3=>?_;obtain⟨Z3,sn,d6,I⟩:=nH (o:=.lst ((hE (wrL d) A (wrL d v)).map V.int++[.int (0+(j:Int))])) k3;rw[I];have s3:=(se.trans sf).trans sn;have h5:=ka W.nd s3;obtain⟨m4,f9,k6,i4⟩:=mz h5;refine ma _ rfl _ rfl WD ow _ (fC wk _ ⟨rfl,rfl,h5,(e2 (d0 kz)).keeps (λb xs e=>s3 _ _ e),rfl⟩ (gJ (by lia)) λo a1=>?_);have nW:∀{l:zW}{ys:zM},Z3 l=some (.lst ys)->l≠WD:=λh=>gN h f9 (λz=>i4 _ z.symm);have i1:KT Z3 (upd Z3 WD o):=λb ys z=>by rw[eh (gN z f9 (λq=>k6 _ q.symm))];exact z
    have k8:=og wk (SN.nkR (wrL d v)) (V.ref nl);refine ij _ _ (iS _ _ _ (gr wk (SN.nkR (wrL d v)) (.ref nl)) K3 rfl (((j9 kz).of s3).at1) ⟨a1,λr=>?_⟩ (by lia) ((ka b0 s3).keeps (λo' e'=>by rw[eh WDn.symm];exact e') i1) j7 f1);rw[lE,nU];by_cases er:wrL d v=r
    ·rw[bz (by rw[er]),bz er];refine .inr (bd nl rfl ?_);rw[eh (nW d6),d6,er,c1,gy,Int.zero_add];rfl
    ·rw[bp λz=>er (SN.nkR_inj z).symm,bp er,kQ];refine(W.at_ r).imp id λ⟨l,g1,g2⟩=>(bd l g1 ?_);rw[eh (nW (s3 _ _ g2))];exact s3 _ _ g2
  ·rintro Z X C;refine ik C ?_;clear C;rintro o6 o7 o8 o9 a0 ⟨wk,Kp,rfl,kk,wd,h7,c4,du,i7⟩;rw[lz,hZ]at du;exact bd _ rfl (k DD Kp X DDH (c3 kk) c4 du)
theorem tK{α:Type}[DecidableEq α]:∀{a b:List α},a.Nodup->(∀x∈a,x∈b)->a.length<=b.length
 | [],_,_,_=>jj _
 |x::a,b,h,hs=>by
  have d:=hs x jG;rw[ou]at h;have e:=tK (b:=b.erase x) h.2 λy c=>(List.mem_erase_of_ne (λz=>h.1 (by rw[<-z];exact c))).mpr (hs y (jD _ c));rw[List.length_erase_of_mem d]at e;have:=List.length_pos_of_mem d;rw[gZ]
  lia
def HU(P:yB)(w:yD):Sp:=λc H Q _=>∃(fl D:zW)(a:zM)(N Kp:List (Int×Int)),c=[.ref fl,.ref D]/\H fl=some (.lst a)/\B1x H a N/\tF N/\A6e P w [true,true] H D (duK Kp)/\(∀p∈N,p∈Kp/\0<=p.1)/\N.length=Kp.length/\
 ∀b,A0k H b->Q (.bl true) b
theorem Au(T:Txt K mg t):FO P w base T.aC 2 (HU P w):=by
 refine T.aC.F.ok sO λ_ A _ s H _ Q E B h=>?_
 ·refine kO h ?_;clear h;rintro fl D ys N Kp rfl d prs I U ⟨r,J,k⟩;have Y:=qZ B;have ly:=Paired.length prs;have M:(duK Kp).length=Kp.length:=by unfold duK;rw[eA]
  refine rsq (eH (gI (PW.pt (pT (qb (jP (jy kJ (by rfl) T.a5 kr (bm (pv 0) (bm (kG (v:=V.ty "list") rfl T.bn nq rfl) dV))))) (qe (iA pY (lM T.aM (fK 0)) (jy E7 (by rfl) T.aM qG (fK 1)))))) (fm (fU mZ)) ⟨gO⟩) (eH (fX 2 sO.nd (hW (bm (re rC fM) (bm (re rC fM) dV)))) (eH (ja (jl (pv 0)) (fR (i:=3) sO.nd) (eH (gI (PW.pt (pT (qb (jP (jy kJ (by rfl) T.a5 kr (bm (pv 3) (bm (kG (v:=V.ty "tuple") rfl T.aq mI rfl) dV))))) (qe (iA pY (lM T.aM (fK 3)) fM)))) (fm (fU mZ)) ⟨gO⟩) (eH (gI (PW.pt (pT (qb (jP (pcl (zh T) B T.bP (bm (pit 3) dV)))) (qe (qb (jP (pcl (zh T) B T.bP (bm (pit 3) dV))))))) (fm (fU mZ)) ⟨gO⟩) (eH (gI (PW.pt (pT (iA (EU Y) (pv 3) (pv 1) (by with_unfolding_all rfl)) (qe (iA (CL B.units0) (pv 3) (pv 2))))) (fm (fU mZ)) ⟨gO⟩) (fm (fX 2 sO.nd (pv 3))))))) (fm (fU mZ))))) ?_;refine iT _ rfl _ _ _ _ rfl (.lst d) (oN "list") true rfl (iz ?_);refine fZ _ rfl fl _ rfl (.inl (SqL.of d)) (bd _ rfl (iC D _ _ rfl (iK U rfl _ rfl (vR (by rw[M,ly,J]) ?_))));refine iB _ rfl _ rfl (fT rfl) λlb L=>?_;obtain⟨R,n,h0,C⟩:=nH (o:=.tup [.int (-1),.int (-1)]) L;rw[C];refine iB _ rfl fl rfl ⟨_,SqL.of (n _ _ d)⟩ ?_
  refine kH (K:=K) (a:=fl) (xs:=ys) (λi Z G=>∃(O:zP)(g:zW)(c:Int×Int),Z=[Sro fl,Sro D,Sro g,O]/\G=R/\R g=some (.tup [.int c.1,.int c.2])/\∀p∈N.drop i,gM (prL c) (prL p)=true)
   (gE none lb (-1,-1) rfl rfl h0 λp l=>?_) (λi Z G _ zq=>by obtain⟨_,_,_,_,z,_⟩:=zq;exact by rw[z];exact SqL.of (n _ _ d)) ?_ ?_
  ·have:=(r p (by simpa using l)).2;show gM [-1,-1] [p.1,p.2]=true;unfold gM;have:(-1:Int)<p.1:=by lia
   simp[this];exact .inl (by lia)
  ·rintro i v Z G hv m;refine gn m ?_;clear m;rintro O g c rfl rfl f u;obtain⟨p,l,e,rfl,b⟩:=ic prs hv;have b:=n _ _ b;have mp:=r p (gq l);have hi:=(fY.mp l).1
   have S:N.drop i=p::N.drop (i+1):=by obtain⟨h1,h2⟩:=fY.mp l;rw[sW h1,h2]
   have lx:=u p (by rw[S];exact jG);have b1:(!(fN (duK Kp) (pk p)).isSome)=false:=by rw[BO,iY mp.1];rfl
   have X:(! gM [c.1,c.2] [p.1,p.2])=false:=by have:gM [c.1,c.2] [p.1,p.2]=true:=lx;rw[this];rfl
   refine iT _ rfl _ _ _ _ rfl (.tup b) (oN "tuple") true rfl (iz ?_);refine fZ _ rfl e _ rfl (.inr (SqT.of b)) (gT rfl _ rfl (vR rfl ?_));refine i12 _ rfl e _ _ _ rfl rfl (SqT.of b) (gD (j:=0) rfl) (iJ _ rfl true rfl (iz ?_));refine i12 _ rfl e _ _ _ rfl rfl (SqT.of b) (gD (j:=1) rfl) (iJ _ rfl true rfl (iz ?_));refine ma _ rfl _ rfl D e _ ⟨_,(iJ (pk p) ⟨rfl,rfl,ka U n,tI b,rfl⟩ false (congrArg V.bl b1) (iz ?_))⟩;refine jJ _ rfl _ rfl e g [p.1,p.2] [c.1,c.2] rfl rfl b f (bd false (congrArg V.bl X) (iz ?_));refine bd _ rfl (gE _ e p rfl rfl b λq hq=>?_);have W:(N.drop i).Pairwise λx y=>gM (prL x) (prL y)=true:=List.Pairwise.sublist (List.drop_sublist i N) I;rw[S,List.pairwise_cons]at W;exact W.1 q hq
  ·rintro Z G m;refine gn m ?_;clear m;rintro O g c rfl rfl f u;exact k _ n
theorem sj(ls:zI):(∀n∈ls,1<=n)->(prN ls:Int)=iI ls:=by refine rS (P:=λls=>(∀n∈ls,1<=n)->(prN ls:Int)=iI ls) (λ_=>rfl) (λls n a h=>?_) ls;have c:1<=n:=h n (by simp);rw[uB,zf,<-a λm b=>h m (by simp[b]),Int.natCast_mul,Int.toNat_of_nonneg (by lia)]
theorem BX{e:Lw}(lo:oy lk axs e)(u:e.wo<=36)(c:OkN axs):∃r,LwR lk e r/\e.wo=((prN r.so*prN r.ss:Nat):Int):=by
 refine fV lo.sz ?_;rintro so ss j k g ⟨f,d⟩;have q:=lo.l4;have i:=rH (ls:=so) λn a=>(g n a).1;have h:=rH (ls:=ss) λn a=>(f n a).1;have t:prN so*prN ss<=36:=by lia
 have v:prN so<=prN so*prN ss:=Nat.le_mul_of_pos_right _ h;have z:prN ss<=prN so*prN ss:=Nat.le_mul_of_pos_left _ i;have w:=sj so λn a=>(g n a).1;have s:=sj ss λn a=>(f n a).1;have p:=Paired.length j;have m:=Paired.length k;have b:OkN (e.own++e.sums):=λy o=>c y (lo.sub y o);exact bd ⟨e.own,e.sums,so,ss⟩ ⟨rfl,rfl,⟨⟨g,by show so.length<=8;lia,by show iI so<=4000;lia⟩,⟨f,by show ss.length<=8;lia,by show iI ss<=4000;lia⟩,by show iI so<=60;lia,by show iI ss<=60;lia,p,m⟩,j,k,λx l=>(b x (lj _ l)).1,b,by lia,lo.ps,lo.lp⟩ d
theorem xn{lk:zJ}{axs:zC}(a:OkN axs):∀{lws:List Lw},(∀e∈lws,oy lk axs e/\e.wo<=36)->∃rws,Paired (λe r=>LwR lk e r/\e.wo=((prN r.so*prN r.ss:Nat):Int)) lws rws| [],_=>⟨[],.nil⟩|e::t,h=>by obtain⟨rws,p⟩:=xn a λx b=>h x (jD _ b);obtain⟨r,q⟩:=BX (h e jG).1 (h e jG).2 a;exact⟨r::rws,.cons q p⟩
theorem Ef{k:Int}{r:Rw}(b:C6x r):(oR k r).length<=2*(prN r.so*prN r.ss):=by
 have g:=(oi r.so λn a=>(b.go.pos n a).1).1;have h:=(oi r.ss λn a=>(b.gs.pos n a).1).1;rw[<-sj _ λn a=>(b.go.pos n a).1]at g;rw[<-sj _ λn a=>(b.gs.pos n a).1]at h;have i:=rH (ls:=r.ss) λn a=>(b.gs.pos n a).1
 have d:=pE (l:=gu r.so) (f:=iR k r.ss) (B:=2*prN r.ss) λc _=>by
  unfold iR;split
  ·rw[lK];lia
  ·rw[gZ,eA];lia
 have e:(gu r.so).length=prN r.so:=by lia
 rw[e]at d;show((gu r.so).flatMap (iR k r.ss)).length<=_;rw[Nat.mul_left_comm]at d;exact d
theorem yW{lk:zJ}{lws:List Lw}{rws:List Rw}(p:Paired (λe r=>LwR lk e r/\e.wo=((prN r.so*prN r.ss:Nat):Int)) lws rws):∀n,n<=rws.length->((gj rws n).length:Int)<=2*((lws.take n).map (·.wo)).sum
 |0,_=>by simp[gj]
 |n+1,h=>by
  have g:=yW p n (by lia);have l:=Paired.length p;have a:lws[n]?=some lws[n]:=gU (by lia);obtain⟨r,d,b,f⟩:=ic p a;rw[vb d,gc,gW,a,jt,gy,List.sum_append];have i:=Ef (k:=n) b.ok;show((_:Nat):Int)<=2*(_+([lws[n]].map (·.wo)).sum);have c:([lws[n]].map (·.wo)).sum=lws[n].wo:=by simp
  rw[c,f]
  lia
def pO(l:LnM)(e:Lw):Prop:=l.nm=e.nm/\l.own=e.own/\l.sums=e.sums/\TmR (e.own++e.sums) l.tm 10 e.ps
theorem AU(p:Paired pO lns lws):wrS lns=wrL lws:=by
 funext s;unfold wrS wrL;have l:=Paired.length p;by_cases h:s.1.toNat<lns.length
 ·have a:lns[s.1.toNat]?=some lns[s.1.toNat]:=gU h;obtain⟨e,b,c⟩:=ic p a;rw[a,b];show(_,_)=(_,_);rw[c.1]
 ·rw[List.getElem?_eq_none (by lia),List.getElem?_eq_none (by lia)]
theorem Ew{f g:zR}{p:Pc}(h:nr BD p)(e:∀x∈BD,f x=g x):rdP f p=rdP g p:=by
 have c:kR f p.gs=kR g p.gs:=by
  unfold kR;rw[Bool.eq_iff_iff,List.all_eq_true,List.all_eq_true];refine⟨λa x b=>?_,λa x b=>?_⟩
  ·have:=of_decide_eq_true (a x b);refine iY ?_;show x.2.1<=g x.1/\g x.1<x.2.2;rw[<-e _ (h.gs x b)];exact this
  ·have:=of_decide_eq_true (a x b);refine iY ?_;show x.2.1<=f x.1/\f x.1<x.2.2;rw[e _ (h.gs x b)];exact this
 have d:iQ f p.ix=iQ g p.ix:=by
  unfold iQ;refine List.map_congr_left λx b=>?_;by_cases hz:x.1=("":Str)
  ·rw[bz hz,bz hz]
  ·rw[bp hz,bp hz,e _ ((h.ix x b).resolve_left hz)]
 unfold rdP;rw[c,d]
theorem zl{α β:Type}{f g:α->List β}:∀{l:List α},(∀x∈l,f x=g x)->l.flatMap f=l.flatMap g| [],_=>rfl|x::r,h=>by rw[List.flatMap_cons,List.flatMap_cons,h x (.head _),zl λy a=>h y (.tail _ a)]
theorem xo{e:Lw}:(ke e s).length<=e.ps.length:=by
 unfold ke;split
 ·exact jj _
 ·exact rY _ _
theorem yi{e:Lw}{l:LnM}(lo:oy lk axs e)(o:pO l e)(i:s.ce.length=e.own.length)(lt:s.tu.length=e.sums.length)(q:mJ lk axs)(r:s.wd≠"start"):pV lk l s/\rd (ai lk) l.tm (ai (atM l s))=ke e s:=by
 obtain⟨_,g,d,c⟩:=o
 have b:∀x∈e.own++e.sums,ai (atM l s) x=ai (atW e.own e.sums s) x/\fN (atM l s) (Sum.inr x)=some (.int (ai (atM l s) x)):=λx a=>by have:=CS (s:=s) i lt a;unfold atM;rw[g,d];exact this
 have h:rd (ai lk) l.tm (ai (atM l s))=ke e s:=by rw[c.rds];unfold ke;rw[bp r];exact zl λp m=>Ew (lo.ps p m) λx a=>(b x a).1
 have t:=lo.l4;refine⟨⟨by rw[g];exact i,by rw[d];exact lt,by rw[g,d];lia,c.gd,c.dp,λx a=>(b x (c.fv x a)).2,(bd (e.own++e.sums) c.ax λx a=>?_),?_⟩,h⟩
 ·obtain⟨n,j,k,f⟩:=q x (lo.sub x a);have:=ro j;rw[this];exact fL j k f
 ·rw[h];have:=xo (e:=e) (s:=s);have:=lo.lp
  lia
theorem xE:∀{a acc:zJ}{k:Key}{v:V},(a.map (·.1)).Nodup->(k,v)∈a->fN (hV acc a) k=some v
 | [],_,_,_,_,h=>by cases h
 |w::r,acc,k,v,nd,h=>by
  rw[gA,ou]at nd;show fN (hV (gr acc w.1 w.2) r) k=some v;rcases gB.mp h with q|q
  ·subst q;rw[uN nd.1,lE,bz rfl]
  ·exact xE nd.2 q
theorem BN{own:zC}(h1:s.ce.length=own.length)(h2:s.tu.length=sums.length)(f:(own++sums).Nodup){k:Nat}{y:Str}{c:Int}(d:own[k]?=some y)(g:s.ce[k]?=some c):ai (atW own sums s) y=c:=by
 refine ro ?_;unfold atW;refine xE ?_ ?_
 ·rw[rQ h1 h2];exact sH (λa b e=>by injection e) f
 ·unfold prs;have h:=(fY.mp d).1;refine gq (i:=k) ?_;rw[oV];refine⟨?_,?_⟩
  ·rw[ju,mG h,d];rfl
  ·rw[ju,mG (by lia),g];rfl
theorem Cq{e:Lw}(lo:oy lk axs e)(a:OkN axs)(g:s.ce.length=e.own.length)(lt:s.wd≠"start"->s.tu.length=e.sums.length):(e.nm,s.ce)∉ke e s:=by
 intro m;unfold ke at m;split at m
 ·cases m
 ·rename_i hw;have lt:=lt hw;obtain⟨p,f,m⟩:=List.mem_flatMap.mp m;unfold rdP at m;split at m
  ·have m:=gz.mp m;injection m with m1 m2;refine jK (lo.po p f m1.symm) λk y z h c l=>?_
   have n:=(fY.mp c).1;have d:s.ce[k]?=some (s.ce[k]'(by lia)):=gU _;have i:=BN g lt lo.nd c d
   have j:y≠("":Str):=λz=>by have:=(a y (lo.sub y (lL _ (gq c)))).2;rw[z]at this;exact absurd this (by decide+kernel)
   have b:(iQ (ai (atW e.own e.sums s)) p.ix)[k]?=some (ai (atW e.own e.sums s) y+z):=by unfold iQ;rw[ju,h];show some (if y=("":Str)then _ else _)=_;rw[bp j]
   rw[<-m2,d,i]at b;injection b with b
   lia
  ·cases m
structure wg(lk:zJ)(lns:List LnM)(lws:List Lw)(s:Stp):Prop where
 ok:rj lk lns s
 eq:rdS lk lns s=duL lws s
 own:s.2.1=("add":Str)->wrS lns s∉rdS lk lns s
theorem link(d:Paired pO lns lws)(j:∀e∈lws,oy lk axs e)(w:Paired (LwR lk) lws rws)(i:OkN axs)(v:mJ lk axs){s:Stp}(x:s∈gj rws rws.length):wg lk lns lws s:=by
 obtain⟨r,f⟩:=rW x;have A:=Paired.length w;have z:=Paired.length d;have B:=(fY.mp f.at_).1;have b:lns[s.1.toNat]?=some (lns[s.1.toNat]'(by lia)):=gU _;generalize lns[s.1.toNat]'(by lia)=l at b;obtain⟨e,p,k⟩:=ic d b;obtain⟨y,c,u⟩:=ic w p;rw[f.at_]at c;cases c;have g:=j e (gq p);have q:(toM s).ce.length=e.own.length:=f.lc.trans (Paired.length u.so).symm;have t:(toM s).wd≠"start"->(toM s).tu.length=e.sums.length:=λh=>(f.lt h).trans (Paired.length u.ss).symm;have o:duL lws s=ke e (toM s):=by unfold duL;rw[p]
 have n:rdS lk lns s=duL lws s:=by
  rw[o];unfold rdS;by_cases a:s.2.1="start"
  ·rw[bz a];unfold ke;have m:(toM s).wd="start":=a;rw[bz m]
  ·rw[bp a,b];exact(yi g k q (t a) v a).2
 refine⟨⟨f.pos,(bd l b λa=>(yi g k q (t a) v a).1),?_⟩,n,λ_=>?_⟩
 ·rw[n,o];have:=xo (e:=e) (s:=toM s);have:=g.lp
  lia
 ·rw[n,o]
  have:wrS lns s=(e.nm,(toM s).ce):=by unfold wrS;rw[b];show(l.nm,_)=_;rw[k.1];rfl
  rw[this];exact Cq g i q t
theorem Dj(n:Paired (LwR lk) lws rws)(a:∀(i j:Nat)(e l:Lw),lws[i]?=some e->lws[j]?=some l->e.nm=l.nm->i=j):nS (wrL lws) (gj rws rws.length):=by
 have t:=Paired.length n;refine GI (λx o y p h=>?_) (λx y b c=>?_)
 ·obtain⟨r,d⟩:=rW o;obtain⟨s,g⟩:=rW p;have m:=(fY.mp d.at_).1;have q:=(fY.mp g.at_).1;have k:lws[x.1.toNat]?=some (lws[x.1.toNat]'(by lia)):=gU _;have f:lws[y.1.toNat]?=some (lws[y.1.toNat]'(by lia)):=gU _;unfold wrL at h;rw[k,f]at h;injection h with b c;have:=a _ _ _ _ k f b;have:=d.pos;have:=g.pos;exact⟨by lia,c⟩
 ·unfold wrL;rw[b,c]
theorem yK{rd:Stp->List Spt}(h:∀s∈L,rd s=rd' s)(p:Int×Int):NdS wr rd L p->NdS wr rd' L p:=by refine λa=>jK a λA s B e c b=>?_;clear a;refine iM A s B e c ?_;rw[<-h s (by rw[e];simp)];exact b
theorem Cl{rd:Stp->List Spt}{p:Int×Int}(h:NdS wr rd L p):0<=p.1:=by
 refine jK h λA s B e c a=>?_;clear h
 have:∀r,p.1∈hE wr A r->0<=p.1:=λr b=>by
  obtain⟨n,_,e,_⟩:=(pH A r p.1).mp b
  lia
 rcases a with ⟨r,_,a⟩|⟨_,a⟩
 ·exact this r a
 ·exact this _ (xB a)
theorem zp{a:Stp->Spt}{rd:Stp->List Spt}(d:D4f wr rd L N)(e:qY a rd' L Kp)(g:wr=a)(f:∀s∈L,rd s=rd' s)(st:nS a L):(∀p∈N,p∈Kp/\0<=p.1)/\N.length=Kp.length:=by
 subst g
 have b:∀p,p∈N↔p∈Kp:=λp=>by rw[d.iff,e.iff,Db st];exact⟨yK f p,yK (λs h=>(f s h).symm) p⟩
 refine⟨λp c=>⟨(b p).mp c,Cl ((d.iff p).mp c)⟩,?_⟩;have i:=tK d.nd λp c=>(b p).mp c;have j:=tK e.nd λp c=>(b p).mpr c
 lia
theorem xh(l:oJ A M H xs lns)(b:Paired pO lns lws)(d:Paired (LwR lk) lws rws):tT A M H xs rws:=by
 induction l generalizing lws rws with
 |nil=>cases b;cases d;exact .nil
 |cons h t ih=>
  cases b with
  |cons g b=>
   cases d with
   |cons f d=>
    refine kO h ?_;clear h;rintro a j c u n rfl m p i k ⟨e,_⟩;refine .cons ⟨a,(kN j c u n _ rfl m p ?_ k ?_)⟩ (ih b d)
    ·rw[f.o,<-g.2.1];exact i
    ·rw[f.s,<-g.2.2.1];exact e
theorem wf(d:Paired (LwR lk) lws rws):Tot lk rws:=λr f=>by obtain⟨i,c⟩:=List.getElem?_of_mem f;have l:=Paired.length d;have h:=(fY.mp c).1;have g:lws[i]?=some (lws[i]'(by lia)):=gU _;obtain⟨k,b,a⟩:=ic d g;rw[c]at b;cases b;have e:=a.okn;refine iV a.ok (by rw[a.o];exact a.so) (by rw[a.s];exact a.ss) ?_ (by rw[a.s];exact a.oks);rw[a.o];exact λx j=>(e x (lL _ j)).1
def rq(K:Frag):Sp:=λc H Q _=>∃(a:zW)(b:zI),c=[.ref a]/\SqL K H a (b.map V.int)/\b.length<=63/\∀d,Q (.bl true) d
def jX(k:Nat):Str:="l"++(toString (k:Int):Str)
theorem DR:∀k:Fin 100,PyData.strOk (jX k.1)=true/\(((k.1:Nat):Int)).natAbs.log2<1920/\("l":Str).length+(toString ((k.1:Nat):Int):Str).length<=100/\jX k.1≠"tab":=by decide+kernel
theorem FL:∀i j:Fin 70,jX i.1=jX j.1->i=j:=by decide+kernel
theorem yU(hi:i<70)(a:j<70)(h:jX i=jX j):i=j:=congrArg Fin.val (FL ⟨i,hi⟩ ⟨j,a⟩ h)
def axL:zC:=["k","kk","m","mm"]
theorem BI:OkN axL:=by
 intro x a;have:axL.all (λx=>PyData.strOk x&&decide (1<=x.length))=true:=by decide+kernel
 have:=List.all_eq_true.mp this x a
 simpa using this
theorem BF:axL.Nodup:=by decide+kernel
theorem uk(f:α->V)(nm:List α)(lo hi:Option Int):∃zs:List α,mV (nm.map f) lo hi=zs.map f/\zs.length<=nm.length/\∀x∈zs,x∈nm:=by
 refine fJ ((nm.drop (HT.sIx nm.length 0 lo)).take (HT.sIx nm.length nm.length hi-HT.sIx nm.length 0 lo)) ?_ ?_ λx a=>?_
 ·unfold mV;rw[eA,<-List.map_drop,<-List.map_take]
 ·rw[jd,ot];lia
 ·exact List.mem_of_mem_drop (mT a)
theorem Cr(h:∀p∈lk,∃n:Int,p.2=.int n):∃is,rm lk is:=by
 induction lk with
 |nil=>exact⟨[],.nil⟩
 |cons p r ih=>obtain⟨n,a⟩:=h p (.head _);obtain⟨is,b⟩:=ih λq c=>h q (.tail _ c);exact⟨n::is,.cons a b⟩
theorem wl{S:zV}{H:Hp}{x:Str}{l:zW}{ys:zC}(j:S l)(c:H l=some (.lst (ys.map V.str))):∀{kvs:zJ}{es:zB},AR S H kvs es->
  ∃a,AR S H (kvs.map λkv=>if kv.1=Sum.inr x then (kv.1,V.ref l)else kv) a/\(∀e∈a,e∈es\/e=(x,ys))/\a.length=es.length
 |_,_,.nil=>(fJ [] .nil (by simp) rfl)
 |_,_,@Paired.cons _ _ _ p e _ _ r t=>by
  obtain⟨a,g,i,d⟩:=wl j c t;by_cases hk:p.1=Sum.inr x
  ·refine fJ ((x,ys)::a) ?_ (λf b=>?_) (by simp[d])
   ·rw[gA,bz hk];exact .cons (kY hk l rfl j c) g
   ·rcases gB.mp b with rfl|b
    ·exact .inr rfl
    ·exact(i f b).imp (λh=>.tail _ h) id
  ·refine fJ (e::a) ?_ (λf b=>?_) (by simp[d])
   ·rw[gA,bp hk];exact .cons r g
   ·rcases gB.mp b with rfl|b
    ·exact .inl (.head _)
    ·exact(i f b).imp (λh=>.tail _ h) id
theorem By(f:S l)(d:H l=some (.lst (ys.map V.str)))(h:AR S H kvs es):
  ∃a,AR S H (gr kvs (Sum.inr x) (.ref l)) a/\(∀e∈a,e∈es\/e=(x,ys))/\a.length<=es.length+1/\a≠[]:=by
 unfold gr;split
 ·rename_i ha;obtain⟨a,i,j,g⟩:=wl (x:=x) f d h;refine⟨a,i,j,by lia,λz=>?_⟩;subst z;have c:=Paired.length h;have:kvs=[]:=nG.mp (by rw[c,<-g];rfl);subst this;simp at ha
 ·refine⟨es++[(x,ys)],Paired.snoc ⟨rfl,l,rfl,f,d⟩ h,λe b=>?_,by simp,by simp⟩;rcases iw.mp b with b|b
  ·exact .inl b
  ·exact .inr (gz.mp b)
theorem D3f.put(h:D3f lk es)(m:∀e∈es',e∈es\/e=(x,ys))(c:es'.length<=900)(f:mJ lk ys)(d:ys.length<=4)(g:PyData.strOk x=true):D3f lk es':=by
 have b:∀e∈es',mJ lk e.2/\e.2.length<=4/\PyData.strOk e.1=true:=λe a=>by
  rcases m e a with a|a
  ·exact fL (h.dk e a) (h.l4 e a) (h.ok e a)
  ·rw[a];exact fL f d g
 exact⟨λe a=>(b e a).1,λe a=>(b e a).2.1,λe a=>(b e a).2.2,c⟩
theorem B0s.kb{ls:zM}{e:LnM}(h:B0s A [f] H v e)(k:KB f H H')(l:H f=some (.lst ls)):B0s A [f] H' v e:=by have d:∀{b:zW},b∉[f]->b≠f:=λm z=>m (by rw[z];exact .head _);refine kO h ?_;clear h;rintro a s c u n rfl i j q g ⟨p,r⟩;exact iS a s c u n rfl (k _ _ (gN i l (by intro z;cases z)) i) j (k _ _ (d j) q) g (k _ _ (d g) p) (r.imp λb o e=>lU (jI e).1 (k _ _ (d (jI e).1) (jI e).2))
structure RI(H4 X:Hp)(ad rl tl cl:zW)(tb:zC)(cs:zM)(lk:zJ)(axs:zC)(ak:zJ)(es:zB)(xr:zM)(rows:List Lw)(n:Nat)(lf:Int):Prop where
 sm:A0k H4 X
 had:X ad=some (.dK ak)
 hrl:X rl=some (.lst xr)
 htl:X tl=some (.lst (tb.map V.str))
 hcl:X cl=some (.lst cs)
 ar:AR (λb=>b≠rl) X ak es
 aok:D3f lk es
 le:es.length<=2+n
 rws:Paired (C3b [rl] X) xr rows
 lok:∀e∈rows,oy lk axs e/\e.wo<=36
 lr:rows.length<=n
 nms:∀i e,rows[i]?=some e->e.nm=jX i
 ens:∀e∈es,e.1="tab"\/∃j,j<rows.length/\e.1=jX j
 lfe:lf=120-(rows.map (·.wo)).sum
 lf0:0<=lf
theorem Cb(T:Txt K mg t):FO P w base T.eS 18 (rq K):=by
 refine T.eS.F.ok jO λ_ A _ s H _ Q E hr h=>?_
 ·refine fV h ?_;clear h;rintro a ns rfl hS y5 k;have hu:=nA hr;have hn:=qZ hr;refine rsq (eH (fX 1 jO.nd (pcl (ve T) hr T.aG (bm (pv 0) (bm fM dV)))) (eH (fX 2 jO.nd (rT rM (@hJ _ _ _ _ (bm je (bm je (bm je (bm je dV))))) uv (qi (fQ jQ fM (fQ jp (pv 1) fM))))) (eH (fX 3 jO.nd rV) (eH (ja (nE rfl T.aO (bm (lM T.aM (fK 2)) dV)) (fR (i:=4) jO.nd) (fm ⟨@pD _ _ _ _ _ _ _ _ _ hu (pv 3) (iZ jx (pv 2) (pv 4)) (fQ jQ fM (fQ jp (pcl (ve T) hr T.aG (bm (pv 0) (bm (fQ jQ fM (pv 4)) dV))) fM)) rfl⟩)) (nj (gI (iA lA (fQ jp (fQ my (pv 1) fM) fM) fM) (fm ⟨@pD _ _ _ _ _ _ _ _ _ hu (pv 3) (iZ jx (pv 2) (re rC fM)) (fQ jQ fM (fQ jp (fQ my (pv 1) fM) fM)) rfl⟩) ⟨gO⟩) (eH (fX 5 jO.nd rV) (nj (gI (iA pW (fQ jp (fQ my (pv 1) fM) fM) fM) (fm ⟨@pD _ _ _ _ _ _ _ _ _ hu (pv 5) je (rT rM (pv 2) uv (qi fM)) rfl⟩) ⟨gO⟩) (eH ⟨rG (i₀:=7) (N':=["_law_name"]) (ix:=(List.replicate 1 none)) jO.nd rfl (.inl rfl) rfl (lX rfl (by decide+kernel) (by decide+kernel)) (lV rfl) (uy (pv 5)) (λ_ _ _ _=>(fR (i:=0) zn)) (λ_ _ _ _=>(pv 0))⟩ ⟨@Dl _ _ _ (@jT _ _ _ _ _ (@lR _ _ 8 _ _ _ _ jO.nd rfl (.inl rfl) (@hJ _ _ _ _ dV) rfl (.inl rfl)) (@jT _ _ _ _ _ (@lR _ _ 9 _ _ _ _ jO.nd rfl (.inl rfl) fM rfl (.inl rfl)) (@jT _ _ _ _ _ (rA PassesOwn.never rfl (jl (fQ oG (@hJ _ _ _ _ (bm (pcl (ve T) hr T.aG (bm (pv 0) (bm fM dV))) dV)) (rT rM (pv 0) (qi fM) (qi fM)))) (fR (i:=10) jO.nd) (@jT _ _ _ _ _ (@lR _ _ 6 _ _ _ _ jO.nd rfl (.inl rfl) (fQ FX je (mE Hi (by rfl) T.ft PyProof.Rows.boot_str (bm (lM T.aM (fK 8)) dV))) rfl (.inl rfl)) (@jT _ _ _ _ _ (@lR _ _ 11 _ _ _ _ jO.nd rfl (.inl rfl) (pcl (Hg T) hr T.bI (bm (pv 10) (bm (pv 6) (bm (pv 2) (bm (pv 3) (fK 5)))))) rfl (.inl rfl)) (@nD _ _ _ (@rc _ _ _ _ _ _ _ _ (iA rk (pit 11) (jy (EX rfl) (by rfl) T.fw PyProof.Rows.boot_min (bm (pv 9) (bm fM dV)))) (@jT _ _ _ _ _ (@lR _ _ 9 _ _ _ _ jO.nd rfl (.inl rfl) (fQ pB (pv 9) (pit 11)) rfl (.inl rfl)) (@jT _ _ _ _ _ (kc (jY jW lJ lI lF (pv 8) (fK 11))) (@nD _ _ _ (@pD _ _ _ _ _ _ _ _ _ hu (pv 5) (pv 6) (mE sC (by rfl) T.bn nq (bm (pit 11) dV)) rfl)))) gO))))) (@jT _ _ _ _ _ (@rc _ _ _ _ _ _ _ _ (iA (Ed hr.units) (pv 5) rV) (@nD _ _ _ (@qa _ _ _ _ mZ)) gO) (@jT _ _ _ _ _ (@lR _ _ 12 _ _ _ _ jO.nd rfl (.inl rfl) (@hJ _ _ _ _ dV) rfl (.inl rfl)) (@jT _ _ _ _ _ (rA PassesOwn.never rfl (jl (pv 8)) (fR (i:=11) jO.nd) (@jT _ _ _ _ _ (@lR _ _ 13 _ _ _ _ jO.nd rfl (.inl rfl) (pcl (GZ T) hr T.bB (bm (pit 11) (fK 9))) rfl (.inl rfl)) (@nD _ _ _ (kc (jY jW lJ lI lF (pv 12) (bm (pmk T.eZ (Hd T) hr T.fk T.bG.b (bm (pit 11) (bm (mE sC (by rfl) T.bn nq (bm (pit 11) dV)) (bm (mE sC (by rfl) T.bn nq (bm (pit 11) dV)) (fK 13))))) dV)))))) (@jT _ _ _ _ _ (@lR _ _ 14 _ _ _ _ jO.nd rfl (.inl rfl) (pmk T.eT (Hk T) hr T.e_ T.bu.b (bm fM (bm (pv 3) (bm (pv 5) (bm (pv 7) (bm (pv 12) (bm (rT rM (xT (kF (N':=["_law_name"]) (ix:=(List.replicate 1 none)) rfl (lX rfl (by decide+kernel) (by decide+kernel)) (lV rfl) (uy (pv 5)) (λ_ _ _ _=>(fR (i:=0) zn)) (λ_ _ _ _=>(pv 0)))) uv (qi fM)) dV))))))) rfl (.inl rfl)) (@jT _ _ _ _ _ (@lR _ _ 15 _ _ _ _ jO.nd rfl (.inl rfl) (pcl (Hu T) hr T.bv (bm (pv 8) (fK 3))) rfl (.inl rfl)) (@jT _ _ _ _ _ (@lR _ _ 16 _ _ _ _ jO.nd rfl (.inl rfl) (pcl (zt T) hr T.br (fK 14)) rfl (.inl rfl)) (@jT _ _ _ _ _ (@rc _ _ _ _ _ _ _ _ (qb (jP (pcl (Au T) hr T.aC (bm (pv 16) (fK 15))))) (@nD _ _ _ (@qa _ _ _ _ mZ)) gO) (@jT _ _ _ _ _ (kc (jY jW lJ lI lF (pv 16) (bm (hW (bm fM (bm fM dV))) dV))) (@nD _ _ _ (@qa _ _ _ _ (pcl (Au T) hr T.aC (bm (pcl (zt T) hr T.br (fK 14)) (fK 15))))))))))))))))⟩)))))))) ?_;refine bd _ rfl (gE a ns 0 rfl hS (by decide) λhh=>?_);refine⟨fT rfl,λal r0=>?_⟩;have s1:A0k H (upd H al (.lst [.str "k",.str "kk",.str "m",.str "mm"])):=fI r0;have f5:upd H al (.lst [.str "k",.str "kk",.str "m",.str "mm"]) al=some (.lst (axL.map V.str)):=dh;generalize upd H al (.lst [.str "k",.str "kk",.str "m",.str "mm"])=H1 at s1 f5⊢;obtain⟨i4,hi4,i1,i44⟩:∃i:Nat,(1+hh%4:Int)=i/\1<=i/\i<=4:=(fJ ((1+hh%4).toNat) (by lia) (by lia) (by lia));refine fZ _ rfl _ _ rfl rfl (jg qJ _ _ rfl rfl (fZ _ rfl al _ rfl (SqL.of f5) λax s6=>?_));rw[show mV (axL.map V.str) none (some (1+hh%4))=(axL.take i4).map V.str by rw[hi4];exact CQ];obtain⟨ya,eya⟩:∃ya,ya=axL.take i4:=⟨_,rfl⟩;have w9:ya.length=i4:=by rw[eya,jd];show min i4 4=i4;lia
  have i2:OkN ya:=λy hy=>BI y (mT (by rw[<-eya];exact hy));have u6:ya.Nodup:=by rw[eya];exact List.Sublist.nodup (sT _ _) BF
  rw[<-eya];clear eya;obtain⟨H2,s2,a9,g⟩:=nH (o:=.lst (ya.map V.str)) s6;rw[g];have m3:=s1.trans s2;refine λld i3=>?_;obtain⟨H3,s3,m6,g⟩:=nH (o:=.dK []) i3;rw[g];refine fZ _ rfl ax _ rfl (.inl (SqL.of (s3 _ _ a9))) (iU _ rfl (by lia) (by rw[eA];lia) ?_)
  refine nV (n:=(ya.map V.str).length) (λi Z X=>∃(o4:zP)(R:zJ),Z=[Sro a,Sio hh,Sro ax,Sro ld,o4,none,none,none,none,none,none,none,none,none,none,none,none]/\A0k H2 X/\X ld=some (.dK R)/\R.length<=i/\(∀p∈R,∃n:Int,p.2=.int n/\1<=n/\n<=60)/\∀y∈ya.take i,(fN R (Sum.inr y)).isSome=true)
   (jz none [] rfl s3 m6 (fH _) (by intro p W;cases W) (by simp)) ?_ ?_
  ·rintro i Z X hi B;refine fV B ?_;clear B;rintro o4 R rfl sx h3 ⟨r3,e5,i0⟩;rw[eA]at hi;have o1:ya[i]?=some ya[i]:=gU hi;have ey:atI (ya.map V.str) (0+(i:Int))=some (.str ya[i]):=by rw[Int.zero_add];exact gD (by rw[ju,o1];rfl)
   refine ig _ rfl _ rfl _ _ rfl rfl (gE a ns _ rfl ((m3.trans sx).seq hS) (by lia) λz=>?_);have b3:0<=z%3/\z%3<3:=by lia
   have d6:=og R (Sum.inr ya[i]) (V.int (1+z%3));refine ga _ _ rfl rfl pf ⟨_,(jA _ rfl rfl _ rfl (jJ _ rfl _ rfl ax _ _ _ rfl rfl (SqL.of (sx _ _ a9)) ey (fC ld _ rfl (C7r.k (k:=Sum.inr ya[i]) h3 (gJ (by lia))) ?_)))⟩;refine jz _ _ rfl (gQ sx i3) dh (jU d6 (by lia)) (λp W=>?_) λy hy=>?_
   ·rcases ye W with W|W
    ·exact e5 p W
    ·rw[W];exact fJ (1+z%3) rfl (by lia) (by lia)
   ·rw[lE];split
    ·rfl
    ·rename_i j5;rw[gW,o1]at hy;rcases iw.mp hy with hy|hy
     ·exact i0 y hy
     ·exact absurd (by rw[show y=ya[i]by simpa using hy]) j5
  rintro Z G4 B;refine fV B ?_;clear B;rintro o4 g3 rfl b1 a5 ⟨f8,b7,a4⟩;rw[eA]at f8 a4;rw[hZ]at a4;refine bd (λZ G=>∃(R:zJ),Z=[Sro a,Sio hh,Sro ax,Sro ld,o4,none,none,none,none,none,none,none,none,none,none,none,none]/\A0k H2 G/\G ld=some (.dK R)/\R.length<=10/\(∀p∈R,∃n:Int,p.2=.int n/\1<=n/\n<=60)/\∀y∈ya,(fN R (Sum.inr y)).isSome=true) ?_ ?_
  ·refine fZ _ rfl _ _ rfl rfl (jg ⟨by decide,by decide⟩ _ _ rfl rfl (iK z_60 rfl _ rfl (iP (λ_=>?_) (λ_=>⟨g3,(jh rfl b1 a5 (by lia) b7 a4)⟩))));obtain⟨vl,r1,s8⟩:=DB (xs:=ya.map V.str) (by rw[eA];lia);obtain⟨yl,x3,rfl⟩:=jZ r1;have x9:0<=hh/24%12/\hh/24%12<12:=by lia
   have d6:=og g3 (Sum.inr yl) (V.int (1+hh/24%12));refine fZ _ rfl _ _ rfl rfl (jg ⟨by decide,by decide⟩ _ _ rfl rfl (gk Bd _ (jA _ rfl rfl _ rfl (jJ _ rfl _ rfl ax _ _ _ rfl rfl (SqL.of (b1 _ _ a9)) s8 (fC ld _ rfl (C7r.k (k:=Sum.inr yl) a5 (gJ (by lia))) ?_)))));refine⟨_,(jh rfl (gQ b1 i3) dh (jU d6 (by lia)) (λp W=>?_) λy hy=>?_)⟩
   ·rcases ye W with W|W
    ·exact b7 p W
    ·rw[W];exact fJ (1+hh/24%12) rfl (by lia) (by lia)
   ·rw[lE];split
    ·rfl
    ·exact a4 y hy
  rintro Z H4 B;refine iD B ?_;clear B;rintro R rfl p0 ⟨g4,r3,e5,i0⟩;clear b1 a5 f8 b7 a4;obtain⟨is,il⟩:=Cr λp W=>let⟨n,e,_⟩:=e5 p W;⟨n,e⟩
  have dk:mJ R ya:=λy hy=>by obtain⟨v,hv⟩:=Option.isSome_iff_exists.mp (i0 y hy);obtain⟨p,W,_,e⟩:=xC hv;obtain⟨n,en,n1,t8⟩:=e5 p W;exact fJ n (by rw[hv,<-e,en]) n1 t8
  have e3:=m3.trans p0;have h0:=p0 _ _ a9;refine λd d2=>?_;obtain⟨G0,t0,d7,g⟩:=nH (o:=.dK []) d2;rw[g];refine bd (λZ G=>∃(C:zJ)(es:zB),Z=[Sro a,Sio hh,Sro ax,Sro ld,o4,Sro d,none,none,none,none,none,none,none,none,none,none,none]/\A0k H4 G/\G d=some (.dK C)/\AR (λ_=>True) G C es/\D3f R es/\es.length<=1/\∀e∈es,e.1="tab") ?_ ?_
  ·refine fZ _ rfl _ _ rfl rfl (jg ⟨by decide,by decide⟩ _ _ rfl rfl (gk qJ _ (jA _ rfl rfl _ rfl (iP (λ_=>?_) (λ_=>(jz [] [] rfl t0 d7 .nil ⟨by simp,by simp,by simp,by simp⟩ ⟨by simp,by simp⟩))))));refine ig _ rfl _ rfl ax _ rfl (SqL.of (t0 _ _ h0)) λl3 v1=>?_;obtain⟨y3,t3,z1,v6⟩:=uk V.str ya none (some 2);rw[t3];obtain⟨G1,u3,f9,g⟩:=nH (o:=.lst (y3.map V.str)) v1;rw[g];refine fZ _ rfl d _ rfl (C7r.k (k:=Sum.inr (("tab":Str))) (u3 _ _ d7) (gJ (by simp))) ?_;refine(jz [(Sum.inr (("tab":Str)),.ref l3)] [("tab",y3)] rfl (gQ (t0.trans u3) d2) dh (.cons (kY rfl l3 rfl True.intro (by rw[eh (gN f9 (u3 _ _ d7) (by intro z;cases z))];exact f9)) .nil) ⟨λe L=>?_,λe L=>?_,λe L=>?_,by simp⟩ ⟨by simp,λe L=>?_⟩)<;>rw[gz.mp L]
   ·exact λy hy=>dk y (v6 y hy)
   ·show y3.length<=4;lia
   ·show PyData.strOk ("tab":Str)=true;decide+kernel
  rintro Z G B;refine fV B ?_;clear B;rintro a1 es0 rfl n9 M ⟨c3,h6,y0,n3⟩;have p5:=Paired.length c3;refine fZ _ rfl d a1 rfl M λo D hD=>?_;have Da:D≠d:=λz=>by subst z;rw[dh]at hD;cases hD
  refine qv (J:=Itd d o a1) (D:=D) a1.length (λi ys Hx=>A0k (upd G d (.frz o (.dK a1))) Hx/\Hx D=some (.lst ys)/\ys=((es0.take i).map (·.1)).map V.str) (fL (fI hD) dh rfl) (λi ys Hx hi ⟨s2,_⟩=>⟨s2 _ _ dh,hi⟩) (λys Hx ⟨s2,_⟩=>⟨s2 _ _ dh,rfl⟩) ?_ ?_
  ·rintro i ys Hx hi ⟨sx,a0,rfl⟩ x Hy B;refine iX B ?_;clear B;rintro rfl k' v h9 rfl;obtain⟨e,L,ek,_⟩:=ic c3 h9;have ek:k'=Sum.inr e.1:=ek;subst ek;refine gk True.intro _ (jh rfl a0 (gJ (by simp;lia)) (gQ sx hD) dh ?_);rw[gW,L,jt,gy,gy];rfl
  rintro ys Hx ⟨sx,a0,rfl⟩;rw[p5,hZ]at a0;refine iM d o _ (sx _ _ dh) (λo' u' z=>by have z:H d=some (.frz o' u'):=z;rw[e3.free d2]at z;cases z) ?_;have st:A0k G (upd Hx d (.dK a1)):=sq M sx;have i7:upd Hx d (.dK a1) D=some (.lst ((es0.map (·.1)).map V.str)):=by rw[eh Da];exact a0
  generalize upd Hx d (.dK a1)=Gt at st i7⊢;refine⟨fT rfl,λf e6=>?_⟩;have t4:H4 f=none:=(n9.trans st).free e6;have s9:D≠f:=gh i7 e6;have t1:A0k Gt (upd Gt f (.lst [])):=fI e6;have c5:upd Gt f (.lst []) f=some (.lst []):=dh;have q2:AR (λb=>b≠f) (upd Gt f (.lst [])) a1 es0:=(c3.same st).imp λb xs _ e=>⟨gh e e6,t1 _ _ e⟩;generalize upd Gt f (.lst [])=G1 at t1 c5 q2⊢;have h7:=n9.trans (st.trans t1);refine bd _ rfl (gE a ns 5 rfl ((e3.trans h7).seq hS) (by decide) λz5=>⟨fT rfl,λc1 j4=>?_⟩);obtain⟨G1b,e4,f6,g⟩:=nH (o:=.lst [.int z5]) j4;rw[g];refine bd _ rfl (ig _ rfl _ rfl a _ rfl ((e3.trans (h7.trans e4)).seq hS) λc2 m5=>?_);obtain⟨cs,k3,w7,_⟩:=uk V.int ns (some 6) (some 45);rw[k3];obtain⟨G1c,e9,h4,g⟩:=nH (o:=.lst (cs.map V.int)) m5;rw[g];refine iG c1 c2 _ _ rfl rfl (e9 _ _ f6) h4 (jR (by rw[eA,lK];lia)) λcl e7=>?_;have n7:([.int z5]++cs.map V.int:zM)=(z5::cs).map V.int:=rfl;rw[n7];have i5:A0k G1c (upd G1c cl (.lst ((z5::cs).map V.int))):=fI e7;have b0:upd G1c cl (.lst ((z5::cs).map V.int)) cl=some (.lst ((z5::cs).map V.int)):=dh;have r8:cl≠f:=λz=>by rw[z,(e4.trans e9) _ _ c5]at e7;cases e7
  generalize upd G1c cl (.lst ((z5::cs).map V.int))=G2 at i5 b0⊢;have t2:A0k G1 G2:=e4.trans (e9.trans i5);have t5:(z5::cs).length<=64:=by rw[gZ];lia
  clear f6 h4 e4 e9 i5 e7 j4 m5 n7 k3;generalize z5::cs=zc at b0 t5⊢;refine fJ cl rfl ⟨_,SqL.of b0⟩ ?_
  refine kH (K:=K) (a:=cl) (xs:=zc.map V.int) (λi Z X=>∃(lf:Int)(o6 e8 b6:zP)(C:zJ)(es:zB)(r:zM)(rows:List Lw),Z=[Sro a,Sio hh,Sro ax,Sro ld,o4,Sro d,o6,Sro D,Sro f,Sio lf,e8,b6,none,none,none,none,none]/\RI H4 X d f D cl (es0.map (·.1)) (zc.map V.int) R ya C es r rows i lf)
   (iu 120 none none none a1 es0 [] (bd [] rfl ⟨h7.trans t2,(st.trans (t1.trans t2)) _ _ M,t2 _ _ c5,(t1.trans t2) _ _ i7,b0,q2.same t2,h6,by lia,.nil,(by intro e L;cases L),fH _,(by intro i e L;cases L),λe L=>.inl (n3 e L),rfl,by decide⟩)) (λi Z X _ zq=>by obtain⟨_,_,_,_,_,_,_,_,_,I⟩:=zq;exact SqL.of I.hcl) ?_ ?_
  ·rintro i x Z X hx B;refine ik B ?_;clear B;rintro lf o6 e8 b6 C ⟨es,r,rows,rfl,I⟩;obtain⟨z,hz,rfl⟩:=jZ hx;have hi:i<zc.length:=(fY.mp hz).1;have lr:=I.lr;have o3:=Paired.length I.rws;have o0:=Paired.length I.ar;have k0:=I.le;have o8:=DR ⟨r.length,by lia⟩;dsimp only at o8;obtain⟨g8,lg,z4,p6⟩:=o8
   have p2:jX r.length∉es.map (·.1):=λm=>by
    obtain⟨e,L,ee⟩:=gY.mp m;rcases I.ens e L with q|⟨j,hj,q⟩
    ·exact p6 (by rw[<-ee];exact q)
    ·have:=yU (i:=r.length) (j:=j) (by lia) (by lia) (by rw[<-q];exact ee.symm)
     lia
   refine fZ _ rfl f _ rfl (.inl (SqL.of I.hrl)) (fJ _ rfl lg (ga _ _ rfl rfl (jR (by lia)) ?_));refine bd _ rfl (iJ _ rfl _ rfl (ma _ rfl _ rfl z (jX r.length) ax ⟨ld,(kK d ya C R es _ rfl (I.sm _ _ h0) (by lia) u6 i2 dk (I.sm _ _ g4) I.had (iV I.ar I.aok p2 g8 λq e Y sY q5 t9 i8=>?_))⟩));have l1:=q5 [f] λb hb=>by rw[gz.mp hb,I.hrl];intro z;cases z
   refine kO (id l1) ?_;rintro q' O S Pl k8 eq hq mO hO mS ⟨x5,mP,hP,l9⟩;cases eq;have IY:RI H4 Y d f D cl (es0.map (·.1)) (zc.map V.int) R ya C es r rows i lf:=⟨I.sm.trans sY,sY _ _ I.had,sY _ _ I.hrl,sY _ _ I.htl,sY _ _ I.hcl,I.ar.same sY,I.aok,I.le,Paired.mapP I.rws λ_ _ z=>z.same sY,I.lok,I.lr,I.nms,I.ens,I.lfe,I.lf0⟩;refine i12 _ rfl q _ _ _ rfl rfl (SqT.of hq) (gD (j:=4) rfl) ⟨_,(md rfl _ _ rfl ⟨_,(jA _ rfl rfl _ rfl (iP (λj1=>?_) (λ_=>(iu lf _ _ _ C es r (bd rows rfl ⟨IY.sm,IY.had,IY.hrl,IY.htl,IY.hcl,IY.ar,IY.aok,by lia,IY.rws,IY.lok,by lia,IY.nms,IY.ens,IY.lfe,IY.lf0⟩)))))⟩)⟩
   have j8:e.wo<=36/\e.wo<=lf:=by have j1:e.wo<=(if (36:Int)<lf then 36 else lf):=j1;split at j1<;>lia
   refine jJ _ rfl _ rfl q _ _ _ rfl rfl (SqT.of hq) (gD (j:=4) rfl) (fC _ _ rfl rfl ?_);refine jA _ rfl (.inl (gk rfl _ (SqL.of IY.hrl))) _ rfl (iH f _ _ rfl rfl IY.hrl (gJ (by lia)) ?_);have a6:∀{b:zW},b∉[f]->b≠f:=λm z=>m (by rw[z];exact .head _);have c8:KB f Y (upd Y f (.lst (r++[.ref q]))):=KB.refl.upd;have i6:KT Y (upd Y f (.lst (r++[.ref q]))):=KT.at IY.hrl (by intro xs z;cases z);have d8:upd Y f (.lst (r++[.ref q])) f=some (.lst (r++[.ref q])):=dh;have o2:A0k H4 (upd Y f (.lst (r++[.ref q]))):=gQ IY.sm t4;generalize upd Y f (.lst (r++[.ref q]))=Y1 at c8 i6 d8 o2⊢;have w0:=i6 _ _ hq;have s5:=c8 _ _ (a6 mO) hO;have v0:d≠f:=gN IY.had IY.hrl (by intro z;cases z);have l2:=c8 _ _ v0 IY.had;refine i12 _ rfl q _ _ _ rfl rfl (SqT.of w0) (gD (j:=1) rfl) (fC O _ rfl (.inl (SqL.of s5)) λa3 i9=>?_);have w4:a3≠f:=λz=>by rw[z,d8]at i9;cases i9
   obtain⟨Y2,u3,m8,g⟩:=nH (o:=.lst (e.own.map V.str)) i9;rw[g];have c9:=u3 _ _ l2;refine ig _ rfl _ rfl d _ rfl (C7r.k (k:=Sum.inr (jX r.length)) c9 (gJ (by lia))) ?_;have v4:AR (λb=>b≠f) Y2 C es:=(IY.ar.imp λb xs n e=>⟨n,c8 _ _ n e⟩).same u3;refine iD (By (x:=jX r.length) (l:=a3) (ys:=e.own) w4 m8 v4) ?_;rintro s0 q7 m' ⟨x7,y7⟩;have q0:KB d Y2 (upd Y2 d (.dK (gr C (Sum.inr (jX r.length)) (.ref a3)))):=KB.refl.upd;have g5:upd Y2 d (.dK (gr C (Sum.inr (jX r.length)) (.ref a3))) d=some (.dK (gr C (Sum.inr (jX r.length)) (.ref a3))):=dh;have m2:A0k H4 (upd Y2 d (.dK (gr C (Sum.inr (jX r.length)) (.ref a3)))):=gQ (o2.trans u3) d2;have j7:KT Y2 (upd Y2 d (.dK (gr C (Sum.inr (jX r.length)) (.ref a3)))):=KT.at c9 (by intro xs z;cases z);generalize upd Y2 d (.dK (gr C (Sum.inr (jX r.length)) (.ref a3)))=Y3 at q0 g5 m2 j7⊢;have d3:∀{b:zW}{xs:zM},Y2 b=some (.lst xs)->Y3 b=some (.lst xs):=λe=>q0 _ _ (gN e c9 (by intro z;cases z)) e;have b2:∀{b:zW}{xs:zM},b≠f->Y b=some (.lst xs)->Y3 b=some (.lst xs):=λn e=>d3 (u3 _ _ (c8 _ _ n e));have p4:KT Y Y3:=(i6.trans (KT.same u3)).trans j7;refine iu _ _ _ _ _ s0 (r++[.ref q]) (bd (rows++[e]) rfl ⟨m2,g5,d3 (u3 _ _ d8),b2 s9 IY.htl,b2 r8 IY.hcl,q7.imp λb xs n e=>⟨n,d3 e⟩,?_,by lia,?_,λe' u=>?_,by rw[gc,lK];lia,λj e' u=>?_,λe' u=>?_,?_,by lia⟩)
   ·have:=i8.l4;exact I.aok.put m' (by lia) (λy hy=>dk y (i8.sub y (lL _ hy))) (by lia) g8
   ·exact jN (Paired.mapP IY.rws λ_ _ z=>z.imp p4 λc xs n ee=>⟨n,b2 (a6 n) ee⟩) (.cons (l1.imp p4 λc xs n ee=>⟨n,b2 (a6 n) ee⟩) .nil)
   ·rcases iw.mp u with u|u
    ·exact I.lok e' u
    ·rw[gz.mp u];exact⟨i8,j8.1⟩
   ·rcases Nat.lt_or_ge j rows.length with c|c
    ·rw[mG c]at u;exact I.nms j e' u
    ·rw[mH c]at u
     have hj:j-rows.length=0:=by
      have:=(fY.mp u).1;rw[lK]at this
      lia
     rw[hj]at u;have e1:e=e':=iO u;rw[<-e1,t9,show j=r.length by lia]
   ·rw[gc,lK];rcases m' e' u with q|q
    ·rcases I.ens e' q with q|⟨j,hj,q⟩
     ·exact .inl q
     ·exact .inr (bd j (by lia) q)
    ·exact .inr (bd r.length (by lia) (by rw[q]))
   ·rw[gy,List.sum_append,I.lfe];simp
    lia
  rintro Z X B;refine ik B ?_;clear B;rintro lf o6 e8 b6 C ⟨es,r,rows,rfl,I⟩;have lr:=I.lr;have o3:=Paired.length I.rws;have o0:=Paired.length I.ar;have k0:=I.le;rw[eA]at lr k0;have w5:(es0.map (·.1)).length<=1000:=by rw[eA];lia
  refine bd _ rfl λed r9=>?_;obtain⟨X0,te,n5,g⟩:=nH (o:=.dK []) r9;rw[g];refine iM d ed C rfl rfl (iK (te _ _ I.had) n5 _ rfl (iP (λ_=>k _) (λ_=>?_)));have n4:Paired (C3b [f] X0) r rows:=Paired.mapP I.rws λ_ _ z=>z.same te;have t6:=I.ar.same te;have c0:=te _ _ I.hrl;have g2:=(I.sm.trans te) _ _ g4;have l8:=te _ _ I.htl;have m9:=te _ _ I.had;refine⟨fT rfl,λU f4=>?_⟩;have j2:A0k X0 (upd X0 U (.lst [])):=fI f4;have g7:upd X0 U (.lst []) U=some (.lst []):=dh;generalize upd X0 U (.lst [])=G1' at j2 g7⊢;refine iB _ rfl f rfl ⟨_,SqL.of (j2 _ _ c0)⟩ ?_
  refine kH (K:=K) (a:=f) (xs:=r) (λi Z G=>∃(b6 w3:zP)(xs:zM)(lns:List LnM),Z=[Sro a,Sio hh,Sro ax,Sro ld,o4,Sro d,o6,Sro D,Sro f,Sio lf,e8,b6,Sro U,w3,none,none,none]/\A0k X0 G/\G U=some (.lst xs)/\oJ t [U] G xs lns/\Paired pO lns (rows.take i))
   (hU b6 none [] [] rfl j2 g7 .nil .nil) (λi Z G _ zq=>by obtain⟨_,_,_,_,_,sg,_⟩:=zq;exact SqL.of (sg _ _ c0)) ?_ ?_
  ·rintro i xv Z G n2 B;refine iq B ?_;clear B;rintro o7 n8 xs lns rfl sg a7 b4 a2;obtain⟨e,L,q,O,Sm,Pl,k8,rfl,hq,_,hO,_,q8,_,r2,l9⟩:=ic n4 n2;have lo:=(I.lok e (gq L)).1;have l4:=lo.l4;have hi:=(fY.mp n2).1;refine i12 _ rfl q _ _ _ rfl rfl (SqT.of (sg _ _ hq)) (gD (j:=3) rfl) (bd _ rfl ?_);refine⟨Pl,(kN k8 e.ps lf [f] (e.own++e.sums) rfl (sg _ _ r2) (Paired.mapP l9 (λ_ _ z=>z.same sg)) lo.lp lo.ps λv Tt X sx ob tr=>?_)⟩;have sX:=sg.trans sx;have c4:=sx _ _ a7
   have w2:Ob t (iF (λb=>b∉[U]) X) v Tt:=ob.imp (oe (A0k.refl _) λa o _ h m=>by
    have h:G a=none:=h;rw[gz.mp m,a7]at h
    cases h)
   refine fJ _ rfl (.inl (gk rfl _ (SqL.of c4))) (i12 _ rfl q _ _ _ rfl rfl (SqT.of (sX _ _ hq)) (gD (j:=0) rfl) (i12 _ rfl q _ _ _ rfl rfl (SqT.of (sX _ _ hq)) (gD (j:=1) rfl) (fC O _ rfl (.inl (SqL.of (sX _ _ hO))) λO1 u7=>?_)));have u1:A0k X (upd X O1 (.lst (e.own.map V.str))):=fI u7;have f7:upd X O1 (.lst (e.own.map V.str)) O1=some (.lst (e.own.map V.str)):=dh;generalize upd X O1 (.lst (e.own.map V.str))=X6 at u1 f7⊢;have p8:=sX.trans u1;refine i12 _ rfl q _ _ _ rfl rfl (SqT.of (p8 _ _ hq)) (gD (j:=2) rfl) (fC Sm _ rfl (.inl (SqL.of (p8 _ _ q8))) λS1 t7=>?_);have u2:A0k X6 (upd X6 S1 (.lst (e.sums.map V.str))):=fI t7;have g1:upd X6 S1 (.lst (e.sums.map V.str)) S1=some (.lst (e.sums.map V.str)):=dh;generalize upd X6 S1 (.lst (e.sums.map V.str))=X7 at u2 g1⊢;refine bd _ rfl λx dx hx h5 w6=>?_;have u4:A0k X7 (upd (upd X7 dx (.own x)) x (.ins t.aa dx [])):=gQ (fI h5) hx;have j6:upd (upd X7 dx (.own x)) x (.ins t.aa dx []) x=some (.ins t.aa dx []):=dh;generalize upd (upd X7 dx (.own x)) x (.ins t.aa dx [])=X9 at u4 j6⊢;refine jF x dx O1 (iS S1 v e.nm e.own e.sums rfl j6 ((u2.trans u4) _ _ f7) (u4 _ _ g1) (by lia) (by lia) λcc cu Ga m1 m0 k7 v7 q6 s7=>⟨rfl,?_⟩);have v9:=u1.trans (u2.trans u4);have f2:A0k X Ga:=(u1.trans u2).trans (KB.same u4 s7 hx);have d5:=f2 _ _ c4;have u5:=Paired.length b4;have p3:=Paired.length a2;rw[jd]at p3;refine iH U _ _ rfl rfl d5 (gJ (by lia)) ?_;have k9:KB U Ga (upd Ga U (.lst (xs++[.ref x]))):=KB.refl.upd;have g0:upd Ga U (.lst (xs++[.ref x])) U=some (.lst (xs++[.ref x])):=dh;have j3:A0k X0 (upd Ga U (.lst (xs++[.ref x]))):=gQ (sX.trans f2) f4;generalize upd Ga U (.lst (xs++[.ref x]))=Gb at k9 g0 j3⊢;have f0:∀{b:zW},X9 b=none->b∉[U]:=λe m=>by rw[gz.mp m,v9 _ _ c4]at e;cases e
   have a6:∀{b:zW},b∉[U]->b≠U:=λm z=>m (by rw[z];exact .head _);refine hU _ _ (xs++[.ref x]) (lns++[⟨e.nm,e.own,e.sums,Tt⟩]) rfl j3 g0 ?_ ?_
   ·refine jN (Paired.mapP b4 λ_ _ z=>(z.same (sx.trans f2)).kb k9 d5) (.cons (iS x dx cc cu v rfl (k9 _ _ (gN k7 d5 (by intro z;cases z)) k7) (f0 m1) (k9 _ _ (a6 (f0 m1)) v7) (f0 m0) (k9 _ _ (a6 (f0 m0)) q6) ?_) .nil);exact(w2.imp (mF f2)).imp λb o e=>lU (jI e).1 (k9 _ _ (a6 (jI e).1) (jI e).2)
   ·rw[gW,L,jt];exact jN a2 (.cons (iW rfl rfl rfl tr) .nil)
  rintro Z G B;refine iq B ?_;clear B;rintro o7 n8 xs lns rfl sg a7 b4 a2;rw[o3,hZ]at a2;have u5:=Paired.length b4;have p3:=Paired.length a2;have M:=sg _ _ m9;have q3:=t6.same sg;have y1:=I.aok.few;refine iJ _ rfl _ rfl (iJ _ rfl _ rfl ?_);refine fZ _ rfl d C rfl M λo D' f1=>?_;have Da':D'≠d:=λz=>by subst z;rw[dh]at f1;cases f1
  refine qv (J:=Itd d o C) (D:=D') C.length (λi ys Hx=>A0k (upd G d (.frz o (.dK C))) Hx/\Hx D'=some (.lst ys)/\ys=((es.take i).map (·.1)).map V.str) (fL (fI f1) dh rfl) (λi ys Hx hi ⟨s2,_⟩=>⟨s2 _ _ dh,hi⟩) (λys Hx ⟨s2,_⟩=>⟨s2 _ _ dh,rfl⟩) ?_ ?_
  ·rintro i ys Hx hi ⟨sx,a0,rfl⟩ x Hy B;refine iX B ?_;clear B;rintro rfl k' v h9 rfl;obtain⟨e,L,ek,_⟩:=ic q3 h9;have ek:k'=Sum.inr e.1:=ek;subst ek;refine gk True.intro _ (jh rfl a0 (gJ (by simp;lia)) (gQ sx f1) dh ?_);rw[gW,L,jt,gy,gy];rfl
  rintro ys Hx ⟨sx,a0,rfl⟩;rw[o0,hZ]at a0;refine iM d o _ (sx _ _ dh) (λo' u' z=>by have z:H d=some (.frz o' u'):=z;rw[e3.free d2]at z;cases z) ?_;have l5:A0k G (upd Hx d (.dK C)):=sq M sx;have g9:upd Hx d (.dK C) D'=some (.lst ((es.map (·.1)).map V.str)):=by rw[eh Da'];exact a0
  generalize upd Hx d (.dK C)=Gt at l5 g9⊢;refine fZ _ rfl D' _ rfl (SqL.of g9) λol v8=>?_;obtain⟨os,eo,lo,mo⟩:=uk V.str (es.map (·.1)) none (some 1);rw[eA]at lo;have eo:mV ((es.map (·.1)).map V.str) none (some 1)=os.map V.str:=eo;rw[eo];have d1:A0k G (upd Gt ol (.lst (os.map V.str))):=l5.trans (fI v8);have g6:upd Gt ol (.lst (os.map V.str)) ol=some (.lst (os.map V.str)):=dh;generalize upd Gt ol (.lst (os.map V.str))=Ga at d1 g6⊢;refine λp dx W h5 j5=>?_;have v2:A0k Ga (upd (upd Ga dx (.own p)) p (.ins t.a8 dx [])):=gQ (fI h5) W;have p7:upd (upd Ga dx (.own p)) p (.ins t.a8 dx []) p=some (.ins t.a8 dx []):=dh;generalize upd (upd Ga dx (.own p)) p (.ins t.a8 dx [])=Gb at v2 p7⊢;have c6:=d1.trans v2;have l7:=sg.trans c6;refine jF p dx ld (iu d D U ol _ R C (kK is es (es0.map (·.1)) os xs _ rfl p7 (l7 _ _ g2) il (by lia) (c6 _ _ M) (q3.same c6) (by lia) (iW (λe L=>by have:=I.aok.l4 e L;lia) (l7 _ _ l8) (by lia) (jh (c6 _ _ a7) (by lia) (λx hx=>?_) (v2 _ _ g6) (by lia) λl' a' t' v' o' y8 Gc k6 x2 j9 y2 y6 y4 z0 x4 z3 k4 x8 x6 u0=>⟨rfl,?_⟩))))
  ·obtain⟨j,hj⟩:=List.getElem?_of_mem hx;obtain⟨e,_,x0,d0,_,_,_,rfl,e0,_⟩:=ic b4 hj;exact iM x0 d0 _ rfl (λz=>by rw[z]at e0;rw[d1 _ _ e0]at W;cases W) (c6 _ _ e0)
  have v3:A0k Ga Gc:=KB.same v2 u0 W;have h8:=sg.trans (d1.trans v3);have e2:oJ t [U] Gc xs lns:=Paired.mapP b4 λ_ _ z=>z.same (d1.trans v3);obtain⟨rws,k2⟩:=xn i2 I.lok;have pr:Paired (LwR R) rows rws:=Paired.mapP k2 λ_ _ z=>z.1;have m7:=Paired.length pr
  have b8:(gj rws rws.length).length<=300:=by
   have h1:=yW k2 rws.length (fH _);rw[<-m7,hZ]at h1;have h2:=I.lfe;have h3:=I.lf0;rw[<-m7]
   lia
  have b5:∀s∈gj rws rws.length,wg R lns rows s:=λs hs=>link a2 (λe L=>(I.lok e L).1) pr i2 dk hs;have d9:nS (wrL rows) (gj rws rws.length):=Dj pr λi j e e' h1 h2 h3=>yU (by have:=(fY.mp h1).1;lia) (by have:=(fY.mp h2).1;lia) (by rw[<-I.nms i e h1,<-I.nms j e' h2];exact h3);have ew:=AU a2;refine iJ _ rfl _ rfl ⟨f,(kK ld r rows rws R [f] rfl (h8 _ _ c0) (Paired.mapP n4 (λ_ _ z=>z.same h8)) pr (h8 _ _ g2) (by lia) b8 d9 λDD Kp Y y9 sY q1 o5=>?_)⟩;have f3:nS (wrS lns) (gj rws rws.length):=by rw[ew];exact d9
  refine bd _ rfl (iu p dx l' a' t' v' o' (kK _ R xs [U] lns rws rfl (sY _ _ k6) (sY _ _ j9) (sY _ _ k4) (Paired.mapP e2 (λ_ _ z=>z.same sY)) (xh (Paired.mapP e2 (λ_ _ z=>z.same sY)) a2 pr) (wf pr) (by lia) (iV (λs hs=>(b5 s hs).ok) (λs hs=>(b5 s hs).own) f3 b8 λN F ys Zz u9 u8 l6 hF sF p1 prs=>?_)));obtain⟨r4,r5⟩:=zp u9 o5 ew (λs hs=>(b5 s hs).eq) d9;have l0:=ka q1 sF;refine iJ _ rfl _ rfl (iS F DD ys N Kp rfl p1 prs u8 l0 r4 ⟨r5,λZ2 j0=>(bd true rfl (iz ?_))⟩);have d4:=j0 _ _ p1;have n6:=ka l0 j0;have z2:=Paired.length prs;refine iU _ rfl (.inl (gk rfl _ (SqL.of d4))) (fT rfl) λpu r7=>?_;have c7:A0k Z2 (upd Z2 pu (.tup [.int 0,.int 0])):=fI r7;generalize upd Z2 pu (.tup [.int 0,.int 0])=Z3 at c7⊢;refine iH F _ _ rfl rfl (c7 _ _ d4) (gJ (by lia)) ?_;have w1:=ka n6 c7;have v5:KT Z3 (upd Z3 F (.lst (ys++[.ref pu]))):=KT.at (c7 _ _ d4) (by intro xs z;cases z);have s4:A0k Y (upd Z3 F (.lst (ys++[.ref pu]))):=gQ (sF.trans (j0.trans c7)) hF;obtain⟨uD,eD,_,_⟩:=mz q1;have DF:DD≠F:=gh eD hF;have m4:A6e P w [true,true] (upd Z3 F (.lst (ys++[.ref pu]))) DD (duK Kp):=w1.keeps (λo e=>by rw[eh DF];exact e) v5;generalize upd Z3 F (.lst (ys++[.ref pu]))=Z4 at s4 m4⊢;have b9:=sY.trans s4;refine bd _ rfl (iu p dx l' a' t' v' o' (kK _ R xs [U] lns rws rfl (b9 _ _ k6) (b9 _ _ j9) (b9 _ _ k4) (Paired.mapP e2 (λ_ _ z=>z.same b9)) (xh (Paired.mapP e2 (λ_ _ z=>z.same b9)) a2 pr) (wf pr) (by lia) (iV (λs hs=>(b5 s hs).ok) (λs hs=>(b5 s hs).own) f3 b8 λN2 F2 q9 Z5 n0 k1 w8 x1 r6 q4 o9=>?_)));obtain⟨p9,k5⟩:=zp n0 o5 ew (λs hs=>(b5 s hs).eq) d9;exact jf _ rfl F2 DD q9 N2 Kp rfl q4 o9 k1 (ka m4 r6) (fL p9 k5 λZ6 _=>k _)
end My
namespace PySem.W.Fast
def tw7535983370392483331:=()
def tw10019304044224657521:=()
def tw1670334327525796463:=()
def tw5168868805467996437:=()
def tw5222972112737885925:=()
def tw2264788954005110924:=()
def tw12476396813641203704:=()
def tw14204414206414453506:=()
def tw688853336704760072:=()
def tw6115862348138181805:=()
def tw11508370341501771036:=()
def tw13337018808208264489:=()
def tw10864650110970207398:=()
def tw7250215833259263747:=()
def tw11445872876924707318:=()
def tw10611032081997418888:=()
def tw12004031862240163824:=()
def tw14204993274167332595:=()
def tw16461810558598716381:=()
def tw12309898799597731739:=()
def tw13776405228169244349:=()
def tw16503856077279532372:=()
def tw5906703349534578062:=()
def tw4029205508384290672:=()
def tw14931582246261261677:=()
def tw1444222873299807813:=()
def tw731848712880282026:=()
def tw2318151975594813295:=()
def tw5755240106015103283:=()
def tw1644301021547293804:=()
def tw3215124998663368419:=()
def tw15216180354609550980:=()
def tw7678423488170122735:=()
def tw10125497098736072651:=()
def tw6136935919380606479:=()
def tw5723158517332155122:=()
def tw10524931831481016910:=()
def tw17992138706972025562:=()
def tw14226520629378021147:=()
def tw17426811327553472212:=()
def tw6200579529946640893:=()
def tw7385233256889393028:=()
def tw6768879727422400291:=()
def tw16528677444088602149:=()
def tw252805307238282931:=()
def tw7495907159577910290:=()
def tw12799397191226897662:=()
def tw7145387289104561156:=()
def tw6606402538366388004:=()
def tw267137974680503329:=()
def tw10724159598396008141:=()
def tw68319056593296287:=()
def tw7289668397713316682:=()
def tw10545052525654056277:=()
def tw8611039609445060663:=()
def tw7039800542620553381:=()
def tw17712735825878230693:=()
def tw5567177944361838317:=()
def tw1227734183386363432:=()
def tw13750136895300919938:=()
def tw18340269462582304812:=()
def tw5079710838883208970:=()
def tw15309304600818239112:=()
def tw6088475093463753877:=()
def tw17630470358768237784:=()
def tw16258695379478469170:=()
def tw2842275458566110113:=()
def tw4229059757435920548:=()
def tw16846763234351900454:=()
def tw15431232689297945980:=()
def tw14505350358401093980:=()
def tw8830501611999153826:=()
def tw3540064662072887315:=()
def tw11708386265893691515:=()
def tw16384486478124968191:=()
def tw9351832083917571644:=()
def tw5399249828771304627:=()
def tw953880430750126044:=()
def tw800796503255289588:=()
def tw15687473794461229063:=()
def tw10326720462997323916:=()
def tw16685798250645362836:=()
def tw5985944115907632559:=()
def tw521067336959839207:=()
def tw7796456016871966792:=()
def tw16559675609439835481:=()
def tw14113804408098611255:=()
def tw2292882850110642543:=()
def tw14035433980504503727:=()
def tw11306100681152237602:=()
def tw1946730365520158500:=()
def tw4943559862184972016:=()
def tw3053299573365971100:=()
def tw1195346519845774905:=()
def tw10008140836453426833:=()
def tw2910976983127279447:=()
def tw6140233283367369891:=()
def tw13500921331663030155:=()
def tw16973293701322619399:=()
def tw601767808266010275:=()
def tw18393817312767027010:=()
def tw5550206270067977757:=()
def tw1334513945049569142:=()
def tw8127984005226121439:=()
def tw18304092204644476031:=()
def tw17092566440114732541:=()
def tw8981817979157414716:=()
def tw1603039332555787643:=()
def tw8296104645834048770:=()
def tw8298100893058115169:=()
def tw17480159553882031293:=()
def tw13571370259632902641:=()
def tw3397219745700123836:=()
def tw602494547173550908:=()
def tw17525693216895391812:=()
def tw14956475316277806753:=()
def tw12539731453238588765:=()
def tw9126513222902938021:=()
def tw2816267036349232512:=()
def tw16306546187627813583:=()
def tw17092233668172951169:=()
def tw1753041138581341885:=()
def tw2528358293657053488:=()
def tw14714558357129784641:=()
def tw976064801577898434:=()
def tw151761923066098523:=()
def tw7664862720949750649:=()
def tw7893246331643198001:=()
def tw6680108017739240099:=()
def tw8191879080989045257:=()
def tw6312796492847805525:=()
def tw13566151454621834440:=()
def tw11437519229532430556:=()
def tw1528811799542032147:=()
def tw1801254442732146000:=()
def tw1993680912386886989:=()
def tw11723752879796039400:=()
def tw1921471597388083428:=()
def tw9246571639019624605:=()
def tw15039583680578480141:=()
def tw11794382620887787627:=()
def tw6449555320121377383:=()
def tw6689846066199891005:=()
def tw4203906268067706537:=()
def tw2733512711798087796:=()
def tw7787318422002551976:=()
def tw11245270732633821632:=()
def tw14536575495979503244:=()
def tw6477315271431326778:=()
def tw15223164021962482964:=()
def tw11364786258318489105:=()
def tw15882431674568635348:=()
def tw8328713452507797005:=()
def tw3239764328389298230:=()
def tw4394213370904605949:=()
def tw3274701242106810634:=()
def tw5468945139864591357:=()
def tw2752229694903931596:=()
def tw14465607236840945142:=()
def tw12094994758143476954:=()
def tw12161692396070293391:=()
def tw13285611793072160092:=()
def tw849629130952503939:=()
def tw9696590790932056973:=()
def tw11964221883121005016:=()
def tw5576755075918883326:=()
def tw14882405074436607582:=()
def tw7673538266387461253:=()
def tw16644474602579179410:=()
def tw9075696997069097601:=()
def tw12715966008900328538:=()
def tw15122539519448467907:=()
def tw6653759358746646343:=()
def tw2315637393398901361:=()
def tw8818523666180362567:=()
def tw6009243899385764285:=()
def tw376060810570038842:=()
def tw7406410808507997997:=()
def tw3815991440587468813:=()
def tw9443407515847542847:=()
def tw13835942352965050626:=()
def tw1938911970264667453:=()
def tw2590629702557218201:=()
end PySem.W.Fast
namespace My
open PySem L2
theorem D8j{p:zH->Prop}(h:p []):∀us:zH,us.length=0->p us:=λus e=>by rw[nG.mp e];exact h
theorem D9n{n:Nat}{p:zH->Prop}(h:∀(a:zX)(us:zH),us.length=n->p (a::us)):∀us:zH,us.length=n+1->p us|a::r,e=>h a r (Nat.succ.inj e)
section
variable{K:Frag}{h:yA}{mg:zE}{x q:Str}{st:Stmt}{C f:zW}{oc:zX}{od:zO}{kV dc pm:zX}{an:zO}{cd ct:zX}{sl:zF}{ps:zC}
theorem D9a(_:findIn K (.ref C) x=some (some (.ref f)))(l:K.lookup f=some ⟨oc,od,.func (fnOf x q (nh st) (mN st) (gi st) .none kV dc pm an cd ct),sl⟩)(c:codeIn K cd q=true)(k:keepIn K (.ref f)=true)
  (b:∀(kV a pm:zX)(an:zO)(d ct:zX)(us:zH),us.length=ps.length->bindArgs (fnOf x q (nh st) (mN st) (gi st) .none kV a pm an d ct) ⟨us,[]⟩=pure (ps.zip us)):FM K C x q st f (fnOf x q (nh st) (mN st) (gi st) .none kV dc pm an cd ct) ps:=⟨rB l c k,(rB l c k).binds b⟩
theorem D9q(X:K.In h)(G:h.Ns mainGlobals mg)(a:nsIn K mainGlobals x=some (some (.ref f)))(l:K.lookup f=some ⟨oc,od,.func (fnOf x x (nh st) (mN st) (gi st) .none kV dc pm an cd ct),sl⟩)(c:codeIn K cd x=true)(k:keepIn K (.ref f)=true)
  (b:∀(kV d pm:zX)(an:zO)(e ct:zX)(us:zH),us.length=ps.length->bindArgs (fnOf x x (nh st) (mN st) (gi st) .none kV d pm an e ct) ⟨us,[]⟩=pure (ps.zip us)):FQ K mg x st f (fnOf x x (nh st) (mN st) (gi st) .none kV dc pm an cd ct) ps:=⟨rB l c k,PySem.W.mg_of X G a,(rB l c k).binds b⟩
end
local macro_rules | `(tactic| walk_at"le") => `(tactic| (intro _ _ _ _ _ _; (repeat (refine D9n fun _ => ?_)); exact D8j rfl))
theorem D6e{l:PySem.W.OpenLaw}{w:yD}{K:Frag}{mg:zE}{c:zW}{t:Adr}(a:mg "law"=some (.ref c))(T:Txt K mg t)(b:∀(s:zY)(v:zX),BindsTo s t.ff ⟨[v],[]⟩ [("_law_script",v)]):
  ∃fd:zS,(∀(s:zY)(v:zX),BindsTo s fd ⟨[v],[]⟩ [("_law_script",v)])/\∀base:yA,K.In base->base.Ns mainGlobals mg->A4x l.prog w K mg base jk 18 c fd ["_law_script"] (rq K):=by
 have e:=a.symm.trans T.eS.m;cases e;exact⟨_,b,λbase _ _=>Cb T⟩
theorem walk{l:PySem.W.OpenLaw}{q:yB}{b:zC}{XP:zE->yA->Prop}{YP:yD->yA->Prop}{d:DefRec}{K:Params->Frag}(j:l.most=some 63)(c:d.params.defaults=[])
  (m:∀(w:yD)(h:yA),YP w h->(K w.params).In h)
  (F:∀(w:yD)(mg:zE)(e:zW)(h:yA),(K w.params).In h->h.Ns mainGlobals mg->mg d.name=some (.ref e)->
   ∃fd:zS,(∀(s:zY)(u:zX),BindsTo s fd ⟨[u],[]⟩ [("_law_script",u)])/\∀base:yA,(K w.params).In base->base.Ns mainGlobals mg->A4x l.prog w (K w.params) mg base jk 18 e fd ["_law_script"] (rq (K w.params))):
  PySem.W.WalkO q b XP YP l.row.toRowW d [] (λf vs=>PySem.call f vs):=
 L2.D3t (n:=63) (k:=18) (x:="_law_script") (CX:=λ_=>jk) (sp:=λw=>rq (K w.params)) j (by decide) c ⟨rfl,by decide,by decide,rfl⟩ m F (λ_ _ a i g _ o=>⟨a,i,rfl,o,g,λ_=>rfl⟩) λ_ _ _ _ _ z=>z
end My
open PySem PySem.W PyProof.Rows
set_option maxRecDepth 100000 in
set_option maxHeartbeats 0 in
theorem PySem.Challenge.cw_arrayloom_k57_needs_told_holds : PySem.Challenge.rw_arrayloom_k57_needs_told.Holds := by
 w_on;o_law;k_head;(case hw=>w_witness2)
 k_fill
 refine My.walk (l:=PySem.Challenge.rw_arrayloom_k57_needs_told) rfl rfl (λw h Y=>PySem.W.kIn_of Y) ?F
 case F =>
  intro w d e h KX G c;refine' My.D6e (t:= .mk ..) c ?T ?b
  case T =>
   constructor <;> (try dsimp only) <;> first |k_is |((with_reducible refine mg_of KX G ?_);k_is) |((with_reducible refine mg_none_of KX G ?_);k_is) |((with_reducible apply My.D9q KX G) <;> first |k_is |(intro _ _ _ _ _ _;(repeat (refine My.D9n λ_=> ?_));exact My.D8j rfl)) |((with_reducible apply My.D9a) <;> first |k_is |(intro _ _ _ _ _ _;(repeat (refine My.D9n λ_=> ?_));exact My.D8j rfl)) |((with_reducible refine L2.kit_true ?_ ?_ ?_) <;> k_is) |((with_reducible refine L2.kit_false (by first |rfl |decide) ?_ ?_ ?_) <;> k_is) |((with_reducible refine L2.exm_of ?_ ?_ ?_ ?_) <;> k_is) |(show findIn _ _ _=_;k_is) |kernel_rfl |(refine' ⟨_,mg_of KX G ?a,?b⟩;(case a=>k_is);(case b=>first |exact⟨_,rfl⟩ |rfl)) |(constructor <;> first |k_is |(show findIn _ _ _=_;k_is) |kernel_rfl |(constructor <;> k_is))
  case b=>exact λs v=> .of_eq rfl
