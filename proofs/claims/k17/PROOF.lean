import PyProof.Rows.All
import Wide.All
import OpenK.AllK
import Wide.FinOn
import Lean
import PySem.Challenge.RW_arrayloom_k17_let_by
set_option compiler.extract_closed false
section
open PySem PySem.Spec PyProof.Rows PySem.Calls
abbrev cz:=@wpAny_bind
abbrev gc:=@Heap.get?_push_of_some
abbrev pH:=@List.mem_append_right
abbrev ml:=@List.getElem?_eq_some_iff
abbrev ff:=@wpAny_pure
abbrev qk:=@List.mem_append_left
abbrev mx:=@List.length_append
abbrev mX:=@List.mem_append
abbrev dm:=@List.length_map
abbrev fy:=@Nat.le_refl
abbrev lI:=@Heap.lt_size
abbrev nP:=@List.getElem?_eq_getElem
abbrev nc:=@Heap.get?_push_size
abbrev oW:=@PyProof.Rows.boot_isinstance
abbrev lY:=@List.mem_cons
abbrev oz:=@List.size_toArray
abbrev mG:=@Nat.ne_of_lt
abbrev rg:=@Option.map_eq_some_iff
abbrev ui:=@List.length_singleton
abbrev qR:=@PySem.F.plainAttrs_list
abbrev qp:=@List.nodup_append
abbrev tL:=@PyProof.Rows.boot_tuple
abbrev sS:=@PySem.F.slot_list_append
abbrev sR:=@PySem.F.type_list_append
abbrev mi:=@List.map_cons
abbrev oV:=@Nat.lt_of_lt_of_le
abbrev lR:=@List.map_append
abbrev fa:=@if_neg
abbrev ox:=@List.append_nil
abbrev nA:=@Bool.false_ne_true
abbrev mn:=@List.mem_singleton
abbrev mK:=@List.length_take
abbrev nG:=@List.length_cons
abbrev pj:=@List.append_assoc
abbrev oj:=@wpAny_mono
abbrev nV:=@wpAny_field
abbrev eH:=@if_pos
abbrev me:=@List.mem_of_getElem?
abbrev mQ:=@List.take_add_one
abbrev tK:=@List.nodup_cons
abbrev tJ:=@wpAny_newObj_type
abbrev na:=@List.take_length
abbrev uI:=@List.length_drop
abbrev rJ:=@Option.some.inj
abbrev tI:=@wpAny_callSpecial?_slot
abbrev uG:=@Heap.get?_update_other
abbrev pG:=@Nat.zero_le
abbrev uF:=@List.mem_cons_of_mem
abbrev tH:=@wpAny_call_entry
abbrev vd:=@wpAny_setField_rec
abbrev qQ:=@List.not_mem_nil
abbrev mT:=@decide_eq_false
abbrev sQ:=@wpAny_loadPart_at
abbrev rf:=@List.getElem?_append_right
abbrev wG:=@Array.getElem?_eq_some_iff
abbrev oU:=@Nat.le_trans
abbrev tF:=@PyProof.Rows.boot_list
abbrev sP:=@Int.emod_lt_of_pos
abbrev pP:=@Nat.ne_of_gt
abbrev vc:=@Heap.get?_update_self
abbrev rW:=@Heap.size_push
abbrev vb:=@wpAny_setField
abbrev rH:=@Int.emod_nonneg
abbrev qC:=@wpAny_holding
abbrev uh:=@Bool.and_eq_true
abbrev uZ:=@wpAny_standAt
abbrev oH:=@List.getElem?_map
abbrev mP:=@decide_eq_true
abbrev rG:=@wpAny_seqItems
abbrev uE:=@beq_eq_false_iff_ne
abbrev xH:=@List.getElem?_set_self
abbrev xG:=@Array.getElem?_setIfInBounds_ne
abbrev rF:=@List.getElem?_append_left
abbrev vD:=@List.mem_cons_self
abbrev rV:=@List.lookup_cons
abbrev xF:=@List.getElem?_set_ne
abbrev vC:=@wpAny_execs_nil
abbrev pd:=@List.mem_map
abbrev wF:=@Nat.lt_of_le_of_lt
abbrev wE:=@List.take_append_drop
abbrev nO:=@Option.toList_some
abbrev pO:=@List.length_nil
abbrev sO:=@List.find?_cons
abbrev sN:=@List.drop_length
abbrev wD:=@PyProof.Rows.slot_tuple_getitem
abbrev rT:=@List.take_of_length_le
abbrev wC:=@List.getElem?_zip_eq_some
abbrev xE:=@List.length_eq_zero_iff
abbrev uD:=@List.take_sublist
abbrev tE:=@List.mem_of_mem_take
abbrev vB:=@PyProof.Rows.boot_dict
abbrev ug:=@List.drop_zero
end
noncomputable section
open PySem.W (Frag findIn nsIn mroIn kitOne keepIn typeIn hideAll isFn plainGet isClsIn hasDictIn exmOne plainOver makesIn clsIn fnOf emptyDict instObj excIn kitAny takesIn specialIn subIn codeIn)
set_option Elab.async false
set_option bootstrap.genMatcherCode false
set_option linter.all false
set_option maxRecDepth 100000
set_option maxHeartbeats 4000000
section
variable{G:Prop}{T0 T1 T2 T3 T4 T5 T6 T7 T8 T9 T10 T11 T12:Sort _}{A0 A1 A2 A3 A4:Prop}{B0 B1 B2 B3:T0->Prop}{C0 C1 C2 C3 C4 C5:T0->T1->Prop}{D0 D1 D2 D3 D4 D5:T0->T1->T2->Prop}{E0 E1 E2 E3 E4 E5:T0->T1->T2->T3->Prop}{F0 F1 F2 F3 F4 F5:T0->T1->T2->T3->T4->Prop}{G0 G1 G2 G3 G4 G5 G6:T0->T1->T2->T3->T4->T5->Prop}{H0 H1 H2 H3 H4 H5 H6:T0->T1->T2->T3->T4->T5->T6->Prop}{J0:T0->T1->T2->T3->T4->T5->T6->T7->T8->Prop}{N0:T0->T1->T2->T3->T4->T5->T6->T7->T8->T9->T10->T11->T12->Prop}
theorem fI:A0->A1->A2->A0/\A1/\A2:=λm n i=>⟨m,n,i⟩
theorem pM:A0->∀x,B0 x->A0/\∃x,B0 x:=λm x n=>⟨m,x,n⟩
theorem cb:∀x,B0 x->B1 x->∃x,B0 x/\B1 x:=λx m n=>⟨x,m,n⟩
theorem oi:∀x y,C0 x y->∃x y,C0 x y:=λx y m=>⟨x,y,m⟩
theorem lX:A0->A1->A2->A3->A0/\A1/\A2/\A3:=λm n i j=>⟨m,n,i,j⟩
theorem kB:A0->∀x,B0 x->B1 x->A0/\∃x,B0 x/\B1 x:=λm x n i=>⟨m,x,n,i⟩
theorem fx:∀x,B0 x->B1 x->B2 x->∃x,B0 x/\B1 x/\B2 x:=λx m n i=>⟨x,m,n,i⟩
theorem mL:∀x y,C0 x y->C1 x y->∃x y,C0 x y/\C1 x y:=λx y m n=>⟨x,y,m,n⟩
theorem qB:∀x y z,D0 x y z->∃x y z,D0 x y z:=λx y z m=>⟨x,y,z,m⟩
theorem lP:A0->A1->A2->A3->A4->A0/\A1/\A2/\A3/\A4:=λm n i j k=>⟨m,n,i,j,k⟩
theorem nu:A0->A1->∀x,B0 x->B1 x->A0/\A1/\∃x,B0 x/\B1 x:=λm n x i j=>⟨m,n,x,i,j⟩
theorem mW:A0->∀x,B0 x->B1 x->B2 x->A0/\∃x,B0 x/\B1 x/\B2 x:=λm x n i j=>⟨m,x,n,i,j⟩
theorem qP:A0->∀x y,C0 x y->C1 x y->A0/\∃x y,C0 x y/\C1 x y:=λm x y n i=>⟨m,x,y,n,i⟩
theorem nr:∀x,B0 x->B1 x->B2 x->B3 x->∃x,B0 x/\B1 x/\B2 x/\B3 x:=λx m n i j=>⟨x,m,n,i,j⟩
theorem sM:∀x,B0 x->B1 x->∀y,C0 x y->∃x,B0 x/\B1 x/\∃y,C0 x y:=λx m n y i=>⟨x,m,n,y,i⟩
theorem mE:∀x,B0 x->∀y,C0 x y->C1 x y->∃x,B0 x/\∃y,C0 x y/\C1 x y:=λx m y n i=>⟨x,m,y,n,i⟩
theorem dV:∀x y,C0 x y->C1 x y->C2 x y->∃x y,C0 x y/\C1 x y/\C2 x y:=λx y m n i=>⟨x,y,m,n,i⟩
theorem pb:∀x y z,D0 x y z->D1 x y z->∃x y z,D0 x y z/\D1 x y z:=λx y z m n=>⟨x,y,z,m,n⟩
theorem nE:A0->∀x y,C0 x y->C1 x y->C2 x y->A0/\∃x y,C0 x y/\C1 x y/\C2 x y:=λm x y n i j=>⟨m,x,y,n,i,j⟩
theorem qj:∀x,B0 x->B1 x->∀y,C0 x y->C1 x y->∃x,B0 x/\B1 x/\∃y,C0 x y/\C1 x y:=λx m n y i j=>⟨x,m,n,y,i,j⟩
theorem mH:∀x,B0 x->∀y,C0 x y->C1 x y->C2 x y->∃x,B0 x/\∃y,C0 x y/\C1 x y/\C2 x y:=λx m y n i j=>⟨x,m,y,n,i,j⟩
theorem nT:∀x,B0 x->∀y z u,E0 x y z u->∃x,B0 x/\∃y z u,E0 x y z u:=λx m y z u n=>⟨x,m,y,z,u,n⟩
theorem lQ:∀x y,C0 x y->C1 x y->C2 x y->C3 x y->∃x y,C0 x y/\C1 x y/\C2 x y/\C3 x y:=λx y m n i j=>⟨x,y,m,n,i,j⟩
theorem nM:∀x y z,D0 x y z->D1 x y z->D2 x y z->∃x y z,D0 x y z/\D1 x y z/\D2 x y z:=λx y z m n i=>⟨x,y,z,m,n,i⟩
theorem lL:∀x,B0 x->∀y z,D0 x y z->D1 x y z->D2 x y z->∃x,B0 x/\∃y z,D0 x y z/\D1 x y z/\D2 x y z:=λx m y z n i j=>⟨x,m,y,z,n,i,j⟩
theorem mJ:∀x y,C0 x y->C1 x y->C2 x y->C3 x y->C4 x y->∃x y,C0 x y/\C1 x y/\C2 x y/\C3 x y/\C4 x y:=λx y m n i j k=>⟨x,y,m,n,i,j,k⟩
theorem ot:∀x y,C0 x y->C1 x y->∀z,D0 x y z->D1 x y z->∃x y,C0 x y/\C1 x y/\∃z,D0 x y z/\D1 x y z:=λx y m n z i j=>⟨x,y,m,n,z,i,j⟩
theorem mh:∀x y z,D0 x y z->D1 x y z->D2 x y z->D3 x y z->∃x y z,D0 x y z/\D1 x y z/\D2 x y z/\D3 x y z:=λx y z m n i j=>⟨x,y,z,m,n,i,j⟩
theorem sK:∀x y,C0 x y->C1 x y->C2 x y->C3 x y->C4 x y->C5 x y->∃x y,C0 x y/\C1 x y/\C2 x y/\C3 x y/\C4 x y/\C5 x y:=λx y m n i j k l=>⟨x,y,m,n,i,j,k,l⟩
theorem oq:∀x y z,D0 x y z->D1 x y z->D2 x y z->D3 x y z->D4 x y z->∃x y z,D0 x y z/\D1 x y z/\D2 x y z/\D3 x y z/\D4 x y z:=λx y z m n i j k=>⟨x,y,z,m,n,i,j,k⟩
theorem wB:∀x,B0 x->B1 x->∀y,C0 x y->C1 x y->C2 x y->∀z,D0 x y z->∃x,B0 x/\B1 x/\∃y,C0 x y/\C1 x y/\C2 x y/\∃z,D0 x y z:=λx m n y i j k z l=>⟨x,m,n,y,i,j,k,z,l⟩
theorem nh:∀x,B0 x->∀y,C0 x y->∀z u,E0 x y z u->E1 x y z u->E2 x y z u->∃x,B0 x/\∃y,C0 x y/\∃z u,E0 x y z u/\E1 x y z u/\E2 x y z u:=λx m y n z u i j k=>⟨x,m,y,n,z,u,i,j,k⟩
theorem qA:∀x y z,D0 x y z->D1 x y z->D2 x y z->D3 x y z->D4 x y z->D5 x y z->∃x y z,D0 x y z/\D1 x y z/\D2 x y z/\D3 x y z/\D4 x y z/\D5 x y z:=λx y z m n i j k l=>⟨x,y,z,m,n,i,j,k,l⟩
theorem nD:∀x y z u,E0 x y z u->E1 x y z u->E2 x y z u->E3 x y z u->E4 x y z u->∃x y z u,E0 x y z u/\E1 x y z u/\E2 x y z u/\E3 x y z u/\E4 x y z u:=λx y z u m n i j k=>⟨x,y,z,u,m,n,i,j,k⟩
theorem qi:∀x,B0 x->∀y z,D0 x y z->D1 x y z->D2 x y z->∀u,E0 x y z u->E1 x y z u->∃x,B0 x/\∃y z,D0 x y z/\D1 x y z/\D2 x y z/\∃u,E0 x y z u/\E1 x y z u:=λx m y z n i j u k l=>⟨x,m,y,z,n,i,j,u,k,l⟩
theorem nC:∀x,B0 x->∀y z u v,F0 x y z u v->F1 x y z u v->F2 x y z u v->F3 x y z u v->∃x,B0 x/\∃y z u v,F0 x y z u v/\F1 x y z u v/\F2 x y z u v/\F3 x y z u v:=λx m y z u v n i j k=>⟨x,m,y,z,u,v,n,i,j,k⟩
theorem og:∀x y z u,E0 x y z u->E1 x y z u->E2 x y z u->E3 x y z u->E4 x y z u->E5 x y z u->∃x y z u,E0 x y z u/\E1 x y z u/\E2 x y z u/\E3 x y z u/\E4 x y z u/\E5 x y z u:=λx y z u m n i j k l=>⟨x,y,z,u,m,n,i,j,k,l⟩
theorem oT:∀x y z u v w p q r,J0 x y z u v w p q r->∃x y z u v w p q r,J0 x y z u v w p q r:=λx y z u v w p q r m=>⟨x,y,z,u,v,w,p,q,r,m⟩
theorem i12:∀x,B0 x->∀y,C0 x y->∀z,D0 x y z->∀u v,F0 x y z u v->F1 x y z u v->F2 x y z u v->∃x,B0 x/\∃y,C0 x y/\∃z,D0 x y z/\∃u v,F0 x y z u v/\F1 x y z u v/\F2 x y z u v:=λx m y n z i u v j k l=>⟨x,m,y,n,z,i,u,v,j,k,l⟩
theorem ng:∀x,B0 x->∀y z u v,F0 x y z u v->F1 x y z u v->F2 x y z u v->F3 x y z u v->F4 x y z u v->∃x,B0 x/\∃y z u v,F0 x y z u v/\F1 x y z u v/\F2 x y z u v/\F3 x y z u v/\F4 x y z u v:=λx m y z u v n i j k l=>⟨x,m,y,z,u,v,n,i,j,k,l⟩
theorem nL:∀x y z u v,F0 x y z u v->F1 x y z u v->F2 x y z u v->F3 x y z u v->F4 x y z u v->F5 x y z u v->∃x y z u v,F0 x y z u v/\F1 x y z u v/\F2 x y z u v/\F3 x y z u v/\F4 x y z u v/\F5 x y z u v:=λx y z u v m n i j k l=>⟨x,y,z,u,v,m,n,i,j,k,l⟩
theorem md:∀x,B0 x->∀y z u v,F0 x y z u v->F1 x y z u v->F2 x y z u v->∀w,G0 x y z u v w->G1 x y z u v w->∃x,B0 x/\∃y z u v,F0 x y z u v/\F1 x y z u v/\F2 x y z u v/\∃w,G0 x y z u v w/\G1 x y z u v w:=λx m y z u v n i j w k l=>⟨x,m,y,z,u,v,n,i,j,w,k,l⟩
theorem qz:∀x,B0 x->∀y z,D0 x y z->D1 x y z->D2 x y z->∀u v,F0 x y z u v->F1 x y z u v->F2 x y z u v->F3 x y z u v->∃x,B0 x/\∃y z,D0 x y z/\D1 x y z/\D2 x y z/\∃u v,F0 x y z u v/\F1 x y z u v/\F2 x y z u v/\F3 x y z u v:=λx m y z n i j u v k l o a=>⟨x,m,y,z,n,i,j,u,v,k,l,o,a⟩
theorem hP:∀x,B0 x->∀y z u v w,G0 x y z u v w->G1 x y z u v w->G2 x y z u v w->G3 x y z u v w->G4 x y z u v w->G5 x y z u v w->∃x,B0 x/\∃y z u v w,G0 x y z u v w/\G1 x y z u v w/\G2 x y z u v w/\G3 x y z u v w/\G4 x y z u v w/\G5 x y z u v w:=λx m y z u v w n i j k l o=>⟨x,m,y,z,u,v,w,n,i,j,k,l,o⟩
theorem qO:∀x y,C0 x y->C1 x y->C2 x y->∀z u,E0 x y z u->∀v w,G0 x y z u v w->G1 x y z u v w->G2 x y z u v w->∃x y,C0 x y/\C1 x y/\C2 x y/\∃z u,E0 x y z u/\∃v w,G0 x y z u v w/\G1 x y z u v w/\G2 x y z u v w:=λx y m n i z u j v w k l o=>⟨x,y,m,n,i,z,u,j,v,w,k,l,o⟩
theorem oZ:∀x y z u v w,G0 x y z u v w->G1 x y z u v w->G2 x y z u v w->G3 x y z u v w->G4 x y z u v w->G5 x y z u v w->G6 x y z u v w->∃x y z u v w,G0 x y z u v w/\G1 x y z u v w/\G2 x y z u v w/\G3 x y z u v w/\G4 x y z u v w/\G5 x y z u v w/\G6 x y z u v w:=λx y z u v w m n i j k l o=>⟨x,y,z,u,v,w,m,n,i,j,k,l,o⟩
theorem pF:∀x,B0 x->∀y,C0 x y->∀z u v w,G0 x y z u v w->G1 x y z u v w->G2 x y z u v w->G3 x y z u v w->G4 x y z u v w->G5 x y z u v w->∃x,B0 x/\∃y,C0 x y/\∃z u v w,G0 x y z u v w/\G1 x y z u v w/\G2 x y z u v w/\G3 x y z u v w/\G4 x y z u v w/\G5 x y z u v w:=λx m y n z u v w i j k l o a=>⟨x,m,y,n,z,u,v,w,i,j,k,l,o,a⟩
theorem pY:∀x,B0 x->∀y z u v,F0 x y z u v->F1 x y z u v->F2 x y z u v->F3 x y z u v->F4 x y z u v->∀w,G0 x y z u v w->G1 x y z u v w->∃x,B0 x/\∃y z u v,F0 x y z u v/\F1 x y z u v/\F2 x y z u v/\F3 x y z u v/\F4 x y z u v/\∃w,G0 x y z u v w/\G1 x y z u v w:=λx m y z u v n i j k l w o a=>⟨x,m,y,z,u,v,n,i,j,k,l,w,o,a⟩
theorem qo:∀x y z u v w p,H0 x y z u v w p->H1 x y z u v w p->H2 x y z u v w p->H3 x y z u v w p->H4 x y z u v w p->H5 x y z u v w p->H6 x y z u v w p->∃x y z u v w p,H0 x y z u v w p/\H1 x y z u v w p/\H2 x y z u v w p/\H3 x y z u v w p/\H4 x y z u v w p/\H5 x y z u v w p/\H6 x y z u v w p:=λx y z u v w p m n i j k l o=>⟨x,y,z,u,v,w,p,m,n,i,j,k,l,o⟩
theorem oS:∀x,B0 x->∀y,C0 x y->∀z u v w p,H0 x y z u v w p->H1 x y z u v w p->H2 x y z u v w p->H3 x y z u v w p->H4 x y z u v w p->H5 x y z u v w p->∃x,B0 x/\∃y,C0 x y/\∃z u v w p,H0 x y z u v w p/\H1 x y z u v w p/\H2 x y z u v w p/\H3 x y z u v w p/\H4 x y z u v w p/\H5 x y z u v w p:=λx m y n z u v w p i j k l o a=>⟨x,m,y,n,z,u,v,w,p,i,j,k,l,o,a⟩
theorem nw(h:∃x,B0 x/\B1 x/\B2 x)(f:∀x,B0 x->B1 x->B2 x->G):G:=by obtain⟨x,m,n,i⟩:=h;exact f x m n i
theorem mF(h:∃x y z,D0 x y z)(f:∀x y z,D0 x y z->G):G:=by obtain⟨x,y,z,m⟩:=h;exact f x y z m
theorem mM(h:A0/\A1/\A2/\A3/\A4)(f:A0->A1->A2->A3->A4->G):G:=by obtain⟨m,n,i,j,k⟩:=h;exact f m n i j k
theorem pN(h:A0/\A1/\∃x,B0 x/\B1 x)(f:A0->A1->∀x,B0 x->B1 x->G):G:=by obtain⟨m,n,x,i,j⟩:=h;exact f m n x i j
theorem qb(h:A0/\∃x y,C0 x y/\C1 x y)(f:A0->∀x y,C0 x y->C1 x y->G):G:=by obtain⟨m,x,y,n,i⟩:=h;exact f m x y n i
theorem ei(h:∃x y,C0 x y/\C1 x y/\C2 x y)(f:∀x y,C0 x y->C1 x y->C2 x y->G):G:=by obtain⟨x,y,m,n,i⟩:=h;exact f x y m n i
theorem qa(h:∃x,B0 x/\∃y z u,E0 x y z u)(f:∀x,B0 x->∀y z u,E0 x y z u->G):G:=by obtain⟨x,m,y,z,u,n⟩:=h;exact f x m y z u n
theorem lS(h:∃x y,C0 x y/\C1 x y/\C2 x y/\C3 x y)(f:∀x y,C0 x y->C1 x y->C2 x y->C3 x y->G):G:=by obtain⟨x,y,m,n,i,j⟩:=h;exact f x y m n i j
theorem nN(h:∃x y z u v,F0 x y z u v)(f:∀x y z u v,F0 x y z u v->G):G:=by obtain⟨x,y,z,u,v,m⟩:=h;exact f x y z u v m
theorem nF(h:∃x y z,D0 x y z/\D1 x y z/\D2 x y z/\D3 x y z)(f:∀x y z,D0 x y z->D1 x y z->D2 x y z->D3 x y z->G):G:=by obtain⟨x,y,z,m,n,i,j⟩:=h;exact f x y z m n i j
theorem xD(h:A0/\∃x,B0 x/\∃y,C0 x y/\C1 x y/\∃z,D0 x y z)(f:A0->∀x,B0 x->∀y,C0 x y->C1 x y->∀z,D0 x y z->G):G:=by obtain⟨m,x,n,y,i,j,z,k⟩:=h;exact f m x n y i j z k
theorem uY(h:∃x y,C0 x y/\C1 x y/\∃z u v,F0 x y z u v)(f:∀x y,C0 x y->C1 x y->∀z u v,F0 x y z u v->G):G:=by obtain⟨x,y,m,n,z,u,v,i⟩:=h;exact f x y m n z u v i
theorem ou(h:∃x y z u,E0 x y z u/\E1 x y z u/\E2 x y z u/\E3 x y z u)(f:∀x y z u,E0 x y z u->E1 x y z u->E2 x y z u->E3 x y z u->G):G:=by obtain⟨x,y,z,u,m,n,i,j⟩:=h;exact f x y z u m n i j
theorem rE(h:A0/\A1/\∃x,B0 x/\∃y z u,E0 x y z u/\E1 x y z u)(f:A0->A1->∀x,B0 x->∀y z u,E0 x y z u->E1 x y z u->G):G:=by obtain⟨m,n,x,i,y,z,u,j,k⟩:=h;exact f m n x i y z u j k
theorem nU(h:∃x y z u v,F0 x y z u v/\F1 x y z u v/\F2 x y z u v/\F3 x y z u v/\F4 x y z u v)(f:∀x y z u v,F0 x y z u v->F1 x y z u v->F2 x y z u v->F3 x y z u v->F4 x y z u v->G):G:=by obtain⟨x,y,z,u,v,m,n,i,j,k⟩:=h;exact f x y z u v m n i j k
theorem pZ(h:∃x y z u v w p q r,J0 x y z u v w p q r)(f:∀x y z u v w p q r,J0 x y z u v w p q r->G):G:=by obtain⟨x,y,z,u,v,w,p,q,r,m⟩:=h;exact f x y z u v w p q r m
theorem rD(h:∃x y z u v w,G0 x y z u v w/\G1 x y z u v w/\G2 x y z u v w/\G3 x y z u v w/\G4 x y z u v w/\G5 x y z u v w)(f:∀x y z u v w,G0 x y z u v w->G1 x y z u v w->G2 x y z u v w->G3 x y z u v w->G4 x y z u v w->G5 x y z u v w->G):G:=by obtain⟨x,y,z,u,v,w,m,n,i,j,k,l⟩:=h;exact f x y z u v w m n i j k l
theorem xC(h:A0/\∃x y z u v w p q r s t a b,N0 x y z u v w p q r s t a b)(f:A0->∀x y z u v w p q r s t a b,N0 x y z u v w p q r s t a b->G):G:=by obtain⟨m,x,y,z,u,v,w,p,q,r,s,t,a,b,n⟩:=h;exact f m x y z u v w p q r s t a b n
end
abbrev zW:=PySem.Addr
abbrev zX:=PySem.Value
abbrev zY:=PySem.Shared
abbrev zZ:=PySem.Around
abbrev yA:=PySem.Heap
abbrev yB:=PySem.Program
abbrev yC:=PySem.Expr
abbrev yD:=PySem.World
namespace L2
open PySem PySem.Spec PyProof.Rows
abbrev Key:=Sum Int Str
abbrev _root_.zA:=zX->zY->Prop
abbrev _root_.zB:=List (Str×List Str)
abbrev _root_.zC:=List Str
abbrev _root_.zD:=List (zW×Obj)
abbrev _root_.zE:=Str->Option zX
abbrev _root_.zF:=Array (Option zX)
abbrev _root_.zG:=Array zX
abbrev _root_.zH:=List zX
abbrev _root_.zI:=List Int
abbrev _root_.zL:=List (Str×Int)
abbrev _root_.zN:=Option zX
abbrev _root_.zO:=Option zW
abbrev _root_.zQ:=List zW
abbrev _root_.zR:=Str->Int
abbrev _root_.zS:=FuncData
abbrev _root_.zT:=List yC
abbrev _root_.zU:=List Key
abbrev _root_.zV:=zW->Prop
def vf:Key->zX->Bool|.inl k,v=>Value.isInt k v|.inr x,v=>Value.isStrOf x v
def keyH(w:yD):Key->Int|.inl k=>hashInt k|.inr x=>hashStr w x
theorem uf:∀{k:Key}{v:zX},vf k v=true->(∃i t,k=Sum.inl i/\v=Value.int i t)\/(∃x t,k=Sum.inr x/\v=Value.str x t)|.inl i,v,h=>by obtain⟨t,e⟩:=Value.isInt_shape (k:=i) (v:=v) h;exact .inl (mL i t rfl e)|.inr x,v,h=>by obtain⟨t,e⟩:=Value.isStrOf_shape (x:=x) (v:=v) h;exact .inr (mL x t rfl e)
theorem LM(i:Int)(t:Tok):vf (.inl i) (.int i t)=true:=by simp[vf,Value.isInt]
theorem L7(x:Str)(t:Tok):vf (.inr x) (.str x t)=true:=by simp[vf,Value.isStrOf]
theorem HK(a b:Int):decide ((Sum.inl a:Key)=Sum.inl b)=(a==b):=by
 by_cases e:a=b
 ·subst e;simp
 ·have h:¬(Sum.inl a:Key)=Sum.inl b:=λq=>e (Sum.inl.inj q);rw[mT h];exact(uE.mpr e).symm
theorem HM(a b:Str):decide ((Sum.inr a:Key)=Sum.inr b)=decide (a=b):=by
 by_cases e:a=b
 ·subst e;simp
 ·have h:¬(Sum.inr a:Key)=Sum.inr b:=λq=>e (Sum.inr.inj q);rw[mT h,mT e]
theorem HL(a:Int)(b:Str):decide ((Sum.inl a:Key)=Sum.inr b)=false:=mT (λq=>nomatch q)
theorem HF(a:Str)(b:Int):decide ((Sum.inr a:Key)=Sum.inl b)=false:=mT (λq=>nomatch q)
def oD(prog:yB)(w:yD):PySem.KeyKind prog w Key where
 is:=vf
 hash:=keyH w
 inj:=λv a b g d=>by
  rcases uf g with ⟨i,t,rfl,rfl⟩|⟨x,t,rfl,rfl⟩
  ·rcases uf d with ⟨j,u,rfl,e⟩|⟨y,u,rfl,e⟩
   ·injection e with e1 _;rw[e1]
   ·exact nomatch e
  ·rcases uf d with ⟨j,u,rfl,e⟩|⟨y,u,rfl,e⟩
   ·exact nomatch e
   ·injection e with e1 _;rw[e1]
 byValue:=λk v h=>by rcases uf h with ⟨i,t,rfl,rfl⟩|⟨x,t,rfl,rfl⟩<;>rfl
 pyHash:=λc h=>by
  rcases uf c with ⟨i,t,rfl,rfl⟩|⟨x,t,rfl,rfl⟩
  ·exact wpAny_pyHash_int h
  ·exact wpAny_pyHash_str h
 eqBool:=λf c h=>by
  rcases uf f with ⟨i,t,rfl,rfl⟩|⟨x,t,rfl,rfl⟩
  ·rcases uf c with ⟨j,u,rfl,rfl⟩|⟨y,u,rfl,rfl⟩
   ·rw[HK]at h;exact wpAny_eqBool_int h
   ·rw[HL]at h;exact SeqAt.EqAt.int_str i t y u _ _ _ _ h
  ·rcases uf c with ⟨j,u,rfl,rfl⟩|⟨y,u,rfl,rfl⟩
   ·rw[HF]at h;exact SeqAt.EqAt.str_int x t j u _ _ _ _ h
   ·rw[HM]at h;exact wpAny_eqBool_str h
 «strs»:=λk x t v h=>by
  rcases uf h with ⟨i,u,rfl,e⟩|⟨y,u,rfl,e⟩
  ·exact nomatch e
  ·injection e with e1 _;subst e1;cases v<;>rfl
theorem NF(prog:yB)(w:yD)(i:Int)(t:Tok):(oD prog w).is (.inl i) (.int i t)=true:=LM i t
theorem Np(prog:yB)(w:yD)(x:Str)(t:Tok):(oD prog w).is (.inr x) (.str x t)=true:=L7 x t
inductive V where
 |non|bl (b:Bool)|int (i:Int)|str (x:Str)|byt (b:Array UInt8)|flt (b:UInt64)|ref (a:zW)|ty (n:String)
 deriving DecidableEq
abbrev _root_.zJ:=List (Key×V)
abbrev _root_.zK:=List (Str×V)
abbrev _root_.zM:=List V
abbrev _root_.zP:=Option V
def A2z:V->zX->Prop|.non,u=>u=Value.none|.bl b,u=>u=Value.bool b|.int i,u=>∃t,u=Value.int i t|.str x,u=>∃t,u=Value.str x t|.byt b,u=>∃t,u=Value.bytes b t|.flt b,u=>∃t,u=Value.float b t|.ref a,u=>u=Value.ref a|.ty n,u=>u=Value.type n
abbrev A2m:zM->List zX->Prop:=Paired A2z
theorem A2m.length{xs:zM}{us:zH}(r:A2m xs us):xs.length=us.length:=Paired.length r
theorem A2m.get:∀{xs:zM}{us:zH}{i:Nat}{x:V},A2m xs us->xs[i]?=some x->∃u,us[i]?=some u/\A2z x u|_,_,_,_,.nil,e=>by simp at e|_,_,0,_,.cons r _,e=>by simp at e;subst e;exact cb _ rfl r|_,_,i+1,x,.cons _ t,e=>by obtain⟨u,a,b⟩:=A2m.get (i:=i) (x:=x) t (by simpa using e);exact cb u (by simpa using a) b
theorem A2m.append:∀{xs ys:zM}{us ws:zH},A2m xs us->A2m ys ws->A2m (xs++ys) (us++ws)|_,_,_,_,.nil,s=>s|_,_,_,_,.cons r t,s=>.cons r (A2m.append t s)
theorem A2m.take:∀{xs:zM}{us:zH}(n:Nat),A2m xs us->A2m (xs.take n) (us.take n)|_,_,0,_=>.nil|_,_,_+1,.nil=>.nil|_,_,n+1,.cons r t=>.cons r (A2m.take n t)
theorem A2m.drop:∀{xs:zM}{us:zH}(n:Nat),A2m xs us->A2m (xs.drop n) (us.drop n)|_,_,0,r=>r|_,_,_+1,.nil=>.nil|_,_,n+1,.cons _ t=>A2m.drop n t
def B5d:zP->Option zX->Prop|some v,some u=>A2z v u|none,none=>True|_,_=>False
def KV{κ:Type}:List (κ×V)->List (κ×zX)->Prop:=Paired λ(p:κ×V)(q:κ×zX)=>p.1=q.1/\A2z p.2 q.2
def kV:Key->V|.inl i=>.int i|.inr x=>.str x
inductive HO where|lst (xs:zM)|tup (xs:zM)|dK (kvs:zJ)|dT (kvs:List (List Key×V))|set (S:Int->Bool) (n:Nat)|ins (C dx:zW) (fs:zK)|own (x:zW)|xd (fs:zK)|met (f x:zW)|rng (lo hi:Int)|frz (o:Obj) (u:HO)|tbl (ps:zG)|ext (φ:yA->Prop)
abbrev Hp:=zW->Option HO
def upd(H:Hp)(a:zW)(o:HO):Hp:=λb=>if b=a then some o else H b
theorem cp{H:Hp}{a:zW}{o:HO}:upd H a o a=some o:=by unfold upd;rw[eH rfl]
theorem eh{H:Hp}{a b:zW}{o:HO}(h:b≠a):upd H a o b=H b:=by unfold upd;rw[fa h]
theorem ut{H:Hp}{a:zW}{o u:HO}:upd (upd H a o) a u=upd H a u:=by funext b;unfold upd;split<;>rfl
theorem mU{H:Hp}{a b:zW}{o u:HO}(h:H a=some o)(h':H b=some u)(d:o≠u):a≠b:=by intro e;subst e;rw[h]at h';exact d (rJ h')
theorem lO{H:Hp}{a b:zW}{o:HO}(h:H a=some o)(h':H b=none):a≠b:=by intro e;subst e;rw[h]at h';cases h'
section
variable(P:yB)(w:yD)
def A1p(H:Hp)(h:yA)(a:zW):HO->Prop
 |.lst c=>c.length<=sizeLine/\∃(b:zH)(n:Nat),A2m c b/\h.get? a=some {cls:=.type "list",data:=.seq b.toArray n}
 |.tup c=>c.length<=sizeLine/\∃b:zH,A2m c b/\IsTup h a b.toArray
 |.dK kvs=>kvs.length<=sizeLine/\(a==sysModules)=false/\∃g,KV kvs g/\h.DictOf (oD P w) a g
 |.dT kvs=>kvs.length<=sizeLine/\(a==sysModules)=false/\∃c:List (List Key×zW×zX),
   Paired (λ(p:List Key×V)(q:List Key×zW×zX)=>p.1=q.1/\H q.2.1=some (.tup (p.1.map kV))/\A2z p.2 q.2.2) kvs c/\
   ∃o j k,h.get? a=some o/\o.ExactDict/\o.data=.dict j k/\j.toList=c.map (entryOfKey (tupleKind (oD P w)))/\(c.map (·.1)).Nodup
 |.set S n=>h.SetOf (intKind P w) a S n
 |.ins C dx fs=>H dx=some (.own a)/\fs.length<=1000/\dx≠a/\h.get? a=some (instObj C dx)/\
   ∃d,h.Ns1 dx d/\(∀f,B5d (fs.lookup f) (d f))/\PySem.Within d (fs.map (·.1))
 |.own _=>∃o,h.get? a=some o
 |.xd fs=>∃d,h.Ns1 a d/\∀f,B5d (fs.lookup f) (d f)
 |.rng lo hi=>∃t u v,h.get? a=some {cls:=.type "range",data:=.fields #[.int lo t,.int hi u,.int 1 v]}
 |.frz o u=>h.get? a=some o/\A1p H h a u
 |.tbl ps=>h.get? a=some {cls:=.none,data:=.fields ps}
 |.met f x=>h.get? a=some (PySem.W.methodObj (.ref f) (.ref x))
 |.ext φ=>φ h/\(∃o,h.get? a=some o)/\∀e i:yA,φ e->(∀o,e.get? a=some o->i.get? a=some o)->φ i
def HOk(H:Hp)(h:yA):Prop:=∀a o,H a=some o->A1p P w H h a o
end
section
variable{P:yB}{w:yD}{H H':Hp}{h h':yA}{a:zW}{o:HO}
theorem A1p.lt(x:A1p P w H h a o):a<h.objs.size:=by
 cases o with
 |lst xs=>(refine qb x λ_ _ _ _ e=>?_;clear x);exact lI e
 |tup xs=>obtain⟨_,_,_,p⟩:=x;exact p.lt
 |dK kvs=>(refine rE x λ_ _ _ _ o _ _ e _=>?_;clear x);exact lI e
 |dT kvs=>(refine rE x λ_ _ _ _ o _ _ e _=>?_;clear x);exact lI e
 |set S n=>(refine mF x ?_;clear x;rintro o _ _ ⟨_,e,_⟩);exact lI e
 |ins C dx fs=>(refine mM x λ_ _ _ e _=>?_;clear x);exact lI e
 |own y=>obtain⟨_,e⟩:=x;exact lI e
 |xd fs=>obtain⟨_,⟨_,_,_,e,_⟩,_⟩:=x;exact lI e
 |rng lo hi=>obtain⟨_,_,_,e⟩:=x;exact lI e
 |frz ob u=>obtain⟨e,_⟩:=x;exact lI e
 |tbl ps=>exact lI (show h.get? a=some _ from x)
 |met f y=>exact lI (show h.get? a=some _ from x)
 |ext φ=>obtain⟨_,⟨_,e⟩,_⟩:=x;exact lI e
theorem Paired.mapP{α β:Type}{F G:α->β->Prop}:∀{c:List α}{d:List β},Paired F c d->(∀a b,F a b->G a b)->Paired G c d|_,_,.nil,_=>.nil|_,_,.cons r t,f=>.cons (f _ _ r) (Paired.mapP t f)
theorem A1p.stay(x:A1p P w H h a o)(k:∀b u,(b=a\/H b=some (.own a))->h.get? b=some u->h'.get? b=some u)
  (D:∀b,H b=some (.own a)->H' b=some (.own a)) (B:∀b xs,H b=some (.tup xs)->H' b=some (.tup xs)):A1p P w H' h' a o:=by
 induction o with
 |lst xs=>(refine qb x λz l n r e=>?_;clear x);exact qP z l n r (k _ _ (.inl rfl) e)
 |tup xs=>obtain⟨z,l,r,g,e,c⟩:=x;exact⟨z,(mE l r g (k _ _ (.inl rfl) e) c)⟩
 |dK kvs=>(refine rE x λz y F r g j i e c=>?_;clear x);exact nu z y F r (pb g j i (k _ _ (.inl rfl) e) c)
 |dT kvs=>refine rE x λz y xs r g j i e c=>?_;clear x;exact nu z y xs (Paired.mapP r λp q z=>(fI z.1 (B _ _ z.2.1) z.2.2)) (pb g j i (k _ _ (.inl rfl) e) c)
 |set S n=>(refine mF x ?_;clear x;rintro g j i ⟨t,e,c⟩);exact⟨g,(pb j i t (k _ _ (.inl rfl) e) c)⟩
 |ins C dx fs=>refine mM x ?_;clear x;rintro d z G e ⟨s,⟨m,j,i,I,c⟩,r⟩;exact fI (D _ d) z (nu G (k _ _ (.inl rfl) e) s (pb m j i (k _ _ (.inr d) I) c) r)
 |own y=>obtain⟨g,e⟩:=x;exact⟨g,k _ _ (.inl rfl) e⟩
 |xd fs=>obtain⟨s,⟨m,j,i,e,c⟩,r⟩:=x;exact cb s (pb m j i (k _ _ (.inl rfl) e) c) r
 |rng lo hi=>obtain⟨t,u,v,e⟩:=x;exact qB t u v (k _ _ (.inl rfl) e)
 |frz g u ih=>obtain⟨e,q⟩:=x;exact⟨k _ _ (.inl rfl) e,ih q⟩
 |tbl ps=>have e:h.get? a=some {cls:=.none,data:=.fields ps}:=x;show h'.get? a=some {cls:=.none,data:=.fields ps};exact k a _ (.inl rfl) e
 |met f y=>have e:h.get? a=some (PySem.W.methodObj (.ref f) (.ref y)):=x;show h'.get? a=some (PySem.W.methodObj (.ref f) (.ref y));exact k a _ (.inl rfl) e
 |ext φ=>obtain⟨p,⟨o,e⟩,A⟩:=x;exact fI (A _ _ p λo q=>k _ _ (.inl rfl) q) ⟨o,k _ _ (.inl rfl) e⟩ A
theorem HOk.lt(x:HOk P w H h)(e:H a=some o):a<h.objs.size:=(x a o e).lt
theorem HOk.fresh(x:HOk P w H h)(e:h.objs.size<=a):H a=none:=by
 cases q:H a with
 |none=>rfl
 |some u=>exact absurd (oV (x.lt q) e) (Nat.lt_irrefl _)
theorem HOk.kept(x:HOk P w H h)(k:∀b u,h.get? b=some u->h'.get? b=some u):HOk P w H h':=λa o e=>(x a o e).stay (λb u _ q=>k b u q) (λ_ q=>q) λ_ _ q=>q
theorem HOk.laid(x:HOk P w H h)(k:∀b u,h.get? b=some u->h'.get? b=some u)(g:h.objs.size<=a)(d:A1p P w (upd H a o) h' a o):HOk P w (upd H a o) h':=λb u e=>by
 have f:=x.fresh g;by_cases hb:b=a
 ·subst hb;rw[cp]at e;cases e;exact d
 ·rw[eh hb]at e;exact(x b u e).stay (λc v _ q=>k c v q) (λc q=>by rw[eh (lO q f)];exact q) λc i q=>by rw[eh (lO q f)];exact q
end
def Rd(H:Hp)(a:zW)(u:HO):Prop:=H a=some u\/∃o,H a=some (.frz o u)
theorem Rd.ok{P:yB}{w:yD}{H:Hp}{h:yA}{a:zW}{u:HO}(r:Rd H a u)(x:HOk P w H h):A1p P w H h a u:=by
 rcases r with r|⟨o,r⟩
 ·exact x a u r
 ·obtain⟨_,q⟩:=x a _ r;exact q
def Mut:Option HO->Prop|some (.lst _)=>True|some (.dK _)=>True|some (.dT _)=>True|some (.set _ _)=>True|some (.ins _ _ _)=>True|some (.ext _)=>True|_=>False
section
variable{P:yB}{w:yD}{H:Hp}{h h':yA}{x e:zW}{o':HO}
theorem HOk.write(ok:HOk P w H h)(g:Mut (H x))(n:e=x\/H e=some (.own x))(k:∀b u,b≠e->h.get? b=some u->h'.get? b=some u)(j:∃u,h'.get? e=some u)
  (l:A1p P w (upd H x o') h' x o'):HOk P w (upd H x o') h':=λb u q=>by
 have a:∀c y,H c=some (.own y)->c≠x:=λc y r z=>by subst z;rw[r]at g;exact g
 have d:∀c i,H c=some (.tup i)->c≠x:=λc i r z=>by subst z;rw[r]at g;exact g
 by_cases hb:b=x
 ·subst hb;rw[cp]at q;cases q;exact l
 ·rw[eh hb]at q;by_cases hbe:b=e
  ·have m:H b=some (.own x):=by
    rcases n with z|z
    ·exact absurd (hbe.trans z) hb
    ·rw[hbe];exact z
   rw[q]at m;cases m;obtain⟨v,o⟩:=j;exact⟨v,by rw[hbe];exact o⟩
  ·refine(ok b u q).stay (λc v f r=>k c v ?_ r) (λc r=>by rw[eh (a c b r)];exact r) λc i r=>by rw[eh (d c i r)];exact r
   rcases f with rfl|f
   ·exact hbe
   ·rintro rfl;rcases n with z|z
    ·exact a c b f z
    ·rw[f]at z;cases z;exact hb rfl
end
structure Un(fs ex:zQ)(H H':Hp)(h h':yA):Prop where
 keep:∀b o,h.get? b=some o->H b=none->b∉fs->b∉ex->h'.get? b=some o
 slot:∀b o,h.get? b=some o->H b=none->b∈fs->b∉ex->∃sl,h'.get? b=some {o with slots:=sl}
 free:∀b o,h.get? b=some o->H b=none->b∉ex->H' b=none
 there:∀b o,h.get? b=some o->b∉ex->∃o',h'.get? b=some o'
 tups:∀b xs,H b=some (.tup xs)->H' b=some (.tup xs)
 frzs:∀b o u,H b=some (.frz o u)->H' b=some (.frz o u)
 tbls:∀b ps,H b=some (.tbl ps)->∃more,H' b=some (.tbl (ps++more))
section
variable{fs fs' ex ex':zQ}{H H1 H2:Hp}{h h1 h2 h':yA}{a x e:zW}{o:HO}
theorem Un.any(u:Un fs ex H H1 h h1){b:zW}{a:Obj}(q:h.get? b=some a)(n:H b=none)(c:b∉ex):∃sl,h1.get? b=some {a with slots:=sl}:=by
 by_cases hb:b∈fs
 ·exact u.slot b a q n hb c
 ·exact⟨a.slots,u.keep b a q n hb c⟩
theorem Un.kept(k:∀b u,h.get? b=some u->h'.get? b=some u):Un fs ex H H h h' :=⟨λb a q _ _ _=>k b a q,λb a q _ _ _=>⟨a.slots,k b a q⟩,λ_ _ _ n _=>n,λb a q _=>⟨a,k b a q⟩,λ_ _ q=>q,λ_ _ _ q=>q,λ_ c q=>⟨#[],by rw[q];simp⟩⟩
theorem Un.refl:Un fs ex H H h h:=Un.kept λ_ _ q=>q
theorem Un.laid(k:∀b u,h.get? b=some u->h'.get? b=some u)(d:h.objs.size<=a)(c:H a=none):Un fs ex H (upd H a o) h h' where
 keep:=λb u q _ _ _=>k b u q
 slot:=λb u q _ _ _=>⟨u.slots,k b u q⟩
 free:=λb u q n _=>by rw[eh (mG (oV (lI q) d))];exact n
 there:=λb u q _=>⟨u,k b u q⟩
 tups:=λb e q=>by rw[eh (lO q c)];exact q
 frzs:=λb u e q=>by rw[eh (lO q c)];exact q
 tbls:=λb f q=>⟨#[],by rw[eh (lO q c),q];simp⟩
theorem Un.write(a:Mut (H x))(l:e=x\/H e=some (.own x))(k:∀b u,b≠e->h.get? b=some u->h'.get? b=some u)(c:∃u,h'.get? e=some u):Un fs ex H (upd H x o) h h':=by
 have g:∀b,H b=none->b≠x:=λb n z=>by subst z;rw[n]at a;exact a
 have f:∀b,H b=none->b≠e:=λb n z=>by
  subst z;rcases l with r|r
  ·exact g b n r
  ·rw[n]at r;cases r
 have d:∀b u,H b=some u->¬Mut (some u)->b≠x:=λb u q i z=>by subst z;rw[q]at a;exact i a
 refine⟨λb u q n _ _=>k b u (f b n) q,λb u q n _ _=>⟨u.slots,k b u (f b n) q⟩,λb u q n _=>by rw[eh (g b n)];exact n,λb u q _=>?_,
  λb j q=>by rw[eh (d b _ q λz=>z)];exact q,λb u j q=>by rw[eh (d b _ q λz=>z)];exact q,λb m q=>⟨#[],by rw[eh (d b _ q λz=>z),q];simp⟩⟩
 by_cases hbe:b=e
 ·subst hbe;exact c
 ·exact⟨u,k b u hbe q⟩
end
def trk(h:yA)(H:Hp):zQ:=(List.range h.objs.size).filter λa=>(H a).isSome
def uk(h:yA)(H:Hp):yA:=hideAll h (trk h H)
theorem L4(h:yA)(H:Hp):(uk h H).objs.size=h.objs.size:=PySem.W.hideAll_size _ _
theorem Kv{h:yA}{H:Hp}{b:zW}{o:Obj}(e:h.get? b=some o)(n:H b=none):(uk h H).get? b=some o :=PySem.W.hideAll_get _ e λa=>by have q:(H b).isSome=true:=(List.mem_filter.mp a).2;rw[n]at q;simp at q
theorem JE{h:yA}{H:Hp}{b:zW}{o:Obj}(e:(uk h H).get? b=some o):h.get? b=some o/\H b=none:=by
 have a:h.get? b=some o:=PySem.W.of_hideAll (trk h H) e;refine⟨a,?_⟩
 cases q:H b with
 |none=>rfl
 |some x=>have c:b∈trk h H:=List.mem_filter.mpr ⟨List.mem_range.mpr (lI a),by simp[q]⟩;have z:(uk h H).get? b=none:=PySem.W.hideAll_none (trk h H) c;rw[z]at e;cases e
structure Mod(K:Frag)(mg:zE)(base:yA):Prop where
 kin:K.In base
 glob:base.Ns mainGlobals mg
 blt:∃mb,base.Ns builtinsNs mb/\∀x:Str,x≠"__name__"->mb x=bootBuiltins x
 nolimit:base.NoLimit
structure Cx where
 prog:yB
 w:yD
 K:Frag
 mg:Str->Option zX
 base:yA
 A:zZ
 N:zC
 s₀:zY
 H₀:Hp
 env:Env
 outer:List Env
 stack:List Env
 ex:zQ
 fn:Str->Bool
 calm:Bool
 pn:zD
 xe:zX->zY->Prop
def frs(l:List Env):zQ:=l.filterMap (·.frame)
abbrev Cx.fs(X:Cx):zQ:=frs X.outer
def Vis(a:Scope)(x:Str):Prop:=a.names.lookup x=some .local\/a.names.lookup x=some .cell\/a.names.lookup x=some .free
def Loc(a:Scope)(x:Str):Prop:=a.names.lookup x=some .local\/a.names.lookup x=some .cell
def Look(env:Env)(h:yA)(m:zE)(x:Str)(u:zX):Prop :=(env.kindOf x=some .local/\m x=some u)\/((env.kindOf x=some .cell\/env.kindOf x=some .free)/\∃c,env.cells.lookup x=some c/\h.IsCell c (some u))
structure Cx.Ok(X:Cx):Prop where
 mod:Mod X.K X.mg X.base
 kind:X.env.scope.kind=.function
 glob:X.env.globals=mainGlobals
 blt:X.env.builtins=builtinsNs
 above:X.s₀.heap.objs.size<=X.env.locals
 inj:∀x y c,X.env.cells.lookup x=some c->X.env.cells.lookup y=some c->x=y
 has:∀x,(X.env.kindOf x=some .cell\/X.env.kindOf x=some .free)->∃c,X.env.cells.lookup x=some c
 cab:∀x c,X.fn x=true->X.env.cells.lookup x=some c->X.s₀.heap.objs.size<=c
 hd:X.calm=true->X.A.handled=none
 frames:X.A.frames=some X.stack
 stk:X.stack=X.outer\/(X.stack=X.env::X.outer/\X.env.frame=some X.env.locals)
 exf:∀b∈X.ex,b≠X.env.locals/\∀x c,X.env.cells.lookup x=some c->c≠b
 bs:∀b o,X.base.get? b=some o->X.s₀.heap.get? b=some o/\X.H₀ b=none
 bsz:X.base.objs.size<=X.s₀.heap.objs.size
 noex:∀b o,X.base.get? b=some o->b∉X.ex
 exfs:∀b∈X.ex,b∉X.fs
 funs:X.s₀.heap.FunFrames X.base X.outer
 frf:∀b∈X.fs,X.H₀ b=none
structure Inv(X:Cx)(pins:zD)(Z:List zP)(H:Hp)(s:zY):Prop where
 ok:X.Ok
 os:s.os=X.s₀.os
 bare:AllBare s.gens
 base:Un X.fs X.ex X.H₀ H X.s₀.heap s.heap
 loc:∃m,s.heap.Ns X.env.locals m/\∀(i:Nat)(x:Str)(v:V),X.N[i]?=some x->Z[i]?=some (some v)->Vis X.env.scope x->∃u,A2z v u/\Look X.env s.heap m x u
 cell:∀x c,X.env.cells.lookup x=some c->∃v,s.heap.IsCell c v
 free:H X.env.locals=none
 freeC:∀x c,X.env.cells.lookup x=some c->H c=none
 pin:∀p∈X.pn++pins,s.heap.get? p.1=some p.2/\H p.1=none/\p.1≠X.env.locals/\p.1∉X.fs/\∀v,p.2.data≠.cell v
 hok:HOk X.prog X.w H s.heap
 len:Z.length=X.N.length
section
variable{X:Cx}{pins:zD}{Z:List zP}{H H':Hp}{s:zY}{h':yA}
theorem Cx.Ok.nofr(ok:X.Ok){b:zW}{o:Obj}(e:X.base.get? b=some o):b∉X.fs:=λa=>by have:=(ok.funs.mem a).1;rw[e]at this;cases this
theorem Inv.bs(I:Inv X pins Z H s):∀b o,X.base.get? b=some o->s.heap.get? b=some o/\H b=none:=λb o e=>⟨I.base.keep b o (I.ok.bs b o e).1 (I.ok.bs b o e).2 (I.ok.nofr e) (I.ok.noex b o e),I.base.free b o (I.ok.bs b o e).1 (I.ok.bs b o e).2 (I.ok.noex b o e)⟩
theorem Inv.bk(I:Inv X pins Z H s):∀b o,X.base.get? b=some o->s.heap.get? b=some o:=λb o e=>(I.bs b o e).1
theorem Inv.mod(I:Inv X pins Z H s):Mod X.K X.mg X.base:=I.ok.mod
theorem Inv.kIn(I:Inv X pins Z H s):X.K.In s.heap:=I.ok.mod.kin.keeps I.bk
theorem Inv.lt(I:Inv X pins Z H s):X.env.locals<s.heap.objs.size:=let⟨_,hn,_⟩:=I.loc;hn.lt
theorem Inv.sz(I:Inv X pins Z H s):X.s₀.heap.objs.size<=s.heap.objs.size:=oU I.ok.above (Nat.le_of_lt I.lt)
theorem Inv.nofs(I:Inv X pins Z H s){a:zW}(h:s.heap.objs.size<=a):a∉X.fs:=λb=>by obtain⟨_,o,c,_⟩:=I.ok.funs.mem b;exact absurd (oV (lI c) (oU I.sz h)) (Nat.lt_irrefl _)
theorem Inv.cne(I:Inv X pins Z H s):∀x c,X.env.cells.lookup x=some c->c≠X.env.locals:=λx c e z=>by obtain⟨v,o,d,f⟩:=I.cell x c e;obtain⟨m,⟨i,h,g,b,a,_⟩,_⟩:=I.loc;rw[z,b]at d;cases d;rw[a]at f;cases f
theorem Inv.funs(I:Inv X pins Z H s):s.heap.FunFrames X.base X.outer:=by
 have a:∀(l:List Env),(∀b∈frs l,b∈X.fs)->X.s₀.heap.FunFrames X.base l->s.heap.FunFrames X.base l:=by
  intro l
  induction l with
  |nil=>intro _ _;trivial
  |cons env r ih=>intro g m;obtain⟨k,⟨L,o,c,n,h,i⟩,j⟩:=m;have f:L∈X.fs:=g L (by unfold frs;rw[List.filterMap_cons,c];exact vD);obtain⟨p,e⟩:=I.base.slot L o h (I.ok.frf L f) f λz=>I.ok.exfs L z f;exact fI k (lQ L _ c n e i) (ih (λb d=>g b (by unfold frs;rw[List.filterMap_cons,c];exact uF _ d)) j)
 exact a X.outer (λ_ d=>d) I.ok.funs
theorem Inv.stack(I:Inv X pins Z H s):s.heap.FunFrames X.base X.stack:=by
 rcases I.ok.stk with e|⟨e,a⟩
 ·rw[e];exact I.funs
 ·rw[e];obtain⟨m,b,_⟩:=I.loc;refine .cons (by rw[I.ok.kind];decide) a b ?_ I.funs;exact Heap.get?_none_of_le (oU I.ok.bsz I.ok.above)
theorem Inv.stkSub(I:Inv X pins Z H s):∀b∈frs X.stack,b∈X.env.locals::X.fs:=λb a=>by
 rcases I.ok.stk with e|⟨e,c⟩
 ·rw[e]at a;exact uF _ a
 ·rw[e]at a;unfold frs at a;rw[List.filterMap_cons,c]at a;exact a
theorem Inv.stkFree(I:Inv X pins Z H s):∀b∈frs X.stack,H b=none:=λb a=>by
 rcases lY.mp (I.stkSub b a)with e|a
 ·rw[e];exact I.free
 ·obtain⟨_,o,c,_⟩:=I.ok.funs.mem a;exact I.base.free b o c (I.ok.frf b a) λz=>I.ok.exfs b z a
theorem Inv.step{g':Array GenState}{t':Nat}{d':Drawn}{ch:zQ}(I:Inv X pins Z H s)
  (t:∀b∈ch,(b∈X.ex\/X.s₀.heap.objs.size<=b)/\b≠X.env.locals/\(∀x c,X.env.cells.lookup x=some c->c≠b)/\∀p∈X.pn++pins,p.1≠b)
  (g:∀b o,b≠X.env.locals->b∉X.fs->b∉ch->s.heap.get? b=some o->H b=none->h'.get? b=some o)
  (B:∀b o,b≠X.env.locals->b∈X.fs->b∉ch->s.heap.get? b=some o->H b=none->∃sl,h'.get? b=some {o with slots:=sl}) (f:∀b o,b∉ch->s.heap.get? b=some o->H b=none->H' b=none)
  (D:∀b o,b∉ch->s.heap.get? b=some o->∃o',h'.get? b=some o')
  (L:∀b xs,H b=some (.tup xs)->H' b=some (.tup xs)) (J:∀b o u,H b=some (.frz o u)->H' b=some (.frz o u)) (G:∀b ps,H b=some (.tbl ps)->∃more,H' b=some (.tbl (ps++more)))
  (ns:∀m,s.heap.Ns X.env.locals m->h'.Ns X.env.locals m) (P:HOk X.prog X.w H' h') (Y:AllBare g'):
  Inv X pins Z H' {s with heap:=h',gens:=g',drawn:=d',toks:=t'}:=by
 have M:∀b o,X.s₀.heap.get? b=some o->b≠X.env.locals:=λb o e=>mG (oV (lI e) I.ok.above)
 have A:∀b o,X.s₀.heap.get? b=some o->b∉X.ex->b∉ch:=λb o e a C=>by
  rcases(t b C).1 with z|z
  ·exact a z
  ·exact absurd (oV (lI e) z) (Nat.lt_irrefl _)
 have h:∀x c,X.env.cells.lookup x=some c->∀v,s.heap.IsCell c v->h'.IsCell c v:=λx c e v ⟨o,F,N⟩=>by
  have j:c∉ch:=λz=>(t c z).2.2.1 x c e rfl;by_cases hc:c∈X.fs
  ·obtain⟨sl,q⟩:=B c o (I.cne x c e) hc j F (I.freeC x c e);exact cb _ q N
  ·exact cb o (g c o (I.cne x c e) hc j F (I.freeC x c e)) N
 refine⟨I.ok,I.os,Y,⟨λb o e n C a=>?_,λb o e n C a=>?_,λb o e n a=>?_,λb o e a=>?_,λb xs e=>L b xs (I.base.tups b xs e),λb o xs e=>J b o xs (I.base.frzs b o xs e),λb ps e=>?_⟩,?_,λx c e=>?_,?_,λx c e=>?_,λp Q=>?_,P,I.len⟩
 ·exact g b o (M b o e) C (A b o e a) (I.base.keep b o e n C a) (I.base.free b o e n a)
 ·obtain⟨sl,y⟩:=I.base.slot b o e n C a;obtain⟨O,K⟩:=B b _ (M b o e) C (A b o e a) y (I.base.free b o e n a);exact⟨O,K⟩
 ·obtain⟨o',y⟩:=I.base.there b o e a;exact f b o' (A b o e a) y (I.base.free b o e n a)
 ·obtain⟨o',y⟩:=I.base.there b o e a;exact D b o' (A b o e a) y
 ·obtain⟨W,y⟩:=I.base.tbls b ps e;obtain⟨T,K⟩:=G b _ y;exact⟨W++T,by rw[K,Array.append_assoc]⟩
 ·obtain⟨m,U,hl⟩:=I.loc;refine cb m (ns m U) λi x v y K E=>?_;obtain⟨u,r,l⟩:=hl i x v y K E;refine cb u r ?_;rcases l with l|⟨k,c,e,z⟩
  ·exact .inl l
  ·exact .inr (kB k c e (h x c e _ z))
 ·obtain⟨v,z⟩:=I.cell x c e;exact⟨v,h x c e v z⟩
 ·obtain⟨m,⟨o,_,_,F,_⟩,_⟩:=I.loc;exact f _ o (λz=>(t _ z).2.1 rfl) F I.free
 ·obtain⟨v,o,F,N⟩:=I.cell x c e;exact f c o (λz=>(t c z).2.2.1 x c e rfl) F (I.freeC x c e)
 ·refine mM (I.pin p Q) λe n S R d=>?_;have j:p.1∉ch:=λz=>(t p.1 z).2.2.2 p Q rfl;exact lP (g p.1 p.2 S R j e n) (f p.1 p.2 j e n) S R d
theorem Inv.un{t':Nat}(I:Inv X pins Z H s)(u:Un X.fs [] H H' s.heap h')(c:HOk X.prog X.w H' h'):Inv X pins Z H' {s with heap:=h',toks:=t'}:=by
 obtain⟨m,⟨o,v,p,h,r⟩,_⟩:=id I.loc;obtain⟨l,j⟩:=u.any h I.free (by simp)
 exact I.step (g':=s.gens) (d':=s.drawn) (ch:=[]) (λ_ z=>nomatch z) (λb o _ f _ e n=>u.keep b o e n f (by simp)) (λb o _ f _ e n=>u.slot b o e n f (by simp)) (λb o _ e n=>u.free b o e n (by simp)) (λb o _ e=>u.there b o e (by simp)) u.tups u.frzs u.tbls (λt i=>by
  refine mF i ?_;clear i;rintro q d g ⟨a,k⟩;rw[h]at a;cases a
  exact pb _ d g j k) c I.bare
theorem Inv.call{g':Array GenState}{t':Nat}{d':Drawn}{ch:zQ}(I:Inv X pins Z H s)(u:Un (frs X.stack) ch H H' s.heap h')(g:HOk X.prog X.w H' h')(q:AllBare g')
  (f:∀b∈ch,(b∈X.ex\/X.s₀.heap.objs.size<=b)/\b≠X.env.locals/\(∀x c,X.env.cells.lookup x=some c->c≠b)/\∀p∈X.pn++pins,p.1≠b):
  Inv X pins Z H' {s with heap:=h',gens:=g',drawn:=d',toks:=t'}:=by
 obtain⟨m,⟨o,D,A,k,r⟩,_⟩:=id I.loc;obtain⟨y,i⟩:=u.any k I.free λz=>(f _ z).2.1 rfl
 exact I.step (ch:=ch) f (λb o i t a e n=>u.keep b o e n (λz=>(lY.mp (I.stkSub b z)).elim i t) a) (λb o _ _ a e n=>u.any e n a) (λb o a e n=>u.free b o e n a) (λb o a e=>u.there b o e a) u.tups u.frzs u.tbls (λC l=>by
  refine mF l ?_;clear l;rintro B h j ⟨d,v⟩;rw[k]at d;cases d
  exact pb _ h j i v) g q
theorem Inv.turned{t':Nat}{it:zW}(I:Inv X pins Z H s)(k:∀b o,b≠it->s.heap.get? b=some o->h'.get? b=some o)(t:H it=none)(g:it≠X.env.locals)
  (h1:it∈X.ex\/X.s₀.heap.objs.size<=it) (h2:∀x c,X.env.cells.lookup x=some c->c≠it) (h:∀p∈X.pn++pins,p.1≠it):Inv X pins Z H {s with heap:=h',toks:=t'}:=by
 have d:∀b u,H b=some u->b≠it:=λb u e z=>by rw[z,t]at e;cases e
 refine I.step (g':=s.gens) (d':=s.drawn) (ch:=[it]) (λb l=>?_) (λb o _ _ a e _=>k b o (λz=>a (by simp[z])) e) (λb o _ _ a e _=>⟨o.slots,k b o (λz=>a (by simp[z])) e⟩) (λ_ _ _ _ n=>n)
  (λb o a e=>⟨o,k b o (λz=>a (by simp[z])) e⟩) (λ_ _ e=>e) (λ_ _ _ e=>e) (λb y e=>⟨#[],by rw[e];simp⟩) (λm f=>?_) (λb u e=>?_) I.bare
 ·have e:b=it:=by simpa using l
  subst e;exact lX h1 g h2 h
 ·refine mF f ?_;clear f;rintro o w i ⟨j,r⟩;exact pb o w i (k _ o (Ne.symm g) j) r
 ·refine(I.hok b u e).stay (λc v a q=>k c v ?_ q) (λ_ q=>q) λ_ _ q=>q;rcases a with z|z
  ·rw[z];exact d b u e
  ·exact d c _ z
theorem Inv.tok(I:Inv X pins Z H s)(t:Nat):Inv X pins Z H {s with toks:=t}:=I.un (h':=s.heap) (t':=t) Un.refl I.hok
theorem Inv.kept{t':Nat}(I:Inv X pins Z H s)(k:∀b u,s.heap.get? b=some u->h'.get? b=some u):Inv X pins Z H {s with heap:=h',toks:=t'}:=I.un (Un.kept k) (I.hok.kept k)
theorem Inv.laid{a:zW}{o:HO}{t':Nat}(I:Inv X pins Z H s)(k:∀b u,s.heap.get? b=some u->h'.get? b=some u)(d:s.heap.objs.size<=a)(c:A1p X.prog X.w (upd H a o) h' a o):
  Inv X pins Z (upd H a o) {s with heap:=h',toks:=t'}:=I.un (Un.laid k d (I.hok.fresh d)) (I.hok.laid k d c)
theorem Inv.write{x e:zW}{o:HO}{t':Nat}(I:Inv X pins Z H s)(d:Mut (H x))(f:e=x\/H e=some (.own x))(k:∀b u,b≠e->s.heap.get? b=some u->h'.get? b=some u)(a:∃u,h'.get? e=some u)
  (c:A1p X.prog X.w (upd H x o) h' x o):Inv X pins Z (upd H x o) {s with heap:=h',toks:=t'}:=I.un (Un.write d f k a) (I.hok.write d f k a c)
theorem Inv.weak{Z':List zP}(I:Inv X pins Z H s)(c:Z'.length=Z.length)(w:∀(i:Nat) v,Z'[i]?=some (some v)->Z[i]?=some (some v)):Inv X pins Z' H s :=⟨I.ok,I.os,I.bare,I.base,let⟨m,hn,hl'⟩:=I.loc;(cb m hn λi x v d b a=>hl' i x v d (w i v b) a),I.cell,I.free,I.freeC,I.pin,I.hok,c.trans I.len⟩
theorem Inv.pins_of{a:zD}(I:Inv X pins Z H s)(h:∀p∈a,s.heap.get? p.1=some p.2/\H p.1=none/\p.1≠X.env.locals/\p.1∉X.fs/\∀v,p.2.data≠.cell v):Inv X a Z H s :=⟨I.ok,I.os,I.bare,I.base,I.loc,I.cell,I.free,I.freeC,λp b=>(mX.mp b).elim (λz=>I.pin p (qk _ z)) (h p),I.hok,I.len⟩
theorem Bj{N:zC}(c:N.Nodup){i j:Nat}{x:Str}(a:N[i]?=some x)(b:N[j]?=some x):i=j:=by obtain⟨f,e⟩:=ml.mp a;obtain⟨g,d⟩:=ml.mp b;exact(List.getElem_inj c).mp (e.trans d.symm)
theorem EH{M:Model}{A:zZ}{E:zA}{i:Nat}{x:Str}{v:V}{u:zX}{Q:Unit->zY->Prop}(I:Inv X pins Z H s)(hN:X.N.Nodup)(hi:X.N[i]?=some x)(B:Loc X.env.scope x)(r:A2z v u)
  (h:∀s',Inv X pins (Z.set i (some v)) H s'->(∃a,Heap.SameBut a s.heap s'.heap/\(a=X.env.locals\/X.env.cells.lookup x=some a))->Q () s') (hf:X.fn x=true\/X.env.scope.names.lookup x=some .local:=by first|exact .inl rfl|exact .inr rfl|assumption):wpAny M A (storeName X.env x u) Q E s:=by
 obtain⟨m,hn,hl⟩:=id I.loc;have R:(X.env.scope.kind==.class||(X.env.scope.kind==.module&&X.env.locals != X.env.globals))=false:=by rw[I.ok.kind];rfl
 have L:i<Z.length:=by rw[I.len];exact(ml.mp hi).1
 have G:=I.cne
 have l:∀{a:zW}{h':yA},(∃o,s.heap.get? a=some o/\H a=none)->Heap.SameBut a s.heap h'->HOk X.prog X.w H h':=λ{a h'} ha f b ob e=>by
  obtain⟨_,_,C⟩:=ha;refine(I.hok b ob e).stay (λc W t q=>(f.2 c ?_).trans q) (λ_ q=>q) λ_ _ q=>q;rintro rfl;rcases t with rfl|t
  ·rw[C]at e;cases e
  ·rw[C]at t;cases t
 rcases B with F|F
 ·refine wpAny_storeName_local F hn (λh' a1 f=>?_) R;refine mF (id hn) ?_;rintro oL _ _ ⟨a0,_⟩;refine h _ ⟨I.ok,I.os,I.bare,⟨λb o e n K B=>?_,λb o e n K B=>?_,I.base.free,λb o e B=>?_,I.base.tups,I.base.frzs,I.base.tbls⟩,(cb _ a1 λj y Y g D e3=>?_),λy c e=>?_,I.free,I.freeC,λp hp=>?_,l (cb oL a0 I.free) f,by simpa using I.len⟩ (cb _ f (.inl rfl))
  ·exact(f.2 b (mG (oV (lI e) I.ok.above))).trans (I.base.keep b o e n K B)
  ·obtain⟨sl,g⟩:=I.base.slot b o e n K B;exact⟨sl,(f.2 b (mG (oV (lI e) I.ok.above))).trans g⟩
  ·obtain⟨o',g⟩:=I.base.there b o e B;exact⟨o',(f.2 b (mG (oV (lI e) I.ok.above))).trans g⟩
  ·by_cases hj:j=i
   ·subst hj;rw[hi]at g;cases g;rw[xH L]at D;cases D;exact cb u r (.inl ⟨F,by simp⟩)
   ·rw[xF (Ne.symm hj)]at D;obtain⟨u',r',q⟩:=hl j y Y g D e3;refine cb u' r' ?_;rcases q with ⟨k,e⟩|⟨k,c,e,z⟩
    ·refine .inl ⟨k,?_⟩;have:y≠x:=λe=>hj (Bj hN g (e▸hi));simp[this,e]
    ·exact .inr (kB k c e (z.sameBut f (G y c e)))
  ·obtain⟨W,z⟩:=I.cell y c e;exact⟨W,z.sameBut f (G y c e)⟩
  ·refine mM (I.pin p hp) λe n U nf d=>?_;exact lP ((f.2 p.1 U).trans e) n U nf d
 ·have J:X.fn x=true:=by
   rcases hf with z|z
   ·exact z
   ·rw[z]at F;cases F
  obtain⟨c,t⟩:=I.ok.has x (.inl F);obtain⟨W,z⟩:=I.cell x c t;refine wpAny_storeName_cell I.ok.kind F t z (λh' P f=>?_);obtain⟨oc,O,S⟩:=id z;refine h {s with heap:=h'} ⟨I.ok,I.os,I.bare,⟨λb o e n K B=>?_,λb o e n K B=>?_,I.base.free,λb o e B=>?_,I.base.tups,I.base.frzs,I.base.tbls⟩,(cb m (hn.sameBut f (Ne.symm (G x c t))) λj y Y g D e3=>?_),λy T e=>?_,I.free,I.freeC,λp hp=>?_,l (cb oc O (I.freeC x c t)) f,by simpa using I.len⟩ (cb c f (.inr t))
  ·exact(f.2 b (mG (oV (lI e) (I.ok.cab x c J t)))).trans (I.base.keep b o e n K B)
  ·obtain⟨sl,g⟩:=I.base.slot b o e n K B;exact⟨sl,(f.2 b (mG (oV (lI e) (I.ok.cab x c J t)))).trans g⟩
  ·obtain⟨o',g⟩:=I.base.there b o e B;exact⟨o',(f.2 b (mG (oV (lI e) (I.ok.cab x c J t)))).trans g⟩
  ·by_cases hj:j=i
   ·subst hj;rw[hi]at g;cases g;rw[xH L]at D;cases D;exact cb u r (.inr (kB (.inl F) c t P))
   ·rw[xF (Ne.symm hj)]at D;obtain⟨u',r',q⟩:=hl j y Y g D e3;refine cb u' r' ?_;rcases q with q|⟨k,T,e,z'⟩
    ·exact .inl q
    ·refine .inr (kB k T e (z'.sameBut f ?_));rintro rfl;exact hj (Bj hN g (I.ok.inj _ _ _ e t▸hi))
  ·by_cases hcc:T=c
   ·subst hcc;exact⟨_,P⟩
   ·obtain⟨w2,z2⟩:=I.cell y T e;exact⟨w2,z2.sameBut f hcc⟩
  ·refine mM (I.pin p hp) λe n U nf d=>?_;refine lP ((f.2 p.1 ?_).trans e) n U nf d;intro q;rw[q,O]at e;have q':oc=p.2:=rJ e;exact d W (by rw[<-q'];exact S)
theorem xn{M:Model}{A:zZ}{E:zA}{i:Nat}{x:Str}{v:V}{u:zX}{Q:Unit->zY->Prop}(I:Inv X pins Z H s)(c:X.N.Nodup)(hi:X.N[i]?=some x)(b:Loc X.env.scope x)(r:A2z v u)
  (h:∀s',Inv X pins (Z.set i (some v)) H s'->Q () s') (a:X.fn x=true\/X.env.scope.names.lookup x=some .local:=by first|exact .inl rfl|exact .inr rfl|assumption):wpAny M A (storeName X.env x u) Q E s :=
 EH I c hi b r (λs' I' _=>h s' I') a
theorem Inv.call'{s':zY}{ch:zQ}(I:Inv X pins Z H s)(g:s'.os=s.os)(u:Un (frs X.stack) ch H H' s.heap s'.heap)(d:HOk X.prog X.w H' s'.heap)(f:AllBare s'.gens)
  (a:∀b∈ch,(b∈X.ex\/X.s₀.heap.objs.size<=b)/\b≠X.env.locals/\(∀x c,X.env.cells.lookup x=some c->c≠b)/\∀p∈X.pn++pins,p.1≠b):Inv X pins Z H' s':=by
 obtain⟨i,g',d',t',h⟩:=s';have e:h=s.os:=g;subst e;exact I.call (g':=g') (t':=t') (d':=d') u d f a
end
abbrev XK:=zX->Option zW->Hp->Prop
abbrev St:=List zP
abbrev VK:=V->Hp->Prop
abbrev TE:=St->Hp->VK->Prop
abbrev TT:=St->Hp->(Bool->Hp->Prop)->Prop
abbrev TA:=St->Hp->(zM->Hp->Prop)->Prop
variable{α:Type}{ys xs dvs:zM}{y:V}{x qual name m:Str}{w:yD}{value tg l iter c b:yC}{v u pm oc ct cd:zX}{tv tl tc ta:TE}{tpos pos' p kpos apos:Pos}{tn:Nat->yA->Prop}{tk:TA}{tB' tA:TT}{s1 s' s:zY}{r:zM->Hp->VK->Prop}{ps ns ks N:zC}{prog P:yB}{pins:zD}{op:CmpOp}{od an:zO}{nm:Option Str}{n j i:Nat}{mA:zE}{lo hi:Int}{kws:List Keyword}{it dx a C:zW}{id T:String}{h' h:yA}{gV:zM->List V->List V}{fd:zS}{env:Env}{ds:zH}{Z:St}{X:Cx}{e:yC}{es:zT}{te:TE}{t:TA}{pos:Pos}{Q E:zA}{M:Model}{K:Frag}{H' H:Hp}{A:zZ}
structure pJ where
 nx:St->Hp->Prop
 rt:VK
 bk:St->Hp->Prop:=λ_ _=>False
 ct:St->Hp->Prop:=λ_ _=>False
abbrev TS:=pJ->St->Hp->Prop
def EP(X:Cx)(pins:zD)(Z:St)(Q:VK)(u:zX)(s':zY):Prop:=∃v a,Inv X pins Z a s'/\A2z v u/\Q v a
def TP(X:Cx)(pins:zD)(Z:St)(Q:Bool->Hp->Prop)(b:Bool)(s':zY):Prop:=∃a,Inv X pins Z a s'/\Q b a
def AP(X:Cx)(pins:zD)(Z:St)(Q:zM->Hp->Prop)(us:zH)(s':zY):Prop:=∃a b,Inv X pins Z b s'/\A2m a us/\Q a b
def SP(X:Cx)(pins:zD)(D:pJ)(f:Flow)(s':zY):Prop :=
 match f with
 |.next=>∃Z' a,Inv X pins Z' a s'/\D.nx Z' a
 |.brk=>∃Z' a,Inv X pins Z' a s'/\D.bk Z' a
 |.cont=>∃Z' a,Inv X pins Z' a s'/\D.ct Z' a
 |.ret u=>∃v Z' a,Inv X pins Z' a s'/\A2z v u/\D.rt v a
def PE(X:Cx)(e:yC)(t:TE):Prop :=∀(a:zD)(s:zY)(Z:St)(H:Hp)(Q:VK),Inv X a Z H s->t Z H Q->wpAny (model X.prog X.w) X.A (eval e X.env) (EP X a Z Q) X.xe s
def PT(X:Cx)(e:yC)(t:TT):Prop :=∀(a:zD)(s:zY)(Z:St)(H:Hp)(Q:Bool->Hp->Prop),Inv X a Z H s->t Z H Q->wpAny (model X.prog X.w) X.A (isTrue e X.env (eval e X.env)) (TP X a Z Q) X.xe s
def PW(X:Cx)(e:yC)(t:TT):Prop :=∀(b:Sem zX)(a:zD)(s:zY)(Z:St)(H:Hp)(Q:Bool->Hp->Prop),Inv X a Z H s->t Z H Q->wpAny (model X.prog X.w) X.A (isTrue e X.env b) (TP X a Z Q) X.xe s
theorem PW.pt{t:TT}(h:PW X e t):PT X e t:=h _
def PA(X:Cx)(es:zT)(t:TA):Prop :=∀(b:Pos)(a:zD)(s:zY)(Z:St)(H:Hp)(Q:zM->Hp->Prop),Inv X a Z H s->t Z H Q->wpAny (model X.prog X.w) X.A (spliced (backTo b (starEach es X.env))) (AP X a Z Q) X.xe s
def PS(X:Cx)(st:Stmt)(t:TS):Prop :=∀(a:zD)(s:zY)(Z:St)(H:Hp)(D:pJ),Inv X a Z H s->t D Z H->wpAny (model X.prog X.w) X.A (exec st X.env) (SP X a D) X.xe s
def PSs(X:Cx)(st:List Stmt)(t:TS):Prop :=∀(a:zD)(s:zY)(Z:St)(H:Hp)(D:pJ),Inv X a Z H s->t D Z H->wpAny (model X.prog X.w) X.A (execs st X.env) (SP X a D) X.xe s
theorem thn{t:Sem α}{Q Q':α->zY->Prop}(h:wpAny M A t Q E s)(b:∀a s,Q a s->Q' a s):wpAny M A t Q' E s:=oj h b λ_ _ x=>x
section
def tP(i:Nat):TE:=λZ H Q=>∃v,Z[i]?=some (some v)/\Q v H
def tC(v:V):TE:=λ_ H Q=>Q v H
theorem Hj(t:X.N[i]?=some x)(o:Vis X.env.scope x)(g:(x==("__debug__":Str))=false:=by decide)(j:(x==("__classdict__":Str))=false:=by decide):PE X (.Name x pos) (tP i):=by
 intro f s Z H Q I h;obtain⟨v,e,h⟩:=h;obtain⟨m,q,p⟩:=I.loc;obtain⟨u,r,l⟩:=p i x v t e o;have d:EP X f Z Q u s:=(dV v H I r h);rcases l with ⟨b,n⟩|⟨b,c,k,a⟩
 ·exact wpAny_Name (wpAny_loadName_local I.ok.kind b q n d) g
 ·rcases b with b|b
  ·exact wpAny_Name (wpAny_loadName_cell I.ok.kind b k a d) g
  ·exact wpAny_Name (wpAny_loadName_free I.ok.kind b k a d j) g
theorem ew{i j pos}:PE X (.Constant (.int i) j pos) (tC (.int i)):=λ_ _ _ H _ I h=>wpAny_Constant_int (dV (.int i) H (I.tok _) ⟨_,rfl⟩ h)
theorem oF{b j pos}:PE X (.Constant (.bool b) j pos) (tC (.bl b)):=λ_ _ _ H _ I h=>Constant_bool (dV (.bl b) H I rfl h)
theorem Il{j pos}:PE X (.Constant .none j pos) (tC .non):=λ_ _ _ H _ I h=>Constant_none (dV .non H I rfl h)
theorem lV{x j pos}:PE X (.Constant (.str x) j pos) (tC (.str x)):=λ_ _ _ H _ I h=>Calls.Constant_str (dV (.str x) H (I.tok _) ⟨_,rfl⟩ h)
def Gl(X:Cx)(x:Str):Prop:=X.env.kindOf x=some .globalImplicit
theorem ub(I:Inv X pins Z H s)(c:Gl X x)(a:X.mg x=some u)(h:Q u s)
  (b:(x==("__debug__":Str))=false:=by decide):wpAny (model X.prog X.w) X.A (eval (.Name x pos) X.env) Q E s :=
 Calls.Name_function_global I.ok.kind c (Calls.loadGlobal_global (by rw[I.ok.glob];exact I.mod.glob.keeps I.bk) a h) b
theorem tf(I:Inv X pins Z H s)(c:Gl X x)(g:X.mg x=none)(b:bootBuiltins x=some u)(h:Q u s)
  (f:x≠"__name__":=by decide) (e:(x==("__debug__":Str))=false:=by decide):wpAny (model X.prog X.w) X.A (eval (.Name x pos) X.env) Q E s:=by
 obtain⟨i,a,d⟩:=I.mod.blt;exact Calls.Name_function_global I.ok.kind c (Calls.loadGlobal_builtin (by rw[I.ok.glob];exact I.mod.glob.keeps I.bk) g (by rw[I.ok.blt];exact a.keeps I.bk) ((d x f).trans b) h) e
theorem sv{v:V}(c:Gl X x)(b:X.mg x=some u)(r:A2z v u)(a:(x==("__debug__":Str))=false:=by decide):PE X (.Name x pos) (tC v):=λ_ _ _ H _ I h=>ub I c b (dV v H I r h) a
theorem rS{v:V}(b:Gl X x)(e:X.mg x=none)(a:bootBuiltins x=some u)(r:A2z v u)(d:x≠"__name__":=by decide)(c:(x==("__debug__":Str))=false:=by decide):PE X (.Name x pos) (tC v):=λ_ _ _ H _ I h=>tf I b e a (dV v H I r h) d c
variable{a:yC}{tb:TE}
def PC(X:Cx)(op:CmpOp)(a b:yC)(t:TE):Prop :=
 ∀(c:zD)(s:zY)(Z:St)(H:Hp)(Q:VK),Inv X c Z H s->t Z H Q->
  wpAny (model X.prog X.w) X.A (eval a X.env) (λv d=>wpAny (model X.prog X.w) X.A (eval b X.env) (λu e=>wpAny (model X.prog X.w) X.A (compareOp op v u) (EP X c Z Q) X.xe e) X.xe d) X.xe s
def tB(t:TE):TT:=λZ H Q=>t Z H λx a=>∃c,x=.bl c/\Q c a
theorem AI{t:TE}(h:PC X op a b t)(h1:behindInMarks op b=false:=by first|exact nobehind _ (by decide) (by decide)|rfl):PT X (.Compare a [op] [b] pos) (tB t):=by intro e s Z H Q I i;refine wpAny_isTrue_Compare1 (thn (h e s Z H _ I i) λv o h1=>thn h1 λu m k=>thn k ?_) h1;refine λc n f=>ei f λx j I1 l g=>?_;clear f;obtain⟨d,rfl,q⟩:=g;cases l;exact wpAny_truthy_bool (cb j I1 q)
theorem nn{t:TE}(h:PE X e t)(k:∀a,isTrue e X.env a=(do let v<-a;standAt e.pos;holding [v] (truthy v)):=by intro _;rfl):PT X e (tB t):=by intro b s Z H Q I g;refine isTrue_plain (thn (h b s Z H _ I g) ?_) (k _);refine λv l c=>ei c λx i I1 j f=>?_;clear c;obtain⟨d,rfl,q⟩:=f;cases j;exact wpAny_truthy_bool (cb i I1 q)
variable{rest:zT}
def tAnd(t u:TT):TT:=λZ H Q=>t Z H λc a=>if c=true then u Z a Q else Q false a
def tOr(t u:TT):TT:=λZ H Q=>t Z H λc a=>if c=true then Q true a else u Z a Q
def tNot(t:TT):TT:=λZ H Q=>t Z H λc a=>Q (! c) a
theorem ua(d:PT X a tA):PW X (.BoolOp .And [a] pos) tA:=by
 intro g b s Z H Q I h;refine isTrue_and (thn (d b s Z H Q I h) λc f e=>?_)
 cases c with
 |true=>exact isTrue_and_nil e
 |false=>exact e
theorem uq(d:PT X a tA):PW X (.BoolOp .Or [a] pos) tA:=by
 intro g b s Z H Q I h;refine isTrue_or (thn (d b s Z H Q I h) λc f e=>?_)
 cases c with
 |false=>exact isTrue_or_nil e
 |true=>exact e
theorem tV(j:PT X a tA)(g:PW X (.BoolOp .And (b::rest) pos) tB'):PW X (.BoolOp .And (a::b::rest) pos) (tAnd tA tB'):=by
 intro k d s Z H Q I h;refine isTrue_and (thn (j d s Z H _ I h) ?_);rintro c i ⟨f,I1,e⟩
 cases c with
 |true=>exact g k d i Z f Q I1 e
 |false=>exact cb f I1 e
theorem si(j:PT X a tA)(g:PW X (.BoolOp .Or (b::rest) pos) tB'):PW X (.BoolOp .Or (a::b::rest) pos) (tOr tA tB'):=by
 intro k d s Z H Q I h;refine isTrue_or (thn (j d s Z H _ I h) ?_);rintro c i ⟨f,I1,e⟩
 cases c with
 |true=>exact cb f I1 e
 |false=>exact g k d i Z f Q I1 e
theorem rz(d:PT X a tA):PT X (.UnaryOp .Not a pos) (tNot tA):=by intro b s Z H Q I h;exact isTrue_not (d b s Z H (λc e=>Q (! c) e) I h)
def GO(ta tb:TE):TE:=λZ H Q=>ta Z H λx a=>∃c,x=.bl c/\if c=true then tb Z a Q else Q (.bl false) a
def tOrV(ta tb:TE):TE:=λZ H Q=>ta Z H λx a=>∃c,x=.bl c/\if c=true then Q (.bl true) a else tb Z a Q
def GW(ta:TE):TE:=λZ H Q=>ta Z H λx a=>∃c,x=.bl c/\Q (.bl (! c)) a
theorem tW{op}{t:TE}(h:PE X a t):PE X (.BoolOp op [a] pos) t:=λb s Z H Q I c=>BoolOp_one (h b s Z H Q I c)
theorem rm(i:PE X a ta)(j:PE X (.BoolOp .And (b::rest) pos) tb):PE X (.BoolOp .And (a::b::rest) pos) (GO ta tb):=by
 intro d s Z H Q I h;refine BoolOp_and (thn (i d s Z H _ I h) ?_);refine λv k f=>ei f λx g I1 l e=>?_;clear f;obtain⟨c,rfl,e⟩:=e;cases l;refine wpAny_truthy_bool ?_
 cases c with
 |true=>exact j d k Z g Q I1 e
 |false=>exact dV (.bl false) g I1 rfl e
theorem GX(i:PE X a ta)(j:PE X (.BoolOp .Or (b::rest) pos) tb):PE X (.BoolOp .Or (a::b::rest) pos) (tOrV ta tb):=by
 intro d s Z H Q I h;refine BoolOp_or (thn (i d s Z H _ I h) ?_);refine λv k f=>ei f λx g I1 l e=>?_;clear f;obtain⟨c,rfl,e⟩:=e;cases l;refine wpAny_truthy_bool ?_
 cases c with
 |false=>exact j d k Z g Q I1 e
 |true=>exact dV (.bl true) g I1 rfl e
theorem yh(f:PE X a ta):PE X (.UnaryOp .Not a pos) (GW ta):=by intro b s Z H Q I h;refine UnaryOp_ (thn (f b s Z H _ I h) ?_);refine λv j e=>ei e λx g I1 i d=>?_;clear e;obtain⟨c,rfl,d⟩:=d;cases i;exact not_of (wpAny_truthy_bool (dV (.bl (! c)) g I1 rfl d))
end
def SqL(K:Frag)(H:Hp)(a:zW)(xs:zM):Prop :=
 Rd H a (.lst xs)\/
  ∃(o:Obj)(b:zG)(n:Nat),K.lookup a=some o/\o.cls=.type "list"/\o.dict=none/\o.data=.seq b n/\b.size<=sizeLine/\A2m xs b.toList
def SqT(K:Frag)(H:Hp)(a:zW)(xs:zM):Prop :=
 Rd H a (.tup xs)\/
  ∃(o:Obj)(b:zG)(n:Nat),K.lookup a=some o/\o.cls=.type "tuple"/\o.data=.seq b n/\b.size<=sizeLine/\A2m xs b.toList
noncomputable def absV:zX->Option V|.none=>some .non|.bool b=>some (.bl b)|.int i _=>some (.int i)|.str x _=>some (.str x)|.bytes b _=>some (.byt b)|.float b _=>some (.flt b)|.ref a=>some (.ref a)|.type n=>some (.ty n)|_=>none
theorem A2z.abs{x:V}(r:A2z x u):absV u=some x:=by
 cases x with
 |non=>cases r;rfl
 |bl _=>cases r;rfl
 |int _=>obtain⟨t,rfl⟩:=r;rfl
 |str _=>obtain⟨t,rfl⟩:=r;rfl
 |byt _=>obtain⟨t,rfl⟩:=r;rfl
 |flt _=>obtain⟨t,rfl⟩:=r;rfl
 |ref _=>cases r;rfl
 |ty _=>cases r;rfl
theorem A2z.inj{x y:V}{u:zX}(r:A2z x u)(q:A2z y u):x=y:=rJ (r.abs.symm.trans q.abs)
theorem A2m.inj:∀{xs ys:zM}{us:zH},A2m xs us->A2m ys us->xs=ys|_,_,_,.nil,.nil=>rfl|_,_,_,.cons r t,.cons r' t'=>by rw[r.inj r',A2m.inj t t']
theorem SqL.of(h:H a=some (.lst xs)):SqL K H a xs:=.inl (.inl h)
theorem SqT.of(h:H a=some (.tup xs)):SqT K H a xs:=.inl (.inl h)
theorem Inv.list(I:Inv X pins Z H s)(h:SqL X.K H a xs):∃its:zH,A2m xs its/\PlainL s.heap a its.toArray/\xs.length<=sizeLine:=by
 rcases h with h|⟨o,its,n,d,f,c,b,g,r⟩
 ·refine qb (h.ok I.hok) λz its n r e=>?_;exact fx its r (lQ _ n e rfl rfl rfl) z
 ·refine fx its.toList r (lQ o n (I.kIn a o d) f c (by simpa using b)) ?_;have e:=r.length;simp only [Array.length_toList]at e
  lia
theorem Inv.tuple(I:Inv X pins Z H s)(h:SqT X.K H a xs):∃its:zH,A2m xs its/\IsTup s.heap a its.toArray/\xs.length<=sizeLine:=by
 rcases h with h|⟨o,its,n,c,d,b,f,r⟩
 ·obtain⟨z,its,r,p⟩:=h.ok I.hok;exact fx its r p z
 ·refine fx its.toList r (sM o (I.kIn a o c) d n (by simpa using b)) ?_;have e:=r.length;simp only [Array.length_toList]at e
  lia
theorem Inv.list_inj(I:Inv X pins Z H s)(h:SqL X.K H a xs)(h':SqL X.K H a ys):xs=ys:=by
 obtain⟨c,r,⟨o,n,e,_,_,d⟩,_⟩:=I.list h;obtain⟨b,i,⟨k,j,g,_,_,f⟩,_⟩:=I.list h';rw[e]at g;cases g;rw[d]at f;injection f with d1 _;have:c=b:=by simpa using congrArg Array.toList d1
 subst this;exact r.inj i
theorem Inv.tuple_inj(I:Inv X pins Z H s)(h:SqT X.K H a xs)(h':SqT X.K H a ys):xs=ys:=by
 obtain⟨c,r,⟨o,e,_,n,d⟩,_⟩:=I.tuple h;obtain⟨b,i,⟨k,g,_,j,f⟩,_⟩:=I.tuple h';rw[e]at g;cases g;rw[d]at f;injection f with d1 _;have:c=b:=by simpa using congrArg Array.toList d1
 subst this;exact r.inj i
abbrev Cx.wish(X:Cx)(E:zA):Cx:={X with xe:=E}
abbrev Cx.nox(X:Cx):Cx:=X.wish λ_ _=>False
theorem Cx.Ok.wish(ok:X.Ok)(E:zA):(X.wish E).Ok :=⟨ok.mod,ok.kind,ok.glob,ok.blt,ok.above,ok.inj,ok.has,ok.cab,ok.hd,ok.frames,ok.stk,ok.exf,ok.bs,ok.bsz,ok.noex,ok.exfs,ok.funs,ok.frf⟩
theorem Cx.Ok.unwish(ok:(X.wish E).Ok):X.Ok :=⟨ok.mod,ok.kind,ok.glob,ok.blt,ok.above,ok.inj,ok.has,ok.cab,ok.hd,ok.frames,ok.stk,ok.exf,ok.bs,ok.bsz,ok.noex,ok.exfs,ok.funs,ok.frf⟩
theorem Inv.wish(I:Inv X pins Z H s)(E:zA):Inv (X.wish E) pins Z H s:=⟨I.ok.wish E,I.os,I.bare,I.base,I.loc,I.cell,I.free,I.freeC,I.pin,I.hok,I.len⟩
theorem Inv.unwish(I:Inv (X.wish E) pins Z H s):Inv X pins Z H s:=⟨I.ok.unwish,I.os,I.bare,I.base,I.loc,I.cell,I.free,I.freeC,I.pin,I.hok,I.len⟩
theorem SP.unwish{D:pJ}{f:Flow}(h:SP (X.wish E) pins D f s'):SP X pins D f s':=by
 cases f with
 |next=>obtain⟨Z',a,I,q⟩:=h;exact mL Z' a I.unwish q
 |brk=>obtain⟨Z',a,I,q⟩:=h;exact mL Z' a I.unwish q
 |cont=>obtain⟨Z',a,I,q⟩:=h;exact mL Z' a I.unwish q
 |ret u=>(refine mF h ?_;clear h;rintro v Z' a ⟨I,r,q⟩);exact nM v Z' a I.unwish r q
theorem PSs.nox{st:List Stmt}{t:TS}(h:PSs X.nox st t):PSs X st t:=λa s Z H D I b=>oj (h a s Z H D (I.wish _) b) (λ_ _ q=>q.unwish) λ_ _ z=>False.elim z
variable{pins:zD}{Z:St}{H:Hp}{s:zY}{es:zT}{u:zX}{A:zZ}{E Q:zA}{tg:yC}{o:zN}{vs:zM}{P:yB}{w:yD}{K:Frag}{fp:zQ}{R:Result->zY->Prop}{pos:Pos}{h base:yA}{pl:Sem Bool}{body:List Stmt}{g:Int->Int->Int}{tb:TS}{f:zX->zX->Sem zX}{op:CmpOp}{C:zW}{us:zH}{mA mg:zE}{kw:List (Str×zX)}{CX:CXT}{fd:zS}{ps:zC}{outer:List Env}{scope:Scope}{osl:zF}
section
variable{X:Cx}{st:Stmt}{rest:List Stmt}{t u:TS}{e:yC}{te:TE}{pos:Pos}
def GL:TS:=λD Z H=>D.nx Z H
def Cj(t u:TS):TS:=λD Z H=>t {D with nx:=u D} Z H
theorem hC:PSs X [] GL:=λ_ _ Z H _ I h=>vC (mL Z H I h)
theorem pi(h1:PS X st t)(h2:PSs X rest u):PSs X (st::rest) (Cj t u):=by
 intro a s Z H D I h;refine wpAny_execs_cons (thn (h1 a s Z H {D with nx:=u D} I h) λf b q=>?_)
 cases f with
 |next=>obtain⟨Z',c,I',q⟩:=q;exact h2 a b Z' c D I' q
 |ret v=>exact q
 |brk=>exact q
 |cont=>exact q
theorem mD(h1:PS X st t):PSs X [st] t:=by
 intro a s Z H D I h;refine wpAny_execs_cons (thn (h1 a s Z H D I h) λf b q=>?_)
 cases f with
 |next=>exact vC q
 |ret v=>exact q
 |brk=>exact q
 |cont=>exact q
def HG:TS:=λD Z H=>D.bk Z H
theorem Li:PS X (.Break pos) HG:=λ_ _ Z H _ I h=>wpAny_Break (mL Z H I h)
theorem Inv.quiet(I:Inv X pins Z H s):interactive X.env=false:=by simp[interactive,I.ok.kind]
def GY(te:TE):TS:=λD Z H=>te Z H λ_ a=>D.nx Z a
theorem oa(f:PE X e te)(hs:swapsWith e none pos.line X.env=pure false:=by rfl):PS X (.Expr e pos) (GY te):=by intro a s Z H D I h;exact wpAny_Expr_any (thn (f a s Z H _ I h) (by (refine λv g b=>ei b λx d I1 i c=>?_;clear b);exact mL Z d I1 c)) I.quiet hs
def Cc(te:TE):TS:=λD Z H=>te Z H D.rt
theorem sj(g:PE X e te):PS X (.Return (some e) pos) (Cc te):=by intro a s Z H D I h;exact wpAny_Return_some (thn (g a s Z H _ I h) (by (refine λv i b=>ei b λx d I1 f c=>?_;clear b);exact nM x Z d I1 f c))
def xU(c:TT)(t u:TS):TS:=λD Z H=>c Z H λb a=>if b=true then t D Z a else u D Z a
theorem pA{c:yC}{a b:List Stmt}{tc:TT}(l:PT X c tc)(k:PSs X a t)(j:PSs X b u):PS X (.If c a b pos) (xU tc t u):=by
 intro e s Z H D I h;refine wpAny_If (thn (l e s Z H _ I h) ?_);rintro d g ⟨i,I1,f⟩
 cases d with
 |true=>exact k e g Z i D I1 f
 |false=>exact j e g Z i D I1 f
def Hq:TS:=λ_ _ _=>False
theorem Bg:PS X st Hq:=λ_ _ _ _ _ _ h=>h.elim
end
abbrev TG:=V->St->Hp->(St->Hp->Prop)->Prop
abbrev TGs:=zM->St->Hp->(St->Hp->Prop)->Prop
def PG(X:Cx)(a:yC)(t:TG):Prop :=
 ∀(b:zD)(s:zY)(Z:St)(H:Hp)(v:V)(u:zX)(Q:St->Hp->Prop),Inv X b Z H s->A2z v u->t v Z H Q->
  wpAny (model X.prog X.w) X.A (assign a X.env u) (λ_ d=>∃Z' c,Inv X b Z' c d/\Q Z' c) X.xe s
def PGs(X:Cx)(ts:zT)(t:TGs):Prop :=
 ∀(a:zD)(s:zY)(Z:St)(H:Hp)(b:zM)(d:zH)(Q:St->Hp->Prop),Inv X a Z H s->A2m b d->t b Z H Q->
  wpAny (model X.prog X.w) X.A (assignInOrder ((assignEach ts X.env).map (·.2)) d) (λ_ e=>∃Z' c,Inv X a Z' c e/\Q Z' c) X.xe s
def qK(i:Nat):TG:=λv Z H Q=>Q (Z.set i (some v)) H
theorem hH(d:X.N.Nodup)(hi:X.N[i]?=some x:=by rfl)(c:Loc X.env.scope x:=by exact .inl rfl)(b:X.fn x=true\/X.env.scope.names.lookup x=some .local:=by first|exact .inl rfl|exact .inr rfl|assumption):PG X (.Name x pos) (qK i):=by intro a s Z H v u Q I r h;exact wpAny_assign_Name (xn I d hi c r (λe I'=>(mL _ H I' h)) b)
def vJ:TGs:=λa Z H Q=>a=[]/\Q Z H
def sX(t:TG)(u:TGs):TGs:=λa Z H Q=>∃v r,a=v::r/\t v Z H λZ' b=>u r Z' b Q
theorem pT:PGs X [] vJ:=by intro a s Z H c b Q I r h;obtain⟨e,h⟩:=h;subst e;cases r;exact assignInOrder_nil (mL Z H I h)
theorem mV{t:TG}{u:TGs}(h1:PG X e t)(h2:PGs X es u)
  (hs:(assignEach (e::es) X.env).map (·.2)=assign e X.env::(assignEach es X.env).map (·.2):=by rfl):PGs X (e::es) (sX t u):=by
 intro a s Z H i g Q I r h;obtain⟨v,j,c,h⟩:=h;subst c
 cases r with
 |cons r rr=>rw[hs];refine assignInOrder_cons (thn (h1 a s Z H _ _ _ I r h) ?_);rintro _ d ⟨Z1,f,I1,b⟩;exact h2 a d Z1 f _ _ Q I1 rr b
def vK(K:Frag)(n:Nat)(t:TGs):TG:=λv Z H Q=>∃a b,v=.ref a/\SqT K H a b/\b.length=n/\t b Z H Q
theorem qY{k:Nat}{t:TGs}(m:X.calm=true)(h:PGs X es t)
  (y:(assignEach es X.env).length=n:=by rfl) (f:(assignEach es X.env).findIdx? (·.1)=none:=by rfl):PG X (.Tuple es k pos) (vK X.K n t):=by
 intro c s Z H v u Q I r d;obtain⟨a,z,j,w,p,d⟩:=d;subst j;cases r;obtain⟨x,g,i,A⟩:=I.tuple w;refine assign_Tuple_tuple (I.ok.hd m) i (by simp[y,<-p,g.length]) f λl q=>?_;have I1:Inv X c Z H {s with heap:=l}:=I.kept (t':=s.toks) λb o e=>q b o (mG (lI e)) e
 exact h c _ Z H z _ Q I1 (by simpa using g) d
def xK(te:TE)(g:TG):TS:=λD Z H=>te Z H λx a=>g x Z a D.nx
theorem pR{i:Nat}{x:Str}{e:yC}{te:TE}{pos':Pos}(k:X.N.Nodup)(hi:X.N[i]?=some x)(g:Loc X.env.scope x)(l:PE X e te)(hs:swapsWith e (some (.Name x pos')) pos.line X.env=pure false:=by rfl)(d:X.fn x=true\/X.env.scope.names.lookup x=some .local:=by first|exact .inl rfl|exact .inr rfl|assumption):
  PS X (.Assign [.Name x pos'] e pos) (xK te (qK i)):=by
 intro a s Z H D I h;refine wpAny_Assign_Name (thn (l a s Z H _ I h) ?_) hs;refine λv n b=>ei b λy f I1 j c=>?_;clear b;exact xn I1 k hi g j (λm I2=>(mL _ f I2 c)) d
def HR(c:TT)(tb:TS):TS:=λD Z H=>∃W:Nat->St->Hp->Prop,(∃m,W m Z H)/\∀m Z H,W m Z H->
 c Z H λb a=>if b=true then∃N:St->Hp->Prop,(∀Z' d,N Z' d->∃e,e<m/\W e Z' d)/\tb {D with nx:=N,ct:=N,bk:=D.nx} Z a else D.nx Z a
theorem Ku{c:yC}{body:List Stmt}{tc:TT}{tb:TS}(q:PassesOwn (model X.prog X.w) X.A X.env X.xe)(u:PT X c tc)(F:PSs X body tb):PS X (.While c body [] pos) (HR tc tb):=by
 intro a s Z H D I h;obtain⟨W,⟨z,x⟩,e⟩:=h;refine wpAny_While (codeAny_whileLoop (λn y=>∃Z' p,Inv X a Z' p y/\W n Z' p) ?_ z (mL Z H I x));rintro n C ⟨Z1,o,I1,G⟩;refine wpAny_passesOwn q (thn (u a C Z1 o _ I1 (e n Z1 o G)) ?_);rintro b B ⟨r,I2,i⟩
 cases b with
 |true=>
  obtain⟨N,t,i⟩:=i;rw[eH rfl];refine wpAny_passesOwn q (thn (F a B Z1 r _ I2 i) λf J g=>?_)
  cases f with
  |next=>obtain⟨Z3,d,I3,m⟩:=g;obtain⟨l,j,k⟩:=t Z3 d m;exact⟨l,(qP j Z3 d I3 k)⟩
  |cont=>obtain⟨Z3,d,I3,m⟩:=g;obtain⟨l,j,k⟩:=t Z3 d m;exact⟨l,(qP j Z3 d I3 k)⟩
  |brk=>exact g
  |ret v=>exact g
 |false=>rw[fa nA];exact vC (mL Z1 r I2 i)
structure It where
 go:Nat->Hp->Prop
 yld:Nat->Hp->V->Hp->Prop
 stop:Nat->Hp->Prop
def qr(X:Cx)(pins:zD)(H:Hp)(b:zW):Prop :=H b=none/\b≠X.env.locals/\b∉X.fs/\(b∈X.ex\/X.s₀.heap.objs.size<=b)/\(∀x c,X.env.cells.lookup x=some c->c≠b)/\∀p∈X.pn++pins,p.1≠b
theorem Inv.fpOk{b:zW}(I:Inv X pins Z H s)(a:s.heap.objs.size<=b)(d:H' b=none):qr X pins H' b:=by
 refine⟨d,(lP (pP (oV I.lt a)) (I.nofs a) (.inr (oU I.sz a)) (λx c e z=>?_) λp f z=>?_)⟩
 ·obtain⟨v,q⟩:=I.cell x c e;exact absurd (oV q.lt (by rw[z];exact a)) (Nat.lt_irrefl _)
 ·exact absurd (oV (lI (I.pin p f).1) (by rw[z];exact a)) (Nat.lt_irrefl _)
structure A6j(ok:zZ->Prop)(P:yB)(w:yD)(K:Frag)(tg:yC)(J:It)(fp:zQ)(it:zW)(tn:Nat->yA->Prop):Prop where
 mem:it∈fp
 obj:∀i h,tn i h->∀b∈fp,∃o,h.get? b=some o/\∀v,o.data≠.cell v
 keep:∀i h h',tn i h->(∀b∈fp,∀o,h.get? b=some o->h'.get? b=some o)->tn i h'
 item:∀(X:Cx),X.prog=P->X.w=w->X.K=K->ok X.A->∀(i:Nat)(pins:zD)(s:zY)(Z:St)(H:Hp)(E:zA),Inv X pins Z H s->(∀b∈fp,qr X pins H b)->tn i s.heap->J.go i H->
  wpAny (model P w) X.A (pyNext (.ref it)) (λr s1=>∃u,r=some u/\
   wpAny (model P w) X.A (letOwnedTupleGo tg (.ref it) u) (λ_ s2=>∃x H',Inv X pins Z H' s2/\A2z x u/\J.yld i H x H'/\tn (i+1) s2.heap/\∀b∈fp,H' b=none) E s1) E s
 done:∀(X:Cx),X.prog=P->X.w=w->X.K=K->ok X.A->∀(i:Nat)(pins:zD)(s:zY)(Z:St)(H:Hp)(E:zA),Inv X pins Z H s->(∀b∈fp,qr X pins H b)->tn i s.heap->J.stop i H->
  wpAny (model P w) X.A (pyNext (.ref it)) (λr s1=>r=none/\Inv X pins Z H s1) E s
 self:∀(A:zZ)(i:Nat)(s:zY)(Q:zA)(E:zA),tn i s.heap->Q (.ref it) s->wpAny (model P w) A (pyIter (.ref it)) Q E s
abbrev zo:zZ->Prop:=λA=>A.handled=none
abbrev C6m:=A6j zo
abbrev TI:=St->Hp->(It->Hp->Prop)->Prop
def zv(ok:zZ->Prop)(X:Cx)(pins:zD)(Z:St)(tg:yC)(R:It->Hp->Prop)(a:zX)(g:zY):Prop :=∃(e:zW)(d:zQ)(f:Nat->yA->Prop)(J:It)(c:Hp),a=.ref e/\Inv X pins Z c g/\A6j ok X.prog X.w X.K tg J d e f/\f 0 g.heap/\(∀b∈d,qr X pins c b)/\R J c
def PIP(ok:zZ->Prop)(X:Cx)(tg iter:yC)(wi:TI):Prop :=
 ∀(a:zD)(s:zY)(Z:St)(H:Hp)(R:It->Hp->Prop),Inv X a Z H s->wi Z H R->
  wpAny (model X.prog X.w) X.A (eval iter X.env) (λv b=>wpAny (model X.prog X.w) X.A (pyIter v) (zv ok X a Z tg R) X.xe b) X.xe s
abbrev PIE:=zv zo
abbrev PI:=PIP zo
theorem uP{o:Obj}{n:String}{vs:zG}{Q:Unit->zY->Prop}(b:s.heap.get? it=some o)(e:o.cls=.type n)(d:o.data=.fields vs)
  (c:["enumerate","zip","dict_itemiterator","dict_reverseitemiterator","odict_iterator","itertools.zip_longest","itertools.pairwise"].contains n=false) (a:Q () s):wpAny M A (letOwnedTupleGo tg (.ref it) u) Q E s:=by
 unfold letOwnedTupleGo
 cases tg<;>first|exact ff a|(cases u<;>first|exact ff a|(refine cz (wpAny_load b ?_);rw[e,d];show wpAny M A (if (["enumerate","zip","dict_itemiterator","dict_reverseitemiterator","odict_iterator","itertools.zip_longest","itertools.pairwise"].contains n&&vs[0]?==some (rawInt _))=true then _ else _) Q E s;rw[fa (by intro h;rw[c,Bool.false_and]at h;cases h)];exact ff a))
def Itl(K:Frag)(a:zW):It :=⟨λi H=>∃b x,SqL K H a b/\b[i]?=some x,λi H x c=>c=H/\∀b,SqL K H a b->b[i]?=some x,λi H=>∃b,SqL K H a b/\b.length<=i⟩
def Itt(K:Frag)(a:zW):It :=⟨λi H=>∃b x,SqT K H a b/\b[i]?=some x,λi H x c=>c=H/\∀b,SqT K H a b->b[i]?=some x,λi H=>∃b,SqT K H a b/\b.length<=i⟩
def Itr(lo:Int)(n:Nat):It:=⟨λi _=>i<n,λi H x a=>a=H/\x=.int (lo+i),λi _=>n<=i⟩
abbrev It.on(J:It):It:=⟨J.go,J.yld,λ_ _=>False⟩
theorem A6j.fin{ok:zZ->Prop}{J:It}(T:A6j (λ_=>True) P w K tg (It.on J) fp it tn)
  (d:∀(X:Cx),X.prog=P->X.w=w->X.K=K->ok X.A->∀(i:Nat)(pins:zD)(s:zY)(Z:St)(H:Hp)(E:zA),Inv X pins Z H s->(∀b∈fp,qr X pins H b)->tn i s.heap->J.stop i H->
   wpAny (model P w) X.A (pyNext (.ref it)) (λr s1=>r=none/\Inv X pins Z H s1) E s):A6j ok P w K tg J fp it tn:=⟨T.mem,T.obj,T.keep,λX a b c _=>T.item X a b c trivial,d,T.self⟩
theorem FA(a it:zW):A6j (λ_=>True) P w K tg (It.on (Itl K a)) [it] it (λi h=>h.IsListIter it a i) where
 mem:=by simp
 obj:=λi h f b l=>by
  have e:b=it:=by simpa using l
  subst e;obtain⟨o,e,c,d⟩:=f;exact cb o e λv z=>by rw[d]at z;cases z
 keep:=λi h m f k=>f.at λo e=>k it (by simp) o e
 item:=by
  intro X O A y T i j s Z H E I n f G;subst O A y;obtain⟨U,x,r,q⟩:=G;obtain⟨Q,F,p,S⟩:=I.list r;obtain⟨u,J,R⟩:=F.get q;refine mM (n it (by simp)) ?_;rintro t M W D ⟨C,N⟩;refine wpAny_pyNext_list_item f p.isList (x:=u) (by simpa using J) λm g L=>?_;have I1:Inv X j Z H {s with heap:=m}:=I.turned (t':=s.toks) (λb o l e=>(L.2 b l).trans e) t M D C N
  obtain⟨o,e,c,d⟩:=id g;exact cb u rfl (uP (s:={s with heap:=m}) e c d (by decide) (mJ x H I1 R ⟨rfl,λY B=>by rw[I.list_inj B r];exact q⟩ g λb l=>(n b l).1))
 done:=λ_ _ _ _ _ _ _ _ _ _ _ _ _ _ z=>z.elim
 self:=λ_ _ _ _ _ f h=>wpAny_pyIter_listiter f h
theorem LU(a it:zW):C6m P w K tg (Itl K a) [it] it (λi h=>h.IsListIter it a i):=A6j.fin (FA a it)<|by intro X y g f k i c s Z H E I m j t;subst y g f;obtain⟨F,z,D⟩:=t;obtain⟨A,r,p,B⟩:=I.list z;refine mM (m it (by simp)) ?_;rintro d u G q ⟨l,v⟩;have J:=r.length;exact wpAny_pyNext_list_end k j p.isList (by simp;lia) λC n=>⟨rfl,I.turned (t':=s.toks) (λb o x e=>n b o x e) d u q l v⟩
theorem FJ(a it:zW):A6j (λ_=>True) P w K tg (It.on (Itt K a)) [it] it (λi h=>h.IsTupleIter it a i) where
 mem:=by simp
 obj:=λi h f b l=>by
  have e:b=it:=by simpa using l
  subst e;obtain⟨o,e,c,d⟩:=f;exact cb o e λv z=>by rw[d]at z;cases z
 keep:=λi h m f k=>f.at λo e=>k it (by simp) o e
 item:=by
  intro X Q B A T i j s Z H E I q f J;subst Q B A;obtain⟨U,x,t,r⟩:=J;obtain⟨n,G,p,S⟩:=I.tuple t;obtain⟨u,L,R⟩:=G.get r;refine mM (q it (by simp)) ?_;rintro y N W F ⟨D,O⟩;refine wpAny_pyNext_tuple_item f (show s.heap.IsTuple a n.toArray from p) (x:=u) (by simpa using L) λm g M=>?_;have I1:Inv X j Z H {s with heap:=m}:=I.turned (t':=s.toks) (λb o l e=>(M.2 b l).trans e) y N F D O
  obtain⟨o,e,c,d⟩:=id g;exact cb u rfl (uP (s:={s with heap:=m}) e c d (by decide) (mJ x H I1 R ⟨rfl,λY C=>by rw[I.tuple_inj C t];exact r⟩ g λb l=>(q b l).1))
 done:=λ_ _ _ _ _ _ _ _ _ _ _ _ _ _ z=>z.elim
 self:=λ_ _ _ _ _ f h=>wpAny_pyIter_tupleiter f h
theorem MP(a it:zW):C6m P w K tg (Itt K a) [it] it (λi h=>h.IsTupleIter it a i):=A6j.fin (FJ a it)<|by intro X z j g l i d s Z H E I n k u;subst z j g;obtain⟨F,A,D⟩:=u;obtain⟨c,t,p,B⟩:=I.tuple A;refine mM (n it (by simp)) ?_;rintro f v G r ⟨m,x⟩;have J:=t.length;exact wpAny_pyNext_tuple_end l k (show s.heap.IsTuple a c.toArray from p) (by simp;lia) λC q=>⟨rfl,I.turned (t':=s.toks) (λb o y e=>q b o y e) f v r m x⟩
theorem FL(it:zW)(lo:Int)(n:Nat):A6j (λ_=>True) P w K tg (It.on (Itr lo n)) [it] it (λi h=>IsRangeIter h it (lo+(i:Nat)*1) ((n:Int)-(i:Nat)) 1) where
 mem:=by simp
 obj:=λi h a b f=>by
  have u:b=it:=by simpa using f
  subst u
  exact⟨_,a,λv z=>by
   have C:Data.fields _=Data.cell v:=z
   cases C⟩
 keep:=λi h g a k=>k it (by simp) _ a
 item:=by
  intro X F r p G i d s Z H E I j a l;subst F r p;refine mM (j it (by simp)) ?_;rintro m B J x ⟨t,D⟩;have l:i<n:=l;refine wpAny_pyNext_range_item a (by lia) λg c A=>?_;have I1:Inv X d Z H {s with heap:=g,toks:=s.toks+1}:=I.turned (λb o f e=>(A.2 b f).trans e) m B x t D
  have q:lo+((i+1:Nat):Int)*1=lo+(i:Int)*1+1:=by lia
  have y:(n:Int)-((i+1:Nat):Int)=(n:Int)-(i:Int)-1:=by lia
  refine cb _ rfl (uP (s:={s with heap:=g,toks:=s.toks+1}) (n:="range_iterator") c rfl rfl (by decide) (mJ (.int (lo+i)) H I1 ⟨s.toks,?_⟩ ⟨rfl,rfl⟩ ?_ λb f=>(j b f).1))
  ·rw[Int.mul_one]
  ·show IsRangeIter g it (lo+((i+1:Nat):Int)*1) ((n:Int)-((i+1:Nat):Int)) 1;rw[q,y];exact c
 done:=λ_ _ _ _ _ _ _ _ _ _ _ _ _ _ z=>z.elim
 self:=λ_ _ _ _ _ a h=>wpAny_pyIter_rangeiter a h
theorem MC(it:zW)(lo:Int)(n:Nat):C6m P w K tg (Itr lo n) [it] it (λi h=>IsRangeIter h it (lo+(i:Nat)*1) ((n:Int)-(i:Nat)) 1):=A6j.fin (FL it lo n)<|by intro X v g d l i a s Z H E I q k f;subst v g d;refine mM (q it (by simp)) ?_;rintro c j x u ⟨m,p⟩;exact wpAny_pyNext_range_end l k (by have:n<=i:=f;lia) λy t=>⟨rfl,I.turned (t':=s.toks) (λb o r e=>t b o r e) c j u m p⟩
def CA(K:Frag)(tl:TE):TI:=λZ H R=>tl Z H λx b=>∃a,x=.ref a/\(∃c,SqL K b a c)/\R (Itl K a) b
def B7(K:Frag)(tl:TE):TI:=λZ H R=>tl Z H λx b=>∃a,x=.ref a/\(∃c,SqT K b a c)/\R (Itt K a) b
theorem nR(j:PE X l tl):PI X tg l (CA X.K tl):=by
 intro c s Z H R I h;refine thn (j c s Z H _ I h) ?_;refine λv d f=>ei f λx k I1 r g=>?_;clear f;obtain⟨a,e,⟨w,m⟩,q⟩:=g;subst e;cases r;obtain⟨n,u,p,t⟩:=I1.list m;refine wpAny_pyIter_list p.isList ?_;refine nL d.heap.objs.size [d.heap.objs.size] _ _ k rfl (I1.kept (t':=d.toks) λb o e=>gc _ e) (LU a _) (fx _ (nc _ rfl) rfl rfl) (λb i=>?_) q;have e:b=d.heap.objs.size:=by simpa using i
 subst e;exact I1.fpOk (fy _) (I1.hok.fresh (fy _))
theorem Ie(k:PE X l tl):PI X tg l (B7 X.K tl):=by
 intro c s Z H R I h;refine thn (k c s Z H _ I h) ?_;refine λv d g=>ei g λx m I1 r i=>?_;clear g;obtain⟨a,e,⟨w,n⟩,q⟩:=i;subst e;cases r;obtain⟨f,u,p,t⟩:=I1.tuple n;refine wpAny_pyIter_tuple (show d.heap.IsTuple a f.toArray from p) ?_;refine nL d.heap.objs.size [d.heap.objs.size] _ _ m rfl (I1.kept (t':=d.toks) λb o e=>gc _ e) (MP a _) (fx _ (nc _ rfl) rfl rfl) (λb j=>?_) q;have e:b=d.heap.objs.size:=by simpa using j
 subst e;exact I1.fpOk (fy _) (I1.hok.fresh (fy _))
theorem KU{R:It->Hp->Prop}{t u v:Tok}{tk:Nat}(I:Inv X pins Z H s)(h1: -(2^62)<=lo)(h2:lo<2^62)(c: -(2^62)<=hi)(f:hi<2^62)
  (q:R (Itr lo (hi-lo).toNat) H):wpAny (model X.prog X.w) X.A (pyIter (.ref s.heap.objs.size)) (PIE X pins Z tg R) E {s with heap:=s.heap.push {cls:=.type "range",data:=.fields #[.int lo t,.int hi u,.int 1 v]},toks:=tk}:=by
 refine wpAny_pyIter_range (IsRange.new ..) (small_one h1 h2 c f) ?_;have I1:Inv X pins Z H {s with heap:=s.heap.push {cls:=.type "range",data:=.fields #[.int lo t,.int hi u,.int 1 v]},toks:=tk}:=I.kept λb o e=>gc _ e
 refine⟨(s.heap.push {cls:=.type "range",data:=.fields #[.int lo t,.int hi u,.int 1 v]}).objs.size,[(s.heap.push {cls:=.type "range",data:=.fields #[.int lo t,.int hi u,.int 1 v]}).objs.size],_,_,H,rfl,
  I1.kept (t':=tk) λb o e=>gc _ e,MC _ lo (hi-lo).toNat,?_,λb a=>?_,q⟩
 ·have d:lo+((0:Nat):Int)*1=lo:=by simp
  have g:(((hi-lo).toNat:Nat):Int)-((0:Nat):Int)=Builtin.Range.rangeSize lo hi 1:=by rw[rangeSize_one];split<;>lia
  show IsRangeIter _ _ (lo+((0:Nat):Int)*1) ((((hi-lo).toNat:Nat):Int)-((0:Nat):Int)) 1;rw[d,g];exact nc _ rfl
 ·have e:b=(s.heap.push {cls:=.type "range",data:=.fields #[.int lo t,.int hi u,.int 1 v]}).objs.size:=by simpa using a
  subst e;exact I1.fpOk (fy _) (I1.hok.fresh (fy _))
def GI(ta:TA):TI:=λZ H R=>ta Z H λa b=>∃j:Int,a=[.int j]/\-(2^62)<=j/\j<2^62/\R (Itr 0 j.toNat) b
theorem uV{a:yC}{ta:TA}(f:Gl X "range")(g:X.mg "range"=none)(i:PA X [a] ta)(hs:starEach [a] X.env=[(false,eval a X.env)]:=by rfl):PI X tg (.Call (.Name "range" p) [a] [] pos) (GI ta):=by
 intro b s Z H R I h;refine Call_ (tf I f g boot_range (PyProof.Rows.callWith_type1 (thn (i pos b s Z H _ I h) ?_) hs rfl));refine λm o d=>ei d λn u I1 l c=>?_;clear d;refine nw c ?_;clear c;rintro j e c ⟨k,q⟩;subst e
 cases l with
 |cons r rr=>
  cases rr
  obtain⟨t,rfl⟩:=r;exact call_range_1 (KU I1 (by lia) (by lia) c k (by simpa using q))
def zy(wi:TI)(g:TG)(tb:TS):TS:=λD Z H=>wi Z H λJ c=>∃W:Nat->Nat->St->Hp->Prop,(∃m,W 0 m Z c)/\∀i m Z H,W i m Z H->
 (J.stop i H/\D.nx Z H)\/(J.go i H/\∃N:St->Hp->Prop,(∀Z' a,N Z' a->∃b,b<m/\W (i+1) b Z' a)/\∀x a,J.yld i H x a->g x Z a λZ2 d=>tb {D with nx:=N,ct:=N,bk:=D.nx} Z2 d)
def wW(fp:zQ)(h:yA):zD:=fp.filterMap λb=>(h.get? b).map λo=>(b,o)
theorem yT{b:zW}{o:Obj}(a:b∈fp)(e:h.get? b=some o):(b,o)∈wW fp h:=List.mem_filterMap.mpr (cb b a (by rw[e];rfl))
theorem Mi{p:zW×Obj}(c:p∈wW fp h):p.1∈fp/\h.get? p.1=some p.2:=by
 obtain⟨b,a,e⟩:=List.mem_filterMap.mp c
 cases q:h.get? b with
 |none=>rw[q]at e;cases e
 |some o=>rw[q]at e;have d:(b,o)=p:=rJ e;subst d;exact⟨a,q⟩
theorem Inv.pinned(I:Inv X pins Z H s)(f:∀b∈fp,qr X pins H b)(i:∀b∈fp,∃o,s.heap.get? b=some o/\∀v,o.data≠.cell v):Inv X (pins++wW fp s.heap) Z H s :=I.pins_of λp k=>(mX.mp k).elim (λz=>I.pin p (pH _ z)) λz=>by obtain⟨a,e⟩:=Mi z;obtain⟨g,j,h,_⟩:=f p.1 a;obtain⟨o,c,d⟩:=i p.1 a;rw[e]at c;cases c;exact lP e g j h d
theorem Inv.unpinned{pl:zD}(I:Inv X (pins++pl) Z H s):Inv X pins Z H s:=I.pins_of λp a=>I.pin p (pH _ (qk _ a))
theorem sy{ok:zZ->Prop}{wi:TI}{g:TG}(G:PassesOwn (model X.prog X.w) X.A X.env X.xe)(S:ok X.A)(hi:PIP ok X tg iter wi)(hg:PG X tg g)(l:PSs X body tb)
  (hs:∀x,foldedSetIterable iter X.env x=pure x:=by intro _;rfl):PS X (.For tg iter body [] pos) (zy wi g tb):=by
 intro a s Z H D I h;refine wpAny_For (thn (hi a s Z H _ I h) λv s1 h1=>thn h1 λa0 s2 Y=>?_) hs;refine nU Y ?_;clear Y;rintro it K tn J H2 e I2 T Q ⟨f2,W,⟨m0,w0⟩,y⟩;subst e;have j:∀{H':Hp},(∀b∈K,H' b=none)->∀b∈K,qr X a H' b:=λhn b l=>⟨hn b l,(f2 b l).2⟩;refine codeAny_forLoop_any (λn s'=>∃i Z' H',Inv X a Z' H' s'/\tn i s'.heap/\(∀b∈K,H' b=none)/\W i n Z' H') ?_ m0 (mh 0 Z H2 I2 Q (λb l=>(f2 b l).1) w0);refine λn U t=>nF t λi Z3 M I3 C B w3=>?_;clear t;rcases y i n Z3 M w3 with ⟨F,qn⟩|⟨go,N,hN,z⟩
 ·refine wpAny_passesOwn G (thn (T.done X rfl rfl rfl S i a U Z3 M X.xe I3 (j B) C F) ?_);rintro r s4 ⟨P,I4⟩;subst P;exact vC (mL Z3 M I4 qn)
 ·refine wpAny_passesOwn G (thn (T.item X rfl rfl rfl S i a U Z3 M X.xe I3 (j B) C go) ?_);rintro r s4 ⟨u,P,h4⟩;subst P;refine wpAny_passesOwn G (thn h4 ?_);rintro _ s5 t;refine lS t ?_;clear t;rintro x E I5 r5 y5 ⟨q,O⟩;have I5':=I5.pinned (j O) (T.obj _ _ q);refine wpAny_passesOwn G (thn (hg _ s5 Z3 E x u _ I5' r5 (z x E y5)) ?_);rintro _ s6 ⟨Z6,H6,I6,q6⟩;refine wpAny_passesOwn G (thn (l _ s6 Z6 H6 _ I6 q6) λf R p=>?_)
  have c:∀{Z7:St}{k:Hp},Inv X (a++wW K s5.heap) Z7 k R->N Z7 k->∃m,m<n/\∃i Z' H',Inv X a Z' H' R/\tn i R.heap/\(∀b∈K,H' b=none)/\W i m Z' H':=λ{Z7 k} I7 L=>by obtain⟨m',hm,w7⟩:=hN Z7 k L;refine cb m' hm (mh (i+1) Z7 k I7.unpinned (T.keep _ _ _ q λb l o e=>(I7.pin (b,o) (pH _ (pH _ (yT l e)))).1) (λb l=>?_) w7);obtain⟨o,e,d⟩:=T.obj _ _ q b l;exact(I7.pin (b,o) (pH _ (pH _ (yT l e)))).2.1
  cases f with
  |next=>obtain⟨Z7,k,I7,L⟩:=p;exact c I7 L
  |cont=>obtain⟨Z7,k,I7,L⟩:=p;exact c I7 L
  |brk=>obtain⟨Z7,k,I7,p⟩:=p;exact mL Z7 k I7.unpinned p
  |ret v=>(refine mF p ?_;clear p;rintro x7 Z7 k ⟨I7,r7,p⟩);exact nM x7 Z7 k I7.unpinned r7 p
theorem sr{wi:TI}{g:TG}(d:PassesOwn (model X.prog X.w) X.A X.env X.xe)(e:X.calm=true)(hi:PI X tg iter wi)(c:PG X tg g)(b:PSs X body tb)
  (hs:∀x,foldedSetIterable iter X.env x=pure x:=by intro _;rfl):PS X (.For tg iter body [] pos) (zy wi g tb):=
 λa s Z H D I h=>sy d (I.ok.hd e) hi c b hs a s Z H D I h
theorem pU{g:TG}{D:pJ}(Pv:Nat->St->Hp->Prop)(d:Pv 0 Z H)(h:∀i Z H,i<=xs.length->Pv i Z H->SqL K H a xs)
  (hs:∀i x Z H,xs[i]?=some x->Pv i Z H->g x Z H λZ2 H2=>tb {D with nx:=Pv (i+1),ct:=Pv (i+1),bk:=D.nx} Z2 H2) (j:∀Z H,Pv xs.length Z H->D.nx Z H):
  ∃W:Nat->Nat->St->Hp->Prop,(∃m,W 0 m Z H)/\∀i m Z H,W i m Z H->
   ((Itl K a).stop i H/\D.nx Z H)\/((Itl K a).go i H/\∃N:St->Hp->Prop,(∀Z' H',N Z' H'->∃b,b<m/\W (i+1) b Z' H')/\∀x H',(Itl K a).yld i H x H'->g x Z H' λZ2 H2=>tb {D with nx:=N,ct:=N,bk:=D.nx} Z2 H2):=by
 refine cb (λi m Z H=>m=xs.length-i/\i<=xs.length/\Pv i Z H) (fx xs.length (by simp) (pG _) d) ?_;rintro i m Z H ⟨rfl,c,p⟩;have q:=h i Z H c p;by_cases hlt:i<xs.length
 ·refine .inr (kB (mL xs (xs[i]) q (by simp[hlt])) (Pv (i+1)) (λZ' H' f=>(nr (xs.length-(i+1)) (by lia) rfl hlt f)) λx H' y=>?_);obtain⟨e,y⟩:=y;subst e;exact hs i x Z _ (y xs q) p
 ·have e:i=xs.length:=by lia
  subst e;exact .inl ⟨(cb xs q (fy _)),j Z H p⟩
theorem yR{g:TG}{D:pJ}(Pv:Nat->St->Hp->Prop)(b:Pv 0 Z H)
  (hs:∀i Z H,i<n->Pv i Z H->g (.int (lo+i)) Z H λZ2 H2=>tb {D with nx:=Pv (i+1),ct:=Pv (i+1),bk:=D.nx} Z2 H2) (d:∀Z H,Pv n Z H->D.nx Z H):
  ∃W:Nat->Nat->St->Hp->Prop,(∃m,W 0 m Z H)/\∀i m Z H,W i m Z H->
   ((Itr lo n).stop i H/\D.nx Z H)\/((Itr lo n).go i H/\∃N:St->Hp->Prop,(∀Z' H',N Z' H'->∃a,a<m/\W (i+1) a Z' H')/\∀x H',(Itr lo n).yld i H x H'->g x Z H' λZ2 H2=>tb {D with nx:=N,ct:=N,bk:=D.nx} Z2 H2):=by
 refine cb (λi m Z H=>m=n-i/\i<=n/\Pv i Z H) (fx n (by simp) (pG _) b) ?_;rintro i m Z H ⟨rfl,f,p⟩;by_cases hlt:i<n
 ·refine .inr (kB hlt (Pv (i+1)) (λZ' H' c=>(nr (n-(i+1)) (by lia) rfl hlt c)) λx H' y=>?_);obtain⟨e,y⟩:=y;subst e y;exact hs i Z _ hlt p
 ·have e:i=n:=by lia
  subst e;exact .inl ⟨fy _,d Z H p⟩
abbrev R2:=V->V->Hp->VK->Prop
def OpR(X:Cx)(f:zX->zX->Sem zX)(r:R2):Prop :=
 ∀(a:zD)(s:zY)(Z:St)(H:Hp)(x y:V)(v u:zX)(Q:VK),Inv X a Z H s->A2z x v->A2z y u->r x y H Q->
  wpAny (model X.prog X.w) X.A (f v u) (EP X a Z Q) X.xe s
def UnR(X:Cx)(f:zX->Sem zX)(r:V->Hp->VK->Prop):Prop :=
 ∀(a:zD)(s:zY)(Z:St)(H:Hp)(x:V)(v:zX)(Q:VK),Inv X a Z H s->A2z x v->r x H Q->
  wpAny (model X.prog X.w) X.A (f v) (EP X a Z Q) X.xe s
def qH(X:Cx)(f:zX)(r:zM->Hp->VK->Prop):Prop :=
 ∀(a:zD)(s:zY)(Z:St)(H:Hp)(c:zM)(b:zH)(Q:VK),Inv X a Z H s->A2m c b->r c H Q->
  wpAny (model X.prog X.w) X.A (call f b) (EP X a Z Q) X.xe s
def tOp(r:R2)(ta tb:TE):TE:=λZ H Q=>ta Z H λx b=>tb Z b λy a=>r x y a Q
def tUn(r:V->Hp->VK->Prop)(ta:TE):TE:=λZ H Q=>ta Z H λx a=>r x a Q
def rI(C:Int->Int->Prop)(g:Int->Int->V):R2:=λx y H Q=>∃i j,x=.int i/\y=.int j/\C i j/\Q (g i j) H
def uC(g:Int->Int->V):R2:=λx y H Q=>∃i j,x=.int i/\y=.int j/\Q (g i j) H
def rU(g:Int->V):V->Hp->VK->Prop:=λx H Q=>∃i,x=.int i/\Q (g i) H
section
variable{a:yC}{tb:TE}
theorem Ac(n:PE X a ta)(j:PE X b tb){R:V->V->Hp->Prop}(I:Inv X pins Z H s)
  (h:ta Z H λx H1=>tb Z H1 λy H2=>R x y H2)
  (e:∀v u d x y H2,Inv X pins Z H2 d->A2z x v->A2z y u->R x y H2->wpAny (model X.prog X.w) X.A (f v u) Q X.xe d):
  wpAny (model X.prog X.w) X.A (eval a X.env) (λv s₁=>wpAny (model X.prog X.w) X.A (eval b X.env) (λu s₂=>wpAny (model X.prog X.w) X.A (f v u) Q X.xe s₂) X.xe s₁) X.xe s:=by
 refine thn (n pins s Z H _ I h) ?_;refine λv k c=>ei c λx H1 I1 l i=>?_;clear c;refine thn (j pins k Z H1 _ I1 i) ?_;refine λu d c=>ei c λy H2 I2 m g=>?_;clear c;exact e v u d x y H2 I2 l m g
theorem eB{op:Operator}{r:R2}(d:OpR X (binaryOp op) r)(f:PE X a ta)(g:PE X b tb):PE X (.BinOp a op b pos) (tOp r ta tb):=by intro c s Z H Q I h;exact wpAny_BinOp (Ac f g I h λv u e x y i I2 k j q=>d c e Z i x y v u Q I2 k j q)
theorem Ct{op:UnaryOp}{r:V->Hp->VK->Prop}(e:UnR X (unaryOp op) r)(f:PE X a ta):PE X (.UnaryOp op a pos) (tUn r ta):=by intro b s Z H Q I h;exact UnaryOp_ (thn (f b s Z H _ I h) (by (refine λv g c=>ei c λx i I1 j d=>?_;clear c);exact e b g Z i x v Q I1 j d))
theorem opI{C:Int->Int->Prop}
  (a:∀(i j:Int)(t u:Tok)(s:zY)(Q:zA)(E:zA),C i j->Q (.int (g i j) s.toks) {s with toks:=s.toks+1}->wpAny (model X.prog X.w) X.A (f (.int i t) (.int j u)) Q E s):
  OpR X f (rI C λi j=>.int (g i j)):=by
 intro b s Z H x y v u Q I k d h;refine lS h ?_;clear h;rintro i j rfl rfl e q;obtain⟨t,rfl⟩:=k;obtain⟨c,rfl⟩:=d;exact a i j t c s _ _ e (dV (.int (g i j)) H (I.tok _) ⟨_,rfl⟩ q)
theorem Cb
  (a:∀(i j:Int)(t u:Tok)(s:zY)(Q:zA)(E:zA),Q (.int (g i j) s.toks) {s with toks:=s.toks+1}->wpAny (model X.prog X.w) X.A (f (.int i t) (.int j u)) Q E s):
  OpR X f (uC λi j=>.int (g i j)):=by
 intro b s Z H x y v u Q I e d h;refine ei h ?_;clear h;rintro i j rfl rfl q;obtain⟨t,rfl⟩:=e;obtain⟨c,rfl⟩:=d;exact a i j t c s _ _ (dV (.int (g i j)) H (I.tok _) ⟨_,rfl⟩ q)
theorem xI{g:Int->Int->Bool}
  (a:∀(i j:Int)(t u:Tok)(s:zY)(Q:zA)(E:zA),Q (.bool (g i j)) s->wpAny (model X.prog X.w) X.A (f (.int i t) (.int j u)) Q E s):
  OpR X f (uC λi j=>.bl (g i j)):=by
 intro b s Z H x y v u Q I e d h;refine ei h ?_;clear h;rintro i j rfl rfl q;obtain⟨t,rfl⟩:=e;obtain⟨c,rfl⟩:=d;exact a i j t c s _ _ (dV (.bl (g i j)) H I rfl q)
def CDiv(i j:Int):Prop:=0<j/\j<1073741824
def CPow(i j:Int):Prop:=0<=j/\j<=1000000/\i.natAbs<2^64
def E5d(i j:Int):Prop:=(-(2^64)<i/\i<2^64)\/(-(2^64)<j/\j<2^64)
theorem E5d.ok{i j:Int}(h:E5d i j):IntMulOk i j:=by
 rcases h with ⟨a,b⟩|⟨a,b⟩
 ·exact .of_left (intBits_le_64 a b)
 ·exact .of_right (intBits_le_64 a b)
theorem oM:OpR X (binaryOp .Add) (uC λi j=>.int (i+j)):=Cb λ_ _ _ _ _ _ _ q=>add_int q
theorem tX:OpR X (binaryOp .Sub) (uC λi j=>.int (i-j)):=Cb λ_ _ _ _ _ _ _ q=>sub_int q
theorem wT:OpR X (binaryOp .Mult) (rI E5d λi j=>.int (i*j)):=opI λ_ _ _ _ _ _ _ a q=>mul_int q a.ok
theorem pL:OpR X (binaryOp .FloorDiv) (rI CDiv λi j=>.int (i/j)):=opI λi j _ _ _ _ _ a q=>by have b:(0:Int)<j:=a.1;have c:j<1073741824:=a.2;exact floordiv_int (by lia) (by rw[Int.fdiv_eq_ediv_of_nonneg i (by lia)];exact q) (.inl (PyProof.noPylong_small (by lia)))
theorem ny:OpR X (binaryOp .Mod) (rI (λ_ j=>0<j) λi j=>.int (i%j)):=opI λi j _ _ _ _ _ a q=>by have b:(0:Int)<j:=a;exact mod_int' (by lia) (by rw[Int.fmod_eq_emod_of_nonneg i (by lia)];exact q)
theorem wU:OpR X (binaryOp .Pow) (rI CPow λi j=>.int (i^j.toNat)):=opI λ_ _ _ _ _ _ _ a q=>pow_int_small a.1 a.2.1 a.2.2 q
theorem unI{f:zX->Sem zX}{g:Int->Int}
  (a:∀(i:Int)(t:Tok)(s:zY)(Q:zA)(E:zA),Q (.int (g i) s.toks) {s with toks:=s.toks+1}->wpAny (model X.prog X.w) X.A (f (.int i t)) Q E s):
  UnR X f (rU λi=>.int (g i)):=by
 intro b s Z H x v Q I c h;obtain⟨i,rfl,q⟩:=h;obtain⟨t,rfl⟩:=c;exact a i t s _ _ (dV (.int (g i)) H (I.tok _) ⟨_,rfl⟩ q)
theorem CL:UnR X (unaryOp .USub) (rU λi=>.int (-i)):=unI λ_ _ _ _ _ q=>neg_int q
end
def BZ:V->V->Bool|.non,.non=>true|.non,.int _=>true|.int _,.non=>true|.non,.bl _=>true|.bl _,.non=>true|.non,.str _=>true|.str _,.non=>true|.int _,.int _=>true|.bl _,.bl _=>true|.str _,.str _=>true|.byt _,.byt _=>true|.int _,.str _=>true|.str _,.int _=>true|.bl _,.str _=>true|.str _,.bl _=>true|_,_=>false
def rEq:R2:=λx y H Q=>BZ x y=true/\Q (.bl (decide (x=y))) H
def rNe:R2:=λx y H Q=>BZ x y=true/\Q (.bl (! decide (x=y))) H
theorem DE{i j:Int}:decide (V.int i=V.int j)=(i==j):=by rw[Bool.eq_iff_iff];simp
theorem CS{i j:Bool}:decide (V.bl i=V.bl j)=(i==j):=by rw[Bool.eq_iff_iff];simp
theorem DO{i j:Str}:decide (V.str i=V.str j)=(i==j):=by rw[Bool.eq_iff_iff];simp
theorem DA{i j:Array UInt8}:decide (V.byt i=V.byt j)=(i.toList==j.toList):=by rw[Bool.eq_iff_iff];cases i;cases j;simp
section
variable{a:yC}{tb:TE}
theorem nY{Q:VK}{k a:Bool}(I:Inv X pins Z H s)(q:Q (.bl k) H)(e:k=a):EP X pins Z Q (.bool a) s:=by subst e;exact dV (.bl k) H I rfl q
theorem nQ:OpR X (compareOp .Eq) rEq:=by
 intro e s Z H x y v u Q I d a h;obtain⟨c,q⟩:=h
 cases x with
 |non=>
  cases d
  cases y with
  |non=>cases a;exact PySem.EqNone.eq_none_none (nY I q (by simp))
  |bl j=>cases a;exact PySem.EqNone.eq_none_bool (nY I q (by simp))
  |int j=>obtain⟨b,rfl⟩:=a;exact PySem.EqNone.eq_none_int (nY I q (by simp))
  |str j=>obtain⟨b,rfl⟩:=a;exact PySem.EqNone.eq_none_str (nY I q (by simp))
  |_=>exact absurd (show false=true from c) nA
 |bl i=>
  cases d
  cases y with
  |non=>cases a;exact PySem.EqNone.eq_bool_none (nY I q (by simp))
  |bl j=>cases a;exact eq_bool (nY I q CS)
  |str j=>obtain⟨b,rfl⟩:=a;exact PySem.EqMixed.eq_bool_str (nY I q (by simp))
  |_=>exact absurd (show false=true from c) nA
 |int i=>
  obtain⟨t,rfl⟩:=d
  cases y with
  |non=>cases a;exact PySem.EqNone.eq_int_none (nY I q (by simp))
  |int j=>obtain⟨b,rfl⟩:=a;exact eq_int (nY I q DE)
  |str j=>obtain⟨b,rfl⟩:=a;exact PySem.EqMixed.eq_int_str (nY I q (by simp))
  |_=>exact absurd (show false=true from c) nA
 |str i=>
  obtain⟨t,rfl⟩:=d
  cases y with
  |non=>cases a;exact PySem.EqNone.eq_str_none (nY I q (by simp))
  |bl j=>cases a;exact PySem.EqMixed.eq_str_bool (nY I q (by simp))
  |int j=>obtain⟨b,rfl⟩:=a;exact PySem.EqMixed.eq_str_int (nY I q (by simp))
  |str j=>obtain⟨b,rfl⟩:=a;exact eq_str (nY I q DO)
  |_=>exact absurd (show false=true from c) nA
 |byt i=>
  obtain⟨t,rfl⟩:=d
  cases y with
  |byt j=>obtain⟨b,rfl⟩:=a;exact PySem.W.eq_bytes (nY I q DA)
  |_=>exact absurd (show false=true from c) nA
 |_=>cases y<;>exact absurd (show false=true from c) nA
theorem vL:OpR X (compareOp .NotEq) rNe:=by
 intro e s Z H x y v u Q I d a h;obtain⟨c,q⟩:=h
 cases x with
 |non=>
  cases d
  cases y with
  |non=>cases a;exact PySem.EqNone.ne_none_none (nY I q (by simp))
  |bl j=>cases a;exact PySem.EqNone.ne_none_bool (nY I q (by simp))
  |int j=>obtain⟨b,rfl⟩:=a;exact PySem.EqNone.ne_none_int (nY I q (by simp))
  |str j=>obtain⟨b,rfl⟩:=a;exact PySem.EqNone.ne_none_str (nY I q (by simp))
  |_=>exact absurd (show false=true from c) nA
 |bl i=>
  cases d
  cases y with
  |non=>cases a;exact PySem.EqNone.ne_bool_none (nY I q (by simp))
  |bl j=>cases a;exact ne_bool (nY I q (congrArg not CS))
  |str j=>obtain⟨b,rfl⟩:=a;exact PySem.EqMixed.ne_bool_str (nY I q (by simp))
  |_=>exact absurd (show false=true from c) nA
 |int i=>
  obtain⟨t,rfl⟩:=d
  cases y with
  |non=>cases a;exact PySem.EqNone.ne_int_none (nY I q (by simp))
  |int j=>obtain⟨b,rfl⟩:=a;exact ne_int (nY I q (congrArg not DE))
  |str j=>obtain⟨b,rfl⟩:=a;exact PySem.EqMixed.ne_int_str (nY I q (by simp))
  |_=>exact absurd (show false=true from c) nA
 |str i=>
  obtain⟨t,rfl⟩:=d
  cases y with
  |non=>cases a;exact PySem.EqNone.ne_str_none (nY I q (by simp))
  |bl j=>cases a;exact PySem.EqMixed.ne_str_bool (nY I q (by simp))
  |int j=>obtain⟨b,rfl⟩:=a;exact PySem.EqMixed.ne_str_int (nY I q (by simp))
  |str j=>obtain⟨b,rfl⟩:=a;exact ne_str (nY I q (congrArg not DO))
  |_=>exact absurd (show false=true from c) nA
 |byt i=>
  obtain⟨t,rfl⟩:=d
  cases y with
  |byt j=>obtain⟨b,rfl⟩:=a;exact PySem.W.ne_bytes (nY I q (congrArg not DA))
  |_=>exact absurd (show false=true from c) nA
 |_=>cases y<;>exact absurd (show false=true from c) nA
theorem vg:OpR X (compareOp .Lt) (uC λi j=>.bl (decide (i<j))):=xI λ_ _ _ _ _ _ _ q=>lt_int q
theorem xZ:OpR X (compareOp .LtE) (uC λi j=>.bl (decide (i<=j))):=xI λ_ _ _ _ _ _ _ q=>le_int q
theorem uO:OpR X (compareOp .Gt) (uC λi j=>.bl (decide (j<i))):=xI λ_ _ _ _ _ _ _ q=>gt_int q
theorem CB:OpR X (compareOp .GtE) (uC λi j=>.bl (decide (j<=i))):=xI λ_ _ _ _ _ _ _ q=>ge_int q
theorem Jb:OpR X (compareOp .IsNot) (λx y H Q=>y=.non/\Q (.bl (! decide (x=.non))) H):=by
 intro a s Z H x y v u Q I b c h;obtain⟨rfl,q⟩:=h;cases c;refine isnot_none_gen (nY I q ?_)
 cases x<;>first|(cases b;rfl)|(obtain⟨t,rfl⟩:=b;rfl)
theorem AA(b:yC)(h:op≠.In:=by decide)(h2:op≠.NotIn:=by decide):behindInMarks op b=false:=by
 have a:(op==CmpOp.In)=false:=by cases op<;>first|rfl|exact absurd rfl h
 have c:(op==CmpOp.NotIn)=false:=by cases op<;>first|rfl|exact absurd rfl h2
 cases b<;>simp[behindInMarks,a,c]
theorem sH{r:R2}(d:OpR X (compareOp op) r)(g:PE X a ta)(i:PE X b tb)(e:behindInMarks op b=false:=by exact AA _):PE X (.Compare a [op] [b] pos) (tOp r ta tb):=by intro c s Z H Q I h;exact wpAny_Compare1 (Ac g i I h λv u f x y j I2 l k q=>d c f Z j x y v u Q I2 l k q) e
def wS(t:TE):TT:=λZ H Q=>t Z H λx a=>∃k,x=.bl k/\Q k a
theorem lZ{r:R2}(m:OpR X (compareOp op) r)(q:PE X a ta)(w:PE X b tb)(g:behindInMarks op b=false:=by exact AA _):PT X (.Compare a [op] [b] pos) (wS (tOp r ta tb)):=by
 intro d s Z H Q I h
 refine wpAny_isTrue_Compare1 (thn (q d s Z H _ I h) λv A ⟨x,i,I1,C,l⟩=>thn (w d A Z i _ I1 l) λu o ⟨y,B,I2,n,t⟩=>thn (m d o Z B x y v u _ I2 C n t) λc D ⟨z,f,I3,p,k,e,j⟩=>?_) g
 subst e;cases p;exact wpAny_truthy_bool (cb f I3 j)
def HE(r e:R2)(ta tb tc:TE):TE:=λZ H Q=>ta Z H λx c=>tb Z c λy d=>r x y d λz a=>∃k,z=.bl k/\
 (if k=true then tc Z a λf b=>e y f b Q else Q (.bl false) a)
theorem A8{g:CmpOp}{r o:R2}(D:OpR X (compareOp op) r)(i:OpR X (compareOp g) o)(K:PE X a ta)(N:PE X b tb)(t:PE X c tc)
  (q:lastMarks [op,g] [b,c]=false:=by with_unfolding_all rfl):PE X (.Compare a [op,g] [b,c] pos) (HE r o ta tb tc):=by
 intro f s Z H Q I h
 refine Compare_chain (thn (K f s Z H _ I h) λv O ⟨x,B,I1,S,C⟩=>chain_link (thn (N f O Z B _ I1 C) λu F ⟨y,R,I2,n,L⟩=>thn (D f F Z R x y v u _ I2 S n L) λd M ⟨z,l,I3,G,k,e,m⟩=>?_)) q
 subst e;cases G;refine wpAny_truthy_bool ?_
 cases k with
 |false=>exact ite_ff (dV (.bl false) l I3 rfl m)
 |true=>exact ite_tt (chain_last (thn (t f M Z l _ I3 m) (by (refine λT A j=>ei j λJ P I4 w p=>?_;clear j);exact i f A Z P y J u T Q I4 n w p)))
theorem wY:(sizeLine:Nat)<2^63:=by rw[sizeLine_eq];decide
theorem Fq:OpR X (binaryOp .Add) (λx y H Q=>∃i j,x=.str i/\y=.str j/\i.length+j.length<=sizeLine/\Q (.str (i++j)) H):=by intro a s Z H x y v u Q I e d h;refine lS h ?_;clear h;rintro i j rfl rfl b q;obtain⟨t,rfl⟩:=e;obtain⟨c,rfl⟩:=d;exact add_str (λc f=>(dV (.str (i++j)) H (I.tok _) ⟨_,rfl⟩ q)) b
theorem sY{x:V}(r:A2m [x] us):∃u,us=[u]/\A2z x u:=by
 cases r with
 |cons r1 r2=>cases r2;exact cb _ rfl r1
theorem uR{x:V}(r:A2m [x,y] us):∃u w',us=[u,w']/\A2z x u/\A2z y w':=by
 cases r with
 |cons r1 r2=>
  cases r2 with
  |cons r3 r4=>cases r4;exact dV _ _ rfl r1 r3
theorem E7(b:X.calm=true):qH X (.builtin "max") (λxs H Q=>∃i j,xs=[.int i,.int j]/\Q (.int (if j>i then j else i)) H):=by
 intro a s Z H xs d Q I r h;obtain⟨i,j,rfl,q⟩:=h;refine ei (uR r) ?_;rintro u g rfl ⟨t,rfl⟩ ⟨e,rfl⟩;refine max_two_ints (I.ok.hd b) λc f k=>(dV _ H (I.kept k) ?_ q);by_cases hj:j>i
 ·rw[eH hj,eH hj];exact⟨_,rfl⟩
 ·rw[fa hj,fa hj];exact⟨_,rfl⟩
theorem Me(b:X.calm=true):qH X (.builtin "min") (λxs H Q=>∃i j,xs=[.int i,.int j]/\Q (.int (if j<i then j else i)) H):=by
 intro a s Z H xs d Q I r h;obtain⟨i,j,rfl,q⟩:=h;refine ei (uR r) ?_;rintro u g rfl ⟨t,rfl⟩ ⟨e,rfl⟩;refine min_two_ints (I.ok.hd b) λc f k=>(dV _ H (I.kept k) ?_ q);by_cases hj:j<i
 ·rw[eH hj,eH hj];exact⟨_,rfl⟩
 ·rw[fa hj,fa hj];exact⟨_,rfl⟩
end
structure D8s(h:yA)(x dx C:zW)(mA:zE):Prop where
 obj:h.get? x=some (instObj C dx)
 ns:h.Ns1 dx mA
 ne:dx≠x
theorem Lr(n:h.Ns1 dx mA):∃od,h.get? dx=some od/\∀name,PySem.W.lookIn name od=some (mA name):=by
 refine nF n ?_;clear n;rintro o c l f g j ⟨_,i⟩;refine cb o f λname=>?_;have e:=i name;unfold nsFind findBy at e;rw[<-Array.find?_toList]at e;unfold PySem.W.lookIn;rw[g];dsimp only;split
 ·rename_i y q;rw[q]at e;exact congrArg some e
 ·rename_i q;rw[q]at e
  have a:c.toList.any (·.refKey)=false:=by rw[List.any_eq_false];intro y d;obtain⟨z,t,b⟩:=j y (Array.mem_toList_iff.mp d);simp[DictEntry.refKey,b]
  have k:¬c.toList.any (·.refKey)=true:=by rw[a];exact nA
  rw[fa k];exact congrArg some e
theorem D8s.look{x:zW}(I:D8s h x dx C mA):∃od,PySem.W.InstAt h x (instObj C dx) C (some od)/\∀name,PySem.W.lookIn name od=some (mA name):=
 let⟨od,ho,hl⟩:=Lr I.ns
 (cb od ⟨I.obj,rfl,rfl,ho⟩ hl)
section
variable{x f:zW}
theorem oY{a:Bool}(X:K.In s.heap)(I:D8s s.heap x dx C mA)(d:plainGet K C name=true)(f:hasDictIn K C=true)
  (g:findIn K (.ref C) name=some none) (c:mA name=some v) (b:PySem.W.handedIn v=true) (h:Q v {s with toks:=s.toks+1}):
  wpAny (model prog w) A (getAttr (.ref x) name a) Q E s:=by
 obtain⟨i,J,e⟩:=I.look;exact PySem.W.get_value X J (PySem.W.plainGet_of d).1 (PySem.W.findObj_own f g rfl (by rw[e,c])) b h
theorem KR{Q:zX×List zX->zY->Prop}(X:K.In s.heap)(I:D8s s.heap x dx C mA)(a:plainGet K C name=true)
  (b:findIn K (.ref C) name=some (some (.ref f))) (c:isFn K (.ref f)=true) (d:mA name=none) (h:Q (.ref f,[.ref x]) s):
  wpAny (model prog w) A (getMethod (.ref x) name pl) Q E s:=by
 obtain⟨e,J,g⟩:=I.look;exact PySem.W.method_fn X J (PySem.W.plainGet_of a).1 (PySem.W.plainGet_of a).2 b (beq_iff_eq.mp c) (by show(PySem.W.lookIn name e).map (·.isSome)=some false;rw[g,d];rfl) h
theorem J1{Q:Unit->zY->Prop}(X:K.In s.heap)(I:D8s s.heap x dx C mA)
  (hs:findIn K (.ref C) "__setattr__"=some (some (.builtin "object.__setattr__"))) (q:plainOver K C=true) (j:PySem.W.takerIn K C name=some none) (k:hasDictIn K C=true)
  (m:PySem.Within mA ns) (hsz:ns.length<=sizeLine)
  (h:∀h',D8s h' x dx C (λy=>if y=name then some v else mA y)->Heap.SameBut dx s.heap h'->Q () {s with heap:=h',toks:=s.toks+2}):
  wpAny (model prog w) A (setAttr (.ref x) name v) Q E s:=by
 obtain⟨t,J,z⟩:=I.look;refine PySem.W.set_plain X J hs (PySem.W.osa_open (s:={s with toks:=s.toks+1}) (r:=none) X J q j λb=>?_)
 obtain⟨B,n,f⟩:=PySem.W.any_some k;have p:s.heap.get? x=some ⟨.ref C,some dx,.plain,#[]⟩:=I.obj;refine cz (ff (cz (cz (wpAny_loadPart p (cz (PySem.W.Looks.here (s:={s with toks:=s.toks+1}) (PySem.W.looks_clsIn X n) ?_))))));rw[f];refine ff (a:=some dx) (cz (ff (cz ?_)));refine wpAny_nsSet1 (s:={s with toks:=s.toks+1}) I.ns λh' c d=>?_
 refine mF (c.count (PySem.Within.cons name v m)) ?_;rintro u o l ⟨e,g,i⟩;refine cz (wpAny_lookBehind e (by rw[g];exact pastItsLine_dict (oU i (by rw[nG];lia))) ?_);exact ff (h _ ⟨(d.2 _ (Ne.symm I.ne)).trans I.obj,c,I.ne⟩ d)
theorem KZ{vs:zH}(X:K.In s.heap)(c:makesIn K C=true)
  (hi:findIn K (.ref C) "__init__"=some (some (.ref f))) (b:typeIn K (.ref f)=some (.type "function"))
  (h:codeAny (model prog w) (A.under (.builtin "type.__call__" ⟨.ref C::vs,kw⟩)) (.call (.ref f) ⟨.ref (s.heap.objs.size+1)::vs,kw⟩) (PySem.W.InitBack (s.heap.objs.size+1) R)
   {s with heap:=(s.heap.push emptyDict).push (instObj C s.heap.objs.size)}):
  codeAny (model prog w) A (.call (.ref C) ⟨vs,kw⟩) R s:=by
 obtain⟨i,g,d,t,e⟩:=s;exact PySem.W.make_core (PySem.W.makes_of X c) (PySem.W.looks_findIn X hi) (λa=>PySem.W.bind_fn X a b) (.inl rfl) h
end
def mI(f:Str)(v:V):List (Str×V)->List (Str×V)| []=>[(f,v)]|(g,x)::r=>if g=f then (g,v)::r else (g,x)::mI f v r
theorem FI(f g:Str)(v:V):∀fs:zK,(mI f v fs).lookup g=if g=f then some v else fs.lookup g
 | []=>by
  show List.lookup g [(f,v)]=_;by_cases h:g=f
  ·have a:(g==f)=true:=beq_iff_eq.mpr h;simp only [List.lookup,a,eH h]
  ·have a:(g==f)=false:=uE.mpr h;simp only [List.lookup,a,fa h]
 |(k,x)::r=>by
  have b:=FI f g v r;rw[show mI f v ((k,x)::r)=(if k=f then (k,v)::r else (k,x)::mI f v r) from rfl];by_cases hk:k=f
  ·rw[eH hk];by_cases h:g=k
   ·have a:(g==k)=true:=beq_iff_eq.mpr h;simp only [List.lookup,a,eH (h.trans hk)]
   ·have a:(g==k)=false:=uE.mpr h;simp only [List.lookup,a,fa (λe:g=f=>h (e.trans hk.symm))]
  ·rw[fa hk];by_cases h:g=k
   ·have a:(g==k)=true:=beq_iff_eq.mpr h;simp only [List.lookup,a,fa (λe:g=f=>hk (h.symm.trans e))]
   ·have a:(g==k)=false:=uE.mpr h;simp only [List.lookup,a];exact b
theorem Br(f:Str)(v:V):∀fs:zK,f∈(mI f v fs).map (·.1)/\∀g,g∈fs.map (·.1)->g∈(mI f v fs).map (·.1)
 | []=>⟨by simp[mI],λg h=>by simp at h⟩
 |(k,x)::r=>by
  obtain⟨b,a⟩:=Br f v r;rw[show mI f v ((k,x)::r)=(if k=f then (k,v)::r else (k,x)::mI f v r) from rfl];by_cases hk:k=f
  ·rw[eH hk];subst hk;exact⟨by simp,λg h=>by simpa using h⟩
  ·rw[fa hk];refine⟨?_,λg h=>?_⟩
   ·rw[mi];exact uF _ b
   ·rw[mi]at h⊢;rcases lY.mp h with e|e
    ·exact lY.mpr (.inl e)
    ·exact uF _ (a g e)
theorem FR(f:Str)(v:V):∀fs:zK,(mI f v fs).length<=fs.length+1
 | []=>by simp[mI]
 |(k,x)::r=>by
  have a:=FR f v r;rw[show mI f v ((k,x)::r)=(if k=f then (k,v)::r else (k,x)::mI f v r) from rfl];by_cases hk:k=f
  ·rw[eH hk,nG,nG];lia
  ·rw[fa hk,nG,nG];lia
theorem B5d.some_of{v:V}(r:B5d (some v) o):∃u,o=some u/\A2z v u:=by
 cases o with
 |none=>exact(show False from r).elim
 |some u=>exact cb u rfl r
theorem B5d.none_of(r:B5d none o):o=none:=by
 cases o with
 |none=>rfl
 |some u=>exact(show False from r).elim
theorem Fc{v:V}(r:A2z v u):PySem.W.handedIn u=true:=by
 cases v with
 |non=>cases(show u=Value.none from r);rfl
 |bl b=>cases(show u=Value.bool b from r);rfl
 |int i=>obtain⟨t,e⟩:=(show∃t,u=Value.int i t from r);cases e;rfl
 |str x=>obtain⟨t,e⟩:=(show∃t,u=Value.str x t from r);cases e;rfl
 |byt b=>obtain⟨t,e⟩:=(show∃t,u=Value.bytes b t from r);cases e;rfl
 |flt b=>obtain⟨t,e⟩:=(show∃t,u=Value.float b t from r);cases e;rfl
 |ref a=>cases(show u=Value.ref a from r);rfl
 |ty n=>cases(show u=Value.type n from r);rfl
section
variable{fs fs':zK}
theorem xj(b:HOk P w H h)(e:H a=some (.ins C dx fs)):∃mA,D8s h a dx C mA/\(∀f,B5d (fs.lookup f) (mA f))/\PySem.Within mA (fs.map (·.1))/\fs.length<=1000/\H dx=some (.own a):=by refine mM (show A1p P w H h a (.ins C dx fs) from b a _ e) ?_;rintro d z c g ⟨mA,n,r,q⟩;exact⟨mA,(lP ⟨g,n,c⟩ r q z d)⟩
end
structure Cls(K:Frag)(C:zW):Prop where
 pg:plainGet K C Str.empty=true
 hd:hasDictIn K C=true
 po:plainOver K C=true
 sa:findIn K (.ref C) "__setattr__"=some (some (.builtin "object.__setattr__"))
theorem Cls.get(c:Cls K C)(f:Str):plainGet K C f=true:=c.pg
def A1j(K:Frag)(C:zW)(f:Str):Prop:=findIn K (.ref C) f=some none
theorem A1j.taker{f:Str}(n:A1j K C f):PySem.W.takerIn K C f=some none:=by unfold PySem.W.takerIn;rw[show findIn K (.ref C) f=some none from n];rfl
structure xT(K:Frag)(C:zW)(m:Str)(f:zW):Prop where
 at_:findIn K (.ref C) m=some (some (.ref f))
 fn:isFn K (.ref f)=true
 kp:keepIn K (.ref f)=true
section
variable{fs:zK}{f:Str}{v:V}
theorem Nh{b:Bool}(I:Inv X pins Z H s)(e:H a=some (.ins C dx fs))(c:Cls X.K C)(n:A1j X.K C f)(l:fs.lookup f=some v)
  (h:∀u s',Inv X pins Z H s'->A2z v u->Q u s'):wpAny (model X.prog X.w) A (getAttr (.ref a) f b) Q E s:=by
 refine nw (xj I.hok e) ?_;rintro g O r ⟨_,_,_⟩;obtain⟨u,i,d⟩:=B5d.some_of (v:=v) (o:=g f) (by rw[<-l];exact r f);exact oY I.kIn O (c.get f) c.hd n i (Fc d) (h u _ (I.tok _) d)
theorem Na{g:zW}{Q:zX×List zX->zY->Prop}(I:Inv X pins Z H s)(e:H a=some (.ins C dx fs))(c:Cls X.K C)(k:xT X.K C m g)(l:fs.lookup m=none)
  (h:Q (.ref g,[.ref a]) s):wpAny (model X.prog X.w) A (getMethod (.ref a) m pl) Q E s:=by
 refine nw (xj I.hok e) ?_;rintro d O r ⟨_,_,_⟩;have b:d m=none:=B5d.none_of (by rw[<-l];exact r m);exact KR I.kIn O (c.get m) k.at_ k.fn b h
theorem Nj{Q:Unit->zY->Prop}(I:Inv X pins Z H s)(e:H a=some (.ins C dx fs))(c:Cls X.K C)(n:A1j X.K C f)(D:fs.length<1000)(B:A2z y u)
  (h:∀s',Inv X pins Z (upd H a (.ins C dx (mI f y fs))) s'->Q () s'):wpAny (model X.prog X.w) A (setAttr (.ref a) f u) Q E s:=by
 refine nw (xj I.hok e) ?_;rintro i O r ⟨j,_,d⟩;have k:(fs.map (·.1)).length<=sizeLine:=by rw[dm,sizeLine_eq];lia
 refine J1 I.kIn O c.sa c.po n.taker c.hd j k λt O' m=>h _ ?_;have p:∃o,t.get? dx=some o:=let⟨o,_,_,e',_⟩:=O'.ns;⟨o,e'⟩;refine I.write (x:=a) (e:=dx) (by rw[e];exact True.intro) (.inr d) (λb q v z=>(m.2 b v).trans z) p ?_;refine lX (by rw[eh O.ne];exact d) ?_ O.ne (mW O'.obj _ O'.ns (λg=>?_) λg l=>?_)
 ·have:=FR f y fs;lia
 ·show B5d ((mI f y fs).lookup g) (if g=f then some u else i g);rw[FI];by_cases q:g=f
  ·rw[eH q,eH q];exact B
  ·rw[fa q,fa q];exact r g
 ·by_cases q:g=f
  ·rw[q];exact(Br f y fs).1
  ·refine(Br f y fs).2 g (j g λz=>l ?_);show(if g=f then some u else i g)=none;rw[fa q];exact z
theorem Inv.made(I:Inv X pins Z H s):Inv X pins Z (upd (upd H s.heap.objs.size (.own (s.heap.objs.size+1))) (s.heap.objs.size+1) (.ins C s.heap.objs.size []))
  {s with heap:=(s.heap.push emptyDict).push (instObj C s.heap.objs.size)}:=by
 have d:(s.heap.push emptyDict).get? s.heap.objs.size=some emptyDict:=nc s.heap rfl
 have h:((s.heap.push emptyDict).push (instObj C s.heap.objs.size)).get? (s.heap.objs.size+1)=some (instObj C s.heap.objs.size):=by
  have:=nc (s.heap.push emptyDict) (o:=instObj C s.heap.objs.size) rfl
  rwa[rW]at this
 have f:(s.heap.push emptyDict).Ns s.heap.objs.size (λ_=>none):=(mh emptyDict (#[]) _ d rfl (λe i=>absurd i (by simp)) λ_=>rfl);have I1:=I.laid (a:=s.heap.objs.size) (o:=.own (s.heap.objs.size+1)) (h':=s.heap.push emptyDict) (t':=s.toks) (λb u q=>gc _ q) (fy _) ⟨_,d⟩;refine I1.laid (a:=s.heap.objs.size+1) (o:=.ins C s.heap.objs.size []) (t':=s.toks) (λb u q=>gc _ q) (Nat.le_of_eq (rW _ _)) ?_;have c:s.heap.objs.size≠s.heap.objs.size+1:=mG (Nat.lt_succ_self _);refine lX (by rw[eh c,cp]) (pG _) c (mW h (λ_=>none) ((Heap.Ns1.of_empty f).at λo q=>gc _ q) (λ_=>True.intro) λy g=>absurd rfl g)
theorem DH{f:Str}(a:attributeBase e f env (eval e env)=eval e env)
  (h:wpAny (model prog w) A (eval e env) (λo s₁=>wpAny (model prog w) A (getAttr o f true) Q E s₁) E s):wpAny (model prog w) A (eval (.Attribute e f pos) env) Q E s :=
 Attribute_any_ h (by rw[arm_eval_Attribute,a])
end
def Ce(K:Frag)(ta:TE)(f:Str):TE:=λZ H Q=>ta Z H λx c=>∃a C d b v,x=.ref a/\c a=some (.ins C d b)/\Cls K C/\A1j K C f/\b.lookup f=some v/\Q v c
def sFld(K:Frag)(ta tv:TE)(f:Str):TS:=λD Z H=>tv Z H λy e=>ta Z e λx c=>∃a C d b,x=.ref a/\c a=some (.ins C d b)/\Cls K C/\A1j K C f/\b.length<1000/\
 D.nx Z (upd c a (.ins C d (mI f y b)))
section
variable{o:yC}{f:Str}
theorem lJ(p:PE X e ta)(g:attributeBase e f X.env (eval e X.env)=eval e X.env):PE X (.Attribute e f pos) (Ce X.K ta f):=by intro b s Z H Q I h;refine DH g (thn (p b s Z H _ I h) ?_);rintro u z d;refine uY d ?_;clear d;rintro x j I1 o a C t ⟨y,v,i,k,c,n,l,q⟩;subst i;obtain rfl:u=Value.ref a:=o;exact Nh I1 k c n l λr w I2 m=>(dV v j I2 m q)
theorem oX(k:PE X o ta)(p:PE X value tv)(hs:swapsWith value (some (.Attribute o f pos')) pos.line X.env=pure false):PS X (.Assign [.Attribute o f pos'] value pos) (sFld X.K ta tv f):=by intro b s Z H D I h;refine plainObj_wpAny_Assign_Attribute (thn (p b s Z H _ I h) ?_) hs;refine λu r d=>ei d λy g I1 v q=>?_;clear d;refine thn (k b r Z g _ I1 q) ?_;rintro e A d;refine uY d ?_;clear d;rintro x F I2 j a C w ⟨z,i,t,c,n,l,m⟩;subst i;obtain rfl:e=Value.ref a:=j;exact Nj I2 t c n l v λB I3=>(mL Z _ I3 m)
end
section
variable{c:zX}{b:Bool}
inductive nX(K:Frag)(H:Hp):V->zX->Prop where
 |non:nX K H .non (.type "NoneType")
 |bl (x:Bool):nX K H (.bl x) (.type "bool")
 |int (i:Int):nX K H (.int i) (.type "int")
 |str (x:Str):nX K H (.str x) (.type "str")
 |flt (x:UInt64):nX K H (.flt x) (.type "float")
 |lst {a:zW} {xs:zM} (e:H a=some (.lst xs)):nX K H (.ref a) (.type "list")
 |frz {a:zW} {o:Obj} {xs:zM} (e:H a=some (.frz o (.lst xs))):nX K H (.ref a) (.type "list")
 |tup {a:zW} {xs:zM} (e:H a=some (.tup xs)):nX K H (.ref a) (.type "tuple")
 |dK {a:zW} {kvs:zJ} (e:H a=some (.dK kvs)):nX K H (.ref a) (.type "dict")
 |dT {a:zW} {kvs:List (List Key×V)} (e:H a=some (.dT kvs)):nX K H (.ref a) (.type "dict")
 |ins {a C dx:zW} {fs:zK} (e:H a=some (.ins C dx fs)) (cl:Cls K C) (ha:findIn K (.ref C) "__class__"=some (some (.builtin "object.__class__")))
   (hn:specialIn K (.builtin "object.__class__") "__get__"=some (some (.builtin "getset_descriptor.__get__"))) (htk:takesIn K (.builtin "object.__class__")=some true)
   (hm:mroIn K C (.type "object")=some true):nX K H (.ref a) (.ref C)
theorem LC{x:V}{t:zX}(I:Inv X pins Z H s)(d:A2z x u)(ty:nX X.K H x t)(e:kitOne X.K t c=some b)(h:∀tk,Q (.bool b) {s with toks:=tk}):
  wpAny (model X.prog X.w) A (call (.builtin "isinstance") [u,c]) Q E s:=by
 cases ty with
 |non=>cases(show u=Value.none from d);exact PySem.W.kia_one PySem.W.kitx_none I.kIn True.intro e (λz=>nomatch z) h
 |bl y=>cases(show u=Value.bool y from d);exact PySem.W.kia_one PySem.W.kitx_bool I.kIn True.intro e (λz=>nomatch z) h
 |int i=>obtain⟨t,q⟩:=(show∃t,u=Value.int i t from d);cases q;exact PySem.W.kia_one PySem.W.kitx_int I.kIn True.intro e (λz=>nomatch z) h
 |str y=>obtain⟨t,q⟩:=(show∃t,u=Value.str y t from d);cases q;exact PySem.W.kia_one PySem.W.kitx_str I.kIn True.intro e (λz=>nomatch z) h
 |flt y=>obtain⟨t,q⟩:=(show∃t,u=Value.float y t from d);cases q;exact PySem.W.kia_one PySem.W.kitx_float I.kIn True.intro e (λz=>nomatch z) h
 |@lst a g ea=>
  cases(show u=Value.ref a from d)
  refine qb (show A1p X.prog X.w H s.heap a (.lst g) from I.hok a _ ea) λ_ _ n _ f=>?_;exact PySem.W.kia_one PySem.W.kitx_list I.kIn (cb _ f rfl) e (λz=>nomatch z) h
 |@frz a ob g ea=>
  cases(show u=Value.ref a from d)
  obtain⟨_,_,_,n,_,f⟩:=(show A1p X.prog X.w H s.heap a (.frz ob (.lst g)) from I.hok a _ ea);exact PySem.W.kia_one PySem.W.kitx_list I.kIn (cb _ f rfl) e (λz=>nomatch z) h
 |@tup a g ea=>
  cases(show u=Value.ref a from d)
  obtain⟨_,_,_,p⟩:=(show A1p X.prog X.w H s.heap a (.tup g) from I.hok a _ ea);obtain⟨o,f,j,_⟩:=p;exact PySem.W.kia_one PySem.W.kitx_tuple I.kIn (cb o f j) e (λz=>nomatch z) h
 |@dK a kvs ea=>
  cases(show u=Value.ref a from d)
  refine pN (show A1p X.prog X.w H s.heap a (.dK kvs) from I.hok a _ ea) λ_ _ v _ p=>?_;refine mF p ?_;clear p;rintro o l k ⟨f,j,_⟩;exact PySem.W.kia_one PySem.W.kitx_dict I.kIn (cb o f j.1) e (λz=>nomatch z) h
 |@dT a kvs ea=>
  cases(show u=Value.ref a from d)
  refine rE (show A1p X.prog X.w H s.heap a (.dT kvs) from I.hok a _ ea) ?_;rintro _ _ g _ o l k f ⟨j,_⟩;exact PySem.W.kia_one PySem.W.kitx_dict I.kIn (cb o f j.1) e (λz=>nomatch z) h
 |@ins a C dx fs ea cl ha hn htk hm=>
  cases(show u=Value.ref a from d)
  obtain⟨r,O,_⟩:=xj I.hok ea;obtain⟨m,J,_⟩:=O.look;exact PySem.W.kia_one (PySem.W.kitx_own (cl.get _) cl.hd ha hn htk hm) I.kIn J e (λz=>nomatch z) h
end
structure A5y(k:Nat)(A:zZ):Prop where
 hd:A.handled=none
 dp:A.depth+3*k+5<recursionLimit
 un:A.units+16*k+200<cLine
 gd:A.guards=some []
theorem A5y.mono{k:Nat}(r:A5y k A)(h:j<=k):A5y j A:=⟨r.hd,by have:=r.dp;lia,by have:=r.un;lia,r.gd⟩
theorem A5y.deeper{k:Nat}(r:A5y (k+1) A)(env:Env):A5y k (A.deeper env):=⟨r.hd,by have:=r.dp;show A.depth+1+3*k+5<_;lia,by have:=r.un;show A.units+3+16*k+200<_;lia,r.gd⟩
theorem MT:(A.under (.builtin "type.__call__" ⟨.ref C::us,kw⟩)).depth=A.depth+1:=by first|rfl|simp[Around.under,Code.weight,Code.isCreation,Code.isGuard,Code.isCaller,Code.frames,Code.isFrame,guardIds]
theorem MQ:(A.under (.builtin "type.__call__" ⟨.ref C::us,kw⟩)).units=A.units+1:=by first|rfl|simp[Around.under,Code.cUnits,Code.frames,Code.isFrame]
theorem Nm:(A.under (.builtin "type.__call__" ⟨.ref C::us,kw⟩)).guards=A.guards:=by
 show pushGuards (Code.guards (.builtin "type.__call__" ⟨.ref C::us,kw⟩)) A.guards=A.guards;have h:Code.isGuard (.builtin "type.__call__" ⟨.ref C::us,kw⟩)=false:=by first|rfl|(simp[Code.isGuard,guardIds])|decide
 unfold Code.guards;rw[h];cases A.guards<;>rfl
theorem A5y.make{k:Nat}(r:A5y (k+1) A)(C:zW)(us:zH)(kw:List (Str×zX)):A5y k (A.under (.builtin "type.__call__" ⟨.ref C::us,kw⟩)):=⟨r.hd,by have:=r.dp;rw[MT];lia,by have:=r.un;rw[MQ];lia,by rw[Nm];exact r.gd⟩
theorem A5y.depth{k:Nat}(r:A5y k A):A.depth<recursionLimit:=by have:=r.dp;lia
theorem A5y.units{k:Nat}(r:A5y k A):A.units+64<cLine:=by have:=r.un;lia
theorem A5y.units0{k:Nat}(r:A5y k A):A.units<cLine:=by have:=r.un;lia
def Cd:TA:=λ_ H Q=>Q [] H
def Cv(ta:TE)(tr:TA):TA:=λZ H Q=>ta Z H λx c=>tr Z c λb a=>Q (x::b) a
theorem dt:PA X [] Cd:=λ_ _ _ _ H Q I h=>Calls.spliced_nil (dV [] H I .nil h)
theorem ad(i:PE X e te)(g:PA X es t)(hs:starEach (e::es) X.env=(false,eval e X.env)::starEach es X.env:=by rfl):PA X (e::es) (Cv te t):=by intro c a s Z H Q I h;rw[hs];show wpAny _ _ (spliced ((false,eval e X.env)::backTo c (starEach es X.env))) _ _ s;refine Calls.spliced_cons (thn (i a s Z H _ I h) ?_);refine λu k b=>ei b λx l I1 n d=>?_;clear b;exact thn (g c a k Z l _ I1 d) (by (refine λp q b=>ei b λo m I2 f j=>?_;clear b);exact dV (x::o) m I2 (.cons n f) j)
def tTup(t:TA):TE:=λZ H Q=>t Z H λa b=>a.length<=sizeLine/\∀p,b p=none->Q (.ref p) (upd b p (.tup a))
def tLst(t:TA):TE:=λZ H Q=>t Z H λa b=>a.length<=sizeLine/\∀p,b p=none->Q (.ref p) (upd b p (.lst a))
theorem oQ{x1}(h:PA X es t):PE X (.Tuple es x1 pos) (tTup t):=by intro a s Z H Q I i;refine wpAny_Tuple_spliced (thn (h pos a s Z H _ I i) λf c ⟨j,d,I1,r,z,q⟩=>⟨by rw[<-r.length];exact z,?_⟩);have g:d c.heap.objs.size=none:=I1.hok.fresh (fy _);refine dV (.ref c.heap.objs.size) (upd d c.heap.objs.size (.tup j)) (I1.laid (t':=c.toks) (λb u e=>gc _ e) (fy _) ?_) rfl (q _ g);exact kB z f r (sM _ (nc _ rfl) rfl _ rfl)
theorem oG(h:PA X es t):PE X (.List es pos) (tLst t):=by intro a s Z H Q I i;refine wpAny_List_spliced (thn (h pos a s Z H _ I i) λf c ⟨j,d,I1,r,z,q⟩=>⟨by rw[<-r.length];exact z,?_⟩);have g:d c.heap.objs.size=none:=I1.hok.fresh (fy _);refine dV (.ref c.heap.objs.size) (upd d c.heap.objs.size (.lst j)) (I1.laid (t':=c.toks) (λb u e=>gc _ e) (fy _) ?_) rfl (q _ g);exact qP z f 0 r (nc _ rfl)
abbrev Sp:=zM->Hp->VK->XK->Prop
abbrev CXT:=List Env->Hp->zY->XK->zX->zY->Prop
structure D1l(P:yB)(w:yD)(K:Frag)(mg:zE)(base:yA)(A:zZ)(outer:List Env)(s:zY)(H:Hp):Prop where
 frames:A.frames=some outer
 mod:Mod K mg base
 bs:∀b o,base.get? b=some o->s.heap.get? b=some o/\H b=none
 bsz:base.objs.size<=s.heap.objs.size
 funs:s.heap.FunFrames base outer
 frf:∀b∈frs outer,H b=none
 hok:HOk P w H s.heap
 bare:AllBare s.gens
def CE(outer:List Env)(P:yB)(w:yD)(H:Hp)(s:zY)(Q:VK)(u:zX)(s':zY):Prop :=∃v a,s'.os=s.os/\AllBare s'.gens/\Un (frs outer) [] H a s.heap s'.heap/\HOk P w a s'.heap/\A2z v u/\Q v a
def CR(CX:CXT)(outer:List Env)(P:yB)(w:yD)(H:Hp)(s:zY)(Q:VK)(E:XK)(r:Result)(s':zY):Prop :=
 match r with
 |.ok (.ret u)=>CE outer P w H s Q u s'
 |.ok _=>False
 |.error e=>CX outer H s E e s'
structure A3i(P:yB)(w:yD)(K:Frag)(mg:zE)(base:yA)(CX:CXT)(k:Nat)(f:zW)(fd:zS)(ps:zC)(sp:Sp):Prop where
 len:∀vs H Q E,sp vs H Q E->vs.length=ps.length
 run:∀(A:zZ)(outer:List Env)(s:zY)(H:Hp)(args:Args)(us:zH)(vs:zM)(Q:VK)(E:XK),A5y k A->D1l P w K mg base A outer s H->BindsTo s fd args (ps.zip us)->A2m vs us->sp vs H Q E->
  codeAny (model P w) A (.call (.ref f) args) (CR CX outer P w H s Q E) s
theorem A3i.mono{k:Nat}{f:zW}{sp:Sp}(F:A3i P w K mg base CX j f fd ps sp)(h:j<=k):
  A3i P w K mg base CX k f fd ps sp:=⟨F.len,λA a s H b e c Q E d=>F.run A a s H b e c Q E (d.mono h)⟩
theorem D1l.make(e:D1l P w K mg base A outer s H)(C:zW)(us:zH)(kw:List (Str×zX)):
  D1l P w K mg base (A.under (.builtin "type.__call__" ⟨.ref C::us,kw⟩)) outer s H:=⟨by first|exact e.frames|(simpa[Around.under,Code.envs,Code.isFrame,pushEnvs]using e.frames),e.mod,e.bs,e.bsz,e.funs,e.frf,e.hok,e.bare⟩
theorem Inv.env0(I:Inv X pins Z H s):D1l X.prog X.w X.K X.mg X.base X.A X.stack s H :=⟨I.ok.frames,I.ok.mod,I.bs,oU I.ok.bsz I.sz,I.stack,I.stkFree,I.hok,I.bare⟩
theorem Inv.after{Q:VK}(I:Inv X pins Z H s)(h:CE X.stack X.prog X.w H s Q u s'):EP X pins Z Q u s':=by refine lS h ?_;clear h;rintro v j k a f ⟨c,r,q⟩;obtain⟨i,g,d,t,e⟩:=s';obtain rfl:e=s.os:=k;exact dV v j (I.call (h':=i) (g':=g) (d':=d) (t':=t) (ch:=[]) f c a (λb z=>absurd z (by simp))) r q
def wQ(sp:Sp)(dvs:zM)(E:XK)(t:TA):TE:=λZ H Q=>t Z H λa b=>sp (a++dvs) b Q E
def GZ(C:zW)(m:Str)(sp:Sp)(dvs:zM)(E:XK)(ta:TE)(t:TA):TE:=λZ H Q=>ta Z H λx c=>∃a f b,x=.ref a/\c a=some (.ins C f b)/\b.lookup m=none/\
 t Z c λd e=>sp (x::(d++dvs)) e Q E
def Cz(C:zW)(sp:Sp)(dvs:zM)(E:XK)(t:TA):TE:=λZ H Q=>t Z H λc b=>∀x a,b x=none->b a=none->a≠x->
 sp (.ref x::(c++dvs)) (upd (upd b a (.own x)) x (.ins C a [])) (λv d=>v=.non/\Q (.ref x) d) E
def A9f(K:Frag)(fd:zS)(ps:zC)(ds:zH):Prop :=∀(s:zY)(a:zH),K.In s.heap->(a++ds).length=ps.length->BindsTo s fd ⟨a,[]⟩ (ps.zip (a++ds))
theorem A9f.all(h:∀us:zH,us.length=ps.length->bindArgs fd ⟨us,[]⟩=pure (ps.zip us)):A9f K fd ps []:=λs us _ a=>by rw[ox]at a⊢;exact .of_eq (h us a)
def sZ(CX:CXT)(X:Cx)(E:XK):Prop:=∀(a:zD)(Z:St)(H:Hp)(s:zY)(e:zX)(b:zY),Inv X a Z H s->CX X.stack H s E e b->X.xe e b
section
variable{CX:CXT}{k:Nat}{f:zW}{sp:Sp}{E:XK}{o:yC}
theorem CT{Q:VK}(F:A3i X.prog X.w X.K X.mg X.base CX k f fd ps sp)(l:A5y k X.A)(c:A9f X.K fd ps ds)(i:A2m dvs ds)(g:sZ CX X E)
  (I:Inv X pins Z H s) (r:A2m vs us) (h:sp (vs++dvs) H Q E):wpAny (model X.prog X.w) X.A (call (.ref f) us) (EP X pins Z Q) X.xe s:=by
 have b:A2m (vs++dvs) (us++ds):=r.append i;have d:(us++ds).length=ps.length:=by rw[<-b.length];exact F.len _ _ _ _ h
 refine wpAny_call (codeAny_mono (F.run X.A X.stack s H ⟨us,[]⟩ (us++ds) (vs++dvs) Q E l I.env0 (c s us I.kIn d) b h) λr j a=>?_)
 cases r with
 |error e=>exact g pins Z H s e j I a
 |ok fl=>
  cases fl with
  |ret u=>exact I.after a
  |next=>exact False.elim a
  |brk=>exact False.elim a
  |cont=>exact False.elim a
theorem DF(F:A3i X.prog X.w X.K X.mg X.base CX k f fd ps sp)(j:A5y k X.A)(d:Gl X x)(i:X.mg x=some (.ref f))(l:keepIn X.K (.ref f)=true)(n:A9f X.K fd ps ds)(g:A2m dvs ds)(o:sZ CX X E)
  (m:PA X (e::es) t) (c:(x==("__debug__":Str))=false:=by decide) (u:starEach (e::es) X.env=(false,eval e X.env)::starEach es X.env:=by rfl) (b:(backTo pos (starEach es X.env)).any (·.1)=false:=by rfl):
  PE X (.Call (.Name x p) (e::es) [] pos) (wQ sp dvs E t):=by
 intro a s Z H Q I h;refine wpAny_Call_Name_kw (ub I d i ?_ c);refine PySem.W.callWith_K (h₀:=X.base) I.ok.mod.kin l (thn (m pos a s Z H _ I h) λv z ⟨y,B,I1,r,q⟩=>⟨I1.kIn,?_⟩) u b;exact CT F j n g o I1 r q
theorem Dp(G:PE X o ta)(c:Cls X.K C)(j:xT X.K C m f)(F:A3i X.prog X.w X.K X.mg X.base CX k f fd ps sp)(v:A5y k X.A)(M:A9f X.K fd ps ds)(p:A2m dvs ds)(z:sZ CX X E)(J:PA X (e::es) t)
  (d:starEach (e::es) X.env=(false,eval e X.env)::starEach es X.env:=by rfl) (g:(backTo pos (starEach es X.env)).any (·.1)=false:=by rfl)
  (n:eval (.Call (.Attribute o m apos) (e::es) [] pos) X.env=(do
   let ov<-eval o X.env
   standAt apos.atName
   let(f,first)<-holding [ov] (getMethod ov m pl)
   callWith pos f first (backTo pos (starEach (e::es) X.env)) (backToKw pos (keywordEach [] X.env))):=by rfl):
  PE X (.Call (.Attribute o m apos) (e::es) [] pos) (GZ C m sp dvs E ta t):=by
 intro b s Z H Q I h;refine PySem.W.methodCall_KW (pl:=pl) (thn (G b s Z H _ I h) ?_) n;rintro u N i;refine uY i ?_;clear i;rintro x y I1 D a P R ⟨B,O,l,q⟩;subst B;obtain rfl:u=Value.ref a:=D;refine Na I1 O c j l ?_;refine PySem.W.callWith_K (first:=[.ref a]) (h₀:=X.base) I.ok.mod.kin j.kp (thn (J pos b N Z y _ I1 q) λus S ⟨vs,T,I2,r,L⟩=>⟨I2.kIn,?_⟩) d g;exact CT (us:=.ref a::us) (vs:=.ref a::vs) F v M p z I2 (.cons rfl r) L
structure Mk(K:Frag)(C f:zW):Prop where
 makes:makesIn K C=true
 init:findIn K (.ref C) "__init__"=some (some (.ref f))
 fn:isFn K (.ref f)=true
 kp:keepIn K (.ref C)=true
theorem Ld{Q:VK}(M:Mk X.K C f)(F:A3i X.prog X.w X.K X.mg X.base CX k f fd ps sp)(i:A5y (k+1) X.A)(l:A9f X.K fd ps ds)(g:A2m dvs ds)
  (o:sZ CX X E) (I:Inv X pins Z H s) (r:A2m vs us)
  (h:∀x dx,H x=none->H dx=none->dx≠x->sp (.ref x::(vs++dvs)) (upd (upd H dx (.own x)) x (.ins C dx [])) (λv H2=>v=.non/\Q (.ref x) H2) E):
  wpAny (model X.prog X.w) X.A (call (.ref C) us) (EP X pins Z Q) X.xe s:=by
 have c:=h (s.heap.objs.size+1) s.heap.objs.size (I.hok.fresh (Nat.le_succ _)) (I.hok.fresh (fy _)) (mG (Nat.lt_succ_self _));have I2:=Inv.made (C:=C) I;have b:A2m (V.ref (s.heap.objs.size+1)::(vs++dvs)) (Value.ref (s.heap.objs.size+1)::(us++ds)):=.cons rfl (r.append g)
 have m:(Value.ref (s.heap.objs.size+1)::us++ds).length=ps.length:=by have e:=b.length;rw[F.len _ _ _ _ c]at e;exact e.symm
 refine wpAny_call (KZ (f:=f) I.kIn M.makes M.init (beq_iff_eq.mp M.fn) (codeAny_mono (F.run _ X.stack _ _ ⟨Value.ref (s.heap.objs.size+1)::us,[]⟩ (Value.ref (s.heap.objs.size+1)::(us++ds)) _ _ E (i.make C us [])
  (I2.env0.make C us []) (l _ (Value.ref (s.heap.objs.size+1)::us) I2.kIn m) b c) λr j a=>?_))
 cases r with
 |error e=>exact o pins Z _ _ e j I2 a
 |ok fl=>
  cases fl with
  |ret u=>refine lS (I2.after a) λv q I3 d n p=>?_;subst n;exact nE d (V.ref (s.heap.objs.size+1)) q I3 rfl p
  |next=>exact False.elim a
  |brk=>exact False.elim a
  |cont=>exact False.elim a
theorem JH(M:Mk X.K C f)(F:A3i X.prog X.w X.K X.mg X.base CX k f fd ps sp)(j:A5y (k+1) X.A)(d:Gl X x)(i:X.mg x=some (.ref C))(m:A9f X.K fd ps ds)(g:A2m dvs ds)(n:sZ CX X E)
  (l:PA X (e::es) t) (c:(x==("__debug__":Str))=false:=by decide) (o:starEach (e::es) X.env=(false,eval e X.env)::starEach es X.env:=by rfl) (b:(backTo pos (starEach es X.env)).any (·.1)=false:=by rfl):
  PE X (.Call (.Name x p) (e::es) [] pos) (Cz C sp dvs E t):=by
 intro a s Z H Q I h;refine wpAny_Call_Name_kw (ub I d i ?_ c);refine PySem.W.callWith_K (h₀:=X.base) I.ok.mod.kin M.kp (thn (l pos a s Z H _ I h) λu y ⟨v,z,I1,r,q⟩=>⟨I1.kIn,?_⟩) o b;exact Ld M F j m g n I1 r q
end
section
variable{CX:CXT}{k:Nat}{f:zW}{sp:Sp}{E:XK}{o:yC}
variable{g:zH->List zX->List zX}
end
structure ic(N P:zC)(sc:Scope):Prop where
 kind:sc.kind=.function
 co:sc.isCoroutine=false
 gen:sc.isGenerator=false
 nd:N.Nodup
 pre:N.take P.length=P
 par:∀x∈P,sc.names.lookup x=some .local\/sc.names.lookup x=some .cell
 nofree:∀y∈sc.names,y.2≠.free
theorem EN{b:Str->Option NameKind}{x:Str}:∀{a:List (Str×zX)}{m:zE},(∀v,(x,v)∉a)->bindL b a m x=m x
 | [],_,_=>rfl
 |(n,v)::r,m,h=>by
  unfold bindL;rw[EN λw c=>h w (uF _ c)];split
  ·have:x≠n:=by rintro rfl;exact h v vD
   simp[this]
  ·rfl
theorem EV{b:Str->Option NameKind}{x:Str}:∀{a:List (Str×zX)}{m:zE},(∀v,(x,v)∉a)->bindC b a m x=m x
 | [],_,_=>rfl
 |(n,v)::r,m,h=>by
  unfold bindC;rw[EV λw c=>h w (uF _ c)];split
  ·rfl
  ·have:x≠n:=by rintro rfl;exact h v vD
   simp[this]
theorem Fb{a:Str->Option NameKind}{x:Str}{v:zX}:∀{P:zC}{vs:zH}{i:Nat}{m:zE},P.Nodup->P[i]?=some x->vs[i]?=some v->a x=some .local->
  bindL a (P.zip vs) m x=some v
 | [],_,_,_,_,h,_,_=>by simp at h
 |_::_,[],_,_,_,_,h,_=>by simp at h
 |p::P,w::vs,0,m,nd,h1,h2,hk=>by simp at h1 h2;subst h1;subst h2;show bindL a ((p,w)::P.zip vs) m p=_;unfold bindL;rw[EN λv b=>(tK.mp nd).1 (List.of_mem_zip b).1,eH hk];simp
 |p::P,w::vs,i+1,m,nd,h1,h2,hk=>by show bindL a ((p,w)::P.zip vs) m x=_;unfold bindL;exact Fb (i:=i) (tK.mp nd).2 (by simpa using h1) (by simpa using h2) hk
theorem E6{a:Str->Option NameKind}{x:Str}{v:zX}:∀{P:zC}{vs:zH}{i:Nat}{m:zE},P.Nodup->P[i]?=some x->vs[i]?=some v->a x≠some .local->
  bindC a (P.zip vs) m x=some v
 | [],_,_,_,_,h,_,_=>by simp at h
 |_::_,[],_,_,_,_,h,_=>by simp at h
 |p::P,w::vs,0,m,nd,h1,h2,hk=>by simp at h1 h2;subst h1;subst h2;show bindC a ((p,w)::P.zip vs) m p=_;unfold bindC;rw[EV λv b=>(tK.mp nd).1 (List.of_mem_zip b).1,fa hk];simp
 |p::P,w::vs,i+1,m,nd,h1,h2,hk=>by show bindC a ((p,w)::P.zip vs) m x=_;unfold bindC;exact E6 (i:=i) (tK.mp nd).2 (by simpa using h1) (by simpa using h2) hk
def sf(N:zC)(vs:zM):St:=vs.map some++List.replicate (N.length-vs.length) none
def sU(CX:CXT)(P:yB)(w:yD)(K:Frag)(mg:zE)(base:yA)(N:zC)(qual:Str)(scope:Scope)(f:zW)(cd:zX)(A:zZ)(outer:List Env)(s:zY)(H:Hp)(E:XK):Cx where
 prog:=P
 w:=w
 K:=K
 mg:=mg
 base:=base
 A:=A.deeper (envOfC qual scope s.heap.objs.size f cd)
 N:=N
 s₀:=s
 H₀:=H
 env:=envOfC qual scope s.heap.objs.size f cd
 outer:=outer
 stack:=envOfC qual scope s.heap.objs.size f cd::outer
 ex:=[]
 calm:=true
 fn:=λ_=>true
 pn:=[]
 xe:=λe b=>wpAny (model P w) (A.deeper (envOfC qual scope s.heap.objs.size f cd)) (leaving (envOfC qual scope s.heap.objs.size f cd) e) (λ_ a=>CX outer H s E e a) (λc a=>CX outer H s E c a) b
theorem D9{a:Scope}(h:a.names.lookup x=some .cell):∃c,(cellsFrom n a.names []).lookup x=some c:=by have q:=PySem.W.cellsFrom_some a.names n [] (.inl h);exact Option.isSome_iff_exists.mp q
theorem Ff{f:zW}{E:XK}
  (S:ic N ps scope) (G:A.handled=none) (g:D1l P w K mg base A outer s H) (O:vs.length=ps.length) (r:A2m vs us)
  (x:InCallC s s.heap.objs.size (bindL (envOfC qual scope s.heap.objs.size f cd).kindOf (ps.zip us) λ_=>none) (cellsFrom (s.heap.objs.size+1) scope.names []) (bindC (envOfC qual scope s.heap.objs.size f cd).kindOf (ps.zip us) λ_=>none) s1):
  Inv (sU CX P w K mg base N qual scope f cd A outer s H E) [] (sf N vs) H s1:=by
 have J:ps.length<=N.length:=by have:=congrArg List.length S.pre;rw[mK]at this;lia
 obtain⟨t,M,rfl,D⟩:=x.done;have l:∀b:zW,b∉(sU CX P w K mg base N qual scope f cd A outer s H E).ex:=λb z=>absurd (show b∈([]:zQ) from z) (by simp)
 refine⟨⟨g.mod,S.kind,rfl,rfl,fy _,λy z c t d=>?_,λy j=>?_,λy c _ h=>?_,λ_=>G,Around.frames_deeper g.frames,.inr ⟨rfl,rfl⟩,λb z=>absurd z (l b),g.bs,g.bsz,λb _ _=>l b,λb z=>absurd z (l b),g.funs,g.frf⟩,
  rfl,g.bare,Un.kept D,(cb _ x.toInCall.ns λi y v t d L=>?_),λy c h=>⟨_,x.cell y c h⟩,g.hok.fresh (fy _),λy c h=>?_,λp m=>absurd (show p∈([]:zD) from m) (by simp),g.hok.kept D,?_⟩
 ·exact name_of_addr x.apart (PySem.mem_of_lookup t) (PySem.mem_of_lookup d)
 ·have j:scope.names.lookup y=some .cell\/scope.names.lookup y=some .free:=j;rcases j with j|j
  ·exact D9 j
  ·exact absurd rfl (S.nofree _ (PySem.mem_of_lookup j))
 ·exact Nat.le_of_lt (x.above y c (PySem.mem_of_lookup h))
 ·have B:i<vs.length:=by
   unfold sf at d;by_cases B:i<vs.length
   ·exact B
   ·rw[rf (by simpa using B)]at d;rw[List.getElem?_replicate]at d;split at d<;>cases d
  have I:vs[i]?=some v:=by
   unfold sf at d;rw[rF (by simpa using B),oH]at d
   cases e:vs[i]? with
   |none=>rw[e]at d;cases d
   |some a=>rw[e]at d;cases d;rfl
  obtain⟨u,C,F⟩:=r.get I
  have m:ps[i]?=some y:=by rw[<-S.pre,List.getElem?_take_of_lt (by lia)];exact t
  have o:ps.Nodup:=by rw[<-S.pre];exact S.nd.sublist (uD _ _)
  refine cb u F ?_;rcases S.par y (me m)with k|k
  ·exact .inl ⟨k,Fb o m C k⟩
  ·obtain⟨c,e⟩:=D9 (n:=s.heap.objs.size+1) k;refine .inr (kB (.inl k) c e ?_);have q:=x.cell y c e;rw[E6 o m C (by show scope.names.lookup y≠_;rw[k];decide)]at q;exact q
 ·exact g.hok.fresh (Nat.le_of_lt (x.above y c (PySem.mem_of_lookup h)))
 ·unfold sf;show _=N.length;rw[mx,dm,List.length_replicate]
  lia
theorem CF{k:Nat}{f:zW}{c:Arguments}{F kV p a:zX}
 {N:zC} {sp:Sp} (R:K.lookup f=some ⟨oc,od,.func (fnOf name qual c body scope F kV p pm an a ct),osl⟩) (C:codeIn K a qual=true) (S:ic N ps scope)
  (m:∀vs H Q E,sp vs H Q E->vs.length=ps.length)
  (d:∀(A:zZ)(outer:List Env)(s:zY)(H:Hp)(vs:zM)(Q:VK)(E:XK),A5y k (A.deeper (envOfC qual scope s.heap.objs.size f a))->sp vs H Q E->
   ∃t,PSs (sU CX P w K mg base N qual scope f a A outer s H E) body t/\t {nx:=λ_ H'=>Q .non H',rt:=Q} (sf N vs) H):
  A3i P w K mg base CX (k+1) f (fnOf name qual c body scope F kV p pm an a ct) ps sp:=by
 refine⟨m,λA outer s H G U vs Q E z i Y r j=>?_⟩;have Z:=m _ _ _ _ j;have KX:K.In s.heap:=i.mod.kin.keeps λb o e=>(i.bs b o e).1;have D:s.heap.NoLimit:=i.mod.nolimit.keeps λb o e=>(i.bs b o e).1
 have g:∀y∈ps.zip U,scope.names.lookup y.1=some .local\/(scope.names.lookup y.1=some .cell/\((cellsFrom (s.heap.objs.size+1) scope.names []).lookup y.1).isSome=true):=λ⟨n,v⟩ M=>by
  rcases S.par n (List.of_mem_zip M).1 with q|q
  ·exact .inl q
  ·exact .inr ⟨q,PySem.W.cellsFrom_some _ _ _ (.inl q)⟩
 refine codeAny_call_function z.depth (KX _ _ R) rfl S.co S.gen rfl (PySem.W.codeRec_of KX C) (Y _ _ _ _ ?_);refine wpAny_newFunctionEnv_cells S.kind g λX O s1 x=>?_;subst O;refine⟨D.keeps x.toInCall.keep,codeAny_func ?_⟩;obtain⟨t,L,hq⟩:=d A outer s H vs Q E (z.deeper _) j;have I:Inv (sU CX P w K mg base N qual scope f a A outer s H E) [] (sf N vs) H s1:=Ff S z.hd i Z r x;refine oj (L [] s1 (sf N vs) H _ I hq) (λT s' h=>?_) λe s' h=>h
 have l:∀{Z':St}{H':Hp}{v:V}{u:zX},Inv (sU CX P w K mg base N qual scope f a A outer s H E) [] Z' H' s'->A2z v u->Q v H'->CE outer P w H s Q u s' :=λ{Z' H' v u} J B q=>(sK v H' J.os J.bare J.base J.hok B q)
 cases T with
 |ret u=>refine mF h ?_;clear h;rintro v Z' H' ⟨J,B,q⟩;exact l J B q
 |next=>obtain⟨Z',H',J,q⟩:=h;exact l (v:=V.non) (u:=Value.none) J rfl q
 |brk=>obtain⟨_,_,_,q⟩:=h;exact False.elim q
 |cont=>obtain⟨_,_,_,q⟩:=h;exact False.elim q
def tCB(r:zM->Hp->VK->Prop)(t:TA):TE:=λZ H Q=>t Z H λa b=>r a b Q
theorem nK(j:qH X (.builtin id) r)(g:Gl X x)(i:X.mg x=none)(n:bootBuiltins x=some (.builtin id))(l:PA X (e::es) t)(v:x≠"__name__":=by decide)(c:(x==("__debug__":Str))=false:=by decide)
  (w:starEach (e::es) X.env=(false,eval e X.env)::starEach es X.env:=by rfl) (b:(backTo pos (starEach es X.env)).any (·.1)=false:=by rfl):PE X (.Call (.Name x p) (e::es) [] pos) (tCB r t):=by
 intro a s Z H Q I h;refine wpAny_Call_Name_kw (tf I g i n ?_ v c);exact PyProof.Rows.callWith_builtin1 (thn (l pos a s Z H _ I h) (by (refine λk o d=>ei d λm q I1 u f=>?_;clear d);exact j a o Z q m k Q I1 u f)) w b
theorem qN(j:qH X (.type T) r)(g:Gl X x)(i:X.mg x=none)(n:bootBuiltins x=some (.type T))(l:PA X (e::es) t)(v:x≠"__name__":=by decide)(c:(x==("__debug__":Str))=false:=by decide)
  (w:starEach (e::es) X.env=(false,eval e X.env)::starEach es X.env:=by rfl) (b:(backTo pos (starEach es X.env)).any (·.1)=false:=by rfl):PE X (.Call (.Name x p) (e::es) [] pos) (tCB r t):=by
 intro a s Z H Q I h;refine wpAny_Call_Name_kw (tf I g i n ?_ v c);exact PyProof.Rows.callWith_type1 (thn (l pos a s Z H _ I h) (by (refine λk o d=>ei d λm q I1 u f=>?_;clear d);exact j a o Z q m k Q I1 u f)) w b
end L2
namespace HT
open PySem PyProof.Rows
variable{ws vs:zH}{w:yD}{v i g d c:zX}{t sl l b:zW}{s:zY}{prog:yB}{o lo hi:Option Int}{ns ms:zI}{n:Nat}{items a:zG}{Q E:zA}{A:zZ}
def lexLt:zI->List Int->Bool| [],[]=>false| [],_::_=>true|_::_,[]=>false|x::xs,y::ys=>if x=y then lexLt xs ys else decide (x<y)
theorem MR(x y:Int)(xs ys:zI):lexLt (x::xs) (y::ys)=if x=y then lexLt xs ys else decide (x<y):=rfl
theorem Of:lexLt [] []=false:=rfl
theorem OM(y:Int)(ys:zI):lexLt [] (y::ys)=true:=rfl
theorem OF(x:Int)(xs:zI):lexLt (x::xs) []=false:=rfl
theorem La(A:zZ)(s:zY)(a:Int)(t:Tok)(c:Int)(u:Tok):∃e,SeqAt.EqAt A s (.int a t) (.int c u) e/\(e=true↔a=c):=(cb (a==c) (SeqAt.EqAt.int_int a t c u) (by simp))
theorem K8(A:zZ)(s:zY)(a:Int)(t:Tok)(c:Int)(u:Tok)(prog:yB)(w:yD)(E:zA)(Q:zA)(h:Q (.bool (decide (a<c))) s):
  wpAny (model prog w) A (richCompare .Lt (.int a t) (.int c u)) Q E s :=
 (PyProof.Rows.lt_int h:wpAny (model prog w) A (compareOp .Lt (.int a t) (.int c u)) Q E s)
section
open PySem.SeqAt
open PySem.AutoSeq1 (wpAny_loadPart')
open PySem.MeetsSeq PySem.MeetsSeq2 PySem.MeetsSeq3
theorem Oh(l b:zW)(items f:zG)(n P:Nat)(dd L:zO)(sl J:zF)(ns ms:zI)(hi:IntsAre items.toList ns)(O:IntsAre f.toList ms):
  Meets (Builtin.«tuple.__lt__» ⟨[.ref l,.ref b],[]⟩)
   (λ_ R s=>s.heap.get? l=some {cls:=.type "tuple",dict:=dd,data:=.seq items n,slots:=sl}/\s.heap.get? b=some {cls:=.type "tuple",dict:=L,data:=.seq f P,slots:=J}/\
    R (.ok (.ret (.bool (lexLt ns ms)))) s):=
 .of_wp λv w A R s h=>by
  obtain⟨D,g,d,I,G⟩:=s;obtain⟨T,S,h⟩:=h;have X:=AutoSeq1.sub_tuple_tuple;have Y:items.size=ns.length:=by rw[<-hi.length];simp
  have W:f.size=ms.length:=by rw[<-O.length];simp
  wp_walk using wpAny_loadPart' T,wpAny_loadPart' S,wpAny_forIn_list _ (λp b M=>b.1=none/\M=⟨D,g,d,I,G⟩/\∃(H F:zH)(k j:zI),p=H.zip F/\
   IntsAre H k/\IntsAre F j/\k.length+f.size=j.length+items.size/\R (.ok (.ret (.bool (lexLt k j)))) ⟨D,g,d,I,G⟩) _
  case turn=>
   rintro⟨y,x⟩ p b M ⟨B,rfl,H,F,k,j,m,C,o,i,r⟩
   cases C with
   |nil=>rw[List.zip_nil_left]at m;cases m
   |cons a t hvi'=>
    cases o with
    |nil=>rw[List.zip_nil_right]at m;cases m
    |cons c u hwi'=>
     rw[List.zip_cons_cons]at m;injection m with hyx hrest;injection hyx with hy hx;subst hy hx;rw[MR]at r;simp only [nG]at i;obtain⟨e,Q,z⟩:=La A.in1 ⟨D,g,d,I,G⟩ a t c u;refine cz (Q v w _ _ ?_)
     cases e with
     |true=>
      rw[eH (z.mp rfl)]at r
      wp_walk
      exact fI rfl rfl (nD _ _ _ _ hrest hvi' hwi' (by lia) r)
     |false=>
      rw[fa (λq=>absurd (z.mpr q) nA)]at r;have K:=K8 A.in1 ⟨D,g,d,I,G⟩ a t c u v w
      wp_walk using K
      exact cb _ rfl (by simpa using r)
  case fin=>
   rintro⟨Z,U⟩ M ⟨B,rfl,H,F,k,j,m,C,o,i,r⟩;simp only at B;subst B
   have N:lexLt k j=decide (items.size<f.size):=by
    cases C with
    |nil=>
     cases o with
     |nil=>simp only [pO]at i;rw[Of];exact(mT (by lia)).symm
     |cons c u hw=>simp only [pO,nG]at i;rw[OM];exact(mP (by lia)).symm
    |cons a t N=>
     cases o with
     |nil=>simp only [pO,nG]at i;rw[OF];exact(mT (by lia)).symm
     |cons c u hw=>rw[List.zip_cons_cons]at m;cases m
   rw[N]at r
   wp_walk
   exact cb _ rfl (by simpa[Builtin.Tuple.tupleCompareSizes]using r)
  case h=>exact fI rfl rfl (nD items.toList f.toList ns ms rfl hi O (by lia) h)
end
theorem lt_tupInts(z:IsTup s.heap l items)(y:IsTup s.heap b a)(hi:IntsAre items.toList ns)(B:IntsAre a.toList ms)
  (q:A.units<cLine) (h:Q (.bool (lexLt ns ms)) s):wpAny (model prog w) A (compareOp .Lt (.ref l) (.ref b)) Q E s:=by
 refine nw (id z) ?_;rintro⟨v,t,p,r⟩ j m ⟨n,k⟩;refine nw (id y) ?_;rintro⟨o,i,g,f⟩ e c ⟨u,d⟩;simp only at m k c d;subst m k c d
 exact richCompare_meets_room (op:=.Lt) (cb _ j rfl) (cb _ e rfl) PySem.F.slot_tuple_lt PySem.F.entry_tuple_lt (PySem.F.args_tuple_lt_2 _ _) (Oh l b items a n u t i r f ns ms hi B)
  (fI j e (show Value.bool (lexLt ns ms)≠Value.notImplemented/\Q (.bool (lexLt ns ms)) s from ⟨(λx=>nomatch x),h⟩)) q
theorem cat_tup(r:IsTup s.heap t vs.toArray)(u:IsTup s.heap b ws.toArray)(q:vs≠[])
  (h1:ws=[]->Q (.ref t) s) (h2:ws≠[]->Q (.ref s.heap.objs.size) {s with heap:=s.heap.push {cls:=.type "tuple",data:=.seq (vs++ws).toArray}})
  (hsz:vs.length+ws.length<=sizeLine):wpAny (model prog w) A (binaryOp .Add (.ref t) (.ref b)) Q E s:=by
 refine nw (id r) ?_;rintro⟨cls,l,data,j⟩ h o ⟨n,k⟩;refine nw (id u) ?_;rintro⟨p,g,i,c⟩ a d ⟨m,f⟩;simp only at o k d f;subst o k d f;have e:vs.toArray++ws.toArray=(vs++ws).toArray:=by simp
 by_cases hw:ws=[]
 ·exact concat_meets (cb _ h rfl) (cb _ a rfl) noFill_tuple_add seq_tuple_add PySem.F.slot_tuple_add PySem.F.entry_tuple_add (PySem.F.args_tuple_add_2 _ _)
   (tuple_addW1 t b vs.toArray ws.toArray n m l g j c (by simpa using q) (by simp[hw])) (fI h a (h1 hw))
 ·refine concat_meets (cb _ h rfl) (cb _ a rfl) noFill_tuple_add seq_tuple_add PySem.F.slot_tuple_add PySem.F.entry_tuple_add (PySem.F.args_tuple_add_2 _ _)
   (tuple_addW2 t b vs.toArray ws.toArray n m l g j c (by simpa using q) (by simpa using hw) (by rw[oz,oz];exact hsz)) (fI h a ?_)
  rw[e];exact h2 hw
def sIx(n d:Nat):Option Int->Nat|none=>d|some v=>if v<0 then (v+(n:Int)).toNat else min v.toNat n
theorem sIx_none(n d:Nat):sIx n d none=d:=rfl
theorem sIx_nat(n d k:Nat):sIx n d (some (k:Int))=min k n:=by show(if (k:Int)<0 then ((k:Int)+(n:Int)).toNat else min (k:Int).toNat n)=min k n;rw[fa (by lia),Int.toNat_natCast]
theorem IF(n d:Nat)(a:d<=n)(o:Option Int):sIx n d o<=n:=by
 cases o with
 |none=>exact a
 |some v=>
  show(if v<0 then (v+(n:Int)).toNat else min v.toNat n)<=n;by_cases hv:v<0
  ·rw[eH hv];lia
  ·rw[fa hv];exact Nat.min_le_right _ _
theorem Dy(v:Int)(n d:Nat):(if v<0 then max (v+(n:Int)) 0 else min v (n:Int))=((sIx n d (some v):Nat):Int):=by
 show(if v<0 then max (v+(n:Int)) 0 else min v (n:Int))=(((if v<0 then (v+(n:Int)).toNat else min v.toNat n):Nat):Int);by_cases hv:v<0
 ·simp only [eH hv];lia
 ·simp only [fa hv];lia
theorem M3(lo hi:Option Int)(n:Nat):Builtin.Slice.sliceAdjust lo hi 1 (n:Int)=(((sIx n 0 lo:Nat):Int),((sIx n n hi:Nat):Int)):=by
 have a:¬((1:Int)<0):=by lia
 unfold Builtin.Slice.sliceAdjust;simp only [a,if_false];refine Prod.ext ?_ ?_
 ·cases lo with|none=>rfl|some v=>exact Dy v n 0
 ·cases hi with|none=>rfl|some v=>exact Dy v n n
theorem Nb(i j:Nat):Builtin.Slice.slicePlaces (i:Int) (j:Int) 1=j-i:=by
 unfold Builtin.Slice.slicePlaces;have a:(1:Int)>0:=by lia
 simp only [a,if_true,Int.ediv_one];split<;>lia
theorem FD{Q:Option Int->zY->Prop}(p:IsPart v o)(h:Q o s):wpAny (model prog w) A (Builtin.Slice.slicePartIndex v) Q E s:=by
 cases p with
 |none=>exact slicePart_none h
 |int i t=>exact slicePart_int h
theorem Gs{Q:Int×Int×Nat->zY->Prop}(hs:s.heap.IsSliceOf sl c d .none)(pl:IsPart c lo)(f:IsPart d hi)
  (h:Q (((sIx n 0 lo:Nat):Int),1,sIx n n hi-sIx n 0 lo) s):wpAny (model prog w) A (Builtin.Slice.sliceApplied (.ref sl) (pure (n:Int))) Q E s:=by
 obtain⟨g,b,e,a⟩:=id hs;unfold Builtin.Slice.sliceApplied Builtin.Slice.sliceFields;refine cz (cz (nV b a (x:=c) rfl (cz (nV b a (x:=d) rfl (cz (nV b a (x:=.none) rfl (ff ?_)))))));refine cz (slicePart_none ?_);show wpAny _ _ (if ((1:Int)==0)=true then _ else _) _ _ s;rw[fa (by decide)];refine cz (FD pl (cz (FD f (cz (ff ?_)))));show wpAny _ _ (match Builtin.Slice.sliceAdjust lo hi 1 (n:Int)with|(lo,hi)=>pure (lo,(1:Int),Builtin.Slice.slicePlaces lo hi 1)) _ _ s
 rw[M3 lo hi n];show wpAny _ _ (pure (((sIx n 0 lo:Nat):Int),(1:Int),Builtin.Slice.slicePlaces ((sIx n 0 lo:Nat):Int) ((sIx n n hi:Nat):Int) 1)) _ _ s;rw[Nb];exact ff h
theorem KS(xs:zG)(i k:Nat):((List.range k).filterMap λ(m:Nat)=>xs[((i:Int)+(m:Int)*1).toNat]?).toArray=((xs.toList.drop i).take k).toArray:=by
 have e:(λ(m:Nat)=>xs[((i:Int)+(m:Int)*1).toNat]?)=λm=>xs[i+m]? :=by
  funext m;have:((i:Int)+(m:Int)*1).toNat=i+m:=by lia
  rw[this]
 rw[e];have:=pick_run xs i k;rw[List.filterMap_map]at this;have a:((λx=>xs[x]?)∘λx=>i+x)=λm=>xs[i+m]? :=rfl;rw[a]at this;rw[this]
theorem getItem_tuple_cut(b:IsTup s.heap t items)(hs:s.heap.IsSliceOf sl g i .none)(pl:IsPart g lo)(j:IsPart i hi)
  (k:¬(sIx items.size 0 lo=0/\sIx items.size items.size hi=items.size))
  (h:Q (.ref s.heap.objs.size) {s with heap:=s.heap.push {cls:=.type "tuple",data:=.seq ((items.toList.drop (sIx items.size 0 lo)).take (sIx items.size items.size hi-sIx items.size 0 lo)).toArray}})
  (hsz:items.size<=sizeLine):wpAny (model prog w) A (getItem (.ref t) (.ref sl)) Q E s:=by
 have a:sizeOk (.seq ((items.toList.drop (sIx items.size 0 lo)).take (sIx items.size items.size hi-sIx items.size 0 lo)).toArray):=by
  show((items.toList.drop (sIx items.size 0 lo)).take (sIx items.size items.size hi-sIx items.size 0 lo)).toArray.size<=sizeLine;rw[oz,mK,uI,Array.length_toList]
  lia
 have r:sIx items.size items.size hi<=items.size:=IF _ _ (fy _) hi;obtain⟨l,d,f,n⟩:=id hs;have c:s.TypeIs (.ref sl) "slice":=(cb l d f);unfold getItem
 try with_reducible refine qC ?_
 first|refine cz (ff ?_)|skip
 refine cz (wpAny_sequenceKey b.typeIs (by decide) ?_)
 refine cz (tI (name:=Str.ofString "__getitem__") b.typeIs wD
  (tH wD b.typeIs entry_tuple_getitem ?_ (args_tuple_getitem _ _)))
 show wpAny _ _ (Builtin.Tuple.tupleItemsOf (.ref t)>>=_) _ _ s;refine cz (tupleItemsOf_ b ?_);refine cz (wpAny_typeOf c ?_);rw[eH (by decide)];refine cz (Gs hs pl j ?_)
 have e:¬((((sIx items.size 0 lo:Nat):Int)==0&&(1:Int)==1&&(sIx items.size items.size hi-sIx items.size 0 lo)==items.size)=true):=by intro q;rw[uh,uh]at q;have o:((sIx items.size 0 lo:Nat):Int)=0:=eq_of_beq q.1.1;have p:sIx items.size items.size hi-sIx items.size 0 lo=items.size:=eq_of_beq q.2;exact k ⟨by lia,by lia⟩
 show wpAny _ _ (if (((sIx items.size 0 lo:Nat):Int)==0&&(1:Int)==1&&(sIx items.size items.size hi-sIx items.size 0 lo)==items.size)=true then _ else _) _ _ s;rw[fa e,KS]
 first|exact cz (m:=Builtin.Tuple.tupleExact _) (tJ (ff (cb _ rfl (ff h))) a)|exact cz (m:=Builtin.Tuple.tupleExact _) (tJ (cz (ff (ff ⟨_,rfl,ff h⟩))) a)|exact cz (cz (m:=Builtin.Tuple.tupleExact _) (tJ (ff (ff ⟨_,rfl,ff h⟩)) a))|exact cz (cz (m:=Builtin.Tuple.tupleExact _) (tJ (ff ⟨_,rfl,ff h⟩) a))
end HT
namespace L2
open PySem PySem.Spec PyProof.Rows
variable{α:Type}{zs ys:zM}{x v d:V}{value e:yC}{ty tx tv to tk te td tb ta:TE}{t:TA}{r:V->Option Int->Option Int->Hp->VK->Prop}{xs:List (List Key×zW×zX)}{us its':zH}{prog:yB}{p2 cpos apos:Pos}{ns:zI}{name:Str}{n j:Nat}{lo hi:Option yC}{l b:zW}{ks:zU}{its:zH}{s:zY}{y:V}{u:zX}{pins:zD}{id T:String}{h' h:yA}{es:zT}{env:Env}{Z:St}{H' H:Hp}{f:zG->Array zX}{t':Nat}{o:zP}{P:yB}{w:yD}{kvs:List (List Key×V)}{a:zW}{Q E:zA}{pos:Pos}{X:Cx}{trs:List (TE×TE)}{keys:List (Option yC)}{A:zZ}
abbrev TO:=St->Hp->(Option Int->Hp->Prop)->Prop
def PO(X:Cx)(e:Option yC)(t:TO):Prop :=
 ∀(a:zD)(s:zY)(Z:St)(H:Hp)(Q:Option Int->Hp->Prop),Inv X a Z H s->t Z H Q->
  wpAny (model X.prog X.w) X.A (evalPart e X.env) (λu c=>∃o b,Inv X a Z b c/\IsPart u o/\Q o b) X.xe s
def JN:TO:=λ_ H Q=>Q none H
def Gy(t:TE):TO:=λZ H Q=>t Z H λx a=>∃i,x=.int i/\Q (some i) a
theorem Fo:∀{us:zH},A2m (ns.map V.int) us->IntsAre us ns:=by
 induction ns with
 |nil=>intro us r;rw[List.map_nil]at r;cases r;exact .nil
 |cons n ns ih=>
  intro us r;rw[mi]at r
  cases r with
  |cons r1 r2=>obtain⟨t,e⟩:=r1;subst e;exact .cons n t (ih r2)
section
variable{tl th:TO}
theorem pS:PO X none JN:=by intro a s Z H Q I h;rw[evalPart_none];exact ff (dV none H I .none h)
theorem pB(h:PE X e te):PO X (some e) (Gy te):=by intro a s Z H Q I d;rw[evalPart_some];refine thn (h a s Z H _ I d) ?_;refine λu j b=>ei b λx f I1 g c=>?_;clear b;obtain⟨i,rfl,q⟩:=c;obtain⟨t,rfl⟩:=g;exact dV (some i) f I1 (.int i t) q
def SlR(X:Cx)(r:V->Option Int->Option Int->Hp->VK->Prop):Prop :=
 ∀(a:zD)(s:zY)(Z:St)(H:Hp)(x:V)(v b d:zX)(e c:Option Int)(f:zW)(Q:VK),Inv X a Z H s->A2z x v->s.heap.IsSliceOf f b d .none->IsPart b e->IsPart d c->r x e c H Q->
  ∃T id,typeLookup (.type T) "__getitem__"=pure (some (.builtin id))/\s.TypeIs v T/\wpAny (model X.prog X.w) X.A (getItem v (.ref f)) (EP X a Z Q) X.xe s
def tSl(r:V->Option Int->Option Int->Hp->VK->Prop)(te:TE)(tl th:TO):TE:=λZ H Q=>te Z H λx a=>tl Z a λl b=>th Z b λu c=>r x l u c Q
theorem pV(n:SlR X r)(t:PE X e te)(G:PO X lo tl)(B:PO X hi th):PE X (.Subscript e (.Slice lo hi none p2) pos) (tSl r te tl th):=by
 intro a s Z H Q I h;refine Subscript_ (thn (t a s Z H _ I h) ?_);refine λv F d=>ei d λx o I1 K y=>?_;clear d;refine wpAny_Slice (thn (G a F Z o _ I1 y) ?_);refine λf C d=>ei d λl J I2 L D=>?_;clear d;refine thn (B a C Z J _ I2 D) ?_;refine λg c d=>ei d λu i I3 k p=>?_;clear d;rw[evalPart_none];refine ff ?_;have I4:Inv X a Z i {c with heap:=c.heap.push {cls:=.type "slice",data:=.fields #[f,g,.none]}}:=I3.kept (t':=c.toks) λb M q=>gc _ q
 refine ei (n a {c with heap:=c.heap.push {cls:=.type "slice",data:=.fields #[f,g,.none]}} Z i x v f g l u c.heap.objs.size Q I4 K (Heap.IsSliceOf.new ..) L k p) λT id m j z=>?_
 show wpAny (model X.prog X.w) X.A (subscriptTail e (.Slice lo hi none p2) v (.ref c.heap.objs.size)) (EP X a Z Q) X.xe {c with heap:=c.heap.push {cls:=.type "slice",data:=.fields #[f,g,.none]}};exact tail_any (ops:=[.ref c.heap.objs.size,v]) j m z (by with_unfolding_all rfl)
def nJ(xs:zM)(lo hi:Option Int):zM:=(xs.drop (HT.sIx xs.length 0 lo)).take (HT.sIx xs.length xs.length hi-HT.sIx xs.length 0 lo)
theorem FG(xs:zM)(lo hi:Option Int):(nJ xs lo hi).length<=xs.length:=by
 unfold nJ;rw[mK,uI]
 lia
def rLtT(K:Frag):R2:=λx y H Q=>∃a b c d,x=.ref a/\y=.ref b/\SqT K H a (c.map V.int)/\SqT K H b (d.map V.int)/\Q (.bl (HT.lexLt c d)) H
theorem AG(g:X.A.units<cLine):OpR X (compareOp .Lt) (rLtT X.K):=by intro e s Z H x y v u Q I r p h;refine ou h ?_;clear h;rintro a b ns ms rfl rfl l ⟨m,q⟩;cases r;cases p;obtain⟨d,o,f,_⟩:=I.tuple l;obtain⟨c,k,n,_⟩:=I.tuple m;have i:IntsAre d.toArray.toList ns:=Fo o;have j:IntsAre c.toArray.toList ms:=Fo k;exact HT.lt_tupInts f n i j g (dV (.bl (HT.lexLt ns ms)) H I rfl q)
def GR(K:Frag):R2:=λx y H Q=>∃a b d c,x=.ref a/\y=.ref b/\SqT K H a d/\SqT K H b c/\d≠[]/\d.length+c.length<=sizeLine/\
 (c=[]->Q (.ref a) H)/\(c≠[]->∀p,H p=none->Q (.ref p) (upd H p (.tup (d++c))))
theorem A2m.nil_iff{xs:zM}(r:A2m xs us):us=[]↔xs=[]:=by
 cases r with
 |nil=>simp
 |cons _ _=>simp
theorem Dn:OpR X (binaryOp .Add) (GR X.K):=by intro g s Z H x y v u Q I k C h;refine ou h ?_;clear h;rintro a b l A rfl rfl n ⟨r,j,e,m,p⟩;cases k;cases C;obtain⟨B,d,i,_⟩:=I.tuple n;obtain⟨f,c,t,_⟩:=I.tuple r;refine HT.cat_tup i t (λz=>j (d.nil_iff.mp z)) (λz=>(dV (.ref a) H I rfl (m (c.nil_iff.mp z)))) (λz=>?_) (by rw[<-d.length,<-c.length];exact e);refine dV (.ref s.heap.objs.size) _ (I.laid (t':=s.toks) (o:=.tup (l++A)) (λb D q=>gc _ q) (fy _) ?_) rfl (p (λw=>z (c.nil_iff.mpr w)) _ (I.hok.fresh (fy _)));exact kB (by rw[mx];exact e) _ (d.append c) (IsTup.new _ _)
end
def ixN(n:Nat)(i:Int):Option Nat:=if 0<=i then (if i<n then some i.toNat else none)else if -(n:Int)<=i then some (i+n).toNat else none
def atI{α:Type}(xs:List α)(i:Int):Option α:=(ixN xs.length i).bind λj=>xs[j]?
theorem JS{i:Int}(h:ixN n i=some j):seqIndex? i n=some j/\j<n/\-(n:Int)<=i/\i<n:=by
 unfold ixN at h;by_cases h0:0<=i
 ·rw[eH h0]at h;by_cases h1:i<n
  ·rw[eH h1]at h;have e:i.toNat=j:=rJ h;exact lX (by rw[seqIndex_of h0 h1,e]) (by lia) (by lia) h1
  ·rw[fa h1]at h;cases h
 ·rw[fa h0]at h;by_cases h1: -(n:Int)<=i
  ·rw[eH h1]at h;have e:(i+n).toNat=j:=rJ h;exact lX (by rw[seqIndex_neg (by lia) h1,e]) (by lia) h1 (by lia)
  ·rw[fa h1]at h;cases h
theorem AQ{xs:List α}{i:Int}{v:α}(h:atI xs i=some v):∃j,seqIndex? i xs.length=some j/\xs[j]?=some v/\j<xs.length/\-(xs.length:Int)<=i/\i<xs.length:=by
 unfold atI at h
 cases e:ixN xs.length i with
 |none=>rw[e]at h;cases h
 |some j=>rw[e]at h;obtain⟨a,b,d,c⟩:=JS e;exact⟨j,(lP a h b d c)⟩
theorem lM{xs:List α}{v:α}(h:xs[j]?=some v):atI xs (j:Int)=some v:=by
 have a:j<xs.length:=(ml.mp h).1
 have e:ixN xs.length (j:Int)=some j:=by unfold ixN;rw[eH (by lia),eH (by lia)];simp
 unfold atI;rw[e];exact h
def JJ(b:yC):Prop:=∀o i,subscripted b false o i=operate [o,i] (getItem o i)
def IxR(X:Cx)(r:R2):Prop :=
 ∀(c a:yC)(b:zD)(s:zY)(Z:St)(H:Hp)(x y:V)(v u:zX)(Q:VK),Inv X b Z H s->A2z x v->A2z y u->r x y H Q->
  subscripted a false v u=operate [v,u] (getItem v u)->wpAny (model X.prog X.w) X.A (subscriptTail c a v u) (EP X b Z Q) X.xe s
def MtR(X:Cx)(id:String)(r:V->List V->Hp->VK->Prop):Prop :=
 ∀(a:zD)(s:zY)(Z:St)(H:Hp)(x:V)(c:zM)(v:zX)(b:zH)(Q:VK),Inv X a Z H s->A2z x v->A2m c b->r x c H Q->
  wpAny (model X.prog X.w) X.A (call (.builtin id) (v::b)) (EP X a Z Q) X.xe s
section
variable{a b:yC}
theorem qv{r:R2}(d:IxR X r)(f:PE X a ta)(g:PE X b tb)(hs:JJ b:=by exact λ_ _=>rfl):PE X (.Subscript a b pos) (tOp r ta tb):=by intro c s Z H Q I h;exact Subscript_ (Ac f g I h λv u e x y i I2 k j q=>d a b c e Z i x y v u Q I2 k j q (hs _ _))
def zn(K:Frag):R2:=λx y H Q=>∃p a i v,x=.ref p/\y=.int i/\SqL K H p a/\atI a i=some v/\Q v H
def vH(K:Frag):R2:=λx y H Q=>∃p a i v,x=.ref p/\y=.int i/\SqT K H p a/\atI a i=some v/\Q v H
def rIxS:R2:=λx y H Q=>∃z i c,x=.str z/\y=.int i/\z.length<=sizeLine/\atI z.cps.toList i=some c/\Q (.str ⟨#[c]⟩) H
theorem sF:IxR X (zn X.K):=by
 intro k d a s Z H x y v u Q I o G h m;refine ou h ?_;clear h;rintro p P i z rfl rfl F ⟨A,q⟩;cases o;obtain⟨t,rfl⟩:=G;obtain⟨g,r,l,M⟩:=I.list F;refine nw (AQ A) ?_;rintro j c J ⟨N,B,L⟩;obtain⟨w,n,e⟩:=r.get J;have D:=r.length;have O:=wY;have b:EP X a Z Q w s:=(dV z H I e q);by_cases h0:0<=i
 ·have f:i.toNat=j:=by
   rw[seqIndex_of h0 L]at c;exact rJ c
  exact item_listR l.isList h0 (by lia) (by rw[f];simpa using n) b m
 ·have f:(i+(g.toArray.size:Int)).toNat=j:=by
   rw[seqIndex_neg (by lia) B]at c;rw[oz,<-D];exact rJ c
  exact subscriptTail_builtinR (x:=w) l.isList.typeIs slot_list_getitem.lookup
   (wpAny_getItem_list_neg (Q:=λr C=>r=w/\EP X a Z Q r C) l.isList (by lia) (by rw[oz]<;>lia) (by lia) (by rw[f];simpa using n) ⟨rfl,b⟩) m
theorem CU:IxR X (vH X.K):=by
 intro e b a s Z H x y v u Q I k D h m;refine ou h ?_;clear h;rintro p M i z rfl rfl B ⟨l,q⟩;cases k;obtain⟨t,rfl⟩:=D;obtain⟨C,r,f,G⟩:=I.tuple B;refine nw (AQ l) ?_;rintro j g F ⟨J,N,O⟩;obtain⟨w,A,d⟩:=r.get F;have o:=r.length;have L:=wY;have c:EP X a Z Q w s:=(dV z H I d q)
 exact subscriptTail_builtinR (x:=w) f.typeIs slot_tuple_getitem.lookup
  (getItem_tuple (j:=j) (Q:=λr n=>r=w/\EP X a Z Q r n) f (by lia) (by lia) (by rw[oz,<-o];exact g) (by simpa using A) ⟨rfl,c⟩) m
theorem CO:IxR X rIxS:=by
 intro b a e s Z H x y v u Q I k w h m;refine nF h ?_;clear h;rintro z i c rfl rfl A ⟨l,q⟩;obtain⟨t,rfl⟩:=k;obtain⟨D,rfl⟩:=w;refine nw (AQ l) ?_;rintro j d p ⟨B,n,r⟩;have o:z.cps.toList.length=z.length:=by simp[Str.length]
 rw[o]at d n r;have C:=wY
 exact tail_any (typeIs_str s z t) slot_str_getitem.lookup (getItem_str (c:=c) (by
  have f:decide (i< -(2^63:Int))=false:=mT (by lia);have g:decide (i≥2^63)=false:=mT (by lia)
  rw[f,g,Bool.or_false]) (by rw[d];simpa using p) (dV (.str ⟨#[c]⟩) H (I.tok _) ⟨_,rfl⟩ q)) m
theorem Od(lo hi:Option Int)(n:Nat):(sliceBounds lo hi none n).1=((HT.sIx n 0 lo:Nat):Int)/\(sliceBounds lo hi none n).2.1=((HT.sIx n n hi:Nat):Int)/\(sliceBounds lo hi none n).2.2=1:=by
 refine fI ?_ ?_ rfl
 ·cases lo with
  |none=>simp[sliceBounds,HT.sIx]
  |some i=>
   simp only [sliceBounds,HT.sIx,Option.getD_none,show(1:Int)>0 by decide,if_true];by_cases h:i<0
   ·simp only [h,if_true]<;>lia
   ·simp only [h,if_false]<;>lia
 ·cases hi with
  |none=>simp[sliceBounds,HT.sIx]
  |some i=>
   simp only [sliceBounds,HT.sIx,Option.getD_none,show(1:Int)>0 by decide,if_true];by_cases h:i<0
   ·simp only [h,if_true]<;>lia
   ·simp only [h,if_false]<;>lia
theorem Ol(its:zH)(lo hi:Option Int):slicePick its.toArray lo hi none=((its.drop (HT.sIx its.length 0 lo)).take (HT.sIx its.length its.length hi-HT.sIx its.length 0 lo)).toArray:=by obtain⟨b,c,a⟩:=Od lo hi its.toArray.size;unfold slicePick;rw[b,c,a];simp only [sliceRange_one,pick_run,oz]<;>rfl
def BW(K:Frag):V->Option Int->Option Int->Hp->VK->Prop:=λx d c H Q=>∃a b,x=.ref a/\SqL K H a b/\∀p,H p=none->Q (.ref p) (upd H p (.lst (nJ b d c)))
theorem qg:SlR X (BW X.K):=by intro i s Z H x v u y e f w Q I m k t l h;refine ei h ?_;clear h;rintro a c rfl n q;cases m;obtain⟨p,r,g,j⟩:=I.list n;have d:=r.length;refine dV "list" _ slot_list_getitem.lookup g.isList.typeIs ?_;refine wpAny_getItem_list_slice g.isList k t l .none (by simp) ?_ (by rw[oz]<;>lia);rw[Ol,<-d];refine dV (.ref s.heap.objs.size) _ (I.laid (t':=s.toks) (o:=.lst (nJ c e f)) (λb z q=>gc _ q) (fy _) ?_) rfl (q _ (I.hok.fresh (fy _)));exact qP (oU (FG c e f) j) _ 0 ((r.drop (HT.sIx c.length 0 e)).take (HT.sIx c.length c.length f-HT.sIx c.length 0 e)) (nc _ rfl)
def uo:V->Bool|.non=>true|.bl _=>true|.int _=>true|.str _=>true|_=>false
noncomputable def eqV:V->V->Bool|.non,.non=>true|.bl a,.bl b=>a==b|.bl a,.int b=>(if a then 1 else 0)==b|.int a,.bl b=>a==(if b then 1 else 0)|.int a,.int b=>a==b|.str a,.str b=>a==b|_,_=>false
theorem HV{v:zX}(f:A2z y u)(c:A2z x v)(g:uo y=true)(e:uo x=true):SeqAt.EqAt A s u v (eqV y x):=by
 cases y with
 |non=>
  cases f
  cases x with
  |non=>cases c;exact SeqAt.EqAt.same _
  |bl b=>cases c;exact SeqAt.EqAt.none_bool b
  |int b=>obtain⟨t,rfl⟩:=c;exact SeqAt.EqAt.none_int b t
  |str b=>obtain⟨t,rfl⟩:=c;exact SeqAt.EqAt.none_str b t
  |_=>exact absurd (show false=true from e) nA
 |bl a=>
  cases f
  cases x with
  |non=>cases c;exact SeqAt.EqAt.bool_none a
  |bl b=>cases c;exact SeqAt.EqAt.bool_bool a b
  |int b=>obtain⟨t,rfl⟩:=c;exact SeqAt.EqAt.bool_int a b t
  |str b=>obtain⟨t,rfl⟩:=c;exact SeqAt.EqAt.bool_str a b t
  |_=>exact absurd (show false=true from e) nA
 |int a=>
  obtain⟨d,rfl⟩:=f
  cases x with
  |non=>cases c;exact SeqAt.EqAt.int_none a d
  |bl b=>cases c;exact SeqAt.EqAt.int_bool a d b
  |int b=>obtain⟨t,rfl⟩:=c;exact SeqAt.EqAt.int_int a d b t
  |str b=>obtain⟨t,rfl⟩:=c;exact SeqAt.EqAt.int_str a d b t
  |_=>exact absurd (show false=true from e) nA
 |str a=>
  obtain⟨d,rfl⟩:=f
  cases x with
  |non=>cases c;exact SeqAt.EqAt.str_none a d
  |bl b=>cases c;exact SeqAt.EqAt.str_bool a d b
  |int b=>obtain⟨t,rfl⟩:=c;exact SeqAt.EqAt.str_int a d b t
  |str b=>obtain⟨t,rfl⟩:=c;exact SeqAt.EqAt.str_str a d b t
  |_=>exact absurd (show false=true from e) nA
 |_=>exact absurd (show false=true from g) nA
def eqU(x:V)(u:zX):Bool:=match u with|.none=>eqV .non x|.bool b=>eqV (.bl b) x|.int i _=>eqV (.int i) x|.str z _=>eqV (.str z) x|_=>false
theorem Dc(r:A2z y u)(f:uo y=true):eqU x u=eqV y x:=by
 cases y with
 |non=>cases r;rfl
 |bl b=>cases r;rfl
 |int i=>obtain⟨t,rfl⟩:=r;rfl
 |str z=>obtain⟨t,rfl⟩:=r;rfl
 |_=>exact absurd (show false=true from f) nA
theorem xb{x:V}:∀{xs:zM}{us:zH},A2m xs us->xs.all uo=true->us.any (eqU x)=xs.any λy=>eqV y x|_,_,.nil,_=>rfl|y::xs,u::us,.cons r t,f=>by rw[List.all_cons,uh]at f;rw[List.any_cons,List.any_cons,Dc r f.1,xb t f.2]
theorem xk{A:zZ}{s:zY}{x:V}{v:zX}(c:A2z x v)(b:uo x=true):∀{xs:zM}{us:zH},A2m xs us->xs.all uo=true->∀u∈us,SeqAt.EqAt A s u v (eqU x u)
 |_,_,.nil,_=>λu a=>by cases a
 |y::xs,u::us,.cons r t,f=>λd a=>by
  rw[List.all_cons,uh]at f;rcases lY.mp a with rfl|a
  ·rw[Dc r f.1];exact HV r c f.1 b
  ·exact xk c b t f.2 d a
def inV(x:V)(xs:zM):Bool:=xs.any λy=>eqV y x
def rIn(K:Frag)(b:Bool):R2:=λx y H Q=>∃p a,y=.ref p/\(SqL K H p a\/SqT K H p a)/\uo x=true/\a.all uo=true/\Q (.bl (if b then ! inV x a else inV x a)) H
theorem yP:OpR X (compareOp .In) (rIn X.K false):=by
 intro g s Z H x y v u Q I i k h;refine lS h ?_;clear h;rintro p l rfl b f ⟨c,q⟩;cases k;rcases b with b|b
 ·obtain⟨a,r,e,j⟩:=I.list b;refine SeqAt.in_listAt (eqU x) e.isList (λw d=>xk i f r c w (by simpa using d)) (dV (.bl _) H I rfl ?_);rw[show a.toArray.any (eqU x)=a.any (eqU x)by simp,xb r c];exact q
 ·obtain⟨a,r,e,j⟩:=I.tuple b;refine SeqAt.in_tupleAt (eqU x) e (λw d=>xk i f r c w (by simpa using d)) (dV (.bl _) H I rfl ?_);rw[show a.toArray.any (eqU x)=a.any (eqU x)by simp,xb r c];exact q
theorem ww:OpR X (compareOp .NotIn) (rIn X.K true):=by
 intro g s Z H x y v u Q I i k h;refine lS h ?_;clear h;rintro p l rfl b f ⟨c,q⟩;cases k;rcases b with b|b
 ·obtain⟨a,r,e,j⟩:=I.list b;refine SeqAt.notIn_listAt (eqU x) e.isList (λw d=>xk i f r c w (by simpa using d)) (dV (.bl _) H I rfl ?_);rw[show a.toArray.any (eqU x)=a.any (eqU x)by simp,xb r c];exact q
 ·obtain⟨a,r,e,j⟩:=I.tuple b;refine SeqAt.notIn_tupleAt (eqU x) e (λw d=>xk i f r c w (by simpa using d)) (dV (.bl _) H I rfl ?_);rw[show a.toArray.any (eqU x)=a.any (eqU x)by simp,xb r c];exact q
theorem Oa:qH X (.builtin "len") (λxs H Q=>∃p ys,xs=[.ref p]/\(SqL X.K H p ys\/SqT X.K H p ys)/\Q (.int ys.length) H):=by
 intro f s Z H xs j Q I r h;refine ei h ?_;clear h;rintro p ys rfl b q;obtain⟨u,rfl,i⟩:=sY r;cases i;have k:=wY;rcases b with b|b
 ·obtain⟨c,e,d,g⟩:=I.list b;have a:=e.length;exact Calls.call_len_list d.isList (by simp only [oz]<;>lia) (dV (.int ys.length) H (I.tok _) ⟨s.toks+1,by rw[oz,a]⟩ q)
 ·obtain⟨c,e,d,g⟩:=I.tuple b;have a:=e.length;exact len_tuple d (by simp only [oz]<;>lia) (dV (.int ys.length) H (I.tok _) ⟨s.toks+1,by rw[oz,a]⟩ q)
theorem N5:qH X (.builtin "len") (λxs H Q=>∃z,xs=[.str z]/\z.length<=sizeLine/\Q (.int z.length) H):=by intro a s Z H xs b Q I r h;obtain⟨z,rfl,c,q⟩:=h;obtain⟨u,rfl,t,rfl⟩:=sY r;have d:=wY;exact len_str (by lia) (dV (.int z.length) H (I.tok _) ⟨_,rfl⟩ q)
theorem vz:qH X (.type "list") (λxs H Q=>∃p ys,xs=[.ref p]/\(SqL X.K H p ys\/SqT X.K H p ys)/\∀l,H l=none->Q (.ref l) (upd H l (.lst ys))):=by
 intro m s Z H xs C Q I r h;refine ei h ?_;clear h;rintro p ys rfl t q;obtain⟨u,rfl,B⟩:=sY r;cases B
 have j:∀(a:zH),A2m ys a->ys.length<=sizeLine->∀(c:yA)(d:Nat),(∀b A,s.heap.get? b=some A->c.get? b=some A)->
   c.get? s.heap.objs.size=some {cls:=.type "list",dict:=none,data:=.seq a.toArray d,slots:=#[]}->EP X m Z Q (.ref s.heap.objs.size) {s with heap:=c}:=λa f g c d k e=>
  (dV (.ref s.heap.objs.size) _ (I.laid (t':=s.toks) k (fy _) (show A1p X.prog X.w _ c _ (.lst ys) from (qP g a d f e))) rfl (q _ (I.hok.fresh (fy _))))
 rcases t with t|t
 ·obtain⟨a,f,v,g⟩:=I.list t;have i:=f.length;refine nw v.isList ?_;rintro o x z ⟨n,y⟩;exact call_list_seq p (.inl rfl) x z y (λc d k e=>j a f g c d k e) (by simp only [oz]<;>lia)
 ·obtain⟨a,f,v,g⟩:=I.tuple t;have i:=f.length;refine nw v ?_;clear v;rintro o x z ⟨n,y⟩;exact call_list_seq p (.inr rfl) x z y (λc d k e=>j a f g c d k e) (by simp only [oz]<;>lia)
theorem wA:qH X (.type "tuple") (λxs H Q=>∃p ys,xs=[.ref p]/\((SqL X.K H p ys/\∀l,H l=none->Q (.ref l) (upd H l (.tup ys)))\/(SqT X.K H p ys/\Q (.ref p) H))):=by
 intro a s Z H xs t Q I r h;obtain⟨p,ys,rfl,h⟩:=h;obtain⟨u,rfl,n⟩:=sY r;cases n;rcases h with ⟨f,q⟩|⟨f,q⟩
 ·obtain⟨c,i,g,j⟩:=I.list f;have k:=i.length;refine call_tuple_list g.isList (λd m=>?_) (by simp only [oz]<;>lia);have I1:Inv X a Z H {s with heap:=d}:=I.kept (t':=s.toks) m
  have I2:Inv X a Z (upd H d.objs.size (.tup ys)) {s with heap:=d.push {cls:=.type "tuple",data:=.seq c.toArray}}:=I1.laid (t':=s.toks) (λb o e=>gc _ e) (fy _) (show A1p X.prog X.w _ _ _ (.tup ys) from (kB j c i (IsTup.new _ _)))
  exact dV (.ref d.objs.size) _ I2 rfl (q _ (I1.hok.fresh (fy _)))
 ·obtain⟨c,i,g,j⟩:=I.tuple f;exact call_tuple_same g (dV (.ref p) H I rfl q)
def tyV(K:Frag)(T:String)(x:V)(H:Hp):Prop:=match x with
 |.str _=>T="str"
 |.int _=>T="int"
 |.ref p=>(T="list"/\∃b,SqL K H p b)\/(T="tuple"/\∃o,K.lookup p=some o/\o.cls=.type "tuple"/\o.dict=none)\/
   (T="dict"/\((∃a,H p=some (.dK a))\/∃a,H p=some (.dT a)))\/(T="set"/\∃S n,H p=some (.set S n))
 |_=>False
theorem De{v:zX}(I:Inv X pins Z H s)(r:A2z x v)(ty:tyV X.K T x H):
  s.TypeIs v T/\∀a,v=.ref a->∃k,s.heap.get? a=some k/\k.dict=none:=by
 cases x with
 |str z=>obtain⟨t,rfl⟩:=r;cases(show T="str" from ty);exact⟨typeIs_str s z t,λ_ e=>nomatch e⟩
 |int i=>obtain⟨t,rfl⟩:=r;cases(show T="int" from ty);exact⟨typeIs_int s i t,λ_ e=>nomatch e⟩
 |ref p=>
  cases r
  rcases ty with ⟨rfl,u,m⟩|⟨rfl,o,b,l,f⟩|⟨rfl,b⟩|⟨rfl,S,n,b⟩
  ·obtain⟨q,_,h,_⟩:=I.list m;refine⟨h.isList.typeIs,λa e=>?_⟩;cases e;refine lS h λo n e c f _=>?_;clear h;exact cb o e f
  ·refine⟨(cb o (I.kIn p o b) l),λa e=>?_⟩;cases e;exact cb o (I.kIn _ o b) f
  ·have z:∃o,s.heap.get? p=some o/\o.ExactDict:=by
    rcases b with ⟨g,b⟩|⟨g,b⟩
    ·refine rE (I.hok p _ b) ?_;rintro _ _ _ _ o _ _ e ⟨d,_⟩;exact cb o e d
    ·refine rE (I.hok p _ b) ?_;rintro _ _ _ _ o _ _ e ⟨d,_⟩;exact cb o e d
   obtain⟨o,e,d⟩:=z;refine⟨(cb o e d.1),λa j=>?_⟩;cases j;exact cb o e d.2.1
  ·refine mF (I.hok p _ b) ?_;rintro o _ _ ⟨_,e,d,_⟩;refine⟨(cb o e d.1),λa j=>?_⟩;cases j;exact cb o e d.2.1
 |_=>exact False.elim ty
def zj(K:Frag)(T:String)(r:V->List V->Hp->VK->Prop)(to:TE):TE:=λZ H Q=>to Z H λx a=>tyV K T x a/\r x [] a Q
def tBM(K:Frag)(T:String)(r:V->List V->Hp->VK->Prop)(to:TE)(t:TA):TE:=λZ H Q=>to Z H λx a=>tyV K T x a/\t Z a λc b=>r x c b Q
variable{o:yC}{r:V->List V->Hp->VK->Prop}
theorem Dd(k:PlainAttrs T)(d:Slot T name id)(e:typeOf (.builtin id)=pure (.type "method_descriptor"))(m:MtR X id r)(l:PE X o to)
  (c:attributeBase o name X.env (eval o X.env)=eval o X.env:=by rfl) (b:(apos.endLine==cpos.line)=true:=by rfl):PE X (.Call (.Attribute o name apos) [] [] cpos) (zj X.K T r to):=by
 intro a s Z H Q I h;refine wpAny_Call_method0_late c b (thn (l a s Z H _ I h) ?_);refine λv n f=>lS f λx p I1 g q j=>?_;clear f;obtain⟨i,t⟩:=De I1 g q;exact sK T id k d e i t (Calls.callWith_builtin rfl (PySem.evalArgs_none (m a n Z p x [] v [] Q I1 g .nil j)))
theorem qI(n:PlainAttrs T)(g:Slot T name id)(j:typeOf (.builtin id)=pure (.type "method_descriptor"))(p:MtR X id r)(w:PE X o to)(B:PA X (e::es) t)
  (d:attributeBase o name X.env (eval o X.env)=eval o X.env:=by rfl)
  (i:((backTo cpos (starEach (e::es) X.env)).all (λx=> ! x.1)&&(backToKw cpos (keywordEach [] X.env)).all (λx=>x.1.isSome)
   && decide ((e::es).length+([]:List Keyword).length+(if ([]:List Keyword).isEmpty then 0 else 1)<30))=true:=by rfl)
  (c:(apos.endLine==cpos.line)=true:=by rfl) (hs:starEach (e::es) X.env=(false,eval e X.env)::starEach es X.env:=by rfl) (b:(backTo cpos (starEach es X.env)).any (·.1)=false:=by rfl):
  PE X (.Call (.Attribute o name apos) (e::es) [] cpos) (tBM X.K T r to t):=by
 intro a s Z H Q I h;refine wpAny_Call_method_late d i c rfl (thn (w a s Z H _ I h) ?_);refine λv F f=>lS f λx q I1 l G u=>?_;clear f;obtain⟨m,L⟩:=De I1 l G;refine sK T id n g j m L ?_;have k:=B cpos a F Z q _ I1 u;rw[hs]at k⊢;refine Calls.callWith_builtin (by show(false||(backTo cpos (starEach es X.env)).any (·.1))=false;rw[b]<;>rfl) (Calls.evalArgs_plain ?_);exact thn k (by (refine λz A f=>ei f λD J I2 y C=>?_;clear f);exact p a A Z J x D v z Q I2 l y C)
end
def MtM(X:Cx)(id:String)(r:V->List V->Hp->VK->Prop):Prop :=
 ∀(a:zD)(s:zY)(Z:St)(H:Hp)(x:V)(c:zM)(v:zX)(b:zH)(Q:VK),Inv X a Z H s->A2z x v->A2m c b->r x c H Q->
  wpAny (model X.prog X.w) X.A (call (.builtin id) (v::b)) (EP X a Z Q) X.xe s
theorem A2m.one:∀{x:V}{us:zH},A2m [x] us->∃u,us=[u]/\A2z x u|_,_,.cons r .nil=>(cb _ rfl r)
theorem A2m.zero:∀{us:zH},A2m [] us->us=[]|_,.nil=>rfl
theorem A2m.dropLast{xs:zM}(h:A2m xs us):A2m xs.dropLast us.dropLast:=by
 induction h with
 |nil=>exact .nil
 |cons r t ih=>
  cases t with
  |nil=>exact .nil
  |cons q t'=>exact .cons r ih
theorem M9(l:List α):l.eraseIdx (l.length-1)=l.dropLast:=by
 induction l with
 |nil=>rfl
 |cons a r ih=>
  cases r with
  |nil=>rfl
  |cons b r=>
   have e:(a::b::r).length-1=((b::r).length-1)+1:=by
    have c:(a::b::r).length=r.length+2:=rfl;have d:(b::r).length=r.length+1:=rfl
    lia
   rw[e,List.eraseIdx_cons_succ,ih]
   all_goals rfl
section
variable{xs:zM}
theorem Inv.lset(I:Inv X pins Z H s)(g:H l=some (.lst xs))
  (e:s.heap.get? l=some {cls:=.type "list",data:=.seq its.toArray n}) (a:f its.toArray=its'.toArray) (d:A2m ys its') (c:ys.length<=sizeLine):
  Inv X pins Z (upd H l (.lst ys)) {s with heap:=s.heap.update l (Obj.mapSeq f),toks:=t'}:=by
 have q:=PySem.IsL.update e f;rw[a]at q;refine I.write (x:=l) (e:=l) (by rw[g];exact trivial) (.inl rfl) (λi u b h=>(uG s.heap (Obj.mapSeq f) (Ne.symm b)).trans h) ⟨_,q⟩ ?_;exact qP c its' _ d q
theorem Inv.lnew(I:Inv X pins Z H s)(b:A2m ys its)(a:ys.length<=sizeLine):
  Inv X pins Z (upd H s.heap.objs.size (.lst ys)) {s with heap:=s.heap.push {cls:=.type "list",data:=.seq its.toArray},toks:=t'}:=
 I.laid (λ_ _ q=>gc _ q) (fy _) (qP a its 0 b (nc _ rfl))
theorem Inv.fresh(I:Inv X pins Z H s):H s.heap.objs.size=none:=I.hok.fresh (fy _)
theorem Inv.lstM(I:Inv X pins Z H s)(a:H l=some (.lst xs)):xs.length<=sizeLine/\∃(its:zH)(n:Nat),A2m xs its/\xs.length=its.length/\s.heap.get? l=some {cls:=.type "list",data:=.seq its.toArray n}:=by refine qb (I.hok l _ a) λz its n r e=>?_;exact nE z its n r r.length e
theorem KN(h:n<=sizeLine):Builtin.List.listTooLong n=false:=by unfold Builtin.List.listTooLong;exact mT (by lia)
end
def Dq:V->List V->Hp->VK->Prop:=λx b H Q=>∃l a y,x=.ref l/\b=[y]/\H l=some (.lst a)/\a.length<sizeLine/\Q .non (upd H l (.lst (a++[y])))
theorem sI:MtM X "list.append" Dq:=by
 intro b s Z H x m v j Q I g d h;refine nF h ?_;clear h;rintro l k y rfl rfl c ⟨i,q⟩;cases g;obtain⟨u,rfl,f⟩:=d.one;refine qb (I.lstM c) ?_;rintro z a n r ⟨o,e⟩;refine call_meets F.slot_list_append (cb _ e rfl) F.entry_list_append (F.args_list_append_2 _ _) (PySem.list_append l a.toArray n u (by rw[oz];lia)) ⟨e,?_⟩;refine dV .non _ (I.lset (its':=a++[u]) c e (by simp) (r.append (.cons f .nil)) ?_) rfl q;rw[mx,ui]
 lia
def Jg:V->List V->Hp->VK->Prop:=λx d H Q=>∃l b c a,x=.ref l/\d=[.ref b]/\H l=some (.lst c)/\H b=some (.lst a)/\c.length+a.length<=sizeLine/\Q .non (upd H l (.lst (c++a)))
theorem Bs:MtM X "list.extend" Jg:=by
 intro i s Z H x J v G Q I p t h;refine ou h ?_;clear h;rintro l b D B rfl rfl g ⟨k,A,q⟩;cases p;obtain⟨u,rfl,y⟩:=t.one;cases y;refine qb (I.lstM g) ?_;rintro z c n r ⟨K,e⟩;refine qb (I.lstM k) ?_;rintro C a m w ⟨j,o⟩;have f:c.toArray.size+a.toArray.size<=sizeLine:=by rw[oz,oz];lia
 have d:¬(! c.toArray.isEmpty&&Builtin.List.listTooLong (c.toArray.size+a.toArray.size))=true:=by rw[KN f,Bool.and_false];exact nA
 refine call_meets F.slot_list_extend (cb _ e rfl) F.entry_list_extend (F.args_list_extend_2 _ _)
  (AutoSeq1.list_extend_list_list_0 l c.toArray n b a.toArray m d (by rw[oz];lia) (by lia)) (fI e o ?_)
 refine dV .non _ (I.lset (its':=c++a) g e (by simp) (r.append w) ?_) rfl q;rw[mx]
 lia
def rPop:V->List V->Hp->VK->Prop:=λx b H Q=>∃l a y,x=.ref l/\b=[]/\H l=some (.lst a)/\a[a.length-1]?=some y/\Q y (upd H l (.lst a.dropLast))
theorem Iw:MtM X "list.pop" rPop:=by
 intro d s Z H x w v p Q I o g h;refine nF h ?_;clear h;rintro l t y rfl rfl f ⟨j,q⟩;cases o;have b:=g.zero;subst b;refine qb (I.lstM f) ?_;rintro z a n r ⟨k,e⟩;obtain⟨u,i,m⟩:=r.get j
 have c:a.toArray[a.toArray.size-1]?=some u:=by show a.toArray[a.length-1]?=some u;rw[<-Array.getElem?_toList,<-k];exact i
 refine call_meets F.slot_list_pop (cb _ e rfl) F.entry_list_pop (F.args_list_pop_1 _) (MeetsSeq.list_pop_last l a.toArray n u c (by rw[oz];lia)) ⟨e,?_⟩;refine dV y _ (I.lset (its':=a.dropLast) f e ?_ r.dropLast ?_) m q
 ·show a.toArray.eraseIdxIfInBounds (a.toArray.size-1)=a.dropLast.toArray;rw[oz,List.eraseIdxIfInBounds_toArray,M9]
 ·rw[List.length_dropLast]
  lia
def B5:R2:=λx y H Q=>∃l b c a,x=.ref l/\y=.ref b/\H l=some (.lst c)/\H b=some (.lst a)/\c.length+a.length<=sizeLine/\∀p,H p=none->Q (.ref p) (upd H p (.lst (c++a)))
theorem rO:OpR X (binaryOp .Add) B5:=by
 intro d s Z H x y v u Q I k o h;refine ou h ?_;clear h;rintro l b C w rfl rfl i ⟨g,t,q⟩;cases k;cases o;refine qb (I.lstM i) ?_;rintro z c n r ⟨D,e⟩;refine qb (I.lstM g) ?_;rintro B a A m ⟨f,j⟩;refine PySem.P.add_list e j ?_ (by rw[oz,oz];lia);have p:c.toArray++a.toArray=(c++a).toArray:=by simp
 rw[p];exact dV (.ref _) _ (I.lnew (t':=s.toks) (r.append m) (by rw[mx];lia)) rfl (q _ I.fresh)
section
set_option maxRecDepth 100000 in
end
section
variable{κ:Type}[DecidableEq κ]
def lW(kvs:List (κ×V))(k:κ):zP:=(kvs.find? λa=>decide (a.1=k)).map (·.2)
def my(kvs:List (κ×V))(k:κ)(v:V):List (κ×V):=if (kvs.any λa=>decide (a.1=k))=true then kvs.map (λa=>if a.1=k then (a.1,v)else a)else kvs++[(k,v)]
theorem qx{p:κ×V}{r:List (κ×V)}{k:κ}(e:p.1=k):lW (p::r) k=some p.2:=by simp[lW,sO,e]
theorem qw{p:κ×V}{r:List (κ×V)}{k:κ}(e:¬p.1=k):lW (p::r) k=lW r k:=by simp[lW,sO,e]
theorem uw(k:κ):∀kvs:List (κ×V),(kvs.any λkv=>decide (kv.1=k))=(lW kvs k).isSome
 | []=>rfl
 |p::r=>by
  rw[List.any_cons];by_cases e:p.1=k
  ·simp only [qx e,mP e,Bool.true_or,Option.isSome_some]
  ·rw[qw e,mT e,Bool.false_or];exact uw k r
theorem DR(k j:κ)(y:V):∀kvs:List (κ×V),lW (kvs.map λkv=>if kv.1=k then (kv.1,y)else kv) j=(lW kvs j).map λx=>if j=k then y else x
 | []=>rfl
 |p::r=>by
  have a:=DR k j y r;rw[mi];by_cases h:p.1=k
  ·rw[eH h];by_cases e:p.1=j
   ·rw[qx (p:=(p.1,y)) e,qx e,Option.map_some,eH (e.symm.trans h)]
   ·rw[qw (p:=(p.1,y)) e,qw e,a]
  ·rw[fa h];by_cases e:p.1=j
   ·rw[qx (p:=p) e,qx e,Option.map_some,fa (λz=>h (e.trans z))]
   ·rw[qw (p:=p) e,qw e,a]
theorem E9(k j:κ)(y:V):∀kvs:List (κ×V),lW kvs k=none->lW (kvs++[(k,y)]) j=if j=k then some y else lW kvs j
 | [],_=>by
  by_cases e:k=j
  ·rw[eH e.symm];exact qx (p:=(k,y)) e
  ·rw[fa (λz=>e z.symm)];exact qw (p:=(k,y)) e
 |p::r,hn=>by
  rw[List.cons_append];have a:¬p.1=k:=λz=>by rw[qx z]at hn;cases hn
  rw[qw a]at hn;have b:=E9 k j y r hn;by_cases e:p.1=j
  ·rw[qx e,qx e,fa (λz=>a (e.trans z))]
  ·rw[qw e,qw e,b]
theorem yK(kvs:List (κ×V))(k j:κ)(y:V):lW (my kvs k y) j=if j=k then some y else lW kvs j:=by
 unfold my;by_cases a:(kvs.any λc=>decide (c.1=k))=true
 ·rw[eH a,DR];rw[uw]at a;by_cases e:j=k
  ·obtain⟨x,b⟩:=Option.isSome_iff_exists.mp a;rw[eH e,e,b,Option.map_some,eH rfl]
  ·rw[fa e]
   cases lW kvs j with
   |none=>rfl
   |some x=>rw[Option.map_some,fa e]
 ·rw[fa a];refine E9 k j y kvs ?_;rw[uw]at a
  cases q:lW kvs k with
  |none=>rfl
  |some x=>rw[q]at a;exact(a rfl).elim
theorem BJ(kvs:List (κ×V))(k:κ)(v:V):(my kvs k v).length<=kvs.length+1:=by
 unfold my;split
 ·rw[dm];lia
 ·rw[mx,nG,pO];lia
theorem wa{kvs:List (κ×V)}{k:κ}(v:V)(h:lW kvs k=none):my kvs k v=kvs++[(k,v)]:=by unfold my;rw[uw,h];exact fa (by decide)
theorem B5d.isSome_eq{u:zN}(r:B5d o u):o.isSome=u.isSome:=by
 cases o with
 |none=>cases u with|none=>rfl|some _=>exact(show False from r).elim
 |some _=>cases u with|none=>exact(show False from r).elim|some _=>rfl
theorem KV.val{kvs:List (κ×V)}{vs:List (κ×zX)}(r:KV kvs vs)(k:κ):B5d (lW kvs k) (valueAt vs k):=by
 unfold KV at r
 induction r with
 |nil=>exact True.intro
 |@cons p q ps qs h t ih=>
  obtain⟨c,d⟩:=h;by_cases e:p.1=k
  ·have a:q.1=k:=c.symm.trans e;have b:valueAt (q::qs) k=some q.2:=by simp[valueAt,sO,a]
   rw[qx e,b];exact d
  ·have a:¬q.1=k:=λz=>e (c.trans z);have b:valueAt (q::qs) k=valueAt qs k:=by simp[valueAt,sO,a]
   rw[qw e,b];exact ih
theorem KV.any{kvs:List (κ×V)}{vs:List (κ×zX)}(r:KV kvs vs)(k:κ):(kvs.any λkv=>decide (kv.1=k))=vs.any λkv=>decide (kv.1=k):=by
 unfold KV at r
 induction r with
 |nil=>rfl
 |cons h t ih=>rw[List.any_cons,List.any_cons,ih,h.1]
theorem KV.repl{kvs:List (κ×V)}{vs:List (κ×zX)}(r:KV kvs vs)(k:κ)(c:A2z y u):
  KV (kvs.map λkv=>if kv.1=k then (kv.1,y)else kv) (vs.map λkv=>if kv.1=k then (kv.1,u)else kv):=by
 unfold KV at r⊢
 induction r with
 |nil=>exact .nil
 |@cons p q ps qs h t ih=>
  rw[mi,mi];refine .cons ?_ ih;obtain⟨a,b⟩:=h;by_cases e:p.1=k
  ·rw[eH e,eH (a.symm.trans e)];exact⟨a,c⟩
  ·rw[fa e,fa (λz=>e (a.trans z))];exact⟨a,b⟩
theorem KV.put{kvs:List (κ×V)}{vs:List (κ×zX)}(r:KV kvs vs)(k:κ)(a:A2z y u):KV (my kvs k y) (stored vs k u):=by
 unfold my stored;rw[r.any k];by_cases e:(vs.any λb=>decide (b.1=k))=true
 ·rw[eH e,eH e];exact r.repl k a
 ·rw[fa e,fa e];exact Paired.snoc r ⟨rfl,a⟩
theorem KV.length{kvs:List (κ×V)}{vs:List (κ×zX)}(r:KV kvs vs):kvs.length=vs.length:=Paired.length r
end
theorem vh{k:Key}(r:A2z (kV k) u):(oD P w).is k u=true:=by
 cases k with
 |inl i=>obtain⟨t,e⟩:=(show∃t,u=Value.int i t from r);subst e;exact NF P w i t
 |inr x=>obtain⟨t,e⟩:=(show∃t,u=Value.str x t from r);subst e;exact Np P w x t
theorem ES{P:yB}{w:yD}:∀{ks:zU}{us:zH},A2m (ks.map kV) us->ItemsAre (oD P w) ks us
 | [],_,r=>by rw[List.map_nil]at r;cases r;exact .nil
 |k::ks,_,r=>by
  rw[mi]at r
  cases r with
  |cons h t=>exact .cons (vh h) (ES t)
abbrev KT(H:Hp):List (List Key×V)->List (List Key×zW×zX)->Prop:=Paired λp q=>p.1=q.1/\H q.2.1=some (.tup (p.1.map kV))/\A2z p.2 q.2.2
theorem KT.val(r:KT H kvs xs)(k:zU):B5d (lW kvs k) ((atKey xs k).map (·.2)):=by
 induction r with
 |nil=>exact True.intro
 |@cons p q ps qs h t ih=>
  obtain⟨c,_,d⟩:=h;by_cases e:p.1=k
  ·have a:q.1=k:=c.symm.trans e;have b:atKey (q::qs) k=some q.2:=by simp[atKey,sO,a]
   rw[qx e,b];exact d
  ·have a:¬q.1=k:=λz=>e (c.trans z);have b:atKey (q::qs) k=atKey qs k:=by simp[atKey,sO,a]
   rw[qw e,b];exact ih
theorem KT.repl(r:KT H kvs xs)(k:zU)(c:A2z y u):
  KT H (kvs.map λkv=>if kv.1=k then (kv.1,y)else kv) (xs.map (putAt k u)):=by
 induction r with
 |nil=>exact .nil
 |@cons p q ps qs h t ih=>
  rw[mi,mi];refine .cons ?_ ih;obtain⟨a,b,d⟩:=h;unfold putAt;by_cases e:p.1=k
  ·rw[eH e,eH (a.symm.trans e)];exact fI a b c
  ·rw[fa e,fa (λz=>e (a.trans z))];exact fI a b d
theorem KT.put(r:KT H kvs xs)(k:zU)(c:H b=some (.tup (k.map kV)))(a:A2z y u):
  KT H (my kvs k y) (storedH xs k b u):=by
 have e:(kvs.any λd=>decide (d.1=k))=(atKey xs k).isSome:=by rw[uw,(r.val k).isSome_eq,Option.isSome_map]
 unfold my storedH;rw[e];by_cases q:(atKey xs k).isSome=true
 ·rw[eH q,eH q];exact r.repl k a
 ·rw[fa q,fa q];exact Paired.snoc r (fI rfl c a)
theorem KT.keeps(r:KT H kvs xs)(a:∀b ys,H b=some (.tup ys)->H' b=some (.tup ys)):KT H' kvs xs :=Paired.mapP r λ_ _ z=>(fI z.1 (a _ _ z.2.1) z.2.2)
theorem Cy{u:HO}(ok:HOk P w H h)(e:Rd H a u):A1p P w H h a u:=e.ok ok
theorem wO{kvs:zJ}(ok:HOk P w H h)(e:Rd H a (.dK kvs)):kvs.length<=sizeLine/\(a==sysModules)=false/\∃vs,KV kvs vs/\h.DictOf (oD P w) a vs :=show A1p P w H h a (.dK kvs) from Cy ok e
theorem wN{kvs:zJ}(ok:HOk P w H h)(e:H a=some (.dK kvs)):kvs.length<=sizeLine/\(a==sysModules)=false/\∃vs,KV kvs vs/\h.DictOf (oD P w) a vs:=wO ok (.inl e)
theorem yq(ok:HOk P w H h)(e:H a=some (.tup (ks.map kV))):(tupleKind (oD P w)).is h ks a:=by refine xD (show A1p P w H h a (.tup (ks.map kV)) from ok a _ e) λ_ b r o c f n d=>?_;exact mh o b.toArray n c f d (by simpa using ES r)
theorem yd(ok:HOk P w H h)(e:Rd H a (.dT kvs)):kvs.length<=sizeLine/\(a==sysModules)=false/\
  ∃xs,KT H kvs xs/\h.DictOfH (tupleKind (oD P w)) a xs:=by
 refine rE (show A1p P w H h a (.dT kvs) from Cy ok e) ?_;rintro z y xs r o n g d ⟨j,f,i,k⟩;refine nu z y xs r (qA o n g d j f i (λx b=>?_) k)
 have c:∀{l:List (List Key×V)}{m:List (List Key×zW×zX)},KT H l m->∀x∈m,(tupleKind (oD P w)).is h x.1 x.2.1:=by
  intro l m q
  induction q with
  |nil=>intro x b;exact nomatch b
  |@cons p q ps qs hq t ih=>
   intro x b;rcases lY.mp b with e|b
   ·subst e;exact yq ok (by rw[<-hq.1];exact hq.2.1)
   ·exact ih x b
 exact c r x b
theorem GH(ok:HOk P w H h)(e:H a=some (.dT kvs)):kvs.length<=sizeLine/\(a==sysModules)=false/\
  ∃xs,KT H kvs xs/\h.DictOfH (tupleKind (oD P w)) a xs:=yd ok (.inl e)
def A8f(H:Hp)(a:zW)(y:V)(r:zP):Prop :=(∃c k,Rd H a (.dK c)/\y=kV k/\r=lW c k)\/∃c k b,Rd H a (.dT c)/\y=.ref b/\H b=some (.tup (k.map kV))/\r=lW c k
def C0j(H:Hp)(a:zW)(y v:V)(H':Hp):Prop :=
 (∃c k,H a=some (.dK c)/\y=kV k/\c.length<sizeLine/\H'=upd H a (.dK (my c k v)))\/
 ∃c k b,H a=some (.dT c)/\y=.ref b/\H b=some (.tup (k.map kV))/\c.length<sizeLine/\H'=upd H a (.dT (my c k v))
theorem A8f.k{kvs:zJ}{k:Key}(e:H a=some (.dK kvs)):A8f H a (kV k) (lW kvs k):=.inl (dV kvs k (.inl e) rfl rfl)
theorem C0j.k{kvs:zJ}{k:Key}(e:H a=some (.dK kvs))(b:kvs.length<sizeLine):C0j H a (kV k) v (upd H a (.dK (my kvs k v))):=.inl (lQ kvs k e rfl b rfl)
section
variable{r:zX}
theorem Inv.big(I:Inv X pins Z H s):sysModules<s.heap.objs.size:=by have h:mainGlobals<s.heap.objs.size:=(I.mod.glob.keeps I.bk).lt;exact Nat.lt_trans (by decide) h
theorem LD(t:A.units+1<cLine)(I:Inv X pins Z H s)(g:A8f H a y (some v))(r:A2z y u)(h:∀f s',Inv X pins Z H s'->A2z v f->Q f s'):
  wpAny (model X.prog X.w) A (getItem (.ref a) u) Q E s:=by
 rcases g with ⟨n,k,e,j,l⟩|⟨n,k,b,e,j,C,l⟩
 ·subst j;refine pN (wO I.hok e) λz x B c m=>?_;obtain⟨f,i,d⟩:=B5d.some_of (v:=v) (o:=valueAt B k) (by rw[l];exact c.val k);exact wpAny_getItem_of (vh r) m.mapOf i (h f _ (I.tok _) d)
 ·subst j;cases(show u=Value.ref b from r);refine pN (yd I.hok e) λz x F c m=>?_;obtain⟨f,i,d⟩:=B5d.some_of (v:=v) (o:=(atKey F k).map (·.2)) (by rw[l];exact c.val k);obtain⟨p,D,q⟩:=rg.mp i;refine wpAny_getItem_heap (tupleKind_room_in1 t) (yq I.hok C) m D ?_;rw[q];exact h f _ (I.tok _) d
theorem Js(n:A.units+1<cLine)(I:Inv X pins Z H s)(g:A8f H a y o)(m:A2z y u)(h:∀s',Inv X pins Z H s'->Q (.bool (! o.isSome)) s'):
  wpAny (model X.prog X.w) A (compareOp .NotIn u (.ref a)) Q E s:=by
 rcases g with ⟨j,k,e,d,l⟩|⟨j,k,b,e,d,p,l⟩
 ·subst d;refine pN (wO I.hok e) λz f r c i=>?_;refine wpAny_notIn_of (vh m) f i.mapOf ?_;rw[<-(c.val k).isSome_eq,<-l];exact h _ (I.tok _)
 ·subst d;cases(show u=Value.ref b from m);refine pN (yd I.hok e) λz f t c i=>?_;refine wpAny_notIn_heap (tupleKind_room_in1 n) (yq I.hok p) f i ?_;have q:=(c.val k).isSome_eq;rw[Option.isSome_map]at q;rw[<-q,<-l];exact h _ (I.tok _)
theorem A6{d:HO}(I:Inv X pins Z H s)(f:Mut (H a))(hs:Heap.SameBut a s.heap h')(h:∃q,h'.get? a=some q)(c:A1p X.prog X.w (upd H a d) h' a d):
  Inv X pins Z (upd H a d) {s with heap:=h',toks:=t'}:=
 I.write (x:=a) (e:=a) f (.inl rfl) (λb q g z=>(hs.2 b g).trans z) h c
theorem CZ{kvs:zJ}{vs:List (Key×zX)}(z:kvs.length<=sizeLine)(c:(a==sysModules)=false)(b:KV kvs vs)(dd:h'.DictOf (oD P w) a vs):
  A1p P w H' h' a (.dK kvs):=(nu z c vs b dd)
theorem L8{Q:Unit->zY->Prop}(O:A.units+1<cLine)(I:Inv X pins Z H s)(g:C0j H a y v H')(J:A2z y u)(G:A2z v r)(h:∀s',Inv X pins Z H' s'->Q () s'):
  wpAny (model X.prog X.w) A (setItem (.ref a) u r) Q E s:=by
 rcases g with ⟨i,k,e,n,l,t⟩|⟨i,k,b,e,n,F,l,t⟩
 ·subst n t;refine pN (wN I.hok e) λz o S f x=>?_;have m:S.length<=sizeLine:=by rw[<-f.length];exact z
  have B:(my i k v).length<=sizeLine:=by have:=BJ i k v;lia
  refine wpAny_setItem_pairs (hsz:=m) (vh J) x λC d p=>h _ ?_;have N:∃q,C.get? a=some q:=let⟨q,_,_,j,_⟩:=d;⟨q,j⟩;exact A6 I (by rw[e];exact True.intro) p N (CZ B o (f.put k G) d)
 ·subst n t;cases(show u=Value.ref b from J);refine pN (GH I.hok e) λz o M f x=>?_;have m:M.length<=sizeLine:=by rw[<-Paired.length f];exact z
  have B:(my i k v).length<=sizeLine:=by have:=BJ i k v;lia
  refine wpAny_setItem_heap (hsz:=m) (tupleKind_room_in1 O) (yq I.hok F) x λC d p=>h _ ?_;refine nF d ?_;clear d;rintro q L P j T K ⟨R,_,U⟩;refine A6 I (by rw[e];exact True.intro) p ⟨q,j⟩ (nu B o _ ((f.put k F G).keeps λc W D=>?_) (oq q L P j T K R U));rw[eh (mU D e (λz=>nomatch z))];exact D
end
section
variable{kvs:zJ}{k:Key}
end
def Ca(i:yC):Prop:=∀a b,subscripted i false a b=operate [a,b] (getItem a b)
theorem IY{a:yC}
  (g:typeLookup (.type T) "__getitem__"=pure (some (.builtin id))) (hs:Ca a)
  (h:wpAny (model prog w) A (eval value env) (λo s₁=>wpAny (model prog w) A (eval a env) (λi s₂=>s₂.TypeIs o T/\wpAny (model prog w) A (getItem o i) Q E s₂) E s₁) E s):
  wpAny (model prog w) A (eval (.Subscript value a pos) env) Q E s:=by
 refine Subscript_ (oj h (λo s₁ f=>oj f (λi s₂ c=>?_) λ_ _ x=>x) λ_ _ x=>x);obtain⟨e,c⟩:=c;unfold subscriptTail;refine cz ?_;rw[getitemInPython_of_ne e.not_modules];refine cz (wpAny_specialOf e g ?_)
 have b:wpAny (model prog w) A (subscripted a false o i) (λr d=>wpAny (model prog w) A (letTemporaryGo value o r>>=λ_=>pure r) Q E d) E s₂:=by rw[hs o i];exact wpAny_operating (oj c (λr d j=>cz (wpAny_letTemporaryGo (ff j))) λ_ _ x=>x)
 first|exact ff (cz b)|exact cz (ff (cz b))|exact cz b
theorem Nt(I:Inv X pins Z H s)(g:A8f H a y o):s.TypeIs (.ref a) "dict":=by
 rcases g with ⟨c,k,e,_,_⟩|⟨c,k,b,e,_,_,_⟩
 ·refine pN (wO I.hok e) λ_ _ f _ d=>?_;exact d.typeIs
 ·refine pN (yd I.hok e) λ_ _ h _ d=>?_;exact d.typeIs
def Hb(td ty:TE):TE:=λZ H Q=>td Z H λx c=>ty Z c λy b=>∃a v,x=.ref a/\A8f b a y (some v)/\Q v b
def JQ(ty td:TE):TE:=λZ H Q=>ty Z H λy c=>td Z c λx b=>∃a o,x=.ref a/\A8f b a y o/\Q (.bl (! o.isSome)) b
def Hc(td ty tv:TE):TS:=λD Z H=>tv Z H λv c=>td Z c λx d=>ty Z d λy e=>∃a b,x=.ref a/\C0j e a y v b/\D.nx Z b
section
variable{X:Cx}{o i e value:yC}{pos pos' tpos:Pos}{td ty tv:TE}
theorem mj(l:X.A.units+1<cLine)(m:PE X o td)(hi:PE X i ty)(hs:Ca i:=by exact λ_ _=>rfl):PE X (.Subscript o i pos) (Hb td ty):=by intro b s Z H Q I h;refine IY PySem.F.slot_dict_getitem.lookup hs (thn (m b s Z H _ I h) ?_);refine λu p c=>ei c λx e I1 j k=>?_;clear c;refine thn (hi b p Z e _ I1 k) ?_;rintro w t c;refine ei c ?_;clear c;rintro y q I2 r ⟨a,v,f,g,n⟩;subst f;obtain rfl:u=Value.ref a:=j;exact⟨Nt I2 g,LD l I2 g r λB z I3 d=>(dV v q I3 d n)⟩
theorem Bw(e:X.A.units+1<cLine)(hi:PE X i ty)(f:PE X o td):PC X .NotIn i o (JQ ty td):=by intro b s Z H Q I h;refine thn (hi b s Z H _ I h) ?_;refine λv l c=>ei c λy n I1 q d=>?_;clear c;refine thn (f b l Z n _ I1 d) ?_;rintro u t c;refine ei c ?_;clear c;rintro x p I2 r ⟨a,j,m,g,k⟩;subst m;obtain rfl:u=Value.ref a:=r;exact Js e I2 g q λw I3=>(dV (.bl (! j.isSome)) p I3 rfl k)
theorem su(m:X.A.units+1<cLine)(n:PE X o td)(hi:PE X i ty)(t:PE X value tv)(hs:swapsWith value (some (.Subscript o i pos')) pos.line X.env=pure false):
  PS X (.Assign [.Subscript o i pos'] value pos) (Hc td ty tv):=by
 intro b s Z H D I h;refine wpAny_Assign_Subscript (thn (t b s Z H _ I h) ?_) hs;refine λr w c=>ei c λv d I1 l k=>?_;clear c;refine thn (n b w Z d _ I1 k) ?_;refine λu p c=>ei c λx B I2 j q=>?_;clear c;refine thn (hi b p Z B _ I2 q) ?_;rintro J K c;refine ei c ?_;clear c;rintro y F I3 C ⟨a,z,f,g,e⟩;subst f;obtain rfl:u=Value.ref a:=j;exact L8 m I3 g C l λG I4=>(mL Z z I4 e)
end
theorem Et(h:yA)(a:sysModules<h.objs.size):A1p P w H (h.push {cls:=.type "dict",data:=.dict #[]}) h.objs.size (.dK []):=(nu (pG _) (uE.mpr (Ne.symm (mG a))) [] .nil (Heap.DictOf.new h))
def Hm:TE:=λ_ H Q=>∀p,H p=none->Q (.ref p) (upd H p (.dK []))
theorem wg:PE X (.Dict [] [] pos) Hm:=λb s Z H Q I h=>wpAny_Dict_empty (dV (.ref s.heap.objs.size) _ (I.laid (a:=s.heap.objs.size) (o:=.dK []) (t':=s.toks) (λ_ _ q=>gc _ q) (fy _) (Et s.heap I.big)) rfl (h _ (I.hok.fresh (fy _))))
def AB:List (TE×TE)->St->Hp->(List (V×V)->Hp->Prop)->Prop| [],_,H,Q=>Q [] H|(tk,tv)::r,Z,H,Q=>tk Z H λx d=>tv Z d λy a=>AB r Z a λc b=>Q ((x,y)::c) b
abbrev VV:List (V×V)->List (zX×zX)->Prop:=Paired λp q=>A2z p.1 q.1/\A2z p.2 q.2
def PPs(X:Cx)(pos:Pos)(keys:List (Option yC))(a:zT)(trs:List (TE×TE)):Prop :=
 ∀(b:zD)(s:zY)(Z:St)(H:Hp)(Q:List (V×V)->Hp->Prop),Inv X b Z H s->AB trs Z H Q->
  wpAny (model X.prog X.w) X.A (evalPairs (pairTrees keys a X.env pos)) (λe f=>∃d c,Inv X b Z c f/\VV d e/\Q d c) X.xe s
theorem IL:PPs X pos [] [] []:=λa s Z H Q I h=>pairTrees_nil_walk (dV [] H I .nil h)
theorem we{k v:yC}{ks:List (Option yC)}{vs:zT}(l:PE X k tk)(p:PE X v tv)(e:PPs X pos ks vs trs):
  PPs X pos (some k::ks) (v::vs) ((tk,tv)::trs):=λa s Z H Q I h=>
 pairTrees_cons_walk (thn (l a s Z H _ I h) λu q ⟨x,f,I1,i,j⟩=>thn (p a q Z f _ I1 j) λz n ⟨y,r,I2,t,o⟩=>thn (e a n Z r _ I2 o) (by (refine λw A c=>ei c λm d I3 b g=>?_;clear c);exact dV ((x,y)::m) d I3 (.cons ⟨i,t⟩ b) g))
def mo(kvs more:zJ):zJ:=more.foldl (λa b=>my a b.1 b.2) kvs
theorem KV.merge:∀{more:zJ}{rs:List (Key×zX)}{kvs:zJ}{vs:List (Key×zX)},KV more rs->KV kvs vs->KV (mo kvs more) (merged vs rs):=by
 intro more rs kvs vs r;unfold KV at r
 induction r generalizing kvs vs with
 |nil=>intro q;exact q
 |@cons p q ps qs h t ih=>
  intro a
  have e:KV (my kvs p.1 p.2) (stored vs q.1 q.2):=by have:=a.put p.1 h.2;rw[<-h.1];exact this
  exact ih e
theorem wy:∀(more kvs:zJ),(mo kvs more).length<=kvs.length+more.length| [],kvs=>by show kvs.length<=kvs.length+0;lia|p::r,kvs=>by have a:=wy r (my kvs p.1 p.2);have b:=BJ kvs p.1 p.2;show(mo (my kvs p.1 p.2) r).length<=_;rw[nG];lia
theorem Ft{P:yB}{w:yD}:∀{kvs:zJ}{ws:List (zX×zX)},VV (kvs.map λkv=>(kV kv.1,kv.2)) ws->∃rs,Carries (oD P w) ws rs/\KV kvs rs
 | [],_,r=>by rw[List.map_nil]at r;cases r;exact cb [] True.intro .nil
 |p::kvs,_,r=>by
  rw[mi]at r
  cases r with
  |@cons a b as bs h t=>obtain⟨rs,c,q⟩:=Ft (P:=P) (w:=w) t;obtain⟨e,d⟩:=b;exact cb ((p.1,d)::rs) (fI (vh h.1) rfl c) (.cons ⟨rfl,h.2⟩ q)
def GU(trs:List (TE×TE)):TE:=λZ H Q=>∀p,H p=none->AB trs Z (upd H p (.dK [])) λd b=>b p=some (.dK [])/\∃a:zJ,d=a.map (λc=>(kV c.1,c.2))/\a.length<=15/\Q (.ref p) (upd b p (.dK (mo [] a)))
theorem JA{b:zT}(h:PPs X pos keys b trs)(i:keys.all (·.isSome)=true)(G:keys.length=b.length)(u:keys≠[])
  (j:keys.length<=15):PE X (.Dict keys b pos) (GU trs):=by
 intro g s Z H Q I q;have v:=I.hok.fresh (fy s.heap.objs.size);have I1:=I.laid (a:=s.heap.objs.size) (o:=.dK []) (h':=s.heap.push {cls:=.type "dict",data:=.dict #[]}) (t':=s.toks) (λ_ _ q=>gc _ q) (fy _) (Et s.heap I.big);refine wpAny_Dict_walk (knd:=oD X.prog X.w) i G u j (thn (h g _ Z _ _ I1 (q _ v)) ?_);rintro K M l;refine lS l ?_;clear l;rintro L N I2 k e ⟨f,A,J,F⟩;subst A;obtain⟨D,c,r⟩:=Ft (P:=X.prog) (w:=X.w) k;refine pN (wN I2.hok e) λz p t B C=>?_;cases B;refine fx D c C λh' d y=>(dV (.ref s.heap.objs.size) _ ?_ rfl F)
 have n:(mo [] f).length<=sizeLine:=by have m:=wy f [];rw[pO]at m;rw[sizeLine_eq];lia
 have x:∃q,h'.get? s.heap.objs.size=some q:=let⟨q,_,_,hq,_⟩:=d;⟨q,hq⟩;exact A6 I2 (by rw[e];exact True.intro) y x (CZ n p (r.merge .nil) d)
section
variable{r:zX}
end
section
variable{o f:yC}
end
section
variable{kvs:zJ}
end
end L2
namespace Att
open PySem PySem.W PySem.Calls PyProof.Rows
variable{w:yD}{s:zY}{q prog:yB}{n:Nat}{l:OpenLaw}{h:yA}{d:DefRec}{c:zH}{b:zC}{args:List WData}{YP:yD->yA->Prop}{XP:zE->yA->Prop}{P:Params}{K:Frag}{E:zA}{A:zZ}
theorem OQ:∀(ns:zI)(vs:zH),WellAll P h vs (ns.map WData.int)->IntsAre vs ns:=by
 intro ns
 induction ns with
 |nil=>intro vs w;rw[List.map_nil]at w;cases w;exact .nil
 |cons n ns ih=>
  intro vs w;rw[mi]at w
  cases w with
  |cons a b=>
   cases a
   exact .cons _ _ (ih _ b)
theorem LA(s:l.most=some n)
  (b:l.row.toRowW.claim.pre args=true) (i:WellAll P h c args):
  ∃a vs ns,c=[Value.ref a]/\args=[WData.list (ns.map WData.int)]/\h.get? a=some {cls:=.type "list",data:=.seq vs.toArray}/\IntsAre vs ns/\ns.length<=n:=by
 have j:WShape.hasAll [] args [.list .int]=true:=(pre_splitW b).1;have k:l.pre.holds [] {args:=args}=true:=(pre_splitW b).2;refine ei (hasAllW_cons j) ?_;rintro d r rfl m p;obtain rfl:=hasAllW_nil p;obtain⟨u,rfl,o⟩:=hasW_list m;obtain⟨ns,rfl⟩:=items_int o
 have e:ns.length<=n:=by
  unfold OpenLaw.pre at k
  have f:(WTm.not (.lt (.lit (.int (n:Int))) (.len (.arg 0)))).holds [] {args:=[.list (ns.map .int)]}=true:=by have f:=(holds_andW k).1;rw[s]at f;exact f
  have g:=condW_of f (w_not (w_lt w_lit (w_len_list (w_arg rfl))));rw[dm]at g;refine Nat.le_of_not_lt λq=>?_;have t:(n:Int)<((ns.length:Nat):Int):=by lia
  first|(rw[mP t]at g;exact absurd g (by decide))|(simp at g;lia)
 cases i with
 |cons w1 w2=>
  cases w2
  cases w1 with
  |list ho hall=>exact oq _ _ ns rfl rfl ho (OQ ns _ hall) e
theorem LQ(l:OpenLaw)(args:List WData):l.row.toRowW.claim.post args (.bool true) args=true :=
 postW_of (r:=l.row.toRowW) (X:=(true==true))
  (show WShape.has [] (.bool true) .bool=true by first|rfl|decide|simp[WShape.has,WShape.arms,WShape.armsAll])
  (show(WTm.eq .res (.lit (.bool true))).value [] {args:=args,res:=some (.bool true),after:=args}=some (.bool (true==true)) from w_eq_bool (w_res rfl) w_lit) rfl
theorem attach_call
  (I:l.most=some n) (p:d.params.defaults=[])
  (j:∀(w:yD)(x c:zY)(mg t:zE)(i:zW)(o:Obj)(pm cd g:zX)(a:zW)(vs:zH)(ns:zI),
   Ground q b [] XP w x mg t c.heap->YP w c.heap->
   c.heap.get? i=some o->o.data=.func (docDef d.name d.params d.body d.scope pm cd g)->c.heap.CodeRec cd d.name->mg d.name=some (.ref i)->
   c.heap.get? a=some {cls:=.type "list",data:=.seq vs.toArray}->IntsAre vs ns->ns.length<=n->c.gens=#[]->
   codeAny (model l.prog w) callerA (.call (.ref i) ⟨[.ref a],[]⟩) (λr s'=>r=.ok (.ret (.bool true))/\OldK c.heap s'.heap/\s'.os=c.os/\AllBare s'.gens) c):
  WalkO q b XP YP l.row.toRowW d [] (λf vs=>PySem.call f vs):=by
 intro w x c mg t G Y i o pm cd g D kV M F u A s J B z Q h y K v L;obtain rfl:D=.none:=Dflts.none A p;obtain rfl:kV=.none:=Dflts.noKw A;refine nF (LA I h v) ?_;rintro a vs ns rfl rfl k ⟨e,m⟩;refine enter_call (codeAny_mono (j w x c mg t i o pm cd g a vs ns G Y M (fd_plain F) u s k e m J) λr s' O=>?_);obtain⟨rfl,P,C,N⟩:=O;exact lX (.inl (oq (.bool true) (.bool true) [] rfl (λ_=>rfl) (.bool true) (LQ l _) λ_=>⟨List.Pairwise.nil,λ_ H=>(nomatch H)⟩)) P C N
end Att
namespace L2
open PySem PySem.Spec PyProof.Rows
variable{α:Type}{z l2 l1 i2 i1 h dx a M D:zW}{ys:zG}{y pm oc ct b:zX}{w:yD}{v:V}{u:HO}{ty U T:String}{tn st2 st1:Nat->yA->Prop}{tl te ta:TE}{tc:TT}{tb:TS}{t:TA}{s₁ s1 s' s:zY}{src2 src1:zG->yA->Prop}{sp' sp:Sp}{scope:Scope}{rest:List Stmt}{q2 q1 k2 k1:Bool}{q prog P:yB}{pos p2 p apos:Pos}{pl pins:zD}{od an:zO}{ns:zI}{mg O:zE}{m:Str}{lo hi:Option yC}{kk j ep:Nat}{js:List Nat}{ix:List (Option Nat)}{i:Int}{h' g' base:yA}{g:TG}{fp:zQ}{es:zT}{ds:List PyData}{d:PyData}{cl:List (Str×zW)}{c:Prop}{Z₀ Z' Z:St}{YP:yD->yA->Prop}{X:Cx}{S':zV}{QD:Hp->Prop}{N0 N' N:zC}{K:Frag}{J:It}{H2 H1 H G:Hp}{E:zA}{CX:CXT}
variable{P:yB}{w:yD}{K:Frag}{mg:zE}{a l f it C:zW}{fd:zS}{x qual x₀:Str}{vs xs:zG}{n t' i₀:Nat}{XP:zE->yA->Prop}{X:Cx}{st:Stmt}{ps N':zC}{osl:zF}{A B:Prop}{pos pos₀ spos:Pos}{H H':Hp}{g:TG}{e:zO}{fp ts:zQ}{Q:zN->zY->Prop}{o:HO}{pins:zD}{Z:St}{s:zY}{elts cs:zT}{tg elt iter:yC}{v:V}{scope:Scope}{S:zV}{r:zK}{kvs:zJ}{ix:List (Option Nat)}{cl:List (Str×zW)}{wi:TI}{tc:TT}{te:TE}{use:Option (zX->Sem Unit)}{Qf:zA}
theorem Ez:∀{vs:zH}{ns:zI},IntsAre vs ns->A2m (ns.map V.int) vs|_,_,.nil=>.nil|_,_,.cons n t h=>.cons ⟨t,rfl⟩ (Ez h)
def xL(H:Hp):Prop:=∀b,H b=none\/∃o a,H b=some (.frz o (.lst a))
theorem Kp{k:Nat}{vs:zH}
  (KX:K.In s₁.heap) (l:s₁.heap.Ns mainGlobals mg) (f:s₁.heap.Ns builtinsNs O) (N:∀x:Str,x≠"__name__"->O x=bootBuiltins x) (C:s₁.heap.NoLimit) (hg:s₁.gens=#[])
  (I:s₁.heap.get? a=some {cls:=.type "list",data:=.seq vs.toArray}) (hi:IntsAre vs ns) (Y:ns.length<=sizeLine) (hr:A5y k callerA)
  (F:∀base:yA,K.In base->base.Ns mainGlobals mg->A3i P w K mg base CX k M fd [x] sp) (j:∀(s:zY)(u:zX),BindsTo s fd ⟨[u],[]⟩ [(x,u)])
  (J:∀H:Hp,xL H->SqL K H a (ns.map V.int)->sp [.ref a] H (λv _=>v=.bl true) λ_ _ _=>False)
  (R:∀H e s',CX [] H s₁ (λ_ _ _=>False) e s'->False):
  codeAny (model P w) callerA (.call (.ref M) ⟨[.ref a],[]⟩) (λr s'=>r=.ok (.ret (.bool true))/\OldK s₁.heap s'.heap/\s'.os=s₁.os/\AllBare s'.gens) s₁:=by
 have X:=Ez hi;have A:=hi.length
 have i:∀H:Hp,xL H->SqL K H a (ns.map V.int)->HOk P w H s₁.heap->(∀b,H b≠none->b=a)->(H a≠none->K.lookup a=none)->
   codeAny (model P w) callerA (.call (.ref M) ⟨[.ref a],[]⟩) (λr s'=>r=.ok (.ret (.bool true))/\OldK s₁.heap s'.heap/\s'.os=s₁.os/\AllBare s'.gens) s₁:=by
  intro H T hS B U E;have c:∀{b:zW}{o:Obj},s₁.heap.get? b=some o->H b=none->(uk s₁.heap H).get? b=some o:=λe n=>Kv e n
  have Q:∀{b:zW}{o:Obj}{y:Array DictEntry}{ep:Nat},s₁.heap.get? b=some o->o.data=.dict y ep->H b=none:=λ{b o y ep} e d=>by
   cases q:H b with
   |none=>rfl
   |some u=>have L:b=a:=U b (by rw[q];simp);subst L;rw[I]at e;cases e;have d':Data.seq vs.toArray _=Data.dict y ep:=d;cases d'
  have g:∀{b:zW}{m:zE},s₁.heap.Ns b m->(uk s₁.heap H).Ns b m:=λ{b m} ⟨o,y,ep,e,d,r⟩=>(nM o y ep (c e (Q e d)) d r)
  have t:K.In (uk s₁.heap H):=λb o e=>c (KX b o e) (by
   cases q:H b with
   |none=>rfl
   |some u=>
    have L:b=a:=U b (by rw[q];simp);subst L
    rw[E (by rw[q];simp)]at e;cases e)
  have hM:Mod K mg (uk s₁.heap H):=⟨t,g l,(cb O (g f) N),let⟨mc,h1,h2⟩:=C;(cb mc (g h1) h2)⟩;have Z:D1l P w K mg (uk s₁.heap H) callerA [] s₁ H:=⟨rfl,hM,λb o e=>JE e,Nat.le_of_eq (L4 _ _),trivial,λb f=>absurd (show b∈([]:zQ) from f) (by simp),B,.of_eq hg⟩;refine codeAny_mono ((F _ t (g l)).run callerA [] s₁ H ⟨[.ref a],[]⟩ [.ref a] [.ref a] _ _ hr Z (j s₁ (.ref a)) (.cons rfl .nil) (J H T hS)) λr s' h=>?_
  cases r with
  |error e=>exact(R H e s' h).elim
  |ok fl=>
   cases fl with
   |next=>exact False.elim h
   |brk=>exact False.elim h
   |cont=>exact False.elim h
   |ret u=>
    refine lS h ?_;clear h;rintro v H' os G W ⟨p,r',q⟩;have q':v=.bl true:=q;subst q';obtain rfl:u=Value.bool true:=r';refine lX rfl (OldK.of_keep λb o e=>?_) os G
    cases q:H b with
    |none=>exact W.keep b o e q (by intro z;exact absurd (show b∈([]:zQ) from z) (by simp)) (by simp)
    |some u=>
     rcases T b with z|⟨ob,xs,z⟩
     ·rw[q]at z;cases z
     ·have z2:=W.frzs b ob _ z;obtain⟨S,_⟩:=B b _ z;obtain⟨e2,_⟩:=p b _ z2;rw[e]at S;cases S;exact e2
 cases hk:K.lookup a with
 |some o=>have e:=KX a o hk;rw[I]at e;cases e;refine i (λ_=>none) (λ_=>.inl rfl) (.inr (qA _ vs.toArray _ hk rfl rfl rfl (by rw[oz,A];exact Y) (by simpa using X))) (λb u z=>by have D:(none:Option HO)=some u:=z;cases D) (λb z=>absurd rfl z) λz=>absurd rfl z
 |none=>
  refine i (λb=>if b=a then some (.frz {cls:=.type "list",data:=.seq vs.toArray} (.lst (ns.map V.int)))else none) (λb=>?_) (.inl (.inr ⟨{cls:=.type "list",data:=.seq vs.toArray},eH rfl⟩)) (λb u z=>?_) (λb z=>?_) λ_=>hk
  ·by_cases f:b=a
   ·exact .inr (oi _ _ (eH f))
   ·exact .inl (fa f)
  ·by_cases f:b=a
   ·have D:=(eH f).symm.trans z;cases D;subst f;exact⟨I,(qP (by rw[dm];exact Y) vs _ X I)⟩
   ·have D:=(fa f).symm.trans z;cases D
  ·by_cases f:b=a
   ·exact f
   ·exact absurd (fa f) z
theorem D6q{l:PySem.W.OpenLaw}{k:Nat}{j:zC}{d:DefRec}{K:Params->Frag}{CX:yD->CXT}{sp:yD->Sp}
  (I:l.most=some n) (z:n<=sizeLine) (t:d.params.defaults=[]) (C:A5y k callerA)
  (O:∀(w:yD)(h:yA),YP w h->(K w.params).In h)
  (F:∀(w:yD)(mg:zE)(p:zW)(h:yA),(K w.params).In h->h.Ns mainGlobals mg->mg d.name=some (.ref p)->
   ∃fd:zS,(∀(s:zY)(u:zX),BindsTo s fd ⟨[u],[]⟩ [(x,u)])/\
    ∀base:yA,(K w.params).In base->base.Ns mainGlobals mg->A3i l.prog w (K w.params) mg base (CX w) k p fd [x] (sp w))
  (r:∀(w:yD)(H:Hp)(a:zW)(ns:zI),ns.length<=n->xL H->SqL (K w.params) H a (ns.map V.int)->sp w [.ref a] H (λv _=>v=.bl true) λ_ _ _=>False)
  (A:∀(w:yD)(H:Hp)(s:zY)(e:zX)(s':zY),CX w [] H s (λ_ _ _=>False) e s'->False):
  PySem.W.WalkO q j XP YP l.row.toRowW d [] (λf vs=>PySem.call f vs):=by
 refine Att.attach_call I t λw E P mg U p o R Z L a vs ns G Y X S N y m i c J=>?_;have KX:=O w _ Y;obtain⟨fd,M,B⟩:=F w mg p _ KX G.T.g y;exact Kp KX G.T.g G.T.b G.T.builtins G.T.nolimit J m i (oU c z) C B M (λH D Q=>r w H a ns c D Q) λH e s'=>A w H P e s'
def rP(s:Stmt)(j:Nat):Stmt:=match s with|.ClassDef _ _ _ body _ _ _ _ _ _ _=>body.getD j (.Pass ⟨0,0,0,0⟩)|_=>.Pass ⟨0,0,0,0⟩
def tZ(s:Stmt):Arguments:=match s with|.FunctionDef _ a _ _ _ _ _ _ _ _=>a|_=>{posonlyargs:=[],args:=[],vararg:=none,kwonlyargs:=[],kw_defaults:=[],kwarg:=none,defaults:=[]}
def rR(s:Stmt):List Stmt:=match s with|.FunctionDef _ _ b _ _ _ _ _ _ _=>b|_=>[]
def fC(s:Stmt):Scope:=match s with|.FunctionDef _ _ _ _ _ _ sc _ _ _=>sc|_=>{kind:=.function,names:=[],isGenerator:=false,isCoroutine:=false}
abbrev nj:CXT:=λ_ _ _ _ _ _=>False
abbrev E0:XK:=λ_ _ _=>False
theorem um:sZ nj X E0:=λ_ _ _ _ _ _ _ h=>h.elim
structure Fun(K:Frag)(x qual:Str)(st:Stmt)(f:zW)(fd:zS):Prop where
 ex:∃(oc:zX)(od:zO)(kV doc pm:zX)(an:zO)(cdv ct:zX)(osl:zF),
  fd=fnOf x qual (tZ st) (rR st) (fC st) .none kV doc pm an cdv ct/\K.lookup f=some ⟨oc,od,.func fd,osl⟩/\codeIn K cdv qual=true
 kp:keepIn K (.ref f)=true
theorem Fun.ok{k:Nat}(F:Fun K x qual st f fd)(S:ic N ps (fC st))
  (b:∀(a:zX)(A:zZ)(outer:List Env)(s:zY)(H:Hp)(vs:zM)(Q:VK)(E:XK),A5y k (A.deeper (envOfC qual (fC st) s.heap.objs.size f a))->sp vs H Q E->
   ∃t,PSs (sU nj P w K mg base N qual (fC st) f a A outer s H E).nox (rR st) t/\t {nx:=λ_ H'=>Q .non H',rt:=Q} (sf N vs) H) (d:∀vs H Q E,sp vs H Q E->vs.length=ps.length:=by walk_at"ln"):A3i P w K mg base nj (k+1) f fd ps sp:=by
 refine pZ F.ex ?_;rintro r o kV j n p a m l ⟨rfl,g,e⟩;refine CF g e S d λA outer s H vs Q E i c=>?_;obtain⟨t,h,q⟩:=b a A outer s H vs Q E i c;exact cb t h.nox q
theorem Fun.binds(F:Fun K x qual st f fd)
  (h:∀(kV a pm:zX)(an:zO)(b ct:zX)(us:zH),us.length=ps.length->bindArgs (fnOf x qual (tZ st) (rR st) (fC st) .none kV a pm an b ct) ⟨us,[]⟩=pure (ps.zip us)):A9f K fd ps []:=by
 refine pZ F.ex ?_;rintro i g kV a pm an b ct d ⟨rfl,e,c⟩;exact .all (h kV a pm an b ct)
theorem yw{kV a:zX}(l:K.lookup f=some ⟨oc,od,.func (fnOf x qual (tZ st) (rR st) (fC st) .none kV b pm an a ct),osl⟩)
  (c:codeIn K a qual=true) (k:keepIn K (.ref f)=true):Fun K x qual st f (fnOf x qual (tZ st) (rR st) (fC st) .none kV b pm an a ct):=⟨(oT oc od kV b pm an a ct osl (fI rfl l c)),k⟩
theorem qW{A:zZ}{k:Nat}(a:A5y k A):A.units+1<cLine:=wF (Nat.add_le_add_left (by decide:1<=64) _) a.units
theorem pv(i:Nat)(b:X.N[i]?=some x:=by rfl)(d:Vis X.env.scope x:=by first|exact Or.inl rfl|exact Or.inr (Or.inl rfl)|exact Or.inr (Or.inr rfl))(c:(x==("__debug__":Str))=false:=by decide)
  (a:(x==("__classdict__":Str))=false:=by decide):PE X (.Name x pos) (tP i):=Hj b d c a
theorem hY(h:B):if false=true then A else B:=by rw[fa nA];exact h
theorem nI(h:A):if true=true then A else B:=by rw[eH rfl];exact h
theorem wJ[Decidable c](h1:c->A)(h2:¬c->B):if c then A else B:=by
 by_cases h:c
 ·rw[eH h];exact h1 h
 ·rw[fa h];exact h2 h
def A0l(H H':Hp):Prop:=∀b o,H b=some o->H' b=some o
theorem A0l.refl(H:Hp):A0l H H:=λ_ _ h=>h
theorem A0l.trans(a:A0l H H1)(b:A0l H1 H2):A0l H H2:=λc o h=>b c o (a c o h)
theorem A0l.free(e:A0l H H')(h:H' l=Option.none):H l=Option.none:=by
 cases q:H l with
 |none=>rfl
 |some o=>rw[e l o q]at h;cases h
theorem A0l.seq{xs:zM}(e:A0l H H')(h:SqL K H a xs):SqL K H' a xs:=by
 rcases h with (h|⟨o,h⟩)|h
 ·exact .inl (.inl (e _ _ h))
 ·exact .inl (.inr ⟨o,e _ _ h⟩)
 ·exact .inr h
section
variable{κ:Type}[DecidableEq κ]
theorem KY{kvs:List (κ×V)}{k:κ}(h:lW kvs k=none):¬k∈kvs.map (·.1):=by intro m;obtain⟨p,a,e⟩:=pd.mp m;have q:(kvs.any λb=>decide (b.1=k))=true:=List.any_eq_true.mpr (cb p a (mP e));rw[uw,h]at q;exact absurd q (by simp)
end
def zm(t u:TS):TS:=λD Z H=>∃M:St->Hp->Prop,t {D with nx:=M} Z H/\∀Z' a,M Z' a->u D Z' a
theorem IR{t u:TS}(h1:PS X st t)(h2:PSs X rest u):PSs X (st::rest) (zm t u):=by
 intro a s Z H D I h;obtain⟨M,h,c⟩:=h;refine wpAny_execs_cons (thn (h1 a s Z H {D with nx:=M} I h) λf b q=>?_)
 cases f with
 |next=>obtain⟨Z',d,I',q⟩:=q;exact h2 a b Z' d D I' (c _ _ q)
 |ret v=>exact q
 |brk=>exact q
 |cont=>exact q
def rIsi(K:Frag):zM->Hp->VK->Prop:=λa H Q=>∃x c t b,a=[x,c]/\nX K H x t/\(∀u,A2z c u->kitOne K t u=some b)/\Q (.bl b) H
theorem pW:qH X (.builtin "isinstance") (rIsi X.K):=by intro d s Z H l k Q I r h;refine ou h ?_;clear h;rintro x c t b rfl i e q;refine ei (uR r) ?_;rintro u g rfl j a;exact LC I j i (e g a) λf=>(dV (.bl b) H (I.tok f) rfl q)
theorem wc(T:String):∀u,A2z (.ty T) u->kitOne K (.type T) u=some true:=by intro u h;cases(show u=Value.type T from h);unfold kitOne;rw[eH (beq_self_eq_true _)]
theorem yt{b:Bool}(h:(Value.type T==Value.type U)=false)(a:PySem.W.kitMeta U=true)(hs:(PySem.fastBuiltinMro T).map (·.contains (Value.type U))=some b):
  ∀u,A2z (.ty U) u->kitOne K (.type T) u=some b:=by
 intro u z;cases(show u=Value.type U from z);unfold kitOne;rw[fa (by rw[h];exact nA)];show(if PySem.W.kitMeta U=true then subIn K (.type T) (.type U)else none)=some b;rw[eH a];exact hs
def Iu(K:Frag):R2:=λx y H Q=>∃a b c d,x=.ref a/\y=.ref b/\SqT K H a c/\SqT K H b d/\d≠[]/\c.length+d.length<=sizeLine/\
 (c=[]->Q (.ref b) H)/\(c≠[]->∀p,H p=none->Q (.ref p) (upd H p (.tup (c++d))))
theorem Kt:OpR X (binaryOp .Add) (Iu X.K):=by
 intro f s Z H x y v u Q I q C h;refine ou h ?_;clear h;rintro a b p U rfl rfl t ⟨A,L,G,O,S⟩;by_cases hx:p=[]
 ·subst hx;cases q;cases C;obtain⟨g,W,D,_⟩:=I.tuple t;obtain⟨c,Y,T,_⟩:=I.tuple A;have J:g=[]:=W.nil_iff.mpr rfl;refine nw (id D) ?_;rintro⟨N,R,B,P⟩ r o ⟨n,m⟩;refine nw (id T) ?_;rintro⟨w,l,k,j⟩ e d ⟨M,i⟩;simp only at o m d i;subst o m d i
  exact concat_meets (cb _ r rfl) (cb _ e rfl) noFill_tuple_add seq_tuple_add PySem.F.slot_tuple_add PySem.F.entry_tuple_add (PySem.F.args_tuple_add_2 _ _)
   (tuple_addW0 a b g.toArray c.toArray n M R l P j (by simp[J])) ⟨r,(nE e (.ref b) H I rfl (O rfl))⟩
 ·exact Dn f s Z H _ _ v u Q I q C (nD a b p U rfl rfl t A (lX hx G (λz=>absurd z L) λ_=>S hx))
structure Nx(it l:zW)(st:Nat->yA->Prop)(src:zG->yA->Prop):Prop where
 item:∀{prog:yB}{w:yD}{A:zZ}{E:zA}{s:zY}{k:Nat}{xs:zG}{x:zX}{Q:zA},st k s.heap->src xs s.heap->xs[k]?=some x->
  (∀h',st (k+1) h'->Heap.SameBut it s.heap h'->Q x {s with heap:=h'})->wpAny (model prog w) A (Builtin.SmallTypes.nextOf (.ref it)) Q E s
 fin:∀{prog:yB}{w:yD}{A:zZ}{E:zA}{s:zY}{k:Nat}{xs:zG}{Q:zA},A.handled=none->st k s.heap->src xs s.heap->xs[k]?=none->
  (∀h' e,Heap.ExtBut it s.heap h'->(∃o,h'.get? e=some o/\o.cls=.type "StopIteration")->E (.ref e) {s with heap:=h'})->wpAny (model prog w) A (Builtin.SmallTypes.nextOf (.ref it)) Q E s
 mv:∀{k:Nat}{h h':yA},st k h->(∀o,h.get? it=some o->h'.get? it=some o)->st k h'
 mvS:∀{xs:zG}{h h':yA},src xs h->(∀o,h.get? l=some o->h'.get? l=some o)->src xs h'
 ob:∀{k:Nat}{h:yA},st k h->∃o,h.get? it=some o/\∀v,o.data≠.cell v
theorem vj(it l:zW):Nx it l (λk h=>h.IsListIter it l k) (λxs h=>h.IsList l xs) where
 item:=wpAny_nextOf_list_item
 fin:=wpAny_nextOf_list_end
 mv:=λx e=>x.at e
 mvS:=λx e=>x.at e
 ob:=λ⟨o,e,_,d⟩=>(cb o e λv z=>by rw[d]at z;cases z)
def D3d(h:zW)(g:yA):Prop:=∃b a,g.get? h=some b/\b.data=.fields a/\a[2]?=some .none
theorem D3d.at{g:yA}(k:D3d h g)(f:∀o,g.get? h=some o->g'.get? h=some o):D3d h g':=let⟨oh,vs,e,d,z⟩:=k;(dV oh vs (f _ e) d z)
abbrev HdA(e:zO):zZ->Prop:=λA=>A.handled=e.map Value.ref
def HdF(e:zO)(fp:zQ)(g:yA):Prop:=∀h,e=some h->D3d h g/\∀c∈fp,h≠c
theorem HdF.at{g:yA}(k:HdF e fp g)(f:∀h o,(∀c∈fp,h≠c)->g.get? h=some o->g'.get? h=some o){c:zW}(b:c∈fp):HdF e [c] g':=λh z=>⟨(k h z).1.at λo q=>f h o (k h z).2 q,λd a=>by rw[mn.mp a];exact(k h z).2 c b⟩
section
variable{A:zZ}
theorem Os:entryFor table "proto.unchain"=some Builtin.«proto.unchain»:=entryFor_of_fast (by kernel_rfl)
theorem NY{e:zX}{a:Obj}{Q:zA}(b:s.heap.get? h=some a)(d:a.data=.fields vs)(h2:vs[2]?=some .none)(c:Q .none s):
  wpAny (model prog w) A (runValue (.builtin "proto.unchain" ⟨[e,.ref h,.ref h,.bool false],[]⟩)) Q E s:=by
 refine runValue_entry Os ?_;show wpAny _ _ (field (.ref h) 2>>=_) _ _ s;refine cz (nV b d h2 ?_);exact ff (cb _ rfl c)
theorem Gc{e:zW}{c b:Obj}{es:zG}{Q:α->zY->Prop}(g:A.handled=some (.ref h))(d:h≠e)(i:s.heap.get? h=some c)(j:c.data=.fields vs)(h2:vs[2]?=some .none)(k:s.heap.get? e=some b)(a:b.data=.fields es)(f:2<es.size)
  (l:E (.ref e) {s with heap:=s.heap.update e (Obj.mapFields (·.setIfInBounds 2 (.ref h)))}):wpAny (model prog w) A (raiseNew (.ref e)) Q E s:=by
 simp only [raiseNew];refine cz (wpAny_handled ?_);rw[g];have m:(Value.ref h != Value.ref e)=true:=by simpa using d
 dsimp only;rw[eH m];refine cz (qC (NY i j h2 ?_));refine cz (vb (x:=.ref h) k a f (wpAny_throw l))
theorem CI{Q:α->zY->Prop}(g:HdA e A)(j:HdF e [it] s.heap)(f:Heap.ExtBut it s.heap s1.heap)
  (i:∀h' a,Heap.ExtBut it s.heap h'->(∃o,h'.get? a=some o/\o.cls=.type "StopIteration")->E (.ref a) {s1 with heap:=h'}):wpAny (model prog w) A (newExc (.type "StopIteration") []>>=λx=>(raiseNew x:Sem α)) Q E s1:=by
 refine cz ?_;simp only [newExc,newTuple];refine cz (tJ ?_ (by size_fits));refine cz (m:=firstArgMember _ _) (wpAny_of_eq (a:=Value.none) (by first|rfl|(simp only [firstArgMember];rfl)) ?_);refine tJ ?_ (by size_fits)
 cases e with
 |none=>simp only [raiseNew];refine cz (wpAny_handled ?_);rw[show A.handled=none from g];exact cz (ff (wpAny_throw (i _ _ ((f.push _).push _) (cb _ (nc _ rfl) rfl))))
 |some h=>
  obtain⟨⟨t,u,k,p,r⟩,n⟩:=j h rfl;have c:=f h t (n it (.head _)) k;refine Gc (h:=h) g ?_ (gc _ (gc _ c)) p r (nc _ rfl) rfl (by simp;lia) ?_
  ·exact mG (by rw[rW];exact Nat.lt_succ_of_lt (lI c))
  refine i _ _ (λb o l q=>?_) (cb _ (vc _ (nc _ rfl) rfl) rfl);have d:=f b o l q;exact(uG _ _ (pP (by rw[rW];exact Nat.lt_succ_of_lt (lI d)))).trans (gc _ (gc _ d))
theorem Dw{k:Nat}(i:HdA e A)(m:HdF e [it] s.heap)(hi:s.heap.IsListIter it l k)(g:s.heap.IsList l xs)(j:xs[k]?=none)
  (n:∀h' a,Heap.ExtBut it s.heap h'->(∃o,h'.get? a=some o/\o.cls=.type "StopIteration")->E (.ref a) {s with heap:=h'}):wpAny (model prog w) A (callSpecial? (.ref it) (Str.ofString "__next__")) (λ_ _=>False) E s:=by
 obtain⟨o,c,r,d⟩:=id hi;refine nw g ?_;clear g;rintro p f _ ⟨q,b⟩;refine tI (name:=Str.ofString "__next__") hi.typeIs slot_listiter_next (tH slot_listiter_next hi.typeIs entry_listiter_next ?_ (args_listiter_next _));show wpAny _ _ (field (.ref it) 0>>=_) _ _ s;refine cz (nV c d (x:=.ref l) rfl ?_);show wpAny _ _ (if (Value.ref l==Value.none)=true then _ else _) _ _ s;rw[fa (show¬((Value.ref l==Value.none)=true) from nA)];show wpAny _ _ (field (.ref it) 1>>=_) _ _ s;refine cz (nV c d (x:=.int k 0) rfl ?_);show wpAny _ _ (seqItems? (.ref l)>>=_) _ _ s;refine cz (rG f b ?_);simp only [Int.toNat_natCast,j];exact cz (wpAny_rule (cz (vb c d (by simp) (CI i m (Heap.SameBut.update (a:=it) (h:=s.heap) (Obj.mapFields (·.setIfInBounds 0 .none))).extBut n))))
theorem yx{k:Nat}(i:HdA e A)(m:HdF e [it] s.heap)(hi:s.heap.IsTupleIter it l k)(g:s.heap.IsTuple l xs)(j:xs[k]?=none)
  (n:∀h' a,Heap.ExtBut it s.heap h'->(∃o,h'.get? a=some o/\o.cls=.type "StopIteration")->E (.ref a) {s with heap:=h'}):wpAny (model prog w) A (callSpecial? (.ref it) (Str.ofString "__next__")) (λ_ _=>False) E s:=by
 obtain⟨o,c,r,d⟩:=id hi;refine nw g ?_;clear g;rintro p f _ ⟨q,b⟩;refine tI (name:=Str.ofString "__next__") hi.typeIs F.slot_tuple_iterator_next (tH F.slot_tuple_iterator_next hi.typeIs F.entry_tuple_iterator_next ?_ (F.args_tuple_iterator_next_1 _));show wpAny _ _ (field (.ref it) 0>>=_) _ _ s;refine cz (nV c d (x:=.ref l) rfl ?_);show wpAny _ _ (if (Value.ref l==Value.none)=true then _ else _) _ _ s;rw[fa (show¬((Value.ref l==Value.none)=true) from nA)];show wpAny _ _ (field (.ref it) 1>>=_) _ _ s;refine cz (nV c d (x:=.int k 0) rfl ?_);show wpAny _ _ (seqItems? (.ref l)>>=_) _ _ s;refine cz (rG f b ?_);simp only [Int.toNat_natCast,j];exact cz (wpAny_rule (cz (vb c d (by simp) (CI i m (Heap.SameBut.update (a:=it) (h:=s.heap) (Obj.mapFields (·.setIfInBounds 0 .none))).extBut n))))
theorem AS{x:zX}{Q:zA}(h:wpAny (model prog w) A (callSpecial? x (Str.ofString "__next__")) (λ_ _=>False) E s):wpAny (model prog w) A (Builtin.SmallTypes.nextOf x) Q E s:=by unfold Builtin.SmallTypes.nextOf;exact cz (oj h (λ_ _ z=>z.elim) λ_ _ z=>z)
theorem AX(f:∀h',Heap.ExtBut it s.heap h'->Q none {s with heap:=h'})
  (h:∀E:zA,(∀h' a,Heap.ExtBut it s.heap h'->(∃o,h'.get? a=some o/\o.cls=.type "StopIteration")->E (.ref a) {s with heap:=h'})->wpAny (model prog w) A (callSpecial? (.ref it) (Str.ofString "__next__")) (λ_ _=>False) E s):wpAny (model prog w) A (pyNext (.ref it)) Q E s:=by
 unfold pyNext;refine cz (wpAny_attempt (oj (h (λv d=>∃h' a,v=.ref a/\d={s with heap:=h'}/\Heap.ExtBut it s.heap h'/\∃o,h'.get? a=some o/\o.cls=.type "StopIteration") λh' a k o=>(lQ h' a rfl rfl k o)) (λ_ _ z=>z.elim) ?_))
 rintro v d c;refine lS c ?_;clear c;rintro h' a rfl rfl k ⟨o,e,g⟩;exact cz (wpAny_isInstance (T:="StopIteration") (b:=true) (cb o e g) isSubtype_stop (ff (f _ k)))
theorem O5{k:Nat}{x:zX}{Q:zA}(hi:s.heap.IsTupleIter it l k)(e:s.heap.IsTuple l xs)(f:xs[k]?=some x)
  (g:∀h',h'.IsTupleIter it l (k+1)->Heap.SameBut it s.heap h'->Q x {s with heap:=h'}):wpAny (model prog w) A (Builtin.SmallTypes.nextOf (.ref it)) Q E s:=by
 obtain⟨o,b,h,a⟩:=id hi;refine nw e ?_;clear e;rintro i d _ ⟨j,c⟩;unfold Builtin.SmallTypes.nextOf;refine cz (tI (name:=Str.ofString "__next__") hi.typeIs F.slot_tuple_iterator_next (tH F.slot_tuple_iterator_next hi.typeIs F.entry_tuple_iterator_next ?_ (F.args_tuple_iterator_next_1 _)));show wpAny _ _ (field (.ref it) 0>>=_) _ _ s;refine cz (nV b a (x:=.ref l) rfl ?_);show wpAny _ _ (if (Value.ref l==Value.none)=true then _ else _) _ _ s;rw[fa (show¬((Value.ref l==Value.none)=true) from nA)];show wpAny _ _ (field (.ref it) 1>>=_) _ _ s;refine cz (nV b a (x:=.int k 0) rfl ?_);show wpAny _ _ (seqItems? (.ref l)>>=_) _ _ s;refine cz (rG d c ?_);simp only [Int.toNat_natCast,f];refine cz (vb b a (by simp) (ff (cb x rfl (ff (g _ ?_ (Heap.SameBut.update ..))))));exact fx _ (vc _ b (Obj.isFreed_of_fields (Obj.data_mapFields a _))) ((Obj.cls_mapFields ..).trans h) (by rw[Obj.data_mapFields a];simp[rawInt])
theorem OW{k:Nat}{Q:zA}(c:A.handled=none)(hi:s.heap.IsTupleIter it l k)(b:s.heap.IsTuple l xs)(a:xs[k]?=none)
  (d:∀h' e,Heap.ExtBut it s.heap h'->(∃o,h'.get? e=some o/\o.cls=.type "StopIteration")->E (.ref e) {s with heap:=h'}):wpAny (model prog w) A (Builtin.SmallTypes.nextOf (.ref it)) Q E s :=
 AS (yx (e:=none) c (λ_ z=>nomatch z) hi b a d)
end
theorem vp(it l:zW):Nx it l (λk h=>h.IsTupleIter it l k) (λxs h=>h.IsTuple l xs) where
 item:=O5
 fin:=OW
 mv:=λ⟨o,e,r⟩ f=>(cb o (f _ e) r)
 mvS:=λ⟨o,e,r⟩ f=>(cb o (f _ e) r)
 ob:=λ⟨o,e,_,d⟩=>(cb o e λv z=>by rw[d]at z;cases z)
section
variable{TI TO:zW}{A:zZ}
theorem DX(N1:Nx i1 l1 st1 src1)(N2:Nx i2 l2 st2 src2){k1 k2:Nat}{x a:zX}(D:ZipApart z TI TO i1 i2 l1 l2)
  (g:IsZip s.heap z TI TO .none) (H:IsPair s.heap TI (.ref i1) (.ref i2)) (I:IsPair s.heap TO a b) (h1:st1 k1 s.heap) (h2:st2 k2 s.heap) (G:src1 xs s.heap) (u:src2 ys s.heap) (hx:xs[k1]?=some x) (W:ys[k2]?=some y)
  (hQ:∀h',IsZip h' z TI TO (rawInt s.heap.objs.size)->IsPair h' TO x y->st1 (k1+1) h'->st2 (k2+1) h'->IsPair h' s.heap.objs.size x y->
   (∀c o,c≠z->c≠TO->c≠i1->c≠i2->s.heap.get? c=some o->h'.get? c=some o)->Q (some (.ref s.heap.objs.size)) {s with heap:=h'}):wpAny (model prog w) A (pyNext (.ref z)) Q E s:=by
 have L:s.TypeIs (.ref z) "zip":=(cb _ g rfl);unfold pyNext;refine cz (wpAny_attempt (tI (name:=Str.ofString "__next__") L F.slot_zip_next (tH F.slot_zip_next L F.entry_zip_next ?_ (F.args_zip_next_1 _))));show wpAny _ _ (field (.ref z) 2>>=_) _ _ _;refine cz (nV g rfl (x:=.bool false) rfl ?_);show wpAny _ _ (field (.ref z) 3>>=_) _ _ _;refine cz (nV g rfl (x:=.ref TI) rfl ?_);refine cz (rG H rfl ?_);show wpAny _ _ (Builtin.SmallTypes.ownedTupleIsFree (.ref z)>>=_) _ _ _;refine cz ?_;unfold Builtin.SmallTypes.ownedTupleIsFree;refine cz (nV g rfl (x:=.none) rfl (ff ?_));simp only [if_true];refine cz (wpAny_rule ?_);refine cz (nV g rfl (x:=.ref TO) rfl ?_);refine cz (vd g (by simp) λX J f=>?_)
 replace J:IsZip X z TI TO .ellipsis:=J
 refine cz ?_;simp only [List.zipIdx_cons,List.zipIdx_nil,List.forIn_cons,List.forIn_nil];refine cz (cz (wpAny_onRaise ?_));show wpAny _ _ (Builtin.SmallTypes.nextOf (.ref i1)>>=_) _ _ _;refine cz (N1.item (N1.mv h1 λo e=>f.extBut _ _ D.i1z e) (N1.mvS G λo e=>f.extBut _ _ D.l1z e) hx λT t2 h=>ff ?_);have R:IsPair T TO a b:=h.extBut _ _ D.TOi1 (f.extBut _ _ D.TOz I);refine cz (rG R rfl ?_);refine cz (wpAny_updateSeq_pair R λg3 v i=>?_)
 replace v:IsPair g3 TO x b:=v
 refine cz (wpAny_letGo (ff ?_));refine cz (cz (wpAny_onRaise ?_));show wpAny _ _ (Builtin.SmallTypes.nextOf (.ref i2)>>=_) _ _ _;refine cz (N2.item (N2.mv h2 λo e=>i.extBut _ _ D.TOi2.symm (h.extBut _ _ D.i12.symm (f.extBut _ _ D.i2z e))) (N2.mvS u λo e=>i.extBut _ _ D.l2TO (h.extBut _ _ D.l2i1 (f.extBut _ _ D.l2z e))) W λU t4 m=>ff ?_);have S:IsPair U TO x b:=m.extBut _ _ D.TOi2 v;refine cz (rG S rfl ?_);refine cz (wpAny_updateSeq_pair S λg5 q k=>?_)
 replace q:IsPair g5 TO x y:=q
 refine cz (wpAny_letGo (ff (ff ?_)));refine cz (rG q rfl ?_);refine cz (wpAny_newTuple ?_);have l:g5.objs.size=s.heap.objs.size:=by rw[k.1,m.1,i.1,h.1,f.1]
 have P:IsZip g5 z TI TO .ellipsis:=k.extBut _ _ D.TOz.symm (m.extBut _ _ D.i2z.symm (i.extBut _ _ D.TOz.symm (h.extBut _ _ D.i1z.symm J)));have Z:∀c o,c≠z->c≠TO->c≠i1->c≠i2->s.heap.get? c=some o->g5.get? c=some o:=λc o d p K C e=>k.extBut _ _ p (m.extBut _ _ C (i.extBut _ _ p (h.extBut _ _ K (f.extBut _ _ d e))));have s1:st1 (k1+1) g5:=N1.mv t2 λo e=>k.extBut _ _ D.TOi1.symm (m.extBut _ _ D.i12 (i.extBut _ _ D.TOi1.symm e));have s2:st2 (k2+1) g5:=N2.mv t4 λo e=>k.extBut _ _ D.TOi2.symm e;have j:z<g5.objs.size:=lI P;show wpAny _ _ (Builtin.SmallTypes.ownedTupleHandOut (.ref z) (.ref g5.objs.size)>>=_) _ _ _;refine cz ?_;unfold Builtin.SmallTypes.ownedTupleHandOut;have z6:IsZip (g5.push {cls:=.type "tuple",data:=.seq #[x,y]}) z TI TO .ellipsis:=gc _ P;refine cz (vd z6 (by simp) λY B M=>?_)
 replace B:IsZip Y z TI TO (rawInt g5.objs.size):=B
 refine vd B (by simp) λn r O=>?_
 replace r:IsZip n z TI TO (rawInt g5.objs.size):=r
 have t:∀c o,c≠z->g5.get? c=some o->n.get? c=some o:=λc o d e=>O.extBut _ _ d (M.extBut _ _ d (gc _ e));have N:IsPair n g5.objs.size x y:=O.extBut _ _ (pP j) (M.extBut _ _ (pP j) (nc _ rfl));rw[l]at r N;refine ff (cb _ rfl (ff ?_));show Q (some (.ref g5.objs.size)) _;rw[l];exact hQ n r (t _ _ D.TOz q) (N1.mv s1 λo e=>t _ o D.i1z e) (N2.mv s2 λo e=>t _ o D.i2z e) N λc o d p K C e=>t c o d (Z c o d p K C e)
end
theorem Inv.turnedNew(I:Inv X pins Z H s)(k:∀b u,b∉ts->s.heap.get? b=some u->h'.get? b=some u)(f:∀b∈ts,qr X pins H b)(p:s.heap.objs.size<=a)
  (i:A1p X.prog X.w (upd H a o) h' a o):Inv X pins Z (upd H a o) {s with heap:=h',toks:=t'}:=by
 have l:∀b u,H b=some u->b∉ts:=λb u e z=>by have:=(f b z).1;rw[e]at this;cases this
 have y:∀b u,s.heap.get? b=some u->b≠a:=λb u e=>mG (oV (lI e) p);have h:H a=none:=I.hok.fresh p
 refine I.step (g':=s.gens) (d':=s.drawn) (ch:=ts) (λb g=>(lX ((f b g).2.2.2.1) ((f b g).2.1) ((f b g).2.2.2.2.1) ((f b g).2.2.2.2.2))) (λb u _ _ d e _=>k b u d e) (λb u _ _ d e _=>⟨u.slots,k b u d e⟩)
  (λb u _ e n=>by rw[eh (y b u e)];exact n) (λb u d e=>⟨u,k b u d e⟩) (λb x e=>by rw[eh (lO e h)];exact e) (λb u x e=>by rw[eh (lO e h)];exact e)
  (λb D e=>⟨#[],by rw[eh (lO e h),e];simp⟩) (λm j=>?_) (λb u e=>?_) I.bare
 ·refine mF j ?_;clear j;rintro t C A ⟨B,r⟩;exact pb t C A (k _ t (λz=>(f _ z).2.1 rfl) B) r
 ·by_cases g:b=a
  ·subst g;rw[cp]at e;cases e;exact i
  ·rw[eh g]at e;refine(I.hok b u e).stay (λc v d q=>k c v ?_ q) (λc q=>by rw[eh (lO q h)];exact q) λc x q=>by rw[eh (lO q h)];exact q
   rcases d with rfl|d
   ·exact l _ _ e
   ·exact l _ _ d
theorem Inv.turnedL(I:Inv X pins Z H s)(k:∀b u,b∉ts->s.heap.get? b=some u->h'.get? b=some u)(f:∀b∈ts,qr X pins H b):Inv X pins Z H {s with heap:=h',toks:=t'}:=by
 have h:∀b u,H b=some u->b∉ts:=λb u e z=>by have:=(f b z).1;rw[e]at this;cases this
 refine I.step (g':=s.gens) (d':=s.drawn) (ch:=ts) (λb d=>(lX ((f b d).2.2.2.1) ((f b d).2.1) ((f b d).2.2.2.2.1) ((f b d).2.2.2.2.2))) (λb u _ _ a e _=>k b u a e) (λb u _ _ a e _=>⟨u.slots,k b u a e⟩)
  (λb u _ e n=>n) (λb u a e=>⟨u,k b u a e⟩) (λb j e=>e) (λb u j e=>e) (λb t e=>⟨#[],by rw[e];simp⟩) (λm g=>?_) (λb u e=>?_) I.bare
 ·refine mF g ?_;clear g;rintro i p l ⟨o,r⟩;exact pb i p l (k _ i (λz=>(f _ z).2.1 rfl) o) r
 ·refine(I.hok b u e).stay (λc v a q=>k c v ?_ q) (λc q=>q) λc j q=>q;rcases a with rfl|a
  ·exact h _ _ e
  ·exact h _ _ a
def SqK(k:Bool)(K:Frag)(H:Hp)(a:zW)(xs:zM):Prop:=match k with|true=>SqL K H a xs|false=>SqT K H a xs
def SrK(k:Bool)(h:yA)(l:zW)(xs:zG):Prop:=match k with|true=>h.IsList l xs|false=>h.IsTuple l xs
def StK(k:Bool)(it l:zW)(i:Nat)(h:yA):Prop:=match k with|true=>h.IsListIter it l i|false=>h.IsTupleIter it l i
abbrev itK(k:Bool):String:=match k with|true=>"list_iterator" |false=>"tuple_iterator"
theorem nxK:∀(k:Bool)(it l:zW),Nx it l (λi h=>StK k it l i h) (λxs h=>SrK k h l xs)|true=>vj|false=>vp
theorem uM{X:Cx}{pins:zD}{Z:St}{H:Hp}{s:zY}{a:zW}{xs:zM}(I:Inv X pins Z H s):∀{k:Bool},SqK k X.K H a xs->∃its:zH,A2m xs its/\SrK k s.heap a its.toArray|true,h=>let⟨its,rv,p,_⟩:=I.list h;(cb its rv p.isList)|false,h=>let⟨its,rv,p,_⟩:=I.tuple h;(cb its rv p)
theorem Ci{X:Cx}{pins:zD}{Z:St}{H:Hp}{s:zY}{a:zW}{xs ys:zM}(I:Inv X pins Z H s):∀{k:Bool},SqK k X.K H a xs->SqK k X.K H a ys->xs=ys|true,h,g=>I.list_inj h g|false,h,g=>I.tuple_inj h g
theorem ltK{h:yA}{l:zW}{xs:zG}:∀{k:Bool},SrK k h l xs->l<h.objs.size|true,⟨_,e,_⟩=>lI e|false,⟨_,e,_⟩=>lI e
theorem Cu{prog:yB}{w:yD}{A:zZ}{E:zA}{s:zY}{l:zW}{xs:zG}{Q:zA}:∀{k:Bool},SrK k s.heap l xs->Q (.ref s.heap.objs.size) {s with heap:=s.heap.push {cls:=.type (itK k),data:=.fields #[.ref l,.int 0 0]}}->wpAny (model prog w) A (pyIter (.ref l)) Q E s|true,h,q=>wpAny_pyIter_list h q|false,h,q=>wpAny_pyIter_tuple h q
theorem Cg{h:yA}{it l:zW}:∀{k:Bool},h.get? it=some {cls:=.type (itK k),data:=.fields #[.ref l,.int 0 0]}->StK k it l 0 h|true,e=>(fx _ e rfl rfl)|false,e=>(fx _ e rfl rfl)
def Itk(k1 k2:Bool)(K:Frag)(a b:zW):It :=
 ⟨λi H=>∃d c x y,SqK k1 K H a d/\SqK k2 K H b c/\d[i]?=some x/\c[i]?=some y,
  λi H v e=>∃p,H p=none/\v=.ref p/\∃x y,(∀d,SqK k1 K H a d->d[i]?=some x)/\(∀c,SqK k2 K H b c->c[i]?=some y)/\e=upd H p (.tup [x,y]),
  λi H=>∃d c,SqK k1 K H a d/\SqK k2 K H b c/\(d.length<=i\/c.length<=i)⟩
def AD(k1 k2:Bool)(z TI TO i1 i2 a b:zW)(i:Nat)(h:yA):Prop:=IsZip h z TI TO .none/\IsPair h TI (.ref i1) (.ref i2)/\(∃u v,IsPair h TO u v)/\StK k1 i1 a i h/\StK k2 i2 b i h
section
variable{A:zZ}
theorem B8{a:Bool}{k:Nat}{Q:zA}(f:HdA e A)(c:HdF e [it] s.heap)(hi:StK a it l k s.heap)(d:SrK a s.heap l xs)(b:xs[k]?=none)
  (g:∀h' e,Heap.ExtBut it s.heap h'->(∃o,h'.get? e=some o/\o.cls=.type "StopIteration")->E (.ref e) {s with heap:=h'}):wpAny (model prog w) A (Builtin.SmallTypes.nextOf (.ref it)) Q E s:=by
 cases a with
 |true=>exact AS (Dw f c hi d b g)
 |false=>exact AS (yx f c hi d b g)
end
section
variable{TI TO:zW}{A:zZ}
theorem D8{k1 k2:Nat}{a:zX}(R:HdA e A)(r:HdF e [z,TI,TO,i1,i2] s.heap)(D:ZipApart z TI TO i1 i2 l1 l2)
  (k:IsZip s.heap z TI TO .none) (H:IsPair s.heap TI (.ref i1) (.ref i2)) (I:IsPair s.heap TO a b) (h1:StK q1 i1 l1 k1 s.heap) (h2:StK q2 i2 l2 k2 s.heap) (G:SrK q1 s.heap l1 xs) (v:SrK q2 s.heap l2 ys) (p:xs[k1]?=none\/ys[k2]?=none)
  (hQ:∀h',(∀c o,c≠z->c≠TO->c≠i1->c≠i2->s.heap.get? c=some o->h'.get? c=some o)->Q none {s with heap:=h'}):wpAny (model prog w) A (pyNext (.ref z)) Q E s:=by
 have K:s.TypeIs (.ref z) "zip":=(cb _ k rfl);have N1:=nxK q1 i1 l1;have N2:=nxK q2 i2 l2;unfold pyNext
 have l:∀(h':yA)(e:zW),(∀c o,c≠z->c≠TO->c≠i1->c≠i2->s.heap.get? c=some o->h'.get? c=some o)->(∃o,h'.get? e=some o/\o.cls=.type "StopIteration")->
   wpAny (model prog w) A (isInstance (.ref e) (.type "StopIteration")>>=λb=>if b=true then pure none else throw (.ref e)) Q E {s with heap:=h'}:=λh' e r ⟨o,ho,hc⟩=>
  cz (wpAny_isInstance (T:="StopIteration") (b:=true) (cb o ho hc) isSubtype_stop (ff (hQ _ r)))
 refine cz (wpAny_attempt (tI (name:=Str.ofString "__next__") K F.slot_zip_next (tH F.slot_zip_next K F.entry_zip_next ?_ (F.args_zip_next_1 _))));show wpAny _ _ (field (.ref z) 2>>=_) _ _ _;refine cz (nV k rfl (x:=.bool false) rfl ?_);show wpAny _ _ (field (.ref z) 3>>=_) _ _ _;refine cz (nV k rfl (x:=.ref TI) rfl ?_);refine cz (rG H rfl ?_);show wpAny _ _ (Builtin.SmallTypes.ownedTupleIsFree (.ref z)>>=_) _ _ _;refine cz ?_;unfold Builtin.SmallTypes.ownedTupleIsFree;refine cz (nV k rfl (x:=.none) rfl (ff ?_));simp only [if_true];refine cz (wpAny_rule ?_);refine cz (nV k rfl (x:=.ref TO) rfl ?_);refine cz (vd k (by simp) λZ t i=>?_)
 replace t:IsZip Z z TI TO .ellipsis:=t
 refine cz ?_;simp only [List.zipIdx_cons,List.zipIdx_nil,List.forIn_cons,List.forIn_nil];refine cz (cz (wpAny_onRaise ?_));show wpAny _ _ (Builtin.SmallTypes.nextOf (.ref i1)>>=_) _ _ _;have O:=N1.mv h1 λo e=>i.extBut _ _ D.i1z e;have M:=N1.mvS G λo e=>i.extBut _ _ D.l1z e
 cases hx:xs[k1]? with
 |none=>
  refine cz (B8 R (r.at (λh o n q=>i.extBut _ _ (n z (by simp)) q) (by simp)) O M hx λu e g B=>?_);obtain⟨C,d,f⟩:=B;have N:IsZip u z TI TO .ellipsis:=g _ _ D.i1z.symm t;have y:e≠z:=λx=>by subst x;rw[N]at d;cases d;simp at f
  exact vd N (by simp) λP _ j=>l P e (λc o m _ J _ x=>j.extBut _ _ m (g _ _ J (i.extBut _ _ m x))) (cb C (j.extBut _ _ y d) f)
 |some x=>
  have Y:ys[k2]?=none:=by
   rcases p with h|h
   ·rw[hx]at h;cases h
   ·exact h
  refine cz (N1.item O M hx λu t2 g=>ff ?_);have U:IsPair u TO a b:=g.extBut _ _ D.TOi1 (i.extBut _ _ D.TOz I);refine cz (rG U rfl ?_);refine cz (wpAny_updateSeq_pair U λP p3 j=>?_);refine cz (wpAny_letGo (ff ?_));refine cz (cz (wpAny_onRaise ?_));show wpAny _ _ (Builtin.SmallTypes.nextOf (.ref i2)>>=_) _ _ _;refine cz (B8 R (r.at (λh o n q=>j.extBut _ _ (n TO (by simp)) (g.extBut _ _ (n i1 (by simp)) (i.extBut _ _ (n z (by simp)) q))) (by simp)) (N2.mv h2 λo e=>j.extBut _ _ D.TOi2.symm (g.extBut _ _ D.i12.symm (i.extBut _ _ D.i2z e))) (N2.mvS v λo e=>j.extBut _ _ D.l2TO (g.extBut _ _ D.l2i1 (i.extBut _ _ D.l2z e))) Y λX e S B=>?_);obtain⟨C,d,f⟩:=B;have W:IsZip X z TI TO .ellipsis:=S _ _ D.i2z.symm (j.extBut _ _ D.TOz.symm (g.extBut _ _ D.i1z.symm t));have y:e≠z:=λx=>by subst x;rw[W]at d;cases d;simp at f
  exact vd W (by simp) λg5 _ L=>l g5 e (λc o m c2 J c4 x=>L.extBut _ _ m (S _ _ c4 (j.extBut _ _ c2 (g.extBut _ _ J (i.extBut _ _ m x))))) (cb C (L.extBut _ _ y d) f)
end
def xcG(ea C:zW)(od:zO):yA->Prop:=λh=>∃o a,h.get? ea=some o/\o.cls=.ref C/\o.dict=od/\o.data=.fields a/\a[2]?=some .none
def HdO(e:zO)(H:Hp):Prop:=∀a,e=some a->∃C b,H a=some (.ext (xcG a C b))
theorem HdO.same(h:HdO e H)(s:∀b o,H b=some o->H' b=some o):HdO e H':=λa z=>let⟨C,od,q⟩:=h a z;(oi C od (s _ _ q))
theorem HdO.heap(h:HdO e H)(I:Inv X pins Z H s)(f:∀b∈fp,qr X pins H b):HdF e fp s.heap:=λa z=>by obtain⟨C,j,d⟩:=h a z;obtain⟨⟨o,g,k,_,_,i,l⟩,_,_⟩:=(show A1p X.prog X.w H s.heap a (.ext (xcG a C j)) from I.hok a _ d);exact⟨(dV o g k i l),λc m y=>by rw[y,(f c m).1]at d;cases d⟩
def ItO(e:zO)(J:It):It:=⟨J.go,J.yld,λi H=>J.stop i H/\HdO e H⟩
theorem EB{TI TO b:zW}(D:ZipApart z TI TO i1 i2 a b):
  A6j (HdA e) P w K (.Tuple elts kk pos) (ItO e (Itk k1 k2 K a b)) [z,TI,TO,i1,i2] z (AD k1 k2 z TI TO i1 i2 a b) where
 mem:=by simp
 obj:=λi h f c d=>by
  refine mM f ?_;clear f;rintro r m ⟨u,v,t⟩ n q;simp only [lY,qQ,or_false]at d;rcases d with rfl|rfl|rfl|rfl|rfl
  ·exact cb _ r λv z=>by cases(show Data.fields _=Data.cell v from z)
  ·exact cb _ m λv z=>by cases(show Data.seq _ _=Data.cell v from z)
  ·exact cb _ t λv z=>by cases(show Data.seq _ _=Data.cell v from z)
  ·exact(nxK k1 _ a).ob n
  ·exact(nxK k2 _ b).ob q
 keep:=λi h O f k=>by refine mM f ?_;clear f;rintro r m ⟨u,v,t⟩ n q;exact lP (k z (by simp) _ r) (k TI (by simp) _ m) (oi u v (k TO (by simp) _ t)) ((nxK k1 i1 a).mv n λo e=>k i1 (by simp) o e) ((nxK k2 i2 b).mv q λo e=>k i2 (by simp) o e)
 item:=by
  intro X R N U d i p s Z H E I F f J;subst R N U;refine ou J λxs ys x y l j W hy=>?_;clear J;obtain⟨a0,Q,L⟩:=uM I l;obtain⟨C,A,p2⟩:=uM I j;obtain⟨u,hu,ru⟩:=Q.get W;obtain⟨u2,M,S⟩:=A.get hy;refine mM f ?_;clear f;rintro r m ⟨o1,o2,t⟩ n q;refine DX (nxK k1 i1 a) (nxK k2 i2 b) D r m t n q L p2 (x:=u) (by simpa using hu) (y:=u2) (by simpa using M) λO z1 z2 z3 z4 z5 G=>?_;refine cb _ rfl (wpAny_letOwnedTupleGo_zip (s:={s with heap:=O}) z1 λg zg B=>?_)
  have nz:s.heap.objs.size≠z:=pP (lI r);have n2:TI<s.heap.objs.size:=lI m;have n3:TO<s.heap.objs.size:=lI t;have n4:i1<s.heap.objs.size:=let⟨_,e,_⟩:=(nxK k1 i1 a).ob n;lI e;have n5:i2<s.heap.objs.size:=let⟨_,e,_⟩:=(nxK k2 i2 b).ob q;lI e;have zq:IsPair g s.heap.objs.size u u2:=B.extBut _ _ nz z5
  have I1:Inv X p Z (upd H s.heap.objs.size (.tup [x,y])) {s with heap:=g,toks:=s.toks}:=I.turnedNew (ts:=[z,TI,TO,i1,i2]) (λc o d e=>by
   simp only [lY,qQ,or_false,not_or]at d
   exact B.extBut _ _ d.1 (G c o d.1 d.2.2.1 d.2.2.2.1 d.2.2.2.2 e)) F (fy _) (kB (by show 2<=sizeLine;decide) [u,u2] (.cons ru (.cons S .nil)) (sM _ zq rfl _ rfl))
  refine⟨.ref s.heap.objs.size,_,I1,rfl,(cb _ (I.hok.fresh (fy _)) (nE rfl x y (λzs T=>by rw[Ci I T l];exact W) (λzs T=>by rw[Ci I T j];exact hy) rfl)),
   (lP zg (B.extBut _ _ D.TIz (G _ _ D.TIz D.TITO D.TIi1 D.TIi2 m)) (oi _ _ (B.extBut _ _ D.TOz z2)) ((nxK k1 i1 a).mv z3 λo e=>B.extBut _ _ D.i1z e) ((nxK k2 i2 b).mv z4 λo e=>B.extBut _ _ D.i2z e)),λc d=>?_⟩
  have Y:c≠s.heap.objs.size:=by
   simp only [lY,qQ,or_false]at d;rcases d with rfl|rfl|rfl|rfl|rfl
   ·exact nz.symm
   ·exact mG n2
   ·exact mG n3
   ·exact mG n4
   ·exact mG n5
  rw[eh Y];exact(F c d).1
 done:=by
  intro X R N U d i p s Z H E I F f J;subst R N U;obtain⟨⟨xs,ys,l,j,W⟩,hO⟩:=J;have hF:=hO.heap I F;obtain⟨a0,Q,L⟩:=uM I l;obtain⟨C,A,p2⟩:=uM I j;have e1:=Q.length;have e2:=A.length;refine mM f ?_;clear f;rintro r m ⟨o1,o2,t⟩ n q;refine D8 d hF D r m t n q L p2 (by simp;lia) λO G=>⟨rfl,?_⟩
  exact I.turnedL (t':=s.toks) (ts:=[z,TI,TO,i1,i2]) (λc o d e=>by
   simp only [lY,qQ,or_false,not_or]at d
   exact G c o d.1 d.2.2.1 d.2.2.2.1 d.2.2.2.2 e) F
 self:=λ_ _ _ _ _ f h=>wpAny_pyIter_zip f.1 h
theorem C6m.of(T:A6j (HdA none) P w K tg (ItO none J) fp it tn):C6m P w K tg J fp it tn:=⟨T.mem,T.obj,T.keep,T.item,λX a b c d i e s Z H E I f g q=>T.done X a b c d i e s Z H E I f g ⟨q,λ_ z=>nomatch z⟩,T.self⟩
theorem LE{c:Nat}{TI TO b:zW}(D:ZipApart z TI TO i1 i2 a b):
  C6m P w K (.Tuple elts c pos) (Itk k1 k2 K a b) [z,TI,TO,i1,i2] z (AD k1 k2 z TI TO i1 i2 a b):=
 C6m.of (EB D)
abbrev xQ(k1:Bool)(h:yA)(l1:zW):yA:=h.push {cls:=.type (itK k1),data:=.fields #[.ref l1,.int 0 0]}
abbrev xR(k1 k2:Bool)(h:yA)(l1 l2:zW):yA:=(xQ k1 h l1).push {cls:=.type (itK k2),data:=.fields #[.ref l2,.int 0 0]}
noncomputable abbrev xN(k1 k2:Bool)(h:yA)(l1 l2:zW):yA:=(xR k1 k2 h l1 l2).push {cls:=.type "tuple",data:=.seq #[.ref h.objs.size,.ref (xQ k1 h l1).objs.size]}
noncomputable abbrev xO(k1 k2:Bool)(h:yA)(l1 l2:zW):yA:=(xN k1 k2 h l1 l2).push {cls:=.type "tuple",data:=.seq #[.none,.none]}
noncomputable abbrev vF(k1 k2:Bool)(h:yA)(l1 l2:zW):yA:=(xO k1 k2 h l1 l2).push {cls:=.type "zip",data:=.fields #[.none,.bool false,.bool false,.ref (xR k1 k2 h l1 l2).objs.size,.ref (xN k1 k2 h l1 l2).objs.size]}
theorem MV(k1 k2:Bool)(l1 l2:zW)(xs ys:zG):Meets (Builtin.«zip.__new__» ⟨[.type "zip",.ref l1,.ref l2],[]⟩) (λ_ R s=>SrK k1 s.heap l1 xs/\SrK k2 s.heap l2 ys/\
  R (.ok (.ret (.ref (xO k1 k2 s.heap l1 l2).objs.size))) {s with heap:=vF k1 k2 s.heap l1 l2}):=
 .of_wp λi w A R s h=>by
  obtain⟨m,g,d,l,j⟩:=s;obtain⟨b,a,h⟩:=h;have k:=sub_zip;have c:SrK k1 (Shared.heap ⟨m,g,d,l,j⟩) l1 xs:=b;have f:SrK k2 (Shared.heap ⟨m.push {cls:=.type (itK k1),data:=.fields #[.ref l1,.int 0 0]},g,d,l,j⟩) l2 ys:=(nxK k2 0 l2).mvS a λo e=>gc _ e
  wp_walk using Cu c,Cu f
  exact cb _ rfl h
theorem By{k1 k2:Bool}{prog:yB}{w:yD}{A:zZ}{E:zA}{s:zY}{l1 l2:zW}{xs ys:zG}{Q:zA}(f:SrK k1 s.heap l1 xs)(d:SrK k2 s.heap l2 ys)
  (h:∀h',AD k1 k2 (s.heap.objs.size+4) (s.heap.objs.size+2) (s.heap.objs.size+3) s.heap.objs.size (s.heap.objs.size+1) l1 l2 0 h'->(∀c o,s.heap.get? c=some o->h'.get? c=some o)->Q (.ref (s.heap.objs.size+4)) {s with heap:=h'}):
  wpAny (model prog w) A (call (.type "zip") [.ref l1,.ref l2]) Q E s:=by
 refine callType_new F.called_zip (by decide) (F.typeCall_zip_2 _ _) (F.newCall_zip_2 _ _) (λb=>F.args_object_init_3 b _ _) F.entry_zip_new (MV k1 k2 l1 l2 xs ys) (fI f d ?_);have e:(xQ k1 s.heap l1).objs.size=s.heap.objs.size+1:=rW ..;have g:(xR k1 k2 s.heap l1 l2).objs.size=s.heap.objs.size+2:=by rw[rW,e]
 have i:(xN k1 k2 s.heap l1 l2).objs.size=s.heap.objs.size+3:=by rw[rW,g]
 have l:(xO k1 k2 s.heap l1 l2).objs.size=s.heap.objs.size+4:=by rw[rW,i]
 have a:(vF k1 k2 s.heap l1 l2).get? (xO k1 k2 s.heap l1 l2).objs.size=some _:=nc _ rfl;have k:(vF k1 k2 s.heap l1 l2).get? (xN k1 k2 s.heap l1 l2).objs.size=some _:=gc _ (nc _ rfl);have m:(vF k1 k2 s.heap l1 l2).get? (xR k1 k2 s.heap l1 l2).objs.size=some _:=gc _ (gc _ (nc _ rfl));have j:(vF k1 k2 s.heap l1 l2).get? (xQ k1 s.heap l1).objs.size=some _:=gc _ (gc _ (gc _ (nc _ rfl)));have n:(vF k1 k2 s.heap l1 l2).get? s.heap.objs.size=some _:=gc _ (gc _ (gc _ (gc _ (nc _ rfl))));show _/\_;rw[g,i,l]at a;rw[e,g]at m;rw[i]at k;rw[e]at j;rw[l];exact⟨(cb _ a rfl),h _ (lP a m (oi _ _ k) (Cg n) (Cg j)) λc o x=>gc _ (gc _ (gc _ (gc _ (gc _ x))))⟩
def Hi(k1 k2:Bool)(K:Frag)(ta:TA):TI:=λZ H R=>ta Z H λd c=>∃a b f e,d=[.ref a,.ref b]/\SqK k1 K c a f/\SqK k2 K c b e/\R (Itk k1 k2 K a b) c
theorem Dv{k1 k2:Bool}{X:Cx}{elts:zT}{O:Nat}{tpos:Pos}{a b:yC}{ta:TA}{p pos:Pos}(A:Gl X "zip")(x:X.mg "zip"=none)(C:PA X [a,b] ta)(hs:starEach [a,b] X.env=[(false,eval a X.env),(false,eval b X.env)]:=by rfl)(g:starEach [b] X.env=[(false,eval b X.env)]:=by rfl):
  PI X (.Tuple elts O tpos) (.Call (.Name "zip" p) [a,b] [] pos) (Hi k1 k2 X.K ta):=by
 intro f s Z H R I h;refine Call_ (tf I A x boot_zip (PyProof.Rows.callWith_type1 (thn (C pos f s Z H _ I h) λS d ⟨T,t,I1,L,v⟩=>?_) (by rw[hs,g]) (by rw[g];rfl)));refine ou v λB D P U e k j q=>?_;clear v;subst e;refine ei (uR L) ?_;rintro u W rfl M l;cases M;cases l;obtain⟨J,Q,m⟩:=uM I1 k;obtain⟨n,N,w⟩:=uM I1 j;have F:B<d.heap.objs.size:=ltK m;have G:D<d.heap.objs.size:=ltK w;refine By m w λy o z=>wpAny_pyIter_zip o.1 ?_;have I2:Inv X f Z t {d with heap:=y}:=I1.kept (t':=d.toks) z;refine nL _ [d.heap.objs.size+4,d.heap.objs.size+2,d.heap.objs.size+3,d.heap.objs.size,d.heap.objs.size+1] _ _ t rfl I2 (LE (zipApart_new F G)) o (λc r=>?_) q
 have i:d.heap.objs.size<=c:=by
  simp only [lY,qQ,or_false]at r;rcases r with rfl|rfl|rfl|rfl|rfl
  ·exact Nat.le_add_right _ _
  ·exact Nat.le_add_right _ _
  ·exact Nat.le_add_right _ _
  ·exact fy _
  ·exact Nat.le_add_right _ _
 exact I1.fpOk i (I1.hok.fresh i)
theorem Ki{b:zW}{xs ys:zM}{D:pJ}(Pv:Nat->St->Hp->Prop)(r:Pv 0 Z H)(t:∀i Z H,Pv i Z H->SqK k1 K H a xs/\SqK k2 K H b ys)(h:xs.length<=ys.length)
  (hs:∀i x y Z H p,xs[i]?=some x->ys[i]?=some y->Pv i Z H->H p=none->g (.ref p) Z (upd H p (.tup [x,y])) λZ2 H2=>tb {D with nx:=Pv (i+1),ct:=Pv (i+1),bk:=D.nx} Z2 H2) (o:∀Z H,Pv xs.length Z H->D.nx Z H):
  ∃W:Nat->Nat->St->Hp->Prop,(∃m,W 0 m Z H)/\∀i m Z H,W i m Z H->
   ((Itk k1 k2 K a b).stop i H/\D.nx Z H)\/((Itk k1 k2 K a b).go i H/\∃N:St->Hp->Prop,(∀Z' H',N Z' H'->∃j,j<m/\W (i+1) j Z' H')/\∀x H',(Itk k1 k2 K a b).yld i H x H'->g x Z H' λZ2 H2=>tb {D with nx:=N,ct:=N,bk:=D.nx} Z2 H2):=by
 refine cb (λi m Z H=>m=xs.length-i/\i<=xs.length/\Pv i Z H) (fx xs.length (by simp) (pG _) r) ?_;rintro i m Z H ⟨rfl,w,p⟩;obtain⟨d,f⟩:=t i Z H p;by_cases hlt:i<xs.length
 ·have k:xs[i]?=some xs[i]:=nP hlt;have u:ys[i]?=some (ys[i]'(by lia)):=nP _;refine .inr (kB ⟨xs,(mh ys _ _ d f k u)⟩ (Pv (i+1)) (λZ' H' s=>(nr (xs.length-(i+1)) (by lia) rfl hlt s)) λv H' y=>?_);refine nw y ?_;clear y;rintro c q rfl ⟨x,z,n,l,rfl⟩;exact hs i x z Z H c (n xs d) (l ys f) p q
 ·have e:i=xs.length:=by lia
  subst e;exact .inl ⟨(dV xs ys d f (.inl (fy _))),o Z H p⟩
abbrev No:=@By true false
def Itv(K:Frag)(a:zW)(n:Nat):It :=⟨λi H=>∃b x,SqL K H a b/\b.length=n/\i<n/\b[n-1-i]?=some x,λi H x c=>c=H/\∀b,SqL K H a b->b[n-1-i]?=some x,λi _=>i=n⟩
theorem J5(a it:zW)(n:Nat):C6m P w K tg (Itv K a n) [it] it (λi h=>h.IsRevIter it a ((n:Int)-1-(i:Int))) where
 mem:=by simp
 obj:=λi h f b l=>by
  have e:b=it:=by simpa using l
  subst e;obtain⟨o,e,c,d⟩:=f;exact cb o e λv z=>by rw[d]at z;cases z
 keep:=λi h m f k=>f.at λo e=>k it (by simp) o e
 item:=by
  intro X J B y L i g s Z H E I q f r;subst J B y;refine lS r λxs x O hn N M=>?_;clear r;obtain⟨a0,T,p,hz⟩:=I.list O;obtain⟨u,U,ru⟩:=T.get M;refine mM (q it (by simp)) ?_;rintro t F Y D ⟨C,G⟩;have A:(n:Int)-1-(i:Int)=((n-1-i:Nat):Int):=by lia
  rw[A]at f;refine wpAny_pyNext_rev_item f p.isList (x:=u) (by simpa using U) λm j W=>?_;have I1:Inv X g Z H {s with heap:=m}:=I.turned (t':=s.toks) (λb o l e=>(W.2 b l).trans e) t F D C G
  have S:((n-1-i:Nat):Int)-1=(n:Int)-1-((i+1:Nat):Int):=by lia
  rw[S]at j;obtain⟨o,e,c,d⟩:=id j;exact cb u rfl (uP (s:={s with heap:=m}) e c d (by decide) (mJ x H I1 ru ⟨rfl,λys Q=>by rw[I.list_inj Q O];exact M⟩ j λb l=>(q b l).1))
 done:=by
  intro X J B y L i g s Z H E I q f r;subst J B y;have N:i=n:=r;subst N;refine mM (q it (by simp)) ?_;rintro t F Y D ⟨C,G⟩;have A:(i:Int)-1-(i:Int)= -1:=by lia
  rw[A]at f;exact wpAny_pyNext_rev_end L f λm R=>⟨rfl,I.turned (t':=s.toks) (λb o l e=>R b o l e) t F D C G⟩
 self:=λ_ _ _ _ _ f h=>wpAny_pyIter_revIter f h
def iRev(K:Frag)(ta:TA):TI:=λZ H R=>ta Z H λd c=>∃a b,d=[.ref a]/\SqL K c a b/\R (Itv K a b.length) c
theorem Dh{a:yC}{ta:TA}(t:Gl X "reversed")(m:X.mg "reversed"=none)(v:PA X [a] ta)(hs:starEach [a] X.env=[(false,eval a X.env)]:=by rfl):
  PI X tg (.Call (.Name "reversed" p) [a] [] pos) (iRev X.K ta):=by
 intro f s Z H R I h;refine Call_ (tf I t m boot_reversed (PyProof.Rows.callWith_type1 (thn (v pos f s Z H _ I h) λB c ⟨C,n,I1,z,j⟩=>?_) hs rfl));refine ei j λl d e y q=>?_;clear j;subst e;obtain⟨u,rfl,A⟩:=sY z;cases A;obtain⟨g,r,k,_⟩:=I1.list y;have w:(g.toArray.size:Int)-1=(d.length:Int)-1-((0:Nat):Int):=by rw[oz,<-r.length];lia
 refine call_reversed_list k.isList ?_;rw[w];have i:(c.heap.push (revObj l ((d.length:Int)-1-((0:Nat):Int)))).IsRevIter c.heap.objs.size l ((d.length:Int)-1-((0:Nat):Int)):=(fx _ (nc _ rfl) rfl rfl);refine wpAny_pyIter_revIter (s:={c with heap:=c.heap.push (revObj l ((d.length:Int)-1-((0:Nat):Int)))}) i ?_;refine nL _ [c.heap.objs.size] _ _ n rfl (I1.kept (t':=c.toks) λb o e=>gc _ e) (J5 l _ d.length) i (λb x=>?_) q
 have e:b=c.heap.objs.size:=by simpa using x
 subst e;exact I1.fpOk (fy _) (I1.hok.fresh (fy _))
structure rX(X:Cx)(scope:Scope)(cl:List (Str×zW)):Prop where
 eq:closureFor scope X.env=pure cl
 sub:∀x c,cl.lookup x=some c->X.env.cells.lookup x=some c
 has:∀x,((relabel scope X.env).names.lookup x=some .cell\/(relabel scope X.env).names.lookup x=some .free)->∃c,cl.lookup x=some c
 kind:scope.kind=.function
 ncell:∀y∈scope.names,y.2≠.cell
 names:∀y∈scope.names,y.2=.local->scope.names.lookup y.1=some .local
noncomputable def blk(X:Cx)(N':zC)(scope:Scope)(cl:List (Str×zW))(C:zW)(s₀:zY)(H₀:Hp)(fp:zQ):Cx :={X with N:=N',s₀:=s₀,H₀:=H₀,env:=compEnvC scope cl C X.env,outer:=X.stack,ex:=fp,fn:=λ_=>false,pn:=[],xe:=λ_ _=>False}
def qm(ix:List (Option Nat))(Z:St):St:=ix.map λo=>o.bind λj=>(Z[j]?).bind id
def sV(X:Cx)(N':zC)(scope:Scope)(ix:List (Option Nat)):Prop :=
 ix.length=N'.length/\∀i j:Nat,ix[i]?=some (some j)->∃x,N'[i]?=some x/\X.N[j]?=some x/\(X.env.scope.names.lookup x=some .cell\/X.env.scope.names.lookup x=some .free)/\
  ((relabel scope X.env).names.lookup x=some .cell\/(relabel scope X.env).names.lookup x=some .free)
theorem Ij(I:Inv X pins Z H s)(d:rX X scope cl)(f:∀b∈fp,qr X pins H b)(g:∀b∈fp,b<s.heap.objs.size):(blk X N' scope cl s.heap.objs.size s H fp).Ok where
 mod:=I.ok.mod
 kind:=d.kind
 glob:=I.ok.glob
 blt:=I.ok.blt
 above:=fy _
 inj:=λx y c i k=>I.ok.inj x y c (d.sub x c i) (d.sub y c k)
 has:=λx h=>d.has x h
 cab:=λx c h=>by cases h
 hd:=I.ok.hd
 frames:=I.ok.frames
 stk:=.inl rfl
 exf:=λb a=>⟨mG (g b a),λx c h=>(f b a).2.2.2.2.1 x c (d.sub x c h)⟩
 bs:=I.bs
 bsz:=oU I.ok.bsz I.sz
 noex:=λb o e a=>by
  rcases(f b a).2.2.2.1 with z|z
  ·exact I.ok.noex b o e z
  ·exact absurd (oV (lI (I.ok.bs b o e).1) z) (Nat.lt_irrefl _)
 exfs:=λb a j=>by
  rcases lY.mp (I.stkSub b j)with z|z
  ·exact(f b a).2.1 z
  ·exact(f b a).2.2.1 z
 funs:=I.stack
 frf:=I.stkFree
theorem Mq(I:Inv X pins Z H s)(n:rX X scope cl)(F:sV X N' scope ix)(f:∀b∈fp,qr X pins H b)(t:∀b∈fp,b<s.heap.objs.size){m:zE}
  (P:h'.Ns s.heap.objs.size m) (k:∀b o,s.heap.get? b=some o->h'.get? b=some o):Inv (blk X N' scope cl s.heap.objs.size s H fp) [] (qm ix Z) H {s with heap:=h',toks:=t'}:=by
 have A:∀x c,cl.lookup x=some c->∃v,s.heap.IsCell c v:=λx c h=>I.cell x c (n.sub x c h);refine⟨Ij I n f t,rfl,I.bare,Un.kept k,(cb m P λi x v G d E=>?_),λx c e=>?_,I.hok.fresh (fy _),λx c e=>I.freeC x c (n.sub x c e),(λp Q=>by cases Q),I.hok.kept k,?_⟩
 ·unfold qm at d;rw[oH]at d
  cases hi:ix[i]? with
  |none=>rw[hi]at d;cases d
  |some o=>
   rw[hi]at d
   cases o with
   |none=>cases rJ d
   |some j=>
    have a:(Z[j]?).bind id=some v:=rJ d;refine nw (F.2 i j hi) ?_;rintro l K L ⟨g,C⟩;have S:l=x:=rJ (K.symm.trans G);subst S
    have R:Z[j]?=some (some v):=by
     cases q:Z[j]? with
     |none=>rw[q]at a;cases a
     |some w=>rw[q]at a;exact congrArg some a
    obtain⟨Y,_,U⟩:=I.loc;obtain⟨u,W,J⟩:=U j l v L R (g.elim (λz=>.inr (.inl z)) λz=>.inr (.inr z));refine cb u W (.inr ⟨C,?_⟩);obtain⟨c,D⟩:=n.has l C;refine cb c D ?_;rcases J with ⟨z,_⟩|⟨_,O,y,N⟩
    ·exfalso;have T:X.env.scope.names.lookup l=some .local:=z;rcases g with g|g<;>(rw[T]at g;cases g)
    ·have M:O=c:=rJ (y.symm.trans (n.sub l c D));subst M;obtain⟨o,B,r⟩:=N;exact cb o (k _ _ B) r
 ·obtain⟨v,o,B,r⟩:=A x c e;exact mL v o (k _ _ B) r
 ·unfold qm;rw[dm];exact F.1
theorem Jo(I:Inv X pins Z H s)(f:∀b∈fp,qr X pins H b)(J:Inv (blk X N' scope cl s.heap.objs.size s H fp) pl Z' H' s')(g:Heap.SameBut s.heap.objs.size s'.heap h'):
  Inv X pins Z H' {s' with heap:=h'}:=by
 have h:∀b o,s.heap.get? b=some o->b≠s.heap.objs.size:=λb o e=>mG (lI e);have j:H' s.heap.objs.size=none:=J.free;have u:Un (frs X.stack) fp H H' s.heap s'.heap:=J.base
 refine I.call' (ch:=fp) (s':={s' with heap:=h'}) J.os ⟨λb o e n a d=>(g.2 b (h b o e)).trans (u.keep b o e n a d),λb o e n a d=>?_,u.free,λb o e d=>?_,u.tups,u.frzs,u.tbls⟩ (λb o e=>?_) J.bare
  (λb a=>(lX ((f b a).2.2.2.1) ((f b a).2.1) ((f b a).2.2.2.2.1) ((f b a).2.2.2.2.2)))
 ·obtain⟨k,q⟩:=u.slot b o e n a d;exact⟨k,(g.2 b (h b o e)).trans q⟩
 ·obtain⟨l,q⟩:=u.there b o e d;exact⟨l,(g.2 b (h b o e)).trans q⟩
 ·refine(J.hok b o e).stay (λc v i q=>(g.2 c ?_).trans q) (λc q=>q) λc m q=>q;rcases i with rfl|i
  ·exact lO e j
  ·exact lO i j
def A2g:St->St->Prop| [],_=>True|none::r,_::r'=>A2g r r'|none::r,[]=>A2g r []|some v::r,w::r'=>w=some v/\A2g r r'|some _::_,[]=>False
theorem A2g.get:∀{a b:St},A2g a b->∀(j:Nat) v,a[j]?=some (some v)->b[j]?=some (some v)
 | [],_,_,_,_,e=>by simp at e
 |none::r,_::r',h,0,v,e=>by simp at e
 |none::r,_::r',h,j+1,v,e=>by simpa using A2g.get (a:=r) (b:=r') h j v (by simpa using e)
 |none::r,[],h,0,v,e=>by simp at e
 |none::r,[],h,j+1,v,e=>by have:=A2g.get (a:=r) (b:=[]) h j v (by simpa using e);simp at this
 |some w::r,_::r',h,0,v,e=>by
  have c:w=v:=by simpa using e
  subst c
  simpa using h.1
 |some _::r,_::r',h,j+1,v,e=>by simpa using A2g.get (a:=r) (b:=r') h.2 j v (by simpa using e)
def xX(ix:List (Option Nat))(wi:TI)(g:TG)(te:TE):TE:=λZ H Q=>wi Z H λJ e=>∀D,e D=none->∃W:Nat->Nat->Hp->Prop,(∃m,W 0 m (upd e D (.lst [])))/\∀i m a,W i m a->
 (J.stop i a/\Q (.ref D) a)\/(J.go i a/\∃N:VK,(∀y b,N y b->∃c,b D=some (.lst c)/\c.length<sizeLine/\∃f,f<m/\W (i+1) f (upd b D (.lst (c++[y]))))/\∀x d,J.yld i a x d->g x (qm ix Z) d λZ4 h=>A2g (qm ix Z) Z4/\te Z4 h N)
section
variable{e o:yC}
end
mutual
inductive Rep(H:Hp):V->PyData->Prop|non:Rep H .non .none|bl (b:Bool):Rep H (.bl b) (.bool b)|int (i:Int):Rep H (.int i) (.int i)|str (x:Str):Rep H (.str x) (.str x)|lst {p:zW} {xs:zM} {ds:List PyData}:H p=some (.lst xs)->A3m H xs ds->Rep H (.ref p) (.list ds)|tup {p:zW} {xs:zM} {ds:List PyData}:H p=some (.tup xs)->A3m H xs ds->Rep H (.ref p) (.tuple ds)
inductive A3m(H:Hp):zM->List PyData->Prop|nil:A3m H [] []|cons {v:V} {vs:zM} {d:PyData} {ds:List PyData}:Rep H v d->A3m H vs ds->A3m H (v::vs) (d::ds)
end
mutual
theorem Rep.imp{H H':Hp}(f:∀p o,H p=some o->H' p=some o):∀{v:V}{d:PyData},Rep H v d->Rep H' v d|_,_,.non=>.non|_,_,.bl b=>.bl b|_,_,.int i=>.int i|_,_,.str x=>.str x|_,_,.lst e r=>.lst (f _ _ e) (A3m.imp f r)|_,_,.tup e r=>.tup (f _ _ e) (A3m.imp f r)
theorem A3m.imp{H H':Hp}(f:∀p o,H p=some o->H' p=some o):∀{vs:zM}{ds:List PyData},A3m H vs ds->A3m H' vs ds|_,_,.nil=>.nil|_,_,.cons a r=>.cons (Rep.imp f a) (A3m.imp f r)
end
theorem Rep.same(h:Rep H v d)(s:A0l H H'):Rep H' v d:=h.imp s
theorem A3m.same{v:zM}{d:List PyData}(h:A3m H v d)(s:A0l H H'):A3m H' v d:=h.imp s
theorem A3m.len{H:Hp}:∀{vs:zM}{ds:List PyData},A3m H vs ds->vs.length=ds.length|_,_,.nil=>rfl|_,_,.cons _ r=>by rw[nG,nG,A3m.len r]
theorem A3m.snoc{H:Hp}{v:V}{d:PyData}(a:Rep H v d):∀{vs:zM}{ds:List PyData},A3m H vs ds->A3m H (vs++[v]) (ds++[d])|_,_,.nil=>.cons a .nil|_,_,.cons b r=>.cons b (A3m.snoc a r)
theorem A3m.strs{H:Hp}:∀xs:zC,A3m H (xs.map V.str) (xs.map PyData.str)| []=>.nil|x::r=>.cons (.str x) (A3m.strs r)
mutual
theorem Bq(I:Inv X pins Z H s):∀{v:V}{d:PyData}{u:zX},Rep H v d->A2z v u->∃as,Reads s.heap u d as
 |_,_,u,.non,r=>by cases(show u=Value.none from r);exact⟨_,.none⟩
 |_,_,u,.bl b,r=>by cases(show u=Value.bool b from r);exact⟨_,.bool b⟩
 |_,_,u,.int i,r=>by obtain⟨t,q⟩:=(show∃t,u=Value.int i t from r);cases q;exact⟨_,.int i t⟩
 |_,_,u,.str x,r=>by obtain⟨t,q⟩:=(show∃t,u=Value.str x t from r);cases q;exact⟨_,.str x t⟩
 |_,_,u,@Rep.lst _ p xs ds e q,r=>by
  cases(show u=Value.ref p from r)
  refine qb (show A1p X.prog X.w H s.heap p (.lst xs) from I.hok p _ e) λ_ f n a c=>?_;obtain⟨as,z⟩:=BG I q a;exact⟨_,Reads.list c rfl rfl (by simpa using z)⟩
 |_,_,u,@Rep.tup _ p xs ds e q,r=>by
  cases(show u=Value.ref p from r)
  refine xD (show A1p X.prog X.w H s.heap p (.tup xs) from I.hok p _ e) λ_ f a o c h n g=>?_;obtain⟨as,z⟩:=BG I q a;exact⟨_,Reads.tuple c h g (by simpa using z)⟩
theorem BG(I:Inv X pins Z H s):∀{vs:zM}{ds:List PyData}{us:zH},A3m H vs ds->A2m vs us->∃as,ReadsAll s.heap us ds as|_,_,_,.nil,.nil=>⟨_,.nil⟩|_,_,_,.cons a r,.cons q rv=>by obtain⟨as,z⟩:=Bq I a q;obtain⟨b,y⟩:=BG I r rv;exact⟨_,.cons z y⟩
end
def rEqD(a:Bool):R2:=λx y H Q=>∃d e,Rep H x d/\Rep H y e/\SeqAt.shaped d=true/\SeqAt.shaped e=true/\Q (.bl (if a then ! PyData.eqv d e else PyData.eqv d e)) H
theorem Im(c:X.A.units+64<cLine):OpR X (compareOp .Eq) (rEqD false):=by intro a s Z H x y v u Q I m l h;refine lS h ?_;clear h;rintro d e b j i ⟨g,q⟩;obtain⟨o,k⟩:=Bq I b m;obtain⟨n,f⟩:=Bq I j l;exact eq_dataH k f i g c (dV (.bl (PyData.eqv d e)) H I rfl q)
def GF(K:Frag):V->List V->Hp->VK->Prop:=λx b H Q=>∃(z:Str)(p:zW)(a:zC),x=.str z/\b=[.ref p]/\SqL K H p (a.map V.str)/\(a.map (·.length)).sum+a.length*z.length<=16777216/\Q (.str (Txt.join z a)) H
theorem M7{ys:zC}:∀{us:zH},A2m (ys.map V.str) us->StrsAre us ys:=by
 induction ys with
 |nil=>intro us r;cases r;exact .nil
 |cons y r ih=>
  intro us q
  cases q with
  |cons q1 q2=>obtain⟨t,rfl⟩:=q1;exact .cons _ _ (ih q2)
theorem DM:MtR X "str.join" (GF X.K):=by intro b s Z H x n v m Q I e a h;refine nF h ?_;clear h;rintro z p f rfl rfl g ⟨d,q⟩;obtain⟨t,rfl⟩:=(show∃t,v=Value.str z t from e);obtain⟨u,rfl,l⟩:=sY a;cases l;obtain⟨i,a,c,_⟩:=I.list g;exact join_list c.isList (M7 a) d λj k=>(dV (.str (Txt.join z f)) H (I.tok k) ⟨j,rfl⟩ q)
theorem re(i:scope.kind=.function)(d:∀y∈scope.names,y.2≠.free/\y.2≠.cell)(m:∀y∈scope.names,y.2=.local->scope.names.lookup y.1=some .local):rX X scope [] where
 eq:=closureFor_none λy b=>(d y b).1
 sub:=λx c h=>by cases h
 has:=λx h=>by
  exfalso
  have e:(relabel scope X.env).names=scope.names:=map_eq_self λy b=>by
   obtain⟨n,k⟩:=y;have z:=(d _ b).1;have j:(k==NameKind.free)=false:=by simpa using z
   simp[j]
  rw[e]at h
  have f:∀{k:NameKind},scope.names.lookup x=some k->(x,k)∈scope.names:=λ{k} q=>by
   generalize scope.names=l at q
   induction l with
   |nil=>cases q
   |cons a r ih=>
    obtain⟨n,o⟩:=a;rw[rV]at q;split at q
    ·rename_i hb;have g:x=n:=by simpa using hb
     cases q
     subst g;exact .head _
    ·exact .tail _ (ih q)
  rcases h with h|h
  ·exact(d _ (f h)).2 rfl
  ·exact(d _ (f h)).1 rfl
 kind:=i
 ncell:=λy b=>(d y b).2
 names:=m
theorem rc(h:n=N'.length):sV X N' scope (List.replicate n none):=⟨by rw[List.length_replicate];exact h,λi j e=>by
 rw[List.getElem?_replicate]at e
 split at e<;>cases e⟩
section
variable{xs:zM}{Q:VK}
theorem LO(Pv:Nat->List V->Hp->Prop)(c:Pv 0 [] (upd H D (.lst [])))(d:∀i ys H,Pv i ys H->SqL K H a xs)
  (hs:∀i x ys H,xs[i]?=some x->Pv i ys H->g x Z₀ H λZ4 H4=>A2g Z₀ Z4/\te Z4 H4 λy H5=>H5 D=some (.lst ys)/\ys.length<sizeLine/\Pv (i+1) (ys++[y]) (upd H5 D (.lst (ys++[y])))) (f:∀ys H,Pv xs.length ys H->Q (.ref D) H):
  ∃W:Nat->Nat->Hp->Prop,(∃m,W 0 m (upd H D (.lst [])))/\∀i m H2,W i m H2->
   ((Itl K a).stop i H2/\Q (.ref D) H2)\/((Itl K a).go i H2/\∃N:VK,(∀y H5,N y H5->∃xs,H5 D=some (.lst xs)/\xs.length<sizeLine/\∃b,b<m/\W (i+1) b (upd H5 D (.lst (xs++[y]))))/\
    ∀x H3,(Itl K a).yld i H2 x H3->g x Z₀ H3 λZ4 H4=>A2g Z₀ Z4/\te Z4 H4 N):=by
 refine cb (λi m H=>m=xs.length-i/\i<=xs.length/\∃ys,Pv i ys H) (sM xs.length (by simp) (pG _) [] c) ?_;rintro i m H2 ⟨rfl,h,ys,p⟩;have q:=d i ys H2 p;by_cases hlt:i<xs.length
 ·refine .inr (kB (mL xs (xs[i]) q (by simp[hlt])) (λy H5=>H5 D=some (.lst ys)/\ys.length<sizeLine/\Pv (i+1) (ys++[y]) (upd H5 D (.lst (ys++[y])))) (λy H5 n=>(wB ys n.1 n.2.1 (xs.length-(i+1)) (by lia) rfl hlt _ n.2.2)) λx H3 z=>?_);obtain⟨e,z⟩:=z;subst e;exact hs i x ys _ (z xs q) p
 ·have e:i=xs.length:=by lia
  subst e;exact .inl ⟨(cb xs q (fy _)),f ys H2 p⟩
theorem Lb(Pv:Nat->List V->Hp->Prop)(c:Pv 0 [] (upd H D (.lst [])))(d:∀i ys H,Pv i ys H->SqT K H a xs)
  (hs:∀i x ys H,xs[i]?=some x->Pv i ys H->g x Z₀ H λZ4 H4=>A2g Z₀ Z4/\te Z4 H4 λy H5=>H5 D=some (.lst ys)/\ys.length<sizeLine/\Pv (i+1) (ys++[y]) (upd H5 D (.lst (ys++[y])))) (f:∀ys H,Pv xs.length ys H->Q (.ref D) H):
  ∃W:Nat->Nat->Hp->Prop,(∃m,W 0 m (upd H D (.lst [])))/\∀i m H2,W i m H2->
   ((Itt K a).stop i H2/\Q (.ref D) H2)\/((Itt K a).go i H2/\∃N:VK,(∀y H5,N y H5->∃xs,H5 D=some (.lst xs)/\xs.length<sizeLine/\∃b,b<m/\W (i+1) b (upd H5 D (.lst (xs++[y]))))/\
    ∀x H3,(Itt K a).yld i H2 x H3->g x Z₀ H3 λZ4 H4=>A2g Z₀ Z4/\te Z4 H4 N):=by
 refine cb (λi m H=>m=xs.length-i/\i<=xs.length/\∃ys,Pv i ys H) (sM xs.length (by simp) (pG _) [] c) ?_;rintro i m H2 ⟨rfl,h,ys,p⟩;have q:=d i ys H2 p;by_cases hlt:i<xs.length
 ·refine .inr (kB (mL xs (xs[i]) q (by simp[hlt])) (λy H5=>H5 D=some (.lst ys)/\ys.length<sizeLine/\Pv (i+1) (ys++[y]) (upd H5 D (.lst (ys++[y])))) (λy H5 n=>(wB ys n.1 n.2.1 (xs.length-(i+1)) (by lia) rfl hlt _ n.2.2)) λx H3 z=>?_);obtain⟨e,z⟩:=z;subst e;exact hs i x ys _ (z xs q) p
 ·have e:i=xs.length:=by lia
  subst e;exact .inl ⟨(cb xs q (fy _)),f ys H2 p⟩
end
abbrev TJ:=St->Hp->Str->(Str->Hp->Prop)->Prop
def PJ(X:Cx)(es:zT)(t:TJ):Prop :=∀(a:zD)(s:zY)(Z:St)(H:Hp)(b:Str)(Q:Str->Hp->Prop),Inv X a Z H s->t Z H b Q->wpAny (model X.prog X.w) X.A (joinParts b (evalEach es X.env)) (EP X a Z λv c=>∃z,v=.str z/\Q z c) X.xe s
def FmtV(x:V)(y:Str):Prop:=(x=.str y/\y.length<=sizeLine)\/∃i:Int,x=.int i/\i.natAbs.log2<1920/\y=(toString i:Str)
def GC:TJ:=λ_ H a Q=>a.length<=sizeLine/\Q a H
def Ic(te:TE)(tr:TJ):TJ:=λZ H a Q=>te Z H λx b=>∃y,FmtV x y/\(a++y).length<=sizeLine/\tr Z b (a++y) Q
def Hh(x:Str)(tr:TJ):TJ:=λZ H a Q=>(a++x).length<=sizeLine/\tr Z H (a++x) Q
section
variable{e:yC}{tr:TJ}
theorem rn:PJ X [] GC:=λb s Z H a Q I h=>joinParts_nil (ot (.str a) H (I.tok _) ⟨_,rfl⟩ a rfl h.2) h.1
theorem CW(o:PE X e te)(d:PJ X es tr)(hs:evalEach (.FormattedValue e (-1) none pos::es) X.env=eval (.FormattedValue e (-1) none pos) X.env::evalEach es X.env:=by rfl):PJ X (.FormattedValue e (-1) none pos::es) (Ic te tr):=by
 intro a s Z H l Q I h;rw[hs];refine joinParts_cons (FormattedValue_plain (thn (o a s Z H _ I h) ?_));rintro v p c;refine ei c ?_;clear c;rintro x g I1 j ⟨y,f,b,q⟩;rcases f with ⟨rfl,m⟩|⟨i,rfl,k,rfl⟩
 ·obtain⟨t,rfl⟩:=(show∃t,v=Value.str y t from j);exact formatField_str (λr n=>⟨b,d a _ Z g _ Q (I1.tok n) q⟩) m
 ·obtain⟨t,rfl⟩:=(show∃t,v=Value.int i t from j);exact formatField_int_small k ⟨b,d a _ Z g _ Q (I1.tok _) q⟩
theorem pK(f:PJ X es tr)(hs:evalEach (.Constant (.str x) j pos::es) X.env=eval (.Constant (.str x) j pos) X.env::evalEach es X.env:=by rfl):PJ X (.Constant (.str x) j pos::es) (Hh x tr):=by intro a s Z H d Q I h;rw[hs];refine joinParts_cons (thn (lV a s Z H (λv k=>v=.str x/\k=H) I ⟨rfl,rfl⟩) ?_);refine λv g b=>lS b λy i I1 l e c=>?_;clear b;subst e c;obtain⟨t,rfl⟩:=(show∃t,v=Value.str x t from l);exact⟨h.1,f a g Z i _ Q I1 h.2⟩
def GN(a:TJ):TE:=λZ H Q=>a Z H Str.empty λz b=>Q (.str z) b
theorem rC{a b:yC}{e:TJ}(h:PJ X (a::b::es) e)(hs:evalEach (a::b::es) X.env=eval a X.env::eval b X.env::evalEach es X.env:=by rfl):PE X (.JoinedStr (a::b::es) pos) (GN e):=by intro c s Z H Q I j;refine JoinedStr_many ?_;rw[<-hs];exact thn (h c s Z H _ _ I j) (by (rintro u k d;refine ei d ?_;clear d;rintro v i I1 f ⟨z,g,q⟩);subst g;exact dV (.str z) i I1 f q)
end
theorem xu{x:Str}{k:NameKind}:∀{l:List (Str×NameKind)},l.lookup x=some k->(x,k)∈l
 | [],q=>by cases q
 |(n,k')::r,q=>by
  rw[rV]at q;split at q
  ·rename_i hb;have a:x=n:=by simpa using hb
   cases q
   subst a;exact .head _
  ·exact .tail _ (xu q)
theorem uv{c:zW}(u:closureFor scope X.env=pure [(x,c)])(q:X.env.cells.lookup x=some c)(a:scope.kind=.function)(i:∀y∈scope.names,y.2≠.cell/\(y.2=.free->y.1=x))
  (s:∀y∈scope.names,y.2=.local->scope.names.lookup y.1=some .local):rX X scope [(x,c)] where
 eq:=u
 sub:=λy d h=>by
  rw[rV]at h;split at h
  ·rename_i g;have j:y=x:=by simpa using g
   cases h
   subst j;exact q
  ·cases h
 has:=λy h=>by
  have b:y=x:=by
   have m:∃k,(y,k)∈(relabel scope X.env).names/\(k=.cell\/k=.free):=h.elim (λz=>(cb _ (xu z) (.inl rfl))) λz=>(cb _ (xu z) (.inr rfl));obtain⟨k,p,a⟩:=m;obtain⟨⟨n,f⟩,l,e⟩:=pd.mp p;dsimp only at e;by_cases hf:f=.free
   ·have r:n=y:=by
     split at e
     ·exact congrArg Prod.fst e
     ·exact congrArg Prod.fst e
    rw[<-r];exact(i _ l).2 hf
   ·have g:(f==NameKind.free)=false:=by simpa using hf
    simp only [g,Bool.false_and,Bool.false_eq_true,if_false]at e;have t:f=k:=congrArg Prod.snd e;subst t;rcases a with a|a
    ·exact absurd a (i _ l).1
    ·exact absurd a hf
  subst b;exact⟨c,by simp[rV]⟩
 kind:=a
 ncell:=λy o=>(i y o).1
 names:=s
theorem ux(b:X.N[j]?=some x)(h1:X.env.scope.names.lookup x=some .cell\/X.env.scope.names.lookup x=some .free)
  (h2:(relabel scope X.env).names.lookup x=some .cell\/(relabel scope X.env).names.lookup x=some .free):sV X (N0++[x]) scope (List.replicate N0.length none++[some j]):=by
 refine⟨by simp,λi k e=>?_⟩;by_cases hi:i<N0.length
 ·rw[rF (by simpa using hi),List.getElem?_replicate]at e;split at e<;>cases e
 ·have a:i=N0.length:=by
   have:=(ml.mp e).1;simp at this
   lia
  subst a;rw[rf (by simp)]at e;have c:j=k:=by simpa using e
  subst c;exact nr x (by simp) b h1 h2
theorem mu(s:A0l H H')(a:H l=none):A0l H (upd H' l o):=λb u e=>by rw[eh (lO e a)];exact s b u e
theorem ed(a:H l=none):A0l H (upd H l o):=mu (A0l.refl H) a
theorem tw{x:zW}{v:HO}(a:H x=none)(b:H dx=none):A0l H (upd (upd (upd H dx o) x u) x v):=mu (mu (ed b) a) a
theorem lK(h:n<=1000000):n<=sizeLine:=by rw[sizeLine_eq];lia
theorem mC(h:n<=1000000):n<sizeLine:=by rw[sizeLine_eq];lia
theorem Paired.snoc{α β:Type}{F:α->β->Prop}{a:α}{b:β}(h:F a b):∀{xs:List α}{ys:List β},Paired F xs ys->Paired F (xs++[a]) (ys++[b])|_,_,.nil=>.cons h .nil|_,_,.cons r t=>.cons r (Paired.snoc h t)
noncomputable def lU(S:zV)(H:Hp):Hp:=λa=>@ite _ (S a) (Classical.propDecidable _) (H a) none
theorem Ex(h:S a):lU S H a=H a:=by unfold lU;rw[eH h]
theorem LF(h:¬S a):lU S H a=none:=by unfold lU;rw[fa h]
theorem mY(h:lU S H a=some o):S a/\H a=some o:=by
 by_cases hs:S a
 ·rw[Ex hs]at h;exact⟨hs,h⟩
 ·rw[LF hs]at h;cases h
theorem mq(hs:S a)(h:H a=some o):lU S H a=some o:=by rw[Ex hs];exact h
theorem oN:A0l (lU S H) H:=λ_ _ e=>(mY e).2
theorem mZ(s:A0l H H'):A0l (lU S H) (lU S H'):=λb o e=>mq (mY e).1 (s _ _ (mY e).2)
theorem uc(s:A0l H H')(h:∀a o,H a=some o->S a->S' a):A0l (lU S H) (lU S' H'):=λb o e=>mq (h _ _ (mY e).2 (mY e).1) (s _ _ (mY e).2)
theorem xr(s:A0l (lU S H) (lU S H'))(h:¬S l):A0l (lU S H) (lU S (upd H' l o)):=λb u e=>by have q:=mY (s _ _ e);have a:b≠l:=λz=>h (by rw[<-z];exact q.1);exact mq q.1 (by rw[eh a];exact q.2)
def Fr(S:zV)(H:Hp):Prop:=∀a,H a=none->S a
mutual
theorem Rep.imp2{H H':Hp}(f:∀p xs,H p=some (.lst xs)->H' p=some (.lst xs))(g:∀p xs,H p=some (.tup xs)->H' p=some (.tup xs)):∀{v:V}{d:PyData},Rep H v d->Rep H' v d|_,_,.non=>.non|_,_,.bl b=>.bl b|_,_,.int i=>.int i|_,_,.str x=>.str x|_,_,.lst e r=>.lst (f _ _ e) (A3m.imp2 f g r)|_,_,.tup e r=>.tup (g _ _ e) (A3m.imp2 f g r)
theorem A3m.imp2{H H':Hp}(f:∀p xs,H p=some (.lst xs)->H' p=some (.lst xs))(g:∀p xs,H p=some (.tup xs)->H' p=some (.tup xs)):∀{vs:zM}{ds:List PyData},A3m H vs ds->A3m H' vs ds|_,_,.nil=>.nil|_,_,.cons a r=>.cons (Rep.imp2 f g a) (A3m.imp2 f g r)
end
theorem Rep.ins{d:PyData}{p dx:zW}{fs:zK}(h:Rep H v d)(e:H p=some (.ins C dx fs)):Rep (upd H p o) v d :=h.imp2 (λq a z=>by rw[eh (mU z e (by intro w;cases w))];exact z) (λq a z=>by rw[eh (mU z e (by intro w;cases w))];exact z)
section
variable{vs:zM}
theorem Jt(h:Rep G v (.tuple ds)):∃p xs,v=.ref p/\G p=some (.tup xs)/\A3m G xs ds:=by
 cases h with
 |tup e r=>exact dV _ _ rfl e r
theorem rQ(h:Rep G v (.list ds)):∃p xs,v=.ref p/\G p=some (.lst xs)/\A3m G xs ds:=by
 cases h with
 |lst e r=>exact dV _ _ rfl e r
theorem IN(h:Rep G v (.str x)):v=.str x:=by cases h;rfl
theorem IP{x:Int}(h:Rep G v (.int x)):v=.int x:=by cases h;rfl
theorem EJ(h:A3m G vs (d::ds)):∃u r,vs=u::r/\Rep G u d/\A3m G r ds:=by
 cases h with
 |cons a r=>exact dV _ _ rfl a r
theorem Ke(h:A3m G vs []):vs=[]:=by cases h;rfl
end
mutual
def cnt:PyData->Nat|.none=>1|.bool _=>1|.int _=>1|.str _=>1|.list xs=>qf xs+1|.tuple xs=>qf xs+1|.dict _=>1
def qf:List PyData->Nat| []=>0|x::xs=>cnt x+qf xs
end
theorem IZ(d:PyData):1<=cnt d:=by cases d<;>simp[cnt]
theorem A5:∀ds:List PyData,ds.length<=qf ds
 | []=>by simp[qf]
 |d::r=>by
  have:=A5 r;have:=IZ d;simp only [qf,nG]
  lia
theorem Av:∀{ds:List PyData}{i:Nat}{d:PyData},ds[i]?=some d->cnt d<=qf ds/\PyData.depth d<=PyData.depthAll ds
 | [],_,_,e=>by simp at e
 |d::r,0,_,e=>by
  simp at e;subst e;simp only [qf,PyData.depthAll]
  lia
 |x::r,i+1,d,e=>by
  have:=Av (ds:=r) (i:=i) (d:=d) (by simpa using e);simp only [qf,PyData.depthAll]
  lia
theorem A3m.get2{H:Hp}:∀{vs:zM}{ds:List PyData}{i:Nat}{v:V},A3m H vs ds->vs[i]?=some v->∃d,ds[i]?=some d/\Rep H v d|_,_,_,_,.nil,e=>by simp at e|_,_,0,_,.cons a _,e=>by simp at e;subst e;exact cb _ rfl a|_,_,i+1,v,.cons _ r,e=>by obtain⟨d,b,c⟩:=A3m.get2 (i:=i) (v:=v) r (by simpa using e);exact cb d (by simpa using b) c
theorem Gv{k:Str}:List.lookup k ((k,v)::r)=some v:=by simp[rV]
theorem Gu{k j:Str}{o:zP}(h:(k==j)=false)(e:List.lookup k r=o):List.lookup k ((j,v)::r)=o:=by rw[rV,h];exact e
theorem pE{f:Str}:mI f v []=[(f,v)]:=rfl
theorem om{f g:Str}{x:V}(h:¬g=f):mI f v ((g,x)::r)=(g,x)::mI f v r:=by rw[mI,fa h]
theorem lT[Decidable c](h1:c->A)(h2:¬c->B):if decide c=true then A else B :=wJ (λh=>h1 (of_decide_eq_true h)) (λh=>h2 λa=>h (mP a))
theorem se[Decidable c](h1:¬c->A)(h2:c->B):if (! decide c)=true then A else B :=
 wJ (λh=>h1 λa=>by rw[mP a]at h;cases h) (λh=>h2 (by
  by_cases a:c
  ·exact a
  ·rw[mT a]at h;exact absurd rfl h))
theorem vO{l:yC}(b:PE X l tl):PI X tg l (λZ H R=>CA X.K tl Z H R\/B7 X.K tl Z H R):=λa s Z H R I h=>h.elim (nR b a s Z H R I) (Ie b a s Z H R I)
theorem Db{xs:List α}(b:0<=i)(h1:i<xs.length):∃v,xs[i.toNat]?=some v/\atI xs i=some v:=by
 obtain⟨n,rfl⟩:=Int.eq_ofNat_of_zero_le b;have a:n<xs.length:=by lia
 exact cb (xs[n]) (by simp[a]) (lM (by simp[a]))
theorem vV{f:α->V}{xs:List α}(b:0<=i)(h1:i<xs.length):∃x,xs[i.toNat]?=some x/\atI (xs.map f) i=some (f x):=by
 obtain⟨n,rfl⟩:=Int.eq_ofNat_of_zero_le b;have a:n<xs.length:=by lia
 exact cb (xs[n]) (by simp[a]) (lM (by simp[a]))
section
variable{xs:zM}
theorem sJ(Pv:Nat->List V->Hp->Prop)(d:Pv 0 [] (upd H D (.lst [])))(e:∀i ys H,Pv i ys H->SqL K H a xs)
  (hs:∀i x ys H,xs[i]?=some x->Pv i ys H->g x Z₀ H λZ4 H4=>A2g Z₀ Z4/\te Z4 H4 λy H5=>H5 D=some (.lst ys)/\ys.length<sizeLine/\Pv (i+1) (ys++[y]) (upd H5 D (.lst (ys++[y])))) (c:∀ys H,Pv xs.length ys H->QD H):
  ∃W:Nat->Nat->Hp->Prop,(∃m,W 0 m (upd H D (.lst [])))/\∀i m H2,W i m H2->
   ((Itl K a).stop i H2/\QD H2)\/((Itl K a).go i H2/\∃N:VK,(∀y H5,N y H5->∃xs,H5 D=some (.lst xs)/\xs.length<sizeLine/\∃b,b<m/\W (i+1) b (upd H5 D (.lst (xs++[y]))))/\
    ∀x H3,(Itl K a).yld i H2 x H3->g x Z₀ H3 λZ4 H4=>A2g Z₀ Z4/\te Z4 H4 N):=LO (Q:=λ_ H=>QD H) Pv d e hs c
theorem LZ(Pv:Nat->List V->Hp->Prop)(d:Pv 0 [] (upd H D (.lst [])))(e:∀i ys H,Pv i ys H->SqT K H a xs)
  (hs:∀i x ys H,xs[i]?=some x->Pv i ys H->g x Z₀ H λZ4 H4=>A2g Z₀ Z4/\te Z4 H4 λy H5=>H5 D=some (.lst ys)/\ys.length<sizeLine/\Pv (i+1) (ys++[y]) (upd H5 D (.lst (ys++[y])))) (c:∀ys H,Pv xs.length ys H->QD H):
  ∃W:Nat->Nat->Hp->Prop,(∃m,W 0 m (upd H D (.lst [])))/\∀i m H2,W i m H2->
   ((Itt K a).stop i H2/\QD H2)\/((Itt K a).go i H2/\∃N:VK,(∀y H5,N y H5->∃xs,H5 D=some (.lst xs)/\xs.length<sizeLine/\∃b,b<m/\W (i+1) b (upd H5 D (.lst (xs++[y]))))/\
    ∀x H3,(Itt K a).yld i H2 x H3->g x Z₀ H3 λZ4 H4=>A2g Z₀ Z4/\te Z4 H4 N):=Lb (Q:=λ_ H=>QD H) Pv d e hs c
end
theorem D2e(h1:isClsIn K D=true)(h2:typeIn K (.ref D)=some (.type "type"))(b:mroIn K C (.ref D)=some true):kitOne K (.ref C) (.ref D)=some true:=by
 unfold kitOne;split
 ·rfl
 ·show(if ((clsIn K D).isSome&&typeIn K (.ref D)==some (.type "type"))=true then subIn K (.ref C) (.ref D)else none)=some true;have a:(clsIn K D).isSome=true:=h1;rw[eH (by rw[a,h2];rfl)];exact b
theorem C7e(c:(Value.ref C==Value.ref D)=false)(h1:isClsIn K D=true)(h2:typeIn K (.ref D)=some (.type "type"))(b:mroIn K C (.ref D)=some false):kitOne K (.ref C) (.ref D)=some false:=by unfold kitOne;rw[fa (by rw[c];exact nA)];show(if ((clsIn K D).isSome&&typeIn K (.ref D)==some (.type "type"))=true then subIn K (.ref C) (.ref D)else none)=some false;have a:(clsIn K D).isSome=true:=h1;rw[eH (by rw[a,h2];rfl)];exact b
theorem MI:qH X (.type "dict") (λxs H Q=>∃a kvs,xs=[V.ref a]/\Rd H a (.dK kvs)/\∀p,H p=none->Q (.ref p) (upd H p (.dK kvs))):=by
 intro j s Z H xs A Q I r h;refine ei h ?_;clear h;rintro a kvs rfl t q;obtain⟨u,rfl,z⟩:=sY r;cases z;refine pN (wO I.hok t) λi k x c n=>?_;refine kt_call_dict (knd:=oD X.prog X.w) k n (by rw[<-c.length];exact i) λm d l=>?_;have y:=I.hok.fresh (fy s.heap.objs.size);have v:∀b u,s.heap.get? b=some u->m.get? b=some u:=λb u e=>(l.2 b (mG (lI e))).trans (gc _ e)
 have f:(s.heap.objs.size==sysModules)=false:=by
  have:=I.big;have g:s.heap.objs.size≠sysModules:=pP this
  simpa using g
 exact dV (.ref s.heap.objs.size) _ (I.laid (t':=s.toks) (o:=.dK kvs) v (fy _) (nu i f x c d)) rfl (q _ y)
theorem Inv.frozen{o:Obj}(I:Inv X pins Z H s)(b:H a=some (.dK kvs))(c:s.heap.get? a=some o):Inv X pins Z (upd H a (.frz o (.dK kvs))) s :=I.write (t':=s.toks) (h':=s.heap) (e:=a) (by rw[b];trivial) (.inl rfl) (λ_ _ _ e=>e) ⟨o,c⟩ ⟨c,(show A1p X.prog X.w H s.heap a (.dK kvs) from I.hok a _ b)⟩
theorem Inv.thaw{o:Obj}(I:Inv X pins Z H s)(d:H a=some (.frz o u))(l:∃kvs,u=.dK kvs)(r:∀o' h,X.H₀ a≠some (.frz o' h)):Inv X pins Z (upd H a u) s:=by
 have g:∀b,H b=none->upd H a u b=none:=λb e=>by rw[eh (λz=>by subst z;rw[d]at e;cases e)];exact e
 obtain⟨kvs,rfl⟩:=l
 refine⟨I.ok,I.os,I.bare,⟨I.base.keep,I.base.slot,λb j e n t=>g b (I.base.free b j e n t),I.base.there,λb k e=>?_,λb j h e=>?_,λb m e=>?_⟩,I.loc,I.cell,g _ I.free,λx c e=>g _ (I.freeC x c e),
  λp i=>(fI ((I.pin p i).1) (g _ (I.pin p i).2.1) ((I.pin p i).2.2)),λb v e=>?_,I.len⟩
 ·have q:=I.base.tups b k e;rw[eh (mU q d (by intro z;cases z))];exact q
 ·have q:=I.base.frzs b j h e;rw[eh (λz=>by subst z;exact r _ _ e)];exact q
 ·obtain⟨f,q⟩:=I.base.tbls b m e;exact⟨f,by rw[eh (mU q d (by intro z;cases z))];exact q⟩
 ·by_cases hb:b=a
  ·subst hb;rw[cp]at e;cases e;obtain⟨_,q⟩:=(show A1p X.prog X.w H s.heap b (.frz o (.dK kvs)) from I.hok b _ d);exact q
  ·rw[eh hb]at e;exact(I.hok b v e).stay (λ_ _ _ q=>q) (λc q=>by rw[eh (mU q d (by intro z;cases z))];exact q) λc k q=>by rw[eh (mU q d (by intro z;cases z))];exact q
def GS(X:Cx)(t:TS):TS:=λD Z H=>∃a o b,H a=some (.frz o (.dK b))/\(∀d c,X.H₀ a≠some (.frz d c))/\t D Z (upd H a (.dK b))
theorem Bd{c:List Stmt}{t:TS}(h:PSs X c t):PSs X c (GS X t):=by intro b s Z H D I e;refine mF e ?_;clear e;rintro a o d ⟨g,f,q⟩;exact h b s Z _ D (I.thaw g ⟨d,rfl⟩ f) q
def Itd(a:zW)(o:Obj)(kvs:zJ):It :=⟨λi H=>H a=some (.frz o (.dK kvs))/\i<kvs.length,λi H x b=>b=H/\∃k v,kvs[i]?=some (k,v)/\x=kV k,λi H=>H a=some (.frz o (.dK kvs))/\i=kvs.length⟩
theorem Cp{k:Key}{u:zX}(h:(oD P w).is k u=true):A2z (kV k) u:=by
 rcases uf (show vf k u=true from h)with ⟨i,t,rfl,rfl⟩|⟨x,t,rfl,rfl⟩
 ·exact⟨t,rfl⟩
 ·exact⟨t,rfl⟩
theorem KV.at{vs:List (Key×zX)}:KV kvs vs->∀{i:Nat}{k:Key}{v:V},kvs[i]?=some (k,v)->∃u,vs[i]?=some (k,u)/\A2z v u:=by
 intro r;unfold KV at r
 induction r with
 |nil=>intro i k v e;simp at e
 |@cons p q ps qs h t ih=>
  intro i k v e
  cases i with
  |zero=>simp at e;subst e;obtain⟨a,d⟩:=h;obtain⟨g,b⟩:=q;cases a;exact cb b rfl d
  |succ j=>obtain⟨u,c,f⟩:=ih (i:=j) (by simpa using e);exact cb u (by simpa using c) f
theorem xf{h:yA}{o:Obj}{es:Array DictEntry}(ok:HOk P w H h)(l:H a=some (.frz o (.dK kvs)))(f:o.data=.dict es ep):
  (a==sysModules)=false/\∃vs,KV kvs vs/\h.DictAt (oD P w) a vs ep:=by
 obtain⟨e,m,j,vs,b,n,i,k,g,c,d,r⟩:=(show A1p P w H h a (.frz o (.dK kvs)) from ok a _ l);rw[e]at g;cases g;rw[f]at d;cases d;exact kB j vs b (lQ o es e c f r)
theorem Lz(it a:zW)(o:Obj)(kvs:zJ)(es:Array DictEntry)(S:Nat)(R:o.data=.dict es S):
  C6m P w K tg (Itd a o kvs) [it] it (λi h=>h.IsKeyIter it a i kvs.length S) where
 mem:=by simp
 obj:=λi h f b m=>by
  have e:b=it:=by simpa using m
  subst e;obtain⟨l,e,_,d⟩:=f;exact cb l e λv z=>by rw[d]at z;cases z
 keep:=λi h q f k=>f.at λl e=>k it (by simp) l e
 item:=by
  intro X N B y O i j s Z H E I r f F;subst N B y;obtain⟨L,Q⟩:=F;refine mM (r it (by simp)) ?_;rintro x G Y D ⟨C,M⟩;obtain⟨_,vs,g,J⟩:=xf I.hok L R;have t:=g.length;obtain⟨⟨k,v⟩,hkv⟩:∃p,kvs[i]?=some p:=⟨kvs[i],by simp[Q]⟩;obtain⟨u,U,_⟩:=g.at hkv;rw[t]at f;refine wpAny_pyNext_dict_item f J U λA q hk n W=>?_;have I1:Inv X j Z H {s with heap:=q,toks:=s.toks}:=I.turned (t':=s.toks) (λb l m e=>(W.2 b m).trans e) x G D C M
  obtain⟨l,e,c,d⟩:=id n;exact cb A rfl (uP (s:={s with heap:=q}) e c d (by decide) (mJ (kV k) H I1 (Cp hk) (qP rfl k v hkv rfl) (by rw[t];exact n) λb m=>(r b m).1))
 done:=by intro X N B y O i j s Z H E I r f F;subst N B y;obtain⟨L,Q⟩:=F;refine mM (r it (by simp)) ?_;rintro x G Y D ⟨C,M⟩;obtain⟨_,vs,g,J⟩:=xf I.hok L R;have t:=g.length;rw[t]at f;exact wpAny_pyNext_dict_end O f J (by simp;lia) λq T=>⟨rfl,I.turned (t':=s.toks) (λb l m e=>T b l m e) x G D C M⟩
 self:=λ_ _ _ _ _ f h=>wpAny_pyIter_keyiter f h
def GA(tl:TE):TI:=λZ H R=>tl Z H λx c=>∃a b,x=.ref a/\c a=some (.dK b)/\∀o,R (Itd a o b) (upd c a (.frz o (.dK b)))
theorem IU{l:yC}(D:PE X l tl):PI X tg l (GA tl):=by
 intro c s Z H R I h;refine thn (D c s Z H _ I h) ?_;rintro u d j;refine ei j ?_;clear j;rintro x t I1 z ⟨a,g,y,i,q⟩;subst y;cases z;refine rE (wN I1.hok i) ?_;rintro F A p f o m ep n ⟨v,k,r⟩;have B:d.heap.DictAt (oD X.prog X.w) a p ep:=(lQ o m n v k r);refine wpAny_pyIter_dict A B ?_;have I2:Inv X c Z t {d with heap:=d.heap.push {cls:=.type "dict_keyiterator",data:=.fields #[.ref a,.int 0 0,.int p.length 0,.int ep 0]},toks:=d.toks}:=I1.kept λb G e=>gc _ e
 have I3:=I2.frozen i (gc _ n);refine nL _ [d.heap.objs.size] _ _ _ rfl I3 (Lz _ a o g m ep k) ?_ (λb C=>?_) (q o)
 ·rw[f.length];exact fx _ (nc _ rfl) rfl rfl
 ·have e:b=d.heap.objs.size:=by simpa using C
  subst e;refine I1.fpOk (fy _) ?_;rw[eh (pP (I1.hok.lt i))];exact I1.hok.fresh (fy _)
theorem Lk{o:Obj}{D:pJ}(Pv:Nat->St->Hp->Prop)(d:Pv 0 Z H)(b:∀i Z H,Pv i Z H->H a=some (.frz o (.dK kvs)))
  (hs:∀i k v Z H,kvs[i]?=some (k,v)->Pv i Z H->g (kV k) Z H λZ2 H2=>tb {D with nx:=Pv (i+1),ct:=Pv (i+1),bk:=D.nx} Z2 H2) (j:∀Z H,Pv kvs.length Z H->D.nx Z H):
  ∃W:Nat->Nat->St->Hp->Prop,(∃m,W 0 m Z H)/\∀i m Z H,W i m Z H->
   ((Itd a o kvs).stop i H/\D.nx Z H)\/((Itd a o kvs).go i H/\∃N:St->Hp->Prop,(∀Z' H',N Z' H'->∃c,c<m/\W (i+1) c Z' H')/\∀x H',(Itd a o kvs).yld i H x H'->g x Z H' λZ2 H2=>tb {D with nx:=N,ct:=N,bk:=D.nx} Z2 H2):=by
 refine cb (λi m Z H=>m=kvs.length-i/\i<=kvs.length/\Pv i Z H) (fx kvs.length (by simp) (pG _) d) ?_;rintro i m Z H ⟨rfl,l,p⟩;by_cases hlt:i<kvs.length
 ·refine .inr (kB ⟨b i Z H p,hlt⟩ (Pv (i+1)) (λZ' H' f=>(nr (kvs.length-(i+1)) (by lia) rfl hlt f)) λx H' y=>?_);refine qb y ?_;clear y;rintro e k v h rfl;subst e;exact hs i k v Z _ h p
 ·have e:i=kvs.length:=by lia
  subst e;exact .inl ⟨⟨b _ Z H p,rfl⟩,j Z H p⟩
theorem Fj{o:Obj}(c:H a=some u)(s:A0l (upd H a (.frz o u)) H2):A0l H (upd H2 a u):=λb v e=>by
 by_cases hb:b=a
 ·subst hb;rw[c]at e;cases e;exact cp
 ·rw[eh hb];exact s b v (by rw[eh hb];exact e)
def Jk(ix:List (Option Nat))(wi:TI)(g:TG)(tc:TT)(te:TE):TE:=λZ H Q=>wi Z H λJ h=>∀D,h D=none->∃W:Nat->Nat->Hp->Prop,(∃m,W 0 m (upd h D (.lst [])))/\∀i m c,W i m c->
 (J.stop i c/\Q (.ref D) c)\/(J.go i c/\∃(N:VK)(M:Hp->Prop),(∀y a,N y a->∃e,a D=some (.lst e)/\e.length<sizeLine/\∃d,d<m/\W (i+1) d (upd a D (.lst (e++[y]))))/\(∀a,M a->∃d,d<m/\W (i+1) d a)/\∀x f,J.yld i c x f->g x (qm ix Z) f λZ4 j=>A2g (qm ix Z) Z4/\tc Z4 j λb a=>if b=true then te Z4 a N else M a)
def PTs(X:Cx)(cs:zT)(t:TT):Prop :=∀(a:zD)(s:zY)(Z:St)(H:Hp)(Q:Bool->Hp->Prop),Inv X a Z H s->t Z H Q->wpAny (model X.prog X.w) X.A (forIn cs true λc r=>if r=true then do let b<-isTrue c X.env (eval c X.env);pure (ForInStep.yield b)else pure (ForInStep.yield r)) (TP X a Z Q) X.xe s
theorem EQ{ok:zZ->Prop}(hc:ok X.A)(O:rX X scope cl)(io:sV X N' scope ix)(hi:PIP ok X tg iter wi)
  (hg:∀C s₀ H₀ fp,PG (blk X N' scope cl C s₀ H₀ fp) tg g) (ht:∀C s₀ H₀ fp,PTs (blk X N' scope cl C s₀ H₀ fp) cs tc) (he:∀C s₀ H₀ fp,PE (blk X N' scope cl C s₀ H₀ fp) elt te) (hs:∀x,foldedSetIterable iter X.env x=pure x) {pp:Pos} {S:zW->Hp->Prop} {R:It->Hp->Prop}
  (hR:∀J H1,R J H1->∀D,H1 D=none->∃W:Nat->Nat->Hp->Prop,(∃m,W 0 m (upd H1 D (.lst [])))/\∀i m H2,W i m H2->(J.stop i H2/\S D H2)\/(J.go i H2/\∃(N:VK)(M:Hp->Prop),(∀y H5,N y H5->∃xs,H5 D=some (.lst xs)/\xs.length<sizeLine/\∃k,k<m/\W (i+1) k (upd H5 D (.lst (xs++[y]))))/\(∀H5,M H5->∃k,k<m/\W (i+1) k H5)/\∀x H3,J.yld i H2 x H3->g x (qm ix Z) H3 λZ4 H4=>A2g (qm ix Z) Z4/\tc Z4 H4 λb H5=>if b=true then te Z4 H5 N else M H5))
  (b4:∀(D C:zW)(H5:Hp)(E:zY)(x:Flow),S D H5->(∃m,E.heap.Ns C m)->qr X pins H5 C->(∀h',Heap.SameBut C E.heap h'->Inv X pins Z H5 {E with heap:=h'})->compPost (model X.prog X.w) X.A X.xe use Qf (.ref D) C (.ok x) E)
  (I:Inv X pins Z H s) (h:wi Z H R):wpAny (model X.prog X.w) X.A (comprehension (.ListComp elt [⟨tg,iter,cs,0⟩] scope pos) scope X.env pp (newList []) false (eval iter X.env) use) Qf X.xe s:=by
 refine wpAny_comprehension_free rfl hs O.eq O.kind O.names (thn (hi pins s Z H _ I h) λxv s1 h1=>thn h1 λb9 a h2=>?_);refine nU h2 ?_;clear h2;rintro it fp tn J H1 rfl I1 T a0 ⟨f1,R1⟩;refine tJ ?_;have hD:H1 a.heap.objs.size=none:=I1.hok.fresh (fy _);obtain⟨W,⟨m0,w0⟩,a3⟩:=hR _ _ R1 _ hD;have a8:∀b∈fp,b<a.heap.objs.size:=λb f=>let⟨o,e,_⟩:=T.obj _ _ a0 b f;lI e;have I2:Inv X pins Z (upd H1 a.heap.objs.size (.lst [])) {a with heap:=a.heap.push {cls:=.type "list",data:=.seq ([]:zH).toArray},toks:=a.toks}:=I1.lnew (its:=[]) .nil (pG _);have f2:∀b∈fp,qr X pins (upd H1 a.heap.objs.size (.lst [])) b:=λb f=>⟨by rw[eh (mG (a8 b f))];exact(f1 b f).1,(f1 b f).2⟩
 have U:∀b∈fp,b<(a.heap.push {cls:=.type "list",data:=.seq ([]:zH).toArray}).objs.size:=λb f=>by rw[rW];exact Nat.lt_succ_of_lt (a8 b f)
 refine wpAny_newFunctionEnv O.ncell (by intro y hy;simp at hy) (λh3 K a6=>?_) O.kind;dsimp only at K a6⊢;have k3:∀b o,(a.heap.push {cls:=.type "list",data:=.seq ([]:zH).toArray}).get? b=some o->h3.get? b=some o:=λb o e=>(a6.2 b (mG (lI e))).trans (gc _ e);generalize hs2:({a with heap:=a.heap.push {cls:=.type "list",data:=.seq ([]:zH).toArray},toks:=a.toks}:zY)=s3 at I2;have e3:a.heap.push {cls:=.type "list",data:=.seq ([]:zH).toArray}=s3.heap:=by rw[<-hs2]
 rw[e3]at K k3 U;have I3:=Mq (N':=N') (ix:=ix) I2 O io f2 U (h':=h3) (t':=a.toks+([]:List (Str×zX)).length) K k3;have e4:({s3 with heap:=h3,toks:=a.toks+([]:List (Str×zX)).length}:zY)={a with heap:=h3,toks:=a.toks+([]:List (Str×zX)).length}:=by rw[<-hs2]
 rw[e4]at I3;have a9:tn 0 h3:=T.keep _ _ _ a0 λb f o e=>k3 b o (by rw[<-e3];exact gc _ e)
 have B:∀s4:zY,s4={a with heap:=h3,toks:=a.toks+([]:List (Str×zX)).length}->
   codeAny (model X.prog X.w) X.A (.compLoop (.ListComp elt [⟨tg,iter,cs,0⟩] scope pos) 0 (.ref it) (.ref a.heap.objs.size) (compEnvC scope cl s3.heap.objs.size X.env))
    (compPost (model X.prog X.w) X.A X.xe use Qf (.ref a.heap.objs.size) s3.heap.objs.size) s4:=by
  rintro s4 rfl
  have F:∀{H':Hp},(∀b∈fp,H' b=none)->∀b∈fp,qr (blk X N' scope cl s3.heap.objs.size s3 (upd H1 a.heap.objs.size (.lst [])) fp) [] H' b:=λhn b f=>⟨hn b f,(lP (mG (U b f)) (λhs=>I3.ok.exfs b f hs) (.inl f) (λx c e=>(f2 b f).2.2.2.2.1 x c (O.sub x c e)) (λp hp=>by cases hp))⟩
  refine codeAny_loop rfl (λn Y=>∃i Z' H',Inv (blk X N' scope cl s3.heap.objs.size s3 (upd H1 a.heap.objs.size (.lst [])) fp) [] Z' H' Y/\(∀(j:Nat) v,(qm ix Z)[j]?=some (some v)->Z'[j]?=some (some v))/\tn i Y.heap/\(∀b∈fp,H' b=none)/\W i n H')
   (λn Y hI=>?_) m0 (oq 0 _ _ I3 (λ_ _ z=>z) a9 (λb f=>(f2 b f).1) w0)
  refine nF hI ?_;clear hI;rintro i Z5 H5 I5 wk b0 ⟨a1,w5⟩;show wpAny _ _ ((compTurn (.ListComp elt [⟨tg,iter,cs,0⟩] scope pos) 0 (.ref it) (.ref a.heap.objs.size) (compEnvC scope cl s3.heap.objs.size X.env)).onRaise (λx=>do noteFrame x (compEnvC scope cl s3.heap.objs.size X.env);theTreesLotGoes x)) _ _ Y;refine wpAny_noted ?_;rw[compTurn_list];refine cz (uZ ?_);rcases a3 i n H5 w5 with ⟨stop,qn⟩|⟨go,NN,MM,b8,b3,a7⟩
  ·refine cz (oj (T.done (blk X N' scope cl s3.heap.objs.size s3 (upd H1 a.heap.objs.size (.lst [])) fp) rfl rfl rfl hc i [] Y Z5 H5 (λ_ _=>False) I5 (F a1) b0 stop) (λr E h6=>?_) λ_ _ z=>z.elim);obtain⟨rfl,I6⟩:=h6;refine ff ?_;obtain⟨mm,hm,_⟩:=id I6.loc;exact b4 _ _ _ _ _ qn ⟨mm,hm⟩ (I2.fpOk (fy _) I6.free) λh' sb=>Jo I2 f2 I6 sb
  ·refine cz (oj (T.item (blk X N' scope cl s3.heap.objs.size s3 (upd H1 a.heap.objs.size (.lst [])) fp) rfl rfl rfl hc i [] Y Z5 H5 (λ_ _=>False) I5 (F a1) b0 go) (λr E h6=>?_) λ_ _ z=>z.elim);obtain⟨u,rfl,h6⟩:=h6;refine cz (oj h6 (λ_ s7 h7=>?_) λ_ _ z=>z.elim);refine lS h7 ?_;clear h7;rintro x H7 I7 r7 y7 ⟨P,b6⟩;have I7w:Inv (blk X N' scope cl s3.heap.objs.size s3 (upd H1 a.heap.objs.size (.lst [])) fp) [] (qm ix Z) H7 s7:=I7.weak (by rw[I7.len];unfold qm;rw[dm];exact io.1) wk;have I7p:=I7w.pinned (F b6) (T.obj _ _ P);refine cz (oj (hg _ _ _ _ _ s7 _ H7 x u _ I7p r7 (a7 x H7 y7)) (λ_ s8 h8=>?_) λ_ _ z=>z.elim);refine ei h8 λZ8 H8 I8 a5 q8=>?_;clear h8
   have G:∀{q:zY}{oj:St}{t:Hp}{k:Nat},Inv (blk X N' scope cl s3.heap.objs.size s3 (upd H1 a.heap.objs.size (.lst [])) fp) ([]++wW fp s7.heap) oj t q->(∀(j:Nat) v,(qm ix Z)[j]?=some (some v)->oj[j]?=some (some v))->W (i+1) k t->
     ∃i Z' H',Inv (blk X N' scope cl s3.heap.objs.size s3 (upd H1 a.heap.objs.size (.lst [])) fp) [] Z' H' q/\(∀(j:Nat) v,(qm ix Z)[j]?=some (some v)->Z'[j]?=some (some v))/\tn i q.heap/\(∀b∈fp,H' b=none)/\W i k H':=by
    intro q oj t k I10 kk Q;refine oq (i+1) oj t I10.unpinned kk (T.keep _ _ _ P λb f o e=>(I10.pin (b,o) (pH _ (pH _ (yT f e)))).1) (λb f=>?_) Q;obtain⟨o,e,d⟩:=T.obj _ _ P b f;exact(I10.pin (b,o) (pH _ (pH _ (yT f e)))).2.1
   refine cz (oj (ht _ _ _ _ _ s8 Z8 H8 _ I8 q8) (λok b7 b5=>?_) λ_ _ z=>z.elim);obtain⟨H9',I9',a4⟩:=b5
   cases ok with
   |false=>
    have l:MM H9':=by simpa using a4
    obtain⟨k,L,w9⟩:=b3 _ l;exact cz (ff (ff (kB rfl k L (G I9' a5.get w9))))
   |true=>
    have l:te Z8 H9' NN:=by simpa using a4
    refine cz (cz (oj (he _ _ _ _ _ b7 Z8 H9' _ I9' l) (λyv s9 h9=>?_) λ_ _ z=>z.elim));refine ei h9 λy H9 I9 r9 n9=>?_;clear h9;refine nw (b8 _ _ n9) ?_;rintro xs b2 b1 ⟨k,L,w9⟩;refine cz (oj (sI (X:=blk X N' scope cl s3.heap.objs.size s3 (upd H1 a.heap.objs.size (.lst [])) fp) _ s9 Z8 H9 (.ref a.heap.objs.size) [y] (.ref a.heap.objs.size) [yv] (λ_ H'=>W (i+1) k H') I9 rfl (.cons r9 .nil) (oq _ xs y rfl rfl b2 b1 w9)) (λ_ q a2=>?_) λ_ _ z=>z.elim);refine ei a2 λ_ t I10 _ Q=>?_;clear a2;exact ff (ff (kB rfl k L (G I10 a5.get Q)))
 have e5:s3.heap.objs.size=(a.heap.push {cls:=.type "list",data:=.seq ([]:zH).toArray}).objs.size:=by rw[e3]
 rw[e5]at B;exact codeAny_compStart_list (B _ rfl) (T.self X.A 0 _ _ _ a9 (B _ rfl))
theorem EA{ok:zZ->Prop}(n:ok X.A)(o:rX X scope cl)(q:sV X N' scope ix)(hi:PIP ok X tg iter wi)
  (f:∀C a H₀ fp,PG (blk X N' scope cl C a H₀ fp) tg g) (e:∀C a H₀ fp,PTs (blk X N' scope cl C a H₀ fp) cs tc) (u:∀C a H₀ fp,PE (blk X N' scope cl C a H₀ fp) elt te) (R:VK->St->It->Hp->Prop) (p:∀Q Z J H1,R Q Z J H1->∀D,H1 D=none->∃W:Nat->Nat->Hp->Prop,(∃m,W 0 m (upd H1 D (.lst [])))/\∀i m H2,W i m H2->
 (J.stop i H2/\Q (.ref D) H2)\/(J.go i H2/\∃(N:VK)(M:Hp->Prop),(∀y H5,N y H5->∃xs,H5 D=some (.lst xs)/\xs.length<sizeLine/\∃c,c<m/\W (i+1) c (upd H5 D (.lst (xs++[y]))))/\(∀H5,M H5->∃c,c<m/\W (i+1) c H5)/\∀x H3,J.yld i H2 x H3->g x (qm ix Z) H3 λZ4 H4=>A2g (qm ix Z) Z4/\tc Z4 H4 λb H5=>if b=true then te Z4 H5 N else M H5)) (hs:∀x,foldedSetIterable iter X.env x=pure x:=by intro _;rfl):
  PE X (.ListComp elt [⟨tg,iter,cs,0⟩] scope pos) (λZ H Q=>wi Z H (R Q Z)):=by
 intro d s Z H Q I h;rw[eval_ListComp];exact EQ (use:=none) n o q hi f e u hs (S:=λD H2=>Q (.ref D) H2) (p Q Z) (λD C H5 v x r ⟨t,k⟩ _ Io=>(cb t k λl j=>(dV (.ref D) H5 (Io l j) rfl r))) I h
theorem pC(j:X.calm=true)(k:rX X scope cl)(n:sV X N' scope ix)(hi:PI X tg iter wi)
  (f:∀C d H₀ fp,PG (blk X N' scope cl C d H₀ fp) tg g) (t:∀C d H₀ fp,PE (blk X N' scope cl C d H₀ fp) elt te) (hs:∀x,foldedSetIterable iter X.env x=pure x:=by intro _;rfl):
  PE X (.ListComp elt [⟨tg,iter,[],0⟩] scope pos) (xX ix wi g te):=
 λa s Z H Q I h=>(show PE X _ (xX ix wi g te) from EA (tc:=λ_ H Q=>Q true H) (I.ok.hd j) k n hi f (λ_ _ _ _ _ _ _ _ _ I h=>wpAny_tests_nil (cb _ I h)) t _ (λ_ _ _ _ R l o=>by
  obtain⟨W,r,b⟩:=R l o;refine cb W r λi m p w=>(b i m p w).imp id λ⟨e,N,q,c⟩=>(nE e N (λ_=>False) q (λ_ z=>z.elim) ?_)
  simpa using c) hs) a s Z H Q I h
section
variable{xs:zM}
theorem NL(Pv:Nat->List V->Hp->Prop)(d:Pv 0 [] (upd H D (.lst [])))(f:∀i ys H,Pv i ys H->SqL K H a xs)
  (hs:∀i x ys H,xs[i]?=some x->Pv i ys H->g x Z₀ H λZ4 H4=>A2g Z₀ Z4/\tc Z4 H4 λb H5=>if b=true then te Z4 H5 (λy H5=>H5 D=some (.lst ys)/\ys.length<sizeLine/\Pv (i+1) (ys++[y]) (upd H5 D (.lst (ys++[y]))))else Pv (i+1) ys H5) (h:∀ys H,Pv xs.length ys H->QD H):
  ∃W:Nat->Nat->Hp->Prop,(∃m,W 0 m (upd H D (.lst [])))/\∀i m H2,W i m H2->
   ((Itl K a).stop i H2/\QD H2)\/((Itl K a).go i H2/\∃(N:VK)(M:Hp->Prop),(∀y H5,N y H5->∃xs,H5 D=some (.lst xs)/\xs.length<sizeLine/\∃c,c<m/\W (i+1) c (upd H5 D (.lst (xs++[y]))))/\(∀H5,M H5->∃c,c<m/\W (i+1) c H5)/\
    ∀x H3,(Itl K a).yld i H2 x H3->g x Z₀ H3 λZ4 H4=>A2g Z₀ Z4/\tc Z4 H4 λb H5=>if b=true then te Z4 H5 N else M H5):=by
 refine cb (λi m H=>m=xs.length-i/\i<=xs.length/\∃ys,Pv i ys H) (sM xs.length (by simp) (pG _) [] d) ?_;rintro i m H2 ⟨rfl,j,ys,p⟩;have q:=f i ys H2 p;by_cases hlt:i<xs.length
 ·refine .inr (nE (mL xs (xs[i]) q (by simp[hlt])) (λy H5=>H5 D=some (.lst ys)/\ys.length<sizeLine/\Pv (i+1) (ys++[y]) (upd H5 D (.lst (ys++[y])))) (λH5=>Pv (i+1) ys H5) (λy H5 n=>(wB ys n.1 n.2.1 (xs.length-(i+1)) (by lia) rfl hlt _ n.2.2)) (λH5 n=>(nr (xs.length-(i+1)) (by lia) rfl hlt ⟨_,n⟩)) λx H3 z=>?_);obtain⟨e,z⟩:=z;subst e;exact hs i x ys _ (z xs q) p
 ·have e:i=xs.length:=by lia
  subst e;exact .inl ⟨(cb xs q (fy _)),h ys H2 p⟩
end
section
variable{A:zZ}
end
theorem EL{α β:Type}{F:α->β->Prop}:∀{l:List α}{m:List β},Paired F l m->∀{i:Nat}{y:β},m[i]?=some y->∃x,l[i]?=some x/\F x y|_,_,.nil,i,y,e=>by simp at e|_,_,.cons r t,0,y,e=>by simp at e;subst e;exact cb _ rfl r|_,_,.cons r t,i+1,y,e=>by obtain⟨x,b,a⟩:=EL t (i:=i) (by simpa using e);exact cb x (by simpa using b) a
def Its(z:Str):It:=⟨λi _=>i<z.cps.size,λi H x a=>a=H/\∃c,z.cps[i]?=some c/\x=.str ⟨#[c]⟩,λi _=>i=z.cps.size⟩
theorem Er(it:zW)(z:Str)(t:Tok)
  (G:["enumerate","zip","dict_itemiterator","dict_reverseitemiterator","odict_iterator","itertools.zip_longest","itertools.pairwise"].contains ty=false)
  (W:∀A':zZ,A'.handled=none->Walks P w A' it [it] [it] z.cps.size (SignAt z) (λi h=>h.IsStrIter it ty z t i))
  (Wi:∀(A:zZ)(i:Nat)(s:zY)(Q:zA)(E:zA),s.heap.IsStrIter it ty z t i->Q (.ref it) s->wpAny (model P w) A (pyIter (.ref it)) Q E s):
  C6m P w K tg (Its z) [it] it (λi h=>h.IsStrIter it ty z t i) where
 mem:=by simp
 obj:=λi h a b g=>by
  have e:b=it:=by simpa using g
  subst e;obtain⟨j,e,_,d⟩:=a;exact cb j e λv z=>by rw[d]at z;cases z
 keep:=λi h n a k=>let⟨o,ho,r⟩:=a;(cb o (k it (by simp) o ho) r)
 item:=by
  intro X O y x B i f s Z H E I p a J;subst O y x;refine mM (p it (by simp)) ?_;rintro q M S F ⟨C,N⟩;refine(W _ B).item i s _ E J a λv n m T l D=>?_;obtain⟨c,u,L,rfl⟩:=T;have I1:Inv X f Z H {s with heap:=n,toks:=m}:=I.turned (t':=m) (λb j g e=>D b j (by simpa using g) e) q M F C N
  obtain⟨j,e,R,d⟩:=id l;exact cb _ rfl (uP (s:={s with heap:=n,toks:=m}) e R d G (mJ (.str ⟨#[c]⟩) H I1 ⟨u,rfl⟩ (kB rfl c L rfl) l λb g=>(p b g).1))
 done:=by intro X O y x B i f s Z H E I p a J;subst O y x;refine mM (p it (by simp)) ?_;rintro q M S F ⟨C,N⟩;cases(show i=z.cps.size from J);exact(W _ B).done s _ E a λn m D=>⟨rfl,I.turned (t':=m) (λb j g e=>D b j (by simpa using g) e) q M F C N⟩
 self:=λA i s Q E a h=>Wi A i s Q E a h
def iStr(tl:TE):TI:=λZ H R=>tl Z H λx a=>∃z,x=.str z/\R (Its z) a
theorem Iv{l:yC}(m:PE X l tl):PI X tg l (iStr tl):=by
 intro a s Z H R I h;refine thn (m a s Z H _ I h) ?_;rintro y c i;refine ei i ?_;clear i;rintro x g I1 p ⟨z,n,q⟩;subst n;obtain⟨t,rfl⟩:=(show∃t,y=Value.str z t from p)
 have j:∀b∈[c.heap.objs.size],qr X a g b:=λb k=>by
  have e:b=c.heap.objs.size:=by simpa using k
  subst e;exact I1.fpOk (fy _) (I1.hok.fresh (fy _))
 cases ha:z.cps.all (·<128)
 ·refine wpAny_pyIter_wide ha ?_;have I2:Inv X a Z g {c with heap:=c.heap.push {cls:=.type "str_iterator",data:=.fields #[.str z t,.int 0 0]},toks:=c.toks}:=I1.kept λb o e=>gc _ e
  exact nL _ [c.heap.objs.size] _ _ _ rfl I2 (Er _ z t (by decide) (λA' f=>Walks.strWide f _ z t) (λ_ _ _ _ _ d h=>wpAny_pyIter_striter_wide d h)) (fx _ (nc _ rfl) rfl rfl) j q
 ·refine wpAny_pyIter_ascii ha ?_;have I2:Inv X a Z g {c with heap:=c.heap.push {cls:=.type "str_ascii_iterator",data:=.fields #[.str z t,.int 0 0]},toks:=c.toks}:=I1.kept λb o e=>gc _ e
  exact nL _ [c.heap.objs.size] _ _ _ rfl I2 (Er _ z t (by decide) (λA' f=>Walks.strAscii f _ z t) (λ_ _ _ _ _ d h=>wpAny_pyIter_striter_ascii d h)) (fx _ (nc _ rfl) rfl rfl) j q
theorem LB:typeLookup (.type "list") "keys"=pure none:=by rw[typeLookup_type,builtinLookup_eq_fast];kernel_rfl
theorem ze:entryFor table "dict.update.loop"=some Builtin.«dict.update.loop»:=entryFor_of_tree (by kernel_rfl)
theorem uX:plainId "dict.update.loop"=true:=by decide+kernel
theorem Mr{A:zZ}{o:Obj}{k:Nat}
  (p:s.heap.get? a=some o) (n:o.cls=.type "list") (f:o.data=.seq xs k) (m:o.dict=none) (x:A.handled=none)
  (h:∀h' tk,(∀b q,s.heap.get? b=some q->h'.get? b=some q)->Q none {s with heap:=h',toks:=tk}):wpAny (model prog w) A (getAttr? (.ref a) "keys") Q E s:=by
 obtain⟨c,v,r,t⟩:=o;simp only at n f m;subst n f m;obtain⟨y,g,d,tk,u⟩:=s;have l:∀i,(⟨y,g,d,i,u⟩:zY).TypeIs (.ref a) "list":=λ_=>(cb _ p rfl);have z:=sub_AttributeError;have G:=F.slot_list_getattribute.lookup;have C:=F.slot_list_getattribute.bind (.ref a);have D:=am_list_getattr_none;unfold getAttr? getAttrBy? getAttrBy
 repeat (any_goals (first|assumption|exact l _|((with_reducible show wpAny _ _ (call (Value.builtin "list.__getattribute__") _ _) _ _ _);refine call_meets F.slot_list_getattribute (l _) am_entry_list_getattribute (F.args_list_getattribute_2 _ _) (meets_getattribute_miss_list a xs k t "keys" _ LB (by decide) (by decide)) (fI p x λh' i e j=>?_))|wp_step))
 obtain⟨H,B,I⟩:=j.there;show wpAny _ _ (getattributeRaised _ _ _ _ _ _ _) _ _ _;unfold getattributeRaised
 repeat (any_goals (first|assumption|wp_step))
 all_goals exact h _ _ j.1
section
variable{prog:yB}{w:yD}{K:Type}[DecidableEq K]{knd:KeyKind prog w K}{A:zZ}{R:Result->zY->Prop}{I l d:zW}{items:zG}{rs:List (K×zX)}{h₀:yA}{g:Array GenState}{dr:Drawn}{os:OsState}
def JY(knd:KeyKind prog w K)(h:yA)(I d:zW)(items:zG)(rs:List (K×zX)):Prop:=items.size=rs.length/\∀(i:Nat)(v:zX)(k:K)(u:zX),items[i]?=some v->rs[i]?=some (k,u)->
 ∃(b:zW)(o:Obj)(n:Nat)(a:zX),v=.ref b/\b≠I/\b≠d/\h.get? b=some o/\o.cls=.type "tuple"/\o.data=.seq #[a,u] n/\knd.is k a=true
theorem Lh(hh:A.handled=none)(j:l≠I)(hdI:d≠I)(C:d≠l)(hsz:rs.length<=sizeLine)(z:JY knd h₀ I d items rs)(hl:h₀.IsList l items)
  (O:∀h' tk,h'.DictOf knd d (merged [] rs)->(∀b o,b≠I->b≠d->h₀.get? b=some o->h'.get? b=some o)->R (.ok (.ret .none)) ⟨h',g,dr,tk,os⟩):
  ∀(k i:Nat)(h:yA)(tk:Nat),rs.length-i=k->i<=rs.length->h.IsListIter I l i->(∀b o,b≠I->b≠d->h₀.get? b=some o->h.get? b=some o)->h.DictOf knd d (merged [] (rs.take i))->
   codeAny (model prog w) A (.builtin "dict.update.loop" ⟨[.ref d,.ref I,rawInt i,.none],[]⟩) R ⟨h,g,dr,tk,os⟩:=by
 have W:=Walks.list (prog:=prog) (w:=w) (A:=A.in1) hh I l j items;intro k
 induction k with
 |zero=>
  intro i h tk hk hi m q t;have Y:i=items.size:=by have:=z.1;lia
  have x:i=rs.length:=by lia
  refine codeAny_builtin ze ?_;rw[Around.under_plainId uX _];show wpAny _ A.in1 (pyNext (.ref I)>>=_) _ _ _;refine cz (W.done ⟨h,g,dr,tk,os⟩ _ _ (by rw[<-Y];exact⟨m,hl.at λo e=>q l o j (Ne.symm C) e⟩) λh' f a=>?_);show wpAny _ A.in1 (Builtin.Dict.addKeywords d []>>=λ_=>ret Value.none) _ _ _;rw[x,na]at t;refine mF t ?_;clear t;rintro G Q S ⟨T,r⟩;refine cz (ff (ff (O h' f (pb G Q S (a d G (by simpa using hdI) T) r) λb o y Z e=>a b o (by simpa using y) (q b o y Z e))))
 |succ k ih=>
  intro i h tk hk hi m q t;have P:i<items.size:=by have:=z.1;lia
  refine codeAny_builtin ze ?_;rw[Around.under_plainId uX _];show wpAny _ A.in1 (pyNext (.ref I)>>=_) _ _ _;refine cz (W.item i ⟨h,g,dr,tk,os⟩ _ _ P ⟨m,hl.at λo e=>q l o j (Ne.symm C) e⟩ λv h' f hv B a=>?_);obtain⟨⟨k',u⟩,hku⟩:∃p,rs[i]?=some p:=⟨rs[i]'(by have:=z.1;lia),nP _⟩;refine ou (z.2 i v k' u hv hku) ?_;rintro b o n kv rfl L N ⟨hb,E,D,X⟩;have F:h'.get? b=some o:=a b o (by simpa using L) (q b o L N hb);have hT:(⟨h',g,dr,f,os⟩:zY).TypeIs (.ref b) "tuple":=(cb _ F E);show wpAny _ A.in1 (holding [Value.ref b] _>>=_) _ _ _;refine cz (qC (cz (wpAny_tryCatch ?_)));unfold Builtin.Dict.pairItems;refine cz (wpAny_typeOf hT ?_);rw[eH (by decide)];refine cz (rG F D (ff ?_));show wpAny _ A.in1 (holding [kv,u] (dictSet d kv u)) _ _ _
  have U:h'.DictOf knd d (merged [] (rs.take i)):=by refine mF t ?_;clear t;rintro G Q S ⟨T,r⟩;exact pb G Q S (a d G (by simpa using hdI) T) r
  have H:(merged [] (rs.take i)).length<=sizeLine:=by
   have e1:=merged_length_le ([]:List (K×zX)) (rs.take i);have e2:(rs.take i).length<=rs.length:=by rw[mK];lia
   simp only [pO,Nat.zero_add]at e1
   lia
  refine qC (wpAny_dictSet_pairs (hsz:=H) (s:=⟨h',g,dr,f,os⟩) X U λZ J sb=>?_);rw[<-merged_take_succ [] rs i (k',u) hku]at J;refine ff ⟨plainId_quiet uX _,ih (i+1) Z _ (by lia) (by have:=z.1;lia) ?_ ?_ J⟩
  ·exact B.1.at λo e=>(sb.2 I (Ne.symm hdI)).trans e
  ·intro c oc y M e;exact(sb.2 c M).trans (a c oc (by simpa using y) (q c oc y M e))
end
def B2g(env:Env):List (Str×zW)->Prop| []=>True|p::r=>env.cells.lookup p.1=some p.2/\B2g env r
theorem B2g.get{env:Env}:∀{cl:List (Str×zW)},B2g env cl->∀{x:Str}{c:zW},cl.lookup x=some c->env.cells.lookup x=some c
 | [],_,_,_,h=>by cases h
 |(y,d)::r,h,x,c,e=>by
  rw[rV]at e;split at e
  ·rename_i hb;have a:x=y:=by simpa using hb
   cases e
   subst a;exact h.1
  ·exact B2g.get h.2 e
theorem F9{x:Str}:∀{cl:List (Str×zW)},x∈cl.map (·.1)->∃c,cl.lookup x=some c
 | [],h=>by cases h
 |(y,d)::r,h=>by
  rw[rV]
  cases hb:(x==y)with
  |true=>exact⟨d,rfl⟩
  |false=>
   have a:x≠y:=by simpa using hb
   rcases lY.mp h with e|e
   ·exact absurd e a
   ·exact F9 e
theorem ER{xs:zC}(t:closureFor scope X.env=pure cl)(l:B2g X.env cl)(r:cl.map (·.1)=xs)(a:scope.kind=.function)(f:∀y∈scope.names,y.2≠.cell/\(y.2=.free->y.1∈xs))
  (q:∀y∈scope.names,y.2=.local->scope.names.lookup y.1=some .local):rX X scope cl where
 eq:=t
 sub:=λy d h=>l.get h
 has:=λy h=>by
  have b:y∈xs:=by
   have m:∃k,(y,k)∈(relabel scope X.env).names/\(k=.cell\/k=.free):=h.elim (λz=>(cb _ (xu z) (.inl rfl))) λz=>(cb _ (xu z) (.inr rfl));obtain⟨k,j,a⟩:=m;obtain⟨⟨n,c⟩,g,e⟩:=pd.mp j;dsimp only at e;by_cases hf:c=.free
   ·have p:n=y:=by
     split at e
     ·exact congrArg Prod.fst e
     ·exact congrArg Prod.fst e
    rw[<-p];exact(f _ g).2 hf
   ·have o:(c==NameKind.free)=false:=by simpa using hf
    simp only [o,Bool.false_and,Bool.false_eq_true,if_false]at e;have s:c=k:=congrArg Prod.snd e;subst s;rcases a with a|a
    ·exact absurd a (f _ g).1
    ·exact absurd a hf
  rw[<-r]at b;exact F9 b
 kind:=a
 ncell:=λy i=>(f y i).1
 names:=q
def C0d(X:Cx)(scope:Scope):zC->List Nat->Prop| [],[]=>True|x::xs,j::js=>(X.N[j]?=some x/\(X.env.scope.names.lookup x=some .cell\/X.env.scope.names.lookup x=some .free)/\((relabel scope X.env).names.lookup x=some .cell\/(relabel scope X.env).names.lookup x=some .free))/\C0d X scope xs js|_,_=>False
theorem C0d.get{X:Cx}{scope:Scope}:∀{xs:zC}{js:List Nat},C0d X scope xs js->xs.length=js.length/\∀(i j:Nat),js[i]?=some j->∃x,xs[i]?=some x/\X.N[j]?=some x/\(X.env.scope.names.lookup x=some .cell\/X.env.scope.names.lookup x=some .free)/\((relabel scope X.env).names.lookup x=some .cell\/(relabel scope X.env).names.lookup x=some .free)
 | [],[],_=>⟨rfl,λi j e=>by simp at e⟩
 |x::xs,j::js,h=>by
  obtain⟨e,f⟩:=C0d.get h.2;refine⟨by simp[e],λi k a=>?_⟩
  cases i with
  |zero=>simp at a;subst a;exact cb x rfl h.1
  |succ i=>exact f i k (by simpa using a)
 | [],_::_,h=>h.elim
 |_::_,[],h=>h.elim
theorem EU{xs:zC}(h:C0d X scope xs js):sV X (N0++xs) scope (List.replicate N0.length none++js.map some):=by
 obtain⟨d,b⟩:=h.get;refine⟨by simp[d],λi k e=>?_⟩;by_cases hi:i<N0.length
 ·rw[rF (by simpa using hi),List.getElem?_replicate]at e;split at e<;>cases e
 ·rw[rf (by simpa using hi),List.length_replicate,oH]at e;obtain⟨j,g,f⟩:=rg.mp e;cases f;refine nw (b _ _ g) ?_;rintro x a l ⟨c,m⟩;exact nr x (by rw[rf (by lia)];exact a) l c m
abbrev PL(H:Hp)(xs:zM)(kvs:zJ):Prop:=Paired (λ(x:V)(p:Key×V)=>∃b,x=.ref b/\H b=some (.tup [kV p.1,p.2])) xs kvs
theorem CQ{pins:zD}{Z:St}{H:Hp}{s:zY}(I:Inv X pins Z H s):∀{xs:zM}{kvs:zJ}{its:zH},PL H xs kvs->A2m xs its->
  ∃rs,KV kvs rs/\Paired (λ(v:zX)(p:Key×zX)=>∃(b:zW)(o:Obj)(n:Nat)(a:zX),v=.ref b/\s.heap.get? b=some o/\o.cls=.type "tuple"/\o.data=.seq #[a,p.2] n/\(oD X.prog X.w).is p.1 a=true) its rs
 |_,_,_,.nil,.nil=>(cb [] .nil .nil)
 |_,_,_,@Paired.cons _ _ _ x p _ _ ⟨b,e,hb⟩ t,.cons rv vs=>by
  obtain⟨rs,d,g⟩:=CQ I t vs;subst e;cases rv;refine xD (show A1p X.prog X.w H s.heap b (.tup [kV p.1,p.2]) from I.hok b _ hb) λ_ its r o h f n c=>?_
  cases r with
  |cons r1 r=>
   cases r with
   |cons r2 r=>
    cases r
    exact cb ((p.1,_)::rs) (.cons ⟨rfl,r2⟩ d) (.cons (nD b o n _ rfl h f c (vh r1)) g)
theorem Fl(E:X.calm=true):qH X (.type "dict") (λvs H Q=>∃a xs kvs,vs=[V.ref a]/\H a=some (.lst xs)/\PL H xs kvs/\∀p,H p=none->Q (.ref p) (upd H p (.dK (mo [] kvs)))):=by
 intro T s Z H vs us Q I r h;refine nF h ?_;clear h;rintro a xs kvs rfl ha U q;obtain⟨u,rfl,ru⟩:=sY r;cases ru;refine qb (I.lstM ha) ?_;rintro z f n rv ⟨hl,e⟩;obtain⟨rs,C,rp⟩:=CQ I U rv;have S:X.A.handled=none:=I.ok.hd E;have lk:kvs.length=xs.length:=(Paired.length U).symm;have lr:rs.length=kvs.length:=C.length.symm;have hn:=I.hok.fresh (fy s.heap.objs.size);refine callType_codes (Q₁:=λj W=>j=.ref s.heap.objs.size/\W={s with heap:=s.heap.push {cls:=.type "dict",data:=.dict #[]}}) F.kt_called_dict (F.kt_typeCall_dict_1 _) F.entry_dict_init (kt_code_dict_new _ ⟨rfl,rfl⟩) ?_;rintro j W ⟨rfl,rfl⟩;have c:(s.heap.push {cls:=.type "dict",data:=.dict #[]}).DictOf (oD X.prog X.w) s.heap.objs.size []:=Heap.DictOf.new s.heap;have B:(s.heap.push {cls:=.type "dict",data:=.dict #[]}).get? a=some {cls:=.type "list",data:=.seq f.toArray n}:=gc _ e;have K:Shared.TypeIs {s with heap:=s.heap.push {cls:=.type "dict",data:=.dict #[]}} (.ref a) "list":=(cb _ B rfl);refine fI c.typeIs (F.args_dict_init_2 _ _) ?_;unfold Builtin.«dict.__init__»;refine cz ?_;unfold Builtin.Dict.selfAndRest;refine cz (wpAny_notOrdered_dict c.typeIs ?_);show wpAny _ _ (pure (s.heap.objs.size,[Value.ref a])) _ _ _;refine ff ?_;show wpAny _ _ (Builtin.Dict.updateFrom "dict.__init__" s.heap.objs.size (.ref a) [] .none) _ _ _;unfold Builtin.Dict.updateFrom;refine cz (wpAny_typeOf K ?_);rw[eH (by decide)];refine cz (Mr (o:={cls:=.type "list",data:=.seq f.toArray n}) B rfl rfl rfl (by simpa using S) λt L d=>?_)
 rw[eH (show(none:zN).isNone=true from rfl)];refine cz (wpAny_rule ?_);have y:t.IsList a f.toArray:=(sM _ (d _ _ B) rfl n rfl);refine cz (wpAny_pyIter_list (s:={s with heap:=t,toks:=L}) y ?_);have la:a<t.objs.size:=lI (d _ _ B);have O:s.heap.objs.size<t.objs.size:=let⟨_,_,_,g,_⟩:=c;lI (d _ _ g);have G:a<s.heap.objs.size:=lI e;refine ff ⟨plainId_quiet uX _,Lh (knd:=oD X.prog X.w) (rs:=rs) (l:=a) (items:=f.toArray) (h₀:=t.push {cls:=.type "list_iterator",data:=.fields #[.ref a,.int 0 0]}) (by simpa using S) (mG la) (mG O) (pP G) (by lia) ?_ (y.push _) ?_ rs.length 0 _ _ (by lia) (pG _) (fx _ (nc _ rfl) rfl rfl) (λ_ _ _ _ z=>z) ?_⟩
 ·refine⟨by simp;lia,λi v k u D M=>?_⟩;refine qa (EL rp M) ?_;rintro x hx b o m ⟨C,ev,P,Y,g3,g4⟩
  have ex:x=v:=by
   have D:f[i]?=some v:=by simpa using D
   rw[hx]at D;exact rJ D
  subst ex;have R:=lI P;exact og b o m C ev (mG (Nat.lt_trans R O)) (mG R) (gc _ (d _ _ (gc _ P))) Y ⟨g3,g4⟩
 ·intro h' tk dd kp;refine nE rfl (.ref s.heap.objs.size) _ (I.laid (t':=tk) (o:=.dK (mo [] kvs)) (λb u J=>kp b u (mG (Nat.lt_trans (lI J) O)) (mG (lI J)) (gc _ (d _ _ (gc _ J)))) (fy _) (nu ?_ ?_ _ (KV.merge C .nil) dd)) rfl (q _ hn)
  ·have:=wy kvs [];simp only [pO]at this
   lia
  ·have:=I.big;have N:s.heap.objs.size≠sysModules:=pP this
   simpa using N
 ·refine mF c ?_;clear c;rintro od es ep ⟨g,r⟩;exact pb od es ep (gc _ (d _ _ g)) r
abbrev Lj:=@Dv true true
abbrev Kd{K:Frag}{a b:zW}{xs ys:zM}{g:TG}{tb:TS}{D:pJ}{Z:St}{H:Hp}(Pv:Nat->St->Hp->Prop)(e:Pv 0 Z H)(d:∀i Z H,Pv i Z H->SqL K H a xs/\SqL K H b ys)(c:xs.length=ys.length):=Ki (k1:=true) (k2:=true) (g:=g) (tb:=tb) (D:=D) Pv e d (Nat.le_of_eq c)
theorem uW(n:Nat)(Pv:Nat->List V->Hp->Prop)(d:Pv 0 [] (upd H D (.lst [])))(b:∀i ys H,i<n->Pv i ys H->J.go i H)(a:∀ys H,Pv n ys H->J.stop n H)
  (hs:∀i ys H,i<n->Pv i ys H->∀x H3,J.yld i H x H3->g x Z₀ H3 λZ4 H4=>A2g Z₀ Z4/\te Z4 H4 λy H5=>H5 D=some (.lst ys)/\ys.length<sizeLine/\Pv (i+1) (ys++[y]) (upd H5 D (.lst (ys++[y])))) (f:∀ys H,Pv n ys H->QD H):
  ∃W:Nat->Nat->Hp->Prop,(∃m,W 0 m (upd H D (.lst [])))/\∀i m H2,W i m H2->
   (J.stop i H2/\QD H2)\/(J.go i H2/\∃N:VK,(∀y H5,N y H5->∃xs,H5 D=some (.lst xs)/\xs.length<sizeLine/\∃c,c<m/\W (i+1) c (upd H5 D (.lst (xs++[y]))))/\
    ∀x H3,J.yld i H2 x H3->g x Z₀ H3 λZ4 H4=>A2g Z₀ Z4/\te Z4 H4 N):=by
 refine cb (λi m H=>m=n-i/\i<=n/\∃ys,Pv i ys H) (sM n (by simp) (pG _) [] d) ?_;rintro i m H2 ⟨rfl,h,ys,p⟩;by_cases hlt:i<n
 ·exact .inr (kB (b i ys H2 hlt p) (λy H5=>H5 D=some (.lst ys)/\ys.length<sizeLine/\Pv (i+1) (ys++[y]) (upd H5 D (.lst (ys++[y])))) (λy H5 z=>(wB ys z.1 z.2.1 (n-(i+1)) (by lia) rfl hlt _ z.2.2)) λx H3 z=>hs i ys H2 hlt p x H3 z)
 ·have e:i=n:=by lia
  subst e;exact .inl ⟨a ys H2 p,f ys H2 p⟩
theorem KP(h:X.K=K):IxR X (zn K):=h▸sF
theorem DN(h:X.K=K):IxR X (vH K):=h▸CU
theorem Lq(h:X.K=K):SlR X (BW K):=h▸qg
theorem Ax{b:Bool}(h:mroIn K C (.type U)=some b)(a:PySem.W.kitMeta U=true):∀u,A2z (.ty U) u->kitOne K (.ref C) u=some b:=by intro u z;cases(show u=Value.type U from z);unfold kitOne;rw[fa (show¬(Value.ref C==Value.type U)=true from nA)];show(if PySem.W.kitMeta U=true then subIn K (.ref C) (.type U)else none)=some b;rw[eH a];exact h
theorem A3i.or{k:Nat}(F:A3i P w K mg base CX k f fd ps sp)(e:A3i P w K mg base CX k f fd ps sp'):
  A3i P w K mg base CX k f fd ps (λvs H Q E=>sp vs H Q E\/sp' vs H Q E):=
 ⟨λvs H Q E q=>q.elim (F.len vs H Q E) (e.len vs H Q E),λA a s H b h vs Q E g i c d q=>q.elim (F.run A a s H b h vs Q E g i c d) (e.run A a s H b h vs Q E g i c d)⟩
theorem NC(acc ws:zJ)(w:Key×V):mo acc (ws++[w])=my (mo acc ws) w.1 w.2:=by unfold mo;rw[List.foldl_append];rfl
theorem Eg(w:X.N.Nodup)(p:X.N[i₀]?=some x₀)(q:Loc X.env.scope x₀)(O:X.calm=true)(ck:rX X scope cl)(Q:sV X N' scope ix)(hi:PI X tg iter wi)
  (E:∀C k H₀ fp,PG (blk X N' scope cl C k H₀ fp) tg g) (K:∀C k H₀ fp,PTs (blk X N' scope cl C k H₀ fp) cs tc) (Y:∀C k H₀ fp,PE (blk X N' scope cl C k H₀ fp) elt te) (R:pJ->St->It->Hp->Prop) (P:∀D Z J H1,R D Z J H1->∀D2,H1 D2=none->∃W:Nat->Nat->Hp->Prop,(∃m,W 0 m (upd H1 D2 (.lst [])))/\∀i m H2,W i m H2->
   (J.stop i H2/\D.nx (Z.set i₀ (some (.ref D2))) H2)\/(J.go i H2/\∃(N:VK)(M:Hp->Prop),(∀y H5,N y H5->∃xs,H5 D2=some (.lst xs)/\xs.length<sizeLine/\∃d,d<m/\W (i+1) d (upd H5 D2 (.lst (xs++[y]))))/\(∀H5,M H5->∃d,d<m/\W (i+1) d H5)/\∀x H3,J.yld i H2 x H3->g x (qm ix Z) H3 λZ4 H4=>A2g (qm ix Z) Z4/\tc Z4 H4 λb H5=>if b=true then te Z4 H5 N else M H5)) (hs:∀x,foldedSetIterable iter X.env x=pure x:=by intro _;rfl)
  (l:swapsWith (.ListComp elt [⟨tg,iter,cs,0⟩] scope pos) (some (.Name x₀ pos₀)) spos.line X.env=pure true:=by rfl) (n:X.fn x₀=true\/X.env.scope.names.lookup x₀=some .local:=by first|exact .inl rfl|exact .inr rfl|assumption):
  PS X (.Assign [.Name x₀ pos₀] (.ListComp elt [⟨tg,iter,cs,0⟩] scope pos) spos) (λD Z H=>wi Z H (R D Z)):=by
 intro j s Z H D₀ I h;rw[exec_Assign_Name_used _ _ _ _ l];refine cz (uZ (cz ?_));show wpAny _ X.A (do let _<-comprehension (.ListComp elt [⟨tg,iter,cs,0⟩] scope pos) scope X.env _ (newList []) false (eval iter X.env) (some (assign (.Name x₀ pos₀) X.env))) _ _ s;refine cz (oj (EQ (use:=some (assign (.Name x₀ pos₀) X.env)) (I.ok.hd O) ck Q hi E K Y hs (S:=λD2 H2=>D₀.nx (Z.set i₀ (some (.ref D2))) H2) (P D₀ Z) (Qf:=λ_ G=>∃Z' F,Inv X j Z' F G/\D₀.nx Z' F) (λD C H5 s6 x qn B c Io=>?_) I h) (λ_ G hq=>ff (ff hq)) λ_ _ e=>e);have Io:=Io _ (Heap.SameBut.refl _ _);show wpAny _ X.A (assign (.Name x₀ pos₀) X.env (.ref D)) _ _ s6;refine wpAny_assign_Name (EH Io w p q (v:=.ref D) rfl (λs7 I7 u=>?_) n);obtain⟨a,sb,f⟩:=u
 have L:C≠a:=by
  rcases f with f|f
  ·rw[f];exact c.2.1
  ·exact λz=>c.2.2.2.2.1 _ _ f z.symm
 refine mF B ?_;clear B;rintro U oC T ⟨ep,ho,r⟩;exact cb U (pb oC T ep ((sb.2 _ L).trans ho) r) λh' t=>(mL _ H5 (I7.turned (t':=s7.toks) (λb o hb e=>(t.2 b hb).trans e) c.1 c.2.1 c.2.2.2.1 c.2.2.2.2.1 c.2.2.2.2.2) qn)
theorem Dr(k:X.N.Nodup)(e:X.N[i₀]?=some x₀)(f:Loc X.env.scope x₀)(o:X.calm=true)(p:rX X scope cl)(r:sV X N' scope ix)(hi:PI X tg iter wi)
  (n:∀C j H₀ fp,PG (blk X N' scope cl C j H₀ fp) tg g) (y:∀C j H₀ fp,PE (blk X N' scope cl C j H₀ fp) elt te) (hs:∀x,foldedSetIterable iter X.env x=pure x:=by intro _;rfl)
  (c:swapsWith (.ListComp elt [⟨tg,iter,[],0⟩] scope pos) (some (.Name x₀ pos₀)) spos.line X.env=pure true:=by rfl) (d:X.fn x₀=true\/X.env.scope.names.lookup x₀=some .local:=by first|exact .inl rfl|exact .inr rfl|assumption):
  PS X (.Assign [.Name x₀ pos₀] (.ListComp elt [⟨tg,iter,[],0⟩] scope pos) spos) (xK (xX ix wi g te) (qK i₀)):=
 Eg (tc:=λ_ H Q=>Q true H) k e f o p r hi n (λ_ _ _ _ _ _ _ _ _ I h=>wpAny_tests_nil (cb _ I h)) y _ (λ_ _ _ _ R q s=>by
  obtain⟨W,v,a⟩:=R q s;refine cb W v λi m t w=>(a i m t w).imp id λ⟨l,N,u,b⟩=>(nE l N (λ_=>False) u (λ_ z=>z.elim) ?_)
  simpa using b) hs c d
theorem Lw{c:yC}(d:X.N.Nodup)(i:X.N[i₀]?=some x₀)(j:Loc X.env.scope x₀)(m:X.calm=true)(n:rX X scope cl)(o:sV X N' scope ix)(hi:PI X tg iter wi)
  (l:∀C a H₀ fp,PG (blk X N' scope cl C a H₀ fp) tg g) (k:∀C a H₀ fp,PT (blk X N' scope cl C a H₀ fp) c tc) (p:∀C a H₀ fp,PE (blk X N' scope cl C a H₀ fp) elt te) (hs:∀x,foldedSetIterable iter X.env x=pure x:=by intro _;rfl)
  (e:swapsWith (.ListComp elt [⟨tg,iter,[c],0⟩] scope pos) (some (.Name x₀ pos₀)) spos.line X.env=pure true:=by rfl) (f:X.fn x₀=true\/X.env.scope.names.lookup x₀=some .local:=by first|exact .inl rfl|exact .inr rfl|assumption):
  PS X (.Assign [.Name x₀ pos₀] (.ListComp elt [⟨tg,iter,[c],0⟩] scope pos) spos) (xK (Jk ix wi g tc te) (qK i₀)):=
 Eg d i j m n o hi l (λC a H₀ fp b s Z H Q I h=>wpAny_tests_one (k C a H₀ fp b s Z H Q I h)) p _ (λ_ _ _ _ R=>R) hs e f
theorem Fa{xs:zM}{its:zH}(r:A2m xs its):∀js:List Nat,A2m (js.filterMap (xs[·]?)) (js.filterMap (its[·]?))
 | []=>.nil
 |j::js=>by
  have d:=r.length;have t:=Fa r js
  cases hx:xs[j]? with
  |none=>
   have a:its[j]?=none:=by rw[List.getElem?_eq_none_iff]at hx⊢;lia
   rw[List.filterMap_cons_none hx,List.filterMap_cons_none a];exact t
  |some x=>obtain⟨u,b,c⟩:=r.get hx;rw[List.filterMap_cons_some hx,List.filterMap_cons_some b];exact .cons c t
def zi(K:Frag)(te:TE)(tl th:TO)(ts:TE):TE:=λZ H Q=>te Z H λx f=>tl Z f λl g=>th Z g λu e=>ts Z e λy c=>∃a d i k,x=.ref a/\l=some i/\u=none/\y=.int k/\0<=i/\0<k/\SqL K c a d/\∀p b,c p=none->b.length<=d.length->(∀z∈b,z∈d)->Q (.ref p) (upd c p (.lst b))
theorem Ky{a k:Int}(d:0<=a)(b:0<k):((if k>0 then (if a<(n:Int)then ((n:Int)-a+k-1)/k else 0)else (if a>(n:Int)then (a-(n:Int)-k-1)/(-k)else 0)):Int).toNat<=n:=by
 rw[eH b];split
 ·have c:((n:Int)-a+k-1)/k<=(n:Int)-a:=by
   have e:(n:Int)-a+k-1=((n:Int)-a-1)+1*k:=by lia
   rw[e,Int.add_mul_ediv_right _ _ (by lia)];have:=Int.ediv_le_self k (show 0<=(n:Int)-a-1 by lia)
   lia
  lia
 ·exact pG _
theorem Mt{e st:yC}{ts:TE}{tl th:TO}(he:PE X e te)(hl:PO X lo tl)(W:PO X hi th)(D:PE X st ts):PE X (.Subscript e (.Slice lo hi (some st) p2) pos) (zi X.K te tl th ts):=by
 intro d s Z H Q I h;refine Subscript_ (thn (he d s Z H _ I h) ?_);refine λv s1 f=>ei f λx R I1 r1 U=>?_;clear f;refine wpAny_Slice (thn (hl d s1 Z R _ I1 U) ?_);refine λG Y f=>ei f λl H2 I2 pl E=>?_;clear f;refine thn (W d Y Z H2 _ I2 E) ?_;refine λM s3 f=>ei f λu O I3 N q3=>?_;clear f;rw[evalPart_some];refine thn (D d s3 Z O _ I3 q3) ?_;refine λvs g f=>ei f λy H4 I4 r4 J=>?_;clear f;refine ou J ?_;clear J;rintro a m i k rfl rfl rfl ⟨rfl,h0,p,hq,q⟩;cases r1;obtain⟨C,rfl⟩:=(show∃t,vs=Value.int k t from r4);have I5:Inv X d Z H4 {g with heap:=g.heap.push {cls:=.type "slice",data:=.fields #[G,M,.int k C]}}:=I4.kept (t':=g.toks) λb S q=>gc _ q
 obtain⟨c,r,F,hz⟩:=I5.list hq;have L:=r.length;show wpAny (model X.prog X.w) X.A (subscriptTail e (.Slice lo hi (some st) p2) (.ref a) (.ref g.heap.objs.size)) (EP X d Z Q) X.xe {g with heap:=g.heap.push {cls:=.type "slice",data:=.fields #[G,M,.int k C]}};refine tail_any (ops:=[.ref a,.ref g.heap.objs.size]) (T:="list") F.isList.typeIs slot_list_getitem.lookup ?_ (by with_unfolding_all rfl);refine wpAny_getItem_list_slice F.isList (Heap.IsSliceOf.new ..) pl N (.int k C) (by intro z;cases z;lia) ?_ (by rw[oz]<;>lia);generalize hjs:sliceRange (sliceBounds (some i) none (some k) c.toArray.size).1 (sliceBounds (some i) none (some k) c.toArray.size).2.1 (sliceBounds (some i) none (some k) c.toArray.size).2.2=js
 have hp:slicePick c.toArray (some i) none (some k)=(js.filterMap (c[·]?)).toArray:=by unfold slicePick;rw[hjs];simp
 have P:js.length<=c.length:=by
  rw[<-hjs];have b1:(sliceBounds (some i) none (some k) c.toArray.size).2.1=((c.length:Nat):Int):=by simp[sliceBounds,p]
  have b2:(sliceBounds (some i) none (some k) c.toArray.size).2.2=k:=by simp[sliceBounds]
  have b3:0<=(sliceBounds (some i) none (some k) c.toArray.size).1:=by
   simp only [sliceBounds,Option.getD_some,p,if_true,show¬i<0 by lia,if_false]
   lia
  rw[b1,b2];unfold sliceRange;rw[dm,List.length_range];exact Ky b3 p
 rw[hp]
 have B:(js.filterMap (m[·]?)).length<=m.length:=by
  have:=List.length_filterMap_le (m[·]?) js
  lia
 refine dV (.ref _) _ (I5.laid (t':=g.toks) (o:=.lst (js.filterMap (m[·]?))) (λb S q=>gc _ q) (fy _) ?_) rfl (q _ _ (I5.hok.fresh (fy _)) B λz n=>?_)
 ·exact qP (by lia) _ 0 (Fa r js) (nc _ rfl)
 ·obtain⟨j,_,e⟩:=List.mem_filterMap.mp n;exact me e
theorem J9(z:X.calm=true):qH X (.builtin "sum") (λvs H Q=>∃(a:zW)(ns:zI),vs=[V.ref a]/\SqL X.K H a (ns.map V.int)/\∀i:Int,Q (.int i) H):=by
 intro x s Z H vs N Q I r h;refine ei h ?_;clear h;rintro a ns rfl M q;obtain⟨u,rfl,m⟩:=sY r;cases m;have L:X.A.handled=none:=I.ok.hd z;obtain⟨c,p,j,_⟩:=I.list M;have la:a<s.heap.objs.size:=let⟨_,e,_⟩:=j.isList;lI e;refine call_sum_walkAnyS (wpAny_pyIter_list j.isList ?_);refine qB s.heap.objs.size [s.heap.objs.size,a] [s.heap.objs.size] (nL (λa b=>b=a) c.toArray.size (λi v=>c.toArray[i]?=some v) (λi d=>d.heap.IsListIter s.heap.objs.size a i/\d.heap.IsList a c.toArray) (λi=>ns.getD i 0) rfl ((Walks.list (prog:=X.prog) (w:=X.w) (A:=X.A.in1) (by simpa using L) s.heap.objs.size a (mG la) c.toArray).toS) ⟨(fx _ (nc _ rfl) rfl rfl),j.isList.push _⟩ (λb y=>?_) (λi v f=>?_) λd t' g=>?_)
 ·simp only [lY,qQ,or_false]at y;show b<(s.heap.push _).objs.size;rw[rW];rcases y with rfl|rfl
  ·exact Nat.lt_succ_self _
  ·exact Nat.lt_succ_of_lt la
 ·have f:c[i]?=some v:=by simpa using f
  have k:i<(ns.map V.int).length:=by rw[p.length];exact(ml.mp f).1
  have C:(ns.map V.int)[i]?=some (V.int (ns.getD i 0)):=by rw[dm]at k;rw[oH,nP k];simp[k]
  obtain⟨u,t,m⟩:=p.get C;rw[f]at t;cases t;exact m
 ·obtain⟨h',G,B,l,n⟩:=d;have J:G=s.gens:=g.gens;have D:B=s.drawn:=g.drawn;have F:n=s.os:=g.os;subst J D F;refine dV (.int _) H (I.kept (t':=l) (h':=h') λb o e=>g.heap b o (by simpa using mG (lI e)) (gc _ e)) ⟨t',rfl⟩ (q _)
end L2
namespace PySem.W
open PySem PySem.Spec PySem.Calls PyProof.Rows
def excInG(K:Frag)(C:zW)(i:zN)(bmB:zH)(newId:String):Bool:=match K.lookup C with
 |some ⟨.type "type",_,.cls cd,sl⟩=>(match cd.mro,sl.toList with|.ref C'::bm,[_,_,_,_,some (.builtin n),_]=>C'==C&&n==newId&& ! cd.hasDel&&tailIn K bmB bm&&nsOkIn K cd.ns&&nsIn K cd.ns "__init__"==some i|_,_=>false)
 |_=>false
end PySem.W
namespace L2
open PySem PySem.Spec PyProof.Rows
variable{yp pos p npos hpos epos cpos Q:Pos}{y x qual n:Str}{w:yD}{v cd c a0:zX}{th:zW->TS}{t:TA}{suite:List Stmt}{sp:Sp}{scope:Scope}{s1 s:zY}{rest hs:List ExceptHandler}{ps N:zC}{pins:zD}{outer:List Env}{o:HO}{newId:String}{mg m:zE}{i:Nat}{h₀:ExceptHandler}{h1 h' h base B:yA}{fd:zS}{f ea a D C' C:zW}{es:zT}{e:yC}{b₀:Stmt}{bmB:zH}{b:Bool}{Z:St}{X:Cx}{P:yB}{M:Model}{K:Frag}{H1 H' H:Hp}{E:XK}{A:zZ}
theorem A1p.at18(x:A1p P w H h a o):∃u,h.get? a=some u:=by
 cases o with
 |lst xs=>(refine qb x λ_ _ _ _ e=>?_;clear x);exact⟨_,e⟩
 |tup xs=>obtain⟨_,_,_,o,e,_⟩:=x;exact⟨_,e⟩
 |dK kvs=>(refine rE x λ_ _ _ _ o _ _ e _=>?_;clear x);exact⟨_,e⟩
 |dT kvs=>(refine rE x λ_ _ _ _ o _ _ e _=>?_;clear x);exact⟨_,e⟩
 |set S n=>(refine mF x ?_;clear x;rintro o _ _ ⟨_,e,_⟩);exact⟨_,e⟩
 |ins C dx fs=>(refine mM x λ_ _ _ e _=>?_;clear x);exact⟨_,e⟩
 |own y=>obtain⟨_,e⟩:=x;exact⟨_,e⟩
 |xd fs=>obtain⟨_,⟨_,_,_,e,_⟩,_⟩:=x;exact⟨_,e⟩
 |rng lo hi=>obtain⟨_,_,_,e⟩:=x;exact⟨_,e⟩
 |frz ob u=>obtain⟨e,_⟩:=x;exact⟨_,e⟩
 |tbl ps=>exact⟨_,(show h.get? a=some _ from x)⟩
 |met f y=>exact⟨_,(show h.get? a=some _ from x)⟩
 |ext φ=>obtain⟨_,⟨_,e⟩,_⟩:=x;exact⟨_,e⟩
theorem Ec(I:Inv X pins Z H1 s1)(G:X.ex=[])(u:Un (frs X.stack) [] H1 H' s1.heap h1)(B1:∀b o,X.s₀.heap.get? b=some o->b∉X.fs->∃o',B.get? b=some o')(p:B.StaysIn h1)(f:B.StaysIn h')(y:h1.UpToSlots h'):Un X.fs [] X.H₀ H' X.s₀.heap h':=by
 have a:Un X.fs [] X.H₀ H1 X.s₀.heap s1.heap:=by have z:=I.base;rw[G]at z;exact z
 have d:∀b:zW,b∉([]:zQ):=λb=>by simp
 have s:∀b o,X.s₀.heap.get? b=some o->b∉X.fs->b∉frs X.stack:=λb o e c m=>(lY.mp (I.stkSub b m)).elim (mG (oV (lI e) I.ok.above)) c
 have g:∀b o,X.s₀.heap.get? b=some o->X.H₀ b=none->b∈X.fs->∃l,h'.get? b=some {o with slots:=l}:=λb o e n c=>by obtain⟨l,h⟩:=a.slot b o e n c (d b);obtain⟨C,i⟩:=u.any h (a.free b o e n (d b)) (d b);obtain⟨_,J,t,A⟩:=I.ok.funs.mem c;rw[e]at t;cases t;obtain⟨r,k⟩:=y b _ i A;exact⟨r,k⟩
 refine⟨λb o e n c _=>?_,λb o e n c _=>g b o e n c,λb o e n _=>?_,λb o e _=>?_,λb w e=>u.tups b w (a.tups b w e),λb o v e=>u.frzs b o v (a.frzs b o v e),λb F e=>?_⟩
 ·have i:=u.keep b o (a.keep b o e n c (d b)) (a.free b o e n (d b)) (s b o e c) (d b);obtain⟨o',j⟩:=B1 b o e c;have k:=p b o' j;rw[i]at k;cases k;exact f b o j
 ·obtain⟨D,h⟩:=a.there b o e (d b);exact u.free b D h (a.free b o e n (d b)) (d b)
 ·by_cases c:b∈X.fs
  ·obtain⟨l,q⟩:=g b o e (I.ok.frf b c) c;exact⟨_,q⟩
  ·obtain⟨o',j⟩:=B1 b o e c;exact⟨o',f b o' j⟩
 ·obtain⟨H,h⟩:=a.tbls b F e;obtain⟨x,i⟩:=u.tbls b _ h;exact⟨H++x,by rw[i,Array.append_assoc]⟩
theorem CP(I:Inv X pins Z H1 s1)(f:X.ex=[])(u:Un (frs X.stack) [] H1 H' s1.heap h1)(c:∀b o,s1.heap.get? b=some o->b∉frs X.stack->∃o',B.get? b=some o')(d:B.StaysIn h1)(a:B.StaysIn h')(j:h1.UpToSlots h'):
  Un X.fs [] X.H₀ H' X.s₀.heap h'/\∀b o,X.s₀.heap.get? b=some o->b∉X.fs->∃o',B.get? b=some o':=by
 have g:∀b o,X.s₀.heap.get? b=some o->b∉X.fs->∃o',B.get? b=some o':=λb o e h=>by obtain⟨k,i⟩:=I.base.there b o e (by rw[f];simp);exact c b k i λm=>(lY.mp (I.stkSub b m)).elim (mG (oV (lI e) I.ok.above)) h
 exact⟨Ec I f u g d a j,g⟩
theorem yk(ok:HOk P w H' h1)(b2:∀b o,H' b=some o->∃o',B.get? b=some o')(f:B.StaysIn h1)(c:B.StaysIn h'):HOk P w H' h':=λa o e=>
 (ok a o e).stay (λb u d q=>by
  have:∃o',B.get? b=some o':=by
   rcases d with rfl|d
   ·exact b2 _ _ e
   ·exact b2 _ _ d
  obtain⟨o',g⟩:=this;have z:=f b o' g;rw[q]at z;cases z
  exact c b u g) (λ_ q=>q) λ_ _ q=>q
def Dj(X:Cx)(C:zW)(E:XK):Prop:=∀(a:zD)(Z:St)(H:Hp)(s:zY)(b:yA)(e:zW)(c:zH),Inv X a Z H s->Heap.MadeExcOf s.heap b e (.ref C) c->E (.ref C) none H->X.xe (.ref e) {s with heap:=b}
theorem GT{N:zW}(X:K.In h)(G:h.Ns N m)(e:nsIn K N x=some (some v)):m x=some v:=by
 refine nF G λg f _ d a _ b=>?_;clear G;unfold nsIn at e;split at e
 case h_2=>cases e
 case h_1 _ _ row' _ _ lk=>
  have c:=X _ _ lk;rw[d]at c;cases c;cases a;split at e
  case h_2=>split at e<;>cases e
  case h_1 en found=>
   cases e
   rw[<-b];unfold nsFind findBy;rw[<-Array.find?_toList,found];rfl
theorem AL{i:zN}(X:K.In h)(q:PySem.W.excInG K C i bmB newId=true):
  ∃(nm g:Str)(N:zW)(bs bm:zH)(hdct:Bool)(sn:zC)(sub:zH)(ab:Bool)(col:Option Bool)(dd:zO)(k0 k1 k2 k3 k5:zN)(mN:zE),
   h.get? C=some (excClassObj nm g C N bs bm hdct sn sub ab col dd k0 k1 k2 k3 k5 newId)/\h.Ns N mN/\mN "__init__"=i/\OwnTail h bmB bm:=by
 cases lk:K.lookup C with
 |none=>simp[PySem.W.excInG,lk]at q
 |some ob=>
  have a:=X _ _ lk;unfold PySem.W.excInG at q;rw[lk]at q;split at q
  case h_2=>cases q
  case h_1 dct cls parts same=>
   injection same with same;subst same;split at q
   case h_2=>cases q
   case h_1 own tl p0 p1 p2 p3 made p5 along row=>
    repeat rw[uh]at q
    have j:own=C:=beq_iff_eq.mp q.1.1.1.1.1;have e:made=newId:=beq_iff_eq.mp q.1.1.1.1.2;have c:cls.hasDel=false:=by simpa using q.1.1.1.2
    have b:=beq_iff_eq.mp q.2;subst j e;have f:parts=#[p0,p1,p2,p3,some (.builtin made),p5]:=Array.toList_inj.mp row;rw[f]at a;cases cls;dsimp only at along c b q;rw[along,c]at a;have d:=Heap.Ns.of_isNs (PySem.W.isNs_of_in X q.1.2);refine oi _ _ (qB _ _ tl (oT _ _ _ _ _ dct p0 p1 p2 (mh p3 p5 _ a d ?_ (PySem.W.tail_of_in X q.1.1.2))))
    cases i with
    |none=>exact PySem.W.nsMap_none_of_in X q.1.2 b
    |some v=>exact GT X d b
abbrev uL:zH:=[.type "ValueError",.type "Exception",.type "BaseException",.type "object"]
def Hn(C:zW)(E:XK)(t:TA):TS:=λ_ Z H=>t Z H λa b=>a.length<=sizeLine/\E (.ref C) none b
theorem qZ(G:Dj X C E)(q:PySem.W.excInG X.K C none uL "ValueError.__new__"=true)(P:Gl X x)(J:X.mg x=some (.ref C))(L:X.calm=true)
  (R:PA X (e::es) t) (p:(x==("__debug__":Str))=false:=by decide) (z:starEach (e::es) X.env=(false,eval e X.env)::starEach es X.env:=by rfl) (n:(backTo cpos (starEach es X.env)).any (·.1)=false:=by rfl):
  PS X (.Raise (some (.Call (.Name x Q) (e::es) [] cpos)) none pos) (Hn C E t):=by
 intro g s Z H D I h;refine pZ (AL I.mod.kin q) ?_;rintro nm A N bs bm hdct sn sub ab ⟨col,dd,k0,k1,k2,k3,k5,mN,B,U,m,T⟩;have u:∀{f:zY}{Z2:St}{v:Hp},Inv X g Z2 v f->∀b o,X.base.get? b=some o->f.heap.get? b=some o:=λI2=>I2.bk
 have j:(backTo cpos (starEach (e::es) X.env)).any (·.1)=false:=by rw[z];exact n
 refine wpAny_Raise_call_subU (C:=C) (nm:=nm) (q:=A) (N:=N) (bs:=bs) (bm:=bm) (hdct:=hdct) (sn:=sn) (sub:=sub) (ab:=ab) (col:=col) (dd:=dd) (k0:=k0) (k1:=k1) (k2:=k2) (k3:=k3) (k5:=k5) (mN:=mN) (bmB:=uL)
  PySem.F.excBase_ValueError (by decide+kernel) PySem.F.excBase_ValueError (T.hasType (by decide+kernel)) (I.ok.hd L) j m ?_
 refine ub I P J ⟨rfl,?_⟩ p
 have y:=thn (R cpos g s Z H _ I h) (Q':=λi f=>i.length<=sizeLine/\f.heap.get? C=some (excClassObj nm A C N bs bm hdct sn sub ab col dd k0 k1 k2 k3 k5 "ValueError.__new__")/\f.heap.Ns N mN/\OwnTail f.heap uL bm/\
    ∀l e,Heap.MadeExcOf f.heap l e (.ref C) i->X.xe (.ref e) {f with heap:=l}) λi f ⟨Y,v,I2,r,S,O⟩=>
  (lP (r.length▸S) (u I2 _ _ B) (U.keeps (u I2)) (T.keeps (u I2)) λl e M=>G g Z v f l e i I2 M O)
 rw[z]at y⊢;exact Calls.evalArgs_plain (thn y (by (refine λi f w=>mM w λa b c d k=>?_;clear w);exact⟨rfl,(lP a b c d k)⟩))
abbrev Cx.held(X:Cx)(ea:zW):Cx:={X with A:=X.A.mark (some (.ref ea)),calm:=false,xe:=λ_ _=>False}
theorem Cx.Ok.held(ok:X.Ok)(ea:zW):(X.held ea).Ok :=⟨ok.mod,ok.kind,ok.glob,ok.blt,ok.above,ok.inj,ok.has,ok.cab,λz=>(by cases z),ok.frames,ok.stk,ok.exf,ok.bs,ok.bsz,ok.noex,ok.exfs,ok.funs,ok.frf⟩
theorem Inv.held(I:Inv X pins Z H s)(ea:zW):Inv (X.held ea) pins Z H s:=⟨I.ok.held ea,I.os,I.bare,I.base,I.loc,I.cell,I.free,I.freeC,I.pin,I.hok,I.len⟩
theorem Inv.unheld(I:Inv (X.held ea) pins Z H s)(ok:X.Ok):Inv X pins Z H s:=⟨ok,I.os,I.bare,I.base,I.loc,I.cell,I.free,I.freeC,I.pin,I.hok,I.len⟩
theorem yQ{E:zA}{Q:Unit->zY->Prop}(I:Inv X pins Z H s)(L:X.N.Nodup)(hi:X.N[i]?=some x)(a:X.env.scope.names.lookup x=some .local)
  (h:∀s',Inv X pins (Z.set i none) H s'->Q () s'):wpAny M A (do bindName X.env x .none;unbindBehindTheSuite X.env x pos) Q E s:=by
 refine cz (wpAny_bindName (xn (v:=.non) (u:=.none) I L hi (.inl a) rfl (λs1 I1=>?_) (.inr a)));unfold unbindBehindTheSuite;refine wpAny_onRaise ?_;obtain⟨m,F,K⟩:=id I1.loc;have t:(X.env.scope.kind==.class||(X.env.scope.kind==.module&&X.env.locals != X.env.globals))=false:=by rw[I1.ok.kind];rfl
 have l:i<Z.length:=by rw[I.len];exact(ml.mp hi).1
 have r:=I1.cne;have G:X.env.kindOf x=some .local:=a;obtain⟨u,ru,W⟩:=K i x .non hi (xH l) (.inl a)
 have R:m x=some u:=by
  rcases W with ⟨_,e⟩|⟨k,_⟩
  ·exact e
  ·rw[G]at k;rcases k with k|k<;>cases k
 refine wpAny_unbindName_local G F R t λh' v C f=>?_;refine mF (id F) ?_;rintro oL _ _ ⟨Y,_⟩;refine h _ ⟨I1.ok,I1.os,I1.bare,⟨λb o e n D a=>?_,λb o e n D a=>?_,I1.base.free,λb o e a=>?_,I1.base.tups,I1.base.frzs,I1.base.tbls⟩,(cb _ C λj y P g B e3=>?_),λy c e=>?_,I1.free,I1.freeC,λp T=>?_,λb U e=>?_,by simpa using I.len⟩
 ·exact(f.2 b (mG (oV (lI e) I1.ok.above))).trans (I1.base.keep b o e n D a)
 ·obtain⟨sl,g⟩:=I1.base.slot b o e n D a;exact⟨sl,(f.2 b (mG (oV (lI e) I1.ok.above))).trans g⟩
 ·obtain⟨S,g⟩:=I1.base.there b o e a;exact⟨S,(f.2 b (mG (oV (lI e) I1.ok.above))).trans g⟩
 ·by_cases hj:j=i
  ·subst hj;rw[xH l]at B;cases B
  ·rw[xF (Ne.symm hj)]at B;obtain⟨u',r',q⟩:=K j y P g (by rw[xF (Ne.symm hj)];exact B) e3;refine cb u' r' ?_;rcases q with ⟨k,e⟩|⟨k,c,e,z⟩
   ·refine .inl ⟨k,?_⟩;have:y≠x:=λe=>hj (Bj L g (e▸hi));simp[this,e]
   ·exact .inr (kB k c e (z.sameBut f (r y c e)))
 ·obtain⟨O,z⟩:=I1.cell y c e;exact⟨O,z.sameBut f (r y c e)⟩
 ·refine mM (I1.pin p T) λe n J nf d=>?_;exact lP ((f.2 p.1 J).trans e) n J nf d
 ·refine(I1.hok b U e).stay (λc O w q=>(f.2 c ?_).trans q) (λ_ q=>q) λ_ _ q=>q;rintro rfl;rcases w with rfl|w
  ·rw[I1.free]at e;cases e
  ·rw[I1.free]at w;cases w
def xcF(ea C:zW):yA->Prop:=λh=>∃o a,h.get? ea=some o/\o.cls=.ref C/\o.data=.fields a
structure D0d(X:Cx)(pins:zD)(Z:St)(H1:Hp)(s1:zY)(H:Hp)(B:yA)(ea C:zW)(a0:zX)(s:zY):Prop where
 i1:Inv X pins Z H1 s1
 os:s.os=s1.os
 bare:AllBare s.gens
 un:Un (frs X.stack) [] H1 H s1.heap s.heap
 hok:HOk X.prog X.w H s.heap
 b1:∀b o,s1.heap.get? b=some o->b∉frs X.stack->∃o',B.get? b=some o'
 b2:∀b o,H b=some o->∃o',B.get? b=some o'
 fl:Heap.FlyingW B X.stack ea (.ref C) a0 s.heap
theorem D0d.new(F:D0d X pins Z H1 s1 H B ea C a0 s):s1.heap.get? ea=none:=by
 cases q:s1.heap.get? ea with
 |none=>rfl
 |some o=>
  by_cases hb:ea∈frs X.stack
  ·obtain⟨j,f⟩:=F.un.slot ea o q (F.i1.stkFree ea hb) hb (by simp);obtain⟨_,h,b,g⟩:=F.i1.stack.mem hb;rw[q]at b;cases b;refine lS F.fl.first λi e c _ d _=>?_;rw[f]at c;cases c;exact absurd d (g e)
  ·obtain⟨k,a⟩:=F.b1 ea o q hb;rw[F.fl.2.1]at a;cases a
theorem D0d.no(F:D0d X pins Z H1 s1 H B ea C a0 s):H ea=none:=by
 cases q:H ea with
 |none=>rfl
 |some o=>obtain⟨b,a⟩:=F.b2 ea o q;rw[F.fl.2.1]at a;cases a
theorem Da(X:K.In h)(a:xcF ea C h)(e:exmOne K (.ref C) c=some b):PySem.W.Looks M h (excMatches (.ref ea) c) b:=by
 refine ei a λo g d f _=>?_;clear a
 have LT:PySem.W.Looks M h (typeOf (.ref ea)) (.ref C):=by have z:PySem.W.Looks M h (typeOf (.ref ea)) o.cls:=(PySem.W.Looks.ld d).andThen .now;rw[f]at z;exact z
 exact PySem.W.exm_one X LT e
abbrev TX:=St->Hp->VK->XK->Prop
def HN(sp:Sp)(t:TA):TX:=λZ H Q E=>t Z H λa b=>sp a b Q E
section
variable{k:Nat}
end
section
variable{tx:TX}
end
theorem xm{v:V}(h:∃u,X.mg x=some u/\A2z v u)(a:Gl X x)(b:(x==("__debug__":Str))=false:=by decide):PE X (.Name x pos) (tC v):=by obtain⟨u,c,r⟩:=h;exact λ_ _ _ H _ I q=>ub I a c (dV v H I r q) b
theorem E1s(c:mroIn K D (.type "BaseException")=some true)(h1:isClsIn K D=true)(h2:typeIn K (.ref D)=some (.type "type"))(d:mroIn K C (.ref D)=some b):
  exmOne K (.ref C) (.ref D)=some b:=by
 unfold exmOne;have e:subIn K (.ref D) (.type "BaseException")=some true:=c;have a:(clsIn K D).isSome=true:=h1;rw[eH (by rw[e];rfl)];show(if ((clsIn K D).isSome&&typeIn K (.ref D)==some (.type "type"))=true then subIn K (.ref C) (.ref D)else none)=some b;rw[eH (by rw[a,h2];rfl)];exact d
theorem Fi{K:Frag}{t:zX}:∀{cs:zQ},(∀c∈cs,kitOne K t (.ref c)=some false)->∀us,A2m (cs.map V.ref) us->kitAny K t us=some false
 | [],_,_,r=>by
  cases r
  rfl
 |c::cs,h,_,r=>by
  rw[mi]at r
  cases r with
  |cons a r=>
   cases a
   unfold kitAny;rw[h c (.head _)];exact Fi (λd b=>h d (.tail _ b)) _ r
end L2
namespace PySem.W
open PySem PySem.Spec PySem.Calls PyProof.Rows PySem.Builtin.ObjectAttr
variable{w:yD}{v e:zX}{tk:Tok}{t:Nat}{s:zY}{prog:yB}{os:OsState}{o:Obj}{name:Str}{h:yA}{g:Array GenState}{f:Bool}{d:Drawn}{a C:zW}{R:Result->zY->Prop}{Q:Unit->zY->Prop}{M:Model}{K:Frag}{E:zA}{A:zZ}
structure XcIn(K:Frag)(C:zW):Prop where
 ga:findIn K (.ref C) "__getattribute__"=some (some (.builtin "BaseException.__getattribute__"))
 gt:findIn K (.ref C) "__getattr__"=some none
 mB:mroIn K C (.type "BaseException")=some true
 mO:mroIn K C (.type "object")=some true
 cl:findIn K (.ref C) "__class__"=some (some (.builtin "object.__class__"))
 sp:specialIn K (.builtin "object.__class__") "__get__"=some (some (.builtin "getset_descriptor.__get__"))
 tk:takesIn K (.builtin "object.__class__")=some true
def KitE(a C:zW)(h:yA):Prop:=∃o,h.get? a=some o/\o.cls=.ref C
theorem XcIn.cls(c:XcIn K C):∃cd,clsIn K C=some cd:=by obtain⟨cd,h,_⟩:=Option.bind_eq_some_iff.mp c.mB;exact⟨cd,h⟩
theorem KitE.type(p:KitE a C h):Looks M h (typeOf (.ref a)) (.ref C):=by
 obtain⟨o,c,b⟩:=p;have z:Looks M h (typeOf (.ref a)) o.cls:=(Looks.ld c).andThen .now
 rwa[b]at z
theorem Ej(X:K.In h)(c:XcIn K C)(f:h.get? a=some o)(ok:o.cls=.ref C)(i:Q () ⟨h,g,d,t,os⟩):
  wpAny M A (checkBuiltinCall "BaseException.__getattribute__" ⟨[.ref a,e],[]⟩) Q E ⟨h,g,d,t,os⟩:=by
 have b:=looks_mroIn (M:=M) X c.mB;have j:=F.args_bexc_ga (.ref a) e;simp only [checkBuiltinCall,(by decide+kernel:builtinKind "BaseException.__getattribute__"=some .slot),(by decide+kernel:splitId "BaseException.__getattribute__"=some ("BaseException","__getattribute__"))];refine cz ?_;unfold isInstance
 repeat (first|(with_reducible refine sQ f ?_;rw[ok])|(with_reducible refine b.at ?_)|wp_step)
 exact i
theorem JB(X:K.In h)(c:XcIn K C):Looks M h (find (.ref a) (.ref C) "__class__") (.bind (.builtin "getset_descriptor.__get__") (.builtin "object.__class__")):=
 (looks_findIn X c.cl).andThen ((show Looks M h (getOf (some (.builtin "object.__class__"))) (some (.builtin "getset_descriptor.__get__")) from looks_specialIn X c.sp).andThen
  ((show Looks M h (dataDescriptor? (some (.builtin "object.__class__")) (some (.builtin "getset_descriptor.__get__"))) (some (.builtin "getset_descriptor.__get__",.builtin "object.__class__")) from (looks_takesIn X c.tk).andThen .now).andThen (Looks.tag .now)))
theorem Ig(X:K.In h)(c:XcIn K C)(e:h.get? a=some o)(ok:o.cls=.ref C)(i:R (.ok (.ret (.ref C))) ⟨h,g,d,t,os⟩):
  codeAny (model prog w) A (.call (.builtin "getset_descriptor.__get__") ⟨[.builtin "object.__class__",.ref a,.ref C],[]⟩) R ⟨h,g,d,t,os⟩:=by
 have f:(⟨h,g,d,t,os⟩:zY).TypeIs (.builtin "object.__class__") "getset_descriptor":=F.typeOf_object_class
 have b:Looks (model prog w) h (isSubtype (.ref C) (.type (".".intercalate ("object.__class__".cutAt '.').dropLast))) true:=by rw[F.owner_object_class];exact looks_mroIn X c.mO
 refine codeAny_call_builtin F.slot_gs_get.plain F.entry_gs_get (F.slot_gs_get.check _ _ _ _ _ _ _ _ f (F.args_gs_get _ _ _) ?_)
 repeat (any_goals (first|assumption|(with_reducible refine sQ e ?_;rw[ok])|(with_reducible refine b.at ?_)|wp_step))
 refine⟨Code.quiet_builtin _ (by decide+kernel),codeAny_builtin F.entry_object_class ?_⟩
 repeat (any_goals (first|assumption|(with_reducible refine sQ e ?_;rw[ok])|wp_step))
theorem Kk{Q:Fin->zY->Prop}(X:K.In h)(c:XcIn K C)(b:h.get? a=some o)(ok:o.cls=.ref C)(e:Q (.done (.ret (.ref C))) ⟨h,g,d,t,os⟩):
  wpAny (model prog w) A (Builtin.«object.__getattribute__» ⟨[.ref a,.str "__class__" tk],[]⟩) Q E ⟨h,g,d,t,os⟩:=by
 have L:=JB (M:=model prog w) (a:=a) X c;unfold Builtin.«object.__getattribute__»
 repeat (any_goals (first|assumption|(with_reducible refine L.at ?_)|(with_reducible refine sQ b ?_;rw[ok])|wp_step))
 refine Ig X c b ok ?_
 repeat (any_goals (first|assumption|wp_step))
theorem CC{e:Bool}{Q:zA}(X:K.In h)(c:XcIn K C)(l:h.get? a=some o)(ok:o.cls=.ref C)
  (m:∀(A:zZ)(R:Result->zY->Prop),R (.ok (.ret v)) ⟨h,g,d,t,os⟩->codeAny (model prog w) A (.call (.builtin "BaseException.__getattribute__") ⟨[.ref a,.str name tk],[]⟩) R ⟨h,g,d,t,os⟩) (j:handedIn v=true) (i:Q v ⟨h,g,d,t,os⟩):
  wpAny (model prog w) A (getAttrBy (.ref a) (.str name tk) f e) Q E ⟨h,g,d,t,os⟩:=by
 have b:=F.attr_ValueError.ga.bind (.ref a);have L1:=looks_findIn (M:=model prog w) X c.ga;have L2:=looks_findIn (M:=model prog w) X c.gt;have k:(Value.builtin "BaseException.__getattribute__"==Value.builtin "object.__getattribute__")=false:=by decide+kernel
 have p:(onTheHeap (Value.ref C)&&Value.builtin "BaseException.__getattribute__"==Value.builtin "object.__getattribute__")=false:=by simp[k]
 have n:(e&&onTheHeap (Value.builtin "BaseException.__getattribute__"))=false:=Bool.and_eq_false_iff.mpr (.inr rfl)
 repeat (any_goals (first|assumption|(with_reducible refine sQ l ?_;rw[ok])|(with_reducible refine L1.at ?_)|(with_reducible refine L2.at ?_)|wp_step))
 refine m _ _ ?_
 repeat (any_goals (first|assumption|wp_step))
 show wpAny _ _ (handedOut v) _ _ _;rw[handedOut_of j];exact ff i
theorem Ln{Q:zN->zY->Prop}(X:K.In s.heap)(c:XcIn K C)(p:KitE a C s.heap)(k:Q (some (.ref C)) {s with toks:=s.toks+1}):wpAny (model prog w) A (getAttr? (.ref a) "__class__") Q E s:=by
 obtain⟨o,b,e⟩:=p;obtain⟨h,g,d,t,f⟩:=s;unfold getAttr? getAttrBy?
 have B:∀{A:zZ}{E:zA}{Q:zA},Q (.ref C) ⟨h,g,d,t+1,f⟩->wpAny (model prog w) A (getAttrBy (.ref a) (.str "__class__" t) false) Q E ⟨h,g,d,t+1,f⟩:=λ{A E Q} j=>CC X c b e (λA R i=>codeAny_call_builtin F.attr_ValueError.ga.plain F.entry_bexc_ga (Ej X c b e (Kk X c b e i))) rfl j
 repeat (any_goals (first|assumption|with_reducible apply B|wp_step))
theorem kitx_exc(c:XcIn K C):KitX K (.ref a) (.ref C) (KitE a C) where
 ty:=λ_ _ _ p=>p.type
 it:=λ_ _ X _=>by
  obtain⟨d,e⟩:=c.cls;intro A Q E s k q;unfold clsIn at e;split at e
  case h_1 there=>exact cz (wpAny_loadPart (k _ _ (X _ _ there)) (ff q))
  case h_2=>cases e
 ne:=λh i j f n g X b=>by
  obtain⟨d,e⟩:=c.cls;rw[Bool.eq_false_iff];intro q;cases beq_iff_eq.mp q;unfold clsIn at e;split at e
  case h_1 there=>cases(X _ _ there).symm.trans b
  case h_2=>cases e
 ca:=λX p k=>Ln X c p k
end PySem.W
namespace L2
open PySem PySem.Spec PyProof.Rows
variable{z v p l2 l1 it i2 i1 e d c a N C:zW}{ys xs:zG}{y x:zX}{w:yD}{tpos pos p2 p1:Pos}{tl:TE}{tg l:yC}{tb:TS}{ta:TA}{t i S:Nat}{sub rest bmN bmB bm:zH}{st2 st1:Nat->yA->Prop}{src2 src1:zG->yA->Prop}{sn:zC}{sl:zF}{s:zY}{q nm f:Str}{prog P:yB}{os:OsState}{o j:Obj}{nid newId initId inN Bn B:String}{mN:zE}{kvs:zJ}{k5 k3 k2 k1 k0:zN}{hdct b ab:Bool}{h' h:yA}{g:Array GenState}{elts:zT}{dd:zO}{cs:zQ}{col:Option Bool}{Z:St}{X:Cx}{Q:zN->zY->Prop}{K:Frag}{H' H:Hp}{E:zA}{D:pJ}{A:zZ}
def wK(K:Frag)(a:zW):It :=
 ⟨λi H=>∃b x,SqL K H a b/\b[i]?=some x,
  λi H v c=>∃p,H p=none/\v=.ref p/\∃x,(∀b,SqL K H a b->b[i]?=some x)/\c=upd H p (.tup [.int (i:Nat),x]),
  λi H=>∃b,SqL K H a b/\b.length<=i⟩
def EnSt(e it a:zW)(i:Nat)(h:yA):Prop:=(∃b,IsEnum h e it (i:Nat) b)/\h.IsListIter it a i
theorem Ml(O:e≠it):C6m P w K (.Tuple elts S pos) (wK K a) [e,it] e (EnSt e it a) where
 mem:=by simp
 obj:=λi h j c b=>by
  obtain⟨⟨d,f⟩,m⟩:=j;simp only [lY,qQ,or_false]at b;rcases b with rfl|rfl
  ·exact cb _ f λv z=>by cases(show Data.fields _=Data.cell v from z)
  ·obtain⟨o,ho,_,R⟩:=m;exact cb o ho λv z=>by rw[R]at z;cases z
 keep:=λi h A j k=>by obtain⟨⟨d,f⟩,m⟩:=j;exact⟨⟨d,k e (by simp) _ f⟩,m.at λo z=>k it (by simp) o z⟩
 item:=by
  intro X L y t b i l s Z H E I n j F;subst L y t;obtain⟨Y,x,p,C⟩:=F;obtain⟨M,D,r,_⟩:=I.list p;obtain⟨u,hu,ru⟩:=D.get C;obtain⟨⟨d,f⟩,m⟩:=j;refine wpAny_pyNext_enum_item f m r.isList (x:=u) (by simpa using hu) O λA z1 U z3 z4 B=>?_;refine cb _ rfl (wpAny_letOwnedTupleGo_enum (s:={s with heap:=A,toks:=s.toks+1}) z1 λg zg G=>?_)
  have N:s.heap.objs.size≠e:=pP (lI f);have T:it<s.heap.objs.size:=let⟨_,q,_⟩:=m;lI q;have W:g.get? s.heap.objs.size=some {cls:=.type "tuple",data:=.seq #[.int i s.toks,u]}:=G.extBut _ _ N z3
  have I1:Inv X l Z (upd H s.heap.objs.size (.tup [.int (i:Nat),x])) {s with heap:=g,toks:=s.toks+1}:=I.turnedNew (ts:=[e,it]) (λc o b q=>by
   simp only [lY,qQ,or_false,not_or]at b
   exact G.extBut _ _ b.1 (B c o b.1 b.2 q)) n (fy _) (kB (by show 2<=sizeLine;decide) [.int i s.toks,u] (.cons ⟨_,rfl⟩ (.cons ru .nil)) (sM _ W rfl _ rfl))
  refine⟨.ref s.heap.objs.size,_,I1,rfl,⟨_,I.hok.fresh (fy _),rfl,x,λzs Q=>by rw[I.list_inj Q p];exact C,rfl⟩,⟨⟨_,zg⟩,U.at λo q=>G.extBut _ _ O.symm q⟩,λc b=>?_⟩
  have J:c≠s.heap.objs.size:=by
   simp only [lY,qQ,or_false]at b;rcases b with rfl|rfl
   ·exact N.symm
   ·exact mG T
  rw[eh J];exact(n c b).1
 done:=by
  intro X L y t b i l s Z H E I n j F;subst L y t;obtain⟨Y,p,C⟩:=F;obtain⟨M,D,r,_⟩:=I.list p;have e1:=D.length;obtain⟨⟨d,f⟩,m⟩:=j;refine wpAny_pyNext_enum_end b f m r.isList (by simp;lia) λA B=>⟨rfl,?_⟩
  exact I.turnedL (t':=s.toks) (ts:=[e,it]) (λc o b q=>by
   simp only [lY,qQ,or_false,not_or]at b
   exact B c o b.2 q) n
 self:=λ_ _ _ _ _ j h=>by obtain⟨⟨d,f⟩,_⟩:=j;exact wpAny_pyIter_enum f h
def GB(K:Frag)(ta:TA):TI:=λZ H R=>ta Z H λc b=>∃a d,c=[.ref a]/\SqL K b a d/\R (wK K a) b
theorem AY{o:Nat}{a:yC}{p:Pos}(x:Gl X "enumerate")(r:X.mg "enumerate"=none)(y:PA X [a] ta)(hs:starEach [a] X.env=[(false,eval a X.env)]:=by rfl):
  PI X (.Tuple elts o tpos) (.Call (.Name "enumerate" p) [a] [] pos) (GB X.K ta):=by
 intro b s Z H R I h;refine Call_ (tf I x r boot_enumerate (PyProof.Rows.callWith_type1 (thn (y pos b s Z H _ I h) ?_) (by rw[hs];rfl) (by rfl)));refine λG f g=>ei g λJ j I1 B k=>?_;clear g;refine ei k λl D e z q=>?_;clear k;subst e;obtain⟨u,rfl,C⟩:=sY B;cases C;obtain⟨A,F,n,_⟩:=I1.list z;refine call_enumerate_list n.isList λt m w L v=>wpAny_pyIter_enum m ?_;have I2:Inv X b Z j {f with heap:=t}:=I1.kept (t':=f.toks) v;refine nL _ [f.heap.objs.size+1,f.heap.objs.size] _ _ j rfl I2 (Ml (pP (Nat.lt_succ_self _))) ⟨⟨_,m⟩,w⟩ (λc i=>?_) q
 have d:f.heap.objs.size<=c:=by
  simp only [lY,qQ,or_false]at i;rcases i with rfl|rfl
  ·exact Nat.le_succ _
  ·exact fy _
 exact I1.fpOk d (I1.hok.fresh d)
theorem Bp{xs:zM}{g:TG}(Pv:Nat->St->Hp->Prop)(j:Pv 0 Z H)(l:∀i Z H,Pv i Z H->SqL K H a xs)
  (hs:∀i x Z H p,xs[i]?=some x->Pv i Z H->H p=none->g (.ref p) Z (upd H p (.tup [.int (i:Nat),x])) λZ2 H2=>tb {D with nx:=Pv (i+1),ct:=Pv (i+1),bk:=D.nx} Z2 H2) (d:∀Z H,Pv xs.length Z H->D.nx Z H):
  ∃W:Nat->Nat->St->Hp->Prop,(∃m,W 0 m Z H)/\∀i m Z H,W i m Z H->
   ((wK K a).stop i H/\D.nx Z H)\/((wK K a).go i H/\∃N:St->Hp->Prop,(∀Z' H',N Z' H'->∃b,b<m/\W (i+1) b Z' H')/\∀x H',(wK K a).yld i H x H'->g x Z H' λZ2 H2=>tb {D with nx:=N,ct:=N,bk:=D.nx} Z2 H2):=by
 refine cb (λi m Z H=>m=xs.length-i/\i<=xs.length/\Pv i Z H) (fx xs.length (by simp) (pG _) j) ?_;rintro i m Z H ⟨rfl,n,p⟩;have q:=l i Z H p;by_cases hlt:i<xs.length
 ·refine .inr (kB (mL xs _ q (nP hlt)) (Pv (i+1)) (λZ' H' k=>(nr (xs.length-(i+1)) (by lia) rfl hlt k)) λv H' y=>?_);refine nw y ?_;clear y;rintro c h rfl ⟨x,f,rfl⟩;exact hs i x Z H c (f xs q) p h
 ·have e:i=xs.length:=by lia
  subst e;exact .inl ⟨(cb xs q (fy _)),d Z H p⟩
theorem Bc(w:X.calm=true):qH X (.builtin "all") (λvs H Q=>∃(a:zW)(bs:List Bool),vs=[V.ref a]/\SqL X.K H a (bs.map V.bl)/\Q (.bl (bs.all id)) H):=by
 intro t s Z H vs N Q I r h;refine ei h ?_;clear h;rintro a bs rfl C q;obtain⟨u,rfl,j⟩:=sY r;cases j;obtain⟨c,l,g,_⟩:=I.list C;have la:a<s.heap.objs.size:=let⟨_,e,_⟩:=g.isList;lI e
 have p:bs.length=c.length:=by
  have:=l.length
  simpa using this
 have G:∀(i:Nat)(v:zX),c.toArray[i]?=some v->v=.bool ((bs[i]?).getD true):=λi v f=>by
  have d:i<bs.length:=by
   have:=(wG.mp f).1
   simpa[p]using this
  obtain⟨u,y,j⟩:=l.get (i:=i) (x:=.bl bs[i]) (by simp[d]);have e:some u=some v:=y.symm.trans (by simpa using f);cases e;rw[nP d];exact j
 refine call_all_walk ?_;refine wpAny_pyIter_list g.isList ?_;refine qB s.heap.objs.size _ _ (nD _ _ _ (λi=>(bs[i]?).getD true) rfl (Walks.list (A:=X.A.in1) (I.ok.hd w) s.heap.objs.size a (mG la) c.toArray) ⟨(fx _ (nc _ rfl) rfl rfl),Heap.IsList.push g.isList _⟩ (λi v O L M f F=>?_) λJ D k=>?_)
 ·rw[G i v f];exact ff F
 ·refine dV (.bl (bs.all id)) H ?_ ?_ q
  ·exact I.kept (t':=D) λb o e=>k b o (λm=>absurd (lI e) (by
    rw[mn.mp m]
    exact Nat.lt_irrefl _)) (gc _ e)
  ·have z:((List.range c.toArray.size).all λi=>(bs[i]?).getD true)=bs.all id:=by
    have n:c.toArray.size=bs.length:=by simp[p]
    rw[n,Bool.eq_iff_iff,List.all_eq_true,List.all_eq_true];constructor
    ·intro h b B;obtain⟨i,d,rfl⟩:=List.mem_iff_getElem.mp B;have:=h i (List.mem_range.mpr d)
     rwa[nP d]at this
    ·intro h i d;rw[nP (List.mem_range.mp d)];exact h _ (List.getElem_mem _)
   show Value.bool _=Value.bool _;rw[z]
def uN(v d:zW):HO:=.ext λh=>h.IsValuesView v d
theorem Kq(e:h.IsValuesView v d):A1p P w H h v (uN v d):=(fI e (let⟨o,a,_⟩:=e;⟨o,a⟩) (by rintro c f ⟨o,a,b⟩ k;exact cb o (k o a) b))
def Jm:V->List V->Hp->VK->Prop:=λx c H Q=>∃a b,x=.ref a/\c=[]/\H a=some (.dK b)/\∀p,H p=none->Q (.ref p) (upd H p (uN p a))
theorem LG:MtR X "dict.values" Jm:=by intro f s Z H x r v p Q I k i h;refine lS h ?_;clear h;rintro a d rfl rfl j q;cases k;cases i;refine pN (show A1p X.prog X.w H s.heap a (.dK d) from I.hok a _ j) λn g m l c=>?_;refine call_meetsIn PySem.F.slot_dict_values c.typeIs PySem.F.entry_dict_values (PySem.F.args_dict_values_1 _) (meets_dict_values (oD X.prog X.w) a g) ⟨⟨m,c⟩,?_⟩;exact dV (.ref s.heap.objs.size) _ (I.laid (t':=s.toks) (o:=uN s.heap.objs.size a) (λb u e=>gc _ e) (fy _) (Kq (fx _ (nc _ rfl) rfl rfl))) rfl (q _ (I.hok.fresh (fy _)))
def wH(a:zW)(o:Obj)(kvs:zJ):It :=⟨λi H=>H a=some (.frz o (.dK kvs))/\i<kvs.length,λi H x b=>b=H/\∃k,kvs[i]?=some (k,x),λi H=>H a=some (.frz o (.dK kvs))/\i=kvs.length⟩
theorem Nq(it a:zW)(o:Obj)(kvs:zJ)(es:Array DictEntry)(R:Nat)(Q:o.data=.dict es R):
  C6m P w K tg (wH a o kvs) [it] it (λi h=>h.IsValIter it a i kvs.length R) where
 mem:=by simp
 obj:=λi h f b m=>by
  have e:b=it:=by simpa using m
  subst e;obtain⟨l,e,_,d⟩:=f;exact cb l e λv z=>by rw[d]at z;cases z
 keep:=λi h q f k=>f.at λl e=>k it (by simp) l e
 item:=by
  intro X M A y N i j s Z H E I r f D;subst M A y;obtain⟨J,O⟩:=D;refine mM (r it (by simp)) ?_;rintro x F W C ⟨B,L⟩;obtain⟨_,Y,g,G⟩:=xf I.hok J Q;have t:=g.length;obtain⟨⟨k,v⟩,hkv⟩:∃p,kvs[i]?=some p:=⟨kvs[i],by simp[O]⟩;obtain⟨u,T,ru⟩:=g.at hkv;rw[t]at f;refine wpAny_pyNext_values_item f G T λq n U=>?_;have I1:Inv X j Z H {s with heap:=q,toks:=s.toks}:=I.turned (t':=s.toks) (λb l m e=>(U.2 b m).trans e) x F C B L
  obtain⟨l,e,c,d⟩:=id n;exact cb u rfl (uP (s:={s with heap:=q}) e c d (by decide) (mJ v H I1 ru (pM rfl k hkv) (by rw[t];exact n) λb m=>(r b m).1))
 done:=by intro X M A y N i j s Z H E I r f D;subst M A y;obtain⟨J,O⟩:=D;refine mM (r it (by simp)) ?_;rintro x F W C ⟨B,L⟩;obtain⟨_,Y,g,G⟩:=xf I.hok J Q;have t:=g.length;rw[t]at f;exact wpAny_pyNext_values_end N f G (by simp;lia) λq S=>⟨rfl,I.turned (t':=s.toks) (λb l m e=>S b l m e) x F C B L⟩
 self:=λ_ _ _ _ _ f h=>wpAny_pyIter_valiter f h
def JK(tl:TE):TI:=λZ H R=>tl Z H λx c=>∃v a b,x=.ref v/\c v=some (uN v a)/\c a=some (.dK b)/\∀o,R (wH a o b) (upd c a (.frz o (.dK b)))
theorem Mg(G:PE X l tl):PI X tg l (JK tl):=by
 intro c s Z H R I h;refine thn (G c s Z H _ I h) ?_;rintro u d j;refine uY j ?_;clear j;rintro x m I1 B v a g ⟨A,D,i,q⟩;subst A;cases B;obtain⟨y,_⟩:=(show A1p X.prog X.w m d.heap v (uN v a) from I1.hok v _ D);refine rE (wN I1.hok i) ?_;rintro J L t f o n ep p ⟨z,k,r⟩;have C:d.heap.DictAt (oD X.prog X.w) a t ep:=(lQ o n p z k r);refine wpAny_pyIter_values y C ?_;have I2:Inv X c Z m {d with heap:=d.heap.push {cls:=.type "dict_valueiterator",data:=.fields #[.ref a,.int 0 0,.int t.length 0,.int ep 0]},toks:=d.toks}:=I1.kept λb K e=>gc _ e
 have I3:=I2.frozen i (gc _ p);refine nL _ [d.heap.objs.size] _ _ _ rfl I3 (Nq _ a o g n ep k) ?_ (λb F=>?_) (q o)
 ·rw[f.length];exact fx _ (nc _ rfl) rfl rfl
 ·have e:b=d.heap.objs.size:=by simpa using F
  subst e;refine I1.fpOk (fy _) ?_;rw[eh (pP (I1.hok.lt i))];exact I1.hok.fresh (fy _)
theorem Nf{g:TG}(Pv:Nat->St->Hp->Prop)(d:Pv 0 Z H)(b:∀i Z H,Pv i Z H->H a=some (.frz o (.dK kvs)))
  (hs:∀i k v Z H,kvs[i]?=some (k,v)->Pv i Z H->g v Z H λZ2 H2=>tb {D with nx:=Pv (i+1),ct:=Pv (i+1),bk:=D.nx} Z2 H2) (j:∀Z H,Pv kvs.length Z H->D.nx Z H):
  ∃W:Nat->Nat->St->Hp->Prop,(∃m,W 0 m Z H)/\∀i m Z H,W i m Z H->
   ((wH a o kvs).stop i H/\D.nx Z H)\/((wH a o kvs).go i H/\∃N:St->Hp->Prop,(∀Z' H',N Z' H'->∃c,c<m/\W (i+1) c Z' H')/\∀x H',(wH a o kvs).yld i H x H'->g x Z H' λZ2 H2=>tb {D with nx:=N,ct:=N,bk:=D.nx} Z2 H2):=by
 refine cb (λi m Z H=>m=kvs.length-i/\i<=kvs.length/\Pv i Z H) (fx kvs.length (by simp) (pG _) d) ?_;rintro i m Z H ⟨rfl,l,p⟩;by_cases hlt:i<kvs.length
 ·refine .inr (kB ⟨b i Z H p,hlt⟩ (Pv (i+1)) (λZ' H' f=>(nr (kvs.length-(i+1)) (by lia) rfl hlt f)) λx H' y=>?_);obtain⟨e,k,h⟩:=y;subst e;exact hs i k x Z _ h p
 ·have e:i=kvs.length:=by lia
  subst e;exact .inl ⟨⟨b _ Z H p,rfl⟩,j Z H p⟩
theorem IM{e:yC}{ta:TE}(h:X.K=K)(b:PE X e ta)(a:attributeBase e f X.env (eval e X.env)=eval e X.env):PE X (.Attribute e f pos) (Ce K ta f):=h▸lJ b a
theorem CV:OpR X (compareOp .LtE) (λx y H Q=>∃i j,x=.str i/\y=.str j/\Q (.bl (!(decide (j.cps.toList<i.cps.toList)))) H):=by intro a s Z H x y v u Q I c b h;refine ei h ?_;clear h;rintro i j rfl rfl q;obtain⟨t,rfl⟩:=c;obtain⟨d,rfl⟩:=b;exact P.le_str (dV (.bl _) H I rfl q)
theorem Ov(h:X.K=K):qH X (.type "list") (λxs H Q=>∃p ys,xs=[.ref p]/\(SqL K H p ys\/SqT K H p ys)/\∀l,H l=none->Q (.ref l) (upd H l (.lst ys))):=h▸vz
def HQ(K:Frag):zM->Hp->VK->Prop:=λh H Q=>∃a C g f d c b,h=[.ref a,.ref d]/\H a=some (.ins C g f)/\Cls K C/\findIn K (.ref C) "__class__"=some (some (.builtin "object.__class__"))/\
 specialIn K (.builtin "object.__class__") "__get__"=some (some (.builtin "getset_descriptor.__get__"))/\takesIn K (.builtin "object.__class__")=some true/\mroIn K C (.type "object")=some true/\
 H d=some (.tup c)/\(∀e,A2m c e->kitAny K (.ref C) e=some b)/\Q (.bl b) H
theorem Mz:qH X (.builtin "isinstance") (HQ X.K):=by intro l s Z H T Y Q I r h;refine nN h ?_;clear h;rintro a C P R g ⟨p,b,rfl,M,m,D,y,e,t,o,k,q⟩;refine ei (uR r) ?_;rintro u E rfl v d;cases v;cases d;refine xD (show A1p X.prog X.w H s.heap g (.tup p) from I.hok g _ o) λ_ f B A c j n i=>?_;obtain⟨S,U,F,G⟩:=A;dsimp only at j i;subst j i;obtain⟨N,O,_⟩:=xj I.hok M;obtain⟨x,J,_⟩:=O.look;exact PySem.W.kia_tup (PySem.W.kitx_own (m.get _) m.hd D y e t) I.kIn J c (k f B) (λz=>nomatch z) λL=>(dV (.bl b) H (I.tok L) rfl q)
theorem KQ{t:zX}(h:kitOne K t (.ref c)=some true):∀us,A2m ((c::cs).map V.ref) us->kitAny K t us=some true:=λus r=>by
 rw[mi]at r
 cases r with
 |cons a r=>
  cases a
  unfold kitAny;rw[h]
abbrev vi(h:yA)(z TI TO:zW)(a:zX)(b:Bool):Prop :=h.get? z=some {cls:=.type "zip",dict:=none,data:=.fields #[a,.bool b,.bool false,.ref TI,.ref TO],slots:=#[]}
theorem NH{Q:Option Obj->zY->Prop}(h:Q (s.heap.get? a) s):wpAny (model prog w) A (loadIfAlive a) Q E s:=λΓ p _=>by show PySem.Sem.wp _ Γ (.loadIfAlive a .pure) _ _ p s;rw[PySem.Sem.wp];exact h
theorem FT{TI TO:zW}{Q:Bool->zY->Prop}(a:vi s.heap z TI TO (rawInt (p:Int)) b)(d:s.heap.get? p=some o)
  (q:∀h',vi h' z TI TO (rawInt (p:Int)) true->Heap.SameBut z s.heap h'->Q false {s with heap:=h'}):wpAny (model prog w) A (Builtin.SmallTypes.ownedTupleIsFree (.ref z)) Q E s:=by
 unfold Builtin.SmallTypes.ownedTupleIsFree;refine cz (nV a rfl (x:=rawInt (p:Int)) rfl ?_);show wpAny _ _ (loadIfAlive (Int.toNat (p:Int))>>=_) _ _ _;refine cz (NH ?_);rw[Int.toNat_natCast,d];show wpAny _ _ (field (.ref z) 1>>=_) _ _ _;refine cz (nV a rfl (x:=.bool b) rfl ?_)
 cases b with
 |true=>show wpAny _ _ (pure false) _ _ _;exact ff (q s.heap a ⟨rfl,λ_ _=>rfl⟩)
 |false=>show wpAny _ _ (setField (.ref z) 1 (.bool true)>>=_) _ _ _;refine cz (vd a (by simp) λc f e=>?_);exact ff (q c f e)
section
variable{TI TO:zW}
theorem Kj(N1:Nx i1 l1 st1 src1)(N2:Nx i2 l2 st2 src2){k1 k2:Nat}(D:ZipApart z TI TO i1 i2 l1 l2)
  (f:vi s.heap z TI TO (rawInt (p:Int)) b) (u:s.heap.get? p=some o) (l:IsPair s.heap TI (.ref i1) (.ref i2)) (h1:st1 k1 s.heap) (h2:st2 k2 s.heap) (k:src1 xs s.heap) (j:src2 ys s.heap) (K:xs[k1]?=some x) (B:ys[k2]?=some y)
  (v:∀h',vi h' z TI TO (rawInt (p:Int)) true->st1 (k1+1) h'->st2 (k2+1) h'->IsPair h' s.heap.objs.size x y->
   (∀c o,c≠z->c≠i1->c≠i2->s.heap.get? c=some o->h'.get? c=some o)->Q (some (.ref s.heap.objs.size)) {s with heap:=h'}):wpAny (model prog w) A (pyNext (.ref z)) Q E s:=by
 have q:s.TypeIs (.ref z) "zip":=(cb _ f rfl);unfold pyNext;refine cz (wpAny_attempt (tI (name:=Str.ofString "__next__") q F.slot_zip_next (tH F.slot_zip_next q F.entry_zip_next ?_ (F.args_zip_next_1 _))));show wpAny _ _ (field (.ref z) 2>>=_) _ _ _;refine cz (nV f rfl (x:=.bool false) rfl ?_);show wpAny _ _ (field (.ref z) 3>>=_) _ _ _;refine cz (nV f rfl (x:=.ref TI) rfl ?_);refine cz (rG l rfl ?_);show wpAny _ _ (Builtin.SmallTypes.ownedTupleIsFree (.ref z)>>=_) _ _ _;refine cz (FT f u λN I d=>?_);simp only [Bool.false_eq_true,if_false];refine cz ?_;simp only [<-Array.forIn_toList,List.forIn_cons,List.forIn_nil];refine cz (cz (qC ?_));show wpAny _ _ (Builtin.SmallTypes.nextOf (.ref i1)>>=_) _ _ _;refine cz (N1.item (N1.mv h1 λo e=>d.extBut _ _ D.i1z e) (N1.mvS k λo e=>d.extBut _ _ D.l1z e) K λM J g=>ff (ff ?_));refine cz (cz (qC ?_));show wpAny _ _ (Builtin.SmallTypes.nextOf (.ref i2)>>=_) _ _ _;refine cz (N2.item (N2.mv h2 λo e=>g.extBut _ _ D.i12.symm (d.extBut _ _ D.i2z e)) (N2.mvS j λo e=>g.extBut _ _ D.l2i1 (d.extBut _ _ D.l2z e)) B λg3 t h=>ff (ff (ff ?_)));have a:g3.objs.size=s.heap.objs.size:=by rw[h.1,g.1,d.1]
 have C:z<g3.objs.size:=by rw[a];exact lI f
 show wpAny _ _ (newTuple [x,y]>>=_) _ _ _;refine cz (wpAny_newTuple ?_);have G:vi g3 z TI TO (rawInt (p:Int)) true:=h.extBut _ _ D.i2z.symm (g.extBut _ _ D.i1z.symm I);have H:∀c o,c≠z->c≠i1->c≠i2->s.heap.get? c=some o->g3.get? c=some o:=λc o n m i e=>h.extBut _ _ i (g.extBut _ _ m (d.extBut _ _ n e));have L:st1 (k1+1) g3:=N1.mv J λo e=>h.extBut _ _ D.i12 e;have r:IsPair (g3.push {cls:=.type "tuple",data:=.seq #[x,y]}) g3.objs.size x y:=nc _ rfl;rw[a]at r;refine ff (cb _ rfl (ff ?_));show Q (some (.ref g3.objs.size)) _;rw[a];exact v _ (gc _ G) (N1.mv L λo e=>gc _ e) (N2.mv t λo e=>gc _ e) r λc o n m i e=>gc _ (H c o n m i e)
theorem JO(N1:Nx i1 l1 st1 src1)(N2:Nx i2 l2 st2 src2){k1 k2:Nat}(y:A.handled=none)(D:ZipApart z TI TO i1 i2 l1 l2)
  (i:vi s.heap z TI TO (rawInt (p:Int)) b) (H:s.heap.get? p=some o) (n:IsPair s.heap TI (.ref i1) (.ref i2)) (h1:st1 k1 s.heap) (h2:st2 k2 s.heap) (m:src1 xs s.heap) (j:src2 ys s.heap) (g:xs[k1]?=none\/ys[k2]?=none)
  (M:∀h',(∀c o,c≠z->c≠i1->c≠i2->s.heap.get? c=some o->h'.get? c=some o)->Q none {s with heap:=h'}):wpAny (model prog w) A (pyNext (.ref z)) Q E s:=by
 have t:s.TypeIs (.ref z) "zip":=(cb _ i rfl);unfold pyNext
 have d:∀(h':yA)(e:zW),(∀c o,c≠z->c≠i1->c≠i2->s.heap.get? c=some o->h'.get? c=some o)->(∃o,h'.get? e=some o/\o.cls=.type "StopIteration")->
   wpAny (model prog w) A (isInstance (.ref e) (.type "StopIteration")>>=λb=>if b=true then pure none else throw (.ref e)) Q E {s with heap:=h'}:=λh' e K ⟨o,J,G⟩=>
  cz (wpAny_isInstance (T:="StopIteration") (b:=true) (cb o J G) isSubtype_stop (ff (M _ K)))
 refine cz (wpAny_attempt (tI (name:=Str.ofString "__next__") t F.slot_zip_next (tH F.slot_zip_next t F.entry_zip_next ?_ (F.args_zip_next_1 _))));show wpAny _ _ (field (.ref z) 2>>=_) _ _ _;refine cz (nV i rfl (x:=.bool false) rfl ?_);show wpAny _ _ (field (.ref z) 3>>=_) _ _ _;refine cz (nV i rfl (x:=.ref TI) rfl ?_);refine cz (rG n rfl ?_);show wpAny _ _ (Builtin.SmallTypes.ownedTupleIsFree (.ref z)>>=_) _ _ _;refine cz (FT i H λN O a=>?_);simp only [Bool.false_eq_true,if_false];refine cz ?_;simp only [<-Array.forIn_toList,List.forIn_cons,List.forIn_nil];refine cz (cz (qC ?_));show wpAny _ _ (Builtin.SmallTypes.nextOf (.ref i1)>>=_) _ _ _;have v:=N1.mv h1 λo e=>a.extBut _ _ D.i1z e;have u:=N1.mvS m λo e=>a.extBut _ _ D.l1z e
 cases hx:xs[k1]? with
 |none=>refine cz (N1.fin y v u hx λr e f l=>?_);exact d r e (λc o k q _ x=>f _ _ q (a.extBut _ _ k x)) l
 |some x=>
  have C:ys[k2]?=none:=by
   rcases g with h|h
   ·rw[hx]at h;cases h
   ·exact h
  refine cz (N1.item v u hx λr P f=>ff (ff ?_));refine cz (cz (qC ?_));show wpAny _ _ (Builtin.SmallTypes.nextOf (.ref i2)>>=_) _ _ _;refine cz (N2.fin y (N2.mv h2 λo e=>f.extBut _ _ D.i12.symm (a.extBut _ _ D.i2z e)) (N2.mvS j λo e=>f.extBut _ _ D.l2i1 (a.extBut _ _ D.l2z e)) C λB e L l=>?_);exact d B e (λc o k q I x=>L _ _ I (f.extBut _ _ q (a.extBut _ _ k x))) l
end
def ZS(z TI TO i1 i2 a b d:zW)(i:Nat)(h:yA):Prop:=IsPair h TI (.ref i1) (.ref i2)/\h.IsListIter i1 a i/\h.IsTupleIter i2 b i/\
 ((IsZip h z TI TO .none/\∃u v,IsPair h TO u v)\/∃(p:zW)(o:Obj)(c:Bool),vi h z TI TO (rawInt (p:Int)) c/\h.get? p=some o/\p≠z/\p≠i1/\p≠i2/\p≠d)
theorem ZS.at{TI TO b:zW}(x:ZS z TI TO i1 i2 a b d i h)(k:z≠d)(r:TI≠d)(y:TO≠d)(w:i1≠d)(A:i2≠d)(f:∀c o,c≠d->h.get? c=some o->h'.get? c=some o):ZS z TI TO i1 i2 a b d i h':=by
 obtain⟨m,B,n,g⟩:=x;refine lX (f _ _ r m) ((vj i1 a).mv B λo e=>f _ _ w e) ((vp i2 b).mv n λo e=>f _ _ A e) ?_;rcases g with ⟨g,u,v,j⟩|⟨p,o,q,g,j,C,s,t,l⟩
 ·exact .inl ⟨f _ _ k g,(oi u v (f _ _ y j))⟩
 ·exact .inr (qA p o q (f _ _ k g) (f _ _ l j) C s t l)
section
variable{TI TO b:zW}
theorem Ji(D:ZipApart z TI TO i1 i2 a b)(O:d<s.heap.objs.size)(K:ZS z TI TO i1 i2 a b d i s.heap)(I:s.heap.IsList a xs)(t:s.heap.IsTuple b ys)(G:xs[i]?=some x)(B:ys[i]?=some y)
  (J:∀h',ZS z TI TO i1 i2 a b d (i+1) h'->IsPair h' s.heap.objs.size x y->(∀c o,c≠z->c≠TO->c≠i1->c≠i2->s.heap.get? c=some o->h'.get? c=some o)->Q (some (.ref s.heap.objs.size)) {s with heap:=h'}):
  wpAny (model prog w) A (pyNext (.ref z)) Q E s:=by
 obtain⟨h,q,l,g⟩:=K;have S:i1<s.heap.objs.size:=let⟨_,e,_⟩:=(vj i1 a).ob q;lI e;have P:i2<s.heap.objs.size:=let⟨_,e,_⟩:=(vp i2 b).ob l;lI e;rcases g with ⟨g,u,v,k⟩|⟨p,o,W,g,k,H,C,F,T⟩
 ·have L:z<s.heap.objs.size:=lI g;refine DX (vj i1 a) (vp i2 b) D g h k q l I t G B λh' m U r n j f=>?_;exact J h' (lX (f _ _ D.TIz D.TITO D.TIi1 D.TIi2 h) r n (.inr (qA s.heap.objs.size _ false m j (pP L) (pP S) (pP P) (pP O)))) j f
 ·refine Kj (vj i1 a) (vp i2 b) D g k h q l I t G B λh' m r n j f=>?_;exact J h' (lX (f _ _ D.TIz D.TIi1 D.TIi2 h) r n (.inr (qA p o true m (f _ _ H C F k) H C F T))) j λc o M _ R N e=>f c o M R N e
theorem II(l:A.handled=none)(D:ZipApart z TI TO i1 i2 a b)(x:ZS z TI TO i1 i2 a b d i s.heap)(n:s.heap.IsList a xs)(j:s.heap.IsTuple b ys)(r:xs[i]?=none\/ys[i]?=none)
  (m:∀h',(∀c o,c≠z->c≠TO->c≠i1->c≠i2->s.heap.get? c=some o->h'.get? c=some o)->Q none {s with heap:=h'}):wpAny (model prog w) A (pyNext (.ref z)) Q E s:=by
 obtain⟨h,q,k,f⟩:=x;rcases f with ⟨f,u,v,g⟩|⟨p,o,F,f,g,I,G,H,J⟩
 ·exact D8 (e:=none) (q1:=true) (q2:=false) l (λ_ z=>nomatch z) D f h g q k n j r m
 ·exact JO (vj i1 a) (vp i2 b) l D f g h q k n j r λh' y=>m h' λc o C _ B t e=>y c o C B t e
end
section
variable{prog:yB}{w:yD}{K:Type}[DecidableEq K]{knd:KeyKind prog w K}{A:zZ}{R:Result->zY->Prop}{z TI TO i1 i2 a b d:zW}{xs ys:zG}{rs:List (K×zX)}{h₀:yA}{g:Array GenState}{dr:Drawn}{os:OsState}
theorem Ly(hh:A.handled=none)(D:ZipApart z TI TO i1 i2 a b)(N:z≠d)(n1:TI≠d)(L:TO≠d)(S:i1≠d)(W:i2≠d)(Y:a≠d)(nb:b≠d)(hsz:rs.length<=sizeLine)
  (pa:∀(i:Nat)(k:K)(u:zX),rs[i]?=some (k,u)->∃q,xs[i]?=some q/\ys[i]?=some u/\knd.is k q=true) (he:xs[rs.length]?=none\/ys[rs.length]?=none) (hl:h₀.IsList a xs) (X:h₀.IsTuple b ys) (v:a≠TO) (Z:a≠i1) (E:a≠i2) (az:a≠z) (F:b≠TO) (b1:b≠i1) (b2:b≠i2) (bz:b≠z)
  (M:∀h' tk,h'.DictOf knd d (merged [] rs)->(∀c o,c≠z->c≠TO->c≠i1->c≠i2->c≠d->h₀.get? c=some o->h'.get? c=some o)->R (.ok (.ret .none)) ⟨h',g,dr,tk,os⟩):
  ∀(k i:Nat)(h:yA)(tk:Nat),rs.length-i=k->i<=rs.length->ZS z TI TO i1 i2 a b d i h->(∀c o,c≠z->c≠TO->c≠i1->c≠i2->c≠d->h₀.get? c=some o->h.get? c=some o)->h.DictOf knd d (merged [] (rs.take i))->
   codeAny (model prog w) A (.builtin "dict.update.loop" ⟨[.ref d,.ref z,rawInt i,.none],[]⟩) R ⟨h,g,dr,tk,os⟩:=by
 intro k
 induction k with
 |zero=>
  intro i h tk hk hi n l m;have j:i=rs.length:=by lia
  refine codeAny_builtin ze ?_;rw[Around.under_plainId uX _];show wpAny _ A.in1 (pyNext (.ref z)>>=_) _ _ _;refine cz (II (s:=⟨h,g,dr,tk,os⟩) (by simpa using hh) D n (hl.at λo e=>l a o az v Z E Y e) (let⟨o,e,r⟩:=X;(cb o (l b o bz F b1 b2 nb e) r)) (by rw[j];exact he) λh' f=>?_);show wpAny _ A.in1 (Builtin.Dict.addKeywords d []>>=λ_=>ret Value.none) _ _ _;rw[j,na]at m;refine mF m ?_;clear m;rintro B O P ⟨Q,r⟩;exact cz (ff (ff (M h' tk (pb B O P (f d B N.symm L.symm S.symm W.symm Q) r) λc o x t H y J e=>f c o x t H y (l c o x t H y J e))))
 |succ k ih=>
  intro i h tk hk hi n l m;have a0:i<rs.length:=by lia
  obtain⟨⟨k',u⟩,hku⟩:∃p,rs[i]?=some p:=⟨rs[i],nP _⟩;obtain⟨q,hx,hy,U⟩:=pa i k' u hku;refine codeAny_builtin ze ?_;rw[Around.under_plainId uX _];show wpAny _ A.in1 (pyNext (.ref z)>>=_) _ _ _;have ld:d<h.objs.size:=let⟨_,_,_,e,_⟩:=m;lI e;refine cz (Ji (s:=⟨h,g,dr,tk,os⟩) D ld n (hl.at λo e=>l a o az v Z E Y e) (let⟨o,e,r⟩:=X;(cb o (l b o bz F b1 b2 nb e) r)) hx hy λh' zs I f=>?_);have I:IsPair h' h.objs.size q u:=I;have hT:(⟨h',g,dr,tk,os⟩:zY).TypeIs (.ref h.objs.size) "tuple":=(cb _ I rfl);show wpAny _ A.in1 (holding [Value.ref h.objs.size] _>>=_) _ _ _;refine cz (qC (cz (wpAny_tryCatch ?_)));unfold Builtin.Dict.pairItems;refine cz (wpAny_typeOf hT ?_);rw[eH (by decide)];refine cz (rG I rfl (ff ?_));show wpAny _ A.in1 (holding [q,u] (dictSet d q u)) _ _ _
  have T:h'.DictOf knd d (merged [] (rs.take i)):=by refine mF m ?_;clear m;rintro B O P ⟨Q,r⟩;exact pb B O P (f d B N.symm L.symm S.symm W.symm Q) r
  have C:(merged [] (rs.take i)).length<=sizeLine:=by
   have e1:=merged_length_le ([]:List (K×zX)) (rs.take i);have e2:(rs.take i).length<=rs.length:=by rw[mK];lia
   simp only [pO,Nat.zero_add]at e1
   lia
  refine qC (wpAny_dictSet_pairs (hsz:=C) (s:=⟨h',g,dr,tk,os⟩) U T λh2 G sb=>?_);rw[<-merged_take_succ [] rs i (k',u) hku]at G;refine ff ⟨plainId_quiet uX _,ih (i+1) h2 _ (by lia) (by lia) (zs.at N n1 L S W λc o hc e=>(sb.2 c hc).trans e) ?_ G⟩;intro c oc x t H y J e;exact(sb.2 c J).trans (f c oc x t H y (l c oc x t H y J e))
end
theorem Pa:typeLookup (.type "zip") "__getattr__"=pure none:=by rw[typeLookup_type,builtinLookup_eq_fast];kernel_rfl
theorem Pc:entryFor table "zip.__getattribute__"=some Builtin.«object.__getattribute__» :=entryFor_alias (id':="object.__getattribute__") (by kernel_rfl) (by decide+kernel) (by decide+kernel) (by kernel_rfl)
theorem MN:typeLookup (.type "zip") "keys"=pure none:=by rw[typeLookup_type,builtinLookup_eq_fast];kernel_rfl
theorem OJ(a:zW)(fs:zG)(sl:zF)(name:Str)(u:Tok)(e:typeLookup (.type "zip") name=pure none)(b:(["__module__","__name__","__qualname__","__doc__","__annotations__"]:zC).contains name=false)(hsz:name.length+100<=sizeLine:=by size_fits):
  Meets (Builtin.«object.__getattribute__» ⟨[.ref a,.str name u],[]⟩) (λA R s=>s.heap.get? a=some {cls:=.type "zip",dict:=none,data:=.fields fs,slots:=sl}/\raisesAttr (.ref a) name A R s):=
 Meets.of_wp λf w A R s c=>by
  obtain⟨k,g,d,i,j⟩:=s;obtain⟨h,c⟩:=c;have l:(⟨k,g,d,i,j⟩:zY).TypeIs (.ref a) "zip":=(cb _ h rfl);unfold Builtin.«object.__getattribute__»
  repeat (any_goals (first|assumption|wp_step))
  simp only [b,Bool.false_eq_true,if_false]
  repeat (any_goals (first|assumption|wp_step))
  exact wpAny_raiseAttrError c.1 c.2 (attrMsg_fits (by decide+kernel) hsz)
theorem MY{fs:zG}
  (j:s.heap.get? a=some {cls:=.type "zip",dict:=none,data:=.fields fs,slots:=sl}) (m:A.handled=none)
  (h:∀h' tk,(∀b k,s.heap.get? b=some k->h'.get? b=some k)->Q none {s with heap:=h',toks:=tk}):wpAny (model prog w) A (getAttr? (.ref a) "keys") Q E s:=by
 obtain⟨n,g,d,tk,l⟩:=s;have i:∀c,(⟨n,g,d,c,l⟩:zY).TypeIs (.ref a) "zip":=λ_=>(cb _ j rfl);have o:=sub_AttributeError;have t:=F.slot_zip_getattribute.lookup;have q:=F.slot_zip_getattribute.bind (.ref a);have r:=Pa;unfold getAttr? getAttrBy? getAttrBy
 repeat (any_goals (first|assumption|exact i _|((with_reducible show wpAny _ _ (call (Value.builtin "zip.__getattribute__") _ _) _ _ _);refine call_meets F.slot_zip_getattribute (i _) Pc (F.args_zip_getattribute_2 _ _) (OJ a fs sl "keys" _ MN (by decide) (by decide)) (fI j m λh' c e f=>?_))|wp_step))
 obtain⟨u,p,v⟩:=f.there;show wpAny _ _ (getattributeRaised _ _ _ _ _ _ _) _ _ _;unfold getattributeRaised
 repeat (any_goals (first|assumption|wp_step))
 all_goals exact h _ _ f.1
def tDZ(K:Frag)(ta:TA):TE:=λZ H Q=>ta Z H λd a=>∃l t b c,d=[.ref l,.ref t]/\SqL K a l ((b:zU).map kV)/\SqT K a t c/\b.length=c.length/\∀p,a p=none->Q (.ref p) (upd a p (.dK (mo [] (b.zip c))))
theorem C7:∀{ks:zU}{us:zM}{vs:zH},ks.length=us.length->A2m us vs->KV (ks.zip us) (ks.zip vs)| [],[],_,_,.nil=>.nil|k::ks,u::us,_,h,.cons r t=>.cons ⟨rfl,r⟩ (C7 (by simpa using h) t)
theorem En{P:yB}{w:yD}:∀{ks:zU}{its:zH},A2m (ks.map kV) its->∀{i:Nat}{k:Key},ks[i]?=some k->∃v,its[i]?=some v/\(oD P w).is k v=true| [],_,.nil,i,k,h=>by simp at h|_::_,_,.cons r t,0,k,h=>by simp at h;subst h;exact cb _ rfl (vh r)|_::_,_,.cons r t,i+1,k,h=>by obtain⟨v,a,b⟩:=En (P:=P) (w:=w) t (i:=i) (k:=k) (by simpa using h);exact cb v (by simpa using a) b
theorem Ng{a b:yC}{t l:Pos}(E:X.calm=true)(a4:Gl X "dict")(a1:X.mg "dict"=none)(a9:Gl X "zip")(b0:X.mg "zip"=none)(ha:PA X [a,b] ta)
  (O:starEach [.Call (.Name "zip" p2) [a,b] [] l] X.env=(false,eval (.Call (.Name "zip" p2) [a,b] [] l) X.env)::starEach [] X.env:=by rfl)
  (hs:starEach [a,b] X.env=[(false,eval a X.env),(false,eval b X.env)]:=by rfl) (S:starEach [b] X.env=[(false,eval b X.env)]:=by rfl):
  PE X (.Call (.Name "dict" p1) [.Call (.Name "zip" p2) [a,b] [] l] [] t) (tDZ X.K ta):=by
 intro R s Z H Q I h;have hh:X.A.handled=none:=I.ok.hd E;refine wpAny_Call_Name_kw (tf I a4 a1 boot_dict ?_);refine PyProof.Rows.callWith_type1 ?_ O (by rfl);rw[O];show wpAny _ _ (spliced ((false,eval _ X.env)::backTo t (starEach [] X.env))) _ _ s;refine Calls.spliced_cons ?_;refine Call_ (tf I a9 b0 boot_zip (PyProof.Rows.callWith_type1 (thn (ha l R s Z H _ I h) ?_) (by rw[hs,S]) (by rw[S];rfl)));refine λus d zz=>ei zz λvs H1 I1 r1 v=>?_;clear zz;refine ou v ?_;clear v;rintro l1 l2 p ws e a6 Y ⟨b1,q⟩;subst e;refine ei (uR r1) ?_;rintro u u2 rfl ru a7;cases ru;cases a7;obtain⟨b4,rv,y,zk⟩:=I1.list a6;obtain⟨f,T,C,_⟩:=I1.tuple Y;have J:l1<d.heap.objs.size:=let⟨_,e,_⟩:=y.isList;lI e;have L:l2<d.heap.objs.size:=C.lt;have e1:=rv.length;have e2:=T.length;rw[dm]at e1;have hn:=I1.hok.fresh (fy d.heap.objs.size);refine No y.isList (show d.heap.IsTuple l2 f.toArray from C) λj zs kp=>Calls.spliced_nil ?_;refine mM zs ?_;clear zs;rintro hz b3 ⟨tu,tv,a5⟩ a0 W;have D:=zipApart_new J L;have lz:d.heap.objs.size+4<j.objs.size:=lI hz;refine callType_codes (Q₁:=λN s₁=>N=.ref j.objs.size/\s₁={d with heap:=j.push {cls:=.type "dict",data:=.dict #[]}}) F.kt_called_dict (F.kt_typeCall_dict_1 _) F.entry_dict_init (kt_code_dict_new (s:={d with heap:=j}) _ ⟨rfl,rfl⟩) ?_;rintro N s₁ ⟨rfl,rfl⟩;have m:(j.push {cls:=.type "dict",data:=.dict #[]}).DictOf (oD X.prog X.w) j.objs.size []:=Heap.DictOf.new j;have ez:(j.push {cls:=.type "dict",data:=.dict #[]}).get? (d.heap.objs.size+4)=some _:=gc _ hz;have a2:Shared.TypeIs {d with heap:=j.push {cls:=.type "dict",data:=.dict #[]}} (.ref (d.heap.objs.size+4)) "zip":=(cb _ ez rfl);refine fI m.typeIs (F.args_dict_init_2 _ _) ?_;unfold Builtin.«dict.__init__»;refine cz ?_;unfold Builtin.Dict.selfAndRest;refine cz (wpAny_notOrdered_dict m.typeIs ?_);show wpAny _ _ (pure (j.objs.size,[Value.ref (d.heap.objs.size+4)])) _ _ _;refine ff ?_;show wpAny _ _ (Builtin.Dict.updateFrom "dict.__init__" j.objs.size (.ref (d.heap.objs.size+4)) [] .none) _ _ _;unfold Builtin.Dict.updateFrom;refine cz (wpAny_typeOf a2 ?_);rw[eH (by decide)];refine cz (MY ez (by simpa using hh) λU a3 G=>?_)
 rw[eH (show(none:zN).isNone=true from rfl)];refine cz (wpAny_rule ?_);refine cz (wpAny_pyIter_zip (s:={d with heap:=U,toks:=a3}) (G _ _ ez) ?_);have x:∀c o,j.get? c=some o->U.get? c=some o:=λc o e=>G _ _ (gc _ e)
 have lr:(p.zip f).length=p.length:=by rw[List.length_zip];lia
 have v:∀i:Nat,i<=4->d.heap.objs.size+i≠j.objs.size:=λi hi z=>by lia
 have q2:∀c:Nat,c<d.heap.objs.size->c≠j.objs.size:=λc E z=>by lia
 have n:∀c i:Nat,c<d.heap.objs.size->c≠d.heap.objs.size+i:=λc i E z=>by lia
 have B:d.heap.objs.size<=j.objs.size:=by lia
 have z1:p.length<=sizeLine:=by rw[dm]at zk;exact zk
 refine ff ⟨plainId_quiet uX _,Ly (knd:=oD X.prog X.w) (rs:=p.zip f) (xs:=b4.toArray) (ys:=f.toArray) (h₀:=U) (by simpa using hh) D (v 4 (by decide)) (v 2 (by decide)) (v 3 (by decide)) (v 0 (by decide)) (v 1 (by decide)) (q2 _ J) (q2 _ L) (by rw[lr];exact z1) (λi k u hr=>?_) ?_ (y.isList.at λo e=>x _ _ (kp _ _ e)) (let⟨o,e,r⟩:=C;(cb o (x _ _ (kp _ _ e)) r)) (n _ 3 J) (n _ 0 J) (n _ 1 J) (n _ 4 J) (n _ 3 L) (n _ 0 L) (n _ 1 L) (n _ 4 L) (λh2 tk dd a8=>?_) (p.zip f).length 0 U _ (by lia) (pG _) (lX (x _ _ b3) ((vj _ l1).mv a0 λo e=>x _ _ e) ((vp _ l2).mv W λo e=>x _ _ e) (.inl ⟨x _ _ hz,(oi tu tv (x _ _ a5))⟩)) (λ_ _ _ _ _ _ _ z=>z) ?_⟩
 ·obtain⟨g1,g2⟩:=wC.mp hr;obtain⟨kv,g3,g4⟩:=En (P:=X.prog) (w:=X.w) rv g1;exact fx kv (by simpa using g3) (by simpa using g2) g4
 ·left;rw[lr];simp
  lia
 ·have kv:=C7 b1 T;refine nE rfl (.ref j.objs.size) _ (I1.laid (t':=tk) (o:=.dK (mo [] (p.zip ws))) (λb u eb=>?_) B (nu ?_ ?_ _ (KV.merge kv .nil) dd)) rfl (q _ (I1.hok.fresh B))
  ·have M:=lI eb;exact a8 b u (n _ 4 M) (n _ 3 M) (n _ 0 M) (n _ 1 M) (q2 _ M) (x _ _ (kp _ _ eb))
  ·have:=wy (p.zip ws) [];have lw:(p.zip ws).length=p.length:=by rw[List.length_zip];lia
   simp only [pO]at this
   lia
  ·have:=I1.big;have b2:j.objs.size≠sysModules:=pP (oV this B)
   simpa using b2
 ·refine mF m ?_;clear m;rintro od es ep ⟨g,r⟩;exact pb od es ep (G _ _ g) r
section
variable{TI TO b:zW}
end
theorem LH{xs:zM}(e:A0l H H')(h:SqT K H a xs):SqT K H' a xs:=by
 rcases h with (h|⟨o,h⟩)|h
 ·exact .inl (.inl (e _ _ h))
 ·exact .inl (.inr ⟨o,e _ _ h⟩)
 ·exact .inr h
def Ix(K:Frag):R2:=λx y H Q=>∃a b c d,x=.ref a/\y=.ref b/\SqT K H a c/\SqT K H b d/\c.length+d.length<=sizeLine/\
 (c=[]->Q (.ref b) H)/\(c≠[]->d=[]->Q (.ref a) H)/\(c≠[]->d≠[]->∀p,H p=none->Q (.ref p) (upd H p (.tup (c++d))))
theorem J4:OpR X (binaryOp .Add) (Ix X.K):=by
 intro f s Z H x y v u Q I q C h;refine ou h ?_;clear h;rintro a b p U rfl rfl t ⟨A,G,O,S,N⟩;by_cases hx:p=[]
 ·subst hx;cases q;cases C;obtain⟨g,W,D,_⟩:=I.tuple t;obtain⟨c,Y,T,_⟩:=I.tuple A;have J:g=[]:=W.nil_iff.mpr rfl;refine nw (id D) ?_;rintro⟨M,R,B,P⟩ r o ⟨n,m⟩;refine nw (id T) ?_;rintro⟨w,l,k,j⟩ e d ⟨L,i⟩;simp only at o m d i;subst o m d i
  exact concat_meets (cb _ r rfl) (cb _ e rfl) noFill_tuple_add seq_tuple_add PySem.F.slot_tuple_add PySem.F.entry_tuple_add (PySem.F.args_tuple_add_2 _ _)
   (tuple_addW0 a b g.toArray c.toArray n L R l P j (by simp[J])) ⟨r,(nE e (.ref b) H I rfl (O rfl))⟩
 ·exact Dn f s Z H _ _ v u Q I q C (nD a b p U rfl rfl t A (lX hx G (λz=>S hx z) λz=>N hx z))
def Hy:R2:=λx y H Q=>∃a b e c,x=.ref a/\y=.ref b/\H a=some (.tup e)/\H b=some (.tup c)/\e.length+c.length<=sizeLine/\∀q d,A0l H d->d q=some (.tup (e++c))->Q (.ref q) d
theorem Lc:OpR X (binaryOp .Add) Hy:=λc s Z H x y v u Q I n i h=>by
 refine ou h ?_;clear h;rintro a b j k g l d ⟨e,f,q⟩;refine J4 c s Z H x y v u Q I n i (nD a b j k g l (SqT.of d) (SqT.of e) (lX f (λz=>?_) (λ_ z=>?_) λ_ _ p m=>?_))
 ·subst z;exact q b H (A0l.refl _) e
 ·subst z;exact q a H (A0l.refl _) (by rw[ox];exact d)
 ·exact q p _ (ed m) cp
section
variable{d:Drawn}
variable{bs:zH}
theorem O9(Fn:ExcBaseFacts Bn newId inN bmN)(j:bmB.contains (.type Bn)=true)(F:ExcBaseFacts B nid initId bmB)(T:OwnTail h bmB bm){l:zW}{s:Obj}{Q:Fin->zY->Prop}
  (c:h.get? C=some (excClassObj nm q C N bs bm hdct sn sub ab col dd k0 k1 k2 k3 k5 newId)) (z:h.Ns N mN) (hi:mN "__init__"=some (.ref l))
  (p:h.get? l=some s) (k:s.cls=.type "function")
  (y:∀h' e,Heap.MadeExcOf h h' e (.ref C) rest->
   wpAny (model prog w) A (call (.ref l) (.ref e::rest)) (λr s'=>r=.none/\Q (.done (.ret (.ref e))) s') E ⟨h',g,d,t,os⟩) (hrest:rest.length<=sizeLine):
  wpAny (model prog w) A (Builtin.«type.__call__» ⟨.ref C::rest,[]⟩) Q E ⟨h,g,d,t,os⟩:=by
 repeat (first|with_reducible refine sQ c ?_|with_reducible refine wpAny_madeBy_exc c ?_|wp_step)
 refine codeAny_call_builtin_code (Code.quiet_builtin _ Fn.quiet) (wpAny_check_new_subU Fn j T c ?_);refine codeAny_exc_new_subU Fn j F T c ?_ hrest;show wpAny _ _ _ _ _ _
 have f:=gc {cls:=.ref C,data:=.fields #[.ref h.objs.size,.none,.none,.none,.bool false,.none]}
  (gc {cls:=.type "tuple",data:=.seq rest.toArray} c)
 have i:=gc {cls:=.ref C,data:=.fields #[.ref h.objs.size,.none,.none,.none,.bool false,.none]}
  (gc {cls:=.type "tuple",data:=.seq rest.toArray} p)
 have n:((h.push {cls:=.type "tuple",data:=.seq rest.toArray}).push {cls:=.ref C,data:=.fields #[.ref h.objs.size,.none,.none,.none,.bool false,.none]}).Ns N mN :=let⟨o,es,ep,e,r⟩:=z;(pb o es ep (gc _ (gc _ e)) r)
 have a:((h.push {cls:=.type "tuple",data:=.seq rest.toArray}).push
   {cls:=.ref C,data:=.fields #[.ref h.objs.size,.none,.none,.none,.bool false,.none]}).get? (h.objs.size+1)=some
   {cls:=.ref C,data:=.fields #[.ref h.objs.size,.none,.none,.none,.bool false,.none]}:=by heap_get
 have m:(Value.ref C::bm).contains (.ref C)=true:=by simp
 have T₁:=T.keeps (h':=(h.push {cls:=.type "tuple",data:=.seq rest.toArray}).push {cls:=.ref C,data:=.fields #[.ref h.objs.size,.none,.none,.none,.bool false,.none]})
  λb o e=>gc _ (gc _ e)
 unfold isInstance
 repeat (first|with_reducible refine sQ a ?_|(with_reducible refine wpAny_isSubtype_exc f ?_;rw[m])|wp_step)
 show wpAny _ _ (typeLookup (.ref C) _) _ _ _;refine wpAny_typeLookup_tail f n T₁ F.mroIs F.init.lookup ?_;rw[hi];refine qC (cz ?_);unfold bindSpecial;refine cz (wpAny_typeOf (T:="function") (cb _ i k) ?_);rw[eH (by decide)];refine ff (cz (oj (y _ (h.objs.size+1) ⟨λb o v=>gc _ (gc _ v),Heap.get?_none_of_le (Nat.le_succ _),h.objs.size,a,Heap.get?_none_of_le (fy _),?_⟩) (λr s' u=>?_) λ_ _ x=>x))
 ·exact gc _ (Heap.get?_push_at rfl rfl)
 ·obtain⟨rfl,D⟩:=u
  wp_walk
  exact D
theorem OK(Fn:ExcBaseFacts Bn newId inN bmN)(i:bmB.contains (.type Bn)=true)(F:ExcBaseFacts B nid initId bmB)(T:OwnTail h bmB bm){f:zW}{Q:zA}
  (a:h.get? C=some (excClassObj nm q C N bs bm hdct sn sub ab col dd k0 k1 k2 k3 k5 newId)) (l:h.Ns N mN) (hi:mN "__init__"=some (.ref f))
  (c:h.get? f=some j) (b:j.cls=.type "function")
  (k:∀h' e,Heap.MadeExcOf h h' e (.ref C) rest->
   wpAny (model prog w) (A.under (.builtin "type.__call__" ⟨.ref C::rest,[]⟩)) (call (.ref f) (.ref e::rest)) (λr s'=>r=.none/\Q (.ref e) s') E ⟨h',g,d,t,os⟩) (hrest:rest.length<=sizeLine):
  wpAny (model prog w) A (call (.ref C) rest) Q E ⟨h,g,d,t,os⟩:=by
 have p:=tc_lookup;have o:=tc_bind (.ref C);have n:(⟨h,g,d,t,os⟩:zY).TypeIs (.ref C) "type":=(cb _ a rfl);refine wpAny_call (codeAny_of_tree ?_);show wpAny _ _ (callAny (.ref C) _) _ _ _
 repeat (any_goals (first|assumption|with_reducible refine sQ a ?_|wp_step))
 refine⟨rfl,?_⟩;refine codeAny_call_builtin_at (Code.quiet_builtin _ (by decide+kernel)) entry_typeCall (wpAny_check_type_call_sub a (O9 (hrest:=hrest) Fn i F T a l hi c b λh' e m=>?_));exact k h' e m
end
end L2
namespace PySem.W
open PySem PySem.Spec PySem.Calls PyProof.Rows PySem.Builtin.ObjectAttr PySem.Builtin
noncomputable def vm:zH->Bool| [.type a,.type b,.type c,.type d]=>a=="ValueError"&&b=="Exception"&&c=="BaseException"&&d=="object"|.ref _::r=>vm r|_=>false
variable{x C:zW}{w:yD}{vs:zG}{v:zX}{tk:Tok}{s:zY}{prog:yB}{p c:Obj}{od:Option Obj}{name:Str}{l:zH}{R:Result->zY->Prop}{Q:Unit->zY->Prop}{K:Frag}{E:zA}{A:zZ}
theorem DV(h:vm l=true):l=[.type "ValueError",.type "Exception",.type "BaseException",.type "object"]\/∃c r,l=.ref c::r/\vm r=true:=by
 unfold vm at h;split at h
 ·simp only [uh,beq_iff_eq]at h;obtain⟨⟨⟨rfl,rfl⟩,rfl⟩,rfl⟩:=h;exact .inl rfl
 ·exact .inr (mL _ _ rfl h)
 ·cases h
theorem ML(a:zX):vm l=true->refuseLoop a "__setattr__" l=pure ():=by
 induction l with
 |nil=>intro h;cases h
 |cons x r ih=>
  intro h;obtain z|⟨c,r,z,h⟩:=DV h
  ·rw[z];exact PySem.F.store_ValueError.passes a
  ·cases z;rw[refuseLoop_ref];exact ih h
theorem JU:vm l=true->l.contains (.type "object")=true:=by
 induction l with
 |nil=>intro h;cases h
 |cons x r ih=>
  intro h;obtain z|⟨c,r,z,h⟩:=DV h
  ·rw[z];decide
  ·cases z;rw[List.contains_cons,ih h,Bool.or_true]
def excOver(K:Frag)(C:zW):Bool:=(clsIn K C).any λa=>vm a.mro
theorem EX(X:K.In s.heap)(I:InstAt s.heap x p C od)(o:excOver K C=true)(l:takerIn K C name=some none)
  (h:∀b,wpAny (model prog w) A.in1 (storeInOwnDict (.ref x) (.ref C) (.str name tk) name v b)
   (λfin s'=>match fin with|.done f=>R (.ok f) s'|.again c'=>c'.quiet=true/\codeAny (model prog w) A c' R s') (λe s'=>R (.error e) s') s):
  codeAny (model prog w) A (.call (.builtin "object.__setattr__") ⟨[.ref x,.str name tk,v],[]⟩) R s:=by
 have SF:=PySem.F.store_object;obtain⟨g,k,d⟩:=any_some o;have n:g.mro.isEmpty=false:=by cases q:g.mro with|nil=>rw[q]at d;cases d|cons _ _=>rfl
 have i:Looks (model prog w) s.heap (isInstance (.ref x) (.type "object")) true:=I.type.andThen (looks_mroIn X (by unfold mroIn;rw[k,Option.bind_some,fa (by rw[n];decide),JU d]));refine codeAny_call_builtin SF.slot.plain SF.entry (@check_slot (model prog w) _ _ s "object.__setattr__" "object" "__setattr__" (.ref x) [.str name tk,v] [] _ SF.kind SF.split i (SF.args (.ref x) (.str name tk) v) ?_);obtain⟨c,t,j⟩:=Option.bind_eq_some_iff.mp l;have r:Looks (model prog w) s.heap (mroOf (.ref C)) g.mro:=(looks_clsIn X k).andThen .now
 have L3:Looks (model prog w) s.heap (storeTaker? c) none:=by
  cases c with
  |none=>cases j;exact .now
  |some a=>
   obtain⟨b,m,e⟩:=rg.mp j
   cases b with
   |true=>cases e
   |false=>exact(looks_takesIn X m).andThen .now
 rw[osa_eq,refuse_eq];refine cz (cz (I.type.here (cz (r.here ?_))));rw[ML _ d];refine ff (cz (I.type.here (cz ((looks_findIn X t).here (cz (L3.here ?_))))));exact h _
theorem exc_setattr(X:K.In s.heap)(l:s.heap.get? x=some c)(j:c.cls=.ref C)(i:c.dict=none)(f:c.data=.fields vs)
  (hs:findIn K (.ref C) "__setattr__"=some (some (.builtin "object.__setattr__"))) (N:excOver K C=true) (G:takerIn K C name=some none) (P:(clsIn K C).any (·.hasDict)=true)
  (h:∀h' tk,h'.get? x=some {c with dict:=some s.heap.objs.size}->h'.Ns1 s.heap.objs.size (λy=>if y=name then some v else none)->(∀b o,b≠x->s.heap.get? b=some o->h'.get? b=some o)->Q () {s with heap:=h',toks:=tk}):
  wpAny (model prog w) A (setAttr (.ref x) name v) Q E s:=by
 obtain⟨a,g,d,t,F⟩:=s;dsimp only at X l h;have I:InstAt a x c C none:=⟨l,j,by obtain⟨_,_,d,_⟩:=c;cases f;rfl,by rw[i];exact True.intro⟩;refine set_plain X I hs (EX (s:=⟨a,g,d,t+1,F⟩) X I N G λb=>?_);obtain⟨Z,J,r⟩:=any_some P;obtain⟨Y,H,S,D⟩:=c;dsimp only at j i f;subst j i f;have L:=looks_clsIn (M:=model prog w) X J;refine cz (ff (cz (cz (wpAny_loadPart l (cz (Looks.here (s:=⟨a,g,d,t+1,F⟩) L ?_))))));rw[r];have k:(a.push {cls:=.type "dict",data:=.dict #[]}).get? x=some {cls:=.ref C,data:=.fields vs,slots:=D}:=gc _ l;have m:x≠a.objs.size:=mG (lI l);show wpAny _ _ (if (! true|| ! typeHasDict (.ref C))=true then pure none else (alloc {cls:=Value.type "dict",data:=Data.dict #[]}>>=λd=>update x (λo=>{cls:=o.cls,dict:=some d,data:=o.data,slots:=o.slots})>>=λ_=>dictMade (.ref C) x d)) _ _ _;rw[fa (by simp[typeHasDict])];refine cz (wpAny_alloc' ?_);refine cz (wpAny_update' k ?_);refine ff ?_
 have z:((a.push {cls:=.type "dict",data:=.dict #[]}).update x λo=>{cls:=o.cls,dict:=some a.objs.size,data:=o.data,slots:=o.slots}).get? a.objs.size
   = some {cls:=.type "dict",data:=.dict #[]}:=
  (Heap.get?_update_ne _ _ _ _ m.symm).trans (Heap.get?_push_at rfl rfl)
 have p:((a.push {cls:=.type "dict",data:=.dict #[]}).update x λo=>{cls:=o.cls,dict:=some a.objs.size,data:=o.data,slots:=o.slots}).Ns a.objs.size (λ_=>none):=(mh _ (#[]) _ z rfl (λe O=>absurd O (by simp)) λ_=>rfl)
 show wpAny _ _ (storeInDict a.objs.size (.str name t) name v) _ _ _;unfold storeInDict newKeyGuard;refine cz (ff (cz (wpAny_nsSet1 (Heap.Ns1.of_empty p) λh' n hs=>?_)));refine mF (n.count (Within.cons name v Within.nil)) ?_;rintro W U R ⟨q,u,B⟩;refine cz (wpAny_lookBehind q (by rw[u];exact pastItsLine_dict (oU B (by rw[nG,pO,sizeLine_eq];lia))) ?_);refine ff ?_;refine h h' _ ((hs.2 x m).trans (vc _ k rfl)) n λb o T e=>?_;exact(hs.2 b (mG (lI e))).trans ((Heap.get?_update_ne _ _ _ _ T).trans (gc _ e))
end PySem.W
namespace L2
open PySem PySem.Spec PyProof.Rows
variable{φ:yA->Prop}{yp pos' pos p npos hpos epos:Pos}{y x qual q nm n:Str}{w:yD}{vs dvs:zM}{value:yC}{us sub ds bm:zH}{tx:TX}{tv ta:TE}{ts:zG}{th:zO->zW->TS}{t f ea e dx b a T L C' C:zW}{suite:List Stmt}{st b₀:Stmt}{sp:Sp}{sn ps N:zC}{scope:Scope}{s1 s' s:zY}{rest hs:List ExceptHandler}{pins:zD}{outer l:List Env}{oe c:Obj}{od dd:zO}{o:HO}{newId:String}{mg:zE}{k5 k3 k2 k1 k0:zN}{i:Nat}{h₀:ExceptHandler}{hdct ab:Bool}{h3 h2 h1 h' h base B:yA}{g cd a0 D:zX}{fd:zS}{es:zT}{env:Env}{col:Option Bool}{Z:St}{X:Cx}{Q:zW->zW->Hp->Prop}{P:yB}{M:Model}{K:Frag}{H1 H:Hp}{E' E:XK}{CX:CXT}{A:zZ}
theorem Inv.trackO(I1:Inv X pins Z H1 s1)(I:Inv X pins Z H s)(B:s1.heap.get? a=none)(A:H a=none)(j:A1p X.prog X.w (upd H a o) s.heap a o):Inv X pins Z (upd H a o) s:=by
 have d:∀b o,s1.heap.get? b=some o->b≠a:=λb o e z=>by rw[z,B]at e;cases e
 have f:∀b u,H b=some u->upd H a o b=some u:=λb u e=>by rw[eh (lO e A)];exact e
 refine⟨I.ok,I.os,I.bare,⟨I.base.keep,I.base.slot,λb o e n g=>?_,I.base.there,λb l e=>f _ _ (I.base.tups b l e),λb o u e=>f _ _ (I.base.frzs b o u e),λb y e=>?_⟩,I.loc,I.cell,?_,λx c e=>?_,λp k=>?_,λb u e=>?_,I.len⟩
 ·obtain⟨t,h⟩:=I1.base.there b o e g;rw[eh (d b t h)];exact I.base.free b o e n g
 ·obtain⟨m,q⟩:=I.base.tbls b y e;exact⟨m,f _ _ q⟩
 ·obtain⟨m,⟨o,_,_,i,_⟩,_⟩:=I1.loc;rw[eh (d _ o i)];exact I.free
 ·obtain⟨v,o,i,_⟩:=I1.cell x c e;rw[eh (d _ o i)];exact I.freeC x c e
 ·obtain⟨e,n,r⟩:=I.pin p k;have h:=(I1.pin p k).1;exact fI e (by rw[eh (d _ _ h)];exact n) r
 ·by_cases g:b=a
  ·subst g;rw[cp]at e;cases e;exact j
  ·rw[eh g]at e;exact(I.hok b u e).stay (λ_ _ _ q=>q) (λc q=>f _ _ q) λc l q=>f _ _ q
def rN(C t:zW)(d:zO):Obj:={cls:=.ref C,dict:=d,data:=.fields #[.ref t,.none,.none,.none,.bool false,.none]}
def xcN(e C t:zW):HO:=.ext λh=>h.get? e=some (rN C t none)
def xcD(e C t dx:zW):HO:=.ext λh=>h.get? e=some (rN C t (some dx))
theorem Ho(q:h.get? e=some (rN C t none)):A1p P w H h e (xcN e C t):=(fI q ⟨_,q⟩ λa b p k=>k _ p)
theorem IC(q:h.get? e=some (rN C t (some dx))):A1p P w H h e (xcD e C t dx):=(fI q ⟨_,q⟩ λa b p k=>k _ p)
structure tU(K:Frag)(C:zW)(f:Str):Prop where
 sa:findIn K (.ref C) "__setattr__"=some (some (.builtin "object.__setattr__"))
 ov:PySem.W.excOver K C=true
 hd:(clsIn K C).any (·.hasDict)=true
 no:A1j K C f
def Ha(K:Frag)(ta tv:TE)(f:Str):TS:=λD Z H=>tv Z H λy c=>ta Z c λx a=>∃e C t,x=.ref e/\a e=some (xcN e C t)/\tU K C f/\
 ∀b,a b=none->D.nx Z (upd (upd a e (xcD e C t b)) b (.xd [(f,y)]))
theorem DC{o:yC}{f:Str}(L:PE X o ta)(Q:PE X value tv)(hs:swapsWith value (some (.Attribute o f pos')) pos.line X.env=pure false):PS X (.Assign [.Attribute o f pos'] value pos) (Ha X.K ta tv f):=by
 intro c s Z H D I h;refine plainObj_wpAny_Assign_Attribute (thn (Q c s Z H _ I h) ?_) hs;refine λu P d=>ei d λy A I1 r q=>?_;clear d;refine thn (L c P Z A _ I1 q) ?_;rintro v i d;refine uY d ?_;clear d;rintro x n I2 G e C t ⟨F,l,j,M⟩;subst F;obtain rfl:v=Value.ref e:=G;obtain⟨J,_,_⟩:=(show A1p X.prog X.w n i.heap e (xcN e C t) from I2.hok e _ l);refine PySem.W.exc_setattr I2.kIn J rfl rfl rfl j.sa j.ov j.no.taker j.hd λh' R m B p=>?_;have k:n i.heap.objs.size=none:=I2.hok.fresh (fy _);have N:i.heap.objs.size≠e:=(lO l k).symm;have Ia:=I2.write (x:=e) (e:=e) (o:=xcD e C t i.heap.objs.size) (h':=h') (t':=R) (by rw[l];exact True.intro) (.inl rfl) (λb u O z=>p b u O z) ⟨_,m⟩ (IC m)
 have Ib:=I2.trackO (a:=i.heap.objs.size) (o:=.xd [(f,y)]) Ia (Heap.get?_none_of_le (fy _)) (by rw[eh N];exact k) ⟨_,B,λg=>by
  by_cases z:g=f
  ·subst z;rw[eH rfl];show B5d (([(g,y)]:zK).lookup g) (some u);simp[List.lookup];exact r
  ·rw[fa z];show B5d (([(f,y)]:zK).lookup g) none;have:(([(f,y)]:zK).lookup g)=none:=by simp[List.lookup,uE.mpr z]
   rw[this]
   exact True.intro⟩
 exact mL Z _ Ib (M _ k)
theorem GV(X:K.In h)(q:isFn K (.ref f)=true):∃o,h.get? f=some o/\o.cls=.type "function":=by
 have z:typeIn K (.ref f)=some (.type "function"):=beq_iff_eq.mp q
 cases lk:K.lookup f with
 |none=>simp[typeIn,lk]at z
 |some o=>exact cb o (X _ _ lk) (by simpa[typeIn,lk]using z)
section
variable{k:Nat}
theorem LX(q:PySem.W.excInG X.K C (some (.ref f)) uL "ValueError.__new__"=true)(fn:isFn X.K (.ref f)=true)
  (F:A3i X.prog X.w X.K X.mg X.base CX k f fd ps sp) (J:A5y (k+1) X.A) (hb:A9f X.K fd ps ds) (D:A2m dvs ds) (M:sZ CX X E) (I:Inv X pins Z H s) (r:A2m vs us) (y:us.length<=sizeLine)
  (h:∀ea ta,H ea=none->sp (.ref ea::(vs++dvs)) (upd H ea (xcN ea C ta)) (λv H2=>v=.non/\Q ea ta H2) E):
  wpAny (model X.prog X.w) X.A (call (.ref C) us) (λv s'=>∃ea ta H2,v=.ref ea/\Inv X pins Z H2 s'/\s.heap.get? ea=none/\Q ea ta H2) X.xe s:=by
 refine pZ (AL I.mod.kin q) ?_;rintro nm qn N bs bm n sn a0 ab ⟨a1,dd,k0,k1,k2,k3,k5,mN,B,hN,Y,T⟩;obtain⟨oI,j,l⟩:=GV I.kIn fn;obtain⟨R,g,d,t,os⟩:=s;refine OK PySem.F.excBase_ValueError (by decide+kernel) PySem.F.excBase_ValueError (T.keeps I.bk) (I.bk _ _ B) (hN.keeps I.bk) Y j l (λG e i=>?_) y;obtain⟨ta,S,_,_⟩:=i.there
 have m:H e=none:=by
  cases z:H e with
  |none=>rfl
  |some u=>obtain⟨o,ho⟩:=(I.hok e u z).at18;have:=i.new;rw[show R.get? e=some o from ho]at this;cases this
 have I1:Inv X pins Z H ⟨G,g,d,t,os⟩:=I.kept (t':=t) (λb o z=>i.keeps b o z);have I2:=I.trackO (a:=e) (o:=xcN e C ta) I1 i.new m (Ho S);have x:=h e ta m;have p:A2m (V.ref e::(vs++dvs)) (Value.ref e::(us++ds)):=.cons rfl (r.append D)
 have hl:(Value.ref e::us++ds).length=ps.length:=by have z:=p.length;rw[F.len _ _ _ _ x]at z;exact z.symm
 refine wpAny_call (codeAny_mono (F.run _ X.stack _ _ ⟨Value.ref e::us,[]⟩ (Value.ref e::(us++ds)) _ _ E (J.make C us []) (I2.env0.make C us []) (hb _ (Value.ref e::us) I2.kIn hl) p x) λr s' c=>?_)
 cases r with
 |error e'=>exact M pins Z _ _ e' s' I2 c
 |ok fl=>
  cases fl with
  |ret u=>refine lS (I2.after c) λv P I3 U L O=>?_;subst L;exact⟨U,(mh e ta P rfl I3 i.new O)⟩
  |next=>exact False.elim c
  |brk=>exact False.elim c
  |cont=>exact False.elim c
end
def rj(H:Hp)(a:zW):Hp:=λb=>if b=a then none else H b
theorem Ba(h:b≠a):rj H a b=H b:=by unfold rj;rw[fa h]
theorem Fw(h:rj H a b=some o):b≠a/\H b=some o:=by
 unfold rj at h;by_cases z:b=a
 ·rw[eH z]at h;cases h
 ·rw[fa z]at h;exact⟨z,h⟩
theorem yU(h:H b=none):rj H a b=none:=by
 unfold rj;split
 ·rfl
 ·exact h
theorem Inv.drop(I:Inv X pins Z H s)(e:H a=some (.ext φ)):Inv X pins Z (rj H a) s:=by
 have d:∀b o,H b=some o->o≠.ext φ->rj H a b=some o:=λb o q n=>by rw[Ba (mU q e n)];exact q
 refine⟨I.ok,I.os,I.bare,⟨I.base.keep,I.base.slot,λb o q n h=>yU (I.base.free b o q n h),I.base.there,λb f q=>d _ _ (I.base.tups b f q) (λz=>nomatch z),λb o u q=>d _ _ (I.base.frzs b o u q) (λz=>nomatch z),λb g q=>?_⟩,I.loc,I.cell,yU I.free,λx c q=>yU (I.freeC x c q),λp i=>?_,λb o q=>?_,I.len⟩
 ·obtain⟨m,z⟩:=I.base.tbls b g q;exact⟨m,d _ _ z (λz=>nomatch z)⟩
 ·obtain⟨q,n,r⟩:=I.pin p i;exact fI q (yU n) r
 ·obtain⟨_,z⟩:=Fw q;exact(I.hok b o z).stay (λ_ _ _ q=>q) (λc q=>d _ _ q (λz=>nomatch z)) λc f q=>d _ _ q (λz=>nomatch z)
theorem Jc(I:Inv X pins Z H s)(d:X.ex=[])(B1:∀b o,X.s₀.heap.get? b=some o->b∉X.fs->∃o',B.get? b=some o')(c:B.StaysIn s.heap)(a:B.StaysIn h')(e:s.heap.UpToSlots h'):Un X.fs [] X.H₀ H X.s₀.heap h':=Ec I d (Un.kept λ_ _ z=>z) B1 c a e
section
variable{E:zA}{N:zW}{bs:zH}
theorem Gn{x:Sem zX}{Q:Flow->zY->Prop}(a:bm.contains (.type "BaseException")=true)(j:A.handled=none)
  (h:wpAny M A x (λv s₁=>∃e t dx,v=.ref e/\s₁.heap.get? C=some (excClassObj nm q C N bs bm hdct sn sub ab col dd k0 k1 k2 k3 k5 newId)/\s₁.heap.get? e=some (rN C t dx)/\E (.ref e) s₁) E s):
  wpAny M A (raiseStmt env (some x) none) Q E s:=by
 have b:(Value.ref C::bm).contains (.type "BaseException")=true:=by rw[List.contains_cons,a,Bool.or_true]
 unfold raiseStmt;refine cz (oj h (λv s₁ i=>?_) λ_ _ x=>x);refine nF i ?_;clear i;rintro e t dx rfl f c k;obtain⟨n,g,d,l,m⟩:=s₁;unfold rN at c
 repeat (first|with_reducible refine sQ c ?_|with_reducible refine sQ f ?_|(with_reducible refine wpAny_isSubtype_exc f ?_;rw[b])|wp_step)
 exact wpAny_raiseNew_none j k
end
structure MkX(K:Frag)(C f:zW):Prop where
 xe:PySem.W.excInG K C (some (.ref f)) uL "ValueError.__new__"=true
 fn:isFn K (.ref f)=true
 kp:keepIn K (.ref C)=true
section
variable{k:Nat}
end
def C2(o o':Obj):Prop:=∀b,o.data=.fields b->∃a,o'.data=.fields a/\a[2]?=b[2]?
theorem C2.refl(o:Obj):C2 o o:=λa e=>(cb a e rfl)
theorem C2.trans{a b:Obj}(x:C2 a b)(y:C2 b c):C2 a c:=λg e=>by obtain⟨h,i,f⟩:=x g e;obtain⟨k,j,d⟩:=y h i;exact cb k j (d.trans f)
def KD(h h':yA):Prop:=∀b o,h.get? b=some o->∃a,h'.get? b=some a/\a.cls=o.cls/\a.dict=o.dict/\C2 o a
theorem KD.refl(h:yA):KD h h:=λb o e=>(nr o e rfl rfl (C2.refl o))
theorem KD.trans(a:KD h1 h2)(b:KD h2 h3):KD h1 h3:=λx o e=>by refine nw (a x o e) ?_;rintro m d k ⟨c,i⟩;refine nw (b x m d) ?_;rintro g j l ⟨f,h⟩;exact nr g j (l.trans k) (f.trans c) (i.trans h)
theorem KD.field{o:Obj}(c:h.get? T=some o)(d:o.data=.fields ts)(f:zG->Array zX)(g:∀a:zG,(f a)[2]?=a[2]?):KD h (h.update T (Obj.mapFields f)):=λb u e=>by
 by_cases z:b=T
 ·subst z;rw[c]at e;cases e;exact nr _ (vc _ c (Obj.isFreed_of_fields (Obj.data_mapFields d _))) (Obj.cls_mapFields _ _) (by obtain⟨_,_,k,_⟩:=o;cases d;rfl) λi j=>(cb _ (Obj.data_mapFields j _) (g i))
 ·exact nr u ((uG _ _ (Ne.symm z)).trans e) rfl rfl (C2.refl u)
def xW(h B:yA)(e:zW)(cls a0:zX):Prop:=(∃b a,h.get? e=some b/\(b.cls=cls/\a[0]?=some a0)/\b.data=.fields a/\a[1]?=some .none)\/∃c,h.TracedAtW B e cls a0 c
section
variable{E:zA}{cls:zX}{Q:Unit->zY->Prop}
theorem CJ{vs:zG}{w:zX}{T:Bool}(x:A.frames=some (env::outer))(u:s.heap.FunFrames B (env::outer))(N:env.frame=some L)(v:s.heap.get? e=some oe)(st:B.StaysIn s.heap)(P:B.get? e=none)(q:oe.data=.fields vs)(F:1<vs.size)(O:vs[0]?=some a0)
  (h:∀h',Heap.NotedW B (env::outer) e oe.cls a0 (rawInt L) s.heap h'->KD s.heap h'->Q () {s with heap:=h'}):
  wpAny M A (do let a<-frameOf env;let pl<-entryPlaceOf L T;let b<-EntryCells.newEntry w a .none (rawInt L) .none pl;setField (.ref e) 1 b) Q E s:=by
 have R:e∉(env::outer).filterMap (·.frame):=λm=>by obtain⟨_,o,K,d⟩:=u.mem m;rw[v]at K;cases K;exact d vs q
 refine cz (wpAny_frameOf_fun x u N λg n=>cz (wpAny_entryPlaceOf λpl r=>?_));unfold EntryCells.newEntry newFields;refine cz (tJ ?_ (r.sizeOk5 _ _ _ _ _));have j:g.get? e=some oe:=(n.2.1 e R).trans v;have i:B.StaysIn g:=λb o c=>(n.2.1 b λm=>by rw[(u.mem m).1]at c;cases c).trans (st b o c);generalize hob:({cls:=.type "traceback",dict:=none,data:=.fields ([w,.ref L,.none,rawInt L,.none]++(if pl.isEmpty then List.replicate 6 Value.none else pl)).toArray}:Obj)=ob;have f:=gc (h:=g) ob j;have I:({cls:=Value.type "traceback",data:=.fields ([w,.ref L,.none,rawInt L,.none]++(if pl.isEmpty then List.replicate 6 Value.none else pl)).toArray}:Obj)=ob:=hob;refine vb (by first|exact f|(rw[I];exact f)) q F ?_
 try rw[I]
 have k:g.objs.size≠e:=pP (lI j);have G:=Obj.data_mapFields q (·.setIfInBounds 1 (Value.ref g.objs.size));have p:=vc (Obj.mapFields (·.setIfInBounds 1 (Value.ref g.objs.size))) f (Obj.isFreed_of_fields G);have C:((g.push ob).update e (Obj.mapFields (·.setIfInBounds 1 (Value.ref g.objs.size)))).get? g.objs.size=some ob:=(uG _ _ (Ne.symm k)).trans (nc g (by rw[<-hob];rfl));have t:∀b o,b≠e->g.get? b=some o->((g.push ob).update e (Obj.mapFields (·.setIfInBounds 1 (Value.ref g.objs.size)))).get? b=some o:=λb o S c=>(uG _ _ (Ne.symm S)).trans (gc _ c)
 have H:∀b o,s.heap.get? b=some o->(∀vs,o.data≠.fields vs)->b≠e:=λb o c d z=>by rw[z,v]at c;cases c;exact d vs q
 refine h _ (lX (λb o c=>t b o (λz=>by rw[z,P]at c;cases c) (i b o c)) (u.of_keeps λb o c d=>?_) ?_ λb o c d=>?_) λb o c=>?_
 ·obtain⟨y,l⟩:=n.2.2 b o c;exact cb _ (t b _ (H b o c d) l) rfl
 ·refine nL _ _ g.objs.size ob _ p ⟨Obj.cls_mapFields _ _,?_⟩ G (by simp[F]) i.fresh (lX k C (by rw[<-hob]) ?_)
  ·rw[xG (by decide)];exact O
  ·rcases r with rfl|⟨_,_,_,_,_,_,_,rfl⟩<;>simp
 ·obtain⟨y,l⟩:=n.2.2 b o c;exact⟨y,t b _ (H b o c d) l⟩
 ·by_cases z:b=e
  ·subst z;rw[v]at c;cases c;exact nr _ p (Obj.cls_mapFields _ _) (by obtain⟨_,_,U,_⟩:=oe;cases q;rfl) λJ D=>(cb _ (Obj.data_mapFields D _) (xG (by decide)))
  ·obtain⟨y,l⟩:=n.2.2 b o c;exact nr _ (t b _ z l) rfl rfl λJ D=>(cb J D rfl)
theorem Cl(l:A.frames=some (env::outer))(j:env.frame=some L)(st:B.StaysIn s.heap)(k:B.get? e=none)(t:s.heap.FunFrames B (env::outer))(i:xW s.heap B e cls a0)
  (y:∀h',Heap.HeldW B (env::outer) e cls a0 L h'->s.heap.UpToSlots h'->KD s.heap h'->Q () {s with heap:=h'}):wpAny M A (noteFrame (.ref e) env) Q E s:=by
 rcases i with ⟨K,x,m,⟨J,u⟩,G,h⟩|⟨F,i⟩
 ·subst J;unfold noteFrame;simp only [j];refine cz (nV m G h ?_);rw[fa (show¬((Value.none != Value.none)=true)by simp)];exact CJ l t j m st k G (wG.mp h).1 u λh' N v=>y h' (lX N.1 k N.2.1 N.2.2.1) N.2.2.2 v
 ·by_cases hfl:(F==rawInt L)=true
  ·have H:F=rawInt L:=beq_iff_eq.mp hfl;subst H;exact wpAny_noteFrame_againW j i (y s.heap (lX st k t i) (Heap.UpToSlots.refl _) (KD.refl _))
  ·refine nU (id i) ?_;rintro K x T O I m ⟨n,u⟩ C h ⟨r,w,p,d,z⟩;subst n;unfold noteFrame;simp only [j];refine cz (nV m C h ?_);rw[eH (show(Value.ref T != Value.none)=true by simp)];refine cz (nV p d z ?_);rw[fa hfl];refine cz (vb p d (wG.mp z).1 ?_);have f:∀b,b≠T->(s.heap.update T (Obj.mapFields (·.setIfInBounds 3 Value.none))).get? b=s.heap.get? b:=λb c=>uG _ _ (Ne.symm c)
   have D:∀b o,s.heap.get? b=some o->(∀x,o.data≠.fields x)->b≠T:=λb o c a q=>by rw[q,p]at c;cases c;exact a I d
   exact CJ l (t.of_keeps λb o c a=>(cb o ((f b (D b o c a)).trans c) rfl)) j ((f e (Ne.symm w)).trans m) (λb o g=>(f b λq=>by rw[q,r]at g;cases g).trans (st b o g)) k C (wG.mp h).1 u
    λh' N v=>y h' (lX N.1 k N.2.1 N.2.2.1) (λb o c a=>N.2.2.2 b o ((f b (D b o c a)).trans c) a) ((KD.field p d _ λ_=>xG (by decide)).trans v)
theorem Ak{n:zO}(st:B.StaysIn s.heap)(F:s.heap.FunFrames B l)(t:s.heap.TracedAtW B e cls a0 D)
  (G:∀h',B.StaysIn h'->h'.FunFrames B l->h'.TracedAtW B e cls a0 (n.elim .none λf=>rawInt f)->s.heap.UpToSlots h'->KD s.heap h'->Q () {s with heap:=h'}):wpAny M A (setFlight (.ref e) n) Q E s:=by
 refine nU t ?_;clear t;rintro z p T H u y i v r ⟨j,k,m,c,C⟩;have x:3<u.size:=(wG.mp C).1;have g:∀b,b≠T->(s.heap.update T (Obj.mapFields (·.setIfInBounds 3 (n.elim Value.none λf=>rawInt f)))).get? b=s.heap.get? b:=λb d=>uG _ _ (Ne.symm d)
 have w:∀b o,s.heap.get? b=some o->(∀p,o.data≠.fields p)->b≠T:=λb o d a q=>by rw[q,m]at d;cases d;exact a u c
 unfold setFlight;refine cz (nV y v r ?_);rw[eH (show(Value.ref T != Value.none)=true by simp)];refine vb m c x (G _ (λb o h=>(g b λq=>by rw[q,j]at h;cases h).trans (st b o h)) (F.of_keeps λb o d a=>(cb o ((g b (w b o d a)).trans d) rfl)) ?_ (λb o d a=>⟨o.slots,(g b (w b o d a)).trans d⟩) (KD.field m c _ λ_=>xG (by decide)));exact nL z p T _ _ ((g e (Ne.symm k)).trans y) i v r j (lX k (vc _ m (Obj.isFreed_of_fields (Obj.data_mapFields c _))) (Obj.data_mapFields c _) (by simp[x]))
theorem Az(b:A.frames=some (env::outer))(k:env.frame=some L)(st:B.StaysIn s.heap)(c:B.get? e=none)(l:s.heap.FunFrames B (env::outer))(f:xW s.heap B e cls a0)
  (p:∀h',Heap.FlyingW B outer e cls a0 h'->s.heap.UpToSlots h'->KD s.heap h'->Q () {s with heap:=h'}):wpAny M A (leaving env (.ref e)) Q E s:=by
 unfold leaving;refine cz (Cl b k st c l f λd a q i=>Ak (s:={s with heap:=d}) a.1 a.2.2.1 a.2.2.2 λo j h m n g=>?_)
 exact p o (lX j c h.2.2 m) (q.trans n) (i.trans g)
end
theorem FlyingW.exc{cls:zX}(f:Heap.FlyingW B l e cls a0 h):xW h B e cls a0:=.inr ⟨.none,f.2.2.2⟩
def DictAt(h:yA)(e:zW)(od:zO):Prop:=∃o a,h.get? e=some o/\o.dict=od/\o.data=.fields a/\a[2]?=some .none
theorem DictAt.kd(d:DictAt h e od)(k:KD h h'):DictAt h' e od:=by refine lS d λo f i n l j=>?_;clear d;refine nw (k _ o i) ?_;rintro c b _ ⟨m,p⟩;obtain⟨a,q,g⟩:=p f l;exact lQ c a b (m.trans n) q (g.trans j)
def CXD(P:yB)(w:yD):CXT:=λa H s E e c=>
 ∃(f C:zW)(i:zX)(h:zO)(d:Hp)(B:yA),e=.ref f/\c.os=s.os/\AllBare c.gens/\Un (frs a) [] H d s.heap c.heap/\HOk P w d c.heap/\
  (∀b o,s.heap.get? b=some o->b∉frs a->∃g,B.get? b=some g)/\(∀b o,d b=some o->∃g,B.get? b=some g)/\
  Heap.FlyingW B a f (.ref C) i c.heap/\DictAt c.heap f h/\E (.ref C) h d
theorem qJ:sZ (CXD P w) (sU (CXD P w) P w K mg base N qual scope f cd A outer s H E) E:=by intro j Z F D e z I c;refine rD c ?_;clear c;rintro x C p l v B rfl n d r h ⟨t,k,b,o,q⟩;refine Az I.ok.frames rfl b.1 b.2.1 b.2.2.1 (FlyingW.exc b) λy a m u=>?_;obtain⟨i,g⟩:=CP I rfl r t b.1 a.1 m;exact oZ x C p l v B rfl (n.trans I.os) d i (yk h k b.1 a.1) g (lX k a (o.kd u) q)
theorem qX:Dj (sU (CXD P w) P w K mg base N qual scope f cd A outer s H E) C E:=by
 intro v Z r a h1 e O I g q;obtain⟨t,i,y,L⟩:=g.there;have x:∀b o,a.heap.get? b=some o->b∉frs (envOfC qual scope s.heap.objs.size f cd::outer)->(hideAll a.heap (frs (envOfC qual scope s.heap.objs.size f cd::outer))).get? b=some o:=λb o e d=>PySem.W.hideAll_get _ e d
 have J:(hideAll a.heap (frs (envOfC qual scope s.heap.objs.size f cd::outer))).get? e=none:=by
  cases z:(hideAll a.heap (frs (envOfC qual scope s.heap.objs.size f cd::outer))).get? e with
  |none=>rfl
  |some o=>have:=PySem.W.of_hideAll _ z;rw[g.new]at this;cases this
 have c:(hideAll a.heap (frs (envOfC qual scope s.heap.objs.size f cd::outer))).StaysIn h1:=λb o z=>g.keeps b o (PySem.W.of_hideAll _ z)
 refine Az (B:=hideAll a.heap (frs (envOfC qual scope s.heap.objs.size f cd::outer))) (cls:=.ref C) (a0:=.ref t) I.ok.frames rfl c J
  ((PySem.W.funFrames_hide I.stack λl i b d=>List.mem_filterMap.mpr (cb l i d)).of_keeps λb o d _=>(cb o (g.keeps b o d) rfl)) (.inl (lQ _ _ i ⟨rfl,rfl⟩ rfl rfl)) λM k G D=>?_
 have p:∀b o,r b=some o->∃o',(hideAll a.heap (frs (envOfC qual scope s.heap.objs.size f cd::outer))).get? b=some o':=λb o z=>by obtain⟨u,F⟩:=(I.hok b o z).at18;refine⟨u,x b u F λm=>?_⟩;have:=I.stkFree b m;rw[z]at this;cases this
 obtain⟨n,j⟩:=CP (B:=hideAll a.heap (frs (envOfC qual scope s.heap.objs.size f cd::outer))) I rfl (Un.kept g.keeps) (λb o z d=>⟨o,x b o z d⟩) c k.1 G;exact oZ e C (.ref t) none r _ rfl I.os I.bare n (yk (I.hok.kept g.keeps) p c k.1) j (lX p k (DictAt.kd (h:=h1) (lQ _ _ i rfl rfl rfl) D) q)
def DD(X:Cx)(C:zW)(E:XK):Prop:=∀(a:zD)(Z:St)(H:Hp)(s:zY)(b c:zW)(d:zO),Inv X a Z H s->H b=some (.ext λh=>h.get? b=some (rN C c d))->X.s₀.heap.get? b=none->
 E (.ref C) d (rj H b)->X.xe (.ref b) s
theorem Du:DD (sU (CXD P w) P w K mg base N qual scope f cd A outer s H E) C E:=by
 intro F Z v c a n d I k M q;obtain⟨g,_,_⟩:=(show A1p _ _ v c.heap a (.ext λh=>h.get? a=some (rN C n d)) from I.hok a _ k);have I':=I.drop k
 have J:∀b o,c.heap.get? b=some o->b≠a->b∉frs (envOfC qual scope s.heap.objs.size f cd::outer)->(hideAll c.heap (a::frs (envOfC qual scope s.heap.objs.size f cd::outer))).get? b=some o:=λb o e t j=>PySem.W.hideAll_get _ e (λm=>(lY.mp m).elim t j)
 have y:∀b o,rj v a b=some o->∃o',(hideAll c.heap (a::frs (envOfC qual scope s.heap.objs.size f cd::outer))).get? b=some o':=λb o z=>by obtain⟨t,D⟩:=Fw z;obtain⟨u,Q⟩:=(I.hok b o D).at18;refine⟨u,J b u Q t λm=>?_⟩;have:=I.stkFree b m;rw[D]at this;cases this
 have l:∀b o,s.heap.get? b=some o->b∉frs outer->b∉frs (envOfC qual scope s.heap.objs.size f cd::outer):=λb o e j m=>by
  rcases lY.mp m with z|z
  ·exact absurd (lI e) (by rw[z];exact Nat.lt_irrefl _)
  ·exact j z
 have G:∀b o,s.heap.get? b=some o->b∉frs outer->∃o',(hideAll c.heap (a::frs (envOfC qual scope s.heap.objs.size f cd::outer))).get? b=some o':=λb o e j=>by obtain⟨x,L⟩:=I.base.there b o e (by show b∉([]:zQ);simp);refine⟨x,J b x L (λz=>?_) (l b o e j)⟩;rw[z]at e;rw[show s.heap.get? a=none from M]at e;cases e
 have i:(hideAll c.heap (a::frs (envOfC qual scope s.heap.objs.size f cd::outer))).StaysIn c.heap:=λb o z=>PySem.W.of_hideAll _ z
 refine Az (B:=hideAll c.heap (a::frs (envOfC qual scope s.heap.objs.size f cd::outer))) (cls:=.ref C) (a0:=.ref n) I.ok.frames rfl i (PySem.W.hideAll_none _ vD)
  (PySem.W.funFrames_hide I.stack λr k b j=>uF _ (List.mem_filterMap.mpr (cb r k j))) (.inl (lQ _ _ g ⟨rfl,rfl⟩ rfl rfl)) λS p R O=>?_
 exact oZ a C (.ref n) d (rj v a) _ rfl I.os I.bare (Jc I' rfl G i p.1 R) (yk I'.hok y i p.1) G (lX y p (DictAt.kd (h:=c.heap) (lQ _ _ g rfl rfl rfl) O) q)
theorem Fun.okD{k:Nat}(F:Fun K x qual st f fd)(S:ic N ps (fC st))
  (b:∀(a:zX)(A:zZ)(outer:List Env)(s:zY)(H:Hp)(vs:zM)(Q:VK)(E:XK),A5y k (A.deeper (envOfC qual (fC st) s.heap.objs.size f a))->sp vs H Q E->
   ∃t,PSs (sU (CXD P w) P w K mg base N qual (fC st) f a A outer s H E) (rR st) t/\t {nx:=λ_ H'=>Q .non H',rt:=Q} (sf N vs) H) (d:∀vs H Q E,sp vs H Q E->vs.length=ps.length:=by walk_at"ln"):A3i P w K mg base (CXD P w) (k+1) f fd ps sp:=by
 refine pZ F.ex ?_;rintro p n kV i m o a l j ⟨rfl,g,e⟩;exact CF g e S d λA outer s H vs Q E h c=>b a A outer s H vs Q E h c
theorem Is(q:xcG ea C od h):A1p P w H h ea (.ext (xcG ea C od)):=by obtain⟨o,a,r⟩:=id q;exact fI q ⟨o,r.1⟩ (by rintro d e ⟨o,a,c,b⟩ k;exact mL o a (k o c) b)
structure C0s(X:Cx)(pins:zD)(Z:St)(H:Hp)(B:yA)(ea C:zW)(a0:zX)(od:zO)(s:zY):Prop where
 inv:Inv X pins Z H s
 fl:Heap.FlyingW B X.stack ea (.ref C) a0 s.heap
 d:DictAt s.heap ea od
 no:H ea=none
 go:∀h',B.StaysIn h'->s.heap.UpToSlots h'->xcG ea C od h'->Inv X pins Z H {s with heap:=h'}/\Inv X pins Z (upd H ea (.ext (xcG ea C od))) {s with heap:=h'}
theorem C9(i:Heap.FlyingW B X.stack ea (.ref C) a0 s.heap)(d:DictAt s.heap ea od):xcG ea C od s.heap:=by refine lS i.first λf k e c l _=>?_;refine lS d λo a b h g j=>?_;clear d;rw[e]at b;cases b;exact mJ f a e c h g j
theorem C0s.cls(F:C0s X pins Z H B ea C a0 od s):xcF ea C s.heap:=by refine lS F.fl.first λb a e c d _=>?_;exact dV b a e c d
def PHD(X:Cx)(hs:List ExceptHandler)(C:zW)(th:zO->zW->TS):Prop :=∀(a:zD)(Z:St)(H:Hp)(B:yA)(b:zW)(d:zX)(c:zO)(s:zY)(D:pJ),C0s X a Z H B b C d c s->th c b D Z H->wpAny (model X.prog X.w) X.A (handleBy (.ref b) X.env hs) (SP X a D) X.xe s
section
variable{E:zA}{cls:zX}{Q:Unit->zY->Prop}
theorem N6(f:Heap.FlyingW B l e cls a0 s.heap)(c:∀h',Heap.FlyingW B l e cls a0 h'->s.heap.UpToSlots h'->KD s.heap h'->Q () {s with heap:=h'}):wpAny M A (setFlight (.ref e) none) Q E s :=Ak f.1 f.2.2.1 f.2.2.2 λh' d h a b g=>c h' (lX d f.2.1 h a) b g
end
theorem Bi{nm:Option Str}(e:Gl X y)(g:X.mg y=some (.ref C'))(q:exmOne X.K (.ref C) (.ref C')=some false)(i:PHD X rest C th)(f:(y==("__debug__":Str))=false:=by decide):
  PHD X (.ExceptHandler (some (.Name y yp)) nm (b₀::suite) hpos::rest) C th:=by
 intro a Z H B b c d s D F h;refine wpAny_handleBy_cons (codeAny_handlers_test ?_) (by intro q;cases q);refine ub (X:=X.held b) (F.inv.held b) e g ?_ f;refine(Da F.inv.kIn F.cls q).here ?_;exact i a Z H B b c d s D F h
def Df(i:Nat)(C:zW)(ts:zW->TS):zO->zW->TS:=λc b D Z H=>ts b {nx:=λZ' a=>D.nx (Z'.set i none) a,rt:=D.rt,bk:=λZ' a=>D.bk (Z'.set i none) a,ct:=λZ' a=>D.ct (Z'.set i none) a} (Z.set i (some (.ref b))) (upd H b (.ext (xcG b C c)))
def Gx(i:Nat)(C:zW)(ts:TS):zO->zW->TS:=Df i C λ_=>ts
theorem A9{ts:zW->TS}(w:Gl X y)(o:X.mg y=some (.ref C'))(q:exmOne X.K (.ref C) (.ref C')=some true)(j:X.N.Nodup)(hi:X.N[i]?=some n)(b:X.env.scope.names.lookup n=some .local)
  (hs:∀ea,PSs (X.held ea) (b₀::suite) (ts ea)) (m:(y==("__debug__":Str))=false:=by decide):
  PHD X (.ExceptHandler (some (.Name y yp)) (some n) (b₀::suite) hpos::rest) C (Df i C ts):=by
 intro g Z H B ea I J s D F h;refine wpAny_handleBy_cons (codeAny_handlers_test ?_) (by intro q;cases q);refine ub (X:=X.held ea) (F.inv.held ea) w o ?_ m;refine(Da F.inv.kIn F.cls q).here (codeAny_handlers_suite_as ?_);refine N6 F.fl λl e x p=>?_;have G:=(F.go l e.1 x (C9 (s:={s with heap:=l}) e (F.d.kd p))).2;refine xn (X:=X.held ea) (v:=.ref ea) (G.held ea) j hi (.inl b) rfl (λA I2=>?_) (.inr b)
 refine oj (hs ea g A _ _ _ I2 h) (λf L c=>?_) λ_ _ z=>False.elim z;dsimp only
 cases f with
 |next=>obtain⟨Z',a,I',r⟩:=c;exact yQ (I'.unheld F.inv.ok) j hi b λk I4=>(mL _ a I4 r)
 |brk=>obtain⟨Z',a,I',r⟩:=c;exact yQ (I'.unheld F.inv.ok) j hi b λk I4=>(mL _ a I4 r)
 |cont=>obtain⟨Z',a,I',r⟩:=c;exact yQ (I'.unheld F.inv.ok) j hi b λk I4=>(mL _ a I4 r)
 |ret u=>refine mF c ?_;clear c;rintro v Z' a ⟨I',t,r⟩;exact yQ (I'.unheld F.inv.ok) j hi b λk I4=>(nM v _ a I4 t r)
theorem JD{ts:TS}(c:Gl X y)(d:X.mg y=some (.ref C'))(q:exmOne X.K (.ref C) (.ref C')=some true)(e:X.N.Nodup)(hi:X.N[i]?=some n)(a:X.env.scope.names.lookup n=some .local)
  (hs:∀ea,PSs (X.held ea) (b₀::suite) ts) (b:(y==("__debug__":Str))=false:=by decide):
  PHD X (.ExceptHandler (some (.Name y yp)) (some n) (b₀::suite) hpos::rest) C (Gx i C ts):=A9 c d q e hi a hs b
def Rsd(X:Cx)(pins:zD)(Z:St)(E:XK)(e:zX)(s':zY):Prop:=∃(a C:zW)(f:zX)(c:zO)(d:Hp)(B:yA),e=.ref a/\B.StaysIn s'.heap/\B.get? a=none/\s'.heap.FunFrames B X.stack/\xW s'.heap B a (.ref C) f/\DictAt s'.heap a c/\d a=none/\X.A.frames=some X.stack/\
 (∀b,B.StaysIn b->s'.heap.UpToSlots b->xcG a C c b->Inv X pins Z d {s' with heap:=b}/\Inv X pins Z (upd d a (.ext (xcG a C c))) {s' with heap:=b})/\E (.ref C) c d
def Al(X:Cx)(hs:List ExceptHandler)(D:pJ)(Z:St):XK:=λc e a=>∃(C:zW)(b:zO->zW->TS),c=.ref C/\PHD X hs C b/\∀d,a d=none->b e d D Z a
section
variable{e:yC}
theorem NA{D:pJ}(b:X.stack=X.env::X.outer/\X.env.frame=some X.env.locals)(p:Rsd X pins Z (Al X (h₀::hs) D Z) g s'):
  wpAny (model X.prog X.w) X.A (noteFrame g X.env) (λ_ s₂=>wpAny (model X.prog X.w) X.A (setFlight g none) (λ_ s₃=>wpAny (model X.prog X.w) X.A (handleBy g X.env (h₀::hs)) (SP X pins D) X.xe s₃) X.xe s₂) X.xe s':=by
 refine rD p ?_;clear p;rintro h C t u J B rfl z x G K ⟨N,d,e,o,q⟩;obtain⟨C',R,y,P,q⟩:=q;cases y;have i:X.A.frames=some (X.env::X.outer):=by rw[<-b.1];exact e
 refine Cl i b.2 z x (by rw[<-b.1];exact G) K λM a l j=>?_;refine Ak (s:={s' with heap:=M}) a.1 a.2.2.1 a.2.2.2 λh5 f m H n k=>?_
 have c:Heap.FlyingW B X.stack h (.ref C) t h5:=⟨f,x,by rw[b.1];exact m,H⟩;have r:=(N.kd j).kd k;have v:=l.trans n;have I:xcG h C u h5:=C9 (X:=X) (s:={s' with heap:=h5}) c r;exact P pins Z J B h t u _ D ⟨(o h5 f v I).1,c,r,d,λF O Q L=>o F O (v.trans Q) L⟩ (q h d)
def PXD(X:Cx)(e:yC)(t:TX):Prop :=∀(a:zD)(s:zY)(Z:St)(H:Hp)(Q:VK)(E:XK),Inv X a Z H s->t Z H Q E->wpAny (model X.prog X.w) X.A (eval e X.env) (EP X a Z Q) (Rsd X a Z E) s
theorem Rsd.of_call{x:zX}(I1:Inv X pins Z H1 s1)(h:CXD X.prog X.w X.stack H1 s1 E x s'):Rsd X pins Z E x s':=by
 refine rD h ?_;clear h;rintro G C v L l B rfl A d f j ⟨t,u,g,N,q⟩;have F:D0d X pins Z H1 s1 l B G C v s':=⟨I1,A,d,f,j,t,u,g⟩;have D:∀b:zW,b∉([]:zQ):=λb=>by simp
 refine oZ G C v L l B rfl g.1 g.2.1 g.2.2.1 (FlyingW.exc g) N (lX F.no I1.ok.frames (λh5 i M J=>?_) q)
 have c:∀b o,s1.heap.get? b=some o->H1 b=none->b∈frs X.stack->∃s,h5.get? b=some {o with slots:=s}:=λb o e n a=>by obtain⟨s,H⟩:=f.slot b o e n a (D b);obtain⟨_,P,y,I⟩:=I1.stack.mem a;rw[e]at y;cases y;obtain⟨r,p⟩:=M b _ H I;exact⟨r,p⟩
 have O:Un (frs X.stack) [] H1 l s1.heap h5:=by
  refine⟨λb o e n a _=>?_,λb o e n a _=>c b o e n a,f.free,λb o e _=>?_,f.tups,f.frzs,f.tbls⟩
  ·have K:=f.keep b o e n a (D b);obtain⟨k,m⟩:=t b o e a;have p:=g.1 b k m;rw[K]at p;cases p;exact i b o m
  ·by_cases a:b∈frs X.stack
   ·obtain⟨s,q⟩:=c b o e (I1.stkFree b a) a;exact⟨_,q⟩
   ·obtain⟨k,m⟩:=t b o e a;exact⟨k,i b k m⟩
 have I5:Inv X pins Z l {s' with heap:=h5}:=I1.call' (s':={s' with heap:=h5}) A O (yk j u g.1 i) d (ch:=[]) (λb z=>absurd z (by simp))
 exact⟨I5,I1.trackO I5 F.new F.no (Is J)⟩
theorem KE{k:Nat}{e:yC}{t:TA}(F:A3i X.prog X.w X.K X.mg X.base (CXD X.prog X.w) k f fd ps sp)(v:A5y k X.A)(C:Gl X x)(o:X.mg x=some (.ref f))(D:keepIn X.K (.ref f)=true)(J:A9f X.K fd ps [])
  (G:PA X.nox (e::es) t) (m:(x==("__debug__":Str))=false:=by decide) (B:starEach (e::es) X.env=(false,eval e X.env)::starEach es X.env:=by rfl) (l:(backTo pos (starEach es X.env)).any (·.1)=false:=by rfl):
  PXD X (.Call (.Name x p) (e::es) [] pos) (HN sp t):=by
 intro a s Z H Q E I h;refine wpAny_Call_Name_kw (ub I C o ?_ m)
 have y:wpAny (model X.prog X.w) X.A (spliced (backTo pos (starEach (e::es) X.env))) (AP X a Z λg b=>sp g b Q E) (Rsd X a Z E) s :=oj (G pos a s Z H _ (I.wish _) h) (by (refine λd j n=>ei n λg b I1 r q=>?_;clear n);exact dV g b I1.unwish r q) λ_ _ z=>False.elim z
 refine PySem.W.callWith_K (h₀:=X.base) I.ok.mod.kin D (thn y λd j ⟨g,b,I1,r,q⟩=>⟨I1.kIn,?_⟩) B l;have L:d.length=ps.length:=by rw[<-r.length];exact F.len _ _ _ _ q
 have c:=J j d I1.kIn (by simpa using L);rw[ox]at c;refine wpAny_call (codeAny_mono (F.run X.A X.stack j b ⟨d,[]⟩ d g Q E v I1.env0 c r q) λr M i=>?_)
 cases r with
 |error e=>exact Rsd.of_call I1 i
 |ok fl=>
  cases fl with
  |ret u=>exact I1.after i
  |next=>exact False.elim i
  |brk=>exact False.elim i
  |cont=>exact False.elim i
def Hw(X:Cx)(hs:List ExceptHandler)(tx:TX)(i:Nat):TS:=λD Z H=>tx Z H (λv a=>D.nx (Z.set i (some v)) a) (Al X hs D Z)
theorem Kx(d:X.stack=X.env::X.outer/\X.env.frame=some X.env.locals)(u:PXD X e tx)(t:X.N.Nodup)(hi:X.N[i]?=some n)(p:Loc X.env.scope n)
  (c:swapsWith e (some (.Name n npos)) epos.line X.env=pure false:=by rfl) (m:X.fn n=true\/X.env.scope.names.lookup n=some .local:=by first|exact .inl rfl|exact .inr rfl|assumption):
  PS X (.Try [.Assign [.Name n npos] e epos] (h₀::hs) [] [] pos) (Hw X (h₀::hs) tx i):=by
 intro a s Z H D I h;refine wpAny_Try_except (oj (Q:=λf b=>f=.next/\∃Z' j,Inv X a Z' j b/\D.nx Z' j) (E:=Rsd X a Z (Al X (h₀::hs) D Z)) ?_ (λf b q=>?_) λx b l=>NA d l)
 ·refine wpAny_execs_cons (wpAny_Assign_Name (thn (u a s Z H _ _ I h) ?_) c);refine λv b g=>ei g λy o I1 r k=>?_;clear g;exact xn I1 t hi p r (λw I2=>vC (qP rfl _ o I2 k)) m
 ·obtain⟨rfl,q⟩:=q;exact vC q
end
end L2
namespace PySem.W
open PySem PySem.Spec PySem.Calls PyProof.Rows PySem.Builtin.ObjectAttr PySem.Builtin
section
variable{prog:yB}{w:yD}{A:zZ}{s:zY}{K:Frag}{x C:zW}
theorem exc_setattr2{E:zA}{f:Obj}{dx:zW}{vs:zG}{m:zE}{ks:zC}{name:Str}{v:zX}{Q:Unit->zY->Prop}(X:K.In s.heap)(o:s.heap.get? x=some f)(j:f.cls=.ref C)(i:f.dict=some dx)(e:f.data=.fields vs)
  (p:s.heap.Ns1 dx m) (wi:Within m ks) (W:ks.length<=1000) (hs:findIn K (.ref C) "__setattr__"=some (some (.builtin "object.__setattr__"))) (G:excOver K C=true) (B:takerIn K C name=some none) (J:(clsIn K C).any (·.hasDict)=true)
  (h:∀h' tk,h'.Ns1 dx (λy=>if y=name then some v else m y)->(∀b,b≠dx->h'.get? b=s.heap.get? b)->Q () {s with heap:=h',toks:=tk}):
  wpAny (model prog w) A (setAttr (.ref x) name v) Q E s:=by
 obtain⟨c,g,d,t,r⟩:=s;dsimp only at X o h p;refine mF (id p) ?_;rintro H _ _ ⟨z,_⟩;have I:InstAt c x f C (some H):=⟨o,j,by obtain⟨_,_,d,_⟩:=f;cases e;rfl,by rw[i];exact z⟩;refine set_plain X I hs (EX (s:=⟨c,g,d,t+1,r⟩) X I G B λb=>?_);obtain⟨Y,F,n⟩:=any_some J;obtain⟨U,D,O,R⟩:=f;dsimp only at j i e;subst j i e;have L:=looks_clsIn (M:=model prog w) X F;refine cz (ff (cz (cz (wpAny_loadPart o (cz (Looks.here (s:=⟨c,g,d,t+1,r⟩) L ?_))))));rw[n];refine ff (a:=some dx) ?_;show wpAny _ _ (storeInDict dx (.str name t) name v) _ _ _;unfold storeInDict newKeyGuard;refine cz (ff (cz (wpAny_nsSet1 (s:=⟨c,g,d,t+1,r⟩) p λh' k hs=>?_)));refine mF (k.count (Within.cons name v wi)) ?_;rintro T S N ⟨l,q,u⟩;refine cz (wpAny_lookBehind l (by rw[q];exact pastItsLine_dict (oU u (by rw[nG,sizeLine_eq];lia))) ?_);refine ff ?_;exact h h' _ k λb P=>hs.2 b P
theorem Jq{M:Model}{h:yA}{b:Obj}{dx:zW}{cd:ClassData}{m:zE}{name:Str}(X:K.In h)(w:h.get? x=some b)(f:b.cls=.ref C)(c:b.dict=some dx)(u:notCls b=true)(s:clsIn K C=some cd)(k:cd.hasDict=true)(i:h.Ns dx m):
  Looks M h (inOwnDict name (.ref x)) (m name):=by
 refine nF i λo j y l p r a=>?_;clear i
 have e:ownOf cd (some o) name=some (m name):=by
  unfold ownOf;rw[k,eH rfl];unfold lookIn;dsimp only;rw[p];dsimp only;rw[<-a name];unfold nsFind findBy;rw[<-Array.find?_toList]
  cases q:j.toList.find? (λe=>e.key.isStr name)with
  |some g=>rfl
  |none=>
   have:j.toList.any (·.refKey)=false:=by rw[List.any_eq_false];intro g d;obtain⟨n,t,v⟩:=r g (Array.mem_toList_iff.mp d);simp[DictEntry.refKey,v]
   rw[this];rfl
 exact looks_own X ⟨w,f,u,by rw[c];exact l⟩ s e
theorem exc_get{E:zA}{e:Obj}{dx:zW}{vs:zG}{m:zE}{name:Str}{v:zX}{b:Bool}{Q:zA}(X:K.In s.heap)(c:XcIn K C)(f:s.heap.get? x=some e)(a:e.cls=.ref C)(j:e.dict=some dx)(l:e.data=.fields vs)
  (o:(clsIn K C).any (·.hasDict)=true) (p:findIn K (.ref C) name=some none) (n:s.heap.Ns dx m) (q:m name=some v) (u:handedIn v=true) (h:Q v {s with toks:=s.toks+1}):
  wpAny (model prog w) A (getAttr (.ref x) name b) Q E s:=by
 obtain⟨k,g,d,t,z⟩:=s;dsimp only at X f n;obtain⟨D,r,i⟩:=any_some o;have y:notCls e=true:=by obtain⟨_,_,d,_⟩:=e;cases l;rfl
 have Lo:=Jq (M:=model prog w) (name:=name) X f a j y r i n;rw[q]at Lo;have Lf:Looks (model prog w) k (find (.ref x) (.ref C) name) (.value v):=(looks_findIn X p).andThen ((show Looks (model prog w) k (getOf none) none from .now).andThen ((show Looks (model prog w) k (dataDescriptor? none none) none from .now).andThen (Lo.andThen (Looks.tag .now))));unfold getAttr;refine cz (wpAny_mkText ?_);refine CC X c f a (λA R B=>codeAny_call_builtin F.attr_ValueError.ga.plain F.entry_bexc_ga (Ej X c f a ?_)) u h;unfold Builtin.«object.__getattribute__»
 repeat (any_goals (first|assumption|(with_reducible refine Lf.at ?_)|(with_reducible refine sQ f ?_;rw[a])|wp_step))
end
end PySem.W
namespace L2
open PySem PySem.Spec PyProof.Rows
variable{yp pos' pos p2 p hpos cpos:Pos}{y x qual n g:Str}{w:yD}{vs dvs:zM}{value tg o e:yC}{us ds:zH}{tv te ta:TE}{tr:TJ}{t' j i:Nat}{t:TA}{suite:List Stmt}{sp:Sp}{scope:Scope}{s1 s:zY}{rest:List ExceptHandler}{ps N:zC}{prog P:yB}{pins:zD}{outer:List Env}{od:zO}{mg mA:zE}{l:Obj}{items:zG}{it h f ea dx C' C:zW}{h' base:yA}{fs':zK}{fd:zS}{es:zT}{cd:zX}{c:Int}{b₀:Stmt}{a:List (Bool×(zX->Sem Unit))}{Z:St}{X:Cx}{Q:zN->zY->Prop}{K:Frag}{H:Hp}{E' E:XK}{CX:CXT}{A:zZ}
def Ir(K:Frag)(ta tv:TE)(f:Str):TS:=λD Z H=>tv Z H λy d=>ta Z d λx b=>∃e C t c a,x=.ref e/\b e=some (xcD e C t c)/\b c=some (.xd a)/\a.length<=100/\a.lookup f=none/\tU K C f/\D.nx Z (upd b c (.xd (a++[(f,y)])))
theorem Mj{fs:zK}(r:∀f,B5d (fs.lookup f) (mA f)):PySem.Within mA (fs.map (·.1)):=λg a=>by
 have:=r g
 cases q:fs.lookup g with
 |none=>rw[q]at this;cases z:mA g with|none=>exact absurd z a|some u=>rw[z]at this;exact this.elim
 |some v=>exact pd.mpr (cb (g,v) (PySem.mem_of_lookup q) rfl)
theorem NR{fs:zK}{f:Str}{y:V}(h:fs.lookup f=none):(fs++[(f,y)]).lookup g=if g=f then some y else fs.lookup g:=by
 induction fs with
 |nil=>
  rw[List.nil_append,rV,List.lookup_nil];by_cases z:g=f
  ·rw[eH z,z];simp
  ·rw[fa z,uE.mpr z]
 |cons p r ih=>
  obtain⟨k,v⟩:=p;rw[rV]at h
  cases hk:(f==k)with
  |true=>rw[hk]at h;cases h
  |false=>
   rw[hk]at h;rw[List.cons_append,rV,rV]
   cases hg:(g==k)with
   |true=>have b:g=k:=beq_iff_eq.mp hg;have a:f≠k:=uE.mp hk;rw[fa (λz=>a (Eq.trans z.symm b))]
   |false=>exact ih h
section
variable{fs:zK}
theorem Inv.xdput(I:Inv X pins Z H s)(i:H dx=some (.xd fs))(k:∀b u,b≠dx->s.heap.get? b=some u->h'.get? b=some u)(f:∃u,h'.get? dx=some u)(h:A1p X.prog X.w (upd H dx (.xd fs')) h' dx (.xd fs')):Inv X pins Z (upd H dx (.xd fs')) {s with heap:=h',toks:=t'}:=by
 have g:∀b,H b=none->b≠dx:=λb n z=>by rw[z,i]at n;cases n
 have d:∀b o,H b=some o->(∀m,o≠.xd m)->upd H dx (.xd fs') b=some o:=λb o q n=>by rw[eh (λz=>by rw[z,i]at q;cases q;exact n _ rfl)];exact q
 refine I.un ⟨λb u q n _ _=>k b u (g b n) q,λb u q n _ _=>⟨u.slots,k b u (g b n) q⟩,λb u q n _=>by rw[eh (g b n)];exact n,λb u q _=>?_,λb l q=>d b _ q (λ_ z=>nomatch z),λb u l q=>d b _ q (λ_ z=>nomatch z),λb p q=>⟨#[],by rw[d b _ q (λ_ z=>nomatch z)];simp⟩⟩ λb u q=>?_
 ·by_cases z:b=dx
  ·subst z;exact f
  ·exact⟨u,k b u z q⟩
 ·by_cases z:b=dx
  ·subst z;rw[cp]at q;cases q;exact h
  ·rw[eh z]at q;refine(I.hok b u q).stay (λc v a e=>k c v (λj=>?_) e) (λc q=>d _ _ q (λ_ z=>nomatch z)) λc l q=>d _ _ q (λ_ z=>nomatch z);rcases a with a|a
   ·exact z (a.symm.trans j)
   ·rw[j,i]at a;cases a
end
theorem wj{f:Str}(P:PE X o ta)(S:PE X value tv)(hs:swapsWith value (some (.Attribute o f pos')) pos.line X.env=pure false):PS X (.Assign [.Attribute o f pos'] value pos) (Ir X.K ta tv f):=by
 intro a s Z H D I h;refine plainObj_wpAny_Assign_Attribute (thn (S a s Z H _ I h) ?_) hs;refine λu T c=>ei c λy F I1 A q=>?_;clear c;refine thn (P a T Z F _ I1 q) ?_;rintro B n c;refine uY c ?_;clear c;rintro x p I2 L e C t ⟨j,k,J,N,l,lf,O,d,Q⟩;subst J;obtain rfl:B=Value.ref e:=L;obtain⟨M,_,_⟩:=(show A1p X.prog X.w p n.heap e (xcD e C t j) from I2.hok e _ N);obtain⟨Y,v,r⟩:=(show A1p X.prog X.w p n.heap j (.xd k) from I2.hok j _ l);refine PySem.W.exc_setattr2 I2.kIn M rfl rfl rfl v (Mj r) (by rw[dm];lia) d.sa d.ov d.no.taker d.hd λh' U m G=>?_;refine mF (id m) ?_;rintro E _ _ ⟨i,_⟩;refine mL Z _ (I2.xdput (fs':=k++[(f,y)]) (h':=h') (t':=U) l (λb u R z=>(G b R).trans z) ⟨_,i⟩ (cb _ m λg=>?_)) Q;rw[NR O];by_cases z:g=f
 ·rw[eH z,eH z];exact A
 ·rw[fa z,fa z];exact r g
structure rL(K:Frag)(C:zW)(f:Str):Prop where
 c:PySem.W.XcIn K C
 hd:(clsIn K C).any (·.hasDict)=true
 no:findIn K (.ref C) f=some none
def Gz(K:Frag)(ta:TE)(f:Str):TE:=λZ H Q=>ta Z H λx a=>∃b C d c v,x=.ref b/\a b=some (.ext (xcG b C (some d)))/\a d=some (.xd c)/\c.lookup f=some v/\rL K C f/\Q v a
theorem qM{f:Str}(m:X.K=K)(F:PE X e ta)(N:attributeBase e f X.env (eval e X.env)=eval e X.env):PE X (.Attribute e f pos) (Gz K ta f):=by intro a s Z H Q I h;refine DH N (thn (F a s Z H _ I h) ?_);rintro u j i;refine uY i ?_;clear i;rintro x d I1 D ea C b ⟨z,v,A,G,B,l,g,q⟩;subst A m;obtain rfl:u=Value.ref ea:=D;obtain⟨⟨o,O,L,y,p,M,_⟩,_,_⟩:=(show A1p X.prog X.w d j.heap ea (.ext (xcG ea C (some b))) from I1.hok ea _ G);obtain⟨t,n,r⟩:=(show A1p X.prog X.w d j.heap b (.xd z) from I1.hok b _ B);obtain⟨u,J,k⟩:=B5d.some_of (v:=v) (o:=t f) (by rw[<-l];exact r f);exact PySem.W.exc_get I1.kIn g.c L y p M g.hd g.no n.ns J (Fc k) (dV v d (I1.tok _) k q)
theorem xcG.kit{h:yA}(p:xcG ea C od h):PySem.W.KitE ea C h:=by refine ei p λo c a b _=>?_;clear p;exact cb o a b
def Hg(K:Frag):zM->Hp->VK->Prop:=λe H Q=>∃a C d c b,e=[.ref a,c]/\H a=some (.ext (xcG a C d))/\PySem.W.XcIn K C/\(∀u,A2z c u->kitOne K (.ref C) u=some b)/\Q (.bl b) H
theorem Bu(e:X.K=K):qH X (.builtin "isinstance") (Hg K):=by subst e;intro d s Z H p o Q I r h;refine nU h ?_;clear h;rintro l C n c b rfl m g k q;refine ei (uR r) ?_;rintro u i rfl j a;cases j;exact PySem.W.kia_one (PySem.W.kitx_exc g) I.kIn (xcG.kit (I.hok l _ m).1) (k i a) (λz=>nomatch z) λf=>(dV (.bl b) H (I.tok f) rfl q)
def JT(C:zW)(sp:Sp)(dvs:zM)(E E':XK)(t:TA):TS:=λ_ Z H=>t Z H λb c=>b.length<=sizeLine/\
 ∀a f,c a=none->sp (.ref a::(b++dvs)) (upd c a (xcN a C f)) (λv e=>v=.non/\∃d,e a=some (.ext λh=>h.get? a=some (rN C f d))/\E (.ref C) d (rj e a)) E'
section
variable{k:Nat}
theorem ET{P:Pos}(hT:DD X C E)(M:MkX X.K C f)(F:A3i X.prog X.w X.K X.mg X.base CX k f fd ps sp)(hr:A5y (k+1) X.A)(hg:Gl X x)(hm:X.mg x=some (.ref C))(hb:A9f X.K fd ps ds)(S:A2m dvs ds)(hx:sZ CX X E')(L:X.calm=true)
  (n:X.ex=[]) (ha:PA X (e::es) t) (p:(x==("__debug__":Str))=false:=by decide) (he:starEach (e::es) X.env=(false,eval e X.env)::starEach es X.env:=by rfl) (u:(backTo cpos (starEach es X.env)).any (·.1)=false:=by rfl):
  PS X (.Raise (some (.Call (.Name x P) (e::es) [] cpos)) none pos) (JT C sp dvs E E' t):=by
 intro c s Z H D I h;refine pZ (AL I.mod.kin M.xe) ?_;rintro nm y N bs bm hdct sn sub ab ⟨col,dd,k0,k1,k2,k3,k5,mN,R,hN,hi,T⟩
 have b:wpAny (model X.prog X.w) X.A (eval (.Call (.Name x P) (e::es) [] cpos) X.env) (λv B=>∃e t U,v=.ref e/\B.heap.get? C=some (excClassObj nm y C N bs bm hdct sn sub ab col dd k0 k1 k2 k3 k5 "ValueError.__new__")/\B.heap.get? e=some (rN C t U)/\X.xe (.ref e) B) X.xe s:=by
  refine wpAny_Call_Name_kw (ub I hg hm ?_ p);refine PySem.W.callWith_K (h₀:=X.base) I.ok.mod.kin M.kp (thn (ha cpos c s Z H _ I h) λus s1 ⟨vs,H1,I1,r,hl,q⟩=>⟨I1.kIn,?_⟩) he u;refine thn (LX (Q:=λa i l=>∃d,l a=some (.ext λh=>h.get? a=some (rN C i d))/\E (.ref C) d (rj l a)) M.xe M.fn F hr hb S hx I1 r (r.length▸hl) q) ?_;rintro v O G;refine nF G ?_;clear G;rintro a i l Y I2 hn ⟨d,g,hE⟩;obtain⟨j,_,_⟩:=(show A1p X.prog X.w l O.heap a (.ext λh=>h.get? a=some (rN C i d)) from I2.hok a _ g)
  have h0:X.s₀.heap.get? a=none:=by
   cases z:X.s₀.heap.get? a with
   |none=>rfl
   |some o=>obtain⟨o1,J⟩:=I1.base.there a o z (by rw[n];simp);rw[hn]at J;cases J
  exact mh a i d Y (I2.bk _ _ R) j (hT c Z l O a i d I2 g h0 hE)
 rw[arm_exec_Raise]
 first|exact cz (uZ (Gn (C:=C) (nm:=nm) (q:=y) (N:=N) (bs:=bs) (bm:=bm) (hdct:=hdct) (sn:=sn) (sub:=sub) (ab:=ab) (col:=col) (dd:=dd) (k0:=k0) (k1:=k1) (k2:=k2) (k3:=k3) (k5:=k5) (newId:="ValueError.__new__") (T.hasType (by decide+kernel)) (I.ok.hd L) (cz (oj b (λv s₃ m=>cz (uZ (ff m))) λ_ _ x=>x))))|(simp only [evalOpt,Option.map];exact cz (uZ (Gn (C:=C) (nm:=nm) (q:=y) (N:=N) (bs:=bs) (bm:=bm) (hdct:=hdct) (sn:=sn) (sub:=sub) (ab:=ab) (col:=col) (dd:=dd) (k0:=k0) (k1:=k1) (k2:=k2) (k3:=k3) (k5:=k5) (newId:="ValueError.__new__") (T.hasType (by decide+kernel)) (I.ok.hd L) (cz (oj b (λv s₃ m=>cz (uZ (ff m))) λ_ _ x=>x)))))
end
section
variable{k:Nat}
end
abbrev yE(A:zZ):zZ:={A with handled:=none}
def A6p(k:Nat)(A:zZ):Prop:=A5y k (yE A)
theorem A6p.mono{k:Nat}(r:A6p k A)(h:j<=k):A6p j A:=A5y.mono r h
theorem A6p.deeper{k:Nat}(r:A6p (k+1) A)(env:Env):A6p k (A.deeper env):=A5y.deeper r env
theorem A6p.depth{k:Nat}(r:A6p k A):A.depth<recursionLimit:=A5y.depth (A:=yE A) r
theorem A6p.units{k:Nat}(r:A6p k A):A.units+64<cLine:=A5y.units (A:=yE A) r
theorem A5y.anyH{k:Nat}(r:A5y k A):A6p k A:=⟨rfl,r.dp,r.un,r.gd⟩
theorem A5y.held{k:Nat}(r:A5y k A)(h:zN):A6p k (A.mark h):=⟨rfl,r.dp,r.un,r.gd⟩
noncomputable abbrev cxH(CX:CXT)(P:yB)(w:yD)(K:Frag)(mg:zE)(base:yA)(N:zC)(qual:Str)(scope:Scope)(f:zW)(cd:zX)(A:zZ)(outer:List Env)(s:zY)(H:Hp)(E:XK):Cx :={sU CX P w K mg base N qual scope f cd A outer s H E with calm:=false}
theorem Nk
  (S:ic N ps scope) (b:D1l P w K mg base A outer s H) (c:vs.length=ps.length) (r:A2m vs us)
  (x:InCallC s s.heap.objs.size (bindL (envOfC qual scope s.heap.objs.size f cd).kindOf (ps.zip us) λ_=>none) (cellsFrom (s.heap.objs.size+1) scope.names []) (bindC (envOfC qual scope s.heap.objs.size f cd).kindOf (ps.zip us) λ_=>none) s1):
  Inv (cxH CX P w K mg base N qual scope f cd A outer s H E) [] (sf N vs) H s1:=by
 have d:D1l P w K mg base (yE A) outer s H:=⟨b.frames,b.mod,b.bs,b.bsz,b.funs,b.frf,b.hok,b.bare⟩;have I:=Ff (CX:=CX) (E:=E) S rfl d c r x;have a:=I.ok
 exact⟨⟨a.mod,a.kind,a.glob,a.blt,a.above,a.inj,a.has,a.cab,(λz=>nomatch z),Around.frames_deeper b.frames,a.stk,a.exf,a.bs,a.bsz,a.noex,a.exfs,a.funs,a.frf⟩,
  I.os,I.bare,I.base,I.loc,I.cell,I.free,I.freeC,I.pin,I.hok,I.len⟩
section
variable{k:Nat}
end
section
variable{E:zA}
theorem M1{vs:zG}{x e:Int}(n:A.handled=some (.ref h))(j:s.heap.get? h=some l)(p:l.data=.fields vs)(h2:vs[2]?=some .none)(d:IsRangeIter s.heap it x c e)(f:c<=0)
  (r:∀h',Heap.ExtBut it s.heap h'->Q none {s with heap:=h'}):wpAny (model prog w) A (pyNext (.ref it)) Q E s:=by
 have i:s.TypeIs (.ref it) "range_iterator":=(cb _ d rfl);unfold pyNext
 refine cz (wpAny_attempt (tI (name:=Str.ofString "__next__") i F.slot_range_iterator_next
  (tH F.slot_range_iterator_next i F.entry_range_iterator_next ?_ (F.args_range_iterator_next_1 _))))
 show wpAny _ _ (field (.ref it) 0>>=_) _ _ s;refine cz (nV d rfl (x:=rawInt x) rfl ?_);show wpAny _ _ (field (.ref it) 1>>=_) _ _ s;refine cz (nV d rfl (x:=rawInt c) rfl ?_);show wpAny _ _ (field (.ref it) 2>>=_) _ _ s;refine cz (nV d rfl (x:=rawInt e) rfl ?_);show wpAny _ _ (if c<=0 then _ else _) _ _ s;rw[eH f];refine cz (wpAny_rule ?_);refine cz ?_;show wpAny _ _ (newExc (.type "StopIteration") []>>=_) _ _ _;refine cz ?_;simp only [newExc,newTuple];refine cz (tJ ?_ (by size_fits));refine cz (m:=firstArgMember _ _) (wpAny_of_eq (a:=Value.none) (by first|rfl|(simp only [firstArgMember];rfl)) ?_);refine tJ ?_ (by size_fits);have q:h<s.heap.objs.size:=lI j;refine Gc (h:=h) n ?_ (gc _ (gc _ j)) p h2 (nc _ rfl) rfl (by simp;lia) ?_
 ·exact mG (by rw[rW];exact Nat.lt_succ_of_lt q)
 refine cz (wpAny_isInstance (T:="StopIteration") (b:=true) (cb _ (vc _ (nc _ rfl) rfl) rfl) isSubtype_stop ?_);refine ff (r _ λb o _ k=>?_);have g:=lI k;exact(uG _ _ (pP (by rw[rW];exact Nat.lt_succ_of_lt g))).trans (gc _ (gc _ k))
end
abbrev vn(ea:zW):zZ->Prop:=λA=>A.handled=some (.ref ea)
section
variable{k:Nat}
end
theorem Bo(h:PyData.strOk y=true):(reprText y).length<=10*y.length+2:=by
 refine StrLaws.reprText_len y λc d=>?_;have a:∀(i:Nat)(x:i<y.cps.size),y.cps[i]<1114112:=by simpa[PyData.strOk]using h
 obtain⟨i,b,e⟩:=List.mem_iff_getElem.mp d;have:=a i (by simpa using b);rw[<-e];exact oV (by simpa using this) (by decide)
def Ih(te:TE)(tr:TJ):TJ:=λZ H a Q=>te Z H λx b=>∃y:Str,x=.str y/\PyData.strOk y=true/\a.length+10*y.length+2<=sizeLine/\∀z:Str,z.length<=10*y.length+2->tr Z b (a++z) Q
def vX(ys:zC):Nat:=(ys.map λy=>10*y.length+4).sum+3
def JC(te:TE)(tr:TJ):TJ:=λZ H c Q=>te Z H λx d=>∃(a:zW)(b:zC),x=.ref a/\d a=some (.lst (b.map V.str))/\b≠[]/\(∀y∈b,PyData.strOk y=true)/\c.length+vX b<=sizeLine/\∀z:Str,z.length<=vX b->tr Z d (c++z) Q
theorem sE(m:PE X e te)(f:PJ X es tr)(hs:evalEach (.FormattedValue e 114 none pos::es) X.env=eval (.FormattedValue e 114 none pos) X.env::evalEach es X.env:=by rfl):PJ X (.FormattedValue e 114 none pos::es) (Ih te tr):=by intro a s Z H d Q I h;rw[hs];refine joinParts_cons (wpAny_FormattedValue_repr (thn (m a s Z H _ I h) ?_));rintro v o c;refine ei c ?_;clear c;rintro x j I1 l ⟨y,i,b,n,q⟩;subst i;obtain⟨t,rfl⟩:=(show∃t,v=Value.str y t from l);have g:=Bo b;refine pyReprObj_str ?_ (by lia);refine formatField_str (λp k=>⟨?_,f a _ Z j _ Q ((I1.tok _).tok k) (q _ g)⟩) (by lia);rw[strLen_append];lia
theorem D7:∀{ys:zC},(∀y∈ys,PyData.strOk y=true)->((ys.map reprText).map (·.length)).sum+2*(ys.map reprText).length<=(ys.map λy=>10*y.length+4).sum
 | [],_=>by simp
 |y::r,h=>by
  have c:=Bo (h y (.head _));have a:=D7 (ys:=r) λz b=>h z (.tail _ b);simp only [mi,List.sum_cons,nG]at a⊢
  lia
theorem CK{y:Str}:∀{ys:zC},y∈ys->10*y.length+4<=(ys.map λy=>10*y.length+4).sum|_::r,.head _=>by simp only [mi,List.sum_cons];lia|z::r,.tail _ h=>by have:=CK h;simp only [mi,List.sum_cons];lia
theorem Km(U:X.A.guards=some [])(Y:X.A.units<cLine)(T:PE X e te)(P:PJ X es tr)(hs:evalEach (.FormattedValue e 114 none pos::es) X.env=eval (.FormattedValue e 114 none pos) X.env::evalEach es X.env:=by rfl):PJ X (.FormattedValue e 114 none pos::es) (JC te tr):=by
 intro c s Z H W Q I h;rw[hs];refine joinParts_cons (wpAny_FormattedValue_repr (thn (T c s Z H _ I h) ?_));rintro v s1 F;refine ei F ?_;clear F;rintro x K I1 S ⟨a,ys,R,ha,ne,M,N,q⟩;subst R;cases S;refine qb (I1.lstM ha) ?_;rintro z C n r ⟨j,L⟩;have m:=oU (listText_len_le (ys.map reprText)) (Nat.add_le_add_right (D7 M) 3);have m:(listText (ys.map reprText)).length<=vX ys:=m
 cases C with
 |nil=>rw[dm]at j;exact absurd (List.eq_nil_of_length_eq_zero j) ne
 |cons u us=>
  refine wpAny_pyReprObj_list (x:=u) (l:=us) (ts:=ys.map reprText) (cb _ L rfl) U (λv J kw f=>by cases f) Y L rfl ?_ (λi y g=>?_) (λO t tk E=>?_) (by lia)
  ·rw[dm,oz,<-j,dm]
  ·have g:(u::us)[i]?=some y:=by simpa using g
   have D:i<ys.length:=by have k:=(ml.mp g).1;rw[<-j,dm]at k;exact k
   have d:ys[i]?=some ys[i]:=nP D;generalize ys[i]=y0 at d;obtain⟨w,G,p⟩:=r.get (i:=i) (x:=V.str y0) (by rw[oH,d];rfl);rw[g]at G;cases G;obtain⟨t,rfl⟩:=(show∃t,y=Value.str y0 t from p);have f:=me d;have k:=Bo (M y0 f);have h2:=CK f;exact cb (reprText y0) (by rw[oH,d];rfl) (ReprIs.str y0 t (by unfold vX at N;lia))
  ·have I2:Inv X c Z K {s1 with heap:=O,toks:=tk}:=I1.kept λb o e=>E b o e
   refine formatField_str (λt' B=>⟨?_,P c _ Z K _ Q (I2.tok B) (q _ m)⟩) (by lia);rw[strLen_append];lia
abbrev Kf:=@Dv false true
section
variable{E:zA}
theorem OR{t:zW}(g:A.handled=some (.ref h))(k:D3d h s.heap)(a:h≠it)(b:IsTupIter s.heap it t i)(d:IsTup s.heap t items)(j:items[i]?=none)
  (f:∀h',Heap.ExtBut it s.heap h'->Q none {s with heap:=h'}):wpAny (model prog w) A (pyNext (.ref it)) Q E s :=
 AX f λ_ m=>yx (e:=some h) g (λz q=>by cases q;exact⟨k,λc l=>by rw[mn.mp l];exact a⟩) b d j m
theorem Oz{t:zW}{Q:Unit->zY->Prop}(u:A.handled=some (.ref h))(q:D3d h s.heap)(f:IsTup s.heap t items)(y:a.length=items.size)(d:a.findIdx? (·.1)=none)
  (v:∀h',Heap.ExtBut s.heap.objs.size s.heap h'->wpAny (model prog w) A (assignInOrder (a.map (·.2)) items.toList) Q E {s with heap:=h'}):wpAny (model prog w) A (unpack (.ref t) a) Q E s:=by
 have g:t≠s.heap.objs.size:=by obtain⟨o,m,_⟩:=f;exact mG (lI m)
 have i:h≠s.heap.objs.size:=by obtain⟨o,_,m,_⟩:=q;exact mG (lI m)
 unfold unpack;rw[y,d];refine cz (qC ?_);unfold unpackItems;refine cz ?_;unfold notIterableAtAll;refine cz (wpAny_specialOf f.typeIs slot_tuple_iter.lookup ?_);refine ff ?_;simp only [Bool.false_eq_true,if_false];refine cz (qC (iter_tuple f ?_));refine cz (qC (draw_tuple g items.size 0 _ _ (fx _ (nc _ rfl) rfl rfl) (f.push _) (by lia) λh₁ k c=>?_))
 have j:List.take items.size (List.drop 0 items.toList)=items.toList:=by rw[ug];exact rT (by simp)
 rw[j];rw[fa (by simp)];have p:IsTup h₁ t items:=(f.push _).extBut c.extBut g;have n:D3d h h₁:=q.at λo e=>c.extBut h o i (gc _ e);refine cz (qC (OR u n i k p (by simp) λx l=>?_));simp only [Option.isSome_none,Bool.false_eq_true,if_false];refine ff ?_;exact v x λb o r e=>l b o r (c.extBut b o r (gc _ e))
end
def GJ(ea:zW)(K:Frag)(n:Nat)(t:TGs):TG:=λv Z H Q=>∃a b,v=.ref a/\SqT K H a b/\b.length=n/\(∃C c,H ea=some (.ext (xcG ea C c)))/\t b Z H Q
theorem DI{k:Nat}{t:TGs}{n:Nat}(q:vn ea X.A)(h:PGs X es t)
  (y:(assignEach es X.env).length=n:=by rfl) (i:(assignEach es X.env).findIdx? (·.1)=none:=by rfl):PG X (.Tuple es k pos) (GJ ea X.K n t):=by
 intro c s Z H v u Q I r d;refine lS d ?_;clear d;rintro a z m M L ⟨⟨C,F,B⟩,d⟩;subst m;cases r;obtain⟨N,j,l,O⟩:=I.tuple M;obtain⟨⟨D,G,g,_,_,J,f⟩,_,_⟩:=(show A1p X.prog X.w H s.heap ea (.ext (xcG ea C F)) from I.hok ea _ B);rw[assign_Tuple];refine cz (uZ (Oz q (dV D G g J f) l (by simp[y,<-L,j.length]) i λp x=>?_));have I1:Inv X c Z H {s with heap:=p}:=I.kept (t':=s.toks) λb o e=>x b o (mG (lI e)) e
 exact h c _ Z H z _ Q I1 (by simpa using j) d
end L2
namespace HT
open PySem PySem.Spec PyProof.Rows L2
section
variable{prog:yB}{w:yD}{A:zZ}{E:zA}{s:zY}
theorem getItem_tuple_all{t sl:zW}{items:zG}{f i:zX}{lo hi:Option Int}{Q:zA}(b:IsTup s.heap t items)(hs:s.heap.IsSliceOf sl f i .none)(pl:IsPart f lo)(j:IsPart i hi)
  (g:sIx items.size 0 lo=0/\sIx items.size items.size hi=items.size) (h:Q (.ref t) s):wpAny (model prog w) A (getItem (.ref t) (.ref sl)) Q E s:=by
 obtain⟨l,e,d,k⟩:=id hs;have c:s.TypeIs (.ref sl) "slice":=(cb l e d);unfold getItem
 try with_reducible refine qC ?_
 first|refine cz (ff ?_)|skip
 refine cz (wpAny_sequenceKey b.typeIs (by decide) ?_)
 refine cz (tI (name:=Str.ofString "__getitem__") b.typeIs wD
  (tH wD b.typeIs entry_tuple_getitem ?_ (args_tuple_getitem _ _)))
 show wpAny _ _ (Builtin.Tuple.tupleItemsOf (.ref t)>>=_) _ _ s;refine cz (tupleItemsOf_ b ?_);refine cz (wpAny_typeOf c ?_);rw[eH (by decide)];refine cz (Gs hs pl j ?_)
 have a:(((sIx items.size 0 lo:Nat):Int)==0&&(1:Int)==1&&(sIx items.size items.size hi-sIx items.size 0 lo)==items.size)=true:=by rw[g.1,g.2];simp
 show wpAny _ _ (if (((sIx items.size 0 lo:Nat):Int)==0&&(1:Int)==1&&(sIx items.size items.size hi-sIx items.size 0 lo)==items.size)=true then _ else _) _ _ s;rw[eH a];refine cz ?_;unfold Builtin.Tuple.tupleIsExact;refine cz (wpAny_typeOf b.typeIs (ff ?_));rw[eH (by decide)]
 first|exact cz (wpAny_rule (ff (cb _ rfl (ff h))))|exact cz (ff (ff ⟨_,rfl,ff h⟩))|exact ff ⟨_,rfl,ff h⟩|skip
 done
end
end HT
namespace L2
open PySem PySem.Spec PyProof.Rows
variable{α:Type}{z l2 l1 it i2 i1 h f ea:zW}{xs dvs:zM}{x qual:Str}{w:yD}{v:Tok}{u tb t:TS}{tpos pos' pos p:Pos}{tl te:TE}{tk n i:Nat}{tg l iter elt e c:yC}{tc:TT}{ta:TA}{st:Stmt}{sp:Sp}{scope:Scope}{s:zY}{rest body b a:List Stmt}{ps N' N:zC}{prog P:yB}{pins:zD}{outer:List Env}{o:Obj}{mg:zE}{lo:Int}{kvs:zJ}{k2 k1:Bool}{ix:List (Option Nat)}{hi:Option Int}{g:TG}{fd:zS}{es elts:zT}{e':zO}{ds:zH}{cl:List (Str×zW)}{cd:zX}{base:yA}{Z₀ Z:St}{X:Cx}{R:It->Hp->Prop}{QD:Hp->Prop}{Q:zN->zY->Prop}{K:Frag}{J:It}{H:Hp}{E:zA}{D:pJ}{CX:CXT}{A:zZ}
theorem Kc{lo:Option Int}(h:HT.sIx xs.length 0 lo=0/\HT.sIx xs.length xs.length hi=xs.length):nJ xs lo hi=xs:=by unfold nJ;rw[h.1,h.2,ug,Nat.sub_zero,na]
def rSlA:V->Option Int->Option Int->Hp->VK->Prop:=λx e d H Q=>∃a c,x=.ref a/\H a=some (.tup c)/\∀p b,A0l H b->b p=some (.tup (nJ c e d))->Q (.ref p) b
theorem Jh:SlR X rSlA:=by
 intro m s Z H x v w z e f y Q I u k p l h;refine ei h ?_;clear h;rintro a d rfl n q;cases u;obtain⟨i,r,g,j⟩:=I.tuple (SqT.of n);have c:i.toArray.size=d.length:=by rw[oz];exact r.length.symm
 refine dV "tuple" _ wD.lookup g.typeIs ?_;by_cases hw:HT.sIx d.length 0 e=0/\HT.sIx d.length d.length f=d.length
 ·refine HT.getItem_tuple_all g k p l (by rw[c];exact hw) ?_;exact dV (.ref a) H I rfl (q a H (A0l.refl _) (by rw[Kc hw];exact n))
 ·refine HT.getItem_tuple_cut g k p l (by rw[c];exact hw) ?_ (by rw[c];exact j);rw[c];have t:=I.hok.fresh (fy _);refine dV (.ref s.heap.objs.size) _ (I.laid (t':=s.toks) (o:=.tup (nJ d e f)) (λb A q=>gc _ q) (fy _) ?_) rfl (q _ _ (ed t) cp);exact kB (oU (FG d e f) j) _ ((r.drop (HT.sIx d.length 0 e)).take (HT.sIx d.length d.length f-HT.sIx d.length 0 e)) (IsTup.new _ _)
theorem uS{f:α->V}{ys:List α}:nJ (ys.map f) none (some (i:Int))=(ys.take i).map f:=by
 unfold nJ;have a:HT.sIx (ys.map f).length 0 none=0:=rfl;have b:HT.sIx (ys.map f).length (ys.map f).length (some (i:Int))=min i (ys.map f).length:=HT.sIx_nat _ _ _;rw[a,b,ug,Nat.sub_zero,List.map_take];by_cases h:i<=(ys.map f).length
 ·rw[Nat.min_eq_left h]
 ·rw[Nat.min_eq_right (by lia),rT (fy _),rT (by lia)]
theorem oJ{x:V}(h:let D':=D;g x Z H λZ2 H2=>tb D' Z2 H2):g x Z H λZ2 H2=>tb D Z2 H2:=h
theorem qE{N:VK}{x:V}(h:let N':=N;g x Z H λZ4 H4=>A2g Z Z4/\te Z4 H4 N'):g x Z H λZ4 H4=>A2g Z Z4/\te Z4 H4 N:=h
section
variable{E:XK}
end
theorem O6{l:zW}{k:Nat}{xs:zG}(f:A.handled=some (.ref h))(i:D3d h s.heap)(a:h≠it)(hi:s.heap.IsTupleIter it l k)(d:s.heap.IsTuple l xs)(g:xs[k]?=none)
  (b:∀h',Heap.ExtBut it s.heap h'->Q none {s with heap:=h'}):wpAny (model prog w) A (pyNext (.ref it)) Q E s :=
 AX b λ_ m=>yx (e:=some h) f (λz q=>by cases q;exact⟨i,λc j=>by rw[mn.mp j];exact a⟩) hi d g m
def vE(ea:zW)(K:Frag)(a:zW):It:=⟨(Itt K a).go,(Itt K a).yld,λi H=>(Itt K a).stop i H/\∃C b,H ea=some (.ext (xcG ea C b))⟩
theorem LN(ea a it:zW):A6j (vn ea) P w K tg (vE ea K a) [it] it (λi h=>h.IsTupleIter it a i):=
 A6j.fin (J:=vE ea K a) (FJ a it)<|by
  intro X M l k n i j s Z H E I r m x;subst M l k;obtain⟨⟨T,N,S⟩,C,y,d⟩:=x;obtain⟨f,v,p,Q⟩:=I.tuple N;refine mM (r it (by simp)) ?_;rintro g B U u ⟨q,D⟩;obtain⟨⟨o,F,A,_,_,G,O⟩,_,_⟩:=(show A1p X.prog X.w H s.heap ea (.ext (xcG ea C y)) from I.hok ea _ d);have W:=v.length;have c:ea≠it:=λz=>by rw[z,g]at d;cases d
  exact O6 n (dV o F A G O) c m (show s.heap.IsTuple a f.toArray from p) (by simp;lia) λR t=>⟨rfl,I.turned (t':=s.toks) (λb o L e=>t b o L e) g B u q D⟩
def He(ea:zW)(K:Frag)(tl:TE):TI:=λZ H R=>tl Z H λx b=>∃a,x=.ref a/\(∃c,SqT K b a c)/\R (vE ea K a) b
theorem IJ(k:PE X l tl):PIP (vn ea) X tg l (He ea X.K tl):=by
 intro c s Z H R I h;refine thn (k c s Z H _ I h) ?_;refine λv d g=>ei g λx m I1 r i=>?_;clear g;obtain⟨a,e,⟨w,n⟩,q⟩:=i;subst e;cases r;obtain⟨f,u,p,t⟩:=I1.tuple n;refine wpAny_pyIter_tuple (show d.heap.IsTuple a f.toArray from p) ?_;refine nL d.heap.objs.size [d.heap.objs.size] _ _ m rfl (I1.kept (t':=d.toks) λb o e=>gc _ e) (LN ea a _) (fx _ (nc _ rfl) rfl rfl) (λb j=>?_) q;have e:b=d.heap.objs.size:=by simpa using j
 subst e;exact I1.fpOk (fy _) (I1.hok.fresh (fy _))
theorem KF{a:zW}(Pv:Nat->St->Hp->Prop)(c:Pv 0 Z H)(f:∀i Z H,Pv i Z H->SqT K H a xs/\∃C od,H ea=some (.ext (xcG ea C od)))
  (hs:∀i x Z H,xs[i]?=some x->Pv i Z H->g x Z H λZ2 H2=>tb {D with nx:=Pv (i+1),ct:=Pv (i+1),bk:=D.nx} Z2 H2) (j:∀Z H,Pv xs.length Z H->D.nx Z H):
  ∃W:Nat->Nat->St->Hp->Prop,(∃m,W 0 m Z H)/\∀i m Z H,W i m Z H->
   ((vE ea K a).stop i H/\D.nx Z H)\/((vE ea K a).go i H/\∃N:St->Hp->Prop,(∀Z' H',N Z' H'->∃b,b<m/\W (i+1) b Z' H')/\∀x H',(vE ea K a).yld i H x H'->g x Z H' λZ2 H2=>tb {D with nx:=N,ct:=N,bk:=D.nx} Z2 H2):=by
 refine cb (λi m Z H=>m=xs.length-i/\i<=xs.length/\Pv i Z H) (fx xs.length (by simp) (pG _) c) ?_;rintro i m Z H ⟨rfl,k,p⟩;obtain⟨q,h⟩:=f i Z H p;by_cases hlt:i<xs.length
 ·refine .inr (kB (mL xs (xs[i]) q (by simp[hlt])) (Pv (i+1)) (λZ' H' d=>(nr (xs.length-(i+1)) (by lia) rfl hlt d)) λx H' y=>?_);obtain⟨e,y⟩:=y;subst e;exact hs i x Z _ (y xs q) p
 ·have e:i=xs.length:=by lia
  subst e;exact .inl ⟨⟨(cb xs q (fy _)),h⟩,j Z H p⟩
structure RS(X:Cx)(sts:List Stmt)(t:TS):Prop where
 r:PSs X sts t
structure R1(X:Cx)(st:Stmt)(t:TS):Prop where
 r:PS X st t
theorem dh(h1:R1 X st t)(h2:RS X rest u):RS X (st::rest) (Cj t u):=⟨pi h1.r h2.r⟩
theorem qy(h1:R1 X st t)(h2:RS X rest u):RS X (st::rest) (zm t u):=⟨IR h1.r h2.r⟩
theorem ef(h1:R1 X st t):RS X [st] t:=⟨mD h1.r⟩
theorem lN(d:PT X c tc)(f:RS X a t)(e:RS X b u):R1 X (.If c a b pos) (xU tc t u):=⟨pA d f.r e.r⟩
theorem hB(a:PE X e te):R1 X (.Return (some e) pos) (Cc te):=⟨sj a⟩
theorem hK(i:Nat)(c:X.N.Nodup)(d:PE X e te)(hi:X.N[i]?=some x:=by exact rfl)(b:Loc X.env.scope x:=by exact .inl rfl)(hs:swapsWith e (some (.Name x pos')) pos.line X.env=pure false:=by exact rfl)(a:X.fn x=true\/X.env.scope.names.lookup x=some .local:=by exact .inl rfl):R1 X (.Assign [.Name x pos'] e pos) (xK te (qK i)):=⟨pR c hi b d hs a⟩
theorem pX{wi:TI}(hi:PI X tg iter wi)(c:PG X tg g)(b:RS X body tb)(d:PassesOwn (model X.prog X.w) X.A X.env X.xe:=by exact PassesOwn.never)(a:X.calm=true:=by exact rfl)(hs:∀x,foldedSetIterable iter X.env x=pure x:=by intro _;rfl):R1 X (.For tg iter body [] pos) (zy wi g tb):=⟨sr d a hi c b.r hs⟩
section
variable{TI TO:zW}
end
theorem O1{l:zW}{k:Nat}{xs:zG}(f:A.handled=some (.ref h))(i:D3d h s.heap)(a:h≠it)(hi:s.heap.IsListIter it l k)(d:s.heap.IsList l xs)(g:xs[k]?=none)
  (b:∀h',Heap.ExtBut it s.heap h'->Q none {s with heap:=h'}):wpAny (model prog w) A (pyNext (.ref it)) Q E s :=
 AX b λ_ m=>Dw (e:=some h) f (λz q=>by cases q;exact⟨i,λc j=>by rw[mn.mp j];exact a⟩) hi d g m
theorem MU{e:zO}(a it:zW):A6j (HdA e) P w K tg (ItO e (Itl K a)) [it] it (λi h=>h.IsListIter it a i):=
 A6j.fin (J:=ItO e (Itl K a)) (FA a it)<|by
  intro X B v u k i t s Z H E I m j A;subst B v u;obtain⟨⟨L,C,G⟩,y⟩:=A;have f:=y.heap I m;obtain⟨D,z,p,F⟩:=I.list C;refine mM (m it (by simp)) ?_;rintro g q M n ⟨l,r⟩;have N:=z.length
  cases e with
  |none=>exact wpAny_pyNext_list_end k j p.isList (by simp;lia) λx c=>⟨rfl,I.turned (t':=s.toks) (λb o d e=>c b o d e) g q n l r⟩
  |some ea=>exact O1 k (f ea rfl).1 ((f ea rfl).2 it (by simp)) j p.isList (by simp;lia) λx c=>⟨rfl,I.turned (t':=s.toks) (λb o d e=>c b o d e) g q n l r⟩
def HU(e:zO)(K:Frag)(tl:TE):TI:=λZ H R=>tl Z H λx b=>∃a,x=.ref a/\(∃c,SqL K b a c)/\R (ItO e (Itl K a)) b
def GP(e:zO)(k1 k2:Bool)(K:Frag)(ta:TA):TI:=λZ H R=>ta Z H λd c=>∃a b g f,d=[.ref a,.ref b]/\SqK k1 K c a g/\SqK k2 K c b f/\R (ItO e (Itk k1 k2 K a b)) c
theorem xp{e:zO}(j:PE X l tl):PIP (HdA e) X tg l (HU e X.K tl):=by
 intro c s Z H R I h;refine thn (j c s Z H _ I h) ?_;refine λv d f=>ei f λx k I1 r g=>?_;clear f;obtain⟨a,e,⟨w,m⟩,q⟩:=g;subst e;cases r;obtain⟨n,u,p,t⟩:=I1.list m;refine wpAny_pyIter_list p.isList ?_;refine nL d.heap.objs.size [d.heap.objs.size] _ _ k rfl (I1.kept (t':=d.toks) λb o e=>gc _ e) (MU a _) (fx _ (nc _ rfl) rfl rfl) (λb i=>?_) q;have e:b=d.heap.objs.size:=by simpa using i
 subst e;exact I1.fpOk (fy _) (I1.hok.fresh (fy _))
theorem AZ{e:zO}{P:Nat}{a b:yC}(B:Gl X "zip")(x:X.mg "zip"=none)(D:PA X [a,b] ta)(hs:starEach [a,b] X.env=[(false,eval a X.env),(false,eval b X.env)]:=by rfl)(g:starEach [b] X.env=[(false,eval b X.env)]:=by rfl):
  PIP (HdA e) X (.Tuple elts P tpos) (.Call (.Name "zip" p) [a,b] [] pos) (GP e k1 k2 X.K ta):=by
 intro f s Z H R I h;refine Call_ (tf I B x boot_zip (PyProof.Rows.callWith_type1 (thn (D pos f s Z H _ I h) λT d ⟨U,t,I1,M,v⟩=>?_) (by rw[hs,g]) (by rw[g];rfl)));refine ou v λC F Q W A k j q=>?_;clear v;subst A;refine ei (uR M) ?_;rintro u Y rfl N l;cases N;cases l;obtain⟨L,S,m⟩:=uM I1 k;obtain⟨n,O,w⟩:=uM I1 j;have G:C<d.heap.objs.size:=ltK m;have J:F<d.heap.objs.size:=ltK w;refine By m w λy o z=>wpAny_pyIter_zip o.1 ?_;have I2:Inv X f Z t {d with heap:=y}:=I1.kept (t':=d.toks) z;refine nL _ [d.heap.objs.size+4,d.heap.objs.size+2,d.heap.objs.size+3,d.heap.objs.size,d.heap.objs.size+1] _ _ t rfl I2 (EB (zipApart_new G J)) o (λc r=>?_) q
 have i:d.heap.objs.size<=c:=by
  simp only [lY,qQ,or_false]at r;rcases r with rfl|rfl|rfl|rfl|rfl
  ·exact Nat.le_add_right _ _
  ·exact Nat.le_add_right _ _
  ·exact Nat.le_add_right _ _
  ·exact fy _
  ·exact Nat.le_add_right _ _
 exact I1.fpOk i (I1.hok.fresh i)
theorem AU{e:zO}(Pv:Nat->St->Hp->Prop)(d:Pv 0 Z H)(b:∀i Z H,i<n->Pv i Z H->J.go i H)(a:∀Z H,Pv n Z H->J.stop n H/\HdO e H)
  (hs:∀i Z H x H',i<n->Pv i Z H->J.yld i H x H'->g x Z H' λZ2 H2=>tb {D with nx:=Pv (i+1),ct:=Pv (i+1),bk:=D.nx} Z2 H2) (h:∀Z H,Pv n Z H->D.nx Z H):
  ∃W:Nat->Nat->St->Hp->Prop,(∃m,W 0 m Z H)/\∀i m Z H,W i m Z H->
   ((ItO e J).stop i H/\D.nx Z H)\/((ItO e J).go i H/\∃N:St->Hp->Prop,(∀Z' H',N Z' H'->∃c,c<m/\W (i+1) c Z' H')/\∀x H',(ItO e J).yld i H x H'->g x Z H' λZ2 H2=>tb {D with nx:=N,ct:=N,bk:=D.nx} Z2 H2):=by
 refine cb (λi m Z H=>m=n-i/\i<=n/\Pv i Z H) (fx n (by simp) (pG _) d) ?_;rintro i m Z H ⟨rfl,j,p⟩;by_cases hlt:i<n
 ·exact .inr (kB (b i Z H hlt p) (Pv (i+1)) (λZ' H' f=>(nr (n-(i+1)) (by lia) rfl hlt f)) λx H' y=>hs i Z H x H' hlt p y)
 ·have e:i=n:=by lia
  subst e;exact .inl ⟨a Z H p,h Z H p⟩
theorem xq{e:zO}{a:zW}(Pv:Nat->St->Hp->Prop)(f:Pv 0 Z H)(b:∀i Z H,Pv i Z H->SqL K H a xs/\HdO e H)
  (hs:∀i x Z H,xs[i]?=some x->Pv i Z H->g x Z H λZ2 H2=>tb {D with nx:=Pv (i+1),ct:=Pv (i+1),bk:=D.nx} Z2 H2) (h:∀Z H,Pv xs.length Z H->D.nx Z H):
  ∃W:Nat->Nat->St->Hp->Prop,(∃m,W 0 m Z H)/\∀i m Z H,W i m Z H->
   ((ItO e (Itl K a)).stop i H/\D.nx Z H)\/((ItO e (Itl K a)).go i H/\∃N:St->Hp->Prop,(∀Z' H',N Z' H'->∃d,d<m/\W (i+1) d Z' H')/\∀x H',(ItO e (Itl K a)).yld i H x H'->g x Z H' λZ2 H2=>tb {D with nx:=N,ct:=N,bk:=D.nx} Z2 H2):=
 AU (n:=xs.length) Pv f (λi Z H c p=>(mL xs (xs[i]) ((b i Z H p).1) (nP c))) (λZ H p=>⟨(cb xs ((b _ Z H p).1) (fy _)),(b _ Z H p).2⟩) (λi Z H x H' c p y=>by
  obtain⟨z,y⟩:=y;subst z
  exact hs i x Z _ (y xs (b i Z _ p).1) p) h
theorem Bb{e:zO}{a b:zW}{ys:zM}(Pv:Nat->St->Hp->Prop)(j:Pv 0 Z H)(d:∀i Z H,Pv i Z H->SqK k1 K H a xs/\SqK k2 K H b ys/\HdO e H)
  (hs:∀i x y Z H p,xs[i]?=some x->ys[i]?=some y->Pv i Z H->H p=none->g (.ref p) Z (upd H p (.tup [x,y])) λZ2 H2=>tb {D with nx:=Pv (i+1),ct:=Pv (i+1),bk:=D.nx} Z2 H2) (o:∀Z H,Pv (min xs.length ys.length) Z H->D.nx Z H):
  ∃W:Nat->Nat->St->Hp->Prop,(∃m,W 0 m Z H)/\∀i m Z H,W i m Z H->
   ((ItO e (Itk k1 k2 K a b)).stop i H/\D.nx Z H)\/((ItO e (Itk k1 k2 K a b)).go i H/\∃N:St->Hp->Prop,(∀Z' H',N Z' H'->∃f,f<m/\W (i+1) f Z' H')/\∀x H',(ItO e (Itk k1 k2 K a b)).yld i H x H'->g x Z H' λZ2 H2=>tb {D with nx:=N,ct:=N,bk:=D.nx} Z2 H2):=
 AU (n:=min xs.length ys.length) Pv j (λi Z H h p=>⟨xs,(mh ys (xs[i]'(by lia)) (ys[i]'(by lia)) ((d i Z H p).1) ((d i Z H p).2.1) (nP _) (nP _))⟩) (λZ H p=>⟨(dV xs ys ((d _ Z H p).1) ((d _ Z H p).2.1) (by lia)),(d _ Z H p).2.2⟩) (λi Z H v H' h p y=>by
  refine nw y ?_;clear y;rintro c q rfl ⟨x,z,l,k,rfl⟩
  exact hs i x z Z H c (l xs (d i Z H p).1) (k ys (d i Z H p).2.1) p q) o
theorem LS{e:zO}(it:zW)(lo:Int)(n:Nat):A6j (HdA e) P w K tg (ItO e (Itr lo n)) [it] it (λi h=>IsRangeIter h it (lo+(i:Nat)*1) ((n:Int)-(i:Nat)) 1):=
 A6j.fin (J:=ItO e (Itr lo n)) (FL it lo n)<|by
  intro X C v u g i r s Z H E I k f z;subst C v u;refine mM (k it (by simp)) ?_;rintro d p F l ⟨j,q⟩;obtain⟨m,y⟩:=z;have m:n<=i:=m;have t:=y.heap I k
  cases e with
  |none=>exact wpAny_pyNext_range_end g f (by lia) λx a=>⟨rfl,I.turned (t':=s.toks) (λb o c e=>a b o c e) d p l j q⟩
  |some ea=>obtain⟨⟨L,G,A,B,D⟩,_⟩:=t ea rfl;exact M1 g A B D f (by lia) λx a=>⟨rfl,I.turned (t':=s.toks) (λb o c e=>a b o c e) d p l j q⟩
theorem LY{e:zO}{hi:Int}{t u:Tok}(I:Inv X pins Z H s)(h1: -(2^62)<=lo)(h2:lo<2^62)(f: -(2^62)<=hi)(g:hi<2^62)
  (q:R (ItO e (Itr lo (hi-lo).toNat)) H):wpAny (model X.prog X.w) X.A (pyIter (.ref s.heap.objs.size)) (zv (HdA e) X pins Z tg R) E {s with heap:=s.heap.push {cls:=.type "range",data:=.fields #[.int lo t,.int hi u,.int 1 v]},toks:=tk}:=by
 refine wpAny_pyIter_range (IsRange.new ..) (small_one h1 h2 f g) ?_;have I1:Inv X pins Z H {s with heap:=s.heap.push {cls:=.type "range",data:=.fields #[.int lo t,.int hi u,.int 1 v]},toks:=tk}:=I.kept λb o e=>gc _ e
 refine⟨(s.heap.push {cls:=.type "range",data:=.fields #[.int lo t,.int hi u,.int 1 v]}).objs.size,[(s.heap.push {cls:=.type "range",data:=.fields #[.int lo t,.int hi u,.int 1 v]}).objs.size],_,_,H,rfl,
  I1.kept (t':=tk) λb o e=>gc _ e,LS _ lo (hi-lo).toNat,?_,λb d=>?_,q⟩
 ·have c:(((hi-lo).toNat:Nat):Int)=Builtin.Range.rangeSize lo hi 1:=by rw[rangeSize_one];split<;>lia
  have a:=nc (s.heap.push {cls:=.type "range",data:=.fields #[.int lo t,.int hi u,.int 1 v]}) (o:={cls:=.type "range_iterator",data:=.fields #[rawInt lo,rawInt (Builtin.Range.rangeSize lo hi 1),rawInt 1]}) rfl;rw[<-c]at a⊢
  simpa using a
 ·obtain rfl:=mn.mp d;exact I1.fpOk (fy _) (I1.hok.fresh (fy _))
def GD(e:zO)(ta:TA):TI:=λZ H R=>ta Z H λa b=>∃j:Int,a=[.int j]/\-(2^62)<=j/\j<2^62/\R (ItO e (Itr 0 j.toNat)) b
theorem EF{e:zO}{a:yC}(f:Gl X "range")(i:X.mg "range"=none)(k:PA X [a] ta)(hs:starEach [a] X.env=[(false,eval a X.env)]:=by rfl):PIP (HdA e) X tg (.Call (.Name "range" p) [a] [] pos) (GD e ta):=by
 intro b s Z H R I h;refine Call_ (tf I f i boot_range (PyProof.Rows.callWith_type1 (thn (k pos b s Z H _ I h) ?_) hs rfl));refine λn u d=>ei d λo v I1 m c=>?_;clear d;refine nw c ?_;clear c;rintro j g c ⟨l,q⟩;subst g
 cases m with
 |cons r rr=>
  cases rr
  obtain⟨t,rfl⟩:=r;exact call_range_1 (LY I1 (by lia) (by lia) c l (by simpa using q))
theorem Mx{e:zO}(Pv:Nat->St->Hp->Prop)(c:Pv 0 Z H)(d:∀i Z H,Pv i Z H->HdO e H)
  (hs:∀i Z H,i<n->Pv i Z H->g (.int (lo+i)) Z H λZ2 H2=>tb {D with nx:=Pv (i+1),ct:=Pv (i+1),bk:=D.nx} Z2 H2) (f:∀Z H,Pv n Z H->D.nx Z H):
  ∃W:Nat->Nat->St->Hp->Prop,(∃m,W 0 m Z H)/\∀i m Z H,W i m Z H->
   ((ItO e (Itr lo n)).stop i H/\D.nx Z H)\/((ItO e (Itr lo n)).go i H/\∃N:St->Hp->Prop,(∀Z' H',N Z' H'->∃b,b<m/\W (i+1) b Z' H')/\∀x H',(ItO e (Itr lo n)).yld i H x H'->g x Z H' λZ2 H2=>tb {D with nx:=N,ct:=N,bk:=D.nx} Z2 H2):=
 AU (n:=n) Pv c (λi Z H a _=>a) (λZ H p=>⟨fy _,d _ Z H p⟩) (λi Z H x H' a p y=>by
  obtain⟨z,y⟩:=y;subst z y
  exact hs i Z _ a p) f
def Gw(e:zO)(K:Frag)(n:Nat)(t:TGs):TG:=λv Z H Q=>∃a b,v=.ref a/\SqT K H a b/\b.length=n/\HdO e H/\t b Z H Q
theorem yy{e:zO}{k:Nat}{t:TGs}(i:HdA e X.A)(h:PGs X es t)
  (m:(assignEach es X.env).length=n:=by rfl) (f:(assignEach es X.env).findIdx? (·.1)=none:=by rfl):PG X (.Tuple es k pos) (Gw e X.K n t):=by
 intro c s Z H v u Q I r d;refine lS d ?_;clear d;rintro a p w l j ⟨y,d⟩;subst w
 cases e with
 |some ea=>exact DI i h m f c s Z H _ _ Q I r (mJ a p rfl l j (y ea rfl) d)
 |none=>
  cases r
  obtain⟨B,g,q,C⟩:=I.tuple l;refine assign_Tuple_tuple i q (by simp[m,<-j,g.length]) f λx z=>?_;have I1:Inv X c Z H {s with heap:=x}:=I.kept (t':=s.toks) λb o e=>z b o (mG (lI e)) e
  exact h c _ Z H p _ Q I1 (by simpa using g) d
theorem Ko{ok:zZ->Prop}{wi:TI}(f:ok X.A)(j:rX X scope cl)(l:sV X N' scope ix)(hi:PIP ok X tg iter wi)
  (e:∀C c H₀ fp,PG (blk X N' scope cl C c H₀ fp) tg g) (r:∀C c H₀ fp,PE (blk X N' scope cl C c H₀ fp) elt te) (hs:∀x,foldedSetIterable iter X.env x=pure x:=by intro _;rfl):
  PE X (.ListComp elt [⟨tg,iter,[],0⟩] scope pos) (xX ix wi g te):=
 EA (tc:=λ_ H Q=>Q true H) f j l hi e (λ_ _ _ _ _ _ _ _ _ I h=>wpAny_tests_nil (cb _ I h)) r _ (λ_ _ _ _ R k n=>by
  obtain⟨W,q,a⟩:=R k n;refine cb W q λi m o w=>(a i m o w).imp id λ⟨d,N,p,b⟩=>(nE d N (λ_=>False) p (λ_ z=>z.elim) ?_)
  simpa using b) hs
structure A6q(e:zO)(P:yB)(w:yD)(K:Frag)(mg:zE)(base:yA)(CX:CXT)(k:Nat)(f:zW)(fd:zS)(ps:zC)(sp:Sp):Prop where
 len:∀vs H Q E,sp vs H Q E->vs.length=ps.length
 run:∀(A:zZ)(outer:List Env)(s:zY)(H:Hp)(args:Args)(us:zH)(vs:zM)(Q:VK)(E:XK),A6p k A->HdA e A->D1l P w K mg base A outer s H->BindsTo s fd args (ps.zip us)->A2m vs us->sp vs H Q E->
  codeAny (model P w) A (.call (.ref f) args) (CR CX outer P w H s Q E) s
theorem Fun.okO{k:Nat}(F:Fun K x qual st f fd)(S:ic N ps (fC st))
  (g:∀(a:zX)(A:zZ)(outer:List Env)(s:zY)(H:Hp)(vs:zM)(Q:VK)(E:XK),A6p k (A.deeper (envOfC qual (fC st) s.heap.objs.size f a))->HdA e' (A.deeper (envOfC qual (fC st) s.heap.objs.size f a))->sp vs H Q E->
   ∃t,PSs (cxH nj P w K mg base N qual (fC st) f a A outer s H E).nox (rR st) t/\t {nx:=λ_ H'=>Q .non H',rt:=Q} (sf N vs) H) (j:∀vs H Q E,sp vs H Q E->vs.length=ps.length:=by walk_at"ln"):A6q e' P w K mg base nj (k+1) f fd ps sp:=by
 refine pZ F.ex ?_;rintro oc od kV Z pm an a ct a0 ⟨rfl,M,z⟩;refine⟨j,λA outer s H C X vs Q E B R m hb r i=>?_⟩;have c:∀b o,base.get? b=some o->s.heap.get? b=some o:=λb o e=>(m.bs b o e).1;have l:=m.mod.kin.keeps c;have D:=m.mod.nolimit.keeps c;have hl:vs.length=ps.length:=j _ _ _ _ i
 have d:∀y∈ps.zip X,(fC st).names.lookup y.1=some .local\/((fC st).names.lookup y.1=some .cell/\((cellsFrom (s.heap.objs.size+1) (fC st).names []).lookup y.1).isSome=true):=by rintro⟨n,v⟩ G;exact(S.par n (List.of_mem_zip G).1).imp id λq=>⟨q,PySem.W.cellsFrom_some _ _ _ (.inl q)⟩
 refine codeAny_call_function (A6p.depth B) (l _ _ M) rfl S.co S.gen rfl
  (PySem.W.codeRec_of l z) (hb _ _ _ _ (wpAny_newFunctionEnv_cells S.kind d λY L s1 x=>?_))
 cases L
 refine⟨D.keeps x.toInCall.keep,codeAny_func ?_⟩;obtain⟨t,p,hq⟩:=g a A outer s H vs Q E (B.deeper _) R i;have p:=PSs.nox p;have I:=Nk (CX:=nj) (E:=E) S m hl r x;refine oj (p [] s1 (sf N vs) H _ I hq) (λT U h=>?_) λe U h=>h
 cases T with
 |ret u=>refine mF h ?_;clear h;rintro v Z' H' ⟨J,O,q⟩;exact sK v H' J.os J.bare J.base J.hok O q
 |next=>obtain⟨Z',H',J,q⟩:=h;exact sK .non H' J.os J.bare J.base J.hok rfl q
 |brk=>obtain⟨_,_,_,q⟩:=h;exact False.elim q
 |cont=>obtain⟨_,_,_,q⟩:=h;exact False.elim q
section
variable{k:Nat}{E:XK}{t:TA}
theorem A7(F:A6q e' X.prog X.w X.K X.mg X.base CX k f fd ps sp)(o:A6p k X.A)(B:HdA e' X.A)(z:Gl X x)(n:X.mg x=some (.ref f))(G:keepIn X.K (.ref f)=true)(M:A9f X.K fd ps ds)(m:A2m dvs ds)(v:sZ CX X E)
  (J:PA X (e::es) t) (g:(x==("__debug__":Str))=false:=by decide) (y:starEach (e::es) X.env=(false,eval e X.env)::starEach es X.env:=by rfl) (d:(backTo pos (starEach es X.env)).any (·.1)=false:=by rfl):
  PE X (.Call (.Name x p) (e::es) [] pos) (wQ sp dvs E t):=by
 intro a s Z H Q I h;refine wpAny_Call_Name_kw (ub I z n ?_ g);refine PySem.W.callWith_K (h₀:=X.base) I.ok.mod.kin G (thn (J pos a s Z H _ I h) λb c ⟨L,j,I1,r,q⟩=>⟨I1.kIn,?_⟩) y d;have l:=r.append m;have N:(b++ds).length=ps.length:=by rw[<-l.length];exact F.len _ _ _ _ q
 refine wpAny_call (codeAny_mono (F.run X.A X.stack c j ⟨b,[]⟩ (b++ds) (L++dvs) Q E o B I1.env0 (M c b I1.kIn N) l q) λr D i=>?_);rcases r with e|C
 ·exact v a Z j c e D I1 i
 ·cases C with|ret u=>exact I1.after i|_=>exact False.elim i
end
theorem A6q.ok{k:Nat}(F:A6q none P w K mg base CX k f fd ps sp):A3i P w K mg base CX k f fd ps sp :=⟨F.len,λA a s H b e d Q E c=>F.run A a s H b e d Q E c.anyH c.hd⟩
theorem LJ{e:zO}{D:zW}(Pv:Nat->List V->Hp->Prop)(b:Pv 0 [] (upd H D (.lst [])))(c:∀i ys H,Pv i ys H->HdO e H)
  (hs:∀i ys H,i<n->Pv i ys H->g (.int ((0:Int)+i)) Z₀ H λZ4 H4=>A2g Z₀ Z4/\te Z4 H4 λy H5=>H5 D=some (.lst ys)/\ys.length<sizeLine/\Pv (i+1) (ys++[y]) (upd H5 D (.lst (ys++[y])))) (d:∀ys H,Pv n ys H->QD H):
  ∃W:Nat->Nat->Hp->Prop,(∃m,W 0 m (upd H D (.lst [])))/\∀i m H2,W i m H2->
   ((ItO e (Itr 0 n)).stop i H2/\QD H2)\/((ItO e (Itr 0 n)).go i H2/\∃N:VK,(∀y H5,N y H5->∃xs,H5 D=some (.lst xs)/\xs.length<sizeLine/\∃a,a<m/\W (i+1) a (upd H5 D (.lst (xs++[y]))))/\
    ∀x H3,(ItO e (Itr 0 n)).yld i H2 x H3->g x Z₀ H3 λZ4 H4=>A2g Z₀ Z4/\te Z4 H4 N):=by
 refine cb (λi m H=>m=n-i/\i<=n/\∃ys,Pv i ys H) (sM n (by simp) (pG _) [] b) ?_;rintro i m H2 ⟨rfl,h,ys,p⟩;by_cases hlt:i<n
 ·refine .inr (kB hlt (λy H5=>H5 D=some (.lst ys)/\ys.length<sizeLine/\Pv (i+1) (ys++[y]) (upd H5 D (.lst (ys++[y])))) (λy H5 q=>(wB ys q.1 q.2.1 (n-(i+1)) (by lia) rfl hlt _ q.2.2)) λx H3 z=>?_);obtain⟨e,f⟩:=z;subst e f;exact hs i ys _ hlt p
 ·have e:i=n:=by lia
  subst e;exact .inl ⟨⟨fy _,c _ _ _ p⟩,d ys H2 p⟩
def Itb(a:zW)(o:Obj)(kvs:zJ):It:=⟨(Itd a o kvs).go,(Itd a o kvs).yld,λ_ _=>False⟩
theorem Mv{ok:zZ->Prop}(it a:zW)(o:Obj)(kvs:zJ)(es:Array DictEntry)(y:Nat)(N:o.data=.dict es y):
  A6j ok P w K tg (Itb a o kvs) [it] it (λi h=>h.IsKeyIter it a i kvs.length y) where
 mem:=by simp
 obj:=λi h f b n=>by
  have e:b=it:=by simpa using n
  subst e;obtain⟨j,e,_,d⟩:=f;exact cb j e λv z=>by rw[d]at z;cases z
 keep:=λi h r f k=>f.at λj e=>k it (by simp) j e
 item:=by
  intro X U D C W i m s Z H E I x f t;subst U D C;obtain⟨S,J⟩:=t;refine mM (x it (by simp)) ?_;rintro B O Y G ⟨F,T⟩;obtain⟨_,vs,g,R⟩:=xf I.hok S N;have A:=g.length;obtain⟨⟨k,v⟩,hkv⟩:∃p,kvs[i]?=some p:=⟨kvs[i],by simp[J]⟩;obtain⟨u,L,_⟩:=g.at hkv;rw[A]at f;refine wpAny_pyNext_dict_item f R L λq r Q l M=>?_;have I1:Inv X m Z H {s with heap:=r,toks:=s.toks}:=I.turned (t':=s.toks) (λb j n e=>(M.2 b n).trans e) B O G F T
  obtain⟨j,e,c,d⟩:=id l;exact cb q rfl (uP (s:={s with heap:=r}) e c d (by decide) (mJ (kV k) H I1 (Cp Q) (qP rfl k v hkv rfl) (by rw[A];exact l) λb n=>(x b n).1))
 done:=λ_ _ _ _ _ _ _ _ _ _ _ _ _ _ t=>t.elim
 self:=λ_ _ _ _ _ f h=>wpAny_pyIter_keyiter f h
def Hz(tl:TE):TI:=λZ H R=>tl Z H λx c=>∃a b,x=.ref a/\c a=some (.dK b)/\∀o,R (Itb a o b) (upd c a (.frz o (.dK b)))
theorem Kn{ok:zZ->Prop}(D:PE X l tl):PIP ok X tg l (Hz tl):=by
 intro c s Z H R I h;refine thn (D c s Z H _ I h) ?_;rintro u d j;refine ei j ?_;clear j;rintro x t I1 z ⟨a,g,y,i,q⟩;subst y;cases z;refine rE (wN I1.hok i) ?_;rintro F A p f o m ep n ⟨v,k,r⟩;have B:d.heap.DictAt (oD X.prog X.w) a p ep:=(lQ o m n v k r);refine wpAny_pyIter_dict A B ?_;have I2:Inv X c Z t {d with heap:=d.heap.push {cls:=.type "dict_keyiterator",data:=.fields #[.ref a,.int 0 0,.int p.length 0,.int ep 0]},toks:=d.toks}:=I1.kept λb G e=>gc _ e
 have I3:=I2.frozen i (gc _ n);refine nL _ [d.heap.objs.size] _ _ _ rfl I3 (Mv _ a o g m ep k) ?_ (λb C=>?_) (q o)
 ·rw[f.length];exact fx _ (nc _ rfl) rfl rfl
 ·have e:b=d.heap.objs.size:=by simpa using C
  subst e;refine I1.fpOk (fy _) ?_;rw[eh (pP (I1.hok.lt i))];exact I1.hok.fresh (fy _)
theorem Lu{a:zW}(Pv:Nat->St->Hp->Prop)(f:Pv 0 Z H)(b:∀i Z H,Pv i Z H->H a=some (.frz o (.dK kvs))/\i<kvs.length)
  (hs:∀i k v Z H,kvs[i]?=some (k,v)->Pv i Z H->g (kV k) Z H λZ2 H2=>tb {D with nx:=Pv (i+1),ct:=Pv (i+1),bk:=D.nx} Z2 H2):
  ∃W:Nat->Nat->St->Hp->Prop,(∃m,W 0 m Z H)/\∀i m Z H,W i m Z H->
   ((Itb a o kvs).stop i H/\D.nx Z H)\/((Itb a o kvs).go i H/\∃N:St->Hp->Prop,(∀Z' H',N Z' H'->∃c,c<m/\W (i+1) c Z' H')/\∀x H',(Itb a o kvs).yld i H x H'->g x Z H' λZ2 H2=>tb {D with nx:=N,ct:=N,bk:=D.nx} Z2 H2):=by
 refine cb (λi m Z H=>m=kvs.length-i/\Pv i Z H) (cb kvs.length (by simp) f) ?_;rintro i m Z H ⟨rfl,p⟩;have d:=(b i Z H p).2;refine .inr (kB (b i Z H p) (Pv (i+1)) (λZ' H' h=>(fx (kvs.length-(i+1)) (by lia) rfl h)) λx H' y=>?_);refine qb y ?_;clear y;rintro e k v j rfl;subst e;exact hs i k v Z _ j p
end L2
namespace My
open PySem L2
variable{n i k2:Nat}{z seed:Int}{x y a own:Str}{ix:zL}{e:List Int×List Int}{c d ms szs:zI}{ls:List Lt}{cs:List zI}{X:Cx}{f p C D b ab:zW}{fd:zS}{ps ys os ns zs nm more:zC}{sp sp':Sp}{st tp:Bool}{es tb es0:zB}{t:TA}{pos:Pos}{CX:CXT}{E:XK}{H H' H2 G:Hp}{K:Frag}{mg:zE}{v:V}{xs vs:zM}{A:Adr}{S:zV}{u:Tm}{Z:St}{T:String}{r kvs tk:zJ}{gg:List Gd}{L:zR}{le:Lt}{q:Pq}{lds:List (List Int×List Int)}{Ms:zQ}
inductive Op3|plus|minus|times
inductive Tm|num (z:Int)|place (x:Str)|read (a:Str) (ix:zL)|sum (x:Str) (b:Tm)|pair (k:Op3) (l r:Tm)|guard (x:Str) (lo hi:Int) (l r:Tm)
def pf(e:Str×Int):PyData:=.tuple [.str e.1,.int e.2]
def oK(ix:zL):PyData:=.list (ix.map pf)
def dep:Tm->Nat|.sum _ b=>dep b+1|.pair _ l r=>max (dep l) (dep r)+1|.guard _ _ _ l r=>max (dep l) (dep r)+1|_=>1
def nod:Tm->Nat|.sum _ b=>nod b+1|.pair _ l r=>nod l+nod r+1|.guard _ _ _ l r=>nod l+nod r+1|_=>1
def Sm(z:Int):Prop:=z.natAbs<=10^32
def qU(x:Str):Prop:=x.length<=20/\PyData.strOk x=true
def uJ:Tm->Prop|.num z=>Sm z|.place x=>qU x|.read a ix=>qU a/\ix.length<=3/\∀e∈ix,qU e.1/\Sm e.2|.sum x b=>qU x/\uJ b|.pair _ l r=>uJ l/\uJ r|.guard x lo hi l r=>qU x/\Sm lo/\Sm hi/\uJ l/\uJ r
theorem vW:∀t:Tm,1<=dep t|.num z=>by simp[dep]|.place x=>by simp[dep]|.read a ix=>by simp[dep]|.sum x b=>by simp[dep]|.pair k l r=>by simp[dep]|.guard x lo hi l r=>by simp[dep]
theorem Dx(h:n<10^33):(Str.ofString (Nat.repr n)).length<=33:=by
 rw[PyProof.Rows.ofString_len]
 simpa[Nat.repr]using PySem.toDigits_len_pow (b:=10) (k:=33) (by decide) (by decide) h
theorem JV(a b:String):Str.ofString (a++b)=Str.ofString a++Str.ofString b:=by rw[Str.ofString_eq_toList,Str.ofString_eq_toList,Str.ofString_eq_toList];apply Str.ext';simp[Str.cps_append,String.toList_append]
theorem Dl(h:Sm z):(toString z:Str).length<=34:=by
 unfold Sm at h
 cases z with
 |ofNat m=>have a:m<10^33:=wF (show m<=10^32 from h) (by decide);exact Nat.le_succ_of_le (Dx a)
 |negSucc m=>
  have a:m+1<10^33:=wF (show m+1<=10^32 from h) (by decide);have e:(toString (Int.negSucc m):Str)=Str.ofString "-"++Str.ofString (Nat.repr (m+1)):=JV "-" (Nat.repr (m+1));rw[e,Str.length_append];have b:=Dx a;have c:(Str.ofString "-").length=1:=by decide+kernel
  lia
theorem C8(h:Sm z):z.natAbs.log2<1920:=by
 by_cases h0:z.natAbs=0
 ·rw[h0];decide
 ·exact(Nat.log2_lt h0).mpr (wF h (oV (show 10^32<2^110 by decide) (Nat.pow_le_pow_right (by decide) (by decide))))
def Axs(A:zC):Tm->Prop|.num _=>True|.place x=>x∈A|.read _ ix=>∀e∈ix,e.1=""\/e.1∈A|.sum x b=>x∈A/\Axs A b|.pair _ l r=>Axs A l/\Axs A r|.guard x _ _ l r=>x∈A/\Axs A l/\Axs A r
abbrev abc:Str:="abcdefghijklmnopqrstuvwxyz"
theorem DL:abc.cps.toList.length=26:=by decide+kernel
theorem Ew:abc.length=26:=by decide+kernel
theorem Ht:∀c∈abc.cps.toList,c<0x110000:=by decide+kernel
theorem tY:PyData.strOk x=true↔∀c∈x.cps.toList,c<0x110000:=by unfold PyData.strOk;rw[<-Array.all_toList,List.all_eq_true];simp
theorem KH:PyData.depth (oK ix)<=2:=by
 have h:∀l:zL,PyData.depthAll (l.map pf)<=1:=by
  intro l
  induction l with
  |nil=>simp[PyData.depthAll]
  |cons e r ih=>simp[pf,PyData.depthAll,PyData.depth]at *;lia
 have:=h ix;simp only [oK,PyData.depth]
 lia
theorem CN:cnt (oK ix)<=1+3*ix.length:=by
 have h:∀l:zL,qf (l.map pf)<=3*l.length:=by
  intro l
  induction l with
  |nil=>simp[qf]
  |cons e r ih=>simp only [pf,qf,cnt,mi,nG]at *;lia
 have:=h ix;simp only [oK,cnt]
 lia
section
variable{G:Hp}{v:V}
theorem Hr{e:Str×Int}(h:Rep G v (pf e)):∃p,v=.ref p/\G p=some (.tup [.str e.1,.int e.2]):=by refine ei (Jt (show Rep G v (.tuple [.str e.1,.int e.2]) from h)) ?_;rintro p i rfl q r;refine ei (EJ r) ?_;rintro a f rfl d r;refine ei (EJ r) ?_;rintro b g rfl c r;cases Ke r;cases IN d;cases IP c;exact cb p rfl q
end
def oP(f:zR)(ix:zL):zI:=ix.map λ(e:Str×Int)=>if e.1=("":Str)then e.2 else f e.1+e.2
def qd(f:zR)(x:Str)(k:Int):zR:=λy=>if y=x then k else f y
def rd(c:zR):Tm->zR->List (Str×List Int)|.num _,_=>[]|.place _,_=>[]|.read a ix,f=>[(a,oP f ix)]|.sum x b,f=>(List.range (c x).toNat).flatMap λ(k:Nat)=>rd c b (qd f x (k:Int))|.pair _ l r,f=>rd c l f++rd c r f|.guard x lo hi l r,f=>if lo<=f x/\f x<hi then rd c l f else rd c r f
def ai(kvs:zJ)(x:Str):Int:=match lW kvs (Sum.inr x)with|some (.int i)=>i|_=>0
theorem yo(kvs:zJ)(x:Str)(k:Int):ai (my kvs (Sum.inr x) (.int k))=qd (ai kvs) x k:=by
 funext y;unfold ai qd;rw[yK];by_cases h:y=x
 ·subst h;rw[eH rfl,eH rfl]
 ·rw[fa (λz=>h (by injection z)),fa h]
theorem Bv{H:Hp}:∀ns:zI,A3m H (ns.map V.int) (ns.map PyData.int)| []=>.nil|n::r=>.cons (.int n) (Bv r)
noncomputable def pq(cs:List zI)(n:Int):List zI:=cs.flatMap λc=>(List.range n.toNat).map λ(k:Nat)=>c++[(k:Int)]
def nB(ls:zI):List zI:=ls.foldl pq [[]]
def ph(ls:zI):Int:=ls.foldl (·* ·) 1
theorem yW(ls:zI)(n:Int):nB (ls++[n])=pq (nB ls) n:=by unfold nB;rw[List.foldl_append];rfl
theorem MX(ls:zI)(n:Int):ph (ls++[n])=ph ls*n:=by unfold ph;rw[List.foldl_append];rfl
theorem BI(cs:List zI)(n:Int):(pq cs n).length=cs.length*n.toNat:=by
 induction cs with
 |nil=>simp[pq]
 |cons c r ih=>
  have:pq (c::r) n=((List.range n.toNat).map λ(k:Nat)=>c++[(k:Int)])++pq r n:=by simp[pq]
  rw[this,mx,ih,dm,List.length_range,nG,Nat.succ_mul];lia
def Within(c ls:zI):Prop:=c.length=ls.length/\∀(k:Nat)(x n:Int),c[k]?=some x->ls[k]?=some n->0<=x/\x<n
theorem Within.snoc{ls:zI}{n:Int}{k:Nat}(h:Within c ls)(f:(k:Int)<n):Within (c++[(k:Int)]) (ls++[n]):=by
 obtain⟨d,e⟩:=h;refine⟨by simp[d],λi x m a b=>?_⟩;by_cases hi:i<c.length
 ·rw[rF hi]at a;rw[rF (by lia)]at b;exact e i x m a b
 ·have:i=c.length:=by
   have:=(ml.mp a).1;simp at this;lia
  subst this;rw[rf (fy _)]at a;rw[d,rf (fy _)]at b;simp at a b
  lia
theorem K4{n:Int}(h:c∈pq cs n):∃b∈cs,∃k:Nat,k<n.toNat/\c=b++[(k:Int)]:=by unfold pq at h;obtain⟨b,f,d⟩:=List.mem_flatMap.mp h;obtain⟨k,a,e⟩:=pd.mp d;exact mE b f k (List.mem_range.mp a) e.symm
theorem tD:∀(ls:zI),∀c∈nB ls,Within c ls:=by
 intro ls
 have f:∀(m:Nat)(ls:zI),ls.length=m->∀c∈nB ls,Within c ls:=by
  intro m
  induction m with
  |zero=>
   intro ls a c d;have:ls=[]:=xE.mp a;subst this;have:c=[]:=by simpa[nB]using d
   subst this;exact⟨rfl,λk x n h _=>by simp at h⟩
  |succ m ih=>intro ls a c d;obtain⟨init,n,rfl⟩:∃init n,ls=init++[n]:=⟨ls.dropLast,ls.getLast (by intro e;simp[e]at a),(List.dropLast_concat_getLast _).symm⟩;rw[yW]at d;obtain⟨b,g,k,i,rfl⟩:=K4 d;exact(ih init (by simp at a;lia) b g).snoc (by lia)
 exact f _ ls rfl
theorem wv(ls:zI)(h:∀n∈ls,1<=n):((nB ls).length:Int)=ph ls/\1<=ph ls:=by
 have b:∀(m:Nat)(ls:zI),ls.length=m->(∀n∈ls,1<=n)->((nB ls).length:Int)=ph ls/\1<=ph ls:=by
  intro m
  induction m with
  |zero=>intro ls a _;have:ls=[]:=xE.mp a;subst this;simp[nB,ph]
  |succ m ih=>
   intro ls a c;obtain⟨init,n,rfl⟩:∃init n,ls=init++[n]:=⟨ls.dropLast,ls.getLast (by intro e;simp[e]at a),(List.dropLast_concat_getLast _).symm⟩;obtain⟨d,g⟩:=ih init (by simp at a;lia) λn i=>c n (by simp[i]);have f:1<=n:=c n (by simp);rw[yW,MX,BI];have e:((n.toNat:Nat):Int)=n:=by lia
   refine⟨by rw[Int.natCast_mul,d,e],?_⟩;have:=Int.mul_le_mul g f (by lia) (by lia)
   simpa using this
 exact b _ ls rfl h
structure wP(ls:zI):Prop where
 pos:∀n∈ls,1<=n/\n<=60
 few:ls.length<=8
 most:ph ls<=4000
theorem FX(ls:zI)(h:∀n∈ls,1<=n)(i:Nat):1<=ph (ls.take i)/\ph (ls.take i)<=ph ls:=by
 have a:=(wv (ls.take i) λn c=>h n (tE c)).2;refine⟨a,?_⟩;have b:=(wv (ls.drop i) λn c=>h n (List.mem_of_mem_drop c)).2
 have d:∀(ys:zI)(x:Int),ys.foldl (·* ·) x=x*ph ys:=by
  intro ys
  induction ys with
  |nil=>intro x;simp[ph]
  |cons y r ih=>intro x;simp only [ph,List.foldl_cons]at ih⊢;rw[ih,ih (1*y),Int.one_mul,Int.mul_assoc]
 have e:ph ls=ph (ls.take i)*ph (ls.drop i):=by have:=d (ls.drop i) (ph (ls.take i));rw[<-this];unfold ph;rw[<-List.foldl_append,wE]
 rw[e];have:=Int.mul_le_mul_of_nonneg_left b (show(0:Int)<=ph (ls.take i)by lia)
 simpa using this
theorem Gq{ls:zI}{n:Int}(h:ls[i]?=some n):nB (ls.take (i+1))=pq (nB (ls.take i)) n:=by rw[mQ,h];exact yW _ _
def top(i:Nat):Stmt:=PySem.Challenge.pw_arrayloom_k17_let_by.main.body.getD i (.Pass ⟨0,0,0,0⟩)
abbrev Go:Stmt:=rP (top 6) 0
abbrev Gg:Stmt:=rP (top 7) 0
abbrev F7:Stmt:=rP (top 13) 0
abbrev FY:Stmt:=rP (top 14) 0
abbrev FN:Stmt:=rP (top 15) 0
abbrev Gk:Stmt:=rP (top 15) 1
abbrev FS:Stmt:=rP (top 17) 0
abbrev Fv:Stmt:=rP (top 21) 0
abbrev FV:Stmt:=rP (top 23) 0
abbrev Gm:Stmt:=rP (top 23) 1
abbrev FH:Stmt:=rP (top 25) 0
abbrev Fz:Stmt:=rP (top 34) 0
abbrev Gi:Stmt:=rP (top 35) 0
structure TyC(K:Frag)(C:zW):Prop where
 ha:findIn K (.ref C) "__class__"=some (some (.builtin "object.__class__"))
 hn:specialIn K (.builtin "object.__class__") "__get__"=some (some (.builtin "getset_descriptor.__get__"))
 htk:takesIn K (.builtin "object.__class__")=some true
 hm:mroIn K C (.type "object")=some true
abbrev xP:zC:=["self","name","array","spot","cell"]
abbrev xS:zC:=["self","at"]
abbrev BU:zC:=["axis","shift","at"]
abbrev B9:zC:=["self","axis","low","high","inner","outer"]
abbrev BX:zC:=["self","term","sums","guards"]
abbrev B4:zC:=["self","name","axes","term"]
abbrev Ch:zC:=["self","wheel","axes","tables","lets","outs"]
abbrev oE:zC:=["program"]
abbrev vI:zC:=["axes","lengths"]
abbrev zr:zC:=["part","let","arrays","known"]
abbrev Ap:zC:=["axis","bound","known"]
abbrev An:zC:=["let","part","lengths","axes"]
abbrev Ah:zC:=["let","read","leads","lengths"]
abbrev wM:zC:=["_law_rest","_law_about","_law_bound","_law_top","_law_still","_law_deep"]
abbrev Aq:zC:=["_law_tree","_law_lengths"]
abbrev wL:zC:=["_law_axes_here","_law_lengths"]
abbrev Af:zC:=["_law_at","_law_axis","_law_number"]
abbrev Ag:zC:=["_law_tree","_law_at"]
abbrev Am:zC:=["_law_tree","_law_at","_law_lengths"]
abbrev Aj:zC:=["_law_tree","_law_at","_law_left","_law_goal","_law_lengths"]
abbrev Ad:zC:=["_law_cell_here","_law_axes_here","_law_lengths"]
abbrev Ao:zC:=["_law_name_here","_law_about"]
abbrev Ar:zC:=["_law_e","_law_about","_law_early"]
abbrev Cr:zC:=["_law_cells_here","_law_way"]
set_option genInjectivity false in
set_option genSizeOf false in
structure Adr where
 aW:zW
 c7:zW
 cc:zW
 al:zW
 a5:zW
 a8:zW
 kY:zW
 aE:zW
 ac:zW
 aa:zW
 bu:zW
 bt:zW
 aY:zW
 aX:zW
 aJ:zW
 a7:zW
 aC:zW
 aV:zW
 a9:zW
 b9:zW
 c9:zW
 fj:zS
 dz:zW
 i9:zS
 d7:zW
 cP:zS
 dq:zW
 i3:zS
 eE:zW
 iN:zS
 fQ:zW
 jl:zS
 cV:zW
 gH:zS
 jB:zW
 jH:zS
 bQ:zW
 j6:zS
 gQ:zW
 ju:zS
 dP:zW
 iD:zS
 cD:zW
 fW:zS
 fw:zW
 jb:zS
 jE:zW
 jt:zS
 bA:zW
 bw:zS
 cL:zW
 cX:zS
 h_:zW
 hV:zS
 jy:zW
 jC:zS
 iL:zW
 iy:zS
 gT:zW
 jr:zS
 d6:zW
 gj:zS
 iI:zW
 iV:zS
 i4:zW
 gY:zS
 ia:zW
 i7:zS
 iX:zW
 iK:zS
 ji:zW
 jm:zS
 fX:zW
 fZ:zS
 gW:zW
 i5:zS
 eJ:zW
 e_:zS
 bP:zW
 bT:zS
 j_:zW
 k6:zS
 fV:zW
 f_:zS
 fN:zW
 fL:zS
 fD:zW
 fv:zS
 eu:zW
 eC:zS
 fu:zW
 fS:zS
 dR:zW
 eD:zS
 gL:zW
 gq:zS
 fF:zW
 fG:zS
 cC:zW
 cG:zS
 jU:zW
 jY:zS
 iR:zW
 iU:zS
 ku:zW
 kJ:zS
 fT:zW
 fO:zS
 dS:zW
 dU:zS
 eQ:zW
 eY:zS
 jz:zW
 jD:zS
 iC:zW
 iM:zS
 fP:zW
 fJ:zS
 jh:zW
 i_:zS
 eG:zW
 eW:zS
 kf:zW
 kF:zS
 kM:zW
 kA:zS
 kH:zW
 kz:zS
 kg:zW
 kK:zS
 de:zW
 d9:zS
 jk:zW
 iZ:zS
 jc:zW
 ja:zS
 kx:zW
 kc:zS
 im:zW
 iu:zS
 jL:zW
 jI:zS
 jJ:zW
 jQ:zS
 ip:zW
 ir:zS
 ii:zW
 ij:zS
 iq:zW
 ie:zS
 j7:zW
 je:zS
 jn:zW
 j5:zS
 gE:zW
 gv:zS
 fH:zW
 fm:zS
 jZ:zW
 jT:zS
 jA:zW
 jx:zS
 jX:zW
 jW:zS
 lB:zW
 kU:zS
abbrev Pd(f:zW):Option zN:=some (some (.ref f))
abbrev Pf:Option zN:=some (some (.builtin "object.__class__"))
abbrev Pe:Option zN:=some none
abbrev mw(K:Frag)(a b:zW)(c:Bool):Prop:=kitOne K (.ref a) (.ref b)=some c
structure FQ(K:Frag)(mg:zE)(x:Str)(st:Stmt)(f:zW)(fd:zS)(ps:zC):Prop where
 F:Fun K x x st f fd
 m:mg x=some (.ref f)
 b:A9f K fd ps []
structure FM(K:Frag)(C:zW)(x q:Str)(st:Stmt)(f:zW)(fd:zS)(ps:zC):Prop where
 F:Fun K x q st f fd
 b:A9f K fd ps []
structure Txt(K:Frag)(mg:zE)(t:Adr):Prop where
 cZ:mg "LoomError"=some (.ref t.aW)
 c8:mg "NoName"=some (.ref t.c7)
 a_:mg "NoShape"=some (.ref t.cc)
 d8:mg "TooMuch"=some (.ref t.al)
 cS:mg "BeyondRim"=some (.ref t.a5)
 j4:mg "NotYet"=some (.ref t.a8)
 lH:mg "Term"=some (.ref t.kY)
 kh:mg "Number"=some (.ref t.aE)
 jP:mg "Place"=some (.ref t.ac)
 jw:mg "Read"=some (.ref t.aa)
 lj:mg "Pair"=some (.ref t.bu)
 kX:mg "Plus"=some (.ref t.bt)
 kP:mg "Minus"=some (.ref t.aY)
 kO:mg "Times"=some (.ref t.aX)
 jM:mg "Sum"=some (.ref t.aJ)
 iQ:mg "Guard"=some (.ref t.a7)
 f9:mg "Part"=some (.ref t.aC)
 lF:mg "Let"=some (.ref t.aV)
 jR:mg "Program"=some (.ref t.a9)
 bf:FM K t.a5 "__init__" "BeyondRim.__init__" Go t.c9 t.fj xP
 c6:FM K t.a8 "__init__" "NotYet.__init__" Gg t.dz t.i9 xP
 au:FQ K mg "copied" (top 9) t.d7 t.cP ["value"]
 bU:FM K t.aE "__init__" "Number.__init__" F7 t.dq t.i3 ["self","number"]
 cA:FM K t.ac "__init__" "Place.__init__" FY t.eE t.iN ["self","axis"]
 cI:FM K t.aa "__init__" "Read.__init__" FN t.fQ t.jl ["self","array","indexes"]
 bI:FM K t.aa "cell_at" "Read.cell_at" Gk t.cV t.gH xS
 dI:FQ K mg "index_at" (top 16) t.jB t.jH BU
 bo:FM K t.bu "__init__" "Pair.__init__" FS t.bQ t.j6 ["self","left","right"]
 dG:FM K t.aJ "__init__" "Sum.__init__" Fv t.gQ t.ju ["self","axis","body"]
 cf:FM K t.a7 "__init__" "Guard.__init__" FV t.dP t.iD B9
 bq:FM K t.a7 "lets_in" "Guard.lets_in" Gm t.cD t.fW xS
 aP:FM K t.aC "__init__" "Part.__init__" FH t.fw t.jb BX
 bH:FQ K mg "parts_of" (top 26) t.jE t.jt ["term"]
 cy:FQ K mg "parts_from" (top 27) t.bA t.bw ["part"]
 aS:FQ K mg "parts_right_within" (top 28) t.cL t.cX ["part"]
 bV:FQ K mg "sums_at_top" (top 29) t.h_ t.hV ["term"]
 dD:FQ K mg "cells_of" (top 31) t.jy t.jC ["lengths"]
 cg:FQ K mg "lengthened" (top 32) t.iL t.iy ["cells","length"]
 dN:FM K t.aV "__init__" "Let.__init__" Fz t.gT t.jr B4
 bL:FM K t.a9 "__init__" "Program.__init__" Gi t.d6 t.gj Ch
 b6:FQ K mg "axis_names" (top 36) t.iI t.iV oE
 bX:FQ K mg "table_names" (top 37) t.i4 t.gY oE
 bj:FQ K mg "array_names" (top 38) t.ia t.i7 oE
 bD:FQ K mg "lengths_of" (top 39) t.iX t.iK oE
 bS:FQ K mg "arrays_of" (top 40) t.ji t.jm oE
 aQ:FQ K mg "lengths_along" (top 41) t.fX t.fZ vI
 bW:FQ K mg "cells_along" (top 42) t.gW t.i5 vI
 eS:FQ K mg "look_names" (top 47) t.eJ t.e_ oE
 bO:FQ K mg "look_told_names" (top 48) t.bP t.bT ["names"]
 fb:FQ K mg "is_name" (top 49) t.j_ t.k6 ["text"]
 bv:FQ K mg "is_of_letters" (top 50) t.fV t.f_ ["text"]
 fM:FQ K mg "look_outs" (top 51) t.fN t.fL ["outs","names"]
 fB:FQ K mg "look_axes" (top 52) t.fD t.fv ["axes","known"]
 dW:FQ K mg "look_terms" (top 53) t.eu t.eC oE
 fo:FQ K mg "look_part" (top 54) t.fu t.fS zr
 cj:FQ K mg "look_bound" (top 55) t.dR t.eD ["axis","bound"]
 gF:FQ K mg "look_sum" (top 56) t.gL t.gq Ap
 fK:FQ K mg "look_read" (top 57) t.fF t.fG ["read","bound","arrays"]
 cE:FQ K mg "look_own_read" (top 58) t.cC t.cG ["part","let"]
 fi:FQ K mg "work_of" (top 59) t.jU t.jY oE
 bB:FQ K mg "cell_count" (top 60) t.iR t.iU vI
 iT:FQ K mg "look" (top 63) t.ku t.kJ oE
 fA:FQ K mg "look_work" (top 64) t.fT t.fO oE
 eA:FQ K mg "look_reads" (top 65) t.dS t.dU oE
 dX:FQ K mg "look_spots" (top 66) t.eQ t.eY An
 dE:FQ K mg "leads_of" (top 67) t.jz t.jD ["let","part","lengths"]
 ci:FQ K mg "is_reached" (top 68) t.iC t.iM ["guards","at"]
 ft:FQ K mg "look_rims" (top 69) t.fP t.fJ Ah
 cO:FQ K mg "is_within" (top 70) t.jh t.i_ ["cell","lengths"]
 eL:FQ K mg "look_ahead" (top 71) t.eG t.eW ["let","read","leads"]
 aN:FQ K mg "_law_cell" (top 73) t.kf t.kF ["_law_rest"]
 gA:FQ K mg "_law_name" (top 74) t.kM t.kA ["_law_k","_law_seed"]
 dQ:FQ K mg "_law_axes" (top 75) t.kH t.kz ["_law_cell_here","_law_names"]
 gx:FQ K mg "_law_read" (top 76) t.kg t.kK ["_law_rest","_law_about","_law_bound","_law_top"]
 be:FQ K mg "_law_grown" (top 77) t.de t.d9 wM
 bG:FQ K mg "_law_made" (top 78) t.jk t.iZ ["_law_tree"]
 bN:FQ K mg "_law_work" (top 79) t.jc t.ja Aq
 eK:FQ K mg "_law_many" (top 80) t.kx t.kc wL
 ik:FQ K mg "_law_cells" (top 81) t.im t.iu wL
 iB:FQ K mg "_law_led" (top 82) t.jL t.jI ["_law_indexes","_law_at"]
 iF:FQ K mg "_law_put" (top 83) t.jJ t.jQ Af
 f7:FQ K mg "_law_inner" (top 84) t.ip t.ir Ag
 ba:FQ K mg "_law_reads" (top 85) t.ii t.ij Am
 bc:FQ K mg "_law_leads" (top 86) t.iq t.ie Aj
 d_:FQ K mg "_law_lies" (top 87) t.j7 t.je Ad
 gI:FQ K mg "_law_good" (top 88) t.jn t.j5 Ao
 dM:FQ K mg "_law_wholes" (top 89) t.gE t.gv ["_law_found"]
 aU:FQ K mg "_law_witness" (top 90) t.fH t.fm Ar
 fk:FQ K mg "_law_holds" (top 91) t.jZ t.jT ["_law_program","_law_about","_law_much"]
 dC:FQ K mg "_law_digits" (top 92) t.jA t.jx ["_law_cell_here","_law_many_here"]
 f8:FQ K mg "_law_share" (top 93) t.jX t.jW Cr
 kC:FQ K mg "law" (top 94) t.lB t.kU ["_law_script"]
 fY:∃u,mg "MOST_LETTERS"=some u/\A2z (.int (8)) u
 iY:∃u,mg "MOST_AXES"=some u/\A2z (.int (3)) u
 eU:∃u,mg "WORDS_OF_TERMS"=some u/\A2z (.ref t.b9) u
 dY:∃(o:Obj)(its:zG)(n:Nat),K.lookup t.b9=some o/\o.cls=.type "tuple"/\o.data=.seq its n/\its.size<=sizeLine/\A2m [(.str "if"),(.str "sum")] its.toList
 eR:∃u,mg "MOST_WORK"=some u/\A2z (.int (4000)) u
 iO:MkX K t.a5 t.c9
 eN:tU K t.a5 "name"
 dJ:tU K t.a5 "array"
 f6:tU K t.a5 "spot"
 eM:tU K t.a5 "cell"
 k7:MkX K t.a8 t.dz
 gB:tU K t.a8 "name"
 gb:tU K t.a8 "array"
 gP:tU K t.a8 "spot"
 ge:tU K t.a8 "cell"
 eX:rL K t.a5 "name"
 dF:rL K t.a5 "array"
 eZ:rL K t.a5 "spot"
 dO:rL K t.a5 "cell"
 gy:rL K t.a8 "name"
 fU:rL K t.a8 "array"
 gM:rL K t.a8 "spot"
 gC:rL K t.a8 "cell"
 iw:mroIn K t.a5 (.type "ValueError")=some true
 jo:mroIn K t.a8 (.type "ValueError")=some true
 bE:PySem.W.excInG K t.c7 none uL "ValueError.__new__"=true
 aR:PySem.W.excInG K t.cc none uL "ValueError.__new__"=true
 jF:PySem.W.excInG K t.al none uL "ValueError.__new__"=true
 jG:PySem.W.XcIn K t.al
 j9:mw K t.al t.a5 false
 jK:mw K t.al t.a8 false
 cJ:mw K t.al t.aW true
 iE:PySem.W.XcIn K t.a5
 jj:mw K t.a5 t.al false
 jq:mw K t.a5 t.a8 false
 cn:mw K t.a5 t.aW true
 jV:PySem.W.XcIn K t.a8
 jN:mw K t.a8 t.al false
 jp:mw K t.a8 t.a5 false
 df:mw K t.a8 t.aW true
 dL:exmOne K (.ref t.al) (.ref t.al)=some true
 cU:exmOne K (.ref t.a5) (.ref t.al)=some false
 cu:exmOne K (.ref t.a5) (.ref t.a5)=some true
 eT:exmOne K (.ref t.a8) (.ref t.al)=some false
 dg:exmOne K (.ref t.a8) (.ref t.a5)=some false
 fg:exmOne K (.ref t.a8) (.ref t.a8)=some true
 aA:Cls K t.a7
 ka:Mk K t.a7 t.dP
 bY:A1j K t.a7 "axis"
 eP:A1j K t.a7 "low"
 dj:A1j K t.a7 "high"
 cQ:A1j K t.a7 "inner"
 cW:A1j K t.a7 "outer"
 fh:xT K t.a7 "lets_in" t.cD
 am:TyC K t.a7
 c_:mw K t.a7 t.a7 true
 gX:mw K t.a7 t.bu false
 di:mw K t.a7 t.aa false
 cr:mw K t.a7 t.aJ false
 gU:mw K t.a7 t.ac false
 aF:Cls K t.aV
 kZ:Mk K t.aV t.gT
 aH:A1j K t.aV "name"
 aT:A1j K t.aV "axes"
 bp:A1j K t.aV "term"
 iA:TyC K t.aV
 jd:mroIn K t.aV (.type "list")=some false
 iP:mroIn K t.aV (.type "tuple")=some false
 jf:mroIn K t.aV (.type "dict")=some false
 j8:Cls K t.aY
 kI:Mk K t.aY t.bQ
 hZ:A1j K t.aY "left"
 gD:A1j K t.aY "right"
 cK:TyC K t.aY
 gu:mw K t.aY t.a7 false
 hJ:mw K t.aY t.bu true
 dv:mw K t.aY t.aa false
 eF:mw K t.aY t.aJ false
 gi:mw K t.aY t.ac false
 bF:Cls K t.aE
 jS:Mk K t.aE t.dq
 fe:A1j K t.aE "number"
 ae:TyC K t.aE
 cB:mw K t.aE t.a7 false
 gK:mw K t.aE t.bu false
 cN:mw K t.aE t.aa false
 bZ:mw K t.aE t.aJ false
 g6:mw K t.aE t.ac false
 aj:Cls K t.aC
 da:Mk K t.aC t.fw
 ay:A1j K t.aC "term"
 av:A1j K t.aC "sums"
 aD:A1j K t.aC "guards"
 lG:TyC K t.aC
 bJ:Cls K t.ac
 kE:Mk K t.ac t.eE
 du:A1j K t.ac "axis"
 ao:TyC K t.ac
 gR:mw K t.ac t.a7 false
 ib:mw K t.ac t.bu false
 dw:mw K t.ac t.aa false
 cv:mw K t.ac t.aJ false
 gO:mw K t.ac t.ac true
 jO:Cls K t.bt
 kR:Mk K t.bt t.bQ
 iW:A1j K t.bt "left"
 i6:A1j K t.bt "right"
 eI:TyC K t.bt
 hX:mw K t.bt t.a7 false
 iS:mw K t.bt t.bu true
 eO:mw K t.bt t.aa false
 fz:mw K t.bt t.aJ false
 i8:mw K t.bt t.ac false
 af:Cls K t.a9
 jv:Mk K t.a9 t.d6
 fc:A1j K t.a9 "wheel"
 br:A1j K t.a9 "axes"
 aL:A1j K t.a9 "tables"
 aG:A1j K t.a9 "lets"
 cF:A1j K t.a9 "outs"
 k_:TyC K t.a9
 aI:Cls K t.aa
 kT:Mk K t.aa t.fQ
 aM:A1j K t.aa "array"
 aZ:A1j K t.aa "indexes"
 g9:xT K t.aa "cell_at" t.cV
 aB:TyC K t.aa
 dy:mw K t.aa t.a7 false
 iJ:mw K t.aa t.bu false
 dZ:mw K t.aa t.aa true
 cH:mw K t.aa t.aJ false
 hU:mw K t.aa t.ac false
 bK:Cls K t.aJ
 lh:Mk K t.aJ t.gQ
 bR:A1j K t.aJ "axis"
 cY:A1j K t.aJ "body"
 aO:TyC K t.aJ
 iG:mw K t.aJ t.a7 false
 j3:mw K t.aJ t.bu false
 fR:mw K t.aJ t.aa false
 dB:mw K t.aJ t.aJ true
 iH:mw K t.aJ t.ac false
 jg:Cls K t.aX
 kG:Mk K t.aX t.bQ
 gZ:A1j K t.aX "left"
 gJ:A1j K t.aX "right"
 cR:TyC K t.aX
 gh:mw K t.aX t.a7 false
 g_:mw K t.aX t.bu true
 dA:mw K t.aX t.aa false
 eV:mw K t.aX t.aJ false
 gw:mw K t.aX t.ac false
 a6:mg "isinstance"=none
 b_:mg "list"=none
 bh:mg "tuple"=none
 dH:mg "dict"=none
 bi:mg "range"=none
 cM:mg "enumerate"=none
 aK:mg "len"=none
 ky:mg "all"=none
 ig:mg "zip"=none
 lE:mg "min"=none
 kW:mg "max"=none
 l0:mg "bool"=none
 lD:mg "int"=none
 lA:mg "str"=none
 lu:mg "sum"=none
 gS:mg "reversed"=none
abbrev FO(P:yB)(w:yD)(base:yA){K:Frag}{mg:zE}{x:Str}{st:Stmt}{f:zW}{fd:zS}{ps:zC}(_:FQ K mg x st f fd ps)(n:Nat)(sp:Sp):Prop:=A3i P w K mg base nj n f fd ps sp
abbrev FP(P:yB)(w:yD)(mg:zE)(base:yA){K:Frag}{C:zW}{x q:Str}{st:Stmt}{f:zW}{fd:zS}{ps:zC}(_:FM K C x q st f fd ps)(n:Nat)(sp:Sp):Prop:=A3i P w K mg base nj n f fd ps sp
theorem pcl{k:Nat}{st:Stmt}{e:yC}{es:zT}{p:Pos}(F:A3i X.prog X.w X.K X.mg X.base nj k f fd ps sp)(g:A5y k2 X.A)(Zz:FQ X.K X.mg x st f fd ps)(i:PA X (e::es) t)(h:k<=k2:=by lia)(d:Gl X x:=by rfl)(c:(x==("__debug__":Str))=false:=by decide)(j:starEach (e::es) X.env=(false,eval e X.env)::starEach es X.env:=by rfl)(a:(backTo pos (starEach es X.env)).any (·.1)=false:=by rfl):PE X (.Call (.Name x p) (e::es) [] pos) (wQ sp [] E0 t):=DF F (g.mono h) d Zz.m Zz.F.kp Zz.b .nil um i c j a
theorem pmk{k:Nat}{e:yC}{es:zT}{p:Pos}(M:Mk X.K C f)(F:A3i X.prog X.w X.K X.mg X.base nj k f fd ps sp)(g:A5y k2 X.A)(h:X.mg x=some (.ref C))(c:A9f X.K fd ps [])(j:PA X (e::es) t)(i:k+1<=k2:=by lia)(d:Gl X x:=by rfl)(b:(x==("__debug__":Str))=false:=by decide)(l:starEach (e::es) X.env=(false,eval e X.env)::starEach es X.env:=by rfl)(a:(backTo pos (starEach es X.env)).any (·.1)=false:=by rfl):PE X (.Call (.Name x p) (e::es) [] pos) (Cz C sp [] E0 t):=JH M F (g.mono i) d h c .nil um j b l a
theorem kr(h:Nat.ble n 1000000=true):n<=sizeLine:=lK (Nat.le_of_ble_eq_true h)
theorem zw:(0:Int)<2:=by decide
theorem CD:(0:Int)<26:=by decide
theorem B6:(0:Int)<3:=by decide
theorem uK:(0:Int)<4:=by decide
theorem z_50:(0:Int)<5:=by decide
theorem z_60:(0:Int)<6:=by decide
theorem GQ:(0:Int)<60:=by decide
theorem BY:(0:Int)<8:=by decide
theorem z_90:(0:Int)<9:=by decide
theorem pco{k:Nat}{e':zO}{st:Stmt}{e:yC}{es:zT}{p:Pos}(F:A6q e' X.prog X.w X.K X.mg X.base nj k f fd ps sp)(h:A6p k2 X.A)(g:HdA e' X.A)(Zz:FQ X.K X.mg x st f fd ps)(j:PA X (e::es) t)(i:k<=k2:=by lia)(d:Gl X x:=by rfl)(c:(x==("__debug__":Str))=false:=by decide)(l:starEach (e::es) X.env=(false,eval e X.env)::starEach es X.env:=by rfl)(a:(backTo pos (starEach es X.env)).any (·.1)=false:=by rfl):PE X (.Call (.Name x p) (e::es) [] pos) (wQ sp [] E0 t):=A7 F (h.mono i) g d Zz.m Zz.F.kp Zz.b .nil um j c l a
theorem pcd{k:Nat}{st:Stmt}{e:yC}{es:zT}{p:Pos}(F:A3i X.prog X.w X.K X.mg X.base CX k f fd ps sp)(g:A5y k2 X.A)(Zz:FQ X.K X.mg x st f fd ps)(h:sZ CX X E)(j:PA X (e::es) t)(i:k<=k2:=by lia)(d:Gl X x:=by rfl)(c:(x==("__debug__":Str))=false:=by decide)(l:starEach (e::es) X.env=(false,eval e X.env)::starEach es X.env:=by rfl)(a:(backTo pos (starEach es X.env)).any (·.1)=false:=by rfl):PE X (.Call (.Name x p) (e::es) [] pos) (wQ sp [] E t):=DF F (g.mono i) d Zz.m Zz.F.kp Zz.b .nil h j c l a
theorem pit(i:Nat){k:Int}{j}{p2 b:Pos}(d:X.N[i]?=some x:=by rfl)(c:Vis X.env.scope x:=by first|exact Or.inl rfl|exact Or.inr (Or.inl rfl)|exact Or.inr (Or.inr rfl))(e:(x==("__debug__":Str))=false:=by decide)(a:(x==("__classdict__":Str))=false:=by decide):PE X (.Subscript (.Name x pos) (.Constant (.int k) j p2) b) (tOp (vH X.K) (tP i) (tC (.int k))):=qv CU (pv i d c e a) ew λ_ _=>rfl
theorem pil(i:Nat){k:Int}{j}{p2 b:Pos}(d:X.N[i]?=some x:=by rfl)(c:Vis X.env.scope x:=by first|exact Or.inl rfl|exact Or.inr (Or.inl rfl)|exact Or.inr (Or.inr rfl))(e:(x==("__debug__":Str))=false:=by decide)(a:(x==("__classdict__":Str))=false:=by decide):PE X (.Subscript (.Name x pos) (.Constant (.int k) j p2) b) (tOp (zn X.K) (tP i) (tC (.int k))):=qv sF (pv i d c e a) ew λ_ _=>rfl
theorem pkd(i:Nat){k:Int}{j l}{p2 b g c:Pos}(e:X.N[i]?=some x:=by rfl)(d:Vis X.env.scope x:=by first|exact Or.inl rfl|exact Or.inr (Or.inl rfl)|exact Or.inr (Or.inr rfl))(f:(x==("__debug__":Str))=false:=by decide)(a:(x==("__classdict__":Str))=false:=by decide):L2.PT X (.Compare (.Subscript (.Name x pos) (.Constant (.int k) j p2) b) [.Eq] [.Constant (.str y) l g] c) (wS (tOp rEq (tOp (vH X.K) (tP i) (tC (.int k))) (tC (.str y)))):=lZ nQ (pit i e d f a) lV (AA _)
theorem eg(i:Nat)(b:X.N[i]?=some x:=by rfl)(d:Vis X.env.scope x:=by first|exact Or.inl rfl|exact Or.inr (Or.inl rfl)|exact Or.inr (Or.inr rfl))(c:(x==("__debug__":Str))=false:=by decide)(a:(x==("__classdict__":Str))=false:=by decide)(hs:starEach [.Name x pos] X.env=(false,eval (.Name x pos) X.env)::starEach [] X.env:=by rfl):PA X [.Name x pos] (Cv (tP i) Cd):=ad (pv i b d c a) dt hs
theorem oA{e:yC}{es:zT}{p:Pos}(c:X.mg "len"=none)(d:PA X (e::es) t)(b:Gl X "len":=by rfl)(f:starEach (e::es) X.env=(false,eval e X.env)::starEach es X.env:=by rfl)(a:(backTo pos (starEach es X.env)).any (·.1)=false:=by rfl):PE X (.Call (.Name "len" p) (e::es) [] pos) (tCB (λxs H Q=>∃p ys,xs=[.ref p]/\(SqL X.K H p ys\/SqT X.K H p ys)/\Q (.int ys.length) H) t):=nK Oa b c PySem.boot_len d (by decide) (by decide) f a
theorem rsq{a:List Stmt}{t:TS}{D:pJ}{Zz:St}(h:RS X a t)(q:t D Zz H):∃t,PSs X a t/\t D Zz H:=⟨t,h.r,q⟩
theorem nH{x:zW}{o:HO}(h:H x=none):∃H',A0l H H'/\H' x=some o/\upd H x o=H':=⟨_,ed h,cp,rfl⟩
abbrev Sro(a:zW):zP:=some (.ref a)
abbrev Sio(a:Int):zP:=some (.int a)
abbrev Sso(a:Str):zP:=some (.str a)
abbrev Sbo(a:Bool):zP:=some (.bl a)
local macro_rules | `(tactic| walk_at"ix") => `(tactic| first |exact Or.inl rfl |exact Or.inr rfl |(simp[relabel]; rfl) |(with_unfolding_all exact Or.inl rfl) |(with_unfolding_all exact Or.inr rfl) |(with_unfolding_all decide))
local macro_rules | `(tactic| walk_at"sc") => `(tactic| exact⟨rfl, rfl, rfl, by decide +kernel, rfl, by decide +kernel, by decide +kernel⟩)
local macro_rules | `(tactic| walk_at"ln") => `(tactic| (intro _ _ _ _ h; first |(cases h; subst_vars; rfl) |((repeat (obtain⟨_, h⟩ := h)); subst_vars; rfl)))
theorem O4:ic xP ["self","name","array","spot","cell"] (fC Go):=by walk_at"sc"
theorem OG:ic xP ["self","name","array","spot","cell"] (fC Gg):=by walk_at"sc"
theorem Bz:ic ["value"] ["value"] (fC (top 9)):=by walk_at"sc"
theorem OL:ic ["self","number"] ["self","number"] (fC F7):=by walk_at"sc"
theorem Ou:ic ["self","axis"] ["self","axis"] (fC FY):=by walk_at"sc"
theorem NV:ic ["self","array","indexes"] ["self","array","indexes"] (fC FN):=by walk_at"sc"
theorem OS:ic xS ["self","at"] (fC Gk):=by walk_at"sc"
theorem NE:ic BU ["axis","shift","at"] (fC (top 16)):=by walk_at"sc"
theorem N4:ic ["self","left","right"] ["self","left","right"] (fC FS):=by walk_at"sc"
theorem NQ:ic ["self","axis","body"] ["self","axis","body"] (fC Fv):=by walk_at"sc"
theorem Op:ic B9 ["self","axis","low","high","inner","outer"] (fC FV):=by walk_at"sc"
theorem O3:ic xS ["self","at"] (fC Gm):=by walk_at"sc"
theorem N3:ic BX ["self","term","sums","guards"] (fC FH):=by walk_at"sc"
theorem Ny:ic ["term"] ["term"] (fC (top 26)):=by walk_at"sc"
theorem BQ:ic ["part","parts","inner"] ["part"] (fC (top 27)):=by walk_at"sc"
theorem zh:ic ["part","term","inner","outer"] ["part"] (fC (top 28)):=by walk_at"sc"
theorem zf:ic ["term","axes","rest"] ["term"] (fC (top 29)):=by walk_at"sc"
theorem yV:ic ["lengths","cells","length"] ["lengths"] (fC (top 31)):=by walk_at"sc"
theorem za:ic ["cells","length","longer","cell","number"] ["cells","length"] (fC (top 32)):=by walk_at"sc"
theorem NI:ic B4 ["self","name","axes","term"] (fC Fz):=by walk_at"sc"
theorem OV:ic Ch ["self","wheel","axes","tables","lets","outs"] (fC Gi):=by walk_at"sc"
theorem Oy:ic oE ["program"] (fC (top 36)):=by walk_at"sc"
theorem OP:ic oE ["program"] (fC (top 37)):=by walk_at"sc"
theorem OI:ic oE ["program"] (fC (top 38)):=by walk_at"sc"
theorem Oj:ic oE ["program"] (fC (top 39)):=by walk_at"sc"
theorem xy:ic ["program","arrays","name","axes","let"] oE (fC (top 40)):=by walk_at"sc"
theorem O2:ic vI ["axes","lengths"] (fC (top 41)):=by walk_at"sc"
theorem OD:ic vI ["axes","lengths"] (fC (top 42)):=by walk_at"sc"
theorem Ge:ic ["program","axes"] oE (fC (top 47)):=by walk_at"sc"
theorem BS:ic ["names","place","name"] ["names"] (fC (top 48)):=by walk_at"sc"
theorem MF:ic ["text"] ["text"] (fC (top 49)):=by walk_at"sc"
theorem OX:ic ["text"] ["text"] (fC (top 50)):=by walk_at"sc"
theorem BL:ic ["outs","names","place","out"] ["outs","names"] (fC (top 51)):=by walk_at"sc"
theorem BO:ic ["axes","known","place","axis"] ["axes","known"] (fC (top 52)):=by walk_at"sc"
theorem xB:ic ["program","known","arrays","let","part"] oE (fC (top 53)):=by walk_at"sc"
theorem BM:ic ["part","let","arrays","known","term","bound"] zr (fC (top 54)):=by walk_at"sc"
theorem Og:ic ["axis","bound"] ["axis","bound"] (fC (top 55)):=by walk_at"sc"
theorem NB:ic Ap ["axis","bound","known"] (fC (top 56)):=by walk_at"sc"
theorem yY:ic ["read","bound","arrays","name","axis","shift"] ["read","bound","arrays"] (fC (top 57)):=by walk_at"sc"
theorem Gp:ic ["part","let","name"] ["part","let"] (fC (top 58)):=by walk_at"sc"
theorem uA:ic ["program","lengths","work","name","axes","let","part"] oE (fC (top 59)):=by walk_at"sc"
theorem zd:ic ["axes","lengths","count","length"] vI (fC (top 60)):=by walk_at"sc"
theorem JF:ic oE ["program"] (fC (top 63)):=by walk_at"sc"
theorem FU:ic ["program","work"] oE (fC (top 64)):=by walk_at"sc"
theorem xA:ic ["program","lengths","arrays","let","part"] oE (fC (top 65)):=by walk_at"sc"
theorem Gh:ic ["let","part","lengths","axes","leads"] An (fC (top 66)):=by walk_at"sc"
theorem xv:ic ["let","part","lengths","axes","leads","spot","at"] ["let","part","lengths"] (fC (top 67)):=by walk_at"sc"
theorem Ot:ic ["guards","at"] ["guards","at"] (fC (top 68)):=by walk_at"sc"
theorem BK:ic ["let","read","leads","lengths","spot","cell"] Ah (fC (top 69)):=by walk_at"sc"
theorem NU:ic ["cell","lengths"] ["cell","lengths"] (fC (top 70)):=by walk_at"sc"
theorem zc:ic ["let","read","leads","spot","cell","told"] ["let","read","leads"] (fC (top 71)):=by walk_at"sc"
theorem Lx:ic ["_law_rest"] ["_law_rest"] (fC (top 73)):=by walk_at"sc"
theorem vx:ic ["_law_k","_law_seed","_law_letters","_law_size","_law_spot","_law_base","_law_text"] ["_law_k","_law_seed"] (fC (top 74)):=by walk_at"sc"
theorem yS:ic ["_law_cell_here","_law_names","_law_many_here","_law_turn"] ["_law_cell_here","_law_names"] (fC (top 75)):=by walk_at"sc"
theorem qh:ic ["_law_rest","_law_about","_law_bound","_law_top","_law_cell_here","_law_known","_law_array","_law_shape","_law_some","_law_indexes","_law_k","_law_step","_law_axis","_law_shift","_law_back","_law_name_here","_law_term","_law_index","_law_high"] ["_law_rest","_law_about","_law_bound","_law_top"] (fC (top 76)):=by walk_at"sc"
theorem ue:ic ["_law_rest","_law_about","_law_bound","_law_top","_law_still","_law_deep","_law_cell_here","_law_way","_law_free","_law_axis","_law_low","_law_inner_here","_law_outer","_law_left"] wM (fC (top 77)):=by walk_at"sc"
theorem BB:ic ["_law_tree","_law_left","_law_right"] ["_law_tree"] (fC (top 78)):=by walk_at"sc"
theorem L9:ic Aq ["_law_tree","_law_lengths"] (fC (top 79)):=by walk_at"sc"
theorem yO:ic ["_law_axes_here","_law_lengths","_law_many_here","_law_name_here"] wL (fC (top 80)):=by walk_at"sc"
theorem wu:ic ["_law_axes_here","_law_lengths","_law_cells_here","_law_name_here","_law_longer","_law_cell_here"] wL (fC (top 81)):=by walk_at"sc"
theorem yL:ic ["_law_indexes","_law_at","_law_cell_here","_law_axis","_law_shift"] ["_law_indexes","_law_at"] (fC (top 82)):=by walk_at"sc"
theorem DT:ic ["_law_at","_law_axis","_law_number","_law_other"] Af (fC (top 83)):=by walk_at"sc"
theorem Mw:ic Ag ["_law_tree","_law_at"] (fC (top 84)):=by walk_at"sc"
theorem BF:ic ["_law_tree","_law_at","_law_lengths","_law_found","_law_number"] Am (fC (top 85)):=by walk_at"sc"
theorem M6:ic Aj ["_law_tree","_law_at","_law_left","_law_goal","_law_lengths"] (fC (top 86)):=by walk_at"sc"
theorem Bx:ic ["_law_cell_here","_law_axes_here","_law_lengths","_law_number","_law_name_here"] Ad (fC (top 87)):=by walk_at"sc"
theorem uz:ic ["_law_name_here","_law_about","_law_axes_here","_law_lengths","_law_cell_here","_law_at","_law_axis","_law_number","_law_array","_law_other"] Ao (fC (top 88)):=by walk_at"sc"
theorem FK:ic ["_law_found","_law_number"] ["_law_found"] (fC (top 89)):=by walk_at"sc"
theorem uB:ic ["_law_e","_law_about","_law_early","_law_name_here","_law_own","_law_spot","_law_at","_law_axis","_law_number","_law_goal","_law_inside"] Ar (fC (top 90)):=by walk_at"sc"
theorem vy:ic ["_law_program","_law_about","_law_much","_law_found","_law_e","_law_name_here"] ["_law_program","_law_about","_law_much"] (fC (top 91)):=by walk_at"sc"
theorem xw:ic ["_law_cell_here","_law_many_here","_law_digits_here","_law_rest","_law_k"] ["_law_cell_here","_law_many_here"] (fC (top 92)):=by walk_at"sc"
theorem Fk:ic Cr ["_law_cells_here","_law_way"] (fC (top 93)):=by walk_at"sc"
theorem oR:ic ["_law_script","_law_rest","_law_way","_law_many_here","_law_tabled","_law_told","_law_seed","_law_k","_law_names","_law_lengths","_law_name_here","_law_tables","_law_about","_law_work_here","_law_axes_here","_law_lets","_law_cells_here","_law_tree","_law_program"] ["_law_script"] (fC (top 94)):=by walk_at"sc"
theorem wo:(["member"]:zC).Nodup:=by decide+kernel
theorem Ey:(["axis","shift","at"]:zC).Nodup:=by decide+kernel
theorem EK:(["name","length"]:zC).Nodup:=by decide+kernel
theorem Fd:(["name","axes"]:zC).Nodup:=by decide+kernel
theorem Mo:(["let"]:zC).Nodup:=by decide+kernel
theorem Mp:(["axis","lengths"]:zC).Nodup:=by decide+kernel
theorem Mf:(["sign"]:zC).Nodup:=by decide+kernel
theorem Fg:(["guard","inner","at"]:zC).Nodup:=by decide+kernel
theorem EM:(["number","length"]:zC).Nodup:=by decide+kernel
theorem Mc:(["_law_j","_law_base"]:zC).Nodup:=by decide+kernel
theorem M2:(["_law_j","_law_base"]:zC).Nodup:=by decide+kernel
theorem MH:(["_law_j","_law_cell_here","_law_many_here","_law_names","_law_turn"]:zC).Nodup:=by decide+kernel
theorem Nl:(["_law_name_here"]:zC).Nodup:=by decide+kernel
theorem M8:(["_law_name_here","_law_bound"]:zC).Nodup:=by decide+kernel
theorem M0:(["_law_number","_law_cell_here"]:zC).Nodup:=by decide+kernel
theorem Ni:(["_law_cell_here"]:zC).Nodup:=by decide+kernel
theorem MJ:(["_law_cell_here"]:zC).Nodup:=by decide+kernel
theorem MA:(["_law_k","_law_seed"]:zC).Nodup:=by decide+kernel
theorem MO:(["_law_name_here","_law_many_here","_law_names","_law_rest"]:zC).Nodup:=by decide+kernel
theorem Nc:(["_law_name_here","_law_lengths"]:zC).Nodup:=by decide+kernel
theorem MD:(["_law_pair"]:zC).Nodup:=by decide+kernel
theorem A3i.none{P:yB}{w:yD}{base:yA}{k:Nat}(h:∀vs H Q E,¬sp vs H Q E):A3i P w K mg base CX k f fd ps sp :=⟨λvs H Q E q=>(h vs H Q E q).elim,λ_ _ _ H _ _ vs Q E _ _ _ _ q=>(h vs H Q E q).elim⟩
def qT(e:Str×List Str):PyData:=.tuple [.str e.1,.list (e.2.map PyData.str)]
def tS(ts:zB):PyData:=.list (ts.map qT)
def rZ(xs:zC):PyData:=.list (xs.map PyData.str)
theorem AK:∀xs:zC,PyData.depthAll (xs.map PyData.str)=0/\qf (xs.map PyData.str)=xs.length
 | []=>⟨rfl,rfl⟩
 |x::r=>by
  obtain⟨b,a⟩:=AK r;refine⟨?_,?_⟩
  ·simp[PyData.depthAll,PyData.depth,b]
  ·simp[qf,cnt,a];lia
theorem Dk(xs:zC):(rZ xs).depth<=1/\cnt (rZ xs)<=1+xs.length:=by
 obtain⟨b,a⟩:=AK xs;refine⟨?_,?_⟩
 ·simp[rZ,PyData.depth,b]
 ·simp only [rZ,cnt,a];lia
theorem Cw{n:Nat}:∀ts:zB,(∀e∈ts,e.2.length<=n)->PyData.depthAll (ts.map qT)<=2/\qf (ts.map qT)<=ts.length*(n+4)
 | [],_=>⟨by simp[PyData.depthAll],by simp[qf]⟩
 |e::r,h=>by
  obtain⟨d,f⟩:=Cw r λx c=>h x (.tail _ c);obtain⟨b,a⟩:=AK e.2;have g:=h e (.head _);refine⟨?_,?_⟩
  ·simp only [mi,qT,PyData.depthAll,PyData.depth,b]
   lia
  ·simp only [mi,qT,qf,cnt,a,nG,Nat.add_mul,Nat.one_mul]
   lia
theorem Lp(ts:zB)(h:∀e∈ts,e.2.length<=n):(tS ts).depth<=3/\cnt (tS ts)<=1+ts.length*(n+4):=by
 obtain⟨b,a⟩:=Cw ts h;refine⟨?_,?_⟩
 ·simp only [tS,PyData.depth];lia
 ·simp only [tS,cnt];lia
theorem Cn:∀ts:zL,PyData.depthAll (ts.map pf)<=1| []=>by simp[PyData.depthAll]|e::r=>by have a:=Cn r;simp only [mi,pf,PyData.depthAll,PyData.depth];lia
theorem KK(ts:zL):(oK ts).depth<=2:=by have a:=Cn ts;simp only [oK,PyData.depth];lia
theorem LI{d:PyData}(h:d.canLay0=true)(a:d.depth<=60):SeqAt.shaped d=true:=by unfold SeqAt.shaped;rw[h,Bool.true_and];exact mP (by lia)
theorem EW{H:Hp}:∀{ys:zC}{xs:zM},A3m H xs (ys.map PyData.str)->xs=ys.map V.str
 | [],_,r=>by cases r;rfl
 |y::ys,_,r=>by
  rw[mi]at r
  cases r with
  |cons a r=>
   cases a
   rw[mi,EW r]
theorem yg(h:Rep H v (rZ ys)):∃p,v=.ref p/\H p=some (.lst (ys.map V.str)):=by refine ei (rQ (show Rep H v (.list (ys.map PyData.str)) from h)) ?_;rintro p a rfl e r;rw[EW r]at e;exact cb p rfl e
theorem As(e:H p=some (.lst (ys.map V.str))):Rep H (.ref p) (rZ ys):=.lst e (A3m.strs ys)
theorem xY{e:Str×List Str}(h:Rep H v (qT e)):∃b c,v=.ref b/\H b=some (.tup [.str e.1,.ref c])/\H c=some (.lst (e.2.map V.str)):=by
 unfold qT at h
 cases h with
 |@tup b xs _ eb r=>
  cases r with
  |cons a r=>
   cases r with
   |cons a2 r=>
    cases r
    cases a
    obtain⟨c,rfl,d⟩:=yg a2;exact dV b c rfl eb d
theorem GK{c:zW}{e:Str×List Str}(a:H b=some (.tup [.str e.1,.ref c]))(d:H c=some (.lst (e.2.map V.str))):Rep H (.ref b) (qT e):=.tup a (.cons (.str _) (.cons (As d) .nil))
theorem yc{e:Str×Int}(h:Rep H v (pf e)):∃b,v=.ref b/\H b=some (.tup [.str e.1,.int e.2]):=by
 unfold pf at h
 cases h with
 |@tup b xs _ eb r=>
  cases r with
  |cons a r=>
   cases r with
   |cons a2 r=>
    cases r
    cases a
    cases a2
    exact cb b rfl eb
theorem vU{α:Type}{f:α->PyData}{ts:List α}(r:A3m H xs (ts.map f)){x:V}(b:xs[i]?=some x):∃e,ts[i]?=some e/\Rep H x (f e):=by obtain⟨d,a,g⟩:=r.get2 b;rw[oH]at a;obtain⟨e,c,rfl⟩:=rg.mp a;exact cb e c g
def qL(A:Adr):Op3->zW|.plus=>A.bt|.minus=>A.aY|.times=>A.aX
inductive Ob(A:Adr)(H:Hp):V->Tm->Prop|num {a dx:zW} {z:Int}:H a=some (.ins A.aE dx [("number",.int z)])->Ob A H (.ref a) (.num z)|place {a dx:zW} {x:Str}:H a=some (.ins A.ac dx [("axis",.str x)])->Ob A H (.ref a) (.place x)|read {a dx l:zW} {x:Str} {ix:zL}:H a=some (.ins A.aa dx [("array",.str x),("indexes",.ref l)])->Rep H (.ref l) (oK ix)->Ob A H (.ref a) (.read x ix)|sum {a dx:zW} {x:Str} {u:V} {b:Tm}:H a=some (.ins A.aJ dx [("axis",.str x),("body",u)])->Ob A H u b->Ob A H (.ref a) (.sum x b)|pair {a dx:zW} {k:Op3} {u w:V} {l r:Tm}:H a=some (.ins (qL A k) dx [("left",u),("right",w)])->Ob A H u l->Ob A H w r->Ob A H (.ref a) (.pair k l r)|guard {a dx:zW} {x:Str} {lo hi:Int} {u w:V} {l r:Tm}:H a=some (.ins A.a7 dx [("axis",.str x),("low",.int lo),("high",.int hi),("inner",u),("outer",w)])->Ob A H u l->Ob A H w r->Ob A H (.ref a) (.guard x lo hi l r)
theorem Ob.imp(f:A0l H H'){t:Tm}(h:Ob A H v t):Ob A H' v t:=by
 induction h with
 |num e=>exact .num (f _ _ e)
 |place e=>exact .place (f _ _ e)
 |read e r=>exact .read (f _ _ e) (r.same f)
 |sum e _ ih=>exact .sum (f _ _ e) ih
 |pair e _ _ i1 i2=>exact .pair (f _ _ e) i1 i2
 |guard e _ _ i1 i2=>exact .guard (f _ _ e) i1 i2
abbrev Lt:=Str×List Str×Tm
variable{β α:Type}{ws:zJ}{v':V}{tn k':Int}{te:TE}{tb:zB}{s oy nm:zC}{o:HO}{n' m j d':Nat}{ls:List Lt}{kb b2:Bool}{dx b:zW}{ds:List PyData}{c:zI}{Q:VK}{P:yB}{w:yD}{L:zR}{K:Frag}{mg:zE}{base:yA}{t:Adr}{H1 H0 G':Hp}{E':XK}{B:Prop}
def B0p(A:Adr)(S:zV)(H:Hp)(v:V)(e:Lt):Prop:=∃(a b c:zW)(n:V)(d:Unit),v=.ref a/\H a=some (.ins A.aV b [("name",.str e.1),("axes",.ref c),("term",n)])/\S c/\H c=some (.lst (e.2.1.map V.str))/\Ob A H n e.2.2
abbrev Ik(A:Adr)(S:zV)(H:Hp)(xs:zM)(ls:List Lt):Prop:=Paired (B0p A S H) xs ls
theorem B0p.same{e:Lt}(h:B0p A S H v e)(s:A0l H H'):B0p A S H' v e:=by refine nU h ?_;clear h;rintro a i c n j rfl f d g b;exact⟨a,(nD i c n j rfl (s _ _ f) d (s _ _ g) (b.imp s))⟩
structure C0m(A:Adr)(H:Hp)(p:zW)(wh:Int)(ax:zL)(tb:zB)(ls:List Lt)(os:zC):Prop where
 ob:∃dx a t l o,H p=some (.ins A.a9 dx [("wheel",.int wh),("axes",.ref a),("tables",.ref t),("lets",.ref l),("outs",.ref o)])/\Rep H (.ref a) (oK ax)/\Rep H (.ref t) (tS tb)/\(∃xs,H l=some (.lst xs)/\Ik A (λ_=>True) H xs ls)/\Rep H (.ref o) (rZ os)
theorem C0m.same{c:Int}{b:zL}(h:C0m A H p c b tb ls os)(s:A0l H H'):C0m A H' p c b tb ls os:=by refine nU h.ob ?_;rintro f a t l o e j d ⟨m,k,g⟩ i;exact⟨f,a,t,l,o,s _ _ e,j.same s,d.same s,(cb m (s _ _ k) (Paired.mapP g λ_ _ z=>z.same s)),i.same s⟩
abbrev Gd:=Str×Int×Int×Bool
abbrev Pq:=Tm×List Str×List Gd
noncomputable def prT:Tm->List Str->List Gd->List Pq|.sum x b,s,g=>(.sum x b,s,g)::prT b (s++[x]) g|.pair k l r,s,g=>(.pair k l r,s,g)::(prT l s g++prT r s g)|.guard x lo hi l r,s,g=>(.guard x lo hi l r,s,g)::(prT l s (g++[(x,lo,hi,true)])++prT r s (g++[(x,lo,hi,false)]))|.num z,s,g=>[(.num z,s,g)]|.place x,s,g=>[(.place x,s,g)]|.read a i,s,g=>[(.read a i,s,g)]
noncomputable def qu:Tm->List Str->List Gd->List Pq|.sum x b,s,g=>[(b,s++[x],g)]|.pair _ l r,s,g=>[(l,s,g),(r,s,g)]|.guard x lo hi l r,s,g=>[(l,s,g++[(x,lo,hi,true)]),(r,s,g++[(x,lo,hi,false)])]|_,_,_=>[]
theorem Ev:∀(u:Tm)(s:zC)(g:List Gd),prT u s g=(u,s,g)::(qu u s g).flatMap λk=>prT k.1 k.2.1 k.2.2|.num _,_,_=>rfl|.place _,_,_=>rfl|.read _ _,_,_=>rfl|.sum x b,s,g=>by simp[prT,qu]|.pair k l r,s,g=>by simp[prT,qu]|.guard x lo hi l r,s,g=>by simp[prT,qu]
theorem J6{g:List Gd}{k:Pq}(h:k∈qu u s g):dep k.1+1<=dep u:=by
 cases u with
 |num z=>cases h
 |place x=>cases h
 |read a ix=>cases h
 |sum x b=>rw[mn.mp h];simp[dep]
 |pair o l r=>simp only [qu,lY,qQ,or_false]at h;rcases h with rfl|rfl<;>simp only [dep]<;>lia
 |guard x lo hi l r=>simp only [qu,lY,qQ,or_false]at h;rcases h with rfl|rfl<;>simp only [dep]<;>lia
theorem uU:∀(u:Tm)(s:zC)(g:List Gd),(prT u s g).length=nod u|.num _,_,_=>rfl|.place _,_,_=>rfl|.read _ _,_,_=>rfl|.sum x b,s,g=>by simp[prT,nod,uU b]|.pair k l r,s,g=>by simp[prT,nod,uU l,uU r]|.guard x lo hi l r,s,g=>by simp[prT,nod,uU l,uU r]
def E2z(A:Adr)(H:Hp)(v:V)(g:Gd):Prop:=∃(a b c:zW)(u w:V),v=.ref a/\H a=some (.tup [.ref b,.bl g.2.2.2])/\H b=some (.ins A.a7 c [("axis",.str g.1),("low",.int g.2.1),("high",.int g.2.2.1),("inner",u),("outer",w)])
theorem E2z.same{g:Gd}(h:E2z A H v g)(s:A0l H H'):E2z A H' v g:=by refine nN h ?_;clear h;rintro c a e u w ⟨rfl,b,d⟩;exact oi c a (nM e u w rfl (s _ _ b) (s _ _ d))
def A4l(A:Adr)(H:Hp)(v:V)(e:Pq):Prop:=∃a g c d f b,v=.ref a/\H a=some (.ins A.aC g [("term",c),("sums",.ref d),("guards",.ref f)])/\Ob A H c e.1/\H d=some (.lst (e.2.1.map V.str))/\H f=some (.lst b)/\b.length+dep e.1<=100/\e.2.1.length+dep e.1<=100/\Paired (E2z A H) b e.2.2
theorem A4l.same{e:Pq}(h:A4l A H v e)(s:A0l H H'):A4l A H' v e:=by refine rD h ?_;clear h;rintro a g l d j b rfl c o n k ⟨m,f,i⟩;exact oZ a g l d j b rfl (s _ _ c) (o.imp s) (s _ _ n) (s _ _ k) m ⟨f,Paired.mapP i λ_ _ z=>z.same s⟩
theorem qc{t u:TS}{D:pJ}(M:Hp->Prop)(h1:t {D with nx:=λZ' H'=>Z'=Z/\M H'} Z H)(h2:∀H',M H'->u D Z H'):zm t u D Z H:=(cb _ h1 (by rintro _ H' ⟨rfl,s⟩;exact h2 H' s))
theorem yl{v:zX}{c d:zW}(h1:kitOne K v (.ref c)=some false)(h2:kitOne K v (.ref d)=some false):∀us,A2m [V.ref c,V.ref d] us->kitAny K v us=some false:=Fi (cs:=[c,d]) λe a=>by
 rcases lY.mp a with rfl|a
 ·exact h1
 ·rw[mn.mp a];exact h2
local macro_rules | `(tactic| walk_at"lk") => `(tactic| first |with_reducible exact Gv |(refine Gu (by decide +kernel) ?_; walk_at"lk") |rfl)
def D6(K:Frag)(f:Str):Sp:=λb H Q _=>∃(p C a:zW)(v:V),b=[.ref p,v]/\H p=some (.ins C a [])/\Cls K C/\A1j K C f/\Q .non (upd H p (.ins C a [(f,v)]))
def Ay(n:Nat):Sp:=λe H Q _=>∃(v:V)(d:PyData),e=[v]/\Rep H v d/\PyData.depth d<=n/\cnt d<=100000/\∀(c:V)(b:Hp),A0l H b->Rep (lU (λa=>H a=none) b) c d->Q c b
def Hx(A:Adr):Sp:=λb H Q _=>∃(a d:zW)(c:zK),b=[.ref a]/\H a=some (.ins A.aV d c)/\Q (.ref a) H
def C6(A:Adr):Sp:=λd H Q _=>∃(p:zW)(b:zM),d=[.ref p]/\H p=some (.lst b)/\b.length<=1000/\(∀x∈b,∃a f e,x=.ref a/\H a=some (.ins A.aV f e))/\∀(D:zW)(c:Hp),H D=none->A0l H c->c D=some (.lst b)->Q (.ref D) c
def Ep(K:Frag)(f g:Str):Sp:=λb H Q _=>∃(p C a:zW)(v u:V),b=[.ref p,v,u]/\H p=some (.ins C a [])/\Cls K C/\A1j K C f/\A1j K C g/\Q .non (upd H p (.ins C a [(f,v),(g,u)]))
def KM(A:Adr):Sp:=λg H Q _=>∃(p f:zW)(a b c d e:V),g=[.ref p,a,b,c,d,e]/\H p=some (.ins A.a7 f [])/\Q .non (upd H p (.ins A.a7 f [("axis",a),("low",b),("high",c),("inner",d),("outer",e)]))
def Kb(A:Adr):Sp:=λf H Q _=>∃(p e l:zW)(x:Str)(c:zL),f=[.ref p,.str x,.ref l]/\H p=some (.ins A.aa e [])/\Rep H (.ref l) (oK c)/\c.length<=1000/\
 ∀(d:zW)(a:Hp),a p=some (.ins A.aa e [("array",.str x),("indexes",.ref d)])->Rep (lU (λb=>H b=none) a) (.ref d) (oK c)->(∀b o,b≠p->H b=some o->a b=some o)->Q .non a
def Ks(A:Adr):Sp:=λf H Q _=>∃(p e l:zW)(n:V)(x:Str)(d:zC),f=[.ref p,.str x,.ref l,n]/\H p=some (.ins A.aV e [])/\H l=some (.lst (d.map V.str))/\d.length<=1000/\
 ∀(c:zW)(a:Hp),H c=none->a p=some (.ins A.aV e [("name",.str x),("axes",.ref c),("term",n)])->a c=some (.lst (d.map V.str))->(∀b o,b≠p->H b=some o->a b=some o)->Q .non a
def Kg(A:Adr):Sp:=λr H Q _=>∃(p d a t l o:zW)(q:Int)(j:zL)(f:zB)(g:zM)(h:zC),r=[.ref p,.int q,.ref a,.ref t,.ref l,.ref o]/\H p=some (.ins A.a9 d [])/\
 Rep H (.ref a) (oK j)/\j.length<=1000/\Rep H (.ref t) (tS f)/\f.length<=1000/\(∀e∈f,e.2.length<=10)/\H l=some (.lst g)/\g.length<=1000/\(∀x∈g,∃a d s,x=.ref a/\a≠p/\H a=some (.ins A.aV d s))/\Rep H (.ref o) (rZ h)/\h.length<=1000/\
 ∀(k n i m:zW)(c:Hp),c p=some (.ins A.a9 d [("wheel",.int q),("axes",.ref k),("tables",.ref n),("lets",.ref i),("outs",.ref m)])->Rep (lU (λb=>H b=none) c) (.ref k) (oK j)->Rep (lU (λb=>H b=none) c) (.ref n) (tS f)->H i=none->c i=some (.lst g)->Rep (lU (λb=>H b=none) c) (.ref m) (rZ h)->(∀b o,b≠p->H b=some o->c b=some o)->Q .non c
theorem OH(T:Txt K mg t):FP P w mg base T.bU 1 (D6 K "number"):=by
 refine T.bU.F.ok OL λ_ A _ s H _ Q E e h=>?_
 ·refine ou h ?_;clear h;rintro p C b v rfl d c ⟨a,k⟩;exact rsq (ef ⟨oX (pv 0) (pv 1) rfl⟩) (pF _ rfl _ rfl p C b [] rfl d c a (by decide) k)
theorem Oe(T:Txt K mg t):FP P w mg base T.cA 1 (D6 K "axis"):=by
 refine T.cA.F.ok Ou λ_ A _ s H _ Q E e h=>?_
 ·refine ou h ?_;clear h;rintro p C b v rfl d c ⟨a,k⟩;exact rsq (ef ⟨oX (pv 0) (pv 1) rfl⟩) (pF _ rfl _ rfl p C b [] rfl d c a (by decide) k)
theorem BN(T:Txt K mg t):FP P w mg base T.bo 1 (Ep K "left" "right"):=by
 refine T.bo.F.ok N4 λ_ A _ s H _ Q E f h=>?_
 ·refine nU h ?_;clear h;rintro p C a v u rfl e b c ⟨d,k⟩;refine rsq (dh ⟨oX (pv 0) (pv 1) rfl⟩ (ef ⟨oX (pv 0) (pv 2) rfl⟩)) (pF _ rfl _ rfl p C a [] rfl e b c (by decide) (pF _ rfl _ rfl p C a _ rfl cp b d (by show 1<1000;decide) ?_));show Q V.non (upd (upd H p _) p (.ins C a (mI "right" u (mI "left" v []))));rw[ut,pE,om (by decide+kernel),pE];exact k
theorem Nz(T:Txt K mg t):FP P w mg base T.dG 1 (Ep K "axis" "body"):=by
 refine T.dG.F.ok NQ λ_ A _ s H _ Q E f h=>?_
 ·refine nU h ?_;clear h;rintro p C a v u rfl e b c ⟨d,k⟩;refine rsq (dh ⟨oX (pv 0) (pv 1) rfl⟩ (ef ⟨oX (pv 0) (pv 2) rfl⟩)) (pF _ rfl _ rfl p C a [] rfl e b c (by decide) (pF _ rfl _ rfl p C a _ rfl cp b d (by show 1<1000;decide) ?_));show Q V.non (upd (upd H p _) p (.ins C a (mI "body" u (mI "axis" v []))));rw[ut,pE,om (by decide+kernel),pE];exact k
theorem Om(T:Txt K mg t):FP P w mg base T.cf 1 (KM t):=by
 refine T.cf.F.ok Op λ_ A _ s H _ Q E n h=>?_
 ·refine nN h ?_;clear h;rintro p f a b c ⟨d,e,rfl,m,k⟩;have g:mI "low" b (mI "axis" a [])=([("axis",a),("low",b)]:zK):=by rw[pE,om (by decide+kernel),pE]
  have l:mI "high" c ([("axis",a),("low",b)]:zK)=([("axis",a),("low",b),("high",c)]:zK):=by rw[om (by decide+kernel),om (by decide+kernel),pE]
  have j:mI "inner" d ([("axis",a),("low",b),("high",c)]:zK)=([("axis",a),("low",b),("high",c),("inner",d)]:zK):=by rw[om (by decide+kernel),om (by decide+kernel),om (by decide+kernel),pE]
  have i:mI "outer" e ([("axis",a),("low",b),("high",c),("inner",d)]:zK)=([("axis",a),("low",b),("high",c),("inner",d),("outer",e)]:zK):=by rw[om (by decide+kernel),om (by decide+kernel),om (by decide+kernel),om (by decide+kernel),pE]
  refine rsq (dh ⟨oX (pv 0) (pv 1) rfl⟩ (dh ⟨oX (pv 0) (pv 2) rfl⟩ (dh ⟨oX (pv 0) (pv 3) rfl⟩ (dh ⟨oX (pv 0) (pv 4) rfl⟩ (ef ⟨oX (pv 0) (pv 5) rfl⟩))))) (pF _ rfl _ rfl p _ f [] rfl m T.aA T.bY (by decide) (pF _ rfl _ rfl p _ f _ rfl cp T.aA T.eP (by show 1<1000;decide) ?_));rw[ut,g];refine pF _ rfl _ rfl p _ f _ rfl cp T.aA T.dj (by show 2<1000;decide) ?_;rw[ut,l];refine pF _ rfl _ rfl p _ f _ rfl cp T.aA T.cQ (by show 3<1000;decide) ?_;rw[ut,j];refine pF _ rfl _ rfl p _ f _ rfl cp T.aA T.cW (by show 4<1000;decide) ?_;show Q V.non (upd (upd H p _) p _);rw[ut,i];exact k
theorem xx(h:T="NoneType"\/T="bool"\/T="int"\/T="str"\/T="tuple"):∀u,A2z (.ty "list") u->kitOne K (.type T) u=some false:=by rcases h with rfl|rfl|rfl|rfl|rfl<;>exact yt (by decide+kernel) (by decide+kernel) (by decide+kernel)
theorem yZ(h:T="NoneType"\/T="bool"\/T="int"\/T="str"):∀u,A2z (.ty "tuple") u->kitOne K (.type T) u=some false:=by rcases h with rfl|rfl|rfl|rfl<;>exact yt (by decide+kernel) (by decide+kernel) (by decide+kernel)
theorem yX(h:T="NoneType"\/T="bool"\/T="int"\/T="str"):∀u,A2z (.ty "dict") u->kitOne K (.type T) u=some false:=by rcases h with rfl|rfl|rfl|rfl<;>exact yt (by decide+kernel) (by decide+kernel) (by decide+kernel)
theorem Ee(T:Txt K mg t)(Ga0:A3i P w K mg base nj m t.d7 t.cP ["value"] sp')
  (hs:∀(v:V)(d:PyData)(H:Hp)(Q:VK),Rep H v d->PyData.depth d+1<=n->cnt d<=100000->(∀(L:V)(H':Hp),A0l H H'->Rep (lU (λa=>H a=none) H') L d->Q L H')->sp' [v] H Q E0):
  A3i P w K mg base nj (m+1) t.d7 t.cP ["value"] (Ay n):=by
 refine T.au.F.ok Bz λ_ A _ s H _ Q E Y h=>?_
 ·refine lS h ?_;clear h;rintro v d rfl rp X ⟨Z,k⟩;refine rsq (dh (lN (nn (nK pW (by rfl) T.a6 oW (ad (pv 0) (ad (rS (v:=V.ty "list") rfl T.b_ tF rfl) dt)))) (ef (hB (pC (N':=["member"]) (ix:=(List.replicate 1 none)) rfl (re rfl (by decide+kernel) (by decide+kernel)) (rc rfl) (vO (pv 0)) (λ_ _ _ _=>(hH (i:=0) wo)) (λ_ _ _ _=>(pcl Ga0 Y T.au (eg 0)))))) ⟨hC⟩) (dh (lN (nn (nK pW (by rfl) T.a6 oW (ad (pv 0) (ad (rS (v:=V.ty "tuple") rfl T.bh tL rfl) dt)))) (ef (hB (qN wA (by rfl) T.bh tL (ad (pC (N':=["member"]) (ix:=(List.replicate 1 none)) rfl (re rfl (by decide+kernel) (by decide+kernel)) (rc rfl) (vO (pv 0)) (λ_ _ _ _=>(hH (i:=0) wo)) (λ_ _ _ _=>(pcl Ga0 Y T.au (eg 0)))) dt)))) ⟨hC⟩) (dh (lN (nn (nK pW (by rfl) T.a6 oW (ad (pv 0) (ad (rS (v:=V.ty "dict") rfl T.dH vB rfl) dt)))) (ef ⟨Bg⟩) ⟨hC⟩) (ef (hB (pv 0)))))) ?_
  cases rp with
  |non=>refine md _ rfl _ _ _ _ rfl .non (xx (.inl rfl)) false rfl (hY ?_);refine md _ rfl _ _ _ _ rfl .non (yZ (.inl rfl)) false rfl (hY ?_);exact md _ rfl _ _ _ _ rfl .non (yX (.inl rfl)) false rfl (hY (cb _ rfl (k _ _ (A0l.refl _) .non)))
  |bl b=>refine md _ rfl _ _ _ _ rfl (.bl b) (xx (.inr (.inl rfl))) false rfl (hY ?_);refine md _ rfl _ _ _ _ rfl (.bl b) (yZ (.inr (.inl rfl))) false rfl (hY ?_);exact md _ rfl _ _ _ _ rfl (.bl b) (yX (.inr (.inl rfl))) false rfl (hY (cb _ rfl (k _ _ (A0l.refl _) (.bl b))))
  |int b=>refine md _ rfl _ _ _ _ rfl (.int b) (xx (.inr (.inr (.inl rfl)))) false rfl (hY ?_);refine md _ rfl _ _ _ _ rfl (.int b) (yZ (.inr (.inr (.inl rfl)))) false rfl (hY ?_);exact md _ rfl _ _ _ _ rfl (.int b) (yX (.inr (.inr (.inl rfl)))) false rfl (hY (cb _ rfl (k _ _ (A0l.refl _) (.int b))))
  |str b=>refine md _ rfl _ _ _ _ rfl (.str b) (xx (.inr (.inr (.inr (.inl rfl))))) false rfl (hY ?_);refine md _ rfl _ _ _ _ rfl (.str b) (yZ (.inr (.inr (.inr rfl)))) false rfl (hY ?_);exact md _ rfl _ _ _ _ rfl (.str b) (yX (.inr (.inr (.inr rfl)))) false rfl (hY (cb _ rfl (k _ _ (A0l.refl _) (.str b))))
  |@lst p xs ds e r=>
   have G:=r.len;have R:=A5 ds;have S:qf ds+1<=100000:=Z;have O:PyData.depthAll ds+1<=n:=X;refine md _ rfl _ _ _ _ rfl (.lst e) (wc "list") true rfl (nI ?_);refine .inl (mH _ rfl p rfl ⟨_,SqL.of e⟩ λD M=>?_)
   refine sJ (K:=K) (a:=p) (D:=D) (xs:=xs) (λi g j=>A0l H j/\j D=some (.lst g)/\A3m (lU (λa=>H a=none/\a≠D) j) g (ds.take i)/\g.length=i)
    (lX (ed M) cp (by rw[List.take_zero];exact .nil) rfl) (λi g j f=>SqL.of (f.1 _ _ e)) ?_ ?_
   ·rintro i x g j N ⟨f,c,B,y⟩;refine qE ?_;intro N';obtain⟨d,q,U⟩:=r.get2 N;obtain⟨c1,c2⟩:=Av q;have hi:i<xs.length:=(ml.mp N).1;refine kB True.intro _ rfl (hs x d j _ (U.same f) (by lia) (by lia) λL H5 I C=>?_);have u:¬(H D=none/\D≠D):=λz=>z.2 rfl;refine⟨I _ _ c,(lP (mC (by lia)) (mu (f.trans I) M) cp ?_ (by simp[y]))⟩;rw[mQ,q];show A3m _ (g++[L]) (ds.take i++[d]);refine(B.same (xr (mZ I) u)).snoc (C.same ((uc (A0l.refl _) λa o _ J=>⟨f.free J,λz=>?_⟩).trans (xr (A0l.refl _) u)));subst z;rw[c]at J;cases J
   ·rintro g j ⟨f,c,B,y⟩;refine k (.ref D) j f (.lst (mq M c) ?_);rw[G,na]at B;exact B.same (uc (A0l.refl _) λa o _ h=>h.1)
  |@tup p xs ds e r=>
   have G:=r.len;have R:=A5 ds;have S:qf ds+1<=100000:=Z;have O:PyData.depthAll ds+1<=n:=X;refine md _ rfl _ _ _ _ rfl (.tup e) (xx (.inr (.inr (.inr (.inr rfl))))) false rfl (hY ?_);refine md _ rfl _ _ _ _ rfl (.tup e) (wc "tuple") true rfl (nI ?_);refine .inr (mH _ rfl p rfl ⟨_,SqT.of e⟩ λD M=>?_)
   refine LZ (K:=K) (a:=p) (D:=D) (xs:=xs) (λi g j=>A0l H j/\j D=some (.lst g)/\A3m (lU (λa=>H a=none/\a≠D) j) g (ds.take i)/\g.length=i)
    (lX (ed M) cp (by rw[List.take_zero];exact .nil) rfl) (λi g j f=>SqT.of (f.1 _ _ e)) ?_ ?_
   ·rintro i x g j N ⟨f,c,B,y⟩;refine qE ?_;intro N';obtain⟨d,q,U⟩:=r.get2 N;obtain⟨c1,c2⟩:=Av q;have hi:i<xs.length:=(ml.mp N).1;refine kB True.intro _ rfl (hs x d j _ (U.same f) (by lia) (by lia) λL H5 I C=>?_);have u:¬(H D=none/\D≠D):=λz=>z.2 rfl;refine⟨I _ _ c,(lP (mC (by lia)) (mu (f.trans I) M) cp ?_ (by simp[y]))⟩;rw[mQ,q];show A3m _ (g++[L]) (ds.take i++[d]);refine(B.same (xr (mZ I) u)).snoc (C.same ((uc (A0l.refl _) λa o _ J=>⟨f.free J,λz=>?_⟩).trans (xr (A0l.refl _) u)));subst z;rw[c]at J;cases J
   ·rintro g j ⟨f,c,B,y⟩;refine mL D g rfl (.inl ⟨SqL.of c,λl W=>?_⟩);refine k (.ref l) _ (f.trans (ed W)) (.tup (mq (f.free W) cp) ?_);rw[G,na]at B;exact B.same ((uc (A0l.refl _) λa o _ h=>h.1).trans (mZ (ed W)))
theorem Bt(T:Txt K mg t):∀n:Nat,A3i P w K mg base nj (n+1) t.d7 t.cP ["value"] (Ay n)|0=>Ee T (sp':=λ_ _ _ _=>False) (m:=0) (A3i.none λ_ _ _ _ h=>h) λv d H Q _ h=>absurd h (by lia)|n+1=>Ee T (Bt T n) λv d H Q a c b k=>(mJ v d rfl a (by lia) b k)
theorem N9(T:Txt K mg t):FP P w mg base T.cI 5 (Kb t):=by
 refine T.cI.F.ok NV λ_ A _ s H _ Q E v h=>?_
 ·refine nU h ?_;clear h;rintro p f l x ix rfl i y r k;have B:=CN (ix:=ix);refine rsq (dh ⟨oX (pv 0) (pv 1) rfl⟩ (ef ⟨oX (pv 0) (pcl (Bt T 2) v T.au (eg 2)) rfl⟩)) (pF _ rfl _ rfl p _ f [] rfl i T.aI T.aM (by decide) ?_);refine cb _ rfl (mJ (.ref l) (oK ix) rfl (y.ins i) KH (by lia) λu D m d=>?_);have c:=m _ _ (cp (H:=H) (a:=p));refine ei (rQ (show Rep _ u (.list (ix.map pf)) from d)) ?_;rintro g G rfl I J;refine ng _ rfl p _ f _ rfl c T.aI T.aZ ⟨(by show 1<1000;decide),?_⟩;show Q V.non (upd D p (.ins t.aa f (mI "indexes" (.ref g) (mI "array" (.str x) []))));rw[pE,om (by decide+kernel),pE]
  have j:∀{q:zW},upd H p (.ins t.aa f (mI "array" (.str x) [])) q=none->H q=none:=λ{q} z=>by
   by_cases zb:q=p
   ·subst zb;rw[cp]at z;cases z
   ·rw[eh zb]at z;exact z
  refine k g _ cp (d.imp2 (λq C z=>mq (j (mY z).1) (by rw[eh (mU (mY z).2 c (by intro z;cases z))];exact(mY z).2)) λq C z=>mq (j (mY z).1) (by rw[eh (mU (mY z).2 c (by intro z;cases z))];exact(mY z).2)) λb o n e=>?_;rw[eh n];exact m _ _ (by rw[eh n];exact e)
theorem DB(T:Txt K mg t):FO P w base T.au 1 (Hx t):=by
 refine T.au.F.ok Bz λ_ A _ s H _ Q E c h=>?_
 ·refine mF h ?_;clear h;rintro a d f ⟨rfl,e,k⟩;have Ga0:A3i P w K mg base nj 0 t.d7 t.cP ["value"] (λ_ _ _ _=>False):=A3i.none λ_ _ _ _ h=>h;have b:nX K H (.ref a) (.ref t.aV):=.ins e T.aF T.iA.ha T.iA.hn T.iA.htk T.iA.hm;refine rsq (dh (lN (nn (nK pW (by rfl) T.a6 oW (ad (pv 0) (ad (rS (v:=V.ty "list") rfl T.b_ tF rfl) dt)))) (ef (hB (pC (N':=["member"]) (ix:=(List.replicate 1 none)) rfl (re rfl (by decide+kernel) (by decide+kernel)) (rc rfl) (vO (pv 0)) (λ_ _ _ _=>(hH (i:=0) wo)) (λ_ _ _ _=>(pcl Ga0 c T.au (eg 0)))))) ⟨hC⟩) (dh (lN (nn (nK pW (by rfl) T.a6 oW (ad (pv 0) (ad (rS (v:=V.ty "tuple") rfl T.bh tL rfl) dt)))) (ef (hB (qN wA (by rfl) T.bh tL (ad (pC (N':=["member"]) (ix:=(List.replicate 1 none)) rfl (re rfl (by decide+kernel) (by decide+kernel)) (rc rfl) (vO (pv 0)) (λ_ _ _ _=>(hH (i:=0) wo)) (λ_ _ _ _=>(pcl Ga0 c T.au (eg 0)))) dt)))) ⟨hC⟩) (dh (lN (nn (nK pW (by rfl) T.a6 oW (ad (pv 0) (ad (rS (v:=V.ty "dict") rfl T.dH vB rfl) dt)))) (ef ⟨Bg⟩) ⟨hC⟩) (ef (hB (pv 0)))))) ?_;refine md _ rfl _ _ _ _ rfl b (Ax T.jd (by decide+kernel)) false rfl (hY ?_);refine md _ rfl _ _ _ _ rfl b (Ax T.iP (by decide+kernel)) false rfl (hY ?_);exact md _ rfl _ _ _ _ rfl b (Ax T.jf (by decide+kernel)) false rfl (hY (cb _ rfl k))
theorem Jy(T:Txt K mg t):FO P w base T.au 2 (C6 t):=by
 refine T.au.F.ok Bz λ_ A _ s H _ Q E l h=>?_
 ·refine lS h ?_;clear h;rintro p xs rfl e u ⟨q,k⟩;refine rsq (dh (lN (nn (nK pW (by rfl) T.a6 oW (ad (pv 0) (ad (rS (v:=V.ty "list") rfl T.b_ tF rfl) dt)))) (ef (hB (pC (N':=["member"]) (ix:=(List.replicate 1 none)) rfl (re rfl (by decide+kernel) (by decide+kernel)) (rc rfl) (vO (pv 0)) (λ_ _ _ _=>(hH (i:=0) wo)) (λ_ _ _ _=>(pcl (DB T) l T.au (eg 0)))))) ⟨hC⟩) (dh (lN (nn (nK pW (by rfl) T.a6 oW (ad (pv 0) (ad (rS (v:=V.ty "tuple") rfl T.bh tL rfl) dt)))) (ef (hB (qN wA (by rfl) T.bh tL (ad (pC (N':=["member"]) (ix:=(List.replicate 1 none)) rfl (re rfl (by decide+kernel) (by decide+kernel)) (rc rfl) (vO (pv 0)) (λ_ _ _ _=>(hH (i:=0) wo)) (λ_ _ _ _=>(pcl (DB T) l T.au (eg 0)))) dt)))) ⟨hC⟩) (dh (lN (nn (nK pW (by rfl) T.a6 oW (ad (pv 0) (ad (rS (v:=V.ty "dict") rfl T.dH vB rfl) dt)))) (ef ⟨Bg⟩) ⟨hC⟩) (ef (hB (pv 0)))))) ?_;refine md _ rfl _ _ _ _ rfl (.lst e) (wc "list") true rfl (nI ?_);refine .inl (mH _ rfl p rfl ⟨_,SqL.of e⟩ λD j=>?_)
  refine sJ (K:=K) (a:=p) (D:=D) (xs:=xs) (λi g d=>A0l H d/\d D=some (.lst g)/\g=xs.take i)
   (fI (ed j) cp rfl) (λi g d c=>SqL.of (c.1 _ _ e)) ?_ ?_
  ·rintro i x g d f ⟨c,b,rfl⟩;refine qE ?_;intro N';refine mF (q x (me f)) ?_;rintro a m n ⟨rfl,r⟩;have o:(xs.take i).length<=xs.length:=by rw[mK];lia
   refine kB True.intro _ rfl (qA a m n rfl (c _ _ r) b (mC (by lia)) (mu c j) ⟨cp,?_⟩);rw[mQ,f];rfl
  ·rintro g d ⟨c,b,rfl⟩;rw[na]at b;exact k D d j c b
theorem wV(T:Txt K mg t):FO P w base T.au 4 (λvs H Q E=>Ay 3 vs H Q E\/C6 t vs H Q E):=A3i.or (Bt T 3) ((Jy T).mono (by lia))
theorem NP(T:Txt K mg t):FP P w mg base T.dN 5 (Ks t):=by
 refine T.dN.F.ok NI λ_ A _ s H _ Q E C h=>?_
 ·refine nN h ?_;clear h;rintro p g l n x ⟨y,rfl,i,v,J,k⟩;obtain⟨M,O⟩:=Dk y;have N:l≠p:=mU v i (by intro z;cases z);refine rsq (dh ⟨oX (pv 0) (pv 1) rfl⟩ (dh ⟨oX (pv 0) (pcl (wV T) C T.au (eg 2)) rfl⟩ (ef ⟨oX (pv 0) (pv 3) rfl⟩))) (pF _ rfl _ rfl p _ g [] rfl i T.aF T.aH (by decide) ?_);refine cb _ rfl (.inl (mJ (.ref l) (rZ y) rfl ((As v).ins i) (by lia) (by lia) λL I r j=>?_));have q:=r _ _ (cp (H:=H) (a:=p));obtain⟨c,rfl,m⟩:=yg j;obtain⟨d,m⟩:=mY m
  have f:H c=none:=by
   by_cases z:c=p
   ·subst z;rw[cp]at d;cases d
   ·rw[eh z]at d;exact d
  have G:c≠p:=λz=>by subst z;rw[i]at f;cases f
  refine ng _ rfl p _ g _ rfl q T.aF T.aT ⟨(by show 1<1000;decide),?_⟩;refine pF _ rfl _ rfl p _ g _ rfl cp T.aF T.bp (by show 2<1000;decide) ?_;show Q V.non (upd (upd I p _) p (.ins t.aV g (mI "term" n (mI "axes" (.ref c) (mI "name" (.str x) [])))));have B:mI "axes" (V.ref c) (mI "name" (.str x) [])=([("name",.str x),("axes",.ref c)]:zK):=by rw[pE,om (by decide+kernel),pE]
  have D:mI "term" n ([("name",.str x),("axes",.ref c)]:zK)=([("name",.str x),("axes",.ref c),("term",n)]:zK):=by rw[om (by decide+kernel),om (by decide+kernel),pE]
  rw[ut,B,D];refine k c _ f cp (by rw[eh G];exact m) λb o u e=>?_;rw[eh u];exact r _ _ (by rw[eh u];exact e)
theorem OT(T:Txt K mg t):FP P w mg base T.bL 5 (Kg t):=by
 refine T.bL.F.ok OV λ_ A _ s H _ Q E hr h=>?_
 ·refine pZ h ?_;clear h;rintro p f a tt l o c ax tb ⟨M,os,rfl,hp,ra,la,rt,lt,b2,hl,ll,hx,ro,lo,k⟩;have a2:=KK ax;have a3:=CN (ix:=ax);obtain⟨t2,t3⟩:=Lp tb b2;obtain⟨o2,o3⟩:=Dk os
  have fr:∀{H':Hp}{u:HO}{b:zW},A0l (upd H p u) H'->H' b=none->H b=none:=λ{H' u b} s z=>by
   have y:=s.free z;by_cases zb:b=p
   ·subst zb;rw[cp]at y;cases y
   ·rw[eh zb]at y;exact y
  have e1:∀v:V,mI "axes" v [("wheel",.int c)]=([("wheel",.int c),("axes",v)]:zK):=λv=>by rw[om (by decide+kernel),pE]
  have e2:∀u v:V,mI "tables" v [("wheel",.int c),("axes",u)]=([("wheel",.int c),("axes",u),("tables",v)]:zK):=λu v=>by rw[om (by decide+kernel),om (by decide+kernel),pE]
  have e3:∀L u v:V,mI "lets" v [("wheel",.int c),("axes",L),("tables",u)]=([("wheel",.int c),("axes",L),("tables",u),("lets",v)]:zK):=λL u v=>by rw[om (by decide+kernel),om (by decide+kernel),om (by decide+kernel),pE]
  have e4:∀L u2 u v:V,mI "outs" v [("wheel",.int c),("axes",L),("tables",u2),("lets",u)]=([("wheel",.int c),("axes",L),("tables",u2),("lets",u),("outs",v)]:zK):=λL u2 u v=>by rw[om (by decide+kernel),om (by decide+kernel),om (by decide+kernel),om (by decide+kernel),pE]
  refine rsq (dh ⟨oX (pv 0) (pv 1) rfl⟩ (dh ⟨oX (pv 0) (pcl (wV T) hr T.au (eg 2)) rfl⟩ (dh ⟨oX (pv 0) (pcl (wV T) hr T.au (eg 3)) rfl⟩ (dh ⟨oX (pv 0) (pcl (wV T) hr T.au (eg 4)) rfl⟩ (ef ⟨oX (pv 0) (pcl (wV T) hr T.au (eg 5)) rfl⟩))))) (pF _ rfl _ rfl p _ f [] rfl hp T.af T.fc (by decide) ?_);rw[pE];refine cb _ rfl (.inl (mJ (.ref a) (oK ax) rfl (ra.ins hp) (by lia) (by lia) λva H2 W Y=>?_));have O:=W _ _ (cp (H:=H) (a:=p));refine ei (rQ (show Rep _ va (.list (ax.map pf)) from Y)) ?_;rintro i xa rfl ea _;refine ng _ rfl p _ f _ rfl O T.af T.br ⟨(by show 1<1000;decide),?_⟩;rw[e1];have sA:∀b u,b≠p->H b=some u->upd H2 p (.ins t.a9 f [("wheel",.int c),("axes",.ref i)]) b=some u:=λb u m e=>by rw[eh m];exact W _ _ (by rw[eh m];exact e)
  have rA:Rep (lU (λb=>H b=none) (upd H2 p (.ins t.a9 f [("wheel",.int c),("axes",.ref i)]))) (.ref i) (oK ax):=by
   refine Y.imp2 (λq g z=>?_) λq g z=>?_
   ·obtain⟨z1,y⟩:=mY z;have hq:H q=none:=fr (A0l.refl _) z1;exact mq hq (by rw[eh (mU y O (by intro z;cases z))];exact y)
   ·obtain⟨z1,y⟩:=mY z;have hq:H q=none:=fr (A0l.refl _) z1;exact mq hq (by rw[eh (mU y O (by intro z;cases z))];exact y)
  have j:∀{b:zW}{u:HO},H b=some u->(∀C d fs,u≠.ins C d fs)->b≠p:=λe n z=>by subst z;rw[hp]at e;cases e;exact n _ _ _ rfl
  have a5:Rep (upd H2 p (.ins t.a9 f [("wheel",.int c),("axes",.ref i)])) (.ref tt) (tS tb):=rt.imp2 (λq g z=>sA _ _ (j z (by intros;intro z;cases z)) z) λq g z=>sA _ _ (j z (by intros;intro z;cases z)) z;refine cb _ rfl (.inl (mJ (.ref tt) (tS tb) rfl a5 (by lia) (by lia) λvt Z s3 a4=>?_));have U:=s3 _ _ (cp (H:=H2) (a:=p));refine ei (rQ (show Rep _ vt (.list (tb.map qT)) from a4)) ?_;rintro J xt rfl et _;refine ng _ rfl p _ f _ rfl U T.af T.aL ⟨(by show 2<1000;decide),?_⟩;rw[e2]
  have f3:∀{b:zW},upd H2 p (.ins t.a9 f [("wheel",.int c),("axes",.ref i)]) b=none->H b=none:=λ{b} z=>by
   by_cases zb:b=p
   ·subst zb;rw[cp]at z;cases z
   ·rw[eh zb]at z;exact fr W z
  have a1:∀{v:V}{d:PyData}{G:Hp},A0l G Z->(∀b o,G b=some o->H b=none)->Rep G v d->Rep (lU (λb=>H b=none) (upd Z p (.ins t.a9 f [("wheel",.int c),("axes",.ref i),("tables",.ref J)]))) v d:=λ{v d G} sg hg r=>r.imp2 (λq g z=>mq (hg _ _ z) (by rw[eh (mU (sg _ _ z) U (by intro z;cases z))];exact sg _ _ z)) λq g z=>mq (hg _ _ z) (by rw[eh (mU (sg _ _ z) U (by intro z;cases z))];exact sg _ _ z);have sB:∀b u,b≠p->H b=some u->upd Z p (.ins t.a9 f [("wheel",.int c),("axes",.ref i),("tables",.ref J)]) b=some u:=λb u m e=>by rw[eh m];exact s3 _ _ (sA b u m e)
  have a7:=a1 (oN.trans s3) (λb o z=>(mY z).1) rA;have b1:=a1 oN (λb o z=>f3 (mY z).1) a4;refine cb _ rfl (.inr (mJ l M rfl (sB _ _ (j hl (by intros;intro z;cases z)) hl) ll (λx b0=>?_) λI H4 D s4 a8=>?_))
  ·refine mF (hx x b0) ?_;rintro b db fs ⟨rfl,nb,eb⟩;exact pb b db fs rfl (sB _ _ nb eb)
  have a0:=s4 _ _ (cp (H:=Z) (a:=p));refine ng _ rfl p _ f _ rfl a0 T.af T.aG ⟨(by show 3<1000;decide),?_⟩;rw[e3]
  have R:H I=none:=by
   by_cases zb:I=p
   ·subst zb;rw[cp]at D;cases D
   ·rw[eh zb]at D;exact f3 (s3.free D)
  have lp:I≠p:=λz=>by subst z;rw[hp]at R;cases R
  have sC:∀b u,b≠p->H b=some u->upd H4 p (.ins t.a9 f [("wheel",.int c),("axes",.ref i),("tables",.ref J),("lets",.ref I)]) b=some u:=λb u m e=>by rw[eh m];exact s4 _ _ (sB b u m e)
  have a6:Rep (upd H4 p (.ins t.a9 f [("wheel",.int c),("axes",.ref i),("tables",.ref J),("lets",.ref I)])) (.ref o) (rZ os):=ro.imp2 (λq g z=>sC _ _ (j z (by intros;intro z;cases z)) z) λq g z=>sC _ _ (j z (by intros;intro z;cases z)) z;refine cb _ rfl (.inl (mJ (.ref o) (rZ os) rfl a6 (by lia) (by lia) λvo H5 s5 X=>?_));have N:=s5 _ _ (cp (H:=H4) (a:=p));obtain⟨o',rfl,eo⟩:=yg X;refine ng _ rfl p _ f _ rfl N T.af T.cF ⟨(by show 4<1000;decide),?_⟩;show Q V.non (upd H5 p _);rw[e4]
  have f5:∀{b:zW},upd H4 p (.ins t.a9 f [("wheel",.int c),("axes",.ref i),("tables",.ref J),("lets",.ref I)]) b=none->H b=none:=λ{b} z=>by
   by_cases zb:b=p
   ·subst zb;rw[cp]at z;cases z
   ·rw[eh zb]at z;have z:=s4.free z;rw[eh zb]at z;exact f3 (s3.free z)
  have S:∀{v:V}{d:PyData}{G:Hp},(∀b M,G b=some (.lst M)->H5 b=some (.lst M))->(∀b M,G b=some (.tup M)->H5 b=some (.tup M))->(∀b o,G b=some o->H b=none)->Rep G v d->Rep (lU (λb=>H b=none) (upd H5 p (.ins t.a9 f [("wheel",.int c),("axes",.ref i),("tables",.ref J),("lets",.ref I),("outs",.ref o')]))) v d:=λ{v d G} s1 W hg r=>r.imp2 (λq g z=>mq (hg _ _ z) (by rw[eh (mU (s1 _ _ z) N (by intro z;cases z))];exact s1 _ _ z)) λq g z=>mq (hg _ _ z) (by rw[eh (mU (W _ _ z) N (by intro z;cases z))];exact W _ _ z)
  have B:∀{b:zW}{u:HO},(∀C d fs,u≠.ins C d fs)->upd Z p (.ins t.a9 f [("wheel",.int c),("axes",.ref i),("tables",.ref J)]) b=some u->H5 b=some u:=λ{b u} n z=>s5 _ _ (by
   have z4:=s4 _ _ z;rw[eh (mU z4 a0 (n _ _ _))]
   exact z4)
  refine k i J I o' _ cp (S (λb g z=>B (by intros;intro z;cases z) (oN _ _ z)) (λb g z=>B (by intros;intro z;cases z) (oN _ _ z)) (λb o z=>(mY z).1) a7)
   (S (λb g z=>B (by intros;intro z;cases z) (oN _ _ z)) (λb g z=>B (by intros;intro z;cases z) (oN _ _ z)) (λb o z=>(mY z).1) b1) R ?_
   (S (λb g z=>oN _ _ z) (λb g z=>oN _ _ z) (λb o z=>f5 (mY z).1) X) λb u m e=>?_
  ·rw[eh lp];exact s5 _ _ (by rw[eh lp];exact a8)
  ·rw[eh m];exact s5 _ _ (sC b u m e)
theorem pI{α β:Type}{F:α->β->Prop}:∀{l:List α}{m:List β},Paired F l m->∀{i:Nat}{x:α},l[i]?=some x->∃y,m[i]?=some y/\F x y|_,_,.nil,i,x,e=>by simp at e|_,_,.cons r t,0,x,e=>by simp at e;subst e;exact cb _ rfl r|_,_,.cons r t,i+1,x,e=>by obtain⟨y,b,a⟩:=pI t (i:=i) (by simpa using e);exact cb y (by simpa using b) a
theorem pQ{α β:Type}{F:α->β->Prop}:∀{a c:List α}{b d:List β},Paired F a b->Paired F c d->Paired F (a++c) (b++d)|_,_,_,_,.nil,h=>h|_,_,_,_,.cons r t,h=>.cons r (pQ t h)
def qt(a:zL):zJ:=a.map λe=>(Sum.inr e.1,V.int e.2)
theorem Co{H:Hp}:∀{c:zL}{xs:zM},A3m H xs (c.map pf)->PL H xs (qt c)
 | [],_,r=>by cases r;exact .nil
 |e::c,_,r=>by
  rw[mi]at r
  cases r with
  |cons a r=>obtain⟨b,rfl,d⟩:=yc a;exact .cons (cb b rfl d) (Co r)
def LL(A:Adr):Sp:=λe H Q _=>∃(p d:zW)(a b c:V),e=[.ref p,a,b,c]/\H p=some (.ins A.aC d [])/\Q .non (upd H p (.ins A.aC d [("term",a),("sums",b),("guards",c)]))
def L6(A:Adr):Sp:=λc H Q _=>∃(p:V)(u:Tm)(s:zC)(g:List Gd)(S:zV),c=[p]/\Fr S H/\A4l A (lU S H) p (u,s,g)/\∀(q:zW)(b:zM)(a:Hp),H q=none->A0l H a->a q=some (.lst b)->Paired (A4l A (lU S a)) b (qu u s g)->Q (.ref q) a
def Dz(A:Adr)(n:Nat):Sp:=λc H Q _=>∃(p:V)(u:Tm)(s:zC)(g:List Gd)(S:zV),c=[p]/\Fr S H/\A4l A (lU S H) p (u,s,g)/\dep u<=n/\nod u<=1000/\∀(q:zW)(b:zM)(a:Hp),H q=none->A0l H a->a q=some (.lst b)->Paired (A4l A (lU S a)) b (prT u s g)->Q (.ref q) a
def J7(A:Adr):Sp:=λc H Q _=>∃(v:V)(u:Tm),c=[v]/\Ob A H v u/\dep u<=9/\nod u<=1000/\∀(q:zW)(b:zM)(a:Hp),H q=none->A0l H a->a q=some (.lst b)->Paired (A4l A a) b (prT u [] [])->Q (.ref q) a
theorem vu{x:zW}{u v:HO}(a:H x=none)(b:H dx=none):A0l H (upd (upd (upd H dx o) x u) x v):=tw a b
theorem wx(T:Txt K mg t):FP P w mg base T.aP 1 (LL t):=by
 refine T.aP.F.ok N3 λ_ A _ s H _ Q E i h=>?_
 ·refine nN h ?_;clear h;rintro p d a b c ⟨rfl,g,k⟩;have e:mI "sums" b (mI "term" a [])=([("term",a),("sums",b)]:zK):=by rw[pE,om (by decide+kernel),pE]
  have f:mI "guards" c ([("term",a),("sums",b)]:zK)=([("term",a),("sums",b),("guards",c)]:zK):=by rw[om (by decide+kernel),om (by decide+kernel),pE]
  refine rsq (dh ⟨oX (pv 0) (pv 1) rfl⟩ (dh ⟨oX (pv 0) (pv 2) rfl⟩ (ef ⟨oX (pv 0) (pv 3) rfl⟩))) (pF _ rfl _ rfl p _ d [] rfl g T.aj T.ay (by decide) (pF _ rfl _ rfl p _ d _ rfl cp T.aj T.av (by show 1<1000;decide) ?_));rw[ut,e];refine pF _ rfl _ rfl p _ d _ rfl cp T.aj T.aD (by show 2<1000;decide) ?_;show Q V.non (upd (upd H p _) p _);rw[ut,f];exact k
theorem mR{A:zW}{B:zW}{b:Bool}(h:kitOne K (.ref A) (.ref B)=some b):∀u,A2z (.ref B) u->kitOne K (.ref A) u=some b:=λu z=>by
 cases(show u=Value.ref B from z)
 exact h
theorem xc(T:Txt K mg t){a:zW}{k:Op3}{fs:zK}(e:H a=some (.ins (qL t k) dx fs)):nX K H (.ref a) (.ref (qL t k)):=by
 cases k with
 |plus=>exact .ins e T.jO T.eI.ha T.eI.hn T.eI.htk T.eI.hm
 |minus=>exact .ins e T.j8 T.cK.ha T.cK.hn T.cK.htk T.cK.hm
 |times=>exact .ins e T.jg T.cR.ha T.cR.hn T.cR.htk T.cR.hm
theorem Jf(T:Txt K mg t)(k:Op3):kitOne K (.ref (qL t k)) (.ref t.bu)=some true:=by
 cases k with
 |plus=>exact T.iS
 |minus=>exact T.hJ
 |times=>exact T.g_
theorem vR(T:Txt K mg t)(k:Op3):Cls K (qL t k):=by cases k with|plus=>exact T.jO|minus=>exact T.j8|times=>exact T.jg
theorem ya(T:Txt K mg t)(k:Op3):A1j K (qL t k) "left":=by cases k with|plus=>exact T.iW|minus=>exact T.hZ|times=>exact T.gZ
theorem yb(T:Txt K mg t)(k:Op3):A1j K (qL t k) "right":=by cases k with|plus=>exact T.i6|minus=>exact T.gD|times=>exact T.gJ
theorem Pb(T:Txt K mg t):FO P w base T.aS 3 (L6 t):=by
 refine T.aS.F.ok zh λ_ A _ s H _ Q E hr h=>?_
 ·refine nN h ?_;clear h;rintro p u ss gg S ⟨rfl,C,⟨a,i,tv,L,I,B,rfl,e0,ob,m,J,bg,bs,pg⟩,k⟩;have e:=oN _ _ e0;have hs:=oN _ _ m;have hg:=oN _ _ J;refine rsq (dh (hK 1 zh.nd (lJ (pv 0) rfl)) (dh (lN (nn (nK pW (by rfl) T.a6 oW (ad (pv 1) (ad (sv (v:=V.ref t.bu) rfl T.lj rfl) dt)))) (ef (hB (@oG _ _ _ _ (ad (pmk T.da (wx T) hr T.f9 T.aP.b (ad (lJ (pv 1) rfl) (ad (lJ (pv 0) rfl) (ad (lJ (pv 0) rfl) dt)))) (ad (pmk T.da (wx T) hr T.f9 T.aP.b (ad (lJ (pv 1) rfl) (ad (lJ (pv 0) rfl) (ad (lJ (pv 0) rfl) dt)))) dt))))) ⟨hC⟩) (dh (lN (nn (nK pW (by rfl) T.a6 oW (ad (pv 1) (ad (sv (v:=V.ref t.aJ) rfl T.jM rfl) dt)))) (ef (hB (@oG _ _ _ _ (ad (pmk T.da (wx T) hr T.f9 T.aP.b (ad (lJ (pv 1) rfl) (ad (eB rO (lJ (pv 0) rfl) (@oG _ _ _ _ (ad (lJ (pv 1) rfl) dt))) (ad (lJ (pv 0) rfl) dt)))) dt)))) ⟨hC⟩) (dh (lN (nn (nK pW (by rfl) T.a6 oW (ad (pv 1) (ad (sv (v:=V.ref t.a7) rfl T.iQ rfl) dt)))) (dh (hK 2 zh.nd (pmk T.da (wx T) hr T.f9 T.aP.b (ad (lJ (pv 1) rfl) (ad (lJ (pv 0) rfl) (ad (eB rO (lJ (pv 0) rfl) (@oG _ _ _ _ (ad (oQ (ad (pv 1) (ad oF dt))) dt))) dt))))) (dh (hK 3 zh.nd (pmk T.da (wx T) hr T.f9 T.aP.b (ad (lJ (pv 1) rfl) (ad (lJ (pv 0) rfl) (ad (eB rO (lJ (pv 0) rfl) (@oG _ _ _ _ (ad (oQ (ad (pv 1) (ad oF dt))) dt))) dt))))) (ef (hB (@oG _ _ _ _ (ad (pv 2) (eg 3))))))) ⟨hC⟩) (ef (hB (@oG _ _ _ _ dt))))))) ?_;refine hP _ rfl a _ i _ _ rfl e T.aj T.ay (by walk_at"lk") ?_
  cases id ob with
  |@num o dd z eo0=>have g:=oN _ _ eo0;have f:nX K H (.ref o) (.ref t.aE):=.ins g T.bF T.ae.ha T.ae.hn T.ae.htk T.ae.hm;refine md _ rfl _ _ _ _ rfl f (mR T.gK) false rfl (hY ?_);refine md _ rfl _ _ _ _ rfl f (mR T.bZ) false rfl (hY ?_);refine md _ rfl _ _ _ _ rfl f (mR T.cB) false rfl (hY ?_);exact⟨kr rfl,λq d=>k q [] _ d (ed d) cp .nil⟩
  |@place o dd x eo0=>have g:=oN _ _ eo0;have f:nX K H (.ref o) (.ref t.ac):=.ins g T.bJ T.ao.ha T.ao.hn T.ao.htk T.ao.hm;refine md _ rfl _ _ _ _ rfl f (mR T.ib) false rfl (hY ?_);refine md _ rfl _ _ _ _ rfl f (mR T.cv) false rfl (hY ?_);refine md _ rfl _ _ _ _ rfl f (mR T.gR) false rfl (hY ?_);exact⟨kr rfl,λq d=>k q [] _ d (ed d) cp .nil⟩
  |@read o dd ll x ix eo0 rp0=>have g:=oN _ _ eo0;have f:nX K H (.ref o) (.ref t.aa):=.ins g T.aI T.aB.ha T.aB.hn T.aB.htk T.aB.hm;refine md _ rfl _ _ _ _ rfl f (mR T.iJ) false rfl (hY ?_);refine md _ rfl _ _ _ _ rfl f (mR T.cH) false rfl (hY ?_);refine md _ rfl _ _ _ _ rfl f (mR T.dy) false rfl (hY ?_);exact⟨kr rfl,λq d=>k q [] _ d (ed d) cp .nil⟩
  |@sum o dd x v b eo0 ob1=>
   have g:=oN _ _ eo0;have f:nX K H (.ref o) (.ref t.aJ):=.ins g T.bK T.aO.ha T.aO.hn T.aO.htk T.aO.hm;simp only [dep]at bg bs;refine md _ rfl _ _ _ _ rfl f (mR T.j3) false rfl (hY ?_);refine md _ rfl _ _ _ _ rfl f (mR T.dB) true rfl (nI ?_);refine hP _ rfl o _ dd _ _ rfl g T.bK T.cY (by walk_at"lk") (hP _ rfl a _ i _ _ rfl e T.aj T.av (by walk_at"lk") (hP _ rfl o _ dd _ _ rfl g T.bK T.bR (by walk_at"lk") ⟨kr rfl,λl1 O=>?_⟩));have D:A0l H (upd H l1 (.lst [.str x])):=ed O;refine og L l1 _ _ rfl rfl (D _ _ hs) cp (lK (by simp;lia)) λl2 n=>?_;have X:=D.trans (ed (o:=.lst (ss.map V.str++[.str x])) n);refine hP _ rfl a _ i _ _ rfl (X _ _ e) T.aj T.aD (by walk_at"lk") λnp dn hn a3 a8=>⟨np,(nD dn _ _ _ rfl cp rfl (kr rfl) λq d=>?_)⟩;have s3:=X.trans (vu (o:=.own np) (u:=.ins t.aC dn []) (v:=.ins t.aC dn [("term",v),("sums",.ref l2),("guards",.ref I)]) hn a3);have c:=s3.trans (ed (o:=.lst [.ref np]) d);refine k q _ _ (s3.free d) c cp (.cons (oZ np dn v l2 I B rfl (mq (C _ (X.free hn)) ?_) (ob1.imp (mZ c)) (mq (C _ (D.free n)) ?_) (mZ c _ _ J) (by show B.length+dep b<=100;lia) ⟨by show(ss++[x]).length+dep b<=100;rw[mx];simp only [nG,pO];lia,Paired.mapP pg λ_ _ z=>z.same (mZ c)⟩) .nil)
   ·exact(ed d) _ _ cp
   ·have e2:=((vu (o:=.own np) (u:=.ins t.aC dn []) (v:=.ins t.aC dn [("term",v),("sums",.ref l2),("guards",.ref I)]) hn a3).trans (ed (o:=.lst [.ref np]) d)) _ _ (cp (H:=upd H l1 (.lst [.str x])) (a:=l2) (o:=.lst (ss.map V.str++[.str x])));rw[lR];exact e2
  |@pair o dd op v1 v2 l r eo0 ob1 ob2=>have g:=oN _ _ eo0;simp only [dep]at bg bs;refine md _ rfl _ _ _ _ rfl (xc T g) (mR (Jf T op)) true rfl (nI ?_);refine hP _ rfl o _ dd _ _ rfl g (vR T op) (ya T op) (by walk_at"lk") (hP _ rfl a _ i _ _ rfl e T.aj T.av (by walk_at"lk") (hP _ rfl a _ i _ _ rfl e T.aj T.aD (by walk_at"lk") λG N y W a4=>(oi G N (mh _ _ _ rfl cp rfl ?_))));have D:=vu (o:=.own G) (u:=.ins t.aC N []) (v:=.ins t.aC N [("term",v1),("sums",.ref L),("guards",.ref I)]) y W;refine hP _ rfl o _ dd _ _ rfl (D _ _ g) (vR T op) (yb T op) (by walk_at"lk") (hP _ rfl a _ i _ _ rfl (D _ _ e) T.aj T.av (by walk_at"lk") (hP _ rfl a _ i _ _ rfl (D _ _ e) T.aj T.aD (by walk_at"lk") λM R j Z a5=>⟨M,(nD R _ _ _ rfl cp rfl (kr rfl) λq d=>?_)⟩));have X:=vu (o:=.own M) (u:=.ins t.aC R []) (v:=.ins t.aC R [("term",v2),("sums",.ref L),("guards",.ref I)]) j Z;have s3:=ed (o:=.lst [.ref G,.ref M]) d;have c:=D.trans (X.trans s3);refine k q _ _ ((D.trans X).free d) c cp (.cons (oZ G N v1 L I B rfl (mq (C _ y) (s3 _ _ (X _ _ cp))) (ob1.imp (mZ c)) (mZ c _ _ m) (mZ c _ _ J) (by show B.length+dep l<=100;lia) ⟨by show ss.length+dep l<=100;lia,Paired.mapP pg λ_ _ z=>z.same (mZ c)⟩) (.cons (oZ M R v2 L I B rfl (mq (C _ (D.free j)) (s3 _ _ cp)) (ob2.imp (mZ c)) (mZ c _ _ m) (mZ c _ _ J) (by show B.length+dep r<=100;lia) ⟨by show ss.length+dep r<=100;lia,Paired.mapP pg λ_ _ z=>z.same (mZ c)⟩) .nil))
  |@guard o dd x lo hi v1 v2 l r eo0 ob1 ob2=>have g:=oN _ _ eo0;have f:nX K H (.ref o) (.ref t.a7):=.ins g T.aA T.am.ha T.am.hn T.am.htk T.am.hm;simp only [dep]at bg bs;refine md _ rfl _ _ _ _ rfl f (mR T.gX) false rfl (hY ?_);refine md _ rfl _ _ _ _ rfl f (mR T.cr) false rfl (hY ?_);refine md _ rfl _ _ _ _ rfl f (mR T.c_) true rfl (nI ?_);refine hP _ rfl o _ dd _ _ rfl g T.aA T.cQ (by walk_at"lk") (hP _ rfl a _ i _ _ rfl e T.aj T.av (by walk_at"lk") (hP _ rfl a _ i _ _ rfl e T.aj T.aD (by walk_at"lk") (fx _ rfl (kr rfl) λt1 a1=>⟨kr rfl,λl1 O=>?_⟩)));have z1:=(ed (o:=.tup [.ref o,.bl true]) a1).trans (ed (o:=.lst [.ref t1]) O);refine og I l1 _ _ rfl rfl (z1 _ _ hg) cp (lK (by simp;lia)) λg1 Y=>?_;have z2:=z1.trans (ed (o:=.lst (B++[.ref t1])) Y);refine λG N y W a4=>(oi G N (mh _ _ _ rfl cp rfl ?_));have y1:=vu (o:=.own G) (u:=.ins t.aC N []) (v:=.ins t.aC N [("term",v1),("sums",.ref L),("guards",.ref g1)]) y W;have U:=z2.trans y1;refine hP _ rfl o _ dd _ _ rfl (U _ _ g) T.aA T.cW (by walk_at"lk") (hP _ rfl a _ i _ _ rfl (U _ _ e) T.aj T.av (by walk_at"lk") (hP _ rfl a _ i _ _ rfl (U _ _ e) T.aj T.aD (by walk_at"lk") (fx _ rfl (kr rfl) λt2 a2=>⟨kr rfl,λl2 n=>?_⟩)));have y2:=(ed (o:=.tup [.ref o,.bl false]) a2).trans (ed (o:=.lst [.ref t2]) n);refine og I l2 _ _ rfl rfl (y2 _ _ (U _ _ hg)) cp (lK (by simp;lia)) λg2 a0=>?_;have y3:=y2.trans (ed (o:=.lst (B++[.ref t2])) a0);refine λM R j Z a5=>(oi M R (mh _ _ _ rfl cp rfl (mH _ rfl _ rfl (kr rfl) λq d=>?_)));have y4:=vu (o:=.own M) (u:=.ins t.aC R []) (v:=.ins t.aC R [("term",v2),("sums",.ref L),("guards",.ref g2)]) j Z;have y5:=ed (o:=.lst [.ref G,.ref M]) d;have c:=U.trans (y3.trans (y4.trans y5));refine k q _ _ ((U.trans (y3.trans y4)).free d) c cp (.cons (oZ G N v1 L g1 _ rfl (mq (C _ (z2.free y)) ((y3.trans (y4.trans y5)) _ _ cp)) (ob1.imp (mZ c)) (mZ c _ _ m) (mq (C _ (z1.free Y)) ((y1.trans (y3.trans (y4.trans y5))) _ _ cp)) (by show(B++[V.ref t1]).length+dep l<=100;rw[mx];simp only [nG,pO];lia) ⟨by show ss.length+dep l<=100;lia,pQ (Paired.mapP pg λ_ _ z=>z.same (mZ c)) (.cons (oi t1 o (nM dd v1 v2 rfl (mq (C _ a1) (((ed O).trans ((ed Y).trans (y1.trans (y3.trans (y4.trans y5))))) _ _ cp)) (mZ c _ _ eo0))) .nil)⟩) (.cons (oZ M R v2 L g2 _ rfl (mq (C _ ((U.trans y3).free j)) (y5 _ _ cp)) (ob2.imp (mZ c)) (mZ c _ _ m) (mq (C _ ((U.trans y2).free a0)) ((y4.trans y5) _ _ cp)) (by show(B++[V.ref t2]).length+dep r<=100;rw[mx];simp only [nG,pO];lia) ⟨by show ss.length+dep r<=100;lia,pQ (Paired.mapP pg λ_ _ z=>z.same (mZ c)) (.cons (oi t2 o (nM dd v1 v2 rfl (mq (C _ (U.free a2)) (((ed n).trans ((ed a0).trans (y4.trans y5))) _ _ cp)) (mZ c _ _ eo0))) .nil)⟩) .nil))
theorem EC(T:Txt K mg t)(hm:3<=m)(Ga1:A3i P w K mg base nj m t.bA t.bw ["part"] sp')
  (hs:∀(p:V)(u:Tm)(s:zC)(g:List Gd)(S:zV)(H:Hp)(Q:VK),Fr S H->A4l t (lU S H) p (u,s,g)->dep u+1<=n->nod u<=1000->(∀(q:zW)(xs:zM)(H':Hp),H q=none->A0l H H'->H' q=some (.lst xs)->Paired (A4l t (lU S H')) xs (prT u s g)->Q (.ref q) H')->sp' [p] H Q E0):
  A3i P w K mg base nj (m+1) t.bA t.bw ["part"] (Dz t n):=by
 refine T.cy.F.ok BQ λ_ A _ s H _ Q E hr h=>?_
 ·refine nU h ?_;clear h;rintro p u f d S rfl fr pa hd ⟨hn,k⟩;refine rD (id pa) ?_;rintro a dx tv sl gl gs rfl e0 ob a5 a3 ⟨bg,bs,pg⟩;have dp:=vW u;refine rsq (dh (hK 1 BQ.nd (@oG _ _ _ _ (eg 0))) (dh (pX (nR (pcl (Pb T) hr T.aS (eg 0))) (hH (i:=2) BQ.nd) (ef ⟨oa (qI qR PySem.F.slot_list_extend PySem.F.type_list_extend Bs (pv 1) (ad (pcl Ga1 hr T.cy (eg 2)) dt))⟩)) (ef (hB (pv 1))))) ?_;refine fx _ rfl (kr rfl) λl J=>?_;have M:A0l H (upd H l (.lst [.ref a])):=ed J;have m1:A0l (lU S H) (lU (λb=>S b/\b≠l) (upd H l (.lst [.ref a]))):=λb o z=>mq ⟨(mY z).1,lO (mY z).2 J⟩ (M _ _ (mY z).2);have O:∀{G:Hp},A0l (upd H l (.lst [.ref a])) G->Fr (λb=>S b/\b≠l) G:=λ{G} s b c=>⟨fr b (M.free (s.free c)),λz=>by subst z;rw[s _ _ cp]at c;cases c⟩;have nl:¬(S l/\l≠l):=λz=>z.2 rfl;refine nT _ rfl (.ref a) u f (lQ d (λb=>S b/\b≠l) rfl (O (A0l.refl _)) (pa.same m1) λq ks H2 hq X L pk=>(fx q rfl ⟨_,SqL.of L⟩ ?_));have ql:q≠l:=λz=>by subst z;rw[cp]at hq;cases hq
  have W:=Paired.length pk
  have a0:((qu u f d).flatMap λk=>prT k.1 k.2.1 k.2.2).length+1=nod u:=by have h1:(prT u f d).length=nod u:=uU u f d;rw[Ev,nG]at h1;exact h1
  have N:∀(i:Nat),(((qu u f d).take i).flatMap λk=>prT k.1 k.2.1 k.2.2).length<=nod u:=λi=>by
   have e:=wE i (qu u f d);have U:((qu u f d).flatMap λk=>prT k.1 k.2.1 k.2.2)=(((qu u f d).take i).flatMap λk=>prT k.1 k.2.1 k.2.2)++(((qu u f d).drop i).flatMap λk=>prT k.1 k.2.1 k.2.2):=by rw[<-List.flatMap_append,e]
   rw[U,mx]at a0;lia
  refine pU (K:=K) (a:=q) (xs:=ks) (λi Z H3=>∃(o2:zP)(xs:zM),Z=[Sro a,Sro l,o2]/\A0l H H3/\(∀b,H3 b=none->upd H l (.lst [.ref a]) b=none)/\H3 q=some (.lst ks)/\Paired (A4l t (lU (λb=>S b/\b≠l) H3)) ks (qu u f d)/\H3 l=some (.lst (.ref a::xs))/\Paired (A4l t (lU (λb=>S b/\b≠l) H3)) xs (((qu u f d).take i).flatMap λk=>prT k.1 k.2.1 k.2.2))
   (sK none [] rfl (M.trans X) (λb c=>X.free c) L pk ⟨X _ _ cp,.nil⟩) (by (rintro i Z H3 _ r;refine lS r ?_;clear r;rintro _ _ _ _ _ ⟨h,_⟩);exact SqL.of h) ?_ ?_
  ·rintro i y Z H3 hy r;refine lS r ?_;clear r;rintro o2 xs rfl I R ⟨h3,x,j,D⟩;refine oJ ?_;intro D';obtain⟨v,C,pkd⟩:=pI x hy;have km:=me C;have a4:=J6 km
   have nk:nod v.1<=1000:=by
    have L:(prT v.1 v.2.1 v.2.2).length<=((qu u f d).flatMap λk=>prT k.1 k.2.1 k.2.2).length:=by obtain⟨l1,l2,U⟩:=List.append_of_mem km;rw[U,List.flatMap_append,List.flatMap_cons,mx,mx];lia
    rw[uU]at L
    lia
   have Y:Fr (λb=>S b/\b≠l) H3:=λb c=>⟨fr b (M.free (R b c)),λz=>by subst z;rw[j]at c;cases c⟩;refine qj _ rfl (.inl (pM rfl _ (SqL.of j))) _ rfl (hs y v.1 v.2.1 v.2.2 _ H3 _ Y pkd (by lia) nk λq2 zs H4 a2 B h4 pz=>?_);have a6:=Paired.length D;have a1:=Paired.length pz;rw[uU]at a1;have b1:=N i;refine og l q2 _ _ rfl rfl (B _ _ j) h4 (lK (by simp;lia)) ?_;have u4:A0l (lU (λb=>S b/\b≠l) H4) (lU (λb=>S b/\b≠l) (upd H4 l (.lst (.ref a::xs++zs)))):=xr (A0l.refl _) nl;have v4:=(mZ (S:=λb=>S b/\b≠l) B).trans u4;refine sK _ (xs++zs) rfl (mu (I.trans B) J) (λb c=>?_) ?_ (Paired.mapP x λ_ _ z=>z.same v4) ⟨cp,?_⟩
   ·by_cases z:b=l
    ·subst z;rw[cp]at c;cases c
    ·rw[eh z]at c;exact R b (B.free c)
   ·rw[eh ql];exact B _ _ h3
   ·rw[mQ,C,nO,List.flatMap_append,List.flatMap_cons,List.flatMap_nil,ox];exact pQ (Paired.mapP D λ_ _ z=>z.same v4) (Paired.mapP pz λ_ _ z=>z.same u4)
  ·rintro Z H3 r;refine lS r ?_;clear r;rintro o2 xs rfl I R ⟨h3,x,j,D⟩;rw[W,na]at D;refine cb _ rfl (k l _ H3 J I j ?_);rw[Ev];refine .cons (pa.same (mZ I)) (Paired.mapP D λ_ _ z=>z.same (uc (A0l.refl _) λb o _ h=>h.1))
theorem DJ(T:Txt K mg t):∀n:Nat,A3i P w K mg base nj (n+4) t.bA t.bw ["part"] (Dz t n)|0=>EC T (sp':=λ_ _ _ _=>False) (m:=3) (by lia) (A3i.none λ_ _ _ _ h=>h) λp u s g S H Q _ _ h=>absurd h (by lia)|n+1=>EC T (m:=n+4) (by lia) (DJ T n) λp u s g S H Q b a d c k=>(nL p u s g S rfl b a (by lia) c k)
theorem BH(T:Txt K mg t):FO P w base T.bH 14 (J7 t):=by
 refine T.bH.F.ok Ny λ_ A _ s H _ Q E l h=>?_
 ·refine lS h ?_;clear h;rintro v u rfl B r ⟨y,k⟩;refine rsq (ef (hB (pcl (DJ T 9) l T.cy (ad (pmk T.da (wx T) l T.f9 T.aP.b (ad (pv 0) (ad (@oG _ _ _ _ dt) (ad (@oG _ _ _ _ dt) dt)))) dt)))) ?_;refine fx _ rfl (kr rfl) λm e=>⟨kr rfl,λp a=>?_⟩;refine λn c j f N=>(oi n c (mh _ _ _ rfl cp rfl ?_));have J:=(ed (o:=.lst []) e).trans (ed (o:=.lst []) a);have g:=vu (o:=.own n) (u:=.ins t.aC c []) (v:=.ins t.aC c [("term",v),("sums",.ref m),("guards",.ref p)]) j f;have i:=J.trans g;have d:∀{G:Hp},A0l G (lU (λ_=>True) G):=λb o z=>mq True.intro z;refine nL (.ref n) u [] [] (λ_=>True) rfl (λ_ _=>True.intro) (oZ n c v m p [] rfl (mq True.intro cp) (B.imp (i.trans d)) (d _ _ (g _ _ ((ed a) _ _ cp))) (d _ _ (g _ _ cp)) (by show 0+dep u<=100;lia) ⟨by show 0+dep u<=100;lia,.nil⟩) r y λq C L M x D I=>?_;exact k q C L (i.free M) (i.trans x) D (Paired.mapP I λ_ _ z=>z.same oN)
abbrev qG(S:zV)(H:Hp)(ws:zJ)(es:zB):Prop:=Paired (λ(p:Key×V)(e:Str×List Str)=>p.1=Sum.inr e.1/\∃b,p.2=.ref b/\S b/\H b=some (.lst (e.2.map V.str))) ws es
def arr(tb:zB)(ls:List Lt):zB:=tb++ls.map λe=>(e.1,e.2.1)
def Ii(A:Adr):Sp:=λf H Q _=>∃(p:zW)(h:Int)(g:zL)(c:zB)(d:List Lt)(i:zC),f=[.ref p]/\C0m A H p h g c d i/\c.length<=1000/\d.length<=1000/\
 ∀(q:zW)(e:zJ)(a:Hp),H q=none->A0l H a->a q=some (.dK (mo [] e))->qG (λb=>H b=none) a e (arr c d)->Q (.ref q) a
theorem FW(T:Txt K mg t):FO P w base T.bS 1 (Ii t):=by
 refine T.bS.F.ok xy λ_ A _ s H _ Q E hr h=>?_
 ·obtain⟨p,wh,ax,J,ls,os,rfl,pr,ht,a3,k⟩:=h;have hu:=qW hr;obtain⟨dx,a,X,l,o,e,ra,rt,⟨xl,hl,rl⟩,ro⟩:=pr.ob;obtain⟨t2,xs,et,hx,rs⟩:=rQ (show Rep H (.ref X) (.list (J.map qT)) from rt);cases et;have I:=rs.len;rw[dm]at I;have a0:=Paired.length rl;refine rsq (dh (hK 1 xy.nd wg) (dh (pX (nR (lJ (pv 0) rfl)) (qY (n:=2) rfl (mV (hH (i:=2) xy.nd) (mV (hH (i:=3) xy.nd) pT))) (ef ⟨@su _ _ _ _ _ _ _ _ _ hu (pv 1) (pv 2) (qN vz (by rfl) T.b_ tF (eg 3)) rfl⟩)) (dh (pX (nR (lJ (pv 0) rfl)) (hH (i:=4) xy.nd) (ef ⟨@su _ _ _ _ _ _ _ _ _ hu (pv 1) (lJ (pv 4) rfl) (qN vz (by rfl) T.b_ tF (ad (lJ (pv 4) rfl) dt)) rfl⟩)) (ef (hB (pv 1)))))) ?_;refine λq hq=>?_;have s0:A0l H (upd H q (.dK [])):=ed hq
  have M:∀{j:Hp}{d:zJ}{es:zB}{n:Str}{c:zW}{ys:zC},A0l H j->j q=some (.dK (mo [] d))->qG (λb=>H b=none/\b≠q) j d es->j c=none->
    A0l H (upd (upd j c (.lst (ys.map V.str))) q (.dK (my (mo [] d) (Sum.inr n) (.ref c))))/\upd (upd j c (.lst (ys.map V.str))) q (.dK (my (mo [] d) (Sum.inr n) (.ref c))) q=some (.dK (mo [] (d++[(Sum.inr n,.ref c)])))/\
    qG (λb=>H b=none/\b≠q) (upd (upd j c (.lst (ys.map V.str))) q (.dK (my (mo [] d) (Sum.inr n) (.ref c)))) (d++[(Sum.inr n,.ref c)]) (es++[(n,ys)]):=by
   intro j d es n c ys m x v C;have B:c≠q:=λz=>by subst z;rw[x]at C;cases C
   refine⟨mu (m.trans (ed C)) hq,?_,?_⟩
   ·rw[NC];exact cp
   ·refine L2.Paired.snoc ⟨rfl,c,rfl,⟨m.free C,B⟩,by rw[eh B];exact cp⟩ (Paired.mapP v λa b ⟨z1,b',z2,S,R⟩=>(mW z1 b' z2 S ?_));rw[eh S.2,eh (lO R C)];exact R
  refine hP _ rfl p _ dx _ _ rfl (s0 _ _ e) T.af T.aL (by walk_at"lk") (fx X rfl ⟨_,SqL.of (s0 _ _ hx)⟩ ?_)
  refine pU (K:=K) (a:=X) (xs:=xs) (λi Z j=>∃(O N:zP)(d:zJ),Z=[Sro p,Sro q,O,N,none]/\A0l H j/\j q=some (.dK (mo [] d))/\qG (λb=>H b=none/\b≠q) j d (J.take i))
   (mh none none [] rfl s0 cp .nil) (by (rintro i Z j _ f;refine mF f ?_;clear f;rintro _ _ _ ⟨_,m,_⟩);exact SqL.of (m _ _ hx)) ?_ ?_
  ·rintro i y Z j hy f;refine nF f ?_;clear f;rintro O N d rfl m x v;refine oJ ?_;intro D';obtain⟨W,a2,ry⟩:=vU rs hy;refine ei (xY ry) ?_;rintro b c rfl D ec;have lw:=Paired.length v;have lt:(J.take i).length<=J.length:=by rw[mK];lia
   have lm:=wy d [];rw[pO]at lm;refine qO b _ rfl (SqT.of (m _ _ D)) rfl _ _ rfl _ _ rfl rfl ?_;refine lL _ rfl c _ rfl (.inl (SqL.of (m _ _ ec))) λc' g=>?_;have B:q≠c':=λz=>by subst z;rw[x]at g;cases g
   refine nh _ rfl _ rfl q _ rfl (C0j.k (k:=Sum.inr W.1) (by rw[eh B];exact x) (mC (by lia))) ?_;obtain⟨U,p2,p3⟩:=M (n:=W.1) (ys:=W.2) m x v g;refine mh _ _ _ rfl U p2 ?_;rw[mQ,a2];exact p3
  ·rintro Z j f;refine nF f ?_;clear f;rintro O N d rfl m x v;rw[I,na]at v;refine hP _ rfl p _ dx _ _ rfl (m _ _ e) T.af T.aG (by walk_at"lk") (fx l rfl ⟨_,SqL.of (m _ _ hl)⟩ ?_)
   refine pU (K:=K) (a:=l) (xs:=xl) (λi Z u=>∃(Y:zP)(d:zJ),Z=[Sro p,Sro q,O,N,Y]/\A0l H u/\u q=some (.dK (mo [] d))/\qG (λb=>H b=none/\b≠q) u d (J++(ls.take i).map λe=>(e.1,e.2.1)))
    (lQ none d rfl m x (by simpa using v)) (by (refine λi Z u _ f=>ei f λ_ _ _ r _=>?_;clear f);exact SqL.of (r _ _ hl)) ?_ ?_
   ·rintro i y Z u hy f;refine lS f ?_;clear f;rintro Y d rfl r G L;refine oJ ?_;intro D';refine qa (pI rl hy) ?_;rintro le a1 b db c ⟨n,dn,rfl,D,_,ec,_⟩;have lw:=Paired.length L;have lt:((ls.take i).map λe=>(e.1,e.2.1)).length<=ls.length:=by rw[dm,mK];lia
    rw[mx]at lw;have lm:=wy d [];rw[pO]at lm;refine hP _ rfl b _ db _ _ rfl (r _ _ D) T.aF T.aT (by walk_at"lk") (dV c _ rfl (.inl (SqL.of (r _ _ ec))) λc' g=>?_);have B:q≠c':=λz=>by subst z;rw[G]at g;cases g
    refine oS _ rfl _ rfl b _ db _ _ rfl (by rw[eh (lO (r _ _ D) g)];exact r _ _ D) T.aF T.aH (by walk_at"lk") (dV q _ rfl (C0j.k (k:=Sum.inr le.1) (by rw[eh B];exact G) (mC (by lia))) ?_);obtain⟨U,p2,p3⟩:=M (n:=le.1) (ys:=le.2.1) r G L g;refine lQ _ _ rfl U p2 ?_;rw[mQ,a1,nO,lR,<-pj];exact p3
   ·rintro Z u f;refine lS f ?_;clear f;rintro Y d rfl r G L;rw[a0,na]at L;exact cb _ rfl (k q d u hq r G (Paired.mapP L (by rintro _ _ ⟨z1,b',z2,S,R⟩;exact mW z1 b' z2 S.1 R)))
def Oth(r:zW)(H H':Hp):Prop:=∀b,b≠r->H' b=H b
def OkX(z:Str):Prop:=PyData.strOk z=true/\z.length<=4000
def OkN(xs:zC):Prop:=∀x∈xs,OkX x
theorem Ae{b:Bool}{A:Prop}(h1:b=false->A)(h2:b=true->B):if (! b)=true then A else B:=by
 cases b
 ·exact h1 rfl
 ·exact h2 rfl
theorem CH{b:Bool}{A:Prop}(h1:b=true->A)(h2:b=false->B):if b=true then A else B:=by
 cases b
 ·exact h2 rfl
 ·exact h1 rfl
theorem ti(z:Str):∀bs:zC,inV (.str z) (bs.map V.str)=decide (z∈bs)
 | []=>rfl
 |b::r=>by
  have a:=ti z r;unfold inV at a⊢;rw[mi,List.any_cons,a];show((b==z)||decide (z∈r))=decide (z∈b::r);by_cases e:b=z
  ·subst e;simp
  ·have:¬z=b:=λh=>e h.symm;simp[e,this]
theorem ud:∀bs:zC,(bs.map V.str).all uo=true| []=>rfl|b::r=>by rw[mi,List.all_cons,ud r];rfl
theorem Bl(hi:i<=ys.length):nJ (ys.map V.str) none (some (i:Int))=(ys.take i).map V.str:=by
 unfold nJ;have a:HT.sIx (ys.map V.str).length 0 none=0:=rfl
 have b:HT.sIx (ys.map V.str).length (ys.map V.str).length (some (i:Int))=i:=by
  unfold HT.sIx;rw[dm];simp only [show¬((i:Int)<0)by lia,if_false]
  lia
 rw[a,b,ug,Nat.sub_zero,List.map_take]
def axN(a:zL):zC:=a.map (·.1)
def arN(tb:zB)(ls:List Lt):zC:=tb.map (·.1)++ls.map (·.1)
def HB(A:Adr):Sp:=λc H Q _=>∃(p:zW)(e:Int)(a:zL)(d:zB)(g:List Lt)(f:zC),c=[.ref p]/\C0m A H p e a d g f/\a.length<=100/\∀(q:zW)(b:Hp),H q=none->A0l H b->b q=some (.lst ((axN a).map V.str))->Q (.ref q) b
def IE(A:Adr):Sp:=λc H Q _=>∃(p:zW)(e:Int)(d:zL)(a:zB)(g:List Lt)(f:zC),c=[.ref p]/\C0m A H p e d a g f/\a.length<=100/\∀(q:zW)(b:Hp),H q=none->A0l H b->b q=some (.lst ((a.map (·.1)).map V.str))->Q (.ref q) b
def Id(A:Adr):Sp:=λd H Q _=>∃(p:zW)(f:Int)(e:zL)(a:zB)(c:List Lt)(g:zC),d=[.ref p]/\C0m A H p f e a c g/\a.length<=100/\c.length<=100/\∀(q:zW)(b:Hp),H q=none->A0l H b->b q=some (.lst ((arN a c).map V.str))->Q (.ref q) b
def la(c:Nat):Bool:= !(decide (([c]:List Nat)<("a":Str).cps.toList))
def lz(c:Nat):Bool:= !(decide (("z":Str).cps.toList<[c]))
theorem Aw:abc.cps.toList=List.range' 97 26:=by decide+kernel
theorem HD(c:Nat):la c=decide (97<=c):=by
 have e:("a":Str).cps.toList=[97]:=by decide+kernel
 unfold la;rw[e];by_cases h:97<=c
 ·have:¬([c]<[97]):=λz=>by
   rcases List.cons_lt_cons_iff.mp z with z|⟨_,z⟩
   ·lia
   ·exact absurd z (by simp)
  rw[mT this,mP h];rfl
 ·have:[c]<[97]:=List.cons_lt_cons_iff.mpr (.inl (by lia));rw[mP this,mT h];rfl
theorem Hs(c:Nat):lz c=decide (c<=122):=by
 have e:("z":Str).cps.toList=[122]:=by decide+kernel
 unfold lz;rw[e];by_cases h:c<=122
 ·have:¬([122]<[c]):=λz=>by
   rcases List.cons_lt_cons_iff.mp z with z|⟨_,z⟩
   ·lia
   ·exact absurd z (by simp)
  rw[mT this,mP h];rfl
 ·have:[122]<[c]:=List.cons_lt_cons_iff.mpr (.inl (by lia));rw[mP this,mT h];rfl
theorem HS(c:Nat):(la c&&lz c)=decide (c∈abc.cps.toList):=by
 rw[HD,Hs,Aw];by_cases h:97<=c/\c<=122
 ·rw[mP h.1,mP h.2,mP (List.mem_range'_1.mpr (by lia))];rfl
 ·have:¬c∈List.range' 97 26:=λz=>h (by have:=List.mem_range'_1.mp z;lia);rw[mT this];by_cases h1:97<=c
  ·rw[mP h1,mT (λz=>h ⟨h1,z⟩)];rfl
  ·rw[mT h1];rfl
def tQ(x:Str):Bool:=(!(decide (x="")))&&x.cps.toList.all λc=>la c&&lz c
def nmB(x:Str):Bool:=tQ x&&decide (x.length<=8)&& !(decide (x∈(["if","sum"]:zC)))
def IA:Sp:=λb H Q _=>∃x:Str,b=[.str x]/\x.length<=4000/\∀a,A0l H a->Q (.bl (tQ x)) a
def IG:Sp:=λb H Q _=>∃x:Str,b=[.str x]/\x.length<=4000/\∀a,A0l H a->Q (.bl (nmB x)) a
theorem BP(T:Txt K mg t):FO P w base T.b6 1 (HB t):=by
 refine T.b6.F.ok Oy λ_ A _ s H _ Q E S h=>?_
 ·refine nN h ?_;clear h;rintro p Y z X ls ⟨os,rfl,G,la,k⟩;refine nU G.ob ?_;rintro B a O l o e I U ⟨xl,hl,N⟩ W;refine ei (rQ (show Rep H (.ref a) (.list (z.map pf)) from I)) λR xs J v y=>?_;cases J;have m:=y.len;rw[dm]at m;refine rsq (ef (hB (pC (N':=["name","length"]) (ix:=(List.replicate 2 none)) (g:=vK K 2 (sX (qK 0) (sX (qK 1) vJ))) rfl (re rfl (by decide+kernel) (by decide+kernel)) (rc rfl) (nR (lJ (pv 0) rfl)) (λ_ _ _ _=>(qY (n:=2) rfl (mV (hH (i:=0) EK) (mV (hH (i:=1) EK) pT)))) (λ_ _ _ _=>(pv 0))))) ?_;refine hP _ rfl p _ B _ _ rfl e T.af T.br (by walk_at"lk") (fx a rfl ⟨_,SqL.of v⟩ λD q=>?_);refine sJ (K:=K) (a:=a) (D:=D) (xs:=xs) (λi j f=>A0l H f/\f D=some (.lst j)/\j=(axN (z.take i)).map V.str) (fI (ed q) cp rfl) (λi j f d=>SqL.of (d.1 _ _ v)) ?_ ?_
  ·rintro i x j f u ⟨d,c,rfl⟩;refine qE ?_;intro N';have Z:i<xs.length:=(ml.mp u).1;obtain⟨M,r,L⟩:=vU y u;obtain⟨b,rfl,C⟩:=yc L;refine qO b _ rfl (SqT.of (d _ _ C)) rfl _ _ rfl _ _ rfl rfl ?_;refine kB True.intro _ rfl (lP c (mC (by simp[axN];lia)) (mu d q) cp ?_);rw[mQ,r,nO];simp[axN]
  ·rintro j f ⟨d,c,rfl⟩;rw[m,na]at c;exact k D f q d c
theorem OO(T:Txt K mg t):FO P w base T.bX 1 (IE t):=by
 refine T.bX.F.ok OP λ_ A _ s H _ Q E S h=>?_
 ·refine nN h ?_;clear h;rintro p Y ax z ls ⟨os,rfl,M,W,k⟩;refine nU M.ob ?_;rintro G a r l o e ra I ⟨xl,hl,R⟩ X;refine ei (rQ (show Rep H (.ref r) (.list (z.map qT)) from I)) λt2 xs L B C=>?_;cases L;have q:=C.len;rw[dm]at q;refine rsq (ef (hB (pC (N':=["name","axes"]) (ix:=(List.replicate 2 none)) (g:=vK K 2 (sX (qK 0) (sX (qK 1) vJ))) rfl (re rfl (by decide+kernel) (by decide+kernel)) (rc rfl) (nR (lJ (pv 0) rfl)) (λ_ _ _ _=>(qY (n:=2) rfl (mV (hH (i:=0) Fd) (mV (hH (i:=1) Fd) pT)))) (λ_ _ _ _=>(pv 0))))) ?_;refine hP _ rfl p _ G _ _ rfl e T.af T.aL (by walk_at"lk") (fx r rfl ⟨_,SqL.of B⟩ λD u=>?_);refine sJ (K:=K) (a:=r) (D:=D) (xs:=xs) (λi m j=>A0l H j/\j D=some (.lst m)/\m=((z.take i).map (·.1)).map V.str) (fI (ed u) cp rfl) (λi m j f=>SqL.of (f.1 _ _ B)) ?_ ?_
  ·rintro i x m j y ⟨f,d,rfl⟩;refine qE ?_;intro N';have Z:i<xs.length:=(ml.mp y).1;obtain⟨O,v,N⟩:=vU C y;refine ei (xY N) ?_;rintro b c rfl J U;refine qO b _ rfl (SqT.of (f _ _ J)) rfl _ _ rfl _ _ rfl rfl ?_;refine kB True.intro _ rfl (lP d (mC (by simp;lia)) (mu f u) cp ?_);rw[mQ,v,nO];simp
  ·rintro m j ⟨f,d,rfl⟩;rw[q,na]at d;exact k D j u f d
theorem Gj(T:Txt K mg t):FO P w base T.bj 2 (Id t):=by
 refine T.bj.F.ok OI λ_ A _ s H _ Q E W h=>?_
 ·refine nN h ?_;clear h;rintro p U ax u r ⟨Z,rfl,L,X,ll,k⟩;refine nU L.ob ?_;rintro O a tt l o e ra rt ⟨G,I,C⟩ ro;have v:=Paired.length C;refine rsq (ef (hB (eB rO (pcl (OO T) W T.bX (eg 0)) (pC (N':=["let"]) (ix:=(List.replicate 1 none)) rfl (re rfl (by decide+kernel) (by decide+kernel)) (rc rfl) (nR (lJ (pv 0) rfl)) (λ_ _ _ _=>(hH (i:=0) Mo)) (λ_ _ _ _=>(IM (K:=K) rfl (pv 0) rfl)))))) ?_;refine nT _ rfl p U ax (mh u r Z rfl L X λD H2 hD g z=>?_);refine hP _ rfl p _ O _ _ rfl (g _ _ e) T.af T.aG (by walk_at"lk") (fx l rfl ⟨_,SqL.of (g _ _ I)⟩ λB M=>?_);refine sJ (K:=K) (a:=l) (D:=B) (xs:=G) (λi j m=>A0l H2 m/\m B=some (.lst j)/\j=((r.take i).map (·.1)).map V.str) (fI (ed M) cp rfl) (λi j m f=>SqL.of (f.1 _ _ (g _ _ I))) ?_ ?_
  ·rintro i x j m J ⟨f,d,rfl⟩;refine qE ?_;intro N';have hi:i<G.length:=(ml.mp J).1;refine qa (pI C J) ?_;rintro le y b Y c ⟨n,dn,rfl,S,_,ec,_⟩;refine⟨True.intro,(hP _ rfl b _ Y _ _ rfl (f _ _ (g _ _ S)) T.aF T.aH (by walk_at"lk") (lP d (mC (by simp;lia)) (mu f M) cp ?_))⟩;rw[mQ,y,nO];simp
  ·rintro j m ⟨f,d,rfl⟩;rw[v,na]at d;refine og D B _ _ rfl rfl (f _ _ z) d (lK (by simp;lia)) λq N=>?_;have R:=g.trans (f.trans (ed (o:=.lst ((u.map (·.1)).map V.str++(r.map (·.1)).map V.str)) N));refine k q _ ((g.trans f).free N) R ?_;rw[show(arN u r).map V.str=(u.map (·.1)).map V.str++(r.map (·.1)).map V.str by simp[arN]];exact cp
theorem OZ(T:Txt K mg t):FO P w base T.bv 1 IA:=by
 refine T.bv.F.ok OX λ_ A _ s H _ Q E z h=>?_
 ·obtain⟨x,rfl,q,k⟩:=h;refine rsq (ef (hB (rm (sH vL (pv 0) lV) (tW (nK (Bc rfl) (by rfl) T.ky PyProof.Rows.boot_all (ad (pC (N':=["sign"]) (ix:=(List.replicate 1 none)) rfl (re rfl (by decide+kernel) (by decide+kernel)) (rc rfl) (Iv (pv 0)) (λ_ _ _ _=>(hH (i:=0) Mf)) (λ_ _ _ _=>(A8 CV CV lV (pv 0) lV))) dt)))))) ?_;by_cases hx:x=""
  ·have l:(!(decide ((V.str x)=V.str "")))=false:=by rw[hx];decide
   have e:tQ x=false:=by unfold tQ;rw[mP hx];rfl
   refine qj _ rfl rfl false (congrArg V.bl l) (hY ?_);have:=k H (A0l.refl _);rw[e]at this;exact this
  have l:(!(decide ((V.str x)=V.str "")))=true:=by rw[mT (λe=>hx (by injection e))];rfl
  refine qj _ rfl rfl true (congrArg V.bl l) (nI ?_);refine mE _ rfl x rfl λD m=>?_;have C:x.cps.size<=4000:=q;refine uW (J:=Its x) (D:=D) x.cps.size (λi g d=>A0l H d/\d D=some (.lst g)/\g=(((x.cps.toList.take i).map λc=>la c&&lz c).map V.bl)) (fI (ed m) cp rfl) (λi g d o _=>o) (λg d _=>rfl) ?_ ?_
  ·rintro i g d o ⟨j,a,rfl⟩ v y ⟨rfl,c,r,rfl⟩;refine qE ?_;intro N';have n:x.cps.toList[i]?=some c:=by simpa using r
   have B:(((x.cps.toList.take i).map λc=>la c&&lz c).map V.bl).length<=4000:=by
    rw[dm,dm,mK]
    lia
   have p:∀b:Bool,b=(la c&&lz c)->((x.cps.toList.take i).map λc=>la c&&lz c).map V.bl++[V.bl b]=((x.cps.toList.take (i+1)).map λc=>la c&&lz c).map V.bl:=λb u=>by rw[mQ,n,nO,lR,lR,u];rfl
   by_cases f:la c=true
   ·refine kB True.intro _ rfl (ot _ _ rfl rfl true (congrArg V.bl f) (nI (sK _ _ rfl rfl a (mC (by lia)) (mu j m) ⟨cp,?_⟩)));exact p (lz c) (by rw[f];rfl)
   ·have f:la c=false:=by simpa using f
    refine kB True.intro _ rfl (ot _ _ rfl rfl false (congrArg V.bl f) (hY (lP a (mC (by lia)) (mu j m) cp ?_)));exact p false (by rw[f];rfl)
  ·rintro g d ⟨j,a,rfl⟩;rw[show x.cps.size=x.cps.toList.length by simp,na]at a;refine dV D (x.cps.toList.map λc=>la c&&lz c) rfl (SqL.of a) ?_
   have e:tQ x=(x.cps.toList.map λc=>la c&&lz c).all id:=by unfold tQ;rw[mT hx,List.all_map];rfl
   rw[<-e];exact k d j
theorem MS(T:Txt K mg t):FO P w base T.fb 2 IG:=by
 refine T.fb.F.ok MF λ_ A _ s H _ Q E g h=>?_
 ·obtain⟨x,rfl,f,k⟩:=h;have d:x.length<=sizeLine:=lK (by lia);refine rsq (ef (hB (rm (pcl (OZ T) g T.bv (eg 0)) (rm (sH xZ (nK N5 (by rfl) T.aK PySem.boot_len (eg 0)) (xm T.fY rfl)) (tW (sH ww (pv 0) (xm T.eU rfl) (by with_unfolding_all rfl))))))) ?_;refine mH _ rfl x rfl f λj i=>?_;have c:=k j i;by_cases a:tQ x=true
  ·refine cb true (congrArg V.bl a) (nI ?_);by_cases h2:x.length<=8
   ·have b:((x.length:Nat):Int)<=8:=by lia
    refine mH _ rfl x rfl d (ot _ _ rfl rfl true (congrArg V.bl (mP b)) (nI ?_));refine cb _ rfl (mJ t.b9 [.str "if",.str "sum"] rfl (.inr (.inr T.dY)) rfl rfl ?_)
    have e:nmB x= !(inV (.str x) ((["if","sum"]:zC).map V.str)):=by unfold nmB;rw[a,mP h2,ti];rfl
    rw[e]at c;exact c
   ·have b:¬((x.length:Nat):Int)<=8:=by lia
    refine mH _ rfl x rfl d (ot _ _ rfl rfl false (congrArg V.bl (mT b)) (hY ?_))
    have e:nmB x=false:=by unfold nmB;rw[a,mT h2];rfl
    rw[e]at c;exact c
  ·have a:tQ x=false:=by simpa using a
   refine cb false (congrArg V.bl a) (hY ?_);have e:nmB x=false:=by unfold nmB;rw[a];rfl
   rw[e]at c;exact c
def vM(p:Str->Prop)(ns:zC):Prop:=∀i x,ns[i]?=some x->p x/\x∉ns.take i
def Au(ns:zC):Prop:=vM (λx=>nmB x=true) ns
def AH(a os:zC):Prop:=os≠[]/\vM (λx=>x∈a) os
def yr(a ys:zC):Prop:=ys.length<=3/\vM (λx=>x∈a) ys
def Jp(A:Adr):Sp:=λc H Q E=>∃(l:zW)(b:zC),c=[.ref l]/\H l=some (.lst (b.map V.str))/\b.length<=500/\OkN b/\(Au b->∀a,A0l H a->Q .non a)/\(¬Au b->∀a,A0l H a->E (.ref A.c7) none a)
def JG(A:Adr):Sp:=λd H Q E=>∃(l k:zW)(a c:zC),d=[.ref l,.ref k]/\H l=some (.lst (a.map V.str))/\H k=some (.lst (c.map V.str))/\a.length<=500/\OkN a/\(AH c a->∀b,A0l H b->Q .non b)/\(¬AH c a->∀b,A0l H b->E (.ref A.c7) none b)
def HC(A:Adr):Sp:=λd H Q E=>∃(l k:zW)(a c:zC),d=[.ref l,.ref k]/\H l=some (.lst (a.map V.str))/\H k=some (.lst (c.map V.str))/\a.length<=20/\OkN a/\(yr c a->∀b,A0l H b->Q .non b)/\(¬yr c a->∀b,A0l H b->E (.ref A.cc) none b)
theorem Bm{p:Str->Prop}(h:∀j x,j<ns.length->ns[j]?=some x->p x/\x∉ns.take j):vM p ns:=λi x e=>h i x (ml.mp e).1 e
theorem GG(ok:OkN ys):vX ys<=ys.length*40004+3:=by
 unfold vX;refine Nat.add_le_add_right ?_ 3
 induction ys with
 |nil=>simp
 |cons y r ih=>
  have c:=(ok y (.head _)).2;have b:=ih λz a=>ok z (.tail _ a);simp only [mi,List.sum_cons,nG]
  lia
theorem nW(a b:Str):(a++b).length=a.length+b.length:=Str.length_append _ _
theorem nZ:(Str.empty:Str).length=0:=rfl
theorem O8(T:Txt K mg t):A3i P w K mg base (CXD P w) 3 t.bP t.bT ["names"] (Jp t):=by
 refine T.bO.F.okD BS λ_ A _ s H _ Q E X h=>?_
 ·refine lS h ?_;clear h;rintro l c rfl I ln ⟨ok,kq,M⟩;refine rsq (ef ⟨sr PassesOwn.leaving rfl (AY rfl T.cM (eg 0)) (qY (n:=2) rfl (mV (hH (i:=1) BS.nd) (mV (hH (i:=2) BS.nd) pT))) (@pi _ _ _ _ _ (@pA _ _ _ _ _ _ _ _ (rz (nn (pcl (MS T) X T.fb (eg 2)))) (@mD _ _ _ (qZ qX T.bE rfl T.c8 rfl (ad (rC (sE (pv 2) (pK rn))) dt))) hC) (@mD _ _ _ (@pA _ _ _ _ _ _ _ _ (lZ yP (pv 2) (pV qg (pv 0) pS (pB (pv 1))) (by with_unfolding_all rfl)) (@mD _ _ _ (qZ qX T.bE rfl T.c8 rfl (ad (rC (sE (pv 2) (pK rn))) dt))) hC)))⟩) ?_;refine lL _ rfl l _ rfl (SqL.of I) ?_;refine Bp (K:=K) (a:=l) (xs:=c.map V.str) (λi Z m=>∃C D:zP,Z=[Sro l,C,D]/\A0l H m/\∀j x,j<i->c[j]?=some x->nmB x=true/\x∉c.take j) (dV none none rfl (A0l.refl _) (by intro j x h;lia)) (by (refine λi Z m b=>ei b λ_ _ _ k _=>?_;clear b);exact SqL.of (k _ _ I)) ?_ ?_
  ·rintro i v Z m p R b;refine ei b ?_;clear b;rintro C D rfl k r Y;refine oJ ?_;intro D';rw[oH]at R;obtain⟨x,f,rfl⟩:=rg.mp R;have hi:i<c.length:=(ml.mp f).1;obtain⟨d,U⟩:=ok x (me f);have O:=k.trans (ed (o:=.tup [.int (i:Nat),.str x]) Y);refine qO p _ rfl (SqT.of cp) rfl _ _ rfl _ _ rfl rfl ?_;refine mH _ rfl x rfl U λJ N=>(cb _ rfl (Ae (λu=>?_) (λu=>?_)))
   ·refine mH _ rfl x rfl d ⟨lK (by rw[nZ];lia),λz W=>(lX (lK ?_) (lK ?_) (kr rfl) (M (λg=>?_) J (O.trans N)))⟩
    ·have:(" is no name":Str).length<=20:=by decide+kernel
     rw[nW,nW,nZ];lia
    ·have:(" is no name":Str).length<=20:=by decide+kernel
     rw[nW,nW,nZ];lia
    ·have:=(g i x f).1;rw[this]at u;cases u
   have G:=O.trans N;refine cb _ rfl (i12 _ rfl _ rfl _ rfl l _ rfl (SqL.of (G _ _ I)) λq hq=>?_);rw[Bl (Nat.le_of_lt hi)];have S:A0l J (upd J q (.lst ((c.take i).map V.str))):=ed hq;refine dV q ((c.take i).map V.str) rfl (.inl (SqL.of cp)) (nu rfl (ud _) _ rfl ?_);rw[ti];refine lT (λL=>?_) (λe=>(dV _ _ rfl (G.trans S) λj y hj B=>?_))
   ·refine mH _ rfl x rfl d ⟨lK (by rw[nZ];lia),λz W=>(lX (lK ?_) (lK ?_) (kr rfl) (M (λg=>(g i x f).2 L) _ (G.trans S)))⟩
    ·have:(" is told twice":Str).length<=20:=by decide+kernel
     rw[nW,nW,nZ];lia
    ·have:(" is told twice":Str).length<=20:=by decide+kernel
     rw[nW,nW,nZ];lia
   ·rcases Nat.lt_or_ge j i with h|h
    ·exact r j y h B
    ·have:j=i:=by lia
     subst this;rw[f]at B;cases B;exact⟨u,e⟩
  ·rintro Z m b;refine ei b ?_;clear b;rintro C D rfl k r;rw[dm]at r;exact kq (Bm r) m k
theorem N8(T:Txt K mg t):A3i P w K mg base (CXD P w) 1 t.fN t.fL ["outs","names"] (JG t):=by
 refine T.fM.F.okD BL λ_ A _ s H _ Q E hr h=>?_
 ·refine ou h ?_;clear h;rintro l S c U rfl D hk ⟨ly,ok,kq,I⟩;refine rsq (dh (lN (lZ nQ (oA T.aK (eg 0)) ew) (ef ⟨qZ qX T.bE rfl T.c8 rfl (ad lV dt)⟩) ⟨hC⟩) (ef ⟨sr PassesOwn.leaving rfl (AY rfl T.cM (eg 0)) (qY (n:=2) rfl (mV (hH (i:=2) BL.nd) (mV (hH (i:=3) BL.nd) pT))) (@pi _ _ _ _ _ (@pA _ _ _ _ _ _ _ _ (lZ ww (pv 3) (pv 1) (by with_unfolding_all rfl)) (@mD _ _ _ (qZ qX T.bE rfl T.c8 rfl (ad (rC (pK (sE (pv 3) (pK rn)))) dt))) hC) (@mD _ _ _ (@pA _ _ _ _ _ _ _ _ (lZ yP (pv 3) (pV qg (pv 0) pS (pB (pv 2))) (by with_unfolding_all rfl)) (@mD _ _ _ (qZ qX T.bE rfl T.c8 rfl (ad (rC (pK (sE (pv 3) (pK rn)))) dt))) hC)))⟩)) ?_;refine qi _ rfl l _ rfl (.inl (SqL.of D)) rfl _ rfl (lT (λe=>⟨kr rfl,I (λg=>g.1 (List.eq_nil_of_length_eq_zero ?_)) _ (A0l.refl _)⟩) (λe=>?_))
  ·have e:((c.map V.str).length:Int)=0:=by injection e
   rw[dm]at e;lia
  have ne:c≠[]:=λz=>e (by rw[z];rfl);refine lL _ rfl l _ rfl (SqL.of D) ?_;refine Bp (K:=K) (a:=l) (xs:=c.map V.str) (λi Z B=>∃J M:zP,Z=[Sro l,Sro S,J,M]/\A0l H B/\∀j x,j<i->c[j]?=some x->x∈U/\x∉c.take j) (dV none none rfl (A0l.refl _) (by intro j x h;lia)) (by (refine λi Z B b=>ei b λ_ _ _ r _=>?_;clear b);exact SqL.of (r _ _ D)) ?_ ?_
  ·rintro i v Z B p O b;refine ei b ?_;clear b;rintro J M rfl r C X;refine oJ ?_;intro D';rw[oH]at O;obtain⟨x,k,rfl⟩:=rg.mp O;have Y:i<c.length:=(ml.mp k).1;obtain⟨d,lx⟩:=ok x (me k);have u:=r.trans (ed (o:=.tup [.int (i:Nat),.str x]) X);refine qO p _ rfl (SqT.of cp) rfl _ _ rfl _ _ rfl rfl ?_;refine nh _ rfl _ rfl S _ rfl (.inl (SqL.of (u _ _ hk))) (nu rfl (ud _) _ rfl ?_);rw[ti];refine se (λL=>?_) (λm=>?_)
   ·refine kB (lK ?_) _ rfl (nr x rfl d (lK ?_) λz W=>(lX (lK ?_) (lK ?_) (kr rfl) (I (λg=>L (g.2 i x k).1) _ u)))
    ·have:("the out ":Str).length<=50:=by decide+kernel
     have:(" is no table and no let":Str).length<=50:=by decide+kernel
     simp only [nW,nZ];lia
    ·have:("the out ":Str).length<=50:=by decide+kernel
     have:(" is no table and no let":Str).length<=50:=by decide+kernel
     simp only [nW,nZ];lia
    ·have:("the out ":Str).length<=50:=by decide+kernel
     have:(" is no table and no let":Str).length<=50:=by decide+kernel
     simp only [nW,nZ];lia
    ·have:("the out ":Str).length<=50:=by decide+kernel
     have:(" is no table and no let":Str).length<=50:=by decide+kernel
     simp only [nW,nZ];lia
   refine cb _ rfl (i12 _ rfl _ rfl _ rfl l _ rfl (SqL.of (u _ _ D)) λq hq=>?_);rw[Bl (Nat.le_of_lt Y)];have R:=ed (o:=.lst ((c.take i).map V.str)) hq;refine dV q ((c.take i).map V.str) rfl (.inl (SqL.of cp)) (nu rfl (ud _) _ rfl ?_);rw[ti];refine lT (λN=>?_) (λf=>(dV _ _ rfl (u.trans R) λj y hj G=>?_))
   ·refine kB (lK ?_) _ rfl (nr x rfl d (lK ?_) λz W=>(lX (lK ?_) (lK ?_) (kr rfl) (I (λg=>(g.2 i x k).2 N) _ (u.trans R))))
    ·have:("the out ":Str).length<=50:=by decide+kernel
     have:(" is told twice":Str).length<=50:=by decide+kernel
     simp only [nW,nZ];lia
    ·have:("the out ":Str).length<=50:=by decide+kernel
     have:(" is told twice":Str).length<=50:=by decide+kernel
     simp only [nW,nZ];lia
    ·have:("the out ":Str).length<=50:=by decide+kernel
     have:(" is told twice":Str).length<=50:=by decide+kernel
     simp only [nW,nZ];lia
    ·have:("the out ":Str).length<=50:=by decide+kernel
     have:(" is told twice":Str).length<=50:=by decide+kernel
     simp only [nW,nZ];lia
   ·rcases Nat.lt_or_ge j i with h|h
    ·exact C j y h G
    ·have:j=i:=by lia
     subst this;rw[k]at G;cases G;exact⟨m,f⟩
  ·rintro Z B b;refine ei b ?_;clear b;rintro J M rfl r C;rw[dm]at C;exact kq ⟨ne,Bm C⟩ B r
theorem Oc(T:Txt K mg t):A3i P w K mg base (CXD P w) 1 t.fD t.fv ["axes","known"] (HC t):=by
 refine T.fB.F.okD BO λ_ A _ s H _ Q E U h=>?_
 ·refine ou h ?_;clear h;rintro l Y b kn rfl C hk ⟨ly,N,kq,I⟩;refine rsq (dh (lN (lZ uO (oA T.aK (eg 0)) (xm T.iY rfl)) (ef ⟨qZ qX T.aR rfl T.a_ rfl (ad (rC (Km U.gd U.units0 (pv 0) (pK rn))) dt)⟩) ⟨hC⟩) (ef ⟨sr PassesOwn.leaving rfl (AY rfl T.cM (eg 0)) (qY (n:=2) rfl (mV (hH (i:=2) BO.nd) (mV (hH (i:=3) BO.nd) pT))) (@pi _ _ _ _ _ (@pA _ _ _ _ _ _ _ _ (lZ ww (pv 3) (pv 1) (by with_unfolding_all rfl)) (@mD _ _ _ (qZ qX T.aR rfl T.a_ rfl (ad (rC (sE (pv 3) (pK rn))) dt))) hC) (@mD _ _ _ (@pA _ _ _ _ _ _ _ _ (lZ yP (pv 3) (pV qg (pv 0) pS (pB (pv 2))) (by with_unfolding_all rfl)) (@mD _ _ _ (qZ qX T.aR rfl T.a_ rfl (ad (rC (pK (sE (pv 3) (pK rn)))) dt))) hC)))⟩)) ?_;have rs:=GG N;refine lL _ rfl l _ rfl (.inl (SqL.of C)) (ot _ _ rfl rfl _ rfl (lT (λd=>?_) (λd=>?_)))
  ·have S:3<b.length:=by
    have d:(3:Int)<((b.map V.str).length:Nat):=d;rw[dm]at d;lia
   have a0:(" are too many axes":Str).length<=30:=by decide+kernel
   refine cb _ rfl (sK l b rfl C (λz=>by rw[z]at S;simp at S) (λy e=>(N y e).1) (lK (by rw[nZ];lia)) λz R=>(lX (lK ?_) (lK ?_) (kr rfl) (I (λg=>by have:=g.1;lia) _ (A0l.refl _))))
   ·simp only [nW,nZ];lia
   ·simp only [nW,nZ];lia
  have l3:b.length<=3:=by have d:¬(3:Int)<((b.map V.str).length:Nat):=d;rw[dm]at d;lia
  refine lL _ rfl l _ rfl (SqL.of C) ?_;refine Bp (K:=K) (a:=l) (xs:=b.map V.str) (λi Z D=>∃J M:zP,Z=[Sro l,Sro Y,J,M]/\A0l H D/\∀j x,j<i->b[j]?=some x->x∈kn/\x∉b.take j) (dV none none rfl (A0l.refl _) (by intro j x h;lia)) (by (refine λi Z D c=>ei c λ_ _ _ u _=>?_;clear c);exact SqL.of (u _ _ C)) ?_ ?_
  ·rintro i v Z D p W c;refine ei c ?_;clear c;rintro J M rfl u G hp;refine oJ ?_;intro D';rw[oH]at W;obtain⟨x,m,rfl⟩:=rg.mp W;have hi:i<b.length:=(ml.mp m).1;obtain⟨f,lx⟩:=N x (me m);have B:=u.trans (ed (o:=.tup [.int (i:Nat),.str x]) hp);refine qO p _ rfl (SqT.of cp) rfl _ _ rfl _ _ rfl rfl ?_;refine nh _ rfl _ rfl Y _ rfl (.inl (SqL.of (B _ _ hk))) (nu rfl (ud _) _ rfl ?_);rw[ti];refine se (λL=>?_) (λr=>?_)
   ·refine mH _ rfl x rfl f ⟨lK ?_,λz R=>(lX (lK ?_) (lK ?_) (kr rfl) (I (λg=>L (g.2 i x m).1) _ B))⟩
    ·have:(" is no axis of the program":Str).length<=50:=by decide+kernel
     simp only [nW,nZ];lia
    ·have:(" is no axis of the program":Str).length<=50:=by decide+kernel
     simp only [nW,nZ];lia
    ·have:(" is no axis of the program":Str).length<=50:=by decide+kernel
     simp only [nW,nZ];lia
   refine cb _ rfl (i12 _ rfl _ rfl _ rfl l _ rfl (SqL.of (B _ _ C)) λq hq=>?_);rw[Bl (Nat.le_of_lt hi)];have X:=ed (o:=.lst ((b.take i).map V.str)) hq;refine dV q ((b.take i).map V.str) rfl (.inl (SqL.of cp)) (nu rfl (ud _) _ rfl ?_);rw[ti];refine lT (λO=>?_) (λk=>(dV _ _ rfl (B.trans X) λj y hj e=>?_))
   ·refine kB (lK ?_) _ rfl (nr x rfl f (lK ?_) λz R=>(lX (lK ?_) (lK ?_) (kr rfl) (I (λg=>(g.2 i x m).2 O) _ (B.trans X))))
    ·have:("the axis ":Str).length<=50:=by decide+kernel
     have:(" comes twice in one list":Str).length<=50:=by decide+kernel
     simp only [nW,nZ];lia
    ·have:("the axis ":Str).length<=50:=by decide+kernel
     have:(" comes twice in one list":Str).length<=50:=by decide+kernel
     simp only [nW,nZ];lia
    ·have:("the axis ":Str).length<=50:=by decide+kernel
     have:(" comes twice in one list":Str).length<=50:=by decide+kernel
     simp only [nW,nZ];lia
    ·have:("the axis ":Str).length<=50:=by decide+kernel
     have:(" comes twice in one list":Str).length<=50:=by decide+kernel
     simp only [nW,nZ];lia
   ·rcases Nat.lt_or_ge j i with h|h
    ·exact G j y h e
    ·have:j=i:=by lia
     subst this;rw[m]at e;cases e;exact⟨r,k⟩
  ·rintro Z D c;refine ei c ?_;clear c;rintro J M rfl u G;rw[dm]at G;exact kq ⟨l3,Bm G⟩ D u
theorem Ds{k:Key}:∀{l:zJ},k∉l.map (·.1)->lW l k=none| [],_=>rfl|p::r,h=>by have b:¬p.1=k:=λz=>h (by rw[<-z];exact .head _);have a:=Ds (l:=r) λz=>h (.tail _ z);unfold lW at a⊢;rw[sO];simp only [mT b];exact a
theorem xz:∀{ws acc:zJ},((acc++ws).map (·.1)).Nodup->mo acc ws=acc++ws
 | [],acc,_=>by rw[ox];rfl
 |w::r,acc,h=>by
  have a:w.1∉acc.map (·.1):=λz=>by rw[lR,mi]at h;exact(qp.mp h).2.2 _ z _ (.head _) rfl
  show mo (my acc w.1 w.2) r=_;rw[wa w.2 (Ds a),xz (by rw[pj];exact h),pj];rfl
structure zu(ax:zL)(tb:zB)(ls:List Lt)(os:zC):Prop where
 la:ax.length<=100
 lt:tb.length<=100
 ll:ls.length<=100
 lo:os.length<=500
 on:OkN (axN ax++arN tb ls)
 oo:OkN os
 t:∀e∈arr tb ls,e.2.length<=20/\OkN e.2
def GdN(a:zL)(tb:zB)(ls:List Lt)(os:zC):Prop:=Au (axN a++arN tb ls)/\AH (arN tb ls) os
def GdS(a:zL)(tb:zB)(ls:List Lt):Prop:=∀e∈arr tb ls,yr (axN a) e.2
def K3(A:Adr):Sp:=λf H Q E=>∃(p:zW)(g:Int)(b:zL)(c:zB)(d:List Lt)(e:zC),f=[.ref p]/\C0m A H p g b c d e/\zu b c d e/\
 (GdN b c d e->GdS b c d->∀a,A0l H a->Q .non a)/\(¬GdN b c d e->∀a,A0l H a->E (.ref A.c7) none a)/\(GdN b c d e->¬GdS b c d->∀a,A0l H a->E (.ref A.cc) none a)
theorem JL{p:Str->Prop}(h:vM p ns):ns.Nodup:=by rw[List.Nodup,List.pairwise_iff_getElem];intro i j c a b e;refine(h j ns[j] (nP a)).2 ?_;rw[<-e];exact List.mem_iff_getElem.mpr ⟨i,by rw[mK];lia,List.getElem_take⟩
theorem BA{S:zV}{H:Hp}:∀{ws:zJ}{es:zB},qG S H ws es->ws.map (·.1)=es.map λe=>(Sum.inr e.1:Key)|_,_,.nil=>rfl|_,_,.cons ⟨h,_⟩ t=>by rw[mi,mi,BA t,h]
theorem vw(tb:zB)(ls:List Lt):(arr tb ls).map (·.1)=arN tb ls:=by unfold arr arN;rw[lR,List.map_map];rfl
theorem OB(T:Txt K mg t):A3i P w K mg base (CXD P w) 4 t.eJ t.e_ oE (K3 t):=by
 refine T.eS.F.okD Ge λ_ A _ s H _ Q E r h=>?_
 ·refine rD h ?_;clear h;rintro p M n m f os rfl L G kQ kN kS;refine nU L.ob ?_;rintro dx a tt l o e ra rt ⟨xl,hl,rl⟩ ro;obtain⟨o2,eo,ho⟩:=yg ro;cases eo;have la:=G.la;have lt:=G.lt;have ll:=G.ll;refine rsq (dh ⟨oa (pcd (O8 T) r T.bO qJ (ad (eB rO (pcl (BP T) r T.b6 (eg 0)) (pcl (Gj T) r T.bj (eg 0))) dt))⟩ (dh ⟨oa (pcd (N8 T) r T.fM qJ (ad (lJ (pv 0) rfl) (ad (pcl (Gj T) r T.bj (eg 0)) dt)))⟩ (dh ⟨sr PassesOwn.leaving rfl (Mg (Dd PySem.F.plainAttrs_dict PySem.F.slot_dict_values PySem.F.type_dict_values LG (pcl (FW T) r T.bS (eg 0)))) (hH (i:=1) Ge.nd) (@mD _ _ _ (oa (pcd (Oc T) r T.fB qJ (ad (pv 1) (ad (pcl (BP T) r T.b6 (eg 0)) dt)))))⟩ ⟨@Bd _ _ _ hC⟩))) ?_;refine nT _ rfl p M n (mh m f os rfl L la λq1 H1 a6 s1 h1=>?_);refine nT _ rfl p M n (oq m f os rfl (L.same s1) lt ll λq2 Y a5 k h2=>?_);have z1:((axN n).map V.str++(arN m f).map V.str)=(axN n++arN m f).map V.str:=by simp
  have ln:(axN n++arN m f).length<=300:=by simp[axN,arN];lia
  refine og q1 q2 _ _ rfl rfl (k _ _ h1) h2 (lK (by rw[mx]at ln;rw[dm,dm];lia)) λq3 R=>?_;rw[z1];have J:=(s1.trans k).trans (ed (o:=.lst ((axN n++arN m f).map V.str)) R);refine sK q3 _ rfl cp (by lia) G.on (λg1 O y=>?_) λg1 O y=>kN (λz=>g1 z.1) O (J.trans y);have s5:=J.trans y;refine hP _ rfl p _ dx _ _ rfl (s5 _ _ e) T.af T.cF (by walk_at"lk") (nT _ rfl p M n (oq m f os rfl (L.same s5) lt ll λq6 H6 a7 s6 h6=>?_));have s7:=s5.trans s6;refine og o q6 os _ rfl (s7 _ _ ho) h6 G.lo G.oo ⟨λg2 H8 s8=>?_,λg2 H8 s8=>kN (λz=>g2 z.2) H8 (s7.trans s8)⟩;have s9:=s7.trans s8;have gN:GdN n m f os:=⟨g1,g2⟩;refine nT _ rfl p M n (oq m f os rfl (L.same s9) (by lia) (by lia) λd q Hd B sd I D=>?_)
  have nk:mo [] q=q:=by
   refine xz ?_;rw[List.nil_append,BA D]
   have h1:((arr m f).map (·.1)).Nodup:=by rw[vw];exact(qp.mp (JL g1)).2.1
   rw[List.Nodup,List.pairwise_map]at h1⊢;exact h1.imp λa4 z=>a4 (by injection z)
  rw[nk]at I;have a0:=s9.trans sd;refine⟨.inr (.inr (.inl ⟨rfl,.inl ⟨q,I⟩⟩)),(lQ d q rfl rfl I λpv C=>?_)⟩;have nv:d≠pv:=λz=>by subst z;rw[I]at C;cases C
  refine mh pv d q rfl cp (by rw[eh nv];exact I) λN=>?_
  have U:∀b u,b≠d->Hd b=some u->upd (upd Hd pv (uN pv d)) d (.frz N (.dK q)) b=some u:=λb u hb e=>by rw[eh hb];exact ed C _ _ e
  have nq:∀b u,H b=some u->b≠d:=λb u e z=>by subst z;have:=s9 _ _ e;rw[this]at B;cases B
  have S11:A0l H (upd (upd Hd pv (uN pv d)) d (.frz N (.dK q))):=λb u e=>U b u (nq b u e) (a0 _ _ e);refine Nf (a:=d) (o:=N) (kvs:=q) (λi Z Y=>∃o1:zP,Z=[Sro p,o1]/\A0l (upd (upd Hd pv (uN pv d)) d (.frz N (.dK q))) Y/\∀j e,j<i->(arr m f)[j]?=some e->yr (axN n) e.2) (fx none rfl (A0l.refl _) (by intro j e h;lia)) (by rintro i Z Y ⟨_,_,k,_⟩;exact k _ _ cp) ?_ ?_
  ·rintro i kk v Z Y a3 ⟨o1,rfl,k,gd⟩;refine oJ ?_;intro D';refine nw (pI D a3) ?_;rintro ee x _ ⟨c,ec,_,hc⟩;have ec:v=.ref c:=ec;subst ec;have cq:c≠d:=mU hc I (by intro z;cases z);have a1:=k _ _ (U _ _ cq hc);obtain⟨a2,X⟩:=G.t ee (me x);refine cb _ rfl (nT _ rfl p M n (mh m f os rfl (L.same (S11.trans k)) la λq3 H3 R J h3=>?_));refine og c q3 ee.2 _ rfl (J _ _ a1) h3 a2 X ⟨λg O y=>(fx _ rfl (k.trans (J.trans y)) λj e hj W=>?_),λg O y=>kS gN (λz=>g (z ee (me x))) O (S11.trans (k.trans (J.trans y)))⟩;rcases Nat.lt_or_ge j i with h|h
   ·exact gd j e h W
   ·have:j=i:=by lia
    subst this;rw[x]at W;cases W;exact g
  ·rintro Z Y ⟨o1,rfl,k,gd⟩;have S:H d=none:=s9.free B;refine nM d N q (k _ _ cp) (λo' u' z=>?_) (kQ gN (λe W=>?_) _ (mu (S11.trans k) S))
   ·have z':H d=some _:=z;rw[S]at z';cases z'
   ·obtain⟨j,hj,e2⟩:=List.mem_iff_getElem.mp W;refine gd j e ?_ (by rw[nP hj,e2]);rw[Paired.length D];exact hj
theorem Lg{k:Key}(n:∀p∈ws,p.1≠k)(u:V):my ws k u=ws++[(k,u)]:=by unfold my;rw[fa];intro h;obtain⟨p,a,e⟩:=List.any_eq_true.mp h;exact n p a (of_decide_eq_true e)
def shp(es:zB)(a:Str):Option zC:=(es.find? λe=>decide (e.1=a)).map (·.2)
def oB:Tm->List Str|.sum x b=>x::oB b|_=>[]
def ixB(a:zC)(ix:zL):Bool:=ix.all λe=>decide (e.1="")||decide (e.1∈a)
def rY(es:zB)(b:zC)(a:Str)(ix:zL):Option Bool:=match shp es a with|none=>some true|some zs=>if ix.length≠zs.length then some false else if ixB b ix=true then none else some false
noncomputable def pOk(c:zC)(es:zB)(own:Str)(ys:zC)(d:Nat)(e:Pq):Option Bool:=match e.1 with
 |.place x=>if x∈ys++e.2.1 then none else some false
 |.guard x _ _ _ _=>if x∈ys++e.2.1 then none else some false
 |.sum x _=>if x∈c then (if x∈ys++e.2.1 then some false else none)else some false
 |.read a ix=>match rY es (ys++e.2.1) a ix with|some b=>some b|none=>if a=own/\d<e.2.1.length then some false else none
 |.num _=>none
 |.pair _ _ _=>none
def tO(es:zB)(l:Lt):zB:=es++[(l.1,l.2.1)]
def vG(a:zC)(es:zB)(l:Lt):Option Bool:=(prT l.2.2 [] []).findSome? (pOk a (tO es l) l.1 l.2.1 (oB l.2.2).length)
def tR(a:zC):List (Str×List Str)->List Lt->Option Bool|_,[]=>none|es,l::r=>match vG a es l with|some b=>some b|none=>tR a (tO es l) r
def clsX(A:Adr):Bool->zW|true=>A.c7|false=>A.cc
def Out(A:Adr)(r:Option Bool)(Q:VK)(E:XK)(H:Hp):Prop:=(r=none->∀a,A0l H a->Q .non a)/\∀b,r=some b->∀a,A0l H a->E (.ref (clsX A b)) none a
theorem Out.of{r:Option Bool}(h:Out A r Q E H)(s:A0l H H1):Out A r Q E H1:=⟨λz a c=>h.1 z a (s.trans c),λb z a c=>h.2 b z a (s.trans c)⟩
def OkT:Tm->Prop|.num _=>True|.place x=>OkX x|.read a ix=>OkX a/\ix.length<=100/\∀e∈ix,OkX e.1|.sum x b=>OkX x/\OkT b|.pair _ l r=>OkT l/\OkT r|.guard x _ _ l r=>OkX x/\OkT l/\OkT r
theorem wq:∀(u:Tm)(s:zC)(g:List Gd),OkT u->∀e∈prT u s g,OkT e.1
 |.num _,s,g,h,e,a=>by rw[mn.mp a];exact h
 |.place _,s,g,h,e,a=>by rw[mn.mp a];exact h
 |.read _ _,s,g,h,e,a=>by rw[mn.mp a];exact h
 |.sum x b,s,g,h,e,a=>by
  rcases lY.mp a with rfl|a
  ·exact h
  ·exact wq b _ _ h.2 e a
 |.pair k l r,s,g,h,e,a=>by
  rcases lY.mp a with rfl|a
  ·exact h
  ·rcases mX.mp a with a|a
   ·exact wq l _ _ h.1 e a
   ·exact wq r _ _ h.2 e a
 |.guard x lo hi l r,s,g,h,e,a=>by
  rcases lY.mp a with rfl|a
  ·exact h
  ·rcases mX.mp a with a|a
   ·exact wq l _ _ h.2.1 e a
   ·exact wq r _ _ h.2.2 e a
theorem Bh{S:zV}{H:Hp}{a:Str}:∀{kvs:zJ}{es:zB},qG S H kvs es->(shp es a=none/\lW kvs (Sum.inr a)=none)\/∃zs c,shp es a=some zs/\lW kvs (Sum.inr a)=some (.ref c)/\H c=some (.lst (zs.map V.str))
 |_,_,.nil=>.inl ⟨rfl,rfl⟩
 |_,_,@Paired.cons _ _ _ p e _ _ ⟨ek,b,eb,_,hb⟩ t=>by
  by_cases he:e.1=a
  ·refine .inr (dV e.2 b (by simp[shp,sO,he]) ?_ hb);rw[qx (by rw[ek,he]),eb]
  ·have d:∀r,shp (e::r) a=shp r a:=λr=>by simp[shp,sO,he]
   rw[d,qw (λz=>he (by rw[ek]at z;injection z))];exact Bh t
def K7(A:Adr):Sp:=λc H Q E=>∃(x:Str)(b:zW)(a:zC),c=[.str x,.ref b]/\H b=some (.lst (a.map V.str))/\OkX x/\Out A (if x∈a then none else some false) Q E H
def HX(A:Adr):Sp:=λd H Q E=>∃(x:Str)(b k:zW)(c a:zC),d=[.str x,.ref b,.ref k]/\H b=some (.lst (c.map V.str))/\H k=some (.lst (a.map V.str))/\OkX x/\Out A (if x∈a then (if x∈c then some false else none)else some false) Q E H
def IQ(A:Adr):Sp:=λj H Q E=>∃(o i l b d:zW)(a:Str)(f:zL)(g:zC)(c:zJ)(h:zB),j=[.ref o,.ref b,.ref d]/\H o=some (.ins A.aa i [("array",.str a),("indexes",.ref l)])/\Rep H (.ref l) (oK f)/\H b=some (.lst (g.map V.str))/\H d=some (.dK c)/\qG (λ_=>True) H c h/\OkX a/\(∀e∈f,OkX e.1)/\Out A (rY h g a f) Q E H
def Hu(A:Adr):Sp:=λb H Q _=>∃(v:V)(u:Tm),b=[v]/\Ob A H v u/\dep u<=100/\∀(q:zW)(a:Hp),H q=none->A0l H a->a q=some (.lst ((oB u).map V.str))->Q (.ref q) a
def IH(A:Adr):Sp:=λd H Q E=>∃(v y:V)(a:Str)(e:zL)(c:zC)(f:List Gd)(b:Lt),d=[v,y]/\A4l A H v (.read a e,c,f)/\B0p A (λ_=>True) H y b/\dep b.2.2<=100/\OkX b.1/\Out A (if a=b.1/\(oB b.2.2).length<c.length then some false else none) Q E H
def JW(A:Adr):Sp:=λg H Q E=>∃(v y:V)(d k:zW)(e:Pq)(a:Lt)(c:zC)(b:zJ)(f:zB),g=[v,y,.ref d,.ref k]/\A4l A H v e/\B0p A (λ_=>True) H y a/\a.2.1.length<=100/\dep a.2.2<=100/\OkX a.1/\H k=some (.lst (c.map V.str))/\H d=some (.dK b)/\qG (λ_=>True) H b f/\OkT e.1/\Out A (pOk c f a.1 a.2.1 (oB a.2.2).length e) Q E H
structure zx(ax:zL)(tb:zB)(ls:List Lt):Prop where
 la:ax.length<=100
 lt:tb.length<=100
 ll:ls.length<=100
 nd:(arN tb ls).Nodup
 l:∀e∈ls,e.2.1.length<=100/\OkX e.1/\OkT e.2.2/\dep e.2.2<=9/\nod e.2.2<=1000
def J8(A:Adr):Sp:=λd H Q E=>∃(p:zW)(e:Int)(a:zL)(b:zB)(c:List Lt)(f:zC),d=[.ref p]/\C0m A H p e a b c f/\zx a b c/\Out A (tR (axN a) b c) Q E H
theorem CG{H:Hp}:∀{tb:zB}{xs:zM},A3m H xs (tb.map qT)->∃kvs,PL H xs kvs/\qG (λ_=>True) H kvs tb
 | [],_,r=>by cases r;exact cb [] .nil .nil
 |e::tb,_,r=>by
  rw[mi]at r
  cases r with
  |cons a r=>refine ei (xY a) ?_;rintro b c rfl f h;obtain⟨kvs,d,g⟩:=CG r;exact cb ((Sum.inr e.1,.ref c)::kvs) (.cons (cb b rfl f) d) (.cons (mW rfl c rfl True.intro h) g)
theorem yN(h:qG S H kvs es)(s:A0l H H'):qG S H' kvs es:=Paired.mapP h (by rintro _ _ ⟨d,b,e,c,a⟩;exact mW d b e c (s _ _ a))
theorem yI{l:List α}{x:α}(h:l[i]?=some x):l.drop i=x::l.drop (i+1):=by have a:=(ml.mp h).1;rw[List.drop_eq_getElem_cons a,(ml.mp h).2]
theorem Gf(T:Txt K mg t):A3i P w K mg base (CXD P w) 1 t.dR t.eD ["axis","bound"] (K7 t):=by
 refine T.cj.F.okD Og λ_ A _ s H _ Q E l h=>?_
 ·refine nF h ?_;clear h;rintro x b k rfl f ⟨c,g⟩ e;refine rsq (ef (lN (lZ ww (pv 0) (pv 1) (by with_unfolding_all rfl)) (ef ⟨qZ qX T.aR rfl T.a_ rfl (ad (rC (pK (sE (pv 0) (pK rn)))) dt)⟩) ⟨hC⟩)) ?_;have j:("the axis ":Str).length<=50:=by decide+kernel
  have m:(" is not bound":Str).length<=50:=by decide+kernel
  refine nh _ rfl _ rfl b _ rfl (.inl (SqL.of f)) (nu rfl (ud _) _ rfl ?_);rw[ti];refine se (λd=>?_) (λa=>e.1 (eH a) _ (A0l.refl _));refine(kB (lK ?_) _ rfl (nr x rfl c (lK ?_) λz i=>(lX (lK ?_) (lK ?_) (kr rfl) (e.2 false (fa d) _ (A0l.refl _)))))<;>(simp only [nW,nZ];lia)
theorem Nr(T:Txt K mg t):A3i P w K mg base (CXD P w) 1 t.gL t.gq Ap (HX t):=by
 refine T.gF.F.okD NB λ_ A _ s H _ Q E q h=>?_
 ·refine nU h ?_;clear h;rintro x b l p m rfl k j ⟨c,n⟩ e;refine rsq (dh (lN (lZ ww (pv 0) (pv 2) (by with_unfolding_all rfl)) (ef ⟨qZ qX T.aR rfl T.a_ rfl (ad (rC (sE (pv 0) (pK rn))) dt)⟩) ⟨hC⟩) (ef (lN (lZ yP (pv 0) (pv 1) (by with_unfolding_all rfl)) (ef ⟨qZ qX T.aR rfl T.a_ rfl (ad (rC (pK (sE (pv 0) (pK rn)))) dt)⟩) ⟨hC⟩))) ?_;have o:("the axis ":Str).length<=50:=by decide+kernel
  have r:(" of a sum is bound already":Str).length<=50:=by decide+kernel
  have u:(" is no axis of the program":Str).length<=50:=by decide+kernel
  refine nh _ rfl _ rfl l _ rfl (.inl (SqL.of j)) (nu rfl (ud _) _ rfl ?_);rw[ti];refine se (λf=>?_) (λa=>?_)
  ·refine(mH _ rfl x rfl c ⟨lK ?_,λz i=>(lX (lK ?_) (lK ?_) (kr rfl) (e.2 false (fa f) _ (A0l.refl _)))⟩)<;>(simp only [nW,nZ];lia)
  rw[eH a]at e;refine nh _ rfl _ rfl b _ rfl (.inl (SqL.of k)) (nu rfl (ud _) _ rfl ?_);rw[ti];refine lT (λg=>?_) (λd=>e.1 (fa d) _ (A0l.refl _));refine(kB (lK ?_) _ rfl (nr x rfl c (lK ?_) λz i=>(lX (lK ?_) (lK ?_) (kr rfl) (e.2 false (eH g) _ (A0l.refl _)))))<;>(simp only [nW,nZ];lia)
theorem NW(T:Txt K mg t):A3i P w K mg base (CXD P w) 2 t.fF t.fG ["read","bound","arrays"] (IQ t):=by
 refine T.fK.F.okD yY λ_ A _ s H _ Q E hr h=>?_
 ·refine pZ h ?_;clear h;rintro o U l b d a v m L ⟨es,rfl,ho,rl,hb,hd,aw,⟨D,a0⟩,W,I⟩;have hu:=qW hr;refine ei (rQ (show Rep H (.ref l) (.list (v.map pf)) from rl)) λl' xs el Y rs=>?_;cases el;have u:=rs.len;rw[dm]at u;refine rsq (dh (hK 3 yY.nd (lJ (pv 0) rfl)) (dh (lN (AI (Bw hu (pv 3) (pv 2)) (by with_unfolding_all rfl)) (ef ⟨qZ qX T.bE rfl T.c8 rfl (ad (rC (sE (pv 3) (pK rn))) dt)⟩) ⟨hC⟩) (dh (lN (lZ vL (oA T.aK (ad (lJ (pv 0) rfl) dt)) (oA T.aK (ad (mj hu (pv 2) (pv 3)) dt))) (ef ⟨qZ qX T.aR rfl T.a_ rfl (ad (rC (pK (sE (pv 3) (pK rn)))) dt)⟩) ⟨hC⟩) (ef ⟨sr PassesOwn.leaving rfl (nR (lJ (pv 0) rfl)) (qY (n:=2) rfl (mV (hH (i:=4) yY.nd) (mV (hH (i:=5) yY.nd) pT))) (@mD _ _ _ (@pA _ _ _ _ _ _ _ _ (lZ vL (pv 4) lV) (@mD _ _ _ (oa (pcd (Gf T) hr T.cj qJ (ad (pv 4) (eg 1))))) hC))⟩)))) ?_;have l1:(" is no table, no let ahead and not the let itself":Str).length<=90:=by decide+kernel
  have l2:("a read of ":Str).length<=90:=by decide+kernel
  have l3:(" has another number of indexes than the array axes":Str).length<=90:=by decide+kernel
  refine hP _ rfl o _ U _ _ rfl ho T.aI T.aM (by walk_at"lk") ?_;rcases Bh (a:=a) aw with ⟨e1,e2⟩|⟨zs,c,e1,e2,hc⟩
  ·have g:A8f H d (.str a) none:=.inl (dV L (Sum.inr a) (.inl hd) rfl e2.symm);have N:rY es m a v=some true:=by unfold rY;rw[e1]
   refine mE _ rfl _ rfl (ot d _ rfl g _ rfl (nI ?_));refine(mH _ rfl a rfl D ⟨lK ?_,λz hz=>(lX (lK ?_) (lK ?_) (kr rfl) (I.2 true N _ (A0l.refl _)))⟩)<;>(simp only [nW,nZ];lia)
  have g:A8f H d (.str a) (some (.ref c)):=.inl (dV L (Sum.inr a) (.inl hd) rfl e2.symm);refine mE _ rfl _ rfl (ot d _ rfl g _ rfl (hY ?_));refine hP _ rfl o _ U _ _ rfl ho T.aI T.aZ (by walk_at"lk") (dV l _ rfl (.inl (SqL.of Y)) (nh _ rfl _ rfl d _ rfl g (mL c _ rfl (nu (.inl (SqL.of hc)) rfl _ rfl (se (λk=>?_) (λf=>?_))))))
  ·have k:v.length≠zs.length:=λz=>k (by rw[u,z,dm]);have N:rY es m a v=some false:=by unfold rY;rw[e1];exact eH k
   refine(kB (lK ?_) _ rfl (nr a rfl D (lK ?_) λz hz=>(lX (lK ?_) (lK ?_) (kr rfl) (I.2 false N _ (A0l.refl _)))))<;>(simp only [nW,nZ];lia)
  have f:v.length=zs.length:=by have:=V.int.inj f;rw[u,dm]at this;lia
  have N:rY es m a v=if ixB m v=true then none else some false:=by unfold rY;rw[e1];exact fa (λz=>z f)
  rw[N]at I;refine hP _ rfl o _ U _ _ rfl ho T.aI T.aZ (by walk_at"lk") (fx l rfl ⟨_,SqL.of Y⟩ ?_);refine pU (K:=K) (a:=l) (xs:=xs) (λi Z O=>∃(S R:zP),Z=[Sro o,Sro b,Sro d,Sso a,S,R]/\A0l H O/\∀j e,j<i->v[j]?=some e->e.1=""\/e.1∈m) (dV none none rfl (A0l.refl _) (by intro j e h;lia)) (by (refine λi Z O _ y=>ei y λ_ _ _ q _=>?_;clear y);exact SqL.of (q _ _ Y)) ?_ ?_
  ·rintro i x Z O hx y;refine ei y ?_;clear y;rintro S R rfl q gd;refine oJ ?_;intro D';obtain⟨e,M,rx⟩:=vU rs hx;obtain⟨p,rfl,ep⟩:=yc rx
   have G:(e.1=""\/e.1∈m)->∀j J,j<i+1->v[j]?=some J->J.1=""\/J.1∈m:=λh j J hj B=>by
    rcases Nat.lt_or_ge j i with C|C
    ·exact gd j J C B
    ·have:j=i:=by lia
     subst this;rw[M]at B;cases B;exact h
   refine qO p _ rfl (SqT.of (q _ _ ep)) rfl _ _ rfl _ _ rfl rfl ?_;refine qj _ rfl rfl _ rfl (se (λk=>?_) (λf=>(dV _ _ rfl q (G (.inl (V.str.inj f))))));refine mE _ rfl _ rfl (oq e.1 b m rfl (q _ _ hb) (W e (me M)) (λhq H3 X=>(dV _ _ rfl (q.trans X) (G (.inr ?_)))) λbb r H3 X=>?_)
   ·by_cases hin:e.1∈m
    ·exact hin
    ·rw[fa hin]at hq;cases hq
   ·by_cases hin:e.1∈m
    ·rw[eH hin]at r;cases r
    ·rw[fa hin]at r;cases r;refine I.2 false (fa λz=>?_) _ (q.trans X);have:=List.all_eq_true.mp z e (me M);rcases Bool.or_eq_true_iff.mp this with z|z
     ·exact k (by rw[of_decide_eq_true z])
     ·exact hin (of_decide_eq_true z)
  ·rintro Z O y;refine ei y ?_;clear y;rintro S R rfl q gd;refine I.1 (eH (List.all_eq_true.mpr λe M=>?_)) _ q;obtain⟨j,hj⟩:=List.getElem?_of_mem M;rcases gd j e (by rw[u];exact(ml.mp hj).1) hj with z|z
   ·rw[mP z];rfl
   ·rw[mP z,Bool.or_true]
theorem OC(T:Txt K mg t):FO P w base T.bV 1 (Hu t):=by
 refine T.bV.F.ok zf λ_ A _ s H _ Q E M h=>?_
 ·refine lS h ?_;clear h;rintro v u rfl G L k;refine rsq (dh (hK 1 zf.nd (@oG _ _ _ _ dt)) (dh (hK 2 zf.nd (pv 0)) (dh ⟨@Ku _ _ _ _ _ _ PassesOwn.never (nn (nK pW (by rfl) T.a6 oW (ad (pv 2) (ad (sv (v:=V.ref t.aJ) rfl T.jM rfl) dt)))) (@pi _ _ _ _ _ (oa (qI qR sS sR sI (pv 1) (ad (lJ (pv 2) rfl) dt))) (@mD _ _ _ (@pR _ _ 2 _ _ _ _ zf.nd rfl (.inl rfl) (lJ (pv 2) rfl) rfl (.inl rfl))))⟩ (ef (hB (pv 1)))))) ?_;refine⟨kr rfl,λl i=>?_⟩;have J:A0l H (upd H l (.lst [])):=ed i;refine cb _ rfl ?_;refine cb (λm Z d=>∃(a:V)(f:Tm)(b:zC),Z=[some v,Sro l,some a]/\Ob t H a f/\A0l H d/\d l=some (.lst (b.map V.str))/\b++oB f=oB u/\b.length+dep f<=100/\m=dep f) (og (dep u) v u [] rfl G J cp rfl ⟨by show 0+dep u<=100;lia,rfl⟩) ?_;rintro m Z d y;refine nF y ?_;clear y;rintro a f b rfl p c ⟨j,n,C,rfl⟩
  cases id p with
  |@num o dd z eo=>
   have g:nX K d (.ref o) (.ref t.aE):=.ins (c _ _ eo) T.bF T.ae.ha T.ae.hn T.ae.htk T.ae.hm;have e:b=oB u:=by rw[<-n];exact(ox _).symm
   exact md _ rfl _ _ _ _ rfl g (mR T.bZ) false rfl (hY (cb _ rfl (k l d i c (by rw[<-e];exact j))))
  |@place o dd x eo=>
   have g:nX K d (.ref o) (.ref t.ac):=.ins (c _ _ eo) T.bJ T.ao.ha T.ao.hn T.ao.htk T.ao.hm;have e:b=oB u:=by rw[<-n];exact(ox _).symm
   exact md _ rfl _ _ _ _ rfl g (mR T.cv) false rfl (hY (cb _ rfl (k l d i c (by rw[<-e];exact j))))
  |@read o dd ll x ix eo rp=>
   have g:nX K d (.ref o) (.ref t.aa):=.ins (c _ _ eo) T.aI T.aB.ha T.aB.hn T.aB.htk T.aB.hm;have e:b=oB u:=by rw[<-n];exact(ox _).symm
   exact md _ rfl _ _ _ _ rfl g (mR T.cH) false rfl (hY (cb _ rfl (k l d i c (by rw[<-e];exact j))))
  |@pair o dd op v1 v2 ll r eo ob1 ob2=>
   have e:b=oB u:=by rw[<-n];exact(ox _).symm
   have D:kitOne K (.ref (qL t op)) (.ref t.aJ)=some false:=by cases op with|plus=>exact T.fz|minus=>exact T.eF|times=>exact T.eV
   exact md _ rfl _ _ _ _ rfl (xc T (c _ _ eo)) (mR D) false rfl (hY (cb _ rfl (k l d i c (by rw[<-e];exact j))))
  |@guard o dd x lo hi v1 v2 ll r eo ob1 ob2=>
   have g:nX K d (.ref o) (.ref t.a7):=.ins (c _ _ eo) T.aA T.am.ha T.am.hn T.am.htk T.am.hm;have e:b=oB u:=by rw[<-n];exact(ox _).symm
   exact md _ rfl _ _ _ _ rfl g (mR T.cr) false rfl (hY (cb _ rfl (k l d i c (by rw[<-e];exact j))))
  |@sum o dd x v2 bb eo ob1=>
   have g:nX K d (.ref o) (.ref t.aJ):=.ins (c _ _ eo) T.bK T.aO.ha T.aO.hn T.aO.htk T.aO.hm;have C:b.length+(dep bb+1)<=100:=C;refine md _ rfl _ _ _ _ rfl g (mR T.dB) true rfl (nI ?_);refine cb (λZ' q=>∃B,B<dep (.sum x bb)/\∃(a:V)(f:Tm)(b:zC),Z'=[some v,some (.ref l),some a]/\Ob t H a f/\A0l H q/\q l=some (.lst (b.map V.str))/\b++oB f=oB u/\b.length+dep f<=100/\B=dep f) (λZ' q z=>z) ?_;refine fx _ rfl (.inl (pM rfl _ (SqL.of j))) (hP _ rfl o _ dd _ _ rfl (c _ _ eo) T.bK T.bR (by walk_at"lk") (oq l _ _ rfl rfl j (mC (by rw[dm];lia)) ?_));have I:o≠l:=λz=>by subst z;rw[i]at eo;cases eo
   refine hP _ rfl o _ dd _ _ rfl (by rw[eh I];exact c _ _ eo) T.bK T.cY (by walk_at"lk") ?_;refine cb (dep bb) (by show dep bb<dep bb+1;lia) (qA v2 bb (b++[x]) rfl ob1 (mu c i) (by rw[cp,lR];rfl) ?_ ⟨?_,rfl⟩)
   ·rw[<-n,pj];rfl
   ·rw[mx];show b.length+1+dep bb<=100;lia
theorem Md{f:α->Option Bool}{l:List α}{x:α}(h:l[i]?=some x):(l.drop i).findSome? f=match f x with|some b=>some b|none=>(l.drop (i+1)).findSome? f:=by rw[yI h,List.findSome?_cons];cases f x<;>rfl
theorem Mb{t:zX}{c d:zW}(h1:kitOne K t (.ref c)=some false)(h2:kitOne K t (.ref d)=some true):∀us,A2m ([c,d].map V.ref) us->kitAny K t us=some true:=λus r=>by
 cases r with
 |cons a r=>
  cases r with
  |cons b r=>
   cases r
   cases(show _=Value.ref c from a)
   cases(show _=Value.ref d from b)
   simp[kitAny,h1,h2]
theorem Ma{a:zC}{l:Lt}{r:List Lt}:tR a es (l::r)=match vG a es l with|some b=>some b|none=>tR a (tO es l) r:=rfl
theorem OY(T:Txt K mg t):A3i P w K mg base (CXD P w) 2 t.cC t.cG ["part","let"] (IH t):=by
 refine T.cE.F.okD Gp λ_ A _ s H _ Q E I h=>?_
 ·refine nN h ?_;clear h;rintro v y a O j ⟨gg,i,rfl,⟨C,D,tv,N,Z,gs,rfl,e,L,M,hg,X,S,U⟩,⟨b,r,c,n,_,rfl,m,_,Y,l⟩,J,⟨k,W⟩,u⟩;have l1:(" reads itself within a sum that does not stand at the top":Str).length<=90:=by decide+kernel
  cases L with
  |@read o dd ll x O eo rp=>
   refine rsq (ef (lN (PW.pt (tV (lZ nQ (lJ (lJ (pv 0) rfl) rfl) (lJ (pv 1) rfl)) (ua (lZ uO (oA T.aK (ad (lJ (pv 0) rfl) dt)) (oA T.aK (ad (pcl (OC T) I T.bV (ad (lJ (pv 1) rfl) dt)) dt)))))) (dh (hK 2 Gp.nd (lJ (pv 1) rfl)) (ef ⟨qZ qX T.aR rfl T.a_ rfl (ad (rC (sE (pv 2) (pK rn))) dt)⟩)) ⟨hC⟩)) ?_;refine hP _ rfl C _ D _ _ rfl e T.aj T.ay (by walk_at"lk") (nL o _ dd _ _ rfl eo T.aI T.aM (by walk_at"lk") (hP _ rfl b _ r _ _ rfl m T.aF T.aH (by walk_at"lk") (kB rfl _ rfl (lT (λg=>?_) (λp=>hY (u.1 (fa λz=>p (by rw[z.1])) _ (A0l.refl _)))))));have g:a=i.1:=V.str.inj g;refine hP _ rfl C _ D _ _ rfl e T.aj T.av (by walk_at"lk") (dV N _ rfl (.inl (SqL.of M)) (hP _ rfl b _ r _ _ rfl m T.aF T.bp (by walk_at"lk") (lQ n i.2.2 rfl l J λq H1 hq B G=>(dV q _ rfl (.inl (SqL.of G)) (ot _ _ rfl rfl _ rfl (lT (λf=>?_) (λd=>?_)))))))
   ·have f:(oB i.2.2).length<j.length:=by
     have f:(((oB i.2.2).map V.str).length:Int)<((j.map V.str).length:Int):=f;rw[dm,dm]at f;lia
    refine hP _ rfl b _ r _ _ rfl (B _ _ m) T.aF T.aH (by walk_at"lk") ?_;refine(mH _ rfl i.1 rfl k ⟨lK ?_,λz R=>(lX (lK ?_) (lK ?_) (kr rfl) (u.2 false (eH ⟨g,f⟩) _ B))⟩)<;>(simp only [nW,nZ];lia)
   ·have d:¬(oB i.2.2).length<j.length:=by
     have d:¬(((oB i.2.2).map V.str).length:Int)<((j.map V.str).length:Int):=d;rw[dm,dm]at d;lia
    exact u.1 (fa λz=>d z.2) _ B
theorem N7(T:Txt K mg t):A3i P w K mg base (CXD P w) 3 t.fu t.fS zr (JW t):=by
 refine T.fo.F.okD BM λ_ A _ s H _ Q E X h=>?_
 ·refine pZ h ?_;clear h;rintro v y d kk ⟨u,m,gg⟩ n Y a3 es ⟨rfl,R,U,lc,dl,Z,hk,hd,aw,I,j⟩;refine rD (id R) ?_;rintro a dx tv sl gl gs rfl e ob hs hg ⟨bg,bs,pg⟩;refine nU (id U) ?_;rintro b db c a8 _ rfl eb _ ec a9;have ls:m.length<=100:=by have bs:m.length+dep u<=100:=bs;lia
  refine rsq (dh (hK 4 BM.nd (lJ (pv 0) rfl)) (dh (hK 5 BM.nd (eB rO (lJ (pv 1) rfl) (lJ (pv 0) rfl))) (qy (lN (nn (nK Mz (by rfl) T.a6 oW (ad (pv 4) (ad (oQ (ad (sv (v:=V.ref t.ac) rfl T.jP rfl) (ad (sv (v:=V.ref t.a7) rfl T.iQ rfl) dt))) dt)))) (ef ⟨oa (pcd (Gf T) X T.cj qJ (ad (lJ (pv 4) rfl) (eg 5)))⟩) ⟨hC⟩) (qy (lN (nn (nK pW (by rfl) T.a6 oW (ad (pv 4) (ad (sv (v:=V.ref t.aJ) rfl T.jM rfl) dt)))) (ef ⟨oa (pcd (Nr T) X T.gF qJ (ad (lJ (pv 4) rfl) (ad (pv 5) (eg 3))))⟩) ⟨hC⟩) (ef (lN (nn (nK pW (by rfl) T.a6 oW (ad (pv 4) (ad (sv (v:=V.ref t.aa) rfl T.jw rfl) dt)))) (dh ⟨oa (pcd (NW T) X T.fK qJ (ad (pv 4) (ad (pv 5) (eg 2))))⟩ (ef ⟨oa (pcd (OY T) X T.cE qJ (ad (pv 0) (eg 1)))⟩)) ⟨hC⟩)))))) ?_;refine hP _ rfl a _ dx _ _ rfl e T.aj T.ay (by walk_at"lk") ?_;refine hP _ rfl b _ db _ _ rfl eb T.aF T.aT (by walk_at"lk") (hP _ rfl a _ dx _ _ rfl e T.aj T.av (by walk_at"lk") (og c sl _ _ rfl rfl ec hs (lK (by rw[dm,dm];lia)) λO a4=>?_));have z1:(n.2.1.map V.str++m.map V.str)=(n.2.1++m).map V.str:=by simp
  rw[z1];have B:=ed (o:=.lst ((n.2.1++m).map V.str)) a4;generalize hG:upd H O (.lst ((n.2.1++m).map V.str))=G at B⊢;have W:G O=some (.lst ((n.2.1++m).map V.str)):=by rw[<-hG];exact cp
  cases id ob with
  |@num o dd z eo0=>
   have C:∀{q:Hp},A0l H q->nX K q (.ref o) (.ref t.aE):=λs=>.ins (s _ _ eo0) T.bF T.ae.ha T.ae.hn T.ae.htk T.ae.hm;refine qc (A0l H) ?_ ?_
   ·refine fx _ rfl (kr rfl) λJ g=>?_;have f:=B.trans (ed (o:=.tup [.ref t.ac,.ref t.a7]) g);exact qo o _ dd _ J _ false rfl (f _ _ eo0) T.bF T.ae.ha T.ae.hn T.ae.htk ⟨T.ae.hm,(nu cp (yl T.g6 T.cB) false rfl (hY ⟨rfl,f⟩))⟩
   rintro k f;refine qc (A0l H) ?_ ?_
   ·exact md _ rfl _ _ _ _ rfl (C f) (mR T.bZ) false rfl (hY ⟨rfl,f⟩)
   rintro k f;exact md _ rfl _ _ _ _ rfl (C f) (mR T.cN) false rfl (hY (j.1 rfl _ f))
  |@pair o dd op v1 v2 ll r eo0 ob1 ob2'=>
   have a2:kitOne K (.ref (qL t op)) (.ref t.aJ)=some false:=by cases op with|plus=>exact T.fz|minus=>exact T.eF|times=>exact T.eV
   have a5:kitOne K (.ref (qL t op)) (.ref t.aa)=some false:=by cases op with|plus=>exact T.eO|minus=>exact T.dv|times=>exact T.dA
   have a1:kitOne K (.ref (qL t op)) (.ref t.ac)=some false:=by cases op with|plus=>exact T.i8|minus=>exact T.gi|times=>exact T.gw
   have a0:kitOne K (.ref (qL t op)) (.ref t.a7)=some false:=by cases op with|plus=>exact T.hX|minus=>exact T.gu|times=>exact T.gh
   have L:TyC K (qL t op):=by cases op with|plus=>exact T.eI|minus=>exact T.cK|times=>exact T.cR
   refine qc (A0l H) ?_ ?_
   ·refine fx _ rfl (kr rfl) λJ g=>?_;have f:=B.trans (ed (o:=.tup [.ref t.ac,.ref t.a7]) g);exact qo o _ dd _ J _ false rfl (f _ _ eo0) (vR T op) L.ha L.hn L.htk ⟨L.hm,(nu cp (yl a1 a0) false rfl (hY ⟨rfl,f⟩))⟩
   rintro k f;refine qc (A0l H) ?_ ?_
   ·exact md _ rfl _ _ _ _ rfl (xc T (f _ _ eo0)) (mR a2) false rfl (hY ⟨rfl,f⟩)
   rintro k f;exact md _ rfl _ _ _ _ rfl (xc T (f _ _ eo0)) (mR a5) false rfl (hY (j.1 rfl _ f))
  |@place o dd x eo0=>
   have C:∀{q:Hp},A0l H q->nX K q (.ref o) (.ref t.ac):=λs=>.ins (s _ _ eo0) T.bJ T.ao.ha T.ao.hn T.ao.htk T.ao.hm;have j:Out t (if x∈n.2.1++m then none else some false) Q E H:=j;refine qc (λk=>A0l H k/\(if x∈n.2.1++m then none else some false)=(none:Option Bool)) ?_ ?_
   ·refine fx _ rfl (kr rfl) λJ g=>?_;have S:=ed (o:=.tup [.ref t.ac,.ref t.a7]) g;have f:=B.trans S;refine qo o _ dd _ J _ true rfl (f _ _ eo0) T.bJ T.ao.ha T.ao.hn T.ao.htk ⟨T.ao.hm,(nu cp (KQ (c:=t.ac) (cs:=[t.a7]) T.gO) true rfl (nI ?_))⟩;exact hP _ rfl o _ dd _ _ rfl (f _ _ eo0) T.bJ T.du (by walk_at"lk") (cb _ rfl (oq x O _ rfl (S _ _ W) I (λD N l=>(fI rfl (f.trans l) D)) λM p N l=>j.2 M p _ (f.trans l)))
   rintro k ⟨f,D⟩;refine qc (A0l H) ?_ ?_
   ·exact md _ rfl _ _ _ _ rfl (C f) (mR T.cv) false rfl (hY ⟨rfl,f⟩)
   rintro k f;exact md _ rfl _ _ _ _ rfl (C f) (mR T.dw) false rfl (hY (j.1 D _ f))
  |@guard o dd x lo hi v1 v2 ll r eo0 ob1 ob2'=>
   have C:∀{q:Hp},A0l H q->nX K q (.ref o) (.ref t.a7):=λs=>.ins (s _ _ eo0) T.aA T.am.ha T.am.hn T.am.htk T.am.hm;have j:Out t (if x∈n.2.1++m then none else some false) Q E H:=j;refine qc (λk=>A0l H k/\(if x∈n.2.1++m then none else some false)=(none:Option Bool)) ?_ ?_
   ·refine fx _ rfl (kr rfl) λJ g=>?_;have S:=ed (o:=.tup [.ref t.ac,.ref t.a7]) g;have f:=B.trans S;refine qo o _ dd _ J _ true rfl (f _ _ eo0) T.aA T.am.ha T.am.hn T.am.htk ⟨T.am.hm,(nu cp (Mb T.gU T.c_) true rfl (nI ?_))⟩;exact hP _ rfl o _ dd _ _ rfl (f _ _ eo0) T.aA T.bY (by walk_at"lk") (cb _ rfl (oq x O _ rfl (S _ _ W) I.1 (λD N l=>(fI rfl (f.trans l) D)) λM p N l=>j.2 M p _ (f.trans l)))
   rintro k ⟨f,D⟩;refine qc (A0l H) ?_ ?_
   ·exact md _ rfl _ _ _ _ rfl (C f) (mR T.cr) false rfl (hY ⟨rfl,f⟩)
   rintro k f;exact md _ rfl _ _ _ _ rfl (C f) (mR T.di) false rfl (hY (j.1 D _ f))
  |@sum o dd x v2 M eo0 ob1=>
   have C:∀{q:Hp},A0l H q->nX K q (.ref o) (.ref t.aJ):=λs=>.ins (s _ _ eo0) T.bK T.aO.ha T.aO.hn T.aO.htk T.aO.hm;have j:Out t (if x∈Y then (if x∈n.2.1++m then some false else none)else some false) Q E H:=j;refine qc (A0l G) ?_ ?_
   ·refine fx _ rfl (kr rfl) λJ g=>?_;have f:=ed (o:=.tup [.ref t.ac,.ref t.a7]) g;exact qo o _ dd _ J _ false rfl (f _ _ (B _ _ eo0)) T.bK T.aO.ha T.aO.hn T.aO.htk ⟨T.aO.hm,(nu cp (yl T.iH T.iG) false rfl (hY ⟨rfl,f⟩))⟩
   rintro k f;refine qc (λk=>A0l H k/\(if x∈Y then (if x∈n.2.1++m then some false else none)else some false)=(none:Option Bool)) ?_ ?_
   ·refine md _ rfl _ _ _ _ rfl (C (B.trans f)) (mR T.dB) true rfl (nI ?_);exact hP _ rfl o _ dd _ _ rfl (f _ _ (B _ _ eo0)) T.bK T.bR (by walk_at"lk") (oS _ rfl _ rfl x O kk _ Y rfl (f _ _ W) (f _ _ (B _ _ hk)) I.1 (λD N l=>(fI rfl (B.trans (f.trans l)) D)) λM p N l=>j.2 M p _ (B.trans (f.trans l)))
   rintro k ⟨f,D⟩;exact md _ rfl _ _ _ _ rfl (C f) (mR T.fR) false rfl (hY (j.1 D _ f))
  |@read o dd ll x ix eo0 rp=>
   have C:∀{q:Hp},A0l H q->nX K q (.ref o) (.ref t.aa):=λs=>.ins (s _ _ eo0) T.aI T.aB.ha T.aB.hn T.aB.htk T.aB.hm;have j:Out t (match rY es (n.2.1++m) x ix with|some b=>some b|none=>if x=n.1/\(oB n.2.2).length<m.length then some false else none) Q E H:=j
   refine qc (A0l G) ?_ ?_
   ·refine fx _ rfl (kr rfl) λJ g=>?_;have f:=ed (o:=.tup [.ref t.ac,.ref t.a7]) g;exact qo o _ dd _ J _ false rfl (f _ _ (B _ _ eo0)) T.aI T.aB.ha T.aB.hn T.aB.htk ⟨T.aB.hm,(nu cp (yl T.hU T.dy) false rfl (hY ⟨rfl,f⟩))⟩
   rintro k f;refine qc (A0l G) ?_ ?_
   ·exact md _ rfl _ _ _ _ rfl (C (B.trans f)) (mR T.cH) false rfl (hY ⟨rfl,f⟩)
   rintro k f;have i:=B.trans f;refine md _ rfl _ _ _ _ rfl (C i) (mR T.dZ) true rfl (nI ?_);refine mE _ rfl _ rfl (nT _ rfl o dd ll (qo O d x ix _ a3 es rfl (i _ _ eo0) (rp.same i) (f _ _ W) (i _ _ hd) (yN aw i) (lX I.1 I.2.2 (λD N l=>?_) λM p N l=>j.2 M (by rw[p]) _ (i.trans l))));rw[D]at j;exact cb _ rfl (nT _ rfl (.ref a) (.ref b) x (og ix m gg n rfl (R.same (i.trans l)) (U.same (i.trans l)) dl Z (j.of (i.trans l))))
theorem Oo(T:Txt K mg t):A3i P w K mg base (CXD P w) 15 t.eu t.eC oE (J8 t):=by
 refine T.dW.F.okD xB λ_ A _ s H _ Q E hr h=>?_
 ·refine nN h ?_;clear h;rintro p wh B g n ⟨os,rfl,pr,U,ko⟩;have hu:=qW hr;refine nU pr.ob ?_;rintro dx a tt l o e ra rt ⟨xl,hl,rl⟩ ro;refine ei (rQ (show Rep H (.ref tt) (.list (g.map qT)) from rt)) λt2 xs et hx rs=>?_;cases et;have a6:=Paired.length rl;have lt:=U.lt;have ll:=U.ll;refine rsq (dh (hK 1 xB.nd (pcl (BP T) hr T.b6 (eg 0))) (dh (hK 2 xB.nd (qN (Fl rfl) (by rfl) T.dH vB (ad (lJ (pv 0) rfl) dt))) (ef ⟨sr PassesOwn.leaving rfl (nR (lJ (pv 0) rfl)) (hH (i:=3) xB.nd) (@pi _ _ _ _ _ (@su _ _ _ _ _ _ _ _ _ hu (pv 2) (lJ (pv 3) rfl) (lJ (pv 3) rfl) rfl) (@mD _ _ _ (sr PassesOwn.leaving rfl (nR (pcl (BH T) hr T.bH (ad (lJ (pv 3) rfl) dt))) (hH (i:=4) xB.nd) (@mD _ _ _ (oa (pcd (N7 T) hr T.fo qJ (ad (pv 4) (ad (pv 3) (ad (pv 2) (eg 1))))))))))⟩))) ?_;refine nT _ rfl p wh B (mh g n os rfl pr U.la λq H1 hq s1 Y=>?_);obtain⟨C,pl,aw⟩:=CG (rs.same s1);have b7:=Paired.length aw;refine hP _ rfl p _ dx _ _ rfl (s1 _ _ e) T.af T.aL (by walk_at"lk") (mh tt xs _ rfl (s1 _ _ hx) pl λr v=>?_);have b3:(g.map (·.1)).Nodup:=(qp.mp U.nd).1
  have nk:mo [] C=C:=by refine xz ?_;rw[List.nil_append,BA aw];have Y:=b3;rw[List.Nodup,List.pairwise_map]at Y⊢;exact Y.imp λa8 z=>a8 (by injection z)
  rw[nk];have b0:H r=none:=s1.free v;have aq:r≠q:=(lO Y v).symm;have s2:=s1.trans (ed (o:=.dK C) v);refine hP _ rfl p _ dx _ _ rfl (s2 _ _ e) T.af T.aG (by walk_at"lk") (fx l rfl ⟨_,SqL.of (s2 _ _ hl)⟩ ?_)
  refine pU (K:=K) (a:=l) (xs:=xl) (λi Z u=>∃(o3 I:zP)(m:zJ),Z=[Sro p,Sro q,Sro r,o3,I]/\A0l H u/\u q=some (.lst ((axN B).map V.str))/\u r=some (.dK m)/\qG (λ_=>True) u m (g++(n.take i).map λe=>(e.1,e.2.1))/\tR (axN B) (g++(n.take i).map λe=>(e.1,e.2.1)) (n.drop i)=tR (axN B) g n)
   (qA none none C rfl s2 (ed v _ _ Y) cp (by rw[List.take_zero,List.map_nil,ox];exact yN aw (ed v)) (by rw[List.take_zero,List.map_nil,ox,ug])) (by (rintro i Z u _ G;refine mF G ?_;clear G;rintro _ _ _ ⟨_,s2,_⟩);exact SqL.of (s2 _ _ hl)) ?_ ?_
  ·rintro i y Z u hy G;refine nF G ?_;clear G;rintro o3 I m rfl s3 q3 ⟨a3,M,J⟩;refine oJ ?_;intro D';obtain⟨d,D,a0⟩:=pI rl hy;refine nU (id a0) ?_;rintro b db c tv _ rfl eb _ ec ob;refine mM (U.l d (me D)) λk1 k2 k3 k4 k5=>?_;have lm:=Paired.length M;rw[mx,dm,mK]at lm;refine hP _ rfl b _ db _ _ rfl (s3 _ _ eb) T.aF T.aT (by walk_at"lk") (oS _ rfl _ rfl b _ db _ _ rfl (s3 _ _ eb) T.aF T.aH (by walk_at"lk") (dV r _ rfl (C0j.k (k:=Sum.inr d.1) a3 (mC (by lia))) ?_))
   have a9:∀S∈m,S.1≠Sum.inr d.1:=λS a2 z=>by
    obtain⟨j,hj⟩:=List.getElem?_of_mem a2;obtain⟨e',a7,R,_⟩:=pI M hj;have R:S.1=Sum.inr e'.1:=R;rw[z]at R;injection R with R;have nd:=U.nd;have a5:List.Sublist (g.map (·.1)++(n.take (i+1)).map (·.1)) (arN g n):=(List.Sublist.refl _).append ((uD _ _).map _);have X:=List.Pairwise.sublist a5 nd;rw[mQ,D,nO,lR,<-pj]at X;refine(qp.mp X).2.2 d.1 ?_ d.1 (.head _) rfl;have hm:e'.1∈(g++(n.take i).map λe=>(e.1,e.2.1)).map (·.1):=pd.mpr (cb e' (me a7) rfl)
    rw[lR,List.map_map]at hm;rw[R];exact hm
   rw[Lg a9];have O:A0l H (upd u r (.dK (m++[(Sum.inr d.1,.ref c)]))):=mu s3 b0;have q4:upd u r (.dK (m++[(Sum.inr d.1,.ref c)])) q=some (.lst ((axN B).map V.str)):=by rw[eh aq.symm];exact q3
   have a4:upd u r (.dK (m++[(Sum.inr d.1,.ref c)])) r=some (.dK (m++[(Sum.inr d.1,.ref c)])):=cp;have N:qG (λ_=>True) (upd u r (.dK (m++[(Sum.inr d.1,.ref c)]))) (m++[(Sum.inr d.1,.ref c)]) (tO (g++(n.take i).map λe=>(e.1,e.2.1)) d):=pQ (Paired.mapP M (by rintro _ _ ⟨z1,b',z2,z3,z4⟩;exact mW z1 b' z2 z3 (by rw[eh (mU z4 a3 (by intro z;cases z))];exact z4))) (.cons (mW rfl c rfl True.intro (O _ _ ec)) .nil);generalize upd u r (.dK (m++[(Sum.inr d.1,.ref c)]))=H4 at O q4 a4 N
   have W:tO (g++(n.take i).map λe=>(e.1,e.2.1)) d=g++(n.take (i+1)).map λe=>(e.1,e.2.1):=by unfold tO;rw[mQ,D,nO,lR,<-pj];rfl
   rw[yI D,Ma]at J;refine hP _ rfl b _ db _ _ rfl (O _ _ eb) T.aF T.bp (by walk_at"lk") (mJ tv d.2.2 rfl (ob.imp O) k4 k5 λqq ps H5 b5 s5 h5 S=>(fx qq rfl ⟨_,SqL.of h5⟩ ?_));have b1:=Paired.length S
   refine pU (K:=K) (a:=qq) (xs:=ps) (λj Z H6=>∃(I:zP),Z=[Sro p,Sro q,Sro r,Sro b,I]/\A0l H5 H6/\((prT d.2.2 [] []).drop j).findSome? (pOk (axN B) (tO (g++(n.take i).map λe=>(e.1,e.2.1)) d) d.1 d.2.1 (oB d.2.2).length)=vG (axN B) (g++(n.take i).map λe=>(e.1,e.2.1)) d)
    (fx I rfl (A0l.refl _) (by rw[ug];rfl)) (by rintro j Z H6 _ ⟨_,_,L,_⟩;exact SqL.of (L _ _ h5)) ?_ ?_
   ·rintro j z Z H6 hz ⟨I,rfl,L,x⟩;refine oJ ?_;intro D';obtain⟨uu,a1,b4⟩:=pI S hz;have s7:=O.trans (s5.trans L);have f:=s5.trans L;rw[Md a1]at x;refine cb _ rfl (mE _ rfl _ rfl (nT _ rfl z (.ref b) r (oZ q uu d (axN B) _ _ rfl (b4.same L) (a0.same s7) (by lia) (by lia) k2 ⟨f _ _ q4,(lP (f _ _ a4) (yN N f) (wq _ _ _ k3 uu (me a1)) (λhn H8 s8=>(fx _ rfl (L.trans s8) (by rw[hn]at x;exact x))) λbb b2 H8 s8=>?_)⟩)));rw[b2]at x;rw[<-x]at J;exact ko.2 bb J.symm _ (s7.trans s8)
   ·rintro Z H6 ⟨I,rfl,L,x⟩;rw[b1,sN]at x;have x:vG (axN B) (g++(n.take i).map λe=>(e.1,e.2.1)) d=none:=x.symm;rw[x,W]at J;have f:=s5.trans L;refine qA _ _ _ rfl (O.trans f) (f _ _ q4) (f _ _ a4) ?_ J;rw[<-W];exact yN N f
  ·rintro Z u G;refine nF G ?_;clear G;rintro o3 I m rfl s3 _ ⟨_,_,J⟩;rw[a6,sN]at J;exact ko.1 J.symm _ s3
def prd(L:zR)(ys:zC):Int:=ys.foldl (λc y=>c*L y) 1
theorem yH(L:zR)(ys:zC)(y:Str):prd L (ys++[y])=prd L ys*L y:=by unfold prd;rw[List.foldl_append];rfl
def qV(a:zJ)(L:zR)(ys:zC):Prop:=∀y∈ys,lW a (Sum.inr y)=some (.int (L y))/\0<=L y/\L y<=60
def Iz(A:Adr):Sp:=λb H Q _=>∃(p:zW)(d:Int)(a:zL)(c:zB)(f:List Lt)(e:zC),b=[.ref p]/\C0m A H p d a c f e/\∀q,H q=none->Q (.ref q) (upd H q (.dK (mo [] (qt a))))
def KW:Sp:=λe H Q _=>∃(l d:zW)(a:zC)(c:zJ)(L:zR),e=[.ref l,.ref d]/\H l=some (.lst (a.map V.str))/\H d=some (.dK c)/\qV c L a/\a.length<=1000/\∀(q:zW)(b:Hp),H q=none->A0l H b->b q=some (.lst (a.map λy=>V.int (L y)))->Q (.ref q) b
def DQ:Sp:=λe H Q _=>∃(l d:zW)(a:zC)(b:zJ)(L:zR),e=[.ref l,.ref d]/\H l=some (.lst (a.map V.str))/\H d=some (.dK b)/\qV b L a/\a.length<=1000/\∀(c:Hp),A0l H c->Q (.int (prd L a)) c
def wkL(L:zR)(e:Lt):Int:=((prT e.2.2 [] []).map λq=>prd L (e.2.1++q.2.1)).sum
def wrk(L:zR)(tb:zB)(ls:List Lt):Int:=(tb.map λe=>prd L e.2).sum+(ls.map (wkL L)).sum
structure xM(lk:zJ)(L:zR)(tb:zB)(ls:List Lt):Prop where
 lt:tb.length<=100
 ll:ls.length<=100
 t:∀e∈tb,e.2.length<=10/\qV lk L e.2
 l:∀e∈ls,e.2.1.length<=10/\qV lk L e.2.1/\dep e.2.2<=9/\nod e.2.2<=1000/\∀q∈prT e.2.2 [] [],qV lk L q.2.1
def Jv(A:Adr):Sp:=λe H Q _=>∃(p:zW)(f:Int)(c:zL)(a:zB)(b:List Lt)(g:zC)(L:zR),e=[.ref p]/\C0m A H p f c a b g/\xM (mo [] (qt c)) L a b/\∀d,A0l H d->Q (.int (wrk L a b)) d
def GE(A:Adr):Sp:=λe H Q E=>∃(p:zW)(f:Int)(d:zL)(a:zB)(c:List Lt)(g:zC)(L:zR),e=[.ref p]/\C0m A H p f d a c g/\xM (mo [] (qt d)) L a c/\Sm (wrk L a c)/\(wrk L a c<=4000->∀b,A0l H b->Q .non b)/\(4000<wrk L a c->∀b,A0l H b->E (.ref A.al) none b)
theorem FZ(T:Txt K mg t):FO P w base T.bD 1 (Iz t):=by
 refine T.bD.F.ok Oj λ_ A _ s H _ Q E r h=>?_
 ·refine nN h ?_;clear h;rintro p y f x v ⟨u,rfl,j,k⟩;refine nN j.ob ?_;rintro c a n l o ⟨e,b,_⟩;refine ei (rQ (show Rep H (.ref a) (.list (f.map pf)) from b)) λq m i g d=>?_;cases i;refine rsq (ef (hB (qN (Fl rfl) (by rfl) T.dH vB (ad (lJ (pv 0) rfl) dt)))) ?_;exact hP _ rfl p _ c _ _ rfl e T.af T.br (by walk_at"lk") (mh a m _ rfl g (Co d) k)
theorem BR(T:Txt K mg t):FO P w base T.aQ 1 KW:=by
 refine T.aQ.F.ok O2 λ_ A _ s H _ Q E r h=>?_
 ·refine nU h ?_;clear h;rintro l d p B L rfl o q v ⟨z,k⟩;have u:=qW r;refine rsq (ef (hB (pC (N':=["axis","lengths"]) (ix:=(List.replicate 1 none++[some 1])) rfl (uv (x:="lengths") rfl rfl rfl (by decide+kernel) (by decide+kernel)) (ux (N0:=["axis"]) rfl (.inl rfl) (by walk_at"ix")) (nR (pv 0)) (λ_ _ _ _=>(hH (i:=0) Mp)) (λ_ _ _ _=>(mj u (pv 1) (pv 0)))))) ?_;refine mH _ rfl l rfl ⟨_,SqL.of o⟩ λD j=>?_;refine sJ (K:=K) (a:=l) (D:=D) (xs:=p.map V.str) (λi f c=>A0l H c/\c D=some (.lst f)/\f=(p.take i).map λy=>V.int (L y)) (fI (ed j) cp rfl) (λi f c e=>SqL.of (e.1 _ _ o)) ?_ ?_
  ·rintro i x f c n ⟨e,b,rfl⟩;refine qE ?_;intro N';rw[oH]at n;obtain⟨y,m,rfl⟩:=rg.mp n;have g:=A8f.k (H:=c) (a:=d) (k:=Sum.inr y) (e _ _ q);rw[(v y (me m)).1]at g;refine⟨⟨rfl,True.intro⟩,(nh _ rfl _ rfl d _ rfl g (lP b (mC (by simp;lia)) (mu e j) cp ?_))⟩;rw[mQ,m,nO,lR];rfl
  ·rintro f c ⟨e,b,rfl⟩;rw[dm,na]at b;exact k D c j e b
theorem F6(T:Txt K mg t):FO P w base T.bB 2 DQ:=by
 refine T.bB.F.ok zd λ_ A _ s H _ Q E u h=>?_
 ·refine nU h ?_;clear h;rintro l d f v L rfl B r o ⟨p,k⟩;refine rsq (dh (hK 2 zd.nd ew) (dh (pX (nR (pcl (BR T) u T.aQ (ad (pv 0) (eg 1)))) (hH (i:=3) zd.nd) (ef (hK 2 zd.nd (eB wT (pv 2) (pv 3))))) (ef (hB (pv 2))))) ?_;refine oS _ rfl _ rfl l d f v L rfl B r o p λq m D z g=>(fx q rfl ⟨_,SqL.of g⟩ ?_);refine pU (K:=K) (a:=q) (xs:=f.map λy=>V.int (L y)) (λi Z c=>m=c/\∃e:zP,Z=[Sro l,Sro d,Sio (prd L (f.take i)),e]) (pM rfl none rfl) (λi Z c _ h=>by rw[<-h.1];exact SqL.of g) ?_ ?_
  ·rintro i x Z c n ⟨rfl,e,rfl⟩;refine oJ ?_;intro C;rw[oH]at n;obtain⟨y,j,rfl⟩:=rg.mp n;have b:=(o y (me j)).2;refine mE _ rfl _ rfl (mJ _ _ rfl rfl (.inr ⟨by lia,by lia⟩) rfl ⟨some (.int (L y)),?_⟩);rw[mQ,j,nO,yH];rfl
  ·rintro Z c ⟨rfl,e,rfl⟩;rw[dm,na];exact cb _ rfl (k m z)
theorem M4(T:Txt K mg t):FO P w base T.fi 15 (Jv t):=by
 refine T.fi.F.ok uA λ_ A _ s H _ Q E X h=>?_
 ·refine nN h ?_;clear h;rintro p wh ax Y ls ⟨os,L,rfl,pr,ok,k⟩;refine nU pr.ob ?_;rintro dx a tt l o e ra rt ⟨xl,hl,rl⟩ _;refine ei (rQ (show Rep H (.ref tt) (.list (Y.map qT)) from rt)) λt2 xs et hx rs=>?_;cases et;have I:=rs.len;rw[dm]at I;have a1:=Paired.length rl;refine rsq (dh (hK 1 uA.nd (pcl (FZ T) X T.bD (eg 0))) (dh (hK 2 uA.nd ew) (dh (pX (nR (lJ (pv 0) rfl)) (qY (n:=2) rfl (mV (hH (i:=3) uA.nd) (mV (hH (i:=4) uA.nd) pT))) (ef (hK 2 uA.nd (eB oM (pv 2) (pcl (F6 T) X T.bB (ad (pv 4) (eg 1))))))) (dh (pX (nR (lJ (pv 0) rfl)) (hH (i:=5) uA.nd) (ef (pX (nR (pcl (BH T) X T.bH (ad (lJ (pv 5) rfl) dt))) (hH (i:=6) uA.nd) (ef (hK 2 uA.nd (eB oM (pv 2) (pcl (F6 T) X T.bB (ad (eB rO (lJ (pv 5) rfl) (lJ (pv 6) rfl)) (eg 1))))))))) (ef (hB (pv 2))))))) ?_;refine nT _ rfl p wh ax (nM Y ls os rfl pr λv a3=>?_);have s1:A0l H (upd H v (.dK (mo [] (qt ax)))):=ed a3;generalize hlk:mo [] (qt ax)=lk at *;refine hP _ rfl p _ dx _ _ rfl (s1 _ _ e) T.af T.aL (by walk_at"lk") (fx tt rfl ⟨_,SqL.of (s1 _ _ hx)⟩ ?_)
  refine pU (K:=K) (a:=tt) (xs:=xs) (λi Z R=>∃(M D:zP),Z=[Sro p,Sro v,some (.int ((Y.take i).map λe=>prd L e.2).sum),M,D,none,none]/\A0l H R/\R v=some (.dK lk))
   (dV none none rfl s1 cp) (by (refine λi Z R _ d=>ei d λ_ _ _ g _=>?_;clear d);exact SqL.of (g _ _ hx)) ?_ ?_
  ·rintro i y Z R m d;refine ei d ?_;clear d;rintro M D rfl g U;refine oJ ?_;intro D';obtain⟨te,O,ry⟩:=vU rs m;refine ei (xY ry) ?_;rintro b c rfl S ec;have tk:=ok.t te (me O);refine qO b _ rfl (SqT.of (g _ _ S)) rfl _ _ rfl _ _ rfl rfl ?_;refine cb _ rfl (oS _ rfl _ rfl c v te.2 lk L rfl (g _ _ ec) U tk.2 (by lia) λx f=>(mL _ _ rfl (nE rfl (some (.str te.1)) (some (.ref c)) ?_ (g.trans f) (f _ _ U))));rw[mQ,O,nO,lR,List.sum_append,List.map_singleton,List.sum_singleton];rfl
  rintro Z R d;refine ei d ?_;clear d;rintro M D rfl g U;rw[I,na];refine hP _ rfl p _ dx _ _ rfl (g _ _ e) T.af T.aG (by walk_at"lk") (fx l rfl ⟨_,SqL.of (g _ _ hl)⟩ ?_);generalize hTT:(Y.map λe=>prd L e.2).sum=TT
  refine pU (K:=K) (a:=l) (xs:=xl) (λi Z x=>∃(o5 r:zP),Z=[Sro p,Sro v,Sio (TT+((ls.take i).map (wkL L)).sum),M,D,o5,r]/\A0l H x/\x v=some (.dK lk))
   (dV none none (by simp) g U) (by (refine λi Z x _ d=>ei d λ_ _ _ f _=>?_;clear d);exact SqL.of (f _ _ hl)) ?_ ?_
  ·rintro i y Z x m d;refine ei d ?_;clear d;rintro o5 r rfl f h3;refine oJ ?_;intro D';refine qa (pI rl m) ?_;rintro B J b db c ⟨tv,_,rfl,S,_,ec,ob⟩;refine mM (ok.l B (me J)) λk1 k2 k4 k5 k3=>?_;refine hP _ rfl b _ db _ _ rfl (f _ _ S) T.aF T.bp (by walk_at"lk") (mJ tv B.2.2 rfl (ob.imp f) k4 k5 λq ps H4 hq s4 h4 pp=>(fx q rfl ⟨_,SqL.of h4⟩ ?_));have a0:=Paired.length pp;generalize hW:TT+((ls.take i).map (wkL L)).sum=W
   refine pU (K:=K) (a:=q) (xs:=ps) (λj Z H5=>∃(r:zP),Z=[Sro p,Sro v,Sio (W+(((prT B.2.2 [] []).take j).map λz=>prd L (B.2.1++z.2.1)).sum),M,D,Sro b,r]/\A0l H4 H5)
    (cb r (by simp) (A0l.refl _)) (by rintro j Z H5 _ ⟨_,_,u⟩;exact SqL.of (u _ _ h4)) ?_ ?_
   ·rintro j z Z H5 hz ⟨r,rfl,u⟩;refine oJ ?_;intro D';refine qa (pI pp hz) ?_;rintro G N pa dp tp ⟨sl,gp,gs,rfl,ep,a5,a4,a7,lg,lq,_⟩;have a6:=vW G.1;have C:=s4.trans u
    have tq:qV lk L (B.2.1++G.2.1):=λy m=>by
     rcases mX.mp m with m|m
     ·exact k2 y m
     ·exact k3 G (me N) y m
    refine oS _ rfl _ rfl b _ db _ _ rfl (C _ _ (f _ _ S)) T.aF T.aT (by walk_at"lk") (hP _ rfl pa _ dp _ _ rfl (u _ _ ep) T.aj T.av (by walk_at"lk") (og c sl _ _ rfl rfl (C _ _ (f _ _ ec)) (u _ _ a4) (lK (by simp;lia)) λl1 a2=>?_));have s6:=ed (o:=.lst (B.2.1.map V.str++G.2.1.map V.str)) a2;refine hP _ rfl l1 v (B.2.1++G.2.1) lk L rfl (by rw[lR];exact cp) (s6 _ _ (C _ _ h3)) tq (by rw[mx];lia) λH7 s7=>(ot _ _ rfl rfl (some (.ref pa)) ?_ (u.trans (s6.trans s7)));rw[mQ,N,nO,lR,List.sum_append,List.map_singleton,List.sum_singleton,<-Int.add_assoc];rfl
   ·rintro Z H5 ⟨r,rfl,u⟩;refine dV (some (.ref b)) r ?_ (f.trans (s4.trans u)) ((s4.trans u) _ _ h3);rw[a0,na,mQ,J,nO,lR,List.sum_append,List.map_singleton,List.sum_singleton,<-hW,Int.add_assoc];rfl
  ·rintro Z x d;refine ei d ?_;clear d;rintro o5 r rfl f h3;refine cb _ rfl ?_;rw[a1,na,<-hTT];exact k x f
theorem NX(T:Txt K mg t):A3i P w K mg base (CXD P w) 16 t.fT t.fO oE (GE t):=by
 refine T.fA.F.okD FU λ_ A _ s H _ Q E g h=>?_
 ·refine nN h ?_;clear h;rintro p n l a ls ⟨i,L,rfl,k,j,d,m,e⟩;refine rsq (dh (hK 1 FU.nd (pcl (M4 T) g T.fi (eg 0))) (ef (lN (lZ uO (pv 1) (xm T.eR rfl)) (ef ⟨qZ qX T.jF rfl T.d8 rfl (ad (rC (pK (CW (pv 1) (pK (CW (xm T.eR rfl) rn))))) dt)⟩) ⟨hC⟩))) ?_;refine nT _ rfl p n l ⟨a,(mh ls i L rfl k j λx c=>?_)⟩;refine cb _ rfl (ot _ _ rfl rfl _ rfl (wJ (λh=>?_) (λh=>m (by simpa using h) _ c)));have f:4000<wrk L a ls:=by simpa using h
  have b:Sm 4000:=by unfold Sm;decide
  have q:=Dl d;have u:=Dl b;have o:(Str.empty++("the work is ":Str)).length<=20:=by decide+kernel
  have r:(Str.empty++("the work is ":Str)++(toString (wrk L a ls):Str)).length<=60:=by rw[Str.length_append];lia
  have y:(Str.empty++("the work is ":Str)++(toString (wrk L a ls):Str)++(", above ":Str)).length<=80:=by
   have:((", above ":Str)).length<=10:=by decide+kernel
   rw[Str.length_append];lia
  have v:(Str.empty++("the work is ":Str)++(toString (wrk L a ls):Str)++(", above ":Str)++(toString (4000:Int):Str)).length<=120:=by rw[Str.length_append];lia
  exact kB (lK (by lia)) _ rfl (nr _ (.inr (fx _ rfl (C8 d) rfl)) (lK (by lia)) (lK (by lia)) ⟨_,(lP (.inr (fx _ rfl (C8 b) rfl)) (lK (by lia)) (lK (by lia)) (kr rfl) (e f _ c))⟩)
def A2q(H:Hp)(ps:zQ)(cs:List zI):Prop:=Paired (λ(p:zW)(c:zI)=>H p=some (.tup (c.map V.int))) ps cs
theorem A2q.imp{H H':Hp}:∀{ps:zQ}{cs:List zI},A2q H ps cs->(∀p xs,H p=some (.tup xs)->H' p=some (.tup xs))->A2q H' ps cs|_,_,.nil,_=>.nil|_,_,.cons r t,f=>.cons (f _ _ r) (A2q.imp t f)
theorem A2q.same{ps:zQ}(h:A2q H ps cs)(s:A0l H H'):A2q H' ps cs:=h.imp λ_ _ e=>s _ _ e
theorem A2q.lst{l:zW}{ys:zM}{ps:zQ}(h:A2q H ps cs)(e:H l=some (.lst xs)):A2q (upd H l (.lst ys)) ps cs :=h.imp λp a z=>by rw[eh (mU z e (by intro q;cases q))];exact z
theorem A2q.snoc{H:Hp}{p:zW}{c:zI}(e:H p=some (.tup (c.map V.int))):∀{ps:zQ}{cs:List zI},A2q H ps cs->A2q H (ps++[p]) (cs++[c])|_,_,.nil=>.cons e .nil|_,_,.cons r t=>.cons r (A2q.snoc e t)
theorem A2q.len{H:Hp}:∀{ps:zQ}{cs:List zI},A2q H ps cs->ps.length=cs.length|_,_,.nil=>rfl|_,_,.cons _ t=>by simp[A2q.len t]
theorem A2q.get{H:Hp}:∀{ps:zQ}{cs:List zI}{i:Nat}{p:zW},A2q H ps cs->ps[i]?=some p->∃c,cs[i]?=some c/\H p=some (.tup (c.map V.int))|_,_,_,_,.nil,e=>by simp at e|_,_,0,_,.cons r _,e=>by simp at e;subst e;exact cb _ rfl r|_,_,i+1,p,.cons _ t,e=>by obtain⟨c,a,b⟩:=A2q.get (i:=i) (p:=p) t (by simpa using e);exact cb c (by simpa using a) b
structure vZ(H:Hp)(a:zW)(cs:List zI):Prop where
 ex:∃ps:zQ,H a=some (.lst (ps.map V.ref))/\A2q H ps cs
def Ow:Sp:=λe H Q _=>∃(a:zW)(n:Int)(b:List zI),e=[.ref a,.int n]/\vZ H a b/\(∀c∈b,c.length<=8)/\0<=n/\n<=60/\b.length<=4000/\
 ∀(p:zW)(d:Hp),H p=none->A0l H d->vZ d p (pq b n)->Q (.ref p) d
def NG:Sp:=λd H Q _=>∃(a:zW)(c:zI),d=[.ref a]/\H a=some (.lst (c.map V.int))/\wP c/\
 ∀(p:zW)(b:Hp),H p=none->A0l H b->vZ b p (nB c)->Q (.ref p) b
def Cs:Sp:=λe H Q _=>∃(l d:zW)(a:zC)(c:zJ)(L:zR),e=[.ref l,.ref d]/\H l=some (.lst (a.map V.str))/\H d=some (.dK c)/\qV c L a/\wP (a.map L)/\∀(q:zW)(b:Hp),H q=none->A0l H b->vZ b q (nB (a.map L))->Q (.ref q) b
theorem oY{f:α->V}{xs:List α}(h:(xs.map f)[i]?=some v):∃x,xs[i]?=some x/\v=f x:=by rw[oH]at h;obtain⟨x,a,rfl⟩:=rg.mp h;exact cb x a rfl
theorem OA(T:Txt K mg t):FO P w base T.cg 1 Ow:=by
 refine T.cg.F.ok za λ_ A _ s H _ Q E hr h=>?_
 ·refine nF h ?_;clear h;rintro a n v rfl ⟨ps,N,tp⟩ h8 ⟨n0,a1,a2,k⟩;refine rsq (dh (hK 2 za.nd (@oG _ _ _ _ dt)) (dh (pX (nR (pv 0)) (hH (i:=3) za.nd) (ef (pX (uV rfl T.bi (eg 1)) (hH (i:=4) za.nd) (ef ⟨oa (qI qR sS sR sI (pv 2) (ad (eB Kt (pv 3) (oQ (eg 4))) dt))⟩)))) (ef (hB (pv 2))))) ?_;refine⟨lK (by decide),λl I=>?_⟩;have la:a≠l:=lO N I;have M:upd H l (.lst []) a=some (.lst (ps.map V.ref)):=by rw[eh la];exact N
  refine⟨_,rfl,a,rfl,⟨_,SqL.of M⟩,pU (K:=K) (a:=a) (xs:=ps.map V.ref) (λi Z r=>∃(U f:zP)(b:zQ),Z=[Sro a,Sio n,Sro l,U,f]/\A0l H r/\
   r l=some (.lst (b.map V.ref))/\A2q r b (pq (v.take i) n)) (mh none none [] rfl (ed I) cp .nil) (by (rintro i Z r _ d;refine mF d ?_;clear d;rintro _ _ _ ⟨_,z,_⟩);exact SqL.of (z _ _ N)) ?_ ?_⟩
  ·rintro i y Z r hi d;refine nF d ?_;clear d;rintro U f b rfl z R L;obtain⟨x,X,rfl⟩:=oY hi;obtain⟨c,Y,O⟩:=tp.get X;have a3:c.length<=8:=h8 c (me Y)
   refine⟨_,rfl,n,rfl,by lia,by lia,yR (n:=n.toNat) (λj Z g=>∃(f:zP)(b:zQ),Z=[Sro a,Sio n,Sro l,Sro x,f]/\A0l H g/\
    g l=some (.lst (b.map V.ref))/\A2q g b (pq (v.take i) n++(List.range j).map λ(m:Nat)=>c++[(m:Int)])) (lQ f b rfl z R (by simpa using L)) ?_ ?_⟩
   ·rintro j Z g hj d;refine lS d ?_;clear d;rintro f b rfl G B D;rw[Int.zero_add]
    have a0:b.length<=300000:=by
     have e:=D.len;rw[mx,BI,dm,List.length_range]at e;have e1:(v.take i).length*n.toNat<=4000*60:=Nat.mul_le_mul (by rw[mK];lia) (by lia)
     lia
    have W:g x=some (.tup (c.map V.int)):=G _ _ O;refine fx _ rfl (.inl (pM rfl _ (SqL.of B))) (mH _ rfl _ rfl (kr rfl) λu hu=>?_)
    have C:∀(q:zW)(J:Hp),A0l g J->J q=some (.tup ((c++[(j:Int)]).map V.int))->Dq (V.ref l) [V.ref q] J λ_ S=>∃(f:zP)(b:zQ),[some (V.ref a),some (.int n),some (.ref l),some (.ref x),some (.int (j:Int))]=[some (.ref a),some (.int n),some (.ref l),some (.ref x),f]/\A0l H S/\
      S l=some (.lst (b.map V.ref))/\A2q S b (pq (v.take i) n++(List.range (j+1)).map λ(m:Nat)=>c++[(m:Int)]):=λq J o h4=>by
     refine oq l _ _ rfl rfl (o _ _ B) (by rw[dm];exact mC (by lia)) ?_;refine lQ _ (b++[q]) rfl (mu (G.trans o) I) (by rw[cp,lR];rfl) ?_;rw[List.range_succ,lR,<-pj];exact((D.same o).snoc h4).lst (o _ _ B)
    have o:A0l g (upd g u (.tup [V.int (j:Int)])):=ed hu;refine nD x u _ _ rfl rfl (SqT.of (o _ _ W)) (SqT.of cp) (lX (by simp) (lK (by simp;lia)) (λhx=>?_) λhx p hp=>?_)
    ·have ec:c=[]:=by simpa using hx
     subst ec;exact C u _ o cp
    ·refine C p _ (o.trans (ed hp)) ?_;rw[cp,lR];rfl
   ·rintro Z g d;refine lS d ?_;clear d;rintro f b rfl G B D;refine mh _ _ b rfl G B ?_
    have e:pq (v.take (i+1)) n=pq (v.take i) n++(List.range n.toNat).map λ(m:Nat)=>c++[(m:Int)]:=by rw[mQ,Y];simp[pq]
    rw[e];exact D
  ·rintro Z r d;refine nF d ?_;clear d;rintro U f b rfl z R L;refine cb _ rfl (k l r I z ⟨b,R,?_⟩);rw[dm,tp.len,na]at L;exact L
theorem NO(T:Txt K mg t):FO P w base T.dD 2 NG:=by
 refine T.dD.F.ok yV λ_ A _ s H _ Q E D h=>?_
 ·refine lS h ?_;clear h;rintro a o rfl B g k;refine rsq (dh (hK 1 yV.nd (@oG _ _ _ _ (ad (oQ dt) dt))) (dh (pX (nR (pv 0)) (hH (i:=2) yV.nd) (ef (hK 1 yV.nd (pcl (OA T) D T.cg (ad (pv 1) (eg 2)))))) (ef (hB (pv 1))))) ?_;refine⟨kr rfl,λe z=>⟨kr rfl,λq f=>?_⟩⟩;have r:H q=none:=(ed z).free f;have C:A0l H (upd (upd H e (.tup [])) q (.lst [V.ref e])):=(ed z).trans (ed f)
  refine⟨_,rfl,a,rfl,⟨_,SqL.of (C _ _ B)⟩,pU (K:=K) (a:=a) (xs:=o.map V.int) (λi Z j=>∃(v:zP)(q:zW),Z=[Sro a,Sro q,v]/\A0l H j/\H q=none/\vZ j q (nB (o.take i)))
   (lQ none q rfl C r ⟨[e],cp,.cons (by rw[eh (lO cp f)];exact cp) .nil⟩) (by (refine λi Z j _ b=>ei b λ_ _ _ d _=>?_;clear b);exact SqL.of (d _ _ B)) ?_ ?_⟩
  ·rintro i y Z j J b;refine lS b ?_;clear b;rintro v q rfl d f l;obtain⟨n,x,rfl⟩:=oY J;have W:=g.pos n (me x);have S:=wv (o.take i) λm u=>(g.pos m (tE u)).1;have R:=FX o (λm u=>(g.pos m u).1) i;have U:=g.most;have O:=g.few;refine mE _ rfl _ rfl (qA q n _ rfl l (λc G=>?_) (by lia) (by lia) ⟨by lia,λp N I L M=>?_⟩)
   ·have e:=(tD _ c G).1;rw[mK]at e
    lia
   ·refine lQ _ p rfl (d.trans L) (d.free I) ?_;rw[Gq x];exact M
  ·rintro Z j b;refine lS b ?_;clear b;rintro v q rfl d f l;rw[dm,na]at l;exact cb _ rfl (k q j f d l)
theorem ON(T:Txt K mg t):FO P w base T.bW 3 Cs:=by
 refine T.bW.F.ok OD λ_ A _ s H _ Q E a h=>?_
 ·refine nU h ?_;clear h;rintro l d c i L rfl p j o ⟨g,k⟩;have m:=g.few;rw[dm]at m;refine rsq (ef (hB (pcl (NO T) a T.dD (ad (pcl (BR T) a T.aQ (ad (pv 0) (eg 1))) dt)))) ?_;exact oS _ rfl _ rfl l d c i L rfl p j o (by lia) λf y r b e=>(lQ f (c.map L) rfl (by rw[List.map_map];exact e) g λq x u n v=>k q x (b.free u) (b.trans n) v)
def Nu:Sp:=λb H Q _=>∃(x:Str)(z:Int)(d:zW)(a:zJ),b=[.str x,.int z,.ref d]/\H d=some (.dK a)/\(¬x=""->lW a (Sum.inr x)=some (.int (ai a x)))/\Q (.int (if x="" then z else ai a x+z)) H
def MK(A:Adr):Sp:=λg H Q _=>∃(o h d l:zW)(a:Str)(c:zL)(b:zJ),g=[.ref o,.ref d]/\H o=some (.ins A.aa h [("array",.str a),("indexes",.ref l)])/\Rep H (.ref l) (oK c)/\c.length<=3/\H d=some (.dK b)/\
 (∀e∈c,¬e.1=""->lW b (Sum.inr e.1)=some (.int (ai b e.1)))/\∀(p:zW)(f:Hp),H p=none->A0l H f->f p=some (.tup ((oP (ai b) c).map V.int))->Q (.ref p) f
def Hl(A:Adr):Sp:=λe H Q _=>∃(o f d:zW)(x:Str)(c b:Int)(u v:V)(a:zJ),e=[.ref o,.ref d]/\H o=some (.ins A.a7 f [("axis",.str x),("low",.int c),("high",.int b),("inner",u),("outer",v)])/\A8f H d (.str x) (some (.int (ai a x)))/\
 (c<=ai a x/\ai a x<b->Q (.bl true) H)/\(¬(c<=ai a x/\ai a x<b)->Q (.bl false) H)
def py(ys:zC)(c:zI):zJ:=mo [] ((ys.map (Sum.inr:Str->Key)).zip (c.map V.int))
theorem EG{k:Key}:∀(more acc:zJ),(∀p∈more,∃i,p.2=.int i)->((∃p∈more,p.1=k)\/∃i,lW acc k=some (.int i))->∃i,lW (mo acc more) k=some (.int i)
 | [],acc,_,h=>by
  rcases h with ⟨p,a,_⟩|h
  ·cases a
  ·exact h
 |q::more,acc,hi,h=>by
  show∃i,lW (mo (my acc q.1 q.2) more) k=some (.int i);refine EG more _ (λp a=>hi p (.tail _ a)) ?_;by_cases hq:k=q.1
  ·obtain⟨i,b⟩:=hi q (.head _);exact .inr ⟨i,by rw[yK,eH hq,b]⟩
  ·rcases h with ⟨p,a,e⟩|⟨i,e⟩
   ·rcases lY.mp a with rfl|a
    ·exact absurd e.symm hq
    ·exact .inl (cb p a e)
   ·exact .inr ⟨i,by rw[yK,fa hq];exact e⟩
theorem yi(l:c.length=ys.length)(h:x∈ys):lW (py ys c) (Sum.inr x)=some (.int (ai (py ys c) x)):=by
 obtain⟨j,a⟩:=List.getElem?_of_mem h;have d:=(ml.mp a).1
 obtain⟨i,e⟩:=EG (k:=Sum.inr x) ((ys.map (Sum.inr:Str->Key)).zip (c.map V.int)) [] (λp b=>by
  have:=List.of_mem_zip b;obtain⟨i,_,e⟩:=pd.mp this.2
  exact⟨i,e.symm⟩) (.inl ⟨(Sum.inr x,V.int (c[j]'(by lia))),by
   refine List.mem_iff_getElem?.mpr ⟨j,?_⟩;rw[wC]
   exact⟨by rw[oH,a];rfl,by rw[oH,nP (by lia)];rfl⟩,rfl⟩)
 have e:lW (py ys c) (Sum.inr x)=some (.int i):=e;have:ai (py ys c) x=i:=by unfold ai;rw[e]
 rw[this];exact e
def inG(a:zR)(g:Gd):Bool:=decide (decide (g.2.1<=a g.1/\a g.1<g.2.2.1)=g.2.2.2)
def rM(ys:zC)(gg:List Gd)(ix:zL)(c:zI):Option (List Int×List Int):=if gg.all (inG (ai (py ys c)))=true then some (c,oP (ai (py ys c)) ix)else none
def rk(L:zR)(ys:zC)(gg:List Gd)(ix:zL):List (List Int×List Int):=(nB (ys.map L)).filterMap (rM ys gg ix)
def D7k(H:Hp)(v:V)(e:List Int×List Int):Prop:=∃p s c,v=.ref p/\H p=some (.tup [.ref s,.ref c])/\H s=some (.tup (e.1.map V.int))/\H c=some (.tup (e.2.map V.int))
theorem D7k.kt(h:D7k H v e)(f:∀b xs,H b=some (.tup xs)->H' b=some (.tup xs)):D7k H' v e:=by refine nF h ?_;clear h;rintro p s c rfl g d a;exact mh p s c rfl (f _ _ g) (f _ _ d) (f _ _ a)
def M5(A:Adr):Sp:=λf H Q _=>∃(l d:zW)(b:zM)(c:List Gd)(a:zJ),f=[.ref l,.ref d]/\H l=some (.lst b)/\Paired (E2z A H) b c/\b.length<=100/\H d=some (.dK a)/\(∀g∈c,lW a (Sum.inr g.1)=some (.int (ai a g.1)))/\∀e,A0l H e->Q (.bl (c.all (inG (ai a)))) e
structure Aa(L:zR)(lk:zJ)(le:Lt)(ss:zC)(gg:List Gd)(ix:zL):Prop where
 tl:qV lk L (le.2.1++ss)
 gd:wP ((le.2.1++ss).map L)
 lx:ix.length<=3
 xi:∀e∈ix,¬e.1=""->e.1∈le.2.1++ss
 xg:∀g∈gg,g.1∈le.2.1++ss
def Kz(A:Adr):Sp:=λj H Q _=>∃(y v:V)(d:zW)(c:Lt)(a:Str)(f:zL)(e:zC)(g:List Gd)(h:zJ)(L:zR),j=[y,v,.ref d]/\B0p A (λ_=>True) H y c/\A4l A H v (.read a f,e,g)/\H d=some (.dK h)/\Aa L h c e g f/\
 ∀(q:zW)(i:zM)(b:Hp),H q=none->A0l H b->b q=some (.lst i)->Paired (D7k b) i (rk L (c.2.1++e) g f)->Q (.ref q) b
theorem Nn(T:Txt K mg t):FO P w base T.dI 1 Nu:=by
 refine T.dI.F.ok NE λ_ A _ s H _ Q E i h=>?_
 ·refine ou h ?_;clear h;rintro x z d j rfl f l k;have c:=qW i;refine rsq (dh (lN (lZ nQ (pv 0) lV) (ef (hB (pv 1))) ⟨hC⟩) (ef (hB (eB oM (mj c (pv 2) (pv 0)) (pv 1))))) ?_;refine qj _ rfl rfl _ rfl (lT (λh=>?_) (λh=>?_))
  ·rw[eH (by injection h)]at k;exact cb _ rfl k
  ·have b:¬x="":=λe=>h (by rw[e]);rw[fa b]at k;have g:=A8f.k (H:=H) (a:=d) (k:=Sum.inr x) f;rw[l b]at g;exact nh _ rfl _ rfl d _ rfl g (lL _ rfl _ _ rfl rfl k)
theorem OU(T:Txt K mg t):FP P w mg base T.bI 2 (MK t):=by
 refine T.bI.F.ok OS λ_ A _ s H _ Q E L h=>?_
 ·refine nN h ?_;clear h;rintro o M d l a ⟨ix,f,rfl,U,W,I,J,N,k⟩;refine ei (rQ (show Rep H (.ref l) (.list (ix.map pf)) from W)) λ_ O q z B=>?_;cases q;have C:=B.len;rw[dm]at C;refine rsq (ef (hB (qN wA (by rfl) T.bh tL (ad (pC (N':=["axis","shift","at"]) (ix:=(List.replicate 2 none++[some 1])) (g:=vK K 2 (sX (qK 0) (sX (qK 1) vJ))) rfl (uv (x:="at") rfl rfl rfl (by decide+kernel) (by decide+kernel)) (ux (N0:=["axis","shift"]) rfl (.inl rfl) (by walk_at"ix")) (nR (lJ (pv 0) rfl)) (λ_ _ _ _=>(qY (n:=2) rfl (mV (hH (i:=0) Ey) (mV (hH (i:=1) Ey) pT)))) (λ_ _ _ _=>(pcl (Nn T) L T.dI (ad (pv 0) (ad (pv 1) (eg 2)))))) dt)))) ?_;refine hP _ rfl o _ M _ _ rfl U T.aI T.aZ (by walk_at"lk") (fx l rfl ⟨_,SqL.of z⟩ λD v=>?_);refine sJ (K:=K) (a:=l) (D:=D) (xs:=O) (λi r u=>A0l H u/\u D=some (.lst r)/\r=(oP (ai f) (ix.take i)).map V.int) (fI (ed v) cp rfl) (λi r u c=>SqL.of (c.1 _ _ z)) ?_ ?_
  ·rintro i x r u j ⟨c,b,rfl⟩;refine qE ?_;intro N';have S:i<ix.length:=by have:=(ml.mp j).1;lia
   obtain⟨X,m,R⟩:=B.get2 j;have e:ix[i]?=some ix[i]:=nP S;rw[oH,e]at m;cases m;obtain⟨q,rfl,G⟩:=Hr R;refine qO q _ rfl (SqT.of (c _ _ G)) rfl _ _ rfl _ _ rfl rfl ⟨⟨rfl,True.intro⟩,(mE _ rfl _ rfl (nC _ rfl (ix[i].1) (ix[i].2) d f rfl (c _ _ J) (N _ (me e)) ?_))⟩;refine lP b (mC (by simp[oP];lia)) (mu c v) cp ?_;rw[mQ,e,nO];unfold oP;rw[lR,lR];rfl
  ·rintro r u ⟨c,b,rfl⟩;rw[C,na]at b;exact mL D _ rfl (.inl ⟨SqL.of b,λp y=>k p _ (c.free y) (c.trans (ed y)) cp⟩)
theorem O0(T:Txt K mg t):FP P w mg base T.bq 1 (Hl t):=by
 refine T.bq.F.ok O3 λ_ A _ s H _ Q E m h=>?_
 ·refine pZ h ?_;clear h;rintro o e d x j f u v a ⟨rfl,c,g,l,i⟩;have k:=qW m;refine rsq (ef (hB (A8 xZ vg (lJ (pv 0) rfl) (mj k (pv 1) (lJ (pv 0) rfl)) (lJ (pv 0) rfl)))) ?_;refine hP _ rfl o _ e _ _ rfl c T.aA T.eP (by walk_at"lk") (oS _ rfl _ rfl o _ e _ _ rfl c T.aA T.bY (by walk_at"lk") (mL d _ rfl (nE g _ _ rfl rfl ?_)));refine cb _ rfl (lT (λb=>?_) (λb=>?_))
  ·have b:j<=ai a x:=b;refine hP _ rfl o _ e _ _ rfl c T.aA T.dj (by walk_at"lk") (dV _ _ rfl rfl ?_);show Q (.bl (decide (ai a x<f))) H;by_cases h2:ai a x<f
   ·rw[mP h2];exact l ⟨b,h2⟩
   ·rw[mT h2];exact i λz=>h2 z.2
  ·have b:¬j<=ai a x:=b;exact i λz=>b z.1
theorem On(T:Txt K mg t):FO P w base T.ci 3 (M5 t):=by
 refine T.ci.F.ok Ot λ_ A _ s H _ Q E U h=>?_
 ·refine nU h ?_;clear h;rintro l d W m e rfl N C lg ⟨S,Y,k⟩;refine rsq (ef (hB (nK (Bc rfl) (by rfl) T.ky PyProof.Rows.boot_all (ad (pC (N':=["guard","inner","at"]) (ix:=(List.replicate 2 none++[some 1])) (g:=vK K 2 (sX (qK 0) (sX (qK 1) vJ))) rfl (uv (x:="at") rfl rfl rfl (by decide+kernel) (by decide+kernel)) (ux (N0:=["guard","inner"]) rfl (.inl rfl) (by walk_at"ix")) (nR (pv 0)) (λ_ _ _ _=>(qY (n:=2) rfl (mV (hH (i:=0) Fg) (mV (hH (i:=1) Fg) pT)))) (λ_ _ _ _=>(sH nQ (Dp (pv 0) T.aA T.fh (O0 T) (U.mono (by lia)) T.bq.b .nil um (eg 2)) (pv 1)))) dt)))) ?_;refine mH _ rfl l rfl ⟨_,SqL.of N⟩ λD I=>?_;refine sJ (K:=K) (a:=l) (D:=D) (xs:=W) (λi q j=>A0l H j/\j D=some (.lst q)/\q=((m.take i).map (inG (ai e))).map V.bl) (fI (ed I) cp rfl) (λi q j o=>SqL.of (o.1 _ _ N)) ?_ ?_
  ·rintro i x q j J ⟨o,f,rfl⟩;refine qE ?_;intro N';refine qa (pI C J) ?_;rintro g M R r G ⟨u,v,rfl,O,L⟩;have Z:=(ml.mp J).1;have B:=A8f.k (H:=j) (a:=d) (k:=Sum.inr g.1) (o _ _ S);rw[Y g (me M)]at B
   have p:∀b:Bool,b=decide (g.2.1<=ai e g.1/\ai e g.1<g.2.2.1)->j D=some (.lst (((m.take i).map (inG (ai e))).map V.bl))->A0l H (upd j D (.lst (((m.take i).map (inG (ai e))).map V.bl++[.bl (decide (V.bl b=V.bl g.2.2.2))])))/\upd j D (.lst (((m.take i).map (inG (ai e))).map V.bl++[.bl (decide (V.bl b=V.bl g.2.2.2))])) D=some (.lst (((m.take i).map (inG (ai e))).map V.bl++[.bl (decide (V.bl b=V.bl g.2.2.2))]))/\((m.take i).map (inG (ai e))).map V.bl++[.bl (decide (V.bl b=V.bl g.2.2.2))]=((m.take (i+1)).map (inG (ai e))).map V.bl:=λb X _=>by
    refine fI (mu o I) cp ?_;rw[mQ,M,nO,lR,lR]
    have:decide (V.bl b=V.bl g.2.2.2)=inG (ai e) g:=by
     unfold inG;rw[<-X];by_cases z:b=g.2.2.2
     ·rw[mP z,mP (by rw[z])]
     ·rw[mT z,mT (λy=>z (V.bl.inj y))]
    rw[this];rfl
   refine qO R _ rfl (SqT.of (o _ _ O)) rfl _ _ rfl _ _ rfl rfl (kB ⟨rfl,True.intro⟩ _ rfl (pb r G _ rfl (nu (o _ _ L) (by walk_at"lk") _ rfl (oT r G d g.1 g.2.1 g.2.2.1 u v e (lP rfl (o _ _ L) B (λc=>?_) λc=>?_)))))
   ·exact⟨_,(lP rfl rfl f (mC (by rw[dm,dm,mK];lia)) (p true (mP c).symm f))⟩
   ·exact⟨_,(lP rfl rfl f (mC (by rw[dm,dm,mK];lia)) (p false (mT c).symm f))⟩
  ·rintro q j ⟨o,f,rfl⟩;rw[Paired.length C,na]at f;refine dV D _ rfl (SqL.of f) ?_;have:=k j o;rw[show m.all (inG (ai e))=(m.map (inG (ai e))).all id by rw[List.all_map];rfl]at this;exact this
def KB(p:zW)(H H':Hp):Prop:=∀b o,b≠p->H b=some o->H' b=some o
theorem KB.upd(k:KB p H H'):KB p H (upd H' p o):=λb u a e=>by rw[eh a];exact k b u a e
theorem KB.refl:KB p H H:=λ_ _ _ e=>e
theorem KB.trans(a:KB p H H')(b:KB p H' H2):KB p H H2:=λc o d e=>b c o d (a c o d e)
theorem KB.of(s:A0l H H'):KB p H H':=λb o _ e=>s _ _ e
def inR(cs ls:zI):Bool:=(cs.zip ls).all λe=>decide (0<=e.1/\e.1<e.2)
def Iy:Sp:=λe H Q _=>∃(c l:zW)(a b:zI),e=[.ref c,.ref l]/\H c=some (.tup (a.map V.int))/\H l=some (.lst (b.map V.int))/\a.length=b.length/\a.length<=100/\∀d,A0l H d->Q (.bl (inR a b)) d
theorem Fm(h:cs[i]?=some c):(cs.take (i+1)).filterMap (rM ys gg ix)=(cs.take i).filterMap (rM ys gg ix)++(rM ys gg ix c).toList:=by rw[mQ,h,nO,List.filterMap_append];congr 1
theorem NK(T:Txt K mg t):FO P w base T.dE 8 (Kz t):=by
 refine T.dE.F.ok xv λ_ A _ s H _ Q E hr h=>?_
 ·refine pZ h ?_;clear h;rintro y v d le a ix I gg lk ⟨L,rfl,lt,pt,hd,R,k⟩;have hu:=qW hr;refine nU lt ?_;clear lt;rintro b db c tv _ rfl eb _ ec _;refine rD pt ?_;clear pt;rintro pa dp c7 sl gl gs rfl ep b6 Y a0 ⟨b5,a7,c6⟩;have b5:gs.length+1<=100:=b5;have a7:I.length+1<=100:=a7
  obtain⟨o,dx,l,rfl,ho,rp⟩:∃o dx l,c7=.ref o/\H o=some (.ins t.aa dx [("array",.str a),("indexes",.ref l)])/\Rep H (.ref l) (oK ix):=by
   cases b6 with
   |@read o dx l _ _ e r=>exact nM o dx l rfl e r
  have a0:H gl=some (.lst gs):=a0;have Y:H sl=some (.lst (I.map V.str)):=Y;have ll:(le.2.1++I).length<=8:=by have:=R.gd.few;rw[dm]at this;exact this
  have c9:le.2.1.length+I.length<=8:=by rw[mx]at ll;exact ll
  refine rsq (dh (hK 3 xv.nd (eB rO (lJ (pv 0) rfl) (lJ (pv 1) rfl))) (dh (hK 4 xv.nd (@oG _ _ _ _ dt)) (dh (pX (nR (pcl (ON T) hr T.bW (ad (pv 3) (eg 2)))) (hH (i:=5) xv.nd) (dh (hK 6 xv.nd (Ng rfl (by rfl) T.dH (by rfl) T.ig (ad (pv 3) (eg 5)))) (ef (lN (nn (pcl (On T) hr T.ci (ad (lJ (pv 1) rfl) (eg 6)))) (ef ⟨oa (qI qR sS sR sI (pv 4) (ad (oQ (ad (pv 5) (ad (Dp (lJ (pv 1) rfl) T.aI T.g9 (OU T) (hr.mono (by lia)) T.bI.b .nil um (eg 6)) dt))) dt))⟩) ⟨hC⟩)))) (ef (hB (pv 4)))))) ?_;refine hP _ rfl b _ db _ _ rfl eb T.aF T.aT (by walk_at"lk") (hP _ rfl pa _ dp _ _ rfl ep T.aj T.av (by walk_at"lk") (og c sl _ _ rfl rfl ec Y (lK (by simp only [dm];lia)) λN b9=>?_));have s1:A0l H (upd H N (.lst (le.2.1.map V.str++I.map V.str))):=ed b9;have h1:upd H N (.lst (le.2.1.map V.str++I.map V.str)) N=some (.lst ((le.2.1++I).map V.str)):=by rw[cp,lR]
  generalize upd H N (.lst (le.2.1.map V.str++I.map V.str))=H1 at s1 h1;generalize hys:le.2.1++I=ys at *;refine⟨kr rfl,λm a3=>?_⟩;have s2:A0l H1 (upd H1 m (.lst [])):=ed a3;have a1:H m=none:=s1.free a3;have h2:upd H1 m (.lst []) m=some (.lst []):=cp;generalize upd H1 m (.lst [])=H2 at s2 h2;have a9:=s1.trans s2;refine oS _ rfl _ rfl N d ys lk L rfl (s2 _ _ h1) (a9 _ _ hd) (by rw[<-hys];exact R.tl) (by rw[<-hys];exact R.gd) λq H3 hq s3 ct=>?_;obtain⟨ps,b3,tp⟩:=ct.ex;have c5:=tp.len;have a4:∀n∈ys.map L,1<=n:=λn hn=>(R.gd.pos n (by rw[hys];exact hn)).1
  have d0:(nB (ys.map L)).length<=4000:=by
   have e1:=(wv (ys.map L) a4).1;have e2:=R.gd.most;rw[hys]at e2
   lia
  have a5:=a9.trans s3;have b7:q≠m:=(lO h2 hq).symm;refine fx q rfl ⟨_,SqL.of b3⟩ ?_
  refine pU (K:=K) (a:=q) (xs:=ps.map V.ref) (λi Z G=>∃(o5 o6:zP)(xs:zM),Z=[Sro b,Sro pa,Sro d,Sro N,Sro m,o5,o6]/\KB m H3 G/\G m=some (.lst xs)/\Paired (D7k G) xs (((nB (ys.map L)).take i).filterMap (rM ys gg ix)))
   (mh none none [] rfl KB.refl (s3 _ _ h2) .nil) (by (rintro i Z G _ S;refine mF S ?_;clear S;rintro _ _ _ ⟨_,J,_⟩);exact SqL.of (J _ _ b7 b3)) ?_ ?_
  ·rintro i v Z G hv S;refine nF S ?_;clear S;rintro o5 o6 xs rfl J f px;refine oJ ?_;intro D';obtain⟨C,c0,rfl⟩:=oY hv;have hi:=(ml.mp hv).1;rw[dm]at hi;obtain⟨j,a2,a6⟩:=tp.get c0;have KG:∀{x:zW}{u:HO},H x=some u->G x=some u:=λ{x u} e=>J _ _ (lO e a1) (a5 _ _ e);have b4:G N=some (.lst (ys.map V.str)):=J _ _ (lO h1 a3) (s3 _ _ (s2 _ _ h1));have a8:G C=some (.tup (j.map V.int)):=J _ _ (mU a6 (s3 _ _ h2) (by intro z;cases z)) a6;have c2:ys.map V.str=(ys.map (Sum.inr:Str->Key)).map kV:=by rw[List.map_map];rfl
   have b2:j.length=ys.length:=by rw[(tD _ j (me a2)).1,dm]
   refine cb _ rfl (ng _ rfl N C (ys.map Sum.inr) (j.map V.int) rfl (by rw[<-c2];exact SqL.of b4) (SqT.of a8) (by rw[dm,dm];lia) λU c1=>?_);have sd:A0l G (upd G U (.dK (mo [] ((ys.map Sum.inr).zip (j.map V.int))))):=ed c1;have W:upd G U (.dK (mo [] ((ys.map Sum.inr).zip (j.map V.int)))) U=some (.dK (py ys j)):=cp;generalize upd G U (.dK (mo [] ((ys.map Sum.inr).zip (j.map V.int))))=G1 at sd W;have K1:∀{x:zW}{u:HO},H x=some u->G1 x=some u:=λe=>sd _ _ (KG e);refine hP _ rfl pa _ dp _ _ rfl (K1 ep) T.aj T.aD (by walk_at"lk") (hP _ rfl gl U gs gg (py ys j) rfl (K1 a0) (Paired.mapP c6 λ_ _ z=>z.same λx u e=>K1 e) (by lia) W ⟨λg hg=>yi b2 (by have:=R.xg g hg;rw[hys]at this;exact this),λG2 B=>?_⟩);have d1:=Paired.length px;have d2:(((nB (ys.map L)).take i).filterMap (rM ys gg ix)).length<=4000:=oU (List.length_filterMap_le ..) (by rw[mK];lia);refine cb _ rfl (CH (λb1=>?_) (λb0=>?_))
   ·have el:rM ys gg ix j=some (j,oP (ai (py ys j)) ix):=by unfold rM;rw[eH b1]
    have X:=sd.trans B;have K2:∀{x:zW}{u:HO},H x=some u->G2 x=some u:=λe=>X _ _ (KG e);refine fx _ rfl (.inl (pM rfl _ (SqL.of (X _ _ f)))) (oS _ rfl _ rfl pa _ dp _ _ rfl (K2 ep) T.aj T.ay (by walk_at"lk") (pb o dx _ rfl (nu (K2 ho) (by walk_at"lk") _ rfl (qo o dx U l a ix (py ys j) rfl (K2 ho) (rp.same λx u e=>K2 e) R.lx (B _ _ W) (λe he b8=>yi b2 (by have:=R.xi e he b8;rw[hys]at this;exact this)) λp G3 hp c4 c8=>⟨kr rfl,λtq c3=>?_⟩))));have st:A0l G3 (upd G3 tq (.tup [.ref C,.ref p])):=ed c3;have M:upd G3 tq (.tup [.ref C,.ref p]) tq=some (.tup [.ref C,.ref p]):=cp;generalize upd G3 tq (.tup [.ref C,.ref p])=G4 at st M;have D:=X.trans (c4.trans st);have O:=D _ _ f;refine oq m _ _ rfl rfl O (mC (by lia)) (mh (some (.ref C)) (some (.ref U)) (xs++[.ref tq]) rfl ((J.trans (KB.of D)).upd) cp ?_);rw[Fm a2,el];have kt:∀x zs,G4 x=some (.tup zs)->upd G4 m (.lst (xs++[.ref tq])) x=some (.tup zs):=λx zs e=>(eh (mU e O (by intro z;cases z))).trans e;exact Paired.snoc (mh tq C p rfl (kt _ _ M) (kt _ _ (D _ _ a8)) (kt _ _ (st _ _ c8))) (Paired.mapP px λ_ _ z=>z.kt λx zs e=>kt _ _ (D _ _ e))
   ·have el:rM ys gg ix j=none:=by unfold rM;rw[fa (by rw[b0];exact nA)]
    refine mh (some (.ref C)) (some (.ref U)) xs rfl (J.trans (KB.of (sd.trans B))) ((sd.trans B) _ _ f) ?_;rw[Fm a2,el,Option.toList_none,ox];exact Paired.mapP px λ_ _ z=>z.kt λx zs e=>(sd.trans B) _ _ e
  ·rintro Z G S;refine nF S ?_;clear S;rintro o5 o6 xs rfl J f px;rw[dm,c5,na]at px;exact cb _ rfl (k m xs G a1 (λx u e=>J _ _ (lO e a1) (a5 _ _ e)) f px)
theorem NS(T:Txt K mg t):FO P w base T.cO 1 Iy:=by
 refine T.cO.F.ok NU λ_ A _ s H _ Q E hr h=>?_
 ·refine ou h ?_;clear h;rintro c l a ls rfl B C ⟨U,L,k⟩;refine rsq (ef (hB (nK (Bc rfl) (by rfl) T.ky PyProof.Rows.boot_all (ad (pC (N':=["number","length"]) (ix:=(List.replicate 2 none)) (g:=vK K 2 (sX (qK 0) (sX (qK 1) vJ))) rfl (re rfl (by decide+kernel) (by decide+kernel)) (rc rfl) (Kf rfl T.ig (ad (pv 0) (eg 1))) (λ_ _ _ _=>(qY (n:=2) rfl (mV (hH (i:=0) EM) (mV (hH (i:=1) EM) pT)))) (λ_ _ _ _=>(A8 xZ vg ew (pv 0) (pv 1)))) dt)))) ?_;refine cb _ rfl (nC _ rfl c l _ _ rfl (SqT.of B) (SqL.of C) λD I=>?_);refine uW (D:=D) a.length (λi q f=>A0l H f/\f D=some (.lst q)/\q=(((a.zip ls).take i).map λe=>decide (0<=e.1/\e.1<e.2)).map V.bl) (fI (ed I) cp rfl) (λi q f J ⟨d,_⟩=>⟨_,(mh _ _ _ (SqT.of (d _ _ B)) (SqL.of (d _ _ C)) (nP (by rw[dm];exact J)) (nP (by rw[dm];lia)))⟩) (λq f d=>(dV _ _ (SqT.of (d.1 _ _ B)) (SqL.of (d.1 _ _ C)) (.inl (by rw[dm];exact fy _)))) ?_ ?_
  ·rintro i q f J ⟨d,j,rfl⟩ x Z G;refine nw G ?_;clear G;rintro p S rfl ⟨x,y,X,W,rfl⟩;refine qE ?_;intro N';obtain⟨n,R,rfl⟩:=oY (X _ (SqT.of (d _ _ B)));obtain⟨m,N,rfl⟩:=oY (W _ (SqL.of (d _ _ C)));have v:A0l f (upd f p (.tup [.int n,.int m])):=ed S;have u:=v _ _ j;have M:(a.zip ls)[i]?=some (n,m):=by rw[wC];exact⟨R,N⟩
   have lz:((((a.zip ls).take i).map λe=>decide (0<=e.1/\e.1<e.2)).map V.bl).length<=100:=by simp only [dm,mK,List.length_zip];lia
   refine qO p _ rfl (SqT.of cp) rfl _ _ rfl _ _ rfl rfl ⟨True.intro,?_⟩
   have r:∀b:Bool,b=decide (0<=n/\n<m)->A0l H (upd (upd f p (.tup [.int n,.int m])) D (.lst ((((a.zip ls).take i).map λe=>decide (0<=e.1/\e.1<e.2)).map V.bl++[.bl b])))/\upd (upd f p (.tup [.int n,.int m])) D (.lst ((((a.zip ls).take i).map λe=>decide (0<=e.1/\e.1<e.2)).map V.bl++[.bl b])) D=some (.lst ((((a.zip ls).take i).map λe=>decide (0<=e.1/\e.1<e.2)).map V.bl++[.bl b]))/\(((a.zip ls).take i).map λe=>decide (0<=e.1/\e.1<e.2)).map V.bl++[.bl b]=(((a.zip ls).take (i+1)).map λe=>decide (0<=e.1/\e.1<e.2)).map V.bl:=λb Y=>by refine fI (mu (d.trans v) I) cp ?_;rw[mQ,M,nO,lR,lR,Y];rfl
   refine cb _ rfl (ot _ _ rfl rfl _ rfl (lT (λo=>?_) (λo=>?_)))
   ·have o:0<=n:=o;refine cb _ rfl (mJ _ _ rfl rfl u (mC (by lia)) ?_);exact r (decide (n<m)) (by by_cases z:n<m<;>simp[z,o])
   ·have o:¬0<=n:=o;exact fI u (mC (by lia)) (r false (mT (λz=>o z.1)).symm)
  ·rintro q f ⟨d,j,rfl⟩;have O:(a.zip ls).take a.length=a.zip ls:=rT (by rw[List.length_zip];lia);rw[O]at j;refine dV D _ rfl (SqL.of j) ?_;have:=k f d;unfold inR at this;rw[show(a.zip ls).all (λe=>decide (0<=e.1/\e.1<e.2))=((a.zip ls).map λe=>decide (0<=e.1/\e.1<e.2)).all id by rw[List.all_map];rfl]at this;exact this
def Ai(C:zW)(k j n l:Str):Sp:=λm H Q _=>∃(a h:zW)(f g i e:V),m=[.ref a,f,g,i,e]/\H a=some (xcN a C h)/\
 ∀(c:zW)(d:Hp),H c=none->d a=some (xcD a C h c)->d c=some (.xd [(k,f),(j,g),(n,i),(l,e)])->(∀b,b≠a->b≠c->d b=H b)->Q .non d
theorem EE{g i j f:V}(r:∀dx H',A0l H H'->H' dx=some (.xd [("name",g),("array",i),("spot",j),("cell",f)])->E (.ref C) (some dx) H'):∀ea ta,H ea=none->Ai C "name" "array" "spot" "cell" (.ref ea::([g,i,j,f]++[])) (upd H ea (xcN ea C ta)) (λv H2=>v=.non/\∃d,H2 ea=some (.ext λh=>h.get? ea=some (rN C ta d))/\E (.ref C) d (rj H2 ea)) E':=by
 intro ea ta q;refine qB ea ta g (nM i j f rfl cp λdx H' a k p l=>(kB rfl (some dx) k (r _ _ (λb o e=>?_) ?_)))
 ·have c:b≠ea:=lO e q
  have m:b≠dx:=λz=>by rw[<-z,eh c,e]at a;cases a
  rw[Ba c,l b c m,eh c];exact e
 ·have n:dx≠ea:=λz=>by rw[z,cp]at a;cases a
  rw[Ba n];exact p
def D6s(C:zW)(H:Hp)(E:XK)(x a:Str)(e:List Int×List Int):Prop:=∀(d s c:zW)(b:Hp),A0l H b->b d=some (.xd [("name",.str x),("array",.str a),("spot",.ref s),("cell",.ref c)])->b s=some (.tup (e.1.map V.int))->b c=some (.tup (e.2.map V.int))->E (.ref C) (some d) b
theorem D6s.of(h:D6s C H E x a e)(s:A0l H H1):D6s C H1 E x a e:=λd f c b z=>h d f c b (s.trans z)
def rh(ls:zI)(e:List Int×List Int):Bool:= ! inR e.2 ls
def JM(A:Adr):Sp:=λk H Q E=>∃(y:V)(o j l f d:zW)(g:Lt)(a:Str)(i:zM)(b:List (List Int×List Int))(c:zI),k=[y,.ref o,.ref f,.ref d]/\B0p A (λ_=>True) H y g/\H o=some (.ins A.aa j [("array",.str a),("indexes",.ref l)])/\H f=some (.lst i)/\Paired (D7k H) i b/\(∀e∈b,e.2.length=c.length)/\c.length<=100/\H d=some (.lst (c.map V.int))/\
 (b.find? (rh c)=none->∀h,A0l H h->Q .non h)/\∀e,b.find? (rh c)=some e->D6s A.a5 H E g.1 a e
def rK(n:Nat)(e:List Int×List Int):Bool:= ! HT.lexLt e.2 (e.1.take n)
def HP(A:Adr):Sp:=λi H Q E=>∃(y:V)(o h l c:zW)(d:Lt)(a:Str)(g:zM)(b:List (List Int×List Int)),i=[y,.ref o,.ref c]/\B0p A (λ_=>True) H y d/\H o=some (.ins A.aa h [("array",.str a),("indexes",.ref l)])/\H c=some (.lst g)/\Paired (D7k H) g b/\
 (b.find? (rK d.2.1.length)=none->∀f,A0l H f->Q .non f)/\∀e,b.find? (rK d.2.1.length)=some e->D6s A.a8 H E d.1 a e
theorem Fx{f:α->Bool}{l:List α}{x:α}(h:l[i]?=some x):(l.drop i).find? f=if f x=true then some x else (l.drop (i+1)).find? f:=by rw[yI h,sO];cases f x<;>rfl
theorem O7(T:Txt K mg t):FP P w mg base T.bf 1 (Ai t.a5 "name" "array" "spot" "cell"):=by
 refine T.bf.F.ok O4 λ_ A _ s H _ Q E r h=>?_
 ·refine nN h ?_;clear h;rintro c d i q u ⟨p,rfl,m,k⟩;refine rsq (dh ⟨DC (pv 0) (pv 1) rfl⟩ (dh ⟨wj (pv 0) (pv 2) rfl⟩ (dh ⟨wj (pv 0) (pv 3) rfl⟩ (ef ⟨wj (pv 0) (pv 4) rfl⟩)))) (mE _ rfl _ rfl (mh c _ d rfl m T.eN λa j=>?_));have e:c≠a:=λz=>by rw[z,j]at m;cases m
  have g:upd (upd H c (xcD c t.a5 d a)) a (.xd [("name",i)]) c=some (xcD c t.a5 d a):=by rw[eh e,cp]
  have o:upd (upd H c (xcD c t.a5 d a)) a (.xd [("name",i)]) a=some (.xd [("name",i)]):=cp;have n:∀b,b≠c->b≠a->upd (upd H c (xcD c t.a5 d a)) a (.xd [("name",i)]) b=H b:=λb l f=>by rw[eh f,eh l]
  generalize upd (upd H c (xcD c t.a5 d a)) a (.xd [("name",i)])=H1 at g o n⊢;refine oS _ rfl _ rfl c _ d a _ rfl g o (by simp) rfl ⟨T.dJ,?_⟩;refine oS _ rfl _ rfl c _ d a _ rfl (by rw[eh e];exact g) cp (by simp) rfl ⟨T.f6,?_⟩;refine oS _ rfl _ rfl c _ d a _ rfl (by rw[eh e,eh e];exact g) cp (by simp) rfl ⟨T.eM,?_⟩;exact k a _ j (by rw[eh e,eh e,eh e];exact g) cp (λb l f=>by rw[eh f,eh f,eh f];exact n b l f)
theorem OE(T:Txt K mg t):FP P w mg base T.c6 1 (Ai t.a8 "name" "array" "spot" "cell"):=by
 refine T.c6.F.ok OG λ_ A _ s H _ Q E r h=>?_
 ·refine nN h ?_;clear h;rintro c d i q u ⟨p,rfl,m,k⟩;refine rsq (dh ⟨DC (pv 0) (pv 1) rfl⟩ (dh ⟨wj (pv 0) (pv 2) rfl⟩ (dh ⟨wj (pv 0) (pv 3) rfl⟩ (ef ⟨wj (pv 0) (pv 4) rfl⟩)))) (mE _ rfl _ rfl (mh c _ d rfl m T.gB λa j=>?_));have e:c≠a:=λz=>by rw[z,j]at m;cases m
  have g:upd (upd H c (xcD c t.a8 d a)) a (.xd [("name",i)]) c=some (xcD c t.a8 d a):=by rw[eh e,cp]
  have o:upd (upd H c (xcD c t.a8 d a)) a (.xd [("name",i)]) a=some (.xd [("name",i)]):=cp;have n:∀b,b≠c->b≠a->upd (upd H c (xcD c t.a8 d a)) a (.xd [("name",i)]) b=H b:=λb l f=>by rw[eh f,eh l]
  generalize upd (upd H c (xcD c t.a8 d a)) a (.xd [("name",i)])=H1 at g o n⊢;refine oS _ rfl _ rfl c _ d a _ rfl g o (by simp) rfl ⟨T.gb,?_⟩;refine oS _ rfl _ rfl c _ d a _ rfl (by rw[eh e];exact g) cp (by simp) rfl ⟨T.gP,?_⟩;refine oS _ rfl _ rfl c _ d a _ rfl (by rw[eh e,eh e];exact g) cp (by simp) rfl ⟨T.ge,?_⟩;exact k a _ j (by rw[eh e,eh e,eh e];exact g) cp (λb l f=>by rw[eh f,eh f,eh f];exact n b l f)
theorem NZ(T:Txt K mg t):A3i P w K mg base (CXD P w) 3 t.fP t.fJ Ah (JM t):=by
 refine T.ft.F.okD BK λ_ A _ s H _ Q E R h=>?_
 ·refine pZ h ?_;clear h;rintro y o dx l j q le a xs ⟨k,m,rfl,S,ho,r,O,B,L,D,kq,ke⟩;refine nU S ?_;clear S;rintro b db c0 tv _ rfl eb _ ec _;refine rsq (ef ⟨sr PassesOwn.leaving rfl (nR (pv 2)) (qY (n:=2) rfl (mV (hH (i:=4) BK.nd) (mV (hH (i:=5) BK.nd) pT))) (@mD _ _ _ (@pA _ _ _ _ _ _ _ _ (rz (nn (pcl (NS T) R T.cO (ad (pv 5) (eg 3))))) (@mD _ _ _ (ET Du T.iO (O7 T) (R.mono (by lia)) rfl T.cS T.bf.b .nil um rfl rfl (ad (lJ (pv 0) rfl) (ad (lJ (pv 1) rfl) (ad (pv 4) (eg 5)))))) hC))⟩) ?_;refine mH _ rfl j rfl ⟨_,SqL.of r⟩ ?_
  refine pU (K:=K) (a:=j) (xs:=xs) (λi Z G=>∃(z v:zP),Z=[Sro b,Sro o,Sro j,Sro q,z,v]/\A0l H G/\k.find? (rh m)=(k.drop i).find? (rh m))
   (dV none none rfl (A0l.refl _) rfl) (by (refine λi Z G _ f=>ei f λ_ _ _ d _=>?_;clear f);exact SqL.of (d _ _ r)) ?_ ?_
  ·rintro i x Z G hx f;refine ei f ?_;clear f;rintro z v rfl d g;refine oJ ?_;intro D';refine qa (pI O hx) ?_;rintro e W p sp U ⟨rfl,Y,e2,M⟩;rw[Fx W]at g;have l2:=B e (me W);refine qO p _ rfl (SqT.of (d _ _ Y)) rfl _ _ rfl _ _ rfl rfl ?_;refine pF _ rfl _ rfl U q e.2 m rfl (d _ _ M) (d _ _ D) l2 (by lia) λG2 N=>(cb _ rfl (Ae (λb0=>?_) (λb1=>?_)))
   ·have J:rh m e=true:=by unfold rh;rw[b0];rfl
    rw[eH J]at g;have c:=d.trans N;refine hP _ rfl b _ db _ _ rfl (c _ _ eb) T.aF T.aH (by walk_at"lk") (hP _ rfl o _ dx _ _ rfl (c _ _ ho) T.aI T.aM (by walk_at"lk") (mH _ rfl _ rfl (kr rfl) (EE λC H' I u=>?_)));exact ke e g C sp U H' (c.trans I) u (I _ _ (c _ _ e2)) (I _ _ (c _ _ M))
   ·have J:rh m e=false:=by unfold rh;rw[b1];rfl
    rw[fa (by rw[J];exact nA)]at g;exact dV _ _ rfl (d.trans N) g
  ·rintro Z G f;refine ei f ?_;clear f;rintro z v rfl d g;have X:=Paired.length O;rw[X,sN]at g;exact kq g G d
theorem Ox(T:Txt K mg t):A3i P w K mg base (CXD P w) 3 t.eG t.eW ["let","read","leads"] (HP t):=by
 refine T.eL.F.okD zc λ_ A _ s H _ Q E R h=>?_
 ·refine pZ h ?_;clear h;rintro y o dx l j m a xs k ⟨rfl,S,ho,r,O,kq,ke⟩;have hu:=qW R;refine nU S ?_;clear S;rintro b W c0 tv _ rfl L _ ec _;refine rsq (ef ⟨sr PassesOwn.leaving rfl (nR (pv 2)) (qY (n:=2) rfl (mV (hH (i:=3) zc.nd) (mV (hH (i:=4) zc.nd) pT))) (@pi _ _ _ _ _ (@pR _ _ 5 _ _ _ _ zc.nd rfl (.inl rfl) (pV Jh (pv 3) pS (pB (oA T.aK (ad (lJ (pv 0) rfl) dt)))) rfl (.inl rfl)) (@mD _ _ _ (@pA _ _ _ _ _ _ _ _ (rz (lZ (AG (Nat.lt_of_succ_lt hu)) (pv 4) (pv 5))) (@mD _ _ _ (ET Du T.k7 (OE T) (R.mono (by lia)) rfl T.j4 T.c6.b .nil um rfl rfl (ad (lJ (pv 0) rfl) (ad (lJ (pv 1) rfl) (ad (pv 3) (eg 4)))))) hC)))⟩) ?_;refine mH _ rfl j rfl ⟨_,SqL.of r⟩ ?_
  refine pU (K:=K) (a:=j) (xs:=xs) (λi Z G=>∃(C z v:zP),Z=[Sro b,Sro o,Sro j,C,z,v]/\A0l H G/\k.find? (rK m.2.1.length)=(k.drop i).find? (rK m.2.1.length))
   (nM none none none rfl (A0l.refl _) rfl) (by (rintro i Z G _ f;refine mF f ?_;clear f;rintro _ _ _ ⟨_,d,_⟩);exact SqL.of (d _ _ r)) ?_ ?_
  ·rintro i x Z G hx f;refine mF f ?_;clear f;rintro C z v ⟨rfl,d,g⟩;refine oJ ?_;intro D';refine qa (pI O hx) ?_;rintro e he p J U ⟨rfl,e1,M,N⟩;rw[Fx he]at g;refine qO p _ rfl (SqT.of (d _ _ e1)) rfl _ _ rfl _ _ rfl rfl ?_;refine oS _ rfl _ rfl b _ W _ _ rfl (d _ _ L) T.aF T.aT (by walk_at"lk") (dV c0 _ rfl (.inl (SqL.of (d _ _ ec))) (lL _ rfl J _ rfl (d _ _ M) λq G2 s3 X=>?_));rw[dm,uS]at X;have c:=d.trans s3;refine cb _ rfl (nC _ rfl U q e.2 (e.1.take m.2.1.length) rfl rfl (SqT.of (c _ _ N)) (kB (SqT.of X) _ rfl (Ae (λb0=>?_) (λb1=>?_))))
   ·have I:rK m.2.1.length e=true:=by unfold rK;rw[b0];rfl
    rw[eH I]at g;refine hP _ rfl b _ W _ _ rfl (c _ _ L) T.aF T.aH (by walk_at"lk") (hP _ rfl o _ dx _ _ rfl (c _ _ ho) T.aI T.aM (by walk_at"lk") (mH _ rfl _ rfl (kr rfl) (EE λB H' D u=>?_)));exact ke e g B J U H' (c.trans D) u (D _ _ (c _ _ M)) (D _ _ (c _ _ N))
   ·have I:rK m.2.1.length e=false:=by unfold rK;rw[b1];rfl
    rw[fa (by rw[I];exact nA)]at g;exact nM _ _ _ rfl c g
  ·rintro Z G f;refine mF f ?_;clear f;rintro C z v ⟨rfl,d,g⟩;have Y:=Paired.length O;rw[Y,sN]at g;exact kq g G d
theorem Es(h:e∈rk L ys gg ix):e.2.length=ix.length:=by
 obtain⟨c,_,a⟩:=List.mem_filterMap.mp h;unfold rM at a;split at a
 ·cases a
  show(oP _ ix).length=ix.length;unfold oP;rw[dm]
 ·cases a
theorem EY{xs:zC}(h:xs.Nodup):(xs.map (Sum.inr:Str->Key)).Nodup:=List.Pairwise.map _ (λa b h z=>h (by injection z)) h
abbrev Tld:=Bool×(List Int×List Int)
def pe(A:Adr):Bool->zW|true=>A.a8|false=>A.a5
noncomputable def qF(lds:List (List Int×List Int))(szs:zI)(own:Bool)(n:Nat):Option Tld:=match lds.find? (rh szs)with|some e=>some (false,e)|none=>if own=true then (lds.find? (rK n)).map λe=>(true,e)else none
noncomputable def sW(L:zR)(es:zB)(le:Lt)(q:Pq):Option (Str×Tld):=match q.1 with|.read a ix=>(qF (rk L (le.2.1++q.2.1) q.2.2 ix) (((shp es a).getD []).map L) (decide (a=le.1)) le.2.1.length).map λe=>(a,e)|_=>none
def tM(L:zR)(es:zB)(le:Lt):Option (Str×Tld):=(prT le.2.2 [] []).findSome? (sW L es le)
def tN(L:zR)(es:zB)(ls:List Lt):Option (Str×(Str×Tld)):=ls.findSome? λa=>(tM L es a).map λr=>(a.1,r)
def Kl(A:Adr):Sp:=λm H Q E=>∃(y v:V)(d f:zW)(c:Lt)(a:Str)(h:zL)(i:zC)(j:List Gd)(k:zJ)(L:zR)(g:zC),m=[y,v,.ref d,.ref f]/\B0p A (λ_=>True) H y c/\A4l A H v (.read a h,i,j)/\H d=some (.dK k)/\Aa L k c i j h/\H f=some (.lst (g.map V.str))/\qV k L g/\g.length=h.length/\
 (qF (rk L (c.2.1++i) j h) (g.map L) (decide (a=c.1)) c.2.1.length=none->∀l,A0l H l->Q .non l)/\∀b e,qF (rk L (c.2.1++i) j h) (g.map L) (decide (a=c.1)) c.2.1.length=some (b,e)->D6s (pe A b) H E c.1 a e
structure zp(lk:zJ)(L:zR)(tb:zB)(ls:List Lt):Prop where
 nd:(arN tb ls).Nodup
 lt:tb.length<=100
 ll:ls.length<=100
 tk:∀e∈arr tb ls,qV lk L e.2
 l:∀le∈ls,dep le.2.2<=9/\nod le.2.2<=1000/\∀q∈prT le.2.2 [] [],∀a ix,q.1=.read a ix->Aa L lk le q.2.1 q.2.2 ix/\∃zs,shp (arr tb ls) a=some zs/\zs.length=ix.length
def E0y(A:Adr)(r:Option (Str×(Str×Tld)))(Q:VK)(E:XK)(H:Hp):Prop:=(r=none->∀c,A0l H c->Q .non c)/\∀x a b e,r=some (x,(a,(b,e)))->D6s (pe A b) H E x a e
def Kw(A:Adr):Sp:=λd H Q E=>∃(p:zW)(e:Int)(c:zL)(b:zB)(a:List Lt)(f:zC)(L:zR),d=[.ref p]/\C0m A H p e c b a f/\zp (mo [] (qt c)) L b a/\E0y A (tN L (arr b a) a) Q E H
def Jj(A:Adr):Sp:=λf H Q E=>∃(p:zW)(g:Int)(c:zL)(b:zB)(a:List Lt)(d:zC)(L:zR),f=[.ref p]/\C0m A H p g c b a d/\zu c b a d/\GdN c b a d/\GdS c b a/\zx c b a/\tR (axN c) b a=none/\xM (mo [] (qt c)) L b a/\Sm (wrk L b a)/\
 (4000<wrk L b a->∀e,A0l H e->E (.ref A.al) none e)/\(wrk L b a<=4000->zp (mo [] (qt c)) L b a/\E0y A (tN L (arr b a) a) Q E H)
theorem E0y.of{r:Option (Str×(Str×Tld))}(h:E0y A r Q E H)(s:A0l H H1):E0y A r Q E H1:=⟨λz c d=>h.1 z c (s.trans d),λx a b e z=>(h.2 x a b e z).of s⟩
theorem Fu{f:α->Option β}{l:List α}{x:α}(h:l[i]?=some x):(l.drop i).findSome? f=match f x with|some b=>some b|none=>(l.drop (i+1)).findSome? f:=by rw[yI h];rfl
theorem isRd(T:Txt K mg t)(h:Ob t H v u):∃(C:zW)(b:Bool),nX K H v (.ref C)/\(∀z,A2z (.ref t.aa) z->kitOne K (.ref C) z=some b)/\(b=true->∃a ix,u=.read a ix)/\(b=false->∀a ix,u≠.read a ix):=by
 cases h with
 |num e=>exact lQ _ false (.ins e T.bF T.ae.ha T.ae.hn T.ae.htk T.ae.hm) (mR T.cN) nofun λ_ a ix z=>by cases z
 |place e=>exact lQ _ false (.ins e T.bJ T.ao.ha T.ao.hn T.ao.htk T.ao.hm) (mR T.dw) nofun λ_ a ix z=>by cases z
 |read e r=>exact lQ _ true (.ins e T.aI T.aB.ha T.aB.hn T.aB.htk T.aB.hm) (mR T.dZ) (λ_=>(oi _ _ rfl)) nofun
 |sum e _=>exact lQ _ false (.ins e T.bK T.aO.ha T.aO.hn T.aO.htk T.aO.hm) (mR T.fR) nofun λ_ a ix z=>by cases z
 |@pair o dd op v1 v2 ll r e o1 o2=>
  have c:kitOne K (.ref (qL t op)) (.ref t.aa)=some false:=by cases op with|plus=>exact T.eO|minus=>exact T.dv|times=>exact T.dA
  exact lQ _ false (xc T e) (mR c) nofun λ_ a ix z=>by cases z
 |guard e _ _=>exact lQ _ false (.ins e T.aA T.am.ha T.am.hn T.am.htk T.am.hm) (mR T.di) nofun λ_ a ix z=>by cases z
theorem Oq(T:Txt K mg t):A3i P w K mg base (CXD P w) 9 t.eQ t.eY An (Kl t):=by
 refine T.dX.F.okD Gh λ_ A _ s H _ Q E n h=>?_
 ·refine pZ h ?_;clear h;rintro y v d O g a ix ss gg ⟨lk,L,i,rfl,p,pt,S,R,D,tl,lz,kq,Z⟩;refine nU (id p) ?_;rintro b db c0 tv _ rfl eb _ ec a4;refine rD (id pt) ?_;rintro m B N sl gl gs rfl I C a5 a0 ⟨a6,a3,a2⟩
  obtain⟨o,dx,l,rfl,ho,rp⟩:∃o dx l,N=.ref o/\H o=some (.ins t.aa dx [("array",.str a),("indexes",.ref l)])/\Rep H (.ref l) (oK ix):=by
   cases C with
   |@read o dx l _ _ e r=>exact nM o dx l rfl e r
  have l3:=R.lx;refine rsq (dh (hK 4 Gh.nd (pcl (NK T) n T.dE (ad (pv 0) (ad (pv 1) (eg 2))))) (dh ⟨oa (pcd (NZ T) n T.ft qJ (ad (pv 0) (ad (lJ (pv 1) rfl) (ad (pv 4) (ad (pcl (BR T) n T.aQ (ad (pv 3) (eg 2))) dt)))))⟩ (ef (lN (lZ nQ (lJ (lJ (pv 1) rfl) rfl) (lJ (pv 0) rfl)) (ef ⟨oa (pcd (Ox T) n T.eL qJ (ad (pv 0) (ad (lJ (pv 1) rfl) (eg 4))))⟩) ⟨hC⟩)))) ?_;refine mE _ rfl _ rfl (nT _ rfl (.ref b) (.ref m) d (oi g a (nL ix ss gg lk L rfl p pt S R λq U H1 hq u Y X=>?_)));refine oS _ rfl _ rfl m _ B _ _ rfl (u _ _ I) T.aj T.ay (by walk_at"lk") (cb _ rfl (oS _ rfl _ rfl O d i lk L rfl (u _ _ D) (u _ _ S) tl (by lia) λW H2 a1 j h2=>?_));have f:=u.trans j;have M:H2 W=some (.lst ((i.map L).map V.int)):=by rw[List.map_map];exact h2
  refine oT (.ref b) o dx l q W g a U (sK _ (i.map L) rfl (p.same f) (f _ _ ho) (j _ _ Y) (Paired.mapP X λ_ _ z=>z.kt λx i e=>j _ _ e) (lP (λe k=>by rw[Es k,dm];lia) (by rw[dm];lia) M (λG H3 J=>?_) λe k=>(Z false e (by unfold qF;rw[k])).of f));have c:=f.trans J;refine hP _ rfl m _ B _ _ rfl (c _ _ I) T.aj T.ay (by walk_at"lk") (nL o _ dx _ _ rfl (c _ _ ho) T.aI T.aM (by walk_at"lk") (hP _ rfl b _ db _ _ rfl (c _ _ eb) T.aF T.aH (by walk_at"lk") (kB rfl _ rfl (lT (λz=>?_) (λz=>?_)))))
  ·have z:a=g.1:=V.str.inj z;refine oS _ rfl _ rfl m _ B _ _ rfl (c _ _ I) T.aj T.ay (by walk_at"lk") (nT _ rfl (.ref b) o dx (oZ l q g a U _ rfl (p.same c) (c _ _ ho) ((j.trans J) _ _ Y) (Paired.mapP X λ_ _ z=>z.kt λx i e=>(j.trans J) _ _ e) (λhl H4 s4=>?_) λe k=>?_))
   ·refine kq ?_ _ (c.trans s4);unfold qF;rw[G];show(if decide (a=g.1)=true then _ else _)=_;rw[eH (mP z),hl];rfl
   ·refine(Z true e ?_).of c;unfold qF;rw[G];show(if decide (a=g.1)=true then _ else _)=_;rw[eH (mP z),k];rfl
  ·have z:¬a=g.1:=λy=>z (by rw[y]);refine kq ?_ _ c;unfold qF;rw[G];show(if decide (a=g.1)=true then _ else _)=_;rw[fa (by rw[mT z];exact nA)]
theorem Oi(T:Txt K mg t):A3i P w K mg base (CXD P w) 15 t.dS t.dU oE (Kw t):=by
 refine T.eA.F.okD xA λ_ A _ s H _ Q E hr h=>?_
 ·refine nN h ?_;clear h;rintro p wh ax f ls ⟨os,L,rfl,pr,ok,ko⟩;have hu:=qW hr;refine nU (id pr.ob) ?_;rintro Y a tt l o e ra rt ⟨xl,hl,rl⟩ _;have a7:=Paired.length rl;have c4:=ok.lt;have b9:=ok.ll;refine rsq (dh (hK 1 xA.nd (pcl (FZ T) hr T.bD (eg 0))) (dh (hK 2 xA.nd (pcl (FW T) hr T.bS (eg 0))) (ef ⟨sr PassesOwn.leaving rfl (nR (lJ (pv 0) rfl)) (hH (i:=3) xA.nd) (@mD _ _ _ (sr PassesOwn.leaving rfl (nR (pcl (BH T) hr T.bH (ad (lJ (pv 3) rfl) dt))) (hH (i:=4) xA.nd) (@mD _ _ _ (@pA _ _ _ _ _ _ _ _ (nn (nK pW (by rfl) T.a6 oW (ad (lJ (pv 4) rfl) (ad (sv (v:=V.ref t.aa) rfl T.jw rfl) dt)))) (@mD _ _ _ (oa (pcd (Oq T) hr T.dX qJ (ad (pv 3) (ad (pv 4) (ad (pv 1) (ad (mj hu (pv 2) (lJ (lJ (pv 4) rfl) rfl)) dt))))))) hC))))⟩))) ?_;refine nT _ rfl p wh ax (nM f ls os rfl pr λld b7=>?_);obtain⟨H1,s1,h1,b8⟩:=nH (o:=.dK (mo [] (qt ax))) b7
  try rw[b8]
  generalize hlk:mo [] (qt ax)=lk at *;refine nT _ rfl p wh ax (oq f ls os rfl (pr.same s1) (by lia) (by lia) λaq ws H2 c1 s2 h2 aw=>?_)
  have U:ws.map (·.1)=(arN f ls).map (Sum.inr:Str->Key):=by
   have:∀{ws:zJ}{es:zB},qG (λb=>H1 b=none) H2 ws es->ws.map (·.1)=(es.map (·.1)).map (Sum.inr:Str->Key):=λh=>by
    induction h with
    |nil=>rfl
    |cons r _ ih=>rw[mi,mi,mi,ih,r.1]
   rw[this aw];congr 1;unfold arr arN;rw[lR,List.map_map];rfl
  have b3:mo [] ws=ws:=by have:=xz (ws:=ws) (acc:=[]) (by rw[List.nil_append,U];exact EY ok.nd);rw[List.nil_append]at this;exact this
  rw[b3]at h2;have x:=s1.trans s2;have b5:qG (λ_=>True) H2 ws (arr f ls):=Paired.mapP aw (by rintro _ _ ⟨z1,b,z2,z3,z4⟩;exact mW z1 b z2 True.intro z4);refine hP _ rfl p _ Y _ _ rfl (x _ _ e) T.af T.aG (by walk_at"lk") (fx l rfl ⟨_,SqL.of (x _ _ hl)⟩ ?_)
  refine pU (K:=K) (a:=l) (xs:=xl) (λi Z G=>∃(o3 D:zP),Z=[Sro p,Sro ld,Sro aq,o3,D]/\A0l H2 G/\tN L (arr f ls) ls=(ls.drop i).findSome? λle=>(tM L (arr f ls) le).map λr=>(le.1,r))
   (dV none none rfl (A0l.refl _) rfl) (by (refine λi Z G _ M=>ei M λ_ _ _ S _=>?_;clear M);exact SqL.of (S _ _ (x _ _ hl))) ?_ ?_
  ·rintro i y Z G hy M;refine ei M ?_;clear M;rintro o3 D rfl S J;refine oJ ?_;intro D';obtain⟨le,a3,z⟩:=pI rl hy;have a8:∀{G':Hp},A0l H G'->B0p t (λ_=>True) G' y le:=λs=>z.same s;refine nU z ?_;clear z;rintro b db c tv _ rfl eb _ ec ob;obtain⟨k4,k5,k3⟩:=ok.l le (me a3);rw[Fu a3]at J;have N:=x.trans S;refine hP _ rfl b _ db _ _ rfl (N _ _ eb) T.aF T.bp (by walk_at"lk") (mJ tv le.2.2 rfl (ob.imp N) k4 k5 λq ps H4 hq s4 h4 pp=>(fx q rfl ⟨_,SqL.of h4⟩ ?_));have b4:=Paired.length pp;have a5:=N.trans s4
   refine pU (K:=K) (a:=q) (xs:=ps) (λj Z G5=>∃(D:zP),Z=[Sro p,Sro ld,Sro aq,Sro b,D]/\A0l H4 G5/\tM L (arr f ls) le=((prT le.2.2 [] []).drop j).findSome? (sW L (arr f ls) le))
    (fx D rfl (A0l.refl _) rfl) (by rintro j Z G5 _ ⟨_,_,m,_⟩;exact SqL.of (m _ _ h4)) ?_ ?_
   ·rintro j z Z G5 hz ⟨D,rfl,m,g⟩;refine oJ ?_;intro D';obtain⟨⟨u,X,W⟩,a1,pz⟩:=pI pp hz;have b2:∀{G':Hp},A0l H4 G'->A4l t G' z (u,X,W):=λs=>pz.same s;refine rD (id pz) ?_;rintro pa dp b6 sl gl gs rfl ep a0 c2 c3 ⟨c6,c0,c5⟩;rw[Fu a1]at g;have a2:=a5.trans m;refine lS (isRd T (a0.imp m)) λC bb ty a9 it a4=>?_;refine hP _ rfl pa _ dp _ _ rfl (m _ _ ep) T.aj T.ay (by walk_at"lk") ⟨_,(pb _ _ bb rfl (nu ty a9 bb rfl (CH (λb1=>?_) (λb0=>?_))))⟩
    ·obtain⟨d,ix,R⟩:=it b1;have R:u=.read d ix:=R;subst R;obtain⟨li,zs,n,lz⟩:=k3 _ (me a1) d ix rfl
     obtain⟨ro,rdx,rl',rfl,ho,_⟩:∃o Y l,b6=.ref o/\H4 o=some (.ins t.aa Y [("array",.str d),("indexes",.ref l)])/\Rep H4 (.ref l) (oK ix):=by
      cases a0 with
      |@read o Y l _ _ e r=>exact nM o Y l rfl e r
     have I:sW L (arr f ls) le (.read d ix,X,W)=(qF (rk L (le.2.1++X) W ix) (zs.map L) (decide (d=le.1)) le.2.1.length).map λe=>(d,e):=by show(qF (rk L (le.2.1++X) W ix) (((shp (arr f ls) d).getD []).map L) (decide (d=le.1)) le.2.1.length).map (λe=>(d,e))=_;rw[n];rfl
     obtain⟨zs',c',hs',hv',hc'⟩:∃zs c,shp (arr f ls) d=some zs/\lW ws (Sum.inr d)=some (.ref c)/\H2 c=some (.lst (zs.map V.str)):=by
      rcases Bh (a:=d) b5 with ⟨z1,_⟩|z
      ·rw[n]at z1;cases z1
      ·exact z
     rw[n]at hs';cases hs';have O:A0l H2 G5:=S.trans (s4.trans m);have gk:=A8f.k (H:=G5) (a:=aq) (k:=Sum.inr d) (O _ _ h2);rw[hv']at gk
     have tz:qV lk L zs:=by
      have:(d,zs)∈arr f ls:=by unfold shp at n;obtain⟨e',B,ee⟩:=rg.mp n;have h1:=List.find?_some B;have h2:=List.mem_of_find?_eq_some B;have h1:e'.1=d:=of_decide_eq_true h1;rw[<-h1,<-ee];exact h2
      exact ok.tk _ this
     refine cb _ rfl (mE _ rfl _ rfl (oS _ rfl _ rfl pa _ dp _ _ rfl (m _ _ ep) T.aj T.ay (by walk_at"lk") (nL ro _ rdx _ _ rfl (m _ _ ho) T.aI T.aM (by walk_at"lk") (dV aq _ rfl gk (oT (.ref b) (.ref pa) ld c' le d ix X W (qA lk L zs rfl (a8 a2) (b2 m) (O _ _ (s2 _ _ h1)) li (lP (O _ _ hc') tz lz (λhn G6 s6=>?_) λb' e' B=>?_)))))))
     ·rw[I,hn]at g;exact fx (some (.ref pa)) rfl (m.trans s6) g
     ·rw[I,B]at g;have g:tM L (arr f ls) le=some (d,(b',e')):=g;rw[g]at J;exact(ko.2 le.1 d b' e' J).of a2
    ·have I:sW L (arr f ls) le (u,X,W)=none:=by
      have:=a4 b0
      cases u with
      |read a ix=>exact absurd rfl (this a ix)
      |_=>rfl
     rw[I]at g;exact fx (some (.ref pa)) rfl m g
   ·rintro Z G5 ⟨D,rfl,m,g⟩;rw[b4,sN]at g;have g:tM L (arr f ls) le=none:=g;rw[g]at J;exact dV (some (.ref b)) D rfl (S.trans (s4.trans m)) J
  ·rintro Z G M;refine ei M ?_;clear M;rintro o3 D rfl S J;rw[a7,sN]at J;exact ko.1 J G (x.trans S)
theorem I0(T:Txt K mg t):A3i P w K mg base (CXD P w) 17 t.ku t.kJ oE (Jj t):=by
 refine T.iT.F.okD JF λ_ A _ s H _ Q E d h=>?_
 ·refine nN h ?_;clear h;rintro p g l e k ⟨j,L,rfl,f,o,B,y,m,D,G,x,v,q⟩;refine rsq (dh ⟨oa (pcd (OB T) d T.eS qJ (eg 0))⟩ (dh ⟨oa (pcd (Oo T) d T.dW qJ (eg 0))⟩ (dh ⟨oa (pcd (NX T) d T.fA qJ (eg 0))⟩ (ef ⟨oa (pcd (Oi T) d T.eA qJ (eg 0))⟩)))) ?_;refine nT _ rfl p g l (qA e k j rfl f o (λ_ _ I u=>?_) (λz=>absurd B z) λ_ z=>absurd y z);refine nT _ rfl p g l (oq e k j rfl (f.same u) m (λ_ J C=>?_) λb z=>by rw[D]at z;cases z);have a:=u.trans C;refine nT _ rfl p g l (og e k j L rfl (f.same a) G x (λi r n=>?_) λi r n=>v i r (a.trans n));have c:=a.trans n;exact nT _ rfl p g l ⟨e,(mh k j L rfl (f.same c) ((q i).1) ((q i).2.of c))⟩
def KI(H H':Hp):Prop:=∀b u,(∀n a,u≠.lst (V.int n::a))->H b=some u->H' b=some u
def hdI:List PyData->Bool|.int _::_=>false|_=>true
mutual
def noI:PyData->Bool|.list ds=>hdI ds&&uj ds|.tuple ds=>uj ds|_=>true
def uj:List PyData->Bool| []=>true|d::r=>noI d&&uj r
end
theorem GM(r:A3m H xs ds)(h:hdI ds=true):∀n ys,HO.lst xs≠.lst (V.int n::ys):=λn ys z=>by
 cases z
 cases r with
 |cons a _=>
  cases a
  cases h
mutual
theorem Rep.ki{H H':Hp}(f:KI H H'):∀{v:V}{d:PyData},Rep H v d->noI d=true->Rep H' v d|_,_,.non,_=>.non|_,_,.bl b,_=>.bl b|_,_,.int i,_=>.int i|_,_,.str x,_=>.str x|_,_,.lst e r,h=>by rw[noI,uh]at h;exact .lst (f _ _ (GM r h.1) e) (A3m.ki f r h.2)|_,_,.tup e r,h=>by rw[noI]at h;exact .tup (f _ _ (by intro n a z;cases z) e) (A3m.ki f r h)
theorem A3m.ki{H H':Hp}(f:KI H H'):∀{vs:zM}{ds:List PyData},A3m H vs ds->uj ds=true->A3m H' vs ds|_,_,.nil,_=>.nil|_,_,.cons a r,h=>by rw[uj,uh]at h;exact .cons (Rep.ki f a h.1) (A3m.ki f r h.2)
end
theorem HI(ix:zL):noI (oK ix)=true:=by
 have h:∀ix:zL,uj (ix.map pf)=true:=λix=>by
  induction ix with
  |nil=>simp[uj]
  |cons e r ih=>rw[mi,uj,ih];simp[pf,noI,uj]
 unfold oK;rw[noI,h];cases ix<;>simp[hdI,pf]
theorem Dt(ys:zC):∀n xs,HO.lst (ys.map V.str)≠.lst (V.int n::xs):=λn xs z=>by
 cases ys with
 |nil=>cases z
 |cons y r=>cases z
theorem J3(c:H D=some (.lst (ms.map V.int)))(o:Oth D H H')(e:ms=[]->H'=H):KI H H':=by
 cases ms with
 |nil=>rw[e rfl];exact λ_ _ _ y=>y
 |cons n r=>
  intro b u a y;by_cases hb:b=D
  ·subst hb;rw[c]at y;cases y;exact absurd rfl (a n _)
  ·rw[o b hb];exact y
theorem KI.of(s:A0l H H'):KI H H':=λb u _ e=>s b u e
theorem KI.trans(a:KI H H')(b:KI H' H2):KI H H2:=λc u n e=>b c u n (a c u n e)
def Nw(G:Hp)(b:zW):Prop:=∀u,G b=some u->∃n a,u=.lst (V.int n::a)
theorem Nw.up(k:KI H H')(h:Nw H' b):Nw H b:=λu e=>Classical.byContradiction λa=>a (h u (k b u (λn c z=>a (oi n c z)) e))
theorem Ja(h:H b=none):Nw H b:=λu e=>by rw[h]at e;cases e
theorem rB(k:KI H H')(h:H' b=none):Nw H b:=(Ja h).up k
theorem DY(k:KI H H'):KI (lU S H) (lU S H'):=λb u n e=>mq (mY e).1 (k b u n (mY e).2)
theorem KI.str(k:KI H H')(e:H b=some (.lst (ys.map V.str))):H' b=some (.lst (ys.map V.str)):=k _ _ (Dt ys) e
theorem KI.dk(k:KI H H')(e:H b=some (.dK kvs)):H' b=some (.dK kvs):=k _ _ (by intro n a z;cases z) e
def Jd:Sp:=λd H Q _=>∃(r:zW)(b:zI),d=[.ref r]/\H r=some (.lst (b.map V.int))/\∀(i:Int)(c:zI)(a:Hp),c.length<=b.length->a r=some (.lst (c.map V.int))->Oth r H a->(b=[]->a=H)->Q (.int i) a
structure AxN(nm ys:zC):Prop where
 nd:ys.Nodup
 sub:∀y∈ys,y∈nm
 few:ys.length<=3
def JP:Sp:=λe H Q _=>∃(c:Int)(l:zW)(a:zC),e=[.int c,.ref l]/\H l=some (.lst (a.map V.str))/\a.length<=8/\0<a.length/\a.Nodup/\∀(d:zC)(p:zW)(b:Hp),H p=none->A0l H b->b p=some (.lst (d.map V.str))->AxN a d->Q (.ref p) b
theorem IT{m c:Int}(f:0<m)(b:m<=8)(a:tn=1\/tn=m-1)(hi:(i:Int)<m)(d:(j:Int)<m)(e:(c+(i:Int)*tn)%m=(c+(j:Int)*tn)%m):i=j:=by
 have h:m=1\/m=2\/m=3\/m=4\/m=5\/m=6\/m=7\/m=8:=by lia
 rcases h with rfl|rfl|rfl|rfl|rfl|rfl|rfl|rfl<;>rcases a with rfl|rfl<;>lia
theorem Hk{f:Nat->Nat}(l:nm.Nodup)(h:∀j,j<zs.length->zs[j]?=nm[f j]?)(d:∀i j,i<zs.length->j<zs.length->f i=f j->i=j):zs.Nodup:=by
 rw[List.nodup_iff_pairwise_ne,List.pairwise_iff_getElem];intro i j b c m e;have a:=h i b;have g:=h j c;rw[nP b]at a;rw[nP c]at g;rw[e]at a;have k:f i<nm.length:=(ml.mp a.symm).1;have:=(List.getElem?_inj k l).mp (a.symm.trans g);have:=d i j b c this
 lia
theorem yM(T:Txt K mg t):FO P w base T.aN 1 Jd:=by
 refine T.aN.F.ok Lx λ_ A _ s H _ Q E g h=>?_
 ·refine ei h ?_;clear h;rintro r a rfl c k;refine rsq (dh (lN (lZ nQ (oA T.aK (eg 0)) ew) (ef (hB ew)) ⟨hC⟩) (ef (hB (Dd qR PySem.F.slot_list_pop PySem.F.type_list_pop Iw (pv 0))))) ?_;refine qi _ rfl r _ rfl (.inl (SqL.of c)) rfl _ rfl (lT (λ_=>?_) (λh=>?_))
  ·exact k 0 a H (fy _) c (λ_ _=>rfl) λ_=>rfl
  ·have d:0<a.length:=by
    rcases Nat.eq_zero_or_pos a.length with z|z
    ·exact absurd (by rw[dm,z];rfl) h
    ·exact z
   have e:(a.map V.int)[(a.map V.int).length-1]?=some (V.int (a[a.length-1]'(by lia))):=by rw[dm,oH,nP (by lia:a.length-1<a.length)];rfl
   refine fx _ rfl (.inl (pM rfl _ (SqL.of c))) (oq r _ _ rfl rfl c e (k _ a.dropLast _ (by simp) ?_ (λb f=>eh f) λz=>by rw[z]at d;cases d));rw[cp,List.map_dropLast]
theorem E8(T:Txt K mg t):FO P w base T.dQ 1 JP:=by
 refine T.dQ.F.ok yS λ_ A _ s H _ Q E hr h=>?_
 ·refine nF h ?_;clear h;rintro c l a rfl I h8 ⟨J,W,k⟩;refine rsq (dh ⟨@pR _ _ 2 _ _ _ _ yS.nd rfl (.inr rfl) (oA T.aK (eg 1)) rfl (.inl rfl)⟩ (dh ⟨@pR _ _ 3 _ _ _ _ yS.nd rfl (.inr rfl) ew rfl (.inl rfl)⟩ (qy (lN (PW.pt (tV (lZ nQ (eB ny (eB pL (pv 0) ew) ew) ew) (ua (lZ uO (pv 2) ew)))) (ef ⟨@pR _ _ 3 _ _ _ _ yS.nd rfl (.inr rfl) (eB tX (pv 2) ew) rfl (.inl rfl)⟩) ⟨hC⟩) (ef (hB (pC (N':=["_law_j","_law_cell_here","_law_many_here","_law_names","_law_turn"]) (ix:=(List.replicate 1 none++[some 0,some 2,some 1,some 3])) rfl (ER (cl:=[("_law_turn",_),("_law_names",_),("_law_many_here",_),("_law_cell_here",_)]) (xs:=["_law_turn","_law_names","_law_many_here","_law_cell_here"]) rfl (lP rfl rfl rfl rfl trivial) rfl rfl (by decide+kernel) (by decide+kernel)) (EU (N0:=["_law_j"]) (xs:=["_law_cell_here","_law_many_here","_law_names","_law_turn"]) (js:=[0,2,1,3]) (lP (fI rfl (.inl rfl) (by walk_at"ix")) (fI rfl (.inl rfl) (by walk_at"ix")) (fI rfl (.inl rfl) (by walk_at"ix")) (fI rfl (.inl rfl) (by walk_at"ix")) trivial)) (uV rfl T.bi (ad (nK (Me rfl) (by rfl) T.lE PyProof.Rows.boot_min (ad (eB ny (pv 0) ew) (eg 2))) dt)) (λ_ _ _ _=>(hH (i:=0) MH)) (λ_ _ _ _=>(qv (KP (K:=K) rfl) (pv 3) (eB ny (eB oM (eB pL (pv 1) ew) (eB wT (pv 0) (pv 4))) (pv 2)))))))))) ?_;refine lL _ rfl l _ rfl (.inl (SqL.of I)) ?_;rw[dm];refine cb (λZ L=>H=L/\∃tn:Int,(tn=1\/tn=(a.length:Int)-1)/\Z=[Sio c,Sro l,Sio a.length,Sio tn]) ?_ ?_
  ·refine qz _ rfl _ _ rfl rfl ⟨by decide,by decide⟩ _ _ rfl rfl zw (kB rfl _ rfl (wJ (λ_=>?_) (λ_=>hY (kB rfl _ (.inl rfl) rfl))));refine cb _ rfl (ot _ _ rfl rfl _ rfl (lT (λ_=>?_) (λ_=>(kB rfl _ (.inl rfl) rfl))));exact qi _ rfl _ _ rfl rfl rfl _ (.inr rfl) rfl
  ·rintro Z L ⟨rfl,tn,z,rfl⟩;refine qi _ rfl _ _ rfl rfl uK _ rfl (mL _ _ rfl ?_);generalize hm:(if (a.length:Int)<c%4 then (a.length:Int)else c%4)=m;have S:m<=3:=by rw[<-hm];split<;>lia
   have R:0<=m:=by rw[<-hm];split<;>lia
   have O:m<=a.length:=by rw[<-hm];split<;>lia
   refine nr _ rfl (by lia) (by lia) λD C=>?_;refine uW (D:=D) m.toNat (λi n d=>A0l H d/\d D=some (.lst n)/\∃b:zC,n=b.map V.str/\b.length=i/\∀j,j<i->b[j]?=a[((c/8+(j:Int)*tn)%(a.length:Int)).toNat]?) ⟨ed C,(mW cp [] rfl rfl (by intro j g;lia))⟩ (λi n d G _=>G) (λn d _=>fy _) ?_ ?_
   ·rintro i n d G o;refine pN o ?_;clear o;rintro r v b rfl ⟨u,q⟩ x H4 ⟨rfl,rfl⟩;refine qE ?_;intro N';rw[Int.zero_add];obtain⟨x,M,e⟩:=vV (f:=V.str) (xs:=a) (i:=(c/8+(i:Int)*tn)%(a.length:Int)) (rH _ (by lia)) (sP _ (by lia));refine kB (lP rfl rfl rfl rfl True.intro) _ rfl (qi _ rfl _ _ rfl rfl ⟨by decide,by decide⟩ _ rfl (lL _ rfl _ _ rfl rfl (nE (.inl ⟨by lia,by lia⟩) _ _ rfl rfl (lL _ rfl _ _ rfl rfl ⟨(by show(0:Int)<(a.length:Int);lia),(nD l _ _ _ rfl rfl (SqL.of (r _ _ I)) e ?_)⟩))));refine lX v (mC (by simp;lia)) (mu r C) (mW cp (b++[x]) (by simp) (by simp[u]) λj g=>?_);rcases Nat.lt_or_ge j i with p|p
    ·rw[rF (by lia)];exact q j p
    ·have:j=i:=by lia
     subst this;rw[M,rf (by lia),u,Nat.sub_self];rfl
   ·rintro n d o;refine pN o ?_;clear o;rintro r v b rfl ⟨u,q⟩
    have U:b.Nodup:=Hk (f:=λj=>((c/8+(j:Int)*tn)%(a.length:Int)).toNat) W (λj g=>q j (by lia)) λi j G g e=>by
     have X:=rH (c/8+(i:Int)*tn) (show(a.length:Int)≠0 by lia);have Y:=rH (c/8+(j:Int)*tn) (show(a.length:Int)≠0 by lia);refine IT (m:=a.length) (c:=c/8) (tn:=tn) (by lia) (by lia) z (by lia) (by lia) ?_;have e:((c/8+(i:Int)*tn)%(a.length:Int)).toNat=((c/8+(j:Int)*tn)%(a.length:Int)).toNat:=e
     lia
    have B:∀y∈b,y∈a:=λy N=>by obtain⟨j,g⟩:=List.getElem?_of_mem N;have I:=(ml.mp g).1;rw[q j (by lia)]at g;exact me g
    exact k b D d C r v ⟨U,B,by lia⟩
theorem EO(T:Txt K mg t):FO P w base T.eK 1 DQ:=by
 refine T.eK.F.ok yO λ_ A _ s H _ Q E o h=>?_
 ·refine nU h ?_;clear h;rintro l d m B L rfl j n r ⟨u,k⟩;have q:=qW o;refine rsq (dh (hK 2 yO.nd ew) (dh (pX (nR (pv 0)) (hH (i:=3) yO.nd) (ef (hK 2 yO.nd (eB wT (pv 2) (mj q (pv 1) (pv 3)))))) (ef (hB (pv 2))))) ?_;refine mH _ rfl l rfl ⟨_,SqL.of j⟩ ?_;refine pU (K:=K) (a:=l) (xs:=m.map V.str) (λi Z b=>H=b/\∃c:zP,Z=[Sro l,Sro d,Sio (prd L (m.take i)),c]) (pM rfl none rfl) (λi Z b _ h=>by rw[<-h.1];exact SqL.of j) ?_ ?_
  ·rintro i x Z b f ⟨rfl,c,rfl⟩;refine oJ ?_;intro z;rw[oH]at f;obtain⟨y,e,rfl⟩:=rg.mp f;obtain⟨p,v⟩:=r y (me e);have g:=A8f.k (H:=H) (a:=d) (k:=Sum.inr y) n;rw[p]at g;refine i12 _ rfl _ rfl _ rfl d _ rfl g (mJ _ _ rfl rfl (.inr ⟨by lia,by lia⟩) rfl ⟨some (.str y),?_⟩);rw[mQ,e,nO,yH];rfl
  ·rintro Z b ⟨rfl,c,rfl⟩;rw[dm,na];exact cb _ rfl (k H (A0l.refl _))
def KT(H H':Hp):Prop:=∀p a,H p=some (.tup a)->H' p=some (.tup a)
theorem KT.same(s:A0l H H'):KT H H':=λp a e=>s _ _ e
theorem KT.at{l:zW}{u:HO}(e:H l=some u)(n:∀xs,u≠.tup xs):KT H (upd H l o):=λp xs z=>by rw[eh (mU z e (n xs).symm)];exact z
def spO(e:zO)(sp:Sp):Sp:=λa H Q E=>HdO e H/\sp a H Q E
theorem huO{k:Nat}{A:zZ}(r:A6p k A):A.units+1<cLine:=wF (Nat.add_le_add_left (by decide:1<=64) _) (A6p.units r)
def Lv:Sp:=λd H Q _=>∃(c n:Int),d=[.int c,.int n]/\0<=n/\n<=1000/\∀(p:zW)(b:zI)(a:Hp),H p=none->A0l H a->a p=some (.lst (b.map V.int))->b.length=n.toNat->Q (.ref p) a
theorem BT:(0:Int)<10^(4:Int).toNat:=by decide
theorem Nv(T:Txt K mg t):FO P w base T.dC 1 Lv:=by
 refine T.dC.F.ok xw λ_ A _ s H _ Q E q h=>?_
 ·refine lS h ?_;clear h;rintro c n rfl p o k;refine rsq (dh (hK 2 xw.nd (@oG _ _ _ _ dt)) (dh (hK 3 xw.nd (pv 0)) (dh (pX (uV rfl T.bi (eg 1)) (hH (i:=4) xw.nd) (dh ⟨oa (qI qR sS sR sI (pv 2) (ad (eB ny (pv 3) (eB wU ew ew)) dt))⟩ (ef (hK 3 xw.nd (eB pL (pv 3) (eB wU ew ew)))))) (ef (hB (pv 2)))))) ?_;refine⟨kr rfl,λD l=>(mE _ rfl _ rfl (nr n rfl (by lia) (by lia) ?_))⟩;refine yR (n:=n.toNat) (λj Z d=>∃(z:Int)(a:zI)(f:zP),Z=[Sio c,Sio n,Sro D,Sio z,f]/\A0l H d/\d D=some (.lst (a.map V.int))/\a.length=j) (mh c [] none rfl (ed l) cp rfl) ?_ ?_
  ·rintro j Z d u b;refine nF b ?_;clear b;rintro z a f rfl g e m;refine oJ ?_;intro r;rw[Int.zero_add];refine fx _ rfl (.inl (pM rfl _ (SqL.of e))) (qz _ rfl _ _ rfl rfl ?_ _ _ rfl rfl BT (oq D _ _ rfl rfl e (mC (by rw[dm];lia)) ?_))
   ·exact fI (by decide) (by decide) (by decide)
   ·refine qz _ rfl _ _ rfl rfl (fI (by decide) (by decide) (by decide)) _ _ rfl rfl ⟨BT,by decide⟩ ?_;exact mh _ (a++[z%10^(4:Int).toNat]) _ rfl (mu g l) (by rw[cp,lR];rfl) (by simp[m])
  ·rintro Z d b;refine nF b ?_;clear b;rintro z a f rfl g e m;exact cb _ rfl (k D a d l g e m)
theorem Nd(T:Txt K mg t){e:zO}:A6q e P w K mg base nj 1 t.im t.iu wL (spO e Cs):=by
 refine T.ik.F.okO (e':=e) wu (λa7 A a0 s H vs Q E hr hh h=>?_)
 ·obtain⟨hO,l,d,S,lk,L0,rfl,hl,hd,tl,g,k⟩:=h;have hu:=huO hr;have a9:(S.map L0).length=S.length:=dm ..;generalize els:S.map L0=ls at *;refine rsq (dh (hK 2 wu.nd (@oG _ _ _ _ (ad (oQ dt) dt))) (dh ⟨sy (ok:=HdA e) PassesOwn.never hh (xp (e:=e) (pv 0)) (hH (i:=3) wu.nd) (@pi _ _ _ _ _ (@pR _ _ 4 _ _ _ _ wu.nd rfl (.inl rfl) (@oG _ _ _ _ dt) rfl (.inl rfl)) (@pi _ _ _ _ _ (sy (ok:=HdA e) PassesOwn.never hh (xp (e:=e) (pv 2)) (hH (i:=5) wu.nd rfl (.inr rfl)) (@mD _ _ _ (oa (qI qR PySem.F.slot_list_extend PySem.F.type_list_extend Bs (pv 4) (ad (Ko (ok:=HdA e) (N':=["_law_number","_law_cell_here"]) (ix:=(List.replicate 1 none++[some 5])) hh (uv (x:="_law_cell_here") rfl rfl rfl (by decide+kernel) (by decide+kernel)) (ux (N0:=["_law_number"]) rfl (.inl rfl) (by walk_at"ix")) (EF (e:=e) rfl T.bi (ad (mj hu (pv 1) (pv 3)) dt)) (λ_ _ _ _=>(hH (i:=0) M0)) (λ_ _ _ _=>(eB Lc (pv 1) (oQ (eg 0))))) dt))))) (@mD _ _ _ (@pR _ _ 2 _ _ _ _ wu.nd rfl (.inl rfl) (pv 4) rfl (.inl rfl)))))⟩ (ef (hB (pv 2))))) ?_;refine⟨kr rfl,λU he=>⟨kr rfl,λq J=>?_⟩⟩;have a3:H q=none:=(ed he).free J;have s1:A0l H (upd (upd H U (.tup [])) q (.lst [V.ref U])):=(ed he).trans (ed J)
  refine⟨_,rfl,l,rfl,⟨_,SqL.of (s1 _ _ hl)⟩,xq (K:=K) (a:=l) (xs:=S.map V.str) (λi Z r=>∃(o3 o4 C:zP)(q:zW),Z=[Sro l,Sro d,Sro q,o3,o4,C]/\A0l H r/\H q=none/\vZ r q (nB (ls.take i)))
   ⟨none,(mh none none q rfl s1 a3 ⟨[U],cp,.cons (by rw[eh (lO cp J)];exact cp) .nil⟩)⟩ (by (rintro i Z r b;refine mF b ?_;clear b;rintro _ _ _ ⟨_,_,f,_⟩);exact⟨SqL.of (f _ _ hl),hO.same f⟩) ?_ ?_⟩
  ·rintro i y Z r hi b;refine ou b ?_;clear b;rintro o3 o4 C q rfl f J Y;obtain⟨y,hy,rfl⟩:=oY hi;have hn:ls[i]?=some (L0 y):=by rw[<-els,oH,hy];rfl
   have ev:=(tl y (me hy)).1;generalize L0 y=n at hn ev;have gp:=g.pos n (me hn);have cl:=wv (ls.take i) λm X=>(g.pos m (tE X)).1;have pl:=FX ls (λm X=>(g.pos m X).1) i;have gm:=g.most;have gf:=g.few;obtain⟨ps,R,tp⟩:=Y.ex;have a2:=tp.len;refine⟨kr rfl,λL hL=>?_⟩;have sL:A0l r (upd r L (.lst [])):=ed hL
   refine⟨_,rfl,q,rfl,⟨_,SqL.of (sL _ _ R)⟩,xq (K:=K) (a:=q) (xs:=ps.map V.ref) (λj Z v=>∃(C:zP)(B:zQ),Z=[Sro l,Sro d,Sro q,Sso y,Sro L,C]/\A0l r v/\v L=some (.lst (B.map V.ref))/\A2q v B (pq ((nB (ls.take i)).take j) n))
    (lQ _ [] rfl sL cp .nil) (by (refine λj Z v b=>ei b λ_ _ _ o _=>?_;clear b);exact⟨SqL.of (o _ _ R),hO.same (f.trans o)⟩) ?_ ?_⟩
   ·rintro j z Z v hz b;refine lS b ?_;clear b;rintro C B rfl o W N;obtain⟨pc,a6,rfl⟩:=oY hz;obtain⟨c,hc,a1⟩:=tp.get a6;have cw:=(tD _ c (me hc)).1;rw[mK]at cw;have gk:=A8f.k (H:=v) (a:=d) (k:=Sum.inr y) (o _ _ (f _ _ hd));rw[ev]at gk
    have a8:B.length<=240000:=by
     have e:=N.len;rw[BI]at e;have U:((nB (ls.take i)).take j).length*n.toNat<=4000*60:=Nat.mul_le_mul (by rw[mK];lia) (by lia)
     lia
    refine fx _ rfl (.inl (pM rfl _ (SqL.of W))) (nh _ rfl _ rfl d _ rfl gk (nr n rfl (by lia) (by lia) λD hD=>?_));refine LJ (D:=D) (n:=n.toNat) (λm M G=>A0l v G/\G D=some (.lst M)/\∃p:zQ,M=p.map V.ref/\p.length=m/\A2q G p ((List.range m).map λ(m:Nat)=>c++[(m:Int)])) ⟨ed hD,(mW cp [] rfl rfl .nil)⟩ (λm M G q=>hO.same (f.trans (o.trans q.1))) ?_ ?_
    ·rintro m M H5 X b;refine pN b ?_;clear b;rintro I h4 p rfl ⟨lw,t4⟩;rw[Int.zero_add];refine⟨⟨rfl,True.intro⟩,(mH _ rfl _ rfl (kr rfl) λu a4=>?_)⟩;have s5:A0l H5 (upd H5 u (.tup [V.int (m:Int)])):=ed a4;refine og pc u (c.map V.int) [V.int (m:Int)] rfl rfl (s5 _ _ (I _ _ (o _ _ a1))) cp (lK (by simp;lia)) λq' H6 s6 a5=>?_;have h6:=s6 _ _ (s5 _ _ h4);refine lX h6 (mC (by rw[dm];lia)) (mu (I.trans (s5.trans s6)) hD) (mW cp (p++[q']) (by simp) (by simp[lw]) ?_);rw[List.range_succ,lR];have kD:KT H6 (upd H6 D (.lst (p.map V.ref++[.ref q']))):=KT.at h6 (by intro xs z;cases z);exact A2q.snoc (kD _ _ (by rw[a5,lR];rfl)) ((t4.same (s5.trans s6)).imp kD)
    ·rintro M G b;refine pN b ?_;clear b;rintro I h4 p rfl ⟨lw,t4⟩;have O:=I _ _ W;refine og L D _ _ rfl rfl O h4 (lK (by rw[dm,dm];lia)) ?_;have kL:KT G (upd G L (.lst (B.map V.ref++p.map V.ref))):=KT.at O (by intro xs z;cases z);refine lQ _ (B++p) rfl (mu (o.trans I) hL) (by rw[cp,lR]) ?_
     have e:pq ((nB (ls.take i)).take (j+1)) n=pq ((nB (ls.take i)).take j) n++(List.range n.toNat).map λ(m:Nat)=>c++[(m:Int)]:=by rw[mQ,hc];simp[pq]
     rw[e];exact pQ ((N.same I).imp kL) (t4.imp kL)
   ·rintro Z v b;refine lS b ?_;clear b;rintro C B rfl o W N;refine nC _ rfl _ _ _ L rfl (f.trans o) (f.free hL) ⟨B,W,?_⟩;rw[dm,a2,na]at N;rw[Gq hn];exact N
  ·rintro Z r b;refine ou b ?_;clear b;rintro o3 o4 C q rfl f J Y;have e:ls.take (S.map V.str).length=ls:=rT (by rw[dm];lia);rw[e]at Y;exact cb _ rfl (k q r J f Y)
def nS(seed:Int):Nat:=(seed/8%(1+seed%8)).toNat
def mS(seed:Int):Nat:=(1+seed%8-seed/8%(1+seed%8)-1).toNat
def cbS(seed:Int):Nat:=97+(seed/1664%26).toNat
def cmS(seed k:Int):Nat:=97+((seed/64+k)%26).toNat
def sT(seed k:Int):List Nat:=List.replicate (nS seed) (cbS seed)++cmS seed k::List.replicate (mS seed) (cbS seed)
def NmD(seed k:Int)(z:Str):Prop:=(z.cps.toList=sT seed k/\z≠"if")\/(sT seed k=("if":Str).cps.toList/\z="iif")
theorem AO(seed:Int):nS seed+mS seed+1<=8:=by
 have a:0<1+seed%8:=by lia
 have c:0<=seed/8%(1+seed%8):=rH _ (by lia);have b:seed/8%(1+seed%8)<1+seed%8:=sP _ a;unfold nS mS
 lia
theorem yJ(seed k:Int):(sT seed k).length=nS seed+mS seed+1:=by unfold sT;simp;lia
theorem DK{k:Int}{c:Nat}(h:c∈sT seed k):97<=c/\c<=122:=by
 unfold sT at h;have a:97<=cbS seed/\cbS seed<=122:=by unfold cbS;lia
 have b:97<=cmS seed k/\cmS seed k<=122:=by unfold cmS;lia
 rcases mX.mp h with h|h
 ·rw[List.eq_of_mem_replicate h];exact a
 ·rcases lY.mp h with rfl|h
  ·exact b
  ·rw[List.eq_of_mem_replicate h];exact a
theorem DP{k:Int}(k0:0<=k)(k1:k<26)(b:0<=k')(a:k'<26)(h:sT seed k=sT seed k'):k=k':=by
 unfold sT at h;have h:=(List.append_inj h rfl).2;have h:cmS seed k=cmS seed k':=(List.cons.inj h).1;unfold cmS at h
 lia
theorem Jn{k d:Int}{z:Str}(k0:0<=k)(k1:k<26)(g:0<=d)(f:d<26)(h:NmD seed k z)(h':NmD seed d z):k=d:=by
 have e:=yJ seed k;have i:=yJ seed d;have l:(("iif":Str).cps.toList).length=3:=by decide+kernel
 have m:(("if":Str).cps.toList).length=2:=by decide+kernel
 rcases h with ⟨a,_⟩|⟨a,b⟩<;>rcases h' with ⟨c,_⟩|⟨c,j⟩
 ·exact DP k0 k1 g f (by rw[<-a,<-c])
 ·rw[j]at a;rw[<-a]at e;rw[c]at i;lia
 ·rw[b]at c;rw[<-c]at i;rw[a]at e;lia
 ·exact DP k0 k1 g f (by rw[a,c])
theorem AF{k:Int}{z:Str}(h:NmD seed k z):qU z/\z≠"":=by
 rcases h with ⟨a,b⟩|⟨_,rfl⟩
 ·have f:=yJ seed k;have g:=AO seed
  have d:z.length=nS seed+mS seed+1:=by show z.cps.size=_;rw[<-Array.length_toList,a,f]
  exact⟨⟨by lia,tY.mpr λc e=>by rw[a]at e;have:=DK e;lia⟩,λq=>by rw[q]at d;have:("":Str).length=0:=rfl;lia⟩
 ·exact⟨⟨by decide+kernel,by decide+kernel⟩,by decide+kernel⟩
theorem DG(a b:Str):(a++b).cps.toList=a.cps.toList++b.cps.toList:=by show(a.cps++b.cps).toList=_;exact Array.toList_append
theorem DZ{c:Nat}(h:n<=8):(Txt.join "" (List.replicate n (⟨#[c]⟩:Str))).cps.toList=List.replicate n c:=by
 match n,h with
 |0,_=>rfl
 |1,_=>rfl
 |2,_=>rfl
 |3,_=>rfl
 |4,_=>rfl
 |5,_=>rfl
 |6,_=>rfl
 |7,_=>rfl
 |8,_=>rfl
theorem CY{c:Nat}(h:abc.cps.toList[i]?=some c):c=97+i:=by
 rw[Aw]at h;obtain⟨b,a⟩:=ml.mp h;rw[List.getElem_range']at a
 lia
def JZ:Sp:=λc H Q _=>∃(k a:Int),c=[.int k,.int a]/\∀(z:Str)(b:Hp),NmD a k z->A0l H b->Q (.str z) b
theorem Mn(T:Txt K mg t):FO P w base T.gA 1 JZ:=by
 refine T.gA.F.ok vx λ_ A _ s H _ Q E hr h=>?_
 ·obtain⟨kk,seed,rfl,k⟩:=h;refine rsq (dh (hK 2 vx.nd lV) (dh (hK 3 vx.nd (eB oM ew (eB ny (pv 1) ew))) (dh (hK 4 vx.nd (eB ny (eB pL (pv 1) ew) (pv 3))) (dh ⟨@pR _ _ 5 _ _ _ _ vx.nd rfl (.inr rfl) (qv CO (pv 2) (eB ny (eB pL (pv 1) ew) ew)) rfl (.inl rfl)⟩ (dh (hK 6 vx.nd (eB Fq (qI PySem.F.plainAttrs_str PySem.F.slot_str_join PySem.F.type_str_join DM lV (ad (pC (N':=["_law_j","_law_base"]) (ix:=(List.replicate 1 none++[some 5])) rfl (uv (x:="_law_base") rfl rfl rfl (by decide+kernel) (by decide+kernel)) (ux (N0:=["_law_j"]) rfl (.inl rfl) (by walk_at"ix")) (uV rfl T.bi (eg 4)) (λ_ _ _ _=>(hH (i:=0) Mc)) (λ_ _ _ _=>(pv 1))) dt)) (qv CO (pv 2) (eB ny (eB oM (eB pL (pv 1) ew) (pv 0)) ew)))) (dh (hK 6 vx.nd (eB Fq (pv 6) (qI PySem.F.plainAttrs_str PySem.F.slot_str_join PySem.F.type_str_join DM lV (ad (pC (N':=["_law_j","_law_base"]) (ix:=(List.replicate 1 none++[some 5])) rfl (uv (x:="_law_base") rfl rfl rfl (by decide+kernel) (by decide+kernel)) (ux (N0:=["_law_j"]) rfl (.inl rfl) (by walk_at"ix")) (uV rfl T.bi (ad (eB tX (eB tX (pv 3) (pv 4)) ew) dt)) (λ_ _ _ _=>(hH (i:=0) M2)) (λ_ _ _ _=>(pv 1))) dt)))) (dh (lN (lZ nQ (pv 6) lV) (ef (hB lV)) ⟨hC⟩) (ef (hB (pv 6)))))))))) ?_;have Z:=AO seed;obtain⟨a,O,X⟩:=Db (xs:=abc.cps.toList) (i:=seed/1664%26) (by lia) (by rw[DL];lia);obtain⟨u,Y,W⟩:=Db (xs:=abc.cps.toList) (i:=(seed/64+kk)%26) (by lia) (by rw[DL];lia);have C:a=cbS seed:=CY O;have G:u=cmS seed kk:=CY Y;have B:(seed/8%(1+seed%8)).toNat=nS seed:=rfl;have J:(1+seed%8-seed/8%(1+seed%8)-1).toNat=mS seed:=rfl;have L:0<1+seed%8:=by lia
  have z8:1+seed%8<=8:=by lia
  have p0:0<=seed/8%(1+seed%8):=rH _ (by lia);have p1:seed/8%(1+seed%8)<1+seed%8:=sP _ L;generalize hz:1+seed%8=size at *;generalize hp:seed/8%size=spot at *;refine lL _ rfl _ _ rfl rfl (nE BY _ _ rfl rfl ?_);dsimp only;rw[hz];refine qi _ rfl _ _ rfl rfl ⟨by decide,by decide⟩ _ rfl (lQ _ _ rfl rfl L ?_);dsimp only;rw[hp];refine cb _ rfl (qz _ rfl _ _ rfl rfl ⟨by decide,by decide⟩ _ _ rfl rfl CD (oq _ _ a rfl rfl (lK (by rw[Ew];decide)) X ?_))
  have e:∀(n:Nat),n<=8->((List.replicate n (⟨#[a]⟩:Str)).map (·.length)).sum+(List.replicate n (⟨#[a]⟩:Str)).length*("":Str).length<=16777216/\(Txt.join "" (List.replicate n (⟨#[a]⟩:Str))).length<=1000/\PyData.strOk (Txt.join "" (List.replicate n (⟨#[a]⟩:Str)))=true:=by
   intro n N;have b:a<1114112:=Ht a (me O);have R:("":Str).length=0:=rfl
   have U:((List.replicate n (⟨#[a]⟩:Str)).map (·.length)).sum=n:=by
    clear N
    induction n with
    |zero=>rfl
    |succ n ih=>rw[List.replicate_succ,mi,List.sum_cons,ih];show 1+n=n+1;lia
   refine⟨by rw[U,R];lia,?_⟩
   match n,N with
   |0,_=>exact⟨Nat.le_of_ble_eq_true rfl,tY.mpr λc d=>by rw[List.eq_of_mem_replicate (show c∈List.replicate 0 a from d)];exact b⟩
   |1,_=>exact⟨Nat.le_of_ble_eq_true rfl,tY.mpr λc d=>by rw[List.eq_of_mem_replicate (show c∈List.replicate 1 a from d)];exact b⟩
   |2,_=>exact⟨Nat.le_of_ble_eq_true rfl,tY.mpr λc d=>by rw[List.eq_of_mem_replicate (show c∈List.replicate 2 a from d)];exact b⟩
   |3,_=>exact⟨Nat.le_of_ble_eq_true rfl,tY.mpr λc d=>by rw[List.eq_of_mem_replicate (show c∈List.replicate 3 a from d)];exact b⟩
   |4,_=>exact⟨Nat.le_of_ble_eq_true rfl,tY.mpr λc d=>by rw[List.eq_of_mem_replicate (show c∈List.replicate 4 a from d)];exact b⟩
   |5,_=>exact⟨Nat.le_of_ble_eq_true rfl,tY.mpr λc d=>by rw[List.eq_of_mem_replicate (show c∈List.replicate 5 a from d)];exact b⟩
   |6,_=>exact⟨Nat.le_of_ble_eq_true rfl,tY.mpr λc d=>by rw[List.eq_of_mem_replicate (show c∈List.replicate 6 a from d)];exact b⟩
   |7,_=>exact⟨Nat.le_of_ble_eq_true rfl,tY.mpr λc d=>by rw[List.eq_of_mem_replicate (show c∈List.replicate 7 a from d)];exact b⟩
   |8,_=>exact⟨Nat.le_of_ble_eq_true rfl,tY.mpr λc d=>by rw[List.eq_of_mem_replicate (show c∈List.replicate 8 a from d)];exact b⟩
  have S:(⟨#[u]⟩:Str).length=1:=rfl;obtain⟨l1,o1⟩:=(e spot.toNat (by lia)).2;refine kB rfl _ rfl (nr _ rfl (by lia) (by lia) λD M=>?_);refine uW (D:=D) spot.toNat (λi f o=>A0l H o/\o D=some (.lst f)/\f=(List.replicate i (⟨#[a]⟩:Str)).map V.str) (fI (ed M) cp rfl) (λi f o q _=>q) (λf o _=>fy _) ?_ ?_
  ·rintro i f o q ⟨r,l,rfl⟩ x g ⟨rfl,rfl⟩;refine qE ?_;intro N';refine kB ⟨rfl,True.intro⟩ _ rfl (lP l (mC (by simp;lia)) (mu r M) cp ?_);rw[List.replicate_succ',lR];rfl
  ·rintro f o ⟨r,l,rfl⟩;refine oq _ D _ rfl rfl (SqL.of l) ((e _ (by lia)).1) ?_;refine nh _ rfl _ rfl _ _ rfl rfl ⟨⟨by decide,by decide⟩,(lL _ rfl _ _ rfl rfl (lQ _ _ rfl rfl CD (oq _ _ u rfl rfl (lK (by rw[Ew];decide)) W (lQ _ _ rfl rfl (lK (by lia)) ?_))))⟩;obtain⟨l2,o2⟩:=(e (size-spot-1).toNat (by lia)).2;refine fx _ rfl rfl (nh _ rfl _ rfl _ _ rfl rfl (dV _ _ rfl rfl (nr _ rfl (by lia) (by lia) λI j=>?_)));refine uW (D:=I) (size-spot-1).toNat (λi f g=>A0l H g/\g I=some (.lst f)/\f=(List.replicate i (⟨#[a]⟩:Str)).map V.str) (fI (r.trans (ed j)) cp rfl) (λi f g q _=>q) (λf g _=>fy _) ?_ ?_
   ·rintro i f g q ⟨v,y,rfl⟩ x H4 ⟨rfl,rfl⟩;refine qE ?_;intro N';refine kB ⟨rfl,True.intro⟩ _ rfl (lP y (mC (by simp;lia)) (mu v (r.free j)) cp ?_);rw[List.replicate_succ',lR];rfl
   ·rintro f g ⟨v,y,rfl⟩;refine oq _ I _ rfl rfl (SqL.of y) ((e _ (by lia)).1) ?_;refine lQ _ _ rfl rfl (lK (by rw[Str.length_append];lia)) ?_
    have p:(Txt.join "" (List.replicate spot.toNat (⟨#[a]⟩:Str))++(⟨#[u]⟩:Str)++Txt.join "" (List.replicate (size-spot-1).toNat (⟨#[a]⟩:Str))).cps.toList=sT seed kk:=by rw[DG,DG,DZ (by lia),DZ (by lia),B,J,C,G];unfold sT;rw[pj];rfl
    refine qj _ rfl rfl _ rfl (lT (λm=>k _ g (.inr ⟨by rw[<-p,V.str.inj m],rfl⟩) v) (λm=>(cb _ rfl (k _ g (.inl ⟨p,λz=>m (by rw[z])⟩) v))))
def wI(k:Int):Op3:=if k=0 then .plus else if k=1 then .minus else .times
inductive A7s(H:Hp):V->Tm->Prop|num {a:zW} {z:Int}:H a=some (.tup [.str "number",.int z])->A7s H (.ref a) (.num z)|place {a:zW} {x:Str}:H a=some (.tup [.str "place",.str x])->A7s H (.ref a) (.place x)|read {a l:zW} {x:Str} {ix:zL}:H a=some (.tup [.str "read",.str x,.ref l])->Rep H (.ref l) (oK ix)->A7s H (.ref a) (.read x ix)|sum {a:zW} {x:Str} {u:V} {b:Tm}:H a=some (.tup [.str "sum",.str x,u])->A7s H u b->A7s H (.ref a) (.sum x b)|pair {a:zW} {k:Int} {u w:V} {l r:Tm}:H a=some (.tup [.str "pair",.int k,u,w])->A7s H u l->A7s H w r->A7s H (.ref a) (.pair (wI k) l r)|guard {a:zW} {x:Str} {lo hi:Int} {u w:V} {l r:Tm}:H a=some (.tup [.str "guard",.str x,.int lo,.int hi,u,w])->A7s H u l->A7s H w r->A7s H (.ref a) (.guard x lo hi l r)
theorem A7s.ki(f:KI H H')(h:A7s H v u):A7s H' v u:=by
 have g:∀b a,H b=some (.tup a)->H' b=some (.tup a):=λb a e=>f b _ (by intro n c z;cases z) e
 induction h with
 |num e=>exact .num (g _ _ e)
 |place e=>exact .place (g _ _ e)
 |read e r=>exact .read (g _ _ e) (Rep.ki f r (HI _))
 |sum e _ i1=>exact .sum (g _ _ e) i1
 |pair e _ _ i1 i2=>exact .pair (g _ _ e) i1 i2
 |guard e _ _ i1 i2=>exact .guard (g _ _ e) i1 i2
theorem A7s.same(s:A0l H H')(h:A7s H v u):A7s H' v u:=h.ki (KI.of s)
theorem sno(h:(V.str x)=V.str y)(a:¬x=y):False:=a (V.str.inj h)
theorem kno{k:Str}{r:zM}{D:pJ}{t u:TS}(e:H p=some (.tup (.str k::r)))(h:u D Z H)(hs:Z[i]?=some (some (.ref p)):=by rfl)(n:¬k=y:=by decide):xU (wS (tOp rEq (tOp (vH K) (tP i) (tC (.int 0))) (tC (.str y)))) t u D Z H :=(pY _ hs _ _ _ _ rfl rfl (SqT.of e) (lM (j:=0) rfl) rfl _ rfl (lT (λh=>(sno h n).elim) λ_=>h))
theorem qS{k:Str}{r:zM}{D:pJ}{t u:TS}(e:H p=some (.tup (.str k::r)))(h:t D Z H)(hs:Z[i]?=some (some (.ref p)):=by rfl):xU (wS (tOp rEq (tOp (vH K) (tP i) (tC (.int 0))) (tC (.str k)))) t u D Z H :=(pY _ hs _ _ _ _ rfl rfl (SqT.of e) (lM (j:=0) rfl) rfl _ rfl (lT (λ_=>h) λh=>absurd rfl h))
theorem Cf{b:Str}(h:decide (a=b)=false):lW (((Sum.inr a:Key),v)::r) (Sum.inr b)=lW r (Sum.inr b):=qw (λz=>by injection z with z;rw[mP z]at h;cases h)
structure D7q(lk:zJ)(L:zR)(nm:zC):Prop where
 eq:lk=nm.map λy=>((Sum.inr y:Key),V.int (L y))
 nd:nm.Nodup
 few:nm.length<=8
 ok:∀y∈nm,1<=L y/\L y<=60/\y≠""/\PyData.strOk y=true
theorem xh{L:zR}{y:Str}:∀{nm:zC},y∈nm->lW (nm.map λy=>((Sum.inr y:Key),V.int (L y))) (Sum.inr y)=some (.int (L y))
 |x::r,h=>by
  by_cases e:x=y
  ·subst e;exact qx rfl
  ·rw[mi,qw (λz=>e (Sum.inr.inj z))];exact xh ((lY.mp h).resolve_left (Ne.symm e))
theorem D7q.val{a:zJ}(h:D7q a L nm)(b:y∈nm):lW a (Sum.inr y)=some (.int (L y)):=by rw[h.eq];exact xh b
abbrev AR(S:zV)(H:Hp)(kvs:zJ)(es:zB):Prop:=Paired (λ(p:Key×V)(e:Str×List Str)=>p.1=Sum.inr e.1/\∃b,p.2=.ref b/\S b/\H b=some (.lst (e.2.map V.str))) kvs es
structure Abt where
 ax:zW
 ld:zW
 ah:zW
 sh:zW
 own:Str
 tr:zW
def abK(x:Abt):zJ:=[(Sum.inr "axes",.ref x.ax),(Sum.inr "lengths",.ref x.ld),(Sum.inr "ahead",.ref x.ah),(Sum.inr "shapes",.ref x.sh),(Sum.inr "own",.str x.own),(Sum.inr "trees",.ref x.tr)]
local macro_rules | `(tactic| walk_at"ab") => `(tactic| first |exact qx rfl |(refine(Cf (by decide +kernel)).trans ?_; walk_at"ab"))
theorem J2(x:Abt):lW (abK x) (Sum.inr "axes")=some (.ref x.ax):=by unfold abK;walk_at"ab"
theorem wr(x:Abt):lW (abK x) (Sum.inr "lengths")=some (.ref x.ld):=by unfold abK;walk_at"ab"
theorem Bk(x:Abt):lW (abK x) (Sum.inr "ahead")=some (.ref x.ah):=by unfold abK;walk_at"ab"
theorem uy(x:Abt):lW (abK x) (Sum.inr "shapes")=some (.ref x.sh):=by unfold abK;walk_at"ab"
theorem AE(x:Abt):lW (abK x) (Sum.inr "own")=some (.str x.own):=by unfold abK;walk_at"ab"
theorem wd(x:Abt):lW (abK x) (Sum.inr "trees")=some (.ref x.tr):=by unfold abK;walk_at"ab"
structure D9x(L:zR)(nm:zC)(es:zB):Prop where
 nd:(es.map (·.1)).Nodup
 ax:∀e∈es,AxN nm e.2
 few:es.length<=20
 str:∀e∈es,qU e.1
structure D9w(H:Hp)(ab:zW)(x:Abt)(L:zR)(nm:zC)(ahs:zC)(es:zB):Prop where
 d:H ab=some (.dK (abK x))
 ax:H x.ax=some (.lst (nm.map V.str))
 le:∃lk,H x.ld=some (.dK lk)/\D7q lk L nm
 ah:H x.ah=some (.lst (ahs.map V.str))
 sh:∃ak,H x.sh=some (.dK ak)/\AR (λb=>b≠x.ah) H ak es
theorem D9w.ki{x:Abt}{c:zC}(h:D9w H ab x L nm c es)(k:KI H H'):D9w H' ab x L nm c es:=by obtain⟨d,a,⟨f,i,g⟩,b,⟨p,e,n⟩⟩:=h;exact⟨k.dk d,k.str a,(cb f (k.dk i) g),k.str b,(cb p (k.dk e) (Paired.mapP n (by rintro _ _ ⟨j,b,l,o,m⟩;exact mW j b l o (k.str m))))⟩
theorem D9w.get{x:Abt}{a:zC}(h:D9w H ab x L nm a es){k:Str}(e:lW (abK x) (Sum.inr k)=some v):A8f H ab (.str k) (some v):=.inl (dV _ (Sum.inr k) (.inl h.d) rfl e.symm)
theorem yu{S:zV}{H:Hp}:∀{d:zJ}{es:zB},AR S H d es->(es.map (·.1)).Nodup->∀{e:Str×List Str},e∈es->∃b,lW d (Sum.inr e.1)=some (.ref b)/\S b/\H b=some (.lst (e.2.map V.str))
 |_,_,.nil,_,_,h=>by cases h
 |_,_,@Paired.cons _ _ _ p q ps qs r t,nd,e,h=>by
  obtain⟨a,b,g,f,i⟩:=r;rw[mi,tK]at nd;rcases lY.mp h with rfl|h
  ·exact fx b (by rw[<-g];exact qx a) f i
  ·obtain⟨c,j,k⟩:=yu t nd.2 h;exact cb c (by rw[qw (λz=>nd.1 (by rw[Sum.inr.inj (a.symm.trans z)];exact List.mem_map_of_mem h))];exact j) k
theorem BD:∀(n:Nat)(ls c:zI),ls.length=n->Within c ls->c∈nB ls
 |0,ls,c,hn,w=>by have a:ls=[]:=List.eq_nil_of_length_eq_zero hn;subst a;have b:c=[]:=List.eq_nil_of_length_eq_zero w.1;subst b;exact mn.mpr rfl
 |n+1,ls,c,hn,w=>by
  obtain⟨r,m,rfl⟩:∃r m,ls=r++[m]:=⟨ls.dropLast,ls.getLast (by intro z;rw[z]at hn;cases hn),(List.dropLast_concat_getLast _).symm⟩;have e:=w.1;rw[mx,ui]at e hn;obtain⟨d,x,rfl⟩:∃d x,c=d++[x]:=⟨c.dropLast,c.getLast (by intro z;rw[z]at e;cases e),(List.dropLast_concat_getLast _).symm⟩;rw[mx,ui]at e;have f:d.length=r.length:=by lia
  have i:Within d r:=⟨f,λk y l a b=>w.2 k y l (by rw[rF (ml.mp a).1];exact a) (by rw[rF (ml.mp b).1];exact b)⟩;have g:=BD n r d (by lia) i;have h:=w.2 d.length x m (by rw[rf (fy _),Nat.sub_self];rfl) (by rw[f,rf (fy _),Nat.sub_self];rfl);rw[yW];unfold pq;refine List.mem_flatMap.mpr (cb d g (pd.mpr (cb x.toNat (List.mem_range.mpr (by lia)) ?_)));rw[Int.toNat_of_nonneg h.1]
def wkM(L:zR):Tm->Int|.sum x b=>1+L x*wkM L b|.pair _ l r=>1+wkM L l+wkM L r|.guard _ _ _ l r=>1+wkM L l+wkM L r|_=>1
theorem so{L:zR}{nm:zC}(h:∀y∈nm,1<=L y):∀u:Tm,Axs nm u->1<=wkM L u
 |.num _,_=>Int.le_refl _
 |.place _,_=>Int.le_refl _
 |.read _ _,_=>Int.le_refl _
 |.sum x b,a=>by
  have c:=so h b a.2;have d:=h x a.1;have:0<=L x*wkM L b:=Int.mul_nonneg (by lia) (by lia);show 1<=1+L x*wkM L b
  lia
 |.pair _ l r,a=>by
  have c:=so h l a.1;have d:=so h r a.2;show 1<=1+wkM L l+wkM L r
  lia
 |.guard _ _ _ l r,a=>by
  have c:=so h l a.2.1;have d:=so h r a.2.2;show 1<=1+wkM L l+wkM L r
  lia
theorem uQ{L:zR}{nm:zC}(h:∀y∈nm,1<=L y):∀(u:Tm),Axs nm u->∀f,((rd L u f).length:Int)<=wkM L u
 |.num _,_,_=>by show(0:Int)<=1;decide
 |.place _,_,_=>by show(0:Int)<=1;decide
 |.read _ _,_,_=>by show(1:Int)<=1;decide
 |.sum x b,a,f=>by
  have g:=h x a.1;have j:=so h b a.2
  have c:((rd L (.sum x b) f).length:Int)<=((L x).toNat:Int)*wkM L b:=by
   show((((List.range (L x).toNat).flatMap λ(k:Nat)=>rd L b (qd f x (k:Int)))).length:Int)<=_;generalize (L x).toNat=m
   induction m with
   |zero=>simp
   |succ m ih=>
    rw[List.range_succ,List.flatMap_append,List.flatMap_singleton,mx];have d:=uQ h b a.2 (qd f x (m:Int));have e:((m+1:Nat):Int)*wkM L b=(m:Int)*wkM L b+wkM L b:=by push_cast;rw[Int.add_mul,Int.one_mul]
    rw[e]
    push_cast
    lia
  rw[Int.toNat_of_nonneg (by lia)]at c;show _<=1+L x*wkM L b
  lia
 |.pair _ l r,a,f=>by
  have d:=uQ h l a.1 f;have g:=uQ h r a.2 f;show((rd L l f++rd L r f).length:Int)<=1+wkM L l+wkM L r;rw[mx]
  push_cast
  lia
 |.guard x lo hi l r,a,f=>by have d:=uQ h l a.2.1 f;have g:=uQ h r a.2.2 f;have i:=so h l a.2.1;have n:=so h r a.2.2;show((if lo<=f x/\f x<hi then rd L l f else rd L r f).length:Int)<=1+wkM L l+wkM L r;split<;>lia
def Ka(n:Nat):Sp:=λc H Q _=>∃(v:V)(d:zW)(u:Tm)(a:zJ)(L:zR)(b:zC),c=[v,.ref d]/\A7s H v u/\dep u<=n/\Axs b u/\H d=some (.dK a)/\D7q a L b/\Q (.int (wkM L u)) H
theorem EZ(T:Txt K mg t):∀n:Nat,A3i P w K mg base nj n t.jc t.ja Aq (Ka n)
 |0=>A3i.none (by (rintro G H Q E z;refine nN z ?_;clear z;rintro v d u m L ⟨o,_,_,h,_⟩);have:=vW u;lia)
 |n+1=>by
  have Ga2:=EZ T n;refine T.bN.F.ok L9 λ_ A _ s H _ Q E p h=>?_
  ·refine rD h ?_;clear h;rintro v d u m L o rfl C y i q ⟨c,k⟩;have B:=qW p;refine rsq (dh (lN (pkd 0) (ef (hB (eB oM ew (eB wT (mj B (pv 1) (pit 0)) (pcl Ga2 p T.bN (ad (pit 0) (eg 1))))))) ⟨hC⟩) (dh (lN (pkd 0) (ef (hB (eB oM (eB oM ew (pcl Ga2 p T.bN (ad (pit 0) (eg 1)))) (pcl Ga2 p T.bN (ad (pit 0) (eg 1)))))) ⟨hC⟩) (dh (lN (pkd 0) (ef (hB (eB oM (eB oM ew (pcl Ga2 p T.bN (ad (pit 0) (eg 1)))) (pcl Ga2 p T.bN (ad (pit 0) (eg 1)))))) ⟨hC⟩) (ef (hB ew))))) ?_
   cases C with
   |num e=>refine kno e ?_;refine kno e ?_;exact kno e k
   |place e=>refine kno e ?_;refine kno e ?_;exact kno e k
   |read e r=>refine kno e ?_;refine kno e ?_;exact kno e k
   |@sum _ x u b e o1=>refine qS e ?_;have f:=y;simp only [dep]at f;have g:=A8f.k (H:=H) (a:=d) (k:=Sum.inr x) q;rw[c.val i.1]at g;have D:=c.ok x i.1;exact cb _ rfl (nC _ rfl _ _ _ _ rfl rfl (SqT.of e) (nE (lM (j:=1) rfl) d _ rfl g (nC _ rfl _ _ _ _ rfl rfl (SqT.of e) (kB (lM (j:=2) rfl) _ rfl (oZ u d b m L o rfl o1 (by lia) i.2 q c (dV _ _ rfl rfl (nE (.inl ⟨by lia,by lia⟩) _ _ rfl rfl k)))))))
   |@pair _ _ u w' l r e o1 o2=>refine kno e ?_;refine qS e ?_;have f:=y;simp only [dep]at f;exact nC _ rfl _ _ _ _ rfl rfl (SqT.of e) (kB (lM (j:=2) rfl) _ rfl (oZ u d l m L o rfl o1 (by lia) i.1 q c (dV _ _ rfl rfl (nC _ rfl _ _ _ _ rfl rfl (SqT.of e) (kB (lM (j:=3) rfl) _ rfl (oZ w' d r m L o rfl o2 (by lia) i.2 q c (dV _ _ rfl rfl k)))))))
   |@guard _ _ _ _ u w' l r e o1 o2=>refine kno e ?_;refine kno e ?_;refine qS e ?_;have f:=y;simp only [dep]at f;exact nC _ rfl _ _ _ _ rfl rfl (SqT.of e) (kB (lM (j:=4) rfl) _ rfl (oZ u d l m L o rfl o1 (by lia) i.2.1 q c (dV _ _ rfl rfl (nC _ rfl _ _ _ _ rfl rfl (SqT.of e) (kB (lM (j:=5) rfl) _ rfl (oZ w' d r m L o rfl o2 (by lia) i.2.2 q c (dV _ _ rfl rfl k)))))))
def IK(A:Adr)(n:Nat):Sp:=λd H Q _=>∃(v:V)(u:Tm),d=[v]/\A7s H v u/\dep u<=n/\uJ u/\∀(c:V)(a:Hp),A0l H a->Ob A (lU (λb=>H b=none) a) c u->Q c a
theorem Fe(T:Txt K mg t):∀n:Nat,A3i P w K mg base nj (n+6) t.jk t.iZ ["_law_tree"] (IK t n)
 |0=>A3i.none (by (refine λvs H Q E zz=>lS zz λv u _ _ h _=>?_;clear zz);have:=vW u;lia)
 |n+1=>by
  have Ga3:=Fe T n;refine T.bG.F.ok BB λ_ A _ s H _ Q E m h=>?_
  ·refine lS h ?_;clear h;rintro v u rfl tr W ⟨G,k⟩;refine rsq (dh (lN (pkd 0) (ef (hB (pmk T.jS (OH T) m T.kh T.bU.b (ad (pit 0) dt)))) ⟨hC⟩) (dh (lN (pkd 0) (ef (hB (pmk T.kE (Oe T) m T.jP T.cA.b (ad (pit 0) dt)))) ⟨hC⟩) (dh (lN (pkd 0) (ef (hB (pmk T.kT (N9 T) m T.jw T.cI.b (ad (pit 0) (ad (qN vz (by rfl) T.b_ tF (ad (pit 0) dt)) dt))))) ⟨hC⟩) (dh (lN (pkd 0) (ef (hB (pmk T.lh (Nz T) m T.jM T.dG.b (ad (pit 0) (ad (pcl Ga3 m T.bG (ad (pit 0) dt)) dt))))) ⟨hC⟩) (dh (lN (pkd 0) (ef (hB (pmk T.ka (Om T) m T.iQ T.cf.b (ad (pit 0) (ad (pit 0) (ad (pit 0) (ad (pcl Ga3 m T.bG (ad (pit 0) dt)) (ad (pcl Ga3 m T.bG (ad (pit 0) dt)) dt)))))))) ⟨hC⟩) (dh (hK 1 BB.nd (pcl Ga3 m T.bG (ad (pit 0) dt))) (dh (hK 2 BB.nd (pcl Ga3 m T.bG (ad (pit 0) dt))) (dh (lN (lZ nQ (pit 0) ew) (ef (hB (pmk T.kR (BN T) m T.kX T.bo.b (ad (pv 1) (eg 2))))) ⟨hC⟩) (dh (lN (lZ nQ (pit 0) ew) (ef (hB (pmk T.kI (BN T) m T.kP T.bo.b (ad (pv 1) (eg 2))))) ⟨hC⟩) (ef (hB (pmk T.kG (BN T) m T.kO T.bo.b (ad (pv 1) (eg 2)))))))))))))) ?_
   cases tr with
   |num e=>refine qS e ?_;refine ng _ rfl _ _ _ _ rfl rfl (SqT.of e) (lM (j:=1) rfl) λx d f c g=>(og x _ d _ rfl cp T.bF T.fe rfl ?_);exact k _ _ (tw f c) (.num (mq f cp))
   |place e=>refine kno e ?_;refine qS e ?_;refine ng _ rfl _ _ _ _ rfl rfl (SqT.of e) (lM (j:=1) rfl) λx d f c g=>(og x _ d _ rfl cp T.bJ T.du rfl ?_);exact k _ _ (tw f c) (.place (mq f cp))
   |@read _ l arr ix e r=>
    refine kno e ?_;refine kno e ?_;refine qS e ?_;have G:ix.length<=3:=G.2.1
    cases r with
    |@lst _ iv _ hl ri=>
    refine ng _ rfl _ _ _ _ rfl rfl (SqT.of e) (lM (j:=1) rfl) (nC _ rfl _ _ _ _ rfl rfl (SqT.of e) (nE (lM (j:=2) rfl) l _ rfl (.inl (SqL.of hl)) λO U x d f c g=>?_));have y:A0l H (upd H O (.lst iv)):=ed U;have C:upd H O (.lst iv) O=some (.lst iv):=cp;generalize upd H O (.lst iv)=G1 at y C f c⊢;have B:A0l G1 (upd (upd G1 d (.own x)) x (.ins t.aa d [])):=mu (ed c) f;have N:upd (upd G1 d (.own x)) x (.ins t.aa d []) x=some (.ins t.aa d []):=cp;generalize upd (upd G1 d (.own x)) x (.ins t.aa d [])=G2 at B N⊢;refine⟨x,(nD d O arr ix rfl N (.lst (B _ _ C) (ri.same (y.trans B))) (by lia) λl' G3 X Z Y=>⟨rfl,?_⟩)⟩;have v3:A0l G1 G3:=λb o e=>Y b o (lO e f) (B _ _ e);exact k (.ref x) G3 (y.trans v3) (.read (mq (y.free f) X) (Z.same (uc (A0l.refl _) λa o _ h=>(y.trans B).free h)))
   |@sum _ x u b e o1=>refine kno e ?_;refine kno e ?_;refine kno e ?_;refine qS e ?_;have p:=W;simp only [dep]at p;refine ng _ rfl _ _ _ _ rfl rfl (SqT.of e) (lM (j:=1) rfl) (ng _ rfl _ _ _ _ rfl rfl (SqT.of e) (lM (j:=2) rfl) (mJ u b rfl o1 (by lia) G.2 λy H1 i q=>λx d f c g=>(nL x _ d _ _ rfl cp T.bK T.bR T.cY ⟨rfl,?_⟩)));exact k (.ref x) _ (i.trans (tw f c)) (.sum (mq (i.free f) cp) (q.imp (mZ (S:=λb=>H b=none) (tw f c))))
   |@pair _ kk u w' l r e o1 o2=>
    refine kno e ?_;refine kno e ?_;refine kno e ?_;refine kno e ?_;refine kno e ?_;have p:=W;simp only [dep]at p;refine ng _ rfl _ _ _ _ rfl rfl (SqT.of e) (lM (j:=2) rfl) (mJ u l rfl o1 (by lia) G.1 λy H1 i q=>?_);refine ng _ rfl _ _ _ _ rfl rfl (SqT.of (i _ _ e)) (lM (j:=3) rfl) (mJ w' r rfl (o2.same i) (by lia) G.2 λB R D J=>?_);have e2:=(i.trans D) _ _ e
    have I:∀(o:Op3)(x d:zW),wI kk=o->R x=none->R d=none->Q (.ref x) (upd (upd (upd R d (.own x)) x (.ins (qL t o) d [])) x (.ins (qL t o) d [("left",y),("right",B)])):=by intro o x d eo f c;subst eo;exact k (.ref x) _ (i.trans (D.trans (tw f c))) (.pair (mq ((i.trans D).free f) cp) (q.imp (mZ (S:=λb=>H b=none) (D.trans (tw f c)))) (J.imp (uc (tw f c) λa o _ h=>i.free h)))
    refine pY _ rfl _ _ _ _ rfl rfl (SqT.of e2) (lM (j:=1) rfl) rfl _ rfl (lT (λL=>?_) (λL=>?_))
    ·exact mE _ rfl _ rfl λx d f c g=>(nL x _ d _ _ rfl cp (vR T .plus) (ya T .plus) (yb T .plus) ⟨rfl,I .plus x d (eH (V.int.inj L)) f c⟩)
    have L:¬kk=0:=λz=>L (by rw[z]);refine pY _ rfl _ _ _ _ rfl rfl (SqT.of e2) (lM (j:=1) rfl) rfl _ rfl (lT (λM=>?_) (λM=>?_))
    ·exact mE _ rfl _ rfl λx d f c g=>(nL x _ d _ _ rfl cp (vR T .minus) (ya T .minus) (yb T .minus) ⟨rfl,I .minus x d ((fa L).trans (eH (V.int.inj M))) f c⟩)
    have M:¬kk=1:=λz=>M (by rw[z]);exact mE _ rfl _ rfl λx d f c g=>(nL x _ d _ _ rfl cp (vR T .times) (ya T .times) (yb T .times) ⟨rfl,I .times x d ((fa L).trans (fa M)) f c⟩)
   |@guard _ _ _ _ u w' l r e o1 o2=>refine kno e ?_;refine kno e ?_;refine kno e ?_;refine kno e ?_;refine qS e ?_;have p:=W;simp only [dep]at p;refine ng _ rfl _ _ _ _ rfl rfl (SqT.of e) (lM (j:=1) rfl) (ng _ rfl _ _ _ _ rfl rfl (SqT.of e) (lM (j:=2) rfl) (ng _ rfl _ _ _ _ rfl rfl (SqT.of e) (lM (j:=3) rfl) (ng _ rfl _ _ _ _ rfl rfl (SqT.of e) (lM (j:=4) rfl) (mJ u l rfl o1 (by lia) G.2.2.2.1 λy H1 i q=>?_))));refine ng _ rfl _ _ _ _ rfl rfl (SqT.of (i _ _ e)) (lM (j:=5) rfl) (mJ w' r rfl (o2.same i) (by lia) G.2.2.2.2 λB R D J=>λx d f c g=>(qB x d _ ⟨_,(mh _ _ _ rfl cp rfl ?_)⟩));exact k (.ref x) _ (i.trans (D.trans (tw f c))) (.guard (mq ((i.trans D).free f) cp) (q.imp (mZ (S:=λb=>H b=none) (D.trans (tw f c)))) (J.imp (uc (tw f c) λa o _ h=>i.free h)))
def B1x(nm:zC)(es:zB)(own:Str):zC->Bool->Bool->Tm->Prop|_,_,_,.num z=>Sm z|bs,_,_,.place x=>x∈bs|bs,tp,_,.read a ix=>(∃c,(a,c)∈es/\ix.length=c.length)/\(a=own->tp=true)/\∀e∈ix,Sm e.2/\(¬e.1=""->e.1∈bs)|bs,tp,st,.sum x b=>x∈nm/\x∉bs/\B1x nm es own (bs++[x]) (tp&&st) st b|bs,tp,_,.pair _ l r=>B1x nm es own bs tp false l/\B1x nm es own bs tp false r|bs,tp,_,.guard x lo hi l r=>x∈bs/\Sm lo/\Sm hi/\B1x nm es own bs tp false l/\B1x nm es own bs tp false r
def zt(tp st:Bool)(n m:Nat)(k:Nat):Prop:=(st=true->n+m=k)/\(st=false->tp=true->n=k)
theorem yj(b:(es.map (·.1)).Nodup)(h:(a,zs)∈es):shp es a=some zs:=by
 unfold shp
 induction es with
 |nil=>cases h
 |cons e es ih=>
  rw[mi,tK]at b;rw[sO];rcases lY.mp h with rfl|h
  ·rw[mP rfl];rfl
  ·rw[mT (λz=>b.1 (by rw[z];exact pd.mpr (cb _ h rfl)))];exact ih b.2 h
theorem vS{nm:zC}{es:zB}{own:Str}{oy:zC}{nt:Nat}(i:(es.map (·.1)).Nodup):∀(u:Tm)(c:zC)(gg:List Gd)(tp st:Bool),B1x nm es own (oy++c) tp st u->zt tp st c.length (oB u).length nt->∀q∈prT u c gg,pOk nm es own oy nt q=none
 |.num _,c,gg,_,_,_,_,q,d=>by rw[mn.mp d];rfl
 |.place x,c,gg,_,_,h,_,q,d=>by rw[mn.mp d];exact eH (show x∈oy++c from h)
 |.read a ix,c,gg,tp,st,h,ht,q,d=>by
  rw[mn.mp d];obtain⟨⟨v,k,t⟩,p,s⟩:=h
  have A:ixB (oy++c) ix=true:=by
   unfold ixB;rw[List.all_eq_true];intro e C;rw[Bool.or_eq_true,decide_eq_true_eq,decide_eq_true_eq];by_cases z:e.1=""
   ·exact .inl z
   ·exact .inr ((s e C).2 z)
  have y:rY es (oy++c) a ix=none:=by unfold rY;rw[yj i k];show(if ix.length≠v.length then some false else if ixB (oy++c) ix=true then none else some false)=none;rw[fa (λz=>z t),eH A]
  show(match rY es (oy++c) a ix with|some b=>some b|none=>if a=own/\nt<c.length then some false else none)=none
  rw[y];show(if a=own/\nt<c.length then some false else none)=none;refine fa λz=>?_;have n:=p z.1;have D:=z.2;obtain⟨g,j⟩:=ht;have m:(oB (.read a ix)).length=0:=rfl
  cases st with
  |true=>have:=g rfl;lia
  |false=>have:=j rfl n;lia
 |.sum x b,c,gg,tp,st,h,ht,q,d=>by
  obtain⟨k,t,p⟩:=h;rcases lY.mp d with rfl|d
  ·show(if x∈nm then (if x∈oy++c then some false else none)else some false)=none;rw[eH k,fa t]
  ·refine vS i b (c++[x]) gg (tp&&st) st (by rw[<-pj];exact p) ?_ q d;obtain⟨g,j⟩:=ht;have m:(oB (.sum x b)).length=(oB b).length+1:=rfl;refine⟨λz=>?_,λz w=>?_⟩
   ·have:=g z;rw[mx,ui]
    lia
   ·rw[z,Bool.and_false]at w;cases w
 |.pair o l r,c,gg,tp,st,h,ht,q,d=>by
  have f:∀b:Tm,zt tp false c.length (oB b).length nt:=λb=>⟨(λz=>by cases z),λ_ w=>by
   obtain⟨g,j⟩:=ht;have m:(oB (.pair o l r)).length=0:=rfl
   cases st with
   |true=>have:=g rfl;lia
   |false=>exact j rfl w⟩
  rcases lY.mp d with rfl|d
  ·rfl
  ·rcases mX.mp d with d|d
   ·exact vS i l c gg tp false h.1 (f l) q d
   ·exact vS i r c gg tp false h.2 (f r) q d
 |.guard x lo hi l r,c,gg,tp,st,h,ht,q,d=>by
  refine mM h λk _ _ s B=>?_;clear h
  have f:∀b:Tm,zt tp false c.length (oB b).length nt:=λb=>⟨(λz=>by cases z),λ_ w=>by
   obtain⟨g,j⟩:=ht;have m:(oB (.guard x lo hi l r)).length=0:=rfl
   cases st with
   |true=>have:=g rfl;lia
   |false=>exact j rfl w⟩
  rcases lY.mp d with rfl|d
  ·show(if x∈oy++c then none else some false)=none;rw[eH k]
  ·rcases mX.mp d with d|d
   ·exact vS i l c _ tp false s (f l) q d
   ·exact vS i r c _ tp false B (f r) q d
structure xJ(nm:zC)(es:zB)(bs:zC)(gg:List Gd)(q:Pq)(ss:zC):Prop where
 sb:∃more,q.2.1=ss++more/\(∀x∈more,x∈nm)
 nd:(bs.drop 0++q.2.1.drop ss.length).Nodup
 gd:∀g∈q.2.2,g∈gg\/g.1∈bs++q.2.1.drop ss.length
 rd:∀a ix,q.1=.read a ix->(∃zs,(a,zs)∈es/\ix.length=zs.length)/\∀e∈ix,¬e.1=""->e.1∈bs++q.2.1.drop ss.length
theorem sw{nm:zC}{es:zB}{own:Str}:∀(u:Tm)(bs ss:zC)(gg:List Gd)(tp st:Bool),bs.Nodup->B1x nm es own bs tp st u->∀q∈prT u ss gg,xJ nm es bs gg q ss
 |.num z,bs,ss,gg,_,_,nb,_,q,c=>by rw[mn.mp c];exact⟨(cb [] (by simp) (by simp)),by simpa using nb,λg d=>.inl d,λa f z=>by cases z⟩
 |.place x,bs,ss,gg,_,_,nb,_,q,c=>by rw[mn.mp c];exact⟨(cb [] (by simp) (by simp)),by simpa using nb,λg d=>.inl d,λa f z=>by cases z⟩
 |.read a0 ix0,bs,ss,gg,_,_,nb,h,q,c=>by rw[mn.mp c];refine⟨(cb [] (by simp) (by simp)),by simpa using nb,λg d=>.inl d,λa f z=>?_⟩;cases z;exact⟨h.1,λe s z=>by simpa using (h.2.2 e s).2 z⟩
 |.sum x b,bs,ss,gg,tp,st,nb,h,q,c=>by
  obtain⟨j,J,C⟩:=h;rcases lY.mp c with rfl|c
  ·exact⟨(cb [] (by simp) (by simp)),by simpa using nb,λg d=>.inl d,λa f z=>by cases z⟩
  ·have k:(bs++[x]).Nodup:=by
    rw[qp];exact fI nb (by simp) λy m z B e=>J (by rw[<-mn.mp B,<-e];exact m)
   obtain⟨⟨i,v,G⟩,D,F,K⟩:=sw b (bs++[x]) (ss++[x]) gg (tp&&st) st k C q c
   have p:q.2.1.drop ss.length=x::q.2.1.drop (ss++[x]).length:=by rw[v,pj,List.drop_left,<-pj,List.drop_left];rfl
   refine⟨(cb (x::i) (by rw[v];simp) λy m=>(lY.mp m).elim (λz=>by rw[z];exact j) (G y)),?_,λg d=>?_,λa f z=>?_⟩
   ·rw[p];simpa using D
   ·rw[p];rcases F g d with z|z
    ·exact .inl z
    ·exact .inr (by simpa using z)
   ·rw[p];obtain⟨t,n⟩:=K a f z;exact⟨t,λe s w=>by simpa using n e s w⟩
 |.pair o l r,bs,ss,gg,tp,st,nb,h,q,c=>by
  rcases lY.mp c with rfl|c
  ·exact⟨(cb [] (by simp) (by simp)),by simpa using nb,λg d=>.inl d,λa f z=>by cases z⟩
  ·rcases mX.mp c with c|c
   ·exact sw l bs ss gg tp false nb h.1 q c
   ·exact sw r bs ss gg tp false nb h.2 q c
 |.guard x lo hi l r,bs,ss,gg,tp,st,nb,h,q,c=>by
  refine mM h λj _ _ H L=>?_;clear h
  have A:∀{b:Bool},xJ nm es bs (gg++[(x,lo,hi,b)]) q ss->xJ nm es bs gg q ss:=λ{b} ⟨t,n,M,I⟩=>⟨t,n,λg d=>by
   rcases M g d with z|z
   ·rcases mX.mp z with z|z
    ·exact .inl z
    ·rw[mn.mp z];exact .inr (qk _ j)
   ·exact .inr z,I⟩
  rcases lY.mp c with rfl|c
  ·exact⟨(cb [] (by simp) (by simp)),by simpa using nb,λg d=>.inl d,λa f z=>by cases z⟩
  ·rcases mX.mp c with c|c
   ·exact A (sw l bs ss _ tp false nb H q c)
   ·exact A (sw r bs ss _ tp false nb L q c)
theorem vq{L:zR}{oy:zC}:∀(u:Tm)(a:zC)(gg:List Gd),((prT u a gg).map λq=>prd L (oy++q.2.1)).sum=prd L (oy++a)*wkM L u|.num _,a,gg=>by simp[prT,wkM]|.place _,a,gg=>by simp[prT,wkM]|.read _ _,a,gg=>by simp[prT,wkM]|.sum x b,a,gg=>by have e:=vq (L:=L) (oy:=oy) b (a++[x]) gg;rw[<-pj,yH]at e;simp only [prT,mi,List.sum_cons,e,wkM];rw[Int.mul_add,Int.mul_one,Int.mul_assoc]|.pair _ l r,a,gg=>by simp only [prT,mi,List.sum_cons,lR,List.sum_append,vq l a gg,vq r a gg,wkM];rw[Int.mul_add,Int.mul_add,Int.mul_one,Int.add_assoc]|.guard x lo hi l r,a,gg=>by simp only [prT,mi,List.sum_cons,lR,List.sum_append,vq l a _,vq r a _,wkM];rw[Int.mul_add,Int.mul_add,Int.mul_one,Int.add_assoc]
abbrev fE(ys:zC)(c:zI):zR:=ai (py ys c)
theorem El{k:Int}(h:c.length=ys.length):py (ys++[x]) (c++[k])=my (py ys c) (Sum.inr x) (.int k):=by unfold py;rw[lR,lR,List.zip_append (by rw[dm,dm,h])];unfold mo;rw[List.foldl_append];rfl
theorem AT{k:Int}(h:c.length=ys.length):fE (ys++[x]) (c++[k])=qd (fE ys c) x k:=by unfold fE;rw[El h,yo]
theorem K6{p:List α->Prop}(a:p [])(h1:∀l x,p l->p (l++[x]))(l:List α):p l:=by
 generalize hn:l.length=n
 induction n generalizing l with
 |zero=>rw[List.eq_nil_of_length_eq_zero hn];exact a
 |succ n ih=>have e:l=l.dropLast++[l.getLast (by intro z;rw[z]at hn;cases hn)]:=(List.dropLast_concat_getLast _).symm;rw[e];exact h1 _ _ (ih _ (by rw[List.length_dropLast];lia))
theorem At(h:c.length=ys.length)(g:y∈ys):∀(more:zC)(d:zI),d.length=more.length->(ys++more).Nodup->fE (ys++more) (c++d) y=fE ys c y:=by
 refine K6 ?_ ?_
 ·intro d a _;rw[List.eq_nil_of_length_eq_zero a,ox,ox]
 ·intro more x f d a b;obtain⟨d,k,rfl⟩:∃e k,d=e++[k]:=⟨d.dropLast,d.getLast (by intro z;rw[z]at a;simp at a),(List.dropLast_concat_getLast _).symm⟩;rw[mx,mx,ui,ui]at a;rw[<-pj]at b⊢;rw[<-pj]
  have i:y≠x:=λe=>by rw[qp]at b;exact b.2.2 y (qk _ g) x (by simp) e
  rw[AT (by rw[mx,mx];lia)];unfold qd;rw[fa i];exact f d (by lia) (qp.mp b).1
theorem Je(h:c.length=ys.length)(f:∀g∈gg,g.1∈ys)(b:d.length=more.length)(i:(ys++more).Nodup):gg.all (inG (fE (ys++more) (c++d)))=gg.all (inG (fE ys c)):=by
 rw[Bool.eq_iff_iff,List.all_eq_true,List.all_eq_true]
 have e:∀g∈gg,inG (fE (ys++more) (c++d)) g=inG (fE ys c) g:=λg a=>by unfold inG;rw[At h (f g a) more d b i]
 exact⟨λk g a=>by rw[<-e g a];exact k g a,λk g a=>by rw[e g a];exact k g a⟩
theorem vk:∀(u:Tm)(c:zC)(gg:List Gd),∀q∈prT u c gg,∀g∈gg,g∈q.2.2
 |.num _,c,gg,q,a,g,hg=>by rw[mn.mp a];exact hg
 |.place _,c,gg,q,a,g,hg=>by rw[mn.mp a];exact hg
 |.read _ _,c,gg,q,a,g,hg=>by rw[mn.mp a];exact hg
 |.sum x b,c,gg,q,a,g,hg=>by
  rcases lY.mp a with rfl|a
  ·exact hg
  ·exact vk b _ gg q a g hg
 |.pair _ l r,c,gg,q,a,g,hg=>by
  rcases lY.mp a with rfl|a
  ·exact hg
  ·rcases mX.mp a with a|a
   ·exact vk l _ gg q a g hg
   ·exact vk r _ gg q a g hg
 |.guard x lo hi l r,c,gg,q,a,g,hg=>by
  rcases lY.mp a with rfl|a
  ·exact hg
  ·rcases mX.mp a with a|a
   ·exact vk l _ _ q a g (qk _ hg)
   ·exact vk r _ _ q a g (qk _ hg)
structure Rch(L:zR)(ys:zC)(c:zI)(n:Nat)(q:Pq)(d:zI):Prop where
 w:Within d ((q.2.1.drop n).map L)
 g:q.2.2.all (inG (fE (ys++q.2.1.drop n) (c++d)))=true
theorem NJ{k n:Int}{ls:zI}(h:0<=k/\k<n)(w:Within d ls):Within (k::d) (n::ls):=⟨by rw[nG,nG,w.1],λj x m b a=>by
 cases j with
 |zero=>cases b;cases a;exact h
 |succ j=>exact w.2 j x m b a⟩
theorem F8{ls:zI}{n:Int}(w:Within d (n::ls)):∃k r,d=k::r/\(0<=k/\k<n)/\Within r ls:=by
 cases d with
 |nil=>have:=w.1;simp at this
 |cons k r=>exact lQ k r rfl (w.2 0 k n rfl rfl) (by have:=w.1;simpa using this) λj x m b a=>w.2 (j+1) x m b a
theorem vo{L:zR}{nm:zC}{es:zB}{own:Str}:∀(u:Tm)(ys i:zC)(gg:List Gd)(tp st:Bool)(c:zI),ys.Nodup->B1x nm es own ys tp st u->c.length=ys.length->(∀g∈gg,g.1∈ys)->gg.all (inG (fE ys c))=true->
  ∀r:Str×List Int,r∈rd L u (fE ys c)↔∃q∈prT u i gg,∃a ix d,q.1=.read a ix/\Rch L ys c i.length q d/\r=(a,oP (fE (ys++q.2.1.drop i.length) (c++d)) ix)
 |.num _,ys,i,gg,_,_,c,nd,h,hc,hg,ha,r=>⟨(λz=>by cases z),(by (rintro n;refine qa n ?_;clear n;rintro q f a ix d ⟨e,_⟩);rw[mn.mp f]at e;cases e)⟩
 |.place _,ys,i,gg,_,_,c,nd,h,hc,hg,ha,r=>⟨(λz=>by cases z),(by (rintro n;refine qa n ?_;clear n;rintro q f a ix d ⟨e,_⟩);rw[mn.mp f]at e;cases e)⟩
 |.read a0 ix0,ys,i,gg,_,_,c,nd,h,hc,hg,ha,r=>by
  constructor
  ·intro A;have A:r=(a0,oP (fE ys c) ix0):=mn.mp A;refine cb _ (.head _) (nM a0 ix0 [] rfl ⟨?_,?_⟩ ?_)
   ·rw[sN];exact⟨rfl,λj x m p _=>by simp at p⟩
   ·rw[sN,ox,ox];exact ha
   ·rw[sN,ox,ox];exact A
  ·rintro n;refine qa n ?_;clear n;rintro q f a ix d ⟨e,⟨w,g⟩,rfl⟩;rw[mn.mp f]at e w g⊢;cases e;rw[sN]at w⊢;have T:d=[]:=List.eq_nil_of_length_eq_zero w.1;subst T;rw[ox,ox];exact .head _
 |.sum x b,ys,i,gg,tp,st,c,nd,h,hc,hg,ha,r=>by
  obtain⟨G,W,I⟩:=h
  have s:(ys++[x]).Nodup:=by rw[qp];exact fI nd (by simp) λy P z O e=>W (by rw[<-mn.mp O,<-e];exact P)
  have B:∀(k:Int)(r:Str×List Int),r∈rd L b (qd (fE ys c) x k)↔∃q∈prT b (i++[x]) gg,∃a ix d,q.1=.read a ix/\Rch L (ys++[x]) (c++[k]) (i++[x]).length q d/\r=(a,oP (fE (ys++[x]++q.2.1.drop (i++[x]).length) (c++[k]++d)) ix):=λk r=>by have:=vo (L:=L) b (ys++[x]) (i++[x]) gg (tp&&st) st (c++[k]) s I (by simp[hc]) (λg H=>qk _ (hg g H)) (by rw[Je hc hg (more:=[x]) (d:=[k]) rfl s];exact ha) r;rw[AT hc]at this;exact this
  have J:∀q∈prT b (i++[x]) gg,q.2.1.drop i.length=x::q.2.1.drop (i++[x]).length:=λq f=>by obtain⟨⟨more,p,_⟩,_,_,_⟩:=sw b (ys++[x]) (i++[x]) gg (tp&&st) st s I q f;rw[p,pj,List.drop_left,<-pj,List.drop_left];rfl
  show r∈((List.range (L x).toNat).flatMap λ(k:Nat)=>rd L b (qd (fE ys c) x (k:Int)))↔_;rw[List.mem_flatMap];constructor
  ·rintro⟨k,D,A⟩;have D:=List.mem_range.mp D;refine qa ((B k r).mp A) ?_;rintro q f a ix d ⟨e,⟨w,g⟩,F⟩;have p:=J q f;refine cb q (.tail _ f) (nM a ix ((k:Int)::d) e ⟨?_,?_⟩ ?_)
   ·rw[p];exact NJ ⟨by lia,by lia⟩ w
   ·rw[p];simpa using g
   ·rw[p];simpa using F
  ·rintro n;refine qa n ?_;clear n;rintro q f a ix d ⟨e,⟨w,g⟩,F⟩;rcases lY.mp f with rfl|f
   ·cases e
   ·have p:=J q f;rw[p]at w g F;refine ei (F8 w) ?_;rintro k d rfl D w;refine cb k.toNat (List.mem_range.mpr (by lia)) ?_;rw[Int.toNat_of_nonneg D.1];exact(B k r).mpr (cb q f (nM a ix d e ⟨w,by simpa using g⟩ (by simpa using F)))
 |.pair o l r',ys,i,gg,tp,st,c,nd,h,hc,hg,ha,r=>by
  have R:=vo (L:=L) l ys i gg tp false c nd h.1 hc hg ha r;have S:=vo (L:=L) r' ys i gg tp false c nd h.2 hc hg ha r;show r∈rd L l (fE ys c)++rd L r' (fE ys c)↔_;rw[mX,R,S];constructor
  ·rintro(⟨q,f,z⟩|⟨q,f,z⟩)
   ·exact cb q (.tail _ (qk _ f)) z
   ·exact cb q (.tail _ (pH _ f)) z
  ·rintro n;refine qa n ?_;clear n;rintro q f a ix d ⟨e,z⟩;rcases lY.mp f with rfl|f
   ·cases e
   ·rcases mX.mp f with f|f
    ·exact .inl (nT q f a ix d ⟨e,z⟩)
    ·exact .inr (nT q f a ix d ⟨e,z⟩)
 |.guard x lo hi l r',ys,i,gg,tp,st,c,nd,h,hc,hg,ha,r=>by
  refine mM h λG _ _ M N=>?_;clear h;have C:∀b:Bool,∀g∈gg++[(x,lo,hi,b)],g.1∈ys:=λb g H=>(mX.mp H).elim (hg g) λz=>by rw[mn.mp z];exact G
  have t:∀b:Bool,decide (lo<=fE ys c x/\fE ys c x<hi)=b->(gg++[(x,lo,hi,b)]).all (inG (fE ys c))=true:=λb z=>by rw[List.all_append,ha,Bool.true_and,List.all_cons,List.all_nil,Bool.and_true];exact mP z
  have only:∀(b:Bool)(v:Tm),B1x nm es own ys tp false v->∀q∈prT v i (gg++[(x,lo,hi,b)]),∀d,Rch L ys c i.length q d->decide (lo<=fE ys c x/\fE ys c x<hi)=b:=λb v U q f d Q=>by obtain⟨w,g⟩:=Q;have X:(x,lo,hi,b)∈q.2.2:=vk v i _ q f _ (by simp);have:=List.all_eq_true.mp g _ X;have K:=(sw v ys i _ tp false nd U q f).nd;rw[ug]at K;unfold inG at this;rw[decide_eq_true_eq]at this;rw[At hc G (q.2.1.drop i.length) d (by have:=w.1;rw[dm]at this;exact this) K]at this;exact this
  show r∈(if lo<=fE ys c x/\fE ys c x<hi then rd L l (fE ys c)else rd L r' (fE ys c))↔_;by_cases hb:lo<=fE ys c x/\fE ys c x<hi
  ·rw[eH hb,vo (L:=L) l ys i (gg++[(x,lo,hi,true)]) tp false c nd M hc (C true) (t true (mP hb)) r];constructor
   ·rintro⟨q,f,z⟩;exact cb q (.tail _ (qk _ f)) z
   ·rintro n;refine qa n ?_;clear n;rintro q f a ix d ⟨e,k,z⟩;rcases lY.mp f with rfl|f
    ·cases e
    ·rcases mX.mp f with f|f
     ·exact cb q f (nM a ix d e k z)
     ·have:=only false r' N q f d k;rw[mP hb]at this;cases this
  ·rw[fa hb,vo (L:=L) r' ys i (gg++[(x,lo,hi,false)]) tp false c nd N hc (C false) (t false (mT hb)) r];constructor
   ·rintro⟨q,f,z⟩;exact cb q (.tail _ (pH _ f)) z
   ·rintro n;refine qa n ?_;clear n;rintro q f a ix d ⟨e,k,z⟩;rcases lY.mp f with rfl|f
    ·cases e
    ·rcases mX.mp f with f|f
     ·have:=only true l M q f d k;rw[mT hb]at this;cases this
     ·exact cb q f (nM a ix d e k z)
def oO(L:zR):Tm->zR->List Int->Str×List Int->Bool
 |.read a ix,f,lf,g=>decide (lf=[])&&(decide (a=g.1)&&decide (oP f ix=g.2))
 |.pair _ l r,f,lf,g=>oO L l f lf g||oO L r f lf g
 |.guard x lo hi l r,f,lf,g=>if lo<=f x/\f x<hi then oO L l f lf g else oO L r f lf g
 |.sum x b,f,lf,g=>match lf with| []=>false|k::r=>if k<0\/L x<=k then false else oO L b (qd f x k) r g
 |_,_,_,_=>false
theorem vY{L:zR}{nm:zC}{es:zB}{own:Str}:∀(u:Tm)(ys i:zC)(gg:List Gd)(tp st:Bool)(c:zI),ys.Nodup->B1x nm es own ys tp st u->c.length=ys.length->
  ∀q∈prT u i gg,∀a ix d,q.1=.read a ix->Rch L ys c i.length q d->oO L u (fE ys c) d (a,oP (fE (ys++q.2.1.drop i.length) (c++d)) ix)=true
 |.num _,ys,i,gg,_,_,c,nd,h,hc,q,f,a,ix,d,e,k=>by rw[mn.mp f]at e;cases e
 |.place _,ys,i,gg,_,_,c,nd,h,hc,q,f,a,ix,d,e,k=>by rw[mn.mp f]at e;cases e
 |.read a0 ix0,ys,i,gg,_,_,c,nd,h,hc,q,f,a,ix,d,e,⟨w,g⟩=>by rw[mn.mp f]at e w⊢;cases e;rw[sN]at w⊢;have G:d=[]:=List.eq_nil_of_length_eq_zero w.1;subst G;rw[ox,ox];unfold oO;rw[mP rfl,mP rfl,mP rfl];rfl
 |.sum x b,ys,i,gg,tp,st,c,nd,h,hc,q,f,a,ix,d,e,⟨w,g⟩=>by
  obtain⟨n,I,p⟩:=h
  have j:(ys++[x]).Nodup:=by rw[qp];exact fI nd (by simp) λy F z D e=>I (by rw[<-mn.mp D,<-e];exact F)
  rcases lY.mp f with rfl|f
  ·cases e
  ·have m:q.2.1.drop i.length=x::q.2.1.drop (i++[x]).length:=by
    obtain⟨⟨B,m,_⟩,_,_,_⟩:=sw b (ys++[x]) (i++[x]) gg (tp&&st) st j p q f;rw[m,pj,List.drop_left,<-pj,List.drop_left];rfl
   rw[m]at w g⊢;refine ei (F8 w) ?_;rintro k r rfl J w;have s:=vY (L:=L) b (ys++[x]) (i++[x]) gg (tp&&st) st (c++[k]) j p (by simp[hc]) q f a ix r e ⟨w,by simpa using g⟩;rw[AT hc]at s;show(if k<0\/L x<=k then false else oO L b (qd (fE ys c) x k) r _)=true;rw[fa (by lia)]
   simpa using s
 |.pair o l r',ys,i,gg,tp,st,c,nd,h,hc,q,f,a,ix,d,e,k=>by
  rcases lY.mp f with rfl|f
  ·cases e
  ·show(oO L l _ d _||oO L r' _ d _)=true;rw[Bool.or_eq_true];rcases mX.mp f with f|f
   ·exact .inl (vY l ys i gg tp false c nd h.1 hc q f a ix d e k)
   ·exact .inr (vY r' ys i gg tp false c nd h.2 hc q f a ix d e k)
 |.guard x lo hi l r',ys,i,gg,tp,st,c,nd,h,hc,q,f,a,ix,d,e,k=>by
  refine mM h λn _ _ A C=>?_;clear h
  have only:∀(b:Bool)(v:Tm),B1x nm es own ys tp false v->q∈prT v i (gg++[(x,lo,hi,b)])->decide (lo<=fE ys c x/\fE ys c x<hi)=b:=λb v H f=>by obtain⟨w,g⟩:=k;have:=List.all_eq_true.mp g _ (vk v i _ q f (x,lo,hi,b) (by simp));have t:=(sw v ys i _ tp false nd H q f).nd;rw[ug]at t;unfold inG at this;rw[decide_eq_true_eq]at this;rw[At hc n (q.2.1.drop i.length) d (by have:=w.1;rw[dm]at this;exact this) t]at this;exact this
  rcases lY.mp f with rfl|f
  ·cases e
  ·show(if lo<=fE ys c x/\fE ys c x<hi then oO L l _ d _ else oO L r' _ d _)=true;rcases mX.mp f with f|f
   ·rw[eH (decide_eq_true_eq.mp (only true l A f))];exact vY l ys i _ tp false c nd A hc q f a ix d e k
   ·rw[fa (of_decide_eq_false (only false r' C f))];exact vY r' ys i _ tp false c nd C hc q f a ix d e k
def tT(L:zR)(es:zB)(le:Lt):Bool:=(nB (le.2.1.map L)).all λc=>(rd L le.2.2 (fE le.2.1 c)).all λr=>inR r.2 (((shp es r.1).getD []).map L)&&(! decide (r.1=le.1)||HT.lexLt r.2 c)
theorem ME{e:zI}(h:e∈nB ((ys++more).map L)):∃c d,e=c++d/\c∈nB (ys.map L)/\Within d (more.map L):=by
 have w:=tD _ e h;rw[lR]at w;have g:=w.1;rw[mx,dm,dm]at g;refine dV (e.take ys.length) (e.drop ys.length) ((wE _ _).symm) ?_ ?_
 ·refine BD _ _ _ rfl ⟨by rw[mK,dm];lia,λj x m a b=>?_⟩;have f:=(ml.mp b).1;rw[dm]at f;rw[List.getElem?_take_of_lt f]at a;exact w.2 j x m a (by rw[rF (by rw[dm];exact f)];exact b)
 ·refine⟨by rw[uI,dm];lia,λj x m a b=>?_⟩;rw[List.getElem?_drop]at a;exact w.2 (ys.length+j) x m a (by rw[rf (by rw[dm];lia),dm,Nat.add_sub_cancel_left];exact b)
theorem LK(h:c∈nB (ys.map L))(w:Within d (more.map L)):c++d∈nB ((ys++more).map L):=by
 have v:=tD _ c h;have e:=v.1;have f:=w.1;rw[dm]at e f;refine BD _ _ _ rfl ?_;rw[lR];refine⟨by rw[mx,mx,dm,dm];lia,λj x m b a=>?_⟩;by_cases hj:j<c.length
 ·rw[rF hj]at b;rw[rF (by rw[dm];lia)]at a;exact v.2 j x m b a
 ·rw[rf (by lia)]at b;rw[rf (by rw[dm];lia),dm]at a;rw[<-e]at a;exact w.2 _ x m b a
theorem Fh:e∈rk L (ys++more) gg ix↔∃c d,e.1=c++d/\c∈nB (ys.map L)/\Within d (more.map L)/\gg.all (inG (fE (ys++more) (c++d)))=true/\e.2=oP (fE (ys++more) (c++d)) ix:=by
 unfold rk;rw[List.mem_filterMap];constructor
 ·rintro⟨s,k,h⟩;unfold rM at h;split at h
  ·rename_i a;cases h;refine ei (ME k) ?_;rintro c d rfl f b;exact mJ c d rfl f b a rfl
  ·cases h
 ·rintro g;refine lS g ?_;clear g;rintro c d i f b ⟨a,j⟩;refine cb (c++d) (LK f b) ?_;unfold rM;rw[eH a]
  cases e with
  |mk p r=>dsimp only at i j;rw[i,j]
structure ve(nm:zC)(es:zB)(le:Lt):Prop where
 nd:le.2.1.Nodup
 tr:B1x nm es le.1 le.2.1 true true le.2.2
theorem LV(h:ve nm es le)(j:q∈prT le.2.2 [] [])(m:q.1=.read a ix)(n:e∈rk L (le.2.1++q.2.1) q.2.2 ix):
  ∃c d,e.1=c++d/\c∈nB (le.2.1.map L)/\oO L le.2.2 (fE le.2.1 c) d (a,e.2)=true:=by
 refine lS (Fh.mp n) ?_;rintro c d i f k ⟨g,l⟩;have b:=(tD _ c f).1;rw[dm]at b;refine dV c d i f ?_;have:=vY (L:=L) le.2.2 le.2.1 [] [] true true c h.nd h.tr b q j a ix d m ⟨k,g⟩;rw[l];exact this
theorem KO{own:Bool}(h:qF lds szs own n=none):∀e∈lds,inR e.2 szs=true/\(own=true->HT.lexLt e.2 (e.1.take n)=true):=by
 intro e a;unfold qF at h
 cases h1:lds.find? (rh szs)with
 |some x=>rw[h1]at h;cases h
 |none=>
  rw[h1]at h;have b:=List.find?_eq_none.mp h1 e a;refine⟨?_,λc=>?_⟩
  ·unfold rh at b
   cases z:inR e.2 szs with
   |true=>rfl
   |false=>rw[z]at b;exact absurd rfl b
  ·subst c;rw[eH rfl]at h
   cases h2:lds.find? (rK n)with
   |some x=>rw[h2]at h;cases h
   |none=>
    have l:=List.find?_eq_none.mp h2 e a;unfold rK at l
    cases z:HT.lexLt e.2 (e.1.take n)with
    |true=>rfl
    |false=>rw[z]at l;exact absurd rfl l
theorem Kh{own:Bool}{b:Bool}(h:qF lds szs own n=some (b,e)):e∈lds/\(b=false->inR e.2 szs=false)/\(b=true->own=true/\inR e.2 szs=true/\HT.lexLt e.2 (e.1.take n)=false):=by
 unfold qF at h
 cases h1:lds.find? (rh szs)with
 |some x=>rw[h1]at h;cases h;have p:=List.find?_some h1;unfold rh at p;exact fI (List.mem_of_find?_eq_some h1) (λ_=>by simpa using p) λz=>by cases z
 |none=>
  rw[h1]at h
  cases own with
  |false=>rw[fa (by decide)]at h;cases h
  |true=>
   rw[eH rfl]at h
   cases h2:lds.find? (rK n)with
   |none=>rw[h2]at h;cases h
   |some x=>
    rw[h2]at h;cases h;have m:=List.mem_of_find?_eq_some h2;have p:=List.find?_some h2;have b:=List.find?_eq_none.mp h1 _ m;unfold rK at p;unfold rh at b;refine fI m (λz=>by cases z) λ_=>(fI rfl ?_ (by simpa using p))
    cases z:inR e.2 szs with
    |true=>rfl
    |false=>rw[z]at b;exact absurd rfl b
theorem Eb(b:q.1=.read a ix):sW L es le q=(qF (rk L (le.2.1++q.2.1) q.2.2 ix) (((shp es a).getD []).map L) (decide (a=le.1)) le.2.1.length).map λe=>(a,e):=by unfold sW;rw[b]
theorem IS(h:ve nm es le)(i:tM L es le=none):tT L es le=true:=by
 unfold tT;rw[List.all_eq_true];intro c f;rw[List.all_eq_true];intro r n;have b:=(tD _ c f).1;rw[dm]at b;refine qa ((vo (L:=L) le.2.2 le.2.1 [] [] true true c h.nd h.tr b (by simp) rfl r).mp n) ?_;rintro q o a ix d ⟨p,⟨w,g⟩,rfl⟩;have s:(c++d,oP (fE (le.2.1++q.2.1) (c++d)) ix)∈rk L (le.2.1++q.2.1) q.2.2 ix:=Fh.mpr (mJ c d rfl f w g rfl);unfold tM at i;have e:=List.findSome?_eq_none_iff.mp i q o;rw[Eb p]at e
 have j:qF (rk L (le.2.1++q.2.1) q.2.2 ix) (((shp es a).getD []).map L) (decide (a=le.1)) le.2.1.length=none:=by
  cases z:qF (rk L (le.2.1++q.2.1) q.2.2 ix) (((shp es a).getD []).map L) (decide (a=le.1)) le.2.1.length with
  |none=>rfl
  |some x=>rw[z]at e;cases e
 obtain⟨m,l⟩:=KO j _ s;rw[uh];refine⟨m,?_⟩;by_cases z:a=le.1
 ·have:=l (mP z);have k:(c++d).take le.2.1.length=c:=by rw[<-b,List.take_left]
  rw[Bool.or_eq_true];refine .inr ?_;dsimp only at this;rw[k]at this;exact this
 ·rw[mT z];rfl
structure Ab(L:zR)(es:zB)(le:Lt)(a:Str)(b:Bool)(e:List Int×List Int)(c d:zI):Prop where
 s:e.1=c++d
 m:c∈nB (le.2.1.map L)
 l:oO L le.2.2 (fE le.2.1 c) d (a,e.2)=true
 f:b=false->inR e.2 (((shp es a).getD []).map L)=false
 t:b=true->a=le.1/\inR e.2 (((shp es a).getD []).map L)=true/\HT.lexLt e.2 c=false
 x:∃zs,(a,zs)∈es/\e.2.length=zs.length
theorem HY{b:Bool}(h:ve nm es le)(o:tM L es le=some (a,(b,e))):∃c d,Ab L es le a b e c d:=by
 unfold tM at o;obtain⟨q,n,g⟩:=List.exists_of_findSome?_eq_some o;have y:=sw le.2.2 le.2.1 [] [] true true h.nd h.tr q n
 cases hr:q.1 with
 |read a0 ix=>
  rw[Eb hr]at g;obtain⟨x,B,C⟩:=rg.mp g;cases C;obtain⟨m,f,t⟩:=Kh B;refine ei (LV h n hr m) λc d j k u=>?_;have l:=(tD _ c k).1;rw[dm]at l;obtain⟨⟨p,v,w⟩,_⟩:=y.rd a ix hr;refine oi c d ⟨j,k,u,f,λz=>?_,p,v,?_⟩
  ·obtain⟨s,A,i⟩:=t z;have r:e.1.take le.2.1.length=c:=by rw[j,<-l,List.take_left]
   rw[r]at i;exact fI (of_decide_eq_true s) A i
  ·rw[Es m,w]
 |num _=>unfold sW at g;rw[hr]at g;cases g
 |place _=>unfold sW at g;rw[hr]at g;cases g
 |sum _ _=>unfold sW at g;rw[hr]at g;cases g
 |pair _ _ _=>unfold sW at g;rw[hr]at g;cases g
 |guard _ _ _ _ _=>unfold sW at g;rw[hr]at g;cases g
theorem Bf{L:zR}{nm:zC}{es:zB}:∀{ls:List Lt},(∀le∈ls,ve nm es le)->(tN L es ls=none->∀le∈ls,tT L es le=true)/\∀x a b e,tN L es ls=some (x,(a,(b,e)))->∃(i:Nat)(le:Lt)(c d:zI),ls[i]?=some le/\le.1=x/\(∀(j:Nat)(l:Lt),j<i->ls[j]?=some l->tT L es l=true)/\Ab L es le a b e c d
 | [],_=>⟨(λ_ le h=>by cases h),λx a b e h=>by cases h⟩
 |l::ls,h=>by
  obtain⟨q,s⟩:=Bf (L:=L) (ls:=ls) λle f=>h le (.tail _ f);have m:=h l (.head _)
  cases z:tM L es l with
  |none=>
   have k:tN L es (l::ls)=tN L es ls:=by unfold tN;rw[List.findSome?_cons,z];rfl
   rw[k];have o:=IS m z;refine⟨λn le f=>?_,λx a b e g=>?_⟩
   ·rcases lY.mp f with rfl|f
    ·exact o
    ·exact q n le f
   ·refine ou (s x a b e g) λi le c d t p y u=>?_;refine⟨i+1,(mh le c d t p (λj v A f=>?_) u)⟩
    cases j with
    |zero=>cases f;exact o
    |succ j=>exact y j v (by lia) f
  |some r=>
   have k:tN L es (l::ls)=some (l.1,r):=by unfold tN;rw[List.findSome?_cons,z];rfl
   rw[k];refine⟨(λn=>by cases n),λx a b e g=>?_⟩;obtain⟨C,D,B⟩:=r;cases g;obtain⟨c,d,w⟩:=HY m z;exact⟨0,(mh l c d rfl rfl (λj _ A=>by lia) w)⟩
def HZ:Sp:=λc H Q _=>∃(d:zW)(x:Str)(k:Int)(a:zJ),c=[.ref d,.str x,.int k]/\H d=some (.dK a)/\a.length<=1000/\∀(q:zW)(b:Hp),A0l H b->b q=some (.dK (my a (Sum.inr x) (.int k)))->Q (.ref q) b
def Kr:Sp:=λe H Q _=>∃(p d:zW)(x:Str)(c b:Int)(u v:V)(a:zJ),e=[.ref p,.ref d]/\H p=some (.tup [.str "guard",.str x,.int c,.int b,u,v])/\H d=some (.dK a)/\lW a (Sum.inr x)=some (.int (ai a x))/\Q (.bl (decide (c<=ai a x/\ai a x<b))) H
def ID:Sp:=λf H Q _=>∃(l d:zW)(b:zL)(a:zJ),f=[.ref l,.ref d]/\Rep H (.ref l) (oK b)/\b.length<=100/\H d=some (.dK a)/\(∀e∈b,¬e.1=""->lW a (Sum.inr e.1)=some (.int (ai a e.1)))/\∀(q:zW)(c:Hp),A0l H c->c q=some (.tup ((oP (ai a) b).map V.int))->Q (.ref q) c
def Jr(kb:Bool)(K:Frag):Sp:=λg H Q _=>∃(c l d:zW)(e:zI)(a:zC)(b:zJ)(L:zR),g=[.ref c,.ref l,.ref d]/\SqK kb K H c (e.map V.int)/\H l=some (.lst (a.map V.str))/\H d=some (.dK b)/\qV b L a/\∀f,A0l H f->Q (.bl (inR e (a.map L))) f
theorem K5{a:zW}(s:A0l H H')(h:SqK kb K H a xs):SqK kb K H' a xs:=by
 cases kb with
 |true=>exact s.seq h
 |false=>exact LH s h
theorem Ei{cs ls:zI}(h:∀(j:Nat)(x n:Int),cs[j]?=some x->ls[j]?=some n->0<=x/\x<n):inR cs ls=true:=by unfold inR;rw[List.all_eq_true];rintro⟨x,n⟩ b;obtain⟨j,a⟩:=List.getElem?_of_mem b;rw[wC]at a;exact mP (h j x n a.1 a.2)
theorem Dg{cs ls:zI}{x n:Int}(h1:cs[j]?=some x)(h2:ls[j]?=some n)(h:¬(0<=x/\x<n)):inR cs ls=false:=by unfold inR;rw[List.all_eq_false];exact cb (x,n) (List.mem_iff_getElem?.mpr ⟨j,by rw[wC];exact⟨h1,h2⟩⟩) (by simpa using h)
theorem DS(T:Txt K mg t){e:zO}:A6q e P w K mg base nj 1 t.jJ t.jQ Af HZ:=by
 refine T.iF.F.okO (e':=e) DT (λg A a s H n Q E j m h=>?_)
 ·refine ou h ?_;clear h;rintro d x k b rfl i l q;have f:=huO j;refine rsq (dh (hK 3 DT.nd (qN MI (by rfl) T.dH vB (eg 0))) (dh ⟨@su _ _ _ _ _ _ _ _ _ f (pv 3) (pv 1) (pv 2) rfl⟩ (ef (hB (pv 3))))) ?_;refine lL _ rfl d b rfl (.inl i) λp c=>?_;refine i12 _ rfl _ rfl _ rfl p _ rfl (C0j.k (k:=Sum.inr x) cp (mC (by lia))) ?_;exact cb _ rfl (q p _ (mu (ed c) c) cp)
theorem Fp(T:Txt K mg t){e:zO}:A6q e P w K mg base nj 1 t.ip t.ir Ag Kr:=by
 refine T.f7.F.okO (e':=e) Mw (λr A m s H J Q E C I h=>?_)
 ·refine nN h ?_;clear h;rintro p d x i f ⟨u,v,b,rfl,l,y,D,q⟩;have n:=huO C;refine rsq (ef (hB (rm (sH xZ (pit 0) (mj n (pv 1) (pit 0))) (tW (sH vg (mj n (pv 1) (pit 0)) (pit 0)))))) ?_;have g:=A8f.k (H:=H) (a:=d) (k:=Sum.inr x) y;rw[D]at g;have o:atI ([V.str "guard",.str x,.int i,.int f,u,v]:zM) 1=some (.str x):=lM (j:=1) rfl;have B:atI ([V.str "guard",.str x,.int i,.int f,u,v]:zM) 2=some (.int i):=lM (j:=2) rfl;have G:atI ([V.str "guard",.str x,.int i,.int f,u,v]:zM) 3=some (.int f):=lM (j:=3) rfl;refine nC _ rfl p _ _ _ rfl rfl (SqT.of l) (kB B _ rfl (nC _ rfl p _ _ _ rfl rfl (SqT.of l) (nE o d _ rfl g (ot _ _ rfl rfl _ rfl (lT (λc=>?_) (λc=>?_))))))
  ·refine cb _ rfl (nC _ rfl p _ _ _ rfl rfl (SqT.of l) (nE o d _ rfl g (nC _ rfl p _ _ _ rfl rfl (SqT.of l) (nE G _ _ rfl rfl ?_))));have c:i<=ai b x:=c;show Q (V.bl (decide (ai b x<f))) H;rw[show decide (ai b x<f)=decide (i<=ai b x/\ai b x<f)by simp[c]];exact q
  ·have c:¬i<=ai b x:=c;show Q (V.bl false) H;rw[mT (λz=>c z.1)]at q;exact q
theorem Em(T:Txt K mg t){e:zO}:A6q e P w K mg base nj 1 t.jL t.jI ["_law_indexes","_law_at"] (spO e ID):=by
 refine T.iB.F.okO (e':=e) yL (λW A M s H vs Q E Y S h=>?_)
 ·obtain⟨O,l,d,u,c,rfl,hl,lx,X,hv,q⟩:=h;have hu:=huO Y;refine ei (rQ (show Rep H (.ref l) (.list (u.map pf)) from hl)) λ_ xs U y x=>?_;cases U;have C:xs.length=u.length:=by have:=x.len;simpa using this
  refine rsq (dh (hK 2 yL.nd (@oG _ _ _ _ dt)) (dh ⟨sy (ok:=HdA e) PassesOwn.never S (xp (e:=e) (pv 0)) (yy (e:=e) (n:=2) S (mV (hH (i:=3) yL.nd) (mV (hH (i:=4) yL.nd) pT))) (@mD _ _ _ (@pA _ _ _ _ _ _ _ _ (lZ nQ (pv 3) lV) (@mD _ _ _ (oa (qI qR sS sR sI (pv 2) (eg 4)))) (@mD _ _ _ (oa (qI qR sS sR sI (pv 2) (ad (eB oM (mj hu (pv 1) (pv 3)) (pv 4)) dt))))))⟩ (ef (hB (qN wA (by rfl) T.bh tL (eg 2)))))) ?_;refine⟨kr rfl,λD B=>?_⟩;refine mH _ rfl l rfl ⟨_,SqL.of (ed B _ _ y)⟩ (xq (K:=K) (a:=l) (xs:=xs) (λi Z G=>∃L I:zP,Z=[Sro l,Sro d,Sro D,L,I]/\A0l H G/\G D=some (.lst ((oP (ai c) (u.take i)).map V.int))) (dV none none rfl (ed B) cp) (by (refine λi Z G m=>ei m λ_ _ _ j _=>?_;clear m);exact⟨SqL.of (j _ _ y),O.same j⟩) ?_ ?_)
  ·rintro i v Z G hi m;refine ei m ?_;clear m;rintro L I rfl j r;obtain⟨f,J,rv⟩:=vU x hi;obtain⟨b,rfl,hb⟩:=yc rv;have a0:=(ml.mp J).1
   have N:oP (ai c) (u.take (i+1))=oP (ai c) (u.take i)++[if f.1=("":Str)then f.2 else ai c f.1+f.2]:=by unfold oP;rw[mQ,J,nO,lR];rfl
   have R:((oP (ai c) (u.take i)).map V.int).length<sizeLine:=mC (by unfold oP;rw[dm,dm,mK];lia);refine mJ b _ rfl (SqT.of (j _ _ hb)) rfl (O.same j) ⟨_,(lL _ rfl _ _ rfl rfl ?_)⟩;refine qj _ rfl rfl _ rfl (lT (λo=>?_) (λo=>?_))
   ·have o:f.1="":=by injection o
    refine qj _ rfl (.inl (pM rfl _ (SqL.of r))) _ rfl (mh D _ _ rfl rfl r (nE R _ _ rfl (mu j B) ?_));rw[cp,N,eH o,lR];rfl
   ·have o:¬f.1="":=λz=>o (by rw[z]);have g:=A8f.k (H:=G) (a:=d) (k:=Sum.inr f.1) (j _ _ X);rw[hv f (me J) o]at g;refine fx _ rfl (.inl (pM rfl _ (SqL.of r))) (nh _ rfl _ rfl d _ rfl g (lL _ rfl _ _ rfl rfl (mh D _ _ rfl rfl r (nE R _ _ rfl (mu j B) ?_))));rw[cp,N,fa o,lR];rfl
  ·rintro Z G m;refine ei m ?_;clear m;rintro L I rfl j r;rw[C,na]at r;refine⟨_,(qP rfl D _ rfl (.inl ⟨SqL.of r,λp hp=>?_⟩))⟩;exact q p _ (j.trans (ed hp)) cp
theorem BC(T:Txt K mg t){e:zO}{kb:Bool}:A6q e P w K mg base nj 1 t.j7 t.je Ad (spO e (Jr kb K)):=by
 refine T.d_.F.okO (e':=e) Bx (λa0 A U s H vs Q E hr hh h=>?_)
 ·obtain⟨hO,c,l,d,X,J,lk,L,rfl,hc,hl,hd,tl,q⟩:=h;have hu:=huO hr;refine rsq (dh ⟨sy (ok:=HdA e) PassesOwn.never hh (AZ (e:=e) (k1:=kb) (k2:=true) rfl T.ig (ad (pv 0) (eg 1))) (yy (e:=e) (n:=2) hh (mV (hH (i:=3) Bx.nd) (mV (hH (i:=4) Bx.nd) pT))) (@mD _ _ _ (@pA _ _ _ _ _ _ _ _ (PW.pt (si (lZ vg (pv 3) ew) (uq (lZ CB (pv 3) (mj hu (pv 2) (pv 4)))))) (@mD _ _ _ (@sj _ _ _ _ oF)) hC))⟩ (ef (hB oF))) ?_;refine cb _ rfl (nC _ rfl c l _ _ rfl hc (SqL.of hl) (Bb (K:=K) (k1:=kb) (k2:=true) (a:=c) (b:=l) (xs:=X.map V.int) (ys:=J.map V.str) (λi Z G=>∃S M:zP,Z=[Sro c,Sro l,Sro d,S,M]/\A0l H G/\∀(j:Nat)(x n:Int),j<i->X[j]?=some x->(J.map L)[j]?=some n->0<=x/\x<n) (dV none none rfl (A0l.refl _) λj _ _ hj=>by lia) (by (refine λi Z G f=>ei f λ_ _ _ m _=>?_;clear f);exact fI (K5 m hc) (SqL.of (m _ _ hl)) (hO.same m)) ?_ ?_))
  ·rintro i v u Z G p N W f;refine ei f ?_;clear f;rintro S M rfl m k hp;obtain⟨x,O,rfl⟩:=oY N;obtain⟨y,Y,rfl⟩:=oY W;have D:=m.trans (ed (o:=.tup [V.int x,.str y]) hp);have R:(J.map L)[i]?=some (L y):=by rw[oH,Y];rfl
   have g:=A8f.k (H:=upd G p (.tup [V.int x,.str y])) (a:=d) (k:=Sum.inr y) (D _ _ hd);rw[(tl y (me Y)).1]at g;refine mJ p _ rfl (SqT.of cp) rfl (hO.same D) ⟨_,(lL _ rfl _ _ rfl rfl ?_)⟩;refine cb _ rfl (ot _ _ rfl rfl _ rfl (lT (λC=>?_) (λC=>?_)))
   ·have C:x<0:=C;refine nI ?_;have:=q _ D;rw[Dg O R (by lia)]at this;exact this
   ·have C:¬x<0:=C;refine i12 _ rfl _ rfl _ rfl d _ rfl g (ot _ _ rfl rfl _ rfl (lT (λI=>?_) (λI=>?_)))
    ·have I:L y<=x:=I;have:=q _ D;rw[Dg O R (by lia)]at this;exact this
    ·have I:¬L y<=x:=I;refine dV _ _ rfl D λj x' n' hj r B=>?_;by_cases z:j<i
     ·exact k j x' n' z r B
     ·have:j=i:=by lia
      subst this;rw[O]at r;rw[R]at B;cases r;cases B
      lia
  ·rintro Z G f;refine ei f ?_;clear f;rintro S M rfl m k;have:=q G m;rw[Ei λj x n r B=>k j x n (by have a1:=(ml.mp r).1;have a2:=(ml.mp B).1;rw[dm]at a2;rw[dm,dm];lia) r B]at this;exact this
theorem A6q.none{e:zO}{k:Nat}(h:∀vs H Q E,¬sp vs H Q E):A6q e P w K mg base CX k f fd ps sp :=⟨λvs H Q E q=>(h vs H Q E q).elim,λ_ _ _ H _ _ vs Q E _ _ _ _ _ q=>(h vs H Q E q).elim⟩
def RdP(H:Hp)(v:V)(r:Str×List Int):Prop:=∃a b,v=.ref a/\H a=some (.tup [.str r.1,.ref b])/\H b=some (.tup (r.2.map V.int))
theorem RdP.kt(k:KT H H'){r:Str×List Int}(h:RdP H v r):RdP H' v r:=let⟨a,b,e,h1,h2⟩:=h;(dV a b e (k _ _ h1) (k _ _ h2))
structure WkT(H:Hp)(d ld:zW)(u:Tm)(kvs lk:zJ)(L:zR)(nm bs:zC)(es:zB)(own:Str)(tp st:Bool)(n:Nat):Prop where
 dp:dep u<=n
 d:H d=some (.dK kvs)
 kn:kvs.length+n<=500
 kv:∀y∈bs,lW kvs (Sum.inr y)=some (.int (ai kvs y))
 tr:B1x nm es own bs tp st u
 sub:∀y∈bs,y∈nm
 ld:H ld=some (.dK lk)
 ln:D7q lk L nm
 es:∀e∈es,e.2.length<=100
theorem sk{nm:zC}{es:zB}{own:Str}:∀{u:Tm}{bs:zC}{tp st:Bool},(∀y∈bs,y∈nm)->B1x nm es own bs tp st u->Axs nm u
 |.num _,_,_,_,_,_=>True.intro
 |.place x,_,_,_,s,h=>s x h
 |.read a ix,_,_,_,s,h=>λe d=>by
  by_cases z:e.1=""
  ·exact .inl z
  ·exact .inr (s _ ((h.2.2 e d).2 z))
 |.sum x b,bs,_,_,s,h=>⟨h.1,sk (bs:=bs++[x]) (λy c=>(mX.mp c).elim (s y) λz=>by rw[mn.mp z];exact h.1) h.2.2⟩
 |.pair _ l r,_,_,_,s,h=>⟨sk s h.1,sk s h.2⟩
 |.guard x _ _ l r,_,_,_,s,h=>(fI (s x h.1) (sk s h.2.2.2.1) (sk s h.2.2.2.2))
theorem WkT.same{d:zW}{a:zJ}{bs:zC}(h:WkT H d b u kvs a L nm bs es own tp st n)(s:A0l H H'):WkT H' d b u kvs a L nm bs es own tp st n :=⟨h.dp,s _ _ h.d,h.kn,h.kv,h.tr,h.sub,s _ _ h.ld,h.ln,h.es⟩
theorem WkT.sum{d e q:zW}{b:Tm}{c:zJ}{bs:zC}(h:WkT H d e (.sum x b) kvs c L nm bs es own tp st (n+1))(s:A0l H H'){k:Int}(j:H' q=some (.dK (my kvs (Sum.inr x) (.int k)))):
  WkT H' q e b (my kvs (Sum.inr x) (.int k)) c L nm (bs++[x]) es own (tp&&st) st n:=by
 obtain⟨f,l,i⟩:=h.tr;have g:=h.dp;simp only [dep]at g;refine⟨by lia,j,?_,λy a=>?_,i,λy a=>(mX.mp a).elim (h.sub y) λz=>by rw[mn.mp z];exact f,s _ _ h.ld,h.ln,h.es⟩
 ·have:=h.kn
  have:(my kvs (Sum.inr x) (V.int k)).length<=kvs.length+1:=by
   unfold my;split
   ·rw[dm];lia
   ·rw[mx];simp
  lia
 ·rw[yo,yK];unfold qd;by_cases z:y=x
  ·rw[eH (by rw[z]),eH z]
  ·rw[fa (λw=>z (Sum.inr.inj w)),fa z];exact h.kv y ((mX.mp a).resolve_right λw=>z (mn.mp w))
theorem WkT.len{d c:zW}{b:zJ}{bs:zC}(h:WkT H d c u kvs b L nm bs es own tp st n)(f:zR):((rd L u f).length:Int)<=wkM L u/\1<=wkM L u :=⟨uQ (λy a=>(h.ln.ok y a).1) u (sk h.sub h.tr) f,so (λy a=>(h.ln.ok y a).1) u (sk h.sub h.tr)⟩
def HH(n:Nat):Sp:=λl H Q _=>∃(v:V)(d e:zW)(u:Tm)(a g:zJ)(L:zR)(j h:zC)(m:zB)(c:Str)(i k:Bool),l=[v,.ref d,.ref e]/\A7s H v u/\WkT H d e u a g L j h m c i k n/\wkM L u<=4000/\
 ∀(q:zW)(f:zM)(b:Hp),H q=none->A0l H b->b q=some (.lst f)->Paired (RdP b) f (rd L u (ai a))->Q (.ref q) b
theorem Fy(T:Txt K mg t){e:zO}:∀n:Nat,A6q e P w K mg base nj (n+1) t.ii t.ij Am (spO e (HH n))
 |0=>A6q.none (by (rintro vs H Q E J;refine xC J ?_;clear J;rintro _ v d M u c U L X bs S B tp st ⟨_,_,h,_⟩);have:=vW u;have:=h.dp;lia)
 |n+1=>by
  have Ga4:=Fy T (e:=e) n;have Ga5:=@Em P w K mg base t T (e:=e);have Ga6:=@DS P w K mg base t T (e:=e);have Ga7:=@Fp P w K mg base t T (e:=e);refine T.ba.F.okO (e':=e) BF (λa4 A a1 s H vs Q E hr hh h=>?_)
  ·refine xC h ?_;clear h;rintro hO v d M u c U L X bs S B tp st ⟨rfl,tr,W,wk,q⟩;have hu:=huO hr;have lw:=W.len;have l1:∀z:V,([z]:zM).length<=sizeLine:=λz=>kr rfl;have l2:∀y z:V,([y,z]:zM).length<=sizeLine:=λy z=>kr rfl;refine rsq (dh (lN (pkd 0) (ef (hB (@oG _ _ _ _ (ad (oQ (ad (pit 0) (ad (pco Ga5 hr hh T.iB (ad (pit 0) (eg 1))) dt))) dt)))) ⟨hC⟩) (dh (lN (pkd 0) (ef (hB (eB rO (pco Ga4 hr hh T.ba (ad (pit 0) (ad (pv 1) (eg 2)))) (pco Ga4 hr hh T.ba (ad (pit 0) (ad (pv 1) (eg 2))))))) ⟨hC⟩) (dh (lN (PW.pt (tV (pkd 0) (ua (nn (pco Ga7 hr hh T.f7 (ad (pv 0) (eg 1))))))) (ef (hB (pco Ga4 hr hh T.ba (ad (pit 0) (ad (pv 1) (eg 2)))))) ⟨hC⟩) (dh (lN (pkd 0) (ef (hB (pco Ga4 hr hh T.ba (ad (pit 0) (ad (pv 1) (eg 2)))))) ⟨hC⟩) (dh (hK 3 BF.nd (@oG _ _ _ _ dt)) (qy (lN (pkd 0) (ef ⟨sy (ok:=HdA e) PassesOwn.never hh (EF (e:=e) rfl T.bi (ad (mj hu (pv 2) (pit 0)) dt)) (hH (i:=4) BF.nd) (@mD _ _ _ (oa (qI qR PySem.F.slot_list_extend PySem.F.type_list_extend Bs (pv 3) (ad (pco Ga4 hr hh T.ba (ad (pit 0) (ad (pco Ga6 hr hh T.iF (ad (pv 1) (ad (pit 0) (eg 4)))) (eg 2)))) dt))))⟩) ⟨hC⟩) (ef (hB (pv 3))))))))) ?_
   cases tr with
   |@num p z e1=>
    refine kno e1 ?_;refine kno e1 ?_;refine pY _ rfl _ _ _ _ rfl rfl (SqT.of e1) (lM (j:=0) rfl) rfl _ rfl (lT (λh=>(sno h (by decide)).elim) (λ_=>hY ?_));refine kno e1 ?_;refine⟨kr rfl,λD I=>qc (λG=>G=upd H D (.lst [])) ?_ ?_⟩
    ·exact pY _ rfl _ _ _ _ rfl rfl (SqT.of (ed I _ _ e1)) (lM (j:=0) rfl) rfl _ rfl (lT (λh=>(sno h (by decide)).elim) (λ_=>⟨rfl,rfl⟩))
    ·rintro G rfl;exact cb _ rfl (q D [] _ I (ed I) cp .nil)
   |@place p z e1=>
    refine kno e1 ?_;refine kno e1 ?_;refine pY _ rfl _ _ _ _ rfl rfl (SqT.of e1) (lM (j:=0) rfl) rfl _ rfl (lT (λh=>(sno h (by decide)).elim) (λ_=>hY ?_));refine kno e1 ?_;refine⟨kr rfl,λD I=>qc (λG=>G=upd H D (.lst [])) ?_ ?_⟩
    ·exact pY _ rfl _ _ _ _ rfl rfl (SqT.of (ed I _ _ e1)) (lM (j:=0) rfl) rfl _ rfl (lT (λh=>(sno h (by decide)).elim) (λ_=>⟨rfl,rfl⟩))
    ·rintro G rfl;exact cb _ rfl (q D [] _ I (ed I) cp .nil)
   |@read _ l x ix e1 r=>obtain⟨⟨zs,hz,lx⟩,_,hi⟩:=W.tr;refine qS e1 ?_;refine ng _ rfl _ _ _ _ rfl rfl (SqT.of e1) (lM (j:=1) rfl) (nC _ rfl _ _ _ _ rfl rfl (SqT.of e1) (mW (lM (j:=2) rfl) _ rfl hO (og l d ix c rfl r (by have a3:zs.length<=100:=W.es _ hz;lia) W.d (λf hf hn=>W.kv _ ((hi f hf).2 hn)) λb H1 C hb=>?_)));refine⟨l2 _ _,λp hp=>⟨l1 _,λD I=>?_⟩⟩;have N:=ed (o:=.tup [V.str x,.ref b]) hp;have R:=ed (o:=.lst [V.ref p]) I;have a2:upd H1 p (.tup [V.str x,.ref b]) p=some (.tup [V.str x,.ref b]):=cp;exact q D _ _ ((C.trans N).free I) (C.trans (N.trans R)) cp (.cons (dV p b rfl (R _ _ a2) (R _ _ (N _ _ hb))) .nil)
   |@pair _ kk u' w' l r e1 o1 o2=>have dp:=W.dp;simp only [dep]at dp;have hw:wkM L (.pair (wI kk) l r)=1+wkM L l+wkM L r:=rfl;have Wl:WkT H d M l c U L X bs S B tp false n:=⟨by lia,W.d,by have:=W.kn;lia,W.kv,W.tr.1,W.sub,W.ld,W.ln,W.es⟩;have Wr:WkT H d M r c U L X bs S B tp false n:=⟨by lia,W.d,by have:=W.kn;lia,W.kv,W.tr.2,W.sub,W.ld,W.ln,W.es⟩;have pl:=Wl.len (ai c);have pr:=Wr.len (ai c);refine kno e1 ?_;refine qS e1 ?_;refine ng _ rfl _ _ _ _ rfl rfl (SqT.of e1) (lM (j:=2) rfl) (mH _ rfl _ rfl hO (oT u' d M l c U L X bs (nD S B tp false rfl o1 Wl (by lia) λq1 r1 H1 f1 C h1 p1=>?_)));refine ng _ rfl _ _ _ _ rfl rfl (SqT.of (C _ _ e1)) (lM (j:=3) rfl) (mH _ rfl _ rfl (hO.same C) (oT w' d M r c U L X bs (nD S B tp false rfl (o2.same C) (Wr.same C) (by lia) λq2 r2 H2 f2 N h2 p2=>?_)));have n1:=Paired.length p1;have n2:=Paired.length p2;refine og q1 q2 _ _ rfl rfl (N _ _ h1) h2 (lK (by lia)) λD I=>?_;have R:=ed (o:=.lst (r1++r2)) I;have k3:=KT.same R;exact q D _ _ ((C.trans N).free I) (C.trans (N.trans R)) cp (pQ (Paired.mapP p1 λ_ _ z=>(z.kt (KT.same N)).kt k3) (Paired.mapP p2 λ_ _ z=>z.kt k3))
   |@guard _ x lo hi u' w' l r e1 o1 o2=>
    have dp:=W.dp;simp only [dep]at dp;refine mM W.tr λt1 _ _ t4 t5=>?_;have Wl:WkT H d M l c U L X bs S B tp false n:=⟨by lia,W.d,by have:=W.kn;lia,W.kv,t4,W.sub,W.ld,W.ln,W.es⟩;have Wr:WkT H d M r c U L X bs S B tp false n:=⟨by lia,W.d,by have:=W.kn;lia,W.kv,t5,W.sub,W.ld,W.ln,W.es⟩;have hw:wkM L (.guard x lo hi l r)=1+wkM L l+wkM L r:=rfl;have pl:=Wl.len (ai c);have pr:=Wr.len (ai c);have er:rd L (.guard x lo hi l r) (ai c)=if lo<=ai c x/\ai c x<hi then rd L l (ai c)else rd L r (ai c):=rfl
    refine kno e1 ?_;refine kno e1 ?_;refine pY _ rfl _ _ _ _ rfl rfl (SqT.of e1) (lM (j:=0) rfl) rfl _ rfl (lT (λ_=>?_) (λh=>absurd rfl h));refine cb _ rfl (nT _ rfl _ d x ⟨lo,(nD hi u' w' c rfl e1 W.d (W.kv x t1) (cb _ rfl (lT (λhb=>?_) (λhb=>?_))))⟩)
    ·rw[er,eH hb]at q;exact ng _ rfl _ _ _ _ rfl rfl (SqT.of e1) (lM (j:=4) rfl) (mH _ rfl _ rfl hO (oT u' d M l c U L X bs (nD S B tp false rfl o1 Wl (by lia) q)))
    ·rw[er,fa hb]at q;refine qS e1 ?_;exact ng _ rfl _ _ _ _ rfl rfl (SqT.of e1) (lM (j:=5) rfl) (mH _ rfl _ rfl hO (oT w' d M r c U L X bs (nD S B tp false rfl o2 Wr (by lia) q)))
   |@sum p x u' b e1 o1=>
    have hx:=W.tr.1;have lx:=W.ln.ok x hx;have hw:wkM L (.sum x b)=1+L x*wkM L b:=rfl;have er:rd L (.sum x b) (ai c)=(List.range (L x).toNat).flatMap λ(k:Nat)=>rd L b (qd (ai c) x (k:Int)):=rfl;refine kno e1 ?_;refine kno e1 ?_;refine pY _ rfl _ _ _ _ rfl rfl (SqT.of e1) (lM (j:=0) rfl) rfl _ rfl (lT (λh=>(sno h (by decide)).elim) (λ_=>hY ?_));refine kno e1 ?_;refine⟨kr rfl,λD I=>(cb (λZ G=>∃(o4:zP)(O:zM),Z=[Sro p,Sro d,Sro M,Sro D,o4]/\A0l H G/\G D=some (.lst O)/\Paired (RdP G) O (rd L (.sum x b) (ai c))) ?_ ?_)⟩
    ·have sD:A0l H (upd H D (.lst [])):=ed I;refine qS (sD _ _ e1) ?_;have g:=A8f.k (H:=upd H D (.lst [])) (a:=M) (k:=Sum.inr x) (sD _ _ W.ld);rw[W.ln.val hx]at g;have a5:1<=wkM L b:=so (λy hy=>(W.ln.ok y hy).1) b (sk W.sub W.tr).2
     have wb:wkM L b<=4000:=by
      have:=Int.mul_le_mul_of_nonneg_right lx.1 (show 0<=wkM L b by lia);rw[Int.one_mul]at this
      lia
     refine cb _ rfl (nC _ rfl _ _ _ _ rfl rfl (SqT.of (sD _ _ e1)) (nE (lM (j:=1) rfl) M _ rfl g (nr _ rfl (by lia) (by lia) ?_)));refine Mx (n:=(L x).toNat) (λi Z G=>∃(o4:zP)(O:zM),Z=[Sro p,Sro d,Sro M,Sro D,o4]/\A0l H G/\G D=some (.lst O)/\Paired (RdP G) O ((List.range i).flatMap λ(k:Nat)=>rd L b (qd (ai c) x (k:Int)))) (lQ none [] rfl sD cp .nil) (by (refine λi Z G J=>ei J λ_ _ _ C _=>?_;clear J);exact hO.same C) ?_ ?_
     ·rintro i Z G hi J;refine lS J ?_;clear J;rintro o4 O rfl C hG pr;refine oJ ?_;intro D';rw[Int.zero_add];have lr:=Paired.length pr
      have a6:((List.range i).flatMap λ(k:Nat)=>rd L b (qd (ai c) x (k:Int))).length<=i*4000:=by
       have:∀m:Nat,((List.range m).flatMap λ(k:Nat)=>rd L b (qd (ai c) x (k:Int))).length<=m*4000:=λm=>by
        induction m with
        |zero=>simp
        |succ m ih=>
         rw[List.range_succ,List.flatMap_append,List.flatMap_singleton,mx];have:=uQ (λy hy=>(W.ln.ok y hy).1) b (sk W.sub W.tr).2 (qd (ai c) x (m:Int))
         lia
       exact this i
      refine fx _ rfl (.inl (pM rfl _ (SqL.of hG))) (nC _ rfl _ _ _ _ rfl rfl (SqT.of (C _ _ e1)) (kB (lM (j:=2) rfl) _ rfl (ng _ rfl _ _ _ _ rfl rfl (SqT.of (C _ _ e1)) (lM (j:=1) rfl) (nC _ rfl d x (i:Int) c rfl (C _ _ W.d) (by have:=W.kn;lia) λq1 H1 N h1=>?_))));have Y:=C.trans N;have Wb:=W.sum Y (k:=(i:Int)) h1;refine fx _ rfl (hO.same Y) (oT u' q1 M b _ U L X _ (nD S B _ st rfl (o1.same Y) Wb wb λq2 r2 H2 f2 R h2 p2=>?_));rw[yo]at p2;have n2:=Paired.length p2;have bd:=uQ (λy hy=>(W.ln.ok y hy).1) b (sk W.sub W.tr).2 (qd (ai c) x (i:Int));have a0:=R _ _ (N _ _ hG);have kD:KT H2 (upd H2 D (.lst (O++r2))):=KT.at a0 (by intro xs z;cases z);refine og D q2 _ _ rfl rfl a0 h2 (lK (by lia)) (lQ (some (.int (i:Int))) (O++r2) rfl (mu (Y.trans R) I) cp ?_);rw[List.range_succ,List.flatMap_append,List.flatMap_singleton];exact pQ (Paired.mapP pr λ_ _ z=>((z.kt (KT.same N)).kt (KT.same R)).kt kD) (Paired.mapP p2 λ_ _ z=>z.kt kD)
     ·rintro Z G J;refine lS J ?_;clear J;rintro o4 O rfl C hG pr;exact lQ o4 O rfl C hG pr
    ·rintro Z G J;refine lS J ?_;clear J;rintro o4 O rfl C hG pr;exact cb _ rfl (q D O G I C hG pr)
theorem Jz{ns:zI}:PyData.eqv (.tuple (ns.map PyData.int)) (.tuple (ms.map PyData.int))=decide (ns=ms):=by rw[PyData.eqv];exact PySem.W.ked_eqvAll ns ms
theorem Eh:∀(ns:zI),PyData.canLayAll0 (ns.map PyData.int)=true| []=>rfl|_::ns=>by simp[PyData.canLayAll0,PyData.canLay0,Eh ns]
theorem Eu:∀(ns:zI),PyData.depthAll (ns.map PyData.int)<=0| []=>by simp[PyData.depthAll]|_::ns=>by have:=Eu ns;simp[PyData.depthAll,PyData.depth];lia
theorem Fs(ns:zI):SeqAt.shaped (.tuple (ns.map PyData.int))=true:=LI (by simp[PyData.canLay0,Eh ns]) (by have:=Eu ns;simp[PyData.depth];lia)
theorem MG{x:V}:nJ (x::xs) (some 1) none=xs:=by unfold nJ;rw[HT.sIx_none,show(1:Int)=((1:Nat):Int) from rfl,HT.sIx_nat,Nat.min_eq_left (by simp)];exact rT (by simp)
def HW(n:Nat):Sp:=λr H Q _=>∃(v:V)(d j g f e:zW)(u:Tm)(b l:zJ)(L:zR)(p m:zC)(s:zB)(c:Str)(o q:Bool)(a:zI)(i:Str)(h:zI),r=[v,.ref d,.ref j,.ref g,.ref e]/\A7s H v u/\WkT H d e u b l L p m s c o q n/\
 H j=some (.lst (a.map V.int))/\H g=some (.tup [.str i,.ref f])/\H f=some (.tup (h.map V.int))/\∀k,A0l H k->Q (.bl (oO L u (ai b) a (i,h))) k
theorem FB(T:Txt K mg t){e:zO}:∀n:Nat,A6q e P w K mg base nj (n+1) t.iq t.ie Aj (spO e (HW n))
 |0=>A6q.none (by (rintro vs H Q E zz;refine xC zz ?_;clear zz;rintro _ v d M g Z N u i U L X Y S ⟨B,tp,st,c,y,C,_,_,h,_⟩);have:=vW u;have:=h.dp;lia)
 |n+1=>by
  have Ga8:=FB T (e:=e) n;have Ga5:=@Em P w K mg base t T (e:=e);have Ga6:=@DS P w K mg base t T (e:=e);have Ga7:=@Fp P w K mg base t T (e:=e);refine T.bc.F.okO (e':=e) M6 (λa4 A a1 s H vs Q E R hh h=>?_)
  ·refine xC h ?_;clear h;rintro hO v d M g Z N u i U L X Y S ⟨B,tp,st,c,y,C,rfl,tr,W,m,hg,J,q⟩;have hu:=huO R;have g0:atI ([V.str y,.ref Z]:zM) 0=some (.str y):=lM (j:=0) rfl;have g1:atI ([V.str y,.ref Z]:zM) 1=some (.ref Z):=lM (j:=1) rfl;refine rsq (dh (lN (pkd 0) (ef (hB (rm (sH nQ (oA T.aK (eg 2)) ew) (rm (sH nQ (pit 0) (pit 3)) (tW (sH (Im R.units) (pco Ga5 R hh T.iB (ad (pit 0) (eg 1))) (pit 3))))))) ⟨hC⟩) (dh (lN (pkd 0) (ef (hB (GX (pco Ga8 R hh T.bc (ad (pit 0) (ad (pv 1) (ad (pv 2) (ad (pv 3) (eg 4)))))) (tW (pco Ga8 R hh T.bc (ad (pit 0) (ad (pv 1) (ad (pv 2) (ad (pv 3) (eg 4)))))))))) ⟨hC⟩) (dh (lN (PW.pt (tV (pkd 0) (ua (nn (pco Ga7 R hh T.f7 (ad (pv 0) (eg 1))))))) (ef (hB (pco Ga8 R hh T.bc (ad (pit 0) (ad (pv 1) (ad (pv 2) (ad (pv 3) (eg 4)))))))) ⟨hC⟩) (dh (lN (pkd 0) (ef (hB (pco Ga8 R hh T.bc (ad (pit 0) (ad (pv 1) (ad (pv 2) (ad (pv 3) (eg 4)))))))) ⟨hC⟩) (dh (lN (PW.pt (si (lZ vL (pit 0) lV) (si (lZ nQ (oA T.aK (eg 2)) ew) (si (lZ vg (pil 2) ew) (uq (lZ CB (pil 2) (mj hu (pv 4) (pit 0)))))))) (ef (hB oF)) ⟨hC⟩) (ef (hB (pco Ga8 R hh T.bc (ad (pit 0) (ad (pco Ga6 R hh T.iF (ad (pv 1) (ad (pit 0) (ad (pil 2) dt)))) (ad (pV qg (pv 2) (pB ew) pS) (ad (pv 3) (eg 4))))))))))))) ?_
   cases tr with
   |@num p z e1=>refine kno e1 ?_;refine kno e1 ?_;refine pY _ rfl _ _ _ _ rfl rfl (SqT.of e1) (lM (j:=0) rfl) rfl _ rfl (lT (λh=>(sno h (by decide)).elim) (λ_=>hY ?_));refine kno e1 ?_;exact pY _ rfl _ _ _ _ rfl rfl (SqT.of e1) (lM (j:=0) rfl) rfl _ rfl (se (λ_=>nI (q H (A0l.refl _))) (λh=>(sno h (by decide)).elim))
   |@place p z e1=>refine kno e1 ?_;refine kno e1 ?_;refine pY _ rfl _ _ _ _ rfl rfl (SqT.of e1) (lM (j:=0) rfl) rfl _ rfl (lT (λh=>(sno h (by decide)).elim) (λ_=>hY ?_));refine kno e1 ?_;exact pY _ rfl _ _ _ _ rfl rfl (SqT.of e1) (lM (j:=0) rfl) rfl _ rfl (se (λ_=>nI (q H (A0l.refl _))) (λh=>(sno h (by decide)).elim))
   |@read p l x ix e1 r=>
    obtain⟨⟨zs,hz,lx⟩,_,hi⟩:=W.tr;have eb:oO L (.read x ix) (ai i) c (y,C)=(decide (c=[])&&(decide (x=y)&&decide (oP (ai i) ix=C))):=rfl;rw[eb]at q;refine qS e1 ?_;refine qi _ rfl M _ rfl (.inl (SqL.of m)) rfl _ rfl (lT (λI=>?_) (λI=>?_))
    ·have I:c=[]:=by
      have:((c.map V.int).length:Int)=0:=by injection I
      rw[dm]at this;exact List.eq_nil_of_length_eq_zero (by lia)
     rw[mP I,Bool.true_and]at q;refine ng _ rfl _ _ _ _ rfl rfl (SqT.of e1) (lM (j:=1) rfl) (pY _ rfl g _ _ _ rfl rfl (SqT.of hg) g0 rfl _ rfl (lT (λG=>?_) (λG=>?_)))
     ·have G:x=y:=by injection G
      rw[mP G,Bool.true_and]at q;refine nC _ rfl _ _ _ _ rfl rfl (SqT.of e1) (mW (lM (j:=2) rfl) _ rfl hO (og l d ix i rfl r (by have a3:zs.length<=100:=W.es _ hz;lia) W.d (λf hf hn=>W.kv _ ((hi f hf).2 hn)) λb H1 D hb=>?_));refine ng _ rfl g _ _ _ rfl rfl (SqT.of (D _ _ hg)) g1 (mJ (.tuple ((oP (ai i) ix).map PyData.int)) (.tuple (C.map PyData.int)) (.tup hb (Bv _)) (.tup (D _ _ J) (Bv _)) (Fs _) (Fs _) ?_);have:=q H1 D;rw[<-Jz]at this;exact this
     ·have G:¬x=y:=λz=>G (by rw[z]);rw[mT G,Bool.false_and]at q;exact q H (A0l.refl _)
    ·have I:¬c=[]:=λz=>I (by rw[z];rfl);rw[mT I,Bool.false_and]at q;exact q H (A0l.refl _)
   |@pair p kk u' w' l r e1 o1 o2=>
    have dp:=W.dp;simp only [dep]at dp;have Wl:WkT H d N l i U L X Y S B tp false n:=⟨by lia,W.d,by have:=W.kn;lia,W.kv,W.tr.1,W.sub,W.ld,W.ln,W.es⟩;have Wr:WkT H d N r i U L X Y S B tp false n:=⟨by lia,W.d,by have:=W.kn;lia,W.kv,W.tr.2,W.sub,W.ld,W.ln,W.es⟩;have eb:oO L (.pair (wI kk) l r) (ai i) c (y,C)=(oO L l (ai i) c (y,C)||oO L r (ai i) c (y,C)):=rfl;rw[eb]at q;refine kno e1 ?_;refine qS e1 ?_;refine ng _ rfl _ _ _ _ rfl rfl (SqT.of e1) (lM (j:=2) rfl) (mE _ rfl _ rfl (mH _ rfl _ rfl hO (qB u' d M (oT g Z N l i U L X Y (qo S B tp false c y C rfl o1 Wl m hg J λH1 D=>(cb _ rfl ?_))))))
    cases hb:oO L l (ai i) c (y,C)with
    |true=>rw[hb,Bool.true_or]at q;exact nI (q H1 D)
    |false=>rw[hb,Bool.false_or]at q;exact hY (ng _ rfl _ _ _ _ rfl rfl (SqT.of (D _ _ e1)) (lM (j:=3) rfl) (mE _ rfl _ rfl (mH _ rfl _ rfl (hO.same D) (qB w' d M (oT g Z N r i U L X Y (qo S B tp false c y C rfl (o2.same D) (Wr.same D) (D _ _ m) (D _ _ hg) (D _ _ J) λH2 s2=>q H2 (D.trans s2)))))))
   |@guard p x lo hi u' w' l r e1 o1 o2=>
    have dp:=W.dp;simp only [dep]at dp;refine mM W.tr λt1 _ _ t4 t5=>?_;have Wl:WkT H d N l i U L X Y S B tp false n:=⟨by lia,W.d,by have:=W.kn;lia,W.kv,t4,W.sub,W.ld,W.ln,W.es⟩;have Wr:WkT H d N r i U L X Y S B tp false n:=⟨by lia,W.d,by have:=W.kn;lia,W.kv,t5,W.sub,W.ld,W.ln,W.es⟩;have eb:oO L (.guard x lo hi l r) (ai i) c (y,C)=if lo<=ai i x/\ai i x<hi then oO L l (ai i) c (y,C)else oO L r (ai i) c (y,C):=rfl
    rw[eb]at q;refine kno e1 ?_;refine kno e1 ?_;refine pY _ rfl _ _ _ _ rfl rfl (SqT.of e1) (lM (j:=0) rfl) rfl _ rfl (lT (λ_=>?_) (λh=>absurd rfl h));refine cb _ rfl (nT _ rfl _ d x ⟨lo,(nD hi u' w' i rfl e1 W.d (W.kv x t1) (cb _ rfl (lT (λhb=>?_) (λhb=>?_))))⟩)
    ·rw[eH hb]at q;exact ng _ rfl _ _ _ _ rfl rfl (SqT.of e1) (lM (j:=4) rfl) (mE _ rfl _ rfl (mH _ rfl _ rfl hO (qB u' d M (oT g Z N l i U L X Y (qo S B tp false c y C rfl o1 Wl m hg J q)))))
    ·rw[fa hb]at q;refine qS e1 ?_;exact ng _ rfl _ _ _ _ rfl rfl (SqT.of e1) (lM (j:=5) rfl) (mE _ rfl _ rfl (mH _ rfl _ rfl hO (qB w' d M (oT g Z N r i U L X Y (qo S B tp false c y C rfl o2 Wr m hg J q)))))
   |@sum p x u' b e1 o1=>
    have hx:=W.tr.1;refine kno e1 ?_;refine kno e1 ?_;refine pY _ rfl _ _ _ _ rfl rfl (SqT.of e1) (lM (j:=0) rfl) rfl _ rfl (lT (λh=>(sno h (by decide)).elim) (λ_=>hY ?_));refine kno e1 ?_;refine pY _ rfl _ _ _ _ rfl rfl (SqT.of e1) (lM (j:=0) rfl) rfl _ rfl (se (λh=>absurd rfl h) (λ_=>?_))
    cases c with
    |nil=>exact qi _ rfl M _ rfl (.inl (SqL.of m)) rfl _ rfl (lT (λ_=>nI (q H (A0l.refl _))) (λh=>absurd rfl h))
    |cons k c=>
     have eb:oO L (.sum x b) (ai i) (k::c) (y,C)=if k<0\/L x<=k then false else oO L b (qd (ai i) x k) c (y,C):=rfl
     rw[eb]at q;have k0:atI ((k::c).map V.int) 0=some (.int k):=lM (j:=0) rfl;refine qi _ rfl M _ rfl (.inl (SqL.of m)) rfl _ rfl (lT (λh=>?_) (λ_=>?_))
     ·have h:(((k::c).map V.int).length:Int)=0:=by injection h
      simp at h
      lia
     refine ng _ rfl M _ _ _ rfl rfl (SqL.of m) k0 (ot _ _ rfl rfl _ rfl (lT (λI=>?_) (λI=>?_)))
     ·have I:k<0:=I;rw[eH (.inl I)]at q;exact nI (q H (A0l.refl _))
     have I:¬k<0:=I;have gk:=A8f.k (H:=H) (a:=N) (k:=Sum.inr x) W.ld;rw[W.ln.val hx]at gk;refine nC _ rfl M _ _ _ rfl rfl (SqL.of m) (kB k0 _ rfl (nC _ rfl _ _ _ _ rfl rfl (SqT.of e1) (nE (lM (j:=1) rfl) N _ rfl gk (ot _ _ rfl rfl _ rfl (lT (λG=>?_) (λG=>?_))))))
     ·have G:L x<=k:=G;rw[eH (.inr G)]at q;exact q H (A0l.refl _)
     have G:¬L x<=k:=G;rw[fa (by lia)]at q;refine nC _ rfl _ _ _ _ rfl rfl (SqT.of e1) (kB (lM (j:=2) rfl) _ rfl (ng _ rfl _ _ _ _ rfl rfl (SqT.of e1) (lM (j:=1) rfl) (ng _ rfl M _ _ _ rfl rfl (SqL.of m) k0 ⟨d,(mh x k i rfl W.d (by have:=W.kn;lia) λq1 H1 D a0=>?_)⟩)));have Wb:=W.sum D (k:=k) a0;refine nh _ rfl _ rfl M _ rfl (SqL.of (D _ _ m)) λl2 a2=>?_;rw[show nJ ((k::c).map V.int) (some 1) none=c.map V.int from MG];have s2:=ed (o:=.lst (c.map V.int)) a2;have O:=D.trans s2;exact mH _ rfl _ rfl (hO.same O) (qB u' q1 l2 (oT g Z N b _ U L X _ (qo S B _ st c y C rfl (o1.same O) (Wb.same s2) cp (O _ _ hg) (O _ _ J) λH3 s3=>by rw[yo];exact q H3 (O.trans s3))))
theorem AN{a:zW}{y:V}{r:zP}(s:A0l H H')(h:A8f H a y r):A8f H' a y r:=by
 have rd:∀{u:HO},Rd H a u->Rd H' a u:=λh=>h.elim (λe=>.inl (s _ _ e)) (by rintro⟨o,e⟩;exact .inr ⟨o,s _ _ e⟩);rcases h with ⟨c,k,d,g,f⟩|⟨c,k,b,d,g,f,i⟩
 ·exact .inl (dV c k (rd d) g f)
 ·exact .inr (mh c k b (rd d) g (s _ _ f) i)
structure C1d(H:Hp)(ab:zW)(x:Abt)(lk:zJ)(L:zR)(nm:zC)(es:zB):Prop where
 d:H ab=some (.dK (abK x))
 le:H x.ld=some (.dK lk)
 ln:D7q lk L nm
 sh:∃ak,H x.sh=some (.dK ak)/\AR (λ_=>True) H ak es
 nd:(es.map (·.1)).Nodup
 ax:∀e∈es,AxN nm e.2
theorem C1d.same{x:Abt}{a:zJ}(h:C1d H ab x a L nm es)(s:A0l H H'):C1d H' ab x a L nm es:=by obtain⟨k,c,i⟩:=h.sh;exact⟨s _ _ h.d,s _ _ h.le,h.ln,(cb k (s _ _ c) (Paired.mapP i (by rintro _ _ ⟨e,b,f,j,g⟩;exact mW e b f j (s _ _ g)))),h.nd,h.ax⟩
theorem C1d.get{x:Abt}{a:zJ}(h:C1d H ab x a L nm es){k:Str}(e:lW (abK x) (Sum.inr k)=some v):A8f H ab (.str k) (some v):=.inl (dV _ (Sum.inr k) (.inl h.d) rfl e.symm)
theorem C1d.shp{x:Abt}{e:zJ}(h:C1d H ab x e L nm es)(d:(a,zs)∈es):∃b,A8f H x.sh (.str a) (some (.ref b))/\H b=some (.lst (zs.map V.str)):=by obtain⟨j,c,g⟩:=h.sh;obtain⟨b,f,_,i⟩:=yu g h.nd d;exact cb b (.inl (dV _ (Sum.inr a) (.inl c) rfl f.symm)) i
theorem C1d.tells{x:Abt}{c:zJ}(h:C1d H ab x c L nm es)(e:(a,zs)∈es):qV c L zs:=λy d=>by have b:=(h.ax _ e).sub y d;have f:=h.ln.ok y b;exact fI (h.ln.val b) (by lia) f.2.1
structure D1g(H:Hp)(x:Abt)(L:zR)(nm:zC)(es:zB)(le:Lt)(v:V):Prop where
 tr:A7s H v le.2.2
 inn:ve nm es le
 mem:(le.1,le.2.1)∈es
 wk:wkM L le.2.2<=4000
 gl:wP (le.2.1.map L)
 dp:dep le.2.2<=9
theorem D1g.same{x:Abt}(h:D1g H x L nm es le v)(s:A0l H H'):D1g H' x L nm es le v:=⟨h.tr.same s,h.inn,h.mem,h.wk,h.gl,h.dp⟩
theorem Ea{k:Int}(b:ys[i]?=some y)(a:c[i]?=some k):py (ys.take (i+1)) (c.take (i+1))=my (py (ys.take i) (c.take i)) (Sum.inr y) (.int k):=by
 rw[mQ,mQ,b,a,nO,nO]
 exact El (by
  have d:=(ml.mp b).1;have e:=(ml.mp a).1
  rw[mK,mK];lia)
theorem yG(ys:zC)(c:zI):(py ys c).length<=ys.length:=by
 have:∀(a b:zJ),(mo b a).length<=b.length+a.length:=by
  intro a
  induction a with
  |nil=>intro b;exact fy _
  |cons p a ih=>
   intro b;have d:=ih (my b p.1 p.2)
   have e:(my b p.1 p.2).length<=b.length+1:=by
    unfold my;split
    ·rw[dm];lia
    ·rw[mx];simp
   show(mo (my b p.1 p.2) a).length<=_;simp only [nG]
   lia
 have h:=this ((ys.map (Sum.inr:Str->Key)).zip (c.map V.int)) [];rw[List.length_zip,dm,dm,pO]at h;unfold py
 lia
def JR:Sp:=λg H Q _=>∃(c:zW)(x:Abt)(h:zJ)(L:zR)(d:zC)(b:zB)(a:Lt)(v:V),g=[.str a.1,.ref c]/\C1d H c x h L d b/\A8f H x.tr (.str a.1) (some v)/\D1g H x L d b a v/\(∀e∈b,e.2.length<=100)/\∀f,A0l H f->Q (.bl (tT L b a)) f
def okR(L:zR)(es:zB)(le:Lt)(c:zI)(r:Str×List Int):Bool:=inR r.2 (((shp es r.1).getD []).map L)&&(! decide (r.1=le.1)||HT.lexLt r.2 c)
theorem JX{r:Str×List Int}(b:c∈nB (le.2.1.map L))(a:r∈rd L le.2.2 (fE le.2.1 c))(h:okR L es le c r=false):tT L es le=false:=by unfold tT;rw[List.all_eq_false];refine cb c b ?_;rw[Bool.not_eq_true,List.all_eq_false];exact cb r a (by rw[Bool.not_eq_true];exact h)
theorem ED(T:Txt K mg t){e:zO}:A6q e P w K mg base nj 11 t.jn t.j5 Ao (spO e JR):=by
 have Ga4:=@Fy P w K mg base t T (e:=e) 9;have Ga9:=@Nd P w K mg base t T (e:=e);have Gb0:=@BC P w K mg base t T (e:=e) (kb:=false);refine T.gI.F.okO (e':=e) uz (λc8 A b6 s H vs Q E S hh h=>?_)
 ·obtain⟨hO,ab,x,lk,L,nm,O,d,v,rfl,M,gt,B,a6,q⟩:=h;have R:=huO S;obtain⟨bx,sx,hx⟩:=M.shp B.mem;have c6:=M.tells B.mem;have a9:=B.inn.nd;refine rsq (dh (hK 2 uz.nd (mj R (mj R (pv 1) lV) (pv 0))) (dh (hK 3 uz.nd (mj R (pv 1) lV)) (dh ⟨sy (ok:=HdA e) PassesOwn.never hh (xp (e:=e) (pco Ga9 S hh T.ik (ad (pv 2) (eg 3)))) (hH (i:=4) uz.nd) (@pi _ _ _ _ _ (@pR _ _ 5 _ _ _ _ uz.nd rfl (.inl rfl) wg rfl (.inl rfl)) (@pi _ _ _ _ _ (sy (ok:=HdA e) PassesOwn.never hh (AZ (e:=e) (k1:=true) (k2:=false) rfl T.ig (ad (pv 2) (eg 4))) (yy (e:=e) (n:=2) hh (mV (hH (i:=6) uz.nd) (mV (hH (i:=7) uz.nd) pT))) (@mD _ _ _ (@su _ _ _ _ _ _ _ _ _ R (pv 5) (pv 6) (pv 7) rfl))) (@mD _ _ _ (sy (ok:=HdA e) PassesOwn.never hh (xp (e:=e) (pco Ga4 S hh T.ba (ad (mj R (mj R (pv 1) lV) (pv 0)) (ad (pv 5) (eg 3))))) (yy (e:=e) (n:=2) hh (mV (hH (i:=8) uz.nd) (mV (hH (i:=9) uz.nd) pT))) (@pi _ _ _ _ _ (@pA _ _ _ _ _ _ _ _ (rz (nn (pco Gb0 S hh T.d_ (ad (pv 9) (ad (mj R (mj R (pv 1) lV) (pv 8)) (eg 3)))))) (@mD _ _ _ (@sj _ _ _ _ oF)) hC) (@mD _ _ _ (@pA _ _ _ _ _ _ _ _ (PW.pt (tV (lZ nQ (pv 8) (pv 0)) (ua (rz (lZ (AG (Nat.lt_of_succ_lt R)) (pv 9) (pv 4)))))) (@mD _ _ _ (@sj _ _ _ _ oF)) hC)))))))⟩ (ef (hB oF))))) ?_;refine lL _ rfl ab _ rfl (M.get (uy x)) (lL _ rfl x.sh _ rfl sx ?_);refine lL _ rfl ab _ rfl (M.get (wr x)) ?_;refine mH _ rfl _ rfl hO (nL bx x.ld d.2.1 lk L rfl hx M.le c6 B.gl λcq H1 fq s1 b9=>?_);obtain⟨ps,b0,tp⟩:=b9.ex;have cl:=wv (d.2.1.map L) λm hm=>(B.gl.pos m hm).1;have gm:=B.gl.most;have c3:=tp.len;refine fx cq rfl ⟨_,SqL.of b0⟩ (xq (K:=K) (a:=cq) (xs:=ps.map V.ref) (λi Z G=>∃o4 o5 l g C u:zP,Z=[Sso d.1,Sro ab,Sro bx,Sro x.ld,o4,o5,l,g,C,u]/\A0l H1 G/\∀c∈(nB (d.2.1.map L)).take i,∀r∈rd L d.2.2 (fE d.2.1 c),okR L O d c r=true) (qB none none none (nM none none none rfl (A0l.refl _) λc hc=>by cases hc)) (by (rintro i Z G f;refine nN f ?_;clear f;rintro _ _ _ _ _ ⟨_,_,N,_⟩);exact⟨SqL.of (N _ _ b0),hO.same (s1.trans N)⟩) ?_ ?_)
  ·rintro i c9 Z G hi f;refine nN f ?_;clear f;rintro o4 o5 l g C ⟨u,rfl,N,ok⟩;obtain⟨pc,b8,rfl⟩:=oY hi;obtain⟨c,hc,a1⟩:=tp.get b8;have cm:=me hc;have lc:=(tD _ c cm).1;rw[dm]at lc;have I:=s1.trans N;refine λdn a3=>?_;have sd:A0l G (upd G dn (.dK [])):=ed a3;have d1:H dn=none:=I.free a3;refine cb _ rfl (nC _ rfl bx pc _ _ rfl (SqL.of (sd _ _ (I _ _ hx))) (SqT.of (sd _ _ (N _ _ a1))) (Bb (K:=K) (k1:=true) (k2:=false) (a:=bx) (b:=pc) (xs:=d.2.1.map V.str) (ys:=c.map V.int) (λj Z G3=>∃l g C u:zP,Z=[Sso d.1,Sro ab,Sro bx,Sro x.ld,Sro pc,Sro dn,l,g,C,u]/\A0l G G3/\G3 dn=some (.dK (py (d.2.1.take j) (c.take j)))) ⟨l,(nM g C u rfl sd cp)⟩ (by (rintro j Z G3 f;refine mF f ?_;clear f;rintro _ _ _ ⟨_,_,X,_⟩);exact fI (SqL.of (X _ _ (I _ _ hx))) (SqT.of (X _ _ (N _ _ a1))) (hO.same (I.trans X))) ?_ ?_))
   ·rintro j v1 v2 Z G3 p b4 c1 f;refine mF f ?_;clear f;rintro l g C ⟨u,rfl,X,h3⟩ hp;obtain⟨y,hy,rfl⟩:=oY b4;obtain⟨k,hk,rfl⟩:=oY c1;have a4:=X.trans (ed (o:=.tup [V.str y,.int k]) hp);have b2:=ed (o:=.tup [V.str y,.int k]) hp _ _ h3;have el:=yG (d.2.1.take j) (c.take j);rw[mK]at el;have gf:=B.gl.few;rw[dm]at gf;refine mJ p _ rfl (SqT.of cp) rfl (hO.same (I.trans a4)) ⟨_,(lL _ rfl _ _ rfl rfl ?_)⟩;refine i12 _ rfl _ rfl _ rfl dn _ rfl (C0j.k (k:=Sum.inr y) b2 (mC (by lia))) ?_;exact⟨_,(nM _ C u rfl (mu a4 a3) (by rw[cp,Ea hy hk]))⟩
   ·rintro Z G3 f;refine mF f ?_;clear f;rintro l g C ⟨u,rfl,X,h3⟩;rw[show min (d.2.1.map V.str).length (c.map V.int).length=d.2.1.length by rw[dm,dm];lia,na,<-lc,na]at h3;have D:=I.trans X;have a5:=M.same D;have c7:=B.same D;have c0:=AN D gt;have gf:=B.gl.few;rw[dm]at gf;have el:=yG d.2.1 c;have W:WkT G3 dn x.ld d.2.2 (py d.2.1 c) lk L nm d.2.1 O d.1 true true 9:=⟨B.dp,h3,by lia,λy hy=>yi lc hy,B.inn.tr,(M.ax _ B.mem).sub,a5.le,M.ln,a6⟩;refine lL _ rfl ab _ rfl (a5.get (wd x)) (lL _ rfl x.tr _ rfl c0 (mH _ rfl _ rfl (hO.same D) (oT v dn x.ld d.2.2 _ lk L nm _ (nD O d.1 true true rfl c7.tr W B.wk λrq rs H4 f4 s4 h4 pr=>?_))));refine fx rq rfl ⟨_,SqL.of h4⟩ (xq (K:=K) (a:=rq) (xs:=rs) (λk Z G5=>∃l g C u:zP,Z=[Sso d.1,Sro ab,Sro bx,Sro x.ld,Sro pc,Sro dn,l,g,C,u]/\A0l H4 G5/\∀r∈(rd L d.2.2 (fE d.2.1 c)).take k,okR L O d c r=true) ⟨l,(nM g C u rfl (A0l.refl _) λr S=>by cases S)⟩ (by (rintro k Z G5 f;refine mF f ?_;clear f;rintro _ _ _ ⟨_,_,J,_⟩);exact⟨SqL.of (J _ _ h4),hO.same (D.trans (s4.trans J))⟩) ?_ ?_)
    ·rintro k rv Z G5 hk f;refine mF f ?_;clear f;rintro l g C ⟨u,rfl,J,U⟩;obtain⟨r,S,ra,rb,rfl,e1,e2⟩:=pI pr hk;have mr:=me S;have Y:=D.trans (s4.trans J);have a2:=M.same Y;refine qa ((vo (L:=L) d.2.2 d.2.1 [] [] true true c a9 B.inn.tr lc (by simp) rfl r).mp mr) ?_;rintro q0 b7 a0 c4 d0 ⟨c2,_,er⟩;obtain⟨⟨zs,hz,_⟩,_⟩:=(sw d.2.2 d.2.1 [] [] true true a9 B.inn.tr q0 b7).rd a0 c4 c2;have ea:r.1=a0:=by rw[er]
     rw[<-ea]at hz;obtain⟨bz,gz,c5⟩:=a2.shp hz;have b5:((shp O r.1).getD [])=zs:=by rw[yj M.nd hz];rfl
     refine mJ ra _ rfl (SqT.of (J _ _ e1)) rfl (hO.same Y) ⟨_,(lL _ rfl _ _ rfl rfl ?_)⟩;refine nh _ rfl _ rfl ab _ rfl (a2.get (uy x)) (lL _ rfl x.sh _ rfl gz (sM _ rfl (hO.same Y) rb ⟨bz,(nL x.ld r.2 zs lk L rfl (SqT.of (J _ _ e2)) c5 a2.le (M.tells hz) λH6 s6=>(cb _ rfl ?_))⟩));have b3:=Y.trans s6;have ek:okR L O d c r=(inR r.2 (zs.map L)&&(! decide (r.1=d.1)||HT.lexLt r.2 c)):=by unfold okR;rw[b5]
     have no:okR L O d c r=false->Q (.bl false) H6:=λz=>by have:=q H6 b3;rw[JX cm mr z]at this;exact this
     have a7:okR L O d c r=true->∀r'∈(rd L d.2.2 (fE d.2.1 c)).take (k+1),okR L O d c r'=true:=λz r' b1=>by
      rw[mQ,S]at b1;rcases mX.mp b1 with w|w
      ·exact U r' w
      ·rw[mn.mp w];exact z
     cases hb:inR r.2 (zs.map L)with
     |false=>exact nI (no (by rw[ek,hb];rfl))
     |true=>
      rw[hb,Bool.true_and]at ek;refine hY ?_;refine cb _ rfl (qj _ rfl rfl _ rfl (lT (λh1=>?_) (λh1=>?_)))
      ·have h1:r.1=d.1:=by injection h1
       rw[mP h1]at ek;refine cb _ rfl (nC _ rfl rb pc r.2 c rfl rfl (SqT.of (s6 _ _ (J _ _ e2))) (kB (SqT.of (s6 _ _ (J _ _ (s4 _ _ (X _ _ (N _ _ a1)))))) _ rfl ?_))
       cases hl:HT.lexLt r.2 c with
       |false=>exact nI (no (by rw[ek,hl];rfl))
       |true=>exact hY ⟨l,(nM g _ _ rfl (J.trans s6) (a7 (by rw[ek,hl];rfl)))⟩
      ·have h1:¬r.1=d.1:=λz=>h1 (by rw[z]);rw[mT h1]at ek;exact⟨l,(nM g _ _ rfl (J.trans s6) (a7 (by rw[ek];rfl)))⟩
    ·rintro Z G5 f;refine mF f ?_;clear f;rintro l g C ⟨u,rfl,J,U⟩;rw[Paired.length pr,na]at U;refine qB _ _ l (nM g C u rfl (N.trans (X.trans (s4.trans J))) λc' a8=>?_);rw[mQ,hc]at a8;rcases mX.mp a8 with z|z
     ·exact ok c' z
     ·rw[mn.mp z];exact U
  ·rintro Z G f;refine nN f ?_;clear f;rintro o4 o5 l g C ⟨u,rfl,N,ok⟩;rw[dm,c3,na]at ok;have:=q G (s1.trans N);rw[show tT L O d=true by unfold tT;rw[List.all_eq_true];intro c hc;rw[List.all_eq_true];exact ok c hc]at this;exact this
def KL(H H':Hp):Prop:=∀b a,(H b=some (.lst a)->H' b=some (.lst a))/\(H b=some (.tup a)->H' b=some (.tup a))
mutual
theorem Rep.kl{H H':Hp}(f:KL H H'):∀{v:V}{d:PyData},Rep H v d->Rep H' v d|_,_,.non=>.non|_,_,.bl b=>.bl b|_,_,.int i=>.int i|_,_,.str x=>.str x|_,_,.lst e r=>.lst ((f _ _).1 e) (A3m.kl f r)|_,_,.tup e r=>.tup ((f _ _).2 e) (A3m.kl f r)
theorem A3m.kl{H H':Hp}(f:KL H H'):∀{vs:zM}{ds:List PyData},A3m H vs ds->A3m H' vs ds|_,_,.nil=>.nil|_,_,.cons a r=>.cons (Rep.kl f a) (A3m.kl f r)
end
theorem A7s.kl(f:KL H H')(h:A7s H v u):A7s H' v u:=by
 induction h with
 |num e=>exact .num ((f _ _).2 e)
 |place e=>exact .place ((f _ _).2 e)
 |read e r=>exact .read ((f _ _).2 e) (Rep.kl f r)
 |sum e _ i1=>exact .sum ((f _ _).2 e) i1
 |pair e _ _ i1 i2=>exact .pair ((f _ _).2 e) i1 i2
 |guard e _ _ i1 i2=>exact .guard ((f _ _).2 e) i1 i2
theorem AV{a:zW}(h:H a=some (.dK kvs)){u:HO}:KL H (upd H a u):=λb c=>⟨λe=>by rw[eh (mU e h (by intro z;cases z))];exact e,λe=>by rw[eh (mU e h (by intro z;cases z))];exact e⟩
structure TrD(H:Hp)(x:Abt)(L:zR)(nm:zC)(es:zB)(ab:zW)(tk:zJ)(ls:List Lt):Prop where
 d:H x.tr=some (.dK tk)
 p:Paired (λ(p:Key×V)(le:Lt)=>p.1=Sum.inr le.1/\D1g H x L nm es le p.2) tk ls
 nd:(ls.map (·.1)).Nodup
 n1:x.tr≠ab
 n2:x.tr≠x.ld
 n3:x.tr≠x.sh
theorem C1d.frz{x:Abt}{a:zJ}(h:C1d H ab x a L nm es)(t:TrD H x L nm es ab tk ls){u:HO}:C1d (upd H x.tr u) ab x a L nm es:=by obtain⟨k,c,i⟩:=h.sh;exact⟨by rw[eh t.n1.symm];exact h.d,by rw[eh t.n2.symm];exact h.le,h.ln,(cb k (by rw[eh t.n3.symm];exact c) (Paired.mapP i (by rintro _ _ ⟨e,b,f,j,g⟩;exact mW e b f j (((AV t.d) _ _).1 g)))),h.nd,h.ax⟩
theorem D1g.kl(f:KL H H'){x:Abt}(h:D1g H x L nm es le v):D1g H' x L nm es le v:=⟨h.tr.kl f,h.inn,h.mem,h.wk,h.gl,h.dp⟩
theorem wZ{x:Abt}{H:Hp}{L:zR}{nm:zC}{es:zB}:∀{tk:zJ}{ls:List Lt},Paired (λ(p:Key×V)(le:Lt)=>p.1=Sum.inr le.1/\D1g H x L nm es le p.2) tk ls->(ls.map (·.1)).Nodup->∀{i:Nat}{le:Lt},ls[i]?=some le->∃v,tk[i]?=some (Sum.inr le.1,v)/\D1g H x L nm es le v/\lW tk (Sum.inr le.1)=some v
 |_,_,.nil,_,i,le,h=>by simp at h
 |_,_,@Paired.cons _ _ _ p q ps qs r t,nd,i,le,h=>by
  obtain⟨k,v⟩:=p;obtain⟨a,e⟩:=r;have a:k=Sum.inr q.1:=a;subst a;rw[mi,tK]at nd
  cases i with
  |zero=>cases h;exact fx v rfl e (qx rfl)
  |succ i=>obtain⟨w,d,c,b⟩:=wZ t nd.2 (i:=i) h;refine fx w d c ?_;rw[qw (λz=>nd.1 (by rw[Sum.inr.inj z];exact List.mem_map_of_mem (me h)))];exact b
theorem Le:nJ ((c++d).map V.int) none (some (c.length:Int))=c.map V.int:=by unfold nJ;rw[HT.sIx_none,HT.sIx_nat,lR,Nat.min_eq_left (by simp)];show(((c.map V.int++d.map V.int).drop 0).take (c.length-0))=_;rw[ug,Nat.sub_zero,List.take_append_of_le_length (by simp)];exact rT (by simp)
theorem LR:nJ ((c++d).map V.int) (some (c.length:Int)) none=d.map V.int:=by unfold nJ;rw[HT.sIx_none,HT.sIx_nat,lR,Nat.min_eq_left (by simp)];rw[show(c.map V.int++d.map V.int).drop c.length=d.map V.int by rw[<-dm (as:=c) V.int,List.drop_left]];exact rT (by simp)
def Mh(ea:zW):Sp:=λb H Q _=>∃(p:zW)(c:zI),b=[.ref p]/\H p=some (.tup (c.map V.int))/\HdO (some ea) H/\∀a,A0l H a->Q (.bl true) a
def Iq(A:Adr)(ea:zW):Sp:=λs H Q _=>∃(k o p m:zW)(b:Bool)(x:Abt)(r t:zJ)(L:zR)(n:zC)(f:zB)(h:List Lt)(i:Nat)(g:Lt)(a:Str)(e:List Int×List Int)(c d:zI),s=[.ref ea,.ref k,.bl b]/\
 H ea=some (.ext (xcG ea (pe A b) (some o)))/\H o=some (.xd [("name",.str g.1),("array",.str a),("spot",.ref p),("cell",.ref m)])/\H p=some (.tup (e.1.map V.int))/\H m=some (.tup (e.2.map V.int))/\C1d H k x r L n f/\TrD H x L n f k t h/\(∀e∈f,e.2.length<=100)/\
 h[i]?=some g/\(∀(j:Nat)(l:Lt),j<i->h[j]?=some l->tT L f l=true)/\Ab L f g a b e c d/\∀q,A0l H q->Q (.bl true) q
theorem xgT(T:Txt K mg t)(b:Bool):rL K (pe t b) "name"/\rL K (pe t b) "array"/\rL K (pe t b) "spot"/\rL K (pe t b) "cell":=by
 cases b
 ·exact lX T.eX T.dF T.eZ T.dO
 ·exact lX T.gy T.fU T.gM T.gC
theorem FF(T:Txt K mg t)(ea:zW):A6q (some ea) P w K mg base nj 1 t.gE t.gv ["_law_found"] (Mh ea):=by
 refine T.dM.F.okO (e':=some ea) FK (λj A d s H q Q E o f h=>?_)
 ·refine lS h ?_;clear h;rintro p m rfl e l k;refine rsq (dh (lN (rz (nn (nK pW (by rfl) T.a6 oW (ad (pv 0) (ad (rS (v:=V.ty "tuple") rfl T.bh tL rfl) dt))))) (ef (hB oF)) ⟨hC⟩) (dh ⟨sy (ok:=vn ea) PassesOwn.never f (IJ (ea:=ea) (pv 0)) (hH (i:=1) FK.nd) (@mD _ _ _ (@pA _ _ _ _ _ _ _ _ (PW.pt (si (rz (nn (nK pW (by rfl) T.a6 oW (ad (pv 1) (ad (rS (v:=V.ty "int") rfl T.lD PyProof.Rows.boot_int rfl) dt))))) (uq (nn (nK pW (by rfl) T.a6 oW (ad (pv 1) (ad (rS (v:=V.ty "bool") rfl T.l0 PyProof.Rows.boot_bool rfl) dt))))))) (@mD _ _ _ (@sj _ _ _ _ oF)) hC))⟩ (ef (hB oF)))) ?_;refine md _ rfl _ _ _ _ rfl (.tup e) (wc "tuple") true rfl (hY ?_);refine mH _ rfl p rfl ⟨_,SqT.of e⟩ (KF (ea:=ea) (K:=K) (a:=p) (xs:=m.map V.int) (λi Z G=>∃c:zP,Z=[Sro p,c]/\A0l H G) (cb none rfl (A0l.refl _)) (by rintro i Z G ⟨_,_,b⟩;exact⟨SqT.of (b _ _ e),l.same b ea rfl⟩) ?_ ?_)
  ·rintro i y Z G g ⟨c,rfl,b⟩;obtain⟨n,r,rfl⟩:=oY g;refine md _ rfl _ _ _ _ rfl (.int _) (wc "int") true rfl ?_;refine md _ rfl _ _ _ _ rfl (.int _) (yt (by decide+kernel) (by decide+kernel) (by decide+kernel)) false rfl (hY ?_);exact cb _ rfl b
  ·rintro Z G ⟨c,rfl,b⟩;exact k G b
theorem NT(T:Txt K mg t)(ea:zW):A6q (some ea) P w K mg base nj 12 t.fH t.fm Ar (Iq t ea):=by
 have Gb1:=@ED P w K mg base t T (e:=some ea);have Ga8:=@FB P w K mg base t T (e:=some ea) 9;have Gb0:=@BC P w K mg base t T (e:=some ea) (kb:=false);have G2_l_lies:=@BC P w K mg base t T (e:=some ea) (kb:=true);refine T.aU.F.okO (e':=some ea) uB (λe6 A c8 s H vs Q E hr hh h=>?_)
 ·refine pZ h ?_;clear h;rintro Y C s0 X b x lk tk L ⟨nm,es,ls,i0,f,a,⟨c7,S⟩,c,d,rfl,r,I,hs,hc,m,U,a4,b0,gd,wt,k⟩;have D:=huO hr;obtain⟨g1,g2,g3,g4⟩:=xgT T b;have hO:HdO (some ea) H:=λe5 z=>by cases z;exact oi _ _ r
  obtain⟨ws,wm,wl,wf,c2,zs,wz,e8⟩:=wt;have ws:c7=c++d:=ws;subst ws;obtain⟨v,hv,lt,vv⟩:=wZ U.p U.nd b0;have e7:=Paired.length U.p;have nT:=(ml.mp b0).1;obtain⟨bz,gz,d9⟩:=m.shp wz;obtain⟨ak,f2,_⟩:=id m.sh;refine rsq (dh (lN (PW.pt (si (rz (nn (nK pW (by rfl) T.a6 oW (ad (qM (K:=K) rfl (pv 0) rfl) (ad (rS (v:=V.ty "str") rfl T.lA PyProof.Rows.boot_str rfl) dt))))) (si (AI (Bw D (qM (K:=K) rfl (pv 0) rfl) (mj D (pv 1) lV)) (by with_unfolding_all rfl)) (uq (AI (Bw D (qM (K:=K) rfl (pv 0) rfl) (mj D (pv 1) lV)) (by with_unfolding_all rfl)))))) (ef (hB oF)) ⟨hC⟩) (dh ⟨sy (ok:=vn ea) PassesOwn.never hh (Kn (ok:=vn ea) (mj D (pv 1) lV)) (hH (i:=3) uB.nd) (@pi _ _ _ _ _ (@pA _ _ _ _ _ _ _ _ (lZ nQ (pv 3) (qM (K:=K) rfl (pv 0) rfl)) (@mD _ _ _ Li) hC) (@mD _ _ _ (@pA _ _ _ _ _ _ _ _ (rz (nn (pco Gb1 hr hh T.gI (ad (pv 3) (eg 1))))) (@mD _ _ _ (@sj _ _ _ _ oF)) hC)))⟩ ⟨@Bd _ _ _ (@pi _ _ _ _ _ (@pA _ _ _ _ _ _ _ _ (PW.pt (si (rz (nn (pco (FF T ea) hr hh T.dM (ad (qM (K:=K) rfl (pv 0) rfl) dt)))) (uq (rz (nn (pco (FF T ea) hr hh T.dM (ad (qM (K:=K) rfl (pv 0) rfl) dt))))))) (@mD _ _ _ (@sj _ _ _ _ oF)) hC) (@pi _ _ _ _ _ (@pR _ _ 4 _ _ _ _ uB.nd rfl (.inl rfl) (mj D (mj D (pv 1) lV) (qM (K:=K) rfl (pv 0) rfl)) rfl (.inl rfl)) (@pi _ _ _ _ _ (@pR _ _ 5 _ _ _ _ uB.nd rfl (.inl rfl) (qN vz (by rfl) T.b_ tF (ad (qM (K:=K) rfl (pv 0) rfl) dt)) rfl (.inl rfl)) (@pi _ _ _ _ _ (@pA _ _ _ _ _ _ _ _ (PW.pt (si (lZ vg (oA T.aK (eg 5)) (oA T.aK (eg 4))) (uq (rz (nn (pco G2_l_lies hr hh T.d_ (ad (pV qg (pv 5) pS (pB (oA T.aK (eg 4)))) (ad (pv 4) (ad (mj D (pv 1) lV) dt))))))))) (@mD _ _ _ (@sj _ _ _ _ oF)) hC) (@pi _ _ _ _ _ (@pR _ _ 6 _ _ _ _ uB.nd rfl (.inl rfl) wg rfl (.inl rfl)) (@pi _ _ _ _ _ (sy (ok:=vn ea) PassesOwn.never hh (AZ (e:=some ea) (k1:=true) (k2:=true) rfl T.ig (ad (pv 4) (eg 5))) (DI (ea:=ea) (n:=2) hh (mV (hH (i:=7) uB.nd) (mV (hH (i:=8) uB.nd) pT))) (@mD _ _ _ (@su _ _ _ _ _ _ _ _ _ D (pv 6) (pv 7) (pv 8) rfl))) (@pi _ _ _ _ _ (@pR _ _ 9 _ _ _ _ uB.nd rfl (.inl rfl) (oQ (ad (qM (K:=K) rfl (pv 0) rfl) (ad (qM (K:=K) rfl (pv 0) rfl) dt))) rfl (.inl rfl)) (@pi _ _ _ _ _ (@pA _ _ _ _ _ _ _ _ (rz (nn (pco Ga8 hr hh T.bc (ad (mj D (mj D (pv 1) lV) (qM (K:=K) rfl (pv 0) rfl)) (ad (pv 6) (ad (pV qg (pv 5) (pB (oA T.aK (eg 4))) pS) (ad (pv 9) (ad (mj D (pv 1) lV) dt)))))))) (@mD _ _ _ (@sj _ _ _ _ oF)) hC) (@pi _ _ _ _ _ (@pR _ _ 10 _ _ _ _ uB.nd rfl (.inl rfl) (pco Gb0 hr hh T.d_ (ad (qM (K:=K) rfl (pv 0) rfl) (ad (mj D (mj D (pv 1) lV) (qM (K:=K) rfl (pv 0) rfl)) (ad (mj D (pv 1) lV) dt)))) rfl (.inl rfl)) (@pi _ _ _ _ _ (@pA _ _ _ _ _ _ _ _ (nn (pv 2)) (@mD _ _ _ (@sj _ _ _ _ (rm (sH nQ (qM (K:=K) rfl (pv 0) rfl) (qM (K:=K) rfl (pv 0) rfl)) (rm (pv 10) (tW (yh (sH (AG (Nat.lt_of_succ_lt D)) (qM (K:=K) rfl (pv 0) rfl) (qN wA (by rfl) T.bh tL (ad (pV qg (pv 5) pS (pB (oA T.aK (eg 4)))) dt))))))))) hC) (@mD _ _ _ (@sj _ _ _ _ (yh (pv 10))))))))))))))⟩)) ?_;refine hP _ rfl ea (pe t b) C _ (.str f.1) rfl r I (by walk_at"lk") g1 ⟨_,(pb _ _ _ rfl (nu (.str _) (wc "str") true rfl ?_))⟩;refine hP _ rfl ea (pe t b) C _ (.str f.1) rfl r I (by walk_at"lk") g1 (lL _ rfl Y _ rfl (m.get (wd x)) (ot x.tr (some v) rfl (.inl (dV tk (Sum.inr f.1) (.inl U.d) rfl vv.symm)) _ rfl (hY ?_)));refine hP _ rfl ea (pe t b) C _ (.str a) rfl r I (by walk_at"lk") g2 (lL _ rfl Y _ rfl (m.get (uy x)) (ot x.sh (some (.ref bz)) rfl gz _ rfl (hY ?_)));refine lL _ rfl Y _ rfl (m.get (wd x)) (dV x.tr tk rfl U.d λo=>?_);refine Lu (a:=x.tr) (o:=o) (kvs:=tk) (λi Z G=>i<=i0/\∃o3:zP,Z=[Sro ea,Sro Y,Sbo b,o3,none,none,none,none,none,none,none]/\A0l (upd H x.tr (.frz o (.dK tk))) G) (kB (pG _) none rfl (A0l.refl _)) (by rintro i Z G ⟨hi,_,_,s1⟩;exact⟨s1 _ _ cp,by lia⟩) ?_;rintro i k' v' Z G b4 ⟨hi,o3,rfl,s1⟩;refine oJ ?_;intro D';obtain⟨l,hl⟩:∃l,ls[i]?=some l:=⟨ls[i]'(by lia),nP _⟩;obtain⟨vl,d3,c5,e3⟩:=wZ U.p U.nd hl;rw[d3]at b4;cases b4;have fr:∀{p:zW}{u:HO},(∀kvs,u≠.dK kvs)->H p=some u->G p=some u:=λ{p u} n e=>s1 _ _ (by rw[eh (mU e U.d (n tk))];exact e);have a9:=fr (by intro kvs z;cases z) r;have b8:=fr (by intro kvs z;cases z) I;refine oS _ rfl _ rfl ea (pe t b) C _ (.str f.1) rfl a9 b8 (by walk_at"lk") g1 (kB rfl _ rfl (lT (λh1=>?_) (λh1=>?_)))
  ·
   have h1:l.1=f.1:=by injection h1
   refine nM x.tr o tk (s1 _ _ cp) (λo' u' z=>by have z:H x.tr=some (.frz o' u'):=z;rw[U.d]at z;cases z) ?_;have s2:=Fj U.d s1;generalize upd G x.tr (.dK tk)=G1 at s2;clear fr a9 b8 s1;obtain⟨bx,sx,J⟩:=m.shp lt.mem;have lc:=(tD _ c wm).1;rw[dm]at lc;have e4:=m.tells lt.mem;have d4:((shp es a).getD [])=zs:=by rw[yj m.nd wz];rfl
   rw[d4]at wf c2;have e9:((c++d).map V.int).length=c.length+d.length:=by rw[dm,mx]
   have b7:(f.2.1.map V.str).length=f.2.1.length:=dm ..;refine hP _ rfl ea (pe t b) C _ (.ref s0) rfl (s2 _ _ r) (s2 _ _ I) (by walk_at"lk") g3 (lQ s0 _ rfl (s2 _ _ hs) (hO.same s2) λH2 s3=>(cb _ rfl ?_));have N:=s2.trans s3;refine hP _ rfl ea (pe t b) C _ (.ref X) rfl (N _ _ r) (N _ _ I) (by walk_at"lk") g4 (lQ X _ rfl (N _ _ hc) (hO.same N) λH3 s4=>(cb _ rfl ?_));have B:=N.trans s4;clear s2 s3 N s4;refine lL _ rfl Y _ rfl ((m.same B).get (uy x)) (hP _ rfl ea (pe t b) C _ (.str f.1) rfl (B _ _ r) (B _ _ I) (by walk_at"lk") g1 (dV x.sh _ rfl (AN B sx) ?_));refine hP _ rfl ea (pe t b) C _ (.ref s0) rfl (B _ _ r) (B _ _ I) (by walk_at"lk") g3 (dV s0 _ rfl (.inr (SqT.of (B _ _ hs))) λsp d6=>?_);have s5:=B.trans (ed (o:=.lst ((c++d).map V.int)) d6);have h5:upd H3 sp (.lst ((c++d).map V.int)) sp=some (.lst ((c++d).map V.int)):=cp;generalize upd H3 sp (.lst ((c++d).map V.int))=H5 at s5 h5⊢;refine lL _ rfl sp _ rfl (.inl (SqL.of h5)) (lL _ rfl bx _ rfl (.inl (SqL.of (s5 _ _ J))) (ot _ _ rfl rfl _ rfl (lT (λh=>?_) (λ_=>?_))))
   ·have h:(((c++d).map V.int).length:Int)<((f.2.1.map V.str).length:Int):=h
    lia
   refine nh _ rfl _ rfl bx _ rfl (.inl (SqL.of (s5 _ _ J))) (lL _ rfl sp _ rfl (SqL.of h5) λq1 b3=>?_)
   have b6:nJ ((c++d).map V.int) none (some ((f.2.1.map V.str).length:Int))=c.map V.int:=by rw[b7,<-lc];exact Le
   rw[b6];have s6:=s5.trans (ed (o:=.lst (c.map V.int)) b3);have h6:=ed (o:=.lst (c.map V.int)) b3 _ _ h5;have a8:upd H5 q1 (.lst (c.map V.int)) q1=some (.lst (c.map V.int)):=cp;generalize upd H5 q1 (.lst (c.map V.int))=H6 at s6 h6 a8⊢;have d7:inR c (f.2.1.map L)=true:=Ei λj y n e1 e2=>(tD _ c wm).2 j y n e1 e2;refine nh _ rfl _ rfl Y _ rfl ((m.same s6).get (wr x)) (pM (hO.same s6) q1 ⟨bx,(nL x.ld c f.2.1 lk L rfl (SqL.of a8) (s6 _ _ J) (s6 _ _ m.le) e4 λH7 s7=>(cb _ rfl ?_))⟩);rw[d7];refine hY ?_;have O:=s6.trans s7;have h7:=s7 _ _ h6;clear s5 h5 h6 a8;refine λdn a1=>?_;have s8:=O.trans (ed (o:=.dK []) a1);have f1:H dn=none:=O.free a1;have h8:=ed (o:=.dK []) a1 _ _ h7;refine cb _ rfl (nC _ rfl bx sp _ _ rfl (SqL.of (s8 _ _ J)) (SqL.of h8) (Bb (e:=some ea) (K:=K) (k1:=true) (k2:=true) (a:=bx) (b:=sp) (xs:=f.2.1.map V.str) (ys:=(c++d).map V.int) (λj Z G3=>∃o7 o8:zP,Z=[Sro ea,Sro Y,Sbo b,Sso l.1,Sro bx,Sro sp,Sro dn,o7,o8,none,none]/\A0l H7 G3/\G3 dn=some (.dK (py (f.2.1.take j) ((c++d).take j)))) (dV none none rfl (ed a1) cp) (by (refine λj Z G3 zz=>ei zz λ_ _ _ s9 _=>?_;clear zz);exact fI (SqL.of (s9 _ _ (O _ _ J))) (SqL.of (s9 _ _ h7)) (hO.same (O.trans s9))) ?_ ?_))
   ·rintro j v1 v2 Z G3 p c6 d2 zz;refine ei zz ?_;clear zz;rintro o7 o8 rfl s9 h9 hp;obtain⟨y,hy,rfl⟩:=oY c6;obtain⟨kk,hk,rfl⟩:=oY d2;have b2:=s9.trans (ed (o:=.tup [V.str y,.int kk]) hp);have d0:=ed (o:=.tup [V.str y,.int kk]) hp _ _ h9;have el:=yG (f.2.1.take j) ((c++d).take j);rw[mK]at el;have gf:=lt.gl.few;rw[dm]at gf;refine mJ p _ rfl (SqT.of cp) rfl (oi _ _ ((O.trans b2) _ _ r)) ⟨_,(lL _ rfl _ _ rfl rfl ?_)⟩;refine i12 _ rfl _ rfl _ rfl dn _ rfl (C0j.k (k:=Sum.inr y) d0 (mC (by lia))) ?_;exact dV _ _ rfl (mu b2 a1) (by rw[cp,Ea hy hk])
   ·rintro Z G3 zz;refine ei zz ?_;clear zz;rintro o7 o8 rfl s9 h9;rw[show min (f.2.1.map V.str).length ((c++d).map V.int).length=f.2.1.length by lia,na,<-lc,List.take_left]at h9;have a0:=O.trans s9;have a7:=s9 _ _ h7;have gf:=lt.gl.few;rw[dm]at gf;have el:=yG f.2.1 c;refine hP _ rfl ea (pe t b) C _ (.str a) rfl (a0 _ _ r) (a0 _ _ I) (by walk_at"lk") g2 (hP _ rfl ea (pe t b) C _ (.ref X) rfl (a0 _ _ r) (a0 _ _ I) (by walk_at"lk") g4 ⟨kr rfl,λgp e0=>?_⟩);have sg:=ed (o:=.tup [V.str a,.ref X]) e0;have a5:upd G3 gp (.tup [V.str a,.ref X]) gp=some (.tup [V.str a,.ref X]):=cp;generalize upd G3 gp (.tup [V.str a,.ref X])=G4 at sg a5⊢;have R:=a0.trans sg;refine lL _ rfl Y _ rfl ((m.same R).get (wd x)) (hP _ rfl ea (pe t b) C _ (.str f.1) rfl (R _ _ r) (R _ _ I) (by walk_at"lk") g1 (dV x.tr _ rfl (.inl (dV tk (Sum.inr f.1) (.inl (R _ _ U.d)) rfl vv.symm)) (i12 _ rfl _ rfl _ rfl bx _ rfl (.inl (SqL.of (R _ _ J))) (lL _ rfl sp _ rfl (SqL.of (sg _ _ a7)) λq2 c1=>?_))))
    have c4:nJ ((c++d).map V.int) (some ((f.2.1.map V.str).length:Int)) none=d.map V.int:=by rw[b7,<-lc];exact LR
    rw[c4];have M:=R.trans (ed (o:=.lst (d.map V.int)) c1);have a2:=ed (o:=.lst (d.map V.int)) c1;have a3:upd G4 q2 (.lst (d.map V.int)) q2=some (.lst (d.map V.int)):=cp;generalize upd G4 q2 (.lst (d.map V.int))=G5 at M a2 a3⊢;have W:WkT G5 dn x.ld f.2.2 (py f.2.1 c) lk L nm f.2.1 es f.1 true true 9:=⟨lt.dp,a2 _ _ (sg _ _ h9),by lia,λy hy=>yi lc hy,lt.inn.tr,(m.ax _ lt.mem).sub,M _ _ m.le,m.ln,a4⟩;refine nh _ rfl _ rfl Y _ rfl ((m.same M).get (wr x)) ⟨hO.same M,(qB v dn q2 (oT gp X x.ld f.2.2 _ lk L nm _ (qo es f.1 true true d a S rfl (lt.tr.same M) W a3 (a2 _ _ a5) (M _ _ hc) λf3 b9=>(cb _ rfl ?_))))⟩;rw[wl];refine hY ?_;have g:=M.trans b9;have b1:=b9 _ _ (a2 _ _ (sg _ _ a7));refine hP _ rfl ea (pe t b) C _ (.ref X) rfl (g _ _ r) (g _ _ I) (by walk_at"lk") g4 (lL _ rfl Y _ rfl ((m.same g).get (uy x)) (hP _ rfl ea (pe t b) C _ (.str a) rfl (g _ _ r) (g _ _ I) (by walk_at"lk") g2 (ot x.sh _ rfl (AN g gz) _ rfl (lQ Y _ rfl ((m.same g).get (wr x)) (hO.same g) (oi X bz (nL x.ld S zs lk L rfl (SqT.of (g _ _ hc)) (g _ _ d9) (g _ _ m.le) (m.tells wz) λf0 b5=>?_))))));have q:=g.trans b5
    cases b with
    |true=>obtain⟨t1,t2,t3⟩:=c2 rfl;have t2:inR S (zs.map L)=true:=t2;have t3:HT.lexLt S c=false:=t3;refine mE _ rfl true rfl (nI ?_);refine hP _ rfl ea (pe t true) C _ (.str a) rfl (q _ _ r) (q _ _ I) (by walk_at"lk") g2 (hP _ rfl ea (pe t true) C _ (.str f.1) rfl (q _ _ r) (q _ _ I) (by walk_at"lk") g1 (kB rfl _ rfl (lT (λ_=>?_) (λz=>absurd (by rw[t1]) z))));refine mE _ rfl _ rfl ?_;rw[t2];refine nI ?_;refine hP _ rfl ea (pe t true) C _ (.ref X) rfl (q _ _ r) (q _ _ I) (by walk_at"lk") g4 (nh _ rfl _ rfl bx _ rfl (.inl (SqL.of (q _ _ J))) (lL _ rfl sp _ rfl (SqL.of (b5 _ _ b1)) λq3 d5=>?_));rw[b6];refine mL q3 _ rfl (.inl ⟨SqL.of cp,λtp c9=>?_⟩);have c3:=q.trans ((ed (o:=.lst (c.map V.int)) d5).trans (ed (o:=.tup (c.map V.int)) c9));refine nD X tp S c rfl rfl (SqT.of (c3 _ _ hc)) (SqT.of cp) (cb _ rfl ?_);rw[t3];exact k _ c3
    |false=>have t1:inR S (zs.map L)=false:=wf rfl;refine mE _ rfl false rfl (hY ?_);refine mE _ rfl _ rfl ?_;rw[t1];exact k _ q
  ·have h1:¬l.1=f.1:=λz=>h1 (by show V.str l.1=V.str f.1;rw[z])
   have ni:i≠i0:=λz=>by subst z;rw[b0]at hl;cases hl;exact h1 rfl
   have d8:=(m.frz U (u:=.frz o (.dK tk))).same s1;have d1:=(c5.kl (AV U.d (u:=.frz o (.dK tk)))).same s1;refine mH _ rfl _ rfl (λe5 z=>by cases z;exact(oi _ _ a9)) (qB Y x lk (nL L nm es l _ rfl d8 (.inl (dV tk (Sum.inr l.1) (.inr ⟨o,s1 _ _ cp⟩) rfl e3.symm)) d1 a4 λH2 s2=>(cb _ rfl ?_)));rw[gd i l (by lia) hl];exact hY (kB (by lia) _ rfl (s1.trans s2))
def IxV(H0 G:Hp):zM->List (Str×Int)->Prop:=Paired λ(v:V)(e:Str×Int)=>∃q,v=.ref q/\Nw H0 q/\G q=some (.tup [.str e.1,.int e.2])
theorem IxV.kt{a:Hp}{ys:zM}(h:IxV H0 G ys ix)(k:KT G a):IxV H0 a ys ix:=Paired.mapP h (by rintro _ _ ⟨q,e,c,b⟩;exact fx q e c (k _ _ b))
theorem IxV.rep{ys:zM}(h:IxV H0 G ys ix):A3m (lU (Nw H0) G) ys (ix.map pf):=by
 unfold IxV at h
 induction h with
 |nil=>exact .nil
 |cons r _ ih=>obtain⟨q,rfl,a,b⟩:=r;exact .cons (.tup (mq a b) (.cons (.str _) (.cons (.int _) .nil))) ih
structure KJ(D:zW)(H H':Hp):Prop where
 ki:KI H H'
 kb:∀b u,b≠D->H b=some u->H' b=some u
theorem KJ.of(s:A0l H H'):KJ D H H':=⟨KI.of s,λb u _ e=>s b u e⟩
theorem KJ.trans(a:KJ D H H')(b:KJ D H' H2):KJ D H H2:=⟨a.ki.trans b.ki,λc u n e=>b.kb c u n (a.kb c u n e)⟩
theorem tj(a:H D=some (.lst (ms.map V.int)))(o:Oth D H H')(e:ms=[]->H'=H):KJ D H H':=⟨J3 a o e,λb u n y=>by rw[o b n];exact y⟩
theorem KJ.str(k:KJ D H H')(e:H b=some (.lst (ys.map V.str))):H' b=some (.lst (ys.map V.str)):=k.ki.str e
theorem KJ.dk(k:KJ D H H')(e:H b=some (.dK kvs)):H' b=some (.dK kvs):=k.ki.dk e
theorem KI.kt(k:KI H H'):KT H H':=λb c e=>k b _ (by intro n a z;cases z) e
theorem KJ.kt(k:KJ D H H'):KT H H':=k.ki.kt
theorem Cq{α β:Type}{F:α->β->Prop}:∀{a:List α}{b:List β}(n:Nat),Paired F a b->Paired F (a.drop n) (b.drop n)|_,_,0,h=>h|_,_,_+1,.nil=>.nil|_,_,n+1,.cons _ t=>Cq n t
theorem LP{es:List (α×β)}{a:α}{x y:β}(c:(es.map (·.1)).Nodup)(h1:(a,x)∈es)(h2:(a,y)∈es):x=y:=by
 induction es with
 |nil=>cases h1
 |cons e r ih=>
  rw[mi,tK]at c;rcases lY.mp h1 with b|b<;>rcases lY.mp h2 with d|d
  ·rw[<-d]at b;exact(Prod.mk.inj b).2
  ·rw[<-b]at c;exact absurd (List.mem_map_of_mem (f:=(·.1)) d) c.1
  ·rw[<-d]at c;exact absurd (List.mem_map_of_mem (f:=(·.1)) b) c.1
  ·exact ih c.2 b d
theorem smK(h:z.natAbs<=1000):Sm z:=oU h (by decide)
theorem L5{p:Nat}(h:p<=xs.length):nJ xs (some (p:Int)) none=xs.drop p:=by unfold nJ;rw[HT.sIx_none,HT.sIx_nat,Nat.min_eq_left h];exact rT (by rw[uI];lia)
theorem ye:(0:Int)<10^(30:Int).toNat:=by decide+kernel
theorem Di(c:Int):Sm (c%10^(30:Int).toNat):=by
 have b:=rH c (show(10:Int)^(30:Int).toNat≠0 by decide+kernel);have d:=sP c ye;have a:((10:Int)^(30:Int).toNat)<=10^32:=by decide+kernel
 unfold Sm
 lia
def IxB(bs:zC)(e:Str×Int):Prop:=(¬e.1=""->e.1∈bs)/\e.2.natAbs<=60
structure Grn(nm:zC)(es:zB)(own:Str)(bs:zC)(tp st:Bool)(d n:Nat)(u:Tm):Prop where
 tr:B1x nm es own bs tp st u
 gd:uJ u
 dp:dep u<=d
 no:nod u<=n
theorem Grn.num{bs:zC}{d:Nat}(h:Sm z)(a:1<=d)(b:1<=n):Grn nm es own bs tp st d n (.num z):=⟨h,h,a,b⟩
structure Gr(H:Hp)(D ab b:zW)(ms:zI)(x:Abt)(L:zR)(nm:zC)(es0:zB)(oy bs:zC):Prop where
 d:H D=some (.lst (ms.map V.int))
 a:D9w H ab x L nm (es0.map (·.1)) (es0++[(x.own,oy)])
 e:D9x L nm (es0++[(x.own,oy)])
 b:H b=some (.lst (bs.map V.str))
 bn:∀y∈bs,y∈nm
 nk:∀y∈nm,qU y
 lb:bs.length<=100
 ob:∀y∈oy,y∈bs
def Ed:Sp:=λk H Q _=>∃(D h b:zW)(top:Bool)(i:zI)(x:Abt)(L:zR)(g:zC)(a:zB)(e f:zC),k=[.ref D,.ref h,.ref b,.bl top]/\Gr H D h b i x L g a e f/\
 ∀(v:V)(u:Tm)(d:zI)(c:Hp),(∀j,Grn g (a++[(x.own,e)]) x.own f top j 4 7 u)->KJ D H c->c D=some (.lst (d.map V.int))->A7s (lU (Nw H) c) v u->Q v c
theorem Mm(T:Txt K mg t):FO P w base T.gx 2 Ed:=by
 refine T.gx.F.ok qh λ_ A _ s H _ Q E hr h=>?_
 ·refine pZ h ?_;clear h;rintro D ab b top ms x L nm R ⟨oy,X,rfl,⟨hD,ap,ok,hb,m6,l7,lb,k0⟩,k⟩;have hu:=qW hr;have j6:=ok.few;obtain⟨lk,i1,c8⟩:=ap.le;obtain⟨ak,i7,ar⟩:=ap.sh;have I:(x.own,oy)∈R++[(x.own,oy)]:=pH _ (.head _);have b7:∀e∈R,e∈R++[(x.own,oy)]:=λe B=>qk _ B
  have h3:x.own∉R.map (·.1):=by have:=ok.nd;rw[lR,qp]at this;intro z;exact this.2.2 _ z _ (mn.mpr rfl) rfl
  have n0:R.length<=20:=by rw[mx]at j6;lia
  generalize hes:R++[(x.own,oy)]=es at ap ok k ar I b7;refine rsq (dh (hK 4 qh.nd (pcl (yM T) hr T.aN (eg 0))) (dh (hK 5 qh.nd (qN vz (by rfl) T.b_ tF (ad (mj hu (pv 1) lV) dt))) (qy (lN (PW.pt (tV (nn (pv 3)) (ua (lZ uO (oA T.aK (ad (mj hu (mj hu (pv 1) lV) (mj hu (pv 1) lV)) dt)) ew)))) (ef ⟨oa (qI qR sS sR sI (pv 5) (ad (mj hu (pv 1) lV) dt))⟩) ⟨hC⟩) (dh (lN (lZ nQ (oA T.aK (eg 5)) ew) (ef (hB (oQ (ad lV (ad (eB ny (pv 4) (eB wU ew ew)) dt))))) ⟨hC⟩) (dh (hK 6 qh.nd (qv sF (pv 5) (eB ny (pv 4) (oA T.aK (eg 5))))) (dh (hK 7 qh.nd (mj hu (mj hu (pv 1) lV) (pv 6))) (dh (hK 8 qh.nd (eB rO (pv 2) (@oG _ _ _ _ (ad lV dt)))) (dh (hK 9 qh.nd (@oG _ _ _ _ dt)) (dh (pX (uV rfl T.bi (ad (oA T.aK (eg 7)) dt)) (hH (i:=10) qh.nd) (dh (hK 11 qh.nd (pcl (yM T) hr T.aN (eg 0))) (dh (hK 12 qh.nd (qv sF (pv 8) (eB ny (pv 11) (oA T.aK (eg 8))))) (dh (hK 13 qh.nd (eB tX (eB ny (eB pL (pv 11) ew) ew) ew)) (qy (lN (lZ nQ (pv 12) lV) (ef (hK 13 qh.nd (eB ny (eB pL (pv 11) ew) (mj hu (mj hu (pv 1) lV) (qv sF (pv 7) (pv 10)))))) ⟨hC⟩) (ef ⟨oa (qI qR sS sR sI (pv 9) (ad (oQ (ad (pv 12) (eg 13))) dt))⟩)))))) (qy (lN (PW.pt (tV (lZ nQ (pv 6) (mj hu (pv 1) lV)) (ua (lZ nQ (eB ny (eB pL (pv 4) ew) ew) ew)))) (dh (hK 14 qh.nd (eB ny (eB pL (pv 4) ew) (oA T.aK (eg 7)))) (ef (hK 9 qh.nd (eB rO (eB rO (pC (N':=["_law_name_here"]) (ix:=(List.replicate 1 none)) rfl (re rfl (by decide+kernel) (by decide+kernel)) (rc rfl) (nR (pV qg (pv 7) pS (pB (pv 14)))) (λ_ _ _ _=>(hH (i:=0) Nl)) (λ_ _ _ _=>(oQ (ad (pv 0) (ad ew dt))))) (@oG _ _ _ _ (ad (oQ (ad (qv sF (pv 7) (pv 14)) (ad (Ct CL ew) dt))) dt))) (pV qg (pv 9) (pB (eB oM (pv 14) ew)) pS))))) ⟨hC⟩) (dh (hK 16 qh.nd (oQ (ad lV (ad (pv 6) (eg 9))))) (qy (lN (lZ vL (eB ny (eB pL (pv 4) ew) ew) ew) (ef (pX (Lj rfl T.ig (ad (pv 9) (eg 7))) (qY (n:=2) rfl (mV (hH (i:=17) qh.nd) (mV (hH (i:=15) qh.nd) pT))) (ef (lN (lZ vL (pit 17) lV) (dh (hK 18 qh.nd (eB tX (mj hu (mj hu (pv 1) lV) (pv 15)) (pit 17))) (ef (hK 16 qh.nd (oQ (ad lV (ad (pit 17) (ad (Ct CL (pit 17)) (ad (pv 18) (ad (pv 16) (ad (oQ (ad lV (ad (eB ny (pv 4) ew) dt))) dt)))))))))) ⟨hC⟩)))) ⟨hC⟩) (ef (hB (pv 16))))))))))))))) ?_;refine lL _ rfl D ms rfl hD λc h7 H1 l1 h1 o1 e1=>?_;have k1:=tj hD o1 e1;have a1:=ap.ki k1.ki;refine lL _ rfl ab _ rfl (a1.get (Bk x)) (dV x.ah _ rfl (.inl (SqL.of a1.ah)) λK0 g1=>?_);obtain⟨H2,l,d3,S⟩:=nH (o:=.lst ((R.map (·.1)).map V.str)) g1
  try rw[S]
  have k2:=k1.trans (KJ.of l);have a2:=ap.ki k2.ki
  have c0:∀z∈R.map (·.1),∃ys,(z,ys)∈es/\(z=x.own->top=true/\oy≠[]):=λz hz=>by obtain⟨e,B,rfl⟩:=pd.mp hz;exact cb e.2 (b7 e B) λz=>absurd (by rw[<-z];exact hz) h3
  obtain⟨co,m1,_,j4⟩:=yu (Paired.mapP ar (by rintro _ _ ⟨z1,b,z2,z3,z4⟩;exact mW z1 b z2 z3 (k2.str z4)):AR (λb=>b≠x.ah) H2 ak es) ok.nd I;have i3:A8f H2 x.sh (.str x.own) (some (.ref co)):=.inl (dV ak (Sum.inr x.own) (.inl (k2.dk i7)) rfl m1.symm);refine cb (λZ H3=>∃(kn:zC),Z=[Sro D,Sro ab,Sro b,Sbo top,Sio c,Sro K0,none,none,none,none,none,none,none,none,none,none,none,none,none]/\A0l H1 H3/\H3 K0=some (.lst (kn.map V.str))/\kn.length<=22/\∀z∈kn,∃ys,(z,ys)∈es/\(z=x.own->top=true/\oy≠[])) ?_ ?_
  ·refine mE _ rfl top rfl (wJ (λht=>?_) (λ_=>hY ⟨_,(lP rfl l d3 (by rw[dm];lia) c0)⟩));refine lL _ rfl ab _ rfl (a2.get (uy x)) (lL _ rfl ab _ rfl (a2.get (AE x)) (mL x.sh _ rfl (nE i3 co _ rfl (.inl (SqL.of j4)) (ot _ _ rfl rfl _ rfl (lT (λh0=>?_) (λh0=>⟨_,(lP rfl l d3 (by rw[dm];lia) c0)⟩))))));have m5:oy≠[]:=λz=>by rw[z]at h0;exact absurd (show(0:Int)<0 from h0) (by decide)
   refine fx _ rfl (.inl (pM rfl _ (SqL.of d3))) (lL _ rfl ab _ rfl (a2.get (AE x)) (oq K0 _ _ rfl rfl d3 (mC (by simp;lia)) ?_));refine⟨R.map (·.1)++[x.own],(lP rfl (mu l g1) (by rw[cp,lR];rfl) (by simp;lia) λz hz=>?_)⟩;rcases mX.mp hz with hz|hz
   ·exact c0 z hz
   ·have:z=x.own:=by simpa using hz
    exact cb oy (by rw[this];exact I) λ_=>⟨ht,m5⟩
  rintro Z H3 J;refine nw J ?_;clear J;rintro kn rfl s3 ⟨f3,n3,l2⟩;have k3:=k1.trans (KJ.of s3);have a3:=ap.ki k3.ki;have h8:=s3 _ _ h1;refine qi _ rfl K0 _ rfl (.inl (SqL.of f3)) rfl _ rfl (lT (λ_=>?_) (λf5=>?_))
  ·refine qz _ rfl _ _ rfl rfl (fI (by decide) (by decide) (by decide)) _ _ rfl rfl ye ⟨kr rfl,λp hp=>?_⟩;exact k (.ref p) (.num (c%10^(30:Int).toNat)) h7 _ (λl=>Grn.num (Di c) (by decide) (by decide)) (k3.trans (KJ.of (ed hp))) ((ed hp) _ _ h8) (.num (mq (rB k3.ki hp) cp))
  have m9:0<kn.length:=by
   rcases Nat.eq_zero_or_pos kn.length with z|z
   ·exact absurd (by rw[dm,z];rfl) f5
   ·exact z
  obtain⟨arr,l8,i9⟩:=vV (f:=V.str) (xs:=kn) (i:=c%(kn.length:Int)) (rH _ (by lia)) (sP _ (by lia));obtain⟨d,b6,e6⟩:=l2 arr (me l8);refine i12 _ rfl _ rfl _ rfl K0 _ rfl (.inl (SqL.of f3)) (lQ _ _ rfl rfl (by show(0:Int)<((kn.map V.str).length:Int);rw[dm];lia) (nD K0 _ _ _ rfl rfl (SqL.of f3) (by rw[dm];exact i9) ?_));obtain⟨W,k6,n1,f6⟩:=yu (Paired.mapP ar (by rintro _ _ ⟨z1,b,z2,z3,z4⟩;exact mW z1 b z2 z3 (k3.str z4)):AR (λb=>b≠x.ah) H3 ak es) ok.nd b6;have f6:H3 W=some (.lst (d.map V.str)):=f6;have gz:A8f H3 x.sh (.str arr) (some (.ref W)):=.inl (dV ak (Sum.inr arr) (.inl (k3.dk i7)) rfl k6.symm);have f4:=ok.ax _ b6;have n4:d.length<=3:=f4.few;refine lL _ rfl ab _ rfl (a3.get (uy x)) (lL _ rfl x.sh _ rfl gz ?_);refine fx _ rfl (kr rfl) λel m7=>?_;have t3:A0l H3 (upd H3 el (.lst [.str ""])):=ed m7;refine og b el _ _ rfl rfl (t3 _ _ (k3.str hb)) cp (lK (by rw[dm];show X.length+1<=1000000;lia)) λsl m0=>?_;have t4:A0l (upd H3 el (.lst [.str ""])) (upd (upd H3 el (.lst [.str ""])) sl (.lst (X.map V.str++[.str ""]))):=ed m0;have c5:upd (upd H3 el (.lst [.str ""])) sl (.lst (X.map V.str++[.str ""])) sl=some (.lst ((X++[("":Str)]).map V.str)):=by rw[cp,lR];rfl
  have d0:=t3.trans t4;generalize upd (upd H3 el (.lst [.str ""])) sl (.lst (X.map V.str++[.str ""]))=H4 at d0 c5;clear t3 t4;have k4:=k3.trans (KJ.of d0);have i6:=d0 _ _ h8;have b5:=d0 _ _ f6;refine⟨kr rfl,λil M=>?_⟩;have f7:il≠D:=(lO i6 M).symm;have d8:il≠sl:=(lO c5 M).symm;have e0:il≠W:=(lO b5 M).symm;have d9:∀{bb:zW}{u:HO},(∀n xs,u≠.lst (V.int n::xs))->H bb=some u->bb≠il:=λn e=>lO (k4.ki _ _ n e) M;have e5:∀{bb:zW}{u:HO},bb≠D->H bb=some u->bb≠il:=λn e=>lO (k4.kb _ _ n e) M;refine lL _ rfl W _ rfl (.inl (SqL.of ((ed M) _ _ b5))) (nr _ rfl (by lia) (by rw[dm];lia) ?_)
  refine yR (n:=(d.map V.str).length) (λi Z H8=>∃(a8 a9 b2 b4:zP)(b1:zI)(ys:zM)(ix:zL),Z=[Sro D,Sro ab,Sro b,Sbo top,Sio c,Sro K0,Sso arr,Sro W,Sro sl,Sro il,a8,a9,b2,b4,none,none,none,none,none]/\KJ D H H8/\H8 D=some (.lst (b1.map V.int))/\H8 sl=some (.lst ((X++[("":Str)]).map V.str))/\H8 W=some (.lst (d.map V.str))/\H8 il=some (.lst ys)/\IxV H H8 ys ix/\ix.length=i/\∀e∈ix,IxB X e)
   (qo none none none none h7 [] [] rfl (k4.trans (KJ.of (ed M))) ((ed M) _ _ i6) ((ed M) _ _ c5) ((ed M) _ _ b5) cp (fI .nil rfl (by simp))) ?_ ?_
  ·rintro i Z H8 hi J;refine nN J ?_;clear J;rintro a8 a9 b2 b4 b1 ⟨ys,ix,rfl,k8,b3,e3,C,N,px,Y,b0⟩;refine oJ ?_;intro D';rw[Int.zero_add];rw[dm]at hi;have hy:d[i]?=some d[i]:=nP hi;generalize d[i]=y at hy;refine lL _ rfl D b1 rfl b3 λc2 l4 H9 l9 h9 o9 e9=>?_;have d6:=tj b3 o9 e9;have b9:=d6.str e3;have a0:=d6.str C;have O:H9 il=some (.lst ys):=by rw[o9 il f7];exact N
   have c6:=px.kt d6.kt;have k9:=k8.trans d6;have f1:=Paired.length px;obtain⟨a',j5,l3⟩:=vV (f:=V.str) (xs:=X++[("":Str)]) (i:=c2%((X++[("":Str)]).length:Int)) (rH _ (by simp<;>lia)) (sP _ (by simp<;>lia));refine i12 _ rfl _ rfl _ rfl sl _ rfl (.inl (SqL.of b9)) (lQ _ _ rfl rfl (by show(0:Int)<(((X++[("":Str)]).map V.str).length:Int);simp<;>lia) (nD sl _ _ _ rfl rfl (SqL.of b9) (by rw[dm];exact l3) ?_));refine qz _ rfl _ _ rfl rfl ⟨by decide,by decide⟩ _ _ rfl rfl z_50 (dV _ _ rfl rfl ?_);have c3:=f4.sub y (me hy);have l6:=c8.ok y c3;have f2:atI (d.map V.str) (i:Int)=some (.str y):=lM (by rw[oH,hy];rfl);refine cb (λZ G=>∃z:Int,Z=[Sro D,Sro ab,Sro b,Sbo top,Sio c,Sro K0,Sso arr,Sro W,Sro sl,Sro il,Sio (i:Int),Sio c2,Sso a',Sio z,none,none,none,none,none]/\H9=G/\IxB X (a',z)) ?_ ?_
   ·refine qj _ rfl rfl _ rfl (lT (λh0=>?_) (λh0=>?_))
    ·have g:=A8f.k (H:=H9) (a:=x.ld) (k:=Sum.inr y) (k9.dk i1);rw[c8.val c3]at g;refine qi _ rfl _ _ rfl rfl ⟨by decide,by decide⟩ _ rfl (ot ab _ rfl ((ap.ki k9.ki).get (wr x)) _ rfl (nC _ rfl W _ _ _ rfl rfl (SqL.of a0) (nE f2 x.ld _ rfl g (lQ _ _ rfl rfl (by show(0:Int)<L y;lia) ?_))));have v0:=rH (c2/7) (show L y≠0 by lia);have v1:=sP (c2/7) (show 0<L y by lia);exact nr _ rfl rfl (λz=>absurd (V.str.inj h0) z) (by show(c2/7%L y).natAbs<=60;lia)
    ·refine nr _ rfl rfl (λz=>?_) (by show(c2/7%5-2).natAbs<=60;lia);rcases mX.mp (me j5)with m|m
     ·exact m
     ·exact absurd (mn.mp m) z
   rintro Z G ⟨z,rfl,rfl,iz⟩;refine fx _ rfl (.inl (pM rfl _ (SqL.of O))) (mH _ rfl _ rfl (kr rfl) λq hq=>?_);have j3:Nw H q:=rB k9.ki hq;obtain⟨a5,sq,d1,S⟩:=nH (o:=.tup [.str a',.int z]) hq
   try rw[S]
   have c1:=sq _ _ O;refine oq il _ _ rfl rfl c1 (mC (by lia)) ?_;have up:∀{bb:zW}{u:HO},bb≠il->a5 bb=some u->upd a5 il (.lst (ys++[.ref q])) bb=some u:=λn e=>by rw[eh n];exact e
   have h4:KT a5 (upd a5 il (.lst (ys++[.ref q]))):=KT.at c1 (by intro xs z;cases z);refine qo _ _ _ _ l4 (ys++[.ref q]) (ix++[(a',z)]) rfl ⟨λbb u n e=>up (d9 n e) (sq _ _ (k9.ki _ _ n e)),λbb u n e=>up (e5 n e) (sq _ _ (k9.kb _ _ n e))⟩ (up f7.symm (sq _ _ h9)) (up d8.symm (sq _ _ b9)) (up e0.symm (sq _ _ a0)) cp (fI (pQ ((c6.kt (KT.same sq)).kt h4) (.cons (fx q rfl j3 (h4 _ _ d1)) .nil)) (by simp[Y]) λe B=>?_);rcases mX.mp B with B|B
   ·exact b0 e B
   ·rw[mn.mp B];exact iz
  rintro Z H8 J;refine nN J ?_;clear J;rintro a8 a9 b2 b4 b1 ⟨ys,ix,rfl,k8,b3,e3,C,N,px,Y,b0⟩;rw[dm]at Y;have c4:Nw H il:=rB k4.ki M;have f1:=Paired.length px;clear d9 e5;refine cb (λZ G=>∃(d2:zP)(il:zW)(ys:zM)(ix:zL),Z=[Sro D,Sro ab,Sro b,Sbo top,Sio c,Sro K0,Sso arr,Sro W,Sro sl,Sro il,a8,a9,b2,b4,d2,none,none,none,none]/\KJ D H G/\G D=some (.lst (b1.map V.int))/\G W=some (.lst (d.map V.str))/\Nw H il/\G il=some (.lst ys)/\IxV H G ys ix/\ix.length=d.length/\∀e∈ix,IxB X e) ?_ ?_
  ·refine cb _ rfl (qi _ rfl ab _ rfl ((ap.ki k8.ki).get (AE x)) rfl _ rfl (lT (λh0=>?_) (λh0=>hY (nD none il ys ix rfl k8 b3 C (lP c4 N px Y b0)))));have e2:arr=x.own:=V.str.inj h0;have i2:d=oy:=LP ok.nd (e2▸b6) I;have l5:d≠[]:=λz=>(e6 e2).2 (i2▸z);have n2:0<d.length:=List.length_pos_iff.mpr l5;refine qz _ rfl _ _ rfl rfl ⟨by decide,by decide⟩ _ _ rfl rfl zw (kB rfl _ rfl (lT (λh1=>?_) (λh1=>(nD none il ys ix rfl k8 b3 C (lP c4 N px Y b0)))));refine qi _ rfl _ _ rfl rfl ⟨by decide,by decide⟩ _ rfl (dV W _ rfl (.inl (SqL.of C)) (lQ _ _ rfl rfl (by show(0:Int)<((d.map V.str).length:Int);rw[dm];lia) ?_));rw[dm];obtain⟨j,ej⟩:∃j:Nat,c/8%(d.length:Int)=(j:Int):=⟨_,(Int.toNat_of_nonneg (rH _ (by lia))).symm⟩;have hj:j<d.length:=by have:=sP (c/8) (show(0:Int)<(d.length:Int)by lia);lia
   show qK 14 (V.int (c/8%(d.length:Int))) _ _ _;rw[ej];have j8:d[j]?=some d[j]:=nP hj;have f2:atI (d.map V.str) (j:Int)=some (.str d[j]):=lM (by rw[oH,j8];rfl);have zb:∀y∈d,y∈X:=λy hy=>k0 y (i2▸hy);refine i12 _ rfl _ rfl _ rfl W _ rfl (SqL.of C) λp hp=>?_;have r:A0l H8 (upd H8 p (.lst (nJ (d.map V.str) none (some (j:Int))))):=ed hp;have e7:upd H8 p (.lst (nJ (d.map V.str) none (some (j:Int)))) p=some (.lst ((d.take j).map V.str)):=by rw[cp];exact congrArg (λz=>some (HO.lst z)) uS
   generalize upd H8 p (.lst (nJ (d.map V.str) none (some (j:Int))))=G1 at r e7;refine fx p rfl ⟨_,SqL.of e7⟩ λD2 g9=>?_;refine sJ (K:=K) (a:=p) (D:=D2) (xs:=(d.take j).map V.str) (λi vs G=>A0l G1 G/\G D2=some (.lst vs)/\IxV H G vs (((d.take j).take i).map λz=>(z,(0:Int)))) (fI (ed g9) cp .nil) (by rintro i vs G ⟨s2,_⟩;exact SqL.of (s2 _ _ e7)) ?_ ?_
   ·rintro i v vs G hv ⟨sG,hG,iv⟩;refine qE ?_;intro N';obtain⟨z,hz,rfl⟩:=oY hv;have li:=Paired.length iv;refine mW True.intro _ rfl (kr rfl) λq hq=>?_;have sq:A0l G (upd G q (.tup [.str z,.int 0])):=ed hq;have kq:KT (upd G q (.tup [.str z,.int 0])) (upd (upd G q (.tup [.str z,.int 0])) D2 (.lst (vs++[.ref q]))):=KT.at (sq _ _ hG) (by intro xs z;cases z);refine lP (sq _ _ hG) (mC (by rw[li,dm,mK,mK];lia)) (mu (sG.trans sq) g9) cp ?_;rw[mQ,hz,nO,lR];exact pQ ((iv.kt (KT.same sq)).kt kq) (.cons (fx q rfl (rB (k8.ki.trans (KI.of (r.trans sG))) hq) (kq _ _ cp)) .nil)
   rintro vs G ⟨sG,hG,iv⟩;rw[dm,na]at iv;have f0:=r.trans sG;have m3:=Paired.length iv;rw[dm,mK]at m3;refine cb _ rfl (nC _ rfl W _ _ _ rfl rfl (SqL.of (f0 _ _ C)) (mW f2 _ rfl (kr rfl) λq hq=>⟨kr rfl,λql h2=>?_⟩));have i8:A0l G (upd G q (.tup [.str d[j],.int (-1)])):=ed hq;have i0:upd G q (.tup [.str d[j],.int (-1)]) q=some (.tup [.str d[j],.int (-1)]):=cp;generalize upd G q (.tup [.str d[j],.int (-1)])=G2 at i8 i0 h2;obtain⟨G3,g2,m4,S⟩:=nH (o:=.lst [.ref q]) h2
   try rw[S]
   have b8:=i8.trans g2;refine og D2 ql _ _ rfl rfl (b8 _ _ hG) m4 (lK (by simp;lia)) λp3 m8=>?_;have c7:A0l G3 (upd G3 p3 (.lst (vs++[.ref q]))):=ed m8;have g8:upd G3 p3 (.lst (vs++[.ref q])) p3=some (.lst (vs++[.ref q])):=cp;generalize upd G3 p3 (.lst (vs++[.ref q]))=G4 at c7 g8;have e8:=f0.trans (b8.trans c7);refine nh _ rfl _ rfl _ _ rfl rfl (lL _ rfl il _ rfl (SqL.of (e8 _ _ N)) λp4 j0=>?_);have e4:nJ ys (some ((j:Int)+1)) none=ys.drop (j+1):=L5 (p:=j+1) (by lia);show B5 (.ref p3) (.ref p4) (upd G4 p4 (.lst (nJ ys (some ((j:Int)+1)) none))) _;rw[e4];obtain⟨G5,s5,g5,S⟩:=nH (o:=.lst (ys.drop (j+1))) j0
   try rw[S]
   refine og p3 p4 _ _ rfl rfl (s5 _ _ g8) g5 (lK (by simp;lia)) λp5 g3=>?_;have s6:A0l G5 (upd G5 p5 (.lst (vs++[.ref q]++ys.drop (j+1)))):=ed g3;have d4:=e8.trans (s5.trans s6);have j7:=(b8.trans c7).trans (s5.trans s6);have m2:=(g2.trans c7).trans (s5.trans s6);refine nD _ p5 (vs++[.ref q]++ys.drop (j+1)) ((d.take j).map (λz=>(z,(0:Int)))++[(d[j],-1)]++ix.drop (j+1)) rfl (k8.trans (KJ.of d4)) (d4 _ _ b3) (d4 _ _ C) (lP (rB (k8.ki.trans (KI.of (e8.trans s5))) g3) cp (pQ (pQ (iv.kt (KT.same j7)) (.cons (fx q rfl (rB (k8.ki.trans (KI.of f0)) hq) (m2 _ _ i0)) .nil)) (Cq _ (px.kt (KT.same d4)))) ?_ λe B=>?_)
   ·simp only [mx,dm,mK,uI,nG,pO];lia
   ·rcases mX.mp B with B|B
    ·rcases mX.mp B with B|B
     ·obtain⟨z,hz,rfl⟩:=pd.mp B;exact⟨λ_=>zb z (tE hz),by show(0:Int).natAbs<=60;decide⟩
     ·rw[mn.mp B];exact⟨λ_=>zb _ (List.getElem_mem hj),by show(-1:Int).natAbs<=60;decide⟩
    ·exact b0 e (List.mem_of_mem_drop B)
  clear px b0 f1 N c4 f7 d8 e0 Y;rintro Z H9 J;refine ou J ?_;clear J;rintro d2 il ys ix rfl k9 l0 ⟨a0,g6,O,c6,Y,U⟩;have f1:=Paired.length c6;refine mH _ rfl _ rfl (kr rfl) λp hp=>?_;have r:A0l H9 (upd H9 p (.tup [.str "read",.str arr,.ref il])):=ed hp;have rp:Rep (lU (Nw H) H9) (.ref il) (oK ix):=.lst (mq g6 O) c6.rep;have f9:A7s (lU (Nw H) (upd H9 p (.tup [.str "read",.str arr,.ref il]))) (.ref p) (.read arr ix):=.read (mq (rB k9.ki hp) cp) (rp.same (mZ r));generalize upd H9 p (.tup [.str "read",.str arr,.ref il])=a5 at r f9;have i5:=k9.trans (KJ.of r);have i4:∀y∈X,qU y:=λy hy=>l7 y (m6 y hy);have g0:∀l,Grn nm es x.own X top l 1 1 (.read arr ix):=λl=>⟨(fI (cb d b6 Y) (λz=>(e6 z).1) λe B=>⟨smK (by have:=(U e B).2;lia),(U e B).1⟩),(fI (ok.str _ b6) (by lia) λe B=>⟨by by_cases z:e.1="";(rw[z];exact⟨by decide+kernel,by decide+kernel⟩);exact i4 _ ((U e B).1 z),smK (by have:=(U e B).2;lia)⟩),fy 1,fy 1⟩;refine cb (λZ G=>∃(a7 a6 a4:zP)(v:V)(u:Tm),Z=[Sro D,Sro ab,Sro b,Sbo top,Sio c,Sro K0,Sso arr,Sro W,Sro sl,Sro il,a8,a9,b2,b4,d2,a7,some v,a6,a4]/\A0l a5 G/\A7s (lU (Nw H) G) v u/\∀l,Grn nm es x.own X top l 4 7 u) ?_ ?_
  ·refine qz _ rfl _ _ rfl rfl ⟨by decide,by decide⟩ _ _ rfl rfl uK (kB rfl _ rfl (se (λh0=>?_) (λh0=>(oi none none (mh none _ _ rfl (A0l.refl _) f9 λl=>⟨(g0 l).tr,(g0 l).gd,oU (g0 l).dp (by decide),oU (g0 l).no (by decide)⟩)))));refine cb _ rfl (nC _ rfl il W _ _ rfl (SqL.of (r _ _ O)) (SqL.of (r _ _ a0)) ?_)
   refine Kd (K:=K) (a:=il) (b:=W) (xs:=ys) (ys:=d.map V.str) (λi Z G=>∃(a7 a6 a4:zP)(v:V)(u:Tm),Z=[Sro D,Sro ab,Sro b,Sbo top,Sio c,Sro K0,Sso arr,Sro W,Sro sl,Sro il,a8,a9,b2,b4,d2,a7,some v,a6,a4]/\A0l a5 G/\A7s (lU (Nw H) G) v u/\∀l,Grn nm es x.own X top l (1+i) (1+2*i) u)
    (oi none none (mh none _ _ rfl (A0l.refl _) f9 g0)) (by (rintro i Z G J;refine nN J ?_;clear J;rintro _ _ _ _ _ ⟨_,z,_⟩);exact⟨SqL.of (z _ _ (r _ _ O)),SqL.of (z _ _ (r _ _ a0))⟩) (by rw[dm];lia) ?_ ?_
   ·rintro i v1 v2 Z G p2 j2 k5 J;refine nN J ?_;clear J;rintro a7 a6 a4 v u ⟨rfl,sG,tG,gG⟩ k7;refine oJ ?_;intro D';obtain⟨e,B,qe,rfl,n5,j9⟩:=pI c6 j2;obtain⟨y,hy,rfl⟩:=oY k5;obtain⟨G1,s2,j1,S⟩:=nH (o:=.tup [.ref qe,.str y]) k7
    try rw[S]
    have d5:=sG.trans s2;have c9:=d5 _ _ (r _ _ j9);have d7:=i5.trans (KJ.of d5);refine qO p2 _ rfl (SqT.of j1) rfl _ _ rfl _ _ rfl rfl (pY _ rfl qe _ _ _ rfl rfl (SqT.of c9) (lM (j:=0) rfl) rfl _ rfl (se (λh0=>?_) (λh0=>(oi _ _ (mh _ v u rfl d5 (tG.same (mZ s2)) λl=>⟨(gG l).tr,(gG l).gd,oU (gG l).dp (by lia),oU (gG l).no (by lia)⟩)))));have f5:¬e.1="":=λz=>h0 (by rw[z]);have eb:=U e (me B);have c3:=f4.sub y (me hy);have l6:=c8.ok y c3;have g:=A8f.k (H:=G1) (a:=x.ld) (k:=Sum.inr y) (d7.dk i1);rw[c8.val c3]at g;refine lL _ rfl ab _ rfl ((ap.ki d7.ki).get (wr x)) (lL _ rfl x.ld _ rfl g (nC _ rfl qe _ _ _ rfl rfl (SqT.of c9) (nE (lM (j:=1) rfl) _ _ rfl rfl ?_)));refine ng _ rfl qe _ _ _ rfl rfl (SqT.of c9) (lM (j:=0) rfl) (nC _ rfl qe _ _ _ rfl rfl (SqT.of c9) (kB (lM (j:=1) rfl) _ rfl (i12 _ rfl _ rfl _ rfl _ _ rfl rfl (fI z_90 (kr rfl) λq hq=>⟨kr rfl,λq2 f8=>?_⟩))));have s3:A0l G1 (upd G1 q (.tup [.str "number",.int (c%9)])):=ed hq;have d1:upd G1 q (.tup [.str "number",.int (c%9)]) q=some (.tup [.str "number",.int (c%9)]):=cp;generalize upd G1 q (.tup [.str "number",.int (c%9)])=G2 at s3 d1 f8;have s4:=ed (o:=.tup [.str "guard",.str e.1,.int (-e.2),.int (L y-e.2),v,.ref q]) f8;have h6:=eb.1 f5;refine oi _ _ (mh _ _ (.guard e.1 (-e.2) (L y-e.2) u (.num (c%9))) rfl (d5.trans (s3.trans s4)) (.guard (mq (rB (d7.ki.trans (KI.of s3)) f8) cp) (tG.same (mZ (s2.trans (s3.trans s4)))) (.num (mq (rB d7.ki hq) (s4 _ _ d1)))) λl=>?_);have h5:Sm (-e.2):=smK (by have:=eb.2;lia);have g7:Sm (L y-e.2):=smK (by have:=eb.2;lia);have g4:Sm (c%9):=smK (by lia);refine⟨(lP h6 h5 g7 ((gG false).tr) g4),(lP (i4 _ h6) h5 g7 ((gG false).gd) g4),?_,?_⟩
    ·have:=(gG false).dp;show max (dep u) 1+1<=_
     lia
    ·have:=(gG false).no;show nod u+1+1<=_
     lia
   ·rintro Z G J;refine nN J ?_;clear J;rintro a7 a6 a4 v u ⟨rfl,sG,tG,gG⟩;exact oi a7 a6 (mh a4 v u rfl sG tG λl=>⟨(gG l).tr,(gG l).gd,oU (gG l).dp (by lia),oU (gG l).no (by lia)⟩)
  rintro Z G J;refine nN J ?_;clear J;rintro a7 a6 a4 v u ⟨rfl,sG,tG,gG⟩;exact cb _ rfl (k v u b1 G gG (i5.trans (KJ.of sG)) (sG _ _ (r _ _ l0)) tG)
theorem Gr.ki{x:Abt}{bs:zC}(h:Gr H D ab b ms x L nm es0 oy bs)(k:KI H H')(d:H' D=some (.lst (c.map V.int))):Gr H' D ab b c x L nm es0 oy bs:=⟨d,h.a.ki k,h.e,k.str h.b,h.bn,h.nk,h.lb,h.ob⟩
theorem Cm(k:KI H H1)(r:A7s (lU (Nw H1) H2) v u):A7s (lU (Nw H) H2) v u:=r.same λb o e=>mq ((mY e).1.up k) (mY e).2
theorem HJ{c:Bool}{dc:Decidable (c=true)}(h:Q (.bl (c&&b2)) H)(a:Q (.bl b2) H->te Z H Q): @ite Prop (c=true) dc (te Z H Q) (Q (.bl false) H):=by
 cases c with
 |true=>rw[eH rfl];exact a h
 |false=>rw[fa nA];exact h
theorem Grn.mono{bs:zC}{d:Nat}(h:Grn nm es own bs tp st d n u)(b:d<=d')(a:n<=n'):Grn nm es own bs tp st d' n' u:=⟨h.tr,h.gd,oU h.dp b,oU h.no a⟩
def Be(n:Nat):Sp:=λk H Q _=>∃(D i b:zW)(top a:Bool)(j:zI)(x:Abt)(L:zR)(h:zC)(c:zB)(g e:zC),k=[.ref D,.ref i,.ref b,.bl top,.bl a,.int (n:Nat)]/\Gr H D i b j x L h c g e/\e.length+n<=100/\
 ∀(v:V)(u:Tm)(f:zI)(d:Hp),Grn h (c++[(x.own,g)]) x.own e top a (n+4) (8*2^n-1) u->KJ D H d->d D=some (.lst (f.map V.int))->A7s (lU (Nw H) d) v u->Q v d
theorem FC(T:Txt K mg t)(hm:3<=m)(Gb2:A3i P w K mg base nj m t.de t.d9 wM sp')(hs:1<=n->∀vs H Q,Be (n-1) vs H Q E0->sp' vs H Q E0):A3i P w K mg base nj (m+1) t.de t.d9 wM (Be n):=by
 refine T.be.F.ok ue λ_ A _ s H _ Q E hr h=>?_
 ·refine pZ h ?_;clear h;rintro D ab b top g ms x L nm ⟨J,oy,q,rfl,I,d4,k⟩;have hu:=qW hr;refine rsq (dh (hK 6 ue.nd (pcl (yM T) hr T.aN (eg 0))) (dh (hK 7 ue.nd (eB ny (pv 6) ew)) (qy (lN (lZ nQ (pv 5) ew) (ef (hK 7 ue.nd (eB ny (pv 7) ew))) ⟨hC⟩) (dh ⟨Lw (i₀:=8) (N':=["_law_name_here","_law_bound"]) (ix:=(List.replicate 1 none++[some 2])) (tc:=wS (tOp (rIn K true) (tP 0) (tP 1))) ue.nd rfl (.inl rfl) rfl (uv (x:="_law_bound") rfl rfl rfl (by decide+kernel) (by decide+kernel)) (ux (N0:=["_law_name_here"]) rfl (.inl rfl) (by walk_at"ix")) (nR (mj hu (pv 1) lV)) (λ_ _ _ _=>(hH (i:=0) M8)) (λ_ _ _ _=>(lZ ww (pv 0) (pv 1) (by with_unfolding_all rfl))) (λ_ _ _ _=>(pv 0))⟩ (qy (lN (PW.pt (tV (lZ nQ (pv 7) ew) (ua (lZ uO (oA T.aK (eg 8)) ew)))) (dh (hK 9 ue.nd (qv sF (pv 8) (eB ny (eB pL (pv 6) ew) (oA T.aK (eg 8))))) (ef (hB (oQ (ad lV (ad (pv 9) (ad (pcl Gb2 hr T.be (ad (pv 0) (ad (pv 1) (ad (eB rO (pv 2) (@oG _ _ _ _ (eg 9))) (ad (rm (pv 3) (tW (pv 4))) (ad (pv 4) (ad (eB tX (pv 5) ew) dt))))))) dt))))))) ⟨hC⟩) (qy (lN (PW.pt (si (lZ nQ (pv 7) ew) (uq (lZ nQ (pv 7) ew)))) (ef (hB (pcl (Mm T) hr T.gx (ad (pv 0) (ad (pv 1) (ad (pv 2) (eg 3))))))) ⟨hC⟩) (qy (lN (PW.pt (si (lZ nQ (pv 7) ew) (uq (PW.pt (tV (lZ nQ (oA T.aK (eg 2)) ew) (ua (lZ vg (pv 7) ew))))))) (ef (hB (oQ (ad lV (ad (eB ny (eB pL (pv 6) ew) (eB wU ew ew)) dt))))) ⟨hC⟩) (qy (lN (lZ nQ (pv 7) ew) (ef (hB (oQ (ad lV (ad (qv sF (pv 2) (eB ny (eB pL (pv 6) ew) (oA T.aK (eg 2)))) dt))))) ⟨hC⟩) (qy (lN (PW.pt (tV (lZ nQ (pv 7) ew) (ua (lZ uO (oA T.aK (eg 2)) ew)))) (dh (hK 10 ue.nd (eB ny (eB pL (pv 6) ew) ew)) (dh (hK 11 ue.nd (pcl Gb2 hr T.be (ad (pv 0) (ad (pv 1) (ad (pv 2) (ad (pv 3) (ad oF (ad (eB tX (pv 5) ew) dt)))))))) (dh (hK 12 ue.nd (pcl Gb2 hr T.be (ad (pv 0) (ad (pv 1) (ad (pv 2) (ad (pv 3) (ad oF (ad (eB tX (pv 5) ew) dt)))))))) (ef (hB (oQ (ad lV (ad (qv sF (pv 2) (eB ny (eB pL (pv 6) ew) (oA T.aK (eg 2)))) (ad (pv 10) (ad (eB oM (pv 10) (eB ny (eB pL (pv 6) ew) ew)) (ad (pv 11) (eg 12)))))))))))) ⟨hC⟩) (dh (hK 13 ue.nd (pcl Gb2 hr T.be (ad (pv 0) (ad (pv 1) (ad (pv 2) (ad (pv 3) (ad oF (ad (nK (E7 rfl) (by rfl) T.kW PyProof.Rows.boot_max (ad (eB tX (pv 5) ew) (ad ew dt))) dt)))))))) (ef (hB (oQ (ad lV (ad (eB ny (eB pL (pv 6) ew) ew) (ad (pv 13) (ad (pcl Gb2 hr T.be (ad (pv 0) (ad (pv 1) (ad (pv 2) (ad (pv 3) (ad oF (ad (nK (E7 rfl) (by rfl) T.kW PyProof.Rows.boot_max (ad (eB tX (pv 5) ew) (ad ew dt))) dt))))))) dt))))))))))))))))) ?_;refine lL _ rfl D ms rfl I.d λc R H1 l1 h1 o1 e1=>?_;have k1:=tj I.d o1 e1;have g1:=I.ki k1.ki h1;obtain⟨lk,d5,c4⟩:=I.a.le;refine lL _ rfl _ _ rfl rfl ⟨BY,?_⟩;refine cb (λZ M=>∃l:Int,Z=[Sro D,Sro ab,Sro b,Sbo top,Sbo g,Sio (n:Nat),Sio c,Sio l,none,none,none,none,none,none]/\H1=M/\(n=0->l<=3)/\0<=l/\l<=7) ?_ ?_
  ·refine qj _ rfl rfl _ rfl (lT (λh0=>(qi _ rfl _ _ rfl rfl uK _ rfl (lX rfl (λ_=>by lia) (by lia) (by lia)))) (λh0=>⟨_,(lP rfl rfl (λz=>absurd (by rw[z];rfl) h0) (by lia) (by lia))⟩))
  rintro Z M zz;refine nw zz ?_;clear zz;rintro l rfl rfl ⟨wn,w0,w7⟩;refine lL _ rfl ab _ rfl (g1.a.get (J2 x)) (fx x.ax rfl ⟨_,SqL.of g1.a.ax⟩ λD2 a6=>?_);refine NL (K:=K) (a:=x.ax) (D:=D2) (xs:=nm.map V.str) (λj ys C=>A0l H1 C/\C D2=some (.lst ys)/\∃Y:zC,ys=Y.map V.str/\Y.length<=j/\∀z∈Y,z∈nm/\z∉q) ⟨ed a6,(mW cp [] rfl (by simp) (by intro z hz;cases hz))⟩ (λj ys C s3=>SqL.of (s3.1 _ _ g1.a.ax)) ?_ ?_
  ·rintro j y ys C hy zz;refine pN zz ?_;clear zz;rintro s3 h3 Y rfl ⟨lz,mz⟩;obtain⟨z,hz,rfl⟩:=oY hy;have hj:j<nm.length:=(ml.mp hz).1;have l8:=c4.few;refine⟨⟨rfl,True.intro⟩,(nh _ rfl _ rfl b _ rfl (.inl (SqL.of (s3 _ _ g1.b))) (nu rfl (ud q) _ rfl ?_))⟩;show if (! inV (V.str z) (q.map V.str))=true then _ else _
   rw[ti];refine se (λnz=>?_) (λ_=>?_)
   ·refine nr _ rfl h3 (mC (by rw[dm];lia)) ⟨mu s3 a6,(mW cp (Y++[z]) (by simp) (by rw[mx];simp only [nG,pO];lia) λy hy=>?_)⟩;rcases mX.mp hy with hy|hy
    ·exact mz y hy
    ·rw[mn.mp hy];exact⟨me hz,nz⟩
   ·exact⟨s3,(mW h3 Y rfl (by lia) mz)⟩
  rintro ys C zz;refine pN zz ?_;clear zz;rintro s3 a9 Y rfl ⟨lz,mz⟩;have k3:=k1.trans (KJ.of s3);have a4:=s3 _ _ h1;have g3:=I.ki k3.ki a4;have a2:=g3.b;have en:(((n:Nat):Int)-1)=((n-1:Nat):Int)\/n=0:=by lia
  have N:1<=n->∀(tp st:Bool)(b':zW)(a3:zC)(a1:zI)(H4:Hp)(Q':VK),Gr H4 D ab b' a1 x L nm J oy a3->a3.length+n<=101->KJ D H H4->(∀(v:V)(u:Tm)(G:zI)(H':Hp),Grn nm (J++[(x.own,oy)]) x.own a3 tp st (n-1+4) (8*2^(n-1)-1) u->KJ D H4 H'->H' D=some (.lst (G.map V.int))->A7s (lU (Nw H) H') v u->Q' v H')->sp' [.ref D,.ref ab,.ref b',.bl tp,.bl st,.int ((n:Nat)-1)] H4 Q' E0:=λW tp st b' a3 a1 H4 Q' g4 d6 U kk=>by rw[en.resolve_right (by lia)];exact hs W _ _ _ (oT D ab b' tp st a1 x L nm (mh J oy a3 rfl g4 (by lia) λv u G H' tm S a6 c6=>kk v u G H' tm S a6 (Cm U.ki c6)))
  have p1:1<=2^(n-1):=Nat.one_le_two_pow;have p2:1<=n->2^n=2*2^(n-1):=λh=>by rw[<-Nat.pow_succ',Nat.succ_eq_add_one,Nat.sub_add_cancel h]
  have p3:1<=2^n:=Nat.one_le_two_pow
  have W:3<l->1<=n:=λhw=>by
   rcases Nat.eq_zero_or_pos n with z|z
   ·have:=wn z;lia
   ·exact z
  refine qc (λM=>C=M) ?_ ?_
  ·refine qj _ rfl rfl _ rfl (lT (λh5=>?_) (λh5=>hY ⟨rfl,rfl⟩));refine lL _ rfl D2 _ rfl (.inl (SqL.of a9)) (ot _ _ rfl rfl _ rfl (lT (λh6=>?_) (λh6=>⟨rfl,rfl⟩)));have d3:l=7:=V.int.inj h5;have W:=W (by lia)
   have d1:0<Y.length:=by
    rcases Nat.eq_zero_or_pos Y.length with z|z
    ·rw[dm,z]at h6;exact absurd h6 (by decide)
    ·exact z
   obtain⟨r,ha,ea⟩:=vV (f:=V.str) (xs:=Y) (i:=c/8%(Y.length:Int)) (rH _ (by lia)) (sP _ (by lia));obtain⟨b1,c8⟩:=mz r (me ha);refine nh _ rfl _ rfl _ _ rfl rfl ⟨⟨by decide,by decide⟩,(lL _ rfl D2 _ rfl (.inl (SqL.of a9)) (lQ _ _ rfl rfl (by show(0:Int)<((Y.map V.str).length:Int);rw[dm];lia) (nD D2 _ _ _ rfl rfl (SqL.of a9) (by rw[dm];exact ea) ?_)))⟩;refine cb _ rfl (mE _ rfl _ rfl (mH _ rfl _ rfl (kr rfl) λel c9=>?_));have t1:A0l C (upd C el (.lst [.str r])):=ed c9;refine og b el _ _ rfl rfl (t1 _ _ a2) cp (lK (by rw[dm];show q.length+1<=1000000;lia)) λbl c5=>?_;have t2:=t1.trans (ed (o:=.lst (q.map V.str++[.str r])) c5);have c1:upd (upd C el (.lst [.str r])) bl (.lst (q.map V.str++[.str r])) bl=some (.lst ((q++[r]).map V.str)):=by rw[cp,lR];rfl
   generalize upd (upd C el (.lst [.str r])) bl (.lst (q.map V.str++[.str r]))=H4 at t2 c1;have U:=k3.trans (KJ.of t2)
   have c7:∀y∈q++[r],y∈nm:=by
    intro y hy;rcases mX.mp hy with z|z
    ·exact I.bn y z
    ·rw[mn.mp z];exact b1
   have g4:Gr H4 D ab bl R x L nm J oy (q++[r]):=⟨t2 _ _ a4,I.a.ki U.ki,I.e,c1,c7,I.nk,by rw[mx];simp only [nG,pO];lia,λy hy=>qk _ (I.ob y hy)⟩;refine mE _ rfl top rfl (HJ (c:=top) (b2:=g) ?_ ?_)
   ·refine nh _ rfl _ rfl _ _ rfl rfl (N W (top&&g) g bl (q++[r]) R H4 _ g4 (by rw[mx];simp only [nG,pO];lia) U λv u G H5 tm ki a0 X=>⟨kr rfl,λp O=>?_⟩);have c3:Grn nm (J++[(x.own,oy)]) x.own q top g (n+4) (8*2^n-1) (.sum r u):=⟨(fI b1 c8 tm.tr),⟨I.nk r b1,tm.gd⟩,by have:=tm.dp;show dep u+1<=_;lia,by have:=tm.no;have:=p2 W;show nod u+1<=_;lia⟩;have k5:=U.trans ki;have B:=ed (o:=.tup [.str "sum",.str r,v]) O;exact k (.ref p) _ G _ c3 (k5.trans (KJ.of B)) (B _ _ a0) (.sum (mq (rB k5.ki O) cp) (X.same (mZ B)))
   ·intro hh;exact cb _ rfl hh
  rintro M rfl;refine qc (λM=>C=M/\l≠2/\l≠3) ?_ ?_
  ·have b8:Ed [.ref D,.ref ab,.ref b,.bl top] C Q E0:=(oT D ab b top R x L nm J (dV oy q rfl g3 λv u a1 H' tm ki d0 X=>k v u a1 H' ((tm g).mono (by lia) (by lia)) (k3.trans ki) d0 (Cm k3.ki X)));refine qj _ rfl rfl _ rfl (lT (λh2=>nI ?_) (λh2=>(qj _ rfl rfl _ rfl (lT (λh3=>?_) (λh3=>(lX rfl rfl (λz=>h2 (by rw[z])) λz=>h3 (by rw[z])))))))
   ·exact mE _ rfl _ rfl (mE _ rfl _ rfl b8)
   ·exact mE _ rfl _ rfl (mE _ rfl _ rfl b8)
  rintro M ⟨rfl,w2,w3⟩;refine qc (λM=>C=M/\l≠0/\(q=[]->4<=l)) ?_ ?_
  ·have c0:∀p:zW,C p=none->Q (.ref p) (upd C p (.tup [.str "number",.int (c/8%10^(30:Int).toNat)])):=λp O=>k (.ref p) (.num _) R _ (Grn.num (Di _) (by lia) (by lia)) (k3.trans (KJ.of (ed O))) ((ed O) _ _ a4) (.num (mq (rB k3.ki O) cp));refine qj _ rfl rfl _ rfl (lT (λh0=>nI ?_) (λh0=>(qi _ rfl b _ rfl (.inl (SqL.of a2)) rfl _ rfl (lT (λhz=>(cb _ rfl (ot _ _ rfl rfl _ rfl (lT (λh4=>?_) (λh4=>(lX rfl rfl (λz=>h0 (by rw[z])) λ_=>by have h4:¬l<4:=h4;lia)))))) (λhz=>hY (lX rfl rfl (λz=>h0 (by rw[z])) λz=>absurd (by rw[z];rfl) hz))))))
   ·exact qz _ rfl _ _ rfl rfl ⟨by decide,by decide⟩ _ _ rfl rfl (fI (by decide) (by decide) (by decide)) (mJ _ _ rfl rfl ye (kr rfl) c0)
   ·exact qz _ rfl _ _ rfl rfl ⟨by decide,by decide⟩ _ _ rfl rfl (fI (by decide) (by decide) (by decide)) (mJ _ _ rfl rfl ye (kr rfl) c0)
  rintro M ⟨rfl,d2,w4⟩
  have b5:q≠[]->∃r:Str,r∈q/\(0:Int)<((q.map V.str).length:Int)/\atI (q.map V.str) (c/8%((q.map V.str).length:Int))=some (.str r):=λhw=>by have a5:0<q.length:=List.length_pos_iff.mpr hw;obtain⟨r,ha,ea⟩:=vV (f:=V.str) (xs:=q) (i:=c/8%(q.length:Int)) (rH _ (by lia)) (sP _ (by lia));exact fx r (me ha) (by rw[dm];lia) (by rw[dm];exact ea)
  refine qc (λM=>C=M/\l≠1) ?_ ?_
  ·refine qj _ rfl rfl _ rfl (lT (λb0=>?_) (λb0=>(fI rfl rfl λz=>b0 (by rw[z]))));have e1:l=1:=V.int.inj b0;obtain⟨r,ma,a5,ea⟩:=b5 (λz=>by have:=w4 z;lia);refine nh _ rfl _ rfl _ _ rfl rfl ⟨⟨by decide,by decide⟩,(lL _ rfl b _ rfl (.inl (SqL.of a2)) (lQ _ _ rfl rfl a5 (og b _ _ _ rfl rfl (SqL.of a2) ea (kr rfl) λp O=>?_)))⟩;exact k (.ref p) (.place r) R _ ⟨ma,I.nk r (I.bn r ma),by show 1<=_;lia,by show 1<=_;lia⟩ (k3.trans (KJ.of (ed O))) ((ed O) _ _ a4) (.place (mq (rB k3.ki O) cp))
  rintro M ⟨rfl,w1⟩;have W:=W (by lia);have p2:=p2 W;refine qc (λM=>C=M) ?_ ?_
  ·refine qj _ rfl rfl _ rfl (lT (λh5=>?_) (λh5=>hY ⟨rfl,rfl⟩));refine lL _ rfl b _ rfl (.inl (SqL.of a2)) (ot _ _ rfl rfl _ rfl (lT (λh6=>?_) (λh6=>⟨rfl,rfl⟩)));obtain⟨r,ma,a5,ea⟩:=b5 (λz=>by rw[z]at h6;exact absurd h6 (by decide));refine qz _ rfl _ _ rfl rfl ⟨by decide,by decide⟩ _ _ rfl rfl uK ?_;refine mE _ rfl _ rfl (i12 _ rfl _ rfl _ rfl _ _ rfl rfl (N W top false b q R C _ g3 (by lia) k3 λvl ul G H4 tl a8 b3 rl=>?_));have U:=k3.trans a8;refine mE _ rfl _ rfl (i12 _ rfl _ rfl _ rfl _ _ rfl rfl (N W top false b q G H4 _ (I.ki U.ki b3) (by lia) U λvr ur a7 H5 X S a0 rr=>?_));have k5:=U.trans S;have b4:=rl.ki (DY S.ki);have b6:=k5.str I.b;refine nh _ rfl _ rfl _ _ rfl rfl ⟨⟨by decide,by decide⟩,(lL _ rfl b _ rfl (.inl (SqL.of b6)) (lQ _ _ rfl rfl a5 (nD b _ _ _ rfl rfl (SqL.of b6) ea (mE _ rfl _ rfl (qz _ rfl _ _ rfl rfl ⟨by decide,by decide⟩ _ _ rfl rfl uK (dV _ _ rfl rfl (mH _ rfl _ rfl (kr rfl) λp O=>?_)))))))⟩;have b7:Sm (c/64%4):=smK (by lia);have b9:Sm (c/64%4+c/256%4):=smK (by lia);have nk:=I.nk r (I.bn r ma);have tm:Grn nm (J++[(x.own,oy)]) x.own q top g (n+4) (8*2^n-1) (.guard r (c/64%4) (c/64%4+c/256%4) ul ur):=⟨(lP ma b7 b9 tl.tr X.tr),(lP nk b7 b9 tl.gd X.gd),by have:=tl.dp;have:=X.dp;show max (dep ul) (dep ur)+1<=_;lia,by have:=tl.no;have:=X.no;show nod ul+nod ur+1<=_;lia⟩;have B:=ed (o:=.tup [.str "guard",.str r,.int (c/64%4),.int (c/64%4+c/256%4),vl,vr]) O;exact k (.ref p) _ a7 _ tm (k5.trans (KJ.of B)) (B _ _ a0) (.guard (mq (rB k5.ki O) cp) (b4.same (mZ B)) (rr.same (mZ B)))
  rintro M rfl;have c2:(if (0:Int)>((n:Nat):Int)-1 then (0:Int)else ((n:Nat):Int)-1)=((n:Nat):Int)-1:=fa (by lia);refine mE _ rfl _ rfl (i12 _ rfl _ rfl _ rfl _ _ rfl rfl (mL _ _ rfl ?_));dsimp only;rw[c2];refine N W top false b q R C _ g3 (by lia) k3 λvl ul G H4 tl a8 b3 rl=>?_;have U:=k3.trans a8;refine qz _ rfl _ _ rfl rfl ⟨by decide,by decide⟩ _ _ rfl rfl B6 (cb _ rfl (mE _ rfl _ rfl (i12 _ rfl _ rfl _ rfl _ _ rfl rfl (mL _ _ rfl ?_))));dsimp only;rw[c2];refine N W top false b q G H4 _ (I.ki U.ki b3) (by lia) U λvr ur a7 H5 X S a0 rr=>⟨kr rfl,λp O=>?_⟩;have k5:=U.trans S;have b4:=rl.ki (DY S.ki);have tm:Grn nm (J++[(x.own,oy)]) x.own q top g (n+4) (8*2^n-1) (.pair (wI (c/8%3)) ul ur):=⟨⟨tl.tr,X.tr⟩,⟨tl.gd,X.gd⟩,by have:=tl.dp;have:=X.dp;show max (dep ul) (dep ur)+1<=_;lia,by have:=tl.no;have:=X.no;show nod ul+nod ur+1<=_;lia⟩;have B:=ed (o:=.tup [.str "pair",.int (c/8%3),vl,vr]) O;exact k (.ref p) _ a7 _ tm (k5.trans (KJ.of B)) (B _ _ a0) (.pair (mq (rB k5.ki O) cp) (b4.same (mZ B)) (rr.same (mZ B)))
theorem Ek(T:Txt K mg t):∀n:Nat,A3i P w K mg base nj (n+4) t.de t.d9 wM (Be n)|0=>FC T (sp':=λ_ _ _ _=>False) (m:=3) (by lia) (A3i.none λ_ _ _ _ h=>h) λh=>absurd h (by lia)|n+1=>FC T (m:=n+4) (by lia) (Ek T n) λ_ a H Q h=>h
structure BV(ax:zL)(tb:zB)(ls:List Lt)(os:zC)(L:zR):Prop where
 nin:zu ax tb ls os
 gn:GdN ax tb ls os
 gs:GdS ax tb ls
 tin:zx ax tb ls
 el:tR (axN ax) tb ls=none
 wk:xM (mo [] (qt ax)) L tb ls
 sm:Sm (wrk L tb ls)
 rd:wrk L tb ls<=4000->zp (mo [] (qt ax)) L tb ls
structure D9u(H:Hp)(ab:zW)(x:Abt)(lk tk:zJ)(L:zR)(nm:zC)(es:zB)(ls:List Lt):Prop where
 ag:C1d H ab x lk L nm es
 td:TrD H x L nm es ab tk ls
 e:∀e∈es,e.2.length<=100
theorem D9u.same{x:Abt}{a:zJ}(h:D9u H ab x a tk L nm es ls)(s:A0l H H'):D9u H' ab x a tk L nm es ls :=⟨h.ag.same s,⟨s _ _ h.td.d,Paired.mapP h.td.p (by rintro _ _ ⟨c,b⟩;exact⟨c,b.same s⟩),h.td.nd,h.td.n1,h.td.n2,h.td.n3⟩,h.e⟩
theorem D9u.inn{x:Abt}{a:zJ}(h:D9u H ab x a tk L nm es ls):∀le∈ls,ve nm es le:=λle c=>by obtain⟨i,b⟩:=List.getElem?_of_mem c;obtain⟨v,_,d,_⟩:=wZ h.td.p h.td.nd b;exact d.inn
def Lm:Sp:=λf H Q _=>∃(a:zW)(d:zI)(b:Int),f=[.ref a,.int b]/\H a=some (.lst (d.map V.int))/\d.length<=1000/\∀(p:zW)(e:zI)(c:Hp),H p=none->A0l H c->c p=some (.lst (e.map V.int))->e.length<=1000->Q (.ref p) c
def KC(A:Adr):Sp:=λj H Q _=>∃(p e:zW)(a:Bool)(l:Int)(f:zL)(c:zB)(b:List Lt)(d:zC)(L:zR)(x:Abt)(h k:zJ)(i:zC),j=[.ref p,.ref e,.bl a]/\C0m A H p l f c b d/\BV f c b d L/\(4000<wrk L c b->a=true)/\(wrk L c b<=4000->a=false/\D9u H e x h k L i (arr c b) b)/\∀g,A0l H g->Q (.bl true) g
theorem MW(T:Txt K mg t):FO P w base T.f8 2 Lm:=by
 refine T.f8.F.ok Fk λ_ A _ s H _ Q E M h=>?_
 ·refine nF h ?_;clear h;rintro a g n rfl I J k;refine rsq (qy (lN (lZ nQ (eB ny (eB pL (pv 1) ew) ew) ew) (ef (hK 0 Fk.nd (pcl (Nv T) M T.dC (ad (nK (J9 rfl) (by rfl) T.lu PyProof.Rows.boot_sum (ad (pV qg (pv 0) pS (pB ew)) dt)) (ad ew dt))))) ⟨hC⟩) (ef (hB (pC (N':=["_law_cell_here"]) (ix:=(List.replicate 1 none)) rfl (re rfl (by decide+kernel) (by decide+kernel)) (rc rfl) (Dh rfl T.gS (eg 0)) (λ_ _ _ _=>(hH (i:=0) Ni)) (λ_ _ _ _=>(pv 0)))))) ?_;refine cb (λZ G=>∃(l:zW)(b:zI),Z=[Sro l,Sio n]/\A0l H G/\G l=some (.lst (b.map V.int))/\b.length<=1000) ?_ ?_
  ·refine qz _ rfl _ _ rfl rfl ⟨by decide,by decide⟩ _ _ rfl rfl zw (kB rfl _ rfl (lT (λ_=>?_) (λ_=>(lQ a g rfl (A0l.refl _) I J))));have o:nJ (g.map V.int) none (some 1)=(g.take 1).map V.int:=uS (i:=1);refine nh _ rfl _ rfl a _ rfl (SqL.of I) λL v=>?_;rw[o];refine dV L (g.take 1) rfl (SqL.of cp) λz=>?_;exact lQ z 26 rfl (by decide) (by decide) λD b U S c u N=>(lQ D b rfl ((ed v).trans c) u (by rw[N];decide))
  rintro Z G B;refine lS B ?_;clear B;rintro l b rfl C p O;refine lL _ rfl l _ rfl (SqL.of p) λr d=>?_;refine uW (D:=r) (b.map V.int).length (λi f e=>A0l G e/\e r=some (.lst f)/\f=(b.reverse.take i).map V.int) (fI (ed d) cp rfl) (λi f e j ⟨c,_⟩=>?_) (λf e _=>rfl) ?_ ?_
  ·exact lQ _ ((b.map V.int)[(b.map V.int).length-1-i]) (SqL.of (c _ _ p)) rfl j (nP (by lia))
  ·rintro i f e j ⟨c,m,rfl⟩ x R ⟨rfl,q⟩;refine qE ?_;intro N';have q:=q _ (SqL.of (c _ _ p));obtain⟨z,y,rfl⟩:=oY q;rw[dm]at j y;refine kB True.intro _ rfl (lP m (mC (by rw[dm,mK,List.length_reverse];lia)) (mu c d) cp ?_);rw[mQ,List.getElem?_reverse j,y,nO,lR];rfl
  rintro f e ⟨c,m,rfl⟩;rw[dm,rT (by rw[List.length_reverse];exact fy _)]at m;exact k r b.reverse e (C.free d) (C.trans c) m (by rw[List.length_reverse];exact O)
theorem MZ(T:Txt K mg t):FO P w base T.fk 18 (KC t):=by
 have Gb1:=(@ED P w K mg base t T (e:=none)).ok;have GE_l_witness:=@NT P w K mg base t T;refine T.fk.F.ok vy λ_ A _ s H _ Q E Y h=>?_
 ·refine pZ h ?_;clear h;rintro p ab a9 wh ax tb O os L ⟨x,lk,M,nm,rfl,pr,N,hm,W,k⟩;have hu:=qW Y;refine rsq (dh (hK 3 vy.nd ew) (dh ⟨Kx (i:=3) ⟨rfl,rfl⟩ (KE (I0 T) (Y.mono (by lia)) rfl T.iT.m T.iT.F.kp T.iT.b (eg 0)) vy.nd rfl (.inl rfl)⟩ (dh (lN (PW.pt (si (lZ Jb (pv 3) Il) (uq (nn (pv 2))))) (ef (hB oF)) ⟨hC⟩) (dh (pX (IU (mj hu (pv 1) lV)) (hH (i:=5) vy.nd) (ef (lN (rz (nn (pcl Gb1 Y T.gI (ad (pv 5) (eg 1))))) (ef (hB oF)) ⟨hC⟩))) ⟨@Bd _ _ _ (@mD _ _ _ (@sj _ _ _ _ oF))⟩)))) ?_;refine cb _ rfl (qo p wh ax tb O os L rfl pr N.nin N.gn N.gs N.tin (lP N.el N.wk N.sm (λS B J=>(dV t.al _ rfl (JD (i:=4) rfl T.d8 T.dL vy.nd rfl rfl (λ_=>(@RS.r _ _ _ (ef (hB (rm (pv 2) (tW (nK (Bu (K:=K) rfl) (by rfl) T.a6 oW (ad (pv 4) (ad (sv (v:=V.ref t.aW) rfl T.cZ rfl) dt)))))))))) λj n=>?_)) λS=>(fI (N.rd S) (λhn B J=>?_) λx1 a b e a0 I sp ce B J X hs hc=>?_)))
  ·have g:A0l B (upd B j (.ext (xcG j t.al none))):=ed n;have q:=J.trans g;rw[hm S];exact mE _ rfl true rfl (nI (nT _ rfl j t.al none (mJ _ true rfl cp T.jG (mR T.cJ) (k _ q))))
  ·obtain⟨mf,ai⟩:=W S;subst mf;have gd:=(Bf (L:=L) ai.inn).1 hn;have f:=ai.same J;refine qj _ rfl rfl false rfl (hY (mE _ rfl false rfl (hY ?_)));refine lL _ rfl ab _ rfl (f.ag.get (wd x)) (dV x.tr M rfl f.td.d λo=>?_);refine Lk (a:=x.tr) (o:=o) (kvs:=M) (λi Z G=>∃o5:zP,Z=[Sro p,Sro ab,Sbo false,some .non,none,o5]/\A0l (upd B x.tr (.frz o (.dK M))) G) (cb none rfl (A0l.refl _)) (by rintro i Z G ⟨_,_,J⟩;exact J _ _ cp) ?_ ?_
   ·rintro i k' v' Z G R ⟨o5,rfl,g⟩;refine oJ ?_;intro D';have b0:=Paired.length f.td.p;have hi:=(ml.mp R).1;obtain⟨l,W⟩:∃l,O[i]?=some l:=⟨O[i]'(by lia),nP _⟩;obtain⟨vl,a1,a2,a7⟩:=wZ f.td.p f.td.nd W;rw[a1]at R;cases R;have a4:=(f.ag.frz f.td (u:=.frz o (.dK M))).same g;have a3:=(a2.kl (AV f.td.d (u:=.frz o (.dK M)))).same g;refine mH _ rfl _ rfl (λb1 z=>by cases z) (qB ab x lk (nL L nm (arr tb O) l _ rfl a4 (.inl (dV M (Sum.inr l.1) (.inr ⟨o,g _ _ cp⟩) rfl a7.symm)) a3 ai.e λH2 U=>?_));rw[gd l (me W)];exact cb true rfl (hY (cb _ rfl (g.trans U)))
   ·rintro Z G ⟨o5,rfl,g⟩;refine nM x.tr o M (g _ _ cp) (λo' u' z=>by have z:H x.tr=some (.frz o' u'):=z;rw[ai.td.d]at z;cases z) ?_;exact k _ (J.trans (Fj f.td.d g))
  ·obtain⟨mf,ai⟩:=W S;subst mf;refine ou ((Bf (L:=L) ai.inn).2 _ _ _ _ a0) ?_;rintro i le c d hi rfl y wt;have f:=ai.same J
   cases b with
   |false=>refine dV t.a5 _ rfl (Bi rfl T.d8 T.cU (A9 (i:=4) rfl T.cS T.cu vy.nd rfl rfl (λ_=>(@RS.r _ _ _ (ef (hB (rm (yh (pv 2)) (rm (nK (Bu (K:=K) rfl) (by rfl) T.a6 oW (ad (pv 4) (ad (sv (v:=V.ref t.aW) rfl T.cZ rfl) dt))) (tW (A7 (GE_l_witness _) (A5y.held (Y.mono (by lia)) _) rfl rfl T.aU.m T.aU.F.kp T.aU.b .nil um (ad (pv 4) (ad (pv 1) (ad oF dt))))))))))))) λj n=>?_;have g:A0l B (upd B j (.ext (xcG j t.a5 (some I)))):=ed n;have D:upd B j (.ext (xcG j t.a5 (some I))) j=some (.ext (xcG j t.a5 (some I))):=cp;have q:=J.trans g;have C:=f.same g;refine cb _ rfl (mE false rfl true rfl (nI (nT _ rfl j t.a5 (some I) (dV _ true rfl D (nu T.iE (mR T.cn) true rfl (nI ?_))))));exact cb _ rfl (nT _ rfl ab I sp (oT ce false x lk M L nm (arr tb O) O (oZ i le a e c d rfl D (g _ _ X) (g _ _ hs) (g _ _ hc) C.ag ⟨C.td,(lP ai.e hi y wt λH3 U=>k _ (q.trans U))⟩)))
   |true=>refine dV t.a8 _ rfl (Bi rfl T.d8 T.eT (Bi rfl T.cS T.dg (A9 (i:=4) rfl T.j4 T.fg vy.nd rfl rfl (λ_=>(@RS.r _ _ _ (ef (hB (rm (yh (pv 2)) (rm (nK (Bu (K:=K) rfl) (by rfl) T.a6 oW (ad (pv 4) (ad (sv (v:=V.ref t.aW) rfl T.cZ rfl) dt))) (tW (A7 (GE_l_witness _) (A5y.held (Y.mono (by lia)) _) rfl rfl T.aU.m T.aU.F.kp T.aU.b .nil um (ad (pv 4) (ad (pv 1) (ad oF dt)))))))))))))) λj n=>?_;have g:A0l B (upd B j (.ext (xcG j t.a8 (some I)))):=ed n;have D:upd B j (.ext (xcG j t.a8 (some I))) j=some (.ext (xcG j t.a8 (some I))):=cp;have q:=J.trans g;have C:=f.same g;refine cb _ rfl (mE false rfl true rfl (nI (nT _ rfl j t.a8 (some I) (dV _ true rfl D (nu T.jV (mR T.df) true rfl (nI ?_))))));exact cb _ rfl (nT _ rfl ab I sp (oT ce true x lk M L nm (arr tb O) O (oZ i le a e c d rfl D (g _ _ X) (g _ _ hs) (g _ _ hc) C.ag ⟨C.td,(lP ai.e hi y wt λH3 U=>k _ (q.trans U))⟩)))
theorem B1x.up{nm:zC}{es a:zB}{own:Str}(h:∀e∈es,e∈a):∀{u:Tm}{bs:zC}{tp st:Bool},B1x nm es own bs tp st u->B1x nm a own bs tp st u|.num _,_,_,_,k=>k|.place _,_,_,_,k=>k|.read _ _,_,_,_,⟨⟨zs,k1,k2⟩,k3⟩=>⟨(cb zs (h _ k1) k2),k3⟩|.sum _ _,_,_,_,⟨k1,k2,k3⟩=>(fI k1 k2 (B1x.up h k3))|.pair _ _ _,_,_,_,⟨k1,k2⟩=>⟨B1x.up h k1,B1x.up h k2⟩|.guard _ _ _ _ _,_,_,_,⟨k1,k2,k3,k4,k5⟩=>(lP k1 k2 k3 (B1x.up h k4) (B1x.up h k5))
theorem vP(h:qU x):OkX x:=⟨h.2,oU h.1 (by decide)⟩
theorem vN:∀{u:Tm},uJ u->OkT u|.num _,_=>True.intro|.place _,h=>vP h|.read _ _,⟨h1,h2,h3⟩=>(fI (vP h1) (by lia) λe a=>vP (h3 e a).1)|.sum _ _,⟨h1,h2⟩=>⟨vP h1,vN h2⟩|.pair _ _ _,⟨h1,h2⟩=>⟨vN h1,vN h2⟩|.guard _ _ _ _ _,⟨h1,_,_,h2,h3⟩=>(fI (vP h1) (vN h2) (vN h3))
theorem AJ{p:Str->Prop}(a:ns.Nodup)(h:∀x∈ns,p x):vM p ns:=λi x e=>by
 refine⟨h x (me e),λb=>?_⟩;have f:=(ml.mp e).1;have d:ns[i]=x:=(ml.mp e).2;have c:ns=ns.take i++x::ns.drop (i+1):=by rw[<-d,List.getElem_cons_drop,wE]
 rw[c]at a;exact(qp.mp a).2.2 x b x (.head _) rfl
theorem xV:axN (nm.map λy=>(y,L y))=nm:=by unfold axN;rw[List.map_map];exact List.map_id' nm
theorem EI{α:Type}[DecidableEq α]:∀{l m:List α},l.Nodup->(∀x∈l,x∈m)->l.length<=m.length
 | [],_,_,_=>pG _
 |x::l,m,nd,h=>by
  have b:=EI (l:=l) (m:=m.erase x) (tK.mp nd).2 λy a=>(List.mem_erase_of_ne λz=>(tK.mp nd).1 (by rw[<-z];exact a)).mpr (h y (uF _ a));have c:=List.length_erase_of_mem (h x vD);have d:=List.length_pos_of_mem (h x vD);rw[nG]
  lia
theorem vT{α:Type}{f:α->Int}:∀{l:List α},(∀x∈l,0<=f x)->0<=(l.map f).sum/\∀x∈l,f x<=(l.map f).sum
 | [],_=>⟨by simp,by simp⟩
 |y::l,h=>by
  obtain⟨c,b⟩:=vT (l:=l) λx a=>h x (.tail _ a);have d:=h y (.head _);rw[mi,List.sum_cons];refine⟨by lia,λx a=>?_⟩;rcases lY.mp a with rfl|a
  ·lia
  ·have:=b x a;lia
theorem AC{α:Type}{f:α->Int}{B:Int}:∀{l:List α},(∀x∈l,f x<=B)->(l.map f).sum<=l.length*B
 | [],_=>by simp
 |y::l,h=>by
  have b:=AC (l:=l) λx a=>h x (.tail _ a);have c:=h y (.head _);rw[mi,List.sum_cons,nG,Int.natCast_add,Int.add_mul];show f y+_<=(l.length:Int)*B+1*B
  lia
theorem yF{L:zR}:∀(n:Nat){ys:zC},ys.length=n->(∀y∈ys,1<=L y/\L y<=60)->1<=prd L ys/\prd L ys<=60^n
 |0,ys,hn,_=>by rw[xE.mp hn];exact⟨by show(1:Int)<=1;decide,by show(1:Int)<=1;decide⟩
 |n+1,ys,hn,h=>by
  rcases List.eq_nil_or_concat ys with rfl|⟨b,y,rfl⟩
  ·cases hn
  ·rw[List.concat_eq_append]at hn h⊢;rw[mx,ui]at hn;obtain⟨d,c⟩:=yF n (ys:=b) (by lia) λz a=>h z (qk _ a);obtain⟨f,e⟩:=h y (pH _ (.head _));rw[yH];refine⟨?_,?_⟩
   ·have:=Int.mul_le_mul d f (by lia) (by lia)
    lia
   ·rw[Int.pow_succ];exact Int.mul_le_mul c e (by lia) (Int.le_of_lt (Int.pow_pos (by decide)))
theorem Mu:ph (ys.map L)=prd L ys:=by unfold ph prd;rw[List.foldl_map]
theorem vQ{L:zR}{nm:zC}(h:∀y∈nm,1<=L y/\L y<=60):∀(u:Tm)(k:Nat),Axs nm u->dep u<=k->wkM L u<=nod u*60^k
 |.num _,k,_,_=>by have:(0:Int)<60^k:=Int.pow_pos (by decide);show(1:Int)<=1*_;lia
 |.place _,k,_,_=>by have:(0:Int)<60^k:=Int.pow_pos (by decide);show(1:Int)<=1*_;lia
 |.read _ _,k,_,_=>by have:(0:Int)<60^k:=Int.pow_pos (by decide);show(1:Int)<=1*_;lia
 |.sum x b,k,a,d=>by
  have d:dep b+1<=k:=d;obtain⟨k,rfl⟩:∃m,k=m+1:=⟨k-1,by lia⟩;have i:=vQ h b k a.2 (by lia);have p:=so (λy c=>(h y c).1) b a.2;have l:=h x a.1;have q:(0:Int)<60^(k+1):=Int.pow_pos (by decide);have m:=Int.mul_le_mul l.2 i (by lia) (by decide);show 1+L x*wkM L b<=((nod b+1:Nat):Int)*60^(k+1);have e:(60:Int)*(nod b*60^k)=nod b*60^(k+1):=by rw[Int.pow_succ,<-Int.mul_assoc,<-Int.mul_assoc,Int.mul_comm 60,Int.mul_assoc,Int.mul_comm 60,<-Int.mul_assoc]
  rw[Int.natCast_add,Int.add_mul,<-e];show _<=_+1*_
  lia
 |.pair _ l r,k,a,d=>by
  have d:max (dep l) (dep r)+1<=k:=d;have i:=vQ h l k a.1 (by lia);have j:=vQ h r k a.2 (by lia);have q:(0:Int)<60^k:=Int.pow_pos (by decide);show 1+wkM L l+wkM L r<=((nod l+nod r+1:Nat):Int)*60^k;rw[Int.natCast_add,Int.natCast_add,Int.add_mul,Int.add_mul];show _<=_+1*_
  lia
 |.guard _ _ _ l r,k,a,d=>by
  have d:max (dep l) (dep r)+1<=k:=d;have i:=vQ h l k a.2.1 (by lia);have j:=vQ h r k a.2.2 (by lia);have q:(0:Int)<60^k:=Int.pow_pos (by decide);show 1+wkM L l+wkM L r<=((nod l+nod r+1:Nat):Int)*60^k;rw[Int.natCast_add,Int.natCast_add,Int.add_mul,Int.add_mul];show _<=_+1*_
  lia
structure PgW(nm:zC)(L:zR)(tb:zB)(ls:List Lt):Prop where
 m8:nm.length<=8
 nd:(nm++arN tb ls).Nodup
 ok:∀x∈nm++arN tb ls,qU x/\nmB x=true
 le:∀y∈nm,1<=L y/\L y<=60
 nt:tb.length<=10
 nl:ls.length<=10
 ax:∀e∈arr tb ls,AxN nm e.2
 gr:∀(i:Nat)(le:Lt),ls[i]?=some le->Grn nm (arr tb (ls.take (i+1))) le.1 le.2.1 true true 9 1000 le.2.2
theorem PgW.tells(h:PgW nm L tb ls)(b:∀y∈ys,y∈nm):qV (mo [] (qt (nm.map λy=>(y,L y)))) L ys:=λy a=>by
 have l:=h.le y (b y a);have e:qt (nm.map λy=>(y,L y))=nm.map λy=>((Sum.inr y:Key),V.int (L y)):=by unfold qt;rw[List.map_map];rfl
 have n:((([]:zJ)++qt (nm.map λy=>(y,L y))).map (·.1)).Nodup:=by rw[e,List.nil_append,List.map_map];exact EY (qp.mp h.nd).1
 rw[xz n,List.nil_append,e];exact fI (xh (b y a)) (by lia) (by lia)
theorem PgW.up(h:PgW nm L tb ls):∀e∈arr tb (ls.take i),e∈arr tb ls:=λe b=>by
 rcases mX.mp b with z|z
 ·exact qk _ z
 ·obtain⟨l,a,rfl⟩:=pd.mp z;exact pH _ (pd.mpr (cb l (tE a) rfl))
theorem PgW.axl(h:PgW nm L tb ls)(a:le∈ls):AxN nm le.2.1:=h.ax (le.1,le.2.1) (pH _ (pd.mpr (cb le a rfl)))
theorem PgW.grn(h:PgW nm L tb ls)(f:le∈ls):Grn nm (arr tb ls) le.1 le.2.1 true true 9 1000 le.2.2:=by obtain⟨i,d⟩:=List.getElem?_of_mem f;obtain⟨c,a,b,e⟩:=h.gr i le d;exact⟨B1x.up h.up c,a,b,e⟩
theorem PgW.inn(h:PgW nm L tb ls)(a:le∈ls):ve nm (arr tb ls) le:=⟨(h.axl a).nd,(h.grn a).tr⟩
theorem PgW.pt(h:PgW nm L tb ls)(a:le∈ls)(b:q∈prT le.2.2 [] []):xJ nm (arr tb ls) le.2.1 [] q []:=sw le.2.2 le.2.1 [] [] true true (h.axl a).nd (h.grn a).tr q b
theorem PgW.bs(h:PgW nm L tb ls)(a:le∈ls)(d:q∈prT le.2.2 [] []):(le.2.1++q.2.1).Nodup/\∀y∈le.2.1++q.2.1,y∈nm:=by
 have p:=h.pt a d;refine⟨p.nd,λy c=>?_⟩;rcases mX.mp c with z|z
 ·exact(h.axl a).sub y z
 ·obtain⟨m,b,e⟩:=p.sb;rw[b,List.nil_append]at z;exact e y z
theorem PgW.prd1(h:PgW nm L tb ls)(a:∀y∈ys,y∈nm):1<=prd L ys:=(yF _ rfl λy k=>h.le y (a y k)).1
theorem PgW.wkl(h:PgW nm L tb ls)(a:le∈ls):wkL L le=prd L le.2.1*wkM L le.2.2:=by have:=vq (L:=L) (oy:=le.2.1) le.2.2 [] [];rw[ox]at this;exact this
theorem PgW.axs(h:PgW nm L tb ls)(a:le∈ls):Axs nm le.2.2:=sk (h.axl a).sub (h.grn a).tr
theorem PgW.wk1(h:PgW nm L tb ls)(a:le∈ls):1<=wkM L le.2.2:=so (λy b=>(h.le y b).1) _ (h.axs a)
theorem PgW.part(h:PgW nm L tb ls)(b:le∈ls)(a:q∈prT le.2.2 [] []):prd L (le.2.1++q.2.1)<=wkL L le:=(vT (f:=λq:Pq=>prd L (le.2.1++q.2.1)) (l:=prT le.2.2 [] []) λq a=>by have:=h.prd1 (h.bs b a).2;lia).2 q a
theorem PgW.wl0(h:PgW nm L tb ls)(e:le∈ls):prd L le.2.1<=wkL L le/\wkM L le.2.2<=wkL L le:=by
 have a:=h.prd1 (h.axl e).sub;have b:=h.wk1 e;rw[h.wkl e];have c:=Int.mul_le_mul (Int.le_refl (prd L le.2.1)) b (by lia) (by lia);have d:=Int.mul_le_mul a (Int.le_refl (wkM L le.2.2)) (by lia) (by lia)
 lia
theorem PgW.wle(h:PgW nm L tb ls)(d:le∈ls):wkL L le<=wrk L tb ls:=by
 have a:=(vT (f:=λe:Str×List Str=>prd L e.2) (l:=tb) λe c=>by have:=h.prd1 (h.ax e (qk _ c)).sub;lia).1;have b:=(vT (f:=wkL L) (l:=ls) λe c=>by have:=h.wl0 c;have:=h.prd1 (h.axl c).sub;lia).2 le d;unfold wrk
 lia
theorem PgW.gl(h:PgW nm L tb ls)(d:ys.Nodup)(a:∀y∈ys,y∈nm)(w:prd L ys<=4000):wP (ys.map L):=by
 refine⟨λn b=>?_,?_,by rw[Mu];exact w⟩
 ·obtain⟨y,c,rfl⟩:=pd.mp b;exact h.le y (a y c)
 ·have:=EI d a;have:=h.m8;rw[dm]
  lia
theorem PgW.sm(h:PgW nm L tb ls):Sm (wrk L tb ls):=by
 have o:∀b:zC,AxN nm b->1<=prd L b/\prd L b<=216000:=λb a=>by
  obtain⟨m,k⟩:=yF (L:=L) _ (rfl:b.length=_) λy q=>h.le y (a.sub y q);refine⟨m,Int.le_trans k ?_⟩;have l:=a.few;generalize b.length=n at l
  match n,l with
  |0,_=>decide
  |1,_=>decide
  |2,_=>decide
  |3,_=>decide
 have r:=vT (f:=λe:Str×List Str=>prd L e.2) (l:=tb) λe c=>by have:=h.prd1 (h.ax e (qk _ c)).sub;lia
 have u:=AC (f:=λe:Str×List Str=>prd L e.2) (B:=216000) (l:=tb) λe c=>(o _ (h.ax e (qk _ c))).2
 have s:∀i∈ls,wkL L i<=216000*(1000*60^9):=λi d=>by rw[h.wkl d];have g:=h.grn d;have w:=vQ h.le i.2.2 9 (h.axs d) g.dp;have p:(nod i.2.2:Int)*60^9<=1000*60^9:=Int.mul_le_mul_of_nonneg_right (by have:=g.no;lia) (by decide);exact Int.mul_le_mul (o _ (h.axl d)).2 (Int.le_trans w p) (by have:=h.wk1 d;lia) (by decide)
 have m:=vT (f:=wkL L) (l:=ls) λe c=>by have:=h.wl0 c;have:=h.prd1 (h.axl c).sub;lia
 have k:=AC (f:=wkL L) (l:=ls) s;have t:=h.nt;have l:=h.nl;have x:(tb.length:Int)*216000<=10*216000:=by lia
 have v:(ls.length:Int)*(216000*(1000*60^9))<=10*(216000*(1000*60^9)):=Int.mul_le_mul_of_nonneg_right (by lia) (by decide);have j:(10:Int)*216000+10*(216000*(1000*60^9))<=((10^32:Nat):Int):=by decide+kernel
 have e:0<=wrk L tb ls/\wrk L tb ls<=((10^32:Nat):Int):=by
  unfold wrk;have:=r.1;have:=m.1;constructor
  ·lia
  ·exact Int.le_trans (Int.add_le_add (Int.le_trans u x) (Int.le_trans k v)) j
 unfold Sm;generalize (10:Nat)^32=T at e⊢
 lia
theorem PgW.el(h:PgW nm L tb ls):∀(r:List Lt)(i:Nat),r=ls.drop i->tR nm (arr tb (ls.take i)) r=none
 | [],_,_=>rfl
 |l::r,i,e=>by
  have a:ls[i]?=some l:=by
   have:=congrArg (λz=>z[0]?) e;rw[List.getElem?_drop]at this
   simpa using this.symm
  have f:=(ml.mp a).1
  have b:arr tb (ls.take (i+1))=tO (arr tb (ls.take i)) l:=by unfold arr tO;rw[mQ,a,nO,lR,pj];rfl
  have j:r=ls.drop (i+1):=by
   have:=congrArg (List.drop 1) e;rw[List.drop_drop]at this
   simpa using this
  have c:((tO (arr tb (ls.take i)) l).map (·.1)).Nodup:=by rw[<-b,vw];refine(List.Sublist.append (List.Sublist.refl _) (List.Sublist.map _ (uD _ _))).nodup (qp.mp h.nd).2.1
  have d:vG nm (arr tb (ls.take i)) l=none:=by unfold vG;rw[List.findSome?_eq_none_iff];intro q g;exact vS c l.2.2 [] [] true true (by rw[ox,<-b];exact(h.gr i l a).tr) ⟨λ_=>Nat.zero_add _,λz=>by cases z⟩ q g
  unfold tR;rw[d,<-b];exact PgW.el h r (i+1) j
theorem PgW.lk(h:PgW nm L tb ls)(F:os≠[])(I:os.Nodup)(G:os.length<=500)(r:∀x∈os,x∈arN tb ls):BV (nm.map λy=>(y,L y)) tb ls os L:=by
 have O:=h.m8;have N:=h.nt;have M:=h.nl;have f:∀x∈nm++arN tb ls,OkX x:=λx c=>vP (h.ok x c).1;have o:∀x∈nm,OkX x:=λx c=>f x (qk _ c);have j:∀x∈arN tb ls,OkX x:=λx c=>f x (pH _ c);have i:=(qp.mp h.nd).2.1;have m:∀l∈ls,l.1∈arN tb ls:=λl d=>pH _ (pd.mpr (cb l d rfl))
 refine⟨⟨by rw[dm];lia,by lia,by lia,G,by rw[xV];exact f,λx c=>j x (r x c),λe b=>⟨by have:=(h.ax e b).few;lia,λx c=>o x ((h.ax e b).sub x c)⟩⟩,
  (fI (by rw[xV];exact AJ h.nd λx c=>(h.ok x c).2) F (AJ I r)),
  λe b=>⟨(h.ax e b).few,by rw[xV];exact AJ (h.ax e b).nd (h.ax e b).sub⟩,
  ⟨by rw[dm];lia,by lia,by lia,i,λe b=>(lP (by have:=(h.axl b).few;lia) (j _ (m e b)) (vN (h.grn b).gd) ((h.grn b).dp) ((h.grn b).no))⟩,
  ?_,⟨by lia,by lia,λe b=>?_,λe b=>?_⟩,h.sm,λw=>⟨i,by lia,by lia,λe b=>h.tells (h.ax e b).sub,λl d=>(fI ((h.grn d).dp) ((h.grn d).no) λq k a K D=>?_)⟩⟩
 ·rw[xV];have:=h.el ls 0 rfl;have v:arr tb (ls.take 0)=tb:=by unfold arr;simp
  rwa[v]at this
 ·have a:=h.ax e (qk _ b);exact⟨by have:=a.few;lia,h.tells a.sub⟩
 ·exact lP (by have:=(h.axl b).few;lia) (h.tells (h.axl b).sub) ((h.grn b).dp) ((h.grn b).no) λq k=>h.tells λy B=>(h.bs b k).2 y (pH _ B)
 ·have p:=h.pt d k;obtain⟨J,s⟩:=h.bs d k;obtain⟨⟨A,u,t⟩,C⟩:=p.rd a K D;have Q:=h.part d k;have P:=h.wle d;refine kB ⟨h.tells s,h.gl J s (by lia),by rw[t];exact(h.ax _ u).few,λe b n=>?_,λg H=>?_⟩ A (yj (by rw[vw];exact i) u) t.symm
  ·simpa using C e b n
  ·rcases p.gd g H with z|z
   ·cases z
   ·simpa using z
theorem Ip{z:Str}(b:z≠"")(h:∀c∈z.cps.toList,97<=c/\c<=122):tQ z=true:=by unfold tQ;rw[mT b,Bool.not_false,Bool.true_and,List.all_eq_true];intro c a;rw[HS,decide_eq_true_eq,Aw];exact List.mem_range'_1.mpr (by have:=h c a;lia)
theorem Ju(n r b m:Nat)(h:List.replicate n b++m::List.replicate r b=[115,117,109]):False:=by
 have l:=congrArg List.length h;simp at l
 match n,r,l with
 |0,2,_=>simp[List.replicate]at h;lia
 |1,1,_=>simp[List.replicate]at h;lia
 |2,0,_=>simp[List.replicate]at h;lia
theorem IW{k:Int}{z:Str}(h:NmD seed k z):nmB z=true:=by
 have j:=AF h;rcases h with ⟨a,b⟩|⟨_,rfl⟩
 ·have g:=yJ seed k;have l:=AO seed
  have f:z.length=nS seed+mS seed+1:=by show z.cps.size=_;rw[<-Array.length_toList,a,g]
  have d:z≠"sum":=λe=>by rw[e]at a;exact Ju _ _ _ _ (a.symm.trans (by decide+kernel:("sum":Str).cps.toList=[115,117,109]))
  unfold nmB;rw[Ip j.2 (λc i=>DK (by rw[<-a];exact i)),mP (by lia),mT (by simp[b,d])];rfl
 ·decide+kernel
theorem LW(h:∀(i:Nat) z,ns[i]?=some z->NmD seed i z)(l:ns.length<=26):ns.Nodup:=by
 rw[List.Nodup,List.pairwise_iff_getElem];intro i j c d f e;have a:=h i _ (nP c);have b:=h j _ (nP d);rw[e]at a;have:=Jn (by lia) (by lia) (by lia) (by lia) a b
 lia
theorem Ll:wrk L tb (ls++[le])=wrk L tb ls+wkL L le:=by
 unfold wrk;rw[lR,List.sum_append];show _+(_+(wkL L le+0))=_
 lia
theorem Jl{e:Str×List Str}:wrk L (tb++[e]) []=wrk L tb []+prd L e.2:=by
 unfold wrk;rw[lR,List.sum_append];show _+(prd L e.2+0)+(([]:zI)).sum=_+(([]:zI)).sum+_
 lia
theorem Eo:arr tb (ls++[le])=arr tb ls++[(le.1,le.2.1)]:=by unfold arr;rw[lR,pj];rfl
theorem IX(h:∀(i:Nat)(l:Lt),ls[i]?=some l->Grn nm (arr tb (ls.take (i+1))) l.1 l.2.1 true true 9 1000 l.2.2)(g:Grn nm (arr tb ls++[(le.1,le.2.1)]) le.1 le.2.1 true true 9 1000 le.2.2):
  ∀(i:Nat)(l:Lt),(ls++[le])[i]?=some l->Grn nm (arr tb ((ls++[le]).take (i+1))) l.1 l.2.1 true true 9 1000 l.2.2:=λi l a=>by
 by_cases z:i<ls.length
 ·rw[rF z]at a;rw[List.take_append_of_le_length (by lia)];exact h i l a
 ·have b:=(ml.mp a).1;rw[mx,ui]at b;have c:i=ls.length:=by lia
  subst c;rw[rf (fy _),Nat.sub_self]at a;have a:le=l:=by simpa using a
  subst a;rw[rT (by simp),Eo];exact g
theorem AM(f:α->V)(nm:List α)(lo hi:Option Int):∃zs:List α,nJ (nm.map f) lo hi=zs.map f/\zs.length<=nm.length/\∀x∈zs,x∈nm:=by
 refine fx ((nm.drop (HT.sIx nm.length 0 lo)).take (HT.sIx nm.length nm.length hi-HT.sIx nm.length 0 lo)) ?_ ?_ λx a=>?_
 ·unfold nJ;rw[dm,<-List.map_drop,<-List.map_take]
 ·rw[mK,uI];lia
 ·exact List.mem_of_mem_drop (tE a)
theorem DW:∀{zs:zM},(∀z∈zs,∃i,z=V.int i)->∃ms:zI,zs=ms.map V.int| [],_=>⟨[],rfl⟩|z::r,h=>by obtain⟨i,rfl⟩:=h z (.head _);obtain⟨ms,rfl⟩:=DW (zs:=r) λy a=>h y (.tail _ a);exact⟨i::ms,rfl⟩
theorem xo{k:Key}(h:k∉kvs.map (·.1)):lW kvs k=none:=by
 induction kvs with
 |nil=>rfl
 |cons p r ih=>rw[mi,lY]at h;rw[qw (λz=>h (.inl z.symm))];exact ih λz=>h (.inr z)
theorem IV{v:Int}(h:y∈nm):my (nm.map λz=>((Sum.inr z:Key),V.int (L z))) (Sum.inr y) (.int v)=nm.map λz=>((Sum.inr z:Key),V.int (if z=y then v else L z)):=by
 unfold my;rw[eH (by rw[uw,xh h];rfl),List.map_map];refine List.map_congr_left λz _=>?_;by_cases e:z=y
 ·subst e;simp
 ·have:¬(Sum.inr z:Key)=Sum.inr y:=λq=>e (Sum.inr.inj q);simp[e,this]
theorem uT(s:A0l H G)(a:H D=none)(k:KJ D G G'):A0l H G':=λb u e=>k.kb b u (lO e a) (s _ _ e)
theorem DU:∀(more acc:zJ),((acc++more).map (·.1)).Nodup->mo acc more=acc++more
 | [],acc,_=>by rw[ox];rfl
 |p::r,acc,h=>by
  have a:p.1∉acc.map (·.1):=λz=>by rw[lR,qp]at h;exact h.2.2 _ z p.1 (List.mem_map_of_mem (.head _)) rfl
  show mo (my acc p.1 p.2) r=acc++p::r;rw[wa _ (xo a),DU r (acc++[(p.1,p.2)]) (by rw[pj];exact h),pj];rfl
theorem JI{f:α->V}{ys:List α}(h:i+j<=ys.length):nJ (ys.map f) (some (i:Int)) (some ((i:Int)+(j:Int)))=((ys.drop i).take j).map f:=by
 unfold nJ;have a:HT.sIx (ys.map f).length 0 (some (i:Int))=min i (ys.map f).length:=HT.sIx_nat _ _ _;have b:HT.sIx (ys.map f).length (ys.map f).length (some (((i+j:Nat)):Int))=min (i+j) (ys.map f).length:=HT.sIx_nat _ _ _;have c:((i:Int)+(j:Int))=((i+j:Nat):Int):=by lia
 rw[dm]at a b;rw[Nat.min_eq_left (by lia)]at a;rw[Nat.min_eq_left h]at b;rw[c,dm,a,b,Nat.add_sub_cancel_left,<-List.map_drop,<-List.map_take]
theorem D9x.snoc(h:D9x L nm es)(g:y∉es.map (·.1))(hs:qU y)(i:AxN nm ys)(m:es.length<20):D9x L nm (es++[(y,ys)]):=by
 have d:∀{Pp:Str×List Str->Prop},(∀e∈es,Pp e)->Pp (y,ys)->∀e∈es++[(y,ys)],Pp e:=λf j e l=>(mX.mp l).elim (f e) λz=>by rw[mn.mp z];exact j
 refine⟨?_,d h.ax i,by rw[mx];simp;lia,d h.str hs⟩;rw[lR,qp];refine fI h.nd (by simp) λa k b c e=>?_;have c:b=y:=mn.mp c;exact g (by rw[<-c,<-e];exact k)
def ScF(K:Frag)(H:Hp)(a:zW)(xs:zM):Prop:=(∃o,H a=some (.frz o (.lst xs)))\/∀b,SqL K b a xs
theorem ScF.mk{a:zW}(o:xL H)(s:SqL K H a xs):ScF K H a xs:=by
 rcases s with (h|⟨b,h⟩)|h
 ·rcases o a with z|⟨b,d,z⟩
  ·rw[h]at z;cases z
  ·rw[h]at z;cases z
 ·exact .inl ⟨b,h⟩
 ·exact .inr λc=>.inr h
theorem ScF.sq{a:zW}(s:ScF K H a xs):SqL K H a xs:=by
 rcases s with ⟨o,h⟩|h
 ·exact .inl (.inr ⟨o,h⟩)
 ·exact h H
theorem ScF.keep{a:zW}(s:ScF K H a xs)(f:∀o,H a=some (.frz o (.lst xs))->H' a=some (.frz o (.lst xs))):ScF K H' a xs:=by
 rcases s with ⟨o,h⟩|h
 ·exact .inl ⟨o,f o h⟩
 ·exact .inr h
def yf(K:Frag):Sp:=λc H Q _=>∃(a:zW)(b:zI),c=[.ref a]/\ScF K H a (b.map V.int)/\b.length<=63/\∀d,Q (.bl true) d
theorem wR{x:Abt}(h:H ab=some (.dK (abK x))){k:Str}(e:lW (abK x) (Sum.inr k)=some v):A8f H ab (.str k) (some v):=.inl (dV _ (Sum.inr k) (.inl h) rfl e.symm)
theorem AW{S:zV}{H:Hp}:∀{a:zJ}{es:zB},AR S H a es->a.map (·.1)=es.map λe=>(Sum.inr e.1:Key)|_,_,.nil=>rfl|_,_,.cons ⟨h,_⟩ t=>by rw[mi,mi,AW t,h]
theorem BE{α β:Type}{F c:α->β->Prop}:∀{a:List α}{b:List β},Paired F a b->Paired c a b->Paired (λx y=>F x y/\c x y) a b|_,_,.nil,.nil=>.nil|_,_,.cons r t,.cons r' t'=>.cons ⟨r,r'⟩ (BE t t')
theorem Ls(x:Abt):mo [] (abK x)=abK x:=DU _ [] (by show(((["axes","lengths","ahead","shapes","own","trees"]:zC)).map (Sum.inr:Str->Key)).Nodup;decide+kernel)
def TbV(T:zW)(G:Hp):zM->List (Str×List Str)->Prop:=Paired λ(v:V)(e:Str×List Str)=>∃p c,v=.ref p/\c≠T/\G p=some (.tup [.str e.1,.ref c])/\G c=some (.lst (e.2.map V.str))
theorem TbV.ki{T:zW}{a:Hp}(h:TbV T G vs es)(k:KI G a):TbV T a vs es:=Paired.mapP h (by (refine λ_ _ b=>lS b λp c e n d f=>?_;clear b);exact lQ p c e n (k.kt _ _ d) (k.str f))
theorem TbV.same{T:zW}{a:Hp}(h:TbV T G vs es)(s:A0l G a):TbV T a vs es:=h.ki (KI.of s)
theorem TbV.up{T:zW}{ys:zM}(h:TbV T G vs es)(d:G T=some (.lst xs)):TbV T (upd G T (.lst ys)) vs es:=Paired.mapP h (by (refine λ_ _ b=>lS b λp c e n a f=>?_;clear b);exact lQ p c e n (by rw[eh (mU a d (by intro z;cases z))];exact a) (by rw[eh n];exact f))
theorem Jw{k:Key}{a:V}(h:∀p∈r,¬p.1=k):my ((k,v)::r) k a=(k,a)::r:=by unfold my;rw[eH (by simp)];rw[mi,eH rfl];congr 1;exact(List.map_congr_left λp b=>fa (h p b)).trans (List.map_id' _)
theorem KA{b:Str}(h:decide (a=b)=false)(hs:(lW r (Sum.inr b)).isSome=true):my (((Sum.inr a:Key),v)::r) (Sum.inr b) v'=((Sum.inr a:Key),v)::my r (Sum.inr b) v':=by
 have c:¬(Sum.inr a:Key)=Sum.inr b:=λz=>by injection z with z;rw[mP z]at h;cases h
 unfold my;rw[eH (by rw[List.any_cons,uw,hs,Bool.or_true]),eH (by rw[uw,hs]),mi,fa c]
theorem IB{b:Str}(h:lW r (Sum.inr b)=none):∀p∈r,¬p.1=(Sum.inr b:Key):=λp a e=>KY h (by rw[<-e];exact List.mem_map_of_mem a)
local macro_rules | `(tactic| walk_at"ab") => `(tactic| first |rfl |exact qx rfl |(refine(Cf (by decide +kernel)).trans ?_; walk_at"ab"))
local macro_rules | `(tactic| walk_at"pu") => `(tactic| first |exact Jw (IB (by walk_at"ab")) |(refine(KA (by decide +kernel) (Option.isSome_iff_exists.mpr ⟨_, by walk_at"ab"⟩)).trans (congrArg (List.cons _) ?_); walk_at"pu"))
theorem MB(x:Abt)(y:Str):my (abK x) (Sum.inr "own") (.str y)=abK {x with own:=y}:=by unfold abK;walk_at"pu"
theorem wX{m:zW}{u:HO}(h:Nw G b)(e:G m=some u)(n:∀i xs,u≠.lst (V.int i::xs)):b≠m:=λz=>by subst z;obtain⟨i,xs,a⟩:=h _ e;exact n i xs a
def KMs(Ms:zQ)(H H':Hp):Prop:=∀b o,b∉Ms->H b=some o->H' b=some o
theorem KMs.of(s:A0l H H'):KMs Ms H H':=λb o _ e=>s _ _ e
theorem KMs.trans(a:KMs Ms H H')(b:KMs Ms H' H2):KMs Ms H H2:=λc o d e=>b c o d (a c o d e)
theorem Jx{a:zJ}(h:AR S H a es)(n:y∉es.map (·.1)):lW a (Sum.inr y)=none:=xo (by
 rw[AW h];intro z;obtain⟨e,b,q⟩:=pd.mp z
 exact n (pd.mpr (cb e b (Sum.inr.inj q))))
theorem uH(G:Hp)(p:zW)(o:HO):∃a,upd G p o=a/\(∀{m:zW}{u:HO},m≠p->G m=some u->a m=some u)/\a p=some o:=⟨_,rfl,λn e=>by rw[eh n];exact e,cp⟩
theorem nem{m:zW}(n:b∉Ms)(h:m∈Ms:=by simp):b≠m:=λz=>n (by rw[z];exact h)
def Ck(H:Hp)(trk:zJ)(ls:List Lt):Prop:=Paired (λ(p:Key×V)(a:Lt)=>p.1=Sum.inr a.1/\A7s H p.2 a.2.2) trk ls
theorem Ef{H:Hp}:∀{trk:zJ}{ls:List Lt},Ck H trk ls->trk.map (·.1)=(ls.map (·.1)).map (Sum.inr:Str->Key)|_,_,.nil=>rfl|_,_,.cons r t=>by rw[mi,mi,mi,Ef t,r.1]
theorem yz:arr tb []=tb:=ox _
theorem HA:wkL L (y,ys,u)=prd L ys*wkM L u:=by have:=vq (L:=L) (oy:=ys) u [] [];rw[ox]at this;exact this
theorem Hf(a:es.map (·.1)=ns)(b:ns.Nodup)(ok:∀z∈ns,qU z)(c:∀e∈es,AxN nm e.2)(l:es.length<=20):D9x L nm es:=⟨by rw[a];exact b,c,l,λe d=>ok _ (by rw[<-a];exact List.mem_map_of_mem d)⟩
theorem K9{l:List α}{y:α}{k:Nat}(c:l.Nodup)(h:l[k]?=some y):y∉l.take k:=λm=>by
 obtain⟨j,a⟩:=List.getElem?_of_mem m
 have b:j<k:=by
  have:=(ml.mp a).1;rw[mK]at this
  lia
 rw[List.getElem?_take_of_lt b]at a;have:=(List.getElem?_inj (ml.mp a).1 c).mp (a.trans h.symm)
 lia
theorem FE{α β:Type}{F:α->β->Prop}:∀{a:List α}{b:List β},Paired F a b->Paired (λx y=>y∈b/\F x y) a b|_,_,.nil=>.nil|_,_,.cons r t=>.cons ⟨.head _,r⟩ (Paired.mapP (FE t) λ_ _ z=>⟨.tail _ z.1,z.2⟩)
theorem zl(l:ys.length<=3)(h:∀y∈ys,1<=L y/\L y<=60):1<=prd L ys/\prd L ys<=216000:=by
 obtain⟨a,b⟩:=yF _ rfl h;refine⟨a,Int.le_trans b ?_⟩;generalize ys.length=k at l
 match k,l with
 |0,_=>decide
 |1,_=>decide
 |2,_=>decide
 |3,_=>decide
theorem Dm{T:zW}{H:Hp}:∀{vs:zM}{es:zB},TbV T H vs es->A3m H vs (es.map qT)|_,_,.nil=>.nil|_,_,.cons r t=>by refine lS r ?_;clear r;rintro p c rfl _ a b;exact .cons (GK a b) (Dm t)
theorem Do{H:Hp}:∀{vs:zM}{a:zL},Paired (λ(v:V)(e:Str×Int)=>∃q,v=.ref q/\H q=some (.tup [.str e.1,.int e.2])) vs a->A3m H vs (a.map pf)|_,_,.nil=>.nil|_,_,@Paired.cons _ _ _ v e _ _ r t=>by obtain⟨q,rfl,b⟩:=r;exact .cons (.tup b (.cons (.str _) (.cons (.int _) .nil))) (Do t)
structure LtS(A:Adr)(Ms:zQ)(G:Hp)(ab ll:zW)(x:Abt)(tb:zB)(ls:List Lt):Prop where
 d:∃ow,G ab=some (.dK (abK {x with own:=ow}))
 ah:G x.ah=some (.lst (((arr tb ls).map (·.1)).map V.str))
 sh:∃ak,G x.sh=some (.dK ak)/\AR (λb=>b∉Ms) G ak (arr tb ls)
 tr:∃trk,G x.tr=some (.dK trk)/\Ck (lU (λb=>b∉Ms) G) trk ls
 ll:∃lv,G ll=some (.lst lv)/\Paired (B0p A (λ_=>True) (lU (λb=>b∉Ms) G)) lv ls
theorem Hv(T:Txt K mg t):FO P w base T.kC 19 (yf K):=by
 have Gb3:=@yM P w K mg base t T;refine T.kC.F.ok oR λ_ A _ s H _ Q E hr h=>?_
 ·refine lS h ?_;clear h;rintro a ns rfl hS hn k;have hu:=qW hr;refine rsq (dh ⟨@pR _ _ 1 _ _ _ _ oR.nd rfl (.inr rfl) (pC (N':=["_law_cell_here"]) (ix:=(List.replicate 1 none)) rfl (re rfl (by decide+kernel) (by decide+kernel)) (rc rfl) (Dh rfl T.gS (ad (pV qg (pv 0) pS (pB ew)) dt)) (λ_ _ _ _=>(hH (i:=0) MJ)) (λ_ _ _ _=>(pv 0))) rfl (.inl rfl)⟩ (dh (hK 2 oR.nd (pcl Gb3 hr T.aN (eg 1))) (dh ⟨@pR _ _ 3 _ _ _ _ oR.nd rfl (.inr rfl) (eB oM ew (eB ny (pcl Gb3 hr T.aN (eg 1)) ew)) rfl (.inl rfl)⟩ (dh (hK 4 oR.nd (eB ny (pcl Gb3 hr T.aN (eg 1)) ew)) (dh (hK 5 oR.nd (eB oM ew (eB ny (pcl Gb3 hr T.aN (eg 1)) ew))) (dh ⟨@pR _ _ 6 _ _ _ _ oR.nd rfl (.inr rfl) (pcl Gb3 hr T.aN (eg 1)) rfl (.inl rfl)⟩ (dh ⟨@pR _ _ 8 _ _ _ _ oR.nd rfl (.inr rfl) (pC (N':=["_law_k","_law_seed"]) (ix:=(List.replicate 1 none++[some 6])) rfl (uv (x:="_law_seed") rfl rfl rfl (by decide+kernel) (by decide+kernel)) (ux (N0:=["_law_k"]) rfl (.inl rfl) (by walk_at"ix")) (uV rfl T.bi (ad (eB oM (eB oM (pv 3) (pv 4)) (pv 5)) dt)) (λ_ _ _ _=>(hH (i:=0) MA)) (λ_ _ _ _=>(pcl (Mn T) hr T.gA (ad (pv 0) (eg 1))))) rfl (.inl rfl)⟩ (dh ⟨@pR _ _ 9 _ _ _ _ oR.nd rfl (.inr rfl) wg rfl (.inl rfl)⟩ (dh (pX (nR (pV qg (pv 8) pS (pB (pv 3)))) (hH (i:=10) oR.nd) (ef ⟨@su _ _ _ _ _ _ _ _ _ hu (pv 9) (pv 10) (eB oM ew (eB ny (pcl Gb3 hr T.aN (eg 1)) ew)) rfl⟩)) (qy (lN (lZ nQ (eB ny (pv 2) ew) ew) (ef ⟨@su _ _ _ _ _ _ _ _ _ hu (pv 9) (qv sF (pv 8) (eB ny (eB pL (pv 2) ew) (pv 3))) (eB oM ew (eB ny (eB pL (pv 2) ew) ew)) rfl⟩) ⟨hC⟩) (dh ⟨Dr (i₀:=11) (N':=["_law_name_here","_law_many_here","_law_names","_law_rest"]) (ix:=(List.replicate 1 none++[some 3,some 8,some 1])) oR.nd rfl (.inl rfl) rfl (ER (cl:=[("_law_rest",_),("_law_names",_),("_law_many_here",_)]) (xs:=["_law_rest","_law_names","_law_many_here"]) rfl (lX rfl rfl rfl trivial) rfl rfl (by decide+kernel) (by decide+kernel)) (EU (N0:=["_law_name_here"]) (xs:=["_law_many_here","_law_names","_law_rest"]) (js:=[3,8,1]) (lX (fI rfl (.inl rfl) (by walk_at"ix")) (fI rfl (.inl rfl) (by walk_at"ix")) (fI rfl (.inl rfl) (by walk_at"ix")) trivial)) (nR (pV qg (pv 8) (pB (pv 3)) (pB (eB oM (pv 3) (pv 4))))) (λ_ _ _ _=>(hH (i:=0) MO)) (λ_ _ _ _=>(oQ (ad (pv 0) (ad (pcl (E8 T) hr T.dQ (ad (pcl Gb3 hr T.aN (eg 3)) (ad (pV (Lq (K:=K) rfl) (pv 2) pS (pB (pv 1))) dt))) dt))))⟩ (dh (hK 12 oR.nd (JA (we lV (pV qg (pv 8) pS (pB (pv 3))) (we lV (pv 9) (we lV (@oG _ _ _ _ dt) (we lV wg (we lV lV (we lV wg IL)))))) rfl rfl (by simp) (by decide))) (dh (hK 13 oR.nd ew) (dh (pX (nR (pv 11)) (qY (n:=2) rfl (mV (hH (i:=10) oR.nd) (mV (hH (i:=14) oR.nd) pT))) (dh ⟨oa (qI qR sS sR sI (mj hu (pv 12) lV) (eg 10))⟩ (dh ⟨@su _ _ _ _ _ _ _ _ _ hu (mj hu (pv 12) lV) (pv 10) (pv 14) rfl⟩ (ef (hK 13 oR.nd (eB oM (pv 13) (pcl (EO T) hr T.eK (ad (pv 14) (eg 9))))))))) (dh (hK 15 oR.nd (@oG _ _ _ _ dt)) (dh (pX (uV rfl T.bi (eg 5)) (hH (i:=7) oR.nd) (dh (hK 16 oR.nd (pcl (MW T) hr T.f8 (ad (pV qg (Mt (pV qg (pv 0) (pB ew) pS) (pB (pv 7)) pS (pv 5)) pS (pB ew)) (eg 2)))) (dh (hK 10 oR.nd (qv sF (pv 8) (eB oM (eB oM (pv 3) (pv 4)) (pv 7)))) (dh (hK 14 oR.nd (pcl (E8 T) hr T.dQ (ad (pcl Gb3 hr T.aN (eg 16)) (ad (pV qg (pv 8) pS (pB (pv 3))) dt)))) (dh ⟨@su _ _ _ _ _ _ _ _ _ hu (pv 12) lV (pv 10) rfl⟩ (dh ⟨@su _ _ _ _ _ _ _ _ _ hu (mj hu (pv 12) lV) (pv 10) (pv 14) rfl⟩ (dh (hK 17 oR.nd (pcl (Ek T 4) hr T.be (ad (pv 16) (ad (pv 12) (ad (pv 14) (ad oF (ad oF (ad ew dt)))))))) (dh ⟨@su _ _ _ _ _ _ _ _ _ hu (mj hu (pv 12) lV) (pv 10) (pv 17) rfl⟩ (dh ⟨oa (qI qR sS sR sI (mj hu (pv 12) lV) (eg 10))⟩ (dh (hK 13 oR.nd (eB oM (pv 13) (eB wT (pcl (EO T) hr T.eK (ad (pv 14) (eg 9))) (pcl (EZ T 9) hr T.bN (ad (pv 17) (eg 9)))))) (ef ⟨oa (qI qR sS sR sI (pv 15) (ad (pmk T.kZ (NP T) hr T.lF T.dN.b (ad (pv 10) (ad (qN vz (by rfl) T.b_ tF (eg 14)) (ad (pcl (Fe T 9) hr T.bG (eg 17)) dt)))) dt))⟩))))))))))) (dh ⟨Dr (i₀:=14) (N':=["_law_name_here","_law_lengths"]) (ix:=(List.replicate 1 none++[some 9])) oR.nd rfl (.inl rfl) rfl (uv (x:="_law_lengths") rfl rfl rfl (by decide+kernel) (by decide+kernel)) (ux (N0:=["_law_name_here"]) rfl (.inl rfl) (by walk_at"ix")) (nR (pV qg (pv 8) pS (pB (pv 3)))) (λ_ _ _ _=>(hH (i:=0) Nc)) (λ_ _ _ _=>(oQ (ad (pv 0) (ad (mj hu (pv 1) (pv 0)) dt))))⟩ (dh (hK 18 oR.nd (pmk T.jv (OT T) hr T.jR T.bL.b (ad (eB oM ew (eB ny (pv 6) (eB wU ew ew))) (ad (pv 14) (ad (pC (N':=["_law_pair"]) (ix:=(List.replicate 1 none)) rfl (re rfl (by decide+kernel) (by decide+kernel)) (rc rfl) (nR (pv 11)) (λ_ _ _ _=>(hH (i:=0) MD)) (λ_ _ _ _=>(oQ (ad (qv (DN (K:=K) rfl) (pv 0) ew) (ad (qN (Ov (K:=K) rfl) (by rfl) T.b_ tF (ad (qv (DN (K:=K) rfl) (pv 0) ew) dt)) dt))))) (ad (pv 15) (ad (@oG _ _ _ _ (ad (qv sF (pv 8) (pv 3)) dt)) dt))))))) (ef (hB (pcl (MZ T) hr T.fk (ad (pv 18) (ad (pv 12) (ad (sH uO (pv 13) ew) dt)))))))))))))))))))))))) ?_;obtain⟨o8,ez,lz,_⟩:=AM V.int ns none (some 16);refine nh _ rfl _ rfl a _ rfl hS.sq λp0 hp0=>?_;rw[ez];have t0:A0l H (upd H p0 (.lst (o8.map V.int))):=ed hp0;refine dV p0 _ rfl (SqL.of cp) λD hD=>?_;have pD:p0≠D:=λz=>by subst z;rw[cp]at hD;cases hD
  have e8:H D=none:=t0.free hD;refine uW (D:=D) (o8.map V.int).length (λi ys H2=>A0l H H2/\H2 p0=some (.lst (o8.map V.int))/\H2 D=some (.lst ys)/\∃ms:zI,ys=ms.map V.int/\ms.length=i) ⟨t0.trans (ed hD),(nu (by rw[eh pD];exact cp) cp [] rfl rfl)⟩ (by rintro i ys H2 hi ⟨_,h,_⟩;exact lQ _ ((o8.map V.int)[(o8.map V.int).length-1-i]) (SqL.of h) rfl hi (nP (by lia))) (λys H2 _=>rfl) ?_ ?_
  ·rintro i ys H2 hi ⟨s2,h,d6,ms,rfl,hms⟩ x H3 ⟨rfl,hx⟩;have hx:=hx _ (SqL.of h);rw[oH]at hx;obtain⟨z,_,rfl⟩:=rg.mp hx;refine pM True.intro _ (lP rfl d6 (mC (by simp at hi⊢;lia)) (mu s2 e8) (nu (by rw[eh pD];exact h) cp (ms++[z]) (by simp) (by simp[hms])))
  rintro ys H2 ⟨s2,_,d6,ms,rfl,hms⟩;clear hms t0 ez lz;refine lL _ rfl D ms rfl d6 λc8 g2 H3 l3 hD3 o3 e3=>?_;have s3:=uT s2 e8 (tj d6 o3 e3);clear s2 d6 l3 o3 e3;refine lL _ rfl D g2 rfl hD3 λc2 f3 H4 l4 hD4 o4 e4=>(dV _ _ rfl rfl (nE z_60 _ _ rfl rfl ?_));have s4:=uT s3 e8 (tj hD3 o4 e4);clear s3 hD3 l4 o4 e4;obtain⟨m,em⟩:∃m:Nat,1+c2%6=(m:Int):=⟨_,(Int.toNat_of_nonneg (by lia)).symm⟩;have m1:1<=m:=by lia
  have m6:m<=6:=by lia
  dsimp only;rw[em];refine lL _ rfl D f3 rfl hD4 λc3 h3 H5 l5 hD5 o5 e5=>(lQ _ _ rfl rfl uK ?_);have s5:=uT s4 e8 (tj hD4 o5 e5);clear s4 hD4 l5 o5 e5;obtain⟨tb,etb⟩:∃tb:Nat,c3%4=(tb:Int):=⟨_,(Int.toNat_of_nonneg (by lia)).symm⟩;have tb3:tb<=3:=by lia
  dsimp only;rw[etb];refine lL _ rfl D h3 rfl hD5 λc4 ms4 H6 l6 hD6 o6 e6=>(dV _ _ rfl rfl (nE uK _ _ rfl rfl ?_));have s6:=uT s5 e8 (tj hD5 o6 e6);clear s5 hD5 l6 o6 e6;obtain⟨tl,etl⟩:∃tl:Nat,1+c4%4=(tl:Int):=⟨_,(Int.toNat_of_nonneg (by lia)).symm⟩;have tl1:1<=tl:=by lia
  have tl4:tl<=4:=by lia
  dsimp only;rw[etl];refine lL _ rfl D ms4 rfl hD6 λd1 u0 H7 l7 hD7 o7 e7=>?_;have s7:=uT s6 e8 (tj hD6 o7 e7);clear s6 hD6 l7 o7 e7;refine nh _ rfl _ rfl _ _ rfl rfl (lL _ rfl _ _ rfl rfl (nr _ rfl (by lia) (by lia) λN hN=>?_));have en:((m:Int)+(tb:Int)+(tl:Int)).toNat=m+tb+tl:=by lia
  refine uW (D:=N) ((m:Int)+(tb:Int)+(tl:Int)).toNat (λi ys G=>A0l H7 G/\G N=some (.lst ys)/\∃zs:zC,ys=zs.map V.str/\zs.length=i/\∀(j:Nat)(z:Str),zs[j]?=some z->NmD d1 (j:Int) z) ⟨ed hN,(mW cp [] rfl rfl (by intro j z hz;simp at hz))⟩ (λi ys G hi _=>hi) (λys G _=>fy _) ?_ ?_
  ·rintro i ys G hi M;refine pN M ?_;clear M;rintro sg f5 zs rfl ⟨k7,nz⟩ x G2 ⟨rfl,rfl⟩;rw[Int.zero_add];refine kB ⟨rfl,True.intro⟩ _ rfl ⟨_,(qP rfl (i:Int) d1 rfl λz G3 nd sz=>?_)⟩;refine lX (sz _ _ f5) (mC (by rw[dm];lia)) (mu (sg.trans sz) hN) (mW cp (zs++[z]) (by rw[lR];rfl) (by rw[mx,k7];rfl) λj z' g3=>?_);by_cases hj:j<zs.length
   ·rw[rF hj]at g3;exact nz j z' g3
   ·have hj2:j=zs.length:=by
     have:=(ml.mp g3).1;rw[mx,ui]at this
     lia
    subst hj2;rw[rf (fy _),Nat.sub_self]at g3;have g3:z=z':=by simpa using g3
    rw[<-g3,k7];exact nd
  rintro ys H8 M;refine pN M ?_;clear M;rintro s78 hN8 zs rfl ⟨k7,nz⟩;rw[en]at k7;have s8:=s7.trans s78;have hD8:=s78 _ _ hD7;have hN0:H N=none:=s7.free hN;have ND:N≠D:=(lO hD7 hN).symm;have i6:zs.Nodup:=LW nz (by lia)
  have c9:∀z∈zs,qU z/\z≠""/\nmB z=true:=λz hz=>by obtain⟨j,hj⟩:=List.getElem?_of_mem hz;exact fI ((AF (nz j z hj)).1) ((AF (nz j z hj)).2) (IW (nz j z hj))
  have lnm:(zs.take m).length=m:=by rw[mK];lia
  have h6:(zs.take m).Nodup:=i6.sublist (uD _ _);clear s7 s78 hN hD7;refine λld hld=>?_;obtain⟨H9,s9,v7,O⟩:=nH (o:=.dK []) hld
  try rw[O]
  refine i12 _ rfl _ rfl _ rfl N _ rfl (SqL.of (s9 _ _ hN8)) λq hq=>?_;rw[uS (f:=V.str)];obtain⟨H10,y9,m8,O⟩:=nH (o:=.lst ((zs.take m).map V.str)) hq;have qD:q≠D:=(lO (s9 _ _ hD8) hq).symm;have q0:H q=none:=s8.free (s9.free hq);have ld0:H ld=none:=s8.free hld
  try rw[O]
  have i3:=s9.trans y9;refine fx q rfl ⟨_,SqL.of m8⟩ ?_
  refine pU (K:=K) (a:=q) (xs:=(zs.take m).map V.str) (λi Z G=>∃(b4:zP)(ms:zI)(L:zR),Z=[Sro a,Sro D,Sio c8,Sio m,Sio tb,Sio tl,Sio d1,none,Sro N,Sro ld,b4,none,none,none,none,none,none,none,none]/\A0l H G/\G D=some (.lst (ms.map V.int))/\G N=some (.lst (zs.map V.str))/\G q=some (.lst ((zs.take m).map V.str))/\G ld=some (.dK (((zs.take m).take i).map λy=>((Sum.inr y:Key),V.int (L y))))/\∀y∈(zs.take m).take i,1<=L y/\L y<=60)
   (qA none u0 (λ_=>0) rfl (s8.trans i3) (i3 _ _ hD8) (i3 _ _ hN8) m8 ⟨y9 _ _ v7,by intro y hy;cases hy⟩) (by (rintro i Z G _ M;refine nF M ?_;clear M;rintro _ _ _ _ _ _ ⟨_,z,_⟩);exact SqL.of z) ?_ ?_
  ·rintro i v Z G hv M;refine nF M ?_;clear M;rintro b4 ms' L rfl sg f1 ⟨f5,hqg,d3,f0⟩;obtain⟨y,hy,rfl⟩:=oY hv;have hi:i<m:=by have:=(ml.mp hy).1;lia
   refine lL _ rfl D ms' rfl f1 λc5 u7 G2 _ d6 o2 e2=>?_;have kj:=tj f1 o2 e2;have b5:=kj.dk d3;have u8:=kj.str f5;have j7:=kj.str hqg;have sg2:=uT sg e8 kj;refine dV _ _ rfl rfl (nE uK _ _ rfl rfl (nh _ rfl _ rfl ld _ rfl (C0j.k (k:=Sum.inr y) b5 (mC (by rw[dm,mK];lia))) ?_))
   have hny:y∉(zs.take m).take i:=λz=>by
    obtain⟨j,hj⟩:=List.getElem?_of_mem z;have hji:j<i:=by have:=(ml.mp hj).1;rw[mK]at this;lia
    rw[List.getElem?_take_of_lt hji]at hj;have:=(List.getElem?_inj (by lia) h6).mp (hj.trans hy.symm)
    lia
   rw[wa _ (xo (by rw[List.map_map];intro z;obtain⟨q',hq',e⟩:=pd.mp z;exact hny (by rw[<-Sum.inr.inj e];exact hq')))];have ap:∀{b:zW}{u:HO},(∀g4,u≠.dK g4)->∀{o:HO},G2 b=some u->upd G2 ld o b=some u:=λn o e=>by rw[eh (mU e b5 (n _))];exact e
   refine qA _ u7 (λz=>if z=y then 1+c5%4 else L z) rfl (mu sg2 ld0) (ap (by intro k z;cases z) d6) (ap (by intro k z;cases z) u8) (ap (by intro k z;cases z) j7) ⟨?_,?_⟩
   ·rw[cp,mQ,hy,nO,lR];have e1:((zs.take m).take i).map (λz=>((Sum.inr z:Key),V.int (L z)))=((zs.take m).take i).map λz=>((Sum.inr z:Key),V.int (if z=y then 1+c5%4 else L z)):=List.map_congr_left λz hz=>by rw[fa (λ(e:z=y)=>hny (e▸hz))]
    rw[e1];simp
   ·intro z hz;rw[mQ,hy,nO]at hz;dsimp only;by_cases e:z=y
    ·rw[eH e];lia
    ·rw[fa e];exact f0 z ((mX.mp hz).resolve_right λq=>e (mn.mp q))
  rintro Z H11 M;refine nF M ?_;clear M;rintro b4 u7 L0 rfl s11 p7 ⟨i1,hq11,b6,i7⟩;rw[dm,na]at b6 i7;refine cb (λZ G=>∃L:zR,Z=[Sro a,Sro D,Sio c8,Sio m,Sio tb,Sio tl,Sio d1,none,Sro N,Sro ld,b4,none,none,none,none,none,none,none,none]/\A0l H G/\G D=some (.lst (u7.map V.int))/\G N=some (.lst (zs.map V.str))/\G ld=some (.dK ((zs.take m).map λy=>((Sum.inr y:Key),V.int (L y))))/\∀y∈zs.take m,1<=L y/\L y<=60) ?_ ?_
  ·refine lL _ rfl _ _ rfl rfl (nu B6 rfl _ rfl (lT (λ_=>?_) (λ_=>(cb L0 rfl (lP s11 p7 i1 b6 i7)))));have i0:=rH (c8/3) (show(m:Int)≠0 by lia);have i1':=sP (c8/3) (show(0:Int)<(m:Int)by lia);obtain⟨y,hy,ey⟩:=vV (f:=V.str) (xs:=zs) (i:=c8/3%(m:Int)) i0 (by lia);refine qz _ rfl _ _ rfl rfl ⟨by decide,by decide⟩ _ _ rfl rfl GQ (dV _ _ rfl rfl (mE _ rfl _ rfl (qi _ rfl _ _ rfl rfl ⟨by decide,by decide⟩ _ rfl (lQ _ _ rfl rfl (by show(0:Int)<(m:Int);lia) (nD N _ _ _ rfl rfl (SqL.of i1) ey (dV ld _ rfl (C0j.k (k:=Sum.inr y) b6 (mC (by rw[dm];lia))) ?_))))));have ym:y∈zs.take m:=me (i:=(c8/3%(m:Int)).toNat) (by rw[List.getElem?_take_of_lt (by lia)];exact hy);have e2:=IV (L:=L0) (v:=1+c8/18%60) ym;have ap:∀{b:zW}{u:HO},(∀g4,u≠.dK g4)->∀{o:HO},H11 b=some u->upd H11 ld o b=some u:=λn o e=>by rw[eh (mU e b6 (n _))];exact e
   refine cb (λz=>if z=y then 1+c8/18%60 else L0 z) rfl (lP (mu s11 ld0) (ap (by intro k z;cases z) p7) (ap (by intro k z;cases z) i1) (by rw[cp];exact congrArg (λz=>some (HO.dK z)) e2) λz hz=>?_);dsimp only;by_cases e:z=y
   ·rw[eH e];lia
   ·rw[fa e];exact i7 z hz
  rintro Z H12 M;refine nw M ?_;clear M;rintro L rfl s12 ⟨l9,l0,c6,f0⟩;clear i7 b6 i1 p7 hq11 s11 m8 y9 s9 i3 v7;have h8:(zs.take m).length<=8:=by lia
  have emt:m+tb<=zs.length:=by lia
  refine mE _ rfl _ rfl (i12 _ rfl _ rfl _ rfl _ _ rfl rfl (lL _ rfl N _ rfl (SqL.of l0) λtq htq=>?_));rw[JI (f:=V.str) emt];obtain⟨H22,q9,d8,O⟩:=nH (o:=.lst (((zs.drop m).take tb).map V.str)) htq;have tqD:D≠tq:=lO l9 htq
  try rw[O]
  have n0:=s12.trans q9;have m2:=q9 _ _ l9;have r6:=q9 _ _ l0;have f7:=q9 _ _ c6;clear l9 l0 c6 htq;refine fx tq rfl ⟨_,SqL.of d8⟩ λTT j9=>?_;have TT0:H TT=none:=n0.free j9;have DTT:D≠TT:=lO m2 j9;have NTT:N≠TT:=lO r6 j9;have w8:ld≠TT:=lO f7 j9;have o9:tq≠TT:=lO d8 j9
  refine sJ (K:=K) (a:=tq) (D:=TT) (xs:=((zs.drop m).take tb).map V.str) (λi vs G=>A0l H G/\G TT=some (.lst vs)/\(∃ms:zI,G D=some (.lst (ms.map V.int)))/\G N=some (.lst (zs.map V.str))/\G ld=some (.dK ((zs.take m).map λy=>((Sum.inr y:Key),V.int (L y))))/\G tq=some (.lst (((zs.drop m).take tb).map V.str))/\∃tbs:zB,TbV TT G vs tbs/\tbs.map (·.1)=((zs.drop m).take tb).take i/\∀e∈tbs,AxN (zs.take m) e.2)
   (lP (n0.trans (ed j9)) cp ⟨u7,by rw[eh DTT];exact m2⟩ (by rw[eh NTT];exact r6) ⟨by rw[eh w8];exact f7,(mW (by rw[eh o9];exact d8) [] .nil rfl (by simp))⟩) (by (rintro i vs G M;refine mM M ?_;clear M;rintro _ _ _ _ ⟨_,z,_⟩);exact SqL.of z) ?_ ?_
  ·rintro i v vs G hv M;refine mM M ?_;clear M;rintro sg u4 ⟨z6,f1⟩ f5 ⟨d3,htqg,tbs,tv,e0,m7⟩;obtain⟨y,hy,rfl⟩:=oY hv;refine⟨(lX rfl rfl rfl True.intro),(nh _ rfl _ rfl D z6 rfl f1 λc5 ms8 G2 _ d6 o2 e2=>?_)⟩;have kj:=tj f1 o2 e2;have hT2:=kj.kb _ _ DTT.symm u4;have u8:=kj.str f5;have b5:=kj.dk d3;have htq2:=kj.str htqg;have tv2:=tv.ki kj.ki;have sg2:=uT sg e8 kj;refine i12 _ rfl _ rfl _ rfl N _ rfl (SqL.of u8) λq2 j7=>?_;rw[uS (f:=V.str)];have s3:A0l G2 (upd G2 q2 (.lst ((zs.take m).map V.str))):=ed j7;refine qA c5 q2 (zs.take m) rfl cp h8 (by lia) h6 λys p G4 hp s34 hp4 b0=>⟨kr rfl,λtp htp=>?_⟩;have s4:A0l G4 (upd G4 tp (.tup [.str y,.ref p])):=ed htp;have u6:upd G4 tp (.tup [.str y,.ref p]) tp=some (.tup [.str y,.ref p]):=cp;have f4:=s3.trans (s34.trans s4);have pTT:p≠TT:=(lO (s3 _ _ hT2) hp).symm;have gp:=s4 _ _ hp4;generalize upd G4 tp (.tup [.str y,.ref p])=G5 at f4 u6 gp;have y5:=f4 _ _ hT2;have U:∀{b:zW}{u:HO},b≠TT->G5 b=some u->upd G5 TT (.lst (vs++[.ref tp])) b=some u:=λn e=>by rw[eh n];exact e
   have ltb:=Paired.length tv;have li:i<tb:=by have:=(ml.mp hy).1;rw[mK]at this;lia
   have lti:tbs.length<=i:=by have:=congrArg List.length e0;rw[dm,mK]at this;lia
   refine lX y5 (mC (by lia)) (mu (sg2.trans f4) TT0) (lP cp ⟨ms8,U DTT (f4 _ _ d6)⟩ (U NTT (f4 _ _ u8)) (U w8 (f4 _ _ b5)) (mW (U o9 (f4 _ _ htq2)) (tbs++[(y,ys)]) ?_ ?_ ?_))
   ·exact pQ ((tv2.same f4).up y5) (.cons (lQ tp p rfl pTT (U (λz=>by rw[z,y5]at u6;cases u6) u6) (U pTT gp)) .nil)
   ·rw[lR,e0,mQ,hy,nO];rfl
   ·intro e he;rcases mX.mp he with he|he
    ·exact m7 e he
    ·rw[mn.mp he];exact b0
  rintro vs G M;refine mM M ?_;clear M;rintro j5 h7 ⟨z6,k3⟩ e9 ⟨c0,_,tbs,tv,e0,m7⟩;rw[dm,na]at e0;clear m2 r6 f7 d8 q9 n0 o9 tqD;refine λI v0=>?_;obtain⟨H13,a0,a4,O⟩:=nH (o:=.dK []) v0;have abld:ld≠I:=lO c0 v0;have ab0:H I=none:=j5.free v0
  try rw[O]
  refine i12 _ rfl _ rfl _ rfl N _ rfl (SqL.of (a0 _ _ e9)) λY x5=>?_;rw[uS (f:=V.str)];obtain⟨H14,a7,g1,O⟩:=nH (o:=.lst ((zs.take m).map V.str)) x5;have abax:I≠Y:=lO a4 x5
  try rw[O]
  refine fx _ rfl (kr rfl) λd l8=>?_;obtain⟨H15,d0,b2,O⟩:=nH (o:=.lst []) l8;have v9:Y≠d:=lO g1 l8;have NahF:∀{b:zW}{u:HO},G b=some u->b≠d:=λe=>lO (a7 _ _ (a0 _ _ e)) l8;have ah0:H d=none:=j5.free (a0.free (a7.free l8))
  try rw[O]
  refine λB r7=>?_;obtain⟨H16,c1,h5,O⟩:=nH (o:=.dK []) r7;have i8:I≠B:=lO ((a7.trans d0) _ _ a4) r7;have w4:ld≠B:=lO ((a0.trans (a7.trans d0)) _ _ c0) r7;have sh0:H B=none:=j5.free ((a0.trans (a7.trans d0)).free r7)
  try rw[O]
  refine λJ j2=>?_;obtain⟨j8,j6,m4,O⟩:=nH (o:=.dK []) j2;have b7:=a7.trans (d0.trans c1);have f6:I≠J:=lO (b7 _ _ a4) j2;have i9:B≠J:=lO h5 j2;have w9:ld≠J:=lO ((a0.trans b7) _ _ c0) j2;have tr0:H J=none:=j5.free ((a0.trans b7).free j2)
  try rw[O]
  have g9:=b7.trans j6;have m5:=a0.trans g9;have f9:=g9 _ _ a4;refine mW f9 (abK ⟨Y,ld,d,B,"",J⟩) rfl (by show 6<=15;decide) ?_;rw[Ls];have U18:∀{b:zW}{u:HO},b≠I->j8 b=some u->upd j8 I (.dK (abK ⟨Y,ld,d,B,"",J⟩)) b=some u:=λn e=>by rw[eh n];exact e
  have g8:upd j8 I (.dK (abK ⟨Y,ld,d,B,"",J⟩)) I=some (.dK (abK ⟨Y,ld,d,B,"",J⟩)):=cp;have z8:A0l H (upd j8 I (.dK (abK ⟨Y,ld,d,B,"",J⟩))):=mu (j5.trans m5) ab0;have UG:∀{b:zW}{u:HO},G b=some u->upd j8 I (.dK (abK ⟨Y,ld,d,B,"",J⟩)) b=some u:=λe=>U18 (lO e v0) (m5 _ _ e);generalize upd j8 I (.dK (abK ⟨Y,ld,d,B,"",J⟩))=H18 at U18 g8 z8 UG;have NahN:N≠d:=NahF e9;have TTah:TT≠d:=NahF h7;have n7:=UG h7;have v4:=UG k3;have v3:=UG e9;have q7:=UG c0;have o0:=U18 abax.symm ((d0.trans (c1.trans j6)) _ _ g1);have q8:=U18 (λz=>by rw[z]at b2;rw[(d0.trans (c1.trans j6)) _ _ ((a7.trans (A0l.refl _)) _ _ a4)]at f9;cases(b2.symm.trans (d0 _ _ (a7 _ _ a4)))) ((c1.trans j6) _ _ b2);have l1:=U18 i8.symm (j6 _ _ h5);have n9:=U18 f6.symm m4;have y1:TbV TT H18 vs tbs:=Paired.mapP tv (by (refine λ_ _ M=>lS M λp c e n h1 h2=>?_;clear M);exact lQ p c e n (UG h1) (UG h2));have tah:∀(c:zW)(ys:zC),G c=some (.lst (ys.map V.str))->c≠d:=λc ys e=>NahF e;have l2:∀ys:zC,(∀y∈ys,y∈zs.take m)->qV ((zs.take m).map λy=>((Sum.inr y:Key),V.int (L y))) L ys:=λys hs y hy=>(fI (xh (hs y hy)) (by have:=f0 y (hs y hy);lia) ((f0 y (hs y hy)).2));have tbnd:(tbs.map (·.1)).Nodup:=by rw[e0];exact(i6.sublist (List.drop_sublist _ _)).sublist (uD _ _)
  have ltbs:tbs.length<=3:=by have:=congrArg List.length e0;rw[dm,mK]at this;lia
  have i4:I≠d:=lO ((a7.trans (A0l.refl _)) _ _ a4) l8;have i2:d≠B:=lO b2 r7;have q5:d≠J:=lO (c1 _ _ b2) j2;refine mH _ rfl TT rfl ⟨_,SqL.of n7⟩ ?_
  refine pU (K:=K) (a:=TT) (xs:=vs) (λi Z G=>∃(b4 j3:zP),Z=[Sro a,Sro D,Sio c8,Sio m,Sio tb,Sio tl,Sio d1,none,Sro N,Sro ld,b4,Sro TT,Sro I,Sio (wrk L (tbs.take i) []),j3,none,none,none,none]/\A0l H G/\G TT=some (.lst vs)/\G D=some (.lst (z6.map V.int))/\G N=some (.lst (zs.map V.str))/\G ld=some (.dK ((zs.take m).map λy=>((Sum.inr y:Key),V.int (L y))))/\G I=some (.dK (abK ⟨Y,ld,d,B,"",J⟩))/\G Y=some (.lst ((zs.take m).map V.str))/\G d=some (.lst (((tbs.take i).map (·.1)).map V.str))/\(∃ak,G B=some (.dK ak)/\AR (λb=>b≠d) G ak (tbs.take i))/\G J=some (.dK [])/\TbV TT G vs tbs/\TbV d G vs tbs)
   (mJ _ none rfl z8 n7 v4 (lP v3 q7 g8 o0 (lP q8 (cb [] l1 .nil) n9 y1 (Paired.mapP tv (by (refine λ_ _ M=>lS M λp c e n h1 h2=>?_;clear M);exact lQ p c e (tah c _ h2) (UG h1) (UG h2)))))) (by (refine λi Z G _ M=>lS M λ_ _ _ _ z _=>?_;clear M);exact SqL.of z) ?_ ?_
  ·rintro i v Z G hv M;refine lS M ?_;clear M;rintro b4 j3 rfl sg u4 ⟨f1,f5,d3,x2,x4,h9,⟨ak,r2,ar⟩,htrg,tvg,r8⟩;obtain⟨e,he,p,c,rfl,cT,hp,hc⟩:=pI tvg hv;obtain⟨e',he',p',c',hpc,cah,hp',hc'⟩:=pI r8 hv;rw[he]at he';cases he';cases hpc;rw[hp]at hp';cases hp';have hi:=(ml.mp he).1
   have en:e.1∉(tbs.take i).map (·.1):=λz=>by
    obtain⟨j,hj⟩:=List.getElem?_of_mem z;have hji:j<i:=by have:=(ml.mp hj).1;rw[dm,mK]at this;lia
    rw[List.map_take,List.getElem?_take_of_lt hji]at hj;have:=(List.getElem?_inj (by rw[dm];lia) tbnd).mp (hj.trans (show some e.1=(tbs.map (·.1))[i]? by rw[oH,he];rfl))
    lia
   have lak:=Paired.length ar;rw[mK]at lak;refine qO p _ rfl (SqT.of hp) rfl _ _ rfl _ _ rfl rfl ?_;refine qi _ rfl I _ rfl (wR x2 (Bk _)) (.inl (pM rfl _ (SqL.of h9))) _ rfl (oq d _ _ rfl rfl h9 (mC (by rw[dm,dm,mK];lia)) ?_);have U1:∀{b:zW}{u:HO},b≠d->G b=some u->upd G d (.lst (((tbs.take i).map (·.1)).map V.str++[V.str e.1])) b=some u:=λn y=>by rw[eh n];exact y
   have w6:upd G d (.lst (((tbs.take i).map (·.1)).map V.str++[V.str e.1])) d=some (.lst (((tbs.take (i+1)).map (·.1)).map V.str)):=by rw[cp,mQ,he,nO,lR,lR];rfl
   have s1:=mu (o:=.lst (((tbs.take i).map (·.1)).map V.str++[V.str e.1])) sg ah0;generalize upd G d (.lst (((tbs.take i).map (·.1)).map V.str++[V.str e.1]))=G1 at U1 w6 s1;have w2:=U1 i4 x2;have hsh1:=U1 i2.symm r2;refine nh _ rfl _ rfl I _ rfl (wR w2 (uy _)) (lL _ rfl B _ rfl (C0j.k (k:=Sum.inr e.1) hsh1 (mC (by lia))) ?_);have kno:lW ak (Sum.inr e.1)=none:=xo (by rw[AW ar];intro z;obtain⟨q',hq',e2⟩:=pd.mp z;exact en (by rw[<-Sum.inr.inj e2];exact List.mem_map_of_mem hq'));rw[wa _ kno];have U2:∀{b:zW}{u:HO},b≠B->G1 b=some u->upd G1 B (.dK (ak++[(Sum.inr e.1,.ref c)])) b=some u:=λn y=>by rw[eh n];exact y
   have w3:upd G1 B (.dK (ak++[(Sum.inr e.1,.ref c)])) B=some (.dK (ak++[(Sum.inr e.1,.ref c)])):=cp;have s2:=mu (o:=.dK (ak++[(Sum.inr e.1,.ref c)])) s1 sh0;generalize upd G1 B (.dK (ak++[(Sum.inr e.1,.ref c)]))=G2 at U2 w3 s2;have g5:∀{b:zW}{xs:zM},G b=some (.lst xs)->b≠B:=λy=>mU y r2 (by intro z;cases z);have x8:∀{b:zW}{xs:zM},G b=some (.tup xs)->b≠B/\b≠d:=λy=>⟨mU y r2 (by intro z;cases z),mU y h9 (by intro z;cases z)⟩;have q1:=U2 (g5 hc) (U1 cah hc);have b5:=U2 w4 (U1 (mU d3 h9 (by intro z;cases z)) d3);have eax:=m7 e (me he);refine cb _ rfl (oS _ rfl _ rfl c ld e.2 _ L rfl q1 b5 (l2 _ eax.sub) (by have:=eax.few;lia) λG3 s3=>?_);refine dV _ _ rfl rfl ?_;have W:∀{b:zW}{u:HO},b≠d->b≠B->G b=some u->G3 b=some u:=λn1 n2 y=>s3 _ _ (U2 n2 (U1 n1 y))
   have tvm:∀S:zW,TbV S G vs tbs->TbV S G3 vs tbs:=λS h=>Paired.mapP (BE h r8) (by
    rintro _ _ M;refine qb M ?_;clear M;rintro⟨p,c,e,n,h1,h2⟩ p' c' e' ⟨n',r9,h2'⟩;rw[e]at e';cases e';rw[h1]at r9;cases r9
    exact lQ p c e n (W (x8 h1).2 (x8 h1).1 h1) (W n' (g5 h2) h2))
   refine mJ (some (.str e.1)) (some (.ref c)) ?_ (s2.trans s3) (W (NahF h7) (g5 u4) u4) (W (NahF k3) (g5 f1) f1) (lP (W (NahF e9) (g5 f5) f5) (s3 _ _ b5) (s3 _ _ (U2 i8 w2)) (W v9 (g5 x4) x4) (lP (s3 _ _ (U2 i2 w6)) (cb _ (s3 _ _ w3) ?_) (W q5.symm i9.symm htrg) (tvm _ tvg) (tvm _ r8)))
   ·rw[mQ,he,nO,Jl];rfl
   ·rw[mQ,he,nO];exact pQ (Paired.mapP ar (by rintro _ _ ⟨z1,b,z2,z3,z4⟩;exact mW z1 b z2 z3 (W z3 (g5 z4) z4))) (.cons (mW rfl c rfl cah (s3 _ _ q1)) .nil)
  rintro Z u3 M;refine lS M ?_;clear M;rintro o10b o14b rfl s31 f2 ⟨hD31,d4,d7,a2,d2,b9,⟨ak31,a3,x1⟩,a5,x9,tv31a⟩;have etk:tbs.take vs.length=tbs:=by rw[Paired.length x9,na]
  rw[etk]at b9 x1⊢;clear etk n7 v4 v3 q7 o0 q8 l1 n9 y1 tah z8 UG g8 U18 f9 m5 g9 b7 m4 j6 h5 c1 b2 d0 g1 a7 a4 a0 tv h7 k3 e9 c0 j5 s12 s8;refine⟨kr rfl,λX hll=>?_⟩;obtain⟨H32,a8,hll32,O⟩:=nH (o:=.lst []) hll;have b8:∀{b:zW}{u:HO},u3 b=some u->b≠X:=λe=>lO e hll;have ll0:H X=none:=s31.free hll
  try rw[O]
  have k5:=b8 a2;have p8:=b8 b9;have n6:=b8 a3;have p5:=b8 a5;have i5:∀{b:zW},b∈[I,d,B,J,X]↔b=I\/b=d\/b=B\/b=J\/b=X:=λ{b}=>by simp only [lY,qQ,or_false]
  have a6:∀{b c:zW}{xs:zM}{g4:zJ},u3 b=some (.lst xs)->u3 c=some (.dK g4)->b≠c:=λe1 e2=>mU e1 e2 (by intro z;cases z)
  have b3:∀{b:zW},b≠I->b≠d->b≠B->b≠J->b≠X->b∉[I,d,B,J,X]:=λn1 n2 n3 n4 n5 m=>by
   rw[i5]at m;rcases m with m|m|m|m|m
   ·exact n1 m
   ·exact n2 m
   ·exact n3 m
   ·exact n4 m
   ·exact n5 m
  have NM:N∉[I,d,B,J,X]:=b3 (a6 d4 a2) NahN (a6 d4 a3) (a6 d4 a5) (b8 d4);have axM:Y∉[I,d,B,J,X]:=b3 (a6 d2 a2) v9 (a6 d2 a3) (a6 d2 a5) (b8 d2);have j4:ld∉[I,d,B,J,X]:=b3 abld (λz=>a6 b9 d7 z.symm) w4 w9 (b8 d7);have TM:TT∉[I,d,B,J,X]:=b3 (a6 f2 a2) TTah (a6 f2 a3) (a6 f2 a5) (b8 f2);have ltbs2:tbs.length=tb:=by have:=congrArg List.length e0;rw[dm,mK,uI]at this;lia
  have t8:(zs.drop m).Nodup:=i6.sublist (List.drop_sublist _ _);have t9:D7q ((zs.take m).map λy=>((Sum.inr y:Key),V.int (L y))) L (zs.take m):=⟨rfl,h6,h8,λy hy=>(lX ((f0 y hy).1) ((f0 y hy).2) ((c9 y (tE hy)).2.1) ((c9 y (tE hy)).1.2))⟩;have nok:∀y∈zs.take m,qU y:=λy hy=>(c9 y (tE hy)).1;have scr:∀G,KMs [I,d,B,J,X] H32 G->SqL K G a (ns.map V.int):=λG km=>(hS.keep λo e=>km _ _ (b3 (lO e ab0) (lO e ah0) (lO e sh0) (lO e tr0) (lO e ll0)) (a8 _ _ (s31 _ _ e))).sq;have y2:((tl:Int)).toNat=tl:=Int.toNat_natCast tl;refine mH _ rfl _ rfl (by lia) ⟨by lia,?_⟩
  refine yR (n:=((tl:Int)).toNat) (λi Z G=>∃(o7 b4 j3 o16 o17:zP)(ls:List Lt),Z=[Sro a,Sro D,Sio c8,Sio m,Sio tb,Sio tl,Sio d1,o7,Sro N,Sro ld,b4,Sro TT,Sro I,Sio (wrk L tbs ls),j3,Sro X,o16,o17,none]/\KMs [I,d,B,J,X] H32 G/\LtS t [I,d,B,J,X] G I X ⟨Y,ld,d,B,"",J⟩ tbs ls/\ls.length=i/\(arr tbs ls).map (·.1)=(zs.drop m).take (tb+i)/\(∀e∈arr tbs ls,AxN (zs.take m) e.2)/\∀(j:Nat)(l:Lt),ls[j]?=some l->Grn (zs.take m) (arr tbs (ls.take (j+1))) l.1 l.2.1 true true 9 1000 l.2.2)
   (oZ none _ _ none none [] rfl (KMs.of (A0l.refl _)) ⟨⟨"",a8 _ _ a2⟩,?_,(cb ak31 (a8 _ _ a3) ?_),(cb [] (a8 _ _ a5) .nil),(cb [] hll32 .nil)⟩ rfl ?_ ?_ (by intro j l h;simp at h)) ?_ ?_
  ·rw[yz];exact a8 _ _ b9
  ·rw[yz];exact Paired.mapP x1 (by rintro _ _ ⟨z1,b,z2,z3,z4⟩;exact mW z1 b z2 (b3 (a6 z4 a2) z3 (a6 z4 a3) (a6 z4 a5) (b8 z4)) (a8 _ _ z4))
  ·rw[yz,e0];rfl
  ·rw[yz];exact m7
  ·rintro i Z G hi M;refine rD M ?_;clear M;rintro o7 b4 j3 o16 o17 ls rfl km lt y6 d5 ⟨k2,lgr⟩;rw[y2]at hi;rw[Int.zero_add];have hzl:zs.length=m+tb+tl:=k7;have hy:zs[m+tb+i]?=some zs[m+tb+i]:=nP (by lia);generalize zs[m+tb+i]=y at hy
   have eat:atI (zs.map V.str) ((m:Int)+(tb:Int)+(i:Int))=some (.str y):=by rw[show((m:Int)+(tb:Int)+(i:Int))=((m+tb+i:Nat):Int)by lia];exact lM (by rw[oH,hy];rfl)
   have hyd:(zs.drop m)[tb+i]?=some y:=by rw[List.getElem?_drop,<-Nat.add_assoc];exact hy
   have yok:=(c9 y (me hy)).1;have yn:y∉(arr tbs ls).map (·.1):=by rw[d5];exact K9 t8 hyd
   have larr:(arr tbs ls).length<=7:=by unfold arr;rw[mx,dm];lia
   have esok:D9x L (zs.take m) (arr tbs ls):=Hf d5 (t8.sublist (uD _ _)) (λz hz=>(c9 z (List.mem_of_mem_drop (tE hz))).1) k2 (by lia);obtain⟨⟨ow,habG⟩,hahG,⟨ak,hshG,ar⟩,⟨trk,htrG,s0⟩,⟨lv,hllG,lo⟩⟩:=lt;have hNG:=km _ _ NM (a8 _ _ d4);have haxG:=km _ _ axM (a8 _ _ d2);have m9:=km _ _ j4 (a8 _ _ d7)
   have inM:∀{b:zW},b∈[I,d,B,J,X]->∃u,G b=some u:=λm=>by rw[i5]at m;rcases m with rfl|rfl|rfl|rfl|rfl<;>exact⟨_,by assumption⟩
   have x6:∀{b:zW},G b=none->b∉[I,d,B,J,X]:=λe m=>by obtain⟨u,hu1⟩:=inM m;rw[hu1]at e;cases e
   have nlG:∀{b c:zW}{xs:zM}{g4:zJ},G b=some (.lst xs)->G c=some (.dK g4)->b≠c:=λe1 e2=>mU e1 e2 (by intro z;cases z);have ab_ah:I≠d:=i4;refine nh _ rfl _ rfl a _ rfl (scr G km) λp1 hp1=>?_;obtain⟨g2,em1,lm1,_⟩:=AM V.int ns (some 14) none;rw[em1];have t1:A0l G (upd G p1 (.lst (g2.map V.int))):=ed hp1;have r3:upd G p1 (.lst (g2.map V.int)) p1=some (.lst (g2.map V.int)):=cp;generalize upd G p1 (.lst (g2.map V.int))=G1 at t1 r3;refine cb _ rfl (pF _ rfl _ rfl p1 _ (i:Int) (tl:Int) rfl rfl rfl rfl (by lia) (fI (by lia) (SqL.of r3) λp2 zs2 hp2 z7 mz2=>?_));obtain⟨f3,rfl⟩:=DW (zs:=zs2) λz hz=>by obtain⟨q,_,rfl⟩:=pd.mp (mz2 z hz);exact⟨q,rfl⟩
   have t2:A0l G1 (upd G1 p2 (.lst (f3.map V.int))):=ed hp2;have k6:upd G1 p2 (.lst (f3.map V.int)) p2=some (.lst (f3.map V.int)):=cp;generalize upd G1 p2 (.lst (f3.map V.int))=G2 at t2 k6;refine lL _ rfl p2 _ rfl (SqL.of k6) λp3 hp3=>?_;obtain⟨h3,em3,lm3,_⟩:=AM V.int f3 none (some 26);rw[em3];have t3:A0l G2 (upd G2 p3 (.lst (h3.map V.int))):=ed hp3;have o1:upd G2 p3 (.lst (h3.map V.int)) p3=some (.lst (h3.map V.int)):=cp;generalize upd G2 p3 (.lst (h3.map V.int))=G3 at t3 o1;have lm2:f3.length<=g2.length:=by rw[dm,dm]at z7;exact z7
   have t13:=t1.trans (t2.trans t3);refine cb _ rfl (mh p3 h3 c8 rfl o1 (by lia) λC msC G4 hC0 t4 hC4 lC=>?_);have s4:=t13.trans t4;have u1:G C=none:=t13.free hC0;clear t1 r3 t2 k6 t3 o1 t4 em1 em3 lm1 lm3 lm2 z7 mz2 hp1 hp2 hp3 hC0;refine i12 _ rfl _ rfl _ rfl _ _ rfl rfl (lL _ rfl _ _ rfl rfl (nD N _ _ _ rfl rfl (SqL.of (s4 _ _ hNG)) eat ?_));refine lL _ rfl C msC rfl hC4 λc5 u0 G5 _ hC5 o5 e5=>?_;have s5:=uT s4 u1 (tj hC4 o5 e5);clear s4 hC4 o5 e5;refine i12 _ rfl _ rfl _ rfl N _ rfl (SqL.of (s5 _ _ hNG)) λq2 j7=>?_;rw[uS (f:=V.str)];have u9:A0l G5 (upd G5 q2 (.lst ((zs.take m).map V.str))):=ed j7;refine qA c5 q2 (zs.take m) rfl cp h8 (by lia) h6 λys b G7 v1 s67 hb7 b0=>?_;have s57:=u9.trans s67;have s7:=s5.trans s57;have hb0:G b=none:=(s5.trans u9).free v1;have hC7:=s57 _ _ hC5;have bC:b≠C:=λz=>by rw[z,u9 _ _ hC5]at v1;cases v1
   have bM:=x6 hb0;have CM:=x6 u1;have p6:∀{m:zW},m∈[I,d,B,J,X]->m≠C:=λm z=>CM (by rw[<-z];exact m);clear s5 hC5 u9 s57 v1 s67 j7;refine nh _ rfl _ rfl I _ rfl (C0j.k (k:=Sum.inr "own") (s7 _ _ habG) (mC (by show 6<=1000000;decide))) ?_;rw[MB];show pJ.nx _ _ _;have exo:({({(⟨Y,ld,d,B,"",J⟩:Abt)with own:=ow}:Abt)with own:=y}:Abt)=⟨Y,ld,d,B,y,J⟩:=rfl;rw[exo];obtain⟨G8,R,U8,y0⟩:=uH G7 I (.dK (abK ⟨Y,ld,d,B,y,J⟩));rw[R];have hsh8:=U8 i8.symm (s7 _ _ hshG);have lak:=Paired.length ar;have vak:lW ak (Sum.inr y)=none:=Jx ar yn;refine nh _ rfl _ rfl I _ rfl (wR y0 (uy _)) (lL _ rfl B _ rfl (C0j.k (k:=Sum.inr y) hsh8 (mC (by lia))) ?_);rw[wa _ vak];obtain⟨G9,R,U9,t5⟩:=uH G8 B (.dK (ak++[(Sum.inr y,.ref b)]));rw[R];have U79:∀{m:zW}{u:HO},m≠I->m≠B->G7 m=some u->G9 m=some u:=λn1 n2 e=>U9 n2 (U8 n1 e)
   have K79:∀{m:zW}{u:HO},m∉[I,d,B,J,X]->G7 m=some u->G9 m=some u:=λn e=>U79 (nem n) (nem n) e;have r1:=U9 i8 y0;have q6:=U79 i4.symm i2 (s7 _ _ hahG);have x3:=U79 f6.symm i9.symm (s7 _ _ htrG);have y3:=U79 k5.symm n6.symm (s7 _ _ hllG);have hC9:=K79 CM hC7;have hb9:=K79 bM hb7;have esok2:=esok.snoc yn yok b0 (by lia);have ar9:AR (λb=>b≠d) G9 (ak++[(Sum.inr y,.ref b)]) (arr tbs ls++[(y,ys)]):=pQ (Paired.mapP ar (by rintro _ _ ⟨z1,b',z2,z3,z4⟩;exact mW z1 b' z2 (nem z3) (K79 z3 (s7 _ _ z4)))) (.cons (mW rfl b rfl (nem bM) hb9) .nil);have gr:Gr G9 C I b u0 ⟨Y,ld,d,B,y,J⟩ L (zs.take m) (arr tbs ls) ys ys:=⟨hC9,⟨r1,K79 axM (s7 _ _ haxG),(cb _ (K79 j4 (s7 _ _ m9)) t9),q6,(cb _ t5 ar9)⟩,esok2,hb9,b0.sub,nok,by have:=b0.few;lia,λy hy=>hy⟩;refine cb _ rfl (mE _ rfl _ rfl (oT C I b true true u0 ⟨Y,ld,d,B,y,J⟩ L (zs.take m) (mh (arr tbs ls) ys ys rfl gr (by have:=b0.few;lia) λv u msD k1 tm kj10 hC10 j0=>?_)));have tm:=tm.mono (d':=9) (n':=1000) (by decide) (by decide);have K910:∀{m:zW}{u:HO},m≠C->G9 m=some u->k1 m=some u:=λn e=>kj10.kb _ _ n e
   have lvn:∀n xs,HO.lst lv≠.lst (V.int n::xs):=λn xs z=>by
    cases z
    cases lo with
    |cons r _=>refine nN r ?_;clear r;rintro lt _ _ _ _ ⟨e,_⟩;cases e
   have nwM:∀{m:zW},Nw G9 m->m∉[I,d,B,J,X]:=λ{m} h mm=>by
    rw[i5]at mm;rcases mm with mm|mm|mm|mm|mm
    ·exact wX h r1 (by intro n xs z;cases z) mm
    ·exact wX h q6 (Dt _) mm
    ·exact wX h t5 (by intro n xs z;cases z) mm
    ·exact wX h x3 (by intro n xs z;cases z) mm
    ·exact wX h y3 lvn mm
   have j0:A7s (lU (λb=>b∉[I,d,B,J,X]) k1) v u:=j0.same (uc (A0l.refl _) λa o _ h=>nwM h);have g0:=K910 (p6 (by simp)) r1;have y8:=K910 (p6 (by simp)) q6;have htr10:=K910 (p6 (by simp)) x3;have hll10:=K910 (p6 (by simp)) y3;have hsh10:=K910 (p6 (by simp)) t5;have hb10:=K910 bC hb9;have K710:∀{m:zW}{u:HO},m∉[I,d,B,J,X]->m≠C->G7 m=some u->k1 m=some u:=λn n2 e=>K910 n2 (K79 n e);have ltr:=Paired.length s0
   have vtr:lW trk (Sum.inr y)=none:=xo (by
    rw[Ef s0];intro z;obtain⟨q,hq,e⟩:=pd.mp z
    exact yn (by rw[vw,<-Sum.inr.inj e];exact pH _ hq))
   refine nh _ rfl _ rfl I _ rfl (wR g0 (wd _)) (lL _ rfl J _ rfl (C0j.k (k:=Sum.inr y) htr10 (mC (by lia))) ?_);rw[wa _ vtr];obtain⟨G11,R,U11,htr11⟩:=uH k1 J (.dK (trk++[(Sum.inr y,v)]));rw[R];have k4:=U11 q5 y8;have hab11:=U11 f6 g0;refine qi _ rfl I _ rfl (wR hab11 (Bk _)) (.inl (pM rfl _ (SqL.of k4))) _ rfl (oq d _ _ rfl rfl k4 (mC (by rw[dm,dm];lia)) ?_);obtain⟨G12,R,U12,r4⟩:=uH G11 d (.lst (((arr tbs ls).map (·.1)).map V.str++[.str y]));rw[R];have U1012:∀{m:zW}{o:HO},m≠J->m≠d->k1 m=some o->G12 m=some o:=λn1 n2 e=>U12 n2 (U11 n1 e);have p9:=U1012 f6 i4 g0;have n8:=U1012 i9 i2.symm hsh10;have h4:=U1012 p5.symm p8.symm hll10;have m3:=U12 q5.symm htr11;have t7:=U1012 (nem bM) (nem bM) hb10;have ldC:ld≠C:=lO m9 u1;have c6:=U1012 (nem j4) (nem j4) (K710 j4 ldC (s7 _ _ m9));have R1012:A0l (lU (λb=>b∉[I,d,B,J,X]) k1) (lU (λb=>b∉[I,d,B,J,X]) G12):=λm o e=>mq (mY e).1 (U1012 (nem (mY e).1) (nem (mY e).1) (mY e).2);have x7:=j0.same R1012;have lb:∀y∈ys,1<=L y/\L y<=60:=λy hy=>f0 y (b0.sub y hy);obtain⟨pr0,prB⟩:=zl b0.few lb;have txs:Axs (zs.take m) u:=sk b0.sub tm.tr;refine cb _ rfl (oS _ rfl _ rfl b ld ys _ L rfl t7 c6 (l2 _ b0.sub) (by have:=b0.few;lia) λG13 a0=>?_);refine mE _ rfl _ rfl (oZ v ld u _ L (zs.take m) rfl ((x7.same (mZ (S:=λb=>b∉[I,d,B,J,X]) a0)).same oN) tm.dp txs (a0 _ _ c6) t9 (dV _ _ rfl rfl (nE (.inl ⟨by lia,by lia⟩) _ _ rfl rfl ?_)));have llv:=Paired.length lo;have hll13:=a0 _ _ h4;refine fx _ rfl (.inl (pM rfl _ (SqL.of hll13))) (nh _ rfl _ rfl b _ rfl (.inl (SqL.of (a0 _ _ t7))) λcl hcl=>?_);obtain⟨G14,a7,hcl14,O⟩:=nH (o:=.lst (ys.map V.str)) hcl
   try rw[O]
   refine cb _ rfl (mJ v u rfl (((x7.same (mZ (S:=λb=>b∉[I,d,B,J,X]) a0)).same oN).same a7) tm.dp tm.gd λtv r0 d0 ob=>?_);have s1315:=a7.trans d0;have g7:=a0.trans s1315
   have g6:∀{m:zW},G12 m=none->m∉[I,d,B,J,X]:=λe mm=>by
    rw[i5]at mm;rcases mm with rfl|rfl|rfl|rfl|rfl
    ·rw[p9]at e;cases e
    ·rw[r4]at e;cases e
    ·rw[n8]at e;cases e
    ·rw[m3]at e;cases e
    ·rw[h4]at e;cases e
   refine λc7 dl k0 hdl hne=>?_;have c1:A0l r0 (upd (upd r0 dl (.own c7)) c7 (.ins t.aV dl [])):=mu (ed hdl) k0;have k9:upd (upd r0 dl (.own c7)) c7 (.ins t.aV dl []) c7=some (.ins t.aV dl []):=cp;generalize upd (upd r0 dl (.own c7)) c7 (.ins t.aV dl [])=G16 at c1 k9;refine oi c7 dl (nD cl tv y ys rfl k9 (c1 _ _ (d0 _ _ hcl14)) (by have:=b0.few;lia) λcx G17 hcx y7 hcx17 fr17=>⟨rfl,?_⟩);have r5:A0l r0 G17:=λm o e=>fr17 m o (lO e k0) (c1 _ _ e);have a1:=g7.trans r5;refine oq X _ _ rfl rfl (a1 _ _ h4) (mC (by lia)) ?_;obtain⟨G18,R,U18,hll18⟩:=uH G17 X (.lst (lv++[.ref c7]));rw[R];have R1718:A0l (lU (λb=>b∉[I,d,B,J,X]) G17) (lU (λb=>b∉[I,d,B,J,X]) G18):=λm o e=>mq (mY e).1 (U18 (nem (mY e).1) (mY e).2);have R1218:=(mZ (S:=λb=>b∉[I,d,B,J,X]) a1).trans R1718;have R1018:=R1012.trans R1218;have K018:KMs [I,d,B,J,X] G G18:=λm o n e=>U18 (nem n) (a1 _ _ (U1012 (nem n) (nem n) (K710 n (lO e u1) (s7 _ _ e))));have R018:A0l (lU (λb=>b∉[I,d,B,J,X]) G) (lU (λb=>b∉[I,d,B,J,X]) G18):=λm o e=>mq (mY e).1 (K018 _ _ (mY e).1 (mY e).2);have ltM:=g6 (g7.free k0);have cxM:=g6 (g7.free (c1.free hcx));have ob18:Ob t (lU (λb=>b∉[I,d,B,J,X]) G18) tv u:=(ob.imp (uc r5 λa o _ h=>g6 (a0.free (a7.free h)))).imp R1718;have lok':B0p t (λ_=>True) (lU (λb=>b∉[I,d,B,J,X]) G18) (.ref c7) (y,ys,u):=⟨c7,(nD dl cx tv () rfl (mq ltM (U18 (nem ltM) y7)) True.intro (mq cxM (U18 (nem cxM) hcx17)) ob18)⟩;have j1:arr tbs (ls++[(y,ys,u)])=arr tbs ls++[(y,ys)]:=Eo;refine oZ (some (.int (i:Int))) (some (.str y)) (some (.ref b)) (some (.ref C)) (some v) (ls++[(y,ys,u)]) ?_ (km.trans K018) ⟨⟨y,U18 k5 (a1 _ _ p9)⟩,?_,(cb _ (U18 n6 (a1 _ _ n8)) ?_),(cb _ (U18 p5 (a1 _ _ m3)) ?_),(cb _ hll18 ?_)⟩ ?_ ?_ ?_ ?_
   ·rw[Ll,HA];rfl
   ·rw[j1,lR,lR];exact U18 p8 (a1 _ _ r4)
   ·rw[j1];exact pQ (Paired.mapP ar (by rintro _ _ ⟨z1,b',z2,z3,z4⟩;exact mW z1 b' z2 z3 (K018 _ _ z3 z4))) (.cons (mW rfl b rfl bM (U18 (nem bM) (a1 _ _ t7))) .nil)
   ·exact pQ (Paired.mapP s0 (by rintro _ _ ⟨z1,z2⟩;exact⟨z1,z2.same R018⟩)) (.cons ⟨rfl,j0.same R1018⟩ .nil)
   ·exact pQ (Paired.mapP lo λ_ _ q=>q.same R018) (.cons lok' .nil)
   ·rw[mx,y6];rfl
   ·rw[j1,lR,d5,<-Nat.add_assoc,mQ,hyd];rfl
   ·rw[j1];intro e he;rcases mX.mp he with he|he
    ·exact k2 e he
    ·rw[mn.mp he];exact b0
   ·exact IX lgr tm
  rintro Z H40 M;refine rD M ?_;clear M;rintro o7 b4 j3 o16 o17 ls rfl km lt y6 d5 ⟨k2,lgr⟩;rw[y2]at y6 d5;clear scr;obtain⟨⟨ow,hab40⟩,hah40,⟨ak40,z9,ar40⟩,⟨trk,y4,s0⟩,⟨lv,hll40,lo⟩⟩:=lt;have x0:=km _ _ NM (a8 _ _ d4);have p4:=km _ _ j4 (a8 _ _ d7);have hT40:=km _ _ TM (a8 _ _ f2)
  have v6:TbV TT H40 vs tbs:=Paired.mapP (BE x9 tv31a) (by
   rintro _ _ M;refine qb M ?_;clear M;rintro⟨p,c,e,n,h1,h2⟩ p' c' e' ⟨n',r9,h2'⟩;rw[e]at e';cases e';rw[h1]at r9;cases r9;have ne:∀{b:zW},(∃xs,u3 b=some (.tup xs))->b∉[I,d,B,J,X]:=λ⟨xs,z⟩=>b3 (mU z a2 (by intro q;cases q)) (mU z b9 (by intro q;cases q)) (mU z a3 (by intro q;cases q)) (mU z a5 (by intro q;cases q)) (b8 z)
   exact lQ p c e n (km _ _ (ne ⟨_,h1⟩) (a8 _ _ h1)) (km _ _ (b3 (a6 h2 a2) n' (a6 h2 a3) (a6 h2 a5) (b8 h2)) (a8 _ _ h2)))
  refine i12 _ rfl _ rfl _ rfl N _ rfl (SqL.of x0) λq3 hq3=>?_;rw[uS (f:=V.str)];obtain⟨H41,s41,v8,O⟩:=nH (o:=.lst ((zs.take m).map V.str)) hq3
  try rw[O]
  refine fx q3 rfl ⟨_,SqL.of v8⟩ λA1 hA=>?_;refine sJ (K:=K) (a:=q3) (D:=A1) (xs:=(zs.take m).map V.str) (λj vs G=>A0l H41 G/\G A1=some (.lst vs)/\Paired (λ(v:V)(e:Str×Int)=>∃q,v=.ref q/\G q=some (.tup [.str e.1,.int e.2])) vs (((zs.take m).take j).map λy=>(y,L y))) (fI (ed hA) cp .nil) (by rintro j vs G ⟨sg,_⟩;exact SqL.of (sg _ _ v8)) ?_ ?_
  ·rintro j v vs G hv ⟨sg,hAg,pg⟩;obtain⟨y,hy,rfl⟩:=oY hv;have hj:j<m:=by have:=(ml.mp hy).1;lia
   have lv':=Paired.length pg;have ym:=me hy;have g:=A8f.k (H:=G) (a:=ld) (k:=Sum.inr y) (sg _ _ (s41 _ _ p4));rw[t9.val ym]at g;refine⟨⟨rfl,True.intro⟩,(i12 _ rfl _ rfl _ rfl ld _ rfl g ⟨kr rfl,λt1 u5=>?_⟩)⟩;have st:A0l G (upd G t1 (.tup [.str y,.int (L y)])):=ed u5;have kt:KT (upd G t1 (.tup [.str y,.int (L y)])) (upd (upd G t1 (.tup [.str y,.int (L y)])) A1 (.lst (vs++[.ref t1]))):=KT.at (st _ _ hAg) (by intro xs z;cases z);refine lP (st _ _ hAg) (mC (by rw[lv',dm,mK];lia)) (mu (sg.trans st) hA) cp ?_;rw[mQ,hy,nO,lR];exact pQ (Paired.mapP pg (by rintro _ _ ⟨q,e1,e2⟩;exact cb q e1 (kt _ _ (st _ _ e2)))) (.cons (cb t1 rfl (kt _ _ cp)) .nil)
  rintro vA H42 ⟨z0,hA42,pg⟩;rw[dm,na]at pg;have rpA:Rep H42 (.ref A1) (oK ((zs.take m).map λy=>(y,L y))):=.lst hA42 (Do pg);have s42:=s41.trans z0;have hmz:zs[m]?=some zs[m]:=nP (by lia);have w29:(0:Int)<10^(29:Int).toNat:=by decide+kernel
  refine qz _ rfl _ _ rfl rfl (fI (by decide) (by decide) (by decide)) _ _ rfl rfl w29 (ot _ _ rfl rfl _ rfl ?_);dsimp only;generalize 2+d1%10^(29:Int).toNat=wh;have v2:=s42 _ _ hT40;have tv42:=v6.same s42;refine mH _ rfl TT rfl ⟨_,SqL.of v2⟩ λTB hTB=>?_;refine sJ (K:=K) (a:=TT) (D:=TB) (xs:=vs) (λj ws G=>A0l H42 G/\G TB=some (.lst ws)/\TbV TB G ws (tbs.take j)) (fI (ed hTB) cp .nil) (by rintro j ws G ⟨sg,_⟩;exact SqL.of (sg _ _ v2)) ?_ ?_
  ·rintro j v ws G hv ⟨sg,u2,m0⟩;obtain⟨e,he,p,c,rfl,_,hp,hc⟩:=pI tv42 hv;have lws:=Paired.length m0;rw[mK]at lws;have hpG:=sg _ _ hp;have hcG:=sg _ _ hc;refine⟨True.intro,(ng _ rfl _ _ _ _ rfl rfl (SqT.of hpG) (lM (j:=0) rfl) (nC _ rfl _ _ _ _ rfl rfl (SqT.of hpG) (nE (lM (j:=1) rfl) c _ rfl (.inl (SqL.of hcG)) λc2 q1=>?_)))⟩;have st1:A0l G (upd G c2 (.lst (e.2.map V.str))):=ed q1;have w7:upd G c2 (.lst (e.2.map V.str)) c2=some (.lst (e.2.map V.str)):=cp;have c2B:c2≠TB:=(lO u2 q1).symm;generalize upd G c2 (.lst (e.2.map V.str))=Ga at st1 w7;refine⟨kr rfl,λt1 u5=>?_⟩;have z5:A0l Ga (upd Ga t1 (.tup [.str e.1,.ref c2])):=ed u5;have v5:upd Ga t1 (.tup [.str e.1,.ref c2]) t1=some (.tup [.str e.1,.ref c2]):=cp;have t1B:t1≠TB:=(lO (st1 _ _ u2) u5).symm;generalize upd Ga t1 (.tup [.str e.1,.ref c2])=Gb at z5 v5;have st:=st1.trans z5;refine lP (st _ _ u2) (mC (by lia)) (mu (sg.trans st) hTB) cp ?_;rw[mQ,he,nO];exact pQ ((m0.same st).up (st _ _ u2)) (.cons (lQ t1 c2 rfl c2B (by rw[eh t1B];exact v5) (by rw[eh c2B];exact z5 _ _ w7)) .nil)
  rintro ws q4 ⟨k8,hB43,m0⟩;rw[Paired.length v6,na]at m0;have rpB:Rep q4 (.ref TB) (tS tbs):=.lst hB43 (Dm m0);have s43:=s42.trans k8;refine cb _ rfl (pF _ rfl _ rfl N _ _ _ rfl rfl (SqL.of (s43 _ _ x0)) (show atI (zs.map V.str) (m:Int)=some (.str zs[m]) from lM (by rw[oH,hmz];rfl)) (kr rfl) λol hol=>?_);have d9:A0l q4 (upd q4 ol (.lst [.str zs[m]])):=ed hol;have t6:upd q4 ol (.lst [.str zs[m]]) ol=some (.lst (([zs[m]]:zC).map V.str)):=cp;generalize upd q4 ol (.lst [.str zs[m]])=H44 at d9 t6;have s44:=s43.trans d9;refine λp dx hp hdx hne=>?_;have b1:A0l H44 (upd (upd H44 dx (.own p)) p (.ins t.a9 dx [])):=mu (ed hdx) hp;have w5:upd (upd H44 dx (.own p)) p (.ins t.a9 dx []) p=some (.ins t.a9 dx []):=cp;generalize upd (upd H44 dx (.own p)) p (.ins t.a9 dx [])=H45 at b1 w5;have s45:=s44.trans b1;have llv:=Paired.length lo;have lo44:=Paired.mapP lo λ_ _ q=>q.same (oN.trans s44);refine oT p dx A1 TB X ol wh ((zs.take m).map λy=>(y,L y)) tbs (mJ lv [zs[m]] rfl w5 (rpA.same (k8.trans (d9.trans b1))) (by rw[dm];lia) (lP (rpB.same (d9.trans b1)) (by lia) (λe he=>?_) (s45 _ _ hll40) (lP (by lia) (λv hv=>?_) (As (b1 _ _ t6)) (by simp) λa' t' l' o' H46 hp46 ra rt hl0 hl46 ho46 kb=>⟨rfl,?_⟩)))
  ·have:=(m7 e he).few
   lia
  ·obtain⟨j,hj⟩:=List.getElem?_of_mem hv;refine qa (pI lo44 hj) ?_;rintro e _ lt dl cx ⟨tv,_,rfl,k0,_⟩;exact nM lt dl _ rfl (lO k0 hp) (b1 _ _ k0)
  have h0:A0l H40 H46:=λb u e=>kb b u (lO (s44 _ _ e) hp) (s45 _ _ e)
  have pw:PgW (zs.take m) L tbs ls:=by
   have e1:zs.take m++arN tbs ls=zs:=by have e2:(zs.drop m).take (tb+tl)=zs.drop m:=rT (by rw[uI];lia);rw[<-vw,d5,e2,wE]
   exact⟨h8,by rw[e1];exact i6,λz hz=>by rw[e1]at hz;exact⟨(c9 z hz).1,(c9 z hz).2.2⟩,f0,by lia,by lia,k2,lgr⟩
  have lk:=pw.lk (os:=[zs[m]]) (by simp) (by simp) (by simp) (λz hz=>by
   rw[mn.mp hz,<-vw,d5]
   exact me (i:=0) (by rw[List.getElem?_take_of_lt (by lia),List.getElem?_drop,Nat.add_zero];exact hmz))
  have pr:C0m t H46 p wh ((zs.take m).map λy=>(y,L y)) tbs ls [zs[m]]:=⟨dx,a',t',l',o',hp46,ra.same oN,rt.same oN,(cb lv hl46 (Paired.mapP lo λ_ _ q=>q.same (oN.trans h0))),ho46.same oN⟩;refine i12 _ rfl _ rfl _ rfl _ _ rfl rfl (oT p I (decide (wrk L tbs ls>4000)) wh _ tbs ls [zs[m]] L (og ⟨Y,ld,d,B,ow,J⟩ ((zs.take m).map λy=>((Sum.inr y:Key),V.int (L y))) trk (zs.take m) rfl pr lk (λh=>mP h) (λh=>⟨mT (by lia),?_⟩) λH47 _=>k H47));refine⟨⟨h0 _ _ hab40,h0 _ _ p4,t9,(cb ak40 (h0 _ _ z9) (Paired.mapP ar40 (by rintro _ _ ⟨z1,b,z2,_,z4⟩;exact mW z1 b z2 True.intro (h0 _ _ z4)))),?_,k2⟩,⟨h0 _ _ y4,?_,?_,f6.symm,w9.symm,i9.symm⟩,λe he=>by have:=(k2 e he).few;lia⟩
  ·rw[d5];exact t8.sublist (uD _ _)
  ·refine Paired.mapP (FE s0) (by
    rintro q le ⟨hl,z1,z2⟩;have w0:=pw.wl0 hl;have w1:=pw.wle hl
    exact⟨z1,z2.same (oN.trans h0),pw.inn hl,pH _ (pd.mpr (cb le hl rfl)),by lia,pw.gl (pw.axl hl).nd (pw.axl hl).sub (by lia),(pw.grn hl).dp⟩)
  ·have e1:arN tbs ls=(zs.drop m).take (tb+tl):=by rw[<-vw];exact d5
   have nd:(arN tbs ls).Nodup:=by rw[e1];exact t8.sublist (uD _ _)
   unfold arN at nd;exact(qp.mp nd).2.1
end My
namespace PySem.W.Fast
def tw16249309424912898688:=()
def tw5567044166420461161:=()
def tw1238229642539578421:=()
def tw2779089951877295036:=()
def tw15874231784533953449:=()
def tw14211556712081974165:=()
def tw13156629544121547557:=()
def tw6846526440034876057:=()
def tw786983605060784583:=()
def tw17523398382276821569:=()
def tw9170701503005841787:=()
def tw13099856313088773677:=()
def tw17425547622637277192:=()
def tw16755837982074048041:=()
def tw1667540343745759177:=()
def tw12311080601163170209:=()
def tw10758913536939048596:=()
def tw14468601154632908937:=()
def tw10526519834167142603:=()
def tw12798008744852385937:=()
def tw13499162133193953748:=()
def tw12628830478899578807:=()
def tw7615560783586471998:=()
def tw18407435603232067753:=()
def tw10119297448679225154:=()
def tw11829031094778456378:=()
def tw16370517492334409216:=()
def tw14020736631141413751:=()
def tw12795160730833790300:=()
def tw8808582788996226812:=()
def tw3915996209626060299:=()
def tw2716094355538427259:=()
def tw6493238360190870621:=()
def tw14577057229268903376:=()
def tw11411363778668117656:=()
def tw11404792212500754976:=()
def tw12792023348355914879:=()
def tw882345230511009013:=()
def tw12853440488732772246:=()
def tw3614491028888795356:=()
def tw3052059962056911422:=()
def tw7375883943214036910:=()
def tw9661651818071763109:=()
def tw6255678152047813182:=()
def tw12250622356281886181:=()
def tw14478784161701457891:=()
def tw13383659944854578879:=()
def tw18027885526801642843:=()
def tw2420083673899215535:=()
def tw8330129307297092806:=()
def tw3332479540995677242:=()
def tw5154703771898514975:=()
def tw16495817408877987495:=()
def tw1413202256242600561:=()
def tw9344939835390713470:=()
def tw215785906797668503:=()
def tw17053894773764923957:=()
def tw8307526298813950286:=()
def tw16115168269767314087:=()
def tw12750064517869979760:=()
def tw4625770896663025980:=()
def tw6960717464895292071:=()
def tw12972706922216038039:=()
def tw14215576978767874120:=()
def tw7565400236768198403:=()
def tw1046209255494059560:=()
def tw3633203378365715546:=()
def tw12468247305772105401:=()
def tw5372328048135661814:=()
def tw17349960659577622483:=()
def tw3941507808743602435:=()
def tw5839063656081355568:=()
def tw17121965183563958361:=()
def tw14807943995490820401:=()
def tw10313806081820801079:=()
def tw10704502036222549054:=()
def tw10387280900394967255:=()
def tw14215738073854672255:=()
def tw8724991776684449379:=()
def tw1287803889672299655:=()
def tw12454801082010650565:=()
def tw14136307315935260914:=()
def tw17499333835729183584:=()
def tw14514385671415496974:=()
def tw13206532040154592856:=()
def tw7058685625307923891:=()
def tw10042919073108603620:=()
def tw18075577640515962520:=()
def tw7902127239183217722:=()
def tw2073999956292158588:=()
def tw7287411852206492000:=()
def tw9594194189940601640:=()
def tw11393772757791746794:=()
def tw15307253027350378424:=()
def tw9888081846782794748:=()
def tw2418405328002312063:=()
def tw4008289978970351588:=()
def tw13447542864410828974:=()
def tw17403720765069103653:=()
def tw14621277545650847482:=()
def tw235731065089685505:=()
def tw17586982964464944917:=()
def tw7962446682384483005:=()
def tw14959004213289586837:=()
def tw8940656228339399323:=()
def tw7712121652385520268:=()
def tw7800516709831613985:=()
def tw5573514035691742327:=()
def tw11168564769676611884:=()
def tw10388170900240270360:=()
def tw7045867870466514375:=()
def tw17828320106285298206:=()
def tw3480952457287138318:=()
def tw9566139903516570668:=()
def tw15929525954127563045:=()
def tw18380703254274097411:=()
def tw1476431739806795042:=()
def tw10309429211406524667:=()
def tw8152806246313628923:=()
def tw4656571998428208090:=()
def tw10605872702399362842:=()
def tw16909565292924133460:=()
def tw5747785340099870302:=()
def tw12875001829707781969:=()
def tw8015380995564052650:=()
def tw16047594646736338408:=()
def tw7300816530623634769:=()
def tw18305956725637273280:=()
def tw12361562919115819907:=()
def tw8896495721926057032:=()
def tw15795733932083424044:=()
def tw2864039343386719297:=()
def tw14280727521851921320:=()
def tw661994113123123087:=()
def tw9623210312177859521:=()
def tw8680128620686058557:=()
def tw4869075047410804920:=()
def tw4606866028154724879:=()
def tw16709632480991191619:=()
def tw2033555966377025472:=()
def tw16729845043938721978:=()
def tw17425308455251596340:=()
def tw2265406884365608246:=()
def tw15294824990389844750:=()
def tw16044961081218112790:=()
def tw558515113269400984:=()
def tw3569323710545565348:=()
def tw8619708388815318097:=()
def tw17706919808297582557:=()
def tw6849747432247333918:=()
def tw6434508542609439544:=()
def tw2474725966095791139:=()
def tw188477340393741567:=()
def tw1139541150369075030:=()
def tw10390503784602251088:=()
def tw15428749104386221334:=()
def tw325817536042701324:=()
def tw11981226717286708986:=()
def tw12468806346591827165:=()
def tw7512034063665741310:=()
def tw7688567958039481469:=()
def tw14875434078892149671:=()
def tw3443596073767318639:=()
def tw17759757386038338681:=()
def tw3925475427906380267:=()
def tw11130652701904217338:=()
def tw15849958592581076932:=()
def tw14291041536880871176:=()
def tw13426807013353683764:=()
def tw9078341030407245646:=()
def tw935818467257090021:=()
def tw11698076848192810664:=()
def tw956688633877366443:=()
def tw7568513273953982116:=()
def tw10618231154166092282:=()
def tw16327976746675164753:=()
def tw4982567993673529171:=()
def tw3949203142619680264:=()
def tw15094903461304416390:=()
def tw129697603101707313:=()
def tw16279081522683027619:=()
def tw11719607923423643919:=()
def tw18160672786855244377:=()
def tw1820744041389427108:=()
def tw17533538665150745902:=()
def tw5079298885947167034:=()
def tw15918987732983398378:=()
def tw6365888461265874660:=()
def tw17845496046272721947:=()
def tw6149197945790431872:=()
def tw16300002552569156055:=()
def tw17571434627751198882:=()
def tw5842344400680198914:=()
def tw8508339787202439243:=()
def tw6822837774999626793:=()
def tw11563064118029974080:=()
def tw10115341050265502939:=()
def tw15879910109954790476:=()
def tw12709259666962124850:=()
def tw8899590979070057149:=()
def tw5883295357609772607:=()
def tw15489081965479627410:=()
def tw10602078397853349071:=()
def tw51603234323924114:=()
def tw8774441511857897790:=()
def tw11505415851654483185:=()
def tw1536667066678606896:=()
def tw652157246115209071:=()
def tw6292656907234610595:=()
def tw4644840955416106844:=()
def tw10046390373094431457:=()
def tw10220521516356868725:=()
def tw5672267354817729045:=()
def tw18247859064542726648:=()
def tw13763864020363168304:=()
def tw10756969936244827431:=()
def tw14460484983461396872:=()
def tw3131859656122327134:=()
def tw9620017121978654529:=()
def tw10884731706614208696:=()
def tw14436515897210100316:=()
def tw13283109323078952835:=()
def tw5733263477325023676:=()
def tw1171566906867002816:=()
def tw17537872023462177716:=()
def tw2795345706872725629:=()
def tw7066924452234232282:=()
def tw1641807367991362570:=()
def tw2180329980815795675:=()
def tw12416432297163992812:=()
def tw8560623913003154533:=()
def tw10860856918668990725:=()
def tw7662431092472209288:=()
def tw6900036117292420532:=()
def tw17197277272982044427:=()
def tw12621251217813245554:=()
def tw5700783333154570343:=()
def tw172712641313388969:=()
def tw8425769737598371230:=()
def tw15297622963334060887:=()
def tw5487330845608499971:=()
def tw16890664676210114920:=()
def tw5195257163363975475:=()
def tw12712448461525577166:=()
def tw2880391508625781136:=()
def tw1651338636056383445:=()
def tw15641149562921114966:=()
def tw8012700495793819066:=()
def tw13836426508714174331:=()
def tw17332319031192166581:=()
def tw14021697963279189881:=()
def tw12627716493425106569:=()
def tw12867264361071042689:=()
def tw7251697157684757873:=()
def tw6297972186259436460:=()
def tw3254367101239120353:=()
def tw16488066394057839609:=()
def tw18412603964613913425:=()
def tw7601244718225819437:=()
def tw4315698782676591350:=()
def tw5264394691597074556:=()
def tw1582616207975907984:=()
def tw1398998703418530468:=()
def tw13695052268613045816:=()
def tw2561695081025977658:=()
def tw1714869875185204302:=()
def tw16501642798116141914:=()
def tw13359005035164851996:=()
def tw17184232940890135096:=()
def tw12047972703489192915:=()
def tw8569218009858339350:=()
def tw11053062838778540389:=()
def tw5092732672154431985:=()
def tw1664151259395204766:=()
def tw5932945647406089838:=()
def tw8356070710739782827:=()
def tw13216933087153115878:=()
def tw11665246005111521676:=()
def tw1664437150787176866:=()
def tw4030504383484500281:=()
def tw13272533173323137932:=()
def tw15110470683445525254:=()
def tw11084510521725469987:=()
def tw10515093896931686326:=()
def tw5643715686310018599:=()
def tw5552533857753707101:=()
def tw14885743834454139359:=()
def tw3289585571890507261:=()
def tw9180921318287883937:=()
def tw10992376758004095744:=()
def tw7207947779048300007:=()
def tw12343295211340280204:=()
def tw4870466232255978649:=()
def tw14604553011251886377:=()
def tw5477953961077586253:=()
def tw12689428978132467725:=()
def tw10898984149544498340:=()
def tw15902500012277206943:=()
def tw11093855333598516285:=()
def tw12141821493739358451:=()
def tw29782364340342054:=()
def tw7686030894901640222:=()
def tw5085575455126091955:=()
def tw8169908342750405196:=()
def tw3945006214540754512:=()
def tw704139025501610439:=()
def tw1695375551175153337:=()
def tw11396557631539487423:=()
def tw2984758400997402513:=()
def tw9446605637297551325:=()
def tw15275958651878006153:=()
def tw15038373082560690640:=()
def tw1881503454629953236:=()
def tw5946947191613739692:=()
def tw1957700751291091151:=()
def tw17672086134688768968:=()
def tw11018088372496438545:=()
def tw12280223045096817512:=()
def tw6782780990605499958:=()
def tw7361575962641121278:=()
def tw6076568119785981269:=()
def tw3119297844310038978:=()
def tw15493429541204992840:=()
def tw8960905184703543722:=()
def tw8445414818593577535:=()
def tw2336838812622958003:=()
def tw10088234262769431796:=()
def tw1418428133286953927:=()
def tw10463090995536590458:=()
def tw1751307762599097521:=()
def tw8433026274263278715:=()
def tw9337518839599852187:=()
def tw11367022201434685377:=()
def tw9376789290128504910:=()
def tw8554754949612242626:=()
end PySem.W.Fast
namespace My
open PySem L2
theorem E5t{p:zH->Prop}(h:p []):∀us:zH,us.length=0->p us:=λus e=>by rw[xE.mp e];exact h
theorem E4l{n:Nat}{p:zH->Prop}(h:∀(a:zX)(us:zH),us.length=n->p (a::us)):∀us:zH,us.length=n+1->p us|a::r,e=>h a r (Nat.succ.inj e)
section
variable{K:Frag}{h:yA}{mg:zE}{x q:Str}{st:Stmt}{C f:zW}{oc:zX}{od:zO}{kV dc pm:zX}{an:zO}{cd ct:zX}{sl:zF}{ps:zC}
theorem E5z(_:findIn K (.ref C) x=some (some (.ref f)))(l:K.lookup f=some ⟨oc,od,.func (fnOf x q (tZ st) (rR st) (fC st) .none kV dc pm an cd ct),sl⟩)(c:codeIn K cd q=true)(k:keepIn K (.ref f)=true)
  (b:∀(kV a pm:zX)(an:zO)(d ct:zX)(us:zH),us.length=ps.length->bindArgs (fnOf x q (tZ st) (rR st) (fC st) .none kV a pm an d ct) ⟨us,[]⟩=pure (ps.zip us)):FM K C x q st f (fnOf x q (tZ st) (rR st) (fC st) .none kV dc pm an cd ct) ps:=⟨yw l c k,(yw l c k).binds b⟩
theorem E6h(X:K.In h)(G:h.Ns mainGlobals mg)(a:nsIn K mainGlobals x=some (some (.ref f)))(l:K.lookup f=some ⟨oc,od,.func (fnOf x x (tZ st) (rR st) (fC st) .none kV dc pm an cd ct),sl⟩)(c:codeIn K cd x=true)(k:keepIn K (.ref f)=true)
  (b:∀(kV d pm:zX)(an:zO)(e ct:zX)(us:zH),us.length=ps.length->bindArgs (fnOf x x (tZ st) (rR st) (fC st) .none kV d pm an e ct) ⟨us,[]⟩=pure (ps.zip us)):FQ K mg x st f (fnOf x x (tZ st) (rR st) (fC st) .none kV dc pm an cd ct) ps:=⟨yw l c k,PySem.W.mg_of X G a,(yw l c k).binds b⟩
end
theorem B0u{K:Frag}{p:zW}{c:zO}{a:Nat}{ps:zF}{b d:Tok}(l:K.lookup p=some ⟨.type "tuple",c,.seq #[.str "if" b,.str "sum" d] a,ps⟩):∃(o:Obj)(its:zG)(n:Nat),K.lookup p=some o/\o.cls=.type "tuple"/\o.data=.seq its n/\its.size<=sizeLine/\A2m [(.str "if"),(.str "sum")] its.toList:=⟨_,_,_,l,rfl,rfl,(by show 2<=sizeLine;decide),.cons ⟨_,rfl⟩ (.cons ⟨_,rfl⟩ (.nil))⟩
local macro_rules | `(tactic| walk_at"le") => `(tactic| (intro _ _ _ _ _ _; (repeat (refine E4l fun _ => ?_)); exact E5t rfl))
theorem E1a{l:PySem.W.OpenLaw}{w:yD}{K:Frag}{mg:zE}{c:zW}{t:Adr}(a:mg "law"=some (.ref c))(T:Txt K mg t)(b:∀(s:zY)(v:zX),BindsTo s t.kU ⟨[v],[]⟩ [("_law_script",v)]):
  ∃fd:zS,(∀(s:zY)(v:zX),BindsTo s fd ⟨[v],[]⟩ [("_law_script",v)])/\∀base:yA,K.In base->base.Ns mainGlobals mg->A3i l.prog w K mg base nj 19 c fd ["_law_script"] (yf K):=by
 have e:=a.symm.trans T.kC.m;cases e;exact⟨_,b,λbase _ _=>Hv T⟩
theorem walk{l:PySem.W.OpenLaw}{q:yB}{b:zC}{XP:zE->yA->Prop}{YP:yD->yA->Prop}{d:DefRec}{K:Params->Frag}(m:l.most=some 63)(c:d.params.defaults=[])
  (g:∀(w:yD)(h:yA),YP w h->(K w.params).In h)
  (F:∀(w:yD)(mg:zE)(e:zW)(h:yA),(K w.params).In h->h.Ns mainGlobals mg->mg d.name=some (.ref e)->
   ∃fd:zS,(∀(s:zY)(u:zX),BindsTo s fd ⟨[u],[]⟩ [("_law_script",u)])/\∀base:yA,(K w.params).In base->base.Ns mainGlobals mg->A3i l.prog w (K w.params) mg base nj 19 e fd ["_law_script"] (yf (K w.params))):
  PySem.W.WalkO q b XP YP l.row.toRowW d [] (λf vs=>PySem.call f vs):=
 L2.D6q (n:=63) (k:=19) (x:="_law_script") (CX:=λ_=>nj) (sp:=λw=>yf (K w.params)) m (by decide) c ⟨rfl,by decide,by decide,rfl⟩ g F (λ_ _ a j i p o=>⟨a,j,rfl,ScF.mk p o,i,λ_=>rfl⟩) λ_ _ _ _ _ z=>z
end My
open PySem PySem.W PyProof.Rows
set_option maxRecDepth 100000 in
set_option maxHeartbeats 0 in
theorem PySem.Challenge.cw_arrayloom_k17_let_by_holds : PySem.Challenge.rw_arrayloom_k17_let_by.Holds := by
 w_on;o_law;k_head;(case hw=>w_witness2)
 k_fill
 refine My.walk (l:=PySem.Challenge.rw_arrayloom_k17_let_by) rfl rfl (λw h Y=>PySem.W.kIn_of Y) ?F
 case F=>
  intro w d e h KX G c;refine' My.E1a (t:=.mk ..) c ?T ?b
  case T=>constructor<;>(try dsimp only)<;>first|k_is|((with_reducible refine mg_of KX G ?_);k_is)|((with_reducible refine mg_none_of KX G ?_);k_is)|((with_reducible apply My.E6h KX G)<;>first|k_is|(intro _ _ _ _ _ _;(repeat (refine My.E4l λ_=>?_));exact My.E5t rfl))|((with_reducible apply My.E5z)<;>first|k_is|(intro _ _ _ _ _ _;(repeat (refine My.E4l λ_=>?_));exact My.E5t rfl))|((with_reducible refine L2.D2e ?_ ?_ ?_)<;>k_is)|((with_reducible refine L2.C7e (by first|rfl|decide) ?_ ?_ ?_)<;>k_is)|((with_reducible refine L2.E1s ?_ ?_ ?_ ?_)<;>k_is)|(show findIn _ _ _=_;k_is)|kernel_rfl|(refine' ⟨_,mg_of KX G ?a,?b⟩;(case a=>k_is);(case b=>first|exact⟨_,rfl⟩|rfl))|((with_reducible apply My.B0u)<;>k_is)|(constructor<;>first|k_is|(show findIn _ _ _=_;k_is)|kernel_rfl|(constructor<;>k_is))
  case b=>exact λs v=>.of_eq rfl
