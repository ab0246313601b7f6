import PyProof.Rows.All
import Wide.All
import OpenK.AllK
import Wide.FinOn
import Lean
import PySem.Challenge.RW_arrayloom_k58_orders_judged
set_option compiler.extract_closed false
section
open PySem PySem.Spec PyProof.Rows PySem.Calls
abbrev az:=@wpAny_bind
abbrev fy:=@Heap.get?_push_of_some
abbrev my:=@List.mem_append_right
abbrev gG:=@List.getElem?_eq_some_iff
abbrev da:=@wpAny_pure
abbrev mT:=@List.mem_append_left
abbrev ic:=@List.length_append
abbrev jn:=@List.mem_append
abbrev dm:=@List.length_map
abbrev fa:=@Nat.le_refl
abbrev gC:=@Heap.lt_size
abbrev gM:=@List.getElem?_eq_getElem
abbrev hU:=@Heap.get?_push_size
abbrev jN:=@PyProof.Rows.boot_isinstance
abbrev gP:=@List.mem_cons
abbrev iR:=@List.size_toArray
abbrev iy:=@Nat.ne_of_lt
abbrev mu:=@Option.map_eq_some_iff
abbrev kL:=@List.length_singleton
abbrev kY:=@PySem.F.plainAttrs_list
abbrev rV:=@List.nodup_append
abbrev lV:=@PyProof.Rows.boot_tuple
abbrev mr:=@PySem.F.slot_list_append
abbrev mq:=@PySem.F.type_list_append
abbrev ik:=@List.map_cons
abbrev jE:=@Nat.lt_of_lt_of_le
abbrev rT:=@PySem.boot_len
abbrev gN:=@List.map_append
abbrev dh:=@if_neg
abbrev lU:=@List.append_nil
abbrev ij:=@Bool.false_ne_true
abbrev gX:=@List.mem_singleton
abbrev jf:=@List.length_take
abbrev je:=@List.length_cons
abbrev oB:=@List.append_assoc
abbrev iV:=@wpAny_mono
abbrev iO:=@wpAny_field
abbrev dn:=@if_pos
abbrev gJ:=@List.mem_of_getElem?
abbrev iN:=@List.take_add_one
abbrev oU:=@List.nodup_cons
abbrev kB:=@wpAny_newObj_type
abbrev oT:=@List.cons_append
abbrev iY:=@List.take_length
abbrev mo:=@List.length_drop
abbrev iX:=@Option.some.inj
abbrev lT:=@wpAny_callSpecial?_slot
abbrev nq:=@Heap.get?_update_other
abbrev jm:=@Nat.zero_le
abbrev jZ:=@List.mem_cons_of_mem
abbrev jD:=@wpAny_call_entry
abbrev kA:=@wpAny_setField_rec
abbrev lS:=@List.not_mem_nil
abbrev ir:=@decide_eq_false
abbrev np:=@wpAny_loadPart_at
abbrev nP:=@List.getElem?_append_right
abbrev qf:=@Array.getElem?_eq_some_iff
abbrev jT:=@Nat.le_trans
abbrev nO:=@PyProof.Rows.boot_list
abbrev nn:=@Int.emod_lt_of_pos
abbrev jC:=@Nat.ne_of_gt
abbrev nk:=@Heap.get?_update_self
abbrev lR:=@Heap.size_push
abbrev oS:=@wpAny_setField
abbrev wB:=@List.drop_eq_getElem_cons
abbrev lQ:=@Int.emod_nonneg
abbrev jS:=@wpAny_holding
abbrev rS:=@Bool.and_eq_true
abbrev pD:=@wpAny_standAt
abbrev iG:=@List.getElem?_map
abbrev jl:=@decide_eq_true
abbrev jY:=@wpAny_seqItems
abbrev oA:=@beq_eq_false_iff_ne
abbrev rR:=@List.getElem?_set_self
abbrev rQ:=@List.drop_of_length_le
abbrev rP:=@Array.getElem?_setIfInBounds_ne
abbrev nj:=@List.getElem?_append_left
abbrev kX:=@List.mem_cons_self
abbrev mR:=@List.lookup_cons
abbrev rO:=@List.getElem?_set_ne
abbrev qe:=@wpAny_execs_nil
abbrev gS:=@List.mem_map
abbrev qd:=@List.take_append_drop
abbrev jR:=@Option.toList_some
abbrev mQ:=@List.length_nil
abbrev oz:=@List.find?_cons
abbrev nN:=@List.take_of_length_le
abbrev qJ:=@List.getElem?_zip_eq_some
abbrev qb:=@List.length_eq_zero_iff
abbrev rN:=@List.mem_of_mem_take
abbrev rM:=@PyProof.Rows.boot_dict
end
noncomputable section
open PySem.W (Frag findIn nsIn mroIn kitOne keepIn typeIn hideAll isFn plainGet isClsIn hasDictIn exmOne plainOver makesIn clsIn fnOf emptyDict instObj excIn kitAny takesIn specialIn subIn codeIn)
set_option Elab.async false
set_option bootstrap.genMatcherCode false
set_option linter.all false
set_option maxRecDepth 100000
set_option maxHeartbeats 4000000
section
variable{G:Prop}{T0 T1 T2 T3 T4 T5 T6 T7 T8 T9 T10 T11 T12 T13:Sort _}{A0 A1 A2 A3 A4 A5:Prop}{B0 B1 B2 B3:T0->Prop}{C0 C1 C2 C3 C4 C5:T0->T1->Prop}{D0 D1 D2 D3 D4 D5:T0->T1->T2->Prop}{E0 E1 E2 E3 E4 E5:T0->T1->T2->T3->Prop}{F0 F1 F2 F3 F4 F5 F6 F7 F8:T0->T1->T2->T3->T4->Prop}{G0 G1 G2 G3 G4 G5 G6 G7:T0->T1->T2->T3->T4->T5->Prop}{H0:T0->T1->T2->T3->T4->T5->T6->Prop}{J0 J1 J2:T0->T1->T2->T3->T4->T5->T6->T7->T8->Prop}{O0:T0->T1->T2->T3->T4->T5->T6->T7->T8->T9->T10->T11->T12->T13->Prop}
theorem fI:A0->A1->A2->A0/\A1/\A2:=λm n i=>⟨m,n,i⟩
theorem iU:A0->∀x,B0 x->A0/\∃x,B0 x:=λm x n=>⟨m,x,n⟩
theorem bd:∀x,B0 x->B1 x->∃x,B0 x/\B1 x:=λx m n=>⟨x,m,n⟩
theorem iA:∀x y,C0 x y->∃x y,C0 x y:=λx y m=>⟨x,y,m⟩
theorem jx:A0->A1->A2->A3->A0/\A1/\A2/\A3:=λm n i j=>⟨m,n,i,j⟩
theorem iB:A0->∀x,B0 x->B1 x->A0/\∃x,B0 x/\B1 x:=λm x n i=>⟨m,x,n,i⟩
theorem eh:∀x,B0 x->B1 x->B2 x->∃x,B0 x/\B1 x/\B2 x:=λx m n i=>⟨x,m,n,i⟩
theorem hZ:∀x y,C0 x y->C1 x y->∃x y,C0 x y/\C1 x y:=λx y m n=>⟨x,y,m,n⟩
theorem iT:A0->A1->A2->A3->A4->A0/\A1/\A2/\A3/\A4:=λm n i j k=>⟨m,n,i,j,k⟩
theorem jL:A0->A1->∀x,B0 x->B1 x->A0/\A1/\∃x,B0 x/\B1 x:=λm n x i j=>⟨m,n,x,i,j⟩
theorem kW:A0->∀x y,C0 x y->C1 x y->A0/\∃x y,C0 x y/\C1 x y:=λm x y n i=>⟨m,x,y,n,i⟩
theorem iF:∀x,B0 x->B1 x->B2 x->B3 x->∃x,B0 x/\B1 x/\B2 x/\B3 x:=λx m n i j=>⟨x,m,n,i,j⟩
theorem pZ:∀x,B0 x->B1 x->∀y,C0 x y->∃x,B0 x/\B1 x/\∃y,C0 x y:=λx m n y i=>⟨x,m,n,y,i⟩
theorem gZ:∀x,B0 x->∀y,C0 x y->C1 x y->∃x,B0 x/\∃y,C0 x y/\C1 x y:=λx m y n i=>⟨x,m,y,n,i⟩
theorem eu:∀x y,C0 x y->C1 x y->C2 x y->∃x y,C0 x y/\C1 x y/\C2 x y:=λx y m n i=>⟨x,y,m,n,i⟩
theorem jw:∀x y z,D0 x y z->D1 x y z->∃x y z,D0 x y z/\D1 x y z:=λx y z m n=>⟨x,y,z,m,n⟩
theorem jq:∀x y z u,E0 x y z u->∃x y z u,E0 x y z u:=λx y z u m=>⟨x,y,z,u,m⟩
theorem jd:A0->A1->A2->A3->A4->A5->A0/\A1/\A2/\A3/\A4/\A5:=λm n i j k l=>⟨m,n,i,j,k,l⟩
theorem jp:A0->∀x y,C0 x y->C1 x y->C2 x y->A0/\∃x y,C0 x y/\C1 x y/\C2 x y:=λm x y n i j=>⟨m,x,y,n,i,j⟩
theorem kJ:∀x,B0 x->B1 x->∀y,C0 x y->C1 x y->∃x,B0 x/\B1 x/\∃y,C0 x y/\C1 x y:=λx m n y i j=>⟨x,m,n,y,i,j⟩
theorem jv:∀x,B0 x->∀y,C0 x y->C1 x y->C2 x y->∃x,B0 x/\∃y,C0 x y/\C1 x y/\C2 x y:=λx m y n i j=>⟨x,m,y,n,i,j⟩
theorem gL:∀x y,C0 x y->C1 x y->C2 x y->C3 x y->∃x y,C0 x y/\C1 x y/\C2 x y/\C3 x y:=λx y m n i j=>⟨x,y,m,n,i,j⟩
theorem jQ:∀x y z,D0 x y z->D1 x y z->D2 x y z->∃x y z,D0 x y z/\D1 x y z/\D2 x y z:=λx y z m n i=>⟨x,y,z,m,n,i⟩
theorem gB:∀x,B0 x->∀y z,D0 x y z->D1 x y z->D2 x y z->∃x,B0 x/\∃y z,D0 x y z/\D1 x y z/\D2 x y z:=λx m y z n i j=>⟨x,m,y,z,n,i,j⟩
theorem iM:∀x y,C0 x y->C1 x y->C2 x y->C3 x y->C4 x y->∃x y,C0 x y/\C1 x y/\C2 x y/\C3 x y/\C4 x y:=λx y m n i j k=>⟨x,y,m,n,i,j,k⟩
theorem iE:∀x y z,D0 x y z->D1 x y z->D2 x y z->D3 x y z->∃x y z,D0 x y z/\D1 x y z/\D2 x y z/\D3 x y z:=λx y z m n i j=>⟨x,y,z,m,n,i,j⟩
theorem ul:A0->∀x,B0 x->∀y,C0 x y->C1 x y->∀z,D0 x y z->A0/\∃x,B0 x/\∃y,C0 x y/\C1 x y/\∃z,D0 x y z:=λm x n y i j z k=>⟨m,x,n,y,i,j,z,k⟩
theorem mM:∀x y,C0 x y->C1 x y->C2 x y->C3 x y->C4 x y->C5 x y->∃x y,C0 x y/\C1 x y/\C2 x y/\C3 x y/\C4 x y/\C5 x y:=λx y m n i j k l=>⟨x,y,m,n,i,j,k,l⟩
theorem iL:∀x y z,D0 x y z->D1 x y z->D2 x y z->D3 x y z->D4 x y z->∃x y z,D0 x y z/\D1 x y z/\D2 x y z/\D3 x y z/\D4 x y z:=λx y z m n i j k=>⟨x,y,z,m,n,i,j,k⟩
theorem jc:∀x y z u,E0 x y z u->E1 x y z u->E2 x y z u->E3 x y z u->∃x y z u,E0 x y z u/\E1 x y z u/\E2 x y z u/\E3 x y z u:=λx y z u m n i j=>⟨x,y,z,u,m,n,i,j⟩
theorem jB:∀x y z u v w p,H0 x y z u v w p->∃x y z u v w p,H0 x y z u v w p:=λx y z u v w p m=>⟨x,y,z,u,v,w,p,m⟩
theorem rK:∀x,B0 x->B1 x->∀y,C0 x y->C1 x y->C2 x y->∀z,D0 x y z->∃x,B0 x/\B1 x/\∃y,C0 x y/\C1 x y/\C2 x y/\∃z,D0 x y z:=λx m n y i j k z l=>⟨x,m,n,y,i,j,k,z,l⟩
theorem gK:∀x,B0 x->∀y,C0 x y->∀z u,E0 x y z u->E1 x y z u->E2 x y z u->∃x,B0 x/\∃y,C0 x y/\∃z u,E0 x y z u/\E1 x y z u/\E2 x y z u:=λx m y n z u i j k=>⟨x,m,y,n,z,u,i,j,k⟩
theorem kI:∀x y,C0 x y->C1 x y->C2 x y->C3 x y->∀z,D0 x y z->D1 x y z->∃x y,C0 x y/\C1 x y/\C2 x y/\C3 x y/\∃z,D0 x y z/\D1 x y z:=λx y m n i j z k l=>⟨x,y,m,n,i,j,z,k,l⟩
theorem ox:∀x y z,D0 x y z->D1 x y z->D2 x y z->D3 x y z->D4 x y z->D5 x y z->∃x y z,D0 x y z/\D1 x y z/\D2 x y z/\D3 x y z/\D4 x y z/\D5 x y z:=λx y z m n i j k l=>⟨x,y,z,m,n,i,j,k,l⟩
theorem jP:∀x y z u,E0 x y z u->E1 x y z u->E2 x y z u->E3 x y z u->E4 x y z u->∃x y z u,E0 x y z u/\E1 x y z u/\E2 x y z u/\E3 x y z u/\E4 x y z u:=λx y z u m n i j k=>⟨x,y,z,u,m,n,i,j,k⟩
theorem kn:∀x,B0 x->∀y,C0 x y->∀z u v w p,H0 x y z u v w p->∃x,B0 x/\∃y,C0 x y/\∃z u v w p,H0 x y z u v w p:=λx m y n z u v w p i=>⟨x,m,y,n,z,u,v,w,p,i⟩
theorem jo:∀x y z u,E0 x y z u->E1 x y z u->E2 x y z u->E3 x y z u->E4 x y z u->E5 x y z u->∃x y z u,E0 x y z u/\E1 x y z u/\E2 x y z u/\E3 x y z u/\E4 x y z u/\E5 x y z u:=λx y z u m n i j k l=>⟨x,y,z,u,m,n,i,j,k,l⟩
theorem i12:∀x,B0 x->∀y z u v,F0 x y z u v->F1 x y z u v->F2 x y z u v->F3 x y z u v->F4 x y z u v->∃x,B0 x/\∃y z u v,F0 x y z u v/\F1 x y z u v/\F2 x y z u v/\F3 x y z u v/\F4 x y z u v:=λx m y z u v n i j k l=>⟨x,m,y,z,u,v,n,i,j,k,l⟩
theorem lP:∀x y z u v,F0 x y z u v->F1 x y z u v->F2 x y z u v->F3 x y z u v->F4 x y z u v->F5 x y z u v->∃x y z u v,F0 x y z u v/\F1 x y z u v/\F2 x y z u v/\F3 x y z u v/\F4 x y z u v/\F5 x y z u v:=λx y z u v m n i j k l=>⟨x,y,z,u,v,m,n,i,j,k,l⟩
theorem lO:∀x,B0 x->∀y z u v,F0 x y z u v->F1 x y z u v->F2 x y z u v->F3 x y z u v->F4 x y z u v->F5 x y z u v->∃x,B0 x/\∃y z u v,F0 x y z u v/\F1 x y z u v/\F2 x y z u v/\F3 x y z u v/\F4 x y z u v/\F5 x y z u v:=λx m y z u v n i j k l o=>⟨x,m,y,z,u,v,n,i,j,k,l,o⟩
theorem ju:∀x,B0 x->∀y z u v,F0 x y z u v->F1 x y z u v->F2 x y z u v->∀w,G0 x y z u v w->G1 x y z u v w->∃x,B0 x/\∃y z u v,F0 x y z u v/\F1 x y z u v/\F2 x y z u v/\∃w,G0 x y z u v w/\G1 x y z u v w:=λx m y z u v n i j w k l=>⟨x,m,y,z,u,v,n,i,j,w,k,l⟩
theorem lD:∀x y,C0 x y->C1 x y->C2 x y->∀z u,E0 x y z u->∀v w,G0 x y z u v w->G1 x y z u v w->∃x y,C0 x y/\C1 x y/\C2 x y/\∃z u,E0 x y z u/\∃v w,G0 x y z u v w/\G1 x y z u v w:=λx y m n i z u j v w k l=>⟨x,y,m,n,i,z,u,j,v,w,k,l⟩
theorem kj:∀x y z u v,F0 x y z u v->F1 x y z u v->F2 x y z u v->F3 x y z u v->F4 x y z u v->F5 x y z u v->F6 x y z u v->∃x y z u v,F0 x y z u v/\F1 x y z u v/\F2 x y z u v/\F3 x y z u v/\F4 x y z u v/\F5 x y z u v/\F6 x y z u v:=λx y z u v m n i j k l o=>⟨x,y,z,u,v,m,n,i,j,k,l,o⟩
theorem ji:∀x,B0 x->∀y,C0 x y->∀z u v w,G0 x y z u v w->G1 x y z u v w->G2 x y z u v w->G3 x y z u v w->G4 x y z u v w->∃x,B0 x/\∃y,C0 x y/\∃z u v w,G0 x y z u v w/\G1 x y z u v w/\G2 x y z u v w/\G3 x y z u v w/\G4 x y z u v w:=λx m y n z u v w i j k l o=>⟨x,m,y,n,z,u,v,w,i,j,k,l,o⟩
theorem ou:∀x,B0 x->∀y z,D0 x y z->D1 x y z->∀u v,F0 x y z u v->F1 x y z u v->∀w,G0 x y z u v w->G1 x y z u v w->∃x,B0 x/\∃y z,D0 x y z/\D1 x y z/\∃u v,F0 x y z u v/\F1 x y z u v/\∃w,G0 x y z u v w/\G1 x y z u v w:=λx m y z n i u v j k w l o=>⟨x,m,y,z,n,i,u,v,j,k,w,l,o⟩
theorem jA:∀x,B0 x->∀y z u v w,G0 x y z u v w->G1 x y z u v w->G2 x y z u v w->G3 x y z u v w->G4 x y z u v w->G5 x y z u v w->∃x,B0 x/\∃y z u v w,G0 x y z u v w/\G1 x y z u v w/\G2 x y z u v w/\G3 x y z u v w/\G4 x y z u v w/\G5 x y z u v w:=λx m y z u v w n i j k l o=>⟨x,m,y,z,u,v,w,n,i,j,k,l,o⟩
theorem kU:∀x,B0 x->∀y,C0 x y->∀z u v w,G0 x y z u v w->G1 x y z u v w->G2 x y z u v w->G3 x y z u v w->G4 x y z u v w->G5 x y z u v w->∃x,B0 x/\∃y,C0 x y/\∃z u v w,G0 x y z u v w/\G1 x y z u v w/\G2 x y z u v w/\G3 x y z u v w/\G4 x y z u v w/\G5 x y z u v w:=λx m y n z u v w i j k l o a=>⟨x,m,y,n,z,u,v,w,i,j,k,l,o,a⟩
theorem lC:∀x y z u v,F0 x y z u v->F1 x y z u v->F2 x y z u v->F3 x y z u v->F4 x y z u v->F5 x y z u v->F6 x y z u v->F7 x y z u v->F8 x y z u v->∃x y z u v,F0 x y z u v/\F1 x y z u v/\F2 x y z u v/\F3 x y z u v/\F4 x y z u v/\F5 x y z u v/\F6 x y z u v/\F7 x y z u v/\F8 x y z u v:=λx y z u v m n i j k l o a b=>⟨x,y,z,u,v,m,n,i,j,k,l,o,a,b⟩
theorem nM:∀x y z u v w,G0 x y z u v w->G1 x y z u v w->G2 x y z u v w->G3 x y z u v w->G4 x y z u v w->G5 x y z u v w->G6 x y z u v w->G7 x y z u v w->∃x y z u v w,G0 x y z u v w/\G1 x y z u v w/\G2 x y z u v w/\G3 x y z u v w/\G4 x y z u v w/\G5 x y z u v w/\G6 x y z u v w/\G7 x y z u v w:=λx y z u v w m n i j k l o a=>⟨x,y,z,u,v,w,m,n,i,j,k,l,o,a⟩
theorem rL(h:∃x,B0 x/\B1 x/\B2 x)(f:∀x,B0 x->B1 x->B2 x->G):G:=by obtain⟨x,m,n,i⟩:=h;exact f x m n i
theorem ku(h:∃x y z,D0 x y z)(f:∀x y z,D0 x y z->G):G:=by obtain⟨x,y,z,m⟩:=h;exact f x y z m
theorem wA(h:A0/\A1/\A2/\A3/\A4)(f:A0->A1->A2->A3->A4->G):G:=by obtain⟨m,n,i,j,k⟩:=h;exact f m n i j k
theorem qa(h:∃x y,C0 x y/\C1 x y/\C2 x y)(f:∀x y,C0 x y->C1 x y->C2 x y->G):G:=by obtain⟨x,y,m,n,i⟩:=h;exact f x y m n i
theorem iq(h:∃x y,C0 x y/\C1 x y/\C2 x y/\C3 x y/\C4 x y)(f:∀x y,C0 x y->C1 x y->C2 x y->C3 x y->C4 x y->G):G:=by obtain⟨x,y,m,n,i,j,k⟩:=h;exact f x y m n i j k
theorem gW(h:∃x y z,D0 x y z/\D1 x y z/\D2 x y z/\D3 x y z)(f:∀x y z,D0 x y z->D1 x y z->D2 x y z->D3 x y z->G):G:=by obtain⟨x,y,z,m,n,i,j⟩:=h;exact f x y z m n i j
theorem jk(h:∃x y z u v w,G0 x y z u v w)(f:∀x y z u v w,G0 x y z u v w->G):G:=by obtain⟨x,y,z,u,v,w,m⟩:=h;exact f x y z u v w m
theorem um(h:A0/\∃x,B0 x/\∃y,C0 x y/\C1 x y/\∃z,D0 x y z)(f:A0->∀x,B0 x->∀y,C0 x y->C1 x y->∀z,D0 x y z->G):G:=by obtain⟨m,x,n,y,i,j,z,k⟩:=h;exact f m x n y i j z k
theorem oy(h:∃x y,C0 x y/\C1 x y/\∃z u v,F0 x y z u v)(f:∀x y,C0 x y->C1 x y->∀z u v,F0 x y z u v->G):G:=by obtain⟨x,y,m,n,z,u,v,i⟩:=h;exact f x y m n z u v i
theorem kr(h:A0/\A1/\∃x,B0 x/\∃y z u,E0 x y z u/\E1 x y z u)(f:A0->A1->∀x,B0 x->∀y z u,E0 x y z u->E1 x y z u->G):G:=by obtain⟨m,n,x,i,y,z,u,j,k⟩:=h;exact f m n x i y z u j k
theorem jM(h:∃x y z u,E0 x y z u/\E1 x y z u/\E2 x y z u/\E3 x y z u/\E4 x y z u)(f:∀x y z u,E0 x y z u->E1 x y z u->E2 x y z u->E3 x y z u->E4 x y z u->G):G:=by obtain⟨x,y,z,u,m,n,i,j,k⟩:=h;exact f x y z u m n i j k
theorem ko(h:∃x y z u v,F0 x y z u v/\F1 x y z u v/\F2 x y z u v/\F3 x y z u v/\F4 x y z u v)(f:∀x y z u v,F0 x y z u v->F1 x y z u v->F2 x y z u v->F3 x y z u v->F4 x y z u v->G):G:=by obtain⟨x,y,z,u,v,m,n,i,j,k⟩:=h;exact f x y z u v m n i j k
theorem ml(h:∃x y z u v w,G0 x y z u v w/\G1 x y z u v w/\G2 x y z u v w/\G3 x y z u v w/\G4 x y z u v w/\G5 x y z u v w)(f:∀x y z u v w,G0 x y z u v w->G1 x y z u v w->G2 x y z u v w->G3 x y z u v w->G4 x y z u v w->G5 x y z u v w->G):G:=by obtain⟨x,y,z,u,v,w,m,n,i,j,k,l⟩:=h;exact f x y z u v w m n i j k l
theorem kK(h:∃x y z u v w p q r,J0 x y z u v w p q r/\J1 x y z u v w p q r/\J2 x y z u v w p q r)(f:∀x y z u v w p q r,J0 x y z u v w p q r->J1 x y z u v w p q r->J2 x y z u v w p q r->G):G:=by obtain⟨x,y,z,u,v,w,p,q,r,m,n,i⟩:=h;exact f x y z u v w p q r m n i
theorem oR(h:∃x y z u v w p q r s t a b c,O0 x y z u v w p q r s t a b c)(f:∀x y z u v w p q r s t a b c,O0 x y z u v w p q r s t a b c->G):G:=by obtain⟨x,y,z,u,v,w,p,q,r,s,t,a,b,c,m⟩:=h;exact f x y z u v w p q r s t a b c m
end
abbrev zW:=PySem.Addr
abbrev zX:=PySem.Value
abbrev zY:=PySem.Shared
abbrev zZ:=PySem.Around
abbrev yA:=PySem.Heap
abbrev yB:=PySem.Program
abbrev yC:=PySem.Expr
abbrev yD:=PySem.World
namespace L2
open PySem PySem.Spec PyProof.Rows
abbrev Key:=Sum Int Str
abbrev _root_.zA:=zX->zY->Prop
abbrev _root_.zB:=List (Str×List Str)
abbrev _root_.zC:=List Str
abbrev _root_.zD:=List (zW×Obj)
abbrev _root_.zE:=Str->Option zX
abbrev _root_.zF:=Array (Option zX)
abbrev _root_.zG:=Array zX
abbrev _root_.zH:=List zX
abbrev _root_.zI:=List Int
abbrev _root_.zL:=List (Str×Int)
abbrev _root_.zN:=Option zX
abbrev _root_.zO:=Option zW
abbrev _root_.zQ:=List zW
abbrev _root_.zR:=Str->Int
abbrev _root_.zS:=FuncData
abbrev _root_.zT:=List yC
abbrev _root_.zU:=List Key
abbrev _root_.zV:=zW->Prop
def nS:Key->zX->Bool|.inl k,v=>Value.isInt k v|.inr x,v=>Value.isStrOf x v
def keyH(w:yD):Key->Int|.inl k=>hashInt k|.inr x=>hashStr w x
theorem mj:∀{k:Key}{v:zX},nS k v=true->(∃i t,k=Sum.inl i/\v=Value.int i t)\/(∃x t,k=Sum.inr x/\v=Value.str x t)|.inl i,v,h=>by obtain⟨t,e⟩:=Value.isInt_shape (k:=i) (v:=v) h;exact .inl (hZ i t rfl e)|.inr x,v,h=>by obtain⟨t,e⟩:=Value.isStrOf_shape (x:=x) (v:=v) h;exact .inr (hZ x t rfl e)
theorem Gr(i:Int)(t:Tok):nS (.inl i) (.int i t)=true:=by simp[nS,Value.isInt]
theorem Ht(x:Str)(t:Tok):nS (.inr x) (.str x t)=true:=by simp[nS,Value.isStrOf]
theorem Dp(a b:Int):decide ((Sum.inl a:Key)=Sum.inl b)=(a==b):=by
 by_cases e:a=b
 ·subst e;simp
 ·have h:¬(Sum.inl a:Key)=Sum.inl b:=λq=>e (Sum.inl.inj q);rw[ir h];exact(oA.mpr e).symm
theorem Dr(a b:Str):decide ((Sum.inr a:Key)=Sum.inr b)=decide (a=b):=by
 by_cases e:a=b
 ·subst e;simp
 ·have h:¬(Sum.inr a:Key)=Sum.inr b:=λq=>e (Sum.inr.inj q);rw[ir h,ir e]
theorem Du(a:Int)(b:Str):decide ((Sum.inl a:Key)=Sum.inr b)=false:=ir (λq=>nomatch q)
theorem Dh(a:Str)(b:Int):decide ((Sum.inr a:Key)=Sum.inl b)=false:=ir (λq=>nomatch q)
def ig(prog:yB)(w:yD):PySem.KeyKind prog w Key where
 is:=nS
 hash:=keyH w
 inj:=λv a b g d=>by
  rcases mj g with ⟨i,t,rfl,rfl⟩|⟨x,t,rfl,rfl⟩
  ·rcases mj d with ⟨j,u,rfl,e⟩|⟨y,u,rfl,e⟩
   ·injection e with e1 _;rw[e1]
   ·exact nomatch e
  ·rcases mj d with ⟨j,u,rfl,e⟩|⟨y,u,rfl,e⟩
   ·exact nomatch e
   ·injection e with e1 _;rw[e1]
 byValue:=λk v h=>by rcases mj h with ⟨i,t,rfl,rfl⟩|⟨x,t,rfl,rfl⟩<;>rfl
 pyHash:=λc h=>by
  rcases mj c with ⟨i,t,rfl,rfl⟩|⟨x,t,rfl,rfl⟩
  ·exact wpAny_pyHash_int h
  ·exact wpAny_pyHash_str h
 eqBool:=λf c h=>by
  rcases mj f with ⟨i,t,rfl,rfl⟩|⟨x,t,rfl,rfl⟩
  ·rcases mj c with ⟨j,u,rfl,rfl⟩|⟨y,u,rfl,rfl⟩
   ·rw[Dp]at h;exact wpAny_eqBool_int h
   ·rw[Du]at h;exact SeqAt.EqAt.int_str i t y u _ _ _ _ h
  ·rcases mj c with ⟨j,u,rfl,rfl⟩|⟨y,u,rfl,rfl⟩
   ·rw[Dh]at h;exact SeqAt.EqAt.str_int x t j u _ _ _ _ h
   ·rw[Dr]at h;exact wpAny_eqBool_str h
 «strs»:=λk x t v h=>by
  rcases mj h with ⟨i,u,rfl,e⟩|⟨y,u,rfl,e⟩
  ·exact nomatch e
  ·injection e with e1 _;subst e1;cases v<;>rfl
theorem Bt(prog:yB)(w:yD)(i:Int)(t:Tok):(ig prog w).is (.inl i) (.int i t)=true:=Gr i t
theorem IF(prog:yB)(w:yD)(x:Str)(t:Tok):(ig prog w).is (.inr x) (.str x t)=true:=Ht x t
inductive V where
 |non|bl (b:Bool)|int (i:Int)|str (x:Str)|byt (b:Array UInt8)|flt (b:UInt64)|ref (a:zW)|ty (n:String)
 deriving DecidableEq
abbrev _root_.zJ:=List (Key×V)
abbrev _root_.zK:=List (Str×V)
abbrev _root_.zM:=List V
abbrev _root_.zP:=Option V
def A2b:V->zX->Prop|.non,u=>u=Value.none|.bl b,u=>u=Value.bool b|.int i,u=>∃t,u=Value.int i t|.str x,u=>∃t,u=Value.str x t|.byt b,u=>∃t,u=Value.bytes b t|.flt b,u=>∃t,u=Value.float b t|.ref a,u=>u=Value.ref a|.ty n,u=>u=Value.type n
abbrev A2k:zM->List zX->Prop:=Paired A2b
theorem A2k.length{xs:zM}{us:zH}(r:A2k xs us):xs.length=us.length:=Paired.length r
theorem A2k.get:∀{xs:zM}{us:zH}{i:Nat}{x:V},A2k xs us->xs[i]?=some x->∃u,us[i]?=some u/\A2b x u|_,_,_,_,.nil,e=>by simp at e|_,_,0,_,.cons r _,e=>by simp at e;subst e;exact bd _ rfl r|_,_,i+1,x,.cons _ t,e=>by obtain⟨u,b,a⟩:=A2k.get (i:=i) (x:=x) t (by simpa using e);exact bd u (by simpa using b) a
theorem A2k.set{x:V}{u:zX}(r:A2b x u):∀{xs:zM}{us:zH}(i:Nat),A2k xs us->A2k (xs.set i x) (us.set i u)|_,_,_,.nil=>.nil|_,_,0,.cons _ t=>.cons r t|_,_,i+1,.cons q t=>.cons q (A2k.set r i t)
theorem A2k.append:∀{xs ys:zM}{us a:zH},A2k xs us->A2k ys a->A2k (xs++ys) (us++a)|_,_,_,_,.nil,s=>s|_,_,_,_,.cons r t,s=>.cons r (A2k.append t s)
theorem A2k.take:∀{xs:zM}{us:zH}(n:Nat),A2k xs us->A2k (xs.take n) (us.take n)|_,_,0,_=>.nil|_,_,_+1,.nil=>.nil|_,_,n+1,.cons r t=>.cons r (A2k.take n t)
theorem A2k.drop:∀{xs:zM}{us:zH}(n:Nat),A2k xs us->A2k (xs.drop n) (us.drop n)|_,_,0,r=>r|_,_,_+1,.nil=>.nil|_,_,n+1,.cons _ t=>A2k.drop n t
def B0s:zP->Option zX->Prop|some v,some u=>A2b v u|none,none=>True|_,_=>False
def KV{κ:Type}:List (κ×V)->List (κ×zX)->Prop:=Paired λ(p:κ×V)(q:κ×zX)=>p.1=q.1/\A2b p.2 q.2
def kV:Key->V|.inl i=>.int i|.inr x=>.str x
inductive HO where|lst (xs:zM)|tup (xs:zM)|dK (kvs:zJ)|dT (kvs:List (List Key×V))|set (S:Int->Bool) (n:Nat)|ins (C dx:zW) (fs:zK)|own (x:zW)|xd (fs:zK)|met (f x:zW)|rng (lo hi:Int)|frz (o:Obj) (u:HO)|tbl (ps:zG)|ext (φ:yA->Prop)
abbrev Hp:=zW->Option HO
def upd(H:Hp)(a:zW)(o:HO):Hp:=λb=>if b=a then some o else H b
theorem ck{H:Hp}{a:zW}{o:HO}:upd H a o a=some o:=by unfold upd;rw[dn rfl]
theorem dt{H:Hp}{a b:zW}{o:HO}(h:b≠a):upd H a o b=H b:=by unfold upd;rw[dh h]
theorem pM{H:Hp}{a:zW}{o u:HO}:upd (upd H a o) a u=upd H a u:=by funext b;unfold upd;split<;>rfl
theorem iI{H:Hp}{a b:zW}{o u:HO}(h:H a=some o)(h':H b=some u)(d:o≠u):a≠b:=by intro e;subst e;rw[h]at h';exact d (iX h')
theorem gO{H:Hp}{a b:zW}{o:HO}(h:H a=some o)(h':H b=none):a≠b:=by intro e;subst e;rw[h]at h';cases h'
section
variable(P:yB)(w:yD)
def A1h(H:Hp)(h:yA)(a:zW):HO->Prop
 |.lst c=>c.length<=sizeLine/\∃(b:zH)(n:Nat),A2k c b/\h.get? a=some {cls:=.type "list",data:=.seq b.toArray n}
 |.tup c=>c.length<=sizeLine/\∃b:zH,A2k c b/\IsTup h a b.toArray
 |.dK kvs=>kvs.length<=sizeLine/\(a==sysModules)=false/\∃j,KV kvs j/\h.DictOf (ig P w) a j
 |.dT kvs=>kvs.length<=sizeLine/\(a==sysModules)=false/\∃c:List (List Key×zW×zX),
   Paired (λ(p:List Key×V)(q:List Key×zW×zX)=>p.1=q.1/\H q.2.1=some (.tup (p.1.map kV))/\A2b p.2 q.2.2) kvs c/\
   ∃o g k,h.get? a=some o/\o.ExactDict/\o.data=.dict g k/\g.toList=c.map (entryOfKey (tupleKind (ig P w)))/\(c.map (·.1)).Nodup
 |.set S n=>h.SetOf (intKind P w) a S n
 |.ins C dx fs=>H dx=some (.own a)/\fs.length<=1000/\dx≠a/\h.get? a=some (instObj C dx)/\
   ∃d,h.Ns1 dx d/\(∀f,B0s (fs.lookup f) (d f))/\PySem.Within d (fs.map (·.1))
 |.own _=>∃o,h.get? a=some o
 |.xd fs=>∃d,h.Ns1 a d/\∀f,B0s (fs.lookup f) (d f)
 |.rng lo hi=>∃t u v,h.get? a=some {cls:=.type "range",data:=.fields #[.int lo t,.int hi u,.int 1 v]}
 |.frz o u=>h.get? a=some o/\A1h H h a u
 |.tbl ps=>h.get? a=some {cls:=.none,data:=.fields ps}
 |.met f x=>h.get? a=some (PySem.W.methodObj (.ref f) (.ref x))
 |.ext φ=>φ h/\(∃o,h.get? a=some o)/\∀e i:yA,φ e->(∀o,e.get? a=some o->i.get? a=some o)->φ i
def HOk(H:Hp)(h:yA):Prop:=∀a o,H a=some o->A1h P w H h a o
end
section
variable{P:yB}{w:yD}{H H':Hp}{h h':yA}{a:zW}{o:HO}
theorem A1h.lt(x:A1h P w H h a o):a<h.objs.size:=by
 cases o with
 |lst xs=>obtain⟨_,_,_,_,e⟩:=x;exact gC e
 |tup xs=>obtain⟨_,_,_,p⟩:=x;exact p.lt
 |dK kvs=>(refine kr x λ_ _ _ _ o _ _ e _=>?_;clear x);exact gC e
 |dT kvs=>(refine kr x λ_ _ _ _ o _ _ e _=>?_;clear x);exact gC e
 |set S n=>obtain⟨o,_,_,_,e,_⟩:=x;exact gC e
 |ins C dx fs=>obtain⟨_,_,_,e,_⟩:=x;exact gC e
 |own y=>obtain⟨_,e⟩:=x;exact gC e
 |xd fs=>obtain⟨_,⟨_,_,_,e,_⟩,_⟩:=x;exact gC e
 |rng lo hi=>obtain⟨_,_,_,e⟩:=x;exact gC e
 |frz ob u=>obtain⟨e,_⟩:=x;exact gC e
 |tbl ps=>exact gC (show h.get? a=some _ from x)
 |met f y=>exact gC (show h.get? a=some _ from x)
 |ext φ=>obtain⟨_,⟨_,e⟩,_⟩:=x;exact gC e
theorem Paired.mapP{α β:Type}{F G:α->β->Prop}:∀{c:List α}{d:List β},Paired F c d->(∀a b,F a b->G a b)->Paired G c d|_,_,.nil,_=>.nil|_,_,.cons r t,f=>.cons (f _ _ r) (Paired.mapP t f)
theorem A1h.stay(x:A1h P w H h a o)(k:∀b u,(b=a\/H b=some (.own a))->h.get? b=some u->h'.get? b=some u)
  (D:∀b,H b=some (.own a)->H' b=some (.own a)) (I:∀b xs,H b=some (.tup xs)->H' b=some (.tup xs)):A1h P w H' h' a o:=by
 induction o with
 |lst xs=>obtain⟨z,l,n,r,e⟩:=x;exact kW z l n r (k _ _ (.inl rfl) e)
 |tup xs=>obtain⟨z,l,r,g,e,c⟩:=x;exact⟨z,(gZ l r g (k _ _ (.inl rfl) e) c)⟩
 |dK kvs=>(refine kr x λz y G r g i j e c=>?_;clear x);exact jL z y G r (jw g i j (k _ _ (.inl rfl) e) c)
 |dT kvs=>refine kr x λz y xs r g i j e c=>?_;clear x;exact jL z y xs (Paired.mapP r λp q z=>(fI z.1 (I _ _ z.2.1) z.2.2)) (jw g i j (k _ _ (.inl rfl) e) c)
 |set S n=>obtain⟨g,i,j,t,e,c⟩:=x;exact⟨g,(jw i j t (k _ _ (.inl rfl) e) c)⟩
 |ins C dx fs=>refine wA x ?_;clear x;rintro d z B e ⟨m,⟨s,i,j,F,c⟩,r⟩;exact fI (D _ d) z (jL B (k _ _ (.inl rfl) e) m (jw s i j (k _ _ (.inr d) F) c) r)
 |own y=>obtain⟨g,e⟩:=x;exact⟨g,k _ _ (.inl rfl) e⟩
 |xd fs=>obtain⟨m,⟨s,i,j,e,c⟩,r⟩:=x;exact bd m (jw s i j (k _ _ (.inl rfl) e) c) r
 |rng lo hi=>obtain⟨t,u,v,e⟩:=x;exact⟨t,(iA u v (k _ _ (.inl rfl) e))⟩
 |frz g u ih=>obtain⟨e,q⟩:=x;exact⟨k _ _ (.inl rfl) e,ih q⟩
 |tbl ps=>have e:h.get? a=some {cls:=.none,data:=.fields ps}:=x;show h'.get? a=some {cls:=.none,data:=.fields ps};exact k a _ (.inl rfl) e
 |met f y=>have e:h.get? a=some (PySem.W.methodObj (.ref f) (.ref y)):=x;show h'.get? a=some (PySem.W.methodObj (.ref f) (.ref y));exact k a _ (.inl rfl) e
 |ext φ=>obtain⟨p,⟨o,e⟩,A⟩:=x;exact fI (A _ _ p λo q=>k _ _ (.inl rfl) q) ⟨o,k _ _ (.inl rfl) e⟩ A
theorem HOk.lt(x:HOk P w H h)(e:H a=some o):a<h.objs.size:=(x a o e).lt
theorem HOk.fresh(x:HOk P w H h)(e:h.objs.size<=a):H a=none:=by
 cases q:H a with
 |none=>rfl
 |some u=>exact absurd (jE (x.lt q) e) (Nat.lt_irrefl _)
theorem HOk.kept(x:HOk P w H h)(k:∀b u,h.get? b=some u->h'.get? b=some u):HOk P w H h':=λa o e=>(x a o e).stay (λb u _ q=>k b u q) (λ_ q=>q) λ_ _ q=>q
theorem HOk.laid(x:HOk P w H h)(k:∀b u,h.get? b=some u->h'.get? b=some u)(g:h.objs.size<=a)(d:A1h P w (upd H a o) h' a o):HOk P w (upd H a o) h':=λb u e=>by
 have f:=x.fresh g;by_cases hb:b=a
 ·subst hb;rw[ck]at e;cases e;exact d
 ·rw[dt hb]at e;exact(x b u e).stay (λc v _ q=>k c v q) (λc q=>by rw[dt (gO q f)];exact q) λc i q=>by rw[dt (gO q f)];exact q
end
def Rd(H:Hp)(a:zW)(u:HO):Prop:=H a=some u\/∃o,H a=some (.frz o u)
theorem Rd.ok{P:yB}{w:yD}{H:Hp}{h:yA}{a:zW}{u:HO}(r:Rd H a u)(x:HOk P w H h):A1h P w H h a u:=by
 rcases r with r|⟨o,r⟩
 ·exact x a u r
 ·obtain⟨_,q⟩:=x a _ r;exact q
def Mut:Option HO->Prop|some (.lst _)=>True|some (.dK _)=>True|some (.dT _)=>True|some (.set _ _)=>True|some (.ins _ _ _)=>True|some (.ext _)=>True|_=>False
section
variable{P:yB}{w:yD}{H:Hp}{h h':yA}{x e:zW}{o':HO}
theorem HOk.write(ok:HOk P w H h)(g:Mut (H x))(n:e=x\/H e=some (.own x))(k:∀b u,b≠e->h.get? b=some u->h'.get? b=some u)(l:∃u,h'.get? e=some u)
  (j:A1h P w (upd H x o') h' x o'):HOk P w (upd H x o') h':=λb u q=>by
 have a:∀c y,H c=some (.own y)->c≠x:=λc y r z=>by subst z;rw[r]at g;exact g
 have d:∀c i,H c=some (.tup i)->c≠x:=λc i r z=>by subst z;rw[r]at g;exact g
 by_cases hb:b=x
 ·subst hb;rw[ck]at q;cases q;exact j
 ·rw[dt hb]at q;by_cases hbe:b=e
  ·have m:H b=some (.own x):=by
    rcases n with z|z
    ·exact absurd (hbe.trans z) hb
    ·rw[hbe];exact z
   rw[q]at m;cases m;obtain⟨v,o⟩:=l;exact⟨v,by rw[hbe];exact o⟩
  ·refine(ok b u q).stay (λc v f r=>k c v ?_ r) (λc r=>by rw[dt (a c b r)];exact r) λc i r=>by rw[dt (d c i r)];exact r
   rcases f with rfl|f
   ·exact hbe
   ·rintro rfl;rcases n with z|z
    ·exact a c b f z
    ·rw[f]at z;cases z;exact hb rfl
end
structure Un(fs ex:zQ)(H H':Hp)(h h':yA):Prop where
 keep:∀b o,h.get? b=some o->H b=none->b∉fs->b∉ex->h'.get? b=some o
 slot:∀b o,h.get? b=some o->H b=none->b∈fs->b∉ex->∃sl,h'.get? b=some {o with slots:=sl}
 free:∀b o,h.get? b=some o->H b=none->b∉ex->H' b=none
 there:∀b o,h.get? b=some o->b∉ex->∃o',h'.get? b=some o'
 tups:∀b xs,H b=some (.tup xs)->H' b=some (.tup xs)
 frzs:∀b o u,H b=some (.frz o u)->H' b=some (.frz o u)
 tbls:∀b ps,H b=some (.tbl ps)->∃more,H' b=some (.tbl (ps++more))
section
variable{fs fs' ex ex':zQ}{H H1 H2:Hp}{h h1 h2 h':yA}{a x e:zW}{o:HO}
theorem Un.any(u:Un fs ex H H1 h h1){b:zW}{a:Obj}(q:h.get? b=some a)(n:H b=none)(c:b∉ex):∃sl,h1.get? b=some {a with slots:=sl}:=by
 by_cases hb:b∈fs
 ·exact u.slot b a q n hb c
 ·exact⟨a.slots,u.keep b a q n hb c⟩
theorem Un.kept(k:∀b u,h.get? b=some u->h'.get? b=some u):Un fs ex H H h h' :=⟨λb a q _ _ _=>k b a q,λb a q _ _ _=>⟨a.slots,k b a q⟩,λ_ _ _ n _=>n,λb a q _=>⟨a,k b a q⟩,λ_ _ q=>q,λ_ _ _ q=>q,λ_ c q=>⟨#[],by rw[q];simp⟩⟩
theorem Un.refl:Un fs ex H H h h:=Un.kept λ_ _ q=>q
theorem Un.laid(k:∀b u,h.get? b=some u->h'.get? b=some u)(c:h.objs.size<=a)(hn:H a=none):Un fs ex H (upd H a o) h h' where
 keep:=λb u q _ _ _=>k b u q
 slot:=λb u q _ _ _=>⟨u.slots,k b u q⟩
 free:=λb u q n _=>by rw[dt (iy (jE (gC q) c))];exact n
 there:=λb u q _=>⟨u,k b u q⟩
 tups:=λb d q=>by rw[dt (gO q hn)];exact q
 frzs:=λb u d q=>by rw[dt (gO q hn)];exact q
 tbls:=λb e q=>⟨#[],by rw[dt (gO q hn),q];simp⟩
theorem Un.write(a:Mut (H x))(j:e=x\/H e=some (.own x))(k:∀b u,b≠e->h.get? b=some u->h'.get? b=some u)(c:∃u,h'.get? e=some u):Un fs ex H (upd H x o) h h':=by
 have f:∀b,H b=none->b≠x:=λb n z=>by subst z;rw[n]at a;exact a
 have g:∀b,H b=none->b≠e:=λb n z=>by
  subst z;rcases j with r|r
  ·exact f b n r
  ·rw[n]at r;cases r
 have d:∀b u,H b=some u->¬Mut (some u)->b≠x:=λb u q i z=>by subst z;rw[q]at a;exact i a
 refine⟨λb u q n _ _=>k b u (g b n) q,λb u q n _ _=>⟨u.slots,k b u (g b n) q⟩,λb u q n _=>by rw[dt (f b n)];exact n,λb u q _=>?_,
  λb l q=>by rw[dt (d b _ q λz=>z)];exact q,λb u l q=>by rw[dt (d b _ q λz=>z)];exact q,λb m q=>⟨#[],by rw[dt (d b _ q λz=>z),q];simp⟩⟩
 by_cases hbe:b=e
 ·subst hbe;exact c
 ·exact⟨u,k b u hbe q⟩
end
def trk(h:yA)(H:Hp):zQ:=(List.range h.objs.size).filter λa=>(H a).isSome
def oG(h:yA)(H:Hp):yA:=hideAll h (trk h H)
theorem Gn(h:yA)(H:Hp):(oG h H).objs.size=h.objs.size:=PySem.W.hideAll_size _ _
theorem Ff{h:yA}{H:Hp}{b:zW}{o:Obj}(e:h.get? b=some o)(n:H b=none):(oG h H).get? b=some o :=PySem.W.hideAll_get _ e λa=>by have q:(H b).isSome=true:=(List.mem_filter.mp a).2;rw[n]at q;simp at q
theorem Ek{h:yA}{H:Hp}{b:zW}{o:Obj}(e:(oG h H).get? b=some o):h.get? b=some o/\H b=none:=by
 have a:h.get? b=some o:=PySem.W.of_hideAll (trk h H) e;refine⟨a,?_⟩
 cases q:H b with
 |none=>rfl
 |some x=>have c:b∈trk h H:=List.mem_filter.mpr ⟨List.mem_range.mpr (gC a),by simp[q]⟩;have z:(oG h H).get? b=none:=PySem.W.hideAll_none (trk h H) c;rw[z]at e;cases e
structure Mod(K:Frag)(mg:zE)(base:yA):Prop where
 kin:K.In base
 glob:base.Ns mainGlobals mg
 blt:∃mb,base.Ns builtinsNs mb/\∀x:Str,x≠"__name__"->mb x=bootBuiltins x
 nolimit:base.NoLimit
structure Cx where
 prog:yB
 w:yD
 K:Frag
 mg:Str->Option zX
 base:yA
 A:zZ
 N:zC
 s₀:zY
 H₀:Hp
 env:Env
 outer:List Env
 stack:List Env
 ex:zQ
 fn:Str->Bool
 calm:Bool
 pn:zD
 xe:zX->zY->Prop
def frs(l:List Env):zQ:=l.filterMap (·.frame)
abbrev Cx.fs(X:Cx):zQ:=frs X.outer
def Vis(a:Scope)(x:Str):Prop:=a.names.lookup x=some .local\/a.names.lookup x=some .cell\/a.names.lookup x=some .free
def Loc(a:Scope)(x:Str):Prop:=a.names.lookup x=some .local\/a.names.lookup x=some .cell
def Look(env:Env)(h:yA)(m:zE)(x:Str)(u:zX):Prop :=(env.kindOf x=some .local/\m x=some u)\/((env.kindOf x=some .cell\/env.kindOf x=some .free)/\∃c,env.cells.lookup x=some c/\h.IsCell c (some u))
structure Cx.Ok(X:Cx):Prop where
 mod:Mod X.K X.mg X.base
 kind:X.env.scope.kind=.function
 glob:X.env.globals=mainGlobals
 blt:X.env.builtins=builtinsNs
 above:X.s₀.heap.objs.size<=X.env.locals
 inj:∀x y c,X.env.cells.lookup x=some c->X.env.cells.lookup y=some c->x=y
 has:∀x,(X.env.kindOf x=some .cell\/X.env.kindOf x=some .free)->∃c,X.env.cells.lookup x=some c
 cab:∀x c,X.fn x=true->X.env.cells.lookup x=some c->X.s₀.heap.objs.size<=c
 hd:X.calm=true->X.A.handled=none
 frames:X.A.frames=some X.stack
 stk:X.stack=X.outer\/(X.stack=X.env::X.outer/\X.env.frame=some X.env.locals)
 exf:∀b∈X.ex,b≠X.env.locals/\∀x c,X.env.cells.lookup x=some c->c≠b
 bs:∀b o,X.base.get? b=some o->X.s₀.heap.get? b=some o/\X.H₀ b=none
 bsz:X.base.objs.size<=X.s₀.heap.objs.size
 noex:∀b o,X.base.get? b=some o->b∉X.ex
 exfs:∀b∈X.ex,b∉X.fs
 funs:X.s₀.heap.FunFrames X.base X.outer
 frf:∀b∈X.fs,X.H₀ b=none
structure Inv(X:Cx)(pins:zD)(Z:List zP)(H:Hp)(s:zY):Prop where
 ok:X.Ok
 os:s.os=X.s₀.os
 bare:AllBare s.gens
 base:Un X.fs X.ex X.H₀ H X.s₀.heap s.heap
 loc:∃m,s.heap.Ns X.env.locals m/\∀(i:Nat)(x:Str)(v:V),X.N[i]?=some x->Z[i]?=some (some v)->Vis X.env.scope x->∃u,A2b v u/\Look X.env s.heap m x u
 cell:∀x c,X.env.cells.lookup x=some c->∃v,s.heap.IsCell c v
 free:H X.env.locals=none
 freeC:∀x c,X.env.cells.lookup x=some c->H c=none
 pin:∀p∈X.pn++pins,s.heap.get? p.1=some p.2/\H p.1=none/\p.1≠X.env.locals/\p.1∉X.fs/\∀v,p.2.data≠.cell v
 hok:HOk X.prog X.w H s.heap
 len:Z.length=X.N.length
section
variable{X:Cx}{pins:zD}{Z:List zP}{H H':Hp}{s:zY}{h':yA}
theorem Cx.Ok.nofr(ok:X.Ok){b:zW}{o:Obj}(e:X.base.get? b=some o):b∉X.fs:=λa=>by have:=(ok.funs.mem a).1;rw[e]at this;cases this
theorem Inv.bs(I:Inv X pins Z H s):∀b o,X.base.get? b=some o->s.heap.get? b=some o/\H b=none:=λb o e=>⟨I.base.keep b o (I.ok.bs b o e).1 (I.ok.bs b o e).2 (I.ok.nofr e) (I.ok.noex b o e),I.base.free b o (I.ok.bs b o e).1 (I.ok.bs b o e).2 (I.ok.noex b o e)⟩
theorem Inv.bk(I:Inv X pins Z H s):∀b o,X.base.get? b=some o->s.heap.get? b=some o:=λb o e=>(I.bs b o e).1
theorem Inv.mod(I:Inv X pins Z H s):Mod X.K X.mg X.base:=I.ok.mod
theorem Inv.kIn(I:Inv X pins Z H s):X.K.In s.heap:=I.ok.mod.kin.keeps I.bk
theorem Inv.lt(I:Inv X pins Z H s):X.env.locals<s.heap.objs.size:=let⟨_,hn,_⟩:=I.loc;hn.lt
theorem Inv.sz(I:Inv X pins Z H s):X.s₀.heap.objs.size<=s.heap.objs.size:=jT I.ok.above (Nat.le_of_lt I.lt)
theorem Inv.nofs(I:Inv X pins Z H s){a:zW}(h:s.heap.objs.size<=a):a∉X.fs:=λb=>by obtain⟨_,o,c,_⟩:=I.ok.funs.mem b;exact absurd (jE (gC c) (jT I.sz h)) (Nat.lt_irrefl _)
theorem Inv.cne(I:Inv X pins Z H s):∀x c,X.env.cells.lookup x=some c->c≠X.env.locals:=λx c e z=>by obtain⟨v,o,d,f⟩:=I.cell x c e;obtain⟨m,⟨i,g,h,b,a,_⟩,_⟩:=I.loc;rw[z,b]at d;cases d;rw[a]at f;cases f
theorem Inv.funs(I:Inv X pins Z H s):s.heap.FunFrames X.base X.outer:=by
 have a:∀(l:List Env),(∀b∈frs l,b∈X.fs)->X.s₀.heap.FunFrames X.base l->s.heap.FunFrames X.base l:=by
  intro l
  induction l with
  |nil=>intro _ _;trivial
  |cons env r ih=>intro g h;obtain⟨n,⟨L,o,f,k,j,m⟩,i⟩:=h;have c:L∈X.fs:=g L (by unfold frs;rw[List.filterMap_cons,f];exact kX);obtain⟨p,e⟩:=I.base.slot L o j (I.ok.frf L c) c λz=>I.ok.exfs L z c;exact fI n (gL L _ f k e m) (ih (λb d=>g b (by unfold frs;rw[List.filterMap_cons,f];exact jZ _ d)) i)
 exact a X.outer (λ_ d=>d) I.ok.funs
theorem Inv.stack(I:Inv X pins Z H s):s.heap.FunFrames X.base X.stack:=by
 rcases I.ok.stk with e|⟨e,a⟩
 ·rw[e];exact I.funs
 ·rw[e];obtain⟨m,b,_⟩:=I.loc;refine .cons (by rw[I.ok.kind];decide) a b ?_ I.funs;exact Heap.get?_none_of_le (jT I.ok.bsz I.ok.above)
theorem Inv.stkSub(I:Inv X pins Z H s):∀b∈frs X.stack,b∈X.env.locals::X.fs:=λb a=>by
 rcases I.ok.stk with e|⟨e,c⟩
 ·rw[e]at a;exact jZ _ a
 ·rw[e]at a;unfold frs at a;rw[List.filterMap_cons,c]at a;exact a
theorem Inv.stkFree(I:Inv X pins Z H s):∀b∈frs X.stack,H b=none:=λb a=>by
 rcases gP.mp (I.stkSub b a)with e|a
 ·rw[e];exact I.free
 ·obtain⟨_,o,c,_⟩:=I.ok.funs.mem a;exact I.base.free b o c (I.ok.frf b a) λz=>I.ok.exfs b z a
theorem Inv.step{g':Array GenState}{t':Nat}{d':Drawn}{ch:zQ}(I:Inv X pins Z H s)
  (j:∀b∈ch,(b∈X.ex\/X.s₀.heap.objs.size<=b)/\b≠X.env.locals/\(∀x c,X.env.cells.lookup x=some c->c≠b)/\∀p∈X.pn++pins,p.1≠b)
  (t:∀b o,b≠X.env.locals->b∉X.fs->b∉ch->s.heap.get? b=some o->H b=none->h'.get? b=some o)
  (B:∀b o,b≠X.env.locals->b∈X.fs->b∉ch->s.heap.get? b=some o->H b=none->∃sl,h'.get? b=some {o with slots:=sl}) (f:∀b o,b∉ch->s.heap.get? b=some o->H b=none->H' b=none)
  (C:∀b o,b∉ch->s.heap.get? b=some o->∃o',h'.get? b=some o')
  (N:∀b xs,H b=some (.tup xs)->H' b=some (.tup xs)) (L:∀b o u,H b=some (.frz o u)->H' b=some (.frz o u)) (K:∀b ps,H b=some (.tbl ps)->∃J,H' b=some (.tbl (ps++J)))
  (U:∀m,s.heap.Ns X.env.locals m->h'.Ns X.env.locals m) (O:HOk X.prog X.w H' h') (hg:AllBare g'):
  Inv X pins Z H' {s with heap:=h',gens:=g',drawn:=d',toks:=t'}:=by
 have M:∀b o,X.s₀.heap.get? b=some o->b≠X.env.locals:=λb o e=>iy (jE (gC e) I.ok.above)
 have A:∀b o,X.s₀.heap.get? b=some o->b∉X.ex->b∉ch:=λb o e a D=>by
  rcases(j b D).1 with z|z
  ·exact a z
  ·exact absurd (jE (gC e) z) (Nat.lt_irrefl _)
 have g:∀x c,X.env.cells.lookup x=some c->∀v,s.heap.IsCell c v->h'.IsCell c v:=λx c e v ⟨o,F,P⟩=>by
  have h:c∉ch:=λz=>(j c z).2.2.1 x c e rfl;by_cases hc:c∈X.fs
  ·obtain⟨sl,q⟩:=B c o (I.cne x c e) hc h F (I.freeC x c e);exact bd _ q P
  ·exact bd o (t c o (I.cne x c e) hc h F (I.freeC x c e)) P
 refine⟨I.ok,I.os,hg,⟨λb o e n D a=>?_,λb o e n D a=>?_,λb o e n a=>?_,λb o e a=>?_,λb xs e=>N b xs (I.base.tups b xs e),λb o xs e=>L b o xs (I.base.frzs b o xs e),λb ps e=>?_⟩,?_,λx c e=>?_,?_,λx c e=>?_,λp T=>?_,O,I.len⟩
 ·exact t b o (M b o e) D (A b o e a) (I.base.keep b o e n D a) (I.base.free b o e n a)
 ·obtain⟨sl,y⟩:=I.base.slot b o e n D a;obtain⟨Q,G⟩:=B b _ (M b o e) D (A b o e a) y (I.base.free b o e n a);exact⟨Q,G⟩
 ·obtain⟨o',y⟩:=I.base.there b o e a;exact f b o' (A b o e a) y (I.base.free b o e n a)
 ·obtain⟨o',y⟩:=I.base.there b o e a;exact C b o' (A b o e a) y
 ·obtain⟨m1,y⟩:=I.base.tbls b ps e;obtain⟨W,G⟩:=K b _ y;exact⟨m1++W,by rw[G,Array.append_assoc]⟩
 ·obtain⟨m,hn,E⟩:=I.loc;refine bd m (U m hn) λi x v y G Y=>?_;obtain⟨u,r,l⟩:=E i x v y G Y;refine bd u r ?_;rcases l with l|⟨k,c,e,z⟩
  ·exact .inl l
  ·exact .inr (iB k c e (g x c e _ z))
 ·obtain⟨v,z⟩:=I.cell x c e;exact⟨v,g x c e v z⟩
 ·obtain⟨m,⟨o,_,_,F,_⟩,_⟩:=I.loc;exact f _ o (λz=>(j _ z).2.1 rfl) F I.free
 ·obtain⟨v,o,F,P⟩:=I.cell x c e;exact f c o (λz=>(j c z).2.2.1 x c e rfl) F (I.freeC x c e)
 ·obtain⟨e,n,R,S,d⟩:=I.pin p T;have h:p.1∉ch:=λz=>(j p.1 z).2.2.2 p T rfl;exact iT (t p.1 p.2 R S h e n) (f p.1 p.2 h e n) R S d
theorem Inv.un{t':Nat}(I:Inv X pins Z H s)(u:Un X.fs [] H H' s.heap h')(g:HOk X.prog X.w H' h'):Inv X pins Z H' {s with heap:=h',toks:=t'}:=by
 obtain⟨m,⟨o,l,t,h,r⟩,_⟩:=id I.loc;obtain⟨v,i⟩:=u.any h I.free (by simp)
 exact I.step (g':=s.gens) (d':=s.drawn) (ch:=[]) (λ_ z=>nomatch z) (λb o _ d _ e n=>u.keep b o e n d (by simp)) (λb o _ d _ e n=>u.slot b o e n d (by simp)) (λb o _ e n=>u.free b o e n (by simp)) (λb o _ e=>u.there b o e (by simp)) u.tups u.frzs u.tbls (λq k=>by
  obtain⟨p,c,f,a,j⟩:=k;rw[h]at a;cases a
  exact jw _ c f i j) g I.bare
theorem Inv.call{g':Array GenState}{t':Nat}{d':Drawn}{ch:zQ}(I:Inv X pins Z H s)(u:Un (frs X.stack) ch H H' s.heap h')(j:HOk X.prog X.w H' h')(v:AllBare g')
  (d:∀b∈ch,(b∈X.ex\/X.s₀.heap.objs.size<=b)/\b≠X.env.locals/\(∀x c,X.env.cells.lookup x=some c->c≠b)/\∀p∈X.pn++pins,p.1≠b):
  Inv X pins Z H' {s with heap:=h',gens:=g',drawn:=d',toks:=t'}:=by
 obtain⟨m,⟨o,y,C,k,r⟩,_⟩:=id I.loc;obtain⟨D,h⟩:=u.any k I.free λz=>(d _ z).2.1 rfl
 exact I.step (ch:=ch) d (λb o h t a e n=>u.keep b o e n (λz=>(gP.mp (I.stkSub b z)).elim h t) a) (λb o _ _ a e n=>u.any e n a) (λb o a e n=>u.free b o e n a) (λb o a e=>u.there b o e a) u.tups u.frzs u.tbls (λB q=>by
  obtain⟨A,g,i,f,l⟩:=q;rw[k]at f;cases f
  exact jw _ g i h l) j v
theorem Inv.turned{t':Nat}{it:zW}(I:Inv X pins Z H s)(k:∀b o,b≠it->s.heap.get? b=some o->h'.get? b=some o)(hn:H it=none)(f:it≠X.env.locals)
  (h1:it∈X.ex\/X.s₀.heap.objs.size<=it) (h2:∀x c,X.env.cells.lookup x=some c->c≠it) (i:∀p∈X.pn++pins,p.1≠it):Inv X pins Z H {s with heap:=h',toks:=t'}:=by
 have d:∀b u,H b=some u->b≠it:=λb u e z=>by rw[z,hn]at e;cases e
 refine I.step (g':=s.gens) (d':=s.drawn) (ch:=[it]) (λb l=>?_) (λb o _ _ a e _=>k b o (λz=>a (by simp[z])) e) (λb o _ _ a e _=>⟨o.slots,k b o (λz=>a (by simp[z])) e⟩) (λ_ _ _ _ n=>n)
  (λb o a e=>⟨o,k b o (λz=>a (by simp[z])) e⟩) (λ_ _ e=>e) (λ_ _ _ e=>e) (λb w e=>⟨#[],by rw[e];simp⟩) (λm j=>?_) (λb u e=>?_) I.bare
 ·have e:b=it:=by simpa using l
  subst e;exact jx h1 f h2 i
 ·obtain⟨o,g,t,h,r⟩:=j;exact jw o g t (k _ o (Ne.symm f) h) r
 ·refine(I.hok b u e).stay (λc v a q=>k c v ?_ q) (λ_ q=>q) λ_ _ q=>q;rcases a with z|z
  ·rw[z];exact d b u e
  ·exact d c _ z
theorem Inv.tok(I:Inv X pins Z H s)(t:Nat):Inv X pins Z H {s with toks:=t}:=I.un (h':=s.heap) (t':=t) Un.refl I.hok
theorem Inv.kept{t':Nat}(I:Inv X pins Z H s)(k:∀b u,s.heap.get? b=some u->h'.get? b=some u):Inv X pins Z H {s with heap:=h',toks:=t'}:=I.un (Un.kept k) (I.hok.kept k)
theorem Inv.laid{a:zW}{o:HO}{t':Nat}(I:Inv X pins Z H s)(k:∀b u,s.heap.get? b=some u->h'.get? b=some u)(c:s.heap.objs.size<=a)(d:A1h X.prog X.w (upd H a o) h' a o):
  Inv X pins Z (upd H a o) {s with heap:=h',toks:=t'}:=I.un (Un.laid k c (I.hok.fresh c)) (I.hok.laid k c d)
theorem Inv.write{x e:zW}{o:HO}{t':Nat}(I:Inv X pins Z H s)(f:Mut (H x))(d:e=x\/H e=some (.own x))(k:∀b u,b≠e->s.heap.get? b=some u->h'.get? b=some u)(a:∃u,h'.get? e=some u)
  (c:A1h X.prog X.w (upd H x o) h' x o):Inv X pins Z (upd H x o) {s with heap:=h',toks:=t'}:=I.un (Un.write f d k a) (I.hok.write f d k a c)
theorem Inv.weak{Z':List zP}(I:Inv X pins Z H s)(a:Z'.length=Z.length)(w:∀(i:Nat) v,Z'[i]?=some (some v)->Z[i]?=some (some v)):Inv X pins Z' H s :=⟨I.ok,I.os,I.bare,I.base,let⟨m,hn,hl'⟩:=I.loc;(bd m hn λi x v c b d=>hl' i x v c (w i v b) d),I.cell,I.free,I.freeC,I.pin,I.hok,a.trans I.len⟩
theorem Inv.pins_of{a:zD}(I:Inv X pins Z H s)(h:∀p∈a,s.heap.get? p.1=some p.2/\H p.1=none/\p.1≠X.env.locals/\p.1∉X.fs/\∀v,p.2.data≠.cell v):Inv X a Z H s :=⟨I.ok,I.os,I.bare,I.base,I.loc,I.cell,I.free,I.freeC,λp b=>(jn.mp b).elim (λz=>I.pin p (mT _ z)) (h p),I.hok,I.len⟩
theorem vJ{N:zC}(d:N.Nodup){i j:Nat}{x:Str}(a:N[i]?=some x)(b:N[j]?=some x):i=j:=by obtain⟨f,c⟩:=gG.mp a;obtain⟨g,e⟩:=gG.mp b;exact(List.getElem_inj d).mp (c.trans e.symm)
theorem AW{M:Model}{A:zZ}{E:zA}{i:Nat}{x:Str}{v:V}{u:zX}{Q:Unit->zY->Prop}(I:Inv X pins Z H s)(hN:X.N.Nodup)(hi:X.N[i]?=some x)(B:Loc X.env.scope x)(r:A2b v u)
  (h:∀s',Inv X pins (Z.set i (some v)) H s'->(∃a,Heap.SameBut a s.heap s'.heap/\(a=X.env.locals\/X.env.cells.lookup x=some a))->Q () s') (hf:X.fn x=true\/X.env.scope.names.lookup x=some .local:=by first|exact .inl rfl|exact .inr rfl|assumption):wpAny M A (storeName X.env x u) Q E s:=by
 obtain⟨m,hn,hl⟩:=id I.loc;have P:(X.env.scope.kind==.class||(X.env.scope.kind==.module&&X.env.locals != X.env.globals))=false:=by rw[I.ok.kind];rfl
 have R:i<Z.length:=by rw[I.len];exact(gG.mp hi).1
 have K:=I.cne
 have l:∀{a:zW}{h':yA},(∃o,s.heap.get? a=some o/\H a=none)->Heap.SameBut a s.heap h'->HOk X.prog X.w H h':=λ{a h'} ha f b ob e=>by
  obtain⟨_,_,C⟩:=ha;refine(I.hok b ob e).stay (λc W t q=>(f.2 c ?_).trans q) (λ_ q=>q) λ_ _ q=>q;rintro rfl;rcases t with rfl|t
  ·rw[C]at e;cases e
  ·rw[C]at t;cases t
 rcases B with F|F
 ·refine wpAny_storeName_local F hn (λh' a1 f=>?_) P;obtain⟨oL,_,_,a0,_⟩:=id hn;refine h _ ⟨I.ok,I.os,I.bare,⟨λb o e n J B=>?_,λb o e n J B=>?_,I.base.free,λb o e B=>?_,I.base.tups,I.base.frzs,I.base.tbls⟩,(bd _ a1 λj y Y g D e3=>?_),λy c e=>?_,I.free,I.freeC,λp hp=>?_,l (bd oL a0 I.free) f,by simpa using I.len⟩ (bd _ f (.inl rfl))
  ·exact(f.2 b (iy (jE (gC e) I.ok.above))).trans (I.base.keep b o e n J B)
  ·obtain⟨sl,g⟩:=I.base.slot b o e n J B;exact⟨sl,(f.2 b (iy (jE (gC e) I.ok.above))).trans g⟩
  ·obtain⟨o',g⟩:=I.base.there b o e B;exact⟨o',(f.2 b (iy (jE (gC e) I.ok.above))).trans g⟩
  ·by_cases hj:j=i
   ·subst hj;rw[hi]at g;cases g;rw[rR R]at D;cases D;exact bd u r (.inl ⟨F,by simp⟩)
   ·rw[rO (Ne.symm hj)]at D;obtain⟨u',r',q⟩:=hl j y Y g D e3;refine bd u' r' ?_;rcases q with ⟨k,e⟩|⟨k,c,e,z⟩
    ·refine .inl ⟨k,?_⟩;have:y≠x:=λe=>hj (vJ hN g (e▸hi));simp[this,e]
    ·exact .inr (iB k c e (z.sameBut f (K y c e)))
  ·obtain⟨W,z⟩:=I.cell y c e;exact⟨W,z.sameBut f (K y c e)⟩
  ·obtain⟨e,n,T,nf,d⟩:=I.pin p hp;exact iT ((f.2 p.1 T).trans e) n T nf d
 ·have G:X.fn x=true:=by
   rcases hf with z|z
   ·exact z
   ·rw[z]at F;cases F
  obtain⟨c,t⟩:=I.ok.has x (.inl F);obtain⟨W,z⟩:=I.cell x c t;refine wpAny_storeName_cell I.ok.kind F t z (λh' O f=>?_);obtain⟨oc,S,L⟩:=id z;refine h {s with heap:=h'} ⟨I.ok,I.os,I.bare,⟨λb o e n J B=>?_,λb o e n J B=>?_,I.base.free,λb o e B=>?_,I.base.tups,I.base.frzs,I.base.tbls⟩,(bd m (hn.sameBut f (Ne.symm (K x c t))) λj y Y g D e3=>?_),λy U e=>?_,I.free,I.freeC,λp hp=>?_,l (bd oc S (I.freeC x c t)) f,by simpa using I.len⟩ (bd c f (.inr t))
  ·exact(f.2 b (iy (jE (gC e) (I.ok.cab x c G t)))).trans (I.base.keep b o e n J B)
  ·obtain⟨sl,g⟩:=I.base.slot b o e n J B;exact⟨sl,(f.2 b (iy (jE (gC e) (I.ok.cab x c G t)))).trans g⟩
  ·obtain⟨o',g⟩:=I.base.there b o e B;exact⟨o',(f.2 b (iy (jE (gC e) (I.ok.cab x c G t)))).trans g⟩
  ·by_cases hj:j=i
   ·subst hj;rw[hi]at g;cases g;rw[rR R]at D;cases D;exact bd u r (.inr (iB (.inl F) c t O))
   ·rw[rO (Ne.symm hj)]at D;obtain⟨u',r',q⟩:=hl j y Y g D e3;refine bd u' r' ?_;rcases q with q|⟨k,U,e,z'⟩
    ·exact .inl q
    ·refine .inr (iB k U e (z'.sameBut f ?_));rintro rfl;exact hj (vJ hN g (I.ok.inj _ _ _ e t▸hi))
  ·by_cases hcc:U=c
   ·subst hcc;exact⟨_,O⟩
   ·obtain⟨w2,z2⟩:=I.cell y U e;exact⟨w2,z2.sameBut f hcc⟩
  ·obtain⟨e,n,T,nf,d⟩:=I.pin p hp;refine iT ((f.2 p.1 ?_).trans e) n T nf d;intro q;rw[q,S]at e;have q':oc=p.2:=iX e;exact d W (by rw[<-q'];exact L)
theorem rf{M:Model}{A:zZ}{E:zA}{i:Nat}{x:Str}{v:V}{u:zX}{Q:Unit->zY->Prop}(I:Inv X pins Z H s)(b:X.N.Nodup)(hi:X.N[i]?=some x)(c:Loc X.env.scope x)(r:A2b v u)
  (h:∀s',Inv X pins (Z.set i (some v)) H s'->Q () s') (a:X.fn x=true\/X.env.scope.names.lookup x=some .local:=by first|exact .inl rfl|exact .inr rfl|assumption):wpAny M A (storeName X.env x u) Q E s :=
 AW I b hi c r (λs' I' _=>h s' I') a
theorem Inv.call'{s':zY}{ch:zQ}(I:Inv X pins Z H s)(g:s'.os=s.os)(u:Un (frs X.stack) ch H H' s.heap s'.heap)(a:HOk X.prog X.w H' s'.heap)(f:AllBare s'.gens)
  (d:∀b∈ch,(b∈X.ex\/X.s₀.heap.objs.size<=b)/\b≠X.env.locals/\(∀x c,X.env.cells.lookup x=some c->c≠b)/\∀p∈X.pn++pins,p.1≠b):Inv X pins Z H' s':=by
 obtain⟨i,g',d',t',h⟩:=s';have e:h=s.os:=g;subst e;exact I.call (g':=g') (t':=t') (d':=d') u a f d
end
abbrev XK:=zX->Option zW->Hp->Prop
abbrev St:=List zP
abbrev VK:=V->Hp->Prop
abbrev TE:=St->Hp->VK->Prop
abbrev TT:=St->Hp->(Bool->Hp->Prop)->Prop
abbrev TA:=St->Hp->(zM->Hp->Prop)->Prop
variable{α:Type}{ys xs dvs:zM}{y:V}{x qual name m:Str}{w:yD}{value tg l iter c b:yC}{v u pm oc ct cd:zX}{tv to tl tc ta:TE}{tpos pos' p kpos apos:Pos}{tn:Nat->yA->Prop}{tk:TA}{tB' tA:TT}{s1 s' s:zY}{r:zM->Hp->VK->Prop}{ps ks N:zC}{prog P:yB}{pins:zD}{op:CmpOp}{od an:zO}{nm:Option Str}{n j i:Nat}{mA:zE}{lo hi:Int}{kws:List Keyword}{it dx a C:zW}{h' h:yA}{gV:zM->List V->List V}{fd:zS}{env:Env}{ds:zH}{Z:St}{X:Cx}{e:yC}{es:zT}{te:TE}{t:TA}{pos:Pos}{T:String}{Q E:zA}{M:Model}{K:Frag}{H' H:Hp}{A:zZ}
structure kR where
 nx:St->Hp->Prop
 rt:VK
 bk:St->Hp->Prop:=λ_ _=>False
 ct:St->Hp->Prop:=λ_ _=>False
abbrev TS:=kR->St->Hp->Prop
def EP(X:Cx)(pins:zD)(Z:St)(Q:VK)(u:zX)(s':zY):Prop:=∃v a,Inv X pins Z a s'/\A2b v u/\Q v a
def TP(X:Cx)(pins:zD)(Z:St)(Q:Bool->Hp->Prop)(b:Bool)(s':zY):Prop:=∃a,Inv X pins Z a s'/\Q b a
def AP(X:Cx)(pins:zD)(Z:St)(Q:zM->Hp->Prop)(us:zH)(s':zY):Prop:=∃b a,Inv X pins Z a s'/\A2k b us/\Q b a
def SP(X:Cx)(pins:zD)(D:kR)(f:Flow)(s':zY):Prop :=
 match f with
 |.next=>∃Z' a,Inv X pins Z' a s'/\D.nx Z' a
 |.brk=>∃Z' a,Inv X pins Z' a s'/\D.bk Z' a
 |.cont=>∃Z' a,Inv X pins Z' a s'/\D.ct Z' a
 |.ret u=>∃v Z' a,Inv X pins Z' a s'/\A2b v u/\D.rt v a
def PE(X:Cx)(e:yC)(t:TE):Prop :=∀(a:zD)(s:zY)(Z:St)(H:Hp)(Q:VK),Inv X a Z H s->t Z H Q->wpAny (model X.prog X.w) X.A (eval e X.env) (EP X a Z Q) X.xe s
def PT(X:Cx)(e:yC)(t:TT):Prop :=∀(a:zD)(s:zY)(Z:St)(H:Hp)(Q:Bool->Hp->Prop),Inv X a Z H s->t Z H Q->wpAny (model X.prog X.w) X.A (isTrue e X.env (eval e X.env)) (TP X a Z Q) X.xe s
def PW(X:Cx)(e:yC)(t:TT):Prop :=∀(b:Sem zX)(a:zD)(s:zY)(Z:St)(H:Hp)(Q:Bool->Hp->Prop),Inv X a Z H s->t Z H Q->wpAny (model X.prog X.w) X.A (isTrue e X.env b) (TP X a Z Q) X.xe s
theorem PW.pt{t:TT}(h:PW X e t):PT X e t:=h _
def PA(X:Cx)(es:zT)(t:TA):Prop :=∀(b:Pos)(a:zD)(s:zY)(Z:St)(H:Hp)(Q:zM->Hp->Prop),Inv X a Z H s->t Z H Q->wpAny (model X.prog X.w) X.A (spliced (backTo b (starEach es X.env))) (AP X a Z Q) X.xe s
def PS(X:Cx)(st:Stmt)(t:TS):Prop :=∀(a:zD)(s:zY)(Z:St)(H:Hp)(D:kR),Inv X a Z H s->t D Z H->wpAny (model X.prog X.w) X.A (exec st X.env) (SP X a D) X.xe s
def PSs(X:Cx)(st:List Stmt)(t:TS):Prop :=∀(a:zD)(s:zY)(Z:St)(H:Hp)(D:kR),Inv X a Z H s->t D Z H->wpAny (model X.prog X.w) X.A (execs st X.env) (SP X a D) X.xe s
theorem thn{t:Sem α}{Q b:α->zY->Prop}(h:wpAny M A t Q E s)(c:∀a s,Q a s->b a s):wpAny M A t b E s:=iV h c λ_ _ x=>x
section
def qh(i:Nat):TE:=λZ H Q=>∃v,Z[i]?=some (some v)/\Q v H
def tC(v:V):TE:=λ_ H Q=>Q v H
theorem CV(p:X.N[i]?=some x)(o:Vis X.env.scope x)(g:(x==("__debug__":Str))=false:=by decide)(j:(x==("__classdict__":Str))=false:=by decide):PE X (.Name x pos) (qh i):=by
 intro f s Z H Q I h;obtain⟨v,e,h⟩:=h;obtain⟨m,t,n⟩:=I.loc;obtain⟨u,r,l⟩:=n i x v p e o;have d:EP X f Z Q u s:=(eu v H I r h);rcases l with ⟨b,q⟩|⟨b,c,k,a⟩
 ·exact wpAny_Name (wpAny_loadName_local I.ok.kind b t q d) g
 ·rcases b with b|b
  ·exact wpAny_Name (wpAny_loadName_cell I.ok.kind b k a d) g
  ·exact wpAny_Name (wpAny_loadName_free I.ok.kind b k a d j) g
theorem eA{i j pos}:PE X (.Constant (.int i) j pos) (tC (.int i)):=λ_ _ _ H _ I h=>wpAny_Constant_int (eu (.int i) H (I.tok _) ⟨_,rfl⟩ h)
theorem kc{b j pos}:PE X (.Constant (.bool b) j pos) (tC (.bl b)):=λ_ _ _ H _ I h=>Constant_bool (eu (.bl b) H I rfl h)
theorem uY{j pos}:PE X (.Constant .none j pos) (tC .non):=λ_ _ _ H _ I h=>Constant_none (eu .non H I rfl h)
theorem jK{x j pos}:PE X (.Constant (.str x) j pos) (tC (.str x)):=λ_ _ _ H _ I h=>Calls.Constant_str (eu (.str x) H (I.tok _) ⟨_,rfl⟩ h)
def Gl(X:Cx)(x:Str):Prop:=X.env.kindOf x=some .globalImplicit
theorem pQ(I:Inv X pins Z H s)(b:Gl X x)(a:X.mg x=some u)(h:Q u s)
  (c:(x==("__debug__":Str))=false:=by decide):wpAny (model X.prog X.w) X.A (eval (.Name x pos) X.env) Q E s :=
 Calls.Name_function_global I.ok.kind b (Calls.loadGlobal_global (by rw[I.ok.glob];exact I.mod.glob.keeps I.bk) a h) c
theorem nF(I:Inv X pins Z H s)(a:Gl X x)(d:X.mg x=none)(c:bootBuiltins x=some u)(h:Q u s)
  (hn:x≠"__name__":=by decide) (f:(x==("__debug__":Str))=false:=by decide):wpAny (model X.prog X.w) X.A (eval (.Name x pos) X.env) Q E s:=by
 obtain⟨g,b,e⟩:=I.mod.blt;exact Calls.Name_function_global I.ok.kind a (Calls.loadGlobal_builtin (by rw[I.ok.glob];exact I.mod.glob.keeps I.bk) d (by rw[I.ok.blt];exact b.keeps I.bk) ((e x hn).trans c) h) f
theorem yF{v:V}(b:Gl X x)(a:X.mg x=some u)(r:A2b v u)(c:(x==("__debug__":Str))=false:=by decide):PE X (.Name x pos) (tC v):=λ_ _ _ H _ I h=>pQ I b a (eu v H I r h) c
theorem jW{v:V}(c:Gl X x)(b:X.mg x=none)(a:bootBuiltins x=some u)(r:A2b v u)(hn:x≠"__name__":=by decide)(d:(x==("__debug__":Str))=false:=by decide):PE X (.Name x pos) (tC v):=λ_ _ _ H _ I h=>nF I c b a (eu v H I r h) hn d
variable{a:yC}{tb:TE}
def PC(X:Cx)(op:CmpOp)(a b:yC)(t:TE):Prop :=
 ∀(c:zD)(s:zY)(Z:St)(H:Hp)(Q:VK),Inv X c Z H s->t Z H Q->
  wpAny (model X.prog X.w) X.A (eval a X.env) (λv e=>wpAny (model X.prog X.w) X.A (eval b X.env) (λu d=>wpAny (model X.prog X.w) X.A (compareOp op v u) (EP X c Z Q) X.xe d) X.xe e) X.xe s
def tB(t:TE):TT:=λZ H Q=>t Z H λx a=>∃c,x=.bl c/\Q c a
theorem uT{t:TE}(h:PC X op a b t)(h1:behindInMarks op b=false:=by first|exact nobehind _ (by decide) (by decide)|rfl):PT X (.Compare a [op] [b] pos) (tB t):=by intro e s Z H Q I g;refine wpAny_isTrue_Compare1 (thn (h e s Z H _ I g) λv l h1=>thn h1 λu n i=>thn i ?_) h1;rintro c m ⟨x,k,I1,j,f⟩;obtain⟨d,rfl,q⟩:=f;cases j;exact wpAny_truthy_bool (bd k I1 q)
theorem jh{t:TE}(h:PE X e t)(i:∀a,isTrue e X.env a=(do let v<-a;standAt e.pos;holding [v] (truthy v)):=by intro _;rfl):PT X e (tB t):=by intro b s Z H Q I f;refine isTrue_plain (thn (h b s Z H _ I f) ?_) (i _);rintro v k ⟨x,j,I1,g,c⟩;obtain⟨d,rfl,q⟩:=c;cases g;exact wpAny_truthy_bool (bd j I1 q)
variable{rest:zT}
def tAnd(t u:TT):TT:=λZ H Q=>t Z H λc a=>if c=true then u Z a Q else Q false a
def tOr(t u:TT):TT:=λZ H Q=>t Z H λc a=>if c=true then Q true a else u Z a Q
def tNot(t:TT):TT:=λZ H Q=>t Z H λc a=>Q (! c) a
theorem vk(d:PT X a tA):PW X (.BoolOp .And [a] pos) tA:=by
 intro g b s Z H Q I h;refine isTrue_and (thn (d b s Z H Q I h) λc f e=>?_)
 cases c with
 |true=>exact isTrue_and_nil e
 |false=>exact e
theorem oO(d:PT X a tA):PW X (.BoolOp .Or [a] pos) tA:=by
 intro g b s Z H Q I h;refine isTrue_or (thn (d b s Z H Q I h) λc f e=>?_)
 cases c with
 |false=>exact isTrue_or_nil e
 |true=>exact e
theorem vd(i:PT X a tA)(k:PW X (.BoolOp .And (b::rest) pos) tB'):PW X (.BoolOp .And (a::b::rest) pos) (tAnd tA tB'):=by
 intro j d s Z H Q I h;refine isTrue_and (thn (i d s Z H _ I h) ?_);rintro c g ⟨e,I1,f⟩
 cases c with
 |true=>exact k j d g Z e Q I1 f
 |false=>exact bd e I1 f
theorem lY(i:PT X a tA)(k:PW X (.BoolOp .Or (b::rest) pos) tB'):PW X (.BoolOp .Or (a::b::rest) pos) (tOr tA tB'):=by
 intro j d s Z H Q I h;refine isTrue_or (thn (i d s Z H _ I h) ?_);rintro c g ⟨e,I1,f⟩
 cases c with
 |true=>exact bd e I1 f
 |false=>exact k j d g Z e Q I1 f
theorem nT(e:PT X a tA):PT X (.UnaryOp .Not a pos) (tNot tA):=by intro b s Z H Q I h;exact isTrue_not (e b s Z H (λc d=>Q (! c) d) I h)
def CM(ta tb:TE):TE:=λZ H Q=>ta Z H λx a=>∃c,x=.bl c/\if c=true then tb Z a Q else Q (.bl false) a
def CK(ta:TE):TE:=λZ H Q=>ta Z H λx a=>∃c,x=.bl c/\Q (.bl (! c)) a
theorem qS{op}{t:TE}(h:PE X a t):PE X (.BoolOp op [a] pos) t:=λb s Z H Q I c=>BoolOp_one (h b s Z H Q I c)
theorem qR(k:PE X a ta)(g:PE X (.BoolOp .And (b::rest) pos) tb):PE X (.BoolOp .And (a::b::rest) pos) (CM ta tb):=by
 intro d s Z H Q I h;refine BoolOp_and (thn (k d s Z H _ I h) ?_);rintro v i ⟨x,f,I1,j,e⟩;obtain⟨c,rfl,e⟩:=e;cases j;refine wpAny_truthy_bool ?_
 cases c with
 |true=>exact g d i Z f Q I1 e
 |false=>exact eu (.bl false) f I1 rfl e
theorem DQ(g:PE X a ta):PE X (.UnaryOp .Not a pos) (CK ta):=by intro b s Z H Q I h;refine UnaryOp_ (thn (g b s Z H _ I h) ?_);rintro v i ⟨x,f,I1,e,d⟩;obtain⟨c,rfl,d⟩:=d;cases e;exact not_of (wpAny_truthy_bool (eu (.bl (! c)) f I1 rfl d))
end
def SqL(K:Frag)(H:Hp)(a:zW)(xs:zM):Prop :=
 Rd H a (.lst xs)\/
  ∃(o:Obj)(b:zG)(n:Nat),K.lookup a=some o/\o.cls=.type "list"/\o.dict=none/\o.data=.seq b n/\b.size<=sizeLine/\A2k xs b.toList
def SqT(K:Frag)(H:Hp)(a:zW)(xs:zM):Prop :=
 Rd H a (.tup xs)\/
  ∃(o:Obj)(b:zG)(n:Nat),K.lookup a=some o/\o.cls=.type "tuple"/\o.data=.seq b n/\b.size<=sizeLine/\A2k xs b.toList
noncomputable def absV:zX->Option V|.none=>some .non|.bool b=>some (.bl b)|.int i _=>some (.int i)|.str x _=>some (.str x)|.bytes b _=>some (.byt b)|.float b _=>some (.flt b)|.ref a=>some (.ref a)|.type n=>some (.ty n)|_=>none
theorem A2b.abs{x:V}(r:A2b x u):absV u=some x:=by
 cases x with
 |non=>cases r;rfl
 |bl _=>cases r;rfl
 |int _=>obtain⟨t,rfl⟩:=r;rfl
 |str _=>obtain⟨t,rfl⟩:=r;rfl
 |byt _=>obtain⟨t,rfl⟩:=r;rfl
 |flt _=>obtain⟨t,rfl⟩:=r;rfl
 |ref _=>cases r;rfl
 |ty _=>cases r;rfl
theorem A2b.inj{x y:V}{u:zX}(r:A2b x u)(q:A2b y u):x=y:=iX (r.abs.symm.trans q.abs)
theorem A2k.inj:∀{xs ys:zM}{us:zH},A2k xs us->A2k ys us->xs=ys|_,_,_,.nil,.nil=>rfl|_,_,_,.cons r t,.cons r' t'=>by rw[r.inj r',A2k.inj t t']
theorem SqL.of(h:H a=some (.lst xs)):SqL K H a xs:=.inl (.inl h)
theorem SqT.of(h:H a=some (.tup xs)):SqT K H a xs:=.inl (.inl h)
theorem Inv.list(I:Inv X pins Z H s)(h:SqL X.K H a xs):∃its:zH,A2k xs its/\PlainL s.heap a its.toArray/\xs.length<=sizeLine:=by
 rcases h with h|⟨o,its,n,c,b,f,d,g,r⟩
 ·obtain⟨z,its,n,r,e⟩:=h.ok I.hok;exact eh its r (gL _ n e rfl rfl rfl) z
 ·refine eh its.toList r (gL o n (I.kIn a o c) b f (by simpa using d)) ?_;have e:=r.length;simp only [Array.length_toList]at e
  lia
theorem Inv.tuple(I:Inv X pins Z H s)(h:SqT X.K H a xs):∃its:zH,A2k xs its/\IsTup s.heap a its.toArray/\xs.length<=sizeLine:=by
 rcases h with h|⟨o,its,n,c,b,d,f,r⟩
 ·obtain⟨z,its,r,p⟩:=h.ok I.hok;exact eh its r p z
 ·refine eh its.toList r (pZ o (I.kIn a o c) b n (by simpa using d)) ?_;have e:=r.length;simp only [Array.length_toList]at e
  lia
theorem Inv.list_inj(I:Inv X pins Z H s)(h:SqL X.K H a xs)(h':SqL X.K H a ys):xs=ys:=by
 obtain⟨c,r,⟨o,n,e,_,_,d⟩,_⟩:=I.list h;obtain⟨b,i,⟨k,j,g,_,_,f⟩,_⟩:=I.list h';rw[e]at g;cases g;rw[d]at f;injection f with d1 _;have:c=b:=by simpa using congrArg Array.toList d1
 subst this;exact r.inj i
theorem Inv.tuple_inj(I:Inv X pins Z H s)(h:SqT X.K H a xs)(h':SqT X.K H a ys):xs=ys:=by
 obtain⟨c,r,⟨o,e,_,n,d⟩,_⟩:=I.tuple h;obtain⟨b,i,⟨k,g,_,j,f⟩,_⟩:=I.tuple h';rw[e]at g;cases g;rw[d]at f;injection f with d1 _;have:c=b:=by simpa using congrArg Array.toList d1
 subst this;exact r.inj i
abbrev Cx.wish(X:Cx)(E:zA):Cx:={X with xe:=E}
abbrev Cx.nox(X:Cx):Cx:=X.wish λ_ _=>False
theorem Cx.Ok.wish(ok:X.Ok)(E:zA):(X.wish E).Ok :=⟨ok.mod,ok.kind,ok.glob,ok.blt,ok.above,ok.inj,ok.has,ok.cab,ok.hd,ok.frames,ok.stk,ok.exf,ok.bs,ok.bsz,ok.noex,ok.exfs,ok.funs,ok.frf⟩
theorem Cx.Ok.unwish(ok:(X.wish E).Ok):X.Ok :=⟨ok.mod,ok.kind,ok.glob,ok.blt,ok.above,ok.inj,ok.has,ok.cab,ok.hd,ok.frames,ok.stk,ok.exf,ok.bs,ok.bsz,ok.noex,ok.exfs,ok.funs,ok.frf⟩
theorem Inv.wish(I:Inv X pins Z H s)(E:zA):Inv (X.wish E) pins Z H s:=⟨I.ok.wish E,I.os,I.bare,I.base,I.loc,I.cell,I.free,I.freeC,I.pin,I.hok,I.len⟩
theorem Inv.unwish(I:Inv (X.wish E) pins Z H s):Inv X pins Z H s:=⟨I.ok.unwish,I.os,I.bare,I.base,I.loc,I.cell,I.free,I.freeC,I.pin,I.hok,I.len⟩
theorem SP.unwish{D:kR}{f:Flow}(h:SP (X.wish E) pins D f s'):SP X pins D f s':=by
 cases f with
 |next=>obtain⟨Z',a,I,q⟩:=h;exact hZ Z' a I.unwish q
 |brk=>obtain⟨Z',a,I,q⟩:=h;exact hZ Z' a I.unwish q
 |cont=>obtain⟨Z',a,I,q⟩:=h;exact hZ Z' a I.unwish q
 |ret u=>obtain⟨v,Z',a,I,r,q⟩:=h;exact jQ v Z' a I.unwish r q
theorem PSs.nox{st:List Stmt}{t:TS}(h:PSs X.nox st t):PSs X st t:=λa s Z H D I b=>iV (h a s Z H D (I.wish _) b) (λ_ _ q=>q.unwish) λ_ _ z=>False.elim z
variable{pins:zD}{Z:St}{H:Hp}{s:zY}{es:zT}{u:zX}{o:zN}{tg:yC}{g:Int->Int->Int}{A:zZ}{E Q:zA}{vs:zM}{P:yB}{w:yD}{K:Frag}{fp:zQ}{R:Result->zY->Prop}{pos:Pos}{h base:yA}{pl:Sem Bool}{body:List Stmt}{tb:TS}{f:zX->zX->Sem zX}{op:CmpOp}{C:zW}{us:zH}{mA mg:zE}{kw:List (Str×zX)}{CX:CXT}{fd:zS}{ps:zC}{scope:Scope}{osl:zF}
section
variable{X:Cx}{st:Stmt}{rest:List Stmt}{t u:TS}{e:yC}{te:TE}{pos:Pos}
def CF:TS:=λD Z H=>D.nx Z H
def wQ(t u:TS):TS:=λD Z H=>t {D with nx:=u D} Z H
theorem gR:PSs X [] CF:=λ_ _ Z H _ I h=>qe (hZ Z H I h)
theorem lK(h1:PS X st t)(h2:PSs X rest u):PSs X (st::rest) (wQ t u):=by
 intro a s Z H D I h;refine wpAny_execs_cons (thn (h1 a s Z H {D with nx:=u D} I h) λf c q=>?_)
 cases f with
 |next=>obtain⟨Z',b,I',q⟩:=q;exact h2 a c Z' b D I' q
 |ret v=>exact q
 |brk=>exact q
 |cont=>exact q
theorem kf(h1:PS X st t):PSs X [st] t:=by
 intro a s Z H D I h;refine wpAny_execs_cons (thn (h1 a s Z H D I h) λf b q=>?_)
 cases f with
 |next=>exact qe q
 |ret v=>exact q
 |brk=>exact q
 |cont=>exact q
theorem Inv.quiet(I:Inv X pins Z H s):interactive X.env=false:=by simp[interactive,I.ok.kind]
def CP(te:TE):TS:=λD Z H=>te Z H λ_ a=>D.nx Z a
theorem lA(b:PE X e te)(hs:swapsWith e none pos.line X.env=pure false:=by rfl):PS X (.Expr e pos) (CP te):=by intro a s Z H D I h;exact wpAny_Expr_any (thn (b a s Z H _ I h) (by rintro v f ⟨x,c,I1,g,d⟩;exact hZ Z c I1 d)) I.quiet hs
def wN(te:TE):TS:=λD Z H=>te Z H D.rt
theorem nU(c:PE X e te):PS X (.Return (some e) pos) (wN te):=by intro a s Z H D I h;exact wpAny_Return_some (thn (c a s Z H _ I h) (by rintro v g ⟨x,d,I1,b,f⟩;exact jQ x Z d I1 b f))
def wF(c:TT)(t u:TS):TS:=λD Z H=>c Z H λb a=>if b=true then t D Z a else u D Z a
theorem pJ{c:yC}{a b:List Stmt}{tc:TT}(j:PT X c tc)(k:PSs X a t)(l:PSs X b u):PS X (.If c a b pos) (wF tc t u):=by
 intro e s Z H D I h;refine wpAny_If (thn (j e s Z H _ I h) ?_);rintro d f ⟨g,I1,i⟩
 cases d with
 |true=>exact k e f Z g D I1 i
 |false=>exact l e f Z g D I1 i
end
abbrev TG:=V->St->Hp->(St->Hp->Prop)->Prop
abbrev TGs:=zM->St->Hp->(St->Hp->Prop)->Prop
def PG(X:Cx)(a:yC)(t:TG):Prop :=
 ∀(b:zD)(s:zY)(Z:St)(H:Hp)(v:V)(u:zX)(Q:St->Hp->Prop),Inv X b Z H s->A2b v u->t v Z H Q->
  wpAny (model X.prog X.w) X.A (assign a X.env u) (λ_ d=>∃Z' c,Inv X b Z' c d/\Q Z' c) X.xe s
def PGs(X:Cx)(ts:zT)(t:TGs):Prop :=
 ∀(a:zD)(s:zY)(Z:St)(H:Hp)(c:zM)(d:zH)(Q:St->Hp->Prop),Inv X a Z H s->A2k c d->t c Z H Q->
  wpAny (model X.prog X.w) X.A (assignInOrder ((assignEach ts X.env).map (·.2)) d) (λ_ e=>∃Z' b,Inv X a Z' b e/\Q Z' b) X.xe s
abbrev sE:=V->V->V->Hp->(Hp->Prop)->Prop
def uA(X:Cx)(t:sE):Prop :=
 ∀(a:zD)(s:zY)(Z:St)(H:Hp)(o i v:V)(c d u:zX)(Q:Hp->Prop),Inv X a Z H s->A2b o c->A2b i d->A2b v u->t o i v H Q->
  wpAny (model X.prog X.w) X.A (setItem c d u) (λ_ e=>∃b,Inv X a Z b e/\Q b) X.xe s
def nC(i:Nat):TG:=λv Z H Q=>Q (Z.set i (some v)) H
theorem gw(b:X.N.Nodup)(hi:X.N[i]?=some x:=by rfl)(c:Loc X.env.scope x:=by exact .inl rfl)(d:X.fn x=true\/X.env.scope.names.lookup x=some .local:=by first|exact .inl rfl|exact .inr rfl|assumption):PG X (.Name x pos) (nC i):=by intro a s Z H v u Q I r h;exact wpAny_assign_Name (rf I b hi c r (λe I'=>(hZ _ H I' h)) d)
def rY:TGs:=λa Z H Q=>a=[]/\Q Z H
def pI(t:TG)(u:TGs):TGs:=λb Z H Q=>∃v r,b=v::r/\t v Z H λZ' a=>u r Z' a Q
theorem lJ:PGs X [] rY:=by intro a s Z H b c Q I r h;obtain⟨e,h⟩:=h;subst e;cases r;exact assignInOrder_nil (hZ Z H I h)
theorem iw{t:TG}{u:TGs}(h1:PG X e t)(h2:PGs X es u)
  (hs:(assignEach (e::es) X.env).map (·.2)=assign e X.env::(assignEach es X.env).map (·.2):=by rfl):PGs X (e::es) (pI t u):=by
 intro a s Z H j g Q I r h;obtain⟨v,i,b,h⟩:=h;subst b
 cases r with
 |cons r rr=>rw[hs];refine assignInOrder_cons (thn (h1 a s Z H _ _ _ I r h) ?_);rintro _ d ⟨Z1,f,I1,c⟩;exact h2 a d Z1 f _ _ Q I1 rr c
def sB(K:Frag)(n:Nat)(t:TGs):TG:=λv Z H Q=>∃a b,v=.ref a/\SqT K H a b/\b.length=n/\t b Z H Q
theorem lH{k:Nat}{t:TGs}(q:X.calm=true)(h:PGs X es t)
  (hn:(assignEach es X.env).length=n:=by rfl) (f:(assignEach es X.env).findIdx? (·.1)=none:=by rfl):PG X (.Tuple es k pos) (sB X.K n t):=by
 intro c s Z H v u Q I r d;obtain⟨a,y,m,j,i,d⟩:=d;subst m;cases r;obtain⟨p,g,w,z⟩:=I.tuple j;refine assign_Tuple_tuple (I.ok.hd q) w (by simp[hn,<-i,g.length]) f λl x=>?_;have I1:Inv X c Z H {s with heap:=l}:=I.kept (t':=s.toks) λb o e=>x b o (iy (gC e)) e
 exact h c _ Z H y _ Q I1 (by simpa using g) d
def gSub(to b:TE)(t:sE):TG:=λv Z H Q=>to Z H λo c=>b Z c λi d=>t o i v d λa=>Q Z a
theorem sU{o i:yC}{b:TE}{t:sE}(f:PE X o to)(hi:PE X i b)(hs:uA X t)
  (q:∀v,assign (.Subscript o i pos) X.env v=(do
   let ov<-holding [v] (eval o X.env)
   let iv<-holding [v,ov] (eval i X.env)
   standAt pos
   holding [v,ov,iv] (setItem ov iv v)
   release [v,ov,iv] []):=by intro _;rfl):PG X (.Subscript o i pos) (gSub to b t):=by
 intro a s Z H v u Q I r h;rw[q];refine az (jS (thn (f a s Z H _ I h) ?_));rintro ov j ⟨x,n,I1,l,e⟩;refine az (jS (thn (hi a j Z n _ I1 e) ?_));rintro iv p ⟨y,g,I2,d,c⟩;refine az (pD (az (jS (thn (hs a p Z g x y v ov iv u _ I2 l d r c) ?_))));rintro _ w ⟨k,I3,m⟩;exact wpAny_release (hZ Z k I3 m)
def qM(te:TE)(g:TG):TS:=λD Z H=>te Z H λx a=>g x Z a D.nx
theorem nG{g:TG}(i:PE X e te)(k:PG X tg g)(hs:swapsWithSole [tg] e pos.line X.env=pure false:=by rfl)(c:swappedStores [tg] e X.env=pure none:=by rfl)
  (h1:(assignEach [tg] X.env).map (·.2)=[assign tg X.env]:=by rfl):PS X (.Assign [tg] e pos) (qM te g):=by
 intro a s Z H D I h;refine wpAny_Assign_stores (thn (i a s Z H _ I h) ?_) hs c;rintro v d ⟨x,j,I1,f,b⟩;rw[h1];exact thn (k a d Z j x v _ I1 f b) λ_ l q=>q
theorem oN{i:Nat}{x:Str}{e:yC}{te:TE}{pos':Pos}(b:X.N.Nodup)(hi:X.N[i]?=some x)(g:Loc X.env.scope x)(f:PE X e te)(hs:swapsWith e (some (.Name x pos')) pos.line X.env=pure false:=by rfl)(k:X.fn x=true\/X.env.scope.names.lookup x=some .local:=by first|exact .inl rfl|exact .inr rfl|assumption):
  PS X (.Assign [.Name x pos'] e pos) (qM te (nC i)):=by
 intro a s Z H D I h;refine wpAny_Assign_Name (thn (f a s Z H _ I h) ?_) hs;rintro v l ⟨y,j,I1,d,c⟩;exact rf I1 b hi g d (λm I2=>(hZ _ j I2 c)) k
def xC(c:TT)(tb:TS):TS:=λD Z H=>∃W:Nat->St->Hp->Prop,(∃m,W m Z H)/\∀m Z H,W m Z H->
 c Z H λb e=>if b=true then∃N:St->Hp->Prop,(∀Z' a,N Z' a->∃d,d<m/\W d Z' a)/\tb {D with nx:=N,ct:=N,bk:=D.nx} Z e else D.nx Z e
theorem Fb{c:yC}{body:List Stmt}{tc:TT}{tb:TS}(t:PassesOwn (model X.prog X.w) X.A X.env X.xe)(y:PT X c tc)(u:PSs X body tb):PS X (.While c body [] pos) (xC tc tb):=by
 intro a s Z H D I h;obtain⟨W,⟨C,G⟩,d⟩:=h;refine wpAny_While (codeAny_whileLoop (λn B=>∃Z' q,Inv X a Z' q B/\W n Z' q) ?_ C (hZ Z H I G));rintro n x ⟨Z1,r,I1,F⟩;refine wpAny_passesOwn t (thn (y a x Z1 r _ I1 (d n Z1 r F)) ?_);rintro b z ⟨p,I2,g⟩
 cases b with
 |true=>
  obtain⟨N,o,g⟩:=g;rw[dn rfl];refine wpAny_passesOwn t (thn (u a z Z1 p _ I2 g) λf J i=>?_)
  cases f with
  |next=>obtain⟨Z3,e,I3,m⟩:=i;obtain⟨k,j,l⟩:=o Z3 e m;exact⟨k,(kW j Z3 e I3 l)⟩
  |cont=>obtain⟨Z3,e,I3,m⟩:=i;obtain⟨k,j,l⟩:=o Z3 e m;exact⟨k,(kW j Z3 e I3 l)⟩
  |brk=>exact i
  |ret v=>exact i
 |false=>rw[dh ij];exact qe (hZ Z1 p I2 g)
structure It where
 go:Nat->Hp->Prop
 yld:Nat->Hp->V->Hp->Prop
 stop:Nat->Hp->Prop
def kQ(X:Cx)(pins:zD)(H:Hp)(b:zW):Prop :=H b=none/\b≠X.env.locals/\b∉X.fs/\(b∈X.ex\/X.s₀.heap.objs.size<=b)/\(∀x c,X.env.cells.lookup x=some c->c≠b)/\∀p∈X.pn++pins,p.1≠b
theorem Inv.fpOk{b:zW}(I:Inv X pins Z H s)(a:s.heap.objs.size<=b)(hn:H' b=none):kQ X pins H' b:=by
 refine jd hn (jC (jE I.lt a)) (I.nofs a) (.inr (jT I.sz a)) (λx c e z=>?_) λp d z=>?_
 ·obtain⟨v,q⟩:=I.cell x c e;exact absurd (jE q.lt (by rw[z];exact a)) (Nat.lt_irrefl _)
 ·exact absurd (jE (gC (I.pin p d).1) (by rw[z];exact a)) (Nat.lt_irrefl _)
structure A7i(ok:zZ->Prop)(P:yB)(w:yD)(K:Frag)(tg:yC)(J:It)(fp:zQ)(it:zW)(tn:Nat->yA->Prop):Prop where
 mem:it∈fp
 obj:∀i h,tn i h->∀b∈fp,∃o,h.get? b=some o/\∀v,o.data≠.cell v
 keep:∀i h h',tn i h->(∀b∈fp,∀o,h.get? b=some o->h'.get? b=some o)->tn i h'
 item:∀(X:Cx),X.prog=P->X.w=w->X.K=K->ok X.A->∀(i:Nat)(pins:zD)(s:zY)(Z:St)(H:Hp)(E:zA),Inv X pins Z H s->(∀b∈fp,kQ X pins H b)->tn i s.heap->J.go i H->
  wpAny (model P w) X.A (pyNext (.ref it)) (λr s1=>∃u,r=some u/\
   wpAny (model P w) X.A (letOwnedTupleGo tg (.ref it) u) (λ_ s2=>∃x H',Inv X pins Z H' s2/\A2b x u/\J.yld i H x H'/\tn (i+1) s2.heap/\∀b∈fp,H' b=none) E s1) E s
 done:∀(X:Cx),X.prog=P->X.w=w->X.K=K->ok X.A->∀(i:Nat)(pins:zD)(s:zY)(Z:St)(H:Hp)(E:zA),Inv X pins Z H s->(∀b∈fp,kQ X pins H b)->tn i s.heap->J.stop i H->
  wpAny (model P w) X.A (pyNext (.ref it)) (λr s1=>r=none/\Inv X pins Z H s1) E s
 self:∀(A:zZ)(i:Nat)(s:zY)(Q:zA)(E:zA),tn i s.heap->Q (.ref it) s->wpAny (model P w) A (pyIter (.ref it)) Q E s
abbrev uC:zZ->Prop:=λA=>A.handled=none
abbrev C9n:=A7i uC
abbrev TI:=St->Hp->(It->Hp->Prop)->Prop
def uv(ok:zZ->Prop)(X:Cx)(pins:zD)(Z:St)(tg:yC)(R:It->Hp->Prop)(c:zX)(e:zY):Prop :=∃(d:zW)(f:zQ)(g:Nat->yA->Prop)(J:It)(a:Hp),c=.ref d/\Inv X pins Z a e/\A7i ok X.prog X.w X.K tg J f d g/\g 0 e.heap/\(∀b∈f,kQ X pins a b)/\R J a
def PIP(ok:zZ->Prop)(X:Cx)(tg iter:yC)(wi:TI):Prop :=
 ∀(a:zD)(s:zY)(Z:St)(H:Hp)(R:It->Hp->Prop),Inv X a Z H s->wi Z H R->
  wpAny (model X.prog X.w) X.A (eval iter X.env) (λv b=>wpAny (model X.prog X.w) X.A (pyIter v) (uv ok X a Z tg R) X.xe b) X.xe s
abbrev PIE:=uv uC
abbrev PI:=PIP uC
theorem qq{o:Obj}{n:String}{vs:zG}{Q:Unit->zY->Prop}(c:s.heap.get? it=some o)(b:o.cls=.type n)(d:o.data=.fields vs)
  (hn:["enumerate","zip","dict_itemiterator","dict_reverseitemiterator","odict_iterator","itertools.zip_longest","itertools.pairwise"].contains n=false) (a:Q () s):wpAny M A (letOwnedTupleGo tg (.ref it) u) Q E s:=by
 unfold letOwnedTupleGo
 cases tg<;>first|exact da a|(cases u<;>first|exact da a|(refine az (wpAny_load c ?_);rw[b,d];show wpAny M A (if (["enumerate","zip","dict_itemiterator","dict_reverseitemiterator","odict_iterator","itertools.zip_longest","itertools.pairwise"].contains n&&vs[0]?==some (rawInt _))=true then _ else _) Q E s;rw[dh (by intro h;rw[hn,Bool.false_and]at h;cases h)];exact da a))
def Itl(K:Frag)(a:zW):It :=⟨λi H=>∃b x,SqL K H a b/\b[i]?=some x,λi H x c=>c=H/\∀b,SqL K H a b->b[i]?=some x,λi H=>∃b,SqL K H a b/\b.length<=i⟩
def Itt(K:Frag)(a:zW):It :=⟨λi H=>∃b x,SqT K H a b/\b[i]?=some x,λi H x c=>c=H/\∀b,SqT K H a b->b[i]?=some x,λi H=>∃b,SqT K H a b/\b.length<=i⟩
def Itr(lo:Int)(n:Nat):It:=⟨λi _=>i<n,λi H x a=>a=H/\x=.int (lo+i),λi _=>n<=i⟩
abbrev It.on(J:It):It:=⟨J.go,J.yld,λ_ _=>False⟩
theorem A7i.fin{ok:zZ->Prop}{J:It}(T:A7i (λ_=>True) P w K tg (It.on J) fp it tn)
  (d:∀(X:Cx),X.prog=P->X.w=w->X.K=K->ok X.A->∀(i:Nat)(pins:zD)(s:zY)(Z:St)(H:Hp)(E:zA),Inv X pins Z H s->(∀b∈fp,kQ X pins H b)->tn i s.heap->J.stop i H->
   wpAny (model P w) X.A (pyNext (.ref it)) (λr s1=>r=none/\Inv X pins Z H s1) E s):A7i ok P w K tg J fp it tn:=⟨T.mem,T.obj,T.keep,λX a b c _=>T.item X a b c trivial,d,T.self⟩
theorem HV(a it:zW):A7i (λ_=>True) P w K tg (It.on (Itl K a)) [it] it (λi h=>h.IsListIter it a i) where
 mem:=by simp
 obj:=λi h f b j=>by
  have e:b=it:=by simpa using j
  subst e;obtain⟨o,e,c,d⟩:=f;exact bd o e λv z=>by rw[d]at z;cases z
 keep:=λi h m f k=>f.at λo e=>k it (by simp) o e
 item:=by
  intro X B D t T i l s Z H E I r f Q;subst B D t;obtain⟨U,x,n,q⟩:=Q;obtain⟨F,L,p,Y⟩:=I.list n;obtain⟨u,N,R⟩:=L.get q;obtain⟨J,M,S,C,y,G⟩:=r it (by simp);refine wpAny_pyNext_list_item f p.isList (x:=u) (by simpa using N) λm g A=>?_;have I1:Inv X l Z H {s with heap:=m}:=I.turned (t':=s.toks) (λb o j e=>(A.2 b j).trans e) J M C y G
  obtain⟨o,e,c,d⟩:=id g;exact bd u rfl (qq (s:={s with heap:=m}) e c d (by decide) (iM x H I1 R ⟨rfl,λW O=>by rw[I.list_inj O n];exact q⟩ g λb j=>(r b j).1))
 done:=λ_ _ _ _ _ _ _ _ _ _ _ _ _ _ z=>z.elim
 self:=λ_ _ _ _ _ f h=>wpAny_pyIter_listiter f h
theorem Hk(a it:zW):C9n P w K tg (Itl K a) [it] it (λi h=>h.IsListIter it a i):=A7i.fin (HV a it)<|by intro X f j A m i c s Z H E I z v y;subst f j A;obtain⟨D,t,G⟩:=y;obtain⟨l,u,p,J⟩:=I.list t;obtain⟨r,x,C,g,d,q⟩:=z it (by simp);have F:=u.length;exact wpAny_pyNext_list_end m v p.isList (by simp;lia) λB n=>⟨rfl,I.turned (t':=s.toks) (λb o k e=>n b o k e) r x g d q⟩
theorem BB(a it:zW):A7i (λ_=>True) P w K tg (It.on (Itt K a)) [it] it (λi h=>h.IsTupleIter it a i) where
 mem:=by simp
 obj:=λi h f b j=>by
  have e:b=it:=by simpa using j
  subst e;obtain⟨o,e,c,d⟩:=f;exact bd o e λv z=>by rw[d]at z;cases z
 keep:=λi h m f k=>f.at λo e=>k it (by simp) o e
 item:=by
  intro X C F y T i l s Z H E I t f Q;subst C F y;obtain⟨U,x,q,r⟩:=Q;obtain⟨n,L,p,Y⟩:=I.tuple q;obtain⟨u,N,R⟩:=L.get r;obtain⟨J,M,S,D,A,G⟩:=t it (by simp);refine wpAny_pyNext_tuple_item f (show s.heap.IsTuple a n.toArray from p) (x:=u) (by simpa using N) λm g B=>?_;have I1:Inv X l Z H {s with heap:=m}:=I.turned (t':=s.toks) (λb o j e=>(B.2 b j).trans e) J M D A G
  obtain⟨o,e,c,d⟩:=id g;exact bd u rfl (qq (s:={s with heap:=m}) e c d (by decide) (iM x H I1 R ⟨rfl,λW O=>by rw[I.tuple_inj O q];exact r⟩ g λb j=>(t b j).1))
 done:=λ_ _ _ _ _ _ _ _ _ _ _ _ _ _ z=>z.elim
 self:=λ_ _ _ _ _ f h=>wpAny_pyIter_tupleiter f h
theorem HK(a it:zW):C9n P w K tg (Itt K a) [it] it (λi h=>h.IsTupleIter it a i):=A7i.fin (BB a it)<|by intro X g k A m i d s Z H E I z v y;subst g k A;obtain⟨D,t,G⟩:=y;obtain⟨c,u,p,J⟩:=I.tuple t;obtain⟨r,x,C,j,f,q⟩:=z it (by simp);have F:=u.length;exact wpAny_pyNext_tuple_end m v (show s.heap.IsTuple a c.toArray from p) (by simp;lia) λB n=>⟨rfl,I.turned (t':=s.toks) (λb o l e=>n b o l e) r x j f q⟩
theorem Iz(it:zW)(lo:Int)(n:Nat):A7i (λ_=>True) P w K tg (It.on (Itr lo n)) [it] it (λi h=>IsRangeIter h it (lo+(i:Nat)*1) ((n:Int)-(i:Nat)) 1) where
 mem:=by simp
 obj:=λi h a b d=>by
  have y:b=it:=by simpa using d
  subst y
  exact⟨_,a,λv z=>by
   have C:Data.fields _=Data.cell v:=z
   cases C⟩
 keep:=λi h g a k=>k it (by simp) _ a
 item:=by
  intro X t x m J i f s Z H E I l a j;subst t x m;obtain⟨D,F,G,u,p,A⟩:=l it (by simp);have j:i<n:=j;refine wpAny_pyNext_range_item a (by lia) λg c r=>?_;have I1:Inv X f Z H {s with heap:=g,toks:=s.toks+1}:=I.turned (λb o d e=>(r.2 b d).trans e) D F u p A
  have q:lo+((i+1:Nat):Int)*1=lo+(i:Int)*1+1:=by lia
  have B:(n:Int)-((i+1:Nat):Int)=(n:Int)-(i:Int)-1:=by lia
  refine bd _ rfl (qq (s:={s with heap:=g,toks:=s.toks+1}) (n:="range_iterator") c rfl rfl (by decide) (iM (.int (lo+i)) H I1 ⟨s.toks,?_⟩ ⟨rfl,rfl⟩ ?_ λb d=>(l b d).1))
  ·rw[Int.mul_one]
  ·show IsRangeIter g it (lo+((i+1:Nat):Int)*1) ((n:Int)-((i+1:Nat):Int)) 1;rw[q,B];exact c
 done:=λ_ _ _ _ _ _ _ _ _ _ _ _ _ _ z=>z.elim
 self:=λ_ _ _ _ _ a h=>wpAny_pyIter_rangeiter a h
theorem HM(it:zW)(lo:Int)(n:Nat):C9n P w K tg (Itr lo n) [it] it (λi h=>IsRangeIter h it (lo+(i:Nat)*1) ((n:Int)-(i:Nat)) 1):=A7i.fin (Iz it lo n)<|by intro X g k d m i a s Z H E I v r u;subst g k d;obtain⟨c,t,y,j,f,q⟩:=v it (by simp);exact wpAny_pyNext_range_end m r (by have:n<=i:=u;lia) λx p=>⟨rfl,I.turned (t':=s.toks) (λb o l e=>p b o l e) c t j f q⟩
def xo(K:Frag)(tl:TE):TI:=λZ H R=>tl Z H λx b=>∃a,x=.ref a/\(∃c,SqL K b a c)/\R (Itl K a) b
def wI(K:Frag)(tl:TE):TI:=λZ H R=>tl Z H λx b=>∃a,x=.ref a/\(∃c,SqT K b a c)/\R (Itt K a) b
theorem kH(f:PE X l tl):PI X tg l (xo X.K tl):=by
 intro c s Z H R I h;refine thn (f c s Z H _ I h) ?_;rintro v d ⟨x,n,I1,m,i⟩;obtain⟨a,e,⟨u,g⟩,q⟩:=i;subst e;cases m;obtain⟨k,r,p,t⟩:=I1.list g;refine wpAny_pyIter_list p.isList ?_;refine lP d.heap.objs.size [d.heap.objs.size] _ _ n rfl (I1.kept (t':=d.toks) λb o e=>fy _ e) (Hk a _) (eh _ (hU _ rfl) rfl rfl) (λb j=>?_) q;have e:b=d.heap.objs.size:=by simpa using j
 subst e;exact I1.fpOk (fa _) (I1.hok.fresh (fa _))
theorem DK(g:PE X l tl):PI X tg l (wI X.K tl):=by
 intro c s Z H R I h;refine thn (g c s Z H _ I h) ?_;rintro v d ⟨x,n,I1,m,j⟩;obtain⟨a,e,⟨u,i⟩,q⟩:=j;subst e;cases m;obtain⟨f,r,p,t⟩:=I1.tuple i;refine wpAny_pyIter_tuple (show d.heap.IsTuple a f.toArray from p) ?_;refine lP d.heap.objs.size [d.heap.objs.size] _ _ n rfl (I1.kept (t':=d.toks) λb o e=>fy _ e) (HK a _) (eh _ (hU _ rfl) rfl rfl) (λb k=>?_) q;have e:b=d.heap.objs.size:=by simpa using k
 subst e;exact I1.fpOk (fa _) (I1.hok.fresh (fa _))
theorem Fj{R:It->Hp->Prop}{t u v:Tok}{tk:Nat}(I:Inv X pins Z H s)(h1: -(2^62)<=lo)(h2:lo<2^62)(f: -(2^62)<=hi)(a:hi<2^62)
  (q:R (Itr lo (hi-lo).toNat) H):wpAny (model X.prog X.w) X.A (pyIter (.ref s.heap.objs.size)) (PIE X pins Z tg R) E {s with heap:=s.heap.push {cls:=.type "range",data:=.fields #[.int lo t,.int hi u,.int 1 v]},toks:=tk}:=by
 refine wpAny_pyIter_range (IsRange.new ..) (small_one h1 h2 f a) ?_;have I1:Inv X pins Z H {s with heap:=s.heap.push {cls:=.type "range",data:=.fields #[.int lo t,.int hi u,.int 1 v]},toks:=tk}:=I.kept λb o e=>fy _ e
 refine⟨(s.heap.push {cls:=.type "range",data:=.fields #[.int lo t,.int hi u,.int 1 v]}).objs.size,[(s.heap.push {cls:=.type "range",data:=.fields #[.int lo t,.int hi u,.int 1 v]}).objs.size],_,_,H,rfl,
  I1.kept (t':=tk) λb o e=>fy _ e,HM _ lo (hi-lo).toNat,?_,λb g=>?_,q⟩
 ·have d:lo+((0:Nat):Int)*1=lo:=by simp
  have c:(((hi-lo).toNat:Nat):Int)-((0:Nat):Int)=Builtin.Range.rangeSize lo hi 1:=by rw[rangeSize_one];split<;>lia
  show IsRangeIter _ _ (lo+((0:Nat):Int)*1) ((((hi-lo).toNat:Nat):Int)-((0:Nat):Int)) 1;rw[d,c];exact hU _ rfl
 ·have e:b=(s.heap.push {cls:=.type "range",data:=.fields #[.int lo t,.int hi u,.int 1 v]}).objs.size:=by simpa using g
  subst e;exact I1.fpOk (fa _) (I1.hok.fresh (fa _))
def CD(ta:TA):TI:=λZ H R=>ta Z H λb a=>∃j:Int,b=[.int j]/\-(2^62)<=j/\j<2^62/\R (Itr 0 j.toNat) a
theorem om{a:yC}{ta:TA}(i:Gl X "range")(f:X.mg "range"=none)(k:PA X [a] ta)(hs:starEach [a] X.env=[(false,eval a X.env)]:=by rfl):PI X tg (.Call (.Name "range" p) [a] [] pos) (CD ta):=by
 intro b s Z H R I h;refine Call_ (nF I i f boot_range (PyProof.Rows.callWith_type1 (thn (k pos b s Z H _ I h) ?_) hs rfl));rintro l m ⟨n,o,I1,g,c⟩;obtain⟨j,e,c,d,q⟩:=c;subst e
 cases g with
 |cons r rr=>
  cases rr
  obtain⟨t,rfl⟩:=r;exact call_range_1 (Fj I1 (by lia) (by lia) c d (by simpa using q))
def ut(wi:TI)(g:TG)(tb:TS):TS:=λD Z H=>wi Z H λJ c=>∃W:Nat->Nat->St->Hp->Prop,(∃m,W 0 m Z c)/\∀i m Z H,W i m Z H->
 (J.stop i H/\D.nx Z H)\/(J.go i H/\∃N:St->Hp->Prop,(∀Z' a,N Z' a->∃b,b<m/\W (i+1) b Z' a)/\∀x a,J.yld i H x a->g x Z a λZ2 d=>tb {D with nx:=N,ct:=N,bk:=D.nx} Z2 d)
def qV(fp:zQ)(h:yA):zD:=fp.filterMap λb=>(h.get? b).map λo=>(b,o)
theorem tZ{b:zW}{o:Obj}(a:b∈fp)(e:h.get? b=some o):(b,o)∈qV fp h:=List.mem_filterMap.mpr (bd b a (by rw[e];rfl))
theorem GW{p:zW×Obj}(a:p∈qV fp h):p.1∈fp/\h.get? p.1=some p.2:=by
 obtain⟨b,d,e⟩:=List.mem_filterMap.mp a
 cases q:h.get? b with
 |none=>rw[q]at e;cases e
 |some o=>rw[q]at e;have c:(b,o)=p:=iX e;subst c;exact⟨d,q⟩
theorem Inv.pinned(I:Inv X pins Z H s)(j:∀b∈fp,kQ X pins H b)(k:∀b∈fp,∃o,s.heap.get? b=some o/\∀v,o.data≠.cell v):Inv X (pins++qV fp s.heap) Z H s :=I.pins_of λp h=>(jn.mp h).elim (λz=>I.pin p (my _ z)) λz=>by obtain⟨c,e⟩:=GW z;obtain⟨f,g,i,_⟩:=j p.1 c;obtain⟨o,a,d⟩:=k p.1 c;rw[e]at a;cases a;exact iT e f g i d
theorem Inv.unpinned{pl:zD}(I:Inv X (pins++pl) Z H s):Inv X pins Z H s:=I.pins_of λp a=>I.pin p (my _ (mT _ a))
theorem tF{ok:zZ->Prop}{wi:TI}{g:TG}(L:PassesOwn (model X.prog X.w) X.A X.env X.xe)(Y:ok X.A)(hi:PIP ok X tg iter wi)(hg:PG X tg g)(c:PSs X body tb)
  (hs:∀x,foldedSetIterable iter X.env x=pure x:=by intro _;rfl):PS X (.For tg iter body [] pos) (ut wi g tb):=by
 intro a s Z H D I h;refine wpAny_For (thn (hi a s Z H _ I h) λv s1 h1=>thn h1 λa0 s2 h2=>?_) hs;refine ko h2 ?_;clear h2;rintro it K U J H2 e I2 T P ⟨S,W,⟨m0,w0⟩,G⟩;subst e;have l:∀{H':Hp},(∀b∈K,H' b=none)->∀b∈K,kQ X a H' b:=λhn b c=>⟨hn b c,(S b c).2⟩;refine codeAny_forLoop_any (λn s'=>∃i Z' H',Inv X a Z' H' s'/\U i s'.heap/\(∀b∈K,H' b=none)/\W i n Z' H') ?_ m0 (iE 0 Z H2 I2 P (λb c=>(S b c).1) w0);refine λn E t=>gW t λi Z3 M I3 z B w3=>?_;clear t;rcases G i n Z3 M w3 with ⟨F,qn⟩|⟨go,N,hN,C⟩
 ·refine wpAny_passesOwn L (thn (T.done X rfl rfl rfl Y i a E Z3 M X.xe I3 (l B) z F) ?_);rintro r s4 ⟨Q,I4⟩;subst Q;exact qe (hZ Z3 M I4 qn)
 ·refine wpAny_passesOwn L (thn (T.item X rfl rfl rfl Y i a E Z3 M X.xe I3 (l B) z go) ?_);rintro r s4 ⟨u,Q,h4⟩;subst Q;refine wpAny_passesOwn L (thn h4 ?_);refine λ_ s5 t=>iq t λx H5 I5 r5 y5 q O=>?_;clear t;have I5':=I5.pinned (l O) (T.obj _ _ q);refine wpAny_passesOwn L (thn (hg _ s5 Z3 H5 x u _ I5' r5 (C x H5 y5)) ?_);rintro _ s6 ⟨Z6,H6,I6,q6⟩;refine wpAny_passesOwn L (thn (c _ s6 Z6 H6 _ I6 q6) λf R p=>?_)
  have j:∀{Z7:St}{k:Hp},Inv X (a++qV K s5.heap) Z7 k R->N Z7 k->∃m,m<n/\∃i Z' H',Inv X a Z' H' R/\U i R.heap/\(∀b∈K,H' b=none)/\W i m Z' H':=λ{Z7 k} I7 y=>by obtain⟨m',hm,w7⟩:=hN Z7 k y;refine bd m' hm (iE (i+1) Z7 k I7.unpinned (T.keep _ _ _ q λb c o e=>(I7.pin (b,o) (my _ (my _ (tZ c e)))).1) (λb c=>?_) w7);obtain⟨o,e,d⟩:=T.obj _ _ q b c;exact(I7.pin (b,o) (my _ (my _ (tZ c e)))).2.1
  cases f with
  |next=>obtain⟨Z7,k,I7,y⟩:=p;exact j I7 y
  |cont=>obtain⟨Z7,k,I7,y⟩:=p;exact j I7 y
  |brk=>obtain⟨Z7,k,I7,p⟩:=p;exact hZ Z7 k I7.unpinned p
  |ret v=>obtain⟨x7,Z7,k,I7,r7,p⟩:=p;exact⟨x7,Z7,k,I7.unpinned,r7,p⟩
theorem qT{wi:TI}{g:TG}(c:PassesOwn (model X.prog X.w) X.A X.env X.xe)(b:X.calm=true)(hi:PI X tg iter wi)(d:PG X tg g)(e:PSs X body tb)
  (hs:∀x,foldedSetIterable iter X.env x=pure x:=by intro _;rfl):PS X (.For tg iter body [] pos) (ut wi g tb):=
 λa s Z H D I h=>tF c (I.ok.hd b) hi d e hs a s Z H D I h
theorem nJ{g:TG}{D:kR}(Pv:Nat->St->Hp->Prop)(h0:Pv 0 Z H)(c:∀i Z H,i<=xs.length->Pv i Z H->SqL K H a xs)
  (hs:∀i x Z H,xs[i]?=some x->Pv i Z H->g x Z H λZ2 H2=>tb {D with nx:=Pv (i+1),ct:=Pv (i+1),bk:=D.nx} Z2 H2) (h:∀Z H,Pv xs.length Z H->D.nx Z H):
  ∃W:Nat->Nat->St->Hp->Prop,(∃m,W 0 m Z H)/\∀i m Z H,W i m Z H->
   ((Itl K a).stop i H/\D.nx Z H)\/((Itl K a).go i H/\∃N:St->Hp->Prop,(∀Z' H',N Z' H'->∃b,b<m/\W (i+1) b Z' H')/\∀x H',(Itl K a).yld i H x H'->g x Z H' λZ2 H2=>tb {D with nx:=N,ct:=N,bk:=D.nx} Z2 H2):=by
 refine bd (λi m Z H=>m=xs.length-i/\i<=xs.length/\Pv i Z H) (eh xs.length (by simp) (jm _) h0) ?_;rintro i m Z H ⟨rfl,f,p⟩;have q:=c i Z H f p;by_cases hlt:i<xs.length
 ·refine .inr (iB (hZ xs (xs[i]) q (by simp[hlt])) (Pv (i+1)) (λZ' H' d=>(iF (xs.length-(i+1)) (by lia) rfl hlt d)) λx H' y=>?_);obtain⟨e,y⟩:=y;subst e;exact hs i x Z _ (y xs q) p
 ·have e:i=xs.length:=by lia
  subst e;exact .inl ⟨(bd xs q (fa _)),h Z H p⟩
theorem px{g:TG}{D:kR}(Pv:Nat->St->Hp->Prop)(h0:Pv 0 Z H)
  (hs:∀i Z H,i<n->Pv i Z H->g (.int (lo+i)) Z H λZ2 H2=>tb {D with nx:=Pv (i+1),ct:=Pv (i+1),bk:=D.nx} Z2 H2) (c:∀Z H,Pv n Z H->D.nx Z H):
  ∃W:Nat->Nat->St->Hp->Prop,(∃m,W 0 m Z H)/\∀i m Z H,W i m Z H->
   ((Itr lo n).stop i H/\D.nx Z H)\/((Itr lo n).go i H/\∃N:St->Hp->Prop,(∀Z' H',N Z' H'->∃a,a<m/\W (i+1) a Z' H')/\∀x H',(Itr lo n).yld i H x H'->g x Z H' λZ2 H2=>tb {D with nx:=N,ct:=N,bk:=D.nx} Z2 H2):=by
 refine bd (λi m Z H=>m=n-i/\i<=n/\Pv i Z H) (eh n (by simp) (jm _) h0) ?_;rintro i m Z H ⟨rfl,d,p⟩;by_cases hlt:i<n
 ·refine .inr (iB hlt (Pv (i+1)) (λZ' H' b=>(iF (n-(i+1)) (by lia) rfl hlt b)) λx H' y=>?_);obtain⟨e,y⟩:=y;subst e y;exact hs i Z _ hlt p
 ·have e:i=n:=by lia
  subst e;exact .inl ⟨fa _,c Z H p⟩
theorem FN{c:TT}{D:kR}(Pv:St->Hp->Prop)(μ:St->Hp->Nat)(h0:Pv Z H)
  (hs:∀Z H,Pv Z H->c Z H λb H1=>if b=true then tb {D with nx:=λZ' H'=>Pv Z' H'/\μ Z' H'<μ Z H,ct:=λZ' H'=>Pv Z' H'/\μ Z' H'<μ Z H,bk:=D.nx} Z H1 else D.nx Z H1)
  (a:∀Z H Q d,(∀b H1,Q b H1->d b H1)->c Z H Q->c Z H d):xC c tb D Z H:=by
 refine bd (λm Z H=>m=μ Z H/\Pv Z H) ⟨_,rfl,h0⟩ ?_;rintro m Z H ⟨rfl,p⟩;refine a Z H _ _ (λb H1 q=>?_) (hs Z H p)
 cases b with
 |true=>exact bd _ (by rintro Z' H' ⟨e,l⟩;exact eh _ l rfl e) q
 |false=>exact q
abbrev R2:=V->V->Hp->VK->Prop
def OpR(X:Cx)(f:zX->zX->Sem zX)(r:R2):Prop :=
 ∀(a:zD)(s:zY)(Z:St)(H:Hp)(x y:V)(v u:zX)(Q:VK),Inv X a Z H s->A2b x v->A2b y u->r x y H Q->
  wpAny (model X.prog X.w) X.A (f v u) (EP X a Z Q) X.xe s
def UnR(X:Cx)(f:zX->Sem zX)(r:V->Hp->VK->Prop):Prop :=
 ∀(a:zD)(s:zY)(Z:St)(H:Hp)(x:V)(v:zX)(Q:VK),Inv X a Z H s->A2b x v->r x H Q->
  wpAny (model X.prog X.w) X.A (f v) (EP X a Z Q) X.xe s
def mZ(X:Cx)(f:zX)(r:zM->Hp->VK->Prop):Prop :=
 ∀(a:zD)(s:zY)(Z:St)(H:Hp)(b:zM)(c:zH)(Q:VK),Inv X a Z H s->A2k b c->r b H Q->
  wpAny (model X.prog X.w) X.A (call f c) (EP X a Z Q) X.xe s
def tOp(r:R2)(ta tb:TE):TE:=λZ H Q=>ta Z H λx a=>tb Z a λy b=>r x y b Q
def tUn(r:V->Hp->VK->Prop)(ta:TE):TE:=λZ H Q=>ta Z H λx a=>r x a Q
def rI(C:Int->Int->Prop)(g:Int->Int->V):R2:=λx y H Q=>∃i j,x=.int i/\y=.int j/\C i j/\Q (g i j) H
def pC(g:Int->Int->V):R2:=λx y H Q=>∃i j,x=.int i/\y=.int j/\Q (g i j) H
def rU(g:Int->V):V->Hp->VK->Prop:=λx H Q=>∃i,x=.int i/\Q (g i) H
section
variable{a:yC}{tb:TE}
theorem uw(l:PE X a ta)(m:PE X b tb){R:V->V->Hp->Prop}(I:Inv X pins Z H s)
  (h:ta Z H λx H1=>tb Z H1 λy H2=>R x y H2)
  (i:∀v u c x y H2,Inv X pins Z H2 c->A2b x v->A2b y u->R x y H2->wpAny (model X.prog X.w) X.A (f v u) Q X.xe c):
  wpAny (model X.prog X.w) X.A (eval a X.env) (λv s₁=>wpAny (model X.prog X.w) X.A (eval b X.env) (λu s₂=>wpAny (model X.prog X.w) X.A (f v u) Q X.xe s₂) X.xe s₁) X.xe s:=by
 refine thn (l pins s Z H _ I h) ?_;rintro v d ⟨x,H1,I1,e,k⟩;refine thn (m pins d Z H1 _ I1 k) ?_;rintro u c ⟨y,H2,I2,j,g⟩;exact i v u c x y H2 I2 e j g
theorem ff{op:Operator}{r:R2}(e:OpR X (binaryOp op) r)(k:PE X a ta)(f:PE X b tb):PE X (.BinOp a op b pos) (tOp r ta tb):=by intro c s Z H Q I h;exact wpAny_BinOp (uw k f I h λv u j x y g I2 d i q=>e c j Z g x y v u Q I2 d i q)
theorem xh{op:UnaryOp}{r:V->Hp->VK->Prop}(c:UnR X (unaryOp op) r)(i:PE X a ta):PE X (.UnaryOp op a pos) (tUn r ta):=by intro b s Z H Q I h;exact UnaryOp_ (thn (i b s Z H _ I h) (by rintro v e ⟨x,g,I1,f,d⟩;exact c b e Z g x v Q I1 f d))
theorem opI{C:Int->Int->Prop}
  (a:∀(i j:Int)(t u:Tok)(s:zY)(Q:zA)(E:zA),C i j->Q (.int (g i j) s.toks) {s with toks:=s.toks+1}->wpAny (model X.prog X.w) X.A (f (.int i t) (.int j u)) Q E s):
  OpR X f (rI C λi j=>.int (g i j)):=by
 intro b s Z H x y v u Q I d k h;obtain⟨i,j,rfl,rfl,c,q⟩:=h;obtain⟨t,rfl⟩:=d;obtain⟨e,rfl⟩:=k;exact a i j t e s _ _ c (eu (.int (g i j)) H (I.tok _) ⟨_,rfl⟩ q)
theorem wL
  (a:∀(i j:Int)(t u:Tok)(s:zY)(Q:zA)(E:zA),Q (.int (g i j) s.toks) {s with toks:=s.toks+1}->wpAny (model X.prog X.w) X.A (f (.int i t) (.int j u)) Q E s):
  OpR X f (pC λi j=>.int (g i j)):=by
 intro b s Z H x y v u Q I c e h;obtain⟨i,j,rfl,rfl,q⟩:=h;obtain⟨t,rfl⟩:=c;obtain⟨d,rfl⟩:=e;exact a i j t d s _ _ (eu (.int (g i j)) H (I.tok _) ⟨_,rfl⟩ q)
theorem ux{g:Int->Int->Bool}
  (a:∀(i j:Int)(t u:Tok)(s:zY)(Q:zA)(E:zA),Q (.bool (g i j)) s->wpAny (model X.prog X.w) X.A (f (.int i t) (.int j u)) Q E s):
  OpR X f (pC λi j=>.bl (g i j)):=by
 intro b s Z H x y v u Q I c e h;obtain⟨i,j,rfl,rfl,q⟩:=h;obtain⟨t,rfl⟩:=c;obtain⟨d,rfl⟩:=e;exact a i j t d s _ _ (eu (.bl (g i j)) H I rfl q)
def CDiv(i j:Int):Prop:=0<j/\j<1073741824
def CPow(i j:Int):Prop:=0<=j/\j<=1000000/\i.natAbs<2^64
def E2h(i j:Int):Prop:=(-(2^64)<i/\i<2^64)\/(-(2^64)<j/\j<2^64)
theorem E2h.ok{i j:Int}(h:E2h i j):IntMulOk i j:=by
 rcases h with ⟨b,a⟩|⟨b,a⟩
 ·exact .of_left (intBits_le_64 b a)
 ·exact .of_right (intBits_le_64 b a)
theorem jz:OpR X (binaryOp .Add) (pC λi j=>.int (i+j)):=wL λ_ _ _ _ _ _ _ q=>add_int q
theorem qt:OpR X (binaryOp .Sub) (pC λi j=>.int (i-j)):=wL λ_ _ _ _ _ _ _ q=>sub_int q
theorem nV:OpR X (binaryOp .Mult) (rI E2h λi j=>.int (i*j)):=opI λ_ _ _ _ _ _ _ a q=>mul_int q a.ok
theorem mf:OpR X (binaryOp .FloorDiv) (rI CDiv λi j=>.int (i/j)):=opI λi j _ _ _ _ _ a q=>by have b:(0:Int)<j:=a.1;have c:j<1073741824:=a.2;exact floordiv_int (by lia) (by rw[Int.fdiv_eq_ediv_of_nonneg i (by lia)];exact q) (.inl (PyProof.noPylong_small (by lia)))
theorem ja:OpR X (binaryOp .Mod) (rI (λ_ j=>0<j) λi j=>.int (i%j)):=opI λi j _ _ _ _ _ a q=>by have b:(0:Int)<j:=a;exact mod_int' (by lia) (by rw[Int.fmod_eq_emod_of_nonneg i (by lia)];exact q)
theorem xS:OpR X (binaryOp .Pow) (rI CPow λi j=>.int (i^j.toNat)):=opI λ_ _ _ _ _ _ _ a q=>pow_int_small a.1 a.2.1 a.2.2 q
theorem unI{f:zX->Sem zX}{g:Int->Int}
  (a:∀(i:Int)(t:Tok)(s:zY)(Q:zA)(E:zA),Q (.int (g i) s.toks) {s with toks:=s.toks+1}->wpAny (model X.prog X.w) X.A (f (.int i t)) Q E s):
  UnR X f (rU λi=>.int (g i)):=by
 intro b s Z H x v Q I c h;obtain⟨i,rfl,q⟩:=h;obtain⟨t,rfl⟩:=c;exact a i t s _ _ (eu (.int (g i)) H (I.tok _) ⟨_,rfl⟩ q)
theorem xK:UnR X (unaryOp .USub) (rU λi=>.int (-i)):=unI λ_ _ _ _ _ q=>neg_int q
end
def wH:V->V->Bool|.non,.non=>true|.non,.int _=>true|.int _,.non=>true|.non,.bl _=>true|.bl _,.non=>true|.non,.str _=>true|.str _,.non=>true|.int _,.int _=>true|.bl _,.bl _=>true|.str _,.str _=>true|.byt _,.byt _=>true|.int _,.str _=>true|.str _,.int _=>true|.bl _,.str _=>true|.str _,.bl _=>true|_,_=>false
def rEq:R2:=λx y H Q=>wH x y=true/\Q (.bl (decide (x=y))) H
def rNe:R2:=λx y H Q=>wH x y=true/\Q (.bl (! decide (x=y))) H
theorem yO{i j:Int}:decide (V.int i=V.int j)=(i==j):=by rw[Bool.eq_iff_iff];simp
theorem xO{i j:Bool}:decide (V.bl i=V.bl j)=(i==j):=by rw[Bool.eq_iff_iff];simp
theorem yJ{i j:Str}:decide (V.str i=V.str j)=(i==j):=by rw[Bool.eq_iff_iff];simp
theorem yj{i j:Array UInt8}:decide (V.byt i=V.byt j)=(i.toList==j.toList):=by rw[Bool.eq_iff_iff];cases i;cases j;simp
section
variable{a:yC}{tb:TE}
theorem iP{Q:VK}{k a:Bool}(I:Inv X pins Z H s)(q:Q (.bl k) H)(e:k=a):EP X pins Z Q (.bool a) s:=by subst e;exact eu (.bl k) H I rfl q
theorem kS:OpR X (compareOp .Eq) rEq:=by
 intro e s Z H x y v u Q I d a h;obtain⟨c,q⟩:=h
 cases x with
 |non=>
  cases d
  cases y with
  |non=>cases a;exact PySem.EqNone.eq_none_none (iP I q (by simp))
  |bl j=>cases a;exact PySem.EqNone.eq_none_bool (iP I q (by simp))
  |int j=>obtain⟨b,rfl⟩:=a;exact PySem.EqNone.eq_none_int (iP I q (by simp))
  |str j=>obtain⟨b,rfl⟩:=a;exact PySem.EqNone.eq_none_str (iP I q (by simp))
  |_=>exact absurd (show false=true from c) ij
 |bl i=>
  cases d
  cases y with
  |non=>cases a;exact PySem.EqNone.eq_bool_none (iP I q (by simp))
  |bl j=>cases a;exact eq_bool (iP I q xO)
  |str j=>obtain⟨b,rfl⟩:=a;exact PySem.EqMixed.eq_bool_str (iP I q (by simp))
  |_=>exact absurd (show false=true from c) ij
 |int i=>
  obtain⟨t,rfl⟩:=d
  cases y with
  |non=>cases a;exact PySem.EqNone.eq_int_none (iP I q (by simp))
  |int j=>obtain⟨b,rfl⟩:=a;exact eq_int (iP I q yO)
  |str j=>obtain⟨b,rfl⟩:=a;exact PySem.EqMixed.eq_int_str (iP I q (by simp))
  |_=>exact absurd (show false=true from c) ij
 |str i=>
  obtain⟨t,rfl⟩:=d
  cases y with
  |non=>cases a;exact PySem.EqNone.eq_str_none (iP I q (by simp))
  |bl j=>cases a;exact PySem.EqMixed.eq_str_bool (iP I q (by simp))
  |int j=>obtain⟨b,rfl⟩:=a;exact PySem.EqMixed.eq_str_int (iP I q (by simp))
  |str j=>obtain⟨b,rfl⟩:=a;exact eq_str (iP I q yJ)
  |_=>exact absurd (show false=true from c) ij
 |byt i=>
  obtain⟨t,rfl⟩:=d
  cases y with
  |byt j=>obtain⟨b,rfl⟩:=a;exact PySem.W.eq_bytes (iP I q yj)
  |_=>exact absurd (show false=true from c) ij
 |_=>cases y<;>exact absurd (show false=true from c) ij
theorem sN:OpR X (compareOp .NotEq) rNe:=by
 intro e s Z H x y v u Q I d a h;obtain⟨c,q⟩:=h
 cases x with
 |non=>
  cases d
  cases y with
  |non=>cases a;exact PySem.EqNone.ne_none_none (iP I q (by simp))
  |bl j=>cases a;exact PySem.EqNone.ne_none_bool (iP I q (by simp))
  |int j=>obtain⟨b,rfl⟩:=a;exact PySem.EqNone.ne_none_int (iP I q (by simp))
  |str j=>obtain⟨b,rfl⟩:=a;exact PySem.EqNone.ne_none_str (iP I q (by simp))
  |_=>exact absurd (show false=true from c) ij
 |bl i=>
  cases d
  cases y with
  |non=>cases a;exact PySem.EqNone.ne_bool_none (iP I q (by simp))
  |bl j=>cases a;exact ne_bool (iP I q (congrArg not xO))
  |str j=>obtain⟨b,rfl⟩:=a;exact PySem.EqMixed.ne_bool_str (iP I q (by simp))
  |_=>exact absurd (show false=true from c) ij
 |int i=>
  obtain⟨t,rfl⟩:=d
  cases y with
  |non=>cases a;exact PySem.EqNone.ne_int_none (iP I q (by simp))
  |int j=>obtain⟨b,rfl⟩:=a;exact ne_int (iP I q (congrArg not yO))
  |str j=>obtain⟨b,rfl⟩:=a;exact PySem.EqMixed.ne_int_str (iP I q (by simp))
  |_=>exact absurd (show false=true from c) ij
 |str i=>
  obtain⟨t,rfl⟩:=d
  cases y with
  |non=>cases a;exact PySem.EqNone.ne_str_none (iP I q (by simp))
  |bl j=>cases a;exact PySem.EqMixed.ne_str_bool (iP I q (by simp))
  |int j=>obtain⟨b,rfl⟩:=a;exact PySem.EqMixed.ne_str_int (iP I q (by simp))
  |str j=>obtain⟨b,rfl⟩:=a;exact ne_str (iP I q (congrArg not yJ))
  |_=>exact absurd (show false=true from c) ij
 |byt i=>
  obtain⟨t,rfl⟩:=d
  cases y with
  |byt j=>obtain⟨b,rfl⟩:=a;exact PySem.W.ne_bytes (iP I q (congrArg not yj))
  |_=>exact absurd (show false=true from c) ij
 |_=>cases y<;>exact absurd (show false=true from c) ij
theorem oK:OpR X (compareOp .Lt) (pC λi j=>.bl (decide (i<j))):=ux λ_ _ _ _ _ _ _ q=>lt_int q
theorem sK:OpR X (compareOp .LtE) (pC λi j=>.bl (decide (i<=j))):=ux λ_ _ _ _ _ _ _ q=>le_int q
theorem uM:OpR X (compareOp .Gt) (pC λi j=>.bl (decide (j<i))):=ux λ_ _ _ _ _ _ _ q=>gt_int q
theorem xU:OpR X (compareOp .Is) (λx y H Q=>y=.non/\Q (.bl (decide (x=.non))) H):=by
 intro b s Z H x y v u Q I a c h;obtain⟨rfl,q⟩:=h;cases c;refine is_none_gen (iP I q ?_)
 cases x<;>first|(cases a;rfl)|(obtain⟨t,rfl⟩:=a;rfl)
theorem ve(b:yC)(h:op≠.In:=by decide)(h2:op≠.NotIn:=by decide):behindInMarks op b=false:=by
 have c:(op==CmpOp.In)=false:=by cases op<;>first|rfl|exact absurd rfl h
 have a:(op==CmpOp.NotIn)=false:=by cases op<;>first|rfl|exact absurd rfl h2
 cases b<;>simp[behindInMarks,c,a]
theorem qY{r:R2}(e:OpR X (compareOp op) r)(l:PE X a ta)(g:PE X b tb)(f:behindInMarks op b=false:=by exact ve _):PE X (.Compare a [op] [b] pos) (tOp r ta tb):=by intro c s Z H Q I h;exact wpAny_Compare1 (uw l g I h λv u k x y i I2 d j q=>e c k Z i x y v u Q I2 d j q) f
def xy(t:TE):TT:=λZ H Q=>t Z H λx a=>∃k,x=.bl k/\Q k a
theorem iu{r:R2}(q:OpR X (compareOp op) r)(o:PE X a ta)(j:PE X b tb)(i:behindInMarks op b=false:=by exact ve _):PT X (.Compare a [op] [b] pos) (xy (tOp r ta tb)):=by
 intro d s Z H Q I h
 refine wpAny_isTrue_Compare1 (thn (o d s Z H _ I h) λv m ⟨x,C,I1,A,g⟩=>thn (j d m Z C _ I1 g) λu n ⟨y,l,I2,f,p⟩=>thn (q d n Z l x y v u _ I2 A f p) λc D ⟨z,w,I3,t,k,e,B⟩=>?_) i
 subst e;cases t;exact wpAny_truthy_bool (bd w I3 B)
def Dy(r d:R2)(ta tb tc:TE):TE:=λZ H Q=>ta Z H λx c=>tb Z c λy f=>r x y f λz a=>∃k,z=.bl k/\
 (if k=true then tc Z a λb e=>d y b e Q else Q (.bl false) a)
theorem zn{g:CmpOp}{r l:R2}(N:OpR X (compareOp op) r)(i:OpR X (compareOp g) l)(G:PE X a ta)(q:PE X b tb)(B:PE X c tc)
  (p:lastMarks [op,g] [b,c]=false:=by with_unfolding_all rfl):PE X (.Compare a [op,g] [b,c] pos) (Dy r l ta tb tc):=by
 intro f s Z H Q I h
 refine Compare_chain (thn (G f s Z H _ I h) λv A ⟨x,R,I1,P,o⟩=>chain_link (thn (q f A Z R _ I1 o) λu D ⟨y,t,I2,j,M⟩=>thn (N f D Z t x y v u _ I2 P j M) λd C ⟨z,m,I3,O,k,e,n⟩=>?_)) p
 subst e;cases O;refine wpAny_truthy_bool ?_
 cases k with
 |false=>exact ite_ff (eu (.bl false) m I3 rfl n)
 |true=>exact ite_tt (chain_last (thn (B f C Z m _ I3 n) (by rintro L S ⟨K,J,I4,F,w⟩;exact i f S Z J y K u L Q I4 j F w)))
theorem tf:(sizeLine:Nat)<2^63:=by rw[sizeLine_eq];decide
theorem Ie:OpR X (binaryOp .Add) (λx y H Q=>∃i j,x=.str i/\y=.str j/\i.length+j.length<=sizeLine/\Q (.str (i++j)) H):=by intro a s Z H x y v u Q I b d h;obtain⟨i,j,rfl,rfl,e,q⟩:=h;obtain⟨t,rfl⟩:=b;obtain⟨c,rfl⟩:=d;exact add_str (λc f=>(eu (.str (i++j)) H (I.tok _) ⟨_,rfl⟩ q)) e
theorem oH{x:V}(r:A2k [x] us):∃u,us=[u]/\A2b x u:=by
 cases r with
 |cons r1 r2=>cases r2;exact bd _ rfl r1
theorem qr{x:V}(r:A2k [x,y] us):∃u w',us=[u,w']/\A2b x u/\A2b y w':=by
 cases r with
 |cons r1 r2=>
  cases r2 with
  |cons r3 r4=>cases r4;exact eu _ _ rfl r1 r3
theorem AB(b:X.calm=true):mZ X (.builtin "max") (λxs H Q=>∃i j,xs=[.int i,.int j]/\Q (.int (if j>i then j else i)) H):=by
 intro a s Z H xs f Q I r h;obtain⟨i,j,rfl,q⟩:=h;obtain⟨u,c,rfl,⟨t,rfl⟩,⟨e,rfl⟩⟩:=qr r;refine max_two_ints (I.ok.hd b) λd g k=>(eu _ H (I.kept k) ?_ q);by_cases hj:j>i
 ·rw[dn hj,dn hj];exact⟨_,rfl⟩
 ·rw[dh hj,dh hj];exact⟨_,rfl⟩
theorem Gw(b:X.calm=true):mZ X (.builtin "min") (λxs H Q=>∃i j,xs=[.int i,.int j]/\Q (.int (if j<i then j else i)) H):=by
 intro a s Z H xs f Q I r h;obtain⟨i,j,rfl,q⟩:=h;obtain⟨u,c,rfl,⟨t,rfl⟩,⟨e,rfl⟩⟩:=qr r;refine min_two_ints (I.ok.hd b) λd g k=>(eu _ H (I.kept k) ?_ q);by_cases hj:j<i
 ·rw[dn hj,dn hj];exact⟨_,rfl⟩
 ·rw[dh hj,dh hj];exact⟨_,rfl⟩
theorem GZ:mZ X (.type "int") (λxs H Q=>(∃i,xs=[.int i]/\Q (.int i) H)\/∃k,xs=[.bl k]/\Q (.int (if k then 1 else 0)) H):=by
 intro a s Z H xs c Q I r h;rcases h with ⟨i,rfl,q⟩|⟨k,rfl,q⟩
 ·obtain⟨u,rfl,t,rfl⟩:=oH r;exact call_int_int (eu (.int i) H I ⟨_,rfl⟩ q)
 ·obtain⟨u,rfl,b⟩:=oH r;cases b;exact call_int_bool (eu (.int (if k then 1 else 0)) H (I.tok _) ⟨_,rfl⟩ q)
theorem Jj:mZ X (.type "str") (λxs H Q=>∃i,xs=[.int i]/\i.natAbs.log2<1920/\Q (.str (toString i)) H):=by intro a s Z H xs c Q I r h;obtain⟨i,rfl,b,q⟩:=h;obtain⟨u,rfl,t,rfl⟩:=oH r;exact PySem.P.str_of_int b (eu (.str _) H (I.tok _) ⟨_,rfl⟩ q)
end
structure D5x(h:yA)(x dx C:zW)(mA:zE):Prop where
 obj:h.get? x=some (instObj C dx)
 ns:h.Ns1 dx mA
 ne:dx≠x
theorem Hj(n:h.Ns1 dx mA):∃od,h.get? dx=some od/\∀name,PySem.W.lookIn name od=some (mA name):=by
 refine gW n ?_;clear n;rintro o c l d g k ⟨_,f⟩;refine bd o d λname=>?_;have e:=f name;unfold nsFind findBy at e;rw[<-Array.find?_toList]at e;unfold PySem.W.lookIn;rw[g];dsimp only;split
 ·rename_i y q;rw[q]at e;exact congrArg some e
 ·rename_i q;rw[q]at e
  have a:c.toList.any (·.refKey)=false:=by rw[List.any_eq_false];intro y j;obtain⟨z,t,b⟩:=k y (Array.mem_toList_iff.mp j);simp[DictEntry.refKey,b]
  have i:¬c.toList.any (·.refKey)=true:=by rw[a];exact ij
  rw[dh i];exact congrArg some e
theorem D5x.look{x:zW}(I:D5x h x dx C mA):∃od,PySem.W.InstAt h x (instObj C dx) C (some od)/\∀name,PySem.W.lookIn name od=some (mA name):=
 let⟨od,ho,hl⟩:=Hj I.ns
 (bd od ⟨I.obj,rfl,rfl,ho⟩ hl)
section
variable{x f:zW}
theorem kT{a:Bool}(X:K.In s.heap)(I:D5x s.heap x dx C mA)(e:plainGet K C name=true)(f:hasDictIn K C=true)
  (g:findIn K (.ref C) name=some none) (d:mA name=some v) (b:PySem.W.handedIn v=true) (h:Q v {s with toks:=s.toks+1}):
  wpAny (model prog w) A (getAttr (.ref x) name a) Q E s:=by
 obtain⟨i,J,c⟩:=I.look;exact PySem.W.get_value X J (PySem.W.plainGet_of e).1 (PySem.W.findObj_own f g rfl (by rw[c,d])) b h
theorem Fh{Q:zX×List zX->zY->Prop}(X:K.In s.heap)(I:D5x s.heap x dx C mA)(a:plainGet K C name=true)
  (g:findIn K (.ref C) name=some (some (.ref f))) (c:isFn K (.ref f)=true) (e:mA name=none) (h:Q (.ref f,[.ref x]) s):
  wpAny (model prog w) A (getMethod (.ref x) name pl) Q E s:=by
 obtain⟨d,J,b⟩:=I.look;exact PySem.W.method_fn X J (PySem.W.plainGet_of a).1 (PySem.W.plainGet_of a).2 g (beq_iff_eq.mp c) (by show(PySem.W.lookIn name d).map (·.isSome)=some false;rw[b,e];rfl) h
theorem Eg{j:zC}{Q:Unit->zY->Prop}(X:K.In s.heap)(I:D5x s.heap x dx C mA)
  (hs:findIn K (.ref C) "__setattr__"=some (some (.builtin "object.__setattr__"))) (q:plainOver K C=true) (n:PySem.W.takerIn K C name=some none) (t:hasDictIn K C=true)
  (l:PySem.Within mA j) (hsz:j.length<=sizeLine)
  (h:∀h',D5x h' x dx C (λy=>if y=name then some v else mA y)->Heap.SameBut dx s.heap h'->Q () {s with heap:=h',toks:=s.toks+2}):
  wpAny (model prog w) A (setAttr (.ref x) name v) Q E s:=by
 obtain⟨D,J,u⟩:=I.look;refine PySem.W.set_plain X J hs (PySem.W.osa_open (s:={s with toks:=s.toks+1}) (r:=none) X J q n λb=>?_)
 obtain⟨z,m,e⟩:=PySem.W.any_some t;have o:s.heap.get? x=some ⟨.ref C,some dx,.plain,#[]⟩:=I.obj;refine az (da (az (az (wpAny_loadPart o (az (PySem.W.Looks.here (s:={s with toks:=s.toks+1}) (PySem.W.looks_clsIn X m) ?_))))));rw[e];refine da (a:=some dx) (az (da (az ?_)));refine wpAny_nsSet1 (s:={s with toks:=s.toks+1}) I.ns λh' c d=>?_
 obtain⟨B,k,p,f,i,g⟩:=c.count (PySem.Within.cons name v l);refine az (wpAny_lookBehind f (by rw[i];exact pastItsLine_dict (jT g (by rw[je];lia))) ?_);exact da (h _ ⟨(d.2 _ (Ne.symm I.ne)).trans I.obj,c,I.ne⟩ d)
theorem Fm{vs:zH}(X:K.In s.heap)(c:makesIn K C=true)
  (hi:findIn K (.ref C) "__init__"=some (some (.ref f))) (b:typeIn K (.ref f)=some (.type "function"))
  (h:codeAny (model prog w) (A.under (.builtin "type.__call__" ⟨.ref C::vs,kw⟩)) (.call (.ref f) ⟨.ref (s.heap.objs.size+1)::vs,kw⟩) (PySem.W.InitBack (s.heap.objs.size+1) R)
   {s with heap:=(s.heap.push emptyDict).push (instObj C s.heap.objs.size)}):
  codeAny (model prog w) A (.call (.ref C) ⟨vs,kw⟩) R s:=by
 obtain⟨e,g,d,t,i⟩:=s;exact PySem.W.make_core (PySem.W.makes_of X c) (PySem.W.looks_findIn X hi) (λa=>PySem.W.bind_fn X a b) (.inl rfl) h
end
def iz(f:Str)(v:V):List (Str×V)->List (Str×V)| []=>[(f,v)]|(g,x)::r=>if g=f then (g,v)::r else (g,x)::iz f v r
theorem Bw(f g:Str)(v:V):∀fs:zK,(iz f v fs).lookup g=if g=f then some v else fs.lookup g
 | []=>by
  show List.lookup g [(f,v)]=_;by_cases h:g=f
  ·have a:(g==f)=true:=beq_iff_eq.mpr h;simp only [List.lookup,a,dn h]
  ·have a:(g==f)=false:=oA.mpr h;simp only [List.lookup,a,dh h]
 |(k,x)::r=>by
  have b:=Bw f g v r;rw[show iz f v ((k,x)::r)=(if k=f then (k,v)::r else (k,x)::iz f v r) from rfl];by_cases hk:k=f
  ·rw[dn hk];by_cases h:g=k
   ·have a:(g==k)=true:=beq_iff_eq.mpr h;simp only [List.lookup,a,dn (h.trans hk)]
   ·have a:(g==k)=false:=oA.mpr h;simp only [List.lookup,a,dh (λe:g=f=>h (e.trans hk.symm))]
  ·rw[dh hk];by_cases h:g=k
   ·have a:(g==k)=true:=beq_iff_eq.mpr h;simp only [List.lookup,a,dh (λe:g=f=>hk (h.symm.trans e))]
   ·have a:(g==k)=false:=oA.mpr h;simp only [List.lookup,a];exact b
theorem vS(f:Str)(v:V):∀fs:zK,f∈(iz f v fs).map (·.1)/\∀g,g∈fs.map (·.1)->g∈(iz f v fs).map (·.1)
 | []=>⟨by simp[iz],λg h=>by simp at h⟩
 |(k,x)::r=>by
  obtain⟨b,a⟩:=vS f v r;rw[show iz f v ((k,x)::r)=(if k=f then (k,v)::r else (k,x)::iz f v r) from rfl];by_cases hk:k=f
  ·rw[dn hk];subst hk;exact⟨by simp,λg h=>by simpa using h⟩
  ·rw[dh hk];refine⟨?_,λg h=>?_⟩
   ·rw[ik];exact jZ _ b
   ·rw[ik]at h⊢;rcases gP.mp h with e|e
    ·exact gP.mpr (.inl e)
    ·exact jZ _ (a g e)
theorem BA(f:Str)(v:V):∀fs:zK,(iz f v fs).length<=fs.length+1
 | []=>by simp[iz]
 |(k,x)::r=>by
  have a:=BA f v r;rw[show iz f v ((k,x)::r)=(if k=f then (k,v)::r else (k,x)::iz f v r) from rfl];by_cases hk:k=f
  ·rw[dn hk,je,je];lia
  ·rw[dh hk,je,je];lia
theorem B0s.some_of{v:V}(r:B0s (some v) o):∃u,o=some u/\A2b v u:=by
 cases o with
 |none=>exact(show False from r).elim
 |some u=>exact bd u rfl r
theorem B0s.none_of(r:B0s none o):o=none:=by
 cases o with
 |none=>rfl
 |some u=>exact(show False from r).elim
theorem AJ{v:V}(r:A2b v u):PySem.W.handedIn u=true:=by
 cases v with
 |non=>cases(show u=Value.none from r);rfl
 |bl b=>cases(show u=Value.bool b from r);rfl
 |int i=>obtain⟨t,e⟩:=(show∃t,u=Value.int i t from r);cases e;rfl
 |str x=>obtain⟨t,e⟩:=(show∃t,u=Value.str x t from r);cases e;rfl
 |byt b=>obtain⟨t,e⟩:=(show∃t,u=Value.bytes b t from r);cases e;rfl
 |flt b=>obtain⟨t,e⟩:=(show∃t,u=Value.float b t from r);cases e;rfl
 |ref a=>cases(show u=Value.ref a from r);rfl
 |ty n=>cases(show u=Value.type n from r);rfl
section
variable{fs fs':zK}
theorem tD(b:HOk P w H h)(e:H a=some (.ins C dx fs)):∃mA,D5x h a dx C mA/\(∀f,B0s (fs.lookup f) (mA f))/\PySem.Within mA (fs.map (·.1))/\fs.length<=1000/\H dx=some (.own a):=by refine wA (show A1h P w H h a (.ins C dx fs) from b a _ e) ?_;rintro d z g c ⟨mA,n,r,q⟩;exact⟨mA,(iT ⟨c,n,g⟩ r q z d)⟩
end
structure Cls(K:Frag)(C:zW):Prop where
 pg:plainGet K C Str.empty=true
 hd:hasDictIn K C=true
 po:plainOver K C=true
 sa:findIn K (.ref C) "__setattr__"=some (some (.builtin "object.__setattr__"))
theorem Cls.get(c:Cls K C)(f:Str):plainGet K C f=true:=c.pg
def A1l(K:Frag)(C:zW)(f:Str):Prop:=findIn K (.ref C) f=some none
theorem A1l.taker{f:Str}(n:A1l K C f):PySem.W.takerIn K C f=some none:=by unfold PySem.W.takerIn;rw[show findIn K (.ref C) f=some none from n];rfl
structure mz(K:Frag)(C:zW)(m:Str)(f:zW):Prop where
 at_:findIn K (.ref C) m=some (some (.ref f))
 fn:isFn K (.ref f)=true
 kp:keepIn K (.ref f)=true
section
variable{fs:zK}{f:Str}{v:V}
theorem Il{b:Bool}(I:Inv X pins Z H s)(e:H a=some (.ins C dx fs))(c:Cls X.K C)(n:A1l X.K C f)(l:fs.lookup f=some v)
  (h:∀u s',Inv X pins Z H s'->A2b v u->Q u s'):wpAny (model X.prog X.w) A (getAttr (.ref a) f b) Q E s:=by
 obtain⟨g,O,r,_,_,_⟩:=tD I.hok e;obtain⟨u,i,d⟩:=B0s.some_of (v:=v) (o:=g f) (by rw[<-l];exact r f);exact kT I.kIn O (c.get f) c.hd n i (AJ d) (h u _ (I.tok _) d)
theorem Ii{g:zW}{Q:zX×List zX->zY->Prop}(I:Inv X pins Z H s)(e:H a=some (.ins C dx fs))(c:Cls X.K C)(k:mz X.K C m g)(l:fs.lookup m=none)
  (h:Q (.ref g,[.ref a]) s):wpAny (model X.prog X.w) A (getMethod (.ref a) m pl) Q E s:=by
 obtain⟨d,O,r,_,_,_⟩:=tD I.hok e;have b:d m=none:=B0s.none_of (by rw[<-l];exact r m);exact Fh I.kIn O (c.get m) k.at_ k.fn b h
theorem HB{Q:Unit->zY->Prop}(I:Inv X pins Z H s)(e:H a=some (.ins C dx fs))(c:Cls X.K C)(n:A1l X.K C f)(D:fs.length<1000)(t:A2b y u)
  (h:∀s',Inv X pins Z (upd H a (.ins C dx (iz f y fs))) s'->Q () s'):wpAny (model X.prog X.w) A (setAttr (.ref a) f u) Q E s:=by
 obtain⟨d,O,r,i,_,j⟩:=tD I.hok e;have v:(fs.map (·.1)).length<=sizeLine:=by rw[dm,sizeLine_eq];lia
 refine Eg I.kIn O c.sa c.po n.taker c.hd i v λk O' l=>h _ ?_;have p:∃o,k.get? dx=some o:=let⟨o,_,_,e',_⟩:=O'.ns;⟨o,e'⟩;refine I.write (x:=a) (e:=dx) (by rw[e];exact True.intro) (.inr j) (λb q m z=>(l.2 b m).trans z) p ?_;refine iT (by rw[dt O.ne];exact j) ?_ O.ne O'.obj (eh _ O'.ns (λg=>?_) λg B=>?_)
 ·have:=BA f y fs;lia
 ·show B0s ((iz f y fs).lookup g) (if g=f then some u else d g);rw[Bw];by_cases q:g=f
  ·rw[dn q,dn q];exact t
  ·rw[dh q,dh q];exact r g
 ·by_cases q:g=f
  ·rw[q];exact(vS f y fs).1
  ·refine(vS f y fs).2 g (i g λz=>B ?_);show(if g=f then some u else d g)=none;rw[dh q];exact z
theorem Inv.made(I:Inv X pins Z H s):Inv X pins Z (upd (upd H s.heap.objs.size (.own (s.heap.objs.size+1))) (s.heap.objs.size+1) (.ins C s.heap.objs.size []))
  {s with heap:=(s.heap.push emptyDict).push (instObj C s.heap.objs.size)}:=by
 have c:(s.heap.push emptyDict).get? s.heap.objs.size=some emptyDict:=hU s.heap rfl
 have f:((s.heap.push emptyDict).push (instObj C s.heap.objs.size)).get? (s.heap.objs.size+1)=some (instObj C s.heap.objs.size):=by
  have:=hU (s.heap.push emptyDict) (o:=instObj C s.heap.objs.size) rfl
  rwa[lR]at this
 have i:(s.heap.push emptyDict).Ns s.heap.objs.size (λ_=>none):=(iE emptyDict (#[]) _ c rfl (λe g=>absurd g (by simp)) λ_=>rfl);have I1:=I.laid (a:=s.heap.objs.size) (o:=.own (s.heap.objs.size+1)) (h':=s.heap.push emptyDict) (t':=s.toks) (λb u q=>fy _ q) (fa _) ⟨_,c⟩;refine I1.laid (a:=s.heap.objs.size+1) (o:=.ins C s.heap.objs.size []) (t':=s.toks) (λb u q=>fy _ q) (Nat.le_of_eq (lR _ _)) ?_;have d:s.heap.objs.size≠s.heap.objs.size+1:=iy (Nat.lt_succ_self _);refine iT (by rw[dt d,ck]) (jm _) d f (eh (λ_=>none) ((Heap.Ns1.of_empty i).at λo q=>fy _ q) (λ_=>True.intro) λy h=>absurd rfl h)
theorem yk{f:Str}(a:attributeBase e f env (eval e env)=eval e env)
  (h:wpAny (model prog w) A (eval e env) (λo s₁=>wpAny (model prog w) A (getAttr o f true) Q E s₁) E s):wpAny (model prog w) A (eval (.Attribute e f pos) env) Q E s :=
 Attribute_any_ h (by rw[arm_eval_Attribute,a])
end
def tFld(K:Frag)(ta:TE)(f:Str):TE:=λZ H Q=>ta Z H λx c=>∃a C d b v,x=.ref a/\c a=some (.ins C d b)/\Cls K C/\A1l K C f/\b.lookup f=some v/\Q v c
def sFld(K:Frag)(ta tv:TE)(f:Str):TS:=λD Z H=>tv Z H λy e=>ta Z e λx d=>∃a C c b,x=.ref a/\d a=some (.ins C c b)/\Cls K C/\A1l K C f/\b.length<1000/\
 D.nx Z (upd d a (.ins C c (iz f y b)))
section
variable{o:yC}{f:Str}
theorem lj(m:PE X e ta)(k:attributeBase e f X.env (eval e X.env)=eval e X.env):PE X (.Attribute e f pos) (tFld X.K ta f):=by intro b s Z H Q I h;refine yk k (thn (m b s Z H _ I h) ?_);rintro u w d;refine oy d ?_;clear d;rintro x o I1 g a C z ⟨r,v,p,i,c,n,l,q⟩;subst p;obtain rfl:u=Value.ref a:=g;exact Il I1 i c n l λt y I2 j=>(eu v o I2 j q)
theorem jU(k:PE X o ta)(m:PE X value tv)(hs:swapsWith value (some (.Attribute o f pos')) pos.line X.env=pure false):PS X (.Assign [.Attribute o f pos'] value pos) (sFld X.K ta tv f):=by intro b s Z H D I h;refine plainObj_wpAny_Assign_Attribute (thn (m b s Z H _ I h) ?_) hs;rintro u g ⟨y,v,I1,i,q⟩;refine thn (k b g Z v _ I1 q) ?_;rintro t B d;refine oy d ?_;clear d;rintro x z I2 e a C F ⟨w,j,r,c,n,l,p⟩;subst j;obtain rfl:t=Value.ref a:=e;exact HB I2 r c n l i λA I3=>(hZ Z _ I3 p)
end
section
variable{c:zX}{b:Bool}
inductive kZ(K:Frag)(H:Hp):V->zX->Prop where
 |non:kZ K H .non (.type "NoneType")
 |bl (x:Bool):kZ K H (.bl x) (.type "bool")
 |int (i:Int):kZ K H (.int i) (.type "int")
 |str (x:Str):kZ K H (.str x) (.type "str")
 |flt (x:UInt64):kZ K H (.flt x) (.type "float")
 |lst {a:zW} {xs:zM} (e:H a=some (.lst xs)):kZ K H (.ref a) (.type "list")
 |frz {a:zW} {o:Obj} {xs:zM} (e:H a=some (.frz o (.lst xs))):kZ K H (.ref a) (.type "list")
 |tup {a:zW} {xs:zM} (e:H a=some (.tup xs)):kZ K H (.ref a) (.type "tuple")
 |dK {a:zW} {kvs:zJ} (e:H a=some (.dK kvs)):kZ K H (.ref a) (.type "dict")
 |dT {a:zW} {kvs:List (List Key×V)} (e:H a=some (.dT kvs)):kZ K H (.ref a) (.type "dict")
 |ins {a C dx:zW} {fs:zK} (e:H a=some (.ins C dx fs)) (cl:Cls K C) (ha:findIn K (.ref C) "__class__"=some (some (.builtin "object.__class__")))
   (hn:specialIn K (.builtin "object.__class__") "__get__"=some (some (.builtin "getset_descriptor.__get__"))) (htk:takesIn K (.builtin "object.__class__")=some true)
   (hm:mroIn K C (.type "object")=some true):kZ K H (.ref a) (.ref C)
theorem GD{x:V}{t:zX}(I:Inv X pins Z H s)(d:A2b x u)(ty:kZ X.K H x t)(e:kitOne X.K t c=some b)(h:∀tk,Q (.bool b) {s with toks:=tk}):
  wpAny (model X.prog X.w) A (call (.builtin "isinstance") [u,c]) Q E s:=by
 cases ty with
 |non=>cases(show u=Value.none from d);exact PySem.W.kia_one PySem.W.kitx_none I.kIn True.intro e (λz=>nomatch z) h
 |bl y=>cases(show u=Value.bool y from d);exact PySem.W.kia_one PySem.W.kitx_bool I.kIn True.intro e (λz=>nomatch z) h
 |int i=>obtain⟨t,q⟩:=(show∃t,u=Value.int i t from d);cases q;exact PySem.W.kia_one PySem.W.kitx_int I.kIn True.intro e (λz=>nomatch z) h
 |str y=>obtain⟨t,q⟩:=(show∃t,u=Value.str y t from d);cases q;exact PySem.W.kia_one PySem.W.kitx_str I.kIn True.intro e (λz=>nomatch z) h
 |flt y=>obtain⟨t,q⟩:=(show∃t,u=Value.float y t from d);cases q;exact PySem.W.kia_one PySem.W.kitx_float I.kIn True.intro e (λz=>nomatch z) h
 |@lst a g ea=>
  cases(show u=Value.ref a from d)
  obtain⟨_,_,n,_,f⟩:=(show A1h X.prog X.w H s.heap a (.lst g) from I.hok a _ ea);exact PySem.W.kia_one PySem.W.kitx_list I.kIn (bd _ f rfl) e (λz=>nomatch z) h
 |@frz a ob g ea=>
  cases(show u=Value.ref a from d)
  obtain⟨_,_,_,n,_,f⟩:=(show A1h X.prog X.w H s.heap a (.frz ob (.lst g)) from I.hok a _ ea);exact PySem.W.kia_one PySem.W.kitx_list I.kIn (bd _ f rfl) e (λz=>nomatch z) h
 |@tup a g ea=>
  cases(show u=Value.ref a from d)
  obtain⟨_,_,_,p⟩:=(show A1h X.prog X.w H s.heap a (.tup g) from I.hok a _ ea);obtain⟨o,f,j,_⟩:=p;exact PySem.W.kia_one PySem.W.kitx_tuple I.kIn (bd o f j) e (λz=>nomatch z) h
 |@dK a kvs ea=>
  cases(show u=Value.ref a from d)
  obtain⟨_,_,r,_,p⟩:=(show A1h X.prog X.w H s.heap a (.dK kvs) from I.hok a _ ea);obtain⟨o,k,l,f,j,_⟩:=p;exact PySem.W.kia_one PySem.W.kitx_dict I.kIn (bd o f j.1) e (λz=>nomatch z) h
 |@dT a kvs ea=>
  cases(show u=Value.ref a from d)
  refine kr (show A1h X.prog X.w H s.heap a (.dT kvs) from I.hok a _ ea) ?_;rintro _ _ g _ o k l f ⟨j,_⟩;exact PySem.W.kia_one PySem.W.kitx_dict I.kIn (bd o f j.1) e (λz=>nomatch z) h
 |@ins a C dx fs ea cl ha hn htk hm=>
  cases(show u=Value.ref a from d)
  obtain⟨m,O,_⟩:=tD I.hok ea;obtain⟨v,J,_⟩:=O.look;exact PySem.W.kia_one (PySem.W.kitx_own (cl.get _) cl.hd ha hn htk hm) I.kIn J e (λz=>nomatch z) h
end
structure A5p(k:Nat)(A:zZ):Prop where
 hd:A.handled=none
 dp:A.depth+3*k+5<recursionLimit
 un:A.units+16*k+200<cLine
 gd:A.guards=some []
theorem A5p.mono{k:Nat}(r:A5p k A)(h:j<=k):A5p j A:=⟨r.hd,by have:=r.dp;lia,by have:=r.un;lia,r.gd⟩
theorem A5p.deeper{k:Nat}(r:A5p (k+1) A)(env:Env):A5p k (A.deeper env):=⟨r.hd,by have:=r.dp;show A.depth+1+3*k+5<_;lia,by have:=r.un;show A.units+3+16*k+200<_;lia,r.gd⟩
theorem HI:(A.under (.builtin "type.__call__" ⟨.ref C::us,kw⟩)).depth=A.depth+1:=by first|rfl|simp[Around.under,Code.weight,Code.isCreation,Code.isGuard,Code.isCaller,Code.frames,Code.isFrame,guardIds]
theorem HP:(A.under (.builtin "type.__call__" ⟨.ref C::us,kw⟩)).units=A.units+1:=by first|rfl|simp[Around.under,Code.cUnits,Code.frames,Code.isFrame]
theorem IU:(A.under (.builtin "type.__call__" ⟨.ref C::us,kw⟩)).guards=A.guards:=by
 show pushGuards (Code.guards (.builtin "type.__call__" ⟨.ref C::us,kw⟩)) A.guards=A.guards;have h:Code.isGuard (.builtin "type.__call__" ⟨.ref C::us,kw⟩)=false:=by first|rfl|(simp[Code.isGuard,guardIds])|decide
 unfold Code.guards;rw[h];cases A.guards<;>rfl
theorem A5p.make{k:Nat}(r:A5p (k+1) A)(C:zW)(us:zH)(kw:List (Str×zX)):A5p k (A.under (.builtin "type.__call__" ⟨.ref C::us,kw⟩)):=⟨r.hd,by have:=r.dp;rw[HI];lia,by have:=r.un;rw[HP];lia,by rw[IU];exact r.gd⟩
theorem A5p.depth{k:Nat}(r:A5p k A):A.depth<recursionLimit:=by have:=r.dp;lia
theorem A5p.units{k:Nat}(r:A5p k A):A.units+64<cLine:=by have:=r.un;lia
def wT:TA:=λ_ H Q=>Q [] H
def xb(ta:TE)(c:TA):TA:=λZ H Q=>ta Z H λx b=>c Z b λd a=>Q (x::d) a
theorem ec:PA X [] wT:=λ_ _ _ _ H Q I h=>Calls.spliced_nil (eu [] H I .nil h)
theorem bp(n:PE X e te)(c:PA X es t)(hs:starEach (e::es) X.env=(false,eval e X.env)::starEach es X.env:=by rfl):PA X (e::es) (xb te t):=by intro b a s Z H Q I h;rw[hs];show wpAny _ _ (spliced ((false,eval e X.env)::backTo b (starEach es X.env))) _ _ s;refine Calls.spliced_cons (thn (n a s Z H _ I h) ?_);rintro u j ⟨x,l,I1,k,g⟩;exact thn (c b a j Z l _ I1 g) (by rintro o p ⟨m,i,I2,f,d⟩;exact eu (x::m) i I2 (.cons k f) d)
def tTup(t:TA):TE:=λZ H Q=>t Z H λb a=>b.length<=sizeLine/\∀p,a p=none->Q (.ref p) (upd a p (.tup b))
def tLst(t:TA):TE:=λZ H Q=>t Z H λb a=>b.length<=sizeLine/\∀p,a p=none->Q (.ref p) (upd a p (.lst b))
theorem jJ{x1}(h:PA X es t):PE X (.Tuple es x1 pos) (tTup t):=by intro a s Z H Q I f;refine wpAny_Tuple_spliced (thn (h pos a s Z H _ I f) λg c ⟨j,d,I1,r,z,q⟩=>⟨by rw[<-r.length];exact z,?_⟩);have i:d c.heap.objs.size=none:=I1.hok.fresh (fa _);refine eu (.ref c.heap.objs.size) (upd d c.heap.objs.size (.tup j)) (I1.laid (t':=c.toks) (λb u e=>fy _ e) (fa _) ?_) rfl (q _ i);exact ul z g r _ (hU _ rfl) rfl _ rfl
theorem iJ(h:PA X es t):PE X (.List es pos) (tLst t):=by intro a s Z H Q I f;refine wpAny_List_spliced (thn (h pos a s Z H _ I f) λg c ⟨j,d,I1,r,z,q⟩=>⟨by rw[<-r.length];exact z,?_⟩);have i:d c.heap.objs.size=none:=I1.hok.fresh (fa _);refine eu (.ref c.heap.objs.size) (upd d c.heap.objs.size (.lst j)) (I1.laid (t':=c.toks) (λb u e=>fy _ e) (fa _) ?_) rfl (q _ i);exact kW z g 0 r (hU _ rfl)
abbrev Sp:=zM->Hp->VK->XK->Prop
abbrev CXT:=List Env->Hp->zY->XK->zX->zY->Prop
structure C9o(P:yB)(w:yD)(K:Frag)(mg:zE)(base:yA)(A:zZ)(outer:List Env)(s:zY)(H:Hp):Prop where
 frames:A.frames=some outer
 mod:Mod K mg base
 bs:∀b o,base.get? b=some o->s.heap.get? b=some o/\H b=none
 bsz:base.objs.size<=s.heap.objs.size
 funs:s.heap.FunFrames base outer
 frf:∀b∈frs outer,H b=none
 hok:HOk P w H s.heap
 bare:AllBare s.gens
def CE(outer:List Env)(P:yB)(w:yD)(H:Hp)(s:zY)(Q:VK)(u:zX)(s':zY):Prop :=∃v a,s'.os=s.os/\AllBare s'.gens/\Un (frs outer) [] H a s.heap s'.heap/\HOk P w a s'.heap/\A2b v u/\Q v a
def CR(CX:CXT)(outer:List Env)(P:yB)(w:yD)(H:Hp)(s:zY)(Q:VK)(E:XK)(r:Result)(s':zY):Prop :=
 match r with
 |.ok (.ret u)=>CE outer P w H s Q u s'
 |.ok _=>False
 |.error e=>CX outer H s E e s'
structure A4u(P:yB)(w:yD)(K:Frag)(mg:zE)(base:yA)(CX:CXT)(k:Nat)(f:zW)(fd:zS)(ps:zC)(sp:Sp):Prop where
 len:∀vs H Q E,sp vs H Q E->vs.length=ps.length
 run:∀(A:zZ)(outer:List Env)(s:zY)(H:Hp)(args:Args)(us:zH)(vs:zM)(Q:VK)(E:XK),A5p k A->C9o P w K mg base A outer s H->BindsTo s fd args (ps.zip us)->A2k vs us->sp vs H Q E->
  codeAny (model P w) A (.call (.ref f) args) (CR CX outer P w H s Q E) s
theorem A4u.mono{k:Nat}{f:zW}{sp:Sp}(F:A4u P w K mg base CX j f fd ps sp)(h:j<=k):
  A4u P w K mg base CX k f fd ps sp:=⟨F.len,λA a s H b d c Q E e=>F.run A a s H b d c Q E (e.mono h)⟩
theorem C9o.make{outer:List Env}(e:C9o P w K mg base A outer s H)(C:zW)(us:zH)(kw:List (Str×zX)):
  C9o P w K mg base (A.under (.builtin "type.__call__" ⟨.ref C::us,kw⟩)) outer s H:=⟨by first|exact e.frames|(simpa[Around.under,Code.envs,Code.isFrame,pushEnvs]using e.frames),e.mod,e.bs,e.bsz,e.funs,e.frf,e.hok,e.bare⟩
theorem Inv.env0(I:Inv X pins Z H s):C9o X.prog X.w X.K X.mg X.base X.A X.stack s H :=⟨I.ok.frames,I.ok.mod,I.bs,jT I.ok.bsz I.sz,I.stack,I.stkFree,I.hok,I.bare⟩
theorem Inv.after{Q:VK}(I:Inv X pins Z H s)(h:CE X.stack X.prog X.w H s Q u s'):EP X pins Z Q u s':=by refine iq h ?_;clear h;rintro v i k a f c ⟨r,q⟩;obtain⟨j,g,d,t,e⟩:=s';obtain rfl:e=s.os:=k;exact eu v i (I.call (h':=j) (g':=g) (d':=d) (t':=t) (ch:=[]) f c a (λb z=>absurd z (by simp))) r q
def uH(sp:Sp)(dvs:zM)(E:XK)(t:TA):TE:=λZ H Q=>t Z H λb a=>sp (b++dvs) a Q E
def xg(C:zW)(sp:Sp)(dvs:zM)(E:XK)(t:TA):TE:=λZ H Q=>t Z H λc b=>∀x a,b x=none->b a=none->a≠x->
 sp (.ref x::(c++dvs)) (upd (upd b a (.own x)) x (.ins C a [])) (λv d=>v=.non/\Q (.ref x) d) E
def A7h(K:Frag)(fd:zS)(ps:zC)(ds:zH):Prop :=∀(s:zY)(a:zH),K.In s.heap->(a++ds).length=ps.length->BindsTo s fd ⟨a,[]⟩ (ps.zip (a++ds))
theorem A7h.all(h:∀us:zH,us.length=ps.length->bindArgs fd ⟨us,[]⟩=pure (ps.zip us)):A7h K fd ps []:=λs us _ a=>by rw[lU]at a⊢;exact .of_eq (h us a)
def pd(CX:CXT)(X:Cx)(E:XK):Prop:=∀(a:zD)(Z:St)(H:Hp)(s:zY)(e:zX)(b:zY),Inv X a Z H s->CX X.stack H s E e b->X.xe e b
section
variable{CX:CXT}{k:Nat}{f:zW}{sp:Sp}{E:XK}{o:yC}
theorem xR{Q:VK}(F:A4u X.prog X.w X.K X.mg X.base CX k f fd ps sp)(g:A5p k X.A)(j:A7h X.K fd ps ds)(l:A2k dvs ds)(d:pd CX X E)
  (I:Inv X pins Z H s) (r:A2k vs us) (h:sp (vs++dvs) H Q E):wpAny (model X.prog X.w) X.A (call (.ref f) us) (EP X pins Z Q) X.xe s:=by
 have b:A2k (vs++dvs) (us++ds):=r.append l;have c:(us++ds).length=ps.length:=by rw[<-b.length];exact F.len _ _ _ _ h
 refine wpAny_call (codeAny_mono (F.run X.A X.stack s H ⟨us,[]⟩ (us++ds) (vs++dvs) Q E g I.env0 (j s us I.kIn c) b h) λr i a=>?_)
 cases r with
 |error e=>exact d pins Z H s e i I a
 |ok fl=>
  cases fl with
  |ret u=>exact I.after a
  |next=>exact False.elim a
  |brk=>exact False.elim a
  |cont=>exact False.elim a
theorem Ei(F:A4u X.prog X.w X.K X.mg X.base CX k f fd ps sp)(d:A5p k X.A)(n:Gl X x)(g:X.mg x=some (.ref f))(o:keepIn X.K (.ref f)=true)(i:A7h X.K fd ps ds)(j:A2k dvs ds)(m:pd CX X E)
  (u:PA X (e::es) t) (c:(x==("__debug__":Str))=false:=by decide) (l:starEach (e::es) X.env=(false,eval e X.env)::starEach es X.env:=by rfl) (b:(backTo pos (starEach es X.env)).any (·.1)=false:=by rfl):
  PE X (.Call (.Name x p) (e::es) [] pos) (uH sp dvs E t):=by
 intro a s Z H Q I h;refine wpAny_Call_Name_kw (pQ I n g ?_ c);refine PySem.W.callWith_K (h₀:=X.base) I.ok.mod.kin o (thn (u pos a s Z H _ I h) λv y ⟨z,B,I1,r,q⟩=>⟨I1.kIn,?_⟩) l b;exact xR F d i j m I1 r q
structure Mk(K:Frag)(C f:zW):Prop where
 makes:makesIn K C=true
 init:findIn K (.ref C) "__init__"=some (some (.ref f))
 fn:isFn K (.ref f)=true
 kp:keepIn K (.ref C)=true
theorem E8{Q:VK}(M:Mk X.K C f)(F:A4u X.prog X.w X.K X.mg X.base CX k f fd ps sp)(i:A5p (k+1) X.A)(m:A7h X.K fd ps ds)(n:A2k dvs ds)
  (p:pd CX X E) (I:Inv X pins Z H s) (r:A2k vs us)
  (h:∀x dx,H x=none->H dx=none->dx≠x->sp (.ref x::(vs++dvs)) (upd (upd H dx (.own x)) x (.ins C dx [])) (λv H2=>v=.non/\Q (.ref x) H2) E):
  wpAny (model X.prog X.w) X.A (call (.ref C) us) (EP X pins Z Q) X.xe s:=by
 have b:=h (s.heap.objs.size+1) s.heap.objs.size (I.hok.fresh (Nat.le_succ _)) (I.hok.fresh (fa _)) (iy (Nat.lt_succ_self _));have I2:=Inv.made (C:=C) I;have c:A2k (V.ref (s.heap.objs.size+1)::(vs++dvs)) (Value.ref (s.heap.objs.size+1)::(us++ds)):=.cons rfl (r.append n)
 have d:(Value.ref (s.heap.objs.size+1)::us++ds).length=ps.length:=by have e:=c.length;rw[F.len _ _ _ _ b]at e;exact e.symm
 refine wpAny_call (Fm (f:=f) I.kIn M.makes M.init (beq_iff_eq.mp M.fn) (codeAny_mono (F.run _ X.stack _ _ ⟨Value.ref (s.heap.objs.size+1)::us,[]⟩ (Value.ref (s.heap.objs.size+1)::(us++ds)) _ _ E (i.make C us [])
  (I2.env0.make C us []) (m _ (Value.ref (s.heap.objs.size+1)::us) I2.kIn d) c b) λr l a=>?_))
 cases r with
 |error e=>exact p pins Z _ _ e l I2 a
 |ok fl=>
  cases fl with
  |ret u=>obtain⟨v,o,I3,g,j,q⟩:=I2.after a;subst j;exact jp g (V.ref (s.heap.objs.size+1)) o I3 rfl q
  |next=>exact False.elim a
  |brk=>exact False.elim a
  |cont=>exact False.elim a
theorem EJ(M:Mk X.K C f)(F:A4u X.prog X.w X.K X.mg X.base CX k f fd ps sp)(d:A5p (k+1) X.A)(n:Gl X x)(g:X.mg x=some (.ref C))(i:A7h X.K fd ps ds)(j:A2k dvs ds)(m:pd CX X E)
  (o:PA X (e::es) t) (c:(x==("__debug__":Str))=false:=by decide) (l:starEach (e::es) X.env=(false,eval e X.env)::starEach es X.env:=by rfl) (b:(backTo pos (starEach es X.env)).any (·.1)=false:=by rfl):
  PE X (.Call (.Name x p) (e::es) [] pos) (xg C sp dvs E t):=by
 intro a s Z H Q I h;refine wpAny_Call_Name_kw (pQ I n g ?_ c);refine PySem.W.callWith_K (h₀:=X.base) I.ok.mod.kin M.kp (thn (o pos a s Z H _ I h) λu v ⟨y,z,I1,r,q⟩=>⟨I1.kIn,?_⟩) l b;exact E8 M F d i j m I1 r q
end
section
variable{CX:CXT}{k:Nat}{f:zW}{sp:Sp}{E:XK}{o:yC}
variable{g:zH->List zX->List zX}
end
structure gQ(N P:zC)(sc:Scope):Prop where
 kind:sc.kind=.function
 co:sc.isCoroutine=false
 gen:sc.isGenerator=false
 nd:N.Nodup
 pre:N.take P.length=P
 par:∀x∈P,sc.names.lookup x=some .local\/sc.names.lookup x=some .cell
 nofree:∀y∈sc.names,y.2≠.free
theorem AI{b:Str->Option NameKind}{x:Str}:∀{a:List (Str×zX)}{m:zE},(∀v,(x,v)∉a)->bindL b a m x=m x
 | [],_,_=>rfl
 |(n,v)::r,m,h=>by
  unfold bindL;rw[AI λw c=>h w (jZ _ c)];split
  ·have:x≠n:=by rintro rfl;exact h v kX
   simp[this]
  ·rfl
theorem A8{b:Str->Option NameKind}{x:Str}:∀{a:List (Str×zX)}{m:zE},(∀v,(x,v)∉a)->bindC b a m x=m x
 | [],_,_=>rfl
 |(n,v)::r,m,h=>by
  unfold bindC;rw[A8 λw c=>h w (jZ _ c)];split
  ·rfl
  ·have:x≠n:=by rintro rfl;exact h v kX
   simp[this]
theorem AD{a:Str->Option NameKind}{x:Str}{v:zX}:∀{P:zC}{vs:zH}{i:Nat}{m:zE},P.Nodup->P[i]?=some x->vs[i]?=some v->a x=some .local->
  bindL a (P.zip vs) m x=some v
 | [],_,_,_,_,h,_,_=>by simp at h
 |_::_,[],_,_,_,_,h,_=>by simp at h
 |p::P,w::vs,0,m,nd,h1,h2,hk=>by simp at h1 h2;subst h1;subst h2;show bindL a ((p,w)::P.zip vs) m p=_;unfold bindL;rw[AI λv b=>(oU.mp nd).1 (List.of_mem_zip b).1,dn hk];simp
 |p::P,w::vs,i+1,m,nd,h1,h2,hk=>by show bindL a ((p,w)::P.zip vs) m x=_;unfold bindL;exact AD (i:=i) (oU.mp nd).2 (by simpa using h1) (by simpa using h2) hk
theorem Bd{a:Str->Option NameKind}{x:Str}{v:zX}:∀{P:zC}{vs:zH}{i:Nat}{m:zE},P.Nodup->P[i]?=some x->vs[i]?=some v->a x≠some .local->
  bindC a (P.zip vs) m x=some v
 | [],_,_,_,_,h,_,_=>by simp at h
 |_::_,[],_,_,_,_,h,_=>by simp at h
 |p::P,w::vs,0,m,nd,h1,h2,hk=>by simp at h1 h2;subst h1;subst h2;show bindC a ((p,w)::P.zip vs) m p=_;unfold bindC;rw[A8 λv b=>(oU.mp nd).1 (List.of_mem_zip b).1,dh hk];simp
 |p::P,w::vs,i+1,m,nd,h1,h2,hk=>by show bindC a ((p,w)::P.zip vs) m x=_;unfold bindC;exact Bd (i:=i) (oU.mp nd).2 (by simpa using h1) (by simpa using h2) hk
def start(N:zC)(vs:zM):St:=vs.map some++List.replicate (N.length-vs.length) none
def oE(CX:CXT)(P:yB)(w:yD)(K:Frag)(mg:zE)(base:yA)(N:zC)(qual:Str)(scope:Scope)(f:zW)(cd:zX)(A:zZ)(outer:List Env)(s:zY)(H:Hp)(E:XK):Cx where
 prog:=P
 w:=w
 K:=K
 mg:=mg
 base:=base
 A:=A.deeper (envOfC qual scope s.heap.objs.size f cd)
 N:=N
 s₀:=s
 H₀:=H
 env:=envOfC qual scope s.heap.objs.size f cd
 outer:=outer
 stack:=envOfC qual scope s.heap.objs.size f cd::outer
 ex:=[]
 calm:=true
 fn:=λ_=>true
 pn:=[]
 xe:=λe b=>wpAny (model P w) (A.deeper (envOfC qual scope s.heap.objs.size f cd)) (leaving (envOfC qual scope s.heap.objs.size f cd) e) (λ_ a=>CX outer H s E e a) (λc a=>CX outer H s E c a) b
theorem Ae{a:Scope}(h:a.names.lookup x=some .cell):∃c,(cellsFrom n a.names []).lookup x=some c:=by have q:=PySem.W.cellsFrom_some a.names n [] (.inl h);exact Option.isSome_iff_exists.mp q
theorem AM{f:zW}{outer:List Env}{E:XK}
  (S:gQ N ps scope) (I:A.handled=none) (g:C9o P w K mg base A outer s H) (L:vs.length=ps.length) (r:A2k vs us)
  (x:InCallC s s.heap.objs.size (bindL (envOfC qual scope s.heap.objs.size f cd).kindOf (ps.zip us) λ_=>none) (cellsFrom (s.heap.objs.size+1) scope.names []) (bindC (envOfC qual scope s.heap.objs.size f cd).kindOf (ps.zip us) λ_=>none) s1):
  Inv (oE CX P w K mg base N qual scope f cd A outer s H E) [] (start N vs) H s1:=by
 have F:ps.length<=N.length:=by have:=congrArg List.length S.pre;rw[jf]at this;lia
 obtain⟨t,O,rfl,D⟩:=x.done;have j:∀b:zW,b∉(oE CX P w K mg base N qual scope f cd A outer s H E).ex:=λb z=>absurd (show b∈([]:zQ) from z) (by simp)
 refine⟨⟨g.mod,S.kind,rfl,rfl,fa _,λy z c t d=>?_,λy l=>?_,λy c _ h=>?_,λ_=>I,Around.frames_deeper g.frames,.inr ⟨rfl,rfl⟩,λb z=>absurd z (j b),g.bs,g.bsz,λb _ _=>j b,λb z=>absurd z (j b),g.funs,g.frf⟩,
  rfl,g.bare,Un.kept D,(bd _ x.toInCall.ns λi y v t d M=>?_),λy c h=>⟨_,x.cell y c h⟩,g.hok.fresh (fa _),λy c h=>?_,λp o=>absurd (show p∈([]:zD) from o) (by simp),g.hok.kept D,?_⟩
 ·exact name_of_addr x.apart (PySem.mem_of_lookup t) (PySem.mem_of_lookup d)
 ·have l:scope.names.lookup y=some .cell\/scope.names.lookup y=some .free:=l;rcases l with l|l
  ·exact Ae l
  ·exact absurd rfl (S.nofree _ (PySem.mem_of_lookup l))
 ·exact Nat.le_of_lt (x.above y c (PySem.mem_of_lookup h))
 ·have B:i<vs.length:=by
   unfold start at d;by_cases B:i<vs.length
   ·exact B
   ·rw[nP (by simpa using B)]at d;rw[List.getElem?_replicate]at d;split at d<;>cases d
  have J:vs[i]?=some v:=by
   unfold start at d;rw[nj (by simpa using B),iG]at d
   cases e:vs[i]? with
   |none=>rw[e]at d;cases d
   |some a=>rw[e]at d;cases d;rfl
  obtain⟨u,C,G⟩:=r.get J
  have o:ps[i]?=some y:=by rw[<-S.pre,List.getElem?_take_of_lt (by lia)];exact t
  have m:ps.Nodup:=by rw[<-S.pre];exact S.nd.sublist (List.take_sublist _ _)
  refine bd u G ?_;rcases S.par y (gJ o)with k|k
  ·exact .inl ⟨k,AD m o C k⟩
  ·obtain⟨c,e⟩:=Ae (n:=s.heap.objs.size+1) k;refine .inr (iB (.inl k) c e ?_);have q:=x.cell y c e;rw[Bd m o C (by show scope.names.lookup y≠_;rw[k];decide)]at q;exact q
 ·exact g.hok.fresh (Nat.le_of_lt (x.above y c (PySem.mem_of_lookup h)))
 ·unfold start;show _=N.length;rw[ic,dm,List.length_replicate]
  lia
theorem xf{k:Nat}{f:zW}{c:Arguments}{G kV l a:zX}
 {N:zC} {sp:Sp} (lk:K.lookup f=some ⟨oc,od,.func (fnOf name qual c body scope G kV l pm an a ct),osl⟩) (z:codeIn K a qual=true) (S:gQ N ps scope)
  (p:∀vs H Q E,sp vs H Q E->vs.length=ps.length)
  (g:∀(A:zZ)(outer:List Env)(s:zY)(H:Hp)(vs:zM)(Q:VK)(E:XK),A5p k (A.deeper (envOfC qual scope s.heap.objs.size f a))->sp vs H Q E->
   ∃t,PSs (oE CX P w K mg base N qual scope f a A outer s H E) body t/\t {nx:=λ_ H'=>Q .non H',rt:=Q} (start N vs) H):
  A4u P w K mg base CX (k+1) f (fnOf name qual c body scope G kV l pm an a ct) ps sp:=by
 refine⟨p,λA outer s H F L vs Q E C m O r i=>?_⟩;have T:=p _ _ _ _ i;have KX:K.In s.heap:=m.mod.kin.keeps λb o e=>(m.bs b o e).1;have D:s.heap.NoLimit:=m.mod.nolimit.keeps λb o e=>(m.bs b o e).1
 have d:∀y∈ps.zip L,scope.names.lookup y.1=some .local\/(scope.names.lookup y.1=some .cell/\((cellsFrom (s.heap.objs.size+1) scope.names []).lookup y.1).isSome=true):=λ⟨n,v⟩ Y=>by
  rcases S.par n (List.of_mem_zip Y).1 with q|q
  ·exact .inl q
  ·exact .inr ⟨q,PySem.W.cellsFrom_some _ _ _ (.inl q)⟩
 refine codeAny_call_function C.depth (KX _ _ lk) rfl S.co S.gen rfl (PySem.W.codeRec_of KX z) (O _ _ _ _ ?_);refine wpAny_newFunctionEnv_cells S.kind d λM Z s1 x=>?_;subst Z;refine⟨D.keeps x.toInCall.keep,codeAny_func ?_⟩;obtain⟨t,X,U⟩:=g A outer s H vs Q E (C.deeper _) i;have I:Inv (oE CX P w K mg base N qual scope f a A outer s H E) [] (start N vs) H s1:=AM S C.hd m T r x;refine iV (X [] s1 (start N vs) H _ I U) (λR s' h=>?_) λe s' h=>h
 have j:∀{Z':St}{H':Hp}{v:V}{u:zX},Inv (oE CX P w K mg base N qual scope f a A outer s H E) [] Z' H' s'->A2b v u->Q v H'->CE outer P w H s Q u s' :=λ{Z' H' v u} J B q=>(mM v H' J.os J.bare J.base J.hok B q)
 cases R with
 |ret u=>obtain⟨v,Z',H',J,B,q⟩:=h;exact j J B q
 |next=>obtain⟨Z',H',J,q⟩:=h;exact j (v:=V.non) (u:=Value.none) J rfl q
 |brk=>obtain⟨_,_,_,q⟩:=h;exact False.elim q
 |cont=>obtain⟨_,_,_,q⟩:=h;exact False.elim q
section
variable{id:String}
def tCB(r:zM->Hp->VK->Prop)(t:TA):TE:=λZ H Q=>t Z H λb a=>r b a Q
theorem jb(k:mZ X (.builtin id) r)(q:Gl X x)(i:X.mg x=none)(d:bootBuiltins x=some (.builtin id))(u:PA X (e::es) t)(hn:x≠"__name__":=by decide)(c:(x==("__debug__":Str))=false:=by decide)
  (m:starEach (e::es) X.env=(false,eval e X.env)::starEach es X.env:=by rfl) (b:(backTo pos (starEach es X.env)).any (·.1)=false:=by rfl):PE X (.Call (.Name x p) (e::es) [] pos) (tCB r t):=by
 intro a s Z H Q I h;refine wpAny_Call_Name_kw (nF I q i d ?_ hn c);exact PyProof.Rows.callWith_builtin1 (thn (u pos a s Z H _ I h) (by rintro f j ⟨n,o,I1,l,g⟩;exact k a j Z o n f Q I1 l g)) m b
theorem mh(k:mZ X (.type T) r)(q:Gl X x)(i:X.mg x=none)(d:bootBuiltins x=some (.type T))(u:PA X (e::es) t)(hn:x≠"__name__":=by decide)(c:(x==("__debug__":Str))=false:=by decide)
  (m:starEach (e::es) X.env=(false,eval e X.env)::starEach es X.env:=by rfl) (b:(backTo pos (starEach es X.env)).any (·.1)=false:=by rfl):PE X (.Call (.Name x p) (e::es) [] pos) (tCB r t):=by
 intro a s Z H Q I h;refine wpAny_Call_Name_kw (nF I q i d ?_ hn c);exact PyProof.Rows.callWith_type1 (thn (u pos a s Z H _ I h) (by rintro f j ⟨n,o,I1,l,g⟩;exact k a j Z o n f Q I1 l g)) m b
end
end L2
namespace HT
open PySem PyProof.Rows
section
open PySem.SeqAt
open PySem.AutoSeq1 (wpAny_loadPart')
open PySem.MeetsSeq PySem.MeetsSeq2 PySem.MeetsSeq3
end
section
variable{prog:yB}{w:yD}{A:zZ}{E:zA}{s:zY}
theorem cat_tup{t b:zW}{vs a:zH}{Q:zA}(v:IsTup s.heap t vs.toArray)(u:IsTup s.heap b a.toArray)(m:vs≠[])
  (h1:a=[]->Q (.ref t) s) (h2:a≠[]->Q (.ref s.heap.objs.size) {s with heap:=s.heap.push {cls:=.type "tuple",data:=.seq (vs++a).toArray}})
  (hsz:vs.length+a.length<=sizeLine):wpAny (model prog w) A (binaryOp .Add (.ref t) (.ref b)) Q E s:=by
 obtain⟨⟨cls,k,data,r⟩,i,q,n,p⟩:=id v;obtain⟨⟨o,f,j,g⟩,c,h,l,d⟩:=id u;simp only at q p h d;subst q p h d;have e:vs.toArray++a.toArray=(vs++a).toArray:=by simp
 by_cases hw:a=[]
 ·exact concat_meets (bd _ i rfl) (bd _ c rfl) noFill_tuple_add seq_tuple_add PySem.F.slot_tuple_add PySem.F.entry_tuple_add (PySem.F.args_tuple_add_2 _ _)
   (tuple_addW1 t b vs.toArray a.toArray n l k f r g (by simpa using m) (by simp[hw])) (fI i c (h1 hw))
 ·refine concat_meets (bd _ i rfl) (bd _ c rfl) noFill_tuple_add seq_tuple_add PySem.F.slot_tuple_add PySem.F.entry_tuple_add (PySem.F.args_tuple_add_2 _ _)
   (tuple_addW2 t b vs.toArray a.toArray n l k f r g (by simpa using m) (by simpa using hw) (by rw[iR,iR];exact hsz)) (fI i c ?_)
  rw[e];exact h2 hw
def sIx(n d:Nat):Option Int->Nat|none=>d|some v=>if v<0 then (v+(n:Int)).toNat else min v.toNat n
theorem sIx_none(n d:Nat):sIx n d none=d:=rfl
theorem sIx_nat(n d k:Nat):sIx n d (some (k:Int))=min k n:=by show(if (k:Int)<0 then ((k:Int)+(n:Int)).toNat else min (k:Int).toNat n)=min k n;rw[dh (by lia),Int.toNat_natCast]
end
end HT
namespace L2
open PySem PySem.Spec PyProof.Rows
variable{α:Type}{zs ys:zM}{x v d:V}{value e:yC}{us:zH}{ty tx tv to tk te td:TE}{t:TA}{r:V->Option Int->Option Int->Hp->VK->Prop}{xs:List (List Key×zW×zX)}{prog:yB}{p2 cpos apos:Pos}{p l b:zW}{name:Str}{n t' j:Nat}{pins:zD}{lo hi:Option yC}{ks:zU}{h' h:yA}{es:zT}{env:Env}{d':zX}{c:HO}{Z:St}{T:String}{H' H:Hp}{s:zY}{its its':zH}{f:zG->Array zX}{o:zP}{u:zX}{y:V}{P:yB}{w:yD}{kvs:List (List Key×V)}{a:zW}{Q E:zA}{pos:Pos}{X:Cx}{trs:List (TE×TE)}{keys:List (Option yC)}{A:zZ}
abbrev TO:=St->Hp->(Option Int->Hp->Prop)->Prop
def PO(X:Cx)(e:Option yC)(t:TO):Prop :=
 ∀(a:zD)(s:zY)(Z:St)(H:Hp)(Q:Option Int->Hp->Prop),Inv X a Z H s->t Z H Q->
  wpAny (model X.prog X.w) X.A (evalPart e X.env) (λu c=>∃o b,Inv X a Z b c/\IsPart u o/\Q o b) X.xe s
def EY:TO:=λ_ H Q=>Q none H
def Cv(t:TE):TO:=λZ H Q=>t Z H λx a=>∃i,x=.int i/\Q (some i) a
section
variable{tl th:TO}
theorem pu:PO X none EY:=by intro a s Z H Q I h;rw[evalPart_none];exact da (eu none H I .none h)
theorem md(h:PE X e te):PO X (some e) (Cv te):=by intro a s Z H Q I c;rw[evalPart_some];refine thn (h a s Z H _ I c) ?_;rintro u g ⟨x,f,I1,d,b⟩;obtain⟨i,rfl,q⟩:=b;obtain⟨t,rfl⟩:=d;exact eu (some i) f I1 (.int i t) q
def SlR(X:Cx)(r:V->Option Int->Option Int->Hp->VK->Prop):Prop :=
 ∀(a:zD)(s:zY)(Z:St)(H:Hp)(x:V)(v d b:zX)(c e:Option Int)(f:zW)(Q:VK),Inv X a Z H s->A2b x v->s.heap.IsSliceOf f d b .none->IsPart d c->IsPart b e->r x c e H Q->
  ∃T id,typeLookup (.type T) "__getitem__"=pure (some (.builtin id))/\s.TypeIs v T/\wpAny (model X.prog X.w) X.A (getItem v (.ref f)) (EP X a Z Q) X.xe s
def tSl(r:V->Option Int->Option Int->Hp->VK->Prop)(te:TE)(tl th:TO):TE:=λZ H Q=>te Z H λx b=>tl Z b λl c=>th Z c λu a=>r x l u a Q
theorem nK(p:SlR X r)(B:PE X e te)(o:PO X lo tl)(C:PO X hi th):PE X (.Subscript e (.Slice lo hi none p2) pos) (tSl r te tl th):=by
 intro a s Z H Q I h;refine Subscript_ (thn (B a s Z H _ I h) ?_);rintro v m ⟨x,F,I1,y,j⟩;refine wpAny_Slice (thn (o a m Z F _ I1 j) ?_);rintro d n ⟨l,k,I2,K,t⟩;refine thn (C a n Z k _ I2 t) ?_;rintro f c ⟨u,g,I3,i,D⟩;rw[evalPart_none];refine da ?_;have I4:Inv X a Z g {c with heap:=c.heap.push {cls:=.type "slice",data:=.fields #[d,f,.none]}}:=I3.kept (t':=c.toks) λb L q=>fy _ q
 obtain⟨T,id,G,z,J⟩:=p a {c with heap:=c.heap.push {cls:=.type "slice",data:=.fields #[d,f,.none]}} Z g x v d f l u c.heap.objs.size Q I4 y (Heap.IsSliceOf.new ..) K i D;show wpAny (model X.prog X.w) X.A (subscriptTail e (.Slice lo hi none p2) v (.ref c.heap.objs.size)) (EP X a Z Q) X.xe {c with heap:=c.heap.push {cls:=.type "slice",data:=.fields #[d,f,.none]}};exact tail_any (ops:=[.ref c.heap.objs.size,v]) z G J (by with_unfolding_all rfl)
def kM(xs:zM)(lo hi:Option Int):zM:=(xs.drop (HT.sIx xs.length 0 lo)).take (HT.sIx xs.length xs.length hi-HT.sIx xs.length 0 lo)
theorem IX(xs:zM)(lo hi:Option Int):(kM xs lo hi).length<=xs.length:=by
 unfold kM;rw[jf,mo]
 lia
def Ch(K:Frag):R2:=λx y H Q=>∃a b d c,x=.ref a/\y=.ref b/\SqT K H a d/\SqT K H b c/\d≠[]/\d.length+c.length<=sizeLine/\
 (c=[]->Q (.ref a) H)/\(c≠[]->∀p,H p=none->Q (.ref p) (upd H p (.tup (d++c))))
theorem A2k.nil_iff{xs:zM}(r:A2k xs us):us=[]↔xs=[]:=by
 cases r with
 |nil=>simp
 |cons _ _=>simp
theorem EK:OpR X (binaryOp .Add) (Ch X.K):=by intro e s Z H x y v u Q I i m h;refine jM h ?_;clear h;rintro a b p A rfl rfl r k ⟨C,g,j,B⟩;cases i;cases m;obtain⟨l,d,t,_⟩:=I.tuple r;obtain⟨f,c,n,_⟩:=I.tuple k;refine HT.cat_tup t n (λz=>C (d.nil_iff.mp z)) (λz=>(eu (.ref a) H I rfl (j (c.nil_iff.mp z)))) (λz=>?_) (by rw[<-d.length,<-c.length];exact g);refine eu (.ref s.heap.objs.size) _ (I.laid (t':=s.toks) (o:=.tup (p++A)) (λb D q=>fy _ q) (fa _) ?_) rfl (B (λw=>z (c.nil_iff.mpr w)) _ (I.hok.fresh (fa _)));exact iB (by rw[ic];exact g) _ (d.append c) (IsTup.new _ _)
end
def ixN(n:Nat)(i:Int):Option Nat:=if 0<=i then (if i<n then some i.toNat else none)else if -(n:Int)<=i then some (i+n).toNat else none
def atI{α:Type}(xs:List α)(i:Int):Option α:=(ixN xs.length i).bind λj=>xs[j]?
theorem yH{i:Int}(h:ixN n i=some j):seqIndex? i n=some j/\j<n/\-(n:Int)<=i/\i<n:=by
 unfold ixN at h;by_cases h0:0<=i
 ·rw[dn h0]at h;by_cases h1:i<n
  ·rw[dn h1]at h;have e:i.toNat=j:=iX h;exact jx (by rw[seqIndex_of h0 h1,e]) (by lia) (by lia) h1
  ·rw[dh h1]at h;cases h
 ·rw[dh h0]at h;by_cases h1: -(n:Int)<=i
  ·rw[dn h1]at h;have e:(i+n).toNat=j:=iX h;exact jx (by rw[seqIndex_neg (by lia) h1,e]) (by lia) h1 (by lia)
  ·rw[dh h1]at h;cases h
theorem yT{xs:List α}{i:Int}{v:α}(h:atI xs i=some v):∃j,seqIndex? i xs.length=some j/\xs[j]?=some v/\j<xs.length/\-(xs.length:Int)<=i/\i<xs.length:=by
 unfold atI at h
 cases e:ixN xs.length i with
 |none=>rw[e]at h;cases h
 |some j=>rw[e]at h;obtain⟨a,d,b,c⟩:=yH e;exact⟨j,(iT a h d b c)⟩
theorem gH{xs:List α}{v:α}(h:xs[j]?=some v):atI xs (j:Int)=some v:=by
 have a:j<xs.length:=(gG.mp h).1
 have e:ixN xs.length (j:Int)=some j:=by unfold ixN;rw[dn (by lia),dn (by lia)];simp
 unfold atI;rw[e];exact h
def D9(b:yC):Prop:=∀o i,subscripted b false o i=operate [o,i] (getItem o i)
def IxR(X:Cx)(r:R2):Prop :=
 ∀(c a:yC)(b:zD)(s:zY)(Z:St)(H:Hp)(x y:V)(v u:zX)(Q:VK),Inv X b Z H s->A2b x v->A2b y u->r x y H Q->
  subscripted a false v u=operate [v,u] (getItem v u)->wpAny (model X.prog X.w) X.A (subscriptTail c a v u) (EP X b Z Q) X.xe s
def MtR(X:Cx)(id:String)(r:V->List V->Hp->VK->Prop):Prop :=
 ∀(a:zD)(s:zY)(Z:St)(H:Hp)(x:V)(c:zM)(v:zX)(b:zH)(Q:VK),Inv X a Z H s->A2b x v->A2k c b->r x c H Q->
  wpAny (model X.prog X.w) X.A (call (.builtin id) (v::b)) (EP X a Z Q) X.xe s
section
variable{X:Cx}{a b:yC}{ta tb:TE}{pos:Pos}
theorem hG{r:R2}(e:IxR X r)(k:PE X a ta)(f:PE X b tb)(hs:D9 b:=by exact λ_ _=>rfl):PE X (.Subscript a b pos) (tOp r ta tb):=by intro c s Z H Q I h;exact Subscript_ (uw k f I h λv u j x y g I2 d i q=>e a b c j Z g x y v u Q I2 d i q (hs _ _))
def uy(K:Frag):R2:=λx y H Q=>∃p a i v,x=.ref p/\y=.int i/\SqL K H p a/\atI a i=some v/\Q v H
def sD(K:Frag):R2:=λx y H Q=>∃p a i v,x=.ref p/\y=.int i/\SqT K H p a/\atI a i=some v/\Q v H
theorem iQ:IxR X (uy X.K):=by
 intro d k a s Z H x y v u Q I o A h m;refine jM h ?_;clear h;rintro p N i z rfl rfl C J q;cases o;obtain⟨t,rfl⟩:=A;obtain⟨e,r,l,P⟩:=I.list C;obtain⟨j,c,F,M,D,L⟩:=yT J;obtain⟨w,n,g⟩:=r.get F;have B:=r.length;have O:=tf;have b:EP X a Z Q w s:=(eu z H I g q);by_cases h0:0<=i
 ·have f:i.toNat=j:=by
   rw[seqIndex_of h0 L]at c;exact iX c
  exact item_listR l.isList h0 (by lia) (by rw[f];simpa using n) b m
 ·have f:(i+(e.toArray.size:Int)).toNat=j:=by
   rw[seqIndex_neg (by lia) D]at c;rw[iR,<-B];exact iX c
  exact subscriptTail_builtinR (x:=w) l.isList.typeIs slot_list_getitem.lookup
   (wpAny_getItem_list_neg (Q:=λr G=>r=w/\EP X a Z Q r G) l.isList (by lia) (by rw[iR]<;>lia) (by lia) (by rw[f];simpa using n) ⟨rfl,b⟩) m
theorem pf:IxR X (sD X.K):=by
 intro b e a s Z H x y v u Q I g l h m;refine jM h ?_;clear h;rintro p J i z rfl rfl A F q;cases g;obtain⟨t,rfl⟩:=l;obtain⟨k,r,f,O⟩:=I.tuple A;obtain⟨j,o,B,G,L,N⟩:=yT F;obtain⟨w,D,d⟩:=r.get B;have n:=r.length;have M:=tf;have c:EP X a Z Q w s:=(eu z H I d q)
 exact subscriptTail_builtinR (x:=w) f.typeIs slot_tuple_getitem.lookup
  (getItem_tuple (j:=j) (Q:=λr C=>r=w/\EP X a Z Q r C) f (by lia) (by lia) (by rw[iR,<-n];exact o) (by simpa using D) ⟨rfl,c⟩) m
theorem HW(its:zH)(n j:Nat)(u:zX):Obj.mapSeq (·.setIfInBounds j u) {cls:=.type "list",data:=.seq its.toArray n}={cls:=.type "list",data:=.seq (its.set j u).toArray n}:=by simp[Obj.mapSeq]
theorem Inv.lst{p:zW}{xs:zM}(I:Inv X pins Z H s)(h:H p=some (.lst xs)):
  ∃(its:zH)(n:Nat),A2k xs its/\s.heap.get? p=some {cls:=.type "list",data:=.seq its.toArray n}/\xs.length<=sizeLine:=by
 obtain⟨z,its,n,r,e⟩:=I.hok p _ h;exact eu its n r e z
theorem Inv.lstUpd{xs:zM}{a:Nat}{f:Obj->Obj}(I:Inv X pins Z H s)(h:H p=some (.lst xs))
  (g:s.heap.get? p=some {cls:=.type "list",data:=.seq its.toArray n}) (c:f {cls:=.type "list",data:=.seq its.toArray n}={cls:=.type "list",data:=.seq its'.toArray a}) (r:A2k ys its') (d:ys.length<=sizeLine) (t:Nat):
  Inv X pins Z (upd H p (.lst ys)) {s with heap:=s.heap.update p f,toks:=t}:=by
 have e:(s.heap.update p f).get? p=some {cls:=.type "list",data:=.seq its'.toArray a}:=by rw[nk f g (by rw[c]<;>rfl),c]
 refine I.write (x:=p) (e:=p) (by rw[h];trivial) (.inl rfl) (λb u i q=>(nq _ _ (Ne.symm i)).trans q) ⟨_,e⟩ ?_;exact kW d its' a r e
def Cc:V->V->V->Hp->(Hp->Prop)->Prop:=λo i v H Q=>∃p a k j,o=.ref p/\i=.int k/\H p=some (.lst a)/\ixN a.length k=some j/\Q (upd H p (.lst (a.set j v)))
theorem za:uA X Cc:=by
 intro b s Z H o i v G C u Q I x w A h;refine jM h ?_;clear h;rintro p y k j rfl rfl m z q;cases x;obtain⟨t,rfl⟩:=w;obtain⟨a,n,r,e,B⟩:=I.lst m;obtain⟨c,D,g,l⟩:=yH z;have d:=r.length;have F:=tf
 have I':Inv X b Z (upd H p (.lst (y.set j v))) {s with heap:=s.heap.update p (Obj.mapSeq (·.setIfInBounds j u))}:=I.lstUpd m e (HW a n j u) (r.set A j) (by rw[List.length_set];exact B) s.toks
 by_cases h0:0<=k
 ·have f:k.toNat=j:=by
   rw[seqIndex_of h0 l]at c;exact iX c
  exact PySem.W.ki_setAt e h0 (by lia) (by rw[iR,<-d];exact l) (by rw[f];exact bd _ I' q)
 ·have f:(k+(a.toArray.size:Int)).toNat=j:=by
   rw[seqIndex_neg (by lia) g]at c;rw[iR,<-d];exact iX c
  exact PySem.W.ki_setBack e (by lia) (by rw[iR,<-d];exact g) (by lia) (by rw[f];exact bd _ I' q)
theorem Ji(lo hi:Option Int)(n:Nat):(sliceBounds lo hi none n).1=((HT.sIx n 0 lo:Nat):Int)/\(sliceBounds lo hi none n).2.1=((HT.sIx n n hi:Nat):Int)/\(sliceBounds lo hi none n).2.2=1:=by
 refine fI ?_ ?_ rfl
 ·cases lo with
  |none=>simp[sliceBounds,HT.sIx]
  |some i=>
   simp only [sliceBounds,HT.sIx,Option.getD_none,show(1:Int)>0 by decide,if_true];by_cases h:i<0
   ·simp only [h,if_true]<;>lia
   ·simp only [h,if_false]<;>lia
 ·cases hi with
  |none=>simp[sliceBounds,HT.sIx]
  |some i=>
   simp only [sliceBounds,HT.sIx,Option.getD_none,show(1:Int)>0 by decide,if_true];by_cases h:i<0
   ·simp only [h,if_true]<;>lia
   ·simp only [h,if_false]<;>lia
theorem JE(its:zH)(lo hi:Option Int):slicePick its.toArray lo hi none=((its.drop (HT.sIx its.length 0 lo)).take (HT.sIx its.length its.length hi-HT.sIx its.length 0 lo)).toArray:=by obtain⟨c,b,a⟩:=Ji lo hi its.toArray.size;unfold slicePick;rw[c,b,a];simp only [sliceRange_one,pick_run,iR]<;>rfl
def rSlL(K:Frag):V->Option Int->Option Int->Hp->VK->Prop:=λx d c H Q=>∃a b,x=.ref a/\SqL K H a b/\∀p,H p=none->Q (.ref p) (upd H p (.lst (kM b d c)))
theorem nI:SlR X (rSlL X.K):=by intro g s Z H x v u y e f z Q I k p t j h;obtain⟨a,c,rfl,m,q⟩:=h;cases k;obtain⟨l,r,i,n⟩:=I.list m;have d:=r.length;refine eu "list" _ slot_list_getitem.lookup i.isList.typeIs ?_;refine wpAny_getItem_list_slice i.isList p t j .none (by simp) ?_ (by rw[iR]<;>lia);rw[JE,<-d];refine eu (.ref s.heap.objs.size) _ (I.laid (t':=s.toks) (o:=.lst (kM c e f)) (λb w q=>fy _ q) (fa _) ?_) rfl (q _ (I.hok.fresh (fa _)));exact kW (jT (IX c e f) n) _ 0 ((r.drop (HT.sIx c.length 0 e)).take (HT.sIx c.length c.length f-HT.sIx c.length 0 e)) (hU _ rfl)
theorem JA:mZ X (.builtin "len") (λxs H Q=>∃p ys,xs=[.ref p]/\(SqL X.K H p ys\/SqT X.K H p ys)/\Q (.int ys.length) H):=by
 intro f s Z H xs j Q I r h;obtain⟨p,ys,rfl,b,q⟩:=h;obtain⟨u,rfl,g⟩:=oH r;cases g;have k:=tf;rcases b with b|b
 ·obtain⟨d,c,e,i⟩:=I.list b;have a:=c.length;exact Calls.call_len_list e.isList (by simp only [iR]<;>lia) (eu (.int ys.length) H (I.tok _) ⟨s.toks+1,by rw[iR,a]⟩ q)
 ·obtain⟨d,c,e,i⟩:=I.tuple b;have a:=c.length;exact len_tuple e (by simp only [iR]<;>lia) (eu (.int ys.length) H (I.tok _) ⟨s.toks+1,by rw[iR,a]⟩ q)
theorem qF:mZ X (.type "list") (λxs H Q=>∃p ys,xs=[.ref p]/\(SqL X.K H p ys\/SqT X.K H p ys)/\∀l,H l=none->Q (.ref l) (upd H l (.lst ys))):=by
 intro i s Z H xs C Q I r h;obtain⟨p,ys,rfl,g,q⟩:=h;obtain⟨u,rfl,B⟩:=oH r;cases B
 have m:∀(a:zH),A2k ys a->ys.length<=sizeLine->∀(c:yA)(d:Nat),(∀b A,s.heap.get? b=some A->c.get? b=some A)->
   c.get? s.heap.objs.size=some {cls:=.type "list",dict:=none,data:=.seq a.toArray d,slots:=#[]}->EP X i Z Q (.ref s.heap.objs.size) {s with heap:=c}:=λa f j c d t e=>
  (eu (.ref s.heap.objs.size) _ (I.laid (t':=s.toks) t (fa _) (show A1h X.prog X.w _ c _ (.lst ys) from (kW j a d f e))) rfl (q _ (I.hok.fresh (fa _))))
 rcases g with g|g
 ·obtain⟨a,f,y,j⟩:=I.list g;have k:=f.length;obtain⟨o,v,z,n,x⟩:=y.isList;exact call_list_seq p (.inl rfl) v z x (λc d t e=>m a f j c d t e) (by simp only [iR]<;>lia)
 ·obtain⟨a,f,y,j⟩:=I.tuple g;have k:=f.length;obtain⟨o,v,z,n,x⟩:=y;exact call_list_seq p (.inr rfl) v z x (λc d t e=>m a f j c d t e) (by simp only [iR]<;>lia)
theorem qH:mZ X (.type "tuple") (λxs H Q=>∃p ys,xs=[.ref p]/\((SqL X.K H p ys/\∀l,H l=none->Q (.ref l) (upd H l (.tup ys)))\/(SqT X.K H p ys/\Q (.ref p) H))):=by
 intro a s Z H xs t Q I r h;obtain⟨p,ys,rfl,h⟩:=h;obtain⟨u,rfl,m⟩:=oH r;cases m;rcases h with ⟨f,q⟩|⟨f,q⟩
 ·obtain⟨c,g,i,j⟩:=I.list f;have k:=g.length;refine call_tuple_list i.isList (λd n=>?_) (by simp only [iR]<;>lia);have I1:Inv X a Z H {s with heap:=d}:=I.kept (t':=s.toks) n
  have I2:Inv X a Z (upd H d.objs.size (.tup ys)) {s with heap:=d.push {cls:=.type "tuple",data:=.seq c.toArray}}:=I1.laid (t':=s.toks) (λb o e=>fy _ e) (fa _) (show A1h X.prog X.w _ _ _ (.tup ys) from (iB j c g (IsTup.new _ _)))
  exact eu (.ref d.objs.size) _ I2 rfl (q _ (I1.hok.fresh (fa _)))
 ·obtain⟨c,g,i,j⟩:=I.tuple f;exact call_tuple_same i (eu (.ref p) H I rfl q)
def tyV(K:Frag)(T:String)(x:V)(H:Hp):Prop:=match x with
 |.str _=>T="str"
 |.int _=>T="int"
 |.ref p=>(T="list"/\∃b,SqL K H p b)\/(T="tuple"/\∃o,K.lookup p=some o/\o.cls=.type "tuple"/\o.dict=none)\/
   (T="dict"/\((∃a,H p=some (.dK a))\/∃a,H p=some (.dT a)))\/(T="set"/\∃S n,H p=some (.set S n))
 |_=>False
theorem xW{v:zX}(I:Inv X pins Z H s)(r:A2b x v)(ty:tyV X.K T x H):
  s.TypeIs v T/\∀a,v=.ref a->∃j,s.heap.get? a=some j/\j.dict=none:=by
 cases x with
 |str z=>obtain⟨t,rfl⟩:=r;cases(show T="str" from ty);exact⟨typeIs_str s z t,λ_ e=>nomatch e⟩
 |int i=>obtain⟨t,rfl⟩:=r;cases(show T="int" from ty);exact⟨typeIs_int s i t,λ_ e=>nomatch e⟩
 |ref p=>
  cases r
  rcases ty with ⟨rfl,u,l⟩|⟨rfl,o,b,q,f⟩|⟨rfl,b⟩|⟨rfl,S,n,b⟩
  ·obtain⟨m,_,k,_⟩:=I.list l;refine⟨k.isList.typeIs,λa e=>?_⟩;cases e;obtain⟨o,n,e,c,f,_⟩:=k;exact bd o e f
  ·refine⟨(bd o (I.kIn p o b) q),λa e=>?_⟩;cases e;exact bd o (I.kIn _ o b) f
  ·have z:∃o,s.heap.get? p=some o/\o.ExactDict:=by
    rcases b with ⟨g,b⟩|⟨g,b⟩
    ·refine kr (I.hok p _ b) ?_;rintro _ _ _ _ o _ _ e ⟨d,_⟩;exact bd o e d
    ·refine kr (I.hok p _ b) ?_;rintro _ _ _ _ o _ _ e ⟨d,_⟩;exact bd o e d
   obtain⟨o,e,d⟩:=z;refine⟨(bd o e d.1),λa h=>?_⟩;cases h;exact bd o e d.2.1
  ·refine ku (I.hok p _ b) ?_;rintro o _ _ ⟨_,e,d,_⟩;refine⟨(bd o e d.1),λa h=>?_⟩;cases h;exact bd o e d.2.1
 |_=>exact False.elim ty
def uk(K:Frag)(T:String)(r:V->List V->Hp->VK->Prop)(to:TE):TE:=λZ H Q=>to Z H λx a=>tyV K T x a/\r x [] a Q
def tBM(K:Frag)(T:String)(r:V->List V->Hp->VK->Prop)(to:TE)(t:TA):TE:=λZ H Q=>to Z H λx a=>tyV K T x a/\t Z a λb c=>r x b c Q
variable{o:yC}{id:String}{r:V->List V->Hp->VK->Prop}
theorem DC(i:PlainAttrs T)(d:Slot T name id)(e:typeOf (.builtin id)=pure (.type "method_descriptor"))(n:MtR X id r)(l:PE X o to)
  (c:attributeBase o name X.env (eval o X.env)=eval o X.env:=by rfl) (b:(apos.endLine==cpos.line)=true:=by rfl):PE X (.Call (.Attribute o name apos) [] [] cpos) (uk X.K T r to):=by
 intro a s Z H Q I h;refine wpAny_Call_method0_late c b (thn (l a s Z H _ I h) ?_);rintro v m ⟨x,p,I1,f,q,j⟩;obtain⟨g,k⟩:=xW I1 f q;exact mM T id i d e g k (Calls.callWith_builtin rfl (PySem.evalArgs_none (n a m Z p x [] v [] Q I1 f .nil j)))
theorem lh(C:PlainAttrs T)(g:Slot T name id)(i:typeOf (.builtin id)=pure (.type "method_descriptor"))(p:MtR X id r)(F:PE X o to)(A:PA X (e::es) t)
  (d:attributeBase o name X.env (eval o X.env)=eval o X.env:=by rfl)
  (f:((backTo cpos (starEach (e::es) X.env)).all (λx=> ! x.1)&&(backToKw cpos (keywordEach [] X.env)).all (λx=>x.1.isSome)
   && decide ((e::es).length+([]:List Keyword).length+(if ([]:List Keyword).isEmpty then 0 else 1)<30))=true:=by rfl)
  (c:(apos.endLine==cpos.line)=true:=by rfl) (hs:starEach (e::es) X.env=(false,eval e X.env)::starEach es X.env:=by rfl) (b:(backTo cpos (starEach es X.env)).any (·.1)=false:=by rfl):
  PE X (.Call (.Attribute o name apos) (e::es) [] cpos) (tBM X.K T r to t):=by
 intro a s Z H Q I h;refine wpAny_Call_method_late d f c rfl (thn (F a s Z H _ I h) ?_);rintro v u ⟨x,J,I1,k,y,n⟩;obtain⟨B,G⟩:=xW I1 k y;refine mM T id C g i B G ?_;have j:=A cpos a u Z J _ I1 n;rw[hs]at j⊢;refine Calls.callWith_builtin (by show(false||(backTo cpos (starEach es X.env)).any (·.1))=false;rw[b]<;>rfl) (Calls.evalArgs_plain ?_);exact thn j (by rintro l z ⟨w,q,I2,m,D⟩;exact p a z Z q x w v l Q I2 k m D)
end
def MtM(X:Cx)(id:String)(r:V->List V->Hp->VK->Prop):Prop :=
 ∀(a:zD)(s:zY)(Z:St)(H:Hp)(x:V)(c:zM)(v:zX)(b:zH)(Q:VK),Inv X a Z H s->A2b x v->A2k c b->r x c H Q->
  wpAny (model X.prog X.w) X.A (call (.builtin id) (v::b)) (EP X a Z Q) X.xe s
theorem A2k.one:∀{x:V}{us:zH},A2k [x] us->∃u,us=[u]/\A2b x u|_,_,.cons r .nil=>(bd _ rfl r)
section
variable{xs:zM}
theorem Inv.lset(I:Inv X pins Z H s)(c:H l=some (.lst xs))
  (e:s.heap.get? l=some {cls:=.type "list",data:=.seq its.toArray n}) (g:f its.toArray=its'.toArray) (a:A2k ys its') (d:ys.length<=sizeLine):
  Inv X pins Z (upd H l (.lst ys)) {s with heap:=s.heap.update l (Obj.mapSeq f),toks:=t'}:=by
 have q:=PySem.IsL.update e f;rw[g]at q;refine I.write (x:=l) (e:=l) (by rw[c];exact trivial) (.inl rfl) (λi u h b=>(nq s.heap (Obj.mapSeq f) (Ne.symm h)).trans b) ⟨_,q⟩ ?_;exact kW d its' _ a q
theorem Inv.lnew(I:Inv X pins Z H s)(b:A2k ys its)(a:ys.length<=sizeLine):
  Inv X pins Z (upd H s.heap.objs.size (.lst ys)) {s with heap:=s.heap.push {cls:=.type "list",data:=.seq its.toArray},toks:=t'}:=
 I.laid (λ_ _ q=>fy _ q) (fa _) (kW a its 0 b (hU _ rfl))
theorem Inv.fresh(I:Inv X pins Z H s):H s.heap.objs.size=none:=I.hok.fresh (fa _)
theorem Inv.lstM(I:Inv X pins Z H s)(a:H l=some (.lst xs)):xs.length<=sizeLine/\∃(its:zH)(n:Nat),A2k xs its/\xs.length=its.length/\s.heap.get? l=some {cls:=.type "list",data:=.seq its.toArray n}:=by obtain⟨z,its,n,r,e⟩:=I.hok l _ a;exact jp z its n r r.length e
theorem FF(h:n<=sizeLine):Builtin.List.listTooLong n=false:=by unfold Builtin.List.listTooLong;exact ir (by lia)
end
def Ex:V->List V->Hp->VK->Prop:=λx b H Q=>∃l a y,x=.ref l/\b=[y]/\H l=some (.lst a)/\a.length<sizeLine/\Q .non (upd H l (.lst (a++[y])))
theorem mi:MtM X "list.append" Ex:=by
 intro b s Z H x k v j Q I d f h;refine gW h ?_;clear h;rintro l o y rfl rfl c ⟨m,q⟩;cases d;obtain⟨u,rfl,g⟩:=f.one;obtain⟨z,a,n,r,i,e⟩:=I.lstM c;refine call_meets F.slot_list_append (bd _ e rfl) F.entry_list_append (F.args_list_append_2 _ _) (PySem.list_append l a.toArray n u (by rw[iR];lia)) ⟨e,?_⟩;refine eu .non _ (I.lset (its':=a++[u]) c e (by simp) (r.append (.cons g .nil)) ?_) rfl q;rw[ic,kL]
 lia
def Eb:V->List V->Hp->VK->Prop:=λx d H Q=>∃l b a c,x=.ref l/\d=[.ref b]/\H l=some (.lst a)/\H b=some (.lst c)/\a.length+c.length<=sizeLine/\Q .non (upd H l (.lst (a++c)))
theorem vN:MtM X "list.extend" Eb:=by
 intro i s Z H x B v A Q I j t h;refine jM h ?_;clear h;rintro l b D G rfl rfl g w ⟨K,q⟩;cases j;obtain⟨u,rfl,y⟩:=t.one;cases y;obtain⟨z,c,n,r,J,e⟩:=I.lstM g;obtain⟨C,a,o,k,p,m⟩:=I.lstM w;have f:c.toArray.size+a.toArray.size<=sizeLine:=by rw[iR,iR];lia
 have d:¬(! c.toArray.isEmpty&&Builtin.List.listTooLong (c.toArray.size+a.toArray.size))=true:=by rw[FF f,Bool.and_false];exact ij
 refine call_meets F.slot_list_extend (bd _ e rfl) F.entry_list_extend (F.args_list_extend_2 _ _)
  (AutoSeq1.list_extend_list_list_0 l c.toArray n b a.toArray o d (by rw[iR];lia) (by lia)) (fI e m ?_)
 refine eu .non _ (I.lset (its':=c++a) g e (by simp) (r.append k) ?_) rfl q;rw[ic]
 lia
def rCat:R2:=λx y H Q=>∃l b a c,x=.ref l/\y=.ref b/\H l=some (.lst a)/\H b=some (.lst c)/\a.length+c.length<=sizeLine/\∀p,H p=none->Q (.ref p) (upd H p (.lst (a++c)))
theorem nD:OpR X (binaryOp .Add) rCat:=by
 intro d s Z H x y v u Q I f k h;refine jM h ?_;clear h;rintro l b w A rfl rfl j o ⟨D,q⟩;cases f;cases k;obtain⟨z,c,n,r,B,e⟩:=I.lstM j;obtain⟨t,a,C,g,m,i⟩:=I.lstM o;refine PySem.P.add_list e i ?_ (by rw[iR,iR];lia);have p:c.toArray++a.toArray=(c++a).toArray:=by simp
 rw[p];exact eu (.ref _) _ (I.lnew (t':=s.toks) (r.append g) (by rw[ic];lia)) rfl (q _ I.fresh)
section
set_option maxRecDepth 100000 in
end
section
variable{κ:Type}[DecidableEq κ]
def fC(kvs:List (κ×V))(k:κ):zP:=(kvs.find? λa=>decide (a.1=k)).map (·.2)
def gY(kvs:List (κ×V))(k:κ)(v:V):List (κ×V):=if (kvs.any λa=>decide (a.1=k))=true then kvs.map (λa=>if a.1=k then (a.1,v)else a)else kvs++[(k,v)]
theorem nh{p:κ×V}{r:List (κ×V)}{k:κ}(e:p.1=k):fC (p::r) k=some p.2:=by simp[fC,oz,e]
theorem ng{p:κ×V}{r:List (κ×V)}{k:κ}(e:¬p.1=k):fC (p::r) k=fC r k:=by simp[fC,oz,e]
theorem re(k:κ):∀kvs:List (κ×V),(kvs.any λkv=>decide (kv.1=k))=(fC kvs k).isSome
 | []=>rfl
 |p::r=>by
  rw[List.any_cons];by_cases e:p.1=k
  ·simp only [nh e,jl e,Bool.true_or,Option.isSome_some]
  ·rw[ng e,ir e,Bool.false_or];exact re k r
theorem zb(k j:κ)(y:V):∀kvs:List (κ×V),fC (kvs.map λkv=>if kv.1=k then (kv.1,y)else kv) j=(fC kvs j).map λx=>if j=k then y else x
 | []=>rfl
 |p::r=>by
  have a:=zb k j y r;rw[ik];by_cases h:p.1=k
  ·rw[dn h];by_cases e:p.1=j
   ·rw[nh (p:=(p.1,y)) e,nh e,Option.map_some,dn (e.symm.trans h)]
   ·rw[ng (p:=(p.1,y)) e,ng e,a]
  ·rw[dh h];by_cases e:p.1=j
   ·rw[nh (p:=p) e,nh e,Option.map_some,dh (λz=>h (e.trans z))]
   ·rw[ng (p:=p) e,ng e,a]
theorem Bb(k j:κ)(y:V):∀kvs:List (κ×V),fC kvs k=none->fC (kvs++[(k,y)]) j=if j=k then some y else fC kvs j
 | [],_=>by
  by_cases e:k=j
  ·rw[dn e.symm];exact nh (p:=(k,y)) e
  ·rw[dh (λz=>e z.symm)];exact ng (p:=(k,y)) e
 |p::r,hn=>by
  rw[oT];have a:¬p.1=k:=λz=>by rw[nh z]at hn;cases hn
  rw[ng a]at hn;have b:=Bb k j y r hn;by_cases e:p.1=j
  ·rw[nh e,nh e,dh (λz=>a (e.trans z))]
  ·rw[ng e,ng e,b]
theorem mG(kvs:List (κ×V))(k j:κ)(y:V):fC (gY kvs k y) j=if j=k then some y else fC kvs j:=by
 unfold gY;by_cases a:(kvs.any λc=>decide (c.1=k))=true
 ·rw[dn a,zb];rw[re]at a;by_cases e:j=k
  ·obtain⟨x,b⟩:=Option.isSome_iff_exists.mp a;rw[dn e,e,b,Option.map_some,dn rfl]
  ·rw[dh e]
   cases fC kvs j with
   |none=>rfl
   |some x=>rw[Option.map_some,dh e]
 ·rw[dh a];refine Bb k j y kvs ?_;rw[re]at a
  cases q:fC kvs k with
  |none=>rfl
  |some x=>rw[q]at a;exact(a rfl).elim
theorem oQ(kvs:List (κ×V))(k:κ)(v:V):(gY kvs k v).length<=kvs.length+1:=by
 unfold gY;split
 ·rw[dm];lia
 ·rw[ic,je,mQ];lia
theorem B0s.isSome_eq{u:zN}(r:B0s o u):o.isSome=u.isSome:=by
 cases o with
 |none=>cases u with|none=>rfl|some _=>exact(show False from r).elim
 |some _=>cases u with|none=>exact(show False from r).elim|some _=>rfl
theorem B0s.getD{u:zN}(r:B0s o u)(rd:A2b d d'):A2b (o.getD d) (u.getD d'):=by
 cases o with
 |none=>cases u with|none=>exact rd|some _=>exact(show False from r).elim
 |some _=>cases u with|none=>exact(show False from r).elim|some _=>exact r
theorem KV.val{kvs:List (κ×V)}{vs:List (κ×zX)}(r:KV kvs vs)(k:κ):B0s (fC kvs k) (valueAt vs k):=by
 unfold KV at r
 induction r with
 |nil=>exact True.intro
 |@cons p q ps qs h t ih=>
  obtain⟨c,d⟩:=h;by_cases e:p.1=k
  ·have a:q.1=k:=c.symm.trans e;have b:valueAt (q::qs) k=some q.2:=by simp[valueAt,oz,a]
   rw[nh e,b];exact d
  ·have a:¬q.1=k:=λz=>e (c.trans z);have b:valueAt (q::qs) k=valueAt qs k:=by simp[valueAt,oz,a]
   rw[ng e,b];exact ih
theorem KV.any{kvs:List (κ×V)}{vs:List (κ×zX)}(r:KV kvs vs)(k:κ):(kvs.any λkv=>decide (kv.1=k))=vs.any λkv=>decide (kv.1=k):=by
 unfold KV at r
 induction r with
 |nil=>rfl
 |cons h t ih=>rw[List.any_cons,List.any_cons,ih,h.1]
theorem KV.repl{kvs:List (κ×V)}{vs:List (κ×zX)}(r:KV kvs vs)(k:κ)(b:A2b y u):
  KV (kvs.map λkv=>if kv.1=k then (kv.1,y)else kv) (vs.map λkv=>if kv.1=k then (kv.1,u)else kv):=by
 unfold KV at r⊢
 induction r with
 |nil=>exact .nil
 |@cons p q ps qs h t ih=>
  rw[ik,ik];refine .cons ?_ ih;obtain⟨a,c⟩:=h;by_cases e:p.1=k
  ·rw[dn e,dn (a.symm.trans e)];exact⟨a,b⟩
  ·rw[dh e,dh (λz=>e (a.trans z))];exact⟨a,c⟩
theorem KV.put{kvs:List (κ×V)}{vs:List (κ×zX)}(r:KV kvs vs)(k:κ)(a:A2b y u):KV (gY kvs k y) (stored vs k u):=by
 unfold gY stored;rw[r.any k];by_cases e:(vs.any λb=>decide (b.1=k))=true
 ·rw[dn e,dn e];exact r.repl k a
 ·rw[dh e,dh e];exact Paired.snoc r ⟨rfl,a⟩
theorem KV.length{kvs:List (κ×V)}{vs:List (κ×zX)}(r:KV kvs vs):kvs.length=vs.length:=Paired.length r
end
theorem pH{k:Key}(r:A2b (kV k) u):(ig P w).is k u=true:=by
 cases k with
 |inl i=>obtain⟨t,e⟩:=(show∃t,u=Value.int i t from r);subst e;exact Bt P w i t
 |inr x=>obtain⟨t,e⟩:=(show∃t,u=Value.str x t from r);subst e;exact IF P w x t
theorem AF{P:yB}{w:yD}:∀{ks:zU}{us:zH},A2k (ks.map kV) us->ItemsAre (ig P w) ks us
 | [],_,r=>by rw[List.map_nil]at r;cases r;exact .nil
 |k::ks,_,r=>by
  rw[ik]at r
  cases r with
  |cons h t=>exact .cons (pH h) (AF t)
abbrev KT(H:Hp):List (List Key×V)->List (List Key×zW×zX)->Prop:=Paired λp q=>p.1=q.1/\H q.2.1=some (.tup (p.1.map kV))/\A2b p.2 q.2.2
theorem KT.val(r:KT H kvs xs)(k:zU):B0s (fC kvs k) ((atKey xs k).map (·.2)):=by
 induction r with
 |nil=>exact True.intro
 |@cons p q ps qs h t ih=>
  obtain⟨c,_,d⟩:=h;by_cases e:p.1=k
  ·have a:q.1=k:=c.symm.trans e;have b:atKey (q::qs) k=some q.2:=by simp[atKey,oz,a]
   rw[nh e,b];exact d
  ·have a:¬q.1=k:=λz=>e (c.trans z);have b:atKey (q::qs) k=atKey qs k:=by simp[atKey,oz,a]
   rw[ng e,b];exact ih
theorem KT.repl(r:KT H kvs xs)(k:zU)(c:A2b y u):
  KT H (kvs.map λkv=>if kv.1=k then (kv.1,y)else kv) (xs.map (putAt k u)):=by
 induction r with
 |nil=>exact .nil
 |@cons p q ps qs h t ih=>
  rw[ik,ik];refine .cons ?_ ih;obtain⟨a,b,d⟩:=h;unfold putAt;by_cases e:p.1=k
  ·rw[dn e,dn (a.symm.trans e)];exact fI a b c
  ·rw[dh e,dh (λz=>e (a.trans z))];exact fI a b d
theorem KT.put(r:KT H kvs xs)(k:zU)(c:H b=some (.tup (k.map kV)))(a:A2b y u):
  KT H (gY kvs k y) (storedH xs k b u):=by
 have e:(kvs.any λd=>decide (d.1=k))=(atKey xs k).isSome:=by rw[re,(r.val k).isSome_eq,Option.isSome_map]
 unfold gY storedH;rw[e];by_cases q:(atKey xs k).isSome=true
 ·rw[dn q,dn q];exact r.repl k a
 ·rw[dh q,dh q];exact Paired.snoc r (fI rfl c a)
theorem KT.keeps(r:KT H kvs xs)(a:∀b ys,H b=some (.tup ys)->H' b=some (.tup ys)):KT H' kvs xs :=Paired.mapP r λ_ _ z=>(fI z.1 (a _ _ z.2.1) z.2.2)
theorem wY{u:HO}(ok:HOk P w H h)(e:Rd H a u):A1h P w H h a u:=e.ok ok
theorem qN{kvs:zJ}(ok:HOk P w H h)(e:Rd H a (.dK kvs)):kvs.length<=sizeLine/\(a==sysModules)=false/\∃vs,KV kvs vs/\h.DictOf (ig P w) a vs :=show A1h P w H h a (.dK kvs) from wY ok e
theorem qQ{kvs:zJ}(ok:HOk P w H h)(e:H a=some (.dK kvs)):kvs.length<=sizeLine/\(a==sysModules)=false/\∃vs,KV kvs vs/\h.DictOf (ig P w) a vs:=qN ok (.inl e)
theorem qU(ok:HOk P w H h)(e:H a=some (.tup (ks.map kV))):(tupleKind (ig P w)).is h ks a:=by refine um (show A1h P w H h a (.tup (ks.map kV)) from ok a _ e) λ_ b r o c f n d=>?_;exact iE o b.toArray n c f d (by simpa using AF r)
theorem sM(ok:HOk P w H h)(e:Rd H a (.dT kvs)):kvs.length<=sizeLine/\(a==sysModules)=false/\
  ∃xs,KT H kvs xs/\h.DictOfH (tupleKind (ig P w)) a xs:=by
 refine kr (show A1h P w H h a (.dT kvs) from wY ok e) ?_;rintro z y xs r o f k d ⟨j,g,i,n⟩;refine jL z y xs r (ox o f k d j g i (λx b=>?_) n)
 have c:∀{l:List (List Key×V)}{m:List (List Key×zW×zX)},KT H l m->∀x∈m,(tupleKind (ig P w)).is h x.1 x.2.1:=by
  intro l m q
  induction q with
  |nil=>intro x b;exact nomatch b
  |@cons p q ps qs hq t ih=>
   intro x b;rcases gP.mp b with e|b
   ·subst e;exact qU ok (by rw[<-hq.1];exact hq.2.1)
   ·exact ih x b
 exact c r x b
theorem CO(ok:HOk P w H h)(e:H a=some (.dT kvs)):kvs.length<=sizeLine/\(a==sysModules)=false/\
  ∃xs,KT H kvs xs/\h.DictOfH (tupleKind (ig P w)) a xs:=sM ok (.inl e)
def A7q(H:Hp)(a:zW)(y:V)(r:zP):Prop :=(∃c k,Rd H a (.dK c)/\y=kV k/\r=fC c k)\/∃c k b,Rd H a (.dT c)/\y=.ref b/\H b=some (.tup (k.map kV))/\r=fC c k
def C0w(H:Hp)(a:zW)(y v:V)(H':Hp):Prop :=
 (∃c k,H a=some (.dK c)/\y=kV k/\c.length<sizeLine/\H'=upd H a (.dK (gY c k v)))\/
 ∃c k b,H a=some (.dT c)/\y=.ref b/\H b=some (.tup (k.map kV))/\c.length<sizeLine/\H'=upd H a (.dT (gY c k v))
theorem A7q.k{kvs:zJ}{k:Key}(e:H a=some (.dK kvs)):A7q H a (kV k) (fC kvs k):=.inl (eu kvs k (.inl e) rfl rfl)
theorem C0w.k{kvs:zJ}{k:Key}(e:H a=some (.dK kvs))(b:kvs.length<sizeLine):C0w H a (kV k) v (upd H a (.dK (gY kvs k v))):=.inl (gL kvs k e rfl b rfl)
section
variable{r:zX}
theorem Inv.big(I:Inv X pins Z H s):sysModules<s.heap.objs.size:=by have h:mainGlobals<s.heap.objs.size:=(I.mod.glob.keeps I.bk).lt;exact Nat.lt_trans (by decide) h
theorem GY(B:A.units+1<cLine)(I:Inv X pins Z H s)(g:A7q H a y (some v))(r:A2b y u)(h:∀f s',Inv X pins Z H s'->A2b v f->Q f s'):
  wpAny (model X.prog X.w) A (getItem (.ref a) u) Q E s:=by
 rcases g with ⟨n,k,e,q,l⟩|⟨n,k,b,e,q,x,l⟩
 ·subst q;obtain⟨z,t,C,d,i⟩:=qN I.hok e;obtain⟨f,j,c⟩:=B0s.some_of (v:=v) (o:=valueAt C k) (by rw[l];exact d.val k);exact wpAny_getItem_of (pH r) i.mapOf j (h f _ (I.tok _) c)
 ·subst q;cases(show u=Value.ref b from r);obtain⟨z,t,F,d,i⟩:=sM I.hok e;obtain⟨f,j,c⟩:=B0s.some_of (v:=v) (o:=(atKey F k).map (·.2)) (by rw[l];exact d.val k);obtain⟨p,D,m⟩:=mu.mp j;refine wpAny_getItem_heap (tupleKind_room_in1 B) (qU I.hok x) i D ?_;rw[m];exact h f _ (I.tok _) c
theorem EB(p:A.units+1<cLine)(I:Inv X pins Z H s)(g:A7q H a y o)(m:A2b y u)(h:∀s',Inv X pins Z H s'->Q (.bool (! o.isSome)) s'):
  wpAny (model X.prog X.w) A (compareOp .NotIn u (.ref a)) Q E s:=by
 rcases g with ⟨i,k,e,j,l⟩|⟨i,k,b,e,j,n,l⟩
 ·subst j;obtain⟨z,f,r,c,d⟩:=qN I.hok e;refine wpAny_notIn_of (pH m) f d.mapOf ?_;rw[<-(c.val k).isSome_eq,<-l];exact h _ (I.tok _)
 ·subst j;cases(show u=Value.ref b from m);obtain⟨z,f,t,c,d⟩:=sM I.hok e;refine wpAny_notIn_heap (tupleKind_room_in1 p) (qU I.hok n) f d ?_;have q:=(c.val k).isSome_eq;rw[Option.isSome_map]at q;rw[<-q,<-l];exact h _ (I.tok _)
theorem tG(I:Inv X pins Z H s)(f:Mut (H a))(hs:Heap.SameBut a s.heap h')(g:∃q,h'.get? a=some q)(d:A1h X.prog X.w (upd H a c) h' a c):
  Inv X pins Z (upd H a c) {s with heap:=h',toks:=t'}:=
 I.write (x:=a) (e:=a) f (.inl rfl) (λb q h z=>(hs.2 b h).trans z) g d
theorem xN{kvs:zJ}{vs:List (Key×zX)}(z:kvs.length<=sizeLine)(c:(a==sysModules)=false)(b:KV kvs vs)(dd:h'.DictOf (ig P w) a vs):
  A1h P w H' h' a (.dK kvs):=(jL z c vs b dd)
theorem GC{Q:Unit->zY->Prop}(T:A.units+1<cLine)(I:Inv X pins Z H s)(g:C0w H a y v H')(G:A2b y u)(J:A2b v r)(h:∀s',Inv X pins Z H' s'->Q () s'):
  wpAny (model X.prog X.w) A (setItem (.ref a) u r) Q E s:=by
 rcases g with ⟨f,k,e,B,l,m⟩|⟨f,k,b,e,B,F,l,m⟩
 ·subst B m;obtain⟨z,t,N,d,o⟩:=qQ I.hok e;have x:N.length<=sizeLine:=by rw[<-d.length];exact z
  have p:(gY f k v).length<=sizeLine:=by have:=oQ f k v;lia
  refine wpAny_setItem_pairs (hsz:=x) (pH G) o λD i n=>h _ ?_;have S:∃q,D.get? a=some q:=let⟨q,_,_,j,_⟩:=i;⟨q,j⟩;exact tG I (by rw[e];exact True.intro) n S (xN p t (d.put k J) i)
 ·subst B m;cases(show u=Value.ref b from G);obtain⟨z,t,O,d,o⟩:=CO I.hok e;have x:O.length<=sizeLine:=by rw[<-Paired.length d];exact z
  have p:(gY f k v).length<=sizeLine:=by have:=oQ f k v;lia
  refine wpAny_setItem_heap (hsz:=x) (tupleKind_room_in1 T) (qU I.hok F) o λD i n=>h _ ?_;refine gW i ?_;clear i;rintro q K M j R L ⟨P,_,U⟩;refine tG I (by rw[e];exact True.intro) n ⟨q,j⟩ (jL p t _ ((d.put k F J).keeps λc W C=>?_) (iL q K M j R L P U));rw[dt (iI C e (λz=>nomatch z))];exact C
end
section
variable{kvs:zJ}{k:Key}
theorem CC(I:Inv X pins Z H s)(e:Rd H a (.dK kvs))(h:∀t s',Inv X pins Z H s'->Q (.int kvs.length t) s'):wpAny (model X.prog X.w) A (call (.builtin "len") [.ref a]) Q E s:=by obtain⟨z,d,f,b,c⟩:=qN I.hok e;refine call_len_dict d c (by rw[<-b.length];rw[sizeLine_eq]at z;lia) ?_;rw[<-b.length];exact h _ _ (I.tok _)
end
def uE(i:yC):Prop:=∀b a,subscripted i false b a=operate [b,a] (getItem b a)
theorem yU{a:yC}{id:String}
  (f:typeLookup (.type T) "__getitem__"=pure (some (.builtin id))) (hs:uE a)
  (h:wpAny (model prog w) A (eval value env) (λo s₁=>wpAny (model prog w) A (eval a env) (λi s₂=>s₂.TypeIs o T/\wpAny (model prog w) A (getItem o i) Q E s₂) E s₁) E s):
  wpAny (model prog w) A (eval (.Subscript value a pos) env) Q E s:=by
 refine Subscript_ (iV h (λo s₁ j=>iV j (λi s₂ c=>?_) λ_ _ x=>x) λ_ _ x=>x);obtain⟨e,c⟩:=c;unfold subscriptTail;refine az ?_;rw[getitemInPython_of_ne e.not_modules];refine az (wpAny_specialOf e f ?_)
 have b:wpAny (model prog w) A (subscripted a false o i) (λr d=>wpAny (model prog w) A (letTemporaryGo value o r>>=λ_=>pure r) Q E d) E s₂:=by rw[hs o i];exact wpAny_operating (iV c (λr d g=>az (wpAny_letTemporaryGo (da g))) λ_ _ x=>x)
 first|exact da (az b)|exact az (da (az b))|exact az b
theorem IK(I:Inv X pins Z H s)(g:A7q H a y o):s.TypeIs (.ref a) "dict":=by
 rcases g with ⟨d,k,e,_,_⟩|⟨d,k,b,e,_,_,_⟩
 ·obtain⟨_,_,f,_,c⟩:=qN I.hok e;exact c.typeIs
 ·obtain⟨_,_,h,_,c⟩:=sM I.hok e;exact c.typeIs
def Cg(td ty:TE):TE:=λZ H Q=>td Z H λx c=>ty Z c λy b=>∃a v,x=.ref a/\A7q b a y (some v)/\Q v b
def Eo(ty td:TE):TE:=λZ H Q=>ty Z H λy c=>td Z c λx b=>∃a o,x=.ref a/\A7q b a y o/\Q (.bl (! o.isSome)) b
def CH(td ty tv:TE):TS:=λD Z H=>tv Z H λv d=>td Z d λx e=>ty Z e λy c=>∃a b,x=.ref a/\C0w c a y v b/\D.nx Z b
section
variable{X:Cx}{o i e value:yC}{pos pos' tpos:Pos}{td ty tv:TE}
theorem kG(q:X.A.units+1<cLine)(p:PE X o td)(hi:PE X i ty)(hs:uE i:=by exact λ_ _=>rfl):PE X (.Subscript o i pos) (Cg td ty):=by intro b s Z H Q I h;refine yU PySem.F.slot_dict_getitem.lookup hs (thn (p b s Z H _ I h) ?_);rintro u k ⟨x,r,I1,e,f⟩;refine thn (hi b k Z r _ I1 f) ?_;rintro w z d;refine qa d ?_;clear d;rintro y j I2 l ⟨a,v,m,g,n⟩;subst m;obtain rfl:u=Value.ref a:=e;exact⟨IK I2 g,GY q I2 g l λB t I3 c=>(eu v j I3 c n)⟩
theorem vU(n:X.A.units+1<cLine)(hi:PE X i ty)(j:PE X o td):PC X .NotIn i o (Eo ty td):=by intro b s Z H Q I h;refine thn (hi b s Z H _ I h) ?_;rintro v l ⟨y,q,I1,p,f⟩;refine thn (j b l Z q _ I1 f) ?_;rintro u w c;refine qa c ?_;clear c;rintro x k I2 d ⟨a,m,r,g,e⟩;subst r;obtain rfl:u=Value.ref a:=d;exact EB n I2 g p λt I3=>(eu (.bl (! m.isSome)) k I3 rfl e)
theorem nY(z:X.A.units+1<cLine)(w:PE X o td)(hi:PE X i ty)(p:PE X value tv)(hs:swapsWith value (some (.Subscript o i pos')) pos.line X.env=pure false):
  PS X (.Assign [.Subscript o i pos'] value pos) (CH td ty tv):=by
 intro b s Z H D I h;refine wpAny_Assign_Subscript (thn (p b s Z H _ I h) ?_) hs;rintro r j ⟨v,C,I1,q,e⟩;refine thn (w b j Z C _ I1 e) ?_;rintro u l ⟨x,f,I2,d,t⟩;refine thn (hi b l Z f _ I2 t) ?_;rintro G F c;refine qa c ?_;clear c;rintro y J I3 k ⟨a,n,m,g,B⟩;subst m;obtain rfl:u=Value.ref a:=d;exact GC z I3 g k q λK I4=>(hZ Z n I4 B)
end
theorem zr(h:yA)(a:sysModules<h.objs.size):A1h P w H (h.push {cls:=.type "dict",data:=.dict #[]}) h.objs.size (.dK []):=(jL (jm _) (oA.mpr (Ne.symm (iy a))) [] .nil (Heap.DictOf.new h))
def DN:TE:=λ_ H Q=>∀p,H p=none->Q (.ref p) (upd H p (.dK []))
theorem qA:PE X (.Dict [] [] pos) DN:=λb s Z H Q I h=>wpAny_Dict_empty (eu (.ref s.heap.objs.size) _ (I.laid (a:=s.heap.objs.size) (o:=.dK []) (t':=s.toks) (λ_ _ q=>fy _ q) (fa _) (zr s.heap I.big)) rfl (h _ (I.hok.fresh (fa _))))
def uV:List (TE×TE)->St->Hp->(List (V×V)->Hp->Prop)->Prop| [],_,H,Q=>Q [] H|(tk,tv)::r,Z,H,Q=>tk Z H λx b=>tv Z b λy d=>uV r Z d λc a=>Q ((x,y)::c) a
abbrev VV:List (V×V)->List (zX×zX)->Prop:=Paired λp q=>A2b p.1 q.1/\A2b p.2 q.2
def PPs(X:Cx)(pos:Pos)(keys:List (Option yC))(a:zT)(trs:List (TE×TE)):Prop :=
 ∀(b:zD)(s:zY)(Z:St)(H:Hp)(Q:List (V×V)->Hp->Prop),Inv X b Z H s->uV trs Z H Q->
  wpAny (model X.prog X.w) X.A (evalPairs (pairTrees keys a X.env pos)) (λe f=>∃d c,Inv X b Z c f/\VV d e/\Q d c) X.xe s
theorem yR:PPs X pos [] [] []:=λa s Z H Q I h=>pairTrees_nil_walk (eu [] H I .nil h)
theorem Ak{k v:yC}{ks:List (Option yC)}{vs:zT}(r:PE X k tk)(l:PE X v tv)(m:PPs X pos ks vs trs):
  PPs X pos (some k::ks) (v::vs) ((tk,tv)::trs):=λa s Z H Q I h=>
 pairTrees_cons_walk (thn (r a s Z H _ I h) λu f ⟨x,q,I1,c,d⟩=>thn (l a f Z q _ I1 d) λz j ⟨y,e,I2,i,n⟩=>thn (m a j Z e _ I2 n) (by rintro w t ⟨g,o,I3,b,p⟩;exact eu ((x,y)::g) o I3 (.cons ⟨c,i⟩ b) p))
def ip(kvs a:zJ):zJ:=a.foldl (λb c=>gY b c.1 c.2) kvs
theorem KV.merge:∀{a:zJ}{rs:List (Key×zX)}{kvs:zJ}{vs:List (Key×zX)},KV a rs->KV kvs vs->KV (ip kvs a) (merged vs rs):=by
 intro a rs kvs vs r;unfold KV at r
 induction r generalizing kvs vs with
 |nil=>intro q;exact q
 |@cons p q ps qs h t ih=>
  intro b
  have e:KV (gY kvs p.1 p.2) (stored vs q.1 q.2):=by have:=b.put p.1 h.2;rw[<-h.1];exact this
  exact ih e
theorem wn:∀(a kvs:zJ),(ip kvs a).length<=kvs.length+a.length| [],kvs=>by show kvs.length<=kvs.length+0;lia|p::r,kvs=>by have c:=wn r (gY kvs p.1 p.2);have b:=oQ kvs p.1 p.2;show(ip (gY kvs p.1 p.2) r).length<=_;rw[je];lia
theorem Bo{P:yB}{w:yD}:∀{kvs:zJ}{d:List (zX×zX)},VV (kvs.map λkv=>(kV kv.1,kv.2)) d->∃rs,Carries (ig P w) d rs/\KV kvs rs
 | [],_,r=>by rw[List.map_nil]at r;cases r;exact bd [] True.intro .nil
 |p::kvs,_,r=>by
  rw[ik]at r
  cases r with
  |@cons a b as bs h t=>obtain⟨rs,c,q⟩:=Bo (P:=P) (w:=w) t;obtain⟨f,e⟩:=b;exact bd ((p.1,e)::rs) (fI (pH h.1) rfl c) (.cons ⟨rfl,h.2⟩ q)
def Cf(trs:List (TE×TE)):TE:=λZ H Q=>∀p,H p=none->uV trs Z (upd H p (.dK [])) λd c=>c p=some (.dK [])/\∃a:zJ,d=a.map (λb=>(kV b.1,b.2))/\a.length<=15/\Q (.ref p) (upd c p (.dK (ip [] a)))
theorem yf{b:zT}(h:PPs X pos keys b trs)(d:keys.all (·.isSome)=true)(t:keys.length=b.length)(h0:keys≠[])
  (k:keys.length<=15):PE X (.Dict keys b pos) (Cf trs):=by
 intro i s Z H Q I q;have y:=I.hok.fresh (fa s.heap.objs.size);have I1:=I.laid (a:=s.heap.objs.size) (o:=.dK []) (h':=s.heap.push {cls:=.type "dict",data:=.dict #[]}) (t':=s.toks) (λ_ _ q=>fy _ q) (fa _) (zr s.heap I.big);refine wpAny_Dict_walk (knd:=ig X.prog X.w) d t h0 k (thn (h i _ Z _ _ I1 (q _ y)) ?_);rintro M L l;refine qa l ?_;clear l;rintro K G I2 j ⟨e,f,n,J,v⟩;subst n;obtain⟨m,c,x⟩:=Bo (P:=X.prog) (w:=X.w) j;obtain⟨z,A,C,B,r⟩:=qQ I2.hok e;cases B;refine eh m c r λh' g p=>(eu (.ref s.heap.objs.size) _ ?_ rfl v)
 have F:(ip [] f).length<=sizeLine:=by have u:=wn f [];rw[mQ]at u;rw[sizeLine_eq];lia
 have D:∃q,h'.get? s.heap.objs.size=some q:=let⟨q,_,_,hq,_⟩:=g;⟨q,hq⟩;exact tG I2 (by rw[e];exact True.intro) p D (xN F A (x.merge .nil) g)
section
variable{r:zX}
end
section
variable{o f:yC}
end
section
variable{kvs:zJ}
end
end L2
namespace Att
open PySem PySem.W PySem.Calls PyProof.Rows
variable{w:yD}{s:zY}{q prog:yB}{n:Nat}{l:OpenLaw}{h:yA}{d:DefRec}{c:zH}{b:zC}{args:List WData}{YP:yD->yA->Prop}{XP:zE->yA->Prop}{P:Params}{K:Frag}{E:zA}{A:zZ}
theorem Km:∀(ns:zI)(vs:zH),WellAll P h vs (ns.map WData.int)->IntsAre vs ns:=by
 intro ns
 induction ns with
 |nil=>intro vs w;rw[List.map_nil]at w;cases w;exact .nil
 |cons n ns ih=>
  intro vs w;rw[ik]at w
  cases w with
  |cons a b=>
   cases a
   exact .cons _ _ (ih _ b)
theorem GP(hn:l.most=some n)
  (e:l.row.toRowW.claim.pre args=true) (k:WellAll P h c args):
  ∃a vs b,c=[Value.ref a]/\args=[WData.list (b.map WData.int)]/\h.get? a=some {cls:=.type "list",data:=.seq vs.toArray}/\IntsAre vs b/\b.length<=n:=by
 have j:WShape.hasAll [] args [.list .int]=true:=(pre_splitW e).1;have m:l.pre.holds [] {args:=args}=true:=(pre_splitW e).2;obtain⟨d,r,rfl,o,s⟩:=hasAllW_cons j;obtain rfl:=hasAllW_nil s;obtain⟨u,rfl,p⟩:=hasW_list o;obtain⟨b,rfl⟩:=items_int p
 have f:b.length<=n:=by
  unfold OpenLaw.pre at m
  have g:(WTm.not (.lt (.lit (.int (n:Int))) (.len (.arg 0)))).holds [] {args:=[.list (b.map .int)]}=true:=by have g:=(holds_andW m).1;rw[hn]at g;exact g
  have i:=condW_of g (w_not (w_lt w_lit (w_len_list (w_arg rfl))));rw[dm]at i;refine Nat.le_of_not_lt λq=>?_;have t:(n:Int)<((b.length:Nat):Int):=by lia
  first|(rw[jl t]at i;exact absurd i (by decide))|(simp at i;lia)
 cases k with
 |cons w1 w2=>
  cases w2
  cases w1 with
  |list ho hall=>exact iL _ _ b rfl rfl ho (Km b _ hall) f
theorem Gm(l:OpenLaw)(args:List WData):l.row.toRowW.claim.post args (.bool true) args=true :=
 postW_of (r:=l.row.toRowW) (X:=(true==true))
  (show WShape.has [] (.bool true) .bool=true by first|rfl|decide|simp[WShape.has,WShape.arms,WShape.armsAll])
  (show(WTm.eq .res (.lit (.bool true))).value [] {args:=args,res:=some (.bool true),after:=args}=some (.bool (true==true)) from w_eq_bool (w_res rfl) w_lit) rfl
theorem attach_call
  (hn:l.most=some n) (y:d.params.defaults=[])
  (k:∀(w:yD)(u c:zY)(mg s:zE)(i:zW)(o:Obj)(pm cd e:zX)(a:zW)(vs:zH)(p:zI),
   Ground q b [] XP w u mg s c.heap->YP w c.heap->
   c.heap.get? i=some o->o.data=.func (docDef d.name d.params d.body d.scope pm cd e)->c.heap.CodeRec cd d.name->mg d.name=some (.ref i)->
   c.heap.get? a=some {cls:=.type "list",data:=.seq vs.toArray}->IntsAre vs p->p.length<=n->c.gens=#[]->
   codeAny (model l.prog w) callerA (.call (.ref i) ⟨[.ref a],[]⟩) (λr s'=>r=.ok (.ret (.bool true))/\OldK c.heap s'.heap/\s'.os=c.os/\AllBare s'.gens) c):
  WalkO q b XP YP l.row.toRowW d [] (λf vs=>PySem.call f vs):=by
 intro w u c mg s G Y i o pm cd e P kV J L t A v O B z Q m C H x N;obtain rfl:P=.none:=Dflts.none A y;obtain rfl:kV=.none:=Dflts.noKw A;refine gW (GP hn m x) ?_;rintro a vs p rfl rfl h ⟨g,j⟩;refine enter_call (codeAny_mono (k w u c mg s i o pm cd e a vs p G Y J (fd_plain L) t v h g j O) λr s' I=>?_);obtain⟨rfl,M,D,K⟩:=I;exact jx (.inl (iL (.bool true) (.bool true) [] rfl (λ_=>rfl) (.bool true) (Gm l _) λ_=>⟨List.Pairwise.nil,λ_ F=>(nomatch F)⟩)) M D K
end Att
namespace L2
open PySem PySem.Spec PyProof.Rows
variable{xs:zM}{x qual:Str}{w:yD}{vs:zH}{s₁:zY}{st:Stmt}{sp:Sp}{q P:yB}{ps i N:zC}{pos:Pos}{pm oc ct b:zX}{osl:zF}{od an:zO}{n:Nat}{mg Q:zE}{l:zI}{fd:zS}{f a O:zW}{d:DefRec}{c B A:Prop}{base:yA}{YP:yD->yA->Prop}{XP:zE->yA->Prop}{X:Cx}{K:Frag}{H2 H1 H' H:Hp}{CX:CXT}
theorem AC:∀{vs:zH}{a:zI},IntsAre vs a->A2k (a.map V.int) vs|_,_,.nil=>.nil|_,_,.cons n t h=>.cons ⟨t,rfl⟩ (AC h)
def uq(H:Hp):Prop:=∀b,H b=none\/∃o a,H b=some (.frz o (.lst a))
theorem Gg{k:Nat}
  (KX:K.In s₁.heap) (B:s₁.heap.Ns mainGlobals mg) (f:s₁.heap.Ns builtinsNs Q) (S:∀x:Str,x≠"__name__"->Q x=bootBuiltins x) (D:s₁.heap.NoLimit) (hg:s₁.gens=#[])
  (J:s₁.heap.get? a=some {cls:=.type "list",data:=.seq vs.toArray}) (hi:IntsAre vs l) (Y:l.length<=sizeLine) (hr:A5p k callerA)
  (F:∀base:yA,K.In base->base.Ns mainGlobals mg->A4u P w K mg base CX k O fd [x] sp) (j:∀(s:zY)(u:zX),BindsTo s fd ⟨[u],[]⟩ [(x,u)])
  (L:∀H:Hp,uq H->SqL K H a (l.map V.int)->sp [.ref a] H (λv _=>v=.bl true) λ_ _ _=>False)
  (R:∀H e s',CX [] H s₁ (λ_ _ _=>False) e s'->False):
  codeAny (model P w) callerA (.call (.ref O) ⟨[.ref a],[]⟩) (λr s'=>r=.ok (.ret (.bool true))/\OldK s₁.heap s'.heap/\s'.os=s₁.os/\AllBare s'.gens) s₁:=by
 have Z:=AC hi;have G:=hi.length
 have i:∀H:Hp,uq H->SqL K H a (l.map V.int)->HOk P w H s₁.heap->(∀b,H b≠none->b=a)->(H a≠none->K.lookup a=none)->
   codeAny (model P w) callerA (.call (.ref O) ⟨[.ref a],[]⟩) (λr s'=>r=.ok (.ret (.bool true))/\OldK s₁.heap s'.heap/\s'.os=s₁.os/\AllBare s'.gens) s₁:=by
  intro H U hS A W hK;have c:∀{b:zW}{o:Obj},s₁.heap.get? b=some o->H b=none->(oG s₁.heap H).get? b=some o:=λe n=>Ff e n
  have N:∀{b:zW}{o:Obj}{p:Array DictEntry}{ep:Nat},s₁.heap.get? b=some o->o.data=.dict p ep->H b=none:=λ{b o p ep} e d=>by
   cases q:H b with
   |none=>rfl
   |some u=>have M:b=a:=W b (by rw[q];simp);subst M;rw[J]at e;cases e;have d':Data.seq vs.toArray _=Data.dict p ep:=d;cases d'
  have g:∀{b:zW}{m:zE},s₁.heap.Ns b m->(oG s₁.heap H).Ns b m:=λ{b m} ⟨o,p,ep,e,d,r⟩=>(jQ o p ep (c e (N e d)) d r)
  have I:K.In (oG s₁.heap H):=λb o e=>c (KX b o e) (by
   cases q:H b with
   |none=>rfl
   |some u=>
    have M:b=a:=W b (by rw[q];simp);subst M
    rw[hK (by rw[q];simp)]at e;cases e)
  have E:Mod K mg (oG s₁.heap H):=⟨I,g B,(bd Q (g f) S),let⟨mc,h1,h2⟩:=D;(bd mc (g h1) h2)⟩;have e0:C9o P w K mg (oG s₁.heap H) callerA [] s₁ H:=⟨rfl,E,λb o e=>Ek e,Nat.le_of_eq (Gn _ _),trivial,λb f=>absurd (show b∈([]:zQ) from f) (by simp),A,.of_eq hg⟩;refine codeAny_mono ((F _ I (g B)).run callerA [] s₁ H ⟨[.ref a],[]⟩ [.ref a] [.ref a] _ _ hr e0 (j s₁ (.ref a)) (.cons rfl .nil) (L H U hS)) λr s' h=>?_
  cases r with
  |error e=>exact(R H e s' h).elim
  |ok fl=>
   cases fl with
   |next=>exact False.elim h
   |brk=>exact False.elim h
   |cont=>exact False.elim h
   |ret u=>
    refine iq h ?_;clear h;rintro v H' os t X y ⟨r',q⟩;have q':v=.bl true:=q;subst q';obtain rfl:u=Value.bool true:=r';refine jx rfl (OldK.of_keep λb o e=>?_) os t
    cases q:H b with
    |none=>exact X.keep b o e q (by intro z;exact absurd (show b∈([]:zQ) from z) (by simp)) (by simp)
    |some u=>
     rcases U b with z|⟨ob,xs,z⟩
     ·rw[q]at z;cases z
     ·have z2:=X.frzs b ob _ z;obtain⟨T,_⟩:=A b _ z;obtain⟨e2,_⟩:=y b _ z2;rw[e]at T;cases T;exact e2
 cases hk:K.lookup a with
 |some o=>have e:=KX a o hk;rw[J]at e;cases e;refine i (λ_=>none) (λ_=>.inl rfl) (.inr (ox _ vs.toArray _ hk rfl rfl rfl (by rw[iR,G];exact Y) (by simpa using Z))) (λb u z=>by have C:(none:Option HO)=some u:=z;cases C) (λb z=>absurd rfl z) λz=>absurd rfl z
 |none=>
  refine i (λb=>if b=a then some (.frz {cls:=.type "list",data:=.seq vs.toArray} (.lst (l.map V.int)))else none) (λb=>?_) (.inl (.inr ⟨{cls:=.type "list",data:=.seq vs.toArray},dn rfl⟩)) (λb u z=>?_) (λb z=>?_) λ_=>hk
  ·by_cases f:b=a
   ·exact .inr (iA _ _ (dn f))
   ·exact .inl (dh f)
  ·by_cases f:b=a
   ·have C:=(dn f).symm.trans z;cases C;subst f;exact⟨J,(kW (by rw[dm];exact Y) vs _ Z J)⟩
   ·have C:=(dh f).symm.trans z;cases C
  ·by_cases f:b=a
   ·exact f
   ·exact absurd (dh f) z
theorem D5p{l:PySem.W.OpenLaw}{k:Nat}{K:Params->Frag}{CX:yD->CXT}{sp:yD->Sp}
  (hn:l.most=some n) (y:n<=sizeLine) (B:d.params.defaults=[]) (N:A5p k callerA)
  (J:∀(w:yD)(h:yA),YP w h->(K w.params).In h)
  (F:∀(w:yD)(mg:zE)(r:zW)(h:yA),(K w.params).In h->h.Ns mainGlobals mg->mg d.name=some (.ref r)->
   ∃fd:zS,(∀(s:zY)(u:zX),BindsTo s fd ⟨[u],[]⟩ [(x,u)])/\
    ∀base:yA,(K w.params).In base->base.Ns mainGlobals mg->A4u l.prog w (K w.params) mg base (CX w) k r fd [x] (sp w))
  (t:∀(w:yD)(H:Hp)(a:zW)(p:zI),p.length<=n->uq H->SqL (K w.params) H a (p.map V.int)->sp w [.ref a] H (λv _=>v=.bl true) λ_ _ _=>False)
  (z:∀(w:yD)(H:Hp)(s:zY)(e:zX)(s':zY),CX w [] H s (λ_ _ _=>False) e s'->False):
  PySem.W.WalkO q i XP YP l.row.toRowW d [] (λf vs=>PySem.call f vs):=by
 refine Att.attach_call hn B λw U Q mg R r o E S M a vs p G Y X Z L A m j c P=>?_;have KX:=J w _ Y;obtain⟨fd,I,O⟩:=F w mg r _ KX G.T.g A;exact Gg KX G.T.g G.T.b G.T.builtins G.T.nolimit P m j (jT c y) N O I (λH C D=>t w H a p c C D) λH e s'=>z w H Q e s'
def me(s:Stmt)(j:Nat):Stmt:=match s with|.ClassDef _ _ _ body _ _ _ _ _ _ _=>body.getD j (.Pass ⟨0,0,0,0⟩)|_=>.Pass ⟨0,0,0,0⟩
def nX(s:Stmt):Arguments:=match s with|.FunctionDef _ a _ _ _ _ _ _ _ _=>a|_=>{posonlyargs:=[],args:=[],vararg:=none,kwonlyargs:=[],kw_defaults:=[],kwarg:=none,defaults:=[]}
def mE(s:Stmt):List Stmt:=match s with|.FunctionDef _ _ b _ _ _ _ _ _ _=>b|_=>[]
def gE(s:Stmt):Scope:=match s with|.FunctionDef _ _ _ _ _ _ sc _ _ _=>sc|_=>{kind:=.function,names:=[],isGenerator:=false,isCoroutine:=false}
abbrev iS:CXT:=λ_ _ _ _ _ _=>False
abbrev E0:XK:=λ_ _ _=>False
theorem nB:pd iS X E0:=λ_ _ _ _ _ _ _ h=>h.elim
structure Fun(K:Frag)(x qual:Str)(st:Stmt)(f:zW)(fd:zS):Prop where
 ex:∃(oc:zX)(od:zO)(kV doc pm:zX)(an:zO)(cdv ct:zX)(osl:zF),
  fd=fnOf x qual (nX st) (mE st) (gE st) .none kV doc pm an cdv ct/\K.lookup f=some ⟨oc,od,.func fd,osl⟩/\codeIn K cdv qual=true
 kp:keepIn K (.ref f)=true
theorem Fun.ok{k:Nat}(F:Fun K x qual st f fd)(S:gQ N ps (gE st))
  (b:∀(a:zX)(A:zZ)(outer:List Env)(s:zY)(H:Hp)(vs:zM)(Q:VK)(E:XK),A5p k (A.deeper (envOfC qual (gE st) s.heap.objs.size f a))->sp vs H Q E->
   ∃t,PSs (oE iS P w K mg base N qual (gE st) f a A outer s H E).nox (mE st) t/\t {nx:=λ_ H'=>Q .non H',rt:=Q} (start N vs) H) (e:∀vs H Q E,sp vs H Q E->vs.length=ps.length:=by walk_at"ln"):A4u P w K mg base iS (k+1) f fd ps sp:=by
 refine kK F.ex ?_;rintro r p kV g o n a m l rfl j d;refine xf j d S e λA outer s H vs Q E i c=>?_;obtain⟨t,h,q⟩:=b a A outer s H vs Q E i c;exact bd t h.nox q
theorem Fun.binds(F:Fun K x qual st f fd)
  (h:∀(kV a pm:zX)(an:zO)(b ct:zX)(us:zH),us.length=ps.length->bindArgs (fnOf x qual (nX st) (mE st) (gE st) .none kV a pm an b ct) ⟨us,[]⟩=pure (ps.zip us)):A7h K fd ps []:=by
 refine kK F.ex ?_;rintro i g kV a pm an b ct c rfl e d;exact .all (h kV a pm an b ct)
theorem sS{kV a:zX}(l:K.lookup f=some ⟨oc,od,.func (fnOf x qual (nX st) (mE st) (gE st) .none kV b pm an a ct),osl⟩)
  (c:codeIn K a qual=true) (k:keepIn K (.ref f)=true):Fun K x qual st f (fnOf x qual (nX st) (mE st) (gE st) .none kV b pm an a ct):=⟨(jB oc od kV b pm an a (eu ct osl rfl l c)),k⟩
theorem mC{A:zZ}{k:Nat}(a:A5p k A):A.units+1<cLine:=Nat.lt_of_le_of_lt (Nat.add_le_add_left (by decide:1<=64) _) a.units
theorem pv(i:Nat)(b:X.N[i]?=some x:=by rfl)(c:Vis X.env.scope x:=by first|exact Or.inl rfl|exact Or.inr (Or.inl rfl)|exact Or.inr (Or.inr rfl))(d:(x==("__debug__":Str))=false:=by decide)
  (a:(x==("__classdict__":Str))=false:=by decide):PE X (.Name x pos) (qh i):=CV b c d a
theorem vT:mZ X (.builtin "len") (λxs H Q=>∃a kvs,xs=[V.ref a]/\H a=some (.dK kvs)/\Q (.int kvs.length) H):=by intro b s Z H xs e Q I r h;obtain⟨a,kvs,rfl,d,q⟩:=h;obtain⟨u,rfl,c⟩:=oH r;cases c;exact CC I (.inl d) λt f I'=>(eu (.int kvs.length) H I' ⟨t,rfl⟩ q)
theorem hB(h:B):if false=true then A else B:=by rw[dh ij];exact h
theorem kC(h:A):if true=true then A else B:=by rw[dn rfl];exact h
theorem wS[Decidable c](h1:c->A)(h2:¬c->B):if c then A else B:=by
 by_cases h:c
 ·rw[dn h];exact h1 h
 ·rw[dh h];exact h2 h
theorem xt[Decidable c](a:c)(h:B):if (! decide c)=true then A else B:=by rw[jl a];exact hB h
def A0m(H H':Hp):Prop:=∀b o,H b=some o->H' b=some o
theorem A0m.refl(H:Hp):A0m H H:=λ_ _ h=>h
theorem A0m.trans(a:A0m H H1)(b:A0m H1 H2):A0m H H2:=λc o h=>b c o (a c o h)
theorem A0m.free(e:A0m H H'){l:zW}(h:H' l=Option.none):H l=Option.none:=by
 cases q:H l with
 |none=>rfl
 |some o=>rw[e l o q]at h;cases h
theorem A0m.seq(e:A0m H H')(h:SqL K H a xs):SqL K H' a xs:=by
 rcases h with (h|⟨o,h⟩)|h
 ·exact .inl (.inl (e _ _ h))
 ·exact .inl (.inr ⟨o,e _ _ h⟩)
 ·exact .inr h
section
variable{κ:Type}[DecidableEq κ]
end
end L2
namespace SA
open PySem PyProof.Rows
variable{w:yD}{v:zX}{s:zY}{prog:yB}{h:yA}{g f:zI}{S:Keyed->Prop}{E:zA}{A:zZ}
section
structure Tr(lt:Keyed->Keyed->Bool)(S:Keyed->Prop):Prop where
 tr:∀x y z,S x->S y->S z->lt y x=false->lt z y=false->lt z x=false
structure Asks(prog:yB)(w:yD)(A:zZ)(s:zY)(κ:SortKind)(lt:Keyed->Keyed->Bool)(S:Keyed->Prop):Prop extends Tr lt S where
 ask:∀x y,S x->S y->∀(E:zA)(Q:Bool->zY->Prop),Q (lt x y) s->wpAny (model prog w) A (keyLt' κ x.1 y.1) Q E s
 asym:∀x y,S x->S y->lt x y=true->lt y x=false
variable{κ:SortKind}{lt:Keyed->Keyed->Bool}
end
def iC:zI->List Int->Bool|_,[]=>false| [],_::_=>true|x::xs,y::ys=>if x=y then iC xs ys else decide (x<y)
theorem tN:∀(x y:zI),iC x y=true->iC y x=false
 | [],[],h=>by cases h
 |_::_,[],h=>by cases h
 | [],y::ys,_=>rfl
 |x::xs,y::ys,h=>by
  unfold iC at h⊢;by_cases c:x=y
  ·rw[dn c]at h;rw[dn c.symm];exact tN xs ys h
  ·rw[dh c]at h;rw[dh λe=>c e.symm];have:=of_decide_eq_true h;exact ir (by lia)
theorem yh:∀(x y z:zI),iC y x=false->iC z y=false->iC z x=false
 | [],_,z,_,_=>by cases z<;>rfl
 |x::xs,[],z,h,_=>by cases h
 |x::xs,y::ys,[],_,h=>by cases h
 |x::xs,y::ys,z::zs,h1,h2=>by
  unfold iC at h1 h2⊢;by_cases c1:y=x
  ·rw[dn c1]at h1;by_cases c2:z=y
   ·rw[dn c2]at h2;rw[dn (c2.trans c1)];exact yh xs ys zs h1 h2
   ·rw[dh c2]at h2;rw[dh (by lia)];have:=of_decide_eq_false h2;exact ir (by lia)
  ·rw[dh c1]at h1;have a:=of_decide_eq_false h1;by_cases c2:z=y
   ·rw[dh (by lia)];exact ir (by lia)
   ·rw[dh c2]at h2;have b:=of_decide_eq_false h2;rw[dh (by lia)];exact ir (by lia)
section
def B4e(h:yA)(v:zX)(c:zI):Prop:=∃a o b n,v=.ref a/\h.get? a=some o/\o.cls=.type "tuple"/\o.data=.seq b n/\IntsAre b.toList c
theorem zh:∀{xs:zH}{b c:zI},IntsAre xs b->IntsAre xs c->b=c|_,_,_,.nil,.nil=>rfl|_,_,_,.cons a t h,.cons _ _ h'=>by rw[zh h h']
theorem B4e.one(x:B4e h v f)(y:B4e h v g):f=g:=by refine jM x ?_;clear x;rintro a o t n rfl j q l m;refine jM y λr p k s e c i b d=>?_;clear y;cases e;rw[j]at c;cases c;rw[l]at b;cases b;exact zh m d
open Classical in
end
end SA
namespace L2
open PySem PySem.Spec PyProof.Rows
variable{κ α:Type}{z l2 l1 i2 i1 dx c b a:zW}{ys:zG}{y:zX}{w:yD}{v:V}{tn st2 st1:Nat->yA->Prop}{tl te ta:TE}{tc:TT}{t:TA}{st:Stmt}{src2 src1:zG->yA->Prop}{sp' sp:Sp}{scope:Scope}{s1 s' s:zY}{rest:List Stmt}{q2 q1 k2 k1:Bool}{ps N0 N':zC}{prog:yB}{pos p apos:Pos}{pl pins:zD}{mg:zE}{m f:Str}{js:List Nat}{j i:Nat}{ix:List (Option Nat)}{h' g' base:yA}{g:TG}{fp:zQ}{fd:zS}{ds:List PyData}{cl:List (Str×zW)}{Z₀ Z' Z:St}{X:Cx}{U T:String}{S':zV}{QD:Hp->Prop}{L:List (V×V)}{K:Frag}{J:It}{H2 H G:Hp}{E:zA}{CX:CXT}{B:Prop}{A:zZ}
variable{u:HO}{K:Frag}{h:yA}{g:TG}{e:zO}{fp ts:zQ}{vs:List (Key×zX)}{Q Qf:zA}{es:Array DictEntry}{it l a d C:zW}{xs:zG}{x:zX}{t' kk n ep i₀:Nat}{o od:Obj}{X:Cx}{pins:zD}{Z:St}{H H':Hp}{s:zY}{P:yB}{w:yD}{elts cs:zT}{pos pos₀ spos:Pos}{tg elt iter:yC}{tb:TS}{D:kR}{v:V}{scope:Scope}{N':zC}{S:zV}{r:zK}{kvs:zJ}{ix:List (Option Nat)}{cl:List (Str×zW)}{wi:TI}{tc:TT}{te:TE}{use:Option (zX->Sem Unit)}{sts:List Stmt}{x₀:Str}
def wG(t u:TS):TS:=λD Z H=>∃M:St->Hp->Prop,t {D with nx:=M} Z H/\∀Z' a,M Z' a->u D Z' a
theorem D8{t u:TS}(h1:PS X st t)(h2:PSs X rest u):PSs X (st::rest) (wG t u):=by
 intro a s Z H D I h;obtain⟨M,h,d⟩:=h;refine wpAny_execs_cons (thn (h1 a s Z H {D with nx:=M} I h) λf c q=>?_)
 cases f with
 |next=>obtain⟨Z',b,I',q⟩:=q;exact h2 a c Z' b D I' (d _ _ q)
 |ret v=>exact q
 |brk=>exact q
 |cont=>exact q
def rIsi(K:Frag):zM->Hp->VK->Prop:=λa H Q=>∃x c t b,a=[x,c]/\kZ K H x t/\(∀u,A2b c u->kitOne K t u=some b)/\Q (.bl b) H
theorem kh:mZ X (.builtin "isinstance") (rIsi X.K):=by intro d s Z H l k Q I r h;refine ku h ?_;clear h;rintro x c t ⟨b,rfl,j,e,q⟩;obtain⟨u,f,rfl,g,a⟩:=qr r;exact GD I g j (e f a) λi=>(eu (.bl b) H (I.tok i) rfl q)
theorem oi(T:String):∀u,A2b (.ty T) u->kitOne K (.type T) u=some true:=by intro u h;cases(show u=Value.type T from h);unfold kitOne;rw[dn (beq_self_eq_true _)]
theorem qu{b:Bool}(h:(Value.type T==Value.type U)=false)(a:PySem.W.kitMeta U=true)(hs:(PySem.fastBuiltinMro T).map (·.contains (Value.type U))=some b):
  ∀u,A2b (.ty U) u->kitOne K (.type T) u=some b:=by
 intro u z;cases(show u=Value.type U from z);unfold kitOne;rw[dh (by rw[h];exact ij)];show(if PySem.W.kitMeta U=true then subIn K (.type T) (.type U)else none)=some b;rw[dn a];exact hs
def Co(_ j:Int):Prop:=0<j/\j.natAbs<2^4000
theorem Gj:OpR X (binaryOp .FloorDiv) (rI Co λi j=>.int (i/j)):=opI λi j _ _ _ _ _ a q=>by have c:(0:Int)<j:=a.1;have b:j.natAbs.log2<9000:=Nat.lt_trans ((Nat.log2_lt (by lia)).mpr a.2) (by decide);exact floordiv_int (by lia) (by rw[Int.fdiv_eq_ediv_of_nonneg i (by lia)];exact q) (.inl (PyProof.noPylong_of_log2 b))
structure Nx(it l:zW)(st:Nat->yA->Prop)(src:zG->yA->Prop):Prop where
 item:∀{prog:yB}{w:yD}{A:zZ}{E:zA}{s:zY}{k:Nat}{xs:zG}{x:zX}{Q:zA},st k s.heap->src xs s.heap->xs[k]?=some x->
  (∀h',st (k+1) h'->Heap.SameBut it s.heap h'->Q x {s with heap:=h'})->wpAny (model prog w) A (Builtin.SmallTypes.nextOf (.ref it)) Q E s
 fin:∀{prog:yB}{w:yD}{A:zZ}{E:zA}{s:zY}{k:Nat}{xs:zG}{Q:zA},A.handled=none->st k s.heap->src xs s.heap->xs[k]?=none->
  (∀h' e,Heap.ExtBut it s.heap h'->(∃o,h'.get? e=some o/\o.cls=.type "StopIteration")->E (.ref e) {s with heap:=h'})->wpAny (model prog w) A (Builtin.SmallTypes.nextOf (.ref it)) Q E s
 mv:∀{k:Nat}{h h':yA},st k h->(∀o,h.get? it=some o->h'.get? it=some o)->st k h'
 mvS:∀{xs:zG}{h h':yA},src xs h->(∀o,h.get? l=some o->h'.get? l=some o)->src xs h'
 ob:∀{k:Nat}{h:yA},st k h->∃o,h.get? it=some o/\∀v,o.data≠.cell v
theorem pN(it l:zW):Nx it l (λk h=>h.IsListIter it l k) (λxs h=>h.IsList l xs) where
 item:=wpAny_nextOf_list_item
 fin:=wpAny_nextOf_list_end
 mv:=λx e=>x.at e
 mvS:=λx e=>x.at e
 ob:=λ⟨o,e,_,d⟩=>(bd o e λv z=>by rw[d]at z;cases z)
def D8c(h:zW)(g:yA):Prop:=∃b a,g.get? h=some b/\b.data=.fields a/\a[2]?=some .none
theorem D8c.at{h:zW}{g:yA}(k:D8c h g)(f:∀o,g.get? h=some o->g'.get? h=some o):D8c h g':=let⟨oh,vs,e,d,z⟩:=k;(eu oh vs (f _ e) d z)
abbrev HdA(e:zO):zZ->Prop:=λA=>A.handled=e.map Value.ref
def HdF(e:zO)(fp:zQ)(g:yA):Prop:=∀h,e=some h->D8c h g/\∀c∈fp,h≠c
theorem HdF.at{g:yA}(k:HdF e fp g)(f:∀h o,(∀c∈fp,h≠c)->g.get? h=some o->g'.get? h=some o)(a:c∈fp):HdF e [c] g':=λh z=>⟨(k h z).1.at λo q=>f h o (k h z).2 q,λd b=>by rw[gX.mp b];exact(k h z).2 c a⟩
theorem JP:entryFor table "proto.unchain"=some Builtin.«proto.unchain»:=entryFor_of_fast (by kernel_rfl)
theorem Jp{e:zX}{h:zW}{a:Obj}{vs:zG}(d:s.heap.get? h=some a)(c:a.data=.fields vs)(h2:vs[2]?=some .none)(b:Q .none s):
  wpAny (model prog w) A (runValue (.builtin "proto.unchain" ⟨[e,.ref h,.ref h,.bool false],[]⟩)) Q E s:=by
 refine runValue_entry JP ?_;show wpAny _ _ (field (.ref h) 2>>=_) _ _ s;refine az (iO d c h2 ?_);exact da (bd _ rfl b)
theorem BP{h e:zW}{c b:Obj}{vs es:zG}{Q:α->zY->Prop}(j:A.handled=some (.ref h))(f:h≠e)(k:s.heap.get? h=some c)(m:c.data=.fields vs)(h2:vs[2]?=some .none)(g:s.heap.get? e=some b)(a:b.data=.fields es)(i:2<es.size)
  (l:E (.ref e) {s with heap:=s.heap.update e (Obj.mapFields (·.setIfInBounds 2 (.ref h)))}):wpAny (model prog w) A (raiseNew (.ref e)) Q E s:=by
 simp only [raiseNew];refine az (wpAny_handled ?_);rw[j];have d:(Value.ref h != Value.ref e)=true:=by simpa using f
 dsimp only;rw[dn d];refine az (jS (Jp k m h2 ?_));refine az (oS (x:=.ref h) g a i (wpAny_throw l))
theorem xc{Q:α->zY->Prop}(i:HdA e A)(t:HdF e [it] s.heap)(f:Heap.ExtBut it s.heap s1.heap)
  (g:∀h' a,Heap.ExtBut it s.heap h'->(∃o,h'.get? a=some o/\o.cls=.type "StopIteration")->E (.ref a) {s1 with heap:=h'}):wpAny (model prog w) A (newExc (.type "StopIteration") []>>=λx=>(raiseNew x:Sem α)) Q E s1:=by
 refine az ?_;simp only [newExc,newTuple];refine az (kB ?_ (by size_fits));refine az (m:=firstArgMember _ _) (wpAny_of_eq (a:=Value.none) (by first|rfl|(simp only [firstArgMember];rfl)) ?_);refine kB ?_ (by size_fits)
 cases e with
 |none=>simp only [raiseNew];refine az (wpAny_handled ?_);rw[show A.handled=none from i];exact az (da (wpAny_throw (g _ _ ((f.push _).push _) (bd _ (hU _ rfl) rfl))))
 |some h=>
  obtain⟨⟨n,u,q,p,r⟩,k⟩:=t h rfl;have c:=f h n (k it (.head _)) q;refine BP (h:=h) i ?_ (fy _ (fy _ c)) p r (hU _ rfl) rfl (by simp;lia) ?_
  ·exact iy (by rw[lR];exact Nat.lt_succ_of_lt (gC c))
  refine g _ _ (λb o j l=>?_) (bd _ (nk _ (hU _ rfl) rfl) rfl);have d:=f b o j l;exact(nq _ _ (jC (by rw[lR];exact Nat.lt_succ_of_lt (gC d)))).trans (fy _ (fy _ d))
theorem Ee{k:Nat}(m:HdA e A)(j:HdF e [it] s.heap)(hi:s.heap.IsListIter it l k)(g:s.heap.IsList l xs)(i:xs[k]?=none)
  (n:∀h' a,Heap.ExtBut it s.heap h'->(∃o,h'.get? a=some o/\o.cls=.type "StopIteration")->E (.ref a) {s with heap:=h'}):wpAny (model prog w) A (callSpecial? (.ref it) (Str.ofString "__next__")) (λ_ _=>False) E s:=by
 obtain⟨o,c,p,d⟩:=id hi;obtain⟨r,f,_,q,b⟩:=g;refine lT (name:=Str.ofString "__next__") hi.typeIs slot_listiter_next (jD slot_listiter_next hi.typeIs entry_listiter_next ?_ (args_listiter_next _));show wpAny _ _ (field (.ref it) 0>>=_) _ _ s;refine az (iO c d (x:=.ref l) rfl ?_);show wpAny _ _ (if (Value.ref l==Value.none)=true then _ else _) _ _ s;rw[dh (show¬((Value.ref l==Value.none)=true) from ij)];show wpAny _ _ (field (.ref it) 1>>=_) _ _ s;refine az (iO c d (x:=.int k 0) rfl ?_);show wpAny _ _ (seqItems? (.ref l)>>=_) _ _ s;refine az (jY f b ?_);simp only [Int.toNat_natCast,i];exact az (wpAny_rule (az (oS c d (by simp) (xc m j (Heap.SameBut.update (a:=it) (h:=s.heap) (Obj.mapFields (·.setIfInBounds 0 .none))).extBut n))))
theorem vq{k:Nat}(m:HdA e A)(j:HdF e [it] s.heap)(hi:s.heap.IsTupleIter it l k)(g:s.heap.IsTuple l xs)(i:xs[k]?=none)
  (n:∀h' a,Heap.ExtBut it s.heap h'->(∃o,h'.get? a=some o/\o.cls=.type "StopIteration")->E (.ref a) {s with heap:=h'}):wpAny (model prog w) A (callSpecial? (.ref it) (Str.ofString "__next__")) (λ_ _=>False) E s:=by
 obtain⟨o,c,p,d⟩:=id hi;obtain⟨r,f,_,q,b⟩:=g;refine lT (name:=Str.ofString "__next__") hi.typeIs F.slot_tuple_iterator_next (jD F.slot_tuple_iterator_next hi.typeIs F.entry_tuple_iterator_next ?_ (F.args_tuple_iterator_next_1 _));show wpAny _ _ (field (.ref it) 0>>=_) _ _ s;refine az (iO c d (x:=.ref l) rfl ?_);show wpAny _ _ (if (Value.ref l==Value.none)=true then _ else _) _ _ s;rw[dh (show¬((Value.ref l==Value.none)=true) from ij)];show wpAny _ _ (field (.ref it) 1>>=_) _ _ s;refine az (iO c d (x:=.int k 0) rfl ?_);show wpAny _ _ (seqItems? (.ref l)>>=_) _ _ s;refine az (jY f b ?_);simp only [Int.toNat_natCast,i];exact az (wpAny_rule (az (oS c d (by simp) (xc m j (Heap.SameBut.update (a:=it) (h:=s.heap) (Obj.mapFields (·.setIfInBounds 0 .none))).extBut n))))
theorem vl(h:wpAny (model prog w) A (callSpecial? x (Str.ofString "__next__")) (λ_ _=>False) E s):wpAny (model prog w) A (Builtin.SmallTypes.nextOf x) Q E s:=by unfold Builtin.SmallTypes.nextOf;exact az (iV h (λ_ _ z=>z.elim) λ_ _ z=>z)
theorem Eh{Q:zN->zY->Prop}(f:∀h',Heap.ExtBut it s.heap h'->Q none {s with heap:=h'})
  (h:∀E:zA,(∀h' a,Heap.ExtBut it s.heap h'->(∃o,h'.get? a=some o/\o.cls=.type "StopIteration")->E (.ref a) {s with heap:=h'})->wpAny (model prog w) A (callSpecial? (.ref it) (Str.ofString "__next__")) (λ_ _=>False) E s):wpAny (model prog w) A (pyNext (.ref it)) Q E s:=by
 unfold pyNext;refine az (wpAny_attempt (iV (h (λv d=>∃h' a,v=.ref a/\d={s with heap:=h'}/\Heap.ExtBut it s.heap h'/\∃o,h'.get? a=some o/\o.cls=.type "StopIteration") λh' a k o=>(gL h' a rfl rfl k o)) (λ_ _ z=>z.elim) ?_))
 rintro v d c;refine qa c ?_;clear c;rintro h' a rfl rfl ⟨k,o,g,e⟩;exact az (wpAny_isInstance (T:="StopIteration") (b:=true) (bd o g e) isSubtype_stop (da (f _ k)))
theorem Kw{k:Nat}(hi:s.heap.IsTupleIter it l k)(e:s.heap.IsTuple l xs)(g:xs[k]?=some x)
  (h:∀h',h'.IsTupleIter it l (k+1)->Heap.SameBut it s.heap h'->Q x {s with heap:=h'}):wpAny (model prog w) A (Builtin.SmallTypes.nextOf (.ref it)) Q E s:=by
 obtain⟨o,b,f,a⟩:=id hi;obtain⟨j,d,_,i,c⟩:=e;unfold Builtin.SmallTypes.nextOf;refine az (lT (name:=Str.ofString "__next__") hi.typeIs F.slot_tuple_iterator_next (jD F.slot_tuple_iterator_next hi.typeIs F.entry_tuple_iterator_next ?_ (F.args_tuple_iterator_next_1 _)));show wpAny _ _ (field (.ref it) 0>>=_) _ _ s;refine az (iO b a (x:=.ref l) rfl ?_);show wpAny _ _ (if (Value.ref l==Value.none)=true then _ else _) _ _ s;rw[dh (show¬((Value.ref l==Value.none)=true) from ij)];show wpAny _ _ (field (.ref it) 1>>=_) _ _ s;refine az (iO b a (x:=.int k 0) rfl ?_);show wpAny _ _ (seqItems? (.ref l)>>=_) _ _ s;refine az (jY d c ?_);simp only [Int.toNat_natCast,g];refine az (oS b a (by simp) (da (bd x rfl (da (h _ ?_ (Heap.SameBut.update ..))))));exact eh _ (nk _ b (Obj.isFreed_of_fields (Obj.data_mapFields a _))) ((Obj.cls_mapFields ..).trans f) (by rw[Obj.data_mapFields a];simp[rawInt])
theorem Kr{k:Nat}(b:A.handled=none)(hi:s.heap.IsTupleIter it l k)(a:s.heap.IsTuple l xs)(d:xs[k]?=none)
  (c:∀h' e,Heap.ExtBut it s.heap h'->(∃o,h'.get? e=some o/\o.cls=.type "StopIteration")->E (.ref e) {s with heap:=h'}):wpAny (model prog w) A (Builtin.SmallTypes.nextOf (.ref it)) Q E s :=
 vl (vq (e:=none) b (λ_ z=>nomatch z) hi a d c)
theorem pR(it l:zW):Nx it l (λk h=>h.IsTupleIter it l k) (λxs h=>h.IsTuple l xs) where
 item:=Kw
 fin:=Kr
 mv:=λ⟨o,e,r⟩ f=>(bd o (f _ e) r)
 mvS:=λ⟨o,e,r⟩ f=>(bd o (f _ e) r)
 ob:=λ⟨o,e,_,d⟩=>(bd o e λv z=>by rw[d]at z;cases z)
section
variable{TI TO:zW}
theorem Ar(N1:Nx i1 l1 st1 src1)(N2:Nx i2 l2 st2 src2){k1 k2:Nat}{a b:zX}{Q:zN->zY->Prop}(D:ZipApart z TI TO i1 i2 l1 l2)
  (h:IsZip s.heap z TI TO .none) (K:IsPair s.heap TI (.ref i1) (.ref i2)) (B:IsPair s.heap TO a b) (h1:st1 k1 s.heap) (h2:st2 k2 s.heap) (H:src1 xs s.heap) (G:src2 ys s.heap) (hx:xs[k1]?=some x) (hy:ys[k2]?=some y)
  (hQ:∀h',IsZip h' z TI TO (rawInt s.heap.objs.size)->IsPair h' TO x y->st1 (k1+1) h'->st2 (k2+1) h'->IsPair h' s.heap.objs.size x y->
   (∀c o,c≠z->c≠TO->c≠i1->c≠i2->s.heap.get? c=some o->h'.get? c=some o)->Q (some (.ref s.heap.objs.size)) {s with heap:=h'}):wpAny (model prog w) A (pyNext (.ref z)) Q E s:=by
 have R:s.TypeIs (.ref z) "zip":=(bd _ h rfl);unfold pyNext;refine az (wpAny_attempt (lT (name:=Str.ofString "__next__") R F.slot_zip_next (jD F.slot_zip_next R F.entry_zip_next ?_ (F.args_zip_next_1 _))));show wpAny _ _ (field (.ref z) 2>>=_) _ _ _;refine az (iO h rfl (x:=.bool false) rfl ?_);show wpAny _ _ (field (.ref z) 3>>=_) _ _ _;refine az (iO h rfl (x:=.ref TI) rfl ?_);refine az (jY K rfl ?_);show wpAny _ _ (Builtin.SmallTypes.ownedTupleIsFree (.ref z)>>=_) _ _ _;refine az ?_;unfold Builtin.SmallTypes.ownedTupleIsFree;refine az (iO h rfl (x:=.none) rfl (da ?_));simp only [if_true];refine az (wpAny_rule ?_);refine az (iO h rfl (x:=.ref TO) rfl ?_);refine az (kA h (by simp) λg1 v d=>?_)
 replace v:IsZip g1 z TI TO .ellipsis:=v
 refine az ?_;simp only [List.zipIdx_cons,List.zipIdx_nil,List.forIn_cons,List.forIn_nil];refine az (az (wpAny_onRaise ?_));show wpAny _ _ (Builtin.SmallTypes.nextOf (.ref i1)>>=_) _ _ _;refine az (N1.item (N1.mv h1 λo e=>d.extBut _ _ D.i1z e) (N1.mvS H λo e=>d.extBut _ _ D.l1z e) hx λg2 t2 g=>da ?_);have O:IsPair g2 TO a b:=g.extBut _ _ D.TOi1 (d.extBut _ _ D.TOz B);refine az (jY O rfl ?_);refine az (wpAny_updateSeq_pair O λY C i=>?_)
 replace C:IsPair Y TO x b:=C
 refine az (wpAny_letGo (da ?_));refine az (az (wpAny_onRaise ?_));show wpAny _ _ (Builtin.SmallTypes.nextOf (.ref i2)>>=_) _ _ _;refine az (N2.item (N2.mv h2 λo e=>i.extBut _ _ D.TOi2.symm (g.extBut _ _ D.i12.symm (d.extBut _ _ D.i2z e))) (N2.mvS G λo e=>i.extBut _ _ D.l2TO (g.extBut _ _ D.l2i1 (d.extBut _ _ D.l2z e))) hy λg4 t4 j=>da ?_);have M:IsPair g4 TO x b:=j.extBut _ _ D.TOi2 C;refine az (jY M rfl ?_);refine az (wpAny_updateSeq_pair M λg5 r k=>?_)
 replace r:IsPair g5 TO x y:=r
 refine az (wpAny_letGo (da (da ?_)));refine az (jY r rfl ?_);refine az (wpAny_newTuple ?_);have m:g5.objs.size=s.heap.objs.size:=by rw[k.1,j.1,i.1,g.1,d.1]
 have S:IsZip g5 z TI TO .ellipsis:=k.extBut _ _ D.TOz.symm (j.extBut _ _ D.i2z.symm (i.extBut _ _ D.TOz.symm (g.extBut _ _ D.i1z.symm v)));have T:∀c o,c≠z->c≠TO->c≠i1->c≠i2->s.heap.get? c=some o->g5.get? c=some o:=λc o f n u J e=>k.extBut _ _ n (j.extBut _ _ J (i.extBut _ _ n (g.extBut _ _ u (d.extBut _ _ f e))));have U:st1 (k1+1) g5:=N1.mv t2 λo e=>k.extBut _ _ D.TOi1.symm (j.extBut _ _ D.i12 (i.extBut _ _ D.TOi1.symm e));have Z:st2 (k2+1) g5:=N2.mv t4 λo e=>k.extBut _ _ D.TOi2.symm e;have l:z<g5.objs.size:=gC S;show wpAny _ _ (Builtin.SmallTypes.ownedTupleHandOut (.ref z) (.ref g5.objs.size)>>=_) _ _ _;refine az ?_;unfold Builtin.SmallTypes.ownedTupleHandOut;have W:IsZip (g5.push {cls:=.type "tuple",data:=.seq #[x,y]}) z TI TO .ellipsis:=fy _ S;refine az (kA W (by simp) λX I L=>?_)
 replace I:IsZip X z TI TO (rawInt g5.objs.size):=I
 refine kA I (by simp) λq t P=>?_
 replace t:IsZip q z TI TO (rawInt g5.objs.size):=t
 have p:∀c o,c≠z->g5.get? c=some o->q.get? c=some o:=λc o f e=>P.extBut _ _ f (L.extBut _ _ f (fy _ e));have N:IsPair q g5.objs.size x y:=P.extBut _ _ (jC l) (L.extBut _ _ (jC l) (hU _ rfl));rw[m]at t N;refine da (bd _ rfl (da ?_));show Q (some (.ref g5.objs.size)) _;rw[m];exact hQ q t (p _ _ D.TOz r) (N1.mv U λo e=>p _ o D.i1z e) (N2.mv Z λo e=>p _ o D.i2z e) N λc o f n u J e=>p c o f (T c o f n u J e)
end
theorem Inv.turnedNew{o:HO}(I:Inv X pins Z H s)(k:∀b u,b∉ts->s.heap.get? b=some u->h'.get? b=some u)(f:∀b∈ts,kQ X pins H b)(p:s.heap.objs.size<=a)
  (i:A1h X.prog X.w (upd H a o) h' a o):Inv X pins Z (upd H a o) {s with heap:=h',toks:=t'}:=by
 have j:∀b u,H b=some u->b∉ts:=λb u e z=>by have:=(f b z).1;rw[e]at this;cases this
 have B:∀b u,s.heap.get? b=some u->b≠a:=λb u e=>iy (jE (gC e) p);have h:H a=none:=I.hok.fresh p
 refine I.step (g':=s.gens) (d':=s.drawn) (ch:=ts) (λb g=>(jx ((f b g).2.2.2.1) ((f b g).2.1) ((f b g).2.2.2.2.1) ((f b g).2.2.2.2.2))) (λb u _ _ d e _=>k b u d e) (λb u _ _ d e _=>⟨u.slots,k b u d e⟩)
  (λb u _ e n=>by rw[dt (B b u e)];exact n) (λb u d e=>⟨u,k b u d e⟩) (λb t e=>by rw[dt (gO e h)];exact e) (λb u t e=>by rw[dt (gO e h)];exact e)
  (λb D e=>⟨#[],by rw[dt (gO e h),e];simp⟩) (λm A=>?_) (λb u e=>?_) I.bare
 ·obtain⟨l,x,C,y,r⟩:=A;exact jw l x C (k _ l (λz=>(f _ z).2.1 rfl) y) r
 ·by_cases g:b=a
  ·subst g;rw[ck]at e;cases e;exact i
  ·rw[dt g]at e;refine(I.hok b u e).stay (λc v d q=>k c v ?_ q) (λc q=>by rw[dt (gO q h)];exact q) λc t q=>by rw[dt (gO q h)];exact q
   rcases d with rfl|d
   ·exact j _ _ e
   ·exact j _ _ d
theorem Inv.turnedL(I:Inv X pins Z H s)(k:∀b u,b∉ts->s.heap.get? b=some u->h'.get? b=some u)(f:∀b∈ts,kQ X pins H b):Inv X pins Z H {s with heap:=h',toks:=t'}:=by
 have g:∀b u,H b=some u->b∉ts:=λb u e z=>by have:=(f b z).1;rw[e]at this;cases this
 refine I.step (g':=s.gens) (d':=s.drawn) (ch:=ts) (λb d=>(jx ((f b d).2.2.2.1) ((f b d).2.1) ((f b d).2.2.2.2.1) ((f b d).2.2.2.2.2))) (λb u _ _ a e _=>k b u a e) (λb u _ _ a e _=>⟨u.slots,k b u a e⟩)
  (λb u _ e n=>n) (λb u a e=>⟨u,k b u a e⟩) (λb i e=>e) (λb u i e=>e) (λb t e=>⟨#[],by rw[e];simp⟩) (λm o=>?_) (λb u e=>?_) I.bare
 ·obtain⟨h,j,p,l,r⟩:=o;exact jw h j p (k _ h (λz=>(f _ z).2.1 rfl) l) r
 ·refine(I.hok b u e).stay (λc v a q=>k c v ?_ q) (λc q=>q) λc i q=>q;rcases a with rfl|a
  ·exact g _ _ e
  ·exact g _ _ a
def SqK(k:Bool)(K:Frag)(H:Hp)(a:zW)(xs:zM):Prop:=match k with|true=>SqL K H a xs|false=>SqT K H a xs
def SrK(k:Bool)(h:yA)(l:zW)(xs:zG):Prop:=match k with|true=>h.IsList l xs|false=>h.IsTuple l xs
def StK(k:Bool)(it l:zW)(i:Nat)(h:yA):Prop:=match k with|true=>h.IsListIter it l i|false=>h.IsTupleIter it l i
abbrev itK(k:Bool):String:=match k with|true=>"list_iterator" |false=>"tuple_iterator"
theorem nxK:∀(k:Bool)(it l:zW),Nx it l (λi h=>StK k it l i h) (λxs h=>SrK k h l xs)|true=>pN|false=>pR
theorem qi{X:Cx}{pins:zD}{Z:St}{H:Hp}{s:zY}{a:zW}{xs:zM}(I:Inv X pins Z H s):∀{k:Bool},SqK k X.K H a xs->∃its:zH,A2k xs its/\SrK k s.heap a its.toArray|true,h=>let⟨its,rv,p,_⟩:=I.list h;(bd its rv p.isList)|false,h=>let⟨its,rv,p,_⟩:=I.tuple h;(bd its rv p)
theorem wP{X:Cx}{pins:zD}{Z:St}{H:Hp}{s:zY}{a:zW}{xs ys:zM}(I:Inv X pins Z H s):∀{k:Bool},SqK k X.K H a xs->SqK k X.K H a ys->xs=ys|true,h,g=>I.list_inj h g|false,h,g=>I.tuple_inj h g
theorem ltK{h:yA}{l:zW}{xs:zG}:∀{k:Bool},SrK k h l xs->l<h.objs.size|true,⟨_,e,_⟩=>gC e|false,⟨_,e,_⟩=>gC e
theorem wZ{prog:yB}{w:yD}{A:zZ}{E:zA}{s:zY}{l:zW}{xs:zG}{Q:zA}:∀{k:Bool},SrK k s.heap l xs->Q (.ref s.heap.objs.size) {s with heap:=s.heap.push {cls:=.type (itK k),data:=.fields #[.ref l,.int 0 0]}}->wpAny (model prog w) A (pyIter (.ref l)) Q E s|true,h,q=>wpAny_pyIter_list h q|false,h,q=>wpAny_pyIter_tuple h q
theorem wD{h:yA}{it l:zW}:∀{k:Bool},h.get? it=some {cls:=.type (itK k),data:=.fields #[.ref l,.int 0 0]}->StK k it l 0 h|true,e=>(eh _ e rfl rfl)|false,e=>(eh _ e rfl rfl)
def Itk(k1 k2:Bool)(K:Frag)(a b:zW):It :=
 ⟨λi H=>∃d c x y,SqK k1 K H a d/\SqK k2 K H b c/\d[i]?=some x/\c[i]?=some y,
  λi H v e=>∃p,H p=none/\v=.ref p/\∃x y,(∀d,SqK k1 K H a d->d[i]?=some x)/\(∀c,SqK k2 K H b c->c[i]?=some y)/\e=upd H p (.tup [x,y]),
  λi H=>∃d c,SqK k1 K H a d/\SqK k2 K H b c/\(d.length<=i\/c.length<=i)⟩
def uQ(k1 k2:Bool)(z TI TO i1 i2 a b:zW)(i:Nat)(h:yA):Prop:=IsZip h z TI TO .none/\IsPair h TI (.ref i1) (.ref i2)/\(∃u v,IsPair h TO u v)/\StK k1 i1 a i h/\StK k2 i2 b i h
theorem wW{a:Bool}{k:Nat}(d:HdA e A)(c:HdF e [it] s.heap)(hi:StK a it l k s.heap)(b:SrK a s.heap l xs)(f:xs[k]?=none)
  (g:∀h' e,Heap.ExtBut it s.heap h'->(∃o,h'.get? e=some o/\o.cls=.type "StopIteration")->E (.ref e) {s with heap:=h'}):wpAny (model prog w) A (Builtin.SmallTypes.nextOf (.ref it)) Q E s:=by
 cases a with
 |true=>exact vl (Ee d c hi b f g)
 |false=>exact vl (vq d c hi b f g)
section
variable{TI TO:zW}
theorem Ao{k1 k2:Nat}{a b:zX}{Q:zN->zY->Prop}(W:HdA e A)(t:HdF e [z,TI,TO,i1,i2] s.heap)(D:ZipApart z TI TO i1 i2 l1 l2)
  (k:IsZip s.heap z TI TO .none) (J:IsPair s.heap TI (.ref i1) (.ref i2)) (B:IsPair s.heap TO a b) (h1:StK q1 i1 l1 k1 s.heap) (h2:StK q2 i2 l2 k2 s.heap) (G:SrK q1 s.heap l1 xs) (C:SrK q2 s.heap l2 ys) (p:xs[k1]?=none\/ys[k2]?=none)
  (hQ:∀h',(∀c o,c≠z->c≠TO->c≠i1->c≠i2->s.heap.get? c=some o->h'.get? c=some o)->Q none {s with heap:=h'}):wpAny (model prog w) A (pyNext (.ref z)) Q E s:=by
 have U:s.TypeIs (.ref z) "zip":=(bd _ k rfl);have N1:=nxK q1 i1 l1;have N2:=nxK q2 i2 l2;unfold pyNext
 have l:∀(h':yA)(e:zW),(∀c o,c≠z->c≠TO->c≠i1->c≠i2->s.heap.get? c=some o->h'.get? c=some o)->(∃o,h'.get? e=some o/\o.cls=.type "StopIteration")->
   wpAny (model prog w) A (isInstance (.ref e) (.type "StopIteration")>>=λb=>if b=true then pure none else throw (.ref e)) Q E {s with heap:=h'}:=λh' e t ⟨o,ho,Y⟩=>
  az (wpAny_isInstance (T:="StopIteration") (b:=true) (bd o ho Y) isSubtype_stop (da (hQ _ t)))
 refine az (wpAny_attempt (lT (name:=Str.ofString "__next__") U F.slot_zip_next (jD F.slot_zip_next U F.entry_zip_next ?_ (F.args_zip_next_1 _))));show wpAny _ _ (field (.ref z) 2>>=_) _ _ _;refine az (iO k rfl (x:=.bool false) rfl ?_);show wpAny _ _ (field (.ref z) 3>>=_) _ _ _;refine az (iO k rfl (x:=.ref TI) rfl ?_);refine az (jY J rfl ?_);show wpAny _ _ (Builtin.SmallTypes.ownedTupleIsFree (.ref z)>>=_) _ _ _;refine az ?_;unfold Builtin.SmallTypes.ownedTupleIsFree;refine az (iO k rfl (x:=.none) rfl (da ?_));simp only [if_true];refine az (wpAny_rule ?_);refine az (iO k rfl (x:=.ref TO) rfl ?_);refine az (kA k (by simp) λg1 r i=>?_)
 replace r:IsZip g1 z TI TO .ellipsis:=r
 refine az ?_;simp only [List.zipIdx_cons,List.zipIdx_nil,List.forIn_cons,List.forIn_nil];refine az (az (wpAny_onRaise ?_));show wpAny _ _ (Builtin.SmallTypes.nextOf (.ref i1)>>=_) _ _ _;have S:=N1.mv h1 λo e=>i.extBut _ _ D.i1z e;have L:=N1.mvS G λo e=>i.extBut _ _ D.l1z e
 cases hx:xs[k1]? with
 |none=>
  refine az (wW W (t.at (λh o n q=>i.extBut _ _ (n z (by simp)) q) (by simp)) S L hx λH e g I=>?_);obtain⟨u,d,f⟩:=I;have N:IsZip H z TI TO .ellipsis:=g _ _ D.i1z.symm r;have y:e≠z:=λx=>by subst x;rw[N]at d;cases d;simp at f
  exact kA N (by simp) λM _ j=>l M e (λc o m _ v _ x=>j.extBut _ _ m (g _ _ v (i.extBut _ _ m x))) (bd u (j.extBut _ _ y d) f)
 |some x=>
  have hy:ys[k2]?=none:=by
   rcases p with h|h
   ·rw[hx]at h;cases h
   ·exact h
  refine az (N1.item S L hx λH t2 g=>da ?_);have O:IsPair H TO a b:=g.extBut _ _ D.TOi1 (i.extBut _ _ D.TOz B);refine az (jY O rfl ?_);refine az (wpAny_updateSeq_pair O λM p3 j=>?_);refine az (wpAny_letGo (da ?_));refine az (az (wpAny_onRaise ?_));show wpAny _ _ (Builtin.SmallTypes.nextOf (.ref i2)>>=_) _ _ _;refine az (wW W (t.at (λh o n q=>j.extBut _ _ (n TO (by simp)) (g.extBut _ _ (n i1 (by simp)) (i.extBut _ _ (n z (by simp)) q))) (by simp)) (N2.mv h2 λo e=>j.extBut _ _ D.TOi2.symm (g.extBut _ _ D.i12.symm (i.extBut _ _ D.i2z e))) (N2.mvS C λo e=>j.extBut _ _ D.l2TO (g.extBut _ _ D.l2i1 (i.extBut _ _ D.l2z e))) hy λg4 e K I=>?_);obtain⟨u,d,f⟩:=I;have P:IsZip g4 z TI TO .ellipsis:=K _ _ D.i2z.symm (j.extBut _ _ D.TOz.symm (g.extBut _ _ D.i1z.symm r));have y:e≠z:=λx=>by subst x;rw[P]at d;cases d;simp at f
  exact kA P (by simp) λZ _ R=>l Z e (λc o m X v c4 x=>R.extBut _ _ m (K _ _ c4 (j.extBut _ _ X (g.extBut _ _ v (i.extBut _ _ m x))))) (bd u (R.extBut _ _ y d) f)
end
def xcG(ea C:zW)(od:zO):yA->Prop:=λh=>∃o a,h.get? ea=some o/\o.cls=.ref C/\o.dict=od/\o.data=.fields a/\a[2]?=some .none
def HdO(e:zO)(H:Hp):Prop:=∀a,e=some a->∃C b,H a=some (.ext (xcG a C b))
theorem HdO.heap(h:HdO e H)(I:Inv X pins Z H s)(j:∀b∈fp,kQ X pins H b):HdF e fp s.heap:=λa z=>by obtain⟨C,k,d⟩:=h a z;obtain⟨⟨o,i,m,_,_,g,l⟩,_,_⟩:=(show A1h X.prog X.w H s.heap a (.ext (xcG a C k)) from I.hok a _ d);exact⟨(eu o i m g l),λc f y=>by rw[y,(j c f).1]at d;cases d⟩
def ItO(e:zO)(J:It):It:=⟨J.go,J.yld,λi H=>J.stop i H/\HdO e H⟩
theorem GV{TI TO:zW}(D:ZipApart z TI TO i1 i2 a b):
  A7i (HdA e) P w K (.Tuple elts kk pos) (ItO e (Itk k1 k2 K a b)) [z,TI,TO,i1,i2] z (uQ k1 k2 z TI TO i1 i2 a b) where
 mem:=by simp
 obj:=λi h f c d=>by
  obtain⟨r,l,⟨u,v,q⟩,n,t⟩:=f;simp only [gP,lS,or_false]at d;rcases d with rfl|rfl|rfl|rfl|rfl
  ·exact bd _ r λv z=>by cases(show Data.fields _=Data.cell v from z)
  ·exact bd _ l λv z=>by cases(show Data.seq _ _=Data.cell v from z)
  ·exact bd _ q λv z=>by cases(show Data.seq _ _=Data.cell v from z)
  ·exact(nxK k1 _ a).ob n
  ·exact(nxK k2 _ b).ob t
 keep:=λi h R f k=>by obtain⟨r,l,⟨u,v,q⟩,n,t⟩:=f;exact iT (k z (by simp) _ r) (k TI (by simp) _ l) (iA u v (k TO (by simp) _ q)) ((nxK k1 i1 a).mv n λo e=>k i1 (by simp) o e) ((nxK k2 i2 b).mv t λo e=>k i2 (by simp) o e)
 item:=by
  intro X S T Q d i p s Z H E I F f G;subst S T Q;refine ku G ?_;clear G;rintro xs ys x ⟨y,m,j,hx,hy⟩;obtain⟨U,N,W⟩:=qi I m;obtain⟨C,A,M⟩:=qi I j;obtain⟨u,hu,ru⟩:=N.get hx;obtain⟨u2,a0,L⟩:=A.get hy;obtain⟨r,l,⟨o1,o2,q⟩,n,t⟩:=f;refine Ar (nxK k1 i1 a) (nxK k2 i2 b) D r l q n t W M (x:=u) (by simpa using hu) (y:=u2) (by simpa using a0) λR z1 z2 z3 z4 z5 J=>?_;refine bd _ rfl (wpAny_letOwnedTupleGo_zip (s:={s with heap:=R}) z1 λg zg B=>?_)
  have nz:s.heap.objs.size≠z:=jC (gC r);have n2:TI<s.heap.objs.size:=gC l;have n3:TO<s.heap.objs.size:=gC q;have n4:i1<s.heap.objs.size:=let⟨_,e,_⟩:=(nxK k1 i1 a).ob n;gC e;have n5:i2<s.heap.objs.size:=let⟨_,e,_⟩:=(nxK k2 i2 b).ob t;gC e;have zq:IsPair g s.heap.objs.size u u2:=B.extBut _ _ nz z5
  have I1:Inv X p Z (upd H s.heap.objs.size (.tup [x,y])) {s with heap:=g,toks:=s.toks}:=I.turnedNew (ts:=[z,TI,TO,i1,i2]) (λc o d e=>by
   simp only [gP,lS,or_false,not_or]at d
   exact B.extBut _ _ d.1 (J c o d.1 d.2.2.1 d.2.2.2.1 d.2.2.2.2 e)) F (fa _) (ul (by show 2<=sizeLine;decide) [u,u2] (.cons ru (.cons L .nil)) _ zq rfl _ rfl)
  refine⟨.ref s.heap.objs.size,_,I1,rfl,(bd _ (I.hok.fresh (fa _)) (jp rfl x y (λzs O=>by rw[wP I O m];exact hx) (λzs O=>by rw[wP I O j];exact hy) rfl)),
   (iT zg (B.extBut _ _ D.TIz (J _ _ D.TIz D.TITO D.TIi1 D.TIi2 l)) (iA _ _ (B.extBut _ _ D.TOz z2)) ((nxK k1 i1 a).mv z3 λo e=>B.extBut _ _ D.i1z e) ((nxK k2 i2 b).mv z4 λo e=>B.extBut _ _ D.i2z e)),λc d=>?_⟩
  have Y:c≠s.heap.objs.size:=by
   simp only [gP,lS,or_false]at d;rcases d with rfl|rfl|rfl|rfl|rfl
   ·exact nz.symm
   ·exact iy n2
   ·exact iy n3
   ·exact iy n4
   ·exact iy n5
  rw[dt Y];exact(F c d).1
 done:=by
  intro X S T Q d i p s Z H E I F f G;subst S T Q;obtain⟨⟨xs,ys,m,j,hx⟩,hO⟩:=G;have hF:=hO.heap I F;obtain⟨U,N,W⟩:=qi I m;obtain⟨C,A,M⟩:=qi I j;have e1:=N.length;have e2:=A.length;obtain⟨r,l,⟨o1,o2,q⟩,n,t⟩:=f;refine Ao d hF D r l q n t W M (by simp;lia) λR J=>⟨rfl,?_⟩
  exact I.turnedL (t':=s.toks) (ts:=[z,TI,TO,i1,i2]) (λc o d e=>by
   simp only [gP,lS,or_false,not_or]at d
   exact J c o d.1 d.2.2.1 d.2.2.2.1 d.2.2.2.2 e) F
 self:=λ_ _ _ _ _ f h=>wpAny_pyIter_zip f.1 h
theorem C9n.of(T:A7i (HdA none) P w K tg (ItO none J) fp it tn):C9n P w K tg J fp it tn:=⟨T.mem,T.obj,T.keep,T.item,λX a b c d i e s Z H E I f g q=>T.done X a b c d i e s Z H E I f g ⟨q,λ_ z=>nomatch z⟩,T.self⟩
theorem Hh{TI TO:zW}(D:ZipApart z TI TO i1 i2 a b):
  C9n P w K (.Tuple elts kk pos) (Itk k1 k2 K a b) [z,TI,TO,i1,i2] z (uQ k1 k2 z TI TO i1 i2 a b):=
 C9n.of (GV D)
abbrev sw(k1:Bool)(h:yA)(l1:zW):yA:=h.push {cls:=.type (itK k1),data:=.fields #[.ref l1,.int 0 0]}
abbrev sj(k1 k2:Bool)(h:yA)(l1 l2:zW):yA:=(sw k1 h l1).push {cls:=.type (itK k2),data:=.fields #[.ref l2,.int 0 0]}
noncomputable abbrev rZ(k1 k2:Bool)(h:yA)(l1 l2:zW):yA:=(sj k1 k2 h l1 l2).push {cls:=.type "tuple",data:=.seq #[.ref h.objs.size,.ref (sw k1 h l1).objs.size]}
noncomputable abbrev sF(k1 k2:Bool)(h:yA)(l1 l2:zW):yA:=(rZ k1 k2 h l1 l2).push {cls:=.type "tuple",data:=.seq #[.none,.none]}
noncomputable abbrev qj(k1 k2:Bool)(h:yA)(l1 l2:zW):yA:=(sF k1 k2 h l1 l2).push {cls:=.type "zip",data:=.fields #[.none,.bool false,.bool false,.ref (sj k1 k2 h l1 l2).objs.size,.ref (rZ k1 k2 h l1 l2).objs.size]}
theorem HA(k1 k2:Bool)(l1 l2:zW)(xs ys:zG):Meets (Builtin.«zip.__new__» ⟨[.type "zip",.ref l1,.ref l2],[]⟩) (λ_ R s=>SrK k1 s.heap l1 xs/\SrK k2 s.heap l2 ys/\
  R (.ok (.ret (.ref (sF k1 k2 s.heap l1 l2).objs.size))) {s with heap:=qj k1 k2 s.heap l1 l2}):=
 .of_wp λi w A R s h=>by
  obtain⟨k,g,d,j,m⟩:=s;obtain⟨b,a,h⟩:=h;have l:=sub_zip;have f:SrK k1 (Shared.heap ⟨k,g,d,j,m⟩) l1 xs:=b;have c:SrK k2 (Shared.heap ⟨k.push {cls:=.type (itK k1),data:=.fields #[.ref l1,.int 0 0]},g,d,j,m⟩) l2 ys:=(nxK k2 0 l2).mvS a λo e=>fy _ e
  wp_walk using wZ f,wZ c
  exact bd _ rfl h
theorem AZ{k1 k2:Bool}{prog:yB}{w:yD}{A:zZ}{E:zA}{s:zY}{l1 l2:zW}{xs ys:zG}{Q:zA}(i:SrK k1 s.heap l1 xs)(e:SrK k2 s.heap l2 ys)
  (h:∀h',uQ k1 k2 (s.heap.objs.size+4) (s.heap.objs.size+2) (s.heap.objs.size+3) s.heap.objs.size (s.heap.objs.size+1) l1 l2 0 h'->(∀c o,s.heap.get? c=some o->h'.get? c=some o)->Q (.ref (s.heap.objs.size+4)) {s with heap:=h'}):
  wpAny (model prog w) A (call (.type "zip") [.ref l1,.ref l2]) Q E s:=by
 refine callType_new F.called_zip (by decide) (F.typeCall_zip_2 _ _) (F.newCall_zip_2 _ _) (λd=>F.args_object_init_3 d _ _) F.entry_zip_new (HA k1 k2 l1 l2 xs ys) (fI i e ?_);have g:(sw k1 s.heap l1).objs.size=s.heap.objs.size+1:=lR ..;have f:(sj k1 k2 s.heap l1 l2).objs.size=s.heap.objs.size+2:=by rw[lR,g]
 have b:(rZ k1 k2 s.heap l1 l2).objs.size=s.heap.objs.size+3:=by rw[lR,f]
 have m:(sF k1 k2 s.heap l1 l2).objs.size=s.heap.objs.size+4:=by rw[lR,b]
 have a:(qj k1 k2 s.heap l1 l2).get? (sF k1 k2 s.heap l1 l2).objs.size=some _:=hU _ rfl;have k:(qj k1 k2 s.heap l1 l2).get? (rZ k1 k2 s.heap l1 l2).objs.size=some _:=fy _ (hU _ rfl);have j:(qj k1 k2 s.heap l1 l2).get? (sj k1 k2 s.heap l1 l2).objs.size=some _:=fy _ (fy _ (hU _ rfl));have l:(qj k1 k2 s.heap l1 l2).get? (sw k1 s.heap l1).objs.size=some _:=fy _ (fy _ (fy _ (hU _ rfl)));have n:(qj k1 k2 s.heap l1 l2).get? s.heap.objs.size=some _:=fy _ (fy _ (fy _ (fy _ (hU _ rfl))));show _/\_;rw[f,b,m]at a;rw[g,f]at j;rw[b]at k;rw[g]at l;rw[m];exact⟨(bd _ a rfl),h _ (iT a j (iA _ _ k) (wD n) (wD l)) λc o x=>fy _ (fy _ (fy _ (fy _ (fy _ x))))⟩
def Ct(k1 k2:Bool)(K:Frag)(ta:TA):TI:=λZ H R=>ta Z H λd c=>∃a b f e,d=[.ref a,.ref b]/\SqK k1 K c a f/\SqK k2 K c b e/\R (Itk k1 k2 K a b) c
theorem DV{k1 k2:Bool}{X:Cx}{elts:zT}{kk:Nat}{tpos:Pos}{a b:yC}{ta:TA}{p pos:Pos}(L:Gl X "zip")(y:X.mg "zip"=none)(A:PA X [a,b] ta)(hs:starEach [a,b] X.env=[(false,eval a X.env),(false,eval b X.env)]:=by rfl)(i:starEach [b] X.env=[(false,eval b X.env)]:=by rfl):
  PI X (.Tuple elts kk tpos) (.Call (.Name "zip" p) [a,b] [] pos) (Ct k1 k2 X.K ta):=by
 intro f s Z H R I h;refine Call_ (nF I L y boot_zip (PyProof.Rows.callWith_type1 (thn (A pos f s Z H _ I h) λO d ⟨P,w,I1,G,m⟩=>?_) (by rw[hs,i]) (by rw[i];rfl)));refine ku m ?_;clear m;rintro J B Q ⟨S,e,l,j,q⟩;subst e;obtain⟨u,U,rfl,N,k⟩:=qr G;cases N;cases k;obtain⟨z,T,t⟩:=qi I1 l;obtain⟨v,C,o⟩:=qi I1 j;have F:J<d.heap.objs.size:=ltK t;have D:B<d.heap.objs.size:=ltK o;refine AZ t o λx r M=>wpAny_pyIter_zip r.1 ?_;have I2:Inv X f Z w {d with heap:=x}:=I1.kept (t':=d.toks) M;refine lP _ [d.heap.objs.size+4,d.heap.objs.size+2,d.heap.objs.size+3,d.heap.objs.size,d.heap.objs.size+1] _ _ w rfl I2 (Hh (zipApart_new F D)) r (λc n=>?_) q
 have g:d.heap.objs.size<=c:=by
  simp only [gP,lS,or_false]at n;rcases n with rfl|rfl|rfl|rfl|rfl
  ·exact Nat.le_add_right _ _
  ·exact Nat.le_add_right _ _
  ·exact Nat.le_add_right _ _
  ·exact fa _
  ·exact Nat.le_add_right _ _
 exact I1.fpOk g (I1.hok.fresh g)
theorem Fx{xs ys:zM}(Pv:Nat->St->Hp->Prop)(h0:Pv 0 Z H)(k:∀i Z H,Pv i Z H->SqK k1 K H a xs/\SqK k2 K H b ys)(j:xs.length<=ys.length)
  (hs:∀i x y Z H p,xs[i]?=some x->ys[i]?=some y->Pv i Z H->H p=none->g (.ref p) Z (upd H p (.tup [x,y])) λZ2 H2=>tb {D with nx:=Pv (i+1),ct:=Pv (i+1),bk:=D.nx} Z2 H2) (q:∀Z H,Pv xs.length Z H->D.nx Z H):
  ∃W:Nat->Nat->St->Hp->Prop,(∃m,W 0 m Z H)/\∀i m Z H,W i m Z H->
   ((Itk k1 k2 K a b).stop i H/\D.nx Z H)\/((Itk k1 k2 K a b).go i H/\∃N:St->Hp->Prop,(∀Z' H',N Z' H'->∃h,h<m/\W (i+1) h Z' H')/\∀x H',(Itk k1 k2 K a b).yld i H x H'->g x Z H' λZ2 H2=>tb {D with nx:=N,ct:=N,bk:=D.nx} Z2 H2):=by
 refine bd (λi m Z H=>m=xs.length-i/\i<=xs.length/\Pv i Z H) (eh xs.length (by simp) (jm _) h0) ?_;rintro i m Z H ⟨rfl,u,p⟩;obtain⟨f,d⟩:=k i Z H p;by_cases hlt:i<xs.length
 ·have l:xs[i]?=some xs[i]:=gM hlt;have t:ys[i]?=some (ys[i]'(by lia)):=gM _;refine .inr (iB (jc xs ys _ _ f d l t) (Pv (i+1)) (λZ' H' n=>(iF (xs.length-(i+1)) (by lia) rfl hlt n)) λv H' y=>?_);refine rL y ?_;clear y;rintro c r rfl ⟨x,z,s,o,rfl⟩;exact hs i x z Z H c (s xs f) (o ys d) p r
 ·have e:i=xs.length:=by lia
  subst e;exact .inl ⟨(eu xs ys f d (.inl (fa _))),q Z H p⟩
abbrev IL:=@AZ true false
abbrev Fu:=@DV true false
abbrev Ew{K:Frag}{a b:zW}{xs ys:zM}{g:TG}{tb:TS}{D:kR}{Z:St}{H:Hp}(Pv:Nat->St->Hp->Prop)(h0:Pv 0 Z H)(d:∀i Z H,Pv i Z H->SqL K H a xs/\SqT K H b ys)(c:xs.length=ys.length):=Fx (k1:=true) (k2:=false) (g:=g) (tb:=tb) (D:=D) Pv h0 d (Nat.le_of_eq c)
def Itv(K:Frag)(a:zW)(n:Nat):It :=⟨λi H=>∃b x,SqL K H a b/\b.length=n/\i<n/\b[n-1-i]?=some x,λi H x c=>c=H/\∀b,SqL K H a b->b[n-1-i]?=some x,λi _=>i=n⟩
theorem Fi(a it:zW)(n:Nat):C9n P w K tg (Itv K a n) [it] it (λi h=>h.IsRevIter it a ((n:Int)-1-(i:Int))) where
 mem:=by simp
 obj:=λi h f b l=>by
  have e:b=it:=by simpa using l
  subst e;obtain⟨o,e,c,d⟩:=f;exact bd o e λv z=>by rw[d]at z;cases z
 keep:=λi h m f k=>f.at λo e=>k it (by simp) o e
 item:=by
  intro X A C r M i g s Z H E I q f J;subst A C r;obtain⟨xs,x,N,hn,L,O⟩:=J;obtain⟨S,W,p,hz⟩:=I.list N;obtain⟨u,Y,ru⟩:=W.get O;obtain⟨F,G,R,B,t,D⟩:=q it (by simp);have y:(n:Int)-1-(i:Int)=((n-1-i:Nat):Int):=by lia
  rw[y]at f;refine wpAny_pyNext_rev_item f p.isList (x:=u) (by simpa using Y) λm j Q=>?_;have I1:Inv X g Z H {s with heap:=m}:=I.turned (t':=s.toks) (λb o l e=>(Q.2 b l).trans e) F G B t D
  have U:((n-1-i:Nat):Int)-1=(n:Int)-1-((i+1:Nat):Int):=by lia
  rw[U]at j;obtain⟨o,e,c,d⟩:=id j;exact bd u rfl (qq (s:={s with heap:=m}) e c d (by decide) (iM x H I1 ru ⟨rfl,λys hy=>by rw[I.list_inj hy N];exact O⟩ j λb l=>(q b l).1))
 done:=by
  intro X A C r M i g s Z H E I q f J;subst A C r;have L:i=n:=J;subst L;obtain⟨F,G,R,B,t,D⟩:=q it (by simp);have y:(i:Int)-1-(i:Int)= -1:=by lia
  rw[y]at f;exact wpAny_pyNext_rev_end M f λm T=>⟨rfl,I.turned (t':=s.toks) (λb o l e=>T b o l e) F G B t D⟩
 self:=λ_ _ _ _ _ f h=>wpAny_pyIter_revIter f h
def iRev(K:Frag)(ta:TA):TI:=λZ H R=>ta Z H λd b=>∃a c,d=[.ref a]/\SqL K b a c/\R (Itv K a c.length) b
theorem vf{a:yC}{ta:TA}(z:Gl X "reversed")(m:X.mg "reversed"=none)(r:PA X [a] ta)(hs:starEach [a] X.env=[(false,eval a X.env)]:=by rfl):
  PI X tg (.Call (.Name "reversed" p) [a] [] pos) (iRev X.K ta):=by
 intro f s Z H R I h;refine Call_ (nF I z m boot_reversed (PyProof.Rows.callWith_type1 (thn (r pos f s Z H _ I h) λB c ⟨C,y,I1,x,k⟩=>?_) hs rfl));obtain⟨l,d,e,v,q⟩:=k;subst e;obtain⟨u,rfl,A⟩:=oH x;cases A;obtain⟨g,w,t,_⟩:=I1.list v;have j:(g.toArray.size:Int)-1=(d.length:Int)-1-((0:Nat):Int):=by rw[iR,<-w.length];lia
 refine call_reversed_list t.isList ?_;rw[j];have i:(c.heap.push (revObj l ((d.length:Int)-1-((0:Nat):Int)))).IsRevIter c.heap.objs.size l ((d.length:Int)-1-((0:Nat):Int)):=(eh _ (hU _ rfl) rfl rfl);refine wpAny_pyIter_revIter (s:={c with heap:=c.heap.push (revObj l ((d.length:Int)-1-((0:Nat):Int)))}) i ?_;refine lP _ [c.heap.objs.size] _ _ y rfl (I1.kept (t':=c.toks) λb o e=>fy _ e) (Fi l _ d.length) i (λb n=>?_) q
 have e:b=c.heap.objs.size:=by simpa using n
 subst e;exact I1.fpOk (fa _) (I1.hok.fresh (fa _))
theorem EH{xs:zM}(Pv:Nat->St->Hp->Prop)(h0:Pv 0 Z H)(c:∀i Z H,Pv i Z H->SqL K H a xs)
  (hs:∀i x Z H,i<xs.length->xs[xs.length-1-i]?=some x->Pv i Z H->g x Z H λZ2 H2=>tb {D with nx:=Pv (i+1),ct:=Pv (i+1),bk:=D.nx} Z2 H2) (f:∀Z H,Pv xs.length Z H->D.nx Z H):
  ∃W:Nat->Nat->St->Hp->Prop,(∃m,W 0 m Z H)/\∀i m Z H,W i m Z H->
   ((Itv K a xs.length).stop i H/\D.nx Z H)\/((Itv K a xs.length).go i H/\∃N:St->Hp->Prop,(∀Z' H',N Z' H'->∃b,b<m/\W (i+1) b Z' H')/\∀x H',(Itv K a xs.length).yld i H x H'->g x Z H' λZ2 H2=>tb {D with nx:=N,ct:=N,bk:=D.nx} Z2 H2):=by
 refine bd (λi m Z H=>m=xs.length-i/\i<=xs.length/\Pv i Z H) (eh xs.length (by simp) (jm _) h0) ?_;rintro i m Z H ⟨rfl,h,p⟩;have q:=c i Z H p;by_cases hlt:i<xs.length
 ·refine .inr (iB (gL xs (xs[xs.length-1-i]) q rfl hlt (gM _)) (Pv (i+1)) (λZ' H' d=>(iF (xs.length-(i+1)) (by lia) rfl hlt d)) λx H' y=>?_);obtain⟨e,y⟩:=y;subst e;exact hs i x Z _ hlt (y xs q) p
 ·have e:i=xs.length:=by lia
  subst e;exact .inl ⟨rfl,f Z H p⟩
structure nr(X:Cx)(scope:Scope)(cl:List (Str×zW)):Prop where
 eq:closureFor scope X.env=pure cl
 sub:∀x c,cl.lookup x=some c->X.env.cells.lookup x=some c
 has:∀x,((relabel scope X.env).names.lookup x=some .cell\/(relabel scope X.env).names.lookup x=some .free)->∃c,cl.lookup x=some c
 kind:scope.kind=.function
 ncell:∀y∈scope.names,y.2≠.cell
 names:∀y∈scope.names,y.2=.local->scope.names.lookup y.1=some .local
noncomputable def blk(X:Cx)(N':zC)(scope:Scope)(cl:List (Str×zW))(C:zW)(s₀:zY)(H₀:Hp)(fp:zQ):Cx :={X with N:=N',s₀:=s₀,H₀:=H₀,env:=compEnvC scope cl C X.env,outer:=X.stack,ex:=fp,fn:=λ_=>false,pn:=[],xe:=λ_ _=>False}
def kE(ix:List (Option Nat))(Z:St):St:=ix.map λo=>o.bind λj=>(Z[j]?).bind id
def nR(X:Cx)(N':zC)(scope:Scope)(ix:List (Option Nat)):Prop :=
 ix.length=N'.length/\∀i j:Nat,ix[i]?=some (some j)->∃x,N'[i]?=some x/\X.N[j]?=some x/\(X.env.scope.names.lookup x=some .cell\/X.env.scope.names.lookup x=some .free)/\
  ((relabel scope X.env).names.lookup x=some .cell\/(relabel scope X.env).names.lookup x=some .free)
theorem Dt(I:Inv X pins Z H s)(d:nr X scope cl)(f:∀b∈fp,kQ X pins H b)(g:∀b∈fp,b<s.heap.objs.size):(blk X N' scope cl s.heap.objs.size s H fp).Ok where
 mod:=I.ok.mod
 kind:=d.kind
 glob:=I.ok.glob
 blt:=I.ok.blt
 above:=fa _
 inj:=λx y c i k=>I.ok.inj x y c (d.sub x c i) (d.sub y c k)
 has:=λx h=>d.has x h
 cab:=λx c h=>by cases h
 hd:=I.ok.hd
 frames:=I.ok.frames
 stk:=.inl rfl
 exf:=λb a=>⟨iy (g b a),λx c h=>(f b a).2.2.2.2.1 x c (d.sub x c h)⟩
 bs:=I.bs
 bsz:=jT I.ok.bsz I.sz
 noex:=λb o e a=>by
  rcases(f b a).2.2.2.1 with z|z
  ·exact I.ok.noex b o e z
  ·exact absurd (jE (gC (I.ok.bs b o e).1) z) (Nat.lt_irrefl _)
 exfs:=λb a j=>by
  rcases gP.mp (I.stkSub b j)with z|z
  ·exact(f b a).2.1 z
  ·exact(f b a).2.2.1 z
 funs:=I.stack
 frf:=I.stkFree
theorem Gq(I:Inv X pins Z H s)(n:nr X scope cl)(F:nR X N' scope ix)(f:∀b∈fp,kQ X pins H b)(r:∀b∈fp,b<s.heap.objs.size){m:zE}
  (hn:h'.Ns s.heap.objs.size m) (k:∀b o,s.heap.get? b=some o->h'.get? b=some o):Inv (blk X N' scope cl s.heap.objs.size s H fp) [] (kE ix Z) H {s with heap:=h',toks:=t'}:=by
 have y:∀x c,cl.lookup x=some c->∃v,s.heap.IsCell c v:=λx c h=>I.cell x c (n.sub x c h);refine⟨Dt I n f r,rfl,I.bare,Un.kept k,(bd m hn λi x v K d W=>?_),λx c e=>?_,I.hok.fresh (fa _),λx c e=>I.freeC x c (n.sub x c e),(λp T=>by cases T),I.hok.kept k,?_⟩
 ·unfold kE at d;rw[iG]at d
  cases hi:ix[i]? with
  |none=>rw[hi]at d;cases d
  |some o=>
   rw[hi]at d
   cases o with
   |none=>cases iX d
   |some j=>
    have a:(Z[j]?).bind id=some v:=iX d;obtain⟨l,S,R,g,D⟩:=F.2 i j hi;have O:l=x:=iX (S.symm.trans K);subst O
    have J:Z[j]?=some (some v):=by
     cases q:Z[j]? with
     |none=>rw[q]at a;cases a
     |some w=>rw[q]at a;exact congrArg some a
    obtain⟨Y,_,Q⟩:=I.loc;obtain⟨u,U,M⟩:=Q j l v R J (g.elim (λz=>.inr (.inl z)) λz=>.inr (.inr z));refine bd u U (.inr ⟨D,?_⟩);obtain⟨c,C⟩:=n.has l D;refine bd c C ?_;rcases M with ⟨z,_⟩|⟨_,L,t,N⟩
    ·exfalso;have P:X.env.scope.names.lookup l=some .local:=z;rcases g with g|g<;>(rw[P]at g;cases g)
    ·have G:L=c:=iX (t.symm.trans (n.sub l c C));subst G;obtain⟨o,A,B⟩:=N;exact bd o (k _ _ A) B
 ·obtain⟨v,o,A,B⟩:=y x c e;exact hZ v o (k _ _ A) B
 ·unfold kE;rw[dm];exact F.1
theorem EX(I:Inv X pins Z H s)(f:∀b∈fp,kQ X pins H b)(J:Inv (blk X N' scope cl s.heap.objs.size s H fp) pl Z' H' s')(g:Heap.SameBut s.heap.objs.size s'.heap h'):
  Inv X pins Z H' {s' with heap:=h'}:=by
 have h:∀b o,s.heap.get? b=some o->b≠s.heap.objs.size:=λb o e=>iy (gC e);have j:H' s.heap.objs.size=none:=J.free;have u:Un (frs X.stack) fp H H' s.heap s'.heap:=J.base
 refine I.call' (ch:=fp) (s':={s' with heap:=h'}) J.os ⟨λb o e n a d=>(g.2 b (h b o e)).trans (u.keep b o e n a d),λb o e n a d=>?_,u.free,λb o e d=>?_,u.tups,u.frzs,u.tbls⟩ (λb o e=>?_) J.bare
  (λb a=>(jx ((f b a).2.2.2.1) ((f b a).2.1) ((f b a).2.2.2.2.1) ((f b a).2.2.2.2.2)))
 ·obtain⟨l,q⟩:=u.slot b o e n a d;exact⟨l,(g.2 b (h b o e)).trans q⟩
 ·obtain⟨k,q⟩:=u.there b o e d;exact⟨k,(g.2 b (h b o e)).trans q⟩
 ·refine(J.hok b o e).stay (λc v i q=>(g.2 c ?_).trans q) (λc q=>q) λc m q=>q;rcases i with rfl|i
  ·exact gO e j
  ·exact gO i j
def A2l:St->St->Prop| [],_=>True|none::r,_::r'=>A2l r r'|none::r,[]=>A2l r []|some v::r,w::r'=>w=some v/\A2l r r'|some _::_,[]=>False
theorem A2l.get:∀{a b:St},A2l a b->∀(j:Nat) v,a[j]?=some (some v)->b[j]?=some (some v)
 | [],_,_,_,_,e=>by simp at e
 |none::r,_::r',h,0,v,e=>by simp at e
 |none::r,_::r',h,j+1,v,e=>by simpa using A2l.get (a:=r) (b:=r') h j v (by simpa using e)
 |none::r,[],h,0,v,e=>by simp at e
 |none::r,[],h,j+1,v,e=>by have:=A2l.get (a:=r) (b:=[]) h j v (by simpa using e);simp at this
 |some w::r,_::r',h,0,v,e=>by
  have c:w=v:=by simpa using e
  subst c
  simpa using h.1
 |some _::r,_::r',h,j+1,v,e=>by simpa using A2l.get (a:=r) (b:=r') h.2 j v (by simpa using e)
def uO(ix:List (Option Nat))(wi:TI)(g:TG)(te:TE):TE:=λZ H Q=>wi Z H λJ f=>∀D,f D=none->∃W:Nat->Nat->Hp->Prop,(∃m,W 0 m (upd f D (.lst [])))/\∀i m a,W i m a->
 (J.stop i a/\Q (.ref D) a)\/(J.go i a/\∃N:VK,(∀y b,N y b->∃c,b D=some (.lst c)/\c.length<sizeLine/\∃d,d<m/\W (i+1) d (upd b D (.lst (c++[y]))))/\∀x e,J.yld i a x e->g x (kE ix Z) e λZ4 h=>A2l (kE ix Z) Z4/\te Z4 h N)
section
variable{e o:yC}{es:zT}
def DE(X:Cx)(m:Str)(ta:TE)(t:TA):TE:=λZ H Q=>ta Z H λx g=>∃(a C j:zW)(b:zK)(k:Nat)(f:zW)(d:zS)(e:zC)(c:Sp),x=.ref a/\g a=some (.ins C j b)/\Cls X.K C/\mz X.K C m f/\b.lookup m=none/\
 A4u X.prog X.w X.K X.mg X.base iS k f d e c/\A5p k X.A/\A7h X.K d e []/\t Z g λi h=>c (x::i) h Q E0
theorem pT{pl:Sem Bool}(G:PE X o ta)(y:PA X (e::es) t)
  (d:starEach (e::es) X.env=(false,eval e X.env)::starEach es X.env:=by rfl) (g:(backTo pos (starEach es X.env)).any (·.1)=false:=by rfl)
  (D:eval (.Call (.Attribute o m apos) (e::es) [] pos) X.env=(do
   let ov<-eval o X.env
   standAt apos.atName
   let(f,first)<-holding [ov] (getMethod ov m pl)
   callWith pos f first (backTo pos (starEach (e::es) X.env)) (backToKw pos (keywordEach [] X.env))):=by rfl):
  PE X (.Call (.Attribute o m apos) (e::es) [] pos) (DE X m ta t):=by
 intro b s Z H Q I h;refine PySem.W.methodCall_KW (pl:=pl) (thn (G b s Z H _ I h) ?_) D;rintro u v j;refine oy j ?_;clear j;rintro x J I1 n a C P ⟨K,k,f,M,N,R,w,B,c,i,l,F,z,p,q⟩;subst w;obtain rfl:u=Value.ref a:=n;refine Ii I1 B c i l ?_;refine PySem.W.callWith_K (first:=[.ref a]) (h₀:=X.base) I.ok.mod.kin i.kp (thn (y pos b v Z J _ I1 q) λus O ⟨vs,L,I2,r,A⟩=>⟨I2.kIn,?_⟩) d g;exact xR (us:=.ref a::us) (vs:=.ref a::vs) (dvs:=[]) F z p .nil nB I2 (.cons rfl r) (by rw[lU];exact A)
end
mutual
inductive Rep(H:Hp):V->PyData->Prop|non:Rep H .non .none|bl (b:Bool):Rep H (.bl b) (.bool b)|int (i:Int):Rep H (.int i) (.int i)|str (x:Str):Rep H (.str x) (.str x)|lst {p:zW} {xs:zM} {ds:List PyData}:H p=some (.lst xs)->A4c H xs ds->Rep H (.ref p) (.list ds)|tup {p:zW} {xs:zM} {ds:List PyData}:H p=some (.tup xs)->A4c H xs ds->Rep H (.ref p) (.tuple ds)
inductive A4c(H:Hp):zM->List PyData->Prop|nil:A4c H [] []|cons {v:V} {vs:zM} {d:PyData} {ds:List PyData}:Rep H v d->A4c H vs ds->A4c H (v::vs) (d::ds)
end
mutual
theorem Rep.imp{H H':Hp}(f:∀p o,H p=some o->H' p=some o):∀{v:V}{d:PyData},Rep H v d->Rep H' v d|_,_,.non=>.non|_,_,.bl b=>.bl b|_,_,.int i=>.int i|_,_,.str x=>.str x|_,_,.lst e r=>.lst (f _ _ e) (A4c.imp f r)|_,_,.tup e r=>.tup (f _ _ e) (A4c.imp f r)
theorem A4c.imp{H H':Hp}(f:∀p o,H p=some o->H' p=some o):∀{vs:zM}{ds:List PyData},A4c H vs ds->A4c H' vs ds|_,_,.nil=>.nil|_,_,.cons a r=>.cons (Rep.imp f a) (A4c.imp f r)
end
theorem Rep.same{d:PyData}(h:Rep H v d)(s:A0m H H'):Rep H' v d:=h.imp s
theorem A4c.same{v:zM}{d:List PyData}(h:A4c H v d)(s:A0m H H'):A4c H' v d:=h.imp s
theorem A4c.len{H:Hp}:∀{vs:zM}{ds:List PyData},A4c H vs ds->vs.length=ds.length|_,_,.nil=>rfl|_,_,.cons _ r=>by rw[je,je,A4c.len r]
theorem A4c.snoc{H:Hp}{v:V}{d:PyData}(a:Rep H v d):∀{vs:zM}{ds:List PyData},A4c H vs ds->A4c H (vs++[v]) (ds++[d])|_,_,.nil=>.cons a .nil|_,_,.cons b r=>.cons b (A4c.snoc a r)
theorem A4c.strs{H:Hp}:∀xs:zC,A4c H (xs.map V.str) (xs.map PyData.str)| []=>.nil|x::r=>.cons (.str x) (A4c.strs r)
mutual
theorem rk(I:Inv X pins Z H s):∀{v:V}{d:PyData}{u:zX},Rep H v d->A2b v u->∃c,Reads s.heap u d c
 |_,_,u,.non,r=>by cases(show u=Value.none from r);exact⟨_,.none⟩
 |_,_,u,.bl b,r=>by cases(show u=Value.bool b from r);exact⟨_,.bool b⟩
 |_,_,u,.int i,r=>by obtain⟨t,q⟩:=(show∃t,u=Value.int i t from r);cases q;exact⟨_,.int i t⟩
 |_,_,u,.str x,r=>by obtain⟨t,q⟩:=(show∃t,u=Value.str x t from r);cases q;exact⟨_,.str x t⟩
 |_,_,u,@Rep.lst _ p xs ds e q,r=>by
  cases(show u=Value.ref p from r)
  obtain⟨_,g,n,a,f⟩:=(show A1h X.prog X.w H s.heap p (.lst xs) from I.hok p _ e);obtain⟨c,z⟩:=we I q a;exact⟨_,Reads.list f rfl rfl (by simpa using z)⟩
 |_,_,u,@Rep.tup _ p xs ds e q,r=>by
  cases(show u=Value.ref p from r)
  refine um (show A1h X.prog X.w H s.heap p (.tup xs) from I.hok p _ e) λ_ g a o f h n j=>?_;obtain⟨c,z⟩:=we I q a;exact⟨_,Reads.tuple f h j (by simpa using z)⟩
theorem we(I:Inv X pins Z H s):∀{vs:zM}{ds:List PyData}{us:zH},A4c H vs ds->A2k vs us->∃b,ReadsAll s.heap us ds b|_,_,_,.nil,.nil=>⟨_,.nil⟩|_,_,_,.cons a r,.cons q rv=>by obtain⟨b,z⟩:=rk I a q;obtain⟨c,y⟩:=we I r rv;exact⟨_,.cons z y⟩
end
def wJ(a:Bool):R2:=λx y H Q=>∃d e,Rep H x d/\Rep H y e/\SeqAt.shaped d=true/\SeqAt.shaped e=true/\Q (.bl (if a then ! PyData.eqv d e else PyData.eqv d e)) H
theorem xM(k:X.A.units+64<cLine):OpR X (compareOp .Eq) (wJ false):=by intro a s Z H x y v u Q I c l h;refine iq h λd e b g i m q=>?_;clear h;obtain⟨o,j⟩:=rk I b c;obtain⟨n,f⟩:=rk I g l;exact eq_dataH j f i m k (eu (.bl (PyData.eqv d e)) H I rfl q)
theorem sV(k:X.A.units+64<cLine):OpR X (compareOp .NotEq) (wJ true):=by intro a s Z H x y v u Q I c l h;refine iq h λd e b g i m q=>?_;clear h;obtain⟨o,j⟩:=rk I b c;obtain⟨n,f⟩:=rk I g l;exact ne_dataH j f i m k (eu (.bl (! PyData.eqv d e)) H I rfl q)
theorem mI(i:scope.kind=.function)(hn:∀y∈scope.names,y.2≠.free/\y.2≠.cell)(g:∀y∈scope.names,y.2=.local->scope.names.lookup y.1=some .local):nr X scope [] where
 eq:=closureFor_none λy b=>(hn y b).1
 sub:=λx c h=>by cases h
 has:=λx h=>by
  exfalso
  have e:(relabel scope X.env).names=scope.names:=map_eq_self λy b=>by
   obtain⟨n,k⟩:=y;have z:=(hn _ b).1;have j:(k==NameKind.free)=false:=by simpa using z
   simp[j]
  rw[e]at h
  have d:∀{k:NameKind},scope.names.lookup x=some k->(x,k)∈scope.names:=λ{k} q=>by
   generalize scope.names=l at q
   induction l with
   |nil=>cases q
   |cons a r ih=>
    obtain⟨n,m⟩:=a;rw[mR]at q;split at q
    ·rename_i hb;have f:x=n:=by simpa using hb
     cases q
     subst f;exact .head _
    ·exact .tail _ (ih q)
  rcases h with h|h
  ·exact(hn _ (d h)).2 rfl
  ·exact(hn _ (d h)).1 rfl
 kind:=i
 ncell:=λy b=>(hn y b).2
 names:=g
theorem mH(h:n=N'.length):nR X N' scope (List.replicate n none):=⟨by rw[List.length_replicate];exact h,λi j e=>by
 rw[List.getElem?_replicate]at e
 split at e<;>cases e⟩
section
variable{D:zW}{xs:zM}{Q:VK}
theorem Gk(Pv:Nat->List V->Hp->Prop)(h0:Pv 0 [] (upd H D (.lst [])))(f:∀i ys H,Pv i ys H->SqL K H a xs)
  (hs:∀i x ys H,xs[i]?=some x->Pv i ys H->g x Z₀ H λZ4 H4=>A2l Z₀ Z4/\te Z4 H4 λy b=>b D=some (.lst ys)/\ys.length<sizeLine/\Pv (i+1) (ys++[y]) (upd b D (.lst (ys++[y])))) (h:∀ys H,Pv xs.length ys H->Q (.ref D) H):
  ∃W:Nat->Nat->Hp->Prop,(∃m,W 0 m (upd H D (.lst [])))/\∀i m H2,W i m H2->
   ((Itl K a).stop i H2/\Q (.ref D) H2)\/((Itl K a).go i H2/\∃N:VK,(∀y b,N y b->∃xs,b D=some (.lst xs)/\xs.length<sizeLine/\∃d,d<m/\W (i+1) d (upd b D (.lst (xs++[y]))))/\
    ∀x c,(Itl K a).yld i H2 x c->g x Z₀ c λZ4 H4=>A2l Z₀ Z4/\te Z4 H4 N):=by
 refine bd (λi m H=>m=xs.length-i/\i<=xs.length/\∃ys,Pv i ys H) (pZ xs.length (by simp) (jm _) [] h0) ?_;rintro i m H2 ⟨rfl,j,ys,p⟩;have q:=f i ys H2 p;by_cases hlt:i<xs.length
 ·refine .inr (iB (hZ xs (xs[i]) q (by simp[hlt])) (λy b=>b D=some (.lst ys)/\ys.length<sizeLine/\Pv (i+1) (ys++[y]) (upd b D (.lst (ys++[y])))) (λy b n=>(rK ys n.1 n.2.1 (xs.length-(i+1)) (by lia) rfl hlt _ n.2.2)) λx c z=>?_);obtain⟨e,z⟩:=z;subst e;exact hs i x ys _ (z xs q) p
 ·have e:i=xs.length:=by lia
  subst e;exact .inl ⟨(bd xs q (fa _)),h ys H2 p⟩
theorem E9(Pv:Nat->List V->Hp->Prop)(h0:Pv 0 [] (upd H D (.lst [])))(f:∀i ys H,Pv i ys H->SqT K H a xs)
  (hs:∀i x ys H,xs[i]?=some x->Pv i ys H->g x Z₀ H λZ4 H4=>A2l Z₀ Z4/\te Z4 H4 λy b=>b D=some (.lst ys)/\ys.length<sizeLine/\Pv (i+1) (ys++[y]) (upd b D (.lst (ys++[y])))) (h:∀ys H,Pv xs.length ys H->Q (.ref D) H):
  ∃W:Nat->Nat->Hp->Prop,(∃m,W 0 m (upd H D (.lst [])))/\∀i m H2,W i m H2->
   ((Itt K a).stop i H2/\Q (.ref D) H2)\/((Itt K a).go i H2/\∃N:VK,(∀y b,N y b->∃xs,b D=some (.lst xs)/\xs.length<sizeLine/\∃d,d<m/\W (i+1) d (upd b D (.lst (xs++[y]))))/\
    ∀x c,(Itt K a).yld i H2 x c->g x Z₀ c λZ4 H4=>A2l Z₀ Z4/\te Z4 H4 N):=by
 refine bd (λi m H=>m=xs.length-i/\i<=xs.length/\∃ys,Pv i ys H) (pZ xs.length (by simp) (jm _) [] h0) ?_;rintro i m H2 ⟨rfl,j,ys,p⟩;have q:=f i ys H2 p;by_cases hlt:i<xs.length
 ·refine .inr (iB (hZ xs (xs[i]) q (by simp[hlt])) (λy b=>b D=some (.lst ys)/\ys.length<sizeLine/\Pv (i+1) (ys++[y]) (upd b D (.lst (ys++[y])))) (λy b n=>(rK ys n.1 n.2.1 (xs.length-(i+1)) (by lia) rfl hlt _ n.2.2)) λx c z=>?_);obtain⟨e,z⟩:=z;subst e;exact hs i x ys _ (z xs q) p
 ·have e:i=xs.length:=by lia
  subst e;exact .inl ⟨(bd xs q (fa _)),h ys H2 p⟩
end
theorem rB{x:Str}{k:NameKind}:∀{l:List (Str×NameKind)},l.lookup x=some k->(x,k)∈l
 | [],q=>by cases q
 |(n,k')::r,q=>by
  rw[mR]at q;split at q
  ·rename_i hb;have a:x=n:=by simpa using hb
   cases q
   subst a;exact .head _
  ·exact .tail _ (rB q)
theorem rb{x:Str}(t:closureFor scope X.env=pure [(x,c)])(q:X.env.cells.lookup x=some c)(a:scope.kind=.function)(hn:∀y∈scope.names,y.2≠.cell/\(y.2=.free->y.1=x))
  (o:∀y∈scope.names,y.2=.local->scope.names.lookup y.1=some .local):nr X scope [(x,c)] where
 eq:=t
 sub:=λy d h=>by
  rw[mR]at h;split at h
  ·rename_i f;have b:y=x:=by simpa using f
   cases h
   subst b;exact q
  ·cases h
 has:=λy h=>by
  have g:y=x:=by
   have m:∃k,(y,k)∈(relabel scope X.env).names/\(k=.cell\/k=.free):=h.elim (λz=>(bd _ (rB z) (.inl rfl))) λz=>(bd _ (rB z) (.inr rfl));obtain⟨k,p,a⟩:=m;obtain⟨⟨n,i⟩,j,e⟩:=gS.mp p;dsimp only at e;by_cases hf:i=.free
   ·have l:n=y:=by
     split at e
     ·exact congrArg Prod.fst e
     ·exact congrArg Prod.fst e
    rw[<-l];exact(hn _ j).2 hf
   ·have f:(i==NameKind.free)=false:=by simpa using hf
    simp only [f,Bool.false_and,Bool.false_eq_true,if_false]at e;have r:i=k:=congrArg Prod.snd e;subst r;rcases a with a|a
    ·exact absurd a (hn _ j).1
    ·exact absurd a hf
  subst g;exact⟨c,by simp[mR]⟩
 kind:=a
 ncell:=λy s=>(hn y s).1
 names:=o
theorem rj{x:Str}(c:X.N[j]?=some x)(h1:X.env.scope.names.lookup x=some .cell\/X.env.scope.names.lookup x=some .free)
  (h2:(relabel scope X.env).names.lookup x=some .cell\/(relabel scope X.env).names.lookup x=some .free):nR X (N0++[x]) scope (List.replicate N0.length none++[some j]):=by
 refine⟨by simp,λi k e=>?_⟩;by_cases hi:i<N0.length
 ·rw[nj (by simpa using hi),List.getElem?_replicate]at e;split at e<;>cases e
 ·have a:i=N0.length:=by
   have:=(gG.mp e).1;simp at this
   lia
  subst a;rw[nP (by simp)]at e;have b:j=k:=by simpa using e
  subst b;exact iF x (by simp) c h1 h2
theorem vB{p:zW}{o:HO}(b:H p=none)(h:H a=some u):upd H p o a=some u:=by rw[dt (gO h b)];exact h
theorem gT{o:HO}(s:A0m H H')(a:H l=none):A0m H (upd H' l o):=λb u e=>by rw[dt (gO e a)];exact s b u e
theorem gu{o:HO}(a:H l=none):A0m H (upd H l o):=gT (A0m.refl H) a
theorem tP{x:zW}{o v:HO}(a:H x=none)(b:H dx=none):A0m H (upd (upd (upd H dx o) x u) x v):=gT (gT (gu b) a) a
theorem jV(h:n<=1000000):n<=sizeLine:=by rw[sizeLine_eq];lia
theorem hV(h:n<=1000000):n<sizeLine:=by rw[sizeLine_eq];lia
theorem Paired.snoc{α β:Type}{F:α->β->Prop}{a:α}{b:β}(h:F a b):∀{xs:List α}{ys:List β},Paired F xs ys->Paired F (xs++[a]) (ys++[b])|_,_,.nil=>.cons h .nil|_,_,.cons r t=>.cons r (Paired.snoc h t)
noncomputable def iW(S:zV)(H:Hp):Hp:=λa=>@ite _ (S a) (Classical.propDecidable _) (H a) none
theorem Ac(h:S a):iW S H a=H a:=by unfold iW;rw[dn h]
theorem GG(h:¬S a):iW S H a=none:=by unfold iW;rw[dh h]
theorem jX{o:HO}(h:iW S H a=some o):S a/\H a=some o:=by
 by_cases hs:S a
 ·rw[Ac hs]at h;exact⟨hs,h⟩
 ·rw[GG hs]at h;cases h
theorem mF{o:HO}(hs:S a)(h:H a=some o):iW S H a=some o:=by rw[Ac hs];exact h
theorem GO:A0m (iW S H) H:=λ_ _ e=>(jX e).2
theorem ni(s:A0m H H'):A0m (iW S H) (iW S H'):=λb o e=>mF (jX e).1 (s _ _ (jX e).2)
theorem pz(s:A0m H H')(h:∀a o,H a=some o->S a->S' a):A0m (iW S H) (iW S' H'):=λb o e=>mF (h _ _ (jX e).2 (jX e).1) (s _ _ (jX e).2)
theorem pU{o:HO}(s:A0m (iW S H) (iW S H'))(h:¬S l):A0m (iW S H) (iW S (upd H' l o)):=λb u e=>by have q:=jX (s _ _ e);have a:b≠l:=λz=>h (by rw[<-z];exact q.1);exact mF q.1 (by rw[dt a];exact q.2)
mutual
theorem Rep.imp2{H H':Hp}(f:∀p xs,H p=some (.lst xs)->H' p=some (.lst xs))(g:∀p xs,H p=some (.tup xs)->H' p=some (.tup xs)):∀{v:V}{d:PyData},Rep H v d->Rep H' v d|_,_,.non=>.non|_,_,.bl b=>.bl b|_,_,.int i=>.int i|_,_,.str x=>.str x|_,_,.lst e r=>.lst (f _ _ e) (A4c.imp2 f g r)|_,_,.tup e r=>.tup (g _ _ e) (A4c.imp2 f g r)
theorem A4c.imp2{H H':Hp}(f:∀p xs,H p=some (.lst xs)->H' p=some (.lst xs))(g:∀p xs,H p=some (.tup xs)->H' p=some (.tup xs)):∀{vs:zM}{ds:List PyData},A4c H vs ds->A4c H' vs ds|_,_,.nil=>.nil|_,_,.cons a r=>.cons (Rep.imp2 f g a) (A4c.imp2 f g r)
end
theorem Rep.ins{d:PyData}{p dx:zW}{fs:zK}{o:HO}(h:Rep H v d)(e:H p=some (.ins C dx fs)):Rep (upd H p o) v d :=h.imp2 (λq a z=>by rw[dt (iI z e (by intro w;cases w))];exact z) (λq a z=>by rw[dt (iI z e (by intro w;cases w))];exact z)
section
variable{vs:zM}{d:PyData}
theorem En(h:Rep G v (.tuple ds)):∃p xs,v=.ref p/\G p=some (.tup xs)/\A4c G xs ds:=by
 cases h with
 |tup e r=>exact eu _ _ rfl e r
theorem vv(h:Rep G v (.list ds)):∃p xs,v=.ref p/\G p=some (.lst xs)/\A4c G xs ds:=by
 cases h with
 |lst e r=>exact eu _ _ rfl e r
theorem Et{x:Str}(h:Rep G v (.str x)):v=.str x:=by cases h;rfl
theorem yI{x:Int}(h:Rep G v (.int x)):v=.int x:=by cases h;rfl
theorem AN(h:A4c G vs (d::ds)):∃u r,vs=u::r/\Rep G u d/\A4c G r ds:=by
 cases h with
 |cons a r=>exact eu _ _ rfl a r
theorem Fl(h:A4c G vs []):vs=[]:=by cases h;rfl
end
mutual
def cnt:PyData->Nat|.none=>1|.bool _=>1|.int _=>1|.str _=>1|.list xs=>lq xs+1|.tuple xs=>lq xs+1|.dict _=>1
def lq:List PyData->Nat| []=>0|x::xs=>cnt x+lq xs
end
theorem El(d:PyData):1<=cnt d:=by cases d<;>simp[cnt]
theorem vr:∀ds:List PyData,ds.length<=lq ds
 | []=>by simp[lq]
 |d::r=>by
  have:=vr r;have:=El d;simp only [lq,je]
  lia
theorem vh:∀{ds:List PyData}{i:Nat}{d:PyData},ds[i]?=some d->cnt d<=lq ds/\PyData.depth d<=PyData.depthAll ds
 | [],_,_,e=>by simp at e
 |d::r,0,_,e=>by
  simp at e;subst e;simp only [lq,PyData.depthAll]
  lia
 |x::r,i+1,d,e=>by
  have:=vh (ds:=r) (i:=i) (d:=d) (by simpa using e);simp only [lq,PyData.depthAll]
  lia
theorem A4c.get2{H:Hp}:∀{vs:zM}{ds:List PyData}{i:Nat}{v:V},A4c H vs ds->vs[i]?=some v->∃d,ds[i]?=some d/\Rep H v d|_,_,_,_,.nil,e=>by simp at e|_,_,0,_,.cons a _,e=>by simp at e;subst e;exact bd _ rfl a|_,_,i+1,v,.cons _ r,e=>by obtain⟨d,c,b⟩:=A4c.get2 (i:=i) (v:=v) r (by simpa using e);exact bd d (by simpa using c) b
theorem B9{k:Str}:List.lookup k ((k,v)::r)=some v:=by simp[mR]
theorem B8{k j:Str}{o:zP}(h:(k==j)=false)(e:List.lookup k r=o):List.lookup k ((j,v)::r)=o:=by rw[mR,h];exact e
theorem kg:iz f v []=[(f,v)]:=rfl
theorem iK{g:Str}{x:V}(h:¬g=f):iz f v ((g,x)::r)=(g,x)::iz f v r:=by rw[iz,dh h]
theorem iD{c A:Prop}[Decidable c](h1:c->A)(h2:¬c->B):if decide c=true then A else B :=wS (λh=>h1 (of_decide_eq_true h)) (λh=>h2 λa=>h (jl a))
theorem sJ{c A:Prop}[Decidable c](h1:¬c->A)(h2:c->B):if (! decide c)=true then A else B :=
 wS (λh=>h1 λa=>by rw[jl a]at h;cases h) (λh=>h2 (by
  by_cases a:c
  ·exact a
  ·rw[ir a]at h;exact absurd rfl h))
theorem oZ{l:yC}(b:PE X l tl):PI X tg l (λZ H R=>xo X.K tl Z H R\/wI X.K tl Z H R):=λa s Z H R I h=>h.elim (kH b a s Z H R I) (DK b a s Z H R I)
theorem tI{f:α->V}{xs:List α}{i:Int}(h0:0<=i)(h1:i<xs.length):∃x,xs[i.toNat]?=some x/\atI (xs.map f) i=some (f x):=by
 obtain⟨n,rfl⟩:=Int.eq_ofNat_of_zero_le h0;have a:n<xs.length:=by lia
 exact bd (xs[n]) (by simp[a]) (gH (by simp[a]))
section
variable{D:zW}{xs:zM}
theorem oP(Pv:Nat->List V->Hp->Prop)(h0:Pv 0 [] (upd H D (.lst [])))(e:∀i ys H,Pv i ys H->SqL K H a xs)
  (hs:∀i x ys H,xs[i]?=some x->Pv i ys H->g x Z₀ H λZ4 H4=>A2l Z₀ Z4/\te Z4 H4 λy b=>b D=some (.lst ys)/\ys.length<sizeLine/\Pv (i+1) (ys++[y]) (upd b D (.lst (ys++[y])))) (f:∀ys H,Pv xs.length ys H->QD H):
  ∃W:Nat->Nat->Hp->Prop,(∃m,W 0 m (upd H D (.lst [])))/\∀i m H2,W i m H2->
   ((Itl K a).stop i H2/\QD H2)\/((Itl K a).go i H2/\∃N:VK,(∀y b,N y b->∃xs,b D=some (.lst xs)/\xs.length<sizeLine/\∃d,d<m/\W (i+1) d (upd b D (.lst (xs++[y]))))/\
    ∀x c,(Itl K a).yld i H2 x c->g x Z₀ c λZ4 H4=>A2l Z₀ Z4/\te Z4 H4 N):=Gk (Q:=λ_ H=>QD H) Pv h0 e hs f
theorem GA(Pv:Nat->List V->Hp->Prop)(h0:Pv 0 [] (upd H D (.lst [])))(e:∀i ys H,Pv i ys H->SqT K H a xs)
  (hs:∀i x ys H,xs[i]?=some x->Pv i ys H->g x Z₀ H λZ4 H4=>A2l Z₀ Z4/\te Z4 H4 λy b=>b D=some (.lst ys)/\ys.length<sizeLine/\Pv (i+1) (ys++[y]) (upd b D (.lst (ys++[y])))) (f:∀ys H,Pv xs.length ys H->QD H):
  ∃W:Nat->Nat->Hp->Prop,(∃m,W 0 m (upd H D (.lst [])))/\∀i m H2,W i m H2->
   ((Itt K a).stop i H2/\QD H2)\/((Itt K a).go i H2/\∃N:VK,(∀y b,N y b->∃xs,b D=some (.lst xs)/\xs.length<sizeLine/\∃d,d<m/\W (i+1) d (upd b D (.lst (xs++[y]))))/\
    ∀x c,(Itt K a).yld i H2 x c->g x Z₀ c λZ4 H4=>A2l Z₀ Z4/\te Z4 H4 N):=E9 (Q:=λ_ H=>QD H) Pv h0 e hs f
end
theorem D0g{D:zW}(h1:isClsIn K D=true)(h2:typeIn K (.ref D)=some (.type "type"))(b:mroIn K C (.ref D)=some true):kitOne K (.ref C) (.ref D)=some true:=by
 unfold kitOne;split
 ·rfl
 ·show(if ((clsIn K D).isSome&&typeIn K (.ref D)==some (.type "type"))=true then subIn K (.ref C) (.ref D)else none)=some true;have a:(clsIn K D).isSome=true:=h1;rw[dn (by rw[a,h2];rfl)];exact b
theorem C5o{D:zW}(h0:(Value.ref C==Value.ref D)=false)(h1:isClsIn K D=true)(h2:typeIn K (.ref D)=some (.type "type"))(b:mroIn K C (.ref D)=some false):kitOne K (.ref C) (.ref D)=some false:=by unfold kitOne;rw[dh (by rw[h0];exact ij)];show(if ((clsIn K D).isSome&&typeIn K (.ref D)==some (.type "type"))=true then subIn K (.ref C) (.ref D)else none)=some false;have a:(clsIn K D).isSome=true:=h1;rw[dn (by rw[a,h2];rfl)];exact b
theorem Inv.frozen(I:Inv X pins Z H s)(b:H a=some (.dK kvs))(c:s.heap.get? a=some o):Inv X pins Z (upd H a (.frz o (.dK kvs))) s :=I.write (t':=s.toks) (h':=s.heap) (e:=a) (by rw[b];trivial) (.inl rfl) (λ_ _ _ e=>e) ⟨o,c⟩ ⟨c,(show A1h X.prog X.w H s.heap a (.dK kvs) from I.hok a _ b)⟩
theorem Inv.thaw(I:Inv X pins Z H s)(d:H a=some (.frz o u))(r:∃kvs,u=.dK kvs)(h0:∀o' h,X.H₀ a≠some (.frz o' h)):Inv X pins Z (upd H a u) s:=by
 have g:∀b,H b=none->upd H a u b=none:=λb e=>by rw[dt (λz=>by subst z;rw[d]at e;cases e)];exact e
 obtain⟨kvs,rfl⟩:=r
 refine⟨I.ok,I.os,I.bare,⟨I.base.keep,I.base.slot,λb i e n m=>g b (I.base.free b i e n m),I.base.there,λb k e=>?_,λb i h e=>?_,λb l e=>?_⟩,I.loc,I.cell,g _ I.free,λx c e=>g _ (I.freeC x c e),
  λp j=>(fI ((I.pin p j).1) (g _ (I.pin p j).2.1) ((I.pin p j).2.2)),λb v e=>?_,I.len⟩
 ·have q:=I.base.tups b k e;rw[dt (iI q d (by intro z;cases z))];exact q
 ·have q:=I.base.frzs b i h e;rw[dt (λz=>by subst z;exact h0 _ _ e)];exact q
 ·obtain⟨f,q⟩:=I.base.tbls b l e;exact⟨f,by rw[dt (iI q d (by intro z;cases z))];exact q⟩
 ·by_cases hb:b=a
  ·subst hb;rw[ck]at e;cases e;obtain⟨_,q⟩:=(show A1h X.prog X.w H s.heap b (.frz o (.dK kvs)) from I.hok b _ d);exact q
  ·rw[dt hb]at e;exact(I.hok b v e).stay (λ_ _ _ q=>q) (λc q=>by rw[dt (iI q d (by intro z;cases z))];exact q) λc k q=>by rw[dt (iI q d (by intro z;cases z))];exact q
def Ca(X:Cx)(t:TS):TS:=λD Z H=>∃a o b,H a=some (.frz o (.dK b))/\(∀d c,X.H₀ a≠some (.frz d c))/\t D Z (upd H a (.dK b))
theorem rc{sts:List Stmt}{t:TS}(h:PSs X sts t):PSs X sts (Ca X t):=by intro b s Z H D I e;obtain⟨a,o,c,f,d,q⟩:=e;exact h b s Z _ D (I.thaw f ⟨c,rfl⟩ d) q
def Itd(a:zW)(o:Obj)(kvs:zJ):It :=⟨λi H=>H a=some (.frz o (.dK kvs))/\i<kvs.length,λi H x b=>b=H/\∃k v,kvs[i]?=some (k,v)/\x=kV k,λi H=>H a=some (.frz o (.dK kvs))/\i=kvs.length⟩
theorem xw{k:Key}{u:zX}(h:(ig P w).is k u=true):A2b (kV k) u:=by
 rcases mj (show nS k u=true from h)with ⟨i,t,rfl,rfl⟩|⟨x,t,rfl,rfl⟩
 ·exact⟨t,rfl⟩
 ·exact⟨t,rfl⟩
theorem KV.at:KV kvs vs->∀{i:Nat}{k:Key}{v:V},kvs[i]?=some (k,v)->∃u,vs[i]?=some (k,u)/\A2b v u:=by
 intro r;unfold KV at r
 induction r with
 |nil=>intro i k v e;simp at e
 |@cons p q ps qs h t ih=>
  intro i k v e
  cases i with
  |zero=>simp at e;subst e;obtain⟨a,f⟩:=h;obtain⟨g,d⟩:=q;cases a;exact bd d rfl f
  |succ j=>obtain⟨u,c,b⟩:=ih (i:=j) (by simpa using e);exact bd u (by simpa using c) b
theorem yl(ok:HOk P w H h)(j:H a=some (.frz o (.dK kvs)))(g:o.data=.dict es ep):
  (a==sysModules)=false/\∃vs,KV kvs vs/\h.DictAt (ig P w) a vs ep:=by
 obtain⟨f,m,k,vs,b,n,i,l,e,c,d,r⟩:=(show A1h P w H h a (.frz o (.dK kvs)) from ok a _ j);rw[f]at e;cases e;rw[g]at d;cases d;exact iB k vs b (gL o es f c g r)
theorem Hi(it a:zW)(o:Obj)(kvs:zJ)(es:Array DictEntry)(ep:Nat)(R:o.data=.dict es ep):
  C9n P w K tg (Itd a o kvs) [it] it (λi h=>h.IsKeyIter it a i kvs.length ep) where
 mem:=by simp
 obj:=λi h f b l=>by
  have e:b=it:=by simpa using l
  subst e;obtain⟨m,e,_,d⟩:=f;exact bd m e λv z=>by rw[d]at z;cases z
 keep:=λi h q f k=>f.at λm e=>k it (by simp) m e
 item:=by
  intro X A C x Q i j s Z H E I t f M;subst A C x;obtain⟨F,O⟩:=M;obtain⟨J,L,T,B,y,D⟩:=t it (by simp);obtain⟨_,W,g,G⟩:=yl I.hok F R;have r:=g.length;obtain⟨⟨k,v⟩,hkv⟩:∃p,kvs[i]?=some p:=⟨kvs[i],by simp[O]⟩;obtain⟨u,Y,_⟩:=g.at hkv;rw[r]at f;refine wpAny_pyNext_dict_item f G Y λN q hk n S=>?_;have I1:Inv X j Z H {s with heap:=q,toks:=s.toks}:=I.turned (t':=s.toks) (λb m l e=>(S.2 b l).trans e) J L B y D
  obtain⟨m,e,c,d⟩:=id n;exact bd N rfl (qq (s:={s with heap:=q}) e c d (by decide) (iM (kV k) H I1 (xw hk) (kW rfl k v hkv rfl) (by rw[r];exact n) λb l=>(t b l).1))
 done:=by intro X A C x Q i j s Z H E I t f M;subst A C x;obtain⟨F,O⟩:=M;obtain⟨J,L,T,B,y,D⟩:=t it (by simp);obtain⟨_,W,g,G⟩:=yl I.hok F R;have r:=g.length;rw[r]at f;exact wpAny_pyNext_dict_end Q f G (by simp;lia) λq U=>⟨rfl,I.turned (t':=s.toks) (λb m l e=>U b m l e) J L B y D⟩
 self:=λ_ _ _ _ _ f h=>wpAny_pyIter_keyiter f h
def Cd(tl:TE):TI:=λZ H R=>tl Z H λx c=>∃a b,x=.ref a/\c a=some (.dK b)/\∀o,R (Itd a o b) (upd c a (.frz o (.dK b)))
theorem qZ{l:yC}(B:PE X l tl):PI X tg l (Cd tl):=by
 intro c s Z H R I h;refine thn (B c s Z H _ I h) ?_;rintro u d m;refine qa m ?_;clear m;rintro x D I1 t ⟨a,g,z,i,q⟩;subst z;cases t;refine kr (qQ I1.hok i) ?_;rintro G y k f o j ep n ⟨C,p,r⟩;have A:d.heap.DictAt (ig X.prog X.w) a k ep:=(gL o j n C p r);refine wpAny_pyIter_dict y A ?_;have I2:Inv X c Z D {d with heap:=d.heap.push {cls:=.type "dict_keyiterator",data:=.fields #[.ref a,.int 0 0,.int k.length 0,.int ep 0]},toks:=d.toks}:=I1.kept λb F e=>fy _ e
 have I3:=I2.frozen i (fy _ n);refine lP _ [d.heap.objs.size] _ _ _ rfl I3 (Hi _ a o g j ep p) ?_ (λb v=>?_) (q o)
 ·rw[f.length];exact eh _ (hU _ rfl) rfl rfl
 ·have e:b=d.heap.objs.size:=by simpa using v
  subst e;refine I1.fpOk (fa _) ?_;rw[dt (jC (I1.hok.lt i))];exact I1.hok.fresh (fa _)
theorem vC(Pv:Nat->St->Hp->Prop)(h0:Pv 0 Z H)(b:∀i Z H,Pv i Z H->H a=some (.frz o (.dK kvs)))
  (hs:∀i k v Z H,kvs[i]?=some (k,v)->Pv i Z H->g (kV k) Z H λZ2 H2=>tb {D with nx:=Pv (i+1),ct:=Pv (i+1),bk:=D.nx} Z2 H2) (h:∀Z H,Pv kvs.length Z H->D.nx Z H):
  ∃W:Nat->Nat->St->Hp->Prop,(∃m,W 0 m Z H)/\∀i m Z H,W i m Z H->
   ((Itd a o kvs).stop i H/\D.nx Z H)\/((Itd a o kvs).go i H/\∃N:St->Hp->Prop,(∀Z' H',N Z' H'->∃c,c<m/\W (i+1) c Z' H')/\∀x H',(Itd a o kvs).yld i H x H'->g x Z H' λZ2 H2=>tb {D with nx:=N,ct:=N,bk:=D.nx} Z2 H2):=by
 refine bd (λi m Z H=>m=kvs.length-i/\i<=kvs.length/\Pv i Z H) (eh kvs.length (by simp) (jm _) h0) ?_;rintro i m Z H ⟨rfl,j,p⟩;by_cases hlt:i<kvs.length
 ·refine .inr (iB ⟨b i Z H p,hlt⟩ (Pv (i+1)) (λZ' H' f=>(iF (kvs.length-(i+1)) (by lia) rfl hlt f)) λx H' y=>?_);obtain⟨e,k,v,d,rfl⟩:=y;subst e;exact hs i k v Z _ d p
 ·have e:i=kvs.length:=by lia
  subst e;exact .inl ⟨⟨b _ Z H p,rfl⟩,h Z H p⟩
theorem qD(c:H a=some u)(s:A0m (upd H a (.frz o u)) H2):A0m H (upd H2 a u):=λb v e=>by
 by_cases hb:b=a
 ·subst hb;rw[c]at e;cases e;exact ck
 ·rw[dt hb];exact s b v (by rw[dt hb];exact e)
def Es(ix:List (Option Nat))(wi:TI)(g:TG)(tc:TT)(te:TE):TE:=λZ H Q=>wi Z H λJ h=>∀D,h D=none->∃W:Nat->Nat->Hp->Prop,(∃m,W 0 m (upd h D (.lst [])))/\∀i m c,W i m c->
 (J.stop i c/\Q (.ref D) c)\/(J.go i c/\∃(N:VK)(M:Hp->Prop),(∀y a,N y a->∃e,a D=some (.lst e)/\e.length<sizeLine/\∃d,d<m/\W (i+1) d (upd a D (.lst (e++[y]))))/\(∀a,M a->∃d,d<m/\W (i+1) d a)/\∀x f,J.yld i c x f->g x (kE ix Z) f λZ4 j=>A2l (kE ix Z) Z4/\tc Z4 j λb a=>if b=true then te Z4 a N else M a)
def PTs(X:Cx)(cs:zT)(t:TT):Prop :=∀(a:zD)(s:zY)(Z:St)(H:Hp)(Q:Bool->Hp->Prop),Inv X a Z H s->t Z H Q->wpAny (model X.prog X.w) X.A (forIn cs true λc r=>if r=true then do let b<-isTrue c X.env (eval c X.env);pure (ForInStep.yield b)else pure (ForInStep.yield r)) (TP X a Z Q) X.xe s
theorem A9{ok:zZ->Prop}(hc:ok X.A)(Q:nr X scope cl)(io:nR X N' scope ix)(hi:PIP ok X tg iter wi)
  (hg:∀C s₀ H₀ fp,PG (blk X N' scope cl C s₀ H₀ fp) tg g) (ht:∀C s₀ H₀ fp,PTs (blk X N' scope cl C s₀ H₀ fp) cs tc) (he:∀C s₀ H₀ fp,PE (blk X N' scope cl C s₀ H₀ fp) elt te) (hs:∀x,foldedSetIterable iter X.env x=pure x) {pp:Pos} {S:zW->Hp->Prop} {R:It->Hp->Prop}
  (hR:∀J H1,R J H1->∀D,H1 D=none->∃W:Nat->Nat->Hp->Prop,(∃m,W 0 m (upd H1 D (.lst [])))/\∀i m H2,W i m H2->(J.stop i H2/\S D H2)\/(J.go i H2/\∃(N:VK)(M:Hp->Prop),(∀y k,N y k->∃xs,k D=some (.lst xs)/\xs.length<sizeLine/\∃l,l<m/\W (i+1) l (upd k D (.lst (xs++[y]))))/\(∀k,M k->∃l,l<m/\W (i+1) l k)/\∀x H3,J.yld i H2 x H3->g x (kE ix Z) H3 λZ4 H4=>A2l (kE ix Z) Z4/\tc Z4 H4 λb k=>if b=true then te Z4 k N else M k))
  (b4:∀(D C:zW)(k:Hp)(s6:zY)(x:Flow),S D k->(∃m,s6.heap.Ns C m)->kQ X pins k C->(∀h',Heap.SameBut C s6.heap h'->Inv X pins Z k {s6 with heap:=h'})->compPost (model X.prog X.w) X.A X.xe use Qf (.ref D) C (.ok x) s6)
  (I:Inv X pins Z H s) (h:wi Z H R):wpAny (model X.prog X.w) X.A (comprehension (.ListComp elt [⟨tg,iter,cs,0⟩] scope pos) scope X.env pp (newList []) false (eval iter X.env) use) Qf X.xe s:=by
 refine wpAny_comprehension_free rfl hs Q.eq Q.kind Q.names (thn (hi pins s Z H _ I h) λxv s1 h1=>thn h1 λb9 a h2=>?_);refine ko h2 ?_;clear h2;rintro it fp tn J H1 rfl I1 T a8 ⟨f1,R1⟩;refine kB ?_;have hD:H1 a.heap.objs.size=none:=I1.hok.fresh (fa _);obtain⟨W,⟨m0,w0⟩,a2⟩:=hR _ _ R1 _ hD;have a9:∀b∈fp,b<a.heap.objs.size:=λb f=>let⟨o,e,_⟩:=T.obj _ _ a8 b f;gC e;have I2:Inv X pins Z (upd H1 a.heap.objs.size (.lst [])) {a with heap:=a.heap.push {cls:=.type "list",data:=.seq ([]:zH).toArray},toks:=a.toks}:=I1.lnew (its:=[]) .nil (jm _);have f2:∀b∈fp,kQ X pins (upd H1 a.heap.objs.size (.lst [])) b:=λb f=>⟨by rw[dt (iy (a9 b f))];exact(f1 b f).1,(f1 b f).2⟩
 have P:∀b∈fp,b<(a.heap.push {cls:=.type "list",data:=.seq ([]:zH).toArray}).objs.size:=λb f=>by rw[lR];exact Nat.lt_succ_of_lt (a9 b f)
 refine wpAny_newFunctionEnv Q.ncell (by intro y hy;simp at hy) (λh3 L a5=>?_) Q.kind;dsimp only at L a5⊢;have k3:∀b o,(a.heap.push {cls:=.type "list",data:=.seq ([]:zH).toArray}).get? b=some o->h3.get? b=some o:=λb o e=>(a5.2 b (iy (gC e))).trans (fy _ e);generalize hs2:({a with heap:=a.heap.push {cls:=.type "list",data:=.seq ([]:zH).toArray},toks:=a.toks}:zY)=s3 at I2;have e3:a.heap.push {cls:=.type "list",data:=.seq ([]:zH).toArray}=s3.heap:=by rw[<-hs2]
 rw[e3]at L k3 P;have I3:=Gq (N':=N') (ix:=ix) I2 Q io f2 P (h':=h3) (t':=a.toks+([]:List (Str×zX)).length) L k3;have e4:({s3 with heap:=h3,toks:=a.toks+([]:List (Str×zX)).length}:zY)={a with heap:=h3,toks:=a.toks+([]:List (Str×zX)).length}:=by rw[<-hs2]
 rw[e4]at I3;have a0:tn 0 h3:=T.keep _ _ _ a8 λb f o e=>k3 b o (by rw[<-e3];exact fy _ e)
 have G:∀s4:zY,s4={a with heap:=h3,toks:=a.toks+([]:List (Str×zX)).length}->
   codeAny (model X.prog X.w) X.A (.compLoop (.ListComp elt [⟨tg,iter,cs,0⟩] scope pos) 0 (.ref it) (.ref a.heap.objs.size) (compEnvC scope cl s3.heap.objs.size X.env))
    (compPost (model X.prog X.w) X.A X.xe use Qf (.ref a.heap.objs.size) s3.heap.objs.size) s4:=by
  rintro s4 rfl
  have B:∀{H':Hp},(∀b∈fp,H' b=none)->∀b∈fp,kQ (blk X N' scope cl s3.heap.objs.size s3 (upd H1 a.heap.objs.size (.lst [])) fp) [] H' b:=λhn b f=>(jd (hn b f) (iy (P b f)) (λhs=>I3.ok.exfs b f hs) (.inl f) (λx c e=>(f2 b f).2.2.2.2.1 x c (Q.sub x c e)) (λp hp=>by cases hp))
  refine codeAny_loop rfl (λn E=>∃i Z' H',Inv (blk X N' scope cl s3.heap.objs.size s3 (upd H1 a.heap.objs.size (.lst [])) fp) [] Z' H' E/\(∀(j:Nat) v,(kE ix Z)[j]?=some (some v)->Z'[j]?=some (some v))/\tn i E.heap/\(∀b∈fp,H' b=none)/\W i n H')
   (λn E hI=>?_) m0 (iL 0 _ _ I3 (λ_ _ z=>z) a0 (λb f=>(f2 b f).1) w0)
  refine gW hI ?_;clear hI;rintro i Z5 k I5 wk a6 ⟨a1,w5⟩;show wpAny _ _ ((compTurn (.ListComp elt [⟨tg,iter,cs,0⟩] scope pos) 0 (.ref it) (.ref a.heap.objs.size) (compEnvC scope cl s3.heap.objs.size X.env)).onRaise (λx=>do noteFrame x (compEnvC scope cl s3.heap.objs.size X.env);theTreesLotGoes x)) _ _ E;refine wpAny_noted ?_;rw[compTurn_list];refine az (pD ?_);rcases a2 i n k w5 with ⟨stop,qn⟩|⟨go,NN,MM,b8,b7,a7⟩
  ·refine az (iV (T.done (blk X N' scope cl s3.heap.objs.size s3 (upd H1 a.heap.objs.size (.lst [])) fp) rfl rfl rfl hc i [] E Z5 k (λ_ _=>False) I5 (B a1) a6 stop) (λr s6 h6=>?_) λ_ _ z=>z.elim);obtain⟨rfl,I6⟩:=h6;refine da ?_;obtain⟨mm,hm,_⟩:=id I6.loc;exact b4 _ _ _ _ _ qn ⟨mm,hm⟩ (I2.fpOk (fa _) I6.free) λh' sb=>EX I2 f2 I6 sb
  ·refine az (iV (T.item (blk X N' scope cl s3.heap.objs.size s3 (upd H1 a.heap.objs.size (.lst [])) fp) rfl rfl rfl hc i [] E Z5 k (λ_ _=>False) I5 (B a1) a6 go) (λr s6 h6=>?_) λ_ _ z=>z.elim);obtain⟨u,rfl,h6⟩:=h6;refine az (iV h6 (λ_ s7 h7=>?_) λ_ _ z=>z.elim);refine iq h7 λx H7 I7 r7 y7 U b0=>?_;clear h7;have I7w:Inv (blk X N' scope cl s3.heap.objs.size s3 (upd H1 a.heap.objs.size (.lst [])) fp) [] (kE ix Z) H7 s7:=I7.weak (by rw[I7.len];unfold kE;rw[dm];exact io.1) wk;have I7p:=I7w.pinned (B b0) (T.obj _ _ U);refine az (iV (hg _ _ _ _ _ s7 _ H7 x u _ I7p r7 (a7 x H7 y7)) (λ_ s8 h8=>?_) λ_ _ z=>z.elim);obtain⟨Z8,H8,I8,a3,q8⟩:=h8
   have K:∀{t:zY}{iV:St}{F:Hp}{l:Nat},Inv (blk X N' scope cl s3.heap.objs.size s3 (upd H1 a.heap.objs.size (.lst [])) fp) ([]++qV fp s7.heap) iV F t->(∀(j:Nat) v,(kE ix Z)[j]?=some (some v)->iV[j]?=some (some v))->W (i+1) l F->
     ∃i Z' H',Inv (blk X N' scope cl s3.heap.objs.size s3 (upd H1 a.heap.objs.size (.lst [])) fp) [] Z' H' t/\(∀(j:Nat) v,(kE ix Z)[j]?=some (some v)->Z'[j]?=some (some v))/\tn i t.heap/\(∀b∈fp,H' b=none)/\W i l H':=by
    intro t iV F l I10 kk O;refine iL (i+1) iV F I10.unpinned kk (T.keep _ _ _ U λb f o e=>(I10.pin (b,o) (my _ (my _ (tZ f e)))).1) (λb f=>?_) O;obtain⟨o,e,d⟩:=T.obj _ _ U b f;exact(I10.pin (b,o) (my _ (my _ (tZ f e)))).2.1
   refine az (iV (ht _ _ _ _ _ s8 Z8 H8 _ I8 q8) (λok b3 b1=>?_) λ_ _ z=>z.elim);obtain⟨H9',I9',a4⟩:=b1
   cases ok with
   |false=>
    have q:MM H9':=by simpa using a4
    obtain⟨l,Y,w9⟩:=b7 _ q;exact az (da (da (iB rfl l Y (K I9' a3.get w9))))
   |true=>
    have q:te Z8 H9' NN:=by simpa using a4
    refine az (az (iV (he _ _ _ _ _ b3 Z8 H9' _ I9' q) (λyv s9 h9=>?_) λ_ _ z=>z.elim));obtain⟨y,H9,I9,r9,n9⟩:=h9;obtain⟨xs,b2,b6,l,Y,w9⟩:=b8 _ _ n9;refine az (iV (mi (X:=blk X N' scope cl s3.heap.objs.size s3 (upd H1 a.heap.objs.size (.lst [])) fp) _ s9 Z8 H9 (.ref a.heap.objs.size) [y] (.ref a.heap.objs.size) [yv] (λ_ H'=>W (i+1) l H') I9 rfl (.cons r9 .nil) (iL _ xs y rfl rfl b2 b6 w9)) (λ_ t b5=>?_) λ_ _ z=>z.elim);obtain⟨_,F,I10,_,O⟩:=b5;exact da (da (iB rfl l Y (K I10 a3.get O)))
 have e5:s3.heap.objs.size=(a.heap.push {cls:=.type "list",data:=.seq ([]:zH).toArray}).objs.size:=by rw[e3]
 rw[e5]at G;exact codeAny_compStart_list (G _ rfl) (T.self X.A 0 _ _ _ a0 (G _ rfl))
theorem Hw{ok:zZ->Prop}(q:ok X.A)(r:nr X scope cl)(u:nR X N' scope ix)(hi:PIP ok X tg iter wi)
  (w:∀C c H₀ fp,PG (blk X N' scope cl C c H₀ fp) tg g) (t:∀C c H₀ fp,PTs (blk X N' scope cl C c H₀ fp) cs tc) (v:∀C c H₀ fp,PE (blk X N' scope cl C c H₀ fp) elt te) (R:VK->St->It->Hp->Prop) (l:∀Q Z J H1,R Q Z J H1->∀D,H1 D=none->∃W:Nat->Nat->Hp->Prop,(∃m,W 0 m (upd H1 D (.lst [])))/\∀i m H2,W i m H2->
 (J.stop i H2/\Q (.ref D) H2)\/(J.go i H2/\∃(N:VK)(M:Hp->Prop),(∀y a,N y a->∃xs,a D=some (.lst xs)/\xs.length<sizeLine/\∃d,d<m/\W (i+1) d (upd a D (.lst (xs++[y]))))/\(∀a,M a->∃d,d<m/\W (i+1) d a)/\∀x f,J.yld i H2 x f->g x (kE ix Z) f λZ4 H4=>A2l (kE ix Z) Z4/\tc Z4 H4 λb a=>if b=true then te Z4 a N else M a)) (hs:∀x,foldedSetIterable iter X.env x=pure x:=by intro _;rfl):
  PE X (.ListComp elt [⟨tg,iter,cs,0⟩] scope pos) (λZ H Q=>wi Z H (R Q Z)):=by
 intro e s Z H Q I h;rw[eval_ListComp];exact A9 (use:=none) q r u hi w t v hs (S:=λD H2=>Q (.ref D) H2) (l Q Z) (λD C a z x n ⟨p,o⟩ _ Io=>(bd p o λj k=>(eu (.ref D) a (Io j k) rfl n))) I h
theorem lu(k:X.calm=true)(l:nr X scope cl)(n:nR X N' scope ix)(hi:PI X tg iter wi)
  (r:∀C d H₀ fp,PG (blk X N' scope cl C d H₀ fp) tg g) (o:∀C d H₀ fp,PE (blk X N' scope cl C d H₀ fp) elt te) (hs:∀x,foldedSetIterable iter X.env x=pure x:=by intro _;rfl):
  PE X (.ListComp elt [⟨tg,iter,[],0⟩] scope pos) (uO ix wi g te):=
 λb s Z H Q I h=>(show PE X _ (uO ix wi g te) from Hw (tc:=λ_ H Q=>Q true H) (I.ok.hd k) l n hi r (λ_ _ _ _ _ _ _ _ _ I h=>wpAny_tests_nil (bd _ I h)) o _ (λ_ _ _ _ R e p=>by
  obtain⟨W,t,c⟩:=R e p;refine bd W t λi m j w=>(c i m j w).imp id λ⟨q,N,f,a⟩=>(jp q N (λ_=>False) f (λ_ z=>z.elim) ?_)
  simpa using a) hs) b s Z H Q I h
section
variable{D:zW}{xs:zM}
end
theorem HX{v:zW}(h1:s.heap.IsItemsView v d)(h2:s.heap.get? d=some od)(a:od.data=.dict es ep)
  (q:Q (.ref s.heap.objs.size) {s with heap:=s.heap.push {cls:=.type "dict_itemiterator",data:=.fields #[.none,.bool false,.ref d,.int 0 0,.int es.size 0,.int ep 0,.none,.none]}}):
  wpAny (model prog w) A (pyIter (.ref v)) Q E s:=by
 obtain⟨f,b,e,c⟩:=id h1;refine wpAny_pyIter_slot h1.typeIs F.slot_dict_items_iter (jD F.slot_dict_items_iter h1.typeIs F.entry_dict_items_iter ?_ (F.args_dict_items_iter_1 _));unfold Builtin.«dict_items.__iter__»;refine az (da (az ?_));unfold Builtin.Dict_items.dictOf;refine az (iO b c (x:=.ref d) rfl (da (az ?_)));unfold Builtin.Dict_items.newIterator;refine az (wpAny_dictEntries h2 a (az (wpAny_dictEpoch h2 a ?_)));simp only [show Builtin.Dict_items.ownsTuple "dict_itemiterator"=true by decide,if_true]
 refine kB (da (gB _ rfl "dict_itemiterator" _ (bd _ (hU _ rfl) rfl) F.slot_dict_itemiterator_next.lookup ?_)) (by
  simp only [sizeOk,Builtin.Dict_items.ownedTupleFields,iR,ic,je,mQ,sizeLine_eq]
  lia)
 simpa[rawInt,Builtin.Dict_items.ownedTupleFields]using q
theorem Im{e:DictEntry}{Q:zN->zY->Prop}
  (h1:IsItemIter s.heap it d i n ep x y) (h2:s.heap.get? d=some od) (M:od.data=.dict es ep) (R:es.size=n) (P:es[i]?=some e)
  (q:∀h',IsItemIterOut h' it d (i+1) n ep e.key e.val s.heap.objs.size->h'.get? s.heap.objs.size=some {cls:=.type "tuple",data:=.seq #[e.key,e.val]}->
   (∀c u,c≠it->s.heap.get? c=some u->h'.get? c=some u)->Q (some (.ref s.heap.objs.size)) {s with heap:=h'}):
  wpAny (model prog w) A (pyNext (.ref it)) Q E s:=by
 obtain⟨f,g,r,t,v⟩:=s;have m:Shared.TypeIs ⟨f,g,r,t,v⟩ (.ref it) "dict_itemiterator":=(bd _ h1 rfl);unfold pyNext;refine az (wpAny_attempt (lT (name:=Str.ofString "__next__") m F.slot_dict_itemiterator_next (jD F.slot_dict_itemiterator_next m F.entry_dict_itemiterator_next ?_ (F.args_dict_itemiterator_next_1 _))));refine az (da (az (az ?_)));refine az (wpAny_typeNameOfWhole_itemiter m (da (az (wpAny_fieldsOf h1 rfl ?_))));simp only [show Builtin.Dict_items.ownsTuple "dict_itemiterator"=true by decide,if_true];show wpAny _ _ (ite ((Value.ref d==Value.none)=true) _ _) _ _ _;rw[dh (show¬((Value.ref d==Value.none)=true) from ij)];refine az (da (az (wpAny_dictEntries h2 M ?_)));rw[dh (by rw[R];simp)];refine az (da (az (wpAny_dictEpoch h2 M ?_)));rw[dh (by simp)];obtain⟨U,T⟩:=qf.mp P;refine da ?_;simp only [show¬((i:Int)<0) from by lia,if_false,Int.toNat_natCast,P];refine az (az (wpAny_typeNameOfWhole_itemiter m (da (az (wpAny_isOneOf_itemiter m ?_)))));show wpAny _ _ (setField (.ref it) 3 (rawInt ((i:Int)+1))>>=_) _ _ (⟨f,g,r,t,v⟩:zY);refine az (kA h1 (by simp) λk1 j k=>?_)
 replace k:Heap.SameBut it f k1:=k
 replace j:IsItemIter k1 it d (i+1) n ep x y:=by
  have z:((i+1:Nat):Int)=(i:Int)+1:=by lia
  unfold IsItemIter;rw[z]
  simpa[rawInt]using j
 have h:Shared.TypeIs ⟨k1,g,r,t,v⟩ (.ref it) "dict_itemiterator":=(bd _ j rfl);refine az (jS (az (wpAny_isOneOf_itemiter h (az (wpAny_isOneOf_itemiter h ?_)))));show wpAny _ _ (Builtin.Dict_items.pairFromOwner (.ref it) 6 e.key e.val) _ _ (⟨k1,g,r,t,v⟩:zY);unfold Builtin.Dict_items.pairFromOwner;refine az (wpAny_newTuple ?_);have B:k1.objs.size=f.objs.size:=k.1;have S:it<f.objs.size:=gC h1;have l:IsItemIter (k1.push {cls:=.type "tuple",data:=.seq #[e.key,e.val]}) it d (i+1) n ep x y:=fy _ j;have O:(k1.push {cls:=.type "tuple",data:=.seq #[e.key,e.val]}).get? f.objs.size=some {cls:=.type "tuple",data:=.seq #[e.key,e.val]}:=by rw[<-B];exact hU _ rfl
 have N:∀b o,b≠it->f.get? b=some o->(k1.push {cls:=.type "tuple",data:=.seq #[e.key,e.val]}).get? b=some o:=λb o a z=>fy _ (k.extBut b o a z);generalize k1.push {cls:=.type "tuple",data:=.seq #[e.key,e.val]}=k2 at l O N;show wpAny _ _ (Builtin.Dict_items.ownedTupleIsFree (.ref it)>>=_) _ _ (⟨k2,g,r,t,v⟩:zY);rw[B];clear j k h B k1;refine az ?_;unfold Builtin.Dict_items.ownedTupleIsFree;refine az (iO l rfl (x:=.none) rfl (da ?_));simp only [if_true];refine az (iO l rfl (x:=x) rfl (az (iO l rfl (x:=y) rfl (az (kA l (by simp) λk3 G C=>?_)))))
 replace C:Heap.SameBut it k2 k3:=C
 replace G:IsItemIter k3 it d (i+1) n ep e.key y:=G
 refine az (kA G (by simp) λk4 H L=>?_)
 replace L:Heap.SameBut it k3 k4:=L
 replace H:IsItemIter k4 it d (i+1) n ep e.key e.val:=H
 refine az (kA H (by simp) λk5 J D=>?_)
 replace D:Heap.SameBut it k4 k5:=D
 replace J:IsItemIterOut k5 it d (i+1) n ep e.key e.val f.objs.size:=J
 refine az (kA J (by simp) λk6 K I=>?_)
 replace I:Heap.SameBut it k5 k6:=I
 replace K:IsItemIterOut k6 it d (i+1) n ep e.key e.val f.objs.size:=K
 have p:∀b o,b≠it->k2.get? b=some o->k6.get? b=some o:=λb o a z=>I.extBut b o a (D.extBut b o a (L.extBut b o a (C.extBut b o a z)));exact az (wpAny_letGo (da (da (bd _ rfl (da (q k6 K (p _ _ (jC S) O) λb o a z=>p b o a (N b o a z)))))))
theorem GM{Q:zN->zY->Prop}(f:A.handled=none)
  (h1:IsItemIter s.heap it d i n ep x y) (h2:s.heap.get? d=some od) (e:od.data=.dict es ep) (g:es.size=n) (h:n<=i)
  (q:∀h',Heap.ExtBut it s.heap h'->Q none {s with heap:=h'}):wpAny (model prog w) A (pyNext (.ref it)) Q E s:=by
 have c:s.TypeIs (.ref it) "dict_itemiterator":=(bd _ h1 rfl);unfold pyNext;refine az (wpAny_attempt (lT (name:=Str.ofString "__next__") c F.slot_dict_itemiterator_next (jD F.slot_dict_itemiterator_next c F.entry_dict_itemiterator_next ?_ (F.args_dict_itemiterator_next_1 _))));refine az (da (az (az ?_)));refine az (wpAny_typeNameOfWhole_itemiter c (da (az (wpAny_fieldsOf h1 rfl ?_))));simp only [show Builtin.Dict_items.ownsTuple "dict_itemiterator"=true by decide,if_true];show wpAny _ _ (ite ((Value.ref d==Value.none)=true) _ _) _ _ _;rw[dh (show¬((Value.ref d==Value.none)=true) from ij)];refine az (da (az (wpAny_dictEntries h2 e ?_)));rw[dh (by rw[g];simp)];refine az (da (az (wpAny_dictEpoch h2 e ?_)));rw[dh (by simp)];refine da ?_;simp only [show¬((i:Int)<0) from by lia,if_false,Int.toNat_natCast,Array.getElem?_eq_none (show es.size<=i by lia)];refine az (az (wpAny_typeNameOfWhole_itemiter c (da ?_)));show wpAny _ _ (setField (.ref it) 2 .none>>=_) _ _ _;refine az (oS h1 rfl (by simp) ?_);show wpAny _ _ (newExc (.type "StopIteration") []>>=_) _ _ (_:zY);refine az ?_;simp only [newExc,newTuple];refine az (kB (az (m:=firstArgMember _ _) (wpAny_of_eq (a:=Value.none) (by first|rfl|(simp only [firstArgMember];rfl)) (kB ?_ (by size_fits)))) (by size_fits));simp only [raiseNew];refine az (wpAny_handled ?_);rw[show A.in1.handled=none from f];refine az (da (wpAny_throw ?_));refine az (wpAny_isInstance (T:="StopIteration") (b:=true) (bd _ (hU _ rfl) rfl) isSubtype_stop (da ?_));exact q _ (((Heap.SameBut.update ..).extBut.push _).push _)
theorem IQ:entryFor table "dict_itemiterator.__iter__"=some Builtin.«dict_keyiterator.__iter__»:=entryFor_alias (id':="dict_keyiterator.__iter__") (by kernel_rfl) rfl (by decide+kernel) (by kernel_rfl)
theorem Hz(st:IsItemIter s.heap it d i n ep x y)(h:Q (.ref it) s):wpAny (model prog w) A (pyIter (.ref it)) Q E s:=by have a:s.TypeIs (.ref it) "dict_itemiterator":=(bd _ st rfl);refine wpAny_pyIter_slot a F.slot_dict_itemiterator_iter (jD F.slot_dict_itemiterator_iter a IQ ?_ (F.args_dict_itemiterator_iter_1 _));show wpAny _ _ (ret (.ref it)) _ _ s;exact da (gB _ rfl "dict_itemiterator" _ a F.slot_dict_itemiterator_next.lookup h)
theorem HC(d:zW)(b:(d==sysModules)=false):
  MeetsIn prog w (Builtin.«dict.items» ⟨[.ref d],[]⟩) (λ_ R s=>s.TypeIs (.ref d) "dict"/\R (.ok (.ret (.ref s.heap.objs.size))) {s with heap:=s.heap.push {cls:=.type "dict_items",data:=.fields #[.ref d]}}):=
 .of_wp λA R s ⟨a,q⟩=>by unfold Builtin.«dict.items»;refine az ?_;unfold Builtin.Dict.noArgs;refine az (wpAny_notOrdered_dict a ?_);show wpAny _ _ (pure d) _ _ s;refine da ?_;show wpAny _ _ (Builtin.Dict.showsAll d>>=_) _ _ s;unfold Builtin.Dict.showsAll;rw[dh (by rw[b];exact ij)];exact az (da (az (kB (da (bd _ rfl q)))))
def isD(u:HO):Prop:=(∃a,u=.dK a)\/∃a,u=.dT a
def qm(v d:zW):HO:=.ext λh=>h.IsItemsView v d
theorem E7{v:zW}(e:h.IsItemsView v d):A1h P w H h v (qm v d):=(fI e (let⟨o,a,_⟩:=e;⟨o,a⟩) (by rintro c f ⟨o,a,b⟩ k;exact bd o (k o a) b))
theorem EL(i:isD u)(x:A1h P w H h a u):(a==sysModules)=false/\∃o es ep,h.get? a=some o/\o.ExactDict/\o.data=.dict es ep:=by
 rcases i with ⟨b,rfl⟩|⟨b,rfl⟩
 ·refine kr x ?_;clear x;rintro k e j c o es ep g ⟨d,f,r⟩;exact⟨e,(jQ o es ep g d f)⟩
 ·refine kr x ?_;clear x;rintro k e j c o es ep g ⟨d,f,r⟩;exact⟨e,(jQ o es ep g d f)⟩
def DT:V->List V->Hp->VK->Prop:=λx b H Q=>∃a u,x=.ref a/\b=[]/\H a=some u/\isD u/\∀p,H p=none->Q (.ref p) (upd H p (qm p a))
theorem FT:MtR X "dict.items" DT:=by intro c s Z H x w v p Q I f g h;refine iq h ?_;clear h;rintro a u rfl rfl m j q;cases f;cases g;obtain⟨l,o,n,t,i,k,r⟩:=EL j (I.hok a u m);have d:s.TypeIs (.ref a) "dict":=(bd o i k.1);refine call_meetsIn PySem.F.slot_dict_items d PySem.F.entry_dict_items (PySem.F.args_dict_items_1 _) (HC a l) ⟨d,?_⟩;exact eu (.ref s.heap.objs.size) _ (I.laid (t':=s.toks) (o:=qm s.heap.objs.size a) (λb u e=>fy _ e) (fa _) (E7 (eh _ (hU _ rfl) rfl rfl))) rfl (q _ (I.hok.fresh (fa _)))
theorem Inv.frozenD(I:Inv X pins Z H s)(c:H a=some u)(d:isD u)(h:s.heap.get? a=some o):Inv X pins Z (upd H a (.frz o u)) s:=by
 have i:∀b f,H b=some (.tup f)->upd H a (.frz o u) b=some (.tup f):=λb f q=>by rw[dt (iI q c (by rcases d with ⟨_,rfl⟩|⟨_,rfl⟩<;>intro z<;>cases z))];exact q
 have j:∀b,H b=some (.own a)->upd H a (.frz o u) b=some (.own a):=λb q=>by rw[dt (iI q c (by rcases d with ⟨_,rfl⟩|⟨_,rfl⟩<;>intro z<;>cases z))];exact q
 have g:A1h X.prog X.w (upd H a (.frz o u)) s.heap a (.frz o u):=⟨h,(I.hok a u c).stay (λ_ _ _ q=>q) j i⟩;exact I.write (t':=s.toks) (h':=s.heap) (e:=a) (by rw[c];rcases d with ⟨_,rfl⟩|⟨_,rfl⟩<;>trivial) (.inl rfl) (λ_ _ _ e=>e) ⟨o,h⟩ g
theorem Inv.thawD(I:Inv X pins Z H s)(g:H a=some (.frz o u))(y:isD u)(h0:∀o' j,X.H₀ a≠some (.frz o' j)):Inv X pins Z (upd H a u) s:=by
 have h:∀b,H b=none->upd H a u b=none:=λb e=>by rw[dt (λz=>by subst z;rw[g]at e;cases e)];exact e
 have i:∀b d,H b=some (.tup d)->upd H a u b=some (.tup d):=λb d q=>by rw[dt (iI q g (by intro z;cases z))];exact q
 have m:∀b c,H b=some (.own c)->upd H a u b=some (.own c):=λb c q=>by rw[dt (iI q g (by intro z;cases z))];exact q
 refine⟨I.ok,I.os,I.bare,⟨I.base.keep,I.base.slot,λb k e n t=>h b (I.base.free b k e n t),I.base.there,λb d e=>i b d (I.base.tups b d e),λb k j e=>?_,λb r e=>?_⟩,I.loc,I.cell,h _ I.free,λx c e=>h _ (I.freeC x c e),
  λp l=>(fI ((I.pin p l).1) (h _ (I.pin p l).2.1) ((I.pin p l).2.2)),λb v e=>?_,I.len⟩
 ·have q:=I.base.frzs b k j e;rw[dt (λz=>by subst z;exact h0 _ _ e)];exact q
 ·obtain⟨f,q⟩:=I.base.tbls b r e;exact⟨f,by rw[dt (iI q g (by intro z;cases z))];exact q⟩
 ·by_cases hb:b=a
  ·subst hb;rw[ck]at e;cases e;obtain⟨_,q⟩:=(show A1h X.prog X.w H s.heap b (.frz o u) from I.hok b _ g);exact q.stay (λ_ _ _ q=>q) (λc q=>m c b q) λc d q=>i c d q
  ·rw[dt hb]at e;exact(I.hok b v e).stay (λ_ _ _ q=>q) (λc q=>m c b q) λc d q=>i c d q
def C7(X:Cx)(t:TS):TS:=λD Z H=>∃a o u,H a=some (.frz o u)/\isD u/\(∀c b,X.H₀ a≠some (.frz c b))/\t D Z (upd H a u)
theorem Hl{t:TS}(h:PSs X sts t):PSs X sts (C7 X t):=by intro b s Z H D I c;refine gW c λa o u f e d q=>?_;clear c;exact h b s Z _ D (I.thawD f e d) q
abbrev rW(es:Array DictEntry)(L:List (V×V)):Prop:=Paired (λ(e:DictEntry)(p:V×V)=>A2b p.1 e.key/\A2b p.2 e.val) es.toList L
def Iti(a:zW)(o:Obj)(u:HO)(L:List (V×V)):It :=⟨λi H=>H a=some (.frz o u)/\i<L.length,λi H x b=>∃k v p,L[i]?=some (k,v)/\H p=none/\x=.ref p/\b=upd H p (.tup [k,v]),λi H=>H a=some (.frz o u)/\i=L.length⟩
theorem vW{α β:Type}{F:α->β->Prop}:∀{l:List α}{m:List β},Paired F l m->l.length=m.length|_,_,.nil=>rfl|_,_,.cons _ t=>by simp[vW t]
theorem AG{α β:Type}{F:α->β->Prop}:∀{l:List α}{m:List β},Paired F l m->∀{i:Nat}{y:β},m[i]?=some y->∃x,l[i]?=some x/\F x y|_,_,.nil,i,y,e=>by simp at e|_,_,.cons r t,0,y,e=>by simp at e;subst e;exact bd _ rfl r|_,_,.cons r t,i+1,y,e=>by obtain⟨x,b,a⟩:=AG t (i:=i) (by simpa using e);exact bd x (by simpa using b) a
theorem Ip(it a:zW)(o:Obj)(u:HO)(L:List (V×V))(es:Array DictEntry)(ep:Nat)(O:o.data=.dict es ep)(F:rW es L):
  C9n P w K (.Tuple elts kk pos) (Iti a o u L) [it] it (λi h=>∃x y,IsItemIter h it a i es.size ep x y) where
 mem:=by simp
 obj:=λi h d b B=>by
  have e:b=it:=by simpa using B
  subst e;obtain⟨x,y,e⟩:=d;exact bd _ e λv z=>by cases(show Data.fields _=Data.cell v from z)
 keep:=λi h r d k=>let⟨x,y,e⟩:=d;(iA x y (k it (by simp) _ e))
 item:=by
  intro X t A q j i f s Z H E I n d G;subst t A q;obtain⟨C,M⟩:=G;obtain⟨x,y,d⟩:=d;have hl:es.size=L.length:=by have:=vW F;simpa using this
  obtain⟨⟨k,v⟩,hkv⟩:∃p,L[i]?=some p:=⟨L[i],by simp[M]⟩;obtain⟨e,he,r1,S⟩:=AG F hkv;obtain⟨l,_⟩:=(show A1h X.prog X.w H s.heap a (.frz o u) from I.hok a _ C);refine Im d l O rfl (e:=e) (by simpa using he) λr R z2 kp=>?_;refine bd _ rfl (wpAny_letOwnedTupleGo_items (s:={s with heap:=r}) R λg zg J=>?_)
  have N:s.heap.objs.size≠it:=jC (gC d)
  have I1:Inv X f Z (upd H s.heap.objs.size (.tup [k,v])) {s with heap:=g,toks:=s.toks}:=I.turnedNew (ts:=[it]) (λc o j e=>by
   have m:c≠it:=by simpa using j
   exact J.extBut _ _ m (kp c o m e)) n (fa _) (ul (by show 2<=sizeLine;decide) [e.key,e.val] (.cons r1 (.cons S .nil)) _ (J.extBut _ _ N z2) rfl _ rfl)
  refine iM (.ref s.heap.objs.size) _ I1 rfl (iE k v _ hkv (I.hok.fresh (fa _)) rfl rfl) (iA _ _ zg) λc j=>?_;have D:c=it:=by simpa using j
  subst D;rw[dt N.symm];exact(n c j).1
 done:=by
  intro X t A q j i f s Z H E I n d G;subst t A q;obtain⟨C,M⟩:=G;obtain⟨x,y,d⟩:=d;have hl:es.size=L.length:=by have:=vW F;simpa using this
  obtain⟨l,_⟩:=(show A1h X.prog X.w H s.heap a (.frz o u) from I.hok a _ C);obtain⟨f0,f1,f2,T,Q,Y⟩:=n it (by simp);exact GM j d l O rfl (by lia) λr W=>⟨rfl,I.turned (t':=s.toks) (λb U B e=>W b U B e) f0 f1 T Q Y⟩
 self:=λ_ _ s _ _ d h=>by obtain⟨x,y,d⟩:=d;exact Hz d h
abbrev KL(H:Hp)(kvs:List (List Key×V))(L:List (V×V)):Prop:=Paired (λ(p:List Key×V)(q:V×V)=>∃b,q.1=.ref b/\H b=some (.tup (p.1.map kV))/\q.2=p.2) kvs L
theorem Bc{α β:Type}{F:α->β->Prop}:∀{l:List α}{m:List β},l.length=m.length->(∀(i:Nat)(x:α)(y:β),l[i]?=some x->m[i]?=some y->F x y)->Paired F l m| [],[],_,_=>.nil| [],_::_,e,_=>by simp at e|_::_,[],e,_=>by simp at e|x::l,y::m,e,h=>.cons (h 0 x y rfl rfl) (Bc (by simpa using e) λi a b p q=>h (i+1) a b (by simpa using p) (by simpa using q))
theorem DA(r:KV kvs vs)(p:Pairs (ig P w) es.toList vs):rW es (kvs.map λq=>(kV q.1,q.2)):=by refine Bc (by rw[p.length,dm];exact r.length.symm) λi e y c a=>?_;rw[iG]at a;obtain⟨⟨k,v⟩,f,rfl⟩:=mu.mp a;obtain⟨u,d,h⟩:=r.at f;obtain⟨b,g⟩:=p.get? c d;subst g;exact⟨xw b,h⟩
theorem xA{P:yB}{w:yD}{H:Hp}:∀{kvs:List (List Key×V)}{xs:List (List Key×zW×zX)},KT H kvs xs->
  ∃L,Paired (λ(e:DictEntry)(p:V×V)=>A2b p.1 e.key/\A2b p.2 e.val) (xs.map (entryOfKey (tupleKind (ig P w)))) L/\KL H kvs L
 |_,_,.nil=>(bd [] .nil .nil)
 |_,_,@Paired.cons _ _ _ p q _ _ h t=>by obtain⟨L,b,a⟩:=xA (P:=P) (w:=w) t;exact bd ((.ref q.2.1,p.2)::L) (.cons ⟨rfl,h.2.2⟩ b) (.cons (eh q.2.1 rfl h.2.1 rfl) a)
def DH(tl:TE):TI:=λZ H R=>tl Z H λx c=>∃v a u,x=.ref v/\c v=some (qm v a)/\c a=some u/\
 ((∃b,u=.dK b/\∀o,R (Iti a o u (b.map λq=>(kV q.1,q.2))) (upd c a (.frz o u)))\/∃b,u=.dT b/\∀o L,KL c b L->R (Iti a o u L) (upd c a (.frz o u)))
theorem Fw{l:yC}(J:PE X l tl):PI X (.Tuple elts kk pos) l (DH tl):=by
 intro c s Z H R I h;refine thn (J c s Z H _ I h) ?_;rintro y s1 p;refine oy p ?_;clear p;rintro x n I1 z v a u ⟨D,M,m,q⟩;subst D;cases z;obtain⟨F,_⟩:=(show A1h X.prog X.w n s1.heap v (qm v a) from I1.hok v _ M)
 have t:∀(o:Obj)(d:Array DictEntry)(f:Nat)(L:List (V×V)),s1.heap.get? a=some o->o.data=.dict d f->isD u->rW d L->R (Iti a o u L) (upd n a (.frz o u))->
   wpAny (model X.prog X.w) X.A (pyIter (.ref v)) (PIE X c Z (.Tuple elts kk pos) R) X.xe s1:=by
  intro o d f L i j Q O G;refine HX F i j ?_;have I2:Inv X c Z n {s1 with heap:=s1.heap.push {cls:=.type "dict_itemiterator",data:=.fields #[.none,.bool false,.ref a,.int 0 0,.int d.size 0,.int f 0,.none,.none]},toks:=s1.toks}:=I1.kept λb W e=>fy _ e
  have I3:=I2.frozenD m Q (fy _ i);refine lP _ [s1.heap.objs.size] _ _ _ rfl I3 (Ip _ a o u L d f j O) (iA .none .none (hU _ rfl)) (λb B=>?_) G;have e:b=s1.heap.objs.size:=by simpa using B
  subst e;refine I1.fpOk (fa _) ?_;rw[dt (jC (I1.hok.lt m))];exact I1.hok.fresh (fa _)
 rcases q with ⟨k,rfl,q⟩|⟨k,rfl,q⟩
 ·refine kr (qQ I1.hok m) ?_;rintro U C Y g o d f i ⟨S,j,_,r,_⟩;exact t o d f _ i j (.inl ⟨_,rfl⟩) (DA g r) (q o)
 ·refine kr (show A1h X.prog X.w n s1.heap a (.dT k) from I1.hok a _ m) ?_;rintro U C E g o d f i ⟨S,j,T,_⟩;obtain⟨L,K,N⟩:=xA (P:=X.prog) (w:=X.w) g;exact t o d f L i j (.inr ⟨_,rfl⟩) (by unfold rW;rw[T];exact K) (q o L N)
theorem GH(Pv:Nat->St->Hp->Prop)(h0:Pv 0 Z H)(b:∀i Z H,Pv i Z H->H a=some (.frz o u))
  (hs:∀i k v p Z H,L[i]?=some (k,v)->H p=none->Pv i Z H->g (.ref p) Z (upd H p (.tup [k,v])) λZ2 H2=>tb {D with nx:=Pv (i+1),ct:=Pv (i+1),bk:=D.nx} Z2 H2) (j:∀Z H,Pv L.length Z H->D.nx Z H):
  ∃W:Nat->Nat->St->Hp->Prop,(∃m,W 0 m Z H)/\∀i m Z H,W i m Z H->
   ((Iti a o u L).stop i H/\D.nx Z H)\/((Iti a o u L).go i H/\∃N:St->Hp->Prop,(∀Z' H',N Z' H'->∃c,c<m/\W (i+1) c Z' H')/\∀x H',(Iti a o u L).yld i H x H'->g x Z H' λZ2 H2=>tb {D with nx:=N,ct:=N,bk:=D.nx} Z2 H2):=by
 refine bd (λi m Z H=>m=L.length-i/\i<=L.length/\Pv i Z H) (eh L.length (by simp) (jm _) h0) ?_;rintro i m Z H ⟨rfl,l,p⟩;by_cases hlt:i<L.length
 ·refine .inr (iB ⟨b i Z H p,hlt⟩ (Pv (i+1)) (λZ' H' h=>(iF (L.length-(i+1)) (by lia) rfl hlt h)) λx H' y=>?_);refine gW y ?_;clear y;rintro k v q f d rfl rfl;exact hs i k v q Z _ f d p
 ·have e:i=L.length:=by lia
  subst e;exact .inl ⟨⟨b _ Z H p,rfl⟩,j Z H p⟩
def xj(H:Hp):Prop:=(∀a b,H a=some (.dK b)->(b.map (·.1)).Nodup)/\∀a b,H a=some (.dT b)->(b.map (·.1)).Nodup
theorem EF(r:KV kvs vs):kvs.map (·.1)=vs.map (·.1):=by
 unfold KV at r
 induction r with
 |nil=>rfl
 |cons h t ih=>rw[ik,ik,ih,h.1]
theorem EM{kvs:List (List Key×V)}{xs:List (List Key×zW×zX)}(r:KT H kvs xs):kvs.map (·.1)=xs.map (·.1):=by
 induction r with
 |nil=>rfl
 |cons h t ih=>rw[ik,ik,ih,h.1]
theorem Inv.apart(I:Inv X pins Z H s):xj H:=by
 refine⟨λa c e=>?_,λa c e=>?_⟩
 ·refine kr (qQ I.hok e) ?_;rintro _ _ g b o d f _ ⟨_,_,_,_,n⟩;rw[EF b];exact n
 ·refine kr (show A1h X.prog X.w H s.heap a (.dT c) from I.hok a _ e) ?_;rintro _ _ h b o d f _ ⟨_,_,_,n⟩;rw[EM b];exact n
theorem FS{t:TS}(h:PSs X sts t):PSs X sts (λD Z H=>xj H->t D Z H):=λa s Z H D I q=>h a s Z H D I (q I.apart)
theorem yW[DecidableEq κ]{kvs:List (κ×V)}{k:κ}(n:(kvs.map (·.1)).Nodup)(h:kvs[i]?=some (k,v))(b:List (κ×V))(e:b.map (·.1)=(kvs.take i).map (·.1))(u:V):gY b k u=b++[(k,u)]:=by
 unfold gY;rw[dh];intro a;obtain⟨p,y,d⟩:=List.any_eq_true.mp a;have d:p.1=k:=by simpa using d
 have f:k∈b.map (·.1):=gS.mpr (bd p y d);rw[e]at f;obtain⟨q,m,t⟩:=gS.mp f;obtain⟨j,C,g⟩:=List.mem_iff_getElem.mp m;have o:j<i:=by have:=List.length_take_le i kvs;lia
 rw[List.getElem_take]at g;obtain⟨A,z⟩:=gG.mp h;have c:j<kvs.length:=by lia
 have l:(kvs.map λx=>x.1)[j]?=some k:=by rw[iG,gM c,g];exact congrArg some t
 have s:(kvs.map λx=>x.1)[i]?=some k:=by rw[iG,h];rfl
 obtain⟨B,r⟩:=gG.mp l;obtain⟨D,w⟩:=gG.mp s;have:j=i:=(List.getElem_inj n).mp (r.trans w.symm)
 lia
theorem BZ:entryFor table "dict.update.loop"=some Builtin.«dict.update.loop»:=entryFor_of_tree (by kernel_rfl)
theorem uh:plainId "dict.update.loop"=true:=by decide+kernel
section
variable{prog:yB}{w:yD}{K:Type}[DecidableEq K]{knd:KeyKind prog w K}{A:zZ}{R:Result->zY->Prop}{I l d:zW}{items:zG}{rs:List (K×zX)}{h₀:yA}{g:Array GenState}{dr:Drawn}{os:OsState}
end
def B2r(env:Env):List (Str×zW)->Prop| []=>True|p::r=>env.cells.lookup p.1=some p.2/\B2r env r
theorem B2r.get{env:Env}:∀{cl:List (Str×zW)},B2r env cl->∀{x:Str}{c:zW},cl.lookup x=some c->env.cells.lookup x=some c
 | [],_,_,_,h=>by cases h
 |(y,d)::r,h,x,c,e=>by
  rw[mR]at e;split at e
  ·rename_i hb;have a:x=y:=by simpa using hb
   cases e
   subst a;exact h.1
  ·exact B2r.get h.2 e
theorem BN{x:Str}:∀{cl:List (Str×zW)},x∈cl.map (·.1)->∃c,cl.lookup x=some c
 | [],h=>by cases h
 |(y,d)::r,h=>by
  rw[mR]
  cases hb:(x==y)with
  |true=>exact⟨d,rfl⟩
  |false=>
   have a:x≠y:=by simpa using hb
   rcases gP.mp h with e|e
   ·exact absurd e a
   ·exact BN e
theorem AQ{xs:zC}(r:closureFor scope X.env=pure cl)(o:B2r X.env cl)(s:cl.map (·.1)=xs)(a:scope.kind=.function)(hn:∀y∈scope.names,y.2≠.cell/\(y.2=.free->y.1∈xs))
  (i:∀y∈scope.names,y.2=.local->scope.names.lookup y.1=some .local):nr X scope cl where
 eq:=r
 sub:=λy d h=>o.get h
 has:=λy h=>by
  have b:y∈xs:=by
   have m:∃k,(y,k)∈(relabel scope X.env).names/\(k=.cell\/k=.free):=h.elim (λz=>(bd _ (rB z) (.inl rfl))) λz=>(bd _ (rB z) (.inr rfl));obtain⟨k,j,a⟩:=m;obtain⟨⟨n,c⟩,f,e⟩:=gS.mp j;dsimp only at e;by_cases hf:c=.free
   ·have g:n=y:=by
     split at e
     ·exact congrArg Prod.fst e
     ·exact congrArg Prod.fst e
    rw[<-g];exact(hn _ f).2 hf
   ·have l:(c==NameKind.free)=false:=by simpa using hf
    simp only [l,Bool.false_and,Bool.false_eq_true,if_false]at e;have p:c=k:=congrArg Prod.snd e;subst p;rcases a with a|a
    ·exact absurd a (hn _ f).1
    ·exact absurd a hf
  rw[<-s]at b;exact BN b
 kind:=a
 ncell:=λy q=>(hn y q).1
 names:=i
def B6s(X:Cx)(scope:Scope):zC->List Nat->Prop| [],[]=>True|x::xs,j::js=>(X.N[j]?=some x/\(X.env.scope.names.lookup x=some .cell\/X.env.scope.names.lookup x=some .free)/\((relabel scope X.env).names.lookup x=some .cell\/(relabel scope X.env).names.lookup x=some .free))/\B6s X scope xs js|_,_=>False
theorem B6s.get{X:Cx}{scope:Scope}:∀{xs:zC}{js:List Nat},B6s X scope xs js->xs.length=js.length/\∀(i j:Nat),js[i]?=some j->∃x,xs[i]?=some x/\X.N[j]?=some x/\(X.env.scope.names.lookup x=some .cell\/X.env.scope.names.lookup x=some .free)/\((relabel scope X.env).names.lookup x=some .cell\/(relabel scope X.env).names.lookup x=some .free)
 | [],[],_=>⟨rfl,λi j e=>by simp at e⟩
 |x::xs,j::js,h=>by
  obtain⟨e,f⟩:=B6s.get h.2;refine⟨by simp[e],λi k a=>?_⟩
  cases i with
  |zero=>simp at a;subst a;exact bd x rfl h.1
  |succ i=>exact f i k (by simpa using a)
 | [],_::_,h=>h.elim
 |_::_,[],h=>h.elim
theorem AK{xs:zC}(h:B6s X scope xs js):nR X (N0++xs) scope (List.replicate N0.length none++js.map some):=by
 obtain⟨a,d⟩:=h.get;refine⟨by simp[a],λi k e=>?_⟩;by_cases hi:i<N0.length
 ·rw[nj (by simpa using hi),List.getElem?_replicate]at e;split at e<;>cases e
 ·rw[nP (by simpa using hi),List.length_replicate,iG]at e;obtain⟨j,l,c⟩:=mu.mp e;cases c;obtain⟨x,b,m,f,g⟩:=d _ _ l;exact iF x (by rw[nP (by lia)];exact b) m f g
section
variable{D:zW}
theorem rq(n:Nat)(Pv:Nat->List V->Hp->Prop)(h0:Pv 0 [] (upd H D (.lst [])))(d:∀i ys H,i<n->Pv i ys H->J.go i H)(c:∀ys H,Pv n ys H->J.stop n H)
  (hs:∀i ys H,i<n->Pv i ys H->∀x b,J.yld i H x b->g x Z₀ b λZ4 H4=>A2l Z₀ Z4/\te Z4 H4 λy a=>a D=some (.lst ys)/\ys.length<sizeLine/\Pv (i+1) (ys++[y]) (upd a D (.lst (ys++[y])))) (h:∀ys H,Pv n ys H->QD H):
  ∃W:Nat->Nat->Hp->Prop,(∃m,W 0 m (upd H D (.lst [])))/\∀i m H2,W i m H2->
   (J.stop i H2/\QD H2)\/(J.go i H2/\∃N:VK,(∀y a,N y a->∃xs,a D=some (.lst xs)/\xs.length<sizeLine/\∃f,f<m/\W (i+1) f (upd a D (.lst (xs++[y]))))/\
    ∀x b,J.yld i H2 x b->g x Z₀ b λZ4 H4=>A2l Z₀ Z4/\te Z4 H4 N):=by
 refine bd (λi m H=>m=n-i/\i<=n/\∃ys,Pv i ys H) (pZ n (by simp) (jm _) [] h0) ?_;rintro i m H2 ⟨rfl,j,ys,p⟩;by_cases hlt:i<n
 ·exact .inr (iB (d i ys H2 hlt p) (λy a=>a D=some (.lst ys)/\ys.length<sizeLine/\Pv (i+1) (ys++[y]) (upd a D (.lst (ys++[y])))) (λy a z=>(rK ys z.1 z.2.1 (n-(i+1)) (by lia) rfl hlt _ z.2.2)) λx b z=>hs i ys H2 hlt p x b z)
 ·have e:i=n:=by lia
  subst e;exact .inl ⟨c ys H2 p,h ys H2 p⟩
end
theorem zu(h:X.K=K):IxR X (uy K):=h▸iQ
theorem qW(h:X.K=K):IxR X (sD K):=h▸pf
theorem sT{b:Bool}(h:mroIn K C (.type U)=some b)(a:PySem.W.kitMeta U=true):∀u,A2b (.ty U) u->kitOne K (.ref C) u=some b:=by intro u z;cases(show u=Value.type U from z);unfold kitOne;rw[dh (show¬(Value.ref C==Value.type U)=true from ij)];show(if PySem.W.kitMeta U=true then subIn K (.ref C) (.type U)else none)=some b;rw[dn a];exact h
theorem A4u.or{k:Nat}{f:zW}(F:A4u P w K mg base CX k f fd ps sp)(h:A4u P w K mg base CX k f fd ps sp'):
  A4u P w K mg base CX k f fd ps (λvs H Q E=>sp vs H Q E\/sp' vs H Q E):=
 ⟨λvs H Q E q=>q.elim (F.len vs H Q E) (h.len vs H Q E),λA a s H b e vs Q E g d i c q=>q.elim (F.run A a s H b e vs Q E g d i c) (h.run A a s H b e vs Q E g d i c)⟩
theorem II(acc a:zJ)(w:Key×V):ip acc (a++[w])=gY (ip acc a) w.1 w.2:=by unfold ip;rw[List.foldl_append];rfl
theorem Af{k:Key}{p:Key×V}(h:p∈gY kvs k v):p∈kvs\/p=(k,v):=by
 unfold gY at h;split at h
 ·obtain⟨q,a,e⟩:=gS.mp h;split at e
  ·rename_i ek;exact .inr (by rw[<-e,ek])
  ·exact .inl (e▸a)
 ·rcases jn.mp h with h|h
  ·exact .inl h
  ·exact .inr (by simpa using h)
theorem Ab(q:X.N.Nodup)(u:X.N[i₀]?=some x₀)(w:Loc X.env.scope x₀)(U:X.calm=true)(Y:nr X scope cl)(io:nR X N' scope ix)(hi:PI X tg iter wi)
  (hg:∀C k H₀ fp,PG (blk X N' scope cl C k H₀ fp) tg g) (ht:∀C k H₀ fp,PTs (blk X N' scope cl C k H₀ fp) cs tc) (he:∀C k H₀ fp,PE (blk X N' scope cl C k H₀ fp) elt te) (R:kR->St->It->Hp->Prop) (P:∀D Z J H1,R D Z J H1->∀D2,H1 D2=none->∃W:Nat->Nat->Hp->Prop,(∃m,W 0 m (upd H1 D2 (.lst [])))/\∀i m H2,W i m H2->
   (J.stop i H2/\D.nx (Z.set i₀ (some (.ref D2))) H2)\/(J.go i H2/\∃(N:VK)(M:Hp->Prop),(∀y c,N y c->∃xs,c D2=some (.lst xs)/\xs.length<sizeLine/\∃f,f<m/\W (i+1) f (upd c D2 (.lst (xs++[y]))))/\(∀c,M c->∃f,f<m/\W (i+1) f c)/\∀x G,J.yld i H2 x G->g x (kE ix Z) G λZ4 H4=>A2l (kE ix Z) Z4/\tc Z4 H4 λb c=>if b=true then te Z4 c N else M c)) (hs:∀x,foldedSetIterable iter X.env x=pure x:=by intro _;rfl)
  (p:swapsWith (.ListComp elt [⟨tg,iter,cs,0⟩] scope pos) (some (.Name x₀ pos₀)) spos.line X.env=pure true:=by rfl) (t:X.fn x₀=true\/X.env.scope.names.lookup x₀=some .local:=by first|exact .inl rfl|exact .inr rfl|assumption):
  PS X (.Assign [.Name x₀ pos₀] (.ListComp elt [⟨tg,iter,cs,0⟩] scope pos) spos) (λD Z H=>wi Z H (R D Z)):=by
 intro l s Z H D₀ I h;rw[exec_Assign_Name_used _ _ _ _ p];refine az (pD (az ?_));show wpAny _ X.A (do let _<-comprehension (.ListComp elt [⟨tg,iter,cs,0⟩] scope pos) scope X.env _ (newList []) false (eval iter X.env) (some (assign (.Name x₀ pos₀) X.env))) _ _ s;refine az (iV (A9 (use:=some (assign (.Name x₀ pos₀) X.env)) (I.ok.hd U) Y io hi hg ht he hs (S:=λD2 H2=>D₀.nx (Z.set i₀ (some (.ref D2))) H2) (P D₀ Z) (Qf:=λ_ F=>∃Z' K,Inv X l Z' K F/\D₀.nx Z' K) (λD C c s6 x qn Q d Io=>?_) I h) (λ_ F hq=>da (da hq)) λ_ _ e=>e);have Io:=Io _ (Heap.SameBut.refl _ _);show wpAny _ X.A (assign (.Name x₀ pos₀) X.env (.ref D)) _ _ s6;refine wpAny_assign_Name (AW Io q u w (v:=.ref D) rfl (λs7 I7 B=>?_) t);obtain⟨a,O,j⟩:=B
 have ca:C≠a:=by
  rcases j with j|j
  ·rw[j];exact d.2.1
  ·exact λz=>d.2.2.2.2.1 _ _ j z.symm
 obtain⟨mm,oC,L,E,ho,r⟩:=Q;exact bd mm (jw oC L E ((O.2 _ ca).trans ho) r) λh' n=>(hZ _ c (I7.turned (t':=s7.toks) (λb o T e=>(n.2 b T).trans e) d.1 d.2.1 d.2.2.2.1 d.2.2.2.2.1 d.2.2.2.2.2) qn)
theorem vw(j:X.N.Nodup)(c:X.N[i₀]?=some x₀)(f:Loc X.env.scope x₀)(p:X.calm=true)(q:nr X scope cl)(r:nR X N' scope ix)(hi:PI X tg iter wi)
  (v:∀C d H₀ fp,PG (blk X N' scope cl C d H₀ fp) tg g) (s:∀C d H₀ fp,PE (blk X N' scope cl C d H₀ fp) elt te) (hs:∀x,foldedSetIterable iter X.env x=pure x:=by intro _;rfl)
  (e:swapsWith (.ListComp elt [⟨tg,iter,[],0⟩] scope pos) (some (.Name x₀ pos₀)) spos.line X.env=pure true:=by rfl) (k:X.fn x₀=true\/X.env.scope.names.lookup x₀=some .local:=by first|exact .inl rfl|exact .inr rfl|assumption):
  PS X (.Assign [.Name x₀ pos₀] (.ListComp elt [⟨tg,iter,[],0⟩] scope pos) spos) (qM (uO ix wi g te) (nC i₀)):=
 Ab (tc:=λ_ H Q=>Q true H) j c f p q r hi v (λ_ _ _ _ _ _ _ _ _ I h=>wpAny_tests_nil (bd _ I h)) s _ (λ_ _ _ _ R l t=>by
  obtain⟨W,y,b⟩:=R l t;refine bd W y λi m o w=>(b i m o w).imp id λ⟨u,N,n,a⟩=>(jp u N (λ_=>False) n (λ_ z=>z.elim) ?_)
  simpa using a) hs e k
theorem GR{c:yC}(i:X.N.Nodup)(d:X.N[i₀]?=some x₀)(f:Loc X.env.scope x₀)(k:X.calm=true)(m:nr X scope cl)(n:nR X N' scope ix)(hi:PI X tg iter wi)
  (p:∀C a H₀ fp,PG (blk X N' scope cl C a H₀ fp) tg g) (l:∀C a H₀ fp,PT (blk X N' scope cl C a H₀ fp) c tc) (o:∀C a H₀ fp,PE (blk X N' scope cl C a H₀ fp) elt te) (hs:∀x,foldedSetIterable iter X.env x=pure x:=by intro _;rfl)
  (e:swapsWith (.ListComp elt [⟨tg,iter,[c],0⟩] scope pos) (some (.Name x₀ pos₀)) spos.line X.env=pure true:=by rfl) (j:X.fn x₀=true\/X.env.scope.names.lookup x₀=some .local:=by first|exact .inl rfl|exact .inr rfl|assumption):
  PS X (.Assign [.Name x₀ pos₀] (.ListComp elt [⟨tg,iter,[c],0⟩] scope pos) spos) (qM (Es ix wi g tc te) (nC i₀)):=
 Ab i d f k m n hi p (λC a H₀ fp b s Z H Q I h=>wpAny_tests_one (l C a H₀ fp b s Z H Q I h)) o _ (λ_ _ _ _ R=>R) hs e j
end L2
namespace PySem.W
open PySem PySem.Spec PySem.Calls PyProof.Rows
def excInG(K:Frag)(C:zW)(i:zN)(bmB:zH)(newId:String):Bool:=match K.lookup C with
 |some ⟨.type "type",_,.cls cd,sl⟩=>(match cd.mro,sl.toList with|.ref C'::bm,[_,_,_,_,some (.builtin n),_]=>C'==C&&n==newId&& ! cd.hasDel&&tailIn K bmB bm&&nsOkIn K cd.ns&&nsIn K cd.ns "__init__"==some i|_,_=>false)
 |_=>false
end PySem.W
namespace L2
open PySem PySem.Spec PyProof.Rows
variable{yp pos p npos hpos epos:Pos}{y x qual n:Str}{w:yD}{v cd c a0:zX}{th:zW->TS}{t:TA}{suite:List Stmt}{sp:Sp}{scope:Scope}{s1 s:zY}{rest hs:List ExceptHandler}{ps N:zC}{pins:zD}{o:HO}{newId:String}{mg m:zE}{i:Nat}{h₀:ExceptHandler}{h1 h' h base B:yA}{fd:zS}{f ea a D C' C:zW}{es:zT}{e:yC}{b₀:Stmt}{bmB:zH}{b:Bool}{Z:St}{X:Cx}{Q:Unit->zY->Prop}{P:yB}{M:Model}{K:Frag}{H1 H' H:Hp}{E:XK}{A:zZ}
theorem A1h.at18(x:A1h P w H h a o):∃u,h.get? a=some u:=by
 cases o with
 |lst xs=>obtain⟨_,_,_,_,e⟩:=x;exact⟨_,e⟩
 |tup xs=>obtain⟨_,_,_,o,e,_⟩:=x;exact⟨_,e⟩
 |dK kvs=>(refine kr x λ_ _ _ _ o _ _ e _=>?_;clear x);exact⟨_,e⟩
 |dT kvs=>(refine kr x λ_ _ _ _ o _ _ e _=>?_;clear x);exact⟨_,e⟩
 |set S n=>obtain⟨o,_,_,_,e,_⟩:=x;exact⟨_,e⟩
 |ins C dx fs=>obtain⟨_,_,_,e,_⟩:=x;exact⟨_,e⟩
 |own y=>obtain⟨_,e⟩:=x;exact⟨_,e⟩
 |xd fs=>obtain⟨_,⟨_,_,_,e,_⟩,_⟩:=x;exact⟨_,e⟩
 |rng lo hi=>obtain⟨_,_,_,e⟩:=x;exact⟨_,e⟩
 |frz ob u=>obtain⟨e,_⟩:=x;exact⟨_,e⟩
 |tbl ps=>exact⟨_,(show h.get? a=some _ from x)⟩
 |met f y=>exact⟨_,(show h.get? a=some _ from x)⟩
 |ext φ=>obtain⟨_,⟨_,e⟩,_⟩:=x;exact⟨_,e⟩
theorem Ft(I:Inv X pins Z H1 s1)(F:X.ex=[])(u:Un (frs X.stack) [] H1 H' s1.heap h1)(B1:∀b o,X.s₀.heap.get? b=some o->b∉X.fs->∃o',B.get? b=some o')(r:B.StaysIn h1)(g:B.StaysIn h')(x:h1.UpToSlots h'):Un X.fs [] X.H₀ H' X.s₀.heap h':=by
 have a:Un X.fs [] X.H₀ H1 X.s₀.heap s1.heap:=by have z:=I.base;rw[F]at z;exact z
 have d:∀b:zW,b∉([]:zQ):=λb=>by simp
 have p:∀b o,X.s₀.heap.get? b=some o->b∉X.fs->b∉frs X.stack:=λb o e c m=>(gP.mp (I.stkSub b m)).elim (iy (jE (gC e) I.ok.above)) c
 have f:∀b o,X.s₀.heap.get? b=some o->X.H₀ b=none->b∈X.fs->∃s,h'.get? b=some {o with slots:=s}:=λb o e n c=>by obtain⟨s,h⟩:=a.slot b o e n c (d b);obtain⟨H,i⟩:=u.any h (a.free b o e n (d b)) (d b);obtain⟨_,J,t,A⟩:=I.ok.funs.mem c;rw[e]at t;cases t;obtain⟨l,k⟩:=x b _ i A;exact⟨l,k⟩
 refine⟨λb o e n c _=>?_,λb o e n c _=>f b o e n c,λb o e n _=>?_,λb o e _=>?_,λb w e=>u.tups b w (a.tups b w e),λb o v e=>u.frzs b o v (a.frzs b o v e),λb D e=>?_⟩
 ·have i:=u.keep b o (a.keep b o e n c (d b)) (a.free b o e n (d b)) (p b o e c) (d b);obtain⟨o',j⟩:=B1 b o e c;have k:=r b o' j;rw[i]at k;cases k;exact g b o j
 ·obtain⟨G,h⟩:=a.there b o e (d b);exact u.free b G h (a.free b o e n (d b)) (d b)
 ·by_cases c:b∈X.fs
  ·obtain⟨s,q⟩:=f b o e (I.ok.frf b c) c;exact⟨_,q⟩
  ·obtain⟨o',j⟩:=B1 b o e c;exact⟨o',g b o' j⟩
 ·obtain⟨C,h⟩:=a.tbls b D e;obtain⟨y,i⟩:=u.tbls b _ h;exact⟨C++y,by rw[i,Array.append_assoc]⟩
theorem xI(ok:HOk P w H' h1)(g:∀b o,H' b=some o->∃o',B.get? b=some o')(d:B.StaysIn h1)(c:B.StaysIn h'):HOk P w H' h':=λa o e=>
 (ok a o e).stay (λb u f q=>by
  have:∃o',B.get? b=some o':=by
   rcases f with rfl|f
   ·exact g _ _ e
   ·exact g _ _ f
  obtain⟨o',h⟩:=this;have z:=d b o' h;rw[q]at z;cases z
  exact c b u h) (λ_ q=>q) λ_ _ q=>q
section
variable{outer:List Env}
end
theorem Ck{N:zW}(X:K.In h)(G:h.Ns N m)(e:nsIn K N x=some (some v)):m x=some v:=by
 refine gW G λg f _ d a _ b=>?_;clear G;unfold nsIn at e;split at e
 case h_2=>cases e
 case h_1 _ _ row' _ _ lk=>
  have c:=X _ _ lk;rw[d]at c;cases c;cases a;split at e
  case h_2=>split at e<;>cases e
  case h_1 en found=>
   cases e
   rw[<-b];unfold nsFind findBy;rw[<-Array.find?_toList,found];rfl
theorem yS{i:zN}(X:K.In h)(q:PySem.W.excInG K C i bmB newId=true):
  ∃(nm g:Str)(N:zW)(bs bm:zH)(hdct:Bool)(sn:zC)(sub:zH)(ab:Bool)(col:Option Bool)(dd:zO)(k0 k1 k2 k3 k5:zN)(mN:zE),
   h.get? C=some (excClassObj nm g C N bs bm hdct sn sub ab col dd k0 k1 k2 k3 k5 newId)/\h.Ns N mN/\mN "__init__"=i/\OwnTail h bmB bm:=by
 cases lk:K.lookup C with
 |none=>simp[PySem.W.excInG,lk]at q
 |some ob=>
  have a:=X _ _ lk;unfold PySem.W.excInG at q;rw[lk]at q;split at q
  case h_2=>cases q
  case h_1 dct cls parts same=>
   injection same with same;subst same;split at q
   case h_2=>cases q
   case h_1 own tl p0 p1 p2 p3 made p5 along row=>
    repeat rw[rS]at q
    have f:own=C:=beq_iff_eq.mp q.1.1.1.1.1;have e:made=newId:=beq_iff_eq.mp q.1.1.1.1.2;have c:cls.hasDel=false:=by simpa using q.1.1.1.2
    have b:=beq_iff_eq.mp q.2;subst f e;have j:parts=#[p0,p1,p2,p3,some (.builtin made),p5]:=Array.toList_inj.mp row;rw[j]at a;cases cls;dsimp only at along c b q;rw[along,c]at a;have d:=Heap.Ns.of_isNs (PySem.W.isNs_of_in X q.1.2);refine jB _ _ _ _ tl _ _ (jB _ _ _ dct p0 p1 p2 (iE p3 p5 _ a d ?_ (PySem.W.tail_of_in X q.1.1.2)))
    cases i with
    |none=>exact PySem.W.nsMap_none_of_in X q.1.2 b
    |some v=>exact Ck X d b
abbrev wM:zH:=[.type "ValueError",.type "Exception",.type "BaseException",.type "object"]
abbrev Cx.held(X:Cx)(ea:zW):Cx:={X with A:=X.A.mark (some (.ref ea)),calm:=false,xe:=λ_ _=>False}
theorem Cx.Ok.held(ok:X.Ok)(ea:zW):(X.held ea).Ok :=⟨ok.mod,ok.kind,ok.glob,ok.blt,ok.above,ok.inj,ok.has,ok.cab,λz=>(by cases z),ok.frames,ok.stk,ok.exf,ok.bs,ok.bsz,ok.noex,ok.exfs,ok.funs,ok.frf⟩
theorem Inv.held(I:Inv X pins Z H s)(ea:zW):Inv (X.held ea) pins Z H s:=⟨I.ok.held ea,I.os,I.bare,I.base,I.loc,I.cell,I.free,I.freeC,I.pin,I.hok,I.len⟩
theorem Inv.unheld(I:Inv (X.held ea) pins Z H s)(ok:X.Ok):Inv X pins Z H s:=⟨ok,I.os,I.bare,I.base,I.loc,I.cell,I.free,I.freeC,I.pin,I.hok,I.len⟩
theorem tV{E:zA}(I:Inv X pins Z H s)(G:X.N.Nodup)(hi:X.N[i]?=some x)(a:X.env.scope.names.lookup x=some .local)
  (h:∀s',Inv X pins (Z.set i none) H s'->Q () s'):wpAny M A (do bindName X.env x .none;unbindBehindTheSuite X.env x pos) Q E s:=by
 refine az (wpAny_bindName (rf (v:=.non) (u:=.none) I G hi (.inl a) rfl (λs1 I1=>?_) (.inr a)));unfold unbindBehindTheSuite;refine wpAny_onRaise ?_;obtain⟨m,L,J⟩:=id I1.loc;have r:(X.env.scope.kind==.class||(X.env.scope.kind==.module&&X.env.locals != X.env.globals))=false:=by rw[I1.ok.kind];rfl
 have t:i<Z.length:=by rw[I.len];exact(gG.mp hi).1
 have l:=I1.cne;have O:X.env.kindOf x=some .local:=a;obtain⟨u,ru,hu⟩:=J i x .non hi (rR t) (.inl a)
 have T:m x=some u:=by
  rcases hu with ⟨_,e⟩|⟨k,_⟩
  ·exact e
  ·rw[O]at k;rcases k with k|k<;>cases k
 refine wpAny_unbindName_local O L T r λh' v D f=>?_;obtain⟨oL,_,_,S,_⟩:=id L;refine h _ ⟨I1.ok,I1.os,I1.bare,⟨λb o e n C a=>?_,λb o e n C a=>?_,I1.base.free,λb o e a=>?_,I1.base.tups,I1.base.frzs,I1.base.tbls⟩,(bd _ D λj y P g B Y=>?_),λy c e=>?_,I1.free,I1.freeC,λp hp=>?_,λb W e=>?_,by simpa using I.len⟩
 ·exact(f.2 b (iy (jE (gC e) I1.ok.above))).trans (I1.base.keep b o e n C a)
 ·obtain⟨sl,g⟩:=I1.base.slot b o e n C a;exact⟨sl,(f.2 b (iy (jE (gC e) I1.ok.above))).trans g⟩
 ·obtain⟨U,g⟩:=I1.base.there b o e a;exact⟨U,(f.2 b (iy (jE (gC e) I1.ok.above))).trans g⟩
 ·by_cases hj:j=i
  ·subst hj;rw[rR t]at B;cases B
  ·rw[rO (Ne.symm hj)]at B;obtain⟨u',R,q⟩:=J j y P g (by rw[rO (Ne.symm hj)];exact B) Y;refine bd u' R ?_;rcases q with ⟨k,e⟩|⟨k,c,e,z⟩
   ·refine .inl ⟨k,?_⟩;have:y≠x:=λe=>hj (vJ G g (e▸hi));simp[this,e]
   ·exact .inr (iB k c e (z.sameBut f (l y c e)))
 ·obtain⟨K,z⟩:=I1.cell y c e;exact⟨K,z.sameBut f (l y c e)⟩
 ·obtain⟨e,n,F,nf,d⟩:=I1.pin p hp;exact iT ((f.2 p.1 F).trans e) n F nf d
 ·refine(I1.hok b W e).stay (λc K w q=>(f.2 c ?_).trans q) (λ_ q=>q) λ_ _ q=>q;rintro rfl;rcases w with rfl|w
  ·rw[I1.free]at e;cases e
  ·rw[I1.free]at w;cases w
def xcF(ea C:zW):yA->Prop:=λh=>∃o a,h.get? ea=some o/\o.cls=.ref C/\o.data=.fields a
structure C8v(X:Cx)(pins:zD)(Z:St)(H1:Hp)(s1:zY)(H:Hp)(B:yA)(ea C:zW)(a0:zX)(s:zY):Prop where
 i1:Inv X pins Z H1 s1
 os:s.os=s1.os
 bare:AllBare s.gens
 un:Un (frs X.stack) [] H1 H s1.heap s.heap
 hok:HOk X.prog X.w H s.heap
 b1:∀b o,s1.heap.get? b=some o->b∉frs X.stack->∃o',B.get? b=some o'
 b2:∀b o,H b=some o->∃o',B.get? b=some o'
 fl:Heap.FlyingW B X.stack ea (.ref C) a0 s.heap
theorem C8v.new(F:C8v X pins Z H1 s1 H B ea C a0 s):s1.heap.get? ea=none:=by
 cases q:s1.heap.get? ea with
 |none=>rfl
 |some o=>
  by_cases hb:ea∈frs X.stack
  ·obtain⟨j,d⟩:=F.un.slot ea o q (F.i1.stkFree ea hb) hb (by simp);obtain⟨_,i,b,f⟩:=F.i1.stack.mem hb;rw[q]at b;cases b;obtain⟨h,e,a,_,g,_⟩:=F.fl.first;rw[d]at a;cases a;exact absurd g (f e)
  ·obtain⟨k,c⟩:=F.b1 ea o q hb;rw[F.fl.2.1]at c;cases c
theorem C8v.no(F:C8v X pins Z H1 s1 H B ea C a0 s):H ea=none:=by
 cases q:H ea with
 |none=>rfl
 |some o=>obtain⟨b,a⟩:=F.b2 ea o q;rw[F.fl.2.1]at a;cases a
theorem DU(X:K.In h)(d:xcF ea C h)(e:exmOne K (.ref C) c=some b):PySem.W.Looks M h (excMatches (.ref ea) c) b:=by
 obtain⟨o,g,f,a,_⟩:=d
 have LT:PySem.W.Looks M h (typeOf (.ref ea)) (.ref C):=by have z:PySem.W.Looks M h (typeOf (.ref ea)) o.cls:=(PySem.W.Looks.ld f).andThen .now;rw[a]at z;exact z
 exact PySem.W.exm_one X LT e
abbrev TX:=St->Hp->VK->XK->Prop
def Dg(sp:Sp)(t:TA):TX:=λZ H Q E=>t Z H λb a=>sp b a Q E
section
variable{k:Nat}
end
section
variable{tx:TX}
end
theorem D7v(d:mroIn K D (.type "BaseException")=some true)(h1:isClsIn K D=true)(h2:typeIn K (.ref D)=some (.type "type"))(c:mroIn K C (.ref D)=some b):
  exmOne K (.ref C) (.ref D)=some b:=by
 unfold exmOne;have e:subIn K (.ref D) (.type "BaseException")=some true:=d;have a:(clsIn K D).isSome=true:=h1;rw[dn (by rw[e];rfl)];show(if ((clsIn K D).isSome&&typeIn K (.ref D)==some (.type "type"))=true then subIn K (.ref C) (.ref D)else none)=some b;rw[dn (by rw[a,h2];rfl)];exact c
end L2
namespace PySem.W
open PySem PySem.Spec PySem.Calls PyProof.Rows PySem.Builtin.ObjectAttr
variable{w:yD}{v e:zX}{tk:Tok}{t:Nat}{s:zY}{prog:yB}{os:OsState}{o:Obj}{name:Str}{h:yA}{g:Array GenState}{f:Bool}{d:Drawn}{a C:zW}{R:Result->zY->Prop}{Q:Unit->zY->Prop}{M:Model}{K:Frag}{E:zA}{A:zZ}
structure XcIn(K:Frag)(C:zW):Prop where
 ga:findIn K (.ref C) "__getattribute__"=some (some (.builtin "BaseException.__getattribute__"))
 gt:findIn K (.ref C) "__getattr__"=some none
 mB:mroIn K C (.type "BaseException")=some true
 mO:mroIn K C (.type "object")=some true
 cl:findIn K (.ref C) "__class__"=some (some (.builtin "object.__class__"))
 sp:specialIn K (.builtin "object.__class__") "__get__"=some (some (.builtin "getset_descriptor.__get__"))
 tk:takesIn K (.builtin "object.__class__")=some true
def KitE(a C:zW)(h:yA):Prop:=∃o,h.get? a=some o/\o.cls=.ref C
theorem XcIn.cls(c:XcIn K C):∃cd,clsIn K C=some cd:=by obtain⟨cd,h,_⟩:=Option.bind_eq_some_iff.mp c.mB;exact⟨cd,h⟩
theorem KitE.type(p:KitE a C h):Looks M h (typeOf (.ref a)) (.ref C):=by
 obtain⟨o,c,b⟩:=p;have z:Looks M h (typeOf (.ref a)) o.cls:=(Looks.ld c).andThen .now
 rwa[b]at z
theorem yZ(X:K.In h)(c:XcIn K C)(f:h.get? a=some o)(ok:o.cls=.ref C)(i:Q () ⟨h,g,d,t,os⟩):
  wpAny M A (checkBuiltinCall "BaseException.__getattribute__" ⟨[.ref a,e],[]⟩) Q E ⟨h,g,d,t,os⟩:=by
 have b:=looks_mroIn (M:=M) X c.mB;have j:=F.args_bexc_ga (.ref a) e;simp only [checkBuiltinCall,(by decide+kernel:builtinKind "BaseException.__getattribute__"=some .slot),(by decide+kernel:splitId "BaseException.__getattribute__"=some ("BaseException","__getattribute__"))];refine az ?_;unfold isInstance
 repeat (first|(with_reducible refine np f ?_;rw[ok])|(with_reducible refine b.at ?_)|wp_step)
 exact i
theorem Ej(X:K.In h)(c:XcIn K C):Looks M h (find (.ref a) (.ref C) "__class__") (.bind (.builtin "getset_descriptor.__get__") (.builtin "object.__class__")):=
 (looks_findIn X c.cl).andThen ((show Looks M h (getOf (some (.builtin "object.__class__"))) (some (.builtin "getset_descriptor.__get__")) from looks_specialIn X c.sp).andThen
  ((show Looks M h (dataDescriptor? (some (.builtin "object.__class__")) (some (.builtin "getset_descriptor.__get__"))) (some (.builtin "getset_descriptor.__get__",.builtin "object.__class__")) from (looks_takesIn X c.tk).andThen .now).andThen (Looks.tag .now)))
theorem DG(X:K.In h)(c:XcIn K C)(e:h.get? a=some o)(ok:o.cls=.ref C)(i:R (.ok (.ret (.ref C))) ⟨h,g,d,t,os⟩):
  codeAny (model prog w) A (.call (.builtin "getset_descriptor.__get__") ⟨[.builtin "object.__class__",.ref a,.ref C],[]⟩) R ⟨h,g,d,t,os⟩:=by
 have f:(⟨h,g,d,t,os⟩:zY).TypeIs (.builtin "object.__class__") "getset_descriptor":=F.typeOf_object_class
 have b:Looks (model prog w) h (isSubtype (.ref C) (.type (".".intercalate ("object.__class__".cutAt '.').dropLast))) true:=by rw[F.owner_object_class];exact looks_mroIn X c.mO
 refine codeAny_call_builtin F.slot_gs_get.plain F.entry_gs_get (F.slot_gs_get.check _ _ _ _ _ _ _ _ f (F.args_gs_get _ _ _) ?_)
 repeat (any_goals (first|assumption|(with_reducible refine np e ?_;rw[ok])|(with_reducible refine b.at ?_)|wp_step))
 refine⟨Code.quiet_builtin _ (by decide+kernel),codeAny_builtin F.entry_object_class ?_⟩
 repeat (any_goals (first|assumption|(with_reducible refine np e ?_;rw[ok])|wp_step))
theorem FI{Q:Fin->zY->Prop}(X:K.In h)(c:XcIn K C)(b:h.get? a=some o)(ok:o.cls=.ref C)(e:Q (.done (.ret (.ref C))) ⟨h,g,d,t,os⟩):
  wpAny (model prog w) A (Builtin.«object.__getattribute__» ⟨[.ref a,.str "__class__" tk],[]⟩) Q E ⟨h,g,d,t,os⟩:=by
 have L:=Ej (M:=model prog w) (a:=a) X c;unfold Builtin.«object.__getattribute__»
 repeat (any_goals (first|assumption|(with_reducible refine L.at ?_)|(with_reducible refine np b ?_;rw[ok])|wp_step))
 refine DG X c b ok ?_
 repeat (any_goals (first|assumption|wp_step))
theorem xk{e:Bool}{Q:zA}(X:K.In h)(c:XcIn K C)(i:h.get? a=some o)(ok:o.cls=.ref C)
  (j:∀(A:zZ)(R:Result->zY->Prop),R (.ok (.ret v)) ⟨h,g,d,t,os⟩->codeAny (model prog w) A (.call (.builtin "BaseException.__getattribute__") ⟨[.ref a,.str name tk],[]⟩) R ⟨h,g,d,t,os⟩) (l:handedIn v=true) (m:Q v ⟨h,g,d,t,os⟩):
  wpAny (model prog w) A (getAttrBy (.ref a) (.str name tk) f e) Q E ⟨h,g,d,t,os⟩:=by
 have b:=F.attr_ValueError.ga.bind (.ref a);have L1:=looks_findIn (M:=model prog w) X c.ga;have L2:=looks_findIn (M:=model prog w) X c.gt;have k:(Value.builtin "BaseException.__getattribute__"==Value.builtin "object.__getattribute__")=false:=by decide+kernel
 have n:(onTheHeap (Value.ref C)&&Value.builtin "BaseException.__getattribute__"==Value.builtin "object.__getattribute__")=false:=by simp[k]
 have p:(e&&onTheHeap (Value.builtin "BaseException.__getattribute__"))=false:=Bool.and_eq_false_iff.mpr (.inr rfl)
 repeat (any_goals (first|assumption|(with_reducible refine np i ?_;rw[ok])|(with_reducible refine L1.at ?_)|(with_reducible refine L2.at ?_)|wp_step))
 refine j _ _ ?_
 repeat (any_goals (first|assumption|wp_step))
 show wpAny _ _ (handedOut v) _ _ _;rw[handedOut_of l];exact da m
theorem FC{Q:zN->zY->Prop}(X:K.In s.heap)(c:XcIn K C)(p:KitE a C s.heap)(k:Q (some (.ref C)) {s with toks:=s.toks+1}):wpAny (model prog w) A (getAttr? (.ref a) "__class__") Q E s:=by
 obtain⟨o,b,e⟩:=p;obtain⟨h,g,d,t,f⟩:=s;unfold getAttr? getAttrBy?
 have B:∀{A:zZ}{E:zA}{Q:zA},Q (.ref C) ⟨h,g,d,t+1,f⟩->wpAny (model prog w) A (getAttrBy (.ref a) (.str "__class__" t) false) Q E ⟨h,g,d,t+1,f⟩:=λ{A E Q} i=>xk X c b e (λA R j=>codeAny_call_builtin F.attr_ValueError.ga.plain F.entry_bexc_ga (yZ X c b e (FI X c b e j))) rfl i
 repeat (any_goals (first|assumption|with_reducible apply B|wp_step))
theorem kitx_exc(c:XcIn K C):KitX K (.ref a) (.ref C) (KitE a C) where
 ty:=λ_ _ _ p=>p.type
 it:=λ_ _ X _=>by
  obtain⟨d,e⟩:=c.cls;intro A Q E s k q;unfold clsIn at e;split at e
  case h_1 there=>exact az (wpAny_loadPart (k _ _ (X _ _ there)) (da q))
  case h_2=>cases e
 ne:=λh i g f n j X b=>by
  obtain⟨d,e⟩:=c.cls;rw[Bool.eq_false_iff];intro q;cases beq_iff_eq.mp q;unfold clsIn at e;split at e
  case h_1 there=>cases(X _ _ there).symm.trans b
  case h_2=>cases e
 ca:=λX p k=>FC X c p k
end PySem.W
namespace L2
open PySem PySem.Spec PyProof.Rows
variable{z l2 l1 i2 i1 f d c b a N C:zW}{value i e:yC}{u:zX}{ty tv to td:TE}{tpos pos' pos p2 p1 l cpos apos:Pos}{ta:TA}{t' t n:Nat}{sub bmN bmB bm:zH}{st2 st1:Nat->yA->Prop}{src2 src1:zG->yA->Prop}{sn:zC}{sh:List Bool}{s:zY}{r:V->List V->Hp->VK->Prop}{q nm name:Str}{prog P:yB}{w:yD}{pins:zD}{os:OsState}{nid newId initId inN Bn B:String}{k5 k3 k2 k1 k0:zN}{j:Obj}{hdct ab:Bool}{h:yA}{g:Array GenState}{es:zT}{dd:zO}{col:Option Bool}{Z:St}{X:Cx}{H' H:Hp}{E:zA}{A:zZ}
variable{a b:zW}{Q:zN->zY->Prop}{p:nc}{o:Obj}{xs:List (gz×zW×zX)}{ys:zG}{h h':yA}{s:zY}{sl:zF}{v:zX}{ks:zU}{H:Hp}{kas:List (gz×zW×V)}{kvs:List (gz×V)}{sh:List Bool}{mN:zE}{rest:zH}
def CU(X:Cx)(t:TE):TE:=λZ H Q=>t Z H λv c=>∃a o b,c a=some (.frz o (.dK b))/\(∀e d,X.H₀ a≠some (.frz e d))/\Q v (upd c a (.dK b))
theorem FY{t:TE}(h:PE X e t):PE X e (CU X t):=λb s Z H Q I q=>thn (h b s Z H _ I q) (by (rintro u k d;refine oy d ?_;clear d;rintro v l I1 g a o c ⟨j,f,i⟩);exact eu v _ (I1.thaw j ⟨c,rfl⟩ f) g i)
abbrev pL(h:yA)(z TI TO:zW)(a:zX)(b:Bool):Prop :=h.get? z=some {cls:=.type "zip",dict:=none,data:=.fields #[a,.bool b,.bool false,.ref TI,.ref TO],slots:=#[]}
theorem IV{Q:Option Obj->zY->Prop}(h:Q (s.heap.get? a) s):wpAny (model prog w) A (loadIfAlive a) Q E s:=λΓ p _=>by show PySem.Sem.wp _ Γ (.loadIfAlive a .pure) _ _ p s;rw[PySem.Sem.wp];exact h
theorem BC{TI TO p:zW}{b:Bool}{Q:Bool->zY->Prop}(a:pL s.heap z TI TO (rawInt (p:Int)) b)(e:s.heap.get? p=some o)
  (q:∀h',pL h' z TI TO (rawInt (p:Int)) true->Heap.SameBut z s.heap h'->Q false {s with heap:=h'}):wpAny (model prog w) A (Builtin.SmallTypes.ownedTupleIsFree (.ref z)) Q E s:=by
 unfold Builtin.SmallTypes.ownedTupleIsFree;refine az (iO a rfl (x:=rawInt (p:Int)) rfl ?_);show wpAny _ _ (loadIfAlive (Int.toNat (p:Int))>>=_) _ _ _;refine az (IV ?_);rw[Int.toNat_natCast,e];show wpAny _ _ (field (.ref z) 1>>=_) _ _ _;refine az (iO a rfl (x:=.bool b) rfl ?_)
 cases b with
 |true=>show wpAny _ _ (pure false) _ _ _;exact da (q s.heap a ⟨rfl,λ_ _=>rfl⟩)
 |false=>show wpAny _ _ (setField (.ref z) 1 (.bool true)>>=_) _ _ _;refine az (kA a (by simp) λc d f=>?_);exact da (q c d f)
section
variable{TI TO:zW}
theorem FW(N1:Nx i1 l1 st1 src1)(N2:Nx i2 l2 st2 src2){k1 k2:Nat}{xs:zG}{x y:zX}{p:zW}{b:Bool}(D:ZipApart z TI TO i1 i2 l1 l2)
  (g:pL s.heap z TI TO (rawInt (p:Int)) b) (I:s.heap.get? p=some o) (n:IsPair s.heap TI (.ref i1) (.ref i2)) (h1:st1 k1 s.heap) (h2:st2 k2 s.heap) (l:src1 xs s.heap) (k:src2 ys s.heap) (G:xs[k1]?=some x) (C:ys[k2]?=some y)
  (J:∀h',pL h' z TI TO (rawInt (p:Int)) true->st1 (k1+1) h'->st2 (k2+1) h'->IsPair h' s.heap.objs.size x y->
   (∀c o,c≠z->c≠i1->c≠i2->s.heap.get? c=some o->h'.get? c=some o)->Q (some (.ref s.heap.objs.size)) {s with heap:=h'}):wpAny (model prog w) A (pyNext (.ref z)) Q E s:=by
 have r:s.TypeIs (.ref z) "zip":=(bd _ g rfl);unfold pyNext;refine az (wpAny_attempt (lT (name:=Str.ofString "__next__") r F.slot_zip_next (jD F.slot_zip_next r F.entry_zip_next ?_ (F.args_zip_next_1 _))));show wpAny _ _ (field (.ref z) 2>>=_) _ _ _;refine az (iO g rfl (x:=.bool false) rfl ?_);show wpAny _ _ (field (.ref z) 3>>=_) _ _ _;refine az (iO g rfl (x:=.ref TI) rfl ?_);refine az (jY n rfl ?_);show wpAny _ _ (Builtin.SmallTypes.ownedTupleIsFree (.ref z)>>=_) _ _ _;refine az (BC g I λM t d=>?_);simp only [Bool.false_eq_true,if_false];refine az ?_;simp only [<-Array.forIn_toList,List.forIn_cons,List.forIn_nil];refine az (az (jS ?_));show wpAny _ _ (Builtin.SmallTypes.nextOf (.ref i1)>>=_) _ _ _;refine az (N1.item (N1.mv h1 λo e=>d.extBut _ _ D.i1z e) (N1.mvS l λo e=>d.extBut _ _ D.l1z e) G λN u f=>da (da ?_));refine az (az (jS ?_));show wpAny _ _ (Builtin.SmallTypes.nextOf (.ref i2)>>=_) _ _ _;refine az (N2.item (N2.mv h2 λo e=>f.extBut _ _ D.i12.symm (d.extBut _ _ D.i2z e)) (N2.mvS k λo e=>f.extBut _ _ D.l2i1 (d.extBut _ _ D.l2z e)) C λg3 K h=>da (da (da ?_)));have a:g3.objs.size=s.heap.objs.size:=by rw[h.1,f.1,d.1]
 have v:z<g3.objs.size:=by rw[a];exact gC g
 show wpAny _ _ (newTuple [x,y]>>=_) _ _ _;refine az (wpAny_newTuple ?_);have B:pL g3 z TI TO (rawInt (p:Int)) true:=h.extBut _ _ D.i2z.symm (f.extBut _ _ D.i1z.symm t);have L:∀c o,c≠z->c≠i1->c≠i2->s.heap.get? c=some o->g3.get? c=some o:=λc o i j m e=>h.extBut _ _ m (f.extBut _ _ j (d.extBut _ _ i e));have H:st1 (k1+1) g3:=N1.mv u λo e=>h.extBut _ _ D.i12 e;have q:IsPair (g3.push {cls:=.type "tuple",data:=.seq #[x,y]}) g3.objs.size x y:=hU _ rfl;rw[a]at q;refine da (bd _ rfl (da ?_));show Q (some (.ref g3.objs.size)) _;rw[a];exact J _ (fy _ B) (N1.mv H λo e=>fy _ e) (N2.mv K λo e=>fy _ e) q λc o i j m e=>fy _ (L c o i j m e)
theorem EN(N1:Nx i1 l1 st1 src1)(N2:Nx i2 l2 st2 src2){k1 k2:Nat}{xs:zG}{p:zW}{b:Bool}(y:A.handled=none)(D:ZipApart z TI TO i1 i2 l1 l2)
  (i:pL s.heap z TI TO (rawInt (p:Int)) b) (M:s.heap.get? p=some o) (q:IsPair s.heap TI (.ref i1) (.ref i2)) (h1:st1 k1 s.heap) (h2:st2 k2 s.heap) (m:src1 xs s.heap) (l:src2 ys s.heap) (g:xs[k1]?=none\/ys[k2]?=none)
  (G:∀h',(∀c o,c≠z->c≠i1->c≠i2->s.heap.get? c=some o->h'.get? c=some o)->Q none {s with heap:=h'}):wpAny (model prog w) A (pyNext (.ref z)) Q E s:=by
 have v:s.TypeIs (.ref z) "zip":=(bd _ i rfl);unfold pyNext
 have f:∀(h':yA)(e:zW),(∀c o,c≠z->c≠i1->c≠i2->s.heap.get? c=some o->h'.get? c=some o)->(∃o,h'.get? e=some o/\o.cls=.type "StopIteration")->
   wpAny (model prog w) A (isInstance (.ref e) (.type "StopIteration")>>=λb=>if b=true then pure none else throw (.ref e)) Q E {s with heap:=h'}:=λh' e K ⟨o,I,C⟩=>
  az (wpAny_isInstance (T:="StopIteration") (b:=true) (bd o I C) isSubtype_stop (da (G _ K)))
 refine az (wpAny_attempt (lT (name:=Str.ofString "__next__") v F.slot_zip_next (jD F.slot_zip_next v F.entry_zip_next ?_ (F.args_zip_next_1 _))));show wpAny _ _ (field (.ref z) 2>>=_) _ _ _;refine az (iO i rfl (x:=.bool false) rfl ?_);show wpAny _ _ (field (.ref z) 3>>=_) _ _ _;refine az (iO i rfl (x:=.ref TI) rfl ?_);refine az (jY q rfl ?_);show wpAny _ _ (Builtin.SmallTypes.ownedTupleIsFree (.ref z)>>=_) _ _ _;refine az (BC i M λP N a=>?_);simp only [Bool.false_eq_true,if_false];refine az ?_;simp only [<-Array.forIn_toList,List.forIn_cons,List.forIn_nil];refine az (az (jS ?_));show wpAny _ _ (Builtin.SmallTypes.nextOf (.ref i1)>>=_) _ _ _;have u:=N1.mv h1 λo e=>a.extBut _ _ D.i1z e;have r:=N1.mvS m λo e=>a.extBut _ _ D.l1z e
 cases hx:xs[k1]? with
 |none=>refine az (N1.fin y u r hx λt e d n=>?_);exact f t e (λc o k j _ x=>d _ _ j (a.extBut _ _ k x)) n
 |some x=>
  have J:ys[k2]?=none:=by
   rcases g with h|h
   ·rw[hx]at h;cases h
   ·exact h
  refine az (N1.item u r hx λt O d=>da (da ?_));refine az (az (jS ?_));show wpAny _ _ (Builtin.SmallTypes.nextOf (.ref i2)>>=_) _ _ _;refine az (N2.fin y (N2.mv h2 λo e=>d.extBut _ _ D.i12.symm (a.extBut _ _ D.i2z e)) (N2.mvS l λo e=>d.extBut _ _ D.l2i1 (a.extBut _ _ D.l2z e)) J λH e B n=>?_);exact f H e (λc o k j L x=>B _ _ L (d.extBut _ _ j (a.extBut _ _ k x))) n
end
def ZS(z TI TO i1 i2 a b d:zW)(i:Nat)(h:yA):Prop:=IsPair h TI (.ref i1) (.ref i2)/\h.IsListIter i1 a i/\h.IsTupleIter i2 b i/\
 ((IsZip h z TI TO .none/\∃u v,IsPair h TO u v)\/∃(p:zW)(o:Obj)(c:Bool),pL h z TI TO (rawInt (p:Int)) c/\h.get? p=some o/\p≠z/\p≠i1/\p≠i2/\p≠d)
theorem ZS.at{TI TO:zW}{i:Nat}(x:ZS z TI TO i1 i2 a b d i h)(l:z≠d)(t:TI≠d)(n:TO≠d)(s:i1≠d)(m:i2≠d)(f:∀c o,c≠d->h.get? c=some o->h'.get? c=some o):ZS z TI TO i1 i2 a b d i h':=by
 obtain⟨q,A,y,g⟩:=x;refine jx (f _ _ t q) ((pN i1 a).mv A λo e=>f _ _ s e) ((pR i2 b).mv y λo e=>f _ _ m e) ?_;rcases g with ⟨g,u,v,j⟩|⟨p,o,w,g,j,C,B,r,k⟩
 ·exact .inl ⟨f _ _ l g,(iA u v (f _ _ n j))⟩
 ·exact .inr (ox p o w (f _ _ l g) (f _ _ k j) C B r k)
section
variable{TI TO:zW}
theorem DX{i:Nat}{xs:zG}{x y:zX}(D:ZipApart z TI TO i1 i2 a b)(ld:d<s.heap.objs.size)(R:ZS z TI TO i1 i2 a b d i s.heap)(C:s.heap.IsList a xs)(H:s.heap.IsTuple b ys)(J:xs[i]?=some x)(I:ys[i]?=some y)
  (B:∀h',ZS z TI TO i1 i2 a b d (i+1) h'->IsPair h' s.heap.objs.size x y->(∀c o,c≠z->c≠TO->c≠i1->c≠i2->s.heap.get? c=some o->h'.get? c=some o)->Q (some (.ref s.heap.objs.size)) {s with heap:=h'}):
  wpAny (model prog w) A (pyNext (.ref z)) Q E s:=by
 obtain⟨h,q,m,f⟩:=R;have K:i1<s.heap.objs.size:=let⟨_,e,_⟩:=(pN i1 a).ob q;gC e;have M:i2<s.heap.objs.size:=let⟨_,e,_⟩:=(pR i2 b).ob m;gC e;rcases f with ⟨f,u,v,k⟩|⟨p,o,U,f,k,G,t,F,P⟩
 ·have N:z<s.heap.objs.size:=gC f;refine Ar (pN i1 a) (pR i2 b) D f h k q m C H J I λh' l T r n j g=>?_;exact B h' (jx (g _ _ D.TIz D.TITO D.TIi1 D.TIi2 h) r n (.inr (ox s.heap.objs.size _ false l j (jC N) (jC K) (jC M) (jC ld)))) j g
 ·refine FW (pN i1 a) (pR i2 b) D f k h q m C H J I λh' l r n j g=>?_;exact B h' (jx (g _ _ D.TIz D.TIi1 D.TIi2 h) r n (.inr (ox p o true l (g _ _ G t F k) G t F P))) j λc o O _ L S e=>g c o O L S e
theorem Dc{i:Nat}{xs:zG}(q:A.handled=none)(D:ZipApart z TI TO i1 i2 a b)(y:ZS z TI TO i1 i2 a b d i s.heap)(h:s.heap.IsList a xs)(m:s.heap.IsTuple b ys)(n:xs[i]?=none\/ys[i]?=none)
  (r:∀h',(∀c o,c≠z->c≠TO->c≠i1->c≠i2->s.heap.get? c=some o->h'.get? c=some o)->Q none {s with heap:=h'}):wpAny (model prog w) A (pyNext (.ref z)) Q E s:=by
 obtain⟨j,l,k,f⟩:=y;rcases f with ⟨f,u,v,g⟩|⟨p,o,G,f,g,I,H,F,J⟩
 ·exact Ao (e:=none) (q1:=true) (q2:=false) q (λ_ z=>nomatch z) D f j g l k h m n r
 ·exact EN (pN i1 a) (pR i2 b) q D f g j l k h m n λh' C=>r h' λc o t _ x B e=>C c o t x B e
end
section
variable{prog:yB}{w:yD}{K:Type}[DecidableEq K]{knd:KeyKind prog w K}{A:zZ}{R:Result->zY->Prop}{z TI TO i1 i2 a b d:zW}{xs ys:zG}{rs:List (K×zX)}{h₀:yA}{g:Array GenState}{dr:Drawn}{os:OsState}
theorem Hf(hh:A.handled=none)(D:ZipApart z TI TO i1 i2 a b)(O:z≠d)(n1:TI≠d)(Q:TO≠d)(W:i1≠d)(L:i2≠d)(na:a≠d)(nb:b≠d)(hsz:rs.length<=sizeLine)
  (pa:∀(i:Nat)(k:K)(u:zX),rs[i]?=some (k,u)->∃n,xs[i]?=some n/\ys[i]?=some u/\knd.is k n=true) (he:xs[rs.length]?=none\/ys[rs.length]?=none) (hl:h₀.IsList a xs) (ht:h₀.IsTuple b ys) (v:a≠TO) (a1:a≠i1) (Y:a≠i2) (E:a≠z) (C:b≠TO) (b1:b≠i1) (X:b≠i2) (bz:b≠z)
  (P:∀h' tk,h'.DictOf knd d (merged [] rs)->(∀c o,c≠z->c≠TO->c≠i1->c≠i2->c≠d->h₀.get? c=some o->h'.get? c=some o)->R (.ok (.ret .none)) ⟨h',g,dr,tk,os⟩):
  ∀(k i:Nat)(h:yA)(tk:Nat),rs.length-i=k->i<=rs.length->ZS z TI TO i1 i2 a b d i h->(∀c o,c≠z->c≠TO->c≠i1->c≠i2->c≠d->h₀.get? c=some o->h.get? c=some o)->h.DictOf knd d (merged [] (rs.take i))->
   codeAny (model prog w) A (.builtin "dict.update.loop" ⟨[.ref d,.ref z,rawInt i,.none],[]⟩) R ⟨h,g,dr,tk,os⟩:=by
 intro k
 induction k with
 |zero=>
  intro i h tk hk hi l m x;have j:i=rs.length:=by lia
  refine codeAny_builtin BZ ?_;rw[Around.under_plainId uh _];show wpAny _ A.in1 (pyNext (.ref z)>>=_) _ _ _;refine az (Dc (s:=⟨h,g,dr,tk,os⟩) (by simpa using hh) D l (hl.at λo e=>m a o E v a1 Y na e) (let⟨o,e,r⟩:=ht;(bd o (m b o bz C b1 X nb e) r)) (by rw[j];exact he) λh' f=>?_);show wpAny _ A.in1 (Builtin.Dict.addKeywords d []>>=λ_=>ret Value.none) _ _ _;rw[j,iY]at x;obtain⟨H,M,N,T,r⟩:=x;exact az (da (da (P h' tk (jw H M N (f d H O.symm Q.symm W.symm L.symm T) r) λc o B q t G J e=>f c o B q t G (m c o B q t G J e))))
 |succ k ih=>
  intro i h tk hk hi l m x;have a0:i<rs.length:=by lia
  obtain⟨⟨k',u⟩,hku⟩:∃p,rs[i]?=some p:=⟨rs[i],gM _⟩;obtain⟨n,hx,hy,U⟩:=pa i k' u hku;refine codeAny_builtin BZ ?_;rw[Around.under_plainId uh _];show wpAny _ A.in1 (pyNext (.ref z)>>=_) _ _ _;have ld:d<h.objs.size:=let⟨_,_,_,e,_⟩:=x;gC e;refine az (DX (s:=⟨h,g,dr,tk,os⟩) D ld l (hl.at λo e=>m a o E v a1 Y na e) (let⟨o,e,r⟩:=ht;(bd o (m b o bz C b1 X nb e) r)) hx hy λh' zs I f=>?_);have I:IsPair h' h.objs.size n u:=I;have hT:(⟨h',g,dr,tk,os⟩:zY).TypeIs (.ref h.objs.size) "tuple":=(bd _ I rfl);show wpAny _ A.in1 (holding [Value.ref h.objs.size] _>>=_) _ _ _;refine az (jS (az (wpAny_tryCatch ?_)));unfold Builtin.Dict.pairItems;refine az (wpAny_typeOf hT ?_);rw[dn (by decide)];refine az (jY I rfl (da ?_));show wpAny _ A.in1 (holding [n,u] (dictSet d n u)) _ _ _
  have S:h'.DictOf knd d (merged [] (rs.take i)):=by obtain⟨H,M,N,T,r⟩:=x;exact jw H M N (f d H O.symm Q.symm W.symm L.symm T) r
  have y:(merged [] (rs.take i)).length<=sizeLine:=by
   have e1:=merged_length_le ([]:List (K×zX)) (rs.take i);have e2:(rs.take i).length<=rs.length:=by rw[jf];lia
   simp only [mQ,Nat.zero_add]at e1
   lia
  refine jS (wpAny_dictSet_pairs (hsz:=y) (s:=⟨h',g,dr,tk,os⟩) U S λh2 F Z=>?_);rw[<-merged_take_succ [] rs i (k',u) hku]at F;refine da ⟨plainId_quiet uh _,ih (i+1) h2 _ (by lia) (by lia) (zs.at O n1 Q W L λc o hc e=>(Z.2 c hc).trans e) ?_ F⟩;intro c oc B q t G J e;exact(Z.2 c J).trans (f c oc B q t G (m c oc B q t G J e))
end
theorem KC:typeLookup (.type "zip") "__getattr__"=pure none:=by rw[typeLookup_type,builtinLookup_eq_fast];kernel_rfl
theorem KE:entryFor table "zip.__getattribute__"=some Builtin.«object.__getattribute__» :=entryFor_alias (id':="object.__getattribute__") (by kernel_rfl) (by decide+kernel) (by decide+kernel) (by kernel_rfl)
theorem HZ:typeLookup (.type "zip") "keys"=pure none:=by rw[typeLookup_type,builtinLookup_eq_fast];kernel_rfl
theorem Ka(a:zW)(fs:zG)(sl:zF)(name:Str)(u:Tok)(e:typeLookup (.type "zip") name=pure none)(b:(["__module__","__name__","__qualname__","__doc__","__annotations__"]:zC).contains name=false)(hsz:name.length+100<=sizeLine:=by size_fits):
  Meets (Builtin.«object.__getattribute__» ⟨[.ref a,.str name u],[]⟩) (λA R s=>s.heap.get? a=some {cls:=.type "zip",dict:=none,data:=.fields fs,slots:=sl}/\raisesAttr (.ref a) name A R s):=
 Meets.of_wp λf w A R s c=>by
  obtain⟨j,g,d,i,k⟩:=s;obtain⟨h,c⟩:=c;have l:(⟨j,g,d,i,k⟩:zY).TypeIs (.ref a) "zip":=(bd _ h rfl);unfold Builtin.«object.__getattribute__»
  repeat (any_goals (first|assumption|wp_step))
  simp only [b,Bool.false_eq_true,if_false]
  repeat (any_goals (first|assumption|wp_step))
  exact wpAny_raiseAttrError c.1 c.2 (attrMsg_fits (by decide+kernel) hsz)
theorem HD{fs:zG}
  (j:s.heap.get? a=some {cls:=.type "zip",dict:=none,data:=.fields fs,slots:=sl}) (l:A.handled=none)
  (h:∀h' tk,(∀b i,s.heap.get? b=some i->h'.get? b=some i)->Q none {s with heap:=h',toks:=tk}):wpAny (model prog w) A (getAttr? (.ref a) "keys") Q E s:=by
 obtain⟨m,g,d,tk,n⟩:=s;have k:∀f,(⟨m,g,d,f,n⟩:zY).TypeIs (.ref a) "zip":=λ_=>(bd _ j rfl);have u:=sub_AttributeError;have r:=F.slot_zip_getattribute.lookup;have o:=F.slot_zip_getattribute.bind (.ref a);have t:=KC;unfold getAttr? getAttrBy? getAttrBy
 repeat (any_goals (first|assumption|exact k _|((with_reducible show wpAny _ _ (call (Value.builtin "zip.__getattribute__") _ _) _ _ _);refine call_meets F.slot_zip_getattribute (k _) KE (F.args_zip_getattribute_2 _ _) (Ka a fs sl "keys" _ HZ (by decide) (by decide)) (fI j l λh' f e c=>?_))|wp_step))
 obtain⟨p,q,v⟩:=c.there;show wpAny _ _ (getattributeRaised _ _ _ _ _ _ _) _ _ _;unfold getattributeRaised
 repeat (any_goals (first|assumption|wp_step))
 all_goals exact h _ _ c.1
def tDZ(K:Frag)(ta:TA):TE:=λZ H Q=>ta Z H λd a=>∃l t b c,d=[.ref l,.ref t]/\SqL K a l ((b:zU).map kV)/\SqT K a t c/\b.length=c.length/\∀p,a p=none->Q (.ref p) (upd a p (.dK (ip [] (b.zip c))))
theorem xV:∀{ks:zU}{us:zM}{vs:zH},ks.length=us.length->A2k us vs->KV (ks.zip us) (ks.zip vs)| [],[],_,_,.nil=>.nil|k::ks,u::us,_,h,.cons r t=>.cons ⟨rfl,r⟩ (xV (by simpa using h) t)
theorem yY{P:yB}{w:yD}:∀{ks:zU}{its:zH},A2k (ks.map kV) its->∀{i:Nat}{k:Key},ks[i]?=some k->∃v,its[i]?=some v/\(ig P w).is k v=true| [],_,.nil,i,k,h=>by simp at h|_::_,_,.cons r t,0,k,h=>by simp at h;subst h;exact bd _ rfl (pH r)|_::_,_,.cons r t,i+1,k,h=>by obtain⟨v,b,a⟩:=yY (P:=P) (w:=w) t (i:=i) (k:=k) (by simpa using h);exact bd v (by simpa using b) a
theorem HE{a b:yC}{v:Pos}(hc:X.calm=true)(b0:Gl X "dict")(a4:X.mg "dict"=none)(b2:Gl X "zip")(b3:X.mg "zip"=none)(ha:PA X [a,b] ta)
  (N:starEach [.Call (.Name "zip" p2) [a,b] [] l] X.env=(false,eval (.Call (.Name "zip" p2) [a,b] [] l) X.env)::starEach [] X.env:=by rfl)
  (hs:starEach [a,b] X.env=[(false,eval a X.env),(false,eval b X.env)]:=by rfl) (T:starEach [b] X.env=[(false,eval b X.env)]:=by rfl):
  PE X (.Call (.Name "dict" p1) [.Call (.Name "zip" p2) [a,b] [] l] [] v) (tDZ X.K ta):=by
 intro O s Z H Q I h;have hh:X.A.handled=none:=I.ok.hd hc;refine wpAny_Call_Name_kw (nF I b0 a4 boot_dict ?_);refine PyProof.Rows.callWith_type1 ?_ N (by rfl);rw[N];show wpAny _ _ (spliced ((false,eval _ X.env)::backTo v (starEach [] X.env))) _ _ s;refine Calls.spliced_cons ?_;refine Call_ (nF I b2 b3 boot_zip (PyProof.Rows.callWith_type1 (thn (ha l O s Z H _ I h) ?_) (by rw[hs,T]) (by rw[T];rfl)));rintro us d ⟨vs,H1,I1,r1,x⟩;refine jM x λl1 l2 p ws e b4 a7 a1 q=>?_;clear x;subst e;obtain⟨u,u2,rfl,ru,Y⟩:=qr r1;cases ru;cases Y;obtain⟨a9,rv,y,zk⟩:=I1.list b4;obtain⟨f,S,C,_⟩:=I1.tuple a7;have L:l1<d.heap.objs.size:=let⟨_,e,_⟩:=y.isList;gC e;have J:l2<d.heap.objs.size:=C.lt;have e1:=rv.length;have e2:=S.length;rw[dm]at e1;have hn:=I1.hok.fresh (fa d.heap.objs.size);refine IL y.isList (show d.heap.IsTuple l2 f.toArray from C) λj zs kp=>Calls.spliced_nil ?_;obtain⟨hz,a5,⟨tu,tv,E⟩,a2,a8⟩:=zs;have D:=zipApart_new L J;have lz:d.heap.objs.size+4<j.objs.size:=gC hz;refine callType_codes (Q₁:=λR s₁=>R=.ref j.objs.size/\s₁={d with heap:=j.push {cls:=.type "dict",data:=.dict #[]}}) F.kt_called_dict (F.kt_typeCall_dict_1 _) F.entry_dict_init (kt_code_dict_new (s:={d with heap:=j}) _ ⟨rfl,rfl⟩) ?_;rintro R s₁ ⟨rfl,rfl⟩;have n:(j.push {cls:=.type "dict",data:=.dict #[]}).DictOf (ig X.prog X.w) j.objs.size []:=Heap.DictOf.new j;have W:(j.push {cls:=.type "dict",data:=.dict #[]}).get? (d.heap.objs.size+4)=some _:=fy _ hz;have a3:Shared.TypeIs {d with heap:=j.push {cls:=.type "dict",data:=.dict #[]}} (.ref (d.heap.objs.size+4)) "zip":=(bd _ W rfl);refine fI n.typeIs (F.args_dict_init_2 _ _) ?_;unfold Builtin.«dict.__init__»;refine az ?_;unfold Builtin.Dict.selfAndRest;refine az (wpAny_notOrdered_dict n.typeIs ?_);show wpAny _ _ (pure (j.objs.size,[Value.ref (d.heap.objs.size+4)])) _ _ _;refine da ?_;show wpAny _ _ (Builtin.Dict.updateFrom "dict.__init__" j.objs.size (.ref (d.heap.objs.size+4)) [] .none) _ _ _;unfold Builtin.Dict.updateFrom;refine az (wpAny_typeOf a3 ?_);rw[dn (by decide)];refine az (HD W (by simpa using hh) λU a0 B=>?_)
 rw[dn (show(none:zN).isNone=true from rfl)];refine az (wpAny_rule ?_);refine az (wpAny_pyIter_zip (s:={d with heap:=U,toks:=a0}) (B _ _ W) ?_);have t:∀c o,j.get? c=some o->U.get? c=some o:=λc o e=>B _ _ (fy _ e)
 have lr:(p.zip f).length=p.length:=by rw[List.length_zip];lia
 have x:∀i:Nat,i<=4->d.heap.objs.size+i≠j.objs.size:=λi hi z=>by lia
 have q2:∀c:Nat,c<d.heap.objs.size->c≠j.objs.size:=λc hc z=>by lia
 have m:∀c i:Nat,c<d.heap.objs.size->c≠d.heap.objs.size+i:=λc i hc z=>by lia
 have G:d.heap.objs.size<=j.objs.size:=by lia
 have z1:p.length<=sizeLine:=by rw[dm]at zk;exact zk
 refine da ⟨plainId_quiet uh _,Hf (knd:=ig X.prog X.w) (rs:=p.zip f) (xs:=a9.toArray) (ys:=f.toArray) (h₀:=U) (by simpa using hh) D (x 4 (by decide)) (x 2 (by decide)) (x 3 (by decide)) (x 0 (by decide)) (x 1 (by decide)) (q2 _ L) (q2 _ J) (by rw[lr];exact z1) (λi k u hr=>?_) ?_ (y.isList.at λo e=>t _ _ (kp _ _ e)) (let⟨o,e,r⟩:=C;(bd o (t _ _ (kp _ _ e)) r)) (m _ 3 L) (m _ 0 L) (m _ 1 L) (m _ 4 L) (m _ 3 J) (m _ 0 J) (m _ 1 J) (m _ 4 J) (λh2 tk dd b1=>?_) (p.zip f).length 0 U _ (by lia) (jm _) (jx (t _ _ a5) ((pN _ l1).mv a2 λo e=>t _ _ e) ((pR _ l2).mv a8 λo e=>t _ _ e) (.inl ⟨t _ _ hz,(iA tu tv (t _ _ E))⟩)) (λ_ _ _ _ _ _ _ z=>z) ?_⟩
 ·obtain⟨g1,g2⟩:=qJ.mp hr;obtain⟨kv,g3,g4⟩:=yY (P:=X.prog) (w:=X.w) rv g1;exact eh kv (by simpa using g3) (by simpa using g2) g4
 ·left;rw[lr];simp
  lia
 ·have kv:=xV a1 S;refine jp rfl (.ref j.objs.size) _ (I1.laid (t':=tk) (o:=.dK (ip [] (p.zip ws))) (λb u eb=>?_) G (jL ?_ ?_ _ (KV.merge kv .nil) dd)) rfl (q _ (I1.hok.fresh G))
  ·have M:=gC eb;exact b1 b u (m _ 4 M) (m _ 3 M) (m _ 0 M) (m _ 1 M) (q2 _ M) (t _ _ (kp _ _ eb))
  ·have:=wn (p.zip ws) [];have lw:(p.zip ws).length=p.length:=by rw[List.length_zip];lia
   simp only [mQ]at this
   lia
  ·have:=I1.big;have a6:j.objs.size≠sysModules:=jC (jE this G)
   simpa using a6
 ·obtain⟨od,es,ep,g,r⟩:=n;exact jw od es ep (B _ _ g) r
def C6(K:Frag):R2:=λx y H Q=>∃a b c d,x=.ref a/\y=.ref b/\SqT K H a c/\SqT K H b d/\c.length+d.length<=sizeLine/\
 (c=[]->Q (.ref b) H)/\(c≠[]->d=[]->Q (.ref a) H)/\(c≠[]->d≠[]->∀p,H p=none->Q (.ref p) (upd H p (.tup (c++d))))
theorem Fp:OpR X (binaryOp .Add) (C6 X.K):=by
 intro g s Z H x y v u Q I m q h;refine jM h ?_;clear h;rintro a b r O rfl rfl t o ⟨U,G,P,S⟩;by_cases hx:r=[]
 ·subst hx;cases m;cases q;obtain⟨c,R,L,_⟩:=I.tuple t;obtain⟨i,Y,J,_⟩:=I.tuple o;have D:c=[]:=R.nil_iff.mpr rfl;obtain⟨⟨T,M,w,W⟩,B,p,n,C⟩:=id L;obtain⟨⟨A,j,k,l⟩,d,e,N,f⟩:=id J;simp only at p C e f;subst p C e f
  exact concat_meets (bd _ B rfl) (bd _ d rfl) noFill_tuple_add seq_tuple_add PySem.F.slot_tuple_add PySem.F.entry_tuple_add (PySem.F.args_tuple_add_2 _ _)
   (tuple_addW0 a b c.toArray i.toArray n N M j W l (by simp[D])) ⟨B,(jp d (.ref b) H I rfl (G rfl))⟩
 ·exact EK g s Z H _ _ v u Q I m q (jc a b r O rfl rfl t (iT o hx U (λz=>P hx z) λz=>S hx z))
def DO:R2:=λx y H Q=>∃a b e d,x=.ref a/\y=.ref b/\H a=some (.tup e)/\H b=some (.tup d)/\e.length+d.length<=sizeLine/\∀q c,A0m H c->c q=some (.tup (e++d))->Q (.ref q) c
theorem tK:OpR X (binaryOp .Add) DO:=λc s Z H x y v u Q I f k h=>by
 refine jM h ?_;clear h;rintro a b n i g j e d ⟨l,q⟩;refine Fp c s Z H x y v u Q I f k (jc a b n i g j (SqT.of e) (iT (SqT.of d) l (λz=>?_) (λ_ z=>?_) λ_ _ p m=>?_))
 ·subst z;exact q b H (A0m.refl _) d
 ·subst z;exact q a H (A0m.refl _) (by rw[lU];exact e)
 ·exact q p _ (gu m) ck
abbrev nc:=Key ⊕ zU
abbrev gz:=List nc
def A5j(prog:yB)(w:yD)(h:yA):nc->zX->Prop|.inl k,v=>(ig prog w).is k v=true|.inr ks,v=>∃b,v=.ref b/\IsTupleKey (ig prog w) h ks b
abbrev A3m(prog:yB)(w:yD)(h:yA):List nc->List zX->Prop:=Paired (A5j prog w h)
def A1n(prog:yB)(w:yD)(h:yA)(k:gz)(a:zW):Prop:=∃o b n,h.get? a=some o/\o.cls=.type "tuple"/\o.data=.seq b n/\A3m prog w h k b.toList
theorem A1n.typeIs{k:gz}(x:A1n prog w s.heap k a):s.TypeIs (.ref a) "tuple":=let⟨o,_,_,ho,hc,_⟩:=x;(bd o ho hc)
theorem Ba{k:Key}(h:(ig prog w).is k (.ref a)=true):False:=by have:=(ig prog w).byValue _ _ h;simp[carriedByValue]at this
theorem A5j.inj{q:nc}(d:A5j prog w h p v)(a:A5j prog w h q v):p=q:=by
 cases p with
 |inl k=>
  cases q with
  |inl l=>exact congrArg Sum.inl ((ig prog w).inj _ _ _ d a)
  |inr ks=>obtain⟨b,rfl,_⟩:=a;exact(Ba d).elim
 |inr ks=>
  cases q with
  |inl l=>obtain⟨b,rfl,_⟩:=d;exact(Ba a).elim
  |inr ls=>obtain⟨b,rfl,f⟩:=d;obtain⟨c,e,g⟩:=a;injection e with e;subst e;exact congrArg Sum.inr (f.inj g)
theorem A3m.inj{h:yA}:∀{x y:List nc}{vs:zH},A3m prog w h x vs->A3m prog w h y vs->x=y|_,_,_,.nil,.nil=>rfl|_,_,_,.cons a t,.cons b u=>by rw[a.inj b,A3m.inj t u]
theorem A1n.inj{x y:gz}(f:A1n prog w h x a)(e:A1n prog w h y a):x=y:=by refine gW f λo t n i _ k j=>?_;clear f;refine gW e λg m l d _ b c=>?_;clear e;obtain rfl:o=g:=iX (i.symm.trans d);rw[k]at b;injection b with h1 _;subst h1;exact A3m.inj j c
theorem A5j.keeps{es ep}(x:A5j prog w h p v)(f:h.get? d=some o)(c:o.data=.dict es ep)(hs:Heap.SameBut d h h'):A5j prog w h' p v:=by
 cases p with
 |inl k=>exact x
 |inr ks=>obtain⟨b,e,a⟩:=x;exact bd b e (a.keeps f c hs)
theorem A1n.keeps{k:gz}{es ep}(x:A1n prog w h k a)(f:h.get? d=some o)(i:o.data=.dict es ep)(hs:Heap.SameBut d h h'):A1n prog w h' k a:=by
 refine gW x λg t n c l b j=>?_;clear x
 have e:a≠d:=by rintro rfl;obtain rfl:g=o:=iX (c.symm.trans f);rw[i]at b;exact nomatch b
 exact iE g t n ((hs.2 a e).trans c) l b (Paired.mapP j λp v z=>z.keeps f i hs)
def tL(prog:yB)(w:yD):nc->Int|.inl k=>(ig prog w).hash k|.inr ks=>tupleKeyHash (ig prog w) ks
def rn:nc->Nat|.inl _=>1|.inr ks=>ks.length+1
def lL:gz->Nat| []=>0|p::r=>rn p+lL r
theorem B6:∀(a b:gz),lL (a++b)=lL a+lL b| [],b=>by show lL b=0+lL b;lia|p::r,b=>by show rn p+lL (r++b)=rn p+lL r+lL b;rw[B6 r b];lia
def hW(prog:yB)(w:yD)(k:gz):Int:=reduceHash (Builtin.Tuple.tupleHashOf (k.map (tL prog w)))
theorem IA{Q:Int->zY->Prop}(d:A.units<cLine)(a:A5j prog w s.heap p v)(h:Q (tL prog w p) {s with toks:=s.toks+rn p}):
  wpAny (model prog w) A (pyHash v) Q E s:=by
 cases p with
 |inl k=>exact(ig prog w).pyHash a h
 |inr ks=>obtain⟨b,rfl,c⟩:=a;exact wpAny_pyHash_tuple d c h
theorem Bu{k:gz}{Q:Int->zY->Prop}(y:A.units+8<cLine)(m:A1n prog w s.heap k a)(h:Q (hW prog w k) {s with toks:=s.toks+(lL k+1)}):
  wpAny (model prog w) A (pyHash (.ref a)) Q E s:=by
 have g:=m.typeIs;refine gW m λo l n t _ v u=>?_;clear m;unfold pyHash
 first|unfold pyHashByItsType|skip
 first|refine az (wpAny_cRoomFor_or (.inr (by lia)) ?_)|skip
 refine az (wpAny_specialOf g PySem.F.slot_tuple_hash.lookup ?_);show wpAny _ _ (if (some (Value.builtin "tuple.__hash__")==some Value.none)=true then _ else _) Q E s;rw[dh (by rw[beq_builtin_none];exact ij)];refine az (wpAny_specialOf g PySem.F.slot_tuple_hash.lookup ?_);show wpAny _ _ (callSpecialIfBoundUnlessNone? (.ref a) "__hash__" _>>=_) Q E s;refine az (wpAny_callSpecialIfBoundUnlessNone?_slot g PySem.F.slot_tuple_hash (jD PySem.F.slot_tuple_hash g PySem.F.entry_tuple_hash ?_ (PySem.F.args_tuple_hash_1 _)));show wpAny _ _ (Builtin.Tuple.tupleItemsOf (.ref a)>>=_) _ _ s;refine az (wpAny_tupleItemsOf t v ?_);refine az ?_;rw[<-Array.forIn_toList]
 refine wpAny_forIn_list _
  (λd (e:Array Int) j=>∃b c,k=b++c/\A3m prog w s.heap c d/\e.toList=b.map (tL prog w)/\j={s with toks:=s.toks+lL b})
  _ ?_ ?_ _ _ (gL [] k rfl u rfl rfl)
 ·rintro x d e j ⟨b,c,rfl,i,f,rfl⟩
  cases i with
  |@cons p _ ps _ h1 hl'=>
   refine az (IA (by show A.units+1<cLine;lia) h1 ?_);have q:b++p::ps=(b++[p])++ps:=by simp
   have r:lL (b++[p])=lL b+rn p:=by rw[B6];rfl
   first|exact da (gL (b++[p]) ps q hl' (by simp[f]) (by rw[r];simp[Nat.add_assoc]))|exact az (da (da ⟨b++[p],ps,q,hl',by simp[f],by rw[r];simp[Nat.add_assoc]⟩))
 ·rintro e j ⟨b,c,rfl,i,f,rfl⟩;cases i;rw[lU]at h;show wpAny _ _ (retInt (Builtin.Tuple.tupleHashOf e.toList)) _ _ _;rw[f];refine wpAny_ret_mkInt ?_;generalize hL:b.map (tL prog w)=L;show wpAny _ _ (if (decide (-(2:Int)^63<=Builtin.Tuple.tupleHashOf L)&&decide (Builtin.Tuple.tupleHashOf L<2^63))=true then _ else _) Q E _;unfold hW reduceHash at h;rw[hL]at h;by_cases hr:(decide (-(2:Int)^63<=Builtin.Tuple.tupleHashOf L)&&decide (Builtin.Tuple.tupleHashOf L<2^63))=true
  ·rw[dn hr];rw[dn hr]at h;exact da (by simpa[Nat.add_assoc]using h)
  ·rw[dh hr];rw[dh hr]at h;exact az (wpAny_rule (da (by simpa[Nat.add_assoc]using h)))
theorem IE{q:nc}{Q:Bool->zY->Prop}(i:A.units<cLine)(hs:p.isLeft=q.isLeft)(f:A5j prog w s.heap p u)(d:A5j prog w s.heap q v)(h:Q (decide (p=q)) s):
  wpAny (model prog w) A (eqBool u v) Q E s:=by
 cases p with
 |inl k=>
  cases q with
  |inl l=>
   refine(ig prog w).eqBool (a:=k) (b:=l) f d ?_
   have e:decide (k=l)=decide ((Sum.inl k:nc)=Sum.inl l):=by
    by_cases z:k=l
    ·subst z;simp
    ·rw[ir z,ir (λy=>z (by injection y))]
   rw[e];exact h
  |inr ls=>cases hs
 |inr ks=>
  cases q with
  |inl l=>cases hs
  |inr ls=>
   obtain⟨b,rfl,g⟩:=f;obtain⟨c,rfl,j⟩:=d;refine wpAny_eqBool_tuple i g j ?_
   have e:decide (ks=ls)=decide ((Sum.inr ks:nc)=Sum.inr ls):=by
    by_cases z:ks=ls
    ·subst z;simp
    ·rw[ir z,ir (λy=>z (by injection y))]
   rw[e];exact h
theorem Jx{x y:gz}{P:Fin->zY->Prop}(U:A.units+4<cLine)(G:x.map Sum.isLeft=y.map Sum.isLeft)(L:A1n prog w s.heap x a)(I:A1n prog w s.heap y b)(h:P (.done (.ret (.bool (decide (x=y))))) s):
  wpAny (model prog w) A (Builtin.«tuple.__eq__» ⟨[.ref a,.ref b],[]⟩) P E s:=by
 have K:=I.typeIs;refine gW L λR p T J _ C D=>?_;clear L;refine gW I λO q Q H _ B z=>?_;clear I;show wpAny _ _ (isInstance (.ref b) (.type "tuple")>>=_) _ _ s;refine az (wpAny_isInstance K isSubtype_tuple_tuple ?_);simp only [Bool.not_true,Bool.false_eq_true,if_false];refine az (wpAny_tupleItemsOf J C ?_);refine az (wpAny_tupleItemsOf H B ?_);refine az ?_
 refine wpAny_forIn_list _
  (λi r t=>r.1=none/\t=s/\∃l o e f,i=List.zip e f/\A3m prog w s.heap l e/\A3m prog w s.heap o f/\l.map Sum.isLeft=o.map Sum.isLeft/\decide (l=o)=decide (x=y)/\(e.length==f.length)=(p.size==q.size))
  _ ?_ ?_ _ _ (fI rfl rfl (jo x y p.toList q.toList rfl D z G rfl (by simp)))
 ·rintro⟨u,v⟩ i r t ⟨F,rfl,l,o,e,f,k,j,g,m,c,d⟩
  cases j with
  |nil=>simp at k
  |@cons k1 u' x'' xs'' h1 hx''=>
   cases g with
   |nil=>simp at k
   |@cons k2 v' y'' ys'' h2 hy''=>
    simp only [List.zip_cons_cons,List.cons.injEq,Prod.mk.injEq]at k;obtain⟨⟨rfl,rfl⟩,rfl⟩:=k;rw[ik,ik]at m;injection m with hs1 hs2;refine az (IE (by lia) hs1 h1 h2 ?_);by_cases hk:k1=k2
    ·subst hk;rw[jl rfl];simp only [Bool.not_true,Bool.false_eq_true,if_false];refine da (fI rfl rfl (jo x'' y'' xs'' ys'' rfl hx'' hy'' hs2 ?_ (by simpa using d)));rw[<-c];by_cases hxy:x''=y''
     ·simp[hxy]
     ·simp[hxy]
    ·rw[ir hk];simp only [Bool.not_false,if_true];have M:decide (x=y)=false:=by rw[<-c];simp[hk]
     rw[M]at h;exact az (da (da (da h)))
 ·rintro⟨S,N⟩ t ⟨F,rfl,l,o,e,f,k,j,g,_,c,d⟩;simp only at F;subst F;refine da ?_
  have n:(p.size==q.size)=decide (x=y):=by
   rw[<-c,<-d]
   cases j with
   |nil=>
    cases g with
    |nil=>simp
    |cons _ _=>simp
   |cons _ _=>
    cases g with
    |nil=>simp
    |cons _ _=>simp at k
  show P (.done (.ret (.bool (p.size==q.size)))) t;rw[n];exact h
theorem BE{x y:gz}{Q:Bool->zY->Prop}(g:A.units+8<cLine)(f:x.map Sum.isLeft=y.map Sum.isLeft)(c:A1n prog w s.heap x a)(d:A1n prog w s.heap y b)(h:Q (decide (x=y)) s):
  wpAny (model prog w) A (eqBool (.ref a) (.ref b)) Q E s:=by
 unfold eqBool
 try with_reducible refine jS ?_
 show wpAny _ _ (if (Value.ref a==Value.ref b)=true then _ else _) Q E s;by_cases hab:(Value.ref a==Value.ref b)=true
 ·rw[dn hab];have e:a=b:=by have:=eq_of_beq hab;injection this
  subst e;obtain rfl:=c.inj d;exact az (wpAny_rule (da (by simpa using h)))
 ·rw[dh hab]
  exact az (wpAny_richCompare_same_room (op:=.Eq) c.typeIs d.typeIs PySem.F.slot_tuple_eq
   (jD PySem.F.slot_tuple_eq c.typeIs PySem.F.entry_tuple_eq (Jx (by show A.units+1+4<cLine;lia) f c d (eh _ rfl (λe=>nomatch e) (wpAny_truthy_bool h))) (PySem.F.args_tuple_eq_2 _ _)) (by lia))
theorem J4{Q:Bool->zY->Prop}(i:IsTupleKey (ig prog w) s.heap ks a)(h:Q true s):wpAny (model prog w) A (eqIsQuiet (n+1) (.ref a)) Q E s:=by
 have j:=i.typeIs;refine gW i λo d m k _ p l=>?_;clear i;unfold eqIsQuiet;refine az (wpAny_specialOf j PySem.F.slot_tuple_eq.lookup ?_);show wpAny _ _ (isInstance (.ref a) (.type "tuple")>>=_) _ _ s;refine az (wpAny_isInstance j isSubtype_tuple_tuple ?_);simp only [Bool.not_true,Bool.false_eq_true,if_false];refine az (jY k p ?_);refine az ?_;show wpAny _ _ (forIn d _ _) _ _ s;rw[<-Array.forIn_toList];refine wpAny_forIn_list _ (λb r g=>r.1=none/\g=s/\∀v∈b,carriedByValue v=true) _ ?_ ?_ _ _ (fI rfl rfl l.byValue)
 ·rintro v b r g ⟨f,rfl,c⟩;rw[eqIsQuiet_byValue _ (c v kX)];refine az (da ?_);simp only [Bool.not_true,Bool.false_eq_true,if_false];exact da (fI rfl rfl λu e=>c u (jZ _ e))
 ·rintro⟨t,q⟩ g ⟨f,rfl,_⟩;simp only at f;subst f;exact da h
theorem wx{k:gz}{Q:Bool->zY->Prop}(i:A1n prog w s.heap k a)(h:Q true s):wpAny (model prog w) A (eqIsQuiet 8 (.ref a)) Q E s:=by
 have l:=i.typeIs;refine gW i λo d m n _ u t=>?_;clear i;unfold eqIsQuiet;refine az (wpAny_specialOf l PySem.F.slot_tuple_eq.lookup ?_);show wpAny _ _ (isInstance (.ref a) (.type "tuple")>>=_) _ _ s;refine az (wpAny_isInstance l isSubtype_tuple_tuple ?_);simp only [Bool.not_true,Bool.false_eq_true,if_false];refine az (jY n u ?_);refine az ?_;show wpAny _ _ (forIn d _ _) _ _ s;rw[<-Array.forIn_toList];refine wpAny_forIn_list _ (λc r g=>r.1=none/\g=s/\∃j,A3m prog w s.heap j c) _ ?_ ?_ _ _ ⟨rfl,(iU rfl k t)⟩
 ·rintro v c r g ⟨f,rfl,j,e⟩
  cases e with
  |@cons p _ ps' _ h1 hl=>
   cases p with
   |inl q=>rw[eqIsQuiet_byValue _ ((ig prog w).byValue _ _ h1)];refine az (da ?_);simp only [Bool.not_true,Bool.false_eq_true,if_false];exact da ⟨rfl,(iU rfl ps' hl)⟩
   |inr ks=>obtain⟨b,rfl,x⟩:=h1;refine az (J4 x ?_);simp only [Bool.not_true,Bool.false_eq_true,if_false];exact da ⟨rfl,(iU rfl ps' hl)⟩
 ·rintro⟨z,y⟩ g ⟨f,rfl,_⟩;simp only at f;subst f;exact da h
def og(prog:yB)(w:yD)(sh:List Bool):HeapKind prog w gz where
 is:=λh k a=>k.map Sum.isLeft=sh/\A1n prog w h k a
 hash:=hW prog w
 draws:=λk=>lL k+1
 room:=λA=>A.units+8<cLine
 inj:=λc b=>c.2.inj b.2
 keeps:=λx i g f=>⟨x.1,x.2.keeps i g f⟩
 pyHash:=λd e h=>Bu d e.2 h
 eqBool:=λd c b h=>BE d (c.1.trans b.1.symm) c.2 b.2 h
 quiet:=λe h=>wx e.2 h
section
variable{prog:yB}{w:yD}{K:Type}[DecidableEq K]{knd:HeapKind prog w K}{A:zZ}{E:zA}{s:zY}
end
def B6v(H:Hp):nc->V->Prop|.inl k,v=>v=kV k|.inr ks,v=>∃b,v=.ref b/\H b=some (.tup (ks.map kV))
def A2v(H:Hp)(k:gz)(b:zW):Prop:=∃a,H b=some (.tup a)/\Paired (B6v H) k a
theorem B6v.keeps{v:V}(e:B6v H p v)(d:∀b xs,H b=some (.tup xs)->H' b=some (.tup xs)):B6v H' p v:=by
 cases p with
 |inl k=>exact e
 |inr ks=>obtain⟨b,c,a⟩:=e;exact bd b c (d _ _ a)
theorem A2v.keeps{k:gz}(e:A2v H k b)(a:∀b xs,H b=some (.tup xs)->H' b=some (.tup xs)):A2v H' k b :=let⟨vs,e1,e2⟩:=e;(bd vs (a _ _ e1) (Paired.mapP e2 λ_ _ z=>z.keeps a))
theorem wl{x:Str}(h:H b=some (.tup [.str x,.ref c]))(a:H c=some (.tup (ks.map kV))):A2v H [.inl (.inr x),.inr ks] b :=(bd _ h (.cons rfl (.cons (bd c rfl a) .nil)))
theorem IH{x y:Str}(h:H b=some (.tup [.str x,.str y,.ref c]))(a:H c=some (.tup (ks.map kV))):A2v H [.inl (.inr x),.inl (.inr y),.inr ks] b :=(bd _ h (.cons rfl (.cons rfl (.cons (bd c rfl a) .nil))))
theorem AY(ok:HOk P w H h):∀{k:gz}{vs:zM}{us:zH},Paired (B6v H) k vs->A2k vs us->A3m P w h k us
 |_,_,_,.nil,.nil=>.nil
 |p::_,_,_,.cons e t,.cons r u=>by
  refine .cons ?_ (AY ok t u)
  cases p with
  |inl k=>obtain rfl:=e;exact pH r
  |inr ks=>obtain⟨c,rfl,a⟩:=e;cases r;exact bd c rfl (qU ok a)
theorem A2v.is{k:gz}(ok:HOk P w H h)(e:A2v H k b):A1n P w h k b:=by obtain⟨f,g,d⟩:=e;refine um (show A1h P w H h b (.tup f) from ok b _ g) λ_ a r o c j n i=>?_;exact iE o a.toArray n c j i (by simpa using AY ok d r)
abbrev KN:List (gz×zW×V)->List (gz×zW×zX)->Prop:=Paired λp q=>p.1=q.1/\p.2.1=q.2.1/\A2b p.2.2 q.2.2
def lX(kas:List (gz×zW×V)):List (gz×V):=kas.map λp=>(p.1,p.2.2)
def ndV(P:yB)(w:yD)(sh:List Bool)(a:zW)(kas:List (gz×zW×V)):HO:=.ext λh=>kas.length<=sizeLine/\(a==sysModules)=false/\∃b,KN kas b/\
 ∃o c d,h.get? a=some o/\o.ExactDict/\o.data=.dict c d/\c.toList=b.map (entryOfKey (og P w sh))/\(b.map (·.1)).Nodup
def A9z(P:yB)(w:yD)(sh:List Bool)(H:Hp)(a:zW)(kvs:List (gz×V)):Prop :=∃b,H a=some (ndV P w sh a b)/\lX b=kvs/\∀p∈b,p.1.map Sum.isLeft=sh/\A2v H p.1 p.2.1
theorem xz(z:kas.length<=sizeLine)(j:(a==sysModules)=false)(r:KN kas xs)(dd:h.DictOfH (og P w sh) a xs):A1h P w H h a (ndV P w sh a kas):=by refine gW dd ?_;clear dd;rintro o c d b i f ⟨g,_,e⟩;exact fI (jL z j xs r (iL o c d b i f g e)) ⟨o,b⟩ (by (rintro m n l;refine kr l ?_;clear l;rintro z j xs r o c d b ⟨i,f,g,e⟩ k);exact jL z j xs r (iL o c d (k o b) i f g e))
theorem A9z.keeps(d:A9z P w sh H a kvs)(f:∀o,H a=some o->H' a=some o)(g:∀b xs,H b=some (.tup xs)->H' b=some (.tup xs)):A9z P w sh H' a kvs :=let⟨kas,e,b,n⟩:=d;(eh kas (f _ e) b λp c=>⟨(n p c).1,(n p c).2.keeps g⟩)
theorem A9z.at(ok:HOk P w H h)(d:A9z P w sh H a kvs):∃kas xs,H a=some (ndV P w sh a kas)/\lX kas=kvs/\(∀p∈kas,p.1.map Sum.isLeft=sh/\A2v H p.1 p.2.1)/\
  kas.length<=sizeLine/\(a==sysModules)=false/\KN kas xs/\h.DictOfH (og P w sh) a xs:=by
 obtain⟨kas,e,s,n⟩:=d;obtain⟨⟨z,v,xs,r,o,i,B,g,u,j,k,C⟩,_,_⟩:=(show A1h P w H h a (ndV P w sh a kas) from ok a _ e);refine mM kas xs e s n z v ⟨r,(ox o i B g u j k (λx b=>?_) C)⟩
 have c:∀{l:List (gz×zW×V)}{m:List (gz×zW×zX)},KN l m->(∀p∈l,p.1.map Sum.isLeft=sh/\A2v H p.1 p.2.1)->∀x∈m,(og P w sh).is h x.1 x.2.1:=by
  intro l m q
  induction q with
  |nil=>intro _ x b;exact nomatch b
  |@cons p q ps qs hq t ih=>
   intro f x b;rcases gP.mp b with e|b
   ·subst e;have:=f p kX;rw[<-hq.1,<-hq.2.1];exact⟨this.1,this.2.is ok⟩
   ·exact ih (λy A=>f y (jZ _ A)) x b
 exact c r n x b
theorem KN.val(r:KN kas xs)(k:gz):B0s (fC (lX kas) k) ((atKey xs k).map (·.2)):=by
 induction r with
 |nil=>exact True.intro
 |@cons p q ps qs h t ih=>
  obtain⟨c,_,d⟩:=h;show B0s (fC ((p.1,p.2.2)::lX ps) k) _;by_cases e:p.1=k
  ·have a:q.1=k:=c.symm.trans e;have b:atKey (q::qs) k=some q.2:=by simp[atKey,oz,a]
   rw[nh (p:=(p.1,p.2.2)) e,b];exact d
  ·have a:¬q.1=k:=λz=>e (c.trans z);have b:atKey (q::qs) k=atKey qs k:=by simp[atKey,oz,a]
   rw[ng (p:=(p.1,p.2.2)) e,b];exact ih
def mY(kas:List (gz×zW×V))(k:gz)(b:zW)(v:V):List (gz×zW×V):=if ((lX kas).any λa=>decide (a.1=k))=true then kas.map λp=>if p.1=k then (p.1,p.2.1,v)else p else kas++[(k,b,v)]
theorem Fq(kas:List (gz×zW×V))(k:gz)(b:zW)(v:V):lX (mY kas k b v)=gY (lX kas) k v:=by
 unfold mY gY;by_cases q:((lX kas).any λa=>decide (a.1=k))=true
 ·rw[dn q,dn q];unfold lX;rw[List.map_map,List.map_map];refine List.map_congr_left λp _=>?_;simp only [Function.comp];split<;>rfl
 ·rw[dh q,dh q];unfold lX;rw[gN];rfl
theorem IJ(kas:List (gz×zW×V))(k:gz)(b:zW)(v:V):(mY kas k b v).length<=kas.length+1:=by
 unfold mY;split
 ·rw[dm];lia
 ·rw[ic];exact fa _
theorem FE{k:gz}{v:V}{p:gz×zW×V}(h:p∈mY kas k b v):(∃q∈kas,p.1=q.1/\p.2.1=q.2.1)\/(p.1=k/\p.2.1=b):=by
 unfold mY at h;split at h
 ·obtain⟨q,a,e⟩:=gS.mp h;refine .inl (bd q a ?_);split at e
  ·subst e;exact⟨rfl,rfl⟩
  ·subst e;exact⟨rfl,rfl⟩
 ·rcases jn.mp h with h|h
  ·exact .inl (eh p h rfl rfl)
  ·rw[gX]at h;subst h;exact .inr ⟨rfl,rfl⟩
theorem KN.put(r:KN kas xs)(k:gz){y:V}(c:A2b y u):KN (mY kas k b y) (storedH xs k b u):=by
 have e:((lX kas).any λf=>decide (f.1=k))=(atKey xs k).isSome:=by rw[re,(r.val k).isSome_eq,Option.isSome_map]
 unfold mY storedH;rw[e];by_cases q:(atKey xs k).isSome=true
 ·rw[dn q,dn q];clear e q
  induction r with
  |nil=>exact .nil
  |@cons p q ps qs h t ih=>
   rw[ik,ik];refine .cons ?_ ih;obtain⟨a,d,g⟩:=h;unfold putAt;by_cases e:p.1=k
   ·rw[dn e,dn (a.symm.trans e)];exact fI a d c
   ·rw[dh e,dh (λz=>e (a.trans z))];exact fI a d g
 ·rw[dh q,dh q];exact Paired.snoc (F:=λ(p:gz×zW×V)(q:gz×zW×zX)=>p.1=q.1/\p.2.1=q.2.1/\A2b p.2.2 q.2.2) (fI rfl rfl c) r
theorem uN{k:Nat}(a:A5p k A):A.units+9<cLine:=by have:=a.un;lia
section
variable{v d:V}{r:zX}{k:gz}{kvs:List (gz×V)}
theorem A9z.typeIs(I:Inv X pins Z H s)(g:A9z X.prog X.w sh H a kvs):s.TypeIs (.ref a) "dict" :=let⟨_,_,_,_,_,_,_,_,dd⟩:=g.at I.hok;dd.typeIs
theorem Hs{Q:zA}(y:A.units+9<cLine)(I:Inv X pins Z H s)(g:A9z X.prog X.w sh H a kvs)(t:A2v H k b)(hs:k.map Sum.isLeft=sh)(l:fC kvs k=some v)
  (h:∀c s',Inv X pins Z H s'->A2b v c->Q c s'):wpAny (model X.prog X.w) A (getItem (.ref a) (.ref b)) Q E s:=by
 refine iq (g.at I.hok) ?_;rintro q u e rfl n z ⟨x,f,j⟩;obtain⟨c,m,d⟩:=B0s.some_of (v:=v) (o:=(atKey u k).map (·.2)) (by rw[<-l];exact f.val k);obtain⟨p,r,i⟩:=mu.mp m;refine wpAny_getItem_heap (knd:=og X.prog X.w sh) (show A.units+1+8<cLine by lia) ⟨hs,t.is I.hok⟩ j r ?_;rw[i];exact h c _ (I.tok _) d
theorem n_in{Q:zA}(l:A.units+9<cLine)(I:Inv X pins Z H s)(g:A9z X.prog X.w sh H a kvs)(i:A2v H k b)(hs:k.map Sum.isLeft=sh)
  (h:∀s',Inv X pins Z H s'->Q (.bool (fC kvs k).isSome) s'):wpAny (model X.prog X.w) A (compareOp .In (.ref b) (.ref a)) Q E s:=by
 refine iq (g.at I.hok) ?_;rintro f m e rfl n z ⟨j,c,d⟩;refine wpAny_in_heap (knd:=og X.prog X.w sh) (show A.units+1+8<cLine by lia) ⟨hs,i.is I.hok⟩ j d ?_;have q:=(c.val k).isSome_eq;rw[Option.isSome_map]at q;rw[<-q];exact h _ (I.tok _)
theorem CZ{Q:zA}(p:A.units+9<cLine)(I:Inv X pins Z H s)(g:A9z X.prog X.w sh H a kvs)(m:A2v H k b)(hs:k.map Sum.isLeft=sh)(rd:A2b d r)
  (h:∀i s',Inv X pins Z H s'->A2b ((fC kvs k).getD d) i->Q i s'):wpAny (model X.prog X.w) A (call (.builtin "dict.get") [.ref a,.ref b,r]) Q E s:=by
 refine iq (g.at I.hok) ?_;rintro j l e rfl n z ⟨o,c,f⟩;refine call_meetsIn PySem.F.slot_dict_get f.typeIs PySem.F.entry_dict_get (PySem.F.args_dict_get_3 _ _ _) (meetsH_dict_get_default (og X.prog X.w sh) a b o r) (jp (show A.units+1+8<cLine by lia) k l ⟨hs,m.is I.hok⟩ f (h _ _ (I.tok _) ?_));exact(c.val k).getD rd
theorem Ig(I:Inv X pins Z H s)(e:H a=some (ndV X.prog X.w sh a kas))(n:∀p∈kas,p.1.map Sum.isLeft=sh/\A2v H p.1 p.2.1)
  (A:(lX kas).length<sizeLine) (t:(a==sysModules)=false) (f:KN kas xs) (y:A2v H k b) (hs:k.map Sum.isLeft=sh) (r:A2b v u)
  (dd:h'.DictOfH (og X.prog X.w sh) a (storedH xs k b u)) (j:Heap.SameBut a s.heap h'):
  Inv X pins Z (upd H a (ndV X.prog X.w sh a (mY kas k b v))) {s with heap:=h',toks:=t'}/\A9z X.prog X.w sh (upd H a (ndV X.prog X.w sh a (mY kas k b v))) a (gY (lX kas) k v):=by
 have l:(mY kas k b v).length<=sizeLine:=by
  have B:=IJ kas k b v;have C:(lX kas).length=kas.length:=dm _
  lia
 have o:∀c g,H c=some (.tup g)->upd H a (ndV X.prog X.w sh a (mY kas k b v)) c=some (.tup g):=λc g m=>by rw[dt (iI m e (λz=>nomatch z))];exact m
 refine⟨tG I (by rw[e];exact True.intro) j (let⟨q,_,_,d,_⟩:=dd;⟨q,d⟩) (xz l t (f.put k r) dd),(eh _ ck (Fq _ _ _ _) λp x=>?_)⟩;rcases FE x with ⟨q,d,h,i⟩|⟨h,i⟩
 ·rw[h,i];exact⟨(n q d).1,(n q d).2.keeps o⟩
 ·rw[h,i];exact⟨hs,y.keeps o⟩
theorem Ho{Q:Unit->zY->Prop}(B:A.units+9<cLine)(I:Inv X pins Z H s)(g:A9z X.prog X.w sh H a kvs)(i:A2v H k b)(hs:k.map Sum.isLeft=sh)(l:kvs.length<sizeLine)(m:A2b v u)
  (h:∀o s',Inv X pins Z (upd H a o) s'->A9z X.prog X.w sh (upd H a o) a (gY kvs k v)->Q () s'):wpAny (model X.prog X.w) A (setItem (.ref a) (.ref b) u) Q E s:=by
 refine iq (g.at I.hok) ?_;rintro q x e rfl n z ⟨p,c,j⟩;have t:x.length<=sizeLine:=by rw[<-Paired.length c];exact z
 refine wpAny_setItem_heap (knd:=og X.prog X.w sh) (hsz:=t) (show A.units+1+8<cLine by lia) ⟨hs,i.is I.hok⟩ j λy d f=>?_;obtain⟨I',r⟩:=Ig (t':=s.toks+(og X.prog X.w sh).draws k) I e n l p c i hs m d f;exact h _ _ I' r
end
structure rX(P:yB)(w:yD)(H:Hp)(x y:V)(a b:zW)(sh:List Bool)(kvs:List (gz×V))(k:gz):Prop where
 ex:x=.ref a
 ey:y=.ref b
 nd:A9z P w sh H a kvs
 at':A2v H k b
 sh':k.map Sum.isLeft=sh
def Cn(P:yB)(w:yD)(td ty:TE):TE:=λZ H Q=>td Z H λx f=>ty Z f λy d=>∃a b e c k v,rX P w d x y a b e c k/\fC c k=some v/\Q v d
def rInN(P:yB)(w:yD):R2:=λy x H Q=>∃a b d c k,rX P w H x y a b d c k/\Q (.bl (fC c k).isSome) H
def Cq(P:yB)(w:yD):sE:=λx y v H Q=>∃a b d c k,rX P w H x y a b d c k/\c.length<sizeLine/\∀o,A9z P w d (upd H a o) a (gY c k v)->Q (upd H a o)
def CS(P:yB)(w:yD)(sh:List Bool):TE:=λ_ H Q=>∀p o,H p=none->A9z P w sh (upd H p o) p []->Q (.ref p) (upd H p o)
def Cm(P:yB)(w:yD):V->List V->Hp->VK->Prop:=λx e H Q=>∃a b d c k y z,e=[y,z]/\rX P w H x y a b d c k/\Q ((fC c k).getD z) H
def tBMN(P:yB)(w:yD)(r:V->List V->Hp->VK->Prop)(to:TE)(t:TA):TE:=λZ H Q=>to Z H λx c=>(∃a d b,x=.ref a/\A9z P w d c a b)/\t Z c λe f=>r x e f Q
section
variable{o:yC}
theorem yb(G:X.A.units+9<cLine)(D:PE X o td)(hi:PE X i ty)(hs:uE i):PE X (.Subscript o i pos) (Cn X.prog X.w td ty):=by intro c s Z H Q I h;refine yU PySem.F.slot_dict_getitem.lookup hs (thn (D c s Z H _ I h) ?_);rintro u q ⟨x,J,I1,m,n⟩;refine thn (hi c q Z J _ I1 n) ?_;rintro t M g;refine oy g ?_;clear g;rintro y p I2 z a b N ⟨r,k,v,⟨B,K,j,f,d⟩,l,C⟩;subst B K;obtain rfl:u=Value.ref a:=m;obtain rfl:t=Value.ref b:=z;exact⟨j.typeIs I2,Hs G I2 j f d l λO L I3 e=>(eu v p I3 e C)⟩
theorem CW(i:X.A.units+9<cLine):OpR X (compareOp .In) (rInN X.prog X.w):=by intro f s Z H x y v u Q I g j h;refine ku h ?_;clear h;rintro a b o ⟨d,k,⟨n,m,l,c,e⟩,q⟩;subst n m;obtain rfl:v=Value.ref b:=g;obtain rfl:u=Value.ref a:=j;exact n_in i I l c e λp I3=>(eu (.bl (fC d k).isSome) H I3 rfl q)
theorem Ad(x:X.A.units+9<cLine):uA X (Cq X.prog X.w):=by intro e s Z H o i v t l u Q I g f r h;refine ku h ?_;clear h;rintro a b C ⟨j,k,⟨m,z,y,d,c⟩,p,q⟩;subst m z;obtain rfl:t=Value.ref a:=g;obtain rfl:l=Value.ref b:=f;exact Ho x I y d c p r λo B I3 n=>(bd _ I3 (q o n))
theorem Aw:PE X (.Dict [] [] pos) (CS X.prog X.w sh):=λb s Z H Q I h=>by have d:=I.big;have e:(s.heap.objs.size==sysModules)=false:=oA.mpr (Ne.symm (iy d));refine wpAny_Dict_empty (eu (.ref s.heap.objs.size) _ (I.laid (a:=s.heap.objs.size) (o:=ndV X.prog X.w sh s.heap.objs.size []) (t':=s.toks) (λ_ _ q=>fy _ q) (fa _) (xz (jm _) e .nil (Heap.DictOfH.new s.heap))) rfl (h _ _ (I.hok.fresh (fa _)) (eh [] ck rfl λp c=>nomatch c)))
theorem yc(m:X.A.units+9<cLine):MtR X "dict.get" (Cm X.prog X.w):=by
 intro g s Z H x t v p Q I i c h;refine jk h ?_;clear h;rintro a b u j k y ⟨z,rfl,⟨l,o,n,f,d⟩,q⟩;subst l o;obtain rfl:v=Value.ref a:=i
 cases c with
 |cons r1 c=>
  cases c with
  |cons r2 c=>
   cases c
   cases r1
   exact CZ m I n f d r2 λB r I3 e=>(eu _ H I3 e q)
theorem A9z.noDict(I:Inv X pins Z H s)(g:A9z X.prog X.w sh H a kvs):∀b,Value.ref a=.ref b->∃c,s.heap.get? b=some c/\c.dict=none:=λb q=>by
 cases q
 refine iq (g.at I.hok) ?_;rintro _ _ _ _ _ _ ⟨_,_,c,_,_,d,e,_⟩;exact bd c d e.2.1
variable{t:TA}{id:String}
theorem xP(i:Slot "dict" name id)(j:typeOf (.builtin id)=pure (.type "method_descriptor"))(q:MtR X id r)(J:PE X o to)(D:PA X (e::es) t)
  (f:attributeBase o name X.env (eval o X.env)=eval o X.env:=by rfl)
  (g:((backTo cpos (starEach (e::es) X.env)).all (λx=> ! x.1)&&(backToKw cpos (keywordEach [] X.env)).all (λx=>x.1.isSome)
   && decide ((e::es).length+([]:List Keyword).length+(if ([]:List Keyword).isEmpty then 0 else 1)<30))=true:=by rfl)
  (d:(apos.endLine==cpos.line)=true:=by rfl) (hs:starEach (e::es) X.env=(false,eval e X.env)::starEach es X.env:=by rfl) (c:(backTo cpos (starEach es X.env)).any (·.1)=false:=by rfl):
  PE X (.Call (.Attribute o name apos) (e::es) [] cpos) (tBMN X.prog X.w r to t):=by
 intro b s Z H Q I h;refine wpAny_Call_method_late f g d rfl (thn (J b s Z H _ I h) ?_);rintro v y ⟨x,L,I1,K,⟨a,M,z,C,l⟩,p⟩;subst C;obtain rfl:v=Value.ref a:=K;refine mM "dict" id PySem.F.plainAttrs_dict i j (l.typeIs I1) (l.noDict I1) ?_;have k:=D cpos b y Z L _ I1 p;rw[hs]at k⊢;refine Calls.callWith_builtin (by show(false||(backTo cpos (starEach es X.env)).any (·.1))=false;rw[c]<;>rfl) (Calls.evalArgs_plain ?_);exact thn k (by rintro m B ⟨A,u,I2,n,G⟩;exact q b B Z u (.ref a) A _ m Q I2 rfl n G)
end
section
variable{d:Drawn}
variable{bs:zH}
theorem KA(Fn:ExcBaseFacts Bn newId inN bmN)(j:bmB.contains (.type Bn)=true)(F:ExcBaseFacts B nid initId bmB)(T:OwnTail h bmB bm){p:zW}{s:Obj}{Q:Fin->zY->Prop}
  (i:h.get? C=some (excClassObj nm q C N bs bm hdct sn sub ab col dd k0 k1 k2 k3 k5 newId)) (hn:h.Ns N mN) (hi:mN "__init__"=some (.ref p))
  (m:h.get? p=some s) (n:s.cls=.type "function")
  (u:∀h' e,Heap.MadeExcOf h h' e (.ref C) rest->
   wpAny (model prog w) A (call (.ref p) (.ref e::rest)) (λr s'=>r=.none/\Q (.done (.ret (.ref e))) s') E ⟨h',g,d,t,os⟩) (hrest:rest.length<=sizeLine):
  wpAny (model prog w) A (Builtin.«type.__call__» ⟨.ref C::rest,[]⟩) Q E ⟨h,g,d,t,os⟩:=by
 repeat (first|with_reducible refine np i ?_|with_reducible refine wpAny_madeBy_exc i ?_|wp_step)
 refine codeAny_call_builtin_code (Code.quiet_builtin _ Fn.quiet) (wpAny_check_new_subU Fn j T i ?_);refine codeAny_exc_new_subU Fn j F T i ?_ hrest;show wpAny _ _ _ _ _ _
 have f:=fy {cls:=.ref C,data:=.fields #[.ref h.objs.size,.none,.none,.none,.bool false,.none]}
  (fy {cls:=.type "tuple",data:=.seq rest.toArray} i)
 have c:=fy {cls:=.ref C,data:=.fields #[.ref h.objs.size,.none,.none,.none,.bool false,.none]}
  (fy {cls:=.type "tuple",data:=.seq rest.toArray} m)
 have k:((h.push {cls:=.type "tuple",data:=.seq rest.toArray}).push {cls:=.ref C,data:=.fields #[.ref h.objs.size,.none,.none,.none,.bool false,.none]}).Ns N mN :=let⟨o,es,ep,e,r⟩:=hn;(jw o es ep (fy _ (fy _ e)) r)
 have a:((h.push {cls:=.type "tuple",data:=.seq rest.toArray}).push
   {cls:=.ref C,data:=.fields #[.ref h.objs.size,.none,.none,.none,.bool false,.none]}).get? (h.objs.size+1)=some
   {cls:=.ref C,data:=.fields #[.ref h.objs.size,.none,.none,.none,.bool false,.none]}:=by heap_get
 have l:(Value.ref C::bm).contains (.ref C)=true:=by simp
 have T₁:=T.keeps (h':=(h.push {cls:=.type "tuple",data:=.seq rest.toArray}).push {cls:=.ref C,data:=.fields #[.ref h.objs.size,.none,.none,.none,.bool false,.none]})
  λb o e=>fy _ (fy _ e)
 unfold isInstance
 repeat (first|with_reducible refine np a ?_|(with_reducible refine wpAny_isSubtype_exc f ?_;rw[l])|wp_step)
 show wpAny _ _ (typeLookup (.ref C) _) _ _ _;refine wpAny_typeLookup_tail f k T₁ F.mroIs F.init.lookup ?_;rw[hi];refine jS (az ?_);unfold bindSpecial;refine az (wpAny_typeOf (T:="function") (bd _ c n) ?_);rw[dn (by decide)];refine da (az (iV (u _ (h.objs.size+1) ⟨λb o y=>fy _ (fy _ y),Heap.get?_none_of_le (Nat.le_succ _),h.objs.size,a,Heap.get?_none_of_le (fa _),?_⟩) (λr s' v=>?_) λ_ _ x=>x))
 ·exact fy _ (Heap.get?_push_at rfl rfl)
 ·obtain⟨rfl,z⟩:=v
  wp_walk
  exact z
theorem Kc(Fn:ExcBaseFacts Bn newId inN bmN)(i:bmB.contains (.type Bn)=true)(F:ExcBaseFacts B nid initId bmB)(T:OwnTail h bmB bm){Q:zA}
  (a:h.get? C=some (excClassObj nm q C N bs bm hdct sn sub ab col dd k0 k1 k2 k3 k5 newId)) (hn:h.Ns N mN) (hi:mN "__init__"=some (.ref f))
  (b:h.get? f=some j) (c:j.cls=.type "function")
  (k:∀h' e,Heap.MadeExcOf h h' e (.ref C) rest->
   wpAny (model prog w) (A.under (.builtin "type.__call__" ⟨.ref C::rest,[]⟩)) (call (.ref f) (.ref e::rest)) (λr s'=>r=.none/\Q (.ref e) s') E ⟨h',g,d,t,os⟩) (hrest:rest.length<=sizeLine):
  wpAny (model prog w) A (call (.ref C) rest) Q E ⟨h,g,d,t,os⟩:=by
 have m:=tc_lookup;have n:=tc_bind (.ref C);have o:(⟨h,g,d,t,os⟩:zY).TypeIs (.ref C) "type":=(bd _ a rfl);refine wpAny_call (codeAny_of_tree ?_);show wpAny _ _ (callAny (.ref C) _) _ _ _
 repeat (any_goals (first|assumption|with_reducible refine np a ?_|wp_step))
 refine⟨rfl,?_⟩;refine codeAny_call_builtin_at (Code.quiet_builtin _ (by decide+kernel)) entry_typeCall (wpAny_check_type_call_sub a (KA (hrest:=hrest) Fn i F T a hn hi b c λh' e l=>?_));exact k h' e l
end
end L2
namespace PySem.W
open PySem PySem.Spec PySem.Calls PyProof.Rows PySem.Builtin.ObjectAttr PySem.Builtin
noncomputable def pO:zH->Bool| [.type a,.type b,.type c,.type d]=>a=="ValueError"&&b=="Exception"&&c=="BaseException"&&d=="object"|.ref _::r=>pO r|_=>false
variable{x C:zW}{w:yD}{vs:zG}{v:zX}{tk:Tok}{s:zY}{prog:yB}{od:Option Obj}{name:Str}{l:zH}{c:Obj}{R:Result->zY->Prop}{Q:Unit->zY->Prop}{K:Frag}{E:zA}{A:zZ}
theorem Av(h:pO l=true):l=[.type "ValueError",.type "Exception",.type "BaseException",.type "object"]\/∃c r,l=.ref c::r/\pO r=true:=by
 unfold pO at h;split at h
 ·simp only [rS,beq_iff_eq]at h;obtain⟨⟨⟨rfl,rfl⟩,rfl⟩,rfl⟩:=h;exact .inl rfl
 ·exact .inr (hZ _ _ rfl h)
 ·cases h
theorem HF(a:zX):pO l=true->refuseLoop a "__setattr__" l=pure ():=by
 induction l with
 |nil=>intro h;cases h
 |cons x r ih=>
  intro h;obtain z|⟨c,r,z,h⟩:=Av h
  ·rw[z];exact PySem.F.store_ValueError.passes a
  ·cases z;rw[refuseLoop_ref];exact ih h
theorem Ed:pO l=true->l.contains (.type "object")=true:=by
 induction l with
 |nil=>intro h;cases h
 |cons x r ih=>
  intro h;obtain z|⟨c,r,z,h⟩:=Av h
  ·rw[z];decide
  ·cases z;rw[List.contains_cons,ih h,Bool.or_true]
def excOver(K:Frag)(C:zW):Bool:=(clsIn K C).any λa=>pO a.mro
theorem AV{l:Obj}(X:K.In s.heap)(I:InstAt s.heap x l C od)(o:excOver K C=true)(m:takerIn K C name=some none)
  (h:∀b,wpAny (model prog w) A.in1 (storeInOwnDict (.ref x) (.ref C) (.str name tk) name v b)
   (λfin s'=>match fin with|.done f=>R (.ok f) s'|.again c'=>c'.quiet=true/\codeAny (model prog w) A c' R s') (λe s'=>R (.error e) s') s):
  codeAny (model prog w) A (.call (.builtin "object.__setattr__") ⟨[.ref x,.str name tk,v],[]⟩) R s:=by
 have SF:=PySem.F.store_object;obtain⟨i,j,d⟩:=any_some o;have n:i.mro.isEmpty=false:=by cases q:i.mro with|nil=>rw[q]at d;cases d|cons _ _=>rfl
 have g:Looks (model prog w) s.heap (isInstance (.ref x) (.type "object")) true:=I.type.andThen (looks_mroIn X (by unfold mroIn;rw[j,Option.bind_some,dh (by rw[n];decide),Ed d]));refine codeAny_call_builtin SF.slot.plain SF.entry (@check_slot (model prog w) _ _ s "object.__setattr__" "object" "__setattr__" (.ref x) [.str name tk,v] [] _ SF.kind SF.split g (SF.args (.ref x) (.str name tk) v) ?_);obtain⟨c,r,k⟩:=Option.bind_eq_some_iff.mp m;have p:Looks (model prog w) s.heap (mroOf (.ref C)) i.mro:=(looks_clsIn X j).andThen .now
 have L3:Looks (model prog w) s.heap (storeTaker? c) none:=by
  cases c with
  |none=>cases k;exact .now
  |some a=>
   obtain⟨b,t,e⟩:=mu.mp k
   cases b with
   |true=>cases e
   |false=>exact(looks_takesIn X t).andThen .now
 rw[osa_eq,refuse_eq];refine az (az (I.type.here (az (p.here ?_))));rw[HF _ d];refine da (az (I.type.here (az ((looks_findIn X r).here (az (L3.here ?_))))));exact h _
theorem exc_setattr(X:K.In s.heap)(m:s.heap.get? x=some c)(f:c.cls=.ref C)(j:c.dict=none)(i:c.data=.fields vs)
  (hs:findIn K (.ref C) "__setattr__"=some (some (.builtin "object.__setattr__"))) (T:excOver K C=true) (O:takerIn K C name=some none) (U:(clsIn K C).any (·.hasDict)=true)
  (h:∀h' tk,h'.get? x=some {c with dict:=some s.heap.objs.size}->h'.Ns1 s.heap.objs.size (λy=>if y=name then some v else none)->(∀b o,b≠x->s.heap.get? b=some o->h'.get? b=some o)->Q () {s with heap:=h',toks:=tk}):
  wpAny (model prog w) A (setAttr (.ref x) name v) Q E s:=by
 obtain⟨a,g,d,t,F⟩:=s;dsimp only at X m h;have I:InstAt a x c C none:=⟨m,f,by obtain⟨_,_,d,_⟩:=c;cases i;rfl,by rw[j];exact True.intro⟩;refine set_plain X I hs (AV (s:=⟨a,g,d,t+1,F⟩) X I T O λb=>?_);obtain⟨Y,J,p⟩:=any_some U;obtain⟨Z,P,R,z⟩:=c;dsimp only at f j i;subst f j i;have L:=looks_clsIn (M:=model prog w) X J;refine az (da (az (az (wpAny_loadPart m (az (Looks.here (s:=⟨a,g,d,t+1,F⟩) L ?_))))));rw[p];have k:(a.push {cls:=.type "dict",data:=.dict #[]}).get? x=some {cls:=.ref C,data:=.fields vs,slots:=z}:=fy _ m;have n:x≠a.objs.size:=iy (gC m);show wpAny _ _ (if (! true|| ! typeHasDict (.ref C))=true then pure none else (alloc {cls:=Value.type "dict",data:=Data.dict #[]}>>=λd=>update x (λo=>{cls:=o.cls,dict:=some d,data:=o.data,slots:=o.slots})>>=λ_=>dictMade (.ref C) x d)) _ _ _;rw[dh (by simp[typeHasDict])];refine az (wpAny_alloc' ?_);refine az (wpAny_update' k ?_);refine da ?_
 have B:((a.push {cls:=.type "dict",data:=.dict #[]}).update x λo=>{cls:=o.cls,dict:=some a.objs.size,data:=o.data,slots:=o.slots}).get? a.objs.size
   = some {cls:=.type "dict",data:=.dict #[]}:=
  (Heap.get?_update_ne _ _ _ _ n.symm).trans (Heap.get?_push_at rfl rfl)
 have D:((a.push {cls:=.type "dict",data:=.dict #[]}).update x λo=>{cls:=o.cls,dict:=some a.objs.size,data:=o.data,slots:=o.slots}).Ns a.objs.size (λ_=>none):=(iE _ (#[]) _ B rfl (λe S=>absurd S (by simp)) λ_=>rfl)
 show wpAny _ _ (storeInDict a.objs.size (.str name t) name v) _ _ _;unfold storeInDict newKeyGuard;refine az (da (az (wpAny_nsSet1 (Heap.Ns1.of_empty D) λh' l hs=>?_)));obtain⟨W,G,N,q,u,r⟩:=l.count (Within.cons name v Within.nil);refine az (wpAny_lookBehind q (by rw[u];exact pastItsLine_dict (jT r (by rw[je,mQ,sizeLine_eq];lia))) ?_);refine da ?_;refine h h' _ ((hs.2 x n).trans (nk _ k rfl)) l λb o H e=>?_;exact(hs.2 b (iy (gC e))).trans ((Heap.get?_update_ne _ _ _ _ H).trans (fy _ e))
end PySem.W
namespace L2
open PySem PySem.Spec PyProof.Rows
variable{φ:yA->Prop}{yp pos' pos p npos hpos epos:Pos}{y x qual q nm n:Str}{w:yD}{vs dvs:zM}{value:yC}{v g cd a0 D:zX}{us sub ds bm:zH}{tx:TX}{tv ta:TE}{ts:zG}{t f ea e dx b a T L C' C:zW}{suite:List Stmt}{st b₀:Stmt}{sp:Sp}{sn ps N:zC}{scope:Scope}{s1 s' s:zY}{rest hs:List ExceptHandler}{pins:zD}{oe c:Obj}{od dd:zO}{o:HO}{newId:String}{mg:zE}{l:List Env}{k5 k3 k2 k1 k0:zN}{i:Nat}{h₀:ExceptHandler}{hdct ab O:Bool}{h3 h2 h1 h' h base B:yA}{fd:zS}{es:zT}{env:Env}{col:Option Bool}{Z:St}{X:Cx}{Q:Unit->zY->Prop}{P:yB}{M:Model}{K:Frag}{H1 H:Hp}{E' E:XK}{CX:CXT}{A:zZ}
theorem Inv.trackO(I1:Inv X pins Z H1 s1)(I:Inv X pins Z H s)(hn:s1.heap.get? a=none)(y:H a=none)(j:A1h X.prog X.w (upd H a o) s.heap a o):Inv X pins Z (upd H a o) s:=by
 have d:∀b o,s1.heap.get? b=some o->b≠a:=λb o e z=>by rw[z,hn]at e;cases e
 have f:∀b u,H b=some u->upd H a o b=some u:=λb u e=>by rw[dt (gO e y)];exact e
 refine⟨I.ok,I.os,I.bare,⟨I.base.keep,I.base.slot,λb o e n g=>?_,I.base.there,λb l e=>f _ _ (I.base.tups b l e),λb o u e=>f _ _ (I.base.frzs b o u e),λb t e=>?_⟩,I.loc,I.cell,?_,λx c e=>?_,λp k=>?_,λb u e=>?_,I.len⟩
 ·obtain⟨A,h⟩:=I1.base.there b o e g;rw[dt (d b A h)];exact I.base.free b o e n g
 ·obtain⟨m,q⟩:=I.base.tbls b t e;exact⟨m,f _ _ q⟩
 ·obtain⟨m,⟨o,_,_,i,_⟩,_⟩:=I1.loc;rw[dt (d _ o i)];exact I.free
 ·obtain⟨v,o,i,_⟩:=I1.cell x c e;rw[dt (d _ o i)];exact I.freeC x c e
 ·obtain⟨e,n,r⟩:=I.pin p k;have h:=(I1.pin p k).1;exact fI e (by rw[dt (d _ _ h)];exact n) r
 ·by_cases g:b=a
  ·subst g;rw[ck]at e;cases e;exact j
  ·rw[dt g]at e;exact(I.hok b u e).stay (λ_ _ _ q=>q) (λc q=>f _ _ q) λc l q=>f _ _ q
def mD(C t:zW)(d:zO):Obj:={cls:=.ref C,dict:=d,data:=.fields #[.ref t,.none,.none,.none,.bool false,.none]}
def xcN(e C t:zW):HO:=.ext λh=>h.get? e=some (mD C t none)
def xcD(e C t dx:zW):HO:=.ext λh=>h.get? e=some (mD C t (some dx))
theorem C9(q:h.get? e=some (mD C t none)):A1h P w H h e (xcN e C t):=(fI q ⟨_,q⟩ λb a p k=>k _ p)
theorem Dq(q:h.get? e=some (mD C t (some dx))):A1h P w H h e (xcD e C t dx):=(fI q ⟨_,q⟩ λb a p k=>k _ p)
structure qv(K:Frag)(C:zW)(f:Str):Prop where
 sa:findIn K (.ref C) "__setattr__"=some (some (.builtin "object.__setattr__"))
 ov:PySem.W.excOver K C=true
 hd:(clsIn K C).any (·.hasDict)=true
 no:A1l K C f
def Ce(K:Frag)(ta tv:TE)(f:Str):TS:=λD Z H=>tv Z H λy c=>ta Z c λx b=>∃e C t,x=.ref e/\b e=some (xcN e C t)/\qv K C f/\
 ∀a,b a=none->D.nx Z (upd (upd b e (xcD e C t a)) a (.xd [(f,y)]))
theorem EW{o:yC}{f:Str}(J:PE X o ta)(L:PE X value tv)(hs:swapsWith value (some (.Attribute o f pos')) pos.line X.env=pure false):PS X (.Assign [.Attribute o f pos'] value pos) (Ce X.K ta tv f):=by
 intro c s Z H D I h;refine plainObj_wpAny_Assign_Attribute (thn (L c s Z H _ I h) ?_) hs;rintro u B ⟨y,R,I1,F,q⟩;refine thn (J c B Z R _ I1 q) ?_;rintro N d n;refine oy n ?_;clear n;rintro x m I2 p e C t ⟨G,j,i,M⟩;subst G;obtain rfl:N=Value.ref e:=p;obtain⟨O,_,_⟩:=(show A1h X.prog X.w m d.heap e (xcN e C t) from I2.hok e _ j);refine PySem.W.exc_setattr I2.kIn O rfl rfl rfl i.sa i.ov i.no.taker i.hd λh' P l Q A=>?_;have k:m d.heap.objs.size=none:=I2.hok.fresh (fa _);have r:d.heap.objs.size≠e:=(gO j k).symm;have Ia:=I2.write (x:=e) (e:=e) (o:=xcD e C t d.heap.objs.size) (h':=h') (t':=P) (by rw[j];exact True.intro) (.inl rfl) (λb u v z=>A b u v z) ⟨_,l⟩ (Dq l)
 have Ib:=I2.trackO (a:=d.heap.objs.size) (o:=.xd [(f,y)]) Ia (Heap.get?_none_of_le (fa _)) (by rw[dt r];exact k) ⟨_,Q,λg=>by
  by_cases z:g=f
  ·subst z;rw[dn rfl];show B0s (([(g,y)]:zK).lookup g) (some u);simp[List.lookup];exact F
  ·rw[dh z];show B0s (([(f,y)]:zK).lookup g) none;have:(([(f,y)]:zK).lookup g)=none:=by simp[List.lookup,oA.mpr z]
   rw[this]
   exact True.intro⟩
 exact hZ Z _ Ib (M _ k)
theorem Cy(X:K.In h)(q:isFn K (.ref f)=true):∃o,h.get? f=some o/\o.cls=.type "function":=by
 have z:typeIn K (.ref f)=some (.type "function"):=beq_iff_eq.mp q
 cases lk:K.lookup f with
 |none=>simp[typeIn,lk]at z
 |some o=>exact bd o (X _ _ lk) (by simpa[typeIn,lk]using z)
section
variable{k:Nat}
theorem Ha{Q:zW->zW->Hp->Prop}(q:PySem.W.excInG X.K C (some (.ref f)) wM "ValueError.__new__"=true)(G:isFn X.K (.ref f)=true)
  (F:A4u X.prog X.w X.K X.mg X.base CX k f fd ps sp) (S:A5p (k+1) X.A) (M:A7h X.K fd ps ds) (Y:A2k dvs ds) (hx:pd CX X E) (I:Inv X pins Z H s) (r:A2k vs us) (hz:us.length<=sizeLine)
  (h:∀ea ta,H ea=none->sp (.ref ea::(vs++dvs)) (upd H ea (xcN ea C ta)) (λv H2=>v=.non/\Q ea ta H2) E):
  wpAny (model X.prog X.w) X.A (call (.ref C) us) (λv s'=>∃ea ta H2,v=.ref ea/\Inv X pins Z H2 s'/\s.heap.get? ea=none/\Q ea ta H2) X.xe s:=by
 refine oR (yS I.mod.kin q) ?_;rintro nm qn N bs bm x sn O ab y dd k0 k1 k2 ⟨k3,k5,mN,hC,B,J,T⟩;obtain⟨oI,l,j⟩:=Cy I.kIn G;obtain⟨hp,g,d,t,os⟩:=s;refine Kc PySem.F.excBase_ValueError (by decide+kernel) PySem.F.excBase_ValueError (T.keeps I.bk) (I.bk _ _ hC) (B.keeps I.bk) J l j (λD e i=>?_) hz;obtain⟨ta,he,_,_⟩:=i.there
 have n:H e=none:=by
  cases z:H e with
  |none=>rfl
  |some u=>obtain⟨o,U⟩:=(I.hok e u z).at18;have:=i.new;rw[show hp.get? e=some o from U]at this;cases this
 have I1:Inv X pins Z H ⟨D,g,d,t,os⟩:=I.kept (t':=t) (λb o z=>i.keeps b o z);have I2:=I.trackO (a:=e) (o:=xcN e C ta) I1 i.new n (C9 he);have p:=h e ta n;have m:A2k (V.ref e::(vs++dvs)) (Value.ref e::(us++ds)):=.cons rfl (r.append Y)
 have P:(Value.ref e::us++ds).length=ps.length:=by have z:=m.length;rw[F.len _ _ _ _ p]at z;exact z.symm
 refine wpAny_call (codeAny_mono (F.run _ X.stack _ _ ⟨Value.ref e::us,[]⟩ (Value.ref e::(us++ds)) _ _ E (S.make C us []) (I2.env0.make C us []) (M _ (Value.ref e::us) I2.kIn P) m p) λr s' c=>?_)
 cases r with
 |error e'=>exact hx pins Z _ _ e' s' I2 c
 |ok fl=>
  cases fl with
  |ret u=>obtain⟨v,H',I3,R,L,q3⟩:=I2.after c;subst L;exact⟨R,(iE e ta H' rfl I3 i.new q3)⟩
  |next=>exact False.elim c
  |brk=>exact False.elim c
  |cont=>exact False.elim c
end
def ma(H:Hp)(a:zW):Hp:=λb=>if b=a then none else H b
theorem vE(h:b≠a):ma H a b=H b:=by unfold ma;rw[dh h]
theorem Bq(h:ma H a b=some o):b≠a/\H b=some o:=by
 unfold ma at h;by_cases z:b=a
 ·rw[dn z]at h;cases h
 ·rw[dh z]at h;exact⟨z,h⟩
theorem tY(h:H b=none):ma H a b=none:=by
 unfold ma;split
 ·rfl
 ·exact h
theorem Inv.drop(I:Inv X pins Z H s)(e:H a=some (.ext φ)):Inv X pins Z (ma H a) s:=by
 have d:∀b o,H b=some o->o≠.ext φ->ma H a b=some o:=λb o q n=>by rw[vE (iI q e n)];exact q
 refine⟨I.ok,I.os,I.bare,⟨I.base.keep,I.base.slot,λb o q n g=>tY (I.base.free b o q n g),I.base.there,λb f q=>d _ _ (I.base.tups b f q) (λz=>nomatch z),λb o u q=>d _ _ (I.base.frzs b o u q) (λz=>nomatch z),λb h q=>?_⟩,I.loc,I.cell,tY I.free,λx c q=>tY (I.freeC x c q),λp i=>?_,λb o q=>?_,I.len⟩
 ·obtain⟨m,z⟩:=I.base.tbls b h q;exact⟨m,d _ _ z (λz=>nomatch z)⟩
 ·obtain⟨q,n,r⟩:=I.pin p i;exact fI q (tY n) r
 ·obtain⟨_,z⟩:=Bq q;exact(I.hok b o z).stay (λ_ _ _ q=>q) (λc q=>d _ _ q (λz=>nomatch z)) λc f q=>d _ _ q (λz=>nomatch z)
theorem DZ(I:Inv X pins Z H s)(d:X.ex=[])(B1:∀b o,X.s₀.heap.get? b=some o->b∉X.fs->∃o',B.get? b=some o')(c:B.StaysIn s.heap)(a:B.StaysIn h')(e:s.heap.UpToSlots h'):Un X.fs [] X.H₀ H X.s₀.heap h':=Ft I d (Un.kept λ_ _ z=>z) B1 c a e
section
variable{outer:List Env}
end
section
variable{E:zA}{N:zW}{bs:zH}
theorem B5{x:Sem zX}{Q:Flow->zY->Prop}(a:bm.contains (.type "BaseException")=true)(j:A.handled=none)
  (h:wpAny M A x (λv s₁=>∃e t dx,v=.ref e/\s₁.heap.get? C=some (excClassObj nm q C N bs bm hdct sn sub ab col dd k0 k1 k2 k3 k5 newId)/\s₁.heap.get? e=some (mD C t dx)/\E (.ref e) s₁) E s):
  wpAny M A (raiseStmt env (some x) none) Q E s:=by
 have b:(Value.ref C::bm).contains (.type "BaseException")=true:=by rw[List.contains_cons,a,Bool.or_true]
 unfold raiseStmt;refine az (iV h (λv s₁ i=>?_) λ_ _ x=>x);refine gW i ?_;clear i;rintro e t dx rfl c f k;obtain⟨m,g,d,l,n⟩:=s₁;unfold mD at f
 repeat (first|with_reducible refine np f ?_|with_reducible refine np c ?_|(with_reducible refine wpAny_isSubtype_exc c ?_;rw[b])|wp_step)
 exact wpAny_raiseNew_none j k
end
structure MkX(K:Frag)(C f:zW):Prop where
 xe:PySem.W.excInG K C (some (.ref f)) wM "ValueError.__new__"=true
 fn:isFn K (.ref f)=true
 kp:keepIn K (.ref C)=true
section
variable{k:Nat}
end
def C2(o o':Obj):Prop:=∀b,o.data=.fields b->∃a,o'.data=.fields a/\a[2]?=b[2]?
theorem C2.refl(o:Obj):C2 o o:=λa e=>(bd a e rfl)
theorem C2.trans{a b:Obj}(x:C2 a b)(y:C2 b c):C2 a c:=λf e=>by obtain⟨j,g,i⟩:=x f e;obtain⟨k,d,h⟩:=y j g;exact bd k d (h.trans i)
def KD(h h':yA):Prop:=∀b o,h.get? b=some o->∃a,h'.get? b=some a/\a.cls=o.cls/\a.dict=o.dict/\C2 o a
theorem KD.refl(h:yA):KD h h:=λb o e=>(iF o e rfl rfl (C2.refl o))
theorem KD.trans(a:KD h1 h2)(b:KD h2 h3):KD h1 h3:=λx o e=>by obtain⟨j,h,f,l,d⟩:=a x o e;obtain⟨c,g,i,m,k⟩:=b x j h;exact iF c g (i.trans f) (m.trans l) (d.trans k)
theorem KD.field{o:Obj}(c:h.get? T=some o)(d:o.data=.fields ts)(f:zG->Array zX)(i:∀a:zG,(f a)[2]?=a[2]?):KD h (h.update T (Obj.mapFields f)):=λb u e=>by
 by_cases z:b=T
 ·subst z;rw[c]at e;cases e;exact iF _ (nk _ c (Obj.isFreed_of_fields (Obj.data_mapFields d _))) (Obj.cls_mapFields _ _) (by obtain⟨_,_,k,_⟩:=o;cases d;rfl) λg j=>(bd _ (Obj.data_mapFields j _) (i g))
 ·exact iF u ((nq _ _ (Ne.symm z)).trans e) rfl rfl (C2.refl u)
def sQ(h B:yA)(e:zW)(cls a0:zX):Prop:=(∃a b,h.get? e=some a/\(a.cls=cls/\b[0]?=some a0)/\a.data=.fields b/\b[1]?=some .none)\/∃c,h.TracedAtW B e cls a0 c
section
variable{E:zA}{outer:List Env}{cls:zX}
theorem xT{vs:zG}{x:zX}(C:A.frames=some (env::outer))(t:s.heap.FunFrames B (env::outer))(R:env.frame=some L)(u:s.heap.get? e=some oe)(st:B.StaysIn s.heap)(hn:B.get? e=none)(p:oe.data=.fields vs)(J:1<vs.size)(h0:vs[0]?=some a0)
  (h:∀h',Heap.NotedW B (env::outer) e oe.cls a0 (rawInt L) s.heap h'->KD s.heap h'->Q () {s with heap:=h'}):
  wpAny M A (do let a<-frameOf env;let pl<-entryPlaceOf L O;let b<-EntryCells.newEntry x a .none (rawInt L) .none pl;setField (.ref e) 1 b) Q E s:=by
 have P:e∉(env::outer).filterMap (·.frame):=λm=>by obtain⟨_,o,H,d⟩:=t.mem m;rw[u]at H;cases H;exact d vs p
 refine az (wpAny_frameOf_fun C t R λg j=>az (wpAny_entryPlaceOf λpl n=>?_));unfold EntryCells.newEntry newFields;refine az (kB ?_ (n.sizeOk5 _ _ _ _ _));have r:g.get? e=some oe:=(j.2.1 e P).trans u;have l:B.StaysIn g:=λb o c=>(j.2.1 b λm=>by rw[(t.mem m).1]at c;cases c).trans (st b o c);generalize hob:({cls:=.type "traceback",dict:=none,data:=.fields ([x,.ref L,.none,rawInt L,.none]++(if pl.isEmpty then List.replicate 6 Value.none else pl)).toArray}:Obj)=ob;have f:=fy (h:=g) ob r;have F:({cls:=Value.type "traceback",data:=.fields ([x,.ref L,.none,rawInt L,.none]++(if pl.isEmpty then List.replicate 6 Value.none else pl)).toArray}:Obj)=ob:=hob;refine oS (by first|exact f|(rw[F];exact f)) p J ?_
 try rw[F]
 have i:g.objs.size≠e:=jC (gC r);have I:=Obj.data_mapFields p (·.setIfInBounds 1 (Value.ref g.objs.size));have q:=nk (Obj.mapFields (·.setIfInBounds 1 (Value.ref g.objs.size))) f (Obj.isFreed_of_fields I);have w:((g.push ob).update e (Obj.mapFields (·.setIfInBounds 1 (Value.ref g.objs.size)))).get? g.objs.size=some ob:=(nq _ _ (Ne.symm i)).trans (hU g (by rw[<-hob];rfl));have v:∀b o,b≠e->g.get? b=some o->((g.push ob).update e (Obj.mapFields (·.setIfInBounds 1 (Value.ref g.objs.size)))).get? b=some o:=λb o N c=>(nq _ _ (Ne.symm N)).trans (fy _ c)
 have K:∀b o,s.heap.get? b=some o->(∀vs,o.data≠.fields vs)->b≠e:=λb o c d z=>by rw[z,u]at c;cases c;exact d vs p
 refine h _ (jx (λb o c=>v b o (λz=>by rw[z,hn]at c;cases c) (l b o c)) (t.of_keeps λb o c d=>?_) ?_ λb o c d=>?_) λb o c=>?_
 ·obtain⟨D,k⟩:=j.2.2 b o c;exact bd _ (v b _ (K b o c d) k) rfl
 ·refine lC _ _ g.objs.size ob _ q ⟨Obj.cls_mapFields _ _,?_⟩ I (by simp[J]) l.fresh i w (by rw[<-hob]) ?_
  ·rw[rP (by decide)];exact h0
  ·rcases n with rfl|⟨_,_,_,_,_,_,_,rfl⟩<;>simp
 ·obtain⟨D,k⟩:=j.2.2 b o c;exact⟨D,v b _ (K b o c d) k⟩
 ·by_cases z:b=e
  ·subst z;rw[u]at c;cases c;exact iF _ q (Obj.cls_mapFields _ _) (by obtain⟨_,_,S,_⟩:=oe;cases p;rfl) λG y=>(bd _ (Obj.data_mapFields y _) (rP (by decide)))
  ·obtain⟨D,k⟩:=j.2.2 b o c;exact iF _ (v b _ z k) rfl rfl λG y=>(bd G y rfl)
theorem xm(k:A.frames=some (env::outer))(m:env.frame=some L)(st:B.StaysIn s.heap)(hn:B.get? e=none)(x:s.heap.FunFrames B (env::outer))(j:sQ s.heap B e cls a0)
  (v:∀h',Heap.HeldW B (env::outer) e cls a0 L h'->s.heap.UpToSlots h'->KD s.heap h'->Q () {s with heap:=h'}):wpAny M A (noteFrame (.ref e) env) Q E s:=by
 rcases j with ⟨G,u,l,⟨J,p⟩,C,h⟩|⟨z,j⟩
 ·subst J;unfold noteFrame;simp only [m];refine az (iO l C h ?_);rw[dh (show¬((Value.none != Value.none)=true)by simp)];exact xT k x m l st hn C (qf.mp h).1 p λh' N t=>v h' (jx N.1 hn N.2.1 N.2.2.1) N.2.2.2 t
 ·by_cases hfl:(z==rawInt L)=true
  ·have H:z=rawInt L:=beq_iff_eq.mp hfl;subst H;exact wpAny_noteFrame_againW m j (v s.heap (jx st hn x j) (Heap.UpToSlots.refl _) (KD.refl _))
  ·refine ko (id j) ?_;rintro G u T K I l ⟨i,p⟩ D h ⟨r,w,n,d,y⟩;subst i;unfold noteFrame;simp only [m];refine az (iO l D h ?_);rw[dn (show(Value.ref T != Value.none)=true by simp)];refine az (iO n d y ?_);rw[dh hfl];refine az (oS n d (qf.mp y).1 ?_);have f:∀b,b≠T->(s.heap.update T (Obj.mapFields (·.setIfInBounds 3 Value.none))).get? b=s.heap.get? b:=λb c=>nq _ _ (Ne.symm c)
   have F:∀b o,s.heap.get? b=some o->(∀u,o.data≠.fields u)->b≠T:=λb o c a q=>by rw[q,n]at c;cases c;exact a I d
   exact xT k (x.of_keeps λb o c a=>(bd o ((f b (F b o c a)).trans c) rfl)) m ((f e (Ne.symm w)).trans l) (λb o g=>(f b λq=>by rw[q,r]at g;cases g).trans (st b o g)) hn D (qf.mp h).1 p
    λh' N t=>v h' (jx N.1 hn N.2.1 N.2.2.1) (λb o c a=>N.2.2.2 b o ((f b (F b o c a)).trans c) a) ((KD.field n d _ λ_=>rP (by decide)).trans t)
theorem uP{n:zO}(st:B.StaysIn s.heap)(F:s.heap.FunFrames B l)(w:s.heap.TracedAtW B e cls a0 D)
  (G:∀h',B.StaysIn h'->h'.FunFrames B l->h'.TracedAtW B e cls a0 (n.elim .none λf=>rawInt f)->s.heap.UpToSlots h'->KD s.heap h'->Q () {s with heap:=h'}):wpAny M A (setFlight (.ref e) n) Q E s:=by
 refine ko w ?_;clear w;rintro z p T H t y k u r ⟨i,j,m,a,C⟩;have v:3<t.size:=(qf.mp C).1;have g:∀b,b≠T->(s.heap.update T (Obj.mapFields (·.setIfInBounds 3 (n.elim Value.none λf=>rawInt f)))).get? b=s.heap.get? b:=λb d=>nq _ _ (Ne.symm d)
 have x:∀b o,s.heap.get? b=some o->(∀p,o.data≠.fields p)->b≠T:=λb o d c q=>by rw[q,m]at d;cases d;exact c t a
 unfold setFlight;refine az (iO y u r ?_);rw[dn (show(Value.ref T != Value.none)=true by simp)];refine oS m a v (G _ (λb o h=>(g b λq=>by rw[q,i]at h;cases h).trans (st b o h)) (F.of_keeps λb o d c=>(bd o ((g b (x b o d c)).trans d) rfl)) ?_ (λb o d c=>⟨o.slots,(g b (x b o d c)).trans d⟩) (KD.field m a _ λ_=>rP (by decide)));exact lC z p T _ _ ((g e (Ne.symm j)).trans y) k u r i j (nk _ m (Obj.isFreed_of_fields (Obj.data_mapFields a _))) (Obj.data_mapFields a _) (by simp[v])
theorem Dw(b:A.frames=some (env::outer))(m:env.frame=some L)(st:B.StaysIn s.heap)(hn:B.get? e=none)(g:s.heap.FunFrames B (env::outer))(f:sQ s.heap B e cls a0)
  (n:∀h',Heap.FlyingW B outer e cls a0 h'->s.heap.UpToSlots h'->KD s.heap h'->Q () {s with heap:=h'}):wpAny M A (leaving env (.ref e)) Q E s:=by
 unfold leaving;refine az (xm b m st hn g f λd a j h=>uP (s:={s with heap:=d}) a.1 a.2.2.1 a.2.2.2 λp k l o i c=>?_)
 exact n p (jx k hn l.2.2 o) (j.trans i) (h.trans c)
end
theorem FlyingW.exc{cls:zX}(f:Heap.FlyingW B l e cls a0 h):sQ h B e cls a0:=.inr ⟨.none,f.2.2.2⟩
def DictAt(h:yA)(e:zW)(od:zO):Prop:=∃o a,h.get? e=some o/\o.dict=od/\o.data=.fields a/\a[2]?=some .none
theorem DictAt.kd(d:DictAt h e od)(k:KD h h'):DictAt h' e od:=by obtain⟨o,j,l,g,b,i⟩:=d;obtain⟨c,q,_,n,m⟩:=k _ o l;obtain⟨a,p,f⟩:=m j b;exact gL c a q (n.trans g) p (f.trans i)
def CXD(P:yB)(w:yD):CXT:=λa H s E e c=>
 ∃(f C:zW)(i:zX)(h:zO)(d:Hp)(B:yA),e=.ref f/\c.os=s.os/\AllBare c.gens/\Un (frs a) [] H d s.heap c.heap/\HOk P w d c.heap/\
  (∀b o,s.heap.get? b=some o->b∉frs a->∃g,B.get? b=some g)/\(∀b o,d b=some o->∃g,B.get? b=some g)/\
  Heap.FlyingW B a f (.ref C) i c.heap/\DictAt c.heap f h/\E (.ref C) h d
section
variable{outer:List Env}
def ym(X:Cx)(C:zW)(E:XK):Prop:=∀(a:zD)(Z:St)(H:Hp)(s:zY)(b c:zW)(d:zO),Inv X a Z H s->H b=some (.ext λh=>h.get? b=some (mD C c d))->X.s₀.heap.get? b=none->
 E (.ref C) d (ma H b)->X.xe (.ref b) s
theorem EC:ym (oE (CXD P w) P w K mg base N qual scope f cd A outer s H E) C E:=by
 intro G Z r c a t d I k L q;obtain⟨g,_,_⟩:=(show A1h _ _ r c.heap a (.ext λh=>h.get? a=some (mD C t d)) from I.hok a _ k);have I':=I.drop k
 have J:∀b o,c.heap.get? b=some o->b≠a->b∉frs (envOfC qual scope s.heap.objs.size f cd::outer)->(hideAll c.heap (a::frs (envOfC qual scope s.heap.objs.size f cd::outer))).get? b=some o:=λb o e l i=>PySem.W.hideAll_get _ e (λm=>(gP.mp m).elim l i)
 have x:∀b o,ma r a b=some o->∃o',(hideAll c.heap (a::frs (envOfC qual scope s.heap.objs.size f cd::outer))).get? b=some o':=λb o z=>by obtain⟨l,D⟩:=Bq z;obtain⟨u,R⟩:=(I.hok b o D).at18;refine⟨u,J b u R l λm=>?_⟩;have:=I.stkFree b m;rw[D]at this;cases this
 have n:∀b o,s.heap.get? b=some o->b∉frs outer->b∉frs (envOfC qual scope s.heap.objs.size f cd::outer):=λb o e i m=>by
  rcases gP.mp m with z|z
  ·exact absurd (gC e) (by rw[z];exact Nat.lt_irrefl _)
  ·exact i z
 have F:∀b o,s.heap.get? b=some o->b∉frs outer->∃o',(hideAll c.heap (a::frs (envOfC qual scope s.heap.objs.size f cd::outer))).get? b=some o':=λb o e i=>by obtain⟨y,M⟩:=I.base.there b o e (by show b∉([]:zQ);simp);refine⟨y,J b y M (λz=>?_) (n b o e i)⟩;rw[z]at e;rw[show s.heap.get? a=none from L]at e;cases e
 have j:(hideAll c.heap (a::frs (envOfC qual scope s.heap.objs.size f cd::outer))).StaysIn c.heap:=λb o z=>PySem.W.of_hideAll _ z
 refine Dw (B:=hideAll c.heap (a::frs (envOfC qual scope s.heap.objs.size f cd::outer))) (cls:=.ref C) (a0:=.ref t) I.ok.frames rfl j (PySem.W.hideAll_none _ kX)
  (PySem.W.funFrames_hide I.stack λp k b i=>jZ _ (List.mem_filterMap.mpr (bd p k i))) (.inl (gL _ _ g ⟨rfl,rfl⟩ rfl rfl)) λS v O Q=>?_
 exact nM a C (.ref t) d (ma r a) _ rfl I.os I.bare (DZ I' rfl F j v.1 O) (xI I'.hok x j v.1) F x (fI v (DictAt.kd (h:=c.heap) (gL _ _ g rfl rfl rfl) Q) q)
theorem Fun.okD{k:Nat}(F:Fun K x qual st f fd)(S:gQ N ps (gE st))
  (b:∀(a:zX)(A:zZ)(outer:List Env)(s:zY)(H:Hp)(vs:zM)(Q:VK)(E:XK),A5p k (A.deeper (envOfC qual (gE st) s.heap.objs.size f a))->sp vs H Q E->
   ∃t,PSs (oE (CXD P w) P w K mg base N qual (gE st) f a A outer s H E) (mE st) t/\t {nx:=λ_ H'=>Q .non H',rt:=Q} (start N vs) H) (e:∀vs H Q E,sp vs H Q E->vs.length=ps.length:=by walk_at"ln"):A4u P w K mg base (CXD P w) (k+1) f fd ps sp:=by
 refine kK F.ex ?_;rintro p o kV g n m a l j rfl i d;exact xf i d S e λA outer s H vs Q E h c=>b a A outer s H vs Q E h c
end
theorem DI(q:xcG ea C od h):A1h P w H h ea (.ext (xcG ea C od)):=by obtain⟨o,a,r⟩:=id q;exact fI q ⟨o,r.1⟩ (by rintro d e ⟨o,a,c,b⟩ k;exact hZ o a (k o c) b)
structure C0s(X:Cx)(pins:zD)(Z:St)(H:Hp)(B:yA)(ea C:zW)(a0:zX)(od:zO)(s:zY):Prop where
 inv:Inv X pins Z H s
 fl:Heap.FlyingW B X.stack ea (.ref C) a0 s.heap
 d:DictAt s.heap ea od
 no:H ea=none
 go:∀h',B.StaysIn h'->s.heap.UpToSlots h'->xcG ea C od h'->Inv X pins Z H {s with heap:=h'}/\Inv X pins Z (upd H ea (.ext (xcG ea C od))) {s with heap:=h'}
theorem xB(h:Heap.FlyingW B X.stack ea (.ref C) a0 s.heap)(d:DictAt s.heap ea od):xcG ea C od s.heap:=by obtain⟨f,k,e,c,l,_⟩:=h.first;obtain⟨o,a,b,j,g,i⟩:=d;rw[e]at b;cases b;exact iM f a e c j g i
theorem C0s.cls(F:C0s X pins Z H B ea C a0 od s):xcF ea C s.heap:=by obtain⟨a,b,e,c,d,_⟩:=F.fl.first;exact eu a b e c d
def PHD(X:Cx)(hs:List ExceptHandler)(C:zW)(th:zO->zW->TS):Prop :=∀(a:zD)(Z:St)(H:Hp)(B:yA)(b:zW)(d:zX)(c:zO)(s:zY)(D:kR),C0s X a Z H B b C d c s->th c b D Z H->wpAny (model X.prog X.w) X.A (handleBy (.ref b) X.env hs) (SP X a D) X.xe s
section
variable{E:zA}{cls:zX}
theorem Jq(f:Heap.FlyingW B l e cls a0 s.heap)(d:∀h',Heap.FlyingW B l e cls a0 h'->s.heap.UpToSlots h'->KD s.heap h'->Q () {s with heap:=h'}):wpAny M A (setFlight (.ref e) none) Q E s :=uP f.1 f.2.2.1 f.2.2.2 λh' a b g h c=>d h' (jx a f.2.1 b g) h c
end
def Dx(i:Nat)(C:zW)(ts:zW->TS):zO->zW->TS:=λc b D Z H=>ts b {nx:=λZ' a=>D.nx (Z'.set i none) a,rt:=D.rt,bk:=λZ' a=>D.bk (Z'.set i none) a,ct:=λZ' a=>D.ct (Z'.set i none) a} (Z.set i (some (.ref b))) (upd H b (.ext (xcG b C c)))
theorem FA{ts:zW->TS}(G:Gl X y)(o:X.mg y=some (.ref C'))(q:exmOne X.K (.ref C) (.ref C')=some true)(c:X.N.Nodup)(hi:X.N[i]?=some n)(b:X.env.scope.names.lookup n=some .local)
  (hs:∀ea,PSs (X.held ea) (b₀::suite) (ts ea)) (A:(y==("__debug__":Str))=false:=by decide):
  PHD X (.ExceptHandler (some (.Name y yp)) (some n) (b₀::suite) hpos::rest) C (Dx i C ts):=by
 intro e Z H B ea J L s D F h;refine wpAny_handleBy_cons (codeAny_handlers_test ?_) (by intro q;cases q);refine pQ (X:=X.held ea) (F.inv.held ea) G o ?_ A;refine(DU F.inv.kIn F.cls q).here (codeAny_handlers_suite_as ?_);refine Jq F.fl λl g m p=>?_;have w:=(F.go l g.1 m (xB (s:={s with heap:=l}) g (F.d.kd p))).2;refine rf (X:=X.held ea) (v:=.ref ea) (w.held ea) c hi (.inl b) rfl (λt I2=>?_) (.inr b)
 refine iV (hs ea e t _ _ _ I2 h) (λf I j=>?_) λ_ _ z=>False.elim z;dsimp only
 cases f with
 |next=>obtain⟨Z',a,I',r⟩:=j;exact tV (I'.unheld F.inv.ok) c hi b λk I4=>(hZ _ a I4 r)
 |brk=>obtain⟨Z',a,I',r⟩:=j;exact tV (I'.unheld F.inv.ok) c hi b λk I4=>(hZ _ a I4 r)
 |cont=>obtain⟨Z',a,I',r⟩:=j;exact tV (I'.unheld F.inv.ok) c hi b λk I4=>(hZ _ a I4 r)
 |ret u=>obtain⟨v,Z',a,I',x,r⟩:=j;exact tV (I'.unheld F.inv.ok) c hi b λk I4=>(jQ v _ a I4 x r)
def Rsd(X:Cx)(pins:zD)(Z:St)(E:XK)(e:zX)(s':zY):Prop:=∃(a C:zW)(f:zX)(d:zO)(c:Hp)(B:yA),e=.ref a/\B.StaysIn s'.heap/\B.get? a=none/\s'.heap.FunFrames B X.stack/\sQ s'.heap B a (.ref C) f/\DictAt s'.heap a d/\c a=none/\X.A.frames=some X.stack/\
 (∀b,B.StaysIn b->s'.heap.UpToSlots b->xcG a C d b->Inv X pins Z c {s' with heap:=b}/\Inv X pins Z (upd c a (.ext (xcG a C d))) {s' with heap:=b})/\E (.ref C) d c
def uL(X:Cx)(hs:List ExceptHandler)(D:kR)(Z:St):XK:=λc e d=>∃(C:zW)(b:zO->zW->TS),c=.ref C/\PHD X hs C b/\∀a,d a=none->b e a D Z d
section
variable{e:yC}
theorem IP{D:kR}(b:X.stack=X.env::X.outer/\X.env.frame=some X.env.locals)(r:Rsd X pins Z (uL X (h₀::hs) D Z) g s'):
  wpAny (model X.prog X.w) X.A (noteFrame g X.env) (λ_ s₂=>wpAny (model X.prog X.w) X.A (setFlight g none) (λ_ s₃=>wpAny (model X.prog X.w) X.A (handleBy g X.env (h₀::hs)) (SP X pins D) X.xe s₃) X.xe s₂) X.xe s':=by
 refine ml r ?_;clear r;rintro h C t x L B rfl N o O H ⟨I,f,d,v,q⟩;obtain⟨C',R,M,F,q⟩:=q;cases M;have n:X.A.frames=some (X.env::X.outer):=by rw[<-b.1];exact d
 refine xm n b.2 N o (by rw[<-b.1];exact O) H λK a l k=>?_;refine uP (s:={s' with heap:=K}) a.1 a.2.2.1 a.2.2.2 λh5 e m J j i=>?_
 have c:Heap.FlyingW B X.stack h (.ref C) t h5:=⟨e,o,by rw[b.1];exact m,J⟩;have u:=(I.kd k).kd i;have p:=l.trans j;have Q:xcG h C x h5:=xB (X:=X) (s:={s' with heap:=h5}) c u;exact F pins Z L B h t x _ D ⟨(v h5 e p Q).1,c,u,f,λy G P z=>v y G (p.trans P) z⟩ (q h f)
def PXD(X:Cx)(e:yC)(t:TX):Prop :=∀(a:zD)(s:zY)(Z:St)(H:Hp)(Q:VK)(E:XK),Inv X a Z H s->t Z H Q E->wpAny (model X.prog X.w) X.A (eval e X.env) (EP X a Z Q) (Rsd X a Z E) s
theorem Rsd.of_call(I1:Inv X pins Z H1 s1)(h:CXD X.prog X.w X.stack H1 s1 E v s'):Rsd X pins Z E v s':=by
 refine ml h ?_;clear h;rintro A C x N p B rfl G c g j ⟨s,u,f,K,q⟩;have F:C8v X pins Z H1 s1 p B A C x s':=⟨I1,G,c,g,j,s,u,f⟩;have y:∀b:zW,b∉([]:zQ):=λb=>by simp
 refine nM A C x N p B rfl f.1 f.2.1 f.2.2.1 (FlyingW.exc f) K F.no (fI I1.ok.frames (λh5 i H O=>?_) q)
 have d:∀b o,s1.heap.get? b=some o->H1 b=none->b∈frs X.stack->∃t,h5.get? b=some {o with slots:=t}:=λb o e n a=>by obtain⟨t,I⟩:=g.slot b o e n a (y b);obtain⟨_,P,D,M⟩:=I1.stack.mem a;rw[e]at D;cases D;obtain⟨r,l⟩:=H b _ I M;exact⟨r,l⟩
 have L:Un (frs X.stack) [] H1 p s1.heap h5:=by
  refine⟨λb o e n a _=>?_,λb o e n a _=>d b o e n a,g.free,λb o e _=>?_,g.tups,g.frzs,g.tbls⟩
  ·have J:=g.keep b o e n a (y b);obtain⟨k,m⟩:=s b o e a;have l:=f.1 b k m;rw[J]at l;cases l;exact i b o m
  ·by_cases a:b∈frs X.stack
   ·obtain⟨t,q⟩:=d b o e (I1.stkFree b a) a;exact⟨_,q⟩
   ·obtain⟨k,m⟩:=s b o e a;exact⟨k,i b k m⟩
 have I5:Inv X pins Z p {s' with heap:=h5}:=I1.call' (s':={s' with heap:=h5}) G L (xI j u f.1 i) c (ch:=[]) (λb z=>absurd z (by simp))
 exact⟨I5,I1.trackO I5 F.new F.no (DI O)⟩
theorem Fy{k:Nat}{e:yC}{t:TA}(F:A4u X.prog X.w X.K X.mg X.base (CXD X.prog X.w) k f fd ps sp)(o:A5p k X.A)(D:Gl X x)(v:X.mg x=some (.ref f))(G:keepIn X.K (.ref f)=true)(y:A7h X.K fd ps [])
  (J:PA X.nox (e::es) t) (l:(x==("__debug__":Str))=false:=by decide) (C:starEach (e::es) X.env=(false,eval e X.env)::starEach es X.env:=by rfl) (j:(backTo pos (starEach es X.env)).any (·.1)=false:=by rfl):
  PXD X (.Call (.Name x p) (e::es) [] pos) (Dg sp t):=by
 intro a s Z H Q E I h;refine wpAny_Call_Name_kw (pQ I D v ?_ l)
 have B:wpAny (model X.prog X.w) X.A (spliced (backTo pos (starEach (e::es) X.env))) (AP X a Z λg i=>sp g i Q E) (Rsd X a Z E) s :=iV (J pos a s Z H _ (I.wish _) h) (by rintro c m ⟨g,i,I1,r,q⟩;exact eu g i I1.unwish r q) λ_ _ z=>False.elim z
 refine PySem.W.callWith_K (h₀:=X.base) I.ok.mod.kin G (thn B λc m ⟨g,i,I1,r,q⟩=>⟨I1.kIn,?_⟩) C j;have n:c.length=ps.length:=by rw[<-r.length];exact F.len _ _ _ _ q
 have d:=y m c I1.kIn (by simpa using n);rw[lU]at d;refine wpAny_call (codeAny_mono (F.run X.A X.stack m i ⟨c,[]⟩ c g Q E o I1.env0 d r q) λr L b=>?_)
 cases r with
 |error e=>exact Rsd.of_call I1 b
 |ok fl=>
  cases fl with
  |ret u=>exact I1.after b
  |next=>exact False.elim b
  |brk=>exact False.elim b
  |cont=>exact False.elim b
def DJ(X:Cx)(hs:List ExceptHandler)(tx:TX)(i:Nat):TS:=λD Z H=>tx Z H (λv a=>D.nx (Z.set i (some v)) a) (uL X hs D Z)
theorem FV(d:X.stack=X.env::X.outer/\X.env.frame=some X.env.locals)(o:PXD X e tx)(j:X.N.Nodup)(hi:X.N[i]?=some n)(p:Loc X.env.scope n)
  (c:swapsWith e (some (.Name n npos)) epos.line X.env=pure false:=by rfl) (t:X.fn n=true\/X.env.scope.names.lookup n=some .local:=by first|exact .inl rfl|exact .inr rfl|assumption):
  PS X (.Try [.Assign [.Name n npos] e epos] (h₀::hs) [] [] pos) (DJ X (h₀::hs) tx i):=by
 intro a s Z H D I h;refine wpAny_Try_except (iV (Q:=λf b=>f=.next/\∃Z' g,Inv X a Z' g b/\D.nx Z' g) (E:=Rsd X a Z (uL X (h₀::hs) D Z)) ?_ (λf b q=>?_) λu b l=>IP d l)
 ·refine wpAny_execs_cons (wpAny_Assign_Name (thn (o a s Z H _ _ I h) ?_) c);rintro v b ⟨y,r,I1,m,k⟩;exact rf I1 j hi p m (λw I2=>qe (kW rfl _ r I2 k)) t
 ·obtain⟨rfl,q⟩:=q;exact qe q
end
end L2
namespace PySem.W
open PySem PySem.Spec PySem.Calls PyProof.Rows PySem.Builtin.ObjectAttr PySem.Builtin
section
variable{prog:yB}{w:yD}{A:zZ}{s:zY}{K:Frag}{x C:zW}
theorem exc_setattr2{E:zA}{e:Obj}{dx:zW}{vs:zG}{m:zE}{ks:zC}{name:Str}{v:zX}{Q:Unit->zY->Prop}(X:K.In s.heap)(u:s.heap.get? x=some e)(f:e.cls=.ref C)(i:e.dict=some dx)(j:e.data=.fields vs)
  (hn:s.heap.Ns1 dx m) (wi:Within m ks) (U:ks.length<=1000) (hs:findIn K (.ref C) "__setattr__"=some (some (.builtin "object.__setattr__"))) (O:excOver K C=true) (H:takerIn K C name=some none) (R:(clsIn K C).any (·.hasDict)=true)
  (h:∀h' tk,h'.Ns1 dx (λy=>if y=name then some v else m y)->(∀b,b≠dx->h'.get? b=s.heap.get? b)->Q () {s with heap:=h',toks:=tk}):
  wpAny (model prog w) A (setAttr (.ref x) name v) Q E s:=by
 obtain⟨c,g,d,t,o⟩:=s;dsimp only at X u h hn;obtain⟨P,_,_,r,_⟩:=id hn;have I:InstAt c x e C (some P):=⟨u,f,by obtain⟨_,_,d,_⟩:=e;cases j;rfl,by rw[i];exact r⟩;refine set_plain X I hs (AV (s:=⟨c,g,d,t+1,o⟩) X I O H λb=>?_);obtain⟨T,D,l⟩:=any_some R;obtain⟨W,J,N,F⟩:=e;dsimp only at f i j;subst f i j;have L:=looks_clsIn (M:=model prog w) X D;refine az (da (az (az (wpAny_loadPart u (az (Looks.here (s:=⟨c,g,d,t+1,o⟩) L ?_))))));rw[l];refine da (a:=some dx) ?_;show wpAny _ _ (storeInDict dx (.str name t) name v) _ _ _;unfold storeInDict newKeyGuard;refine az (da (az (wpAny_nsSet1 (s:=⟨c,g,d,t+1,o⟩) hn λh' k hs=>?_)));obtain⟨S,z,G,n,q,p⟩:=k.count (Within.cons name v wi);refine az (wpAny_lookBehind n (by rw[q];exact pastItsLine_dict (jT p (by rw[je,sizeLine_eq];lia))) ?_);refine da ?_;exact h h' _ k λb B=>hs.2 b B
theorem Ec{M:Model}{h:yA}{b:Obj}{dx:zW}{cd:ClassData}{m:zE}{name:Str}(X:K.In h)(s:h.get? x=some b)(d:b.cls=.ref C)(f:b.dict=some dx)(j:notCls b=true)(r:clsIn K C=some cd)(v:cd.hasDict=true)(hn:h.Ns dx m):
  Looks M h (inOwnDict name (.ref x)) (m name):=by
 refine gW hn λo i w l p k a=>?_;clear hn
 have e:ownOf cd (some o) name=some (m name):=by
  unfold ownOf;rw[v,dn rfl];unfold lookIn;dsimp only;rw[p];dsimp only;rw[<-a name];unfold nsFind findBy;rw[<-Array.find?_toList]
  cases q:i.toList.find? (λe=>e.key.isStr name)with
  |some g=>rfl
  |none=>
   have:i.toList.any (·.refKey)=false:=by rw[List.any_eq_false];intro g c;obtain⟨n,t,u⟩:=k g (Array.mem_toList_iff.mp c);simp[DictEntry.refKey,u]
   rw[this];rfl
 exact looks_own X ⟨s,d,j,by rw[f];exact l⟩ r e
theorem exc_get{E:zA}{e:Obj}{dx:zW}{vs:zG}{m:zE}{name:Str}{v:zX}{b:Bool}{Q:zA}(X:K.In s.heap)(c:XcIn K C)(f:s.heap.get? x=some e)(a:e.cls=.ref C)(l:e.dict=some dx)(k:e.data=.fields vs)
  (u:(clsIn K C).any (·.hasDict)=true) (r:findIn K (.ref C) name=some none) (hn:s.heap.Ns dx m) (p:m name=some v) (n:handedIn v=true) (h:Q v {s with toks:=s.toks+1}):
  wpAny (model prog w) A (getAttr (.ref x) name b) Q E s:=by
 obtain⟨j,g,d,t,B⟩:=s;dsimp only at X f hn;obtain⟨y,q,i⟩:=any_some u;have o:notCls e=true:=by obtain⟨_,_,d,_⟩:=e;cases k;rfl
 have Lo:=Ec (M:=model prog w) (name:=name) X f a l o q i hn;rw[p]at Lo;have Lf:Looks (model prog w) j (find (.ref x) (.ref C) name) (.value v):=(looks_findIn X r).andThen ((show Looks (model prog w) j (getOf none) none from .now).andThen ((show Looks (model prog w) j (dataDescriptor? none none) none from .now).andThen (Lo.andThen (Looks.tag .now))));unfold getAttr;refine az (wpAny_mkText ?_);refine xk X c f a (λA R z=>codeAny_call_builtin F.attr_ValueError.ga.plain F.entry_bexc_ga (yZ X c f a ?_)) n h;unfold Builtin.«object.__getattribute__»
 repeat (any_goals (first|assumption|(with_reducible refine Lf.at ?_)|(with_reducible refine np f ?_;rw[a])|wp_step))
end
end PySem.W
namespace L2
open PySem PySem.Spec PyProof.Rows
variable{yp pos' pos p hpos cpos G:Pos}{y x qual n g:Str}{w:yD}{vs dvs:zM}{value tg o e a:yC}{v u:Tok}{us ds:zH}{tv ta:TE}{tk t' j i:Nat}{t:TA}{suite:List Stmt}{st b₀:Stmt}{sp:Sp}{scope:Scope}{s1 s:zY}{rest:List ExceptHandler}{ps N:zC}{prog P:yB}{pins:zD}{od:zO}{mg mA:zE}{lo hi c:Int}{it f ea dx C' C:zW}{h' h base:yA}{fs':zK}{fd:zS}{es:zT}{cd:zX}{Z:St}{X:Cx}{R:It->Hp->Prop}{Q:zN->zY->Prop}{K:Frag}{H:Hp}{E' E:XK}{CX:CXT}{A:zZ}
def Db(K:Frag)(ta tv:TE)(f:Str):TS:=λD Z H=>tv Z H λy d=>ta Z d λx c=>∃e C t b a,x=.ref e/\c e=some (xcD e C t b)/\c b=some (.xd a)/\a.length<=100/\a.lookup f=none/\qv K C f/\D.nx Z (upd c b (.xd (a++[(f,y)])))
theorem Hv{fs:zK}(r:∀f,B0s (fs.lookup f) (mA f)):PySem.Within mA (fs.map (·.1)):=λg a=>by
 have:=r g
 cases q:fs.lookup g with
 |none=>rw[q]at this;cases z:mA g with|none=>exact absurd z a|some u=>rw[z]at this;exact this.elim
 |some v=>exact gS.mpr (bd (g,v) (PySem.mem_of_lookup q) rfl)
theorem IG{fs:zK}{f:Str}{y:V}(h:fs.lookup f=none):(fs++[(f,y)]).lookup g=if g=f then some y else fs.lookup g:=by
 induction fs with
 |nil=>
  rw[List.nil_append,mR,List.lookup_nil];by_cases z:g=f
  ·rw[dn z,z];simp
  ·rw[dh z,oA.mpr z]
 |cons p r ih=>
  obtain⟨k,v⟩:=p;rw[mR]at h
  cases hk:(f==k)with
  |true=>rw[hk]at h;cases h
  |false=>
   rw[hk]at h;rw[oT,mR,mR]
   cases hg:(g==k)with
   |true=>have b:g=k:=beq_iff_eq.mp hg;have a:f≠k:=oA.mp hk;rw[dh (λz=>a (Eq.trans z.symm b))]
   |false=>exact ih h
section
variable{fs:zK}
theorem Inv.xdput(I:Inv X pins Z H s)(f:H dx=some (.xd fs))(k:∀b u,b≠dx->s.heap.get? b=some u->h'.get? b=some u)(i:∃u,h'.get? dx=some u)(h:A1h X.prog X.w (upd H dx (.xd fs')) h' dx (.xd fs')):Inv X pins Z (upd H dx (.xd fs')) {s with heap:=h',toks:=t'}:=by
 have g:∀b,H b=none->b≠dx:=λb n z=>by rw[z,f]at n;cases n
 have d:∀b o,H b=some o->(∀m,o≠.xd m)->upd H dx (.xd fs') b=some o:=λb o q n=>by rw[dt (λz=>by rw[z,f]at q;cases q;exact n _ rfl)];exact q
 refine I.un ⟨λb u q n _ _=>k b u (g b n) q,λb u q n _ _=>⟨u.slots,k b u (g b n) q⟩,λb u q n _=>by rw[dt (g b n)];exact n,λb u q _=>?_,λb l q=>d b _ q (λ_ z=>nomatch z),λb u l q=>d b _ q (λ_ z=>nomatch z),λb p q=>⟨#[],by rw[d b _ q (λ_ z=>nomatch z)];simp⟩⟩ λb u q=>?_
 ·by_cases z:b=dx
  ·subst z;exact i
  ·exact⟨u,k b u z q⟩
 ·by_cases z:b=dx
  ·subst z;rw[ck]at q;cases q;exact h
  ·rw[dt z]at q;refine(I.hok b u q).stay (λc v a e=>k c v (λj=>?_) e) (λc q=>d _ _ q (λ_ z=>nomatch z)) λc l q=>d _ _ q (λ_ z=>nomatch z);rcases a with a|a
   ·exact z (a.symm.trans j)
   ·rw[j,f]at a;cases a
end
theorem vF{f:Str}(L:PE X o ta)(N:PE X value tv)(hs:swapsWith value (some (.Attribute o f pos')) pos.line X.env=pure false):PS X (.Assign [.Attribute o f pos'] value pos) (Db X.K ta tv f):=by
 intro a s Z H D I h;refine plainObj_wpAny_Assign_Attribute (thn (N a s Z H _ I h) ?_) hs;rintro u B ⟨y,U,I1,F,q⟩;refine thn (L a B Z U _ I1 q) ?_;rintro Q m p;refine oy p ?_;clear p;rintro x l I2 v e C t ⟨d,j,G,J,n,Y,M,c,P⟩;subst G;obtain rfl:Q=Value.ref e:=v;obtain⟨R,_,_⟩:=(show A1h X.prog X.w l m.heap e (xcD e C t d) from I2.hok e _ J);obtain⟨mA,O,r⟩:=(show A1h X.prog X.w l m.heap d (.xd j) from I2.hok d _ n);refine PySem.W.exc_setattr2 I2.kIn R rfl rfl rfl O (Hv r) (by rw[dm];lia) c.sa c.ov c.no.taker c.hd λh' S k T=>?_;obtain⟨E,_,_,i,_⟩:=id k;refine hZ Z _ (I2.xdput (fs':=j++[(f,y)]) (h':=h') (t':=S) n (λb u A z=>(T b A).trans z) ⟨_,i⟩ (bd _ k λg=>?_)) P;rw[IG M];by_cases z:g=f
 ·rw[dn z,dn z];exact F
 ·rw[dh z,dh z];exact r g
structure qK(K:Frag)(C:zW)(f:Str):Prop where
 c:PySem.W.XcIn K C
 hd:(clsIn K C).any (·.hasDict)=true
 no:findIn K (.ref C) f=some none
def CI(K:Frag)(ta:TE)(f:Str):TE:=λZ H Q=>ta Z H λx a=>∃b C d c v,x=.ref b/\a b=some (.ext (xcG b C (some d)))/\a d=some (.xd c)/\c.lookup f=some v/\qK K C f/\Q v a
theorem pP{f:Str}(n:X.K=K)(N:PE X e ta)(t:attributeBase e f X.env (eval e X.env)=eval e X.env):PE X (.Attribute e f pos) (CI K ta f):=by intro a s Z H Q I h;refine yk t (thn (N a s Z H _ I h) ?_);rintro u i j;refine oy j ?_;clear j;rintro x d I1 m ea C b ⟨p,v,z,A,B,l,g,q⟩;subst z n;obtain rfl:u=Value.ref ea:=m;obtain⟨⟨o,O,J,y,L,D,_⟩,_,_⟩:=(show A1h X.prog X.w d i.heap ea (.ext (xcG ea C (some b))) from I1.hok ea _ A);obtain⟨F,G,r⟩:=(show A1h X.prog X.w d i.heap b (.xd p) from I1.hok b _ B);obtain⟨u,M,k⟩:=B0s.some_of (v:=v) (o:=F f) (by rw[<-l];exact r f);exact PySem.W.exc_get I1.kIn g.c J y L D g.hd g.no G.ns M (AJ k) (eu v d (I1.tok _) k q)
theorem xcG.kit(p:xcG ea C od h):PySem.W.KitE ea C h:=by obtain⟨o,c,b,a,_⟩:=p;exact bd o b a
def Cj(K:Frag):zM->Hp->VK->Prop:=λd H Q=>∃a C e c b,d=[.ref a,c]/\H a=some (.ext (xcG a C e))/\PySem.W.XcIn K C/\(∀u,A2b c u->kitOne K (.ref C) u=some b)/\Q (.bl b) H
theorem vP(e:X.K=K):mZ X (.builtin "isinstance") (Cj K):=by subst e;intro d s Z H p n Q I r h;refine ko h ?_;clear h;rintro g C o c b rfl l j k q;obtain⟨u,f,rfl,i,a⟩:=qr r;cases i;exact PySem.W.kia_one (PySem.W.kitx_exc j) I.kIn (xcG.kit (I.hok g _ l).1) (k f a) (λz=>nomatch z) λm=>(eu (.bl b) H (I.tok m) rfl q)
def EO(C:zW)(sp:Sp)(dvs:zM)(E E':XK)(t:TA):TS:=λ_ Z H=>t Z H λc e=>c.length<=sizeLine/\
 ∀a b,e a=none->sp (.ref a::(c++dvs)) (upd e a (xcN a C b)) (λv f=>v=.non/\∃d,f a=some (.ext λh=>h.get? a=some (mD C b d))/\E (.ref C) d (ma f a)) E'
section
variable{k:Nat}
theorem Gx(hT:ym X C E)(M:MkX X.K C f)(F:A4u X.prog X.w X.K X.mg X.base CX k f fd ps sp)(hr:A5p (k+1) X.A)(hg:Gl X x)(hm:X.mg x=some (.ref C))(S:A7h X.K fd ps ds)(hd:A2k dvs ds)(hx:pd CX X E')(L:X.calm=true)
  (y:X.ex=[]) (U:PA X (e::es) t) (m:(x==("__debug__":Str))=false:=by decide) (he:starEach (e::es) X.env=(false,eval e X.env)::starEach es X.env:=by rfl) (n:(backTo cpos (starEach es X.env)).any (·.1)=false:=by rfl):
  PS X (.Raise (some (.Call (.Name x G) (e::es) [] cpos)) none pos) (EO C sp dvs E E' t):=by
 intro b s Z H D I h;refine oR (yS I.mod.kin M.xe) ?_;rintro nm B N bs bm hdct sn sub ab col dd k0 k1 k2 ⟨k3,k5,mN,hC,hN,hi,T⟩
 have c:wpAny (model X.prog X.w) X.A (eval (.Call (.Name x G) (e::es) [] cpos) X.env) (λv u=>∃e t dx,v=.ref e/\u.heap.get? C=some (excClassObj nm B C N bs bm hdct sn sub ab col dd k0 k1 k2 k3 k5 "ValueError.__new__")/\u.heap.get? e=some (mD C t dx)/\X.xe (.ref e) u) X.xe s:=by
  refine wpAny_Call_Name_kw (pQ I hg hm ?_ m);refine PySem.W.callWith_K (h₀:=X.base) I.ok.mod.kin M.kp (thn (U cpos b s Z H _ I h) λus s1 ⟨vs,H1,I1,r,Y,q⟩=>⟨I1.kIn,?_⟩) he n;refine thn (Ha (Q:=λa j i=>∃d,i a=some (.ext λh=>h.get? a=some (mD C j d))/\E (.ref C) d (ma i a)) M.xe M.fn F hr S hd hx I1 r (r.length▸Y) q) ?_;rintro v P O;refine gW O ?_;clear O;rintro a j i R I2 hn ⟨d,g,hE⟩;obtain⟨l,_,_⟩:=(show A1h X.prog X.w i P.heap a (.ext λh=>h.get? a=some (mD C j d)) from I2.hok a _ g)
  have h0:X.s₀.heap.get? a=none:=by
   cases z:X.s₀.heap.get? a with
   |none=>rfl
   |some o=>obtain⟨o1,J⟩:=I1.base.there a o z (by rw[y];simp);rw[hn]at J;cases J
  exact iE a j d R (I2.bk _ _ hC) l (hT b Z i P a j d I2 g h0 hE)
 rw[arm_exec_Raise]
 first|exact az (pD (B5 (C:=C) (nm:=nm) (q:=B) (N:=N) (bs:=bs) (bm:=bm) (hdct:=hdct) (sn:=sn) (sub:=sub) (ab:=ab) (col:=col) (dd:=dd) (k0:=k0) (k1:=k1) (k2:=k2) (k3:=k3) (k5:=k5) (newId:="ValueError.__new__") (T.hasType (by decide+kernel)) (I.ok.hd L) (az (iV c (λv s₃ p=>az (pD (da p))) λ_ _ x=>x))))|(simp only [evalOpt,Option.map];exact az (pD (B5 (C:=C) (nm:=nm) (q:=B) (N:=N) (bs:=bs) (bm:=bm) (hdct:=hdct) (sn:=sn) (sub:=sub) (ab:=ab) (col:=col) (dd:=dd) (k0:=k0) (k1:=k1) (k2:=k2) (k3:=k3) (k5:=k5) (newId:="ValueError.__new__") (T.hasType (by decide+kernel)) (I.ok.hd L) (az (iV c (λv s₃ p=>az (pD (da p))) λ_ _ x=>x)))))
end
section
variable{k:Nat}
end
abbrev tz(A:zZ):zZ:={A with handled:=none}
def A7t(k:Nat)(A:zZ):Prop:=A5p k (tz A)
theorem A7t.mono{k:Nat}(r:A7t k A)(h:j<=k):A7t j A:=A5p.mono r h
theorem A7t.deeper{k:Nat}(r:A7t (k+1) A)(env:Env):A7t k (A.deeper env):=A5p.deeper r env
theorem A7t.depth{k:Nat}(r:A7t k A):A.depth<recursionLimit:=A5p.depth (A:=tz A) r
theorem A7t.units{k:Nat}(r:A7t k A):A.units+64<cLine:=A5p.units (A:=tz A) r
theorem A5p.held{k:Nat}(r:A5p k A)(h:zN):A7t k (A.mark h):=⟨rfl,r.dp,r.un,r.gd⟩
noncomputable abbrev cxH(CX:CXT)(P:yB)(w:yD)(K:Frag)(mg:zE)(base:yA)(N:zC)(qual:Str)(scope:Scope)(f:zW)(cd:zX)(A:zZ)(outer:List Env)(s:zY)(H:Hp)(E:XK):Cx :={oE CX P w K mg base N qual scope f cd A outer s H E with calm:=false}
theorem Ih{outer:List Env}
  (S:gQ N ps scope) (b:C9o P w K mg base A outer s H) (c:vs.length=ps.length) (r:A2k vs us)
  (x:InCallC s s.heap.objs.size (bindL (envOfC qual scope s.heap.objs.size f cd).kindOf (ps.zip us) λ_=>none) (cellsFrom (s.heap.objs.size+1) scope.names []) (bindC (envOfC qual scope s.heap.objs.size f cd).kindOf (ps.zip us) λ_=>none) s1):
  Inv (cxH CX P w K mg base N qual scope f cd A outer s H E) [] (start N vs) H s1:=by
 have d:C9o P w K mg base (tz A) outer s H:=⟨b.frames,b.mod,b.bs,b.bsz,b.funs,b.frf,b.hok,b.bare⟩;have I:=AM (CX:=CX) (E:=E) S rfl d c r x;have a:=I.ok
 exact⟨⟨a.mod,a.kind,a.glob,a.blt,a.above,a.inj,a.has,a.cab,(λz=>nomatch z),Around.frames_deeper b.frames,a.stk,a.exf,a.bs,a.bsz,a.noex,a.exfs,a.funs,a.frf⟩,
  I.os,I.bare,I.base,I.loc,I.cell,I.free,I.freeC,I.pin,I.hok,I.len⟩
section
variable{k:Nat}
end
section
variable{E:zA}
theorem HQ{h:zW}{k:Obj}{vs:zG}{x e:Int}(q:A.handled=some (.ref h))(i:s.heap.get? h=some k)(n:k.data=.fields vs)(h2:vs[2]?=some .none)(d:IsRangeIter s.heap it x c e)(f:c<=0)
  (r:∀h',Heap.ExtBut it s.heap h'->Q none {s with heap:=h'}):wpAny (model prog w) A (pyNext (.ref it)) Q E s:=by
 have l:s.TypeIs (.ref it) "range_iterator":=(bd _ d rfl);unfold pyNext
 refine az (wpAny_attempt (lT (name:=Str.ofString "__next__") l F.slot_range_iterator_next
  (jD F.slot_range_iterator_next l F.entry_range_iterator_next ?_ (F.args_range_iterator_next_1 _))))
 show wpAny _ _ (field (.ref it) 0>>=_) _ _ s;refine az (iO d rfl (x:=rawInt x) rfl ?_);show wpAny _ _ (field (.ref it) 1>>=_) _ _ s;refine az (iO d rfl (x:=rawInt c) rfl ?_);show wpAny _ _ (field (.ref it) 2>>=_) _ _ s;refine az (iO d rfl (x:=rawInt e) rfl ?_);show wpAny _ _ (if c<=0 then _ else _) _ _ s;rw[dn f];refine az (wpAny_rule ?_);refine az ?_;show wpAny _ _ (newExc (.type "StopIteration") []>>=_) _ _ _;refine az ?_;simp only [newExc,newTuple];refine az (kB ?_ (by size_fits));refine az (m:=firstArgMember _ _) (wpAny_of_eq (a:=Value.none) (by first|rfl|(simp only [firstArgMember];rfl)) ?_);refine kB ?_ (by size_fits);have p:h<s.heap.objs.size:=gC i;refine BP (h:=h) q ?_ (fy _ (fy _ i)) n h2 (hU _ rfl) rfl (by simp;lia) ?_
 ·exact iy (by rw[lR];exact Nat.lt_succ_of_lt p)
 refine az (wpAny_isInstance (T:="StopIteration") (b:=true) (bd _ (nk _ (hU _ rfl) rfl) rfl) isSubtype_stop ?_);refine da (r _ λb o _ j=>?_);have g:=gC j;exact(nq _ _ (jC (by rw[lR];exact Nat.lt_succ_of_lt g))).trans (fy _ (fy _ j))
end
abbrev nZ(ea:zW):zZ->Prop:=λA=>A.handled=some (.ref ea)
def qk(ea:zW)(lo:Int)(n:Nat):It:=⟨λi _=>i<n,λi H x a=>a=H/\x=.int (lo+i),λi H=>n<=i/\∃C b,H ea=some (.ext (xcG ea C b))⟩
theorem IR(ea it:zW)(lo:Int)(n:Nat):A7i (nZ ea) P w K tg (qk ea lo n) [it] it (λi h=>IsRangeIter h it (lo+(i:Nat)*1) ((n:Int)-(i:Nat)) 1) where
 mem:=by simp
 obj:=λi h a b d=>by
  have e:b=it:=by simpa using d
  subst e
  exact⟨_,a,λv z=>by
   have L:Data.fields _=Data.cell v:=z
   cases L⟩
 keep:=λi h f a k=>k it (by simp) _ a
 item:=by
  intro X q t m A i c s Z H E I l a j;subst q t m;obtain⟨x,y,F,r,p,u⟩:=l it (by simp);have j:i<n:=j;refine wpAny_pyNext_range_item a (by lia) λf g D=>?_;have I1:Inv X c Z H {s with heap:=f,toks:=s.toks+1}:=I.turned (λb o d e=>(D.2 b d).trans e) x y r p u
  have B:lo+((i+1:Nat):Int)*1=lo+(i:Int)*1+1:=by lia
  have J:(n:Int)-((i+1:Nat):Int)=(n:Int)-(i:Int)-1:=by lia
  refine bd _ rfl (qq (s:={s with heap:=f,toks:=s.toks+1}) (n:="range_iterator") g rfl rfl (by decide) (iM (.int (lo+i)) H I1 ⟨s.toks,?_⟩ ⟨rfl,rfl⟩ ?_ λb d=>(l b d).1))
  ·rw[Int.mul_one]
  ·show IsRangeIter f it (lo+((i+1:Nat):Int)*1) ((n:Int)-((i+1:Nat):Int)) 1;rw[B,J];exact g
 done:=by intro X q t m A i c s Z H E I l a j;subst q t m;obtain⟨x,y,F,r,p,u⟩:=l it (by simp);obtain⟨T,C,R,Q⟩:=j;obtain⟨⟨o,S,N,_,_,M,O⟩,_,_⟩:=(show A1h X.prog X.w H s.heap ea (.ext (xcG ea C R)) from I.hok ea _ Q);exact HQ A N M O a (by lia) λf G=>⟨rfl,I.turned (t':=s.toks) (λb o d e=>G b o d e) x y r p u⟩
 self:=λ_ _ _ _ _ a h=>wpAny_pyIter_rangeiter a h
theorem Hn{E:zA}{t:Tok}(I:Inv X pins Z H s)(h1: -(2^62)<=lo)(h2:lo<2^62)(d: -(2^62)<=hi)(f:hi<2^62)
  (q:R (qk ea lo (hi-lo).toNat) H):wpAny (model X.prog X.w) X.A (pyIter (.ref s.heap.objs.size)) (uv (nZ ea) X pins Z tg R) E {s with heap:=s.heap.push {cls:=.type "range",data:=.fields #[.int lo t,.int hi u,.int 1 v]},toks:=tk}:=by
 refine wpAny_pyIter_range (IsRange.new ..) (small_one h1 h2 d f) ?_;have I1:Inv X pins Z H {s with heap:=s.heap.push {cls:=.type "range",data:=.fields #[.int lo t,.int hi u,.int 1 v]},toks:=tk}:=I.kept λb o e=>fy _ e
 refine⟨(s.heap.push {cls:=.type "range",data:=.fields #[.int lo t,.int hi u,.int 1 v]}).objs.size,[(s.heap.push {cls:=.type "range",data:=.fields #[.int lo t,.int hi u,.int 1 v]}).objs.size],_,_,H,rfl,
  I1.kept (t':=tk) λb o e=>fy _ e,IR ea _ lo (hi-lo).toNat,?_,λb g=>?_,q⟩
 ·have c:(((hi-lo).toNat:Nat):Int)=Builtin.Range.rangeSize lo hi 1:=by rw[rangeSize_one];split<;>lia
  have a:=hU (s.heap.push {cls:=.type "range",data:=.fields #[.int lo t,.int hi u,.int 1 v]}) (o:={cls:=.type "range_iterator",data:=.fields #[rawInt lo,rawInt (Builtin.Range.rangeSize lo hi 1),rawInt 1]}) rfl;rw[<-c]at a⊢
  simpa using a
 ·obtain rfl:=gX.mp g;exact I1.fpOk (fa _) (I1.hok.fresh (fa _))
def Cr(ea:zW)(ta:TA):TI:=λZ H R=>ta Z H λb a=>∃j:Int,b=[.int j]/\-(2^62)<=j/\j<2^62/\R (qk ea 0 j.toNat) a
theorem He{ta:TA}(i:Gl X "range")(f:X.mg "range"=none)(k:PA X [a] ta)(hs:starEach [a] X.env=[(false,eval a X.env)]:=by rfl):PIP (nZ ea) X tg (.Call (.Name "range" p) [a] [] pos) (Cr ea ta):=by
 intro b s Z H R I h;refine Call_ (nF I i f boot_range (PyProof.Rows.callWith_type1 (thn (k pos b s Z H _ I h) ?_) hs rfl));rintro l m ⟨n,o,I1,g,c⟩;obtain⟨j,e,c,d,q⟩:=c;subst e
 cases g with
 |cons r rr=>
  cases rr
  obtain⟨t,rfl⟩:=r;exact call_range_1 (Hn I1 (by lia) (by lia) c d (by simpa using q))
structure qo(ea:zW)(P:yB)(w:yD)(K:Frag)(mg:zE)(base:yA)(CX:CXT)(k:Nat)(f:zW)(fd:zS)(ps:zC)(sp:Sp):Prop where
 len:∀vs H Q E,sp vs H Q E->vs.length=ps.length
 run:∀(A:zZ)(outer:List Env)(s:zY)(H:Hp)(args:Args)(us:zH)(vs:zM)(Q:VK)(E:XK),A7t k A->A.handled=some (.ref ea)->C9o P w K mg base A outer s H->BindsTo s fd args (ps.zip us)->A2k vs us->sp vs H Q E->
  codeAny (model P w) A (.call (.ref f) args) (CR CX outer P w H s Q E) s
theorem Fun.okE{k:Nat}(F:Fun K x qual st f fd)(S:gQ N ps (gE st))
  (g:∀(a:zX)(A:zZ)(outer:List Env)(s:zY)(H:Hp)(vs:zM)(Q:VK)(E:XK),A7t k (A.deeper (envOfC qual (gE st) s.heap.objs.size f a))->nZ ea (A.deeper (envOfC qual (gE st) s.heap.objs.size f a))->sp vs H Q E->
   ∃t,PSs (cxH iS P w K mg base N qual (gE st) f a A outer s H E).nox (mE st) t/\t {nx:=λ_ H'=>Q .non H',rt:=Q} (start N vs) H) (l:∀vs H Q E,sp vs H Q E->vs.length=ps.length:=by walk_at"ln"):qo ea P w K mg base iS (k+1) f fd ps sp:=by
 refine kK F.ex ?_;rintro oc od kV Y pm an a ct U rfl M p;refine⟨l,λA outer s H B D vs Q E C hh m L r i=>?_⟩;have c:∀b o,base.get? b=some o->s.heap.get? b=some o:=λb o e=>(m.bs b o e).1;have j:=m.mod.kin.keeps c;have T:=m.mod.nolimit.keeps c;have X:vs.length=ps.length:=l _ _ _ _ i
 have d:∀y∈ps.zip D,(gE st).names.lookup y.1=some .local\/((gE st).names.lookup y.1=some .cell/\((cellsFrom (s.heap.objs.size+1) (gE st).names []).lookup y.1).isSome=true):=by rintro⟨n,v⟩ hy;exact(S.par n (List.of_mem_zip hy).1).imp id λq=>⟨q,PySem.W.cellsFrom_some _ _ _ (.inl q)⟩
 refine codeAny_call_function (A7t.depth C) (j _ _ M) rfl S.co S.gen rfl
  (PySem.W.codeRec_of j p) (L _ _ _ _ (wpAny_newFunctionEnv_cells S.kind d λG he O x=>?_))
 cases he
 refine⟨T.keeps x.toInCall.keep,codeAny_func ?_⟩;obtain⟨t,z,Z⟩:=g a A outer s H vs Q E (C.deeper _) hh i;have z:=PSs.nox z;have I:=Ih (CX:=iS) (E:=E) S m X r x;refine iV (z [] O (start N vs) H _ I Z) (λR s' h=>?_) λe s' h=>h
 cases R with
 |ret u=>obtain⟨v,Z',H',J,rv,q⟩:=h;exact mM v H' J.os J.bare J.base J.hok rv q
 |next=>obtain⟨Z',H',J,q⟩:=h;exact mM .non H' J.os J.bare J.base J.hok rfl q
 |brk=>obtain⟨_,_,_,q⟩:=h;exact False.elim q
 |cont=>obtain⟨_,_,_,q⟩:=h;exact False.elim q
section
variable{k:Nat}
theorem pS(F:qo ea X.prog X.w X.K X.mg X.base CX k f fd ps sp)(n:A7t k X.A)(L:nZ ea X.A)(J:Gl X x)(v:X.mg x=some (.ref f))(M:keepIn X.K (.ref f)=true)(y:A7h X.K fd ps ds)(z:A2k dvs ds)(D:pd CX X E)
  (N:PA X (e::es) t) (d:(x==("__debug__":Str))=false:=by decide) (C:starEach (e::es) X.env=(false,eval e X.env)::starEach es X.env:=by rfl) (c:(backTo pos (starEach es X.env)).any (·.1)=false:=by rfl):
  PE X (.Call (.Name x p) (e::es) [] pos) (uH sp dvs E t):=by
 intro a s Z H Q I h;refine wpAny_Call_Name_kw (pQ I J v ?_ d);refine PySem.W.callWith_K (h₀:=X.base) I.ok.mod.kin M (thn (N pos a s Z H _ I h) λb i ⟨G,l,I1,r,q⟩=>⟨I1.kIn,?_⟩) C c;have j:=r.append z;have m:(b++ds).length=ps.length:=by rw[<-j.length];exact F.len _ _ _ _ q
 refine wpAny_call (codeAny_mono (F.run X.A X.stack i l ⟨b,[]⟩ (b++ds) (G++dvs) Q E n L I1.env0 (y i b I1.kIn m) j q) λr o g=>?_);rcases r with e|B
 ·exact D a Z l i e o I1 g
 ·cases B with|ret u=>exact I1.after g|_=>exact False.elim g
end
end L2
namespace HT
open PySem PySem.Spec PyProof.Rows L2
section
variable{prog:yB}{w:yD}{A:zZ}{E:zA}{s:zY}
end
end HT
namespace L2
open PySem PySem.Spec PyProof.Rows
variable{α:Type}{y x:Int}{w:yD}{te:TE}{tc:TT}{sp:Sp}{s:zY}{q d:zI}{ps:zC}{prog:yB}{i:Nat}{g:TG}{fd:zS}{f b a D:zW}{Z₀:St}{X:Cx}{QD:Hp->Prop}{Q E:zA}{P:PySem.Fin->zY->Prop}{J:It}{H:Hp}{A:zZ}
theorem yE{f:α->V}{ys:List α}:kM (ys.map f) none (some (i:Int))=(ys.take i).map f:=by
 unfold kM;have b:HT.sIx (ys.map f).length 0 none=0:=rfl;have a:HT.sIx (ys.map f).length (ys.map f).length (some (i:Int))=min i (ys.map f).length:=HT.sIx_nat _ _ _;rw[b,a,List.drop_zero,Nat.sub_zero,List.map_take];by_cases h:i<=(ys.map f).length
 ·rw[Nat.min_eq_left h]
 ·rw[Nat.min_eq_right (by lia),nN (fa _),nN (by lia)]
theorem Iv(n:Nat)(Pv:Nat->List V->Hp->Prop)(h0:Pv 0 [] (upd H D (.lst [])))(h:∀i ys H,i<n->Pv i ys H->J.go i H)(f:∀ys H,Pv n ys H->J.stop n H)
  (hs:∀i ys H,i<n->Pv i ys H->∀x c,J.yld i H x c->g x Z₀ c λZ4 H4=>A2l Z₀ Z4/\tc Z4 H4 λb a=>if b=true then te Z4 a (λy a=>a D=some (.lst ys)/\ys.length<sizeLine/\Pv (i+1) (ys++[y]) (upd a D (.lst (ys++[y]))))else Pv (i+1) ys a) (j:∀ys H,Pv n ys H->QD H):
  ∃W:Nat->Nat->Hp->Prop,(∃m,W 0 m (upd H D (.lst [])))/\∀i m H2,W i m H2->
   (J.stop i H2/\QD H2)\/(J.go i H2/\∃(N:VK)(M:Hp->Prop),(∀y a,N y a->∃xs,a D=some (.lst xs)/\xs.length<sizeLine/\∃d,d<m/\W (i+1) d (upd a D (.lst (xs++[y]))))/\(∀a,M a->∃d,d<m/\W (i+1) d a)/\
    ∀x c,J.yld i H2 x c->g x Z₀ c λZ4 H4=>A2l Z₀ Z4/\tc Z4 H4 λb a=>if b=true then te Z4 a N else M a):=by
 refine bd (λi m H=>m=n-i/\i<=n/\∃ys,Pv i ys H) (pZ n (by simp) (jm _) [] h0) ?_;rintro i m H2 ⟨rfl,k,ys,p⟩;by_cases hlt:i<n
 ·exact .inr (jp (h i ys H2 hlt p) (λy a=>a D=some (.lst ys)/\ys.length<sizeLine/\Pv (i+1) (ys++[y]) (upd a D (.lst (ys++[y])))) (λa=>Pv (i+1) ys a) (λy a q=>(rK ys q.1 q.2.1 (n-(i+1)) (by lia) rfl hlt _ q.2.2)) (λa q=>(iF (n-(i+1)) (by lia) rfl hlt ⟨_,q⟩)) λx c z=>hs i ys H2 hlt p x c z)
 ·have e:i=n:=by lia
  subst e;exact .inl ⟨f ys H2 p,j ys H2 p⟩
open PySem PySem.Spec PyProof.Rows SA
section
variable{k:Nat}
theorem B9f:bootBuiltins "sorted"=some (.builtin "sorted"):=by decide+kernel
end
def nw(le:Bool)(a b:zI):Bool:=if le=true then ! iC b a else iC a b
theorem GU(le:Bool)(x:Int)(a ms:zI):nw le (x::a) (x::ms)=nw le a ms:=by
 unfold nw
 conv=>lhs;unfold iC
 rw[dn rfl,dn rfl]
theorem Ey(le:Bool)(h:¬x=y)(a b:zI):nw le (x::a) (y::b)=decide (x<y)/\decide (x<=y)=decide (x<y):=by
 unfold nw;have e:decide (x<=y)=decide (x<y):=by rw[decide_eq_decide];lia
 refine⟨?_,e⟩
 have d:iC (x::a) (y::b)=decide (x<y):=by
  conv=>lhs;unfold iC
  rw[dh h]
 have c:iC (y::b) (x::a)=decide (y<x):=by
  conv=>lhs;unfold iC
  rw[dh λz=>h z.symm]
 rw[d,c];cases le
 ·rfl
 ·show(! decide (y<x))=decide (x<y);by_cases z:x<y
  ·rw[jl z,ir (by lia)];rfl
  ·rw[ir z,jl (by lia)];rfl
def cmpF(le:Bool):Builtin:=if le=true then Builtin.«tuple.__le__» else Builtin.«tuple.__lt__»
theorem Jm{le:Bool}{ms:zI}(Z:B4e s.heap (.ref a) q)(Y:B4e s.heap (.ref b) ms)(h:P (.done (.ret (.bool (nw le q ms)))) s):
  wpAny (model prog w) A (cmpF le ⟨[.ref a,.ref b],[]⟩) P E s:=by
 refine jM Z λa' oa O na ea U a0 L F=>?_;clear Z;cases ea;refine jM Y λb' ob R nb eb H M K B=>?_;clear Y;cases eb;have N:s.TypeIs (.ref b) "tuple":=(bd ob H M)
 have D:∀(m n:Nat)(d f:zI),nw le d f=nw le q ms->m+f.length=n+d.length->(d=[]\/f=[])->(if le=true then decide (m<=n)else decide (m<n))=nw le q ms:=λm n d f e J ez=>by
  rw[<-e];unfold nw;rcases ez with rfl|rfl
  ·cases f with
   |nil=>
    simp only [mQ]at J;cases le
    ·rw[dh ij,dh ij];exact ir (by lia)
    ·rw[dn rfl,dn rfl];exact jl (by lia)
   |cons y r=>
    simp only [mQ,je]at J;cases le
    ·rw[dh ij,dh ij];exact jl (by lia)
    ·rw[dn rfl,dn rfl];exact jl (by lia)
  ·cases d with
   |nil=>
    simp only [mQ]at J;cases le
    ·rw[dh ij,dh ij];exact ir (by lia)
    ·rw[dn rfl,dn rfl];exact jl (by lia)
   |cons y r=>
    simp only [mQ,je]at J;cases le
    ·rw[dh ij,dh ij];exact ir (by lia)
    ·rw[dn rfl,dn rfl];exact ir (by lia)
 have X:=GU le;have W:=λ{x y:Int}(h:¬x=y)=>Ey le h;generalize nw le=C at X W D h;cases le
 case' false=>have G:∀(n m:Int)(t p:Tok)(Q:zA),¬n=m->Q (.bool (decide (n<m))) s->wpAny (model prog w) A (richCompare .Lt (.int n t) (.int m p)) Q E s:=λn m t p Q _ h=>lt_int h
 case' true=>have G:∀(n m:Int)(t p:Tok)(Q:zA),¬n=m->Q (.bool (decide (n<m))) s->wpAny (model prog w) A (richCompare .LtE (.int n t) (.int m p)) Q E s:=λn m t p Q hn h=>le_int (by rw[show decide (n<=m)=decide (n<m)by rw[decide_eq_decide];lia];exact h)
 all_goals
  show wpAny _ _ (isInstance (.ref b) (.type "tuple")>>=_) _ _ s;refine az (wpAny_isInstance N isSubtype_tuple_tuple ?_);simp only [Bool.not_true,Bool.false_eq_true,if_false];refine az (wpAny_tupleItemsOf U L ?_);refine az (wpAny_tupleItemsOf H K ?_);refine az ?_
  refine wpAny_forIn_list _
   (λk r T=>r.1=none/\T=s/\∃d f i j,k=List.zip i j/\IntsAre i d/\IntsAre j f/\C d f=C q ms/\O.size+f.length=R.size+d.length)
   _ ?_ ?_ _ _ ⟨rfl,rfl,q,ms,O.toList,R.toList,rfl,F,B,rfl,by
    have l1:=F.length;have l2:=B.length;rw[Array.length_toList]at l1 l2
    lia⟩
  ·rintro⟨u,v⟩ k r T ⟨S,rfl,d,f,i,j,z,l,o,I,g⟩
   cases l with
   |nil=>simp at z
   |@cons n t xs'' ns'' hx''=>
    cases o with
    |nil=>simp at z
    |@cons m p ys'' ms'' hy''=>
     simp only [List.zip_cons_cons,List.cons.injEq,Prod.mk.injEq]at z;obtain⟨⟨rfl,rfl⟩,rfl⟩:=z;refine az (wpAny_eqBool_int ?_);by_cases hk:n=m
     ·subst hk;rw[show(n==n)=true by simp];simp only [Bool.not_true,Bool.false_eq_true,if_false];refine da (fI rfl rfl (jP ns'' ms'' xs'' ys'' rfl hx'' hy'' ?_ (by simp only [je]at g;lia)));rw[<-I,X]
     ·rw[show(n==m)=false by simpa using hk];simp only [Bool.not_false,if_true];have c:=W hk ns'' ms'';rw[<-I,c.1]at h;refine az (wpAny_rule (az (G n m t p _ hk ?_)));exact az (da (da (da h)))
  ·rintro⟨r1,r2⟩ T ⟨S,rfl,d,f,i,j,z,l,o,I,g⟩;simp only at S;subst S;refine da ?_
   have:=D O.size R.size d f I g (by
    cases l with
    |nil=>exact .inl rfl
    |cons _ _ _=>
     cases o with
     |nil=>exact .inr rfl
     |cons _ _ _=>simp at z)
   rw[<-this]at h;exact h
theorem B4e.typeIs{b:zI}(x:B4e s.heap (.ref a) b):s.TypeIs (.ref a) "tuple":=by refine ku x ?_;clear x;rintro f o g ⟨n,e,c,d,_⟩;cases e;exact bd o c d
theorem ET{g:zI}(i:A.units<cLine)(c:B4e s.heap (.ref a) d)(f:B4e s.heap (.ref b) g)(h:Q (.bool (iC d g)) s):wpAny (model prog w) A (compareOp .Lt (.ref a) (.ref b)) Q E s:=by
 show wpAny _ _ (richCompare .Lt (.ref a) (.ref b)) Q E s
 exact wpAny_richCompare_same_room (op:=.Lt) (B4e.typeIs c) (B4e.typeIs f) PySem.F.slot_tuple_lt
  (jD PySem.F.slot_tuple_lt (B4e.typeIs c) PySem.F.entry_tuple_lt (Jm (le:=false) c f (eh _ rfl (λe=>nomatch e) h)) (PySem.F.args_tuple_lt_2 _ _)) (by lia)
end L2
namespace SA
open PySem PyProof.Rows
section
variable{prog:yB}{w:yD}{A:zZ}{E:zA}{s:zY}
structure Ordd(prog:yB)(w:yD)(A:zZ)(h:yA)(vs:zH)(lt:zX->zX->Bool):Prop where
 kind:∀(s:zY),(∀b o,h.get? b=some o->o.cls=.type "tuple"->s.heap.get? b=some o)->2<=vs.length->∀(E:zA)(Q:SortKind->zY->Prop),(∀κ,Asks prog w A s κ (λx y=>lt x.1 y.1) (λx=>x.1∈vs)->Q κ s)->wpAny (model prog w) A (keyKind' vs.toArray) Q E s
theorem B4e.keep{h h':yA}{v:zX}{ns:zI}(k:∀b o,h.get? b=some o->o.cls=.type "tuple"->h'.get? b=some o)(x:B4e h v ns):B4e h' v ns:=by refine ku x ?_;clear x;rintro a o f ⟨n,e,d,c,r⟩;exact jc a o f n e (k _ _ d c) c r
end
end SA
namespace L2
open PySem PySem.Spec PyProof.Rows SA
section
variable{X:Cx}
theorem Hc{e its:zH}(p:e.Perm its):∀{ys:zM},A2k ys its->∃zs,A2k zs e/\zs.Perm ys:=by
 induction p with
 |nil=>intro ys h;cases h;exact bd [] .nil (.refl _)
 |cons x _ ih=>
  intro ys h
  cases h with
  |cons r t=>obtain⟨zs,a,b⟩:=ih t;exact bd (_::zs) (.cons r a) (b.cons _)
 |swap x y l=>
  intro ys h
  cases h with
  |cons r t=>
   cases t with
   |cons r' t'=>exact bd _ (.cons r' (.cons r t')) (List.Perm.swap _ _ _)
 |trans _ _ ih1 ih2=>intro ys h;obtain⟨g,a,b⟩:=ih2 h;obtain⟨f,c,d⟩:=ih1 a;exact bd f c (d.trans b)
theorem _root_.SA.Ordd.mono{prog:yB}{w:yD}{A:zZ}{h h':yA}{vs:zH}{lt:zX->zX->Bool}(O:Ordd prog w A h vs lt)(k:∀b o,h.get? b=some o->h'.get? b=some o):Ordd prog w A h' vs lt :=⟨λs a=>O.kind s λb o e c=>a b o (k b o e) c⟩
end
end L2
namespace SN
open PySem SetTable
variable{β α:Type}{zs:List Nat}{xs vs l:zH}{x a S I:zW}{wr fp:zQ}{w:yD}{v:zX}{t:SetTable}{sl' sl pl n m j i ep:Nat}{sh:List Bool}{s' s:zY}{prog:yB}{pins:zD}{op o:Obj}{ld:Bool}{ks:List gz}{key:Nat->gz}{its items acc:zG}{h0 h' h:yA}{es:Array (Int×zX)}{d:zI}{c:Prop}{adr:Nat->zW}{Z:L2.St}{X:Cx}{R:Result->zY->Prop}{Q₁ E:zA}{Q:Bool->zY->Prop}{P:Nat->zX->Prop}{M:Model}{H:Hp}{G:Array GenState->Array GenState->Prop}{A:zZ}
def hJ(m:Nat):Array Nat:=((List.range 8).filter λj=>m.testBit j).toArray
def uD(m:Nat):Bool:=(List.range 8).all λj=>
 if m.testBit j then decide ((hJ m)[below (hJ m) j]?=some j)
 else decide (insertAt (hJ m) (below (hJ m) j) j=hJ (m||| 2^j))&&decide (below (hJ m) j<=(hJ m).size)&&decide (m||| 2^j<256)
theorem zy:∀m:Fin 256,uD m.1=true:=by decide+kernel
theorem wX(a:m<256)(b:j<8)(h:m.testBit j=true):(hJ m)[below (hJ m) j]?=some j:=by have:=zy ⟨m,a⟩;unfold uD at this;have:=List.all_eq_true.mp this j (List.mem_range.mpr b);dsimp only at this;rw[dn h]at this;exact of_decide_eq_true this
theorem De(a:m<256)(b:j<8)(h:m.testBit j=false):insertAt (hJ m) (below (hJ m) j) j=hJ (m||| 2^j)/\below (hJ m) j<=(hJ m).size/\m||| 2^j<256:=by have:=zy ⟨m,a⟩;unfold uD at this;have:=List.all_eq_true.mp this j (List.mem_range.mpr b);dsimp only at this;rw[dh (by rw[h];exact ij),rS,rS]at this;exact fI (of_decide_eq_true this.1.1) (of_decide_eq_true this.1.2) (of_decide_eq_true this.2)
theorem uU(h:(hJ m)[i]?=some j):m.testBit j=true/\j<8:=by
 have:j∈(List.range 8).filter λj=>m.testBit j:=by
  have a:((List.range 8).filter λj=>m.testBit j)[i]?=some j:=by unfold hJ at h;rw[List.getElem?_toArray]at h;exact h
  exact gJ a
 rw[List.mem_filter]at this;exact⟨this.2,List.mem_range.mp this.1⟩
def pst(h:Int):Nat->Nat×Nat|0=>(bits h%8,bits h)|n+1=>leap 7 (pst h n).1 (pst h n).2
def im(h:Int)(n:Nat):Nat:=(pst h n).1
def kN(h:Int)(n:Nat):Probe:=⟨im h n,0,im h n,(pst h n).2,none⟩
theorem vu(h:Int):∀n,im h n<8|0=>Nat.mod_lt _ (by decide)|n+1=>Nat.mod_lt _ (by decide)
theorem yG(i:Nat):runEnd 7 i-i=0:=by
 unfold runEnd;rw[dh (by lia)]
 lia
theorem Fs(a:t.mask=7)(h:Int):t.probeStart h=kN h 0:=by unfold probeStart;rw[a];dsimp only;rw[yG];rfl
theorem xF(a:t.mask=7)(h:Int)(n:Nat):t.advance (kN h n)=kN h (n+1):=by unfold advance;rw[a];have b:¬(kN h n).more>0:=Nat.lt_irrefl 0;rw[dh b];show({j:=(leap 7 (im h n) (pst h n).2).1,more:=runEnd 7 (leap 7 (im h n) (pst h n).2).1-(leap 7 (im h n) (pst h n).2).1,i:=(leap 7 (im h n) (pst h n).2).1,perturb:=(leap 7 (im h n) (pst h n).2).2,dummy:=none}:Probe)=_;rw[yG];rfl
theorem wK(h:Int):∀n,(pst h n).2=bits h/32^n|0=>by rw[Nat.pow_zero,Nat.div_one];rfl|n+1=>by show(pst h n).2/32=_;rw[wK h n,Nat.pow_succ,Nat.div_div_eq_div_mul]
theorem ES(h:Int):bits h<2^64:=by
 unfold bits;have b:=lQ h (show(2:Int)^64≠0 by decide);have a:=nn h (show(0:Int)<2^64 by decide)
 lia
theorem CN(h:Int)(hn:13<=n):(pst h n).2=0:=by rw[wK];refine Nat.div_eq_of_lt (jE (ES h) ?_);exact jT (show 2^64<=32^13 by decide) (Nat.pow_le_pow_right (by decide) hn)
def cyc:Nat->Nat->Nat|0,i=>i|n+1,i=>(cyc n i*5+1)%8
theorem zl(h:Int):∀n,im h (13+n)=cyc n (im h 13)|0=>rfl|n+1=>by show((pst h (13+n)).1*5+1+(pst h (13+n)).2/32)%8=(cyc n (im h 13)*5+1)%8;rw[CN h (by lia),<-zl h n];rfl
theorem EE:∀(i j:Fin 8),∃n:Fin 8,cyc n.1 i.1=j.1:=by decide+kernel
theorem Ij(h:Int)(c:j<8)(b:m.testBit j=false):∃N,N<21/\m.testBit (im h N)=false:=by obtain⟨n,a⟩:=EE ⟨im h 13,vu h 13⟩ ⟨j,c⟩;dsimp only at a;exact bd (13+n.1) (by have:=n.2;lia) (by rw[zl,a];exact b)
theorem Hb(hs:(hJ m).size<=7):∃j,j<8/\m.testBit j=false:=by
 refine Classical.byContradiction λc=>?_
 have a:∀j<8,m.testBit j=true:=λj b=>by
  cases e:m.testBit j with
  |true=>rfl
  |false=>exact absurd (bd j b e) c
 have:(List.range 8).filter (λj=>m.testBit j)=List.range 8:=List.filter_eq_self.mpr λj b=>a j (List.mem_range.mp b);unfold hJ at hs;rw[this]at hs;exact absurd hs (by decide)
structure Tb(t:SetTable)(m:Nat):Prop where
 mask:t.mask=7
 dum:t.dummies=#[]
 pl:t.place=hJ m
 lt:m<256
theorem GX(T:Tb t m)(a:j<8)(h:m.testBit j=true):∃i,t.slot j=.live i/\(hJ m)[i]?=some j:=by refine bd (below (hJ m) j) ?_ (wX T.lt a h);unfold slot;dsimp only;rw[T.pl,wX T.lt a h];simp
theorem Ir(T:Tb t m)(h:m.testBit j=false):t.slot j=.empty:=by
 unfold slot;dsimp only;rw[T.pl,T.dum]
 have a:¬(hJ m)[below (hJ m) j]?=some j:=λe=>by rw[(uU e).1]at h;cases h
 rw[dh (by simpa using a)];have:has #[] j=false:=by unfold has;simp
 rw[this];rfl
theorem Ah{t:SetTable}{m:Nat}(T:Tb t m)(d:Nat->Int)(h:Int):∀(f n N:Nat),n<=N->N<n+f->m.testBit (im h N)=false->
  ∃g,n<=g/\g<=N/\(∀q,n<=q->q<g->∃i,(hJ m)[i]?=some (im h q)/\(d i==h)=false)/\
   ((probe.go t d h f (kN h n)=some (.empty (im h g) none)/\m.testBit (im h g)=false)\/∃i,t.slot (im h g)=.live i/\(hJ m)[i]?=some (im h g)/\(d i==h)=true/\g<N/\probe.go t d h f (kN h n)=some (.candidate (im h g) i (kN h (g+1))))
 |0,n,N,h1,h2,_=>by lia
 |f+1,n,N,h1,h2,hf=>by
  cases hb:m.testBit (im h n)with
  |false=>refine iF n (fa _) h1 (λq a b=>by lia) (.inl ⟨?_,hb⟩);unfold probe.go;have:=Ir T hb;rw[show(kN h n).j=im h n from rfl,this];rfl
  |true=>
   obtain⟨i,l,o⟩:=GX T (vu h n) hb;have k:n<N:=Nat.lt_of_le_of_ne h1 λe=>by rw[<-e,hb]at hf;cases hf
   cases he:d i==h with
   |true=>refine iF n (fa _) h1 (λq a b=>by lia) (.inr ⟨i,(iT l o he k ?_)⟩);unfold probe.go;rw[show(kN h n).j=im h n from rfl,l];dsimp only;rw[dn he,xF T.mask]
   |false=>
    obtain⟨g,v,s,r,u⟩:=Ah T d h f (n+1) N k (by lia) hf;refine iF g (by lia) s (λq w p=>?_) ?_
    ·rcases Nat.lt_or_ge n q with c|c
     ·exact r q c p
     ·have:q=n:=by lia
      rw[this];exact bd i o he
    ·have e:probe.go t d h (f+1) (kN h n)=probe.go t d h f (kN h (n+1)):=by
      conv=>lhs;unfold probe.go
      rw[show(kN h n).j=im h n from rfl,l];dsimp only;rw[dh (by rw[he];exact ij),xF T.mask]
     rw[e];exact u
open PySem L2
theorem ER{k:Key}(h:(ig prog w).is k v=true):(∃i t,v=.int i t)\/∃x t,v=.str x t:=by
 rcases mj h with ⟨i,t,_,e⟩|⟨x,t,_,e⟩
 ·exact .inl (iA i t e)
 ·exact .inr (iA x t e)
theorem Ge{x:Str}{k:gz}(c:A1n prog w s.heap (.inl (.inr x)::k) a)(h:Q false s):wpAny (model prog w) A (hashByValue (n+1) (.ref a)) Q E s:=by
 have f:=c.typeIs;refine gW c λo b m g _ j d=>?_;clear c;unfold hashByValue;refine az (wpAny_specialOf f PySem.F.slot_tuple_hash.lookup ?_);dsimp only;refine az (jY g j ?_);show wpAny _ _ (forIn b _ _>>=_) _ _ s;rw[<-Array.forIn_toList];generalize b.toList=l at d
 cases d with
 |cons h1 hl=>
  rcases mj (show nS (.inr x) _=true from h1)with ⟨i,t,e,_⟩|⟨y,t,e,rfl⟩
  ·cases e
  rw[List.forIn_cons];have e:hashByValue n (.str y t)=pure false:=by cases n<;>rfl
  rw[e];refine az (az (az (da ?_)));exact da (da (da h))
theorem yr{k:Key}(h:(ig prog w).is k v=true):ofAClassStatement n v=pure false:=by rcases ER h with ⟨i,t,rfl⟩|⟨x,t,rfl⟩<;>(cases n<;>rfl)
theorem Ez{ks:zU}(g:IsTupleKey (ig prog w) s.heap ks a)(h:Q false s):wpAny (model prog w) A (ofAClassStatement (n+1) (.ref a)) Q E s:=by
 have p:=g.typeIs;refine gW g λo f m i _ k j=>?_;clear g;unfold ofAClassStatement;refine az (wpAny_typeOf p ?_);dsimp only;rw[dn (by decide)];refine az (da ?_);simp only [Bool.not_true,Bool.false_eq_true,if_false];refine az (jY i k ?_);dsimp only;refine az ?_;rw[<-Array.forIn_toList];refine wpAny_forIn_list _ (λb r e=>r.1=none/\e=s/\∃ks,ItemsAre (ig prog w) ks b) _ ?_ ?_ _ _ ⟨rfl,(iU rfl ks j)⟩
 ·rintro v b r e ⟨d,rfl,l,c⟩
  cases c with
  |cons h1 hl=>rw[yr h1];refine az (da ?_);simp only [Bool.false_eq_true,if_false];exact da ⟨rfl,(iU rfl _ hl)⟩
 ·rintro⟨t,q⟩ e ⟨d,rfl,_⟩;simp only at d;subst d;exact da h
theorem yX{k:gz}(i:A1n prog w s.heap k a)(h:Q false s):wpAny (model prog w) A (ofAClassStatement (n+2) (.ref a)) Q E s:=by
 have y:=i.typeIs;refine gW i λo g m l _ u t=>?_;clear i;unfold ofAClassStatement;refine az (wpAny_typeOf y ?_);dsimp only;rw[dn (by decide)];refine az (da ?_);simp only [Bool.not_true,Bool.false_eq_true,if_false];refine az (jY l u ?_);dsimp only;refine az ?_;rw[<-Array.forIn_toList];refine wpAny_forIn_list _ (λc r f=>r.1=none/\f=s/\∃j,A3m prog w s.heap j c) _ ?_ ?_ _ _ ⟨rfl,(iU rfl k t)⟩
 ·rintro v c r f ⟨e,rfl,j,d⟩
  cases d with
  |@cons p _ ps' _ h1 hl=>
   cases p with
   |inl q=>rw[yr (show(ig prog w).is q v=true from h1)];refine az (da ?_);simp only [Bool.false_eq_true,if_false];exact da ⟨rfl,(iU rfl ps' hl)⟩
   |inr ks=>obtain⟨b,rfl,x⟩:=h1;refine az (Ez x ?_);simp only [Bool.false_eq_true,if_false];exact da ⟨rfl,(iU rfl ps' hl)⟩
 ·rintro⟨B,z⟩ f ⟨e,rfl,_⟩;simp only at e;subst e;exact da h
theorem FH{k:gz}(j:A1n prog w s.heap k x)(n:∀v∈l,∃a f,v=.ref a/\A1n prog w s.heap f a)(h:Q false s):wpAny (model prog w) A (searchCouldBeSeen (.ref x) l) Q E s:=by
 unfold searchCouldBeSeen;refine az ?_;refine wpAny_forIn_list _ (λc r g=>r.1=none/\g=s/\∀v∈c,∃a f,v=.ref a/\A1n prog w s.heap f a) _ ?_ ?_ _ _ (fI rfl rfl n)
 ·rintro v c r g ⟨i,rfl,d⟩;obtain⟨a,f,rfl,m⟩:=d v kX;have b:∀v∈c,∃a f,v=.ref a/\A1n prog w g.heap f a:=λu o=>d u (jZ _ o);dsimp only;by_cases e:(x==a||(carriedByValue (.ref x)&&carriedByValue (.ref a)))=true
  ·rw[dn e];exact da (fI rfl rfl b)
  ·rw[dh e];refine az (wx j ?_);simp only [Bool.not_true,Bool.false_eq_true,if_false];refine az (wx m ?_);simp only [Bool.not_true,Bool.false_eq_true,if_false];refine az (yX j ?_);simp only [Bool.false_eq_true,if_false];refine az (yX m ?_);simp only [Bool.false_eq_true,if_false];exact da (fI rfl rfl b)
 ·rintro⟨q,p⟩ g ⟨i,rfl,_⟩;simp only at i;subst i;exact da h
theorem pgt{α β:Type}{F:α->β->Prop}:∀{l:List α}{m:List β},Paired F l m->∀{i:Nat}{x:α},l[i]?=some x->∃y,m[i]?=some y/\F x y|_,_,.nil,i,x,e=>by simp at e|_,_,.cons r t,0,x,e=>by simp at e;subst e;exact bd _ rfl r|_,_,.cons r t,i+1,x,e=>by obtain⟨y,b,a⟩:=pgt t (i:=i) (by simpa using e);exact bd y (by simpa using b) a
structure B5y(prog:yB)(w:yD)(h:yA)(S:zW)(sh:List Bool)(ld:Bool)(o:Obj)(es:Array (Int×zX))(ep:Nat)(t:SetTable)(m:Nat)(ks:List gz):Prop where
 ho:h.get? S=some o
 ex:o.ExactSet
 led:t.led=ld
 pln:0<es.size->t.plain=false
 hd:o.data=.set es ep t
 tb:Tb t m
 sz:es.size=(hJ m).size
 le:es.size<=4
 ok:Paired (λ(e:Int×zX)(k:gz)=>∃a,e=(hW prog w k,.ref a)/\k.map Sum.isLeft=sh/\A1n prog w h k a) es.toList ks
 nd:ks.Nodup
 pa:∀p∈(hJ m).toList.zip ks,∃n,im (hW prog w p.2) n=p.1/\∀q<n,m.testBit (im (hW prog w p.2) q)=true
theorem B5y.fits(N:B5y prog w h S sh ld o es ep t m ks):t.fits es.size=true:=by
 unfold SetTable.fits SetTable.fill;rw[N.tb.pl,N.tb.dum,N.tb.mask,<-N.sz];have:=N.le;simp only [beq_self_eq_true,Bool.true_and,decide_eq_true_eq];show es.size+0<=7
 lia
theorem B5y.at(N:B5y prog w h S sh ld o es ep t m ks)(hi:(hJ m)[i]?=some j):∃k a,ks[i]?=some k/\es[i]?=some (hW prog w k,.ref a)/\k.map Sum.isLeft=sh/\A1n prog w h k a/\(j,k)∈(hJ m).toList.zip ks:=by
 have e:i<(hJ m).size:=(qf.mp hi).1;have b:i<es.size:=by rw[N.sz];exact e
 have d:es.toList[i]?=some es[i]:=by rw[Array.getElem?_toList];exact Array.getElem?_eq_getElem b
 obtain⟨k,c,a,g,f,l⟩:=pgt N.ok d;refine iM k a c (by rw[<-Array.getElem?_toList,d,g]) f l ?_;refine gJ (i:=i) ?_;rw[qJ];exact⟨by rw[Array.getElem?_toList];exact hi,c⟩
def sA(prog:yB)(w:yD)(m:Nat)(ks:List gz)(k:gz)(n:Nat):Prop:=∀q<n,∃(i:Nat)(a:gz),(hJ m)[i]?=some (im (hW prog w k) q)/\ks[i]?=some a/\a≠k
theorem Az(N:B5y prog w s.heap S sh ld o es ep t m ks){k:gz}{x:zW}(M:A.units+8<cLine)(I:A1n prog w s.heap k x)(hs:k.map Sum.isLeft=sh){Q:SetFound->zY->Prop}
  (h1:k∈ks->Q (.there none) s) (h2:∀n',sA prog w m ks k n'->m.testBit (im (hW prog w k) n')=false->Q (.free (im (hW prog w k) n') false) s):
  ∀(d n F:Nat)(b:Option SetTable.Probe),n<=F->F<n+d->F<21->m.testBit (im (hW prog w k) F)=false->(b=none/\n=0\/b=some (kN (hW prog w k) n))->sA prog w m ks k n->
   wpAny (model prog w) A (setSearchFrom S (.ref x) (hW prog w k) true d b) Q E s
 |0,n,F,b,a1,y,_,_,_,_=>by lia
 |d+1,n,F,b,a1,y,a21,hf,hst,seen=>by
  unfold setSearchFrom;refine az (wpAny_setState_of N.ho N.hd N.fits ?_);dsimp only;have Y:t.gaveWay=false:=by unfold SetTable.gaveWay;rw[N.tb.mask];rfl
  rw[Y];simp only [Bool.false_eq_true,if_false]
  have D:b.getD (t.probeStart (hW prog w k))=kN (hW prog w k) n:=by
   rcases hst with ⟨rfl,rfl⟩|rfl
   ·exact Fs N.tb.mask _
   ·rfl
  rw[D];obtain⟨n',b1,b2,b3,O⟩:=Ah N.tb (λi=>(es[i]?.map (·.1)).getD 0) (hW prog w k) (10*SetTable.turns t.mask) n F a1 (by unfold SetTable.turns;rw[N.tb.mask];lia) hf
  have f:sA prog w m ks k n':=λq L=>by
   rcases Nat.lt_or_ge q n with c|c
   ·exact seen q c
   ·obtain⟨i,l,J⟩:=b3 q c L;obtain⟨g,a,r,u,_⟩:=N.at l;refine eu i g l r λe=>?_;rw[u,e]at J;simp at J
  rcases O with ⟨e,H⟩|⟨i,C,l,J,P,e⟩
  ·have B:t.probe (λi=>(es[i]?.map (·.1)).getD 0) (hW prog w k) (kN (hW prog w k) n)=some (.empty (im (hW prog w k) n') none):=e
   erw [B]
   exact da (h2 n' f H)
  ·have B:t.probe (λi=>(es[i]?.map (·.1)).getD 0) (hW prog w k) (kN (hW prog w k) n)=some (.candidate (im (hW prog w k) n') i (kN (hW prog w k) (n'+1))):=e
   erw [B]
   dsimp only;refine iq (N.at l) λg a r u R X g5=>?_
   have G:∀v∈(es.filter (λx=>x.1==hW prog w k)).toList.map (λx=>x.2),∃a g,v=.ref a/\A1n prog w s.heap g a:=λv W=>by
    obtain⟨Z,z,rfl⟩:=gS.mp W
    have K:Z∈es.toList:=by have:=Array.mem_toList_iff.mp z;exact Array.mem_toList_iff.mpr (Array.mem_filter.mp this).1
    obtain⟨j,T⟩:=List.getElem?_of_mem K;obtain⟨U,_,y,rfl,_,q⟩:=pgt N.ok T;exact hZ y U rfl q
   by_cases hled:(! t.led)=true
   case' pos=>rw[dn hled];refine az (FH I G ?_);simp only [Bool.false_eq_true,if_false]
   case' neg=>rw[dh hled]
   all_goals
    rw[u];dsimp only;refine az (jS (BE M (R.trans hs.symm) X I ?_));refine az (wpAny_setState_of N.ho N.hd N.fits ?_);dsimp only;by_cases hk:g=k
    ·rw[jl hk];simp only [Bool.and_true,if_true];exact da (h1 (by rw[<-hk];exact gJ r))
    ·rw[ir hk];simp only [Bool.and_false,Bool.false_eq_true,if_false];have p:t.sameMemory t.moves t.mask=some true:=by unfold SetTable.sameMemory;rw[dn (by simp)]
     rw[p];dsimp only;rw[dn rfl,C];dsimp only;rw[u];dsimp only;have h:isSame (.ref a) (.ref a)=pure true:=by unfold isSame;simp
     rw[h];refine az (da ?_);refine az (da ?_);simp only [if_true];refine Az N M I hs h1 h2 d (n'+1) F _ (by lia) (by lia) a21 hf (.inr rfl) λq L=>?_;rcases Nat.lt_or_ge q n' with c|c
     ·exact f q c
     ·have:q=n':=by lia
      rw[this];exact eu i g l r hk
theorem rA{k:gz}(i:∀b o,h.get? b=some o->o.cls=.type "tuple"->h'.get? b=some o)(x:A1n prog w h k a):A1n prog w h' k a:=by
 refine gW x λo d n l j s m=>?_;clear x;refine iE o d n (i _ _ l j) j s (Paired.mapP m λp v z=>?_)
 cases p with
 |inl k=>exact z
 |inr ks=>obtain⟨b,e,q,c,t,g,f,r⟩:=z;exact bd b e (jQ q c t (i _ _ g f) f r)
theorem Aa(xs:Array α)(p:Nat)(x:α):(SetTable.insertAt xs p x).toList=xs.toList.take p++x::xs.toList.drop p:=by
 unfold SetTable.insertAt;rw[Array.toList_append,Array.toList_push,Array.toList_extract,Array.toList_extract,oB];have b:xs.toList.extract 0 p=xs.toList.take p:=by simp[List.extract]
 have a:xs.toList.extract p xs.size=xs.toList.drop p:=by simp only [List.extract];rw[nN (by rw[mo,Array.length_toList];lia)]
 rw[b,a];rfl
theorem Bl{α β:Type}{F:α->β->Prop}{x:α}{y:β}(r:F x y):∀(p:Nat){xs:List α}{ys:List β},Paired F xs ys->Paired F (xs.take p++x::xs.drop p) (ys.take p++y::ys.drop p)|0,_,_,h=>.cons r h|p+1,_,_,.nil=>.cons r .nil|p+1,_,_,.cons a t=>.cons a (Bl r p t)
theorem yL{α β:Type}{x:α}{y:β}:∀(p:Nat){xs:List α}{ys:List β},xs.length=ys.length->∀q∈(xs.take p++x::xs.drop p).zip (ys.take p++y::ys.drop p),q∈xs.zip ys\/q=(x,y)
 |0,xs,ys,_,q,h=>by
  rcases gP.mp h with e|e
  ·exact .inr e
  ·exact .inl e
 |p+1,[],[],_,q,h=>by
  rcases gP.mp h with e|e
  ·exact .inr e
  ·cases e
 |p+1,[],_::_,e,_,_=>by cases e
 |p+1,_::_,[],e,_,_=>by cases e
 |p+1,a::xs,b::ys,e,q,h=>by
  rcases gP.mp h with c|c
  ·exact .inl (by rw[c];exact kX)
  ·rcases yL p (by simpa using e) q c with z|z
   ·exact .inl (jZ _ z)
   ·exact .inr z
theorem rh(xs:List α)(p:Nat)(x:α):(xs.take p++x::xs.drop p).Perm (x::xs):=by refine List.perm_middle.trans ?_;rw[qd]
theorem C8{a:Nat}(h1:(hJ m)[i]?=some j)(h2:(hJ m)[a]?=some j):i=a:=by unfold hJ at h1 h2;rw[List.getElem?_toArray]at h1 h2;have e:((List.range 8).filter λj=>m.testBit j).Nodup:=List.nodup_range.filter _;have b:=(gG.mp h1);have f:=(gG.mp h2);obtain⟨h,d⟩:=b;obtain⟨g,c⟩:=f;exact(List.getElem_inj e).mp (d.trans c.symm)
theorem B5y.fresh(N:B5y prog w h S sh ld o es ep t m ks){k:gz}(sn:sA prog w m ks k n)(d:m.testBit (im (hW prog w k) n)=false):k∉ks:=λu=>by
 obtain⟨b,a⟩:=List.getElem?_of_mem u;have j:=Paired.length N.ok;rw[Array.length_toList,N.sz]at j;have r:b<(hJ m).size:=by rw[j];exact(gG.mp a).1
 have e:(hJ m)[b]?=some (hJ m)[b]:=Array.getElem?_eq_getElem r;obtain⟨g,f,q⟩:=N.pa ((hJ m)[b],k) (gJ (i:=b) (by rw[qJ];exact⟨by rw[Array.getElem?_toList];exact e,a⟩));dsimp only at f q;rcases Nat.lt_trichotomy g n with c|c|c
 ·obtain⟨i,v,l,p,s⟩:=sn g c;rw[f]at l;have:=C8 l e;rw[this,a]at p;exact s (iX p).symm
 ·rw[<-c,f,(uU e).1]at d;cases d
 ·rw[q n c]at d;cases d
theorem Gi(N:B5y prog w s.heap S sh ld o es ep t m ks){y:Str}{r:gz}(hu:A.units+8<cLine)(J:A1n prog w s.heap (.inl (.inr y)::r) x)(hs:(Sum.inl (Sum.inr y)::r:gz).map Sum.isLeft=sh)(h3:es.size<=3)
  (h:∀h' o' n X t' m' C b,B5y prog w h' S sh ld o' n X t' m' C->Heap.SameBut S s.heap h'->(∀u,u∈C↔u∈ks\/u=.inl (.inr y)::r)->(∀e∈n.toList,e∈es.toList\/e.2=.ref x)->n.size<=es.size+1->Q b {s with heap:=h'}):
  wpAny (model prog w) A (setAddHashed S (.ref x) (hW prog w (.inl (.inr y)::r))) Q E s:=by
 generalize hk:(Sum.inl (Sum.inr y)::r:gz)=k at hs h;have T:=J;rw[hk]at J;unfold setAddHashed setAddHashedIn;refine jS (az (wpAny_setState_of N.ho N.hd N.fits ?_));dsimp only;have L:byScan (.ref x) es=false:=rfl;rw[L];simp only [Bool.false_eq_true,if_false];obtain⟨j0,M,W⟩:=Hb (m:=m) (by rw[<-N.sz];have:=N.le;lia);obtain⟨F,hF,R⟩:=Ij (hW prog w k) M W;unfold setSearch;refine az (Az N hu J hs (λhm=>?_) (λl sn Z=>?_) 100000 0 F none (jm _) (by lia) hF R (.inl ⟨rfl,rfl⟩) λq H=>absurd H (Nat.not_lt_zero _))
 ·have e:s={s with heap:=s.heap}:=by cases s;rfl
  refine da ?_;rw[e];exact h s.heap o es ep t m ks _ N (Heap.SameBut.refl S s.heap) (λu=>⟨.inl,λz=>z.elim id λz=>by rw[z];exact hm⟩) (λe I=>.inl I) (Nat.le_succ _)
 ·dsimp only;refine az (wpAny_setState_of N.ho N.hd N.fits ?_);have hj:=vu (hW prog w k) l;obtain⟨G,p2,p3⟩:=De N.tb.lt hj Z
  have c:t.put (im (hW prog w k) l)=({t with place:=hJ (m||| 2^im (hW prog w k) l)},SetTable.below (hJ m) (im (hW prog w k) l)):=by
   unfold SetTable.put;dsimp only;rw[N.tb.pl,N.tb.dum,G];have:SetTable.has #[] (im (hW prog w k) l)=false:=by unfold SetTable.has;simp
   rw[this];have hd:=N.tb.dum;cases t;simp only at hd;subst hd;rfl
  dsimp only;rw[c];dsimp only;generalize hp:SetTable.below (hJ m) (im (hW prog w k) l)=p at G p2 c⊢;generalize hj':im (hW prog w k) l=j at Z hj G p3 c⊢
  have B:∀d:SetTable,d={t with place:=hJ (m||| 2^j),plain:=false}->wpAny (model prog w) A (do
    storeSet S (SetTable.insertAt es p (hW prog w k,.ref x)) d
    if (! false&&d.tooFull)=true then do
      setRelay S (SetTable.grown (es.size+1))
      pure true
     else pure true) Q E s:=λd D=>by
   have O:=Aa es p (hW prog w k,.ref x)
   have f:(SetTable.insertAt es p (hW prog w k,Value.ref x)).size=es.size+1:=by rw[<-Array.length_toList,O,(rh _ _ _).length_eq,je,Array.length_toList]
   have v:=congrArg Array.toList G;rw[Aa]at v
   have g:(hJ (m||| 2^j)).size=(hJ m).size+1:=by rw[<-Array.length_toList,<-v,(rh _ _ _).length_eq,je,Array.length_toList]
   refine az (wpAny_storeSet_of N.ho N.hd ?_ (by rw[f,sizeLine_eq];lia))
   have U:d.tooFull=false:=by subst D;unfold SetTable.tooFull SetTable.fill;rw[N.tb.dum,N.tb.mask];show decide (((hJ (m||| 2^j)).size+0)*5≥7*3)=false;rw[g,<-N.sz];exact ir (by lia)
   rw[U];simp only [Bool.and_false,Bool.false_eq_true,if_false];have sb:=Heap.SameBut.update s.heap S (Obj.putSet (SetTable.insertAt es p (hW prog w k,.ref x)) d)
   have hg:(s.heap.update S (Obj.putSet (SetTable.insertAt es p (hW prog w k,.ref x)) d)).get? S=some {o with data:=.set (SetTable.insertAt es p (hW prog w k,.ref x)) (ep+1) d}:=by have:=nk (Obj.putSet (SetTable.insertAt es p (hW prog w k,.ref x)) d) N.ho (by rw[putSet_of _ _ N.hd];rfl);rw[putSet_of _ _ N.hd]at this;exact this
   have kt:∀b ob,s.heap.get? b=some ob->ob.cls=.type "tuple"->(s.heap.update S (Obj.putSet (SetTable.insertAt es p (hW prog w k,.ref x)) d)).get? b=some ob:=λb ob e hc=>by refine(sb.2 b λz=>?_).trans e;subst z;rw[N.ho]at e;injection e with e;rw[<-e,N.ex.1]at hc;exact absurd hc (by decide)
   have Y:=N.fresh sn (by rw[hj'];exact Z);refine da (h _ _ _ _ _ (m||| 2^j) (ks.take p++k::ks.drop p) _ ⟨hg,N.ex,?_,λ_=>?_,rfl,?_,?_,?_,?_,?_,?_⟩ sb (λu=>?_) (λe I=>?_) (by rw[f];lia))
   ·rw[D];exact N.led
   ·rw[D]
   ·rw[D];exact⟨N.tb.mask,N.tb.dum,rfl,p3⟩
   ·rw[f,g,N.sz]
   ·rw[f];lia
   ·rw[O];refine Bl ⟨x,rfl,hs,rA kt J⟩ p (Paired.mapP N.ok λe u z=>?_);obtain⟨a,e1,K,e3⟩:=z;exact eh a e1 K (rA kt e3)
   ·exact(rh ks p k).nodup_iff.mpr (oU.mpr ⟨Y,N.nd⟩)
   ·intro q H;rw[<-v]at H;have lk:=Paired.length N.ok;rw[Array.length_toList]at lk;rcases yL p (by rw[Array.length_toList,<-N.sz,lk]) q H with z|z
    ·obtain⟨n0,e0,q0⟩:=N.pa q z;exact bd n0 e0 λi P=>by rw[Nat.testBit_or,q0 i P];rfl
    ·subst z;refine bd l hj' λi P=>?_;obtain⟨i',u,g1,_⟩:=sn i P;dsimp only;rw[Nat.testBit_or,(uU g1).1];rfl
   ·rw[(rh ks p k).mem_iff,gP];exact or_comm
   ·rw[O,(rh _ _ _).mem_iff,gP]at I;rcases I with e|e
    ·exact .inr (by rw[e])
    ·exact .inl e
  cases hpl:t.plain with
  |true=>rw[dn rfl];refine az (Ge T ?_);simp only [Bool.false_eq_true,if_false];exact B _ rfl
  |false=>rw[dh ij];refine az (da ?_);simp only [if_true];exact B _ (by cases t;simp only at hpl;subst hpl;rfl)
open PySem PySem.Spec PyProof.Rows L2
def Has(prog:yB)(w:yD)(h:yA)(S:zW)(sh:List Bool)(ld:Bool)(key:Nat->gz)(adr:Nat->zW)(i:Nat):Prop :=∃o a c t m b,B5y prog w h S sh ld o a c t m b/\a.size<=i/\(∀k,k∈b↔∃j,j<i/\key j=k)/\∀e∈a.toList,∃j,j<i/\e.2=.ref (adr j)
theorem B5y.keep(N:B5y prog w h S sh ld o es ep t m ks)(g:h'.get? S=some o)(d:∀b o,h.get? b=some o->o.cls=.type "tuple"->h'.get? b=some o):B5y prog w h' S sh ld o es ep t m ks :=
 ⟨g,N.ex,N.led,N.pln,N.hd,N.tb,N.sz,N.le,Paired.mapP N.ok λe k z=>by
  obtain⟨a,f,c,i⟩:=z
  exact(eh a f c (rA d i)),N.nd,N.pa⟩
section
variable{St:Nat->zY->Prop}
theorem CG(W:WalksS prog w A.in1 I fp wr G n P St)(S:zW)(y:S∉fp)(K:∀i v,P i v->v=.ref (adr i))(hn:n<=4)(hu:A.in1.units+8<cLine)
  (hk:∀i<n,(∃x r,key i=.inl (.inr x)::r)/\(key i).map Sum.isLeft=sh/\A1n prog w h0 (key i) (adr i)) (J:∀i s,St i s->∀b o,b∈wr->s.heap.get? b=some o->o.cls≠.type "tuple"):
  ∀(k i:Nat)(s:zY),n-i=k->i<=n->St i s->(∀b o,h0.get? b=some o->o.cls=.type "tuple"->s.heap.get? b=some o)->Has prog w s.heap S sh ld key adr i->
   (∀s',Moved (S::wr) G s s'->Has prog w s'.heap S sh ld key adr n->R (.ok (.ret .none)) s')->
   codeAny (model prog w) A (.builtin "set.update.loop" ⟨[.ref S,.ref I],[]⟩) R s:=by
 have a2:S∉wr:=λh=>y (W.sub _ h);have g:∀b∈wr,b∈S::wr:=λb u=>jZ _ u
 have mv:∀{s s':zY}{i j:Nat},Moved wr G s s'->St j s->Has prog w s.heap S sh ld key adr i->Has prog w s'.heap S sh ld key adr i:=λ{s s' i j} f st ⟨o,es,ep,t,m,ks,N,r⟩=>(jq o es ep t (hZ m ks (N.keep (f.heap S _ a2 N.ho) (λb o e d=>f.heap b o (λz=>J _ _ st b o z e d) e)) r))
 intro k
 induction k with
 |zero=>
  intro i s Z hi a L Q T;have Y:i=n:=by lia
  subst Y;refine codeAny_builtin F.entry_set_update_loop ?_;rw[Around.under_plainId F.plain_set_update_loop _];show wpAny _ A.in1 (pyNext (.ref I)>>=_) _ _ s;refine az (W.done s _ _ a λs' f=>?_);show wpAny _ A.in1 (ret Value.none) _ _ s';exact da (T s' (f.mono g) (mv f a Q))
 |succ k ih=>
  intro i s Z hi a L Q T;have l:i<n:=by lia
  refine codeAny_builtin F.entry_set_update_loop ?_;rw[Around.under_plainId F.plain_set_update_loop _];show wpAny _ A.in1 (pyNext (.ref I)>>=_) _ _ s;refine az (W.item i s _ _ l a λv s' hP q f=>?_);obtain rfl:=K i v hP;refine jk (mv f a Q) ?_;rintro o es ep t m ks ⟨N,c1,c2,c3⟩;have B:∀b o,h0.get? b=some o->o.cls=.type "tuple"->s'.heap.get? b=some o:=λb o e d=>f.heap b o (λz=>J _ _ a b o z (L b o e d) d) (L b o e d);obtain⟨⟨x,r,X⟩,C,hN⟩:=hk i l;have p:=rA B hN;show wpAny _ A.in1 (holding [Value.ref (adr i)] (setAdd S (.ref (adr i)))>>=_) _ _ s';refine az (jS ?_);unfold setAdd;refine jS ?_;refine az (Bu hu p ?_);rw[X]at p C⊢;refine Gi (s:={s' with toks:=s'.toks+(lL (Sum.inl (Sum.inr x)::r)+1)}) N hu p C (by lia) λh' o' M E t' m' a1 b N' O q1 q2 q3=>?_
  have a0:∀b o,s'.heap.get? b=some o->o.cls=.type "tuple"->h'.get? b=some o:=λb o e d=>by refine(O.2 b λz=>?_).trans e;subst z;rw[N.ho]at e;injection e with e;rw[<-e,N.ex.1]at d;exact absurd d (by decide)
  refine da ⟨plainId_quiet F.plain_set_update_loop _,ih (i+1) _ (by lia) l (W.frame _ s' _ _ q (Nat.le_add_right _ _) λb u o e=>?_) (λb o e d=>a0 b o (B b o e d) d) (iA o' M (jc E t' m' a1 N' (by lia) (λk'=>?_) λe he=>?_)) λU H D=>?_⟩
  ·rw[O.2 b (λh:b=S=>y (by rw[<-h];exact u))];exact e
  ·rw[q1 k',c2 k'];constructor
   ·rintro(⟨j,hj,e⟩|e)
    ·exact bd j (by lia) e
    ·exact bd i (by lia) (by rw[X,e])
   ·rintro⟨j,hj,e⟩;rcases Nat.lt_or_ge j i with c|c
    ·exact .inl (bd j c e)
    ·have:j=i:=by lia
     rw[this,X]at e;exact .inr e.symm
  ·rcases q2 e he with z|z
   ·obtain⟨j,hj,e⟩:=c3 e z;exact bd j (by lia) e
   ·exact bd i (by lia) z
  ·refine T U (Moved.trans W.gtrans ((f.mono g).then_heap (Nat.le_add_right _ _) λb o u e=>?_) H) D;rw[O.2 b (λh:b=S=>u (by rw[h];exact kX))];exact e
end
abbrev jG(w:yD):Bool:=w.params.followText "set-order"
abbrev lZ(a:Bool):Obj:={cls:=.type "set",dict:=none,data:=.set #[] 0 (.fresh 0 0 a)}
theorem JQ(a:zX)
  (h:Q₁ (.ref s.heap.objs.size) {s with heap:=s.heap.push (lZ (! jG w))}):
  codeAny (model prog w) A (.call (.builtin "set.__new__") ⟨[.type "set",a],[]⟩) (wants Q₁ E) s:=by
 refine codeAny_of_tree ?_;show wpAny _ A.in1 (do checkBuiltinCall "set.__new__" ⟨[.type "set",a],[]⟩;again (.builtin "set.__new__" ⟨[.type "set",a],[]⟩)) _ _ s;refine az (wpAny_of_eq (F.newCall_set_1 a) (da ⟨plainId_quiet F.plain_set_new _,codeAny_builtin F.entry_set_new ?_⟩));rw[Around.under_plainId F.plain_set_new _];unfold Builtin.«set.__new__» Builtin.Frozenset.newClass;have b:=sub_set_self;obtain⟨c,g,d,e,f⟩:=s;dsimp only
 wp_walk
 refine wpAny_askSetting (da ?_);dsimp only;simp only [newObj];refine az (wpAny_alloc (da ?_));exact da h
theorem Fd(b:h.get? S=some (lZ ld)):B5y prog w h S sh ld (lZ ld) #[] 0 (.fresh 0 0 ld) 0 []:=⟨b,(fI rfl rfl rfl),rfl,λh=>absurd h (by decide),rfl,⟨rfl,rfl,rfl,by decide⟩,rfl,by decide,.nil,List.nodup_nil,λp a=>by simp at a⟩
theorem GF{l:zW}{Q:zA}(hh:A.handled=none)(hu:A.units+20<cLine)(hl:s.heap.IsList l items)(C:∀(i:Nat)(v:zX),items[i]?=some v->v=.ref (adr i))(h4:items.size<=4)
  (hk:∀i<items.size,(∃x r,key i=.inl (.inr x)::r)/\(key i).map Sum.isLeft=sh/\A1n prog w s.heap (key i) (adr i))
  (h:∀(h':yA)(tk:Nat),Has prog w h' s.heap.objs.size sh (! jG w) key adr items.size->(∀b o,b<s.heap.objs.size->s.heap.get? b=some o->h'.get? b=some o)->Q (.ref s.heap.objs.size) {s with heap:=h',toks:=tk}):
  wpAny (model prog w) A (call (.type "set") [.ref l]) Q E s:=by
 obtain⟨c,tl,a2⟩:=F.called_set.mro;have N:=F.called_set.made;have a4:=F.called_set.sub;refine wpAny_call (codeAny_of_tree ?_);show wpAny _ _ (callAny (.type "set") _) _ _ _;refine da ⟨Code.quiet_builtin _ (by decide+kernel),codeAny_builtin F.entry_type_call ?_⟩;rw[Around.under_plain (weight_type_call_type "set" [.ref l] []) rfl];have h1:=F.called_set.notType;have h2:=F.called_set.canCreate;have a8:=F.typeCall_set_1 (.ref l)
 repeat (any_goals (first|assumption|wp_step))
 refine codeAny_mono (JQ (.ref l) (E:=E) (Q₁:=λt s₁=>t=.ref s.heap.objs.size/\s₁={s with heap:=s.heap.push (lZ (! jG w))}) ⟨rfl,rfl⟩) λr s₁ T=>?_
 cases r with
 |error e=>exact T
 |ok fl=>
  cases fl with
  |ret t=>
   obtain⟨rfl,rfl⟩:=T;have X:(s.heap.push (lZ (! jG w))).get? s.heap.objs.size=some (lZ (! jG w)):=hU _ rfl;have hT:Shared.TypeIs {s with heap:=s.heap.push (lZ (! jG w))} (.ref s.heap.objs.size) "set":=(bd _ X rfl);have a6:=F.called_set.init.lookup;have a7:=F.called_set.init.bind (.ref s.heap.objs.size)
   repeat (any_goals (first|assumption|wp_step))
   refine codeAny_mono (codeAny_call_builtin (R:=wants (λr Z=>r=.none/\∃h' tk,Z={s with heap:=h',toks:=tk}/\Has prog w h' s.heap.objs.size sh (! jG w) key adr items.size/\
     (∀b o,b<s.heap.objs.size->s.heap.get? b=some o->h'.get? b=some o)) E) F.called_set.init.plain F.entry_set_init (check_set_init_1 hT ?_)) λr₂ Z g=>?_
   ·obtain⟨ol,n,q,Y,p⟩:=hl;obtain⟨a1,f,W,a⟩:=ol;simp only at q p;subst q;subst p;have y:(s.heap.push (lZ (! jG w))).get? l=some {cls:=.type "list",dict:=f,data:=.seq items Y,slots:=a}:=fy _ n;have a3:=F.sub_list_set;have a0:=F.sub_list_frozenset;have a5:(Value.type "list"==Value.type "dict")=false:=by decide
    have B:(s.heap.push (lZ (! jG w))).IsList l items:=(pZ _ y rfl Y rfl);unfold Builtin.«set.__init__» noKeywords Builtin.Frozenset.updateFrom;generalize hPI:pyIter=PI
    wp_walk
    subst hPI;refine wpAny_pyIter_list B ?_;refine az (wpAny_runValue ?_);have u:l<s.heap.objs.size:=gC n;have L:A.in1.in1.in1.handled=none:=by simp[hh]
    have m:l≠(s.heap.push (lZ (! jG w))).objs.size:=by rw[lR];exact iy (Nat.lt_succ_of_lt u)
    have P:s.heap.objs.size∉[(s.heap.push (lZ (! jG w))).objs.size,l]:=by rw[lR];simp only [gP,gX,lS,or_false,not_or];exact⟨iy (Nat.lt_succ_self _),jC u⟩
    have U:((s.heap.push (lZ (! jG w))).push {cls:=.type "list_iterator",data:=.fields #[.ref l,.int 0 0]}).get? s.heap.objs.size=some (lZ (! jG w)):=fy _ X
    refine CG ((Walks.list L _ l m items).toS) s.heap.objs.size P (key:=key) (adr:=adr) (sh:=sh) (ld:= ! jG w) (h0:=s.heap) C h4 (by show A.units+1+1+1+8<cLine;lia) hk ?hnt (items.size-0) 0 _ (by lia) (jm _)
     ⟨(eh _ (hU _ rfl) rfl rfl),(B.push _)⟩ (λb o e _=>fy _ (fy _ e)) (iA _ _ (jc _ _ _ _ (Fd U) (fa _) (λk=>?_) λe he=>?_)) ?hR
    case hnt=>intro i s' H b o D e;rw[gX.mp D]at e;obtain⟨⟨o',e',S,_⟩,_⟩:=H;rw[e]at e';cases e';rw[S];decide
    ·constructor
     ·intro z;cases z
     ·rintro⟨j,hj,_⟩;lia
    ·simp at he
    case hR=>
     intro s' G d;obtain⟨h',g',d',I,J⟩:=s';have eg:g'=s.gens:=G.gens;have ed:d'=s.drawn:=G.drawn;have eo:J=s.os:=G.os;subst eg;subst ed;subst eo;show wpAny _ _ _ _ _ _;refine da ?_;show wpAny _ _ (ret Value.none) _ _ _;refine da (jp rfl h' I rfl d λb o D e=>?_);have O:b≠s.heap.objs.size:=iy D
     have M:b≠(s.heap.push (lZ (! jG w))).objs.size:=by rw[lR];exact iy (Nat.lt_succ_of_lt D)
     exact G.heap b o (by simp only [gP,gX,lS,or_false,not_or];exact⟨O,M⟩) (fy _ (fy _ e))
   ·cases r₂ with
    |error e=>exact g
    |ok fl₂=>
     cases fl₂ with
     |ret r=>
      obtain⟨rfl,h',tk,rfl,d,K⟩:=g
      repeat (any_goals (first|assumption|wp_step))
      exact h _ _ d K
     |_=>exact g.elim
  |_=>exact T.elim
theorem mL:Slot "set_iterator" "__next__" "set_iterator.__next__" :=
 .of (owner:="set_iterator") (n:="__next__") (by rw[typeLookup_type,builtinLookup_eq_fast];kernel_rfl) (by decide+kernel) (by decide+kernel) (by decide+kernel)
  (by first|exact .inl (by decide+kernel)|exact .inr (by decide+kernel)) (by rw[isSubtype_type];kernel_rfl)
theorem ud:Slot "set_iterator" "__iter__" "set_iterator.__iter__" :=
 .of (owner:="set_iterator") (n:="__iter__") (by rw[typeLookup_type,builtinLookup_eq_fast];kernel_rfl) (by decide+kernel) (by decide+kernel) (by decide+kernel)
  (by first|exact .inl (by decide+kernel)|exact .inr (by decide+kernel)) (by rw[isSubtype_type];kernel_rfl)
theorem ug:entryFor table "set_iterator.__next__"=some Builtin.«set_iterator.__next__»:=entryFor_of_fast (by kernel_rfl)
theorem BV:entryFor table "set_iterator.__iter__"=some Builtin.«dict_keyiterator.__iter__»:=entryFor_alias (id':="dict_keyiterator.__iter__") (by kernel_rfl) rfl (by decide+kernel) (by kernel_rfl)
theorem ue(a:zX):argsOk "set_iterator.__next__" ⟨[a],[]⟩:=by unfold argsOk;kernel_rfl
theorem BR(a:zX):argsOk "set_iterator.__iter__" ⟨[a],[]⟩:=by unfold argsOk;kernel_rfl
theorem Kl:entryFor table "set.__iter__"=some Builtin.«frozenset.__iter__»:=entryFor_alias (id':="frozenset.__iter__") (by kernel_rfl) rfl (by decide+kernel) (by kernel_rfl)
abbrev itO(f:zX)(i:Nat)(S:zW)(n ep:Nat):Obj:={cls:=.type "set_iterator",dict:=none,data:=.fields #[f,.int (i:Nat) 0,.ref S,.int (n:Nat) 0,.int (ep:Nat) 0],slots:=#[]}
theorem Jk{a:Source}{Q:Nat->zY->Prop}(hn:n≠0)(h:∀i d,i<n->Q i {s with drawn:=d}):wpAny M A (choose a n) Q E s :=λΓ p _=>⟨hn,h _ _ (Nat.mod_lt _ (Nat.pos_of_ne_zero hn))⟩
theorem wb{α:Type}:∀{l:List α}{i:Nat}(h:i<l.length),(l[i]::l.eraseIdx i).Perm l
 |x::l,0,_=>.refl _
 |x::l,i+1,h=>by
  have a:i<l.length:=by simpa using h
  exact(List.Perm.swap _ _ _).trans ((wb a).cons x)
theorem BI{α:Type}{M:Model}:∀(n:Nat)(xs:List α)(s:zY){Q:List α->zY->Prop},xs.length=n->(∀zs d,zs.Perm xs->Q zs {s with drawn:=d})->wpAny M A (drawOrder n xs) Q E s|0,xs,s,Q,hl,h=>by have:xs=[]:=List.eq_nil_of_length_eq_zero hl;subst this;exact da (h [] s.drawn (.refl _))|n+1,[],s,Q,hl,h=>by cases hl|n+1,x::xs,s,Q,hl,h=>by unfold drawOrder;refine az (Jk (by simp) λi d a=>?_);rw[gM a];dsimp only;refine az (BI n _ _ (by rw[List.length_eraseIdx_of_lt a];simpa using hl) λzs c b=>da (h _ c ?_));exact(b.cons _).trans (wb a)
section
variable{It:zW}
theorem rJ{Q:Array (Int×zX)->zY->Prop}(c:s.heap.get? S=some o)(a:o.data=.set es ep t)(b:t.fits es.size=true)(h:Q es s):wpAny (model prog w) A (setEntries S) Q E s:=by unfold setEntries;exact az (wpAny_setState_of c a b (da h))
theorem GB{x:zX}{Q:zN->zY->Prop}(a:s.heap.get? It=some (itO (.int (sl:Nat) 0) i S es.size ep))(l:s.heap.get? S=some o)(m:o.data=.set es ep t)(g:t.fits es.size=true)
  (j:∀(A:zZ)(E:zA)(Q:Option (zX×Nat)->zY->Prop),Q (some (x,sl')) s->wpAny (model prog w) A (setNext S sl i ep) Q E s)
  (h:∀h',h'.get? It=some (itO (.int (sl':Nat) 0) (i+1) S es.size ep)->Heap.SameBut It s.heap h'->Q (some x) {s with heap:=h'}):wpAny (model prog w) A (pyNext (.ref It)) Q E s:=by
 have d:s.TypeIs (.ref It) "set_iterator":=(bd _ a rfl);unfold pyNext
 refine az (wpAny_attempt (lT (name:=Str.ofString "__next__") d mL
  (jD mL d ug ?_ (ue _))))
 show wpAny _ _ (fieldsOf (.ref It)>>=_) _ _ s;unfold fieldsOf;refine az (az (wpAny_load a (da ?_)));show wpAny _ _ (setEntries S>>=_) _ _ s;refine az (rJ l m g ?_);show wpAny _ _ (if ((es.size:Int) !=(es.size:Int))=true then _ else _) _ _ s;rw[dh (by simp)];show wpAny _ _ (setNext S ((sl:Int)).toNat ((i:Int)).toNat ((ep:Int)).toNat>>=_) _ _ s;rw[Int.toNat_natCast,Int.toNat_natCast,Int.toNat_natCast];refine az (j _ _ _ ?_);dsimp only;refine az (kA a (by simp) λn f b=>?_);refine az (kA f (by simp) λk e c=>?_);refine da (bd x rfl (da (h k ?_ (b.trans c))));exact e
theorem FU(f:A.handled=none){Q:zN->zY->Prop}(c:s.heap.get? It=some (itO (.int (sl:Nat) 0) i S es.size ep))(l:s.heap.get? S=some o)(k:o.data=.set es ep t)(g:t.fits es.size=true)
  (j:∀(A:zZ)(E:zA)(Q:Option (zX×Nat)->zY->Prop),Q none s->wpAny (model prog w) A (setNext S sl i ep) Q E s)
  (h:∀h',Heap.ExtBut It s.heap h'->Q none {s with heap:=h'}):wpAny (model prog w) A (pyNext (.ref It)) Q E s:=by
 have e:s.TypeIs (.ref It) "set_iterator":=(bd _ c rfl);unfold pyNext
 refine az (wpAny_attempt (lT (name:=Str.ofString "__next__") e mL
  (jD mL e ug ?_ (ue _))))
 show wpAny _ _ (fieldsOf (.ref It)>>=_) _ _ s;unfold fieldsOf;refine az (az (wpAny_load c (da ?_)));show wpAny _ _ (setEntries S>>=_) _ _ s;refine az (rJ l k g ?_);show wpAny _ _ (if ((es.size:Int) !=(es.size:Int))=true then _ else _) _ _ s;rw[dh (by simp)];show wpAny _ _ (setNext S ((sl:Int)).toNat ((i:Int)).toNat ((ep:Int)).toNat>>=_) _ _ s;rw[Int.toNat_natCast,Int.toNat_natCast,Int.toNat_natCast];refine az (j _ _ _ ?_);dsimp only;refine az (kA c (by simp) λn p d=>?_);show wpAny _ _ (newExc (.type "StopIteration") []>>=_) _ _ _;refine az ?_;simp only [newExc,newTuple];refine az (kB ?_ (by size_fits));refine az (m:=firstArgMember _ _) (wpAny_of_eq (a:=Value.none) (by first|rfl|(simp only [firstArgMember];rfl)) ?_);refine kB ?_ (by size_fits);simp only [raiseNew];refine az (wpAny_handled ?_);rw[show A.in1.handled=none from f];refine az (da (wpAny_throw ?_));refine az (wpAny_isInstance (T:="StopIteration") (b:=true) (bd _ (hU _ rfl) rfl) isSubtype_stop ?_);exact da (h _ ((d.extBut.push _).push _))
theorem HY{P:zW}{x:Int×zX}{Q:zN->zY->Prop}(a:s.heap.get? It=some (itO (.ref P) i S es.size ep))(f:s.heap.get? S=some o)(g:o.data=.set es ep t)(e:t.fits es.size=true)
  (m:s.heap.get? P=some op) (c:op.data=.seq its j) (hi:its[i]?=some (.int (pl:Nat) 0)) (k:es[pl]?=some x)
  (n:∀h',h'.get? It=some (itO (.ref P) (i+1) S es.size ep)->Heap.SameBut It s.heap h'->Q (some x.2) {s with heap:=h'}):wpAny (model prog w) A (pyNext (.ref It)) Q E s:=by
 have d:s.TypeIs (.ref It) "set_iterator":=(bd _ a rfl);unfold pyNext
 refine az (wpAny_attempt (lT (name:=Str.ofString "__next__") d mL
  (jD mL d ug ?_ (ue _))))
 show wpAny _ _ (fieldsOf (.ref It)>>=_) _ _ s;unfold fieldsOf;refine az (az (wpAny_load a (da ?_)));show wpAny _ _ (setEntries S>>=_) _ _ s;refine az (rJ f g e ?_);show wpAny _ _ (if ((es.size:Int) !=(es.size:Int))=true then _ else _) _ _ s;rw[dh (by simp)];show wpAny _ _ (seqItems? (.ref P)>>=_) _ _ s;refine az (jY m c ?_);dsimp only;rw[Int.toNat_natCast,hi];dsimp only;show wpAny _ _ (setNextDrawn S ((pl:Int)).toNat ((ep:Int)).toNat>>=_) _ _ s;rw[Int.toNat_natCast,Int.toNat_natCast];unfold setNextDrawn;refine az (az (wpAny_setState_of f g e ?_));dsimp only;rw[dh (by simp),k];refine da ?_;refine az (kA a (by simp) λh l b=>?_);refine da (bd x.2 rfl (da (n h ?_ b)));exact l
theorem GN(p:A.handled=none){P:zW}{h:Nat}{Q:zN->zY->Prop}(c:s.heap.get? It=some (itO (.ref P) i S es.size ep))(k:s.heap.get? S=some o)(l:o.data=.set es ep t)(q:t.fits es.size=true)
  (n:s.heap.get? P=some op) (e:op.data=.seq its h) (hi:its[i]?=none)
  (r:∀h',Heap.ExtBut It s.heap h'->Q none {s with heap:=h'}):wpAny (model prog w) A (pyNext (.ref It)) Q E s:=by
 have g:s.TypeIs (.ref It) "set_iterator":=(bd _ c rfl);unfold pyNext
 refine az (wpAny_attempt (lT (name:=Str.ofString "__next__") g mL
  (jD mL g ug ?_ (ue _))))
 show wpAny _ _ (fieldsOf (.ref It)>>=_) _ _ s;unfold fieldsOf;refine az (az (wpAny_load c (da ?_)));show wpAny _ _ (setEntries S>>=_) _ _ s;refine az (rJ k l q ?_);show wpAny _ _ (if ((es.size:Int) !=(es.size:Int))=true then _ else _) _ _ s;rw[dh (by simp)];show wpAny _ _ (seqItems? (.ref P)>>=_) _ _ s;refine az (jY n e ?_);dsimp only;rw[Int.toNat_natCast,hi];dsimp only;refine az (kA c (by simp) λu j d=>?_);refine az (kA j (by simp) λv x f=>?_);show wpAny _ _ (newExc (.type "StopIteration") []>>=_) _ _ _;refine az ?_;simp only [newExc,newTuple];refine az (kB ?_ (by size_fits));refine az (m:=firstArgMember _ _) (wpAny_of_eq (a:=Value.none) (by first|rfl|(simp only [firstArgMember];rfl)) ?_);refine kB ?_ (by size_fits);simp only [raiseNew];refine az (wpAny_handled ?_);rw[show A.in1.handled=none from p];refine az (da (wpAny_throw ?_));refine az (wpAny_isInstance (T:="StopIteration") (b:=true) (bd _ (hU _ rfl) rfl) isSubtype_stop ?_);exact da (r _ (((d.trans f).extBut.push _).push _))
theorem wf[Decidable c]{a b:Sem α}{Q:α->zY->Prop}(d:c)(h:wpAny M A a Q E s):wpAny M A (if c then a else b) Q E s:=by rw[dn d];exact h
theorem wg[Decidable c]{a b:Sem α}{Q:α->zY->Prop}(d:¬c)(h:wpAny M A b Q E s):wpAny M A (if c then a else b) Q E s:=by rw[dh d];exact h
theorem tQ(h:Q (jG w) s):wpAny (model prog w) A setsByText Q E s:=by unfold setsByText;exact az (wpAny_askSetting (da h))
theorem Bf{α:Type}(next:Nat->Nat):∀(n k:Nat)(a:List α)(b:Array α),a.length=n->(pickOrder.go next n k a b).toList.Perm (b.toList++a)|0,k,a,b,hl=>by have:a=[]:=List.eq_nil_of_length_eq_zero hl;subst this;rw[lU];exact .refl _|n+1,k,a,b,hl=>by have c:next k%a.length<a.length:=Nat.mod_lt _ (by lia);unfold pickOrder.go;rw[gM c];dsimp only;refine(Bf next n (k+1) _ _ (by rw[List.length_eraseIdx_of_lt c];lia)).trans ?_;rw[Array.toList_push,oB];exact List.Perm.append_left _ (wb c)
def Goes(prog:yB)(w:yD)(A:zZ)(c:zY)(S:zW)(es:Array (Int×zX))(v:zX)(s1:zY):Prop :=
 ∃(It:zW)(e:zQ)(P:Nat->zX->Prop)(St:Nat->zY->Prop),v=.ref It/\WalksS prog w A It e [It] (λa b=>b=a) es.size P St/\St 0 s1/\(∀b∈e,b=S\/c.heap.objs.size<=b)/\c.heap.objs.size<=It/\
  (∀b o,c.heap.get? b=some o->s1.heap.get? b=some o)/\s1.gens=c.gens/\s1.os=c.os/\∀d,ItemsOf P d es.size->d.toList.Perm (es.toList.map (·.2))
theorem wa(h:ItemsOf (λi v=>xs[i]?=some v) acc xs.length):acc.toList=xs:=by
 refine List.ext_getElem? λi=>?_;rw[Array.getElem?_toList];rcases Nat.lt_or_ge i acc.size with c|c
 ·have e:acc[i]?=some acc[i]:=Array.getElem?_eq_getElem c;rw[h.2 i acc[i] e,e]
 ·rw[Array.getElem?_eq_none c,List.getElem?_eq_none (by rw[<-h.1];exact c)]
theorem AO(C:A.handled=none)(j:It≠S)(p:o.data=.set es ep t)(y:t.fits es.size=true){sl:Nat->Nat}(D:xs.length=es.size)
  (r:∀(i:Nat)(s:zY),s.heap.get? S=some o->∀(x:zN),x=xs[i]?->∀(A:zZ)(E:zA)(Q:Option (zX×Nat)->zY->Prop),i<=es.size->Q (x.map λv=>(v,sl (i+1))) s->wpAny (model prog w) A (setNext S (sl i) i ep) Q E s):
  WalksS prog w A It [It,S] [It] (λa b=>b=a) es.size (λi v=>xs[i]?=some v) (λi s=>s.heap.get? It=some (itO (.int (sl i:Nat) 0) i S es.size ep)/\s.heap.get? S=some o) where
 sub:=λb f=>by simp at f;simp[f]
 grefl:=λ_=>rfl
 gtrans:=λa b c z B=>B.trans z
 frame:=λi s m G d _ u=>⟨u It (by simp) _ d.1,u S (by simp) _ d.2⟩
 item:=λi s Q E F d g=>by have h:xs[i]?=some (xs[i]'(by lia)):=gM (by lia);refine GB d.1 d.2 p y (sl':=sl (i+1)) (x:=xs[i]'(by lia)) (λA E Q q=>r i s d.2 _ h.symm A E Q (by lia) q) λm k n=>?_;exact g _ _ h ⟨k,(n.2 S (Ne.symm j)).trans d.2⟩ ⟨λb o f e=>(n.2 b (by simpa using f)).trans e,rfl,rfl,rfl,fa _⟩
 done:=λs Q E d g=>by have h:xs[es.size]?=none:=List.getElem?_eq_none (by lia);refine FU C d.1 d.2 p y (λA E Q q=>r es.size s d.2 none h.symm A E Q (fa _) q) λm k=>?_;exact g _ ⟨λb o f e=>k b o (by simpa using f) e,rfl,rfl,rfl,fa _⟩
 self:=λi s Q E d g=>by have l:s.TypeIs (.ref It) "set_iterator":=(bd _ d.1 rfl);refine wpAny_pyIter_slot l ud (jD ud l BV ?_ (BR _));exact da (gB _ rfl "set_iterator" _ l mL.lookup g)
theorem Iq(O:A.handled=none){P:zW}(p:It≠S)(B:It≠P)(G:o.data=.set es ep t)(H:t.fits es.size=true){I:Nat}(m:op.data=.seq (zs.map λ(i:Nat)=>rawInt i).toArray I)(n:zs.Perm (List.range es.size)):
  WalksS prog w A It [It,S,P] [It] (λa b=>b=a) es.size (λi v=>(zs.filterMap λj=>es[j]?.map (·.2))[i]?=some v) (λi s=>s.heap.get? It=some (itO (.ref P) i S es.size ep)/\s.heap.get? S=some o/\s.heap.get? P=some op):=by
 have T:zs.length=es.size:=by rw[n.length_eq,List.length_range]
 have f:∀j∈zs,j<es.size:=λj y=>List.mem_range.mp (n.mem_iff.mp y)
 have J:∀(zs:List Nat),(∀j∈zs,j<es.size)->∀(i j:Nat),zs[i]?=some j->∃x,es[j]?=some x/\(zs.filterMap λj=>es[j]?.map (·.2))[i]?=some x.2:=λzs=>by
  induction zs with
  |nil=>intro _ i j h;simp at h
  |cons z zs ih=>
   intro f i j h;have r:z<es.size:=f z kX;have n:es[z]?=some es[z]:=Array.getElem?_eq_getElem r
   have e:((z::zs).filterMap λj=>es[j]?.map (·.2))=es[z].2::zs.filterMap λj=>es[j]?.map (·.2):=by rw[List.filterMap_cons,n];rfl
   rw[e]
   cases i with
   |zero=>simp at h;subst h;exact bd _ n rfl
   |succ i=>exact ih (λj y=>f j (jZ _ y)) i j (by simpa using h)
 exact {
  sub:=λb g=>by simp at g;simp[g]
  grefl:=λ_=>rfl
  gtrans:=λa b c L M=>M.trans L
  frame:=λi s F U d _ D=>(fI (D It (by simp) _ d.1) (D S (by simp) _ d.2.1) (D P (by simp) _ d.2.2))
  item:=λi s Q E R d k=>by have l:zs[i]?=some (zs[i]'(by lia)):=gM (by lia);obtain⟨x,N,K⟩:=J zs f i _ l;refine HY d.1 d.2.1 G H d.2.2 m (pl:=zs[i]'(by lia)) (x:=x) (by rw[List.getElem?_toArray,iG,l];rfl) N λF u q=>?_;exact k _ _ K (fI u ((q.2 S (Ne.symm p)).trans d.2.1) ((q.2 P (Ne.symm B)).trans d.2.2)) ⟨λb o g e=>(q.2 b (by simpa using g)).trans e,rfl,rfl,rfl,fa _⟩
  done:=λs Q E d k=>by refine GN O d.1 d.2.1 G H d.2.2 m (by rw[List.getElem?_toArray];exact List.getElem?_eq_none (by rw[dm];lia)) λF u=>?_;exact k _ ⟨λb o g e=>u b o (by simpa using g) e,rfl,rfl,rfl,fa _⟩
  self:=λi s Q E d k=>by
   have C:s.TypeIs (.ref It) "set_iterator":=(bd _ d.1 rfl);refine wpAny_pyIter_slot C ud (jD ud C BV ?_ (BR _))
   exact da (gB _ rfl "set_iterator" _ C mL.lookup k)}
end
section
variable{It:zW}
theorem Gp(e:jG w=true)(d:o.data=.set es ep t)(b:t.fits es.size=true)(i:Nat)(s:zY)(c:s.heap.get? S=some o)(x:zN)(f:x=((pickOrder (w.params.setOrder S ep) es).toList.map (·.2))[i]?)(A:zZ)(E:zA)(Q:Option (zX×Nat)->zY->Prop)(a:Q (x.map λv=>(v,0)) s):wpAny (model prog w) A (setNext S 0 i ep) Q E s:=by unfold setNext;refine az (wpAny_setState_of c d b ?_);refine az (tQ ?_);rw[e];simp only [if_true];rw[dh (by simp)];unfold setWalk;refine az (az (wpAny_setState_of c d b ?_));refine az (tQ ?_);rw[e];simp only [if_true];refine az (wpAny_askSetting (da (da ?_)));rw[f]at a;rw[iG,Array.getElem?_toList,Option.map_map]at a;exact a
theorem xJ(j:Nat):SetTable.below #[j] 0=0/\SetTable.below #[j] (j+1)=1:=by
 refine⟨?_,?_⟩
 ·unfold SetTable.below SetTable.below.go;simp[SetTable.below.go]
 ·unfold SetTable.below SetTable.below.go;simp[SetTable.below.go]
theorem FK(z:jG w=false)(N:B5y prog w s.heap S sh (! jG w) o es ep t m ks)(h1:es.size<=1):∃sl:Nat->Nat,sl 0=0/\∀(i:Nat)(s:zY),s.heap.get? S=some o->∀(x:zN),x=(es.toList.map (·.2))[i]?->∀(A:zZ)(E:zA)(Q:Option (zX×Nat)->zY->Prop),i<=es.size->Q (x.map λv=>(v,sl (i+1))) s->wpAny (model prog w) A (setNext S (sl i) i ep) Q E s:=by
 have F:=N.hd;have G:=N.fits;have n:t.led=true:=by rw[N.led,z];rfl
 have p:=N.tb.pl;have u:=N.sz
 have b:∀(i a:Nat)(s:zY),s.heap.get? S=some o->∀(A:zZ)(E:zA)(Q:Option (zX×Nat)->zY->Prop),Q (match es[SetTable.below t.place a]?,t.place[SetTable.below t.place a]? with
   |some (_,x),some j=>some (x,j+1)
   |_,_=>none) s->wpAny (model prog w) A (setNext S a i ep) Q E s:=λi a s l A E Q q=>by
  unfold setNext;refine az (wpAny_setState_of l F G ?_);refine az (tQ ?_);rw[z];simp only [Bool.false_eq_true,if_false]
  refine wg (show¬((! t.plain&&decide (es.size>1))=true) from by rw[ir (by lia),Bool.and_false];exact ij) ?_
  refine az (show wpAny _ _ (if (! t.led&& ! es.isEmpty)=true then unsupported "set:maker-not-led" else pure ()) _ _ _ from wg (by rw[n];simp) (da ?_));exact da q
 rcases Nat.lt_or_ge es.size 1 with c|c
 ·have H:es=#[]:=Array.eq_empty_of_size_eq_zero (by lia);refine bd (λ_=>0) rfl λi s l x g A E Q D f=>b i 0 s l A E Q ?_;subst H;rw[g]at f
  simpa using f
 ·have y:es.size=1:=by lia
  have r:t.place.size=1:=by rw[p,<-u,y]
  have k:∀{α:Type}(xs:Array α),xs.size=1->∃x,xs=#[x]:=λxs h=>by
   have C:xs.toList.length=1:=by rw[Array.length_toList];exact h
   match g:xs.toList,C with
   | [x],_=>exact⟨x,by rw[<-Array.toArray_toList (xs:=xs),g]⟩
  obtain⟨j,I⟩:=k t.place r;obtain⟨e,B⟩:=k es y;refine bd (λi=>if i=0 then 0 else j+1) rfl λi s l x g A E Q D f=>b i _ s l A E Q ?_;rw[I,B];rw[B]at g;rcases Nat.lt_or_ge i 1 with d|d
  ·have:i=0:=by lia
   subst this;dsimp only;rw[dn rfl,(xJ j).1];rw[g]at f
   simpa using f
  ·have:i=1:=by lia
   subst this;dsimp only;rw[dh (by decide),(xJ j).2];rw[g]at f
   simpa using f
theorem Al{α:Type}:∀l:List α,(List.range l.length).filterMap (λj=>l[j]?)=l| []=>rfl|x::l=>by rw[je,List.range_succ_eq_map,List.filterMap_cons];show x::_=_;rw[List.filterMap_map];exact congrArg _ (Al l)
theorem Gh(D:A.handled=none)(N:B5y prog w s.heap S sh (! jG w) o es ep t m ks){Q:zA}(h:∀v s1,Goes prog w A s S es v s1->Q v s1):wpAny (model prog w) A (pyIter (.ref S)) Q E s:=by
 have G:s.TypeIs (.ref S) "set":=(bd _ N.ho N.ex.1);have y:=gC N.ho;refine wpAny_pyIter_slot G PySem.F.slot_set_iter (jD PySem.F.slot_set_iter G Kl ?_ (PySem.F.args_set_iter_1 _));show wpAny _ _ (Builtin.Frozenset.sizeOf S>>=_) _ _ s;unfold Builtin.Frozenset.sizeOf;refine az (az (rJ N.ho N.hd N.fits (da ?_)));unfold setDrawn;refine az (az (wpAny_setState_of N.ho N.hd N.fits ?_));refine az (tQ (da ?_));dsimp only
 cases c:jG w with
 |true=>
  simp only [Bool.not_true,Bool.false_and,Bool.false_eq_true,if_false];refine az (da ?_);refine az (wpAny_setEpoch_of N.ho N.hd N.fits ?_);refine az (kB (da (gB _ rfl "set_iterator" _ (bd _ (hU _ rfl) rfl) mL.lookup (h _ _ ?_))));have k:=Bf (w.params.setOrder S ep) es.size 0 es.toList #[] (Array.length_toList)
  have l:((pickOrder (w.params.setOrder S ep) es).toList.map (·.2)).length=es.size:=by rw[dm];exact k.length_eq.trans (by simp)
  refine jc s.heap.objs.size [s.heap.objs.size,S] _ _ rfl (AO D (jC y) N.hd N.fits (sl:=λ_=>0) l (λi s J x K A E Q _ q=>Gp c N.hd N.fits i s J x K A E Q q)) ⟨hU _ rfl,fy _ N.ho⟩ (jd (λb c=>?_) (fa _) (λb o e=>fy _ e) rfl rfl λp f=>?_)
  ·rcases gP.mp c with z|z
   ·exact .inr (Nat.le_of_eq z.symm)
   ·exact .inl (gX.mp z)
  ·rw[<-l]at f;rw[wa f];refine List.Perm.map _ (k.trans ?_);simp
 |false=>
  by_cases h1:es.size<=1
  ·refine wg (show¬((! false&&(! t.plain&&decide (es.size>1)))=true) from by
    rw[ir (by lia),Bool.and_false];exact ij) (az (da ?_))
   refine az (wpAny_setEpoch_of N.ho N.hd N.fits ?_);refine az (kB (da (gB _ rfl "set_iterator" _ (bd _ (hU _ rfl) rfl) mL.lookup (h _ _ ?_))));obtain⟨sl,I,M⟩:=FK c N h1;have u:(es.toList.map (·.2)).length=es.size:=by simp
   refine jc s.heap.objs.size [s.heap.objs.size,S] _ _ rfl (AO D (jC y) N.hd N.fits (sl:=sl) u M) ⟨by rw[I];exact hU _ rfl,fy _ N.ho⟩ (jd (λb c=>?_) (fa _) (λb o e=>fy _ e) rfl rfl λp f=>?_)
   ·rcases gP.mp c with z|z
    ·exact .inr (Nat.le_of_eq z.symm)
    ·exact .inl (gX.mp z)
   ·rw[<-u]at f;rw[wa f]
  ·have B:=N.pln (by lia)
   refine wf (show(! false&&(! t.plain&&decide (es.size>1)))=true from by rw[jl (by lia),B];rfl) ?_
   refine az (BI es.size (List.range es.size) s (by simp) λg d C=>?_);have L:g.length=es.size:=by rw[C.length_eq];simp
   have O:=N.le;refine az (wpAny_newTuple ?_ (by rw[dm,L,sizeLine_eq];lia));have n:=fy (seqObj "tuple" (g.map λ(i:Nat)=>rawInt i).toArray 0) N.ho;refine az (wpAny_setEpoch_of n N.hd N.fits ?_);refine az (kB (da (gB _ rfl "set_iterator" _ (bd _ (hU _ rfl) rfl) mL.lookup (h _ _ ?_))));have H:(s.heap.push (seqObj "tuple" (g.map λ(i:Nat)=>rawInt i).toArray 0)).get? s.heap.objs.size=some (seqObj "tuple" (g.map λ(i:Nat)=>rawInt i).toArray 0):=hU _ rfl;have a:(s.heap.push (seqObj "tuple" (g.map λ(i:Nat)=>rawInt i).toArray 0)).objs.size=s.heap.objs.size+1:=size_push' _ _;refine jc _ [_,S,s.heap.objs.size] _ _ rfl (Iq D (P:=s.heap.objs.size) (by rw[a];exact jC (Nat.lt_succ_of_lt y)) (by rw[a];exact jC (Nat.lt_succ_self _)) N.hd N.fits rfl C) (fI (hU _ rfl) (fy _ n) (fy _ H)) (jd (λb c=>?_) (by rw[a];lia) (λb o e=>fy _ (fy _ e)) rfl rfl λp f=>?_)
   ·rcases gP.mp c with z|z
    ·exact .inr (by rw[z,a];lia)
    ·rcases gP.mp z with z|z
     ·exact .inl z
     ·exact .inr (Nat.le_of_eq (gX.mp z).symm)
   ·have r:(g.filterMap λj=>es[j]?.map (·.2)).Perm (es.toList.map (·.2)):=by
     refine(C.filterMap _).trans ?_;rw[<-List.map_filterMap];refine List.Perm.map _ ?_;have:=Al es.toList;rw[Array.length_toList]at this;simp only [Array.getElem?_toList]at this;rw[this]
    have u:(g.filterMap λj=>es[j]?.map (·.2)).length=es.size:=by rw[r.length_eq];simp
    rw[<-u]at f;rw[wa f];exact r
theorem IT:isSubtype (.type "set") (.type "set")=pure true:=by rw[isSubtype_type];kernel_rfl
theorem JR:splitId "set.__len__"=some ("set","__len__"):=by kernel_rfl
theorem IN(X:A.handled=none)(N:B5y prog w s.heap S sh (! jG w) o es ep t m ks){Q:zH->zY->Prop}
  (O:∀(xs:zH)(s':zY),xs.Perm (es.toList.map (·.2))->(∀b o,s.heap.get? b=some o->s'.heap.get? b=some o)->s'.gens=s.gens->s'.os=s.os->Q xs s'):wpAny (model prog w) A (collect (.ref S)) Q E s:=by
 have hT:s.TypeIs (.ref S) "set":=(bd _ N.ho N.ex.1);have j:=gC N.ho;unfold collect;refine az (wpAny_runValue (codeAny_builtin F.entry_proto_collect ?_));rw[Around.under_plainId F.plain_proto_collect _];show wpAny _ A.in1 (newList []>>=λl=>again (.builtin "list.__iadd__" ⟨[l,.ref S],[]⟩)) _ _ s;refine az (kB ?_);refine da ⟨plainId_quiet F.plain_list_iadd _,codeAny_builtin F.entry_list_iadd ?_⟩;rw[Around.under_plainId F.plain_list_iadd _];show wpAny _ A.in1 (Builtin.List.listExtendWith (.ref s.heap.objs.size) (.ref S) (.ref s.heap.objs.size)) _ _ _;unfold Builtin.List.listExtendWith;have x:∀b ob,s.heap.get? b=some ob->(s.heap.push {cls:=.type "list",data:=.seq ([]:zH).toArray}).get? b=some ob:=λb ob e=>fy _ e;have p:(s.heap.push {cls:=.type "list",data:=.seq ([]:zH).toArray}).get? s.heap.objs.size=some {cls:=.type "list",dict:=none,data:=.seq #[] 0,slots:=#[]}:=hU _ rfl;have a:(s.heap.push {cls:=.type "list",data:=.seq ([]:zH).toArray}).objs.size=s.heap.objs.size+1:=size_push' _ _;have N1:B5y prog w (s.heap.push {cls:=.type "list",data:=.seq ([]:zH).toArray}) S sh (! jG w) o es ep t m ks:=N.keep (x _ _ N.ho) λb ob e _=>x b ob e;generalize hh1:s.heap.push {cls:=.type "list",data:=.seq ([]:zH).toArray}=h1 at x p a N1⊢;have G:Shared.TypeIs {s with heap:=h1} (.ref S) "set":=(bd _ N1.ho N1.ex.1);refine az (wpAny_typeOf G ?_)
 have L:Builtin.List.listSameRef (.ref s.heap.objs.size) (.ref S)=false:=by have:¬s.heap.objs.size=S:=jC j;simp[Builtin.List.listSameRef,this]
 have M:(Value.type "set"==Value.type "list")=false:=by decide
 have R:(Value.type "set"==Value.type "tuple")=false:=by decide
 simp only [L,M,R,Bool.or_false,Bool.false_eq_true,if_false];refine az (Gh (A:=A.in1) (s:={s with heap:=h1}) (show A.in1.handled=none from X) N1 λv f K=>?_)
 refine jM K ?_;clear K;rintro It T P St rfl W B n ⟨g,y,J,I,U⟩;dsimp only at n g y J I;have h:f.TypeIs (.ref S) "set":=(bd _ (y _ _ N1.ho) N1.ex.1);have r:=y _ _ p
 have q:s.heap.objs.size∉T:=λz=>by
  rcases n _ z with e|e
  ·exact absurd e (jC j)
  ·rw[a]at e;lia
 refine az (jS ?_);unfold Builtin.List.listLengthHint;refine az (wpAny_specialOf h PySem.F.slot_set_len.lookup ?_);dsimp only;rw[JR];dsimp only;refine az (wpAny_isInstance h IT ?_);simp only [Bool.not_true,Bool.false_eq_true,if_false];refine wf (by decide+kernel) ?_;refine az (wpAny_typeOf h (da ?_));refine wf (by decide+kernel) ?_;refine az (wpAny_rule ?_);refine az ?_;show wpAny _ A.in1 (updateSeq s.heap.objs.size (·.push .none)>>=λ_=>updateSeq s.heap.objs.size (·.pop)) _ _ _;refine az (wpAny_updateSeq r rfl ?_);have i:=nk (Obj.mapSeq (·.push Value.none)) r rfl;refine wpAny_updateSeq i rfl ?_;have H:=nk (Obj.mapSeq (·.pop)) i rfl
 have u:∀b ob,b≠s.heap.objs.size->f.heap.get? b=some ob->((f.heap.update s.heap.objs.size (Obj.mapSeq (·.push Value.none))).update s.heap.objs.size (Obj.mapSeq (·.pop))).get? b=some ob :=λb o c e=>(nq _ _ (Ne.symm c)).trans ((nq _ _ (Ne.symm c)).trans e)
 have Z:=N.le
 refine da ⟨plainId_quiet F.plain_extend_loop _,codeAny_extend_loopS W (by rw[sizeLine_eq];lia) _ q _ es.size 0 _ _ _ rfl (jm _)
  (W.frame 0 f _ f.toks B (fa _) λb c ob e=>u b ob (λz=>q (z▸c)) e) H (ItemsOf.nil P) λs' d Y D C k=>?_⟩
 show wpAny _ A (load s.heap.objs.size>>=_) _ _ s';refine az (wpAny_load C ?_);refine da (O d.toList s' (U d k) (λb ob e=>?_) ?_ ?_)
 ·have c:b<s.heap.objs.size:=gC e;refine D.heap b ob (λz=>?_) (u b ob (iy c) (y _ _ (x _ _ e)));rcases gP.mp z with z|z
  ·exact absurd z (iy c)
  ·rw[gX.mp z]at c;rw[a]at g;exact absurd (jE c (Nat.le_of_succ_le g)) (Nat.lt_irrefl _)
 ·exact(show s'.gens=f.gens from D.gens).trans J
 ·exact(show s'.os=f.os from D.os).trans I
end
open PySem PySem.Spec PyProof.Rows L2 SA
abbrev mU:=Str×List Int
def ltR(a b:mU):Bool:=if a.1=b.1 then iC a.2 b.2 else decide (a.1.cps.toList<b.1.cps.toList)
theorem DM{a b:Str}(h:a.cps.toList=b.cps.toList):a=b:=by
 cases a;cases b
 simp only at h;rw[Array.toList_inj.mp h]
theorem E6(a b:mU)(h:ltR a b=true):ltR b a=false:=by
 unfold ltR at h⊢;by_cases e:a.1=b.1
 ·rw[dn e]at h;rw[dn e.symm];exact tN _ _ h
 ·rw[dh e]at h;rw[dh λz=>e z.symm];exact ir (List.lt_asymm (of_decide_eq_true h))
theorem DS(x y z:mU)(h1:ltR y x=false)(h2:ltR z y=false):ltR z x=false:=by
 unfold ltR at h1 h2⊢;by_cases e1:y.1=x.1
 ·rw[dn e1]at h1;by_cases e2:z.1=y.1
  ·rw[dn e2]at h2;rw[dn (e2.trans e1)];exact yh _ _ _ h1 h2
  ·rw[dh e2]at h2;rw[dh λq=>e2 (q.trans e1.symm),<-e1];exact h2
 ·rw[dh e1]at h1;have b:=List.not_lt.mp (of_decide_eq_false h1);by_cases e2:z.1=y.1
  ·rw[dh λq=>e1 (e2.symm.trans q),e2];exact h1
  ·rw[dh e2]at h2;have a:=List.not_lt.mp (of_decide_eq_false h2);have c:=List.le_trans b a;by_cases e3:z.1=x.1
   ·rw[e3]at a;exact absurd (DM (List.le_antisymm a b)) e1
   ·rw[dh e3];exact ir (List.not_lt.mpr c)
def NR(h:yA)(v:zX)(r:mU):Prop:=∃a o c n t b,v=.ref a/\h.get? a=some o/\o.cls=.type "tuple"/\o.data=.seq c n/\c.toList=[.str r.1 t,.ref b]/\B4e h (.ref b) r.2
theorem NR.one{r q:mU}(x:NR h v r)(y:NR h v q):r=q:=by refine ml x ?_;clear x;rintro a o C n t b rfl j z k m p;refine ml y λA w l B u s e f i c d g=>?_;clear y;cases e;rw[j]at f;cases f;rw[k]at c;cases c;rw[m]at d;injection d with e1 e2;injection e1 with e1 _;injection e2 with e2 _;injection e2 with e2;subst e2;exact Prod.ext e1 (p.one g)
open Classical in
noncomputable def kO(h:yA)(v:zX):mU:=if e:∃r,NR h v r then e.choose else ("",[])
theorem qX{r:mU}(x:NR h v r):kO h v=r:=by unfold kO;have e:∃r,NR h v r:=⟨r,x⟩;rw[dif_pos e];exact e.choose_spec.one x
theorem NR.keep{r:mU}(k:∀b o,h.get? b=some o->o.cls=.type "tuple"->h'.get? b=some o)(x:NR h v r):NR h' v r:=by refine ml x λa o g n t b e d c i j f=>?_;clear x;exact⟨a,(lP o g n t b e (k _ _ d c) c i j (f.keep k))⟩
theorem zi:∀{vs:zH}{h:yA},(∀v∈vs,∃r,NR h v r)->∃fs:zH,PySem.W.KatTups h vs fs/\fs.length=vs.length/\∀v∈fs,∃(x:Str)(t:Tok),v=.str x t
 | [],h,_=>(eh [] PySem.W.KatTups.nil rfl λv c=>by cases c)
 |k::vs,h,hk=>by
  obtain⟨fs,n,f,j⟩:=zi (vs:=vs) λq e=>hk q (jZ _ e);refine jk (hk k (kX)) ?_;rintro r a o s m t ⟨b,rfl,d,l,i,g,p⟩;refine eh (.str r.1 t::fs) (PySem.W.KatTups.cons d l i (by rw[<-Array.getElem?_toList,g];rfl) n) (by simp[f]) λv c=>?_;rcases gP.mp c with q|q
  ·exact iA _ _ q
  ·exact j v q
theorem Er{c:zI}{b:zW}(v:A.units+8<cLine)(p:B4e s.heap (.ref a) c)(r:B4e s.heap (.ref b) d)(h:Q (decide (c=d)) s):wpAny (model prog w) A (eqBool (.ref a) (.ref b)) Q E s:=by
 have f:∀{a:zW}{c:zI},B4e s.heap (.ref a) c->IsTupleKey (ig prog w) s.heap (c.map Sum.inl) a:=λ{a c} q=>by
  refine jM q λu o i n e j m k g=>?_;clear q;cases e;refine iE o i n j m k ?_;generalize i.toList=l at g
  induction g with
  |nil=>exact .nil
  |cons n t _ ih=>exact .cons (Bt prog w n t) ih
 refine wpAny_eqBool_tuple (by lia) (f p) (f r) ?_
 have e:decide (c.map (Sum.inl:Int->Key)=d.map Sum.inl)=decide (c=d):=by
  rw[decide_eq_decide];constructor
  ·intro e;exact(List.map_inj_right λa b q=>by injection q).mp e
  ·intro e;rw[e]
 rw[e];exact h
theorem Gz(Z:A.units+8<cLine)(u:∀v∈vs,∃r,NR h v r):Ordd prog w A h vs (λx y=>ltR (kO h x) (kO h y)) where
 kind:=λs B S E Q R=>by
  have k:∀v∈vs,∃r,NR s.heap v r:=λv l=>by obtain⟨r,q⟩:=u v l;exact⟨r,q.keep B⟩
  obtain⟨fs,U,f2,M⟩:=zi k;refine PySem.W.kat_kind (T:=.type "str") U (by lia) (λv l=>?_) rfl ?_
  ·obtain⟨x,t,rfl⟩:=M v l;exact .now
  rw[show(Value.type "str" != Value.type "tuple")=true from rfl];refine R _ {tr:=λx y z _ _ _=>DS _ _ _,asym:=λx y _ _=>E6 _ _,ask:=λx y Y X E Q q=>?_};obtain⟨r,C⟩:=u _ Y;obtain⟨p,D⟩:=u _ X;rw[qX C,qX D]at q;refine ml (C.keep B) λa o N n t b K P S L G I=>?_;refine ml (D.keep B) λa' o' j n' t' b' i m O f c d=>?_;rw[K,i];refine PySem.W.kat_lt P L m f ?_;rw[G,c]
  have J:N.size=2/\j.size=2:=by have H:=congrArg List.length G;have F:=congrArg List.length c;rw[Array.length_toList]at H F;exact⟨H,F⟩
  rw[J.1,J.2];rw[List.zip_cons_cons,List.zip_cons_cons];refine PySem.W.kat_cons (wpAny_eqBool_str ?_);unfold ltR at q;by_cases e:r.1=p.1
  ·rw[dn e]at q;rw[jl e];refine PySem.W.kat_yes (PySem.W.kat_cons (Er Z I d ?_));by_cases e2:r.2=p.2
   ·rw[jl e2];refine PySem.W.kat_yes (PySem.W.kat_nil ?_);rw[e2]at q
    have g:iC p.2 p.2=false:=by
     cases z:iC p.2 p.2 with
     |false=>rfl
     |true=>rw[tN _ _ z]at z;cases z
    rw[g]at q;exact q
   ·rw[ir e2];refine PySem.W.kat_no (PySem.W.kat_one _ _ (ET (by lia) I d ?_));exact q
  ·rw[dh e]at q;rw[ir e];exact PySem.W.kat_no (oneLt_str q)
def nkR(r:mU):gz:=[.inl (.inr r.1),.inr (r.2.map Sum.inl)]
theorem nkR_inj{a b:mU}(h:nkR a=nkR b):a=b:=by unfold nkR at h;injection h with h1 h2;injection h1 with h1;injection h1 with h1;injection h2 with h2 _;injection h2 with h2;exact Prod.ext h1 ((List.map_inj_right λa b q=>by injection q).mp h2)
def vOf:zX->V|.ref a=>.ref a|_=>.non
theorem yo{α β:Type}{F:α->β->Prop}{f:α->β}:∀{xs:List α}{ks:List β},Paired F xs ks->(∀x∈xs,∀k,F x k->f x=k)->xs.map f=ks|_,_,.nil,_=>rfl|_,_,.cons r t,h=>by rw[ik,h _ kX _ r,yo t λx a=>h x (jZ _ a)]
theorem Cz{r:mU}(x:A1n prog w h (nkR r) a):NR h (.ref a) r:=by
 refine gW x λo d n s z v q=>?_;clear x;generalize hl:d.toList=l at q
 cases q with
 |cons h1 t1=>
  cases t1 with
  |cons h2 t2=>
   cases t2
   rcases mj (show nS (.inr r.1) _=true from h1)with ⟨i,t,e,_⟩|⟨y,t,e,rfl⟩
   ·cases e
   cases e
   obtain⟨b,rfl,u,g,A,p,k,j,f⟩:=h2;refine⟨a,(lP o d n t b rfl s z v hl (jP b u g A rfl p k j ?_))⟩;generalize g.toList=l' at f;generalize hr:r.2=c at f;clear hr
   induction c generalizing l' with
   |nil=>cases f;exact .nil
   |cons m c ih=>
    cases f with
    |cons g1 g2=>
     rcases mj (show nS (.inl m) _=true from g1)with ⟨i,t,e,rfl⟩|⟨y,t,e,rfl⟩
     ·cases e
      exact .cons _ _ (ih _ g2)
     ·cases e
theorem Jz{f:α->β}{l:List α}(h:(l.map f).Nodup):l.Nodup:=by rw[List.Nodup,List.pairwise_map]at h;exact h.imp λa e=>a (by rw[e])
section
variable{k:Nat}
theorem Df(I:Inv X pins Z H s)(k:∀b o,s.heap.get? b=some o->s'.heap.get? b=some o)(a:s'.gens=s.gens)(c:s'.os=s.os):Inv X pins Z H s':=by have I1:=I.kept (h':=s'.heap) (t':=s'.toks) k;exact⟨I1.ok,by rw[c];exact I1.os,by rw[a];exact I1.bare,I1.base,I1.loc,I1.cell,I1.free,I1.freeC,I1.pin,I1.hok,I1.len⟩
def zp(K:Frag):zM->Hp->VK->Prop:=λe H Q=>∃(p:zW)(c:zM)(a:V->mU),e=[.ref p]/\SqL K H p c/\c.length<=4/\(∀y∈c,∃b,y=.ref b/\A2v H (nkR (a y)) b)/\
 ∀d,d.length<=4->(∀z∈d,z∈c)->(d.map a).Nodup->(∀y∈c,a y∈d.map a)->∀l,H l=none->Q (.ref l) (upd H l (.lst d))
theorem Fo:bootBuiltins "set"=some (.type "set"):=by decide+kernel
end
end SN
namespace L2
open PySem PySem.Spec PyProof.Rows
section
variable{prog:yB}{w:yD}{A:zZ}{E:zA}{s:zY}
theorem Kx{h it l:zW}{k:Nat}{xs:zG}{Q:zN->zY->Prop}(g:A.handled=some (.ref h))(i:D8c h s.heap)(a:h≠it)(hi:s.heap.IsTupleIter it l k)(b:s.heap.IsTuple l xs)(f:xs[k]?=none)
  (j:∀h',Heap.ExtBut it s.heap h'->Q none {s with heap:=h'}):wpAny (model prog w) A (pyNext (.ref it)) Q E s :=
 Eh j λ_ m=>vq (e:=some h) g (λz q=>by cases q;exact⟨i,λc d=>by rw[gX.mp d];exact a⟩) hi b f m
end
def qg(ea:zW)(K:Frag)(a:zW):It:=⟨(Itt K a).go,(Itt K a).yld,λi H=>(Itt K a).stop i H/\∃C b,H ea=some (.ext (xcG ea C b))⟩
theorem Hr{P:yB}{w:yD}{K:Frag}{tg:yC}(ea a it:zW):A7i (nZ ea) P w K tg (qg ea K a) [it] it (λi h=>h.IsTupleIter it a i):=
 A7i.fin (J:=qg ea K a) (BB a it)<|by
  intro X l n O r i j s Z H E I M F L;subst l n O;obtain⟨⟨S,y,U⟩,C,N,f⟩:=L;obtain⟨d,A,p,W⟩:=I.tuple y;obtain⟨g,G,R,m,k,u⟩:=M it (by simp);obtain⟨⟨o,v,B,_,_,x,D⟩,_,_⟩:=(show A1h X.prog X.w H s.heap ea (.ext (xcG ea C N)) from I.hok ea _ f);have T:=A.length;have c:ea≠it:=λz=>by rw[z,g]at f;cases f
  exact Kx r (eu o v B x D) c F (show s.heap.IsTuple a d.toArray from p) (by simp;lia) λQ t=>⟨rfl,I.turned (t':=s.toks) (λb o q e=>t b o q e) g G m k u⟩
def CJ(ea:zW)(K:Frag)(tl:TE):TI:=λZ H R=>tl Z H λx b=>∃a,x=.ref a/\(∃c,SqT K b a c)/\R (qg ea K a) b
theorem yK{X:Cx}{tg:yC}{ea:zW}{l:yC}{tl:TE}(g:PE X l tl):PIP (nZ ea) X tg l (CJ ea X.K tl):=by
 intro c s Z H R I h;refine thn (g c s Z H _ I h) ?_;rintro v d ⟨x,n,I1,m,j⟩;obtain⟨a,e,⟨u,i⟩,q⟩:=j;subst e;cases m;obtain⟨f,r,p,t⟩:=I1.tuple i;refine wpAny_pyIter_tuple (show d.heap.IsTuple a f.toArray from p) ?_;refine lP d.heap.objs.size [d.heap.objs.size] _ _ n rfl (I1.kept (t':=d.toks) λb o e=>fy _ e) (Hr ea a _) (eh _ (hU _ rfl) rfl rfl) (λb k=>?_) q;have e:b=d.heap.objs.size:=by simpa using k
 subst e;exact I1.fpOk (fa _) (I1.hok.fresh (fa _))
theorem zx{ea:zW}{K:Frag}{a:zW}{xs:zM}{g:TG}{tb:TS}{D:kR}{Z:St}{H:Hp}(Pv:Nat->St->Hp->Prop)(h0:Pv 0 Z H)(c:∀i Z H,Pv i Z H->SqT K H a xs/\∃C od,H ea=some (.ext (xcG ea C od)))
  (hs:∀i x Z H,xs[i]?=some x->Pv i Z H->g x Z H λZ2 H2=>tb {D with nx:=Pv (i+1),ct:=Pv (i+1),bk:=D.nx} Z2 H2) (h:∀Z H,Pv xs.length Z H->D.nx Z H):
  ∃W:Nat->Nat->St->Hp->Prop,(∃m,W 0 m Z H)/\∀i m Z H,W i m Z H->
   ((qg ea K a).stop i H/\D.nx Z H)\/((qg ea K a).go i H/\∃N:St->Hp->Prop,(∀Z' H',N Z' H'->∃b,b<m/\W (i+1) b Z' H')/\∀x H',(qg ea K a).yld i H x H'->g x Z H' λZ2 H2=>tb {D with nx:=N,ct:=N,bk:=D.nx} Z2 H2):=by
 refine bd (λi m Z H=>m=xs.length-i/\i<=xs.length/\Pv i Z H) (eh xs.length (by simp) (jm _) h0) ?_;rintro i m Z H ⟨rfl,j,p⟩;obtain⟨q,d⟩:=c i Z H p;by_cases hlt:i<xs.length
 ·refine .inr (iB (hZ xs (xs[i]) q (by simp[hlt])) (Pv (i+1)) (λZ' H' f=>(iF (xs.length-(i+1)) (by lia) rfl hlt f)) λx H' y=>?_);obtain⟨e,y⟩:=y;subst e;exact hs i x Z _ (y xs q) p
 ·have e:i=xs.length:=by lia
  subst e;exact .inl ⟨⟨(bd xs q (fa _)),d⟩,h Z H p⟩
theorem HN{ea:zW}{lo:Int}{n:Nat}{g:TG}{tb:TS}{D:kR}{Z:St}{H:Hp}(Pv:Nat->St->Hp->Prop)(h0:Pv 0 Z H)(b:∀i Z H,Pv i Z H->∃C od,H ea=some (.ext (xcG ea C od)))
  (hs:∀i Z H,i<n->Pv i Z H->g (.int (lo+i)) Z H λZ2 H2=>tb {D with nx:=Pv (i+1),ct:=Pv (i+1),bk:=D.nx} Z2 H2) (f:∀Z H,Pv n Z H->D.nx Z H):
  ∃W:Nat->Nat->St->Hp->Prop,(∃m,W 0 m Z H)/\∀i m Z H,W i m Z H->
   ((qk ea lo n).stop i H/\D.nx Z H)\/((qk ea lo n).go i H/\∃N:St->Hp->Prop,(∀Z' H',N Z' H'->∃a,a<m/\W (i+1) a Z' H')/\∀x H',(qk ea lo n).yld i H x H'->g x Z H' λZ2 H2=>tb {D with nx:=N,ct:=N,bk:=D.nx} Z2 H2):=by
 refine bd (λi m Z H=>m=n-i/\i<=n/\Pv i Z H) (eh n (by simp) (jm _) h0) ?_;rintro i m Z H ⟨rfl,h,p⟩;have d:=b i Z H p;by_cases hlt:i<n
 ·refine .inr (iB hlt (Pv (i+1)) (λZ' H' c=>(iF (n-(i+1)) (by lia) rfl hlt c)) λx H' y=>?_);obtain⟨e,y⟩:=y;subst e y;exact hs i Z _ hlt p
 ·have e:i=n:=by lia
  subst e;exact .inl ⟨⟨fa _,d⟩,f Z H p⟩
section
variable{X:Cx}
theorem CT:OpR X (compareOp .Is) (λx y H Q=>∃b c:Bool,x=.bl b/\y=.bl c/\Q (.bl (b==c)) H):=by intro a s Z H x y v u Q I d e h;obtain⟨b,c,rfl,rfl,q⟩:=h;cases d;cases e;exact PyProof.Rows.is_bool (iP I q rfl)
end
end L2
namespace SA
open PySem PyProof.Rows
open PySem.W (KasT kas_asc kas_desc kas_tail3 kas_descPart kas_count kas_place kas_bin kas_sort kas_rev)
variable{β α:Type}{w:yD}{vs:zH}{s:zY}{prog:yB}{p:Array Nat}{n:Nat}{c:Nat->Nat->(Bool->zY->Prop)->zY->Prop}{a:zW}{P:PySem.Fin->zY->Prop}{E:zA}{A:zZ}
def KOk{α:Type}(n:Nat)(R:α->Prop):KasT α->Prop|.ret a=>R a|.ask i j k=>i<n/\j<n/\∀b,KOk n R (k b)
theorem KOk.bind{R:α->Prop}{S:β->Prop}{f:α->KasT β}(c:∀a,R a->KOk n S (f a))(t:KasT α)(h:KOk n R t):KOk n S (t.bind f):=by
 induction t with
 |ret a=>exact c a h
 |ask i j k ih=>exact fI h.1 h.2.1 λb=>ih b (h.2.2 b)
theorem KOk.wp{R:α->Prop}(d:∀i j C,i<n->j<n->(∀b,C b s)->c i j C s)(t:KasT α)(h:KOk n R t):t.kasWp c (λa s'=>R a/\s'=s) s:=by
 induction t with
 |ret a=>exact⟨h,rfl⟩
 |ask i j k ih=>exact d i j _ h.1 h.2.1 λb=>ih b (h.2.2 b)
def Pm(n:Nat)(p:Array Nat):Prop:=p.Perm (List.range n).toArray
theorem Pm.get{n:Nat}{p:Array Nat}(h:Pm n p)(hn:0<n)(i:Nat):p.getD i 0<n:=by
 by_cases hi:i<p.size
 ·have e:p.getD i 0=p[i]:=by simp[Array.getD,hi]
  have m:p[i]∈p:=Array.getElem_mem hi;have a:=(Array.Perm.mem_iff h).mp m;rw[e]
  simpa using a
 ·have e:p.getD i 0=0:=by simp[Array.getD,hi]
  rw[e];exact hn
theorem Pm.rev(h:Pm n p)(i j:Nat):Pm n (kas_rev p i j):=(mirror_perm p i j _).trans h
section
variable{n:Nat}(hn:0<n)
include hn
theorem yt(h:Pm n p)(f a:Nat):KOk n (λ_=>True) (kas_asc p f a):=by
 induction f generalizing a with
 |zero=>exact trivial
 |succ f ih=>
  refine fI (h.get hn _) (h.get hn _) λb=>?_;cases b
  ·exact ih _
  ·exact trivial
theorem Gf(f:Nat)(p:Array Nat)(h:Pm n p)(a q:Nat):KOk n (λr=>Pm n r.1) (kas_desc f p a q):=by
 induction f generalizing p a q with
 |zero=>exact h
 |succ f ih=>
  refine fI (h.get hn _) (h.get hn _) λb=>?_;cases b
  ·refine fI (h.get hn _) (h.get hn _) λd=>?_;cases d
   ·exact ih _ h _ _
   ·exact h
  ·show KOk n _ (if q>0 then kas_desc f (kas_rev p (a-(q+1)) a) (a+1) 0 else kas_desc f p (a+1) 0);split
   ·exact ih _ (h.rev _ _) _ _
   ·exact ih _ h _ _
theorem AL(h:Pm n p)(a m:Nat):KOk n (λr=>Pm n r.2) (kas_tail3 a m p):=by unfold kas_tail3;refine KOk.bind (R:=λ_=>True) (λm _=>?_) _ (yt hn (h.rev _ _) _ _);exact h.rev 0 a
theorem BG(h:Pm n p)(a m:Nat):KOk n (λr=>Pm n r.2) (kas_descPart a m p):=by
 refine KOk.bind (λr b=>?_) _ (Gf hn _ p h _ _);split
 ·exact AL hn (b.rev _ _) _ _
 ·exact AL hn b _ _
theorem Hq(h:Pm n p)(m:Nat):KOk n (λr=>Pm n r.2) (kas_count m p):=by
 refine KOk.bind (λr _=>?_) _ (yt hn h _ _);split
 ·exact h
 ·split
  ·refine fI (h.get hn _) (h.get hn _) λb=>?_;cases b
   ·exact BG hn (h.rev _ _) _ _
   ·exact h
  ·exact BG hn h _ _
theorem GL(h:Pm n p)(k f l r:Nat):KOk n (λ_=>True) (kas_place p k f l r):=by
 induction f generalizing l r with
 |zero=>exact trivial
 |succ f ih=>
  show KOk n _ (if l≥r then .ret l else .ask (p.getD k 0) (p.getD ((l+r)/2) 0) λc=>if c=true then kas_place p k f l ((l+r)/2)else kas_place p k f ((l+r)/2+1) r);split
  ·exact trivial
  ·refine fI (h.get hn _) (h.get hn _) λb=>?_;cases b
   ·exact ih _ _
   ·exact ih _ _
theorem Ep(f:Nat)(p:Array Nat)(h:Pm n p)(k:Nat):KOk n (Pm n) (kas_bin f p k):=by
 induction f generalizing p k with
 |zero=>exact h
 |succ f ih=>exact KOk.bind (λl _=>ih _ ((bubble_perm p k _).trans h) _) _ (GL hn h _ _ _ _)
theorem FL:KOk n (Pm n) (kas_sort n):=by
 refine KOk.bind (λr a=>?_) _ (Hq hn (Array.Perm.refl _) _);split
 ·exact Ep hn _ _ a _
 ·exact a
end
theorem Kd{lt:zX->zX->Bool}(O:Ordd prog w A s.heap vs lt)(r:s.heap.get? a=some (seqObj "list" vs.toArray n))(hz:vs.length<=sizeLine)(D:vs.length<64)
  (h:∀(u:zH)(h':yA)(c:Nat),u.Perm vs->h'.get? a=some (seqObj "list" u.toArray c)->(∀b o,b≠a->s.heap.get? b=some o->h'.get? b=some o)->P (.done (.ret .none)) {s with heap:=h'}):
  wpAny (model prog w) A (Builtin.«list.sort» ⟨[.ref a],[]⟩) P E s:=by
 have ha:a<s.heap.objs.size:=gC r;have M:=Heap.SameBut.update s.heap a (Obj.mapSeq λ_=>(#[]:zG));obtain⟨e1,ho1⟩:∃e1,(s.heap.update a (Obj.mapSeq λ_=>(#[]:zG))).get? a=some (seqObj "list" #[] e1):=⟨_,get?_update_seq r λ_=>#[]⟩;rw[list_sort_plain];refine az (listItems_at r rfl ?_);refine az (listUpdate_at r rfl ?_ (by rw[iR];lia) (jm _));refine az (seqEpoch_at ho1 rfl ?_);refine az (wpAny_newTuple ?_ (by show vs.length<=_;lia));refine az (wpAny_newList ?_ (jm _));refine jS ?_;show wpAny (model prog w) A _ P E {s with heap:=((s.heap.update a (Obj.mapSeq λ_=>(#[]:zG))).push (seqObj "tuple" vs.toArray 0)).push (seqObj "list" #[] 0)}
 have l:∀b o,b≠a->s.heap.get? b=some o->(((s.heap.update a (Obj.mapSeq λ_=>(#[]:zG))).push (seqObj "tuple" vs.toArray 0)).push (seqObj "list" #[] 0)).get? b=some o:=λb o v e=>fy _ (fy _ ((M.2 b v).trans e));have k:(((s.heap.update a (Obj.mapSeq λ_=>(#[]:zG))).push (seqObj "tuple" vs.toArray 0)).push (seqObj "list" #[] 0)).get? a=some (seqObj "list" #[] e1):=fy _ (fy _ ho1);generalize ((s.heap.update a (Obj.mapSeq λ_=>(#[]:zG))).push (seqObj "tuple" vs.toArray 0)).push (seqObj "list" #[] 0)=h3 at l k⊢;dsimp only
 have N:(vs.toArray.zip vs.toArray).toList.map (·.2)=vs:=by rw[Array.toList_zip];exact List.map_snd_zip (fa _)
 have q:∀d:SortSt,(arrOf d).Perm (vs.toArray.zip vs.toArray)->failedOf d=none->wpAny (model prog w) A (do
   let g:=(arrOf d).map (·.2)
   let f:=(<-seqEpoch a) != e1
   Builtin.List.listUpdate (.ref a) λ_=>g
   if let some e:=failedOf d then rule "list.sort.comparison-raised";throw e
   if f then rule "list.sort.modified";raiseError "ValueError" "list modified during sort"
   ret .none) P E {s with heap:=h3}:=λd x H=>by
  have Q:=Heap.SameBut.update h3 a (Obj.mapSeq λ_=>(arrOf d).map (·.2));obtain⟨c2,hc2⟩:∃c2,(h3.update a (Obj.mapSeq λ_=>(arrOf d).map (·.2))).get? a=some (seqObj "list" ((arrOf d).map (·.2)) c2):=⟨_,get?_update_seq k λ_=>(arrOf d).map (·.2)⟩;have Y:(arrOf d).size=vs.length:=by rw[x.size_eq,Array.size_zip];simp
  refine az (seqEpoch_at k rfl ?_);refine az (listUpdate_at k rfl ?_ (jm _) (by rw[Array.size_map,Y];exact Nat.le_succ_of_le hz));rw[H];simp only [bne_self_eq_false,Bool.false_eq_true,if_false];refine da (h ((arrOf d).toList.map (·.2)) _ c2 ?_ ?_ λb o v e=>(Q.2 b v).trans (l b o v e))
  ·have:=(Array.perm_iff_toList_perm.mp x).map (·.2)
   rwa[N]at this
  ·rw[hc2];congr 1;congr 1;rw[<-Array.toList_map]
 by_cases h2:vs.toArray.size<2
 ·rw[dn h2,dn h2];refine az (da ?_);rw[StateT.run_pure];refine az (da ?_)
  try dsimp only
  exact q (SortSt.mk' general' (vs.toArray.zip vs.toArray) #[] 7 none) (Array.Perm.refl _) rfl
 ·rw[dh h2,dh h2];rw[iR]at h2;refine az (O.kind _ (λb o e I=>l b o (λz=>by subst z;rw[r]at e;injection e with e;rw[<-e]at I;exact absurd I (by show¬(Value.type "list"=Value.type "tuple");decide)) e) (by lia) _ _ λκ R=>?_)
  have J:(vs.toArray.zip vs.toArray).size=vs.length:=by rw[Array.size_zip];simp
  have Z:SortSt.mk' κ (vs.toArray.zip vs.toArray) #[] 7 none=PySem.W.kas_st κ (vs.toArray.zip vs.toArray) (List.toArray (List.range vs.length)):=by have:=PySem.W.kas_range (vs.toArray.zip vs.toArray);rw[J]at this;unfold PySem.W.kas_st;rw[this]
  rw[Z]
  have K:PySem.W.kasC (model prog w) A E sortRuns' (λ_ d t=>(arrOf d).Perm (vs.toArray.zip vs.toArray)/\failedOf d=none/\t={s with heap:=h3}) (PySem.W.kas_st κ (vs.toArray.zip vs.toArray) (List.toArray (List.range vs.length))) {s with heap:=h3}:=by
   refine PySem.W.kas_runs (it:=vs.toArray.zip vs.toArray) (G:=λp t=>Pm vs.length p/\t={s with heap:=h3}) (by lia) D ?_ ?_
   ·rintro U m t _ T F ⟨y,rfl⟩;refine fI ?_ F rfl;rw[T];have L:(U.map (PySem.W.kas_item (vs.toArray.zip vs.toArray))).Perm ((List.range vs.length).toArray.map (PySem.W.kas_item (vs.toArray.zip vs.toArray))):=Array.perm_iff_toList_perm.mpr (by rw[Array.toList_map,Array.toList_map];exact(Array.perm_iff_toList_perm.mp y).map _);have:=PySem.W.kas_range (vs.toArray.zip vs.toArray);rw[J]at this;rw[this]at L;exact L
   ·refine KOk.wp (λi j C B S X=>?_) _ (FL (by lia))
    have it:∀i,i<vs.length->(PySem.W.kas_item (vs.toArray.zip vs.toArray) i).1∈vs:=λi B=>by unfold PySem.W.kas_item;simp[Array.getD,B]
    exact R.ask _ _ (it i B) (it j S) _ _ (X _)
  refine az (iV K ?_ λ_ _ e=>e);rintro⟨⟨⟩,m⟩ t ⟨x,H,rfl⟩
  try dsimp only
  exact q m x H
end SA
namespace L2
open PySem PySem.Spec PyProof.Rows SA
section
variable{X:Cx}
theorem Jf{pins:zD}{Z:St}{H:Hp}{s:zY}{ys:zM}{its:zH}{lt:zX->zX->Bool}{P:PySem.Fin->zY->Prop}{E:zA}(I:Inv X pins Z H s)(n:A2k ys its)(v:ys.length<=sizeLine)(x:ys.length<64)(O:Ordd X.prog X.w X.A.in1.in1 s.heap its lt)
  (h:∀zs s' l,Inv X pins Z (upd H l (.lst zs)) s'->H l=none->zs.Perm ys->P (.done (.ret (.ref l))) s'):
  wpAny (model X.prog X.w) X.A.in1 (do
   let l<-newList its
   let _<-holding [l] (call (.builtin "list.sort") [l] [])
   ret l) P E s:=by
 have u:=n.length;refine az (wpAny_newList ?_ (by lia));have i:s.heap.get? s.heap.objs.size=none:=Heap.get?_none_of_le (fa _);have g:H s.heap.objs.size=none:=I.hok.fresh (fa _);have p:kQ X pins H s.heap.objs.size:=I.fpOk (fa _) g;have d:∀b o,s.heap.get? b=some o->(s.heap.push (seqObj "list" its.toArray 0)).get? b=some o:=λb o e=>fy _ e;have f:(s.heap.push (seqObj "list" its.toArray 0)).get? s.heap.objs.size=some (seqObj "list" its.toArray 0):=hU _ rfl;show wpAny _ _ _ _ _ {s with heap:=s.heap.push (seqObj "list" its.toArray 0)};have I1:=I.kept (t':=s.toks) d;have O1:=O.mono d;generalize s.heap.push (seqObj "list" its.toArray 0)=h1 at d f I1 O1⊢;generalize s.heap.objs.size=a at i g p f⊢;refine az (jS (jD slot_list_sort (bd _ f rfl) entry_list_sort ?body (args_list_sort _)))
 case body=>
  show wpAny (model X.prog X.w) X.A.in1.in1 (Builtin.«list.sort» ⟨[.ref a],[]⟩) _ _ _;refine Kd O1 f (by lia) (by lia) λk h' c y t q=>(bd _ rfl ?_);obtain⟨zs,r,m⟩:=Hc y n;have I2:=I1.turnedL (t':=s.toks) (h':=h') (ts:=[a]) (λb o j e=>q b o (by simpa using j) e) λb j=>by rw[gX.mp j];exact p
  refine da (h zs _ a (I.trackO I2 i g ?_) g m);exact kW (by rw[m.length_eq];exact v) k c r t
end
end L2
namespace SN
open PySem PySem.Spec PyProof.Rows L2 SA
section
variable{X:Cx}{k:Nat}
theorem Ix{pins:zD}{Z:L2.St}{H:Hp}{s:zY}{xs:zM}{us:zH}{Q:VK}(hr:A5p (k+2) X.A)(I:Inv X pins Z H s)(rx:A2k xs us)(h:zp X.K xs H Q):
  wpAny (model X.prog X.w) X.A (call (.type "set") us) (λu s1=>wpAny (model X.prog X.w) X.A (call (.builtin "sorted") [u]) (EP X pins Z Q) X.xe s1) X.xe s:=by
 refine gW h ?_;clear h;rintro p f key rfl hq h4 ⟨ht,q⟩;obtain⟨u,rfl,ru⟩:=oH rx;cases ru;obtain⟨r,rv,pl,R⟩:=I.list hq;have n:=rv.length;have un:=hr.un
 have B:∀i,i<r.toArray.size->∃b,f[i]?=some (.ref b)/\r[i]?=some (.ref b)/\A2v H (nkR (key (.ref b))) b:=λi g=>by
  have O:i<f.length:=by rw[n];simpa using g
  have e:f[i]?=some f[i]:=gM O;obtain⟨b,D,d⟩:=ht _ (List.getElem_mem O);obtain⟨v,c,M⟩:=rv.get e;rw[D]at M e d;cases M;exact eh b e c d
 refine GF (sh:=[true,false]) (key:=λi=>match f[i]? with|some y=>nkR (key y)|none=>[]) (adr:=λi=>match f[i]? with|some (.ref b)=>b|_=>0) hr.hd (by lia) pl.isList (λi v c=>?_) (by rw[iR,<-n];exact h4) (λi g=>?_) λh' tk hH J=>?_
 ·rw[List.getElem?_toArray]at c;have g:i<r.toArray.size:=by rw[iR];exact(gG.mp c).1
  obtain⟨b,C,U,_⟩:=B i g;rw[U]at c;rw[C];exact(iX c).symm
 ·obtain⟨b,C,U,d⟩:=B i g;simp only [C];exact fI (iA _ _ rfl) rfl (d.is I.hok)
 refine jk hH ?_;clear hH;rintro o es ep t m ks ⟨N,c1,c2,c3⟩;have x:∀b o,s.heap.get? b=some o->h'.get? b=some o:=λb o e=>J b o (gC e) e;have I1:=I.kept (h':=h') (t':=tk) x
 have G:∀e∈es.toList,∃b,e.2=.ref b/\V.ref b∈f/\A1n X.prog X.w h' (nkR (key (.ref b))) b:=λe L=>by obtain⟨j,hj,Y⟩:=c3 e L;obtain⟨b,C,U,d⟩:=B j hj;dsimp only at Y;rw[C]at Y;exact eh b Y (gJ C) (d.is I1.hok)
 have T:(es.toList.map λe=>nkR (key (vOf e.2)))=ks:=yo N.ok λe L k hk=>by obtain⟨b,D,_,d⟩:=G e L;obtain⟨a,ea,_,ha⟩:=hk;rw[ea]at D⊢;cases D;exact d.inj ha
 refine Calls.call_function_entry kind_sorted plain_sorted entry_sorted (args_sorted1 _) ?_;unfold Builtin.«sorted»;refine az (m:=checkCount "sorted" 1 1 _) (da ?_);refine az (IN (s:={s with heap:=h',toks:=tk}) (show X.A.in1.handled=none from hr.hd) N λxs s' P k2 g2 o2=>?_)
 have I2:Inv X pins Z H s':=Df I1 k2 g2 o2
 have mx:∀v∈xs,∃b,v=.ref b/\V.ref b∈f/\A1n X.prog X.w s'.heap (nkR (key (.ref b))) b:=λv c=>by obtain⟨e,L,rfl⟩:=gS.mp (P.mem_iff.mp c);obtain⟨b,D,S,d⟩:=G e L;exact eh b D S (rA (λb o e _=>k2 b o e) d)
 have W:A2k (xs.map vOf) xs:=by
  have:∀l:zH,(∀v∈l,∃b,v=.ref b)->A2k (l.map vOf) l:=λl=>by
   induction l with
   |nil=>intro _;exact .nil
   |cons v l ih=>intro h;obtain⟨b,rfl⟩:=h v kX;exact .cons rfl (ih λu hu=>h u (jZ _ hu))
  exact this xs λv c=>by obtain⟨b,e,_⟩:=mx v c;exact⟨b,e⟩
 have lx:(xs.map vOf).length<=sizeLine:=by
  rw[dm,P.length_eq,dm,Array.length_toList,sizeLine_eq];have:=N.le
  lia
 refine Jf I2 W lx (by rw[dm,P.length_eq,dm,Array.length_toList];have:=N.le;lia) (Gz (by show X.A.units+1+1+8<cLine;lia) λv c=>?_) λF s3 l I3 hl E=>(gB _ rfl (.ref l) _ I3 rfl (q F (by rw[E.length_eq,dm,P.length_eq,dm,Array.length_toList];exact N.le) ?_ ?_ ?_ l hl))
 ·obtain⟨b,rfl,_,d⟩:=mx v c;exact⟨_,Cz d⟩
 ·intro z R;obtain⟨v,c,rfl⟩:=gS.mp (E.mem_iff.mp R);obtain⟨b,rfl,S,_⟩:=mx v c;exact S
 all_goals
  have pk:(F.map λz=>nkR (key z)).Perm ks:=by refine(E.map _).trans ?_;rw[List.map_map];refine(P.map _).trans ?_;rw[List.map_map];exact List.Perm.of_eq T
 ·have nd:(F.map λz=>nkR (key z)).Nodup:=pk.nodup_iff.mpr N.nd;have e:(F.map λz=>nkR (key z))=(F.map key).map nkR:=by rw[List.map_map];rfl
  rw[e]at nd;exact Jz nd
 ·intro y hy;obtain⟨i,g⟩:=List.getElem?_of_mem hy;have hk:nkR (key y)∈ks:=(c2 _).mpr (bd i (by rw[iR,<-n];exact(gG.mp g).1) (by dsimp only;rw[g]));obtain⟨z,R,ez⟩:=gS.mp (pk.mem_iff.mpr hk);rw[<-nkR_inj ez];exact gS.mpr (bd z R rfl)
theorem pe_sortedSetp{e:yC}{t:TA}{p p2 pos a:Pos}(j:A5p (k+2) X.A)(r:Gl X "sorted")(n:X.mg "sorted"=none)(g:Gl X "set")(i:X.mg "set"=none)(v:PA X [e] t)
  (q:starEach [e] X.env=(false,eval e X.env)::starEach [] X.env:=by rfl) (f:(backTo a (starEach [] X.env)).any (·.1)=false:=by rfl)
  (d:starEach [.Call (.Name "set" p2) [e] [] a] X.env=(false,eval (.Call (.Name "set" p2) [e] [] a) X.env)::starEach [] X.env:=by rfl) (b:(backTo pos (starEach [] X.env)).any (·.1)=false:=by rfl):
  PE X (.Call (.Name "sorted" p) [.Call (.Name "set" p2) [e] [] a] [] pos) (tCB (zp X.K) t):=by
 intro c s Z H Q I h;refine wpAny_Call_Name_kw (nF I r n L2.B9f ?_);refine PyProof.Rows.callWith_builtin1 ?_ d b;rw[d];show wpAny _ _ (spliced ((false,eval (.Call (.Name "set" p2) [e] [] a) X.env)::backTo pos (starEach [] X.env))) _ _ s;refine Calls.spliced_cons ?_;refine wpAny_Call_Name_kw (nF I g i Fo ?_);refine PyProof.Rows.callWith_type1 (thn (v a c s Z H _ I h) ?_) q f;rintro w x ⟨B,y,I1,o,m⟩;refine thn (Ix j I1 o m) λu z l=>?_;exact Calls.spliced_nil l
end
end SN
namespace L2
open PySem PySem.Spec PyProof.Rows
structure RS(X:Cx)(sts:List Stmt)(t:TS):Prop where
 r:PSs X sts t
structure R1(X:Cx)(st:Stmt)(t:TS):Prop where
 r:PS X st t
section
variable{X:Cx}{st:Stmt}{rest a b body:List Stmt}{t u tb:TS}{e c:yC}{te:TE}{tc:TT}{pos pos':Pos}
theorem dV(h1:R1 X st t)(h2:RS X rest u):RS X (st::rest) (wQ t u):=⟨lK h1.r h2.r⟩
theorem pB(h1:R1 X st t)(h2:RS X rest u):RS X (st::rest) (wG t u):=⟨D8 h1.r h2.r⟩
theorem ev(h1:R1 X st t):RS X [st] t:=⟨kf h1.r⟩
theorem gU(e:PT X c tc)(d:RS X a t)(f:RS X b u):R1 X (.If c a b pos) (wF tc t u):=⟨pJ e d.r f.r⟩
theorem gF(a:PE X e te):R1 X (.Return (some e) pos) (wN te):=⟨nU a⟩
theorem gy(i:Nat){x:Str}(a:X.N.Nodup)(d:PE X e te)(hi:X.N[i]?=some x:=by exact rfl)(b:Loc X.env.scope x:=by exact .inl rfl)(hs:swapsWith e (some (.Name x pos')) pos.line X.env=pure false:=by exact rfl)(c:X.fn x=true\/X.env.scope.names.lookup x=some .local:=by exact .inl rfl):R1 X (.Assign [.Name x pos'] e pos) (qM te (nC i)):=⟨oN a hi b d hs c⟩
theorem jO{tg iter:yC}{wi:TI}{g:TG}(hi:PI X tg iter wi)(b:PG X tg g)(d:RS X body tb)(a:PassesOwn (model X.prog X.w) X.A X.env X.xe:=by exact PassesOwn.never)(c:X.calm=true:=by exact rfl)(hs:∀x,foldedSetIterable iter X.env x=pure x:=by intro _;rfl):R1 X (.For tg iter body [] pos) (ut wi g tb):=⟨qT a c hi b d.r hs⟩
end
end L2
namespace My
open PySem L2
variable{ix:zL}{e:Lw}{c od:zI}{n i j:Nat}{cs:List zI}{rows lns:List LnM}{kvs lk ak:zJ}{x:Str}{v:V}{H H':Hp}{rs:List (Str×List Int)}{X:Cx}{f p d l:zW}{fd:zS}{ps ys sums BD axs:zC}{es:zB}{pos:Pos}{o:HO}{P:yB}{w:yD}{xs xr:zM}{A:Adr}{T:String}{m:Mrk}{b a:Tm}{S:zV}{M Ms:zQ}{s:Stp}{r:Spt}{sh:List Bool}{zs:List Spt}{g:Str×Int×Int}{fx lf:Int}{rws:List Rw}{wr:Stp->Spt}{L:List Stp}{lws:List Lw}
inductive Op3|plus|minus|times
inductive Tm|num (z:Int)|place (x:Str)|read (a:Str) (ix:zL)|sum (x:Str) (b:Tm)|pair (k:Op3) (l r:Tm)|guard (x:Str) (lo hi:Int) (l r:Tm)
def lE(e:Str×Int):PyData:=.tuple [.str e.1,.int e.2]
def oJ(ix:zL):PyData:=.list (ix.map lE)
def dep:Tm->Nat|.sum _ b=>dep b+1|.pair _ l r=>max (dep l) (dep r)+1|.guard _ _ _ l r=>max (dep l) (dep r)+1|_=>1
theorem D6:∀t:Tm,1<=dep t|.num z=>by simp[dep]|.place x=>by simp[dep]|.read a ix=>by simp[dep]|.sum x b=>by simp[dep]|.pair k l r=>by simp[dep]|.guard x lo hi l r=>by simp[dep]
def Axs(A:zC):Tm->Prop|.num _=>True|.place x=>x∈A|.read _ ix=>∀e∈ix,e.1=""\/e.1∈A|.sum x b=>x∈A/\Axs A b|.pair _ l r=>Axs A l/\Axs A r|.guard x _ _ l r=>x∈A/\Axs A l/\Axs A r
theorem Fr:PyData.depth (oJ ix)<=2:=by
 have h:∀l:zL,PyData.depthAll (l.map lE)<=1:=by
  intro l
  induction l with
  |nil=>simp[PyData.depthAll]
  |cons e r ih=>simp[lE,PyData.depthAll,PyData.depth]at *;lia
 have:=h ix;simp only [oJ,PyData.depth]
 lia
theorem Dd:cnt (oJ ix)<=1+3*ix.length:=by
 have h:∀l:zL,lq (l.map lE)<=3*l.length:=by
  intro l
  induction l with
  |nil=>simp[lq]
  |cons e r ih=>simp only [lE,lq,cnt,ik,je]at *;lia
 have:=h ix;simp only [oJ,cnt]
 lia
section
variable{G:Hp}{v:V}
theorem CQ{e:Str×Int}(h:Rep G v (lE e)):∃p,v=.ref p/\G p=some (.tup [.str e.1,.int e.2]):=by obtain⟨p,i,rfl,q,r⟩:=En (show Rep G v (.tuple [.str e.1,.int e.2]) from h);obtain⟨a,f,rfl,c,r⟩:=AN r;obtain⟨b,g,rfl,d,r⟩:=AN r;cases Fl r;cases Et c;cases yI d;exact bd p rfl q
end
noncomputable def la(cs:List zI)(n:Int):List zI:=cs.flatMap λc=>(List.range n.toNat).map λ(k:Nat)=>c++[(k:Int)]
def ia(ls:zI):List zI:=ls.foldl la [[]]
def iZ(ls:zI):Int:=ls.foldl (·* ·) 1
theorem rD(ls:zI)(n:Int):ia (ls++[n])=la (ia ls) n:=by unfold ia;rw[List.foldl_append];rfl
theorem Bk(ls:zI)(n:Int):iZ (ls++[n])=iZ ls*n:=by unfold iZ;rw[List.foldl_append];rfl
theorem Bx(cs:List zI)(n:Int):(la cs n).length=cs.length*n.toNat:=by
 induction cs with
 |nil=>simp[la]
 |cons c r ih=>
  have:la (c::r) n=((List.range n.toNat).map λ(k:Nat)=>c++[(k:Int)])++la r n:=by simp[la]
  rw[this,ic,ih,dm,List.length_range,je,Nat.succ_mul];lia
def Within(c ls:zI):Prop:=c.length=ls.length/\∀(k:Nat)(x n:Int),c[k]?=some x->ls[k]?=some n->0<=x/\x<n
theorem Within.snoc{ls:zI}{n:Int}{k:Nat}(h:Within c ls)(f:(k:Int)<n):Within (c++[(k:Int)]) (ls++[n]):=by
 obtain⟨d,e⟩:=h;refine⟨by simp[d],λi x m a b=>?_⟩;by_cases hi:i<c.length
 ·rw[nj hi]at a;rw[nj (by lia)]at b;exact e i x m a b
 ·have:i=c.length:=by
   have:=(gG.mp a).1;simp at this;lia
  subst this;rw[nP (fa _)]at a;rw[d,nP (fa _)]at b;simp at a b
  lia
theorem FG{n:Int}(h:c∈la cs n):∃b∈cs,∃k:Nat,k<n.toNat/\c=b++[(k:Int)]:=by unfold la at h;obtain⟨b,f,a⟩:=List.mem_flatMap.mp h;obtain⟨k,d,e⟩:=gS.mp a;exact gZ b f k (List.mem_range.mp d) e.symm
theorem rF:∀(ls:zI),∀c∈ia ls,Within c ls:=by
 intro ls
 have f:∀(m:Nat)(ls:zI),ls.length=m->∀c∈ia ls,Within c ls:=by
  intro m
  induction m with
  |zero=>
   intro ls a c d;have:ls=[]:=qb.mp a;subst this;have:c=[]:=by simpa[ia]using d
   subst this;exact⟨rfl,λk x n g _=>by simp at g⟩
  |succ m ih=>intro ls a c d;obtain⟨init,n,rfl⟩:∃init n,ls=init++[n]:=⟨ls.dropLast,ls.getLast (by intro e;simp[e]at a),(List.dropLast_concat_getLast _).symm⟩;rw[rD]at d;obtain⟨b,h,k,i,rfl⟩:=FG d;exact(ih init (by simp at a;lia) b h).snoc (by lia)
 exact f _ ls rfl
theorem pY(ls:zI)(h:∀n∈ls,1<=n):((ia ls).length:Int)=iZ ls/\1<=iZ ls:=by
 have b:∀(m:Nat)(ls:zI),ls.length=m->(∀n∈ls,1<=n)->((ia ls).length:Int)=iZ ls/\1<=iZ ls:=by
  intro m
  induction m with
  |zero=>intro ls a _;have:ls=[]:=qb.mp a;subst this;simp[ia,iZ]
  |succ m ih=>
   intro ls a c;obtain⟨init,n,rfl⟩:∃init n,ls=init++[n]:=⟨ls.dropLast,ls.getLast (by intro e;simp[e]at a),(List.dropLast_concat_getLast _).symm⟩;obtain⟨d,i⟩:=ih init (by simp at a;lia) λn g=>c n (by simp[g]);have f:1<=n:=c n (by simp);rw[rD,Bk,Bx];have e:((n.toNat:Nat):Int)=n:=by lia
   refine⟨by rw[Int.natCast_mul,d,e],?_⟩;have:=Int.mul_le_mul i f (by lia) (by lia)
   simpa using this
 exact b _ ls rfl h
structure uI(ls:zI):Prop where
 pos:∀n∈ls,1<=n/\n<=60
 few:ls.length<=8
 most:iZ ls<=4000
theorem Jo(ls:zI)(h:∀n∈ls,1<=n)(i:Nat):1<=iZ (ls.take i)/\iZ (ls.take i)<=iZ ls:=by
 have a:=(pY (ls.take i) λn c=>h n (rN c)).2;refine⟨a,?_⟩;have b:=(pY (ls.drop i) λn c=>h n (List.mem_of_mem_drop c)).2
 have d:∀(ys:zI)(x:Int),ys.foldl (·* ·) x=x*iZ ys:=by
  intro ys
  induction ys with
  |nil=>intro x;simp[iZ]
  |cons y r ih=>intro x;simp only [iZ,List.foldl_cons]at ih⊢;rw[ih,ih (1*y),Int.one_mul,Int.mul_assoc]
 have e:iZ ls=iZ (ls.take i)*iZ (ls.drop i):=by have:=d (ls.drop i) (iZ (ls.take i));rw[<-this];unfold iZ;rw[<-List.foldl_append,qd]
 rw[e];have:=Int.mul_le_mul_of_nonneg_left b (show(0:Int)<=iZ (ls.take i)by lia)
 simpa using this
theorem Kv{ls:zI}{n:Int}(h:ls[i]?=some n):ia (ls.take (i+1))=la (ia (ls.take i)) n:=by rw[iN,h];exact rD _ _
structure Rw where
 own:zC
 sums:zC
 so:zI
 ss:zI
abbrev Stp:=Int×Str×List Int×List Int
def jt(k:Int)(ss:zI)(c:zI):List Stp:=if ss=[]then [(k,"set",c,[])]else (k,"start",c,[])::(ia ss).map λu=>(k,"add",c,u)
def oq(k:Int)(e:Rw):List Stp:=(ia e.so).flatMap (jt k e.ss)
def lI(rows:List Rw)(k:Nat):List Stp:=match rows[k]? with|some e=>oq k e|none=>[]
def fm(rows:List Rw)(i:Nat):List Stp:=(List.range i).flatMap (lI rows)
theorem Bz{rows:List Rw}{e:Rw}(h:rows[i]?=some e):fm rows (i+1)=fm rows i++oq i e:=by unfold fm;rw[List.range_succ,List.flatMap_append,List.flatMap_singleton];unfold lI;rw[h]
theorem tE{α β:Type}{f:α->List β}{B:Nat}:∀{l:List α},(∀x∈l,(f x).length<=B)->(l.flatMap f).length<=l.length*B
 | [],_=>by simp
 |x::r,h=>by
  have b:=h x (.head _);have c:=tE (l:=r) λy a=>h y (.tail _ a);rw[List.flatMap_cons,ic,je,Nat.add_mul]
  lia
structure D0u(e:Rw):Prop where
 go:uI e.so
 gs:uI e.ss
 po:iZ e.so<=60
 ps:iZ e.ss<=60
 lo:e.own.length=e.so.length
 ls:e.sums.length=e.ss.length
theorem D0u.cells{e:Rw}(h:D0u e):(ia e.so).length<=60/\(ia e.ss).length<=60:=by
 have c:=(pY e.so λn a=>(h.go.pos n a).1).1;have b:=(pY e.ss λn a=>(h.gs.pos n a).1).1;have:=h.po;have:=h.ps
 lia
theorem yx{k:Int}{e:Rw}(h:D0u e)(c:zI):(jt k e.ss c).length<=61:=by
 have:=h.cells.2;unfold jt;split
 ·simp
 ·simp;lia
theorem GK{k:Int}{e:Rw}(h:D0u e):(oq k e).length<=3660:=by
 have b:=tE (l:=ia e.so) (f:=jt k e.ss) (B:=61) λc _=>yx h c;have a:=h.cells.1;have:(ia e.so).length*61<=60*61:=Nat.mul_le_mul_right _ a;unfold oq
 lia
theorem GE{k:Int}{e:Rw}(h:D0u e)(j:Nat):(((ia e.so).take j).flatMap (jt k e.ss)).length<=3660:=by
 have b:=tE (l:=(ia e.so).take j) (f:=jt k e.ss) (B:=61) λc _=>yx h c;have d:=h.cells.1;have a:((ia e.so).take j).length<=60:=by rw[jf];lia
 have:((ia e.so).take j).length*61<=60*61:=Nat.mul_le_mul_right _ a
 lia
def jr(f:zR)(ix:zL):zI:=ix.map λ(e:Str×Int)=>if e.1=("":Str)then e.2 else f e.1+e.2
def setA(f:zR)(x:Str)(k:Int):zR:=λy=>if y=x then k else f y
def rd(c:zR):Tm->zR->List (Str×List Int)|.num _,_=>[]|.place _,_=>[]|.read a ix,f=>[(a,jr f ix)]|.sum x b,f=>(List.range (c x).toNat).flatMap λ(k:Nat)=>rd c b (setA f x (k:Int))|.pair _ l r,f=>rd c l f++rd c r f|.guard x lo hi l r,f=>if lo<=f x/\f x<hi then rd c l f else rd c r f
def Fv:Tm->Str->Prop|.num _,_=>False|.place x,y=>y=x|.read _ ix,y=>y≠""/\∃e∈ix,e.1=y|.sum x b,y=>y≠x/\Fv b y|.pair _ l r,y=>Fv l y\/Fv r y|.guard x _ _ l r,y=>y=x\/Fv l y\/Fv r y
def ai(kvs:zJ)(x:Str):Int:=match fC kvs (Sum.inr x)with|some (.int i)=>i|_=>0
theorem sO{i:Int}(h:fC kvs (Sum.inr x)=some (.int i)):ai kvs x=i:=by unfold ai;rw[h]
theorem As{k:Key}(h:fC kvs k=some v):∃p∈kvs,p.1=k/\p.2=v:=by unfold fC at h;obtain⟨p,a,rfl⟩:=mu.mp h;exact eh p (List.mem_of_find?_eq_some a) (by simpa using List.find?_some a) rfl
def wR(kvs:zJ)(t:Tm):Prop:=∀x,Fv t x->fC kvs (Sum.inr x)=some (.int (ai kvs x))
def xu(A:zC)(lk:zJ):Prop:=∀x∈A,fC lk (Sum.inr x)=some (.int (ai lk x))/\1<=ai lk x/\ai lk x<=60
def D2b(H:Hp)(v:V)(e:Str×List Int):Prop:=∃p q,v=.ref p/\H p=some (.tup [.str e.1,.ref q])/\H q=some (.tup (e.2.map V.int))
def Rds(H:Hp):zM->List (Str×List Int)->Prop:=Paired (D2b H)
theorem Rds.keep{vs:zM}(h:Rds H vs rs)(f:∀p xs,H p=some (.tup xs)->H' p=some (.tup xs)):Rds H' vs rs :=Paired.mapP h (by rintro _ _ ⟨p,q,e,a,b⟩;exact eu p q e (f _ _ a) (f _ _ b))
theorem Rds.same{vs:zM}(h:Rds H vs rs)(s:A0m H H'):Rds H' vs rs:=h.keep λ_ _ e=>s _ _ e
theorem Paired.app{α β:Type}{F:α->β->Prop}:∀{a c:List α}{b d:List β},Paired F a b->Paired F c d->Paired F (a++c) (b++d)|_,_,_,_,.nil,h=>h|_,_,_,_,.cons r t,h=>.cons r (Paired.app t h)
theorem ro{H:Hp}:∀a:zI,A4c H (a.map V.int) (a.map PyData.int)| []=>.nil|n::r=>.cons (.int n) (ro r)
theorem qC:∀a:zI,PyData.canLayAll0 (a.map PyData.int)=true/\PyData.depthAll (a.map PyData.int)=0/\PyData.eqvAll (a.map PyData.int) (a.map PyData.int)=true| []=>(fI rfl rfl rfl)|n::r=>by obtain⟨d,c,b⟩:=qC r;simp[PyData.canLayAll0,PyData.canLay0,PyData.depthAll,PyData.depth,PyData.eqvAll,PyData.eqv,d,c,b]
abbrev Spt:=Str×List Int
section
variable(wr:Stp->Spt)
def jg(A:List Stp)(r:Spt):zI:=(A.zipIdx.filter λ(p:Stp×Nat)=>decide (wr p.1=r)).map λ(p:Stp×Nat)=>((p.2:Nat):Int)
def oD(A:List Stp)(r:Spt):zI:=(A.zipIdx.filter λ(p:Stp×Nat)=>decide (wr p.1=r)&&decide (p.1.2.1=("start":Str))).map λ(p:Stp×Nat)=>((p.2:Nat):Int)
variable{wr}
theorem tT(A:List Stp)(s:Stp)(r:Spt):jg wr (A++[s]) r=jg wr A r++if wr s=r then [(A.length:Int)]else []:=by
 unfold jg;rw[List.zipIdx_append,List.filter_append,gN];congr 1;by_cases h:wr s=r
 ·rw[dn h];simp[List.zipIdx,h]
 ·rw[dh h];simp[List.zipIdx,h]
theorem AE(A:List Stp)(s:Stp)(r:Spt):oD wr (A++[s]) r=oD wr A r++if wr s=r/\s.2.1="start" then [(A.length:Int)]else []:=by
 unfold oD;rw[List.zipIdx_append,List.filter_append,gN];congr 1;by_cases h:wr s=r
 ·by_cases h2:s.2.1="start"
  ·rw[dn ⟨h,h2⟩];simp[List.zipIdx,h,h2]
  ·rw[dh λz=>h2 z.2];simp[List.zipIdx,h,h2]
 ·rw[dh λz=>h z.1];simp[List.zipIdx,h]
theorem Ap:∀(B A:List Stp)(r:Spt),(∀x∈B,wr x≠r)->jg wr (A++B) r=jg wr A r| [],A,r,_=>by rw[lU]|b::B,A,r,h=>by rw[show A++b::B=(A++[b])++B by simp,Ap B _ r λx a=>h x (jZ _ a),tT,dh (h b kX),lU]
theorem vG:∀(B A:List Stp)(r:Spt),(∀x∈B,wr x=r->x.2.1≠"start")->oD wr (A++B) r=oD wr A r| [],A,r,_=>by rw[lU]|b::B,A,r,h=>by rw[show A++b::B=(A++[b])++B by simp,vG B _ r λx a=>h x (jZ _ a),AE,dh λz=>h b kX z.1 z.2,lU]
theorem A6:∀(B A:List Stp)(r:Spt),∃t,jg wr (A++B) r=jg wr A r++t| [],A,r=>⟨[],by simp⟩|b::B,A,r=>by obtain⟨t,e⟩:=A6 B (A++[b]) r;refine⟨(if wr b=r then [(A.length:Int)]else [])++t,?_⟩;rw[show A++b::B=(A++[b])++B by simp,e,tT,oB]
theorem vL(A:List Stp)(r:Spt)(i:Int):i∈jg wr A r↔∃(n:Nat)(s:Stp),i=n/\A[n]?=some s/\wr s=r:=by
 unfold jg;constructor
 ·intro h;obtain⟨p,c,rfl⟩:=gS.mp h;obtain⟨a,b⟩:=List.mem_filter.mp c;have:=List.mem_zipIdx_iff_getElem?.mp a;exact eu p.2 p.1 rfl this (of_decide_eq_true b)
 ·rintro⟨n,s,rfl,a,b⟩;exact gS.mpr (bd (s,n) (List.mem_filter.mpr ⟨List.mem_zipIdx_iff_getElem?.mpr a,jl b⟩) rfl)
theorem vz{α:Type}{P:List α->Prop}(h0:P [])(hs:∀A s,P A->P (A++[s]))(A:List α):P A:=by
 have:∀n (A:List α),A.length=n->P A:=λn=>by
  induction n with
  |zero=>intro A h;rw[List.eq_nil_of_length_eq_zero h];exact h0
  |succ n ih=>
   intro A h;have a:A≠[]:=λz=>by rw[z]at h;cases h
   rw[<-List.dropLast_concat_getLast a];exact hs _ _ (ih _ (by rw[List.length_dropLast,h];rfl))
 exact this _ A rfl
variable(wr)(rd:Stp->List Spt)
variable{wr rd}
theorem rG{α β:Type}{f:α->β}(h:∀a b,f a=f b->a=b){l:List α}(n:l.Nodup):(l.map f).Nodup:=by rw[List.Nodup,List.pairwise_map];exact n.imp λc e=>c (h _ _ e)
def qw(wr:Stp->Spt)(L:List Stp):Prop:=∀A s B,L=A++s::B->s.2.1=("add":Str)->∃h,oD wr A (wr s)=[h]/\(jg wr A (wr s)).head? =some h
theorem vV{α β:Type}{f:α->List β}:∀{l:List α}{A B:List β}{s:β},l.flatMap f=A++s::B->∃l1 x l2 A' d,l=l1++x::l2/\f x=A'++s::d/\A=l1.flatMap f++A'
 | [],A,B,s,h=>by simp at h
 |x::l,A,B,s,h=>by
  rw[List.flatMap_cons]at h
  have e:∀b,A=f x++b->l.flatMap f=b++s::B->∃l1 y l2 A' d,x::l=l1++y::l2/\f y=A'++s::d/\A=l1.flatMap f++A':=λb j a=>by refine ku (vV a) ?_;rintro l1 y l2 ⟨A',d,g,m,n⟩;exact iA (x::l1) y (jQ l2 A' d (by rw[g];rfl) m (by rw[j,n,List.flatMap_cons,oB]))
  rcases List.append_eq_append_iff.mp h with ⟨b,j,a⟩|⟨i,k,a⟩
  ·exact e b j a
  ·cases i with|nil=>exact e [] (by rw[k];simp) (by simpa using a.symm)|cons c i=>injection a with g m;exact iA [] x (jQ l A i rfl (by rw[k,g]) rfl)
theorem wj(ls:zI):(ia ls).Nodup:=by
 refine vz (P:=λls=>(ia ls).Nodup) (by show([[]]:List zI).Nodup;simp) (λls n f=>?_) ls;rw[rD];unfold la;rw[List.Nodup,List.pairwise_flatMap];refine⟨λc _=>?_,f.imp λ{c k} d p h q g e=>?_⟩
 ·exact rG (λa b e=>by have:=(List.append_inj' e rfl).2;injection this with this _;exact Int.ofNat.inj this) List.nodup_range
 ·obtain⟨i,_,rfl⟩:=gS.mp h;obtain⟨j,_,rfl⟩:=gS.mp g;exact d (List.append_inj' e rfl).1
theorem ot{k:Int}{ss:zI}{x:Stp}(h:x∈jt k ss c):x.1=k/\x.2.2.1=c:=by
 unfold jt at h;split at h
 ·rw[gX.mp h];exact⟨rfl,rfl⟩
 ·rcases gP.mp h with q|q
  ·rw[q];exact⟨rfl,rfl⟩
  ·obtain⟨u,_,rfl⟩:=gS.mp q;exact⟨rfl,rfl⟩
theorem pV{rows:List Rw}{k:Nat}{x:Stp}(h:x∈lI rows k):x.1=k:=by
 unfold lI at h;split at h
 ·unfold oq at h;obtain⟨c,_,a⟩:=List.mem_flatMap.mp h;exact(ot a).1
 ·cases h
theorem IB{rows:List Rw}(D:∀x∈fm rows n,∀y∈fm rows n,wr x=wr y->x.1=y.1/\x.2.2.1=y.2.2.1)(ext:∀x y:Stp,x.1=y.1->x.2.2.1=y.2.2.1->wr x=wr y):qw wr (fm rows n):=by
 intro A s B e p;have Q:s∈fm rows n:=by rw[e];simp
 have P:∀x∈A,x∈fm rows n:=λx d=>by rw[e];simp[d]
 refine ku (vV (show(List.range n).flatMap (lI rows)=A++s::B from e)) ?_;rintro v k Y ⟨A',T,L,l,R⟩
 have O:∀m∈v,m≠k:=λm i z=>by have o:(List.range n).Nodup:=List.nodup_range;rw[L,rV]at o;exact o.2.2 m i k (by simp) z
 have J:s.1=k:=pV (rows:=rows) (by rw[l];simp);unfold lI at l;split at l
 ·rename_i er her;refine ku (vV (show(ia er.so).flatMap (jt k er.ss)=A'++s::T from l)) ?_;rintro r c X ⟨A2,Z,U,b,N⟩
  have W:∀j∈r,j≠c:=λj h z=>by have o:=wj er.so;rw[U,rV]at o;exact o.2.2 j h c (by simp) z
  have G:s.2.2.1=c:=(ot (k:=k) (ss:=er.ss) (by rw[b];simp)).2;have K:=b;unfold jt at b;split at b
  ·cases A2 with|nil=>injection b with b _;rw[<-b]at p;exact absurd (show("set":Str)=("add":Str) from p) (by decide)|cons a A2=>injection b with _ b;simp at b
  ·cases A2 with
   |nil=>injection b with b _;rw[<-b]at p;exact absurd (show("start":Str)=("add":Str) from p) (by decide)
   |cons a A2=>
    injection b with g1 g2;have I:wr a=wr s:=ext a s (by rw[<-g1,J]) (by rw[<-g1,G]);have w:A=(v.flatMap (lI rows)++r.flatMap (jt k er.ss))++a::A2:=by rw[R,N];simp
    have f:∀x∈v.flatMap (lI rows)++r.flatMap (jt k er.ss),wr x≠wr s:=λx d z=>by
     have C:x∈A:=by rw[w];exact mT _ d
     obtain⟨M,H⟩:=D x (P x C) s Q z;rcases jn.mp d with q|q
     ·obtain⟨m,i,g⟩:=List.mem_flatMap.mp q;have:=pV g;rw[this,J]at M;exact O m i (by lia)
     ·obtain⟨j,h,g⟩:=List.mem_flatMap.mp q;rw[(ot g).2,G]at H;exact W j h H
    have F:∀x∈A2,wr x=wr s->x.2.1≠("start":Str):=λx d _ z=>by
     have:x∈(ia er.ss).map λu=>((k:Int),("add":Str),c,u):=by rw[g2];exact mT _ d
     obtain⟨u,_,rfl⟩:=gS.mp this;exact absurd (show("add":Str)=("start":Str) from z) (by decide)
    generalize v.flatMap (lI rows)++r.flatMap (jt k er.ss)=A1 at w f;refine bd (A1.length:Int) ?_ ?_
    ·rw[w,show A1++a::A2=(A1++[a])++A2 by simp,vG _ _ _ F,AE,dn ⟨I,by rw[<-g1]⟩]
     have:oD wr A1 (wr s)=[]:=by have:=vG (wr:=wr) A1 [] (wr s) λx d z=>absurd z (f x d);exact this
     rw[this];rfl
    ·rw[w,show A1++a::A2=(A1++[a])++A2 by simp];obtain⟨t,S⟩:=A6 (wr:=wr) A2 (A1++[a]) (wr s)
     have:jg wr A1 (wr s)=[]:=by have:=Ap (wr:=wr) A1 [] (wr s) f;exact this
     rw[S,tT,dn I,this];rfl
 ·simp at l
end
def top(i:Nat):Stmt:=PySem.Challenge.pw_arrayloom_k58_orders_judged.main.body.getD i (.Pass ⟨0,0,0,0⟩)
abbrev BJ:Stmt:=me (top 4) 0
abbrev By:Stmt:=me (top 16) 0
abbrev BM:Stmt:=me (top 17) 0
abbrev BS:Stmt:=me (top 20) 0
abbrev BW:Stmt:=me (top 20) 2
abbrev Bs:Stmt:=me (top 21) 0
abbrev BY:Stmt:=me (top 21) 1
abbrev BK:Stmt:=me (top 21) 3
abbrev Br:Stmt:=me (top 23) 0
abbrev BL:Stmt:=me (top 23) 2
abbrev BH:Stmt:=me (top 27) 0
abbrev B4:Stmt:=me (top 27) 1
abbrev B7:Stmt:=me (top 27) 3
abbrev BO:Stmt:=me (top 27) 5
structure TyC(K:Frag)(C:zW):Prop where
 ha:findIn K (.ref C) "__class__"=some (some (.builtin "object.__class__"))
 hn:specialIn K (.builtin "object.__class__") "__get__"=some (some (.builtin "getset_descriptor.__get__"))
 htk:takesIn K (.builtin "object.__class__")=some true
 hm:mroIn K C (.type "object")=some true
abbrev wU:zC:=["self","first","second","array","cell"]
abbrev mV:zC:=["value"]
abbrev oV:zC:=["cloth","step"]
abbrev wV:zC:=["self","name","axes","sums","term"]
abbrev wC:zC:=["self","wheel","lengths","arrays","tables","lines","outs"]
abbrev mW:zC:=["self","at","lengths"]
abbrev ql:zC:=["self","at"]
abbrev wO:zC:=["axis","shift","at"]
abbrev wE:zC:=["self","axis","low","high","inner","outer"]
abbrev uF:zC:=["_law_e","_law_steps","_law_due","_law_spots","_law_rows"]
set_option genInjectivity false in
set_option genSizeOf false in
structure Adr where
 aS:zW
 di:zW
 a6:zW
 ac:zW
 a9:zW
 fT:zW
 a8:zW
 af:zW
 eZ:zW
 bH:zW
 aT:zW
 aV:zW
 aa:zW
 cD:zW
 dU:zS
 aZ:zW
 b9:zS
 aG:zW
 aF:zS
 fg:zW
 fe:zS
 dR:zW
 dW:zS
 dM:zW
 dY:zS
 cW:zW
 cP:zS
 fb:zW
 f8:zS
 cJ:zW
 eX:zS
 cr:zW
 dG:zS
 bZ:zW
 dB:zS
 aO:zW
 bL:zS
 cN:zW
 eV:zS
 aN:zW
 bO:zS
 bc:zW
 cy:zS
 f6:zW
 e_:zS
 aR:zW
 eQ:zS
 au:zW
 cj:zS
 cw:zW
 dI:zS
 aK:zW
 bA:zS
 aB:zW
 aU:zS
 aW:zW
 c0:zS
 eK:zW
 eL:zS
 dE:zW
 dF:zS
 fM:zW
 fD:zS
 eP:zW
 eN:zS
 dS:zW
 d_:zS
 e9:zW
 dZ:zS
 eM:zW
 eF:zS
 eG:zW
 eT:zS
 fc:zW
 fh:zS
 dO:zW
 eE:zS
 dQ:zW
 dN:zS
 eC:zW
 dX:zS
 fJ:zW
 fL:zS
 ef:zW
 dJ:zS
 eO:zW
 eJ:zS
 cM:zW
 cK:zS
 cx:zW
 cv:zS
 bD:zW
 bM:zS
 fj:zW
 fi:zS
 gh:zW
 fR:zS
variable{α:Type}{y nm:Str}{u:HO}{sts:List Stmt}{st:Stmt}{sp' sp:Sp}{p2:Pos}{os:List Stp}{od' Kp:zI}{lo hi:Int}{k2:Nat}{es':zB}{d cl WD SL DD C:zW}{cur:Spt->List Int}{Zz:St}{Y H2 G:Hp}{S':zV}{Q:VK}{P:yB}{w:yD}{M':zQ}{Ks:Nat->List Int}{K:Frag}{mg:zE}{base:yA}{t:Adr}{E' E:XK}{D:kR}{CX:CXT}
abbrev KF(f:zW):Option zN:=some (some (.ref f))
abbrev KH:Option zN:=some (some (.builtin "object.__class__"))
abbrev KG:Option zN:=some none
abbrev wz(K:Frag)(a b:zW)(c:Bool):Prop:=kitOne K (.ref a) (.ref b)=some c
structure FQ(K:Frag)(mg:zE)(x:Str)(st:Stmt)(f:zW)(fd:zS)(ps:zC):Prop where
 F:Fun K x x st f fd
 m:mg x=some (.ref f)
 b:A7h K fd ps []
structure FM(K:Frag)(C:zW)(x q:Str)(st:Stmt)(f:zW)(fd:zS)(ps:zC):Prop where
 F:Fun K x q st f fd
 b:A7h K fd ps []
structure Txt(K:Frag)(mg:zE)(t:Adr):Prop where
 eS:mg "LoomError"=some (.ref t.aS)
 fk:mg "NoMove"=some (.ref t.di)
 f9:mg "Clash"=some (.ref t.a6)
 fU:mg "Line"=some (.ref t.ac)
 fE:mg "Cloth"=some (.ref t.a9)
 gr:mg "Term"=some (.ref t.fT)
 eU:mg "Number"=some (.ref t.a8)
 fW:mg "Read"=some (.ref t.af)
 gq:mg "Pair"=some (.ref t.eZ)
 fV:mg "Plus"=some (.ref t.bH)
 fH:mg "Minus"=some (.ref t.aT)
 fK:mg "Times"=some (.ref t.aV)
 fF:mg "Guard"=some (.ref t.aa)
 bn:FM K t.a6 "__init__" "Clash.__init__" BJ t.cD t.dU wU
 a7:FQ K mg "copied" (top 6) t.aZ t.b9 mV
 am:FQ K mg "copied_dict" (top 7) t.aG t.aF mV
 cI:FQ K mg "read_by" (top 9) t.fg t.fe oV
 av:FQ K mg "written_by" (top 10) t.dR t.dW oV
 be:FQ K mg "marks_left" (top 11) t.dM t.dY oV
 aJ:FQ K mg "marks_awaited" (top 12) t.cW t.cP oV
 cY:FQ K mg "judge" (top 14) t.fb t.f8 ["cloth","steps"]
 bR:FM K t.ac "__init__" "Line.__init__" By t.cJ t.eX wV
 bq:FM K t.a9 "__init__" "Cloth.__init__" BM t.cr t.dG wC
 aE:FM K t.a8 "__init__" "Number.__init__" BS t.bZ t.dB ["self","number"]
 bN:FM K t.a8 "reads" "Number.reads" BW t.aO t.bL mW
 bG:FM K t.af "__init__" "Read.__init__" Bs t.cN t.eV ["self","array","indexes"]
 aP:FM K t.af "cell_at" "Read.cell_at" BY t.aN t.bO ql
 cE:FM K t.af "reads" "Read.reads" BK t.bc t.cy mW
 c9:FQ K mg "index_at" (top 22) t.f6 t.e_ wO
 aH:FM K t.eZ "__init__" "Pair.__init__" Br t.aR t.eQ ["self","left","right"]
 cF:FM K t.eZ "reads" "Pair.reads" BL t.au t.cj mW
 bo:FM K t.aa "__init__" "Guard.__init__" BH t.cw t.dI wE
 aI:FM K t.aa "lets_in" "Guard.lets_in" B4 t.aK t.bA ql
 ay:FM K t.aa "looked_at" "Guard.looked_at" B7 t.aB t.aU ql
 b_:FM K t.aa "reads" "Guard.reads" BO t.aW t.c0 mW
 ag:FQ K mg "_law_cell_at" (top 29) t.eK t.eL ["_law_script","_law_k"]
 ao:FQ K mg "_law_whole" (top 30) t.dE t.dF ["_law_found"]
 cZ:FQ K mg "_law_mix" (top 31) t.fM t.fD ["_law_cell","_law_k"]
 bK:FQ K mg "_law_numbers" (top 32) t.eP t.eN ["_law_cell","_law_many"]
 bf:FQ K mg "_law_index_by" (top 33) t.dS t.d_ ["_law_two","_law_bound","_law_length"]
 bu:FQ K mg "_law_piece_by" (top 34) t.e9 t.dZ ["_law_xs","_law_arrays","_law_lengths","_law_line"]
 bF:FQ K mg "_law_term_of" (top 35) t.eM t.eF ["_law_pieces","_law_cell"]
 bB:FQ K mg "_law_line_by" (top 36) t.eG t.eT ["_law_cell","_law_name","_law_axes","_law_lengths","_law_arrays"]
 bS:FQ K mg "_law_cells" (top 37) t.fc t.fh ["_law_axes","_law_lengths"]
 bj:FQ K mg "_law_steps_by" (top 38) t.dO t.eE ["_law_k","_law_line","_law_lengths"]
 bt:FQ K mg "_law_spots_of" (top 39) t.dQ t.dN ["_law_step","_law_line"]
 br:FQ K mg "_law_needs_by" (top 40) t.eC t.dX ["_law_rows","_law_steps"]
 dL:FQ K mg "_law_met" (top 41) t.fJ t.fL ["_law_some","_law_done"]
 bv:FQ K mg "_law_order_by" (top 42) t.ef t.dJ ["_law_script","_law_due"]
 bP:FQ K mg "_law_changed" (top 43) t.eO t.eJ ["_law_order","_law_way","_law_cell"]
 aQ:FQ K mg "_law_is_step" (top 44) t.cM t.cK ["_law_found","_law_due"]
 aj:FQ K mg "_law_place_of" (top 45) t.cx t.cv ["_law_steps","_law_step"]
 aC:FQ K mg "_law_clash_told" (top 46) t.bD t.bM uF
 a_:FQ K mg "_law_asked" (top 47) t.fj t.fi ["_law_cloth","_law_order","_law_steps","_law_due","_law_rows"]
 fu:FQ K mg "law" (top 48) t.gh t.fR ["_law_script"]
 ft:MkX K t.a6 t.cD
 dl:qv K t.a6 "first"
 cR:qv K t.a6 "second"
 d9:qv K t.a6 "array"
 dC:qv K t.a6 "cell"
 d6:qK K t.a6 "first"
 cS:qK K t.a6 "second"
 bI:qK K t.a6 "array"
 aX:qK K t.a6 "cell"
 bU:mroIn K t.a6 (.type "ValueError")=some true
 d7:PySem.W.XcIn K t.a6
 cT:wz K t.a6 t.di false
 cf:wz K t.a6 t.aS true
 dg:exmOne K (.ref t.a6) (.ref t.a6)=some true
 eY:exmOne K (.ref t.a6) (.ref t.aS)=some true
 aw:Cls K t.a9
 fo:Mk K t.a9 t.cr
 d8:A1l K t.a9 "wheel"
 ba:A1l K t.a9 "lengths"
 cU:A1l K t.a9 "arrays"
 cQ:A1l K t.a9 "tables"
 aM:A1l K t.a9 "lines"
 dy:A1l K t.a9 "outs"
 ge:TyC K t.a9
 ae:Cls K t.aa
 fw:Mk K t.aa t.cw
 bV:A1l K t.aa "axis"
 cm:A1l K t.aa "low"
 bW:A1l K t.aa "high"
 bC:A1l K t.aa "inner"
 bQ:A1l K t.aa "outer"
 cH:mz K t.aa "lets_in" t.aK
 c8:mz K t.aa "looked_at" t.aB
 dq:mz K t.aa "reads" t.aW
 g9:TyC K t.aa
 aL:Cls K t.ac
 fG:Mk K t.ac t.cJ
 cn:A1l K t.ac "name"
 cB:A1l K t.ac "axes"
 cC:A1l K t.ac "sums"
 cA:A1l K t.ac "term"
 cX:TyC K t.ac
 eD:mroIn K t.ac (.type "list")=some false
 dz:mroIn K t.ac (.type "tuple")=some false
 dH:mroIn K t.ac (.type "dict")=some false
 eI:Cls K t.aT
 fz:Mk K t.aT t.aR
 bY:A1l K t.aT "left"
 bJ:A1l K t.aT "right"
 c_:mz K t.aT "reads" t.au
 g6:TyC K t.aT
 cG:Cls K t.a8
 dD:Mk K t.a8 t.bZ
 b6:A1l K t.a8 "number"
 cV:mz K t.a8 "reads" t.aO
 fY:TyC K t.a8
 f7:Cls K t.bH
 fN:Mk K t.bH t.aR
 ci:A1l K t.bH "left"
 bX:A1l K t.bH "right"
 dw:mz K t.bH "reads" t.au
 gk:TyC K t.bH
 bT:Cls K t.af
 fB:Mk K t.af t.cN
 c7:A1l K t.af "array"
 bw:A1l K t.af "indexes"
 cO:mz K t.af "cell_at" t.aN
 dA:mz K t.af "reads" t.bc
 gn:TyC K t.af
 eR:Cls K t.aV
 fA:Mk K t.aV t.aR
 c6:A1l K t.aV "left"
 bE:A1l K t.aV "right"
 df:mz K t.aV "reads" t.au
 f_:TyC K t.aV
 a5:mg "isinstance"=none
 aY:mg "list"=none
 aq:mg "tuple"=none
 de:mg "dict"=none
 fS:mg "zip"=none
 fq:mg "sorted"=none
 fZ:mg "set"=none
 cg:mg "reversed"=none
 ah:mg "len"=none
 fX:mg "bool"=none
 fQ:mg "int"=none
 aA:mg "range"=none
 fO:mg "max"=none
 gc:mg "min"=none
 fP:mg "str"=none
 dP:mg "ValueError"=none
abbrev FO(P:yB)(w:yD)(base:yA){K:Frag}{mg:zE}{x:Str}{st:Stmt}{f:zW}{fd:zS}{ps:zC}(_:FQ K mg x st f fd ps)(n:Nat)(sp:Sp):Prop:=A4u P w K mg base iS n f fd ps sp
abbrev FP(P:yB)(w:yD)(mg:zE)(base:yA){K:Frag}{C:zW}{x q:Str}{st:Stmt}{f:zW}{fd:zS}{ps:zC}(_:FM K C x q st f fd ps)(n:Nat)(sp:Sp):Prop:=A4u P w K mg base iS n f fd ps sp
theorem pcl{k:Nat}{e:yC}{es:zT}{t:TA}{p:Pos}(F:A4u X.prog X.w X.K X.mg X.base iS k f fd ps sp)(g:A5p k2 X.A)(Zz:FQ X.K X.mg x st f fd ps)(j:PA X (e::es) t)(h:k<=k2:=by lia)(i:Gl X x:=by rfl)(c:(x==("__debug__":Str))=false:=by decide)(d:starEach (e::es) X.env=(false,eval e X.env)::starEach es X.env:=by rfl)(a:(backTo pos (starEach es X.env)).any (·.1)=false:=by rfl):PE X (.Call (.Name x p) (e::es) [] pos) (uH sp [] E0 t):=Ei F (g.mono h) i Zz.m Zz.F.kp Zz.b .nil nB j c d a
theorem pmk{k:Nat}{e:yC}{es:zT}{t:TA}{p:Pos}(M:Mk X.K C f)(F:A4u X.prog X.w X.K X.mg X.base iS k f fd ps sp)(d:A5p k2 X.A)(i:X.mg x=some (.ref C))(l:A7h X.K fd ps [])(j:PA X (e::es) t)(h:k+1<=k2:=by lia)(g:Gl X x:=by rfl)(b:(x==("__debug__":Str))=false:=by decide)(c:starEach (e::es) X.env=(false,eval e X.env)::starEach es X.env:=by rfl)(a:(backTo pos (starEach es X.env)).any (·.1)=false:=by rfl):PE X (.Call (.Name x p) (e::es) [] pos) (xg C sp [] E0 t):=EJ M F (d.mono h) g i l .nil nB j b c a
theorem gI(h:Nat.ble n 1000000=true):n<=sizeLine:=jV (Nat.le_of_ble_eq_true h)
theorem Cb:(0:Int)<10:=by decide
theorem EI:(0:Int)<1000:=by decide
theorem Gv:(0:Int)<100000:=by decide
theorem ur:(0:Int)<2:=by decide
theorem pF:(0:Int)<3:=by decide
theorem uu:(0:Int)<4:=by decide
theorem z_50:(0:Int)<5:=by decide
theorem z_60:(0:Int)<6:=by decide
theorem Fz:(0:Int)<99989:=by decide
theorem FR:(0:Int)<99991:=by decide
theorem pit(i:Nat){k:Int}{j}{d:Pos}(c:X.N[i]?=some x:=by rfl)(b:Vis X.env.scope x:=by first|exact Or.inl rfl|exact Or.inr (Or.inl rfl)|exact Or.inr (Or.inr rfl))(e:(x==("__debug__":Str))=false:=by decide)(a:(x==("__classdict__":Str))=false:=by decide):PE X (.Subscript (.Name x pos) (.Constant (.int k) j p2) d) (tOp (sD X.K) (qh i) (tC (.int k))):=hG pf (pv i c b e a) eA λ_ _=>rfl
theorem pil(i:Nat){k:Int}{j}{d:Pos}(c:X.N[i]?=some x:=by rfl)(b:Vis X.env.scope x:=by first|exact Or.inl rfl|exact Or.inr (Or.inl rfl)|exact Or.inr (Or.inr rfl))(e:(x==("__debug__":Str))=false:=by decide)(a:(x==("__classdict__":Str))=false:=by decide):PE X (.Subscript (.Name x pos) (.Constant (.int k) j p2) d) (tOp (uy X.K) (qh i) (tC (.int k))):=hG iQ (pv i c b e a) eA λ_ _=>rfl
theorem pkd(i:Nat){k:Int}{j l}{b e f:Pos}(d:X.N[i]?=some x:=by rfl)(c:Vis X.env.scope x:=by first|exact Or.inl rfl|exact Or.inr (Or.inl rfl)|exact Or.inr (Or.inr rfl))(g:(x==("__debug__":Str))=false:=by decide)(a:(x==("__classdict__":Str))=false:=by decide):L2.PT X (.Compare (.Subscript (.Name x pos) (.Constant (.int k) j p2) b) [.Eq] [.Constant (.str y) l e] f) (xy (tOp rEq (tOp (sD X.K) (qh i) (tC (.int k))) (tC (.str y)))):=iu kS (pit i d c g a) jK (ve _)
theorem eH(i:Nat)(b:X.N[i]?=some x:=by rfl)(c:Vis X.env.scope x:=by first|exact Or.inl rfl|exact Or.inr (Or.inl rfl)|exact Or.inr (Or.inr rfl))(d:(x==("__debug__":Str))=false:=by decide)(a:(x==("__classdict__":Str))=false:=by decide)(hs:starEach [.Name x pos] X.env=(false,eval (.Name x pos) X.env)::starEach [] X.env:=by rfl):PA X [.Name x pos] (xb (qh i) wT):=bp (pv i b c d a) ec hs
theorem jF{e:yC}{es:zT}{t:TA}{p:Pos}(c:X.mg "len"=none)(f:PA X (e::es) t)(b:Gl X "len":=by rfl)(d:starEach (e::es) X.env=(false,eval e X.env)::starEach es X.env:=by rfl)(a:(backTo pos (starEach es X.env)).any (·.1)=false:=by rfl):PE X (.Call (.Name "len" p) (e::es) [] pos) (tCB (λxs H Q=>∃p ys,xs=[.ref p]/\(SqL X.K H p ys\/SqT X.K H p ys)/\Q (.int ys.length) H) t):=jb JA b c rT f (by decide) (by decide) d a
theorem rsq{t:TS}(h:RS X sts t)(q:t D Zz H):∃t,PSs X sts t/\t D Zz H:=⟨t,h.r,q⟩
theorem nH{x:zW}(h:H x=none):∃H',A0m H H'/\H' x=some o/\upd H x o=H':=⟨_,gu h,ck,rfl⟩
abbrev Sro(a:zW):zP:=some (.ref a)
abbrev Sio(a:Int):zP:=some (.int a)
abbrev Sso(a:Str):zP:=some (.str a)
abbrev Sbo(a:Bool):zP:=some (.bl a)
local macro_rules | `(tactic| walk_at"ix") => `(tactic| first |exact Or.inl rfl |exact Or.inr rfl |(simp[relabel]; rfl) |(with_unfolding_all exact Or.inl rfl) |(with_unfolding_all exact Or.inr rfl) |(with_unfolding_all decide))
local macro_rules | `(tactic| walk_at"sc") => `(tactic| exact⟨rfl, rfl, rfl, by decide +kernel, rfl, by decide +kernel, by decide +kernel⟩)
local macro_rules | `(tactic| walk_at"ln") => `(tactic| (intro _ _ _ _ h; first |(cases h; subst_vars; rfl) |((repeat (obtain⟨_, h⟩ := h)); subst_vars; rfl)))
theorem JK:gQ wU ["self","first","second","array","cell"] (gE BJ):=by walk_at"sc"
theorem tS:gQ mV ["value"] (gE (top 6)):=by walk_at"sc"
theorem uf:gQ ["value","fresh","key","member"] mV (gE (top 7)):=by walk_at"sc"
theorem pW:gQ ["cloth","step","number","word","cell","turn","line","at"] oV (gE (top 9)):=by walk_at"sc"
theorem rH:gQ ["cloth","step","number","word","cell","turn"] oV (gE (top 10)):=by walk_at"sc"
theorem wv:gQ ["cloth","step","array","cell"] oV (gE (top 11)):=by walk_at"sc"
theorem uj:gQ ["cloth","step","array","cell","marks"] oV (gE (top 12)):=by walk_at"sc"
theorem pw:gQ ["cloth","steps","behind","step","mark","needed","array","cell"] ["cloth","steps"] (gE (top 14)):=by walk_at"sc"
theorem Jh:gQ wV ["self","name","axes","sums","term"] (gE By):=by walk_at"sc"
theorem JY:gQ wC ["self","wheel","lengths","arrays","tables","lines","outs"] (gE BM):=by walk_at"sc"
theorem Kf:gQ ["self","number"] ["self","number"] (gE BS):=by walk_at"sc"
theorem Kn:gQ mW ["self","at","lengths"] (gE BW):=by walk_at"sc"
theorem Jr:gQ ["self","array","indexes"] ["self","array","indexes"] (gE Bs):=by walk_at"sc"
theorem Kh:gQ ql ["self","at"] (gE BY):=by walk_at"sc"
theorem JX:gQ mW ["self","at","lengths"] (gE BK):=by walk_at"sc"
theorem IM:gQ wO ["axis","shift","at"] (gE (top 22)):=by walk_at"sc"
theorem Jl:gQ ["self","left","right"] ["self","left","right"] (gE Br):=by walk_at"sc"
theorem J7:gQ mW ["self","at","lengths"] (gE BL):=by walk_at"sc"
theorem JH:gQ wE ["self","axis","low","high","inner","outer"] (gE BH):=by walk_at"sc"
theorem Kq:gQ ql ["self","at"] (gE B4):=by walk_at"sc"
theorem Ky:gQ ql ["self","at"] (gE B7):=by walk_at"sc"
theorem Kb:gQ mW ["self","at","lengths"] (gE BO):=by walk_at"sc"
theorem Ju:gQ ["_law_script","_law_k"] ["_law_script","_law_k"] (gE (top 29)):=by walk_at"sc"
theorem HS:gQ ["_law_found"] ["_law_found"] (gE (top 30)):=by walk_at"sc"
theorem zm:gQ ["_law_cell","_law_k","_law_one"] ["_law_cell","_law_k"] (gE (top 31)):=by walk_at"sc"
theorem rE:gQ ["_law_cell","_law_many","_law_found","_law_rest","_law_k"] ["_law_cell","_law_many"] (gE (top 32)):=by walk_at"sc"
theorem BQ:gQ ["_law_two","_law_bound","_law_length","_law_axis"] ["_law_two","_law_bound","_law_length"] (gE (top 33)):=by walk_at"sc"
theorem lN:gQ ["_law_xs","_law_arrays","_law_lengths","_law_line","_law_array","_law_axes","_law_fixed","_law_indexes","_law_guards","_law_k","_law_length","_law_axis","_law_shift"] ["_law_xs","_law_arrays","_law_lengths","_law_line"] (gE (top 34)):=by walk_at"sc"
theorem lM:gQ ["_law_pieces","_law_cell","_law_term","_law_k","_law_array","_law_indexes","_law_guards","_law_one","_law_axis","_law_low","_law_high"] ["_law_pieces","_law_cell"] (gE (top 35)):=by walk_at"sc"
theorem nL:gQ ["_law_cell","_law_name","_law_axes","_law_lengths","_law_arrays","_law_xs","_law_sides","_law_worth","_law_turned","_law_k","_law_side","_law_line"] ["_law_cell","_law_name","_law_axes","_law_lengths","_law_arrays"] (gE (top 36)):=by walk_at"sc"
theorem qE:gQ ["_law_axes","_law_lengths","_law_made","_law_axis","_law_longer","_law_cell"] ["_law_axes","_law_lengths"] (gE (top 37)):=by walk_at"sc"
theorem wu:gQ ["_law_k","_law_line","_law_lengths","_law_steps","_law_cell"] ["_law_k","_law_line","_law_lengths"] (gE (top 38)):=by walk_at"sc"
theorem mK:gQ ["_law_step","_law_line","_law_at","_law_axis","_law_number","_law_due","_law_array","_law_indexes","_law_guards","_law_inside","_law_low","_law_high"] ["_law_step","_law_line"] (gE (top 39)):=by walk_at"sc"
theorem pA:gQ ["_law_rows","_law_steps","_law_writers","_law_due","_law_j","_law_line","_law_own","_law_spot","_law_i"] ["_law_rows","_law_steps"] (gE (top 40)):=by walk_at"sc"
theorem Am:gQ ["_law_some","_law_done","_law_i"] ["_law_some","_law_done"] (gE (top 41)):=by walk_at"sc"
theorem qI:gQ ["_law_script","_law_due","_law_order","_law_done","_law_j","_law_ready","_law_cell"] ["_law_script","_law_due"] (gE (top 42)):=by walk_at"sc"
theorem pX:gQ ["_law_order","_law_way","_law_cell","_law_one","_law_other","_law_low","_law_high","_law_rest","_law_made"] ["_law_order","_law_way","_law_cell"] (gE (top 43)):=by walk_at"sc"
theorem BF:gQ ["_law_found","_law_due","_law_number"] ["_law_found","_law_due"] (gE (top 44)):=by walk_at"sc"
theorem BU:gQ ["_law_steps","_law_step","_law_j"] ["_law_steps","_law_step"] (gE (top 45)):=by walk_at"sc"
theorem ui:gQ ["_law_e","_law_steps","_law_due","_law_spots","_law_rows","_law_first","_law_second","_law_number"] uF (gE (top 46)):=by walk_at"sc"
theorem mJ:gQ ["_law_cloth","_law_order","_law_steps","_law_due","_law_rows","_law_j","_law_handed","_law_spots","_law_k","_law_good","_law_i","_law_caught","_law_answer","_law_e"] ["_law_cloth","_law_order","_law_steps","_law_due","_law_rows"] (gE (top 47)):=by walk_at"sc"
theorem kF:gQ ["_law_script","_law_head","_law_axes","_law_lengths","_law_k","_law_arrays","_law_rows","_law_lines","_law_steps","_law_left","_law_cell","_law_name","_law_line","_law_cloth","_law_due","_law_order","_law_changed_here"] ["_law_script"] (gE (top 48)):=by walk_at"sc"
theorem py:(["member"]:zC).Nodup:=by decide+kernel
theorem AU:(["array","cell"]:zC).Nodup:=by decide+kernel
theorem Be:(["axis","shift","at"]:zC).Nodup:=by decide+kernel
theorem Gs:(["_law_name"]:zC).Nodup:=by decide+kernel
theorem Hd:(["_law_axis"]:zC).Nodup:=by decide+kernel
theorem G9:(["_law_count","_law_cell"]:zC).Nodup:=by decide+kernel
theorem Hu:(["_law_turn","_law_cell","_law_k"]:zC).Nodup:=by decide+kernel
theorem AS:(["_law_axis","_law_shift","_law_at"]:zC).Nodup:=by decide+kernel
theorem Go:(["_law_j","_law_done","_law_due"]:zC).Nodup:=by decide+kernel
theorem Hg:(["_law_j"]:zC).Nodup:=by decide+kernel
theorem Bj:(["_law_j","_law_steps"]:zC).Nodup:=by decide+kernel
theorem HU:(["_law_j"]:zC).Nodup:=by decide+kernel
theorem A4u.none{k:Nat}(h:∀vs H Q E,¬sp vs H Q E):A4u P w K mg base CX k f fd ps sp :=⟨λvs H Q E q=>(h vs H Q E q).elim,λ_ _ _ H _ _ vs Q E _ _ _ _ q=>(h vs H Q E q).elim⟩
def jH(xs:zC):PyData:=.list (xs.map PyData.str)
def OkS(xs:zC):Prop:=∀x∈xs,PyData.strOk x=true
theorem yP:∀xs:zC,PyData.depthAll (xs.map PyData.str)=0/\lq (xs.map PyData.str)=xs.length
 | []=>⟨rfl,rfl⟩
 |x::r=>by
  obtain⟨b,a⟩:=yP r;refine⟨?_,?_⟩
  ·simp[PyData.depthAll,PyData.depth,b]
  ·simp[lq,cnt,a];lia
theorem Au:∀{xs:zC},OkS xs->PyData.canLayAll0 (xs.map PyData.str)=true| [],_=>rfl|x::r,h=>by have b:=Au (xs:=r) λy a=>h y (.tail _ a);simp[PyData.canLayAll0,PyData.canLay0,b,h x (.head _)]
theorem ph(xs:zC):(jH xs).depth<=1/\cnt (jH xs)<=1+xs.length:=by
 obtain⟨b,a⟩:=yP xs;refine⟨?_,?_⟩
 ·simp[jH,PyData.depth,b]
 ·simp only [jH,cnt,a];lia
theorem vI{xs:zC}(h:OkS xs):(jH xs).canLay0=true:=by simp[jH,PyData.canLay0,Au h]
theorem qB{d:PyData}(h:d.canLay0=true)(a:d.depth<=60):SeqAt.shaped d=true:=by unfold SeqAt.shaped;rw[h,Bool.true_and];exact jl (by lia)
theorem AH{H:Hp}:∀{ys:zC}{xs:zM},A4c H xs (ys.map PyData.str)->xs=ys.map V.str
 | [],_,r=>by cases r;rfl
 |y::ys,_,r=>by
  rw[ik]at r
  cases r with
  |cons a r=>
   cases a
   rw[ik,AH r]
theorem qO(h:Rep H v (jH ys)):∃p,v=.ref p/\H p=some (.lst (ys.map V.str)):=by obtain⟨p,a,rfl,e,r⟩:=vv (show Rep H v (.list (ys.map PyData.str)) from h);rw[AH r]at e;exact bd p rfl e
theorem nA(e:H p=some (.lst (ys.map V.str))):Rep H (.ref p) (jH ys):=.lst e (A4c.strs ys)
theorem Ci{e:Str×Int}(h:Rep H v (lE e)):∃b,v=.ref b/\H b=some (.tup [.str e.1,.int e.2]):=by
 unfold lE at h
 cases h with
 |@tup b xs _ eb r=>
  cases r with
  |cons a r=>
   cases r with
   |cons a2 r=>
    cases r
    cases a
    cases a2
    exact bd b rfl eb
theorem vm{f:α->PyData}{ts:List α}(r:A4c H xs (ts.map f)){x:V}(c:xs[i]?=some x):∃e,ts[i]?=some e/\Rep H x (f e):=by obtain⟨d,a,b⟩:=r.get2 c;rw[iG]at a;obtain⟨e,g,rfl⟩:=mu.mp a;exact bd e g b
theorem iH{α β:Type}{F:α->β->Prop}:∀{l:List α}{m:List β},Paired F l m->∀{i:Nat}{x:α},l[i]?=some x->∃y,m[i]?=some y/\F x y|_,_,.nil,i,x,e=>by simp at e|_,_,.cons r t,0,x,e=>by simp at e;subst e;exact bd _ rfl r|_,_,.cons r t,i+1,x,e=>by obtain⟨y,b,a⟩:=iH t (i:=i) (by simpa using e);exact bd y (by simpa using b) a
theorem lb{α β:Type}{F:α->β->Prop}:∀{a c:List α}{b d:List β},Paired F a b->Paired F c d->Paired F (a++c) (b++d)|_,_,_,_,.nil,h=>h|_,_,_,_,.cons r t,h=>.cons r (lb t h)
theorem kT{f:α->V}{xs:List α}(h:(xs.map f)[i]?=some v):∃x,xs[i]?=some x/\v=f x:=by
 rw[iG]at h
 cases e:xs[i]? with
 |none=>rw[e]at h;cases h
 |some x=>rw[e]at h;exact bd x rfl ((iX h).symm)
def KT(H H':Hp):Prop:=∀p a,H p=some (.tup a)->H' p=some (.tup a)
theorem KT.same(s:A0m H H'):KT H H':=λp a e=>s _ _ e
theorem KT.at(e:H l=some u)(n:∀xs,u≠.tup xs):KT H (upd H l o):=λp xs z=>by rw[dt (iI z e (n xs).symm)];exact z
theorem KT.trans(a:KT H H')(b:KT H' H2):KT H H2:=λp c e=>b _ _ (a _ _ e)
def qp(A:Adr):Op3->zW|.plus=>A.bH|.minus=>A.aT|.times=>A.aV
inductive Ob(A:Adr)(H:Hp):V->Tm->Prop|num {a dx:zW} {z:Int}:H a=some (.ins A.a8 dx [("number",.int z)])->Ob A H (.ref a) (.num z)|read {a dx l:zW} {x:Str} {ix:zL}:H a=some (.ins A.af dx [("array",.str x),("indexes",.ref l)])->Rep H (.ref l) (oJ ix)->Ob A H (.ref a) (.read x ix)|pair {a dx:zW} {k:Op3} {u w:V} {l r:Tm}:H a=some (.ins (qp A k) dx [("left",u),("right",w)])->Ob A H u l->Ob A H w r->Ob A H (.ref a) (.pair k l r)|guard {a dx:zW} {x:Str} {lo hi:Int} {u w:V} {l r:Tm}:H a=some (.ins A.aa dx [("axis",.str x),("low",.int lo),("high",.int hi),("inner",u),("outer",w)])->Ob A H u l->Ob A H w r->Ob A H (.ref a) (.guard x lo hi l r)
theorem Ob.imp(f:A0m H H'){t:Tm}(h:Ob A H v t):Ob A H' v t:=by
 induction h with
 |num e=>exact .num (f _ _ e)
 |read e r=>exact .read (f _ _ e) (r.same f)
 |pair e _ _ i1 i2=>exact .pair (f _ _ e) i1 i2
 |guard e _ _ i1 i2=>exact .guard (f _ _ e) i1 i2
local macro_rules | `(tactic| walk_at"lk") => `(tactic| first |with_reducible exact B9 |(refine B8 (by decide +kernel) ?_; walk_at"lk") |rfl)
def FX(K:Frag)(f:Str):Sp:=λb H Q _=>∃(p C a:zW)(v:V),b=[.ref p,v]/\H p=some (.ins C a [])/\Cls K C/\A1l K C f/\Q .non (upd H p (.ins C a [(f,v)]))
def Fg(K:Frag)(f g:Str):Sp:=λb H Q _=>∃(p C a:zW)(v u:V),b=[.ref p,v,u]/\H p=some (.ins C a [])/\Cls K C/\A1l K C f/\A1l K C g/\Q .non (upd H p (.ins C a [(f,v),(g,u)]))
def Fe(A:Adr):Sp:=λg H Q _=>∃(p f:zW)(a b c d e:V),g=[.ref p,a,b,c,d,e]/\H p=some (.ins A.aa f [])/\Q .non (upd H p (.ins A.aa f [("axis",a),("low",b),("high",c),("inner",d),("outer",e)]))
def F9(A:Adr):Sp:=λg H Q _=>∃(p f l:zW)(x:Str)(d:zL),g=[.ref p,.str x,.ref l]/\H p=some (.ins A.af f [])/\Rep H (.ref l) (oJ d)/\d.length<=1000/\
 ∀(e:zW)(c:Hp),c p=some (.ins A.af f [("array",.str x),("indexes",.ref e)])->Rep (iW (λa=>H a=none) c) (.ref e) (oJ d)->(∀b o,b≠p->H b=some o->c b=some o)->Q .non c
def vg(n:Nat):Sp:=λe H Q _=>∃(v:V)(d:PyData),e=[v]/\Rep H v d/\PyData.depth d<=n/\cnt d<=100000/\∀(c:V)(b:Hp),A0m H b->Rep (iW (λa=>H a=none) b) c d->Q c b
def Dl(A:Adr):Sp:=λc H Q _=>∃(a b:zW)(d:zK),c=[.ref a]/\H a=some (.ins A.ac b d)/\Q (.ref a) H
def xX(A:Adr):Sp:=λd H Q _=>∃(p:zW)(b:zM),d=[.ref p]/\H p=some (.lst b)/\b.length<=1000/\(∀x∈b,∃a f e,x=.ref a/\H a=some (.ins A.ac f e))/\∀(D:zW)(c:Hp),H D=none->A0m H c->c D=some (.lst b)->Q (.ref D) c
def uG:Sp:=λh H Q _=>∃(d:zW)(e:zJ)(g:List PyData),h=[.ref d]/\H d=some (.dK e)/\e.length<=100000/\Paired (λ(a:Key×V)(x:PyData)=>Rep H a.2 x/\PyData.depth x<=1/\cnt x<=100000) e g/\
 ∀(p:zW)(c:zJ)(f:Hp),H p=none->A0m H f->f p=some (.dK c)->c.map (·.1)=e.map (·.1)->Paired (λ(b:Key×V)(x:PyData)=>Rep (iW (λa=>H a=none) f) b.2 x) c g->Q (.ref p) f
theorem BX(T:Txt K mg t):FP P w mg base T.aE 1 (FX K "number"):=by
 refine T.aE.F.ok Kf λ_ A _ s H _ Q E e h=>?_
 ·refine jM h ?_;clear h;rintro p C d v rfl c a b k;exact rsq (ev ⟨jU (pv 0) (pv 1) rfl⟩) (kU _ rfl _ rfl p C d [] rfl c a b (by decide) k)
theorem wm(T:Txt K mg t):FP P w mg base T.aH 1 (Fg K "left" "right"):=by
 refine T.aH.F.ok Jl λ_ A _ s H _ Q E f h=>?_
 ·refine ko h ?_;clear h;rintro p C a v u rfl e b d ⟨c,k⟩;refine rsq (dV ⟨jU (pv 0) (pv 1) rfl⟩ (ev ⟨jU (pv 0) (pv 2) rfl⟩)) (kU _ rfl _ rfl p C a [] rfl e b d (by decide) (kU _ rfl _ rfl p C a _ rfl ck b c (by show 1<1000;decide) ?_));show Q V.non (upd (upd H p _) p (.ins C a (iz "right" u (iz "left" v []))));rw[pM,kg,iK (by decide+kernel),kg];exact k
theorem JG(T:Txt K mg t):FP P w mg base T.bo 1 (Fe t):=by
 refine T.bo.F.ok JH λ_ A _ s H _ Q E n h=>?_
 ·refine jk h ?_;clear h;rintro p f a b c d ⟨e,rfl,l,k⟩;have g:iz "low" b (iz "axis" a [])=([("axis",a),("low",b)]:zK):=by rw[kg,iK (by decide+kernel),kg]
  have j:iz "high" c ([("axis",a),("low",b)]:zK)=([("axis",a),("low",b),("high",c)]:zK):=by rw[iK (by decide+kernel),iK (by decide+kernel),kg]
  have m:iz "inner" d ([("axis",a),("low",b),("high",c)]:zK)=([("axis",a),("low",b),("high",c),("inner",d)]:zK):=by rw[iK (by decide+kernel),iK (by decide+kernel),iK (by decide+kernel),kg]
  have i:iz "outer" e ([("axis",a),("low",b),("high",c),("inner",d)]:zK)=([("axis",a),("low",b),("high",c),("inner",d),("outer",e)]:zK):=by rw[iK (by decide+kernel),iK (by decide+kernel),iK (by decide+kernel),iK (by decide+kernel),kg]
  refine rsq (dV ⟨jU (pv 0) (pv 1) rfl⟩ (dV ⟨jU (pv 0) (pv 2) rfl⟩ (dV ⟨jU (pv 0) (pv 3) rfl⟩ (dV ⟨jU (pv 0) (pv 4) rfl⟩ (ev ⟨jU (pv 0) (pv 5) rfl⟩))))) (kU _ rfl _ rfl p _ f [] rfl l T.ae T.bV (by decide) (kU _ rfl _ rfl p _ f _ rfl ck T.ae T.cm (by show 1<1000;decide) ?_));rw[pM,g];refine kU _ rfl _ rfl p _ f _ rfl ck T.ae T.bW (by show 2<1000;decide) ?_;rw[pM,j];refine kU _ rfl _ rfl p _ f _ rfl ck T.ae T.bC (by show 3<1000;decide) ?_;rw[pM,m];refine kU _ rfl _ rfl p _ f _ rfl ck T.ae T.bQ (by show 4<1000;decide) ?_;show Q V.non (upd (upd H p _) p _);rw[pM,i];exact k
theorem rC(h:T="NoneType"\/T="bool"\/T="int"\/T="str"\/T="tuple"):∀u,A2b (.ty "list") u->kitOne K (.type T) u=some false:=by rcases h with rfl|rfl|rfl|rfl|rfl<;>exact qu (by decide+kernel) (by decide+kernel) (by decide+kernel)
theorem uc(h:T="NoneType"\/T="bool"\/T="int"\/T="str"):∀u,A2b (.ty "tuple") u->kitOne K (.type T) u=some false:=by rcases h with rfl|rfl|rfl|rfl<;>exact qu (by decide+kernel) (by decide+kernel) (by decide+kernel)
theorem ua(h:T="NoneType"\/T="bool"\/T="int"\/T="str"):∀u,A2b (.ty "dict") u->kitOne K (.type T) u=some false:=by rcases h with rfl|rfl|rfl|rfl<;>exact qu (by decide+kernel) (by decide+kernel) (by decide+kernel)
theorem zt(T:Txt K mg t){m:Nat}(Ga0:A4u P w K mg base iS m t.aZ t.b9 mV sp')
  (hs:∀(v:V)(d:PyData)(H:Hp)(Q:VK),Rep H v d->PyData.depth d+1<=n->cnt d<=100000->(∀(L:V)(H':Hp),A0m H H'->Rep (iW (λa=>H a=none) H') L d->Q L H')->sp' [v] H Q E0):
  A4u P w K mg base iS (m+1) t.aZ t.b9 mV (vg n):=by
 refine T.a7.F.ok tS λ_ A _ s H _ Q E X h=>?_
 ·refine iq h ?_;clear h;rintro v d rfl rp Z Y k;have Ga1:A4u P w K mg base iS 0 t.aG t.aF mV (λ_ _ _ _=>False):=A4u.none λ_ _ _ _ h=>h;refine rsq (dV (gU (jh (jb kh (by rfl) T.a5 jN (bp (pv 0) (bp (jW (v:=V.ty "list") rfl T.aY nO rfl) ec)))) (ev (gF (lu (N':=["member"]) (ix:=(List.replicate 1 none)) rfl (mI rfl (by decide+kernel) (by decide+kernel)) (mH rfl) (oZ (pv 0)) (λ_ _ _ _=>(gw (i:=0) py)) (λ_ _ _ _=>(pcl Ga0 X T.a7 (eH 0)))))) ⟨gR⟩) (dV (gU (jh (jb kh (by rfl) T.a5 jN (bp (pv 0) (bp (jW (v:=V.ty "tuple") rfl T.aq lV rfl) ec)))) (ev (gF (mh qH (by rfl) T.aq lV (bp (lu (N':=["member"]) (ix:=(List.replicate 1 none)) rfl (mI rfl (by decide+kernel) (by decide+kernel)) (mH rfl) (oZ (pv 0)) (λ_ _ _ _=>(gw (i:=0) py)) (λ_ _ _ _=>(pcl Ga0 X T.a7 (eH 0)))) ec)))) ⟨gR⟩) (dV (gU (jh (jb kh (by rfl) T.a5 jN (bp (pv 0) (bp (jW (v:=V.ty "dict") rfl T.de rM rfl) ec)))) (ev (gF (pcl Ga1 X T.am (eH 0)))) ⟨gR⟩) (ev (gF (pv 0)))))) ?_
  cases rp with
  |non=>refine ju _ rfl _ _ _ _ rfl .non (rC (.inl rfl)) false rfl (hB ?_);refine ju _ rfl _ _ _ _ rfl .non (uc (.inl rfl)) false rfl (hB ?_);exact ju _ rfl _ _ _ _ rfl .non (ua (.inl rfl)) false rfl (hB (bd _ rfl (k _ _ (A0m.refl _) .non)))
  |bl b=>refine ju _ rfl _ _ _ _ rfl (.bl b) (rC (.inr (.inl rfl))) false rfl (hB ?_);refine ju _ rfl _ _ _ _ rfl (.bl b) (uc (.inr (.inl rfl))) false rfl (hB ?_);exact ju _ rfl _ _ _ _ rfl (.bl b) (ua (.inr (.inl rfl))) false rfl (hB (bd _ rfl (k _ _ (A0m.refl _) (.bl b))))
  |int b=>refine ju _ rfl _ _ _ _ rfl (.int b) (rC (.inr (.inr (.inl rfl)))) false rfl (hB ?_);refine ju _ rfl _ _ _ _ rfl (.int b) (uc (.inr (.inr (.inl rfl)))) false rfl (hB ?_);exact ju _ rfl _ _ _ _ rfl (.int b) (ua (.inr (.inr (.inl rfl)))) false rfl (hB (bd _ rfl (k _ _ (A0m.refl _) (.int b))))
  |str b=>refine ju _ rfl _ _ _ _ rfl (.str b) (rC (.inr (.inr (.inr (.inl rfl))))) false rfl (hB ?_);refine ju _ rfl _ _ _ _ rfl (.str b) (uc (.inr (.inr (.inr rfl)))) false rfl (hB ?_);exact ju _ rfl _ _ _ _ rfl (.str b) (ua (.inr (.inr (.inr rfl)))) false rfl (hB (bd _ rfl (k _ _ (A0m.refl _) (.str b))))
  |@lst p xs ds e r=>
   have J:=r.len;have W:=vr ds;have S:lq ds+1<=100000:=Y;have O:PyData.depthAll ds+1<=n:=Z;refine ju _ rfl _ _ _ _ rfl (.lst e) (oi "list") true rfl (kC ?_);refine .inl (jv _ rfl p rfl ⟨_,SqL.of e⟩ λD M=>?_)
   refine oP (K:=K) (a:=p) (D:=D) (xs:=xs) (λi j f=>A0m H f/\f D=some (.lst j)/\A4c (iW (λa=>H a=none/\a≠D) f) j (ds.take i)/\j.length=i)
    (jx (gu M) ck (by rw[List.take_zero];exact .nil) rfl) (λi j f ⟨g,_⟩=>SqL.of (g _ _ e)) ?_ ?_
   ·rintro i x j f N ⟨g,c,B,y⟩;obtain⟨d,u,R⟩:=r.get2 N;obtain⟨c1,c2⟩:=vh u;have hi:i<xs.length:=(gG.mp N).1;refine iB True.intro _ rfl (hs x d f _ (R.same g) (by lia) (by lia) λL H5 G C=>?_);have q:¬(H D=none/\D≠D):=λz=>z.2 rfl;refine jd (G _ _ c) (hV (by lia)) (gT (g.trans G) M) ck ?_ (by simp[y]);rw[iN,u];show A4c _ (j++[L]) (ds.take i++[d]);refine(B.same (pU (ni G) q)).snoc (C.same ((pz (A0m.refl _) λa o _ I=>⟨g.free I,λz=>?_⟩).trans (pU (A0m.refl _) q)));subst z;rw[c]at I;cases I
   ·rintro j f ⟨g,c,B,y⟩;refine k (.ref D) f g (.lst (mF M c) ?_);rw[J,iY]at B;exact B.same (pz (A0m.refl _) λa o _ h=>h.1)
  |@tup p xs ds e r=>
   have J:=r.len;have W:=vr ds;have S:lq ds+1<=100000:=Y;have O:PyData.depthAll ds+1<=n:=Z;refine ju _ rfl _ _ _ _ rfl (.tup e) (rC (.inr (.inr (.inr (.inr rfl))))) false rfl (hB ?_);refine ju _ rfl _ _ _ _ rfl (.tup e) (oi "tuple") true rfl (kC ?_);refine .inr (jv _ rfl p rfl ⟨_,SqT.of e⟩ λD M=>?_)
   refine GA (K:=K) (a:=p) (D:=D) (xs:=xs) (λi j f=>A0m H f/\f D=some (.lst j)/\A4c (iW (λa=>H a=none/\a≠D) f) j (ds.take i)/\j.length=i)
    (jx (gu M) ck (by rw[List.take_zero];exact .nil) rfl) (λi j f ⟨g,_⟩=>SqT.of (g _ _ e)) ?_ ?_
   ·rintro i x j f N ⟨g,c,B,y⟩;obtain⟨d,u,R⟩:=r.get2 N;obtain⟨c1,c2⟩:=vh u;have hi:i<xs.length:=(gG.mp N).1;refine iB True.intro _ rfl (hs x d f _ (R.same g) (by lia) (by lia) λL H5 G C=>?_);have q:¬(H D=none/\D≠D):=λz=>z.2 rfl;refine jd (G _ _ c) (hV (by lia)) (gT (g.trans G) M) ck ?_ (by simp[y]);rw[iN,u];show A4c _ (j++[L]) (ds.take i++[d]);refine(B.same (pU (ni G) q)).snoc (C.same ((pz (A0m.refl _) λa o _ I=>⟨g.free I,λz=>?_⟩).trans (pU (A0m.refl _) q)));subst z;rw[c]at I;cases I
   ·rintro j f ⟨g,c,B,y⟩;refine hZ D j rfl (.inl ⟨SqL.of c,λl U=>?_⟩);refine k (.ref l) _ (g.trans (gu U)) (.tup (mF (g.free U) ck) ?_);rw[J,iY]at B;exact B.same ((pz (A0m.refl _) λa o _ h=>h.1).trans (ni (gu U)))
theorem vR(T:Txt K mg t):∀n:Nat,A4u P w K mg base iS (n+1) t.aZ t.b9 mV (vg n)|0=>zt T (sp':=λ_ _ _ _=>False) (m:=0) (A4u.none λ_ _ _ _ h=>h) λv d H Q _ h=>absurd h (by lia)|n+1=>zt T (vR T n) λv d H Q b c a k=>(iM v d rfl b (by lia) a k)
theorem yQ(T:Txt K mg t):FO P w base T.a7 1 (Dl t):=by
 refine T.a7.F.ok tS λ_ A _ s H _ Q E b h=>?_
 ·obtain⟨a,f,d,rfl,e,k⟩:=h;have Ga0:A4u P w K mg base iS 0 t.aZ t.b9 mV (λ_ _ _ _=>False):=A4u.none λ_ _ _ _ h=>h;have c:kZ K H (.ref a) (.ref t.ac):=.ins e T.aL T.cX.ha T.cX.hn T.cX.htk T.cX.hm;have Ga1:A4u P w K mg base iS 0 t.aG t.aF mV (λ_ _ _ _=>False):=A4u.none λ_ _ _ _ h=>h;refine rsq (dV (gU (jh (jb kh (by rfl) T.a5 jN (bp (pv 0) (bp (jW (v:=V.ty "list") rfl T.aY nO rfl) ec)))) (ev (gF (lu (N':=["member"]) (ix:=(List.replicate 1 none)) rfl (mI rfl (by decide+kernel) (by decide+kernel)) (mH rfl) (oZ (pv 0)) (λ_ _ _ _=>(gw (i:=0) py)) (λ_ _ _ _=>(pcl Ga0 b T.a7 (eH 0)))))) ⟨gR⟩) (dV (gU (jh (jb kh (by rfl) T.a5 jN (bp (pv 0) (bp (jW (v:=V.ty "tuple") rfl T.aq lV rfl) ec)))) (ev (gF (mh qH (by rfl) T.aq lV (bp (lu (N':=["member"]) (ix:=(List.replicate 1 none)) rfl (mI rfl (by decide+kernel) (by decide+kernel)) (mH rfl) (oZ (pv 0)) (λ_ _ _ _=>(gw (i:=0) py)) (λ_ _ _ _=>(pcl Ga0 b T.a7 (eH 0)))) ec)))) ⟨gR⟩) (dV (gU (jh (jb kh (by rfl) T.a5 jN (bp (pv 0) (bp (jW (v:=V.ty "dict") rfl T.de rM rfl) ec)))) (ev (gF (pcl Ga1 b T.am (eH 0)))) ⟨gR⟩) (ev (gF (pv 0)))))) ?_;refine ju _ rfl _ _ _ _ rfl c (sT T.eD (by decide+kernel)) false rfl (hB ?_);refine ju _ rfl _ _ _ _ rfl c (sT T.dz (by decide+kernel)) false rfl (hB ?_);exact ju _ rfl _ _ _ _ rfl c (sT T.dH (by decide+kernel)) false rfl (hB (bd _ rfl k))
theorem DW(T:Txt K mg t):FO P w base T.a7 2 (xX t):=by
 refine T.a7.F.ok tS λ_ A _ s H _ Q E l h=>?_
 ·refine iq h ?_;clear h;rintro p xs rfl e u r k;have Ga1:A4u P w K mg base iS 0 t.aG t.aF mV (λ_ _ _ _=>False):=A4u.none λ_ _ _ _ h=>h;refine rsq (dV (gU (jh (jb kh (by rfl) T.a5 jN (bp (pv 0) (bp (jW (v:=V.ty "list") rfl T.aY nO rfl) ec)))) (ev (gF (lu (N':=["member"]) (ix:=(List.replicate 1 none)) rfl (mI rfl (by decide+kernel) (by decide+kernel)) (mH rfl) (oZ (pv 0)) (λ_ _ _ _=>(gw (i:=0) py)) (λ_ _ _ _=>(pcl (yQ T) l T.a7 (eH 0)))))) ⟨gR⟩) (dV (gU (jh (jb kh (by rfl) T.a5 jN (bp (pv 0) (bp (jW (v:=V.ty "tuple") rfl T.aq lV rfl) ec)))) (ev (gF (mh qH (by rfl) T.aq lV (bp (lu (N':=["member"]) (ix:=(List.replicate 1 none)) rfl (mI rfl (by decide+kernel) (by decide+kernel)) (mH rfl) (oZ (pv 0)) (λ_ _ _ _=>(gw (i:=0) py)) (λ_ _ _ _=>(pcl (yQ T) l T.a7 (eH 0)))) ec)))) ⟨gR⟩) (dV (gU (jh (jb kh (by rfl) T.a5 jN (bp (pv 0) (bp (jW (v:=V.ty "dict") rfl T.de rM rfl) ec)))) (ev (gF (pcl Ga1 l T.am (eH 0)))) ⟨gR⟩) (ev (gF (pv 0)))))) ?_;refine ju _ rfl _ _ _ _ rfl (.lst e) (oi "list") true rfl (kC ?_);refine .inl (jv _ rfl p rfl ⟨_,SqL.of e⟩ λD j=>?_)
  refine oP (K:=K) (a:=p) (D:=D) (xs:=xs) (λi g c=>A0m H c/\c D=some (.lst g)/\g=xs.take i)
   (fI (gu j) ck rfl) (λi g c ⟨d,_⟩=>SqL.of (d _ _ e)) ?_ ?_
  ·rintro i x g c f ⟨d,b,rfl⟩;obtain⟨a,o,m,rfl,q⟩:=r x (gJ f);have n:(xs.take i).length<=xs.length:=by rw[jf];lia
   refine iB True.intro _ rfl (ox a o m rfl (d _ _ q) b (hV (by lia)) (gT d j) ⟨ck,?_⟩);rw[iN,f];rfl
  ·rintro g c ⟨d,b,rfl⟩;rw[iY]at b;exact k D c j d b
theorem Kg(T:Txt K mg t):FO P w base T.am 3 uG:=by
 refine T.am.F.ok uf λ_ A _ s H _ Q E hr h=>?_
 ·refine gW h ?_;clear h;rintro d c ds rfl u hl ⟨D,k⟩;have hu:=mC hr;refine bd _ (@RS.r _ _ _ ⟨FS (@lK _ _ _ _ _ (@oN _ _ 1 _ _ _ _ uf.nd rfl (.inl rfl) qA rfl (.inl rfl)) (@lK _ _ _ _ _ (qT PassesOwn.never rfl (Fw (DC PySem.F.plainAttrs_dict PySem.F.slot_dict_items PySem.F.type_dict_items FT (pv 0))) (lH (n:=2) rfl (iw (gw (i:=2) uf.nd) (iw (gw (i:=3) uf.nd) lJ))) (@kf _ _ _ (@nY _ _ _ _ _ _ _ _ _ hu (pv 1) (pv 2) (pcl (vR T 1) hr T.a7 (eH 3)) rfl))) (Hl (@kf _ _ _ (@nU _ _ _ _ (pv 1))))))⟩) ?_;intro ap;have nd:=ap.1 d c u;refine λp O=>?_;have M:d≠p:=gO u O;have l:upd H p (.dK []) d=some (.dK c):=by rw[dt M];exact u
  refine eh _ rfl (.inr (.inr (.inl ⟨rfl,.inl ⟨_,l⟩⟩))) (iM d _ rfl rfl l (.inl ⟨_,rfl⟩) λB m=>?_);have vp:p≠B:=gO ck m;have dv:d≠B:=gO l m;refine iE B d _ rfl ck (by rw[dt dv];exact l) (.inl (bd c rfl λo=>?_));have a4:H B=none:=by rw[dt vp.symm]at m;exact m
  have g0:A0m (upd H d (.frz o (.dK c))) (upd (upd (upd H p (.dK [])) B (qm B d)) d (.frz o (.dK c))):=λb v e=>by
   by_cases hb:b=d
   ·subst hb;rw[ck]at e⊢;exact e
   ·rw[dt hb]at e⊢;rw[dt (gO e a4),dt (gO e O)];exact e
  have S:upd H d (.frz o (.dK c)) p=none:=by rw[dt M.symm];exact O
  have a1:∀b,upd H d (.frz o (.dK c)) b=none->H b=none:=λb e=>by
   by_cases hb:b=d
   ·subst hb;rw[ck]at e;cases e
   ·rw[dt hb]at e;exact e
  refine GH (L:=c.map λq=>(kV q.1,q.2)) (λi Z f=>∃(o2 o3:zP)(g:zJ),Z=[Sro d,Sro p,o2,o3]/\A0m (upd H d (.frz o (.dK c))) f/\f p=some (.dK g)/\g.map (·.1)=(c.take i).map (·.1)/\Paired (λ(b:Key×V)(x:PyData)=>Rep (iW (λa=>H a=none/\a≠p) f) b.2 x) g (ds.take i))
   (iL none none [] rfl g0 (by rw[dt M.symm,dt vp,ck]) rfl .nil) (λi Z f zq=>by obtain⟨_,_,_,_,j,_⟩:=zq;exact j _ _ ck) ?_ ?_
  ·rintro i kx vx q Z f hx hq I;refine gW I ?_;clear I;rintro o2 o3 g rfl j N ⟨y,J⟩;rw[iG]at hx;obtain⟨⟨k',v⟩,R,e⟩:=mu.mp hx;cases e;obtain⟨x,a0,rv,a5,W⟩:=iH D R;have C:A0m f (upd f q (.tup [kV k',v])):=gu hq;have a3:Rep (upd f q (.tup [kV k',v])) v x:=(rv.imp2 (λb ys z=>j _ _ (by rw[dt (iI z u (by intro w;cases w))];exact z)) λb ys z=>j _ _ (by rw[dt (iI z u (by intro w;cases w))];exact z)).same C;refine lD q _ rfl (SqT.of ck) rfl _ _ rfl _ _ rfl (iB rfl _ rfl (iM v x rfl a3 a5 W λv' H6 X r6=>?_));have h6:=X _ _ (C _ _ N);have lw:g.length=(c.take i).length:=by have:=congrArg List.length y;simpa using this
   have a6:(c.take i).length<=c.length:=by rw[jf];lia
   refine gK _ rfl _ rfl p _ rfl (C0w.k (k:=k') h6 (hV (by lia))) ?_;have G:¬(H p=none/\p≠p):=λz=>z.2 rfl;refine iL _ _ _ rfl (gT (j.trans (C.trans X)) S) ck ?_ ?_
   ·rw[yW nd R g y v',iN,R,gN,gN,y];rfl
   ·rw[yW nd R g y v',iN,a0];refine lb (Paired.mapP J λ_ _ z=>z.same (pU (ni (C.trans X)) G)) (.cons (r6.same ((pz (A0m.refl _) λa ob ea U=>⟨?_,λz=>?_⟩).trans (pU (A0m.refl _) G))) .nil)
    ·exact a1 a (j.free (C.free U))
    ·subst z;rw[C _ _ N]at U;cases U
  ·rintro Z f I;refine gW I ?_;clear I;rintro o2 o3 g rfl j N ⟨y,J⟩;have ld:=Paired.length D;rw[dm,iY]at y;rw[dm,ld,iY]at J;have Y:f d=some (.frz o (.dK c)):=j _ _ ck;refine jw d o _ Y (jL (.inl ⟨_,rfl⟩) (λo' u' z=>by have z:H d=some (.frz o' u'):=z;rw[u]at z;cases z) _ rfl ?_);have a2:¬(H d=none/\d≠p):=λz=>by rw[u]at z;cases z.1
   exact k p g _ O (qD u j) (by rw[dt M.symm];exact N) y (Paired.mapP J λ_ _ z=>z.same ((pU (A0m.refl _) a2).trans (pz (A0m.refl _) λa ob _ h=>h.1)))
theorem Ev(T:Txt K mg t):FO P w base T.a7 4 uG:=by
 have Ga0:A4u P w K mg base iS 0 t.aZ t.b9 mV (λ_ _ _ _=>False):=A4u.none λ_ _ _ _ h=>h;refine T.a7.F.ok tS λ_ A _ s H _ Q E a h=>?_
 ·have e:=h;obtain⟨d,c,f,rfl,b,_⟩:=h;refine rsq (dV (gU (jh (jb kh (by rfl) T.a5 jN (bp (pv 0) (bp (jW (v:=V.ty "list") rfl T.aY nO rfl) ec)))) (ev (gF (lu (N':=["member"]) (ix:=(List.replicate 1 none)) rfl (mI rfl (by decide+kernel) (by decide+kernel)) (mH rfl) (oZ (pv 0)) (λ_ _ _ _=>(gw (i:=0) py)) (λ_ _ _ _=>(pcl Ga0 a T.a7 (eH 0)))))) ⟨gR⟩) (dV (gU (jh (jb kh (by rfl) T.a5 jN (bp (pv 0) (bp (jW (v:=V.ty "tuple") rfl T.aq lV rfl) ec)))) (ev (gF (mh qH (by rfl) T.aq lV (bp (lu (N':=["member"]) (ix:=(List.replicate 1 none)) rfl (mI rfl (by decide+kernel) (by decide+kernel)) (mH rfl) (oZ (pv 0)) (λ_ _ _ _=>(gw (i:=0) py)) (λ_ _ _ _=>(pcl Ga0 a T.a7 (eH 0)))) ec)))) ⟨gR⟩) (dV (gU (jh (jb kh (by rfl) T.a5 jN (bp (pv 0) (bp (jW (v:=V.ty "dict") rfl T.de rM rfl) ec)))) (ev (gF (pcl (Kg T) a T.am (eH 0)))) ⟨gR⟩) (ev (gF (pv 0)))))) ?_;refine ju _ rfl _ _ _ _ rfl (.dK b) (qu (by decide+kernel) (by decide+kernel) (by decide+kernel)) false rfl (hB ?_);refine ju _ rfl _ _ _ _ rfl (.dK b) (qu (by decide+kernel) (by decide+kernel) (by decide+kernel)) false rfl (hB ?_);exact ju _ rfl _ _ _ _ rfl (.dK b) (oi "dict") true rfl (kC (bd _ rfl e))
def Do(A:Adr):Sp:=λa H Q E=>(vg 2 a H Q E\/xX A a H Q E)\/uG a H Q E
theorem pe(T:Txt K mg t):FO P w base T.a7 4 (Do t):=A4u.or (A4u.or ((vR T 2).mono (by lia)) ((DW T).mono (by lia))) (Ev T)
theorem Jg(T:Txt K mg t):FP P w mg base T.bG 5 (F9 t):=by
 refine T.bG.F.ok Jr λ_ A _ s H _ Q E B h=>?_
 ·refine ko h ?_;clear h;rintro p f l x ix rfl n C r k;have y:=Dd (ix:=ix);refine rsq (dV ⟨jU (pv 0) (pv 1) rfl⟩ (ev ⟨jU (pv 0) (pcl (pe T) B T.a7 (eH 2)) rfl⟩)) (kU _ rfl _ rfl p _ f [] rfl n T.bT T.c7 (by decide) ?_);refine bd _ rfl (.inl (.inl (iM (.ref l) (oJ ix) rfl (C.ins n) Fr (by lia) λq u i d=>?_)));have g:=i _ _ (ck (H:=H) (a:=p));obtain⟨j,G,rfl,I,D⟩:=vv (show Rep _ q (.list (ix.map lE)) from d);refine lO _ rfl p _ f _ rfl g T.bT T.bw (by show 1<1000;decide) ?_;show Q V.non (upd u p (.ins t.af f (iz "indexes" (.ref j) (iz "array" (.str x) []))));rw[kg,iK (by decide+kernel),kg];refine k j _ ck (d.same λb o e=>?_) λb o c e=>?_
  ·obtain⟨c,v⟩:=jX e;have c:upd H p _ b=none:=c;have m:b≠p:=λz=>by rw[z,ck]at c;cases c
   rw[dt m]at c;exact mF c (by rw[dt m];exact v)
  rw[dt c];exact i _ _ (by rw[dt c];exact e)
def KB(p:zW)(H H':Hp):Prop:=∀b o,b≠p->H b=some o->H' b=some o
theorem KB.upd(k:KB p H H'):KB p H (upd H' p o):=λb u a e=>by rw[dt a];exact k b u a e
theorem KB.refl:KB p H H:=λ_ _ _ e=>e
theorem KB.trans(a:KB p H H')(b:KB p H' H2):KB p H H2:=λc o d e=>b c o d (a c o d e)
theorem KB.of(s:A0m H H'):KB p H H':=λb o _ e=>s _ _ e
theorem KB.free{b:zW}(k:KB p H H')(d:H' p=some u)(a:H' b=none):H b=none:=by
 cases e:H b with
 |none=>rfl
 |some o=>
  have c:b≠p:=λz=>by subst z;rw[d]at a;cases a
  rw[k b o c e]at a;cases a
theorem KB.kt(k:KB p H H')(a:H p=some u)(n:∀xs,u≠.tup xs):KT H H':=λb xs e=>k b _ (iI e a (n xs).symm) e
theorem KB.same(s:A0m H H2)(k:KB p H2 H')(a:H p=none):A0m H H':=λb o e=>k b o (gO e a) (s _ _ e)
abbrev AR(S:zV)(H:Hp)(kvs:zJ)(es:zB):Prop:=Paired (λ(p:Key×V)(e:Str×List Str)=>p.1=Sum.inr e.1/\∃b,p.2=.ref b/\S b/\H b=some (.lst (e.2.map V.str))) kvs es
theorem AR.imp(h:AR S H kvs es)(f:∀b xs,S b->H b=some (.lst xs)->S' b/\H' b=some (.lst xs)):AR S' H' kvs es :=Paired.mapP h λ_ _ ⟨d,b,e,a,c⟩=>⟨d,(eh b e ((f b _ a c).1) ((f b _ a c).2))⟩
theorem AR.same(h:AR S H kvs es)(s:A0m H H'):AR S H' kvs es:=h.imp λb a z e=>⟨z,s _ _ e⟩
theorem AR.src{S:zV}{H:Hp}:∀{kvs:zJ}{es:zB},AR S H kvs es->(∀e∈es,e.2.length<=100)->Paired (λ(a:Key×V)(x:PyData)=>Rep H a.2 x/\PyData.depth x<=1/\cnt x<=100000) kvs (es.map λe=>jH e.2)|_,_,.nil,_=>.nil|_,_,@Paired.cons _ _ _ p e _ _ ⟨_,b,z2,_,z4⟩ t,h=>by obtain⟨d,f⟩:=ph e.2;have:=h e (.head _);exact .cons (fI (by rw[z2];exact nA z4) d (by show cnt (jH e.2)<=100000;lia)) (AR.src t λx c=>h x (.tail _ c))
theorem xq{S S':zV}{H H':Hp}:∀{kvs c:zJ}{es:zB},AR S H kvs es->c.map (·.1)=kvs.map (·.1)->Paired (λ(b:Key×V)(x:PyData)=>Rep (iW S' H') b.2 x) c (es.map λe=>jH e.2)->AR S' H' c es
 |_,[],_,.nil,_,_=>.nil
 |_,_::_,_,.nil,ks,_=>by cases ks
 |_,[],_,.cons _ _,ks,_=>by cases ks
 |_,q::r,_,@Paired.cons _ _ _ p e _ _ ⟨z1,_⟩ t,ks,pr=>by
  rw[ik,ik]at ks;injection ks with k1 k2;rw[ik]at pr
  cases pr with
  |cons a pr=>obtain⟨b,f,d⟩:=qO a;exact .cons ⟨k1.trans z1,(eh b f ((jX d).1) ((jX d).2))⟩ (xq t k2 pr)
abbrev sI(kvs:zJ)(a:zI):Prop:=Paired (λ(p:Key×V)(i:Int)=>p.2=.int i) kvs a
theorem Aj{H:Hp}:∀{kvs:zJ}{b:zI},sI kvs b->Paired (λ(a:Key×V)(x:PyData)=>Rep H a.2 x/\PyData.depth x<=1/\cnt x<=100000) kvs (b.map PyData.int)|_,_,.nil=>.nil|_,_,.cons a t=>.cons (fI (by rw[a];exact .int _) (by simp[PyData.depth]) (by simp[cnt])) (Aj t)
theorem yV{S:zV}{H:Hp}:∀{kvs c:zJ}{d:zI},sI kvs d->c.map (·.1)=kvs.map (·.1)->Paired (λ(b:Key×V)(x:PyData)=>Rep (iW S H) b.2 x) c (d.map PyData.int)->c=kvs
 |_,[],_,.nil,_,_=>rfl
 |_,_::_,_,.nil,ks,_=>by cases ks
 |_,[],_,.cons _ _,ks,_=>by cases ks
 |_,q::r,_,@Paired.cons _ _ _ p i _ _ a t,ks,pr=>by
  rw[ik,ik]at ks;injection ks with k1 k2;rw[ik]at pr
  cases pr with
  |cons b pr=>rw[yV t k2 pr];have e:=yI b;have:q=p:=Prod.ext k1 (e.trans a.symm);rw[this]
def GJ(A:Adr):Sp:=λf H Q _=>∃(p e l m:zW)(n:V)(x:Str)(b d:zC),f=[.ref p,.str x,.ref l,.ref m,n]/\H p=some (.ins A.ac e [])/\H l=some (.lst (b.map V.str))/\H m=some (.lst (d.map V.str))/\b.length<=1000/\d.length<=1000/\
 ∀(c u:zW)(a:Hp),H c=none->H u=none->a p=some (.ins A.ac e [("name",.str x),("axes",.ref c),("sums",.ref u),("term",n)])->a c=some (.lst (b.map V.str))->a u=some (.lst (d.map V.str))->KB p H a->Q .non a
abbrev clo(A:Adr)(dx:zW)(c:Int)(l a tb b o:zW):HO:=.ins A.a9 dx [("wheel",.int c),("lengths",.ref l),("arrays",.ref a),("tables",.ref tb),("lines",.ref b),("outs",.ref o)]
def FJ(A:Adr):Sp:=λB H Q _=>∃(p h s y u w t:zW)(r:Int)(g v:zJ)(C:zI)(f:zB)(m q:zC)(i:zM)(S:zV),B=[.ref p,.int r,.ref s,.ref y,.ref u,.ref w,.ref t]/\H p=some (.ins A.a9 h [])/\
 H s=some (.dK g)/\sI g C/\g.length<=1000/\H y=some (.dK v)/\AR S H v f/\f.length<=1000/\(∀e∈f,e.2.length<=100)/\H u=some (.lst (m.map V.str))/\m.length<=1000/\H w=some (.lst i)/\i.length<=1000/\(∀x∈i,∃a h z,x=.ref a/\a≠p/\H a=some (.ins A.ac h z))/\H t=some (.lst (q.map V.str))/\q.length<=1000/\
 ∀(n l o j k:zW)(d:zJ)(c:Hp),c p=some (clo A h r n l o j k)->H n=none->c n=some (.dK g)->H l=none->c l=some (.dK d)->AR (λb=>H b=none) c d f->H o=none->c o=some (.lst (m.map V.str))->H j=none->c j=some (.lst i)->H k=none->c k=some (.lst (q.map V.str))->KB p H c->Q .non c
theorem Jt(T:Txt K mg t):FP P w mg base T.bR 5 (GJ t):=by
 refine T.bR.F.ok Jh λ_ A _ s H _ Q E U h=>?_
 ·refine jk h ?_;clear h;rintro p e l m n x ⟨S,O,rfl,f,R,L,ly,lz,k⟩;obtain⟨c2,c3⟩:=ph S;obtain⟨d2,d3⟩:=ph O;have Z:l≠p:=iI R f (by intro z;cases z);have mp:m≠p:=iI L f (by intro z;cases z);have W:∀v:V,iz "axes" v [("name",.str x)]=([("name",.str x),("axes",v)]:zK):=λv=>by rw[iK (by decide+kernel),kg]
  have Y:∀u v:V,iz "sums" v [("name",.str x),("axes",u)]=([("name",.str x),("axes",u),("sums",v)]:zK):=λu v=>by rw[iK (by decide+kernel),iK (by decide+kernel),kg]
  have e3:∀G u v:V,iz "term" v [("name",.str x),("axes",G),("sums",u)]=([("name",.str x),("axes",G),("sums",u),("term",v)]:zK):=λG u v=>by rw[iK (by decide+kernel),iK (by decide+kernel),iK (by decide+kernel),kg]
  refine rsq (dV ⟨jU (pv 0) (pv 1) rfl⟩ (dV ⟨jU (pv 0) (pcl (pe T) U T.a7 (eH 2)) rfl⟩ (dV ⟨jU (pv 0) (pcl (pe T) U T.a7 (eH 3)) rfl⟩ (ev ⟨jU (pv 0) (pv 4) rfl⟩)))) (kU _ rfl _ rfl p _ e [] rfl f T.aL T.cn (by decide) ?_);rw[kg];have i:KB p H (upd H p (.ins t.ac e [("name",.str x)])):=KB.refl.upd;refine bd _ rfl (.inl (.inl (iM (.ref l) (jH S) rfl (nA (i _ _ Z R)) (by lia) (by lia) λv' M N o=>?_)));have C:=N _ _ (ck (H:=H) (a:=p));obtain⟨c,rfl,g⟩:=qO o;obtain⟨j,g⟩:=jX g;have b:H c=none:=i.free ck j;have J:c≠p:=λz=>by subst z;rw[f]at b;cases b
  refine lO _ rfl p _ e _ rfl C T.aL T.cB (by show 1<1000;decide) ?_;rw[W];have B:KB p H (upd M p (.ins t.ac e [("name",.str x),("axes",.ref c)])):=(i.trans (KB.of N)).upd;refine bd _ rfl (.inl (.inl (iM (.ref m) (jH O) rfl (nA (B _ _ mp L)) (by lia) (by lia) λa0 H3 q I=>?_)));have r:=q _ _ (ck (H:=M) (a:=p));obtain⟨u,rfl,y⟩:=qO I;obtain⟨D,y⟩:=jX y;have d:H u=none:=B.free ck D;have X:u≠p:=λz=>by subst z;rw[f]at d;cases d
  refine lO _ rfl p _ e _ rfl r T.aL T.cC (by show 2<1000;decide) ?_;rw[Y];refine kU _ rfl _ rfl p _ e _ rfl ck T.aL T.cA (by show 3<1000;decide) ?_;show Q V.non (upd (upd H3 p _) p _);rw[pM,e3];exact k c u _ b d ck (by rw[dt J];exact q _ _ (by rw[dt J];exact g)) (by rw[dt X];exact y) (B.trans (KB.of q)).upd
theorem J9(T:Txt K mg t):FP P w mg base T.bq 5 (FJ t):=by
 refine T.bq.F.ok JY λ_ A _ s H _ Q E M h=>?_
 ·refine oR h ?_;clear h;rintro p c ld ad tl lv ol a lk ak is es tb os ⟨xs,S,rfl,hp,J,il,ll,L,ar,c5,W,O,c1,G,a8,b6,R,c4,k⟩;have f1:∀v:V,iz "lengths" v [("wheel",.int a)]=([("wheel",.int a),("lengths",v)]:zK):=λv=>by rw[iK (by decide+kernel),kg]
  have f2:∀u v:V,iz "arrays" v [("wheel",.int a),("lengths",u)]=([("wheel",.int a),("lengths",u),("arrays",v)]:zK):=λu v=>by rw[iK (by decide+kernel),iK (by decide+kernel),kg]
  have f3:∀i u v:V,iz "tables" v [("wheel",.int a),("lengths",i),("arrays",u)]=([("wheel",.int a),("lengths",i),("arrays",u),("tables",v)]:zK):=λi u v=>by rw[iK (by decide+kernel),iK (by decide+kernel),iK (by decide+kernel),kg]
  have f4:∀i o u v:V,iz "lines" v [("wheel",.int a),("lengths",i),("arrays",o),("tables",u)]=([("wheel",.int a),("lengths",i),("arrays",o),("tables",u),("lines",v)]:zK):=λi o u v=>by rw[iK (by decide+kernel),iK (by decide+kernel),iK (by decide+kernel),iK (by decide+kernel),kg]
  have f5:∀i o u3 u v:V,iz "outs" v [("wheel",.int a),("lengths",i),("arrays",o),("tables",u3),("lines",u)]=([("wheel",.int a),("lengths",i),("arrays",o),("tables",u3),("lines",u),("outs",v)]:zK):=λi o u3 u v=>by rw[iK (by decide+kernel),iK (by decide+kernel),iK (by decide+kernel),iK (by decide+kernel),iK (by decide+kernel),kg]
  have q:∀{b:zW}{u:HO},H b=some u->(∀C d fs,u≠.ins C d fs)->b≠p:=λe n z=>by subst z;rw[hp]at e;cases e;exact n _ _ _ rfl
  have f:∀{b:zW},H b=none->b≠p:=λe z=>by subst z;rw[hp]at e;cases e
  refine rsq (dV ⟨jU (pv 0) (pv 1) rfl⟩ (dV ⟨jU (pv 0) (pcl (pe T) M T.a7 (eH 2)) rfl⟩ (dV ⟨jU (pv 0) (pcl (pe T) M T.a7 (eH 3)) rfl⟩ (dV ⟨jU (pv 0) (pcl (pe T) M T.a7 (eH 4)) rfl⟩ (dV ⟨jU (pv 0) (pcl (pe T) M T.a7 (eH 5)) rfl⟩ (ev ⟨jU (pv 0) (pcl (pe T) M T.a7 (eH 6)) rfl⟩)))))) (kU _ rfl _ rfl p _ c [] rfl hp T.aw T.d8 (by decide) ?_);rw[kg];obtain⟨G0,hG0⟩:∃G0,G0=upd H p (.ins t.a9 c [("wheel",.int a)]):=⟨_,rfl⟩;rw[<-hG0];have p0:G0 p=some (.ins t.a9 c [("wheel",.int a)]):=by rw[hG0];exact ck
  have k0:KB p H G0:=by rw[hG0];exact KB.refl.upd
  refine bd _ rfl (.inr (iL ld lk (is.map PyData.int) rfl (k0 _ _ (q J (by intros;intro z;cases z)) J) (by lia) (Aj il) λg b2 H1 b3 s1 h1 ks cp=>?_));have ek:=yV il ks cp;subst ek;have r:H g=none:=k0.free p0 b3;refine lO _ rfl p _ c _ rfl (s1 _ _ p0) T.aw T.ba (by show 1<1000;decide) ?_;rw[f1];obtain⟨G1,hG1⟩:∃G1,G1=upd H1 p (.ins t.a9 c [("wheel",.int a),("lengths",.ref g)]):=⟨_,rfl⟩;rw[<-hG1];have p1:G1 p=some (.ins t.a9 c [("wheel",.int a),("lengths",.ref g)]):=by rw[hG1];exact ck
  have y:KB p H G1:=by rw[hG1];exact(k0.trans (KB.of s1)).upd
  have a3:G1 g=some (.dK b2):=by rw[hG1,dt (f r)];exact h1
  have I:AR (λb=>S b) G1 ak es:=ar.imp λb ys z e=>⟨z,y _ _ (q e (by intros;intro z;cases z)) e⟩;refine bd _ rfl (.inr (iL ad ak _ rfl (y _ _ (q L (by intros;intro z;cases z)) L) (by have:=Paired.length ar;lia) (I.src W) λj m H2 b9 s2 h2 a5 c0=>?_));have b1:=xq I a5 c0;have N:H j=none:=y.free p1 b9;refine lO _ rfl p _ c _ rfl (s2 _ _ p1) T.aw T.cU (by show 2<1000;decide) ?_;rw[f2];obtain⟨G2,hG2⟩:∃G2,G2=upd H2 p (.ins t.a9 c [("wheel",.int a),("lengths",.ref g),("arrays",.ref j)]):=⟨_,rfl⟩;rw[<-hG2];have p2:G2 p=some (.ins t.a9 c [("wheel",.int a),("lengths",.ref g),("arrays",.ref j)]):=by rw[hG2];exact ck
  have j2:KB p G1 G2:=by rw[hG2];exact(KB.of s2).upd
  have k2:=y.trans j2;have a1:G2 j=some (.dK m):=by rw[hG2,dt (f N)];exact h2
  have a0:AR (λb=>H b=none) G2 m es:=b1.imp λb ys z e=>⟨y.free p1 z,by rw[hG2,dt (f (y.free p1 z))];exact e⟩;obtain⟨c2,c3⟩:=ph tb;refine bd _ rfl (.inl (.inl (iM (.ref tl) (jH tb) rfl (nA (k2 _ _ (q O (by intros;intro z;cases z)) O)) (by lia) (by lia) λvt H3 s3 b7=>?_)));obtain⟨l,rfl,et⟩:=qO b7;obtain⟨a6,et⟩:=jX et;have Y:H l=none:=k2.free p2 a6;refine lO _ rfl p _ c _ rfl (s3 _ _ p2) T.aw T.cQ (by show 3<1000;decide) ?_;rw[f3];obtain⟨G3,hG3⟩:∃G3,G3=upd H3 p (.ins t.a9 c [("wheel",.int a),("lengths",.ref g),("arrays",.ref j),("tables",.ref l)]):=⟨_,rfl⟩;rw[<-hG3];have p3:G3 p=some (.ins t.a9 c [("wheel",.int a),("lengths",.ref g),("arrays",.ref j),("tables",.ref l)]):=by rw[hG3];exact ck
  have Z:KB p G2 G3:=by rw[hG3];exact(KB.of s3).upd
  have X:=k2.trans Z;have a4:G3 l=some (.lst (tb.map V.str)):=by rw[hG3,dt (f Y)];exact et
  refine bd _ rfl (.inl (.inr (iM lv xs rfl (X _ _ (q G (by intros;intro z;cases z)) G) a8 (λx hx=>?_) λB H4 b4 s4 b5=>?_)))
  ·obtain⟨b,db,fs,rfl,nb,eb⟩:=b6 x hx;exact jw b db fs rfl (X _ _ nb eb)
  have nv:H B=none:=X.free p3 b4;refine lO _ rfl p _ c _ rfl (s4 _ _ p3) T.aw T.aM (by show 4<1000;decide) ?_;rw[f4];obtain⟨G4,hG4⟩:∃G4,G4=upd H4 p (.ins t.a9 c [("wheel",.int a),("lengths",.ref g),("arrays",.ref j),("tables",.ref l),("lines",.ref B)]):=⟨_,rfl⟩;rw[<-hG4];have p4:G4 p=some (.ins t.a9 c [("wheel",.int a),("lengths",.ref g),("arrays",.ref j),("tables",.ref l),("lines",.ref B)]):=by rw[hG4];exact ck
  have U:KB p G3 G4:=by rw[hG4];exact(KB.of s4).upd
  have k4:=X.trans U;have b0:G4 B=some (.lst xs):=by rw[hG4,dt (f nv)];exact b5
  obtain⟨o2,o3⟩:=ph os;refine bd _ rfl (.inl (.inl (iM (.ref ol) (jH os) rfl (nA (k4 _ _ (q R (by intros;intro z;cases z)) R)) (by lia) (by lia) λvo H5 s5 b8=>?_)));obtain⟨o',rfl,eo⟩:=qO b8;obtain⟨a2,eo⟩:=jX eo;have no:H o'=none:=k4.free p4 a2;refine lO _ rfl p _ c _ rfl (s5 _ _ p4) T.aw T.dy (by show 5<1000;decide) ?_;show Q V.non (upd H5 p _);rw[f5];have j5:KB p G4 (upd H5 p (clo t c a g j l B o')):=(KB.of s5).upd;have D:=λ{b:zW}(hb:H b=none){u:HO}(e:G4 b=some u)=>j5 _ _ (f hb) e;exact k g j l B o' m _ ck r (D r (U _ _ (f r) (Z _ _ (f r) (j2 _ _ (f r) a3)))) N (D N (U _ _ (f N) (Z _ _ (f N) a1))) (a0.imp λb ys z e=>⟨z,D z (U _ _ (f z) (Z _ _ (f z) e))⟩) Y (D Y (U _ _ (f Y) a4)) nv (D nv b0) no (by rw[dt (f no)];exact eo) (k4.trans j5)
def Gd:Tm->Prop|.read _ ix=>ix.length<=100|.sum _ b=>Gd b|.pair _ l r=>Gd l/\Gd r|.guard _ _ _ l r=>Gd l/\Gd r|_=>True
structure B5g(n:Nat)(u:Tm)(H:Hp)(d l:zW)(kvs lk:zJ):Prop where
 good:Gd u
 deep:dep u<=n
 hd:H d=some (.dK kvs)
 at_:wR kvs u
 hl:H l=some (.dK lk)
 ax:∃AX,Axs AX u/\xu AX lk
 few:kvs.length+n<=1000
 most:(rd (ai lk) u (ai kvs)).length<=100000
theorem B5g.same{u:Tm}(h:B5g n u H d l kvs lk)(s:A0m H H'):B5g n u H' d l kvs lk:=⟨h.good,h.deep,s _ _ h.hd,h.at_,s _ _ h.hl,h.ax,h.few,h.most⟩
theorem B5g.left{o:Op3}(h:B5g (n+1) (.pair o a b) H d l kvs lk):B5g n a H d l kvs lk:=by obtain⟨AX,j,g⟩:=h.ax;have e:=h.deep;have f:=h.few;have c:=h.most;simp only [dep]at e;simp only [rd,ic]at c;exact⟨h.good.1,by lia,h.hd,λx i=>h.at_ x (.inl i),h.hl,(bd AX j.1 g),by lia,by lia⟩
theorem B5g.right{o:Op3}(h:B5g (n+1) (.pair o a b) H d l kvs lk):B5g n b H d l kvs lk:=by obtain⟨AX,j,g⟩:=h.ax;have e:=h.deep;have f:=h.few;have c:=h.most;simp only [dep]at e;simp only [rd,ic]at c;exact⟨h.good.2,by lia,h.hd,λx i=>h.at_ x (.inr i),h.hl,(bd AX j.2 g),by lia,by lia⟩
theorem B5g.inner(h:B5g (n+1) (.guard x lo hi a b) H d l kvs lk)(c:lo<=ai kvs x/\ai kvs x<hi):B5g n a H d l kvs lk/\rd (ai lk) (.guard x lo hi a b) (ai kvs)=rd (ai lk) a (ai kvs):=by
 obtain⟨AX,m,j⟩:=h.ax;have g:=h.deep;have i:=h.few;have f:=h.most;have e:rd (ai lk) (.guard x lo hi a b) (ai kvs)=rd (ai lk) a (ai kvs):=by simp only [rd];rw[dn c]
 rw[e]at f;simp only [dep]at g;exact⟨⟨h.good.1,by lia,h.hd,λx k=>h.at_ x (.inr (.inl k)),h.hl,(bd AX m.2.1 j),by lia,f⟩,e⟩
theorem B5g.outer(h:B5g (n+1) (.guard x lo hi a b) H d l kvs lk)(c:¬(lo<=ai kvs x/\ai kvs x<hi)):B5g n b H d l kvs lk/\rd (ai lk) (.guard x lo hi a b) (ai kvs)=rd (ai lk) b (ai kvs):=by
 obtain⟨AX,m,j⟩:=h.ax;have g:=h.deep;have i:=h.few;have f:=h.most;have e:rd (ai lk) (.guard x lo hi a b) (ai kvs)=rd (ai lk) b (ai kvs):=by simp only [rd];rw[dh c]
 rw[e]at f;simp only [dep]at g;exact⟨⟨h.good.2,by lia,h.hd,λx k=>h.at_ x (.inr (.inr k)),h.hl,(bd AX m.2.2 j),by lia,f⟩,e⟩
theorem B5g.gat(h:B5g n (.guard x lo hi a b) H d l kvs lk)(s:A0m H H'):A7q H' d (.str x) (some (.int (ai kvs x))):=by have g:=A7q.k (H:=H') (a:=d) (k:=Sum.inr x) (s _ _ h.hd);rw[h.at_ x (.inl rfl)]at g;exact g
def RdQ(H:Hp)(rs:List (Str×List Int))(Q:VK):Prop:=∀(p:zW)(b:zM)(a:Hp),H p=none->A0m H a->a p=some (.lst b)->Rds a b rs->Q (.ref p) a
def IW:Sp:=λb H Q _=>∃(x:Str)(z:Int)(d:zW)(a:zJ),b=[.str x,.int z,.ref d]/\H d=some (.dK a)/\(¬x=""->fC a (Sum.inr x)=some (.int (ai a x)))/\Q (.int (if x="" then z else ai a x+z)) H
def HG(A:Adr):Sp:=λg H Q _=>∃(o h d l:zW)(a:Str)(c:zL)(b:zJ),g=[.ref o,.ref d]/\H o=some (.ins A.af h [("array",.str a),("indexes",.ref l)])/\Rep H (.ref l) (oJ c)/\c.length<=100/\H d=some (.dK b)/\
 (∀e∈c,¬e.1=""->fC b (Sum.inr e.1)=some (.int (ai b e.1)))/\∀(p:zW)(f:Hp),H p=none->A0m H f->f p=some (.tup ((jr (ai b) c).map V.int))->Q (.ref p) f
def GI(A:Adr):Sp:=λe H Q _=>∃(o f d:zW)(x:Str)(b c:Int)(u v:V)(a:zJ),e=[.ref o,.ref d]/\H o=some (.ins A.aa f [("axis",.str x),("low",.int b),("high",.int c),("inner",u),("outer",v)])/\A7q H d (.str x) (some (.int (ai a x)))/\
 (b<=ai a x/\ai a x<c->Q u H)/\(¬(b<=ai a x/\ai a x<c)->Q v H)
def si(A:Adr)(n:Nat)(c:Tm->Prop):Sp:=λe H Q _=>∃(v:V)(u:Tm)(d l:zW)(a b:zJ),e=[v,.ref d,.ref l]/\c u/\Ob A H v u/\B5g n u H d l a b/\RdQ H (rd (ai b) u (ai a)) Q
theorem Iy(T:Txt K mg t):FO P w base T.c9 1 IW:=by
 refine T.c9.F.ok IM λ_ A _ s H _ Q E c h=>?_
 ·refine ku h ?_;clear h;rintro x z d ⟨i,rfl,f,l,k⟩;have j:=mC c;refine rsq (dV (gU (iu kS (pv 0) jK) (ev (gF (pv 1))) ⟨gR⟩) (ev (gF (ff jz (kG j (pv 2) (pv 0)) (pv 1))))) ?_;refine kJ _ rfl rfl _ rfl (iD (λh=>?_) (λh=>?_))
  ·rw[dn (by injection h)]at k;exact bd _ rfl k
  ·have b:¬x="":=λe=>h (by rw[e]);rw[dh b]at k;have g:=A7q.k (H:=H) (a:=d) (k:=Sum.inr x) f;rw[l b]at g;exact gK _ rfl _ rfl d _ rfl g (gB _ rfl _ _ rfl rfl k)
theorem Ki(T:Txt K mg t):FP P w mg base T.aP 2 (HG t):=by
 refine T.aP.F.ok Kh λ_ A _ s H _ Q E O h=>?_
 ·refine jk h ?_;clear h;rintro o N d l a ix ⟨r,rfl,R,U,L,S,W,k⟩;obtain⟨_,I,q,C,v⟩:=vv (show Rep H (.ref l) (.list (ix.map lE)) from U);cases q;have z:=v.len;rw[dm]at z;refine rsq (ev (gF (mh qH (by rfl) T.aq lV (bp (lu (N':=["axis","shift","at"]) (ix:=(List.replicate 2 none++[some 1])) (g:=sB K 2 (pI (nC 0) (pI (nC 1) rY))) rfl (rb (x:="at") rfl rfl rfl (by decide+kernel) (by decide+kernel)) (rj (N0:=["axis","shift"]) rfl (.inl rfl) (by walk_at"ix")) (kH (lj (pv 0) rfl)) (λ_ _ _ _=>(lH (n:=2) rfl (iw (gw (i:=0) Be) (iw (gw (i:=1) Be) lJ)))) (λ_ _ _ _=>(pcl (Iy T) O T.c9 (bp (pv 0) (bp (pv 1) (eH 2)))))) ec)))) ?_;refine jA _ rfl o _ N _ _ rfl R T.bT T.bw (by walk_at"lk") (eh l rfl ⟨_,SqL.of C⟩ λD y=>?_);refine oP (K:=K) (a:=l) (D:=D) (xs:=I) (λi u m=>A0m H m/\m D=some (.lst u)/\u=(jr (ai r) (ix.take i)).map V.int) (fI (gu y) ck rfl) (λi u m ⟨c,_⟩=>SqL.of (c _ _ C)) ?_ ?_
  ·rintro i x u m f ⟨c,b,rfl⟩;have J:i<ix.length:=by have:=(gG.mp f).1;lia
   obtain⟨X,j,G⟩:=v.get2 f;have e:ix[i]?=some ix[i]:=gM J;rw[iG,e]at j;cases j;obtain⟨q,rfl,M⟩:=CQ G;refine lD q _ rfl (SqT.of (c _ _ M)) rfl _ _ rfl _ _ rfl (jL rfl ⟨rfl,True.intro⟩ _ rfl (gZ _ rfl _ rfl (jc (ix[i].1) (ix[i].2) d r rfl (c _ _ S) (W _ (gJ e)) ?_)));refine iT b (hV (by simp[jr];lia)) (gT c y) ck ?_;rw[iN,e,jR];unfold jr;rw[gN,gN];rfl
  ·rintro u m ⟨c,b,rfl⟩;rw[z,iY]at b;exact hZ D _ rfl (.inl ⟨SqL.of b,λp B=>k p _ (c.free B) (c.trans (gu B)) ck⟩)
def DY(A:Adr):Sp:=λe H Q _=>∃(o f d:zW)(x:Str)(b c:Int)(u v:V)(a:zJ),e=[.ref o,.ref d]/\H o=some (.ins A.aa f [("axis",.str x),("low",.int b),("high",.int c),("inner",u),("outer",v)])/\A7q H d (.str x) (some (.int (ai a x)))/\Q (.bl (decide (b<=ai a x/\ai a x<c))) H
theorem Kt(T:Txt K mg t):FP P w mg base T.aI 1 (DY t):=by
 refine T.aI.F.ok Kq λ_ A _ s H _ Q E l h=>?_
 ·refine kK h ?_;clear h;rintro o j d x c i u v a rfl f ⟨g,k⟩;have m:=mC l;refine rsq (ev (gF (zn sK oK (lj (pv 0) rfl) (kG m (pv 1) (lj (pv 0) rfl)) (lj (pv 0) rfl)))) ?_;refine jA _ rfl o _ j _ _ rfl f T.ae T.cm (by walk_at"lk") (bd _ rfl (jA _ rfl o _ j _ _ rfl f T.ae T.bV (by walk_at"lk") (eu d _ rfl g ⟨_,(kJ _ rfl rfl _ rfl (iD (λb=>?_) (λb=>?_)))⟩)))
  ·have b:c<=ai a x:=b;refine jA _ rfl o _ j _ _ rfl f T.ae T.bW (by walk_at"lk") (eu _ _ rfl rfl ?_);have e:decide (c<=ai a x/\ai a x<i)=decide (ai a x<i):=by simp[b]
   rw[e]at k;exact k
  ·have b:¬c<=ai a x:=b;have e:decide (c<=ai a x/\ai a x<i)=false:=ir λz=>b z.1;rw[e]at k;exact k
theorem Kz(T:Txt K mg t):FP P w mg base T.ay 2 (GI t):=by
 have G:=@Kt P w K mg base t T;refine T.ay.F.ok Ky λ_ A _ s H _ Q E k h=>?_
 ·refine kK h ?_;clear h;rintro o c d x l m u v f rfl a ⟨g,j,i⟩;refine rsq (dV (gU (jh (pT (pv 0) (eH 1))) (ev (gF (lj (pv 0) rfl))) ⟨gR⟩) (ev (gF (lj (pv 0) rfl)))) ?_;refine bd _ rfl (jq o _ c _ (kj 1 t.aK t.bA _ _ rfl a T.ae T.cH (by walk_at"lk") G (jL (k.mono (by lia)) T.aI.b _ rfl (jB o c d x l m u (hZ v f rfl (jL a g _ rfl (iD (λe=>?_) (λe=>?_))))))))
  ·exact jA _ rfl o _ c _ _ rfl a T.ae T.bC (by walk_at"lk") (j e)
  ·exact jA _ rfl o _ c _ _ rfl a T.ae T.bQ (by walk_at"lk") (i e)
theorem Ko(T:Txt K mg t)(n:Nat):A4u P w K mg base iS 1 t.aO t.bL mW (si t n λu=>∃z,u=.num z):=by
 refine T.bN.F.ok Kn λ_ A _ s H _ Q E e h=>?_
 ·refine jk h ?_;clear h;rintro v u d l c f ⟨rfl,⟨z,rfl⟩,g,b,k⟩;exact rsq (ev (gF (@iJ _ _ _ _ ec))) ⟨gI rfl,λp a=>k p [] _ a (gu a) ck .nil⟩
theorem JF(T:Txt K mg t)(n:Nat):A4u P w K mg base iS 3 t.bc t.cy mW (si t n λu=>∃z ix,u=.read z ix):=by
 have G:=@Ki P w K mg base t T;refine T.cE.F.ok JX λ_ A _ s H _ Q E m h=>?_
 ·refine jk h ?_;clear h;rintro v u d l i L ⟨rfl,⟨z,ix,rfl⟩,B,c,k⟩
  cases B with
  |@read a dx li _ _ e rp=>
   refine rsq (ev (gF (@iJ _ _ _ _ (bp (jJ (bp (lj (pv 0) rfl) (bp (pT (pv 0) (eH 1)) ec))) ec)))) ?_
   refine⟨_,rfl,a,_,dx,_,_,rfl,e,T.bT,T.c7,(by walk_at"lk"),_,rfl,a,_,dx,_,2,t.aN,t.bO,_,_,rfl,e,T.bT,T.cO,(by walk_at"lk"),G,m.mono (by lia),T.aP.b,_,rfl,
    a,dx,d,li,z,ix,i,rfl,e,rp,c.good,c.hd,λe C x=>c.at_ e.1 (iB x e C rfl),λq J I D y=>?_⟩
   refine⟨gI rfl,λr f=>⟨gI rfl,λp g=>?_⟩⟩;have j:=D.trans (gu (o:=.tup [.str z,.ref q]) f);exact k p [.ref r] _ (j.free g) (j.trans (gu g)) ck (.cons (eu r q rfl (vB g ck) (vB g (vB f y))) .nil)
def ROk(P:yB)(w:yD)(K:Frag)(mg:zE)(base:yA)(A:Adr)(n:Nat):Prop:=∀(H:Hp)(v:V)(u:Tm),Ob A H v u->dep u<=n->
 ∃(a C m:zW)(e:zK)(k:Nat)(f:zW)(h:zS)(j:zC)(g:Sp),v=.ref a/\H a=some (.ins C m e)/\Cls K C/\mz K C "reads" f/\e.lookup ("reads":Str)=none/\A4u P w K mg base iS k f h j g/\k<=n+3/\A7h K h j []/\
  ∀(c:Hp)(d l:zW)(b i:zJ)(Q:VK),A0m H c->B5g n u c d l b i->RdQ c (rd (ai i) u (ai b)) Q->g [v,.ref d,.ref l] c Q E0
theorem vc(T:Txt K mg t)(k:Op3):Cls K (qp t k):=by cases k with|plus=>exact T.f7|minus=>exact T.eI|times=>exact T.eR
theorem Cs(T:Txt K mg t)(k:Op3):A1l K (qp t k) "left":=by cases k with|plus=>exact T.ci|minus=>exact T.bY|times=>exact T.c6
theorem Cp(T:Txt K mg t)(k:Op3):A1l K (qp t k) "right":=by cases k with|plus=>exact T.bX|minus=>exact T.bJ|times=>exact T.bE
theorem CY(T:Txt K mg t)(k:Op3):mz K (qp t k) "reads" t.au:=by cases k with|plus=>exact T.dw|minus=>exact T.c_|times=>exact T.df
theorem JN(T:Txt K mg t)(W:ROk P w K mg base t n):A4u P w K mg base iS (n+4) t.au t.cj mW (si t (n+1) λu=>∃o x b,u=.pair o x b):=by
 refine T.cF.F.ok J7 λ_ A _ s H _ Q E hr h=>?_
 ·refine jk h ?_;clear h;rintro v u d l r lk ⟨rfl,⟨o,x,y,rfl⟩,ob,j,k⟩
  cases ob with
  |@pair a dx _ u v _ _ e ob1 ob2=>have a1:=j.left;have Y:=j.right;have hm:=j.most;simp only [rd,ic]at hm;refine rsq (ev (gF (ff nD (pT (lj (pv 0) rfl) (bp (pv 1) (eH 2))) (pT (lj (pv 0) rfl) (bp (pv 1) (eH 2)))))) ?_;refine jA _ rfl a _ dx _ _ rfl e (vc T o) (Cs T o) (by walk_at"lk") ?_;refine kK (W H u x ob1 a1.deep) ?_;rintro I C' f m X L i g c rfl G ⟨D,J,M,N,O,C,U⟩;refine jq I C' f m (lC X L i g c rfl G D J M N (hr.mono (by lia)) C (gZ _ rfl _ rfl (U H d l r lk _ (A0m.refl _) a1 λp1 R H1 a0 q h1 r1=>?_)));refine jA _ rfl a _ dx _ _ rfl (q _ _ e) (vc T o) (Cp T o) (by walk_at"lk") ?_;refine kK (W H1 v y (ob2.imp q) Y.deep) ?_;rintro I C' f m X L i g c rfl G ⟨D,J,M,N,O,C,U⟩;refine jq I C' f m (lC X L i g c rfl G D J M N (hr.mono (by lia)) C (gZ _ rfl _ rfl (U H1 d l r lk _ (A0m.refl _) (Y.same q) λp2 S H2 a3 z h2 Z=>?_)));have l1:=Paired.length r1;have l2:=Paired.length Z;refine jo p1 p2 _ _ rfl rfl (z _ _ h1) h2 (jV (by lia)) λp B=>?_;have s3:=q.trans (z.trans (gu (o:=.lst (R++S)) B));exact k p _ _ (q.free (z.free B)) s3 ck (Paired.app (r1.same (z.trans (gu B))) (Z.same (gu B)))
theorem Ke(T:Txt K mg t)(W:ROk P w K mg base t n):A4u P w K mg base iS (n+4) t.aW t.c0 mW (si t (n+1) λu=>∃x lo hi l r,u=.guard x lo hi l r):=by
 have G:=@Kz P w K mg base t T;refine T.b_.F.ok Kb λ_ A _ s H _ Q E S h=>?_
 ·refine jk h ?_;clear h;rintro v u d l m Y ⟨rfl,⟨x,lo,hi,y,z,rfl⟩,Z,o,k⟩
  cases Z with
  |@guard a dx _ _ _ u v _ _ e ob1 ob2=>
   refine rsq (ev (gF (pT (pT (pv 0) (eH 1)) (bp (pv 1) (eH 2))))) ?_
   refine⟨_,rfl,a,_,dx,_,2,t.aB,t.aU,_,_,rfl,e,T.ae,T.c8,(by walk_at"lk"),G,S.mono (by lia),T.ay.b,_,rfl,
    a,dx,d,x,lo,hi,u,v,m,rfl,e,o.gat (A0m.refl _),λc=>?_,λc=>?_⟩
   ·obtain⟨q,I⟩:=o.inner c;rw[I]at k;refine kK (W H u y ob1 q.deep) ?_;rintro J C' g p X M j i f rfl D ⟨C,L,N,O,R,B,U⟩;exact jq J C' g p (lC X M j i f rfl D C L N O (S.mono (by lia)) B (gZ _ rfl _ rfl (U H d l m Y _ (A0m.refl _) q k)))
   ·obtain⟨q,I⟩:=o.outer c;rw[I]at k;refine kK (W H v z ob2 q.deep) ?_;rintro J C' g p X M j i f rfl D ⟨C,L,N,O,R,B,U⟩;exact jq J C' g p (lC X M j i f rfl D C L N O (S.mono (by lia)) B (gZ _ rfl _ rfl (U H d l m Y _ (A0m.refl _) q k)))
theorem rok(T:Txt K mg t):∀n:Nat,ROk P w K mg base t n
 |0=>λH v u g i=>absurd i (by have:=D6 u;lia)
 |n+1=>λH v u g i=>by
  have W:=rok T n
  cases id g with
  |num e=>exact jq _ _ _ _ (lC _ _ _ _ _ rfl e T.cG T.cV (by walk_at"lk") (Ko T (n+1)) (by lia) T.bN.b λh d l c f Q s a k=>(iA _ _ (jP d l c f rfl ⟨_,rfl⟩ (g.imp s) a k)))
  |read e r=>exact jq _ _ _ _ (lC _ _ _ _ _ rfl e T.bT T.dA (by walk_at"lk") (JF T (n+1)) (by lia) T.cE.b λh d l c f Q s a k=>(iA _ _ (jP d l c f rfl (iA _ _ rfl) (g.imp s) a k)))
  |@pair _ _ o _ _ _ _ e o1 o2=>exact jq _ _ _ _ (lC _ _ _ _ _ rfl e (vc T o) (CY T o) (by walk_at"lk") (JN T W) (by lia) T.cF.b λh d l c f Q s a k=>(iA _ _ (jP d l c f rfl ⟨_,(iA _ _ rfl)⟩ (g.imp s) a k)))
  |guard e o1 o2=>exact jq _ _ _ _ (lC _ _ _ _ _ rfl e T.ae T.dq (by walk_at"lk") (Ke T W) (by lia) T.b_.b λh d l c f Q s a k=>(iA _ _ (jP d l c f rfl ⟨_,(jq _ _ _ _ rfl)⟩ (g.imp s) a k)))
structure LnM where
 nm:Str
 own:zC
 sums:zC
 tm:Tm
def B2d(A:Adr)(M:zQ)(H:Hp)(v:V)(e:LnM):Prop:=∃(a d c u:zW)(n:V),v=.ref a/\H a=some (.ins A.ac d [("name",.str e.nm),("axes",.ref c),("sums",.ref u),("term",n)])/\c∉M/\H c=some (.lst (e.own.map V.str))/\u∉M/\H u=some (.lst (e.sums.map V.str))/\Ob A (iW (λb=>b∉M) H) n e.tm
abbrev ti(A:Adr)(M:zQ)(H:Hp)(xs:zM)(rows:List LnM):Prop:=Paired (B2d A M H) xs rows
theorem B2d.same{e:LnM}(h:B2d A M H v e)(s:A0m H H'):B2d A M H' v e:=by refine ko h ?_;clear h;rintro a i c u n rfl g d f ⟨j,k,b⟩;exact kj a i c u n rfl (s _ _ g) d (s _ _ f) j (s _ _ k) (b.imp (ni s))
structure StM where
 k:Nat
 wd:Str
 ce:zI
 tu:zI
def sr(H:Hp)(v:V)(s:StM):Prop:=∃b c u,v=.ref b/\H b=some (.tup [.int (s.k:Nat),.str s.wd,.ref c,.ref u])/\H c=some (.tup (s.ce.map V.int))/\H u=some (.tup (s.tu.map V.int))
def atM(e:LnM)(s:StM):zJ:=ip [] (((e.own++e.sums).map (Sum.inr:Str->Key)).zip ((s.ce++s.tu).map V.int))
structure qP(lk:zJ)(e:LnM)(s:StM):Prop where
 lc:s.ce.length=e.own.length
 lt:s.tu.length=e.sums.length
 l8:e.own.length+e.sums.length<=8
 good:Gd e.tm
 deep:dep e.tm<=10
 at_:wR (atM e s) e.tm
 ax:∃AX,Axs AX e.tm/\xu AX lk
 most:(rd (ai lk) e.tm (ai (atM e s))).length<=100000
def Ik(A:Adr):Sp:=λi H Q _=>∃(p m l a j g o d:zW)(h:Int)(c:zJ)(f:zM)(M:zQ)(b:List LnM)(e:LnM)(s:StM),i=[.ref p,.ref d]/\H p=some (clo A m h l a j g o)/\H l=some (.dK c)/\H g=some (.lst f)/\ti A M H f b/\sr H (.ref d) s/\b[s.k]?=some e/\
 (s.wd="start"->RdQ H [] Q)/\(s.wd≠"start"->qP c e s/\RdQ H (rd (ai c) e.tm (ai (atM e s))) Q)
def JS(A:Adr):Sp:=λi H Q _=>∃(p m l a j g o d:zW)(h:Int)(f:zM)(M:zQ)(b:List LnM)(e:LnM)(s:StM),i=[.ref p,.ref d]/\H p=some (clo A m h l a j g o)/\H g=some (.lst f)/\ti A M H f b/\sr H (.ref d) s/\b[s.k]?=some e/\
 ∀(q:zW)(c:Hp),A0m H c->D2b c (.ref q) (e.nm,s.ce)->Q (.ref q) c
theorem zj(acc:zJ):∀a:zJ,(ip acc a).length<=acc.length+a.length:=by
 intro a;unfold ip
 induction a generalizing acc with
 |nil=>simp
 |cons w r ih=>
  rw[List.foldl_cons];refine jT (ih _) ?_;have:=oQ acc w.1 w.2;rw[je]
  lia
theorem ww(T:Txt K mg t):FO P w base T.av 1 (JS t):=by
 refine T.av.F.ok rH λ_ A _ s H _ Q E hr h=>?_
 ·refine oR h ?_;clear h;rintro p L l a tb X o S Y j M D e m ⟨rfl,U,y,f,⟨b,c,u,I,G,J,hu⟩,C,k⟩;cases I;have v:=Paired.length f;have r:m.k<j.length:=by rw[v];exact(gG.mp C).1
  have g:j[m.k]?=some j[m.k]:=gM r;obtain⟨e',d,z,N,ca,Z,n,x,O,_⟩:=iH f g;rw[C]at d;cases d;refine rsq (dV ⟨nG (pv 1) (lH (n:=4) rfl (iw (gw (i:=2) rH.nd) (iw (gw (i:=3) rH.nd) (iw (gw (i:=4) rH.nd) (iw (gw (i:=5) rH.nd) lJ)))))⟩ (ev (gF (jJ (bp (lj (hG iQ (lj (pv 0) rfl) (pv 2)) rfl) (eH 4)))))) ?_;refine bd _ rfl (lD S _ rfl (SqT.of G) rfl _ _ rfl _ _ rfl ⟨_,(gB _ rfl _ _ rfl rfl ?_)⟩);have W:atI j ((m.k:Nat):Int)=some (.ref z):=gH (by rw[g,x]);refine jA _ rfl p _ L _ _ rfl U T.aw T.aM (by walk_at"lk") (i12 _ rfl X _ _ _ rfl rfl (SqL.of y) W (lP z _ N _ _ rfl O T.aL T.cn (by walk_at"lk") (eh _ rfl (gI rfl) λq R=>?_)));have B:=gu (o:=.tup [.str e.nm,.ref c]) R;exact k q _ B (eu q c rfl ck (B _ _ J))
theorem HJ(T:Txt K mg t):FO P w base T.cI 15 (Ik t):=by
 refine T.cI.F.ok pW λ_ A _ s H _ Q E hr h=>?_
 ·refine oR h ?_;clear h;rintro p dx l a tb ln o st wh lk L M b0 e ⟨f,rfl,hp,hl,Z,C,⟨b,c,u,eb,hb,hc,hu⟩,hk,k1,k2⟩;cases eb;have a5:=Paired.length C;have a3:f.k<L.length:=by rw[a5];exact(gG.mp hk).1
  have x:L[f.k]?=some L[f.k]:=gM a3;obtain⟨e',y,J,S,ca,cu,n,a9,h1,m1,h2,m2,h3,ob⟩:=iH C x;rw[hk]at y;cases y;refine rsq (dV ⟨nG (pv 1) (lH (n:=4) rfl (iw (gw (i:=2) pW.nd) (iw (gw (i:=3) pW.nd) (iw (gw (i:=4) pW.nd) (iw (gw (i:=5) pW.nd) lJ)))))⟩ (dV (gU (iu kS (pv 3) jK) (ev (gF (@iJ _ _ _ _ ec))) ⟨gR⟩) (dV (gy 6 pW.nd (hG iQ (lj (pv 0) rfl) (pv 2))) (dV (gy 7 pW.nd (HE rfl (by rfl) T.de (by rfl) T.fS (bp (ff nD (lj (pv 6) rfl) (lj (pv 6) rfl)) (bp (ff tK (pv 4) (pv 5)) ec)))) (ev (gF (pT (lj (pv 6) rfl) (bp (pv 7) (bp (lj (pv 0) rfl) ec))))))))) ?_;refine bd _ rfl (lD st _ rfl (SqT.of hb) rfl _ _ rfl _ _ rfl ⟨_,(gB _ rfl _ _ rfl rfl ?_)⟩);refine kJ _ rfl rfl _ rfl (iD (λv=>?_) (λv=>?_))
  ·have v:f.wd="start":=by injection v
   exact⟨gI rfl,λq hq=>k1 v q [] _ hq (gu hq) ck .nil⟩
  have v:f.wd≠"start":=λz=>v (by rw[z]);obtain⟨g,kq⟩:=k2 v;have e0:atI L ((f.k:Nat):Int)=some (.ref J):=gH (by rw[x,a9]);refine jA _ rfl p _ dx _ _ rfl hp T.aw T.aM (by walk_at"lk") (i12 _ rfl ln _ _ _ rfl rfl (SqL.of Z) e0 ?_);have lc:=g.lc;have lt:=g.lt;have l8:=g.l8;refine jA _ rfl J _ S _ _ rfl h1 T.aL T.cB (by walk_at"lk") (jA _ rfl J _ S _ _ rfl h1 T.aL T.cC (by walk_at"lk") (jo ca cu _ _ rfl rfl h2 h3 (jV (by rw[dm,dm];lia)) λB R=>?_));have N:A0m H (upd H B (.lst (e.own.map V.str++e.sums.map V.str))):=gu R;have m:upd H B (.lst (e.own.map V.str++e.sums.map V.str)) B=some (.lst ((e.own++e.sums).map V.str)):=by rw[ck,gN]
  generalize upd H B (.lst (e.own.map V.str++e.sums.map V.str))=H1 at N m⊢;refine kU _ rfl _ rfl c u _ _ rfl rfl (N _ _ hc) (N _ _ hu) (jV (by rw[dm,dm];lia)) λtt G s2 r=>?_;have r:G tt=some (.tup ((f.ce++f.tu).map V.int)):=by rw[gN];exact r
  have a6:=N.trans s2;refine jP B tt ((e.own++e.sums).map (Sum.inr:Str->Key)) ((f.ce++f.tu).map V.int) rfl (by rw[List.map_map];exact SqL.of (s2 _ _ m)) (SqT.of r) (by rw[dm,dm,ic,ic];lia) λd hd=>?_;have t3:A0m G (upd G d (.dK (ip [] (((e.own++e.sums).map (Sum.inr:Str->Key)).zip ((f.ce++f.tu).map V.int))))):=gu hd;have D:upd G d (.dK (ip [] (((e.own++e.sums).map (Sum.inr:Str->Key)).zip ((f.ce++f.tu).map V.int)))) d=some (.dK (atM e f)):=ck;have j:=a6.trans t3;generalize upd G d (.dK (ip [] (((e.own++e.sums).map (Sum.inr:Str->Key)).zip ((f.ce++f.tu).map V.int))))=G3 at t3 D j⊢;refine jA _ rfl J _ S _ _ rfl (j _ _ h1) T.aL T.cA (by walk_at"lk") ?_;have W:Ob t G3 n e.tm:=(ob.imp GO).imp j;refine kK (rok (P:=P) (w:=w) (base:=base) T 10 G3 n e.tm W g.deep) ?_;rintro a' C' O Y k' f' a4 a2 a0 rfl e' ⟨c',m',l',F',b1,b',q'⟩;have I:=zj [] (((e.own++e.sums).map (Sum.inr:Str->Key)).zip ((f.ce++f.tu).map V.int));rw[List.length_zip,dm,dm,ic]at I;refine jq a' C' O Y (kj k' f' a4 a2 a0 rfl e' c' m' l' F' (jL (hr.mono (by lia)) b' _ rfl (jA _ rfl p _ dx _ _ rfl (j _ _ hp) T.aw T.ba (by walk_at"lk") (q' G3 d l (atM e f) lk _ (A0m.refl _) ⟨g.good,g.deep,D,g.at_,j _ _ hl,g.ax,?_,g.most⟩ λp1 a8 U X a1 a7 r1=>kq p1 a8 U (j.free X) (j.trans a1) a7 r1))));show(atM e f).length+10<=1000;unfold atM;simp only [mQ]at I
  lia
open PySem L2 SA
def A6j(H:Hp)(v:V)(s:Stp):Prop:=∃b c u,v=.ref b/\H b=some (.tup [.int s.1,.str s.2.1,.ref c,.ref u])/\H c=some (.tup (s.2.2.1.map V.int))/\H u=some (.tup (s.2.2.2.map V.int))
theorem A6j.kt(h:A6j H v s)(k:KT H H'):A6j H' v s:=by refine gW h ?_;clear h;rintro b c u rfl a e d;exact iE b c u rfl (k _ _ a) (k _ _ e) (k _ _ d)
abbrev A5u(H:Hp)(xs:zM)(os:List Stp):Prop:=Paired (A6j H) xs os
theorem A5u.kt(h:A5u H xs os)(k:KT H H'):A5u H' xs os:=Paired.mapP h λ_ _ z=>z.kt k
theorem Cl(h:D2b H v r):∃b,v=.ref b/\A2v H (SN.nkR r) b:=by obtain⟨p,q,rfl,a,c⟩:=h;refine bd p rfl (wl a ?_);rw[List.map_map];exact c
theorem D2b.keep(h:D2b H v r)(k:KT H H'):D2b H' v r:=by obtain⟨p,q,e,a,b⟩:=h;exact eu p q e (k _ _ a) (k _ _ b)
def toM(s:Stp):StM:=⟨s.1.toNat,s.2.1,s.2.2.1,s.2.2.2⟩
theorem A6j.toM(h:A6j H v s)(h0:0<=s.1):sr H v (toM s):=by refine gW h ?_;clear h;rintro b c u rfl a e d;refine iE b c u rfl ?_ e d;show H b=some (.tup [.int ((s.1.toNat:Nat):Int),.str s.2.1,.ref c,.ref u]);rw[Int.toNat_of_nonneg h0];exact a
def rdS(lk:zJ)(rows:List LnM)(s:Stp):List Spt:=if s.2.1="start" then []else match rows[s.1.toNat]? with|some e=>rd (ai lk) e.tm (ai (atM e (toM s)))|none=>[]
def wrS(rows:List LnM)(s:Stp):Spt:=match rows[s.1.toNat]? with|some e=>(e.nm,s.2.2.1)|none=>("",s.2.2.1)
structure sH(lk:zJ)(rows:List LnM)(s:Stp):Prop where
 pos:0<=s.1
 ask:∃e,rows[s.1.toNat]?=some e/\(s.2.1≠"start"->qP lk e (toM s))
 few:(rdS lk rows s).length<=4
theorem rdq{sp:Stp}{e:LnM}(d:rows[sp.1.toNat]?=some e)(b:sp.2.1≠"start"->qP lk e (toM sp))(h:RdQ H (rdS lk rows sp) Q):
  ((toM sp).wd="start"->RdQ H [] Q)/\((toM sp).wd≠"start"->qP lk e (toM sp)/\RdQ H (rd (ai lk) e.tm (ai (atM e (toM sp)))) Q):=by
 refine⟨λa=>?_,λa=>⟨b a,?_⟩⟩
 ·have z:rdS lk rows sp=[]:=dn a
  rwa[z]at h
 ·have z:rdS lk rows sp=rd (ai lk) e.tm (ai (atM e (toM sp))):=by
   have c:sp.2.1≠"start":=a;unfold rdS;rw[dh c,d]
  rwa[z]at h
abbrev Mrk:=Str×Spt
def mkK(m:Mrk):gz:=[.inl (.inr m.1),.inl (.inr m.2.1),.inr (m.2.2.map Sum.inl)]
theorem EQ{a b:Mrk}(h:mkK a=mkK b):a=b:=by obtain⟨i,d,c⟩:=a;obtain⟨g,e,f⟩:=b;unfold mkK at h;injection h with h1 h2;injection h1 with h1;injection h1 with h1;injection h2 with h2 h3;injection h2 with h2;injection h2 with h2;injection h3 with h3 _;injection h3 with h3;dsimp only at h1 h2 h3;rw[h1,h2,(List.map_inj_right λa b q=>by injection q).mp h3]
def D6t(H:Hp)(v:V)(m:Mrk):Prop:=∃b c,v=.ref b/\H b=some (.tup [.str m.1,.str m.2.1,.ref c])/\H c=some (.tup (m.2.2.map V.int))
theorem D6t.kt(h:D6t H v m)(k:KT H H'):D6t H' v m:=by obtain⟨b,c,e,a,d⟩:=h;exact eu b c e (k _ _ a) (k _ _ d)
theorem D6t.nest(h:D6t H v m):∃b,v=.ref b/\A2v H (mkK m) b:=by obtain⟨b,c,rfl,d,a⟩:=h;refine bd b rfl (IH d ?_);rw[List.map_map];exact a
abbrev B9o(H:Hp)(xs:zM)(a:List Mrk):Prop:=Paired (D6t H) xs a
theorem B9o.kt{ms:List Mrk}(h:B9o H xs ms)(k:KT H H'):B9o H' xs ms:=Paired.mapP h λ_ _ z=>z.kt k
def lG(rows:List LnM)(s:Stp):List Mrk:=if s.2.1=("start":Str)then [("whole",wrS rows s),("begun",wrS rows s)]else [("whole",wrS rows s)]
def nE(rows:List LnM)(s:Stp)(zs:List Spt):List Mrk:=(zs.map λr=>(("whole":Str),r))++if s.2.1=("add":Str)then [(("begun":Str),wrS rows s)]else []
structure ClO(A:Adr)(H:Hp)(p:zW)(lk:zJ)(rows:List LnM):Prop where
 ex:∃(dx l a tb ln o:zW)(wh:Int)(xs:zM)(M:zQ),H p=some (clo A dx wh l a tb ln o)/\H l=some (.dK lk)/\H ln=some (.lst xs)/\ti A M H xs rows
theorem ClO.same(h:ClO A H p lk rows)(s:A0m H H'):ClO A H' p lk rows:=by refine kK h.ex ?_;rintro f l a d c o k e M b j ⟨g,i⟩;exact⟨f,l,a,d,c,o,k,e,M,s _ _ b,s _ _ j,s _ _ g,Paired.mapP i λ_ _ z=>z.same s⟩
def CB(A:Adr):Sp:=λf H Q _=>∃(p d:zW)(c:zJ)(a:List LnM)(s:Stp),f=[.ref p,.ref d]/\ClO A H p c a/\A6j H (.ref d) s/\sH c a s/\
 ∀(D:zW)(e:zM)(b:Hp),H D=none->A0m H b->b D=some (.lst e)->B9o b e (lG a s)->Q (.ref D) b
def Cu(A:Adr):Sp:=λg H Q _=>∃(p e:zW)(d:zJ)(a:List LnM)(s:Stp),g=[.ref p,.ref e]/\ClO A H p d a/\A6j H (.ref e) s/\sH d a s/\
 ∀(c:List Spt)(D:zW)(f:zM)(b:Hp),c.length<=4->c.Nodup->(∀r,r∈c↔r∈rdS d a s)->H D=none->A0m H b->b D=some (.lst f)->B9o b f (nE a s c)->Q (.ref D) b
def toI:V->Int|.int n=>n|_=>0
theorem yq:∀a:zI,(a.map V.int).map toI=a| []=>rfl|n::r=>by rw[ik,ik,yq r];rfl
def kO(H:Hp):V->Spt
 |.ref b=>(match H b with|some (.tup [.str x,.ref c])=>(match H c with|some (.tup xs)=>(x,xs.map toI)|_=>(x,[]))|_=>("",[]))
 |_=>("",[])
theorem qX(h:D2b H v r):kO H v=r:=by
 obtain⟨p,q,rfl,a,b⟩:=h
 show(match H p with|some (.tup [.str x,.ref c])=>(match H c with|some (.tup xs)=>(x,xs.map toI)|_=>(x,[]))|_=>("",[]))=r
 rw[a];show(match H q with|some (.tup xs)=>(r.1,xs.map toI)|_=>(r.1,[]))=r
 rw[b];show(r.1,(r.2.map V.int).map toI)=r;rw[yq]
theorem JI(T:Txt K mg t):FO P w base T.be 2 (CB t):=by
 refine T.be.F.ok wv λ_ A _ s H _ Q E hr h=>?_
 ·refine ko h ?_;clear h;rintro p st lk r B rfl cl L ok k;refine kK cl.ex ?_;rintro dx l a tb ln o wh xs M hp hl ⟨S,W⟩;obtain⟨e,g,a1⟩:=ok.ask;have ew:wrS r B=(e.nm,B.2.2.1):=by unfold wrS;rw[g]
  refine gW (id L) λb c u eb hb hc a0=>?_;cases eb;refine rsq (dV ⟨nG (pcl (ww T) hr T.av (bp (pv 0) (eH 1))) (lH (n:=2) rfl (iw (gw (i:=2) wv.nd) (iw (gw (i:=3) wv.nd) lJ)))⟩ (dV (gU (pkd 1) (ev (gF (@iJ _ _ _ _ (bp (jJ (bp jK (bp (pv 2) (eH 3)))) (bp (jJ (bp jK (bp (pv 2) (eH 3)))) ec))))) ⟨gR⟩) (ev (gF (@iJ _ _ _ _ (bp (jJ (bp jK (bp (pv 2) (eH 3)))) ec)))))) ?_;refine kn _ rfl _ rfl p dx l a tb (jq ln o st wh (kj xs M r e (toM B) rfl hp S W (L.toM ok.pos) g λq G C tr=>?_));obtain⟨q1,y,eq,g1,O⟩:=tr;cases eq;refine lD q _ rfl (SqT.of g1) rfl _ _ rfl _ _ rfl ⟨rfl,?_⟩;refine i12 _ rfl st _ _ _ rfl rfl (SqT.of (C _ _ hb)) (gH (j:=1) rfl) (iB rfl _ rfl (iD (λv=>?_) (λv=>?_)))
  ·have v:B.2.1=("start":Str):=by injection v
   refine jv _ rfl _ rfl (gI rfl) λJ x=>?_;obtain⟨Y,m,X,d⟩:=nH (o:=.tup [.str "whole",.str e.nm,.ref y]) x;rw[d];refine jv _ rfl _ rfl (gI rfl) λm2 R=>?_;obtain⟨Z,I,g4,d⟩:=nH (o:=.tup [.str "begun",.str e.nm,.ref y]) R;rw[d];refine⟨gI rfl,λD N=>?_⟩;have f:A0m Z (upd Z D (.lst [.ref J,.ref m2])):=gu N;have U:=C.trans (m.trans (I.trans f));refine k D _ _ ((C.trans (m.trans I)).free N) U ck ?_;unfold lG;rw[dn v,ew];exact .cons (eu J y rfl (f _ _ (I _ _ X)) (f _ _ (I _ _ (m _ _ O)))) (.cons (eu m2 y rfl (f _ _ g4) (f _ _ (I _ _ (m _ _ O)))) .nil)
  ·have v:¬B.2.1=("start":Str):=λz=>v (by show V.str B.2.1=V.str "start";rw[z]);refine jv _ rfl _ rfl (gI rfl) λJ x=>?_;obtain⟨Y,m,X,d⟩:=nH (o:=.tup [.str "whole",.str e.nm,.ref y]) x;rw[d];refine⟨gI rfl,λD N=>?_⟩;have f:A0m Y (upd Y D (.lst [.ref J])):=gu N;refine k D _ _ ((C.trans m).free N) (C.trans (m.trans f)) ck ?_;unfold lG;rw[dh v,ew];exact .cons (eu J y rfl (f _ _ X) (f _ _ (m _ _ O))) .nil
theorem Ku(T:Txt K mg t):FO P w base T.aJ 16 (Cu t):=by
 refine T.aJ.F.ok uj λ_ A _ s H _ Q E hr h=>?_
 ·refine ko h ?_;clear h;rintro p st lk d sp rfl cl U ok k;refine kK cl.ex ?_;rintro dx l a tb ln o wh xs M hp hl ⟨a1,a2⟩;obtain⟨e,m,a8⟩:=ok.ask;have ew:wrS d sp=(e.nm,sp.2.2.1):=by unfold wrS;rw[m]
  refine gW (id U) λb c u eb hb hc b4=>?_;cases eb;refine rsq (dV ⟨vw (i₀:=4) (N':=["array","cell"]) (ix:=(List.replicate 2 none)) (g:=sB K 2 (pI (nC 0) (pI (nC 1) rY))) uj.nd rfl (.inl rfl) rfl (mI rfl (by decide+kernel) (by decide+kernel)) (mH rfl) (kH (SN.pe_sortedSetp (k:=0) (hr.mono (by lia)) (by rfl) T.fq (by rfl) T.fZ (bp (pcl (HJ T) hr T.cI (bp (pv 0) (eH 1))) ec))) (λ_ _ _ _=>(lH (n:=2) rfl (iw (gw (i:=0) AU) (iw (gw (i:=1) AU) lJ)))) (λ_ _ _ _=>(jJ (bp jK (bp (pv 0) (eH 1)))))⟩ (pB (gU (pkd 1) (dV ⟨nG (pcl (ww T) hr T.av (bp (pv 0) (eH 1))) (lH (n:=2) rfl (iw (gw (i:=2) uj.nd) (iw (gw (i:=3) uj.nd) lJ)))⟩ (ev ⟨lA (lh kY mr mq mi (pv 4) (bp (jJ (bp jK (bp (pv 2) (eH 3)))) ec))⟩)) ⟨gR⟩) (ev (gF (pv 4))))) ?_;refine kn _ rfl _ rfl p dx l a tb (jq ln o st wh (nM lk xs M d e (toM sp) rfl hp hl a1 a2 (U.toM ok.pos) m ?_));refine rdq m a8 λq B G hq s1 g1 R=>?_;have b2:=ok.few;have a9:=Paired.length R
  have ky:∀y∈B,D2b G y (kO G y)/\kO G y∈rdS lk d sp:=λy hy=>by obtain⟨i,hi⟩:=List.getElem?_of_mem hy;obtain⟨r,J,tr⟩:=iH R hi;rw[qX tr];exact⟨tr,gJ J⟩
  refine iL q B (kO G) rfl (SqL.of g1) (by lia) (λy hy=>Cl (ky y hy).1) λv lz hz nd a5 O a7=>?_;have s2:A0m G (upd G O (.lst v)):=gu a7;have g2:upd G O (.lst v) O=some (.lst v):=ck;have kz:∀z∈v,D2b (upd G O (.lst v)) z (kO G z):=λz N=>(ky z (hz z N)).1.keep (KT.same s2)
  have set:∀r,r∈v.map (kO G)↔r∈rdS lk d sp:=λr=>by
   constructor
   ·intro h;obtain⟨z,N,rfl⟩:=gS.mp h;exact(ky z (hz z N)).2
   ·intro h;obtain⟨i,hi⟩:=List.getElem?_of_mem h;have b0:i<B.length:=by rw[a9];exact(gG.mp hi).1
    have hy:B[i]?=some B[i]:=gM b0;obtain⟨r',J,tr⟩:=iH R hy;rw[hi]at J;cases J;have:=a5 _ (gJ hy)
    rwa[qX tr]at this
  generalize upd G O (.lst v)=G2 at s2 g2 kz⊢;refine eh O rfl ⟨_,SqL.of g2⟩ λD hD=>?_;have a3:=s1.trans s2;have D0:H D=none:=a3.free hD;refine oP (K:=K) (a:=O) (xs:=v) (D:=D) (λi B G3=>A0m G2 G3/\G3 D=some (.lst B)/\B.length=i/\B9o G3 B (((v.map (kO G)).take i).map λr=>(("whole":Str),r))) (jx (gu hD) ck rfl .nil) (λi B G3 q=>SqL.of (q.1 _ _ g2)) ?_ ?_
  ·rintro i x C G3 hx ⟨s3,h3,ly,m3⟩;have a6:=gJ hx;have b3:=(gG.mp hx).1;obtain⟨b1,c1,rfl,f1,f2⟩:=kz x a6;refine lD b1 _ rfl (SqT.of (s3 _ _ f1)) rfl _ _ rfl _ _ rfl (fI rfl True.intro (jv _ rfl _ rfl (gI rfl) λu1 Y=>?_));obtain⟨G4,I,f3,L⟩:=nH (o:=.tup [.str "whole",.str (kO G (.ref b1)).1,.ref c1]) Y;rw[L];have h4:=I _ _ h3;have S:KT G4 (upd G4 D (.lst (C++[.ref u1]))):=KT.at h4 (by intro xs z;cases z);refine jd h4 (hV (by lia)) (gT (s3.trans I) hD) ck (by simp[ly]) ?_;have e1:(v.map (kO G)).take (i+1)=(v.map (kO G)).take i++[kO G (.ref b1)]:=by rw[iN,iG,hx];rfl
   rw[e1,gN];exact lb ((m3.kt (KT.same I)).kt S) (.cons (eu u1 c1 rfl (S _ _ f3) (S _ _ (I _ _ (s3 _ _ f2)))) .nil)
  ·rintro C G3 ⟨s3,h3,ly,m3⟩;rw[nN (by rw[dm];lia)]at m3;have f:=a3.trans s3;refine bd (λZ X=>∃(o2 o3:zP)(xs:zM),Z=[Sro p,Sro st,o2,o3,Sro D]/\A0m H X/\X D=some (.lst xs)/\B9o X xs (nE d sp (v.map (kO G)))) ?_ ?_
   ·refine i12 _ rfl st _ _ _ rfl rfl (SqT.of (f _ _ hb)) (gH (j:=1) rfl) (iB rfl _ rfl (iD (λW=>?_) (λW=>?_)))
    ·have W:sp.2.1=("add":Str):=by injection W
     have a0:=U.kt (KT.same f);refine kn _ rfl _ rfl p dx l a tb (jq ln o st wh (kj xs M d e (toM sp) rfl (f _ _ hp) (f _ _ a1) (Paired.mapP a2 λ_ _ z=>z.same f) (a0.toM ok.pos) m λq2 G4 I tr=>?_));obtain⟨q3,c3,eq,f1,f2⟩:=tr;cases eq;refine lD q2 _ rfl (SqT.of f1) rfl _ _ rfl _ _ rfl ⟨rfl,?_⟩;refine eh _ rfl (.inl (iU rfl _ (SqL.of (I _ _ h3)))) (jv _ rfl _ rfl (gI rfl) λu1 Y=>?_);obtain⟨G5,s5,f3,L⟩:=nH (o:=.tup [.str "begun",.str e.nm,.ref c3]) Y;rw[L];have h5:=s5 _ _ (I _ _ h3);have S:KT G5 (upd G5 D (.lst (C++[.ref u1]))):=KT.at h5 (by intro xs z;cases z);refine iL D _ _ rfl rfl h5 (hV (by lia)) (iE _ _ _ rfl (gT (f.trans (I.trans s5)) D0) ck ?_);unfold nE;rw[dn W,ew];exact lb ((m3.kt (KT.same (I.trans s5))).kt S) (.cons (eu u1 c3 rfl (S _ _ f3) (S _ _ (s5 _ _ f2))) .nil)
    ·have W:¬sp.2.1=("add":Str):=λz=>W (by show V.str sp.2.1=V.str "add";rw[z]);refine iE _ _ C rfl f h3 ?_;unfold nE;rw[dh W,lU];exact m3
   ·rintro Z X zz;refine gW zz ?_;clear zz;rintro o2 o3 a4 rfl sX hX mX;exact bd _ rfl (k _ D a4 X (by rw[dm];exact lz) nd set D0 sX hX mX)
def xa(C:zW)(m k l j:Str):Sp:=λn H Q _=>∃(a g:zW)(h e f i:V),n=[.ref a,h,e,f,i]/\H a=some (xcN a C g)/\
 ∀(d:zW)(c:Hp),H d=none->c a=some (xcD a C g d)->c d=some (.xd [(m,h),(k,e),(l,f),(j,i)])->(∀b,b≠a->b≠d->c b=H b)->Q .non c
theorem IS{i g f j:V}(n:∀dx H',A0m H H'->H' dx=some (.xd [("first",i),("second",g),("array",f),("cell",j)])->E (.ref C) (some dx) H'):∀ea ta,H ea=none->xa C "first" "second" "array" "cell" (.ref ea::([i,g,f,j]++[])) (upd H ea (xcN ea C ta)) (λv H2=>v=.non/\∃d,H2 ea=some (.ext λh=>h.get? ea=some (mD C ta d))/\E (.ref C) d (ma H2 ea)) E':=by
 intro ea ta q;refine jq ea ta i g (eu f j rfl ck λdx H' a l r p=>(iB rfl (some dx) l (n _ _ (λb o e=>?_) ?_)))
 ·have c:b≠ea:=gO e q
  have k:b≠dx:=λz=>by rw[<-z,dt c,e]at a;cases a
  rw[vE c,p b c k,dt c];exact e
 ·have m:dx≠ea:=λz=>by rw[z,ck]at a;cases a
  rw[vE m];exact r
theorem qx{a:zW}{kvs:List (gz×V)}(h:A9z P w sh H a kvs)(s:A0m H H'):A9z P w sh H' a kvs:=h.keeps (λ_ e=>s _ _ e) λ_ _ e=>s _ _ e
theorem ra{a:zW}{kvs:List (gz×V)}(h:A9z P w sh H a kvs):∃o,H a=some o/\(∀xs,o≠.tup xs)/\∀xs,o≠.lst xs:=by obtain⟨_,e,_⟩:=h;exact eh _ e (λ_ z=>(by cases z)) λ_ z=>(by cases z)
def MkN(m:Mrk):Prop:=m.1="whole"\/m.1="begun"
theorem Fa(rows:List LnM)(s:Stp):(lG rows s).length<=2:=by unfold lG;split<;>simp
theorem Aq(h:m∈nE rows s zs):MkN m:=by
 unfold nE at h;rcases jn.mp h with q|q
 ·obtain⟨r,_,rfl⟩:=gS.mp q;exact .inl rfl
 ·by_cases ha:s.2.1=("add":Str)
  ·rw[dn ha]at q;rw[gX.mp q];exact .inr rfl
  ·rw[dh ha]at q;cases q
theorem EV(h:m∈lG rows s):MkN m:=by
 unfold lG at h;split at h
 ·rcases gP.mp h with q|q
  ·rw[q];exact .inl rfl
  ·rw[gX.mp q];exact .inr rfl
 ·rw[gX.mp h];exact .inl rfl
def Nds(wr:Stp->Spt)(rd:Stp->List Spt)(x s:Stp):Prop:=wr x∈rd s\/(s.2.1=("add":Str)/\x.2.1=("start":Str)/\wr x=wr s)
theorem vM{x:Stp}:m∈lG rows x↔m=(("whole":Str),wrS rows x)\/(x.2.1=("start":Str)/\m=(("begun":Str),wrS rows x)):=by
 unfold lG;by_cases h:x.2.1=("start":Str)
 ·rw[dn h];simp[h]
 ·rw[dh h];simp[h]
theorem tX:m∈nE rows s zs↔(∃r∈zs,m=(("whole":Str),r))\/(s.2.1=("add":Str)/\m=(("begun":Str),wrS rows s)):=by
 unfold nE;rw[jn,gS];by_cases h:s.2.1=("add":Str)
 ·rw[dn h];simp only [gX,h,true_and];exact or_congr ⟨λ⟨r,a,b⟩=>(bd r a b.symm),λ⟨r,a,b⟩=>(bd r a b.symm)⟩ Iff.rfl
 ·rw[dh h];simp only [h,false_and,or_false,lS];exact⟨λ⟨r,a,b⟩=>(bd r a b.symm),λ⟨r,a,b⟩=>(bd r a b.symm)⟩
theorem Ai:(("whole":Str)=("begun":Str))=False:=by simp;decide
theorem DP{x:Stp}(c:∀r,r∈zs↔r∈rdS lk rows s)(h1:m∈lG rows x)(h2:m∈nE rows s zs):Nds (wrS rows) (rdS lk rows) x s:=by
 rcases vM.mp h1 with e|⟨f,e⟩
 ·rcases tX.mp h2 with ⟨r,b,a⟩|⟨_,a⟩
  ·rw[e]at a;injection a with _ a;exact .inl (by rw[a];exact(c r).mp b)
  ·rw[e]at a;injection a with a _;exact(cast Ai a).elim
 ·rcases tX.mp h2 with ⟨r,b,a⟩|⟨d,a⟩
  ·rw[e]at a;injection a with a _;exact(cast Ai a.symm).elim
  ·rw[e]at a;injection a with _ a;exact .inr (fI d f a)
theorem DR{x:Stp}(b:∀r,r∈zs↔r∈rdS lk rows s)(h:Nds (wrS rows) (rdS lk rows) x s):∃m,m∈lG rows x/\m∈nE rows s zs:=by
 rcases h with h|⟨d,c,a⟩
 ·exact bd _ (vM.mpr (.inl rfl)) (tX.mpr (.inl (bd _ ((b _).mpr h) rfl)))
 ·exact bd _ (vM.mpr (.inr ⟨c,rfl⟩)) (tX.mpr (.inr ⟨d,by rw[a]⟩))
def BhOk(rows:List LnM)(xs:zM)(os:List Stp)(lo:Nat)(kvs:List (gz×V)):Prop:=∀m,MkN m->(fC kvs (mkK m)=none/\∀j s,lo<=j->os[j]?=some s->m∉lG rows s)\/∃j s v,lo<=j/\os[j]?=some s/\xs[j]?=some v/\m∈lG rows s/\fC kvs (mkK m)=some v
def NoC(lk:zJ)(rows:List LnM)(os:List Stp)(lo:Nat):Prop:=∀i j s x,lo<=i->i<j->os[i]?=some s->os[j]?=some x->¬Nds (wrS rows) (rdS lk rows) x s
def sp_j(A:Adr):Sp:=λk H Q E=>∃(p h:zW)(e:zJ)(a:List LnM)(f:zM)(d:List Stp),k=[.ref p,.ref h]/\ClO A H p e a/\H h=some (.lst f)/\A5u H f d/\d.length<=300/\(∀s∈d,sH e a s)/\
 (NoC e a d 0->∀b,A0m H b->Q .non b)/\
 ∀(i j:Nat)(s x:Stp)(v u:V)(g c:zW)(b:Hp),i<j->d[i]?=some s->d[j]?=some x->f[i]?=some v->f[j]?=some u->Nds (wrS a) (rdS e a) x s->A0m H b->b g=some (.xd [("first",u),("second",v),("array",.str (wrS a x).1),("cell",.ref c)])->b c=some (.tup ((wrS a x).2.map V.int))->E (.ref A.a6) (some g) b
theorem JC(T:Txt K mg t):FP P w mg base T.bn 1 (xa t.a6 "first" "second" "array" "cell"):=by
 refine T.bn.F.ok JK λ_ A _ s H _ Q E r h=>?_
 ·refine jk h ?_;clear h;rintro a d j q p u ⟨rfl,m,k⟩;refine rsq (dV ⟨EW (pv 0) (pv 1) rfl⟩ (dV ⟨vF (pv 0) (pv 2) rfl⟩ (dV ⟨vF (pv 0) (pv 3) rfl⟩ (ev ⟨vF (pv 0) (pv 4) rfl⟩)))) (gZ _ rfl _ rfl (iE a _ d rfl m T.dl λc i=>?_));have e:a≠c:=λz=>by rw[z,i]at m;cases m
  have g:upd (upd H a (xcD a t.a6 d c)) c (.xd [("first",j)]) a=some (xcD a t.a6 d c):=by rw[dt e,ck]
  have n:upd (upd H a (xcD a t.a6 d c)) c (.xd [("first",j)]) c=some (.xd [("first",j)]):=ck;have o:∀b,b≠a->b≠c->upd (upd H a (xcD a t.a6 d c)) c (.xd [("first",j)]) b=H b:=λb l f=>by rw[dt f,dt l]
  generalize upd (upd H a (xcD a t.a6 d c)) c (.xd [("first",j)])=H1 at g n o⊢;refine gZ _ rfl _ rfl (kj a _ d c _ rfl g n (by simp) rfl T.cR ?_);refine gZ _ rfl _ rfl (kj a _ d c _ rfl (by rw[dt e];exact g) ck (by simp) rfl T.d9 ?_);refine gZ _ rfl _ rfl (kj a _ d c _ rfl (by rw[dt e,dt e];exact g) ck (by simp) rfl T.dC ?_);exact k c _ i (by rw[dt e,dt e,dt e];exact g) ck (λb l f=>by rw[dt f,dt f,dt f];exact o b l f)
theorem Fc(T:Txt K mg t):A4u P w K mg base (CXD P w) 17 t.fb t.f8 ["cloth","steps"] (sp_j t):=by
 refine T.cY.F.okD pw λ_ A _ s H _ Q E hr h=>?_
 ·refine ml h ?_;clear h;rintro p sl lk d xs os rfl clo a3 a9 d8 ⟨b3,kq,ke⟩;have hn:=uN hr;have lx:=Paired.length a9;refine rsq (dV (gy 2 pw.nd (Aw (sh:=[true,true,false]))) (ev ⟨qT PassesOwn.leaving rfl (vf rfl T.cg (eH 1)) (gw (i:=3) pw.nd) (@lK _ _ _ _ _ (qT PassesOwn.leaving rfl (kH (pcl (Ku T) hr T.aJ (bp (pv 0) (eH 3)))) (gw (i:=4) pw.nd) (@kf _ _ _ (@pJ _ _ _ _ _ _ _ _ (iu (CW hn) (pv 4) (pv 2) (by with_unfolding_all rfl)) (@lK _ _ _ _ _ (@oN _ _ 5 _ _ _ _ pw.nd rfl (.inl rfl) (yb hn (pv 2) (pv 4) (λ_ _=>rfl)) rfl (.inl rfl)) (@lK _ _ _ _ _ (nG (pcl (ww T) hr T.av (bp (pv 0) (eH 5))) (lH (n:=2) rfl (iw (gw (i:=6) pw.nd) (iw (gw (i:=7) pw.nd) lJ)))) (@kf _ _ _ (Gx EC T.ft (JC T) (hr.mono (by lia)) rfl T.f9 T.bn.b .nil nB rfl rfl (bp (pv 5) (bp (pv 3) (bp (pv 6) (eH 7)))))))) gR))) (@kf _ _ _ (qT PassesOwn.leaving rfl (kH (pcl (JI T) hr T.be (bp (pv 0) (eH 3)))) (gw (i:=4) pw.nd) (@kf _ _ _ (nG (pv 3) (sU (pv 2) (pv 4) (Ad hn)))))))⟩)) ?_;refine λBD o0 a8 J=>?_;have s1:A0m H (upd H BD o0):=gu a8;have J:A9z P w [true,true,false] (upd H BD o0) BD []:=J;generalize upd H BD o0=H1 at s1 J⊢;obtain⟨uB,eB,tB,lB⟩:=ra J;have d7:sl≠BD:=gO a3 a8;have I:∀{G:Hp},KB BD H1 G->A0m H G:=λN=>KB.same s1 N a8;refine gB _ rfl sl _ rfl (SqL.of (s1 _ _ a3)) ?_
  refine EH (K:=K) (a:=sl) (xs:=xs) (λi Z G=>∃(o3 o4 o5 o6 o7:zP)(e:List (gz×V)),Z=[Sro p,Sro sl,Sro BD,o3,o4,o5,o6,o7]/\KB BD H1 G/\A9z P w [true,true,false] G BD e/\BhOk d xs os (xs.length-i) e/\NoC lk d os (xs.length-i)/\e.length<=2*i)
   ⟨none,(lP none none none none [] rfl KB.refl J (λm _=>.inl ⟨rfl,λj s hj hs=>?_⟩) (λi j s x hi e9 hs _=>?_) (fa _))⟩ (by (rintro i Z G k;refine jk k ?_;clear k;rintro _ _ _ _ _ _ ⟨_,N,_⟩);exact SqL.of (N _ _ d7 (s1 _ _ a3))) ?_ ?_
  ·have:=(gG.mp hs).1;lia
  ·have:=(gG.mp hs).1;lia
  ·rintro i v Z G hi hv k;refine ml k ?_;clear k;rintro o3 o4 o5 o6 o7 e rfl N nd bh B d2;obtain⟨S,r,a5⟩:=iH a9 hv;have ok:=b3 S (gJ r);obtain⟨b0,_,_,rfl,_⟩:=id a5;have c2:xs.length-i=xs.length-1-i+1:=by lia
   have b1:xs.length-(i+1)=xs.length-1-i:=by lia
   rw[c2]at bh B;rw[b1];generalize xs.length-1-i=lo at hv r bh B;refine kn _ rfl _ rfl p b0 lk d S (iT rfl (clo.same (I N)) (a5.kt (KT.same (I N))) ok λzs MD c5 G2 e2 nz c0 e4 s2 a1 b6=>(eh MD rfl ⟨_,SqL.of a1⟩ ?_));have a6:=qx nd s2;have d5:=Paired.length b6
   refine nJ (K:=K) (a:=MD) (xs:=c5) (λq Z X=>∃(o4:zP),Z=[Sro p,Sro sl,Sro BD,Sro b0,o4,o5,o6,o7]/\X=G2/\∀m∈(nE d S zs).take q,fC e (mkK m)=none)
    (eh _ rfl rfl λm R=>by cases R) (λq Z X _ zq=>by obtain⟨_,_,z,_⟩:=zq;exact by rw[z];exact SqL.of a1) ?_ ?_
   ·rintro q mv Z X R ⟨d6,rfl,rfl,U⟩;obtain⟨m,C,O⟩:=iH b6 R;obtain⟨mb,rfl,na⟩:=O.nest;have mw:=gJ C;have mn:=Aq mw;refine kn _ rfl _ rfl BD mb _ e (mkK m) ⟨⟨rfl,rfl,a6,na,rfl⟩,?_⟩;rcases bh m mn with ⟨L,_⟩|⟨j,x,u,hj,hx,hu,hl,a0⟩
    ·refine bd false (by rw[L];rfl) (hB (eh _ rfl rfl λm' W=>?_));rw[iN,C,jR]at W;rcases jn.mp W with z|z
     ·exact U m' z
     ·rw[gX.mp z];exact L
    ·refine bd true (by rw[a0];rfl) (kC ?_);obtain⟨x',b9,b7⟩:=iH a9 hu;rw[hx]at b9;cases b9;obtain⟨bx,_,_,rfl,_⟩:=id b7;have b5:=b3 x (gJ hx);obtain⟨ex,c1,_⟩:=b5.ask;have y:=(I N).trans s2;refine kK ((clo.same y).ex) ?_;rintro dx l a tb ln oo wh ys M hp e6 ⟨c7,d3⟩;refine kn _ rfl _ rfl BD mb _ e (mkK m) (eh _ ⟨rfl,rfl,a6,na,rfl⟩ a0 ?_);refine kn _ rfl _ rfl p dx l a tb (jq ln oo bx wh (kj ys M d ex (toM x) rfl hp c7 d3 ((b7.kt (KT.same y)).toM b5.pos) c1 λwq Zz sZ tw=>?_));obtain⟨e8,wc,e1,c4,c6⟩:=tw;cases e1;have b4:wrS d x=(ex.nm,x.2.2.1):=by unfold wrS;rw[c1]
     refine lD wq _ rfl (SqT.of c4) rfl _ _ rfl _ _ rfl ⟨rfl,?_⟩;refine gZ _ rfl _ rfl (jv _ rfl _ rfl (gI rfl) (IS λc3 H' s' c8=>?_));refine ke lo j S x _ _ c3 wc H' (by lia) r hx hv hu (DP c0 hl mw) ((y.trans sZ).trans s') ?_ ?_
     ·rw[b4];exact c8
     ·rw[b4];exact s' _ _ c6
   rintro Z X ⟨d6,rfl,rfl,U⟩;rw[d5,iY]at U;have y:=(I N).trans s2;refine kn _ rfl _ rfl p b0 lk d S (iT rfl (clo.same y) (a5.kt (KT.same y)) ok λME d4 G3 e5 s3 D a2=>(eh ME rfl ⟨_,SqL.of D⟩ ?_));have b2:=qx a6 s3;have d0:=Paired.length a2;have e7:=Fa d S;obtain⟨u3,e3,t3,l3⟩:=ra b2;have MEB:ME≠BD:=iI D e3 (λz=>l3 _ z.symm)
   refine nJ (K:=K) (a:=ME) (xs:=d4) (λq Z X3=>∃(o4:zP)(f:List (gz×V)),Z=[Sro p,Sro sl,Sro BD,Sro b0,o4,o5,o6,o7]/\KB BD G3 X3/\A9z P w [true,true,false] X3 BD f/\f.length<=2*i+q/\∀m,MkN m->(m∈(lG d S).take q/\fC f (mkK m)=some (.ref b0))\/(m∉(lG d S).take q/\fC f (mkK m)=fC e (mkK m)))
    (iM _ e rfl KB.refl b2 (by lia) λm _=>.inr ⟨by simp,rfl⟩) (λq Z X3 _ zq=>by obtain⟨_,_,_,k3,_⟩:=zq;exact SqL.of (k3 _ _ MEB D)) ?_ ?_
   ·rintro q mv Z X3 R k;refine iq k ?_;clear k;rintro b8 f rfl k3 a7 d1 g;obtain⟨m,C,O⟩:=iH a2 R;have hq:=(gG.mp R).1;obtain⟨mb,rfl,na⟩:=(O.kt (k3.kt e3 t3)).nest;have mn:=EV (gJ C);have d9:=oQ f (mkK m) (V.ref b0);refine bd _ rfl (kn _ rfl _ rfl BD mb _ f (mkK m) (fI ⟨rfl,rfl,a7,na,rfl⟩ (hV (by lia)) λo c9=>?_));refine iM _ _ rfl k3.upd c9 (by lia) λm' W=>?_;rw[mG,iN,C,jR];by_cases em:m'=m
    ·rw[dn (by rw[em])];exact .inl ⟨by rw[em];simp,rfl⟩
    ·rw[dh λz=>em (EQ z)];exact(g m' W).imp (λ⟨h1,Y⟩=>⟨mT _ h1,Y⟩) λ⟨h1,Y⟩=>⟨λz=>(jn.mp z).elim h1 λz=>em (gX.mp z),Y⟩
   ·rintro Z X3 k;refine iq k ?_;clear k;rintro b8 f rfl k3 a7 d1 g;rw[d0,iY]at g;refine⟨_,(lP _ _ _ _ f rfl (((N.trans (KB.of s2)).trans (KB.of s3)).trans k3) a7 (λm R=>?_) (λi' j' s' x' h1 Y h3 h4 h5=>?_) (by lia))⟩
    ·rcases g m R with ⟨h1,Y⟩|⟨h1,Y⟩
     ·exact .inr (iL lo S _ (fa _) r hv h1 Y)
     ·rw[Y];rcases bh m R with ⟨g1,g2⟩|⟨j,s',v',g1,g2,g3,g4,g5⟩
      ·refine .inl ⟨g1,λj s' hj a4=>?_⟩;by_cases c:j=lo
       ·rw[c,r]at a4;cases a4;exact h1
       ·exact g2 j s' (by lia) a4
      ·exact .inr (iL j s' v' (by lia) g2 g3 g4 g5)
    ·by_cases c:i'=lo
     ·rw[c,r]at h3;cases h3;obtain⟨m,g1,g2⟩:=DR c0 h5;rcases bh m (Aq g2)with ⟨_,f2⟩|⟨j,e0,v',_,_,_,_,f5⟩
      ·exact f2 j' x' (by lia) h4 g1
      ·rw[U m g2]at f5;cases f5
     ·exact B i' j' s' x' (by lia) Y h3 h4 h5
  ·rintro Z G k;refine ml k ?_;clear k;rintro o3 o4 o5 o6 o7 e rfl N nd bh B d2;rw[Nat.sub_self]at B;exact kq B G (I N)
def TH(H:Hp):Hp:=λa=>match H a with|some (.tup xs)=>some (.tup xs)|_=>none
theorem uJ(e:H p=some (.tup xs)):TH H p=some (.tup xs):=by unfold TH;rw[e]
theorem yz(e:TH H p=some o):∃xs,o=.tup xs/\H p=some (.tup xs):=by
 unfold TH at e;split at e
 ·rename_i xs h;exact bd xs ((iX e).symm) h
 ·cases e
theorem pK(k:KT H H'):A0m (TH H) (TH H'):=λb o e=>by obtain⟨a,rfl,h⟩:=yz e;exact uJ (k _ _ h)
theorem tH(H:Hp):A0m (TH H) H:=λb o e=>by obtain⟨a,rfl,h⟩:=yz e;exact h
theorem oM(s:A0m H H'):A0m (TH H) (TH H'):=pK (KT.same s)
theorem vt(xs:zC):PyData.eqv (jH xs) (jH [])=decide (xs=[]):=by
 cases xs with
 |nil=>rfl
 |cons x r=>rfl
def OkN(xs:zC):Prop:=∀x∈xs,PyData.strOk x=true/\1<=x.length
def Jy(K:Frag):Sp:=λc H Q _=>∃(a:zW)(b:zI)(k:Int),c=[.ref a,.int k]/\SqL K H a (b.map V.int)/\0<=k/\∀z:Int,Q (.int z) H
def Fk:Sp:=λa H Q _=>∃(c k:Int),a=[.int c,.int k]/\0<=k/\k<=1000/\∀z:Int,0<=z->z<99989->Q (.int z) H
def JO:Sp:=λf H Q _=>∃(c d:Int)(e:zW)(a:zC),f=[.int c,.ref e,.int d]/\H e=some (.lst (a.map V.str))/\1<=d/\d<=60/\OkS a/\a.length<=100/\
 ∀(q:zW)(x:Str)(z:Int)(b:Hp),A0m H b->b q=some (.tup [.str x,.int z])->(x=""\/x∈a)->Q (.ref q) b
def JB:Sp:=λd H Q _=>∃(c m:Int),d=[.int c,.int m]/\0<=m/\m<=60/\∀(D:zW)(a:zI)(b:Hp),H D=none->A0m H b->b D=some (.lst (a.map V.int))->a.length=m.toNat->(∀n∈a,0<=n/\n<100000)->Q (.ref D) b
def oY(c:zI):PyData:=.tuple (c.map PyData.int)
theorem qG(T:Txt K mg t):FO P w base T.ag 1 (Jy K):=by
 refine T.ag.F.ok Ju λ_ A _ s H _ Q E i h=>?_
 ·refine gW h ?_;clear h;rintro a c k rfl b g q;refine rsq (dV (gU (iu oK (pv 1) (jF T.ah (eH 0))) (ev (gF (hG iQ (pv 0) (pv 1)))) ⟨gR⟩) (ev (gF eA))) ?_;refine bd _ rfl (ou _ rfl a _ rfl (.inl b) _ _ rfl rfl _ rfl ?_);refine iD (λd=>?_) (λ_=>q 0);obtain⟨z,_,e⟩:=tI (f:=V.int) (xs:=c) g (by simpa using d);exact ji _ rfl _ rfl a _ _ _ rfl rfl b e (q _)
theorem zw(T:Txt K mg t):FO P w base T.cZ 1 Fk:=by
 refine T.cZ.F.ok zm λ_ A _ s H _ Q E b h=>?_
 ·obtain⟨c,k,rfl,d,a,q⟩:=h;refine rsq (dV (gy 2 zm.nd (ff ja (ff jz (ff jz (ff nV (pv 0) (ff jz eA (ff nV eA (pv 1)))) (ff nV eA (pv 1))) eA) eA)) (ev (gF (ff ja (ff nV (pv 2) (ff jz (ff jz (pv 2) eA) (pv 1))) eA)))) ?_;refine gK _ rfl _ rfl _ _ rfl rfl (jp (.inl ⟨by decide,by decide⟩) _ _ rfl rfl (gL _ _ rfl rfl (.inr ⟨by lia,by lia⟩) (gB _ rfl _ _ rfl rfl (kW (.inl ⟨by decide,by decide⟩) _ _ rfl (jp rfl _ _ rfl rfl (gL _ _ rfl rfl FR ?_))))));refine gK _ rfl _ rfl _ _ rfl rfl (gB _ rfl _ _ rfl rfl (gL _ _ rfl rfl (.inl ⟨by lia,by lia⟩) (gL _ _ rfl rfl Fz ?_)));exact q _ (lQ _ (by decide)) (nn _ (by decide))
theorem Jn(T:Txt K mg t):FO P w base T.bK 2 JB:=by
 refine T.bK.F.ok rE λ_ A _ s H _ Q E G h=>?_
 ·obtain⟨c,m,rfl,L,C,k⟩:=h;refine rsq (dV (gy 2 rE.nd (@iJ _ _ _ _ ec)) (dV (gy 3 rE.nd (ff Gj (pv 0) (ff nV eA (ff xS eA eA)))) (dV (jO (om rfl T.aA (eH 1)) (gw (i:=4) rE.nd) (ev (gU (iu kS (ff ja (ff mf (pv 0) (ff xS eA eA)) eA) eA) (dV ⟨lA (lh kY mr mq mi (pv 2) (bp (ff ja (pv 3) eA) ec))⟩ (ev (gy 3 rE.nd (ff mf (pv 3) eA)))) (ev ⟨lA (lh kY mr mq mi (pv 2) (bp (pcl (zw T) G T.cZ (bp (pv 0) (eH 4))) ec))⟩)))) (ev (gF (pv 2)))))) ?_;refine⟨gI rfl,λD p=>?_⟩;have B:A0m H (upd H D (.lst [])):=gu p;have y:upd H D (.lst []) D=some (.lst (([]:zI).map V.int)):=ck;generalize upd H D (.lst [])=H1 at B y⊢;refine gB _ rfl _ _ rfl rfl (jp (fI (by decide) (by decide) (by decide)) _ _ rfl rfl ⟨.inl ⟨by decide,by decide⟩,(gL _ _ rfl rfl ⟨by show(0:Int)<2*10^(9:Int).toNat;decide,by decide⟩ ?_)⟩);refine jv _ rfl _ rfl (by lia) ⟨by lia,?_⟩
  refine px (n:=m.toNat) (λi Z X=>∃(a:Int)(j:zP)(b:zI),Z=[Sio c,Sio m,Sro D,Sio a,j]/\A0m H X/\X D=some (.lst (b.map V.int))/\b.length=i/\∀n∈b,0<=n/\n<100000)
   (iL _ none [] rfl B y rfl (by simp)) ?_ ?_
  ·rintro i Z X J g;refine gW g ?_;clear g;rintro a j b rfl u d ⟨v,o⟩
   have f:∀(z r:Int)(X':Hp),0<=z->z<100000->X'=upd X D (.lst (b.map V.int++[.int z]))->∃(a:Int)(j:zP)(b:zI),[some (V.int c),some (.int m),some (.ref D),some (.int r),some (.int (0+(i:Int)))]=[some (.int c),some (.int m),some (.ref D),some (.int a),j]/\A0m H X'/\X' D=some (.lst (b.map V.int))/\b.length=i+1/\∀n∈b,0<=n/\n<100000:=λz r X' l x e=>by
    subst e;refine iL r _ (b++[z]) rfl (gT u p) (by rw[ck,gN];rfl) (by rw[ic,v];rfl) λn I=>?_;rcases jn.mp I with q|q
    ·exact o n q
    ·rw[gX.mp q];exact⟨l,x⟩
   refine gB _ rfl _ _ rfl rfl (jp (fI (by decide) (by decide) (by decide)) _ _ rfl rfl ⟨⟨by show(0:Int)<10^(9:Int).toNat;decide,by decide⟩,(kI _ _ rfl rfl ur rfl _ rfl (iD (λ_=>?_) (λ_=>?_)))⟩)
   ·refine kJ _ rfl (.inl (iU rfl _ (SqL.of d))) _ rfl (gL _ _ rfl rfl Gv (iL D _ _ rfl rfl d (hV (by rw[dm];lia)) ?_));refine gB _ rfl _ _ rfl rfl ⟨⟨by decide,by decide⟩,?_⟩;exact f (a%100000) _ _ (lQ _ (by decide)) (nn _ (by decide)) rfl
   ·refine eh _ rfl (.inl (iU rfl _ (SqL.of d))) (gK _ rfl _ rfl c _ rfl (by lia) ⟨by lia,λz l x=>?_⟩);exact iL D _ _ rfl rfl d (hV (by rw[dm];lia)) (f z a _ l (by lia) rfl)
  ·rintro Z X g;refine gW g ?_;clear g;rintro a j b rfl u d ⟨v,o⟩;exact bd _ rfl (k D b X p u d v o)
theorem J6(T:Txt K mg t):FO P w base T.bf 1 JO:=by
 refine T.bf.F.ok BQ λ_ A _ s H _ Q E v h=>?_
 ·refine jM h ?_;clear h;rintro m n o a rfl d G y ⟨l,C,k⟩;refine rsq (dV (gU (PW.pt (lY (iu (xM v.units) (pv 1) (@iJ _ _ _ _ ec)) (oO (iu kS (ff ja (pv 0) eA) eA)))) (ev (gF (jJ (bp jK (bp (ff ja (ff mf (pv 0) eA) (pv 2)) ec))))) ⟨gR⟩) (dV (gy 3 BQ.nd (hG iQ (pv 1) (ff ja (ff mf (pv 0) eA) (jF T.ah (eH 1))))) (dV (gU (iu kS (ff ja (ff mf (pv 0) eA) eA) eA) (ev (gF (jJ (bp (pv 3) (bp (ff qt (ff ja (ff mf (pv 0) eA) (ff jz (ff nV eA (pv 2)) eA)) (pv 2)) ec))))) ⟨gR⟩) (ev (gF (jJ (bp (pv 3) (bp (ff qt (ff ja (ff mf (pv 0) eA) eA) eA) ec)))))))) ?_;refine eh _ rfl (gI rfl) λz B=>?_;have b:A0m H (upd H z (.lst [])):=gu B;have g:upd H z (.lst []) z=some (.lst (([]:zC).map V.str)):=ck;generalize upd H z (.lst [])=H1 at b g⊢;have D:∀P:Prop,P->P:=λ_ h=>h;refine kI (jH a) (jH []) (nA (b _ _ d)) (nA g) (qB (vI l) (by have:=(ph a).1;lia)) rfl _ rfl ?_;rw[vt];refine iD (λ_=>kC ?_) (λj=>?_)
  ·exact gB _ rfl _ _ rfl rfl (iB ⟨by decide,by decide⟩ _ rfl (iM _ _ rfl rfl (by show(0:Int)<n;lia) (gI rfl) λq c=>k q "" _ _ (b.trans (gu c)) ck (.inl rfl)))
  have p:0<a.length:=by
   rcases a with _|_
   ·exact absurd rfl j
   ·simp
  refine bd _ rfl (kI _ _ rfl rfl uu rfl _ rfl (iD (λ_=>?_) (λ_=>?_)))
  ·exact gB _ rfl _ _ rfl rfl (iB ⟨by decide,by decide⟩ _ rfl (iM _ _ rfl rfl (by show(0:Int)<n;lia) (gI rfl) λq c=>k q "" _ _ (b.trans (gu c)) ck (.inl rfl)))
  obtain⟨x,u,e⟩:=tI (f:=V.str) (xs:=a) (i:=m/4%((a.map V.str).length:Int)) (lQ _ (by rw[dm];lia)) (by rw[dm];exact nn _ (by lia));refine gK _ rfl _ rfl _ _ rfl rfl ⟨⟨by decide,by decide⟩,(gB _ rfl o _ rfl (.inl (SqL.of (b _ _ d))) (gL _ _ rfl rfl (by show(0:Int)<((a.map V.str).length:Int);rw[dm];lia) (jP o _ _ _ rfl rfl (SqL.of (b _ _ d)) e ?_)))⟩;have r:x=""\/x∈a:=.inr (gJ u);refine gB _ rfl _ _ rfl rfl ⟨⟨by decide,by decide⟩,(kI _ _ rfl rfl pF rfl _ rfl (iD (λ_=>?_) (λ_=>?_)))⟩
  ·exact gK _ rfl _ rfl _ _ rfl rfl ⟨⟨by decide,by decide⟩,(gB _ rfl _ _ rfl rfl (jp (.inl ⟨by decide,by decide⟩) _ _ rfl rfl (gL _ _ rfl rfl (by show(0:Int)<2*n+1;lia) (gB _ rfl _ _ rfl rfl ⟨gI rfl,λq c=>k q x _ _ (b.trans (gu c)) ck r⟩))))⟩
  ·exact gK _ rfl _ rfl _ _ rfl rfl (jp ⟨by decide,by decide⟩ _ _ rfl rfl ⟨z_50,(gL _ _ rfl rfl (gI rfl) λq c=>k q x _ _ (b.trans (gu c)) ck r)⟩)
abbrev Sz(lk:zJ)(ys:zC)(ls:zI):Prop:=Paired (λ(y:Str)(n:Int)=>fC lk (Sum.inr y)=some (.int n)) ys ls
def A2r(H:Hp)(ps:zQ)(cs:List zI):Prop:=Paired (λ(p:zW)(c:zI)=>H p=some (.tup (c.map V.int))) ps cs
theorem A2r.imp{H H':Hp}:∀{ps:zQ}{cs:List zI},A2r H ps cs->(∀p xs,H p=some (.tup xs)->H' p=some (.tup xs))->A2r H' ps cs|_,_,.nil,_=>.nil|_,_,.cons r t,f=>.cons (f _ _ r) (A2r.imp t f)
theorem A2r.same{ps:zQ}(h:A2r H ps cs)(s:A0m H H'):A2r H' ps cs:=h.imp λ_ _ e=>s _ _ e
theorem A2r.lst{ys:zM}{ps:zQ}(h:A2r H ps cs)(e:H l=some (.lst xs)):A2r (upd H l (.lst ys)) ps cs :=h.imp λp a z=>by rw[dt (iI z e (by intro q;cases q))];exact z
theorem A2r.snoc{H:Hp}{p:zW}{c:zI}(e:H p=some (.tup (c.map V.int))):∀{ps:zQ}{cs:List zI},A2r H ps cs->A2r H (ps++[p]) (cs++[c])|_,_,.nil=>.cons e .nil|_,_,.cons r t=>.cons r (A2r.snoc e t)
theorem A2r.len{H:Hp}:∀{ps:zQ}{cs:List zI},A2r H ps cs->ps.length=cs.length|_,_,.nil=>rfl|_,_,.cons _ t=>by simp[A2r.len t]
theorem A2r.get{H:Hp}:∀{ps:zQ}{cs:List zI}{i:Nat}{p:zW},A2r H ps cs->ps[i]?=some p->∃c,cs[i]?=some c/\H p=some (.tup (c.map V.int))|_,_,_,_,.nil,e=>by simp at e|_,_,0,_,.cons r _,e=>by simp at e;subst e;exact bd _ rfl r|_,_,i+1,p,.cons _ t,e=>by obtain⟨c,b,a⟩:=A2r.get (i:=i) (p:=p) t (by simpa using e);exact bd c (by simpa using b) a
structure yu(H:Hp)(a:zW)(cs:List zI):Prop where
 ex:∃ps:zQ,H a=some (.lst (ps.map V.ref))/\A2r H ps cs
structure Pc where
 arr:Str
 ix:zL
 gs:List (Str×Int×Int)
def pG(g:Str×Int×Int):PyData:=.tuple [.str g.1,.int g.2.1,.int g.2.2]
theorem xi(h:Rep H v (pG g)):∃b,v=.ref b/\H b=some (.tup [.str g.1,.int g.2.1,.int g.2.2]):=by
 unfold pG at h
 cases h with
 |@tup b xs _ eb r=>
  cases r with
  |cons a r=>
   cases r with
   |cons a2 r=>
    cases r with
    |cons a3 r=>
     cases r
     cases a
     cases a2
     cases a3
     exact bd b rfl eb
def C4h(M:zQ)(H:Hp)(v:V)(p:Pc):Prop:=∃(q b a:zW)(c d:zM),v=.ref q/\H q=some (.tup [.str p.arr,.ref b,.ref a])/\b∉M/\H b=some (.lst c)/\a∉M/\H a=some (.lst d)/\A4c (TH H) c (p.ix.map lE)/\A4c (TH H) d (p.gs.map pG)
theorem C4h.imp{p:Pc}(h:C4h M H v p)(f:KT H H')(g:∀c xs,c∉M->H c=some (.lst xs)->c∉M'/\H' c=some (.lst xs)):C4h M' H' v p:=by refine ko h ?_;clear h;rintro q o i l m rfl k a b ⟨d,e,j,n⟩;exact kj q o i l m rfl (f _ _ k) ((g _ _ a b).1) ((g _ _ a b).2) ((g _ _ d e).1) ((g _ _ d e).2) ⟨j.same (pK f),n.same (pK f)⟩
theorem C4h.same{p:Pc}(h:C4h M H v p)(s:A0m H H'):C4h M H' v p:=h.imp (KT.same s) λ_ _ m z=>⟨m,s _ _ z⟩
structure Lw where
 nm:Str
 own:zC
 sums:zC
 ps:List Pc
 wo:Int
def B8y(M:zQ)(H:Hp)(v:V)(e:Lw):Prop:=∃(q O S Pl:zW)(pv:zM),v=.ref q/\H q=some (.tup [.str e.nm,.ref O,.ref S,.ref Pl,.int e.wo])/\O∉M/\H O=some (.lst (e.own.map V.str))/\S∉M/\H S=some (.lst (e.sums.map V.str))/\Pl∉M/\H Pl=some (.lst pv)/\Paired (C4h M H) pv e.ps
theorem B8y.imp(h:B8y M H v e)(f:KT H H')(g:∀c xs,c∉M->H c=some (.lst xs)->c∉M'/\H' c=some (.lst xs)):B8y M' H' v e:=by refine ko h ?_;clear h;rintro q O S Pl pv rfl l i j ⟨d,k,a,b,m⟩;exact lC q O S Pl pv rfl (f _ _ l) ((g _ _ i j).1) ((g _ _ i j).2) ((g _ _ d k).1) ((g _ _ d k).2) ((g _ _ a b).1) ((g _ _ a b).2) (Paired.mapP m λ_ _ z=>z.imp f g)
theorem B8y.same(h:B8y M H v e)(s:A0m H H'):B8y M H' v e:=h.imp (KT.same s) λ_ _ m z=>⟨m,s _ _ z⟩
structure oF(BD:zC)(p:Pc):Prop where
 ix:∀e∈p.ix,e.1=""\/e.1∈BD
 gs:∀g∈p.gs,g.1∈BD
 lx:p.ix.length<=8
 lg:p.gs.length<=4
 ok:PyData.strOk p.arr=true
def gIn(f:zR)(g:Str×Int×Int):Prop:=g.2.1<=f g.1/\f g.1<g.2.2
instance (f:zR) (g:Str×Int×Int):Decidable (gIn f g):=inferInstanceAs (Decidable (_/\_))
def lF(f:zR)(a:List (Str×Int×Int)):Bool:=a.all λg=>decide (gIn f g)
theorem tR(f:zR)(a:List (Str×Int×Int))(g:Str×Int×Int):lF f (a++[g])=(lF f a&&decide (gIn f g)):=by simp[lF]
def rdP(f:zR)(p:Pc):List (Str×List Int):=if lF f p.gs=true then [(p.arr,jr f p.ix)]else []
def prN:zI->Nat| []=>1|n::r=>n.toNat*prN r
theorem yn:∀(a b:zI),prN (a++b)=prN a*prN b| [],b=>by simp[prN]|n::r,b=>by rw[oT,prN,prN,yn,Nat.mul_assoc]
theorem tj:∀{ls:zI},(∀n∈ls,1<=n)->1<=prN ls
 | [],_=>fa _
 |n::r,h=>by
  have c:=h n (.head _);have b:=tj (ls:=r) λm a=>h m (.tail _ a);rw[prN];have:1*1<=n.toNat*prN r:=Nat.mul_le_mul (by lia) b
  lia
def HR:Sp:=λf H Q _=>∃(l d:zW)(e:zC)(c:zJ)(b:zI),f=[.ref l,.ref d]/\H l=some (.lst (e.map V.str))/\H d=some (.dK c)/\Sz c e b/\uI b/\∀(q:zW)(a:Hp),H q=none->A0m H a->yu a q (ia b)->Q (.ref q) a
theorem Bi(T:Txt K mg t):FO P w base T.bS 1 HR:=by
 refine T.bS.F.ok qE λ_ A _ s H _ Q E hr h=>?_
 ·refine ko h ?_;clear h;rintro a d R lk p rfl ha hd sz ⟨g,k⟩;have hu:=mC hr;have a4:=Paired.length sz;refine rsq (dV (gy 2 qE.nd (@iJ _ _ _ _ (bp (jJ ec) ec))) (dV (jO (kH (pv 0)) (gw (i:=3) qE.nd) (dV (gy 4 qE.nd (@iJ _ _ _ _ ec)) (dV (jO (kH (pv 2)) (gw (i:=5) qE.nd rfl (.inr rfl)) (ev ⟨lA (lh kY PySem.F.slot_list_extend PySem.F.type_list_extend vN (pv 4) (bp (lu (N':=["_law_count","_law_cell"]) (ix:=(List.replicate 1 none++[some 5])) rfl (rb (x:="_law_cell") rfl rfl rfl (by decide+kernel) (by decide+kernel)) (rj (N0:=["_law_count"]) rfl (.inl rfl) (by walk_at"ix")) (om rfl T.aA (bp (kG hu (pv 1) (pv 3)) ec)) (λ_ _ _ _=>(gw (i:=0) G9)) (λ_ _ _ _=>(ff tK (pv 1) (jJ (eH 0))))) ec))⟩)) (ev (gy 2 qE.nd (pv 4)))))) (ev (gF (pv 2))))) ?_;refine⟨gI rfl,λe he=>⟨gI rfl,λq M=>?_⟩⟩;have a8:H q=none:=(gu he).free M;have s1:A0m H (upd (upd H e (.tup [])) q (.lst [V.ref e])):=(gu he).trans (gu M)
  refine⟨_,rfl,a,rfl,⟨_,SqL.of (s1 _ _ ha)⟩,nJ (K:=K) (a:=a) (xs:=R.map V.str) (λi Z v=>∃(o3 o4 W:zP)(q:zW),Z=[Sro a,Sro d,Sro q,o3,o4,W]/\A0m H v/\H q=none/\yu v q (ia (p.take i)))
   (jc none none none q rfl s1 a8 ⟨[e],ck,.cons (by rw[dt (gO ck M)];exact ck) .nil⟩) (λi Z v _ zq=>by obtain⟨_,_,_,_,_,J,_⟩:=zq;exact SqL.of (J _ _ ha)) ?_ ?_⟩
  ·rintro i y Z v hi S;refine ku S ?_;clear S;rintro o3 o4 W ⟨q,rfl,J,M,ps,C,tp⟩;obtain⟨nm,a2,rfl⟩:=kT hi;obtain⟨n,hn,vn⟩:=iH sz a2;have gp:=g.pos n (gJ hn);have cl:=pY (p.take i) λm N=>(g.pos m (rN N)).1;have pl:=Jo p (λm N=>(g.pos m N).1) i;have gm:=g.most;have gf:=g.few;have a3:=tp.len
   have h8:∀c∈ia (p.take i),c.length<=8:=λc X=>by
    have e:=(rF _ c X).1;rw[jf]at e
    lia
   refine⟨gI rfl,λL hL=>?_⟩;obtain⟨H3,t1,a9,a0⟩:=nH (o:=.lst []) hL;have L0:H L=none:=J.free hL;have qL:q≠L:=gO C hL;rw[a0];refine jv _ rfl q rfl ⟨_,SqL.of (t1 _ _ C)⟩ ?_
   refine nJ (K:=K) (a:=q) (xs:=ps.map V.ref) (λj Z G=>∃(W:zP)(f:zQ),Z=[Sro a,Sro d,Sro q,Sso nm,Sro L,W]/\A0m v G/\G L=some (.lst (f.map V.ref))/\A2r G f (la ((ia (p.take i)).take j) n))
    (gL _ [] rfl t1 a9 .nil) (λj Z G _ zq=>by obtain⟨_,_,_,r,_⟩:=zq;exact SqL.of (r _ _ C)) ?_ ?_
   ·rintro j x Z G hj ⟨b1,f,rfl,r,b,U⟩;obtain⟨pc,a5,rfl⟩:=kT hj;obtain⟨c,X,a7⟩:=tp.get a5;have b2:=h8 c (gJ X)
    have b3:f.length<=240000:=by
     have e:=U.len;rw[Bx,jf]at e;have e1:min j (ia (p.take i)).length*n.toNat<=4000*60:=Nat.mul_le_mul (by lia) (by lia)
     lia
    have gd:=A7q.k (H:=G) (a:=d) (k:=Sum.inr nm) ((J.trans r) _ _ hd);rw[vn]at gd;refine eh _ rfl (.inl (iU rfl _ (SqL.of b))) (gK _ rfl _ rfl d _ rfl gd (iF _ rfl (by lia) (by lia) λD hD=>?_));have DL:D≠L:=λz=>by rw[z,b]at hD;cases hD
    refine rq (D:=D) n.toNat (λm R B=>A0m G B/\∃l:zQ,R=l.map V.ref/\B D=some (.lst (l.map V.ref))/\A2r B l ((List.range m).map λ(k:Nat)=>c++[(k:Int)])) ⟨gu hD,(eh [] rfl ck .nil)⟩ (λm R B N _=>N) (λR B _=>fa _) ?_ ?_
    ·rintro m a1 B N ⟨I,l,rfl,Y,O⟩ x H5 ⟨rfl,rfl⟩;have lw:=O.len;rw[dm,List.length_range]at lw;refine⟨⟨rfl,True.intro⟩,(jv _ rfl _ rfl (gI rfl) λu a6=>?_)⟩;have v1:A0m H5 (upd H5 u (.tup [.int (0+(m:Int))])):=gu a6;refine jo pc u _ _ rfl rfl (v1 _ _ (I _ _ (r _ _ a7))) ck (jV (by rw[dm];simp;lia)) λq5 H6 s6 b0=>?_;have v6:=v1.trans s6;refine jx (v6 _ _ Y) (hV (by rw[dm];lia)) (gT (I.trans v6) hD) (eh (l++[q5]) (by rw[gN];rfl) (by rw[ck,gN];rfl) ?_);rw[List.range_succ,gN];refine((O.same v6).snoc ?_).lst (v6 _ _ Y);rw[b0,gN,Int.zero_add];rfl
    ·rintro a1 B ⟨I,l,rfl,Y,O⟩;have lw:=O.len;rw[dm,List.length_range]at lw;refine jo L D _ _ rfl rfl (I _ _ b) Y (jV (by rw[dm,dm];lia)) ?_;refine gL _ (f++l) rfl (gT (r.trans I) hL) (by rw[ck,gN]) ?_
     have e:la ((ia (p.take i)).take (j+1)) n=la ((ia (p.take i)).take j) n++(List.range n.toNat).map λ(m:Nat)=>c++[(m:Int)]:=by rw[iN,X];simp[la]
     rw[e];exact A2r.lst (ps:=f++l) (lb (U.same I) O) (I _ _ b)
   ·rintro Z G ⟨b1,f,rfl,r,b,U⟩;rw[dm,a3,iY]at U;refine bd _ rfl (jc _ _ _ L rfl (J.trans r) L0 ⟨f,b,?_⟩);rw[Kv hn];exact U
  ·rintro Z v S;refine ku S ?_;clear S;rintro o3 o4 W ⟨q,rfl,J,M,c2⟩;rw[dm,a4,iY]at c2;exact bd _ rfl (k q v M J c2)
theorem Bh{k:Key}:∀{b acc a:zJ},(k∈b.map (·.1)\/fC acc k=fC a k)->fC (ip acc b) k=fC (ip a b) k
 | [],acc,a,h=>by
  rcases h with h|h
  ·cases h
  ·exact h
 |w::r,acc,a,h=>by
  show fC (ip (gY acc w.1 w.2) r) k=fC (ip (gY a w.1 w.2) r) k;refine Bh ?_;by_cases hk:k=w.1
  ·right;rw[mG,mG,hk];simp
  ·rcases h with h|h
   ·rw[ik,gP]at h;exact .inl (h.resolve_left hk)
   ·right;rw[mG,mG,h]
theorem AT{k:Key}:∀{a acc:zJ},(∀w∈a,∃i:Int,w.2=.int i)->(k∈a.map (·.1)\/∃i:Int,fC acc k=some (.int i))->∃i:Int,fC (ip acc a) k=some (.int i)
 | [],acc,_,h=>by
  rcases h with h|h
  ·cases h
  ·exact h
 |w::r,acc,hi,h=>by
  show∃i:Int,fC (ip (gY acc w.1 w.2) r) k=some (.int i);refine AT (λx c=>hi x (.tail _ c)) ?_;by_cases hk:k=w.1
  ·obtain⟨i,b⟩:=hi w (.head _);right;refine⟨i,?_⟩;rw[mG,hk,b];simp
  ·rcases h with h|⟨i,h⟩
   ·rw[ik,gP]at h;exact .inl (h.resolve_left hk)
   ·right;refine⟨i,?_⟩;rw[mG];split
    ·rename_i z
     first
     |exact absurd z hk
     |exact absurd z.symm hk
    ·exact h
theorem vQ{k:Key}:∀{a acc:zJ},k∉a.map (·.1)->fC (ip acc a) k=fC acc k
 | [],acc,_=>rfl
 |w::r,acc,h=>by
  rw[ik,gP,not_or]at h;show fC (ip (gY acc w.1 w.2) r) k=_;rw[vQ h.2,mG];split
  ·rename_i z
   first
   |exact absurd z h.1
   |exact absurd z.symm h.1
  ·rfl
def prs(own sums:zC)(s:StM):zJ:=((own++sums).map (Sum.inr:Str->Key)).zip ((s.ce++s.tu).map V.int)
def atW(own sums:zC)(s:StM):zJ:=ip [(Sum.inr (("":Str)),.int 0)] (prs own sums s)
theorem tM{own:zC}{s:StM}(h1:s.ce.length=own.length)(h2:s.tu.length=sums.length):(prs own sums s).map (·.1)=(own++sums).map (Sum.inr:Str->Key):=by unfold prs;show List.map Prod.fst _=_;rw[List.map_fst_zip (by rw[dm,dm,ic,ic];lia)]
theorem D7{own:zC}{s:StM}:∀w∈prs own sums s,∃i:Int,w.2=.int i:=λw a=>by unfold prs at a;have:=(List.of_mem_zip a).2;obtain⟨i,_,e⟩:=gS.mp this;exact⟨i,e.symm⟩
theorem xL{own:zC}{s:StM}(h1:s.ce.length=own.length)(h2:s.tu.length=sums.length)(a:x∈own++sums):fC (atW own sums s) (Sum.inr x)=some (.int (ai (atW own sums s) x)):=by obtain⟨i,e⟩:=AT (k:=Sum.inr x) (acc:=[(Sum.inr (("":Str)),.int 0)]) (D7 (own:=own) (sums:=sums) (s:=s)) (.inl (by rw[tM h1 h2];exact gS.mpr (bd x a rfl)));have e:fC (atW own sums s) (Sum.inr x)=some (.int i):=e;rw[e,sO e]
theorem Ef{own:zC}{s:StM}(h1:s.ce.length=own.length)(h2:s.tu.length=sums.length)(ok:OkN (own++sums)):fC (atW own sums s) (Sum.inr (("":Str)))=some (.int 0):=by
 unfold atW;rw[vQ]
 ·rfl
 ·rw[tM h1 h2];intro m;obtain⟨x,a,e⟩:=gS.mp m;have:=(ok x a).2;have e:x=("":Str):=by injection e
  rw[e]at this;exact absurd this (by decide+kernel)
theorem EA{own:zC}{s:StM}(h1:s.ce.length=own.length)(h2:s.tu.length=sums.length)(a:x∈own++sums):ai (ip [] (prs own sums s)) x=ai (atW own sums s) x/\fC (ip [] (prs own sums s)) (Sum.inr x)=some (.int (ai (ip [] (prs own sums s)) x)):=by have e:fC (ip [] (prs own sums s)) (Sum.inr x)=fC (atW own sums s) (Sum.inr x):=Bh (.inl (by rw[tM h1 h2];exact gS.mpr (bd x a rfl)));have c:=xL h1 h2 a;rw[c]at e;have b:=sO e;exact⟨b,by rw[b];exact e⟩
def kP(e:Lw)(s:StM):List (Str×List Int):=if s.wd="start" then []else e.ps.flatMap (rdP (ai (atW e.own e.sums s)))
def JV:Sp:=λc H Q _=>∃(v u:V)(e:Lw)(s:StM)(M:zQ),c=[v,u]/\sr H v s/\B8y M H u e/\(s.wd≠"start"->s.ce.length=e.own.length/\s.tu.length=e.sums.length)/\e.own.length+e.sums.length<=8/\OkN (e.own++e.sums)/\(∀p∈e.ps,oF (e.own++e.sums) p)/\e.ps.length<=3/\
 ∀(D:zW)(b:zM)(a:Hp),H D=none->A0m H a->a D=some (.lst b)->Rds a b (kP e s)->Q (.ref D) a
theorem EU(f:zR)(p:Pc):(rdP f p).length<=1:=by unfold rdP;split<;>simp
theorem tO(f:zR):∀ps:List Pc,(ps.flatMap (rdP f)).length<=ps.length
 | []=>by simp
 |p::r=>by
  rw[List.flatMap_cons,ic,je];have:=tO f r;have:=EU f p
  lia
theorem J8(T:Txt K mg t):FO P w base T.bt 1 JV:=by
 refine T.bt.F.ok mK λ_ A _ s H _ Q E hr h=>?_
 ·refine ko h ?_;clear h;rintro v u e d M rfl ⟨sb,sc,su,rfl,b5,d4,e9⟩ ⟨q,O,S,Pl,d5,rfl,hq,_,hO,_,hS,_,hP,c3⟩ b8 ⟨l8,c9,d8,f7,k⟩;have hu:=mC hr;have d7:=Paired.length c3;refine rsq (dV (gU (pkd 0) (ev (gF (@iJ _ _ _ _ ec))) ⟨gR⟩) (dV ⟨@oN _ _ 2 _ _ _ _ mK.nd rfl (.inr rfl) (yf (Ak jK eA yR) rfl rfl (by simp) (by decide)) rfl (.inl rfl)⟩ (dV (jO (Fu rfl T.fS (bp (ff nD (pit 1) (pit 1)) (bp (ff tK (pit 0) (pit 0)) ec))) (lH (n:=2) rfl (iw (gw (i:=3) mK.nd) (iw (gw (i:=4) mK.nd) lJ))) (ev ⟨@nY _ _ _ _ _ _ _ _ _ hu (pv 2) (pv 3) (pv 4) rfl⟩)) (dV (gy 5 mK.nd (@iJ _ _ _ _ ec)) (dV (jO (kH (pit 1)) (lH (n:=3) rfl (iw (gw (i:=6) mK.nd) (iw (gw (i:=7) mK.nd) (iw (gw (i:=8) mK.nd) lJ)))) (dV (gy 9 mK.nd kc) (dV (jO (kH (pv 8)) (lH (n:=3) rfl (iw (gw (i:=3) mK.nd) (iw (gw (i:=10) mK.nd) (iw (gw (i:=11) mK.nd) lJ)))) (ev (gy 9 mK.nd (qR (pv 9) (qS (zn sK oK (pv 10) (kG hu (pv 2) (pv 3)) (pv 11))))))) (ev (gU (jh (pv 9)) (ev ⟨lA (lh kY mr mq mi (pv 5) (bp (jJ (bp (pv 6) (bp (mh qH (by rfl) T.aq lV (bp (lu (N':=["_law_axis","_law_shift","_law_at"]) (ix:=(List.replicate 2 none++[some 2])) (g:=sB K 2 (pI (nC 0) (pI (nC 1) rY))) rfl (rb (x:="_law_at") rfl rfl rfl (by decide+kernel) (by decide+kernel)) (rj (N0:=["_law_axis","_law_shift"]) rfl (.inl rfl) (by walk_at"ix")) (kH (pv 7)) (λ_ _ _ _=>(lH (n:=2) rfl (iw (gw (i:=0) AS) (iw (gw (i:=1) AS) lJ)))) (λ_ _ _ _=>(ff jz (kG hu (pv 2) (pv 0)) (pv 1)))) ec)) ec))) ec))⟩) ⟨gR⟩))))) (ev (gF (pv 5)))))))) ?_;refine i12 _ rfl sb _ _ _ rfl rfl (SqT.of b5) (gH (j:=1) rfl) (iB rfl _ rfl (iD (λhw=>?_) (λhw=>?_)))
  ·have hw:d.wd="start":=by injection hw
   refine⟨gI rfl,λD hD=>k D [] _ hD (gu hD) ck ?_⟩;unfold kP;rw[dn hw];exact .nil
  have hw:d.wd≠"start":=λz=>hw (by rw[z]);obtain⟨lc,lt⟩:=b8 hw;refine λc c2=>⟨ck,(eh [(Sum.inr (("":Str)),.int 0)] rfl (by decide) ?_)⟩;rw[pM];have t1:A0m H (upd H c (.dK (ip [] [(Sum.inr (("":Str)),.int 0)]))):=gu c2;have a6:upd H c (.dK (ip [] [(Sum.inr (("":Str)),.int 0)])) c=some (.dK [(Sum.inr (("":Str)),.int 0)]):=ck;generalize upd H c (.dK (ip [] [(Sum.inr (("":Str)),.int 0)]))=H1 at t1 a6⊢;refine i12 _ rfl q _ _ _ rfl rfl (SqT.of (t1 _ _ hq)) (gH (j:=1) rfl) (i12 _ rfl q _ _ _ rfl rfl (SqT.of (t1 _ _ hq)) (gH (j:=2) rfl) (jo O S _ _ rfl rfl (t1 _ _ hO) (t1 _ _ hS) (jV (by rw[dm,dm];lia)) λkl e2=>?_));have t2:A0m H1 (upd H1 kl (.lst (e.own.map V.str++e.sums.map V.str))):=gu e2;have a0:upd H1 kl (.lst (e.own.map V.str++e.sums.map V.str)) kl=some (.lst (((e.own++e.sums).map (Sum.inr:Str->Key)).map kV)):=by rw[ck,<-gN,List.map_map];rfl
  generalize upd H1 kl (.lst (e.own.map V.str++e.sums.map V.str))=H2 at t2 a0⊢;have U:=t1.trans t2;refine i12 _ rfl sb _ _ _ rfl rfl (SqT.of (U _ _ b5)) (gH (j:=2) rfl) (i12 _ rfl sb _ _ _ rfl rfl (SqT.of (U _ _ b5)) (gH (j:=3) rfl) (jo sc su _ _ rfl rfl (U _ _ d4) (U _ _ e9) (jV (by rw[dm,dm];lia)) λtt H3 t3 a2=>?_));have a2:H3 tt=some (.tup ((d.ce++d.tu).map V.int)):=by rw[gN];exact a2
  have s3:=U.trans t3;have b9:=(t2.trans t3) _ _ a6;have c5:(((e.own++e.sums).map (Sum.inr:Str->Key)).map kV).length=((d.ce++d.tu).map V.int).length:=by rw[dm,dm,dm,ic,ic];lia
  refine jc kl tt _ _ rfl (SqL.of (t3 _ _ a0)) (SqT.of a2) ?_
  refine Ew (K:=K) (a:=kl) (b:=tt) (xs:=((e.own++e.sums).map (Sum.inr:Str->Key)).map kV) (ys:=(d.ce++d.tu).map V.int) (λi Z G=>∃(R o4:zP),Z=[Sro sb,Sro q,Sro c,R,o4,none,none,none,none,none,none,none]/\A0m H G/\G kl=some (.lst (((e.own++e.sums).map (Sum.inr:Str->Key)).map kV))/\G tt=some (.tup ((d.ce++d.tu).map V.int))/\G c=some (.dK (ip [(Sum.inr (("":Str)),.int 0)] ((prs e.own e.sums d).take i))))
   (iM none none rfl s3 (t3 _ _ a0) a2 b9) (λi Z G zq=>by obtain⟨_,_,_,_,g1,g2,_⟩:=zq;exact⟨SqL.of g1,SqT.of g2⟩) c5 ?_ ?_
  ·rintro i x y Z G p hx hy zz;refine iq zz ?_;clear zz;rintro R o4 rfl sg g1 g2 g3 hp;obtain⟨kx,b4,rfl⟩:=kT hx
   obtain⟨xx,hxx,rfl⟩:∃xx,(e.own++e.sums)[i]?=some xx/\kx=Sum.inr xx:=by rw[iG]at b4;obtain⟨xx,h1,h2⟩:=mu.mp b4;exact bd xx h1 h2.symm
   obtain⟨yy,f1,rfl⟩:=kT hy;have J:A0m G (upd G p (.tup [kV (Sum.inr xx),.int yy])):=gu hp;have b6:upd G p (.tup [kV (Sum.inr xx),.int yy]) p=some (.tup [.str xx,.int yy]):=ck;generalize upd G p (.tup [kV (Sum.inr xx),.int yy])=G1 at J b6⊢
   have hz:(prs e.own e.sums d)[i]?=some (Sum.inr xx,.int yy):=by unfold prs;rw[qJ];exact⟨b4,hy⟩
   have lm:=zj [(Sum.inr (("":Str)),.int 0)] ((prs e.own e.sums d).take i);have lp:(prs e.own e.sums d).length<=8:=by unfold prs;rw[List.length_zip,dm,ic];lia
   have f5:((prs e.own e.sums d).take i).length<=8:=by rw[jf];lia
   refine lD p _ rfl (SqT.of b6) rfl _ _ rfl _ _ rfl ⟨rfl,?_⟩;refine bd _ rfl (gK _ rfl _ rfl c _ rfl (C0w.k (k:=Sum.inr xx) (J _ _ g3) (hV (by simp only [kL]at lm;lia))) ?_);have na:∀{b:zW}{o:HO},G1 b=some o->(∀e5,o≠.dK e5)->b≠c:=λeb n z=>by rw[z,J _ _ g3]at eb;cases eb;exact n _ rfl
   refine iM _ _ rfl (gT (sg.trans J) c2) ?_ ?_ ?_
   ·rw[dt (na (J _ _ g1) (by intro k z;cases z))];exact J _ _ g1
   ·rw[dt (na (J _ _ g2) (by intro k z;cases z))];exact J _ _ g2
   ·rw[ck,iN,hz,jR,II]
  rintro Z G zz;refine iq zz ?_;clear zz;rintro R o4 rfl sg g1 g2 g3
  have a5:G c=some (.dK (atW e.own e.sums d)):=by rw[g3];unfold atW;rw[nN (by unfold prs;rw[List.length_zip];simp only [dm];lia)]
  generalize hf:ai (atW e.own e.sums d)=f
  have a7:∀(G':Hp)(x:Str),G' c=some (.dK (atW e.own e.sums d))->x∈e.own++e.sums->A7q G' c (.str x) (some (.int (f x))):=λG' x h hx=>by have g:=A7q.k (H:=G') (a:=c) (k:=Sum.inr x) h;rw[xL lc lt hx,hf]at g;exact g
  have b3:∀(G':Hp),G' c=some (.dK (atW e.own e.sums d))->A7q G' c (.str ("":Str)) (some (.int 0)):=λG' h=>by have g:=A7q.k (H:=G') (a:=c) (k:=Sum.inr (("":Str))) h;rw[Ef lc lt c9]at g;exact g
  refine⟨gI rfl,λD hD=>?_⟩;have D0:H D=none:=sg.free hD;obtain⟨G1,J,e7,b2⟩:=nH (o:=.lst []) hD;have aD:c≠D:=gO a5 hD;rw[b2];refine i12 _ rfl q _ _ _ rfl rfl (SqT.of ((sg.trans J) _ _ hq)) (gH (j:=3) rfl) (eh Pl rfl ⟨_,SqL.of ((sg.trans J) _ _ hP)⟩ ?_)
  refine nJ (K:=K) (a:=Pl) (xs:=d5) (λj Z X=>∃(R o4 o6 o7 o8 o9 B I:zP)(xs:zM),Z=[Sro sb,Sro q,Sro c,R,o4,Sro D,o6,o7,o8,o9,B,I]/\A0m H X/\X c=some (.dK (atW e.own e.sums d))/\X D=some (.lst xs)/\Rds X xs ((e.ps.take j).flatMap (rdP f)))
   (jB _ _ none none none none none (iM none [] rfl (sg.trans J) (J _ _ a5) e7 .nil)) (λj Z X _ zq=>by obtain⟨_,_,_,_,_,_,_,_,_,_,N,_⟩:=zq;exact SqL.of (N _ _ hP)) ?_ ?_
  ·rintro j x Z X hx zz;refine kK zz ?_;clear zz;rintro R o4 o6 o7 o8 o9 B I xs rfl N ⟨L,W,rx⟩;obtain⟨p,hp,pq,il,gl,iv,gv,rfl,e3,_,b7,_,c0,ri,rg⟩:=iH c3 hx;have pi:=d8 p (gJ hp);have f2:=pi.lx;have c7:=rg.len;have d1:=ri.len;rw[dm]at c7 d1;refine lD pq _ rfl (SqT.of (N _ _ e3)) rfl _ _ rfl _ _ rfl (eu _ _ rfl rfl ?_);have e0:lF f (p.gs.take 0)=true:=rfl;refine jv _ rfl gl rfl ⟨_,SqL.of (N _ _ c0)⟩ ?_
   refine nJ (K:=K) (a:=gl) (xs:=gv) (λm Z Y=>∃(R B I:zP),Z=[Sro sb,Sro q,Sro c,R,o4,Sro D,Sso p.arr,Sro il,Sro gl,Sbo (lF f (p.gs.take m)),B,I]/\Y=X)
    (jw R B I (by rw[e0];rfl) rfl) (λm Z Y _ zq=>by obtain⟨_,_,_,_,z⟩:=zq;exact by rw[z];exact SqL.of (N _ _ c0)) ?_ ?_
   ·rintro m y Z Y hy ⟨e8,c1,d0,rfl,rfl⟩;obtain⟨l,c6,ry⟩:=vm rg hy;obtain⟨gb,rfl,d6⟩:=xi (ry.same (tH H));have d9:=a7 Y l.1 L (pi.gs l (gJ c6));refine lD gb _ rfl (SqT.of (N _ _ d6)) rfl _ _ rfl _ _ rfl (eu _ _ rfl rfl ?_);have a1:∀b:Bool,b=lF f (p.gs.take (m+1))->∃(R B I:zP),[some (V.ref sb),some (.ref q),some (.ref c),some (.str l.1),o4,some (.ref D),some (.str p.arr),some (.ref il),some (.ref gl),some (.bl b),some (.int l.2.1),some (.int l.2.2)]=[some (.ref sb),some (.ref q),some (.ref c),R,o4,some (.ref D),some (.str p.arr),some (.ref il),some (.ref gl),some (.bl (lF f (p.gs.take (m+1)))),B,I]/\Y=Y:=λb hb=>(jw (some (.str l.1)) (some (.int l.2.1)) (some (.int l.2.2)) (by rw[hb]) rfl);have tk:p.gs.take (m+1)=p.gs.take m++[l]:=by rw[iN,c6,jR]
    cases hall:lF f (p.gs.take m)with
    |true=>
     refine gZ _ rfl true rfl (kC ?_);refine gZ _ rfl _ rfl (ou _ rfl c _ rfl d9 _ _ rfl rfl _ rfl (iD (λh1=>?_) (λh1=>?_)))
     ·have h1:l.2.1<=f l.1:=h1;refine gB _ rfl _ _ rfl rfl (a1 _ ?_);show decide (f l.1<l.2.2)=_;rw[tk,tR,hall,Bool.true_and];by_cases h2:f l.1<l.2.2
      ·rw[jl h2,jl (show gIn f l from ⟨h1,h2⟩)]
      ·rw[ir h2,ir (λz:gIn f l=>h2 z.2)]
     ·have h1:¬l.2.1<=f l.1:=h1;refine a1 false ?_;rw[tk,tR,hall,Bool.true_and,ir (λz:gIn f l=>h1 z.1)]
    |false=>refine gZ _ rfl false rfl (hB (a1 false ?_));rw[tk,tR,hall,Bool.false_and]
   rintro Z Y ⟨e8,c1,d0,rfl,rfl⟩;rw[c7,iY];have f4:=Paired.length rx;have f3:=tO f (e.ps.take j);have f6:(e.ps.take j).length<=3:=by rw[jf];lia
   have c8:(e.ps.take (j+1)).flatMap (rdP f)=(e.ps.take j).flatMap (rdP f)++rdP f p:=by rw[iN,hp,jR,List.flatMap_append,List.flatMap_singleton]
   by_cases hall:lF f p.gs=true
   ·refine gZ _ rfl true (by rw[hall]) (kC ?_);refine kJ _ rfl (.inl (iU rfl _ (SqL.of W))) _ rfl (jv _ rfl il rfl ⟨_,SqL.of (N _ _ b7)⟩ λC hC=>?_);refine oP (K:=K) (a:=il) (D:=C) (xs:=iv) (λi zs H2=>A0m Y H2/\H2 C=some (.lst zs)/\zs=(jr f (p.ix.take i)).map V.int) (fI (gu hC) ck rfl) (λi zs H2 ⟨s2,_⟩=>SqL.of (s2 _ _ (N _ _ b7))) ?_ ?_
    ·rintro i z zs H4 hz ⟨s4,a4,rfl⟩;obtain⟨ie,b1,rz⟩:=vm ri hz;obtain⟨ib,rfl,d3⟩:=Ci (rz.same (tH H));have hi:i<p.ix.length:=(gG.mp b1).1;have f8:(jr f (p.ix.take i)).length<=8:=by unfold jr;rw[dm,jf];lia
     have c4:∀r:Int,r=(if ie.1=("":Str)then ie.2 else f ie.1+ie.2)->H4 C=some (.lst ((jr f (p.ix.take i)).map V.int))/\((jr f (p.ix.take i)).map V.int).length<sizeLine/\A0m Y (upd H4 C (.lst ((jr f (p.ix.take i)).map V.int++[.int r])))/\upd H4 C (.lst ((jr f (p.ix.take i)).map V.int++[.int r])) C=some (.lst ((jr f (p.ix.take i)).map V.int++[.int r]))/\(jr f (p.ix.take i)).map V.int++[.int r]=(jr f (p.ix.take (i+1))).map V.int:=λr e1=>by refine iT a4 (hV (by rw[dm];lia)) (gT s4 hC) ck ?_;rw[iN,b1,jR,e1];unfold jr;rw[gN,gN];rfl
     refine lD ib _ rfl (SqT.of ((N.trans s4) _ _ d3)) rfl _ _ rfl _ _ rfl (fI rfl ⟨rfl,True.intro⟩ ?_);rcases pi.ix ie (gJ b1)with hn|hn
     ·have g0:=b3 H4 (s4 _ _ L);rw[<-hn]at g0;refine gK _ rfl _ rfl c _ rfl g0 (gB _ rfl _ _ rfl rfl (c4 _ ?_));rw[dn hn,Int.zero_add]
     ·have g0:=a7 H4 ie.1 (s4 _ _ L) hn;refine gK _ rfl _ rfl c _ rfl g0 (gB _ rfl _ _ rfl rfl (c4 _ ?_))
      have e4:ie.1≠("":Str):=λz=>by have:=(c9 _ hn).2;rw[z]at this;exact absurd this (by decide+kernel)
      rw[dh e4]
    ·rintro zs H4 ⟨s4,a4,rfl⟩;rw[d1,iY]at a4;refine hZ C _ rfl (.inl ⟨SqL.of a4,λct f0=>⟨gI rfl,λb hb=>?_⟩⟩);have w1:A0m H4 (upd H4 ct (.tup ((jr f p.ix).map V.int))):=gu f0;have a8:upd H4 ct (.tup ((jr f p.ix).map V.int)) ct=some (.tup ((jr f p.ix).map V.int)):=ck;generalize upd H4 ct (.tup ((jr f p.ix).map V.int))=H5 at w1 a8 hb⊢;obtain⟨H6,w2,e6,b2⟩:=nH (o:=.tup [.str p.arr,.ref ct]) hb;rw[b2];have a3:=s4.trans (w1.trans w2);have d2:=a3 _ _ W;refine iL D _ _ rfl rfl d2 (hV (by lia)) ?_;have kt:∀p' b0,H6 p'=some (.tup b0)->upd H6 D (.lst (xs++[.ref b])) p'=some (.tup b0):=λp' b0 z=>by rw[dt (iI z d2 (by intro w;cases w))];exact z
     refine jB _ _ _ _ _ _ _ (iM _ (xs++[.ref b]) rfl (gT (N.trans a3) D0) (by rw[dt aD];exact a3 _ _ L) ck ?_);rw[c8];unfold rdP;rw[dn hall];exact Paired.app (Rds.keep (rx.same a3) kt) (.cons (eu b ct rfl (kt _ _ e6) (kt _ _ (w2 _ _ a8))) .nil)
   ·have a9:lF f p.gs=false:=by simpa using hall
    refine gZ _ rfl false (by rw[a9]) (hB ?_);refine jB _ _ _ _ _ _ _ (iM _ xs rfl N L W ?_);rw[c8];have:rdP f p=[]:=by unfold rdP;rw[dh hall]
    rw[this,lU];exact rx
  ·rintro Z X zz;refine kK zz ?_;clear zz;rintro R o4 o6 o7 o8 o9 B I xs rfl N ⟨L,W,rx⟩;rw[d7,iY]at rx;refine bd _ rfl (k D xs X D0 N W ?_);unfold kP;rw[dh hw,hf];exact rx
structure B8x(BD:zC)(T:Tm)(n:Nat):Prop where
 gd:Gd T
 dp:dep T<=n
 fv:∀x,Fv T x->x∈BD
 ax:Axs BD T
structure TmR(BD:zC)(T:Tm)(n:Nat)(ps:List Pc):Prop extends B8x BD T n where
 rds:∀len f,rd len T f=ps.flatMap (rdP f)
theorem B8x.num(BD:zC)(z:Int)(h:1<=n):B8x BD (.num z) n:=⟨True.intro,h,λx a=>a.elim,True.intro⟩
structure TmG(BD:zC)(T:Tm)(p:Pc)(j:Nat):Prop extends B8x BD T (j+1) where
 rds:∀len f,rd len T f=if lF f (p.gs.take j)=true then [(p.arr,jr f p.ix)]else []
theorem TmG.start{p:Pc}(h:oF BD p):TmG BD (.read p.arr p.ix) p 0 where
 gd:=by have:=h.lx;show p.ix.length<=100;lia
 dp:=fa _
 fv:=λx ⟨d,e,b,a⟩=>by
  rcases h.ix e b with z|z
  ·rw[a]at z;exact absurd z d
  ·rw[<-a];exact z
 ax:=h.ix
 rds:=λc f=>by rw[List.take_zero];rfl
theorem TmG.step{T:Tm}{p:Pc}(h:oF BD p)(t:TmG BD T p j)(b:p.gs[j]?=some g)(z:Int):TmG BD (.guard g.1 g.2.1 g.2.2 T (.num z)) p (j+1) where
 gd:=⟨t.gd,True.intro⟩
 dp:=by
  have:=t.dp;show max (dep T) 1+1<=j+1+1
  lia
 fv:=λx a=>by
  rcases a with e|a|a
  ·rw[e];exact h.gs g (gJ b)
  ·exact t.fv x a
  ·exact a.elim
 ax:=(fI (h.gs g (gJ b)) t.ax True.intro)
 rds:=λc f=>by
  show(if g.2.1<=f g.1/\f g.1<g.2.2 then rd c T f else [])=_;rw[iN,b,jR,tR,t.rds];by_cases hi:g.2.1<=f g.1/\f g.1<g.2.2
  ·rw[dn hi,jl (show gIn f g from hi),Bool.and_true]
  ·rw[dh hi,ir (show¬gIn f g from hi),Bool.and_false];rfl
theorem TmG.full{T:Tm}{p:Pc}(h:TmG BD T p p.gs.length):∀a f,rd a T f=rdP f p:=λa f=>by rw[h.rds,iY];rfl
theorem B8x.le{T:Tm}{m:Nat}(h:B8x BD T n)(l:n<=m):B8x BD T m:=⟨h.gd,jT h.dp l,h.fv,h.ax⟩
theorem B8x.pair{T U:Tm}(o:Op3)(h:B8x BD T n)(g:B8x BD U n):B8x BD (.pair o T U) (n+1):=⟨⟨h.gd,g.gd⟩,by have:=h.dp;have:=g.dp;show max (dep T) (dep U)+1<=n+1;lia,λx a=>a.elim (h.fv x) (g.fv x),⟨h.ax,g.ax⟩⟩
def Jw(A:Adr):Sp:=λf H Q _=>∃(Pl:zW)(a:zM)(d:List Pc)(c:Int)(M:zQ)(BD:zC),f=[.ref Pl,.int c]/\H Pl=some (.lst a)/\Paired (C4h M H) a d/\d.length<=3/\(∀p∈d,oF BD p)/\
 ∀(v:V)(T:Tm)(e:Hp),A0m H e->Ob A (iW (λb=>H b=none) e) v T->TmR BD T 10 d->Q v e
theorem Jb(T:Txt K mg t):FO P w base T.bF 7 (Jw t):=by
 refine T.bF.F.ok lM λ_ A _ s H _ Q E hr h=>?_
 ·refine ml h ?_;clear h;rintro Pl L ps c M BD rfl hP a9 l3 c4 k;have c3:=Paired.length a9;refine rsq (dV (gy 2 lM.nd (pmk T.dD (BX T) hr T.eU T.aE.b (bp (ff ja (pv 1) eA) ec))) (dV (jO (om rfl T.aA (bp (jF T.ah (eH 0)) ec)) (gw (i:=3) lM.nd) (dV ⟨nG (hG iQ (pv 0) (pv 3)) (lH (n:=3) rfl (iw (gw (i:=4) lM.nd) (iw (gw (i:=5) lM.nd) (iw (gw (i:=6) lM.nd) lJ))))⟩ (dV (gy 7 lM.nd (pmk T.fB (Jg T) hr T.fW T.bG.b (bp (pv 4) (bp (mh qF (by rfl) T.aY nO (eH 5)) ec)))) (dV (jO (kH (pv 6)) (lH (n:=3) rfl (iw (gw (i:=8) lM.nd) (iw (gw (i:=9) lM.nd) (iw (gw (i:=10) lM.nd) lJ)))) (ev (gy 7 lM.nd (pmk T.fw (JG T) hr T.fF T.bo.b (bp (pv 8) (bp (pv 9) (bp (pv 10) (bp (pv 7) (bp (pmk T.dD (BX T) hr T.eU T.aE.b (eH 3)) ec))))))))) (ev (gU (iu kS (pv 3) eA) (ev (gy 2 lM.nd (pv 7))) (ev (gU (iu kS (ff ja (ff jz (pv 1) (pv 3)) eA) eA) (ev (gy 2 lM.nd (pmk T.fN (wm T) hr T.fV T.aH.b (bp (pv 2) (eH 7))))) (ev (gU (iu kS (ff ja (ff jz (pv 1) (pv 3)) eA) eA) (ev (gy 2 lM.nd (pmk T.fz (wm T) hr T.fH T.aH.b (bp (pv 2) (eH 7))))) (ev (gy 2 lM.nd (pmk T.fA (wm T) hr T.fK T.aH.b (bp (pv 2) (eH 7))))))))))))))) (ev (gF (pv 2))))) ?_;refine gB _ rfl _ _ rfl rfl ⟨EI,λD g b1 b8 d6=>(jo D _ g _ rfl ck T.cG T.b6 rfl ?_)⟩;have u0:A0m H (upd (upd (upd H g (.own D)) D (.ins t.a8 g [])) D (.ins t.a8 g [("number",.int (c%1000))])):=tP b1 b8;have h0:upd (upd (upd H g (.own D)) D (.ins t.a8 g [])) D (.ins t.a8 g [("number",.int (c%1000))]) D=some (.ins t.a8 g [("number",.int (c%1000))]):=ck;generalize upd (upd (upd H g (.own D)) D (.ins t.a8 g [])) D (.ins t.a8 g [("number",.int (c%1000))])=H1 at u0 h0⊢;refine gB _ rfl Pl _ rfl (.inl (SqL.of (u0 _ _ hP))) (iF _ rfl (by lia) (by lia) ?_)
  refine px (n:=L.length) (λi Z G=>∃(o3 o4 o5 o6 o7 o8 o9 q:zP)(v:V)(Tt:Tm),Z=[Sro Pl,Sio c,some v,o3,o4,o5,o6,o7,o8,o9,q]/\A0m H G/\Ob t (iW (λb=>H b=none) G) v Tt/\TmR BD Tt (5+i) (ps.take i))
   (jB none none none none none none none (iE none (.ref D) (.num (c%1000)) rfl u0 (.num (mF b1 h0)) ⟨B8x.num BD _ (by lia),λU f=>by rw[List.take_zero];rfl⟩)) ?_ ?_
  ·rintro i Z G hi I;refine jk I ?_;clear I;rintro o3 o4 o5 o6 o7 o8 ⟨o9,q,v,Tt,rfl,sg,ob,r⟩;have b2:L[i]?=some L[i]:=gM hi;obtain⟨p,hp,pq,il,gl,iv,gv,d0,c8,_,c1,_,a7,ri,rg⟩:=iH a9 b2;have pi:=c4 p (gJ hp);have b5:=rg.len;have d3:=ri.len;rw[dm]at b5 d3;have d9:=pi.lg;have e1:=pi.lx;have ei:atI L (0+(i:Int))=some (.ref pq):=by rw[Int.zero_add];exact gH (by rw[b2,d0])
   refine ji _ rfl _ rfl Pl _ _ _ rfl rfl (SqL.of (sg _ _ hP)) ei (lD pq _ rfl (SqT.of (sg _ _ c8)) rfl _ _ rfl _ _ rfl (eu _ _ rfl rfl ?_));refine gK _ rfl _ rfl il _ rfl (.inl (SqL.of (sg _ _ c1))) λl2 d4 x dx hx b9 e0=>?_;have v1:A0m G (upd G l2 (.lst iv)):=gu d4;have a3:upd G l2 (.lst iv) l2=some (.lst iv):=ck;generalize upd G l2 (.lst iv)=G1 at v1 a3 hx b9⊢;have v2:A0m G1 (upd (upd G1 dx (.own x)) x (.ins t.af dx [])):=gT (gu b9) hx;have c0:upd (upd G1 dx (.own x)) x (.ins t.af dx []) x=some (.ins t.af dx []):=ck;generalize upd (upd G1 dx (.own x)) x (.ins t.af dx [])=G2 at v2 c0⊢;have s2:=sg.trans (v1.trans v2);refine⟨x,(jP dx l2 p.arr p.ix rfl c0 (.lst (v2 _ _ a3) ((ri.same (oM s2)).same (tH _))) (by lia) λl' G3 d5 d1 c7=>⟨rfl,?_⟩)⟩;have v3:A0m G1 G3:=λb o e=>c7 b o (gO e hx) (v2 _ _ e);have s3:=sg.trans (v1.trans v3);have c9:=ob.imp (ni (S:=λb=>H b=none) (v1.trans v3));have xH:H x=none:=(sg.trans v1).free hx;refine jv _ rfl gl rfl ⟨_,SqL.of (s3 _ _ a7)⟩ ?_
   refine nJ (K:=K) (a:=gl) (xs:=gv) (λj Z X=>∃(o8 o9 q:zP)(J:V)(T7:Tm),Z=[Sro Pl,Sio c,some v,Sio (0+(i:Int)),Sso p.arr,Sro il,Sro gl,some J,o8,o9,q]/\A0m G3 X/\Ob t (iW (λb=>H b=none) X) J T7/\TmG BD T7 p j)
    ⟨_,(jc _ _ (.ref x) (.read p.arr p.ix) rfl (A0m.refl _) (.read (mF xH d5) (d1.same (pz (A0m.refl _) λa o _ h=>s2.free h))) (TmG.start pi))⟩ (λj Z X _ zq=>by obtain⟨_,_,_,_,_,_,R,_⟩:=zq;exact SqL.of (R _ _ (s3 _ _ a7))) ?_ ?_
   ·rintro j y Z X hy I;refine ku I ?_;clear I;rintro a6 b4 a2 ⟨J,T7,rfl,R,N,tg⟩;obtain⟨gg,d2,ry⟩:=vm rg hy;obtain⟨gb,rfl,c2⟩:=xi (ry.same (tH H));refine lD gb _ rfl (SqT.of ((s3.trans R) _ _ c2)) rfl _ _ rfl _ _ rfl (eu _ _ rfl rfl ?_);refine bd _ rfl (gZ _ rfl _ rfl (gZ _ rfl _ rfl λB d b7 a5 d8=>(jo B _ d _ rfl ck T.cG T.b6 rfl ?_)));have y1:A0m X (upd (upd (upd X d (.own B)) B (.ins t.a8 d [])) B (.ins t.a8 d [("number",.int (0+(i:Int)))])):=tP b7 a5;have a1:upd (upd (upd X d (.own B)) B (.ins t.a8 d [])) B (.ins t.a8 d [("number",.int (0+(i:Int)))]) B=some (.ins t.a8 d [("number",.int (0+(i:Int)))]):=ck;generalize upd (upd (upd X d (.own B)) B (.ins t.a8 d [])) B (.ins t.a8 d [("number",.int (0+(i:Int)))])=X1 at y1 a1⊢;refine λgx a4 b0 b3 d7=>(jq gx a4 _ _ (iE _ _ _ rfl ck rfl ?_));have y2:=tP (u:=.ins t.aa a4 []) (o:=.own gx) (v:=.ins t.aa a4 [("axis",.str gg.1),("low",.int gg.2.1),("high",.int gg.2.2),("inner",J),("outer",.ref B)]) b0 b3;exact⟨_,(jc _ _ (.ref gx) _ rfl (R.trans (y1.trans y2)) (.guard (mF ((s3.trans (R.trans y1)).free b0) ck) ((N.imp (ni y1)).imp (ni y2)) (.num (mF ((s3.trans R).free b7) (y2 _ _ a1)))) (tg.step pi d2 _))⟩
   rintro Z X I;refine ku I ?_;clear I;rintro a6 b4 a2 ⟨J,T7,rfl,R,N,tg⟩;rw[b5]at tg;have sX:=s3.trans R;have c5:=c9.imp (ni (S:=λb=>H b=none) R);have Y:=tg.full;have t5:B8x BD T7 (5+i):=(⟨tg.gd,tg.dp,tg.fv,tg.ax⟩:B8x _ _ _).le (by lia);have tk:ps.take (i+1)=ps.take i++[p]:=by rw[iN,hp,jR]
   have O:∀(o:Op3),TmR BD (.pair o Tt T7) (5+(i+1)) (ps.take (i+1)):=λo=>⟨(⟨r.gd,r.dp,r.fv,r.ax⟩:B8x _ _ _).pair o t5,λU f=>by
    show rd U Tt f++rd U T7 f=_
    rw[r.rds,Y,tk,List.flatMap_append,List.flatMap_singleton]⟩
   have mk:∀(o:Op3)(C:zW),qp t o=C->∀(z l:zW),X z=none->X l=none->∃(o3 o4 o5 o6 o7 o8 o9 q:zP)(v':V)(Tt:Tm),[some (V.ref Pl),some (.int c),some (.ref z),some (.int (0+(i:Int))),some (.str p.arr),some (.ref il),some (.ref gl),some J,a6,b4,a2]=[some (.ref Pl),some (.int c),some v',o3,o4,o5,o6,o7,o8,o9,q]/\A0m H (upd (upd (upd X l (.own z)) z (.ins C l [])) z (.ins C l [("left",v),("right",J)]))/\Ob t (iW (λb=>H b=none) (upd (upd (upd X l (.own z)) z (.ins C l [])) z (.ins C l [("left",v),("right",J)]))) v' Tt/\TmR BD Tt (5+(i+1)) (ps.take (i+1)):=λo C hC z l W m=>by have y3:=tP (u:=.ins C l []) (o:=.own z) (v:=.ins C l [("left",v),("right",J)]) W m;subst hC;exact jB _ _ _ _ _ _ _ (iE _ (.ref z) (.pair o Tt T7) rfl (sX.trans y3) (.pair (mF (sX.free W) ck) (c5.imp (ni y3)) (N.imp (ni y3))) (O o))
   refine kJ _ rfl rfl _ rfl (iD (λh0=>?_) (λ_=>?_))
   ·have i0:i=0:=by
     have h0:V.int (0+(i:Int))=V.int 0:=h0;injection h0
     lia
    subst i0;refine bd _ rfl (jB _ _ _ _ _ _ _ (iE _ J T7 rfl sX N ⟨t5.le (by lia),λU f=>?_⟩));rw[Y,tk];simp
   refine gK _ rfl _ rfl _ _ rfl rfl (kI _ _ rfl rfl pF rfl _ rfl (iD (λ_=>?_) (λ_=>?_)))
   ·exact gZ _ rfl _ rfl λz l W m a0=>(kj z _ l _ _ rfl ck T.f7 T.ci T.bX rfl (mk .plus _ rfl z l W m))
   refine gK _ rfl _ rfl _ _ rfl rfl (kI _ _ rfl rfl pF rfl _ rfl (iD (λ_=>?_) (λ_=>?_)))
   ·exact gZ _ rfl _ rfl λz l W m a0=>(kj z _ l _ _ rfl ck T.eI T.bY T.bJ rfl (mk .minus _ rfl z l W m))
   ·exact gZ _ rfl _ rfl λz l W m a0=>(kj z _ l _ _ rfl ck T.eR T.c6 T.bE rfl (mk .times _ rfl z l W m))
  ·rintro Z G I;refine jk I ?_;clear I;rintro o3 o4 o5 o6 o7 o8 ⟨o9,q,v,Tt,rfl,sg,ob,r⟩;rw[c3]at r;rw[iY]at r;exact bd _ rfl (k v Tt G sg ob ⟨(⟨r.gd,r.dp,r.fv,r.ax⟩:B8x _ _ _).le (by lia),r.rds⟩)
def JM:Sp:=λi H Q _=>∃(g:Int)(v:V)(f:zW)(e:Lw)(b:zJ)(c d:zI)(M:zQ),i=[.int g,v,.ref f]/\B8y M H v e/\H f=some (.dK b)/\D0u ⟨e.own,e.sums,c,d⟩/\Sz b e.own c/\Sz b e.sums d/\OkS e.sums/\
 ∀(D:zW)(h:zM)(a:Hp),H D=none->A0m H a->a D=some (.lst h)->A5u a h (oq g ⟨e.own,e.sums,c,d⟩)->Q (.ref D) a
theorem JT(T:Txt K mg t):FO P w base T.bj 2 JM:=by
 refine T.bj.F.ok wu λ_ A _ s H _ Q E hr h=>?_
 ·refine jk h ?_;clear h;rintro N v ld lw lk so ⟨ss,M,rfl,⟨q,O,S,Pl,d3,rfl,hq,_,hO,_,hS,_,hP,_⟩,b0,ok,a7,a0,a3,k⟩;obtain⟨e,he⟩:∃e:Rw,e=⟨lw.own,lw.sums,so,ss⟩:=⟨_,rfl⟩;rw[<-he]at ok k;have hO:H O=some (.lst (e.own.map V.str)):=by rw[he];exact hO
  have hS:H S=some (.lst (e.sums.map V.str)):=by rw[he];exact hS
  have a7:Sz lk e.own e.so:=by rw[he];exact a7
  have a0:Sz lk e.sums e.ss:=by rw[he];exact a0
  have a3:OkS e.sums:=by rw[he];exact a3
  have a8:e.ss=[]↔e.sums=[]:=by
   have:=ok.ls;rw[<-qb,<-qb]
   lia
  have d5:=ok.cells;refine rsq (dV (gy 3 wu.nd (@iJ _ _ _ _ ec)) (dV (jO (kH (pcl (Bi T) hr T.bS (bp (pit 1) (eH 2)))) (gw (i:=4) wu.nd rfl (.inr rfl)) (ev (gU (iu (xM hr.units) (pit 1) (@iJ _ _ _ _ ec)) (ev ⟨lA (lh kY mr mq mi (pv 3) (bp (jJ (bp (pv 0) (bp jK (bp (pv 4) (bp (jJ ec) ec))))) ec))⟩) (dV ⟨lA (lh kY mr mq mi (pv 3) (bp (jJ (bp (pv 0) (bp jK (bp (pv 4) (bp (jJ ec) ec))))) ec))⟩ (ev ⟨lA (lh kY PySem.F.slot_list_extend PySem.F.type_list_extend vN (pv 3) (bp (lu (N':=["_law_turn","_law_cell","_law_k"]) (ix:=(List.replicate 1 none++[some 4,some 0])) rfl (AQ (cl:=[("_law_k",_),("_law_cell",_)]) (xs:=["_law_k","_law_cell"]) rfl (fI rfl rfl trivial) rfl rfl (by decide+kernel) (by decide+kernel)) (AK (N0:=["_law_turn"]) (xs:=["_law_cell","_law_k"]) (js:=[4,0]) (fI (fI rfl (.inl rfl) (by walk_at"ix")) (fI rfl (.inl rfl) (by walk_at"ix")) trivial)) (kH (pcl (Bi T) hr T.bS (bp (pit 1) (eH 2)))) (λ_ _ _ _=>(gw (i:=0) Hu)) (λ_ _ _ _=>(jJ (bp (pv 2) (bp jK (bp (pv 1) (eH 0))))))) ec))⟩))))) (ev (gF (pv 3))))) ?_;refine⟨gI rfl,λL hL=>?_⟩;obtain⟨H1,s1,c2,l⟩:=nH (o:=.lst []) hL;rw[l];refine i12 _ rfl q _ _ _ rfl rfl (SqT.of (s1 _ _ hq)) (gH (j:=1) rfl) (jA _ rfl O ld e.own lk e.so rfl (s1 _ _ hO) (s1 _ _ b0) a7 ok.go λcq H2 c3 s2 ⟨ps,b8,cs⟩=>?_);have a9:=s1.trans s2;have c1:=s2 _ _ c2;have cL:cq≠L:=λz=>by rw[z,c2]at c3;cases c3
  have d0:=cs.len;refine eh cq rfl ⟨_,SqL.of b8⟩ ?_
  refine nJ (K:=K) (a:=cq) (xs:=ps.map V.ref) (λj Z G=>∃(o5:zP)(f:zM),Z=[Sio N,Sro q,Sro ld,Sro L,o5]/\KB L H2 G/\G L=some (.lst f)/\A5u G f (((ia e.so).take j).flatMap (jt N e.ss)))
   (gL none [] rfl KB.refl c1 .nil) (λj Z G _ zq=>by obtain⟨_,_,_,kb,_⟩:=zq;exact SqL.of (kb _ _ cL b8)) ?_ ?_
  ·rintro j x Z G hx ⟨o5,f,rfl,kb,g,p⟩;obtain⟨pc,b2,rfl⟩:=kT hx;obtain⟨c,hc,b1⟩:=cs.get b2;have J:G pc=some (.tup (c.map V.int)):=kb _ _ (iI b1 c1 (by intro z;cases z)) b1;have sg:A0m H G:=KB.same a9 kb hL;have lz:=Paired.length p;have pl:=GE (k:=N) ok j;have tk:((ia e.so).take (j+1)).flatMap (jt N e.ss)=((ia e.so).take j).flatMap (jt N e.ss)++jt N e.ss c:=by rw[iN,hc,jR,List.flatMap_append,List.flatMap_singleton]
   refine lO _ rfl q _ _ _ rfl rfl (SqT.of (sg _ _ hq)) (gH (j:=2) rfl) (gI rfl) λn0 c8=>?_;have t0:A0m G (upd G n0 (.lst [])):=gu c8;have b7:upd G n0 (.lst []) n0=some (.lst (([]:zC).map V.str)):=ck;generalize upd G n0 (.lst [])=G1 at t0 b7⊢;refine kI (jH e.sums) (jH []) (nA ((sg.trans t0) _ _ hS)) (nA b7) (qB (vI a3) (by have:=(ph e.sums).1;lia)) rfl _ rfl ?_;rw[vt];refine iD (λhz=>?_) (λhz=>?_)
   ·refine eh _ rfl (.inl (iU rfl _ (SqL.of (t0 _ _ g)))) (jv _ rfl _ rfl (gI rfl) λr a5=>⟨gI rfl,λb hb=>?_⟩);have t1:A0m G1 (upd G1 r (.tup [])):=gu a5;have C:upd G1 r (.tup []) r=some (.tup (([]:zI).map V.int)):=ck;generalize upd G1 r (.tup [])=G2 at t1 C hb⊢;obtain⟨R,t2,a2,l⟩:=nH (o:=.tup [.int N,.str "set",.ref pc,.ref r]) hb;rw[l];have d:=t0.trans (t1.trans t2);refine iL L _ _ rfl rfl (d _ _ g) (hV (by lia)) ?_;have X:KT R (upd R L (.lst (f++[.ref b]))):=KT.at (d _ _ g) (by intro xs z;cases z);refine gL _ (f++[.ref b]) rfl ((kb.trans (KB.of d)).upd) ck ?_;rw[tk];refine lb (p.kt ((KT.same d).trans X)) ?_;unfold jt;rw[dn (a8.mpr hz)];exact .cons (iE b pc r rfl (X _ _ a2) (X _ _ (d _ _ J)) (X _ _ (t2 _ _ C))) .nil
   ·refine eh _ rfl (.inl (iU rfl _ (SqL.of (t0 _ _ g)))) (jv _ rfl _ rfl (gI rfl) λr a5=>⟨gI rfl,λb hb=>?_⟩);have t1:A0m G1 (upd G1 r (.tup [])):=gu a5;have C:upd G1 r (.tup []) r=some (.tup (([]:zI).map V.int)):=ck;generalize upd G1 r (.tup [])=G2 at t1 C hb⊢;obtain⟨R,t2,a2,l⟩:=nH (o:=.tup [.int N,.str "start",.ref pc,.ref r]) hb;rw[l];have d:=t0.trans (t1.trans t2);refine iL L _ _ rfl rfl (d _ _ g) (hV (by lia)) ?_;have X:KT R (upd R L (.lst (f++[.ref b]))):=KT.at (d _ _ g) (by intro xs z;cases z);have a1:upd R L (.lst (f++[.ref b])) L=some (.lst (f++[.ref b])):=ck;have b9:KB L R (upd R L (.lst (f++[.ref b]))):=KB.refl.upd;have U:A0m H (upd R L (.lst (f++[.ref b]))):=gT (sg.trans d) hL;generalize upd R L (.lst (f++[.ref b]))=G4 at X a1 b9 U⊢;have I:=(KT.same d).trans X;refine eh _ rfl (.inl (iU rfl _ (SqL.of a1))) (i12 _ rfl q _ _ _ rfl rfl (SqT.of (U _ _ hq)) (gH (j:=2) rfl) (jA _ rfl S ld e.sums lk e.ss rfl (U _ _ hS) (U _ _ b0) a0 ok.gs λtq G5 d4 s5 ⟨qs,b4,ct⟩=>(eh tq rfl ⟨_,SqL.of b4⟩ λD hD=>?_)));have d1:=ct.len;refine oP (K:=K) (a:=tq) (D:=D) (xs:=qs.map V.ref) (λi y B=>A0m G5 B/\B D=some (.lst y)/\A5u B y (((ia e.ss).take i).map λu=>(N,("add":Str),c,u))) (fI (gu hD) ck .nil) (λi y B ⟨W,_⟩=>SqL.of (W _ _ b4)) ?_ ?_
    ·rintro i x y B c4 ⟨W,a6,n⟩;obtain⟨qc,c7,rfl⟩:=kT c4;obtain⟨u,d2,c9⟩:=ct.get c7;have ly:=Paired.length n;rw[dm,jf]at ly;refine iB (fI rfl rfl True.intro) _ rfl (jv _ rfl _ rfl (gI rfl) λbb c5=>?_);obtain⟨G7,v1,c6,l⟩:=nH (o:=.tup [.int N,.str "add",.ref pc,.ref qc]) c5;rw[l];have b6:=v1 _ _ a6;have Y:KT G7 (upd G7 D (.lst (y++[.ref bb]))):=KT.at b6 (by intro xs z;cases z);refine iT b6 (hV (by lia)) (gT (W.trans v1) hD) ck ?_;rw[iN,d2,jR,gN];refine lb (n.kt ((KT.same v1).trans Y)) (.cons (iE bb pc qc rfl (Y _ _ c6) (Y _ _ (v1 _ _ (W _ _ (s5 _ _ (I _ _ J))))) (Y _ _ (v1 _ _ (W _ _ c9)))) .nil)
    ·rintro y B ⟨W,a6,n⟩;rw[dm,d1,iY]at n;have ly:=Paired.length n;rw[dm]at ly;have c0:=(s5.trans W) _ _ a1;refine jo L D _ _ rfl rfl c0 a6 (jV (by rw[ic];simp;lia)) ?_;have a4:KT B (upd B L (.lst (f++[.ref b]++y))):=KT.at c0 (by intro xs z;cases z);have b3:upd B L (.lst (f++[.ref b]++y)) L=some (.lst (f++[.ref b]++y)):=ck;have b5:KB L B (upd B L (.lst (f++[.ref b]++y))):=KB.refl.upd;generalize upd B L (.lst (f++[.ref b]++y))=G8 at a4 b3 b5⊢;refine gL _ (f++[.ref b]++y) rfl ((kb.trans (KB.of d)).trans ((b9.trans (KB.of (s5.trans W))).trans b5)) b3 ?_;rw[tk];have m:=(KT.same (s5.trans W)).trans a4;rw[oB];refine lb (p.kt (I.trans m)) ?_;unfold jt;rw[dh (λz=>hz (a8.mp z))];exact .cons (iE b pc r rfl (m _ _ (X _ _ a2)) (m _ _ (I _ _ J)) (m _ _ (X _ _ (t2 _ _ C)))) (n.kt a4)
  ·rintro Z G ⟨o5,f,rfl,kb,g,p⟩;rw[dm,d0,iY]at p;exact bd _ rfl (k L f G hL (KB.same a9 kb hL) g p)
theorem GT{k:Key}{p:Key×V}(a:p∈kvs)(b:p.1=k):(fC kvs k).isSome=true:=by unfold fC;rw[Option.isSome_map,List.find?_isSome];exact bd p a (by simp[b])
theorem Dv(h:AR S H kvs es){e:Str×List Str}(r:e∈es):∃(l:zW)(b:Str×List Str),fC kvs (Sum.inr e.1)=some (.ref l)/\b∈es/\b.1=e.1/\H l=some (.lst (b.2.map V.str)):=by
 obtain⟨i,k⟩:=List.getElem?_of_mem r;have f:i<kvs.length:=by rw[Paired.length h];exact(gG.mp k).1
 have m:kvs[i]?=some kvs[i]:=gM f;obtain⟨w,a,o,_⟩:=iH h m;rw[k]at a;cases a;obtain⟨v,g⟩:=Option.isSome_iff_exists.mp (GT (gJ m) o);obtain⟨p,s,q,rfl⟩:=As g;obtain⟨j,u⟩:=List.getElem?_of_mem s;refine rL (iH h u) ?_;rintro b d c ⟨l,t,_,n⟩;rw[q]at c;refine gL l b (by rw[g,t]) (gJ d) ?_ n;injection c with c;exact c.symm
def nu(lk:zJ)(ys:zC):Prop:=∀y∈ys,∃n:Int,fC lk (Sum.inr y)=some (.int n)/\1<=n/\n<=60
structure D3w(lk:zJ)(es:zB):Prop where
 dk:∀e∈es,nu lk e.2
 l4:∀e∈es,e.2.length<=4
 ok:∀e∈es,PyData.strOk e.1=true
 few:es.length<=900
theorem Em{xs:zC}(h:OkN xs):OkS xs:=λx a=>(h x a).1
def sP(nm:Str)(own:zC)(p:Pc):Prop:=p.arr=nm->∃(k:Nat)(y:Str)(z:Int),p.ix[k]?=some (y,z)/\own[k]?=some y/\z<0/\∀k'<k,∃a,p.ix[k']?=some (a,0)/\own[k']?=some a
def FxO(nm:Str)(own b:zC)(a:Str)(axs:zC)(fx:Int):Prop:=(fx= -1/\a≠nm/\a∈b)\/(a=nm/\axs=own/\0<=fx/\fx<own.length)
def D8o(fx:Int)(axs:zC)(ix:zL)(i:Nat):Prop:=∀k:Nat,k<i->(fx=k->∃(y:Str)(z:Int),ix[k]?=some (y,z)/\axs[k]?=some y/\z<0)/\((k:Int)<fx->∃y:Str,ix[k]?=some (y,0)/\axs[k]?=some y)
theorem D8o.snoc{b:Str}{sh:Int}(h:D8o fx axs ix i)(d:ix.length=i)(hs:(fx=(i:Int)->axs[i]?=some b/\sh<0)/\((i:Int)<fx->axs[i]?=some b/\sh=0)):D8o fx axs (ix++[(b,sh)]) (i+1):=λk j=>by
 rcases Nat.lt_or_ge k i with c|c
 ·obtain⟨f,g⟩:=h k c;rw[nj (by lia)];exact⟨f,g⟩
 ·have e:k=i:=by lia
  subst e;rw[nP (by lia),d,Nat.sub_self];exact⟨λa=>(eu b sh rfl ((hs.1 a).1) ((hs.1 a).2)),λa=>(bd b (by rw[(hs.2 a).2];rfl) ((hs.2 a).1))⟩
theorem FxO.own{own b:zC}{a:Str}{g:List (Str×Int×Int)}(h:FxO nm own b a axs fx)(o:D8o fx axs ix axs.length):sP nm own ⟨a,ix,g⟩:=λe=>by
 rcases h with ⟨_,h,_⟩|⟨_,f,m,l⟩
 ·exact absurd e h
 ·subst f;obtain⟨y,z,c,d,k⟩:=(o fx.toNat (by lia)).1 (by lia);exact iE _ y z c d k λj i=>(o j (by lia)).2 (by lia)
theorem FxO.fr{own b:zC}{a:Str}(h:FxO nm own b a axs fx):a=nm\/a∈b:=h.elim (λh=>.inr h.2.2) λh=>.inl h.1
def JD:Sp:=λn H Q _=>∃(j:zW)(l:zI)(k i q O S:zW)(m g:zJ)(d:zB)(e:Str)(c a:zC)(f:zM)(Zz:zV),n=[.ref j,.ref k,.ref i,.ref q]/\H j=some (.lst (l.map V.int))/\l.length=5/\H k=some (.dK m)/\AR Zz H m d/\H i=some (.dK g)/\D3w g d/\d≠[]/\e∉d.map (·.1)/\
 H q=some (.tup (.str e:: .ref O:: .ref S::f))/\H O=some (.lst (c.map V.str))/\H S=some (.lst (a.map V.str))/\nu g (c++a)/\OkN (c++a)/\c.length<=4/\a.length<=4/\PyData.strOk e=true/\
 ∀(z:zW)(p:Pc)(h:Hp),A0m H h->(∀M:zQ,(∀b∈M,H b≠none)->C4h M h (.ref z) p)->oF (c++a) p->sP e c p->(p.arr=e\/p.arr∈d.map (·.1))->Q (.ref z) h
structure PB(H G:Hp)(I D:zW)(iv gv:zM)(BD:zC)(ix:zL)(gs:List (Str×Int×Int))(n:Nat):Prop where
 sm:A0m H G
 hI:G I=some (.lst iv)
 hD:G D=some (.lst gv)
 ri:A4c (TH G) iv (ix.map lE)
 rg:A4c (TH G) gv (gs.map pG)
 li:ix.length=n
 lg:gs.length<=n
 bi:∀e∈ix,e.1=""\/e.1∈BD
 bg:∀g∈gs,g.1∈BD
theorem JJ(T:Txt K mg t):FO P w base T.bu 2 JD:=by
 refine T.bu.F.ok lN λ_ A _ s H _ Q E hr h=>?_
 ·refine oR h ?_;clear h;rintro xl xn N ld q O S ak lk es nm c d h0 ⟨Zz,rfl,a7,h7,a4,ar,c7,a9,d6,f0,hq,hO,hS,dk,d9,lo,ls,c8,k⟩;have hu:=mC hr;have d4:=Paired.length ar;have h6:=a9.few
  have h5:0<es.length:=by
   have:=d6;rcases es with _|_
   ·exact absurd rfl this
   ·simp
  refine rsq (dV (gy 4 lN.nd (hG iQ (FY (lu (N':=["_law_name"]) (ix:=(List.replicate 1 none)) rfl (mI rfl (by decide+kernel) (by decide+kernel)) (mH rfl) (qZ (pv 1)) (λ_ _ _ _=>(gw (i:=0) Gs)) (λ_ _ _ _=>(pv 0)))) (ff ja (pil 0) (jb vT (by rfl) T.ah rT (eH 1))))) (dV (gy 5 lN.nd (kG hu (pv 1) (pv 4))) (dV (gy 6 lN.nd (xh xK eA)) (pB (gU (PW.pt (vd (iu (sV hr.units) (pit 3) (@iJ _ _ _ _ ec)) (vk (iu kS (ff ja (ff mf (pil 0) eA) eA) eA)))) (dV (gy 4 lN.nd (pit 3)) (dV (gy 5 lN.nd (pit 3)) (ev (gy 6 lN.nd (ff ja (ff mf (pil 0) eA) (jF T.ah (eH 5))))))) ⟨gR⟩) (dV (gy 7 lN.nd (@iJ _ _ _ _ ec)) (dV (gy 8 lN.nd (@iJ _ _ _ _ ec)) (dV (jO (om rfl T.aA (bp (jF T.ah (eH 5)) ec)) (gw (i:=9) lN.nd) (dV (gy 10 lN.nd (kG hu (pv 2) (hG iQ (pv 5) (pv 9)))) (dV ⟨nG (pcl (J6 T) hr T.bf (bp (hG iQ (pv 0) (ff jz eA (pv 9))) (bp (ff nD (pit 3) (pit 3)) (eH 10)))) (lH (n:=2) rfl (iw (gw (i:=11) lN.nd) (iw (gw (i:=12) lN.nd) lJ)))⟩ (pB (gU (iu sK (pv 9) (pv 6)) (dV (gy 11 lN.nd (hG iQ (pv 5) (pv 9))) (ev (gy 12 lN.nd (ff qt eA (ff nV (mh GZ (by rfl) T.fQ PyProof.Rows.boot_int (bp (qY kS (pv 9) (pv 6)) ec)) (ff jz eA (ff ja (ff mf (hG iQ (pv 0) (ff jz eA (pv 9))) eA) eA))))))) ⟨gR⟩) (pB (gU (PW.pt (vd (iu sN (pv 11) jK) (vk (PW.pt (lY (iu oK (pv 12) eA) (oO (iu uM (ff jz (kG hu (pv 2) (pv 11)) (pv 12)) (pv 10)))))))) (ev ⟨lA (lh kY mr mq mi (pv 8) (bp (jJ (bp (pv 11) (bp (ff qt eA (pv 12)) (bp (ff qt (pv 10) (pv 12)) ec)))) ec))⟩) ⟨gR⟩) (ev ⟨lA (lh kY mr mq mi (pv 7) (bp (jJ (bp (pv 11) (eH 12))) ec))⟩)))))) (ev (gF (jJ (bp (pv 4) (bp (pv 7) (eH 8))))))))))))) ?_;obtain⟨one,hone⟩:∃z,xn[0]?=some z:=⟨xn[0],gM (by lia)⟩;have e0:atI (xn.map V.int) ((0:Nat):Int)=some (.int one):=gH (by rw[iG,hone];rfl);refine gB _ rfl N ak rfl a4 λo D hD=>?_;have Da:D≠N:=λz=>by subst z;rw[ck]at hD;cases hD
  refine rq (J:=Itd N o ak) (D:=D) ak.length (λi ys Hx=>A0m (upd H N (.frz o (.dK ak))) Hx/\Hx D=some (.lst ys)/\ys=((es.take i).map (·.1)).map V.str) (fI (gu hD) ck rfl) (λi ys Hx hi ⟨s2,_⟩=>⟨s2 _ _ ck,hi⟩) (λys Hx ⟨s2,_⟩=>⟨s2 _ _ ck,rfl⟩) ?_ ?_
  ·rintro i ys Hx hi ⟨sx,a8,rfl⟩ x Hy ⟨rfl,k',v,g5,rfl⟩;obtain⟨e,he,ek,_⟩:=iH ar g5;have ek:k'=Sum.inr e.1:=ek;subst ek;refine iU True.intro _ (jd rfl a8 (hV (by simp;lia)) (gT sx hD) ck ?_);rw[iN,he,jR,gN,gN];rfl
  rintro ys Hx ⟨sx,a8,rfl⟩;rw[d4,iY]at a8;refine jQ N o _ (sx _ _ ck) (λo' u' z=>by have z:H N=some (.frz o' u'):=z;rw[a4]at z;cases z) ?_;have st:A0m H (upd Hx N (.dK ak)):=qD a4 sx;have d7:upd Hx N (.dK ak) D=some (.lst ((es.map (·.1)).map V.str)):=by rw[dt Da];exact a8
  generalize upd Hx N (.dK ak)=Gt at st d7⊢;have e5:0<=one%(ak.length:Int):=lQ _ (by lia);have d1:one%(ak.length:Int)<((es.map (·.1)).map V.str).length:=by rw[dm,dm,<-d4];exact nn _ (by lia)
  obtain⟨x0,f6,e8⟩:=tI (f:=V.str) (xs:=es.map (·.1)) e5 (by simpa using d1);obtain⟨c3,b0,b5⟩:=gS.mp (gJ f6);obtain⟨l1,e1,e6,e7,h8,f8⟩:=Dv ar b0;rw[b5]at e6;refine i12 _ rfl xl _ _ _ rfl rfl (SqL.of (st _ _ a7)) e0 (gB _ rfl N ak rfl (st _ _ a4) (gL _ _ rfl rfl (by show(0:Int)<(ak.length:Int);lia) (jP D _ _ _ rfl rfl (SqL.of d7) e8 ?_)));have gd:=A7q.k (H:=Gt) (a:=N) (k:=Sum.inr x0) (st _ _ a4);rw[e6]at gd;refine gK _ rfl _ rfl N _ rfl gd ?_;refine bd _ rfl ?_;refine bd (λZ G=>∃(l:Str)(L:zW)(b:zC)(fx:Int),Z=[Sro xl,Sro N,Sro ld,Sro q,Sso l,Sro L,Sio fx,none,none,none,none,none,none]/\A0m H G/\G L=some (.lst (b.map V.str))/\nu lk b/\b.length<=4/\PyData.strOk l=true/\FxO nm c (es.map (·.1)) l b fx) ?_ ?_
  ·have a6:∀G,A0m H G->∃(l:Str)(L:zW)(b:zC)(fx:Int),[some (V.ref xl),some (.ref N),some (.ref ld),some (.ref q),some (.str x0),some (.ref l1),some (.int (-1)),none,none,none,none,none,none]=[some (.ref xl),some (.ref N),some (.ref ld),some (.ref q),some (.str l),some (.ref L),some (.int fx),none,none,none,none,none,none]/\A0m H G/\G L=some (.lst (b.map V.str))/\nu lk b/\b.length<=4/\PyData.strOk l=true/\FxO nm c (es.map (·.1)) l b fx:=λG sG=>
    (jo x0 l1 e1.2 (-1) rfl sG (sG _ _ f8) (a9.dk e1 e7) (a9.l4 e1 e7) ⟨(by rw[<-b5];exact a9.ok c3 b0),.inl (fI rfl (λz=>f0 (by rw[<-z,<-b5];exact gS.mpr (bd c3 b0 rfl))) (by rw[<-b5];exact gS.mpr (bd c3 b0 rfl)))⟩)
   refine lO _ rfl q _ _ _ rfl rfl (SqT.of (st _ _ hq)) (gH (j:=1) rfl) (gI rfl) λz hz=>?_;have t1:A0m Gt (upd Gt z (.lst [])):=gu hz;have a2:upd Gt z (.lst []) z=some (.lst (([]:zC).map V.str)):=ck;generalize upd Gt z (.lst [])=G1 at t1 a2⊢;have s1:=st.trans t1;refine kI (jH c) (jH []) (nA (s1 _ _ hO)) (nA a2) (qB (vI λx hx=>(d9 x (mT _ hx)).1) (by have:=(ph c).1;lia)) rfl _ rfl ?_;rw[vt];refine sJ (λa3=>?_) (λ_=>hB (a6 G1 s1))
   have g9:0<c.length:=by
    rcases c with _|_
    ·exact absurd rfl a3
    ·simp
   refine i12 _ rfl xl _ _ _ rfl rfl (SqL.of (s1 _ _ a7)) e0 (gL _ _ rfl rfl ⟨by decide,by decide⟩ (kI _ _ rfl rfl pF rfl _ rfl (iD (λ_=>?_) (λ_=>a6 G1 s1))));refine i12 _ rfl q _ _ _ rfl rfl (SqT.of (s1 _ _ hq)) (gH (j:=0) rfl) ?_;refine i12 _ rfl q _ _ _ rfl rfl (SqT.of (s1 _ _ hq)) (gH (j:=1) rfl) ?_;refine i12 _ rfl xl _ _ _ rfl rfl (SqL.of (s1 _ _ a7)) e0 (gL _ _ rfl rfl ⟨by decide,by decide⟩ (gB _ rfl O _ rfl (.inl (SqL.of (s1 _ _ hO))) (gL _ _ rfl rfl (by show(0:Int)<((c.map V.str).length:Int);rw[dm];lia) ?_)));exact jo nm O c _ rfl s1 (s1 _ _ hO) (λy hy=>dk y (mT _ hy)) lo ⟨c8,.inr (jx rfl rfl (by rw[dm];exact lQ _ (by lia)) (by rw[dm];exact nn _ (by lia)))⟩
  rintro Z G zz;refine jM zz ?_;clear zz;rintro l L b fx rfl sG hL f4 ⟨l4,f3,c4⟩;refine⟨gI rfl,λI hI=>?_⟩;obtain⟨G1,t1,c6,a1⟩:=nH (o:=.lst []) hI;have I0:H I=none:=sG.free hI;rw[a1];refine⟨gI rfl,λC b3=>?_⟩;obtain⟨G2,t2,d0,a1⟩:=nH (o:=.lst []) b3;have c5:H C=none:=(sG.trans t1).free b3;have ID:I≠C:=gO c6 b3;rw[a1];have s2:=sG.trans (t1.trans t2);have e3:=(t1.trans t2) _ _ hL;have LI:L≠I:=gO hL hI;have LD:L≠C:=gO (t1 _ _ hL) b3;refine gB _ rfl L _ rfl (.inl (SqL.of e3)) (iF _ rfl (by lia) (by rw[dm];lia) ?_)
  refine px (n:=(b.map V.str).length) (λi Z X=>∃(b9 c0 c2 c1:zP)(iv W:zM)(ix:zL)(gs:List (Str×Int×Int)),Z=[Sro xl,Sro N,Sro ld,Sro q,Sso l,Sro L,Sio fx,Sro I,Sro C,b9,c0,c2,c1]/\PB H X I C iv W (c++d) ix gs i/\X L=some (.lst (b.map V.str))/\D8o fx b ix i)
   (jq none none none none (jc [] [] [] [] rfl ⟨s2,t2 _ _ c6,d0,.nil,.nil,rfl,fa _,(by intro e he;cases he),(by intro e he;cases he)⟩ e3 λk h=>absurd h (Nat.not_lt_zero _))) ?_ ?_
  ·rintro i Z X hi zz;refine jk zz ?_;clear zz;rintro b9 c0 c2 c1 iv W ⟨ix,gs,rfl,r,b2,b4⟩;rw[dm]at hi;have a5:b[i]?=some b[i]:=gM hi;have ey:atI (b.map V.str) (0+(i:Int))=some (.str b[i]):=by rw[Int.zero_add];exact gH (by rw[iG,a5];rfl)
   obtain⟨ln,g6,f9,c9⟩:=f4 _ (gJ a5);have sX:=r.sm;obtain⟨two,htwo⟩:∃z,xn[1+i]?=some z:=⟨xn[1+i]'(by lia),gM _⟩
   have e2:atI (xn.map V.int) (1+(0+(i:Int)))=some (.int two):=by rw[show(1+(0+(i:Int)):Int)=((1+i:Nat):Int)by lia];exact gH (by rw[iG,htwo];rfl)
   have g1:=A7q.k (H:=X) (a:=ld) (k:=Sum.inr b[i]) (sX _ _ c7);rw[g6]at g1;refine bd _ rfl (ji _ rfl _ rfl L _ _ _ rfl rfl (SqL.of b2) ey (eu ld _ rfl g1 ?_));refine gK _ rfl _ rfl _ _ rfl rfl (jP xl _ _ _ rfl rfl (SqL.of (sX _ _ a7)) e2 (i12 _ rfl q _ _ _ rfl rfl (SqT.of (sX _ _ hq)) (gH (j:=1) rfl) (i12 _ rfl q _ _ _ rfl rfl (SqT.of (sX _ _ hq)) (gH (j:=2) rfl) (jo O S _ _ rfl rfl (sX _ _ hO) (sX _ _ hS) (jV (by rw[dm,dm];lia)) λbl g7=>?_))));have u1:A0m X (upd X bl (.lst (c.map V.str++d.map V.str))):=gu g7;have b6:upd X bl (.lst (c.map V.str++d.map V.str)) bl=some (.lst ((c++d).map V.str)):=by rw[ck,gN]
   generalize upd X bl (.lst (c.map V.str++d.map V.str))=X1 at u1 b6⊢;refine lO _ rfl two ln bl (c++d) rfl b6 f9 c9 (Em d9) ⟨by rw[ic];lia,λtq B u X2 v2 g0 b1=>?_⟩;refine lD tq _ rfl (SqT.of g0) rfl _ _ rfl _ _ rfl ⟨rfl,?_⟩;have u2:=u1.trans v2;refine bd (λZ Y=>∃(B:Str)(u:Int),Z=[Sro xl,Sro N,Sro ld,Sro q,Sso l,Sro L,Sio fx,Sro I,Sro C,Sio (0+(i:Int)),Sio ln,Sso B,Sio u]/\X2=Y/\(B=""\/B∈c++d)/\(fx=(i:Int)->b[i]?=some B/\u<0)/\((i:Int)<fx->b[i]?=some B/\u=0)) ?_ ?_
   ·refine gK _ rfl _ rfl _ _ rfl rfl (bd _ rfl (iD (λd5=>?_) (λhn=>(iM B u rfl rfl b1 (λz=>absurd (show 0+(i:Int)<=fx by lia) hn) λz=>absurd (show 0+(i:Int)<=fx by lia) hn))));have d5:0+(i:Int)<=fx:=d5
    have eo:b=c:=by
     rcases c4 with h|h
     ·have:=h.1
      lia
     ·exact h.2.1
    refine ji _ rfl _ rfl L _ _ _ rfl rfl (SqL.of (u2 _ _ b2)) ey ?_;refine jv _ rfl _ rfl rfl (.inr (bd _ rfl (gK _ rfl _ rfl _ _ rfl rfl (jc xl _ _ _ rfl rfl (SqL.of (u2 _ _ (sX _ _ a7))) (jp e2 _ _ rfl rfl (jp ⟨by decide,by decide⟩ _ _ rfl rfl (kW ur _ _ rfl (jp rfl _ _ rfl rfl (jp (.inr ⟨by lia,by lia⟩) _ _ rfl rfl ?_)))))))));refine iM (b[i]) _ rfl rfl (.inr (mT _ (by rw[<-eo];exact gJ a5))) (λz=>⟨a5,?_⟩) λz=>⟨a5,?_⟩
    ·rw[z,Int.zero_add];simp
     lia
    ·have a3:¬(V.int (0+(i:Int))=V.int fx):=λe=>by
      injection e with e
      lia
     have e4:¬((i:Int)=fx):=by lia
     simp[e4]
   rintro Z Y ⟨B,u,rfl,rfl,b1,g4⟩;have p:PB H X2 I C iv W (c++d) ix gs i:=⟨sX.trans u2,u2 _ _ r.hI,u2 _ _ r.hD,r.ri.same (oM u2),r.rg.same (oM u2),r.li,r.lg,r.bi,r.bg⟩;have b8:=u2 _ _ b2
   have h4:W.length<=4:=by
    have h1:=r.rg.len;have h2:=r.lg;rw[dm]at h1
    lia
   have h3:iv.length<=4:=by
    have h1:=r.ri.len;have h2:=r.li;rw[dm]at h1
    lia
   refine bd (λZ Y=>∃(W:zM)(gs:List (Str×Int×Int)),Z=[Sro xl,Sro N,Sro ld,Sro q,Sso l,Sro L,Sio fx,Sro I,Sro C,Sio (0+(i:Int)),Sio ln,Sso B,Sio u]/\A0m H Y/\Y I=some (.lst iv)/\Y C=some (.lst W)/\A4c (TH Y) iv (ix.map lE)/\A4c (TH Y) W (gs.map pG)/\gs.length<=i+1/\(∀g∈gs,g.1∈c++d)/\Y L=some (.lst (b.map V.str))) ?_ ?_
   ·have no:∃(a0:zM)(U:List (Str×Int×Int)),[some (V.ref xl),some (.ref N),some (.ref ld),some (.ref q),some (.str l),some (.ref L),some (.int fx),some (.ref I),some (.ref C),some (.int (0+(i:Int))),some (.int ln),some (.str B),some (.int u)]=[some (.ref xl),some (.ref N),some (.ref ld),some (.ref q),some (.str l),some (.ref L),some (.int fx),some (.ref I),some (.ref C),some (.int (0+(i:Int))),some (.int ln),some (.str B),some (.int u)]/\A0m H X2/\X2 I=some (.lst iv)/\X2 C=some (.lst a0)/\A4c (TH X2) iv (ix.map lE)/\A4c (TH X2) a0 (U.map pG)/\U.length<=i+1/\(∀g∈U,g.1∈c++d)/\X2 L=some (.lst (b.map V.str)):=
     (gL W gs rfl p.sm p.hI (jd p.hD p.ri p.rg (by have:=r.lg;lia) r.bg b8))
    refine kJ _ rfl rfl _ rfl (sJ (λa3=>?_) (λ_=>hB no));have a3:B≠"":=λz=>a3 (by rw[z]);have d2:B∈c++d:=b1.resolve_left a3;obtain⟨na,g3,_,_⟩:=dk B d2;have g2:=A7q.k (H:=X2) (a:=ld) (k:=Sum.inr B) (p.sm _ _ c7);rw[g3]at g2
    have d8:∀z,X2 z=none->∃(a0:zM)(U:List (Str×Int×Int)),[some (V.ref xl),some (.ref N),some (.ref ld),some (.ref q),some (.str l),some (.ref L),some (.int fx),some (.ref I),some (.ref C),some (.int (0+(i:Int))),some (.int ln),some (.str B),some (.int u)]=[some (.ref xl),some (.ref N),some (.ref ld),some (.ref q),some (.str l),some (.ref L),some (.int fx),some (.ref I),some (.ref C),some (.int (0+(i:Int))),some (.int ln),some (.str B),some (.int u)]/\A0m H (upd (upd X2 z (.tup [.str B,.int (0-u),.int (ln-u)])) C (.lst (W++[.ref z])))/\upd (upd X2 z (.tup [.str B,.int (0-u),.int (ln-u)])) C (.lst (W++[.ref z])) I=some (.lst iv)/\upd (upd X2 z (.tup [.str B,.int (0-u),.int (ln-u)])) C (.lst (W++[.ref z])) C=some (.lst a0)/\A4c (TH (upd (upd X2 z (.tup [.str B,.int (0-u),.int (ln-u)])) C (.lst (W++[.ref z])))) iv (ix.map lE)/\A4c (TH (upd (upd X2 z (.tup [.str B,.int (0-u),.int (ln-u)])) C (.lst (W++[.ref z])))) a0 (U.map pG)/\U.length<=i+1/\(∀g∈U,g.1∈c++d)/\upd (upd X2 z (.tup [.str B,.int (0-u),.int (ln-u)])) C (.lst (W++[.ref z])) L=some (.lst (b.map V.str)):=λz hz=>by
     obtain⟨X3,R,a2,a1⟩:=nH (o:=.tup [.str B,.int (0-u),.int (ln-u)]) hz;rw[a1];have kt:KT X3 (upd X3 C (.lst (W++[.ref z]))):=KT.at (R _ _ p.hD) (by intro xs z;cases z);refine gL (W++[.ref z]) (gs++[(B,0-u,ln-u)]) rfl (gT (p.sm.trans R) c5) (by rw[dt ID];exact R _ _ p.hI) (jd ck (p.ri.same ((oM R).trans (pK kt))) ?_ (by have:=r.lg;rw[ic,kL];lia) (λg hg=>?_) (by rw[dt LD];exact R _ _ b8))
     ·rw[gN];exact(p.rg.same ((oM R).trans (pK kt))).snoc (.tup (uJ (kt _ _ a2)) (.cons (.str _) (.cons (.int _) (.cons (.int _) .nil))))
     ·rcases jn.mp hg with hg|hg
      ·exact r.bg g hg
      ·rw[gX.mp hg];exact d2
    refine gB _ rfl _ _ rfl rfl (bd _ rfl (iD (λ_=>kC ?_) (λ_=>?_)))
    ·refine eh _ rfl (.inl (iU rfl _ (SqL.of p.hD))) (gK _ rfl _ rfl _ _ rfl rfl (gK _ rfl _ rfl _ _ rfl rfl ⟨gI rfl,λz hz=>?_⟩));exact iL C _ _ rfl rfl ((gu hz) _ _ p.hD) (hV (by lia)) (d8 z hz)
    ·refine gK _ rfl _ rfl ld _ rfl g2 (gB _ rfl _ _ rfl rfl (gB _ rfl _ _ rfl rfl (bd _ rfl (iD (λ_=>?_) (λ_=>no)))));refine eh _ rfl (.inl (iU rfl _ (SqL.of p.hD))) (gK _ rfl _ rfl _ _ rfl rfl (gK _ rfl _ rfl _ _ rfl rfl ⟨gI rfl,λz hz=>?_⟩));exact iL C _ _ rfl rfl ((gu hz) _ _ p.hD) (hV (by lia)) (d8 z hz)
   rintro Z Y zz;refine iq zz ?_;clear zz;rintro a0 U rfl sY d3 f7 ⟨f1,f5,f2,e9,g8⟩;refine eh _ rfl (.inl (iU rfl _ (SqL.of d3))) (jv _ rfl _ rfl (gI rfl) λz hz=>?_);obtain⟨Y1,R,a2,a1⟩:=nH (o:=.tup [.str B,.int u]) hz;rw[a1];have b7:=R _ _ d3;have kt:KT Y1 (upd Y1 I (.lst (iv++[.ref z]))):=KT.at b7 (by intro xs z;cases z);refine iL I _ _ rfl rfl b7 (hV (by lia)) ?_;refine jq _ _ _ _ (jc (iv++[.ref z]) a0 (ix++[(B,u)]) U rfl ⟨gT (sY.trans R) I0,ck,by rw[dt ID.symm];exact R _ _ f7,?_,f5.same ((oM R).trans (pK kt)),by rw[ic,r.li];rfl,f2,λe he=>?_,e9⟩ (by rw[dt LI];exact R _ _ g8) (b4.snoc r.li g4))
   ·rw[gN];exact(f1.same ((oM R).trans (pK kt))).snoc (.tup (uJ (kt _ _ a2)) (.cons (.str _) (.cons (.int _) .nil)))
   ·rcases jn.mp he with he|he
    ·exact r.bi e he
    ·rw[gX.mp he];exact b1
  ·rintro Z X zz;refine jk zz ?_;clear zz;rintro b9 c0 c2 c1 iv W ⟨ix,gs,rfl,r,b2,b4⟩;have li:=r.li;have lg:=r.lg;rw[dm]at li lg;refine bd _ rfl (jv _ rfl _ rfl (gI rfl) λz hz=>?_);have R:A0m X (upd X z (.tup [.str l,.ref I,.ref C])):=gu hz;refine k z ⟨l,ix,gs⟩ _ (r.sm.trans R) (λM hM=>(kj z I C iv W rfl ck (λm=>hM _ m I0) (R _ _ r.hI) (λm=>hM _ m c5) (R _ _ r.hD) ⟨r.ri.same (oM R),r.rg.same (oM R)⟩)) ⟨r.bi,r.bg,by show ix.length<=8;lia,by show gs.length<=4;lia,f3⟩ (c4.own (by rw[dm]at b4;exact b4)) c4.fr
structure pE(lk:zJ)(axs:zC)(e:Lw):Prop where
 sub:∀y∈e.own++e.sums,y∈axs
 l4:e.own.length+e.sums.length<=4
 sz:∃so ss:zI,Sz lk e.own so/\Sz lk e.sums ss/\(∀n∈so,1<=n/\n<=60)/\(∀n∈ss,1<=n/\n<=60)/\e.wo=((prN so*prN ss:Nat):Int)
 ps:∀p∈e.ps,oF (e.own++e.sums) p
 po:∀p∈e.ps,sP e.nm e.own p
 nd:(e.own++e.sums).Nodup
 lp:e.ps.length<=3
def Je:Sp:=λm H Q _=>∃(c:Int)(g:Str)(d j k:zW)(a:zC)(l h:zJ)(f:zB)(Zz:zV),m=[.int c,.str g,.ref d,.ref j,.ref k]/\H d=some (.lst (a.map V.str))/\a.length<=3/\a.Nodup/\OkN a/\nu h a/\H j=some (.dK h)/\H k=some (.dK l)/\AR Zz H l f/\D3w h f/\g∉f.map (·.1)/\PyData.strOk g=true/\
 ∀(q:zW)(e:Lw)(i:Hp),A0m H i->(∀M:zQ,(∀b∈M,H b≠none)->B8y M i (.ref q) e)->e.nm=g->pE h a e->(∀p∈e.ps,p.arr=e.nm\/p.arr∈f.map (·.1))->Q (.ref q) i
structure SD(H X:Hp)(sd A0 A1 TL:zW)(lk:zJ)(axs ts own sums:zC)(so ss:zI)(wo:Int)(n:Nat):Prop where
 sm:A0m H X
 hs:X sd=some (.lst [.ref A0,.ref A1])
 h0:X A0=some (.lst (own.map V.str))
 h1:X A1=some (.lst (sums.map V.str))
 ht:X TL=some (.lst (ts.map V.str))
 sub:∀y∈own++sums,y∈axs
 ln:own.length+sums.length<=n
 zo:Sz lk own so
 zs:Sz lk sums ss
 po:∀n∈so,1<=n/\n<=60
 ps:∀n∈ss,1<=n/\n<=60
 hw:wo=((prN so*prN ss:Nat):Int)
 nd:(own++sums++ts.drop n).Nodup
theorem vA(ls:zI)(n:Int):prN (ls++[n])=prN ls*n.toNat:=by rw[yn];simp[prN]
theorem yN(f:α->V)(xs:List α)(a b:Nat):kM (xs.map f) (some (a:Int)) (some (b:Int))=((xs.drop (min a xs.length)).take (min b xs.length-min a xs.length)).map f:=by unfold kM;rw[HT.sIx_nat,HT.sIx_nat,dm,<-List.map_drop,<-List.map_take]
theorem Ja(T:Txt K mg t):FO P w base T.bB 3 Je:=by
 refine T.bB.F.ok nL λ_ A _ s H _ Q E hr h=>?_
 ·refine jk h ?_;clear h;rintro c nm a0 ld ad C ⟨ak,lk,es,Zz,rfl,N,l4,d0,h6,dk,a3,a9,ar,f8,e8,c9,k⟩;have hu:=mC hr;have g4:=Paired.length ar;refine rsq (dV (gy 5 nL.nd (pcl (Jn T) hr T.bK (bp (pv 0) (bp eA ec)))) (dV (gy 6 nL.nd (@iJ _ _ _ _ (bp (@iJ _ _ _ _ ec) (bp (@iJ _ _ _ _ ec) ec)))) (dV (gy 7 nL.nd eA) (dV (gy 8 nL.nd (pv 2)) (pB (gU (iu kS (ff ja (pil 5) eA) eA) (ev ⟨vw (i₀:=8) (N':=["_law_axis"]) (ix:=(List.replicate 1 none)) nL.nd rfl (.inl rfl) rfl (mI rfl (by decide+kernel) (by decide+kernel)) (mH rfl) (vf rfl T.cg (eH 2)) (λ_ _ _ _=>(gw (i:=0) Hd)) (λ_ _ _ _=>(pv 0))⟩) ⟨gR⟩) (dV (jO (om rfl T.aA (bp (jF T.ah (eH 8)) ec)) (gw (i:=9) nL.nd) (dV (gy 10 nL.nd (ff ja (ff mf (pil 5) (hG iQ (@iJ _ _ _ _ (bp eA (bp eA (bp eA ec)))) (pv 9))) eA)) (ev (gU (iu sN (pv 10) eA) (dV ⟨lA (lh kY mr mq mi (hG iQ (pv 6) (pv 10)) (bp (hG iQ (pv 8) (pv 9)) ec))⟩ (ev (gy 7 nL.nd (ff nV (pv 7) (kG hu (pv 3) (hG iQ (pv 8) (pv 9))))))) ⟨gR⟩)))) (dV (gy 11 nL.nd (jJ (bp (pv 1) (bp (pil 6) (bp (pil 6) (bp (@iJ _ _ _ _ ec) (eH 7))))))) (dV (jO (om rfl T.aA (bp (ff ja (pil 5) eA) ec)) (gw (i:=9) nL.nd) (ev (gU (iu uM (jb vT (by rfl) T.ah rT (eH 4)) eA) (ev ⟨lA (lh kY mr mq mi (pit 11) (bp (pcl (JJ T) hr T.bu (bp (nK nI (pv 5) (md (ff jz eA (ff nV eA (pv 9)))) (md (ff jz eA (ff nV eA (pv 9))))) (bp (pv 4) (bp (pv 3) (eH 11))))) ec))⟩) ⟨gR⟩))) (ev (gF (pv 11))))))))))) ?_;refine gB _ rfl c 20 rfl (by decide) ⟨by decide,λXL xn H i5 sn b3 d9 i1=>?_⟩;have d9:xn.length=20:=d9;have N:=sn _ _ N;have a3:=sn _ _ a3;have a9:=sn _ _ a9;have ar:=ar.same sn;have k:∀(q:zW)(e:Lw)(H':Hp),A0m H H'->(∀M:zQ,(∀b∈M,H b≠none)->B8y M H' (.ref q) e)->e.nm=nm->pE lk C e->(∀p∈e.ps,p.arr=e.nm\/p.arr∈es.map (·.1))->_:=λq e H' s1 h2=>k q e H' (sn.trans s1) λM hM=>h2 M λb hb z=>hM b hb (sn.free z);obtain⟨rest,hrest⟩:∃z,xn[0]?=some z:=⟨xn[0],gM (by lia)⟩;obtain⟨m,hm1⟩:∃z,xn[1]?=some z:=⟨xn[1],gM (by lia)⟩;have e0:atI (xn.map V.int) ((0:Nat):Int)=some (.int rest):=gH (by rw[iG,hrest];rfl);have e1:atI (xn.map V.int) ((1:Nat):Int)=some (.int m):=gH (by rw[iG,hm1];rfl);refine⟨gI rfl,λA0 b6=>⟨gI rfl,λA1 b4=>⟨gI rfl,λO a1=>?_⟩⟩⟩;have t0:A0m H (upd H A0 (.lst [])):=gu b6;have g0:upd H A0 (.lst []) A0=some (.lst []):=ck;generalize upd H A0 (.lst [])=H0 at t0 g0 b4 a1⊢;have t1:A0m H0 (upd H0 A1 (.lst [])):=gu b4;have g1:upd H0 A1 (.lst []) A1=some (.lst []):=ck;have e4:A0≠A1:=gO g0 b4;have A1H:H A1=none:=t0.free b4;generalize upd H0 A1 (.lst [])=H1 at t1 g1 a1⊢;have t2:A0m H1 (upd H1 O (.lst [.ref A0,.ref A1])):=gu a1;have g2:upd H1 O (.lst [.ref A0,.ref A1]) O=some (.lst [.ref A0,.ref A1]):=ck;have h7:A0≠O:=gO (t1 _ _ g0) a1;have g3:A1≠O:=gO g1 a1;have c5:=(t1.trans t2) _ _ g0;have b9:=t2 _ _ g1;have s2:=t0.trans (t1.trans t2);generalize upd H1 O (.lst [.ref A0,.ref A1])=H2 at t2 g2 c5 b9 s2⊢;refine bd _ rfl ?_;refine bd (λZ X=>∃(TL:zW)(r:zC),Z=[Sio c,Sso nm,Sro a0,Sro ld,Sro ad,Sro XL,Sro O,Sio 1,Sro TL,none,none,none]/\A0m H2 X/\X TL=some (.lst (r.map V.str))/\(∀y∈r,y∈C)/\r.length<=3/\r.Nodup/\TL≠A0/\TL≠A1) ?_ ?_
  ·refine i12 _ rfl XL _ _ _ rfl rfl (SqL.of (s2 _ _ b3)) e0 (kI _ _ rfl rfl ur rfl _ rfl (iD (λ_=>?_) (λ_=>(eu a0 C rfl (A0m.refl _) (jd (s2 _ _ N) (λy B=>B) l4 d0 (gO N b6) (gO N A1H))))));refine gB _ rfl a0 _ rfl (SqL.of (s2 _ _ N)) λD hD=>?_;have DA0:D≠A0:=λz=>by rw[z,c5]at hD;cases hD
   have DA1:D≠A1:=λz=>by rw[z,b9]at hD;cases hD
   refine rq (J:=Itv K a0 (C.map V.str).length) (D:=D) (C.map V.str).length (λi U X=>A0m H2 X/\X D=some (.lst U)/\U.length=i/\∃r:zC,U=r.map V.str/\r=C.reverse.take i) ⟨gu hD,(jL ck rfl [] rfl rfl)⟩ (λi U X hi ⟨sx,_⟩=>?_) (λU X _=>rfl) ?_ ?_
   ·have f3:(C.map V.str).length-1-i<(C.map V.str).length:=by lia
    exact gL (C.map V.str) _ (SqL.of (sx _ _ (s2 _ _ N))) rfl hi (gM f3)
   ·rintro i U X hi ⟨sx,c1,ly,r,rfl,a2⟩ x Y ⟨rfl,hx⟩;obtain⟨y,B,rfl⟩:=kT (hx _ (SqL.of (sx _ _ (s2 _ _ N))));rw[dm]at ly hi;refine iU True.intro _ (iT rfl c1 (hV (by rw[dm];lia)) (gT sx hD) (jL ck (by rw[ic,dm,ly];rfl) (r++[y]) (by rw[gN];rfl) ?_));rw[dm]at B;rw[iN,<-a2,List.getElem?_reverse (by lia),B];rfl
   ·rintro U X ⟨sx,c1,ly,r,rfl,a2⟩;rw[dm,dm]at ly;rw[dm,nN (by rw[List.length_reverse];lia)]at a2;exact eu D r rfl sx (jd c1 (λy B=>by rw[a2]at B;simpa using B) (by lia) (by rw[a2];exact(List.reverse_perm C).nodup_iff.mpr d0) DA0 DA1)
  rintro Z H3 S;refine iq S ?_;clear S;rintro TL r rfl s3 d7 f5 ⟨i4,h4,f1,f0⟩;have g5:=s2.trans s3;refine gB _ rfl TL _ rfl (.inl (SqL.of d7)) (iF _ rfl (by lia) (by rw[dm];lia) ?_)
  refine px (n:=(r.map V.str).length) (λi Z X=>∃(o9 a4:zP)(l f:zC)(so ss:zI)(wo:Int),Z=[Sio c,Sso nm,Sro a0,Sro ld,Sro ad,Sro XL,Sro O,Sio wo,Sro TL,o9,a4,none]/\SD H X O A0 A1 TL lk C r l f so ss wo i)
   (jB none none [] [] [] [] 1 ⟨rfl,g5,s3 _ _ g2,s3 _ _ c5,s3 _ _ b9,d7,(by intro y B;cases B),fa _,.nil,.nil,(by intro y B;cases B),(by intro y B;cases B),rfl,by simpa using h4⟩) ?_ ?_
  ·rintro i Z X hi S;refine jk S ?_;clear S;rintro o9 a4 l f so ss ⟨wo,rfl,I⟩;rw[dm]at hi;have d4:r[i]?=some r[i]:=gM hi;have c2:r[i]∈C:=f5 _ (gJ d4);have c0:r.drop i=r[i]::r.drop (i+1):=wB hi;have ey:atI (r.map V.str) (0+(i:Int))=some (.str r[i]):=by rw[Int.zero_add];exact gH (by rw[iG,d4];rfl)
   obtain⟨n,vn,n1,d8⟩:=dk _ c2
   obtain⟨d,ed,d1,d2⟩:∃d:Int,atI [V.int 2,.int 6,.int 18] (0+(i:Int))=some (.int d)/\0<d/\d<1073741824:=by
    rw[Int.zero_add]
    match i,(show i<3 by lia)with
    |0,_=>exact eh 2 rfl (by decide) (by decide)
    |1,_=>exact eh 6 rfl (by decide) (by decide)
    |2,_=>exact eh 18 rfl (by decide) (by decide)
   refine lO _ rfl XL _ _ _ rfl rfl (SqL.of (I.sm _ _ b3)) e0 (gI rfl) λz hz=>(i12 _ rfl z _ _ _ rfl rfl (SqL.of ck) ed (gL _ _ rfl rfl ⟨d1,d2⟩ (gL _ _ rfl rfl pF ?_)));have G:A0m X (upd X z (.lst [.int 2,.int 6,.int 18])):=gu hz;generalize upd X z (.lst [.int 2,.int 6,.int 18])=X1 at G⊢;have c4:=I.sm.trans G;have b0:0<=rest/d%3:=lQ _ (by decide);have b1:rest/d%3<3:=nn _ (by decide);refine kJ _ rfl rfl _ rfl (sJ (λh3=>?_) (λ_=>(jB _ _ l f so ss wo ⟨rfl,c4,G _ _ I.hs,G _ _ I.h0,G _ _ I.h1,G _ _ I.ht,I.sub,by have:=I.ln;lia,I.zo,I.zs,I.po,I.ps,I.hw,(by have h:=I.nd;rw[c0]at h;exact h.sublist (List.Sublist.append_left (List.sublist_cons_self _ _) _))⟩)));have i0:rest/d%3≠2:=λz=>h3 (by show V.int (rest/d%3)=V.int 2;rw[z]);have i2:=I.ln;have c7:((n.toNat:Nat):Int)=n:=Int.toNat_of_nonneg (by lia);rcases(show rest/d%3=0\/rest/d%3=1 by lia)with e7|g6
   ·have f9:atI [V.ref A0,.ref A1] (rest/d%3)=some (.ref A0):=by rw[e7];rfl
    refine kU _ rfl _ rfl O _ _ _ rfl rfl (SqL.of (G _ _ I.hs)) f9 (.inl (iU rfl _ (SqL.of (G _ _ I.h0)))) (ji _ rfl _ rfl TL _ _ _ rfl rfl (SqL.of (G _ _ I.ht)) ey (iL A0 _ _ rfl rfl (G _ _ I.h0) (hV (by rw[dm];lia)) ?_));have v2:A0m H (upd X1 A0 (.lst (l.map V.str++[.str r[i]]))):=gT c4 b6;have w0:upd X1 A0 (.lst (l.map V.str++[.str r[i]])) A0=some (.lst ((l++[r[i]]).map V.str)):=by rw[ck,gN];rfl
    have w1:upd X1 A0 (.lst (l.map V.str++[.str r[i]])) A1=some (.lst (f.map V.str)):=by rw[dt e4.symm];exact G _ _ I.h1
    have wt:upd X1 A0 (.lst (l.map V.str++[.str r[i]])) TL=some (.lst (r.map V.str)):=by rw[dt f1];exact G _ _ I.ht
    have ws:upd X1 A0 (.lst (l.map V.str++[.str r[i]])) O=some (.lst [.ref A0,.ref A1]):=by rw[dt h7.symm];exact G _ _ I.hs
    generalize upd X1 A0 (.lst (l.map V.str++[.str r[i]]))=X2 at v2 w0 w1 wt ws⊢;have g:=A7q.k (H:=X2) (a:=ld) (k:=Sum.inr r[i]) (v2 _ _ a3);rw[vn]at g;refine gZ _ rfl _ rfl (ji _ rfl _ rfl TL _ _ _ rfl rfl (SqL.of wt) ey (eu ld _ rfl g (gL _ _ rfl rfl (.inr ⟨by lia,by lia⟩) ?_)));refine jB _ _ (l++[r[i]]) f (so++[n]) ss (wo*n) ⟨rfl,v2,ws,w0,w1,wt,λy B=>?_,by rw[ic,kL];lia,lb I.zo (.cons vn .nil),I.zs,λm hm=>?_,I.ps,?_,?_⟩
    ·rcases jn.mp B with B|B
     ·rcases jn.mp B with B|B
      ·exact I.sub y (mT _ B)
      ·rw[gX.mp B];exact c2
     ·exact I.sub y (my _ B)
    ·rcases jn.mp hm with hm|hm
     ·exact I.po m hm
     ·rw[gX.mp hm];exact⟨n1,d8⟩
    ·rw[vA,I.hw,Nat.mul_right_comm,Int.natCast_mul (prN so*prN ss),c7]
    ·have h:=I.nd;rw[c0]at h;refine(List.Perm.nodup_iff ?_).mp h;simp only [oB,oT,List.nil_append];exact List.Perm.append_left _ List.perm_middle
   ·have f7:atI [V.ref A0,.ref A1] (rest/d%3)=some (.ref A1):=by rw[g6];rfl
    refine kU _ rfl _ rfl O _ _ _ rfl rfl (SqL.of (G _ _ I.hs)) f7 (.inl (iU rfl _ (SqL.of (G _ _ I.h1)))) (ji _ rfl _ rfl TL _ _ _ rfl rfl (SqL.of (G _ _ I.ht)) ey (iL A1 _ _ rfl rfl (G _ _ I.h1) (hV (by rw[dm];lia)) ?_));have v2:A0m H (upd X1 A1 (.lst (f.map V.str++[.str r[i]]))):=gT c4 A1H;have w1:upd X1 A1 (.lst (f.map V.str++[.str r[i]])) A1=some (.lst ((f++[r[i]]).map V.str)):=by rw[ck,gN];rfl
    have w0:upd X1 A1 (.lst (f.map V.str++[.str r[i]])) A0=some (.lst (l.map V.str)):=by rw[dt e4];exact G _ _ I.h0
    have wt:upd X1 A1 (.lst (f.map V.str++[.str r[i]])) TL=some (.lst (r.map V.str)):=by rw[dt f0];exact G _ _ I.ht
    have ws:upd X1 A1 (.lst (f.map V.str++[.str r[i]])) O=some (.lst [.ref A0,.ref A1]):=by rw[dt g3.symm];exact G _ _ I.hs
    generalize upd X1 A1 (.lst (f.map V.str++[.str r[i]]))=X2 at v2 w0 w1 wt ws⊢;have g:=A7q.k (H:=X2) (a:=ld) (k:=Sum.inr r[i]) (v2 _ _ a3);rw[vn]at g;refine gZ _ rfl _ rfl (ji _ rfl _ rfl TL _ _ _ rfl rfl (SqL.of wt) ey (eu ld _ rfl g (gL _ _ rfl rfl (.inr ⟨by lia,by lia⟩) ?_)));refine jB _ _ l (f++[r[i]]) so (ss++[n]) (wo*n) ⟨rfl,v2,ws,w0,w1,wt,λy B=>?_,by rw[ic,kL];lia,I.zo,lb I.zs (.cons vn .nil),I.po,λm hm=>?_,?_,?_⟩
    ·rw[<-oB]at B;rcases jn.mp B with B|B
     ·exact I.sub y B
     ·rw[gX.mp B];exact c2
    ·rcases jn.mp hm with hm|hm
     ·exact I.ps m hm
     ·rw[gX.mp hm];exact⟨n1,d8⟩
    ·rw[vA,I.hw,<-Nat.mul_assoc,Int.natCast_mul (prN so*prN ss),c7]
    ·have h:=I.nd;rw[c0]at h
     simpa[oB]using h
  rintro Z X S;refine jk S ?_;clear S;rintro o9 a4 l f so ss ⟨wo,rfl,I⟩;have h8:=I.ln;rw[dm]at h8;refine ji _ rfl _ rfl O _ _ _ rfl rfl (SqL.of I.hs) (gH (j:=0) rfl) (lO _ rfl O _ _ _ rfl rfl (SqL.of I.hs) (gH (j:=1) rfl) (gI rfl) λPL a7=>(eh _ rfl (gI rfl) λq hq=>?_));have G:A0m X (upd X PL (.lst [])):=gu a7;have p1:upd X PL (.lst []) PL=some (.lst []):=ck;have PLH:H PL=none:=I.sm.free a7;have e3:A0≠PL:=gO I.h0 a7;have d6:A1≠PL:=gO I.h1 a7;generalize upd X PL (.lst [])=X1 at G p1 hq⊢;obtain⟨X2,u2,q2,c3⟩:=nH (o:=.tup [.str nm,.ref A0,.ref A1,.ref PL,.int wo]) hq;have c8:q≠PL:=(gO p1 hq).symm;rw[c3];have p2:=u2 _ _ p1;have a6:=G.trans u2;have c6:=I.sm.trans a6;have e6:nu lk (l++f):=λy B=>dk y (I.sub y B);have f2:OkN (l++f):=λy B=>h6 y (I.sub y B);have b0:0<=m%4:=lQ _ (by decide);have b1:m%4<4:=nn _ (by decide);refine i12 _ rfl XL _ _ _ rfl rfl (SqL.of (c6 _ _ b3)) e1 (gL _ _ rfl rfl uu (iF _ rfl (by lia) (by lia) ?_))
  refine px (n:=(m%4).toNat) (λi Z Y=>∃(o9 a4:zP)(L:zM)(ps:List Pc),Z=[Sio c,Sso nm,Sro a0,Sro ld,Sro ad,Sro XL,Sro O,Sio wo,Sro TL,o9,a4,Sro q]/\KB PL X2 Y/\Y PL=some (.lst L)/\ps.length<=i/\(∀p∈ps,oF (l++f) p)/\(∀p∈ps,sP nm l p)/\(∀p∈ps,p.arr=nm\/p.arr∈es.map (·.1))/\∀M:zQ,(∀b∈M,H b≠none)->Paired (C4h (PL::M) Y) L ps)
   (jc _ _ [] [] rfl KB.refl p2 (iT (fa _) (by intro p hp;cases hp) (by intro p hp;cases hp) (by intro p hp;cases hp) λ_ _=>.nil)) ?_ ?_
  ·rintro i Z Y hi S;refine jM S ?_;clear S;rintro g8 d5 L ps rfl kb W g7 ⟨a8,R,b5,a5⟩;have sY:A0m H Y:=KB.same c6 kb PLH
   have i3:L.length<=i:=by
    have:=Paired.length (a5 [] (by intro b hb;cases hb))
    lia
   refine ou _ rfl ad ak rfl (sY _ _ a9) _ _ rfl rfl _ rfl (iD (λb7=>?_) (λhn=>(jc _ _ L ps rfl kb W (iT (by lia) a8 R b5 a5))));have b7:(0:Int)<(ak.length:Int):=b7
   have f4:es≠[]:=λz=>by
    have:ak.length=0:=by rw[g4,z];rfl
    lia
   have e2:=kb _ _ c8 q2;have f6:=sY _ _ b3
   obtain⟨U,eys,lys⟩:∃U:zI,kM (xn.map V.int) (some (2+5*(0+(i:Int)))) (some (7+5*(0+(i:Int))))=U.map V.int/\U.length=5:=by rw[show(2+5*(0+(i:Int)):Int)=((2+5*i:Nat):Int)by lia,show(7+5*(0+(i:Int)):Int)=((7+5*i:Nat):Int)by lia,yN];exact bd _ rfl (by rw[jf,mo];lia)
   refine lO _ rfl q _ _ _ rfl rfl (SqT.of e2) (gH (j:=3) rfl) (.inl (iU rfl _ (SqL.of W))) (gK _ rfl _ rfl _ _ rfl rfl (jp (.inl ⟨by decide,by decide⟩) _ _ rfl rfl (gK _ rfl _ rfl _ _ rfl rfl (jp (.inl ⟨by decide,by decide⟩) _ _ rfl rfl (gB _ rfl XL _ rfl (SqL.of f6) λsl e5=>?_)))));rw[eys];obtain⟨Y1,v1,d3,c3⟩:=nH (o:=.lst (U.map V.int)) e5;rw[c3];have b2:=sY.trans v1;refine bd _ rfl (kn _ rfl _ rfl sl U ad ld q (jq A0 A1 ak lk (nM es nm l f _ Zz rfl d3 lys (b2 _ _ a9) (ar.same b2) (b2 _ _ a3) f8 (jd f4 e8 (v1 _ _ e2) (v1 _ _ (kb _ _ e3 (a6 _ _ I.h0))) (v1 _ _ (kb _ _ d6 (a6 _ _ I.h1))) (jd e6 f2 (by lia) (by lia) c9 λz p Y2 h5 e9 pi g9 h9=>?_)))));have v2:=v1.trans h5;have b8:=v2 _ _ W;refine iL PL _ _ rfl rfl b8 (hV (by lia)) ?_;have kt:KT Y2 (upd Y2 PL (.lst (L++[.ref z]))):=KT.at b8 (by intro xs z;cases z);refine jc _ _ (L++[.ref z]) (ps++[p]) rfl ((kb.trans (KB.of v2)).upd) ck (iT (by rw[ic,kL];lia) (λp' u=>?_) (λp' u=>?_) (λp' u=>?_) λM hM=>?_)
   ·rcases jn.mp u with u|u
    ·exact a8 p' u
    ·rw[gX.mp u];exact pi
   ·rcases jn.mp u with u|u
    ·exact R p' u
    ·rw[gX.mp u];exact g9
   ·rcases jn.mp u with u|u
    ·exact b5 p' u
    ·rw[gX.mp u];exact h9
   ·have up:∀{v:V}{p:Pc},C4h (PL::M) Y2 v p->C4h (PL::M) (upd Y2 PL (.lst (L++[.ref z]))) v p:=λh=>h.imp kt λb xs nb e=>⟨nb,by rw[dt (λz=>nb (by rw[z];exact .head _))];exact e⟩;refine lb (Paired.mapP (a5 M hM) λ_ _ h=>up (h.same v2)) (.cons (up (e9 (PL::M) λb hb=>?_)) .nil);rcases gP.mp hb with rfl|hb
    ·rw[v1 _ _ W];intro z;cases z
    ·intro z;exact hM b hb (b2.free z)
  ·rintro Z Y S;refine jM S ?_;clear S;rintro g8 d5 L ps rfl kb W g7 ⟨a8,R,b5,a5⟩;have sY:A0m H Y:=KB.same c6 kb PLH;refine bd _ rfl (k q ⟨nm,l,f,ps,wo⟩ Y sY (λM hM=>?_) rfl ⟨I.sub,by show l.length+f.length<=4;lia,(iM so ss I.zo I.zs I.po I.ps I.hw),a8,R,by have h:=I.nd;rw[dm,List.drop_length,lU]at h;exact h,by show ps.length<=3;lia⟩ b5);exact lC q A0 A1 PL L rfl (kb _ _ c8 q2) (λmm=>hM _ mm b6) (kb _ _ e3 (a6 _ _ I.h0)) (λmm=>hM _ mm A1H) (kb _ _ d6 (a6 _ _ I.h1)) (λmm=>hM _ mm PLH) W (Paired.mapP (a5 M hM) λ_ _ h=>h.imp (KT.same (A0m.refl _)) λb xs nb e=>⟨λmm=>nb (.tail _ mm),e⟩)
theorem vK{l:List α}{x:α}(h:l[i]?=some x):l=l.take i++x::l.drop (i+1):=by obtain⟨a,e⟩:=gG.mp h;have:=(qd i l).symm;rw[wB a,e]at this;exact this
def wrL(a:List Lw)(s:Stp):Spt:=match a[s.1.toNat]? with|some e=>(e.nm,s.2.2.1)|none=>("",s.2.2.1)
def duL(a:List Lw)(s:Stp):List Spt:=match a[s.1.toNat]? with|some e=>kP e (toM s)|none=>[]
section
variable(wr:Stp->Spt)(rd:Stp->List Spt)
def Dj(A:List Stp)(s:Stp)(i:Int):Prop:=(∃r∈rd s,i∈jg wr A r)\/(s.2.1=("add":Str)/\(jg wr A (wr s)).head? =some i)
end
structure WrD(P:yB)(w:yD)(G:Hp)(WD DD:zW)(kvs:List (gz×V))(cur:Spt->List Int):Prop where
 nd:A9z P w [true,false] G WD kvs
 at_:∀r,(fC kvs (SN.nkR r)=none/\cur r=[])\/∃l,fC kvs (SN.nkR r)=some (.ref l)/\G l=some (.lst ((cur r).map V.int))
theorem WrD.kt{a:Hp}{kvs:List (gz×V)}(h:WrD P w G WD DD kvs cur)(c:∀o,G WD=some o->a WD=some o)(kt:KT G a)(e:∀l xs,G l=some (.lst xs)->a l=some (.lst xs)):WrD P w a WD DD kvs cur :=⟨h.nd.keeps c kt,λr=>(h.at_ r).imp id λ⟨l,d,b⟩=>(bd l d (e _ _ b))⟩
structure LwR(lk:zJ)(e:Lw)(r:Rw):Prop where
 o:r.own=e.own
 s:r.sums=e.sums
 ok:D0u r
 so:Sz lk e.own r.so
 ss:Sz lk e.sums r.ss
 oks:OkS e.sums
 okn:OkN (e.own++e.sums)
 l8:e.own.length+e.sums.length<=8
 pi:∀p∈e.ps,oF (e.own++e.sums) p
 lp:e.ps.length<=3
structure StL(rws:List Rw)(s:Stp)(r:Rw):Prop where
 pos:0<=s.1
 at_:rws[s.1.toNat]?=some r
 lc:s.2.2.1.length=r.so.length
 lt:s.2.1≠("start":Str)->s.2.2.2.length=r.ss.length
theorem oj(h:s∈fm rws n):∃r,StL rws s r:=by
 obtain⟨k,_,a⟩:=List.mem_flatMap.mp h;have d:=pV a;unfold lI at a;split at a
 ·rename_i r hr;obtain⟨c,f,b⟩:=List.mem_flatMap.mp a;have i:=(ot b).2;have g:=(rF _ c f).1;refine⟨r,by rw[d];lia,by rw[d,Int.toNat_natCast];exact hr,by rw[i];exact g,λe=>?_⟩;unfold jt at b;split at b
  ·rename_i hz;rw[gX.mp b,hz]
  ·rcases gP.mp b with q|q
   ·rw[q]at e;exact absurd rfl e
   ·obtain⟨u,j,rfl⟩:=gS.mp q;exact(rF _ u j).1
 ·cases a
def duI(Kj:zI):zJ:=Kj.map λi=>(Sum.inl i,V.bl true)
def duR(a:Nat->zW)(n:Nat):zJ:=(List.range n).map λ(j:Nat)=>(Sum.inl (j:Int),V.ref (a j))
theorem qy(Kj:zI)(i:Int):fC (duI Kj) (Sum.inl i)=if i∈Kj then some (.bl true)else none:=by
 unfold fC duI
 induction Kj with
 |nil=>rfl
 |cons q r ih=>
  rw[ik,oz];by_cases e:q=i
  ·subst e;simp
  ·have:decide ((Sum.inl q:Key)=Sum.inl i)=false:=ir λz=>e (by injection z);rw[this];have:(i∈q::r)↔i∈r:=by simp[Ne.symm e]
   rw[show(if i∈q::r then some (V.bl true)else none)=if i∈r then some (V.bl true)else none by simp only [this]];exact ih
theorem vo(Kj:zI)(i:Int):gY (duI Kj) (Sum.inl i) (V.bl true)=duI (if i∈Kj then Kj else Kj++[i]):=by
 unfold gY;by_cases m:i∈Kj
 ·rw[dn m,dn (by
   unfold duI;rw[List.any_map,List.any_eq_true]
   exact bd i m (by simp))]
  unfold duI;rw[List.map_map];refine List.map_congr_left λq _=>?_;show(if (Sum.inl q:Key)=Sum.inl i then (Sum.inl q,V.bl true)else (Sum.inl q,V.bl true))=_;split<;>rfl
 ·rw[dh m,dh (by
   unfold duI;rw[List.any_map,List.any_eq_true];rintro⟨q,a,e⟩;have:q=i:=by simpa using e
   exact m (by rw[<-this];exact a))]
  unfold duI;rw[gN];rfl
theorem qz(b:Nat->zW):∀(n j:Nat),j<n->fC (duR b n) (Sum.inl (j:Int))=some (.ref (b j)):=λn j g=>by
 unfold fC duR
 induction n with
 |zero=>lia
 |succ n ih=>
  rw[List.range_succ,gN,List.find?_append];by_cases c:j<n
  ·have:=ih c;obtain⟨p,a,e⟩:=mu.mp this;rw[a,Option.some_or,Option.map_some,e]
  ·have e:j=n:=by lia
   subst e
   have:((List.range j).map λ(j:Nat)=>((Sum.inl (j:Int):Key),V.ref (b j))).find? (λd=>decide (d.1=Sum.inl (j:Int)))=none:=by
    rw[List.find?_eq_none];intro p a;obtain⟨i,f,rfl⟩:=gS.mp a;have:=List.mem_range.mp f;simp
    lia
   rw[this];simp
theorem Eu{b a:Nat->zW}(h:∀i<n,a i=b i):gY (duR b n) (Sum.inl (n:Int)) (V.ref (a n))=duR a (n+1):=by
 unfold gY
 rw[dh (by
  unfold duR;rw[List.any_map,List.any_eq_true];rintro⟨q,d,e⟩;have:=List.mem_range.mp d;have:(q:Int)=(n:Int):=by simpa using e
  lia)]
 unfold duR;rw[List.range_succ,gN];congr 1;exact List.map_congr_left λi c=>by rw[h i (List.mem_range.mp c)]
theorem zd(Kp:zI)(p q:Int):q∈(if p∈Kp then Kp else Kp++[p])↔q∈Kp\/q=p:=by
 by_cases m:p∈Kp
 ·rw[dn m];exact⟨.inl,λh=>h.elim id λe=>by rw[e];exact m⟩
 ·rw[dh m,jn,gX]
theorem yM(h:Kp.Nodup)(p:Int):(if p∈Kp then Kp else Kp++[p]).Nodup:=by
 by_cases m:p∈Kp
 ·rw[dn m];exact h
 ·rw[dh m,rV];exact fI h (by simp) λa c b d e=>m (by rw[<-gX.mp d,<-e];exact c)
theorem Ag(Kp:zI)(p:Int):(if p∈Kp then Kp else Kp++[p]).length<=Kp.length+1:=by
 split
 ·lia
 ·simp
structure D6u(H:Hp)(DD:zW)(wr:Stp->Spt)(rd:Stp->List Spt)(L:List Stp)(n:Nat)(ad:Nat->zW)(Ks:Nat->List Int):Prop where
 hd:H DD=some (.dK (duR ad n))
 at_:∀j<n,H (ad j)=some (.dK (duI (Ks j)))
 nd:∀j<n,(Ks j).Nodup/\(Ks j).length<=2000
 iff:∀j s,j<n->L[j]?=some s->∀i,i∈Ks j↔Dj wr rd (L.take j) s i
theorem D6u.same{rd:Stp->List Spt}{a:Nat->zW}(h:D6u H DD wr rd L n a Ks)(s:A0m H H'):D6u H' DD wr rd L n a Ks:=⟨s _ _ h.hd,λj b=>s _ _ (h.at_ j b),h.nd,h.iff⟩
def JW:Sp:=λi H Q _=>∃(f g:zW)(e d:zM)(b:List Lw)(a:List Rw)(h:zJ)(M:zQ),i=[.ref f,.ref g]/\H f=some (.lst e)/\Paired (B8y M H) e b/\Paired (LwR h) b a/\H g=some (.lst d)/\A5u H d (fm a a.length)/\(fm a a.length).length<=300/\
 qw (wrL b) (fm a a.length)/\
 ∀(DD:zW)(j:Nat->zW)(Ks:Nat->List Int)(c:Hp),H DD=none->A0m H c->D6u c DD (wrL b) (duL b) (fm a a.length) (fm a a.length).length j Ks->Q (.ref DD) c
theorem JL(T:Txt K mg t):FO P w base T.br 2 JW:=by
 refine T.br.F.ok pA λ_ A _ s H _ Q E hr h=>?_
 ·refine jk h ?_;clear h;rintro rl SL xr zs d v ⟨lk,M,rfl,h0,g0,d5,a4,f5,j9,j3,k⟩;have hn:=uN hr;have hu:=mC hr;have k9:=Paired.length g0;have k8:=Paired.length d5;have lz:=Paired.length f5;refine rsq (dV (gy 2 pA.nd (Aw (sh:=[true,false]))) (dV (gy 3 pA.nd qA) (dV (jO (om rfl T.aA (bp (jF T.ah (eH 1)) ec)) (gw (i:=4) pA.nd) (dV (gy 5 pA.nd (hG iQ (pv 0) (hG pf (hG iQ (pv 1) (pv 4)) eA))) (dV (gy 6 pA.nd (jJ (bp (pit 5) (bp (hG pf (hG iQ (pv 1) (pv 4)) eA) ec)))) (dV ⟨@nY _ _ _ _ _ _ _ _ _ hu (pv 3) (pv 4) qA rfl⟩ (dV (jO (kH (pcl (J8 T) hr T.bt (bp (hG iQ (pv 1) (pv 4)) (eH 5)))) (gw (i:=7) pA.nd) (ev (jO (kH (xP PySem.F.slot_dict_get PySem.F.type_dict_get (yc hn) (pv 2) (bp (pv 7) (bp (@iJ _ _ _ _ ec) ec)))) (gw (i:=8) pA.nd) (ev ⟨@nY _ _ _ _ _ _ _ _ _ hu (kG hu (pv 3) (pv 4)) (pv 8) kc rfl⟩)))) (pB (gU (iu kS (hG pf (hG iQ (pv 1) (pv 4)) eA) jK) (ev ⟨@nY _ _ _ _ _ _ _ _ _ hu (kG hu (pv 3) (pv 4)) (hG iQ (yb hn (pv 2) (pv 6) (λ_ _=>rfl)) eA) kc rfl⟩) ⟨gR⟩) (ev ⟨nG (ff nD (xP PySem.F.slot_dict_get PySem.F.type_dict_get (yc hn) (pv 2) (bp (pv 6) (bp (@iJ _ _ _ _ ec) ec))) (@iJ _ _ _ _ (eH 4))) (sU (pv 2) (pv 6) (Ad hn))⟩))))))) (ev (gF (pv 3)))))) ?_;refine λWD oW f0 a5=>?_;have s1:A0m H (upd H WD oW):=gu f0;have a5:A9z P w [true,false] (upd H WD oW) WD []:=a5;generalize upd H WD oW=G1 at s1 a5⊢;refine λDD d4=>?_;have s2:A0m G1 (upd G1 DD (.dK [])):=gu d4;have g3:upd G1 DD (.dK []) DD=some (.dK []):=ck;have DDH:H DD=none:=s1.free d4;obtain⟨uW,eW,tW,lW⟩:=ra a5;have WDn:WD≠DD:=gO eW d4;generalize upd G1 DD (.dK [])=G2 at s2 g3⊢;have e8:=s1.trans s2;refine gB _ rfl SL _ rfl (.inl (SqL.of (e8 _ _ a4))) (iF _ rfl (by lia) (by lia) ?_)
  refine px (n:=zs.length) (λj Z X=>∃(o4 o5 o6 o7 o8:zP)(U:List (gz×V))(ad:Nat->zW)(Ks:Nat->List Int),Z=[Sro rl,Sro SL,Sro WD,Sro DD,o4,o5,o6,o7,o8]/\A0m H X/\WrD P w X WD DD U (jg (wrL d) ((fm v v.length).take j))/\U.length<=j/\D6u X DD (wrL d) (duL d) (fm v v.length) j ad Ks/\∀i<j,ad i≠WD/\ad i≠DD)
   (jq none none none none (jo none [] (λ_=>0) (λ_=>[]) rfl e8 ⟨qx a5 s2,λr=>.inl ⟨rfl,by rw[List.take_zero];rfl⟩⟩ (fa _) ⟨g3,λj hj=>absurd hj (Nat.not_lt_zero _),λj hj=>absurd hj (Nat.not_lt_zero _),λj s hj=>absurd hj (Nat.not_lt_zero _)⟩ λi hi=>absurd hi (Nat.not_lt_zero _))) ?_ ?_
  ·rintro j Z X hj D;refine jk D ?_;clear D;rintro o4 o5 o6 o7 o8 U ⟨ad,Ks,rfl,sX,wd,h5,du,b5⟩;have hv:zs[j]?=some zs[j]:=gM hj;have ez:atI zs (0+(j:Int))=some zs[j]:=by rw[Int.zero_add];exact gH hv
   obtain⟨f,b3,c6⟩:=iH f5 hv;have h8:=gJ b3;obtain⟨r,sl⟩:=oj h8;have hk:f.1.toNat<d.length:=by have:=(gG.mp sl.at_).1;lia
   have he:d[f.1.toNat]?=some d[f.1.toNat]:=gM hk;obtain⟨r',f1,lr⟩:=iH d5 he;rw[sl.at_]at f1;cases f1;have hx:xr[f.1.toNat]?=some xr[f.1.toNat]:=gM (by lia);obtain⟨e',b4,lw⟩:=iH g0 hx;rw[he]at b4;injection b4 with b4;subst b4;have ex:atI xr f.1=some xr[f.1.toNat]:=by have:=gH hx;rwa[Int.toNat_of_nonneg sl.pos]at this
   generalize xr[f.1.toNat]=xv at ex lw;generalize zs[j]=zv at ez c6;generalize hee:d[f.1.toNat]=e at he lw lr;refine ku (id lw) ?_;rintro q O S ⟨Pl,k2,rfl,hq,_⟩;refine gW (id c6) ?_;rintro b c u rfl hb hc k5;have i2:wrL d f=(e.nm,f.2.2.1):=by unfold wrL;rw[he]
   have g8:duL d f=kP e (toM f):=by unfold duL;rw[he]
   have i5:(fm v v.length).take (j+1)=(fm v v.length).take j++[f]:=by rw[iN,b3];rfl
   have f4:((fm v v.length).take j).length=j:=by rw[jf];lia
   have e0:fm v v.length=(fm v v.length).take j++f::(fm v v.length).drop (j+1):=vK b3;have b8:=λha=>j3 _ f _ e0 ha;rw[i5];generalize hA:(fm v v.length).take j=A at wd f4 b8;clear e0;refine bd _ rfl (ji _ rfl _ rfl SL _ _ _ rfl rfl (SqL.of (sX _ _ a4)) ez (jP b _ _ _ rfl rfl (SqT.of (sX _ _ hb)) (gH (j:=0) rfl) (jP rl _ _ _ rfl rfl (SqL.of (sX _ _ h0)) ex ?_)));refine i12 _ rfl q _ _ _ rfl rfl (SqT.of (sX _ _ hq)) (gH (j:=0) rfl) (ji _ rfl _ rfl SL _ _ _ rfl rfl (SqL.of (sX _ _ a4)) ez (jo b _ _ _ rfl rfl (SqT.of (sX _ _ hb)) (gH (j:=2) rfl) (gI rfl) λow g7=>?_));obtain⟨X1,a6,j0,I⟩:=nH (o:=.tup [.str e.nm,.ref c]) g7;rw[I];refine λx N=>?_;have d0:A0m X1 (upd X1 x (.dK [])):=gu N;have b9:upd X1 x (.dK []) x=some (.dK (duI [])):=ck;have c4:x≠DD:=λz=>by rw[z,a6 _ _ du.hd]at N;cases N
   obtain⟨k6,g9,k3,l2⟩:=ra wd.nd;have c5:x≠WD:=λz=>by rw[z,a6 _ _ g9]at N;cases N
   have i0:∀i<j,ad i≠x:=λi hi z=>by rw[<-z,a6 _ _ (du.at_ i hi)]at N;cases N
   have g4:H x=none:=(sX.trans a6).free N;generalize upd X1 x (.dK [])=X1b at d0 b9⊢;have sa:=a6.trans d0;have k0:(duR ad j).length=j:=by unfold duR;rw[dm,List.length_range]
   refine gK _ rfl _ rfl DD _ rfl (C0w.k (k:=Sum.inl (0+(j:Int))) (sa _ _ du.hd) (hV (by lia))) ?_;obtain⟨ad',had',hadj⟩:∃ad':Nat->zW,(∀i<j,ad' i=ad i)/\ad' j=x:=(bd (λi=>if i=j then x else ad i) (λi hi=>dh (by lia)) (dn rfl));have e9:gY (duR ad j) (Sum.inl (0+(j:Int))) (V.ref x)=duR ad' (j+1):=by rw[Int.zero_add,<-hadj];exact Eu had'
   rw[e9];have a1:KB DD X1b (upd X1b DD (.dK (duR ad' (j+1)))):=KB.refl.upd;have b7:upd X1b DD (.dK (duR ad' (j+1))) DD=some (.dK (duR ad' (j+1))):=ck;have b1:A0m H (upd X1b DD (.dK (duR ad' (j+1)))):=gT (sX.trans sa) DDH;generalize upd X1b DD (.dK (duR ad' (j+1)))=X2 at a1 b7 b1⊢;have e6:X1b DD=some (.dK (duR ad j)):=sa _ _ du.hd;have d6:KT X1b X2:=a1.kt e6 (by intro xs z;cases z);have j7:WrD P w X2 WD DD U (jg (wrL d) A):=wd.kt (λo e=>a1 _ _ WDn (sa _ _ e)) ((KT.same sa).trans d6) λl ys e=>a1 _ _ (iI (sa _ _ e) e6 (by intro z;cases z)) (sa _ _ e);have g5:X2 x=some (.dK (duI [])):=a1 _ _ c4 b9;have f2:X2 ow=some (.tup [.str e.nm,.ref c]):=d6 _ _ (d0 _ _ j0);have j5:∀i<j,X2 (ad' i)=some (.dK (duI (Ks i))):=λi hi=>by rw[had' i hi];exact a1 _ _ (b5 i hi).2 (sa _ _ (du.at_ i hi))
   refine ji _ rfl _ rfl SL _ _ _ rfl rfl (SqL.of (b1 _ _ a4)) ez (bd _ rfl (lC _ _ e (toM f) M rfl ((c6.kt (KT.same b1)).toM sl.pos) (lw.same b1) (λh4=>⟨by show f.2.2.1.length=_;rw[sl.lc];exact lr.so.length.symm,by show f.2.2.2.length=_;rw[sl.lt h4];exact lr.ss.length.symm⟩) lr.l8 lr.okn lr.pi lr.lp λSD' xs X3 k4 R a8 f7=>(eh SD' rfl ⟨_,SqL.of a8⟩ ?_)));have d3:=b1.trans R;have i7:WrD P w X3 WD DD U (jg (wrL d) A):=j7.kt (λo e=>R _ _ e) (KT.same R) λl ys e=>R _ _ e;have a0:=R _ _ g5
   have k7:(kP e (toM f)).length<=3:=by
    unfold kP;split
    ·simp
    ·exact jT (tO _ _) lr.lp
   have e7:=Paired.length f7;have SDn:SD'≠x:=iI a8 a0 (by intro z;cases z);have a3:∀{Y:Hp},KB x X3 Y->KT X3 Y:=λy=>y.kt a0 (by intro xs z;cases z);have d2:∀{Y:Hp},KB x X3 Y->WrD P w Y WD DD U (jg (wrL d) A):=λ{Y} y=>i7.kt (λo e=>y _ _ c5.symm e) (a3 y) λl ys e=>y _ _ (iI e a0 (by intro z;cases z)) e;have DDB:∀{Y:Hp},KB x X3 Y->Y DD=some (.dK (duR ad' (j+1))):=λy=>y _ _ c4.symm (R _ _ b7)
   have f9:∀{Y:Hp},Y DD=some (.dK (duR ad' (j+1)))->A7q Y DD (.int (0+(j:Int))) (some (.ref x)):=λ{Y} h=>by have g:=A7q.k (H:=Y) (a:=DD) (k:=Sum.inl (0+(j:Int))) h;rw[Int.zero_add,qz ad' (j+1) j (by lia),hadj]at g;rw[Int.zero_add];exact g
   have e4:∀r,(jg (wrL d) A r).length<=j:=λr=>by unfold jg;rw[dm];exact jT (List.length_filter_le _ _) (by rw[List.length_zipIdx];lia)
   refine nJ (K:=K) (a:=SD') (xs:=xs) (λn Z Y=>∃(o7 o8:zP)(Kp':zI),Z=[Sro rl,Sro SL,Sro WD,Sro DD,Sio (0+(j:Int)),Sro q,Sro ow,o7,o8]/\KB x X3 Y/\Y x=some (.dK (duI Kp'))/\Kp'.Nodup/\(∀p,p∈Kp'↔∃r∈(kP e (toM f)).take n,p∈jg (wrL d) A r)/\Kp'.length<=400*n)
    (ox o7 o8 [] rfl KB.refl a0 List.nodup_nil (λp=>⟨λh=>(by cases h),λ⟨r,hr,_⟩=>(by cases hr)⟩) (fa _)) (λn Z Y _ zq=>by obtain⟨_,_,_,_,y,_⟩:=zq;exact SqL.of (y _ _ SDn a8)) ?_ ?_
   ·rintro n xv Z Y d8 D;refine gW D ?_;clear D;rintro d9 c7 K1 rfl y b6 ⟨W,C,a7⟩;obtain⟨B,f6,tr⟩:=iH f7 d8;obtain⟨sb,sc,rfl,i6,g6⟩:=tr;have c8:=(gG.mp d8).1;have a2:=d2 y;have na:A2v Y (SN.nkR B) sb:=wl (ks:=B.2.map Sum.inl) (a3 y _ _ i6) (by rw[a3 y _ _ g6,List.map_map];rfl);refine kJ _ rfl (jw WD _ _ rfl a2.nd) _ rfl ⟨gI rfl,λel d1=>?_⟩;obtain⟨Y1,se,b0,I⟩:=nH (o:=.lst []) d1;rw[I];refine jq WD sb _ U (jQ (SN.nkR B) _ _ rfl ⟨rfl,rfl,qx a2.nd se,na.keeps (λb xs e=>se _ _ e),rfl⟩ ?_)
    obtain⟨G,e1,hl0⟩:∃G,(fC U (SN.nkR B)).getD (.ref el)=.ref G/\Y1 G=some (.lst ((jg (wrL d) A B).map V.int)):=by
     rcases a2.at_ B with ⟨h1,h2⟩|⟨G,h1,h3⟩
     ·exact bd el (by rw[h1];rfl) (by rw[h2];exact b0)
     ·exact bd G (by rw[h1];rfl) (se _ _ h3)
    rw[e1];have c2:=se _ _ b6;have i4:G≠x:=iI hl0 c2 (by intro z;cases z);have j6:=e4 B;refine eh G rfl ⟨_,SqL.of hl0⟩ ?_
    refine nJ (K:=K) (a:=G) (xs:=(jg (wrL d) A B).map V.int) (λm Z Zz=>∃(o8:zP)(Kp':zI),Z=[Sro rl,Sro SL,Sro WD,Sro DD,Sio (0+(j:Int)),Sro q,Sro ow,Sro sb,o8]/\KB x Y1 Zz/\Zz x=some (.dK (duI Kp'))/\Kp'.Nodup/\(∀p,p∈Kp'↔p∈K1\/p∈(jg (wrL d) A B).take m)/\Kp'.length<=K1.length+m)
     (mM c7 K1 rfl KB.refl c2 W (λp=>⟨.inl,λh=>h.elim id λh=>(by cases h)⟩) (fa _)) (λm Z Zz _ zq=>by obtain⟨_,_,_,kz,_⟩:=zq;exact SqL.of (kz _ _ i4 hl0)) ?_ ?_
    ·rintro m iv Z Zz h7 D;refine iq D ?_;clear D;rintro f8 K2' rfl kz b2 a9 ⟨L,c1⟩;obtain⟨ii,d7,rfl⟩:=kT h7;have hm:=(gG.mp d7).1;have j2:(duI K2').length=K2'.length:=by unfold duI;rw[dm]
     have i1:=(y.trans (KB.of se)).trans kz;refine gK _ rfl _ rfl DD _ rfl (f9 (DDB i1)) (gB _ rfl x _ rfl (C0w.k (k:=Sum.inl ii) b2 (hV (by lia))) ?_);rw[vo];refine mM _ _ rfl kz.upd ck (yM a9 _) (λp=>?_) ?_
     ·rw[zd,L,iN,d7,jR,jn,gX,or_assoc]
     ·have:=Ag K2' ii;lia
    ·rintro Z Zz D;refine iq D ?_;clear D;rintro f8 K2' rfl kz b2 a9 ⟨L,c1⟩;rw[dm]at L c1;rw[iY]at L;refine ox _ _ K2' rfl ((y.trans (KB.of se)).trans kz) b2 a9 (λp=>?_) (by lia);rw[L,C,iN,f6,jR];refine⟨λh=>?_,λ⟨r,hr,h2⟩=>?_⟩
     ·rcases h with ⟨r,hr,h2⟩|h2
      ·exact bd r (mT _ hr) h2
      ·exact bd B (my _ (gX.mpr rfl)) h2
     ·rcases jn.mp hr with z|z
      ·exact .inl (bd r z h2)
      ·rw[gX.mp z]at h2;exact .inr h2
   rintro Z Y D;refine gW D ?_;clear D;rintro d9 c7 K1 rfl y b6 ⟨W,C,a7⟩;rw[e7,iY]at C;rw[<-g8]at C;rw[e7]at a7;have a7:K1.length<=1200:=by lia
   have a2:=d2 y;have e5:A0m H Y:=KB.same d3 y g4
   have c9:∀{Zz:Hp},KT X3 Zz->A2v Zz (SN.nkR (wrL d f)) ow:=λ{Zz} kt=>by rw[i2];exact wl (ks:=f.2.2.1.map Sum.inl) (kt _ _ (R _ _ f2)) (by rw[kt _ _ (d3 _ _ hc),List.map_map];rfl)
   refine bd (λZ Zz=>∃(K3:zI),Z=[Sro rl,Sro SL,Sro WD,Sro DD,Sio (0+(j:Int)),Sro q,Sro ow,d9,c7]/\KB x X3 Zz/\Zz x=some (.dK (duI K3))/\K3.Nodup/\K3.length<=2000/\∀p,p∈K3↔Dj (wrL d) (duL d) A f p) ?_ ?_
   ·refine ji _ rfl _ rfl SL _ _ _ rfl rfl (SqL.of (e5 _ _ a4)) ez (jc b _ _ _ rfl rfl (SqT.of (e5 _ _ hb)) (jL (gH (j:=1) rfl) rfl _ rfl (iD (λhw=>?_) (λhw=>?_))))
    ·have ha:f.2.1=("add":Str):=by injection hw
     obtain⟨hd,_,hh⟩:=b8 ha
     obtain⟨G,e1,hl0⟩:∃G,fC U (SN.nkR (wrL d f))=some (.ref G)/\Y G=some (.lst ((jg (wrL d) A (wrL d f)).map V.int)):=by
      rcases a2.at_ (wrL d f)with ⟨_,h2⟩|h
      ·rw[h2]at hh;cases hh
      ·exact h
     have i8:((jg (wrL d) A (wrL d f)).map V.int)[0]?=some (.int hd):=by rw[<-List.head?_eq_getElem?,List.head?_map,hh];rfl
     have j2:(duI K1).length=K1.length:=by unfold duI;rw[dm]
     refine gK _ rfl _ rfl DD _ rfl (f9 (DDB y)) (kn _ rfl _ rfl WD ow _ U _ (eh _ ⟨rfl,rfl,a2.nd,c9 (a3 y),rfl⟩ e1 (jc G _ _ _ rfl rfl (SqL.of hl0) (jp (gH (j:=0) i8) x _ rfl (C0w.k (k:=Sum.inl hd) b6 (hV (by lia))) ?_))));rw[vo];refine⟨_,(jd rfl y.upd ck (yM W _) ?_ λp=>?_)⟩
     ·have:=Ag K1 hd;lia
     ·rw[zd,C];unfold Dj;refine or_congr Iff.rfl ⟨λh=>⟨ha,by rw[hh,h]⟩,λ⟨_,z⟩=>?_⟩;rw[hh]at z;exact(iX z).symm
    ·have ha:f.2.1≠("add":Str):=λz=>hw (by rw[z]);refine⟨K1,(jd rfl y b6 W (by lia) λp=>?_)⟩;rw[C];unfold Dj;exact⟨.inl,λh=>h.resolve_right λz=>ha z.1⟩
   ·rintro Z Zz D;refine rL D ?_;clear D;rintro K3 rfl kz ⟨b2,f3,e2,e3⟩;have J:=d2 kz;have i3:A0m H Zz:=KB.same d3 kz g4;refine kJ _ rfl (jw WD _ _ rfl J.nd) _ rfl ⟨gI rfl,λel d1=>?_⟩;obtain⟨Z1,se,b0,I⟩:=nH (o:=.lst []) d1;rw[I];refine jq WD ow _ U (jQ _ _ _ rfl ⟨rfl,rfl,qx J.nd se,(c9 (a3 kz)).keeps (λb xs e=>se _ _ e),rfl⟩ ?_)
    obtain⟨G,e1,hl0⟩:∃G,(fC U (SN.nkR (wrL d f))).getD (.ref el)=.ref G/\Z1 G=some (.lst ((jg (wrL d) A (wrL d f)).map V.int)):=by
     rcases J.at_ (wrL d f)with ⟨h1,h2⟩|⟨G,h1,h3⟩
     ·exact bd el (by rw[h1];rfl) (by rw[h2];exact b0)
     ·exact bd G (by rw[h1];rfl) (se _ _ h3)
    rw[e1];have j6:=e4 (wrL d f);refine eh _ rfl (gI rfl) λfl i9=>?_;obtain⟨Z2,sf,h6,I⟩:=nH (o:=.lst [.int (0+(j:Int))]) i9;rw[I];refine jo G fl _ _ rfl rfl (sf _ _ hl0) h6 (jV (by rw[dm,kL];lia)) λnl j4=>?_;obtain⟨Z3,sn,c8,I⟩:=nH (o:=.lst ((jg (wrL d) A (wrL d f)).map V.int++[.int (0+(j:Int))])) j4;rw[I];have s3:=(se.trans sf).trans sn;have c0:=qx J.nd s3;obtain⟨l1,j1,l3,j8⟩:=ra c0;refine kn _ rfl _ rfl WD ow _ U _ (fI ⟨rfl,rfl,c0,(c9 (a3 kz)).keeps (λb xs e=>s3 _ _ e),rfl⟩ (hV (by lia)) λo h9=>?_);have nW:∀{l:zW}{ys:zM},Z3 l=some (.lst ys)->l≠WD:=λh=>iI h j1 (λz=>j8 _ z.symm);have k1:=oQ U (SN.nkR (wrL d f)) (V.ref nl);refine jq _ _ _ _ (jo _ (gY U (SN.nkR (wrL d f)) (.ref nl)) ad' (λi=>if i=j then K3 else Ks i) rfl (gT (i3.trans s3) f0) ⟨h9,λr=>?_⟩ (by lia) ⟨?_,λi hi=>?_,λi hi=>?_,λi s' hi c3 p=>?_⟩ λi hi=>?_)
    ·rw[mG,tT];by_cases er:wrL d f=r
     ·rw[dn (by rw[er]),dn er];refine .inr (bd nl rfl ?_);rw[dt (nW c8),c8,er,f4,gN,Int.zero_add];rfl
     ·rw[dh λz=>er (SN.nkR_inj z).symm,dh er,lU];refine(J.at_ r).imp id λ⟨l,g1,g2⟩=>(bd l g1 ?_);rw[dt (nW (s3 _ _ g2))];exact s3 _ _ g2
    ·rw[dt WDn.symm];exact s3 _ _ (DDB kz)
    ·by_cases c:i=j
     ·rw[dn c,c,hadj,dt c5];exact s3 _ _ b2
     ·rw[dh c,dt (by rw[had' i (by lia)];exact(b5 i (by lia)).1)];refine s3 _ _ (kz _ _ (by rw[had' i (by lia)];exact i0 i (by lia)) (R _ _ (j5 i (by lia))))
    ·by_cases c:i=j
     ·rw[dn c];exact⟨f3,e2⟩
     ·rw[dh c];exact du.nd i (by lia)
    ·by_cases c:i=j
     ·subst c;rw[dn rfl,hA];rw[b3]at c3;cases c3;exact e3 p
     ·rw[dh c];exact du.iff i s' (by lia) c3 p
    ·by_cases c:i=j
     ·rw[c,hadj];exact⟨c5,c4⟩
     ·rw[had' i (by lia)];exact b5 i (by lia)
  ·rintro Z X D;refine jk D ?_;clear D;rintro o4 o5 o6 o7 o8 U ⟨ad,Ks,rfl,sX,wd,h5,du,b5⟩;rw[lz]at du;exact bd _ rfl (k DD ad Ks X DDH sX du)
def nQ(a:zJ)(Kj:zI):Bool:=Kj.all λi=>(fC a (Sum.inl i)).isSome
def EZ:Sp:=λe H Q _=>∃(d a:zW)(Kj:zI)(c:zJ),e=[.ref d,.ref a]/\H d=some (.dK (duI Kj))/\H a=some (.dK c)/\d≠a/\∀b,A0m H b->Q (.bl (nQ c Kj)) b
theorem FB(T:Txt K mg t):FO P w base T.dL 1 EZ:=by
 refine T.dL.F.ok Am λ_ A _ s H _ Q E C h=>?_
 ·refine jM h ?_;clear h;rintro d l Kj j rfl n p B k;have G:=mC C;refine rsq (dV (jO (qZ (pv 0)) (gw (i:=2) Am.nd) (ev (gU (uT (vU G (pv 2) (pv 1)) (by with_unfolding_all rfl)) ⟨@rc _ _ _ (@kf _ _ _ (@nU _ _ _ _ kc))⟩ ⟨gR⟩))) ⟨@rc _ _ _ (@kf _ _ _ (@nU _ _ _ _ kc))⟩) ?_;refine gB _ rfl d _ rfl n λo=>?_;have c:∀X,X=upd H d (.frz o (.dK (duI Kj)))->A0m H (upd X d (.dK (duI Kj))):=λX e=>by subst e;exact qD (o:=o) n (A0m.refl _)
  have r:∀q u,H d≠some (.frz q u):=λq u z=>by rw[n]at z;cases z
  refine vC (a:=d) (o:=o) (kvs:=duI Kj) (λi Z X=>∃(m:zP),Z=[Sro d,Sro l,m]/\X=upd H d (.frz o (.dK (duI Kj)))/\(Kj.take i).all (λi=>(fC j (Sum.inl i)).isSome)=true)
   (eh none rfl rfl rfl) (λi Z X D=>by obtain⟨_,_,z,_⟩:=D;exact by rw[z];exact ck) ?_ ?_
  ·rintro i J v Z X f ⟨m,rfl,rfl,b⟩;unfold duI at f;rw[iG]at f;obtain⟨z,x,e⟩:=mu.mp f;cases e;have g:upd H d (.frz o (.dK (duI Kj))) l=some (.dK j):=by rw[dt B.symm];exact p
   refine gK _ rfl _ rfl l _ rfl (A7q.k (k:=Sum.inl z) g) ?_
   cases hv:fC j (Sum.inl z)with
   |none=>
    refine bd true rfl (kC (jQ d o _ ck r ?_))
    have I:nQ j Kj=false:=by unfold nQ;rw[List.all_eq_false];exact bd z (gJ x) (by rw[hv];simp)
    have:=k _ (c _ rfl);rw[I]at this;exact this
   |some v=>refine bd false rfl (hB (eh _ rfl rfl ?_));rw[iN,x,jR,List.all_append,b];simp[hv]
  ·rintro Z X ⟨m,rfl,rfl,b⟩;have y:(duI Kj).length=Kj.length:=by unfold duI;rw[dm]
   rw[y,iY]at b;refine jQ d o _ ck r ?_;have:=k _ (c _ rfl);unfold nQ at this;rw[b]at this;exact this
theorem uK{α:Type}[DecidableEq α]:∀{a b:List α},a.Nodup->(∀x∈a,x∈b)->a.length<=b.length
 | [],_,_,_=>jm _
 |x::a,b,h,hs=>by
  have d:=hs x kX;rw[oU]at h;have e:=uK (b:=b.erase x) h.2 λy c=>(List.mem_erase_of_ne (λz=>h.1 (by rw[<-z];exact c))).mpr (hs y (jZ _ c));rw[List.length_erase_of_mem d]at e;have:=List.length_pos_of_mem d;rw[je]
  lia
structure B9a(n:Nat)(od:zI):Prop where
 nd:od.Nodup
 mem:∀x∈od,0<=x/\x<n
theorem B9a.le(h:B9a n od):od.length<=n:=by
 have:=uK (b:=(List.range n).map Int.ofNat) h.nd λx a=>by obtain⟨d,c⟩:=h.mem x a;exact gS.mpr (bd x.toNat (List.mem_range.mpr (by lia)) (by show((x.toNat:Nat):Int)=x;lia))
 simpa using this
theorem B9a.all(h:B9a n od)(l:n<=od.length){x:Int}(h0:0<=x)(h1:x<n):x∈od:=by
 refine Classical.byContradiction λb=>?_;have:(x::od).length<=n:=B9a.le ⟨oU.mpr ⟨b,h.nd⟩,λy a=>(gP.mp a).elim (λe=>by rw[e];exact⟨h0,h1⟩) (h.mem y)⟩;rw[je]at this
 lia
theorem Cw(h:B9a n od)(l:od.length<n):∃m:Nat,m<n/\(m:Int)∉od/\∀i:Nat,i<m->(i:Int)∈od:=by
 have p:∃m:Nat,m<n/\(m:Int)∉od:=Classical.byContradiction λz=>by
  have:((List.range n).map Int.ofNat).length<=od.length:=uK (rG (λa b e=>Int.ofNat.inj e) List.nodup_range) λx o=>by obtain⟨m,d,rfl⟩:=gS.mp o;exact Classical.byContradiction λq=>z (bd m (List.mem_range.mp d) q)
  rw[dm,List.length_range]at this
  lia
 obtain⟨m,d⟩:=p
 have j:∀k m:Nat,m<=k->m<n/\(m:Int)∉od->∃m:Nat,m<n/\(m:Int)∉od/\∀i:Nat,i<m->(i:Int)∈od:=λk=>by
  induction k with
  |zero=>
   intro m r d;have:m=0:=by lia
   subst this;exact eh 0 d.1 d.2 λi f=>absurd f (Nat.not_lt_zero _)
  |succ k ih=>
   intro m r d;by_cases c:∀i:Nat,i<m->(i:Int)∈od
   ·exact eh m d.1 d.2 c
   ·obtain⟨i,f⟩:=Classical.not_forall.mp c;have s:i<m:=Classical.byContradiction λz=>f λq=>absurd q z;have g:(i:Int)∉od:=λq=>f λ_=>q;exact ih i (by lia) ⟨by lia,g⟩
 exact j m m (fa _) d
def nt(Ks:Nat->List Int)(od:zI)(i:Nat):zI:=((List.range i).filter λ(j:Nat)=> !(fC (duI od) (Sum.inl (j:Int))).isSome&&nQ (duI od) (Ks j)).map Int.ofNat
def JU(K:Frag):Sp:=λf H Q _=>∃(a DD:zW)(d:zI)(n:Nat)(e:Nat->zW)(Ks:Nat->List Int),f=[.ref a,.ref DD]/\SqL K H a (d.map V.int)/\d.length<=63/\H DD=some (.dK (duR e n))/\(∀j<n,H (e j)=some (.dK (duI (Ks j))))/\(∀j<n,∀i∈Ks j,0<=i/\i<j)/\n<=300/\
 ∀(OL:zW)(c:zI)(b:Hp),H OL=none->A0m H b->b OL=some (.lst (c.map V.int))->B9a n c->c.length=n->Q (.ref OL) b
theorem J5(T:Txt K mg t):FO P w base T.bv 2 (JU K):=by
 refine T.bv.F.ok qI λ_ A _ s H _ Q E hr h=>?_
 ·refine ml h ?_;clear h;rintro a DD ns n u Ks rfl hS d2 B a1 ⟨c0,c8,k⟩;have hu:=mC hr;refine rsq (dV (gy 2 qI.nd (@iJ _ _ _ _ ec)) (dV ⟨@oN _ _ 3 _ _ _ _ qI.nd rfl (.inr rfl) qA rfl (.inl rfl)⟩ (dV ⟨@Fb _ _ _ _ _ _ PassesOwn.never (iu oK (jF T.ah (eH 2)) (jb vT (by rfl) T.ah rT (eH 1))) (@lK _ _ _ _ _ (GR (i₀:=5) (N':=["_law_j","_law_done","_law_due"]) (ix:=(List.replicate 1 none++[some 3,some 1])) qI.nd rfl (.inl rfl) rfl (AQ (cl:=[("_law_due",_),("_law_done",_)]) (xs:=["_law_due","_law_done"]) rfl (fI rfl rfl trivial) rfl rfl (by decide+kernel) (by decide+kernel)) (AK (N0:=["_law_j"]) (xs:=["_law_done","_law_due"]) (js:=[3,1]) (fI (fI rfl (.inl rfl) (by walk_at"ix")) (fI rfl (.inl rfl) (by walk_at"ix")) trivial)) (qZ (pv 1)) (λ_ _ _ _=>(gw (i:=0) Go)) (λ_ _ _ _=>(PW.pt (vd (uT (vU hu (pv 0) (pv 1)) (by with_unfolding_all rfl)) (vk (jh (pcl (FB T) hr T.dL (bp (kG hu (pv 2) (pv 0)) (eH 1)))))))) (λ_ _ _ _=>(pv 0))) (@rc _ _ _ (@lK _ _ _ _ _ (@oN _ _ 6 _ _ _ _ qI.nd rfl (.inl rfl) (pcl (qG T) hr T.ag (bp (pv 0) (bp (ff ja (jF T.ah (eH 2)) (jb (AB rfl) (by rfl) T.fO PyProof.Rows.boot_max (bp eA (bp (jF T.ah (eH 0)) ec)))) ec))) rfl (.inl rfl)) (@lK _ _ _ _ _ (@oN _ _ 4 _ _ _ _ qI.nd rfl (.inl rfl) (hG iQ (pv 5) (ff ja (pcl (zw T) hr T.cZ (bp (pv 6) (bp (ff jz eA (jF T.ah (eH 2))) ec))) (jF T.ah (eH 5)))) rfl (.inl rfl)) (@lK _ _ _ _ _ (lA (lh kY mr mq mi (pv 2) (eH 4))) (@kf _ _ _ (@nY _ _ _ _ _ _ _ _ _ hu (pv 3) (pv 4) kc rfl)))))))⟩ (ev (gF (pv 2)))))) ?_;refine⟨gI rfl,λOL G=>?_⟩;have t1:A0m H (upd H OL (.lst [])):=gu G;have M:upd H OL (.lst []) OL=some (.lst (([]:zI).map V.int)):=ck;generalize upd H OL (.lst [])=H1 at t1 M⊢;refine λr a4=>?_;have t2:A0m H1 (upd H1 r (.dK [])):=gu a4;have h2:upd H1 r (.dK []) r=some (.dK (duI [])):=ck;have U:H r=none:=t1.free a4;have b4:OL≠r:=gO M a4;generalize upd H1 r (.dK [])=H2 at t2 h2⊢
  refine FN (λZ X=>∃(o4 o5 o6:zP)(g:zI),Z=[Sro a,Sro DD,Sro OL,Sro r,o4,o5,o6]/\A0m H X/\X OL=some (.lst (g.map V.int))/\X r=some (.dK (duI g))/\B9a n g)
   (λZ X=>match X OL with|some (.lst xs)=>n-xs.length|_=>0) (jP none none none [] rfl (t1.trans t2) (t2 _ _ M) h2 ⟨List.nodup_nil,by simp⟩) ?_ ?_
  ·rintro Z X zz;refine jM zz ?_;clear zz;rintro o4 o5 o6 g rfl sX hO hd I;have d1:=I.le;have W:(duR u n).length=n:=by unfold duR;rw[dm,List.length_range]
   refine gB _ rfl OL _ rfl (.inl (SqL.of hO)) (ou _ rfl DD _ rfl (sX _ _ B) _ _ rfl rfl _ rfl (iD (λN=>?_) (λa5=>?_)))
   ·have N:((g.map V.int).length:Int)<((duR u n).length:Int):=N;rw[W,dm]at N;have nf:∀o' u',H DD≠some (.frz o' u'):=λo' u' z=>by rw[B]at z;cases z
    refine gB _ rfl DD _ rfl (sX _ _ B) λo RD L=>?_;have RDa:RD≠DD:=λz=>by subst z;rw[ck]at L;cases L
    have c2:r≠DD:=λz=>by rw[z,B]at U;cases U
    have OLD:OL≠DD:=λz=>by rw[z,B]at G;cases G
    have b8:∀j<n,u j≠DD:=λj hj z=>by
     have M:=a1 j hj;rw[z,B]at M;injection M with M;injection M with M;have h2:=congrArg (λl=>fC l (Sum.inl ((j:Nat):Int))) M
     rw[qz u n j hj,qy]at h2;split at h2<;>cases h2
    refine Iv (J:=Itd DD o (duR u n)) (D:=RD) n (λi ys Hx=>A0m (upd X DD (.frz o (.dK (duR u n)))) Hx/\Hx RD=some (.lst ys)/\ys=(nt Ks g i).map V.int) (fI (gu L) ck rfl) (λi ys Hx S ⟨s2,_⟩=>⟨s2 _ _ ck,by rw[W];exact S⟩) (λys Hx ⟨s2,_⟩=>⟨s2 _ _ ck,W.symm⟩) ?_ ?_
    ·rintro i ys Hx S ⟨sx,O,rfl⟩ x Hy ⟨rfl,k',v,a3,rfl⟩;unfold duR at a3;rw[iG,List.getElem?_range S]at a3;cases a3;have a8:Hy r=some (.dK (duI g)):=sx _ _ (by rw[dt c2];exact hd);have b9:Hy DD=some (.frz o (.dK (duR u n))):=sx _ _ ck;have c1:Hy (u i)=some (.dK (duI (Ks i))):=sx _ _ (by rw[dt (b8 i S)];exact sX _ _ (a1 i S))
     have c3:u i≠r:=λz=>by have:=a1 i S;rw[z,U]at this;cases this
     have Y:∀b1 b2:Bool,nt Ks g (i+1)=nt Ks g i++if (!(fC (duI g) (Sum.inl (i:Int))).isSome&&nQ (duI g) (Ks i))=true then [(i:Int)]else []:=λ_ _=>by
      unfold nt;rw[List.range_succ,List.filter_append,gN];congr 1;by_cases c:(!(fC (duI g) (Sum.inl (i:Int))).isSome&&nQ (duI g) (Ks i))=true
      ·rw[dn c,List.filter_cons,dn c];rfl
      ·rw[dh c,List.filter_cons,dh c];rfl
     have Y:=Y true true
     have d3:(nt Ks g i).length<=i:=by unfold nt;rw[dm];exact jT (List.length_filter_le _ _) (by rw[List.length_range];exact fa _)
     refine⟨(fI rfl rfl True.intro),(gK _ rfl _ rfl r _ rfl (A7q.k (k:=Sum.inl (i:Int)) a8) ?_)⟩
     cases hv:fC (duI g) (Sum.inl (i:Int))with
     |some v=>rw[hv]at Y;refine bd false rfl (hB (hB (fI sx O ?_)));rw[Y];simp
     |none=>
      rw[hv]at Y;refine bd true rfl (kC ?_);refine gK _ rfl _ rfl DD _ rfl (.inl (eu (duR u n) (Sum.inl (i:Int)) (.inr ⟨o,b9⟩) rfl ((qz u n i S).symm))) (i12 _ rfl (u i) r (Ks i) (duI g) rfl c1 a8 c3 λH' s'=>?_)
      cases hm:nQ (duI g) (Ks i)with
      |false=>rw[hm]at Y;refine bd false rfl (hB (fI (sx.trans s') (s' _ _ O) ?_));rw[Y];simp
      |true=>rw[hm]at Y;refine bd true rfl (kC ⟨_,(jd rfl (s' _ _ O) (hV (by rw[dm];lia)) (gT (sx.trans s') L) ck ?_)⟩);rw[Y];simp;rfl
    ·rintro ys Hx ⟨sx,O,rfl⟩;refine jQ DD o _ (sx _ _ ck) nf ?_;have st:A0m X (upd Hx DD (.dK (duR u n))):=qD (sX _ _ B) sx;have a0:upd Hx DD (.dK (duR u n)) RD=some (.lst ((nt Ks g n).map V.int)):=by rw[dt RDa];exact O
     have RDX:X RD=none:=by rw[<-L,dt RDa]
     generalize upd Hx DD (.dK (duR u n))=Gt at st a0⊢;have sG:=sX.trans st;have R:=st _ _ hO;have c5:=st _ _ hd;refine gK _ rfl _ rfl OL _ rfl (.inl (SqL.of R)) (gB _ rfl a _ rfl (.inl (sG.seq hS)) (hZ _ _ rfl (gL _ _ rfl rfl (by show(0:Int)<(if (1:Int)<_ then _ else 1);split<;>lia) (iE a ns _ rfl (sG.seq hS) (lQ _ (by show(if (1:Int)<_ then _ else (1:Int))≠0;split<;>lia)) λcz=>?_))))
     have d0:0<(nt Ks g n).length:=by
      obtain⟨m,hm,c7,b7⟩:=Cw I (by lia);refine List.length_pos_of_mem (a:=(m:Int)) (gS.mpr (bd m (List.mem_filter.mpr ⟨List.mem_range.mpr hm,?_⟩) rfl));rw[qy,dh c7];show nQ (duI g) (Ks m)=true;unfold nQ;rw[List.all_eq_true];intro i S;obtain⟨h0,M⟩:=c0 m hm i S
      have:i∈g:=by
       have:=b7 i.toNat (by lia)
       rwa[Int.toNat_of_nonneg h0]at this
      rw[qy,dn this];rfl
     refine bd _ rfl (gK _ rfl _ rfl OL _ rfl (.inl (SqL.of R)) (eu _ _ rfl rfl (gL cz _ rfl (by lia) (by rw[dm];lia) λz z0 z1=>?_)));obtain⟨jj,c6,e⟩:=tI (f:=V.int) (xs:=nt Ks g n) (i:=z%(((nt Ks g n).map V.int).length:Int)) (lQ _ (by rw[dm];lia)) (by rw[dm];exact nn _ (by lia));refine gB _ rfl RD _ rfl (.inl (SqL.of a0)) (gL _ _ rfl rfl (by show(0:Int)<(((nt Ks g n).map V.int).length:Int);rw[dm];lia) (jP RD _ _ _ rfl rfl (SqL.of a0) e ?_));obtain⟨C,b6,a2⟩:=gS.mp (gJ c6);obtain⟨a6,a7⟩:=List.mem_filter.mp b6;have a6:=List.mem_range.mp a6;have a2:jj=(C:Int):=a2.symm;subst a2
     have a9:(C:Int)∉g:=λz=>by rw[qy,dn z]at a7;cases a7
     refine kJ _ rfl (.inl (iU rfl _ (SqL.of R))) _ rfl (iL OL _ _ rfl rfl R (hV (by rw[dm];lia)) ?_);have u1:A0m H (upd Gt OL (.lst (g.map V.int++[.int (C:Int)]))):=gT sG G;have b0:upd Gt OL (.lst (g.map V.int++[.int (C:Int)])) OL=some (.lst ((g++[(C:Int)]).map V.int)):=by rw[ck,gN];rfl
     have b5:upd Gt OL (.lst (g.map V.int++[.int (C:Int)])) r=some (.dK (duI g)):=by rw[dt b4.symm];exact c5
     generalize upd Gt OL (.lst (g.map V.int++[.int (C:Int)]))=Gu at u1 b0 b5⊢;have c9:(duI g).length=g.length:=by unfold duI;rw[dm]
     refine gK _ rfl _ rfl r _ rfl (C0w.k (k:=Sum.inl (C:Int)) b5 (hV (by lia))) ?_;rw[vo,dh a9];have b3:upd Gu r (.dK (duI (g++[(C:Int)]))) OL=some (.lst ((g++[(C:Int)]).map V.int)):=by rw[dt b4];exact b0
     refine⟨(jP _ _ _ (g++[(C:Int)]) rfl (gT u1 U) b3 ck ⟨?_,λx hx=>?_⟩),?_⟩
     ·rw[rV];exact fI I.nd (by simp) λp hp q hq e=>a9 (by rw[<-gX.mp hq,<-e];exact hp)
     ·rcases jn.mp hx with q|q
      ·exact I.mem x q
      ·rw[gX.mp q];lia
     ·show(match upd Gu r (.dK (duI (g++[(C:Int)]))) OL with|some (.lst xs)=>n-xs.length|_=>0)<(match X OL with|some (.lst xs)=>n-xs.length|_=>0)
      rw[b3,hO];show n-((g++[(C:Int)]).map V.int).length<n-(g.map V.int).length;rw[dm,dm,ic,kL]
      lia
   ·have a5:¬((g.map V.int).length:Int)<((duR u n).length:Int):=a5;rw[W,dm]at a5;exact bd _ rfl (k OL g X G sX hO I (by lia))
  ·rintro Z X Q1 Q2 hq ⟨x,e1,a',xs,e2,sq,y,e3,d,c4,e4,hd,i,j,ei,ej,b,eb,q⟩;exact gB x e1 a' xs e2 sq (ou y e3 d c4 e4 hd i j ei ej b eb (hq _ _ q))
theorem B9a.perm(h:B9a n od)(p:od'.Perm od):B9a n od':=⟨p.nodup_iff.mpr h.nd,λx a=>h.mem x (p.mem_iff.mp a)⟩
theorem uR{f:α->V}{xs:List α}(a:Nat):kM (xs.map f) none (some (a:Int))=(xs.take a).map f:=yE
theorem uX{f:α->V}{xs:List α}(a:Nat):kM (xs.map f) (some (a:Int)) none=(xs.drop a).map f:=by
 unfold kM;rw[HT.sIx_nat,HT.sIx_none,dm,<-List.map_drop,<-List.map_take,nN (by rw[mo];lia)];congr 1;by_cases c:a<=xs.length
 ·rw[Nat.min_eq_left c]
 ·rw[Nat.min_eq_right (by lia),rQ (fa _),rQ (by lia)]
theorem xG(f:α->V)(xs:List α)(a b:Nat):kM (xs.map f) (some (a:Int)) (some (b:Int))=((xs.take b).drop a).map f:=by
 rw[yN];congr 1;rw[List.drop_take];by_cases c:a<=xs.length
 ·rw[Nat.min_eq_left c];by_cases d:b<=xs.length
  ·rw[Nat.min_eq_left d]
  ·rw[Nat.min_eq_right (by lia),nN (by rw[mo];lia),nN (by rw[mo];lia)]
 ·have e:min a xs.length=xs.length:=Nat.min_eq_right (by lia);rw[e,rQ (fa _),rQ (by lia)];simp
theorem uo(l:List α){lo hi:Nat}(h:lo<=hi):l=l.take lo++(l.take hi).drop lo++l.drop hi:=by
 have a:l.take lo=(l.take hi).take lo:=by rw[List.take_take,Nat.min_eq_left h]
 rw[a,qd,qd]
def Jd:Sp:=λf H Q _=>∃(OL:zW)(e c:Int)(n:Nat)(d:zI),f=[.ref OL,.int e,.int c]/\H OL=some (.lst (d.map V.int))/\B9a n d/\d.length=n/\n<=300/\
 ∀(RL:zW)(a:zI)(b:Hp),H RL=none->A0m H b->b RL=some (.lst (a.map V.int))->B9a n a->a.length=n->Q (.ref RL) b
theorem Jc(T:Txt K mg t):FO P w base T.bP 1 Jd:=by
 refine T.bP.F.ok pX λ_ A _ s H _ Q E hr h=>?_
 ·refine ko h ?_;clear h;rintro OL wy c n a rfl g b4 a3 ⟨b7,k⟩;refine rsq (dV (gU (PW.pt (lY (iu oK (jF T.ah (eH 0)) eA) (oO (iu kS (pv 1) eA)))) (ev (gF (mh qF (by rfl) T.aY nO (eH 0)))) ⟨gR⟩) (dV (gy 3 pX.nd (ff ja (pv 2) (jF T.ah (eH 0)))) (dV (gy 4 pX.nd (ff ja (ff mf (pv 2) (jF T.ah (eH 0))) (jF T.ah (eH 0)))) (dV (gy 5 pX.nd (jb (Gw rfl) (by rfl) T.gc PyProof.Rows.boot_min (bp (pv 3) (eH 4)))) (dV (gy 6 pX.nd (jb (AB rfl) (by rfl) T.fO PyProof.Rows.boot_max (bp (pv 3) (eH 4)))) (dV (gU (iu kS (pv 1) eA) (dV (gy 7 pX.nd (ff nD (nK nI (pv 0) pu (md (pv 3))) (nK nI (pv 0) (md (ff jz (pv 3) eA)) pu))) (ev (gF (ff nD (ff nD (nK nI (pv 7) pu (md (pv 4))) (@iJ _ _ _ _ (bp (hG iQ (pv 0) (pv 3)) ec))) (nK nI (pv 7) (md (pv 4)) pu))))) ⟨gR⟩) (dV (gU (iu kS (pv 1) eA) (dV (gy 8 pX.nd (mh qF (by rfl) T.aY nO (eH 0))) (dV ⟨nG (hG iQ (pv 0) (pv 4)) (sU (pv 8) (pv 3) za)⟩ (dV ⟨nG (hG iQ (pv 0) (pv 3)) (sU (pv 8) (pv 4) za)⟩ (ev (gF (pv 8)))))) ⟨gR⟩) (ev (gF (ff nD (ff nD (nK nI (pv 0) pu (md (pv 5))) (lu (N':=["_law_j"]) (ix:=(List.replicate 1 none)) rfl (mI rfl (by decide+kernel) (by decide+kernel)) (mH rfl) (vf rfl T.cg (bp (nK nI (pv 0) (md (pv 5)) (md (ff jz (pv 6) eA))) ec)) (λ_ _ _ _=>(gw (i:=0) Hg)) (λ_ _ _ _=>(pv 0)))) (nK nI (pv 0) (md (ff jz (pv 6) eA)) pu))))))))))) ?_;have ll:(a.map V.int).length=n:=by rw[dm];exact a3
  have q:∀(RL:zW)(v:zI)(H':Hp),H RL=none->A0m H H'->H' RL=some (.lst (v.map V.int))->v.Perm a->Q (.ref RL) H':=λRL v H' O r h3 p=>k RL v H' O r h3 (b4.perm p) (by rw[p.length_eq];exact a3);refine ou _ rfl OL _ rfl (.inl (SqL.of g)) _ _ rfl rfl _ rfl (iD (λ_=>kC ?_) (λhn=>?_))
  ·exact gB _ rfl OL _ rfl (.inl (SqL.of g)) λRL e=>q RL a _ e (gu e) ck (.refl _)
  have hn:¬((a.map V.int).length:Int)<2:=hn;rw[ll]at hn;refine kJ _ rfl rfl _ rfl (iD (λ_=>?_) (λ_=>?_))
  ·exact gB _ rfl OL _ rfl (.inl (SqL.of g)) λRL e=>q RL a _ e (gu e) ck (.refl _)
  have l:(0:Int)<((a.map V.int).length:Int):=by rw[ll];lia
  obtain⟨d,ho1,lo1⟩:∃i:Nat,c%((a.map V.int).length:Int)=i/\i<n:=(bd ((c%((a.map V.int).length:Int)).toNat) (by have:=lQ c (by lia:((a.map V.int).length:Int)≠0);lia) (by have:=nn c l;have:=lQ c (by lia:((a.map V.int).length:Int)≠0);lia));obtain⟨f,ho2,lo2⟩:∃i:Nat,c/((a.map V.int).length:Int)%((a.map V.int).length:Int)=i/\i<n:=(bd ((c/((a.map V.int).length:Int)%((a.map V.int).length:Int)).toNat) (by have:=lQ (c/((a.map V.int).length:Int)) (by lia:((a.map V.int).length:Int)≠0);lia) (by have:=nn (c/((a.map V.int).length:Int)) l;have:=lQ (c/((a.map V.int).length:Int)) (by lia:((a.map V.int).length:Int)≠0);lia));refine gK _ rfl _ rfl OL _ rfl (.inl (SqL.of g)) (gL _ _ rfl rfl l ?_);refine gK _ rfl _ rfl OL _ rfl (.inl (SqL.of g)) (gL _ _ rfl rfl ⟨l,by show((a.map V.int).length:Int)<1073741824;lia⟩ (gB _ rfl OL _ rfl (.inl (SqL.of g)) (gL _ _ rfl rfl l ?_)));refine gZ _ rfl _ rfl (hZ _ _ rfl ?_);refine gZ _ rfl _ rfl (hZ _ _ rfl ?_);dsimp only;rw[ho1,ho2];clear ho1 ho2 l;have a1:a[d]?=some (a[d]'(by lia)):=gM _;have b6:a[f]?=some (a[f]'(by lia)):=gM _;have e1:atI (a.map V.int) (d:Int)=some (.int (a[d]'(by lia))):=gH (by rw[iG,a1];rfl);have e2:atI (a.map V.int) (f:Int)=some (.int (a[f]'(by lia))):=gH (by rw[iG,b6];rfl);refine kJ _ rfl rfl _ rfl (iD (λ_=>?_) (λ_=>?_))
  ·
   refine bd _ rfl (gK _ rfl _ rfl OL _ rfl (SqL.of g) λs1 I=>?_);rw[uR];obtain⟨H1,B,O,b⟩:=nH (o:=.lst ((a.take d).map V.int)) I;rw[b];refine gK _ rfl _ rfl _ _ rfl rfl (gB _ rfl OL _ rfl (SqL.of (B _ _ g)) λz S=>?_);dsimp only;rw[show((d:Int)+1)=((d+1:Nat):Int)by lia,uX];obtain⟨H2,t2,r,b⟩:=nH (o:=.lst ((a.drop (d+1)).map V.int)) S;rw[b];refine jo s1 z _ _ rfl rfl (t2 _ _ O) r (jV (by rw[dm,dm,jf,mo];lia)) λrs b2=>?_;rw[<-gN];obtain⟨rt,hrt⟩:∃rt,rt=a.take d++a.drop (d+1):=⟨_,rfl⟩;rw[<-hrt];have b8:rt.length<=300:=by rw[hrt,ic,jf,mo];lia
   obtain⟨H3,t3,h3,b⟩:=nH (o:=.lst (rt.map V.int)) b2;rw[b];have a0:=(B.trans t2).trans t3;refine bd _ rfl (gK _ rfl _ rfl rs _ rfl (SqL.of h3) λs4 b5=>?_);rw[uR];obtain⟨H4,t4,h4,b⟩:=nH (o:=.lst ((rt.take f).map V.int)) b5;rw[b];have a8:=a0.trans t4;refine kU _ rfl _ rfl OL _ _ _ rfl rfl (SqL.of (a8 _ _ g)) e1 (gI rfl) λs5 G=>?_;obtain⟨H5,t5,h5,b⟩:=nH (o:=.lst [.int (a[d]'(by lia))]) G;rw[b];refine jo s4 s5 _ _ rfl rfl (t5 _ _ h4) h5 (jV (by rw[dm,jf,kL];lia)) λM C=>?_;have t6:A0m H5 (upd H5 M (.lst ((rt.take f).map V.int++[.int (a[d]'(by lia))]))):=gu C;have h6:upd H5 M (.lst ((rt.take f).map V.int++[.int (a[d]'(by lia))])) M=some (.lst ((rt.take f++[a[d]'(by lia)]).map V.int)):=by rw[ck,gN];rfl
   generalize upd H5 M (.lst ((rt.take f).map V.int++[.int (a[d]'(by lia))]))=H6 at t6 h6⊢;have a4:=(t4.trans t5).trans t6;refine bd _ rfl (gK _ rfl _ rfl rs _ rfl (SqL.of (a4 _ _ h3)) λs7 b0=>?_);rw[uX];obtain⟨H7,t7,h7,b⟩:=nH (o:=.lst ((rt.drop f).map V.int)) b0;rw[b];refine jo M s7 _ _ rfl rfl (t7 _ _ h6) h7 (jV (by rw[dm,dm,ic,jf,mo,kL];lia)) λRL e=>?_;rw[<-gN];have U:=(a0.trans a4).trans t7;refine q RL _ _ (U.free e) (U.trans (gu e)) ck ?_
   have p1:(rt.take f++[a[d]'(by lia)]++rt.drop f).Perm ((a[d]'(by lia))::rt):=by rw[oB];refine List.perm_middle.trans ?_;show((a[d]'(by lia))::(rt.take f++rt.drop f)).Perm _;rw[qd]
   refine p1.trans ?_;rw[hrt];refine List.perm_middle.symm.trans ?_;rw[show a.take d++(a[d]'(by lia))::a.drop (d+1)=a from (vK a1).symm]
  refine kJ _ rfl rfl _ rfl (iD (λ_=>?_) (λ_=>?_))
  ·
   refine gB _ rfl OL _ rfl (.inl (SqL.of g)) λRL e=>?_;obtain⟨H1,B,O,b⟩:=nH (o:=.lst (a.map V.int)) e;rw[b]
   have ix:∀(m j:Nat),j<m->ixN m (j:Int)=some j:=λm j h=>by
    unfold ixN;simp
    lia
   refine ji _ rfl _ rfl OL _ _ _ rfl rfl (SqL.of (B _ _ g)) e2 (ji _ rfl _ rfl RL _ _ d rfl rfl O (ix _ _ (by rw[dm];lia)) ?_);rw[<-List.map_set];have z:A0m H (upd H1 RL (.lst ((a.set d (a[f]'(by lia))).map V.int))):=gT B e;have r:upd H1 RL (.lst ((a.set d (a[f]'(by lia))).map V.int)) RL=some (.lst ((a.set d (a[f]'(by lia))).map V.int)):=ck;generalize upd H1 RL (.lst ((a.set d (a[f]'(by lia))).map V.int))=H2 at z r⊢;refine ji _ rfl _ rfl OL _ _ _ rfl rfl (SqL.of (z _ _ g)) e1 (ji _ rfl _ rfl RL _ _ f rfl rfl r (ix _ _ (by rw[dm,List.length_set];lia)) ?_);rw[<-List.map_set];exact bd _ rfl (q RL _ _ e (gT z e) ck (List.set_set_perm (by lia) (by lia)))
  ·
   obtain⟨lo,hlo⟩:∃lo:Nat,(if (f:Int)<d then (f:Int)else d)=lo/\lo<=d/\lo<=f:=by
    by_cases c:(f:Int)<d
    ·exact eh f (dn c) (by lia) (fa _)
    ·exact eh d (dh c) (fa _) (by lia)
   obtain⟨hi,hhi⟩:∃hi:Nat,(if (f:Int)>d then (f:Int)else d)=hi/\d<=hi/\f<=hi/\hi<n:=by
    by_cases c:(f:Int)>d
    ·exact iF f (dn c) (by lia) (fa _) lo2
    ·exact iF d (dh c) (fa _) (by lia) lo1
   obtain⟨a5,l1,l2⟩:=hlo;obtain⟨a6,g1,g2,g3⟩:=hhi;rw[a5,a6];refine bd _ rfl (gK _ rfl _ rfl OL _ rfl (SqL.of g) λs1 I=>?_);rw[uR];obtain⟨H1,B,O,b⟩:=nH (o:=.lst ((a.take lo).map V.int)) I;rw[b];refine gZ _ rfl _ rfl (gK _ rfl _ rfl _ _ rfl rfl (gB _ rfl OL _ rfl (SqL.of (B _ _ g)) λz S=>?_));dsimp only;rw[show((hi:Int)+1)=((hi+1:Nat):Int)by lia,xG];obtain⟨sg,hsg⟩:∃sg,sg=(a.take (hi+1)).drop lo:=⟨_,rfl⟩;have b9:sg.length<=300:=by rw[hsg,mo,jf];lia
   rw[<-hsg];obtain⟨H2,t2,r,b⟩:=nH (o:=.lst (sg.map V.int)) S;rw[b];refine eu z _ rfl (SqL.of r) λD hD=>?_;refine rq (J:=Itv K z (sg.map V.int).length) (D:=D) (sg.map V.int).length (λi L X=>A0m H2 X/\X D=some (.lst L)/\L.length=i/\∃W:zI,L=W.map V.int/\W=sg.reverse.take i) ⟨gu hD,(jL ck rfl [] rfl rfl)⟩ (λi L X hi ⟨R,_⟩=>?_) (λL X _=>rfl) ?_ ?_
   ·have b3:(sg.map V.int).length-1-i<(sg.map V.int).length:=by lia
    exact gL (sg.map V.int) _ (SqL.of (R _ _ r)) rfl hi (gM b3)
   ·rintro i L X hi ⟨R,N,ly,W,rfl,u⟩ x Y ⟨rfl,hx⟩;obtain⟨y,hy,rfl⟩:=kT (hx _ (SqL.of (R _ _ r)));rw[dm]at ly hi;refine iU True.intro _ (iT rfl N (hV (by rw[dm];lia)) (gT R hD) (jL ck (by rw[ic,dm,ly];rfl) (W++[y]) (by rw[gN];rfl) ?_));rw[dm]at hy;rw[iN,<-u,List.getElem?_reverse (by lia),hy];rfl
   rintro L X ⟨R,N,ly,W,rfl,u⟩;rw[dm,nN (by rw[List.length_reverse];lia)]at u;subst u;have a7:=B.trans t2;have b1:=a7.trans R;have a9:=(t2.trans R) _ _ O;refine jo s1 D _ _ rfl rfl a9 N (jV (by rw[dm,dm,jf,List.length_reverse];lia)) λs5 G=>?_;rw[<-gN];obtain⟨H5,t5,h5,b⟩:=nH (o:=.lst ((a.take lo++sg.reverse).map V.int)) G;rw[b];have a2:=b1.trans t5;refine gK _ rfl _ rfl _ _ rfl rfl (gB _ rfl OL _ rfl (SqL.of (a2 _ _ g)) λM C=>?_);dsimp only;rw[show((hi:Int)+1)=((hi+1:Nat):Int)by lia,uX];obtain⟨H6,t6,h6,b⟩:=nH (o:=.lst ((a.drop (hi+1)).map V.int)) C;rw[b];have Z:=a2.trans t6;refine jo s5 M _ _ rfl rfl (t6 _ _ h5) h6 (jV (by rw[dm,dm,ic,jf,mo,List.length_reverse];lia)) λRL e=>?_;rw[<-gN];refine q RL _ _ (Z.free e) (Z.trans (gu e)) ck ?_;have e0:=uo a (lo:=lo) (hi:=hi+1) (by lia);rw[<-hsg]at e0;exact((List.reverse_perm sg).append_left _|>.append_right _).trans (by rw[<-e0])
def Dk(ea:zW):Sp:=λa H Q _=>∃z:Int,a=[.int z]/\Q (.bl true) H
def jy(s:Stp):PyData:=.tuple [.int s.1,.str s.2.1,.tuple (s.2.2.1.map PyData.int),.tuple (s.2.2.2.map PyData.int)]
theorem yw:∀a b:zI,PyData.eqvAll (a.map PyData.int) (b.map PyData.int)=decide (a=b)
 | [],[]=>by simp[PyData.eqvAll]
 | [],m::b=>by simp[PyData.eqvAll]
 |n::a,[]=>by simp[PyData.eqvAll]
 |n::a,m::b=>by
  have:=yw a b;simp only [ik,PyData.eqvAll,PyData.eqv,this];by_cases e:n=m
  ·subst e;simp
  ·simp[e]
theorem Bg(s s':Stp):PyData.eqv (jy s) (jy s')=decide (s=s'):=by obtain⟨a,b,c,d⟩:=s;obtain⟨e,f,g,h⟩:=s';simp only [jy,PyData.eqv,PyData.eqvAll,yw,Bool.and_true];rw[Bool.eq_iff_iff];simp
theorem A6j.rep(h:A6j H v s):Rep H v (jy s):=by refine gW h ?_;clear h;rintro b c u rfl a e d;exact .tup a (.cons (.int _) (.cons (.str _) (.cons (.tup e (ro _)) (.cons (.tup d (ro _)) .nil))))
theorem BT(h:PyData.strOk s.2.1=true):SeqAt.shaped (jy s)=true:=by
 obtain⟨c,d,_⟩:=qC s.2.2.1;obtain⟨a,b,_⟩:=qC s.2.2.2;refine qB ?_ ?_
 ·simp[jy,PyData.canLay0,PyData.canLayAll0,h,c,a]
 ·simp[jy,PyData.depth,PyData.depthAll,d,b]
def Js(ea:zW):Sp:=λc H Q _=>∃(v u:V)(C:zW)(d:zO)(s a:Stp),c=[v,u]/\H ea=some (.ext (xcG ea C d))/\A6j H v s/\A6j H u a/\PyData.strOk s.2.1=true/\PyData.strOk a.2.1=true/\s.2.2.1.length+s.2.2.2.length<=100/\∀b,A0m H b->Q (.bl (decide (s=a))) b
theorem Bm(T:Txt K mg t)(ea:zW):qo ea P w K mg base iS 1 t.dE t.dF ["_law_found"] (Dk ea):=by
 refine T.ao.F.okE HS (λb A a s H c Q E d e h=>?_)
 ·obtain⟨z,rfl,q⟩:=h;refine rsq (ev (gF (qR (jb kh (by rfl) T.a5 jN (bp (pv 0) (bp (jW (v:=V.ty "int") rfl T.fQ PyProof.Rows.boot_int rfl) ec))) (qS (DQ (jb kh (by rfl) T.a5 jN (bp (pv 0) (bp (jW (v:=V.ty "bool") rfl T.fX PyProof.Rows.boot_bool rfl) ec)))))))) ?_;refine ju _ rfl _ _ _ _ rfl (kZ.int z) (oi "int") true rfl (kC ?_);exact ju _ rfl _ _ _ _ rfl (kZ.int z) (qu (by decide+kernel) (by decide+kernel) (by decide+kernel)) false rfl q
theorem Jv(T:Txt K mg t)(ea:zW):qo ea P w K mg base iS 2 t.cM t.cK ["_law_found","_law_due"] (Js ea):=by
 have GE_l_whole:=@Bm P w K mg base t T;refine T.aQ.F.okE BF (λO A g s H vs Q E z D h=>?_)
 ·refine ml h ?_;clear h;rintro v u C Y B o rfl S q W ok ⟨p,N,k⟩;have R:=q.rep;have ru:=W.rep;refine gW q ?_;clear q;rintro b c d rfl f I L;refine rsq (dV (gU (PW.pt (lY (nT (jh (jb kh (by rfl) T.a5 jN (bp (pv 0) (bp (jW (v:=V.ty "tuple") rfl T.aq lV rfl) ec))))) (lY (iu sN (jF T.ah (eH 0)) eA) (oO (iu (sV z.units) (pv 0) (pv 1)))))) (ev (gF kc)) ⟨gR⟩) (dV (gU (PW.pt (lY (nT (jh (pS (GE_l_whole _) (z.mono (by lia)) D rfl T.ao.m T.ao.F.kp T.ao.b .nil nB (bp (hG (qW (K:=K) rfl) (pv 0) eA) ec)))) (lY (nT (jh (jb kh (by rfl) T.a5 jN (bp (hG (qW (K:=K) rfl) (pv 0) eA) (bp (jW (v:=V.ty "tuple") rfl T.aq lV rfl) ec))))) (oO (nT (jh (jb kh (by rfl) T.a5 jN (bp (hG (qW (K:=K) rfl) (pv 0) eA) (bp (jW (v:=V.ty "tuple") rfl T.aq lV rfl) ec))))))))) (ev (gF kc)) ⟨gR⟩) (dV ⟨tF (ok:=nZ ea) PassesOwn.never D (yK (ea:=ea) (ff tK (hG (qW (K:=K) rfl) (pv 0) eA) (hG (qW (K:=K) rfl) (pv 0) eA))) (gw (i:=2) BF.nd) (@kf _ _ _ (@pJ _ _ _ _ _ _ _ _ (nT (jh (pS (GE_l_whole _) (z.mono (by lia)) D rfl T.ao.m T.ao.F.kp T.ao.b .nil nB (eH 2)))) (@kf _ _ _ (@nU _ _ _ _ kc)) gR))⟩ (ev (gF kc))))) ?_;refine ju _ rfl _ _ _ _ rfl (.tup f) (oi "tuple") true rfl (hB ?_);refine gB _ rfl b _ rfl (.inr (SqT.of f)) (iB rfl _ rfl (xt rfl ?_));refine gZ _ rfl _ rfl (kI (jy B) (jy o) R ru (BT ok) (BT p) _ rfl ?_);rw[Bg];refine sJ (λl=>?_) (λr=>?_)
  ·have:=k H (A0m.refl _);rw[ir l]at this;exact this
  rw[jl r]at k;refine i12 _ rfl b _ _ _ rfl rfl (SqT.of f) (gH (j:=0) rfl) (gZ _ rfl true rfl (hB ?_));refine i12 _ rfl b _ _ _ rfl rfl (SqT.of f) (gH (j:=2) rfl) (jc _ _ _ _ rfl (.tup I) (oi "tuple") (bd true rfl (hB ?_)));refine i12 _ rfl b _ _ _ rfl rfl (SqT.of f) (gH (j:=3) rfl) (jc _ _ _ _ rfl (.tup L) (oi "tuple") (bd true rfl (hB ?_)));refine i12 _ rfl b _ _ _ rfl rfl (SqT.of f) (gH (j:=2) rfl) (i12 _ rfl b _ _ _ rfl rfl (SqT.of f) (gH (j:=3) rfl) (jo c d _ _ rfl rfl I L (jV (by rw[dm,dm];lia)) λJ X M e=>(eh J rfl ⟨_,SqT.of e⟩ ?_)));rw[<-gN]at e;refine zx (ea:=ea) (K:=K) (a:=J) (xs:=(B.2.2.1++B.2.2.2).map V.int) (λi Z G=>∃(y:zP),Z=[Sro b,some u,y]/\G=X) (bd none rfl rfl) (by rintro i Z G ⟨_,_,rfl⟩;exact⟨SqT.of e,(iA C Y (M _ _ S))⟩) ?_ ?_
  ·rintro i x Z G U ⟨y,rfl,rfl⟩;obtain⟨n,hn,rfl⟩:=kT U;exact bd _ rfl (gZ n rfl true rfl (hB (bd _ rfl rfl)))
  ·rintro Z G ⟨y,rfl,rfl⟩;exact k _ M
theorem yi{D:zW}{b:Bool}(h:kitOne K (.ref C) (.ref D)=some b):∀u,A2b (.ref D) u->kitOne K (.ref C) u=some b:=by intro u z;obtain rfl:u=Value.ref D:=z;exact h
structure xD(L:List Stp):Prop where
 nd:L.Nodup
 ok:∀s∈L,PyData.strOk s.2.1=true/\s.2.2.1.length+s.2.2.2.length<=100
 few:L.length<=300
theorem uS{l:List α}(h:l.Nodup){x:α}(h1:l[i]?=some x)(h2:l[j]?=some x):i=j:=by obtain⟨d,b⟩:=gG.mp h1;obtain⟨c,a⟩:=gG.mp h2;exact(List.getElem_inj h).mp (b.trans a.symm)
def JZ(ea:zW):Sp:=λd H Q _=>∃(b C:zW)(v:V)(e:zO)(c:zM)(L:List Stp)(s:Stp)(i:Nat),d=[.ref b,v]/\H ea=some (.ext (xcG ea C e))/\H b=some (.lst c)/\A5u H c L/\xD L/\A6j H v s/\L[i]?=some s/\∀a,A0m H a->Q (.int (i:Nat)) a
def ED(A:Adr)(ea:zW):Sp:=λr H Q _=>∃(n o DD SP m c b q:zW)(u v:V)(p g a:zM)(l d:zJ)(Kj:zI)(L:List Stp)(x s:Stp)(i j:Nat)(k f:Int)(e:Str),r=[.ref ea,.ref o,.ref DD,.ref SP,.ref m]/\H ea=some (.ext (xcG ea A.a6 (some n)))/\
 H n=some (.xd [("first",u),("second",v),("array",.str e),("cell",.ref c)])/\H c=some (.tup (x.2.2.1.map V.int))/\H o=some (.lst p)/\A5u H p L/\xD L/\A6j H u x/\A6j H v s/\L[i]?=some x/\L[j]?=some s/\
 H DD=some (.dK l)/\fC l (Sum.inl (j:Int))=some (.ref b)/\H b=some (.dK (duI Kj))/\(i:Int)∈Kj/\H SP=some (.dK d)/\fC d (Sum.inl (j:Int))=some (.int f)/\fC d (Sum.inl (i:Int))=some (.int k)/\f<k/\
 H m=some (.lst g)/\0<=x.1/\g[x.1.toNat]?=some (.ref q)/\H q=some (.tup (.str e::a))/\∀h,A0m H h->Q (.bl true) h
theorem J3(T:Txt K mg t)(ea:zW):qo ea P w K mg base iS 3 t.cx t.cv ["_law_steps","_law_step"] (JZ ea):=by
 have GE_l_is_step:=@Jv P w K mg base t T;refine T.aj.F.okE BU (λX A q s H vs Q E hr N h=>?_)
 ·refine jk h ?_;clear h;rintro z C v O f L ⟨I,i,rfl,J,g,l,d,S,p,k⟩;have lz:=Paired.length l;have W:=d.few;have U:=(gG.mp p).1;refine rsq (dV ⟨tF (ok:=nZ ea) PassesOwn.never N (He rfl T.aA (bp (jF T.ah (eH 0)) ec)) (gw (i:=2) BU.nd) (@kf _ _ _ (@pJ _ _ _ _ _ _ _ _ (jh (pS (GE_l_is_step _) (hr.mono (by lia)) N rfl T.aQ.m T.aQ.F.kp T.aQ.b .nil nB (bp (pv 1) (bp (hG iQ (pv 0) (pv 2)) ec)))) (@kf _ _ _ (@nU _ _ _ _ (pv 2))) gR))⟩ (ev (gF (xh xK eA)))) ?_;refine gB _ rfl z _ rfl (.inl (SqL.of g)) (iF _ rfl (by lia) (by lia) ?_);refine HN (ea:=ea) (n:=f.length) (λj Z G=>∃(u:zP),Z=[Sro z,some v,u]/\A0m H G/\j<=i) (eh none rfl (A0m.refl _) (jm _)) (by rintro j Z G ⟨_,_,c,_⟩;exact iA C O (c _ _ J)) ?_ ?_
  ·rintro j Z G Y ⟨u,rfl,c,r⟩;have M:f[j]?=some f[j]:=gM Y;have R:atI f (0+(j:Int))=some f[j]:=by rw[Int.zero_add];exact gH M
   obtain⟨D,a,y⟩:=iH l M;have o:=d.ok I (gJ p);have x:=d.ok D (gJ a);refine bd _ rfl (ji _ rfl _ rfl z _ _ _ rfl rfl (SqL.of (c _ _ g)) R (nM v (f[j]) C O I D rfl (c _ _ J) (S.kt (KT.same c)) (y.kt (KT.same c)) o.1 x.1 o.2 λG2 B=>(bd _ rfl (iD (λh=>?_) (λh=>?_)))))
   ·have e:j=i:=by
     rw[<-h]at a;exact uS d.nd a p
    refine bd _ rfl ?_;have:=k G2 (c.trans B);rw[<-e]at this;rw[Int.zero_add];exact this
   ·have:j≠i:=λe=>by
     rw[e,p]at a;exact h (iX a)
    exact eh _ rfl (c.trans B) (by lia)
  ·rintro Z G ⟨u,rfl,c,r⟩
   lia
theorem Kk(T:Txt K mg t)(ea:zW):qo ea P w K mg base iS 4 t.bD t.bM uF (ED t ea):=by
 have GE_l_place_of:=@J3 P w K mg base t T;have GE_l_whole:=@Bm P w K mg base t T;refine T.aC.F.okE ui (λb4 A a7 s H vs Q E R Y h=>?_)
 ·refine oR h ?_;clear h;rintro f I DD SP rl c N q u v C xr b1 dk ⟨sk,Kj,L,x,sp,i,j,pi,pj,nm,rfl,D,hd,W,l,o,S,su,sv,hi,hj,a9,vD,a2,a4,O,vj,vi,b3,a1,x0,a0,hq,k⟩;have X:=mC R;refine rsq (dV (gy 5 ui.nd (pS (GE_l_place_of _) (R.mono (by lia)) Y rfl T.aj.m T.aj.F.kp T.aj.b .nil nB (bp (pv 1) (bp (pP (K:=K) rfl (pv 0) rfl) ec)))) (dV (gy 6 ui.nd (pS (GE_l_place_of _) (R.mono (by lia)) Y rfl T.aj.m T.aj.F.kp T.aj.b .nil nB (bp (pv 1) (bp (pP (K:=K) rfl (pv 0) rfl) ec)))) (dV (gU (PW.pt (lY (iu oK (pv 5) eA) (lY (iu oK (pv 6) eA) (lY (uT (vU X (pv 5) (kG X (pv 2) (pv 6))) (by with_unfolding_all rfl)) (oO (iu uM (kG X (pv 3) (pv 6)) (kG X (pv 3) (pv 5)))))))) (ev (gF kc)) ⟨gR⟩) (dV (gU (PW.pt (lY (nT (jh (jb kh (by rfl) T.a5 jN (bp (pP (K:=K) rfl (pv 0) rfl) (bp (jW (v:=V.ty "str") rfl T.fP PyProof.Rows.boot_str rfl) ec))))) (oO (iu sN (pP (K:=K) rfl (pv 0) rfl) (hG pf (hG iQ (pv 4) (hG pf (hG iQ (pv 1) (pv 5)) eA)) eA))))) (ev (gF kc)) ⟨gR⟩) (dV (gU (PW.pt (lY (nT (jh (jb kh (by rfl) T.a5 jN (bp (pP (K:=K) rfl (pv 0) rfl) (bp (jW (v:=V.ty "tuple") rfl T.aq lV rfl) ec))))) (lY (iu (sV R.units) (pP (K:=K) rfl (pv 0) rfl) (hG pf (hG iQ (pv 1) (pv 5)) eA)) (oO (jh (jb (vP (K:=K) rfl) (by rfl) T.a5 jN (bp (pv 0) (bp (yF (v:=V.ref t.di) rfl T.fk rfl) ec)))))))) (ev (gF kc)) ⟨gR⟩) (dV ⟨tF (ok:=nZ ea) PassesOwn.never Y (yK (ea:=ea) (pP (K:=K) rfl (pv 0) rfl)) (gw (i:=7) ui.nd) (@kf _ _ _ (@pJ _ _ _ _ _ _ _ _ (nT (jh (pS (GE_l_whole _) (R.mono (by lia)) Y rfl T.ao.m T.ao.F.kp T.ao.b .nil nB (eH 7)))) (@kf _ _ _ (@nU _ _ _ _ kc)) gR))⟩ (ev (gF (qR (jb (vP (K:=K) rfl) (by rfl) T.a5 jN (bp (pv 0) (bp (yF (v:=V.ref t.aS) rfl T.eS rfl) ec))) (qS (jb (vP (K:=K) rfl) (by rfl) T.a5 jN (bp (pv 0) (bp (jW (v:=V.ty "ValueError") rfl T.dP PyProof.Rows.Boot.«ValueError» rfl) ec))))))))))))) ?_;refine bd _ rfl (jA _ rfl ea t.a6 f _ u rfl D hd (by walk_at"lk") T.d6 (iA I t.a6 (nM u (some f) C L x i rfl D l o S su hi λH1 p=>?_)));refine bd _ rfl (jA _ rfl ea t.a6 f _ v rfl (p _ _ D) (p _ _ hd) (by walk_at"lk") T.cS (iA I t.a6 (nM v (some f) C L sp j rfl (p _ _ D) (p _ _ l) (o.kt (KT.same p)) S (sv.kt (KT.same p)) hj λr s2=>?_)));have d:=p.trans s2;refine gW (id su) λb cb ub ez hb b5 b6=>?_;obtain⟨z,hz⟩:∃z,C[i]?=some z:=⟨C[i]'(by rw[Paired.length o];exact(gG.mp hi).1),gM _⟩;obtain⟨x',J,sz⟩:=iH o hz;rw[hi]at J;cases J;refine gW sz ?_;clear sz;rintro bz cz uz rfl B a8 b2;have M:atI C (i:Int)=some (.ref bz):=gH hz;have a3:atI xr x.1=some (.ref q):=by have:=gH a0;rwa[Int.toNat_of_nonneg x0]at this
  have gD:=A7q.k (H:=r) (a:=DD) (k:=Sum.inl (j:Int)) (d _ _ a9);rw[vD]at gD;have gA:=A7q.k (H:=r) (a:=N) (k:=Sum.inl (i:Int)) (d _ _ a2);rw[qy,dn a4]at gA;have gj:=A7q.k (H:=r) (a:=SP) (k:=Sum.inl (j:Int)) (d _ _ O);rw[vj]at gj;have gi:=A7q.k (H:=r) (a:=SP) (k:=Sum.inl (i:Int)) (d _ _ O);rw[vi]at gi;refine gB _ rfl _ _ rfl rfl (bd _ rfl (iD (λh=>absurd (show(i:Int)<0 from h) (by lia)) (λ_=>?_)));refine gB _ rfl _ _ rfl rfl (bd _ rfl (iD (λh=>absurd (show(j:Int)<0 from h) (by lia)) (λ_=>?_)));refine gZ _ rfl _ rfl (ou _ rfl DD _ rfl gD N _ rfl gA false rfl (hB ?_));refine gK _ rfl _ rfl SP _ rfl gj (bd _ rfl (ou _ rfl SP _ rfl gi _ _ rfl rfl _ rfl (iD (λh=>absurd (show pj>pi from h) (by lia)) (λ_=>?_))));have g:=d _ _ hd;have e:=d _ _ D;refine jA _ rfl ea t.a6 f _ (.str nm) rfl e g (by walk_at"lk") T.bI (jc _ _ _ _ rfl (.str _) (oi "str") (bd true rfl (hB ?_)));refine jA _ rfl ea t.a6 f _ (.str nm) rfl e g (by walk_at"lk") T.bI (bd _ rfl (ji _ rfl _ rfl I _ _ _ rfl rfl (SqL.of (d _ _ l)) M (jP bz _ _ _ rfl rfl (SqT.of (d _ _ B)) (gH (j:=0) rfl) (jP rl _ _ _ rfl rfl (SqL.of (d _ _ a1)) a3 (jc q _ _ _ rfl rfl (SqT.of (d _ _ hq)) (jL (gH (j:=0) rfl) rfl _ rfl (xt rfl ?_)))))));refine jA _ rfl ea t.a6 f _ (.ref c) rfl e g (by walk_at"lk") T.aX (jc _ _ _ _ rfl (.tup (d _ _ W)) (oi "tuple") (bd true rfl (hB ?_)));obtain⟨r1,r2,r3⟩:=qC x.2.2.1;have U:SeqAt.shaped (oY x.2.2.1)=true:=qB (by simp[oY,PyData.canLay0,r1]) (by simp[oY,PyData.depth,r2]);have b0:PyData.eqv (oY x.2.2.1) (oY x.2.2.1)=true:=by simp[oY,PyData.eqv,r3]
  refine jA _ rfl ea t.a6 f _ (.ref c) rfl e g (by walk_at"lk") T.aX (ji _ rfl _ rfl I _ _ _ rfl rfl (SqL.of (d _ _ l)) M (jP bz _ _ _ rfl rfl (SqT.of (d _ _ B)) (gH (j:=2) rfl) (kI (oY x.2.2.1) (oY x.2.2.1) (.tup (d _ _ W) (ro _)) (.tup (d _ _ a8) (ro _)) U U _ rfl ?_)));rw[b0];refine hB ?_;refine bd _ rfl (iA ea t.a6 ⟨some f,(kI _ false rfl e T.d7 (yi T.cT) false rfl (hB ?_))⟩);refine jA _ rfl ea t.a6 f _ (.ref c) rfl e g (by walk_at"lk") T.aX (eh c rfl ⟨_,SqT.of (d _ _ W)⟩ ?_);refine zx (ea:=ea) (K:=K) (a:=c) (xs:=x.2.2.1.map V.int) (λi' Z G=>∃(o7:zP),Z=[Sro ea,Sro I,Sro DD,Sro SP,Sro rl,Sio (i:Int),Sio (j:Int),o7]/\G=r) (bd none rfl rfl) (by rintro i' Z G ⟨_,_,rfl⟩;exact⟨SqT.of (d _ _ W),(iA _ _ e)⟩) ?_ ?_
  ·rintro i' y Z G hy ⟨o7,rfl,rfl⟩;obtain⟨n,hn,rfl⟩:=kT hy;exact bd _ rfl (gZ n rfl true rfl (hB (bd _ rfl rfl)))
  ·rintro Z G ⟨o7,rfl,rfl⟩;refine bd _ rfl (iA ea t.a6 ⟨some f,(kI _ true rfl e T.d7 (yi T.cf) true rfl (kC ?_))⟩);exact bd _ rfl ⟨ea,(jP t.a6 (some f) _ true rfl e T.d7 (sT T.bU (by decide+kernel)) (k _ d))⟩
theorem A7:∀(c a b:zI),iC (c++a) (c++b)=iC a b
 | [],_,_=>rfl
 |x::c,a,b=>by
  rw[oT,oT]
  conv=>lhs;unfold iC
  rw[dn rfl];exact A7 c a b
theorem zf:∀{c d:zI}(a b:zI),c.length=d.length->iC c d=true->iC (c++a) (d++b)=true
 | [],[],_,_,_,h=>by cases h
 |x::c,y::d,a,b,l,h=>by
  rw[oT,oT];unfold iC at h⊢;by_cases e:x=y
  ·rw[dn e]at h⊢;exact zf a b (by simpa using l) h
  ·rw[dh e]at h⊢;exact h
theorem yd:∀{k:Nat}{a b:zI}{x y:Int},(∀k'<k,a[k']?=b[k']?)->a[k]?=some x->b[k]?=some y->x<y->iC a b=true
 |0,a::as,b::bs,x,y,_,h1,h2,h=>by
  cases h1
  cases h2
  unfold iC;rw[dh (by lia)];exact jl h
 |k+1,a::as,b::bs,x,y,h0,h1,h2,h=>by
  have e:=h0 0 (by lia);have e:a=b:=by simpa using e
  unfold iC;rw[dn e];exact yd (k:=k) (λk' c=>by simpa using h0 (k'+1) (by lia)) (by simpa using h1) (by simpa using h2) h
 |0,[],_,_,_,_,h1,_,_=>by cases h1
 |0,_::_,[],_,_,_,_,h2,_=>by cases h2
 |k+1,[],_,_,_,_,h1,_,_=>by cases h1
 |k+1,_::_,[],_,_,_,_,h2,_=>by cases h2
theorem vy:∀c:zI,iC c c=false| []=>rfl|x::c=>by unfold iC;rw[dn rfl];exact vy c
theorem Gy(ls:zI):(ia ls).Pairwise λc c'=>iC c c'=true:=by
 refine vz (P:=λls=>(ia ls).Pairwise λc c'=>iC c c'=true) (by show([[]]:List zI).Pairwise _;simp) (λls n d=>?_) ls;rw[rD];unfold la;rw[List.pairwise_flatMap];refine⟨λc _=>?_,?_⟩
 ·rw[List.pairwise_map];refine List.pairwise_lt_range.imp λ{i j} h=>?_;rw[A7];unfold iC;rw[dh (by lia)];exact jl (by lia)
 ·refine List.Pairwise.imp_of_mem (λ{c c'} b a h p f q e=>?_) d;obtain⟨i,_,rfl⟩:=gS.mp f;obtain⟨j,_,rfl⟩:=gS.mp e;exact zf _ _ ((rF ls c b).1.trans (rF ls c' a).1.symm) h
def StpR(s s':Stp):Prop:=s.1<s'.1\/(s.1=s'.1/\(s.2.2.1=s'.2.2.1\/iC s.2.2.1 s'.2.2.1=true))
theorem Iu(rws:List Rw)(n:Nat):(fm rws n).Pairwise StpR:=by
 unfold fm;rw[List.pairwise_flatMap];refine⟨λk _=>?_,List.pairwise_lt_range.imp λ{k f} h x e y d=>?_⟩
 ·unfold lI;split
  ·rename_i r hr;unfold oq;rw[List.pairwise_flatMap];refine⟨λc _=>?_,(Gy r.so).imp λ{c g} h x e y d=>?_⟩
   ·refine List.Pairwise.imp_of_mem (R:=λ_ _=>True) (λ{x y} e d _=>?_) (List.pairwise_of_forall λ_ _=>True.intro);have a:=ot e;have b:=ot d;exact .inr ⟨by rw[a.1,b.1],.inl (by rw[a.2,b.2])⟩
   ·have a:=ot e;have b:=ot d;exact .inr ⟨by rw[a.1,b.1],.inr (by rw[a.2,b.2];exact h)⟩
  ·exact List.Pairwise.nil
 ·have a:=pV e;have b:=pV d;exact .inl (by rw[a,b];lia)
theorem xY{x:Stp}(e:(fm rws n)[i]?=some x)(hs:(fm rws n)[j]?=some s)(h:x.1<s.1\/(x.1=s.1/\iC x.2.2.1 s.2.2.1=true)):i<j:=by
 obtain⟨f,d⟩:=gG.mp e;obtain⟨g,b⟩:=gG.mp hs;rcases Nat.lt_trichotomy i j with c|c|c
 ·exact c
 ·subst c;rw[d]at b;subst b;rcases h with h|⟨_,h⟩
  ·lia
  ·rw[vy]at h;cases h
 ·have r:=List.pairwise_iff_getElem.mp (Iu rws n) j i g f c;rw[d,b]at r;rcases r with r|⟨k,a⟩
  ·rcases h with h|h<;>lia
  ·rcases h with h|⟨_,h⟩
   ·lia
   ·rcases a with a|a
    ·rw[a,vy]at h;cases h
    ·rw[tN _ _ a]at h;cases h
theorem Bv(rws:List Rw)(n:Nat):(fm rws n).Nodup:=by
 unfold fm;rw[List.Nodup,List.pairwise_flatMap];refine⟨λk _=>?_,List.pairwise_lt_range.imp λ{k l} h x f y d e=>?_⟩
 ·unfold lI;split
  ·rename_i r hr;unfold oq;rw[List.pairwise_flatMap];refine⟨λc _=>?_,(wj r.so).imp λ{c i} h x f y d e=>?_⟩
   ·unfold jt;split
    ·exact List.pairwise_singleton _ _
    ·rw[List.pairwise_cons];refine⟨λy d e=>?_,?_⟩
     ·obtain⟨u,_,rfl⟩:=gS.mp d;injection e with _ e;injection e with e _;exact absurd e (by decide)
     ·exact rG (λa b e=>by injection e with _ e;injection e with _ e;injection e) (wj r.ss)
   ·subst e;exact h ((ot f).2.symm.trans (ot d).2)
  ·exact List.Pairwise.nil
 ·subst e;have g:=pV f;have j:=pV d
  lia
theorem vX(h:s∈fm rws n)(hs:s.2.1=("start":Str)):s.2.2.2=[]:=by
 obtain⟨k,_,b⟩:=List.mem_flatMap.mp h;unfold lI at b;split at b
 ·obtain⟨c,_,a⟩:=List.mem_flatMap.mp b;unfold jt at a;split at a
  ·rw[gX.mp a]
  ·rcases gP.mp a with q|q
   ·rw[q]
   ·obtain⟨u,_,rfl⟩:=gS.mp q;exact absurd (show("add":Str)=("start":Str) from hs) (by decide)
 ·cases b
theorem Bp(h:s∈fm rws n):PyData.strOk s.2.1=true:=by
 obtain⟨k,_,b⟩:=List.mem_flatMap.mp h;unfold lI at b;split at b
 ·obtain⟨c,_,a⟩:=List.mem_flatMap.mp b;unfold jt at a;split at a
  ·rw[gX.mp a];show PyData.strOk ("set":Str)=true;decide+kernel
  ·rcases gP.mp a with q|q
   ·rw[q];show PyData.strOk ("start":Str)=true;decide+kernel
   ·obtain⟨u,_,rfl⟩:=gS.mp q;show PyData.strOk ("add":Str)=true;decide+kernel
 ·cases b
theorem tU(ls:zI):(∀n∈ls,1<=n)->(prN ls:Int)=iZ ls:=by refine vz (P:=λls=>(∀n∈ls,1<=n)->(prN ls:Int)=iZ ls) (λ_=>rfl) (λls n b h=>?_) ls;have c:1<=n:=h n (by simp);rw[vA,Bk,<-b λm a=>h m (by simp[a]),Int.natCast_mul,Int.toNat_of_nonneg (by lia)]
theorem Ds(lo:pE lk axs e)(u:e.wo<=40)(d:OkN axs):∃r,LwR lk e r/\e.wo=((prN r.so*prN r.ss:Nat):Int):=by
 refine iq lo.sz λso ss j k g i c=>?_;have v:=lo.l4;have h:=tj (ls:=so) λn a=>(g n a).1;have f:=tj (ls:=ss) λn a=>(i n a).1;have z:prN so*prN ss<=40:=by lia
 have s:prN so<=prN so*prN ss:=Nat.le_mul_of_pos_right _ f;have q:prN ss<=prN so*prN ss:=Nat.le_mul_of_pos_left _ h;have t:=tU so λn a=>(g n a).1;have w:=tU ss λn a=>(i n a).1;have l:=Paired.length j;have p:=Paired.length k;have b:OkN (e.own++e.sums):=λy m=>d y (lo.sub y m);exact bd ⟨e.own,e.sums,so,ss⟩ ⟨rfl,rfl,⟨⟨g,by show so.length<=8;lia,by show iZ so<=4000;lia⟩,⟨i,by show ss.length<=8;lia,by show iZ ss<=4000;lia⟩,by show iZ so<=60;lia,by show iZ ss<=60;lia,l,p⟩,j,k,λx o=>(b x (my _ o)).1,b,by lia,lo.ps,lo.lp⟩ c
theorem Gb{k:Int}{r:Rw}(ok:D0u r):(oq k r).length<=2*(prN r.so*prN r.ss):=by
 have e:=(pY r.so λn a=>(ok.go.pos n a).1).1;have g:=(pY r.ss λn a=>(ok.gs.pos n a).1).1;rw[<-tU _ λn a=>(ok.go.pos n a).1]at e;rw[<-tU _ λn a=>(ok.gs.pos n a).1]at g;have h:=tj (ls:=r.ss) λn a=>(ok.gs.pos n a).1
 have b:=tE (l:=ia r.so) (f:=jt k r.ss) (B:=2*prN r.ss) λc _=>by
  unfold jt;split
  ·rw[kL];lia
  ·rw[je,dm];lia
 have d:(ia r.so).length=prN r.so:=by lia
 rw[d]at b;show((ia r.so).flatMap (jt k r.ss)).length<=_;rw[Nat.mul_left_comm]at b;exact b
theorem vO{lk:zJ}{lws:List Lw}{rws:List Rw}(p:Paired (λe r=>LwR lk e r/\e.wo=((prN r.so*prN r.ss:Nat):Int)) lws rws):∀n,n<=rws.length->((fm rws n).length:Int)<=2*((lws.take n).map (·.wo)).sum
 |0,_=>by simp[fm]
 |n+1,h=>by
  have g:=vO p n (by lia);have l:=Paired.length p;have a:lws[n]?=some lws[n]:=gM (by lia);obtain⟨r,b,c,f⟩:=iH p a;rw[Bz b,ic,iN,a,jR,gN,List.sum_append];have i:=Gb (k:=n) c.ok;show((_:Nat):Int)<=2*(_+([lws[n]].map (·.wo)).sum);have d:([lws[n]].map (·.wo)).sum=lws[n].wo:=by simp
  rw[d,f]
  lia
def sC(l:LnM)(e:Lw):Prop:=l.nm=e.nm/\l.own=e.own/\l.sums=e.sums/\TmR (e.own++e.sums) l.tm 10 e.ps
theorem CA(p:Paired sC lns lws):wrS lns=wrL lws:=by
 funext s;unfold wrS wrL;have l:=Paired.length p;by_cases h:s.1.toNat<lns.length
 ·have a:lns[s.1.toNat]?=some lns[s.1.toNat]:=gM h;obtain⟨e,b,c⟩:=iH p a;rw[a,b];show(_,_)=(_,_);rw[c.1]
 ·rw[List.getElem?_eq_none (by lia),List.getElem?_eq_none (by lia)]
theorem GS{f g:zR}{p:Pc}(h:oF BD p)(e:∀x∈BD,f x=g x):rdP f p=rdP g p:=by
 have d:lF f p.gs=lF g p.gs:=by
  unfold lF;rw[Bool.eq_iff_iff,List.all_eq_true,List.all_eq_true];refine⟨λa x b=>?_,λa x b=>?_⟩
  ·have:=of_decide_eq_true (a x b);refine jl ?_;show x.2.1<=g x.1/\g x.1<x.2.2;rw[<-e _ (h.gs x b)];exact this
  ·have:=of_decide_eq_true (a x b);refine jl ?_;show x.2.1<=f x.1/\f x.1<x.2.2;rw[e _ (h.gs x b)];exact this
 have c:jr f p.ix=jr g p.ix:=by
  unfold jr;refine List.map_congr_left λx b=>?_;by_cases hz:x.1=("":Str)
  ·rw[dn hz,dn hz]
  ·rw[dh hz,dh hz,e _ ((h.ix x b).resolve_left hz)]
 unfold rdP;rw[d,c]
theorem vY{α β:Type}{f g:α->List β}:∀{l:List α},(∀x∈l,f x=g x)->l.flatMap f=l.flatMap g| [],_=>rfl|x::r,h=>by rw[List.flatMap_cons,List.flatMap_cons,h x (.head _),vY λy a=>h y (.tail _ a)]
theorem ye{s:StM}:(kP e s).length<=e.ps.length:=by
 unfold kP;split
 ·exact jm _
 ·exact tO _ _
theorem Ay{l:LnM}{s:StM}(lo:pE lk axs e)(r:sC l e)(i:s.ce.length=e.own.length)(lt:s.tu.length=e.sums.length)(o:nu lk axs)(m:s.wd≠"start"):qP lk l s/\rd (ai lk) l.tm (ai (atM l s))=kP e s:=by
 obtain⟨_,d,g,c⟩:=r
 have b:∀x∈e.own++e.sums,ai (atM l s) x=ai (atW e.own e.sums s) x/\fC (atM l s) (Sum.inr x)=some (.int (ai (atM l s) x)):=λx a=>by have:=EA (s:=s) i lt a;unfold atM;rw[d,g];exact this
 have j:rd (ai lk) l.tm (ai (atM l s))=kP e s:=by rw[c.rds];unfold kP;rw[dh m];exact vY λp q=>GS (lo.ps p q) λx a=>(b x a).1
 have t:=lo.l4;refine⟨⟨by rw[d];exact i,by rw[g];exact lt,by rw[d,g];lia,c.gd,c.dp,λx a=>(b x (c.fv x a)).2,(bd (e.own++e.sums) c.ax λx a=>?_),?_⟩,j⟩
 ·obtain⟨n,h,k,f⟩:=o x (lo.sub x a);have:=sO h;rw[this];exact fI h k f
 ·rw[j];have:=ye (e:=e) (s:=s);have:=lo.lp
  lia
theorem Ax:∀{a acc:zJ}{k:Key}{v:V},(a.map (·.1)).Nodup->(k,v)∈a->fC (ip acc a) k=some v
 | [],_,_,_,_,h=>by cases h
 |w::r,acc,k,v,nd,h=>by
  rw[ik,oU]at nd;show fC (ip (gY acc w.1 w.2) r) k=some v;rcases gP.mp h with q|q
  ·subst q;rw[vQ nd.1,mG,dn rfl]
  ·exact Ax nd.2 q
theorem Dn{own:zC}{s:StM}(h1:s.ce.length=own.length)(h2:s.tu.length=sums.length)(f:(own++sums).Nodup){k:Nat}{c:Int}(d:own[k]?=some y)(h:s.ce[k]?=some c):ai (atW own sums s) y=c:=by
 refine sO ?_;unfold atW;refine Ax ?_ ?_
 ·rw[tM h1 h2];exact rG (λa b e=>by injection e) f
 ·unfold prs;have g:=(gG.mp d).1;refine gJ (i:=k) ?_;rw[qJ];refine⟨?_,?_⟩
  ·rw[iG,nj g,d];rfl
  ·rw[iG,nj (by lia),h];rfl
structure uZ(lk:zJ)(lns:List LnM)(lws:List Lw)(s:Stp):Prop where
 ok:sH lk lns s
 eq:rdS lk lns s=duL lws s
theorem link(b:Paired sC lns lws)(g:∀e∈lws,pE lk axs e)(n:Paired (LwR lk) lws rws)(w:OkN axs)(q:nu lk axs)(hs:s∈fm rws rws.length):uZ lk lns lws s:=by
 obtain⟨r,d⟩:=oj hs;have y:=Paired.length n;have A:=Paired.length b;have z:=(gG.mp d.at_).1;have f:lns[s.1.toNat]?=some (lns[s.1.toNat]'(by lia)):=gM _;generalize lns[s.1.toNat]'(by lia)=l at f;obtain⟨e,k,v⟩:=iH b f;obtain⟨x,c,u⟩:=iH n k;rw[d.at_]at c;cases c;have i:=g e (gJ k);have p:(toM s).ce.length=e.own.length:=d.lc.trans (Paired.length u.so).symm;have t:(toM s).wd≠"start"->(toM s).tu.length=e.sums.length:=λh=>(d.lt h).trans (Paired.length u.ss).symm;have m:duL lws s=kP e (toM s):=by unfold duL;rw[k]
 have o:rdS lk lns s=duL lws s:=by
  rw[m];unfold rdS;by_cases a:s.2.1="start"
  ·rw[dn a];unfold kP;have j:(toM s).wd="start":=a;rw[dn j]
  ·rw[dh a,f];exact(Ay i v p (t a) q a).2
 refine⟨⟨d.pos,(bd l f λa=>(Ay i v p (t a) q a).1),?_⟩,o⟩;rw[o,m];have:=ye (e:=e) (s:=toM s);have:=i.lp
 lia
theorem FZ(m:Paired (LwR lk) lws rws)(a:∀(i j:Nat)(e d:Lw),lws[i]?=some e->lws[j]?=some d->e.nm=d.nm->i=j):qw (wrL lws) (fm rws rws.length):=by
 have t:=Paired.length m;refine IB (λx q y p h=>?_) (λx y b c=>?_)
 ·obtain⟨r,f⟩:=oj q;obtain⟨s,g⟩:=oj p;have n:=(gG.mp f.at_).1;have o:=(gG.mp g.at_).1;have l:lws[x.1.toNat]?=some (lws[x.1.toNat]'(by lia)):=gM _;have k:lws[y.1.toNat]?=some (lws[y.1.toNat]'(by lia)):=gM _;unfold wrL at h;rw[l,k]at h;injection h with b c;have:=a _ _ _ _ l k b;have:=f.pos;have:=g.pos;exact⟨by lia,c⟩
 ·unfold wrL;rw[b,c]
def jI(k:Nat):Str:="h"++(toString (k:Int):Str)
theorem At:∀k:Fin 100,PyData.strOk (jI k.1)=true/\(((k.1:Nat):Int)).natAbs.log2<1920/\("h":Str).length+(toString ((k.1:Nat):Int):Str).length<=100/\jI k.1≠"in":=by decide+kernel
theorem HH:∀i j:Fin 30,jI i.1=jI j.1->i=j:=by decide+kernel
theorem rm(hi:i<30)(a:j<30)(h:jI i=jI j):i=j:=congrArg Fin.val (HH ⟨i,hi⟩ ⟨j,a⟩ h)
structure sR(lk:zJ)(axs:zC)(lws:List Lw):Prop where
 ok:∀e∈lws,pE lk axs e
 nms:∀i e,lws[i]?=some e->e.nm=jI i
 fr:∀b e,lws[b]?=some e->∀p∈e.ps,p.arr=e.nm\/p.arr=("in":Str)\/∃a,a<b/\p.arr=jI a
 few:lws.length<=29
theorem Hm(lo:sR lk axs lws)(o:OkN axs)(C:Paired (LwR lk) lws rws){x:Stp}(B:(fm rws rws.length)[i]?=some x)(hs:(fm rws rws.length)[j]?=some s)(h:wrL lws x∈duL lws s):i<j:=by
 obtain⟨r1,G⟩:=oj (gJ B);obtain⟨r2,n⟩:=oj (gJ hs);have l1:=Paired.length C;have L:=lo.few;have Z:=(gG.mp G.at_).1;have k2:=(gG.mp n.at_).1;have r:lws[x.1.toNat]?=some (lws[x.1.toNat]'(by lia)):=gM _;have g:lws[s.1.toNat]?=some (lws[s.1.toNat]'(by lia)):=gM _;generalize lws[x.1.toNat]'(by lia)=e1 at r;generalize lws[s.1.toNat]'(by lia)=e at g;have p1:=G.pos;have p2:=n.pos;obtain⟨r',m,J⟩:=iH C g;rw[n.at_]at m;cases m;have f:=lo.ok e (gJ g);have X:wrL lws x=(e1.nm,x.2.2.1):=by unfold wrL;rw[r]
 have w:duL lws s=kP e (toM s):=by unfold duL;rw[g]
 rw[X,w]at h;unfold kP at h;split at h
 ·cases h
 rename_i hw;have H:(toM s).ce.length=e.own.length:=n.lc.trans (Paired.length J.so).symm;have U:(toM s).tu.length=e.sums.length:=(n.lt hw).trans (Paired.length J.ss).symm;obtain⟨p,I,h⟩:=List.mem_flatMap.mp h;unfold rdP at h;split at h
 ·have h:=gX.mp h;injection h with h1 h2;have v:=lo.nms _ _ r;have N:=lo.nms _ _ g;rcases lo.fr _ _ g p I with q|q|⟨a,ha,q⟩
  ·have Y:x.1.toNat=s.1.toNat:=rm (by lia) (by lia) (by rw[<-v,<-N,h1,q]);refine gW (f.po p I q) λk y z Q R g3 P=>?_;refine xY B hs (.inr ⟨by lia,?_⟩)
   have F:∀(b:Nat)(d:Str)(t:Int),p.ix[b]?=some (d,t)->e.own[b]?=some d->∃c,s.2.2.1[b]?=some c/\x.2.2.1[b]?=some (c+t):=λb d t A l=>by
    have hk:=(gG.mp l).1;have S:s.2.2.1.length=e.own.length:=H;have D:s.2.2.1[b]?=some (s.2.2.1[b]'(by lia)):=gM _;have W:=Dn (s:=toM s) H U f.nd l D
    have T:d≠("":Str):=λz=>by have:=(o d (f.sub d (mT _ (gJ l)))).2;rw[z]at this;exact absurd this (by decide+kernel)
    refine bd _ D ?_;rw[h2];unfold jr;rw[iG,A];show some (if d=("":Str)then _ else _)=_;rw[dh T,W]
   obtain⟨c,O,K⟩:=F k y z Q R;refine yd (k:=k) (λb u=>?_) K O (by lia);obtain⟨d,A,l⟩:=P b u;obtain⟨E,w,M⟩:=F b d 0 A l;rw[w,M,Int.add_zero]
  ·have:=(At ⟨x.1.toNat,by lia⟩).2.2.2;exact absurd (by rw[<-q,<-h1,v]) this
  ·have:x.1.toNat=a:=rm (by lia) (by lia) (by rw[<-v,h1,q]);exact xY B hs (.inl (by lia))
 ·cases h
theorem ze{A:List Stp}{i:Int}(h:i∈oD wr A r):∃(n:Nat)(s:Stp),i=n/\A[n]?=some s/\wr s=r/\s.2.1=("start":Str):=by
 unfold oD at h;obtain⟨p,b,rfl⟩:=gS.mp h;obtain⟨c,e⟩:=List.mem_filter.mp b;have d:=List.mem_zipIdx_iff_getElem?.mp c;have a:wr p.1=r/\p.1.2.1=("start":Str):=by simpa using e
 exact gL p.2 p.1 rfl d a.1 a.2
theorem tJ{l:List α}{x:α}(h:(l.take j)[n]?=some x):n<j/\l[n]?=some x:=by have a:=(gG.mp h).1;rw[jf]at a;rw[List.getElem?_take_of_lt (by lia)]at h;exact⟨by lia,h⟩
theorem yg(lo:sR lk axs lws)(p:OkN axs)(w:Paired (LwR lk) lws rws)(st:qw (wrL lws) (fm rws rws.length)){x:Stp}(a:(fm rws rws.length)[i]?=some x)(hs:(fm rws rws.length)[j]?=some s):
  Dj (wrL lws) (duL lws) ((fm rws rws.length).take j) s (i:Int)↔Nds (wrL lws) (duL lws) x s:=by
 have D:fm rws rws.length=(fm rws rws.length).take j++s::(fm rws rws.length).drop (j+1):=vK hs;constructor
 ·rintro(⟨r,G,q⟩|⟨b,C⟩)
  ·obtain⟨n,x',m,f,k⟩:=(vL _ _ _).mp q;have:i=n:=by lia
   subst this;have:=(tJ f).2;rw[a]at this;cases this;exact .inl (by rw[k];exact G)
  ·obtain⟨h,u,o⟩:=st _ s _ D b;rw[o]at C;have:h=(i:Int):=iX C;subst this;obtain⟨n,x',m,f,k,l⟩:=ze (i:=(i:Int)) (by rw[u];exact gX.mpr rfl);have:i=n:=by lia
   subst this;have:=(tJ f).2;rw[a]at this;cases this;exact .inr (fI b l k)
 ·rintro(h|⟨b,g,q⟩)
  ·have H:=Hm lo p w a hs h;exact .inl (bd _ h ((vL _ _ _).mpr (eu i x rfl (by rw[List.getElem?_take_of_lt H];exact a) rfl)))
  ·obtain⟨h,u,o⟩:=st _ s _ D b;refine .inr ⟨b,?_⟩;obtain⟨n,x',m,f,k,l⟩:=ze (i:=h) (by rw[u];exact gX.mpr rfl);obtain⟨_,d⟩:=tJ f;have B:=gJ a;have e:=gJ d;have F:=lo.few;have P:=Paired.length w;obtain⟨O,A⟩:=oj B;obtain⟨K,c⟩:=oj e;have J:=(gG.mp A.at_).1;have N:=(gG.mp c.at_).1;have y:lws[x.1.toNat]?=some (lws[x.1.toNat]'(by lia)):=gM _;have z:lws[x'.1.toNat]?=some (lws[x'.1.toNat]'(by lia)):=gM _;have t:wrL lws x=wrL lws x':=q.trans k.symm;unfold wrL at t;rw[y,z]at t;injection t with w1 w2;have M:=A.pos;have L:=c.pos;have I:x.1.toNat=x'.1.toNat:=rm (by lia) (by lia) (by rw[<-lo.nms _ _ y,<-lo.nms _ _ z];exact w1)
   have v:x=x':=by refine Prod.ext (by lia) (Prod.ext (by rw[g,l]) (Prod.ext w2 ?_));rw[vX B g,vX e l]
   subst v;have:=uS (Bv rws rws.length) a d;rw[o,m,this]
theorem xZ{i:Int}(h:Dj (wrL lws) (duL lws) (L.take j) s i):0<=i/\i<j:=by
 have a:∀r,i∈jg (wrL lws) (L.take j) r->0<=i/\i<j:=λr b=>by
  obtain⟨n,x,e,c,_⟩:=(vL _ _ _).mp b;have:=(tJ c).1
  lia
 rcases h with ⟨r,_,h⟩|⟨_,h⟩
 ·exact a r h
 ·exact a _ (List.mem_of_mem_head? h)
def hzV(zs:zM)(j:Int):V:=(zs[j.toNat]?).getD .non
def hsS(L:List Stp)(j:Int):Stp:=(L[j.toNat]?).getD (0,"",[],[])
theorem An{α β γ:Type}{F:α->β->Prop}{f:γ->α}{g:γ->β}:∀{od:List γ},(∀j∈od,F (f j) (g j))->Paired F (od.map f) (od.map g)| [],_=>.nil|j::r,h=>.cons (h j (.head _)) (An λx a=>h x (.tail _ a))
structure SpOk(sk:zJ)(od:zI)(m:Nat):Prop where
 at_:∀k j,k<m->od[k]?=some j->fC sk (Sum.inl j)=some (.int (k:Nat))
 le:sk.length<=m
def kD(a:zJ)(j:Int):Int:=match fC a (Sum.inl j)with|some (.int k)=>k|_=>0
def ny(b:zJ)(Ks:Nat->List Int)(a:Nat):Bool:=(List.range a).all λj=>(Ks j).all λi=>decide (kD b i<kD b (j:Int))
theorem Id(b:zJ)(Ks:Nat->List Int)(a:Nat):ny b Ks (a+1)=(ny b Ks a&&(Ks a).all λi=>decide (kD b i<kD b (a:Int))):=by unfold ny;rw[List.range_succ,List.all_append];simp
theorem AA{a:Stp->Spt}{rd b:Stp->List Spt}{x:Stp}(d:wr=a)(c:rd s=b s):Nds wr rd x s↔Nds a b x s:=by subst d;unfold Nds;rw[c]
theorem vH{H:Hp}{γ:Type}{f:γ->V}{g:γ->Stp}:∀{od:List γ},(∀j∈od,Rep H (f j) (jy (g j)))->A4c H (od.map f) ((od.map g).map jy)| [],_=>.nil|j::r,h=>.cons (h j (.head _)) (vH λx a=>h x (.tail _ a))
theorem FD(l:List Stp):PyData.eqv (.list (l.map jy)) (.list (l.map jy))=true:=by
 have:∀l:List Stp,PyData.eqvAll (l.map jy) (l.map jy)=true:=λl=>by
  induction l with
  |nil=>rfl
  |cons x r ih=>simp[PyData.eqvAll,Bg,ih]
 simp[PyData.eqv,this]
theorem Iw{l:List Stp}(h:∀s∈l,PyData.strOk s.2.1=true):SeqAt.shaped (.list (l.map jy))=true:=by
 have c:∀l:List Stp,(∀s∈l,PyData.strOk s.2.1=true)->PyData.canLayAll0 (l.map jy)=true/\PyData.depthAll (l.map jy)<=2:=λl=>by
  induction l with
  |nil=>intro _;exact⟨rfl,by simp[PyData.depthAll]⟩
  |cons x r ih=>
   intro h;obtain⟨d,k⟩:=ih λs g=>h s (.tail _ g);obtain⟨e,j,_⟩:=qC x.2.2.1;obtain⟨f,i,_⟩:=qC x.2.2.2;refine⟨by simp[jy,PyData.canLayAll0,PyData.canLay0,h x (.head _),e,f,d],?_⟩;simp only [ik,PyData.depthAll,jy,PyData.depth,j,i]
   lia
 obtain⟨a,b⟩:=c l h;exact qB (by simp[PyData.canLay0,a]) (by simp only [PyData.depth];lia)
structure xp(A:Adr)(H:Hp)(p OL SL DD rl:zW)(lk:zJ)(axs:zC)(lns:List LnM)(lws:List Lw)(rws:List Rw)(xr zs:zM)(ad:Nat->zW)(Ks:Nat->List Int)(od:zI):Prop where
 clo:ClO A H p lk lns
 hO:H OL=some (.lst (od.map V.int))
 ord:B9a (fm rws rws.length).length od
 lod:od.length=(fm rws rws.length).length
 hS:H SL=some (.lst zs)
 sts:A5u H zs (fm rws rws.length)
 few:(fm rws rws.length).length<=300
 du:D6u H DD (wrL lws) (duL lws) (fm rws rws.length) (fm rws rws.length).length ad Ks
 hr:H rl=some (.lst xr)
 lw:∃M,Paired (B8y M H) xr lws
 lwo:sR lk axs lws
 oka:OkN axs
 pr:Paired (LwR lk) lws rws
 lkd:∀s∈fm rws rws.length,uZ lk lns lws s
 ew:wrS lns=wrL lws
 st:qw (wrL lws) (fm rws rws.length)
 lsl:∀s∈fm rws rws.length,s.2.2.1.length+s.2.2.2.length<=100
def Ic(A:Adr):Sp:=λj H Q _=>∃(p OL SL DD f:zW)(g:zJ)(a:zC)(b:List LnM)(c:List Lw)(d:List Rw)(h l:zM)(i:Nat->zW)(Ks:Nat->List Int)(k:zI),j=[.ref p,.ref OL,.ref SL,.ref DD,.ref f]/\xp A H p OL SL DD f g a b c d h l i Ks k/\∀e,A0m H e->Q (.bl true) e
theorem vZ(T:Txt K mg t):FO P w base T.a_ 18 (Ic t):=by
 have GE_l_clash_told:=@Kk P w K mg base t T;refine T.a_.F.ok mJ λ_ A _ s H _ Q E hr h=>?_
 ·refine oR h ?_;clear h;rintro p OL SL DD rl lk g7 a9 g6 d xr U G Ks ⟨g,rfl,I,k⟩;have hu:=mC hr;obtain⟨L,hL⟩:∃L,L=fm d d.length:=⟨_,rfl⟩;have lz:=Paired.length I.sts;have g0:=I.lod;have g9:=I.few
  have zg:∀j∈g,∃z s',U[j.toNat]?=some z/\(fm d d.length)[j.toNat]?=some s'/\hzV U j=z/\hsS (fm d d.length) j=s'/\A6j H z s'/\((j.toNat:Nat):Int)=j:=λj f=>by obtain⟨j0,j1⟩:=I.ord.mem j f;have hz:U[j.toNat]?=some (U[j.toNat]'(by lia)):=gM _;obtain⟨s',B,W⟩:=iH I.sts hz;exact mM _ s' hz B (by unfold hzV;rw[hz];rfl) (by unfold hsS;rw[B];rfl) W (Int.toNat_of_nonneg j0)
  refine rsq (dV ⟨vw (i₀:=6) (N':=["_law_j","_law_steps"]) (ix:=(List.replicate 1 none++[some 2])) mJ.nd rfl (.inl rfl) rfl (rb (x:="_law_steps") rfl rfl rfl (by decide+kernel) (by decide+kernel)) (rj (N0:=["_law_j"]) rfl (.inl rfl) (by walk_at"ix")) (kH (pv 1)) (λ_ _ _ _=>(gw (i:=0) Bj)) (λ_ _ _ _=>(hG (zu (K:=K) rfl) (pv 1) (pv 0)))⟩ (dV (gy 7 mJ.nd qA) (dV (jO (om rfl T.aA (bp (jF T.ah (eH 1)) ec)) (gw (i:=8) mJ.nd) (ev ⟨@nY _ _ _ _ _ _ _ _ _ hu (pv 7) (hG iQ (pv 1) (pv 8)) (pv 8) rfl⟩)) (dV (gy 9 mJ.nd kc) (dV (jO (qZ (pv 3)) (gw (i:=5) mJ.nd) (dV (jO (qZ (kG hu (pv 3) (pv 5))) (gw (i:=10) mJ.nd) (ev (gy 9 mJ.nd (qR (pv 9) (qS (qY oK (kG hu (pv 7) (pv 10)) (kG hu (pv 7) (pv 5)))))))) ⟨@rc _ _ _ gR⟩)) ⟨@rc _ _ _ (@lK _ _ _ _ _ (@oN _ _ 11 _ _ _ _ mJ.nd rfl (.inl rfl) uY rfl (.inl rfl)) (@lK _ _ _ _ _ (@oN _ _ 12 _ _ _ _ mJ.nd rfl (.inl rfl) kc rfl (.inl rfl)) (@lK _ _ _ _ _ (FV (i:=12) ⟨rfl,rfl⟩ (Fy (Fc T) (hr.mono (by lia)) rfl T.cY.m T.cY.F.kp T.cY.b (bp (pv 0) (eH 6))) mJ.nd rfl (.inl rfl)) (@lK _ _ _ _ _ (@pJ _ _ _ _ _ _ _ _ (iu (sV hr.units) (pv 6) (lu (N':=["_law_j","_law_steps"]) (ix:=(List.replicate 1 none++[some 2])) rfl (rb (x:="_law_steps") rfl rfl rfl (by decide+kernel) (by decide+kernel)) (rj (N0:=["_law_j"]) rfl (.inl rfl) (by walk_at"ix")) (kH (pv 1)) (λ_ _ _ _=>(gw (i:=0) Bj)) (λ_ _ _ _=>(hG (zu (K:=K) rfl) (pv 1) (pv 0))))) (@kf _ _ _ (@nU _ _ _ _ kc)) gR) (@lK _ _ _ _ _ (@pJ _ _ _ _ _ _ _ _ (jh (pv 9)) (@kf _ _ _ (@nU _ _ _ _ (qR (qY xU (pv 11) uY) (qS (qY xU (pv 12) uY))))) gR) (@kf _ _ _ (@nU _ _ _ _ (qY CT (pv 11) kc))))))))⟩))))) ?_;refine jv _ rfl OL rfl ⟨_,SqL.of I.hO⟩ λHL d4=>?_;refine oP (K:=K) (a:=OL) (xs:=g.map V.int) (D:=HL) (λi N Y=>A0m H Y/\Y HL=some (.lst N)/\N=(g.take i).map (hzV U)) (fI (gu d4) ck rfl) (λi N Y q=>SqL.of (q.1 _ _ I.hO)) ?_ ?_
  ·rintro i x N Y hx ⟨sY,hY,rfl⟩;obtain⟨j,f,rfl⟩:=kT hx;have hi:=(gG.mp f).1;refine iq (zg j (gJ f)) ?_;rintro z s' hz B ez es ⟨W,ej⟩;have ex:atI U j=some z:=by have:=gH hz;rwa[ej]at this
   refine⟨⟨rfl,True.intro⟩,(ji _ rfl _ rfl SL _ _ _ rfl rfl (SqL.of (sY _ _ I.hS)) ex (iT hY (hV (by rw[dm,jf];lia)) (gT sY d4) ck ?_))⟩;rw[iN,f,jR,gN,List.map_singleton,ez]
  rintro N H1 ⟨s1,b9,rfl⟩;rw[dm,iY]at b9;refine λSP c4=>?_;obtain⟨H2,t2,c9,f5⟩:=nH (o:=.dK []) c4;have SPH:H SP=none:=s1.free c4;have e4:HL≠SP:=gO b9 c4;rw[f5];have s2:=s1.trans t2;refine gB _ rfl OL _ rfl (.inl (SqL.of (s2 _ _ I.hO))) (iF _ rfl (by lia) (by rw[dm];lia) ?_)
  refine px (n:=(g.map V.int).length) (λm Z X=>∃(o8:zP)(C:zJ),Z=[Sro p,Sro OL,Sro SL,Sro DD,Sro rl,none,Sro HL,Sro SP,o8,none,none,none,none,none]/\A0m H X/\X HL=some (.lst (g.map (hzV U)))/\X SP=some (.dK C)/\SpOk C g m)
   (iM none [] rfl s2 (t2 _ _ b9) c9 ⟨λk j hk=>absurd hk (Nat.not_lt_zero _),fa _⟩) ?_ ?_
  ·rintro m Z X hm zz;refine iq zz ?_;clear zz;rintro o8 C rfl sX f7 e5 a3;rw[dm]at hm;have f:g[m]?=some g[m]:=gM hm;have ej:atI (g.map V.int) (0+(m:Int))=some (.int g[m]):=by rw[Int.zero_add];exact gH (by rw[iG,f];rfl)
   have h3:=a3.le;have d7:=oQ C (Sum.inl g[m]) (V.int (0+(m:Int)));refine gZ _ rfl _ rfl (ji _ rfl _ rfl OL _ _ _ rfl rfl (SqL.of (sX _ _ I.hO)) ej (eu SP _ rfl (C0w.k (k:=Sum.inl g[m]) e5 (hV (by lia))) ?_));refine iM _ _ rfl (gT sX SPH) (by rw[dt e4];exact f7) ck ⟨λk j hk a7=>?_,jT d7 (by lia)⟩;rw[mG];by_cases c:k=m
   ·rw[c,f]at a7;cases a7;rw[dn rfl,c,Int.zero_add]
   ·rw[dh λe=>by
     have e:j=g[m]:=by injection e
     rw[e]at a7
     exact c (uS I.ord.nd a7 f)]
    exact a3.at_ k j (by lia) a7
  rintro Z H3 zz;refine iq zz ?_;clear zz;rintro o8 C rfl s3 g3 b4 a3;rw[dm,g0]at a3;obtain⟨n,en⟩:∃n,n=(fm d d.length).length:=⟨_,rfl⟩;have d8:=I.du.same s3
  have J:∀i:Int,0<=i->i<n->∃k:Nat,g[k]?=some i/\fC C (Sum.inl i)=some (.int (k:Nat))/\kD C i=k:=λi h0 h1=>by obtain⟨k,hk⟩:=List.getElem?_of_mem (I.ord.all (by lia) h0 (by lia):i∈g);have hv:=a3.at_ k i (by have:=(gG.mp hk).1;lia) hk;exact eh k hk hv (by unfold kD;rw[hv])
  have c8:∀j<n,∀i∈Ks j,0<=i/\i<j:=λj f i hi=>by have hs:(fm d d.length)[j]?=some ((fm d d.length)[j]'(by lia)):=gM _;exact xZ ((I.du.iff j _ (by lia) hs i).mp hi)
  have f3:∀o' u',H DD≠some (.frz o' u'):=λo' u' z=>by rw[I.du.hd]at z;cases z
  have f1:∀j<n,∀o' u',H (G j)≠some (.frz o' u'):=λj f o' u' z=>by rw[I.du.at_ j (by lia)]at z;cases z
  have e8:∀j<n,G j≠DD:=λj f z=>by
   have h1:=I.du.at_ j (by lia);rw[z,I.du.hd]at h1;injection h1 with h1;injection h1 with h1;have h2:=congrArg (λl=>fC l (Sum.inl ((j:Nat):Int))) h1
   rw[qz G _ j (by lia),qy]at h2;split at h2<;>cases h2
  have d9:(duR G n).length=n:=by unfold duR;rw[dm,List.length_range]
  have b2:H3 DD=some (.dK (duR G n)):=by rw[en];exact d8.hd
  refine gB _ rfl DD _ rfl b2 λo=>?_
  refine vC (a:=DD) (o:=o) (kvs:=duR G n) (λa Z X=>∃(o5 a4:zP),Z=[Sro p,Sro OL,Sro SL,Sro DD,Sro rl,o5,Sro HL,Sro SP,o8,Sbo (ny C Ks a),a4,none,none,none]/\A0m (upd H3 DD (.frz o (.dK (duR G n)))) X)
   (hZ none none rfl (A0m.refl _)) (λa Z X zq=>by obtain⟨_,_,_,sx⟩:=zq;exact sx _ _ ck) ?_ ?_
  ·rintro a kk v Z X R ⟨o5,a4,rfl,sx⟩;have ha:a<n:=by have:=(gG.mp R).1;rw[d9]at this;exact this
   unfold duR at R;rw[iG,List.getElem?_range ha]at R;cases R;have f0:X DD=some (.frz o (.dK (duR G n))):=sx _ _ ck;have d3:X (G a)=some (.dK (duI (Ks a))):=sx _ _ (by rw[dt (e8 a ha)];exact d8.at_ a (by lia));have g1:X SP=some (.dK C):=sx _ _ (by rw[dt (gO I.du.hd SPH).symm];exact b4)
   have e7:SP≠G a:=λz=>by have:=I.du.at_ a (by lia);rw[<-z,SPH]at this;cases this
   refine gK _ rfl _ rfl DD _ rfl (.inl (eu (duR G n) (Sum.inl (a:Int)) (.inr ⟨o,f0⟩) rfl ((qz G n a ha).symm))) (eu (G a) _ rfl d3 λo2=>?_)
   refine vC (a:=G a) (o:=o2) (kvs:=duI (Ks a)) (λm Z Y=>∃(a4:zP),Z=[Sro p,Sro OL,Sro SL,Sro DD,Sro rl,Sio (a:Int),Sro HL,Sro SP,o8,Sbo (ny C Ks a&&((Ks a).take m).all λi=>decide (kD C i<kD C (a:Int))),a4,none,none,none]/\Y=upd X (G a) (.frz o2 (.dK (duI (Ks a)))))
    (bd a4 (by rw[List.take_zero,List.all_nil,Bool.and_true];rfl) rfl) (λm Z Y zq=>by obtain⟨_,_,z⟩:=zq;exact by rw[z];exact ck) ?_ ?_
   ·rintro m kk v Z Y R ⟨b5,rfl,rfl⟩;unfold duI at R;rw[iG]at R;obtain⟨i,hi,e⟩:=mu.mp R;cases e
    have tk:((Ks a).take (m+1)).all (λi=>decide (kD C i<kD C (a:Int)))=(((Ks a).take m).all (λi=>decide (kD C i<kD C (a:Int)))&&decide (kD C i<kD C (a:Int))):=by rw[iN,hi,jR,List.all_append];simp
    cases hg:(ny C Ks a&&((Ks a).take m).all λi=>decide (kD C i<kD C (a:Int)))with
    |false=>refine gZ _ rfl false rfl (hB (bd (some (.int i)) ?_ rfl));rw[tk,<-Bool.and_assoc,hg];rfl
    |true=>
     obtain⟨i0,i1⟩:=c8 a ha i (gJ hi);obtain⟨ki,_,vi,pi⟩:=J i i0 (by lia);obtain⟨ka,_,va,pa⟩:=J (a:Int) (by lia) (by lia);have d5:upd X (G a) (.frz o2 (.dK (duI (Ks a)))) SP=some (.dK C):=by rw[dt e7];exact g1
     have gi:=A7q.k (H:=upd X (G a) (.frz o2 (.dK (duI (Ks a))))) (a:=SP) (k:=Sum.inl i) d5;rw[vi]at gi;have ga:=A7q.k (H:=upd X (G a) (.frz o2 (.dK (duI (Ks a))))) (a:=SP) (k:=Sum.inl (a:Int)) d5;rw[va]at ga;refine gZ _ rfl true rfl (kC (gK _ rfl _ rfl SP _ rfl gi (bd _ rfl (ou _ rfl SP _ rfl ga _ _ rfl rfl (some (.int i)) ?_ rfl))));rw[tk,<-Bool.and_assoc,hg,pi,pa];rfl
   ·rintro Z Y ⟨b5,rfl,rfl⟩;have ld:(duI (Ks a)).length=(Ks a).length:=by unfold duI;rw[dm]
    refine jw (G a) o2 _ ck (kW (f1 a ha) (some (.int (a:Int))) b5 ?_ ?_)
    ·rw[ld,iY,<-Id]
    ·exact sx.trans (qD (o:=o2) d3 (A0m.refl _))
  rintro Z X ⟨o5,a4,rfl,sx⟩;rw[d9];refine jQ DD o _ (sx _ _ ck) f3 ?_;have st:A0m H3 (upd X DD (.dK (duR G n))):=qD (o:=o) b2 sx;generalize upd X DD (.dK (duR G n))=H4 at st⊢;have s4:=s3.trans st;have c3:=st _ _ g3
  have b6:∀j∈g,hsS (fm d d.length) j∈fm d d.length:=λj f=>by refine iq (zg j f) ?_;rintro z s' hz B ez es ⟨W,ej⟩;rw[es];exact gJ B
  have a2:SeqAt.shaped (.list ((g.map (hsS (fm d d.length))).map jy))=true:=Iw λs' B=>by obtain⟨j,f,rfl⟩:=gS.mp B;exact Bp (b6 j f)
  have b7:PyData.eqv (.list ((g.map (hsS (fm d d.length))).map jy)) (.list ((g.map (hsS (fm d d.length))).map jy))=true:=FD _
  have b3:∀(k:Nat)(s':Stp),(g.map (hsS (fm d d.length)))[k]?=some s'->∃j:Nat,g[k]?=some (j:Int)/\j<n/\(fm d d.length)[j]?=some s'/\kD C (j:Int)=k/\fC C (Sum.inl (j:Int))=some (.int (k:Nat)):=λk s' h=>by rw[iG]at h;obtain⟨j,f,e⟩:=mu.mp h;refine iq (zg j (gJ f)) ?_;rintro z d6 hz B ez es ⟨W,ej⟩;obtain⟨j0,j1⟩:=I.ord.mem j (gJ f);rw[es]at e;subst e;have hv:=a3.at_ k j (by have:=(gG.mp f).1;lia) f;refine⟨j.toNat,(iT (by rw[ej];exact f) (by lia) B ?_ (by rw[ej];exact hv))⟩;rw[ej];unfold kD;rw[hv]
  have c6:∀(a b:Nat)(s' x:Stp),a<b->(g.map (hsS (fm d d.length)))[a]?=some s'->(g.map (hsS (fm d d.length)))[b]?=some x->Nds (wrS a9) (rdS lk a9) x s'->∃i j:Nat,g[b]?=some (i:Int)/\g[a]?=some (j:Int)/\(fm d d.length)[i]?=some x/\(fm d d.length)[j]?=some s'/\(i:Int)∈Ks j/\j<n/\fC C (Sum.inl (i:Int))=some (.int (b:Nat))/\fC C (Sum.inl (j:Int))=some (.int (a:Nat))/\ny C Ks n=false:=λa b s' x b8 ha hb nd=>by
   obtain⟨j,j1,j2,j3,j4,j5⟩:=b3 a s' ha;obtain⟨i,i1,i2,i3,i4,i5⟩:=b3 b x hb;have c0:=(AA I.ew (I.lkd s' (gJ j3)).eq).mp nd;have b1:=(I.du.iff j s' (by lia) j3 (i:Int)).mpr ((yg I.lwo I.oka I.pr I.st i3 j3).mpr c0);refine gL i j i1 j1 i3 (jd j3 b1 j2 i5 j5 ?_)
   cases hg:ny C Ks n with
   |false=>rfl
   |true=>
    unfold ny at hg;have h1:=List.all_eq_true.mp hg j (List.mem_range.mpr j2);have h2:=of_decide_eq_true (List.all_eq_true.mp h1 (i:Int) b1);rw[i4,j4]at h2
    lia
  have e1:NoC lk a9 (g.map (hsS (fm d d.length))) 0->ny C Ks n=true:=λc5=>by
   unfold ny;rw[List.all_eq_true];intro j f;have f:=List.mem_range.mp f;rw[List.all_eq_true];intro i hi;obtain⟨i0,i1⟩:=c8 j f i hi;have ei:((i.toNat:Nat):Int)=i:=Int.toNat_of_nonneg i0;obtain⟨b,hb,vb,pb⟩:=J i i0 (by lia);obtain⟨a,ha,va,pa⟩:=J (j:Int) (by lia) (by lia);rw[pa,pb];have hs:(fm d d.length)[j]?=some ((fm d d.length)[j]'(by lia)):=gM _;have hx:(fm d d.length)[i.toNat]?=some ((fm d d.length)[i.toNat]'(by lia)):=gM _;have dj:=(I.du.iff j _ (by lia) hs i).mp hi;rw[<-ei]at dj;have nd:=(yg I.lwo I.oka I.pr I.st hx hs).mp dj;have c0:=(AA I.ew (I.lkd _ (gJ hs)).eq).mpr nd;refine jl (Classical.byContradiction λg8=>?_)
   have b8:a≠b:=λe=>by
    rw[e,hb]at ha;have:=iX ha
    lia
   have oa:(g.map (hsS (fm d d.length)))[a]?=some ((fm d d.length)[j]'(by lia)):=by rw[iG,ha];show some (hsS _ (j:Int))=_;unfold hsS;rw[Int.toNat_natCast,hs];rfl
   have ob:(g.map (hsS (fm d d.length)))[b]?=some ((fm d d.length)[i.toNat]'(by lia)):=by rw[iG,hb];show some (hsS _ i)=_;unfold hsS;rw[hx];rfl
   exact c5 a b _ _ (jm _) (by lia) oa ob c0
  have c1:A5u H4 (g.map (hzV U)) (g.map (hsS (fm d d.length))):=An λj f=>by refine iq (zg j f) ?_;rintro z s' hz B ez es ⟨W,ej⟩;rw[ez,es];exact W.kt (KT.same s4)
  refine gZ _ rfl _ rfl (nM p HL lk a9 (g.map (hzV U)) (g.map (hsS (fm d d.length))) rfl (I.clo.same s4) c3 c1 (by rw[dm];lia) (λs' B=>?_) (λc5 H5 a5=>?_) λa b s' x v u dx c H5 b8 ha hb hv e9 nd a5 e2 hc=>?_)
  ·obtain⟨j,f,rfl⟩:=gS.mp B;exact(I.lkd _ (b6 j f)).ok
  ·
   have s5:=s4.trans a5;have f6:=a5 _ _ c3;have hg:=e1 c5;refine bd _ rfl (jv _ rfl OL rfl ⟨_,SqL.of (s5 _ _ I.hO)⟩ λCL a8=>?_);refine oP (K:=K) (a:=OL) (xs:=g.map V.int) (D:=CL) (λi N Y=>A0m H5 Y/\Y CL=some (.lst N)/\N=(g.take i).map (hzV U)) (fI (gu a8) ck rfl) (λi N Y q=>SqL.of (q.1 _ _ (s5 _ _ I.hO))) ?_ ?_
   ·rintro i x N Y hx ⟨sY,hY,rfl⟩;obtain⟨j,f,rfl⟩:=kT hx;have hi:=(gG.mp f).1;refine iq (zg j (gJ f)) ?_;rintro z s' hz B ez es ⟨W,ej⟩;have ex:atI U j=some z:=by have:=gH hz;rwa[ej]at this
    refine⟨⟨rfl,True.intro⟩,(ji _ rfl _ rfl SL _ _ _ rfl rfl (SqL.of (sY _ _ (s5 _ _ I.hS))) ex (iT hY (hV (by rw[dm,jf];lia)) (gT sY a8) ck ?_))⟩;rw[iN,f,jR,gN,List.map_singleton,ez]
   rintro N H6 ⟨s6,b0,rfl⟩;rw[dm,iY]at b0;have a0:=s5.trans s6
   have rp:∀{X:Hp}{l:zW},A0m H X->X l=some (.lst (g.map (hzV U)))->Rep X (.ref l) (.list ((g.map (hsS (fm d d.length))).map jy)):=λ{X l} sm hl=>.lst hl (vH λj f=>by
    refine iq (zg j f) ?_;rintro z s' hz B ez es ⟨W,ej⟩;rw[ez,es]
    exact(W.kt (KT.same sm)).rep)
   refine kI _ _ (rp a0 (s6 _ _ f6)) (rp a0 b0) a2 a2 _ rfl ?_;rw[b7];refine hB ?_;refine gZ _ rfl true (congrArg V.bl hg) (kC ?_);refine kJ _ rfl rfl true rfl (kC (eh _ rfl rfl ?_));exact k _ a0
  ·
   refine iq (c6 a b s' x b8 ha hb nd) ?_;rintro i j i1 j1 i3 j3 ⟨b1,e6,vi,vj,hg⟩;refine eu t.a6 _ rfl (FA (i:=13) rfl T.f9 T.dg mJ.nd rfl rfl (λ_=>(@RS.r _ _ _ (ev (gy 11 mJ.nd (pS (GE_l_clash_told _) (A5p.held (hr.mono (by lia)) _) rfl rfl T.aC.m T.aC.F.kp T.aC.b .nil nB (bp (pv 13) (bp (pv 2) (bp (pv 3) (bp (pv 7) (eH 4))))))))))) λea f4=>?_;have u1:A0m H5 (upd H5 ea (.ext (xcG ea t.a6 (some dx)))):=gu f4;have g4:upd H5 ea (.ext (xcG ea t.a6 (some dx))) ea=some (.ext (xcG ea t.a6 (some dx))):=ck;have a1:=(s4.trans a5).trans u1;have d0:=(st.trans a5).trans u1;obtain⟨rr,e3⟩:=oj (gJ i3);have k1:=(gG.mp e3.at_).1;have l1:=Paired.length I.pr;obtain⟨M,d2⟩:=I.lw;have l2:=Paired.length d2;have c7:xr[x.1.toNat]?=some (xr[x.1.toNat]'(by lia)):=gM _;obtain⟨e,he,f2⟩:=iH d2 c7;refine ku (id f2) ?_;rintro q O S' ⟨Pl,g5,eq,hq,_⟩;have f8:wrS a9 x=(e.nm,x.2.2.1):=by rw[I.ew];unfold wrL;rw[he]
   rw[f8]at e2 hc
   obtain⟨z1,hz1,sa1⟩:∃z1,z1=v/\A6j H4 z1 s':=by obtain⟨d6,S,W⟩:=iH c1 hv;rw[ha]at S;cases S;exact bd v rfl W
   obtain⟨z2,hz2,sa2⟩:∃z2,z2=u/\A6j H4 z2 x:=by obtain⟨d6,S,W⟩:=iH c1 e9;rw[hb]at S;cases S;exact bd u rfl W
   subst hz1 hz2;have c2:=a5.trans u1;refine bd _ rfl (gZ _ rfl _ rfl (kn _ rfl _ rfl dx SL DD SP rl (jB c (G j) q z2 z1 U xr (jB _ (duR G n) C (Ks j) (fm d d.length) x s' (lC i j (b:Int) (a:Int) e.nm rfl g4 (u1 _ _ e2) (u1 _ _ hc) (a1 _ _ I.hS) (I.sts.kt (KT.same a1)) ⟨Bv d d.length,λy hy=>⟨Bp hy,I.lsl y hy⟩,I.few⟩ (sa2.kt (KT.same c2)) (jd (sa1.kt (KT.same c2)) i3 j3 (by rw[en];exact a1 _ _ I.du.hd) (qz G n j e6) (jd (a1 _ _ (I.du.at_ j (by lia))) b1 (d0 _ _ b4) vj vi (jd (by lia) (a1 _ _ I.hr) e3.pos (by rw[c7,eq]) (a1 _ _ hq) λg2 e0=>?_))))))));have s5:=a1.trans e0;have d1:=e0 _ _ (c2 _ _ c3);refine bd _ rfl (jv _ rfl OL rfl ⟨_,SqL.of (s5 _ _ I.hO)⟩ λCL a8=>?_);refine oP (K:=K) (a:=OL) (xs:=g.map V.int) (D:=CL) (λi N Y=>A0m g2 Y/\Y CL=some (.lst N)/\N=(g.take i).map (hzV U)) (fI (gu a8) ck rfl) (λi N Y q=>SqL.of (q.1 _ _ (s5 _ _ I.hO))) ?_ ?_
   ·rintro i x N Y hx ⟨sY,hY,rfl⟩;obtain⟨j,f,rfl⟩:=kT hx;have hi:=(gG.mp f).1;refine iq (zg j (gJ f)) ?_;rintro z s' hz B ez es ⟨W,ej⟩;have ex:atI U j=some z:=by have:=gH hz;rwa[ej]at this
    refine⟨⟨rfl,True.intro⟩,(ji _ rfl _ rfl SL _ _ _ rfl rfl (SqL.of (sY _ _ (s5 _ _ I.hS))) ex (iT hY (hV (by rw[dm,jf];lia)) (gT sY a8) ck ?_))⟩;rw[iN,f,jR,gN,List.map_singleton,ez]
   rintro N H6 ⟨s6,b0,rfl⟩;rw[dm,iY]at b0;have a0:=s5.trans s6
   have rp:∀{X:Hp}{l:zW},A0m H X->X l=some (.lst (g.map (hzV U)))->Rep X (.ref l) (.list ((g.map (hsS (fm d d.length))).map jy)):=λ{X l} sm hl=>.lst hl (vH λj f=>by
    refine iq (zg j f) ?_;rintro z s' hz B ez es ⟨W,ej⟩;rw[ez,es]
    exact(W.kt (KT.same sm)).rep)
   refine kI _ _ (rp a0 (s6 _ _ d1)) (rp a0 b0) a2 a2 _ rfl ?_;rw[b7];refine hB ?_;refine gZ _ rfl false (congrArg V.bl hg) (hB ?_);exact gB _ rfl true true rfl rfl (k _ a0)
def sL(K:Frag):Sp:=λd H Q _=>∃(a:zW)(b:zI),d=[.ref a]/\SqL K H a (b.map V.int)/\b.length<=63/\∀c,Q (.bl true) c
def axL:zC:=["f","fg","g"]
theorem Dz:OkN axL:=by
 intro x a;have:axL.all (λx=>PyData.strOk x&&decide (1<=x.length))=true:=by decide+kernel
 have:=List.all_eq_true.mp this x a
 simpa using this
theorem Dm:axL.Nodup:=by decide+kernel
theorem Ea(f:α->V)(nm:List α)(lo hi:Option Int):∃zs:List α,kM (nm.map f) lo hi=zs.map f/\zs.length<=nm.length/\∀x∈zs,x∈nm:=by
 refine eh ((nm.drop (HT.sIx nm.length 0 lo)).take (HT.sIx nm.length nm.length hi-HT.sIx nm.length 0 lo)) ?_ ?_ λx a=>?_
 ·unfold kM;rw[dm,<-List.map_drop,<-List.map_take]
 ·rw[jf,mo];lia
 ·exact List.mem_of_mem_drop (rN a)
theorem EG(h:∀p∈lk,∃n:Int,p.2=.int n):∃is,sI lk is:=by
 induction lk with
 |nil=>exact⟨[],.nil⟩
 |cons p r ih=>obtain⟨n,c⟩:=h p (.head _);obtain⟨is,a⟩:=ih λq b=>h q (.tail _ b);exact⟨n::is,.cons c a⟩
theorem xE{S:zV}{H:Hp}{x:Str}{l:zW}{ys:zC}(hs:S l)(c:H l=some (.lst (ys.map V.str))):∀{kvs:zJ}{es:zB},AR S H kvs es->
  ∃a,AR S H (kvs.map λkv=>if kv.1=Sum.inr x then (kv.1,V.ref l)else kv) a/\(∀e∈a,e∈es\/e=(x,ys))/\a.length=es.length
 |_,_,.nil=>(eh [] .nil (by simp) rfl)
 |_,_,@Paired.cons _ _ _ p e _ _ r t=>by
  obtain⟨a,d,i,g⟩:=xE hs c t;by_cases hk:p.1=Sum.inr x
  ·refine eh ((x,ys)::a) ?_ (λf b=>?_) (by simp[g])
   ·rw[ik,dn hk];exact .cons ⟨hk,(eh l rfl hs c)⟩ d
   ·rcases gP.mp b with rfl|b
    ·exact .inr rfl
    ·exact(i f b).imp (λh=>.tail _ h) id
  ·refine eh (e::a) ?_ (λf b=>?_) (by simp[g])
   ·rw[ik,dh hk];exact .cons r d
   ·rcases gP.mp b with rfl|b
    ·exact .inl (.head _)
    ·exact(i f b).imp (λh=>.tail _ h) id
theorem DB(hs:S l)(d:H l=some (.lst (ys.map V.str)))(h:AR S H kvs es):
  ∃a,AR S H (gY kvs (Sum.inr x) (.ref l)) a/\(∀e∈a,e∈es\/e=(x,ys))/\a.length<=es.length+1/\a≠[]:=by
 unfold gY;split
 ·rename_i ha;obtain⟨a,f,i,g⟩:=xE (x:=x) hs d h;refine iF a f i (by lia) λz=>?_;subst z;have c:=Paired.length h;have:kvs=[]:=qb.mp (by rw[c,<-g];rfl);subst this;simp at ha
 ·refine iF (es++[(x,ys)]) (Paired.snoc ⟨rfl,(eh l rfl hs d)⟩ h) (λe b=>?_) (by simp) (by simp);rcases jn.mp b with b|b
  ·exact .inl b
  ·exact .inr (gX.mp b)
theorem D3w.put(h:D3w lk es)(m:∀e∈es',e∈es\/e=(x,ys))(c:es'.length<=900)(d:nu lk ys)(f:ys.length<=4)(ok:PyData.strOk x=true):D3w lk es':=by
 have b:∀e∈es',nu lk e.2/\e.2.length<=4/\PyData.strOk e.1=true:=λe a=>by
  rcases m e a with a|a
  ·exact fI (h.dk e a) (h.l4 e a) (h.ok e a)
  ·rw[a];exact fI d f ok
 exact⟨λe a=>(b e a).1,λe a=>(b e a).2.1,λe a=>(b e a).2.2,c⟩
def KMs(Ms:zQ)(H H':Hp):Prop:=∀b o,b∉Ms->H b=some o->H' b=some o
theorem KMs.of(s:A0m H H'):KMs Ms H H':=λb o _ e=>s _ _ e
theorem KMs.trans(a:KMs Ms H H')(b:KMs Ms H' H2):KMs Ms H H2:=λc o d e=>b c o d (a c o d e)
theorem KMs.at{m:zW}(a:m∈Ms):KMs Ms H (upd H m o):=λb u c e=>by rw[dt λz=>c (by rw[z];exact a)];exact e
def oX(Ms:zQ)(H:Hp):Prop:=∀m∈Ms,∃o,H m=some o/\(∀a,o≠.tup a)/\∀C d f,o≠.ins C d f
theorem KMs.kt(k:KMs Ms H H')(ok:oX Ms H):KT H H':=λb d e=>k b _ (λm=>by
 obtain⟨o,a,c,_⟩:=ok b m;rw[e]at a
 exact c _ (iX a).symm) e
theorem B2d.km{e:LnM}(h:B2d A Ms H v e)(k:KMs Ms H H')(ok:oX Ms H):B2d A Ms H' v e:=by refine ko h ?_;clear h;rintro a q c u n rfl f i p ⟨g,r,l⟩;refine kj a q c u n rfl (k _ _ (λm=>?_) f) i (k _ _ i p) g (k _ _ g r) (l.imp λb o e=>mF (jX e).1 (k _ _ (jX e).1 (jX e).2));obtain⟨o,d,_,j⟩:=ok a m;rw[f]at d;exact j _ _ _ (iX d).symm
theorem B8y.km(h:B8y Ms H v e)(k:KMs Ms H H')(ok:oX Ms H):B8y Ms H' v e:=h.imp (k.kt ok) λc a m z=>⟨m,k _ _ m z⟩
theorem AR.km(h:AR (λb=>b∉Ms) H kvs es)(k:KMs Ms H H'):AR (λb=>b∉Ms) H' kvs es:=h.imp λb a n e=>⟨n,k _ _ n e⟩
structure RI(A:Adr)(H4 X:Hp)(ad rl lv SL cl:zW)(cs:zM)(lk:zJ)(axs:zC)(ak:zJ)(es:zB)(xr:zM)(rows:List Lw)(rws:List Rw)(xs:zM)(lns:List LnM)(zs:zM)(n:Nat)(lf:Int):Prop where
 sm:A0m H4 X
 had:X ad=some (.dK ak)
 hrl:X rl=some (.lst xr)
 hlv:X lv=some (.lst xs)
 hSL:X SL=some (.lst zs)
 hcl:X cl=some (.lst cs)
 ar:AR (λb=>b∉[ad,rl,lv,SL]) X ak es
 aok:D3w lk es
 le:es.length<=2+n
 rw_:Paired (B8y [ad,rl,lv,SL] X) xr rows
 lok:∀e∈rows,pE lk axs e/\e.wo<=40
 lr:rows.length<=n
 nms:∀i e,rows[i]?=some e->e.nm=jI i
 fr:∀b e,rows[b]?=some e->∀p∈e.ps,p.arr=e.nm\/p.arr=("in":Str)\/∃a,a<b/\p.arr=jI a
 ens:∀e∈es,e.1=("in":Str)\/∃j,j<rows.length/\e.1=jI j
 lfe:lf=40-(rows.map (·.wo)).sum
 lf0:0<=lf
 lis:ti A [ad,rl,lv,SL] X xs lns
 lof:Paired sC lns rows
 pr:Paired (λe r=>LwR lk e r/\e.wo=((prN r.so*prN r.ss:Nat):Int)) rows rws
 sts:A5u X zs (fm rws rws.length)
theorem RI.same{c X:Hp}{a b:zW}{cs:zM}{rows:List Lw}{zs:zM}(I:RI A c X d a b SL cl cs lk axs ak es xr rows rws xs lns zs n lf)(s:A0m X Y):RI A c Y d a b SL cl cs lk axs ak es xr rows rws xs lns zs n lf :=⟨I.sm.trans s,s _ _ I.had,s _ _ I.hrl,s _ _ I.hlv,s _ _ I.hSL,s _ _ I.hcl,I.ar.same s,I.aok,I.le,Paired.mapP I.rw_ λ_ _ z=>z.same s,I.lok,I.lr,I.nms,I.fr,I.ens,I.lfe,I.lf0,Paired.mapP I.lis λ_ _ z=>z.same s,I.lof,I.pr,I.sts.kt (KT.same s)⟩
theorem RI.more{d X:Hp}{a b c:zW}{cs:zM}{rows:List Lw}{zs:zM}(I:RI A d X a b c SL cl cs lk axs ak es xr rows rws xs lns zs n lf):RI A d X a b c SL cl cs lk axs ak es xr rows rws xs lns zs (n+1) lf :=⟨I.sm,I.had,I.hrl,I.hlv,I.hSL,I.hcl,I.ar,I.aok,by have:=I.le;lia,I.rw_,I.lok,by have:=I.lr;lia,I.nms,I.fr,I.ens,I.lfe,I.lf0,I.lis,I.lof,I.pr,I.sts⟩
theorem RI.ms{e X:Hp}{a b c:zW}{cs:zM}{rows:List Lw}{zs:zM}(I:RI A e X a b c SL cl cs lk axs ak es xr rows rws xs lns zs n lf):oX [a,b,c,SL] X:=by
 intro m d;simp only [gP,lS,or_false]at d;rcases d with rfl|rfl|rfl|rfl
 ·exact eh _ I.had (λ_ z=>(by cases z)) λ_ _ _ z=>(by cases z)
 ·exact eh _ I.hrl (λ_ z=>(by cases z)) λ_ _ _ z=>(by cases z)
 ·exact eh _ I.hlv (λ_ z=>(by cases z)) λ_ _ _ z=>(by cases z)
 ·exact eh _ I.hSL (λ_ z=>(by cases z)) λ_ _ _ z=>(by cases z)
theorem GQ(rws:List Rw)(r:Rw):fm (rws++[r]) (rws++[r]).length=fm rws rws.length++oq (rws.length:Nat) r:=by rw[ic,kL,Bz (e:=r) (by rw[nP (fa _),Nat.sub_self];rfl)];congr 1;unfold fm;refine vY λk a=>?_;unfold lI;rw[nj (List.mem_range.mp a)]
theorem DF(b:Paired (LwR lk) lws rws):∀r∈rws,D0u r:=λr e=>by obtain⟨i,c⟩:=List.getElem?_of_mem e;have l:=Paired.length b;have g:=(gG.mp c).1;have d:lws[i]?=some (lws[i]'(by lia)):=gM _;obtain⟨h,a,f⟩:=iH b d;rw[c]at a;cases a;exact f.ok
theorem xQ:∀{l:zI},(∀y∈l,0<=y)->0<=l.sum
 | [],_=>by simp
 |x::r,h=>by
  have c:=h x (.head _);have b:=xQ (l:=r) λy a=>h y (.tail _ a);rw[List.sum_cons]
  lia
theorem Di(T:Txt K mg t):FO P w base T.fu 19 (sL K):=by
 refine T.fu.F.ok kF λ_ A _ s H _ Q E hr h=>?_
 ·obtain⟨a,ns,rfl,hS,x4,k⟩:=h;have hu:=mC hr;have hn:=uN hr;refine rsq (dV (gy 1 kF.nd (pcl (qG T) hr T.ag (bp (pv 0) (bp eA ec)))) (dV (gy 2 kF.nd (nK nI (@iJ _ _ _ _ (bp jK (bp jK (bp jK ec)))) pu (md (ff jz eA (ff ja (pv 1) eA))))) (dV (gy 3 kF.nd qA) (dV (jO (om rfl T.aA (bp (jF T.ah (eH 2)) ec)) (gw (i:=4) kF.nd) (ev ⟨@nY _ _ _ _ _ _ _ _ _ hu (pv 3) (hG iQ (pv 2) (pv 4)) (ff jz eA (ff ja (pcl (qG T) hr T.ag (bp (pv 0) (bp (ff jz eA (pv 4)) ec))) eA)) rfl⟩)) (pB (gU (iu kS (ff ja (ff mf (pv 1) eA) eA) eA) (ev ⟨@nY _ _ _ _ _ _ _ _ _ hu (pv 3) jK (ff jz eA (ff ja (ff mf (pv 1) eA) eA)) rfl⟩) ⟨gR⟩) (dV (gy 5 kF.nd (yf (Ak jK (nK nI (pv 2) pu (md eA)) yR) rfl rfl (by simp) (by decide))) (dV (gy 6 kF.nd (@iJ _ _ _ _ ec)) (dV (gy 7 kF.nd (@iJ _ _ _ _ ec)) (dV (gy 8 kF.nd (@iJ _ _ _ _ ec)) (dV (gy 9 kF.nd eA) (dV (jO (kH (ff nD (@iJ _ _ _ _ (bp (pcl (qG T) hr T.ag (bp (pv 0) (bp eA ec))) ec)) (nK nI (pv 0) (md eA) (md eA)))) (gw (i:=10) kF.nd) (dV (gy 11 kF.nd (ff Ie jK (mh Jj (by rfl) T.fP PyProof.Rows.boot_str (bp (jF T.ah (eH 6)) ec)))) (dV (gy 12 kF.nd (pcl (Ja T) hr T.bB (bp (pv 10) (bp (pv 11) (bp (pv 2) (bp (pv 3) (eH 5))))))) (ev (gU (iu sK (pit 12) (pv 9)) (dV (gy 9 kF.nd (ff qt (pv 9) (pit 12))) (dV ⟨lA (lh kY PySem.F.slot_list_extend PySem.F.type_list_extend vN (pv 8) (bp (pcl (JT T) hr T.bj (bp (jF T.ah (eH 6)) (bp (pv 12) (eH 3)))) ec))⟩ (dV ⟨lA (lh kY mr mq mi (pv 6) (eH 12))⟩ (dV ⟨@nY _ _ _ _ _ _ _ _ _ hu (pv 5) (pv 11) (mh qF (by rfl) T.aY nO (bp (pit 12) ec)) rfl⟩ (ev ⟨lA (lh kY mr mq mi (pv 7) (bp (pmk T.fG (Jt T) hr T.fU T.bR.b (bp (pv 11) (bp (mh qF (by rfl) T.aY nO (bp (pit 12) ec)) (bp (mh qF (by rfl) T.aY nO (bp (pit 12) ec)) (bp (pcl (Jb T) hr T.bF (bp (pit 12) (eH 10))) ec))))) ec))⟩))))) ⟨gR⟩))))) (dV (gy 13 kF.nd (pmk T.fo (J9 T) hr T.fE T.bq.b (bp eA (bp (pv 3) (bp (pv 5) (bp (@iJ _ _ _ _ (bp jK ec)) (bp (pv 7) (bp (@iJ _ _ _ _ (bp jK ec)) ec)))))))) (dV (gy 14 kF.nd (pcl (JL T) hr T.br (bp (pv 6) (eH 8)))) (dV (gy 15 kF.nd (pcl (J5 T) hr T.bv (bp (pv 0) (eH 14)))) (dV (gy 16 kF.nd (pcl (Jc T) hr T.bP (bp (pv 15) (bp (ff ja (pcl (qG T) hr T.ag (bp (pv 0) (bp eA ec))) eA) (bp (pcl (qG T) hr T.ag (bp (pv 0) (bp eA ec))) ec))))) (dV (gU (PW.pt (lY (nT (jh (pcl (vZ T) hr T.a_ (bp (pv 13) (bp (pv 15) (bp (pv 8) (bp (pv 14) (eH 6)))))))) (oO (nT (jh (pcl (vZ T) hr T.a_ (bp (pv 13) (bp (pv 16) (bp (pv 8) (bp (pv 14) (eH 6))))))))))) (ev (gF kc)) ⟨gR⟩) (ev (gF (pcl (vZ T) hr T.a_ (bp (pv 13) (bp (lu (N':=["_law_j"]) (ix:=(List.replicate 1 none)) rfl (mI rfl (by decide+kernel) (by decide+kernel)) (mH rfl) (om rfl T.aA (bp (jF T.ah (eH 8)) ec)) (λ_ _ _ _=>(gw (i:=0) HU)) (λ_ _ _ _=>(pv 0))) (bp (pv 8) (bp (pv 14) (eH 6)))))))))))))))))))))))) ?_;refine bd _ rfl (iE a ns 0 rfl hS (by decide) λhh=>?_);refine⟨gI rfl,λal t4=>?_⟩;have s1:A0m H (upd H al (.lst [.str "f",.str "fg",.str "g"])):=gu t4;have i0:upd H al (.lst [.str "f",.str "fg",.str "g"]) al=some (.lst (axL.map V.str)):=ck;generalize upd H al (.lst [.str "f",.str "fg",.str "g"])=H1 at s1 i0⊢;obtain⟨i4,hi4,i1,i44⟩:∃i:Nat,(1+hh%3:Int)=i/\1<=i/\i<=3:=(eh ((1+hh%3).toNat) (by lia) (by lia) (by lia));refine gB _ rfl _ _ rfl rfl (jp pF _ _ rfl rfl (gB _ rfl al _ rfl (SqL.of i0) λax t6=>?_));rw[show kM (axL.map V.str) none (some (1+hh%3))=(axL.take i4).map V.str by rw[hi4];exact yE];obtain⟨ya,eya⟩:∃ya,ya=axL.take i4:=⟨_,rfl⟩;have lya:ya.length=i4:=by rw[eya,jf];show min i4 3=i4;lia
  have f9:OkN ya:=λy hy=>Dz y (rN (by rw[<-eya];exact hy));have u4:ya.Nodup:=by rw[eya];exact List.Sublist.nodup (List.take_sublist _ _) Dm
  rw[<-eya];clear eya;obtain⟨H2,s2,e8,C⟩:=nH (o:=.lst (ya.map V.str)) t6;rw[C];have o2:=s1.trans s2;refine λld j8=>?_;obtain⟨H3,s3,p1,C⟩:=nH (o:=.dK []) j8;rw[C];refine gB _ rfl ax _ rfl (.inl (SqL.of (s3 _ _ e8))) (iF _ rfl (by lia) (by rw[dm];lia) ?_)
  refine px (n:=(ya.map V.str).length) (λi Z X=>∃(o4:zP)(L:zJ),Z=[Sro a,Sio hh,Sro ax,Sro ld,o4,none,none,none,none,none,none,none,none,none,none,none,none]/\A0m H2 X/\X ld=some (.dK L)/\L.length<=i/\(∀p∈L,∃n:Int,p.2=.int n/\1<=n/\n<=60)/\∀y∈ya.take i,(fC L (Sum.inr y)).isSome=true)
   (mM none [] rfl s3 p1 (fa _) (by intro p M;cases M) (by simp)) ?_ ?_
  ·rintro i Z X hi zz;refine iq zz ?_;clear zz;rintro o4 L rfl sx h3 r0 ⟨f8,j0⟩;rw[dm]at hi;have o8:ya[i]?=some ya[i]:=gM hi;have ey:atI (ya.map V.str) (0+(i:Int))=some (.str ya[i]):=by rw[Int.zero_add];exact gH (by rw[iG,o8];rfl)
   refine gK _ rfl _ rfl _ _ rfl rfl (iE a ns _ rfl ((o2.trans sx).seq hS) (by lia) λz=>?_);have b3:0<=z%3/\z%3<3:=by lia
   have e6:=oQ L (Sum.inr ya[i]) (V.int (1+z%3));refine gL _ _ rfl rfl pF ⟨_,(kJ _ rfl rfl _ rfl (ji _ rfl _ rfl ax _ _ _ rfl rfl (SqL.of (sx _ _ e8)) ey (eu ld _ rfl (C0w.k (k:=Sum.inr ya[i]) h3 (hV (by lia))) ?_)))⟩;refine mM _ _ rfl (gT sx j8) ck (jT e6 (by lia)) (λp M=>?_) λy hy=>?_
   ·rcases Af M with M|M
    ·exact f8 p M
    ·rw[M];exact eh (1+z%3) rfl (by lia) (by lia)
   ·rw[mG];split
    ·rfl
    ·rename_i n3;rw[iN,o8]at hy;rcases jn.mp hy with hy|hy
     ·exact j0 y hy
     ·exact absurd (by rw[show y=ya[i]by simpa using hy]) n3
  rintro Z G4 zz;refine iq zz ?_;clear zz;rintro o4 h5 rfl d3 b2 h0 ⟨f0,b0⟩;rw[dm]at h0 b0;rw[iY]at b0;refine bd (λZ G=>∃(L:zJ),Z=[Sro a,Sio hh,Sro ax,Sro ld,o4,none,none,none,none,none,none,none,none,none,none,none,none]/\A0m H2 G/\G ld=some (.dK L)/\L.length<=10/\(∀p∈L,∃n:Int,p.2=.int n/\1<=n/\n<=60)/\∀y∈ya,(fC L (Sum.inr y)).isSome=true) ?_ ?_
  ·refine gB _ rfl _ _ rfl rfl ⟨⟨by decide,by decide⟩,(kI _ _ rfl rfl z_60 rfl _ rfl (iD (λ_=>?_) (λ_=>⟨h5,(jd rfl d3 b2 (by lia) f0 b0)⟩)))⟩;have y5:0<=hh/18%10/\hh/18%10<10:=by lia
   have e6:=oQ h5 (Sum.inr (("f":Str))) (V.int (1+hh/18%10));refine gB _ rfl _ _ rfl rfl (jp ⟨by decide,by decide⟩ _ _ rfl rfl (jp Cb _ _ rfl rfl (gB _ rfl ld _ rfl (C0w.k (k:=Sum.inr (("f":Str))) b2 (hV (by lia))) ?_)));refine⟨_,(jd rfl (gT d3 j8) ck (jT e6 (by lia)) (λp M=>?_) λy hy=>?_)⟩
   ·rcases Af M with M|M
    ·exact f0 p M
    ·rw[M];exact eh (1+hh/18%10) rfl (by lia) (by lia)
   ·rw[mG];split
    ·rfl
    ·exact b0 y hy
  rintro Z H4 zz;refine rL zz ?_;clear zz;rintro L rfl m4 ⟨e3,r0,f8,j0⟩;clear d3 b2 h0 f0 b0;obtain⟨is,il⟩:=EG λp M=>let⟨n,e,_⟩:=f8 p M;⟨n,e⟩
  have dk:nu L ya:=λy hy=>by obtain⟨v,hv⟩:=Option.isSome_iff_exists.mp (j0 y hy);obtain⟨p,M,_,e⟩:=As hv;obtain⟨n,en,n1,w9⟩:=f8 p M;exact eh n (by rw[hv,<-e,en]) n1 w9
  have j7:=o2.trans m4;have g8:=m4 _ _ e8;refine λf f2=>?_;refine gK _ rfl _ rfl ax _ rfl (SqL.of ((gu f2) _ _ g8)) λl3 j3=>?_;obtain⟨y3,v4,ly3,w7⟩:=Ea V.str ya none (some 1);rw[v4];have d4:f≠l3:=λz=>by rw[<-z,ck]at j3;cases j3
  refine⟨by rw[dt d4];exact ck,(eh [(Sum.inr (("in":Str)),.ref l3)] rfl (by simp) ?_)⟩;have e5:A0m H4 (upd (upd (upd H4 f (.dK [])) l3 (.lst (y3.map V.str))) f (.dK (ip [] [(Sum.inr (("in":Str)),.ref l3)]))):=gT ((gu f2).trans (gu j3)) f2;have d6:upd (upd (upd H4 f (.dK [])) l3 (.lst (y3.map V.str))) f (.dK (ip [] [(Sum.inr (("in":Str)),.ref l3)])) f=some (.dK [(Sum.inr (("in":Str)),.ref l3)]):=ck;have a5:upd (upd (upd H4 f (.dK [])) l3 (.lst (y3.map V.str))) f (.dK (ip [] [(Sum.inr (("in":Str)),.ref l3)])) l3=some (.lst (y3.map V.str)):=by rw[dt d4.symm];exact ck
  generalize upd (upd (upd H4 f (.dK [])) l3 (.lst (y3.map V.str))) f (.dK (ip [] [(Sum.inr (("in":Str)),.ref l3)]))=G0 at e5 d6 a5⊢
  have m5:D3w L [(("in":Str),y3)]:=by
   refine⟨λe he=>?_,λe he=>?_,λe he=>?_,by simp⟩<;>rw[gX.mp he]
   ·exact λy hy=>dk y (w7 y hy)
   ·show y3.length<=4;lia
   ·show PyData.strOk ("in":Str)=true;decide+kernel
  refine⟨gI rfl,λg j6=>?_⟩;obtain⟨G1,t1,b4,C⟩:=nH (o:=.lst []) j6;have t9:H4 g=none:=e5.free j6;rw[C];refine⟨gI rfl,λu f1=>?_⟩;obtain⟨G2,t2,d9,C⟩:=nH (o:=.lst []) f1;have x6:H4 u=none:=(e5.trans t1).free f1;have m7:g≠u:=gO b4 f1;rw[C];refine⟨gI rfl,λSL c7=>?_⟩;obtain⟨G3,t3,a7,C⟩:=nH (o:=.lst []) c7;have SL4:H4 SL=none:=(e5.trans (t1.trans t2)).free c7;have m0:g≠SL:=gO (t2 _ _ b4) c7;have m6:u≠SL:=gO d9 c7;rw[C];have g3:=t1.trans (t2.trans t3);have j9:=e5.trans g3
  have r6:l3∉[f,g,u,SL]:=λm=>by
   simp only [gP,lS,or_false]at m;rcases m with z|z|z|z
   ·exact d4 z.symm
   ·exact gO a5 j6 z
   ·exact gO (t1 _ _ a5) f1 z
   ·exact gO ((t1.trans t2) _ _ a5) c7 z
  refine bd _ rfl (iE a ns 6 rfl ((j7.trans j9).seq hS) (by decide) λz6=>⟨gI rfl,λc1 o7=>?_⟩);obtain⟨G3b,k3,h9,C⟩:=nH (o:=.lst [.int z6]) o7;rw[C];refine bd _ rfl (gK _ rfl _ rfl a _ rfl ((j7.trans (j9.trans k3)).seq hS) λc2 m3=>?_)
  obtain⟨cs,ecs,lcs⟩:∃cs:zI,kM (ns.map V.int) (some 7) (some 18)=cs.map V.int/\cs.length<=11:=by
   refine bd _ (xG V.int ns 7 18) ?_;rw[mo,jf]
   lia
  rw[ecs];obtain⟨G3c,k8,h4,C⟩:=nH (o:=.lst (cs.map V.int)) m3;rw[C];refine jo c1 c2 _ _ rfl rfl (k8 _ _ h9) h4 (jV (by rw[dm,kL];lia)) λcl R=>?_;have p3:([.int z6]++cs.map V.int:zM)=(z6::cs).map V.int:=rfl;rw[p3];have i5:A0m G3c (upd G3c cl (.lst ((z6::cs).map V.int))):=gu R;have b6:upd G3c cl (.lst ((z6::cs).map V.int)) cl=some (.lst ((z6::cs).map V.int)):=ck;have c4:=k3.trans k8;have f7:cl≠f/\cl≠g/\cl≠u/\cl≠SL:=(jx (λz=>(by rw[z,c4 _ _ (g3 _ _ d6)]at R;cases R)) (λz=>(by rw[z,c4 _ _ ((t2.trans t3) _ _ b4)]at R;cases R)) (λz=>(by rw[z,c4 _ _ (t3 _ _ d9)]at R;cases R)) λz=>(by rw[z,c4 _ _ a7]at R;cases R));generalize upd G3c cl (.lst ((z6::cs).map V.int))=G4 at i5 b6⊢;have c6:A0m G3 G4:=c4.trans i5;have q9:(z6::cs).length<=12:=by rw[je];lia
  clear h9 h4 k3 k8 i5 R o7 m3 p3 ecs c4;generalize z6::cs=zc at b6 q9⊢;refine eh cl rfl ⟨_,SqL.of b6⟩ ?_
  refine nJ (K:=K) (a:=cl) (xs:=zc.map V.int) (λi Z X=>∃(lf:Int)(i6 k0 i8:zP)(ak:zJ)(es:zB)(B:zM)(rows:List Lw)(rws:List Rw)(xs:zM)(lns:List LnM)(N:zM),Z=[Sro a,Sio hh,Sro ax,Sro ld,o4,Sro f,Sro g,Sro u,Sro SL,Sio lf,i6,k0,i8,none,none,none,none]/\RI t H4 X f g u SL cl (zc.map V.int) L ya ak es B rows rws xs lns N i lf)
   (iA 40 none (jB none none _ [(("in":Str),y3)] [] [] [] (jw [] [] [] rfl ⟨j9.trans c6,(g3.trans c6) _ _ d6,((t2.trans t3).trans c6) _ _ b4,(t3.trans c6) _ _ d9,c6 _ _ a7,b6,.cons ⟨rfl,(eh l3 rfl r6 ((g3.trans c6) _ _ a5))⟩ .nil,m5,by simp,.nil,(by intro e he;cases he),fa _,(by intro i e he;cases he),(by intro i e he;cases he),(λe he=>.inl (by rw[gX.mp he])),rfl,by decide,.nil,.nil,.nil,.nil⟩))) (λi Z X _ zq=>by obtain⟨_,_,_,_,_,_,_,_,_,_,_,_,_,I⟩:=zq;exact SqL.of I.hcl) ?_ ?_
  ·rintro i x Z X hx zz;refine jk zz ?_;clear zz;rintro lf i6 k0 i8 ak es ⟨B,rows,rws,xs,lns,N,rfl,I⟩;obtain⟨z,hz,rfl⟩:=kT hx;have hi:i<zc.length:=(gG.mp hz).1;have lr:=I.lr;have w5:=Paired.length I.rw_;have s5:=Paired.length I.ar;have q4:=I.le;have n8:=At ⟨B.length,by lia⟩;dsimp only at n8;obtain⟨h6,lg,z3,p8⟩:=n8
   have n5:jI B.length∉es.map (·.1):=λm=>by
    obtain⟨e,he,ee⟩:=gS.mp m;rcases I.ens e he with q|⟨j,hj,q⟩
    ·exact p8 (by rw[<-ee];exact q)
    ·have:=rm (i:=B.length) (j:=j) (by lia) (by lia) (by rw[<-q];exact ee.symm)
     lia
   refine gB _ rfl g _ rfl (.inl (SqL.of I.hrl)) (eh _ rfl lg (gL _ _ rfl rfl (jV (by lia)) ?_));refine bd _ rfl (gZ _ rfl _ rfl (kn _ rfl _ rfl z (jI B.length) ax ld f (lC ya ak L es _ rfl (I.sm _ _ g8) (by lia) u4 f9 dk (I.sm _ _ e3) I.had (iT I.ar I.aok n5 h6 λq e Y sY r8 l8 c0 t5=>?_))))
   have j4:=r8 [f,g,u,SL] λb hb=>by obtain⟨o,U,_⟩:=I.ms b hb;rw[U];intro z;cases z
   refine ko (id j4) ?_;rintro q' O S Pl o1 eq hq mO hO ⟨mS,l5,mP,hP,y6⟩;cases eq;have IY:=I.same sY;refine i12 _ rfl q _ _ _ rfl rfl (SqT.of hq) (gH (j:=4) rfl) (gB _ rfl _ _ rfl rfl (bd _ rfl (iD (λp5=>?_) (λ_=>(iA lf _ (jB _ _ ak es B rows rws (jw xs lns N rfl IY.more)))))));have p5:e.wo<=lf:=p5
   have w0:0<=(rows.map (·.wo)).sum:=xQ λy hy=>by
    obtain⟨e',d,rfl⟩:=gS.mp hy;refine iq ((I.lok e' d).1.sz) λso ss _ _ _ _ h=>?_;rw[h]
    lia
   have h7:e.wo<=40:=by have:=I.lfe;lia
   obtain⟨r,a6,x2⟩:=Ds c0 h7 f9;have l6:(⟨e.own,e.sums,r.so,r.ss⟩:Rw)=r:=by rw[<-a6.o,<-a6.s]
   refine ji _ rfl _ rfl q _ _ _ rfl rfl (SqT.of hq) (gH (j:=4) rfl) (eu _ _ rfl rfl ?_);have e7:=Paired.length I.pr
   have a4:(fm rws rws.length).length<=300:=by
    have U:=vO I.pr rws.length (fa _);rw[<-e7,iY]at U;have h2:=I.lfe;have h3:=I.lf0;rw[<-e7]
    lia
   have l7:=Paired.length I.sts;refine eh _ rfl (.inl (iU rfl _ (SqL.of IY.hSL))) (gB _ rfl g _ rfl (.inl (SqL.of IY.hrl)) (gZ _ rfl _ rfl (iA _ _ (nM ld e L r.so r.ss [f,g,u,SL] rfl j4 (IY.sm _ _ e3) (by rw[l6];exact a6.ok) a6.so a6.ss a6.oks λD ys Zz hD sZ s9 j5=>?_))));rw[l6]at j5;have z1:=Paired.length j5;have l2:=GK (k:=(B.length:Int)) a6.ok;have IZ:=IY.same sZ;have i9:=j4.same sZ;refine jo SL D _ _ rfl rfl IZ.hSL s9 (jV (by lia)) ?_;have k1:KMs [f,g,u,SL] Zz (upd Zz SL (.lst (N++ys))):=KMs.at (by simp);have a7:upd Zz SL (.lst (N++ys)) SL=some (.lst (N++ys)):=ck;have n4:A0m H4 (upd Zz SL (.lst (N++ys))):=gT IZ.sm SL4;have c9:upd Zz SL (.lst (N++ys)) f=some (.dK ak):=by rw[dt (iI IZ.had IZ.hSL (by intro z;cases z))];exact IZ.had
   have a1:upd Zz SL (.lst (N++ys)) g=some (.lst B):=by rw[dt m0];exact IZ.hrl
   have c8:upd Zz SL (.lst (N++ys)) u=some (.lst xs):=by rw[dt m6];exact IZ.hlv
   generalize upd Zz SL (.lst (N++ys))=Z1 at k1 a7 n4 c9 a1 c8⊢;refine kJ _ rfl (.inl (iU rfl _ (SqL.of a1))) _ rfl (iL g _ _ rfl rfl a1 (hV (by lia)) ?_);have k2:KMs [f,g,u,SL] Z1 (upd Z1 g (.lst (B++[.ref q]))):=KMs.at (by simp);have b7:upd Z1 g (.lst (B++[.ref q])) g=some (.lst (B++[.ref q])):=ck;have m8:A0m H4 (upd Z1 g (.lst (B++[.ref q]))):=gT n4 t9;have a2:upd Z1 g (.lst (B++[.ref q])) f=some (.dK ak):=by rw[dt (iI c9 a1 (by intro z;cases z))];exact c9
   have b5:upd Z1 g (.lst (B++[.ref q])) u=some (.lst xs):=by rw[dt m7.symm];exact c8
   have b8:upd Z1 g (.lst (B++[.ref q])) SL=some (.lst (N++ys)):=by rw[dt m0.symm];exact a7
   generalize upd Z1 g (.lst (B++[.ref q]))=Z2 at k2 b7 m8 a2 b5 b8⊢;have b1:=k1.trans k2;have r3:KT Zz Z2:=b1.kt IZ.ms;have z0:=i9.km b1 IZ.ms;have v8:=r3 _ _ (sZ _ _ hq);have w8:=b1 _ _ mO (sZ _ _ hO);have x8:=b1 _ _ mS (sZ _ _ l5);have y8:=b1 _ _ mP (sZ _ _ hP);refine i12 _ rfl q _ _ _ rfl rfl (SqT.of v8) (gH (j:=1) rfl) (eu O _ rfl (.inl (SqL.of w8)) λa3 a0=>?_);have u3:A0m Z2 (upd Z2 a3 (.lst (e.own.map V.str))):=gu a0;have g9:upd Z2 a3 (.lst (e.own.map V.str)) a3=some (.lst (e.own.map V.str)):=ck
   have r9:a3∉[f,g,u,SL]:=λm=>by
    simp only [gP,lS,or_false]at m;rcases m with z|z|z|z
    ·rw[z,a2]at a0;cases a0
    ·rw[z,b7]at a0;cases a0
    ·rw[z,b5]at a0;cases a0
    ·rw[z,b8]at a0;cases a0
   generalize upd Z2 a3 (.lst (e.own.map V.str))=Z3 at u3 g9⊢;refine gK _ rfl _ rfl f _ rfl (C0w.k (k:=Sum.inr (jI B.length)) (u3 _ _ a2) (hV (by lia))) ?_;have r2:AR (λb=>b∉[f,g,u,SL]) Z3 ak es:=(IZ.ar.km b1).same u3;obtain⟨u9,s7,m',y1,z7⟩:=DB (x:=jI B.length) (l:=a3) (ys:=e.own) r9 g9 r2
   have y2:oX [f,g,u,SL] Z3:=λm hm=>by
    simp only [gP,lS,or_false]at hm;rcases hm with rfl|rfl|rfl|rfl
    ·exact eh _ (u3 _ _ a2) (λ_ z=>(by cases z)) λ_ _ _ z=>(by cases z)
    ·exact eh _ (u3 _ _ b7) (λ_ z=>(by cases z)) λ_ _ _ z=>(by cases z)
    ·exact eh _ (u3 _ _ b5) (λ_ z=>(by cases z)) λ_ _ _ z=>(by cases z)
    ·exact eh _ (u3 _ _ b8) (λ_ z=>(by cases z)) λ_ _ _ z=>(by cases z)
   have k4:KMs [f,g,u,SL] Z3 (upd Z3 f (.dK (gY ak (Sum.inr (jI B.length)) (.ref a3)))):=KMs.at (by simp);have b9:upd Z3 f (.dK (gY ak (Sum.inr (jI B.length)) (.ref a3))) f=some (.dK (gY ak (Sum.inr (jI B.length)) (.ref a3))):=ck;have n9:A0m H4 (upd Z3 f (.dK (gY ak (Sum.inr (jI B.length)) (.ref a3)))):=gT (m8.trans u3) f2;have e9:∀{b:zW}{ys:zM},Z3 b=some (.lst ys)->upd Z3 f (.dK (gY ak (Sum.inr (jI B.length)) (.ref a3))) b=some (.lst ys):=λ{b ys} eb=>by rw[dt (iI eb (u3 _ _ a2) (by intro z;cases z))];exact eb
   have d1:=e9 (u3 _ _ b7);have a8:=e9 (u3 _ _ b5);have d8:=e9 (u3 _ _ b8);have o3:=s7.km k4;generalize upd Z3 f (.dK (gY ak (Sum.inr (jI B.length)) (.ref a3)))=Z4 at k4 b9 n9 d1 a8 d8 o3⊢;have c5:KMs [f,g,u,SL] Zz Z4:=(b1.trans (KMs.of u3)).trans k4;have p9:KT Zz Z4:=c5.kt IZ.ms;have r1:=i9.km c5 IZ.ms;have f3:=p9 _ _ (sZ _ _ hq);have x3:=c5 _ _ mO (sZ _ _ hO);have v6:=c5 _ _ mS (sZ _ _ l5);have p6:=c5 _ _ mP (sZ _ _ hP)
   have k5:oX [f,g,u,SL] Z4:=λm hm=>by
    simp only [gP,lS,or_false]at hm;rcases hm with rfl|rfl|rfl|rfl
    ·exact eh _ b9 (λ_ z=>(by cases z)) λ_ _ _ z=>(by cases z)
    ·exact eh _ d1 (λ_ z=>(by cases z)) λ_ _ _ z=>(by cases z)
    ·exact eh _ a8 (λ_ z=>(by cases z)) λ_ _ _ z=>(by cases z)
    ·exact eh _ d8 (λ_ z=>(by cases z)) λ_ _ _ z=>(by cases z)
   have m1:Paired (C4h [f,g,u,SL] Z4) o1 e.ps:=by refine ko (id r1) ?_;rintro q2 O2 S2 Pl2 pv2 e2 g5 _ _ ⟨_,_,_,g6,n0⟩;cases e2;rw[f3]at g5;cases g5;rw[p6]at g6;cases g6;exact n0
   refine eh _ rfl (.inl (iU rfl _ (SqL.of a8))) (ji _ rfl _ rfl q _ _ _ rfl rfl (SqT.of f3) (gH (j:=1) rfl) (eu O _ rfl (.inl (SqL.of x3)) λO1 w6=>?_));have u5:A0m Z4 (upd Z4 O1 (.lst (e.own.map V.str))):=gu w6;have i2:upd Z4 O1 (.lst (e.own.map V.str)) O1=some (.lst (e.own.map V.str)):=ck;generalize upd Z4 O1 (.lst (e.own.map V.str))=Z5 at u5 i2⊢;refine i12 _ rfl q _ _ _ rfl rfl (SqT.of (u5 _ _ f3)) (gH (j:=2) rfl) (eu S _ rfl (.inl (SqL.of (u5 _ _ v6))) λS1 u0=>?_);have u6:A0m Z5 (upd Z5 S1 (.lst (e.sums.map V.str))):=gu u0;have g4:upd Z5 S1 (.lst (e.sums.map V.str)) S1=some (.lst (e.sums.map V.str)):=ck;generalize upd Z5 S1 (.lst (e.sums.map V.str))=Z6 at u6 g4⊢;have d5:=u5.trans u6;refine i12 _ rfl q _ _ _ rfl rfl (SqT.of (d5 _ _ f3)) (gH (j:=3) rfl) (bd _ rfl ⟨Pl,(lP o1 e.ps z [f,g,u,SL] (e.own++e.sums) rfl (d5 _ _ p6) (Paired.mapP m1 (λ_ _ z=>z.same d5)) c0.lp c0.ps λv Tt Z7 u7 ob tr=>?_)⟩);have n6:=d5.trans u7
   have x1:oX [f,g,u,SL] Z7:=λm hm=>by obtain⟨o,U,h2⟩:=k5 m hm;exact bd o (n6 _ _ U) h2
   have v7:Ob t (iW (λb=>b∉[f,g,u,SL]) Z7) v Tt:=ob.imp (pz (A0m.refl _) λa o _ h m=>by
    have h:Z6 a=none:=h;obtain⟨o',U,_⟩:=k5 a m;rw[d5 _ _ U]at h
    cases h)
   refine λx dx hx j1 x7=>?_;have u8:A0m Z7 (upd (upd Z7 dx (.own x)) x (.ins t.ac dx [])):=gT (gu j1) hx;have n7:upd (upd Z7 dx (.own x)) x (.ins t.ac dx []) x=some (.ins t.ac dx []):=ck;generalize upd (upd Z7 dx (.own x)) x (.ins t.ac dx [])=Z8 at u8 n7⊢;have l4:=c0.l4;refine iA x dx ⟨O1,(kj S1 v (jI B.length) e.own e.sums rfl n7 ((u6.trans (u7.trans u8)) _ _ i2) ((u7.trans u8) _ _ g4) (by lia) (by lia) λcc cu Ga p7 p4 q0 s8 x5 m9=>⟨rfl,?_⟩)⟩;have c3:A0m Z4 Ga:=n6.trans (KB.same u8 m9 hx);have t8:A0m Z7 Ga:=KB.same u8 m9 hx;have q7:=c3 _ _ a8;have r4:=Paired.length IZ.lis;have w1:=Paired.length IZ.lof;refine iL u _ _ rfl rfl q7 (hV (by lia)) ?_;have k9:KMs [f,g,u,SL] Ga (upd Ga u (.lst (xs++[.ref x]))):=KMs.at (by simp)
   have q8:oX [f,g,u,SL] Ga:=λm hm=>by obtain⟨o,U,h2⟩:=k5 m hm;exact bd o (c3 _ _ U) h2
   have f4:∀{b:zW},Z8 b=none->b∉[f,g,u,SL]:=λ{b} eb m=>by obtain⟨o,U,_⟩:=x1 b m;rw[u8 _ _ U]at eb;cases eb
   have xn:x∉[f,g,u,SL]:=λm=>by obtain⟨o,U,_,h3⟩:=q8 x m;rw[q0]at U;exact h3 _ _ _ (iX U).symm
   have d2:KMs [f,g,u,SL] Zz (upd Ga u (.lst (xs++[.ref x]))):=(c5.trans (KMs.of c3)).trans k9;have o6:KT Zz (upd Ga u (.lst (xs++[.ref x]))):=d2.kt IZ.ms;have k7:∀{b:zW}{o:HO},b≠u->Z4 b=some o->upd Ga u (.lst (xs++[.ref x])) b=some o:=λ{b o} n eb=>by rw[dt n];exact c3 _ _ eb
   have l9:f≠u:=iI b9 a8 (by intro z;cases z);refine iA _ _ (jB _ _ _ u9 (B++[.ref q]) (rows++[e]) (rws++[r]) (jw (xs++[.ref x]) (lns++[⟨jI B.length,e.own,e.sums,Tt⟩]) (N++ys) rfl ⟨gT (n9.trans c3) x6,k7 l9 b9,k7 m7 d1,ck,k7 m6.symm d8,d2 _ _ (λm=>?_) IZ.hcl,(o3.same c3).km k9,?_,by lia,?_,λe' d=>?_,by rw[ic,kL];lia,λj e' d=>?_,λj e' d p M=>?_,λe' d=>?_,?_,by lia,?_,?_,lb IZ.pr (.cons ⟨a6,x2⟩ .nil),?_⟩))
   ·simp only [gP,lS,or_false]at m;rcases m with z|z|z|z
    ·exact f7.1 z
    ·exact f7.2.1 z
    ·exact f7.2.2.1 z
    ·exact f7.2.2.2 z
   ·exact I.aok.put m' (by lia) (λy hy=>dk y (c0.sub y (mT _ hy))) (by lia) h6
   ·exact lb (Paired.mapP IZ.rw_ λ_ _ z=>z.km d2 IZ.ms) (.cons (i9.km d2 IZ.ms) .nil)
   ·rcases jn.mp d with d|d
    ·exact I.lok e' d
    ·rw[gX.mp d];exact⟨c0,h7⟩
   ·rcases Nat.lt_or_ge j rows.length with c|c
    ·rw[nj c]at d;exact I.nms j e' d
    ·rw[nP c]at d
     have hj:j-rows.length=0:=by
      have:=(gG.mp d).1;rw[kL]at this
      lia
     rw[hj]at d;have e1:e=e':=iX d;rw[<-e1,l8,show j=B.length by lia]
   ·rcases Nat.lt_or_ge j rows.length with c|c
    ·rw[nj c]at d;exact I.fr j e' d p M
    ·rw[nP c]at d
     have hj:j-rows.length=0:=by
      have:=(gG.mp d).1;rw[kL]at this
      lia
     rw[hj]at d;have e1:e=e':=iX d;subst e1;rcases t5 p M with q1|q1
     ·exact .inl q1
     ·obtain⟨e2,r7,p0⟩:=gS.mp q1;rcases I.ens e2 r7 with q2|⟨j2,r5,q2⟩
      ·exact .inr (.inl (by rw[<-p0];exact q2))
      ·exact .inr (.inr (bd j2 (by lia) (by rw[<-p0];exact q2)))
   ·rw[ic,kL];rcases m' e' d with q1|q1
    ·rcases I.ens e' q1 with q2|⟨j2,r5,q2⟩
     ·exact .inl q2
     ·exact .inr (bd j2 (by lia) q2)
    ·exact .inr (bd B.length (by lia) (by rw[q1]))
   ·rw[gN,List.sum_append,I.lfe];simp
    lia
   ·refine lb (Paired.mapP IZ.lis λ_ _ z=>z.km d2 IZ.ms) (.cons (kj x dx cc cu v rfl (k9 _ _ xn q0) (f4 p7) (k9 _ _ (f4 p7) s8) (f4 p4) (k9 _ _ (f4 p4) x5) ?_) .nil);exact(v7.imp (ni t8)).imp λb o e=>mF (jX e).1 (k9 _ _ (jX e).1 (jX e).2)
   ·exact lb IZ.lof (.cons (jx l8.symm rfl rfl tr) .nil)
   ·rw[GQ,show((rws.length:Nat):Int)=(B.length:Int)by lia];exact lb (IZ.sts.kt o6) (j5.kt o6)
  rintro Z X zz;refine jk zz ?_;clear zz;rintro lf i6 k0 i8 ak es ⟨B,rows,rws,xs,lns,N,rfl,I⟩;have lr:=I.lr;have q4:=I.le;rw[dm]at lr q4;have w5:=Paired.length I.rw_;have s5:=Paired.length I.ar;have r4:=Paired.length I.lis;have w1:=Paired.length I.lof;have pr:Paired (LwR L) rows rws:=Paired.mapP I.pr λ_ _ z=>z.1;have e7:=Paired.length pr
  have a4:(fm rws rws.length).length<=300:=by
   have U:=vO I.pr rws.length (fa _);rw[<-e7,iY]at U;have h2:=I.lfe;have h3:=I.lf0;rw[<-e7]
   lia
  have w2:sR L ya rows:=⟨λe he=>(I.lok e he).1,I.nms,I.fr,by lia⟩;have v1:∀s∈fm rws rws.length,uZ L lns rows s:=λs hs=>link I.lof (λe he=>(I.lok e he).1) pr f9 dk hs;have q3:qw (wrL rows) (fm rws rws.length):=FZ pr λi j e e' U h2 h3=>rm (by have:=(gG.mp U).1;lia) (by have:=(gG.mp h2).1;lia) (by rw[<-I.nms i e U,<-I.nms j e' h2];exact h3)
  have t7:∀s∈fm rws rws.length,s.2.2.1.length+s.2.2.2.length<=100:=λs hs=>by
   obtain⟨r,sl⟩:=oj hs;have ok:=(DF pr r (gJ sl.at_));have g1:=ok.go.few;have g2:=ok.gs.few;have U:=sl.lc;by_cases hst:s.2.1=("start":Str)
   ·rw[vX hs hst,mQ]
    lia
   ·have h2:=sl.lt hst
    lia
  refine jv _ rfl _ rfl (gI rfl) λtl w4=>?_;have u1:A0m X (upd X tl (.lst [.str "in"])):=gu w4;have g7:upd X tl (.lst [.str "in"]) tl=some (.lst ([("in":Str)].map V.str)):=ck;generalize upd X tl (.lst [.str "in"])=X1 at u1 g7⊢;refine eh _ rfl (gI rfl) λol s4=>?_;have u2:A0m X1 (upd X1 ol (.lst [.str "in"])):=gu s4;have h8:upd X1 ol (.lst [.str "in"]) ol=some (.lst ([("in":Str)].map V.str)):=ck;generalize upd X1 ol (.lst [.str "in"])=X2 at u2 h8⊢;have l1:=u1.trans u2;refine λp dx M j1 n3=>?_;have v2:A0m X2 (upd (upd X2 dx (.own p)) p (.ins t.a9 dx [])):=gT (gu j1) M;have n2:upd (upd X2 dx (.own p)) p (.ins t.a9 dx []) p=some (.ins t.a9 dx []):=ck;generalize upd (upd X2 dx (.own p)) p (.ins t.a9 dx [])=X3 at v2 n2⊢;have d7:=l1.trans v2;refine jq p dx ld f (jB tl u ol _ L ak is (kj es [("in":Str)] [("in":Str)] xs _ rfl n2 ((I.sm.trans d7) _ _ e3) il (by lia) (d7 _ _ I.had) (jd (I.ar.same d7) (by lia) (λe he=>by have:=I.aok.l4 e he;lia) ((u2.trans v2) _ _ g7) (by simp) (jd (d7 _ _ I.hlv) (by lia) (λx hx=>?_) (v2 _ _ h8) (by simp) λl' a' t' v' o' ak' Gc v9 z2 w3 y7 ha9 y9 y0 ht9 nv' s6 z8 y4 v5=>⟨rfl,?_⟩))))
  ·obtain⟨j,hj⟩:=List.getElem?_of_mem hx;obtain⟨e,_,x0,d0,_,_,_,rfl,e0,_⟩:=iH I.lis hj;exact jQ x0 d0 _ rfl (λz=>by rw[z]at e0;rw[l1 _ _ e0]at M;cases M) (d7 _ _ e0)
  have v3:A0m X Gc:=l1.trans (KB.same v2 v5 M);have IC:=I.same v3;have q5:ClO t Gc p L lns:=⟨dx,l',a',t',v',o',_,xs,[f,g,u,SL],v9,w3,s6,IC.lis⟩;refine kn _ rfl _ rfl g SL B N rows (iE rws L [f,g,u,SL] rfl IC.hrl IC.rw_ (jd pr IC.hSL IC.sts a4 q3 λDD e4 Ks Y z9 sY du=>?_))
  have l0:∀(Zz:Hp)(OL:zW)(od:zI),A0m Y Zz->Zz OL=some (.lst (od.map V.int))->B9a (fm rws rws.length).length od->od.length=(fm rws rws.length).length->xp t Zz p OL SL DD g L ya lns rows rws B N e4 Ks od:=λZz OL od sZ hO g0 f6=>
   have s2:=sY.trans sZ;have IZ:=IC.same s2
   ⟨q5.same s2,hO,g0,f6,IZ.hSL,IZ.sts,a4,du.same sZ,IZ.hrl,⟨_,IZ.rw_⟩,w2,f9,pr,v1,CA I.lof,q3,t7⟩
  have v0:∀j<(fm rws rws.length).length,∀i∈Ks j,0<=i/\i<j:=λj hj i hi=>by have hs:(fm rws rws.length)[j]?=some ((fm rws rws.length)[j]'hj):=gM _;exact xZ ((du.iff j _ hj hs i).mp hi)
  have k6:∀{Zz:Hp},A0m Y Zz->SqL K Zz a (ns.map V.int):=λsZ=>(j7.trans (I.sm.trans (v3.trans (sY.trans sZ)))).seq hS;refine gZ _ rfl _ rfl (nM a DD ns _ e4 Ks rfl (k6 (A0m.refl _)) x4 du.hd du.at_ v0 a4 λOL od Zz x9 sZ o5 g0 f6=>?_);refine gZ _ rfl _ rfl (iE a ns 4 rfl (k6 sZ) (by decide) λz4=>(hZ _ _ rfl (jL rfl uu _ rfl (iE a ns 5 rfl (k6 sZ) (by decide) λz5=>(lP OL _ _ _ od rfl o5 g0 f6 a4 λRL q6 W hRL sW s0 m2 o9=>?_)))));have i3:=sZ.trans sW;refine bd _ rfl (gZ _ rfl _ rfl (kn _ rfl _ rfl p OL SL DD g (jB L ya lns rows rws B N (jQ e4 Ks od rfl (l0 W OL od i3 (sW _ _ o5) g0 f6) λW1 i7=>(bd true rfl (hB ?_))))));refine bd _ rfl (gZ _ rfl _ rfl (kn _ rfl _ rfl p RL SL DD g (jB L ya lns rows rws B N (jQ e4 Ks q6 rfl (l0 W1 RL q6 (i3.trans i7) (i7 _ _ s0) m2 o9) λW2 t0=>(bd true rfl (hB ?_))))));have p2:=i3.trans (i7.trans t0);have I2:=IC.same (sY.trans p2);have l7:=Paired.length I2.sts;refine gK _ rfl _ rfl SL _ rfl (.inl (SqL.of I2.hSL)) (iF _ rfl (by lia) (by lia) λD hD=>?_);refine rq (J:=Itr 0 ((N.length:Int)).toNat) (D:=D) N.length (λi ys Y=>A0m W2 Y/\Y D=some (.lst ys)/\ys=((List.range i).map Int.ofNat).map V.int) (fI (gu hD) ck rfl) (λi ys Y hi _=>(show i<((N.length:Int)).toNat by lia)) (λys Y _=>(show((N.length:Int)).toNat<=N.length by lia)) ?_ ?_
  ·rintro i ys Y hi ⟨sy,f5,rfl⟩ x Y2 ⟨rfl,rfl⟩;refine iU True.intro _ (jd rfl f5 (hV (by rw[dm,dm,List.length_range];lia)) (gT sy hD) ck ?_);rw[List.range_succ,gN,gN,Int.zero_add];rfl
  rintro ys Y3 ⟨sy,f5,rfl⟩;rw[l7]at f5
  have o0:B9a (fm rws rws.length).length ((List.range (fm rws rws.length).length).map Int.ofNat):=⟨rG (λa b e=>Int.ofNat.inj e) List.nodup_range,λx hx=>by
   obtain⟨m,hm,rfl⟩:=gS.mp hx;have:=List.mem_range.mp hm;show 0<=(m:Int)/\(m:Int)<_
   lia⟩
  exact bd _ rfl (kn _ rfl _ rfl p D SL DD g (jB L ya lns rows rws B N (jQ e4 Ks _ rfl (l0 Y3 D _ (p2.trans sy) f5 o0 (by rw[dm,List.length_range])) λW4 _=>k _)))
end My
namespace PySem.W.Fast
def tw4193928450514781183:=()
def tw15083823102183409099:=()
def tw12586574138709416979:=()
def tw9278360075630403025:=()
def tw10119250656122990082:=()
def tw3683016468253497925:=()
def tw15132692299862294150:=()
def tw10034781068392175390:=()
def tw11793075693043208044:=()
def tw11133223981517186916:=()
def tw3596959903516846462:=()
def tw12560576663732007736:=()
def tw5517816440314180896:=()
def tw15781132679592082256:=()
def tw8251281107544542237:=()
def tw9652731945707732851:=()
def tw5350996408888077031:=()
def tw540488459965072950:=()
def tw8837741979594389073:=()
def tw7336672105388066929:=()
def tw2513556433336962673:=()
def tw5345094881966634735:=()
def tw14404384699459601481:=()
def tw16989894333871258918:=()
def tw4172277311274632034:=()
def tw16239727565171733653:=()
def tw14335998629025034082:=()
def tw6919383449642701588:=()
def tw1445649550670345115:=()
def tw14662179908461823556:=()
def tw3811111610588497487:=()
def tw11939568979270533882:=()
def tw4761882712512186718:=()
def tw4112514585599063568:=()
def tw4638199825899274433:=()
def tw9583279785481325632:=()
def tw5787657952727287275:=()
def tw4082635235770674795:=()
def tw378614232378919845:=()
def tw11687663629568530858:=()
def tw17346718081055143835:=()
def tw16483617169579408744:=()
def tw1009158136477579870:=()
def tw10077357539577219847:=()
def tw11377165821857224114:=()
def tw12531893796067571292:=()
def tw14150843286116355415:=()
def tw785398575261080795:=()
def tw11083804279119729728:=()
def tw15381126550870238650:=()
def tw14515448750499733153:=()
def tw18332605387242289590:=()
def tw4288013163284393039:=()
def tw15853125640800918096:=()
def tw16329588793243461486:=()
def tw14465703625322691001:=()
def tw2867685970186492431:=()
def tw1991846864461525157:=()
def tw7822853511427823845:=()
def tw12792296615513626899:=()
def tw7096558995879518238:=()
def tw6447263080805090610:=()
def tw7299346069490925657:=()
def tw461166750665410244:=()
def tw9138401736505166012:=()
def tw2427276063993506961:=()
def tw6698470527166903787:=()
def tw918338976891410100:=()
def tw18097602484799389611:=()
def tw9149131509649029422:=()
def tw1500097387114441341:=()
def tw7582357267313290967:=()
def tw12570017037415299264:=()
def tw7075829875036878915:=()
def tw15899278007783722457:=()
def tw8546389815670949253:=()
def tw2982151556650298989:=()
def tw2476488407391606260:=()
def tw11172627882313173779:=()
def tw11846666386273559396:=()
def tw7687453775608494936:=()
def tw2229394700432658602:=()
def tw15309290824757559795:=()
def tw15190158945481025511:=()
def tw16517536790908900285:=()
def tw2996004790550484078:=()
def tw8656324495221315912:=()
def tw15946776667366497078:=()
def tw2032221508223695732:=()
def tw5817713917741468810:=()
def tw11718674717046698909:=()
def tw5477334805374353064:=()
def tw4265102803459582631:=()
def tw6780568420180586953:=()
def tw1254452037543767060:=()
def tw8926837705683563478:=()
def tw10646201818823843852:=()
def tw6029390181874428096:=()
def tw16694436720270557224:=()
def tw4292952982511995303:=()
def tw15856909562390239511:=()
def tw15866770468170152762:=()
def tw8343086532780287043:=()
def tw15966659109627730078:=()
def tw695926131888249649:=()
def tw11071826161929452447:=()
def tw5487286214618326846:=()
def tw10911856047924675777:=()
def tw8687524433695453435:=()
def tw2642398058156080007:=()
def tw6646420020299063252:=()
def tw2825740311164807575:=()
def tw15162523292867368157:=()
def tw16042263898664867323:=()
def tw25055479045866806:=()
def tw18254065167358883368:=()
def tw17086928816367840226:=()
def tw4187831064002133244:=()
def tw16494104972958503468:=()
def tw11526566421328573812:=()
def tw12944916307899495265:=()
def tw11894573617260518965:=()
def tw9346752032177754144:=()
def tw3331993657854365529:=()
def tw13701983306086313215:=()
def tw17768543122844629284:=()
def tw11494413605116831691:=()
def tw5597938280674423047:=()
def tw11200007100471567409:=()
def tw12125564701177938219:=()
def tw3929384701513321880:=()
def tw9850529413788922175:=()
def tw2051130644647315150:=()
def tw174775580520763716:=()
def tw15600554472634022608:=()
def tw8697689181372807869:=()
end PySem.W.Fast
namespace My
open PySem L2
theorem E2n{p:zH->Prop}(h:p []):∀us:zH,us.length=0->p us:=λus e=>by rw[qb.mp e];exact h
theorem E1l{n:Nat}{p:zH->Prop}(h:∀(a:zX)(us:zH),us.length=n->p (a::us)):∀us:zH,us.length=n+1->p us|a::r,e=>h a r (Nat.succ.inj e)
section
variable{K:Frag}{h:yA}{mg:zE}{x q:Str}{st:Stmt}{C f:zW}{oc:zX}{od:zO}{kV dc pm:zX}{an:zO}{cd ct:zX}{sl:zF}{ps:zC}
theorem E0r(_:findIn K (.ref C) x=some (some (.ref f)))(l:K.lookup f=some ⟨oc,od,.func (fnOf x q (nX st) (mE st) (gE st) .none kV dc pm an cd ct),sl⟩)(c:codeIn K cd q=true)(k:keepIn K (.ref f)=true)
  (b:∀(kV a pm:zX)(an:zO)(d ct:zX)(us:zH),us.length=ps.length->bindArgs (fnOf x q (nX st) (mE st) (gE st) .none kV a pm an d ct) ⟨us,[]⟩=pure (ps.zip us)):FM K C x q st f (fnOf x q (nX st) (mE st) (gE st) .none kV dc pm an cd ct) ps:=⟨sS l c k,(sS l c k).binds b⟩
theorem E1o(X:K.In h)(G:h.Ns mainGlobals mg)(a:nsIn K mainGlobals x=some (some (.ref f)))(l:K.lookup f=some ⟨oc,od,.func (fnOf x x (nX st) (mE st) (gE st) .none kV dc pm an cd ct),sl⟩)(c:codeIn K cd x=true)(k:keepIn K (.ref f)=true)
  (b:∀(kV d pm:zX)(an:zO)(e ct:zX)(us:zH),us.length=ps.length->bindArgs (fnOf x x (nX st) (mE st) (gE st) .none kV d pm an e ct) ⟨us,[]⟩=pure (ps.zip us)):FQ K mg x st f (fnOf x x (nX st) (mE st) (gE st) .none kV dc pm an cd ct) ps:=⟨sS l c k,PySem.W.mg_of X G a,(sS l c k).binds b⟩
end
local macro_rules | `(tactic| walk_at"le") => `(tactic| (intro _ _ _ _ _ _; (repeat (refine E1l fun _ => ?_)); exact E2n rfl))
theorem D7z{l:PySem.W.OpenLaw}{w:yD}{K:Frag}{mg:zE}{c:zW}{t:Adr}(a:mg "law"=some (.ref c))(T:Txt K mg t)(b:∀(s:zY)(v:zX),BindsTo s t.fR ⟨[v],[]⟩ [("_law_script",v)]):
  ∃fd:zS,(∀(s:zY)(v:zX),BindsTo s fd ⟨[v],[]⟩ [("_law_script",v)])/\∀base:yA,K.In base->base.Ns mainGlobals mg->A4u l.prog w K mg base iS 19 c fd ["_law_script"] (sL K):=by
 have e:=a.symm.trans T.fu.m;cases e;exact⟨_,b,λbase _ _=>Di T⟩
theorem walk{l:PySem.W.OpenLaw}{q:yB}{b:zC}{XP:zE->yA->Prop}{YP:yD->yA->Prop}{d:DefRec}{K:Params->Frag}(hn:l.most=some 63)(c:d.params.defaults=[])
  (j:∀(w:yD)(h:yA),YP w h->(K w.params).In h)
  (F:∀(w:yD)(mg:zE)(e:zW)(h:yA),(K w.params).In h->h.Ns mainGlobals mg->mg d.name=some (.ref e)->
   ∃fd:zS,(∀(s:zY)(u:zX),BindsTo s fd ⟨[u],[]⟩ [("_law_script",u)])/\∀base:yA,(K w.params).In base->base.Ns mainGlobals mg->A4u l.prog w (K w.params) mg base iS 19 e fd ["_law_script"] (sL (K w.params))):
  PySem.W.WalkO q b XP YP l.row.toRowW d [] (λf vs=>PySem.call f vs):=
 L2.D5p (n:=63) (k:=19) (x:="_law_script") (CX:=λ_=>iS) (sp:=λw=>sL (K w.params)) hn (by decide) c ⟨rfl,by decide,by decide,rfl⟩ j F (λ_ _ a g i _ m=>⟨a,g,rfl,m,i,λ_=>rfl⟩) λ_ _ _ _ _ z=>z
end My
open PySem PySem.W PyProof.Rows
set_option maxRecDepth 100000 in
set_option maxHeartbeats 0 in
theorem PySem.Challenge.cw_arrayloom_k58_orders_judged_holds : PySem.Challenge.rw_arrayloom_k58_orders_judged.Holds := by
 w_on;o_law;k_head;(case hw=>w_witness2)
 k_fill
 refine My.walk (l:=PySem.Challenge.rw_arrayloom_k58_orders_judged) rfl rfl (λw h Y=>PySem.W.kIn_of Y) ?F
 case F =>
  intro w d e h KX G c;refine' My.D7z (t:= .mk ..) c ?T ?b
  case T =>
   constructor <;> (try dsimp only) <;> first |k_is |((with_reducible refine mg_of KX G ?_);k_is) |((with_reducible refine mg_none_of KX G ?_);k_is) |((with_reducible apply My.E1o KX G) <;> first |k_is |(intro _ _ _ _ _ _;(repeat (refine My.E1l λ_=> ?_));exact My.E2n rfl)) |((with_reducible apply My.E0r) <;> first |k_is |(intro _ _ _ _ _ _;(repeat (refine My.E1l λ_=> ?_));exact My.E2n rfl)) |((with_reducible refine L2.D0g ?_ ?_ ?_) <;> k_is) |((with_reducible refine L2.C5o (by first |rfl |decide) ?_ ?_ ?_) <;> k_is) |((with_reducible refine L2.D7v ?_ ?_ ?_ ?_) <;> k_is) |(show findIn _ _ _=_;k_is) |kernel_rfl |(refine' ⟨_,mg_of KX G ?a,?b⟩;(case a=>k_is);(case b=>first |exact⟨_,rfl⟩ |rfl)) |(constructor <;> first |k_is |(show findIn _ _ _=_;k_is) |kernel_rfl |(constructor <;> k_is))
  case b=>exact λs v=> .of_eq rfl
