import PyProof.Rows.All
import Wide.All
import OpenK.AllK
import Wide.FinOn
import Lean
import PySem.Challenge.RW_arrayloom_k65_crowd_and_room
set_option compiler.extract_closed false
section
open PySem PySem.Spec PyProof.Rows PySem.Calls
abbrev dh:=@wpAny_bind
abbrev gk:=@Heap.get?_push_of_some
abbrev lJ:=@List.mem_append_right
abbrev gG:=@List.getElem?_eq_some_iff
abbrev eh:=@wpAny_pure
abbrev nT:=@List.mem_append_left
abbrev gz:=@List.length_append
abbrev iQ:=@List.mem_append
abbrev eH:=@List.length_map
abbrev gf:=@Nat.le_refl
abbrev gN:=@Heap.lt_size
abbrev hB:=@List.getElem?_eq_getElem
abbrev ig:=@Heap.get?_push_size
abbrev jU:=@PyProof.Rows.boot_isinstance
abbrev gY:=@List.mem_cons
abbrev iD:=@List.size_toArray
abbrev jq:=@Nat.ne_of_lt
abbrev lI:=@Option.map_eq_some_iff
abbrev lV:=@List.length_singleton
abbrev jA:=@PySem.F.plainAttrs_list
abbrev lU:=@List.nodup_append
abbrev mn:=@PyProof.Rows.boot_tuple
abbrev kZ:=@PySem.F.slot_list_append
abbrev kY:=@PySem.F.type_list_append
abbrev gw:=@List.map_cons
abbrev kB:=@Nat.lt_of_lt_of_le
abbrev gB:=@List.map_append
abbrev ej:=@if_neg
abbrev lT:=@List.append_nil
abbrev hX:=@Bool.false_ne_true
abbrev ik:=@List.mem_singleton
abbrev iP:=@List.length_take
abbrev iZ:=@List.length_cons
abbrev lH:=@List.append_assoc
abbrev jT:=@wpAny_mono
abbrev jf:=@wpAny_field
abbrev fW:=@if_pos
abbrev gT:=@List.mem_of_getElem?
abbrev gR:=@List.take_add_one
abbrev lS:=@List.nodup_cons
abbrev lG:=@wpAny_newObj_type
abbrev hQ:=@List.take_length
abbrev pz:=@List.length_drop
abbrev je:=@Option.some.inj
abbrev lR:=@wpAny_callSpecial?_slot
abbrev tN:=@Heap.get?_update_other
abbrev iG:=@Nat.zero_le
abbrev lF:=@List.mem_cons_of_mem
abbrev ke:=@wpAny_call_entry
abbrev mj:=@wpAny_setField_rec
abbrev oD:=@List.not_mem_nil
abbrev kj:=@decide_eq_false
abbrev nu:=@List.getElem?_append_right
abbrev kX:=@Nat.le_trans
abbrev oC:=@PyProof.Rows.boot_list
abbrev tM:=@Int.emod_lt_of_pos
abbrev kd:=@Nat.ne_of_gt
abbrev py:=@Heap.get?_update_self
abbrev mZ:=@Heap.size_push
abbrev nr:=@wpAny_setField
abbrev q5:=@Int.emod_nonneg
abbrev kM:=@wpAny_holding
abbrev nS:=@Bool.and_eq_true
abbrev qZ:=@wpAny_standAt
abbrev gP:=@List.getElem?_map
abbrev iW:=@decide_eq_true
abbrev lE:=@wpAny_seqItems
abbrev oB:=@beq_eq_false_iff_ne
abbrev tK:=@List.getElem?_set_self
abbrev vF:=@List.drop_of_length_le
abbrev lQ:=@List.getElem?_append_left
abbrev lD:=@List.mem_cons_self
abbrev nR:=@List.lookup_cons
abbrev tJ:=@List.getElem?_set_ne
abbrev qY:=@wpAny_execs_nil
abbrev gm:=@List.mem_map
abbrev p9:=@Nat.lt_of_le_of_lt
abbrev p8:=@List.take_append_drop
abbrev jG:=@Option.toList_some
abbrev nn:=@List.length_nil
abbrev nQ:=@List.find?_cons
abbrev qX:=@List.take_of_length_le
abbrev p7:=@List.length_eq_zero_iff
abbrev p6:=@List.mem_of_mem_take
abbrev px:=@PyProof.Rows.boot_dict
end
noncomputable section
open PySem.W (Frag findIn nsIn mroIn kitOne keepIn typeIn hideAll isFn plainGet isClsIn hasDictIn exmOne plainOver makesIn clsIn fnOf emptyDict instObj excIn kitAny takesIn specialIn subIn codeIn)
set_option Elab.async false
set_option bootstrap.genMatcherCode false
set_option linter.all false
set_option maxRecDepth 100000
set_option maxHeartbeats 4000000
section
variable{G:Prop}{T0 T1 T2 T3 T4 T5 T6 T7 T8 T9 T10 T11 T12 T13:Sort _}{A0 A1 A2 A3 A4 A5:Prop}{B0 B1 B2 B3:T0->Prop}{C0 C1 C2 C3 C4 C5:T0->T1->Prop}{D0 D1 D2 D3 D4 D5:T0->T1->T2->Prop}{E0 E1 E2 E3 E4 E5:T0->T1->T2->T3->Prop}{F0 F1 F2 F3 F4 F5 F6 F7 F8:T0->T1->T2->T3->T4->Prop}{G0 G1 G2 G3 G4 G5 G6 G7:T0->T1->T2->T3->T4->T5->Prop}{J0 J1 J2:T0->T1->T2->T3->T4->T5->T6->T7->T8->Prop}{L0:T0->T1->T2->T3->T4->T5->T6->T7->T8->T9->T10->Prop}{O0:T0->T1->T2->T3->T4->T5->T6->T7->T8->T9->T10->T11->T12->T13->Prop}
theorem fY:A0->A1->A2->A0/\A1/\A2:=λm n i=>⟨m,n,i⟩
theorem iN:A0->∀x,B0 x->A0/\∃x,B0 x:=λm x n=>⟨m,x,n⟩
theorem al:∀x,B0 x->B1 x->∃x,B0 x/\B1 x:=λx m n=>⟨x,m,n⟩
theorem jw:∀x y,C0 x y->∃x y,C0 x y:=λx y m=>⟨x,y,m⟩
theorem ip:A0->A1->A2->A3->A0/\A1/\A2/\A3:=λm n i j=>⟨m,n,i,j⟩
theorem gF:A0->∀x,B0 x->B1 x->A0/\∃x,B0 x/\B1 x:=λm x n i=>⟨m,x,n,i⟩
theorem fV:∀x,B0 x->B1 x->B2 x->∃x,B0 x/\B1 x/\B2 x:=λx m n i=>⟨x,m,n,i⟩
theorem iy:∀x y,C0 x y->C1 x y->∃x y,C0 x y/\C1 x y:=λx y m n=>⟨x,y,m,n⟩
theorem jQ:∀x y z,D0 x y z->∃x y z,D0 x y z:=λx y z m=>⟨x,y,z,m⟩
theorem mi:A0->A1->A2->A3->A4->A0/\A1/\A2/\A3/\A4:=λm n i j k=>⟨m,n,i,j,k⟩
theorem iw:A0->A1->∀x,B0 x->B1 x->A0/\A1/\∃x,B0 x/\B1 x:=λm n x i j=>⟨m,n,x,i,j⟩
theorem jP:A0->∀x,B0 x->B1 x->B2 x->A0/\∃x,B0 x/\B1 x/\B2 x:=λm x n i j=>⟨m,x,n,i,j⟩
theorem kc:A0->∀x y,C0 x y->C1 x y->A0/\∃x y,C0 x y/\C1 x y:=λm x y n i=>⟨m,x,y,n,i⟩
theorem iV:∀x,B0 x->B1 x->B2 x->B3 x->∃x,B0 x/\B1 x/\B2 x/\B3 x:=λx m n i j=>⟨x,m,n,i,j⟩
theorem pj:∀x,B0 x->B1 x->∀y,C0 x y->∃x,B0 x/\B1 x/\∃y,C0 x y:=λx m n y i=>⟨x,m,n,y,i⟩
theorem iJ:∀x,B0 x->∀y,C0 x y->C1 x y->∃x,B0 x/\∃y,C0 x y/\C1 x y:=λx m y n i=>⟨x,m,y,n,i⟩
theorem el:∀x y,C0 x y->C1 x y->C2 x y->∃x y,C0 x y/\C1 x y/\C2 x y:=λx y m n i=>⟨x,y,m,n,i⟩
theorem jn:∀x y z,D0 x y z->D1 x y z->∃x y z,D0 x y z/\D1 x y z:=λx y z m n=>⟨x,y,z,m,n⟩
theorem ka:A0->A1->A2->A3->A4->A5->A0/\A1/\A2/\A3/\A4/\A5:=λm n i j k l=>⟨m,n,i,j,k,l⟩
theorem iU:A0->∀x y,C0 x y->C1 x y->C2 x y->A0/\∃x y,C0 x y/\C1 x y/\C2 x y:=λm x y n i j=>⟨m,x,y,n,i,j⟩
theorem jv:∀x,B0 x->B1 x->∀y,C0 x y->C1 x y->∃x,B0 x/\B1 x/\∃y,C0 x y/\C1 x y:=λx m n y i j=>⟨x,m,n,y,i,j⟩
theorem jm:∀x,B0 x->∀y,C0 x y->C1 x y->C2 x y->∃x,B0 x/\∃y,C0 x y/\C1 x y/\C2 x y:=λx m y n i j=>⟨x,m,y,n,i,j⟩
theorem im:∀x y,C0 x y->C1 x y->C2 x y->C3 x y->∃x y,C0 x y/\C1 x y/\C2 x y/\C3 x y:=λx y m n i j=>⟨x,y,m,n,i,j⟩
theorem jF:∀x y z,D0 x y z->D1 x y z->D2 x y z->∃x y z,D0 x y z/\D1 x y z/\D2 x y z:=λx y z m n i=>⟨x,y,z,m,n,i⟩
theorem gr:∀x,B0 x->∀y z,D0 x y z->D1 x y z->D2 x y z->∃x,B0 x/\∃y z,D0 x y z/\D1 x y z/\D2 x y z:=λx m y z n i j=>⟨x,m,y,z,n,i,j⟩
theorem ij:∀x y,C0 x y->C1 x y->C2 x y->C3 x y->C4 x y->∃x y,C0 x y/\C1 x y/\C2 x y/\C3 x y/\C4 x y:=λx y m n i j k=>⟨x,y,m,n,i,j,k⟩
theorem gD:∀x y z,D0 x y z->D1 x y z->D2 x y z->D3 x y z->∃x y z,D0 x y z/\D1 x y z/\D2 x y z/\D3 x y z:=λx y z m n i j=>⟨x,y,z,m,n,i,j⟩
theorem mF:∀x y z u v w,G0 x y z u v w->∃x y z u v w,G0 x y z u v w:=λx y z u v w m=>⟨x,y,z,u,v,w,m⟩
theorem pi:A0->∀x,B0 x->∀y,C0 x y->C1 x y->∀z,D0 x y z->A0/\∃x,B0 x/\∃y,C0 x y/\C1 x y/\∃z,D0 x y z:=λm x n y i j z k=>⟨m,x,n,y,i,j,z,k⟩
theorem kK:∀x,B0 x->∀y z u v w,G0 x y z u v w->∃x,B0 x/\∃y z u v w,G0 x y z u v w:=λx m y z u v w n=>⟨x,m,y,z,u,v,w,n⟩
theorem mY:∀x y,C0 x y->C1 x y->C2 x y->C3 x y->C4 x y->C5 x y->∃x y,C0 x y/\C1 x y/\C2 x y/\C3 x y/\C4 x y/\C5 x y:=λx y m n i j k l=>⟨x,y,m,n,i,j,k,l⟩
theorem gX:∀x y z,D0 x y z->D1 x y z->D2 x y z->D3 x y z->D4 x y z->∃x y z,D0 x y z/\D1 x y z/\D2 x y z/\D3 x y z/\D4 x y z:=λx y z m n i j k=>⟨x,y,z,m,n,i,j,k⟩
theorem p5:∀x,B0 x->B1 x->∀y,C0 x y->C1 x y->C2 x y->∀z,D0 x y z->∃x,B0 x/\B1 x/\∃y,C0 x y/\C1 x y/\C2 x y/\∃z,D0 x y z:=λx m n y i j k z l=>⟨x,m,n,y,i,j,k,z,l⟩
theorem ie:∀x,B0 x->∀y,C0 x y->∀z u,E0 x y z u->E1 x y z u->E2 x y z u->∃x,B0 x/\∃y,C0 x y/\∃z u,E0 x y z u/\E1 x y z u/\E2 x y z u:=λx m y n z u i j k=>⟨x,m,y,n,z,u,i,j,k⟩
theorem nj:∀x y z,D0 x y z->D1 x y z->D2 x y z->D3 x y z->D4 x y z->D5 x y z->∃x y z,D0 x y z/\D1 x y z/\D2 x y z/\D3 x y z/\D4 x y z/\D5 x y z:=λx y z m n i j k l=>⟨x,y,z,m,n,i,j,k,l⟩
theorem iI:∀x y z u,E0 x y z u->E1 x y z u->E2 x y z u->E3 x y z u->E4 x y z u->∃x y z u,E0 x y z u/\E1 x y z u/\E2 x y z u/\E3 x y z u/\E4 x y z u:=λx y z u m n i j k=>⟨x,y,z,u,m,n,i,j,k⟩
theorem kJ:∀x y z u,E0 x y z u->E1 x y z u->E2 x y z u->E3 x y z u->E4 x y z u->E5 x y z u->∃x y z u,E0 x y z u/\E1 x y z u/\E2 x y z u/\E3 x y z u/\E4 x y z u/\E5 x y z u:=λx y z u m n i j k l=>⟨x,y,z,u,m,n,i,j,k,l⟩
theorem ic:∀x,B0 x->∀y z u v,F0 x y z u v->F1 x y z u v->F2 x y z u v->F3 x y z u v->F4 x y z u v->∃x,B0 x/\∃y z u v,F0 x y z u v/\F1 x y z u v/\F2 x y z u v/\F3 x y z u v/\F4 x y z u v:=λx m y z u v n i j k l=>⟨x,m,y,z,u,v,n,i,j,k,l⟩
theorem i12:∀x y z u v,F0 x y z u v->F1 x y z u v->F2 x y z u v->F3 x y z u v->F4 x y z u v->F5 x y z u v->∃x y z u v,F0 x y z u v/\F1 x y z u v/\F2 x y z u v/\F3 x y z u v/\F4 x y z u v/\F5 x y z u v:=λx y z u v m n i j k l=>⟨x,y,z,u,v,m,n,i,j,k,l⟩
theorem jE:∀x,B0 x->∀y z u v,F0 x y z u v->F1 x y z u v->F2 x y z u v->F3 x y z u v->F4 x y z u v->F5 x y z u v->∃x,B0 x/\∃y z u v,F0 x y z u v/\F1 x y z u v/\F2 x y z u v/\F3 x y z u v/\F4 x y z u v/\F5 x y z u v:=λx m y z u v n i j k l o=>⟨x,m,y,z,u,v,n,i,j,k,l,o⟩
theorem iT:∀x,B0 x->∀y z u v,F0 x y z u v->F1 x y z u v->F2 x y z u v->∀w,G0 x y z u v w->G1 x y z u v w->∃x,B0 x/\∃y z u v,F0 x y z u v/\F1 x y z u v/\F2 x y z u v/\∃w,G0 x y z u v w/\G1 x y z u v w:=λx m y z u v n i j w k l=>⟨x,m,y,z,u,v,n,i,j,w,k,l⟩
theorem mX:∀x y z u v,F0 x y z u v->F1 x y z u v->F2 x y z u v->F3 x y z u v->F4 x y z u v->F5 x y z u v->F6 x y z u v->∃x y z u v,F0 x y z u v/\F1 x y z u v/\F2 x y z u v/\F3 x y z u v/\F4 x y z u v/\F5 x y z u v/\F6 x y z u v:=λx y z u v m n i j k l o=>⟨x,y,z,u,v,m,n,i,j,k,l,o⟩
theorem lP:∀x,B0 x->∀y z,D0 x y z->D1 x y z->∀u v,F0 x y z u v->F1 x y z u v->∀w,G0 x y z u v w->G1 x y z u v w->∃x,B0 x/\∃y z,D0 x y z/\D1 x y z/\∃u v,F0 x y z u v/\F1 x y z u v/\∃w,G0 x y z u v w/\G1 x y z u v w:=λx m y z n i u v j k w l o=>⟨x,m,y,z,n,i,u,v,j,k,w,l,o⟩
theorem iM:∀x,B0 x->∀y z u v w,G0 x y z u v w->G1 x y z u v w->G2 x y z u v w->G3 x y z u v w->G4 x y z u v w->G5 x y z u v w->∃x,B0 x/\∃y z u v w,G0 x y z u v w/\G1 x y z u v w/\G2 x y z u v w/\G3 x y z u v w/\G4 x y z u v w/\G5 x y z u v w:=λx m y z u v w n i j k l o=>⟨x,m,y,z,u,v,w,n,i,j,k,l,o⟩
theorem jJ:∀x y,C0 x y->C1 x y->C2 x y->∀z u,E0 x y z u->∀v w,G0 x y z u v w->G1 x y z u v w->G2 x y z u v w->∃x y,C0 x y/\C1 x y/\C2 x y/\∃z u,E0 x y z u/\∃v w,G0 x y z u v w/\G1 x y z u v w/\G2 x y z u v w:=λx y m n i z u j v w k l o=>⟨x,y,m,n,i,z,u,j,v,w,k,l,o⟩
theorem mE:∀x,B0 x->∀y,C0 x y->∀z u v w p q r s t,L0 x y z u v w p q r s t->∃x,B0 x/\∃y,C0 x y/\∃z u v w p q r s t,L0 x y z u v w p q r s t:=λx m y n z u v w p q r s t i=>⟨x,m,y,n,z,u,v,w,p,q,r,s,t,i⟩
theorem mD:∀x y z u v,F0 x y z u v->F1 x y z u v->F2 x y z u v->F3 x y z u v->F4 x y z u v->F5 x y z u v->F6 x y z u v->F7 x y z u v->F8 x y z u v->∃x y z u v,F0 x y z u v/\F1 x y z u v/\F2 x y z u v/\F3 x y z u v/\F4 x y z u v/\F5 x y z u v/\F6 x y z u v/\F7 x y z u v/\F8 x y z u v:=λx y z u v m n i j k l o b a=>⟨x,y,z,u,v,m,n,i,j,k,l,o,b,a⟩
theorem mh:∀x y z u v w,G0 x y z u v w->G1 x y z u v w->G2 x y z u v w->G3 x y z u v w->G4 x y z u v w->G5 x y z u v w->G6 x y z u v w->G7 x y z u v w->∃x y z u v w,G0 x y z u v w/\G1 x y z u v w/\G2 x y z u v w/\G3 x y z u v w/\G4 x y z u v w/\G5 x y z u v w/\G6 x y z u v w/\G7 x y z u v w:=λx y z u v w m n i j k l o a=>⟨x,y,z,u,v,w,m,n,i,j,k,l,o,a⟩
theorem pw(h:∃x,B0 x/\B1 x/\B2 x)(f:∀x,B0 x->B1 x->B2 x->G):G:=by obtain⟨x,m,n,i⟩:=h;exact f x m n i
theorem jp(h:∃x y z,D0 x y z)(f:∀x y z,D0 x y z->G):G:=by obtain⟨x,y,z,m⟩:=h;exact f x y z m
theorem vE(h:A0/\A1/\A2/\A3/\A4)(f:A0->A1->A2->A3->A4->G):G:=by obtain⟨m,n,i,j,k⟩:=h;exact f m n i j k
theorem nP(h:∃x y,C0 x y/\C1 x y/\C2 x y)(f:∀x y,C0 x y->C1 x y->C2 x y->G):G:=by obtain⟨x,y,m,n,i⟩:=h;exact f x y m n i
theorem jo(h:∃x y,C0 x y/\C1 x y/\C2 x y/\C3 x y)(f:∀x y,C0 x y->C1 x y->C2 x y->C3 x y->G):G:=by obtain⟨x,y,m,n,i,j⟩:=h;exact f x y m n i j
theorem gE(h:∃x y z,D0 x y z/\D1 x y z/\D2 x y z/\D3 x y z)(f:∀x y z,D0 x y z->D1 x y z->D2 x y z->D3 x y z->G):G:=by obtain⟨x,y,z,m,n,i,j⟩:=h;exact f x y z m n i j
theorem jS(h:∃x y z u v w,G0 x y z u v w)(f:∀x y z u v w,G0 x y z u v w->G):G:=by obtain⟨x,y,z,u,v,w,m⟩:=h;exact f x y z u v w m
theorem tI(h:A0/\∃x,B0 x/\∃y,C0 x y/\C1 x y/\∃z,D0 x y z)(f:A0->∀x,B0 x->∀y,C0 x y->C1 x y->∀z,D0 x y z->G):G:=by obtain⟨m,x,n,y,i,j,z,k⟩:=h;exact f m x n y i j z k
theorem mG(h:∃x y,C0 x y/\C1 x y/\∃z u v,F0 x y z u v)(f:∀x y,C0 x y->C1 x y->∀z u v,F0 x y z u v->G):G:=by obtain⟨x,y,m,n,z,u,v,i⟩:=h;exact f x y m n z u v i
theorem jR(h:A0/\A1/\∃x,B0 x/\∃y z u,E0 x y z u/\E1 x y z u)(f:A0->A1->∀x,B0 x->∀y z u,E0 x y z u->E1 x y z u->G):G:=by obtain⟨m,n,x,i,y,z,u,j,k⟩:=h;exact f m n x i y z u j k
theorem jd(h:∃x y z u,E0 x y z u/\E1 x y z u/\E2 x y z u/\E3 x y z u/\E4 x y z u)(f:∀x y z u,E0 x y z u->E1 x y z u->E2 x y z u->E3 x y z u->E4 x y z u->G):G:=by obtain⟨x,y,z,u,m,n,i,j,k⟩:=h;exact f x y z u m n i j k
theorem lC(h:∃x y z u v,F0 x y z u v/\F1 x y z u v/\F2 x y z u v/\F3 x y z u v/\F4 x y z u v/\F5 x y z u v)(f:∀x y z u v,F0 x y z u v->F1 x y z u v->F2 x y z u v->F3 x y z u v->F4 x y z u v->F5 x y z u v->G):G:=by obtain⟨x,y,z,u,v,m,n,i,j,k,l⟩:=h;exact f x y z u v m n i j k l
theorem tH(h:∃x y z u v w,G0 x y z u v w/\G1 x y z u v w/\G2 x y z u v w/\G3 x y z u v w/\G4 x y z u v w/\G5 x y z u v w)(f:∀x y z u v w,G0 x y z u v w->G1 x y z u v w->G2 x y z u v w->G3 x y z u v w->G4 x y z u v w->G5 x y z u v w->G):G:=by obtain⟨x,y,z,u,v,w,m,n,i,j,k,l⟩:=h;exact f x y z u v w m n i j k l
theorem lB(h:∃x y z u v w p q r,J0 x y z u v w p q r/\J1 x y z u v w p q r/\J2 x y z u v w p q r)(f:∀x y z u v w p q r,J0 x y z u v w p q r->J1 x y z u v w p q r->J2 x y z u v w p q r->G):G:=by obtain⟨x,y,z,u,v,w,p,q,r,m,n,i⟩:=h;exact f x y z u v w p q r m n i
theorem pk(h:∃x y z u v w p q r s t a b c,O0 x y z u v w p q r s t a b c)(f:∀x y z u v w p q r s t a b c,O0 x y z u v w p q r s t a b c->G):G:=by obtain⟨x,y,z,u,v,w,p,q,r,s,t,a,b,c,m⟩:=h;exact f x y z u v w p q r s t a b c m
end
abbrev zW:=PySem.Addr
abbrev zX:=PySem.Value
abbrev zY:=PySem.Shared
abbrev zZ:=PySem.Around
abbrev yA:=PySem.Heap
abbrev yB:=PySem.Program
abbrev yC:=PySem.Expr
abbrev yD:=PySem.World
namespace L2
open PySem PySem.Spec PyProof.Rows
abbrev Key:=Sum Int Str
abbrev _root_.zA:=zX->zY->Prop
abbrev _root_.zB:=List (Str×List Str)
abbrev _root_.zC:=List Str
abbrev _root_.zD:=List (zW×Obj)
abbrev _root_.zE:=Str->Option zX
abbrev _root_.zF:=Array (Option zX)
abbrev _root_.zG:=Array zX
abbrev _root_.zH:=List zX
abbrev _root_.zI:=List Int
abbrev _root_.zL:=List (Str×Int)
abbrev _root_.zN:=Option zX
abbrev _root_.zO:=Option zW
abbrev _root_.zQ:=List zW
abbrev _root_.zR:=Str->Int
abbrev _root_.zS:=FuncData
abbrev _root_.zT:=List yC
abbrev _root_.zU:=List Key
abbrev _root_.zV:=zW->Prop
def oG:Key->zX->Bool|.inl k,v=>Value.isInt k v|.inr x,v=>Value.isStrOf x v
def keyH(w:yD):Key->Int|.inl k=>hashInt k|.inr x=>hashStr w x
theorem ni:∀{k:Key}{v:zX},oG k v=true->(∃i t,k=Sum.inl i/\v=Value.int i t)\/(∃x t,k=Sum.inr x/\v=Value.str x t)|.inl i,v,h=>by obtain⟨t,e⟩:=Value.isInt_shape (k:=i) (v:=v) h;exact .inl (iy i t rfl e)|.inr x,v,h=>by obtain⟨t,e⟩:=Value.isStrOf_shape (x:=x) (v:=v) h;exact .inr (iy x t rfl e)
theorem FJ(i:Int)(t:Tok):oG (.inl i) (.int i t)=true:=by simp[oG,Value.isInt]
theorem FC(x:Str)(t:Tok):oG (.inr x) (.str x t)=true:=by simp[oG,Value.isStrOf]
theorem Ci(a b:Int):decide ((Sum.inl a:Key)=Sum.inl b)=(a==b):=by
 by_cases e:a=b
 ·subst e;simp
 ·have h:¬(Sum.inl a:Key)=Sum.inl b:=λq=>e (Sum.inl.inj q);rw[kj h];exact(oB.mpr e).symm
theorem Ca(a b:Str):decide ((Sum.inr a:Key)=Sum.inr b)=decide (a=b):=by
 by_cases e:a=b
 ·subst e;simp
 ·have h:¬(Sum.inr a:Key)=Sum.inr b:=λq=>e (Sum.inr.inj q);rw[kj h,kj e]
theorem BQ(a:Int)(b:Str):decide ((Sum.inl a:Key)=Sum.inr b)=false:=kj (λq=>nomatch q)
theorem BT(a:Str)(b:Int):decide ((Sum.inr a:Key)=Sum.inl b)=false:=kj (λq=>nomatch q)
def ia(prog:yB)(w:yD):PySem.KeyKind prog w Key where
 is:=oG
 hash:=keyH w
 inj:=λv a b f d=>by
  rcases ni f with ⟨i,t,rfl,rfl⟩|⟨x,t,rfl,rfl⟩
  ·rcases ni d with ⟨j,u,rfl,e⟩|⟨y,u,rfl,e⟩
   ·injection e with e1 _;rw[e1]
   ·exact nomatch e
  ·rcases ni d with ⟨j,u,rfl,e⟩|⟨y,u,rfl,e⟩
   ·exact nomatch e
   ·injection e with e1 _;rw[e1]
 byValue:=λk v h=>by rcases ni h with ⟨i,t,rfl,rfl⟩|⟨x,t,rfl,rfl⟩<;>rfl
 pyHash:=λc h=>by
  rcases ni c with ⟨i,t,rfl,rfl⟩|⟨x,t,rfl,rfl⟩
  ·exact wpAny_pyHash_int h
  ·exact wpAny_pyHash_str h
 eqBool:=λg c h=>by
  rcases ni g with ⟨i,t,rfl,rfl⟩|⟨x,t,rfl,rfl⟩
  ·rcases ni c with ⟨j,u,rfl,rfl⟩|⟨y,u,rfl,rfl⟩
   ·rw[Ci]at h;exact wpAny_eqBool_int h
   ·rw[BQ]at h;exact SeqAt.EqAt.int_str i t y u _ _ _ _ h
  ·rcases ni c with ⟨j,u,rfl,rfl⟩|⟨y,u,rfl,rfl⟩
   ·rw[BT]at h;exact SeqAt.EqAt.str_int x t j u _ _ _ _ h
   ·rw[Ca]at h;exact wpAny_eqBool_str h
 «strs»:=λk x t v h=>by
  rcases ni h with ⟨i,u,rfl,e⟩|⟨y,u,rfl,e⟩
  ·exact nomatch e
  ·injection e with e1 _;subst e1;cases v<;>rfl
theorem Ib(prog:yB)(w:yD)(i:Int)(t:Tok):(ia prog w).is (.inl i) (.int i t)=true:=FJ i t
theorem HB(prog:yB)(w:yD)(x:Str)(t:Tok):(ia prog w).is (.inr x) (.str x t)=true:=FC x t
inductive V where
 |non|bl (b:Bool)|int (i:Int)|str (x:Str)|byt (b:Array UInt8)|flt (b:UInt64)|ref (a:zW)|ty (n:String)
 deriving DecidableEq
abbrev _root_.zJ:=List (Key×V)
abbrev _root_.zK:=List (Str×V)
abbrev _root_.zM:=List V
abbrev _root_.zP:=Option V
def A2c:V->zX->Prop|.non,u=>u=Value.none|.bl b,u=>u=Value.bool b|.int i,u=>∃t,u=Value.int i t|.str x,u=>∃t,u=Value.str x t|.byt b,u=>∃t,u=Value.bytes b t|.flt b,u=>∃t,u=Value.float b t|.ref a,u=>u=Value.ref a|.ty n,u=>u=Value.type n
abbrev A2f:zM->List zX->Prop:=Paired A2c
theorem A2f.length{xs:zM}{us:zH}(r:A2f xs us):xs.length=us.length:=Paired.length r
theorem A2f.get:∀{xs:zM}{us:zH}{i:Nat}{x:V},A2f xs us->xs[i]?=some x->∃u,us[i]?=some u/\A2c x u|_,_,_,_,.nil,e=>by simp at e|_,_,0,_,.cons r _,e=>by simp at e;subst e;exact al _ rfl r|_,_,i+1,x,.cons _ t,e=>by obtain⟨u,b,a⟩:=A2f.get (i:=i) (x:=x) t (by simpa using e);exact al u (by simpa using b) a
theorem A2f.set{x:V}{u:zX}(r:A2c x u):∀{xs:zM}{us:zH}(i:Nat),A2f xs us->A2f (xs.set i x) (us.set i u)|_,_,_,.nil=>.nil|_,_,0,.cons _ t=>.cons r t|_,_,i+1,.cons q t=>.cons q (A2f.set r i t)
theorem A2f.append:∀{xs ys:zM}{us a:zH},A2f xs us->A2f ys a->A2f (xs++ys) (us++a)|_,_,_,_,.nil,s=>s|_,_,_,_,.cons r t,s=>.cons r (A2f.append t s)
theorem A2f.take:∀{xs:zM}{us:zH}(n:Nat),A2f xs us->A2f (xs.take n) (us.take n)|_,_,0,_=>.nil|_,_,_+1,.nil=>.nil|_,_,n+1,.cons r t=>.cons r (A2f.take n t)
theorem A2f.drop:∀{xs:zM}{us:zH}(n:Nat),A2f xs us->A2f (xs.drop n) (us.drop n)|_,_,0,r=>r|_,_,_+1,.nil=>.nil|_,_,n+1,.cons _ t=>A2f.drop n t
def B2g:zP->Option zX->Prop|some v,some u=>A2c v u|none,none=>True|_,_=>False
def KV{κ:Type}:List (κ×V)->List (κ×zX)->Prop:=Paired λ(p:κ×V)(q:κ×zX)=>p.1=q.1/\A2c p.2 q.2
def kV:Key->V|.inl i=>.int i|.inr x=>.str x
inductive HO where|lst (xs:zM)|tup (xs:zM)|dK (kvs:zJ)|dT (kvs:List (List Key×V))|set (S:Int->Bool) (n:Nat)|ins (C dx:zW) (fs:zK)|own (x:zW)|xd (fs:zK)|met (f x:zW)|rng (lo hi:Int)|frz (o:Obj) (u:HO)|tbl (ps:zG)|ext (φ:yA->Prop)
abbrev Hp:=zW->Option HO
def upd(H:Hp)(a:zW)(o:HO):Hp:=λb=>if b=a then some o else H b
theorem ee{H:Hp}{a:zW}{o:HO}:upd H a o a=some o:=by unfold upd;rw[fW rfl]
theorem dF{H:Hp}{a b:zW}{o:HO}(h:b≠a):upd H a o b=H b:=by unfold upd;rw[ej h]
theorem xn{H:Hp}{a:zW}{o u:HO}:upd (upd H a o) a u=upd H a u:=by funext b;unfold upd;split<;>rfl
theorem gg{H:Hp}{a b:zW}{o u:HO}(h:H a=some o)(h':H b=some u)(d:o≠u):a≠b:=by intro e;subst e;rw[h]at h';exact d (je h')
theorem ga{H:Hp}{a b:zW}{o:HO}(h:H a=some o)(h':H b=none):a≠b:=by intro e;subst e;rw[h]at h';cases h'
section
variable(P:yB)(w:yD)
def A1g(H:Hp)(h:yA)(a:zW):HO->Prop
 |.lst c=>c.length<=sizeLine/\∃(b:zH)(n:Nat),A2f c b/\h.get? a=some {cls:=.type "list",data:=.seq b.toArray n}
 |.tup c=>c.length<=sizeLine/\∃b:zH,A2f c b/\IsTup h a b.toArray
 |.dK kvs=>kvs.length<=sizeLine/\(a==sysModules)=false/\∃i,KV kvs i/\h.DictOf (ia P w) a i
 |.dT kvs=>kvs.length<=sizeLine/\(a==sysModules)=false/\∃c:List (List Key×zW×zX),
   Paired (λ(p:List Key×V)(q:List Key×zW×zX)=>p.1=q.1/\H q.2.1=some (.tup (p.1.map kV))/\A2c p.2 q.2.2) kvs c/\
   ∃o j k,h.get? a=some o/\o.ExactDict/\o.data=.dict j k/\j.toList=c.map (entryOfKey (tupleKind (ia P w)))/\(c.map (·.1)).Nodup
 |.set S n=>h.SetOf (intKind P w) a S n
 |.ins C dx fs=>H dx=some (.own a)/\fs.length<=1000/\dx≠a/\h.get? a=some (instObj C dx)/\
   ∃d,h.Ns1 dx d/\(∀f,B2g (fs.lookup f) (d f))/\PySem.Within d (fs.map (·.1))
 |.own _=>∃o,h.get? a=some o
 |.xd fs=>∃d,h.Ns1 a d/\∀f,B2g (fs.lookup f) (d f)
 |.rng lo hi=>∃t u v,h.get? a=some {cls:=.type "range",data:=.fields #[.int lo t,.int hi u,.int 1 v]}
 |.frz o u=>h.get? a=some o/\A1g H h a u
 |.tbl ps=>h.get? a=some {cls:=.none,data:=.fields ps}
 |.met f x=>h.get? a=some (PySem.W.methodObj (.ref f) (.ref x))
 |.ext φ=>φ h/\(∃o,h.get? a=some o)/\∀g e:yA,φ g->(∀o,g.get? a=some o->e.get? a=some o)->φ e
def HOk(H:Hp)(h:yA):Prop:=∀a o,H a=some o->A1g P w H h a o
end
section
variable{P:yB}{w:yD}{H H':Hp}{h h':yA}{a:zW}{o:HO}
theorem A1g.lt(x:A1g P w H h a o):a<h.objs.size:=by
 cases o with
 |lst xs=>obtain⟨_,_,_,_,e⟩:=x;exact gN e
 |tup xs=>obtain⟨_,_,_,p⟩:=x;exact p.lt
 |dK kvs=>(refine jR x λ_ _ _ _ o _ _ e _=>?_;clear x);exact gN e
 |dT kvs=>(refine jR x λ_ _ _ _ o _ _ e _=>?_;clear x);exact gN e
 |set S n=>obtain⟨o,_,_,_,e,_⟩:=x;exact gN e
 |ins C dx fs=>obtain⟨_,_,_,e,_⟩:=x;exact gN e
 |own y=>obtain⟨_,e⟩:=x;exact gN e
 |xd fs=>obtain⟨_,⟨_,_,_,e,_⟩,_⟩:=x;exact gN e
 |rng lo hi=>obtain⟨_,_,_,e⟩:=x;exact gN e
 |frz ob u=>obtain⟨e,_⟩:=x;exact gN e
 |tbl ps=>exact gN (show h.get? a=some _ from x)
 |met f y=>exact gN (show h.get? a=some _ from x)
 |ext φ=>obtain⟨_,⟨_,e⟩,_⟩:=x;exact gN e
theorem Paired.mapP{α β:Type}{F G:α->β->Prop}:∀{c:List α}{d:List β},Paired F c d->(∀a b,F a b->G a b)->Paired G c d|_,_,.nil,_=>.nil|_,_,.cons r t,f=>.cons (f _ _ r) (Paired.mapP t f)
theorem A1g.stay(x:A1g P w H h a o)(k:∀b u,(b=a\/H b=some (.own a))->h.get? b=some u->h'.get? b=some u)
  (D:∀b,H b=some (.own a)->H' b=some (.own a)) (F:∀b xs,H b=some (.tup xs)->H' b=some (.tup xs)):A1g P w H' h' a o:=by
 induction o with
 |lst xs=>obtain⟨z,l,n,r,e⟩:=x;exact kc z l n r (k _ _ (.inl rfl) e)
 |tup xs=>obtain⟨z,l,r,g,e,c⟩:=x;exact⟨z,(iJ l r g (k _ _ (.inl rfl) e) c)⟩
 |dK kvs=>(refine jR x λz y G r g j i e c=>?_;clear x);exact iw z y G r (jn g j i (k _ _ (.inl rfl) e) c)
 |dT kvs=>refine jR x λz y xs r g j i e c=>?_;clear x;exact iw z y xs (Paired.mapP r λp q z=>(fY z.1 (F _ _ z.2.1) z.2.2)) (jn g j i (k _ _ (.inl rfl) e) c)
 |set S n=>obtain⟨g,j,i,t,e,c⟩:=x;exact⟨g,(jn j i t (k _ _ (.inl rfl) e) c)⟩
 |ins C dx fs=>refine vE x ?_;clear x;rintro d z I e ⟨m,⟨s,j,i,B,c⟩,r⟩;exact fY (D _ d) z (iw I (k _ _ (.inl rfl) e) m (jn s j i (k _ _ (.inr d) B) c) r)
 |own y=>obtain⟨g,e⟩:=x;exact⟨g,k _ _ (.inl rfl) e⟩
 |xd fs=>obtain⟨m,⟨s,j,i,e,c⟩,r⟩:=x;exact al m (jn s j i (k _ _ (.inl rfl) e) c) r
 |rng lo hi=>obtain⟨t,u,v,e⟩:=x;exact jQ t u v (k _ _ (.inl rfl) e)
 |frz g u ih=>obtain⟨e,q⟩:=x;exact⟨k _ _ (.inl rfl) e,ih q⟩
 |tbl ps=>have e:h.get? a=some {cls:=.none,data:=.fields ps}:=x;show h'.get? a=some {cls:=.none,data:=.fields ps};exact k a _ (.inl rfl) e
 |met f y=>have e:h.get? a=some (PySem.W.methodObj (.ref f) (.ref y)):=x;show h'.get? a=some (PySem.W.methodObj (.ref f) (.ref y));exact k a _ (.inl rfl) e
 |ext φ=>obtain⟨p,⟨o,e⟩,A⟩:=x;exact fY (A _ _ p λo q=>k _ _ (.inl rfl) q) ⟨o,k _ _ (.inl rfl) e⟩ A
theorem HOk.lt(x:HOk P w H h)(e:H a=some o):a<h.objs.size:=(x a o e).lt
theorem HOk.fresh(x:HOk P w H h)(e:h.objs.size<=a):H a=none:=by
 cases q:H a with
 |none=>rfl
 |some u=>exact absurd (kB (x.lt q) e) (Nat.lt_irrefl _)
theorem HOk.kept(x:HOk P w H h)(k:∀b u,h.get? b=some u->h'.get? b=some u):HOk P w H h':=λa o e=>(x a o e).stay (λb u _ q=>k b u q) (λ_ q=>q) λ_ _ q=>q
theorem HOk.laid(x:HOk P w H h)(k:∀b u,h.get? b=some u->h'.get? b=some u)(g:h.objs.size<=a)(d:A1g P w (upd H a o) h' a o):HOk P w (upd H a o) h':=λb u e=>by
 have f:=x.fresh g;by_cases hb:b=a
 ·subst hb;rw[ee]at e;cases e;exact d
 ·rw[dF hb]at e;exact(x b u e).stay (λc v _ q=>k c v q) (λc q=>by rw[dF (ga q f)];exact q) λc i q=>by rw[dF (ga q f)];exact q
end
def Rd(H:Hp)(a:zW)(u:HO):Prop:=H a=some u\/∃o,H a=some (.frz o u)
theorem Rd.ok{P:yB}{w:yD}{H:Hp}{h:yA}{a:zW}{u:HO}(r:Rd H a u)(x:HOk P w H h):A1g P w H h a u:=by
 rcases r with r|⟨o,r⟩
 ·exact x a u r
 ·obtain⟨_,q⟩:=x a _ r;exact q
def Mut:Option HO->Prop|some (.lst _)=>True|some (.dK _)=>True|some (.dT _)=>True|some (.set _ _)=>True|some (.ins _ _ _)=>True|some (.ext _)=>True|_=>False
section
variable{P:yB}{w:yD}{H:Hp}{h h':yA}{x e:zW}{o':HO}
theorem HOk.write(p:HOk P w H h)(g:Mut (H x))(n:e=x\/H e=some (.own x))(k:∀b u,b≠e->h.get? b=some u->h'.get? b=some u)(l:∃u,h'.get? e=some u)
  (j:A1g P w (upd H x o') h' x o'):HOk P w (upd H x o') h':=λb u q=>by
 have a:∀c y,H c=some (.own y)->c≠x:=λc y r z=>by subst z;rw[r]at g;exact g
 have d:∀c i,H c=some (.tup i)->c≠x:=λc i r z=>by subst z;rw[r]at g;exact g
 by_cases hb:b=x
 ·subst hb;rw[ee]at q;cases q;exact j
 ·rw[dF hb]at q;by_cases hbe:b=e
  ·have m:H b=some (.own x):=by
    rcases n with z|z
    ·exact absurd (hbe.trans z) hb
    ·rw[hbe];exact z
   rw[q]at m;cases m;obtain⟨v,o⟩:=l;exact⟨v,by rw[hbe];exact o⟩
  ·refine(p b u q).stay (λc v f r=>k c v ?_ r) (λc r=>by rw[dF (a c b r)];exact r) λc i r=>by rw[dF (d c i r)];exact r
   rcases f with rfl|f
   ·exact hbe
   ·rintro rfl;rcases n with z|z
    ·exact a c b f z
    ·rw[f]at z;cases z;exact hb rfl
end
structure Un(fs ex:zQ)(H H':Hp)(h h':yA):Prop where
 keep:∀b o,h.get? b=some o->H b=none->b∉fs->b∉ex->h'.get? b=some o
 slot:∀b o,h.get? b=some o->H b=none->b∈fs->b∉ex->∃sl,h'.get? b=some {o with slots:=sl}
 free:∀b o,h.get? b=some o->H b=none->b∉ex->H' b=none
 there:∀b o,h.get? b=some o->b∉ex->∃o',h'.get? b=some o'
 tups:∀b xs,H b=some (.tup xs)->H' b=some (.tup xs)
 frzs:∀b o u,H b=some (.frz o u)->H' b=some (.frz o u)
 tbls:∀b ps,H b=some (.tbl ps)->∃more,H' b=some (.tbl (ps++more))
section
variable{fs fs' ex ex':zQ}{H H1 H2:Hp}{h h1 h2 h':yA}{a x e:zW}{o:HO}
theorem Un.any(u:Un fs ex H H1 h h1){b:zW}{a:Obj}(q:h.get? b=some a)(n:H b=none)(c:b∉ex):∃sl,h1.get? b=some {a with slots:=sl}:=by
 by_cases hb:b∈fs
 ·exact u.slot b a q n hb c
 ·exact⟨a.slots,u.keep b a q n hb c⟩
theorem Un.kept(k:∀b u,h.get? b=some u->h'.get? b=some u):Un fs ex H H h h' :=⟨λb a q _ _ _=>k b a q,λb a q _ _ _=>⟨a.slots,k b a q⟩,λ_ _ _ n _=>n,λb a q _=>⟨a,k b a q⟩,λ_ _ q=>q,λ_ _ _ q=>q,λ_ c q=>⟨#[],by rw[q];simp⟩⟩
theorem Un.refl:Un fs ex H H h h:=Un.kept λ_ _ q=>q
theorem Un.laid(k:∀b u,h.get? b=some u->h'.get? b=some u)(d:h.objs.size<=a)(c:H a=none):Un fs ex H (upd H a o) h h' where
 keep:=λb u q _ _ _=>k b u q
 slot:=λb u q _ _ _=>⟨u.slots,k b u q⟩
 free:=λb u q n _=>by rw[dF (jq (kB (gN q) d))];exact n
 there:=λb u q _=>⟨u,k b u q⟩
 tups:=λb e q=>by rw[dF (ga q c)];exact q
 frzs:=λb u e q=>by rw[dF (ga q c)];exact q
 tbls:=λb f q=>⟨#[],by rw[dF (ga q c),q];simp⟩
theorem Un.write(a:Mut (H x))(j:e=x\/H e=some (.own x))(k:∀b u,b≠e->h.get? b=some u->h'.get? b=some u)(d:∃u,h'.get? e=some u):Un fs ex H (upd H x o) h h':=by
 have g:∀b,H b=none->b≠x:=λb n z=>by subst z;rw[n]at a;exact a
 have f:∀b,H b=none->b≠e:=λb n z=>by
  subst z;rcases j with r|r
  ·exact g b n r
  ·rw[n]at r;cases r
 have c:∀b u,H b=some u->¬Mut (some u)->b≠x:=λb u q i z=>by subst z;rw[q]at a;exact i a
 refine⟨λb u q n _ _=>k b u (f b n) q,λb u q n _ _=>⟨u.slots,k b u (f b n) q⟩,λb u q n _=>by rw[dF (g b n)];exact n,λb u q _=>?_,
  λb l q=>by rw[dF (c b _ q λz=>z)];exact q,λb u l q=>by rw[dF (c b _ q λz=>z)];exact q,λb m q=>⟨#[],by rw[dF (c b _ q λz=>z),q];simp⟩⟩
 by_cases hbe:b=e
 ·subst hbe;exact d
 ·exact⟨u,k b u hbe q⟩
end
def trk(h:yA)(H:Hp):zQ:=(List.range h.objs.size).filter λa=>(H a).isSome
def nw(h:yA)(H:Hp):yA:=hideAll h (trk h H)
theorem Gv(h:yA)(H:Hp):(nw h H).objs.size=h.objs.size:=PySem.W.hideAll_size _ _
theorem Ex{h:yA}{H:Hp}{b:zW}{o:Obj}(e:h.get? b=some o)(n:H b=none):(nw h H).get? b=some o :=PySem.W.hideAll_get _ e λa=>by have q:(H b).isSome=true:=(List.mem_filter.mp a).2;rw[n]at q;simp at q
theorem DU{h:yA}{H:Hp}{b:zW}{o:Obj}(e:(nw h H).get? b=some o):h.get? b=some o/\H b=none:=by
 have a:h.get? b=some o:=PySem.W.of_hideAll (trk h H) e;refine⟨a,?_⟩
 cases q:H b with
 |none=>rfl
 |some x=>have c:b∈trk h H:=List.mem_filter.mpr ⟨List.mem_range.mpr (gN a),by simp[q]⟩;have z:(nw h H).get? b=none:=PySem.W.hideAll_none (trk h H) c;rw[z]at e;cases e
structure Mod(K:Frag)(mg:zE)(base:yA):Prop where
 kin:K.In base
 glob:base.Ns mainGlobals mg
 blt:∃mb,base.Ns builtinsNs mb/\∀x:Str,x≠"__name__"->mb x=bootBuiltins x
 nolimit:base.NoLimit
structure Cx where
 prog:yB
 w:yD
 K:Frag
 mg:Str->Option zX
 base:yA
 A:zZ
 N:zC
 s₀:zY
 H₀:Hp
 env:Env
 outer:List Env
 stack:List Env
 ex:zQ
 fn:Str->Bool
 calm:Bool
 pn:zD
 xe:zX->zY->Prop
def frs(l:List Env):zQ:=l.filterMap (·.frame)
abbrev Cx.fs(X:Cx):zQ:=frs X.outer
def Vis(a:Scope)(x:Str):Prop:=a.names.lookup x=some .local\/a.names.lookup x=some .cell\/a.names.lookup x=some .free
def Loc(a:Scope)(x:Str):Prop:=a.names.lookup x=some .local\/a.names.lookup x=some .cell
def Look(a:Env)(h:yA)(m:zE)(x:Str)(u:zX):Prop :=(a.kindOf x=some .local/\m x=some u)\/((a.kindOf x=some .cell\/a.kindOf x=some .free)/\∃c,a.cells.lookup x=some c/\h.IsCell c (some u))
structure Cx.Ok(X:Cx):Prop where
 mod:Mod X.K X.mg X.base
 kind:X.env.scope.kind=.function
 glob:X.env.globals=mainGlobals
 blt:X.env.builtins=builtinsNs
 above:X.s₀.heap.objs.size<=X.env.locals
 inj:∀x y c,X.env.cells.lookup x=some c->X.env.cells.lookup y=some c->x=y
 has:∀x,(X.env.kindOf x=some .cell\/X.env.kindOf x=some .free)->∃c,X.env.cells.lookup x=some c
 cab:∀x c,X.fn x=true->X.env.cells.lookup x=some c->X.s₀.heap.objs.size<=c
 hd:X.calm=true->X.A.handled=none
 frames:X.A.frames=some X.stack
 stk:X.stack=X.outer\/(X.stack=X.env::X.outer/\X.env.frame=some X.env.locals)
 exf:∀b∈X.ex,b≠X.env.locals/\∀x c,X.env.cells.lookup x=some c->c≠b
 bs:∀b o,X.base.get? b=some o->X.s₀.heap.get? b=some o/\X.H₀ b=none
 bsz:X.base.objs.size<=X.s₀.heap.objs.size
 noex:∀b o,X.base.get? b=some o->b∉X.ex
 exfs:∀b∈X.ex,b∉X.fs
 funs:X.s₀.heap.FunFrames X.base X.outer
 frf:∀b∈X.fs,X.H₀ b=none
structure Inv(X:Cx)(pins:zD)(Z:List zP)(H:Hp)(s:zY):Prop where
 ok:X.Ok
 os:s.os=X.s₀.os
 bare:AllBare s.gens
 base:Un X.fs X.ex X.H₀ H X.s₀.heap s.heap
 loc:∃m,s.heap.Ns X.env.locals m/\∀(i:Nat)(x:Str)(v:V),X.N[i]?=some x->Z[i]?=some (some v)->Vis X.env.scope x->∃u,A2c v u/\Look X.env s.heap m x u
 cell:∀x c,X.env.cells.lookup x=some c->∃v,s.heap.IsCell c v
 free:H X.env.locals=none
 freeC:∀x c,X.env.cells.lookup x=some c->H c=none
 pin:∀p∈X.pn++pins,s.heap.get? p.1=some p.2/\H p.1=none/\p.1≠X.env.locals/\p.1∉X.fs/\∀v,p.2.data≠.cell v
 hok:HOk X.prog X.w H s.heap
 len:Z.length=X.N.length
section
variable{X:Cx}{pins:zD}{Z:List zP}{H H':Hp}{s:zY}{h':yA}
theorem Cx.Ok.nofr(c:X.Ok){b:zW}{o:Obj}(e:X.base.get? b=some o):b∉X.fs:=λa=>by have:=(c.funs.mem a).1;rw[e]at this;cases this
theorem Inv.bs(I:Inv X pins Z H s):∀b o,X.base.get? b=some o->s.heap.get? b=some o/\H b=none:=λb o e=>⟨I.base.keep b o (I.ok.bs b o e).1 (I.ok.bs b o e).2 (I.ok.nofr e) (I.ok.noex b o e),I.base.free b o (I.ok.bs b o e).1 (I.ok.bs b o e).2 (I.ok.noex b o e)⟩
theorem Inv.bk(I:Inv X pins Z H s):∀b o,X.base.get? b=some o->s.heap.get? b=some o:=λb o e=>(I.bs b o e).1
theorem Inv.mod(I:Inv X pins Z H s):Mod X.K X.mg X.base:=I.ok.mod
theorem Inv.kIn(I:Inv X pins Z H s):X.K.In s.heap:=I.ok.mod.kin.keeps I.bk
theorem Inv.lt(I:Inv X pins Z H s):X.env.locals<s.heap.objs.size:=let⟨_,hn,_⟩:=I.loc;hn.lt
theorem Inv.sz(I:Inv X pins Z H s):X.s₀.heap.objs.size<=s.heap.objs.size:=kX I.ok.above (Nat.le_of_lt I.lt)
theorem Inv.nofs(I:Inv X pins Z H s){a:zW}(h:s.heap.objs.size<=a):a∉X.fs:=λb=>by obtain⟨_,o,c,_⟩:=I.ok.funs.mem b;exact absurd (kB (gN c) (kX I.sz h)) (Nat.lt_irrefl _)
theorem Inv.cne(I:Inv X pins Z H s):∀x c,X.env.cells.lookup x=some c->c≠X.env.locals:=λx c e z=>by obtain⟨v,o,f,d⟩:=I.cell x c e;obtain⟨m,⟨i,h,g,a,b,_⟩,_⟩:=I.loc;rw[z,a]at f;cases f;rw[b]at d;cases d
theorem Inv.funs(I:Inv X pins Z H s):s.heap.FunFrames X.base X.outer:=by
 have d:∀(l:List Env),(∀b∈frs l,b∈X.fs)->X.s₀.heap.FunFrames X.base l->s.heap.FunFrames X.base l:=by
  intro l
  induction l with
  |nil=>intro _ _;trivial
  |cons env r ih=>intro g j;obtain⟨n,⟨L,o,f,m,i,h⟩,k⟩:=j;have a:L∈X.fs:=g L (by unfold frs;rw[List.filterMap_cons,f];exact lD);obtain⟨p,e⟩:=I.base.slot L o i (I.ok.frf L a) a λz=>I.ok.exfs L z a;exact fY n (im L _ f m e h) (ih (λb c=>g b (by unfold frs;rw[List.filterMap_cons,f];exact lF _ c)) k)
 exact d X.outer (λ_ c=>c) I.ok.funs
theorem Inv.stack(I:Inv X pins Z H s):s.heap.FunFrames X.base X.stack:=by
 rcases I.ok.stk with e|⟨e,b⟩
 ·rw[e];exact I.funs
 ·rw[e];obtain⟨m,a,_⟩:=I.loc;refine .cons (by rw[I.ok.kind];decide) b a ?_ I.funs;exact Heap.get?_none_of_le (kX I.ok.bsz I.ok.above)
theorem Inv.stkSub(I:Inv X pins Z H s):∀b∈frs X.stack,b∈X.env.locals::X.fs:=λb a=>by
 rcases I.ok.stk with e|⟨e,c⟩
 ·rw[e]at a;exact lF _ a
 ·rw[e]at a;unfold frs at a;rw[List.filterMap_cons,c]at a;exact a
theorem Inv.stkFree(I:Inv X pins Z H s):∀b∈frs X.stack,H b=none:=λb a=>by
 rcases gY.mp (I.stkSub b a)with e|a
 ·rw[e];exact I.free
 ·obtain⟨_,o,c,_⟩:=I.ok.funs.mem a;exact I.base.free b o c (I.ok.frf b a) λz=>I.ok.exfs b z a
theorem Inv.step{g':Array GenState}{t':Nat}{d':Drawn}{ch:zQ}(I:Inv X pins Z H s)
  (j:∀b∈ch,(b∈X.ex\/X.s₀.heap.objs.size<=b)/\b≠X.env.locals/\(∀x c,X.env.cells.lookup x=some c->c≠b)/\∀p∈X.pn++pins,p.1≠b)
  (g:∀b o,b≠X.env.locals->b∉X.fs->b∉ch->s.heap.get? b=some o->H b=none->h'.get? b=some o)
  (B:∀b o,b≠X.env.locals->b∈X.fs->b∉ch->s.heap.get? b=some o->H b=none->∃sl,h'.get? b=some {o with slots:=sl}) (f:∀b o,b∉ch->s.heap.get? b=some o->H b=none->H' b=none)
  (C:∀b o,b∉ch->s.heap.get? b=some o->∃o',h'.get? b=some o')
  (G:∀b xs,H b=some (.tup xs)->H' b=some (.tup xs)) (J:∀b o u,H b=some (.frz o u)->H' b=some (.frz o u)) (N:∀b ps,H b=some (.tbl ps)->∃M,H' b=some (.tbl (ps++M)))
  (ns:∀m,s.heap.Ns X.env.locals m->h'.Ns X.env.locals m) (P:HOk X.prog X.w H' h') (W:AllBare g'):
  Inv X pins Z H' {s with heap:=h',gens:=g',drawn:=d',toks:=t'}:=by
 have L:∀b o,X.s₀.heap.get? b=some o->b≠X.env.locals:=λb o e=>jq (kB (gN e) I.ok.above)
 have A:∀b o,X.s₀.heap.get? b=some o->b∉X.ex->b∉ch:=λb o e a D=>by
  rcases(j b D).1 with z|z
  ·exact a z
  ·exact absurd (kB (gN e) z) (Nat.lt_irrefl _)
 have h:∀x c,X.env.cells.lookup x=some c->∀v,s.heap.IsCell c v->h'.IsCell c v:=λx c e v ⟨o,F,O⟩=>by
  have t:c∉ch:=λz=>(j c z).2.2.1 x c e rfl;by_cases hc:c∈X.fs
  ·obtain⟨sl,q⟩:=B c o (I.cne x c e) hc t F (I.freeC x c e);exact al _ q O
  ·exact al o (g c o (I.cne x c e) hc t F (I.freeC x c e)) O
 refine⟨I.ok,I.os,W,⟨λb o e n D a=>?_,λb o e n D a=>?_,λb o e n a=>?_,λb o e a=>?_,λb xs e=>G b xs (I.base.tups b xs e),λb o xs e=>J b o xs (I.base.frzs b o xs e),λb ps e=>?_⟩,?_,λx c e=>?_,?_,λx c e=>?_,λp R=>?_,P,I.len⟩
 ·exact g b o (L b o e) D (A b o e a) (I.base.keep b o e n D a) (I.base.free b o e n a)
 ·obtain⟨sl,y⟩:=I.base.slot b o e n D a;obtain⟨Q,K⟩:=B b _ (L b o e) D (A b o e a) y (I.base.free b o e n a);exact⟨Q,K⟩
 ·obtain⟨o',y⟩:=I.base.there b o e a;exact f b o' (A b o e a) y (I.base.free b o e n a)
 ·obtain⟨o',y⟩:=I.base.there b o e a;exact C b o' (A b o e a) y
 ·obtain⟨m1,y⟩:=I.base.tbls b ps e;obtain⟨U,K⟩:=N b _ y;exact⟨m1++U,by rw[K,Array.append_assoc]⟩
 ·obtain⟨m,E,Y⟩:=I.loc;refine al m (ns m E) λi x v y K e3=>?_;obtain⟨u,r,l⟩:=Y i x v y K e3;refine al u r ?_;rcases l with l|⟨k,c,e,z⟩
  ·exact .inl l
  ·exact .inr (gF k c e (h x c e _ z))
 ·obtain⟨v,z⟩:=I.cell x c e;exact⟨v,h x c e v z⟩
 ·obtain⟨m,⟨o,_,_,F,_⟩,_⟩:=I.loc;exact f _ o (λz=>(j _ z).2.1 rfl) F I.free
 ·obtain⟨v,o,F,O⟩:=I.cell x c e;exact f c o (λz=>(j c z).2.2.1 x c e rfl) F (I.freeC x c e)
 ·obtain⟨e,n,T,S,d⟩:=I.pin p R;have t:p.1∉ch:=λz=>(j p.1 z).2.2.2 p R rfl;exact mi (g p.1 p.2 T S t e n) (f p.1 p.2 t e n) T S d
theorem Inv.un{t':Nat}(I:Inv X pins Z H s)(u:Un X.fs [] H H' s.heap h')(f:HOk X.prog X.w H' h'):Inv X pins Z H' {s with heap:=h',toks:=t'}:=by
 obtain⟨m,⟨o,t,q,h,r⟩,_⟩:=id I.loc;obtain⟨p,i⟩:=u.any h I.free (by simp)
 exact I.step (g':=s.gens) (d':=s.drawn) (ch:=[]) (λ_ z=>nomatch z) (λb o _ d _ e n=>u.keep b o e n d (by simp)) (λb o _ d _ e n=>u.slot b o e n d (by simp)) (λb o _ e n=>u.free b o e n (by simp)) (λb o _ e=>u.there b o e (by simp)) u.tups u.frzs u.tbls (λl j=>by
  obtain⟨v,g,c,a,k⟩:=j;rw[h]at a;cases a
  exact jn _ g c i k) f I.bare
theorem Inv.call{g':Array GenState}{t':Nat}{d':Drawn}{ch:zQ}(I:Inv X pins Z H s)(u:Un (frs X.stack) ch H H' s.heap h')(h:HOk X.prog X.w H' h')(v:AllBare g')
  (f:∀b∈ch,(b∈X.ex\/X.s₀.heap.objs.size<=b)/\b≠X.env.locals/\(∀x c,X.env.cells.lookup x=some c->c≠b)/\∀p∈X.pn++pins,p.1≠b):
  Inv X pins Z H' {s with heap:=h',gens:=g',drawn:=d',toks:=t'}:=by
 obtain⟨m,⟨o,D,C,k,r⟩,_⟩:=id I.loc;obtain⟨B,g⟩:=u.any k I.free λz=>(f _ z).2.1 rfl
 exact I.step (ch:=ch) f (λb o g l a e n=>u.keep b o e n (λz=>(gY.mp (I.stkSub b z)).elim g l) a) (λb o _ _ a e n=>u.any e n a) (λb o a e n=>u.free b o e n a) (λb o a e=>u.there b o e a) u.tups u.frzs u.tbls (λy q=>by
  obtain⟨A,i,j,d,t⟩:=q;rw[k]at d;cases d
  exact jn _ i j g t) h v
theorem Inv.turned{t':Nat}{it:zW}(I:Inv X pins Z H s)(k:∀b o,b≠it->s.heap.get? b=some o->h'.get? b=some o)(l:H it=none)(f:it≠X.env.locals)
  (h1:it∈X.ex\/X.s₀.heap.objs.size<=it) (h2:∀x c,X.env.cells.lookup x=some c->c≠it) (j:∀p∈X.pn++pins,p.1≠it):Inv X pins Z H {s with heap:=h',toks:=t'}:=by
 have d:∀b u,H b=some u->b≠it:=λb u e z=>by rw[z,l]at e;cases e
 refine I.step (g':=s.gens) (d':=s.drawn) (ch:=[it]) (λb g=>?_) (λb o _ _ a e _=>k b o (λz=>a (by simp[z])) e) (λb o _ _ a e _=>⟨o.slots,k b o (λz=>a (by simp[z])) e⟩) (λ_ _ _ _ n=>n)
  (λb o a e=>⟨o,k b o (λz=>a (by simp[z])) e⟩) (λ_ _ e=>e) (λ_ _ _ e=>e) (λb y e=>⟨#[],by rw[e];simp⟩) (λm h=>?_) (λb u e=>?_) I.bare
 ·have e:b=it:=by simpa using g
  subst e;exact ip h1 f h2 j
 ·obtain⟨o,w,t,i,r⟩:=h;exact jn o w t (k _ o (Ne.symm f) i) r
 ·refine(I.hok b u e).stay (λc v a q=>k c v ?_ q) (λ_ q=>q) λ_ _ q=>q;rcases a with z|z
  ·rw[z];exact d b u e
  ·exact d c _ z
theorem Inv.tok(I:Inv X pins Z H s)(t:Nat):Inv X pins Z H {s with toks:=t}:=I.un (h':=s.heap) (t':=t) Un.refl I.hok
theorem Inv.kept{t':Nat}(I:Inv X pins Z H s)(k:∀b u,s.heap.get? b=some u->h'.get? b=some u):Inv X pins Z H {s with heap:=h',toks:=t'}:=I.un (Un.kept k) (I.hok.kept k)
theorem Inv.laid{a:zW}{o:HO}{t':Nat}(I:Inv X pins Z H s)(k:∀b u,s.heap.get? b=some u->h'.get? b=some u)(d:s.heap.objs.size<=a)(c:A1g X.prog X.w (upd H a o) h' a o):
  Inv X pins Z (upd H a o) {s with heap:=h',toks:=t'}:=I.un (Un.laid k d (I.hok.fresh d)) (I.hok.laid k d c)
theorem Inv.write{x e:zW}{o:HO}{t':Nat}(I:Inv X pins Z H s)(f:Mut (H x))(d:e=x\/H e=some (.own x))(k:∀b u,b≠e->s.heap.get? b=some u->h'.get? b=some u)(a:∃u,h'.get? e=some u)
  (c:A1g X.prog X.w (upd H x o) h' x o):Inv X pins Z (upd H x o) {s with heap:=h',toks:=t'}:=I.un (Un.write f d k a) (I.hok.write f d k a c)
theorem Inv.weak{Z':List zP}(I:Inv X pins Z H s)(a:Z'.length=Z.length)(w:∀(i:Nat) v,Z'[i]?=some (some v)->Z[i]?=some (some v)):Inv X pins Z' H s :=⟨I.ok,I.os,I.bare,I.base,let⟨m,hn,hl'⟩:=I.loc;(al m hn λi x v d b c=>hl' i x v d (w i v b) c),I.cell,I.free,I.freeC,I.pin,I.hok,a.trans I.len⟩
theorem Inv.pins_of{a:zD}(I:Inv X pins Z H s)(h:∀p∈a,s.heap.get? p.1=some p.2/\H p.1=none/\p.1≠X.env.locals/\p.1∉X.fs/\∀v,p.2.data≠.cell v):Inv X a Z H s :=⟨I.ok,I.os,I.bare,I.base,I.loc,I.cell,I.free,I.freeC,λp b=>(iQ.mp b).elim (λz=>I.pin p (nT _ z)) (h p),I.hok,I.len⟩
theorem yg{N:zC}(d:N.Nodup){i j:Nat}{x:Str}(a:N[i]?=some x)(b:N[j]?=some x):i=j:=by obtain⟨g,e⟩:=gG.mp a;obtain⟨f,c⟩:=gG.mp b;exact(List.getElem_inj d).mp (e.trans c.symm)
theorem yT{M:Model}{A:zZ}{E:zA}{i:Nat}{x:Str}{v:V}{u:zX}{Q:Unit->zY->Prop}(I:Inv X pins Z H s)(hN:X.N.Nodup)(hi:X.N[i]?=some x)(B:Loc X.env.scope x)(r:A2c v u)
  (h:∀s',Inv X pins (Z.set i (some v)) H s'->(∃a,Heap.SameBut a s.heap s'.heap/\(a=X.env.locals\/X.env.cells.lookup x=some a))->Q () s') (hf:X.fn x=true\/X.env.scope.names.lookup x=some .local:=by first|exact .inl rfl|exact .inr rfl|assumption):wpAny M A (storeName X.env x u) Q E s:=by
 obtain⟨m,hn,hl⟩:=id I.loc;have O:(X.env.scope.kind==.class||(X.env.scope.kind==.module&&X.env.locals != X.env.globals))=false:=by rw[I.ok.kind];rfl
 have L:i<Z.length:=by rw[I.len];exact(gG.mp hi).1
 have G:=I.cne
 have l:∀{a:zW}{h':yA},(∃o,s.heap.get? a=some o/\H a=none)->Heap.SameBut a s.heap h'->HOk X.prog X.w H h':=λ{a h'} ha f b ob e=>by
  obtain⟨_,_,C⟩:=ha;refine(I.hok b ob e).stay (λc U t q=>(f.2 c ?_).trans q) (λ_ q=>q) λ_ _ q=>q;rintro rfl;rcases t with rfl|t
  ·rw[C]at e;cases e
  ·rw[C]at t;cases t
 rcases B with F|F
 ·refine wpAny_storeName_local F hn (λh' a1 f=>?_) O;obtain⟨oL,_,_,a0,_⟩:=id hn;refine h _ ⟨I.ok,I.os,I.bare,⟨λb o e n J B=>?_,λb o e n J B=>?_,I.base.free,λb o e B=>?_,I.base.tups,I.base.frzs,I.base.tbls⟩,(al _ a1 λj y Y g D e3=>?_),λy c e=>?_,I.free,I.freeC,λp hp=>?_,l (al oL a0 I.free) f,by simpa using I.len⟩ (al _ f (.inl rfl))
  ·exact(f.2 b (jq (kB (gN e) I.ok.above))).trans (I.base.keep b o e n J B)
  ·obtain⟨sl,g⟩:=I.base.slot b o e n J B;exact⟨sl,(f.2 b (jq (kB (gN e) I.ok.above))).trans g⟩
  ·obtain⟨o',g⟩:=I.base.there b o e B;exact⟨o',(f.2 b (jq (kB (gN e) I.ok.above))).trans g⟩
  ·by_cases hj:j=i
   ·subst hj;rw[hi]at g;cases g;rw[tK L]at D;cases D;exact al u r (.inl ⟨F,by simp⟩)
   ·rw[tJ (Ne.symm hj)]at D;obtain⟨u',r',q⟩:=hl j y Y g D e3;refine al u' r' ?_;rcases q with ⟨k,e⟩|⟨k,c,e,z⟩
    ·refine .inl ⟨k,?_⟩;have:y≠x:=λe=>hj (yg hN g (e▸hi));simp[this,e]
    ·exact .inr (gF k c e (z.sameBut f (G y c e)))
  ·obtain⟨U,z⟩:=I.cell y c e;exact⟨U,z.sameBut f (G y c e)⟩
  ·obtain⟨e,n,W,nf,d⟩:=I.pin p hp;exact mi ((f.2 p.1 W).trans e) n W nf d
 ·have K:X.fn x=true:=by
   rcases hf with z|z
   ·exact z
   ·rw[z]at F;cases F
  obtain⟨c,t⟩:=I.ok.has x (.inl F);obtain⟨U,z⟩:=I.cell x c t;refine wpAny_storeName_cell I.ok.kind F t z (λh' P f=>?_);obtain⟨oc,R,S⟩:=id z;refine h {s with heap:=h'} ⟨I.ok,I.os,I.bare,⟨λb o e n J B=>?_,λb o e n J B=>?_,I.base.free,λb o e B=>?_,I.base.tups,I.base.frzs,I.base.tbls⟩,(al m (hn.sameBut f (Ne.symm (G x c t))) λj y Y g D e3=>?_),λy T e=>?_,I.free,I.freeC,λp hp=>?_,l (al oc R (I.freeC x c t)) f,by simpa using I.len⟩ (al c f (.inr t))
  ·exact(f.2 b (jq (kB (gN e) (I.ok.cab x c K t)))).trans (I.base.keep b o e n J B)
  ·obtain⟨sl,g⟩:=I.base.slot b o e n J B;exact⟨sl,(f.2 b (jq (kB (gN e) (I.ok.cab x c K t)))).trans g⟩
  ·obtain⟨o',g⟩:=I.base.there b o e B;exact⟨o',(f.2 b (jq (kB (gN e) (I.ok.cab x c K t)))).trans g⟩
  ·by_cases hj:j=i
   ·subst hj;rw[hi]at g;cases g;rw[tK L]at D;cases D;exact al u r (.inr (gF (.inl F) c t P))
   ·rw[tJ (Ne.symm hj)]at D;obtain⟨u',r',q⟩:=hl j y Y g D e3;refine al u' r' ?_;rcases q with q|⟨k,T,e,z'⟩
    ·exact .inl q
    ·refine .inr (gF k T e (z'.sameBut f ?_));rintro rfl;exact hj (yg hN g (I.ok.inj _ _ _ e t▸hi))
  ·by_cases hcc:T=c
   ·subst hcc;exact⟨_,P⟩
   ·obtain⟨w2,z2⟩:=I.cell y T e;exact⟨w2,z2.sameBut f hcc⟩
  ·obtain⟨e,n,W,nf,d⟩:=I.pin p hp;refine mi ((f.2 p.1 ?_).trans e) n W nf d;intro q;rw[q,R]at e;have q':oc=p.2:=je e;exact d U (by rw[<-q'];exact S)
theorem yr{M:Model}{A:zZ}{E:zA}{i:Nat}{x:Str}{v:V}{u:zX}{Q:Unit->zY->Prop}(I:Inv X pins Z H s)(b:X.N.Nodup)(hi:X.N[i]?=some x)(c:Loc X.env.scope x)(r:A2c v u)
  (h:∀s',Inv X pins (Z.set i (some v)) H s'->Q () s') (a:X.fn x=true\/X.env.scope.names.lookup x=some .local:=by first|exact .inl rfl|exact .inr rfl|assumption):wpAny M A (storeName X.env x u) Q E s :=
 yT I b hi c r (λs' I' _=>h s' I') a
theorem Inv.call'{s':zY}{ch:zQ}(I:Inv X pins Z H s)(g:s'.os=s.os)(u:Un (frs X.stack) ch H H' s.heap s'.heap)(a:HOk X.prog X.w H' s'.heap)(f:AllBare s'.gens)
  (d:∀b∈ch,(b∈X.ex\/X.s₀.heap.objs.size<=b)/\b≠X.env.locals/\(∀x c,X.env.cells.lookup x=some c->c≠b)/\∀p∈X.pn++pins,p.1≠b):Inv X pins Z H' s':=by
 obtain⟨i,g',d',t',h⟩:=s';have e:h=s.os:=g;subst e;exact I.call (g':=g') (t':=t') (d':=d') u a f d
end
abbrev XK:=zX->Option zW->Hp->Prop
abbrev St:=List zP
variable{α:Type}{ys xs dvs:zM}{y:V}{x qual name m:Str}{w:yD}{value tg l iter e c b:yC}{v u pm oc ct cd:zX}{tpos pos' p kpos apos:Pos}{tn:Nat->yA->Prop}{s1 s' s:zY}{ps ks N:zC}{prog P:yB}{pins:zD}{op:CmpOp}{od an:zO}{nm:Option Str}{n j i:Nat}{mA:zE}{lo hi:Int}{kws:List Keyword}{it dx a C:zW}{h' h:yA}{gV:zM->List V->List V}{fd:zS}{es:zT}{ds:zH}{Z:St}{X:Cx}{pos:Pos}{T:String}{Q E:zA}{M:Model}{K:Frag}{H' H:Hp}{A:zZ}
abbrev VK:=V->Hp->Prop
abbrev TE:=St->Hp->VK->Prop
abbrev TT:=St->Hp->(Bool->Hp->Prop)->Prop
abbrev TA:=St->Hp->(zM->Hp->Prop)->Prop
structure lZ where
 nx:St->Hp->Prop
 rt:VK
 bk:St->Hp->Prop:=λ_ _=>False
 ct:St->Hp->Prop:=λ_ _=>False
abbrev TS:=lZ->St->Hp->Prop
def EP(X:Cx)(pins:zD)(Z:St)(Q:VK)(u:zX)(s':zY):Prop:=∃v a,Inv X pins Z a s'/\A2c v u/\Q v a
def TP(X:Cx)(pins:zD)(Z:St)(Q:Bool->Hp->Prop)(b:Bool)(s':zY):Prop:=∃a,Inv X pins Z a s'/\Q b a
def AP(X:Cx)(pins:zD)(Z:St)(Q:zM->Hp->Prop)(us:zH)(s':zY):Prop:=∃a b,Inv X pins Z b s'/\A2f a us/\Q a b
def SP(X:Cx)(pins:zD)(D:lZ)(f:Flow)(s':zY):Prop :=
 match f with
 |.next=>∃Z' a,Inv X pins Z' a s'/\D.nx Z' a
 |.brk=>∃Z' a,Inv X pins Z' a s'/\D.bk Z' a
 |.cont=>∃Z' a,Inv X pins Z' a s'/\D.ct Z' a
 |.ret u=>∃v Z' a,Inv X pins Z' a s'/\A2c v u/\D.rt v a
def PE(X:Cx)(e:yC)(t:TE):Prop :=∀(a:zD)(s:zY)(Z:St)(H:Hp)(Q:VK),Inv X a Z H s->t Z H Q->wpAny (model X.prog X.w) X.A (eval e X.env) (EP X a Z Q) X.xe s
def PT(X:Cx)(e:yC)(t:TT):Prop :=∀(a:zD)(s:zY)(Z:St)(H:Hp)(Q:Bool->Hp->Prop),Inv X a Z H s->t Z H Q->wpAny (model X.prog X.w) X.A (isTrue e X.env (eval e X.env)) (TP X a Z Q) X.xe s
def PW(X:Cx)(e:yC)(t:TT):Prop :=∀(b:Sem zX)(a:zD)(s:zY)(Z:St)(H:Hp)(Q:Bool->Hp->Prop),Inv X a Z H s->t Z H Q->wpAny (model X.prog X.w) X.A (isTrue e X.env b) (TP X a Z Q) X.xe s
theorem PW.pt{t:TT}(h:PW X e t):PT X e t:=h _
def PA(X:Cx)(es:zT)(t:TA):Prop :=∀(b:Pos)(a:zD)(s:zY)(Z:St)(H:Hp)(Q:zM->Hp->Prop),Inv X a Z H s->t Z H Q->wpAny (model X.prog X.w) X.A (spliced (backTo b (starEach es X.env))) (AP X a Z Q) X.xe s
def PS(X:Cx)(st:Stmt)(t:TS):Prop :=∀(a:zD)(s:zY)(Z:St)(H:Hp)(D:lZ),Inv X a Z H s->t D Z H->wpAny (model X.prog X.w) X.A (exec st X.env) (SP X a D) X.xe s
def PSs(X:Cx)(st:List Stmt)(t:TS):Prop :=∀(a:zD)(s:zY)(Z:St)(H:Hp)(D:lZ),Inv X a Z H s->t D Z H->wpAny (model X.prog X.w) X.A (execs st X.env) (SP X a D) X.xe s
theorem thn{t:Sem α}{Q b:α->zY->Prop}(h:wpAny M A t Q E s)(c:∀a s,Q a s->b a s):wpAny M A t b E s:=jT h c λ_ _ x=>x
section
def pE(i:Nat):TE:=λZ H Q=>∃v,Z[i]?=some (some v)/\Q v H
def tC(v:V):TE:=λ_ H Q=>Q v H
theorem Ck(o:X.N[i]?=some x)(n:Vis X.env.scope x)(g:(x==("__debug__":Str))=false:=by decide)(j:(x==("__classdict__":Str))=false:=by decide):PE X (.Name x pos) (pE i):=by
 intro f s Z H Q I h;obtain⟨v,e,h⟩:=h;obtain⟨m,t,q⟩:=I.loc;obtain⟨u,r,l⟩:=q i x v o e n;have b:EP X f Z Q u s:=(el v H I r h);rcases l with ⟨d,p⟩|⟨d,c,k,a⟩
 ·exact wpAny_Name (wpAny_loadName_local I.ok.kind d t p b) g
 ·rcases d with d|d
  ·exact wpAny_Name (wpAny_loadName_cell I.ok.kind d k a b) g
  ·exact wpAny_Name (wpAny_loadName_free I.ok.kind d k a b j) g
theorem gh{i j pos}:PE X (.Constant (.int i) j pos) (tC (.int i)):=λ_ _ _ H _ I h=>wpAny_Constant_int (el (.int i) H (I.tok _) ⟨_,rfl⟩ h)
theorem ko{b j pos}:PE X (.Constant (.bool b) j pos) (tC (.bl b)):=λ_ _ _ H _ I h=>Constant_bool (el (.bl b) H I rfl h)
theorem gJ{x j pos}:PE X (.Constant (.str x) j pos) (tC (.str x)):=λ_ _ _ H _ I h=>Calls.Constant_str (el (.str x) H (I.tok _) ⟨_,rfl⟩ h)
def Gl(X:Cx)(x:Str):Prop:=X.env.kindOf x=some .globalImplicit
theorem uO(I:Inv X pins Z H s)(a:Gl X x)(c:X.mg x=some u)(h:Q u s)
  (b:(x==("__debug__":Str))=false:=by decide):wpAny (model X.prog X.w) X.A (eval (.Name x pos) X.env) Q E s :=
 Calls.Name_function_global I.ok.kind a (Calls.loadGlobal_global (by rw[I.ok.glob];exact I.mod.glob.keeps I.bk) c h) b
theorem nF(I:Inv X pins Z H s)(g:Gl X x)(e:X.mg x=none)(a:bootBuiltins x=some u)(h:Q u s)
  (c:x≠"__name__":=by decide) (d:(x==("__debug__":Str))=false:=by decide):wpAny (model X.prog X.w) X.A (eval (.Name x pos) X.env) Q E s:=by
 obtain⟨i,f,b⟩:=I.mod.blt;exact Calls.Name_function_global I.ok.kind g (Calls.loadGlobal_builtin (by rw[I.ok.glob];exact I.mod.glob.keeps I.bk) e (by rw[I.ok.blt];exact f.keeps I.bk) ((b x c).trans a) h) d
theorem jY{v:V}(e:Gl X x)(d:X.mg x=none)(a:bootBuiltins x=some u)(r:A2c v u)(b:x≠"__name__":=by decide)(c:(x==("__debug__":Str))=false:=by decide):PE X (.Name x pos) (tC v):=λ_ _ _ H _ I h=>nF I e d a (el v H I r h) b c
variable{a:yC}{ta tb:TE}
def PC(X:Cx)(op:CmpOp)(a b:yC)(t:TE):Prop :=
 ∀(c:zD)(s:zY)(Z:St)(H:Hp)(Q:VK),Inv X c Z H s->t Z H Q->
  wpAny (model X.prog X.w) X.A (eval a X.env) (λv e=>wpAny (model X.prog X.w) X.A (eval b X.env) (λu d=>wpAny (model X.prog X.w) X.A (compareOp op v u) (EP X c Z Q) X.xe d) X.xe e) X.xe s
def tB(t:TE):TT:=λZ H Q=>t Z H λx a=>∃c,x=.bl c/\Q c a
theorem wH{t:TE}(h:PC X op a b t)(h1:behindInMarks op b=false:=by first|exact nobehind _ (by decide) (by decide)|rfl):PT X (.Compare a [op] [b] pos) (tB t):=by intro e s Z H Q I k;refine wpAny_isTrue_Compare1 (thn (h e s Z H _ I k) λv n h1=>thn h1 λu l f=>thn f ?_) h1;rintro c m ⟨x,j,I1,i,g⟩;obtain⟨d,rfl,q⟩:=g;cases i;exact wpAny_truthy_bool (al j I1 q)
theorem iY{t:TE}(h:PE X e t)(j:∀a,isTrue e X.env a=(do let v<-a;standAt e.pos;holding [v] (truthy v)):=by intro _;rfl):PT X e (tB t):=by intro b s Z H Q I g;refine isTrue_plain (thn (h b s Z H _ I g) ?_) (j _);rintro v k ⟨x,i,I1,f,c⟩;obtain⟨d,rfl,q⟩:=c;cases f;exact wpAny_truthy_bool (al i I1 q)
variable{tA tB':TT}{rest:zT}
def tAnd(t u:TT):TT:=λZ H Q=>t Z H λc a=>if c=true then u Z a Q else Q false a
def tOr(t u:TT):TT:=λZ H Q=>t Z H λc a=>if c=true then Q true a else u Z a Q
def tNot(t:TT):TT:=λZ H Q=>t Z H λc a=>Q (! c) a
theorem su(d:PT X a tA):PW X (.BoolOp .And [a] pos) tA:=by
 intro f b s Z H Q I h;refine isTrue_and (thn (d b s Z H Q I h) λc g e=>?_)
 cases c with
 |true=>exact isTrue_and_nil e
 |false=>exact e
theorem qu(d:PT X a tA):PW X (.BoolOp .Or [a] pos) tA:=by
 intro f b s Z H Q I h;refine isTrue_or (thn (d b s Z H Q I h) λc g e=>?_)
 cases c with
 |false=>exact isTrue_or_nil e
 |true=>exact e
theorem rQ(g:PT X a tA)(j:PW X (.BoolOp .And (b::rest) pos) tB'):PW X (.BoolOp .And (a::b::rest) pos) (tAnd tA tB'):=by
 intro i d s Z H Q I h;refine isTrue_and (thn (g d s Z H _ I h) ?_);rintro c k ⟨f,I1,e⟩
 cases c with
 |true=>exact j i d k Z f Q I1 e
 |false=>exact al f I1 e
theorem mL(g:PT X a tA)(j:PW X (.BoolOp .Or (b::rest) pos) tB'):PW X (.BoolOp .Or (a::b::rest) pos) (tOr tA tB'):=by
 intro i d s Z H Q I h;refine isTrue_or (thn (g d s Z H _ I h) ?_);rintro c k ⟨f,I1,e⟩
 cases c with
 |true=>exact al f I1 e
 |false=>exact j i d k Z f Q I1 e
theorem mu(d:PT X a tA):PT X (.UnaryOp .Not a pos) (tNot tA):=by intro b s Z H Q I h;exact isTrue_not (d b s Z H (λc e=>Q (! c) e) I h)
def AW(ta tb:TE):TE:=λZ H Q=>ta Z H λx a=>∃c,x=.bl c/\if c=true then tb Z a Q else Q (.bl false) a
def BL(ta:TE):TE:=λZ H Q=>ta Z H λx a=>∃c,x=.bl c/\Q (.bl (! c)) a
theorem BN{op}{t:TE}(h:PE X a t):PE X (.BoolOp op [a] pos) t:=λb s Z H Q I c=>BoolOp_one (h b s Z H Q I c)
theorem BP(g:PE X a ta)(i:PE X (.BoolOp .And (b::rest) pos) tb):PE X (.BoolOp .And (a::b::rest) pos) (AW ta tb):=by
 intro d s Z H Q I h;refine BoolOp_and (thn (g d s Z H _ I h) ?_);rintro v k ⟨x,f,I1,j,e⟩;obtain⟨c,rfl,e⟩:=e;cases j;refine wpAny_truthy_bool ?_
 cases c with
 |true=>exact i d k Z f Q I1 e
 |false=>exact el (.bl false) f I1 rfl e
theorem Ce(e:PE X a ta):PE X (.UnaryOp .Not a pos) (BL ta):=by intro b s Z H Q I h;refine UnaryOp_ (thn (e b s Z H _ I h) ?_);rintro v i ⟨x,g,I1,f,d⟩;obtain⟨c,rfl,d⟩:=d;cases f;exact not_of (wpAny_truthy_bool (el (.bl (! c)) g I1 rfl d))
end
def SqL(K:Frag)(H:Hp)(a:zW)(xs:zM):Prop :=
 Rd H a (.lst xs)\/
  ∃(o:Obj)(b:zG)(n:Nat),K.lookup a=some o/\o.cls=.type "list"/\o.dict=none/\o.data=.seq b n/\b.size<=sizeLine/\A2f xs b.toList
def SqT(K:Frag)(H:Hp)(a:zW)(xs:zM):Prop :=
 Rd H a (.tup xs)\/
  ∃(o:Obj)(b:zG)(n:Nat),K.lookup a=some o/\o.cls=.type "tuple"/\o.data=.seq b n/\b.size<=sizeLine/\A2f xs b.toList
noncomputable def absV:zX->Option V|.none=>some .non|.bool b=>some (.bl b)|.int i _=>some (.int i)|.str x _=>some (.str x)|.bytes b _=>some (.byt b)|.float b _=>some (.flt b)|.ref a=>some (.ref a)|.type n=>some (.ty n)|_=>none
theorem A2c.abs{x:V}(r:A2c x u):absV u=some x:=by
 cases x with
 |non=>cases r;rfl
 |bl _=>cases r;rfl
 |int _=>obtain⟨t,rfl⟩:=r;rfl
 |str _=>obtain⟨t,rfl⟩:=r;rfl
 |byt _=>obtain⟨t,rfl⟩:=r;rfl
 |flt _=>obtain⟨t,rfl⟩:=r;rfl
 |ref _=>cases r;rfl
 |ty _=>cases r;rfl
theorem A2c.inj{x y:V}{u:zX}(r:A2c x u)(q:A2c y u):x=y:=je (r.abs.symm.trans q.abs)
theorem A2f.inj:∀{xs ys:zM}{us:zH},A2f xs us->A2f ys us->xs=ys|_,_,_,.nil,.nil=>rfl|_,_,_,.cons r t,.cons r' t'=>by rw[r.inj r',A2f.inj t t']
theorem SqL.of(h:H a=some (.lst xs)):SqL K H a xs:=.inl (.inl h)
theorem SqT.of(h:H a=some (.tup xs)):SqT K H a xs:=.inl (.inl h)
theorem Inv.list(I:Inv X pins Z H s)(h:SqL X.K H a xs):∃its:zH,A2f xs its/\PlainL s.heap a its.toArray/\xs.length<=sizeLine:=by
 rcases h with h|⟨o,its,n,d,f,c,b,g,r⟩
 ·obtain⟨z,its,n,r,e⟩:=h.ok I.hok;exact fV its r (im _ n e rfl rfl rfl) z
 ·refine fV its.toList r (im o n (I.kIn a o d) f c (by simpa using b)) ?_;have e:=r.length;simp only [Array.length_toList]at e
  lia
theorem Inv.tuple(I:Inv X pins Z H s)(h:SqT X.K H a xs):∃its:zH,A2f xs its/\IsTup s.heap a its.toArray/\xs.length<=sizeLine:=by
 rcases h with h|⟨o,its,n,c,d,b,f,r⟩
 ·obtain⟨z,its,r,p⟩:=h.ok I.hok;exact fV its r p z
 ·refine fV its.toList r (pj o (I.kIn a o c) d n (by simpa using b)) ?_;have e:=r.length;simp only [Array.length_toList]at e
  lia
theorem Inv.list_inj(I:Inv X pins Z H s)(h:SqL X.K H a xs)(h':SqL X.K H a ys):xs=ys:=by
 obtain⟨c,r,⟨o,n,e,_,_,d⟩,_⟩:=I.list h;obtain⟨b,i,⟨k,j,g,_,_,f⟩,_⟩:=I.list h';rw[e]at g;cases g;rw[d]at f;injection f with d1 _;have:c=b:=by simpa using congrArg Array.toList d1
 subst this;exact r.inj i
theorem Inv.tuple_inj(I:Inv X pins Z H s)(h:SqT X.K H a xs)(h':SqT X.K H a ys):xs=ys:=by
 obtain⟨c,r,⟨o,e,_,n,d⟩,_⟩:=I.tuple h;obtain⟨b,i,⟨k,g,_,j,f⟩,_⟩:=I.tuple h';rw[e]at g;cases g;rw[d]at f;injection f with d1 _;have:c=b:=by simpa using congrArg Array.toList d1
 subst this;exact r.inj i
abbrev Cx.wish(X:Cx)(E:zA):Cx:={X with xe:=E}
abbrev Cx.nox(X:Cx):Cx:=X.wish λ_ _=>False
theorem Cx.Ok.wish(a:X.Ok)(E:zA):(X.wish E).Ok :=⟨a.mod,a.kind,a.glob,a.blt,a.above,a.inj,a.has,a.cab,a.hd,a.frames,a.stk,a.exf,a.bs,a.bsz,a.noex,a.exfs,a.funs,a.frf⟩
theorem Cx.Ok.unwish(a:(X.wish E).Ok):X.Ok :=⟨a.mod,a.kind,a.glob,a.blt,a.above,a.inj,a.has,a.cab,a.hd,a.frames,a.stk,a.exf,a.bs,a.bsz,a.noex,a.exfs,a.funs,a.frf⟩
theorem Inv.wish(I:Inv X pins Z H s)(E:zA):Inv (X.wish E) pins Z H s:=⟨I.ok.wish E,I.os,I.bare,I.base,I.loc,I.cell,I.free,I.freeC,I.pin,I.hok,I.len⟩
theorem Inv.unwish(I:Inv (X.wish E) pins Z H s):Inv X pins Z H s:=⟨I.ok.unwish,I.os,I.bare,I.base,I.loc,I.cell,I.free,I.freeC,I.pin,I.hok,I.len⟩
theorem SP.unwish{D:lZ}{f:Flow}(h:SP (X.wish E) pins D f s'):SP X pins D f s':=by
 cases f with
 |next=>obtain⟨Z',a,I,q⟩:=h;exact iy Z' a I.unwish q
 |brk=>obtain⟨Z',a,I,q⟩:=h;exact iy Z' a I.unwish q
 |cont=>obtain⟨Z',a,I,q⟩:=h;exact iy Z' a I.unwish q
 |ret u=>obtain⟨v,Z',a,I,r,q⟩:=h;exact jF v Z' a I.unwish r q
theorem PSs.nox{st:List Stmt}{t:TS}(h:PSs X.nox st t):PSs X st t:=λa s Z H D I b=>jT (h a s Z H D (I.wish _) b) (λ_ _ q=>q.unwish) λ_ _ z=>False.elim z
variable{pins:zD}{Z:St}{H:Hp}{s:zY}{es:zT}{u:zX}{o:zN}{tg:yC}{g:Int->Int->Int}{A:zZ}{E Q:zA}{vs:zM}{P:yB}{w:yD}{K:Frag}{fp:zQ}{R:Result->zY->Prop}{pos:Pos}{h base:yA}{pl:Sem Bool}{body:List Stmt}{tb:TS}{f:zX->zX->Sem zX}{op:CmpOp}{C:zW}{us:zH}{mA mg:zE}{kw:List (Str×zX)}{CX:CXT}{fd:zS}{ps:zC}{outer:List Env}{scope:Scope}{osl:zF}
section
variable{X:Cx}{st:Stmt}{rest:List Stmt}{t u:TS}{e:yC}{te:TE}{pos:Pos}
def BB:TS:=λD Z H=>D.nx Z H
def vU(t u:TS):TS:=λD Z H=>t {D with nx:=u D} Z H
theorem gW:PSs X [] BB:=λ_ _ Z H _ I h=>qY (iy Z H I h)
theorem jO(h1:PS X st t)(h2:PSs X rest u):PSs X (st::rest) (vU t u):=by
 intro a s Z H D I h;refine wpAny_execs_cons (thn (h1 a s Z H {D with nx:=u D} I h) λf c q=>?_)
 cases f with
 |next=>obtain⟨Z',b,I',q⟩:=q;exact h2 a c Z' b D I' q
 |ret v=>exact q
 |brk=>exact q
 |cont=>exact q
theorem jN(h1:PS X st t):PSs X [st] t:=by
 intro a s Z H D I h;refine wpAny_execs_cons (thn (h1 a s Z H D I h) λf b q=>?_)
 cases f with
 |next=>exact qY q
 |ret v=>exact q
 |brk=>exact q
 |cont=>exact q
theorem Inv.quiet(I:Inv X pins Z H s):interactive X.env=false:=by simp[interactive,I.ok.kind]
def Bv(te:TE):TS:=λD Z H=>te Z H λ_ a=>D.nx Z a
theorem jI(f:PE X e te)(b:swapsWith e none pos.line X.env=pure false:=by rfl):PS X (.Expr e pos) (Bv te):=by intro a s Z H D I h;exact wpAny_Expr_any (thn (f a s Z H _ I h) (by rintro v i ⟨x,d,I1,g,c⟩;exact iy Z d I1 c)) I.quiet b
def wb(te:TE):TS:=λD Z H=>te Z H D.rt
theorem ms(f:PE X e te):PS X (.Return (some e) pos) (wb te):=by intro a s Z H D I h;exact wpAny_Return_some (thn (f a s Z H _ I h) (by rintro v g ⟨x,d,I1,c,b⟩;exact jF x Z d I1 c b))
def tQ(c:TT)(t u:TS):TS:=λD Z H=>c Z H λb a=>if b=true then t D Z a else u D Z a
theorem pK{c:yC}{a b:List Stmt}{tc:TT}(l:PT X c tc)(j:PSs X a t)(k:PSs X b u):PS X (.If c a b pos) (tQ tc t u):=by
 intro e s Z H D I h;refine wpAny_If (thn (l e s Z H _ I h) ?_);rintro d g ⟨i,I1,f⟩
 cases d with
 |true=>exact j e g Z i D I1 f
 |false=>exact k e g Z i D I1 f
end
abbrev TG:=V->St->Hp->(St->Hp->Prop)->Prop
abbrev TGs:=zM->St->Hp->(St->Hp->Prop)->Prop
def PG(X:Cx)(a:yC)(t:TG):Prop :=
 ∀(b:zD)(s:zY)(Z:St)(H:Hp)(v:V)(u:zX)(Q:St->Hp->Prop),Inv X b Z H s->A2c v u->t v Z H Q->
  wpAny (model X.prog X.w) X.A (assign a X.env u) (λ_ d=>∃Z' c,Inv X b Z' c d/\Q Z' c) X.xe s
def PGs(X:Cx)(ts:zT)(t:TGs):Prop :=
 ∀(a:zD)(s:zY)(Z:St)(H:Hp)(b:zM)(d:zH)(Q:St->Hp->Prop),Inv X a Z H s->A2f b d->t b Z H Q->
  wpAny (model X.prog X.w) X.A (assignInOrder ((assignEach ts X.env).map (·.2)) d) (λ_ e=>∃Z' c,Inv X a Z' c e/\Q Z' c) X.xe s
abbrev ro:=V->V->V->Hp->(Hp->Prop)->Prop
def tT(X:Cx)(t:ro):Prop :=
 ∀(a:zD)(s:zY)(Z:St)(H:Hp)(o i v:V)(c d u:zX)(Q:Hp->Prop),Inv X a Z H s->A2c o c->A2c i d->A2c v u->t o i v H Q->
  wpAny (model X.prog X.w) X.A (setItem c d u) (λ_ e=>∃b,Inv X a Z b e/\Q b) X.xe s
def m6(i:Nat):TG:=λv Z H Q=>Q (Z.set i (some v)) H
theorem gc(c:X.N.Nodup)(hi:X.N[i]?=some x:=by rfl)(d:Loc X.env.scope x:=by exact .inl rfl)(b:X.fn x=true\/X.env.scope.names.lookup x=some .local:=by first|exact .inl rfl|exact .inr rfl|assumption):PG X (.Name x pos) (m6 i):=by intro a s Z H v u Q I r h;exact wpAny_assign_Name (yr I c hi d r (λe I'=>(iy _ H I' h)) b)
def rh:TGs:=λa Z H Q=>a=[]/\Q Z H
def oJ(t:TG)(u:TGs):TGs:=λa Z H Q=>∃v r,a=v::r/\t v Z H λZ' b=>u r Z' b Q
theorem jD:PGs X [] rh:=by intro a s Z H b c Q I r h;obtain⟨e,h⟩:=h;subst e;cases r;exact assignInOrder_nil (iy Z H I h)
theorem gK{t:TG}{u:TGs}(h1:PG X e t)(h2:PGs X es u)
  (b:(assignEach (e::es) X.env).map (·.2)=assign e X.env::(assignEach es X.env).map (·.2):=by rfl):PGs X (e::es) (oJ t u):=by
 intro a s Z H k i Q I r h;obtain⟨v,j,c,h⟩:=h;subst c
 cases r with
 |cons r rr=>rw[b];refine assignInOrder_cons (thn (h1 a s Z H _ _ _ I r h) ?_);rintro _ g ⟨Z1,f,I1,d⟩;exact h2 a g Z1 f _ _ Q I1 rr d
def tV(K:Frag)(n:Nat)(t:TGs):TG:=λv Z H Q=>∃a b,v=.ref a/\SqT K H a b/\b.length=n/\t b Z H Q
theorem jV{k:Nat}{t:TGs}(q:X.calm=true)(h:PGs X es t)
  (w:(assignEach es X.env).length=n:=by rfl) (d:(assignEach es X.env).findIdx? (·.1)=none:=by rfl):PG X (.Tuple es k pos) (tV X.K n t):=by
 intro c s Z H v u Q I r f;obtain⟨a,z,j,y,m,f⟩:=f;subst j;cases r;obtain⟨l,g,p,A⟩:=I.tuple y;refine assign_Tuple_tuple (I.ok.hd q) p (by simp[w,<-m,g.length]) d λi x=>?_;have I1:Inv X c Z H {s with heap:=i}:=I.kept (t':=s.toks) λb o e=>x b o (jq (gN e)) e
 exact h c _ Z H z _ Q I1 (by simpa using g) f
def gSub(to a:TE)(t:ro):TG:=λv Z H Q=>to Z H λo c=>a Z c λi b=>t o i v b λd=>Q Z d
theorem n7{o i:yC}{to b:TE}{t:ro}(j:PE X o to)(hi:PE X i b)(c:tT X t)
  (f:∀v,assign (.Subscript o i pos) X.env v=(do
   let ov<-holding [v] (eval o X.env)
   let iv<-holding [v,ov] (eval i X.env)
   standAt pos
   holding [v,ov,iv] (setItem ov iv v)
   release [v,ov,iv] []):=by intro _;rfl):PG X (.Subscript o i pos) (gSub to b t):=by
 intro a s Z H v u Q I r h;rw[f];refine dh (kM (thn (j a s Z H _ I h) ?_));rintro ov q ⟨x,p,I1,k,g⟩;refine dh (kM (thn (hi a q Z p _ I1 g) ?_));rintro iv e ⟨y,n,I2,m,d⟩;refine dh (qZ (dh (kM (thn (c a e Z n x y v ov iv u _ I2 k m r d) ?_))));rintro _ z ⟨w,I3,l⟩;exact wpAny_release (iy Z w I3 l)
def q7(te:TE)(g:TG):TS:=λD Z H=>te Z H λx a=>g x Z a D.nx
theorem lM{te:TE}{g:TG}(l:PE X e te)(d:PG X tg g)(b:swapsWithSole [tg] e pos.line X.env=pure false:=by rfl)(k:swappedStores [tg] e X.env=pure none:=by rfl)
  (h1:(assignEach [tg] X.env).map (·.2)=[assign tg X.env]:=by rfl):PS X (.Assign [tg] e pos) (q7 te g):=by
 intro a s Z H D I h;refine wpAny_Assign_stores (thn (l a s Z H _ I h) ?_) b k;rintro v j ⟨x,i,I1,f,c⟩;rw[h1];exact thn (d a j Z i x v _ I1 f c) λ_ m q=>q
theorem mS{i:Nat}{x:Str}{e:yC}{te:TE}{pos':Pos}(c:X.N.Nodup)(hi:X.N[i]?=some x)(g:Loc X.env.scope x)(l:PE X e te)(b:swapsWith e (some (.Name x pos')) pos.line X.env=pure false:=by rfl)(f:X.fn x=true\/X.env.scope.names.lookup x=some .local:=by first|exact .inl rfl|exact .inr rfl|assumption):
  PS X (.Assign [.Name x pos'] e pos) (q7 te (m6 i)):=by
 intro a s Z H D I h;refine wpAny_Assign_Name (thn (l a s Z H _ I h) ?_) b;rintro v n ⟨y,k,I1,j,d⟩;exact yr I1 c hi g j (λm I2=>(iy _ k I2 d)) f
def Cf(c:TT)(tb:TS):TS:=λD Z H=>∃W:Nat->St->Hp->Prop,(∃m,W m Z H)/\∀m Z H,W m Z H->
 c Z H λb e=>if b=true then∃N:St->Hp->Prop,(∀Z' a,N Z' a->∃d,d<m/\W d Z' a)/\tb {D with nx:=N,ct:=N,bk:=D.nx} Z e else D.nx Z e
theorem yz{c:yC}{body:List Stmt}{tc:TT}{tb:TS}(o:PassesOwn (model X.prog X.w) X.A X.env X.xe)(F:PT X c tc)(B:PSs X body tb):PS X (.While c body [] pos) (Cf tc tb):=by
 intro a s Z H D I h;obtain⟨W,⟨u,G⟩,d⟩:=h;refine wpAny_While (codeAny_whileLoop (λn y=>∃Z' r,Inv X a Z' r y/\W n Z' r) ?_ u (iy Z H I G));rintro n x ⟨Z1,p,I1,C⟩;refine wpAny_passesOwn o (thn (F a x Z1 p _ I1 (d n Z1 p C)) ?_);rintro b z ⟨t,I2,g⟩
 cases b with
 |true=>
  obtain⟨N,q,g⟩:=g;rw[fW rfl];refine wpAny_passesOwn o (thn (B a z Z1 t _ I2 g) λf J i=>?_)
  cases f with
  |next=>obtain⟨Z3,e,I3,l⟩:=i;obtain⟨j,k,m⟩:=q Z3 e l;exact⟨j,(kc k Z3 e I3 m)⟩
  |cont=>obtain⟨Z3,e,I3,l⟩:=i;obtain⟨j,k,m⟩:=q Z3 e l;exact⟨j,(kc k Z3 e I3 m)⟩
  |brk=>exact i
  |ret v=>exact i
 |false=>rw[ej hX];exact qY (iy Z1 t I2 g)
structure It where
 go:Nat->Hp->Prop
 yld:Nat->Hp->V->Hp->Prop
 stop:Nat->Hp->Prop
def lg(X:Cx)(pins:zD)(H:Hp)(b:zW):Prop :=H b=none/\b≠X.env.locals/\b∉X.fs/\(b∈X.ex\/X.s₀.heap.objs.size<=b)/\(∀x c,X.env.cells.lookup x=some c->c≠b)/\∀p∈X.pn++pins,p.1≠b
theorem Inv.fpOk{b:zW}(I:Inv X pins Z H s)(a:s.heap.objs.size<=b)(d:H' b=none):lg X pins H' b:=by
 refine ka d (kd (kB I.lt a)) (I.nofs a) (.inr (kX I.sz a)) (λx c e z=>?_) λp f z=>?_
 ·obtain⟨v,q⟩:=I.cell x c e;exact absurd (kB q.lt (by rw[z];exact a)) (Nat.lt_irrefl _)
 ·exact absurd (kB (gN (I.pin p f).1) (by rw[z];exact a)) (Nat.lt_irrefl _)
structure B1k(ok:zZ->Prop)(P:yB)(w:yD)(K:Frag)(tg:yC)(J:It)(fp:zQ)(it:zW)(tn:Nat->yA->Prop):Prop where
 mem:it∈fp
 obj:∀i h,tn i h->∀b∈fp,∃o,h.get? b=some o/\∀v,o.data≠.cell v
 keep:∀i h h',tn i h->(∀b∈fp,∀o,h.get? b=some o->h'.get? b=some o)->tn i h'
 item:∀(X:Cx),X.prog=P->X.w=w->X.K=K->ok X.A->∀(i:Nat)(pins:zD)(s:zY)(Z:St)(H:Hp)(E:zA),Inv X pins Z H s->(∀b∈fp,lg X pins H b)->tn i s.heap->J.go i H->
  wpAny (model P w) X.A (pyNext (.ref it)) (λr s1=>∃u,r=some u/\
   wpAny (model P w) X.A (letOwnedTupleGo tg (.ref it) u) (λ_ s2=>∃x H',Inv X pins Z H' s2/\A2c x u/\J.yld i H x H'/\tn (i+1) s2.heap/\∀b∈fp,H' b=none) E s1) E s
 done:∀(X:Cx),X.prog=P->X.w=w->X.K=K->ok X.A->∀(i:Nat)(pins:zD)(s:zY)(Z:St)(H:Hp)(E:zA),Inv X pins Z H s->(∀b∈fp,lg X pins H b)->tn i s.heap->J.stop i H->
  wpAny (model P w) X.A (pyNext (.ref it)) (λr s1=>r=none/\Inv X pins Z H s1) E s
 self:∀(A:zZ)(i:Nat)(s:zY)(Q:zA)(E:zA),tn i s.heap->Q (.ref it) s->wpAny (model P w) A (pyIter (.ref it)) Q E s
abbrev tP:zZ->Prop:=λA=>A.handled=none
abbrev mI:=B1k tP
abbrev TI:=St->Hp->(It->Hp->Prop)->Prop
def vY(h:zZ->Prop)(X:Cx)(pins:zD)(Z:St)(tg:yC)(R:It->Hp->Prop)(c:zX)(g:zY):Prop :=∃(f:zW)(d:zQ)(e:Nat->yA->Prop)(J:It)(a:Hp),c=.ref f/\Inv X pins Z a g/\B1k h X.prog X.w X.K tg J d f e/\e 0 g.heap/\(∀b∈d,lg X pins a b)/\R J a
def PIP(b:zZ->Prop)(X:Cx)(tg iter:yC)(wi:TI):Prop :=
 ∀(a:zD)(s:zY)(Z:St)(H:Hp)(R:It->Hp->Prop),Inv X a Z H s->wi Z H R->
  wpAny (model X.prog X.w) X.A (eval iter X.env) (λv c=>wpAny (model X.prog X.w) X.A (pyIter v) (vY b X a Z tg R) X.xe c) X.xe s
abbrev PIE:=vY tP
abbrev PI:=PIP tP
theorem nz{o:Obj}{n:String}{vs:zG}{Q:Unit->zY->Prop}(c:s.heap.get? it=some o)(e:o.cls=.type n)(d:o.data=.fields vs)
  (b:["enumerate","zip","dict_itemiterator","dict_reverseitemiterator","odict_iterator","itertools.zip_longest","itertools.pairwise"].contains n=false) (a:Q () s):wpAny M A (letOwnedTupleGo tg (.ref it) u) Q E s:=by
 unfold letOwnedTupleGo
 cases tg<;>first|exact eh a|(cases u<;>first|exact eh a|(refine dh (wpAny_load c ?_);rw[e,d];show wpAny M A (if (["enumerate","zip","dict_itemiterator","dict_reverseitemiterator","odict_iterator","itertools.zip_longest","itertools.pairwise"].contains n&&vs[0]?==some (rawInt _))=true then _ else _) Q E s;rw[ej (by intro h;rw[b,Bool.false_and]at h;cases h)];exact eh a))
def Itl(K:Frag)(a:zW):It :=⟨λi H=>∃b x,SqL K H a b/\b[i]?=some x,λi H x c=>c=H/\∀b,SqL K H a b->b[i]?=some x,λi H=>∃b,SqL K H a b/\b.length<=i⟩
def Itt(K:Frag)(a:zW):It :=⟨λi H=>∃b x,SqT K H a b/\b[i]?=some x,λi H x c=>c=H/\∀b,SqT K H a b->b[i]?=some x,λi H=>∃b,SqT K H a b/\b.length<=i⟩
def Itr(lo:Int)(n:Nat):It:=⟨λi _=>i<n,λi H x a=>a=H/\x=.int (lo+i),λi _=>n<=i⟩
abbrev It.on(J:It):It:=⟨J.go,J.yld,λ_ _=>False⟩
theorem B1k.fin{e:zZ->Prop}{J:It}(T:B1k (λ_=>True) P w K tg (It.on J) fp it tn)
  (d:∀(X:Cx),X.prog=P->X.w=w->X.K=K->e X.A->∀(i:Nat)(pins:zD)(s:zY)(Z:St)(H:Hp)(E:zA),Inv X pins Z H s->(∀b∈fp,lg X pins H b)->tn i s.heap->J.stop i H->
   wpAny (model P w) X.A (pyNext (.ref it)) (λr s1=>r=none/\Inv X pins Z H s1) E s):B1k e P w K tg J fp it tn:=⟨T.mem,T.obj,T.keep,λX a b c _=>T.item X a b c trivial,d,T.self⟩
theorem Hb(a it:zW):B1k (λ_=>True) P w K tg (It.on (Itl K a)) [it] it (λi h=>h.IsListIter it a i) where
 mem:=by simp
 obj:=λi h f b l=>by
  have e:b=it:=by simpa using l
  subst e;obtain⟨o,e,c,d⟩:=f;exact al o e λv z=>by rw[d]at z;cases z
 keep:=λi h m f k=>f.at λo e=>k it (by simp) o e
 item:=by
  intro X B O C W i j s Z H E I n f y;subst B O C;obtain⟨Y,x,q,r⟩:=y;obtain⟨G,J,p,T⟩:=I.list q;obtain⟨u,L,F⟩:=J.get r;obtain⟨A,Q,U,D,M,t⟩:=n it (by simp);refine wpAny_pyNext_list_item f p.isList (x:=u) (by simpa using L) λm g N=>?_;have I1:Inv X j Z H {s with heap:=m}:=I.turned (t':=s.toks) (λb o l e=>(N.2 b l).trans e) A Q D M t
  obtain⟨o,e,c,d⟩:=id g;exact al u rfl (nz (s:={s with heap:=m}) e c d (by decide) (ij x H I1 F ⟨rfl,λS R=>by rw[I.list_inj R q];exact r⟩ g λb l=>(n b l).1))
 done:=λ_ _ _ _ _ _ _ _ _ _ _ _ _ _ z=>z.elim
 self:=λ_ _ _ _ _ f h=>wpAny_pyIter_listiter f h
theorem Fm(a it:zW):mI P w K tg (Itl K a) [it] it (λi h=>h.IsListIter it a i):=B1k.fin (Hb a it)<|by intro X k z m u i c s Z H E I x d g;subst k z m;obtain⟨J,y,G⟩:=g;obtain⟨q,t,p,B⟩:=I.list y;obtain⟨j,A,F,n,v,f⟩:=x it (by simp);have D:=t.length;exact wpAny_pyNext_list_end u d p.isList (by simp;lia) λC l=>⟨rfl,I.turned (t':=s.toks) (λb o r e=>l b o r e) j A n v f⟩
theorem HK(a it:zW):B1k (λ_=>True) P w K tg (It.on (Itt K a)) [it] it (λi h=>h.IsTupleIter it a i) where
 mem:=by simp
 obj:=λi h f b l=>by
  have e:b=it:=by simpa using l
  subst e;obtain⟨o,e,c,d⟩:=f;exact al o e λv z=>by rw[d]at z;cases z
 keep:=λi h m f k=>f.at λo e=>k it (by simp) o e
 item:=by
  intro X C O D W i j s Z H E I q f A;subst C O D;obtain⟨Y,x,r,t⟩:=A;obtain⟨n,J,p,T⟩:=I.tuple r;obtain⟨u,L,G⟩:=J.get t;obtain⟨B,Q,U,F,M,y⟩:=q it (by simp);refine wpAny_pyNext_tuple_item f (show s.heap.IsTuple a n.toArray from p) (x:=u) (by simpa using L) λm g N=>?_;have I1:Inv X j Z H {s with heap:=m}:=I.turned (t':=s.toks) (λb o l e=>(N.2 b l).trans e) B Q F M y
  obtain⟨o,e,c,d⟩:=id g;exact al u rfl (nz (s:={s with heap:=m}) e c d (by decide) (ij x H I1 G ⟨rfl,λS R=>by rw[I.tuple_inj R r];exact t⟩ g λb l=>(q b l).1))
 done:=λ_ _ _ _ _ _ _ _ _ _ _ _ _ _ z=>z.elim
 self:=λ_ _ _ _ _ f h=>wpAny_pyIter_tupleiter f h
theorem Hq(a it:zW):mI P w K tg (Itt K a) [it] it (λi h=>h.IsTupleIter it a i):=B1k.fin (HK a it)<|by intro X l z n u i d s Z H E I x f j;subst l z n;obtain⟨J,y,G⟩:=j;obtain⟨c,t,p,B⟩:=I.tuple y;obtain⟨k,A,F,q,v,g⟩:=x it (by simp);have D:=t.length;exact wpAny_pyNext_tuple_end u f (show s.heap.IsTuple a c.toArray from p) (by simp;lia) λC m=>⟨rfl,I.turned (t':=s.toks) (λb o r e=>m b o r e) k A q v g⟩
theorem HU(it:zW)(lo:Int)(n:Nat):B1k (λ_=>True) P w K tg (It.on (Itr lo n)) [it] it (λi h=>IsRangeIter h it (lo+(i:Nat)*1) ((n:Int)-(i:Nat)) 1) where
 mem:=by simp
 obj:=λi h a b f=>by
  have r:b=it:=by simpa using f
  subst r
  exact⟨_,a,λv z=>by
   have B:Data.fields _=Data.cell v:=z
   cases B⟩
 keep:=λi h g a k=>k it (by simp) _ a
 item:=by
  intro X t D u J i d s Z H E I l a j;subst t D u;obtain⟨q,F,G,x,A,m⟩:=l it (by simp);have j:i<n:=j;refine wpAny_pyNext_range_item a (by lia) λg c C=>?_;have I1:Inv X d Z H {s with heap:=g,toks:=s.toks+1}:=I.turned (λb o f e=>(C.2 b f).trans e) q F x A m
  have p:lo+((i+1:Nat):Int)*1=lo+(i:Int)*1+1:=by lia
  have y:(n:Int)-((i+1:Nat):Int)=(n:Int)-(i:Int)-1:=by lia
  refine al _ rfl (nz (s:={s with heap:=g,toks:=s.toks+1}) (n:="range_iterator") c rfl rfl (by decide) (ij (.int (lo+i)) H I1 ⟨s.toks,?_⟩ ⟨rfl,rfl⟩ ?_ λb f=>(l b f).1))
  ·rw[Int.mul_one]
  ·show IsRangeIter g it (lo+((i+1:Nat):Int)*1) ((n:Int)-((i+1:Nat):Int)) 1;rw[p,y];exact c
 done:=λ_ _ _ _ _ _ _ _ _ _ _ _ _ _ z=>z.elim
 self:=λ_ _ _ _ _ a h=>wpAny_pyIter_rangeiter a h
theorem GZ(it:zW)(lo:Int)(n:Nat):mI P w K tg (Itr lo n) [it] it (λi h=>IsRangeIter h it (lo+(i:Nat)*1) ((n:Int)-(i:Nat)) 1):=B1k.fin (HU it lo n)<|by intro X p r t j i a s Z H E I l c g;subst p r t;obtain⟨m,u,y,v,k,d⟩:=l it (by simp);exact wpAny_pyNext_range_end j c (by have:n<=i:=g;lia) λx q=>⟨rfl,I.turned (t':=s.toks) (λb o f e=>q b o f e) m u v k d⟩
def wo(K:Frag)(tl:TE):TI:=λZ H R=>tl Z H λx b=>∃a,x=.ref a/\(∃c,SqL K b a c)/\R (Itl K a) b
def vK(K:Frag)(tl:TE):TI:=λZ H R=>tl Z H λx b=>∃a,x=.ref a/\(∃c,SqT K b a c)/\R (Itt K a) b
theorem jc{tl:TE}(j:PE X l tl):PI X tg l (wo X.K tl):=by
 intro c s Z H R I h;refine thn (j c s Z H _ I h) ?_;rintro v d ⟨x,n,I1,k,i⟩;obtain⟨a,e,⟨u,m⟩,q⟩:=i;subst e;cases k;obtain⟨f,r,p,t⟩:=I1.list m;refine wpAny_pyIter_list p.isList ?_;refine i12 d.heap.objs.size [d.heap.objs.size] _ _ n rfl (I1.kept (t':=d.toks) λb o e=>gk _ e) (Fm a _) (fV _ (ig _ rfl) rfl rfl) (λb g=>?_) q;have e:b=d.heap.objs.size:=by simpa using g
 subst e;exact I1.fpOk (gf _) (I1.hok.fresh (gf _))
theorem wW{tl:TE}(j:PE X l tl):PI X tg l (vK X.K tl):=by
 intro c s Z H R I h;refine thn (j c s Z H _ I h) ?_;rintro v d ⟨x,n,I1,k,i⟩;obtain⟨a,e,⟨u,m⟩,q⟩:=i;subst e;cases k;obtain⟨f,r,p,t⟩:=I1.tuple m;refine wpAny_pyIter_tuple (show d.heap.IsTuple a f.toArray from p) ?_;refine i12 d.heap.objs.size [d.heap.objs.size] _ _ n rfl (I1.kept (t':=d.toks) λb o e=>gk _ e) (Hq a _) (fV _ (ig _ rfl) rfl rfl) (λb g=>?_) q;have e:b=d.heap.objs.size:=by simpa using g
 subst e;exact I1.fpOk (gf _) (I1.hok.fresh (gf _))
theorem Ef{R:It->Hp->Prop}{t u v:Tok}{tk:Nat}(I:Inv X pins Z H s)(h1: -(2^62)<=lo)(h2:lo<2^62)(g: -(2^62)<=hi)(a:hi<2^62)
  (q:R (Itr lo (hi-lo).toNat) H):wpAny (model X.prog X.w) X.A (pyIter (.ref s.heap.objs.size)) (PIE X pins Z tg R) E {s with heap:=s.heap.push {cls:=.type "range",data:=.fields #[.int lo t,.int hi u,.int 1 v]},toks:=tk}:=by
 refine wpAny_pyIter_range (IsRange.new ..) (small_one h1 h2 g a) ?_;have I1:Inv X pins Z H {s with heap:=s.heap.push {cls:=.type "range",data:=.fields #[.int lo t,.int hi u,.int 1 v]},toks:=tk}:=I.kept λb o e=>gk _ e
 refine⟨(s.heap.push {cls:=.type "range",data:=.fields #[.int lo t,.int hi u,.int 1 v]}).objs.size,[(s.heap.push {cls:=.type "range",data:=.fields #[.int lo t,.int hi u,.int 1 v]}).objs.size],_,_,H,rfl,
  I1.kept (t':=tk) λb o e=>gk _ e,GZ _ lo (hi-lo).toNat,?_,λb d=>?_,q⟩
 ·have f:lo+((0:Nat):Int)*1=lo:=by simp
  have c:(((hi-lo).toNat:Nat):Int)-((0:Nat):Int)=Builtin.Range.rangeSize lo hi 1:=by rw[rangeSize_one];split<;>lia
  show IsRangeIter _ _ (lo+((0:Nat):Int)*1) ((((hi-lo).toNat:Nat):Int)-((0:Nat):Int)) 1;rw[f,c];exact ig _ rfl
 ·have e:b=(s.heap.push {cls:=.type "range",data:=.fields #[.int lo t,.int hi u,.int 1 v]}).objs.size:=by simpa using d
  subst e;exact I1.fpOk (gf _) (I1.hok.fresh (gf _))
def Bw(ta:TA):TI:=λZ H R=>ta Z H λa b=>∃j:Int,a=[.int j]/\-(2^62)<=j/\j<2^62/\R (Itr 0 j.toNat) b
theorem oq{a:yC}{ta:TA}(k:Gl X "range")(i:X.mg "range"=none)(g:PA X [a] ta)(d:starEach [a] X.env=[(false,eval a X.env)]:=by rfl):PI X tg (.Call (.Name "range" p) [a] [] pos) (Bw ta):=by
 intro b s Z H R I h;refine Call_ (nF I k i boot_range (PyProof.Rows.callWith_type1 (thn (g pos b s Z H _ I h) ?_) d rfl));rintro m u ⟨n,o,I1,l,c⟩;obtain⟨j,e,c,f,q⟩:=c;subst e
 cases l with
 |cons r rr=>
  cases rr
  obtain⟨t,rfl⟩:=r;exact call_range_1 (Ef I1 (by lia) (by lia) c f (by simpa using q))
def tU(wi:TI)(g:TG)(tb:TS):TS:=λD Z H=>wi Z H λJ d=>∃W:Nat->Nat->St->Hp->Prop,(∃m,W 0 m Z d)/\∀i m Z H,W i m Z H->
 (J.stop i H/\D.nx Z H)\/(J.go i H/\∃N:St->Hp->Prop,(∀Z' a,N Z' a->∃b,b<m/\W (i+1) b Z' a)/\∀x a,J.yld i H x a->g x Z a λZ2 c=>tb {D with nx:=N,ct:=N,bk:=D.nx} Z2 c)
def qr(fp:zQ)(h:yA):zD:=fp.filterMap λb=>(h.get? b).map λo=>(b,o)
theorem sT{b:zW}{o:Obj}(a:b∈fp)(e:h.get? b=some o):(b,o)∈qr fp h:=List.mem_filterMap.mpr (al b a (by rw[e];rfl))
theorem Fj{p:zW×Obj}(d:p∈qr fp h):p.1∈fp/\h.get? p.1=some p.2:=by
 obtain⟨b,c,e⟩:=List.mem_filterMap.mp d
 cases q:h.get? b with
 |none=>rw[q]at e;cases e
 |some o=>rw[q]at e;have a:(b,o)=p:=je e;subst a;exact⟨c,q⟩
theorem Inv.pinned(I:Inv X pins Z H s)(f:∀b∈fp,lg X pins H b)(i:∀b∈fp,∃o,s.heap.get? b=some o/\∀v,o.data≠.cell v):Inv X (pins++qr fp s.heap) Z H s :=I.pins_of λp h=>(iQ.mp h).elim (λz=>I.pin p (lJ _ z)) λz=>by obtain⟨c,e⟩:=Fj z;obtain⟨g,k,j,_⟩:=f p.1 c;obtain⟨o,a,d⟩:=i p.1 c;rw[e]at a;cases a;exact mi e g k j d
theorem Inv.unpinned{pl:zD}(I:Inv X (pins++pl) Z H s):Inv X pins Z H s:=I.pins_of λp a=>I.pin p (lJ _ (nT _ a))
theorem Dw{ok:zZ->Prop}{wi:TI}{g:TG}(y:PassesOwn (model X.prog X.w) X.A X.env X.xe)(Y:ok X.A)(hi:PIP ok X tg iter wi)(hg:PG X tg g)(k:PSs X body tb)
  (hs:∀x,foldedSetIterable iter X.env x=pure x:=by intro _;rfl):PS X (.For tg iter body [] pos) (tU wi g tb):=by
 intro a s Z H D I h;refine wpAny_For (thn (hi a s Z H _ I h) λv s1 h1=>thn h1 λa0 s2 E=>?_) hs;refine lC E ?_;clear E;rintro it C tn J H2 e I2 T P f2 ⟨W,⟨m0,w0⟩,B⟩;subst e;have c:∀{H':Hp},(∀b∈C,H' b=none)->∀b∈C,lg X a H' b:=λhn b k=>⟨hn b k,(f2 b k).2⟩;refine codeAny_forLoop_any (λn s'=>∃i Z' H',Inv X a Z' H' s'/\tn i s'.heap/\(∀b∈C,H' b=none)/\W i n Z' H') ?_ m0 (gD 0 Z H2 I2 P (λb k=>(f2 b k).1) w0);refine λn s3 z=>gE z λi Z3 M I3 G L w3=>?_;clear z;rcases B i n Z3 M w3 with ⟨F,qn⟩|⟨go,N,hN,t⟩
 ·refine wpAny_passesOwn y (thn (T.done X rfl rfl rfl Y i a s3 Z3 M X.xe I3 (c L) G F) ?_);rintro r s4 ⟨O,I4⟩;subst O;exact qY (iy Z3 M I4 qn)
 ·refine wpAny_passesOwn y (thn (T.item X rfl rfl rfl Y i a s3 Z3 M X.xe I3 (c L) G go) ?_);rintro r s4 ⟨u,O,h4⟩;subst O;refine wpAny_passesOwn y (thn h4 ?_);rintro _ S z;refine jo z ?_;clear z;rintro x U I5 r5 y5 ⟨q,Q⟩;have I5':=I5.pinned (c Q) (T.obj _ _ q);refine wpAny_passesOwn y (thn (hg _ S Z3 U x u _ I5' r5 (t x U y5)) ?_);rintro _ s6 ⟨Z6,H6,I6,q6⟩;refine wpAny_passesOwn y (thn (k _ s6 Z6 H6 _ I6 q6) λf R p=>?_)
  have l:∀{Z7:St}{j:Hp},Inv X (a++qr C S.heap) Z7 j R->N Z7 j->∃m,m<n/\∃i Z' H',Inv X a Z' H' R/\tn i R.heap/\(∀b∈C,H' b=none)/\W i m Z' H':=λ{Z7 j} I7 K=>by obtain⟨m',hm,w7⟩:=hN Z7 j K;refine al m' hm (gD (i+1) Z7 j I7.unpinned (T.keep _ _ _ q λb k o e=>(I7.pin (b,o) (lJ _ (lJ _ (sT k e)))).1) (λb k=>?_) w7);obtain⟨o,e,d⟩:=T.obj _ _ q b k;exact(I7.pin (b,o) (lJ _ (lJ _ (sT k e)))).2.1
  cases f with
  |next=>obtain⟨Z7,j,I7,K⟩:=p;exact l I7 K
  |cont=>obtain⟨Z7,j,I7,K⟩:=p;exact l I7 K
  |brk=>obtain⟨Z7,j,I7,p⟩:=p;exact iy Z7 j I7.unpinned p
  |ret v=>obtain⟨x7,Z7,j,I7,r7,p⟩:=p;exact⟨x7,Z7,j,I7.unpinned,r7,p⟩
theorem oR{wi:TI}{g:TG}(c:PassesOwn (model X.prog X.w) X.A X.env X.xe)(e:X.calm=true)(hi:PI X tg iter wi)(f:PG X tg g)(d:PSs X body tb)
  (b:∀x,foldedSetIterable iter X.env x=pure x:=by intro _;rfl):PS X (.For tg iter body [] pos) (tU wi g tb):=
 λa s Z H D I h=>Dw c (I.ok.hd e) hi f d b a s Z H D I h
theorem kz{g:TG}{D:lZ}(Pv:Nat->St->Hp->Prop)(f:Pv 0 Z H)(j:∀i Z H,i<=xs.length->Pv i Z H->SqL K H a xs)
  (c:∀i x Z H,xs[i]?=some x->Pv i Z H->g x Z H λZ2 H2=>tb {D with nx:=Pv (i+1),ct:=Pv (i+1),bk:=D.nx} Z2 H2) (d:∀Z H,Pv xs.length Z H->D.nx Z H):
  ∃W:Nat->Nat->St->Hp->Prop,(∃m,W 0 m Z H)/\∀i m Z H,W i m Z H->
   ((Itl K a).stop i H/\D.nx Z H)\/((Itl K a).go i H/\∃N:St->Hp->Prop,(∀Z' H',N Z' H'->∃b,b<m/\W (i+1) b Z' H')/\∀x H',(Itl K a).yld i H x H'->g x Z H' λZ2 H2=>tb {D with nx:=N,ct:=N,bk:=D.nx} Z2 H2):=by
 refine al (λi m Z H=>m=xs.length-i/\i<=xs.length/\Pv i Z H) (fV xs.length (by simp) (iG _) f) ?_;rintro i m Z H ⟨rfl,h,p⟩;have q:=j i Z H h p;by_cases hlt:i<xs.length
 ·refine .inr (gF (iy xs (xs[i]) q (by simp[hlt])) (Pv (i+1)) (λZ' H' k=>(iV (xs.length-(i+1)) (by lia) rfl hlt k)) λx H' y=>?_);obtain⟨e,y⟩:=y;subst e;exact c i x Z _ (y xs q) p
 ·have e:i=xs.length:=by lia
  subst e;exact .inl ⟨(al xs q (gf _)),d Z H p⟩
theorem pW{g:TG}{D:lZ}(Pv:Nat->St->Hp->Prop)(d:Pv 0 Z H)
  (b:∀i Z H,i<n->Pv i Z H->g (.int (lo+i)) Z H λZ2 H2=>tb {D with nx:=Pv (i+1),ct:=Pv (i+1),bk:=D.nx} Z2 H2) (c:∀Z H,Pv n Z H->D.nx Z H):
  ∃W:Nat->Nat->St->Hp->Prop,(∃m,W 0 m Z H)/\∀i m Z H,W i m Z H->
   ((Itr lo n).stop i H/\D.nx Z H)\/((Itr lo n).go i H/\∃N:St->Hp->Prop,(∀Z' H',N Z' H'->∃a,a<m/\W (i+1) a Z' H')/\∀x H',(Itr lo n).yld i H x H'->g x Z H' λZ2 H2=>tb {D with nx:=N,ct:=N,bk:=D.nx} Z2 H2):=by
 refine al (λi m Z H=>m=n-i/\i<=n/\Pv i Z H) (fV n (by simp) (iG _) d) ?_;rintro i m Z H ⟨rfl,h,p⟩;by_cases hlt:i<n
 ·refine .inr (gF hlt (Pv (i+1)) (λZ' H' f=>(iV (n-(i+1)) (by lia) rfl hlt f)) λx H' y=>?_);obtain⟨e,y⟩:=y;subst e y;exact b i Z _ hlt p
 ·have e:i=n:=by lia
  subst e;exact .inl ⟨gf _,c Z H p⟩
abbrev R2:=V->V->Hp->VK->Prop
def OpR(X:Cx)(f:zX->zX->Sem zX)(r:R2):Prop :=
 ∀(a:zD)(s:zY)(Z:St)(H:Hp)(x y:V)(v u:zX)(Q:VK),Inv X a Z H s->A2c x v->A2c y u->r x y H Q->
  wpAny (model X.prog X.w) X.A (f v u) (EP X a Z Q) X.xe s
def UnR(X:Cx)(f:zX->Sem zX)(r:V->Hp->VK->Prop):Prop :=
 ∀(a:zD)(s:zY)(Z:St)(H:Hp)(x:V)(v:zX)(Q:VK),Inv X a Z H s->A2c x v->r x H Q->
  wpAny (model X.prog X.w) X.A (f v) (EP X a Z Q) X.xe s
def mN(X:Cx)(f:zX)(r:zM->Hp->VK->Prop):Prop :=
 ∀(a:zD)(s:zY)(Z:St)(H:Hp)(c:zM)(b:zH)(Q:VK),Inv X a Z H s->A2f c b->r c H Q->
  wpAny (model X.prog X.w) X.A (call f b) (EP X a Z Q) X.xe s
def tOp(r:R2)(ta tb:TE):TE:=λZ H Q=>ta Z H λx b=>tb Z b λy a=>r x y a Q
def tUn(r:V->Hp->VK->Prop)(ta:TE):TE:=λZ H Q=>ta Z H λx a=>r x a Q
def rI(C:Int->Int->Prop)(g:Int->Int->V):R2:=λx y H Q=>∃i j,x=.int i/\y=.int j/\C i j/\Q (g i j) H
def nO(g:Int->Int->V):R2:=λx y H Q=>∃i j,x=.int i/\y=.int j/\Q (g i j) H
def rU(g:Int->V):V->Hp->VK->Prop:=λx H Q=>∃i,x=.int i/\Q (g i) H
section
variable{a:yC}{ta tb tc:TE}
theorem tW(d:PE X a ta)(i:PE X b tb){R:V->V->Hp->Prop}(I:Inv X pins Z H s)
  (h:ta Z H λx H1=>tb Z H1 λy H2=>R x y H2)
  (g:∀v u c x y H2,Inv X pins Z H2 c->A2c x v->A2c y u->R x y H2->wpAny (model X.prog X.w) X.A (f v u) Q X.xe c):
  wpAny (model X.prog X.w) X.A (eval a X.env) (λv s₁=>wpAny (model X.prog X.w) X.A (eval b X.env) (λu s₂=>wpAny (model X.prog X.w) X.A (f v u) Q X.xe s₂) X.xe s₁) X.xe s:=by
 refine thn (d pins s Z H _ I h) ?_;rintro v m ⟨x,H1,I1,k,j⟩;refine thn (i pins m Z H1 _ I1 j) ?_;rintro u c ⟨y,H2,I2,l,e⟩;exact g v u c x y H2 I2 k l e
theorem gn{op:Operator}{r:R2}(i:OpR X (binaryOp op) r)(d:PE X a ta)(g:PE X b tb):PE X (.BinOp a op b pos) (tOp r ta tb):=by intro c s Z H Q I h;exact wpAny_BinOp (tW d g I h λv u e x y k I2 j f q=>i c e Z k x y v u Q I2 j f q)
theorem BJ{op:UnaryOp}{r:V->Hp->VK->Prop}(e:UnR X (unaryOp op) r)(c:PE X a ta):PE X (.UnaryOp op a pos) (tUn r ta):=by intro b s Z H Q I h;exact UnaryOp_ (thn (c b s Z H _ I h) (by rintro v i ⟨x,g,I1,f,d⟩;exact e b i Z g x v Q I1 f d))
theorem opI{C:Int->Int->Prop}
  (a:∀(i j:Int)(t u:Tok)(s:zY)(Q:zA)(E:zA),C i j->Q (.int (g i j) s.toks) {s with toks:=s.toks+1}->wpAny (model X.prog X.w) X.A (f (.int i t) (.int j u)) Q E s):
  OpR X f (rI C λi j=>.int (g i j)):=by
 intro b s Z H x y v u Q I k d h;obtain⟨i,j,rfl,rfl,e,q⟩:=h;obtain⟨t,rfl⟩:=k;obtain⟨c,rfl⟩:=d;exact a i j t c s _ _ e (el (.int (g i j)) H (I.tok _) ⟨_,rfl⟩ q)
theorem vQ
  (a:∀(i j:Int)(t u:Tok)(s:zY)(Q:zA)(E:zA),Q (.int (g i j) s.toks) {s with toks:=s.toks+1}->wpAny (model X.prog X.w) X.A (f (.int i t) (.int j u)) Q E s):
  OpR X f (nO λi j=>.int (g i j)):=by
 intro b s Z H x y v u Q I e d h;obtain⟨i,j,rfl,rfl,q⟩:=h;obtain⟨t,rfl⟩:=e;obtain⟨c,rfl⟩:=d;exact a i j t c s _ _ (el (.int (g i j)) H (I.tok _) ⟨_,rfl⟩ q)
theorem rq{g:Int->Int->Bool}
  (a:∀(i j:Int)(t u:Tok)(s:zY)(Q:zA)(E:zA),Q (.bool (g i j)) s->wpAny (model X.prog X.w) X.A (f (.int i t) (.int j u)) Q E s):
  OpR X f (nO λi j=>.bl (g i j)):=by
 intro b s Z H x y v u Q I e d h;obtain⟨i,j,rfl,rfl,q⟩:=h;obtain⟨t,rfl⟩:=e;obtain⟨c,rfl⟩:=d;exact a i j t c s _ _ (el (.bl (g i j)) H I rfl q)
def CDiv(i j:Int):Prop:=0<j/\j<1073741824
def D9g(i j:Int):Prop:=(-(2^64)<i/\i<2^64)\/(-(2^64)<j/\j<2^64)
theorem D9g.ok{i j:Int}(h:D9g i j):IntMulOk i j:=by
 rcases h with ⟨b,a⟩|⟨b,a⟩
 ·exact .of_left (intBits_le_64 b a)
 ·exact .of_right (intBits_le_64 b a)
theorem jW:OpR X (binaryOp .Add) (nO λi j=>.int (i+j)):=vQ λ_ _ _ _ _ _ _ q=>add_int q
theorem rP:OpR X (binaryOp .Sub) (nO λi j=>.int (i-j)):=vQ λ_ _ _ _ _ _ _ q=>sub_int q
theorem rR:OpR X (binaryOp .Mult) (rI D9g λi j=>.int (i*j)):=opI λ_ _ _ _ _ _ _ a q=>mul_int q a.ok
theorem pR:OpR X (binaryOp .FloorDiv) (rI CDiv λi j=>.int (i/j)):=opI λi j _ _ _ _ _ a q=>by have c:(0:Int)<j:=a.1;have b:j<1073741824:=a.2;exact floordiv_int (by lia) (by rw[Int.fdiv_eq_ediv_of_nonneg i (by lia)];exact q) (.inl (PyProof.noPylong_small (by lia)))
theorem lj:OpR X (binaryOp .Mod) (rI (λ_ j=>0<j) λi j=>.int (i%j)):=opI λi j _ _ _ _ _ a q=>by have b:(0:Int)<j:=a;exact mod_int' (by lia) (by rw[Int.fmod_eq_emod_of_nonneg i (by lia)];exact q)
theorem unI{f:zX->Sem zX}{g:Int->Int}
  (a:∀(i:Int)(t:Tok)(s:zY)(Q:zA)(E:zA),Q (.int (g i) s.toks) {s with toks:=s.toks+1}->wpAny (model X.prog X.w) X.A (f (.int i t)) Q E s):
  UnR X f (rU λi=>.int (g i)):=by
 intro b s Z H x v Q I c h;obtain⟨i,rfl,q⟩:=h;obtain⟨t,rfl⟩:=c;exact a i t s _ _ (el (.int (g i)) H (I.tok _) ⟨_,rfl⟩ q)
theorem B9:UnR X (unaryOp .USub) (rU λi=>.int (-i)):=unI λ_ _ _ _ _ q=>neg_int q
end
def wa:V->V->Bool|.non,.non=>true|.non,.int _=>true|.int _,.non=>true|.non,.bl _=>true|.bl _,.non=>true|.non,.str _=>true|.str _,.non=>true|.int _,.int _=>true|.bl _,.bl _=>true|.str _,.str _=>true|.byt _,.byt _=>true|.int _,.str _=>true|.str _,.int _=>true|.bl _,.str _=>true|.str _,.bl _=>true|_,_=>false
def rEq:R2:=λx y H Q=>wa x y=true/\Q (.bl (decide (x=y))) H
def rNe:R2:=λx y H Q=>wa x y=true/\Q (.bl (! decide (x=y))) H
theorem xT{i j:Int}:decide (V.int i=V.int j)=(i==j):=by rw[Bool.eq_iff_iff];simp
theorem wN{i j:Bool}:decide (V.bl i=V.bl j)=(i==j):=by rw[Bool.eq_iff_iff];simp
theorem xC{i j:Str}:decide (V.str i=V.str j)=(i==j):=by rw[Bool.eq_iff_iff];simp
theorem xB{i j:Array UInt8}:decide (V.byt i=V.byt j)=(i.toList==j.toList):=by rw[Bool.eq_iff_iff];cases i;cases j;simp
section
variable{a:yC}{ta tb tc:TE}
theorem iO{Q:VK}{k a:Bool}(I:Inv X pins Z H s)(q:Q (.bl k) H)(e:k=a):EP X pins Z Q (.bool a) s:=by subst e;exact el (.bl k) H I rfl q
theorem ma:OpR X (compareOp .Eq) rEq:=by
 intro e s Z H x y v u Q I d a h;obtain⟨c,q⟩:=h
 cases x with
 |non=>
  cases d
  cases y with
  |non=>cases a;exact PySem.EqNone.eq_none_none (iO I q (by simp))
  |bl j=>cases a;exact PySem.EqNone.eq_none_bool (iO I q (by simp))
  |int j=>obtain⟨b,rfl⟩:=a;exact PySem.EqNone.eq_none_int (iO I q (by simp))
  |str j=>obtain⟨b,rfl⟩:=a;exact PySem.EqNone.eq_none_str (iO I q (by simp))
  |_=>exact absurd (show false=true from c) hX
 |bl i=>
  cases d
  cases y with
  |non=>cases a;exact PySem.EqNone.eq_bool_none (iO I q (by simp))
  |bl j=>cases a;exact eq_bool (iO I q wN)
  |str j=>obtain⟨b,rfl⟩:=a;exact PySem.EqMixed.eq_bool_str (iO I q (by simp))
  |_=>exact absurd (show false=true from c) hX
 |int i=>
  obtain⟨t,rfl⟩:=d
  cases y with
  |non=>cases a;exact PySem.EqNone.eq_int_none (iO I q (by simp))
  |int j=>obtain⟨b,rfl⟩:=a;exact eq_int (iO I q xT)
  |str j=>obtain⟨b,rfl⟩:=a;exact PySem.EqMixed.eq_int_str (iO I q (by simp))
  |_=>exact absurd (show false=true from c) hX
 |str i=>
  obtain⟨t,rfl⟩:=d
  cases y with
  |non=>cases a;exact PySem.EqNone.eq_str_none (iO I q (by simp))
  |bl j=>cases a;exact PySem.EqMixed.eq_str_bool (iO I q (by simp))
  |int j=>obtain⟨b,rfl⟩:=a;exact PySem.EqMixed.eq_str_int (iO I q (by simp))
  |str j=>obtain⟨b,rfl⟩:=a;exact eq_str (iO I q xC)
  |_=>exact absurd (show false=true from c) hX
 |byt i=>
  obtain⟨t,rfl⟩:=d
  cases y with
  |byt j=>obtain⟨b,rfl⟩:=a;exact PySem.W.eq_bytes (iO I q xB)
  |_=>exact absurd (show false=true from c) hX
 |_=>cases y<;>exact absurd (show false=true from c) hX
theorem rG:OpR X (compareOp .NotEq) rNe:=by
 intro e s Z H x y v u Q I d a h;obtain⟨c,q⟩:=h
 cases x with
 |non=>
  cases d
  cases y with
  |non=>cases a;exact PySem.EqNone.ne_none_none (iO I q (by simp))
  |bl j=>cases a;exact PySem.EqNone.ne_none_bool (iO I q (by simp))
  |int j=>obtain⟨b,rfl⟩:=a;exact PySem.EqNone.ne_none_int (iO I q (by simp))
  |str j=>obtain⟨b,rfl⟩:=a;exact PySem.EqNone.ne_none_str (iO I q (by simp))
  |_=>exact absurd (show false=true from c) hX
 |bl i=>
  cases d
  cases y with
  |non=>cases a;exact PySem.EqNone.ne_bool_none (iO I q (by simp))
  |bl j=>cases a;exact ne_bool (iO I q (congrArg not wN))
  |str j=>obtain⟨b,rfl⟩:=a;exact PySem.EqMixed.ne_bool_str (iO I q (by simp))
  |_=>exact absurd (show false=true from c) hX
 |int i=>
  obtain⟨t,rfl⟩:=d
  cases y with
  |non=>cases a;exact PySem.EqNone.ne_int_none (iO I q (by simp))
  |int j=>obtain⟨b,rfl⟩:=a;exact ne_int (iO I q (congrArg not xT))
  |str j=>obtain⟨b,rfl⟩:=a;exact PySem.EqMixed.ne_int_str (iO I q (by simp))
  |_=>exact absurd (show false=true from c) hX
 |str i=>
  obtain⟨t,rfl⟩:=d
  cases y with
  |non=>cases a;exact PySem.EqNone.ne_str_none (iO I q (by simp))
  |bl j=>cases a;exact PySem.EqMixed.ne_str_bool (iO I q (by simp))
  |int j=>obtain⟨b,rfl⟩:=a;exact PySem.EqMixed.ne_str_int (iO I q (by simp))
  |str j=>obtain⟨b,rfl⟩:=a;exact ne_str (iO I q (congrArg not xC))
  |_=>exact absurd (show false=true from c) hX
 |byt i=>
  obtain⟨t,rfl⟩:=d
  cases y with
  |byt j=>obtain⟨b,rfl⟩:=a;exact PySem.W.ne_bytes (iO I q (congrArg not xB))
  |_=>exact absurd (show false=true from c) hX
 |_=>cases y<;>exact absurd (show false=true from c) hX
theorem ug:OpR X (compareOp .Lt) (nO λi j=>.bl (decide (i<j))):=rq λ_ _ _ _ _ _ _ q=>lt_int q
theorem wr:OpR X (compareOp .LtE) (nO λi j=>.bl (decide (i<=j))):=rq λ_ _ _ _ _ _ _ q=>le_int q
theorem pH:OpR X (compareOp .Gt) (nO λi j=>.bl (decide (j<i))):=rq λ_ _ _ _ _ _ _ q=>gt_int q
theorem BK:OpR X (compareOp .GtE) (nO λi j=>.bl (decide (j<=i))):=rq λ_ _ _ _ _ _ _ q=>ge_int q
theorem uq(b:yC)(h:op≠.In:=by decide)(h2:op≠.NotIn:=by decide):behindInMarks op b=false:=by
 have a:(op==CmpOp.In)=false:=by cases op<;>first|rfl|exact absurd rfl h
 have c:(op==CmpOp.NotIn)=false:=by cases op<;>first|rfl|exact absurd rfl h2
 cases b<;>simp[behindInMarks,a,c]
theorem xj{r:R2}(j:OpR X (compareOp op) r)(d:PE X a ta)(g:PE X b tb)(i:behindInMarks op b=false:=by exact uq _):PE X (.Compare a [op] [b] pos) (tOp r ta tb):=by intro c s Z H Q I h;exact wpAny_Compare1 (tW d g I h λv u e x y l I2 k f q=>j c e Z l x y v u Q I2 k f q) i
def wx(t:TE):TT:=λZ H Q=>t Z H λx a=>∃k,x=.bl k/\Q k a
theorem iz{r:R2}(j:OpR X (compareOp op) r)(q:PE X a ta)(w:PE X b tb)(i:behindInMarks op b=false:=by exact uq _):PT X (.Compare a [op] [b] pos) (wx (tOp r ta tb)):=by
 intro d s Z H Q I h
 refine wpAny_isTrue_Compare1 (thn (q d s Z H _ I h) λv p ⟨x,o,I1,m,g⟩=>thn (w d p Z o _ I1 g) λu t ⟨y,B,I2,A,f⟩=>thn (j d t Z B x y v u _ I2 m A f) λc D ⟨z,C,I3,l,k,e,n⟩=>?_) i
 subst e;cases l;exact wpAny_truthy_bool (al C I3 n)
def Cy(r c:R2)(ta tb tc:TE):TE:=λZ H Q=>ta Z H λx f=>tb Z f λy d=>r x y d λz a=>∃k,z=.bl k/\
 (if k=true then tc Z a λb e=>c y b e Q else Q (.bl false) a)
theorem Eg{g:CmpOp}{r l:R2}(w:OpR X (compareOp op) r)(i:OpR X (compareOp g) l)(K:PE X a ta)(M:PE X b tb)(P:PE X c tc)
  (t:lastMarks [op,g] [b,c]=false:=by with_unfolding_all rfl):PE X (.Compare a [op,g] [b,c] pos) (Cy r l ta tb tc):=by
 intro f s Z H Q I h
 refine Compare_chain (thn (K f s Z H _ I h) λv J ⟨x,G,I1,F,q⟩=>chain_link (thn (M f J Z G _ I1 q) λu L ⟨y,S,I2,m,o⟩=>thn (w f L Z S x y v u _ I2 F m o) λd B ⟨z,n,I3,C,k,e,j⟩=>?_)) t
 subst e;cases C;refine wpAny_truthy_bool ?_
 cases k with
 |false=>exact ite_ff (el (.bl false) n I3 rfl j)
 |true=>exact ite_tt (chain_last (thn (P f B Z n _ I3 j) (by rintro O p ⟨R,A,I4,N,D⟩;exact i f p Z A y R u O Q I4 m N D)))
theorem qt:(sizeLine:Nat)<2^63:=by rw[sizeLine_eq];decide
theorem pf:OpR X (binaryOp .Add) (λx y H Q=>∃i j,x=.str i/\y=.str j/\i.length+j.length<=sizeLine/\Q (.str (i++j)) H):=by intro a s Z H x y v u Q I e b h;obtain⟨i,j,rfl,rfl,d,q⟩:=h;obtain⟨t,rfl⟩:=e;obtain⟨c,rfl⟩:=b;exact add_str (λc f=>(el (.str (i++j)) H (I.tok _) ⟨_,rfl⟩ q)) d
theorem mR{x:V}(r:A2f [x] us):∃u,us=[u]/\A2c x u:=by
 cases r with
 |cons r1 r2=>cases r2;exact al _ rfl r1
theorem ub{x:V}(r:A2f [x,y] us):∃u w',us=[u,w']/\A2c x u/\A2c y w':=by
 cases r with
 |cons r1 r2=>
  cases r2 with
  |cons r3 r4=>cases r4;exact el _ _ rfl r1 r3
theorem zp(b:X.calm=true):mN X (.builtin "min") (λxs H Q=>∃i j,xs=[.int i,.int j]/\Q (.int (if j<i then j else i)) H):=by
 intro a s Z H xs e Q I r h;obtain⟨i,j,rfl,q⟩:=h;obtain⟨u,d,rfl,⟨t,rfl⟩,⟨f,rfl⟩⟩:=ub r;refine min_two_ints (I.ok.hd b) λc g k=>(el _ H (I.kept k) ?_ q);by_cases hj:j<i
 ·rw[fW hj,fW hj];exact⟨_,rfl⟩
 ·rw[ej hj,ej hj];exact⟨_,rfl⟩
theorem ph:mN X (.type "str") (λxs H Q=>∃i,xs=[.int i]/\i.natAbs.log2<1920/\Q (.str (toString i)) H):=by intro a s Z H xs c Q I r h;obtain⟨i,rfl,b,q⟩:=h;obtain⟨u,rfl,t,rfl⟩:=mR r;exact PySem.P.str_of_int b (el (.str _) H (I.tok _) ⟨_,rfl⟩ q)
end
structure D3i(h:yA)(x dx C:zW)(mA:zE):Prop where
 obj:h.get? x=some (instObj C dx)
 ns:h.Ns1 dx mA
 ne:dx≠x
theorem Fn(n:h.Ns1 dx mA):∃od,h.get? dx=some od/\∀name,PySem.W.lookIn name od=some (mA name):=by
 refine gE n ?_;clear n;rintro o c l g d k ⟨_,f⟩;refine al o g λname=>?_;have e:=f name;unfold nsFind findBy at e;rw[<-Array.find?_toList]at e;unfold PySem.W.lookIn;rw[d];dsimp only;split
 ·rename_i y q;rw[q]at e;exact congrArg some e
 ·rename_i q;rw[q]at e
  have a:c.toList.any (·.refKey)=false:=by rw[List.any_eq_false];intro y i;obtain⟨z,t,b⟩:=k y (Array.mem_toList_iff.mp i);simp[DictEntry.refKey,b]
  have j:¬c.toList.any (·.refKey)=true:=by rw[a];exact hX
  rw[ej j];exact congrArg some e
theorem D3i.look{x:zW}(I:D3i h x dx C mA):∃od,PySem.W.InstAt h x (instObj C dx) C (some od)/\∀name,PySem.W.lookIn name od=some (mA name):=
 let⟨od,ho,hl⟩:=Fn I.ns
 (al od ⟨I.obj,rfl,rfl,ho⟩ hl)
section
variable{x f:zW}
theorem md{a:Bool}(X:K.In s.heap)(I:D3i s.heap x dx C mA)(g:plainGet K C name=true)(e:hasDictIn K C=true)
  (d:findIn K (.ref C) name=some none) (c:mA name=some v) (b:PySem.W.handedIn v=true) (h:Q v {s with toks:=s.toks+1}):
  wpAny (model prog w) A (getAttr (.ref x) name a) Q E s:=by
 obtain⟨i,J,f⟩:=I.look;exact PySem.W.get_value X J (PySem.W.plainGet_of g).1 (PySem.W.findObj_own e d rfl (by rw[f,c])) b h
theorem Fc{Q:zX×List zX->zY->Prop}(X:K.In s.heap)(I:D3i s.heap x dx C mA)(a:plainGet K C name=true)
  (e:findIn K (.ref C) name=some (some (.ref f))) (d:isFn K (.ref f)=true) (b:mA name=none) (h:Q (.ref f,[.ref x]) s):
  wpAny (model prog w) A (getMethod (.ref x) name pl) Q E s:=by
 obtain⟨g,J,c⟩:=I.look;exact PySem.W.method_fn X J (PySem.W.plainGet_of a).1 (PySem.W.plainGet_of a).2 e (beq_iff_eq.mp d) (by show(PySem.W.lookIn name g).map (·.isSome)=some false;rw[c,b];rfl) h
theorem Ds{j:zC}{Q:Unit->zY->Prop}(X:K.In s.heap)(I:D3i s.heap x dx C mA)
  (k:findIn K (.ref C) "__setattr__"=some (some (.builtin "object.__setattr__"))) (q:plainOver K C=true) (n:PySem.W.takerIn K C name=some none) (p:hasDictIn K C=true)
  (t:PySem.Within mA j) (hsz:j.length<=sizeLine)
  (h:∀h',D3i h' x dx C (λy=>if y=name then some v else mA y)->Heap.SameBut dx s.heap h'->Q () {s with heap:=h',toks:=s.toks+2}):
  wpAny (model prog w) A (setAttr (.ref x) name v) Q E s:=by
 obtain⟨z,J,D⟩:=I.look;refine PySem.W.set_plain X J k (PySem.W.osa_open (s:={s with toks:=s.toks+1}) (r:=none) X J q n λb=>?_)
 obtain⟨B,o,g⟩:=PySem.W.any_some p;have u:s.heap.get? x=some ⟨.ref C,some dx,.plain,#[]⟩:=I.obj;refine dh (eh (dh (dh (wpAny_loadPart u (dh (PySem.W.Looks.here (s:={s with toks:=s.toks+1}) (PySem.W.looks_clsIn X o) ?_))))));rw[g];refine eh (a:=some dx) (dh (eh (dh ?_)));refine wpAny_nsSet1 (s:={s with toks:=s.toks+1}) I.ns λh' d c=>?_
 obtain⟨F,l,m,i,f,e⟩:=d.count (PySem.Within.cons name v t);refine dh (wpAny_lookBehind i (by rw[f];exact pastItsLine_dict (kX e (by rw[iZ];lia))) ?_);exact eh (h _ ⟨(c.2 _ (Ne.symm I.ne)).trans I.obj,d,I.ne⟩ c)
theorem Ev{vs:zH}(X:K.In s.heap)(c:makesIn K C=true)
  (hi:findIn K (.ref C) "__init__"=some (some (.ref f))) (b:typeIn K (.ref f)=some (.type "function"))
  (h:codeAny (model prog w) (A.under (.builtin "type.__call__" ⟨.ref C::vs,kw⟩)) (.call (.ref f) ⟨.ref (s.heap.objs.size+1)::vs,kw⟩) (PySem.W.InitBack (s.heap.objs.size+1) R)
   {s with heap:=(s.heap.push emptyDict).push (instObj C s.heap.objs.size)}):
  codeAny (model prog w) A (.call (.ref C) ⟨vs,kw⟩) R s:=by
 obtain⟨i,g,d,t,e⟩:=s;exact PySem.W.make_core (PySem.W.makes_of X c) (PySem.W.looks_findIn X hi) (λa=>PySem.W.bind_fn X a b) (.inl rfl) h
end
def iH(f:Str)(v:V):List (Str×V)->List (Str×V)| []=>[(f,v)]|(g,x)::r=>if g=f then (g,v)::r else (g,x)::iH f v r
theorem Au(f g:Str)(v:V):∀fs:zK,(iH f v fs).lookup g=if g=f then some v else fs.lookup g
 | []=>by
  show List.lookup g [(f,v)]=_;by_cases h:g=f
  ·have a:(g==f)=true:=beq_iff_eq.mpr h;simp only [List.lookup,a,fW h]
  ·have a:(g==f)=false:=oB.mpr h;simp only [List.lookup,a,ej h]
 |(k,x)::r=>by
  have b:=Au f g v r;rw[show iH f v ((k,x)::r)=(if k=f then (k,v)::r else (k,x)::iH f v r) from rfl];by_cases hk:k=f
  ·rw[fW hk];by_cases h:g=k
   ·have a:(g==k)=true:=beq_iff_eq.mpr h;simp only [List.lookup,a,fW (h.trans hk)]
   ·have a:(g==k)=false:=oB.mpr h;simp only [List.lookup,a,ej (λe:g=f=>h (e.trans hk.symm))]
  ·rw[ej hk];by_cases h:g=k
   ·have a:(g==k)=true:=beq_iff_eq.mpr h;simp only [List.lookup,a,ej (λe:g=f=>hk (h.symm.trans e))]
   ·have a:(g==k)=false:=oB.mpr h;simp only [List.lookup,a];exact b
theorem ve(f:Str)(v:V):∀fs:zK,f∈(iH f v fs).map (·.1)/\∀g,g∈fs.map (·.1)->g∈(iH f v fs).map (·.1)
 | []=>⟨by simp[iH],λg h=>by simp at h⟩
 |(k,x)::r=>by
  obtain⟨b,a⟩:=ve f v r;rw[show iH f v ((k,x)::r)=(if k=f then (k,v)::r else (k,x)::iH f v r) from rfl];by_cases hk:k=f
  ·rw[fW hk];subst hk;exact⟨by simp,λg h=>by simpa using h⟩
  ·rw[ej hk];refine⟨?_,λg h=>?_⟩
   ·rw[gw];exact lF _ b
   ·rw[gw]at h⊢;rcases gY.mp h with e|e
    ·exact gY.mpr (.inl e)
    ·exact lF _ (a g e)
theorem Ar(f:Str)(v:V):∀fs:zK,(iH f v fs).length<=fs.length+1
 | []=>by simp[iH]
 |(k,x)::r=>by
  have a:=Ar f v r;rw[show iH f v ((k,x)::r)=(if k=f then (k,v)::r else (k,x)::iH f v r) from rfl];by_cases hk:k=f
  ·rw[fW hk,iZ,iZ];lia
  ·rw[ej hk,iZ,iZ];lia
theorem B2g.some_of{v:V}(r:B2g (some v) o):∃u,o=some u/\A2c v u:=by
 cases o with
 |none=>exact(show False from r).elim
 |some u=>exact al u rfl r
theorem B2g.none_of(r:B2g none o):o=none:=by
 cases o with
 |none=>rfl
 |some u=>exact(show False from r).elim
theorem FS{v:V}(r:A2c v u):PySem.W.handedIn u=true:=by
 cases v with
 |non=>cases(show u=Value.none from r);rfl
 |bl b=>cases(show u=Value.bool b from r);rfl
 |int i=>obtain⟨t,e⟩:=(show∃t,u=Value.int i t from r);cases e;rfl
 |str x=>obtain⟨t,e⟩:=(show∃t,u=Value.str x t from r);cases e;rfl
 |byt b=>obtain⟨t,e⟩:=(show∃t,u=Value.bytes b t from r);cases e;rfl
 |flt b=>obtain⟨t,e⟩:=(show∃t,u=Value.float b t from r);cases e;rfl
 |ref a=>cases(show u=Value.ref a from r);rfl
 |ty n=>cases(show u=Value.type n from r);rfl
section
variable{fs fs':zK}
theorem sw(b:HOk P w H h)(e:H a=some (.ins C dx fs)):∃mA,D3i h a dx C mA/\(∀f,B2g (fs.lookup f) (mA f))/\PySem.Within mA (fs.map (·.1))/\fs.length<=1000/\H dx=some (.own a):=by refine vE (show A1g P w H h a (.ins C dx fs) from b a _ e) ?_;rintro d z c g ⟨mA,n,r,q⟩;exact⟨mA,(mi ⟨g,n,c⟩ r q z d)⟩
end
structure Cls(K:Frag)(C:zW):Prop where
 pg:plainGet K C Str.empty=true
 hd:hasDictIn K C=true
 po:plainOver K C=true
 sa:findIn K (.ref C) "__setattr__"=some (some (.builtin "object.__setattr__"))
theorem Cls.get(c:Cls K C)(f:Str):plainGet K C f=true:=c.pg
def A2k(K:Frag)(C:zW)(f:Str):Prop:=findIn K (.ref C) f=some none
theorem A2k.taker{f:Str}(n:A2k K C f):PySem.W.takerIn K C f=some none:=by unfold PySem.W.takerIn;rw[show findIn K (.ref C) f=some none from n];rfl
structure mJ(K:Frag)(C:zW)(m:Str)(f:zW):Prop where
 at_:findIn K (.ref C) m=some (some (.ref f))
 fn:isFn K (.ref f)=true
 kp:keepIn K (.ref f)=true
section
variable{fs:zK}{f:Str}{v:V}
theorem GW{b:Bool}(I:Inv X pins Z H s)(e:H a=some (.ins C dx fs))(c:Cls X.K C)(n:A2k X.K C f)(l:fs.lookup f=some v)
  (h:∀u s',Inv X pins Z H s'->A2c v u->Q u s'):wpAny (model X.prog X.w) A (getAttr (.ref a) f b) Q E s:=by
 obtain⟨g,O,r,_,_,_⟩:=sw I.hok e;obtain⟨u,i,d⟩:=B2g.some_of (v:=v) (o:=g f) (by rw[<-l];exact r f);exact md I.kIn O (c.get f) c.hd n i (FS d) (h u _ (I.tok _) d)
theorem Af{g:zW}{Q:zX×List zX->zY->Prop}(I:Inv X pins Z H s)(e:H a=some (.ins C dx fs))(c:Cls X.K C)(k:mJ X.K C m g)(l:fs.lookup m=none)
  (h:Q (.ref g,[.ref a]) s):wpAny (model X.prog X.w) A (getMethod (.ref a) m pl) Q E s:=by
 obtain⟨d,O,r,_,_,_⟩:=sw I.hok e;have b:d m=none:=B2g.none_of (by rw[<-l];exact r m);exact Fc I.kIn O (c.get m) k.at_ k.fn b h
theorem Hh{Q:Unit->zY->Prop}(I:Inv X pins Z H s)(e:H a=some (.ins C dx fs))(c:Cls X.K C)(n:A2k X.K C f)(D:fs.length<1000)(p:A2c y u)
  (h:∀s',Inv X pins Z (upd H a (.ins C dx (iH f y fs))) s'->Q () s'):wpAny (model X.prog X.w) A (setAttr (.ref a) f u) Q E s:=by
 obtain⟨d,O,r,j,_,i⟩:=sw I.hok e;have t:(fs.map (·.1)).length<=sizeLine:=by rw[eH,sizeLine_eq];lia
 refine Ds I.kIn O c.sa c.po n.taker c.hd j t λl O' B=>h _ ?_;have k:∃o,l.get? dx=some o:=let⟨o,_,_,e',_⟩:=O'.ns;⟨o,e'⟩;refine I.write (x:=a) (e:=dx) (by rw[e];exact True.intro) (.inr i) (λb q m z=>(B.2 b m).trans z) k ?_;refine ip (by rw[dF O.ne];exact i) ?_ O.ne (jP O'.obj _ O'.ns (λg=>?_) λg v=>?_)
 ·have:=Ar f y fs;lia
 ·show B2g ((iH f y fs).lookup g) (if g=f then some u else d g);rw[Au];by_cases q:g=f
  ·rw[fW q,fW q];exact p
  ·rw[ej q,ej q];exact r g
 ·by_cases q:g=f
  ·rw[q];exact(ve f y fs).1
  ·refine(ve f y fs).2 g (j g λz=>v ?_);show(if g=f then some u else d g)=none;rw[ej q];exact z
theorem Inv.made(I:Inv X pins Z H s):Inv X pins Z (upd (upd H s.heap.objs.size (.own (s.heap.objs.size+1))) (s.heap.objs.size+1) (.ins C s.heap.objs.size []))
  {s with heap:=(s.heap.push emptyDict).push (instObj C s.heap.objs.size)}:=by
 have d:(s.heap.push emptyDict).get? s.heap.objs.size=some emptyDict:=ig s.heap rfl
 have f:((s.heap.push emptyDict).push (instObj C s.heap.objs.size)).get? (s.heap.objs.size+1)=some (instObj C s.heap.objs.size):=by
  have:=ig (s.heap.push emptyDict) (o:=instObj C s.heap.objs.size) rfl
  rwa[mZ]at this
 have g:(s.heap.push emptyDict).Ns s.heap.objs.size (λ_=>none):=(gD emptyDict (#[]) _ d rfl (λe h=>absurd h (by simp)) λ_=>rfl);have I1:=I.laid (a:=s.heap.objs.size) (o:=.own (s.heap.objs.size+1)) (h':=s.heap.push emptyDict) (t':=s.toks) (λb u q=>gk _ q) (gf _) ⟨_,d⟩;refine I1.laid (a:=s.heap.objs.size+1) (o:=.ins C s.heap.objs.size []) (t':=s.toks) (λb u q=>gk _ q) (Nat.le_of_eq (mZ _ _)) ?_;have c:s.heap.objs.size≠s.heap.objs.size+1:=jq (Nat.lt_succ_self _);refine ip (by rw[dF c,ee]) (iG _) c (jP f (λ_=>none) ((Heap.Ns1.of_empty g).at λo q=>gk _ q) (λ_=>True.intro) λy i=>absurd rfl i)
theorem DS{a:Env}{f:Str}(b:attributeBase e f a (eval e a)=eval e a)
  (h:wpAny (model prog w) A (eval e a) (λo s₁=>wpAny (model prog w) A (getAttr o f true) Q E s₁) E s):wpAny (model prog w) A (eval (.Attribute e f pos) a) Q E s :=
 Attribute_any_ h (by rw[arm_eval_Attribute,b])
end
def tFld(K:Frag)(ta:TE)(f:Str):TE:=λZ H Q=>ta Z H λx c=>∃a C d b v,x=.ref a/\c a=some (.ins C d b)/\Cls K C/\A2k K C f/\b.lookup f=some v/\Q v c
def sFld(K:Frag)(ta tv:TE)(f:Str):TS:=λD Z H=>tv Z H λy e=>ta Z e λx d=>∃a C c b,x=.ref a/\d a=some (.ins C c b)/\Cls K C/\A2k K C f/\b.length<1000/\
 D.nx Z (upd d a (.ins C c (iH f y b)))
section
variable{o:yC}{f:Str}{ta tv:TE}
theorem iK(p:PE X e ta)(j:attributeBase e f X.env (eval e X.env)=eval e X.env):PE X (.Attribute e f pos) (tFld X.K ta f):=by intro b s Z H Q I h;refine DS j (thn (p b s Z H _ I h) ?_);rintro u z d;refine mG d ?_;clear d;rintro x o I1 m a C r ⟨y,v,g,k,c,n,l,q⟩;subst g;obtain rfl:u=Value.ref a:=m;exact GW I1 k c n l λw t I2 i=>(el v o I2 i q)
theorem jX(t:PE X o ta)(r:PE X value tv)(e:swapsWith value (some (.Attribute o f pos')) pos.line X.env=pure false):PS X (.Assign [.Attribute o f pos'] value pos) (sFld X.K ta tv f):=by intro b s Z H D I h;refine plainObj_wpAny_Assign_Attribute (thn (r b s Z H _ I h) ?_) e;rintro u m ⟨y,k,I1,i,q⟩;refine thn (t b m Z k _ I1 q) ?_;rintro w F d;refine mG d ?_;clear d;rintro x G I2 v a C B ⟨A,p,j,c,n,l,g⟩;subst p;obtain rfl:w=Value.ref a:=v;exact Hh I2 j c n l i λz I3=>(iy Z _ I3 g)
end
section
variable{c:zX}{b:Bool}
inductive km(K:Frag)(H:Hp):V->zX->Prop where
 |non:km K H .non (.type "NoneType")
 |bl (x:Bool):km K H (.bl x) (.type "bool")
 |int (i:Int):km K H (.int i) (.type "int")
 |str (x:Str):km K H (.str x) (.type "str")
 |flt (x:UInt64):km K H (.flt x) (.type "float")
 |lst {a:zW} {xs:zM} (e:H a=some (.lst xs)):km K H (.ref a) (.type "list")
 |frz {a:zW} {o:Obj} {xs:zM} (e:H a=some (.frz o (.lst xs))):km K H (.ref a) (.type "list")
 |tup {a:zW} {xs:zM} (e:H a=some (.tup xs)):km K H (.ref a) (.type "tuple")
 |dK {a:zW} {kvs:zJ} (e:H a=some (.dK kvs)):km K H (.ref a) (.type "dict")
 |dT {a:zW} {kvs:List (List Key×V)} (e:H a=some (.dT kvs)):km K H (.ref a) (.type "dict")
 |ins {a C dx:zW} {fs:zK} (e:H a=some (.ins C dx fs)) (cl:Cls K C) (ha:findIn K (.ref C) "__class__"=some (some (.builtin "object.__class__")))
   (hn:specialIn K (.builtin "object.__class__") "__get__"=some (some (.builtin "getset_descriptor.__get__"))) (htk:takesIn K (.builtin "object.__class__")=some true)
   (hm:mroIn K C (.type "object")=some true):km K H (.ref a) (.ref C)
theorem Gk{x:V}{t:zX}(I:Inv X pins Z H s)(d:A2c x u)(ty:km X.K H x t)(e:kitOne X.K t c=some b)(h:∀tk,Q (.bool b) {s with toks:=tk}):
  wpAny (model X.prog X.w) A (call (.builtin "isinstance") [u,c]) Q E s:=by
 cases ty with
 |non=>cases(show u=Value.none from d);exact PySem.W.kia_one PySem.W.kitx_none I.kIn True.intro e (λz=>nomatch z) h
 |bl y=>cases(show u=Value.bool y from d);exact PySem.W.kia_one PySem.W.kitx_bool I.kIn True.intro e (λz=>nomatch z) h
 |int i=>obtain⟨t,q⟩:=(show∃t,u=Value.int i t from d);cases q;exact PySem.W.kia_one PySem.W.kitx_int I.kIn True.intro e (λz=>nomatch z) h
 |str y=>obtain⟨t,q⟩:=(show∃t,u=Value.str y t from d);cases q;exact PySem.W.kia_one PySem.W.kitx_str I.kIn True.intro e (λz=>nomatch z) h
 |flt y=>obtain⟨t,q⟩:=(show∃t,u=Value.float y t from d);cases q;exact PySem.W.kia_one PySem.W.kitx_float I.kIn True.intro e (λz=>nomatch z) h
 |@lst a g ea=>
  cases(show u=Value.ref a from d)
  obtain⟨_,_,n,_,f⟩:=(show A1g X.prog X.w H s.heap a (.lst g) from I.hok a _ ea);exact PySem.W.kia_one PySem.W.kitx_list I.kIn (al _ f rfl) e (λz=>nomatch z) h
 |@frz a ob g ea=>
  cases(show u=Value.ref a from d)
  obtain⟨_,_,_,n,_,f⟩:=(show A1g X.prog X.w H s.heap a (.frz ob (.lst g)) from I.hok a _ ea);exact PySem.W.kia_one PySem.W.kitx_list I.kIn (al _ f rfl) e (λz=>nomatch z) h
 |@tup a g ea=>
  cases(show u=Value.ref a from d)
  obtain⟨_,_,_,p⟩:=(show A1g X.prog X.w H s.heap a (.tup g) from I.hok a _ ea);obtain⟨o,f,j,_⟩:=p;exact PySem.W.kia_one PySem.W.kitx_tuple I.kIn (al o f j) e (λz=>nomatch z) h
 |@dK a kvs ea=>
  cases(show u=Value.ref a from d)
  obtain⟨_,_,v,_,p⟩:=(show A1g X.prog X.w H s.heap a (.dK kvs) from I.hok a _ ea);obtain⟨o,l,k,f,j,_⟩:=p;exact PySem.W.kia_one PySem.W.kitx_dict I.kIn (al o f j.1) e (λz=>nomatch z) h
 |@dT a kvs ea=>
  cases(show u=Value.ref a from d)
  refine jR (show A1g X.prog X.w H s.heap a (.dT kvs) from I.hok a _ ea) ?_;rintro _ _ g _ o l k f ⟨j,_⟩;exact PySem.W.kia_one PySem.W.kitx_dict I.kIn (al o f j.1) e (λz=>nomatch z) h
 |@ins a C dx fs ea cl ha hn htk hm=>
  cases(show u=Value.ref a from d)
  obtain⟨m,O,_⟩:=sw I.hok ea;obtain⟨r,J,_⟩:=O.look;exact PySem.W.kia_one (PySem.W.kitx_own (cl.get _) cl.hd ha hn htk hm) I.kIn J e (λz=>nomatch z) h
end
structure A8d(k:Nat)(A:zZ):Prop where
 hd:A.handled=none
 dp:A.depth+3*k+5<recursionLimit
 un:A.units+16*k+200<cLine
 gd:A.guards=some []
theorem A8d.mono{k:Nat}(r:A8d k A)(h:j<=k):A8d j A:=⟨r.hd,by have:=r.dp;lia,by have:=r.un;lia,r.gd⟩
theorem A8d.deeper{k:Nat}(r:A8d (k+1) A)(a:Env):A8d k (A.deeper a):=⟨r.hd,by have:=r.dp;show A.depth+1+3*k+5<_;lia,by have:=r.un;show A.units+3+16*k+200<_;lia,r.gd⟩
theorem GX:(A.under (.builtin "type.__call__" ⟨.ref C::us,kw⟩)).depth=A.depth+1:=by first|rfl|simp[Around.under,Code.weight,Code.isCreation,Code.isGuard,Code.isCaller,Code.frames,Code.isFrame,guardIds]
theorem Hr:(A.under (.builtin "type.__call__" ⟨.ref C::us,kw⟩)).units=A.units+1:=by first|rfl|simp[Around.under,Code.cUnits,Code.frames,Code.isFrame]
theorem HM:(A.under (.builtin "type.__call__" ⟨.ref C::us,kw⟩)).guards=A.guards:=by
 show pushGuards (Code.guards (.builtin "type.__call__" ⟨.ref C::us,kw⟩)) A.guards=A.guards;have h:Code.isGuard (.builtin "type.__call__" ⟨.ref C::us,kw⟩)=false:=by first|rfl|(simp[Code.isGuard,guardIds])|decide
 unfold Code.guards;rw[h];cases A.guards<;>rfl
theorem A8d.make{k:Nat}(r:A8d (k+1) A)(C:zW)(us:zH)(kw:List (Str×zX)):A8d k (A.under (.builtin "type.__call__" ⟨.ref C::us,kw⟩)):=⟨r.hd,by have:=r.dp;rw[GX];lia,by have:=r.un;rw[Hr];lia,by rw[HM];exact r.gd⟩
theorem A8d.depth{k:Nat}(r:A8d k A):A.depth<recursionLimit:=by have:=r.dp;lia
theorem A8d.units{k:Nat}(r:A8d k A):A.units+64<cLine:=by have:=r.un;lia
def tO:TA:=λ_ H Q=>Q [] H
def we(ta:TE)(a:TA):TA:=λZ H Q=>ta Z H λx c=>a Z c λd b=>Q (x::d) b
section
variable{X:Cx}{e:yC}{es:zT}{te:TE}{t:TA}{pos:Pos}
theorem eg:PA X [] tO:=λ_ _ _ _ H Q I h=>Calls.spliced_nil (el [] H I .nil h)
theorem dV(d:PE X e te)(i:PA X es t)(c:starEach (e::es) X.env=(false,eval e X.env)::starEach es X.env:=by rfl):PA X (e::es) (we te t):=by intro b a s Z H Q I h;rw[c];show wpAny _ _ (spliced ((false,eval e X.env)::backTo b (starEach es X.env))) _ _ s;refine Calls.spliced_cons (thn (d a s Z H _ I h) ?_);rintro u n ⟨x,m,I1,j,g⟩;exact thn (i b a n Z m _ I1 g) (by rintro q p ⟨o,l,I2,k,f⟩;exact el (x::o) l I2 (.cons j k) f)
def tTup(t:TA):TE:=λZ H Q=>t Z H λb a=>b.length<=sizeLine/\∀p,a p=none->Q (.ref p) (upd a p (.tup b))
def tLst(t:TA):TE:=λZ H Q=>t Z H λb a=>b.length<=sizeLine/\∀p,a p=none->Q (.ref p) (upd a p (.lst b))
theorem ir{x1}(h:PA X es t):PE X (.Tuple es x1 pos) (tTup t):=by intro a s Z H Q I i;refine wpAny_Tuple_spliced (thn (h pos a s Z H _ I i) λf c ⟨j,d,I1,r,z,q⟩=>⟨by rw[<-r.length];exact z,?_⟩);have g:d c.heap.objs.size=none:=I1.hok.fresh (gf _);refine el (.ref c.heap.objs.size) (upd d c.heap.objs.size (.tup j)) (I1.laid (t':=c.toks) (λb u e=>gk _ e) (gf _) ?_) rfl (q _ g);exact pi z f r _ (ig _ rfl) rfl _ rfl
theorem hY(h:PA X es t):PE X (.List es pos) (tLst t):=by intro a s Z H Q I i;refine wpAny_List_spliced (thn (h pos a s Z H _ I i) λf c ⟨j,d,I1,r,z,q⟩=>⟨by rw[<-r.length];exact z,?_⟩);have g:d c.heap.objs.size=none:=I1.hok.fresh (gf _);refine el (.ref c.heap.objs.size) (upd d c.heap.objs.size (.lst j)) (I1.laid (t':=c.toks) (λb u e=>gk _ e) (gf _) ?_) rfl (q _ g);exact kc z f 0 r (ig _ rfl)
end
abbrev Sp:=zM->Hp->VK->XK->Prop
abbrev CXT:=List Env->Hp->zY->XK->zX->zY->Prop
structure D4a(P:yB)(w:yD)(K:Frag)(mg:zE)(base:yA)(A:zZ)(outer:List Env)(s:zY)(H:Hp):Prop where
 frames:A.frames=some outer
 mod:Mod K mg base
 bs:∀b o,base.get? b=some o->s.heap.get? b=some o/\H b=none
 bsz:base.objs.size<=s.heap.objs.size
 funs:s.heap.FunFrames base outer
 frf:∀b∈frs outer,H b=none
 hok:HOk P w H s.heap
 bare:AllBare s.gens
def CE(outer:List Env)(P:yB)(w:yD)(H:Hp)(s:zY)(Q:VK)(u:zX)(s':zY):Prop :=∃v a,s'.os=s.os/\AllBare s'.gens/\Un (frs outer) [] H a s.heap s'.heap/\HOk P w a s'.heap/\A2c v u/\Q v a
def CR(CX:CXT)(outer:List Env)(P:yB)(w:yD)(H:Hp)(s:zY)(Q:VK)(E:XK)(r:Result)(s':zY):Prop :=
 match r with
 |.ok (.ret u)=>CE outer P w H s Q u s'
 |.ok _=>False
 |.error e=>CX outer H s E e s'
structure A5j(P:yB)(w:yD)(K:Frag)(mg:zE)(base:yA)(CX:CXT)(k:Nat)(f:zW)(fd:zS)(ps:zC)(sp:Sp):Prop where
 len:∀vs H Q E,sp vs H Q E->vs.length=ps.length
 run:∀(A:zZ)(outer:List Env)(s:zY)(H:Hp)(args:Args)(us:zH)(vs:zM)(Q:VK)(E:XK),A8d k A->D4a P w K mg base A outer s H->BindsTo s fd args (ps.zip us)->A2f vs us->sp vs H Q E->
  codeAny (model P w) A (.call (.ref f) args) (CR CX outer P w H s Q E) s
theorem A5j.mono{k:Nat}{f:zW}{sp:Sp}(F:A5j P w K mg base CX j f fd ps sp)(h:j<=k):
  A5j P w K mg base CX k f fd ps sp:=⟨F.len,λA a s H b d c Q E e=>F.run A a s H b d c Q E (e.mono h)⟩
theorem D4a.make(e:D4a P w K mg base A outer s H)(C:zW)(us:zH)(kw:List (Str×zX)):
  D4a P w K mg base (A.under (.builtin "type.__call__" ⟨.ref C::us,kw⟩)) outer s H:=⟨by first|exact e.frames|(simpa[Around.under,Code.envs,Code.isFrame,pushEnvs]using e.frames),e.mod,e.bs,e.bsz,e.funs,e.frf,e.hok,e.bare⟩
theorem Inv.env0(I:Inv X pins Z H s):D4a X.prog X.w X.K X.mg X.base X.A X.stack s H :=⟨I.ok.frames,I.ok.mod,I.bs,kX I.ok.bsz I.sz,I.stack,I.stkFree,I.hok,I.bare⟩
theorem Inv.after{Q:VK}(I:Inv X pins Z H s)(h:CE X.stack X.prog X.w H s Q u s'):EP X pins Z Q u s':=by refine jo h ?_;clear h;rintro v j f a i ⟨c,r,q⟩;obtain⟨k,g,d,t,e⟩:=s';obtain rfl:e=s.os:=f;exact el v j (I.call (h':=k) (g':=g) (d':=d) (t':=t) (ch:=[]) i c a (λb z=>absurd z (by simp))) r q
def wj(sp:Sp)(dvs:zM)(E:XK)(t:TA):TE:=λZ H Q=>t Z H λa b=>sp (a++dvs) b Q E
def Bf(C:zW)(m:Str)(sp:Sp)(dvs:zM)(E:XK)(ta:TE)(t:TA):TE:=λZ H Q=>ta Z H λx c=>∃a d b,x=.ref a/\c a=some (.ins C d b)/\b.lookup m=none/\
 t Z c λe f=>sp (x::(e++dvs)) f Q E
def ua(C:zW)(sp:Sp)(dvs:zM)(E:XK)(t:TA):TE:=λZ H Q=>t Z H λc b=>∀x a,b x=none->b a=none->a≠x->
 sp (.ref x::(c++dvs)) (upd (upd b a (.own x)) x (.ins C a [])) (λv d=>v=.non/\Q (.ref x) d) E
def A8v(K:Frag)(fd:zS)(ps:zC)(ds:zH):Prop :=∀(s:zY)(a:zH),K.In s.heap->(a++ds).length=ps.length->BindsTo s fd ⟨a,[]⟩ (ps.zip (a++ds))
theorem A8v.all(h:∀us:zH,us.length=ps.length->bindArgs fd ⟨us,[]⟩=pure (ps.zip us)):A8v K fd ps []:=λs us _ a=>by rw[lT]at a⊢;exact .of_eq (h us a)
def oQ(CX:CXT)(X:Cx)(E:XK):Prop:=∀(a:zD)(Z:St)(H:Hp)(s:zY)(e:zX)(b:zY),Inv X a Z H s->CX X.stack H s E e b->X.xe e b
section
variable{CX:CXT}{k:Nat}{f:zW}{sp:Sp}{E:XK}{o:yC}{ta:TE}{t:TA}
theorem uH{Q:VK}(F:A5j X.prog X.w X.K X.mg X.base CX k f fd ps sp)(j:A8d k X.A)(g:A8v X.K fd ps ds)(d:A2f dvs ds)(l:oQ CX X E)
  (I:Inv X pins Z H s) (r:A2f vs us) (h:sp (vs++dvs) H Q E):wpAny (model X.prog X.w) X.A (call (.ref f) us) (EP X pins Z Q) X.xe s:=by
 have b:A2f (vs++dvs) (us++ds):=r.append d;have i:(us++ds).length=ps.length:=by rw[<-b.length];exact F.len _ _ _ _ h
 refine wpAny_call (codeAny_mono (F.run X.A X.stack s H ⟨us,[]⟩ (us++ds) (vs++dvs) Q E j I.env0 (g s us I.kIn i) b h) λr c a=>?_)
 cases r with
 |error e=>exact l pins Z H s e c I a
 |ok fl=>
  cases fl with
  |ret u=>exact I.after a
  |next=>exact False.elim a
  |brk=>exact False.elim a
  |cont=>exact False.elim a
theorem D9(F:A5j X.prog X.w X.K X.mg X.base CX k f fd ps sp)(l:A8d k X.A)(m:Gl X x)(j:X.mg x=some (.ref f))(n:keepIn X.K (.ref f)=true)(i:A8v X.K fd ps ds)(g:A2f dvs ds)(u:oQ CX X E)
  (d:PA X (e::es) t) (c:(x==("__debug__":Str))=false:=by decide) (o:starEach (e::es) X.env=(false,eval e X.env)::starEach es X.env:=by rfl) (b:(backTo pos (starEach es X.env)).any (·.1)=false:=by rfl):
  PE X (.Call (.Name x p) (e::es) [] pos) (wj sp dvs E t):=by
 intro a s Z H Q I h;refine wpAny_Call_Name_kw (uO I m j ?_ c);refine PySem.W.callWith_K (h₀:=X.base) I.ok.mod.kin n (thn (d pos a s Z H _ I h) λv B ⟨y,z,I1,r,q⟩=>⟨I1.kIn,?_⟩) o b;exact uH F l i g u I1 r q
theorem uU(D:PE X o ta)(c:Cls X.K C)(i:mJ X.K C m f)(F:A5j X.prog X.w X.K X.mg X.base CX k f fd ps sp)(y:A8d k X.A)(L:A8v X.K fd ps ds)(p:A2f dvs ds)(O:oQ CX X E)(J:PA X (e::es) t)
  (g:starEach (e::es) X.env=(false,eval e X.env)::starEach es X.env:=by rfl) (d:(backTo pos (starEach es X.env)).any (·.1)=false:=by rfl)
  (M:eval (.Call (.Attribute o m apos) (e::es) [] pos) X.env=(do
   let ov<-eval o X.env
   standAt apos.atName
   let(f,first)<-holding [ov] (getMethod ov m pl)
   callWith pos f first (backTo pos (starEach (e::es) X.env)) (backToKw pos (keywordEach [] X.env))):=by rfl):
  PE X (.Call (.Attribute o m apos) (e::es) [] pos) (Bf C m sp dvs E ta t):=by
 intro b s Z H Q I h;refine PySem.W.methodCall_KW (pl:=pl) (thn (D b s Z H _ I h) ?_) M;rintro u B j;refine mG j ?_;clear j;rintro x z I1 N a R P ⟨G,v,l,q⟩;subst G;obtain rfl:u=Value.ref a:=N;refine Af I1 v c i l ?_;refine PySem.W.callWith_K (first:=[.ref a]) (h₀:=X.base) I.ok.mod.kin i.kp (thn (J pos b B Z z _ I1 q) λus S ⟨vs,T,I2,r,n⟩=>⟨I2.kIn,?_⟩) g d;exact uH (us:=.ref a::us) (vs:=.ref a::vs) F y L p O I2 (.cons rfl r) n
structure Mk(K:Frag)(C f:zW):Prop where
 makes:makesIn K C=true
 init:findIn K (.ref C) "__init__"=some (some (.ref f))
 fn:isFn K (.ref f)=true
 kp:keepIn K (.ref C)=true
theorem ye{Q:VK}(M:Mk X.K C f)(F:A5j X.prog X.w X.K X.mg X.base CX k f fd ps sp)(n:A8d (k+1) X.A)(i:A8v X.K fd ps ds)(g:A2f dvs ds)
  (q:oQ CX X E) (I:Inv X pins Z H s) (r:A2f vs us)
  (h:∀x dx,H x=none->H dx=none->dx≠x->sp (.ref x::(vs++dvs)) (upd (upd H dx (.own x)) x (.ins C dx [])) (λv H2=>v=.non/\Q (.ref x) H2) E):
  wpAny (model X.prog X.w) X.A (call (.ref C) us) (EP X pins Z Q) X.xe s:=by
 have b:=h (s.heap.objs.size+1) s.heap.objs.size (I.hok.fresh (Nat.le_succ _)) (I.hok.fresh (gf _)) (jq (Nat.lt_succ_self _));have I2:=Inv.made (C:=C) I;have c:A2f (V.ref (s.heap.objs.size+1)::(vs++dvs)) (Value.ref (s.heap.objs.size+1)::(us++ds)):=.cons rfl (r.append g)
 have l:(Value.ref (s.heap.objs.size+1)::us++ds).length=ps.length:=by have e:=c.length;rw[F.len _ _ _ _ b]at e;exact e.symm
 refine wpAny_call (Ev (f:=f) I.kIn M.makes M.init (beq_iff_eq.mp M.fn) (codeAny_mono (F.run _ X.stack _ _ ⟨Value.ref (s.heap.objs.size+1)::us,[]⟩ (Value.ref (s.heap.objs.size+1)::(us++ds)) _ _ E (n.make C us [])
  (I2.env0.make C us []) (i _ (Value.ref (s.heap.objs.size+1)::us) I2.kIn l) c b) λr d a=>?_))
 cases r with
 |error e=>exact q pins Z _ _ e d I2 a
 |ok fl=>
  cases fl with
  |ret u=>obtain⟨v,o,I3,j,m,p⟩:=I2.after a;subst m;exact iU j (V.ref (s.heap.objs.size+1)) o I3 rfl p
  |next=>exact False.elim a
  |brk=>exact False.elim a
  |cont=>exact False.elim a
theorem DG(M:Mk X.K C f)(F:A5j X.prog X.w X.K X.mg X.base CX k f fd ps sp)(l:A8d (k+1) X.A)(m:Gl X x)(j:X.mg x=some (.ref C))(i:A8v X.K fd ps ds)(g:A2f dvs ds)(o:oQ CX X E)
  (d:PA X (e::es) t) (c:(x==("__debug__":Str))=false:=by decide) (n:starEach (e::es) X.env=(false,eval e X.env)::starEach es X.env:=by rfl) (b:(backTo pos (starEach es X.env)).any (·.1)=false:=by rfl):
  PE X (.Call (.Name x p) (e::es) [] pos) (ua C sp dvs E t):=by
 intro a s Z H Q I h;refine wpAny_Call_Name_kw (uO I m j ?_ c);refine PySem.W.callWith_K (h₀:=X.base) I.ok.mod.kin M.kp (thn (d pos a s Z H _ I h) λu z ⟨v,y,I1,r,q⟩=>⟨I1.kIn,?_⟩) n b;exact ye M F l i g o I1 r q
theorem E9(M:Mk X.K C f)(F:A5j X.prog X.w X.K X.mg X.base CX k f fd ps sp)(i:A8d (k+1) X.A)(j:Gl X x)(g:X.mg x=some (.ref C))(e:A8v X.K fd ps ds)(c:A2f dvs ds)(d:oQ CX X E)
  (a:(x==("__debug__":Str))=false:=by decide):PE X (.Call (.Name x p) [] [] pos) (ua C sp dvs E tO):=by
 intro b s Z H Q I h;refine wpAny_Call_Name_kw (uO I j g ?_ a);exact PySem.W.callWith_K0 I.kIn M.kp (ye (us:=[]) M F i e c d I .nil h)
end
section
variable{CX:CXT}{k:Nat}{f:zW}{sp:Sp}{E:XK}{o:yC}{te ta:TE}{t tk:TA}
variable{g:zH->List zX->List zX}
end
structure gO(N P:zC)(sc:Scope):Prop where
 kind:sc.kind=.function
 co:sc.isCoroutine=false
 gen:sc.isGenerator=false
 nd:N.Nodup
 pre:N.take P.length=P
 par:∀x∈P,sc.names.lookup x=some .local\/sc.names.lookup x=some .cell
 nofree:∀y∈sc.names,y.2≠.free
theorem zn{b:Str->Option NameKind}{x:Str}:∀{a:List (Str×zX)}{m:zE},(∀v,(x,v)∉a)->bindL b a m x=m x
 | [],_,_=>rfl
 |(n,v)::r,m,h=>by
  unfold bindL;rw[zn λw c=>h w (lF _ c)];split
  ·have:x≠n:=by rintro rfl;exact h v lD
   simp[this]
  ·rfl
theorem zo{b:Str->Option NameKind}{x:Str}:∀{a:List (Str×zX)}{m:zE},(∀v,(x,v)∉a)->bindC b a m x=m x
 | [],_,_=>rfl
 |(n,v)::r,m,h=>by
  unfold bindC;rw[zo λw c=>h w (lF _ c)];split
  ·rfl
  ·have:x≠n:=by rintro rfl;exact h v lD
   simp[this]
theorem yI{a:Str->Option NameKind}{x:Str}{v:zX}:∀{P:zC}{vs:zH}{i:Nat}{m:zE},P.Nodup->P[i]?=some x->vs[i]?=some v->a x=some .local->
  bindL a (P.zip vs) m x=some v
 | [],_,_,_,_,h,_,_=>by simp at h
 |_::_,[],_,_,_,_,h,_=>by simp at h
 |p::P,w::vs,0,m,nd,h1,h2,hk=>by simp at h1 h2;subst h1;subst h2;show bindL a ((p,w)::P.zip vs) m p=_;unfold bindL;rw[zn λv b=>(lS.mp nd).1 (List.of_mem_zip b).1,fW hk];simp
 |p::P,w::vs,i+1,m,nd,h1,h2,hk=>by show bindL a ((p,w)::P.zip vs) m x=_;unfold bindL;exact yI (i:=i) (lS.mp nd).2 (by simpa using h1) (by simpa using h2) hk
theorem yK{a:Str->Option NameKind}{x:Str}{v:zX}:∀{P:zC}{vs:zH}{i:Nat}{m:zE},P.Nodup->P[i]?=some x->vs[i]?=some v->a x≠some .local->
  bindC a (P.zip vs) m x=some v
 | [],_,_,_,_,h,_,_=>by simp at h
 |_::_,[],_,_,_,_,h,_=>by simp at h
 |p::P,w::vs,0,m,nd,h1,h2,hk=>by simp at h1 h2;subst h1;subst h2;show bindC a ((p,w)::P.zip vs) m p=_;unfold bindC;rw[zo λv b=>(lS.mp nd).1 (List.of_mem_zip b).1,ej hk];simp
 |p::P,w::vs,i+1,m,nd,h1,h2,hk=>by show bindC a ((p,w)::P.zip vs) m x=_;unfold bindC;exact yK (i:=i) (lS.mp nd).2 (by simpa using h1) (by simpa using h2) hk
def nZ(N:zC)(vs:zM):St:=vs.map some++List.replicate (N.length-vs.length) none
def pA(CX:CXT)(P:yB)(w:yD)(K:Frag)(mg:zE)(base:yA)(N:zC)(qual:Str)(scope:Scope)(f:zW)(cd:zX)(A:zZ)(outer:List Env)(s:zY)(H:Hp)(E:XK):Cx where
 prog:=P
 w:=w
 K:=K
 mg:=mg
 base:=base
 A:=A.deeper (envOfC qual scope s.heap.objs.size f cd)
 N:=N
 s₀:=s
 H₀:=H
 env:=envOfC qual scope s.heap.objs.size f cd
 outer:=outer
 stack:=envOfC qual scope s.heap.objs.size f cd::outer
 ex:=[]
 calm:=true
 fn:=λ_=>true
 pn:=[]
 xe:=λe c=>wpAny (model P w) (A.deeper (envOfC qual scope s.heap.objs.size f cd)) (leaving (envOfC qual scope s.heap.objs.size f cd) e) (λ_ a=>CX outer H s E e a) (λb a=>CX outer H s E b a) c
theorem yi{a:Scope}(h:a.names.lookup x=some .cell):∃c,(cellsFrom n a.names []).lookup x=some c:=by have q:=PySem.W.cellsFrom_some a.names n [] (.inl h);exact Option.isSome_iff_exists.mp q
theorem F9{f:zW}{E:XK}
  (S:gO N ps scope) (G:A.handled=none) (g:D4a P w K mg base A outer s H) (L:vs.length=ps.length) (r:A2f vs us)
  (x:InCallC s s.heap.objs.size (bindL (envOfC qual scope s.heap.objs.size f cd).kindOf (ps.zip us) λ_=>none) (cellsFrom (s.heap.objs.size+1) scope.names []) (bindC (envOfC qual scope s.heap.objs.size f cd).kindOf (ps.zip us) λ_=>none) s1):
  Inv (pA CX P w K mg base N qual scope f cd A outer s H E) [] (nZ N vs) H s1:=by
 have J:ps.length<=N.length:=by have:=congrArg List.length S.pre;rw[iP]at this;lia
 obtain⟨t,O,rfl,D⟩:=x.done;have l:∀b:zW,b∉(pA CX P w K mg base N qual scope f cd A outer s H E).ex:=λb z=>absurd (show b∈([]:zQ) from z) (by simp)
 refine⟨⟨g.mod,S.kind,rfl,rfl,gf _,λy z c t d=>?_,λy j=>?_,λy c _ h=>?_,λ_=>G,Around.frames_deeper g.frames,.inr ⟨rfl,rfl⟩,λb z=>absurd z (l b),g.bs,g.bsz,λb _ _=>l b,λb z=>absurd z (l b),g.funs,g.frf⟩,
  rfl,g.bare,Un.kept D,(al _ x.toInCall.ns λi y v t d M=>?_),λy c h=>⟨_,x.cell y c h⟩,g.hok.fresh (gf _),λy c h=>?_,λp o=>absurd (show p∈([]:zD) from o) (by simp),g.hok.kept D,?_⟩
 ·exact name_of_addr x.apart (PySem.mem_of_lookup t) (PySem.mem_of_lookup d)
 ·have j:scope.names.lookup y=some .cell\/scope.names.lookup y=some .free:=j;rcases j with j|j
  ·exact yi j
  ·exact absurd rfl (S.nofree _ (PySem.mem_of_lookup j))
 ·exact Nat.le_of_lt (x.above y c (PySem.mem_of_lookup h))
 ·have B:i<vs.length:=by
   unfold nZ at d;by_cases B:i<vs.length
   ·exact B
   ·rw[nu (by simpa using B)]at d;rw[List.getElem?_replicate]at d;split at d<;>cases d
  have F:vs[i]?=some v:=by
   unfold nZ at d;rw[lQ (by simpa using B),gP]at d
   cases e:vs[i]? with
   |none=>rw[e]at d;cases d
   |some a=>rw[e]at d;cases d;rfl
  obtain⟨u,C,I⟩:=r.get F
  have o:ps[i]?=some y:=by rw[<-S.pre,List.getElem?_take_of_lt (by lia)];exact t
  have m:ps.Nodup:=by rw[<-S.pre];exact S.nd.sublist (List.take_sublist _ _)
  refine al u I ?_;rcases S.par y (gT o)with k|k
  ·exact .inl ⟨k,yI m o C k⟩
  ·obtain⟨c,e⟩:=yi (n:=s.heap.objs.size+1) k;refine .inr (gF (.inl k) c e ?_);have q:=x.cell y c e;rw[yK m o C (by show scope.names.lookup y≠_;rw[k];decide)]at q;exact q
 ·exact g.hok.fresh (Nat.le_of_lt (x.above y c (PySem.mem_of_lookup h)))
 ·unfold nZ;show _=N.length;rw[gz,eH,List.length_replicate]
  lia
theorem Bz{k:Nat}{f:zW}{c:Arguments}{F kV j a:zX}
 {N:zC} {sp:Sp} (lk:K.lookup f=some ⟨oc,od,.func (fnOf name qual c body scope F kV j pm an a ct),osl⟩) (D:codeIn K a qual=true) (S:gO N ps scope)
  (p:∀vs H Q E,sp vs H Q E->vs.length=ps.length)
  (g:∀(A:zZ)(outer:List Env)(s:zY)(H:Hp)(vs:zM)(Q:VK)(E:XK),A8d k (A.deeper (envOfC qual scope s.heap.objs.size f a))->sp vs H Q E->
   ∃t,PSs (pA CX P w K mg base N qual scope f a A outer s H E) body t/\t {nx:=λ_ H'=>Q .non H',rt:=Q} (nZ N vs) H):
  A5j P w K mg base CX (k+1) f (fnOf name qual c body scope F kV j pm an a ct) ps sp:=by
 refine⟨p,λA outer s H G X vs Q E B m M r l=>?_⟩;have R:=p _ _ _ _ l;have KX:K.In s.heap:=m.mod.kin.keeps λb o e=>(m.bs b o e).1;have z:s.heap.NoLimit:=m.mod.nolimit.keeps λb o e=>(m.bs b o e).1
 have d:∀y∈ps.zip X,scope.names.lookup y.1=some .local\/(scope.names.lookup y.1=some .cell/\((cellsFrom (s.heap.objs.size+1) scope.names []).lookup y.1).isSome=true):=λ⟨n,v⟩ Z=>by
  rcases S.par n (List.of_mem_zip Z).1 with q|q
  ·exact .inl q
  ·exact .inr ⟨q,PySem.W.cellsFrom_some _ _ _ (.inl q)⟩
 refine codeAny_call_function B.depth (KX _ _ lk) rfl S.co S.gen rfl (PySem.W.codeRec_of KX D) (M _ _ _ _ ?_);refine wpAny_newFunctionEnv_cells S.kind d λO L s1 x=>?_;subst L;refine⟨z.keeps x.toInCall.keep,codeAny_func ?_⟩;obtain⟨t,T,Y⟩:=g A outer s H vs Q E (B.deeper _) l;have I:Inv (pA CX P w K mg base N qual scope f a A outer s H E) [] (nZ N vs) H s1:=F9 S B.hd m R r x;refine jT (T [] s1 (nZ N vs) H _ I Y) (λU s' h=>?_) λe s' h=>h
 have i:∀{Z':St}{H':Hp}{v:V}{u:zX},Inv (pA CX P w K mg base N qual scope f a A outer s H E) [] Z' H' s'->A2c v u->Q v H'->CE outer P w H s Q u s' :=λ{Z' H' v u} J C q=>(mY v H' J.os J.bare J.base J.hok C q)
 cases U with
 |ret u=>obtain⟨v,Z',H',J,C,q⟩:=h;exact i J C q
 |next=>obtain⟨Z',H',J,q⟩:=h;exact i (v:=V.non) (u:=Value.none) J rfl q
 |brk=>obtain⟨_,_,_,q⟩:=h;exact False.elim q
 |cont=>obtain⟨_,_,_,q⟩:=h;exact False.elim q
section
variable{t:TA}{id:String}{r:zM->Hp->VK->Prop}
def tCB(r:zM->Hp->VK->Prop)(t:TA):TE:=λZ H Q=>t Z H λa b=>r a b Q
theorem iL(l:mN X (.builtin id) r)(k:Gl X x)(i:X.mg x=none)(d:bootBuiltins x=some (.builtin id))(f:PA X (e::es) t)(m:x≠"__name__":=by decide)(c:(x==("__debug__":Str))=false:=by decide)
  (v:starEach (e::es) X.env=(false,eval e X.env)::starEach es X.env:=by rfl) (b:(backTo pos (starEach es X.env)).any (·.1)=false:=by rfl):PE X (.Call (.Name x p) (e::es) [] pos) (tCB r t):=by
 intro a s Z H Q I h;refine wpAny_Call_Name_kw (nF I k i d ?_ m c);exact PyProof.Rows.callWith_builtin1 (thn (f pos a s Z H _ I h) (by rintro j u ⟨n,q,I1,o,g⟩;exact l a u Z q n j Q I1 o g)) v b
theorem lA(l:mN X (.type T) r)(k:Gl X x)(i:X.mg x=none)(d:bootBuiltins x=some (.type T))(f:PA X (e::es) t)(m:x≠"__name__":=by decide)(c:(x==("__debug__":Str))=false:=by decide)
  (v:starEach (e::es) X.env=(false,eval e X.env)::starEach es X.env:=by rfl) (b:(backTo pos (starEach es X.env)).any (·.1)=false:=by rfl):PE X (.Call (.Name x p) (e::es) [] pos) (tCB r t):=by
 intro a s Z H Q I h;refine wpAny_Call_Name_kw (nF I k i d ?_ m c);exact PyProof.Rows.callWith_type1 (thn (f pos a s Z H _ I h) (by rintro j u ⟨n,q,I1,o,g⟩;exact l a u Z q n j Q I1 o g)) v b
end
end L2
namespace HT
open PySem PyProof.Rows
section
open PySem.SeqAt
open PySem.AutoSeq1 (wpAny_loadPart')
open PySem.MeetsSeq PySem.MeetsSeq2 PySem.MeetsSeq3
end
section
variable{prog:yB}{w:yD}{A:zZ}{E:zA}{s:zY}
theorem cat_tup{t b:zW}{vs a:zH}{Q:zA}(v:IsTup s.heap t vs.toArray)(u:IsTup s.heap b a.toArray)(k:vs≠[])
  (h1:a=[]->Q (.ref t) s) (h2:a≠[]->Q (.ref s.heap.objs.size) {s with heap:=s.heap.push {cls:=.type "tuple",data:=.seq (vs++a).toArray}})
  (hsz:vs.length+a.length<=sizeLine):wpAny (model prog w) A (binaryOp .Add (.ref t) (.ref b)) Q E s:=by
 obtain⟨⟨cls,p,data,q⟩,i,o,n,l⟩:=id v;obtain⟨⟨m,g,j,d⟩,c,f,r,h⟩:=id u;simp only at o l f h;subst o l f h;have e:vs.toArray++a.toArray=(vs++a).toArray:=by simp
 by_cases hw:a=[]
 ·exact concat_meets (al _ i rfl) (al _ c rfl) noFill_tuple_add seq_tuple_add PySem.F.slot_tuple_add PySem.F.entry_tuple_add (PySem.F.args_tuple_add_2 _ _)
   (tuple_addW1 t b vs.toArray a.toArray n r p g q d (by simpa using k) (by simp[hw])) (fY i c (h1 hw))
 ·refine concat_meets (al _ i rfl) (al _ c rfl) noFill_tuple_add seq_tuple_add PySem.F.slot_tuple_add PySem.F.entry_tuple_add (PySem.F.args_tuple_add_2 _ _)
   (tuple_addW2 t b vs.toArray a.toArray n r p g q d (by simpa using k) (by simpa using hw) (by rw[iD,iD];exact hsz)) (fY i c ?_)
  rw[e];exact h2 hw
def sIx(n d:Nat):Option Int->Nat|none=>d|some v=>if v<0 then (v+(n:Int)).toNat else min v.toNat n
theorem sIx_nat(n d k:Nat):sIx n d (some (k:Int))=min k n:=by show(if (k:Int)<0 then ((k:Int)+(n:Int)).toNat else min (k:Int).toNat n)=min k n;rw[ej (by lia),Int.toNat_natCast]
end
end HT
namespace L2
open PySem PySem.Spec PyProof.Rows
variable{α:Type}{zs ys:zM}{x v d:V}{value e:yC}{ty tx tv to tk te td:TE}{r:V->Option Int->Option Int->Hp->VK->Prop}{xs:List (List Key×zW×zX)}{us:zH}{prog:yB}{p2 cpos apos:Pos}{p l b:zW}{ns:zI}{name:Str}{lo hi:Option yC}{ks:zU}{j:Nat}{its its':zH}{n t':Nat}{pins:zD}{h' h:yA}{es:zT}{d':zX}{c:HO}{Z:St}{T:String}{H' H:Hp}{s:zY}{f:zG->Array zX}{y:V}{u:zX}{o:zP}{P:yB}{w:yD}{kvs:List (List Key×V)}{a:zW}{Q E:zA}{pos:Pos}{X:Cx}{trs:List (TE×TE)}{A:zZ}
abbrev TO:=St->Hp->(Option Int->Hp->Prop)->Prop
def PO(X:Cx)(e:Option yC)(t:TO):Prop :=
 ∀(a:zD)(s:zY)(Z:St)(H:Hp)(Q:Option Int->Hp->Prop),Inv X a Z H s->t Z H Q->
  wpAny (model X.prog X.w) X.A (evalPart e X.env) (λu c=>∃o b,Inv X a Z b c/\IsPart u o/\Q o b) X.xe s
def D6:TO:=λ_ H Q=>Q none H
def Bu(t:TE):TO:=λZ H Q=>t Z H λx a=>∃i,x=.int i/\Q (some i) a
theorem vu:∀{us:zH},A2f (ns.map V.int) us->IntsAre us ns:=by
 induction ns with
 |nil=>intro us r;rw[List.map_nil]at r;cases r;exact .nil
 |cons n ns ih=>
  intro us r;rw[gw]at r
  cases r with
  |cons r1 r2=>obtain⟨t,e⟩:=r1;subst e;exact .cons n t (ih r2)
section
variable{tl th:TO}
theorem oU:PO X none D6:=by intro a s Z H Q I h;rw[evalPart_none];exact eh (el none H I .none h)
theorem kH(h:PE X e te):PO X (some e) (Bu te):=by intro a s Z H Q I d;rw[evalPart_some];refine thn (h a s Z H _ I d) ?_;rintro u g ⟨x,f,I1,c,b⟩;obtain⟨i,rfl,q⟩:=b;obtain⟨t,rfl⟩:=c;exact el (some i) f I1 (.int i t) q
def SlR(X:Cx)(r:V->Option Int->Option Int->Hp->VK->Prop):Prop :=
 ∀(a:zD)(s:zY)(Z:St)(H:Hp)(x:V)(v b e:zX)(f d:Option Int)(c:zW)(Q:VK),Inv X a Z H s->A2c x v->s.heap.IsSliceOf c b e .none->IsPart b f->IsPart e d->r x f d H Q->
  ∃T id,typeLookup (.type T) "__getitem__"=pure (some (.builtin id))/\s.TypeIs v T/\wpAny (model X.prog X.w) X.A (getItem v (.ref c)) (EP X a Z Q) X.xe s
def tSl(r:V->Option Int->Option Int->Hp->VK->Prop)(te:TE)(tl th:TO):TE:=λZ H Q=>te Z H λx b=>tl Z b λl a=>th Z a λu c=>r x l u c Q
theorem mz(m:SlR X r)(B:PE X e te)(G:PO X lo tl)(D:PO X hi th):PE X (.Subscript e (.Slice lo hi none p2) pos) (tSl r te tl th):=by
 intro a s Z H Q I h;refine Subscript_ (thn (B a s Z H _ I h) ?_);rintro v z ⟨x,y,I1,p,j⟩;refine wpAny_Slice (thn (G a z Z y _ I1 j) ?_);rintro f C ⟨l,K,I2,k,i⟩;refine thn (D a C Z K _ I2 i) ?_;rintro d c ⟨u,g,I3,J,t⟩;rw[evalPart_none];refine eh ?_;have I4:Inv X a Z g {c with heap:=c.heap.push {cls:=.type "slice",data:=.fields #[f,d,.none]}}:=I3.kept (t':=c.toks) λb L q=>gk _ q
 obtain⟨T,id,o,F,n⟩:=m a {c with heap:=c.heap.push {cls:=.type "slice",data:=.fields #[f,d,.none]}} Z g x v f d l u c.heap.objs.size Q I4 p (Heap.IsSliceOf.new ..) k J t;show wpAny (model X.prog X.w) X.A (subscriptTail e (.Slice lo hi none p2) v (.ref c.heap.objs.size)) (EP X a Z Q) X.xe {c with heap:=c.heap.push {cls:=.type "slice",data:=.fields #[f,d,.none]}};exact tail_any (ops:=[.ref c.heap.objs.size,v]) F o n (by with_unfolding_all rfl)
def jK(xs:zM)(lo hi:Option Int):zM:=(xs.drop (HT.sIx xs.length 0 lo)).take (HT.sIx xs.length xs.length hi-HT.sIx xs.length 0 lo)
theorem HF(xs:zM)(lo hi:Option Int):(jK xs lo hi).length<=xs.length:=by
 unfold jK;rw[iP,pz]
 lia
def Bn(K:Frag):R2:=λx y H Q=>∃a b d c,x=.ref a/\y=.ref b/\SqT K H a d/\SqT K H b c/\d≠[]/\d.length+c.length<=sizeLine/\
 (c=[]->Q (.ref a) H)/\(c≠[]->∀p,H p=none->Q (.ref p) (upd H p (.tup (d++c))))
theorem A2f.nil_iff{xs:zM}(r:A2f xs us):us=[]↔xs=[]:=by
 cases r with
 |nil=>simp
 |cons _ _=>simp
theorem xZ:OpR X (binaryOp .Add) (Bn X.K):=by intro f s Z H x y v u Q I A k h;refine jd h ?_;clear h;rintro a b C j rfl rfl p r ⟨B,e,l,i⟩;cases A;cases k;obtain⟨t,d,m,_⟩:=I.tuple p;obtain⟨g,c,n,_⟩:=I.tuple r;refine HT.cat_tup m n (λz=>B (d.nil_iff.mp z)) (λz=>(el (.ref a) H I rfl (l (c.nil_iff.mp z)))) (λz=>?_) (by rw[<-d.length,<-c.length];exact e);refine el (.ref s.heap.objs.size) _ (I.laid (t':=s.toks) (o:=.tup (C++j)) (λb D q=>gk _ q) (gf _) ?_) rfl (i (λw=>z (c.nil_iff.mpr w)) _ (I.hok.fresh (gf _)));exact gF (by rw[gz];exact e) _ (d.append c) (IsTup.new _ _)
end
def ixN(n:Nat)(i:Int):Option Nat:=if 0<=i then (if i<n then some i.toNat else none)else if -(n:Int)<=i then some (i+n).toNat else none
def atI{α:Type}(xs:List α)(i:Int):Option α:=(ixN xs.length i).bind λj=>xs[j]?
theorem xP{i:Int}(h:ixN n i=some j):seqIndex? i n=some j/\j<n/\-(n:Int)<=i/\i<n:=by
 unfold ixN at h;by_cases h0:0<=i
 ·rw[fW h0]at h;by_cases h1:i<n
  ·rw[fW h1]at h;have e:i.toNat=j:=je h;exact ip (by rw[seqIndex_of h0 h1,e]) (by lia) (by lia) h1
  ·rw[ej h1]at h;cases h
 ·rw[ej h0]at h;by_cases h1: -(n:Int)<=i
  ·rw[fW h1]at h;have e:(i+n).toNat=j:=je h;exact ip (by rw[seqIndex_neg (by lia) h1,e]) (by lia) h1 (by lia)
  ·rw[ej h1]at h;cases h
theorem uQ{xs:List α}{i:Int}{v:α}(h:atI xs i=some v):∃j,seqIndex? i xs.length=some j/\xs[j]?=some v/\j<xs.length/\-(xs.length:Int)<=i/\i<xs.length:=by
 unfold atI at h
 cases e:ixN xs.length i with
 |none=>rw[e]at h;cases h
 |some j=>rw[e]at h;obtain⟨d,a,c,b⟩:=xP e;exact⟨j,(mi d h a c b)⟩
theorem hH{xs:List α}{v:α}(h:xs[j]?=some v):atI xs (j:Int)=some v:=by
 have a:j<xs.length:=(gG.mp h).1
 have e:ixN xs.length (j:Int)=some j:=by unfold ixN;rw[fW (by lia),fW (by lia)];simp
 unfold atI;rw[e];exact h
def DQ(b:yC):Prop:=∀o i,subscripted b false o i=operate [o,i] (getItem o i)
def IxR(X:Cx)(r:R2):Prop :=
 ∀(c a:yC)(b:zD)(s:zY)(Z:St)(H:Hp)(x y:V)(v u:zX)(Q:VK),Inv X b Z H s->A2c x v->A2c y u->r x y H Q->
  subscripted a false v u=operate [v,u] (getItem v u)->wpAny (model X.prog X.w) X.A (subscriptTail c a v u) (EP X b Z Q) X.xe s
def MtR(X:Cx)(id:String)(r:V->List V->Hp->VK->Prop):Prop :=
 ∀(a:zD)(s:zY)(Z:St)(H:Hp)(x:V)(c:zM)(v:zX)(b:zH)(Q:VK),Inv X a Z H s->A2c x v->A2f c b->r x c H Q->
  wpAny (model X.prog X.w) X.A (call (.builtin id) (v::b)) (EP X a Z Q) X.xe s
section
variable{X:Cx}{a b:yC}{ta tb:TE}{pos:Pos}
theorem jM{r:R2}(j:IxR X r)(e:PE X a ta)(i:PE X b tb)(d:DQ b:=by exact λ_ _=>rfl):PE X (.Subscript a b pos) (tOp r ta tb):=by intro c s Z H Q I h;exact Subscript_ (tW e i I h λv u f x y l I2 k g q=>j a b c f Z l x y v u Q I2 k g q (d _ _))
def vX(K:Frag):R2:=λx y H Q=>∃p a i v,x=.ref p/\y=.int i/\SqL K H p a/\atI a i=some v/\Q v H
def tR(K:Frag):R2:=λx y H Q=>∃p a i v,x=.ref p/\y=.int i/\SqT K H p a/\atI a i=some v/\Q v H
def rIxS:R2:=λx y H Q=>∃z i c,x=.str z/\y=.int i/\z.length<=sizeLine/\atI z.cps.toList i=some c/\Q (.str ⟨#[c]⟩) H
theorem ku:IxR X (vX X.K):=by
 intro d g a s Z H x y v u Q I J A h m;refine jd h ?_;clear h;rintro p P i z rfl rfl L C q;cases J;obtain⟨t,rfl⟩:=A;obtain⟨k,r,e,M⟩:=I.list L;obtain⟨j,c,o,N,B,F⟩:=uQ C;obtain⟨w,n,l⟩:=r.get o;have G:=r.length;have O:=qt;have b:EP X a Z Q w s:=(el z H I l q);by_cases h0:0<=i
 ·have f:i.toNat=j:=by
   rw[seqIndex_of h0 F]at c;exact je c
  exact item_listR e.isList h0 (by lia) (by rw[f];simpa using n) b m
 ·have f:(i+(k.toArray.size:Int)).toNat=j:=by
   rw[seqIndex_neg (by lia) B]at c;rw[iD,<-G];exact je c
  exact subscriptTail_builtinR (x:=w) e.isList.typeIs slot_list_getitem.lookup
   (wpAny_getItem_list_neg (Q:=λr D=>r=w/\EP X a Z Q r D) e.isList (by lia) (by rw[iD]<;>lia) (by lia) (by rw[f];simpa using n) ⟨rfl,b⟩) m
theorem BR:IxR X (tR X.K):=by
 intro c d a s Z H x y v u Q I D l h g;refine jd h ?_;clear h;rintro p O i z rfl rfl F n q;cases D;obtain⟨t,rfl⟩:=l;obtain⟨A,r,f,G⟩:=I.tuple F;obtain⟨j,B,k,J,L,M⟩:=uQ n;obtain⟨w,m,e⟩:=r.get k;have C:=r.length;have N:=qt;have b:EP X a Z Q w s:=(el z H I e q)
 exact subscriptTail_builtinR (x:=w) f.typeIs slot_tuple_getitem.lookup
  (getItem_tuple (j:=j) (Q:=λr o=>r=w/\EP X a Z Q r o) f (by lia) (by lia) (by rw[iD,<-C];exact B) (by simpa using m) ⟨rfl,b⟩) g
theorem wV:IxR X rIxS:=by
 intro a b d s Z H x y v u Q I w k h f;refine gE h ?_;clear h;rintro z i c rfl rfl A ⟨n,q⟩;obtain⟨t,rfl⟩:=w;obtain⟨D,rfl⟩:=k;obtain⟨j,e,g,B,m,p⟩:=uQ n;have r:z.cps.toList.length=z.length:=by simp[Str.length]
 rw[r]at e m p;have C:=qt
 exact tail_any (typeIs_str s z t) slot_str_getitem.lookup (getItem_str (c:=c) (by
  have l:decide (i< -(2^63:Int))=false:=kj (by lia);have o:decide (i≥2^63)=false:=kj (by lia)
  rw[l,o,Bool.or_false]) (by rw[e];simpa using g) (el (.str ⟨#[c]⟩) H (I.tok _) ⟨_,rfl⟩ q)) f
theorem GV(its:zH)(n j:Nat)(u:zX):Obj.mapSeq (·.setIfInBounds j u) {cls:=.type "list",data:=.seq its.toArray n}={cls:=.type "list",data:=.seq (its.set j u).toArray n}:=by simp[Obj.mapSeq]
theorem Inv.lst{p:zW}{xs:zM}(I:Inv X pins Z H s)(h:H p=some (.lst xs)):
  ∃(its:zH)(n:Nat),A2f xs its/\s.heap.get? p=some {cls:=.type "list",data:=.seq its.toArray n}/\xs.length<=sizeLine:=by
 obtain⟨z,its,n,r,e⟩:=I.hok p _ h;exact el its n r e z
theorem Inv.lstUpd{xs:zM}{a:Nat}{f:Obj->Obj}(I:Inv X pins Z H s)(h:H p=some (.lst xs))
  (g:s.heap.get? p=some {cls:=.type "list",data:=.seq its.toArray n}) (c:f {cls:=.type "list",data:=.seq its.toArray n}={cls:=.type "list",data:=.seq its'.toArray a}) (r:A2f ys its') (hz:ys.length<=sizeLine) (t:Nat):
  Inv X pins Z (upd H p (.lst ys)) {s with heap:=s.heap.update p f,toks:=t}:=by
 have e:(s.heap.update p f).get? p=some {cls:=.type "list",data:=.seq its'.toArray a}:=by rw[py f g (by rw[c]<;>rfl),c]
 refine I.write (x:=p) (e:=p) (by rw[h];trivial) (.inl rfl) (λb u d q=>(tN _ _ (Ne.symm d)).trans q) ⟨_,e⟩ ?_;exact kc hz its' a r e
def BF:V->V->V->Hp->(Hp->Prop)->Prop:=λo i v H Q=>∃p a k j,o=.ref p/\i=.int k/\H p=some (.lst a)/\ixN a.length k=some j/\Q (upd H p (.lst (a.set j v)))
theorem va:tT X BF:=by
 intro a s Z H o i v G D u Q I A z y h;refine jd h ?_;clear h;rintro p B k j rfl rfl m x q;cases A;obtain⟨t,rfl⟩:=z;obtain⟨b,n,r,d,w⟩:=I.lst m;obtain⟨c,C,g,l⟩:=xP x;have e:=r.length;have F:=qt
 have I':Inv X a Z (upd H p (.lst (B.set j v))) {s with heap:=s.heap.update p (Obj.mapSeq (·.setIfInBounds j u))}:=I.lstUpd m d (GV b n j u) (r.set y j) (by rw[List.length_set];exact w) s.toks
 by_cases h0:0<=k
 ·have f:k.toNat=j:=by
   rw[seqIndex_of h0 l]at c;exact je c
  exact PySem.W.ki_setAt d h0 (by lia) (by rw[iD,<-e];exact l) (by rw[f];exact al _ I' q)
 ·have f:(k+(b.toArray.size:Int)).toNat=j:=by
   rw[seqIndex_neg (by lia) g]at c;rw[iD,<-e];exact je c
  exact PySem.W.ki_setBack d (by lia) (by rw[iD,<-e];exact g) (by lia) (by rw[f];exact al _ I' q)
theorem Ik(lo hi:Option Int)(n:Nat):(sliceBounds lo hi none n).1=((HT.sIx n 0 lo:Nat):Int)/\(sliceBounds lo hi none n).2.1=((HT.sIx n n hi:Nat):Int)/\(sliceBounds lo hi none n).2.2=1:=by
 refine fY ?_ ?_ rfl
 ·cases lo with
  |none=>simp[sliceBounds,HT.sIx]
  |some i=>
   simp only [sliceBounds,HT.sIx,Option.getD_none,show(1:Int)>0 by decide,if_true];by_cases h:i<0
   ·simp only [h,if_true]<;>lia
   ·simp only [h,if_false]<;>lia
 ·cases hi with
  |none=>simp[sliceBounds,HT.sIx]
  |some i=>
   simp only [sliceBounds,HT.sIx,Option.getD_none,show(1:Int)>0 by decide,if_true];by_cases h:i<0
   ·simp only [h,if_true]<;>lia
   ·simp only [h,if_false]<;>lia
theorem IG(its:zH)(lo hi:Option Int):slicePick its.toArray lo hi none=((its.drop (HT.sIx its.length 0 lo)).take (HT.sIx its.length its.length hi-HT.sIx its.length 0 lo)).toArray:=by obtain⟨b,a,c⟩:=Ik lo hi its.toArray.size;unfold slicePick;rw[b,a,c];simp only [sliceRange_one,pick_run,iD]<;>rfl
def rSlL(K:Frag):V->Option Int->Option Int->Hp->VK->Prop:=λx d c H Q=>∃a b,x=.ref a/\SqL K H a b/\∀p,H p=none->Q (.ref p) (upd H p (.lst (jK b d c)))
theorem mT:SlR X (rSlL X.K):=by intro i s Z H x v w u e f y Q I p j l n h;obtain⟨a,c,rfl,t,q⟩:=h;cases p;obtain⟨k,r,g,m⟩:=I.list t;have d:=r.length;refine el "list" _ slot_list_getitem.lookup g.isList.typeIs ?_;refine wpAny_getItem_list_slice g.isList j l n .none (by simp) ?_ (by rw[iD]<;>lia);rw[IG,<-d];refine el (.ref s.heap.objs.size) _ (I.laid (t':=s.toks) (o:=.lst (jK c e f)) (λb z q=>gk _ q) (gf _) ?_) rfl (q _ (I.hok.fresh (gf _)));exact kc (kX (HF c e f) m) _ 0 ((r.drop (HT.sIx c.length 0 e)).take (HT.sIx c.length c.length f-HT.sIx c.length 0 e)) (ig _ rfl)
def mQ:V->Bool|.non=>true|.bl _=>true|.int _=>true|.str _=>true|_=>false
noncomputable def eqV:V->V->Bool|.non,.non=>true|.bl a,.bl b=>a==b|.bl a,.int b=>(if a then 1 else 0)==b|.int a,.bl b=>a==(if b then 1 else 0)|.int a,.int b=>a==b|.str a,.str b=>a==b|_,_=>false
theorem B7{v:zX}(e:A2c y u)(c:A2c x v)(g:mQ y=true)(f:mQ x=true):SeqAt.EqAt A s u v (eqV y x):=by
 cases y with
 |non=>
  cases e
  cases x with
  |non=>cases c;exact SeqAt.EqAt.same _
  |bl b=>cases c;exact SeqAt.EqAt.none_bool b
  |int b=>obtain⟨t,rfl⟩:=c;exact SeqAt.EqAt.none_int b t
  |str b=>obtain⟨t,rfl⟩:=c;exact SeqAt.EqAt.none_str b t
  |_=>exact absurd (show false=true from f) hX
 |bl a=>
  cases e
  cases x with
  |non=>cases c;exact SeqAt.EqAt.bool_none a
  |bl b=>cases c;exact SeqAt.EqAt.bool_bool a b
  |int b=>obtain⟨t,rfl⟩:=c;exact SeqAt.EqAt.bool_int a b t
  |str b=>obtain⟨t,rfl⟩:=c;exact SeqAt.EqAt.bool_str a b t
  |_=>exact absurd (show false=true from f) hX
 |int a=>
  obtain⟨d,rfl⟩:=e
  cases x with
  |non=>cases c;exact SeqAt.EqAt.int_none a d
  |bl b=>cases c;exact SeqAt.EqAt.int_bool a d b
  |int b=>obtain⟨t,rfl⟩:=c;exact SeqAt.EqAt.int_int a d b t
  |str b=>obtain⟨t,rfl⟩:=c;exact SeqAt.EqAt.int_str a d b t
  |_=>exact absurd (show false=true from f) hX
 |str a=>
  obtain⟨d,rfl⟩:=e
  cases x with
  |non=>cases c;exact SeqAt.EqAt.str_none a d
  |bl b=>cases c;exact SeqAt.EqAt.str_bool a d b
  |int b=>obtain⟨t,rfl⟩:=c;exact SeqAt.EqAt.str_int a d b t
  |str b=>obtain⟨t,rfl⟩:=c;exact SeqAt.EqAt.str_str a d b t
  |_=>exact absurd (show false=true from f) hX
 |_=>exact absurd (show false=true from g) hX
def eqU(x:V)(u:zX):Bool:=match u with|.none=>eqV .non x|.bool b=>eqV (.bl b) x|.int i _=>eqV (.int i) x|.str z _=>eqV (.str z) x|_=>false
theorem wI(r:A2c y u)(f:mQ y=true):eqU x u=eqV y x:=by
 cases y with
 |non=>cases r;rfl
 |bl b=>cases r;rfl
 |int i=>obtain⟨t,rfl⟩:=r;rfl
 |str z=>obtain⟨t,rfl⟩:=r;rfl
 |_=>exact absurd (show false=true from f) hX
theorem uS{x:V}:∀{xs:zM}{us:zH},A2f xs us->xs.all mQ=true->us.any (eqU x)=xs.any λy=>eqV y x|_,_,.nil,_=>rfl|y::xs,u::us,.cons r t,f=>by rw[List.all_cons,nS]at f;rw[List.any_cons,List.any_cons,wI r f.1,uS t f.2]
theorem uW{A:zZ}{s:zY}{x:V}{v:zX}(c:A2c x v)(b:mQ x=true):∀{xs:zM}{us:zH},A2f xs us->xs.all mQ=true->∀u∈us,SeqAt.EqAt A s u v (eqU x u)
 |_,_,.nil,_=>λu a=>by cases a
 |y::xs,u::us,.cons r t,f=>λd a=>by
  rw[List.all_cons,nS]at f;rcases gY.mp a with rfl|a
  ·rw[wI r f.1];exact B7 r c f.1 b
  ·exact uW c b t f.2 d a
def inV(x:V)(xs:zM):Bool:=xs.any λy=>eqV y x
def rIn(K:Frag)(b:Bool):R2:=λx y H Q=>∃p a,y=.ref p/\(SqL K H p a\/SqT K H p a)/\mQ x=true/\a.all mQ=true/\Q (.bl (if b then ! inV x a else inV x a)) H
theorem y8:OpR X (compareOp .In) (rIn X.K false):=by
 intro i s Z H x y v u Q I g j h;refine jo h ?_;clear h;rintro p l rfl b f ⟨c,q⟩;cases j;rcases b with b|b
 ·obtain⟨a,r,d,k⟩:=I.list b;refine SeqAt.in_listAt (eqU x) d.isList (λw e=>uW g f r c w (by simpa using e)) (el (.bl _) H I rfl ?_);rw[show a.toArray.any (eqU x)=a.any (eqU x)by simp,uS r c];exact q
 ·obtain⟨a,r,d,k⟩:=I.tuple b;refine SeqAt.in_tupleAt (eqU x) d (λw e=>uW g f r c w (by simpa using e)) (el (.bl _) H I rfl ?_);rw[show a.toArray.any (eqU x)=a.any (eqU x)by simp,uS r c];exact q
theorem Ip:mN X (.builtin "len") (λxs H Q=>∃p ys,xs=[.ref p]/\(SqL X.K H p ys\/SqT X.K H p ys)/\Q (.int ys.length) H):=by
 intro f s Z H xs j Q I r h;obtain⟨p,ys,rfl,b,q⟩:=h;obtain⟨u,rfl,i⟩:=mR r;cases i;have k:=qt;rcases b with b|b
 ·obtain⟨c,d,e,g⟩:=I.list b;have a:=d.length;exact Calls.call_len_list e.isList (by simp only [iD]<;>lia) (el (.int ys.length) H (I.tok _) ⟨s.toks+1,by rw[iD,a]⟩ q)
 ·obtain⟨c,d,e,g⟩:=I.tuple b;have a:=d.length;exact len_tuple e (by simp only [iD]<;>lia) (el (.int ys.length) H (I.tok _) ⟨s.toks+1,by rw[iD,a]⟩ q)
theorem Az:mN X (.type "list") (λxs H Q=>∃p ys,xs=[.ref p]/\(SqL X.K H p ys\/SqT X.K H p ys)/\∀l,H l=none->Q (.ref l) (upd H l (.lst ys))):=by
 intro m s Z H xs C Q I r h;obtain⟨p,ys,rfl,t,q⟩:=h;obtain⟨u,rfl,B⟩:=mR r;cases B
 have g:∀(a:zH),A2f ys a->ys.length<=sizeLine->∀(c:yA)(f:Nat),(∀b A,s.heap.get? b=some A->c.get? b=some A)->
   c.get? s.heap.objs.size=some {cls:=.type "list",dict:=none,data:=.seq a.toArray f,slots:=#[]}->EP X m Z Q (.ref s.heap.objs.size) {s with heap:=c}:=λa d j c f i e=>
  (el (.ref s.heap.objs.size) _ (I.laid (t':=s.toks) i (gf _) (show A1g X.prog X.w _ c _ (.lst ys) from (kc j a f d e))) rfl (q _ (I.hok.fresh (gf _))))
 rcases t with t|t
 ·obtain⟨a,d,y,j⟩:=I.list t;have k:=d.length;obtain⟨o,x,z,n,v⟩:=y.isList;exact call_list_seq p (.inl rfl) x z v (λc f i e=>g a d j c f i e) (by simp only [iD]<;>lia)
 ·obtain⟨a,d,y,j⟩:=I.tuple t;have k:=d.length;obtain⟨o,x,z,n,v⟩:=y;exact call_list_seq p (.inr rfl) x z v (λc f i e=>g a d j c f i e) (by simp only [iD]<;>lia)
theorem qU:mN X (.type "tuple") (λxs H Q=>∃p ys,xs=[.ref p]/\((SqL X.K H p ys/\∀l,H l=none->Q (.ref l) (upd H l (.tup ys)))\/(SqT X.K H p ys/\Q (.ref p) H))):=by
 intro a s Z H xs t Q I r h;obtain⟨p,ys,rfl,h⟩:=h;obtain⟨u,rfl,n⟩:=mR r;cases n;rcases h with ⟨i,q⟩|⟨i,q⟩
 ·obtain⟨c,f,g,j⟩:=I.list i;have k:=f.length;refine call_tuple_list g.isList (λd m=>?_) (by simp only [iD]<;>lia);have I1:Inv X a Z H {s with heap:=d}:=I.kept (t':=s.toks) m
  have I2:Inv X a Z (upd H d.objs.size (.tup ys)) {s with heap:=d.push {cls:=.type "tuple",data:=.seq c.toArray}}:=I1.laid (t':=s.toks) (λb o e=>gk _ e) (gf _) (show A1g X.prog X.w _ _ _ (.tup ys) from (gF j c f (IsTup.new _ _)))
  exact el (.ref d.objs.size) _ I2 rfl (q _ (I1.hok.fresh (gf _)))
 ·obtain⟨c,f,g,j⟩:=I.tuple i;exact call_tuple_same g (el (.ref p) H I rfl q)
def tyV(K:Frag)(T:String)(x:V)(H:Hp):Prop:=match x with
 |.str _=>T="str"
 |.int _=>T="int"
 |.ref p=>(T="list"/\∃b,SqL K H p b)\/(T="tuple"/\∃o,K.lookup p=some o/\o.cls=.type "tuple"/\o.dict=none)\/
   (T="dict"/\((∃a,H p=some (.dK a))\/∃a,H p=some (.dT a)))\/(T="set"/\∃S n,H p=some (.set S n))
 |_=>False
theorem w8{v:zX}(I:Inv X pins Z H s)(r:A2c x v)(ty:tyV X.K T x H):
  s.TypeIs v T/\∀a,v=.ref a->∃k,s.heap.get? a=some k/\k.dict=none:=by
 cases x with
 |str z=>obtain⟨t,rfl⟩:=r;cases(show T="str" from ty);exact⟨typeIs_str s z t,λ_ e=>nomatch e⟩
 |int i=>obtain⟨t,rfl⟩:=r;cases(show T="int" from ty);exact⟨typeIs_int s i t,λ_ e=>nomatch e⟩
 |ref p=>
  cases r
  rcases ty with ⟨rfl,u,q⟩|⟨rfl,o,b,m,f⟩|⟨rfl,b⟩|⟨rfl,S,n,b⟩
  ·obtain⟨l,_,j,_⟩:=I.list q;refine⟨j.isList.typeIs,λa e=>?_⟩;cases e;obtain⟨o,n,e,c,f,_⟩:=j;exact al o e f
  ·refine⟨(al o (I.kIn p o b) m),λa e=>?_⟩;cases e;exact al o (I.kIn _ o b) f
  ·have z:∃o,s.heap.get? p=some o/\o.ExactDict:=by
    rcases b with ⟨g,b⟩|⟨g,b⟩
    ·refine jR (I.hok p _ b) ?_;rintro _ _ _ _ o _ _ e ⟨d,_⟩;exact al o e d
    ·refine jR (I.hok p _ b) ?_;rintro _ _ _ _ o _ _ e ⟨d,_⟩;exact al o e d
   obtain⟨o,e,d⟩:=z;refine⟨(al o e d.1),λa h=>?_⟩;cases h;exact al o e d.2.1
  ·refine jp (I.hok p _ b) ?_;rintro o _ _ ⟨_,e,d,_⟩;refine⟨(al o e d.1),λa h=>?_⟩;cases h;exact al o e d.2.1
 |_=>exact False.elim ty
def tE(K:Frag)(T:String)(r:V->List V->Hp->VK->Prop)(to:TE):TE:=λZ H Q=>to Z H λx a=>tyV K T x a/\r x [] a Q
def tBM(K:Frag)(T:String)(r:V->List V->Hp->VK->Prop)(to:TE)(t:TA):TE:=λZ H Q=>to Z H λx a=>tyV K T x a/\t Z a λc b=>r x c b Q
variable{o:yC}{t:TA}{id:String}{r:V->List V->Hp->VK->Prop}
theorem nD(i:PlainAttrs T)(d:Slot T name id)(e:typeOf (.builtin id)=pure (.type "method_descriptor"))(l:MtR X id r)(n:PE X o to)
  (c:attributeBase o name X.env (eval o X.env)=eval o X.env:=by rfl) (b:(apos.endLine==cpos.line)=true:=by rfl):PE X (.Call (.Attribute o name apos) [] [] cpos) (tE X.K T r to):=by
 intro a s Z H Q I h;refine wpAny_Call_method0_late c b (thn (n a s Z H _ I h) ?_);rintro v q ⟨x,p,I1,f,m,j⟩;obtain⟨k,g⟩:=w8 I1 f m;exact mY T id i d e k g (Calls.callWith_builtin rfl (PySem.evalArgs_none (l a q Z p x [] v [] Q I1 f .nil j)))
theorem jC(p:PlainAttrs T)(g:Slot T name id)(i:typeOf (.builtin id)=pure (.type "method_descriptor"))(u:MtR X id r)(w:PE X o to)(B:PA X (e::es) t)
  (d:attributeBase o name X.env (eval o X.env)=eval o X.env:=by rfl)
  (f:((backTo cpos (starEach (e::es) X.env)).all (λx=> ! x.1)&&(backToKw cpos (keywordEach [] X.env)).all (λx=>x.1.isSome)
   && decide ((e::es).length+([]:List Keyword).length+(if ([]:List Keyword).isEmpty then 0 else 1)<30))=true:=by rfl)
  (c:(apos.endLine==cpos.line)=true:=by rfl) (l:starEach (e::es) X.env=(false,eval e X.env)::starEach es X.env:=by rfl) (b:(backTo cpos (starEach es X.env)).any (·.1)=false:=by rfl):
  PE X (.Call (.Attribute o name apos) (e::es) [] cpos) (tBM X.K T r to t):=by
 intro a s Z H Q I h;refine wpAny_Call_method_late d f c rfl (thn (w a s Z H _ I h) ?_);rintro v A ⟨x,z,I1,j,F,q⟩;obtain⟨D,m⟩:=w8 I1 j F;refine mY T id p g i D m ?_;have k:=B cpos a A Z z _ I1 q;rw[l]at k⊢;refine Calls.callWith_builtin (by show(false||(backTo cpos (starEach es X.env)).any (·.1))=false;rw[b]<;>rfl) (Calls.evalArgs_plain ?_);exact thn k (by rintro G C ⟨y,L,I2,J,n⟩;exact u a C Z L x y v G Q I2 j J n)
end
def MtM(X:Cx)(id:String)(r:V->List V->Hp->VK->Prop):Prop :=
 ∀(a:zD)(s:zY)(Z:St)(H:Hp)(x:V)(c:zM)(v:zX)(b:zH)(Q:VK),Inv X a Z H s->A2c x v->A2f c b->r x c H Q->
  wpAny (model X.prog X.w) X.A (call (.builtin id) (v::b)) (EP X a Z Q) X.xe s
theorem A2f.one:∀{x:V}{us:zH},A2f [x] us->∃u,us=[u]/\A2c x u|_,_,.cons r .nil=>(al _ rfl r)
theorem A2f.zero:∀{us:zH},A2f [] us->us=[]|_,.nil=>rfl
theorem A2f.dropLast{xs:zM}(h:A2f xs us):A2f xs.dropLast us.dropLast:=by
 induction h with
 |nil=>exact .nil
 |cons r t ih=>
  cases t with
  |nil=>exact .nil
  |cons q t'=>exact .cons r ih
theorem A2f.eraseIdx:∀{xs:zM}{us:zH}(i:Nat),A2f xs us->A2f (xs.eraseIdx i) (us.eraseIdx i)|_,_,_,.nil=>.nil|_,_,0,.cons _ t=>t|_,_,i+1,.cons r t=>.cons r (A2f.eraseIdx i t)
theorem A2f.rep{xs:zM}{us:zH}(h:A2f xs us):∀k:Nat,A2f (List.replicate k xs).flatten (List.replicate k us).flatten|0=>.nil|k+1=>by rw[List.replicate_succ,List.replicate_succ,List.flatten_cons,List.flatten_cons];exact A2f.append h (A2f.rep h k)
theorem Hi(l:List α):l.eraseIdx (l.length-1)=l.dropLast:=by
 induction l with
 |nil=>rfl
 |cons a r ih=>
  cases r with
  |nil=>rfl
  |cons b r=>
   have e:(a::b::r).length-1=((b::r).length-1)+1:=by
    have d:(a::b::r).length=r.length+2:=rfl;have c:(b::r).length=r.length+1:=rfl
    lia
   rw[e,List.eraseIdx_cons_succ,ih]
   all_goals rfl
theorem zh{α:Type}:∀(l:List α)(i:Nat),(l.eraseIdx i).length<=l.length| [],_=>gf _|_::_,0=>Nat.le_succ _|_::r,i+1=>Nat.succ_le_succ (zh r i)
theorem yO(its:zH):∀(k:Nat)(a:zH),
  List.foldl (λx1 x2=>x1++x2) a.toArray (List.replicate k its.toArray)=(a++(List.replicate k its).flatten).toArray
 |0,a=>by simp
 |k+1,a=>by
  have e:a.toArray++its.toArray=(a++its).toArray:=by simp
  have b:(a++its)++(List.replicate k its).flatten=a++(List.replicate (k+1) its).flatten:=by rw[List.replicate_succ,List.flatten_cons,lH]
  rw[<-b,<-yO its k (a++its),<-e,List.replicate_succ,List.foldl_cons]
section
variable{xs:zM}
theorem Inv.lset(I:Inv X pins Z H s)(c:H l=some (.lst xs))
  (e:s.heap.get? l=some {cls:=.type "list",data:=.seq its.toArray n}) (b:f its.toArray=its'.toArray) (a:A2f ys its') (hz:ys.length<=sizeLine):
  Inv X pins Z (upd H l (.lst ys)) {s with heap:=s.heap.update l (Obj.mapSeq f),toks:=t'}:=by
 have q:=PySem.IsL.update e f;rw[b]at q;refine I.write (x:=l) (e:=l) (by rw[c];exact trivial) (.inl rfl) (λh u g d=>(tN s.heap (Obj.mapSeq f) (Ne.symm g)).trans d) ⟨_,q⟩ ?_;exact kc hz its' _ a q
theorem Inv.lnew(I:Inv X pins Z H s)(a:A2f ys its)(hz:ys.length<=sizeLine):
  Inv X pins Z (upd H s.heap.objs.size (.lst ys)) {s with heap:=s.heap.push {cls:=.type "list",data:=.seq its.toArray},toks:=t'}:=
 I.laid (λ_ _ q=>gk _ q) (gf _) (kc hz its 0 a (ig _ rfl))
theorem Inv.fresh(I:Inv X pins Z H s):H s.heap.objs.size=none:=I.hok.fresh (gf _)
theorem Inv.lstM(I:Inv X pins Z H s)(a:H l=some (.lst xs)):xs.length<=sizeLine/\∃(its:zH)(n:Nat),A2f xs its/\xs.length=its.length/\s.heap.get? l=some {cls:=.type "list",data:=.seq its.toArray n}:=by obtain⟨z,its,n,r,e⟩:=I.hok l _ a;exact iU z its n r r.length e
theorem x4(h:n<=sizeLine):Builtin.List.listTooLong n=false:=by unfold Builtin.List.listTooLong;exact kj (by lia)
end
def xk:V->List V->Hp->VK->Prop:=λx b H Q=>∃l a y,x=.ref l/\b=[y]/\H l=some (.lst a)/\a.length<sizeLine/\Q .non (upd H l (.lst (a++[y])))
theorem kU:MtM X "list.append" xk:=by
 intro c s Z H x m v k Q I g f h;refine gE h ?_;clear h;rintro l o y rfl rfl b ⟨j,q⟩;cases g;obtain⟨u,rfl,d⟩:=f.one;obtain⟨z,a,n,r,i,e⟩:=I.lstM b;refine call_meets F.slot_list_append (al _ e rfl) F.entry_list_append (F.args_list_append_2 _ _) (PySem.list_append l a.toArray n u (by rw[iD];lia)) ⟨e,?_⟩;refine el .non _ (I.lset (its':=a++[u]) b e (by simp) (r.append (.cons d .nil)) ?_) rfl q;rw[gz,lV]
 lia
def Dq:V->List V->Hp->VK->Prop:=λx d H Q=>∃l b c a,x=.ref l/\d=[.ref b]/\H l=some (.lst c)/\H b=some (.lst a)/\c.length+a.length<=sizeLine/\Q .non (upd H l (.lst (c++a)))
theorem qI:MtM X "list.extend" Dq:=by
 intro i s Z H x B v D Q I o m h;refine jd h ?_;clear h;rintro l b K J rfl rfl g y ⟨A,q⟩;cases o;obtain⟨u,rfl,j⟩:=m.one;cases j;obtain⟨z,c,n,r,C,e⟩:=I.lstM g;obtain⟨G,a,t,w,p,k⟩:=I.lstM y;have f:c.toArray.size+a.toArray.size<=sizeLine:=by rw[iD,iD];lia
 have d:¬(! c.toArray.isEmpty&&Builtin.List.listTooLong (c.toArray.size+a.toArray.size))=true:=by rw[x4 f,Bool.and_false];exact hX
 refine call_meets F.slot_list_extend (al _ e rfl) F.entry_list_extend (F.args_list_extend_2 _ _)
  (AutoSeq1.list_extend_list_list_0 l c.toArray n b a.toArray t d (by rw[iD];lia) (by lia)) (fY e k ?_)
 refine el .non _ (I.lset (its':=c++a) g e (by simp) (r.append w) ?_) rfl q;rw[gz]
 lia
def rPop:V->List V->Hp->VK->Prop:=λx b H Q=>∃l a y,x=.ref l/\b=[]/\H l=some (.lst a)/\a[a.length-1]?=some y/\Q y (upd H l (.lst a.dropLast))
theorem CZ:MtM X "list.pop" rPop:=by
 intro f s Z H x t v p Q I m j h;refine gE h ?_;clear h;rintro l w y rfl rfl d ⟨o,q⟩;cases m;have c:=j.zero;subst c;obtain⟨z,a,n,r,k,e⟩:=I.lstM d;obtain⟨u,i,g⟩:=r.get o
 have b:a.toArray[a.toArray.size-1]?=some u:=by show a.toArray[a.length-1]?=some u;rw[<-Array.getElem?_toList,<-k];exact i
 refine call_meets F.slot_list_pop (al _ e rfl) F.entry_list_pop (F.args_list_pop_1 _) (MeetsSeq.list_pop_last l a.toArray n u b (by rw[iD];lia)) ⟨e,?_⟩;refine el y _ (I.lset (its':=a.dropLast) d e ?_ r.dropLast ?_) g q
 ·show a.toArray.eraseIdxIfInBounds (a.toArray.size-1)=a.dropLast.toArray;rw[iD,List.eraseIdxIfInBounds_toArray,Hi]
 ·rw[List.length_dropLast]
  lia
def CC:V->List V->Hp->VK->Prop:=λx b H Q=>∃l a i k y,x=.ref l/\b=[.int i]/\H l=some (.lst a)/\-(2^63)<=i/\i<2^63/\seqIndex? i a.length=some k/\a[k]?=some y/\Q y (upd H l (.lst (a.eraseIdx k)))
theorem EK:MtM X "list.pop" CC:=by
 intro d s Z H x G v J Q I p j h;refine lC h ?_;clear h;rintro l C i k y rfl rfl c m f ⟨A,D,q⟩;cases p;obtain⟨u,rfl,g⟩:=j.one;obtain⟨t,rfl⟩:=g;obtain⟨z,a,n,r,o,e⟩:=I.lstM c;obtain⟨w,B,b⟩:=r.get D
 refine call_meets F.slot_list_pop (al _ e rfl) F.entry_list_pop (F.args_list_pop_2 _ _)
  (MeetsSeq.list_pop_at l a.toArray n i t k w (fitsIndex_both m f) (by rw[iD,<-o];exact A) (by rw[<-Array.getElem?_toList];exact B) (by rw[iD];lia)) ⟨e,?_⟩
 refine el y _ (I.lset (its':=a.eraseIdx k) c e ?_ (r.eraseIdx k) ?_) b q
 ·show a.toArray.eraseIdxIfInBounds k=(a.eraseIdx k).toArray;rw[List.eraseIdxIfInBounds_toArray]
 ·have:=zh C k
  lia
def rCat:R2:=λx y H Q=>∃l b c a,x=.ref l/\y=.ref b/\H l=some (.lst c)/\H b=some (.lst a)/\c.length+a.length<=sizeLine/\∀p,H p=none->Q (.ref p) (upd H p (.lst (c++a)))
theorem rX:OpR X (binaryOp .Add) rCat:=by
 intro d s Z H x y v u Q I k f h;refine jd h ?_;clear h;rintro l b D B rfl rfl g p ⟨t,q⟩;cases k;cases f;obtain⟨z,c,n,r,w,e⟩:=I.lstM g;obtain⟨A,a,C,o,m,j⟩:=I.lstM p;refine PySem.P.add_list e j ?_ (by rw[iD,iD];lia);have i:c.toArray++a.toArray=(c++a).toArray:=by simp
 rw[i];exact el (.ref _) _ (I.lnew (t':=s.toks) (r.append o) (by rw[gz];lia)) rfl (q _ I.fresh)
def rRep:R2:=λx y H Q=>∃l k a,x=.ref l/\y=.int k/\H l=some (.lst a)/\-(2^63)<=k/\k<2^63/\a.length*k.toNat<=sizeLine/\
 ∀p,H p=none->Q (.ref p) (upd H p (.lst (List.replicate k.toNat a).flatten))
theorem Do(xs:List α)(k:Nat):(List.replicate k xs).flatten.length=k*xs.length:=by
 induction k with
 |zero=>simp
 |succ k ih=>rw[List.replicate_succ,List.flatten_cons,gz,ih,Nat.succ_mul,Nat.add_comm]
theorem CF:OpR X (binaryOp .Mult) rRep:=by
 intro w s Z H x y v u Q I L B h;refine gE h ?_;clear h;rintro l k M rfl rfl C ⟨J,A,p,q⟩;cases L;obtain⟨t,rfl⟩:=B;obtain⟨z,b,n,r,K,e⟩:=I.lstM C;have g:b.toArray.size*k.toNat<=sizeLine:=by rw[iD,<-K];exact p
 have i:¬b.toArray.size*k.toNat>(2^63-1)/8:=by
  have:(sizeLine:Nat)<=(2^63-1)/8:=by decide
  lia
 have d:¬(! Builtin.List.listFitsIndex k)=true:=by rw[fitsIndex_both J A];exact hX
 have c:¬Builtin.List.listTooLong (b.toArray.size*k.toNat)=true:=by rw[x4 g];exact hX
 have f:List.foldl (λo j=>o++j) #[] (List.replicate (if b.toArray.isEmpty=true then 0 else k.toNat) b.toArray)=(List.replicate k.toNat b).flatten.toArray:=by
  have D:∀m:Nat,List.foldl (λo j=>o++j) #[] (List.replicate m b.toArray)=(List.replicate m b).flatten.toArray:=λm=>by have:=yO b m [];rw[List.nil_append]at this;exact this
  rw[D]
  cases b with
  |nil=>simp
  |cons a r'=>rw[ej (by simp)]
 refine wpAny_binaryOp_repeat_ref (T:="list") (U:="int") (by decide) (al _ e rfl) (λG=>typeIs_int G k t) noFill_list_mul F.fills_int_mul F.slot_int_rmul repeat_list F.slot_int_index.lookup
  (call_meets F.slot_int_rmul (typeIs_int s k t) F.entry_int_rmul (F.args_int_rmul_2 _ _) (int___rmul___int_list k t l b.toArray n)
   (ip e rfl (al _ e rfl) (call_meets F.slot_list_mul (al _ e rfl) F.entry_list_mul (F.args_list_mul_2 _ _) (AutoListH.list___mul___list_int_3 l b.toArray n k t d i c) ⟨e,?_⟩)))
 rw[f];exact el (.ref _) _ (I.lnew (t':=s.toks) (r.rep k.toNat) (by rw[Do,Nat.mul_comm];exact p)) rfl (q _ I.fresh)
section
set_option maxRecDepth 100000 in
end
section
variable{κ:Type}[DecidableEq κ]
def fy(kvs:List (κ×V))(k:κ):zP:=(kvs.find? λa=>decide (a.1=k)).map (·.2)
def gC(kvs:List (κ×V))(k:κ)(v:V):List (κ×V):=if (kvs.any λa=>decide (a.1=k))=true then kvs.map (λa=>if a.1=k then (a.1,v)else a)else kvs++[(k,v)]
theorem jy{p:κ×V}{r:List (κ×V)}{k:κ}(e:p.1=k):fy (p::r) k=some p.2:=by simp[fy,nQ,e]
theorem jk{p:κ×V}{r:List (κ×V)}{k:κ}(e:¬p.1=k):fy (p::r) k=fy r k:=by simp[fy,nQ,e]
theorem oW(k:κ):∀kvs:List (κ×V),(kvs.any λkv=>decide (kv.1=k))=(fy kvs k).isSome
 | []=>rfl
 |p::r=>by
  rw[List.any_cons];by_cases e:p.1=k
  ·simp only [jy e,iW e,Bool.true_or,Option.isSome_some]
  ·rw[jk e,kj e,Bool.false_or];exact oW k r
theorem yc(k j:κ)(y:V):∀kvs:List (κ×V),fy (kvs.map λkv=>if kv.1=k then (kv.1,y)else kv) j=(fy kvs j).map λx=>if j=k then y else x
 | []=>rfl
 |p::r=>by
  have a:=yc k j y r;rw[gw];by_cases h:p.1=k
  ·rw[fW h];by_cases e:p.1=j
   ·rw[jy (p:=(p.1,y)) e,jy e,Option.map_some,fW (e.symm.trans h)]
   ·rw[jk (p:=(p.1,y)) e,jk e,a]
  ·rw[ej h];by_cases e:p.1=j
   ·rw[jy (p:=p) e,jy e,Option.map_some,ej (λz=>h (e.trans z))]
   ·rw[jk (p:=p) e,jk e,a]
theorem vn(k j:κ)(y:V):∀kvs:List (κ×V),fy kvs k=none->fy (kvs++[(k,y)]) j=if j=k then some y else fy kvs j
 | [],_=>by
  by_cases e:k=j
  ·rw[fW e.symm];exact jy (p:=(k,y)) e
  ·rw[ej (λz=>e z.symm)];exact jk (p:=(k,y)) e
 |p::r,hn=>by
  rw[List.cons_append];have a:¬p.1=k:=λz=>by rw[jy z]at hn;cases hn
  rw[jk a]at hn;have b:=vn k j y r hn;by_cases e:p.1=j
  ·rw[jy e,jy e,ej (λz=>a (e.trans z))]
  ·rw[jk e,jk e,b]
theorem sI(kvs:List (κ×V))(k j:κ)(y:V):fy (gC kvs k y) j=if j=k then some y else fy kvs j:=by
 unfold gC;by_cases a:(kvs.any λc=>decide (c.1=k))=true
 ·rw[fW a,yc];rw[oW]at a;by_cases e:j=k
  ·obtain⟨x,b⟩:=Option.isSome_iff_exists.mp a;rw[fW e,e,b,Option.map_some,fW rfl]
  ·rw[ej e]
   cases fy kvs j with
   |none=>rfl
   |some x=>rw[Option.map_some,ej e]
 ·rw[ej a];refine vn k j y kvs ?_;rw[oW]at a
  cases q:fy kvs k with
  |none=>rfl
  |some x=>rw[q]at a;exact(a rfl).elim
theorem ow(kvs:List (κ×V))(k:κ)(v:V):(gC kvs k v).length<=kvs.length+1:=by
 unfold gC;split
 ·rw[eH];lia
 ·rw[gz,iZ,nn];lia
theorem nI{kvs:List (κ×V)}{k:κ}(v:V)(h:fy kvs k=none):gC kvs k v=kvs++[(k,v)]:=by unfold gC;rw[oW,h];exact ej (by decide)
theorem B2g.isSome_eq{u:zN}(r:B2g o u):o.isSome=u.isSome:=by
 cases o with
 |none=>cases u with|none=>rfl|some _=>exact(show False from r).elim
 |some _=>cases u with|none=>exact(show False from r).elim|some _=>rfl
theorem B2g.getD{u:zN}(r:B2g o u)(rd:A2c d d'):A2c (o.getD d) (u.getD d'):=by
 cases o with
 |none=>cases u with|none=>exact rd|some _=>exact(show False from r).elim
 |some _=>cases u with|none=>exact(show False from r).elim|some _=>exact r
theorem KV.val{kvs:List (κ×V)}{vs:List (κ×zX)}(r:KV kvs vs)(k:κ):B2g (fy kvs k) (valueAt vs k):=by
 unfold KV at r
 induction r with
 |nil=>exact True.intro
 |@cons p q ps qs h t ih=>
  obtain⟨c,d⟩:=h;by_cases e:p.1=k
  ·have a:q.1=k:=c.symm.trans e;have b:valueAt (q::qs) k=some q.2:=by simp[valueAt,nQ,a]
   rw[jy e,b];exact d
  ·have a:¬q.1=k:=λz=>e (c.trans z);have b:valueAt (q::qs) k=valueAt qs k:=by simp[valueAt,nQ,a]
   rw[jk e,b];exact ih
theorem KV.any{kvs:List (κ×V)}{vs:List (κ×zX)}(r:KV kvs vs)(k:κ):(kvs.any λkv=>decide (kv.1=k))=vs.any λkv=>decide (kv.1=k):=by
 unfold KV at r
 induction r with
 |nil=>rfl
 |cons h t ih=>rw[List.any_cons,List.any_cons,ih,h.1]
theorem KV.repl{kvs:List (κ×V)}{vs:List (κ×zX)}(r:KV kvs vs)(k:κ)(c:A2c y u):
  KV (kvs.map λkv=>if kv.1=k then (kv.1,y)else kv) (vs.map λkv=>if kv.1=k then (kv.1,u)else kv):=by
 unfold KV at r⊢
 induction r with
 |nil=>exact .nil
 |@cons p q ps qs h t ih=>
  rw[gw,gw];refine .cons ?_ ih;obtain⟨a,b⟩:=h;by_cases e:p.1=k
  ·rw[fW e,fW (a.symm.trans e)];exact⟨a,c⟩
  ·rw[ej e,ej (λz=>e (a.trans z))];exact⟨a,b⟩
theorem KV.put{kvs:List (κ×V)}{vs:List (κ×zX)}(r:KV kvs vs)(k:κ)(a:A2c y u):KV (gC kvs k y) (stored vs k u):=by
 unfold gC stored;rw[r.any k];by_cases e:(vs.any λb=>decide (b.1=k))=true
 ·rw[fW e,fW e];exact r.repl k a
 ·rw[ej e,ej e];exact Paired.snoc r ⟨rfl,a⟩
theorem KV.length{kvs:List (κ×V)}{vs:List (κ×zX)}(r:KV kvs vs):kvs.length=vs.length:=Paired.length r
end
theorem m5{k:Key}(r:A2c (kV k) u):(ia P w).is k u=true:=by
 cases k with
 |inl i=>obtain⟨t,e⟩:=(show∃t,u=Value.int i t from r);subst e;exact Ib P w i t
 |inr x=>obtain⟨t,e⟩:=(show∃t,u=Value.str x t from r);subst e;exact HB P w x t
theorem zl{P:yB}{w:yD}:∀{ks:zU}{us:zH},A2f (ks.map kV) us->ItemsAre (ia P w) ks us
 | [],_,r=>by rw[List.map_nil]at r;cases r;exact .nil
 |k::ks,_,r=>by
  rw[gw]at r
  cases r with
  |cons h t=>exact .cons (m5 h) (zl t)
abbrev KT(H:Hp):List (List Key×V)->List (List Key×zW×zX)->Prop:=Paired λp q=>p.1=q.1/\H q.2.1=some (.tup (p.1.map kV))/\A2c p.2 q.2.2
theorem KT.val(r:KT H kvs xs)(k:zU):B2g (fy kvs k) ((atKey xs k).map (·.2)):=by
 induction r with
 |nil=>exact True.intro
 |@cons p q ps qs h t ih=>
  obtain⟨c,_,d⟩:=h;by_cases e:p.1=k
  ·have a:q.1=k:=c.symm.trans e;have b:atKey (q::qs) k=some q.2:=by simp[atKey,nQ,a]
   rw[jy e,b];exact d
  ·have a:¬q.1=k:=λz=>e (c.trans z);have b:atKey (q::qs) k=atKey qs k:=by simp[atKey,nQ,a]
   rw[jk e,b];exact ih
theorem KT.repl(r:KT H kvs xs)(k:zU)(d:A2c y u):
  KT H (kvs.map λkv=>if kv.1=k then (kv.1,y)else kv) (xs.map (putAt k u)):=by
 induction r with
 |nil=>exact .nil
 |@cons p q ps qs h t ih=>
  rw[gw,gw];refine .cons ?_ ih;obtain⟨a,b,c⟩:=h;unfold putAt;by_cases e:p.1=k
  ·rw[fW e,fW (a.symm.trans e)];exact fY a b d
  ·rw[ej e,ej (λz=>e (a.trans z))];exact fY a b c
theorem KT.put(r:KT H kvs xs)(k:zU)(d:H b=some (.tup (k.map kV)))(a:A2c y u):
  KT H (gC kvs k y) (storedH xs k b u):=by
 have e:(kvs.any λc=>decide (c.1=k))=(atKey xs k).isSome:=by rw[oW,(r.val k).isSome_eq,Option.isSome_map]
 unfold gC storedH;rw[e];by_cases q:(atKey xs k).isSome=true
 ·rw[fW q,fW q];exact r.repl k a
 ·rw[ej q,ej q];exact Paired.snoc r (fY rfl d a)
theorem KT.keeps(r:KT H kvs xs)(a:∀b ys,H b=some (.tup ys)->H' b=some (.tup ys)):KT H' kvs xs :=Paired.mapP r λ_ _ z=>(fY z.1 (a _ _ z.2.1) z.2.2)
theorem tZ{u:HO}(b:HOk P w H h)(e:Rd H a u):A1g P w H h a u:=e.ok b
theorem n4{kvs:zJ}(b:HOk P w H h)(e:Rd H a (.dK kvs)):kvs.length<=sizeLine/\(a==sysModules)=false/\∃vs,KV kvs vs/\h.DictOf (ia P w) a vs :=show A1g P w H h a (.dK kvs) from tZ b e
theorem oI{kvs:zJ}(b:HOk P w H h)(e:H a=some (.dK kvs)):kvs.length<=sizeLine/\(a==sysModules)=false/\∃vs,KV kvs vs/\h.DictOf (ia P w) a vs:=n4 b (.inl e)
theorem oP(d:HOk P w H h)(e:H a=some (.tup (ks.map kV))):(tupleKind (ia P w)).is h ks a:=by refine tI (show A1g P w H h a (.tup (ks.map kV)) from d a _ e) λ_ b r o f c n g=>?_;exact gD o b.toArray n f c g (by simpa using zl r)
theorem oF(d:HOk P w H h)(e:Rd H a (.dT kvs)):kvs.length<=sizeLine/\(a==sysModules)=false/\
  ∃xs,KT H kvs xs/\h.DictOfH (tupleKind (ia P w)) a xs:=by
 refine jR (show A1g P w H h a (.dT kvs) from tZ d e) ?_;rintro z y xs r o s n g ⟨f,j,k,i⟩;refine iw z y xs r (nj o s n g f j k (λx b=>?_) i)
 have c:∀{l:List (List Key×V)}{m:List (List Key×zW×zX)},KT H l m->∀x∈m,(tupleKind (ia P w)).is h x.1 x.2.1:=by
  intro l m q
  induction q with
  |nil=>intro x b;exact nomatch b
  |@cons p q ps qs hq t ih=>
   intro x b;rcases gY.mp b with e|b
   ·subst e;exact oP d (by rw[<-hq.1];exact hq.2.1)
   ·exact ih x b
 exact c r x b
theorem Bj(b:HOk P w H h)(e:H a=some (.dT kvs)):kvs.length<=sizeLine/\(a==sysModules)=false/\
  ∃xs,KT H kvs xs/\h.DictOfH (tupleKind (ia P w)) a xs:=oF b (.inl e)
def A6z(H:Hp)(a:zW)(y:V)(r:zP):Prop :=(∃c k,Rd H a (.dK c)/\y=kV k/\r=fy c k)\/∃c k b,Rd H a (.dT c)/\y=.ref b/\H b=some (.tup (k.map kV))/\r=fy c k
def C3j(H:Hp)(a:zW)(y v:V)(H':Hp):Prop :=
 (∃c k,H a=some (.dK c)/\y=kV k/\c.length<sizeLine/\H'=upd H a (.dK (gC c k v)))\/
 ∃c k b,H a=some (.dT c)/\y=.ref b/\H b=some (.tup (k.map kV))/\c.length<sizeLine/\H'=upd H a (.dT (gC c k v))
theorem A6z.k{kvs:zJ}{k:Key}(e:H a=some (.dK kvs)):A6z H a (kV k) (fy kvs k):=.inl (el kvs k (.inl e) rfl rfl)
theorem A6z.t{k:zU}(e:H a=some (.dT kvs))(c:H b=some (.tup (k.map kV))):A6z H a (.ref b) (fy kvs k):=.inr (gD kvs k b (.inl e) rfl c rfl)
theorem C3j.k{kvs:zJ}{k:Key}(e:H a=some (.dK kvs))(b:kvs.length<sizeLine):C3j H a (kV k) v (upd H a (.dK (gC kvs k v))):=.inl (im kvs k e rfl b rfl)
theorem C3j.t{k:zU}(e:H a=some (.dT kvs))(d:H b=some (.tup (k.map kV)))(c:kvs.length<sizeLine):
  C3j H a (.ref b) v (upd H a (.dT (gC kvs k v))):=.inr (gX kvs k b e rfl d c rfl)
section
variable{r:zX}
theorem Inv.big(I:Inv X pins Z H s):sysModules<s.heap.objs.size:=by have h:mainGlobals<s.heap.objs.size:=(I.mod.glob.keeps I.bk).lt;exact Nat.lt_trans (by decide) h
theorem Fq(x:A.units+1<cLine)(I:Inv X pins Z H s)(g:A6z H a y (some v))(r:A2c y u)(h:∀f s',Inv X pins Z H s'->A2c v f->Q f s'):
  wpAny (model X.prog X.w) A (getItem (.ref a) u) Q E s:=by
 rcases g with ⟨i,k,e,q,l⟩|⟨i,k,b,e,q,C,l⟩
 ·subst q;obtain⟨z,t,B,c,j⟩:=n4 I.hok e;obtain⟨f,m,d⟩:=B2g.some_of (v:=v) (o:=valueAt B k) (by rw[l];exact c.val k);exact wpAny_getItem_of (m5 r) j.mapOf m (h f _ (I.tok _) d)
 ·subst q;cases(show u=Value.ref b from r);obtain⟨z,t,F,c,j⟩:=oF I.hok e;obtain⟨f,m,d⟩:=B2g.some_of (v:=v) (o:=(atKey F k).map (·.2)) (by rw[l];exact c.val k);obtain⟨p,D,n⟩:=lI.mp m;refine wpAny_getItem_heap (tupleKind_room_in1 x) (oP I.hok C) j D ?_;rw[n];exact h f _ (I.tok _) d
theorem d_in(n:A.units+1<cLine)(I:Inv X pins Z H s)(g:A6z H a y o)(m:A2c y u)(h:∀s',Inv X pins Z H s'->Q (.bool o.isSome) s'):
  wpAny (model X.prog X.w) A (compareOp .In u (.ref a)) Q E s:=by
 rcases g with ⟨d,k,e,j,l⟩|⟨d,k,b,e,j,p,l⟩
 ·subst j;obtain⟨z,f,r,c,i⟩:=n4 I.hok e;refine wpAny_in_of (m5 m) f i.mapOf ?_;rw[<-(c.val k).isSome_eq,<-l];exact h _ (I.tok _)
 ·subst j;cases(show u=Value.ref b from m);obtain⟨z,f,t,c,i⟩:=oF I.hok e;refine wpAny_in_heap (tupleKind_room_in1 n) (oP I.hok p) f i ?_;have q:=(c.val k).isSome_eq;rw[Option.isSome_map]at q;rw[<-q,<-l];exact h _ (I.tok _)
theorem DR(n:A.units+1<cLine)(I:Inv X pins Z H s)(g:A6z H a y o)(m:A2c y u)(h:∀s',Inv X pins Z H s'->Q (.bool (! o.isSome)) s'):
  wpAny (model X.prog X.w) A (compareOp .NotIn u (.ref a)) Q E s:=by
 rcases g with ⟨d,k,e,j,l⟩|⟨d,k,b,e,j,p,l⟩
 ·subst j;obtain⟨z,f,r,c,i⟩:=n4 I.hok e;refine wpAny_notIn_of (m5 m) f i.mapOf ?_;rw[<-(c.val k).isSome_eq,<-l];exact h _ (I.tok _)
 ·subst j;cases(show u=Value.ref b from m);obtain⟨z,f,t,c,i⟩:=oF I.hok e;refine wpAny_notIn_heap (tupleKind_room_in1 n) (oP I.hok p) f i ?_;have q:=(c.val k).isSome_eq;rw[Option.isSome_map]at q;rw[<-q,<-l];exact h _ (I.tok _)
theorem qy(I:Inv X pins Z H s)(i:Mut (H a))(f:Heap.SameBut a s.heap h')(h:∃q,h'.get? a=some q)(d:A1g X.prog X.w (upd H a c) h' a c):
  Inv X pins Z (upd H a c) {s with heap:=h',toks:=t'}:=
 I.write (x:=a) (e:=a) i (.inl rfl) (λb q g z=>(f.2 b g).trans z) h d
theorem uy{kvs:zJ}{vs:List (Key×zX)}(z:kvs.length<=sizeLine)(c:(a==sysModules)=false)(b:KV kvs vs)(d:h'.DictOf (ia P w) a vs):
  A1g P w H' h' a (.dK kvs):=(iw z c vs b d)
theorem Fw{Q:Unit->zY->Prop}(S:A.units+1<cLine)(I:Inv X pins Z H s)(g:C3j H a y v H')(C:A2c y u)(J:A2c v r)(h:∀s',Inv X pins Z H' s'->Q () s'):
  wpAny (model X.prog X.w) A (setItem (.ref a) u r) Q E s:=by
 rcases g with ⟨d,k,e,x,l,B⟩|⟨d,k,b,e,x,F,l,B⟩
 ·subst x B;obtain⟨z,n,M,i,t⟩:=oI I.hok e;have o:M.length<=sizeLine:=by rw[<-i.length];exact z
  have p:(gC d k v).length<=sizeLine:=by have:=ow d k v;lia
  refine wpAny_setItem_pairs (hsz:=o) (m5 C) t λG f m=>h _ ?_;have R:∃q,G.get? a=some q:=let⟨q,_,_,j,_⟩:=f;⟨q,j⟩;exact qy I (by rw[e];exact True.intro) m R (uy p n (i.put k J) f)
 ·subst x B;cases(show u=Value.ref b from C);obtain⟨z,n,U,i,t⟩:=Bj I.hok e;have o:U.length<=sizeLine:=by rw[<-Paired.length i];exact z
  have p:(gC d k v).length<=sizeLine:=by have:=ow d k v;lia
  refine wpAny_setItem_heap (hsz:=o) (tupleKind_room_in1 S) (oP I.hok F) t λG f m=>h _ ?_;refine gE f ?_;clear f;rintro q P O j K L ⟨N,_,T⟩;refine qy I (by rw[e];exact True.intro) m ⟨q,j⟩ (iw p n _ ((i.put k F J).keeps λc W D=>?_) (gX q P O j K L N T));rw[dF (gg D e (λz=>nomatch z))];exact D
end
section
variable{kvs:zJ}{k:Key}
end
def rE(i:yC):Prop:=∀a b,subscripted i false a b=operate [a,b] (getItem a b)
theorem uM{c:Env}{a:yC}{id:String}
  (k:typeLookup (.type T) "__getitem__"=pure (some (.builtin id))) (g:rE a)
  (h:wpAny (model prog w) A (eval value c) (λo s₁=>wpAny (model prog w) A (eval a c) (λi s₂=>s₂.TypeIs o T/\wpAny (model prog w) A (getItem o i) Q E s₂) E s₁) E s):
  wpAny (model prog w) A (eval (.Subscript value a pos) c) Q E s:=by
 refine Subscript_ (jT h (λo s₁ j=>jT j (λi s₂ d=>?_) λ_ _ x=>x) λ_ _ x=>x);obtain⟨e,d⟩:=d;unfold subscriptTail;refine dh ?_;rw[getitemInPython_of_ne e.not_modules];refine dh (wpAny_specialOf e k ?_)
 have b:wpAny (model prog w) A (subscripted a false o i) (λr f=>wpAny (model prog w) A (letTemporaryGo value o r>>=λ_=>pure r) Q E f) E s₂:=by rw[g o i];exact wpAny_operating (jT d (λr f l=>dh (wpAny_letTemporaryGo (eh l))) λ_ _ x=>x)
 first|exact eh (dh b)|exact dh (eh (dh b))|exact dh b
theorem HZ(I:Inv X pins Z H s)(g:A6z H a y o):s.TypeIs (.ref a) "dict":=by
 rcases g with ⟨c,k,e,_,_⟩|⟨c,k,b,e,_,_,_⟩
 ·obtain⟨_,_,f,_,d⟩:=n4 I.hok e;exact d.typeIs
 ·obtain⟨_,_,h,_,d⟩:=oF I.hok e;exact d.typeIs
def Bo(td ty:TE):TE:=λZ H Q=>td Z H λx c=>ty Z c λy b=>∃a v,x=.ref a/\A6z b a y (some v)/\Q v b
def tDIn(ty td:TE):TE:=λZ H Q=>ty Z H λy c=>td Z c λx b=>∃a o,x=.ref a/\A6z b a y o/\Q (.bl o.isSome) b
def Dd(ty td:TE):TE:=λZ H Q=>ty Z H λy c=>td Z c λx b=>∃a o,x=.ref a/\A6z b a y o/\Q (.bl (! o.isSome)) b
def Bk(td ty tv:TE):TS:=λD Z H=>tv Z H λv d=>td Z d λx c=>ty Z c λy e=>∃a b,x=.ref a/\C3j e a y v b/\D.nx Z b
section
variable{X:Cx}{o i e value:yC}{pos pos' tpos:Pos}{td ty tv:TE}
theorem iE(q:X.A.units+1<cLine)(l:PE X o td)(hi:PE X i ty)(e:rE i:=by exact λ_ _=>rfl):PE X (.Subscript o i pos) (Bo td ty):=by intro b s Z H Q I h;refine uM PySem.F.slot_dict_getitem.lookup e (thn (l b s Z H _ I h) ?_);rintro u n ⟨x,m,I1,r,k⟩;refine thn (hi b n Z m _ I1 k) ?_;rintro z B d;refine nP d ?_;clear d;rintro y t I2 j ⟨a,v,p,g,f⟩;subst p;obtain rfl:u=Value.ref a:=r;exact⟨HZ I2 g,Fq q I2 g j λC w I3 c=>(el v t I3 c f)⟩
theorem BM(j:X.A.units+1<cLine)(hi:PE X i ty)(l:PE X o td):PC X .In i o (tDIn ty td):=by intro b s Z H Q I h;refine thn (hi b s Z H _ I h) ?_;rintro w r ⟨y,q,I1,f,k⟩;refine thn (l b r Z q _ I1 k) ?_;rintro u t c;refine nP c ?_;clear c;rintro x p I2 m ⟨a,n,d,g,e⟩;subst d;obtain rfl:u=Value.ref a:=m;exact d_in j I2 g f λv I3=>(el (.bl n.isSome) p I3 rfl e)
theorem Gy(j:X.A.units+1<cLine)(hi:PE X i ty)(l:PE X o td):PC X .NotIn i o (Dd ty td):=by intro b s Z H Q I h;refine thn (hi b s Z H _ I h) ?_;rintro w r ⟨y,q,I1,f,k⟩;refine thn (l b r Z q _ I1 k) ?_;rintro u t c;refine nP c ?_;clear c;rintro x p I2 m ⟨a,n,d,g,e⟩;subst d;obtain rfl:u=Value.ref a:=m;exact DR j I2 g f λv I3=>(el (.bl (! n.isSome)) p I3 rfl e)
theorem nG(z:X.A.units+1<cLine)(k:PE X o td)(hi:PE X i ty)(t:PE X value tv)(d:swapsWith value (some (.Subscript o i pos')) pos.line X.env=pure false):
  PS X (.Assign [.Subscript o i pos'] value pos) (Bk td ty tv):=by
 intro b s Z H D I h;refine wpAny_Assign_Subscript (thn (t b s Z H _ I h) ?_) d;rintro r p ⟨v,n,I1,B,j⟩;refine thn (k b p Z n _ I1 j) ?_;rintro u w ⟨x,F,I2,C,e⟩;refine thn (hi b w Z F _ I2 e) ?_;rintro K J c;refine nP c ?_;clear c;rintro y L I3 f ⟨a,l,q,g,m⟩;subst q;obtain rfl:u=Value.ref a:=C;exact Fw z I3 g f B λG I4=>(iy Z l I4 m)
end
theorem yn(h:yA)(a:sysModules<h.objs.size):A1g P w H (h.push {cls:=.type "dict",data:=.dict #[]}) h.objs.size (.dK []):=(iw (iG _) (oB.mpr (Ne.symm (jq a))) [] .nil (Heap.DictOf.new h))
theorem EB(h:yA)(a:sysModules<h.objs.size):A1g P w H (h.push {cls:=.type "dict",data:=.dict #[]}) h.objs.size (.dT []):=(iw (iG _) (oB.mpr (Ne.symm (jq a))) [] .nil (gX _ (#[]) 0 (ig _ rfl) (fY rfl rfl rfl) rfl rfl List.nodup_nil))
def BX:TE:=λ_ H Q=>∀p,H p=none->Q (.ref p) (upd H p (.dK []))
def Cw:TE:=λ_ H Q=>∀p,H p=none->Q (.ref p) (upd H p (.dT []))
theorem pT:PE X (.Dict [] [] pos) BX:=λb s Z H Q I h=>wpAny_Dict_empty (el (.ref s.heap.objs.size) _ (I.laid (a:=s.heap.objs.size) (o:=.dK []) (t':=s.toks) (λ_ _ q=>gk _ q) (gf _) (yn s.heap I.big)) rfl (h _ (I.hok.fresh (gf _))))
theorem yk:PE X (.Dict [] [] pos) Cw:=λb s Z H Q I h=>wpAny_Dict_empty (el (.ref s.heap.objs.size) _ (I.laid (a:=s.heap.objs.size) (o:=.dT []) (t':=s.toks) (λ_ _ q=>gk _ q) (gf _) (EB s.heap I.big)) rfl (h _ (I.hok.fresh (gf _))))
def uz:List (TE×TE)->St->Hp->(List (V×V)->Hp->Prop)->Prop| [],_,H,Q=>Q [] H|(tk,tv)::r,Z,H,Q=>tk Z H λx c=>tv Z c λy a=>uz r Z a λb d=>Q ((x,y)::b) d
abbrev VV:List (V×V)->List (zX×zX)->Prop:=Paired λp q=>A2c p.1 q.1/\A2c p.2 q.2
def PPs(X:Cx)(pos:Pos)(c:List (Option yC))(a:zT)(trs:List (TE×TE)):Prop :=
 ∀(b:zD)(s:zY)(Z:St)(H:Hp)(Q:List (V×V)->Hp->Prop),Inv X b Z H s->uz trs Z H Q->
  wpAny (model X.prog X.w) X.A (evalPairs (pairTrees c a X.env pos)) (λg f=>∃e d,Inv X b Z d f/\VV e g/\Q e d) X.xe s
theorem xI:PPs X pos [] [] []:=λa s Z H Q I h=>pairTrees_nil_walk (el [] H I .nil h)
theorem oX{k v:yC}{ks:List (Option yC)}{vs:zT}(q:PE X k tk)(m:PE X v tv)(f:PPs X pos ks vs trs):
  PPs X pos (some k::ks) (v::vs) ((tk,tv)::trs):=λa s Z H Q I h=>
 pairTrees_cons_walk (thn (q a s Z H _ I h) λu l ⟨x,j,I1,o,e⟩=>thn (m a l Z j _ I1 e) λz n ⟨y,p,I2,d,c⟩=>thn (f a n Z p _ I2 c) (by rintro w t ⟨i,r,I3,b,g⟩;exact el ((x,y)::i) r I3 (.cons ⟨o,d⟩ b) g))
def kG(kvs a:zJ):zJ:=a.foldl (λb c=>gC b c.1 c.2) kvs
theorem KV.merge:∀{a:zJ}{rs:List (Key×zX)}{kvs:zJ}{vs:List (Key×zX)},KV a rs->KV kvs vs->KV (kG kvs a) (merged vs rs):=by
 intro a rs kvs vs r;unfold KV at r
 induction r generalizing kvs vs with
 |nil=>intro q;exact q
 |@cons p q ps qs h t ih=>
  intro b
  have e:KV (gC kvs p.1 p.2) (stored vs q.1 q.2):=by have:=b.put p.1 h.2;rw[<-h.1];exact this
  exact ih e
theorem vC:∀(a kvs:zJ),(kG kvs a).length<=kvs.length+a.length| [],kvs=>by show kvs.length<=kvs.length+0;lia|p::r,kvs=>by have c:=vC r (gC kvs p.1 p.2);have b:=ow kvs p.1 p.2;show(kG (gC kvs p.1 p.2) r).length<=_;rw[iZ];lia
theorem Aj{P:yB}{w:yD}:∀{kvs:zJ}{d:List (zX×zX)},VV (kvs.map λkv=>(kV kv.1,kv.2)) d->∃rs,Carries (ia P w) d rs/\KV kvs rs
 | [],_,r=>by rw[List.map_nil]at r;cases r;exact al [] True.intro .nil
 |p::kvs,_,r=>by
  rw[gw]at r
  cases r with
  |@cons a b as bs h t=>obtain⟨rs,c,q⟩:=Aj (P:=P) (w:=w) t;obtain⟨f,e⟩:=b;exact al ((p.1,e)::rs) (fY (m5 h.1) rfl c) (.cons ⟨rfl,h.2⟩ q)
def Bx(trs:List (TE×TE)):TE:=λZ H Q=>∀p,H p=none->uz trs Z (upd H p (.dK [])) λd b=>b p=some (.dK [])/\∃a:zJ,d=a.map (λc=>(kV c.1,c.2))/\a.length<=15/\Q (.ref p) (upd b p (.dK (kG [] a)))
theorem xw{b:List (Option yC)}{d:zT}(h:PPs X pos b d trs)(g:b.all (·.isSome)=true)(C:b.length=d.length)(G:b≠[])
  (k:b.length<=15):PE X (.Dict b d pos) (Bx trs):=by
 intro f s Z H Q I q;have F:=I.hok.fresh (gf s.heap.objs.size);have I1:=I.laid (a:=s.heap.objs.size) (o:=.dK []) (h':=s.heap.push {cls:=.type "dict",data:=.dict #[]}) (t':=s.toks) (λ_ _ q=>gk _ q) (gf _) (yn s.heap I.big);refine wpAny_Dict_walk (knd:=ia X.prog X.w) g C G k (thn (h f _ Z _ _ I1 (q _ F)) ?_);rintro K M m;refine jo m ?_;clear m;rintro L O I2 l e ⟨i,v,N,r⟩;subst v;obtain⟨u,c,y⟩:=Aj (P:=X.prog) (w:=X.w) l;obtain⟨z,p,A,J,D⟩:=oI I2.hok e;cases J;refine fV u c D λh' j n=>(el (.ref s.heap.objs.size) _ ?_ rfl r)
 have t:(kG [] i).length<=sizeLine:=by have B:=vC i [];rw[nn]at B;rw[sizeLine_eq];lia
 have x:∃q,h'.get? s.heap.objs.size=some q:=let⟨q,_,_,hq,_⟩:=j;⟨q,hq⟩;exact qy I2 (by rw[e];exact True.intro) n x (uy t p (y.merge .nil) j)
structure M2(X:Cx)(o:yC)(m:Str)(apos:Pos)(e f:yC)(cpos:Pos):Prop where
 base:attributeBase o m X.env (eval o X.env)=eval o X.env
 few:((backTo cpos (starEach [e,f] X.env)).all (λx=> ! x.1)&&(backToKw cpos (keywordEach [] X.env)).all (λx=>x.1.isSome)
  && decide (([e,f]:zT).length+([]:List Keyword).length+(if ([]:List Keyword).isEmpty then 0 else 1)<30))=true
 line:(apos.endLine==cpos.line)=true
 trees:backTo cpos (starEach [e,f] X.env)=[(false,eval e X.env),(false,eval f X.env)]
def IsD(H:Hp)(a:zW):Prop:=(∃b,Rd H a (.dK b))\/∃b,Rd H a (.dT b)
theorem CP(I:Inv X pins Z H s)(d:IsD H a):
  s.TypeIs (.ref a) "dict"/\(∀b,Value.ref a=.ref b->∃c,s.heap.get? b=some c/\c.dict=none)/\(a==sysModules)=false:=by
 rcases d with ⟨h,e⟩|⟨h,e⟩
 ·obtain⟨_,i,k,_,f⟩:=n4 I.hok e;refine fY f.typeIs (λb q=>?_) i;cases q;obtain⟨c,_,_,j,g,_⟩:=f;exact al c j g.2.1
 ·obtain⟨_,i,l,_,f⟩:=oF I.hok e;refine fY f.typeIs (λb q=>?_) i;cases q;obtain⟨c,_,_,j,g,_⟩:=f;exact al c j g.2.1
section
variable{r:zX}
theorem CB(q:A.units+1<cLine)(I:Inv X pins Z H s)(g:A6z H a y o)(n:A2c y u)(rd:A2c d r)(h:∀p s',Inv X pins Z H s'->A2c (o.getD d) p->Q p s'):
  wpAny (model X.prog X.w) A (call (.builtin "dict.get") [.ref a,u,r]) Q E s:=by
 rcases g with ⟨i,k,e,m,l⟩|⟨i,k,b,e,m,t,l⟩
 ·subst m;obtain⟨z,j,x,c,f⟩:=n4 I.hok e;refine call_meetsIn PySem.F.slot_dict_get f.typeIs PySem.F.entry_dict_get (PySem.F.args_dict_get_3 _ _ _) (meets_dict_get_default (ia X.prog X.w) a (m5 n) j r) (al _ f.mapOf (h _ _ (I.tok _) ?_));rw[l];exact(c.val k).getD rd
 ·subst m;cases(show u=Value.ref b from n);obtain⟨z,j,v,c,f⟩:=oF I.hok e;refine call_meetsIn PySem.F.slot_dict_get f.typeIs PySem.F.entry_dict_get (PySem.F.args_dict_get_3 _ _ _) (meetsH_dict_get_default (tupleKind (ia X.prog X.w)) a b j r) (iU (tupleKind_room_in1 q) k v (oP I.hok t) f (h _ _ (I.tok _) ?_));rw[l];exact(c.val k).getD rd
end
def Cc(td ty tx:TE):TE:=λZ H Q=>td Z H λx b=>∃a,x=.ref a/\IsD b a/\ty Z b λy d=>tx Z d λz c=>∃o,A6z c a y o/\Q (o.getD z) c
section
variable{o f:yC}
theorem Eo(D:X.A.units+1<cLine)(n:PE X o td)(v:PE X e ty)(K:PE X f tx)(m:M2 X o "get" apos e f cpos):PE X (.Call (.Attribute o "get" apos) [e,f] [] cpos) (Cc td ty tx):=by
 intro b s Z H Q I h;refine wpAny_Call_method m.base m.few m.line PySem.F.plainAttrs_dict PySem.F.slot_dict_get PySem.F.type_dict_get (thn (n b s Z H _ I h) ?_);rintro u t i;refine nP i ?_;clear i;rintro x r I1 J ⟨a,B,d,l⟩;subst B;obtain rfl:u=Value.ref a:=J;obtain⟨p,G,_⟩:=CP I1 d;refine fY p G ?_;rw[m.trees]
 refine Calls.callWith_builtin rfl (Calls.evalArgs_plain (Calls.spliced_cons (thn (v b t Z r _ I1 l) λR C ⟨y,L,I2,k,j⟩=>Calls.spliced_cons (thn (K b C Z L _ I2 j) λN P ⟨z,M,I3,w,T,g,q⟩=>Calls.spliced_nil ?_))))
 exact CB D I3 g k w λS O I4 c=>(el _ M I4 c q)
end
section
variable{kvs:zJ}
end
end L2
namespace Att
open PySem PySem.W PySem.Calls PyProof.Rows
variable{w:yD}{s:zY}{q prog:yB}{n:Nat}{l:OpenLaw}{h:yA}{e:zH}{d:DefRec}{c:zC}{args:List WData}{YP:yD->yA->Prop}{XP:zE->yA->Prop}{P:Params}{K:Frag}{E:zA}{A:zZ}
theorem Jc:∀(ns:zI)(vs:zH),WellAll P h vs (ns.map WData.int)->IntsAre vs ns:=by
 intro ns
 induction ns with
 |nil=>intro vs w;rw[List.map_nil]at w;cases w;exact .nil
 |cons n ns ih=>
  intro vs w;rw[gw]at w
  cases w with
  |cons a b=>
   cases a
   exact .cons _ _ (ih _ b)
theorem Fh(u:l.most=some n)
  (c:l.row.toRowW.claim.pre args=true) (j:WellAll P h e args):
  ∃a vs b,e=[Value.ref a]/\args=[WData.list (b.map WData.int)]/\h.get? a=some {cls:=.type "list",data:=.seq vs.toArray}/\IntsAre vs b/\b.length<=n:=by
 have k:WShape.hasAll [] args [.list .int]=true:=(pre_splitW c).1;have m:l.pre.holds [] {args:=args}=true:=(pre_splitW c).2;obtain⟨d,r,rfl,s,o⟩:=hasAllW_cons k;obtain rfl:=hasAllW_nil o;obtain⟨v,rfl,t⟩:=hasW_list s;obtain⟨b,rfl⟩:=items_int t
 have f:b.length<=n:=by
  unfold OpenLaw.pre at m
  have i:(WTm.not (.lt (.lit (.int (n:Int))) (.len (.arg 0)))).holds [] {args:=[.list (b.map .int)]}=true:=by have i:=(holds_andW m).1;rw[u]at i;exact i
  have g:=condW_of i (w_not (w_lt w_lit (w_len_list (w_arg rfl))));rw[eH]at g;refine Nat.le_of_not_lt λq=>?_;have p:(n:Int)<((b.length:Nat):Int):=by lia
  first|(rw[iW p]at g;exact absurd g (by decide))|(simp at g;lia)
 cases j with
 |cons w1 w2=>
  cases w2
  cases w1 with
  |list ho hall=>exact gX _ _ b rfl rfl ho (Jc b _ hall) f
theorem Fx(l:OpenLaw)(args:List WData):l.row.toRowW.claim.post args (.bool true) args=true :=
 postW_of (r:=l.row.toRowW) (X:=(true==true))
  (show WShape.has [] (.bool true) .bool=true by first|rfl|decide|simp[WShape.has,WShape.arms,WShape.armsAll])
  (show(WTm.eq .res (.lit (.bool true))).value [] {args:=args,res:=some (.bool true),after:=args}=some (.bool (true==true)) from w_eq_bool (w_res rfl) w_lit) rfl
theorem attach_call
  (P:l.most=some n) (v:d.params.defaults=[])
  (h:∀(w:yD)(y b:zY)(mg t:zE)(j:zW)(o:Obj)(pm cd e:zX)(a:zW)(vs:zH)(p:zI),
   Ground q c [] XP w y mg t b.heap->YP w b.heap->
   b.heap.get? j=some o->o.data=.func (docDef d.name d.params d.body d.scope pm cd e)->b.heap.CodeRec cd d.name->mg d.name=some (.ref j)->
   b.heap.get? a=some {cls:=.type "list",data:=.seq vs.toArray}->IntsAre vs p->p.length<=n->b.gens=#[]->
   codeAny (model l.prog w) callerA (.call (.ref j) ⟨[.ref a],[]⟩) (λr s'=>r=.ok (.ret (.bool true))/\OldK b.heap s'.heap/\s'.os=b.os/\AllBare s'.gens) b):
  WalkO q c XP YP l.row.toRowW d [] (λf vs=>PySem.call f vs):=by
 intro w y b mg t G Y j o pm cd e H kV J F x z s M C B R k A O u K;obtain rfl:H=.none:=Dflts.none z v;obtain rfl:kV=.none:=Dflts.noKw z;refine gE (Fh P k u) ?_;rintro a vs p rfl rfl i ⟨g,m⟩;refine enter_call (codeAny_mono (h w y b mg t j o pm cd e a vs p G Y J (fd_plain F) x s i g m M) λr s' Q=>?_);obtain⟨rfl,D,L,N⟩:=Q;exact ip (.inl (gX (.bool true) (.bool true) [] rfl (λ_=>rfl) (.bool true) (Fx l _) λ_=>⟨List.Pairwise.nil,λ_ I=>(nomatch I)⟩)) D L N
end Att
namespace L2
open PySem PySem.Spec PyProof.Rows
variable{κ α:Type}{z l2 l1 i2 i1 dx d b a C:zW}{value:yC}{v:V}{us:zH}{ty tv to te td ta:TE}{tpos pos' pos p2 p1 cpos apos:Pos}{tc:TT}{s₁ s1 s' s:zY}{st2 st1:Nat->yA->Prop}{src2 src1:zG->yA->Prop}{sp' sp:Sp}{sh:List Bool}{scope:Scope}{q2 q1:Bool}{prog P:yB}{w:yD}{pm oc ct:zX}{pl pins:zD}{name m:Str}{mg L:zE}{js:List Nat}{j i₀:Nat}{ix:List (Option Nat)}{h' h g' base:yA}{g:TG}{fp:zQ}{ds:List PyData}{c:Prop}{an:zO}{Z₀ Z' Z:St}{YP:yD->yA->Prop}{X:Cx}{U T:String}{S':zV}{QD:Hp->Prop}{N0 N' N:zC}{K:Frag}{J:It}{H2 H1 H G:Hp}{E:zA}{CX:CXT}{A:zZ}
variable{P:yB}{w:yD}{K:Frag}{mg:zE}{a l d f b it p:zW}{fd:zS}{x qual:Str}{vs:List (Key×zX)}{n k1 k2 t' i ep kk:Nat}{XP:zE->yA->Prop}{X:Cx}{st:Stmt}{ps N':zC}{od o:Obj}{osl sl:zF}{A:zZ}{pos:Pos}{B:Prop}{H H':Hp}{h h':yA}{g:TG}{e:zO}{Q:zN->zY->Prop}{es:Array DictEntry}{xs ys:zG}{y:zX}{ts:zQ}{tg elt iter:yC}{tb:TS}{D:lZ}{Z:St}{v:V}{scope:Scope}{u:HO}{S:zV}{r:zK}{tl te:TE}{pins:zD}{s:zY}{kvs:zJ}{cs elts:zT}{ix:List (Option Nat)}{wi:TI}{tc:TT}{use:Option (zX->Sem Unit)}{Qf:zA}{sts:List Stmt}{ks:zU}{kas:List (fZ×zW×V)}{sh:List Bool}
theorem zw:∀{vs:zH}{a:zI},IntsAre vs a->A2f (a.map V.int) vs|_,_,.nil=>.nil|_,_,.cons n t h=>.cons ⟨t,rfl⟩ (zw h)
def rB(H:Hp):Prop:=∀b,H b=none\/∃o a,H b=some (.frz o (.lst a))
theorem Et{k:Nat}{Q:zW}{vs:zH}{C:zI}
  (KX:K.In s₁.heap) (I:s₁.heap.Ns mainGlobals mg) (f:s₁.heap.Ns builtinsNs L) (M:∀x:Str,x≠"__name__"->L x=bootBuiltins x) (D:s₁.heap.NoLimit) (hg:s₁.gens=#[])
  (J:s₁.heap.get? a=some {cls:=.type "list",data:=.seq vs.toArray}) (hi:IntsAre vs C) (Y:C.length<=sizeLine) (hr:A8d k callerA)
  (F:∀base:yA,K.In base->base.Ns mainGlobals mg->A5j P w K mg base CX k Q fd [x] sp) (j:∀(s:zY)(u:zX),BindsTo s fd ⟨[u],[]⟩ [(x,u)])
  (O:∀H:Hp,rB H->SqL K H a (C.map V.int)->sp [.ref a] H (λv _=>v=.bl true) λ_ _ _=>False)
  (R:∀H e s',CX [] H s₁ (λ_ _ _=>False) e s'->False):
  codeAny (model P w) callerA (.call (.ref Q) ⟨[.ref a],[]⟩) (λr s'=>r=.ok (.ret (.bool true))/\OldK s₁.heap s'.heap/\s'.os=s₁.os/\AllBare s'.gens) s₁:=by
 have X:=zw hi;have p:=hi.length
 have i:∀H:Hp,rB H->SqL K H a (C.map V.int)->HOk P w H s₁.heap->(∀b,H b≠none->b=a)->(H a≠none->K.lookup a=none)->
   codeAny (model P w) callerA (.call (.ref Q) ⟨[.ref a],[]⟩) (λr s'=>r=.ok (.ret (.bool true))/\OldK s₁.heap s'.heap/\s'.os=s₁.os/\AllBare s'.gens) s₁:=by
  intro H U hS B Z hK;have c:∀{b:zW}{o:Obj},s₁.heap.get? b=some o->H b=none->(nw s₁.heap H).get? b=some o:=λe n=>Ex e n
  have S:∀{b:zW}{o:Obj}{t:Array DictEntry}{ep:Nat},s₁.heap.get? b=some o->o.data=.dict t ep->H b=none:=λ{b o t ep} e d=>by
   cases q:H b with
   |none=>rfl
   |some u=>have N:b=a:=Z b (by rw[q];simp);subst N;rw[J]at e;cases e;have d':Data.seq vs.toArray _=Data.dict t ep:=d;cases d'
  have g:∀{b:zW}{m:zE},s₁.heap.Ns b m->(nw s₁.heap H).Ns b m:=λ{b m} ⟨o,t,ep,e,d,r⟩=>(jF o t ep (c e (S e d)) d r)
  have y:K.In (nw s₁.heap H):=λb o e=>c (KX b o e) (by
   cases q:H b with
   |none=>rfl
   |some u=>
    have N:b=a:=Z b (by rw[q];simp);subst N
    rw[hK (by rw[q];simp)]at e;cases e)
  have hM:Mod K mg (nw s₁.heap H):=⟨y,g I,(al L (g f) M),let⟨mc,h1,h2⟩:=D;(al mc (g h1) h2)⟩;have e0:D4a P w K mg (nw s₁.heap H) callerA [] s₁ H:=⟨rfl,hM,λb o e=>DU e,Nat.le_of_eq (Gv _ _),trivial,λb f=>absurd (show b∈([]:zQ) from f) (by simp),B,.of_eq hg⟩;refine codeAny_mono ((F _ y (g I)).run callerA [] s₁ H ⟨[.ref a],[]⟩ [.ref a] [.ref a] _ _ hr e0 (j s₁ (.ref a)) (.cons rfl .nil) (O H U hS)) λr s' h=>?_
  cases r with
  |error e=>exact(R H e s' h).elim
  |ok fl=>
   cases fl with
   |next=>exact False.elim h
   |brk=>exact False.elim h
   |cont=>exact False.elim h
   |ret u=>
    refine jo h ?_;clear h;rintro v H' os l W ⟨A,r',q⟩;have E:v=.bl true:=q;subst E;obtain rfl:u=Value.bool true:=r';refine ip rfl (OldK.of_keep λb o e=>?_) os l
    cases q:H b with
    |none=>exact W.keep b o e q (by intro z;exact absurd (show b∈([]:zQ) from z) (by simp)) (by simp)
    |some u=>
     rcases U b with z|⟨ob,xs,z⟩
     ·rw[q]at z;cases z
     ·have z2:=W.frzs b ob _ z;obtain⟨T,_⟩:=B b _ z;obtain⟨e2,_⟩:=A b _ z2;rw[e]at T;cases T;exact e2
 cases hk:K.lookup a with
 |some o=>have e:=KX a o hk;rw[J]at e;cases e;refine i (λ_=>none) (λ_=>.inl rfl) (.inr (nj _ vs.toArray _ hk rfl rfl rfl (by rw[iD,p];exact Y) (by simpa using X))) (λb u z=>by have G:(none:Option HO)=some u:=z;cases G) (λb z=>absurd rfl z) λz=>absurd rfl z
 |none=>
  refine i (λb=>if b=a then some (.frz {cls:=.type "list",data:=.seq vs.toArray} (.lst (C.map V.int)))else none) (λb=>?_) (.inl (.inr ⟨{cls:=.type "list",data:=.seq vs.toArray},fW rfl⟩)) (λb u z=>?_) (λb z=>?_) λ_=>hk
  ·by_cases f:b=a
   ·exact .inr (jw _ _ (fW f))
   ·exact .inl (ej f)
  ·by_cases f:b=a
   ·have G:=(fW f).symm.trans z;cases G;subst f;exact⟨J,(kc (by rw[eH];exact Y) vs _ X J)⟩
   ·have G:=(ej f).symm.trans z;cases G
  ·by_cases f:b=a
   ·exact f
   ·exact absurd (ej f) z
theorem D3g{l:PySem.W.OpenLaw}{k:Nat}{q:yB}{i:zC}{d:DefRec}{K:Params->Frag}{CX:yD->CXT}{sp:yD->Sp}
  (R:l.most=some n) (B:n<=sizeLine) (z:d.params.defaults=[]) (I:A8d k callerA)
  (L:∀(w:yD)(h:yA),YP w h->(K w.params).In h)
  (F:∀(w:yD)(mg:zE)(p:zW)(h:yA),(K w.params).In h->h.Ns mainGlobals mg->mg d.name=some (.ref p)->
   ∃fd:zS,(∀(s:zY)(u:zX),BindsTo s fd ⟨[u],[]⟩ [(x,u)])/\
    ∀base:yA,(K w.params).In base->base.Ns mainGlobals mg->A5j l.prog w (K w.params) mg base (CX w) k p fd [x] (sp w))
  (y:∀(w:yD)(H:Hp)(a:zW)(r:zI),r.length<=n->rB H->SqL (K w.params) H a (r.map V.int)->sp w [.ref a] H (λv _=>v=.bl true) λ_ _ _=>False)
  (A:∀(w:yD)(H:Hp)(s:zY)(e:zX)(s':zY),CX w [] H s (λ_ _ _=>False) e s'->False):
  PySem.W.WalkO q i XP YP l.row.toRowW d [] (λf vs=>PySem.call f vs):=by
 refine Att.attach_call R z λw s₀ N mg U p o E X D a vs r G Y Z S Q t m j c J=>?_;have KX:=L w _ Y;obtain⟨fd,P,O⟩:=F w mg p _ KX G.T.g t;exact Et KX G.T.g G.T.b G.T.builtins G.T.nolimit J m j (kX c B) I O P (λH M C=>y w H a r c M C) λH e s'=>A w H N e s'
def mw(s:Stmt)(j:Nat):Stmt:=match s with|.ClassDef _ _ _ body _ _ _ _ _ _ _=>body.getD j (.Pass ⟨0,0,0,0⟩)|_=>.Pass ⟨0,0,0,0⟩
def m9(s:Stmt):Arguments:=match s with|.FunctionDef _ a _ _ _ _ _ _ _ _=>a|_=>{posonlyargs:=[],args:=[],vararg:=none,kwonlyargs:=[],kw_defaults:=[],kwarg:=none,defaults:=[]}
def mU(s:Stmt):List Stmt:=match s with|.FunctionDef _ _ b _ _ _ _ _ _ _=>b|_=>[]
def gy(s:Stmt):Scope:=match s with|.FunctionDef _ _ _ _ _ _ sc _ _ _=>sc|_=>{kind:=.function,names:=[],isGenerator:=false,isCoroutine:=false}
abbrev jB:CXT:=λ_ _ _ _ _ _=>False
abbrev E0:XK:=λ_ _ _=>False
theorem oM:oQ jB X E0:=λ_ _ _ _ _ _ _ h=>h.elim
structure Fun(K:Frag)(x qual:Str)(st:Stmt)(f:zW)(fd:zS):Prop where
 ex:∃(oc:zX)(od:zO)(kV doc pm:zX)(an:zO)(cdv ct:zX)(osl:zF),
  fd=fnOf x qual (m9 st) (mU st) (gy st) .none kV doc pm an cdv ct/\K.lookup f=some ⟨oc,od,.func fd,osl⟩/\codeIn K cdv qual=true
 kp:keepIn K (.ref f)=true
theorem Fun.ok{k:Nat}(F:Fun K x qual st f fd)(S:gO N ps (gy st))
  (b:∀(a:zX)(A:zZ)(outer:List Env)(s:zY)(H:Hp)(vs:zM)(Q:VK)(E:XK),A8d k (A.deeper (envOfC qual (gy st) s.heap.objs.size f a))->sp vs H Q E->
   ∃t,PSs (pA jB P w K mg base N qual (gy st) f a A outer s H E).nox (mU st) t/\t {nx:=λ_ H'=>Q .non H',rt:=Q} (nZ N vs) H) (e:∀vs H Q E,sp vs H Q E->vs.length=ps.length:=by walk_at"ln"):A5j P w K mg base jB (k+1) f fd ps sp:=by
 refine lB F.ex ?_;rintro p n kV g r m a o l rfl j c;refine Bz j c S e λA outer s H vs Q E i d=>?_;obtain⟨t,h,q⟩:=b a A outer s H vs Q E i d;exact al t h.nox q
theorem Fun.binds(F:Fun K x qual st f fd)
  (h:∀(kV a pm:zX)(an:zO)(b ct:zX)(us:zH),us.length=ps.length->bindArgs (fnOf x qual (m9 st) (mU st) (gy st) .none kV a pm an b ct) ⟨us,[]⟩=pure (ps.zip us)):A8v K fd ps []:=by
 refine lB F.ex ?_;rintro g e kV a pm an b ct c rfl i d;exact .all (h kV a pm an b ct)
theorem rM{od:zO}{kV b a:zX}(l:K.lookup f=some ⟨oc,od,.func (fnOf x qual (m9 st) (mU st) (gy st) .none kV b pm an a ct),osl⟩)
  (c:codeIn K a qual=true) (k:keepIn K (.ref f)=true):Fun K x qual st f (fnOf x qual (m9 st) (mU st) (gy st) .none kV b pm an a ct):=⟨(mF oc od kV b pm an (jF a ct osl rfl l c)),k⟩
theorem kF{k:Nat}(a:A8d k A):A.units+1<cLine:=p9 (Nat.add_le_add_left (by decide:1<=64) _) a.units
theorem pv(i:Nat)(d:X.N[i]?=some x:=by rfl)(b:Vis X.env.scope x:=by first|exact Or.inl rfl|exact Or.inr (Or.inl rfl)|exact Or.inr (Or.inr rfl))(c:(x==("__debug__":Str))=false:=by decide)
  (a:(x==("__classdict__":Str))=false:=by decide):PE X (.Name x pos) (pE i):=Ck d b c a
theorem gM{A:Prop}(h:B):if false=true then A else B:=by rw[ej hX];exact h
theorem kN{A:Prop}(h:A):if true=true then A else B:=by rw[fW rfl];exact h
theorem vW{A:Prop}[Decidable c](h1:c->A)(h2:¬c->B):if c then A else B:=by
 by_cases h:c
 ·rw[fW h];exact h1 h
 ·rw[ej h];exact h2 h
def A0j(H H':Hp):Prop:=∀b o,H b=some o->H' b=some o
theorem A0j.refl(H:Hp):A0j H H:=λ_ _ h=>h
theorem A0j.trans(a:A0j H H1)(b:A0j H1 H2):A0j H H2:=λc o h=>b c o (a c o h)
theorem A0j.free(e:A0j H H')(h:H' l=Option.none):H l=Option.none:=by
 cases q:H l with
 |none=>rfl
 |some o=>rw[e l o q]at h;cases h
section
variable{κ:Type}[DecidableEq κ]
end
def vZ(t u:TS):TS:=λD Z H=>∃M:St->Hp->Prop,t {D with nx:=M} Z H/\∀Z' a,M Z' a->u D Z' a
theorem x0{st:Stmt}{rest:List Stmt}{t u:TS}(h1:PS X st t)(h2:PSs X rest u):PSs X (st::rest) (vZ t u):=by
 intro a s Z H D I h;obtain⟨M,h,c⟩:=h;refine wpAny_execs_cons (thn (h1 a s Z H {D with nx:=M} I h) λf d q=>?_)
 cases f with
 |next=>obtain⟨Z',b,I',q⟩:=q;exact h2 a d Z' b D I' (c _ _ q)
 |ret v=>exact q
 |brk=>exact q
 |cont=>exact q
def rIsi(K:Frag):zM->Hp->VK->Prop:=λa H Q=>∃x c t b,a=[x,c]/\km K H x t/\(∀u,A2c c u->kitOne K t u=some b)/\Q (.bl b) H
theorem jZ:mN X (.builtin "isinstance") (rIsi X.K):=by intro d s Z H l k Q I r h;refine jp h ?_;clear h;rintro x c t ⟨b,rfl,i,e,q⟩;obtain⟨u,g,rfl,f,a⟩:=ub r;exact Gk I f i (e g a) λj=>(el (.bl b) H (I.tok j) rfl q)
theorem mV(T:String):∀u,A2c (.ty T) u->kitOne K (.type T) u=some true:=by intro u h;cases(show u=Value.type T from h);unfold kitOne;rw[fW (beq_self_eq_true _)]
theorem pQ{b:Bool}(h:(Value.type T==Value.type U)=false)(c:PySem.W.kitMeta U=true)(a:(PySem.fastBuiltinMro T).map (·.contains (Value.type U))=some b):
  ∀u,A2c (.ty U) u->kitOne K (.type T) u=some b:=by
 intro u z;cases(show u=Value.type U from z);unfold kitOne;rw[ej (by rw[h];exact hX)];show(if PySem.W.kitMeta U=true then subIn K (.type T) (.type U)else none)=some b;rw[fW c];exact a
def Cv(K:Frag):R2:=λx y H Q=>∃a b c d,x=.ref a/\y=.ref b/\SqT K H a c/\SqT K H b d/\d≠[]/\c.length+d.length<=sizeLine/\
 (c=[]->Q (.ref b) H)/\(c≠[]->∀p,H p=none->Q (.ref p) (upd H p (.tup (c++d))))
theorem Ee:OpR X (binaryOp .Add) (Cv X.K):=by
 intro d s Z H x y v u Q I B o h;refine jd h ?_;clear h;rintro a b C D rfl rfl r t ⟨W,M,L,G⟩;by_cases hx:C=[]
 ·subst hx;cases B;cases o;obtain⟨g,O,P,_⟩:=I.tuple r;obtain⟨i,Y,R,_⟩:=I.tuple t;have J:g=[]:=O.nil_iff.mpr rfl;obtain⟨⟨S,T,q,N⟩,p,A,n,m⟩:=id P;obtain⟨⟨w,l,k,j⟩,e,c,U,f⟩:=id R;simp only at A m c f;subst A m c f
  exact concat_meets (al _ p rfl) (al _ e rfl) noFill_tuple_add seq_tuple_add PySem.F.slot_tuple_add PySem.F.entry_tuple_add (PySem.F.args_tuple_add_2 _ _)
   (tuple_addW0 a b g.toArray i.toArray n U T l N j (by simp[J])) ⟨p,(iU e (.ref b) H I rfl (L rfl))⟩
 ·exact xZ d s Z H _ _ v u Q I B o (iI a b C D rfl rfl r t (ip hx M (λz=>absurd z W) λ_=>G hx))
structure Nx(it l:zW)(st:Nat->yA->Prop)(src:zG->yA->Prop):Prop where
 item:∀{prog:yB}{w:yD}{A:zZ}{E:zA}{s:zY}{k:Nat}{xs:zG}{x:zX}{Q:zA},st k s.heap->src xs s.heap->xs[k]?=some x->
  (∀h',st (k+1) h'->Heap.SameBut it s.heap h'->Q x {s with heap:=h'})->wpAny (model prog w) A (Builtin.SmallTypes.nextOf (.ref it)) Q E s
 fin:∀{prog:yB}{w:yD}{A:zZ}{E:zA}{s:zY}{k:Nat}{xs:zG}{Q:zA},A.handled=none->st k s.heap->src xs s.heap->xs[k]?=none->
  (∀h' e,Heap.ExtBut it s.heap h'->(∃o,h'.get? e=some o/\o.cls=.type "StopIteration")->E (.ref e) {s with heap:=h'})->wpAny (model prog w) A (Builtin.SmallTypes.nextOf (.ref it)) Q E s
 mv:∀{k:Nat}{h h':yA},st k h->(∀o,h.get? it=some o->h'.get? it=some o)->st k h'
 mvS:∀{xs:zG}{h h':yA},src xs h->(∀o,h.get? l=some o->h'.get? l=some o)->src xs h'
 ob:∀{k:Nat}{h:yA},st k h->∃o,h.get? it=some o/\∀v,o.data≠.cell v
theorem oS(it l:zW):Nx it l (λk h=>h.IsListIter it l k) (λxs h=>h.IsList l xs) where
 item:=wpAny_nextOf_list_item
 fin:=wpAny_nextOf_list_end
 mv:=λx e=>x.at e
 mvS:=λx e=>x.at e
 ob:=λ⟨o,e,_,d⟩=>(al o e λv z=>by rw[d]at z;cases z)
def E0e(h:zW)(g:yA):Prop:=∃b a,g.get? h=some b/\b.data=.fields a/\a[2]?=some .none
theorem E0e.at{h:zW}{g:yA}(k:E0e h g)(f:∀o,g.get? h=some o->g'.get? h=some o):E0e h g':=let⟨oh,vs,e,d,z⟩:=k;(el oh vs (f _ e) d z)
abbrev HdA(e:zO):zZ->Prop:=λA=>A.handled=e.map Value.ref
def HdF(e:zO)(fp:zQ)(g:yA):Prop:=∀h,e=some h->E0e h g/\∀c∈fp,h≠c
theorem HdF.at{g:yA}(k:HdF e fp g)(f:∀h o,(∀c∈fp,h≠c)->g.get? h=some o->g'.get? h=some o){c:zW}(b:c∈fp):HdF e [c] g':=λh z=>⟨(k h z).1.at λo q=>f h o (k h z).2 q,λd a=>by rw[ik.mp a];exact(k h z).2 c b⟩
theorem IR:entryFor table "proto.unchain"=some Builtin.«proto.unchain»:=entryFor_of_fast (by kernel_rfl)
theorem Il{e:zX}{h:zW}{a:Obj}{vs:zG}{Q:zA}(b:s.heap.get? h=some a)(c:a.data=.fields vs)(h2:vs[2]?=some .none)(d:Q .none s):
  wpAny (model prog w) A (runValue (.builtin "proto.unchain" ⟨[e,.ref h,.ref h,.bool false],[]⟩)) Q E s:=by
 refine runValue_entry IR ?_;show wpAny _ _ (field (.ref h) 2>>=_) _ _ s;refine dh (jf b c h2 ?_);exact eh (al _ rfl d)
theorem IK{h e:zW}{c b:Obj}{vs es:zG}{Q:α->zY->Prop}(g:A.handled=some (.ref h))(i:h≠e)(k:s.heap.get? h=some c)(d:c.data=.fields vs)(h2:vs[2]?=some .none)(l:s.heap.get? e=some b)(a:b.data=.fields es)(hz:2<es.size)
  (f:E (.ref e) {s with heap:=s.heap.update e (Obj.mapFields (·.setIfInBounds 2 (.ref h)))}):wpAny (model prog w) A (raiseNew (.ref e)) Q E s:=by
 simp only [raiseNew];refine dh (wpAny_handled ?_);rw[g];have j:(Value.ref h != Value.ref e)=true:=by simpa using i
 dsimp only;rw[fW j];refine dh (kM (Il k d h2 ?_));refine dh (nr (x:=.ref h) l a hz (wpAny_throw f))
theorem wq{Q:α->zY->Prop}(i:HdA e A)(q:HdF e [it] s.heap)(f:Heap.ExtBut it s.heap s1.heap)
  (g:∀h' a,Heap.ExtBut it s.heap h'->(∃o,h'.get? a=some o/\o.cls=.type "StopIteration")->E (.ref a) {s1 with heap:=h'}):wpAny (model prog w) A (newExc (.type "StopIteration") []>>=λx=>(raiseNew x:Sem α)) Q E s1:=by
 refine dh ?_;simp only [newExc,newTuple];refine dh (lG ?_ (by size_fits));refine dh (m:=firstArgMember _ _) (wpAny_of_eq (a:=Value.none) (by first|rfl|(simp only [firstArgMember];rfl)) ?_);refine lG ?_ (by size_fits)
 cases e with
 |none=>simp only [raiseNew];refine dh (wpAny_handled ?_);rw[show A.handled=none from i];exact dh (eh (wpAny_throw (g _ _ ((f.push _).push _) (al _ (ig _ rfl) rfl))))
 |some h=>
  obtain⟨⟨r,u,t,p,k⟩,l⟩:=q h rfl;have c:=f h r (l it (.head _)) t;refine IK (h:=h) i ?_ (gk _ (gk _ c)) p k (ig _ rfl) rfl (by simp;lia) ?_
  ·exact jq (by rw[mZ];exact Nat.lt_succ_of_lt (gN c))
  refine g _ _ (λb o j n=>?_) (al _ (py _ (ig _ rfl) rfl) rfl);have d:=f b o j n;exact(tN _ _ (kd (by rw[mZ];exact Nat.lt_succ_of_lt (gN d)))).trans (gk _ (gk _ d))
theorem C9{k:Nat}(i:HdA e A)(m:HdF e [it] s.heap)(hi:s.heap.IsListIter it l k)(j:s.heap.IsList l xs)(n:xs[k]?=none)
  (g:∀h' a,Heap.ExtBut it s.heap h'->(∃o,h'.get? a=some o/\o.cls=.type "StopIteration")->E (.ref a) {s with heap:=h'}):wpAny (model prog w) A (callSpecial? (.ref it) (Str.ofString "__next__")) (λ_ _=>False) E s:=by
 obtain⟨o,d,r,b⟩:=id hi;obtain⟨q,c,_,p,f⟩:=j;refine lR (name:=Str.ofString "__next__") hi.typeIs slot_listiter_next (ke slot_listiter_next hi.typeIs entry_listiter_next ?_ (args_listiter_next _));show wpAny _ _ (field (.ref it) 0>>=_) _ _ s;refine dh (jf d b (x:=.ref l) rfl ?_);show wpAny _ _ (if (Value.ref l==Value.none)=true then _ else _) _ _ s;rw[ej (show¬((Value.ref l==Value.none)=true) from hX)];show wpAny _ _ (field (.ref it) 1>>=_) _ _ s;refine dh (jf d b (x:=.int k 0) rfl ?_);show wpAny _ _ (seqItems? (.ref l)>>=_) _ _ s;refine dh (lE c f ?_);simp only [Int.toNat_natCast,n];exact dh (wpAny_rule (dh (nr d b (by simp) (wq i m (Heap.SameBut.update (a:=it) (h:=s.heap) (Obj.mapFields (·.setIfInBounds 0 .none))).extBut g))))
theorem xR{k:Nat}(i:HdA e A)(m:HdF e [it] s.heap)(hi:s.heap.IsTupleIter it l k)(j:s.heap.IsTuple l xs)(n:xs[k]?=none)
  (g:∀h' a,Heap.ExtBut it s.heap h'->(∃o,h'.get? a=some o/\o.cls=.type "StopIteration")->E (.ref a) {s with heap:=h'}):wpAny (model prog w) A (callSpecial? (.ref it) (Str.ofString "__next__")) (λ_ _=>False) E s:=by
 obtain⟨o,d,r,b⟩:=id hi;obtain⟨q,c,_,p,f⟩:=j;refine lR (name:=Str.ofString "__next__") hi.typeIs F.slot_tuple_iterator_next (ke F.slot_tuple_iterator_next hi.typeIs F.entry_tuple_iterator_next ?_ (F.args_tuple_iterator_next_1 _));show wpAny _ _ (field (.ref it) 0>>=_) _ _ s;refine dh (jf d b (x:=.ref l) rfl ?_);show wpAny _ _ (if (Value.ref l==Value.none)=true then _ else _) _ _ s;rw[ej (show¬((Value.ref l==Value.none)=true) from hX)];show wpAny _ _ (field (.ref it) 1>>=_) _ _ s;refine dh (jf d b (x:=.int k 0) rfl ?_);show wpAny _ _ (seqItems? (.ref l)>>=_) _ _ s;refine dh (lE c f ?_);simp only [Int.toNat_natCast,n];exact dh (wpAny_rule (dh (nr d b (by simp) (wq i m (Heap.SameBut.update (a:=it) (h:=s.heap) (Obj.mapFields (·.setIfInBounds 0 .none))).extBut g))))
theorem uT{x:zX}{Q:zA}(h:wpAny (model prog w) A (callSpecial? x (Str.ofString "__next__")) (λ_ _=>False) E s):wpAny (model prog w) A (Builtin.SmallTypes.nextOf x) Q E s:=by unfold Builtin.SmallTypes.nextOf;exact dh (jT h (λ_ _ z=>z.elim) λ_ _ z=>z)
theorem Jp{k:Nat}{x:zX}{Q:zA}(hi:s.heap.IsTupleIter it l k)(f:s.heap.IsTuple l xs)(g:xs[k]?=some x)
  (e:∀h',h'.IsTupleIter it l (k+1)->Heap.SameBut it s.heap h'->Q x {s with heap:=h'}):wpAny (model prog w) A (Builtin.SmallTypes.nextOf (.ref it)) Q E s:=by
 obtain⟨o,b,h,a⟩:=id hi;obtain⟨j,c,_,i,d⟩:=f;unfold Builtin.SmallTypes.nextOf;refine dh (lR (name:=Str.ofString "__next__") hi.typeIs F.slot_tuple_iterator_next (ke F.slot_tuple_iterator_next hi.typeIs F.entry_tuple_iterator_next ?_ (F.args_tuple_iterator_next_1 _)));show wpAny _ _ (field (.ref it) 0>>=_) _ _ s;refine dh (jf b a (x:=.ref l) rfl ?_);show wpAny _ _ (if (Value.ref l==Value.none)=true then _ else _) _ _ s;rw[ej (show¬((Value.ref l==Value.none)=true) from hX)];show wpAny _ _ (field (.ref it) 1>>=_) _ _ s;refine dh (jf b a (x:=.int k 0) rfl ?_);show wpAny _ _ (seqItems? (.ref l)>>=_) _ _ s;refine dh (lE c d ?_);simp only [Int.toNat_natCast,g];refine dh (nr b a (by simp) (eh (al x rfl (eh (e _ ?_ (Heap.SameBut.update ..))))));exact fV _ (py _ b (Obj.isFreed_of_fields (Obj.data_mapFields a _))) ((Obj.cls_mapFields ..).trans h) (by rw[Obj.data_mapFields a];simp[rawInt])
theorem Jk{k:Nat}{Q:zA}(c:A.handled=none)(hi:s.heap.IsTupleIter it l k)(a:s.heap.IsTuple l xs)(d:xs[k]?=none)
  (b:∀h' e,Heap.ExtBut it s.heap h'->(∃o,h'.get? e=some o/\o.cls=.type "StopIteration")->E (.ref e) {s with heap:=h'}):wpAny (model prog w) A (Builtin.SmallTypes.nextOf (.ref it)) Q E s :=
 uT (xR (e:=none) c (λ_ z=>nomatch z) hi a d b)
theorem oZ(it l:zW):Nx it l (λk h=>h.IsTupleIter it l k) (λxs h=>h.IsTuple l xs) where
 item:=Jp
 fin:=Jk
 mv:=λ⟨o,e,r⟩ f=>(al o (f _ e) r)
 mvS:=λ⟨o,e,r⟩ f=>(al o (f _ e) r)
 ob:=λ⟨o,e,_,d⟩=>(al o e λv z=>by rw[d]at z;cases z)
section
variable{TI TO:zW}
theorem EE(N1:Nx i1 l1 st1 src1)(N2:Nx i2 l2 st2 src2){x a b:zX}(D:ZipApart z TI TO i1 i2 l1 l2)
  (hz:IsZip s.heap z TI TO .none) (G:IsPair s.heap TI (.ref i1) (.ref i2)) (t:IsPair s.heap TO a b) (h1:st1 k1 s.heap) (h2:st2 k2 s.heap) (J:src1 xs s.heap) (I:src2 ys s.heap) (hx:xs[k1]?=some x) (hy:ys[k2]?=some y)
  (U:∀h',IsZip h' z TI TO (rawInt s.heap.objs.size)->IsPair h' TO x y->st1 (k1+1) h'->st2 (k2+1) h'->IsPair h' s.heap.objs.size x y->
   (∀c o,c≠z->c≠TO->c≠i1->c≠i2->s.heap.get? c=some o->h'.get? c=some o)->Q (some (.ref s.heap.objs.size)) {s with heap:=h'}):wpAny (model prog w) A (pyNext (.ref z)) Q E s:=by
 have M:s.TypeIs (.ref z) "zip":=(al _ hz rfl);unfold pyNext;refine dh (wpAny_attempt (lR (name:=Str.ofString "__next__") M F.slot_zip_next (ke F.slot_zip_next M F.entry_zip_next ?_ (F.args_zip_next_1 _))));show wpAny _ _ (field (.ref z) 2>>=_) _ _ _;refine dh (jf hz rfl (x:=.bool false) rfl ?_);show wpAny _ _ (field (.ref z) 3>>=_) _ _ _;refine dh (jf hz rfl (x:=.ref TI) rfl ?_);refine dh (lE G rfl ?_);show wpAny _ _ (Builtin.SmallTypes.ownedTupleIsFree (.ref z)>>=_) _ _ _;refine dh ?_;unfold Builtin.SmallTypes.ownedTupleIsFree;refine dh (jf hz rfl (x:=.none) rfl (eh ?_));simp only [if_true];refine dh (wpAny_rule ?_);refine dh (jf hz rfl (x:=.ref TO) rfl ?_);refine dh (mj hz (by simp) λg1 B f=>?_)
 replace B:IsZip g1 z TI TO .ellipsis:=B
 refine dh ?_;simp only [List.zipIdx_cons,List.zipIdx_nil,List.forIn_cons,List.forIn_nil];refine dh (dh (wpAny_onRaise ?_));show wpAny _ _ (Builtin.SmallTypes.nextOf (.ref i1)>>=_) _ _ _;refine dh (N1.item (N1.mv h1 λo e=>f.extBut _ _ D.i1z e) (N1.mvS J λo e=>f.extBut _ _ D.l1z e) hx λg2 Z g=>eh ?_);have O:IsPair g2 TO a b:=g.extBut _ _ D.TOi1 (f.extBut _ _ D.TOz t);refine dh (lE O rfl ?_);refine dh (wpAny_updateSeq_pair O λg3 v h=>?_)
 replace v:IsPair g3 TO x b:=v
 refine dh (wpAny_letGo (eh ?_));refine dh (dh (wpAny_onRaise ?_));show wpAny _ _ (Builtin.SmallTypes.nextOf (.ref i2)>>=_) _ _ _;refine dh (N2.item (N2.mv h2 λo e=>h.extBut _ _ D.TOi2.symm (g.extBut _ _ D.i12.symm (f.extBut _ _ D.i2z e))) (N2.mvS I λo e=>h.extBut _ _ D.l2TO (g.extBut _ _ D.l2i1 (f.extBut _ _ D.l2z e))) hy λT Y l=>eh ?_);have K:IsPair T TO x b:=l.extBut _ _ D.TOi2 v;refine dh (lE K rfl ?_);refine dh (wpAny_updateSeq_pair K λg5 m j=>?_)
 replace m:IsPair g5 TO x y:=m
 refine dh (wpAny_letGo (eh (eh ?_)));refine dh (lE m rfl ?_);refine dh (wpAny_newTuple ?_);have k:g5.objs.size=s.heap.objs.size:=by rw[j.1,l.1,h.1,g.1,f.1]
 have L:IsZip g5 z TI TO .ellipsis:=j.extBut _ _ D.TOz.symm (l.extBut _ _ D.i2z.symm (h.extBut _ _ D.TOz.symm (g.extBut _ _ D.i1z.symm B)));have k5:∀c o,c≠z->c≠TO->c≠i1->c≠i2->s.heap.get? c=some o->g5.get? c=some o:=λc o d r C u e=>j.extBut _ _ r (l.extBut _ _ u (h.extBut _ _ r (g.extBut _ _ C (f.extBut _ _ d e))));have W:st1 (k1+1) g5:=N1.mv Z λo e=>j.extBut _ _ D.TOi1.symm (l.extBut _ _ D.i12 (h.extBut _ _ D.TOi1.symm e));have X:st2 (k2+1) g5:=N2.mv Y λo e=>j.extBut _ _ D.TOi2.symm e;have i:z<g5.objs.size:=gN L;show wpAny _ _ (Builtin.SmallTypes.ownedTupleHandOut (.ref z) (.ref g5.objs.size)>>=_) _ _ _;refine dh ?_;unfold Builtin.SmallTypes.ownedTupleHandOut;have z6:IsZip (g5.push {cls:=.type "tuple",data:=.seq #[x,y]}) z TI TO .ellipsis:=gk _ L;refine dh (mj z6 (by simp) λS H R=>?_)
 replace H:IsZip S z TI TO (rawInt g5.objs.size):=H
 refine mj H (by simp) λq p P=>?_
 replace p:IsZip q z TI TO (rawInt g5.objs.size):=p
 have n:∀c o,c≠z->g5.get? c=some o->q.get? c=some o:=λc o d e=>P.extBut _ _ d (R.extBut _ _ d (gk _ e));have N:IsPair q g5.objs.size x y:=P.extBut _ _ (kd i) (R.extBut _ _ (kd i) (ig _ rfl));rw[k]at p N;refine eh (al _ rfl (eh ?_));show Q (some (.ref g5.objs.size)) _;rw[k];exact U q p (n _ _ D.TOz m) (N1.mv W λo e=>n _ o D.i1z e) (N2.mv X λo e=>n _ o D.i2z e) N λc o d r C u e=>n c o d (k5 c o d r C u e)
end
theorem Inv.turnedNew{o:HO}(I:Inv X pins Z H s)(k:∀b u,b∉ts->s.heap.get? b=some u->h'.get? b=some u)(f:∀b∈ts,lg X pins H b)(j:s.heap.objs.size<=a)
  (i:A1g X.prog X.w (upd H a o) h' a o):Inv X pins Z (upd H a o) {s with heap:=h',toks:=t'}:=by
 have t:∀b u,H b=some u->b∉ts:=λb u e z=>by have:=(f b z).1;rw[e]at this;cases this
 have y:∀b u,s.heap.get? b=some u->b≠a:=λb u e=>jq (kB (gN e) j);have h:H a=none:=I.hok.fresh j
 refine I.step (g':=s.gens) (d':=s.drawn) (ch:=ts) (λb g=>(ip ((f b g).2.2.2.1) ((f b g).2.1) ((f b g).2.2.2.2.1) ((f b g).2.2.2.2.2))) (λb u _ _ d e _=>k b u d e) (λb u _ _ d e _=>⟨u.slots,k b u d e⟩)
  (λb u _ e n=>by rw[dF (y b u e)];exact n) (λb u d e=>⟨u,k b u d e⟩) (λb p e=>by rw[dF (ga e h)];exact e) (λb u p e=>by rw[dF (ga e h)];exact e)
  (λb D e=>⟨#[],by rw[dF (ga e h),e];simp⟩) (λm x=>?_) (λb u e=>?_) I.bare
 ·obtain⟨l,C,B,A,r⟩:=x;exact jn l C B (k _ l (λz=>(f _ z).2.1 rfl) A) r
 ·by_cases g:b=a
  ·subst g;rw[ee]at e;cases e;exact i
  ·rw[dF g]at e;refine(I.hok b u e).stay (λc v d q=>k c v ?_ q) (λc q=>by rw[dF (ga q h)];exact q) λc p q=>by rw[dF (ga q h)];exact q
   rcases d with rfl|d
   ·exact t _ _ e
   ·exact t _ _ d
theorem Inv.turnedL(I:Inv X pins Z H s)(k:∀b u,b∉ts->s.heap.get? b=some u->h'.get? b=some u)(f:∀b∈ts,lg X pins H b):Inv X pins Z H {s with heap:=h',toks:=t'}:=by
 have i:∀b u,H b=some u->b∉ts:=λb u e z=>by have:=(f b z).1;rw[e]at this;cases this
 refine I.step (g':=s.gens) (d':=s.drawn) (ch:=ts) (λb d=>(ip ((f b d).2.2.2.1) ((f b d).2.1) ((f b d).2.2.2.2.1) ((f b d).2.2.2.2.2))) (λb u _ _ a e _=>k b u a e) (λb u _ _ a e _=>⟨u.slots,k b u a e⟩)
  (λb u _ e n=>n) (λb u a e=>⟨u,k b u a e⟩) (λb h e=>e) (λb u h e=>e) (λb t e=>⟨#[],by rw[e];simp⟩) (λm j=>?_) (λb u e=>?_) I.bare
 ·obtain⟨g,p,o,l,r⟩:=j;exact jn g p o (k _ g (λz=>(f _ z).2.1 rfl) l) r
 ·refine(I.hok b u e).stay (λc v a q=>k c v ?_ q) (λc q=>q) λc h q=>q;rcases a with rfl|a
  ·exact i _ _ e
  ·exact i _ _ a
def SrK(k:Bool)(h:yA)(l:zW)(xs:zG):Prop:=match k with|true=>h.IsList l xs|false=>h.IsTuple l xs
def StK(k:Bool)(it l:zW)(i:Nat)(h:yA):Prop:=match k with|true=>h.IsListIter it l i|false=>h.IsTupleIter it l i
abbrev itK(k:Bool):String:=match k with|true=>"list_iterator" |false=>"tuple_iterator"
theorem nxK:∀(k:Bool)(it l:zW),Nx it l (λi h=>StK k it l i h) (λxs h=>SrK k h l xs)|true=>oS|false=>oZ
theorem wf{prog:yB}{w:yD}{A:zZ}{E:zA}{s:zY}{l:zW}{xs:zG}{Q:zA}:∀{k:Bool},SrK k s.heap l xs->Q (.ref s.heap.objs.size) {s with heap:=s.heap.push {cls:=.type (itK k),data:=.fields #[.ref l,.int 0 0]}}->wpAny (model prog w) A (pyIter (.ref l)) Q E s|true,h,q=>wpAny_pyIter_list h q|false,h,q=>wpAny_pyIter_tuple h q
theorem vH{h:yA}{it l:zW}:∀{k:Bool},h.get? it=some {cls:=.type (itK k),data:=.fields #[.ref l,.int 0 0]}->StK k it l 0 h|true,e=>(fV _ e rfl rfl)|false,e=>(fV _ e rfl rfl)
def BZ(k1 k2:Bool)(z TI TO i1 i2 a b:zW)(i:Nat)(h:yA):Prop:=IsZip h z TI TO .none/\IsPair h TI (.ref i1) (.ref i2)/\(∃u v,IsPair h TO u v)/\StK k1 i1 a i h/\StK k2 i2 b i h
theorem vL{a:Bool}{k:Nat}{Q:zA}(f:HdA e A)(c:HdF e [it] s.heap)(hi:StK a it l k s.heap)(b:SrK a s.heap l xs)(g:xs[k]?=none)
  (d:∀h' e,Heap.ExtBut it s.heap h'->(∃o,h'.get? e=some o/\o.cls=.type "StopIteration")->E (.ref e) {s with heap:=h'}):wpAny (model prog w) A (Builtin.SmallTypes.nextOf (.ref it)) Q E s:=by
 cases a with
 |true=>exact uT (C9 f c hi b g d)
 |false=>exact uT (xR f c hi b g d)
section
variable{TI TO:zW}
theorem ET{a b:zX}(R:HdA e A)(r:HdF e [z,TI,TO,i1,i2] s.heap)(D:ZipApart z TI TO i1 i2 l1 l2)
  (hz:IsZip s.heap z TI TO .none) (C:IsPair s.heap TI (.ref i1) (.ref i2)) (t:IsPair s.heap TO a b) (h1:StK q1 i1 l1 k1 s.heap) (h2:StK q2 i2 l2 k2 s.heap) (I:SrK q1 s.heap l1 xs) (H:SrK q2 s.heap l2 ys) (l:xs[k1]?=none\/ys[k2]?=none)
  (Y:∀h',(∀c o,c≠z->c≠TO->c≠i1->c≠i2->s.heap.get? c=some o->h'.get? c=some o)->Q none {s with heap:=h'}):wpAny (model prog w) A (pyNext (.ref z)) Q E s:=by
 have K:s.TypeIs (.ref z) "zip":=(al _ hz rfl);have N1:=nxK q1 i1 l1;have N2:=nxK q2 i2 l2;unfold pyNext
 have k:∀(h':yA)(e:zW),(∀c o,c≠z->c≠TO->c≠i1->c≠i2->s.heap.get? c=some o->h'.get? c=some o)->(∃o,h'.get? e=some o/\o.cls=.type "StopIteration")->
   wpAny (model prog w) A (isInstance (.ref e) (.type "StopIteration")>>=λb=>if b=true then pure none else throw (.ref e)) Q E {s with heap:=h'}:=λh' e r ⟨o,W,hc⟩=>
  dh (wpAny_isInstance (T:="StopIteration") (b:=true) (al o W hc) isSubtype_stop (eh (Y _ r)))
 refine dh (wpAny_attempt (lR (name:=Str.ofString "__next__") K F.slot_zip_next (ke F.slot_zip_next K F.entry_zip_next ?_ (F.args_zip_next_1 _))));show wpAny _ _ (field (.ref z) 2>>=_) _ _ _;refine dh (jf hz rfl (x:=.bool false) rfl ?_);show wpAny _ _ (field (.ref z) 3>>=_) _ _ _;refine dh (jf hz rfl (x:=.ref TI) rfl ?_);refine dh (lE C rfl ?_);show wpAny _ _ (Builtin.SmallTypes.ownedTupleIsFree (.ref z)>>=_) _ _ _;refine dh ?_;unfold Builtin.SmallTypes.ownedTupleIsFree;refine dh (jf hz rfl (x:=.none) rfl (eh ?_));simp only [if_true];refine dh (wpAny_rule ?_);refine dh (jf hz rfl (x:=.ref TO) rfl ?_);refine dh (mj hz (by simp) λg1 p i=>?_)
 replace p:IsZip g1 z TI TO .ellipsis:=p
 refine dh ?_;simp only [List.zipIdx_cons,List.zipIdx_nil,List.forIn_cons,List.forIn_nil];refine dh (dh (wpAny_onRaise ?_));show wpAny _ _ (Builtin.SmallTypes.nextOf (.ref i1)>>=_) _ _ _;have N:=N1.mv h1 λo e=>i.extBut _ _ D.i1z e;have S:=N1.mvS I λo e=>i.extBut _ _ D.l1z e
 cases hx:xs[k1]? with
 |none=>
  refine dh (vL R (r.at (λh o n q=>i.extBut _ _ (n z (by simp)) q) (by simp)) N S hx λG e g v=>?_);obtain⟨u,d,f⟩:=v;have O:IsZip G z TI TO .ellipsis:=g _ _ D.i1z.symm p;have y:e≠z:=λx=>by subst x;rw[O]at d;cases d;simp at f
  exact mj O (by simp) λP _ j=>k P e (λc o m _ B _ x=>j.extBut _ _ m (g _ _ B (i.extBut _ _ m x))) (al u (j.extBut _ _ y d) f)
 |some x=>
  have hy:ys[k2]?=none:=by
   rcases l with h|h
   ·rw[hx]at h;cases h
   ·exact h
  refine dh (N1.item N S hx λG t2 g=>eh ?_);have M:IsPair G TO a b:=g.extBut _ _ D.TOi1 (i.extBut _ _ D.TOz t);refine dh (lE M rfl ?_);refine dh (wpAny_updateSeq_pair M λP p3 j=>?_);refine dh (wpAny_letGo (eh ?_));refine dh (dh (wpAny_onRaise ?_));show wpAny _ _ (Builtin.SmallTypes.nextOf (.ref i2)>>=_) _ _ _;refine dh (vL R (r.at (λh o n q=>j.extBut _ _ (n TO (by simp)) (g.extBut _ _ (n i1 (by simp)) (i.extBut _ _ (n z (by simp)) q))) (by simp)) (N2.mv h2 λo e=>j.extBut _ _ D.TOi2.symm (g.extBut _ _ D.i12.symm (i.extBut _ _ D.i2z e))) (N2.mvS H λo e=>j.extBut _ _ D.l2TO (g.extBut _ _ D.l2i1 (i.extBut _ _ D.l2z e))) hy λX e U v=>?_);obtain⟨u,d,f⟩:=v;have J:IsZip X z TI TO .ellipsis:=U _ _ D.i2z.symm (j.extBut _ _ D.TOz.symm (g.extBut _ _ D.i1z.symm p));have y:e≠z:=λx=>by subst x;rw[J]at d;cases d;simp at f
  exact mj J (by simp) λg5 _ L=>k g5 e (λc o m c2 B Z x=>L.extBut _ _ m (U _ _ Z (j.extBut _ _ c2 (g.extBut _ _ B (i.extBut _ _ m x))))) (al u (L.extBut _ _ y d) f)
end
abbrev rA(k1:Bool)(h:yA)(l1:zW):yA:=h.push {cls:=.type (itK k1),data:=.fields #[.ref l1,.int 0 0]}
abbrev rg(k1 k2:Bool)(h:yA)(l1 l2:zW):yA:=(rA k1 h l1).push {cls:=.type (itK k2),data:=.fields #[.ref l2,.int 0 0]}
noncomputable abbrev re(k1 k2:Bool)(h:yA)(l1 l2:zW):yA:=(rg k1 k2 h l1 l2).push {cls:=.type "tuple",data:=.seq #[.ref h.objs.size,.ref (rA k1 h l1).objs.size]}
noncomputable abbrev rc(k1 k2:Bool)(h:yA)(l1 l2:zW):yA:=(re k1 k2 h l1 l2).push {cls:=.type "tuple",data:=.seq #[.none,.none]}
noncomputable abbrev pC(k1 k2:Bool)(h:yA)(l1 l2:zW):yA:=(rc k1 k2 h l1 l2).push {cls:=.type "zip",data:=.fields #[.none,.bool false,.bool false,.ref (rg k1 k2 h l1 l2).objs.size,.ref (re k1 k2 h l1 l2).objs.size]}
theorem Hj(k1 k2:Bool)(l1 l2:zW)(xs ys:zG):Meets (Builtin.«zip.__new__» ⟨[.type "zip",.ref l1,.ref l2],[]⟩) (λ_ R s=>SrK k1 s.heap l1 xs/\SrK k2 s.heap l2 ys/\
  R (.ok (.ret (.ref (rc k1 k2 s.heap l1 l2).objs.size))) {s with heap:=pC k1 k2 s.heap l1 l2}):=
 .of_wp λj w A R s h=>by
  obtain⟨k,g,d,m,i⟩:=s;obtain⟨f,c,h⟩:=h;have l:=sub_zip;have b:SrK k1 (Shared.heap ⟨k,g,d,m,i⟩) l1 xs:=f;have a:SrK k2 (Shared.heap ⟨k.push {cls:=.type (itK k1),data:=.fields #[.ref l1,.int 0 0]},g,d,m,i⟩) l2 ys:=(nxK k2 0 l2).mvS c λo e=>gk _ e
  wp_walk using wf b,wf a
  exact al _ rfl h
theorem FG{k1 k2:Bool}{prog:yB}{w:yD}{A:zZ}{E:zA}{s:zY}{l1 l2:zW}{xs ys:zG}{Q:zA}(g:SrK k1 s.heap l1 xs)(a:SrK k2 s.heap l2 ys)
  (h:∀h',BZ k1 k2 (s.heap.objs.size+4) (s.heap.objs.size+2) (s.heap.objs.size+3) s.heap.objs.size (s.heap.objs.size+1) l1 l2 0 h'->(∀c o,s.heap.get? c=some o->h'.get? c=some o)->Q (.ref (s.heap.objs.size+4)) {s with heap:=h'}):
  wpAny (model prog w) A (call (.type "zip") [.ref l1,.ref l2]) Q E s:=by
 refine callType_new F.called_zip (by decide) (F.typeCall_zip_2 _ _) (F.newCall_zip_2 _ _) (λi=>F.args_object_init_3 i _ _) F.entry_zip_new (Hj k1 k2 l1 l2 xs ys) (fY g a ?_);have e:(rA k1 s.heap l1).objs.size=s.heap.objs.size+1:=mZ ..;have f:(rg k1 k2 s.heap l1 l2).objs.size=s.heap.objs.size+2:=by rw[mZ,e]
 have b:(re k1 k2 s.heap l1 l2).objs.size=s.heap.objs.size+3:=by rw[mZ,f]
 have l:(rc k1 k2 s.heap l1 l2).objs.size=s.heap.objs.size+4:=by rw[mZ,b]
 have d:(pC k1 k2 s.heap l1 l2).get? (rc k1 k2 s.heap l1 l2).objs.size=some _:=ig _ rfl;have k:(pC k1 k2 s.heap l1 l2).get? (re k1 k2 s.heap l1 l2).objs.size=some _:=gk _ (ig _ rfl);have m:(pC k1 k2 s.heap l1 l2).get? (rg k1 k2 s.heap l1 l2).objs.size=some _:=gk _ (gk _ (ig _ rfl));have j:(pC k1 k2 s.heap l1 l2).get? (rA k1 s.heap l1).objs.size=some _:=gk _ (gk _ (gk _ (ig _ rfl)));have n:(pC k1 k2 s.heap l1 l2).get? s.heap.objs.size=some _:=gk _ (gk _ (gk _ (gk _ (ig _ rfl))));show _/\_;rw[f,b,l]at d;rw[e,f]at m;rw[b]at k;rw[e]at j;rw[l];exact⟨(al _ d rfl),h _ (mi d m (jw _ _ k) (vH n) (vH j)) λc o x=>gk _ (gk _ (gk _ (gk _ (gk _ x))))⟩
abbrev HC:=@FG true false
def Itv(K:Frag)(a:zW)(n:Nat):It :=⟨λi H=>∃b x,SqL K H a b/\b.length=n/\i<n/\b[n-1-i]?=some x,λi H x c=>c=H/\∀b,SqL K H a b->b[n-1-i]?=some x,λi _=>i=n⟩
theorem E8(a it:zW)(n:Nat):mI P w K tg (Itv K a n) [it] it (λi h=>h.IsRevIter it a ((n:Int)-1-(i:Int))) where
 mem:=by simp
 obj:=λi h f b l=>by
  have e:b=it:=by simpa using l
  subst e;obtain⟨o,e,c,d⟩:=f;exact al o e λv z=>by rw[d]at z;cases z
 keep:=λi h m f k=>f.at λo e=>k it (by simp) o e
 item:=by
  intro X B G C M i g s Z H E I q f y;subst B G C;obtain⟨xs,x,N,hn,L,O⟩:=y;obtain⟨T,U,p,hz⟩:=I.list N;obtain⟨u,W,R⟩:=U.get O;obtain⟨A,J,Y,D,F,r⟩:=q it (by simp);have t:(n:Int)-1-(i:Int)=((n-1-i:Nat):Int):=by lia
  rw[t]at f;refine wpAny_pyNext_rev_item f p.isList (x:=u) (by simpa using W) λm j sb=>?_;have I1:Inv X g Z H {s with heap:=m}:=I.turned (t':=s.toks) (λb o l e=>(sb.2 b l).trans e) A J D F r
  have S:((n-1-i:Nat):Int)-1=(n:Int)-1-((i+1:Nat):Int):=by lia
  rw[S]at j;obtain⟨o,e,c,d⟩:=id j;exact al u rfl (nz (s:={s with heap:=m}) e c d (by decide) (ij x H I1 R ⟨rfl,λys hy=>by rw[I.list_inj hy N];exact O⟩ j λb l=>(q b l).1))
 done:=by
  intro X B G C M i g s Z H E I q f y;subst B G C;have L:i=n:=y;subst L;obtain⟨A,J,Y,D,F,r⟩:=q it (by simp);have t:(i:Int)-1-(i:Int)= -1:=by lia
  rw[t]at f;exact wpAny_pyNext_rev_end M f λm Q=>⟨rfl,I.turned (t':=s.toks) (λb o l e=>Q b o l e) A J D F r⟩
 self:=λ_ _ _ _ _ f h=>wpAny_pyIter_revIter f h
def iRev(K:Frag)(ta:TA):TI:=λZ H R=>ta Z H λd b=>∃a c,d=[.ref a]/\SqL K b a c/\R (Itv K a c.length) b
theorem CD{a:yC}{ta:TA}{p:Pos}(r:Gl X "reversed")(n:X.mg "reversed"=none)(x:PA X [a] ta)(j:starEach [a] X.env=[(false,eval a X.env)]:=by rfl):
  PI X tg (.Call (.Name "reversed" p) [a] [] pos) (iRev X.K ta):=by
 intro d s Z H R I h;refine Call_ (nF I r n boot_reversed (PyProof.Rows.callWith_type1 (thn (x pos d s Z H _ I h) λD c ⟨C,v,I1,t,m⟩=>?_) j rfl));obtain⟨l,f,e,B,q⟩:=m;subst e;obtain⟨u,rfl,y⟩:=mR t;cases y;obtain⟨g,A,w,_⟩:=I1.list B;have k:(g.toArray.size:Int)-1=(f.length:Int)-1-((0:Nat):Int):=by rw[iD,<-A.length];lia
 refine call_reversed_list w.isList ?_;rw[k];have i:(c.heap.push (revObj l ((f.length:Int)-1-((0:Nat):Int)))).IsRevIter c.heap.objs.size l ((f.length:Int)-1-((0:Nat):Int)):=(fV _ (ig _ rfl) rfl rfl);refine wpAny_pyIter_revIter (s:={c with heap:=c.heap.push (revObj l ((f.length:Int)-1-((0:Nat):Int)))}) i ?_;refine i12 _ [c.heap.objs.size] _ _ v rfl (I1.kept (t':=c.toks) λb o e=>gk _ e) (E8 l _ f.length) i (λb z=>?_) q
 have e:b=c.heap.objs.size:=by simpa using z
 subst e;exact I1.fpOk (gf _) (I1.hok.fresh (gf _))
theorem DV{xs:zM}(Pv:Nat->St->Hp->Prop)(f:Pv 0 Z H)(h:∀i Z H,Pv i Z H->SqL K H a xs)
  (c:∀i x Z H,i<xs.length->xs[xs.length-1-i]?=some x->Pv i Z H->g x Z H λZ2 H2=>tb {D with nx:=Pv (i+1),ct:=Pv (i+1),bk:=D.nx} Z2 H2) (d:∀Z H,Pv xs.length Z H->D.nx Z H):
  ∃W:Nat->Nat->St->Hp->Prop,(∃m,W 0 m Z H)/\∀i m Z H,W i m Z H->
   ((Itv K a xs.length).stop i H/\D.nx Z H)\/((Itv K a xs.length).go i H/\∃N:St->Hp->Prop,(∀Z' H',N Z' H'->∃b,b<m/\W (i+1) b Z' H')/\∀x H',(Itv K a xs.length).yld i H x H'->g x Z H' λZ2 H2=>tb {D with nx:=N,ct:=N,bk:=D.nx} Z2 H2):=by
 refine al (λi m Z H=>m=xs.length-i/\i<=xs.length/\Pv i Z H) (fV xs.length (by simp) (iG _) f) ?_;rintro i m Z H ⟨rfl,k,p⟩;have q:=h i Z H p;by_cases hlt:i<xs.length
 ·refine .inr (gF (im xs (xs[xs.length-1-i]) q rfl hlt (hB _)) (Pv (i+1)) (λZ' H' j=>(iV (xs.length-(i+1)) (by lia) rfl hlt j)) λx H' y=>?_);obtain⟨e,y⟩:=y;subst e;exact c i x Z _ hlt (y xs q) p
 ·have e:i=xs.length:=by lia
  subst e;exact .inl ⟨rfl,d Z H p⟩
structure mH(X:Cx)(scope:Scope)(cl:List (Str×zW)):Prop where
 eq:closureFor scope X.env=pure cl
 sub:∀x c,cl.lookup x=some c->X.env.cells.lookup x=some c
 has:∀x,((relabel scope X.env).names.lookup x=some .cell\/(relabel scope X.env).names.lookup x=some .free)->∃c,cl.lookup x=some c
 kind:scope.kind=.function
 ncell:∀y∈scope.names,y.2≠.cell
 names:∀y∈scope.names,y.2=.local->scope.names.lookup y.1=some .local
noncomputable def blk(X:Cx)(N':zC)(scope:Scope)(cl:List (Str×zW))(C:zW)(s₀:zY)(H₀:Hp)(fp:zQ):Cx :={X with N:=N',s₀:=s₀,H₀:=H₀,env:=compEnvC scope cl C X.env,outer:=X.stack,ex:=fp,fn:=λ_=>false,pn:=[],xe:=λ_ _=>False}
def kn(ix:List (Option Nat))(Z:St):St:=ix.map λo=>o.bind λj=>(Z[j]?).bind id
section
variable{cl:List (Str×zW)}
def m4(X:Cx)(N':zC)(scope:Scope)(ix:List (Option Nat)):Prop :=
 ix.length=N'.length/\∀i j:Nat,ix[i]?=some (some j)->∃x,N'[i]?=some x/\X.N[j]?=some x/\(X.env.scope.names.lookup x=some .cell\/X.env.scope.names.lookup x=some .free)/\
  ((relabel scope X.env).names.lookup x=some .cell\/(relabel scope X.env).names.lookup x=some .free)
theorem Ct(I:Inv X pins Z H s)(d:mH X scope cl)(f:∀b∈fp,lg X pins H b)(g:∀b∈fp,b<s.heap.objs.size):(blk X N' scope cl s.heap.objs.size s H fp).Ok where
 mod:=I.ok.mod
 kind:=d.kind
 glob:=I.ok.glob
 blt:=I.ok.blt
 above:=gf _
 inj:=λx y c k i=>I.ok.inj x y c (d.sub x c k) (d.sub y c i)
 has:=λx h=>d.has x h
 cab:=λx c h=>by cases h
 hd:=I.ok.hd
 frames:=I.ok.frames
 stk:=.inl rfl
 exf:=λb a=>⟨jq (g b a),λx c h=>(f b a).2.2.2.2.1 x c (d.sub x c h)⟩
 bs:=I.bs
 bsz:=kX I.ok.bsz I.sz
 noex:=λb o e a=>by
  rcases(f b a).2.2.2.1 with z|z
  ·exact I.ok.noex b o e z
  ·exact absurd (kB (gN (I.ok.bs b o e).1) z) (Nat.lt_irrefl _)
 exfs:=λb a j=>by
  rcases gY.mp (I.stkSub b j)with z|z
  ·exact(f b a).2.1 z
  ·exact(f b a).2.2.1 z
 funs:=I.stack
 frf:=I.stkFree
theorem FZ(I:Inv X pins Z H s)(n:mH X scope cl)(F:m4 X N' scope ix)(f:∀b∈fp,lg X pins H b)(y:∀b∈fp,b<s.heap.objs.size){m:zE}
  (S:h'.Ns s.heap.objs.size m) (k:∀b o,s.heap.get? b=some o->h'.get? b=some o):Inv (blk X N' scope cl s.heap.objs.size s H fp) [] (kn ix Z) H {s with heap:=h',toks:=t'}:=by
 have B:∀x c,cl.lookup x=some c->∃v,s.heap.IsCell c v:=λx c h=>I.cell x c (n.sub x c h);refine⟨Ct I n f y,rfl,I.bare,Un.kept k,(al m S λi x v G d E=>?_),λx c e=>?_,I.hok.fresh (gf _),λx c e=>I.freeC x c (n.sub x c e),(λp L=>by cases L),I.hok.kept k,?_⟩
 ·unfold kn at d;rw[gP]at d
  cases hi:ix[i]? with
  |none=>rw[hi]at d;cases d
  |some o=>
   rw[hi]at d
   cases o with
   |none=>cases je d
   |some j=>
    have a:(Z[j]?).bind id=some v:=je d;obtain⟨l,R,T,g,C⟩:=F.2 i j hi;have O:l=x:=je (R.symm.trans G);subst O
    have M:Z[j]?=some (some v):=by
     cases q:Z[j]? with
     |none=>rw[q]at a;cases a
     |some w=>rw[q]at a;exact congrArg some a
    obtain⟨Y,_,Q⟩:=I.loc;obtain⟨u,P,K⟩:=Q j l v T M (g.elim (λz=>.inr (.inl z)) λz=>.inr (.inr z));refine al u P (.inr ⟨C,?_⟩);obtain⟨c,D⟩:=n.has l C;refine al c D ?_;rcases K with ⟨z,_⟩|⟨_,N,A,W⟩
    ·exfalso;have U:X.env.scope.names.lookup l=some .local:=z;rcases g with g|g<;>(rw[U]at g;cases g)
    ·have J:N=c:=je (A.symm.trans (n.sub l c D));subst J;obtain⟨o,t,r⟩:=W;exact al o (k _ _ t) r
 ·obtain⟨v,o,t,r⟩:=B x c e;exact iy v o (k _ _ t) r
 ·unfold kn;rw[eH];exact F.1
theorem DP(I:Inv X pins Z H s)(f:∀b∈fp,lg X pins H b)(J:Inv (blk X N' scope cl s.heap.objs.size s H fp) pl Z' H' s')(g:Heap.SameBut s.heap.objs.size s'.heap h'):
  Inv X pins Z H' {s' with heap:=h'}:=by
 have i:∀b o,s.heap.get? b=some o->b≠s.heap.objs.size:=λb o e=>jq (gN e);have j:H' s.heap.objs.size=none:=J.free;have u:Un (frs X.stack) fp H H' s.heap s'.heap:=J.base
 refine I.call' (ch:=fp) (s':={s' with heap:=h'}) J.os ⟨λb o e n a d=>(g.2 b (i b o e)).trans (u.keep b o e n a d),λb o e n a d=>?_,u.free,λb o e d=>?_,u.tups,u.frzs,u.tbls⟩ (λb o e=>?_) J.bare
  (λb a=>(ip ((f b a).2.2.2.1) ((f b a).2.1) ((f b a).2.2.2.2.1) ((f b a).2.2.2.2.2)))
 ·obtain⟨k,q⟩:=u.slot b o e n a d;exact⟨k,(g.2 b (i b o e)).trans q⟩
 ·obtain⟨l,q⟩:=u.there b o e d;exact⟨l,(g.2 b (i b o e)).trans q⟩
 ·refine(J.hok b o e).stay (λc v h q=>(g.2 c ?_).trans q) (λc q=>q) λc m q=>q;rcases h with rfl|h
  ·exact ga e j
  ·exact ga h j
end
def A2q:St->St->Prop| [],_=>True|none::r,_::r'=>A2q r r'|none::r,[]=>A2q r []|some v::r,w::r'=>w=some v/\A2q r r'|some _::_,[]=>False
theorem A2q.get:∀{a b:St},A2q a b->∀(j:Nat) v,a[j]?=some (some v)->b[j]?=some (some v)
 | [],_,_,_,_,e=>by simp at e
 |none::r,_::r',h,0,v,e=>by simp at e
 |none::r,_::r',h,j+1,v,e=>by simpa using A2q.get (a:=r) (b:=r') h j v (by simpa using e)
 |none::r,[],h,0,v,e=>by simp at e
 |none::r,[],h,j+1,v,e=>by have:=A2q.get (a:=r) (b:=[]) h j v (by simpa using e);simp at this
 |some w::r,_::r',h,0,v,e=>by
  have c:w=v:=by simpa using e
  subst c
  simpa using h.1
 |some _::r,_::r',h,j+1,v,e=>by simpa using A2q.get (a:=r) (b:=r') h.2 j v (by simpa using e)
def uk(ix:List (Option Nat))(wi:TI)(g:TG)(te:TE):TE:=λZ H Q=>wi Z H λJ e=>∀D,e D=none->∃W:Nat->Nat->Hp->Prop,(∃m,W 0 m (upd e D (.lst [])))/\∀i m a,W i m a->
 (J.stop i a/\Q (.ref D) a)\/(J.go i a/\∃N:VK,(∀y b,N y b->∃c,b D=some (.lst c)/\c.length<sizeLine/\∃d,d<m/\W (i+1) d (upd b D (.lst (c++[y]))))/\∀x f,J.yld i a x f->g x (kn ix Z) f λZ4 h=>A2q (kn ix Z) Z4/\te Z4 h N)
section
variable{e o:yC}{es:zT}{t:TA}
def CM(X:Cx)(m:Str)(ta:TE)(t:TA):TE:=λZ H Q=>ta Z H λx g=>∃(a C h:zW)(d:zK)(k:Nat)(f:zW)(c:zS)(e:zC)(b:Sp),x=.ref a/\g a=some (.ins C h d)/\Cls X.K C/\mJ X.K C m f/\d.lookup m=none/\
 A5j X.prog X.w X.K X.mg X.base jB k f c e b/\A8d k X.A/\A8v X.K c e []/\t Z g λi j=>b (x::i) j Q E0
theorem sK{pl:Sem Bool}(z:PE X o ta)(B:PA X (e::es) t)
  (g:starEach (e::es) X.env=(false,eval e X.env)::starEach es X.env:=by rfl) (d:(backTo pos (starEach es X.env)).any (·.1)=false:=by rfl)
  (G:eval (.Call (.Attribute o m apos) (e::es) [] pos) X.env=(do
   let ov<-eval o X.env
   standAt apos.atName
   let(f,first)<-holding [ov] (getMethod ov m pl)
   callWith pos f first (backTo pos (starEach (e::es) X.env)) (backToKw pos (keywordEach [] X.env))):=by rfl):
  PE X (.Call (.Attribute o m apos) (e::es) [] pos) (CM X m ta t):=by
 intro b s Z H Q I h;refine PySem.W.methodCall_KW (pl:=pl) (thn (z b s Z H _ I h) ?_) G;rintro u y j;refine mG j ?_;clear j;rintro x w I1 J a C O ⟨M,k,f,L,N,K,A,p,c,i,l,F,v,D,q⟩;subst A;obtain rfl:u=Value.ref a:=J;refine Af I1 p c i l ?_;refine PySem.W.callWith_K (first:=[.ref a]) (h₀:=X.base) I.ok.mod.kin i.kp (thn (B pos b y Z w _ I1 q) λus P ⟨vs,R,I2,r,n⟩=>⟨I2.kIn,?_⟩) g d;exact uH (us:=.ref a::us) (vs:=.ref a::vs) (dvs:=[]) F v D .nil oM I2 (.cons rfl r) (by rw[lT];exact n)
end
mutual
inductive Rep(H:Hp):V->PyData->Prop|non:Rep H .non .none|bl (b:Bool):Rep H (.bl b) (.bool b)|int (i:Int):Rep H (.int i) (.int i)|str (x:Str):Rep H (.str x) (.str x)|lst {p:zW} {xs:zM} {ds:List PyData}:H p=some (.lst xs)->A5c H xs ds->Rep H (.ref p) (.list ds)|tup {p:zW} {xs:zM} {ds:List PyData}:H p=some (.tup xs)->A5c H xs ds->Rep H (.ref p) (.tuple ds)
inductive A5c(H:Hp):zM->List PyData->Prop|nil:A5c H [] []|cons {v:V} {vs:zM} {d:PyData} {ds:List PyData}:Rep H v d->A5c H vs ds->A5c H (v::vs) (d::ds)
end
mutual
theorem Rep.imp{H H':Hp}(f:∀p o,H p=some o->H' p=some o):∀{v:V}{d:PyData},Rep H v d->Rep H' v d|_,_,.non=>.non|_,_,.bl b=>.bl b|_,_,.int i=>.int i|_,_,.str x=>.str x|_,_,.lst e r=>.lst (f _ _ e) (A5c.imp f r)|_,_,.tup e r=>.tup (f _ _ e) (A5c.imp f r)
theorem A5c.imp{H H':Hp}(f:∀p o,H p=some o->H' p=some o):∀{vs:zM}{ds:List PyData},A5c H vs ds->A5c H' vs ds|_,_,.nil=>.nil|_,_,.cons a r=>.cons (Rep.imp f a) (A5c.imp f r)
end
theorem Rep.same{d:PyData}(h:Rep H v d)(s:A0j H H'):Rep H' v d:=h.imp s
theorem A5c.same{v:zM}{d:List PyData}(h:A5c H v d)(s:A0j H H'):A5c H' v d:=h.imp s
theorem A5c.len{H:Hp}:∀{vs:zM}{ds:List PyData},A5c H vs ds->vs.length=ds.length|_,_,.nil=>rfl|_,_,.cons _ r=>by rw[iZ,iZ,A5c.len r]
theorem A5c.snoc{H:Hp}{v:V}{d:PyData}(a:Rep H v d):∀{vs:zM}{ds:List PyData},A5c H vs ds->A5c H (vs++[v]) (ds++[d])|_,_,.nil=>.cons a .nil|_,_,.cons b r=>.cons b (A5c.snoc a r)
theorem A5c.strs{H:Hp}:∀xs:zC,A5c H (xs.map V.str) (xs.map PyData.str)| []=>.nil|x::r=>.cons (.str x) (A5c.strs r)
mutual
theorem qN(I:Inv X pins Z H s):∀{v:V}{d:PyData}{u:zX},Rep H v d->A2c v u->∃f,Reads s.heap u d f
 |_,_,u,.non,r=>by cases(show u=Value.none from r);exact⟨_,.none⟩
 |_,_,u,.bl b,r=>by cases(show u=Value.bool b from r);exact⟨_,.bool b⟩
 |_,_,u,.int i,r=>by obtain⟨t,q⟩:=(show∃t,u=Value.int i t from r);cases q;exact⟨_,.int i t⟩
 |_,_,u,.str x,r=>by obtain⟨t,q⟩:=(show∃t,u=Value.str x t from r);cases q;exact⟨_,.str x t⟩
 |_,_,u,@Rep.lst _ p xs ds e q,r=>by
  cases(show u=Value.ref p from r)
  obtain⟨_,a,n,c,g⟩:=(show A1g X.prog X.w H s.heap p (.lst xs) from I.hok p _ e);obtain⟨f,z⟩:=vz I q c;exact⟨_,Reads.list g rfl rfl (by simpa using z)⟩
 |_,_,u,@Rep.tup _ p xs ds e q,r=>by
  cases(show u=Value.ref p from r)
  refine tI (show A1g X.prog X.w H s.heap p (.tup xs) from I.hok p _ e) λ_ a c o g j n h=>?_;obtain⟨f,z⟩:=vz I q c;exact⟨_,Reads.tuple g j h (by simpa using z)⟩
theorem vz(I:Inv X pins Z H s):∀{vs:zM}{ds:List PyData}{us:zH},A5c H vs ds->A2f vs us->∃b,ReadsAll s.heap us ds b|_,_,_,.nil,.nil=>⟨_,.nil⟩|_,_,_,.cons a r,.cons q rv=>by obtain⟨b,z⟩:=qN I a q;obtain⟨c,y⟩:=vz I r rv;exact⟨_,.cons z y⟩
end
def rEqD(a:Bool):R2:=λx y H Q=>∃d e,Rep H x d/\Rep H y e/\SeqAt.shaped d=true/\SeqAt.shaped e=true/\Q (.bl (if a then ! PyData.eqv d e else PyData.eqv d e)) H
theorem Cr(g:X.A.units+64<cLine):OpR X (compareOp .Eq) (rEqD false):=by intro a s Z H x y v u Q I j f h;refine jo h ?_;clear h;rintro d e i b m ⟨c,q⟩;obtain⟨n,k⟩:=qN I i j;obtain⟨o,l⟩:=qN I b f;exact eq_dataH k l m c g (el (.bl (PyData.eqv d e)) H I rfl q)
def rSlS:V->Option Int->Option Int->Hp->VK->Prop:=λx b a H Q=>∃z,x=.str z/\z.length<=sizeLine/\Q (.str (Txt.slice z b a)) H
theorem Cn:SlR X rSlS:=by
 intro b s Z H x v B A o n C Q I y r w p h;obtain⟨z,rfl,e,q⟩:=h;obtain⟨t,rfl⟩:=(show∃t,v=Value.str z t from y);refine el "str" _ F.slot_str_getitem.lookup (typeIs_str _ _ _) ?_;obtain⟨g,d,f,c⟩:=r;have a:∀m k,EP X b Z Q (.str (Txt.slice z o n) m) {s with toks:=k}:=λm k=>(el (.str (Txt.slice z o n)) H (I.tok k) ⟨m,rfl⟩ q)
 cases w with
 |none=>
  cases p with
  |none=>exact wpAny_getItem_str_slice (l:=none) (u:=none) (st:=none) (fV g d f c) rfl (post_val_or_str ⟨kX (Txt.slice_le z _ _) e,a⟩)
  |int j uj=>exact wpAny_getItem_str_slice (l:=none) (u:=some (j,uj)) (st:=none) (fV g d f c) rfl (post_val_or_str ⟨kX (Txt.slice_le z _ _) e,a⟩)
 |int i ui=>
  cases p with
  |none=>exact wpAny_getItem_str_slice (l:=some (i,ui)) (u:=none) (st:=none) (fV g d f c) rfl (post_val_or_str ⟨kX (Txt.slice_le z _ _) e,a⟩)
  |int j uj=>exact wpAny_getItem_str_slice (l:=some (i,ui)) (u:=some (j,uj)) (st:=none) (fV g d f c) rfl (post_val_or_str ⟨kX (Txt.slice_le z _ _) e,a⟩)
theorem mC(m:scope.kind=.function)(d:∀y∈scope.names,y.2≠.free/\y.2≠.cell)(i:∀y∈scope.names,y.2=.local->scope.names.lookup y.1=some .local):mH X scope [] where
 eq:=closureFor_none λy b=>(d y b).1
 sub:=λx c h=>by cases h
 has:=λx h=>by
  exfalso
  have e:(relabel scope X.env).names=scope.names:=map_eq_self λy b=>by
   obtain⟨n,k⟩:=y;have z:=(d _ b).1;have j:(k==NameKind.free)=false:=by simpa using z
   simp[j]
  rw[e]at h
  have f:∀{k:NameKind},scope.names.lookup x=some k->(x,k)∈scope.names:=λ{k} q=>by
   generalize scope.names=l at q
   induction l with
   |nil=>cases q
   |cons a r ih=>
    obtain⟨n,o⟩:=a;rw[nR]at q;split at q
    ·rename_i hb;have g:x=n:=by simpa using hb
     cases q
     subst g;exact .head _
    ·exact .tail _ (ih q)
  rcases h with h|h
  ·exact(d _ (f h)).2 rfl
  ·exact(d _ (f h)).1 rfl
 kind:=m
 ncell:=λy b=>(d y b).2
 names:=i
theorem mB(h:n=N'.length):m4 X N' scope (List.replicate n none):=⟨by rw[List.length_replicate];exact h,λi j e=>by
 rw[List.getElem?_replicate]at e
 split at e<;>cases e⟩
section
variable{D:zW}{xs:zM}{Q:VK}
theorem Gj(Pv:Nat->List V->Hp->Prop)(k:Pv 0 [] (upd H D (.lst [])))(j:∀i ys H,Pv i ys H->SqL K H a xs)
  (f:∀i x ys H,xs[i]?=some x->Pv i ys H->g x Z₀ H λZ4 H4=>A2q Z₀ Z4/\te Z4 H4 λy b=>b D=some (.lst ys)/\ys.length<sizeLine/\Pv (i+1) (ys++[y]) (upd b D (.lst (ys++[y])))) (h:∀ys H,Pv xs.length ys H->Q (.ref D) H):
  ∃W:Nat->Nat->Hp->Prop,(∃m,W 0 m (upd H D (.lst [])))/\∀i m H2,W i m H2->
   ((Itl K a).stop i H2/\Q (.ref D) H2)\/((Itl K a).go i H2/\∃N:VK,(∀y b,N y b->∃xs,b D=some (.lst xs)/\xs.length<sizeLine/\∃d,d<m/\W (i+1) d (upd b D (.lst (xs++[y]))))/\
    ∀x c,(Itl K a).yld i H2 x c->g x Z₀ c λZ4 H4=>A2q Z₀ Z4/\te Z4 H4 N):=by
 refine al (λi m H=>m=xs.length-i/\i<=xs.length/\∃ys,Pv i ys H) (pj xs.length (by simp) (iG _) [] k) ?_;rintro i m H2 ⟨rfl,l,ys,p⟩;have q:=j i ys H2 p;by_cases hlt:i<xs.length
 ·refine .inr (gF (iy xs (xs[i]) q (by simp[hlt])) (λy b=>b D=some (.lst ys)/\ys.length<sizeLine/\Pv (i+1) (ys++[y]) (upd b D (.lst (ys++[y])))) (λy b n=>(p5 ys n.1 n.2.1 (xs.length-(i+1)) (by lia) rfl hlt _ n.2.2)) λx c z=>?_);obtain⟨e,z⟩:=z;subst e;exact f i x ys _ (z xs q) p
 ·have e:i=xs.length:=by lia
  subst e;exact .inl ⟨(al xs q (gf _)),h ys H2 p⟩
theorem EL(Pv:Nat->List V->Hp->Prop)(k:Pv 0 [] (upd H D (.lst [])))(j:∀i ys H,Pv i ys H->SqT K H a xs)
  (f:∀i x ys H,xs[i]?=some x->Pv i ys H->g x Z₀ H λZ4 H4=>A2q Z₀ Z4/\te Z4 H4 λy b=>b D=some (.lst ys)/\ys.length<sizeLine/\Pv (i+1) (ys++[y]) (upd b D (.lst (ys++[y])))) (h:∀ys H,Pv xs.length ys H->Q (.ref D) H):
  ∃W:Nat->Nat->Hp->Prop,(∃m,W 0 m (upd H D (.lst [])))/\∀i m H2,W i m H2->
   ((Itt K a).stop i H2/\Q (.ref D) H2)\/((Itt K a).go i H2/\∃N:VK,(∀y b,N y b->∃xs,b D=some (.lst xs)/\xs.length<sizeLine/\∃d,d<m/\W (i+1) d (upd b D (.lst (xs++[y]))))/\
    ∀x c,(Itt K a).yld i H2 x c->g x Z₀ c λZ4 H4=>A2q Z₀ Z4/\te Z4 H4 N):=by
 refine al (λi m H=>m=xs.length-i/\i<=xs.length/\∃ys,Pv i ys H) (pj xs.length (by simp) (iG _) [] k) ?_;rintro i m H2 ⟨rfl,l,ys,p⟩;have q:=j i ys H2 p;by_cases hlt:i<xs.length
 ·refine .inr (gF (iy xs (xs[i]) q (by simp[hlt])) (λy b=>b D=some (.lst ys)/\ys.length<sizeLine/\Pv (i+1) (ys++[y]) (upd b D (.lst (ys++[y])))) (λy b n=>(p5 ys n.1 n.2.1 (xs.length-(i+1)) (by lia) rfl hlt _ n.2.2)) λx c z=>?_);obtain⟨e,z⟩:=z;subst e;exact f i x ys _ (z xs q) p
 ·have e:i=xs.length:=by lia
  subst e;exact .inl ⟨(al xs q (gf _)),h ys H2 p⟩
end
theorem qP{x:Str}{k:NameKind}:∀{l:List (Str×NameKind)},l.lookup x=some k->(x,k)∈l
 | [],q=>by cases q
 |(n,k')::r,q=>by
  rw[nR]at q;split at q
  ·rename_i hb;have a:x=n:=by simpa using hb
   cases q
   subst a;exact .head _
  ·exact .tail _ (qP q)
theorem qC{c:zW}(u:closureFor scope X.env=pure [(x,c)])(t:X.env.cells.lookup x=some c)(a:scope.kind=.function)(i:∀y∈scope.names,y.2≠.cell/\(y.2=.free->y.1=x))
  (r:∀y∈scope.names,y.2=.local->scope.names.lookup y.1=some .local):mH X scope [(x,c)] where
 eq:=u
 sub:=λy d h=>by
  rw[nR]at h;split at h
  ·rename_i b;have g:y=x:=by simpa using b
   cases h
   subst g;exact t
  ·cases h
 has:=λy h=>by
  have j:y=x:=by
   have m:∃k,(y,k)∈(relabel scope X.env).names/\(k=.cell\/k=.free):=h.elim (λz=>(al _ (qP z) (.inl rfl))) λz=>(al _ (qP z) (.inr rfl));obtain⟨k,q,a⟩:=m;obtain⟨⟨n,f⟩,l,e⟩:=gm.mp q;dsimp only at e;by_cases hf:f=.free
   ·have p:n=y:=by
     split at e
     ·exact congrArg Prod.fst e
     ·exact congrArg Prod.fst e
    rw[<-p];exact(i _ l).2 hf
   ·have b:(f==NameKind.free)=false:=by simpa using hf
    simp only [b,Bool.false_and,Bool.false_eq_true,if_false]at e;have o:f=k:=congrArg Prod.snd e;subst o;rcases a with a|a
    ·exact absurd a (i _ l).1
    ·exact absurd a hf
  subst j;exact⟨c,by simp[nR]⟩
 kind:=a
 ncell:=λy s=>(i y s).1
 names:=r
theorem qJ(b:X.N[j]?=some x)(h1:X.env.scope.names.lookup x=some .cell\/X.env.scope.names.lookup x=some .free)
  (h2:(relabel scope X.env).names.lookup x=some .cell\/(relabel scope X.env).names.lookup x=some .free):m4 X (N0++[x]) scope (List.replicate N0.length none++[some j]):=by
 refine⟨by simp,λi k e=>?_⟩;by_cases hi:i<N0.length
 ·rw[lQ (by simpa using hi),List.getElem?_replicate]at e;split at e<;>cases e
 ·have a:i=N0.length:=by
   have:=(gG.mp e).1;simp at this
   lia
  subst a;rw[nu (by simp)]at e;have c:j=k:=by simpa using e
  subst c;exact iV x (by simp) b h1 h2
theorem oj{o:HO}(b:H p=none)(h:H a=some u):upd H p o a=some u:=by rw[dF (ga h b)];exact h
theorem hJ{o:HO}(s:A0j H H')(a:H l=none):A0j H (upd H' l o):=λb u e=>by rw[dF (ga e a)];exact s b u e
theorem fx{o:HO}(a:H l=none):A0j H (upd H l o):=hJ (A0j.refl H) a
theorem zr{x:zW}{o v:HO}(a:H x=none)(b:H dx=none):A0j H (upd (upd (upd H dx o) x u) x v):=hJ (hJ (fx b) a) a
theorem iS(h:n<=1000000):n<=sizeLine:=by rw[sizeLine_eq];lia
theorem gQ(h:n<=1000000):n<sizeLine:=by rw[sizeLine_eq];lia
theorem Paired.snoc{α β:Type}{F:α->β->Prop}{a:α}{b:β}(h:F a b):∀{xs:List α}{ys:List β},Paired F xs ys->Paired F (xs++[a]) (ys++[b])|_,_,.nil=>.cons h .nil|_,_,.cons r t=>.cons r (Paired.snoc h t)
noncomputable def iC(S:zV)(H:Hp):Hp:=λa=>@ite _ (S a) (Classical.propDecidable _) (H a) none
theorem yh(h:S a):iC S H a=H a:=by unfold iC;rw[fW h]
theorem Gm(h:¬S a):iC S H a=none:=by unfold iC;rw[ej h]
theorem jz{o:HO}(h:iC S H a=some o):S a/\H a=some o:=by
 by_cases hs:S a
 ·rw[yh hs]at h;exact⟨hs,h⟩
 ·rw[Gm hs]at h;cases h
theorem ky{o:HO}(b:S a)(h:H a=some o):iC S H a=some o:=by rw[yh b];exact h
theorem zf:A0j (iC S H) H:=λ_ _ e=>(jz e).2
theorem nJ(s:A0j H H'):A0j (iC S H) (iC S H'):=λb o e=>ky (jz e).1 (s _ _ (jz e).2)
theorem pb(s:A0j H H')(h:∀a o,H a=some o->S a->S' a):A0j (iC S H) (iC S' H'):=λb o e=>ky (h _ _ (jz e).2 (jz e).1) (s _ _ (jz e).2)
theorem om{o:HO}(s:A0j (iC S H) (iC S H'))(h:¬S l):A0j (iC S H) (iC S (upd H' l o)):=λb u e=>by have q:=jz (s _ _ e);have a:b≠l:=λz=>h (by rw[<-z];exact q.1);exact ky q.1 (by rw[dF a];exact q.2)
mutual
theorem Rep.imp2{H H':Hp}(f:∀p xs,H p=some (.lst xs)->H' p=some (.lst xs))(g:∀p xs,H p=some (.tup xs)->H' p=some (.tup xs)):∀{v:V}{d:PyData},Rep H v d->Rep H' v d|_,_,.non=>.non|_,_,.bl b=>.bl b|_,_,.int i=>.int i|_,_,.str x=>.str x|_,_,.lst e r=>.lst (f _ _ e) (A5c.imp2 f g r)|_,_,.tup e r=>.tup (g _ _ e) (A5c.imp2 f g r)
theorem A5c.imp2{H H':Hp}(f:∀p xs,H p=some (.lst xs)->H' p=some (.lst xs))(g:∀p xs,H p=some (.tup xs)->H' p=some (.tup xs)):∀{vs:zM}{ds:List PyData},A5c H vs ds->A5c H' vs ds|_,_,.nil=>.nil|_,_,.cons a r=>.cons (Rep.imp2 f g a) (A5c.imp2 f g r)
end
theorem Rep.ins{d:PyData}{C dx:zW}{fs:zK}{o:HO}(h:Rep H v d)(e:H p=some (.ins C dx fs)):Rep (upd H p o) v d :=h.imp2 (λq a z=>by rw[dF (gg z e (by intro w;cases w))];exact z) (λq a z=>by rw[dF (gg z e (by intro w;cases w))];exact z)
section
variable{vs:zM}{d:PyData}
theorem Dk(h:Rep G v (.tuple ds)):∃p xs,v=.ref p/\G p=some (.tup xs)/\A5c G xs ds:=by
 cases h with
 |tup e r=>exact el _ _ rfl e r
theorem uL(h:Rep G v (.list ds)):∃p xs,v=.ref p/\G p=some (.lst xs)/\A5c G xs ds:=by
 cases h with
 |lst e r=>exact el _ _ rfl e r
theorem DY(h:Rep G v (.str x)):v=.str x:=by cases h;rfl
theorem xN{x:Int}(h:Rep G v (.int x)):v=.int x:=by cases h;rfl
theorem zt(h:A5c G vs (d::ds)):∃u r,vs=u::r/\Rep G u d/\A5c G r ds:=by
 cases h with
 |cons a r=>exact el _ _ rfl a r
theorem EA(h:A5c G vs []):vs=[]:=by cases h;rfl
end
mutual
def cnt:PyData->Nat|.none=>1|.bool _=>1|.int _=>1|.str _=>1|.list xs=>kS xs+1|.tuple xs=>kS xs+1|.dict _=>1
def kS:List PyData->Nat| []=>0|x::xs=>cnt x+kS xs
end
theorem DX(d:PyData):1<=cnt d:=by cases d<;>simp[cnt]
theorem uR:∀ds:List PyData,ds.length<=kS ds
 | []=>by simp[kS]
 |d::r=>by
  have:=uR r;have:=DX d;simp only [kS,iZ]
  lia
theorem ut:∀{ds:List PyData}{i:Nat}{d:PyData},ds[i]?=some d->cnt d<=kS ds/\PyData.depth d<=PyData.depthAll ds
 | [],_,_,e=>by simp at e
 |d::r,0,_,e=>by
  simp at e;subst e;simp only [kS,PyData.depthAll]
  lia
 |x::r,i+1,d,e=>by
  have:=ut (ds:=r) (i:=i) (d:=d) (by simpa using e);simp only [kS,PyData.depthAll]
  lia
theorem A5c.get2{H:Hp}:∀{vs:zM}{ds:List PyData}{i:Nat}{v:V},A5c H vs ds->vs[i]?=some v->∃d,ds[i]?=some d/\Rep H v d|_,_,_,_,.nil,e=>by simp at e|_,_,0,_,.cons a _,e=>by simp at e;subst e;exact al _ rfl a|_,_,i+1,v,.cons _ r,e=>by obtain⟨d,c,b⟩:=A5c.get2 (i:=i) (v:=v) r (by simpa using e);exact al d (by simpa using c) b
theorem AV{k:Str}:List.lookup k ((k,v)::r)=some v:=by simp[nR]
theorem AT{k j:Str}{o:zP}(h:(k==j)=false)(e:List.lookup k r=o):List.lookup k ((j,v)::r)=o:=by rw[nR,h];exact e
theorem kI{f:Str}:iH f v []=[(f,v)]:=rfl
theorem ji{f g:Str}{x:V}(h:¬g=f):iH f v ((g,x)::r)=(g,x)::iH f v r:=by rw[iH,ej h]
theorem iX{A:Prop}[Decidable c](h1:c->A)(h2:¬c->B):if decide c=true then A else B :=vW (λh=>h1 (of_decide_eq_true h)) (λh=>h2 λa=>h (iW a))
theorem BE{A:Prop}[Decidable c](h1:¬c->A)(h2:c->B):if (! decide c)=true then A else B :=
 vW (λh=>h1 λa=>by rw[iW a]at h;cases h) (λh=>h2 (by
  by_cases a:c
  ·exact a
  ·rw[kj a]at h;exact absurd rfl h))
theorem oe{l:yC}(b:PE X l tl):PI X tg l (λZ H R=>wo X.K tl Z H R\/vK X.K tl Z H R):=λa s Z H R I h=>h.elim (jc b a s Z H R I) (wW b a s Z H R I)
theorem BV{xs:List α}{i:Int}(b:0<=i)(h1:i<xs.length):∃v,xs[i.toNat]?=some v/\atI xs i=some v:=by
 obtain⟨n,rfl⟩:=Int.eq_ofNat_of_zero_le b;have a:n<xs.length:=by lia
 exact al (xs[n]) (by simp[a]) (hH (by simp[a]))
theorem Du{xs:List α}(h:j<xs.length):∃v,xs[xs.length-1-j]?=some v/\atI xs (-1-(j:Int))=some v:=by
 have a:xs.length-1-j<xs.length:=by lia
 refine al (xs[xs.length-1-j]) (by simp[a]) ?_
 have e:ixN xs.length (-1-(j:Int))=some (xs.length-1-j):=by
  unfold ixN;rw[ej (by lia),fW (by lia)];congr 1
  lia
 unfold atI;rw[e];simp[a]
section
variable{D:zW}{xs:zM}
theorem nK(Pv:Nat->List V->Hp->Prop)(h:Pv 0 [] (upd H D (.lst [])))(j:∀i ys H,Pv i ys H->SqL K H a xs)
  (e:∀i x ys H,xs[i]?=some x->Pv i ys H->g x Z₀ H λZ4 H4=>A2q Z₀ Z4/\te Z4 H4 λy b=>b D=some (.lst ys)/\ys.length<sizeLine/\Pv (i+1) (ys++[y]) (upd b D (.lst (ys++[y])))) (f:∀ys H,Pv xs.length ys H->QD H):
  ∃W:Nat->Nat->Hp->Prop,(∃m,W 0 m (upd H D (.lst [])))/\∀i m H2,W i m H2->
   ((Itl K a).stop i H2/\QD H2)\/((Itl K a).go i H2/\∃N:VK,(∀y b,N y b->∃xs,b D=some (.lst xs)/\xs.length<sizeLine/\∃c,c<m/\W (i+1) c (upd b D (.lst (xs++[y]))))/\
    ∀x d,(Itl K a).yld i H2 x d->g x Z₀ d λZ4 H4=>A2q Z₀ Z4/\te Z4 H4 N):=Gj (Q:=λ_ H=>QD H) Pv h j e f
theorem y4(Pv:Nat->List V->Hp->Prop)(h:Pv 0 [] (upd H D (.lst [])))(j:∀i ys H,Pv i ys H->SqT K H a xs)
  (e:∀i x ys H,xs[i]?=some x->Pv i ys H->g x Z₀ H λZ4 H4=>A2q Z₀ Z4/\te Z4 H4 λy b=>b D=some (.lst ys)/\ys.length<sizeLine/\Pv (i+1) (ys++[y]) (upd b D (.lst (ys++[y])))) (f:∀ys H,Pv xs.length ys H->QD H):
  ∃W:Nat->Nat->Hp->Prop,(∃m,W 0 m (upd H D (.lst [])))/\∀i m H2,W i m H2->
   ((Itt K a).stop i H2/\QD H2)\/((Itt K a).go i H2/\∃N:VK,(∀y b,N y b->∃xs,b D=some (.lst xs)/\xs.length<sizeLine/\∃c,c<m/\W (i+1) c (upd b D (.lst (xs++[y]))))/\
    ∀x d,(Itt K a).yld i H2 x d->g x Z₀ d λZ4 H4=>A2q Z₀ Z4/\te Z4 H4 N):=EL (Q:=λ_ H=>QD H) Pv h j e f
end
theorem Inv.frozen(I:Inv X pins Z H s)(b:H a=some (.dK kvs))(c:s.heap.get? a=some o):Inv X pins Z (upd H a (.frz o (.dK kvs))) s :=I.write (t':=s.toks) (h':=s.heap) (e:=a) (by rw[b];trivial) (.inl rfl) (λ_ _ _ e=>e) ⟨o,c⟩ ⟨c,(show A1g X.prog X.w H s.heap a (.dK kvs) from I.hok a _ b)⟩
theorem Inv.thaw(I:Inv X pins Z H s)(d:H a=some (.frz o u))(l:∃kvs,u=.dK kvs)(m:∀o' j,X.H₀ a≠some (.frz o' j)):Inv X pins Z (upd H a u) s:=by
 have g:∀b,H b=none->upd H a u b=none:=λb e=>by rw[dF (λz=>by subst z;rw[d]at e;cases e)];exact e
 obtain⟨kvs,rfl⟩:=l
 refine⟨I.ok,I.os,I.bare,⟨I.base.keep,I.base.slot,λb i e n t=>g b (I.base.free b i e n t),I.base.there,λb k e=>?_,λb i j e=>?_,λb r e=>?_⟩,I.loc,I.cell,g _ I.free,λx c e=>g _ (I.freeC x c e),
  λp h=>(fY ((I.pin p h).1) (g _ (I.pin p h).2.1) ((I.pin p h).2.2)),λb v e=>?_,I.len⟩
 ·have q:=I.base.tups b k e;rw[dF (gg q d (by intro z;cases z))];exact q
 ·have q:=I.base.frzs b i j e;rw[dF (λz=>by subst z;exact m _ _ e)];exact q
 ·obtain⟨f,q⟩:=I.base.tbls b r e;exact⟨f,by rw[dF (gg q d (by intro z;cases z))];exact q⟩
 ·by_cases hb:b=a
  ·subst hb;rw[ee]at e;cases e;obtain⟨_,q⟩:=(show A1g X.prog X.w H s.heap b (.frz o (.dK kvs)) from I.hok b _ d);exact q
  ·rw[dF hb]at e;exact(I.hok b v e).stay (λ_ _ _ q=>q) (λc q=>by rw[dF (gg q d (by intro z;cases z))];exact q) λc k q=>by rw[dF (gg q d (by intro z;cases z))];exact q
def By(X:Cx)(t:TS):TS:=λD Z H=>∃a o b,H a=some (.frz o (.dK b))/\(∀d c,X.H₀ a≠some (.frz d c))/\t D Z (upd H a (.dK b))
theorem u6{sts:List Stmt}{t:TS}(h:PSs X sts t):PSs X sts (By X t):=by intro b s Z H D I f;obtain⟨a,o,c,d,e,q⟩:=f;exact h b s Z _ D (I.thaw d ⟨c,rfl⟩ e) q
def Itd(a:zW)(o:Obj)(kvs:zJ):It :=⟨λi H=>H a=some (.frz o (.dK kvs))/\i<kvs.length,λi H x b=>b=H/\∃k v,kvs[i]?=some (k,v)/\x=kV k,λi H=>H a=some (.frz o (.dK kvs))/\i=kvs.length⟩
theorem wl{k:Key}{u:zX}(h:(ia P w).is k u=true):A2c (kV k) u:=by
 rcases ni (show oG k u=true from h)with ⟨i,t,rfl,rfl⟩|⟨x,t,rfl,rfl⟩
 ·exact⟨t,rfl⟩
 ·exact⟨t,rfl⟩
theorem KV.at:KV kvs vs->∀{i:Nat}{k:Key}{v:V},kvs[i]?=some (k,v)->∃u,vs[i]?=some (k,u)/\A2c v u:=by
 intro r;unfold KV at r
 induction r with
 |nil=>intro i k v e;simp at e
 |@cons p q ps qs h t ih=>
  intro i k v e
  cases i with
  |zero=>simp at e;subst e;obtain⟨f,a⟩:=h;obtain⟨g,b⟩:=q;cases f;exact al b rfl a
  |succ j=>obtain⟨u,d,c⟩:=ih (i:=j) (by simpa using e);exact al u (by simpa using d) c
theorem se(k:HOk P w H h)(j:H a=some (.frz o (.dK kvs)))(g:o.data=.dict es ep):
  (a==sysModules)=false/\∃vs,KV kvs vs/\h.DictAt (ia P w) a vs ep:=by
 obtain⟨f,n,i,vs,b,p,l,m,e,c,d,r⟩:=(show A1g P w H h a (.frz o (.dK kvs)) from k a _ j);rw[f]at e;cases e;rw[g]at d;cases d;exact gF i vs b (im o es f c g r)
theorem Fy(it a:zW)(o:Obj)(kvs:zJ)(es:Array DictEntry)(ep:Nat)(O:o.data=.dict es ep):
  mI P w K tg (Itd a o kvs) [it] it (λi h=>h.IsKeyIter it a i kvs.length ep) where
 mem:=by simp
 obj:=λi h f b m=>by
  have e:b=it:=by simpa using m
  subst e;obtain⟨l,e,_,d⟩:=f;exact al l e λv z=>by rw[d]at z;cases z
 keep:=λi h q f k=>f.at λl e=>k it (by simp) l e
 item:=by
  intro X B L C R i j s Z H E I t f y;subst B L C;obtain⟨F,Q⟩:=y;obtain⟨A,M,W,D,J,x⟩:=t it (by simp);obtain⟨_,S,g,G⟩:=se I.hok F O;have r:=g.length;obtain⟨⟨k,v⟩,hkv⟩:∃p,kvs[i]?=some p:=⟨kvs[i],by simp[Q]⟩;obtain⟨u,U,_⟩:=g.at hkv;rw[r]at f;refine wpAny_pyNext_dict_item f G U λN q hk n Y=>?_;have I1:Inv X j Z H {s with heap:=q,toks:=s.toks}:=I.turned (t':=s.toks) (λb l m e=>(Y.2 b m).trans e) A M D J x
  obtain⟨l,e,c,d⟩:=id n;exact al N rfl (nz (s:={s with heap:=q}) e c d (by decide) (ij (kV k) H I1 (wl hk) (kc rfl k v hkv rfl) (by rw[r];exact n) λb m=>(t b m).1))
 done:=by intro X B L C R i j s Z H E I t f y;subst B L C;obtain⟨F,Q⟩:=y;obtain⟨A,M,W,D,J,x⟩:=t it (by simp);obtain⟨_,S,g,G⟩:=se I.hok F O;have r:=g.length;rw[r]at f;exact wpAny_pyNext_dict_end R f G (by simp;lia) λq T=>⟨rfl,I.turned (t':=s.toks) (λb l m e=>T b l m e) A M D J x⟩
 self:=λ_ _ _ _ _ f h=>wpAny_pyIter_keyiter f h
def BH(tl:TE):TI:=λZ H R=>tl Z H λx c=>∃a b,x=.ref a/\c a=some (.dK b)/\∀o,R (Itd a o b) (upd c a (.frz o (.dK b)))
theorem xU{l:yC}(A:PE X l tl):PI X tg l (BH tl):=by
 intro c s Z H R I h;refine thn (A c s Z H _ I h) ?_;rintro u d p;refine nP p ?_;clear p;rintro x v I1 B ⟨a,g,y,f,q⟩;subst y;cases B;refine jR (oI I1.hok f) ?_;rintro F t m i o n ep k ⟨D,j,r⟩;have C:d.heap.DictAt (ia X.prog X.w) a m ep:=(im o n k D j r);refine wpAny_pyIter_dict t C ?_;have I2:Inv X c Z v {d with heap:=d.heap.push {cls:=.type "dict_keyiterator",data:=.fields #[.ref a,.int 0 0,.int m.length 0,.int ep 0]},toks:=d.toks}:=I1.kept λb G e=>gk _ e
 have I3:=I2.frozen f (gk _ k);refine i12 _ [d.heap.objs.size] _ _ _ rfl I3 (Fy _ a o g n ep j) ?_ (λb z=>?_) (q o)
 ·rw[i.length];exact fV _ (ig _ rfl) rfl rfl
 ·have e:b=d.heap.objs.size:=by simpa using z
  subst e;refine I1.fpOk (gf _) ?_;rw[dF (kd (I1.hok.lt f))];exact I1.hok.fresh (gf _)
theorem yF(Pv:Nat->St->Hp->Prop)(j:Pv 0 Z H)(c:∀i Z H,Pv i Z H->H a=some (.frz o (.dK kvs)))
  (d:∀i k v Z H,kvs[i]?=some (k,v)->Pv i Z H->g (kV k) Z H λZ2 H2=>tb {D with nx:=Pv (i+1),ct:=Pv (i+1),bk:=D.nx} Z2 H2) (f:∀Z H,Pv kvs.length Z H->D.nx Z H):
  ∃W:Nat->Nat->St->Hp->Prop,(∃m,W 0 m Z H)/\∀i m Z H,W i m Z H->
   ((Itd a o kvs).stop i H/\D.nx Z H)\/((Itd a o kvs).go i H/\∃N:St->Hp->Prop,(∀Z' H',N Z' H'->∃b,b<m/\W (i+1) b Z' H')/\∀x H',(Itd a o kvs).yld i H x H'->g x Z H' λZ2 H2=>tb {D with nx:=N,ct:=N,bk:=D.nx} Z2 H2):=by
 refine al (λi m Z H=>m=kvs.length-i/\i<=kvs.length/\Pv i Z H) (fV kvs.length (by simp) (iG _) j) ?_;rintro i m Z H ⟨rfl,n,p⟩;by_cases hlt:i<kvs.length
 ·refine .inr (gF ⟨c i Z H p,hlt⟩ (Pv (i+1)) (λZ' H' l=>(iV (kvs.length-(i+1)) (by lia) rfl hlt l)) λx H' y=>?_);obtain⟨e,k,v,h,rfl⟩:=y;subst e;exact d i k v Z _ h p
 ·have e:i=kvs.length:=by lia
  subst e;exact .inl ⟨⟨c _ Z H p,rfl⟩,f Z H p⟩
theorem zi(c:H a=some u)(s:A0j (upd H a (.frz o u)) H2):A0j H (upd H2 a u):=λb v e=>by
 by_cases hb:b=a
 ·subst hb;rw[c]at e;cases e;exact ee
 ·rw[dF hb];exact s b v (by rw[dF hb];exact e)
def xm(ix:List (Option Nat))(wi:TI)(g:TG)(tc:TT)(te:TE):TE:=λZ H Q=>wi Z H λJ f=>∀D,f D=none->∃W:Nat->Nat->Hp->Prop,(∃m,W 0 m (upd f D (.lst [])))/\∀i m d,W i m d->
 (J.stop i d/\Q (.ref D) d)\/(J.go i d/\∃(N:VK)(M:Hp->Prop),(∀y a,N y a->∃e,a D=some (.lst e)/\e.length<sizeLine/\∃c,c<m/\W (i+1) c (upd a D (.lst (e++[y]))))/\(∀a,M a->∃c,c<m/\W (i+1) c a)/\∀x h,J.yld i d x h->g x (kn ix Z) h λZ4 j=>A2q (kn ix Z) Z4/\tc Z4 j λb a=>if b=true then te Z4 a N else M a)
def PTs(X:Cx)(cs:zT)(t:TT):Prop :=∀(a:zD)(s:zY)(Z:St)(H:Hp)(Q:Bool->Hp->Prop),Inv X a Z H s->t Z H Q->wpAny (model X.prog X.w) X.A (forIn cs true λc r=>if r=true then do let b<-isTrue c X.env (eval c X.env);pure (ForInStep.yield b)else pure (ForInStep.yield r)) (TP X a Z Q) X.xe s
theorem y6{ok:zZ->Prop}{cl:List (Str×zW)}(hc:ok X.A)(Y:mH X scope cl)(io:m4 X N' scope ix)(hi:PIP ok X tg iter wi)
  (hg:∀C s₀ H₀ fp,PG (blk X N' scope cl C s₀ H₀ fp) tg g) (ht:∀C s₀ H₀ fp,PTs (blk X N' scope cl C s₀ H₀ fp) cs tc) (he:∀C s₀ H₀ fp,PE (blk X N' scope cl C s₀ H₀ fp) elt te) (hs:∀x,foldedSetIterable iter X.env x=pure x) {pp:Pos} {S:zW->Hp->Prop} {R:It->Hp->Prop}
  (hR:∀J H1,R J H1->∀D,H1 D=none->∃W:Nat->Nat->Hp->Prop,(∃m,W 0 m (upd H1 D (.lst [])))/\∀i m H2,W i m H2->(J.stop i H2/\S D H2)\/(J.go i H2/\∃(N:VK)(M:Hp->Prop),(∀y k,N y k->∃xs,k D=some (.lst xs)/\xs.length<sizeLine/\∃l,l<m/\W (i+1) l (upd k D (.lst (xs++[y]))))/\(∀k,M k->∃l,l<m/\W (i+1) l k)/\∀x H3,J.yld i H2 x H3->g x (kn ix Z) H3 λZ4 H4=>A2q (kn ix Z) Z4/\tc Z4 H4 λb k=>if b=true then te Z4 k N else M k))
  (b8:∀(D C:zW)(k:Hp)(E:zY)(x:Flow),S D k->(∃m,E.heap.Ns C m)->lg X pins k C->(∀h',Heap.SameBut C E.heap h'->Inv X pins Z k {E with heap:=h'})->compPost (model X.prog X.w) X.A X.xe use Qf (.ref D) C (.ok x) E)
  (I:Inv X pins Z H s) (h:wi Z H R):wpAny (model X.prog X.w) X.A (comprehension (.ListComp elt [⟨tg,iter,cs,0⟩] scope pos) scope X.env pp (newList []) false (eval iter X.env) use) Qf X.xe s:=by
 refine wpAny_comprehension_free rfl hs Y.eq Y.kind Y.names (thn (hi pins s Z H _ I h) λxv s1 h1=>thn h1 λb9 a h2=>?_);refine lC h2 ?_;clear h2;rintro it fp tn J H1 rfl I1 T a0 f1 R1;refine lG ?_;have hD:H1 a.heap.objs.size=none:=I1.hok.fresh (gf _);obtain⟨W,⟨m0,w0⟩,a6⟩:=hR _ _ R1 _ hD;have a4:∀b∈fp,b<a.heap.objs.size:=λb f=>let⟨o,e,_⟩:=T.obj _ _ a0 b f;gN e;have I2:Inv X pins Z (upd H1 a.heap.objs.size (.lst [])) {a with heap:=a.heap.push {cls:=.type "list",data:=.seq ([]:zH).toArray},toks:=a.toks}:=I1.lnew (its:=[]) .nil (iG _);have f2:∀b∈fp,lg X pins (upd H1 a.heap.objs.size (.lst [])) b:=λb f=>⟨by rw[dF (jq (a4 b f))];exact(f1 b f).1,(f1 b f).2⟩
 have U:∀b∈fp,b<(a.heap.push {cls:=.type "list",data:=.seq ([]:zH).toArray}).objs.size:=λb f=>by rw[mZ];exact Nat.lt_succ_of_lt (a4 b f)
 refine wpAny_newFunctionEnv Y.ncell (by intro y hy;simp at hy) (λh3 Q a2=>?_) Y.kind;dsimp only at Q a2⊢;have k3:∀b o,(a.heap.push {cls:=.type "list",data:=.seq ([]:zH).toArray}).get? b=some o->h3.get? b=some o:=λb o e=>(a2.2 b (jq (gN e))).trans (gk _ e);generalize hs2:({a with heap:=a.heap.push {cls:=.type "list",data:=.seq ([]:zH).toArray},toks:=a.toks}:zY)=s3 at I2;have e3:a.heap.push {cls:=.type "list",data:=.seq ([]:zH).toArray}=s3.heap:=by rw[<-hs2]
 rw[e3]at Q k3 U;have I3:=FZ (N':=N') (ix:=ix) I2 Y io f2 U (h':=h3) (t':=a.toks+([]:List (Str×zX)).length) Q k3;have e4:({s3 with heap:=h3,toks:=a.toks+([]:List (Str×zX)).length}:zY)={a with heap:=h3,toks:=a.toks+([]:List (Str×zX)).length}:=by rw[<-hs2]
 rw[e4]at I3;have a7:tn 0 h3:=T.keep _ _ _ a0 λb f o e=>k3 b o (by rw[<-e3];exact gk _ e)
 have t:∀s4:zY,s4={a with heap:=h3,toks:=a.toks+([]:List (Str×zX)).length}->
   codeAny (model X.prog X.w) X.A (.compLoop (.ListComp elt [⟨tg,iter,cs,0⟩] scope pos) 0 (.ref it) (.ref a.heap.objs.size) (compEnvC scope cl s3.heap.objs.size X.env))
    (compPost (model X.prog X.w) X.A X.xe use Qf (.ref a.heap.objs.size) s3.heap.objs.size) s4:=by
  rintro s4 rfl
  have B:∀{H':Hp},(∀b∈fp,H' b=none)->∀b∈fp,lg (blk X N' scope cl s3.heap.objs.size s3 (upd H1 a.heap.objs.size (.lst [])) fp) [] H' b:=λhn b f=>(ka (hn b f) (jq (U b f)) (λhs=>I3.ok.exfs b f hs) (.inl f) (λx c e=>(f2 b f).2.2.2.2.1 x c (Y.sub x c e)) (λp hp=>by cases hp))
  refine codeAny_loop rfl (λn s'=>∃i Z' H',Inv (blk X N' scope cl s3.heap.objs.size s3 (upd H1 a.heap.objs.size (.lst [])) fp) [] Z' H' s'/\(∀(j:Nat) v,(kn ix Z)[j]?=some (some v)->Z'[j]?=some (some v))/\tn i s'.heap/\(∀b∈fp,H' b=none)/\W i n H')
   (λn s' hI=>?_) m0 (gX 0 _ _ I3 (λ_ _ z=>z) a7 (λb f=>(f2 b f).1) w0)
  refine gE hI ?_;clear hI;rintro i Z5 k I5 wk a1 ⟨a8,w5⟩;show wpAny _ _ ((compTurn (.ListComp elt [⟨tg,iter,cs,0⟩] scope pos) 0 (.ref it) (.ref a.heap.objs.size) (compEnvC scope cl s3.heap.objs.size X.env)).onRaise (λx=>do noteFrame x (compEnvC scope cl s3.heap.objs.size X.env);theTreesLotGoes x)) _ _ s';refine wpAny_noted ?_;rw[compTurn_list];refine dh (qZ ?_);rcases a6 i n k w5 with ⟨stop,qn⟩|⟨go,NN,MM,b3,b4,a5⟩
  ·refine dh (jT (T.done (blk X N' scope cl s3.heap.objs.size s3 (upd H1 a.heap.objs.size (.lst [])) fp) rfl rfl rfl hc i [] s' Z5 k (λ_ _=>False) I5 (B a8) a1 stop) (λr E h6=>?_) λ_ _ z=>z.elim);obtain⟨rfl,I6⟩:=h6;refine eh ?_;obtain⟨mm,hm,_⟩:=id I6.loc;exact b8 _ _ _ _ _ qn ⟨mm,hm⟩ (I2.fpOk (gf _) I6.free) λh' sb=>DP I2 f2 I6 sb
  ·refine dh (jT (T.item (blk X N' scope cl s3.heap.objs.size s3 (upd H1 a.heap.objs.size (.lst [])) fp) rfl rfl rfl hc i [] s' Z5 k (λ_ _=>False) I5 (B a8) a1 go) (λr E h6=>?_) λ_ _ z=>z.elim);obtain⟨u,rfl,h6⟩:=h6;refine dh (jT h6 (λ_ s7 h7=>?_) λ_ _ z=>z.elim);refine jo h7 ?_;clear h7;rintro x H7 I7 r7 y7 ⟨P,b1⟩;have I7w:Inv (blk X N' scope cl s3.heap.objs.size s3 (upd H1 a.heap.objs.size (.lst [])) fp) [] (kn ix Z) H7 s7:=I7.weak (by rw[I7.len];unfold kn;rw[eH];exact io.1) wk;have I7p:=I7w.pinned (B b1) (T.obj _ _ P);refine dh (jT (hg _ _ _ _ _ s7 _ H7 x u _ I7p r7 (a5 x H7 y7)) (λ_ s8 h8=>?_) λ_ _ z=>z.elim);obtain⟨Z8,H8,I8,a3,q8⟩:=h8
   have K:∀{F:zY}{jT:St}{G:Hp}{l:Nat},Inv (blk X N' scope cl s3.heap.objs.size s3 (upd H1 a.heap.objs.size (.lst [])) fp) ([]++qr fp s7.heap) jT G F->(∀(j:Nat) v,(kn ix Z)[j]?=some (some v)->jT[j]?=some (some v))->W (i+1) l G->
     ∃i Z' H',Inv (blk X N' scope cl s3.heap.objs.size s3 (upd H1 a.heap.objs.size (.lst [])) fp) [] Z' H' F/\(∀(j:Nat) v,(kn ix Z)[j]?=some (some v)->Z'[j]?=some (some v))/\tn i F.heap/\(∀b∈fp,H' b=none)/\W i l H':=by
    intro F jT G l I10 kk L;refine gX (i+1) jT G I10.unpinned kk (T.keep _ _ _ P λb f o e=>(I10.pin (b,o) (lJ _ (lJ _ (sT f e)))).1) (λb f=>?_) L;obtain⟨o,e,d⟩:=T.obj _ _ P b f;exact(I10.pin (b,o) (lJ _ (lJ _ (sT f e)))).2.1
   refine dh (jT (ht _ _ _ _ _ s8 Z8 H8 _ I8 q8) (λok b7 b2=>?_) λ_ _ z=>z.elim);obtain⟨H9',I9',a9⟩:=b2
   cases ok with
   |false=>
    have q:MM H9':=by simpa using a9
    obtain⟨l,O,w9⟩:=b4 _ q;exact dh (eh (eh (gF rfl l O (K I9' a3.get w9))))
   |true=>
    have q:te Z8 H9' NN:=by simpa using a9
    refine dh (dh (jT (he _ _ _ _ _ b7 Z8 H9' _ I9' q) (λyv s9 h9=>?_) λ_ _ z=>z.elim));obtain⟨y,H9,I9,r9,n9⟩:=h9;obtain⟨xs,b0,b5,l,O,w9⟩:=b3 _ _ n9;refine dh (jT (kU (X:=blk X N' scope cl s3.heap.objs.size s3 (upd H1 a.heap.objs.size (.lst [])) fp) _ s9 Z8 H9 (.ref a.heap.objs.size) [y] (.ref a.heap.objs.size) [yv] (λ_ H'=>W (i+1) l H') I9 rfl (.cons r9 .nil) (gX _ xs y rfl rfl b0 b5 w9)) (λ_ F b6=>?_) λ_ _ z=>z.elim);obtain⟨_,G,I10,_,L⟩:=b6;exact eh (eh (gF rfl l O (K I10 a3.get L)))
 have e5:s3.heap.objs.size=(a.heap.push {cls:=.type "list",data:=.seq ([]:zH).toArray}).objs.size:=by rw[e3]
 rw[e5]at t;exact codeAny_compStart_list (t _ rfl) (T.self X.A 0 _ _ _ a7 (t _ rfl))
theorem yZ{f:zZ->Prop}{cl:List (Str×zW)}(t:f X.A)(u:mH X scope cl)(v:m4 X N' scope ix)(hi:PIP f X tg iter wi)
  (r:∀C d H₀ fp,PG (blk X N' scope cl C d H₀ fp) tg g) (q:∀C d H₀ fp,PTs (blk X N' scope cl C d H₀ fp) cs tc) (B:∀C d H₀ fp,PE (blk X N' scope cl C d H₀ fp) elt te) (R:VK->St->It->Hp->Prop) (o:∀Q Z J H1,R Q Z J H1->∀D,H1 D=none->∃W:Nat->Nat->Hp->Prop,(∃m,W 0 m (upd H1 D (.lst [])))/\∀i m H2,W i m H2->
 (J.stop i H2/\Q (.ref D) H2)\/(J.go i H2/\∃(N:VK)(M:Hp->Prop),(∀y a,N y a->∃xs,a D=some (.lst xs)/\xs.length<sizeLine/\∃c,c<m/\W (i+1) c (upd a D (.lst (xs++[y]))))/\(∀a,M a->∃c,c<m/\W (i+1) c a)/\∀x j,J.yld i H2 x j->g x (kn ix Z) j λZ4 H4=>A2q (kn ix Z) Z4/\tc Z4 H4 λb a=>if b=true then te Z4 a N else M a)) (k:∀x,foldedSetIterable iter X.env x=pure x:=by intro _;rfl):
  PE X (.ListComp elt [⟨tg,iter,cs,0⟩] scope pos) (λZ H Q=>wi Z H (R Q Z)):=by
 intro e s Z H Q I h;rw[eval_ListComp];exact y6 (use:=none) t u v hi r q B k (S:=λD H2=>Q (.ref D) H2) (o Q Z) (λD C a F x z ⟨p,n⟩ _ Io=>(al p n λl w=>(el (.ref D) a (Io l w) rfl z))) I h
theorem yL{c:yC}{cl:List (Str×zW)}(f:X.calm=true)(j:mH X scope cl)(k:m4 X N' scope ix)(hi:PI X tg iter wi)
  (i:∀C b H₀ fp,PG (blk X N' scope cl C b H₀ fp) tg g) (e:∀C b H₀ fp,PT (blk X N' scope cl C b H₀ fp) c tc) (l:∀C b H₀ fp,PE (blk X N' scope cl C b H₀ fp) elt te) (d:∀x,foldedSetIterable iter X.env x=pure x:=by intro _;rfl):
  PE X (.ListComp elt [⟨tg,iter,[c],0⟩] scope pos) (xm ix wi g tc te):=
 λa s Z H Q I h=>(show PE X _ (xm ix wi g tc te) from yZ (I.ok.hd f) j k hi i (λC b H₀ fp a s Z H Q I h=>wpAny_tests_one (e C b H₀ fp a s Z H Q I h)) l _ (λ_ _ _ _ R=>R) d) a s Z H Q I h
theorem lN{cl:List (Str×zW)}(n:X.calm=true)(p:mH X scope cl)(q:m4 X N' scope ix)(hi:PI X tg iter wi)
  (l:∀C d H₀ fp,PG (blk X N' scope cl C d H₀ fp) tg g) (u:∀C d H₀ fp,PE (blk X N' scope cl C d H₀ fp) elt te) (e:∀x,foldedSetIterable iter X.env x=pure x:=by intro _;rfl):
  PE X (.ListComp elt [⟨tg,iter,[],0⟩] scope pos) (uk ix wi g te):=
 λa s Z H Q I h=>(show PE X _ (uk ix wi g te) from yZ (tc:=λ_ H Q=>Q true H) (I.ok.hd n) p q hi l (λ_ _ _ _ _ _ _ _ _ I h=>wpAny_tests_nil (al _ I h)) u _ (λ_ _ _ _ R j k=>by
  obtain⟨W,o,c⟩:=R j k;refine al W o λi m t w=>(c i m t w).imp id λ⟨r,N,f,b⟩=>(iU r N (λ_=>False) f (λ_ z=>z.elim) ?_)
  simpa using b) e) a s Z H Q I h
section
variable{D:zW}{xs:zM}
theorem Ie(Pv:Nat->List V->Hp->Prop)(l:Pv 0 [] (upd H D (.lst [])))(k:∀i ys H,Pv i ys H->SqL K H a xs)
  (h:∀i x ys H,xs[i]?=some x->Pv i ys H->g x Z₀ H λZ4 H4=>A2q Z₀ Z4/\tc Z4 H4 λb c=>if b=true then te Z4 c (λy c=>c D=some (.lst ys)/\ys.length<sizeLine/\Pv (i+1) (ys++[y]) (upd c D (.lst (ys++[y]))))else Pv (i+1) ys c) (j:∀ys H,Pv xs.length ys H->QD H):
  ∃W:Nat->Nat->Hp->Prop,(∃m,W 0 m (upd H D (.lst [])))/\∀i m H2,W i m H2->
   ((Itl K a).stop i H2/\QD H2)\/((Itl K a).go i H2/\∃(N:VK)(M:Hp->Prop),(∀y c,N y c->∃xs,c D=some (.lst xs)/\xs.length<sizeLine/\∃d,d<m/\W (i+1) d (upd c D (.lst (xs++[y]))))/\(∀c,M c->∃d,d<m/\W (i+1) d c)/\
    ∀x f,(Itl K a).yld i H2 x f->g x Z₀ f λZ4 H4=>A2q Z₀ Z4/\tc Z4 H4 λb c=>if b=true then te Z4 c N else M c):=by
 refine al (λi m H=>m=xs.length-i/\i<=xs.length/\∃ys,Pv i ys H) (pj xs.length (by simp) (iG _) [] l) ?_;rintro i m H2 ⟨rfl,o,ys,p⟩;have q:=k i ys H2 p;by_cases hlt:i<xs.length
 ·refine .inr (iU (iy xs (xs[i]) q (by simp[hlt])) (λy c=>c D=some (.lst ys)/\ys.length<sizeLine/\Pv (i+1) (ys++[y]) (upd c D (.lst (ys++[y])))) (λc=>Pv (i+1) ys c) (λy c n=>(p5 ys n.1 n.2.1 (xs.length-(i+1)) (by lia) rfl hlt _ n.2.2)) (λc n=>(iV (xs.length-(i+1)) (by lia) rfl hlt ⟨_,n⟩)) λx f z=>?_);obtain⟨e,z⟩:=z;subst e;exact h i x ys _ (z xs q) p
 ·have e:i=xs.length:=by lia
  subst e;exact .inl ⟨(al xs q (gf _)),j ys H2 p⟩
end
theorem GM{v:zW}{Q:zA}(h1:s.heap.IsItemsView v d)(h2:s.heap.get? d=some od)(a:od.data=.dict es ep)
  (q:Q (.ref s.heap.objs.size) {s with heap:=s.heap.push {cls:=.type "dict_itemiterator",data:=.fields #[.none,.bool false,.ref d,.int 0 0,.int es.size 0,.int ep 0,.none,.none]}}):
  wpAny (model prog w) A (pyIter (.ref v)) Q E s:=by
 obtain⟨e,c,f,b⟩:=id h1;refine wpAny_pyIter_slot h1.typeIs F.slot_dict_items_iter (ke F.slot_dict_items_iter h1.typeIs F.entry_dict_items_iter ?_ (F.args_dict_items_iter_1 _));unfold Builtin.«dict_items.__iter__»;refine dh (eh (dh ?_));unfold Builtin.Dict_items.dictOf;refine dh (jf c b (x:=.ref d) rfl (eh (dh ?_)));unfold Builtin.Dict_items.newIterator;refine dh (wpAny_dictEntries h2 a (dh (wpAny_dictEpoch h2 a ?_)));simp only [show Builtin.Dict_items.ownsTuple "dict_itemiterator"=true by decide,if_true]
 refine lG (eh (gr _ rfl "dict_itemiterator" _ (al _ (ig _ rfl) rfl) F.slot_dict_itemiterator_next.lookup ?_)) (by
  simp only [sizeOk,Builtin.Dict_items.ownedTupleFields,iD,gz,iZ,nn,sizeLine_eq]
  lia)
 simpa[rawInt,Builtin.Dict_items.ownedTupleFields]using q
theorem Hn{e:DictEntry}{x:zX}
  (h1:IsItemIter s.heap it d i n ep x y) (h2:s.heap.get? d=some od) (N:od.data=.dict es ep) (R:es.size=n) (P:es[i]?=some e)
  (q:∀h',IsItemIterOut h' it d (i+1) n ep e.key e.val s.heap.objs.size->h'.get? s.heap.objs.size=some {cls:=.type "tuple",data:=.seq #[e.key,e.val]}->
   (∀c u,c≠it->s.heap.get? c=some u->h'.get? c=some u)->Q (some (.ref s.heap.objs.size)) {s with heap:=h'}):
  wpAny (model prog w) A (pyNext (.ref it)) Q E s:=by
 obtain⟨a,g,t,l,m⟩:=s;have r:Shared.TypeIs ⟨a,g,t,l,m⟩ (.ref it) "dict_itemiterator":=(al _ h1 rfl);unfold pyNext;refine dh (wpAny_attempt (lR (name:=Str.ofString "__next__") r F.slot_dict_itemiterator_next (ke F.slot_dict_itemiterator_next r F.entry_dict_itemiterator_next ?_ (F.args_dict_itemiterator_next_1 _))));refine dh (eh (dh (dh ?_)));refine dh (wpAny_typeNameOfWhole_itemiter r (eh (dh (wpAny_fieldsOf h1 rfl ?_))));simp only [show Builtin.Dict_items.ownsTuple "dict_itemiterator"=true by decide,if_true];show wpAny _ _ (ite ((Value.ref d==Value.none)=true) _ _) _ _ _;rw[ej (show¬((Value.ref d==Value.none)=true) from hX)];refine dh (eh (dh (wpAny_dictEntries h2 N ?_)));rw[ej (by rw[R];simp)];refine dh (eh (dh (wpAny_dictEpoch h2 N ?_)));rw[ej (by simp)];obtain⟨T,U⟩:=Array.getElem?_eq_some_iff.mp P;refine eh ?_;simp only [show¬((i:Int)<0) from by lia,if_false,Int.toNat_natCast,P];refine dh (dh (wpAny_typeNameOfWhole_itemiter r (eh (dh (wpAny_isOneOf_itemiter r ?_)))));show wpAny _ _ (setField (.ref it) 3 (rawInt ((i:Int)+1))>>=_) _ _ (⟨a,g,t,l,m⟩:zY);refine dh (mj h1 (by simp) λk1 j k=>?_)
 replace k:Heap.SameBut it a k1:=k
 replace j:IsItemIter k1 it d (i+1) n ep x y:=by
  have z:((i+1:Nat):Int)=(i:Int)+1:=by lia
  unfold IsItemIter;rw[z]
  simpa[rawInt]using j
 have h:Shared.TypeIs ⟨k1,g,t,l,m⟩ (.ref it) "dict_itemiterator":=(al _ j rfl);refine dh (kM (dh (wpAny_isOneOf_itemiter h (dh (wpAny_isOneOf_itemiter h ?_)))));show wpAny _ _ (Builtin.Dict_items.pairFromOwner (.ref it) 6 e.key e.val) _ _ (⟨k1,g,t,l,m⟩:zY);unfold Builtin.Dict_items.pairFromOwner;refine dh (wpAny_newTuple ?_);have I:k1.objs.size=a.objs.size:=k.1;have S:it<a.objs.size:=gN h1;have p:IsItemIter (k1.push {cls:=.type "tuple",data:=.seq #[e.key,e.val]}) it d (i+1) n ep x y:=gk _ j;have O:(k1.push {cls:=.type "tuple",data:=.seq #[e.key,e.val]}).get? a.objs.size=some {cls:=.type "tuple",data:=.seq #[e.key,e.val]}:=by rw[<-I];exact ig _ rfl
 have M:∀b o,b≠it->a.get? b=some o->(k1.push {cls:=.type "tuple",data:=.seq #[e.key,e.val]}).get? b=some o:=λb o f z=>gk _ (k.extBut b o f z);generalize k1.push {cls:=.type "tuple",data:=.seq #[e.key,e.val]}=k2 at p O M;show wpAny _ _ (Builtin.Dict_items.ownedTupleIsFree (.ref it)>>=_) _ _ (⟨k2,g,t,l,m⟩:zY);rw[I];clear j k h I k1;refine dh ?_;unfold Builtin.Dict_items.ownedTupleIsFree;refine dh (jf p rfl (x:=.none) rfl (eh ?_));simp only [if_true];refine dh (jf p rfl (x:=x) rfl (dh (jf p rfl (x:=y) rfl (dh (mj p (by simp) λk3 K D=>?_)))))
 replace D:Heap.SameBut it k2 k3:=D
 replace K:IsItemIter k3 it d (i+1) n ep e.key y:=K
 refine dh (mj K (by simp) λk4 H C=>?_)
 replace C:Heap.SameBut it k3 k4:=C
 replace H:IsItemIter k4 it d (i+1) n ep e.key e.val:=H
 refine dh (mj H (by simp) λk5 J G=>?_)
 replace G:Heap.SameBut it k4 k5:=G
 replace J:IsItemIterOut k5 it d (i+1) n ep e.key e.val a.objs.size:=J
 refine dh (mj J (by simp) λk6 L B=>?_)
 replace B:Heap.SameBut it k5 k6:=B
 replace L:IsItemIterOut k6 it d (i+1) n ep e.key e.val a.objs.size:=L
 have v:∀b o,b≠it->k2.get? b=some o->k6.get? b=some o:=λb o f z=>B.extBut b o f (G.extBut b o f (C.extBut b o f (D.extBut b o f z)));exact dh (wpAny_letGo (eh (eh (al _ rfl (eh (q k6 L (v _ _ (kd S) O) λb o f z=>v b o f (M b o f z)))))))
theorem Gp{x:zX}(g:A.handled=none)
  (h1:IsItemIter s.heap it d i n ep x y) (h2:s.heap.get? d=some od) (e:od.data=.dict es ep) (f:es.size=n) (h:n<=i)
  (q:∀h',Heap.ExtBut it s.heap h'->Q none {s with heap:=h'}):wpAny (model prog w) A (pyNext (.ref it)) Q E s:=by
 have c:s.TypeIs (.ref it) "dict_itemiterator":=(al _ h1 rfl);unfold pyNext;refine dh (wpAny_attempt (lR (name:=Str.ofString "__next__") c F.slot_dict_itemiterator_next (ke F.slot_dict_itemiterator_next c F.entry_dict_itemiterator_next ?_ (F.args_dict_itemiterator_next_1 _))));refine dh (eh (dh (dh ?_)));refine dh (wpAny_typeNameOfWhole_itemiter c (eh (dh (wpAny_fieldsOf h1 rfl ?_))));simp only [show Builtin.Dict_items.ownsTuple "dict_itemiterator"=true by decide,if_true];show wpAny _ _ (ite ((Value.ref d==Value.none)=true) _ _) _ _ _;rw[ej (show¬((Value.ref d==Value.none)=true) from hX)];refine dh (eh (dh (wpAny_dictEntries h2 e ?_)));rw[ej (by rw[f];simp)];refine dh (eh (dh (wpAny_dictEpoch h2 e ?_)));rw[ej (by simp)];refine eh ?_;simp only [show¬((i:Int)<0) from by lia,if_false,Int.toNat_natCast,Array.getElem?_eq_none (show es.size<=i by lia)];refine dh (dh (wpAny_typeNameOfWhole_itemiter c (eh ?_)));show wpAny _ _ (setField (.ref it) 2 .none>>=_) _ _ _;refine dh (nr h1 rfl (by simp) ?_);show wpAny _ _ (newExc (.type "StopIteration") []>>=_) _ _ (_:zY);refine dh ?_;simp only [newExc,newTuple];refine dh (lG (dh (m:=firstArgMember _ _) (wpAny_of_eq (a:=Value.none) (by first|rfl|(simp only [firstArgMember];rfl)) (lG ?_ (by size_fits)))) (by size_fits));simp only [raiseNew];refine dh (wpAny_handled ?_);rw[show A.in1.handled=none from g];refine dh (eh (wpAny_throw ?_));refine dh (wpAny_isInstance (T:="StopIteration") (b:=true) (al _ (ig _ rfl) rfl) isSubtype_stop (eh ?_));exact q _ (((Heap.SameBut.update ..).extBut.push _).push _)
theorem HE:entryFor table "dict_itemiterator.__iter__"=some Builtin.«dict_keyiterator.__iter__»:=entryFor_alias (id':="dict_keyiterator.__iter__") (by kernel_rfl) rfl (by decide+kernel) (by kernel_rfl)
theorem GK{x:zX}{Q:zA}(st:IsItemIter s.heap it d i n ep x y)(h:Q (.ref it) s):wpAny (model prog w) A (pyIter (.ref it)) Q E s:=by have a:s.TypeIs (.ref it) "dict_itemiterator":=(al _ st rfl);refine wpAny_pyIter_slot a F.slot_dict_itemiterator_iter (ke F.slot_dict_itemiterator_iter a HE ?_ (F.args_dict_itemiterator_iter_1 _));show wpAny _ _ (ret (.ref it)) _ _ s;exact eh (gr _ rfl "dict_itemiterator" _ a F.slot_dict_itemiterator_next.lookup h)
theorem GO(d:zW)(b:(d==sysModules)=false):
  MeetsIn prog w (Builtin.«dict.items» ⟨[.ref d],[]⟩) (λ_ R s=>s.TypeIs (.ref d) "dict"/\R (.ok (.ret (.ref s.heap.objs.size))) {s with heap:=s.heap.push {cls:=.type "dict_items",data:=.fields #[.ref d]}}):=
 .of_wp λA R s ⟨a,q⟩=>by unfold Builtin.«dict.items»;refine dh ?_;unfold Builtin.Dict.noArgs;refine dh (wpAny_notOrdered_dict a ?_);show wpAny _ _ (pure d) _ _ s;refine eh ?_;show wpAny _ _ (Builtin.Dict.showsAll d>>=_) _ _ s;unfold Builtin.Dict.showsAll;rw[ej (by rw[b];exact hX)];exact dh (eh (dh (lG (eh (al _ rfl q)))))
def isD(u:HO):Prop:=(∃a,u=.dK a)\/∃a,u=.dT a
def ju(v d:zW):HO:=.ext λh=>h.IsItemsView v d
theorem EN{v:zW}(e:h.IsItemsView v d):A1g P w H h v (ju v d):=(fY e (let⟨o,a,_⟩:=e;⟨o,a⟩) (by rintro f c ⟨o,a,b⟩ k;exact al o (k o a) b))
theorem Dy(j:isD u)(x:A1g P w H h a u):(a==sysModules)=false/\∃o es ep,h.get? a=some o/\o.ExactDict/\o.data=.dict es ep:=by
 rcases j with ⟨c,rfl⟩|⟨c,rfl⟩
 ·refine jR x ?_;clear x;rintro k b i e o es ep f ⟨g,d,r⟩;exact⟨b,(jF o es ep f g d)⟩
 ·refine jR x ?_;clear x;rintro k b i e o es ep f ⟨g,d,r⟩;exact⟨b,(jF o es ep f g d)⟩
def BS:V->List V->Hp->VK->Prop:=λx b H Q=>∃a u,x=.ref a/\b=[]/\H a=some u/\isD u/\∀p,H p=none->Q (.ref p) (upd H p (ju p a))
theorem pS:MtR X "dict.items" BS:=by intro d s Z H x w v p Q I l j h;refine jo h ?_;clear h;rintro a u rfl rfl g ⟨i,q⟩;cases l;cases j;obtain⟨f,o,t,r,k,m,n⟩:=Dy i (I.hok a u g);have c:s.TypeIs (.ref a) "dict":=(al o k m.1);refine call_meetsIn PySem.F.slot_dict_items c PySem.F.entry_dict_items (PySem.F.args_dict_items_1 _) (GO a f) ⟨c,?_⟩;exact el (.ref s.heap.objs.size) _ (I.laid (t':=s.toks) (o:=ju s.heap.objs.size a) (λb u e=>gk _ e) (gf _) (EN (fV _ (ig _ rfl) rfl rfl))) rfl (q _ (I.hok.fresh (gf _)))
theorem Inv.frozenD(I:Inv X pins Z H s)(c:H a=some u)(d:isD u)(h:s.heap.get? a=some o):Inv X pins Z (upd H a (.frz o u)) s:=by
 have j:∀b g,H b=some (.tup g)->upd H a (.frz o u) b=some (.tup g):=λb g q=>by rw[dF (gg q c (by rcases d with ⟨_,rfl⟩|⟨_,rfl⟩<;>intro z<;>cases z))];exact q
 have i:∀b,H b=some (.own a)->upd H a (.frz o u) b=some (.own a):=λb q=>by rw[dF (gg q c (by rcases d with ⟨_,rfl⟩|⟨_,rfl⟩<;>intro z<;>cases z))];exact q
 have f:A1g X.prog X.w (upd H a (.frz o u)) s.heap a (.frz o u):=⟨h,(I.hok a u c).stay (λ_ _ _ q=>q) i j⟩;exact I.write (t':=s.toks) (h':=s.heap) (e:=a) (by rw[c];rcases d with ⟨_,rfl⟩|⟨_,rfl⟩<;>trivial) (.inl rfl) (λ_ _ _ e=>e) ⟨o,h⟩ f
theorem Inv.thawD(I:Inv X pins Z H s)(f:H a=some (.frz o u))(A:isD u)(t:∀o' k,X.H₀ a≠some (.frz o' k)):Inv X pins Z (upd H a u) s:=by
 have h:∀b,H b=none->upd H a u b=none:=λb e=>by rw[dF (λz=>by subst z;rw[f]at e;cases e)];exact e
 have l:∀b d,H b=some (.tup d)->upd H a u b=some (.tup d):=λb d q=>by rw[dF (gg q f (by intro z;cases z))];exact q
 have m:∀b c,H b=some (.own c)->upd H a u b=some (.own c):=λb c q=>by rw[dF (gg q f (by intro z;cases z))];exact q
 refine⟨I.ok,I.os,I.bare,⟨I.base.keep,I.base.slot,λb j e n r=>h b (I.base.free b j e n r),I.base.there,λb d e=>l b d (I.base.tups b d e),λb j k e=>?_,λb y e=>?_⟩,I.loc,I.cell,h _ I.free,λx c e=>h _ (I.freeC x c e),
  λp i=>(fY ((I.pin p i).1) (h _ (I.pin p i).2.1) ((I.pin p i).2.2)),λb v e=>?_,I.len⟩
 ·have q:=I.base.frzs b j k e;rw[dF (λz=>by subst z;exact t _ _ e)];exact q
 ·obtain⟨g,q⟩:=I.base.tbls b y e;exact⟨g,by rw[dF (gg q f (by intro z;cases z))];exact q⟩
 ·by_cases hb:b=a
  ·subst hb;rw[ee]at e;cases e;obtain⟨_,q⟩:=(show A1g X.prog X.w H s.heap b (.frz o u) from I.hok b _ f);exact q.stay (λ_ _ _ q=>q) (λc q=>m c b q) λc d q=>l c d q
  ·rw[dF hb]at e;exact(I.hok b v e).stay (λ_ _ _ q=>q) (λc q=>m c b q) λc d q=>l c d q
def Co(X:Cx)(t:TS):TS:=λD Z H=>∃a o u,H a=some (.frz o u)/\isD u/\(∀c b,X.H₀ a≠some (.frz c b))/\t D Z (upd H a u)
theorem qM{t:TS}(h:PSs X sts t):PSs X sts (Co X t):=by intro b s Z H D I c;refine gE c λa o u d f e q=>?_;clear c;exact h b s Z _ D (I.thawD d f e) q
abbrev oE(es:Array DictEntry)(L:List (V×V)):Prop:=Paired (λ(e:DictEntry)(p:V×V)=>A2c p.1 e.key/\A2c p.2 e.val) es.toList L
def Iti(a:zW)(o:Obj)(u:HO)(L:List (V×V)):It :=⟨λi H=>H a=some (.frz o u)/\i<L.length,λi H x b=>∃k v p,L[i]?=some (k,v)/\H p=none/\x=.ref p/\b=upd H p (.tup [k,v]),λi H=>H a=some (.frz o u)/\i=L.length⟩
theorem vt{α β:Type}{F:α->β->Prop}:∀{l:List α}{m:List β},Paired F l m->l.length=m.length|_,_,.nil=>rfl|_,_,.cons _ t=>by simp[vt t]
theorem vh{α β:Type}{F:α->β->Prop}:∀{l:List α}{m:List β},Paired F l m->∀{i:Nat}{y:β},m[i]?=some y->∃x,l[i]?=some x/\F x y|_,_,.nil,i,y,e=>by simp at e|_,_,.cons r t,0,y,e=>by simp at e;subst e;exact al _ rfl r|_,_,.cons r t,i+1,y,e=>by obtain⟨x,a,b⟩:=vh t (i:=i) (by simpa using e);exact al x (by simpa using a) b
theorem GN(it a:zW)(o:Obj)(u:HO)(L:List (V×V))(es:Array DictEntry)(ep:Nat)(J:o.data=.dict es ep)(F:oE es L):
  mI P w K (.Tuple elts kk pos) (Iti a o u L) [it] it (λi h=>∃x y,IsItemIter h it a i es.size ep x y) where
 mem:=by simp
 obj:=λi h d b D=>by
  have e:b=it:=by simpa using D
  subst e;obtain⟨x,y,e⟩:=d;exact al _ e λv z=>by cases(show Data.fields _=Data.cell v from z)
 keep:=λi h C d k=>let⟨x,y,e⟩:=d;(jw x y (k it (by simp) _ e))
 item:=by
  intro X r G t l i f s Z H E I n d q;subst r G t;obtain⟨B,N⟩:=q;obtain⟨x,y,d⟩:=d;have hl:es.size=L.length:=by have:=vt F;simpa using this
  obtain⟨⟨k,v⟩,hkv⟩:∃p,L[i]?=some p:=⟨L[i],by simp[N]⟩;obtain⟨e,W,T,r2⟩:=vh F hkv;obtain⟨j,_⟩:=(show A1g X.prog X.w H s.heap a (.frz o u) from I.hok a _ B);refine Hn d j J rfl (e:=e) (by simpa using W) λC Y z2 kp=>?_;refine al _ rfl (wpAny_letOwnedTupleGo_items (s:={s with heap:=C}) Y λg zg O=>?_)
  have M:s.heap.objs.size≠it:=kd (gN d)
  have I1:Inv X f Z (upd H s.heap.objs.size (.tup [k,v])) {s with heap:=g,toks:=s.toks}:=I.turnedNew (ts:=[it]) (λc o l e=>by
   have m:c≠it:=by simpa using l
   exact O.extBut _ _ m (kp c o m e)) n (gf _) (pi (by show 2<=sizeLine;decide) [e.key,e.val] (.cons T (.cons r2 .nil)) _ (O.extBut _ _ M z2) rfl _ rfl)
  refine ij (.ref s.heap.objs.size) _ I1 rfl (gD k v _ hkv (I.hok.fresh (gf _)) rfl rfl) (jw _ _ zg) λc l=>?_;have A:c=it:=by simpa using l
  subst A;rw[dF M.symm];exact(n c l).1
 done:=by
  intro X r G t l i f s Z H E I n d q;subst r G t;obtain⟨B,N⟩:=q;obtain⟨x,y,d⟩:=d;have hl:es.size=L.length:=by have:=vt F;simpa using this
  obtain⟨j,_⟩:=(show A1g X.prog X.w H s.heap a (.frz o u) from I.hok a _ B);obtain⟨R,f1,f2,f3,f4,Q⟩:=n it (by simp);exact Gp l d j J rfl (by lia) λC S=>⟨rfl,I.turned (t':=s.toks) (λb U D e=>S b U D e) R f1 f3 f4 Q⟩
 self:=λ_ _ s _ _ d h=>by obtain⟨x,y,d⟩:=d;exact GK d h
abbrev KL(H:Hp)(kvs:List (List Key×V))(L:List (V×V)):Prop:=Paired (λ(p:List Key×V)(q:V×V)=>∃b,q.1=.ref b/\H b=some (.tup (p.1.map kV))/\q.2=p.2) kvs L
theorem zj{α β:Type}{F:α->β->Prop}:∀{l:List α}{m:List β},l.length=m.length->(∀(i:Nat)(x:α)(y:β),l[i]?=some x->m[i]?=some y->F x y)->Paired F l m| [],[],_,_=>.nil| [],_::_,e,_=>by simp at e|_::_,[],e,_=>by simp at e|x::l,y::m,e,h=>.cons (h 0 x y rfl rfl) (zj (by simpa using e) λi a b p q=>h (i+1) a b (by simpa using p) (by simpa using q))
theorem B4(r:KV kvs vs)(p:Pairs (ia P w) es.toList vs):oE es (kvs.map λq=>(kV q.1,q.2)):=by refine zj (by rw[p.length,eH];exact r.length.symm) λi e y h a=>?_;rw[gP]at a;obtain⟨⟨k,v⟩,g,rfl⟩:=lI.mp a;obtain⟨u,d,c⟩:=r.at g;obtain⟨f,b⟩:=p.get? h d;subst b;exact⟨wl f,c⟩
theorem ur{P:yB}{w:yD}{H:Hp}:∀{kvs:List (List Key×V)}{xs:List (List Key×zW×zX)},KT H kvs xs->
  ∃L,Paired (λ(e:DictEntry)(p:V×V)=>A2c p.1 e.key/\A2c p.2 e.val) (xs.map (entryOfKey (tupleKind (ia P w)))) L/\KL H kvs L
 |_,_,.nil=>(al [] .nil .nil)
 |_,_,@Paired.cons _ _ _ p q _ _ h t=>by obtain⟨L,b,a⟩:=ur (P:=P) (w:=w) t;exact al ((.ref q.2.1,p.2)::L) (.cons ⟨rfl,h.2.2⟩ b) (.cons (fV q.2.1 rfl h.2.1 rfl) a)
def CO(tl:TE):TI:=λZ H R=>tl Z H λx c=>∃v a u,x=.ref v/\c v=some (ju v a)/\c a=some u/\
 ((∃b,u=.dK b/\∀o,R (Iti a o u (b.map λq=>(kV q.1,q.2))) (upd c a (.frz o u)))\/∃b,u=.dT b/\∀o L,KL c b L->R (Iti a o u L) (upd c a (.frz o u)))
theorem pU{l:yC}(O:PE X l tl):PI X (.Tuple elts kk pos) l (CO tl):=by
 intro c s Z H R I h;refine thn (O c s Z H _ I h) ?_;rintro y s1 p;refine mG p ?_;clear p;rintro x m I1 S v a u ⟨G,J,n,q⟩;subst G;cases S;obtain⟨D,_⟩:=(show A1g X.prog X.w m s1.heap v (ju v a) from I1.hok v _ J)
 have t:∀(o:Obj)(d:Array DictEntry)(f:Nat)(L:List (V×V)),s1.heap.get? a=some o->o.data=.dict d f->isD u->oE d L->R (Iti a o u L) (upd m a (.frz o u))->
   wpAny (model X.prog X.w) X.A (pyIter (.ref v)) (PIE X c Z (.Tuple elts kk pos) R) X.xe s1:=by
  intro o d f L j i K T Q;refine GM D j i ?_;have I2:Inv X c Z m {s1 with heap:=s1.heap.push {cls:=.type "dict_itemiterator",data:=.fields #[.none,.bool false,.ref a,.int 0 0,.int d.size 0,.int f 0,.none,.none]},toks:=s1.toks}:=I1.kept λb Y e=>gk _ e
  have I3:=I2.frozenD n K (gk _ j);refine i12 _ [s1.heap.objs.size] _ _ _ rfl I3 (GN _ a o u L d f i T) (jw .none .none (ig _ rfl)) (λb M=>?_) Q;have e:b=s1.heap.objs.size:=by simpa using M
  subst e;refine I1.fpOk (gf _) ?_;rw[dF (kd (I1.hok.lt n))];exact I1.hok.fresh (gf _)
 rcases q with ⟨k,rfl,q⟩|⟨k,rfl,q⟩
 ·refine jR (oI I1.hok n) ?_;rintro C z W g o d f j ⟨U,i,_,r,_⟩;exact t o d f _ j i (.inl ⟨_,rfl⟩) (B4 g r) (q o)
 ·refine jR (show A1g X.prog X.w m s1.heap a (.dT k) from I1.hok a _ n) ?_;rintro C z E g o d f j ⟨U,i,F,_⟩;obtain⟨L,N,B⟩:=ur (P:=X.prog) (w:=X.w) g;exact t o d f L j i (.inr ⟨_,rfl⟩) (by unfold oE;rw[F];exact N) (q o L B)
theorem qO{L:List (V×V)}(Pv:Nat->St->Hp->Prop)(n:Pv 0 Z H)(c:∀i Z H,Pv i Z H->H a=some (.frz o u))
  (d:∀i k v p Z H,L[i]?=some (k,v)->H p=none->Pv i Z H->g (.ref p) Z (upd H p (.tup [k,v])) λZ2 H2=>tb {D with nx:=Pv (i+1),ct:=Pv (i+1),bk:=D.nx} Z2 H2) (f:∀Z H,Pv L.length Z H->D.nx Z H):
  ∃W:Nat->Nat->St->Hp->Prop,(∃m,W 0 m Z H)/\∀i m Z H,W i m Z H->
   ((Iti a o u L).stop i H/\D.nx Z H)\/((Iti a o u L).go i H/\∃N:St->Hp->Prop,(∀Z' H',N Z' H'->∃b,b<m/\W (i+1) b Z' H')/\∀x H',(Iti a o u L).yld i H x H'->g x Z H' λZ2 H2=>tb {D with nx:=N,ct:=N,bk:=D.nx} Z2 H2):=by
 refine al (λi m Z H=>m=L.length-i/\i<=L.length/\Pv i Z H) (fV L.length (by simp) (iG _) n) ?_;rintro i m Z H ⟨rfl,r,p⟩;by_cases hlt:i<L.length
 ·refine .inr (gF ⟨c i Z H p,hlt⟩ (Pv (i+1)) (λZ' H' l=>(iV (L.length-(i+1)) (by lia) rfl hlt l)) λx H' y=>?_);refine gE y ?_;clear y;rintro k v q j h rfl rfl;exact d i k v q Z _ j h p
 ·have e:i=L.length:=by lia
  subst e;exact .inl ⟨⟨c _ Z H p,rfl⟩,f Z H p⟩
def Bt:V->List V->Hp->VK->Prop:=λx c H Q=>∃a k y b,x=.ref a/\c=[kV k,y]/\H a=some (.dK b)/\b.length<sizeLine/\(∀v,fy b k=some v->Q v H)/\(fy b k=none->Q y (upd H a (.dK (gC b k y))))
theorem Dh:MtR X "dict.setdefault" Bt:=by
 intro l s Z H x L v K Q I D e h;refine jd h ?_;clear h;rintro a k y b rfl rfl m J ⟨r,p⟩;cases D
 cases e with
 |cons r1 e=>
  cases e with
  |cons r2 e=>
   cases e
   obtain⟨z,i,j,d,n⟩:=oI I.hok m;have t:j.length<=sizeLine:=by rw[<-d.length];exact z
   have g:(gC b k y).length<=sizeLine:=by have:=ow b k y;lia
   have c:=d.val k;refine call_meetsIn PySem.F.slot_dict_setdefault n.typeIs PySem.F.entry_dict_setdefault (PySem.F.args_dict_setdefault_3 _ _ _) (kt_meets_setdefault (ia X.prog X.w) a (m5 r1) i _) (iV j n t (λu C=>?_) λG B f o=>?_)
   ·rw[C]at c
    cases ev:fy b k with
    |none=>rw[ev]at c;exact False.elim c
    |some v'=>rw[ev]at c;exact el v' H (I.tok _) c (r v' ev)
   ·rw[G]at c
    cases ev:fy b k with
    |none=>have A:∃q,B.get? a=some q:=let⟨q,_,_,hq,_⟩:=f;⟨q,hq⟩;exact el y _ (qy I (by rw[m];exact True.intro) o A (uy g i (d.put k r2) f)) r2 (p ev)
    |some v'=>rw[ev]at c;exact False.elim c
def wA(H:Hp):Prop:=(∀a b,H a=some (.dK b)->(b.map (·.1)).Nodup)/\∀a b,H a=some (.dT b)->(b.map (·.1)).Nodup
theorem Dj(r:KV kvs vs):kvs.map (·.1)=vs.map (·.1):=by
 unfold KV at r
 induction r with
 |nil=>rfl
 |cons h t ih=>rw[gw,gw,ih,h.1]
theorem Dn{kvs:List (List Key×V)}{xs:List (List Key×zW×zX)}(r:KT H kvs xs):kvs.map (·.1)=xs.map (·.1):=by
 induction r with
 |nil=>rfl
 |cons h t ih=>rw[gw,gw,ih,h.1]
theorem Inv.apart(I:Inv X pins Z H s):wA H:=by
 refine⟨λa c e=>?_,λa c e=>?_⟩
 ·refine jR (oI I.hok e) ?_;rintro _ _ g b o f d _ ⟨_,_,_,_,n⟩;rw[Dj b];exact n
 ·refine jR (show A1g X.prog X.w H s.heap a (.dT c) from I.hok a _ e) ?_;rintro _ _ h b o f d _ ⟨_,_,_,n⟩;rw[Dn b];exact n
theorem Ey{t:TS}(h:PSs X sts t):PSs X sts (λD Z H=>wA H->t D Z H):=λa s Z H D I q=>h a s Z H D I (q I.apart)
theorem qA[DecidableEq κ]{kvs:List (κ×V)}{k:κ}(n:(kvs.map (·.1)).Nodup)(h:kvs[i]?=some (k,v))(b:List (κ×V))(e:b.map (·.1)=(kvs.take i).map (·.1))(u:V):gC b k u=b++[(k,u)]:=by
 unfold gC;rw[ej];intro a;obtain⟨p,t,d⟩:=List.any_eq_true.mp a;have d:p.1=k:=by simpa using d
 have f:k∈b.map (·.1):=gm.mpr (al p t d);rw[e]at f;obtain⟨q,w,s⟩:=gm.mp f;obtain⟨j,D,g⟩:=List.mem_iff_getElem.mp w;have y:j<i:=by have:=List.length_take_le i kvs;lia
 rw[List.getElem_take]at g;obtain⟨z,A⟩:=gG.mp h;have c:j<kvs.length:=by lia
 have r:(kvs.map λx=>x.1)[j]?=some k:=by rw[gP,hB c,g];exact congrArg some s
 have l:(kvs.map λx=>x.1)[i]?=some k:=by rw[gP,h];rfl
 obtain⟨C,o⟩:=gG.mp r;obtain⟨B,m⟩:=gG.mp l;have:j=i:=(List.getElem_inj n).mp (o.trans m.symm)
 lia
theorem AF:entryFor table "dict.update.loop"=some Builtin.«dict.update.loop»:=entryFor_of_tree (by kernel_rfl)
theorem tz:plainId "dict.update.loop"=true:=by decide+kernel
section
variable{prog:yB}{w:yD}{K:Type}[DecidableEq K]{knd:KeyKind prog w K}{A:zZ}{R:Result->zY->Prop}{I l d:zW}{items:zG}{rs:List (K×zX)}{h₀:yA}{g:Array GenState}{dr:Drawn}{os:OsState}
end
def B2b(a:Env):List (Str×zW)->Prop| []=>True|p::r=>a.cells.lookup p.1=some p.2/\B2b a r
theorem B2b.get{a:Env}:∀{cl:List (Str×zW)},B2b a cl->∀{x:Str}{c:zW},cl.lookup x=some c->a.cells.lookup x=some c
 | [],_,_,_,h=>by cases h
 |(y,d)::r,h,x,c,e=>by
  rw[nR]at e;split at e
  ·rename_i hb;have b:x=y:=by simpa using hb
   cases e
   subst b;exact h.1
  ·exact B2b.get h.2 e
theorem AC{x:Str}:∀{cl:List (Str×zW)},x∈cl.map (·.1)->∃c,cl.lookup x=some c
 | [],h=>by cases h
 |(y,d)::r,h=>by
  rw[nR]
  cases hb:(x==y)with
  |true=>exact⟨d,rfl⟩
  |false=>
   have a:x≠y:=by simpa using hb
   rcases gY.mp h with e|e
   ·exact absurd e a
   ·exact AC e
theorem vo{cl:List (Str×zW)}{xs:zC}(s:closureFor scope X.env=pure cl)(r:B2b X.env cl)(t:cl.map (·.1)=xs)(a:scope.kind=.function)(f:∀y∈scope.names,y.2≠.cell/\(y.2=.free->y.1∈xs))
  (p:∀y∈scope.names,y.2=.local->scope.names.lookup y.1=some .local):mH X scope cl where
 eq:=s
 sub:=λy d h=>r.get h
 has:=λy h=>by
  have b:y∈xs:=by
   have m:∃k,(y,k)∈(relabel scope X.env).names/\(k=.cell\/k=.free):=h.elim (λz=>(al _ (qP z) (.inl rfl))) λz=>(al _ (qP z) (.inr rfl));obtain⟨k,o,a⟩:=m;obtain⟨⟨n,c⟩,g,e⟩:=gm.mp o;dsimp only at e;by_cases hf:c=.free
   ·have j:n=y:=by
     split at e
     ·exact congrArg Prod.fst e
     ·exact congrArg Prod.fst e
    rw[<-j];exact(f _ g).2 hf
   ·have l:(c==NameKind.free)=false:=by simpa using hf
    simp only [l,Bool.false_and,Bool.false_eq_true,if_false]at e;have i:c=k:=congrArg Prod.snd e;subst i;rcases a with a|a
    ·exact absurd a (f _ g).1
    ·exact absurd a hf
  rw[<-t]at b;exact AC b
 kind:=a
 ncell:=λy q=>(f y q).1
 names:=p
def B5z(X:Cx)(scope:Scope):zC->List Nat->Prop| [],[]=>True|x::xs,j::js=>(X.N[j]?=some x/\(X.env.scope.names.lookup x=some .cell\/X.env.scope.names.lookup x=some .free)/\((relabel scope X.env).names.lookup x=some .cell\/(relabel scope X.env).names.lookup x=some .free))/\B5z X scope xs js|_,_=>False
theorem B5z.get{X:Cx}{scope:Scope}:∀{xs:zC}{js:List Nat},B5z X scope xs js->xs.length=js.length/\∀(i j:Nat),js[i]?=some j->∃x,xs[i]?=some x/\X.N[j]?=some x/\(X.env.scope.names.lookup x=some .cell\/X.env.scope.names.lookup x=some .free)/\((relabel scope X.env).names.lookup x=some .cell\/(relabel scope X.env).names.lookup x=some .free)
 | [],[],_=>⟨rfl,λi j e=>by simp at e⟩
 |x::xs,j::js,h=>by
  obtain⟨e,f⟩:=B5z.get h.2;refine⟨by simp[e],λi k a=>?_⟩
  cases i with
  |zero=>simp at a;subst a;exact al x rfl h.1
  |succ i=>exact f i k (by simpa using a)
 | [],_::_,h=>h.elim
 |_::_,[],h=>h.elim
theorem vm{xs:zC}(h:B5z X scope xs js):m4 X (N0++xs) scope (List.replicate N0.length none++js.map some):=by
 obtain⟨g,b⟩:=h.get;refine⟨by simp[g],λi k e=>?_⟩;by_cases hi:i<N0.length
 ·rw[lQ (by simpa using hi),List.getElem?_replicate]at e;split at e<;>cases e
 ·rw[nu (by simpa using hi),List.length_replicate,gP]at e;obtain⟨j,c,l⟩:=lI.mp e;cases l;obtain⟨x,f,a,m,d⟩:=b _ _ c;exact iV x (by rw[nu (by lia)];exact f) a m d
section
variable{D:zW}
theorem yR(n:Nat)(Pv:Nat->List V->Hp->Prop)(k:Pv 0 [] (upd H D (.lst [])))(d:∀i ys H,i<n->Pv i ys H->J.go i H)(c:∀ys H,Pv n ys H->J.stop n H)
  (h:∀i ys H,i<n->Pv i ys H->∀x b,J.yld i H x b->g x Z₀ b λZ4 H4=>A2q Z₀ Z4/\te Z4 H4 λy a=>a D=some (.lst ys)/\ys.length<sizeLine/\Pv (i+1) (ys++[y]) (upd a D (.lst (ys++[y])))) (j:∀ys H,Pv n ys H->QD H):
  ∃W:Nat->Nat->Hp->Prop,(∃m,W 0 m (upd H D (.lst [])))/\∀i m H2,W i m H2->
   (J.stop i H2/\QD H2)\/(J.go i H2/\∃N:VK,(∀y a,N y a->∃xs,a D=some (.lst xs)/\xs.length<sizeLine/\∃f,f<m/\W (i+1) f (upd a D (.lst (xs++[y]))))/\
    ∀x b,J.yld i H2 x b->g x Z₀ b λZ4 H4=>A2q Z₀ Z4/\te Z4 H4 N):=by
 refine al (λi m H=>m=n-i/\i<=n/\∃ys,Pv i ys H) (pj n (by simp) (iG _) [] k) ?_;rintro i m H2 ⟨rfl,l,ys,p⟩;by_cases hlt:i<n
 ·exact .inr (gF (d i ys H2 hlt p) (λy a=>a D=some (.lst ys)/\ys.length<sizeLine/\Pv (i+1) (ys++[y]) (upd a D (.lst (ys++[y])))) (λy a z=>(p5 ys z.1 z.2.1 (n-(i+1)) (by lia) rfl hlt _ z.2.2)) λx b z=>h i ys H2 hlt p x b z)
 ·have e:i=n:=by lia
  subst e;exact .inl ⟨c ys H2 p,j ys H2 p⟩
end
theorem uE{b:Bool}(h:mroIn K C (.type U)=some b)(a:PySem.W.kitMeta U=true):∀u,A2c (.ty U) u->kitOne K (.ref C) u=some b:=by intro u z;cases(show u=Value.type U from z);unfold kitOne;rw[ej (show¬(Value.ref C==Value.type U)=true from hX)];show(if PySem.W.kitMeta U=true then subIn K (.ref C) (.type U)else none)=some b;rw[fW a];exact h
theorem A5j.or{k:Nat}(F:A5j P w K mg base CX k f fd ps sp)(i:A5j P w K mg base CX k f fd ps sp'):
  A5j P w K mg base CX k f fd ps (λvs H Q E=>sp vs H Q E\/sp' vs H Q E):=
 ⟨λvs H Q E q=>q.elim (F.len vs H Q E) (i.len vs H Q E),λA a s H b e vs Q E g h d c q=>q.elim (F.run A a s H b e vs Q E g h d c) (i.run A a s H b e vs Q E g h d c)⟩
theorem Ez{f:Str}{c j:Pos}{cl:List (Str×zW)}(w:X.N.Nodup)(F:X.N[i₀]?=some f)(B:Loc X.env.scope f)(hc:X.calm=true)(ck:mH X scope cl)(io:m4 X N' scope ix)(hi:PI X tg iter wi)
  (hg:∀C q H₀ fp,PG (blk X N' scope cl C q H₀ fp) tg g) (ht:∀C q H₀ fp,PTs (blk X N' scope cl C q H₀ fp) cs tc) (he:∀C q H₀ fp,PE (blk X N' scope cl C q H₀ fp) elt te) (R:lZ->St->It->Hp->Prop) (hR:∀D Z J H1,R D Z J H1->∀D2,H1 D2=none->∃W:Nat->Nat->Hp->Prop,(∃m,W 0 m (upd H1 D2 (.lst [])))/\∀i m H2,W i m H2->
   (J.stop i H2/\D.nx (Z.set i₀ (some (.ref D2))) H2)\/(J.go i H2/\∃(N:VK)(M:Hp->Prop),(∀y d,N y d->∃xs,d D2=some (.lst xs)/\xs.length<sizeLine/\∃l,l<m/\W (i+1) l (upd d D2 (.lst (xs++[y]))))/\(∀d,M d->∃l,l<m/\W (i+1) l d)/\∀x P,J.yld i H2 x P->g x (kn ix Z) P λZ4 H4=>A2q (kn ix Z) Z4/\tc Z4 H4 λb d=>if b=true then te Z4 d N else M d)) (Q:∀x,foldedSetIterable iter X.env x=pure x:=by intro _;rfl)
  (K:swapsWith (.ListComp elt [⟨tg,iter,cs,0⟩] scope pos) (some (.Name f c)) j.line X.env=pure true:=by rfl) (u:X.fn f=true\/X.env.scope.names.lookup f=some .local:=by first|exact .inl rfl|exact .inr rfl|assumption):
  PS X (.Assign [.Name f c] (.ListComp elt [⟨tg,iter,cs,0⟩] scope pos) j) (λD Z H=>wi Z H (R D Z)):=by
 intro n s Z H D₀ I h;rw[exec_Assign_Name_used _ _ _ _ K];refine dh (qZ (dh ?_));show wpAny _ X.A (do let _<-comprehension (.ListComp elt [⟨tg,iter,cs,0⟩] scope pos) scope X.env _ (newList []) false (eval iter X.env) (some (assign (.Name f c) X.env))) _ _ s;refine dh (jT (y6 (use:=some (assign (.Name f c) X.env)) (I.ok.hd hc) ck io hi hg ht he Q (S:=λD2 H2=>D₀.nx (Z.set i₀ (some (.ref D2))) H2) (hR D₀ Z) (Qf:=λ_ L=>∃Z' O,Inv X n Z' O L/\D₀.nx Z' O) (λD C d U x qn Y k Io=>?_) I h) (λ_ L hq=>eh (eh hq)) λ_ _ e=>e);have Io:=Io _ (Heap.SameBut.refl _ _);show wpAny _ X.A (assign (.Name f c) X.env (.ref D)) _ _ U;refine wpAny_assign_Name (yT Io w F B (v:=.ref D) rfl (λs7 I7 G=>?_) u);obtain⟨a,sb,p⟩:=G
 have ca:C≠a:=by
  rcases p with p|p
  ·rw[p];exact k.2.1
  ·exact λz=>k.2.2.2.2.1 _ _ p z.symm
 obtain⟨E,T,es,ep,ho,r⟩:=Y;exact al E (jn T es ep ((sb.2 _ ca).trans ho) r) λh' t=>(iy _ d (I7.turned (t':=s7.toks) (λb o hb e=>(t.2 b hb).trans e) k.1 k.2.1 k.2.2.2.1 k.2.2.2.2.1 k.2.2.2.2.2) qn)
theorem r8{c:Str}{a b:Pos}{cl:List (Str×zW)}(j:X.N.Nodup)(l:X.N[i₀]?=some c)(k:Loc X.env.scope c)(v:X.calm=true)(A:mH X scope cl)(B:m4 X N' scope ix)(hi:PI X tg iter wi)
  (s:∀C n H₀ fp,PG (blk X N' scope cl C n H₀ fp) tg g) (t:∀C n H₀ fp,PE (blk X N' scope cl C n H₀ fp) elt te) (p:∀x,foldedSetIterable iter X.env x=pure x:=by intro _;rfl)
  (o:swapsWith (.ListComp elt [⟨tg,iter,[],0⟩] scope pos) (some (.Name c a)) b.line X.env=pure true:=by rfl) (f:X.fn c=true\/X.env.scope.names.lookup c=some .local:=by first|exact .inl rfl|exact .inr rfl|assumption):
  PS X (.Assign [.Name c a] (.ListComp elt [⟨tg,iter,[],0⟩] scope pos) b) (q7 (uk ix wi g te) (m6 i₀)):=
 Ez (tc:=λ_ H Q=>Q true H) j l k v A B hi s (λ_ _ _ _ _ _ _ _ _ I h=>wpAny_tests_nil (al _ I h)) t _ (λ_ _ _ _ R q r=>by
  obtain⟨W,y,e⟩:=R q r;refine al W y λi m F w=>(e i m F w).imp id λ⟨D,N,u,d⟩=>(iU D N (λ_=>False) u (λ_ z=>z.elim) ?_)
  simpa using d) p o f
theorem oY(F:X.calm=true):mN X (.builtin "sum") (λvs H Q=>∃(a:zW)(d:zI),vs=[V.ref a]/\SqL X.K H a (d.map V.int)/\∀i:Int,Q (.int i) H):=by
 intro t s Z H vs P Q I r h;obtain⟨a,d,rfl,M,q⟩:=h;obtain⟨u,rfl,n⟩:=mR r;cases n;have J:X.A.handled=none:=I.ok.hd F;obtain⟨c,y,l,_⟩:=I.list M;have B:a<s.heap.objs.size:=let⟨_,e,_⟩:=l.isList;gN e;refine call_sum_walkAnyS (wpAny_pyIter_list l.isList ?_);refine jQ s.heap.objs.size [s.heap.objs.size,a] [s.heap.objs.size] (i12 (λa b=>b=a) c.toArray.size (λi v=>c.toArray[i]?=some v) (λi g=>g.heap.IsListIter s.heap.objs.size a i/\g.heap.IsList a c.toArray) (λi=>d.getD i 0) rfl ((Walks.list (prog:=X.prog) (w:=X.w) (A:=X.A.in1) (by simpa using J) s.heap.objs.size a (jq B) c.toArray).toS) ⟨(fV _ (ig _ rfl) rfl rfl),l.isList.push _⟩ (λb x=>?_) (λi v f=>?_) λg t' j=>?_)
 ·simp only [gY,oD,or_false]at x;show b<(s.heap.push _).objs.size;rw[mZ];rcases x with rfl|rfl
  ·exact Nat.lt_succ_self _
  ·exact Nat.lt_succ_of_lt B
 ·have f:c[i]?=some v:=by simpa using f
  have p:i<(d.map V.int).length:=by rw[y.length];exact(gG.mp f).1
  have N:(d.map V.int)[i]?=some (V.int (d.getD i 0)):=by rw[eH]at p;rw[gP,hB p];simp[p]
  obtain⟨u,z,n⟩:=y.get N;rw[f]at z;cases z;exact n
 ·obtain⟨h',L,G,m,k⟩:=g;have D:L=s.gens:=j.gens;have O:G=s.drawn:=j.drawn;have C:k=s.os:=j.os;subst D O C;refine el (.int _) H (I.kept (t':=m) (h':=h') λb o e=>j.heap b o (by simpa using jq (gN e)) (gk _ e)) ⟨t',rfl⟩ (q _)
def qe(K:Frag)(a:zW):It :=
 ⟨λi H=>∃b x,SqL K H a b/\b[i]?=some x,
  λi H v c=>∃p,H p=none/\v=.ref p/\∃x,(∀b,SqL K H a b->b[i]?=some x)/\c=upd H p (.tup [.int (i:Nat),x]),
  λi H=>∃b,SqL K H a b/\b.length<=i⟩
def EnSt(e it a:zW)(i:Nat)(h:yA):Prop:=(∃b,IsEnum h e it (i:Nat) b)/\h.IsListIter it a i
theorem Fi{e:zW}(O:e≠it):mI P w K (.Tuple elts kk pos) (qe K a) [e,it] e (EnSt e it a) where
 mem:=by simp
 obj:=λi h j c b=>by
  obtain⟨⟨d,f⟩,l⟩:=j;simp only [gY,oD,or_false]at b;rcases b with rfl|rfl
  ·exact al _ f λv z=>by cases(show Data.fields _=Data.cell v from z)
  ·obtain⟨o,S,_,Q⟩:=l;exact al o S λv z=>by rw[Q]at z;cases z
 keep:=λi h C j k=>by obtain⟨⟨d,f⟩,l⟩:=j;exact⟨⟨d,k e (by simp) _ f⟩,l.at λo z=>k it (by simp) o z⟩
 item:=by
  intro X t L A b i m s Z H E I n j r;subst t L A;obtain⟨xs,x,p,M⟩:=r;obtain⟨D,F,y,_⟩:=I.list p;obtain⟨u,hu,Y⟩:=F.get M;obtain⟨⟨d,f⟩,l⟩:=j;refine wpAny_pyNext_enum_item f l y.isList (x:=u) (by simpa using hu) O λC W z2 U z4 G=>?_;refine al _ rfl (wpAny_letOwnedTupleGo_enum (s:={s with heap:=C,toks:=s.toks+1}) W λg zg J=>?_)
  have N:s.heap.objs.size≠e:=kd (gN f);have n2:it<s.heap.objs.size:=let⟨_,q,_⟩:=l;gN q;have R:g.get? s.heap.objs.size=some {cls:=.type "tuple",data:=.seq #[.int i s.toks,u]}:=J.extBut _ _ N U
  have I1:Inv X m Z (upd H s.heap.objs.size (.tup [.int (i:Nat),x])) {s with heap:=g,toks:=s.toks+1}:=I.turnedNew (ts:=[e,it]) (λc o b q=>by
   simp only [gY,oD,or_false,not_or]at b
   exact J.extBut _ _ b.1 (G c o b.1 b.2 q)) n (gf _) (pi (by show 2<=sizeLine;decide) [.int i s.toks,u] (.cons ⟨_,rfl⟩ (.cons Y .nil)) _ R rfl _ rfl)
  refine⟨.ref s.heap.objs.size,_,I1,rfl,⟨_,I.hok.fresh (gf _),rfl,x,λzs T=>by rw[I.list_inj T p];exact M,rfl⟩,⟨⟨_,zg⟩,z2.at λo q=>J.extBut _ _ O.symm q⟩,λc b=>?_⟩
  have B:c≠s.heap.objs.size:=by
   simp only [gY,oD,or_false]at b;rcases b with rfl|rfl
   ·exact N.symm
   ·exact jq n2
  rw[dF B];exact(n c b).1
 done:=by
  intro X t L A b i m s Z H E I n j r;subst t L A;obtain⟨xs,p,M⟩:=r;obtain⟨D,F,y,_⟩:=I.list p;have e1:=F.length;obtain⟨⟨d,f⟩,l⟩:=j;refine wpAny_pyNext_enum_end b f l y.isList (by simp;lia) λC G=>⟨rfl,?_⟩
  exact I.turnedL (t':=s.toks) (ts:=[e,it]) (λc o b q=>by
   simp only [gY,oD,or_false,not_or]at b
   exact G c o b.2 q) n
 self:=λ_ _ _ _ _ j h=>by obtain⟨⟨d,f⟩,_⟩:=j;exact wpAny_pyIter_enum f h
def Bl(K:Frag)(ta:TA):TI:=λZ H R=>ta Z H λc b=>∃a d,c=[.ref a]/\SqL K b a d/\R (qe K a) b
theorem sf{a:yC}{ta:TA}{p:Pos}(o:Gl X "enumerate")(n:X.mg "enumerate"=none)(v:PA X [a] ta)(k:starEach [a] X.env=[(false,eval a X.env)]:=by rfl):
  PI X (.Tuple elts kk tpos) (.Call (.Name "enumerate" p) [a] [] pos) (Bl X.K ta):=by
 intro b s Z H R I h;refine Call_ (nF I o n boot_enumerate (PyProof.Rows.callWith_type1 (thn (v pos b s Z H _ I h) ?_) (by rw[k];rfl) (by rfl)));rintro G f ⟨C,g,I1,r,m⟩;obtain⟨l,J,e,B,q⟩:=m;subst e;obtain⟨u,rfl,w⟩:=mR r;cases w;obtain⟨y,F,t,_⟩:=I1.list B;refine call_enumerate_list t.isList λx i A D z=>wpAny_pyIter_enum i ?_;have I2:Inv X b Z g {f with heap:=x}:=I1.kept (t':=f.toks) z;refine i12 _ [f.heap.objs.size+1,f.heap.objs.size] _ _ g rfl I2 (Fi (kd (Nat.lt_succ_self _))) ⟨⟨_,i⟩,A⟩ (λc j=>?_) q
 have d:f.heap.objs.size<=c:=by
  simp only [gY,oD,or_false]at j;rcases j with rfl|rfl
  ·exact Nat.le_succ _
  ·exact gf _
 exact I1.fpOk d (I1.hok.fresh d)
theorem sL{xs:zM}(Pv:Nat->St->Hp->Prop)(n:Pv 0 Z H)(j:∀i Z H,Pv i Z H->SqL K H a xs)
  (d:∀i x Z H p,xs[i]?=some x->Pv i Z H->H p=none->g (.ref p) Z (upd H p (.tup [.int (i:Nat),x])) λZ2 H2=>tb {D with nx:=Pv (i+1),ct:=Pv (i+1),bk:=D.nx} Z2 H2) (h:∀Z H,Pv xs.length Z H->D.nx Z H):
  ∃W:Nat->Nat->St->Hp->Prop,(∃m,W 0 m Z H)/\∀i m Z H,W i m Z H->
   ((qe K a).stop i H/\D.nx Z H)\/((qe K a).go i H/\∃N:St->Hp->Prop,(∀Z' H',N Z' H'->∃b,b<m/\W (i+1) b Z' H')/\∀x H',(qe K a).yld i H x H'->g x Z H' λZ2 H2=>tb {D with nx:=N,ct:=N,bk:=D.nx} Z2 H2):=by
 refine al (λi m Z H=>m=xs.length-i/\i<=xs.length/\Pv i Z H) (fV xs.length (by simp) (iG _) n) ?_;rintro i m Z H ⟨rfl,o,p⟩;have q:=j i Z H p;by_cases hlt:i<xs.length
 ·refine .inr (gF (iy xs _ q (hB hlt)) (Pv (i+1)) (λZ' H' k=>(iV (xs.length-(i+1)) (by lia) rfl hlt k)) λv H' y=>?_);obtain⟨c,l,rfl,x,f,rfl⟩:=y;exact d i x Z H c (f xs q) p l
 ·have e:i=xs.length:=by lia
  subst e;exact .inl ⟨(al xs q (gf _)),h Z H p⟩
def mP(v d:zW):HO:=.ext λh=>h.IsValuesView v d
theorem yH{v:zW}(e:h.IsValuesView v d):A1g P w H h v (mP v d):=(fY e (let⟨o,a,_⟩:=e;⟨o,a⟩) (by rintro f c ⟨o,a,b⟩ k;exact al o (k o a) b))
def Dc:V->List V->Hp->VK->Prop:=λx c H Q=>∃a b,x=.ref a/\c=[]/\H a=some (.dK b)/\∀p,H p=none->Q (.ref p) (upd H p (mP p a))
theorem Gi:MtR X "dict.values" Dc:=by intro f s Z H x r v p Q I k j h;obtain⟨a,d,rfl,rfl,i,q⟩:=h;cases k;cases j;obtain⟨n,g,l,m,c⟩:=(show A1g X.prog X.w H s.heap a (.dK d) from I.hok a _ i);refine call_meetsIn PySem.F.slot_dict_values c.typeIs PySem.F.entry_dict_values (PySem.F.args_dict_values_1 _) (meets_dict_values (ia X.prog X.w) a g) ⟨⟨l,c⟩,?_⟩;exact el (.ref s.heap.objs.size) _ (I.laid (t':=s.toks) (o:=mP s.heap.objs.size a) (λb u e=>gk _ e) (gf _) (yH (fV _ (ig _ rfl) rfl rfl))) rfl (q _ (I.hok.fresh (gf _)))
def qa(a:zW)(o:Obj)(kvs:zJ):It :=⟨λi H=>H a=some (.frz o (.dK kvs))/\i<kvs.length,λi H x b=>b=H/\∃k,kvs[i]?=some (k,x),λi H=>H a=some (.frz o (.dK kvs))/\i=kvs.length⟩
theorem HY(it a:zW)(o:Obj)(kvs:zJ)(es:Array DictEntry)(ep:Nat)(N:o.data=.dict es ep):
  mI P w K tg (qa a o kvs) [it] it (λi h=>h.IsValIter it a i kvs.length ep) where
 mem:=by simp
 obj:=λi h f b m=>by
  have e:b=it:=by simpa using m
  subst e;obtain⟨l,e,_,d⟩:=f;exact al l e λv z=>by rw[d]at z;cases z
 keep:=λi h q f k=>f.at λl e=>k it (by simp) l e
 item:=by
  intro X B L C Q i j s Z H E I t f y;subst B L C;obtain⟨F,O⟩:=y;obtain⟨A,M,W,D,J,x⟩:=t it (by simp);obtain⟨_,R,g,G⟩:=se I.hok F N;have r:=g.length;obtain⟨⟨k,v⟩,hkv⟩:∃p,kvs[i]?=some p:=⟨kvs[i],by simp[O]⟩;obtain⟨u,U,T⟩:=g.at hkv;rw[r]at f;refine wpAny_pyNext_values_item f G U λq n Y=>?_;have I1:Inv X j Z H {s with heap:=q,toks:=s.toks}:=I.turned (t':=s.toks) (λb l m e=>(Y.2 b m).trans e) A M D J x
  obtain⟨l,e,c,d⟩:=id n;exact al u rfl (nz (s:={s with heap:=q}) e c d (by decide) (ij v H I1 T (iN rfl k hkv) (by rw[r];exact n) λb m=>(t b m).1))
 done:=by intro X B L C Q i j s Z H E I t f y;subst B L C;obtain⟨F,O⟩:=y;obtain⟨A,M,W,D,J,x⟩:=t it (by simp);obtain⟨_,R,g,G⟩:=se I.hok F N;have r:=g.length;rw[r]at f;exact wpAny_pyNext_values_end Q f G (by simp;lia) λq S=>⟨rfl,I.turned (t':=s.toks) (λb l m e=>S b l m e) A M D J x⟩
 self:=λ_ _ _ _ _ f h=>wpAny_pyIter_valiter f h
def DC(tl:TE):TI:=λZ H R=>tl Z H λx c=>∃v a b,x=.ref v/\c v=some (mP v a)/\c a=some (.dK b)/\∀o,R (qa a o b) (upd c a (.frz o (.dK b)))
theorem Fu{l:yC}(C:PE X l tl):PI X tg l (DC tl):=by
 intro c s Z H R I h;refine thn (C c s Z H _ I h) ?_;rintro u d p;refine mG p ?_;clear p;rintro x t I1 D v a g ⟨z,A,f,q⟩;subst z;cases D;obtain⟨y,_⟩:=(show A1g X.prog X.w t d.heap v (mP v a) from I1.hok v _ A);refine jR (oI I1.hok f) ?_;rintro K J m i o n ep k ⟨G,j,r⟩;have F:d.heap.DictAt (ia X.prog X.w) a m ep:=(im o n k G j r);refine wpAny_pyIter_values y F ?_;have I2:Inv X c Z t {d with heap:=d.heap.push {cls:=.type "dict_valueiterator",data:=.fields #[.ref a,.int 0 0,.int m.length 0,.int ep 0]},toks:=d.toks}:=I1.kept λb L e=>gk _ e
 have I3:=I2.frozen f (gk _ k);refine i12 _ [d.heap.objs.size] _ _ _ rfl I3 (HY _ a o g n ep j) ?_ (λb B=>?_) (q o)
 ·rw[i.length];exact fV _ (ig _ rfl) rfl rfl
 ·have e:b=d.heap.objs.size:=by simpa using B
  subst e;refine I1.fpOk (gf _) ?_;rw[dF (kd (I1.hok.lt f))];exact I1.hok.fresh (gf _)
theorem GE(Pv:Nat->St->Hp->Prop)(j:Pv 0 Z H)(c:∀i Z H,Pv i Z H->H a=some (.frz o (.dK kvs)))
  (d:∀i k v Z H,kvs[i]?=some (k,v)->Pv i Z H->g v Z H λZ2 H2=>tb {D with nx:=Pv (i+1),ct:=Pv (i+1),bk:=D.nx} Z2 H2) (f:∀Z H,Pv kvs.length Z H->D.nx Z H):
  ∃W:Nat->Nat->St->Hp->Prop,(∃m,W 0 m Z H)/\∀i m Z H,W i m Z H->
   ((qa a o kvs).stop i H/\D.nx Z H)\/((qa a o kvs).go i H/\∃N:St->Hp->Prop,(∀Z' H',N Z' H'->∃b,b<m/\W (i+1) b Z' H')/\∀x H',(qa a o kvs).yld i H x H'->g x Z H' λZ2 H2=>tb {D with nx:=N,ct:=N,bk:=D.nx} Z2 H2):=by
 refine al (λi m Z H=>m=kvs.length-i/\i<=kvs.length/\Pv i Z H) (fV kvs.length (by simp) (iG _) j) ?_;rintro i m Z H ⟨rfl,n,p⟩;by_cases hlt:i<kvs.length
 ·refine .inr (gF ⟨c i Z H p,hlt⟩ (Pv (i+1)) (λZ' H' l=>(iV (kvs.length-(i+1)) (by lia) rfl hlt l)) λx H' y=>?_);obtain⟨e,k,h⟩:=y;subst e;exact d i k x Z _ h p
 ·have e:i=kvs.length:=by lia
  subst e;exact .inl ⟨⟨c _ Z H p,rfl⟩,f Z H p⟩
def qh(h:yA)(d:zW)(es:Array DictEntry)(ep:Nat):Prop:=∃o,h.get? d=some o/\o.ExactDict/\o.data=.dict es ep
theorem HJ(d:zW)(b:(d==sysModules)=false):
  MeetsIn prog w (Builtin.«dict.values» ⟨[.ref d],[]⟩) (λ_ R s=>s.TypeIs (.ref d) "dict"/\R (.ok (.ret (.ref s.heap.objs.size))) {s with heap:=s.heap.push {cls:=.type "dict_values",data:=.fields #[.ref d]}}):=
 .of_wp λA R s ⟨a,q⟩=>by unfold Builtin.«dict.values»;refine dh ?_;unfold Builtin.Dict.noArgs;refine dh (wpAny_notOrdered_dict a ?_);show wpAny _ _ (pure d) _ _ s;refine eh ?_;show wpAny _ _ (Builtin.Dict.showsAll d>>=_) _ _ s;unfold Builtin.Dict.showsAll;rw[ej (by rw[b];exact hX)];exact dh (eh (dh (lG (eh (al _ rfl q)))))
theorem Ic{v:zW}{Q:zA}(h1:s.heap.IsValuesView v d)(h2:qh s.heap d es ep)
  (q:Q (.ref s.heap.objs.size) {s with heap:=s.heap.push {cls:=.type "dict_valueiterator",data:=.fields #[.ref d,.int 0 0,.int es.size 0,.int ep 0]}}):wpAny (model prog w) A (pyIter (.ref v)) Q E s:=by
 obtain⟨f,e,h,c⟩:=id h1;obtain⟨g,a,_,b⟩:=h2;refine wpAny_pyIter_slot h1.typeIs F.slot_dict_values_iter (ke F.slot_dict_values_iter h1.typeIs F.entry_dict_values_iter ?_ (F.args_dict_values_iter_1 _));unfold Builtin.«dict_values.__iter__»;refine dh (eh (dh ?_));unfold Builtin.Dict_items.dictOf;refine dh (jf e c (x:=.ref d) rfl (eh (dh ?_)));unfold Builtin.Dict_items.newIterator;refine dh (wpAny_dictEntries a b (dh (wpAny_dictEpoch a b ?_)));simp only [show Builtin.Dict_items.ownsTuple "dict_valueiterator"=false by decide,Bool.false_eq_true,if_false];refine lG (eh (gr _ rfl "dict_valueiterator" _ (al _ (ig _ rfl) rfl) F.slot_dict_valueiterator_next.lookup ?_))
 simpa[rawInt]using q
theorem HW{e:DictEntry}(h1:s.heap.IsValIter it d i es.size ep)(h2:qh s.heap d es ep)(k:es[i]?=some e)
  (q:∀h',h'.IsValIter it d (i+1) es.size ep->Heap.SameBut it s.heap h'->Q (some e.val) {s with heap:=h'}):wpAny (model prog w) A (pyNext (.ref it)) Q E s:=by
 obtain⟨o,g,l,f⟩:=id h1;obtain⟨m,h,_,j⟩:=h2;have c:=h1.typeIs;unfold pyNext;refine dh (wpAny_attempt (lR (name:=Str.ofString "__next__") c F.slot_dict_valueiterator_next (ke F.slot_dict_valueiterator_next c F.entry_dict_valueiterator_next ?_ (F.args_dict_valueiterator_next_1 _))));refine dh (eh (dh (dh ?_)));refine dh (wpAny_typeNameOfWhole_valiter c (eh (dh (wpAny_fieldsOf g f ?_))));simp only [show Builtin.Dict_items.ownsTuple "dict_valueiterator"=false by decide,Bool.false_eq_true,if_false];show wpAny _ _ (ite ((Value.ref d==Value.none)=true) _ _) _ _ _;rw[ej (show¬((Value.ref d==Value.none)=true) from hX)];refine dh (eh (dh (wpAny_dictEntries h j ?_)));rw[ej (by simp)];refine dh (eh (dh (wpAny_dictEpoch h j ?_)));rw[ej (by simp)];refine eh ?_;simp only [show¬((i:Int)<0) from by lia,if_false,Int.toNat_natCast,k];refine dh (dh (wpAny_typeNameOfWhole_valiter c (eh (dh (wpAny_isOneOf_valiter c ?_)))));show wpAny _ _ (setField (.ref it) 1 (rawInt ((i:Int)+1))>>=_) _ _ s;refine dh (nr g f (by simp) ?_)
 have a:(s.heap.update it (Obj.mapFields (·.setIfInBounds 1 (rawInt ((i:Int)+1))))).IsValIter it d (i+1) es.size ep :=(fV _ (py _ g (Obj.isFreed_of_fields (Obj.data_mapFields f _))) ((Obj.cls_mapFields ..).trans l) (by rw[Obj.data_mapFields f];simp[rawInt]))
 have b:Shared.TypeIs {s with heap:=s.heap.update it (Obj.mapFields (·.setIfInBounds 1 (rawInt ((i:Int)+1))))} (.ref it) "dict_valueiterator":=a.typeIs;refine dh (kM (dh (wpAny_isOneOf_valiter b (dh (wpAny_isOneOf_valiter b ?_)))));show wpAny _ _ (pure e.val) _ _ _;exact eh (eh (al _ rfl (eh (q _ a (Heap.SameBut.update ..)))))
theorem GS(j:A.handled=none)(h1:s.heap.IsValIter it d i es.size ep)(h2:qh s.heap d es ep)(k:es.size<=i)
  (q:∀h',Heap.ExtBut it s.heap h'->Q none {s with heap:=h'}):wpAny (model prog w) A (pyNext (.ref it)) Q E s:=by
 obtain⟨o,h,n,f⟩:=id h1;obtain⟨l,e,_,g⟩:=h2;have c:=h1.typeIs;unfold pyNext;refine dh (wpAny_attempt (lR (name:=Str.ofString "__next__") c F.slot_dict_valueiterator_next (ke F.slot_dict_valueiterator_next c F.entry_dict_valueiterator_next ?_ (F.args_dict_valueiterator_next_1 _))));refine dh (eh (dh (dh ?_)));refine dh (wpAny_typeNameOfWhole_valiter c (eh (dh (wpAny_fieldsOf h f ?_))));simp only [show Builtin.Dict_items.ownsTuple "dict_valueiterator"=false by decide,Bool.false_eq_true,if_false];show wpAny _ _ (ite ((Value.ref d==Value.none)=true) _ _) _ _ _;rw[ej (show¬((Value.ref d==Value.none)=true) from hX)];refine dh (eh (dh (wpAny_dictEntries e g ?_)));rw[ej (by simp)];refine dh (eh (dh (wpAny_dictEpoch e g ?_)));rw[ej (by simp)];refine eh ?_;simp only [show¬((i:Int)<0) from by lia,if_false,Int.toNat_natCast,Array.getElem?_eq_none k];refine dh (dh (wpAny_typeNameOfWhole_valiter c (eh ?_)));show wpAny _ _ (setField (.ref it) 0 .none>>=_) _ _ _;refine dh (nr h f (by simp) ?_);show wpAny _ _ (newExc (.type "StopIteration") []>>=_) _ _ (_:zY);refine dh ?_;simp only [newExc,newTuple];refine dh (lG (dh (m:=firstArgMember _ _) (wpAny_of_eq (a:=Value.none) (by first|rfl|(simp only [firstArgMember];rfl)) (lG ?_ (by size_fits)))) (by size_fits));simp only [raiseNew];refine dh (wpAny_handled ?_);rw[show A.in1.handled=none from j];refine dh (eh (wpAny_throw ?_));refine dh (wpAny_isInstance (T:="StopIteration") (b:=true) (al _ (ig _ rfl) rfl) isSubtype_stop (eh ?_));exact q _ (((Heap.SameBut.update ..).extBut.push _).push _)
def wy(H:Hp)(a:zW)(vs:zM):Prop:=(∃b,Rd H a (.dK b)/\vs=b.map (·.2))\/∃b,Rd H a (.dT b)/\vs=b.map (·.2)
theorem wP:∀{kvs:zJ}{a:List (Key×zX)},KV kvs a->A2f (kvs.map (·.2)) (a.map (·.2))|_,_,.nil=>.nil|_,_,.cons r t=>.cons r.2 (wP t)
theorem xg{P:yB}{w:yD}{H:Hp}:∀{kvs:List (List Key×V)}{xs:List (List Key×zW×zX)},Paired (λ(p:List Key×V)(q:List Key×zW×zX)=>p.1=q.1/\H q.2.1=some (.tup (p.1.map kV))/\A2c p.2 q.2.2) kvs xs->
  A2f (kvs.map (·.2)) (xs.map ((λx:DictEntry=>x.val)∘entryOfKey (tupleKind (ia P w))))
 |_,_,.nil=>.nil
 |_,_,.cons r t=>.cons r.2.2 (xg t)
theorem vy{vs:zM}(I:Inv X pins Z H s)(h:wy H a vs):
  vs.length<=sizeLine/\(a==sysModules)=false/\∃es ep,qh s.heap a es ep/\A2f vs (es.toList.map (·.val)):=by
 rcases h with ⟨d,e,rfl⟩|⟨d,e,rfl⟩
 ·refine jR (n4 I.hok e) ?_;rintro z f b c o es ep j ⟨l,g,u,p,t⟩;refine⟨by rw[eH];exact z,(kc f es ep (fV o j l g) ?_)⟩
  have:es.toList.map (·.val)=b.map (·.2):=List.ext_getElem? λi=>by
   rw[gP,gP];have r:=p.length;by_cases hi:i<es.toList.length
   ·have k:i<b.length:=by lia
    have n:es.toList[i]?=some es.toList[i]:=hB hi;have m:b[i]?=some b[i]:=hB k;rw[n,m];have:=(p.get? (i:=i) (e:=es.toList[i]) n (show b[i]?=some (b[i].1,b[i].2) from m)).2;show some es.toList[i].val=some b[i].2;rw[this]
   ·rw[List.getElem?_eq_none (by lia),List.getElem?_eq_none (by lia)];rfl
  rw[this];exact wP c
 ·refine jR (show A1g X.prog X.w H s.heap a (.dT d) from tZ I.hok e) ?_;rintro z f v c o es ep j ⟨l,g,q,_⟩;refine⟨by rw[eH];exact z,(kc f es ep (fV o j l g) ?_)⟩;rw[q,List.map_map];exact xg c
def Fd:V->List V->Hp->VK->Prop:=λx b H Q=>∃a c,x=.ref a/\b=[]/\wy H a c/\∀p,H p=none->Q (.ref p) (upd H p (mP p a))
theorem Ho:MtR X "dict.values" Fd:=by intro d s Z H x w v n Q I k i h;obtain⟨a,p,rfl,rfl,g,q⟩:=h;cases k;cases i;obtain⟨_,f,t,r,⟨o,j,l,m⟩,_⟩:=vy I g;have c:s.TypeIs (.ref a) "dict":=(al o j l.1);refine call_meetsIn PySem.F.slot_dict_values c PySem.F.entry_dict_values (PySem.F.args_dict_values_1 _) (HJ a f) ⟨c,?_⟩;exact el (.ref s.heap.objs.size) _ (I.laid (t':=s.toks) (o:=mP s.heap.objs.size a) (λb u e=>gk _ e) (gf _) (yH (fV _ (ig _ rfl) rfl rfl))) rfl (q _ (I.hok.fresh (gf _)))
abbrev oO(h:yA)(z TI TO:zW)(a:zX)(b:Bool):Prop :=h.get? z=some {cls:=.type "zip",dict:=none,data:=.fields #[a,.bool b,.bool false,.ref TI,.ref TO],slots:=#[]}
theorem Ih{Q:Option Obj->zY->Prop}(h:Q (s.heap.get? a) s):wpAny (model prog w) A (loadIfAlive a) Q E s:=λΓ p _=>by show PySem.Sem.wp _ Γ (.loadIfAlive a .pure) _ _ p s;rw[PySem.Sem.wp];exact h
theorem Ap{TI TO:zW}{b:Bool}{Q:Bool->zY->Prop}(hz:oO s.heap z TI TO (rawInt (p:Int)) b)(a:s.heap.get? p=some o)
  (q:∀h',oO h' z TI TO (rawInt (p:Int)) true->Heap.SameBut z s.heap h'->Q false {s with heap:=h'}):wpAny (model prog w) A (Builtin.SmallTypes.ownedTupleIsFree (.ref z)) Q E s:=by
 unfold Builtin.SmallTypes.ownedTupleIsFree;refine dh (jf hz rfl (x:=rawInt (p:Int)) rfl ?_);show wpAny _ _ (loadIfAlive (Int.toNat (p:Int))>>=_) _ _ _;refine dh (Ih ?_);rw[Int.toNat_natCast,a];show wpAny _ _ (field (.ref z) 1>>=_) _ _ _;refine dh (jf hz rfl (x:=.bool b) rfl ?_)
 cases b with
 |true=>show wpAny _ _ (pure false) _ _ _;exact eh (q s.heap hz ⟨rfl,λ_ _=>rfl⟩)
 |false=>show wpAny _ _ (setField (.ref z) 1 (.bool true)>>=_) _ _ _;refine dh (mj hz (by simp) λe c d=>?_);exact eh (q e c d)
section
variable{TI TO:zW}
theorem Ek(N1:Nx i1 l1 st1 src1)(N2:Nx i2 l2 st2 src2){x:zX}{b:Bool}(D:ZipApart z TI TO i1 i2 l1 l2)
  (hz:oO s.heap z TI TO (rawInt (p:Int)) b) (G:s.heap.get? p=some o) (j:IsPair s.heap TI (.ref i1) (.ref i2)) (h1:st1 k1 s.heap) (h2:st2 k2 s.heap) (m:src1 xs s.heap) (k:src2 ys s.heap) (J:xs[k1]?=some x) (K:ys[k2]?=some y)
  (v:∀h',oO h' z TI TO (rawInt (p:Int)) true->st1 (k1+1) h'->st2 (k2+1) h'->IsPair h' s.heap.objs.size x y->
   (∀c o,c≠z->c≠i1->c≠i2->s.heap.get? c=some o->h'.get? c=some o)->Q (some (.ref s.heap.objs.size)) {s with heap:=h'}):wpAny (model prog w) A (pyNext (.ref z)) Q E s:=by
 have q:s.TypeIs (.ref z) "zip":=(al _ hz rfl);unfold pyNext;refine dh (wpAny_attempt (lR (name:=Str.ofString "__next__") q F.slot_zip_next (ke F.slot_zip_next q F.entry_zip_next ?_ (F.args_zip_next_1 _))));show wpAny _ _ (field (.ref z) 2>>=_) _ _ _;refine dh (jf hz rfl (x:=.bool false) rfl ?_);show wpAny _ _ (field (.ref z) 3>>=_) _ _ _;refine dh (jf hz rfl (x:=.ref TI) rfl ?_);refine dh (lE j rfl ?_);show wpAny _ _ (Builtin.SmallTypes.ownedTupleIsFree (.ref z)>>=_) _ _ _;refine dh (Ap hz G λM C d=>?_);simp only [Bool.false_eq_true,if_false];refine dh ?_;simp only [<-Array.forIn_toList,List.forIn_cons,List.forIn_nil];refine dh (dh (kM ?_));show wpAny _ _ (Builtin.SmallTypes.nextOf (.ref i1)>>=_) _ _ _;refine dh (N1.item (N1.mv h1 λo e=>d.extBut _ _ D.i1z e) (N1.mvS m λo e=>d.extBut _ _ D.l1z e) J λL t f=>eh (eh ?_));refine dh (dh (kM ?_));show wpAny _ _ (Builtin.SmallTypes.nextOf (.ref i2)>>=_) _ _ _;refine dh (N2.item (N2.mv h2 λo e=>f.extBut _ _ D.i12.symm (d.extBut _ _ D.i2z e)) (N2.mvS k λo e=>f.extBut _ _ D.l2i1 (d.extBut _ _ D.l2z e)) K λg3 I g=>eh (eh (eh ?_)));have a:g3.objs.size=s.heap.objs.size:=by rw[g.1,f.1,d.1]
 have u:z<g3.objs.size:=by rw[a];exact gN hz
 show wpAny _ _ (newTuple [x,y]>>=_) _ _ _;refine dh (wpAny_newTuple ?_);have B:oO g3 z TI TO (rawInt (p:Int)) true:=g.extBut _ _ D.i2z.symm (f.extBut _ _ D.i1z.symm C);have H:∀c o,c≠z->c≠i1->c≠i2->s.heap.get? c=some o->g3.get? c=some o:=λc o h i l e=>g.extBut _ _ l (f.extBut _ _ i (d.extBut _ _ h e));have r:st1 (k1+1) g3:=N1.mv t λo e=>g.extBut _ _ D.i12 e;have n:IsPair (g3.push {cls:=.type "tuple",data:=.seq #[x,y]}) g3.objs.size x y:=ig _ rfl;rw[a]at n;refine eh (al _ rfl (eh ?_));show Q (some (.ref g3.objs.size)) _;rw[a];exact v _ (gk _ B) (N1.mv r λo e=>gk _ e) (N2.mv I λo e=>gk _ e) n λc o h i l e=>gk _ (H c o h i l e)
theorem Di(N1:Nx i1 l1 st1 src1)(N2:Nx i2 l2 st2 src2){b:Bool}(u:A.handled=none)(D:ZipApart z TI TO i1 i2 l1 l2)
  (hz:oO s.heap z TI TO (rawInt (p:Int)) b) (H:s.heap.get? p=some o) (l:IsPair s.heap TI (.ref i1) (.ref i2)) (h1:st1 k1 s.heap) (h2:st2 k2 s.heap) (n:src1 xs s.heap) (m:src2 ys s.heap) (f:xs[k1]?=none\/ys[k2]?=none)
  (C:∀h',(∀c o,c≠z->c≠i1->c≠i2->s.heap.get? c=some o->h'.get? c=some o)->Q none {s with heap:=h'}):wpAny (model prog w) A (pyNext (.ref z)) Q E s:=by
 have q:s.TypeIs (.ref z) "zip":=(al _ hz rfl);unfold pyNext
 have d:∀(h':yA)(e:zW),(∀c o,c≠z->c≠i1->c≠i2->s.heap.get? c=some o->h'.get? c=some o)->(∃o,h'.get? e=some o/\o.cls=.type "StopIteration")->
   wpAny (model prog w) A (isInstance (.ref e) (.type "StopIteration")>>=λb=>if b=true then pure none else throw (.ref e)) Q E {s with heap:=h'}:=λh' e J ⟨o,y,I⟩=>
  dh (wpAny_isInstance (T:="StopIteration") (b:=true) (al o y I) isSubtype_stop (eh (C _ J)))
 refine dh (wpAny_attempt (lR (name:=Str.ofString "__next__") q F.slot_zip_next (ke F.slot_zip_next q F.entry_zip_next ?_ (F.args_zip_next_1 _))));show wpAny _ _ (field (.ref z) 2>>=_) _ _ _;refine dh (jf hz rfl (x:=.bool false) rfl ?_);show wpAny _ _ (field (.ref z) 3>>=_) _ _ _;refine dh (jf hz rfl (x:=.ref TI) rfl ?_);refine dh (lE l rfl ?_);show wpAny _ _ (Builtin.SmallTypes.ownedTupleIsFree (.ref z)>>=_) _ _ _;refine dh (Ap hz H λO M a=>?_);simp only [Bool.false_eq_true,if_false];refine dh ?_;simp only [<-Array.forIn_toList,List.forIn_cons,List.forIn_nil];refine dh (dh (kM ?_));show wpAny _ _ (Builtin.SmallTypes.nextOf (.ref i1)>>=_) _ _ _;have r:=N1.mv h1 λo e=>a.extBut _ _ D.i1z e;have v:=N1.mvS n λo e=>a.extBut _ _ D.l1z e
 cases hx:xs[k1]? with
 |none=>refine dh (N1.fin u r v hx λt e g i=>?_);exact d t e (λc o j k _ x=>g _ _ k (a.extBut _ _ j x)) i
 |some x=>
  have L:ys[k2]?=none:=by
   rcases f with h|h
   ·rw[hx]at h;cases h
   ·exact h
  refine dh (N1.item r v hx λt N g=>eh (eh ?_));refine dh (dh (kM ?_));show wpAny _ _ (Builtin.SmallTypes.nextOf (.ref i2)>>=_) _ _ _;refine dh (N2.fin u (N2.mv h2 λo e=>g.extBut _ _ D.i12.symm (a.extBut _ _ D.i2z e)) (N2.mvS m λo e=>g.extBut _ _ D.l2i1 (a.extBut _ _ D.l2z e)) L λB e K i=>?_);exact d B e (λc o j k G x=>K _ _ G (g.extBut _ _ k (a.extBut _ _ j x))) i
end
def ZS(z TI TO i1 i2 a b d:zW)(i:Nat)(h:yA):Prop:=IsPair h TI (.ref i1) (.ref i2)/\h.IsListIter i1 a i/\h.IsTupleIter i2 b i/\
 ((IsZip h z TI TO .none/\∃u v,IsPair h TO u v)\/∃(p:zW)(o:Obj)(c:Bool),oO h z TI TO (rawInt (p:Int)) c/\h.get? p=some o/\p≠z/\p≠i1/\p≠i2/\p≠d)
theorem ZS.at{TI TO:zW}(x:ZS z TI TO i1 i2 a b d i h)(k:z≠d)(t:TI≠d)(B:TO≠d)(s:i1≠d)(w:i2≠d)(f:∀c o,c≠d->h.get? c=some o->h'.get? c=some o):ZS z TI TO i1 i2 a b d i h':=by
 obtain⟨q,m,r,g⟩:=x;refine ip (f _ _ t q) ((oS i1 a).mv m λo e=>f _ _ s e) ((oZ i2 b).mv r λo e=>f _ _ w e) ?_;rcases g with ⟨g,u,v,j⟩|⟨p,o,y,g,j,C,n,A,l⟩
 ·exact .inl ⟨f _ _ k g,(jw u v (f _ _ B j))⟩
 ·exact .inr (nj p o y (f _ _ k g) (f _ _ l j) C n A l)
section
variable{TI TO:zW}
theorem DA{x:zX}(D:ZipApart z TI TO i1 i2 a b)(O:d<s.heap.objs.size)(hz:ZS z TI TO i1 i2 a b d i s.heap)(G:s.heap.IsList a xs)(F:s.heap.IsTuple b ys)(H:xs[i]?=some x)(J:ys[i]?=some y)
  (B:∀h',ZS z TI TO i1 i2 a b d (i+1) h'->IsPair h' s.heap.objs.size x y->(∀c o,c≠z->c≠TO->c≠i1->c≠i2->s.heap.get? c=some o->h'.get? c=some o)->Q (some (.ref s.heap.objs.size)) {s with heap:=h'}):
  wpAny (model prog w) A (pyNext (.ref z)) Q E s:=by
 obtain⟨j,l,n,f⟩:=hz;have L:i1<s.heap.objs.size:=let⟨_,e,_⟩:=(oS i1 a).ob l;gN e;have S:i2<s.heap.objs.size:=let⟨_,e,_⟩:=(oZ i2 b).ob n;gN e;rcases f with ⟨f,u,v,k⟩|⟨p,o,T,f,k,I,t,C,K⟩
 ·have P:z<s.heap.objs.size:=gN f;refine EE (oS i1 a) (oZ i2 b) D f j k l n G F H J λh' r U q m h g=>?_;exact B h' (ip (g _ _ D.TIz D.TITO D.TIi1 D.TIi2 j) q m (.inr (nj s.heap.objs.size _ false r h (kd P) (kd L) (kd S) (kd O)))) h g
 ·refine Ek (oS i1 a) (oZ i2 b) D f k j l n G F H J λh' r q m h g=>?_;exact B h' (ip (g _ _ D.TIz D.TIi1 D.TIi2 j) q m (.inr (nj p o true r (g _ _ I t C k) I t C K))) h λc o N _ R M e=>g c o N R M e
theorem CQ(q:A.handled=none)(D:ZipApart z TI TO i1 i2 a b)(hz:ZS z TI TO i1 i2 a b d i s.heap)(l:s.heap.IsList a xs)(k:s.heap.IsTuple b ys)(r:xs[i]?=none\/ys[i]?=none)
  (n:∀h',(∀c o,c≠z->c≠TO->c≠i1->c≠i2->s.heap.get? c=some o->h'.get? c=some o)->Q none {s with heap:=h'}):wpAny (model prog w) A (pyNext (.ref z)) Q E s:=by
 obtain⟨j,h,m,f⟩:=hz;rcases f with ⟨f,u,v,g⟩|⟨p,o,G,f,g,I,C,H,F⟩
 ·exact ET (e:=none) (q1:=true) (q2:=false) q (λ_ z=>nomatch z) D f j g h m l k r n
 ·exact Di (oS i1 a) (oZ i2 b) q D f g j h m l k r λh' y=>n h' λc o t _ x B e=>y c o t x B e
end
section
variable{prog:yB}{w:yD}{K:Type}[DecidableEq K]{knd:KeyKind prog w K}{A:zZ}{R:Result->zY->Prop}{z TI TO i1 i2 a b d:zW}{xs ys:zG}{rs:List (K×zX)}{h₀:yA}{g:Array GenState}{dr:Drawn}{os:OsState}
theorem FL(hh:A.handled=none)(D:ZipApart z TI TO i1 i2 a b)(S:z≠d)(n1:TI≠d)(W:TO≠d)(N:i1≠d)(O:i2≠d)(Y:a≠d)(nb:b≠d)(hsz:rs.length<=sizeLine)
  (pa:∀(i:Nat)(k:K)(u:zX),rs[i]?=some (k,u)->∃n,xs[i]?=some n/\ys[i]?=some u/\knd.is k n=true) (he:xs[rs.length]?=none\/ys[rs.length]?=none) (hl:h₀.IsList a xs) (ht:h₀.IsTuple b ys) (x:a≠TO) (X:a≠i1) (Z:a≠i2) (az:a≠z) (t:b≠TO) (b1:b≠i1) (b2:b≠i2) (bz:b≠z)
  (L:∀h' tk,h'.DictOf knd d (merged [] rs)->(∀c o,c≠z->c≠TO->c≠i1->c≠i2->c≠d->h₀.get? c=some o->h'.get? c=some o)->R (.ok (.ret .none)) ⟨h',g,dr,tk,os⟩):
  ∀(k i:Nat)(h:yA)(tk:Nat),rs.length-i=k->i<=rs.length->ZS z TI TO i1 i2 a b d i h->(∀c o,c≠z->c≠TO->c≠i1->c≠i2->c≠d->h₀.get? c=some o->h.get? c=some o)->h.DictOf knd d (merged [] (rs.take i))->
   codeAny (model prog w) A (.builtin "dict.update.loop" ⟨[.ref d,.ref z,rawInt i,.none],[]⟩) R ⟨h,g,dr,tk,os⟩:=by
 intro k
 induction k with
 |zero=>
  intro i h tk hk hi m l q;have j:i=rs.length:=by lia
  refine codeAny_builtin AF ?_;rw[Around.under_plainId tz _];show wpAny _ A.in1 (pyNext (.ref z)>>=_) _ _ _;refine dh (CQ (s:=⟨h,g,dr,tk,os⟩) (by simpa using hh) D m (hl.at λo e=>l a o az x X Z Y e) (let⟨o,e,r⟩:=ht;(al o (l b o bz t b1 b2 nb e) r)) (by rw[j];exact he) λh' f=>?_);show wpAny _ A.in1 (Builtin.Dict.addKeywords d []>>=λ_=>ret Value.none) _ _ _;rw[j,hQ]at q;obtain⟨C,Q,P,M,r⟩:=q;exact dh (eh (eh (L h' tk (jn C Q P (f d C S.symm W.symm N.symm O.symm M) r) λc o B F G v J e=>f c o B F G v (l c o B F G v J e))))
 |succ k ih=>
  intro i h tk hk hi m l q;have a0:i<rs.length:=by lia
  obtain⟨⟨k',u⟩,hku⟩:∃p,rs[i]?=some p:=⟨rs[i],hB _⟩;obtain⟨n,hx,hy,U⟩:=pa i k' u hku;refine codeAny_builtin AF ?_;rw[Around.under_plainId tz _];show wpAny _ A.in1 (pyNext (.ref z)>>=_) _ _ _;have ld:d<h.objs.size:=let⟨_,_,_,e,_⟩:=q;gN e;refine dh (DA (s:=⟨h,g,dr,tk,os⟩) D ld m (hl.at λo e=>l a o az x X Z Y e) (let⟨o,e,r⟩:=ht;(al o (l b o bz t b1 b2 nb e) r)) hx hy λh' zs I f=>?_);have I:IsPair h' h.objs.size n u:=I;have hT:(⟨h',g,dr,tk,os⟩:zY).TypeIs (.ref h.objs.size) "tuple":=(al _ I rfl);show wpAny _ A.in1 (holding [Value.ref h.objs.size] _>>=_) _ _ _;refine dh (kM (dh (wpAny_tryCatch ?_)));unfold Builtin.Dict.pairItems;refine dh (wpAny_typeOf hT ?_);rw[fW (by decide)];refine dh (lE I rfl (eh ?_));show wpAny _ A.in1 (holding [n,u] (dictSet d n u)) _ _ _
  have T:h'.DictOf knd d (merged [] (rs.take i)):=by obtain⟨C,Q,P,M,r⟩:=q;exact jn C Q P (f d C S.symm W.symm N.symm O.symm M) r
  have H:(merged [] (rs.take i)).length<=sizeLine:=by
   have e1:=merged_length_le ([]:List (K×zX)) (rs.take i);have e2:(rs.take i).length<=rs.length:=by rw[iP];lia
   simp only [nn,Nat.zero_add]at e1
   lia
  refine kM (wpAny_dictSet_pairs (hsz:=H) (s:=⟨h',g,dr,tk,os⟩) U T λh2 y sb=>?_);rw[<-merged_take_succ [] rs i (k',u) hku]at y;refine eh ⟨plainId_quiet tz _,ih (i+1) h2 _ (by lia) (by lia) (zs.at S n1 W N O λc o hc e=>(sb.2 c hc).trans e) ?_ y⟩;intro c E B F G v J e;exact(sb.2 c J).trans (f c E B F G v (l c E B F G v J e))
end
theorem Jq:typeLookup (.type "zip") "__getattr__"=pure none:=by rw[typeLookup_type,builtinLookup_eq_fast];kernel_rfl
theorem Js:entryFor table "zip.__getattribute__"=some Builtin.«object.__getattribute__» :=entryFor_alias (id':="object.__getattribute__") (by kernel_rfl) (by decide+kernel) (by decide+kernel) (by kernel_rfl)
theorem GI:typeLookup (.type "zip") "keys"=pure none:=by rw[typeLookup_type,builtinLookup_eq_fast];kernel_rfl
theorem Ja(a:zW)(fs:zG)(sl:zF)(name:Str)(u:Tok)(e:typeLookup (.type "zip") name=pure none)(b:(["__module__","__name__","__qualname__","__doc__","__annotations__"]:zC).contains name=false)(hsz:name.length+100<=sizeLine:=by size_fits):
  Meets (Builtin.«object.__getattribute__» ⟨[.ref a,.str name u],[]⟩) (λA R s=>s.heap.get? a=some {cls:=.type "zip",dict:=none,data:=.fields fs,slots:=sl}/\raisesAttr (.ref a) name A R s):=
 Meets.of_wp λf w A R s c=>by
  obtain⟨i,g,d,k,h⟩:=s;obtain⟨j,c⟩:=c;have l:(⟨i,g,d,k,h⟩:zY).TypeIs (.ref a) "zip":=(al _ j rfl);unfold Builtin.«object.__getattribute__»
  repeat (any_goals (first|assumption|wp_step))
  simp only [b,Bool.false_eq_true,if_false]
  repeat (any_goals (first|assumption|wp_step))
  exact wpAny_raiseAttrError c.1 c.2 (attrMsg_fits (by decide+kernel) hsz)
theorem Hk{fs:zG}
  (k:s.heap.get? a=some {cls:=.type "zip",dict:=none,data:=.fields fs,slots:=sl}) (n:A.handled=none)
  (h:∀h' tk,(∀b j,s.heap.get? b=some j->h'.get? b=some j)->Q none {s with heap:=h',toks:=tk}):wpAny (model prog w) A (getAttr? (.ref a) "keys") Q E s:=by
 obtain⟨m,g,d,tk,l⟩:=s;have i:∀c,(⟨m,g,d,c,l⟩:zY).TypeIs (.ref a) "zip":=λ_=>(al _ k rfl);have v:=sub_AttributeError;have p:=F.slot_zip_getattribute.lookup;have q:=F.slot_zip_getattribute.bind (.ref a);have o:=Jq;unfold getAttr? getAttrBy? getAttrBy
 repeat (any_goals (first|assumption|exact i _|((with_reducible show wpAny _ _ (call (Value.builtin "zip.__getattribute__") _ _) _ _ _);refine call_meets F.slot_zip_getattribute (i _) Js (F.args_zip_getattribute_2 _ _) (Ja a fs sl "keys" _ GI (by decide) (by decide)) (fY k n λh' c e f=>?_))|wp_step))
 obtain⟨r,u,t⟩:=f.there;show wpAny _ _ (getattributeRaised _ _ _ _ _ _ _) _ _ _;unfold getattributeRaised
 repeat (any_goals (first|assumption|wp_step))
 all_goals exact h _ _ f.1
def tDZ(K:Frag)(ta:TA):TE:=λZ H Q=>ta Z H λd a=>∃l t c b,d=[.ref l,.ref t]/\SqL K a l ((c:zU).map kV)/\SqT K a t b/\c.length=b.length/\∀p,a p=none->Q (.ref p) (upd a p (.dK (kG [] (c.zip b))))
theorem xi:∀{ks:zU}{us:zM}{vs:zH},ks.length=us.length->A2f us vs->KV (ks.zip us) (ks.zip vs)| [],[],_,_,.nil=>.nil|k::ks,u::us,_,h,.cons r t=>.cons ⟨rfl,r⟩ (xi (by simpa using h) t)
theorem x6{P:yB}{w:yD}:∀{ks:zU}{its:zH},A2f (ks.map kV) its->∀{i:Nat}{k:Key},ks[i]?=some k->∃v,its[i]?=some v/\(ia P w).is k v=true| [],_,.nil,i,k,h=>by simp at h|_::_,_,.cons r t,0,k,h=>by simp at h;subst h;exact al _ rfl (m5 r)|_::_,_,.cons r t,i+1,k,h=>by obtain⟨v,a,b⟩:=x6 (P:=P) (w:=w) t (i:=i) (k:=k) (by simpa using h);exact al v (by simpa using a) b
theorem Hd{a b:yC}{ta:TA}{x l:Pos}(hc:X.calm=true)(a2:Gl X "dict")(b2:X.mg "dict"=none)(a3:Gl X "zip")(a9:X.mg "zip"=none)(ha:PA X [a,b] ta)
  (R:starEach [.Call (.Name "zip" p2) [a,b] [] l] X.env=(false,eval (.Call (.Name "zip" p2) [a,b] [] l) X.env)::starEach [] X.env:=by rfl)
  (hs:starEach [a,b] X.env=[(false,eval a X.env),(false,eval b X.env)]:=by rfl) (M:starEach [b] X.env=[(false,eval b X.env)]:=by rfl):
  PE X (.Call (.Name "dict" p1) [.Call (.Name "zip" p2) [a,b] [] l] [] x) (tDZ X.K ta):=by
 intro O s Z H Q I h;have hh:X.A.handled=none:=I.ok.hd hc;refine wpAny_Call_Name_kw (nF I a2 b2 boot_dict ?_);refine PyProof.Rows.callWith_type1 ?_ R (by rfl);rw[R];show wpAny _ _ (spliced ((false,eval _ X.env)::backTo x (starEach [] X.env))) _ _ s;refine Calls.spliced_cons ?_;refine Call_ (nF I a3 a9 boot_zip (PyProof.Rows.callWith_type1 (thn (ha l O s Z H _ I h) ?_) (by rw[hs,M]) (by rw[M];rfl)));rintro us d ⟨vs,H1,I1,r1,t⟩;refine jd t λl1 l2 p ws e b1 b3 W q=>?_;clear t;subst e;obtain⟨u,u2,rfl,ru,a8⟩:=ub r1;cases ru;cases a8;obtain⟨a0,rv,B,zk⟩:=I1.list b1;obtain⟨j,S,G,_⟩:=I1.tuple b3;have L:l1<d.heap.objs.size:=let⟨_,e,_⟩:=B.isList;gN e;have J:l2<d.heap.objs.size:=G.lt;have e1:=rv.length;have e2:=S.length;rw[eH]at e1;have hn:=I1.hok.fresh (gf d.heap.objs.size);refine HC B.isList (show d.heap.IsTuple l2 j.toArray from G) λf zs kp=>Calls.spliced_nil ?_;obtain⟨hz,a1,⟨tu,tv,Y⟩,a7,a6⟩:=zs;have D:=zipApart_new L J;have lz:d.heap.objs.size+4<f.objs.size:=gN hz;refine callType_codes (Q₁:=λT s₁=>T=.ref f.objs.size/\s₁={d with heap:=f.push {cls:=.type "dict",data:=.dict #[]}}) F.kt_called_dict (F.kt_typeCall_dict_1 _) F.entry_dict_init (kt_code_dict_new (s:={d with heap:=f}) _ ⟨rfl,rfl⟩) ?_;rintro T s₁ ⟨rfl,rfl⟩;have n:(f.push {cls:=.type "dict",data:=.dict #[]}).DictOf (ia X.prog X.w) f.objs.size []:=Heap.DictOf.new f;have ez:(f.push {cls:=.type "dict",data:=.dict #[]}).get? (d.heap.objs.size+4)=some _:=gk _ hz;have b0:Shared.TypeIs {d with heap:=f.push {cls:=.type "dict",data:=.dict #[]}} (.ref (d.heap.objs.size+4)) "zip":=(al _ ez rfl);refine fY n.typeIs (F.args_dict_init_2 _ _) ?_;unfold Builtin.«dict.__init__»;refine dh ?_;unfold Builtin.Dict.selfAndRest;refine dh (wpAny_notOrdered_dict n.typeIs ?_);show wpAny _ _ (pure (f.objs.size,[Value.ref (d.heap.objs.size+4)])) _ _ _;refine eh ?_;show wpAny _ _ (Builtin.Dict.updateFrom "dict.__init__" f.objs.size (.ref (d.heap.objs.size+4)) [] .none) _ _ _;unfold Builtin.Dict.updateFrom;refine dh (wpAny_typeOf b0 ?_);rw[fW (by decide)];refine dh (Hk ez (by simpa using hh) λU a4 C=>?_)
 rw[fW (show(none:zN).isNone=true from rfl)];refine dh (wpAny_rule ?_);refine dh (wpAny_pyIter_zip (s:={d with heap:=U,toks:=a4}) (C _ _ ez) ?_);have v:∀c o,f.get? c=some o->U.get? c=some o:=λc o e=>C _ _ (gk _ e)
 have lr:(p.zip j).length=p.length:=by rw[List.length_zip];lia
 have t:∀i:Nat,i<=4->d.heap.objs.size+i≠f.objs.size:=λi hi z=>by lia
 have q2:∀c:Nat,c<d.heap.objs.size->c≠f.objs.size:=λc hc z=>by lia
 have m:∀c i:Nat,c<d.heap.objs.size->c≠d.heap.objs.size+i:=λc i hc z=>by lia
 have y:d.heap.objs.size<=f.objs.size:=by lia
 have z1:p.length<=sizeLine:=by rw[eH]at zk;exact zk
 refine eh ⟨plainId_quiet tz _,FL (knd:=ia X.prog X.w) (rs:=p.zip j) (xs:=a0.toArray) (ys:=j.toArray) (h₀:=U) (by simpa using hh) D (t 4 (by decide)) (t 2 (by decide)) (t 3 (by decide)) (t 0 (by decide)) (t 1 (by decide)) (q2 _ L) (q2 _ J) (by rw[lr];exact z1) (λi k u hr=>?_) ?_ (B.isList.at λo e=>v _ _ (kp _ _ e)) (let⟨o,e,r⟩:=G;(al o (v _ _ (kp _ _ e)) r)) (m _ 3 L) (m _ 0 L) (m _ 1 L) (m _ 4 L) (m _ 3 J) (m _ 0 J) (m _ 1 J) (m _ 4 J) (λh2 tk dd a5=>?_) (p.zip j).length 0 U _ (by lia) (iG _) (ip (v _ _ a1) ((oS _ l1).mv a7 λo e=>v _ _ e) ((oZ _ l2).mv a6 λo e=>v _ _ e) (.inl ⟨v _ _ hz,(jw tu tv (v _ _ Y))⟩)) (λ_ _ _ _ _ _ _ z=>z) ?_⟩
 ·obtain⟨g1,g2⟩:=List.getElem?_zip_eq_some.mp hr;obtain⟨kv,g3,g4⟩:=x6 (P:=X.prog) (w:=X.w) rv g1;exact fV kv (by simpa using g3) (by simpa using g2) g4
 ·left;rw[lr];simp
  lia
 ·have kv:=xi W S;refine iU rfl (.ref f.objs.size) _ (I1.laid (t':=tk) (o:=.dK (kG [] (p.zip ws))) (λb u eb=>?_) y (iw ?_ ?_ _ (KV.merge kv .nil) dd)) rfl (q _ (I1.hok.fresh y))
  ·have N:=gN eb;exact a5 b u (m _ 4 N) (m _ 3 N) (m _ 0 N) (m _ 1 N) (q2 _ N) (v _ _ (kp _ _ eb))
  ·have:=vC (p.zip ws) [];have lw:(p.zip ws).length=p.length:=by rw[List.length_zip];lia
   simp only [nn]at this
   lia
  ·have:=I1.big;have E:f.objs.size≠sysModules:=kd (kB this y)
   simpa using E
 ·obtain⟨od,es,ep,g,r⟩:=n;exact jn od es ep (C _ _ g) r
def Cp(K:Frag):R2:=λx y H Q=>∃a b c d,x=.ref a/\y=.ref b/\SqT K H a c/\SqT K H b d/\c.length+d.length<=sizeLine/\
 (c=[]->Q (.ref b) H)/\(c≠[]->d=[]->Q (.ref a) H)/\(c≠[]->d≠[]->∀p,H p=none->Q (.ref p) (upd H p (.tup (c++d))))
theorem EF:OpR X (binaryOp .Add) (Cp X.K):=by
 intro d s Z H x y v u Q I B o h;refine jd h ?_;clear h;rintro a b C D rfl rfl r t ⟨M,L,G,P⟩;by_cases hx:C=[]
 ·subst hx;cases B;cases o;obtain⟨g,O,R,_⟩:=I.tuple r;obtain⟨i,Y,S,_⟩:=I.tuple t;have J:g=[]:=O.nil_iff.mpr rfl;obtain⟨⟨T,U,q,N⟩,p,A,n,m⟩:=id R;obtain⟨⟨w,l,k,j⟩,e,c,W,f⟩:=id S;simp only at A m c f;subst A m c f
  exact concat_meets (al _ p rfl) (al _ e rfl) noFill_tuple_add seq_tuple_add PySem.F.slot_tuple_add PySem.F.entry_tuple_add (PySem.F.args_tuple_add_2 _ _)
   (tuple_addW0 a b g.toArray i.toArray n W U l N j (by simp[J])) ⟨p,(iU e (.ref b) H I rfl (L rfl))⟩
 ·exact xZ d s Z H _ _ v u Q I B o (iI a b C D rfl rfl r t (ip hx M (λz=>G hx z) λz=>P hx z))
def CT:R2:=λx y H Q=>∃a b e c,x=.ref a/\y=.ref b/\H a=some (.tup e)/\H b=some (.tup c)/\e.length+c.length<=sizeLine/\∀q d,A0j H d->d q=some (.tup (e++c))->Q (.ref q) d
theorem E6:OpR X (binaryOp .Add) CT:=λc s Z H x y v u Q I l i h=>by
 refine jd h ?_;clear h;rintro a b n f j g d e ⟨k,q⟩;refine EF c s Z H x y v u Q I l i (iI a b n f j g (SqT.of d) (SqT.of e) (ip k (λz=>?_) (λ_ z=>?_) λ_ _ p m=>?_))
 ·subst z;exact q b H (A0j.refl _) e
 ·subst z;exact q a H (A0j.refl _) (by rw[lT];exact d)
 ·exact q p _ (fx m) ee
abbrev lL:=Key ⊕ zU
abbrev fZ:=List lL
def A5s(prog:yB)(w:yD)(h:yA):lL->zX->Prop|.inl k,v=>(ia prog w).is k v=true|.inr ks,v=>∃b,v=.ref b/\IsTupleKey (ia prog w) h ks b
abbrev A4a(prog:yB)(w:yD)(h:yA):List lL->List zX->Prop:=Paired (A5s prog w h)
def A4w(prog:yB)(w:yD)(h:yA)(k:fZ)(a:zW):Prop:=∃o b n,h.get? a=some o/\o.cls=.type "tuple"/\o.data=.seq b n/\A4a prog w h k b.toList
theorem A4w.typeIs{k:fZ}(x:A4w prog w s.heap k a):s.TypeIs (.ref a) "tuple":=let⟨o,_,_,ho,hc,_⟩:=x;(al o ho hc)
theorem zu{k:Key}(h:(ia prog w).is k (.ref a)=true):False:=by have:=(ia prog w).byValue _ _ h;simp[carriedByValue]at this
theorem A5s.inj{p q:lL}{v:zX}(a:A5s prog w h p v)(d:A5s prog w h q v):p=q:=by
 cases p with
 |inl k=>
  cases q with
  |inl l=>exact congrArg Sum.inl ((ia prog w).inj _ _ _ a d)
  |inr ks=>obtain⟨b,rfl,_⟩:=d;exact(zu a).elim
 |inr ks=>
  cases q with
  |inl l=>obtain⟨b,rfl,_⟩:=a;exact(zu d).elim
  |inr ls=>obtain⟨b,rfl,g⟩:=a;obtain⟨c,e,f⟩:=d;injection e with e;subst e;exact congrArg Sum.inr (g.inj f)
theorem A4a.inj{h:yA}:∀{x y:List lL}{vs:zH},A4a prog w h x vs->A4a prog w h y vs->x=y|_,_,_,.nil,.nil=>rfl|_,_,_,.cons a t,.cons b u=>by rw[a.inj b,A4a.inj t u]
theorem A4w.inj{x y:fZ}(f:A4w prog w h x a)(e:A4w prog w h y a):x=y:=by refine gE f λo t n i _ g j=>?_;clear f;refine gE e λk m l c _ b d=>?_;clear e;obtain rfl:o=k:=je (i.symm.trans c);rw[g]at b;injection b with h1 _;subst h1;exact A4a.inj j d
theorem A5s.keeps{p:lL}{v:zX}{es ep}(x:A5s prog w h p v)(f:h.get? d=some o)(g:o.data=.dict es ep)(a:Heap.SameBut d h h'):A5s prog w h' p v:=by
 cases p with
 |inl k=>exact x
 |inr ks=>obtain⟨b,e,c⟩:=x;exact al b e (c.keeps f g a)
theorem A4w.keeps{k:fZ}{es ep}(x:A4w prog w h k a)(i:h.get? d=some o)(g:o.data=.dict es ep)(f:Heap.SameBut d h h'):A4w prog w h' k a:=by
 refine gE x λj t n c m b l=>?_;clear x
 have e:a≠d:=by rintro rfl;obtain rfl:j=o:=je (c.symm.trans i);rw[g]at b;exact nomatch b
 exact gD j t n ((f.2 a e).trans c) m b (Paired.mapP l λp v z=>z.keeps i g f)
def sC(prog:yB)(w:yD):lL->Int|.inl k=>(ia prog w).hash k|.inr ks=>tupleKeyHash (ia prog w) ks
def qG:lL->Nat|.inl _=>1|.inr ks=>ks.length+1
def lO:fZ->Nat| []=>0|p::r=>qG p+lO r
theorem AJ:∀(a b:fZ),lO (a++b)=lO a+lO b| [],b=>by show lO b=0+lO b;lia|p::r,b=>by show qG p+lO (r++b)=qG p+lO r+lO b;rw[AJ r b];lia
def u8(prog:yB)(w:yD)(k:fZ):Int:=reduceHash (Builtin.Tuple.tupleHashOf (k.map (sC prog w)))
theorem HH{p:lL}{v:zX}{Q:Int->zY->Prop}(d:A.units<cLine)(a:A5s prog w s.heap p v)(h:Q (sC prog w p) {s with toks:=s.toks+qG p}):
  wpAny (model prog w) A (pyHash v) Q E s:=by
 cases p with
 |inl k=>exact(ia prog w).pyHash a h
 |inr ks=>obtain⟨b,rfl,c⟩:=a;exact wpAny_pyHash_tuple d c h
theorem Hz{k:fZ}{Q:Int->zY->Prop}(y:A.units+8<cLine)(l:A4w prog w s.heap k a)(h:Q (u8 prog w k) {s with toks:=s.toks+(lO k+1)}):
  wpAny (model prog w) A (pyHash (.ref a)) Q E s:=by
 have f:=l.typeIs;refine gE l λo m n u _ t v=>?_;clear l;unfold pyHash
 first|unfold pyHashByItsType|skip
 first|refine dh (wpAny_cRoomFor_or (.inr (by lia)) ?_)|skip
 refine dh (wpAny_specialOf f PySem.F.slot_tuple_hash.lookup ?_);show wpAny _ _ (if (some (Value.builtin "tuple.__hash__")==some Value.none)=true then _ else _) Q E s;rw[ej (by rw[beq_builtin_none];exact hX)];refine dh (wpAny_specialOf f PySem.F.slot_tuple_hash.lookup ?_);show wpAny _ _ (callSpecialIfBoundUnlessNone? (.ref a) "__hash__" _>>=_) Q E s;refine dh (wpAny_callSpecialIfBoundUnlessNone?_slot f PySem.F.slot_tuple_hash (ke PySem.F.slot_tuple_hash f PySem.F.entry_tuple_hash ?_ (PySem.F.args_tuple_hash_1 _)));show wpAny _ _ (Builtin.Tuple.tupleItemsOf (.ref a)>>=_) _ _ s;refine dh (wpAny_tupleItemsOf u t ?_);refine dh ?_;rw[<-Array.forIn_toList]
 refine wpAny_forIn_list _
  (λd (g:Array Int) i=>∃b c,k=b++c/\A4a prog w s.heap c d/\g.toList=b.map (sC prog w)/\i={s with toks:=s.toks+lO b})
  _ ?_ ?_ _ _ (im [] k rfl v rfl rfl)
 ·rintro x d g i ⟨b,c,rfl,j,e,rfl⟩
  cases j with
  |@cons p _ ps _ h1 hl'=>
   refine dh (HH (by show A.units+1<cLine;lia) h1 ?_);have r:b++p::ps=(b++[p])++ps:=by simp
   have q:lO (b++[p])=lO b+qG p:=by rw[AJ];rfl
   first|exact eh (im (b++[p]) ps r hl' (by simp[e]) (by rw[q];simp[Nat.add_assoc]))|exact dh (eh (eh ⟨b++[p],ps,r,hl',by simp[e],by rw[q];simp[Nat.add_assoc]⟩))
 ·rintro g i ⟨b,c,rfl,j,e,rfl⟩;cases j;rw[lT]at h;show wpAny _ _ (retInt (Builtin.Tuple.tupleHashOf g.toList)) _ _ _;rw[e];refine wpAny_ret_mkInt ?_;generalize hL:b.map (sC prog w)=L;show wpAny _ _ (if (decide (-(2:Int)^63<=Builtin.Tuple.tupleHashOf L)&&decide (Builtin.Tuple.tupleHashOf L<2^63))=true then _ else _) Q E _;unfold u8 reduceHash at h;rw[hL]at h;by_cases hr:(decide (-(2:Int)^63<=Builtin.Tuple.tupleHashOf L)&&decide (Builtin.Tuple.tupleHashOf L<2^63))=true
  ·rw[fW hr];rw[fW hr]at h;exact eh (by simpa[Nat.add_assoc]using h)
  ·rw[ej hr];rw[ej hr]at h;exact dh (wpAny_rule (eh (by simpa[Nat.add_assoc]using h)))
theorem HN{p q:lL}{u v:zX}{Q:Bool->zY->Prop}(j:A.units<cLine)(d:p.isLeft=q.isLeft)(f:A5s prog w s.heap p u)(g:A5s prog w s.heap q v)(h:Q (decide (p=q)) s):
  wpAny (model prog w) A (eqBool u v) Q E s:=by
 cases p with
 |inl k=>
  cases q with
  |inl l=>
   refine(ia prog w).eqBool (a:=k) (b:=l) f g ?_
   have e:decide (k=l)=decide ((Sum.inl k:lL)=Sum.inl l):=by
    by_cases z:k=l
    ·subst z;simp
    ·rw[kj z,kj (λy=>z (by injection y))]
   rw[e];exact h
  |inr ls=>cases d
 |inr ks=>
  cases q with
  |inl l=>cases d
  |inr ls=>
   obtain⟨b,rfl,m⟩:=f;obtain⟨c,rfl,i⟩:=g;refine wpAny_eqBool_tuple j m i ?_
   have e:decide (ks=ls)=decide ((Sum.inr ks:lL)=Sum.inr ls):=by
    by_cases z:ks=ls
    ·subst z;simp
    ·rw[kj z,kj (λy=>z (by injection y))]
   rw[e];exact h
theorem Ix{x y:fZ}{P:Fin->zY->Prop}(T:A.units+4<cLine)(D:x.map Sum.isLeft=y.map Sum.isLeft)(L:A4w prog w s.heap x a)(K:A4w prog w s.heap y b)(h:P (.done (.ret (.bool (decide (x=y))))) s):
  wpAny (model prog w) A (Builtin.«tuple.__eq__» ⟨[.ref a,.ref b],[]⟩) P E s:=by
 have G:=K.typeIs;refine gE L λR t N z _ I F=>?_;clear L;refine gE K λQ p S B _ J H=>?_;clear K;show wpAny _ _ (isInstance (.ref b) (.type "tuple")>>=_) _ _ s;refine dh (wpAny_isInstance G isSubtype_tuple_tuple ?_);simp only [Bool.not_true,Bool.false_eq_true,if_false];refine dh (wpAny_tupleItemsOf z I ?_);refine dh (wpAny_tupleItemsOf B J ?_);refine dh ?_
 refine wpAny_forIn_list _
  (λi r q=>r.1=none/\q=s/\∃l n d e,i=List.zip d e/\A4a prog w s.heap l d/\A4a prog w s.heap n e/\l.map Sum.isLeft=n.map Sum.isLeft/\decide (l=n)=decide (x=y)/\(d.length==e.length)=(t.size==p.size))
  _ ?_ ?_ _ _ (fY rfl rfl (kJ x y t.toList p.toList rfl F H D rfl (by simp)))
 ·rintro⟨u,v⟩ i r q ⟨C,rfl,l,n,d,e,k,j,g,m,c,f⟩
  cases j with
  |nil=>simp at k
  |@cons k1 u' x'' xs'' h1 hx''=>
   cases g with
   |nil=>simp at k
   |@cons k2 v' y'' ys'' h2 hy''=>
    simp only [List.zip_cons_cons,List.cons.injEq,Prod.mk.injEq]at k;obtain⟨⟨rfl,rfl⟩,rfl⟩:=k;rw[gw,gw]at m;injection m with hs1 hs2;refine dh (HN (by lia) hs1 h1 h2 ?_);by_cases hk:k1=k2
    ·subst hk;rw[iW rfl];simp only [Bool.not_true,Bool.false_eq_true,if_false];refine eh (fY rfl rfl (kJ x'' y'' xs'' ys'' rfl hx'' hy'' hs2 ?_ (by simpa using f)));rw[<-c];by_cases hxy:x''=y''
     ·simp[hxy]
     ·simp[hxy]
    ·rw[kj hk];simp only [Bool.not_false,if_true];have M:decide (x=y)=false:=by rw[<-c];simp[hk]
     rw[M]at h;exact dh (eh (eh (eh h)))
 ·rintro⟨O,U⟩ q ⟨C,rfl,l,n,d,e,k,j,g,_,c,f⟩;simp only at C;subst C;refine eh ?_
  have o:(t.size==p.size)=decide (x=y):=by
   rw[<-c,<-f]
   cases j with
   |nil=>
    cases g with
    |nil=>simp
    |cons _ _=>simp
   |cons _ _=>
    cases g with
    |nil=>simp
    |cons _ _=>simp at k
  show P (.done (.ret (.bool (t.size==p.size)))) q;rw[o];exact h
theorem HR{x y:fZ}{Q:Bool->zY->Prop}(g:A.units+8<cLine)(f:x.map Sum.isLeft=y.map Sum.isLeft)(c:A4w prog w s.heap x a)(d:A4w prog w s.heap y b)(h:Q (decide (x=y)) s):
  wpAny (model prog w) A (eqBool (.ref a) (.ref b)) Q E s:=by
 unfold eqBool
 try with_reducible refine kM ?_
 show wpAny _ _ (if (Value.ref a==Value.ref b)=true then _ else _) Q E s;by_cases hab:(Value.ref a==Value.ref b)=true
 ·rw[fW hab];have e:a=b:=by have:=eq_of_beq hab;injection this
  subst e;obtain rfl:=c.inj d;exact dh (wpAny_rule (eh (by simpa using h)))
 ·rw[ej hab]
  exact dh (wpAny_richCompare_same_room (op:=.Eq) c.typeIs d.typeIs PySem.F.slot_tuple_eq
   (ke PySem.F.slot_tuple_eq c.typeIs PySem.F.entry_tuple_eq (Ix (by show A.units+1+4<cLine;lia) f c d (fV _ rfl (λe=>nomatch e) (wpAny_truthy_bool h))) (PySem.F.args_tuple_eq_2 _ _)) (by lia))
theorem II{Q:Bool->zY->Prop}(g:IsTupleKey (ia prog w) s.heap ks a)(h:Q true s):wpAny (model prog w) A (eqIsQuiet (n+1) (.ref a)) Q E s:=by
 have j:=g.typeIs;refine gE g λo d m l _ k p=>?_;clear g;unfold eqIsQuiet;refine dh (wpAny_specialOf j PySem.F.slot_tuple_eq.lookup ?_);show wpAny _ _ (isInstance (.ref a) (.type "tuple")>>=_) _ _ s;refine dh (wpAny_isInstance j isSubtype_tuple_tuple ?_);simp only [Bool.not_true,Bool.false_eq_true,if_false];refine dh (lE l k ?_);refine dh ?_;show wpAny _ _ (forIn d _ _) _ _ s;rw[<-Array.forIn_toList];refine wpAny_forIn_list _ (λb r e=>r.1=none/\e=s/\∀v∈b,carriedByValue v=true) _ ?_ ?_ _ _ (fY rfl rfl p.byValue)
 ·rintro v b r e ⟨f,rfl,c⟩;rw[eqIsQuiet_byValue _ (c v lD)];refine dh (eh ?_);simp only [Bool.not_true,Bool.false_eq_true,if_false];exact eh (fY rfl rfl λu i=>c u (lF _ i))
 ·rintro⟨q,t⟩ e ⟨f,rfl,_⟩;simp only at f;subst f;exact eh h
theorem IS{k:fZ}{Q:Bool->zY->Prop}(i:A4w prog w s.heap k a)(h:Q true s):wpAny (model prog w) A (eqIsQuiet 8 (.ref a)) Q E s:=by
 have j:=i.typeIs;refine gE i λo d m u _ t x=>?_;clear i;unfold eqIsQuiet;refine dh (wpAny_specialOf j PySem.F.slot_tuple_eq.lookup ?_);show wpAny _ _ (isInstance (.ref a) (.type "tuple")>>=_) _ _ s;refine dh (wpAny_isInstance j isSubtype_tuple_tuple ?_);simp only [Bool.not_true,Bool.false_eq_true,if_false];refine dh (lE u t ?_);refine dh ?_;show wpAny _ _ (forIn d _ _) _ _ s;rw[<-Array.forIn_toList];refine wpAny_forIn_list _ (λc r f=>r.1=none/\f=s/\∃l,A4a prog w s.heap l c) _ ?_ ?_ _ _ ⟨rfl,(iN rfl k x)⟩
 ·rintro v c r f ⟨g,rfl,l,e⟩
  cases e with
  |@cons p _ ps' _ h1 hl=>
   cases p with
   |inl q=>rw[eqIsQuiet_byValue _ ((ia prog w).byValue _ _ h1)];refine dh (eh ?_);simp only [Bool.not_true,Bool.false_eq_true,if_false];exact eh ⟨rfl,(iN rfl ps' hl)⟩
   |inr ks=>obtain⟨b,rfl,n⟩:=h1;refine dh (II n ?_);simp only [Bool.not_true,Bool.false_eq_true,if_false];exact eh ⟨rfl,(iN rfl ps' hl)⟩
 ·rintro⟨y,z⟩ f ⟨g,rfl,_⟩;simp only at g;subst g;exact eh h
def lu(prog:yB)(w:yD)(sh:List Bool):HeapKind prog w fZ where
 is:=λh k a=>k.map Sum.isLeft=sh/\A4w prog w h k a
 hash:=u8 prog w
 draws:=λk=>lO k+1
 room:=λA=>A.units+8<cLine
 inj:=λb c=>b.2.inj c.2
 keeps:=λx i g f=>⟨x.1,x.2.keeps i g f⟩
 pyHash:=λd e h=>Hz d e.2 h
 eqBool:=λd b c h=>HR d (b.1.trans c.1.symm) b.2 c.2 h
 quiet:=λe h=>IS e.2 h
section
variable{prog:yB}{w:yD}{K:Type}[DecidableEq K]{knd:HeapKind prog w K}{A:zZ}{E:zA}{s:zY}
theorem Jr{xs:List (K×zW×zX)}{k:K}{f:zX}{Q:zA}(t:knd.room A)(b:knd.is s.heap k a)(u:s.heap.DictOfH knd d xs)
  (h1:∀p,atKey xs k=some p->Q p.2 {s with toks:=s.toks+knd.draws k})
  (h2:atKey xs k=none->∀h',h'.DictOfH knd d (storedH xs k a f)->Heap.SameBut d s.heap h'->Q f {s with heap:=h',toks:=s.toks+knd.draws k})
  (hsz:xs.length<=sizeLine):wpAny (model prog w) A (dictSetDefault d (.ref a) f) Q E s:=by
 refine gE u ?_;clear u;rintro o C B i z h ⟨n,l,q⟩;unfold dictSetDefault
 try with_reducible refine kM ?_
 refine dh (knd.pyHash t b (dh (wpAny_dictFind_heap (s:={s with toks:=s.toks+knd.draws k}) t b i h n l q ?_ ?_)))
 ·intro c;have m:k∉xs.map (·.1):=not_mem_keys_of_get c
  refine dh (wpAny_rule (dh (wpAny_updateDictKeys (hz:=by have e:=size_of_entries n;lia) (s:={s with toks:=s.toks+knd.draws k}) i h (eh (h2 (atKey_none_of_get c) _ ⟨_,_,B+1,py _ i (Obj.isFreed_of_dict (Obj.data_mapDictKeys h _)),
   z.mapDictKeys _,Obj.data_mapDictKeys h _,?_,?_,?_⟩ (Heap.SameBut.update ..))))))
  ·rw[storedH_new (atKey_none_of_get c)];simp[n,entryOfKey]
  ·rw[storedH_new (atKey_none_of_get c)];intro x g;rcases iQ.mp g with g|g
   ·exact knd.keeps (l x g) i h (Heap.SameBut.update ..)
   ·simp only [ik]at g;subst g;exact knd.keeps b i h (Heap.SameBut.update ..)
  ·rw[storedH_new (atKey_none_of_get c)];rw[gB,lU];refine fY q (by simp) ?_;intro x g y v;simp only [gw,List.map_nil,ik]at v;subst v;exact λe=>m (e▸g)
 ·intro j p r;refine dh (wpAny_dictEntries (s:={s with toks:=s.toks+knd.draws k}) i h ?_);rw[entry_at n j,r];exact dh (wpAny_rule (eh (h1 _ (atKey_of_get q r))))
theorem Jn(knd:HeapKind prog w K)(d a:zW)(l:(d==sysModules)=false)(b:zX):
  MeetsIn prog w (Builtin.«dict.setdefault» ⟨[.ref d,.ref a,b],[]⟩) (λA R s=>knd.room A.in1/\∃k xs,knd.is s.heap k a/\s.heap.DictOfH knd d xs/\xs.length<=sizeLine/\
   (∀p,atKey xs k=some p->R (.ok (.ret p.2)) {s with toks:=s.toks+knd.draws k})/\
   (atKey xs k=none->∀h',h'.DictOfH knd d (storedH xs k a b)->Heap.SameBut d s.heap h'->R (.ok (.ret b)) {s with heap:=h',toks:=s.toks+knd.draws k})):=
 .of_wp λA R s ⟨m,k,xs,c,g,o,n,i⟩=>by unfold Builtin.«dict.setdefault»;refine dh ?_;unfold Builtin.Dict.keyAndDefault;refine dh (wpAny_notOrdered_dict g.typeIs ?_);show wpAny _ _ (pure (d,Value.ref a,some b)) _ _ s;refine eh ?_;show wpAny _ _ (if (d==sysModules)=true then _ else (dictSetDefault d (.ref a) b>>=_)) _ _ s;rw[ej (by rw[l];exact hX)];exact dh (Jr (hsz:=o) m c g (λv h=>eh (al _ rfl (n v h))) λj h' f e=>eh (al b rfl (i j h' f e)))
end
def B5t(H:Hp):lL->V->Prop|.inl k,v=>v=kV k|.inr ks,v=>∃b,v=.ref b/\H b=some (.tup (ks.map kV))
def A1w(H:Hp)(k:fZ)(b:zW):Prop:=∃a,H b=some (.tup a)/\Paired (B5t H) k a
theorem B5t.keeps{p:lL}(e:B5t H p v)(a:∀b xs,H b=some (.tup xs)->H' b=some (.tup xs)):B5t H' p v:=by
 cases p with
 |inl k=>exact e
 |inr ks=>obtain⟨b,c,d⟩:=e;exact al b c (a _ _ d)
theorem A1w.keeps{k:fZ}(e:A1w H k b)(a:∀b xs,H b=some (.tup xs)->H' b=some (.tup xs)):A1w H' k b :=let⟨vs,e1,e2⟩:=e;(al vs (a _ _ e1) (Paired.mapP e2 λ_ _ z=>z.keeps a))
theorem oz{c:zW}(h:H b=some (.tup [.str x,.ref c]))(a:H c=some (.tup (ks.map kV))):A1w H [.inl (.inr x),.inr ks] b :=(al _ h (.cons rfl (.cons (al c rfl a) .nil)))
theorem yP(a:HOk P w H h):∀{k:fZ}{vs:zM}{us:zH},Paired (B5t H) k vs->A2f vs us->A4a P w h k us
 |_,_,_,.nil,.nil=>.nil
 |p::_,_,_,.cons e t,.cons r u=>by
  refine .cons ?_ (yP a t u)
  cases p with
  |inl k=>obtain rfl:=e;exact m5 r
  |inr ks=>obtain⟨c,rfl,b⟩:=e;cases r;exact al c rfl (oP a b)
theorem A1w.is{k:fZ}(c:HOk P w H h)(e:A1w H k b):A4w P w h k b:=by obtain⟨f,i,g⟩:=e;refine tI (show A1g P w H h b (.tup f) from c b _ i) λ_ a r o j d n l=>?_;exact gD o a.toArray n j d l (by simpa using yP c g r)
abbrev KN:List (fZ×zW×V)->List (fZ×zW×zX)->Prop:=Paired λp q=>p.1=q.1/\p.2.1=q.2.1/\A2c p.2.2 q.2.2
def kR(kas:List (fZ×zW×V)):List (fZ×V):=kas.map λp=>(p.1,p.2.2)
def ndV(P:yB)(w:yD)(sh:List Bool)(a:zW)(kas:List (fZ×zW×V)):HO:=.ext λh=>kas.length<=sizeLine/\(a==sysModules)=false/\∃b,KN kas b/\
 ∃o c d,h.get? a=some o/\o.ExactDict/\o.data=.dict c d/\c.toList=b.map (entryOfKey (lu P w sh))/\(b.map (·.1)).Nodup
def A3t(P:yB)(w:yD)(sh:List Bool)(H:Hp)(a:zW)(kvs:List (fZ×V)):Prop :=∃b,H a=some (ndV P w sh a b)/\kR b=kvs/\∀p∈b,p.1.map Sum.isLeft=sh/\A1w H p.1 p.2.1
theorem wT{xs:List (fZ×zW×zX)}(z:kas.length<=sizeLine)(e:(a==sysModules)=false)(r:KN kas xs)(m:h.DictOfH (lu P w sh) a xs):A1g P w H h a (ndV P w sh a kas):=by refine gE m ?_;clear m;rintro o i f b c j ⟨d,_,g⟩;exact fY (iw z e xs r (gX o i f b c j d g)) ⟨o,b⟩ (by (rintro p n l;refine jR l ?_;clear l;rintro z e xs r o i f b ⟨c,j,d,g⟩ k);exact iw z e xs r (gX o i f (k o b) c j d g))
theorem A3t.keeps{kvs:List (fZ×V)}(d:A3t P w sh H a kvs)(g:∀o,H a=some o->H' a=some o)(f:∀b xs,H b=some (.tup xs)->H' b=some (.tup xs)):A3t P w sh H' a kvs :=let⟨kas,e,b,n⟩:=d;(fV kas (g _ e) b λp c=>⟨(n p c).1,(n p c).2.keeps f⟩)
theorem A3t.at{kvs:List (fZ×V)}(g:HOk P w H h)(d:A3t P w sh H a kvs):∃kas xs,H a=some (ndV P w sh a kas)/\kR kas=kvs/\(∀p∈kas,p.1.map Sum.isLeft=sh/\A1w H p.1 p.2.1)/\
  kas.length<=sizeLine/\(a==sysModules)=false/\KN kas xs/\h.DictOfH (lu P w sh) a xs:=by
 obtain⟨kas,e,k,n⟩:=d;obtain⟨⟨z,j,xs,r,o,D,C,s,i,A,B,u⟩,_,_⟩:=(show A1g P w H h a (ndV P w sh a kas) from g a _ e);refine mY kas xs e k n z j ⟨r,(nj o D C s i A B (λx b=>?_) u)⟩
 have c:∀{l:List (fZ×zW×V)}{m:List (fZ×zW×zX)},KN l m->(∀p∈l,p.1.map Sum.isLeft=sh/\A1w H p.1 p.2.1)->∀x∈m,(lu P w sh).is h x.1 x.2.1:=by
  intro l m q
  induction q with
  |nil=>intro _ x b;exact nomatch b
  |@cons p q ps qs hq t ih=>
   intro f x b;rcases gY.mp b with e|b
   ·subst e;have:=f p lD;rw[<-hq.1,<-hq.2.1];exact⟨this.1,this.2.is g⟩
   ·exact ih (λy v=>f y (lF _ v)) x b
 exact c r n x b
theorem KN.val{xs:List (fZ×zW×zX)}(r:KN kas xs)(k:fZ):B2g (fy (kR kas) k) ((atKey xs k).map (·.2)):=by
 induction r with
 |nil=>exact True.intro
 |@cons p q ps qs h t ih=>
  obtain⟨c,_,d⟩:=h;show B2g (fy ((p.1,p.2.2)::kR ps) k) _;by_cases e:p.1=k
  ·have a:q.1=k:=c.symm.trans e;have b:atKey (q::qs) k=some q.2:=by simp[atKey,nQ,a]
   rw[jy (p:=(p.1,p.2.2)) e,b];exact d
  ·have a:¬q.1=k:=λz=>e (c.trans z);have b:atKey (q::qs) k=atKey qs k:=by simp[atKey,nQ,a]
   rw[jk (p:=(p.1,p.2.2)) e,b];exact ih
def mq(kas:List (fZ×zW×V))(k:fZ)(b:zW)(v:V):List (fZ×zW×V):=if ((kR kas).any λa=>decide (a.1=k))=true then kas.map λp=>if p.1=k then (p.1,p.2.1,v)else p else kas++[(k,b,v)]
theorem Es(kas:List (fZ×zW×V))(k:fZ)(b:zW)(v:V):kR (mq kas k b v)=gC (kR kas) k v:=by
 unfold mq gC;by_cases q:((kR kas).any λa=>decide (a.1=k))=true
 ·rw[fW q,fW q];unfold kR;rw[List.map_map,List.map_map];refine List.map_congr_left λp _=>?_;simp only [Function.comp];split<;>rfl
 ·rw[ej q,ej q];unfold kR;rw[gB];rfl
theorem HV(kas:List (fZ×zW×V))(k:fZ)(b:zW)(v:V):(mq kas k b v).length<=kas.length+1:=by
 unfold mq;split
 ·rw[eH];lia
 ·rw[gz];exact gf _
theorem ES{k:fZ}{p:fZ×zW×V}(h:p∈mq kas k b v):(∃q∈kas,p.1=q.1/\p.2.1=q.2.1)\/(p.1=k/\p.2.1=b):=by
 unfold mq at h;split at h
 ·obtain⟨q,a,e⟩:=gm.mp h;refine .inl (al q a ?_);split at e
  ·subst e;exact⟨rfl,rfl⟩
  ·subst e;exact⟨rfl,rfl⟩
 ·rcases iQ.mp h with h|h
  ·exact .inl (fV p h rfl rfl)
  ·rw[ik]at h;subst h;exact .inr ⟨rfl,rfl⟩
theorem KN.put{xs:List (fZ×zW×zX)}(r:KN kas xs)(k:fZ){y:V}{u:zX}(d:A2c y u):KN (mq kas k b y) (storedH xs k b u):=by
 have e:((kR kas).any λg=>decide (g.1=k))=(atKey xs k).isSome:=by rw[oW,(r.val k).isSome_eq,Option.isSome_map]
 unfold mq storedH;rw[e];by_cases q:(atKey xs k).isSome=true
 ·rw[fW q,fW q];clear e q
  induction r with
  |nil=>exact .nil
  |@cons p q ps qs h t ih=>
   rw[gw,gw];refine .cons ?_ ih;obtain⟨a,c,f⟩:=h;unfold putAt;by_cases e:p.1=k
   ·rw[fW e,fW (a.symm.trans e)];exact fY a c d
   ·rw[ej e,ej (λz=>e (a.trans z))];exact fY a c f
 ·rw[ej q,ej q];exact Paired.snoc (F:=λ(p:fZ×zW×V)(q:fZ×zW×zX)=>p.1=q.1/\p.2.1=q.2.1/\A2c p.2.2 q.2.2) (fY rfl rfl d) r
theorem n5{k:Nat}(a:A8d k A):A.units+9<cLine:=by have:=a.un;lia
section
variable{d:V}{r u:zX}{k:fZ}{kvs:List (fZ×V)}
theorem A3t.typeIs(I:Inv X pins Z H s)(g:A3t X.prog X.w sh H a kvs):s.TypeIs (.ref a) "dict" :=let⟨_,_,_,_,_,_,_,_,dd⟩:=g.at I.hok;dd.typeIs
theorem Gh{Q:zA}(B:A.units+9<cLine)(I:Inv X pins Z H s)(g:A3t X.prog X.w sh H a kvs)(r:A1w H k b)(j:k.map Sum.isLeft=sh)(l:fy kvs k=some v)
  (h:∀c s',Inv X pins Z H s'->A2c v c->Q c s'):wpAny (model X.prog X.w) A (getItem (.ref a) (.ref b)) Q E s:=by
 refine jo (g.at I.hok) ?_;rintro t x e rfl n ⟨z,y,d,m⟩;obtain⟨c,u,f⟩:=B2g.some_of (v:=v) (o:=(atKey x k).map (·.2)) (by rw[<-l];exact d.val k);obtain⟨p,q,i⟩:=lI.mp u;refine wpAny_getItem_heap (knd:=lu X.prog X.w sh) (show A.units+1+8<cLine by lia) ⟨j,r.is I.hok⟩ m q ?_;rw[i];exact h c _ (I.tok _) f
theorem n_in{Q:zA}(m:A.units+9<cLine)(I:Inv X pins Z H s)(g:A3t X.prog X.w sh H a kvs)(i:A1w H k b)(d:k.map Sum.isLeft=sh)
  (h:∀s',Inv X pins Z H s'->Q (.bool (fy kvs k).isSome) s'):wpAny (model X.prog X.w) A (compareOp .In (.ref b) (.ref a)) Q E s:=by
 refine jo (g.at I.hok) ?_;rintro j o e rfl n ⟨z,f,c,l⟩;refine wpAny_in_heap (knd:=lu X.prog X.w sh) (show A.units+1+8<cLine by lia) ⟨d,i.is I.hok⟩ f l ?_;have q:=(c.val k).isSome_eq;rw[Option.isSome_map]at q;rw[<-q];exact h _ (I.tok _)
theorem DB{Q:zA}(m:A.units+9<cLine)(I:Inv X pins Z H s)(g:A3t X.prog X.w sh H a kvs)(i:A1w H k b)(d:k.map Sum.isLeft=sh)
  (h:∀s',Inv X pins Z H s'->Q (.bool (!(fy kvs k).isSome)) s'):wpAny (model X.prog X.w) A (compareOp .NotIn (.ref b) (.ref a)) Q E s:=by
 refine jo (g.at I.hok) ?_;rintro j o e rfl n ⟨z,f,c,l⟩;refine wpAny_notIn_heap (knd:=lu X.prog X.w sh) (show A.units+1+8<cLine by lia) ⟨d,i.is I.hok⟩ f l ?_;have q:=(c.val k).isSome_eq;rw[Option.isSome_map]at q;rw[<-q];exact h _ (I.tok _)
theorem BU{Q:zA}(q:A.units+9<cLine)(I:Inv X pins Z H s)(g:A3t X.prog X.w sh H a kvs)(m:A1w H k b)(j:k.map Sum.isLeft=sh)(rd:A2c d r)
  (h:∀f s',Inv X pins Z H s'->A2c ((fy kvs k).getD d) f->Q f s'):wpAny (model X.prog X.w) A (call (.builtin "dict.get") [.ref a,.ref b,r]) Q E s:=by
 refine jo (g.at I.hok) ?_;rintro o p e rfl n ⟨z,l,c,i⟩;refine call_meetsIn PySem.F.slot_dict_get i.typeIs PySem.F.entry_dict_get (PySem.F.args_dict_get_3 _ _ _) (meetsH_dict_get_default (lu X.prog X.w sh) a b l r) (iU (show A.units+1+8<cLine by lia) k p ⟨j,m.is I.hok⟩ i (h _ _ (I.tok _) ?_));exact(c.val k).getD rd
theorem z9{xs:List (fZ×zW×zX)}(I:Inv X pins Z H s)(e:H a=some (ndV X.prog X.w sh a kas))(n:∀p∈kas,p.1.map Sum.isLeft=sh/\A1w H p.1 p.2.1)
  (F:(kR kas).length<sizeLine) (x:(a==sysModules)=false) (j:KN kas xs) (B:A1w H k b) (t:k.map Sum.isLeft=sh) (y:A2c v u)
  (r:h'.DictOfH (lu X.prog X.w sh) a (storedH xs k b u)) (l:Heap.SameBut a s.heap h'):
  Inv X pins Z (upd H a (ndV X.prog X.w sh a (mq kas k b v))) {s with heap:=h',toks:=t'}/\A3t X.prog X.w sh (upd H a (ndV X.prog X.w sh a (mq kas k b v))) a (gC (kR kas) k v):=by
 have i:(mq kas k b v).length<=sizeLine:=by
  have D:=HV kas k b v;have C:(kR kas).length=kas.length:=eH _
  lia
 have m:∀c f,H c=some (.tup f)->upd H a (ndV X.prog X.w sh a (mq kas k b v)) c=some (.tup f):=λc f o=>by rw[dF (gg o e (λz=>nomatch z))];exact o
 refine jP (qy I (by rw[e];exact True.intro) l (let⟨q,_,_,d,_⟩:=r;⟨q,d⟩) (wT i x (j.put k y) r)) _ ee (Es _ _ _ _) λp A=>?_;rcases ES A with ⟨q,d,h,g⟩|⟨h,g⟩
 ·rw[h,g];exact⟨(n q d).1,(n q d).2.keeps m⟩
 ·rw[h,g];exact⟨t,B.keeps m⟩
theorem Gu{Q:Unit->zY->Prop}(C:A.units+9<cLine)(I:Inv X pins Z H s)(g:A3t X.prog X.w sh H a kvs)(j:A1w H k b)(i:k.map Sum.isLeft=sh)(p:kvs.length<sizeLine)(m:A2c v u)
  (h:∀o s',Inv X pins Z (upd H a o) s'->A3t X.prog X.w sh (upd H a o) a (gC kvs k v)->Q () s'):wpAny (model X.prog X.w) A (setItem (.ref a) (.ref b) u) Q E s:=by
 refine jo (g.at I.hok) ?_;rintro x y e rfl n ⟨z,l,c,r⟩;have q:y.length<=sizeLine:=by rw[<-Paired.length c];exact z
 refine wpAny_setItem_heap (knd:=lu X.prog X.w sh) (hsz:=q) (show A.units+1+8<cLine by lia) ⟨i,j.is I.hok⟩ r λB d f=>?_;obtain⟨I',t⟩:=z9 (t':=s.toks+(lu X.prog X.w sh).draws k) I e n p l c j i m d f;exact h _ _ I' t
theorem B8{Q:zA}(L:A.units+9<cLine)(I:Inv X pins Z H s)(g:A3t X.prog X.w sh H a kvs)(r:A1w H k b)(j:k.map Sum.isLeft=sh)(B:kvs.length<sizeLine)(x:A2c v u)
  (h1:∀y m s',fy kvs k=some y->Inv X pins Z H s'->A2c y m->Q m s')
  (h2:fy kvs k=none->∀o s',Inv X pins Z (upd H a o) s'->A3t X.prog X.w sh (upd H a o) a (gC kvs k v)->Q u s'):wpAny (model X.prog X.w) A (call (.builtin "dict.setdefault") [.ref a,.ref b,u]) Q E s:=by
 refine jo (g.at I.hok) ?_;rintro f t e rfl n ⟨z,l,d,q⟩;have C:t.length<=sizeLine:=by rw[<-Paired.length d];exact z
 have c:=d.val k;refine call_meetsIn PySem.F.slot_dict_setdefault q.typeIs PySem.F.entry_dict_setdefault (PySem.F.args_dict_setdefault_3 _ _ _) (Jn (lu X.prog X.w sh) a b l u) ⟨(show A.units+1+8<cLine by lia),(ij k t ⟨j,r.is I.hok⟩ q C (λp J=>?_) λD K h i=>?_)⟩
 ·rw[J]at c
  cases ev:fy (kR f) k with
  |none=>rw[ev]at c;exact False.elim c
  |some y=>rw[ev]at c;exact h1 y _ _ ev (I.tok _) c
 ·rw[D]at c
  cases ev:fy (kR f) k with
  |none=>obtain⟨I',G⟩:=z9 (t':=s.toks+(lu X.prog X.w sh).draws k) I e n B l d r j x h i;exact h2 ev _ _ I' G
  |some y=>rw[ev]at c;exact False.elim c
end
structure pG(P:yB)(w:yD)(H:Hp)(x y:V)(a b:zW)(sh:List Bool)(kvs:List (fZ×V))(k:fZ):Prop where
 ex:x=.ref a
 ey:y=.ref b
 nd:A3t P w sh H a kvs
 at':A1w H k b
 sh':k.map Sum.isLeft=sh
def BC(P:yB)(w:yD)(td ty:TE):TE:=λZ H Q=>td Z H λx f=>ty Z f λy d=>∃a b e c k v,pG P w d x y a b e c k/\fy c k=some v/\Q v d
def wc(P:yB)(w:yD):R2:=λy x H Q=>∃a b d c k,pG P w H x y a b d c k/\Q (.bl (fy c k).isSome) H
def Dl(P:yB)(w:yD):R2:=λy x H Q=>∃a b d c k,pG P w H x y a b d c k/\Q (.bl (!(fy c k).isSome)) H
def Ba(P:yB)(w:yD):ro:=λx y v H Q=>∃a b d c k,pG P w H x y a b d c k/\c.length<sizeLine/\∀o,A3t P w d (upd H a o) a (gC c k v)->Q (upd H a o)
def CH(P:yB)(w:yD)(sh:List Bool):TE:=λ_ H Q=>∀p o,H p=none->A3t P w sh (upd H p o) p []->Q (.ref p) (upd H p o)
def Bi(P:yB)(w:yD):V->List V->Hp->VK->Prop:=λx e H Q=>∃a b d c k y z,e=[y,z]/\pG P w H x y a b d c k/\Q ((fy c k).getD z) H
def Cg(P:yB)(w:yD):V->List V->Hp->VK->Prop:=λx e H Q=>∃a b d c k y z,e=[y,z]/\pG P w H x y a b d c k/\c.length<sizeLine/\
 (∀v,fy c k=some v->Q v H)/\(fy c k=none->∀o,A3t P w d (upd H a o) a (gC c k z)->Q z (upd H a o))
def tBMN(P:yB)(w:yD)(r:V->List V->Hp->VK->Prop)(to:TE)(t:TA):TE:=λZ H Q=>to Z H λx c=>(∃a d b,x=.ref a/\A3t P w d c a b)/\t Z c λf e=>r x f e Q
section
variable{o i e:yC}
theorem uI(G:X.A.units+9<cLine)(r:PE X o td)(hi:PE X i ty)(m:rE i):PE X (.Subscript o i pos) (BC X.prog X.w td ty):=by intro c s Z H Q I h;refine uM PySem.F.slot_dict_getitem.lookup m (thn (r c s Z H _ I h) ?_);rintro u B ⟨x,z,I1,J,q⟩;refine thn (hi c B Z z _ I1 q) ?_;rintro t O g;refine mG g ?_;clear g;rintro y K I2 p a b M ⟨D,k,v,⟨C,L,j,d,e⟩,l,n⟩;subst C L;obtain rfl:u=Value.ref a:=J;obtain rfl:t=Value.ref b:=p;exact⟨j.typeIs I2,Gh G I2 j d e l λP N I3 f=>(el v K I3 f n)⟩
theorem rY(j:X.A.units+9<cLine):OpR X (compareOp .In) (wc X.prog X.w):=by intro f s Z H x y v u Q I m i h;refine jp h ?_;clear h;rintro a b o ⟨c,k,⟨g,n,l,e,d⟩,q⟩;subst g n;obtain rfl:v=Value.ref b:=m;obtain rfl:u=Value.ref a:=i;exact n_in j I l e d λp I3=>(el (.bl (fy c k).isSome) H I3 rfl q)
theorem Fz(j:X.A.units+9<cLine):OpR X (compareOp .NotIn) (Dl X.prog X.w):=by intro f s Z H x y v u Q I m i h;refine jp h ?_;clear h;rintro a b o ⟨c,k,⟨g,n,l,e,d⟩,q⟩;subst g n;obtain rfl:v=Value.ref b:=m;obtain rfl:u=Value.ref a:=i;exact DB j I l e d λp I3=>(el (.bl (!(fy c k).isSome)) H I3 rfl q)
theorem qz(m:X.A.units+9<cLine):tT X (Ba X.prog X.w):=by intro e s Z H o i v x g u Q I y p n h;refine jp h ?_;clear h;rintro a b B ⟨l,k,⟨j,z,r,c,d⟩,t,q⟩;subst j z;obtain rfl:x=Value.ref a:=y;obtain rfl:g=Value.ref b:=p;exact Gu m I r c d t n λo C I3 f=>(al _ I3 (q o f))
theorem qF:PE X (.Dict [] [] pos) (CH X.prog X.w sh):=λb s Z H Q I h=>by have d:=I.big;have c:(s.heap.objs.size==sysModules)=false:=oB.mpr (Ne.symm (jq d));refine wpAny_Dict_empty (el (.ref s.heap.objs.size) _ (I.laid (a:=s.heap.objs.size) (o:=ndV X.prog X.w sh s.heap.objs.size []) (t':=s.toks) (λ_ _ q=>gk _ q) (gf _) (wT (iG _) c .nil (Heap.DictOfH.new s.heap))) rfl (h _ _ (I.hok.fresh (gf _)) (fV [] ee rfl λp e=>nomatch e)))
theorem DZ(l:X.A.units+9<cLine):MtR X "dict.get" (Bi X.prog X.w):=by
 intro g s Z H x B v u Q I n c h;refine jS h ?_;clear h;rintro a b p j k y ⟨z,rfl,⟨i,o,m,d,e⟩,q⟩;subst i o;obtain rfl:v=Value.ref a:=n
 cases c with
 |cons r1 c=>
  cases c with
  |cons r2 c=>
   cases c
   cases r1
   exact BU l I m d e r2 λt r I3 f=>(el _ H I3 f q)
theorem ED(r:X.A.units+9<cLine):MtR X "dict.setdefault" (Cg X.prog X.w):=by
 intro g s Z H x J v G Q I B c h;refine jS h ?_;clear h;rintro a b D q k y ⟨z,rfl,⟨p,C,t,d,e⟩,u,j,i⟩;subst p C;obtain rfl:v=Value.ref a:=B
 cases c with
 |cons r1 c=>
  cases c with
  |cons r2 c=>
   cases c
   cases r1
   exact B8 r I t d e u r2 (λy F n l I3 f=>(el _ H I3 f (j y l))) λl o n I3 m=>(el _ _ I3 r2 (i l o m))
theorem A3t.noDict{kvs:List (fZ×V)}(I:Inv X pins Z H s)(g:A3t X.prog X.w sh H a kvs):∀b,Value.ref a=.ref b->∃c,s.heap.get? b=some c/\c.dict=none:=λb q=>by
 cases q
 refine jo (g.at I.hok) ?_;rintro _ _ _ _ _ ⟨_,_,_,c,_,_,e,d,_⟩;exact al c e d.2.1
variable{es:zT}{t:TA}{id:String}{r:V->List V->Hp->VK->Prop}
theorem wJ(i:Slot "dict" name id)(j:typeOf (.builtin id)=pure (.type "method_descriptor"))(q:MtR X id r)(u:PE X o to)(D:PA X (e::es) t)
  (f:attributeBase o name X.env (eval o X.env)=eval o X.env:=by rfl)
  (g:((backTo cpos (starEach (e::es) X.env)).all (λx=> ! x.1)&&(backToKw cpos (keywordEach [] X.env)).all (λx=>x.1.isSome)
   && decide ((e::es).length+([]:List Keyword).length+(if ([]:List Keyword).isEmpty then 0 else 1)<30))=true:=by rfl)
  (d:(apos.endLine==cpos.line)=true:=by rfl) (m:starEach (e::es) X.env=(false,eval e X.env)::starEach es X.env:=by rfl) (c:(backTo cpos (starEach es X.env)).any (·.1)=false:=by rfl):
  PE X (.Call (.Attribute o name apos) (e::es) [] cpos) (tBMN X.prog X.w r to t):=by
 intro b s Z H Q I h;refine wpAny_Call_method_late f g d rfl (thn (u b s Z H _ I h) ?_);rintro v B ⟨x,A,I1,z,⟨a,N,G,C,k⟩,p⟩;subst C;obtain rfl:v=Value.ref a:=z;refine mY "dict" id PySem.F.plainAttrs_dict i j (k.typeIs I1) (k.noDict I1) ?_;have l:=D cpos b B Z A _ I1 p;rw[m]at l⊢;refine Calls.callWith_builtin (by show(false||(backTo cpos (starEach es X.env)).any (·.1))=false;rw[c]<;>rfl) (Calls.evalArgs_plain ?_);exact thn l (by rintro K J ⟨y,M,I2,L,n⟩;exact q b J Z M (.ref a) y _ K Q I2 rfl L n)
end
section
variable{o:HO}
theorem Inv.trackO(I1:Inv X pins Z H1 s1)(I:Inv X pins Z H s)(A:s1.heap.get? a=none)(t:H a=none)(j:A1g X.prog X.w (upd H a o) s.heap a o):Inv X pins Z (upd H a o) s:=by
 have d:∀b o,s1.heap.get? b=some o->b≠a:=λb o e z=>by rw[z,A]at e;cases e
 have g:∀b u,H b=some u->upd H a o b=some u:=λb u e=>by rw[dF (ga e t)];exact e
 refine⟨I.ok,I.os,I.bare,⟨I.base.keep,I.base.slot,λb o e n f=>?_,I.base.there,λb l e=>g _ _ (I.base.tups b l e),λb o u e=>g _ _ (I.base.frzs b o u e),λb B e=>?_⟩,I.loc,I.cell,?_,λx c e=>?_,λp k=>?_,λb u e=>?_,I.len⟩
 ·obtain⟨y,h⟩:=I1.base.there b o e f;rw[dF (d b y h)];exact I.base.free b o e n f
 ·obtain⟨m,q⟩:=I.base.tbls b B e;exact⟨m,g _ _ q⟩
 ·obtain⟨m,⟨o,_,_,i,_⟩,_⟩:=I1.loc;rw[dF (d _ o i)];exact I.free
 ·obtain⟨v,o,i,_⟩:=I1.cell x c e;rw[dF (d _ o i)];exact I.freeC x c e
 ·obtain⟨e,n,r⟩:=I.pin p k;have h:=(I1.pin p k).1;exact fY e (by rw[dF (d _ _ h)];exact n) r
 ·by_cases f:b=a
  ·subst f;rw[ee]at e;cases e;exact j
  ·rw[dF f]at e;exact(I.hok b u e).stay (λ_ _ _ q=>q) (λc q=>g _ _ q) λc l q=>g _ _ q
end
section
open PySem.Builtin PySem.Builtin.Str in
open PySem.Builtin PySem.Builtin.Str in
theorem IF:mN X (.type "int") (λxs H Q=>∃(x:Str)(n:Int),xs=[.str x]/\PySem.intText? x=some n/\x.length<=640/\Q (.int n) H):=by intro a s Z H xs d Q I r h;obtain⟨x,n,rfl,b,c,q⟩:=h;obtain⟨u,rfl,t,rfl⟩:=mR r;exact PySem.W.KIN.call_text b c (el (.int n) H (I.tok _) ⟨_,rfl⟩ q)
end
open PySem PySem.W PyProof.Rows
theorem tG{k:Nat}(a:A8d k A):A.units+70<cLine:=by have:=a.un;lia
theorem EV{xs:zM}(h:A2f xs us):∀u∈us,∃v∈xs,A2c v u:=by
 induction h with
 |nil=>intro u a;cases a
 |cons r _ ih=>
  intro u a;rcases gY.mp a with e|a
  ·subst e;exact al _ (.head _) r
  ·obtain⟨v,b,c⟩:=ih u a;exact al v (.tail _ b) c
def vS(K:Frag)(n:Nat)(t:TGs):TG:=λv Z H Q=>∃a b,v=.ref a/\SqL K H a b/\b.length=n/\t b Z H Q
theorem ux{es:zT}{k:Nat}{t:TGs}(q:X.calm=true)(h:PGs X es t)
  (w:(assignEach es X.env).length=n:=by rfl) (f:(assignEach es X.env).findIdx? (·.1)=none:=by rfl):PG X (.Tuple es k pos) (vS X.K n t):=by
 intro c s Z H v u Q I r g;obtain⟨a,z,l,y,m,g⟩:=g;subst l;cases r;obtain⟨d,i,p,A⟩:=I.list y;rw[assign_Tuple];refine dh (qZ ?_);unfold unpack;rw[show(assignEach es X.env).length=d.toArray.size by simp[w,<-m,i.length],f];refine dh (kM (PySem.W.kun_itemsOf (I.ok.hd q) p.isList λj x=>?_));have I1:Inv X c Z H {s with heap:=j}:=I.kept (t':=s.toks) λb o e=>x b o (jq (gN e)) e
 exact h c _ Z H z _ Q I1 (by simpa using i) g
end L2
namespace HT
open PySem PySem.Spec PyProof.Rows L2
section
variable{prog:yB}{w:yD}{A:zZ}{E:zA}{s:zY}
end
end HT
namespace L2
open PySem PySem.Spec PyProof.Rows
variable{α:Type}{xs:List (fZ×zW×zX)}{x:Str}{wi:TI}{w:yD}{v pos' pos p kpos:Pos}{us:zH}{u tb:TS}{ty tl te td:TE}{tg l iter e c:yC}{tc:TT}{sts rest body b a:List Stmt}{st:Stmt}{sp:Sp}{sh:List Bool}{s:zY}{ps:zC}{prog P:yB}{pins:zD}{od o:Obj}{kvs:List (List Key×V)}{kas:List (fZ×zW×V)}{j i ep:Nat}{it f d D:zW}{h:yA}{g:TG}{fd:zS}{es:Array DictEntry}{Z₀ Z:St}{X:Cx}{QD:Hp->Prop}{Q:zN->zY->Prop}{L:List (V×V)}{K:Frag}{J:It}{H:Hp}{E:zA}{A:zZ}
theorem Dx{f:α->V}{ys:List α}:jK (ys.map f) none (some (i:Int))=(ys.take i).map f:=by
 unfold jK;have a:HT.sIx (ys.map f).length 0 none=0:=rfl;have b:HT.sIx (ys.map f).length (ys.map f).length (some (i:Int))=min i (ys.map f).length:=HT.sIx_nat _ _ _;rw[a,b,List.drop_zero,Nat.sub_zero,List.map_take];by_cases h:i<=(ys.map f).length
 ·rw[Nat.min_eq_left h]
 ·rw[Nat.min_eq_right (by lia),qX (gf _),qX (by lia)]
theorem ym{Q:zA}(e:(d==sysModules)=false)(b:s.heap.get? d=some od)(c:s.TypeIs (.ref d) "dict")(a:od.data=.dict es ep)
  (f:Q (.ref s.heap.objs.size) {s with heap:=s.heap.push {cls:=.type "dict_keyiterator",data:=.fields #[.ref d,.int 0 0,.int es.size 0,.int ep 0]}}):wpAny (model prog w) A (pyIter (.ref d)) Q E s:=by
 refine wpAny_pyIter_slot c F.slot_dict_iter (ke F.slot_dict_iter c F.entry_dict_iter ?_ (F.args_dict_iter_1 _));unfold Builtin.«dict.__iter__» Builtin.Dict.dictSlotNone;refine dh (dh (wpAny_notOrdered_dict c ?_));show wpAny _ _ (pure (Value.ref d)) _ _ s;refine eh (show wpAny _ _ (Builtin.Dict.showsAll d>>=_) _ _ s from ?_);unfold Builtin.Dict.showsAll;rw[ej (by rw[e]<;>exact hX)];refine dh (eh (dh (wpAny_dictEntries b a (dh (wpAny_dictEpoch b a (dh (lG (eh (gr _ rfl "dict_keyiterator" _ (al _ (ig _ rfl) rfl) F.slot_dict_keyiterator_next.lookup ?_)))))))))
 simpa[rawInt]using f
theorem yu(a:s.heap.IsKeyIter it d i es.size ep)(e:s.heap.get? d=some od)(c:od.data=.dict es ep)(h:i<es.size)
  (j:∀h',h'.IsKeyIter it d (i+1) es.size ep->Heap.SameBut it s.heap h'->Q (some es[i].key) {s with heap:=h'}):wpAny (model prog w) A (pyNext (.ref it)) Q E s:=by
 obtain⟨o,g,k,f⟩:=id a;unfold pyNext;refine dh (wpAny_attempt (lR (name:=Str.ofString "__next__") a.typeIs F.slot_dict_keyiterator_next (ke F.slot_dict_keyiterator_next a.typeIs F.entry_dict_keyiterator_next ?_ (F.args_dict_keyiterator_next_1 _))));refine dh (eh (dh (dh ?_)))
 first|refine dh (wpAny_typeNameOfWhole_keyiter a.typeIs (eh ?_))|refine dh (wpAny_typeNameOf_keyiter a.typeIs (eh ?_))
 refine dh (wpAny_fieldsOf g f ?_);simp only [show Builtin.Dict_items.ownsTuple "dict_keyiterator"=false by decide,Bool.false_eq_true,if_false];show wpAny _ _ (if (Value.ref d==Value.none)=true then _ else _) _ _ s;rw[ej (show¬((Value.ref d==Value.none)=true) from hX)];refine dh (eh (dh (wpAny_dictEntries e c ?_)));rw[ej (by simp)];refine dh (eh (dh (wpAny_dictEpoch e c ?_)));rw[ej (by simp)];refine eh ?_;simp only [show¬((i:Int)<0) from by lia,if_false,Int.toNat_natCast,Array.getElem?_eq_getElem h];refine dh ?_
 first|refine dh (wpAny_typeNameOfWhole_keyiter a.typeIs (eh ?_))|refine dh (wpAny_typeNameOf_keyiter a.typeIs (eh ?_))
 refine dh (wpAny_isOneOf_keyiter a.typeIs (show wpAny _ _ (setField (.ref it) 1 (rawInt ((i:Int)+1))>>=_) _ _ s from dh (nr g f (by simp) ?_)));have b:(s.heap.update it (Obj.mapFields (·.setIfInBounds 1 (rawInt ((i:Int)+1))))).IsKeyIter it d (i+1) es.size ep:=(fV _ (py _ g (Obj.isFreed_of_fields (Obj.data_mapFields f _))) ((Obj.cls_mapFields ..).trans k) (by rw[Obj.data_mapFields f];simp[rawInt]));refine dh (kM (dh (wpAny_isOneOf_keyiter (s:={s with heap:=s.heap.update it (Obj.mapFields (·.setIfInBounds 1 (rawInt ((i:Int)+1))))}) b.typeIs ?_)));show wpAny _ _ (pure es[i].key) _ _ _;exact eh (eh (al _ rfl (eh (j _ b (Heap.SameBut.update ..)))))
theorem xl(l:A.handled=none)(c:s.heap.IsKeyIter it d i es.size ep)(f:s.heap.get? d=some od)(e:od.data=.dict es ep)(g:es.size<=i)
  (k:∀h',Heap.ExtBut it s.heap h'->Q none {s with heap:=h'}):wpAny (model prog w) A (pyNext (.ref it)) Q E s:=by
 obtain⟨o,j,n,h⟩:=id c;unfold pyNext;refine dh (wpAny_attempt (lR (name:=Str.ofString "__next__") c.typeIs F.slot_dict_keyiterator_next (ke F.slot_dict_keyiterator_next c.typeIs F.entry_dict_keyiterator_next ?_ (F.args_dict_keyiterator_next_1 _))));refine dh (eh (dh (dh ?_)))
 first|refine dh (wpAny_typeNameOfWhole_keyiter c.typeIs (eh ?_))|refine dh (wpAny_typeNameOf_keyiter c.typeIs (eh ?_))
 refine dh (wpAny_fieldsOf j h ?_);simp only [show Builtin.Dict_items.ownsTuple "dict_keyiterator"=false by decide,Bool.false_eq_true,if_false];show wpAny _ _ (if (Value.ref d==Value.none)=true then _ else _) _ _ s;rw[ej (show¬((Value.ref d==Value.none)=true) from hX)];refine dh (eh (dh (wpAny_dictEntries f e ?_)));rw[ej (by simp)];refine dh (eh (dh (wpAny_dictEpoch f e ?_)));rw[ej (by simp)];refine eh ?_;simp only [show¬((i:Int)<0) from by lia,if_false,Int.toNat_natCast,Array.getElem?_eq_none g];refine dh ?_
 first|refine dh (wpAny_typeNameOfWhole_keyiter c.typeIs (eh ?_))|refine dh (wpAny_typeNameOf_keyiter c.typeIs (eh ?_))
 refine(show wpAny _ _ (setField (.ref it) 0 .none>>=_) _ _ s from dh (nr j h (by simp) ?_));show wpAny _ _ (newExc (.type "StopIteration") []>>=_) _ _ _;refine dh ?_;simp only [newExc,newTuple];refine dh (lG ?_ (by size_fits));refine dh (m:=firstArgMember _ _) (wpAny_of_eq (a:=Value.none) (by first|rfl|(simp only [firstArgMember];rfl)) (lG ?_ (by size_fits)));simp only [raiseNew];refine dh (wpAny_handled ?_);rw[show A.in1.handled=none from l];refine dh (eh (wpAny_throw ?_));refine dh (wpAny_isInstance (T:="StopIteration") (b:=true) (al _ (ig _ rfl) rfl) isSubtype_stop ?_);exact eh (k _ (((Heap.SameBut.update ..).extBut.push _).push _))
def Itn(P:yB)(w:yD)(sh:List Bool)(a:zW)(o:Obj)(kas:List (fZ×zW×V)):It :=⟨λi H=>H a=some (.frz o (ndV P w sh a kas))/\i<kas.length,λi H x b=>b=H/\∃p,kas[i]?=some p/\x=.ref p.2.1,λi H=>H a=some (.frz o (ndV P w sh a kas))/\i=kas.length⟩
theorem Bm(r:KN kas xs):∀{i:Nat}{p:fZ×zW×V},kas[i]?=some p->∃q,xs[i]?=some q/\q.2.1=p.2.1:=by
 unfold KN at r
 induction r with
 |nil=>intro i p e;simp at e
 |@cons p q ps qs h t ih=>
  intro i c e
  cases i with
  |zero=>simp at e;subst e;exact al q rfl h.2.1.symm
  |succ j=>obtain⟨u,b,a⟩:=ih (i:=j) (by simpa using e);exact al u (by simpa using b) a
theorem wB{a:zW}(m:HOk P w H h)(j:H a=some (.frz o (ndV P w sh a kas)))(k:o.data=.dict es ep):
  h.get? a=some o/\es.size=kas.length/\∀(i:Nat)(p:fZ×zW×V)(hi:i<es.size),kas[i]?=some p->es[i].key=.ref p.2.1:=by
 obtain⟨b,⟨z,x,t,r,B,s,g,c,v,d,f,y⟩,_⟩:=(show A1g P w H h a (.frz o (ndV P w sh a kas)) from m a _ j);rw[b]at c;cases c;rw[k]at d;cases d;have A:=Paired.length r;have u:es.size=t.length:=by rw[<-Array.length_toList,f,eH]
 refine fY b (by lia) λi p hi l=>?_;obtain⟨q,n,e⟩:=Bm r l;have:es.toList[i]?=some (entryOfKey (lu P w sh) q):=by rw[f,gP,n];rfl
 rw[Array.getElem?_toList,Array.getElem?_eq_getElem hi]at this;rw[je this,<-e];rfl
theorem Hm(it a:zW)(sh:List Bool)(o:Obj)(kas:List (fZ×zW×V))(es:Array DictEntry)(ep:Nat)(q:o.data=.dict es ep):
  mI P w K tg (Itn P w sh a o kas) [it] it (λi h=>h.IsKeyIter it a i es.size ep) where
 mem:=by simp
 obj:=λi h f b l=>by
  have e:b=it:=by simpa using l
  subst e;obtain⟨j,e,_,d⟩:=f;exact al j e λv z=>by rw[d]at z;cases z
 keep:=λi h r f k=>f.at λj e=>k it (by simp) j e
 item:=by
  intro X A J B N i g s Z H E I t f x;subst A J B;obtain⟨D,M⟩:=x;obtain⟨y,L,S,C,G,u⟩:=t it (by simp);obtain⟨F,R,O⟩:=wB I.hok D q;have m:i<es.size:=by lia
  have n:kas[i]?=some kas[i]:=hB M;refine yu f F q m λr p T=>?_;have I1:Inv X g Z H {s with heap:=r,toks:=s.toks}:=I.turned (t':=s.toks) (λb j l e=>(T.2 b l).trans e) y L C G u
  obtain⟨j,e,c,d⟩:=id p;refine al (es[i].key) rfl (nz (s:={s with heap:=r}) e c d (by decide) (ij (.ref kas[i].2.1) H I1 ?_ (gF rfl (kas[i]) n rfl) p λb l=>(t b l).1))
  rw[O i _ m n];rfl
 done:=by intro X A J B N i g s Z H E I t f x;subst A J B;obtain⟨D,M⟩:=x;obtain⟨y,L,S,C,G,u⟩:=t it (by simp);obtain⟨F,R,O⟩:=wB I.hok D q;exact xl N f F q (by lia) λr Q=>⟨rfl,I.turned (t':=s.toks) (λb j l e=>Q b j l e) y L C G u⟩
 self:=λ_ _ _ _ _ f h=>wpAny_pyIter_keyiter f h
def Cs(P:yB)(w:yD)(tl:TE):TI:=λZ H R=>tl Z H λx d=>∃a c b,x=.ref a/\d a=some (ndV P w c a b)/\∀o,R (Itn P w c a o b) (upd d a (.frz o (ndV P w c a b)))
theorem ER(C:PE X l tl):PI X tg l (Cs X.prog X.w tl):=by
 intro c s Z H R I h;refine thn (C c s Z H _ I h) ?_;rintro u f t;refine mG t ?_;clear t;rintro x i I1 D a g d ⟨A,j,q⟩;subst A;cases D;obtain⟨⟨z,v,K,r,o,n,m,k,y,p,F,J⟩,_⟩:=(show A1g X.prog X.w i f.heap a (ndV X.prog X.w g a d) from I1.hok a _ j);refine ym v k (al o k y.1) p ?_;have I2:Inv X c Z i {f with heap:=f.heap.push {cls:=.type "dict_keyiterator",data:=.fields #[.ref a,.int 0 0,.int n.size 0,.int m 0]},toks:=f.toks}:=I1.kept λb G e=>gk _ e
 have I3:Inv X c Z (upd i a (.frz o (ndV X.prog X.w g a d))) _:=I2.write (t':=f.toks) (h':=f.heap.push {cls:=.type "dict_keyiterator",data:=.fields #[.ref a,.int 0 0,.int n.size 0,.int m 0]}) (e:=a) (by rw[j];trivial) (.inl rfl) (λ_ _ _ e=>e) ⟨o,gk _ k⟩ ⟨gk _ k,(show A1g X.prog X.w i _ a (ndV X.prog X.w g a d) from I2.hok a _ j)⟩;refine i12 _ [f.heap.objs.size] _ _ _ rfl I3 (Hm _ a g o d n m p) ?_ (λb B=>?_) (q o)
 ·exact fV _ (ig _ rfl) rfl rfl
 ·have e:b=f.heap.objs.size:=by simpa using B
  subst e;refine I1.fpOk (gf _) ?_;rw[dF (kd (I1.hok.lt j))];exact I1.hok.fresh (gf _)
theorem Fo{a:zW}{D:lZ}(Pv:Nat->St->Hp->Prop)(h:Pv 0 Z H)(c:∀i Z H,Pv i Z H->H a=some (.frz o (ndV P w sh a kas)))
  (d:∀i p Z H,kas[i]?=some p->Pv i Z H->g (.ref p.2.1) Z H λZ2 H2=>tb {D with nx:=Pv (i+1),ct:=Pv (i+1),bk:=D.nx} Z2 H2) (f:∀Z H,Pv kas.length Z H->D.nx Z H):
  ∃W:Nat->Nat->St->Hp->Prop,(∃m,W 0 m Z H)/\∀i m Z H,W i m Z H->
   ((Itn P w sh a o kas).stop i H/\D.nx Z H)\/((Itn P w sh a o kas).go i H/\∃N:St->Hp->Prop,(∀Z' H',N Z' H'->∃b,b<m/\W (i+1) b Z' H')/\∀x H',(Itn P w sh a o kas).yld i H x H'->g x Z H' λZ2 H2=>tb {D with nx:=N,ct:=N,bk:=D.nx} Z2 H2):=by
 refine al (λi m Z H=>m=kas.length-i/\i<=kas.length/\Pv i Z H) (fV kas.length (by simp) (iG _) h) ?_;rintro i m Z H ⟨rfl,l,p⟩;by_cases hlt:i<kas.length
 ·refine .inr (gF ⟨c i Z H p,hlt⟩ (Pv (i+1)) (λZ' H' k=>(iV (kas.length-(i+1)) (by lia) rfl hlt k)) ?_);rintro x H' ⟨e,q,j,rfl⟩;subst e;exact d i q Z _ j p
 ·have e:i=kas.length:=by lia
  subst e;exact .inl ⟨⟨c _ Z H p,rfl⟩,f Z H p⟩
theorem Inv.thawU{a:zW}{u:HO}(I:Inv X pins Z H s)(f:H a=some (.frz o u))(t:∀o' k,X.H₀ a≠some (.frz o' k)):Inv X pins Z (upd H a u) s:=by
 have h:∀b,H b=none->upd H a u b=none:=λb e=>by rw[dF (λz=>by subst z;rw[f]at e;cases e)];exact e
 have l:∀b d,H b=some (.tup d)->upd H a u b=some (.tup d):=λb d q=>by rw[dF (gg q f (by intro z;cases z))];exact q
 have m:∀b c,H b=some (.own c)->upd H a u b=some (.own c):=λb c q=>by rw[dF (gg q f (by intro z;cases z))];exact q
 refine⟨I.ok,I.os,I.bare,⟨I.base.keep,I.base.slot,λb j e n r=>h b (I.base.free b j e n r),I.base.there,λb d e=>l b d (I.base.tups b d e),λb j k e=>?_,λb y e=>?_⟩,I.loc,I.cell,h _ I.free,λx c e=>h _ (I.freeC x c e),
  λp i=>(fY ((I.pin p i).1) (h _ (I.pin p i).2.1) ((I.pin p i).2.2)),λb v e=>?_,I.len⟩
 ·have q:=I.base.frzs b j k e;rw[dF (λz=>by subst z;exact t _ _ e)];exact q
 ·obtain⟨g,q⟩:=I.base.tbls b y e;exact⟨g,by rw[dF (gg q f (by intro z;cases z))];exact q⟩
 ·by_cases hb:b=a
  ·subst hb;rw[ee]at e;cases e;obtain⟨_,q⟩:=(show A1g X.prog X.w H s.heap b (.frz o u) from I.hok b _ f);exact q.stay (λ_ _ _ q=>q) (λc q=>m c b q) λc d q=>l c d q
  ·rw[dF hb]at e;exact(I.hok b v e).stay (λ_ _ _ q=>q) (λc q=>m c b q) λc d q=>l c d q
def CY(X:Cx)(t:TS):TS:=λD Z H=>∃a o u,H a=some (.frz o u)/\(∀c b,X.H₀ a≠some (.frz c b))/\t D Z (upd H a u)
theorem vj{t:TS}(h:PSs X sts t):PSs X sts (CY X t):=by intro b s Z H D I e;obtain⟨a,o,u,c,d,q⟩:=e;exact h b s Z _ D (I.thawU c d) q
def CI(X:Cx)(td ty:TE):TE:=λZ H Q=>td Z H λx f=>ty Z f λy d=>∃a b e o c k v,x=.ref a/\y=.ref b/\d a=some (.frz o (ndV X.prog X.w e a c))/\(∀h g,X.H₀ a≠some (.frz h g))/\(∀p∈c,p.1.map Sum.isLeft=e/\A1w d p.1 p.2.1)/\A1w d k b/\k.map Sum.isLeft=e/\fy (c.map λp=>(p.1,p.2.2)) k=some v/\Q v d
theorem uX{o i:yC}(hu:X.A.units+9<cLine)(T:PE X o td)(hi:PE X i ty)(O:rE i):PE X (.Subscript o i pos) (CI X td ty):=by
 intro f s Z H Q I h;refine uM PySem.F.slot_dict_getitem.lookup O (thn (T f s Z H _ I h) ?_);rintro u Y ⟨x,W,I1,rx,S⟩;refine thn (hi f Y Z W _ I1 S) ?_;rintro U s2 K;refine mG K ?_;clear K;rintro y r I2 R a b m ⟨ob,d,k,v,E,ey,L,h0,g,t,B,l,P⟩;subst E ey;obtain rfl:u=Value.ref a:=rx;obtain rfl:U=Value.ref b:=R;have I3:=I2.thawU L h0;have N:∀c j,r c=some (.tup j)->upd r a (ndV X.prog X.w m a d) c=some (.tup j):=λc j e=>by rw[dF (gg e L (by intro z;cases z))];exact e
 have M:A3t X.prog X.w m (upd r a (ndV X.prog X.w m a d)) a (d.map λp=>(p.1,p.2.2)):=(fV d ee rfl λp q=>⟨(g p q).1,(g p q).2.keeps N⟩);refine⟨M.typeIs I3,?_⟩;refine jo (M.at I3.hok) ?_;rintro J j e hb n ⟨z,hd,C,dd⟩;obtain⟨w',hw,D⟩:=B2g.some_of (v:=v) (o:=(atKey j k).map (·.2)) (by rw[<-l,<-hb];exact C.val k);obtain⟨p,q,G⟩:=lI.mp hw;refine wpAny_getItem_heap (knd:=lu X.prog X.w m) (show X.A.units+1+8<cLine by lia) ⟨B,(t.keeps N).is I3.hok⟩ dd q ?_;rw[G];exact el v r (I2.tok _) D P
def qf(a:zW)(o:Obj)(kvs:List (List Key×V)):It :=⟨λi H=>H a=some (.frz o (.dT kvs))/\i<kvs.length,λi H x b=>b=H/\∃k,kvs[i]?=some (k,x),λi H=>H a=some (.frz o (.dT kvs))/\i=kvs.length⟩
theorem wF{a:zW}(I:Inv X pins Z H s)(b:H a=some (.frz o (.dT kvs)))(e:o.data=.dict es ep):qh s.heap a es ep/\A2f (kvs.map (·.2)) (es.toList.map (·.val)):=by obtain⟨_,_,i,j,⟨k,d,g,f⟩,h⟩:=vy I (.inr (al kvs (.inr ⟨o,b⟩) rfl));obtain⟨c,_⟩:=(show A1g X.prog X.w H s.heap a (.frz o (.dT kvs)) from I.hok a _ b);rw[c]at d;cases d;rw[e]at f;cases f;exact⟨(fV o c g e),h⟩
theorem Iw(it a:zW)(o:Obj)(kvs:List (List Key×V))(es:Array DictEntry)(ep:Nat)(O:o.data=.dict es ep):
  mI P w K tg (qf a o kvs) [it] it (λi h=>h.IsValIter it a i es.size ep) where
 mem:=by simp
 obj:=λi h g b m=>by
  have e:b=it:=by simpa using m
  subst e;obtain⟨l,e,_,d⟩:=g;exact al l e λv z=>by rw[d]at z;cases z
 keep:=λi h q g k=>g.at λl e=>k it (by simp) l e
 item:=by
  intro X B M C S i j s Z H E I r g y;subst B M C;obtain⟨F,R⟩:=y;obtain⟨A,N,f2,D,J,t⟩:=r it (by simp);obtain⟨f,G⟩:=wF I F O;obtain⟨⟨k,v⟩,hkv⟩:∃p,kvs[i]?=some p:=⟨kvs[i],by simp[R]⟩;obtain⟨u,Q,W⟩:=G.get (i:=i) (x:=v) (by rw[gP,hkv];rfl);rw[gP]at Q;obtain⟨d,T,ed⟩:=lI.mp Q;have L:es[i]?=some d:=by rw[<-Array.getElem?_toList];exact T
  refine HW g f L λq n sb=>?_;have I1:Inv X j Z H {s with heap:=q,toks:=s.toks}:=I.turned (t':=s.toks) (λb l m e=>(sb.2 b m).trans e) A N D J t
  obtain⟨l,e,c,d'⟩:=id n;exact al d.val rfl (nz (s:={s with heap:=q}) e c d' (by decide) (ij v H I1 (by rw[ed];exact W) (iN rfl k hkv) n λb m=>(r b m).1))
 done:=by intro X B M C S i j s Z H E I r g y;subst B M C;obtain⟨F,R⟩:=y;obtain⟨A,N,f2,D,J,t⟩:=r it (by simp);obtain⟨f,G⟩:=wF I F O;have Y:=G.length;rw[eH,eH]at Y;have a0:es.toList.length=es.size:=Array.length_toList;exact GS S g f (by lia) λq U=>⟨rfl,I.turned (t':=s.toks) (λb l m e=>U b l m e) A N D J t⟩
 self:=λ_ _ _ _ _ g h=>wpAny_pyIter_valiter g h
def EX(tl:TE):TI:=λZ H R=>tl Z H λx c=>∃v a b,x=.ref v/\c v=some (mP v a)/\c a=some (.dT b)/\∀o,R (qf a o b) (upd c a (.frz o (.dT b)))
theorem GR(A:PE X l tl):PI X tg l (EX tl):=by
 intro c s Z H R I h;refine thn (A c s Z H _ I h) ?_;rintro u d n;refine mG n ?_;clear n;rintro x p I1 B v a f ⟨t,y,g,q⟩;subst t;cases B;obtain⟨r,_⟩:=(show A1g X.prog X.w p d.heap v (mP v a) from I1.hok v _ y);obtain⟨_,_,m,k,⟨o,j,C,i⟩,F⟩:=vy I1 (.inr (al f (.inl g) rfl));refine Ic r (fV o j C i) ?_;have I2:Inv X c Z p {d with heap:=d.heap.push {cls:=.type "dict_valueiterator",data:=.fields #[.ref a,.int 0 0,.int m.size 0,.int k 0]},toks:=d.toks}:=I1.kept λb D e=>gk _ e
 have I3:=I2.frozenD g (.inr ⟨_,rfl⟩) (gk _ j);refine i12 _ [d.heap.objs.size] _ _ _ rfl I3 (Iw _ a o f m k i) (fV _ (ig _ rfl) rfl rfl) (λb z=>?_) (q o);have e:b=d.heap.objs.size:=by simpa using z
 subst e;refine I1.fpOk (gf _) ?_;rw[dF (kd (I1.hok.lt g))];exact I1.hok.fresh (gf _)
theorem Hw{a:zW}{D:lZ}(Pv:Nat->St->Hp->Prop)(j:Pv 0 Z H)(c:∀i Z H,Pv i Z H->H a=some (.frz o (.dT kvs)))
  (d:∀i k v Z H,kvs[i]?=some (k,v)->Pv i Z H->g v Z H λZ2 H2=>tb {D with nx:=Pv (i+1),ct:=Pv (i+1),bk:=D.nx} Z2 H2) (f:∀Z H,Pv kvs.length Z H->D.nx Z H):
  ∃W:Nat->Nat->St->Hp->Prop,(∃m,W 0 m Z H)/\∀i m Z H,W i m Z H->
   ((qf a o kvs).stop i H/\D.nx Z H)\/((qf a o kvs).go i H/\∃N:St->Hp->Prop,(∀Z' H',N Z' H'->∃b,b<m/\W (i+1) b Z' H')/\∀x H',(qf a o kvs).yld i H x H'->g x Z H' λZ2 H2=>tb {D with nx:=N,ct:=N,bk:=D.nx} Z2 H2):=by
 refine al (λi m Z H=>m=kvs.length-i/\i<=kvs.length/\Pv i Z H) (fV kvs.length (by simp) (iG _) j) ?_;rintro i m Z H ⟨rfl,n,p⟩;by_cases hlt:i<kvs.length
 ·refine .inr (gF ⟨c i Z H p,hlt⟩ (Pv (i+1)) (λZ' H' l=>(iV (kvs.length-(i+1)) (by lia) rfl hlt l)) λx H' y=>?_);obtain⟨e,k,h⟩:=y;subst e;exact d i k x Z _ h p
 ·have e:i=kvs.length:=by lia
  subst e;exact .inl ⟨⟨c _ Z H p,rfl⟩,f Z H p⟩
theorem Ab:∀{vs:zH}{a:zI},IntsAre vs a->∃xs:List (Int×Tok),vs=xs.map (λp=>Value.int p.1 p.2)/\a=xs.map (·.1)|_,_,.nil=>(al [] rfl rfl)|_,_,.cons n t r=>by obtain⟨xs,c,b⟩:=Ab r;exact al ((n,t)::xs) (by rw[c];rfl) (by rw[b];rfl)
theorem GB(N:X.calm=true):mN X (.builtin "max") (λvs H Q=>∃(a:zW)(d:zI),vs=[V.ref a]/\SqL X.K H a (d.map V.int)/\0<d.length/\∀m:Int,m∈d->(∀k∈d,k<=m)->Q (.int m) H):=by
 intro w s Z H vs Y Q I r h;obtain⟨a,d,rfl,R,p,q⟩:=h;obtain⟨u,rfl,G⟩:=mR r;cases G;obtain⟨l,J,B,_⟩:=I.list R;obtain⟨c,A,x⟩:=Ab (vu J)
 have M:s.heap.IsList a (PySem.intItems c.toArray):=by
  have:PySem.intItems c.toArray=l.toArray:=by rw[A];simp[PySem.intItems]
  rw[this];exact B.isList
 have E:d.length=c.length:=by rw[x,eH]
 refine PySem.max_intList (I.ok.hd N) M (by simpa using (by lia:0<c.length)) λv W D F L=>?_;obtain⟨O,y⟩:=PySem.argBest_gt (PySem.numAt c.toArray) (c.toArray.size-1);obtain⟨t,rfl⟩:=PySem.intItems_at F
 have f:∀i,i<c.length->∃n,d[i]?=some n/\PySem.numAt c.toArray i=n:=λi e=>by refine al (c[i].1) (by rw[x,gP,hB e];rfl) ?_;unfold PySem.numAt;simp[e]
 generalize PySem.argBest (λi j=>decide (PySem.numAt c.toArray i>PySem.numAt c.toArray j)) (c.toArray.size-1)=b at O y;have U:c.toArray.size=c.length:=iD;obtain⟨n,P,z⟩:=f b (by lia);refine el (.int (PySem.numAt c.toArray b)) H (I.kept (t':=D) L) ⟨t,rfl⟩ (q _ ?_ λk S=>?_)
 ·rw[z];exact gT P
 ·obtain⟨i,e⟩:=List.getElem?_of_mem S;have C:=(gG.mp e).1;obtain⟨T,g,o⟩:=f i (by lia);rw[e]at g;cases g;have:=y i (by lia);rw[o]at this;exact this
theorem Gw:MtM X "list.index" (λx vs H Q=>∃(l:zW)(a:zI)(k:Int),x=.ref l/\vs=[.int k]/\H l=some (.lst (a.map V.int))/\k∈a/\Q (.int (a.idxOf k:Nat)) H):=by
 intro m s Z H x vs v D Q I w p h;refine gE h ?_;clear h;rintro l a k rfl rfl o ⟨A,q⟩;cases w;obtain⟨u,rfl,t,rfl⟩:=mR p;obtain⟨z,b,n,r,C,e⟩:=I.lstM o;have d:=vu r;have c:=d.length;have i:a.idxOf k<a.length:=List.idxOf_lt_length_iff.mpr A;rw[eH,sizeLine_eq]at z
 refine call_meets PySem.F.slot_list_index (al _ e rfl) PySem.F.entry_list_index (PySem.F.args_list_index_2 _ _)
  (SeqAt.list_indexAt l b.toArray n none #[] (.int k t) (isInt k) (a.idxOf k) (by simpa[c]using i) (by lia) ?_ ?_) ⟨e,(iU (λy B=>(eq_isInt k t d y (by simpa using B)).at _ _) (.int (a.idxOf k:Nat)) H (I.tok _) ⟨_,rfl⟩ q)⟩
 ·show isInt k b[a.idxOf k]=true;rw[isInt_at k d _ (by lia) i]
  simpa using List.getElem_idxOf i
 ·intro j g f;show isInt k b[j]=false;rw[isInt_at k d j (by simpa using g) (by lia)];exact ne_of_lt_idxOf f _
theorem Ia(n:Nat)(Pv:Nat->List V->Hp->Prop)(l:Pv 0 [] (upd H D (.lst [])))(h:∀i ys H,i<n->Pv i ys H->J.go i H)(f:∀ys H,Pv n ys H->J.stop n H)
  (j:∀i ys H,i<n->Pv i ys H->∀x c,J.yld i H x c->g x Z₀ c λZ4 H4=>A2q Z₀ Z4/\tc Z4 H4 λb a=>if b=true then te Z4 a (λy a=>a D=some (.lst ys)/\ys.length<sizeLine/\Pv (i+1) (ys++[y]) (upd a D (.lst (ys++[y]))))else Pv (i+1) ys a) (k:∀ys H,Pv n ys H->QD H):
  ∃W:Nat->Nat->Hp->Prop,(∃m,W 0 m (upd H D (.lst [])))/\∀i m H2,W i m H2->
   (J.stop i H2/\QD H2)\/(J.go i H2/\∃(N:VK)(M:Hp->Prop),(∀y a,N y a->∃xs,a D=some (.lst xs)/\xs.length<sizeLine/\∃d,d<m/\W (i+1) d (upd a D (.lst (xs++[y]))))/\(∀a,M a->∃d,d<m/\W (i+1) d a)/\
    ∀x c,J.yld i H2 x c->g x Z₀ c λZ4 H4=>A2q Z₀ Z4/\tc Z4 H4 λb a=>if b=true then te Z4 a N else M a):=by
 refine al (λi m H=>m=n-i/\i<=n/\∃ys,Pv i ys H) (pj n (by simp) (iG _) [] l) ?_;rintro i m H2 ⟨rfl,o,ys,p⟩;by_cases hlt:i<n
 ·exact .inr (iU (h i ys H2 hlt p) (λy a=>a D=some (.lst ys)/\ys.length<sizeLine/\Pv (i+1) (ys++[y]) (upd a D (.lst (ys++[y])))) (λa=>Pv (i+1) ys a) (λy a q=>(p5 ys q.1 q.2.1 (n-(i+1)) (by lia) rfl hlt _ q.2.2)) (λa q=>(iV (n-(i+1)) (by lia) rfl hlt ⟨_,q⟩)) λx c z=>j i ys H2 hlt p x c z)
 ·have e:i=n:=by lia
  subst e;exact .inl ⟨f ys H2 p,k ys H2 p⟩
def CG(X:Cx)(t:TE):TE:=λZ H Q=>t Z H λv b=>∃a o u,b a=some (.frz o u)/\(∀d c,X.H₀ a≠some (.frz d c))/\Q v (upd b a u)
theorem EH{t:TE}(h:PE X e t):PE X e (CG X t):=by intro b s Z H Q I i;refine thn (h b s Z H _ I i) ?_;rintro u k c;refine mG c ?_;clear c;rintro v j I1 f a o w ⟨d,g,q⟩;exact el v _ (I1.thawU d g) f q
section
variable{k:Nat}
theorem Hv:bootBuiltins "sorted"=some (.builtin "sorted"):=by decide+kernel
end
section
open PySem.SeqAt
open PySem.AutoSeq1 (wpAny_loadPart')
open PySem.MeetsSeq PySem.MeetsSeq2 PySem.MeetsSeq3
set_option maxRecDepth 8000 in
end
def rEqN(c:Bool):V->V->Hp->VK->Prop:=λx y H Q=>∃(a b:zW)(d:zM),x=.ref a/\y=.ref b/\H a=some (.lst d)/\H b=some (.lst [])/\Q (.bl (d.isEmpty != c)) H
theorem yx(t:X.A.units+64<cLine):OpR X (compareOp .Eq) (rEqN false):=by
 intro c s Z H x y v u Q I o i h;refine gE h ?_;clear h;rintro a b p rfl rfl j ⟨l,q⟩
 cases p with
 |nil=>exact Cr t c s Z H _ _ v u Q I o i (ij (.list []) (.list []) (.lst j .nil) (.lst l .nil) rfl rfl q)
 |cons z p=>
  cases o
  cases i
  obtain⟨B,g,n,r,m,e⟩:=I.lstM j;obtain⟨C,f,w,D,d,k⟩:=I.lstM l
  exact richCompare_meets_room (op:=.Eq) (al _ e rfl) (al _ k rfl) PySem.F.slot_list_eq PySem.F.entry_list_eq (PySem.F.args_list_eq_2 _ _) (AutoSeq1.list___eq___list_list_0 a g.toArray n b f.toArray w (by rw[iZ]at m;rw[nn]at d;simp only [iD,<-m,<-d];rfl)) (fY e k (show Value.bool false≠Value.notImplemented/\EP X c Z Q (.bool false) s from (iU (λx=>nomatch x) (.bl false) H I rfl q))) (by lia)
theorem Ha{a:zI}(h:IntsAre us a):A2f (a.map V.int) us:=by
 induction h with
 |nil=>exact .nil
 |cons _ _ _ ih=>exact .cons ⟨_,rfl⟩ ih
def B5(K:Frag):zM->Hp->VK->Prop:=λc H Q=>∃(p:zW)(b:zI),c=[.ref p]/\SqL K H p (b.map V.int)/\b.length<64/\∀a:zI,a.Perm b->∀l,H l=none->Q (.ref l) (upd H l (.lst (a.map V.int)))
theorem GU{t:TA}(A:Gl X "sorted")(y:X.mg "sorted"=none)(G:PA X [e] t)
  (k:backTo pos (starEach [e] X.env)=(false,eval e X.env)::backTo pos (starEach [] X.env):=by rfl) (i:(backTo pos (starEach [e] X.env)).any (·.1)=false:=by rfl):
  PE X (.Call (.Name "sorted" p) [e] [⟨some (Str.ofString "reverse"),.Constant (.bool true) j v,kpos⟩] pos) (tCB (B5 X.K) t):=by
 intro d s Z H Q I h;refine wpAny_Call_Name_kw (nF I A y Hv ?_);refine callWith_kw (thn (G pos d s Z H _ I h) ?_) k i;rintro N b n;refine nP n ?_;clear n;rintro P D I1 B ⟨p,O,rfl,w,r,C⟩;obtain⟨u,rfl,J⟩:=mR B;cases J;refine kws_cons (Constant_bool (kws_nil ?_));obtain⟨f,q,z,M⟩:=I1.list w;refine sorted_ints_rev z.isList (vu q) (by rw[<-q.length,eH];exact r) λa g x m R=>?_;obtain⟨c,F⟩:=sortedAll_at b.heap f a;have L:b.heap.get? (b.heap.objs.size+1)=none:=Heap.get?_none_of_le (Nat.le_succ _);have l:D (b.heap.objs.size+1)=none:=I1.hok.fresh (Nat.le_succ _);have I2:=I1.kept (t':=b.toks) (h':=sortedAll b.heap f a) λ_ _=>sortedAll_old;refine el (.ref _) _ (I1.trackO (o:=.lst (g.map V.int)) I2 L l ?_) rfl (C g m _ l);refine kc ?_ a.toList c (Ha x) (by rw[F]);rw[eH,m.length_eq];exact iS (by lia)
def qg(a:zW)(o:Obj)(u:HO)(L:List (V×V)):It :=⟨λi H=>H a=some (.frz o u)/\i<L.length,λi H x b=>b=H/\∃p,L[i]?=some p/\x=p.1,λi H=>H a=some (.frz o u)/\i=L.length⟩
theorem GJ(it a:zW)(o:Obj)(kvs:List (List Key×V))(L:List (V×V))(es:Array DictEntry)(ep:Nat)(O:o.data=.dict es ep)(J:oE es L):
  mI P w K tg (qg a o (.dT kvs) L) [it] it (λi h=>h.IsKeyIter it a i es.size ep) where
 mem:=by simp
 obj:=λi h f b l=>by
  have e:b=it:=by simpa using l
  subst e;obtain⟨j,e,_,d⟩:=f;exact al j e λv z=>by rw[d]at z;cases z
 keep:=λi h q f k=>f.at λj e=>k it (by simp) j e
 item:=by
  intro X A M B R i g s Z H E I r f u;subst A M B;obtain⟨D,Q⟩:=u;obtain⟨y,N,f2,C,G,t⟩:=r it (by simp);obtain⟨F,_⟩:=(show A1g X.prog X.w H s.heap a (.frz o (.dT kvs)) from I.hok a _ D);have hl:es.toList.length=L.length:=Paired.length J;have m:i<es.size:=by rw[<-Array.length_toList];lia
  have n:L[i]?=some L[i]:=hB Q;have W:es.toList[i]?=some es[i]:=by rw[Array.getElem?_toList,Array.getElem?_eq_getElem m]
  have Y:A2c L[i].1 es[i].key:=by obtain⟨x,S,U,_⟩:=vh J n;rw[W]at S;cases S;exact U
  refine yu f F O m λq p sb=>?_;have I1:Inv X g Z H {s with heap:=q,toks:=s.toks}:=I.turned (t':=s.toks) (λb j l e=>(sb.2 b l).trans e) y N C G t
  obtain⟨j,e,c,d⟩:=id p;exact al (es[i].key) rfl (nz (s:={s with heap:=q}) e c d (by decide) (ij (L[i].1) H I1 Y (gF rfl (L[i]) n rfl) p λb l=>(r b l).1))
 done:=by intro X A M B R i g s Z H E I r f u;subst A M B;obtain⟨D,Q⟩:=u;obtain⟨y,N,f2,C,G,t⟩:=r it (by simp);obtain⟨F,_⟩:=(show A1g X.prog X.w H s.heap a (.frz o (.dT kvs)) from I.hok a _ D);have hl:es.toList.length=L.length:=Paired.length J;exact xl R f F O (by rw[<-Array.length_toList];lia) λq T=>⟨rfl,I.turned (t':=s.toks) (λb j l e=>T b j l e) y N C G t⟩
 self:=λ_ _ _ _ _ f h=>wpAny_pyIter_keyiter f h
def CN(tl:TE):TI:=λZ H R=>tl Z H λx c=>∃a b,x=.ref a/\c a=some (.dT b)/\∀o L,KL c b L->R (qg a o (.dT b) L) (upd c a (.frz o (.dT b)))
theorem EW(C:PE X l tl):PI X tg l (CN tl):=by
 intro c s Z H R I h;refine thn (C c s Z H _ I h) ?_;rintro u d p;refine nP p ?_;clear p;rintro x r I1 D ⟨a,f,z,j,q⟩;subst z;cases D;refine jR (show A1g X.prog X.w r d.heap a (.dT f) from I1.hok a _ j) ?_;rintro J t M k o i n g ⟨G,m,y,_⟩;obtain⟨L,B,v⟩:=ur (P:=X.prog) (w:=X.w) k;have F:oE i L:=by unfold oE;rw[y];exact B
 refine ym t g (al o g G.1) m ?_;have I2:Inv X c Z r {d with heap:=d.heap.push {cls:=.type "dict_keyiterator",data:=.fields #[.ref a,.int 0 0,.int i.size 0,.int n 0]},toks:=d.toks}:=I1.kept λb K e=>gk _ e
 have I3:=I2.frozenD j (.inr ⟨_,rfl⟩) (gk _ g);refine i12 _ [d.heap.objs.size] _ _ _ rfl I3 (GJ _ a o f L i n m F) ?_ (λb A=>?_) (q o L v)
 ·exact fV _ (ig _ rfl) rfl rfl
 ·have e:b=d.heap.objs.size:=by simpa using A
  subst e;refine I1.fpOk (gf _) ?_;rw[dF (kd (I1.hok.lt j))];exact I1.hok.fresh (gf _)
theorem GA{a:zW}{u:HO}{D:lZ}(Pv:Nat->St->Hp->Prop)(h:Pv 0 Z H)(c:∀i Z H,Pv i Z H->H a=some (.frz o u))
  (d:∀i p Z H,L[i]?=some p->Pv i Z H->g p.1 Z H λZ2 H2=>tb {D with nx:=Pv (i+1),ct:=Pv (i+1),bk:=D.nx} Z2 H2) (f:∀Z H,Pv L.length Z H->D.nx Z H):
  ∃W:Nat->Nat->St->Hp->Prop,(∃m,W 0 m Z H)/\∀i m Z H,W i m Z H->
   ((qg a o u L).stop i H/\D.nx Z H)\/((qg a o u L).go i H/\∃N:St->Hp->Prop,(∀Z' H',N Z' H'->∃b,b<m/\W (i+1) b Z' H')/\∀x H',(qg a o u L).yld i H x H'->g x Z H' λZ2 H2=>tb {D with nx:=N,ct:=N,bk:=D.nx} Z2 H2):=by
 refine al (λi m Z H=>m=L.length-i/\i<=L.length/\Pv i Z H) (fV L.length (by simp) (iG _) h) ?_;rintro i m Z H ⟨rfl,l,p⟩;by_cases hlt:i<L.length
 ·refine .inr (gF ⟨c i Z H p,hlt⟩ (Pv (i+1)) (λZ' H' k=>(iV (L.length-(i+1)) (by lia) rfl hlt k)) ?_);rintro x H' ⟨e,q,j,rfl⟩;rw[e];exact d i q Z H j p
 ·have e:i=L.length:=by lia
  subst e;exact .inl ⟨⟨c _ Z H p,rfl⟩,f Z H p⟩
open PySem PySem.Spec PyProof.Rows PySem.W
def rInD(K:Frag):R2:=λx y H Q=>∃(p:zW)(c:zM)(a:V->PyData)(d:PyData),y=.ref p/\SqL K H p c/\Rep H x d/\SeqAt.shaped d=true/\(∀v∈c,∃b,v=.ref b/\Rep H v (a v)/\SeqAt.shaped (a v)=true)/\Q (.bl (c.any λv=>PyData.eqv (a v) d)) H
def fOf(b:V->PyData)(d:PyData):zX->Bool|.ref a=>PyData.eqv (b (.ref a)) d|_=>false
theorem xS{a:V->PyData}{d:PyData}:∀{xs:zM}{us:zH},A2f xs us->(∀v∈xs,∃b,v=.ref b)->us.any (fOf a d)=xs.any λv=>PyData.eqv (a v) d|_,_,.nil,_=>rfl|y::xs,u::us,.cons r t,f=>by obtain⟨b,rfl⟩:=f y lD;cases r;rw[List.any_cons,List.any_cons,xS t λv c=>f v (lF _ c)];rfl
theorem CK(M:X.A.units+70<cLine):OpR X (compareOp .In) (rInD X.K):=by
 intro j s Z H x y v u Q I t f h;refine jd h ?_;clear h;rintro p N g d rfl B D z ⟨c,q⟩;cases f;obtain⟨L,n⟩:=qN I D t;obtain⟨a,r,l,G⟩:=I.list B;refine SeqAt.in_listAt (fOf g d) l.isList (λw i=>?_) (el (.bl _) H I rfl ?_)
 ·have i:w∈a:=by simpa using i
  obtain⟨y,F,f⟩:=EV r w i;obtain⟨b,rfl,m,k⟩:=c y F;obtain⟨J,C⟩:=qN I m f;cases f;exact keq_at C n k z (by show X.A.units+1+64<cLine;lia)
 ·rw[show a.toArray.any (fOf g d)=a.any (fOf g d)by simp,xS r λv o=>by obtain⟨b,e,_⟩:=c v o;exact⟨b,e⟩];exact q
structure RS(X:Cx)(sts:List Stmt)(t:TS):Prop where
 r:PSs X sts t
structure R1(X:Cx)(st:Stmt)(t:TS):Prop where
 r:PS X st t
section
variable{t:TS}
theorem fa(h1:R1 X st t)(h2:RS X rest u):RS X (st::rest) (vU t u):=⟨jO h1.r h2.r⟩
theorem oA(h1:R1 X st t)(h2:RS X rest u):RS X (st::rest) (vZ t u):=⟨x0 h1.r h2.r⟩
theorem fC(h1:R1 X st t):RS X [st] t:=⟨jN h1.r⟩
theorem gZ(f:PT X c tc)(d:RS X a t)(e:RS X b u):R1 X (.If c a b pos) (tQ tc t u):=⟨pK f d.r e.r⟩
theorem gq(a:PE X e te):R1 X (.Return (some e) pos) (wb te):=⟨ms a⟩
theorem gx(i:Nat)(c:X.N.Nodup)(d:PE X e te)(hi:X.N[i]?=some x:=by exact rfl)(f:Loc X.env.scope x:=by exact .inl rfl)(a:swapsWith e (some (.Name x pos')) pos.line X.env=pure false:=by exact rfl)(b:X.fn x=true\/X.env.scope.names.lookup x=some .local:=by exact .inl rfl):R1 X (.Assign [.Name x pos'] e pos) (q7 te (m6 i)):=⟨mS c hi f d a b⟩
theorem iA(hi:PI X tg iter wi)(c:PG X tg g)(b:RS X body tb)(e:PassesOwn (model X.prog X.w) X.A X.env X.xe:=by exact PassesOwn.never)(d:X.calm=true:=by exact rfl)(a:∀x,foldedSetIterable iter X.env x=pure x:=by intro _;rfl):R1 X (.For tg iter body [] pos) (tU wi g tb):=⟨oR e d hi c b.r a⟩
end
end L2
namespace My
open PySem L2
variable{ix:zL}{e:LnM}{xs vs:zM}{ys ps os nm tb:zC}{a p d HD:zW}{b M:Int}{c ls fs' dn:zI}{n i T j gp:Nat}{cs:List zI}{rows:List LnM}{H H' G G' Pd:Hp}{rs:List (Str×List Int)}{f l:Cl->Int}{g:Str×List Int->Int}{r:Str×List Int}{tk:List (Cl×Int)}{x:Str}{X:Cx}{fd:zS}{es:zB}{pos:Pos}{o u:HO}{P:yB}{w:yD}{K:Frag}{v:V}{A:Adr}{S:Spn}{S':zV}{kvs lk ak:zJ}{s:Stp}{L:zR}{sh:List Bool}{W:Str->List zI}{ss pend dl:List Stp}{da:Str->zW}
inductive Op3|plus|minus|times
inductive Tm|num (z:Int)|place (x:Str)|read (a:Str) (ix:zL)|sum (x:Str) (b:Tm)|pair (k:Op3) (l r:Tm)|guard (x:Str) (lo hi:Int) (l r:Tm)
def lW(e:Str×Int):PyData:=.tuple [.str e.1,.int e.2]
def nB(ix:zL):PyData:=.list (ix.map lW)
def dep:Tm->Nat|.sum _ b=>dep b+1|.pair _ l r=>max (dep l) (dep r)+1|.guard _ _ _ l r=>max (dep l) (dep r)+1|_=>1
theorem Df:∀t:Tm,1<=dep t|.num z=>by simp[dep]|.place x=>by simp[dep]|.read a ix=>by simp[dep]|.sum x b=>by simp[dep]|.pair k l r=>by simp[dep]|.guard x lo hi l r=>by simp[dep]
def Axs(A:zC):Tm->Prop|.num _=>True|.place x=>x∈A|.read _ ix=>∀e∈ix,e.1=""\/e.1∈A|.sum x b=>x∈A/\Axs A b|.pair _ l r=>Axs A l/\Axs A r|.guard x _ _ l r=>x∈A/\Axs A l/\Axs A r
theorem Ff:PyData.depth (nB ix)<=2:=by
 have h:∀l:zL,PyData.depthAll (l.map lW)<=1:=by
  intro l
  induction l with
  |nil=>simp[PyData.depthAll]
  |cons e r ih=>simp[lW,PyData.depthAll,PyData.depth]at *;lia
 have:=h ix;simp only [nB,PyData.depth]
 lia
theorem Cm:cnt (nB ix)<=1+3*ix.length:=by
 have h:∀l:zL,kS (l.map lW)<=3*l.length:=by
  intro l
  induction l with
  |nil=>simp[kS]
  |cons e r ih=>simp only [lW,kS,cnt,gw,iZ]at *;lia
 have:=h ix;simp only [nB,cnt]
 lia
section
variable{G:Hp}{v:V}
theorem CW{e:Str×Int}(h:Rep G v (lW e)):∃p,v=.ref p/\G p=some (.tup [.str e.1,.int e.2]):=by obtain⟨p,i,rfl,q,r⟩:=Dk (show Rep G v (.tuple [.str e.1,.int e.2]) from h);obtain⟨a,f,rfl,c,r⟩:=zt r;obtain⟨b,g,rfl,d,r⟩:=zt r;cases EA r;cases DY c;cases xN d;exact al p rfl q
end
noncomputable def jx(cs:List zI)(n:Int):List zI:=cs.flatMap λc=>(List.range n.toNat).map λ(k:Nat)=>c++[(k:Int)]
def gl(ls:zI):List zI:=ls.foldl jx [[]]
def ib(ls:zI):Int:=ls.foldl (·* ·) 1
theorem sX(ls:zI)(n:Int):gl (ls++[n])=jx (gl ls) n:=by unfold gl;rw[List.foldl_append];rfl
theorem Hf(ls:zI)(n:Int):ib (ls++[n])=ib ls*n:=by unfold ib;rw[List.foldl_append];rfl
theorem Ao(cs:List zI)(n:Int):(jx cs n).length=cs.length*n.toNat:=by
 induction cs with
 |nil=>simp[jx]
 |cons c r ih=>
  have:jx (c::r) n=((List.range n.toNat).map λ(k:Nat)=>c++[(k:Int)])++jx r n:=by simp[jx]
  rw[this,gz,ih,eH,List.length_range,iZ,Nat.succ_mul];lia
def A9k(xs ys:zI):Prop:=∃(j:Nat)(x y:Int),xs[j]?=some x/\ys[j]?=some y/\x<y/\∀i:Nat,i<j->xs[i]?=ys[i]?
theorem A9k.snoc{xs ys:zI}(h:A9k xs ys)(a b:Int):A9k (xs++[a]) (ys++[b]):=by
 refine gE h λj x y d c l e=>?_;clear h;have g:j<xs.length:=(gG.mp d).1;have f:j<ys.length:=(gG.mp c).1;refine gD j x y ?_ ?_ l λi k=>?_
 ·rw[lQ g];exact d
 ·rw[lQ f];exact c
 ·rw[lQ (by lia),lQ (by lia)];exact e i k
theorem A9k.last(xs:zI){a:Int}(h:a<b):A9k (xs++[a]) (xs++[b]):=by refine gD xs.length a b (by simp) (by simp) h λi c=>?_;rw[lQ c,lQ c]
def Within(c ls:zI):Prop:=c.length=ls.length/\∀(k:Nat)(x n:Int),c[k]?=some x->ls[k]?=some n->0<=x/\x<n
theorem Within.snoc{n:Int}{k:Nat}(h:Within c ls)(f:(k:Int)<n):Within (c++[(k:Int)]) (ls++[n]):=by
 obtain⟨d,e⟩:=h;refine⟨by simp[d],λi x m a b=>?_⟩;by_cases hi:i<c.length
 ·rw[lQ hi]at a;rw[lQ (by lia)]at b;exact e i x m a b
 ·have:i=c.length:=by
   have:=(gG.mp a).1;simp at this;lia
  subst this;rw[nu (gf _)]at a;rw[d,nu (gf _)]at b;simp at a b
  lia
theorem yq{n:Int}(h:c∈jx cs n):∃b∈cs,∃k:Nat,k<n.toNat/\c=b++[(k:Int)]:=by unfold jx at h;obtain⟨b,f,a⟩:=List.mem_flatMap.mp h;obtain⟨k,d,e⟩:=gm.mp a;exact iJ b f k (List.mem_range.mp d) e.symm
theorem qS:∀(ls:zI),∀c∈gl ls,Within c ls:=by
 intro ls
 have f:∀(m:Nat)(ls:zI),ls.length=m->∀c∈gl ls,Within c ls:=by
  intro m
  induction m with
  |zero=>
   intro ls a c d;have:ls=[]:=p7.mp a;subst this;have:c=[]:=by simpa[gl]using d
   subst this;exact⟨rfl,λk x n h _=>by simp at h⟩
  |succ m ih=>intro ls a c d;obtain⟨init,n,rfl⟩:∃init n,ls=init++[n]:=⟨ls.dropLast,ls.getLast (by intro e;simp[e]at a),(List.dropLast_concat_getLast _).symm⟩;rw[sX]at d;obtain⟨b,g,k,i,rfl⟩:=yq d;exact(ih init (by simp at a;lia) b g).snoc (by lia)
 exact f _ ls rfl
theorem HQ{n:Int}(h:cs.Pairwise A9k):(jx cs n).Pairwise A9k:=by
 induction cs with
 |nil=>simp[jx]
 |cons c r ih=>
  have e:jx (c::r) n=((List.range n.toNat).map λ(k:Nat)=>c++[(k:Int)])++jx r n:=by simp[jx]
  rw[e,List.pairwise_append];obtain⟨g,d⟩:=List.pairwise_cons.mp h;refine fY ?_ (ih d) λx l y m=>?_
  ·rw[List.pairwise_map];exact List.pairwise_lt_range.imp λ{a b} i=>A9k.last c (by lia)
  ·obtain⟨k,_,rfl⟩:=gm.mp l;obtain⟨b,f,j,_,rfl⟩:=yq m;exact(g b f).snoc _ _
theorem Ir(ls:zI):(gl ls).Pairwise A9k:=by
 have b:∀(m:Nat)(ls:zI),ls.length=m->(gl ls).Pairwise A9k:=by
  intro m
  induction m with
  |zero=>intro ls a;have:ls=[]:=p7.mp a;subst this;simp[gl]
  |succ m ih=>intro ls a;obtain⟨init,n,rfl⟩:∃init n,ls=init++[n]:=⟨ls.dropLast,ls.getLast (by intro e;simp[e]at a),(List.dropLast_concat_getLast _).symm⟩;rw[sX];exact HQ (ih init (by simp at a;lia))
 exact b _ ls rfl
theorem nL(ls:zI)(h:∀n∈ls,1<=n):((gl ls).length:Int)=ib ls/\1<=ib ls:=by
 have b:∀(m:Nat)(ls:zI),ls.length=m->(∀n∈ls,1<=n)->((gl ls).length:Int)=ib ls/\1<=ib ls:=by
  intro m
  induction m with
  |zero=>intro ls a _;have:ls=[]:=p7.mp a;subst this;simp[gl,ib]
  |succ m ih=>
   intro ls a c;obtain⟨init,n,rfl⟩:∃init n,ls=init++[n]:=⟨ls.dropLast,ls.getLast (by intro e;simp[e]at a),(List.dropLast_concat_getLast _).symm⟩;obtain⟨g,f⟩:=ih init (by simp at a;lia) λn d=>c n (by simp[d]);have i:1<=n:=c n (by simp);rw[sX,Hf,Ao];have e:((n.toNat:Nat):Int)=n:=by lia
   refine⟨by rw[Int.natCast_mul,g,e],?_⟩;have:=Int.mul_le_mul f i (by lia) (by lia)
   simpa using this
 exact b _ ls rfl h
structure B2h(ls:zI):Prop where
 pos:∀n∈ls,1<=n/\n<=60
 few:ls.length<=8
 most:ib ls<=4000
theorem Iy(ls:zI)(h:∀n∈ls,1<=n)(i:Nat):1<=ib (ls.take i)/\ib (ls.take i)<=ib ls:=by
 have a:=(nL (ls.take i) λn c=>h n (p6 c)).2;refine⟨a,?_⟩;have b:=(nL (ls.drop i) λn c=>h n (List.mem_of_mem_drop c)).2
 have d:∀(ys:zI)(x:Int),ys.foldl (·* ·) x=x*ib ys:=by
  intro ys
  induction ys with
  |nil=>intro x;simp[ib]
  |cons y r ih=>intro x;simp only [ib,List.foldl_cons]at ih⊢;rw[ih,ih (1*y),Int.one_mul,Int.mul_assoc]
 have e:ib ls=ib (ls.take i)*ib (ls.drop i):=by have:=d (ls.drop i) (ib (ls.take i));rw[<-this];unfold ib;rw[<-List.foldl_append,p8]
 rw[e];have:=Int.mul_le_mul_of_nonneg_left b (show(0:Int)<=ib (ls.take i)by lia)
 simpa using this
theorem Jm{n:Int}(h:ls[i]?=some n):gl (ls.take (i+1))=jx (gl (ls.take i)) n:=by rw[gR,h];exact sX _ _
structure Rw where
 own:zC
 sums:zC
 so:zI
 ss:zI
abbrev Stp:=Int×Str×List Int×List Int
def kW(k:Int)(ss:zI)(c:zI):List Stp:=if ss=[]then [(k,"set",c,[])]else (k,"start",c,[])::(gl ss).map λu=>(k,"add",c,u)
def ng(k:Int)(e:Rw):List Stp:=(gl e.so).flatMap (kW k e.ss)
def nE(rows:List Rw)(k:Nat):List Stp:=match rows[k]? with|some e=>ng k e|none=>[]
def iu(rows:List Rw)(i:Nat):List Stp:=(List.range i).flatMap (nE rows)
theorem HG{rows:List Rw}{e:Rw}(h:rows[i]?=some e):iu rows (i+1)=iu rows i++ng i e:=by unfold iu;rw[List.range_succ,List.flatMap_append,List.flatMap_singleton];unfold nE;rw[h]
theorem nc{α β:Type}{f:α->List β}{B:Nat}:∀{l:List α},(∀x∈l,(f x).length<=B)->(l.flatMap f).length<=l.length*B
 | [],_=>by simp
 |x::r,h=>by
  have c:=h x (.head _);have b:=nc (l:=r) λy a=>h y (.tail _ a);rw[List.flatMap_cons,gz,iZ,Nat.add_mul]
  lia
structure C9a(e:Rw):Prop where
 go:B2h e.so
 gs:B2h e.ss
 po:ib e.so<=60
 ps:ib e.ss<=60
 lo:e.own.length=e.so.length
 ls:e.sums.length=e.ss.length
theorem C9a.cells{e:Rw}(h:C9a e):(gl e.so).length<=60/\(gl e.ss).length<=60:=by
 have c:=(nL e.so λn a=>(h.go.pos n a).1).1;have b:=(nL e.ss λn a=>(h.gs.pos n a).1).1;have:=h.po;have:=h.ps
 lia
theorem uP{k:Int}{e:Rw}(h:C9a e)(c:zI):(kW k e.ss c).length<=61:=by
 have:=h.cells.2;unfold kW;split
 ·simp
 ·simp;lia
theorem FU{k:Int}{e:Rw}(h:C9a e):(ng k e).length<=3660:=by
 have b:=nc (l:=gl e.so) (f:=kW k e.ss) (B:=61) λc _=>uP h c;have a:=h.cells.1;have:(gl e.so).length*61<=60*61:=Nat.mul_le_mul_right _ a;unfold ng
 lia
theorem FR{k:Int}{e:Rw}(h:C9a e)(j:Nat):(((gl e.so).take j).flatMap (kW k e.ss)).length<=3660:=by
 have d:=nc (l:=(gl e.so).take j) (f:=kW k e.ss) (B:=61) λc _=>uP h c;have b:=h.cells.1;have a:((gl e.so).take j).length<=60:=by rw[iP];lia
 have:((gl e.so).take j).length*61<=60*61:=Nat.mul_le_mul_right _ a
 lia
theorem Ew{rows:List Rw}(h:∀e∈rows,C9a e)(i:Nat):(iu rows i).length<=i*3660:=by
 have:=nc (l:=List.range i) (f:=nE rows) (B:=3660) λk _=>by
  unfold nE;split
  ·rename_i e he;exact FU (h e (gT he))
  ·simp
 rw[List.length_range]at this;exact this
def nY(f:zR)(ix:zL):zI:=ix.map λ(e:Str×Int)=>if e.1=("":Str)then e.2 else f e.1+e.2
def setA(f:zR)(x:Str)(k:Int):zR:=λy=>if y=x then k else f y
def rd(c:zR):Tm->zR->List (Str×List Int)|.num _,_=>[]|.place _,_=>[]|.read a ix,f=>[(a,nY f ix)]|.sum x b,f=>(List.range (c x).toNat).flatMap λ(k:Nat)=>rd c b (setA f x (k:Int))|.pair _ l r,f=>rd c l f++rd c r f|.guard x lo hi l r,f=>if lo<=f x/\f x<hi then rd c l f else rd c r f
def Fv:Tm->Str->Prop|.num _,_=>False|.place x,y=>y=x|.read _ ix,y=>y≠""/\∃e∈ix,e.1=y|.sum x b,y=>y≠x/\Fv b y|.pair _ l r,y=>Fv l y\/Fv r y|.guard x _ _ l r,y=>y=x\/Fv l y\/Fv r y
def ai(kvs:zJ)(x:Str):Int:=match fy kvs (Sum.inr x)with|some (.int i)=>i|_=>0
def ri(kvs:zJ)(t:Tm):Prop:=∀x,Fv t x->fy kvs (Sum.inr x)=some (.int (ai kvs x))
def wz(A:zC)(lk:zJ):Prop:=∀x∈A,fy lk (Sum.inr x)=some (.int (ai lk x))/\1<=ai lk x/\ai lk x<=60
def B7v(H:Hp)(v:V)(e:Str×List Int):Prop:=∃p q,v=.ref p/\H p=some (.tup [.str e.1,.ref q])/\H q=some (.tup (e.2.map V.int))
def Rds(H:Hp):zM->List (Str×List Int)->Prop:=Paired (B7v H)
theorem Rds.keep(h:Rds H vs rs)(f:∀p xs,H p=some (.tup xs)->H' p=some (.tup xs)):Rds H' vs rs :=Paired.mapP h (by rintro _ _ ⟨p,q,e,b,a⟩;exact el p q e (f _ _ b) (f _ _ a))
theorem Rds.same(h:Rds H vs rs)(s:A0j H H'):Rds H' vs rs:=h.keep λ_ _ e=>s _ _ e
theorem Paired.app{α β:Type}{F:α->β->Prop}:∀{a c:List α}{b d:List β},Paired F a b->Paired F c d->Paired F (a++c) (b++d)|_,_,_,_,.nil,h=>h|_,_,_,_,.cons r t,h=>.cons r (Paired.app t h)
abbrev Cl:=Str×List Int
theorem oo{α:Type}[DecidableEq α]:∀{l m:List α},l.Nodup->(∀x∈l,x∈m)->l.length<=m.length
 | [],_,_,_=>iG _
 |x::l,m,nd,h=>by
  have d:=oo (l:=l) (m:=m.erase x) (lS.mp nd).2 λy a=>(List.mem_erase_of_ne λz=>(lS.mp nd).1 (by rw[<-z];exact a)).mpr (h y (lF _ a));have b:=List.length_erase_of_mem (h x lD);have c:=List.length_pos_of_mem (h x lD);rw[iZ]
  lia
def jh(l:Cl->Int)(tk:List (Cl×Int))(k:Int):zI:=(tk.filter λp=>decide (l p.1=k)).map (·.2)
def lY(l:Cl->Int)(tk:List (Cl×Int))(g:Int):List (Cl×Int):=tk.filter λp=>decide (g<=l p.1)
structure BI(f l:Cl->Int)(all:List Cl)(M:Int)(g:Int)(tk:List (Cl×Int))(b:Int)(fs:zI):Prop where
 b0:0<=b
 bM:b<=M
 fr:∀x∈fs,0<=x/\x<b
 nd:fs.Nodup
 tn:(tk.map (·.1)).Nodup
 sub:∀p∈tk,p.1∈all
 ho:∀p∈tk,0<=p.2/\p.2<b/\f p.1<=g/\f p.1<=l p.1
 nf:∀p∈tk,g<=l p.1->p.2∉fs
 ct:((lY l tk g).length:Int)+fs.length=b
 ap:∀p∈tk,∀q∈tk,p.1≠q.1->f p.1<=l q.1->f q.1<=l p.1->p.2≠q.2
theorem BI.zero{b:List Cl}(h:0<=M)(g:Int):BI f l b M g [] 0 []:=⟨Int.le_refl _,h,(λx c=>nomatch c),List.nodup_nil,List.nodup_nil,(λp a=>nomatch a),(λp a=>nomatch a),(λp a=>nomatch a),rfl,(λp a=>nomatch a)⟩
theorem pF{g:Int}{p:Cl×Int}{r:List (Cl×Int)}(h:g<=l p.1):(p::r).filter (λp=>decide (g<=l p.1))=p::r.filter λp=>decide (g<=l p.1):=List.filter_cons_of_pos (p:=λp:Cl×Int=>decide (g<=l p.1)) (iW h)
theorem rz{g:Int}{p:Cl×Int}{r:List (Cl×Int)}(h:¬g<=l p.1):(p::r).filter (λp=>decide (g<=l p.1))=r.filter λp=>decide (g<=l p.1):=List.filter_cons_of_neg (p:=λp:Cl×Int=>decide (g<=l p.1)) (by simpa using h)
theorem ry{k:Int}{p:Cl×Int}{r:List (Cl×Int)}(h:l p.1=k):(p::r).filter (λp=>decide (l p.1=k))=p::r.filter λp=>decide (l p.1=k):=List.filter_cons_of_pos (p:=λp:Cl×Int=>decide (l p.1=k)) (iW h)
theorem qd{k:Int}{p:Cl×Int}{r:List (Cl×Int)}(h:¬l p.1=k):(p::r).filter (λp=>decide (l p.1=k))=r.filter λp=>decide (l p.1=k):=List.filter_cons_of_neg (p:=λp:Cl×Int=>decide (l p.1=k)) (by simpa using h)
theorem yS(l:Cl->Int)(tk:List (Cl×Int))(g:Int)(p:Cl×Int)(h:g<=l p.1):lY l (tk++[p]) g=lY l tk g++[p]:=by unfold lY;rw[List.filter_append,pF h,List.filter_nil]
theorem FK(l:Cl->Int)(tk:List (Cl×Int))(k:Int)(p:Cl×Int):jh l (tk++[p]) k=if l p.1=k then jh l tk k++[p.2]else jh l tk k:=by
 unfold jh;rw[List.filter_append,gB];by_cases h:l p.1=k
 ·rw[fW h,ry h];rfl
 ·rw[ej h,qd h];simp
theorem xD{c:Cl}{x:Int}(h:(tk.map (·.1)).Nodup)(g:c∉tk.map (·.1)):((tk++[(c,x)]).map (·.1)).Nodup:=by rw[gB,lU];refine fY h (by simp) λa e b d=>?_;rw[List.map_singleton,ik]at d;rw[d];exact λz=>g (by have f:a=c:=z;rw[<-f];exact e)
theorem BI.put{i:List Cl}{g:Int}{j:Int}{fs:zI}(h:BI f l i M g tk b fs){c:Cl}{x:Int}(C:c∉tk.map (·.1))(t:c∈i)(F:f c=g)(w:f c<=l c)
  (u:b<=j) (A:j<=M) (H:0<=x) (K:x<j) (r:∀p∈tk,g<=l p.1->p.2≠x) (m:∀y∈fs',y∈fs) (v:fs'.Nodup) (G:x∉fs') (ct:((lY l tk g).length:Int)+1+fs'.length=j):BI f l i M g (tk++[(c,x)]) j fs':=by
 have d:∀p,p∈tk++[(c,x)]->p∈tk\/p=(c,x):=λp e=>by
  rcases iQ.mp e with q|q
  ·exact .inl q
  ·exact .inr (ik.mp q)
 refine⟨Int.le_trans h.b0 u,A,λy L=>?_,v,xD h.tn C,λp e=>?_,λp e=>?_,λp e B=>?_,?_,λp e q I k o n=>?_⟩
 ·have:=h.fr y (m y L)
  lia
 ·rcases d p e with q|rfl
  ·exact h.sub p q
  ·exact t
 ·rcases d p e with q|rfl
  ·have:=h.ho p q
   lia
  ·exact ip H K (Int.le_of_eq F) w
 ·rcases d p e with q|rfl
  ·exact λz=>h.nf p q B (m _ z)
  ·exact G
 ·rw[yS l tk g (c,x) (by show g<=l c;lia),gz,lV]
  push_cast
  lia
 ·rcases d p e with a|rfl<;>rcases d q I with s|rfl
  ·exact h.ap p a q s k o n
  ·exact r p a (by have D:f c<=l p.1:=n;lia)
  ·exact λz=>r q s (by have J:f c<=l q.1:=o;lia) z.symm
  ·exact absurd rfl k
theorem BI.take{j:List Cl}{g:Int}{fs:zI}(h:BI f l j M g tk b fs){c:Cl}{x:Int}(t:c∉tk.map (·.1))(q:c∈j)(u:f c=g)(r:f c<=l c)(n:fs[fs.length-1]?=some x):BI f l j M g (tk++[(c,x)]) b fs.dropLast:=by
 have a:x∈fs:=gT n;have k:fs≠[]:=λz=>by rw[z]at a;cases a
 have e:fs=fs.dropLast++[x]:=by
  have d:fs.getLast k=x:=by rw[List.getLast_eq_getElem];have:=hB (l:=fs) (i:=fs.length-1) (by have:=List.length_pos_of_mem a;lia);rw[this]at n;exact je n
  rw[<-d];exact(List.dropLast_concat_getLast k).symm
 have m:=h.nd;rw[e,lU]at m;have o:=List.length_pos_of_mem a;have w:=h.ct;refine h.put t q u r (Int.le_refl _) h.bM (h.fr x a).1 (h.fr x a).2 (λp o s z=>h.nf p o s (by rw[z];exact a)) (λy v=>(List.dropLast_sublist fs).subset v) m.1 (λz=>m.2.2 x z x (ik.mpr rfl) rfl) ?_;rw[List.length_dropLast]
 lia
theorem BI.begin_{a:List Cl}{g:Int}(h:BI f l a M g tk b []){c:Cl}(j:c∉tk.map (·.1))(i:c∈a)(v:f c=g)(u:f c<=l c)(w:((a.filter λr=>decide (f r<=g)&&decide (g<=l r)).length:Int)<=M):BI f l a M g (tk++[(c,b)]) (b+1) []:=by
 have x:((lY l tk g).length:Int)+(0:Nat)=b:=h.ct;refine h.put j i v u (by lia) ?_ h.b0 (by lia) (λp e _ z=>by have:=(h.ho p e).2.1;lia) (λy d=>d) List.nodup_nil (λz=>nomatch z) (by show _+1+((0:Nat):Int)=_;lia)
 have t:(((lY l tk g).map (·.1))++[c]).Nodup:=by
  have s:((lY l tk g++[(c,b)]).map (·.1)).Nodup:=by rw[<-yS l tk g (c,b) (by show g<=l c;lia)];exact(xD h.tn j).sublist (List.Sublist.map _ List.filter_sublist)
  rw[gB]at s;exact s
 have o:=oo t (m:=a.filter λr=>decide (f r<=g)&&decide (g<=l r)) λy d=>by
  rcases iQ.mp d with q|q
  ·obtain⟨p,e,rfl⟩:=gm.mp q;obtain⟨k,n⟩:=List.mem_filter.mp e;refine List.mem_filter.mpr ⟨h.sub p k,?_⟩;rw[nS];exact⟨iW (h.ho p k).2.2.1,n⟩
  ·rw[ik.mp q];refine List.mem_filter.mpr ⟨i,?_⟩;rw[nS];exact⟨iW (by lia),iW (by lia)⟩
 rw[gz,eH,lV]at o
 lia
theorem BI.next{n:List Cl}{g:Int}{fs:zI}(h:BI f l n M g tk b fs)(u:fs'.Perm (fs++jh l tk g)):BI f l n M (g+1) tk b fs':=by
 have C:∀x,x∈jh l tk g->∃p∈tk,l p.1=g/\p.2=x:=λx s=>by obtain⟨p,k,A⟩:=gm.mp s;obtain⟨y,I⟩:=List.mem_filter.mp k;exact fV p y (of_decide_eq_true I) A
 have w:∀d:List (Cl×Int),(d.map (·.1)).Nodup->(∀p∈d,p∈tk)->(jh l d g).Nodup:=by
  intro d
  induction d with
  |nil=>intro _ _;exact List.nodup_nil
  |cons p r ih=>
   intro B o;rw[gw,lS]at B;have i:=ih B.2 λq P=>o q (lF _ P);unfold jh at i⊢;by_cases c:l p.1=g
   ·rw[ry c,gw,lS];refine⟨λm=>?_,i⟩;obtain⟨q,J,H⟩:=gm.mp m;obtain⟨v,F⟩:=List.mem_filter.mp J;have F:=of_decide_eq_true F;have a:=h.ho p (o p lD);have O:=h.ho q (o q (lF _ v));exact h.ap p (o p lD) q (o q (lF _ v)) (λz=>B.1 (by rw[z];exact List.mem_map_of_mem v)) (by lia) (by lia) H.symm
   ·rw[qd c];exact i
 have D:∀d:List (Cl×Int),(lY l d g).length=(lY l d (g+1)).length+(jh l d g).length:=by
  intro d;unfold lY jh;rw[eH]
  induction d with
  |nil=>rfl
  |cons p r ih=>
   by_cases c1:g+1<=l p.1
   ·rw[pF (g:=g) (by lia),pF c1,qd (by lia),iZ,iZ,ih]
    lia
   ·by_cases c2:l p.1=g
    ·rw[pF (g:=g) (by lia),rz c1,ry c2,iZ,iZ,ih]
     lia
    ·rw[rz (g:=g) (by lia),rz c1,qd c2,ih]
 have G:∀x,x∈fs'->x∈fs\/x∈jh l tk g:=λx s=>iQ.mp (u.mem_iff.mp s);refine⟨h.b0,h.bM,λx s=>?_,?_,h.tn,h.sub,λp j=>?_,λp j K z=>?_,?_,h.ap⟩
 ·rcases G x s with q|q
  ·exact h.fr x q
  ·obtain⟨p,k,_,rfl⟩:=C x q;exact⟨(h.ho p k).1,(h.ho p k).2.1⟩
 ·rw[u.nodup_iff,lU];refine fY h.nd (w tk h.tn λ_ z=>z) λa L b N z=>?_;obtain⟨p,k,A,rfl⟩:=C b N;subst z;exact h.nf p k (by lia) L
 ·have:=h.ho p j
  lia
 ·rcases G _ z with q|q
  ·exact h.nf p j (by lia) q
  ·obtain⟨t,k,A,y⟩:=C _ q;have a:=h.ho p j;have O:=h.ho t k;by_cases e:p.1=t.1
   ·rw[e]at K;lia
   ·exact h.ap p j t k e (by lia) (by lia) y.symm
 ·have e:=u.length_eq;have R:=h.ct;have Q:=D tk;rw[gz]at e
  lia
def top(i:Nat):Stmt:=PySem.Challenge.pw_arrayloom_k65_crowd_and_room.main.body.getD i (.Pass ⟨0,0,0,0⟩)
abbrev AE:Stmt:=mw (top 29) 0
abbrev AQ:Stmt:=mw (top 29) 1
abbrev AN:Stmt:=mw (top 29) 2
abbrev Aq:Stmt:=mw (top 33) 0
abbrev Ay:Stmt:=mw (top 34) 0
abbrev AA:Stmt:=mw (top 37) 0
abbrev AI:Stmt:=mw (top 37) 2
abbrev At:Stmt:=mw (top 38) 0
abbrev AH:Stmt:=mw (top 38) 1
abbrev Aw:Stmt:=mw (top 38) 3
abbrev As:Stmt:=mw (top 40) 0
abbrev Ax:Stmt:=mw (top 40) 2
structure TyC(K:Frag)(C:zW):Prop where
 ha:findIn K (.ref C) "__class__"=some (some (.builtin "object.__class__"))
 hn:specialIn K (.builtin "object.__class__") "__get__"=some (some (.builtin "getset_descriptor.__get__"))
 htk:takesIn K (.builtin "object.__class__")=some true
 hm:mroIn K C (.type "object")=some true
abbrev mo:zC:=["value"]
abbrev rf:zC:=["axes","lengths"]
abbrev nV:zC:=["cloth","steps"]
abbrev vO:zC:=["self","name","axes","sums","term"]
abbrev vG:zC:=["self","wheel","lengths","arrays","tables","lines","outs"]
abbrev ny:zC:=["self","at","lengths"]
abbrev v9:zC:=["axis","shift","at"]
set_option genInjectivity false in
set_option genSizeOf false in
structure Adr where
 aa:zW
 ae:zW
 a8:zW
 fF:zW
 ag:zW
 ah:zW
 ef:zW
 bf:zW
 eB:zW
 eC:zS
 dI:zW
 dL:zS
 bq:zW
 bo:zS
 aL:zW
 aM:zS
 cQ:zW
 cO:zS
 df:zW
 dq:zS
 d9:zW
 de:zS
 cP:zW
 cJ:zS
 eP:zW
 eU:zS
 dC:zW
 dJ:zS
 cY:zW
 d7:zS
 cL:zW
 cN:zS
 dQ:zW
 dU:zS
 eD:zW
 eE:zS
 dS:zW
 dX:zS
 e9:zW
 e8:zS
 eG:zW
 e7:zS
 di:zW
 dw:zS
 eS:zW
 eT:zS
 cX:zW
 d6:zS
 bX:zW
 dm:zS
 b6:zW
 cj:zS
 br:zW
 cE:zS
 eA:zW
 dY:zS
 dN:zW
 dW:zS
 cH:zW
 dP:zS
 cx:zW
 dD:zS
 bW:zW
 dt:zS
 aU:zW
 bO:zS
 cI:zW
 dO:zS
 aZ:zW
 bR:zS
 bD:zW
 cn:zS
 eI:zW
 d_:zS
 cG:zW
 dR:zS
 aT:zW
 cz:zS
 ff:zW
 f8:zS
 eO:zW
 eJ:zS
 eY:zW
 eQ:zS
 eM:zW
 eL:zS
 fc:zW
 fb:zS
 eK:zW
 eR:zS
 eN:zW
 eV:zS
 f6:zW
 f7:zS
 fe:zW
 eZ:zS
 fM:zW
 fw:zS
abbrev Jt(f:zW):Option zN:=some (some (.ref f))
abbrev Jw:Option zN:=some (some (.builtin "object.__class__"))
abbrev Ju:Option zN:=some none
abbrev Jv(K:Frag)(a b:zW)(c:Bool):Prop:=kitOne K (.ref a) (.ref b)=some c
structure FQ(K:Frag)(mg:zE)(x:Str)(st:Stmt)(f:zW)(fd:zS)(ps:zC):Prop where
 F:Fun K x x st f fd
 m:mg x=some (.ref f)
 b:A8v K fd ps []
structure FM(K:Frag)(C:zW)(x q:Str)(st:Stmt)(f:zW)(fd:zS)(ps:zC):Prop where
 F:Fun K x q st f fd
 b:A8v K fd ps []
structure Txt(K:Frag)(mg:zE)(t:Adr):Prop where
 fi:mg "BoxRow"=some (.ref t.aa)
 fH:mg "Line"=some (.ref t.ae)
 fq:mg "Cloth"=some (.ref t.a8)
 fT:mg "Term"=some (.ref t.fF)
 fj:mg "Number"=some (.ref t.ag)
 fI:mg "Read"=some (.ref t.ah)
 fU:mg "Pair"=some (.ref t.ef)
 fE:mg "Plus"=some (.ref t.bf)
 b_:FQ K mg "cells_of" (top 2) t.eB t.eC ["lengths"]
 bA:FQ K mg "lengthened" (top 3) t.dI t.dL ["cells","length"]
 a7:FQ K mg "copied" (top 5) t.bq t.bo mo
 am:FQ K mg "copied_dict" (top 6) t.aL t.aM mo
 aQ:FQ K mg "lengths_along" (top 8) t.cQ t.cO rf
 ao:FQ K mg "cells_along" (top 9) t.df t.dq rf
 be:FQ K mg "first_order" (top 11) t.d9 t.de ["cloth"]
 aO:FQ K mg "steps_of_cell" (top 12) t.cP t.cJ ["number","line","cell","turns"]
 bU:FQ K mg "read_by" (top 14) t.eP t.eU ["cloth","step"]
 aw:FQ K mg "written_by" (top 15) t.dC t.dJ ["cloth","step"]
 a_:FQ K mg "wanted_cells" (top 17) t.cY t.d7 ["cloth"]
 aA:FQ K mg "cells_of_outs" (top 18) t.cL t.cN ["cloth"]
 bK:FQ K mg "by_arrays" (top 19) t.dQ t.dU ["cloth","found"]
 bB:FQ K mg "lives_of" (top 21) t.eD t.eE nV
 bN:FQ K mg "firsts_of" (top 22) t.dS t.dX nV
 c8:FQ K mg "lasts_of" (top 23) t.e9 t.e8 ["cloth","steps","wanted"]
 c7:FQ K mg "crowd_of" (top 24) t.eG t.e7 nV
 aN:FQ K mg "crowd_among" (top 25) t.di t.dw ["lives","end"]
 cD:FQ K mg "is_live" (top 26) t.eS t.eT ["life","gap"]
 aW:FQ K mg "numbers_live" (top 27) t.cX t.d6 ["lives","end"]
 bh:FM K t.aa "__init__" "BoxRow.__init__" AE t.bX t.dm ["self"]
 aq:FM K t.aa "take_for" "BoxRow.take_for" AQ t.b6 t.cj ["self","life"]
 aH:FM K t.aa "free_at" "BoxRow.free_at" AN t.br t.cE ["self","gap"]
 c6:FQ K mg "homes_of" (top 30) t.eA t.dY nV
 bL:FQ K mg "homes_for" (top 31) t.dN t.dW ["cloth","steps","lives"]
 bQ:FM K t.ae "__init__" "Line.__init__" Aq t.cH t.dP vO
 bu:FM K t.a8 "__init__" "Cloth.__init__" Ay t.cx t.dD vG
 bg:FM K t.ag "__init__" "Number.__init__" AA t.bW t.dt ["self","number"]
 bJ:FM K t.ag "reads" "Number.reads" AI t.aU t.bO ny
 bI:FM K t.ah "__init__" "Read.__init__" At t.cI t.dO ["self","array","indexes"]
 aY:FM K t.ah "cell_at" "Read.cell_at" AH t.aZ t.bR ["self","at"]
 cy:FM K t.ah "reads" "Read.reads" Aw t.bD t.cn ny
 cg:FQ K mg "index_at" (top 39) t.eI t.d_ v9
 bP:FM K t.ef "__init__" "Pair.__init__" As t.cG t.dR ["self","left","right"]
 ci:FM K t.ef "reads" "Pair.reads" Ax t.aT t.cz ny
 c_:FQ K mg "_law_spun" (top 43) t.ff t.f8 ["_law_script","_law_most"]
 cF:FQ K mg "_law_woven" (top 44) t.eO t.eJ ["_law_about"]
 cC:FQ K mg "_law_steps" (top 45) t.eY t.eQ ["_law_about"]
 bT:FQ K mg "_law_looks" (top 46) t.eM t.eL ["_law_about","_law_step"]
 cU:FQ K mg "_law_left" (top 47) t.fc t.fb ["_law_about","_law_done","_law_step"]
 cA:FQ K mg "_law_order" (top 48) t.eK t.eR ["_law_about","_law_cell"]
 bj:FQ K mg "_law_whole" (top 49) t.eN t.eV ["_law_found"]
 cV:FQ K mg "_law_live" (top 50) t.f6 t.f7 ["_law_about","_law_order_here","_law_gap","_law_spot","_law_homes"]
 cT:FQ K mg "_law_flat" (top 51) t.fe t.eZ ["_law_found"]
 e_:FQ K mg "law" (top 52) t.fM t.fw ["_law_script"]
 ac:Cls K t.aa
 eW:Mk K t.aa t.bX
 aB:A2k K t.aa "begun"
 au:A2k K t.aa "free"
 aI:A2k K t.aa "ending"
 cm:mJ K t.aa "free_at" t.br
 aX:mJ K t.aa "take_for" t.b6
 fK:TyC K t.aa
 a9:Cls K t.a8
 fh:Mk K t.a8 t.cx
 d5:A2k K t.a8 "wheel"
 af:A2k K t.a8 "lengths"
 ay:A2k K t.a8 "arrays"
 bG:A2k K t.a8 "tables"
 aG:A2k K t.a8 "lines"
 bZ:A2k K t.a8 "outs"
 fL:TyC K t.a8
 aF:Cls K t.ae
 fu:Mk K t.ae t.cH
 cv:A2k K t.ae "name"
 bt:A2k K t.ae "axes"
 aR:A2k K t.ae "sums"
 cw:A2k K t.ae "term"
 cS:TyC K t.ae
 dG:mroIn K t.ae (.type "list")=some false
 dA:mroIn K t.ae (.type "tuple")=some false
 dM:mroIn K t.ae (.type "dict")=some false
 dB:Cls K t.ag
 eX:Mk K t.ag t.bW
 cB:A2k K t.ag "number"
 cK:mJ K t.ag "reads" t.aU
 fJ:TyC K t.ag
 ft:Cls K t.bf
 fk:Mk K t.bf t.cG
 dE:A2k K t.bf "left"
 du:A2k K t.bf "right"
 dz:mJ K t.bf "reads" t.aT
 fR:TyC K t.bf
 bS:Cls K t.ah
 fm:Mk K t.ah t.cI
 bY:A2k K t.ah "array"
 bE:A2k K t.ah "indexes"
 cR:mJ K t.ah "cell_at" t.aZ
 d8:mJ K t.ah "reads" t.bD
 fQ:TyC K t.ah
 ba:mg "range"=none
 a6:mg "isinstance"=none
 cf:mg "list"=none
 aE:mg "tuple"=none
 c9:mg "dict"=none
 b9:mg "enumerate"=none
 aj:mg "len"=none
 fO:mg "zip"=none
 dZ:mg "reversed"=none
 fN:mg "max"=none
 fg:mg "sorted"=none
 cZ:mg "sum"=none
 fA:mg "min"=none
 d0:mg "str"=none
 fB:mg "int"=none
 fD:mg "bool"=none
abbrev FO(P:yB)(w:yD)(base:yA){K:Frag}{mg:zE}{x:Str}{st:Stmt}{f:zW}{fd:zS}{ps:zC}(_:FQ K mg x st f fd ps)(n:Nat)(sp:Sp):Prop:=A5j P w K mg base jB n f fd ps sp
abbrev FP(P:yB)(w:yD)(mg:zE)(base:yA){K:Frag}{C:zW}{x q:Str}{st:Stmt}{f:zW}{fd:zS}{ps:zC}(_:FM K C x q st f fd ps)(n:Nat)(sp:Sp):Prop:=A5j P w K mg base jB n f fd ps sp
theorem pcl{k k2:Nat}{f:zW}{sp:Sp}{st:Stmt}{e:yC}{es:zT}{t:TA}{p:Pos}(F:A5j X.prog X.w X.K X.mg X.base jB k f fd ps sp)(h:A8d k2 X.A)(Zz:FQ X.K X.mg x st f fd ps)(d:PA X (e::es) t)(g:k<=k2:=by lia)(j:Gl X x:=by rfl)(c:(x==("__debug__":Str))=false:=by decide)(i:starEach (e::es) X.env=(false,eval e X.env)::starEach es X.env:=by rfl)(a:(backTo pos (starEach es X.env)).any (·.1)=false:=by rfl):PE X (.Call (.Name x p) (e::es) [] pos) (wj sp [] E0 t):=D9 F (h.mono g) j Zz.m Zz.F.kp Zz.b .nil oM d c i a
theorem pmk{C:zW}{k k2:Nat}{f:zW}{sp:Sp}{e:yC}{es:zT}{t:TA}{p:Pos}(M:Mk X.K C f)(F:A5j X.prog X.w X.K X.mg X.base jB k f fd ps sp)(j:A8d k2 X.A)(g:X.mg x=some (.ref C))(d:A8v X.K fd ps [])(c:PA X (e::es) t)(h:k+1<=k2:=by lia)(l:Gl X x:=by rfl)(b:(x==("__debug__":Str))=false:=by decide)(i:starEach (e::es) X.env=(false,eval e X.env)::starEach es X.env:=by rfl)(a:(backTo pos (starEach es X.env)).any (·.1)=false:=by rfl):PE X (.Call (.Name x p) (e::es) [] pos) (ua C sp [] E0 t):=DG M F (j.mono h) l g d .nil oM c b i a
theorem gj(h:Nat.ble n 1000000=true):n<=sizeLine:=iS (Nat.le_of_ble_eq_true h)
theorem Bq:(0:Int)<11:=by decide
theorem z_30:(0:Int)<3:=by decide
theorem pit(i:Nat){k:Int}{j}{p2 e:Pos}(d:X.N[i]?=some x:=by rfl)(b:Vis X.env.scope x:=by first|exact Or.inl rfl|exact Or.inr (Or.inl rfl)|exact Or.inr (Or.inr rfl))(c:(x==("__debug__":Str))=false:=by decide)(a:(x==("__classdict__":Str))=false:=by decide):PE X (.Subscript (.Name x pos) (.Constant (.int k) j p2) e) (tOp (tR X.K) (pE i) (tC (.int k))):=jM BR (pv i d b c a) gh λ_ _=>rfl
theorem pil(i:Nat){k:Int}{j}{p2 e:Pos}(d:X.N[i]?=some x:=by rfl)(b:Vis X.env.scope x:=by first|exact Or.inl rfl|exact Or.inr (Or.inl rfl)|exact Or.inr (Or.inr rfl))(c:(x==("__debug__":Str))=false:=by decide)(a:(x==("__classdict__":Str))=false:=by decide):PE X (.Subscript (.Name x pos) (.Constant (.int k) j p2) e) (tOp (vX X.K) (pE i) (tC (.int k))):=jM ku (pv i d b c a) gh λ_ _=>rfl
theorem pkd(i:Nat){k:Int}{y:Str}{j l}{p2 g d c:Pos}(f:X.N[i]?=some x:=by rfl)(b:Vis X.env.scope x:=by first|exact Or.inl rfl|exact Or.inr (Or.inl rfl)|exact Or.inr (Or.inr rfl))(e:(x==("__debug__":Str))=false:=by decide)(a:(x==("__classdict__":Str))=false:=by decide):L2.PT X (.Compare (.Subscript (.Name x pos) (.Constant (.int k) j p2) g) [.Eq] [.Constant (.str y) l d] c) (wx (tOp rEq (tOp (tR X.K) (pE i) (tC (.int k))) (tC (.str y)))):=iz ma (pit i f b e a) gJ (uq _)
theorem fX(i:Nat)(e:X.N[i]?=some x:=by rfl)(b:Vis X.env.scope x:=by first|exact Or.inl rfl|exact Or.inr (Or.inl rfl)|exact Or.inr (Or.inr rfl))(d:(x==("__debug__":Str))=false:=by decide)(a:(x==("__classdict__":Str))=false:=by decide)(c:starEach [.Name x pos] X.env=(false,eval (.Name x pos) X.env)::starEach [] X.env:=by rfl):PA X [.Name x pos] (we (pE i) tO):=dV (pv i e b d a) eg c
theorem jr{e:yC}{es:zT}{t:TA}{p:Pos}(f:X.mg "len"=none)(b:PA X (e::es) t)(d:Gl X "len":=by rfl)(c:starEach (e::es) X.env=(false,eval e X.env)::starEach es X.env:=by rfl)(a:(backTo pos (starEach es X.env)).any (·.1)=false:=by rfl):PE X (.Call (.Name "len" p) (e::es) [] pos) (tCB (λxs H Q=>∃p ys,xs=[.ref p]/\(SqL X.K H p ys\/SqT X.K H p ys)/\Q (.int ys.length) H) t):=iL Ip d f PySem.boot_len b (by decide) (by decide) c a
theorem rsq{sts:List Stmt}{t:TS}{D:lZ}{Zz:St}(h:RS X sts t)(q:t D Zz H):∃t,PSs X sts t/\t D Zz H:=⟨t,h.r,q⟩
theorem nH{x:zW}(h:H x=none):∃H',A0j H H'/\H' x=some o/\upd H x o=H':=⟨_,fx h,ee,rfl⟩
abbrev Sro(a:zW):zP:=some (.ref a)
abbrev Sio(a:Int):zP:=some (.int a)
abbrev Sso(a:Str):zP:=some (.str a)
abbrev Sbo(a:Bool):zP:=some (.bl a)
local macro_rules | `(tactic| walk_at"ix") => `(tactic| first |exact Or.inl rfl |exact Or.inr rfl |(simp[relabel]; rfl) |(with_unfolding_all exact Or.inl rfl) |(with_unfolding_all exact Or.inr rfl) |(with_unfolding_all decide))
local macro_rules | `(tactic| walk_at"sc") => `(tactic| exact⟨rfl, rfl, rfl, by decide +kernel, rfl, by decide +kernel, by decide +kernel⟩)
local macro_rules | `(tactic| walk_at"ln") => `(tactic| (intro _ _ _ _ h; first |(cases h; subst_vars; rfl) |((repeat (obtain⟨_, h⟩ := h)); subst_vars; rfl)))
theorem sW:gO ["lengths","cells","length"] ["lengths"] (gy (top 2)):=by walk_at"sc"
theorem tf:gO ["cells","length","longer","cell","number"] ["cells","length"] (gy (top 3)):=by walk_at"sc"
theorem sS:gO mo ["value"] (gy (top 5)):=by walk_at"sc"
theorem tw:gO ["value","fresh","key","member"] mo (gy (top 6)):=by walk_at"sc"
theorem Jj:gO rf ["axes","lengths"] (gy (top 8)):=by walk_at"sc"
theorem IY:gO rf ["axes","lengths"] (gy (top 9)):=by walk_at"sc"
theorem pZ:gO ["cloth","steps","number","line","turns","cell"] ["cloth"] (gy (top 11)):=by walk_at"sc"
theorem AM:gO ["number","line","cell","turns","adds"] ["number","line","cell","turns"] (gy (top 12)):=by walk_at"sc"
theorem pe:gO ["cloth","step","number","word","cell","turn","line","at"] ["cloth","step"] (gy (top 14)):=by walk_at"sc"
theorem qT:gO ["cloth","step","number","word","cell","turn"] ["cloth","step"] (gy (top 15)):=by walk_at"sc"
theorem qV:gO ["cloth","wanted","written","step","read"] ["cloth"] (gy (top 17)):=by walk_at"sc"
theorem vD:gO ["cloth","found","array"] ["cloth"] (gy (top 18)):=by walk_at"sc"
theorem qR:gO ["cloth","found","sorted_out","array","axes","cells"] ["cloth","found"] (gy (top 19)):=by walk_at"sc"
theorem ox:gO ["cloth","steps","wanted","firsts","lasts","lives","array","cells","cell"] nV (gy (top 21)):=by walk_at"sc"
theorem sY:gO ["cloth","steps","firsts","place","step"] nV (gy (top 22)):=by walk_at"sc"
theorem pX:gO ["cloth","steps","wanted","lasts","place","step","read","kept"] ["cloth","steps","wanted"] (gy (top 23)):=by walk_at"sc"
theorem Ht:gO nV ["cloth","steps"] (gy (top 24)):=by walk_at"sc"
theorem pY:gO ["lives","end","numbers","gap","crowd","array","spans"] ["lives","end"] (gy (top 25)):=by walk_at"sc"
theorem vA:gO ["life","gap","first","last"] ["life","gap"] (gy (top 26)):=by walk_at"sc"
theorem nM:gO ["lives","end","changes","spans","first","last","numbers","live","change"] ["lives","end"] (gy (top 27)):=by walk_at"sc"
theorem IT:gO ["self"] ["self"] (gy AE):=by walk_at"sc"
theorem qW:gO ["self","life","first","last","box"] ["self","life"] (gy AQ):=by walk_at"sc"
theorem AO:gO ["self","gap","ended"] ["self","gap"] (gy AN):=by walk_at"sc"
theorem sU:gO ["cloth","steps","lives","gap","crowd"] nV (gy (top 30)):=by walk_at"sc"
theorem mW:gO ["cloth","steps","lives","row","homes","array","cell","life","place","step"] ["cloth","steps","lives"] (gy (top 31)):=by walk_at"sc"
theorem Iu:gO vO ["self","name","axes","sums","term"] (gy Aq):=by walk_at"sc"
theorem IH:gO vG ["self","wheel","lengths","arrays","tables","lines","outs"] (gy Ay):=by walk_at"sc"
theorem IU:gO ["self","number"] ["self","number"] (gy AA):=by walk_at"sc"
theorem Jh:gO ny ["self","at","lengths"] (gy AI):=by walk_at"sc"
theorem IA:gO ["self","array","indexes"] ["self","array","indexes"] (gy At):=by walk_at"sc"
theorem Je:gO ["self","at"] ["self","at"] (gy AH):=by walk_at"sc"
theorem IP:gO ny ["self","at","lengths"] (gy Aw):=by walk_at"sc"
theorem Ii:gO v9 ["axis","shift","at"] (gy (top 39)):=by walk_at"sc"
theorem Ij:gO ["self","left","right"] ["self","left","right"] (gy As):=by walk_at"sc"
theorem IJ:gO ny ["self","at","lengths"] (gy Ax):=by walk_at"sc"
theorem kA:gO ["_law_script","_law_most","_law_cells","_law_sizes","_law_tables","_law_spots","_law_name","_law_axes","_law_looks_here","_law_k","_law_cell","_law_near","_law_some","_law_turn","_law_step","_law_outs","_law_summed"] ["_law_script","_law_most"] (gy (top 43)):=by walk_at"sc"
theorem me:gO ["_law_about","_law_arrays","_law_name","_law_axes","_law_lines","_law_k","_law_term","_law_cell","_law_sums","_law_tables"] ["_law_about"] (gy (top 44)):=by walk_at"sc"
theorem vr:gO ["_law_about","_law_steps_here","_law_k"] ["_law_about"] (gy (top 45)):=by walk_at"sc"
theorem Hc:gO ["_law_about","_law_step"] ["_law_about","_law_step"] (gy (top 46)):=by walk_at"sc"
theorem pV:gO ["_law_about","_law_done","_law_step","_law_name","_law_cell","_law_line","_law_many"] ["_law_about","_law_done","_law_step"] (gy (top 47)):=by walk_at"sc"
theorem ou:gO ["_law_about","_law_cell","_law_pending","_law_done","_law_order_here","_law_at","_law_step"] ["_law_about","_law_cell"] (gy (top 48)):=by walk_at"sc"
theorem GG:gO ["_law_found"] ["_law_found"] (gy (top 49)):=by walk_at"sc"
theorem qH:gO ["_law_about","_law_order_here","_law_gap","_law_spot","_law_homes","_law_ahead","_law_step"] ["_law_about","_law_order_here","_law_gap","_law_spot","_law_homes"] (gy (top 50)):=by walk_at"sc"
theorem sR:gO ["_law_found","_law_homes","_law_name","_law_cell"] ["_law_found"] (gy (top 51)):=by walk_at"sc"
theorem m8:gO ["_law_script","_law_about","_law_order_here","_law_cloth","_law_crowd","_law_told","_law_homes","_law_spot","_law_used"] ["_law_script"] (gy (top 52)):=by walk_at"sc"
theorem ot:(["member"]:zC).Nodup:=by decide+kernel
theorem Gs:(["axis","lengths"]:zC).Nodup:=by decide+kernel
theorem Go:(["turn","cell","number"]:zC).Nodup:=by decide+kernel
theorem FY:(["cell","array"]:zC).Nodup:=by decide+kernel
theorem GC:(["cell","array","found"]:zC).Nodup:=by decide+kernel
theorem yQ:(["cell","life","array","gap"]:zC).Nodup:=by decide+kernel
theorem yX:(["axis","shift","at"]:zC).Nodup:=by decide+kernel
theorem Fl:(["_law_j","_law_name"]:zC).Nodup:=by decide+kernel
theorem Fk:(["_law_cell"]:zC).Nodup:=by decide+kernel
theorem Gr:(["_law_number"]:zC).Nodup:=by decide+kernel
theorem Al:(["_law_name","_law_axes"]:zC).Nodup:=by decide+kernel
theorem GH:(["_law_turn","_law_k"]:zC).Nodup:=by decide+kernel
theorem GF:(["_law_k"]:zC).Nodup:=by decide+kernel
theorem A5j.none{mg:zE}{base:yA}{CX:CXT}{k:Nat}{f:zW}{sp:Sp}(h:∀vs H Q E,¬sp vs H Q E):A5j P w K mg base CX k f fd ps sp :=⟨λvs H Q E q=>(h vs H Q E q).elim,λ_ _ _ H _ _ vs Q E _ _ _ _ q=>(h vs H Q E q).elim⟩
def lX(xs:zC):PyData:=.list (xs.map PyData.str)
def OkS(xs:zC):Prop:=∀x∈xs,PyData.strOk x=true
theorem xx:∀xs:zC,PyData.depthAll (xs.map PyData.str)=0/\kS (xs.map PyData.str)=xs.length
 | []=>⟨rfl,rfl⟩
 |x::r=>by
  obtain⟨a,b⟩:=xx r;refine⟨?_,?_⟩
  ·simp[PyData.depthAll,PyData.depth,a]
  ·simp[kS,cnt,b];lia
theorem qx(xs:zC):(lX xs).depth<=1/\cnt (lX xs)<=1+xs.length:=by
 obtain⟨a,b⟩:=xx xs;refine⟨?_,?_⟩
 ·simp[lX,PyData.depth,a]
 ·simp only [lX,cnt,b];lia
theorem Gn{d:PyData}(h:d.canLay0=true)(a:d.depth<=60):SeqAt.shaped d=true:=by unfold SeqAt.shaped;rw[h,Bool.true_and];exact iW (by lia)
theorem yV{H:Hp}:∀{ys:zC}{xs:zM},A5c H xs (ys.map PyData.str)->xs=ys.map V.str
 | [],_,r=>by cases r;rfl
 |y::ys,_,r=>by
  rw[gw]at r
  cases r with
  |cons a r=>
   cases a
   rw[gw,yV r]
theorem qi(h:Rep H v (lX ys)):∃p,v=.ref p/\H p=some (.lst (ys.map V.str)):=by obtain⟨p,a,rfl,e,r⟩:=uL (show Rep H v (.list (ys.map PyData.str)) from h);rw[yV r]at e;exact al p rfl e
theorem qp(e:H p=some (.lst (ys.map V.str))):Rep H (.ref p) (lX ys):=.lst e (A5c.strs ys)
theorem hE{α β:Type}{F:α->β->Prop}:∀{l:List α}{m:List β},Paired F l m->∀{i:Nat}{x:α},l[i]?=some x->∃y,m[i]?=some y/\F x y|_,_,.nil,i,x,e=>by simp at e|_,_,.cons r t,0,x,e=>by simp at e;subst e;exact al _ rfl r|_,_,.cons r t,i+1,x,e=>by obtain⟨y,a,b⟩:=hE t (i:=i) (by simpa using e);exact al y (by simpa using a) b
theorem jL{α β:Type}{F:α->β->Prop}:∀{a c:List α}{b d:List β},Paired F a b->Paired F c d->Paired F (a++c) (b++d)|_,_,_,_,.nil,h=>h|_,_,_,_,.cons r t,h=>.cons r (jL t h)
theorem md{α:Type}{f:α->V}{xs:List α}(h:(xs.map f)[i]?=some v):∃x,xs[i]?=some x/\v=f x:=by
 rw[gP]at h
 cases e:xs[i]? with
 |none=>rw[e]at h;cases h
 |some x=>rw[e]at h;exact al x rfl ((je h).symm)
def KT(H H':Hp):Prop:=∀p a,H p=some (.tup a)->H' p=some (.tup a)
theorem KT.same(s:A0j H H'):KT H H':=λp a e=>s _ _ e
theorem KT.at{l:zW}(e:H l=some u)(n:∀xs,u≠.tup xs):KT H (upd H l o):=λp xs z=>by rw[dF (gg z e (n xs).symm)];exact z
theorem KT.trans{H2:Hp}(a:KT H H')(b:KT H' H2):KT H H2:=λp c e=>b _ _ (a _ _ e)
def qk(A:Adr)(_:Op3):zW:=A.bf
inductive Ob(A:Adr)(H:Hp):V->Tm->Prop|num {a dx:zW} {z:Int}:H a=some (.ins A.ag dx [("number",.int z)])->Ob A H (.ref a) (.num z)|read {a dx l:zW} {x:Str} {ix:zL}:H a=some (.ins A.ah dx [("array",.str x),("indexes",.ref l)])->Rep H (.ref l) (nB ix)->Ob A H (.ref a) (.read x ix)|pair {a dx:zW} {k:Op3} {u w:V} {l r:Tm}:H a=some (.ins (qk A k) dx [("left",u),("right",w)])->Ob A H u l->Ob A H w r->Ob A H (.ref a) (.pair k l r)
theorem Ob.imp(f:A0j H H'){t:Tm}(h:Ob A H v t):Ob A H' v t:=by
 induction h with
 |num e=>exact .num (f _ _ e)
 |read e r=>exact .read (f _ _ e) (r.same f)
 |pair e _ _ i1 i2=>exact .pair (f _ _ e) i1 i2
local macro_rules | `(tactic| walk_at"lk") => `(tactic| first |with_reducible exact AV |(refine AT (by decide +kernel) ?_; walk_at"lk") |rfl)
def Fg(K:Frag)(f:Str):Sp:=λb H Q _=>∃(p C a:zW)(v:V),b=[.ref p,v]/\H p=some (.ins C a [])/\Cls K C/\A2k K C f/\Q .non (upd H p (.ins C a [(f,v)]))
def E7(K:Frag)(f g:Str):Sp:=λb H Q _=>∃(p C a:zW)(v u:V),b=[.ref p,v,u]/\H p=some (.ins C a [])/\Cls K C/\A2k K C f/\A2k K C g/\Q .non (upd H p (.ins C a [(f,v),(g,u)]))
def Eh(A:Adr):Sp:=λg H Q _=>∃(p e l:zW)(x:Str)(d:zL),g=[.ref p,.str x,.ref l]/\H p=some (.ins A.ah e [])/\Rep H (.ref l) (nB d)/\d.length<=1000/\
 ∀(f:zW)(c:Hp),c p=some (.ins A.ah e [("array",.str x),("indexes",.ref f)])->Rep (iC (λa=>H a=none) c) (.ref f) (nB d)->(∀b o,b≠p->H b=some o->c b=some o)->Q .non c
def uC(n:Nat):Sp:=λe H Q _=>∃(v:V)(d:PyData),e=[v]/\Rep H v d/\PyData.depth d<=n/\cnt d<=100000/\∀(c:V)(b:Hp),A0j H b->Rep (iC (λa=>H a=none) b) c d->Q c b
def Cu(A:Adr):Sp:=λc H Q _=>∃(a b:zW)(d:zK),c=[.ref a]/\H a=some (.ins A.ae b d)/\Q (.ref a) H
def wS(A:Adr):Sp:=λe H Q _=>∃(p:zW)(b:zM),e=[.ref p]/\H p=some (.lst b)/\b.length<=1000/\(∀x∈b,∃a d f,x=.ref a/\H a=some (.ins A.ae d f))/\∀(D:zW)(c:Hp),H D=none->A0j H c->c D=some (.lst b)->Q (.ref D) c
def t9:Sp:=λh H Q _=>∃(d:zW)(e:zJ)(g:List PyData),h=[.ref d]/\H d=some (.dK e)/\e.length<=100000/\Paired (λ(a:Key×V)(x:PyData)=>Rep H a.2 x/\PyData.depth x<=1/\cnt x<=100000) e g/\
 ∀(p:zW)(c:zJ)(f:Hp),H p=none->A0j H f->f p=some (.dK c)->c.map (·.1)=e.map (·.1)->Paired (λ(b:Key×V)(x:PyData)=>Rep (iC (λa=>H a=none) f) b.2 x) c g->Q (.ref p) f
variable{P:yB}{w:yD}{K:Frag}{mg:zE}{base:yA}{t:Adr}
theorem IW(T:Txt K mg t):FP P w mg base T.bg 1 (Fg K "number"):=by
 refine T.bg.F.ok IU λ_ A _ s H _ Q E e h=>?_
 ·refine jd h ?_;clear h;rintro p C a v rfl d b c k;exact rsq (fC ⟨jX (pv 0) (pv 1) rfl⟩) (al _ rfl (jE _ rfl p C a [] rfl d b c (by decide) k))
theorem Iq(T:Txt K mg t):FP P w mg base T.bP 1 (E7 K "left" "right"):=by
 refine T.bP.F.ok Ij λ_ A _ s H _ Q E f h=>?_
 ·refine lC h ?_;clear h;rintro p C a v u rfl d b c e k;refine rsq (fa ⟨jX (pv 0) (pv 1) rfl⟩ (fC ⟨jX (pv 0) (pv 2) rfl⟩)) (al _ rfl (ic _ rfl p C a [] rfl d b c (gF (by decide) _ rfl (jE _ rfl p C a _ rfl ee b e (by show 1<1000;decide) ?_))));show Q V.non (upd (upd H p _) p (.ins C a (iH "right" u (iH "left" v []))));rw[xn,kI,ji (by decide+kernel),kI];exact k
theorem qQ{T:String}(h:T="NoneType"\/T="bool"\/T="int"\/T="str"\/T="tuple"):∀u,A2c (.ty "list") u->kitOne K (.type T) u=some false:=by rcases h with rfl|rfl|rfl|rfl|rfl<;>exact pQ (by decide+kernel) (by decide+kernel) (by decide+kernel)
theorem sZ{T:String}(h:T="NoneType"\/T="bool"\/T="int"\/T="str"):∀u,A2c (.ty "tuple") u->kitOne K (.type T) u=some false:=by rcases h with rfl|rfl|rfl|rfl<;>exact pQ (by decide+kernel) (by decide+kernel) (by decide+kernel)
theorem sV{T:String}(h:T="NoneType"\/T="bool"\/T="int"\/T="str"):∀u,A2c (.ty "dict") u->kitOne K (.type T) u=some false:=by rcases h with rfl|rfl|rfl|rfl<;>exact pQ (by decide+kernel) (by decide+kernel) (by decide+kernel)
theorem x5(T:Txt K mg t){m:Nat}{sp':Sp}(Ga0:A5j P w K mg base jB m t.bq t.bo mo sp')
  (Y:∀(v:V)(d:PyData)(H:Hp)(Q:VK),Rep H v d->PyData.depth d+1<=n->cnt d<=100000->(∀(M:V)(H':Hp),A0j H H'->Rep (iC (λa=>H a=none) H') M d->Q M H')->sp' [v] H Q E0):
  A5j P w K mg base jB (m+1) t.bq t.bo mo (uC n):=by
 refine T.a7.F.ok sS λ_ A _ s H _ Q E O h=>?_
 ·refine jo h ?_;clear h;rintro v d rfl rp Z ⟨hc,k⟩;have Ga1:A5j P w K mg base jB 0 t.aL t.aM mo (λ_ _ _ _=>False):=A5j.none λ_ _ _ _ h=>h;refine rsq (fa (gZ (iY (iL jZ (by rfl) T.a6 jU (dV (pv 0) (dV (jY (v:=V.ty "list") rfl T.cf oC rfl) eg)))) (fC (gq (lN (N':=["member"]) (ix:=(List.replicate 1 none)) rfl (mC rfl (by decide+kernel) (by decide+kernel)) (mB rfl) (oe (pv 0)) (λ_ _ _ _=>(gc (i:=0) ot)) (λ_ _ _ _=>(pcl Ga0 O T.a7 (fX 0)))))) ⟨gW⟩) (fa (gZ (iY (iL jZ (by rfl) T.a6 jU (dV (pv 0) (dV (jY (v:=V.ty "tuple") rfl T.aE mn rfl) eg)))) (fC (gq (lA qU (by rfl) T.aE mn (dV (lN (N':=["member"]) (ix:=(List.replicate 1 none)) rfl (mC rfl (by decide+kernel) (by decide+kernel)) (mB rfl) (oe (pv 0)) (λ_ _ _ _=>(gc (i:=0) ot)) (λ_ _ _ _=>(pcl Ga0 O T.a7 (fX 0)))) eg)))) ⟨gW⟩) (fa (gZ (iY (iL jZ (by rfl) T.a6 jU (dV (pv 0) (dV (jY (v:=V.ty "dict") rfl T.c9 px rfl) eg)))) (fC (gq (pcl Ga1 O T.am (fX 0)))) ⟨gW⟩) (fC (gq (pv 0)))))) ?_
  cases rp with
  |non=>refine iT _ rfl _ _ _ _ rfl .non (qQ (.inl rfl)) false rfl (gM ?_);refine iT _ rfl _ _ _ _ rfl .non (sZ (.inl rfl)) false rfl (gM ?_);exact iT _ rfl _ _ _ _ rfl .non (sV (.inl rfl)) false rfl (gM (al _ rfl (k _ _ (A0j.refl _) .non)))
  |bl b=>refine iT _ rfl _ _ _ _ rfl (.bl b) (qQ (.inr (.inl rfl))) false rfl (gM ?_);refine iT _ rfl _ _ _ _ rfl (.bl b) (sZ (.inr (.inl rfl))) false rfl (gM ?_);exact iT _ rfl _ _ _ _ rfl (.bl b) (sV (.inr (.inl rfl))) false rfl (gM (al _ rfl (k _ _ (A0j.refl _) (.bl b))))
  |int b=>refine iT _ rfl _ _ _ _ rfl (.int b) (qQ (.inr (.inr (.inl rfl)))) false rfl (gM ?_);refine iT _ rfl _ _ _ _ rfl (.int b) (sZ (.inr (.inr (.inl rfl)))) false rfl (gM ?_);exact iT _ rfl _ _ _ _ rfl (.int b) (sV (.inr (.inr (.inl rfl)))) false rfl (gM (al _ rfl (k _ _ (A0j.refl _) (.int b))))
  |str b=>refine iT _ rfl _ _ _ _ rfl (.str b) (qQ (.inr (.inr (.inr (.inl rfl))))) false rfl (gM ?_);refine iT _ rfl _ _ _ _ rfl (.str b) (sZ (.inr (.inr (.inr rfl)))) false rfl (gM ?_);exact iT _ rfl _ _ _ _ rfl (.str b) (sV (.inr (.inr (.inr rfl)))) false rfl (gM (al _ rfl (k _ _ (A0j.refl _) (.str b))))
  |@lst p xs ds e r=>
   have J:=r.len;have W:=uR ds;have R:kS ds+1<=100000:=hc;have X:PyData.depthAll ds+1<=n:=Z;refine iT _ rfl _ _ _ _ rfl (.lst e) (mV "list") true rfl (kN ?_);refine .inl (jm _ rfl p rfl ⟨_,SqL.of e⟩ λD L=>?_)
   refine nK (K:=K) (a:=p) (D:=D) (xs:=xs) (λi f j=>A0j H j/\j D=some (.lst f)/\A5c (iC (λa=>H a=none/\a≠D) j) f (ds.take i)/\f.length=i)
    (ip (fx L) ee (by rw[List.take_zero];exact .nil) rfl) (λi f j ⟨g,_⟩=>SqL.of (g _ _ e)) ?_ ?_
   ·rintro i x f j N ⟨g,c,B,u⟩;obtain⟨d,y,U⟩:=r.get2 N;obtain⟨c1,c2⟩:=ut y;have hi:i<xs.length:=(gG.mp N).1;refine gF True.intro _ rfl (Y x d j _ (U.same g) (by lia) (by lia) λM H5 G C=>?_);have q:¬(H D=none/\D≠D):=λz=>z.2 rfl;refine ka (G _ _ c) (gQ (by lia)) (hJ (g.trans G) L) ee ?_ (by simp[u]);rw[gR,y];show A5c _ (f++[M]) (ds.take i++[d]);refine(B.same (om (nJ G) q)).snoc (C.same ((pb (A0j.refl _) λa o _ I=>⟨g.free I,λz=>?_⟩).trans (om (A0j.refl _) q)));subst z;rw[c]at I;cases I
   ·rintro f j ⟨g,c,B,u⟩;refine k (.ref D) j g (.lst (ky L c) ?_);rw[J,hQ]at B;exact B.same (pb (A0j.refl _) λa o _ h=>h.1)
  |@tup p xs ds e r=>
   have J:=r.len;have W:=uR ds;have R:kS ds+1<=100000:=hc;have X:PyData.depthAll ds+1<=n:=Z;refine iT _ rfl _ _ _ _ rfl (.tup e) (qQ (.inr (.inr (.inr (.inr rfl))))) false rfl (gM ?_);refine iT _ rfl _ _ _ _ rfl (.tup e) (mV "tuple") true rfl (kN ?_);refine .inr (jm _ rfl p rfl ⟨_,SqT.of e⟩ λD L=>?_)
   refine y4 (K:=K) (a:=p) (D:=D) (xs:=xs) (λi f j=>A0j H j/\j D=some (.lst f)/\A5c (iC (λa=>H a=none/\a≠D) j) f (ds.take i)/\f.length=i)
    (ip (fx L) ee (by rw[List.take_zero];exact .nil) rfl) (λi f j ⟨g,_⟩=>SqT.of (g _ _ e)) ?_ ?_
   ·rintro i x f j N ⟨g,c,B,u⟩;obtain⟨d,y,U⟩:=r.get2 N;obtain⟨c1,c2⟩:=ut y;have hi:i<xs.length:=(gG.mp N).1;refine gF True.intro _ rfl (Y x d j _ (U.same g) (by lia) (by lia) λM H5 G C=>?_);have q:¬(H D=none/\D≠D):=λz=>z.2 rfl;refine ka (G _ _ c) (gQ (by lia)) (hJ (g.trans G) L) ee ?_ (by simp[u]);rw[gR,y];show A5c _ (f++[M]) (ds.take i++[d]);refine(B.same (om (nJ G) q)).snoc (C.same ((pb (A0j.refl _) λa o _ I=>⟨g.free I,λz=>?_⟩).trans (om (A0j.refl _) q)));subst z;rw[c]at I;cases I
   ·rintro f j ⟨g,c,B,u⟩;refine iy D f rfl (.inl ⟨SqL.of c,λl S=>?_⟩);refine k (.ref l) _ (g.trans (fx S)) (.tup (ky (g.free S) ee) ?_);rw[J,hQ]at B;exact B.same ((pb (A0j.refl _) λa o _ h=>h.1).trans (nJ (fx S)))
theorem vk(T:Txt K mg t):∀n:Nat,A5j P w K mg base jB (n+1) t.bq t.bo mo (uC n)|0=>x5 T (sp':=λ_ _ _ _=>False) (m:=0) (A5j.none λ_ _ _ _ h=>h) λv d H Q _ h=>absurd h (by lia)|n+1=>x5 T (vk T n) λv d H Q a c b k=>(ij v d rfl a (by lia) b k)
theorem xr(T:Txt K mg t):FO P w base T.a7 1 (Cu t):=by
 refine T.a7.F.ok sS λ_ A _ s H _ Q E c h=>?_
 ·obtain⟨a,d,f,rfl,e,k⟩:=h;have Ga0:A5j P w K mg base jB 0 t.bq t.bo mo (λ_ _ _ _=>False):=A5j.none λ_ _ _ _ h=>h;have b:km K H (.ref a) (.ref t.ae):=.ins e T.aF T.cS.ha T.cS.hn T.cS.htk T.cS.hm;have Ga1:A5j P w K mg base jB 0 t.aL t.aM mo (λ_ _ _ _=>False):=A5j.none λ_ _ _ _ h=>h;refine rsq (fa (gZ (iY (iL jZ (by rfl) T.a6 jU (dV (pv 0) (dV (jY (v:=V.ty "list") rfl T.cf oC rfl) eg)))) (fC (gq (lN (N':=["member"]) (ix:=(List.replicate 1 none)) rfl (mC rfl (by decide+kernel) (by decide+kernel)) (mB rfl) (oe (pv 0)) (λ_ _ _ _=>(gc (i:=0) ot)) (λ_ _ _ _=>(pcl Ga0 c T.a7 (fX 0)))))) ⟨gW⟩) (fa (gZ (iY (iL jZ (by rfl) T.a6 jU (dV (pv 0) (dV (jY (v:=V.ty "tuple") rfl T.aE mn rfl) eg)))) (fC (gq (lA qU (by rfl) T.aE mn (dV (lN (N':=["member"]) (ix:=(List.replicate 1 none)) rfl (mC rfl (by decide+kernel) (by decide+kernel)) (mB rfl) (oe (pv 0)) (λ_ _ _ _=>(gc (i:=0) ot)) (λ_ _ _ _=>(pcl Ga0 c T.a7 (fX 0)))) eg)))) ⟨gW⟩) (fa (gZ (iY (iL jZ (by rfl) T.a6 jU (dV (pv 0) (dV (jY (v:=V.ty "dict") rfl T.c9 px rfl) eg)))) (fC (gq (pcl Ga1 c T.am (fX 0)))) ⟨gW⟩) (fC (gq (pv 0)))))) ?_;refine iT _ rfl _ _ _ _ rfl b (uE T.dG (by decide+kernel)) false rfl (gM ?_);refine iT _ rfl _ _ _ _ rfl b (uE T.dA (by decide+kernel)) false rfl (gM ?_);exact iT _ rfl _ _ _ _ rfl b (uE T.dM (by decide+kernel)) false rfl (gM (al _ rfl k))
theorem Db(T:Txt K mg t):FO P w base T.a7 2 (wS t):=by
 refine T.a7.F.ok sS λ_ A _ s H _ Q E l h=>?_
 ·refine jo h ?_;clear h;rintro p xs rfl e u ⟨r,k⟩;have Ga1:A5j P w K mg base jB 0 t.aL t.aM mo (λ_ _ _ _=>False):=A5j.none λ_ _ _ _ h=>h;refine rsq (fa (gZ (iY (iL jZ (by rfl) T.a6 jU (dV (pv 0) (dV (jY (v:=V.ty "list") rfl T.cf oC rfl) eg)))) (fC (gq (lN (N':=["member"]) (ix:=(List.replicate 1 none)) rfl (mC rfl (by decide+kernel) (by decide+kernel)) (mB rfl) (oe (pv 0)) (λ_ _ _ _=>(gc (i:=0) ot)) (λ_ _ _ _=>(pcl (xr T) l T.a7 (fX 0)))))) ⟨gW⟩) (fa (gZ (iY (iL jZ (by rfl) T.a6 jU (dV (pv 0) (dV (jY (v:=V.ty "tuple") rfl T.aE mn rfl) eg)))) (fC (gq (lA qU (by rfl) T.aE mn (dV (lN (N':=["member"]) (ix:=(List.replicate 1 none)) rfl (mC rfl (by decide+kernel) (by decide+kernel)) (mB rfl) (oe (pv 0)) (λ_ _ _ _=>(gc (i:=0) ot)) (λ_ _ _ _=>(pcl (xr T) l T.a7 (fX 0)))) eg)))) ⟨gW⟩) (fa (gZ (iY (iL jZ (by rfl) T.a6 jU (dV (pv 0) (dV (jY (v:=V.ty "dict") rfl T.c9 px rfl) eg)))) (fC (gq (pcl Ga1 l T.am (fX 0)))) ⟨gW⟩) (fC (gq (pv 0)))))) ?_;refine iT _ rfl _ _ _ _ rfl (.lst e) (mV "list") true rfl (kN ?_);refine .inl (jm _ rfl p rfl ⟨_,SqL.of e⟩ λD j=>?_)
  refine nK (K:=K) (a:=p) (D:=D) (xs:=xs) (λi f d=>A0j H d/\d D=some (.lst f)/\f=xs.take i)
   (fY (fx j) ee rfl) (λi f d ⟨c,_⟩=>SqL.of (c _ _ e)) ?_ ?_
  ·rintro i x f d g ⟨c,b,rfl⟩;obtain⟨a,q,o,rfl,m⟩:=r x (gT g);have n:(xs.take i).length<=xs.length:=by rw[iP];lia
   refine gF True.intro _ rfl (nj a q o rfl (c _ _ m) b (gQ (by lia)) (hJ c j) ⟨ee,?_⟩);rw[gR,g];rfl
  ·rintro f d ⟨c,b,rfl⟩;rw[hQ]at b;exact k D d j c b
theorem I0(T:Txt K mg t):FO P w base T.am 3 t9:=by
 refine T.am.F.ok tw λ_ A _ s H _ Q E hr h=>?_
 ·refine gE h ?_;clear h;rintro d c ds rfl u hl ⟨D,k⟩;have hu:=kF hr;refine al _ (@RS.r _ _ _ ⟨Ey (@jO _ _ _ _ _ (@mS _ _ 1 _ _ _ _ tw.nd rfl (.inl rfl) pT rfl (.inl rfl)) (@jO _ _ _ _ _ (oR PassesOwn.never rfl (pU (nD PySem.F.plainAttrs_dict PySem.F.slot_dict_items PySem.F.type_dict_items pS (pv 0))) (jV (n:=2) rfl (gK (gc (i:=2) tw.nd) (gK (gc (i:=3) tw.nd) jD))) (@jN _ _ _ (@nG _ _ _ _ _ _ _ _ _ hu (pv 1) (pv 2) (pcl (vk T 1) hr T.a7 (fX 3)) rfl))) (qM (@jN _ _ _ (@ms _ _ _ _ (pv 1))))))⟩) ?_;intro ap;have nd:=ap.1 d c u;refine λp M=>?_;have O:d≠p:=ga u M;have m:upd H p (.dK []) d=some (.dK c):=by rw[dF O];exact u
  refine fV _ rfl (.inr (.inr (.inl ⟨rfl,.inl ⟨_,m⟩⟩))) (ij d _ rfl rfl m (.inl ⟨_,rfl⟩) λC l=>?_);have vp:p≠C:=ga ee l;have dv:d≠C:=ga m l;refine gD C d _ rfl ee (by rw[dF dv];exact m) (.inl (al c rfl λo=>?_));have Y:H C=none:=by rw[dF vp.symm]at l;exact l
  have g0:A0j (upd H d (.frz o (.dK c))) (upd (upd (upd H p (.dK [])) C (ju C d)) d (.frz o (.dK c))):=λb v e=>by
   by_cases hb:b=d
   ·subst hb;rw[ee]at e⊢;exact e
   ·rw[dF hb]at e⊢;rw[dF (ga e Y),dF (ga e M)];exact e
  have a2:upd H d (.frz o (.dK c)) p=none:=by rw[dF O.symm];exact M
  have a3:∀b,upd H d (.frz o (.dK c)) b=none->H b=none:=λb e=>by
   by_cases hb:b=d
   ·subst hb;rw[ee]at e;cases e
   ·rw[dF hb]at e;exact e
  refine qO (L:=c.map λq=>(kV q.1,q.2)) (λi Z f=>∃(o2 S:zP)(j:zJ),Z=[Sro d,Sro p,o2,S]/\A0j (upd H d (.frz o (.dK c))) f/\f p=some (.dK j)/\j.map (·.1)=(c.take i).map (·.1)/\Paired (λ(b:Key×V)(x:PyData)=>Rep (iC (λa=>H a=none/\a≠p) f) b.2 x) j (ds.take i))
   (gX none none [] rfl g0 (by rw[dF O.symm,dF vp,ee]) rfl .nil) (λi Z f zq=>by obtain⟨_,_,_,_,g,_⟩:=zq;exact g _ _ ee) ?_ ?_
  ·rintro i kx vx q Z f hx hq I;refine gE I ?_;clear I;rintro o2 S j rfl g J ⟨y,N⟩;rw[gP]at hx;obtain⟨⟨k',v⟩,R,e⟩:=lI.mp hx;cases e;obtain⟨x,U,rv,a1,a0⟩:=hE D R;have B:A0j f (upd f q (.tup [kV k',v])):=fx hq;have a5:Rep (upd f q (.tup [kV k',v])) v x:=(rv.imp2 (λb ys z=>g _ _ (by rw[dF (gg z u (by intro w;cases w))];exact z)) λb ys z=>g _ _ (by rw[dF (gg z u (by intro w;cases w))];exact z)).same B;refine jJ q _ rfl (SqT.of ee) rfl _ _ rfl _ _ rfl rfl (al _ rfl (ij v x rfl a5 a1 a0 λv' H6 s6 r6=>?_));have h6:=s6 _ _ (B _ _ J);have lw:j.length=(c.take i).length:=by have:=congrArg List.length y;simpa using this
   have a6:(c.take i).length<=c.length:=by rw[iP];lia
   refine ie _ rfl _ rfl p _ rfl (C3j.k (k:=k') h6 (gQ (by lia))) ?_;have G:¬(H p=none/\p≠p):=λz=>z.2 rfl;refine gX _ _ _ rfl (hJ (g.trans (B.trans s6)) a2) ee ?_ ?_
   ·rw[qA nd R j y v',gR,R,gB,gB,y];rfl
   ·rw[qA nd R j y v',gR,U];refine jL (Paired.mapP N λ_ _ z=>z.same (om (nJ (B.trans s6)) G)) (.cons (r6.same ((pb (A0j.refl _) λa ob ea X=>⟨?_,λz=>?_⟩).trans (om (A0j.refl _) G))) .nil)
    ·exact a3 a (g.free (B.free X))
    ·subst z;rw[B _ _ J]at X;cases X
  ·rintro Z f I;refine gE I ?_;clear I;rintro o2 S j rfl g J ⟨y,N⟩;have ld:=Paired.length D;rw[eH,hQ]at y;rw[eH,ld,hQ]at N;have W:f d=some (.frz o (.dK c)):=g _ _ ee;refine jn d o _ W (iw (.inl ⟨_,rfl⟩) (λo' u' z=>by have z:H d=some (.frz o' u'):=z;rw[u]at z;cases z) _ rfl ?_);have a4:¬(H d=none/\d≠p):=λz=>by rw[u]at z;cases z.1
   exact k p j _ M (zi u g) (by rw[dF O.symm];exact J) y (Paired.mapP N λ_ _ z=>z.same ((om (A0j.refl _) a4).trans (pb (A0j.refl _) λa ob _ h=>h.1)))
theorem Dt(T:Txt K mg t):FO P w base T.a7 4 t9:=by
 have Ga0:A5j P w K mg base jB 0 t.bq t.bo mo (λ_ _ _ _=>False):=A5j.none λ_ _ _ _ h=>h;refine T.a7.F.ok sS λ_ A _ s H _ Q E b h=>?_
 ·have e:=h;obtain⟨d,c,f,rfl,a,_⟩:=h;refine rsq (fa (gZ (iY (iL jZ (by rfl) T.a6 jU (dV (pv 0) (dV (jY (v:=V.ty "list") rfl T.cf oC rfl) eg)))) (fC (gq (lN (N':=["member"]) (ix:=(List.replicate 1 none)) rfl (mC rfl (by decide+kernel) (by decide+kernel)) (mB rfl) (oe (pv 0)) (λ_ _ _ _=>(gc (i:=0) ot)) (λ_ _ _ _=>(pcl Ga0 b T.a7 (fX 0)))))) ⟨gW⟩) (fa (gZ (iY (iL jZ (by rfl) T.a6 jU (dV (pv 0) (dV (jY (v:=V.ty "tuple") rfl T.aE mn rfl) eg)))) (fC (gq (lA qU (by rfl) T.aE mn (dV (lN (N':=["member"]) (ix:=(List.replicate 1 none)) rfl (mC rfl (by decide+kernel) (by decide+kernel)) (mB rfl) (oe (pv 0)) (λ_ _ _ _=>(gc (i:=0) ot)) (λ_ _ _ _=>(pcl Ga0 b T.a7 (fX 0)))) eg)))) ⟨gW⟩) (fa (gZ (iY (iL jZ (by rfl) T.a6 jU (dV (pv 0) (dV (jY (v:=V.ty "dict") rfl T.c9 px rfl) eg)))) (fC (gq (pcl (I0 T) b T.am (fX 0)))) ⟨gW⟩) (fC (gq (pv 0)))))) ?_;refine iT _ rfl _ _ _ _ rfl (.dK a) (pQ (by decide+kernel) (by decide+kernel) (by decide+kernel)) false rfl (gM ?_);refine iT _ rfl _ _ _ _ rfl (.dK a) (pQ (by decide+kernel) (by decide+kernel) (by decide+kernel)) false rfl (gM ?_);exact iT _ rfl _ _ _ _ rfl (.dK a) (mV "dict") true rfl (kN (al _ rfl e))
def C6(A:Adr):Sp:=λa H Q E=>(uC 2 a H Q E\/wS A a H Q E)\/t9 a H Q E
theorem oa(T:Txt K mg t):FO P w base T.a7 4 (C6 t):=A5j.or (A5j.or ((vk T 2).mono (by lia)) ((Db T).mono (by lia))) (Dt T)
theorem Im(T:Txt K mg t):FP P w mg base T.bI 5 (Eh t):=by
 refine T.bI.F.ok IA λ_ A _ s H _ Q E r h=>?_
 ·refine jp h ?_;clear h;rintro p f l ⟨x,ix,rfl,j,u,q,k⟩;have y:=Cm (ix:=ix);refine rsq (fa ⟨jX (pv 0) (pv 1) rfl⟩ (fC ⟨jX (pv 0) (pcl (oa T) r T.a7 (fX 2)) rfl⟩)) (al _ rfl (jE _ rfl p _ f [] rfl j T.bS T.bY (by decide) ?_));refine al _ rfl (.inl (.inl (ij (.ref l) (nB ix) rfl (u.ins j) Ff (by lia) λv C m d=>?_)));have g:=m _ _ (ee (H:=H) (a:=p));obtain⟨n,I,rfl,D,G⟩:=uL (show Rep _ v (.list (ix.map lW)) from d);refine jE _ rfl p _ f _ rfl g T.bS T.bE (by show 1<1000;decide) ?_;show Q V.non (upd C p (.ins t.ah f (iH "indexes" (.ref n) (iH "array" (.str x) []))));rw[kI,ji (by decide+kernel),kI];refine k n _ ee (d.same λb o e=>?_) λb o c e=>?_
  ·obtain⟨c,B⟩:=jz e;have c:upd H p _ b=none:=c;have i:b≠p:=λz=>by rw[z,ee]at c;cases c
   rw[dF i]at c;exact ky c (by rw[dF i];exact B)
  rw[dF c];exact m _ _ (by rw[dF c];exact e)
def KB(p:zW)(H H':Hp):Prop:=∀b o,b≠p->H b=some o->H' b=some o
theorem KB.upd(k:KB p H H'):KB p H (upd H' p o):=λb u a e=>by rw[dF a];exact k b u a e
theorem KB.refl:KB p H H:=λ_ _ _ e=>e
theorem KB.trans{H2:Hp}(a:KB p H H')(b:KB p H' H2):KB p H H2:=λc o d e=>b c o d (a c o d e)
theorem KB.of(s:A0j H H'):KB p H H':=λb o _ e=>s _ _ e
theorem KB.free{b:zW}(k:KB p H H')(d:H' p=some u)(a:H' b=none):H b=none:=by
 cases e:H b with
 |none=>rfl
 |some o=>
  have c:b≠p:=λz=>by subst z;rw[d]at a;cases a
  rw[k b o c e]at a;cases a
theorem KB.kt(k:KB p H H')(a:H p=some u)(n:∀xs,u≠.tup xs):KT H H':=λb xs e=>k b _ (gg e a (n xs).symm) e
theorem KB.same{H2:Hp}(s:A0j H H2)(k:KB p H2 H')(a:H p=none):A0j H H':=λb o e=>k b o (ga e a) (s _ _ e)
abbrev AR(S:zV)(H:Hp)(kvs:zJ)(es:zB):Prop:=Paired (λ(p:Key×V)(e:Str×List Str)=>p.1=Sum.inr e.1/\∃b,p.2=.ref b/\S b/\H b=some (.lst (e.2.map V.str))) kvs es
theorem AR.imp{S:zV}(h:AR S H kvs es)(f:∀b xs,S b->H b=some (.lst xs)->S' b/\H' b=some (.lst xs)):AR S' H' kvs es :=Paired.mapP h λ_ _ ⟨d,b,e,c,a⟩=>(jP d b e ((f b _ c a).1) ((f b _ c a).2))
theorem AR.same{S:zV}(h:AR S H kvs es)(s:A0j H H'):AR S H' kvs es:=h.imp λb a z e=>⟨z,s _ _ e⟩
theorem AR.src{S:zV}{H:Hp}:∀{kvs:zJ}{es:zB},AR S H kvs es->(∀e∈es,e.2.length<=100)->Paired (λ(a:Key×V)(x:PyData)=>Rep H a.2 x/\PyData.depth x<=1/\cnt x<=100000) kvs (es.map λe=>lX e.2)|_,_,.nil,_=>.nil|_,_,@Paired.cons _ _ _ p e _ _ ⟨_,b,z2,_,z4⟩ t,h=>by obtain⟨d,f⟩:=qx e.2;have:=h e (.head _);exact .cons (fY (by rw[z2];exact qp z4) d (by show cnt (lX e.2)<=100000;lia)) (AR.src t λx c=>h x (.tail _ c))
theorem wC{S S':zV}{H H':Hp}:∀{kvs c:zJ}{es:zB},AR S H kvs es->c.map (·.1)=kvs.map (·.1)->Paired (λ(b:Key×V)(x:PyData)=>Rep (iC S' H') b.2 x) c (es.map λe=>lX e.2)->AR S' H' c es
 |_,[],_,.nil,_,_=>.nil
 |_,_::_,_,.nil,ks,_=>by cases ks
 |_,[],_,.cons _ _,ks,_=>by cases ks
 |_,q::r,_,@Paired.cons _ _ _ p e _ _ ⟨z1,_⟩ t,ks,pr=>by
  rw[gw,gw]at ks;injection ks with k1 k2;rw[gw]at pr
  cases pr with
  |cons a pr=>obtain⟨b,f,d⟩:=qi a;exact .cons (jP (k1.trans z1) b f ((jz d).1) ((jz d).2)) (wC t k2 pr)
abbrev ul(kvs:zJ)(a:zI):Prop:=Paired (λ(p:Key×V)(i:Int)=>p.2=.int i) kvs a
theorem yf{H:Hp}:∀{kvs:zJ}{b:zI},ul kvs b->Paired (λ(a:Key×V)(x:PyData)=>Rep H a.2 x/\PyData.depth x<=1/\cnt x<=100000) kvs (b.map PyData.int)|_,_,.nil=>.nil|_,_,.cons a t=>.cons (fY (by rw[a];exact .int _) (by simp[PyData.depth]) (by simp[cnt])) (yf t)
theorem xV{S:zV}{H:Hp}:∀{kvs c:zJ}{d:zI},ul kvs d->c.map (·.1)=kvs.map (·.1)->Paired (λ(b:Key×V)(x:PyData)=>Rep (iC S H) b.2 x) c (d.map PyData.int)->c=kvs
 |_,[],_,.nil,_,_=>rfl
 |_,_::_,_,.nil,ks,_=>by cases ks
 |_,[],_,.cons _ _,ks,_=>by cases ks
 |_,q::r,_,@Paired.cons _ _ _ p i _ _ a t,ks,pr=>by
  rw[gw,gw]at ks;injection ks with k1 k2;rw[gw]at pr
  cases pr with
  |cons b pr=>rw[xV t k2 pr];have e:=xN b;have:q=p:=Prod.ext k1 (e.trans a.symm);rw[this]
def FE(A:Adr):Sp:=λf H Q _=>∃(p e l m:zW)(n:V)(x:Str)(b d:zC),f=[.ref p,.str x,.ref l,.ref m,n]/\H p=some (.ins A.ae e [])/\H l=some (.lst (b.map V.str))/\H m=some (.lst (d.map V.str))/\b.length<=1000/\d.length<=1000/\
 ∀(c u:zW)(a:Hp),H c=none->H u=none->a p=some (.ins A.ae e [("name",.str x),("axes",.ref c),("sums",.ref u),("term",n)])->a c=some (.lst (b.map V.str))->a u=some (.lst (d.map V.str))->KB p H a->Q .non a
abbrev clo(A:Adr)(dx:zW)(b:Int)(l a tb c o:zW):HO:=.ins A.a8 dx [("wheel",.int b),("lengths",.ref l),("arrays",.ref a),("tables",.ref tb),("lines",.ref c),("outs",.ref o)]
def Ei(A:Adr):Sp:=λz H Q _=>∃(p g v r u s t:zW)(y:Int)(h w:zJ)(C:zI)(f:zB)(k m:zC)(i:zM)(S:zV),z=[.ref p,.int y,.ref v,.ref r,.ref u,.ref s,.ref t]/\H p=some (.ins A.a8 g [])/\
 H v=some (.dK h)/\ul h C/\h.length<=1000/\H r=some (.dK w)/\AR S H w f/\f.length<=1000/\(∀e∈f,e.2.length<=100)/\H u=some (.lst (k.map V.str))/\k.length<=1000/\H s=some (.lst i)/\i.length<=1000/\(∀x∈i,∃a g B,x=.ref a/\a≠p/\H a=some (.ins A.ae g B))/\H t=some (.lst (m.map V.str))/\m.length<=1000/\
 ∀(q o n j l:zW)(d:zJ)(c:Hp),c p=some (clo A g y q o n j l)->H q=none->c q=some (.dK h)->H o=none->c o=some (.dK d)->AR (λb=>H b=none) c d f->H n=none->c n=some (.lst (k.map V.str))->H j=none->c j=some (.lst i)->H l=none->c l=some (.lst (m.map V.str))->KB p H c->Q .non c
theorem Iv(T:Txt K mg t):FP P w mg base T.bQ 5 (FE t):=by
 refine T.bQ.F.ok Iu λ_ A _ s H _ Q E N h=>?_
 ·refine jS h ?_;clear h;rintro p e l m n x ⟨J,S,rfl,f,R,M,ly,lz,k⟩;obtain⟨c2,c3⟩:=qx J;obtain⟨d2,d3⟩:=qx S;have Z:l≠p:=gg R f (by intro z;cases z);have X:m≠p:=gg M f (by intro z;cases z);have W:∀v:V,iH "axes" v [("name",.str x)]=([("name",.str x),("axes",v)]:zK):=λv=>by rw[ji (by decide+kernel),kI]
  have e2:∀u v:V,iH "sums" v [("name",.str x),("axes",u)]=([("name",.str x),("axes",u),("sums",v)]:zK):=λu v=>by rw[ji (by decide+kernel),ji (by decide+kernel),kI]
  have e3:∀B u v:V,iH "term" v [("name",.str x),("axes",B),("sums",u)]=([("name",.str x),("axes",B),("sums",u),("term",v)]:zK):=λB u v=>by rw[ji (by decide+kernel),ji (by decide+kernel),ji (by decide+kernel),kI]
  refine rsq (fa ⟨jX (pv 0) (pv 1) rfl⟩ (fa ⟨jX (pv 0) (pcl (oa T) N T.a7 (fX 2)) rfl⟩ (fa ⟨jX (pv 0) (pcl (oa T) N T.a7 (fX 3)) rfl⟩ (fC ⟨jX (pv 0) (pv 4) rfl⟩)))) (al _ rfl (jE _ rfl p _ e [] rfl f T.aF T.cv (by decide) ?_));rw[kI];have C:KB p H (upd H p (.ins t.ae e [("name",.str x)])):=KB.refl.upd;refine al _ rfl (.inl (.inl (ij (.ref l) (lX J) rfl (qp (C _ _ Z R)) (by lia) (by lia) λv' U O o=>?_)));have I:=O _ _ (ee (H:=H) (a:=p));obtain⟨c,rfl,j⟩:=qi o;obtain⟨y,j⟩:=jz j;have d:H c=none:=C.free ee y;have L:c≠p:=λz=>by subst z;rw[f]at d;cases d
  refine jE _ rfl p _ e _ rfl I T.aF T.bt (by show 1<1000;decide) ?_;rw[W];have i:KB p H (upd U p (.ins t.ae e [("name",.str x),("axes",.ref c)])):=(C.trans (KB.of O)).upd;refine al _ rfl (.inl (.inl (ij (.ref m) (lX S) rfl (qp (i _ _ X M)) (by lia) (by lia) λa0 H3 g D=>?_)));have r:=g _ _ (ee (H:=U) (a:=p));obtain⟨u,rfl,q⟩:=qi D;obtain⟨G,q⟩:=jz q;have b:H u=none:=i.free ee G;have Y:u≠p:=λz=>by subst z;rw[f]at b;cases b
  refine jE _ rfl p _ e _ rfl r T.aF T.aR (by show 2<1000;decide) ?_;rw[e2];refine al _ rfl (jE _ rfl p _ e _ rfl ee T.aF T.cw (by show 3<1000;decide) ?_);show Q V.non (upd (upd H3 p _) p _);rw[xn,e3];exact k c u _ d b ee (by rw[dF L];exact g _ _ (by rw[dF L];exact j)) (by rw[dF Y];exact q) (i.trans (KB.of g)).upd
theorem IL(T:Txt K mg t):FP P w mg base T.bu 5 (Ei t):=by
 refine T.bu.F.ok IH λ_ A _ s H _ Q E L h=>?_
 ·refine pk h ?_;clear h;rintro p c ld ad tl lv ol a lk ak is es tb os ⟨xs,S,rfl,hp,N,il,ll,W,ar,c6,O,J,c5,M,b6,b3,I,c4,k⟩;have f1:∀v:V,iH "lengths" v [("wheel",.int a)]=([("wheel",.int a),("lengths",v)]:zK):=λv=>by rw[ji (by decide+kernel),kI]
  have f2:∀u v:V,iH "arrays" v [("wheel",.int a),("lengths",u)]=([("wheel",.int a),("lengths",u),("arrays",v)]:zK):=λu v=>by rw[ji (by decide+kernel),ji (by decide+kernel),kI]
  have f3:∀i u v:V,iH "tables" v [("wheel",.int a),("lengths",i),("arrays",u)]=([("wheel",.int a),("lengths",i),("arrays",u),("tables",v)]:zK):=λi u v=>by rw[ji (by decide+kernel),ji (by decide+kernel),ji (by decide+kernel),kI]
  have f4:∀i m u v:V,iH "lines" v [("wheel",.int a),("lengths",i),("arrays",m),("tables",u)]=([("wheel",.int a),("lengths",i),("arrays",m),("tables",u),("lines",v)]:zK):=λi m u v=>by rw[ji (by decide+kernel),ji (by decide+kernel),ji (by decide+kernel),ji (by decide+kernel),kI]
  have f5:∀i m u3 u v:V,iH "outs" v [("wheel",.int a),("lengths",i),("arrays",m),("tables",u3),("lines",u)]=([("wheel",.int a),("lengths",i),("arrays",m),("tables",u3),("lines",u),("outs",v)]:zK):=λi m u3 u v=>by rw[ji (by decide+kernel),ji (by decide+kernel),ji (by decide+kernel),ji (by decide+kernel),ji (by decide+kernel),kI]
  have r:∀{b:zW}{u:HO},H b=some u->(∀C d fs,u≠.ins C d fs)->b≠p:=λe n z=>by subst z;rw[hp]at e;cases e;exact n _ _ _ rfl
  have f:∀{b:zW},H b=none->b≠p:=λe z=>by subst z;rw[hp]at e;cases e
  refine rsq (fa ⟨jX (pv 0) (pv 1) rfl⟩ (fa ⟨jX (pv 0) (pcl (oa T) L T.a7 (fX 2)) rfl⟩ (fa ⟨jX (pv 0) (pcl (oa T) L T.a7 (fX 3)) rfl⟩ (fa ⟨jX (pv 0) (pcl (oa T) L T.a7 (fX 4)) rfl⟩ (fa ⟨jX (pv 0) (pcl (oa T) L T.a7 (fX 5)) rfl⟩ (fC ⟨jX (pv 0) (pcl (oa T) L T.a7 (fX 6)) rfl⟩)))))) (al _ rfl (jE _ rfl p _ c [] rfl hp T.a9 T.d5 (by decide) ?_));rw[kI];obtain⟨G0,hG0⟩:∃G0,G0=upd H p (.ins t.a8 c [("wheel",.int a)]):=⟨_,rfl⟩;rw[<-hG0];have p0:G0 p=some (.ins t.a8 c [("wheel",.int a)]):=by rw[hG0];exact ee
  have k0:KB p H G0:=by rw[hG0];exact KB.refl.upd
  refine al _ rfl (.inr (gX ld lk (is.map PyData.int) rfl (k0 _ _ (r N (by intros;intro z;cases z)) N) (by lia) (yf il) λg a4 H1 a3 s1 h1 ks cp=>?_));have ek:=xV il ks cp;subst ek;have B:H g=none:=k0.free p0 a3;refine jE _ rfl p _ c _ rfl (s1 _ _ p0) T.a9 T.af (by show 1<1000;decide) ?_;rw[f1];obtain⟨G1,hG1⟩:∃G1,G1=upd H1 p (.ins t.a8 c [("wheel",.int a),("lengths",.ref g)]):=⟨_,rfl⟩;rw[<-hG1];have Z:G1 p=some (.ins t.a8 c [("wheel",.int a),("lengths",.ref g)]):=by rw[hG1];exact ee
  have y:KB p H G1:=by rw[hG1];exact(k0.trans (KB.of s1)).upd
  have b8:G1 g=some (.dK a4):=by rw[hG1,dF (f B)];exact h1
  have U:AR (λb=>S b) G1 ak es:=ar.imp λb ys z e=>⟨z,y _ _ (r e (by intros;intro z;cases z)) e⟩;refine al _ rfl (.inr (gX ad ak _ rfl (y _ _ (r W (by intros;intro z;cases z)) W) (by have:=Paired.length ar;lia) (U.src O) λj o H2 c0 s2 h2 a6 b9=>?_));have b2:=wC U a6 b9;have R:H j=none:=y.free Z c0;refine jE _ rfl p _ c _ rfl (s2 _ _ Z) T.a9 T.ay (by show 2<1000;decide) ?_;rw[f2];obtain⟨G2,hG2⟩:∃G2,G2=upd H2 p (.ins t.a8 c [("wheel",.int a),("lengths",.ref g),("arrays",.ref j)]):=⟨_,rfl⟩;rw[<-hG2];have p2:G2 p=some (.ins t.a8 c [("wheel",.int a),("lengths",.ref g),("arrays",.ref j)]):=by rw[hG2];exact ee
  have j2:KB p G1 G2:=by rw[hG2];exact(KB.of s2).upd
  have k2:=y.trans j2;have b5:G2 j=some (.dK o):=by rw[hG2,dF (f R)];exact h2
  have a0:AR (λb=>H b=none) G2 o es:=b2.imp λb ys z e=>⟨y.free Z z,by rw[hG2,dF (f (y.free Z z))];exact e⟩;obtain⟨c2,c3⟩:=qx tb;refine al _ rfl (.inl (.inl (ij (.ref tl) (lX tb) rfl (qp (k2 _ _ (r J (by intros;intro z;cases z)) J)) (by lia) (by lia) λvt H3 s3 b1=>?_)));obtain⟨l,rfl,et⟩:=qi b1;obtain⟨b4,et⟩:=jz et;have Y:H l=none:=k2.free p2 b4;refine jE _ rfl p _ c _ rfl (s3 _ _ p2) T.a9 T.bG (by show 3<1000;decide) ?_;rw[f3];obtain⟨G3,hG3⟩:∃G3,G3=upd H3 p (.ins t.a8 c [("wheel",.int a),("lengths",.ref g),("arrays",.ref j),("tables",.ref l)]):=⟨_,rfl⟩;rw[<-hG3];have p3:G3 p=some (.ins t.a8 c [("wheel",.int a),("lengths",.ref g),("arrays",.ref j),("tables",.ref l)]):=by rw[hG3];exact ee
  have j3:KB p G2 G3:=by rw[hG3];exact(KB.of s3).upd
  have X:=k2.trans j3;have c1:G3 l=some (.lst (tb.map V.str)):=by rw[hG3,dF (f Y)];exact et
  refine al _ rfl (.inl (.inr (ij lv xs rfl (X _ _ (r M (by intros;intro z;cases z)) M) b6 (λx hx=>?_) λq H4 b0 s4 a1=>?_)))
  ·obtain⟨b,db,fs,rfl,nb,eb⟩:=b3 x hx;exact jn b db fs rfl (X _ _ nb eb)
  have nv:H q=none:=X.free p3 b0;refine jE _ rfl p _ c _ rfl (s4 _ _ p3) T.a9 T.aG (by show 4<1000;decide) ?_;rw[f4];obtain⟨G4,hG4⟩:∃G4,G4=upd H4 p (.ins t.a8 c [("wheel",.int a),("lengths",.ref g),("arrays",.ref j),("tables",.ref l),("lines",.ref q)]):=⟨_,rfl⟩;rw[<-hG4];have p4:G4 p=some (.ins t.a8 c [("wheel",.int a),("lengths",.ref g),("arrays",.ref j),("tables",.ref l),("lines",.ref q)]):=by rw[hG4];exact ee
  have G:KB p G3 G4:=by rw[hG4];exact(KB.of s4).upd
  have k4:=X.trans G;have b7:G4 q=some (.lst xs):=by rw[hG4,dF (f nv)];exact a1
  obtain⟨o2,o3⟩:=qx os;refine al _ rfl (.inl (.inl (ij (.ref ol) (lX os) rfl (qp (k4 _ _ (r I (by intros;intro z;cases z)) I)) (by lia) (by lia) λvo H5 s5 a5=>?_)));obtain⟨o',rfl,eo⟩:=qi a5;obtain⟨a2,eo⟩:=jz eo;have no:H o'=none:=k4.free p4 a2;refine jE _ rfl p _ c _ rfl (s5 _ _ p4) T.a9 T.bZ (by show 5<1000;decide) ?_;show Q V.non (upd H5 p _);rw[f5];have j5:KB p G4 (upd H5 p (clo t c a g j l q o')):=(KB.of s5).upd;have D:=λ{b:zW}(hb:H b=none){u:HO}(e:G4 b=some u)=>j5 _ _ (f hb) e;exact k g j l q o' o _ ee B (D B (G _ _ (f B) (j3 _ _ (f B) (j2 _ _ (f B) b8)))) R (D R (G _ _ (f R) (j3 _ _ (f R) b5))) (a0.imp λb ys z e=>⟨z,D z (G _ _ (f z) (j3 _ _ (f z) e))⟩) Y (D Y (G _ _ (f Y) c1)) nv (D nv b7) no (by rw[dF (f no)];exact eo) (k4.trans j5)
def Gd:Tm->Prop|.read _ ix=>ix.length<=100|.sum _ b=>Gd b|.pair _ l r=>Gd l/\Gd r|.guard _ _ _ l r=>Gd l/\Gd r|_=>True
structure C5v(n:Nat)(u:Tm)(H:Hp)(d l:zW)(kvs lk:zJ):Prop where
 good:Gd u
 deep:dep u<=n
 hd:H d=some (.dK kvs)
 at_:ri kvs u
 hl:H l=some (.dK lk)
 ax:∃AX,Axs AX u/\wz AX lk
 few:kvs.length+n<=1000
 most:(rd (ai lk) u (ai kvs)).length<=100000
theorem C5v.same{u:Tm}{l:zW}(h:C5v n u H d l kvs lk)(s:A0j H H'):C5v n u H' d l kvs lk:=⟨h.good,h.deep,s _ _ h.hd,h.at_,s _ _ h.hl,h.ax,h.few,h.most⟩
theorem C5v.left{o:Op3}{a b:Tm}{l:zW}(h:C5v (n+1) (.pair o a b) H d l kvs lk):C5v n a H d l kvs lk:=by obtain⟨AX,g,i⟩:=h.ax;have e:=h.deep;have f:=h.few;have c:=h.most;simp only [dep]at e;simp only [rd,gz]at c;exact⟨h.good.1,by lia,h.hd,λx j=>h.at_ x (.inl j),h.hl,(al AX g.1 i),by lia,by lia⟩
theorem C5v.right{o:Op3}{a b:Tm}{l:zW}(h:C5v (n+1) (.pair o a b) H d l kvs lk):C5v n b H d l kvs lk:=by obtain⟨AX,g,i⟩:=h.ax;have e:=h.deep;have f:=h.few;have c:=h.most;simp only [dep]at e;simp only [rd,gz]at c;exact⟨h.good.2,by lia,h.hd,λx j=>h.at_ x (.inr j),h.hl,(al AX g.2 i),by lia,by lia⟩
def RdQ(H:Hp)(rs:List (Str×List Int))(Q:VK):Prop:=∀(p:zW)(b:zM)(a:Hp),H p=none->A0j H a->a p=some (.lst b)->Rds a b rs->Q (.ref p) a
def HP:Sp:=λb H Q _=>∃(x:Str)(z:Int)(d:zW)(a:zJ),b=[.str x,.int z,.ref d]/\H d=some (.dK a)/\(¬x=""->fy a (Sum.inr x)=some (.int (ai a x)))/\Q (.int (if x="" then z else ai a x+z)) H
def GL(A:Adr):Sp:=λh H Q _=>∃(o g d l:zW)(a:Str)(c:zL)(b:zJ),h=[.ref o,.ref d]/\H o=some (.ins A.ah g [("array",.str a),("indexes",.ref l)])/\Rep H (.ref l) (nB c)/\c.length<=100/\H d=some (.dK b)/\
 (∀e∈c,¬e.1=""->fy b (Sum.inr e.1)=some (.int (ai b e.1)))/\∀(p:zW)(f:Hp),H p=none->A0j H f->f p=some (.tup ((nY (ai b) c).map V.int))->Q (.ref p) f
def tX(A:Adr)(n:Nat)(e:Tm->Prop):Sp:=λc H Q _=>∃(v:V)(u:Tm)(d l:zW)(a b:zJ),c=[v,.ref d,.ref l]/\e u/\Ob A H v u/\C5v n u H d l a b/\RdQ H (rd (ai b) u (ai a)) Q
theorem HI(T:Txt K mg t):FO P w base T.cg 1 HP:=by
 refine T.cg.F.ok Ii λ_ A _ s H _ Q E j h=>?_
 ·refine jp h ?_;clear h;rintro x z d ⟨f,rfl,c,l,k⟩;have i:=kF j;refine rsq (fa (gZ (iz ma (pv 0) gJ) (fC (gq (pv 1))) ⟨gW⟩) (fC (gq (gn jW (iE i (pv 2) (pv 0)) (pv 1))))) ?_;refine jv _ rfl rfl _ rfl (iX (λh=>?_) (λh=>?_))
  ·rw[fW (by injection h)]at k;exact al _ rfl k
  ·have b:¬x="":=λe=>h (by rw[e]);rw[ej b]at k;have g:=A6z.k (H:=H) (a:=d) (k:=Sum.inr x) c;rw[l b]at g;exact ie _ rfl _ rfl d _ rfl g (gr _ rfl _ _ rfl rfl k)
theorem Jg(T:Txt K mg t):FP P w mg base T.aY 2 (GL t):=by
 refine T.aY.F.ok Je λ_ A _ s H _ Q E L h=>?_
 ·refine jS h ?_;clear h;rintro o O d l a ix ⟨m,rfl,J,M,I,G,W,k⟩;obtain⟨_,N,q,y,z⟩:=uL (show Rep H (.ref l) (.list (ix.map lW)) from M);cases q;have C:=z.len;rw[eH]at C;refine rsq (fC (gq (lA qU (by rfl) T.aE mn (dV (lN (N':=["axis","shift","at"]) (ix:=(List.replicate 2 none++[some 1])) (g:=tV K 2 (oJ (m6 0) (oJ (m6 1) rh))) rfl (qC (x:="at") rfl rfl rfl (by decide+kernel) (by decide+kernel)) (qJ (N0:=["axis","shift"]) rfl (.inl rfl) (by walk_at"ix")) (jc (iK (pv 0) rfl)) (λ_ _ _ _=>(jV (n:=2) rfl (gK (gc (i:=0) yX) (gK (gc (i:=1) yX) jD)))) (λ_ _ _ _=>(pcl (HI T) L T.cg (dV (pv 0) (dV (pv 1) (fX 2)))))) eg)))) ?_;refine iM _ rfl o _ O _ _ rfl J T.bS T.bE (by walk_at"lk") (fV l rfl ⟨_,SqL.of y⟩ λD v=>?_);refine nK (K:=K) (a:=l) (D:=D) (xs:=N) (λi f u=>A0j H u/\u D=some (.lst f)/\f=(nY (ai m) (ix.take i)).map V.int) (fY (fx v) ee rfl) (λi f u ⟨c,_⟩=>SqL.of (c _ _ y)) ?_ ?_
  ·rintro i x f u j ⟨c,b,rfl⟩;have R:i<ix.length:=by have:=(gG.mp j).1;lia
   obtain⟨X,r,S⟩:=z.get2 j;have e:ix[i]?=some ix[i]:=hB R;rw[gP,e]at r;cases r;obtain⟨q,rfl,U⟩:=CW S;refine jJ q _ rfl (SqT.of (c _ _ U)) rfl _ _ rfl _ _ rfl rfl (gF ⟨rfl,True.intro⟩ _ rfl (iJ _ rfl _ rfl ⟨ix[i].1,(gD (ix[i].2) d m rfl (c _ _ G) (W _ (gT e)) ?_)⟩));refine mi b (gQ (by simp[nY];lia)) (hJ c v) ee ?_;rw[gR,e,jG];unfold nY;rw[gB,gB];rfl
  ·rintro f u ⟨c,b,rfl⟩;rw[C,hQ]at b;exact iy D _ rfl (.inl ⟨SqL.of b,λp B=>k p _ (c.free B) (c.trans (fx B)) ee⟩)
theorem Jb(T:Txt K mg t)(n:Nat):A5j P w K mg base jB 1 t.aU t.bO ny (tX t n λu=>∃z,u=.num z):=by
 refine T.bJ.F.ok Jh λ_ A _ s H _ Q E e h=>?_
 ·refine jS h ?_;clear h;rintro v u d l b f ⟨rfl,⟨z,rfl⟩,g,c,k⟩;exact rsq (fC (gq (@hY _ _ _ _ eg))) ⟨gj rfl,λp a=>k p [] _ a (fx a) ee .nil⟩
theorem IN(T:Txt K mg t)(n:Nat):A5j P w K mg base jB 3 t.bD t.cn ny (tX t n λu=>∃z ix,u=.read z ix):=by
 have G:=@Jg P w K mg base t T;refine T.cy.F.ok IP λ_ A _ s H _ Q E y h=>?_
 ·refine jS h ?_;clear h;rintro v u d l i I ⟨rfl,⟨z,ix,rfl⟩,C,c,k⟩
  cases C with
  |@read a dx li _ _ e rp=>
   refine rsq (fC (gq (@hY _ _ _ _ (dV (ir (dV (iK (pv 0) rfl) (dV (sK (pv 0) (fX 1)) eg))) eg)))) ?_
   refine⟨_,rfl,a,_,dx,_,_,rfl,e,T.bS,T.bY,(by walk_at"lk"),_,rfl,a,_,dx,_,2,t.aZ,t.bR,_,_,rfl,e,T.bS,T.cR,(by walk_at"lk"),G,y.mono (by lia),T.aY.b,_,rfl,
    a,dx,d,li,z,ix,i,rfl,e,rp,c.good,c.hd,λe D B=>c.at_ e.1 (gF B e D rfl),λq L J x m=>?_⟩
   refine⟨gj rfl,λr f=>⟨gj rfl,λp g=>?_⟩⟩;have j:=x.trans (fx (o:=.tup [.str z,.ref q]) f);exact k p [.ref r] _ (j.free g) (j.trans (fx g)) ee (.cons (el r q rfl (oj g ee) (oj g (oj f m))) .nil)
def ROk(P:yB)(w:yD)(K:Frag)(mg:zE)(base:yA)(A:Adr)(n:Nat):Prop:=∀(H:Hp)(v:V)(u:Tm),Ob A H v u->dep u<=n->
 ∃(a C m:zW)(i:zK)(k:Nat)(f:zW)(h:zS)(j:zC)(e:Sp),v=.ref a/\H a=some (.ins C m i)/\Cls K C/\mJ K C "reads" f/\i.lookup ("reads":Str)=none/\A5j P w K mg base jB k f h j e/\k<=n+3/\A8v K h j []/\
  ∀(c:Hp)(d l:zW)(b g:zJ)(Q:VK),A0j H c->C5v n u c d l b g->RdQ c (rd (ai g) u (ai b)) Q->e [v,.ref d,.ref l] c Q E0
theorem rS(T:Txt K mg t)(k:Op3):Cls K (qk t k):=T.ft
theorem ww(T:Txt K mg t)(k:Op3):A2k K (qk t k) "left":=T.dE
theorem wD(T:Txt K mg t)(k:Op3):A2k K (qk t k) "right":=T.du
theorem BW(T:Txt K mg t)(k:Op3):mJ K (qk t k) "reads" t.aT:=T.dz
theorem IM(T:Txt K mg t)(W:ROk P w K mg base t n):A5j P w K mg base jB (n+4) t.aT t.cz ny (tX t (n+1) λu=>∃o x b,u=.pair o x b):=by
 refine T.ci.F.ok IJ λ_ A _ s H _ Q E hr h=>?_
 ·refine jS h ?_;clear h;rintro v u d l r lk ⟨rfl,⟨o,x,y,rfl⟩,ob,c,k⟩
  cases ob with
  |@pair a dx _ u v _ _ e ob1 ob2=>have Y:=c.left;have Z:=c.right;have hm:=c.most;simp only [rd,gz]at hm;refine rsq (fC (gq (gn rX (sK (iK (pv 0) rfl) (dV (pv 1) (fX 2))) (sK (iK (pv 0) rfl) (dV (pv 1) (fX 2)))))) ?_;refine iM _ rfl a _ dx _ _ rfl e (rS T o) (ww T o) (by walk_at"lk") ?_;refine lB (W H u x ob1 Y.deep) ?_;rintro R C' g m L D j f i rfl J ⟨M,G,U,X,O,I,C⟩;refine jQ R C' g (mh m L D j f i rfl J M G U X (hr.mono (by lia)) ⟨I,(iJ _ rfl _ rfl (C H d l r lk _ (A0j.refl _) Y λp1 S H1 a0 q h1 r1=>?_))⟩);refine iM _ rfl a _ dx _ _ rfl (q _ _ e) (rS T o) (wD T o) (by walk_at"lk") ?_;refine lB (W H1 v y (ob2.imp q) Z.deep) ?_;rintro R C' g m L D j f i rfl J ⟨M,G,U,X,O,I,C⟩;refine jQ R C' g (mh m L D j f i rfl J M G U X (hr.mono (by lia)) ⟨I,(iJ _ rfl _ rfl (C H1 d l r lk _ (A0j.refl _) (Z.same q) λp2 N H2 a3 B h2 r2=>?_))⟩);have l1:=Paired.length r1;have l2:=Paired.length r2;refine kJ p1 p2 _ _ rfl rfl (B _ _ h1) h2 (iS (by lia)) λp z=>?_;have s3:=q.trans (B.trans (fx (o:=.lst (S++N)) z));exact k p _ _ (q.free (B.free z)) s3 ee (Paired.app (r1.same (B.trans (fx z))) (r2.same (fx z)))
theorem rok(T:Txt K mg t):∀n:Nat,ROk P w K mg base t n
 |0=>λH v u f h=>absurd h (by have:=Df u;lia)
 |n+1=>λH v u f h=>by
  have W:=rok T n
  cases id f with
  |num e=>exact jQ _ _ _ ⟨_,(mD _ _ _ _ _ rfl e T.dB T.cK (by walk_at"lk") (Jb T (n+1)) (by lia) T.bJ.b λi d l c g Q s a k=>(jw _ _ (iI d l c g rfl ⟨_,rfl⟩ (f.imp s) a k)))⟩
  |read e r=>exact jQ _ _ _ ⟨_,(mD _ _ _ _ _ rfl e T.bS T.d8 (by walk_at"lk") (IN T (n+1)) (by lia) T.cy.b λi d l c g Q s a k=>(jw _ _ (iI d l c g rfl (jw _ _ rfl) (f.imp s) a k)))⟩
  |@pair _ _ o _ _ _ _ e o1 o2=>exact jQ _ _ _ ⟨_,(mD _ _ _ _ _ rfl e (rS T o) (BW T o) (by walk_at"lk") (IM T W) (by lia) T.ci.b λi d l c g Q s a k=>(jw _ _ (iI d l c g rfl (jQ _ _ _ rfl) (f.imp s) a k)))⟩
structure LnM where
 nm:Str
 own:zC
 sums:zC
 tm:Tm
def B1w(A:Adr)(M:zQ)(H:Hp)(v:V)(e:LnM):Prop:=∃(a d c u:zW)(n:V),v=.ref a/\H a=some (.ins A.ae d [("name",.str e.nm),("axes",.ref c),("sums",.ref u),("term",n)])/\c∉M/\H c=some (.lst (e.own.map V.str))/\u∉M/\H u=some (.lst (e.sums.map V.str))/\Ob A (iC (λb=>b∉M) H) n e.tm
abbrev oT(A:Adr)(M:zQ)(H:Hp)(xs:zM)(rows:List LnM):Prop:=Paired (B1w A M H) xs rows
theorem B1w.same{M:zQ}(h:B1w A M H v e)(s:A0j H H'):B1w A M H' v e:=by refine lC h ?_;clear h;rintro a b c u n rfl i k d f ⟨g,j⟩;exact mX a b c u n rfl (s _ _ i) k (s _ _ d) f (s _ _ g) (j.imp (nJ s))
structure StM where
 k:Nat
 wd:Str
 ce:zI
 tu:zI
def D5p(H:Hp)(v:V)(s:StM):Prop:=∃b c u,v=.ref b/\H b=some (.tup [.int (s.k:Nat),.str s.wd,.ref c,.ref u])/\H c=some (.tup (s.ce.map V.int))/\H u=some (.tup (s.tu.map V.int))
theorem D5p.same{s:StM}(h:D5p H v s)(a:A0j H H'):D5p H' v s:=by refine gE h ?_;clear h;rintro b c u rfl e d f;exact gD b c u rfl (a _ _ e) (a _ _ d) (a _ _ f)
def atM(e:LnM)(s:StM):zJ:=kG [] (((e.own++e.sums).map (Sum.inr:Str->Key)).zip ((s.ce++s.tu).map V.int))
structure pL(lk:zJ)(e:LnM)(s:StM):Prop where
 lc:s.ce.length=e.own.length
 lt:s.tu.length=e.sums.length
 l8:e.own.length+e.sums.length<=8
 good:Gd e.tm
 deep:dep e.tm<=10
 at_:ri (atM e s) e.tm
 ax:∃AX,Axs AX e.tm/\wz AX lk
 most:(rd (ai lk) e.tm (ai (atM e s))).length<=100000
def He(A:Adr):Sp:=λi H Q _=>∃(p h l a m f o d:zW)(j:Int)(c:zJ)(g:zM)(M:zQ)(b:List LnM)(e:LnM)(s:StM),i=[.ref p,.ref d]/\H p=some (clo A h j l a m f o)/\H l=some (.dK c)/\H f=some (.lst g)/\oT A M H g b/\D5p H (.ref d) s/\b[s.k]?=some e/\
 (s.wd="start"->RdQ H [] Q)/\(s.wd≠"start"->pL c e s/\RdQ H (rd (ai c) e.tm (ai (atM e s))) Q)
def IQ(A:Adr):Sp:=λi H Q _=>∃(p h l a m f o d:zW)(j:Int)(g:zM)(M:zQ)(b:List LnM)(e:LnM)(s:StM),i=[.ref p,.ref d]/\H p=some (clo A h j l a m f o)/\H f=some (.lst g)/\oT A M H g b/\D5p H (.ref d) s/\b[s.k]?=some e/\
 ∀(q:zW)(c:Hp),A0j H c->B7v c (.ref q) (e.nm,s.ce)->Q (.ref q) c
theorem EO(a:zJ):∀b:zJ,(kG a b).length<=a.length+b.length:=by
 intro b;unfold kG
 induction b generalizing a with
 |nil=>simp
 |cons w r ih=>
  rw[List.foldl_cons];refine kX (ih _) ?_;have:=ow a w.1 w.2;rw[iZ]
  lia
theorem tj(T:Txt K mg t):FO P w base T.aw 1 (IQ t):=by
 refine T.aw.F.ok qT λ_ A _ s H _ Q E Y h=>?_
 ·refine pk h ?_;clear h;rintro p N l a tb I o G wh m M z e j ⟨rfl,L,v,g,⟨b,c,u,J,O,W,hu⟩,D,k⟩;cases J;have x:=Paired.length g;have r:j.k<m.length:=by rw[x];exact(gG.mp D).1
  have f:m[j.k]?=some m[j.k]:=hB r;obtain⟨Z,d,C,U,ca,cu,n,y,R,_⟩:=hE g f;rw[D]at d;cases d;refine rsq (fa ⟨lM (pv 1) (jV (n:=4) rfl (gK (gc (i:=2) qT.nd) (gK (gc (i:=3) qT.nd) (gK (gc (i:=4) qT.nd) (gK (gc (i:=5) qT.nd) jD)))))⟩ (fC (gq (ir (dV (iK (jM ku (iK (pv 0) rfl) (pv 2)) rfl) (fX 4)))))) ?_;refine gr _ rfl G _ rfl (SqT.of O) (kc rfl _ _ rfl (iy _ _ rfl ⟨_,(gr _ rfl _ _ rfl rfl ?_)⟩));have S:atI m ((j.k:Nat):Int)=some (.ref C):=hH (by rw[f,y]);refine iM _ rfl p _ N _ _ rfl L T.a9 T.aG (by walk_at"lk") (ic _ rfl I _ _ _ rfl rfl (SqL.of v) S (i12 C _ U _ _ rfl R T.aF T.cv (by walk_at"lk") (fV _ rfl (gj rfl) λq X=>?_)));have B:=fx (o:=.tup [.str e.nm,.ref c]) X;exact k q _ B (el q c rfl ee (B _ _ W))
theorem Ak(T:Txt K mg t):FO P w base T.bU 15 (He t):=by
 refine T.bU.F.ok pe λ_ A _ s H _ Q E hr h=>?_
 ·refine pk h ?_;clear h;rintro p dx l a tb ln o st wh lk L M b1 e ⟨f,rfl,hp,hl,a6,B,⟨b,c,u,eb,hb,hc,hu⟩,hk,k1,k2⟩;cases eb;have U:=Paired.length B;have a1:f.k<L.length:=by rw[U];exact(gG.mp hk).1
  have D:L[f.k]?=some L[f.k]:=hB a1;obtain⟨e',x,J,da,ca,cu,n,X,S,m1,h2,m2,h3,ob⟩:=hE B D;rw[hk]at x;cases x;refine rsq (fa ⟨lM (pv 1) (jV (n:=4) rfl (gK (gc (i:=2) pe.nd) (gK (gc (i:=3) pe.nd) (gK (gc (i:=4) pe.nd) (gK (gc (i:=5) pe.nd) jD)))))⟩ (fa (gZ (iz ma (pv 3) gJ) (fC (gq (@hY _ _ _ _ eg))) ⟨gW⟩) (fa (gx 6 pe.nd (jM ku (iK (pv 0) rfl) (pv 2))) (fa (gx 7 pe.nd (Hd rfl (by rfl) T.c9 (by rfl) T.fO (dV (gn rX (iK (pv 6) rfl) (iK (pv 6) rfl)) (dV (gn E6 (pv 4) (pv 5)) eg)))) (fC (gq (sK (iK (pv 6) rfl) (dV (pv 7) (dV (iK (pv 0) rfl) eg))))))))) ?_;refine gr _ rfl st _ rfl (SqT.of hb) (kc rfl _ _ rfl (iy _ _ rfl ⟨_,(gr _ rfl _ _ rfl rfl ?_)⟩));refine jv _ rfl rfl _ rfl (iX (λv=>?_) (λv=>?_))
  ·have v:f.wd="start":=by injection v
   exact⟨gj rfl,λq hq=>k1 v q [] _ hq (fx hq) ee .nil⟩
  have v:f.wd≠"start":=λz=>v (by rw[z]);obtain⟨g,kq⟩:=k2 v;have e0:atI L ((f.k:Nat):Int)=some (.ref J):=hH (by rw[D,X]);refine iM _ rfl p _ dx _ _ rfl hp T.a9 T.aG (by walk_at"lk") (ic _ rfl ln _ _ _ rfl rfl (SqL.of a6) e0 ?_);have lc:=g.lc;have lt:=g.lt;have l8:=g.l8;refine iM _ rfl J _ da _ _ rfl S T.aF T.bt (by walk_at"lk") (iM _ rfl J _ da _ _ rfl S T.aF T.aR (by walk_at"lk") (kJ ca cu _ _ rfl rfl h2 h3 (iS (by rw[eH,eH];lia)) λC Z=>?_));have N:A0j H (upd H C (.lst (e.own.map V.str++e.sums.map V.str))):=fx Z;have m:upd H C (.lst (e.own.map V.str++e.sums.map V.str)) C=some (.lst ((e.own++e.sums).map V.str)):=by rw[ee,gB]
  generalize upd H C (.lst (e.own.map V.str++e.sums.map V.str))=H1 at N m⊢;refine al _ rfl (jE _ rfl c u _ _ rfl rfl (N _ _ hc) (N _ _ hu) (iS (by rw[eH,eH];lia)) λtt G s2 r=>?_);have r:G tt=some (.tup ((f.ce++f.tu).map V.int)):=by rw[gB];exact r
  have R:=N.trans s2;refine iI C tt ((e.own++e.sums).map (Sum.inr:Str->Key)) ((f.ce++f.tu).map V.int) rfl (by rw[List.map_map];exact SqL.of (s2 _ _ m)) (SqT.of r) (by rw[eH,eH,gz,gz];lia) λd hd=>?_;have t3:A0j G (upd G d (.dK (kG [] (((e.own++e.sums).map (Sum.inr:Str->Key)).zip ((f.ce++f.tu).map V.int))))):=fx hd;have I:upd G d (.dK (kG [] (((e.own++e.sums).map (Sum.inr:Str->Key)).zip ((f.ce++f.tu).map V.int)))) d=some (.dK (atM e f)):=ee;have j:=R.trans t3;generalize upd G d (.dK (kG [] (((e.own++e.sums).map (Sum.inr:Str->Key)).zip ((f.ce++f.tu).map V.int))))=G3 at t3 I j⊢;refine iM _ rfl J _ da _ _ rfl (j _ _ S) T.aF T.cw (by walk_at"lk") ?_;have W:Ob t G3 n e.tm:=(ob.imp zf).imp j;refine lB (rok (P:=P) (w:=w) (base:=base) T 10 G3 n e.tm W g.deep) ?_;rintro a' C' O b0 k' f' a8 a0 a7 rfl e' ⟨c',m',l',F',b2,b',q'⟩;have y:=EO [] (((e.own++e.sums).map (Sum.inr:Str->Key)).zip ((f.ce++f.tu).map V.int));rw[List.length_zip,eH,eH,gz]at y;refine jQ a' C' O (mh b0 k' f' a8 a0 a7 rfl e' c' m' l' F' (hr.mono (by lia)) (gF b' _ rfl (iM _ rfl p _ dx _ _ rfl (j _ _ hp) T.a9 T.af (by walk_at"lk") (q' G3 d l (atM e f) lk _ (A0j.refl _) ⟨g.good,g.deep,I,g.at_,j _ _ hl,g.ax,?_,g.most⟩ λp1 Y a3 a4 a5 a2 r1=>kq p1 Y a3 (j.free a4) (j.trans a5) a2 r1))));show(atM e f).length+10<=1000;unfold atM;simp only [nn]at y
  lia
def B6o(H:Hp)(v:V)(s:Stp):Prop:=∃b c u,v=.ref b/\H b=some (.tup [.int s.1,.str s.2.1,.ref c,.ref u])/\H c=some (.tup (s.2.2.1.map V.int))/\H u=some (.tup (s.2.2.2.map V.int))
theorem B6o.kt(h:B6o H v s)(k:KT H H'):B6o H' v s:=by refine gE h ?_;clear h;rintro b c u rfl e a d;exact gD b c u rfl (k _ _ e) (k _ _ a) (k _ _ d)
abbrev A2j(H:Hp)(xs:zM)(os:List Stp):Prop:=Paired (B6o H) xs os
theorem A2j.kt{os:List Stp}(h:A2j H xs os)(k:KT H H'):A2j H' xs os:=Paired.mapP h λ_ _ z=>z.kt k
def B6n(A:Adr)(M:zQ)(H:Hp)(v:V)(e:Rw):Prop:=∃(a b c u:zW)(n:V)(x:Str),v=.ref a/\H a=some (.ins A.ae b [("name",.str x),("axes",.ref c),("sums",.ref u),("term",n)])/\c∉M/\H c=some (.lst (e.own.map V.str))/\u∉M/\H u=some (.lst (e.sums.map V.str))
abbrev xa(A:Adr)(M:zQ)(H:Hp)(xs:zM)(rows:List Rw):Prop:=Paired (B6n A M H) xs rows
theorem B6n.imp{M M':zQ}{e:Rw}(h:B6n A M H v e)(f:∀a C dx fs,H a=some (.ins C dx fs)->H' a=some (.ins C dx fs))(g:∀c xs,c∉M->H c=some (.lst xs)->c∉M'/\H' c=some (.lst xs)):B6n A M' H' v e:=by refine tH h ?_;clear h;rintro a dx c u n x rfl k j b d i;exact⟨a,(i12 dx c u n x rfl (f _ _ _ _ k) ((g _ _ j b).1) ((g _ _ j b).2) ((g _ _ d i).1) ((g _ _ d i).2))⟩
theorem B6n.same{M:zQ}{e:Rw}(h:B6n A M H v e)(s:A0j H H'):B6n A M H' v e:=h.imp (λ_ _ _ _ z=>s _ _ z) λ_ _ y z=>⟨y,s _ _ z⟩
abbrev Sz(lk:zJ)(ys:zC)(ls:zI):Prop:=Paired (λ(y:Str)(n:Int)=>fy lk (Sum.inr y)=some (.int n)) ys ls
def Tot(lk:zJ)(rows:List Rw):Prop:=∀e∈rows,C9a e/\Sz lk e.own e.so/\Sz lk e.sums e.ss/\OkS e.own/\OkS e.sums
def A2t(H:Hp)(ps:zQ)(cs:List zI):Prop:=Paired (λ(p:zW)(c:zI)=>H p=some (.tup (c.map V.int))) ps cs
theorem A2t.imp{H H':Hp}:∀{ps:zQ}{cs:List zI},A2t H ps cs->(∀p xs,H p=some (.tup xs)->H' p=some (.tup xs))->A2t H' ps cs|_,_,.nil,_=>.nil|_,_,.cons r t,f=>.cons (f _ _ r) (A2t.imp t f)
theorem A2t.same{ps:zQ}(h:A2t H ps cs)(s:A0j H H'):A2t H' ps cs:=h.imp λ_ _ e=>s _ _ e
theorem A2t.lst{l:zW}{ys:zM}{ps:zQ}(h:A2t H ps cs)(e:H l=some (.lst xs)):A2t (upd H l (.lst ys)) ps cs :=h.imp λp a z=>by rw[dF (gg z e (by intro q;cases q))];exact z
theorem A2t.snoc{H:Hp}{p:zW}{c:zI}(e:H p=some (.tup (c.map V.int))):∀{ps:zQ}{cs:List zI},A2t H ps cs->A2t H (ps++[p]) (cs++[c])|_,_,.nil=>.cons e .nil|_,_,.cons r t=>.cons r (A2t.snoc e t)
theorem A2t.len{H:Hp}:∀{ps:zQ}{cs:List zI},A2t H ps cs->ps.length=cs.length|_,_,.nil=>rfl|_,_,.cons _ t=>by simp[A2t.len t]
theorem A2t.get{H:Hp}:∀{ps:zQ}{cs:List zI}{i:Nat}{p:zW},A2t H ps cs->ps[i]?=some p->∃c,cs[i]?=some c/\H p=some (.tup (c.map V.int))|_,_,_,_,.nil,e=>by simp at e|_,_,0,_,.cons r _,e=>by simp at e;subst e;exact al _ rfl r|_,_,i+1,p,.cons _ t,e=>by obtain⟨c,b,a⟩:=A2t.get (i:=i) (p:=p) t (by simpa using e);exact al c (by simpa using b) a
structure A3n(H:Hp)(a:zW)(cs:List zI):Prop where
 ex:∃ps:zQ,H a=some (.lst (ps.map V.ref))/\A2t H ps cs
theorem A3n.same(h:A3n H a cs)(s:A0j H H'):A3n H' a cs :=
 let⟨ps,h1,h2⟩:=h.ex
 ⟨ps,s _ _ h1,h2.same s⟩
def IE:Sp:=λe H Q _=>∃(a:zW)(n:Int)(b:List zI),e=[.ref a,.int n]/\A3n H a b/\(∀c∈b,c.length<=8)/\0<=n/\n<=60/\b.length<=4000/\
 ∀(p:zW)(d:Hp),H p=none->A0j H d->A3n d p (jx b n)->Q (.ref p) d
def HX:Sp:=λd H Q _=>∃(a:zW)(b:zI),d=[.ref a]/\H a=some (.lst (b.map V.int))/\B2h b/\
 ∀(p:zW)(c:Hp),H p=none->A0j H c->A3n c p (gl b)->Q (.ref p) c
def Bs:Sp:=λf H Q _=>∃(l d:zW)(a:zC)(e:zJ)(c:zI),f=[.ref l,.ref d]/\H l=some (.lst (a.map V.str))/\H d=some (.dK e)/\Sz e a c/\a.length<=1000/\∀(q:zW)(b:Hp),H q=none->A0j H b->b q=some (.lst (c.map V.int))->Q (.ref q) b
def BA:Sp:=λf H Q _=>∃(l d:zW)(c:zC)(e:zJ)(a:zI),f=[.ref l,.ref d]/\H l=some (.lst (c.map V.str))/\H d=some (.dK e)/\Sz e c a/\B2h a/\∀(q:zW)(b:Hp),H q=none->A0j H b->A3n b q (gl a)->Q (.ref q) b
def Ch(A:Adr):Sp:=λh H Q _=>∃(k:Int)(d c b:zW)(M:zQ)(e:Rw)(f:zI),h=[.int k,.ref d,.ref c,.ref b]/\B6n A M H (.ref d) e/\C9a e/\H c=some (.tup (f.map V.int))/\A3n H b (gl e.ss)/\
 ∀(D:zW)(g:zM)(a:Hp),H D=none->A0j H a->a D=some (.lst g)->A2j a g (kW k e.ss f)->Q (.ref D) a
def Bc(A:Adr):Sp:=λi H Q _=>∃(p h l a k e o:zW)(j:Int)(f:zJ)(g:zM)(M:zQ)(b:List Rw),i=[.ref p]/\H p=some (clo A h j l a k e o)/\H l=some (.dK f)/\H e=some (.lst g)/\xa A M H g b/\Tot f b/\b.length<=100/\
 ∀(D:zW)(d:zM)(c:Hp),H D=none->A0j H c->c D=some (.lst d)->A2j c d (iu b b.length)->Q (.ref D) c
theorem A3n.kb{L:zW}{zs:zM}(h:A3n H a cs)(k:KB L H H')(c:H L=some (.lst zs))(b:a≠L):A3n H' a cs :=
 let⟨ps,h1,h2⟩:=h.ex
 ⟨ps,k _ _ b h1,h2.imp λp d e=>k _ _ (gg e c (by intro z;cases z)) e⟩
theorem ID(T:Txt K mg t):FO P w base T.bA 1 IE:=by
 refine T.bA.F.ok tf λ_ A _ s H _ Q E hr h=>?_
 ·refine gE h ?_;clear h;rintro a n r rfl ⟨ps,R,Y⟩ h8 ⟨n0,a2,a0,k⟩;refine rsq (fa (gx 2 tf.nd (@hY _ _ _ _ eg)) (fa (iA (jc (pv 0)) (gc (i:=3) tf.nd) (fC (iA (oq rfl T.ba (fX 1)) (gc (i:=4) tf.nd) (fC ⟨jI (jC jA kZ kY kU (pv 2) (dV (gn Ee (pv 3) (ir (fX 4))) eg))⟩)))) (fC (gq (pv 2))))) ?_;refine⟨iS (by decide),λl I=>?_⟩;have la:a≠l:=ga R I;have O:upd H l (.lst []) a=some (.lst (ps.map V.ref)):=by rw[dF la];exact R
  refine⟨_,rfl,a,rfl,⟨_,SqL.of O⟩,kz (K:=K) (a:=a) (xs:=ps.map V.ref) (λi Z o=>∃(M d:zP)(b:zQ),Z=[Sro a,Sio n,Sro l,M,d]/\A0j H o/\
   o l=some (.lst (b.map V.ref))/\A2t o b (jx (r.take i) n)) (gD none none [] rfl (fx I) ee .nil) (λi Z o _ zq=>by obtain⟨_,_,_,_,x,_⟩:=zq;exact SqL.of (x _ _ R)) ?_ ?_⟩
  ·rintro i y Z o hi v;refine gE v ?_;clear v;rintro M d b rfl x U G;obtain⟨B,W,rfl⟩:=md hi;obtain⟨c,hc,N⟩:=Y.get W;have a3:c.length<=8:=h8 c (gT hc)
   refine⟨_,rfl,n,rfl,by lia,by lia,pW (n:=n.toNat) (λj Z f=>∃(d:zP)(b:zQ),Z=[Sro a,Sio n,Sro l,Sro B,d]/\A0j H f/\
    f l=some (.lst (b.map V.ref))/\A2t f b (jx (r.take i) n++(List.range j).map λ(m:Nat)=>c++[(m:Int)])) (im d b rfl x U (by simpa using G)) ?_ ?_⟩
   ·rintro j Z f hj ⟨d,b,rfl,L,C,D⟩;rw[Int.zero_add]
    have a1:b.length<=300000:=by
     have e:=D.len;rw[gz,Ao,eH,List.length_range]at e;have e1:(r.take i).length*n.toNat<=4000*60:=Nat.mul_le_mul (by rw[iP];lia) (by lia)
     lia
    have X:f B=some (.tup (c.map V.int)):=L _ _ N;refine fV _ rfl (.inl (iN rfl _ (SqL.of C))) (jm _ rfl _ rfl (gj rfl) λu hu=>?_)
    have z:∀(q:zW)(J:Hp),A0j f J->J q=some (.tup ((c++[(j:Int)]).map V.int))->xk (V.ref l) [V.ref q] J λ_ S=>∃(d:zP)(b:zQ),[some (V.ref a),some (.int n),some (.ref l),some (.ref B),some (.int (j:Int))]=[some (.ref a),some (.int n),some (.ref l),some (.ref B),d]/\A0j H S/\
      S l=some (.lst (b.map V.ref))/\A2t S b (jx (r.take i) n++(List.range (j+1)).map λ(m:Nat)=>c++[(m:Int)]):=λq J g h4=>by
     refine gX l _ _ rfl rfl (g _ _ C) (by rw[eH];exact gQ (by lia)) ?_;refine im _ (b++[q]) rfl (hJ (L.trans g) I) (by rw[ee,gB];rfl) ?_;rw[List.range_succ,gB,<-lH];exact((D.same g).snoc h4).lst (g _ _ C)
    have g:A0j f (upd f u (.tup [V.int (j:Int)])):=fx hu;refine iI B u _ _ rfl rfl (SqT.of (g _ _ X)) (SqT.of ee) (ip (by simp) (iS (by simp;lia)) (λhx=>?_) λhx p hp=>?_)
    ·have ec:c=[]:=by simpa using hx
     subst ec;exact z u _ g ee
    ·refine z p _ (g.trans (fx hp)) ?_;rw[ee,gB];rfl
   ·rintro Z f ⟨d,b,rfl,L,C,D⟩;refine gD _ _ b rfl L C ?_
    have e:jx (r.take (i+1)) n=jx (r.take i) n++(List.range n.toNat).map λ(m:Nat)=>c++[(m:Int)]:=by rw[gR,hc];simp[jx]
    rw[e];exact D
  ·rintro Z o v;refine gE v ?_;clear v;rintro M d b rfl x U G;refine al _ rfl (k l o I x ⟨b,U,?_⟩);rw[eH,Y.len,hQ]at G;exact G
theorem Hu(T:Txt K mg t):FO P w base T.b_ 2 HX:=by
 refine T.b_.F.ok sW λ_ A _ s H _ Q E D h=>?_
 ·obtain⟨a,j,rfl,z,g,k⟩:=h;refine rsq (fa (gx 1 sW.nd (@hY _ _ _ _ (dV (ir eg) eg))) (fa (iA (jc (pv 0)) (gc (i:=2) sW.nd) (fC (gx 1 sW.nd (pcl (ID T) D T.bA (dV (pv 1) (fX 2)))))) (fC (gq (pv 1))))) ?_;refine⟨gj rfl,λe v=>⟨gj rfl,λq d=>?_⟩⟩;have u:H q=none:=(fx v).free d;have x:A0j H (upd (upd H e (.tup [])) q (.lst [V.ref e])):=(fx v).trans (fx d)
  refine⟨_,rfl,a,rfl,⟨_,SqL.of (x _ _ z)⟩,kz (K:=K) (a:=a) (xs:=j.map V.int) (λi Z f=>∃(r:zP)(q:zW),Z=[Sro a,Sro q,r]/\A0j H f/\H q=none/\A3n f q (gl (j.take i)))
   (im none q rfl x u ⟨[e],ee,.cons (by rw[dF (ga ee d)];exact ee) .nil⟩) (λi Z f _ I=>by obtain⟨_,_,_,b,_⟩:=I;exact SqL.of (b _ _ z)) ?_ ?_⟩
  ·rintro i y Z f L ⟨r,q,rfl,b,d,l⟩;obtain⟨n,B,rfl⟩:=md L;have W:=g.pos n (gT B);have S:=nL (j.take i) λm o=>(g.pos m (p6 o)).1;have N:=Iy j (λm o=>(g.pos m o).1) i;have R:=g.most;have O:=g.few;refine iJ _ rfl _ rfl (nj q n _ rfl l (λc M=>?_) (by lia) (by lia) ⟨by lia,λp U G C J=>?_⟩)
   ·have e:=(qS _ c M).1;rw[iP]at e
    lia
   ·refine im _ p rfl (b.trans C) (b.free G) ?_;rw[Jm B];exact J
  ·rintro Z f ⟨r,q,rfl,b,d,l⟩;rw[eH,hQ]at l;exact al _ rfl (k q f d b l)
theorem Ji(T:Txt K mg t):FO P w base T.aQ 1 Bs:=by
 refine T.aQ.F.ok Jj λ_ A _ s H _ Q E v h=>?_
 ·refine lC h ?_;clear h;rintro l d q L z rfl o p m J k;have B:=kF v;have r:=Paired.length m;refine rsq (fC (gq (lN (N':=["axis","lengths"]) (ix:=(List.replicate 1 none++[some 1])) rfl (qC (x:="lengths") rfl rfl rfl (by decide+kernel) (by decide+kernel)) (qJ (N0:=["axis"]) rfl (.inl rfl) (by walk_at"ix")) (jc (pv 0)) (λ_ _ _ _=>(gc (i:=0) Gs)) (λ_ _ _ _=>(iE B (pv 1) (pv 0)))))) ?_;refine jm _ rfl l rfl ⟨_,SqL.of o⟩ λD j=>?_;refine nK (K:=K) (a:=l) (D:=D) (xs:=q.map V.str) (λi f c=>A0j H c/\c D=some (.lst f)/\f=(z.take i).map V.int) (fY (fx j) ee rfl) (λi f c ⟨e,_⟩=>SqL.of (e _ _ o)) ?_ ?_
  ·rintro i x f c G ⟨e,b,rfl⟩;obtain⟨y,I,rfl⟩:=md G;obtain⟨n,C,u⟩:=hE m I;have g:=A6z.k (H:=c) (a:=d) (k:=Sum.inr y) (e _ _ p);rw[u]at g;refine⟨⟨rfl,True.intro⟩,(ie _ rfl _ rfl d _ rfl g (mi b (gQ (by simp;lia)) (hJ e j) ee ?_))⟩;rw[gR,C,jG,gB];rfl
  ·rintro f c ⟨e,b,rfl⟩;rw[eH,r,hQ]at b;exact k D c j e b
theorem tD(T:Txt K mg t):FO P w base T.ao 3 BA:=by
 refine T.ao.F.ok IY λ_ A _ s H _ Q E b h=>?_
 ·refine lC h ?_;clear h;rintro l d i p a rfl o f c g k;have y:=Paired.length c;have z:=g.few;refine rsq (fC (gq (pcl (Hu T) b T.b_ (dV (pcl (Ji T) b T.aQ (dV (pv 0) (fX 1))) eg)))) ?_;exact al _ rfl (iM _ rfl l d i p a rfl o f c (by lia) λm B r e n=>(im m a rfl n g λq u v j x=>k q u (e.free v) (e.trans j) x))
theorem Jl(T:Txt K mg t):FO P w base T.aO 1 (Ch t):=by
 refine T.aO.F.ok AM λ_ A _ s H _ Q E hr h=>?_
 ·refine jS h ?_;clear h;rintro k ln c tu M e ⟨ce,rfl,li,ok,X,ct,q⟩;refine tH li λa dx ca u n x ea a0 _ _ _ eu=>?_;clear li;cases ea;obtain⟨ps,G,tp⟩:=ct.ex;have a1:=ok.cells.2;have Z:=tp.len;refine rsq (fa (gZ (iz ma (jr T.aj (dV (iK (pv 1) rfl) eg)) gh) (fC (gq (@hY _ _ _ _ (dV (ir (dV (pv 0) (dV gJ (dV (pv 2) (dV (ir eg) eg))))) eg)))) ⟨gW⟩) (fa ⟨r8 (i₀:=4) (N':=["turn","cell","number"]) (ix:=(List.replicate 1 none++[some 2,some 0])) AM.nd rfl (.inl rfl) rfl (vo (cl:=[("number",_),("cell",_)]) (xs:=["number","cell"]) rfl (fY rfl rfl trivial) rfl rfl (by decide+kernel) (by decide+kernel)) (vm (N0:=["turn"]) (xs:=["cell","number"]) (js:=[2,0]) (fY (fY rfl (.inl rfl) (by walk_at"ix")) (fY rfl (.inl rfl) (by walk_at"ix")) trivial)) (jc (pv 3)) (λ_ _ _ _=>(gc (i:=0) Go)) (λ_ _ _ _=>(ir (dV (pv 2) (dV gJ (dV (pv 1) (fX 0))))))⟩ (fC (gq (gn rX (@hY _ _ _ _ (dV (ir (dV (pv 0) (dV gJ (dV (pv 2) (dV (ir eg) eg))))) eg)) (pv 4)))))) ?_;refine iM _ rfl ln _ dx _ _ rfl a0 T.aF T.aR (by walk_at"lk") (iy u _ rfl (iw (.inl (SqL.of eu)) rfl _ rfl (iX (λhz=>?_) (λhz=>?_))))
  ·have U:e.ss=[]:=by
    have h1:((e.sums.map V.str).length:Int)=0:=by injection hz
    have h2:=ok.ls;rw[eH]at h1;exact p7.mp (by lia)
   refine jm _ rfl _ rfl (gj rfl) λp g=>⟨gj rfl,λb m=>⟨gj rfl,λD r=>?_⟩⟩;have s1:A0j H (upd H p (.tup [])):=fx g;have f:=s1.trans (fx (o:=.tup [.int k,.str "set",.ref c,.ref p]) m);refine q D [.ref b] _ (f.free r) (f.trans (fx r)) ee ?_;unfold kW;rw[fW U];refine .cons (gD b c p rfl ?_ ?_ ?_) .nil
   ·rw[dF (ga ee r)];exact ee
   ·exact(f.trans (fx r)) _ _ X
   ·rw[dF (ga ((fx m) _ _ ee) r)];exact(fx m) _ _ ee
  ·have U:e.ss≠[]:=λz=>by
    have h2:=ok.ls;rw[z]at h2;exact hz (by rw[eH,h2];rfl)
   refine jm _ rfl tu rfl ⟨_,SqL.of G⟩ λD r=>?_;refine nK (K:=K) (a:=tu) (D:=D) (xs:=ps.map V.ref) (λi l d=>A0j H d/\d D=some (.lst l)/\l.length=i/\A2j d l (((gl e.ss).take i).map λu=>(k,"add",ce,u))) (ip (fx r) ee rfl .nil) (λi l d ⟨f,_⟩=>SqL.of (f _ _ G)) ?_ ?_
   ·rintro i y l d hy ⟨f,j,ly,B⟩;obtain⟨N,C,rfl⟩:=md hy;obtain⟨uu,Y,W⟩:=tp.get C;have hi:i<ps.length:=(gG.mp C).1;refine gF (fY rfl rfl True.intro) _ rfl (jm _ rfl _ rfl (gj rfl) λb m=>?_);have v:A0j d (upd d b (.tup [.int k,.str "add",.ref c,.ref N])):=fx m;have O:KT (upd d b (.tup [.int k,.str "add",.ref c,.ref N])) (upd (upd d b (.tup [.int k,.str "add",.ref c,.ref N])) D (.lst (l++[.ref b]))):=KT.at (v _ _ j) (by intro xs z;cases z);refine ka (v _ _ j) (gQ (by lia)) (hJ (f.trans v) r) ee (by simp[ly]) ?_;rw[gR,Y,jG,gB];exact jL (B.kt ((KT.same v).trans O)) (.cons (gD b c N rfl (O _ _ ee) (O _ _ (v _ _ (f _ _ X))) (O _ _ (v _ _ (f _ _ W)))) .nil)
   ·rintro l d ⟨f,j,ly,B⟩;rw[eH,Z,hQ]at B;refine jm _ rfl _ rfl (gj rfl) λp g=>⟨gj rfl,λb m=>⟨gj rfl,λL J=>(jE _ rfl L D _ l rfl rfl ee ?_ (iS ?_) λR I=>?_)⟩⟩
    ·have s3:A0j d (upd d p (.tup [])):=fx g;have S:=s3.trans (fx (o:=.tup [.int k,.str "start",.ref c,.ref p]) m);exact(S.trans (fx J)) _ _ j
    ·have:=Paired.length B;rw[eH]at this;simp
     lia
    ·have s3:A0j d (upd d p (.tup [])):=fx g;have S:=s3.trans (fx (o:=.tup [.int k,.str "start",.ref c,.ref p]) m);have s5:=S.trans (fx (o:=.lst [.ref b]) J);have s6:=s5.trans (fx (o:=.lst ([.ref b]++l)) I);refine q R _ _ (f.free (s5.free I)) (f.trans s6) ee ?_;unfold kW;rw[ej U];refine .cons (gD b c p rfl ?_ (s6 _ _ (f _ _ X)) ?_) (B.kt (KT.same s6))
     ·exact(fx I) _ _ ((fx J) _ _ ee)
     ·exact(fx I) _ _ ((fx J) _ _ ((fx m) _ _ ee))
theorem IZ(T:Txt K mg t):FO P w base T.be 4 (Bc t):=by
 refine T.be.F.ok pZ λ_ A _ s H _ Q E hr h=>?_
 ·refine jS h ?_;clear h;rintro p dx l a tb ln ⟨o,wh,lk,xs,M,b,rfl,hp,hl,a2,X,Y,b7,k⟩;have b1:=Paired.length X;refine rsq (fa (gx 1 pZ.nd (@hY _ _ _ _ eg)) (fa (iA (sf rfl T.b9 (dV (iK (pv 0) rfl) eg)) (jV (n:=2) rfl (gK (gc (i:=2) pZ.nd) (gK (gc (i:=3) pZ.nd) jD))) (fa (gx 4 pZ.nd (pcl (tD T) hr T.ao (dV (iK (pv 3) rfl) (dV (iK (pv 0) rfl) eg)))) (fC (iA (jc (pcl (tD T) hr T.ao (dV (iK (pv 3) rfl) (dV (iK (pv 0) rfl) eg)))) (gc (i:=5) pZ.nd) (fC ⟨jI (jC jA PySem.F.slot_list_extend PySem.F.type_list_extend qI (pv 1) (dV (pcl (Jl T) hr T.aO (dV (pv 2) (dV (pv 3) (dV (pv 5) (fX 4))))) eg))⟩))))) (fC (gq (pv 1))))) ?_;refine⟨gj rfl,λL hL=>?_⟩;have s0:A0j H (upd H L (.lst [])):=fx hL;refine iM _ rfl p _ dx _ _ rfl (s0 _ _ hp) T.a9 T.aG (by walk_at"lk") (el ln xs rfl (SqL.of (s0 _ _ a2)) ?_)
  refine sL (K:=K) (a:=ln) (xs:=xs) (λi Z f=>∃(o2 o3 o4 g:zP)(v:zM),Z=[Sro p,Sro L,o2,o3,o4,g]/\A0j H f/\f L=some (.lst v)/\A2j f v (iu b i))
   (jw none none (gD none none [] rfl s0 ee .nil)) (λi Z f zq=>by obtain⟨_,_,_,_,_,_,O,_⟩:=zq;exact SqL.of (O _ _ a2)) ?_ ?_
  ·rintro i x Z f z hx J;refine jp J ?_;clear J;rintro o2 o3 o4 ⟨g,v,rfl,O,h2,st⟩ hz;obtain⟨e,N,li⟩:=hE X hx;obtain⟨ok,b4,b6,_,_⟩:=Y e (gT N);have hi:i<b.length:=(gG.mp N).1;have ol:=Ew (λe N=>(Y e N).1) i;have b8:i*3660<=100*3660:=Nat.mul_le_mul_right _ (by lia);have b0:=li;refine tH li ?_;clear li;rintro C da ca cu n nm rfl W _ a5 _ b2;obtain⟨H3,hH3⟩:∃H3,H3=upd f z (.tup [.int (i:Nat),.ref C]):=⟨_,rfl⟩;rw[<-hH3];have B:A0j f H3:=by rw[hH3];exact fx hz
   have s3:=O.trans B;have a8:H3 z=some (.tup [.int (i:Nat),.ref C]):=by rw[hH3];exact ee
   refine jJ z _ rfl (SqT.of a8) rfl _ _ rfl _ _ rfl rfl ?_;refine iM _ rfl C _ da _ _ rfl (s3 _ _ W) T.aF T.aR (by walk_at"lk") (iM _ rfl p _ dx _ _ rfl (s3 _ _ hp) T.a9 T.af (by walk_at"lk") (i12 cu l e.sums lk e.ss rfl (s3 _ _ b2) (s3 _ _ hl) b6 ok.gs λtu H4 S s4 ct=>?_));have d:=s3.trans s4;refine iM _ rfl C _ da _ _ rfl (d _ _ W) T.aF T.bt (by walk_at"lk") (iM _ rfl p _ dx _ _ rfl (d _ _ hp) T.a9 T.af (by walk_at"lk") (i12 ca l e.own lk e.so rfl (d _ _ a5) (d _ _ hl) b4 ok.go λqc H5 a4 s5 cc=>?_));obtain⟨ps,m,tp⟩:=cc.ex;have a3:=B _ _ h2;have a0:=s4 _ _ a3;have r:=s5 _ _ a0;have qL:qc≠L:=λy=>by subst y;rw[a0]at a4;cases a4
   have tL:tu≠L:=λy=>by subst y;rw[a3]at S;cases S
   have I:=d.trans s5;have a7:A2j H5 v (iu b i):=st.kt (KT.same (B.trans (s4.trans s5)));refine fV qc rfl ⟨_,SqL.of m⟩ ?_
   refine kz (K:=K) (a:=qc) (xs:=ps.map V.ref) (λj Z H6=>∃(g:zP)(u:zM),Z=[Sro p,Sro L,Sio (i:Nat),Sro C,Sro tu,g]/\KB L H5 H6/\H6 L=some (.lst u)/\A2j H6 u (iu b i++((gl e.so).take j).flatMap (kW i e.ss)))
    (im g v rfl KB.refl r (by simpa using a7)) (λj Z H6 _ zq=>by obtain⟨_,_,_,q,_⟩:=zq;exact SqL.of (q _ _ qL m)) ?_ ?_
   ·rintro j y Z H6 hy ⟨g,u,rfl,q,R,c⟩;obtain⟨pc,b3,rfl⟩:=md hy;obtain⟨ce,b5,a1⟩:=tp.get b3;have U:H6 pc=some (.tup (ce.map V.int)):=q _ _ (gg a1 r (by intro z;cases z)) a1;have a6:A0j H H6:=KB.same I q hL;refine jv _ rfl (.inl (iN rfl _ (SqL.of R))) _ rfl (iJ _ rfl _ rfl (kK _ rfl (i:Int) C pc tu M (mY e ce rfl (b0.same a6) ok U ((ct.same s5).kb q r tL) λD ws H7 hD s7 h7 G=>?_)));have lz:=Paired.length c;have lw:=Paired.length G;have lc:=uP ok (k:=(i:Int)) ce;have lp:=FR ok (k:=(i:Int)) j;rw[gz]at lz;refine kJ L D _ _ rfl rfl (s7 _ _ R) h7 (iS (by lia)) ?_;have kL:KT H7 (upd H7 L (.lst (u++ws))):=KT.at (s7 _ _ R) (by intro xs z;cases z);refine im _ (u++ws) rfl ((q.trans (KB.of s7)).upd) ee ?_;rw[gR,b5,jG,List.flatMap_append,List.flatMap_singleton,<-lH];exact jL (c.kt ((KT.same s7).trans kL)) (G.kt kL)
   ·rintro Z H6 ⟨g,u,rfl,q,R,c⟩;rw[eH,tp.len,hQ]at c;refine jw _ _ (gD _ _ u rfl (KB.same I q hL) R ?_);rw[HG N];exact c
  ·rintro Z f J;refine jp J ?_;clear J;rintro o2 o3 o4 ⟨g,v,rfl,O,h2,st⟩;rw[b1]at st;exact al _ rfl (k L v f hL O h2 st)
def ja(a:Str->List Int)(os:zC):List (Str×List Int):=os.flatMap λx=>(gl (a x)).map λc=>(x,c)
structure ArO(H:Hp)(lk ak:zJ)(ax:Str->List Str)(sz:Str->List Int)(x:Str):Prop where
 get:∃b,fy ak (Sum.inr x)=some (.ref b)/\H b=some (.lst ((ax x).map V.str))
 si:Sz lk (ax x) (sz x)
 go:B2h (sz x)
theorem ArO.same{a:Str->List Str}{c:Str->List Int}(h:ArO H lk ak a c x)(s:A0j H H'):ArO H' lk ak a c x:=by obtain⟨b,e,d⟩:=h.get;exact⟨(al b e (s _ _ d)),h.si,h.go⟩
theorem B2h.len(g:B2h ls):(gl ls).length<=4000:=by
 have c:=(nL ls λn a=>(g.pos n a).1).1;have b:=g.most
 lia
def B6(A:Adr):Sp:=λk H Q _=>∃(p h l a n j o:zW)(m:Int)(f e:zJ)(b:zC)(i:Str->List Str)(g:Str->List Int),k=[.ref p]/\H p=some (clo A h m l a n j o)/\H l=some (.dK f)/\H a=some (.dK e)/\H o=some (.lst (b.map V.str))/\b.length<=100/\(∀x∈b,ArO H f e i g x)/\
 ∀(D:zW)(d:zM)(c:Hp),H D=none->A0j H c->c D=some (.lst d)->Rds c d (ja g b)->Q (.ref D) c
theorem rL{H:Hp}{lk ak:zJ}{b:Str->List Str}{a:Str->List Int}:∀{os:zC},(∀x∈os,ArO H lk ak b a x)->(ja a os).length<=os.length*4000
 | [],_=>gf _
 |x::r,h=>by
  have f:=rL (os:=r) λy d=>h y (.tail _ d);have e:=(h x (.head _)).go.len;show((gl (a x)).map (λc=>(x,c))++ja a r).length<=(r.length+1)*4000;rw[gz,eH]
  lia
theorem AK(T:Txt K mg t):FO P w base T.aA 4 (B6 t):=by
 refine T.aA.F.ok vD λ_ A _ s H _ Q E hr h=>?_
 ·refine jS h ?_;clear h;rintro p dx l a tb ln ⟨o,wh,lk,ak,G,ax,U,rfl,hp,hl,ha,ho,a2,I,k⟩;have hu:=kF hr;refine rsq (fa (gx 1 vD.nd (@hY _ _ _ _ eg)) (fa (iA (jc (iK (pv 0) rfl)) (gc (i:=2) vD.nd rfl (.inr rfl)) (fC ⟨jI (jC jA PySem.F.slot_list_extend PySem.F.type_list_extend qI (pv 1) (dV (lN (N':=["cell","array"]) (ix:=(List.replicate 1 none++[some 2])) rfl (qC (x:="array") rfl rfl rfl (by decide+kernel) (by decide+kernel)) (qJ (N0:=["cell"]) rfl (.inl rfl) (by walk_at"ix")) (jc (pcl (tD T) hr T.ao (dV (iE hu (iK (pv 0) rfl) (pv 2)) (dV (iK (pv 0) rfl) eg)))) (λ_ _ _ _=>(gc (i:=0) FY)) (λ_ _ _ _=>(ir (dV (pv 1) (fX 0))))) eg))⟩)) (fC (gq (pv 1))))) ?_;refine⟨gj rfl,λL hL=>?_⟩;have s0:A0j H (upd H L (.lst [])):=fx hL;refine iM _ rfl p _ dx _ _ rfl (s0 _ _ hp) T.a9 T.bZ (by walk_at"lk") (fV o rfl ⟨_,SqL.of (s0 _ _ ho)⟩ ?_)
  refine kz (K:=K) (a:=o) (xs:=G.map V.str) (λi Z u=>∃(o2:zP)(v:zM),Z=[Sro p,Sro L,o2]/\A0j H u/\u L=some (.lst v)/\Rds u v (ja U (G.take i)))
   (im none [] rfl s0 ee .nil) (by rintro i Z u _ ⟨_,_,_,f,_⟩;exact SqL.of (f _ _ ho)) ?_ ?_
  ·rintro i y Z u hy ⟨o2,v,rfl,f,X,e⟩;obtain⟨x,S,rfl⟩:=md hy;have hi:i<G.length:=(gG.mp S).1;have W:=I x (gT S);obtain⟨b,eb,hb⟩:=W.get;have g:=A6z.k (H:=u) (a:=a) (k:=Sum.inr x) (f _ _ ha);rw[eb]at g;refine fV _ rfl (.inl (iN rfl _ (SqL.of X))) (iM _ rfl p _ dx _ _ rfl (f _ _ hp) T.a9 T.ay (by walk_at"lk") (gr _ rfl a _ rfl g (iM _ rfl p _ dx _ _ rfl (f _ _ hp) T.a9 T.af (by walk_at"lk") (i12 b l (ax x) lk (U x) rfl (f _ _ hb) (f _ _ hl) W.si W.go λq H3 hq s3 cq=>?_))));obtain⟨ps,R,tp⟩:=cq.ex;have N:=tp.len;have lc:=W.go.len;refine fV q rfl ⟨_,SqL.of R⟩ λD hD=>?_;refine nK (K:=K) (a:=q) (D:=D) (xs:=ps.map V.ref) (λj r d=>A0j H3 d/\d D=some (.lst r)/\r.length=j/\Rds d r (((gl (U x)).take j).map λc=>(x,c))) (ip (fx hD) ee rfl .nil) (λj r d C=>SqL.of (C.1 _ _ R)) ?_ ?_
   ·rintro j z r d hz ⟨C,m,lz,n⟩;obtain⟨Y,O,rfl⟩:=md hz;obtain⟨c,hc,a1⟩:=tp.get O;have hj:j<ps.length:=(gG.mp O).1;refine⟨⟨rfl,True.intro⟩,(jm _ rfl _ rfl (gj rfl) λJ a0=>?_)⟩;have M:A0j d (upd d J (.tup [.str x,.ref Y])):=fx a0;have kD:KT (upd d J (.tup [.str x,.ref Y])) (upd (upd d J (.tup [.str x,.ref Y])) D (.lst (r++[.ref J]))):=KT.at (M _ _ m) (by intro xs z;cases z);refine ka (M _ _ m) (gQ (by lia)) (hJ (C.trans M) hD) ee (by simp[lz]) ?_;rw[gR,hc,jG,gB];exact jL (n.keep ((KT.same M).trans kD)) (.cons (el J Y rfl (kD _ _ ee) (kD _ _ (M _ _ (C _ _ a1)))) .nil)
   ·rintro r d ⟨C,m,lz,n⟩;rw[eH,N,hQ]at n;have B:=s3.trans C;have h4:=B _ _ X;have ly:=Paired.length e;have lo:(ja U (G.take i)).length<=(G.take i).length*4000:=rL λx S=>I x (p6 S);have lt:(G.take i).length<=100:=by rw[iP];lia
    rw[eH,N]at lz;refine kJ L D _ _ rfl rfl h4 m (iS (by lia)) ?_;have kL:KT d (upd d L (.lst (v++r))):=KT.at h4 (by intro xs z;cases z);refine im _ (v++r) rfl (hJ (f.trans B) hL) ee ?_;rw[gR,S,jG];unfold ja;rw[List.flatMap_append,List.flatMap_singleton];exact jL (e.keep ((KT.same B).trans kL)) (n.keep kL)
  ·rintro Z u ⟨o2,v,rfl,f,X,e⟩;rw[eH,hQ]at e;exact al _ rfl (k L v u hL f X e)
def nk(r:Str×List Int):fZ:=[.inl (.inr r.1),.inr (r.2.map Sum.inl)]
theorem oK(h:B7v H v r):∃b,v=.ref b/\A1w H (nk r) b:=by obtain⟨p,q,rfl,c,a⟩:=h;refine al p rfl (oz c ?_);rw[List.map_map];exact a
theorem B7v.keep(h:B7v H v r)(k:KT H H'):B7v H' v r:=by obtain⟨p,q,e,b,a⟩:=h;exact el p q e (k _ _ b) (k _ _ a)
def lh(kvs:List (fZ×V))(rs:List (Str×List Int)):List (fZ×V):=rs.foldl (λk r=>gC k (nk r) (V.bl true)) kvs
theorem Ah(kvs:List (fZ×V))(rs:List (Str×List Int))(r:Str×List Int):lh kvs (rs++[r])=gC (lh kvs rs) (nk r) (V.bl true):=by unfold lh;rw[List.foldl_append];rfl
theorem qK:∀(rs:List (Str×List Int))(kvs:List (fZ×V)),(lh kvs rs).length<=kvs.length+rs.length
 | [],_=>gf _
 |r::rs,kvs=>by
  have b:=qK rs (gC kvs (nk r) (V.bl true));have a:=ow kvs (nk r) (V.bl true);show(lh (gC kvs (nk r) (V.bl true)) rs).length<=kvs.length+(rs.length+1)
  lia
def toM(s:Stp):StM:=⟨s.1.toNat,s.2.1,s.2.2.1,s.2.2.2⟩
theorem B6o.toM(h:B6o H v s)(d:0<=s.1):D5p H v (toM s):=by refine gE h ?_;clear h;rintro b c u rfl e a f;refine gD b c u rfl ?_ a f;show H b=some (.tup [.int ((s.1.toNat:Nat):Int),.str s.2.1,.ref c,.ref u]);rw[Int.toNat_of_nonneg d];exact e
def rdS(lk:zJ)(rows:List LnM)(s:Stp):List (Str×List Int):=if s.2.1="start" then []else match rows[s.1.toNat]? with|some e=>rd (ai lk) e.tm (ai (atM e (toM s)))|none=>[]
def wrS(rows:List LnM)(s:Stp):Str×List Int:=match rows[s.1.toNat]? with|some e=>(e.nm,s.2.2.1)|none=>("",[])
def qo(lk:zJ)(rows:List LnM)(kvs:List (fZ×V))(s:Stp):List (fZ×V):=if (fy kvs (nk (wrS rows s))).isSome=true then lh kvs (rdS lk rows s)else kvs
def mO(lk:zJ)(rows:List LnM)(kvs:List (fZ×V))(ss:List Stp):List (fZ×V):=ss.foldl (qo lk rows) kvs
structure wt(lk:zJ)(rows:List LnM)(s:Stp):Prop where
 pos:0<=s.1
 ask:∃e,rows[s.1.toNat]?=some e/\(s.2.1≠"start"->pL lk e (toM s))
 few:(rdS lk rows s).length<=20
def Bb(P:yB)(w:yD)(A:Adr):Sp:=λn H Q _=>∃(p k l a r h o:zW)(q:Int)(d i:zJ)(e:zC)(m:Str->List Str)(j:Str->List Int)(g:zM)(M:zQ)(c:List LnM)(b:List Rw),n=[.ref p]/\H p=some (clo A k q l a r h o)/\H l=some (.dK d)/\H a=some (.dK i)/\H o=some (.lst (e.map V.str))/\e.length<=100/\(∀x∈e,ArO H d i m j x)/\
 H h=some (.lst g)/\oT A M H g c/\xa A M H g b/\Tot d b/\b.length<=100/\(∀s∈iu b b.length,wt d c s)/\(iu b b.length).length<=20000/\
 ∀(D:zW)(f:Hp),H D=none->A0j H f->A3t P w [true,false] f D (mO d c (lh [] (ja j e)) (iu b b.length).reverse)->Q (.ref D) f
theorem rdq{sp:Stp}{Q:VK}(d:rows[sp.1.toNat]?=some e)(c:sp.2.1≠"start"->pL lk e (toM sp))(h:RdQ H (rdS lk rows sp) Q):
  ((toM sp).wd="start"->RdQ H [] Q)/\((toM sp).wd≠"start"->pL lk e (toM sp)/\RdQ H (rd (ai lk) e.tm (ai (atM e (toM sp)))) Q):=by
 refine⟨λa=>?_,λa=>⟨c a,?_⟩⟩
 ·have z:rdS lk rows sp=[]:=fW a
  rwa[z]at h
 ·have z:rdS lk rows sp=rd (ai lk) e.tm (ai (atM e (toM sp))):=by
   have b:sp.2.1≠"start":=a;unfold rdS;rw[ej b,d]
  rwa[z]at h
theorem Am(lk:zJ)(rows:List LnM)(kvs:List (fZ×V))(ss:List Stp)(s:Stp):mO lk rows kvs (ss++[s])=qo lk rows (mO lk rows kvs ss) s:=by unfold mO;rw[List.foldl_append];rfl
theorem q9{b:Bool}{p q:Prop}(h1:b=true->p)(h2:¬b=true->q):if b=true then p else q:=by
 split
 ·exact h1 (by assumption)
 ·exact h2 (by assumption)
theorem iF{kvs:List (fZ×V)}(h:A3t P w sh H a kvs)(s:A0j H H'):A3t P w sh H' a kvs:=h.keeps (λ_ e=>s _ _ e) λ_ _ e=>s _ _ e
theorem my{kvs:List (fZ×V)}(h:A3t P w sh H a kvs):∃o,H a=some o/\∀xs,o≠.tup xs:=by obtain⟨_,e,_⟩:=h;exact al _ e λ_ z=>by cases z
theorem Jd(T:Txt K mg t):FO P w base T.a_ 16 (Bb P w t):=by
 refine T.a_.F.ok qV λ_ A _ s H _ Q E hr h=>?_
 ·refine pk h ?_;clear h;rintro p dx l a tb ln o wh S ak O ax W xs ⟨M,d,J,rfl,hp,hl,ha,ho,a4,a6,a2,a7,b3,b4,a3,b6,c1,k⟩;have hn:=n5 hr;have lo:=rL a6;have c3:O.length*4000<=100*4000:=Nat.mul_le_mul_right _ a4;refine rsq (fa (gx 1 qV.nd (qF (sh:=[true,false]))) (fa (iA (jc (pcl (AK T) hr T.aA (fX 0))) (gc (i:=2) qV.nd) (fC ⟨lM ko (n7 (pv 1) (pv 2) (qz hn))⟩)) (fa (iA (CD rfl T.dZ (dV (pcl (IZ T) hr T.be (fX 0)) eg)) (gc (i:=3) qV.nd) (fC (gZ (iz (rY hn) (pcl (tj T) hr T.aw (dV (pv 0) (fX 3))) (pv 1) (by with_unfolding_all rfl)) (fC (iA (jc (pcl (Ak T) hr T.bU (dV (pv 0) (fX 3)))) (gc (i:=4) qV.nd) (fC ⟨lM ko (n7 (pv 1) (pv 4) (qz hn))⟩))) ⟨gW⟩))) (fC (gq (pv 1)))))) ?_;refine λD o0 hD C=>?_;have s1:A0j H (upd H D o0):=fx hD;have C:A3t P w [true,false] (upd H D o0) D []:=C;generalize upd H D o0=H1 at s1 C⊢;refine kK _ rfl p dx l a tb (jw ln o (mh wh S ak O ax W rfl (s1 _ _ hp) (s1 _ _ hl) (s1 _ _ ha) (s1 _ _ ho) a4 (λx hx=>(a6 x hx).same s1) λL ys H2 hL s2 h2 b0=>?_));obtain⟨u0,e0,t0⟩:=(my C);have LD:L≠D:=λz=>by subst z;rw[e0]at hL;cases hL
  have e2:=s2 _ _ e0;have f:=iF C s2;refine fV L rfl ⟨_,SqL.of h2⟩ ?_;refine kz (K:=K) (a:=L) (xs:=ys) (λi Z G=>∃(Y:zP),Z=[Sro p,Sro D,Y,none,none]/\KB D H2 G/\A3t P w [true,false] G D (lh [] ((ja W O).take i))) (fV none rfl KB.refl f) (by rintro i Z G _ ⟨_,_,kb,_⟩;exact SqL.of (kb _ _ LD h2)) ?_ ?_
  ·rintro i y Z G hy ⟨Y,rfl,kb,nd⟩;obtain⟨r,a1,tr⟩:=hE b0 hy;obtain⟨b,rfl,na⟩:=oK (tr.keep (kb.kt e2 t0));have lp:=qK ((ja W O).take i) [];have lt:((ja W O).take i).length<=(ja W O).length:=by rw[iP];lia
   refine al _ rfl (kK _ rfl D b _ _ (nk r) (fY ⟨rfl,rfl,nd,na,rfl⟩ (gQ (by simp only [nn]at lp;lia)) λo1 a0=>?_));refine fV _ rfl kb.upd ?_;rw[gR,a1,jG,Ah];exact a0
  ·rintro Z G ⟨Y,rfl,kb,nd⟩;rw[Paired.length b0,hQ]at nd;have sG:A0j H G:=KB.same (s1.trans s2) kb hD;refine kK _ rfl p dx l a tb ⟨ln,(mh o wh S xs M J rfl (sG _ _ hp) (sG _ _ hl) (sG _ _ a2) (Paired.mapP b3 λ_ _ z=>z.same sG) b4 a3 λF fs G1 hF sF a9 st=>?_)⟩;obtain⟨u1,e1,t1⟩:=(my nd);have FD:F≠D:=λz=>by subst z;rw[e1]at hF;cases hF
   have b8:=sF _ _ e1;have lf:=Paired.length st;refine el F _ rfl (SqL.of a9) ?_
   refine DV (K:=K) (a:=F) (xs:=fs) (λi Z G2=>∃(Y o3 o4:zP)(m:List (fZ×V)),Z=[Sro p,Sro D,Y,o3,o4]/\KB D G1 G2/\A3t P w [true,false] G2 D m/\m=mO S d (lh [] (ja W O)) ((iu J J.length).reverse.take i)/\m.length<=(ja W O).length+i*20)
    (iI _ _ _ _ rfl KB.refl (iF nd sF) rfl ?_) (by (rintro i Z G2 U;refine jp U ?_;clear U;rintro _ _ _ ⟨_,_,g,_⟩);exact SqL.of (g _ _ FD a9)) ?_ ?_
   ·have:=qK (ja W O) [];simp only [nn]at this
    lia
   ·rintro i x Z G2 hi hx U;refine jd U ?_;clear U;rintro Y o3 o4 m rfl g f ek le;obtain⟨sp,hs,b9⟩:=hE st hx;have X:(iu J J.length).reverse[i]?=some sp:=by rw[List.getElem?_reverse (by lia),<-lf];exact hs
    have so:=b6 sp (gT hs);obtain⟨e,he,c0⟩:=so.ask;have b5:KT G1 G2:=g.kt b8 t1;have I:=(b9.kt b5).toM so.pos;obtain⟨b,c,u,rfl,hb⟩:=id I;have n:A0j H G2:=KB.same (sG.trans sF) g hD;refine mE _ rfl _ rfl p dx l a tb ln o b wh (mX xs M d e (toM sp) rfl (n _ _ hp) (n _ _ a2) (Paired.mapP a7 λ_ _ z=>z.same n) I he λq G3 B tq=>?_);have ew:wrS d sp=(e.nm,(toM sp).ce):=by unfold wrS;rw[he];rfl
    obtain⟨q',b7,nq⟩:=oK tq;cases b7;rw[<-ew]at nq;have e3:=B _ _ (show G2 D=_ from (my f).choose_spec.1);refine kK _ rfl D q _ _ (nk (wrS d sp)) (gF ⟨rfl,rfl,iF f B,nq,rfl⟩ _ rfl (q9 (λhz=>?_) (λhz=>?_)))
    ·refine mE _ rfl _ rfl p dx l a tb ln o b wh (mh S xs M d e (toM sp) rfl (B _ _ (n _ _ hp)) (B _ _ (n _ _ hl)) (B _ _ (n _ _ a2)) (Paired.mapP a7 λ_ _ z=>z.same (n.trans B)) (I.same B) he (rdq he c0 ?_));intro R es G4 hR s4 a8 a5;have RD:R≠D:=λz=>by subst z;rw[e3]at hR;cases hR
     have b2:=iF (iF f B) s4;obtain⟨u4,e4,t4⟩:=my b2;refine fV R rfl ⟨_,SqL.of a8⟩ ?_;refine kz (K:=K) (a:=R) (xs:=es) (λj Z G5=>∃(o4:zP),Z=[Sro p,Sro D,Y,Sro b,o4]/\KB D G4 G5/\A3t P w [true,false] G5 D (lh m ((rdS S d sp).take j))) (fV _ rfl KB.refl b2) (by rintro j Z G5 _ ⟨_,_,v,_⟩;exact SqL.of (v _ _ RD a8)) ?_ ?_
     ·rintro j y Z G5 hy ⟨o4,rfl,v,N⟩;obtain⟨r,a1,tr⟩:=hE a5 hy;obtain⟨b1,rfl,na⟩:=oK (tr.keep (v.kt e4 t4));have lp:=qK ((rdS S d sp).take j) m;have lt:((rdS S d sp).take j).length<=(rdS S d sp).length:=by rw[iP];lia
      have lw:=so.few;have c2:i*20<=20000*20:=Nat.mul_le_mul_right _ (by lia);refine al _ rfl (kK _ rfl D b1 _ _ (nk r) (fY ⟨rfl,rfl,N,na,rfl⟩ (gQ (by lia)) λo1 a0=>?_));refine fV _ rfl v.upd ?_;rw[gR,a1,jG,Ah];exact a0
     ·rintro Z G5 ⟨o4,rfl,v,N⟩;rw[Paired.length a5,hQ]at N;have lp:=qK (rdS S d sp) m;have lw:=so.few;refine iI _ _ _ _ rfl ((g.trans (KB.of (B.trans s4))).trans v) N ?_ (by lia);rw[gR,X,jG,Am,<-ek];exact(fW hz).symm
    ·refine iI _ _ _ _ rfl (g.trans (KB.of B)) (iF f B) ?_ (by lia);rw[gR,X,jG,Am,<-ek];exact(ej hz).symm
   ·rintro Z G2 U;refine jd U ?_;clear U;rintro Y o3 o4 m rfl g f ek le;rw[lf,<-List.length_reverse,hQ]at ek;rw[ek]at f;exact al _ rfl (k D G2 hD (KB.same (sG.trans sF) g hD) f)
def iR(kvs:List (fZ×V))(a:Str->List Int)(x:Str):List zI:=(gl (a x)).filter λc=>(fy kvs (nk (x,c))).isSome
def rj(c H:Hp)(kvs:List (fZ×V))(a:Str->List Int):List (Key×V)->List (Str×List Str)->Prop:=Paired λ(p:Key×V)(e:Str×List Str)=>p.1=Sum.inr e.1/\∃b,p.2=.ref b/\c b=none/\A3n H b (iR kvs a e.1)
def Bd(P:yB)(w:yD)(A:Adr):Sp:=λm H Q _=>∃(p j l a q k o F:zW)(n:Int)(h f:zJ)(d:zB)(g:Str->List Int)(S:zV)(b:List (fZ×V)),m=[.ref p,.ref F]/\H p=some (clo A j n l a q k o)/\H l=some (.dK h)/\H a=some (.dK f)/\AR S H f d/\d.length<=1000/\(f.map (·.1)).Nodup/\l≠a/\(∀e∈d,Sz h e.2 (g e.1)/\B2h (g e.1))/\A3t P w [true,false] H F b/\
 ∀(D:zW)(i:zJ)(c:Hp),H D=none->A0j H c->c D=some (.dK i)->rj H c b g i d->Q (.ref D) c
theorem A3n.keep(h:A3n H a cs)(f:∀b xs,H b=some (.lst xs)->H' b=some (.lst xs))(g:KT H H'):A3n H' a cs:=by obtain⟨d,e,c⟩:=h.ex;exact⟨d,f _ _ e,c.imp g⟩
theorem uf{α:Type}{f:α->Bool}{x:α}(h:f x=true):[x].filter f=[x]:=by rw[List.filter_cons_of_pos h];rfl
theorem ue{α:Type}{f:α->Bool}{x:α}(h:¬f x=true):[x].filter f=[]:=by rw[List.filter_cons_of_neg h];rfl
theorem De(b:X.A.units+9<cLine)(a:X.prog=P)(c:X.w=w):OpR X (compareOp .In) (wc P w):=by subst a c;exact rY b
theorem IC(T:Txt K mg t):FO P w base T.bK 4 (Bd P w t):=by
 refine T.bK.F.ok qR λ_ A _ s H _ Q E hr h=>?_
 ·refine pk h ?_;clear h;rintro p dx l a tb ln o F wh lk g es sz S ⟨kvs,rfl,hp,hl,O,ar,b9,nd,la,b2,fn,k⟩;have hu:=kF hr;have hn:=n5 hr;have b6:=Paired.length ar;refine rsq (fa (gx 2 qR.nd pT) (fa (iA (pU (nD PySem.F.plainAttrs_dict PySem.F.slot_dict_items PySem.F.type_dict_items pS (iK (pv 0) rfl))) (jV (n:=2) rfl (gK (gc (i:=3) qR.nd rfl (.inr rfl)) (gK (gc (i:=4) qR.nd) jD))) (fa (gx 5 qR.nd (pcl (tD T) hr T.ao (dV (pv 4) (dV (iK (pv 0) rfl) eg)))) (fC ⟨@nG _ _ _ _ _ _ _ _ _ hu (pv 2) (pv 3) (yL (N':=["cell","array","found"]) (ix:=(List.replicate 1 none++[some 3,some 1])) rfl (vo (cl:=[("found",_),("array",_)]) (xs:=["found","array"]) rfl (fY rfl rfl trivial) rfl rfl (by decide+kernel) (by decide+kernel)) (vm (N0:=["cell"]) (xs:=["array","found"]) (js:=[3,1]) (fY (fY rfl (.inl rfl) (by walk_at"ix")) (fY rfl (.inl rfl) (by walk_at"ix")) trivial)) (jc (pv 5)) (λ_ _ _ _=>(gc (i:=0) GC)) (λ_ _ _ _=>(iz (De (P:=P) (w:=w) hn rfl rfl) (ir (dV (pv 1) (fX 0))) (pv 2) (by with_unfolding_all rfl))) (λ_ _ _ _=>(pv 0))) rfl⟩))) ⟨qM (@jN _ _ _ (@ms _ _ _ _ (pv 2)))⟩)) ?_;refine λD hD=>?_;have aD:a≠D:=ga O hD;have s1:A0j H (upd H D (.dK [])):=fx hD;have G:=s1 _ _ O;refine iM _ rfl p _ dx _ (.ref a) rfl (s1 _ _ hp) T.a9 T.ay (by walk_at"lk") ⟨.inr (.inr (.inl ⟨rfl,.inl ⟨_,G⟩⟩)),(ij a _ rfl rfl G (.inl ⟨_,rfl⟩) λvw J=>?_)⟩;have Dv:D≠vw:=ga ee J;have av:a≠vw:=ga G J;refine gD vw a _ rfl ee (by rw[dF av];exact G) (.inl (al g rfl λB=>?_));have a5:H vw=none:=by rw[dF Dv.symm]at J;exact J
  have g0:A0j (upd H a (.frz B (.dK g))) (upd (upd (upd H D (.dK [])) vw (ju vw a)) a (.frz B (.dK g))):=λb v e=>by
   by_cases x:b=a
   ·subst x;rw[ee]at e⊢;exact e
   ·rw[dF x]at e⊢;rw[dF (ga e a5),dF (ga e hD)];exact e
  have b0:upd H a (.frz B (.dK g)) D=none:=by rw[dF aD.symm];exact hD
  have a7:∀b,upd H a (.frz B (.dK g)) b=none->H b=none:=λb e=>by
   by_cases x:b=a
   ·subst x;rw[ee]at e;cases e
   ·rw[dF x]at e;exact e
  have up:∀b u,b≠a->H b=some u->upd H a (.frz B (.dK g)) b=some u:=λb u x e=>by rw[dF x];exact e
  have pa:p≠a:=gg hp O (by intro z;cases z)
  have Fa:F≠a:=λz=>by subst z;obtain⟨_,e,_⟩:=fn;rw[O]at e;cases e
  have b8:A3t P w [true,false] (upd H a (.frz B (.dK g))) F kvs:=fn.keeps (λu e=>up _ _ Fa e) λb ys e=>up _ _ (gg e O (by intro z;cases z)) e
  refine qO (L:=g.map λq=>(kV q.1,q.2)) (λi Z r=>∃(o3 o4 o5:zP)(C:zJ),Z=[Sro p,Sro F,Sro D,o3,o4,o5]/\A0j (upd H a (.frz B (.dK g))) r/\r D=some (.dK C)/\C.map (·.1)=(g.take i).map (·.1)/\rj H r kvs sz C (es.take i))
   (iI none none none [] rfl g0 (by rw[dF aD.symm,dF Dv,ee]) rfl .nil) (by (rintro i Z r N;refine jp N ?_;clear N;rintro _ _ _ ⟨_,_,s4,_⟩);exact s4 _ _ ee) ?_ ?_
  ·rintro i kx vx q Z r hx hq N;refine jd N ?_;clear N;rintro o3 o4 o5 C rfl s4 h4 ks wn;rw[gP]at hx;obtain⟨⟨k',v⟩,hk,e⟩:=lI.mp hx;cases e;refine pw (hE ar hk) ?_;rintro e he ek ⟨b,rfl,_,x⟩;have ek:k'=Sum.inr e.1:=ek;subst ek;obtain⟨si,go⟩:=b2 e (gT he);have sq:A0j r (upd r q (.tup [kV (Sum.inr e.1),.ref b])):=fx hq;have s5:=s4.trans sq;have b3:=s5 _ _ (up _ _ (gg x O (by intro z;cases z)) x);refine jJ q _ rfl (SqT.of ee) rfl _ _ rfl _ _ rfl rfl (al _ rfl (iM _ rfl p _ dx _ _ rfl (s5 _ _ (up _ _ pa hp)) T.a9 T.af (by walk_at"lk") (i12 b l e.2 lk (sz e.1) rfl b3 (s5 _ _ (up _ _ la hl)) si go λqc H6 c1 s6 cq=>?_)));have a1:=s5.trans s6;obtain⟨ps,a4,tp⟩:=cq.ex;have b5:=tp.len;have lc:=go.len;refine jm _ rfl qc rfl ⟨_,SqL.of a4⟩ λU m=>?_;refine Ie (K:=K) (a:=qc) (D:=U) (xs:=ps.map V.ref) (λj zs H7=>A0j H6 H7/\H7 U=some (.lst zs)/\∃I:zQ,zs=I.map V.ref/\I.length<=j/\A2t H7 I (((gl (sz e.1)).take j).filter λc=>(fy kvs (nk (e.1,c))).isSome)) ⟨fx m,(jP ee [] rfl (gf _) .nil)⟩ (λj zs H7 M=>SqL.of (M.1 _ _ a4)) ?_ ?_
   ·rintro j y zs H7 hy ⟨M,W,I,rfl,lq,tq⟩;obtain⟨pc,a2,rfl⟩:=md hy;obtain⟨c,hc,b7⟩:=tp.get a2;have hj:j<ps.length:=(gG.mp a2).1;refine⟨(fY rfl rfl True.intro),(jm _ rfl _ rfl (gj rfl) λb1 a6=>?_)⟩;have X:A0j H7 (upd H7 b1 (.tup [.str e.1,.ref pc])):=fx a6;have R:=X _ _ (M _ _ b7);have na:A1w (upd H7 b1 (.tup [.str e.1,.ref pc])) (nk (e.1,c)) b1:=oz ee (by rw[List.map_map];exact R);have a8:A3t P w [true,false] (upd H7 b1 (.tup [.str e.1,.ref pc])) F kvs:=iF b8 ((a1.trans M).trans X);have Y:=X _ _ W;refine kK _ rfl F b1 _ _ (nk (e.1,c)) (gF ⟨rfl,rfl,a8,na,rfl⟩ _ rfl (q9 (λhz=>?_) (λhz=>?_)))
    ·have kD:KT (upd H7 b1 (.tup [.str e.1,.ref pc])) (upd (upd H7 b1 (.tup [.str e.1,.ref pc])) U (.lst (I.map V.ref++[.ref pc]))):=KT.at Y (by intro xs z;cases z);refine iV _ rfl Y (gQ (by rw[eH];lia)) ⟨hJ (M.trans X) m,(jP ee (I++[pc]) (by simp) (by simp;lia) ?_)⟩;rw[gR,hc,jG,List.filter_append,uf (f:=λc=>(fy kvs (nk (e.1,c))).isSome) hz];exact A2t.snoc (kD _ _ R) (tq.imp ((KT.same X).trans kD))
    ·refine⟨M.trans X,(jP Y I rfl (by lia) ?_)⟩;rw[gR,hc,jG,List.filter_append,ue (f:=λc=>(fy kvs (nk (e.1,c))).isSome) hz,lT];exact tq.same X
   ·rintro zs H7 ⟨M,W,I,rfl,lq,tq⟩;rw[eH,b5,hQ]at tq;have a3:A0j r H7:=sq.trans (s6.trans M);have h7:=a3 _ _ h4;have b4:=s6 _ _ (sq _ _ h4);have DD:U≠D:=λz=>by subst z;rw[b4]at m;cases m
    have lw:C.length=(g.take i).length:=by have:=congrArg List.length ks;simpa using this
    have c0:(g.take i).length<=g.length:=by rw[iP];lia
    refine ie _ rfl _ rfl D _ rfl (C3j.k (k:=Sum.inr e.1) h7 (gQ (by lia))) ?_;refine iI _ _ _ _ rfl (hJ (a1.trans M) b0) ee ?_ ?_
    ·rw[qA nd hk C ks (.ref U),gR,hk,gB,gB,ks];rfl
    ·rw[qA nd hk C ks (.ref U),gR,he];refine jL (Paired.mapP wn ?_) (.cons (jP rfl U rfl (a7 _ (a1.free m)) ⟨I,?_,tq.imp λc u d=>?_⟩) .nil)
     ·rintro _ _ ⟨z1,b,z2,z3,z4⟩;exact jP z1 b z2 z3 ((z4.same a3).keep (λc u d=>by rw[dF (gg d h7 (by intro z;cases z))];exact d) λc u d=>by rw[dF (gg d h7 (by intro z;cases z))];exact d)
     ·rw[dF DD];exact W
     ·rw[dF (gg d h7 (by intro z;cases z))];exact d
  ·rintro Z r N;refine jd N ?_;clear N;rintro o3 o4 o5 C rfl s4 h4 ks wn;rw[eH,b6,hQ]at wn;have a0:r a=some (.frz B (.dK g)):=s4 _ _ ee;refine jn a B _ a0 (iw (.inl ⟨_,rfl⟩) (λo' u' z=>by have z:H a=some (.frz o' u'):=z;rw[O]at z;cases z) _ rfl ?_);refine k D C _ hD (zi O s4) (by rw[dF aD.symm];exact h4) (Paired.mapP wn ?_);rintro _ _ ⟨z1,b,z2,z3,z4⟩;exact jP z1 b z2 z3 (z4.keep (λc u d=>by rw[dF (gg d a0 (by intro z;cases z))];exact d) λc u d=>by rw[dF (gg d a0 (by intro z;cases z))];exact d)
structure AxN(nm ys:zC):Prop where
 nd:ys.Nodup
 sub:∀y∈ys,y∈nm
 few:ys.length<=3
structure wE(n:Nat)(L:zR)(u:Tm)(kvs:zJ):Prop where
 good:Gd u
 deep:dep u<=n
 at_:ri kvs u
 most:(rd L u (ai kvs)).length<=1000
theorem tS{a b:Str}{r:zJ}(h:decide (a=b)=false):fy (((Sum.inr a:Key),v)::r) (Sum.inr b)=fy r (Sum.inr b):=jk (λz=>by injection z with z;rw[iW z]at h;cases h)
local macro_rules | `(tactic| walk_at"ab") => `(tactic| first |exact jy rfl |(refine(tS (by decide +kernel)).trans ?_; walk_at"ab"))
structure B5d(lk:zJ)(L:zR)(nm:zC):Prop where
 eq:lk=nm.map λy=>((Sum.inr y:Key),V.int (L y))
 nd:nm.Nodup
 few:nm.length<=8
 ok:∀y∈nm,1<=L y/\L y<=60/\y≠""/\PyData.strOk y=true
theorem xE{L:zR}{y:Str}:∀{nm:zC},y∈nm->fy (nm.map λy=>((Sum.inr y:Key),V.int (L y))) (Sum.inr y)=some (.int (L y))
 |x::r,h=>by
  by_cases e:x=y
  ·subst e;exact jy rfl
  ·rw[gw,jk (λz=>e (Sum.inr.inj z))];exact xE ((gY.mp h).resolve_left (Ne.symm e))
theorem B5d.val(h:B5d lk L nm){y:Str}(a:y∈nm):fy lk (Sum.inr y)=some (.int (L y)):=by rw[h.eq];exact xE a
structure vM(L:zR)(nm:zC)(es:zB):Prop where
 nd:(es.map (·.1)).Nodup
 ax:∀e∈es,AxN nm e.2
 pr:∀e∈es,ib (e.2.map L)<=60
 few:es.length<=100
 str:∀e∈es,PyData.strOk e.1=true
theorem xb{S:zV}{H:Hp}:∀{ak:zJ}{es:zB},AR S H ak es->(es.map (·.1)).Nodup->∀{e:Str×List Str},e∈es->∃b,fy ak (Sum.inr e.1)=some (.ref b)/\S b/\H b=some (.lst (e.2.map V.str))
 |_,_,.nil,_,_,h=>by cases h
 |_,_,@Paired.cons _ _ _ p q ps qs r t,nd,e,h=>by
  obtain⟨a,b,j,f,i⟩:=r;rw[gw,lS]at nd;rcases gY.mp h with rfl|h
  ·exact fV b (by rw[<-j];exact jy a) f i
  ·obtain⟨c,d,g⟩:=xb t nd.2 h;exact al c (by rw[jk (λz=>nd.1 (by rw[Sum.inr.inj (a.symm.trans z)];exact List.mem_map_of_mem h))];exact d) g
structure vV(L:zR)(es:zB)(own:Str)(oy bs:zC)(n m:Nat)(u:Tm):Prop where
 gd:Gd u
 ax:Axs bs u
 fv:∀x,Fv u x->x∈bs
 dp:dep u<=n
 few:∀lf f,(rd lf u f).length<=m
 rin:∀lf f,∀r∈rd lf u f,∃ys,(r.1,ys)∈es/\Within r.2 (ys.map L)/\(r.1=own->A9k r.2 (oy.map f))
theorem y9:jK xs (some (i:Int)) none=xs.drop i:=by
 unfold jK;have a:HT.sIx xs.length 0 (some (i:Int))=min i xs.length:=HT.sIx_nat _ _ _;have b:HT.sIx xs.length xs.length none=xs.length:=rfl;rw[a,b];rcases Nat.le_total i xs.length with h|h
 ·rw[Nat.min_eq_left h,qX (by rw[pz];exact gf _)]
 ·rw[Nat.min_eq_right h,List.drop_length,vF h,List.take_nil]
theorem xq(z:Str):∀c:zC,inV (.str z) (c.map V.str)=decide (z∈c)
 | []=>rfl
 |b::r=>by
  have a:=xq z r;unfold inV at a⊢;rw[gw,List.any_cons,a];show((b==z)||decide (z∈r))=decide (z∈b::r);by_cases e:b=z
  ·subst e;simp
  ·have:¬z=b:=λh=>e h.symm;simp[e,this]
theorem yY:∀a:zC,(a.map V.str).all mQ=true| []=>rfl|b::r=>by rw[gw,List.all_cons,yY r];rfl
local macro_rules | `(tactic| walk_at"ab") => `(tactic| first |rfl |exact jy rfl |(refine(tS (by decide +kernel)).trans ?_; walk_at"ab"))
local macro_rules | `(tactic| walk_at"pu") => `(tactic| first |exact put_hit (nk_all (by walk_at"ab")) |(refine(put_miss (by decide +kernel) (Option.isSome_iff_exists.mpr ⟨_, by walk_at"ab"⟩)).trans (congrArg (List.cons _) ?_); walk_at"pu"))
structure C5e(L:zR)(nm:zC)(es:zB)(e:LnM):Prop where
 ax:AxN nm e.own
 nd:(e.own++e.sums).Nodup
 sub:∀y∈e.sums,y∈nm
 few:e.sums.length<=2
 po:ib (e.own.map L)<=4
 ps:ib (e.sums.map L)<=9
 tm:vV L es e.nm e.own (e.own++e.sums) 6 4 e.tm
theorem AxN.nil(nm:zC):AxN nm []:=⟨List.nodup_nil,λy a=>(nomatch a),by simp⟩
theorem xv{S:zV}{H:Hp}{y:Str}:∀{ak:zJ}{es:zB},AR S H ak es->y∉es.map (·.1)->fy ak (Sum.inr y)=none|_,_,.nil,_=>rfl|_,_,@Paired.cons _ _ _ p q ps qs r t,h=>by rw[gw,gY]at h;rw[jk (λz=>h (.inl (Sum.inr.inj (r.1.symm.trans z)).symm))];exact xv t λz=>h (.inr z)
def ScF(K:Frag)(H:Hp)(a:zW)(xs:zM):Prop:=(∃o,H a=some (.frz o (.lst xs)))\/∀b,SqL K b a xs
theorem ScF.mk(o:rB H)(s:SqL K H a xs):ScF K H a xs:=by
 rcases s with (h|⟨b,h⟩)|h
 ·rcases o a with z|⟨b,c,z⟩
  ·rw[h]at z;cases z
  ·rw[h]at z;cases z
 ·exact .inl ⟨b,h⟩
 ·exact .inr λd=>.inr h
theorem ScF.sq(s:ScF K H a xs):SqL K H a xs:=by
 rcases s with ⟨o,h⟩|h
 ·exact .inl (.inr ⟨o,h⟩)
 ·exact h H
theorem ScF.keep(s:ScF K H a xs)(f:∀o,H a=some (.frz o (.lst xs))->H' a=some (.frz o (.lst xs))):ScF K H' a xs:=by
 rcases s with ⟨o,h⟩|h
 ·exact .inl ⟨o,f o h⟩
 ·exact .inr h
theorem sj{α:Type}(f:α->V)(nm:List α)(lo hi:Option Int):∃zs:List α,jK (nm.map f) lo hi=zs.map f/\zs.length<=nm.length/\∀x∈zs,x∈nm:=by
 refine fV ((nm.drop (HT.sIx nm.length 0 lo)).take (HT.sIx nm.length nm.length hi-HT.sIx nm.length 0 lo)) ?_ ?_ λx a=>?_
 ·unfold jK;rw[eH,<-List.map_drop,<-List.map_take]
 ·rw[iP,pz];lia
 ·exact List.mem_of_mem_drop (p6 a)
theorem uY{k:Key}(h:k∉kvs.map (·.1)):fy kvs k=none:=by
 induction kvs with
 |nil=>rfl
 |cons p r ih=>rw[gw,gY]at h;rw[jk (λz=>h (.inl z.symm))];exact ih λz=>h (.inr z)
theorem sD:∀(b a:zJ),((a++b).map (·.1)).Nodup->kG a b=a++b
 | [],a,_=>by rw[lT];rfl
 |p::r,a,h=>by
  have c:p.1∉a.map (·.1):=λz=>by rw[gB,lU]at h;exact h.2.2 _ z p.1 (List.mem_map_of_mem (.head _)) rfl
  show kG (gC a p.1 p.2) r=a++p::r;rw[nI _ (uY c),sD r (a++[(p.1,p.2)]) (by rw[lH];exact h),lH];rfl
local macro_rules | `(tactic| walk_at"abn") => `(tactic| first |rfl |(refine(tS (by decide +kernel)).trans ?_; walk_at"abn"))
structure mM(L:zR)(nm:zC)(es:zB)(tb:zC)(T:Nat)(rows:List LnM)(os:zC):Prop where
 eo:vM L nm es
 tl:tb.length<=20
 len:es.length=T+rows.length
 row:∀k e,rows[k]?=some e->es[T+k]?=some (e.nm,e.own)/\C5e L nm (es.take (T+k+1)) e
 oi:∀o∈os,o∈es.map (·.1)
 fo:os.length<=60
 fr:rows.length<=50
 pos:1<=rows.length
structure ClF(A:Adr)(H:Hp)(p:zW)(L:zR)(nm:zC)(es:zB)(rows:List LnM)(os:zC):Prop where
 ex:∃(dx l a tb ln o:zW)(lk ak:zJ)(xs:zM),H p=some (clo A dx 1000 l a tb ln o)/\H l=some (.dK lk)/\B5d lk L nm/\H a=some (.dK ak)/\AR (λ_=>True) H ak es/\H o=some (.lst (os.map V.str))/\H ln=some (.lst xs)/\oT A [] H xs rows/\l≠a
theorem ClF.same(h:ClF A H p L nm es rows os)(s:A0j H H'):ClF A H' p L nm es rows os:=by refine lB h.ex ?_;rintro e l a r g o n k u i c ⟨m,q,j,f,t,b,d⟩;exact⟨e,l,a,r,g,o,n,k,u,s _ _ i,s _ _ c,m,s _ _ q,j.same s,s _ _ f,s _ _ t,Paired.mapP b λ_ _ z=>z.same s,d⟩
theorem B1w.keep{M M':zQ}(h:B1w A M H v e)(f:∀b u,b∉M->(∀xs,u≠.lst xs\/True)->H b=some u->b∉M'/\H' b=some u)(g:∀b C d fs,H b=some (.ins C d fs)->H' b=some (.ins C d fs)):B1w A M' H' v e:=by refine lC h ?_;clear h;rintro a p c u n rfl r m j k ⟨l,s⟩;have i:∀xs:zM,∀q:zM,HO.lst xs≠.lst q\/True:=λ_ _=>.inr True.intro;refine mX a p c u n rfl (g _ _ _ _ r) ((f _ _ m (λ_=>.inr True.intro) j).1) ((f _ _ m (λ_=>.inr True.intro) j).2) ((f _ _ k (λ_=>.inr True.intro) l).1) ((f _ _ k (λ_=>.inr True.intro) l).2) (s.imp λb o e=>?_);have:=f b o (jz e).1 (λ_=>.inr True.intro) (jz e).2;exact ky this.1 this.2
def iq(L:zR)(e:LnM):Rw:=⟨e.own,e.sums,e.own.map L,e.sums.map L⟩
theorem qm{lk:zJ}{L:zR}{nm:zC}(h:B5d lk L nm):∀{ys:zC},(∀y∈ys,y∈nm)->Sz lk ys (ys.map L)| [],_=>.nil|y::r,hs=>.cons (h.val (hs y (.head _))) (qm h λz a=>hs z (.tail _ a))
theorem rZ(h:B5d lk L nm)(a:∀y∈ys,y∈nm)(d:ys.length<=8)(e:ib (ys.map L)<=60):B2h (ys.map L):=by refine⟨λn c=>?_,by rw[eH];exact d,by lia⟩;obtain⟨y,b,rfl⟩:=gm.mp c;exact⟨(h.ok y (a y b)).1,(h.ok y (a y b)).2.1⟩
theorem C5e.rw'(g:C5e L nm es e)(h:B5d lk L nm):C9a (iq L e):=by have c:=g.ax.few;have a:=g.few;have d:=g.po;have b:=g.ps;exact⟨rZ h g.ax.sub (by lia) (by lia),rZ h g.sub (by lia) (by lia),by show ib (e.own.map L)<=60;lia,by show ib (e.sums.map L)<=60;lia,(eH _).symm,(eH _).symm⟩
theorem xy:∀{zs:zC}{cs:zI}{i:Nat}{x:Str}{c:Int},zs.Nodup->zs[i]?=some x->cs[i]?=some c->fy ((zs.map (Sum.inr:Str->Key)).zip (cs.map V.int)) (Sum.inr x)=some (.int c)
 | [],_,_,_,_,_,h,_=>by simp at h
 |_::_,[],_,_,_,_,_,h=>by simp at h
 |z::zs,d::cs,0,x,c,_,a,b=>by simp at a b;subst a b;exact jy rfl
 |z::zs,d::cs,i+1,x,c,nd,a,b=>by
  have a:zs[i]?=some x:=by simpa using a
  have b:cs[i]?=some c:=by simpa using b
  rw[lS]at nd;rw[gw,gw,List.zip_cons_cons,jk (λq=>nd.1 (by rw[Sum.inr.inj q];exact gT a))];exact xy nd.2 a b
theorem Bp{s:StM}(c:(e.own++e.sums).Nodup)(d:(s.ce++s.tu).length=(e.own++e.sums).length):atM e s=((e.own++e.sums).map (Sum.inr:Str->Key)).zip ((s.ce++s.tu).map V.int):=by
 unfold atM;rw[sD _ []]
 ·rfl
 ·rw[List.nil_append,List.map_fst_zip (by rw[eH,eH];lia)];exact List.Pairwise.map _ (λa b h z=>h (Sum.inr.inj z)) c
theorem xc{s:StM}(a:(e.own++e.sums).Nodup)(b:(s.ce++s.tu).length=(e.own++e.sums).length){c:Int}(h1:(e.own++e.sums)[i]?=some x)(h2:(s.ce++s.tu)[i]?=some c):fy (atM e s) (Sum.inr x)=some (.int c):=by rw[Bp a b];exact xy a h1 h2
theorem Bg{s:StM}(a:(e.own++e.sums).Nodup)(b:(s.ce++s.tu).length=(e.own++e.sums).length){c:Int}(h1:(e.own++e.sums)[i]?=some x)(h2:(s.ce++s.tu)[i]?=some c):ai (atM e s) x=c:=by unfold ai;rw[xc a b h1 h2]
theorem BG{s:StM}(b:(e.own++e.sums).Nodup)(d:(s.ce++s.tu).length=(e.own++e.sums).length)(f:x∈e.own++e.sums):fy (atM e s) (Sum.inr x)=some (.int (ai (atM e s) x)):=by obtain⟨i,a⟩:=List.getElem?_of_mem f;have g:=(gG.mp a).1;have c:(s.ce++s.tu)[i]?=some ((s.ce++s.tu)[i]'(by lia)):=hB _;rw[xc b d a c,Bg b d a c]
structure D2g(L:zR)(rows:List LnM)(s:Stp)(k:Nat)(e:LnM):Prop where
 hk:s.1=(k:Int)
 he:rows[k]?=some e
 hc:s.2.2.1∈gl (e.own.map L)
 wd:(e.sums=[]/\s.2.1="set"/\s.2.2.2=[])\/(e.sums≠[]/\s.2.1="start"/\s.2.2.2=[])\/(e.sums≠[]/\s.2.1="add"/\s.2.2.2∈gl (e.sums.map L))
theorem DE{k:Nat}(h:s∈nE (rows.map (iq L)) k):∃e,D2g L rows s k e:=by
 unfold nE at h;rw[gP]at h
 cases he:rows[k]? with
 |none=>rw[he]at h;cases h
 |some e=>
  rw[he]at h;have h:s∈ng k (iq L e):=h;unfold ng at h;obtain⟨c,b,a⟩:=List.mem_flatMap.mp h;have b:c∈gl (e.own.map L):=b;have a:s∈kW k (e.sums.map L) c:=a;unfold kW at a;by_cases z:e.sums=[]
  ·rw[fW (by rw[z];rfl)]at a;have a:=ik.mp a;subst a;exact⟨e,rfl,he,b,.inl (fY z rfl rfl)⟩
  ·rw[ej (λq=>z (List.map_eq_nil_iff.mp q))]at a;rcases gY.mp a with a|a
   ·subst a;exact⟨e,rfl,he,b,.inr (.inl (fY z rfl rfl))⟩
   ·obtain⟨u,d,rfl⟩:=gm.mp a;exact⟨e,rfl,he,b,.inr (.inr (fY z rfl d))⟩
theorem yy(h:s∈iu (rows.map (iq L)) n):∃k e,D2g L rows s k e:=by unfold iu at h;obtain⟨k,_,h⟩:=List.mem_flatMap.mp h;obtain⟨e,h⟩:=DE h;exact jw k e h
theorem D2g.tu{k:Nat}(h:D2g L rows s k e)(a:s.2.1≠"start"):s.2.2.2.length=e.sums.length:=by
 rcases h.wd with ⟨z,_,q⟩|⟨_,z,_⟩|⟨_,_,q⟩
 ·rw[z,q];rfl
 ·exact absurd z a
 ·have:=(qS _ _ q).1
  rwa[eH]at this
theorem D2g.ce{k:Nat}(h:D2g L rows s k e):s.2.2.1.length=e.own.length:=by
 have:=(qS _ _ h.hc).1
 rwa[eH]at this
theorem wQ(f:B5d lk L nm)(q:mM L nm es tb T rows os){k:Nat}(h:D2g L rows s k e):wt lk rows s/\(s.2.1≠"start"->rdS lk rows s=rd (ai lk) e.tm (ai (atM e (toM s)))/\wE 6 (ai lk) e.tm (atM e (toM s))/\pL lk e (toM s))/\rows[s.1.toNat]?=some e:=by
 obtain⟨t,a⟩:=q.row k e h.he;have r:s.1.toNat=k:=by rw[h.hk];exact Int.toNat_natCast k
 have b:rows[s.1.toNat]?=some e:=by rw[r];exact h.he
 have v:=a.ax.few;have u:=a.few;have l:=h.ce
 have c:s.2.1≠"start"->rdS lk rows s=rd (ai lk) e.tm (ai (atM e (toM s)))/\wE 6 (ai lk) e.tm (atM e (toM s))/\pL lk e (toM s):=λi=>by
  have j:=h.tu i
  have o:((toM s).ce++(toM s).tu).length=(e.own++e.sums).length:=by
   rw[gz,gz];show s.2.2.1.length+s.2.2.2.length=_
   lia
  have d:ri (atM e (toM s)) e.tm:=λx g=>BG a.nd o (a.tm.fv x g);have p:=a.tm.few (ai lk) (ai (atM e (toM s)));refine fY ?_ ⟨a.tm.gd,a.tm.dp,d,by lia⟩ ⟨l,j,by lia,a.tm.gd,by have:=a.tm.dp;lia,d,(al (e.own++e.sums) a.tm.ax λx g=>?_),by lia⟩
  ·unfold rdS;rw[ej i,b]
  ·have g:x∈nm:=(iQ.mp g).elim (a.ax.sub x) (a.sub x);have m:=f.val g;have n:ai lk x=L x:=by unfold ai;rw[m]
   rw[n];exact fY m ((f.ok x g).1) ((f.ok x g).2.1)
 refine fY ⟨by rw[h.hk];lia,(al e b λi=>(c i).2.2),?_⟩ c b;by_cases i:s.2.1="start"
 ·unfold rdS;rw[fW i];exact iG _
 ·rw[(c i).1];have:=a.tm.few (ai lk) (ai (atM e (toM s)))
  lia
theorem pM{c:Str×List Int}(h:nk r=nk c):r=c:=by unfold nk at h;injection h with h1 h2;injection h2 with h2 _;have e:r.1=c.1:=Sum.inr.inj (Sum.inl.inj h1);have d:r.2.map Sum.inl=c.2.map Sum.inl:=Sum.inr.inj h2;exact Prod.ext e ((List.map_inj_right (λa b z=>Sum.inl.inj z)).mp d)
theorem sH{r:Str×List Int}:∀(rs:List (Str×List Int))(kvs:List (fZ×V)),(fy (lh kvs rs) (nk r)).isSome=true↔(fy kvs (nk r)).isSome=true\/r∈rs
 | [],kvs=>by simp[lh]
 |q::rs,kvs=>by
  have h:=sH rs (gC kvs (nk q) (V.bl true)) (r:=r);show(fy (lh (gC kvs (nk q) (V.bl true)) rs) (nk r)).isSome=true↔_;rw[h,sI];by_cases e:r=q
  ·subst e;simp
  ·rw[ej (λz=>e (pM z)),gY];constructor
   ·rintro(z|z)
    ·exact .inl z
    ·exact .inr (.inr z)
   ·rintro(z|z|z)
    ·exact .inl z
    ·exact absurd z e
    ·exact .inr z
def rk(c:zI):PyData:=.tuple (c.map PyData.int)
theorem xW:∀c:zI,PyData.depthAll (c.map PyData.int)=0/\PyData.canLayAll0 (c.map PyData.int)=true/\PyData.eqvAll (c.map PyData.int) (c.map PyData.int)=true| []=>(fY rfl rfl (by simp[PyData.eqvAll]))|i::r=>by obtain⟨b,a,d⟩:=xW r;simp[PyData.depthAll,PyData.depth,PyData.canLayAll0,PyData.canLay0,PyData.eqvAll,PyData.eqv,b,a,d]
theorem yM{H:Hp}:∀c:zI,A5c H (c.map V.int) (c.map PyData.int)| []=>.nil|i::r=>.cons (.int i) (yM r)
def gu(W:Str->List zI)(es:zB):List (Str×List Int):=es.flatMap λe=>(W e.1).map λc=>(e.1,c)
theorem qB:r∈gu W es↔r.1∈es.map (·.1)/\r.2∈W r.1:=by
 unfold gu;rw[List.mem_flatMap];constructor
 ·rintro⟨e,a,h⟩;obtain⟨c,g,rfl⟩:=gm.mp h;exact⟨List.mem_map_of_mem a,g⟩
 ·rintro⟨f,d⟩;obtain⟨e,a,b⟩:=gm.mp f;exact al e a (gm.mpr (al r.2 (by rw[b];exact d) (Prod.ext b rfl)))
abbrev InW(kvs:List (fZ×V))(r:Str×List Int):Prop:=(fy kvs (nk r)).isSome=true
theorem u5{kvs:List (fZ×V)}:InW (qo lk rows kvs s) r↔InW kvs r\/(InW kvs (wrS rows s)/\r∈rdS lk rows s):=by
 unfold qo;by_cases h:(fy kvs (nk (wrS rows s))).isSome=true
 ·rw[fW h];show(fy (lh kvs (rdS lk rows s)) (nk r)).isSome=true↔_;rw[sH];exact⟨λz=>z.imp id λy=>⟨h,y⟩,λz=>z.imp id λy=>y.2⟩
 ·rw[ej h];exact⟨.inl,λz=>z.elim id λy=>absurd y.1 h⟩
theorem yJ(lk:zJ)(rows:List LnM)(kvs:List (fZ×V))(s:Stp)(ss:List Stp):mO lk rows kvs (s::ss)=mO lk rows (qo lk rows kvs s) ss:=rfl
theorem vc{lk:zJ}{rows:List LnM}{r:Str×List Int}:∀(ss:List Stp){kvs:List (fZ×V)},InW kvs r->InW (mO lk rows kvs ss) r| [],_,h=>h|s::ss,kvs,h=>by rw[yJ];exact vc ss (u5.mpr (.inl h))
theorem yo{lk:zJ}{rows:List LnM}{r:Str×List Int}:∀(ss:List Stp){kvs:List (fZ×V)},InW (mO lk rows kvs ss) r->InW kvs r\/∃s∈ss,InW (mO lk rows kvs ss) (wrS rows s)/\r∈rdS lk rows s
 | [],_,h=>.inl h
 |s::ss,kvs,h=>by
  rw[yJ]at h⊢;rcases yo ss h with z|⟨b,f,a,c⟩
  ·rcases u5.mp z with z|⟨d,e⟩
   ·exact .inl z
   ·exact .inr (fV s (.head _) (vc ss (u5.mpr (.inl d))) e)
  ·exact .inr (fV b (.tail _ f) a c)
theorem A9k.irrefl{a:zI}(h:A9k a a):False:=by
 refine gE h λj x y c b d _=>?_;clear h;rw[c]at b;cases b
 lia
def axE(es:zB)(x:Str):zC:=((es.find? λe=>decide (e.1=x)).map (·.2)).getD []
theorem n8:∀{es:zB},(es.map (·.1)).Nodup->∀{e:Str×List Str},e∈es->axE es e.1=e.2
 | [],_,_,h=>by cases h
 |p::r,nd,e,h=>by
  rw[gw,lS]at nd;unfold axE;by_cases z:p.1=e.1
  ·rw[List.find?_cons_of_pos (by simpa using z)];rcases gY.mp h with h|h
   ·rw[h];rfl
   ·exact absurd (by rw[z];exact List.mem_map_of_mem h) nd.1
  ·rw[List.find?_cons_of_neg (by simpa using z)];rcases gY.mp h with h|h
   ·rw[h]at z;exact absurd rfl z
   ·exact n8 nd.2 h
abbrev szE(L:zR)(es:zB)(x:Str):zI:=(axE es x).map L
abbrev wkF(lk:zJ)(L:zR)(es:zB)(rows:List LnM)(os:zC):List (fZ×V):=mO lk rows (lh [] (ja (szE L es) os)) (iu (rows.map (iq L)) rows.length).reverse
def FI(p:Nat->Bool):Nat->Option Nat|0=>none|i+1=>match FI p i with|some j=>some j|none=>if p i=true then some i else none
def LI(p:Nat->Bool):Nat->Option Nat|0=>none|i+1=>if p i=true then some i else LI p i
def wrA(rows:List LnM)(ss:List Stp)(r:Str×List Int)(j:Nat):Bool:=decide (ss[j]?.map (wrS rows)=some r)
def rdA(lk:zJ)(rows:List LnM)(a:List (fZ×V))(ss:List Stp)(r:Str×List Int)(j:Nat):Bool:=match ss[j]? with|some s=>(fy a (nk (wrS rows s))).isSome&&decide (r∈rdS lk rows s)|none=>false
def m7(kvs:List (fZ×V))(rs:List (Str×List Int))(v:V):List (fZ×V):=rs.foldl (λk r=>gC k (nk r) v) kvs
theorem Ag(kvs:List (fZ×V))(rs:List (Str×List Int))(r:Str×List Int)(v:V):m7 kvs (rs++[r]) v=gC (m7 kvs rs v) (nk r) v:=by unfold m7;rw[List.foldl_append];rfl
theorem sQ(v:V):∀(rs:List (Str×List Int))(kvs:List (fZ×V)),(m7 kvs rs v).length<=kvs.length+rs.length
 | [],_=>gf _
 |r::rs,kvs=>by
  have b:=sQ v rs (gC kvs (nk r) v);have a:=ow kvs (nk r) v;show(m7 (gC kvs (nk r) v) rs v).length<=kvs.length+(rs.length+1)
  lia
theorem vg{r:Str×List Int}{v:V}:∀(rs:List (Str×List Int))(kvs:List (fZ×V)),fy (m7 kvs rs v) (nk r)=if r∈rs then some v else fy kvs (nk r)
 | [],kvs=>by simp[m7]
 |q::rs,kvs=>by
  have h:=vg (r:=r) (v:=v) rs (gC kvs (nk q) v);show fy (m7 (gC kvs (nk q) v) rs v) (nk r)=_;rw[h,sI];by_cases e:r=q
  ·subst e;simp
  ·rw[ej (λz=>e (pM z))];by_cases m:r∈rs
   ·simp[m]
   ·simp[m,e]
abbrev n6(L:zR)(rows:List LnM)(ss:List Stp):Prop:=∀s∈ss,∃k e,D2g L rows s k e
def FA(P:yB)(w:yD)(A:Adr):Sp:=λh H Q _=>∃(p f:zW)(L:zR)(i:zC)(k:zB)(a:List LnM)(g:zC)(e:zM)(c:List Stp),h=[.ref p,.ref f]/\ClF A H p L i k a g/\H f=some (.lst e)/\A2j H e c/\n6 L a c/\c.length<=20000/\
 ∀(D:zW)(b:List (fZ×V))(d:Hp),H D=none->A0j H d->A3t P w [true,false] d D b->(∀r,fy b (nk r)=(FI (wrA a c r) c.length).map λ(j:Nat)=>V.int ((j:Int)+1))->Q (.ref D) d
theorem Iz(T:Txt K mg t):FO P w base T.bN 2 (FA P w t):=by
 refine T.bN.F.ok sY λ_ A _ s H _ Q E hr h=>?_
 ·refine lB h ?_;clear h;rintro p sl L nm es b os ys m rfl cl ⟨y,st,a4,b3,k⟩;have hn:=n5 hr;have a7:=Paired.length st;refine lB cl.ex ?_;rintro dx l ad tl ln o lk ak xs hp hl ⟨a9,b2,ar,ho,a8,a5,la⟩;refine rsq (fa (gx 2 sY.nd (qF (sh:=[true,false]))) (fa (iA (sf rfl T.b9 (fX 1)) (jV (n:=2) rfl (gK (gc (i:=3) sY.nd) (gK (gc (i:=4) sY.nd) jD))) (fC ⟨jI (wJ PySem.F.slot_dict_setdefault PySem.F.type_dict_setdefault (ED hn) (pv 2) (dV (pcl (tj T) hr T.aw (dV (pv 0) (fX 4))) (dV (gn jW (pv 3) gh) eg)))⟩)) (fC (gq (pv 2))))) ?_;refine λD o0 X f=>?_;have M:A0j H (upd H D o0):=fx X;have f:A3t P w [true,false] (upd H D o0) D []:=f;generalize upd H D o0=H1 at M f;have a1:sl≠D:=ga y X;obtain⟨u0,e0,t0⟩:=my f;refine gr _ rfl sl ys rfl (SqL.of (M _ _ y)) ?_
  refine sL (K:=K) (a:=sl) (xs:=ys) (λi Z G=>∃(o3 o4:zP)(c:List (fZ×V)),Z=[Sro p,Sro sl,Sro D,o3,o4]/\KB D H1 G/\A3t P w [true,false] G D c/\c.length<=i/\∀r,fy c (nk r)=(FI (wrA b m r) i).map λ(j:Nat)=>V.int ((j:Int)+1))
   (gX none none [] rfl KB.refl f (gf _) λr=>rfl) (by rintro i Z G ⟨_,_,_,_,kb,_⟩;exact SqL.of (kb _ _ a1 (M _ _ y))) ?_ ?_
  ·rintro i v Z G z hv R;refine gE R ?_;clear R;rintro o3 o4 c rfl kb nd ⟨b1,J⟩ hz;obtain⟨d,O,a0⟩:=hE st hv;have hi:i<ys.length:=(gG.mp hv).1;obtain⟨kk,e,si⟩:=a4 d (gT O);have u:b[d.1.toNat]?=some e:=by rw[si.hk,Int.toNat_natCast];exact si.he
   obtain⟨G1,sz,a6,a3⟩:=nH (o:=.tup [.int (i:Nat),v]) hz
   try rw[a3]
   have I:=kb.trans (KB.of sz);have C:A0j H G1:=KB.same M I X;have U:=((a0.kt (KT.same M)).kt (I.kt e0 t0)).toM (by rw[si.hk];lia);have W:=iF nd sz;obtain⟨b0,_,_,rfl,_⟩:=id a0;refine jJ z _ rfl (SqT.of a6) rfl _ _ rfl _ _ rfl rfl ?_;refine fV _ rfl (jn D _ _ rfl W) (mE _ rfl _ rfl p dx l ad tl ln o b0 1000 (mX xs [] b e (toM d) rfl (C _ _ hp) (C _ _ a8) (Paired.mapP a5 λ_ _ z=>z.same C) U u λq G2 S tr=>?_));have ew:wrS b d=(e.nm,d.2.2.1):=by unfold wrS;rw[u]
   obtain⟨q',eq,na⟩:=oK tr;cases eq;have na:A1w G2 (nk (wrS b d)) q:=by rw[ew];exact na
   have Y:=iF W S;have N:=I.trans (KB.of S)
   have x:∀r,(FI (wrA b m r) (i+1))=match FI (wrA b m r) i with|some j=>some j|none=>if wrS b d=r then some i else none:=λr=>by
    show(match FI (wrA b m r) i with|some j=>some j|none=>if wrA b m r i=true then some i else none)=_
    have ei:(wrA b m r i=true)=(wrS b d=r):=by unfold wrA;rw[O];simp
    cases FI (wrA b m r) i with
    |some j=>rfl
    |none=>simp[ei]
   have B:=J (wrS b d);refine gr _ rfl _ _ rfl rfl (jQ D q _ (iI _ (nk (wrS b d)) _ _ rfl ⟨rfl,rfl,Y,na,rfl⟩ (gQ (by lia)) (λv hv=>?_) λg o1 a2=>?_))
   ·refine gX _ _ c rfl N Y (by lia) λr=>?_;rw[x r,J r];rw[hv]at B
    cases hF:FI (wrA b m r) i with
    |some j=>rfl
    |none=>
     by_cases er:wrS b d=r
     ·rw[er,hF]at B;cases B
     ·simp[er]
   ·have lp:=ow c (nk (wrS b d)) (V.int ((i:Int)+1));refine gX _ _ (gC c (nk (wrS b d)) (V.int ((i:Int)+1))) rfl N.upd a2 (by lia) λr=>?_;rw[x r,sI];by_cases er:wrS b d=r
    ·rw[er]at B g⊢;rw[g]at B
     cases hF:FI (wrA b m r) i with
     |some j=>rw[hF]at B;cases B
     |none=>simp
    ·rw[ej (λz=>er (pM z).symm),J r]
     cases hF:FI (wrA b m r) i with
     |some j=>rfl
     |none=>simp[er]
  ·rintro Z G R;refine gE R ?_;clear R;rintro o3 o4 c rfl kb nd ⟨_,J⟩;rw[a7]at J;exact al _ rfl (k D c G X (KB.same M kb X) nd J)
def nW(lk:zJ)(L:zR)(es:zB)(rows:List LnM)(os:zC)(a:List (fZ×V))(ss:List Stp)(r:Str×List Int):Option Nat:=if r∈ja (szE L es) os then some ss.length else LI (rdA lk rows a ss r) ss.length
def Ej(P:yB)(w:yD)(A:Adr):Sp:=λm H Q _=>∃(p l F:zW)(L:zR)(f:zC)(g:zB)(n:zC)(T:Nat)(a:List LnM)(d:zC)(h:zM)(c:List Stp)(k:zJ)(i:List (fZ×V)),m=[.ref p,.ref l,.ref F]/\ClF A H p L f g a d/\mM L f g n T a d/\B5d k L f/\H l=some (.lst h)/\A2j H h c/\n6 L a c/\c.length<=20000/\A3t P w [true,false] H F i/\
 ∀(D:zW)(b:List (fZ×V))(e:Hp),H D=none->A0j H e->A3t P w [true,false] e D b->(∀r,fy b (nk r)=(nW k L g a d i c r).map λ(j:Nat)=>V.int (j:Int))->Q (.ref D) e
theorem wU{S:zV}(d:B5d lk L nm)(a:mM L nm es tb T rows os)(h:AR S H ak es){y:Str}(i:y∈os):ArO H lk ak (axE es) (szE L es) y:=by
 obtain⟨e,c,rfl⟩:=gm.mp (a.oi y i);obtain⟨b,g,_,j⟩:=xb h a.eo.nd c;have f:=a.eo.ax e c;have k:=f.few;refine⟨(al b g (by rw[n8 a.eo.nd c];exact j)),?_,?_⟩
 ·unfold szE;rw[n8 a.eo.nd c];exact qm d f.sub
 ·unfold szE;rw[n8 a.eo.nd c];exact rZ d f.sub (by lia) (a.eo.pr e c)
theorem HL(T:Txt K mg t):FO P w base T.c8 16 (Ej P w t):=by
 refine T.c8.F.ok pX λ_ A _ s H _ Q E hr h=>?_
 ·refine pk h ?_;clear h;rintro p sl F L nm I tb T0 b os ys U lk wk ⟨rfl,cl,fo,a1,S,st,d7,d3,b7,k⟩;have hn:=n5 hr;have a4:=Paired.length st;refine lB cl.ex ?_;rintro dx l ad tl ln o c ak xs hp hl ⟨c5,d8,ar,ho,c0,b4,la⟩;have d5:c=lk:=c5.eq.trans a1.eq.symm;subst d5;refine rsq (fa (gx 3 pX.nd (qF (sh:=[true,false]))) (fa (iA (sf rfl T.b9 (fX 1)) (jV (n:=2) rfl (gK (gc (i:=4) pX.nd) (gK (gc (i:=5) pX.nd) jD))) (fC (gZ (iz (rY hn) (pcl (tj T) hr T.aw (dV (pv 0) (fX 5))) (pv 2) (by with_unfolding_all rfl)) (fC (iA (jc (pcl (Ak T) hr T.bU (dV (pv 0) (fX 5)))) (gc (i:=6) pX.nd) (fC ⟨lM (pv 4) (n7 (pv 3) (pv 6) (qz hn))⟩))) ⟨gW⟩))) (fa (iA (jc (pcl (AK T) hr T.aA (fX 0))) (gc (i:=7) pX.nd) (fC ⟨lM (jr T.aj (fX 1)) (n7 (pv 3) (pv 7) (qz hn))⟩)) (fC (gq (pv 3)))))) ?_;refine λD o0 hD C=>?_;have s1:A0j H (upd H D o0):=fx hD;have C:A3t P w [true,false] (upd H D o0) D []:=C;generalize upd H D o0=H1 at s1 C;have c2:sl≠D:=ga S hD;obtain⟨u0,e0,t0⟩:=my C;obtain⟨uF,eF,tF⟩:=my b7;have FD:F≠D:=ga eF hD;have a7:∀{G:Hp},KB D H1 G->A3t P w [true,false] G F wk:=λkb=>(iF b7 s1).keeps (λu z=>kb _ _ FD z) (kb.kt e0 t0);refine gr _ rfl sl ys rfl (SqL.of (s1 _ _ S)) ?_
  refine sL (K:=K) (a:=sl) (xs:=ys) (λi Z G=>∃(o4 o5 o6:zP)(f:List (fZ×V)),Z=[Sro p,Sro sl,Sro F,Sro D,o4,o5,o6,none]/\KB D H1 G/\A3t P w [true,false] G D f/\f.length<=i*20/\∀r,fy f (nk r)=(LI (rdA c b wk U r) i).map λ(j:Nat)=>V.int (j:Int))
   (iI none none none [] rfl KB.refl C (iG _) λr=>rfl) (by (rintro i Z G X;refine jp X ?_;clear X;rintro _ _ _ ⟨_,_,kb,_⟩);exact SqL.of (kb _ _ c2 (s1 _ _ S))) ?_ ?_
  ·rintro i v Z G z hv X;refine jd X ?_;clear X;rintro o4 o5 o6 f rfl kb nd c9 vv hz;obtain⟨x,c3,d1⟩:=hE st hv;have hi:i<ys.length:=(gG.mp hv).1;obtain⟨kk,e,si⟩:=d7 x (gT c3);obtain⟨so,c1,B⟩:=wQ a1 fo si;have e5:=so.few;have e2:i*20<=20000*20:=Nat.mul_le_mul_right _ (by lia);obtain⟨G1,sz,d9,d6⟩:=nH (o:=.tup [.int (i:Nat),v]) hz
   try rw[d6]
   have a8:=kb.trans (KB.of sz);have W:A0j H G1:=KB.same s1 a8 hD;have Y:=((d1.kt (KT.same s1)).kt (a8.kt e0 t0)).toM (by rw[si.hk];lia);have O:=iF nd sz;obtain⟨b0,_,_,rfl,_⟩:=id d1;refine jJ z _ rfl (SqT.of d9) rfl _ _ rfl _ _ rfl rfl ?_;refine mE _ rfl _ rfl p dx l ad tl ln o b0 1000 (mX xs [] b e (toM x) rfl (W _ _ hp) (W _ _ c0) (Paired.mapP b4 λ_ _ z=>z.same W) Y B λq G2 J tr=>?_);have ew:wrS b x=(e.nm,x.2.2.1):=by unfold wrS;rw[B]
   obtain⟨q',eq,na⟩:=oK tr;cases eq;have na:A1w G2 (nk (wrS b x)) q:=by rw[ew];exact na
   have a2:=iF O J;have a0:=a8.trans (KB.of J);have N:=W.trans J;have b6:∀r,rdA c b wk U r i=((fy wk (nk (wrS b x))).isSome&&decide (r∈rdS c b x)):=λr=>by unfold rdA;rw[c3]
   refine kK _ rfl F q _ _ (nk (wrS b x)) (gF ⟨rfl,rfl,a7 a0,na,rfl⟩ _ rfl (q9 (λhz=>?_) (λhz=>?_)))
   ·refine mE _ rfl _ rfl p dx l ad tl ln o b0 1000 (mh c xs [] b e (toM x) rfl (N _ _ hp) (N _ _ hl) (N _ _ c0) (Paired.mapP b4 λ_ _ z=>z.same N) (Y.same J) B (rdq B (λhw=>(c1 hw).2.2) ?_));intro R d4 G3 hR s3 b3 c7;have c4:=iF a2 s3;obtain⟨u3,e3,t3⟩:=my c4;have RD:R≠D:=λz=>by subst z;obtain⟨_,e,_⟩:=my a2;rw[hR]at e;cases e
    have a5:=Paired.length c7;refine fV R rfl ⟨_,SqL.of b3⟩ ?_
    refine kz (K:=K) (a:=R) (xs:=d4) (λj Z G4=>∃(o6:zP),Z=[Sro p,Sro sl,Sro F,Sro D,Sio (i:Nat),Sro b0,o6,none]/\KB D G3 G4/\A3t P w [true,false] G4 D (m7 f ((rdS c b x).take j) (.int (i:Nat))))
     (fV _ rfl KB.refl c4) (by rintro j Z G4 _ ⟨_,_,d,_⟩;exact SqL.of (d _ _ RD b3)) ?_ ?_
    ·rintro j y Z G4 hy ⟨o6,rfl,d,g⟩;obtain⟨r,a3,a6⟩:=hE c7 hy;obtain⟨b1,rfl,a9⟩:=oK (a6.keep (d.kt e3 t3));have lp:=sQ (.int (i:Nat)) ((rdS c b x).take j) f;have lt:((rdS c b x).take j).length<=(rdS c b x).length:=by rw[iP];lia
     refine iJ _ rfl _ rfl (kK _ rfl D b1 _ _ (nk r) (fY ⟨rfl,rfl,g,a9,rfl⟩ (gQ (by lia)) λo1 M=>?_));refine fV _ rfl d.upd ?_;rw[gR,a3,jG,Ag];exact M
    ·rintro Z G4 ⟨o6,rfl,d,g⟩;rw[a5,hQ]at g;have lp:=sQ (.int (i:Nat)) (rdS c b x) f;refine iI _ _ _ _ rfl ((a0.trans (KB.of s3)).trans d) g (by rw[Nat.add_mul];lia) λr=>?_;rw[vg];show _=(if rdA c b wk U r i=true then some i else LI (rdA c b wk U r) i).map _;rw[b6 r,hz,Bool.true_and];by_cases m:r∈rdS c b x
     ·rw[fW m,fW (iW m)];rfl
     ·rw[ej m,ej (by simpa using m)];exact vv r
   ·refine iI _ _ _ f rfl a0 a2 (by lia) λr=>?_;show _=(if rdA c b wk U r i=true then some i else LI (rdA c b wk U r) i).map _;rw[b6 r,ej (by rw[Bool.not_eq_true]at hz;rw[hz];simp)];exact vv r
  rintro Z G X;refine jd X ?_;clear X;rintro o4 o5 o6 f rfl kb nd c9 vv;rw[a4]at vv c9;have sG:A0j H G:=KB.same s1 kb hD;have b2:∀y∈os,ArO H c ak (axE I) (szE L I) y:=λy hy=>wU a1 fo ar hy;have lo:=rL b2;have d2:=fo.fo;have e6:os.length*4000<=60*4000:=Nat.mul_le_mul_right _ d2;have e4:U.length*20<=20000*20:=Nat.mul_le_mul_right _ d3;refine kK _ rfl p dx l ad tl (jw ln o (mh 1000 c ak os (axE I) (szE L I) rfl (sG _ _ hp) (sG _ _ hl) (sG _ _ d8) (sG _ _ ho) (by lia) (λy hy=>(b2 y hy).same sG) λR zs G1 hR b8 b5 d0=>?_));have O:=iF nd b8;obtain⟨u1,e1,t1⟩:=my O;have RD:R≠D:=λz=>by subst z;obtain⟨_,e,_⟩:=my nd;rw[hR]at e;cases e
  have a5:=Paired.length d0;have c6:=sG.trans b8;refine fV R rfl ⟨_,SqL.of b5⟩ ?_
  refine kz (K:=K) (a:=R) (xs:=zs) (λj Z G2=>∃(o7:zP),Z=[Sro p,Sro sl,Sro F,Sro D,o4,o5,o6,o7]/\KB D G1 G2/\A3t P w [true,false] G2 D (m7 f ((ja (szE L I) os).take j) (.int (U.length:Nat))))
   (fV _ rfl KB.refl O) (by rintro j Z G2 _ ⟨_,_,d,_⟩;exact SqL.of (d _ _ RD b5)) ?_ ?_
  ·rintro j y Z G2 hy ⟨o7,rfl,d,g⟩;obtain⟨r,a3,a6⟩:=hE d0 hy;obtain⟨b1,rfl,a9⟩:=oK (a6.keep (d.kt e1 t1));have lp:=sQ (.int (U.length:Nat)) ((ja (szE L I) os).take j) f;have lt:((ja (szE L I) os).take j).length<=(ja (szE L I) os).length:=by rw[iP];lia
   refine gr _ rfl sl _ rfl (.inl (SqL.of (d _ _ c2 (c6 _ _ S)))) (al _ rfl (kK _ rfl D b1 _ _ (nk r) (fY ⟨rfl,rfl,g,a9,rfl⟩ (gQ (by lia)) λo1 M=>?_)));refine fV _ rfl d.upd ?_;rw[gR,a3,jG,Ag,<-a4];rw[<-a4]at M;exact M
  ·rintro Z G2 ⟨o7,rfl,d,g⟩;rw[a5,hQ]at g;refine al _ rfl (k D _ G2 hD (KB.same c6 d hD) g λr=>?_);rw[vg];unfold nW;by_cases m:r∈ja (szE L I) os
   ·rw[fW m,fW m];rfl
   ·rw[ej m,ej m];exact vv r
theorem Hg(b:B5d lk L nm)(h:mM L nm es tb T rows os):(iu (rows.map (iq L)) rows.length).length<=rows.length*40:=by
 have:=nc (l:=List.range rows.length) (f:=nE (rows.map (iq L))) (B:=40) λk _=>by
  unfold nE;split
  ·rename_i e he;rw[gP]at he
   cases er:rows[k]? with
   |none=>rw[er]at he;cases he
   |some e'=>
    rw[er]at he;cases he;have g:=(h.row k e' er).2;have d:=g.rw' b;have j:=(nL (iq L e').so λn a=>(d.go.pos n a).1).1;have i:=(nL (iq L e').ss λn a=>(d.gs.pos n a).1).1;have m:ib (iq L e').so<=4:=g.po;have o:ib (iq L e').ss<=9:=g.ps
    have p:=nc (l:=gl (iq L e').so) (f:=kW k (iq L e').ss) (B:=10) λc _=>by
     unfold kW;split
     ·simp
     ·rw[iZ,eH]
      lia
    show(ng k (iq L e')).length<=40;unfold ng
    lia
  ·simp
 rw[List.length_range]at this;exact this
theorem xY{S:zV}{H:Hp}:∀{ak:zJ}{es:zB},AR S H ak es->ak.map (·.1)=es.map λe=>(Sum.inr e.1:Key)|_,_,.nil=>rfl|_,_,@Paired.cons _ _ _ p q ps qs r t=>by rw[gw,gw,xY t,r.1]
theorem Ae{α β γ:Type}{F:α->β->Prop}{G:α->γ->Prop}{f:β->γ}(h:∀x y,F x y->G x (f y)):∀{a:List α}{b:List β},Paired F a b->Paired G a (b.map f)|_,_,.nil=>.nil|_,_,.cons r t=>.cons (h _ _ r) (Ae h t)
abbrev iB(c:zI):zU:=c.map Sum.inl
theorem sN{d:zI}(h:iB c=iB d):c=d:=(List.map_inj_right (λa b z=>Sum.inl.inj z)).mp h
def ii(rows:List LnM)(ss:List Stp)(r:Str×List Int):Int:=((FI (wrA rows ss r) ss.length).map λ(j:Nat)=>(j:Int)+1).getD 0
def kg(lk:zJ)(L:zR)(es:zB)(rows:List LnM)(os:zC)(a:List (fZ×V))(ss:List Stp)(r:Str×List Int):Int:=((nW lk L es rows os a ss r).map λ(j:Nat)=>(j:Int)).getD 0
theorem xH{p:Nat->Bool}{j:Nat}(h:p j=true):∀{i:Nat},j<i->(LI p i).isSome=true
 |i+1,hj=>by
  show(if p i=true then some i else LI p i).isSome=true;by_cases e:p i=true
  ·rw[fW e];rfl
  ·rw[ej e];refine xH h ?_;rcases Nat.lt_or_ge j i with z|z
   ·exact z
   ·have:j=i:=by lia
    subst this;exact absurd h e
theorem uZ(b:∀s∈iu (rows.map (iq L)) rows.length,s∈ss)(h:InW (wkF lk L es rows os) r):∃j,nW lk L es rows os (wkF lk L es rows os) ss r=some j:=by
 unfold nW;by_cases m:r∈ja (szE L es) os
 ·exact⟨_,fW m⟩
 ·rw[ej m];rcases yo _ h with z|⟨s,d,e,a⟩
  ·rcases(sH _ _).mp z with z|z
   ·cases z
   ·exact absurd z m
  ·obtain⟨j,c⟩:=List.getElem?_of_mem (b s (List.mem_reverse.mp d));refine Option.isSome_iff_exists.mp (xH (j:=j) ?_ (gG.mp c).1);unfold rdA;rw[c];show((fy (wkF lk L es rows os) (nk (wrS rows s))).isSome&&decide (r∈rdS lk rows s))=true;rw[e,Bool.true_and];exact iW a
def C8z(H:Hp)(f g:Str×List Int->Int)(x:Str):List (List Key×V)->List zI->Prop:=Paired λ(p:List Key×V)(c:zI)=>p.1=iB c/\∃q,p.2=.ref q/\H q=some (.tup [.int (f (x,c)),.int (g (x,c))])
theorem C8z.kt{f:Str×List Int->Int}{tk:List (List Key×V)}(h:C8z H f g x tk cs)(k:KT H H'):C8z H' f g x tk cs:=Paired.mapP h λ_ _ z=>⟨z.1,z.2.imp λ_ y=>⟨y.1,k _ _ y.2⟩⟩
theorem C8z.keys{f:Str×List Int->Int}{tk:List (List Key×V)}(h:C8z H f g x tk cs):tk.map (·.1)=cs.map iB:=by
 unfold C8z at h
 induction h with
 |nil=>rfl
 |cons r _ ih=>rw[gw,gw,ih,r.1]
def D7h(H:Hp)(f g:Str×List Int->Int)(x:Str)(cs:List zI)(v:V):Prop:=∃(b:zW)(a:List (List Key×V)),v=.ref b/\H b=some (.dT a)/\C8z H f g x a cs
def mK(H:Hp)(f g:Str×List Int->Int)(W:Str->List zI):List (Key×V)->List (Str×List Str)->Prop:=Paired λ(p:Key×V)(e:Str×List Str)=>p.1=Sum.inr e.1/\D7h H f g e.1 (W e.1) p.2
def Ep(A:Adr):Sp:=λk H Q _=>∃(p i:zW)(L:zR)(g:zC)(b:zB)(l:zC)(T:Nat)(a:List LnM)(d:zC)(h:zM)(c:List Stp)(e:zJ),k=[.ref p,.ref i]/\ClF A H p L g b a d/\mM L g b l T a d/\B5d e L g/\H i=some (.lst h)/\A2j H h c/\n6 L a c/\c.length<=20000/\(∀s∈iu (a.map (iq L)) a.length,s∈c)/\
 ∀(D:zW)(j:zJ)(f:Hp),H D=none->A0j H f->f D=some (.dK j)->mK f (ii a c) (kg e L b a d (wkF e L b a d) c) (iR (wkF e L b a d) (szE L b)) j b->Q (.ref D) f
theorem D7h.keep{f:Str×List Int->Int}(h:D7h H f g x cs v)(k1:∀b tk,H b=some (.dT tk)->v=.ref b->H' b=some (.dT tk))(k2:KT H H'):D7h H' f g x cs v:=by obtain⟨b,tk,e,c,a⟩:=h;exact el b tk e (k1 b tk c e) (a.kt k2)
theorem uK(kvs:List (fZ×V))(c:Str->List Int)(x:Str):(iR kvs c x).Nodup:=by unfold iR;refine List.Nodup.sublist List.filter_sublist ?_;exact(Ir (c x)).imp λ{a b} h z=>by subst z;exact h.irrefl
theorem pd{α:Type}{l:List α}{c:α}(d:l.Nodup)(e:l[j]?=some c):c∉l.take j:=λm=>by
 obtain⟨i,a⟩:=List.getElem?_of_mem m;have b:i<j:=by have:=(gG.mp a).1;rw[iP]at this;lia
 rw[List.getElem?_take_of_lt b]at a;have:=(List.getElem?_inj (gG.mp a).1 d).mp (a.trans e.symm)
 lia
theorem Av(T:Txt K mg t):FO P w base T.bB 17 (Ep t):=by
 refine T.bB.F.ok ox λ_ A _ s H _ Q E hr h=>?_
 ·refine jS h ?_;clear h;rintro p sl L nm x tb ⟨T0,f,B,ys,I,lk,rfl,cl,O,C,f1,st,f2,d6,g1,k⟩;have hu:=kF hr;have hn:=n5 hr;refine lB cl.ex ?_;rintro dx l ad tl ln o m ak xs hp hl ⟨f0,f6,ar,ho,g6,d1,la⟩;have g7:m=lk:=f0.eq.trans C.eq.symm;subst g7;have fr:=O.fr;have j0:=O.eo.few
  have j6:∀e∈f.map (iq L),C9a e:=λe he=>by obtain⟨e',b7,rfl⟩:=gm.mp he;obtain⟨i,hi⟩:=List.getElem?_of_mem b7;exact(O.row i e' hi).2.rw' C
  have c3:(f.map (iq L)).length=f.length:=eH _;have j3:=Hg C O;have i9:f.length*40<=50*40:=Nat.mul_le_mul_right _ fr
  have d4:∀e∈x,Sz m e.2 (szE L x e.1)/\B2h (szE L x e.1):=λe he=>by unfold szE;rw[n8 O.eo.nd he];have ax:=O.eo.ax e he;have:=ax.few;exact⟨qm C ax.sub,rZ C ax.sub (by lia) (O.eo.pr e he)⟩
  have g4:(ak.map (·.1)).Nodup:=by rw[xY ar,show(x.map λe=>(Sum.inr e.1:Key))=(x.map (·.1)).map Sum.inr by rw[List.map_map];rfl];exact List.Pairwise.map _ (λa b h z=>h (Sum.inr.inj z)) O.eo.nd
  refine rsq (fa (gx 2 ox.nd (pcl (Jd T) hr T.a_ (fX 0))) (fa (gx 3 ox.nd (pcl (Iz T) hr T.bN (dV (pv 0) (fX 1)))) (fa (gx 4 ox.nd (pcl (HL T) hr T.c8 (dV (pv 0) (dV (pv 1) (fX 2))))) (fa (gx 5 ox.nd pT) (fa (iA (pU (nD PySem.F.plainAttrs_dict PySem.F.slot_dict_items PySem.F.type_dict_items pS (pcl (IC T) hr T.bK (dV (pv 0) (fX 2))))) (jV (n:=2) rfl (gK (gc (i:=6) ox.nd) (gK (gc (i:=7) ox.nd) jD))) (fa ⟨@nG _ _ _ _ _ _ _ _ _ hu (pv 5) (pv 6) yk rfl⟩ (fC (iA (jc (pv 7)) (gc (i:=8) ox.nd) (fC ⟨@nG _ _ _ _ _ _ _ _ _ hu (iE hu (pv 5) (pv 6)) (pv 8) (ir (dV (wJ PySem.F.slot_dict_get PySem.F.type_dict_get (DZ hn) (pv 3) (dV (ir (dV (pv 6) (fX 8))) (dV gh eg))) (dV (uI hn (pv 4) (ir (dV (pv 6) (fX 8))) (λ_ _=>rfl)) eg))) rfl⟩))))) ⟨qM (@jN _ _ _ (@ms _ _ _ _ (pv 5)))⟩))))) ?_;refine kK _ rfl p dx l ad tl (mF ln o 1000 m ak B (mh (axE x) (szE L x) xs [] f (f.map (iq L)) rfl hp hl f6 ho (by have:=O.fo;lia) (λy hy=>wU C O ar hy) (fY g6 d1 (ka (Ae (λv e z=>?_) d1) (λe he=>?_) (by lia) (λs hs=>?_) (by rw[c3];lia) λF H1 hF s1 a0=>?_))))
  ·refine lC z ?_;clear z;rintro a' h4 c u n ev e1 m1 e2 m2 ⟨e3,_⟩;exact⟨a',(i12 h4 c u n _ ev e1 m1 e2 m2 e3)⟩
  ·obtain⟨e',b7,rfl⟩:=gm.mp he;obtain⟨i,hi⟩:=List.getElem?_of_mem b7;have gd:=(O.row i e' hi).2;exact mi (gd.rw' C) (qm C gd.ax.sub) (qm C gd.sub) (λy hy=>(C.ok y (gd.ax.sub y hy)).2.2.2) λy hy=>(C.ok y (gd.sub y hy)).2.2.2
  ·rw[c3]at hs;obtain⟨_,_,si⟩:=yy hs;exact(wQ C O si).1
  rw[c3]at a0;have a0:A3t P w [true,false] H1 F (wkF m L x f B):=a0;refine mE _ rfl _ rfl p sl L nm x f B ys I ⟨rfl,(ka (cl.same s1) (s1 _ _ f1) (st.kt (KT.same s1)) f2 d6 λFD kf H2 j1 s2 e8 vf=>?_)⟩;have a5:=s1.trans s2;refine al _ rfl (mE _ rfl _ rfl p sl F L nm x tb T0 f (mD B ys I m _ rfl (cl.same a5) O C (a5 _ _ f1) (st.kt (KT.same a5)) f2 d6 ⟨iF a0 s2,λLD kl H3 j4 s3 d8 vl=>?_⟩));have f9:=a5.trans s3;refine λV0 e6=>?_;obtain⟨H4,s4,e5,i4⟩:=nH (o:=.dK []) e6
  try rw[i4]
  have W:=f9.trans s4;refine mE _ rfl _ rfl p dx l ad tl ln o F 1000 (mh m ak x (szE L x) (λ_=>True) _ rfl (W _ _ hp) (W _ _ hl) (W _ _ f6) (ar.same W) (by lia) g4 (ip la d4 (iF (iF (iF a0 s2) s3) s4) λD0 bk H5 b4 s5 M wn=>?_));have h6:=W.trans s5;have i0:=s5 _ _ e5;have VD:V0≠D0:=λz=>by subst z;rw[e5]at b4;cases b4
  have i1:=Paired.length wn;refine⟨.inr (.inr (.inl ⟨rfl,.inl ⟨_,M⟩⟩)),(ij D0 _ rfl rfl M (.inl ⟨_,rfl⟩) λvw f4=>?_)⟩;have av:D0≠vw:=ga M f4;refine gD vw D0 _ rfl ee (by rw[dF av];exact M) (.inl (al bk rfl λo1=>?_));obtain⟨Gf,hGf⟩:∃Gf,Gf=upd (upd H5 vw (ju vw D0)) D0 (.frz o1 (.dK bk)):=⟨_,rfl⟩;rw[<-hGf];have fz:Gf D0=some (.frz o1 (.dK bk)):=by rw[hGf];exact ee
  have R:∀{b:zW}{u:HO},b≠D0->H5 b=some u->Gf b=some u:=λn e=>by rw[hGf,dF n,dF (ga e f4)];exact e
  have a7:=R VD i0;have c6:KT H5 Gf:=λb xs e=>R (gg e M (by intro z;cases z)) e;have b0:A3t P w [true,false] Gf FD kf:=(iF (iF (iF e8 s3) s4) s5).keeps (λu z=>R (λq=>by subst q;obtain⟨_,e,_⟩:=iF (iF (iF e8 s3) s4) s5;rw[M]at e;cases e) z) c6;have c7:A3t P w [true,false] Gf LD kl:=(iF (iF d8 s4) s5).keeps (λu z=>R (λq=>by subst q;obtain⟨_,e,_⟩:=iF (iF d8 s4) s5;rw[M]at e;cases e) z) c6;have f5:∀{G:Hp}{a:zW}{kv:List (fZ×V)}{J:zJ},A3t P w [true,false] G a kv->G V0=some (.dK J)->a≠V0:=λnd hv z=>by subst z;obtain⟨_,e,_⟩:=nd;rw[hv]at e;cases e
  refine qO (L:=bk.map λq=>(kV q.1,q.2)) (λi Z G=>∃(o6 o7 o8:zP)(J:zJ),Z=[Sro p,Sro sl,Sro F,Sro FD,Sro LD,Sro V0,o6,o7,o8]/\KB V0 Gf G/\G V0=some (.dK J)/\J.map (·.1)=(bk.take i).map (·.1)/\mK G (ii f I) (kg m L x f B (wkF m L x f B) I) (iR (wkF m L x f B) (szE L x)) J (x.take i))
   (iI none none none [] rfl KB.refl a7 rfl .nil) (by (rintro i Z G zz;refine jp zz ?_;clear zz;rintro _ _ _ ⟨_,_,kb,_⟩);exact kb _ _ VD.symm fz) ?_ ?_
  ·rintro i kx vx qq Z G hx hq zz;refine jd zz ?_;clear zz;rintro o6 o7 o8 J rfl kb hV ks a2;rw[gP]at hx;obtain⟨⟨k',v⟩,hk,e⟩:=lI.mp hx;cases e;refine pw (hE wn hk) ?_;rintro e he ek ⟨b,rfl,_,cb⟩;have ek:k'=Sum.inr e.1:=ek;subst ek;have em:=gT he;obtain⟨ps,hb,tp⟩:=cb.ex;have i5:=tp.len;have h7:=uK (wkF m L x f B) (szE L x) e.1
   have lw:(iR (wkF m L x f B) (szE L x) e.1).length<=4000:=by
    unfold iR;have h1:=List.length_filter_le (λc=>(fy (wkF m L x f B) (nk (e.1,c))).isSome) (gl (szE L x e.1));have h2:=(d4 e em).2.len
    lia
   have sq:A0j G (upd G qq (.tup [kV (Sum.inr e.1),.ref b])):=fx hq;have d9:upd G qq (.tup [kV (Sum.inr e.1),.ref b]) qq=some (.tup [.str e.1,.ref b]):=ee;generalize upd G qq (.tup [kV (Sum.inr e.1),.ref b])=G1 at sq d9;have f7:=kb.trans (KB.of sq);have c9:=sq _ _ hV;refine jJ qq _ rfl (SqT.of d9) rfl _ _ rfl _ _ rfl rfl ?_;refine λIB X=>?_;have N:A0j G1 (upd G1 IB (.dT [])):=fx X;have f3:upd G1 IB (.dT []) IB=some (.dT []):=ee;have IV:IB≠V0:=(ga c9 X).symm;generalize upd G1 IB (.dT [])=G2 at N f3;have b5:=N _ _ c9;have j5:J.length=(bk.take i).length:=by have:=congrArg List.length ks;simpa using this
   have j2:(bk.take i).length<=bk.length:=by rw[iP];lia
   refine ie _ rfl _ rfl V0 _ rfl (C3j.k (k:=Sum.inr e.1) b5 (gQ (by lia))) ?_
   have d7:(bk.map (·.1)).Nodup:=by
    have:bk.map (·.1)=x.map λe=>(Sum.inr e.1:Key):=by
     have c0:∀{a:zJ}{c:zB},rj H4 H5 (wkF m L x f B) (szE L x) a c->a.map (·.1)=c.map λe=>(Sum.inr e.1:Key):=λh=>by
      unfold rj at h
      induction h with
      |nil=>rfl
      |cons r _ ih=>rw[gw,gw,ih,r.1]
     exact c0 wn
    rw[this,show(x.map λe=>(Sum.inr e.1:Key))=(x.map (·.1)).map Sum.inr by rw[List.map_map];rfl];exact List.Pairwise.map _ (λa b h z=>h (Sum.inr.inj z)) O.eo.nd
   rw[qA d7 hk J ks (.ref IB)];have a3:KB V0 Gf (upd G2 V0 (.dK (J++[(Sum.inr e.1,.ref IB)]))):=(f7.trans (KB.of N)).upd;have c5:upd G2 V0 (.dK (J++[(Sum.inr e.1,.ref IB)])) V0=some (.dK (J++[(Sum.inr e.1,.ref IB)])):=ee;have S:upd G2 V0 (.dK (J++[(Sum.inr e.1,.ref IB)])) IB=some (.dT []):=by rw[dF IV];exact f3
   have a9:mK (upd G2 V0 (.dK (J++[(Sum.inr e.1,.ref IB)]))) (ii f I) (kg m L x f B (wkF m L x f B) I) (iR (wkF m L x f B) (szE L x)) J (x.take i)/\∀q∈J,q.2≠.ref IB:=by
    refine⟨Paired.mapP a2 λ_ _ z=>⟨z.1,z.2.keep (λb tk h _=>?_) λb xs h=>?_⟩,λq hq z=>?_⟩
    ·rw[dF (gg (N _ _ (sq _ _ h)) b5 (by intro z;cases z))];exact N _ _ (sq _ _ h)
    ·rw[dF (gg (N _ _ (sq _ _ h)) b5 (by intro z;cases z))];exact N _ _ (sq _ _ h)
    ·obtain⟨j,hj⟩:=List.getElem?_of_mem hq;refine pw (hE a2 hj) ?_;rintro _ _ _ ⟨b',i8,e1,e2,_⟩;rw[z]at e1;cases e1;rw[sq _ _ e2]at X;cases X
   generalize upd G2 V0 (.dK (J++[(Sum.inr e.1,.ref IB)]))=G3 at a3 c5 S a9;obtain⟨a9,i6⟩:=a9;have e4:=R (gg hb M (by intro z;cases z)) hb;have c2:=a3 _ _ (gg e4 a7 (by intro z;cases z)) e4;have h9:b≠IB:=gg c2 S (by intro z;cases z);refine jm _ rfl b rfl ⟨_,SqL.of c2⟩ ?_
   refine kz (K:=K) (a:=b) (xs:=ps.map V.ref) (λj Z G4=>∃(o8:zP)(tk:List (List Key×V)),Z=[Sro p,Sro sl,Sro F,Sro FD,Sro LD,Sro V0,Sso e.1,Sro b,o8]/\KB IB G3 G4/\G4 IB=some (.dT tk)/\C8z G4 (ii f I) (kg m L x f B (wkF m L x f B) I) e.1 tk ((iR (wkF m L x f B) (szE L x) e.1).take j))
    (im _ [] rfl KB.refl S .nil) (by rintro j Z G4 _ ⟨_,_,_,D,_⟩;exact SqL.of (D _ _ h9 c2)) ?_ ?_
   ·rintro j y Z G4 hy ⟨o8,tk,rfl,D,c4,Y⟩;obtain⟨pc,d3,rfl⟩:=md hy;obtain⟨c,hc,i7⟩:=tp.get d3;have hj:j<ps.length:=(gG.mp d3).1;have a6:∀{G':Hp},KB IB G3 G'->KT G3 G':=λi2 b xs z=>i2 _ _ (gg z S (by intro z;cases z)) z;have d5:KT Gf G3:=λb xs z=>a3 _ _ (gg z a7 (by intro z;cases z)) z;have a1:G4 pc=some (.tup (c.map V.int)):=a6 D _ _ (d5 _ _ (c6 _ _ i7))
    have c1:∀{a:zW}{kv:List (fZ×V)},A3t P w [true,false] Gf a kv->A3t P w [true,false] G4 a kv:=λnd=>by have n3:A3t P w [true,false] G3 _ _:=nd.keeps (λu z=>a3 _ _ (f5 nd a7) z) d5;refine n3.keeps (λu z=>D _ _ (λq=>?_) z) (a6 D);subst q;obtain⟨_,e,_⟩:=n3;rw[S]at e;cases e
    have wm:InW (wkF m L x f B) (e.1,c):=by have hm:=gT hc;unfold iR at hm;exact(List.mem_filter.mp hm).2
    obtain⟨jl,g8⟩:=uZ g1 wm;refine fV _ rfl (jn FD _ _ rfl (c1 b0)) (jm _ rfl _ rfl (gj rfl) λb1 g3=>?_);have U:A0j G4 (upd G4 b1 (.tup [.str e.1,.ref pc])):=fx g3;have f8:A1w (upd G4 b1 (.tup [.str e.1,.ref pc])) (nk (e.1,c)) b1:=oz ee (by rw[List.map_map];exact U _ _ a1);generalize upd G4 b1 (.tup [.str e.1,.ref pc])=G5 at U f8;refine mF FD b1 _ _ (nk (e.1,c)) _ (jv _ rfl ⟨rfl,rfl,iF (c1 b0) U,f8,rfl⟩ _ rfl (jm _ rfl _ rfl (gj rfl) λb2 g9=>?_));have a8:A0j G5 (upd G5 b2 (.tup [.str e.1,.ref pc])):=fx g9;have e7:A1w (upd G5 b2 (.tup [.str e.1,.ref pc])) (nk (e.1,c)) b2:=oz ee (by rw[List.map_map];exact a8 _ _ (U _ _ a1));generalize upd G5 b2 (.tup [.str e.1,.ref pc])=G6 at a8 e7;have d0:=U.trans a8
    have g2:fy kl (nk (e.1,c))=some (.int (kg m L x f B (wkF m L x f B) I (e.1,c))):=by rw[vl (e.1,c)];unfold kg;rw[g8];rfl
    have h8:(fy kf (nk (e.1,c))).getD (.int 0)=.int (ii f I (e.1,c)):=by rw[vf (e.1,c)];unfold ii;cases FI (wrA f I (e.1,c)) I.length<;>rfl
    refine jQ LD b2 _ (gD _ (nk (e.1,c)) _ ⟨rfl,rfl,iF (iF (c1 c7) U) a8,e7,rfl⟩ g2 (gj rfl) λq hq=>?_);rw[h8];have d2:A0j G6 (upd G6 q (.tup [.int (ii f I (e.1,c)),.int (kg m L x f B (wkF m L x f B) I (e.1,c))])):=fx hq;have b3:upd G6 q (.tup [.int (ii f I (e.1,c)),.int (kg m L x f B (wkF m L x f B) I (e.1,c))]) q=some (.tup [.int (ii f I (e.1,c)),.int (kg m L x f B (wkF m L x f B) I (e.1,c))]):=ee;generalize upd G6 q (.tup [.int (ii f I (e.1,c)),.int (kg m L x f B (wkF m L x f B) I (e.1,c))])=G7 at d2 b3;have a4:=d0.trans d2;have h0:G7 V0=some (.dK (J++[(Sum.inr e.1,.ref IB)])):=a4 _ _ (D _ _ IV.symm c5)
    have gV:A6z G7 V0 (.str e.1) (some (.ref IB)):=by
     have g:=A6z.k (H:=G7) (a:=V0) (k:=Sum.inr e.1) h0
     have b6:(Sum.inr e.1:Key)∉J.map (·.1):=by
      rw[ks];intro z;have h1:((bk.map (·.1)))[i]?=some (Sum.inr e.1):=by rw[gP,hk];rfl
      rw[List.map_take]at z;exact pd d7 h1 z
     rw[vn _ _ _ _ (uY b6),fW rfl]at g;exact g
    have e0:=a4 _ _ c4;refine ie _ rfl _ rfl V0 _ rfl gV (gr _ rfl IB _ rfl (C3j.t (k:=iB c) e0 (by rw[List.map_map];exact a4 _ _ a1) (gQ (by have:=congrArg List.length Y.keys;rw[eH,eH,iP]at this;lia))) ?_);have b8:KT G7 (upd G7 IB (.dT (gC tk (iB c) (.ref q)))):=KT.at e0 (by intro xs z;cases z);have g0:c∉(iR (wkF m L x f B) (szE L x) e.1).take j:=pd h7 hc
    have e9:fy tk (iB c)=none:=by
     cases hv:fy tk (iB c)with
     |none=>rfl
     |some v=>obtain⟨p',g5,ep⟩:=List.any_eq_true.mp (show(tk.any λkv=>decide (kv.1=iB c))=true by rw[oW,hv];rfl);have hm:iB c∈tk.map (·.1):=gm.mpr (al p' g5 (of_decide_eq_true ep));rw[Y.keys]at hm;obtain⟨c',h5,ec⟩:=gm.mp hm;exact absurd (by rw[<-sN ec];exact h5) g0
    rw[nI _ e9]at b8;rw[nI _ e9];refine im _ _ rfl ((D.trans (KB.of a4)).upd) ee ?_;rw[gR,hc,jG];exact jL ((Y.kt (KT.same a4)).kt b8) (.cons (gF rfl q rfl (b8 _ _ b3)) .nil)
   ·rintro Z G4 ⟨o8,tk,rfl,D,c4,Y⟩;rw[eH,i5,hQ]at Y;have a6:KT G3 G4:=λb xs z=>D _ _ (gg z S (by intro z;cases z)) z;refine iI _ _ _ (J++[(Sum.inr e.1,.ref IB)]) rfl (λb u n z=>?_) (D _ _ IV.symm c5) ?_ ?_
    ·have h3:=a3 _ _ n z;exact D _ _ (λq=>by subst q;rw[f7 _ _ n z]at X;cases X) h3
    ·rw[gB,ks,gR,hk,gB];rfl
    ·rw[gR,he];refine jL ?_ (.cons (iU rfl IB tk rfl c4 Y) .nil)
     have c0:∀{a:zJ}{d:zB},mK G3 (ii f I) (kg m L x f B (wkF m L x f B) I) (iR (wkF m L x f B) (szE L x)) a d->(∀q∈a,q.2≠.ref IB)->mK G4 (ii f I) (kg m L x f B (wkF m L x f B) I) (iR (wkF m L x f B) (szE L x)) a d:=λh hq=>by
      unfold mK at h⊢
      induction h with
      |nil=>exact .nil
      |cons r _ ih=>refine .cons ⟨r.1,r.2.keep (λb i8 h1 h2=>D _ _ (λq=>hq _ (.head _) (by rw[h2,q])) h1) a6⟩ (ih λq i3=>hq q (.tail _ i3))
     exact c0 a9 i6
  ·rintro Z G zz;refine jd zz ?_;clear zz;rintro o6 o7 o8 J rfl kb hV ks a2;rw[eH,i1,hQ]at a2;have b9:=kb _ _ VD.symm fz;have D0H:H D0=none:=W.free b4;have V0H:H V0=none:=f9.free e6;refine jn D0 o1 _ b9 (iw (.inl ⟨_,rfl⟩) (λo' u' z=>by have z:H D0=some (.frz o' u'):=z;rw[D0H]at z;cases z) _ rfl ?_);refine k V0 J _ V0H (λb u z=>?_) (by rw[dF VD];exact hV) (Paired.mapP a2 λ_ _ z=>⟨z.1,z.2.keep (λb tk h _=>by rw[dF (gg h b9 (by intro z;cases z))];exact h) λb xs h=>by rw[dF (gg h b9 (by intro z;cases z))];exact h⟩);rw[dF (ga z D0H)];exact kb _ _ (ga z V0H) (R (ga z D0H) (h6 _ _ z))
def pJ(lk:zJ)(rows:List LnM)(b ss:List Stp):Prop:=∀(i:Nat)(s:Stp),ss[i]?=some s->∀r∈rdS lk rows s,∀a∈b,wrS rows a=r->a∈ss.take i
theorem oV(h:ss[j]?=some s):wrA rows ss r j=true↔wrS rows s=r:=by unfold wrA;rw[h];simp
theorem oH{p:Nat->Bool}:∀{n j:Nat},FI p n=some j->j<n/\p j=true/\∀m,m<j->¬p m=true
 |n+1,j,h=>by
  have h:(match FI p n with|some j=>some j|none=>if p n=true then some n else none)=some j:=h
  cases e:FI p n with
  |some j'=>rw[e]at h;cases h;obtain⟨i,f,g⟩:=oH e;exact fY (by lia) f g
  |none=>
   rw[e]at h;have h:(if p n=true then some n else none)=some j:=h;by_cases hp:p n=true
   ·rw[fW hp]at h;cases h;refine fY (by lia) hp λm d a=>?_
    have c:∀k,FI p k=none->∀m,m<k->¬p m=true:=λk=>by
     induction k with
     |zero=>intro _ m d;lia
     |succ k ih=>
      intro b m d a;have b:(match FI p k with|some j=>some j|none=>if p k=true then some k else none)=none:=b
      cases e':FI p k with
      |some j'=>rw[e']at b;cases b
      |none=>
       rw[e']at b;have b:(if p k=true then some k else none)=none:=b;rcases Nat.lt_or_ge m k with z|z
       ·exact ih e' m z a
       ·have:m=k:=by lia
        subst this;rw[fW a]at b;cases b
    exact c _ e m d a
   ·rw[ej hp]at h;cases h
theorem um{p:Nat->Bool}:∀{n j:Nat},LI p n=some j->j<n/\p j=true
 |n+1,j,h=>by
  have h:(if p n=true then some n else LI p n)=some j:=h;split at h
  ·cases h
   exact⟨by lia,by assumption⟩
  ·obtain⟨b,a⟩:=um h;exact⟨by lia,a⟩
theorem sr(k:∀s∈iu (rows.map (iq L)) rows.length,s∈ss)(n:∀s∈ss,s∈iu (rows.map (iq L)) rows.length)(t:pJ lk rows (iu (rows.map (iq L)) rows.length) ss)(h:InW (wkF lk L es rows os) r):
  0<=ii rows ss r/\ii rows ss r<=kg lk L es rows os (wkF lk L es rows os) ss r/\kg lk L es rows os (wkF lk L es rows os) ss r<=(ss.length:Int):=by
 obtain⟨j,b⟩:=uZ k h;have y:kg lk L es rows os (wkF lk L es rows os) ss r=(j:Int):=by unfold kg;rw[b];rfl
 rw[y];unfold nW at b;have o:∀i,FI (wrA rows ss r) ss.length=some i->ii rows ss r=(i:Int)+1:=λi g=>by unfold ii;rw[g];rfl
 have p:FI (wrA rows ss r) ss.length=none->ii rows ss r=0:=λg=>by unfold ii;rw[g];rfl
 by_cases m:r∈ja (szE L es) os
 ·rw[fW m]at b;cases b
  cases hF:FI (wrA rows ss r) ss.length with
  |none=>rw[p hF];lia
  |some i=>
   have:=(oH hF).1;rw[o i hF]
   lia
 ·rw[ej m]at b;obtain⟨u,c⟩:=um b
  cases hF:FI (wrA rows ss r) ss.length with
  |none=>rw[p hF];lia
  |some i=>
   obtain⟨x,w,A⟩:=oH hF;rw[o i hF];have d:ss[j]?=some ss[j]:=hB u;have e:ss[i]?=some ss[i]:=hB x;unfold rdA at c;rw[d]at c;have c:((fy (wkF lk L es rows os) (nk (wrS rows ss[j]))).isSome&&decide (r∈rdS lk rows ss[j]))=true:=c;have v:r∈rdS lk rows ss[j]:=of_decide_eq_true (Bool.and_eq_true_iff.mp c).2;have q:=(oV e).mp w;have B:=t j _ d r v _ (n _ (gT e)) q;obtain⟨f,a⟩:=List.getElem?_of_mem B;have l:f<j:=by have:=(gG.mp a).1;rw[iP]at this;lia
   rw[List.getElem?_take_of_lt l]at a;have:¬f<i:=λz=>A f z ((oV a).mpr q)
   lia
def jH(f g:Str×List Int->Int)(i:Int)(r:Str×List Int):Bool:=decide (f r<=i)&&decide (i<=g r)
def pB(f g:Str×List Int->Int)(rs:List (Str×List Int))(i:Nat):Int:=((rs.filter (jH f g i)).length:Int)
theorem uN:∀{l:zI}{a n:Nat}{x d:Int},l[a]?=some x->((l.set a (x+d)).take n).sum=(l.take n).sum+if a<n then d else 0
 | [],_,_,_,_,h=>by simp at h
 |y::r,0,n,x,d,h=>by
  simp at h;subst h
  cases n with
  |zero=>simp
  |succ n=>
   rw[List.set_cons_zero,List.take_succ_cons,List.take_succ_cons,List.sum_cons,List.sum_cons,fW (by lia)]
   lia
 |y::r,a+1,n,x,d,h=>by
  cases n with
  |zero=>simp
  |succ n=>
   have b:=uN (l:=r) (a:=a) (n:=n) (x:=x) (d:=d) (by simpa using h);rw[List.set_cons_succ,List.take_succ_cons,List.take_succ_cons,List.sum_cons,List.sum_cons,b];by_cases z:a<n
   ·rw[fW z,fW (by lia)];lia
   ·rw[ej z,ej (by lia)];lia
structure D5s(E:Nat)(f g:Str×List Int->Int)(ch:zI)(rs:List (Str×List Int)):Prop where
 len:ch.length=E+2
 sum:∀i:Nat,i<=E->(ch.take (i+1)).sum=pB f g rs i
theorem DI(E:Nat)(f g:Str×List Int->Int):D5s E f g (List.replicate (E+2) 0) []:=by
 refine⟨List.length_replicate,λi _=>?_⟩;rw[List.take_replicate];show _=((0:Nat):Int);generalize min (i+1) (E+2)=m
 induction m with
 |zero=>rfl
 |succ m ih=>rw[List.replicate_succ,List.sum_cons,ih];rfl
theorem D5s.step{E:Nat}{f:Str×List Int->Int}{ch:zI}(h:D5s E f g ch rs)(m:0<=f r)(h1:f r<=g r)(h2:g r<=(E:Int)):
  ∃x y:Int,ch[(f r).toNat]?=some x/\(ch.set (f r).toNat (x+1))[(g r+1).toNat]?=some y/\D5s E f g ((ch.set (f r).toNat (x+1)).set (g r+1).toNat (y-1)) (rs++[r]):=by
 have l:=h.len;have b:ch[(f r).toNat]?=some (ch[(f r).toNat]'(by lia)):=hB _;have a:(ch.set (f r).toNat (ch[(f r).toNat]'(by lia)+1))[(g r+1).toNat]?=some ((ch.set (f r).toNat (ch[(f r).toNat]'(by lia)+1))[(g r+1).toNat]'(by rw[List.length_set];lia)):=hB _;refine el _ _ b a ⟨by rw[List.length_set,List.length_set];exact l,λi j=>?_⟩;have k:=uN (n:=i+1) (d:=1) b;have c:=uN (n:=i+1) (d:= -1) a;rw[show∀z:Int,z-1=z+ -1 from λ_=>rfl,c,k,h.sum i j];unfold pB;rw[List.filter_append,gz]
 have e:([r].filter (jH f g i)).length=if f r<=(i:Int)/\(i:Int)<=g r then 1 else 0:=by
  by_cases z:f r<=(i:Int)/\(i:Int)<=g r
  ·rw[fW z,uf (f:=jH f g i) (by unfold jH;rw[iW z.1,iW z.2];rfl)];rfl
  ·rw[ej z,ue (f:=jH f g i) (λy=>z (by unfold jH at y;rw[nS]at y;exact⟨of_decide_eq_true y.1,of_decide_eq_true y.2⟩))];rfl
 rw[e];split<;>split<;>split<;>lia
inductive An(vs:zM)(H:Hp)(Q:VK):Prop|mk (q:zW) (f g i:Int) (_:vs=[.ref q,.int i]) (_:H q=some (.tup [.int f,.int g])) (_:Q (.bl (decide (f<=i)&&decide (i<=g))) H):An vs H Q
def Ft:Sp:=λa H Q _=>An a H Q
abbrev lK(f g:Str×List Int->Int)(rs:List (Str×List Int))(E:Nat):zI:=(List.range (E+1)).map λi=>pB f g rs i
inductive wG(vs:zM)(H:Hp)(Q:VK):Prop
 |mk (V0:zW) (E:Nat) (f g:Str×List Int->Int) (W:Str->List zI) (dk:zJ) (es:zB) (_:vs=[.ref V0,.int (E:Nat)]) (_:E<=20000) (_:H V0=some (.dK dk)) (_:mK H f g W dk es) (_:∀r∈gu W es,0<=f r/\f r<=g r/\g r<=(E:Int))
  (_:∀(NL:zW)(H':Hp),H NL=none->A0j H H'->H' NL=some (.lst ((lK f g (gu W es) E).map V.int))->Q (.ref NL) H'):wG vs H Q
def AY:Sp:=λa H Q _=>wG a H Q
theorem GP(T:Txt K mg t):FO P w base T.cD 1 Ft:=by
 refine T.cD.F.ok vA λ_ A _ s H _ Q E b h=>?_
 ·obtain⟨q,f,g,i,rfl,a,k⟩:=h;refine rsq (fa ⟨lM (pv 0) (jV (n:=2) rfl (gK (gc (i:=2) vA.nd) (gK (gc (i:=3) vA.nd) jD)))⟩ (fC (gq (Eg wr wr (pv 2) (pv 1) (pv 3))))) ?_;refine al _ rfl (jJ q _ rfl (SqT.of a) rfl _ _ rfl _ _ rfl rfl ?_);refine ie _ rfl _ rfl _ _ rfl rfl (al _ rfl (iX (λh=>?_) (λh=>?_)))
  ·refine gr _ rfl _ _ rfl rfl ?_;have h:f<=i:=h;rw[iW h,Bool.true_and]at k;exact k
  ·have h:¬f<=i:=h;rw[kj h,Bool.false_and]at k;exact k
theorem Jf(T:Txt K mg t):FO P w base T.aW 1 AY:=by
 refine T.aW.F.ok nM λ_ A _ s H _ Q E hr h=>?_
 ·obtain⟨V0,En,f,g,W,N,es,rfl,e3,Y,lv,d4,k⟩:=h;have d6:=Paired.length lv;refine rsq (fa (gx 2 nM.nd (gn CF (@hY _ _ _ _ (dV gh eg)) (gn jW (pv 1) gh))) (fa (iA (Fu (nD PySem.F.plainAttrs_dict PySem.F.slot_dict_values PySem.F.type_dict_values Gi (pv 0))) (gc (i:=3) nM.nd) (fa (iA (GR (nD PySem.F.plainAttrs_dict PySem.F.slot_dict_values PySem.F.type_dict_values Ho (pv 3))) (jV (n:=2) rfl (gK (gc (i:=4) nM.nd) (gK (gc (i:=5) nM.nd) jD))) (fa ⟨lM (gn jW (jM ku (pv 2) (pv 4)) gh) (n7 (pv 2) (pv 4) va)⟩ (fC ⟨lM (gn rP (jM ku (pv 2) (gn jW (pv 5) gh)) gh) (n7 (pv 2) (gn jW (pv 5) gh) va)⟩))) ⟨vj gW⟩)) ⟨@u6 _ _ _ (@jO _ _ _ _ _ (@mS _ _ 6 _ _ _ _ nM.nd rfl (.inl rfl) (@hY _ _ _ _ eg) rfl (.inl rfl)) (@jO _ _ _ _ _ (@mS _ _ 7 _ _ _ _ nM.nd rfl (.inl rfl) gh rfl (.inl rfl)) (@jO _ _ _ _ _ (oR PassesOwn.never rfl (jc (mz mT (pv 2) oU (kH (gn jW (pv 1) gh)))) (gc (i:=8) nM.nd) (@jO _ _ _ _ _ (@mS _ _ 7 _ _ _ _ nM.nd rfl (.inl rfl) (gn jW (pv 7) (pv 8)) rfl (.inl rfl)) (@jN _ _ _ (jI (jC jA kZ kY kU (pv 6) (fX 7)))))) (@jN _ _ _ (@ms _ _ _ _ (pv 6))))))⟩)) ?_;refine⟨gj rfl,λl0 c4=>?_⟩;obtain⟨H1,s1,h1,a4⟩:=nH (o:=.lst [.int 0]) c4
  try rw[a4]
  refine gr _ rfl _ _ rfl rfl (nj l0 _ _ rfl rfl h1 (by lia) (by lia) ⟨?_,λCL c1=>?_⟩)
  ·rw[show((En:Int)+2).toNat=En+2 by lia];exact iS (by simp;lia)
  rw[show((En:Int)+2).toNat=En+2 by lia,List.flatten_replicate_singleton];have er:List.replicate (En+2) (V.int 0)=(List.replicate (En+2) (0:Int)).map V.int:=by rw[List.map_replicate]
  rw[er];have c2:=DI En f g;generalize List.replicate (En+2) (0:Int)=c0 at c2;obtain⟨H2,s2,c9,a4⟩:=nH (o:=.lst (c0.map V.int)) c1
  try rw[a4]
  have a9:=s1.trans s2;have M:=a9 _ _ Y;have b6:H CL=none:=s1.free c1;refine fV _ rfl (.inr (.inr (.inl ⟨rfl,.inl ⟨_,M⟩⟩))) (im V0 N rfl rfl M λpv a8=>?_);have Vp:V0≠pv:=ga M a8;refine gD pv V0 N rfl ee (by rw[dF Vp];exact M) λob=>?_;obtain⟨Gf,hGf⟩:∃Gf,Gf=upd (upd H2 pv (mP pv V0)) V0 (.frz ob (.dK N)):=⟨_,rfl⟩;rw[<-hGf];have fz:Gf V0=some (.frz ob (.dK N)):=by rw[hGf];exact ee
  have b3:∀{b:zW}{u:HO},b≠V0->H2 b=some u->Gf b=some u:=λn e=>by rw[hGf,dF n,dF (ga e a8)];exact e
  have CV:CL≠V0:=λz=>by subst z;rw[b6]at Y;cases Y
  have nC:∀{b:zW}{u:HO},H b=some u->b≠CL:=λe=>ga e b6;have up:∀{b:zW}{u:HO},b≠V0->H b=some u->Gf b=some u:=λn e=>b3 n (a9 _ _ e);have d2:∀o' u',H V0≠some (.frz o' u'):=λo' u' z=>by rw[Y]at z;cases z
  refine GE (a:=V0) (o:=ob) (kvs:=N) (λi Z G=>∃(o3 X S:zP)(d:zI),Z=[Sro V0,Sio (En:Nat),Sro CL,o3,X,S,none,none,none]/\KB CL Gf G/\G CL=some (.lst (d.map V.int))/\D5s En f g d (gu W (es.take i)))
   ⟨none,(gD none none c0 rfl KB.refl (b3 CV c9) c2)⟩ (by (rintro i Z G r;refine jp r ?_;clear r;rintro _ _ _ ⟨_,_,p,_⟩);exact p _ _ CV.symm fz) ?_ ?_
  ·rintro i kk v Z G d3 r;refine jp r ?_;clear r;rintro o3 X S ⟨d,rfl,p,hC,D⟩;refine pw (hE lv d3) ?_;rintro e he _ ⟨b,tk,ev,I,lc⟩;have ev:v=.ref b:=ev;subst ev;have bV:b≠V0:=gg I Y (by intro z;cases z);have L:=p _ _ (nC I) (up bV I);have d1:=Paired.length lc;refine fV _ rfl (.inr (.inr (.inl ⟨rfl,.inr ⟨_,L⟩⟩))) (im b _ rfl rfl (.inr (al tk (.inl L) rfl)) λp2 b5=>?_);have bp:b≠p2:=ga L b5;refine gD p2 b tk rfl ee (by rw[dF bp];exact L) λO=>?_;obtain⟨Gg,hGg⟩:∃Gg,Gg=upd (upd G p2 (mP p2 b)) b (.frz O (.dT tk)):=⟨_,rfl⟩;rw[<-hGg];have c3:Gg b=some (.frz O (.dT tk)):=by rw[hGg];exact ee
   have a7:∀{c:zW}{u:HO},c≠b->G c=some u->Gg c=some u:=λn e=>by rw[hGg,dF n,dF (ga e b5)];exact e
   have bC:b≠CL:=nC I
   refine Hw (a:=b) (o:=O) (kvs:=tk) (λj Z U=>∃(X S:zP)(d:zI),Z=[Sro V0,Sio (En:Nat),Sro CL,Sro b,X,S,none,none,none]/\KB CL Gg U/\U CL=some (.lst (d.map V.int))/\D5s En f g d (gu W (es.take i)++((W e.1).take j).map λc=>(e.1,c)))
    (gD _ _ d rfl KB.refl (a7 bC.symm hC) (by simpa using D)) (by rintro j Z U ⟨_,_,_,_,m,_⟩;exact m _ _ bC c3) ?_ ?_
   ·rintro j k2 v2 Z U d9 r;refine gE r ?_;clear r;rintro X S d rfl m B l;obtain⟨c,hc,_,q,a5,hq⟩:=hE lc d9;have a5:v2=.ref q:=a5;subst a5;have c5:q≠V0:=gg hq Y (by intro z;cases z);have d5:q≠b:=gg hq I (by intro z;cases z);have b4:=m _ _ (nC hq) (a7 d5 (p _ _ (nC hq) (up c5 hq)));have rm:(e.1,c)∈gu W es:=qB.mpr ⟨List.mem_map_of_mem (f:=(·.1)) (gT he),gT hc⟩;obtain⟨b0,b1,b2⟩:=d4 _ rm;obtain⟨x,y,hx,hy,J⟩:=l.step b0 b1 b2;have c7:=l.len;obtain⟨n1,hn1⟩:∃n:Nat,f (e.1,c)=(n:Int):=⟨(f (e.1,c)).toNat,by lia⟩;obtain⟨n2,hn2⟩:∃n:Nat,g (e.1,c)=(n:Int):=⟨(g (e.1,c)).toNat,by lia⟩;have e1:(f (e.1,c)).toNat=n1:=by lia
    have e2:(g (e.1,c)+1).toNat=n2+1:=by lia
    rw[e1]at hx hy J;rw[e2]at hy J;rw[hn1,hn2]at b4;rw[hn1]at b1;rw[hn2]at b1 b2;refine jJ q _ rfl (SqT.of b4) rfl _ _ rfl _ _ rfl rfl ?_;have a1:atI (d.map V.int) (n1:Int)=some (.int x):=hH (by rw[gP,hx];rfl)
    have d8:ixN (d.map V.int).length (n1:Int)=some n1:=by unfold ixN;rw[fW (by lia),fW (by rw[eH];lia),Int.toNat_natCast]
    refine al _ rfl (ic _ rfl CL _ _ _ rfl rfl (SqL.of B) a1 ⟨_,(jv _ rfl rfl _ rfl (ic _ rfl CL _ _ n1 rfl rfl B d8 ?_))⟩);rw[show(d.map V.int).set n1 (V.int (x+1))=(d.set n1 (x+1)).map V.int from (List.map_set).symm];have C:upd U CL (.lst ((d.set n1 (x+1)).map V.int)) CL=some (.lst ((d.set n1 (x+1)).map V.int)):=ee;have b7:KB CL Gg (upd U CL (.lst ((d.set n1 (x+1)).map V.int))):=m.upd;generalize upd U CL (.lst ((d.set n1 (x+1)).map V.int))=G3 at C b7;have ei:(n2:Int)+1=((n2+1:Nat):Int):=by lia
    have a2:atI ((d.set n1 (x+1)).map V.int) ((n2:Int)+1)=some (.int y):=by rw[ei];exact hH (by rw[gP,hy];rfl)
    have d0:ixN ((d.set n1 (x+1)).map V.int).length ((n2:Int)+1)=some (n2+1):=by unfold ixN;rw[ei,fW (by lia),fW (by rw[eH,List.length_set];lia),Int.toNat_natCast]
    refine ie _ rfl _ rfl _ _ rfl rfl (iI CL _ _ _ rfl rfl (SqL.of C) a2 (el _ _ rfl rfl (ie _ rfl _ rfl _ _ rfl rfl (iI CL _ _ (n2+1) rfl rfl C d0 ?_))));rw[show((d.set n1 (x+1)).map V.int).set (n2+1) (V.int (y-1))=((d.set n1 (x+1)).set (n2+1) (y-1)).map V.int from (List.map_set).symm];refine gD _ _ _ rfl b7.upd ee ?_;rw[gR,hc,jG,gB,<-lH];exact J
   ·rintro Z U r;refine gE r ?_;clear r;rintro X S d rfl m B l;rw[d1,hQ]at l;have R:=m _ _ bC c3;refine jF b O _ R (λo' u' z=>by have z:H b=some (.frz o' u'):=z;rw[I]at z;cases z) ?_;refine⟨_,(gD _ _ d rfl (λc u hc z=>?_) (by rw[dF bC.symm];exact B) ?_)⟩
    ·by_cases hcb:c=b
     ·subst hcb;rw[up bV I]at z;cases z;exact ee
     ·rw[dF hcb];exact m _ _ hc (a7 hcb (p _ _ hc z))
    ·rw[gR,he,jG];unfold gu at l⊢;rw[List.flatMap_append,List.flatMap_singleton];exact l
  rintro Z G r;refine jp r ?_;clear r;rintro o3 X S ⟨d,rfl,p,hC,D⟩;rw[d6,hQ]at D;have R:=p _ _ CV.symm fz;refine jF V0 ob N R d2 ?_
  have sG:A0j H (upd G V0 (.dK N)):=λb u e=>by
   by_cases I:b=V0
   ·subst I;rw[Y]at e;cases e;exact ee
   ·rw[dF I];exact p _ _ (nC e) (up I e)
  have C:upd G V0 (.dK N) CL=some (.lst (d.map V.int)):=by rw[dF CV];exact hC
  generalize upd G V0 (.dK N)=G1 at sG C;clear p hC R;have c7:=D.len;refine⟨gj rfl,λNL a3=>?_⟩;have s4:A0j G1 (upd G1 NL (.lst [])):=fx a3;have a6:upd G1 NL (.lst []) NL=some (.lst ([]:zM)):=ee;generalize upd G1 NL (.lst [])=G4 at s4 a6;have c8:=s4 _ _ C;refine ie _ rfl _ rfl _ _ rfl rfl (gr _ rfl CL _ rfl (SqL.of c8) λZL b8=>?_);have ec:jK (d.map V.int) none (some ((En:Int)+1))=(d.take (En+1)).map V.int:=Dx (i:=En+1);have s5:A0j G4 (upd G4 ZL (.lst (jK (d.map V.int) none (some ((En:Int)+1))))):=fx b8;have a0:upd G4 ZL (.lst (jK (d.map V.int) none (some ((En:Int)+1)))) ZL=some (.lst ((d.take (En+1)).map V.int)):=by rw[ee,ec]
  generalize upd G4 ZL (.lst (jK (d.map V.int) none (some ((En:Int)+1))))=G5 at s5 a0;have c6:=s5 _ _ a6;have ZN:ZL≠NL:=(ga a6 b8).symm;have d7:=(sG.trans s4).trans s5;refine fV ZL rfl ⟨_,SqL.of a0⟩ ?_
  refine kz (K:=K) (a:=ZL) (xs:=(d.take (En+1)).map V.int) (λi Z G=>∃(o8:zP)(ns:zI),Z=[Sro V0,Sio (En:Nat),Sro CL,o3,X,S,Sro NL,some (.int (d.take i).sum),o8]/\KB NL G5 G/\G NL=some (.lst (ns.map V.int))/\ns=(List.range i).map λj=>pB f g (gu W es) j)
   (im none [] rfl KB.refl c6 rfl) (by rintro i Z G _ ⟨_,_,_,p,_⟩;exact SqL.of (p _ _ ZN a0)) ?_ ?_
  ·rintro i v Z G hv ⟨o8,ns,rfl,p,hN,en⟩;obtain⟨z,hz,rfl⟩:=md hv;have hi:=(gG.mp hz).1;rw[iP]at hi;have e0:d[i]?=some z:=by rw[List.getElem?_take_of_lt (by lia)]at hz;exact hz
   have b9:(d.take (i+1)).sum=(d.take i).sum+z:=by rw[gR,e0,jG,List.sum_append];simp
   have e4:ns.length=i:=by rw[en,eH,List.length_range]
   refine ie _ rfl _ rfl _ _ rfl rfl (jv _ rfl (.inl (iN rfl _ (SqL.of hN))) _ rfl (gX NL _ _ rfl rfl hN (gQ (by rw[eH];lia)) ?_));refine im (some (.int z)) (ns++[(d.take i).sum+z]) ?_ p.upd (by rw[ee,gB];rfl) ?_
   ·rw[b9];rfl
   ·rw[List.range_succ,gB,<-en,<-b9,D.sum i (by lia)];rfl
  ·rintro Z G ⟨o8,ns,rfl,p,hN,en⟩;have ll:((d.take (En+1)).map V.int).length=En+1:=by rw[eH,iP];lia
   rw[ll]at en;refine al _ rfl (k NL G (sG.free a3) (KB.same d7 p (sG.free a3)) ?_);rw[hN,en]
def B4m(a:zI)(i:Nat):Prop:=∃m,m∈a/\(∀k∈a,k<=m)/\i=a.idxOf m
theorem B4m.uniq{c:zI}(h:B4m c i)(h':B4m c j):i=j:=by obtain⟨m,f,d,rfl⟩:=h;obtain⟨e,b,a,rfl⟩:=h';have:=d _ b;have:=a _ f;rw[show m=e by lia]
abbrev ki(f g:Str×List Int->Int)(rs:List (Str×List Int))(i:Nat):List (Str×List Int):=rs.filter (jH f g i)
abbrev CrQ(H:Hp)(Q:VK)(f g:Str×List Int->Int)(rs:List (Str×List Int))(E:Nat):Prop:=∀(q CR:zW)(b:zM)(i:Nat)(a:Hp),H CR=none->A0j H a->a q=some (.tup [.int (i:Nat),.ref CR])->a CR=some (.lst b)->Rds a b (ki f g rs i)->B4m (lK f g rs E) i->Q (.ref q) a
inductive xM(vs:zM)(H:Hp)(Q:VK):Prop
 |mk (V0:zW) (E:Nat) (f g:Str×List Int->Int) (W:Str->List zI) (dk:zJ) (es:zB) (_:vs=[.ref V0,.int (E:Nat)]) (_:E<=20000) (_:H V0=some (.dK dk)) (_:mK H f g W dk es) (_:∀r∈gu W es,0<=f r/\f r<=g r/\g r<=(E:Int)) (_:(gu W es).length<=900000)
  (_:CrQ H Q f g (gu W es) E):xM vs H Q
def BO:Sp:=λa H Q _=>xM a H Q
theorem Rds.kt(h:Rds H vs rs)(k:KT H H'):Rds H' vs rs:=h.keep k
theorem AG(T:Txt K mg t):FO P w base T.aN 2 BO:=by
 refine T.aN.F.ok pY λ_ A _ s H _ Q E hr h=>?_
 ·obtain⟨V0,En,f,g,W,dk,a,rfl,c7,hV,lv,c8,lm,k⟩:=h;have d3:=Paired.length lv;refine rsq (fa (gx 2 pY.nd (pcl (Jf T) hr T.aW (dV (pv 0) (fX 1)))) (fa ⟨@mS _ _ 3 _ _ _ _ pY.nd rfl (.inr rfl) (jC jA PySem.F.slot_list_index PySem.F.type_list_index Gw (pv 2) (dV (iL (GB rfl) (by rfl) T.fN PyProof.Rows.boot_max (fX 2)) eg)) rfl (.inl rfl)⟩ (fa (gx 4 pY.nd (@hY _ _ _ _ eg)) (fa (iA (pU (nD PySem.F.plainAttrs_dict PySem.F.slot_dict_items PySem.F.type_dict_items pS (pv 0))) (jV (n:=2) rfl (gK (gc (i:=5) pY.nd rfl (.inr rfl)) (gK (gc (i:=6) pY.nd) jD))) (fC ⟨jI (jC jA PySem.F.slot_list_extend PySem.F.type_list_extend qI (pv 4) (dV (EH (yL (N':=["cell","life","array","gap"]) (ix:=(List.replicate 2 none++[some 5,some 3])) (g:=tV K 2 (oJ (m6 0) (oJ (m6 1) rh))) rfl (vo (cl:=[("gap",_),("array",_)]) (xs:=["gap","array"]) rfl (fY rfl rfl trivial) rfl rfl (by decide+kernel) (by decide+kernel)) (vm (N0:=["cell","life"]) (xs:=["array","gap"]) (js:=[5,3]) (fY (fY rfl (.inl rfl) (by walk_at"ix")) (fY rfl (.inl rfl) (by walk_at"ix")) trivial)) (pU (nD PySem.F.plainAttrs_dict PySem.F.slot_dict_items PySem.F.type_dict_items pS (pv 6))) (λ_ _ _ _=>(jV (n:=2) rfl (gK (gc (i:=0) yQ) (gK (gc (i:=1) yQ) jD)))) (λ_ _ _ _=>(iY (pcl (GP T) hr T.cD (dV (pv 1) (fX 3))))) (λ_ _ _ _=>(ir (dV (pv 2) (fX 0)))))) eg))⟩)) ⟨qM (@jN _ _ _ (@ms _ _ _ _ (ir (dV (pv 3) (fX 4)))))⟩)))) ?_;refine iJ _ rfl _ rfl ⟨V0,En,f,g,W,dk,a,rfl,c7,hV,lv,c8,λNL H1 e0 s1 hN=>?_⟩;have lc:(lK f g (gu W a) En).length=En+1:=by rw[eH,List.length_range]
  have mx:∀m,m∈lK f g (gu W a) En->(∀k∈lK f g (gu W a) En,k<=m)->B4m (lK f g (gu W a) En) ((lK f g (gu W a) En).idxOf m):=λm h1 h2=>(fV m h1 h2 rfl);refine jv _ rfl (.inl (iN rfl _ (SqL.of hN))) _ rfl (im NL _ rfl (SqL.of hN) (by lia) λm hm d1=>?_);refine gX NL _ m rfl rfl hN hm ?_;have mx:=mx m hm d1;generalize (lK f g (gu W a) En).idxOf m=N at mx;refine⟨gj rfl,λCR b9=>?_⟩;have R:A0j H1 (upd H1 CR (.lst [])):=fx b9;have a7:upd H1 CR (.lst []) CR=some (.lst ([]:zM)):=ee;generalize upd H1 CR (.lst [])=H2 at R a7;have a9:=s1.trans R;have a0:=a9 _ _ hV;have a3:H CR=none:=s1.free b9;refine fV _ rfl (.inr (.inr (.inl ⟨rfl,.inl ⟨_,a0⟩⟩))) (ij V0 _ rfl rfl a0 (.inl ⟨_,rfl⟩) λvw b7=>?_);have Vv:V0≠vw:=ga a0 b7;refine gD vw V0 _ rfl ee (by rw[dF Vv];exact a0) (.inl (al dk rfl λo1=>?_));obtain⟨Gf,hGf⟩:∃Gf,Gf=upd (upd H2 vw (ju vw V0)) V0 (.frz o1 (.dK dk)):=⟨_,rfl⟩;rw[<-hGf];have fz:Gf V0=some (.frz o1 (.dK dk)):=by rw[hGf];exact ee
  have b0:∀{b:zW}{u:HO},b≠V0->H2 b=some u->Gf b=some u:=λn e=>by rw[hGf,dF n,dF (ga e b7)];exact e
  have CV:CR≠V0:=λz=>by subst z;rw[a3]at hV;cases hV
  have nC:∀{b:zW}{u:HO},H b=some u->b≠CR:=λe=>ga e a3;have up:∀{b:zW}{u:HO},b≠V0->H b=some u->Gf b=some u:=λn e=>b0 n (a9 _ _ e)
  refine qO (L:=dk.map λq=>(kV q.1,q.2)) (λi Z G=>∃(o5 o6:zP)(M:zM),Z=[Sro V0,Sio (En:Nat),Sro NL,Sio (N:Nat),Sro CR,o5,o6]/\KB CR Gf G/\G CR=some (.lst M)/\Rds G M (ki f g (gu W (a.take i)) N))
   (gD none none [] rfl KB.refl (b0 CV a7) .nil) (by rintro i Z G ⟨_,_,_,_,kb,_⟩;exact kb _ _ CV.symm fz) ?_ ?_
  ·rintro i kx vx qq Z G hx hq zz;refine gE zz ?_;clear zz;rintro o5 o6 M rfl kb hC rd;rw[gP]at hx;obtain⟨⟨k',v⟩,hk,e⟩:=lI.mp hx;cases e;refine pw (hE lv hk) ?_;rintro e he ek ⟨b,d,ev,hb,c0⟩;have ek:k'=Sum.inr e.1:=ek;subst ek;have ev:v=.ref b:=ev;subst ev;have bV:b≠V0:=gg hb hV (by intro z;cases z);have c6:=Paired.length c0;have sq:A0j G (upd G qq (.tup [kV (Sum.inr e.1),.ref b])):=fx hq;have b2:upd G qq (.tup [kV (Sum.inr e.1),.ref b]) qq=some (.tup [.str e.1,.ref b]):=ee;generalize upd G qq (.tup [kV (Sum.inr e.1),.ref b])=G1 at sq b2;have a5:=kb.trans (KB.of sq);have b8:=sq _ _ hC;have p:=a5 _ _ (nC hb) (up bV hb);have c4:KT H G1:=λc xs z=>a5 _ _ (nC z) (up (gg z hV (by intro z;cases z)) z)
   have d8:(gu W (a.take i)).length+(W e.1).length<=(gu W a).length:=by
    have h1:gu W a=gu W (a.take i)++gu W (a.drop i):=by unfold gu;rw[<-List.flatMap_append,p8]
    have hi:=(gG.mp he);have h2:a.drop i=e::a.drop (i+1):=by rw[List.drop_eq_getElem_cons hi.1,hi.2]
    have h3:(gu W (a.drop i)).length≥(W e.1).length:=by
     rw[h2];unfold gu;rw[List.flatMap_cons,gz,eH]
     lia
    rw[h1,gz]
    lia
   have d9:M.length<=(gu W (a.take i)).length:=by rw[Paired.length rd];exact List.length_filter_le _ _
   refine jJ qq _ rfl (SqT.of b2) rfl _ _ rfl _ _ rfl rfl ?_;refine jv _ rfl (.inl (iN rfl _ (SqL.of b8))) _ rfl ⟨.inr (.inr (.inl ⟨rfl,.inr ⟨_,p⟩⟩)),(ij b _ rfl rfl p (.inr ⟨_,rfl⟩) λl b5=>?_)⟩;have bv:b≠l:=ga p b5;have sv:A0j G1 (upd G1 l (ju l b)):=fx b5;refine gD l b _ rfl ee (by rw[dF bv];exact p) (.inr (al d rfl λo2 Lk kl D hD=>?_));have d7:=Paired.length kl;have O:upd (upd G1 l (ju l b)) b (.frz o2 (.dT d)) b=some (.frz o2 (.dT d)):=ee;have b4:KT G1 (upd (upd G1 l (ju l b)) b (.frz o2 (.dT d))):=λc xs z=>by rw[dF (gg z p (by intro z;cases z))];exact sv _ _ z
   have a8:∀{c:zW}{u:HO},c≠b->G1 c=some u->upd (upd G1 l (ju l b)) b (.frz o2 (.dT d)) c=some u:=λn z=>by rw[dF n];exact sv _ _ z
   have c1:KL (upd (upd G1 l (ju l b)) b (.frz o2 (.dT d))) d Lk:=Paired.mapP kl λ_ _ z=>by obtain⟨bc,z1,z2,z3⟩:=z;exact fV bc z1 (by rw[dF (gg z2 (show upd G1 l (ju l b) b=some (.dT d)by rw[dF bv];exact p) (by intro z;cases z))];exact z2) z3
   generalize upd (upd G1 l (ju l b)) b (.frz o2 (.dT d))=Gz at O b4 a8 c1 hD;refine Ia (J:=Iti b o2 (.dT d) Lk) (D:=D) Lk.length (λj r B=>A0j Gz B/\B D=some (.lst r)/\Rds B r (ki f g (((W e.1).take j).map λc=>(e.1,c)) N)) (fY (fx hD) ee .nil) (by rintro j r B hj ⟨R,_⟩;exact⟨R _ _ O,hj⟩) (by rintro r B ⟨R,_⟩;exact⟨R _ _ O,rfl⟩) ?_ ?_
   ·rintro j r B hj ⟨R,a2,C⟩ x3 H3 zz;refine gE zz ?_;clear zz;rintro kk vv p3 hL d6 rfl rfl;have a6:d[j]?=some (d[j]'(by lia)):=hB _;obtain⟨y,hy,bc,y1,y2,y3⟩:=hE c1 a6;rw[hL]at hy;cases hy;obtain⟨c,hc,ec,q,d4,c9⟩:=hE c0 a6;have c2:vv=.ref q:=y3.trans d4;clear y3;obtain rfl:kk=.ref bc:=y1;subst c2;rw[ec,List.map_map]at y2;have y2:Gz bc=some (.tup (c.map V.int)):=y2;have c3:Gz q=some (.tup [.int (f (e.1,c)),.int (g (e.1,c))]):=b4 _ _ (c4 _ _ c9);obtain⟨G3,Y,d0,a4⟩:=nH (o:=.tup [.ref bc,.ref q]) d6
    try rw[a4]
    have s3:=R.trans Y;have U:=Y _ _ a2
    have d2:r.length<=j:=by
     have h1:r.length=((((W e.1).take j).map λc=>(e.1,c)).filter (jH f g N)).length:=Paired.length C;have:=List.length_filter_le (jH f g N) (((W e.1).take j).map λc=>(e.1,c));rw[eH,iP]at this
     lia
    refine jJ p3 _ rfl (SqT.of d0) rfl _ _ rfl _ _ rfl rfl ⟨(fY rfl rfl True.intro),?_⟩;refine iJ _ rfl _ rfl ⟨q,_,_,_,rfl,s3 _ _ c3,_,rfl,q9 (λhz=>?_) (λhz=>?_)⟩
    ·refine jm _ rfl _ rfl (gj rfl) λp4 d5=>?_;obtain⟨G4,s4,b1,a4⟩:=nH (o:=.tup [.str e.1,.ref bc]) d5
     try rw[a4]
     have b3:=s4 _ _ U;have kD:KT G4 (upd G4 D (.lst (r++[.ref p4]))):=KT.at b3 (by intro xs z;cases z);refine mi b3 (gQ (by lia)) (hJ (s3.trans s4) hD) ee ?_;rw[gR,hc,jG,gB];unfold ki;rw[List.filter_append,show([c].map λc=>(e.1,c))=[(e.1,c)] from rfl,uf (f:=jH f g N) (x:=(e.1,c)) hz];exact jL (((C.kt (KT.same Y)).kt (KT.same s4)).kt kD) (.cons (el p4 bc rfl (kD _ _ b1) (kD _ _ (s4 _ _ (s3 _ _ y2)))) .nil)
    ·refine fY s3 U ?_;rw[gR,hc,jG,gB];unfold ki;rw[List.filter_append,show([c].map λc=>(e.1,c))=[(e.1,c)] from rfl,ue (f:=jH f g N) (x:=(e.1,c)) hz,lT];exact C.kt (KT.same Y)
   rintro r B ⟨R,a2,C⟩;rw[<-d7,c6,hQ]at C;have S:=R _ _ O;refine jF b o2 _ S (λo' u' z=>by have z:H b=some (.frz o' u'):=z;rw[hb]at z;cases z) ?_;have c5:KT B (upd B b (.dT d)):=KT.at S (by intro xs z;cases z)
   have a1:∀{c:zW}{u:HO},G1 c=some u->upd B b (.dT d) c=some u:=λ{c u} z=>by
    by_cases hcb:c=b
    ·subst hcb;rw[p]at z;cases z;exact ee
    ·rw[dF hcb];exact R _ _ (a8 hcb z)
   have U:upd B b (.dT d) D=some (.lst r):=by rw[dF (λz=>by subst z;rw[O]at hD;cases hD)];exact a2
   have I:=C.kt c5;have b6:Rds (upd B b (.dT d)) M (ki f g (gu W (a.take i)) N):=(rd.kt (KT.same sq)).kt λc xs z=>a1 z;generalize upd B b (.dT d)=G3 at a1 U I b6;have X:=a1 b8
   have d2:r.length<=(W e.1).length:=by rw[Paired.length I];have:=List.length_filter_le (jH f g N) ((W e.1).map λc=>(e.1,c));rw[eH]at this;exact this
   refine kJ CR D M r rfl rfl X U (iS (by lia)) ?_;have kC:KT G3 (upd G3 CR (.lst (M++r))):=KT.at X (by intro xs z;cases z);refine gD _ _ (M++r) rfl (λc u hc z=>by rw[dF hc];exact a1 (a5 _ _ hc z)) ee ?_;rw[gR,he,jG];unfold ki gu;rw[List.flatMap_append,List.flatMap_singleton,List.filter_append];exact jL (b6.kt kC) (I.kt kC)
  rintro Z G zz;refine gE zz ?_;clear zz;rintro o5 o6 M rfl kb hC rd;rw[eH,d3,hQ]at rd;have S:=kb _ _ CV.symm fz;refine gD V0 o1 _ S (.inl ⟨_,rfl⟩) (λo' u' z=>by have z:H V0=some (.frz o' u'):=z;rw[hV]at z;cases z) ?_
  have sG:A0j H (upd G V0 (.dK dk)):=λb u e=>by
   by_cases hb:b=V0
   ·subst hb;rw[hV]at e;cases e;exact ee
   ·rw[dF hb];exact kb _ _ (nC e) (up hb e)
  have X:upd G V0 (.dK dk) CR=some (.lst M):=by rw[dF CV];exact hC
  have I:Rds (upd G V0 (.dK dk)) M (ki f g (gu W a) N):=rd.kt (KT.at S (by intro xs z;cases z));generalize upd G V0 (.dK dk)=G1 at sG X I;refine jm _ rfl _ rfl (gj rfl) λq hq=>?_;have sq:A0j G1 (upd G1 q (.tup [.int (N:Nat),.ref CR])):=fx hq;exact k q CR M N _ a3 (sG.trans sq) ee (sq _ _ X) (I.kt (KT.same sq)) mx
abbrev mkW(lk:zJ)(L:zR)(es:zB)(rows:List LnM)(os:zC):List (Str×List Int):=gu (iR (wkF lk L es rows os) (szE L es)) es
abbrev lsW(lk:zJ)(L:zR)(es:zB)(rows:List LnM)(os:zC)(ss:List Stp):Str×List Int->Int:=kg lk L es rows os (wkF lk L es rows os) ss
theorem rV(h:r∈mkW lk L es rows os):InW (wkF lk L es rows os) r:=by obtain⟨_,a⟩:=qB.mp h;exact(List.mem_filter.mp a).2
theorem xG(d:B5d lk L nm)(g:mM L nm es tb T rows os):∀a,(∀e∈a,e∈es)->(gu (iR (wkF lk L es rows os) (szE L es)) a).length<=a.length*60:=λa i=>by
 have h:=nc (l:=a) (f:=λe=>(iR (wkF lk L es rows os) (szE L es) e.1).map λc=>(e.1,c)) (B:=60) λe b=>by
  have b:=i e b;rw[eH];unfold iR szE;rw[n8 g.eo.nd b];have o:=List.length_filter_le (λc=>(fy (wkF lk L es rows os) (nk (e.1,c))).isSome) (gl (e.2.map L));have m:=(nL (e.2.map L) λn j=>by obtain⟨y,k,rfl⟩:=gm.mp j;exact(d.ok y ((g.eo.ax e b).sub y k)).1).1;have p:=g.eo.pr e b
  lia
 exact h
inductive xQ(A:Adr)(vs:zM)(H:Hp)(Q:VK):Prop
 |mk (p sl:zW) (L:zR) (nm:zC) (es:zB) (tb:zC) (T:Nat) (rows:List LnM) (os:zC) (ys:zM) (ss:List Stp) (lk:zJ) (_:vs=[.ref p,.ref sl]) (_:ClF A H p L nm es rows os) (_:mM L nm es tb T rows os) (_:B5d lk L nm) (_:H sl=some (.lst ys)) (_:A2j H ys ss) (_:n6 L rows ss) (_:ss.length<=20000) (_:∀s∈iu (rows.map (iq L)) rows.length,s∈ss) (_:∀s∈ss,s∈iu (rows.map (iq L)) rows.length) (_:pJ lk rows (iu (rows.map (iq L)) rows.length) ss)
  (_:CrQ H Q (ii rows ss) (lsW lk L es rows os ss) (mkW lk L es rows os) ss.length):xQ A vs H Q
def CJ(A:Adr):Sp:=λa H Q _=>xQ A a H Q
def KC(a b:zW)(H H':Hp):Prop:=∀c u,c≠a->c≠b->H c=some u->H' c=some u
theorem Hs(T:Txt K mg t):FO P w base T.c7 18 (CJ t):=by
 refine T.c7.F.ok Ht λ_ A _ s H _ Q E g h=>?_
 ·obtain⟨p,z,L,Y,b,O,T0,a,B,y,I,G,rfl,U,j,c,e,x,v,l,f,u,S,k⟩:=h;have d:=Paired.length x;have N:=j.eo.few;have M:=xG c j b λ_ h=>h;refine rsq (fC (gq (pcl (AG T) g T.aN (dV (pcl (Av T) g T.bB (dV (pv 0) (fX 1))) (dV (jr T.aj (fX 1)) eg))))) ?_;refine mE _ rfl _ rfl p z L Y b O T0 a B (gX y I G rfl U j c (ka e x v l f λD R H1 hD m n J=>?_));refine gr _ rfl z _ rfl (.inl (SqL.of (m _ _ e))) ?_;refine⟨D,y.length,_,_,_,R,b,rfl,by lia,n,J,λr g=>?_,?_,λq CR Z i X o W hq hC rd C=>?_⟩
  ·rw[d];exact sr f u S (rV g)
  ·have:(gu (iR (wkF G L b a B) (szE L b)) b).length<=b.length*60:=M
   lia
  ·rw[d]at C;exact k q CR Z i X (m.free o) (m.trans W) hq hC rd C
abbrev bxO(A:Adr)(dx:zW)(b:Int)(F D:zW):HO:=.ins A.aa dx [("begun",.int b),("free",.ref F),("ending",.ref D)]
structure C3z(A:Adr)(H:Hp)(r:zW)(Pd:Hp)(b:Int)(fs:zI)(e:Int->List Int)(n:Nat):Prop where
 ex:∃(dx F D:zW)(en:zJ)(ad:Int->zW),H r=some (bxO A dx b F D)/\H F=some (.lst (fs.map V.int))/\H D=some (.dK en)/\
  (∀k,fy en (Sum.inl k)=if e k=[]then none else some (.ref (ad k)))/\(∀k,e k≠[]->H (ad k)=some (.lst ((e k).map V.int))/\ad k≠F/\Pd (ad k)=none)/\
  (∀k k',e k≠[]->e k'≠[]->ad k=ad k'->k=k')/\Pd r=none/\Pd F=none/\Pd D=none/\en.length<=n
def Ed(A:Adr):Sp:=λd H Q _=>∃(p c:zW),d=[.ref p]/\H p=some (.ins A.aa c [])/\
 ∀(F D:zW)(a:Hp),H F=none->H D=none->F≠D->a p=some (bxO A c 0 F D)->a F=some (.lst [])->a D=some (.dK [])->(∀b o,b≠p->H b=some o->a b=some o)->Q .non a
def TkQ(A:Adr)(r:zW)(Pd:Hp)(l b:Int)(fs:zI)(e:Int->List Int)(n:Nat)(Q:VK):Prop:=∀(x c:Int)(a:zI)(d:Hp),A0j Pd d->C3z A d r Pd c a (λk=>if k=l then e k++[x]else e k) (n+1)->(fs=[]/\x=b/\c=b+1/\a=[]\/fs[fs.length-1]?=some x/\c=b/\a=fs.dropLast)->Q (.int x) d
def DM(A:Adr):Sp:=λc H Q _=>∃(r q:zW)(f l b:Int)(Pd:Hp)(a:zI)(e:Int->List Int)(n:Nat),c=[.ref r,.ref q]/\H q=some (.tup [.int f,.int l])/\A0j Pd H/\C3z A H r Pd b a e n/\n<1000/\(∀k,(e k).length<1000)/\a.length<1000/\TkQ A r Pd l b a e n Q
def Dr(A:Adr):Sp:=λf H Q _=>∃(r:zW)(g b:Int)(Pd:Hp)(d:zI)(e:Int->List Int)(n:Nat),f=[.ref r,.int g]/\A0j Pd H/\C3z A H r Pd b d e n/\d.length+(e g).length<64/\
 ∀(a:zI)(c:Hp),A0j Pd c->C3z A c r Pd b a e n->a.Perm (d++e g)->Q .non c
theorem IX(T:Txt K mg t):FP P w mg base T.bh 1 (Ed t):=by
 refine T.bh.F.ok IT λ_ A _ s H _ Q E l h=>?_
 ·obtain⟨p,f,rfl,j,k⟩:=h;refine rsq (fa ⟨jX (pv 0) gh rfl⟩ (fa ⟨jX (pv 0) (@hY _ _ _ _ eg) rfl⟩ (fC ⟨jX (pv 0) pT rfl⟩))) ?_;refine jE _ rfl p _ f [] rfl j T.ac T.aB (by decide) ?_;rw[kI];refine⟨gj rfl,λF g=>?_⟩;have Fp:p≠F:=ga ee g;refine jE _ rfl p _ f _ rfl (by rw[dF Fp];exact ee) T.ac T.au (by show 1<1000;decide) ?_;rw[ji (by decide+kernel),kI];have b:H F=none:=by rw[dF Fp.symm]at g;exact g
  refine λD d=>?_;have Dp:p≠D:=ga ee d;have DF:F≠D:=ga (by rw[dF Fp.symm];exact ee) d;refine jE _ rfl p _ f _ rfl (by rw[dF Dp];exact ee) T.ac T.aI (by show 2<1000;decide) ?_;rw[ji (by decide+kernel),ji (by decide+kernel),kI];have a:H D=none:=by rw[dF Dp.symm,dF DF.symm,dF Dp.symm]at d;exact d
  refine k F D _ b a DF ee ?_ ?_ λc o i e=>?_
  ·rw[dF Fp.symm,dF DF,dF Fp.symm];exact ee
  ·rw[dF Dp.symm];exact ee
  ·rw[dF i,dF (ga e a),dF i,dF (ga e b),dF i];exact e
theorem AS(T:Txt K mg t):FP P w mg base T.aq 1 (DM t):=by
 refine T.aq.F.ok qW λ_ A _ s H _ Q E hr h=>?_
 ·refine lB h ?_;clear h;rintro r q f l b Pd B e n rfl hq ⟨sp,bx,hn,he,hf,k⟩;refine lC bx.ex ?_;rintro L F D en R I X h3 h4 h5 ⟨h6,p1,p2,p3,h7⟩;have FD:F≠D:=gg X h3 (by intro z;cases z);have rF:r≠F:=gg I X (by intro z;cases z);have rD:r≠D:=gg I h3 (by intro z;cases z);refine rsq (fa ⟨lM (pv 1) (jV (n:=2) rfl (gK (gc (i:=2) qW.nd) (gK (gc (i:=3) qW.nd) jD)))⟩ (oA (gZ (iz pH (jr T.aj (dV (iK (pv 0) rfl) eg)) gh) (fC (gx 4 qW.nd (nD jA PySem.F.slot_list_pop PySem.F.type_list_pop CZ (iK (pv 0) rfl)))) (fa (gx 4 qW.nd (iK (pv 0) rfl)) (fC ⟨jX (pv 0) (gn jW (iK (pv 0) rfl) gh) rfl⟩))) (fa ⟨jI (jC jA kZ kY kU (jC PySem.F.plainAttrs_dict PySem.F.slot_dict_setdefault PySem.F.type_dict_setdefault Dh (iK (pv 0) rfl) (dV (pv 3) (dV (@hY _ _ _ _ eg) eg))) (fX 4))⟩ (fC (gq (pv 4)))))) ?_;refine al _ rfl (jJ q _ rfl (SqT.of hq) rfl _ _ rfl _ _ rfl rfl ?_);refine al (λZ' W=>∃(x Y:Int)(y:zI),Z'=[some (.ref r),some (.ref q),some (.int f),some (.int l),some (.int x)]/\W r=some (bxO t L Y F D)/\W F=some (.lst (y.map V.int))/\(∀c u,c≠r->c≠F->H c=some u->W c=some u)/\(B=[]/\x=b/\Y=b+1/\y=[]\/B[B.length-1]?=some x/\Y=b/\y=B.dropLast)) ?_ ?_
  ·refine iM _ rfl r _ L _ _ rfl I T.ac T.au (by walk_at"lk") (el F _ rfl (.inl (SqL.of X)) ⟨_,(jv _ rfl rfl _ rfl (iX (λh=>?_) (λh=>?_)))⟩)
   ·have hl:0<B.length:=by
     have h:(0:Int)<((B.map V.int).length:Nat):=h;rw[eH]at h
     lia
    obtain⟨x,hx⟩:∃x,B[B.length-1]?=some x:=⟨_,hB (by lia)⟩;refine iM _ rfl r _ L _ _ rfl I T.ac T.au (by walk_at"lk") ?_;refine⟨.inl (iN rfl _ (SqL.of X)),(gX F _ (.int x) rfl rfl X (by rw[eH,gP,hx];rfl) ?_)⟩;refine gX x b B.dropLast rfl (by rw[dF rF];exact I) (by rw[ee,List.map_dropLast]) (λc u a m e=>(by rw[dF m];exact e)) (.inr (fY hx rfl rfl))
   ·have hl:B=[]:=by
     have h:¬(0:Int)<((B.map V.int).length:Nat):=h;rw[eH]at h;exact List.eq_nil_of_length_eq_zero (by lia)
    refine iM _ rfl r _ L _ _ rfl I T.ac T.aB (by walk_at"lk") ?_;refine iM _ rfl r _ L _ _ rfl I T.ac T.aB (by walk_at"lk") (el _ _ rfl rfl (jE _ rfl r _ L _ rfl I T.ac T.aB (by show 3<1000;decide) ?_));refine gX b (b+1) [] rfl ?_ ?_ (λc u a m e=>(by rw[dF a];exact e)) (.inl (ip hl rfl rfl rfl))
    ·rw[ee];rfl
    ·rw[dF rF.symm,X,hl]
  ·rintro Z' W zz;refine gE zz ?_;clear zz;rintro x Y y rfl g1 g2 ⟨g3,g4⟩;have J:W D=some (.dK en):=g3 _ _ rD.symm FD.symm h3;refine iM _ rfl r _ L _ _ rfl g1 T.ac T.aI (by walk_at"lk") ?_;refine jP (.inr (.inr (.inl ⟨rfl,.inl ⟨_,J⟩⟩))) _ rfl (gj rfl) λN O=>?_
   have pN:Pd N=none:=by
    cases d:Pd N with
    |none=>rfl
    |some u=>have:=g3 _ _ (λz=>by rw[z,p1]at d;cases d) (λz=>by rw[z,p2]at d;cases d) (sp _ _ d);rw[O]at this;cases this
   have rN:r≠N:=ga g1 O;have FN:F≠N:=ga g2 O;have DN:D≠N:=ga J O
   have C:∀k,e k≠[]->W (R k)=some (.lst ((e k).map V.int))/\R k≠r/\R k≠D/\R k≠N:=λk G=>by obtain⟨a1,a2,a3⟩:=h5 k G;have ar:R k≠r:=gg a1 I (by intro z;cases z);have a4:=g3 _ _ ar a2 a1;exact ip a4 ar (gg a1 h3 (by intro z;cases z)) (ga a4 O)
   have sm:∀c u,Pd c=some u->W c=some u/\c≠r/\c≠F/\c≠D/\c≠N:=λc u d=>by
    have a:c≠r:=λz=>by rw[z,p1]at d;cases d
    have m:c≠F:=λz=>by rw[z,p2]at d;cases d
    exact mi (g3 _ _ a m (sp _ _ d)) a m (λz=>by (rw[z,p3]at d;cases d)) λz=>by (rw[z,pN]at d;cases d)
   have Z:=h4 l;refine kJ D (Sum.inl l) (.ref N) en rfl rfl (oj O J) (gQ (by lia)) (λv hv=>?_) λhv=>?_
   ·by_cases o:e l=[]
    ·rw[hv,fW o]at Z;cases Z
    rw[hv,ej o]at Z;cases Z;obtain⟨b1,b2,b3,b4⟩:=C l o;have b5:=(h5 l o).2;refine gF (.inl (iN rfl _ (SqL.of (oj O b1)))) _ rfl (gX _ _ _ rfl rfl (oj O b1) (by have:=he l;rw[eH];exact gQ (by lia)) ?_);refine al _ rfl (k x Y y _ (λc u d=>?_) ⟨L,F,D,en,R,?_,?_,?_,λj=>?_,λj G=>?_,λU M p g=>?_,p1,p2,p3,by lia⟩ g4)
    ·obtain⟨c0,a,m,c3,c4⟩:=sm c u d;rw[dF (λz=>by rw[z,b5.2]at d;cases d),dF c4];exact c0
    ·rw[dF b2.symm,dF rN];exact g1
    ·rw[dF b5.1.symm,dF FN];exact g2
    ·rw[dF b3.symm,dF DN];exact J
    ·rw[h4 j];by_cases a:j=l
     ·subst a;simp[o]
     ·simp[a]
    ·by_cases a:j=l
     ·subst a;refine fY ?_ b5.1 b5.2;simp only [if_true];rw[ee,gB];rfl
     ·simp only [ej a]at G⊢;obtain⟨d1,d2,d3,d4⟩:=C j G;refine⟨?_,(h5 j G).2⟩;rw[dF (λz=>a (h6 j l G o z)),dF d4];exact d1
    ·have q1:e U≠[]:=by
      by_cases a:U=l
      ·rw[a];exact o
      ·simp only [ej a]at p;exact p
     have q2:e M≠[]:=by
      by_cases a:M=l
      ·rw[a];exact o
      ·simp only [ej a]at g;exact g
     exact h6 U M q1 q2
   ·have o:e l=[]:=by
     by_cases o:e l=[]
     ·exact o
     ·rw[hv,ej o]at Z;cases Z
    have a0:=nI (V.ref N) hv;refine gF (.inl (iN rfl [] (SqL.of (by rw[dF DN.symm];exact ee)))) _ rfl (gX _ _ _ rfl rfl (by rw[dF DN.symm];exact ee) (gQ (by simp)) ?_);refine al _ rfl (k x Y y _ (λc u d=>?_) ⟨L,F,D,gC en (Sum.inl l) (V.ref N),λk=>if k=l then N else R k,?_,?_,?_,λj=>?_,λj G=>?_,λU M p g S=>?_,p1,p2,p3,?_⟩ g4)
    ·obtain⟨c0,a,m,c3,c4⟩:=sm c u d;rw[dF c4,dF c3,dF c4];exact c0
    ·rw[dF rN,dF rD,dF rN];exact g1
    ·rw[dF FN,dF FD,dF FN];exact g2
    ·rw[dF DN];exact ee
    ·rw[sI,h4 j];by_cases a:j=l
     ·subst a;simp
     ·have:¬(Sum.inl j:Key)=Sum.inl l:=λz=>a (Sum.inl.inj z);simp[a]
    ·by_cases a:j=l
     ·subst a;simp only [if_true];refine fY ?_ FN.symm pN;rw[ee,o];rfl
     ·simp only [ej a]at G⊢;obtain⟨d1,d2,d3,d4⟩:=C j G;refine⟨?_,(h5 j G).2⟩;rw[dF d4,dF d3,dF d4];exact d1
    ·dsimp only at S;by_cases a:U=l
     ·by_cases m:M=l
      ·rw[a,m]
      ·simp only [ej m]at g;rw[fW a,ej m]at S;exact absurd S.symm (C M g).2.2.2
     ·simp only [ej a]at p;by_cases m:M=l
      ·rw[ej a,fW m]at S;exact absurd S (C U p).2.2.2
      ·simp only [ej m]at g;rw[ej a,ej m]at S;exact h6 U M p g S
    ·rw[a0,gz,lV];lia
theorem Jo(T:Txt K mg t):FP P w mg base T.aH 1 (Dr t):=by
 refine T.aH.F.ok AO λ_ A _ s H _ Q E hr h=>?_
 ·refine jS h ?_;clear h;rintro r g b Pd m e ⟨n,rfl,L,bx,X,k⟩;have hu:=kF hr;refine lC bx.ex ?_;rintro v F D en x d B p O y ⟨Z,R,p2,p3,Y⟩;refine rsq (fa (gx 2 AO.nd (Eo hu (iK (pv 0) rfl) (pv 1) (@hY _ _ _ _ eg) ⟨rfl,rfl,rfl,rfl⟩)) (fC (gZ (iz pH (jr T.aj (fX 2)) gh) (fC ⟨jX (pv 0) (GU (by rfl) T.fg (dV (gn rX (iK (pv 0) rfl) (pv 2)) eg)) rfl⟩) ⟨gW⟩))) ?_;refine iM _ rfl r _ v _ _ rfl d T.ac T.aI (by walk_at"lk") ?_;refine jv D rfl (.inl ⟨_,.inl p⟩) _ rfl ⟨gj rfl,λN I=>?_⟩;refine al _ (A6z.k (k:=Sum.inl g) (oj I p)) ?_;have rF:r≠F:=gg d B (by intro z;cases z);have rN:r≠N:=ga d I;have FN:F≠N:=ga B I;have a:A0j H (upd H N (.lst [])):=fx I;rw[O g];by_cases ce:e g=[]
  ·rw[fW ce];refine lP _ rfl N [] rfl (.inl (SqL.of ee)) _ _ rfl rfl _ rfl (iX (λh=>absurd h (by decide)) (λh=>?_));refine k m _ (L.trans a) ⟨v,F,D,en,x,a _ _ d,a _ _ B,a _ _ p,O,λC J=>⟨a _ _ (y C J).1,(y C J).2⟩,Z,R,p2,p3,Y⟩ (by rw[ce,lT])
  ·rw[ej ce];obtain⟨a1,a2,a3⟩:=y g ce;have a0:0<(e g).length:=List.length_pos_iff.mpr ce;refine lP _ rfl (x g) _ rfl (.inl (SqL.of (a _ _ a1))) _ _ rfl rfl _ rfl (iX (λh=>?_) (λh=>absurd (by show(0:Int)<(((e g).map V.int).length:Nat);rw[eH];lia) h));refine iM _ rfl r _ v _ _ rfl (a _ _ d) T.ac T.au (by walk_at"lk") ?_;refine jE _ rfl F (x g) _ _ rfl rfl (a _ _ B) (a _ _ a1) (by rw[eH,eH];exact iS (by lia)) λN2 W=>?_;rw[<-gB];refine im N2 (m++e g) rfl (SqL.of ee) (by rw[gz];exact X) λf pm j q=>?_;have s2:A0j H (upd (upd H N (.lst [])) N2 (.lst ((m++e g).map V.int))):=a.trans (fx W);have o:A0j H (upd (upd (upd H N (.lst [])) N2 (.lst ((m++e g).map V.int))) j (.lst (f.map V.int))):=s2.trans (fx q);have i:H j=none:=s2.free q;have M:r≠j:=ga d i;refine jE _ rfl r _ v _ rfl (o _ _ d) T.ac T.au (by show 3<1000;decide) ?_;generalize hG:upd (upd (upd H N (.lst [])) N2 (.lst ((m++e g).map V.int))) j (.lst (f.map V.int))=G at o;have U:G j=some (.lst (f.map V.int)):=by rw[<-hG];exact ee
   have np:∀c u,Pd c=some u->c≠r:=λc u l z=>by rw[z,R]at l;cases l
   refine k f _ (λc u l=>by rw[dF (np c u l)];exact o _ _ (L _ _ l)) ⟨v,j,D,en,x,?_,?_,?_,O,λC J=>?_,Z,R,?_,p3,Y⟩ pm
   ·rw[ee];rfl
   ·rw[dF M.symm];exact U
   ·rw[dF (gg p d (by intro z;cases z))];exact o _ _ p
   ·obtain⟨S,d2,d3⟩:=y C J;exact fY (by rw[dF (gg S d (by intro z;cases z))];exact o _ _ S) (ga S i) d3
   ·cases l:Pd j with|none=>rfl|some u=>rw[L _ _ l]at i;cases i
def inn(tk:List (Cl×Int))(x:Str):List (List Key×V):=(tk.filter λp=>decide (p.1.1=x)).map λp=>(iB p.1.2,V.int p.2)
abbrev hmK(da:Str->zW)(es:zB):zJ:=es.map λe=>((Sum.inr e.1:Key),V.ref (da e.1))
structure C1a(G:Hp)(HD:zW)(da:Str->zW)(es:zB)(tk:List (Cl×Int)):Prop where
 hd:G HD=some (.dK (hmK da es))
 inr:∀e∈es,G (da e.1)=some (.dT (inn tk e.1))
 inj:∀e∈es,∀e'∈es,da e.1=da e'.1->e.1=e'.1
theorem pO{da:Str->zW}{x:Str}:∀{es:zB},x∈es.map (·.1)->fy (hmK da es) (Sum.inr x)=some (.ref (da x))
 |e::r,h=>by
  by_cases c:e.1=x
  ·rw[<-c];exact jy rfl
  ·rw[gw]at h;rcases gY.mp h with q|q
   ·exact absurd q.symm c
   ·exact(jk λz=>c (Sum.inr.inj z)).trans (pO q)
theorem Eb(tk:List (Cl×Int))(x y:Str)(c:zI)(b:Int):inn (tk++[((x,c),b)]) y=if x=y then inn tk y++[(iB c,V.int b)]else inn tk y:=by
 unfold inn;rw[List.filter_append,gB];by_cases h:x=y
 ·rw[fW h,List.filter_cons_of_pos (p:=λp:Cl×Int=>decide (p.1.1=y)) (iW h)];rfl
 ·rw[ej h,List.filter_cons_of_neg (p:=λp:Cl×Int=>decide (p.1.1=y)) (by simpa using h)];simp
theorem xp:(fy (inn tk x) (iB c)).isSome=true↔(x,c)∈tk.map (·.1):=by
 induction tk with
 |nil=>simp[inn,fy]
 |cons p r ih=>
  obtain⟨⟨y,d⟩,b⟩:=p;rw[gw,gY];by_cases h:y=x
  ·subst h
   have e:inn (((y,d),b)::r) y=(iB d,V.int b)::inn r y:=by unfold inn;rw[List.filter_cons_of_pos (p:=λp:Cl×Int=>decide (p.1.1=y)) (iW rfl)];rfl
   rw[e];by_cases hc:d=c
   ·subst hc;rw[jy rfl];exact⟨λ_=>.inl rfl,λ_=>rfl⟩
   ·rw[jk λz=>hc (sN z),ih];exact⟨.inr,λz=>z.resolve_left λq=>hc (by injection q with _ q2;exact q2.symm)⟩
  ·have e:inn (((y,d),b)::r) x=inn r x:=by
    unfold inn;rw[List.filter_cons_of_neg (p:=λp:Cl×Int=>decide (p.1.1=x)) (by simpa using h)]
   rw[e,ih];exact⟨.inr,λz=>z.resolve_left λq=>h (by injection q with q1 _;exact q1.symm)⟩
theorem ya(h:(x,c)∉tk.map (·.1)):fy (inn tk x) (iB c)=none:=by
 cases e:fy (inn tk x) (iB c)with
 |none=>rfl
 |some v=>exact absurd (xp.mp (by rw[e];rfl)) h
theorem C1a.put(h:C1a G HD da es tk)(d:(x,ys)∈es)(c:zI)(b:Int):C1a (upd G (da x) (.dT (inn tk x++[(iB c,V.int b)]))) HD da es (tk++[((x,c),b)]):=by
 refine⟨?_,λe a=>?_,h.inj⟩
 ·rw[dF (gg h.hd (h.inr _ d) (by intro z;cases z))];exact h.hd
 ·rw[Eb];by_cases q:x=e.1
  ·rw[fW q,<-q];exact ee
  ·rw[ej q,dF λz=>q (h.inj _ a _ d z).symm];exact h.inr e a
theorem C1a.same(h:C1a G HD da es tk)(s:A0j G G'):C1a G' HD da es tk:=⟨s _ _ h.hd,λe a=>s _ _ (h.inr e a),h.inj⟩
theorem C3z.upd{r:zW}{fs:zI}{e:Int->List Int}(h:C3z A G r Pd b fs e n)(q:Pd d=some u):C3z A (upd G d o) r (upd Pd d o) b fs e n:=by
 refine lC h.ex ?_;rintro p F D t x w m C H y ⟨s,i,f,g,J⟩;have a:∀c,Pd c=none->c≠d:=λc l z=>by rw[z,q]at l;cases l
 refine⟨p,F,D,t,x,by rw[dF (a _ i)];exact w,by rw[dF (a _ f)];exact m,by rw[dF (a _ g)];exact C,H,λk I=>?_,s,by rw[dF (a _ i)];exact i,by rw[dF (a _ f)];exact f,by rw[dF (a _ g)];exact g,J⟩;obtain⟨v,B,j⟩:=y k I;exact fY (by rw[dF (a _ j)];exact v) B (by rw[dF (a _ j)];exact j)
theorem zy(s:A0j G G')(d:zW)(o:HO):A0j (upd G d o) (upd G' d o):=λc u e=>by
 by_cases z:c=d
 ·subst z;rw[ee]at e⊢;exact e
 ·rw[dF z]at e⊢;exact s _ _ e
def oN(rows:List LnM)(tb:zC)(ss:List Stp)(a:List Cl)(i:Nat)(r:Cl):Prop:=r∈a/\(r.1∈tb\/∃j s,j<i/\ss[j]?=some s/\wrS rows s=r)
structure rC(f g:Cl->Int)(rows:List LnM)(tb:zC)(ss:List Stp)(all:List Cl)(M:Int)(tk:List (Cl×Int)):Prop where
 mem:∀r,r∈tk.map (·.1)↔oN rows tb ss all ss.length r
 nd:(tk.map (·.1)).Nodup
 ho:∀p∈tk,0<=p.2/\p.2<M
 ap:∀p∈tk,∀q∈tk,p.1≠q.1->f p.1<=g q.1->f q.1<=g p.1->p.2≠q.2
structure vP(f g:Cl->Int)(rows:List LnM)(tb:zC)(es:zB)(ss:List Stp)(W:Str->List zI)(M:Int):Prop where
 nd:(es.map (·.1)).Nodup
 wn:∀x,(W x).Nodup
 tn:tb.Nodup
 ti:∀x∈tb,x∈es.map (·.1)
 bd:∀r∈gu W es,0<=f r/\f r<=g r/\g r<=(ss.length:Int)
 t0:∀x∈tb,∀c∈W x,f (x,c)=0
 w0:∀(i:Nat) s,ss[i]?=some s->(wrS rows s).1∉tb/\(wrS rows s).1∈es.map (·.1)/\((∀(j:Nat) s',j<i->ss[j]?=some s'->wrS rows s'≠wrS rows s)->f (wrS rows s)=(i:Int)+1)
 cr:∀i:Nat,i<=ss.length->(((gu W es).filter (jH f g i)).length:Int)<=M
 few:(gu W es).length<64
 mx:M<64
structure HS(A:Adr)(r HD:zW)(da:Str->zW)(es:zB)(f g:Cl->Int)(all:List Cl)(M gp:Int)(Pd G:Hp)(tk:List (Cl×Int)):Prop where
 ex:∃(b:Int)(fs:zI),A0j Pd G/\C1a Pd HD da es tk/\C3z A G r Pd b fs (jh g tk) tk.length/\BI f g all M gp tk b fs
theorem C3z.mono{r:zW}{fs:zI}{e:Int->List Int}(h:C3z A G r Pd b fs e n)(s:A0j G G'):C3z A G' r Pd b fs e n:=by refine lC h.ex ?_;rintro g F D j m l f o q a ⟨i,t,d,p,u⟩;exact⟨g,F,D,j,m,s _ _ l,s _ _ f,s _ _ o,q,λk c=>⟨s _ _ (a k c).1,(a k c).2⟩,i,t,d,p,u⟩
theorem HS.mono{r:zW}{g:Cl->Int}{a:List Cl}{gp:Int}(h:HS A r HD da es f g a M gp Pd G tk)(s:A0j G G'):HS A r HD da es f g a M gp Pd G' tk:=by obtain⟨b,j,i,c,e,d⟩:=h.ex;exact⟨b,j,i.trans s,c,e.mono s,d⟩
theorem C1a.keep(h:C1a G HD da es tk)(b:HD≠d)(c:∀e∈es,da e.1≠d):C1a (upd G d o) HD da es tk:=⟨by rw[dF b];exact h.hd,λe a=>by rw[dF (c e a)];exact h.inr e a,h.inj⟩
theorem HS.put{r:zW}{g:Cl->Int}{a:List Cl}{gp:Int}(h:HS A r HD da es f g a M gp Pd G tk)(j:Pd d=some u)(p:HD≠d)(m:∀e∈es,da e.1≠d):HS A r HD da es f g a M gp (upd Pd d o) (upd G d o) tk:=by obtain⟨b,l,k,c,n,i⟩:=h.ex;exact⟨b,l,zy k _ _,c.keep p m,n.upd j,i⟩
theorem HS.took{r:zW}{g:Cl->Int}{a:List Cl}{gp:Int}{d y:Int}{fs:zI}(v:A0j Pd G)(j:C1a Pd HD da es tk)
  (s:C3z A G r Pd d fs' (λk=>if k=g (x,c)then jh g tk k++[y]else jh g tk k) (tk.length+1)) (h:fs=[]/\y=b/\d=b+1/\fs'=[]\/fs[fs.length-1]?=some y/\d=b/\fs'=fs.dropLast) (n:BI f g a M gp tk b fs)
  (p:(x,ys)∈es) (m:(x,c)∉tk.map (·.1)) (i:(x,c)∈a) (o:f (x,c)=gp) (l:f (x,c)<=g (x,c)) (u:((a.filter λr=>decide (f r<=gp)&&decide (gp<=g r)).length:Int)<=M):
  HS A r HD da es f g a M gp (upd Pd (da x) (.dT (inn tk x++[(iB c,V.int y)]))) (upd G (da x) (.dT (inn tk x++[(iB c,V.int y)]))) (tk++[((x,c),y)]):=by
 have e:(λk=>if k=g (x,c)then jh g tk k++[y]else jh g tk k)=jh g (tk++[((x,c),y)]):=by
  funext k;rw[FK];by_cases z:k=g (x,c)
  ·rw[fW z,fW z.symm]
  ·rw[ej z,ej λq=>z q.symm]
 rw[e]at s;refine⟨d,fs',zy v _ _,j.put p c y,?_,?_⟩
 ·rw[gz,lV];exact s.upd (j.inr _ p)
 ·rcases h with ⟨rfl,rfl,rfl,rfl⟩|⟨t,rfl,rfl⟩
  ·exact n.begin_ m i o l u
  ·exact n.take m i o l t
noncomputable def kE(Pd G:Hp):Hp:=λa=>match Pd a with|some u=>some u|none=>match G a with|some (.tup xs)=>some (.tup xs)|_=>none
theorem sM:A0j Pd (kE Pd G):=λc u e=>by unfold kE;rw[e]
theorem yd(s:A0j Pd G):KT G (kE Pd G):=λc a e=>by
 unfold kE
 cases h:Pd c with
 |some u=>rw[s _ _ h]at e;exact e
 |none=>dsimp only;rw[e]
theorem EJ(s:A0j Pd G):A0j (kE Pd G) G:=λc u e=>by
 unfold kE at e
 cases h:Pd c with
 |some v=>rw[h]at e;cases e;exact s _ _ h
 |none=>
  rw[h]at e;dsimp only at e;split at e
  ·rename_i xs hx;rw[hx];exact e
  ·cases e
theorem sO{c:zW}(h:Pd c=none)(e:G c=some u)(n:∀xs,u≠.tup xs):kE Pd G c=none:=by
 unfold kE;rw[h];dsimp only;split
 ·rename_i xs hx;rw[e]at hx;exact absurd (je hx) (n xs)
 ·rfl
theorem HS.tups{r:zW}{g:Cl->Int}{a:List Cl}{gp:Int}(h:HS A r HD da es f g a M gp Pd G tk):HS A r HD da es f g a M gp (kE Pd G) G tk:=by obtain⟨b,B,s,n,u,x⟩:=h.ex;refine lC u.ex ?_;rintro p F D q t j i l v c ⟨y,C,o,w,m⟩;exact⟨b,B,EJ s,n.same sM,⟨p,F,D,q,t,j,i,l,v,λk d=>(fY ((c k d).1) ((c k d).2.1) (sO (c k d).2.2 (c k d).1 (by intro e z;cases z))),y,sO C j (by intro e z;cases z),sO o i (by intro e z;cases z),sO w l (by intro e z;cases z),m⟩,x⟩
theorem BI.lens{g:Cl->Int}{a:List Cl}{gp:Int}{fs:zI}(h:BI f g a M gp tk b fs)(n:M<64)(o:a.length<64):tk.length<64/\fs.length<64/\(∀k,(jh g tk k).length<64)/\fs.length+(jh g tk gp).length<64:=by
 have i:=oo h.tn (m:=a) λc j=>by obtain⟨p,d,rfl⟩:=gm.mp j;exact h.sub p d
 rw[eH]at i;have q:=h.ct;have t:=h.bM;have e:∀k,(jh g tk k).length<=tk.length:=λk=>by unfold jh;rw[eH];exact List.length_filter_le _ _
 have s:(jh g tk gp).length<=(lY g tk gp).length:=by
  unfold jh lY;rw[eH]
  have:∀l:List (Cl×Int),(l.filter λp=>decide (g p.1=gp)).length<=(l.filter λp=>decide (gp<=g p.1)).length:=by
   intro l
   induction l with
   |nil=>exact gf _
   |cons p r ih=>
    by_cases z:g p.1=gp
    ·rw[ry z,pF (by lia),iZ,iZ];lia
    ·rw[qd z];by_cases z2:gp<=g p.1
     ·rw[pF z2,iZ];lia
     ·rw[rz z2];exact ih
  exact this tk
 exact ip (by lia) (by lia) (λk=>by have:=e k;lia) (by lia)
theorem uG{H:Hp}{f g:Cl->Int}{W:Str->List zI}{x:Str}:∀{k:zJ}{es:zB},mK H f g W k es->x∈es.map (·.1)->∃b a,fy k (Sum.inr x)=some (.ref b)/\H b=some (.dT a)/\C8z H f g x a (W x)
 |_,_,@Paired.cons _ _ _ p e ps es' r t,h=>by
  obtain⟨m,pv⟩:=p;have l:m=Sum.inr e.1:=r.1;subst l;by_cases c:e.1=x
  ·obtain⟨b,a,d,j,i⟩:=r.2;have d:pv=.ref b:=d;subst d;rw[c]at i;exact el b a (jy (by rw[c])) j i
  ·rw[gw]at h;rcases gY.mp h with q|q
   ·exact absurd q.symm c
   ·obtain⟨b,a,d,j,i⟩:=uG t q;exact el b a ((jk λz=>c (Sum.inr.inj z)).trans d) j i
theorem uw{H:Hp}{f g:Cl->Int}{x:Str}{c:zI}:∀{a:List (List Key×V)}{cs:List zI},C8z H f g x a cs->(c∈cs->∃q,fy a (iB c)=some (.ref q)/\H q=some (.tup [.int (f (x,c)),.int (g (x,c))]))/\(c∉cs->fy a (iB c)=none)
 |_,_,.nil=>⟨(λh=>nomatch h),λ_=>rfl⟩
 |_,_,@Paired.cons _ _ _ p d ps ds r t=>by
  obtain⟨n,pv⟩:=p;obtain⟨b,q,i,l⟩:=r;have b:n=iB d:=b;have i:pv=.ref q:=i;subst b i;obtain⟨k,j⟩:=uw (c:=c) t;by_cases h:d=c
  ·subst h;exact⟨λ_=>(al q (jy rfl) l),λh=>absurd (.head _) h⟩
  ·have e:fy ((iB d,V.ref q)::ps) (iB c)=fy ps (iB c):=jk λz=>h (sN z);refine⟨λm=>?_,λm=>?_⟩
   ·rcases gY.mp m with z|z
    ·exact absurd z.symm h
    ·rw[e];exact k z
   ·rw[e];exact j λz=>m (.tail _ z)
theorem sA:(x,c)∈gu W es↔x∈es.map (·.1)/\c∈W x:=by
 unfold gu;rw[List.mem_flatMap];constructor
 ·rintro⟨e,b,h⟩;obtain⟨g,a,z⟩:=gm.mp h;injection z with z1 z2;subst z1 z2;exact⟨List.mem_map_of_mem b,a⟩
 ·rintro⟨f,d⟩;obtain⟨e,b,rfl⟩:=gm.mp f;exact al e b (List.mem_map_of_mem d)
inductive yl(A:Adr)(vs:zM)(H:Hp)(Q:VK):Prop
 |mk (p sl V0:zW) (dx l ad tl ln o:zW) (ak:zJ) (S:zV) (xs ys:zM) (ss:List Stp) (rows:List LnM) (es:zB) (tb:zC) (dk:zJ) (f g:Cl->Int) (W:Str->List zI) (M:Int) (L:zR)
  (_:vs=[.ref p,.ref sl,.ref V0]) (_:H p=some (clo A dx 1000 l ad tl ln o)) (_:H ad=some (.dK ak)) (_:AR S H ak es) (_:H tl=some (.lst (tb.map V.str))) (_:H ln=some (.lst xs)) (_:oT A [] H xs rows) (_:H sl=some (.lst ys)) (_:A2j H ys ss) (_:n6 L rows ss) (_:ss.length<=20000)
  (_:H V0=some (.dK dk)) (_:mK H f g W dk es) (_:es.length<=100) (_:vP f g rows tb es ss W M)
  (_:∀(HD:zW)(da:Str->zW)(tk:List (Cl×Int))(H':Hp),A0j H H'->C1a H' HD da es tk->rC f g rows tb ss (gu W es) M tk->Q (.ref HD) H'):yl A vs H Q
def Dz(A:Adr):Sp:=λa H Q _=>yl A a H Q
theorem Is(T:Txt K mg t):FO P w base T.bL 3 (Dz t):=by
 refine T.bL.F.ok mW λ_ A _ s H _ Q E hr h=>?_
 ·obtain⟨p,sl,V0,dx,l,ad,tl,ln,o,ak,S,xs,ys,ss,X,es,tb,dk,f,g,W,M,L,rfl,hp,a7,ar,g8,j0,i5,h6,st,j5,m3,hV,lv,i9,lo,k⟩:=h;have hu:=kF hr;have l6:=Paired.length ar;have k8:=Paired.length st;refine rsq (fa (gx 3 mW.nd (E9 T.eW (IX T) (hr.mono (by lia)) rfl T.fi T.bh.b .nil oM)) (fa (gx 4 mW.nd pT) (fa (iA (xU (iK (pv 0) rfl)) (gc (i:=5) mW.nd) (fC ⟨@nG _ _ _ _ _ _ _ _ _ hu (pv 4) (pv 5) yk rfl⟩)) ⟨@u6 _ _ _ (@jO _ _ _ _ _ (oR PassesOwn.never rfl (jc (iK (pv 0) rfl)) (gc (i:=5) mW.nd) (@jO _ _ _ _ _ (oR PassesOwn.never rfl (pU (nD PySem.F.plainAttrs_dict PySem.F.slot_dict_items PySem.F.type_dict_items pS (iE hu (pv 2) (pv 5)))) (jV (n:=2) rfl (gK (gc (i:=6) mW.nd) (gK (gc (i:=7) mW.nd) jD))) (@jN _ _ _ (@nG _ _ _ _ _ _ _ _ _ hu (iE hu (pv 4) (pv 5)) (pv 6) (uU (pv 3) T.ac T.aX (AS T) (hr.mono (by lia)) T.aq.b .nil oM (fX 7)) rfl))) (qM gW))) (@jO _ _ _ _ _ (oR PassesOwn.never rfl (sf rfl T.b9 (fX 1)) (jV (n:=2) rfl (gK (gc (i:=8) mW.nd) (gK (gc (i:=9) mW.nd) jD))) (@jO _ _ _ _ _ (jI (uU (pv 3) T.ac T.cm (Jo T) (hr.mono (by lia)) T.aH.b .nil oM (fX 8))) (@jO _ _ _ _ _ (lM (pcl (tj T) hr T.aw (dV (pv 0) (fX 9))) (jV (n:=2) rfl (gK (gc (i:=5) mW.nd) (gK (gc (i:=6) mW.nd) jD)))) (@jN _ _ _ (@pK _ _ _ _ _ _ _ _ (PW.pt (rQ (wH (BM hu (pv 6) (iE hu (pv 2) (pv 5))) (by with_unfolding_all rfl)) (su (wH (Gy hu (pv 6) (iE hu (pv 4) (pv 5))) (by with_unfolding_all rfl))))) (@jN _ _ _ (@nG _ _ _ _ _ _ _ _ _ hu (iE hu (pv 4) (pv 5)) (pv 6) (uU (pv 3) T.ac T.aX (AS T) (hr.mono (by lia)) T.aq.b .nil oM (dV (iE hu (iE hu (pv 2) (pv 5)) (pv 6)) eg)) rfl)) gW))))) (@jN _ _ _ (@ms _ _ _ _ (pv 4)))))⟩))) ?_;refine λR a4 c3 g7 l9=>?_;have q0:upd (upd H a4 (.own R)) R (.ins t.aa a4 []) R=some (.ins t.aa a4 []):=ee;have s0:A0j H (upd (upd H a4 (.own R)) R (.ins t.aa a4 [])):=hJ (fx g7) c3;generalize upd (upd H a4 (.own R)) R (.ins t.aa a4 [])=H0 at q0 s0;refine el R a4 rfl q0 λF0 D0 H1 k9 k4 FD0 r1 f1 d1 k0=>⟨rfl,?_⟩;have s1:A0j H H1:=λc u e=>k0 _ _ (ga e c3) (s0 _ _ e);have g9:H F0=none:=s0.free k9;have f9:H D0=none:=s0.free k4;refine λHD b4=>?_;obtain⟨H2,s2,l1,l4⟩:=nH (o:=.dK []) b4
  try rw[l4]
  have f5:=s1.trans s2;have b1:H HD=none:=s1.free b4;refine iM _ rfl p _ dx _ _ rfl (f5 _ _ hp) T.a9 T.ay (by walk_at"lk") ?_;refine el ad ak rfl (f5 _ _ a7) λo1=>?_;obtain⟨Gf,hGf⟩:∃Gf,Gf=upd H2 ad (.frz o1 (.dK ak)):=⟨_,rfl⟩;rw[<-hGf];have fz:Gf ad=some (.frz o1 (.dK ak)):=by rw[hGf];exact ee
  have d2:∀{b:zW}{u:HO},b≠ad->H2 b=some u->Gf b=some u:=λn e=>by rw[hGf,dF n];exact e
  have b3:ad≠HD:=ga a7 b1
  refine yF (λi Z G=>∃(o5:zP)(J:Str->zW),Z=[Sro p,Sro sl,Sro V0,Sro R,Sro HD,o5,none,none,none,none]/\KB HD Gf G/\G HD=some (.dK (hmK J (es.take i)))/\(∀e∈es.take i,G (J e.1)=some (.dT [])/\Gf (J e.1)=none)/\(∀e∈es.take i,∀e'∈es.take i,J e.1=J e'.1->e.1=e'.1))
   (ij none (λ_=>0) rfl KB.refl (by rw[List.take_zero];exact d2 b3.symm l1) (λe he=>by rw[List.take_zero]at he;cases he) (λe he=>by rw[List.take_zero]at he;cases he)) (by rintro i Z G ⟨_,_,_,kb,_⟩;exact kb _ _ b3 fz) ?_ ?_
  ·rintro i k' v Z G hk N;refine jo N ?_;clear N;rintro o5 J rfl kb hG ⟨h1,h2⟩;obtain⟨e,he,ek,_⟩:=hE ar hk;have ek:k'=Sum.inr e.1:=ek;subst ek;have et:es.take (i+1)=es.take i++[e]:=by rw[gR,he];rfl
   have a2:∀e'∈es.take i,e'.1≠e.1:=λe' a0 z=>by have nd:=lo.nd;rw[<-p8 (i+1) es,et,gB,gB,lH,lU]at nd;exact nd.2.2 e'.1 (List.mem_map_of_mem a0) e.1 (by simp) z
   refine λd hd=>?_;have sd:A0j G (upd G d (.dT [])):=fx hd;have g4:upd G d (.dT []) d=some (.dT []):=ee;have h7:HD≠d:=ga hG hd
   have l7:Gf d=none:=by
    cases B:Gf d with
    |none=>rfl
    |some u=>rw[kb _ _ h7.symm B]at hd;cases hd
   generalize upd G d (.dT [])=G1 at sd g4;refine ie _ rfl _ rfl HD _ rfl (C3j.k (k:=Sum.inr e.1) (sd _ _ hG) (by rw[eH,iP];exact gQ (by lia))) ?_;refine ij _ (λy=>if y=e.1 then d else J y) rfl (λc u hc z=>?_) ?_ (λe' a0=>?_) λe1 h0 e2 g5 z=>?_
   ·rw[dF hc];exact sd _ _ (kb _ _ hc z)
   ·have em:(es.take i).map (λe'=>((Sum.inr e'.1:Key),V.ref (if e'.1=e.1 then d else J e'.1)))=hmK J (es.take i):=List.map_congr_left λe' a0=>by rw[ej (a2 e' a0)]
    have nv:fy (hmK J (es.take i)) (Sum.inr e.1)=none:=uY λm=>by rw[List.map_map]at m;obtain⟨e',a0,z⟩:=gm.mp m;exact a2 e' a0 (Sum.inr.inj z)
    rw[ee,nI _ nv,et];show _=some (HO.dK (hmK _ (es.take i++[e])));unfold hmK;rw[gB,em];simp
   ·rw[et]at a0;rcases iQ.mp a0 with q|q
    ·obtain⟨z1,O⟩:=h1 e' q;dsimp only;rw[ej (a2 e' q)];exact⟨by rw[dF (gg (sd _ _ z1) (sd _ _ hG) (by intro z;cases z))];exact sd _ _ z1,O⟩
    ·rw[ik.mp q];dsimp only;rw[fW rfl];exact⟨by rw[dF h7.symm];exact g4,l7⟩
   ·rw[et]at h0 g5;dsimp only at z;rcases iQ.mp h0 with a|a<;>rcases iQ.mp g5 with a'|a'
    ·rw[ej (a2 e1 a),ej (a2 e2 a')]at z;exact h2 e1 a e2 a' z
    ·rw[ik.mp a',ej (a2 e1 a),fW rfl]at z;have:=(h1 e1 a).1;rw[z,hd]at this;cases this
    ·rw[ik.mp a,ej (a2 e2 a'),fW rfl]at z;have:=(h1 e2 a').1;rw[<-z,hd]at this;cases this
    ·rw[ik.mp a,ik.mp a']
  ·rintro Z G N;refine jo N ?_;clear N;rintro o5 J rfl kb hG ⟨h1,h2⟩;have lt:es.take ak.length=es:=by rw[l6,hQ]
   rw[lt]at hG h1 h2;refine jF ad o1 ak (kb _ _ b3 fz) ?_ ?_
   ·intro o' u' z;have z:H ad=some (.frz o' u'):=z;rw[a7]at z;cases z
   have b6:∀c u,H1 c=some u->c≠ad->c≠HD->upd G ad (.dK ak) c=some u:=λc u B n1 n2=>by rw[dF n1];exact kb _ _ n2 (d2 n1 (s2 _ _ B))
   have c8:∀c u,H c=some u->upd G ad (.dK ak) c=some u:=λc u B=>by
    by_cases z:c=ad
    ·subst z;rw[a7]at B;cases B;exact ee
    ·exact b6 c u (s1 _ _ B) z (ga B b1)
   have ra:R≠ad:=(ga a7 c3).symm;have Fa:F0≠ad:=(ga a7 g9).symm;have Da:D0≠ad:=(ga a7 f9).symm;have rH:R≠HD:=ga r1 b4;have FH:F0≠HD:=ga f1 b4;have DH:D0≠HD:=ga d1 b4
   have d8:∀e∈es,H (J e.1)=none/\J e.1≠R/\J e.1≠F0/\J e.1≠D0:=λe he=>by
    have z:=(h1 e he).2
    have nf:∀c u,H1 c=some u->c≠ad->J e.1≠c:=λc u B n q=>by rw[q,d2 n (s2 _ _ B)]at z;cases z
    refine ip ?_ (nf _ _ r1 ra) (nf _ _ f1 Fa) (nf _ _ d1 Da)
    cases B:H (J e.1)with
    |none=>rfl
    |some u=>
     by_cases q:J e.1=ad
     ·rw[q,fz]at z;cases z
     ·exact absurd rfl (nf _ _ (s1 _ _ B) q)
   obtain⟨Pd0,hPd0⟩:∃Pd0,Pd0=iC (λa=>a≠R/\a≠F0/\a≠D0) (upd G ad (.dK ak)):=⟨_,rfl⟩
   have j3:A0j H Pd0:=λc u B=>by rw[hPd0];exact ky (fY (ga B c3) (ga B g9) (ga B f9)) (c8 c u B)
   have np:∀c,(c=R\/c=F0\/c=D0)->Pd0 c=none:=λc hc=>by
    cases B:Pd0 c with
    |none=>rfl
    |some u=>
     rw[hPd0]at B;obtain⟨n1,n2,n3⟩:=(jz B).1;rcases hc with z|z|z
     ·exact absurd z n1
     ·exact absurd z n2
     ·exact absurd z n3
   have M0:0<=M:=Int.le_trans (Int.natCast_nonneg _) (lo.cr 0 (iG _))
   have f6:HS t R HD J es f g (gu W es) M 0 Pd0 (upd G ad (.dK ak)) []:=by
    refine⟨0,[],λc u B=>?_,⟨?_,λe he=>?_,h2⟩,⟨a4,F0,D0,[],λ_=>0,b6 _ _ r1 ra rH,b6 _ _ f1 Fa FH,b6 _ _ d1 Da DH,λk=>rfl,λk hk=>absurd rfl hk,λk k' hk=>absurd rfl hk,np _ (.inl rfl),np _ (.inr (.inl rfl)),np _ (.inr (.inr rfl)),gf _⟩,BI.zero M0 0⟩
    ·rw[hPd0]at B;exact(jz B).2
    ·rw[hPd0];exact ky (fY rH.symm FH.symm DH.symm) (by rw[dF b3.symm];exact hG)
    ·obtain⟨z0,z1,O,z3⟩:=d8 e he;rw[hPd0];refine ky (fY z1 O z3) ?_;rw[dF (gg (h1 e he).1 (kb _ _ b3 fz) (by intro z;cases z))];exact(h1 e he).1
   generalize upd G ad (.dK ak)=G1 at f6 c8;clear hPd0 np;have e8:∀e∈es,H (J e.1)=none:=λe he=>(d8 e he).1;clear d8 h1 h2 hG kb b6 fz d2;have cM:∀i:Nat,i<=ss.length->(((gu W es).filter λr=>decide (f r<=(i:Int))&&decide ((i:Int)<=g r)).length:Int)<=M:=lo.cr;refine iM _ rfl p _ dx _ _ rfl (c8 _ _ hp) T.a9 T.bG (by walk_at"lk") ?_;refine fV tl rfl ⟨_,SqL.of (c8 _ _ g8)⟩ ?_
   refine kz (K:=K) (a:=tl) (xs:=tb.map V.str) (λi Z G=>∃(o5 o6 o7:zP)(Pd:Hp)(tk:List (Cl×Int)),Z=[Sro p,Sro sl,Sro V0,Sro R,Sro HD,o5,o6,o7,none,none]/\A0j H Pd/\HS t R HD J es f g (gu W es) M 0 Pd G tk/\∀r,r∈tk.map (·.1)↔r∈gu W es/\r.1∈tb.take i)
    (jw o5 none (gD none Pd0 [] rfl j3 f6 λr=>by simp)) (by (rintro i Z G _ N;refine jp N ?_;clear N;rintro _ _ _ ⟨Pd,_,_,z1,O,_⟩);obtain⟨_,_,z3,_⟩:=O.ex;exact SqL.of (z3 _ _ (z1 _ _ g8))) ?_ ?_
   ·rintro i v Z G2 hv N;refine jp N ?_;clear N;rintro o5 o6 o7 ⟨Pd,tk,rfl,sP,hs,I⟩;obtain⟨x,hx,rfl⟩:=md hv;have xt:x∈tb:=gT hx;have xe:=lo.ti x xt;obtain⟨a1,Y,a6⟩:=gm.mp xe;obtain⟨b,C,vb,hb,lc⟩:=uG lv xe;obtain⟨_,_,c4,_⟩:=id hs.ex;have up:∀{c u},H c=some u->G2 c=some u:=λB=>c4 _ _ (sP _ _ B);have gv:=A6z.k (H:=G2) (a:=V0) (k:=Sum.inr x) (up hV);rw[vb]at gv;have d3:=up hb;have et:tb.take (i+1)=tb.take i++[x]:=by rw[gR,hx];rfl
    have a2:x∉tb.take i:=pd lo.tn hx;refine ie _ rfl _ rfl V0 _ rfl gv ?_;refine⟨.inr (.inr (.inl ⟨rfl,.inr ⟨_,d3⟩⟩)),(ij b _ rfl rfl d3 (.inr ⟨_,rfl⟩) λv2 g0=>?_)⟩;have bv:b≠v2:=ga d3 g0;have sv:A0j G2 (upd G2 v2 (ju v2 b)):=fx g0;have g3:upd G2 v2 (ju v2 b) b=some (.dT C):=by rw[dF bv];exact d3
    refine gD v2 b _ rfl ee g3 (.inr (al C rfl λo2 Lk kl=>?_));have j2:=hs.mono sv;have j8:A0j Pd (upd G2 v2 (ju v2 b)):=c4.trans sv;have k5:kE Pd (upd G2 v2 (ju v2 b)) b=some (.dT C):=sM _ _ (sP _ _ hb);have bH:HD≠b:=(ga hb b1).symm;have e9:∀e∈es,J e.1≠b:=λe he=>(ga hb (e8 e he)).symm;have e7:=j2.tups.put (o:=.frz o2 (.dT C)) k5 bH e9;have f0:upd (kE Pd (upd G2 v2 (ju v2 b))) b (.frz o2 (.dT C)) b=some (.frz o2 (.dT C)):=ee;have h8:∀c u,c≠b->H c=some u->upd (kE Pd (upd G2 v2 (ju v2 b))) b (.frz o2 (.dT C)) c=some u:=λc u n B=>by rw[dF n];exact sM _ _ (sP _ _ B)
    have e5:KL (upd (kE Pd (upd G2 v2 (ju v2 b))) b (.frz o2 (.dT C))) C Lk:=Paired.mapP kl λ_ _ z=>by obtain⟨bc,z1,O,z3⟩:=z;exact fV bc z1 (by rw[dF (gg O g3 (by intro z;cases z))];exact yd j8 _ _ O) z3
    generalize upd (kE Pd (upd G2 v2 (ju v2 b))) b (.frz o2 (.dT C))=Pz at e7 f0 h8 e5;generalize upd (upd G2 v2 (ju v2 b)) b (.frz o2 (.dT C))=Gz at e7;have k2:=Paired.length e5;have i7:=Paired.length lc
    refine qO (L:=Lk) (λj Z G=>∃(o6 o7:zP)(Pd:Hp)(tk:List (Cl×Int)),Z=[Sro p,Sro sl,Sro V0,Sro R,Sro HD,Sso x,o6,o7,none,none]/\(∀c u,c≠b->H c=some u->Pd c=some u)/\Pd b=some (.frz o2 (.dT C))/\KT Pz Pd/\HS t R HD J es f g (gu W es) M 0 Pd G tk/\∀r,r∈tk.map (·.1)↔r∈gu W es/\(r.1∈tb.take i\/(r.1=x/\r.2∈(W x).take j)))
     (kJ o6 o7 Pz tk rfl h8 f0 (λ_ _ z=>z) e7 λr=>by rw[I r];simp) (by (rintro j Z G N;refine jd N ?_;clear N;rintro _ _ Pd _ _ _ z1 _ ⟨O,_⟩);obtain⟨_,_,z3,_⟩:=O.ex;exact z3 _ _ z1) ?_ ?_
    ·rintro j kx vx qq Z G' hL hq N;refine jd N ?_;clear N;rintro o6 o7 Pd tk rfl sP fP kP ⟨hs,I⟩;have hj:j<Lk.length:=(gG.mp hL).1;have f2:C[j]?=some (C[j]'(by lia)):=hB _;obtain⟨y,hy,bc,y1,y2,y3⟩:=hE e5 f2;rw[hL]at hy;cases hy;obtain⟨c,hc,ec,q,l5,f7⟩:=hE lc f2;have i2:vx=.ref q:=y3.trans l5;clear y3;obtain rfl:kx=.ref bc:=y1;subst i2;rw[ec]at y2;have sq:A0j G' (upd G' qq (.tup [.ref bc,.ref q])):=fx hq;have c0:upd G' qq (.tup [.ref bc,.ref q]) qq=some (.tup [.ref bc,.ref q]):=ee;have g1:=hs.mono sq;generalize upd G' qq (.tup [.ref bc,.ref q])=G3 at sq c0 g1;obtain⟨b0,fs,sm,hm,bx,bi⟩:=g1.ex;obtain⟨t1,t2,t3,_⟩:=bi.lens lo.mx lo.few;refine jp (id bx.ex) ?_;rintro e3 F D ⟨en,k1,w1,_⟩;have cW:c∈W x:=gT hc;have U:(x,c)∈gu W es:=sA.mpr ⟨xe,cW⟩;have bd:=lo.bd _ U;have qb:q≠b:=gg f7 hb (by intro z;cases z)
     have d5:(x,c)∉tk.map (·.1):=λm=>by
      rcases(I _).mp m with ⟨_,m|m⟩
      ·exact a2 m
      ·exact pd (lo.wn x) hc m.2
     refine jJ qq _ rfl (SqT.of c0) rfl _ _ rfl _ _ rfl rfl ?_;refine al _ rfl (jn R e3 _ rfl (iw w1 (by walk_at"lk") _ rfl ?_));refine jQ R q (f (x,c)) (mh (g (x,c)) b0 Pd fs (jh g tk) tk.length rfl (sm _ _ (sP _ _ qb f7)) sm bx (by lia) (λk=>by have:=t3 k;lia) (by lia) λy b' l8 G4 c5 i6 e6=>?_);have gd:=A6z.k (H:=G4) (a:=HD) (k:=Sum.inr x) (c5 _ _ hm.hd);rw[pO xe]at gd;have a8:=hm.inr a1 Y;rw[a6]at a8;refine ie _ rfl _ rfl HD _ rfl gd (gr _ rfl (J x) _ rfl (.inr (gX (inn tk x) (iB c) bc (c5 _ _ a8) rfl (c5 _ _ (kP _ _ y2)) ?_ rfl)) ?_)
     ·have:(inn tk x).length<=tk.length:=by unfold inn;rw[eH];exact List.length_filter_le _ _
      exact gQ (by lia)
     rw[nI _ (ya d5)];have a0:(x,a1.2)∈es:=by rw[<-a6];exact Y
     have e4:=HS.took (ys:=a1.2) c5 hm i6 e6 bi a0 d5 U (lo.t0 x xt c cW) bd.2.1 (cM 0 (iG _));have l2:J x≠b:=by have:=e9 a1 Y;rw[a6]at this;exact this
     refine kJ _ _ _ _ rfl (λc' u n B=>?_) ?_ (λc' m2 B=>?_) e4 λr=>?_
     ·rw[dF (λz=>by have:=e8 a1 Y;rw[a6,<-z,B]at this;cases this)];exact sP _ _ n B
     ·rw[dF l2.symm];exact fP
     ·have:=kP _ _ B;rw[dF (gg this a8 (by intro z;cases z))];exact this
     ·rw[gB,iQ,I r,gR,hc];simp only [gw,List.map_nil,ik,jG,iQ];constructor
      ·rintro(⟨z1,O|⟨O,z3⟩⟩|rfl)
       ·exact⟨z1,.inl O⟩
       ·exact⟨z1,.inr ⟨O,.inl z3⟩⟩
       ·exact⟨U,.inr ⟨rfl,.inr rfl⟩⟩
      ·rintro⟨z1,O|⟨O,z3|z3⟩⟩
       ·exact .inl ⟨z1,.inl O⟩
       ·exact .inl ⟨z1,.inr ⟨O,z3⟩⟩
       ·exact .inr (Prod.ext O z3)
    ·rintro Z G' N;refine jd N ?_;clear N;rintro o6 o7 Pd tk rfl sP fP kP ⟨hs,I⟩;obtain⟨_,_,sm,_⟩:=id hs.ex;refine gD b o2 _ (sm _ _ fP) (.inr ⟨_,rfl⟩) (λo' u' z=>by have z:H b=some (.frz o' u'):=z;rw[hb]at z;cases z) ?_;have l3:=hs.put (o:=.dT C) fP bH e9;refine jw _ _ (gD _ _ _ rfl (λc u B=>?_) l3 λr=>?_)
     ·by_cases z:c=b
      ·subst z;rw[hb]at B;cases B;exact ee
      ·rw[dF z];exact sP _ _ z B
     ·rw[I r,et,<-k2,i7,hQ,iQ,ik];constructor
      ·rintro⟨z1,O|O⟩
       ·exact⟨z1,.inl O⟩
       ·exact⟨z1,.inr O.1⟩
      ·rintro⟨z1,O|O⟩
       ·exact⟨z1,.inl O⟩
       ·refine⟨z1,.inr ⟨O,?_⟩⟩;rw[<-O];exact(sA.mp z1).2
   ·rintro Z G2 N;refine jp N ?_;clear N;rintro o5 o6 o7 ⟨Pd,tk,rfl,sP,hs,I⟩;rw[eH,hQ]at I
    have g2:∀r,r∈tk.map (·.1)↔oN X tb ss (gu W es) 0 r:=λr=>by rw[I r];exact⟨λz=>⟨z.1,.inl z.2⟩,λz=>⟨z.1,z.2.resolve_right λ⟨j,_,q,_⟩=>absurd q (Nat.not_lt_zero j)⟩⟩
    clear I;obtain⟨_,_,c4,_⟩:=id hs.ex;refine gr _ rfl sl _ rfl (SqL.of (c4 _ _ (sP _ _ h6))) ?_
    refine sL (K:=K) (a:=sl) (xs:=ys) (λi Z G=>∃(o5 o6 o7 o8 o9:zP)(Pd:Hp)(tk:List (Cl×Int)),Z=[Sro p,Sro sl,Sro V0,Sro R,Sro HD,o5,o6,o7,o8,o9]/\A0j H Pd/\HS t R HD J es f g (gu W es) M (i:Nat) Pd G tk/\∀r,r∈tk.map (·.1)↔oN X tb ss (gu W es) i r)
     (mF o5 o6 o7 none none Pd (iV tk rfl sP hs g2)) (by (rintro i Z G N;refine jS N ?_;clear N;rintro _ _ _ _ _ Pd ⟨_,_,z1,O,_⟩);obtain⟨_,_,z3,_⟩:=O.ex;exact SqL.of (z3 _ _ (z1 _ _ h6))) ?_ ?_
    ·rintro i v Z G4 qq hv N;refine jS N ?_;clear N;rintro o5 o6 o7 o8 o9 Pd ⟨tk,rfl,sP,hs,I⟩ hq;obtain⟨a3,b2,h9⟩:=hE st hv;obtain⟨kk,e,si⟩:=j5 a3 (gT b2);have d6:X[a3.1.toNat]?=some e:=by rw[si.hk];exact si.he
     have hi:i<ss.length:=(gG.mp b2).1;have ew:wrS X a3=(e.nm,a3.2.2.1):=by unfold wrS;rw[d6]
     obtain⟨w1,w2,w3⟩:=lo.w0 i a3 b2;rw[ew]at w1 w2 w3;obtain⟨b8,_,_,rfl,_⟩:=id h9;have sq:A0j G4 (upd G4 qq (.tup [.int (i:Nat),.ref b8])):=fx hq;have c0:upd G4 qq (.tup [.int (i:Nat),.ref b8]) qq=some (.tup [.int (i:Nat),.ref b8]):=ee;have i1:=hs.mono sq;generalize upd G4 qq (.tup [.int (i:Nat),.ref b8])=G5 at sq c0 i1;obtain⟨b0,fs,sm,hm,bx,bi⟩:=i1.ex;obtain⟨_,_,_,t4⟩:=bi.lens lo.mx lo.few;refine jp (id bx.ex) ?_;rintro e3 F D ⟨en,k1,u1,_⟩;refine jJ qq _ rfl (SqT.of c0) rfl _ _ rfl _ _ rfl rfl ?_;refine al _ rfl (jn R e3 _ rfl (iw u1 (by walk_at"lk") _ rfl ?_));refine jQ R (i:Nat) b0 (iI Pd fs (jh g tk) tk.length rfl sm bx t4 λl0 G6 d9 i4 pm=>?_);have j7:=bi.next pm;have j9:HS t R HD J es f g (gu W es) M ((i+1:Nat):Int) Pd G6 tk:=⟨b0,l0,d9,hm,i4,by push_cast;exact j7⟩;have c7:A0j H G6:=sP.trans d9;refine mE _ rfl _ rfl p dx l ad tl ln o b8 1000 (mX xs [] X e (toM a3) rfl (c7 _ _ hp) (c7 _ _ j0) (Paired.mapP i5 λ_ _ z=>z.same c7) ((h9.kt (KT.same c7)).toM (by rw[si.hk];lia)) d6 λq G7 f3 tr=>?_);obtain⟨q',cq,eq,i8,b5⟩:=tr;cases eq;have b5:G7 cq=some (.tup (a3.2.2.1.map V.int)):=b5;have c6:=(j9.mono f3).tups;have c2:A0j H (kE Pd G7):=sP.trans sM;have g6:KT G7 (kE Pd G7):=yd (d9.trans f3);have f4:=g6 _ _ b5;generalize kE Pd G7=P7 at c6 c2 f4;clear g6;obtain⟨b7,j6,c9,d0,h5,f8⟩:=c6.ex;obtain⟨t1,t2,t3,_⟩:=f8.lens lo.mx lo.few;refine jJ q _ rfl (SqT.of i8) rfl _ _ rfl _ _ rfl rfl ?_;generalize a3.2.2.1=c at *;obtain⟨a1,Y,a6⟩:=gm.mp w2;obtain⟨b,C,vb,hb,lc⟩:=uG lv w2;have c1:A0j H G7:=c2.trans c9;have gv:=A6z.k (H:=G7) (a:=V0) (k:=Sum.inr e.nm) (c1 _ _ hV);rw[vb]at gv;have gb:A6z G7 b (.ref cq) (fy C (iB c)):=A6z.t (c1 _ _ hb) (by rw[b5,List.map_map];rfl)
     have gd:A6z G7 HD (.str e.nm) (some (.ref (J e.nm))):=by have z:=A6z.k (H:=G7) (a:=HD) (k:=Sum.inr e.nm) (c9 _ _ d0.hd);rw[pO w2]at z;exact z
     have a8:=d0.inr a1 Y;rw[a6]at a8;have gi:A6z G7 (J e.nm) (.ref cq) (fy (inn tk e.nm) (iB c)):=A6z.t (c9 _ _ a8) (by rw[b5,List.map_map];rfl)
     have a5:∀r,r∈gu W es->(oN X tb ss (gu W es) (i+1) r↔oN X tb ss (gu W es) i r\/r=(e.nm,c)):=λr hr=>by
      constructor
      ·rintro⟨h1,h2|⟨j,s',h2,h3,h4⟩⟩
       ·exact .inl ⟨h1,.inl h2⟩
       ·by_cases z:j=i
        ·subst z;rw[b2]at h3;cases h3;exact .inr (h4.symm.trans ew)
        ·exact .inl ⟨h1,.inr (el j s' (by lia) h3 h4)⟩
      ·rintro(⟨h1,h2|⟨j,s',h2,h3,h4⟩⟩|rfl)
       ·exact⟨h1,.inl h2⟩
       ·exact⟨h1,.inr (el j s' (by lia) h3 h4)⟩
       ·exact⟨hr,.inr (el i a3 (by lia) b2 ew)⟩
     have d7:((e.nm,c)∈gu W es->(e.nm,c)∈tk.map (·.1))->∀r,r∈tk.map (·.1)↔oN X tb ss (gu W es) (i+1) r:=λh r=>by
      constructor
      ·intro m;have m':=(I r).mp m;exact(a5 r m'.1).mpr (.inl m')
      ·intro m;rcases(a5 r m.1).mp m with m'|rfl
       ·exact(I r).mpr m'
       ·exact h m.1
     by_cases cW:c∈W e.nm
     ·obtain⟨ql,vq,j4⟩:=(uw lc).1 cW;rw[vq]at gb;have U:(e.nm,c)∈gu W es:=sA.mpr ⟨w2,cW⟩;refine iJ _ rfl _ rfl (lP _ rfl V0 _ rfl gv b _ rfl gb _ rfl (kN ?_));by_cases hi2:(e.nm,c)∈tk.map (·.1)
      ·obtain⟨v0,i3⟩:=Option.isSome_iff_exists.mp (xp.mpr hi2);rw[i3]at gi;refine iJ _ rfl _ rfl (lP _ rfl HD _ rfl gd (J e.nm) _ rfl gi _ rfl (gM ?_));exact mF _ _ _ _ _ P7 (iV tk rfl c2 c6 (d7 λ_=>hi2))
      ·have vi:=ya hi2;rw[vi]at gi;refine iJ _ rfl _ rfl (lP _ rfl HD _ rfl gd (J e.nm) _ rfl gi _ rfl (kN ?_));refine jp (id h5.ex) ?_;rintro k3 F7 D7 ⟨m1,m0,u7,_⟩;refine al _ rfl (gD R k3 _ rfl u7 (by walk_at"lk") (ie _ rfl _ rfl V0 _ rfl gv (gr _ rfl b _ rfl gb ?_)));refine jQ R ql (f (e.nm,c)) (mh (g (e.nm,c)) b7 P7 j6 (jh g tk) tk.length rfl (c1 _ _ j4) c9 h5 (by lia) (λk=>by have:=t3 k;lia) (by lia) λy b' l8 G8 d4 j1 e6=>?_)
       have k7:A6z G8 HD (.str e.nm) (some (.ref (J e.nm))):=by have z:=A6z.k (H:=G8) (a:=HD) (k:=Sum.inr e.nm) (d4 _ _ d0.hd);rw[pO w2]at z;exact z
       refine ie _ rfl _ rfl HD _ rfl k7 (gr _ rfl (J e.nm) _ rfl (.inr (gX (inn tk e.nm) (iB c) cq (d4 _ _ a8) rfl (by rw[d4 _ _ f4,List.map_map];rfl) ?_ rfl)) ?_)
       ·have:(inn tk e.nm).length<=tk.length:=by unfold inn;rw[eH];exact List.length_filter_le _ _
        exact gQ (by lia)
       rw[nI _ vi];have a0:(e.nm,a1.2)∈es:=by have i0:a1.1=e.nm:=a6;rw[<-i0];exact Y
       have hf:f (e.nm,c)=((i+1:Nat):Int):=by
        rw[w3 λj s' hj k6 z=>hi2 ((I _).mpr ⟨U,.inr (el j s' hj k6 z)⟩)]
        push_cast
        rfl
       have e4:=HS.took (ys:=a1.2) d4 d0 j1 e6 f8 a0 hi2 U hf (lo.bd _ U).2.1 (cM (i+1) hi);refine mF _ _ _ _ _ _ (iV _ rfl (λc' u B=>?_) e4 λr=>?_)
       ·rw[dF (λz=>by have:=e8 a1 Y;rw[a6,<-z,B]at this;cases this)];exact c2 _ _ B
       ·rw[gB,iQ,I r];simp only [gw,List.map_nil,ik];constructor
        ·rintro(m|rfl)
         ·exact(a5 r m.1).mpr (.inl m)
         ·exact(a5 _ U).mpr (.inr rfl)
        ·intro m;exact(a5 r m.1).mp m
     ·rw[(uw lc).2 cW]at gb;refine iJ _ rfl _ rfl (lP _ rfl V0 _ rfl gv b _ rfl gb _ rfl (gM ?_));exact gM (mF _ _ _ _ _ P7 (iV tk rfl c2 c6 (d7 λm=>absurd (sA.mp m).2 cW)))
    ·rintro Z G4 N;refine jS N ?_;clear N;rintro o5 o6 o7 o8 o9 Pd ⟨tk,rfl,sP,hs,I⟩;obtain⟨b,fs,sm,hm,bx,bi⟩:=hs.ex;refine al _ rfl (k HD J tk G4 (sP.trans sm) (hm.same sm) ⟨λr=>?_,bi.tn,λq hq=>⟨(bi.ho q hq).1,by have:=(bi.ho q hq).2.1;have:=bi.bM;lia⟩,bi.ap⟩);rw[I r,k8]
theorem tY{p:Nat->Bool}{i:Nat}(h:p i=true):∀{n:Nat},i<n->∃j,FI p n=some j
 |n+1,hi=>by
  show∃j,(match FI p n with|some j=>some j|none=>if p n=true then some n else none)=some j
  cases e:FI p n with
  |some j=>exact⟨j,rfl⟩
  |none=>
   by_cases z:i=n
   ·subst z;exact⟨i,by simp[h]⟩
   ·obtain⟨j,a⟩:=tY h (n:=n) (by lia);rw[a]at e;cases e
theorem Be{p:Nat->Bool}(h:∀i,i<n->¬p i=true):FI p n=none:=by
 cases e:FI p n with
 |none=>rfl
 |some j=>exact absurd (oH e).2.1 (h j (oH e).1)
theorem Fr{r:Cl}(b:ss[i]?=some s)(l:wrS rows s=r)(h:∀(j:Nat) s',j<i->ss[j]?=some s'->wrS rows s'≠r):ii rows ss r=(i:Int)+1:=by
 have k:i<ss.length:=(gG.mp b).1;have c:wrA rows ss r i=true:=(oV b).mpr l;obtain⟨j,d⟩:=tY c k;obtain⟨f,m,g⟩:=oH d
 have e:j=i:=by
  rcases Nat.lt_trichotomy j i with z|z|z
  ·have a:ss[j]?=some (ss[j]'f):=hB _;exact absurd ((oV a).mp m) (h j _ z a)
  ·exact z
  ·exact absurd c (g i z)
 unfold ii;rw[d,e];rfl
theorem EY{r:Cl}(h:∀(j:Nat) s',ss[j]?=some s'->wrS rows s'≠r):ii rows ss r=0:=by
 have e:FI (wrA rows ss r) ss.length=none:=Be λi b z=>by have a:ss[i]?=some (ss[i]'b):=hB _;exact h i _ a ((oV a).mp z)
 unfold ii;rw[e];rfl
theorem Br(y:mM L nm es tb T rows os)(J:B5d lk L nm)(v:n6 L rows ss)(p:∀s∈iu (rows.map (iq L)) rows.length,s∈ss)(t:∀s∈ss,s∈iu (rows.map (iq L)) rows.length)(H:pJ lk rows (iu (rows.map (iq L)) rows.length) ss)
  (o:tb=(es.take T).map (·.1)) (f:(mkW lk L es rows os).length<64) (M:B4m (lK (ii rows ss) (lsW lk L es rows os ss) (mkW lk L es rows os) ss.length) gp):
  vP (ii rows ss) (lsW lk L es rows os ss) rows tb es ss (iR (wkF lk L es rows os) (szE L es)) ((ki (ii rows ss) (lsW lk L es rows os ss) (mkW lk L es rows os) gp).length:Int):=by
 have A:=y.eo.nd;have l:es.map (·.1)=tb++(es.drop T).map (·.1):=by rw[o,<-gB,p8]
 have a:=A;rw[l,lU]at a
 have n:∀(i:Nat) s,ss[i]?=some s->(wrS rows s).1∈(es.drop T).map (·.1):=λi s b=>by
  obtain⟨k,e,g⟩:=v s (gT b);have d:rows[s.1.toNat]?=some e:=by rw[g.hk];exact g.he
  have F:wrS rows s=(e.nm,s.2.2.1):=by unfold wrS;rw[d]
  rw[F];have:=(y.row k e g.he).1;refine gm.mpr (al (e.nm,e.own) (gT (i:=k) ?_) rfl);rw[List.getElem?_drop];exact this
 obtain⟨m,O,C,G⟩:=M;have B:(lK (ii rows ss) (lsW lk L es rows os ss) (mkW lk L es rows os) ss.length).length=ss.length+1:=by rw[eH,List.length_range]
 have N:m=((ki (ii rows ss) (lsW lk L es rows os ss) (mkW lk L es rows os) gp).length:Int):=by have K:=List.idxOf_lt_length_of_mem O;have w:=List.getElem_idxOf K;rw[List.getElem_map,List.getElem_range]at w;rw[<-w,<-G];rfl
 refine⟨A,λx=>uK _ _ x,a.1,λx u=>by rw[l];exact nT _ u,λr D=>sr p t H (rV D),λx u c _=>EY λj I q z=>?_,λi s b=>(fY (λz=>?_) (by rw[l];exact lJ _ (n i s b)) λh=>Fr b rfl h),λi P=>?_,f,?_⟩
 ·have:=n j I q;rw[z]at this;exact a.2.2 x u x this rfl
 ·exact a.2.2 _ z _ (n i s b) rfl
 ·rw[<-N];exact C _ (gm.mpr (al i (List.mem_range.mpr (by lia)) rfl))
 ·have:=List.length_filter_le (jH (ii rows ss) (lsW lk L es rows os ss) gp) (mkW lk L es rows os);have:(ki (ii rows ss) (lsW lk L es rows os ss) (mkW lk L es rows os) gp).length<64:=p9 this f
  lia
inductive xX(A:Adr)(vs:zM)(H:Hp)(Q:VK):Prop
 |mk (p sl:zW) (L:zR) (nm:zC) (es:zB) (tb:zC) (T:Nat) (rows:List LnM) (os:zC) (ys:zM) (ss:List Stp) (lk:zJ) (_:vs=[.ref p,.ref sl]) (_:ClF A H p L nm es rows os) (_:∃dx l a tl ln o,H p=some (clo A dx 1000 l a tl ln o)/\H tl=some (.lst (tb.map V.str))) (_:mM L nm es tb T rows os) (_:B5d lk L nm) (_:H sl=some (.lst ys)) (_:A2j H ys ss) (_:n6 L rows ss) (_:ss.length<=20000) (_:∀s∈iu (rows.map (iq L)) rows.length,s∈ss) (_:∀s∈ss,s∈iu (rows.map (iq L)) rows.length) (_:pJ lk rows (iu (rows.map (iq L)) rows.length) ss)
  (_:tb=(es.take T).map (·.1)) (_:(mkW lk L es rows os).length<64)
  (_:∀(q HD:zW)(da:Str->zW)(tk:List (Cl×Int))(i:Nat)(H':Hp),A0j H H'->H' q=some (.tup [.int ((ki (ii rows ss) (lsW lk L es rows os ss) (mkW lk L es rows os) i).length:Nat),.ref HD])->C1a H' HD da es tk->rC (ii rows ss) (lsW lk L es rows os ss) rows tb ss (mkW lk L es rows os) ((ki (ii rows ss) (lsW lk L es rows os ss) (mkW lk L es rows os) i).length:Int) tk->B4m (lK (ii rows ss) (lsW lk L es rows os ss) (mkW lk L es rows os) ss.length) i->Q (.ref q) H'):xX A vs H Q
def Cd(A:Adr):Sp:=λa H Q _=>xX A a H Q
theorem HA(T:Txt K mg t):FO P w base T.c6 18 (Cd t):=by
 refine T.c6.F.ok sU λ_ A _ s H _ Q E C h=>?_
 ·obtain⟨p,W,L,nm,es,tb,T0,c,v,ys,u,x,rfl,cl,ht,N,f,g,R,m,G,j,J,rb,a4,S,k⟩:=h;have I:=Paired.length R;have y:=N.eo.few;have ml:=xG f N es λ_ h=>h;refine rsq (fa (gx 2 sU.nd (pcl (Av T) C T.bB (dV (pv 0) (fX 1)))) (fa ⟨lM (pcl (AG T) C T.aN (dV (pv 2) (dV (jr T.aj (fX 1)) eg))) (jV (n:=2) rfl (gK (gc (i:=3) sU.nd) (gK (gc (i:=4) sU.nd) jD)))⟩ (fC (gq (ir (dV (jr T.aj (fX 4)) (dV (pcl (Is T) C T.bL (dV (pv 0) (dV (pv 1) (fX 2)))) eg))))))) ?_;refine mE _ rfl _ rfl p W L nm es tb T0 c v (gX ys u x rfl cl N f (ka g R m G j λD X H1 hD s1 B lv=>?_));refine ie _ rfl _ rfl W _ rfl (.inl (SqL.of (s1 _ _ g))) ?_;refine⟨D,ys.length,_,_,_,X,es,rfl,by lia,B,lv,λr C=>?_,?_,λq CR cs i H2 b0 O hq hC rd Y=>?_⟩
  ·rw[I];exact sr j J rb (rV C)
  ·have:(gu (iR (wkF x L es c v) (szE L es)) es).length<=es.length*60:=ml
   lia
  ·rw[I]at Y;refine jJ q _ rfl (SqT.of hq) rfl _ _ rfl _ _ rfl rfl ?_;refine lB cl.ex ?_;rintro dx l ad tl ln o a8 ak xs hp hl ⟨a5,a1,ar,ho,a3,Z,la⟩;refine jS ht ?_;clear ht;rintro a6 l' b1 a7 a9 o' ⟨a,a0⟩;rw[hp]at a;injection a with a;injection a with _ _ a;injection a with _ a;injection a with _ a;injection a with _ a;injection a with a _;injection a with _ a;injection a with a;subst a;have d:=s1.trans O;have a2:cs.length=(ki (ii c u) (lsW x L es c v u) (mkW x L es c v) i).length:=Paired.length rd;have U:mK H2 (ii c u) (lsW x L es c v u) (iR (wkF x L es c v) (szE L es)) X es:=Paired.mapP lv λ_ _ z=>⟨z.1,D7h.keep z.2 (λb tk e _=>O _ _ e) (KT.same O)⟩
   refine gr _ rfl CR _ rfl (.inl (SqL.of hC)) (al _ rfl (iJ _ rfl _ rfl ⟨p,W,D,dx,l,ad,tl,ln,o,ak,λ_=>True,xs,ys,u,c,es,tb,X,_,_,_,_,L,rfl,d _ _ hp,d _ _ a1,ar.same d,d _ _ a0,d _ _ a3,Paired.mapP Z λ_ _ z=>z.same d,d _ _ g,Paired.mapP R λ_ _ z=>z.kt (KT.same d),m,G,O _ _ B,U,y,Br N f m j J rb a4 S Y,λHD da tk H3 s3 hm ok=>?_⟩));refine⟨gj rfl,λqq M=>?_⟩;have s4:=s3.trans (fx (o:=.tup [.int (cs.length:Nat),.ref HD]) M);refine k qq HD da tk i _ (d.trans s4) ?_ (hm.same (fx M)) ok Y;rw[<-a2];exact ee
structure Spn where
 z:Int
 w:Int
 tabs:zB
 looks:List (List Cl)
 outs:zC
 sum:List Bool
def D2y(H:Hp)(v:V)(l:List Cl):Prop:=∃(R:zW)(a:zM),v=.ref R/\H R=some (.lst a)/\Rds H a l
def D0o(H:Hp)(v:V)(e:Str×List Str):Prop:=∃(b c:zW),v=.ref b/\H b=some (.lst [.str e.1,.ref c])/\H c=some (.lst (e.2.map V.str))
abbrev spK(d b e a c:zW):zJ:=[(Sum.inr "sizes",.ref d),(Sum.inr "tables",.ref b),(Sum.inr "looks",.ref e),(Sum.inr "outs",.ref a),(Sum.inr "summed",.ref c)]
abbrev szK(z w:Int):zJ:=[(Sum.inr "z",.int z),(Sum.inr "w",.int w)]
inductive C7i(H:Hp)(ab:zW)(S:Spn):Prop|mk (a1 a2 a3 a4 a5:zW) (ts ks:zM) (_:H ab=some (.dK (spK a1 a2 a3 a4 a5))) (_:H a1=some (.dK (szK S.z S.w))) (_:H a2=some (.lst ts)) (_:Paired (D0o H) ts S.tabs) (_:H a3=some (.lst ks)) (_:Paired (D2y H) ks S.looks) (_:H a4=some (.lst (S.outs.map V.str))) (_:H a5=some (.lst (S.sum.map V.bl))):C7i H ab S
theorem C7i.same{f:zW}(h:C7i H f S)(s:A0j H H'):C7i H' f S:=by obtain⟨k,o,w,r,v,m,t,l,i,p,q,n,j,u,g⟩:=h;exact⟨k,o,w,r,v,m,t,s _ _ l,s _ _ i,s _ _ p,Paired.mapP q (by rintro _ _ ⟨b,c,e,d,a⟩;exact el b c e (s _ _ d) (s _ _ a)),s _ _ n,Paired.mapP j (by rintro _ _ ⟨b,c,e,d,a⟩;exact el b c e (s _ _ d) (a.same s)),s _ _ u,s _ _ g⟩
theorem u9(a c e b d:zW):fy (spK a c e b d) (Sum.inr "sizes")=some (.ref a):=by walk_at"ab"
theorem z7(d a e b c:zW):fy (spK d a e b c) (Sum.inr "tables")=some (.ref a):=by walk_at"ab"
theorem qw(e c a b d:zW):fy (spK e c a b d) (Sum.inr "looks")=some (.ref a):=by walk_at"ab"
theorem xJ(d b e a c:zW):fy (spK d b e a c) (Sum.inr "outs")=some (.ref a):=by walk_at"ab"
theorem vd(d c e b a:zW):fy (spK d c e b a) (Sum.inr "summed")=some (.ref a):=by walk_at"ab"
theorem vJ(z w:Int):fy (szK z w) (Sum.inr "z")=some (.int z):=by walk_at"ab"
theorem sz_w(z w:Int):fy (szK z w) (Sum.inr "w")=some (.int w):=by walk_at"ab"
theorem dg{k:Str}(h:H a=some (.dK kvs))(e:fy kvs (Sum.inr k)=some v):A6z H a (.str k) (some v):=by have z:=A6z.k (H:=H) (a:=a) (k:=Sum.inr k) h;rw[e]at z;exact z
def nmL(k:Nat):Str:=(("l":Str)++((toString (k:Int):String):Str))
def kQ:zB:=[("u0",[]),("t",["w"]),("u1",[]),("u2",[])]
structure A6v(S:Spn):Prop where
 tb:∃d,S.tabs=kQ.drop d
 z1:1<=S.z
 z3:S.z<=3
 w1:1<=S.w
 w9:S.w<=9
 n1:1<=S.looks.length
 n50:S.looks.length<=50
 ls:S.sum.length=S.looks.length
 lk:∀(k:Nat) l,S.looks[k]?=some l->l.length<=3/\∀r∈l,(∃e∈S.tabs,r.1=e.1/\r.2∈gl (e.2.map λ_=>S.w))\/∃j,j<k/\r=(nmL j,[])
def jb(S:Spn)(k:Nat):List Stp:=if S.sum[k]?=some true then ((k:Int),"start",[],[])::(gl [S.z]).map λu=>((k:Int),"add",[],u)else [((k:Int),"set",[],[])]
def jg(S:Spn)(n:Nat):List Stp:=(List.range n).flatMap (jb S)
def jt(S:Spn)(s:Stp):List Cl:=if s.2.1="start" then []else (S.looks[s.1.toNat]?).getD []
theorem og(z:Int):gl [z]=(List.range z.toNat).map λ(k:Nat)=>[(k:Int)]:=by unfold gl;show jx [[]] z=_;unfold jx;rw[List.flatMap_singleton];rfl
inductive zv(vs:zM)(H:Hp)(Q:VK):Prop|mk (i:Int) (_:vs=[.int i]) (_:Q (.bl true) H):zv vs H Q
def EU:Sp:=λa H Q _=>zv a H Q
inductive Ac(vs:zM)(H:Hp)(Q:VK):Prop
 |mk (ab st:zW) (S:Spn) (s:Stp) (k:Nat) (_:vs=[.ref ab,.ref st]) (_:C7i H ab S) (_:B6o H (.ref st) s) (_:s.1=(k:Nat)) (_:k<S.looks.length)
  (_:∀(R:zW)(es:zM)(H':Hp),A0j H H'->H' R=some (.lst es)->Rds H' es (jt S s)->Q (.ref R) H'):Ac vs H Q
def FT:Sp:=λa H Q _=>Ac a H Q
inductive Ai(vs:zM)(H:Hp)(Q:VK):Prop
 |mk (ab:zW) (S:Spn) (_:vs=[.ref ab]) (_:C7i H ab S) (_:A6v S)
  (_:∀(R:zW)(ys:zM)(H':Hp),H R=none->A0j H H'->H' R=some (.lst ys)->A2j H' ys (jg S S.looks.length)->Q (.ref R) H'):Ai vs H Q
def Ga:Sp:=λa H Q _=>Ai a H Q
theorem vB(T:Txt K mg t):FO P w base T.bj 1 EU:=by
 refine T.bj.F.ok GG λ_ A _ s H _ Q E a h=>?_
 ·obtain⟨i,rfl,k⟩:=h;refine rsq (fC (gq (BP (iL jZ (by rfl) T.a6 jU (dV (pv 0) (dV (jY (v:=V.ty "int") rfl T.fB PyProof.Rows.boot_int rfl) eg))) (BN (Ce (iL jZ (by rfl) T.a6 jU (dV (pv 0) (dV (jY (v:=V.ty "bool") rfl T.fD PyProof.Rows.boot_bool rfl) eg)))))))) ?_;exact iT _ rfl _ _ _ _ rfl (.int i) (mV "int") _ rfl (kN (iT _ rfl _ _ _ _ rfl (.int i) (pQ (b:=false) (by decide+kernel) (by decide+kernel) (by decide+kernel)) false rfl k))
theorem Aa(T:Txt K mg t):FO P w base T.bT 1 FT:=by
 refine T.bT.F.ok Hc λ_ A _ s H _ Q E D h=>?_
 ·obtain⟨O,i,S,e,o,rfl,sa,d,q,G,k⟩:=h;have U:=kF D;obtain⟨y,B,r,I,N,ts,g,X,h2,h3,h4,Y,n,h7,h8⟩:=id sa;refine gE d λb c u f m e2 e3=>?_;clear d;cases f;refine rsq (fa (gZ (pkd 1) (fC (gq (@hY _ _ _ _ eg))) ⟨gW⟩) (fC (gq (jM ku (iE U (pv 0) gJ) (pit 1))))) ?_;refine ic _ rfl i _ _ _ rfl rfl (SqT.of m) (hH (j:=1) rfl) (gF rfl _ rfl (iX (λh=>?_) (λh=>?_)))
  ·have f:jt S e=[]:=fW (V.str.inj h);rw[f]at k;exact⟨gj rfl,λp L=>k p [] _ (fx L) ee .nil⟩
  have hw:e.2.1≠"start":=λz=>h (by rw[z]);have v:=Paired.length n;have a:g[o]?=some (g[o]'(by lia)):=hB _;obtain⟨l,Z,R,M,C,W,rd⟩:=hE n a
  have J:jt S e=l:=by unfold jt;rw[ej hw,q,Int.toNat_natCast,Z];rfl
  rw[J]at k;have x:atI g e.1=some (.ref R):=by rw[q];exact hH (by rw[a,C])
  refine gr _ rfl O _ rfl (dg X (qw y B r I N)) (ic _ rfl i _ _ _ rfl rfl (SqT.of m) (hH (j:=0) rfl) (iI r _ _ _ rfl rfl (SqL.of Y) x ?_));exact k R M H (A0j.refl _) W rd
theorem Hl(T:Txt K mg t):FO P w base T.cC 1 Ga:=by
 refine T.cC.F.ok vr λ_ A _ s H _ Q E hr h=>?_
 ·obtain⟨ab,S,rfl,sa,U,k⟩:=h;have hu:=kF hr;obtain⟨a1,a2,a3,a4,a5,ts,ks,h1,h2,h3,h4,h5,h6,h7,h8⟩:=id sa;have a9:=Paired.length h6;have b1:=U.n50;refine rsq (fa (gx 1 vr.nd (@hY _ _ _ _ eg)) (fa (iA (oq rfl T.ba (dV (jr T.aj (dV (iE hu (pv 0) gJ) eg)) eg)) (gc (i:=2) vr.nd rfl (.inr rfl)) (fC (gZ (mu (iY (jM ku (iE hu (pv 0) gJ) (pv 2)))) (fC ⟨jI (jC jA kZ kY kU (pv 1) (dV (ir (dV (pv 2) (dV gJ (dV (ir eg) (dV (ir eg) eg))))) eg))⟩) (fa ⟨jI (jC jA kZ kY kU (pv 1) (dV (ir (dV (pv 2) (dV gJ (dV (ir eg) (dV (ir eg) eg))))) eg))⟩ (fC ⟨jI (jC jA PySem.F.slot_list_extend PySem.F.type_list_extend qI (pv 1) (dV (lN (N':=["_law_turn","_law_k"]) (ix:=(List.replicate 1 none++[some 2])) rfl (qC (x:="_law_k") rfl rfl rfl (by decide+kernel) (by decide+kernel)) (qJ (N0:=["_law_turn"]) rfl (.inl rfl) (by walk_at"ix")) (oq rfl T.ba (dV (iE hu (iE hu (pv 0) gJ) gJ) eg)) (λ_ _ _ _=>(gc (i:=0) GH)) (λ_ _ _ _=>(ir (dV (pv 1) (dV gJ (dV (ir eg) (dV (ir (fX 0)) eg))))))) eg))⟩))))) (fC (gq (pv 1))))) ?_;refine⟨gj rfl,λR hR=>?_⟩;have s1:A0j H (upd H R (.lst [])):=fx hR;have a6:upd H R (.lst []) R=some (.lst ([]:zM)):=ee;generalize upd H R (.lst [])=H1 at s1 a6;refine lP _ rfl ab _ rfl (dg (s1 _ _ h1) (qw a1 a2 a3 a4 a5)) a3 _ rfl (.inl (SqL.of (s1 _ _ h5))) _ rfl (fY (by lia) (by lia) ?_);rw[a9]
  refine pW (n:=S.looks.length) (λi Z G=>∃(o2:zP)(c:zM),Z=[Sro ab,Sro R,o2]/\A0j H G/\G R=some (.lst c)/\A2j G c (jg S i)/\c.length<=i*4)
   (ij none [] rfl s1 a6 .nil (iG _)) ?_ ?_
  ·rintro i Z G hi X;refine jo X ?_;clear X;rintro o2 c rfl r m ⟨N,ly⟩;rw[Int.zero_add];have g:S.sum[i]?=some (S.sum[i]'(by rw[U.ls];exact hi)):=hB _;have aS:atI (S.sum.map V.bl) (i:Int)=some (.bl (S.sum[i]'(by rw[U.ls];exact hi))):=hH (by rw[gP,g];rfl);have es:jg S (i+1)=jg S i++jb S i:=by unfold jg;rw[List.range_succ,List.flatMap_append,List.flatMap_singleton]
   generalize S.sum[i]'(by rw[U.ls];exact hi)=bb at g aS;refine gr _ rfl ab _ rfl (dg (r _ _ h1) (vd a1 a2 a3 a4 a5)) (ic _ rfl a5 _ _ _ rfl rfl (SqL.of (r _ _ h8)) aS ?_);refine al bb rfl ?_
   have a7:∀(l:Str)(G:Hp)(c:zM)(a d b:zW),A0j H G->G R=some (.lst c)->∀B,A2j G c B->G a=none->upd G a (.tup []) d=none->upd (upd G a (.tup [])) d (.tup []) b=none->A0j H (upd (upd (upd (upd G a (.tup [])) d (.tup [])) b (.tup [.int (i:Nat),.str l,.ref a,.ref d])) R (.lst (c++[.ref b])))/\upd (upd (upd G a (.tup [])) d (.tup [])) b (.tup [.int (i:Nat),.str l,.ref a,.ref d]) R=some (.lst c)/\A2j (upd (upd (upd (upd G a (.tup [])) d (.tup [])) b (.tup [.int (i:Nat),.str l,.ref a,.ref d])) R (.lst (c++[.ref b]))) (c++[.ref b]) (B++[((i:Int),l,[],[])]):=by intro l G c a d b r m B N L M v;have t1:A0j G (upd G a (.tup [])):=fx L;have Y:A0j (upd G a (.tup [])) (upd (upd G a (.tup [])) d (.tup [])):=fx M;have y:=fx (o:=.tup [.int (i:Nat),.str l,.ref a,.ref d]) v;have t:=t1.trans (Y.trans y);have a0:=t _ _ m;have f:KT (upd (upd (upd G a (.tup [])) d (.tup [])) b (.tup [.int (i:Nat),.str l,.ref a,.ref d])) (upd (upd (upd (upd G a (.tup [])) d (.tup [])) b (.tup [.int (i:Nat),.str l,.ref a,.ref d])) R (.lst (c++[.ref b]))):=KT.at a0 (by intro xs z;cases z);refine fY (hJ (r.trans t) hR) a0 (jL (Paired.mapP N λ_ _ z=>z.kt λp xs e=>f _ _ (t _ _ e)) (.cons (gD b a d rfl (f _ _ ee) (f _ _ (y _ _ (Y _ _ ee))) (f _ _ (y _ _ ee))) .nil))
   cases bb
   ·refine kN ?_;refine jv _ rfl (.inl (iN rfl _ (SqL.of m))) _ rfl ⟨gj rfl,λa L=>⟨gj rfl,λd M=>⟨gj rfl,λb v=>?_⟩⟩⟩;obtain⟨O,q2,q3⟩:=a7 "set" G c a d b r m _ N L M v;refine gX R c _ rfl rfl q2 (gQ (by lia)) (ij _ _ rfl O ee ?_ (by rw[gz,lV];lia));rw[es];have:jb S i=[((i:Int),("set":Str),[],[])]:=by unfold jb;rw[g];rfl
    rw[this];exact q3
   ·refine gM ?_;refine jv _ rfl (.inl (iN rfl _ (SqL.of m))) _ rfl ⟨gj rfl,λa L=>⟨gj rfl,λd M=>⟨gj rfl,λb v=>?_⟩⟩⟩;obtain⟨O,q2,q3⟩:=a7 "start" G c a d b r m _ N L M v;refine gX R c _ rfl rfl q2 (gQ (by lia)) ?_;have I:upd (upd (upd (upd G a (.tup [])) d (.tup [])) b (.tup [.int (i:Nat),.str "start",.ref a,.ref d])) R (.lst (c++[.ref b])) R=some (.lst (c++[.ref b])):=ee;generalize upd (upd (upd (upd G a (.tup [])) d (.tup [])) b (.tup [.int (i:Nat),.str "start",.ref a,.ref d])) R (.lst (c++[.ref b]))=G5 at O q3 I;refine fV _ rfl (.inl (iN rfl _ (SqL.of I))) (gr _ rfl ab _ rfl (dg (O _ _ h1) (u9 a1 a2 a3 a4 a5)) (el a1 _ rfl (dg (O _ _ h2) (vJ S.z S.w)) ?_));have z1:=U.z1;have z3:=U.z3;refine iV S.z rfl (by lia) (by lia) λD hD=>?_;refine yR (J:=Itr 0 S.z.toNat) (D:=D) S.z.toNat (λj q Hx=>A0j G5 Hx/\Hx D=some (.lst q)/\A2j Hx q (((gl [S.z]).take j).map λu=>((i:Int),("add":Str),[],u))/\q.length=j) (ip (fx hD) ee .nil rfl) (λi c Hx hi _=>hi) (λc Hx _=>gf _) ?_ ?_
    ·rintro j q Hx hj ⟨sx,C,sz,lz⟩ x Hy ⟨rfl,rfl⟩;rw[Int.zero_add];refine jP ⟨rfl,True.intro⟩ _ rfl (gj rfl) λa L=>(fV _ rfl (gj rfl) λd M=>⟨gj rfl,λb v=>?_⟩);have t1:=fx (o:=.tup []) L;have Y:=fx (o:=.tup [.int (j:Nat)]) M;have y:=fx (o:=.tup [.int (i:Nat),.str "add",.ref a,.ref d]) v;have t:=t1.trans (Y.trans y);have a8:=t _ _ C;have f:=KT.at (o:=.lst (q++[.ref b])) a8 (by intro xs z;cases z);have b0:(gl [S.z])[j]?=some [(j:Int)]:=by rw[og,gP,List.getElem?_range hj];rfl
     refine ka a8 (gQ (by lia)) (hJ (sx.trans t) hD) ee ?_ (by rw[gz,lz];rfl);rw[gR,b0,gB];exact jL (Paired.mapP sz λ_ _ z=>z.kt λp xs e=>f _ _ (t _ _ e)) (.cons (gD b a d rfl (f _ _ ee) (f _ _ (y _ _ (Y _ _ ee))) (f _ _ (y _ _ ee))) .nil)
    ·rintro q Hx ⟨sx,C,sz,lz⟩;have lc:(gl [S.z]).length=S.z.toNat:=by rw[og,eH,List.length_range]
     have tl:(gl [S.z]).take S.z.toNat=gl [S.z]:=by rw[<-lc,hQ]
     rw[tl]at sz;have W:=sx _ _ I;have f:=KT.at (o:=.lst (c++[.ref b]++q)) W (by intro xs z;cases z);have lb:(c++[V.ref b]).length=c.length+1:=by rw[gz];rfl
     refine kJ R D _ q rfl rfl W C (iS (by lia)) (ij _ _ rfl (hJ (O.trans sx) hR) ee ?_ (by rw[gz];lia));rw[es];have:jb S i=((i:Int),("start":Str),[],[])::(gl [S.z]).map λu=>((i:Int),("add":Str),[],u):=by unfold jb;rw[g];rfl
     rw[this,List.append_cons (jg S i)];exact jL (Paired.mapP q3 λ_ _ z=>z.kt λp xs e=>f _ _ (sx _ _ e)) (Paired.mapP sz λ_ _ z=>z.kt f)
  ·rintro Z G X;refine jo X ?_;clear X;rintro o2 c rfl r m ⟨N,ly⟩;exact al _ rfl (k R c G hR r m N)
theorem yG:∀j,j<51->atI (nmL j).cps.toList 0=some 108:=by decide+kernel
theorem wX:∀j:Nat,j<51->PySem.intText? (PySem.Txt.slice (nmL j) (some 1) none)=some ((j:Nat):Int)/\(PySem.Txt.slice (nmL j) (some 1) none).length<=640/\(nmL j).length<=10:=by decide+kernel
theorem qv:∀i,i<51->∀j,j<51->nmL i=nmL j->i=j:=by decide+kernel
theorem uh:∀i,i<51->PyData.strOk (nmL i)=true/\nmL i≠"":=by decide+kernel
theorem qD:∀e∈kQ,(atI e.1.cps.toList 0=some 117\/atI e.1.cps.toList 0=some 116)/\e.1.length<=10/\PyData.strOk e.1=true/\e.1≠"":=by decide+kernel
theorem rK:∀e∈kQ,∀j,j<51->e.1≠nmL j:=by decide+kernel
theorem A6v.tin(h:A6v S):∀e∈S.tabs,e∈kQ:=λe a=>by obtain⟨d,b⟩:=h.tb;rw[b]at a;exact List.mem_of_mem_drop a
def kO(S:Spn)(j:Nat):Int:=if S.sum[j]?=some true then 1+S.z else 1
def Rdy(S:Spn)(dn:zI)(s:Stp):Prop:=(s.2.1="add"->dn[s.1.toNat]?≠some 0)/\∀(j:Nat) d,(nmL j,([]:zI))∈jt S s->j<51->dn[j]?=some d->kO S j<=d
inductive yt(vs:zM)(H:Hp)(Q:VK):Prop
 |mk (ab D st:zW) (S:Spn) (s:Stp) (k:Nat) (dn:zI) (_:vs=[.ref ab,.ref D,.ref st]) (_:C7i H ab S) (_:A6v S) (_:H D=some (.lst (dn.map V.int))) (_:dn.length=S.looks.length) (_:B6o H (.ref st) s) (_:s.1=(k:Nat)) (_:k<S.looks.length)
  (_:∀(b:Bool)(H':Hp),A0j H H'->(b=false↔Rdy S dn s)->Q (.bl b) H'):yt vs H Q
def DJ:Sp:=λa H Q _=>yt a H Q
theorem Ge(T:Txt K mg t):FO P w base T.cU 2 DJ:=by
 refine T.cU.F.ok pV λ_ A _ s H _ Q E C h=>?_
 ·obtain⟨O,D,M,S,sp,p,f,rfl,sa,N,hD,ld,a8,hk,a6,k⟩:=h;have hu:=kF C;obtain⟨a1,a2,a3,a4,a5,ts,ks,h1,h2,h3,h4,h5,h6,h7,h8⟩:=id sa;refine gE (id a8) λb c u e0 e1 e2 e3=>?_;cases e0;have b1:=N.n50;have y:f[p]?=some (f[p]'(by lia)):=hB _;have aD:atI (f.map V.int) sp.1=some (.int (f[p]'(by lia))):=by rw[hk];exact hH (by rw[gP,y];rfl)
  generalize f[p]'(by lia)=dk at y aD;refine rsq (oA (gZ (PW.pt (rQ (pkd 2) (su (iz ma (jM ku (pv 1) (pit 2)) gh)))) (fC (gq ko)) ⟨gW⟩) (fa (iA (jc (pcl (Aa T) C T.bT (dV (pv 0) (fX 2)))) (jV (n:=2) rfl (gK (gc (i:=3) pV.nd) (gK (gc (i:=4) pV.nd) jD))) (fC (gZ (iz ma (jM wV (pv 3) gh) gJ) (fa (gx 5 pV.nd (lA IF (by rfl) T.fB PyProof.Rows.boot_int (dV (mz Cn (pv 3) (kH gh) oU) eg))) (fa (gx 6 pV.nd gh) (oA (gZ (iY (jM ku (iE hu (pv 0) gJ) (pv 5))) (fC (gx 6 pV.nd (gn jW gh (iE hu (iE hu (pv 0) gJ) gJ)))) ⟨gW⟩) (fC (gZ (iz ug (jM ku (pv 1) (pv 5)) (pv 6)) (fC (gq ko)) ⟨gW⟩))))) ⟨gW⟩))) (fC (gq ko)))) ?_;refine al (λZ' H'=>Z'=[some (.ref O),some (.ref D),some (.ref M),none,none,none,none]/\H'=H/\(sp.2.1="add"->f[sp.1.toNat]?≠some 0)) ?_ ?_
  ·refine ic _ rfl M _ _ _ rfl rfl (SqT.of e1) (hH (j:=1) rfl) (gF rfl _ rfl (iX (λh=>?_) (λh=>?_)))
   ·have ha:sp.2.1="add":=V.str.inj h;refine al _ rfl (ic _ rfl M _ _ _ rfl rfl (SqT.of e1) (hH (j:=0) rfl) (iI D _ _ _ rfl rfl (SqL.of hD) aD (gF rfl _ rfl (iX (λB=>?_) (λB=>?_)))))
    ·refine k true H (A0j.refl _) ⟨(λz=>nomatch z),λz=>?_⟩;have:dk=0:=V.int.inj B;exact absurd (by rw[hk,Int.toNat_natCast,y,this]) (z.1 ha)
    ·refine fY rfl rfl λ_ z=>B ?_;rw[hk,Int.toNat_natCast,y]at z;rw[je z]
   ·exact gM (fY rfl rfl λz=>absurd (by rw[z]) h)
  ·rintro Z' H' ⟨rfl,rfl,a0⟩;refine iJ _ rfl _ rfl ⟨O,M,S,sp,p,rfl,sa,a8,hk,a6,λR es H1 s1 hR rd=>?_⟩;refine fV R rfl ⟨_,SqL.of hR⟩ ?_;have a7:=Paired.length rd
   have a9:sp.2.1≠"start"->S.looks[p]?=some (jt S sp):=λhw=>by unfold jt;rw[ej hw,hk,Int.toNat_natCast];have:S.looks[p]?=some (S.looks[p]'a6):=hB _;rw[this];rfl
   have X:∀r∈jt S sp,(∃e∈kQ,r.1=e.1)\/∃j,j<p/\r=(nmL j,[]):=λr C=>by
    by_cases hw:sp.2.1="start"
    ·have:jt S sp=[]:=fW hw;rw[this]at C;cases C
    ·rcases(N.lk p _ (a9 hw)).2 r C with ⟨e,he,z,_⟩|z
     ·exact .inl (al e (N.tin e he) z)
     ·exact .inr z
   obtain⟨l,hl⟩:∃l,l=jt S sp:=⟨_,rfl⟩;rw[<-hl]at rd a7 X;have g:∀{c u},H' c=some u->H1 c=some u:=λe=>s1 _ _ e;refine kz (K:=K) (a:=R) (xs:=es) (λi Z G=>∃(o3 o4 o5 o6:zP),Z=[Sro O,Sro D,Sro M,o3,o4,o5,o6]/\G=H1/\∀(j:Nat) d,(nmL j,([]:zI))∈l.take i->j<51->f[j]?=some d->kO S j<=d) ⟨none,(jF none none none rfl rfl (by simp))⟩ (by (rintro i Z G _ J;refine jp J ?_;clear J;rintro _ _ _ ⟨_,_,rfl,_⟩);exact SqL.of hR) ?_ ?_
   ·rintro i v Z G hv J;refine jp J ?_;clear J;rintro o3 o4 o5 ⟨o6,rfl,rfl,ok⟩;obtain⟨r,C,q,cq,rfl,hq,hc⟩:=hE rd hv;have et:l.take (i+1)=l.take i++[r]:=by rw[gR,C];rfl
    have rl:r∈l:=gT C;refine jJ q _ rfl (SqT.of hq) rfl _ _ rfl _ _ rfl rfl ?_;rcases X r rl with ⟨e,he,z⟩|⟨j,Y,rfl⟩
    ·obtain⟨U,f2,_⟩:=qD e he;rw[<-z]at U f2;have go:∀c:Nat,atI r.1.cps.toList 0=some c->c≠108->True:=λ_ _ _=>True.intro
     have nx:∀(j:Nat) d,(nmL j,([]:zI))∈l.take (i+1)->j<51->f[j]?=some d->kO S j<=d:=λj d m Y L=>by
      rw[et]at m;rcases iQ.mp m with m|m
      ·exact ok j d m Y L
      ·have:=ik.mp m;exact absurd (show e.1=nmL j by rw[<-z,<-this]) (rK e he j Y)
     rcases U with U|U
     ·refine al _ rfl (gD r.1 0 117 rfl rfl (iS (by lia)) (iw U rfl _ rfl (iX (λh=>absurd h (by decide+kernel)) (λh=>?_))));exact⟨_,(jF _ _ _ rfl rfl nx)⟩
     ·refine al _ rfl (gD r.1 0 116 rfl rfl (iS (by lia)) (iw U rfl _ rfl (iX (λh=>absurd h (by decide+kernel)) (λh=>?_))));exact⟨_,(jF _ _ _ rfl rfl nx)⟩
    ·obtain⟨g1,g2,g3⟩:=wX j (by lia);refine al _ rfl (gD (nmL j) 0 108 rfl rfl (iS (by lia)) (iw (yG j (by lia)) rfl _ rfl (iX (λh=>?_) (λh=>absurd (by decide+kernel) h))));have o:j<S.looks.length:=by lia
     have x:S.sum[j]?=some (S.sum[j]'(by rw[N.ls];exact o)):=hB _;have aS:atI (S.sum.map V.bl) (j:Int)=some (.bl (S.sum[j]'(by rw[N.ls];exact o))):=hH (by rw[gP,x];rfl);generalize S.sum[j]'(by rw[N.ls];exact o)=bb at x aS;have I:f[j]?=some (f[j]'(by lia)):=hB _;have aJ:atI (f.map V.int) (j:Int)=some (.int (f[j]'(by lia))):=hH (by rw[gP,I];rfl);generalize f[j]'(by lia)=dj at I aJ;refine⟨_,(pi rfl 1 rfl (nmL j) rfl (iS (by lia)) _ (iV (j:Int) rfl g1 g2 ?_))⟩;refine al (λZ' G'=>Z'=[some (.ref O),some (.ref D),some (.ref M),some (.str (nmL j)),some (.ref cq),some (.int (j:Nat)),some (.int (kO S j))]/\G=G') ?_ ?_
     ·refine gr _ rfl O _ rfl (dg (g h1) (vd a1 a2 a3 a4 a5)) (ic _ rfl a5 _ _ _ rfl rfl (SqL.of (g h8)) aS (al bb rfl ?_));cases bb
      ·refine gM ⟨?_,rfl⟩;have:kO S j=1:=by unfold kO;rw[x];rfl
       rw[this];rfl
      ·refine kN (gr _ rfl O _ rfl (dg (g h1) (u9 a1 a2 a3 a4 a5)) (el a1 _ rfl (dg (g h2) (vJ S.z S.w)) (im _ _ rfl rfl ?_ rfl)));have:kO S j=1+S.z:=by unfold kO;rw[x];rfl
       rw[this];rfl
     ·rintro Z' G' ⟨rfl,b0⟩;subst b0;refine al _ rfl (ic _ rfl D _ _ _ rfl rfl (SqL.of (g hD)) aJ (gr _ rfl _ _ rfl rfl (al _ rfl (iX (λB=>?_) (λB=>?_)))))
      ·have B:dj<kO S j:=B;refine k true _ s1 ⟨(λz=>nomatch z),λz=>?_⟩;have:=z.2 j dj (by rw[<-hl];exact rl) (by lia) I
       lia
      ·have B:¬dj<kO S j:=B;refine⟨_,(jF _ _ _ rfl rfl λj' d m W L=>?_)⟩;rw[et]at m;rcases iQ.mp m with m|m
       ·exact ok j' d m W L
       ·have e:=ik.mp m;injection e with e _;have:=qv j' W j (by lia) e;subst this;rw[I]at L;cases L
        lia
   ·rintro Z G J;refine jp J ?_;clear J;rintro o3 o4 o5 ⟨o6,rfl,rfl,ok⟩;have tl:l.take es.length=l:=by rw[a7,hQ]
    rw[tl,hl]at ok;exact k false _ s1 ⟨λ_=>⟨a0,λj d m Y L=>ok j d m Y L⟩,λ_=>rfl⟩
theorem uA:("add":Str)≠"start":=by decide+kernel
theorem DW:("set":Str)≠"add":=by decide+kernel
theorem BY:("start":Str)≠"add":=by decide+kernel
def Lat(s s':Stp):Prop:=s.1<s'.1\/(s.1=s'.1/\s'.2.1≠"start"/\s≠s')
theorem mf{k:Nat}(h:s∈jb S k):s.1=(k:Int):=by
 unfold jb at h;split at h
 ·rcases gY.mp h with z|z
  ·rw[z]
  ·obtain⟨u,_,rfl⟩:=gm.mp z;rfl
 ·rw[ik.mp h]
theorem yU(S:Spn)(k:Nat):(jb S k).Pairwise Lat:=by
 unfold jb;split
 ·rw[List.pairwise_cons];refine⟨λs d=>?_,?_⟩
  ·obtain⟨u,_,rfl⟩:=gm.mp d;exact .inr (fY rfl uA λz=>by injection z with _ z;injection z with z _;exact uA z.symm)
  ·rw[og,List.map_map,List.pairwise_map];refine List.Pairwise.imp ?_ List.nodup_range;intro a b c;refine .inr (fY rfl uA λz=>c ?_);injection z with _ z;injection z with _ z;injection z with _ z;injection z with z _
   lia
 ·exact List.pairwise_singleton _ _
theorem nh:s∈jg S n↔∃k,k<n/\s∈jb S k:=by
 unfold jg;rw[List.mem_flatMap];constructor
 ·rintro⟨k,a,h⟩;exact al k (List.mem_range.mp a) h
 ·rintro⟨k,a,h⟩;exact al k (List.mem_range.mpr a) h
theorem y0(S:Spn)(n:Nat):(jg S n).Pairwise Lat:=by unfold jg;rw[List.pairwise_flatMap];refine⟨λk _=>yU S k,?_⟩;refine List.Pairwise.imp ?_ List.pairwise_lt_range;intro a b c x d y e;rw[show Lat x y=(x.1<y.1\/(x.1=y.1/\y.2.1≠"start"/\x≠y)) from rfl,mf d,mf e];exact .inl (by lia)
theorem Lat.ne{s':Stp}(h:Lat s s'):s≠s':=λz=>by
 rcases h with h|h
 ·rw[z]at h;lia
 ·exact h.2.2 z
theorem FF(S:Spn)(n:Nat):(jg S n).Nodup:=(y0 S n).imp Lat.ne
def kh(S:Spn)(j:Nat)(l:List Stp):List Stp:=l.filter λs=>decide (s.1=(j:Int))
theorem sy(a:A6v S)(j:Nat):((jb S j).length:Int)=kO S j:=by
 unfold jb kO;have:=a.z1;split
 ·rw[iZ,eH,og,eH,List.length_range];push_cast;lia
 ·rfl
theorem sJ(h:s∈jg S n)(b:s.1=(j:Int)):s∈jb S j:=by
 obtain⟨k,_,a⟩:=nh.mp h;have:=mf a;have e:k=j:=by lia
 rw[<-e];exact a
structure PO(S:Spn)(n:Nat)(pend dl:List Stp)(dn:zI):Prop where
 sb:pend.Sublist (jg S n)
 pm:(pend++dl).Perm (jg S n)
 ln:dn.length=n
 ct:∀j,j<n->dn[j]?=some ((kh S j dl).length:Int)
 rb:∀(i:Nat) s,dl[i]?=some s->∀j,j<n->(nmL j,([]:zI))∈jt S s->∀s'∈jg S n,s'.1=(j:Int)->s'∈dl.take i
theorem PO.zero(S:Spn)(n:Nat):PO S n (jg S n) [] (List.replicate n 0):=⟨List.Sublist.refl _,by rw[lT],List.length_replicate,λj a=>by rw[List.getElem?_replicate,fW a];rfl,λi s h=>by cases h⟩
theorem PO.nd(h:PO S n pend dl dn):(pend++dl).Nodup:=h.pm.nodup_iff.mpr (FF S n)
theorem PO.all(h:PO S n pend dl dn)(o:A6v S)(t:j<n)(s:kO S j<=((kh S j dl).length:Int)){s':Stp}(d:s'∈jg S n)(h1:s'.1=(j:Int)):s'∈dl:=by
 by_cases c:s'∈dl
 ·exact c
 exfalso;have l:=(lU.mp h.nd).2.1
 have p:(kh S j dl++[s']).Nodup:=by rw[lU];refine fY (l.sublist List.filter_sublist) (by simp) λa e b i z=>?_;rw[ik.mp i]at z;exact c (z▸(List.mem_filter.mp e).1)
 have g:=oo p (m:=jb S j) λx r=>by
  rcases iQ.mp r with q|q
  ·obtain⟨k,f⟩:=List.mem_filter.mp q;exact sJ (h.pm.mem_iff.mp (lJ _ k)) (of_decide_eq_true f)
  ·rw[ik.mp q];exact sJ d h1
 rw[gz,lV]at g;have:=sy o j
 lia
theorem FV(S:Spn)(j:Nat)(dl:List Stp)(s:Stp):kh S j (dl++[s])=kh S j dl++if s.1=(j:Int)then [s]else []:=by
 unfold kh;rw[List.filter_append];by_cases c:s.1=(j:Int)
 ·rw[fW c,List.filter_cons_of_pos (p:=λs:Stp=>decide (s.1=(j:Int))) (iW c)];rfl
 ·rw[ej c,List.filter_cons_of_neg (p:=λs:Stp=>decide (s.1=(j:Int))) (by simpa using c)];rfl
theorem Ad{α:Type}:∀{l:List α}{i:Nat}{x:α},l[i]?=some x->(l.eraseIdx i++[x]).Perm l|a::r,0,x,h=>by have h:a=x:=je h;subst h;exact List.perm_append_comm|a::r,i+1,x,h=>(Ad (l:=r) (i:=i) h).cons a
theorem PO.step(h:PO S n pend dl dn)(m:A6v S)(x:n=S.looks.length){k:Nat}(o:pend[i]?=some s)(v:s.1=(k:Int))(q:k<n)(r:Rdy S dn s):PO S n (pend.eraseIdx i) (dl++[s]) (dn.set k ((kh S k dl).length+1)):=by
 have w:=m.n50;refine⟨(List.eraseIdx_sublist _ _).trans h.sb,?_,by rw[List.length_set];exact h.ln,λj a=>?_,λf u b j a g p d l=>?_⟩
 ·refine List.Perm.trans ?_ h.pm;have e:=(Ad o).append_right dl;refine List.Perm.trans ?_ e;rw[lH];exact List.Perm.append_left _ List.perm_append_comm
 ·rw[FV,gz];by_cases c:k=j
  ·subst c;rw[fW v,tK (by rw[h.ln];exact a)];rfl
  ·rw[ej (by lia),tJ c,h.ct j a];rfl
 ·rcases Nat.lt_or_ge f dl.length with c|c
  ·rw[lQ c]at b;rw[List.take_append_of_le_length (by lia)];exact h.rb f u b j a g p d l
  ·have t:f=dl.length:=by
    have:=(gG.mp b).1;rw[gz,lV]at this
    lia
   subst t;rw[nu (gf _),Nat.sub_self]at b;cases b;rw[List.take_append_of_le_length (gf _),hQ];exact h.all m a (r.2 j _ g (by lia) (h.ct j a)) d l
theorem PO.first(h:PO S n pend dl dn)(u:A6v S)(L:n=S.looks.length){k:Nat}(G:pend[0]?=some s)(v:s.1=(k:Int))(o:k<n):Rdy S dn s:=by
 have J:=u.n50
 obtain⟨rest,rfl⟩:∃rest,pend=s::rest:=by
  cases pend with
  |nil=>cases G
  |cons a r=>cases G;exact⟨r,rfl⟩
 have C:=(y0 S n).sublist h.sb;rw[List.pairwise_cons]at C
 have c:∀j:Nat,j<k->∀g∈jb S j,g∈dl:=λj F g b=>by
  have m:g∈s::rest++dl:=h.pm.mem_iff.mpr (nh.mpr (al j (by lia) b));have K:=mf b;rcases iQ.mp m with q|q
  ·rcases gY.mp q with z|z
   ·rw[z]at K;lia
   ·rcases C.1 g z with y|y
    ·lia
    ·have:=y.1;lia
  ·exact q
 refine⟨λp z=>?_,λj d w F f=>?_⟩
 ·rw[v,Int.toNat_natCast,h.ct k o]at z
  have i:S.sum[k]?=some true:=by
   have t:=sJ (h.sb.subset lD) v;unfold jb at t;split at t
   ·assumption
   ·rw[ik.mp t]at p;exact absurd p DW
  have A:((k:Int),("start":Str),([]:zI),([]:zI))∈jb S k:=by unfold jb;rw[fW i];exact lD
  have m:((k:Int),("start":Str),([]:zI),([]:zI))∈s::rest++dl:=h.pm.mem_iff.mpr (nh.mpr (al k o A))
  have f:((k:Int),("start":Str),([]:zI),([]:zI))∈dl:=by
   rcases iQ.mp m with q|q
   ·rcases gY.mp q with y|y
    ·rw[<-y]at p;exact absurd p BY
    ·rcases C.1 _ y with y|y
     ·exact absurd y (by show¬s.1<(k:Int);lia)
     ·exact absurd rfl y.2.1
   ·exact q
  have:((k:Int),("start":Str),([]:zI),([]:zI))∈kh S k dl:=List.mem_filter.mpr ⟨f,iW rfl⟩;have:=List.length_pos_of_mem this;have z:=je z
  lia
 ·have D:j<k:=by
   have t:=sJ (h.sb.subset lD) v;by_cases hw:s.2.1="start"
   ·have e:jt S s=[]:=fW hw;rw[e]at w;cases w
   ·have e:S.looks[k]?=some (jt S s):=by
     unfold jt;rw[ej hw,v,Int.toNat_natCast];have:S.looks[k]?=some (S.looks[k]'(by lia)):=hB _;rw[this];rfl
    rcases(u.lk k _ e).2 _ w with ⟨H,x,z,_⟩|⟨I,B,z⟩
    ·exact absurd z.symm (rK H (u.tin H x) j F)
    ·injection z with z _;rw[qv j F I (by lia) z];exact B
  rw[h.ct j (by lia)]at f;have f:=je f;rw[<-f,<-sy u j];have:=oo (l:=jb S j) (m:=kh S j dl) ((yU S j).imp Lat.ne) λg b=>List.mem_filter.mpr ⟨c j D g b,iW (mf b)⟩
  lia
theorem wZ{α β:Type}{F:α->β->Prop}:∀{a:List α}{b:List β},Paired F a b->∀i:Nat,Paired F (a.eraseIdx i) (b.eraseIdx i)|_,_,.nil,_=>.nil|_,_,.cons _ t,0=>t|_,_,.cons r t,i+1=>.cons r (wZ t i)
inductive z8(vs:zM)(H:Hp)(Q:VK):Prop
 |mk (ab:zW) (c:Int) (S:Spn) (_:vs=[.ref ab,.int c]) (_:C7i H ab S) (_:A6v S)
  (_:∀(R:zW)(ys:zM)(ss:List Stp)(dn:zI)(H':Hp),H R=none->A0j H H'->H' R=some (.lst ys)->A2j H' ys ss->PO S S.looks.length [] ss dn->Q (.ref R) H'):z8 vs H Q
def Gx:Sp:=λa H Q _=>z8 a H Q
theorem GQ(T:Txt K mg t):FO P w base T.cA 3 Gx:=by
 refine T.cA.F.ok ou λ_ A _ s H _ Q E hr h=>?_
 ·obtain⟨W,c,S,rfl,sa,so,k⟩:=h;have hu:=kF hr;have e7:=so.n50;refine rsq (fa (gx 2 ou.nd (pcl (Hl T) hr T.cC (fX 0))) (fa ⟨r8 (i₀:=3) (N':=["_law_k"]) (ix:=(List.replicate 1 none)) ou.nd rfl (.inl rfl) rfl (mC rfl (by decide+kernel) (by decide+kernel)) (mB rfl) (jc (iE hu (pv 0) gJ)) (λ_ _ _ _=>(gc (i:=0) GF)) (λ_ _ _ _=>gh)⟩ (fa (gx 4 ou.nd (@hY _ _ _ _ eg)) (fa ⟨@yz _ _ _ _ _ _ PassesOwn.never (iz pH (jr T.aj (fX 2)) gh) (@jO _ _ _ _ _ (@mS _ _ 5 _ _ _ _ ou.nd rfl (.inl rfl) (gn lj (gn jW (pv 1) (gn rR (jr T.aj (fX 4)) (gn lj (gn pR (pv 1) gh) gh))) (jr T.aj (fX 2))) rfl (.inl rfl)) (@x0 _ _ _ _ _ (@pK _ _ _ _ _ _ _ _ (iz ma (gn lj (pv 1) gh) gh) (@jN _ _ _ (@mS _ _ 5 _ _ _ _ ou.nd rfl (.inl rfl) gh rfl (.inl rfl))) gW) (@jO _ _ _ _ _ (@yz _ _ _ _ _ _ PassesOwn.never (iY (pcl (Ge T) hr T.cU (dV (pv 0) (dV (pv 3) (dV (jM ku (pv 2) (pv 5)) eg))))) (@jN _ _ _ (@mS _ _ 5 _ _ _ _ ou.nd rfl (.inl rfl) (gn lj (gn jW (pv 5) gh) (jr T.aj (fX 2))) rfl (.inl rfl)))) (@jO _ _ _ _ _ (@mS _ _ 6 _ _ _ _ ou.nd rfl (.inl rfl) (jC jA PySem.F.slot_list_pop PySem.F.type_list_pop EK (pv 2) (fX 5)) rfl (.inl rfl)) (@jO _ _ _ _ _ (lM (gn jW (jM ku (pv 3) (pit 6)) gh) (n7 (pv 3) (pit 6) va)) (@jN _ _ _ (jI (jC jA kZ kY kU (pv 4) (fX 6)))))))))⟩ (fC (gq (pv 4))))))) ?_;refine al _ rfl ⟨W,S,rfl,sa,so,λPL n H1 d3 s1 a7 c6=>?_⟩;have d9:=sa.same s1;obtain⟨a1,a2,a3,a4,a5,ts,ks,h1,h2,h3,h4,h5,h6,h7,h8⟩:=id d9;have d0:=Paired.length h6;refine gr _ rfl W _ rfl (dg h1 (qw a1 a2 a3 a4 a5)) (fV a3 rfl ⟨_,SqL.of h5⟩ λDL M=>?_);refine nK (K:=K) (a:=a3) (D:=DL) (xs:=ks) (λi o Hx=>A0j H1 Hx/\Hx DL=some (.lst o)/\o=(List.replicate i (0:Int)).map V.int) (fY (fx M) ee rfl) (λi o Hx ⟨sx,_⟩=>SqL.of (sx _ _ h5)) ?_ ?_
  ·rintro i v o Hx hv ⟨sx,c9,rfl⟩;have hi:i<ks.length:=(gG.mp hv).1;refine ka True.intro c9 (by rw[eH,List.length_replicate];exact gQ (by lia)) (hJ sx M) ee ?_;rw[List.replicate_succ',gB];rfl
  ·rintro o H2 ⟨s2,a6,rfl⟩;rw[d0]at a6;have DLH:H DL=none:=s1.free M;have PD:PL≠DL:=ga a7 M;refine⟨gj rfl,λOL J=>?_⟩;have s3:A0j H2 (upd H2 OL (.lst [])):=fx J;have c3:upd H2 OL (.lst []) OL=some (.lst ([]:zM)):=ee;have OLH:H OL=none:=s1.free (s2.free J);have PO':PL≠OL:=ga (s2 _ _ a7) J;have DO:DL≠OL:=ga a6 J;generalize upd H2 OL (.lst [])=H3 at s3 c3;have d8:=s1.trans (s2.trans s3)
   refine⟨λm Z G=>∃(o5 o6:zP)(d x:List Stp)(n o:zM)(r:zI),m=d.length/\Z=[Sro W,Sio c,Sro PL,Sro DL,Sro OL,o5,o6]/\A0j H G/\G PL=some (.lst n)/\A2j G n d/\G DL=some (.lst (r.map V.int))/\G OL=some (.lst o)/\A2j G o x/\PO S S.looks.length d x r,
    (jQ _ none none (mD (jg S S.looks.length) [] n [] (List.replicate S.looks.length 0) rfl rfl d8 (s3 _ _ (s2 _ _ a7)) (c6.kt (KT.same (s2.trans s3))) (s3 _ _ a6) c3 .nil (PO.zero S _))),?_⟩
   rintro m Z G zz;refine jS zz ?_;clear zz;rintro o5 o6 d x n o ⟨r,rfl,rfl,sG,hP,b0,hD,hO,a8,X⟩;have d2:=Paired.length b0;have e6:=Paired.length a8
   have sl:(jg S S.looks.length).length<=200:=by
    have:=nc (l:=List.range S.looks.length) (f:=jb S) (B:=4) λk _=>by
     have e:=sy so k;have:kO S k<=4:=by unfold kO;have:=so.z3;split<;>lia
     lia
    rw[List.length_range]at this;unfold jg
    lia
   have pl:=X.pm.length_eq;rw[gz]at pl;refine lP _ rfl PL _ rfl (.inl (SqL.of hP)) _ _ rfl rfl _ rfl (iX (λy=>?_) (λhz=>?_))
   ·have y:(0:Int)<(n.length:Int):=y;have c0:0<d.length:=by lia
    refine al (λZ' C=>∃m',m'<d.length/\∃(o5 o6:zP)(d x:List Stp)(n o:zM)(r:zI),m'=d.length/\Z'=[some (.ref W),some (.int c),some (.ref PL),some (.ref DL),some (.ref OL),o5,o6]/\A0j H C/\C PL=some (.lst n)/\A2j C n d/\C DL=some (.lst (r.map V.int))/\C OL=some (.lst o)/\A2j C o x/\PO S S.looks.length d x r) (λZ' C z=>z) ?_;refine ie _ rfl _ rfl OL _ rfl (.inl (SqL.of hO)) (gr _ rfl _ _ rfl rfl (iU ⟨by decide,by decide⟩ _ _ rfl rfl (iU Bq _ _ rfl rfl (iU (.inl ⟨by lia,by lia⟩) _ _ rfl rfl (gr _ rfl PL _ rfl (.inl (SqL.of hP)) (im _ _ rfl rfl y ?_))))));refine al (λZ G'=>∃g:Nat,g<d.length/\Z=[Sro W,Sio c,Sro PL,Sro DL,Sro OL,Sio (g:Nat),o6]/\G=G') ?_ ?_
    ·have b1:=q5 (c+(o.length:Int)*(c/7%11)) (show(n.length:Int)≠0 by lia);have b2:=tM (c+(o.length:Int)*(c/7%11)) y;show tQ _ _ _ _ (List.set _ 5 (some (V.int ((c+(o.length:Int)*(c/7%11))%(n.length:Int))))) _;generalize (c+(o.length:Int)*(c/7%11))%(n.length:Int)=a0 at b1 b2;refine gr _ rfl _ _ rfl rfl (iw z_30 rfl _ rfl (iX (λ_=>(fV 0 c0 rfl rfl)) (λ_=>(fV a0.toNat (by lia) ?_ rfl))));rw[Int.toNat_of_nonneg b1];rfl
    rintro Z G' ⟨d7,c2,rfl,c8⟩;subst c8;refine al (λm Z G6=>∃g:Nat,g<d.length/\m=(d.length-g)%d.length/\Z=[Sro W,Sio c,Sro PL,Sro DL,Sro OL,Sio (g:Nat),o6]/\A0j G G6) (im _ d7 c2 rfl rfl (A0j.refl _)) ?_;rintro m Z G6 ⟨g,d6,rfl,rfl,s6⟩;have Y:n[g]?=some (n[g]'(by lia)):=hB _;obtain⟨sp,a9,b4⟩:=hE b0 Y;refine gE (id b4) λb cc u ev e1 e2 e3=>?_;obtain⟨q,I,e0⟩:=nh.mp (X.sb.subset (gT a9));have hk:=mf e0;have aP:atI n (g:Int)=some (.ref b):=hH (by rw[Y,ev]);have b8:=s6 _ _ hP;rw[ev]at b4;refine al _ rfl (iJ _ rfl _ rfl (ic _ rfl PL _ _ _ rfl rfl (SqL.of b8) aP ⟨W,DL,b,S,sp,q,r,rfl,sa.same (sG.trans s6),so,s6 _ _ hD,X.ln,b4.kt (KT.same s6),hk,I,λbb U s7 b5=>(al bb rfl ?_)⟩));have O:=s7 _ _ b8
    cases bb with
    |true=>
     refine kN (al (λZ' C=>∃m',m'<(d.length-g)%d.length/\∃g:Nat,g<d.length/\m'=(d.length-g)%d.length/\Z'=[some (.ref W),some (.int c),some (.ref PL),some (.ref DL),some (.ref OL),some (.int (g:Nat)),o6]/\A0j G C) (λZ' C z=>z) ?_)
     have e4:g≠0:=λz=>by subst z;exact absurd (b5.mpr (X.first so rfl a9 hk I)) (by decide)
     refine gr _ rfl _ _ rfl rfl (gr _ rfl PL _ rfl (.inl (SqL.of O)) (im _ _ rfl rfl y ?_));have e1:(d.length-g)%d.length=d.length-g:=Nat.mod_eq_of_lt (by lia);have e2:((g:Int)+1)%((n.length:Nat):Int)=(((g+1)%d.length:Nat):Int):=by rw[d2,Int.natCast_emod,Int.natCast_add];rfl
     refine jm ((d.length-(g+1)%d.length)%d.length) ?_ ((g+1)%d.length) (Nat.mod_lt _ c0) rfl ⟨?_,s6.trans s7⟩
     ·rw[e1];rcases Nat.lt_or_ge (g+1) d.length with z|z
      ·rw[Nat.mod_eq_of_lt z,Nat.mod_eq_of_lt (by lia)];lia
      ·have:g+1=d.length:=by lia
       rw[this,Nat.mod_self,Nat.sub_zero,Nat.mod_self];lia
     ·rw[<-e2];rfl
    |false=>
     refine gM ?_;have rd:=b5.mp rfl;have L:=s6.trans s7;refine jv _ rfl (.inl (iN rfl _ (SqL.of O))) _ rfl (mX PL n (g:Int) g (.ref b) rfl rfl O (by lia) (by lia) ?_ ⟨by rw[Y,ev],?_⟩)
     ·rw[PySem.StrLaws.seqIndex_nonneg (by lia) (by lia),Int.toNat_natCast]
     have d4:=X.ct q I;have c7:KT U (upd U PL (.lst (n.eraseIdx g))):=KT.at O (by intro xs z;cases z);have s8:A0j H (upd U PL (.lst (n.eraseIdx g))):=hJ (sG.trans L) d3;have c1:upd U PL (.lst (n.eraseIdx g)) PL=some (.lst (n.eraseIdx g)):=ee;have N:upd U PL (.lst (n.eraseIdx g)) DL=some (.lst (r.map V.int)):=by rw[dF PD.symm];exact L _ _ hD
     have c5:upd U PL (.lst (n.eraseIdx g)) OL=some (.lst o):=by rw[dF PO'.symm];exact L _ _ hO
     have b3:KT G (upd U PL (.lst (n.eraseIdx g))):=λp xs e=>c7 _ _ (L _ _ e);generalize upd U PL (.lst (n.eraseIdx g))=G8 at s8 c1 N c5 b3;have b9:=b3 _ _ e1;have aD:atI (r.map V.int) sp.1=some (.int ((kh S q x).length:Nat)):=by rw[hk];exact hH (by rw[gP,d4];rfl)
     have e5:=X.ln;refine al _ rfl (ic _ rfl b _ _ _ rfl rfl (SqT.of b9) (hH (j:=0) rfl) (iI DL _ _ _ rfl rfl (SqL.of N) aD ⟨_,(jv _ rfl rfl _ rfl (ic _ rfl b _ _ _ rfl rfl (SqT.of b9) (hH (j:=0) rfl) (iI DL _ _ q rfl rfl N ?_ ?_)))⟩))
     ·rw[hk];unfold ixN;rw[fW (by lia),fW (by rw[eH];lia),Int.toNat_natCast]
     have b7:KT G8 (upd G8 DL (.lst ((r.set q ((kh S q x).length+1)).map V.int))):=KT.at N (by intro xs z;cases z);have d1:HO.lst ((r.map V.int).set q (V.int (((kh S q x).length:Nat)+1)))=.lst ((r.set q ((kh S q x).length+1)).map V.int):=by rw[List.map_set]
     dsimp only;rw[d1];have s9:A0j H (upd G8 DL (.lst ((r.set q ((kh S q x).length+1)).map V.int))):=hJ s8 DLH;have b6:upd G8 DL (.lst ((r.set q ((kh S q x).length+1)).map V.int)) PL=some (.lst (n.eraseIdx g)):=by rw[dF PD];exact c1
     have c4:upd G8 DL (.lst ((r.set q ((kh S q x).length+1)).map V.int)) DL=some (.lst ((r.set q ((kh S q x).length+1)).map V.int)):=ee;have R:upd G8 DL (.lst ((r.set q ((kh S q x).length+1)).map V.int)) OL=some (.lst o):=by rw[dF DO.symm];exact c5
     generalize upd G8 DL (.lst ((r.set q ((kh S q x).length+1)).map V.int))=G9 at b7 s9 b6 c4 R;refine jv _ rfl (.inl (iN rfl _ (SqL.of R))) _ rfl (gX OL o _ rfl rfl R (gQ (by lia)) ?_);have d5:KT G9 (upd G9 OL (.lst (o++[.ref b]))):=KT.at R (by intro xs z;cases z);have kt:KT G (upd G9 OL (.lst (o++[.ref b]))):=λp xs e=>d5 _ _ (b7 _ _ (b3 _ _ e));have le:(d.eraseIdx g).length=d.length-1:=by rw[List.length_eraseIdx,fW d6]
     refine al ((d.eraseIdx g).length) (by lia) (jw _ _ (mD (d.eraseIdx g) (x++[sp]) (n.eraseIdx g) (o++[.ref b]) _ rfl rfl (hJ s9 OLH) (by rw[dF PO'];exact b6) ?_ (by rw[dF DO];exact c4) ee (jL (a8.kt kt) (.cons (gD b cc u rfl (kt _ _ e1) (kt _ _ e2) (kt _ _ e3)) .nil)) (X.step so rfl a9 hk I rd)));exact wZ (b0.kt kt) g
   ·have hz:¬(0:Int)<(n.length:Int):=hz;have:d=[]:=List.eq_nil_of_length_eq_zero (by lia);subst this;exact al _ rfl (k OL o x r G OLH sG hO a8 X)
def flL(tk:List (Cl×Int))(es:zB):List (Cl×Int):=es.flatMap λe=>tk.filter λp=>decide (p.1.1=e.1)
abbrev kvF(l:List (Cl×Int)):List (fZ×V):=l.map λp=>(nk p.1,V.int p.2)
theorem FW{kvs:List (fZ×V)}{k:fZ}(h:k∉kvs.map (·.1)):fy kvs k=none:=by
 cases e:fy kvs k with
 |none=>rfl
 |some v=>exact absurd (by
   clear h
   induction kvs with
   |nil=>cases e
   |cons p r ih=>
    obtain⟨a,pv⟩:=p;by_cases z:a=k
    ·rw[z];exact lD
    ·rw[jk z]at e
     exact lF _ (ih e)) h
theorem yE{l:List (Cl×Int)}{r:Cl}(h:r∉l.map (·.1)):fy (kvF l) (nk r)=none:=FW λm=>by rw[List.map_map]at m;obtain⟨p,a,z⟩:=gm.mp m;exact h (by rw[<-pM z];exact List.mem_map_of_mem a)
theorem Dg(a:(tk.map (·.1)).Nodup)(h:((x,c),b)∈tk):fy (inn tk x) (iB c)=some (.int b):=by
 induction tk with
 |nil=>cases h
 |cons p r ih=>
  obtain⟨⟨y,d⟩,f⟩:=p;rw[gw,lS]at a;by_cases hy:y=x
  ·subst hy
   have e:inn (((y,d),f)::r) y=(iB d,V.int f)::inn r y:=by unfold inn;rw[List.filter_cons_of_pos (p:=λp:Cl×Int=>decide (p.1.1=y)) (iW rfl)];rfl
   rw[e];rcases gY.mp h with z|z
   ·injection z with z1 z2;injection z1 with _ z1;subst z1 z2;exact jy rfl
   ·rw[jk λq=>a.1 (by rw[show(y,d)=(y,c)by rw[sN q]];exact gm.mpr (al _ z rfl))];exact ih a.2 z
  ·have e:inn (((y,d),f)::r) x=inn r x:=by
    unfold inn;rw[List.filter_cons_of_neg (p:=λp:Cl×Int=>decide (p.1.1=x)) (by simpa using hy)]
   rw[e];rcases gY.mp h with z|z
   ·injection z with z1 _;injection z1 with z1 _;exact absurd z1.symm hy
   ·exact ih a.2 z
theorem wg{tk:List (Cl×Int)}(c:(tk.map (·.1)).Nodup):∀{es:zB},(es.map (·.1)).Nodup->((flL tk es).map (·.1)).Nodup| [],_=>List.nodup_nil|e::r,h=>by rw[gw,lS]at h;show((tk.filter (λp=>decide (p.1.1=e.1))++flL tk r).map (·.1)).Nodup;rw[gB,lU];refine fY (c.sublist (List.Sublist.map _ List.filter_sublist)) (wg c h.2) λa f b j z=>?_;obtain⟨p,l,rfl⟩:=gm.mp f;obtain⟨q,m,rfl⟩:=gm.mp j;have k:=of_decide_eq_true (List.mem_filter.mp l).2;obtain⟨n,d,i⟩:=List.mem_flatMap.mp m;have g:=of_decide_eq_true (List.mem_filter.mp i).2;exact h.1 (by rw[<-k,z,g];exact List.mem_map_of_mem d)
theorem uD{p:Cl×Int}:p∈flL tk es↔p∈tk/\p.1.1∈es.map (·.1):=by
 unfold flL;rw[List.mem_flatMap];constructor
 ·rintro⟨e,b,h⟩;obtain⟨c,a⟩:=List.mem_filter.mp h;exact⟨c,by rw[of_decide_eq_true a];exact List.mem_map_of_mem b⟩
 ·rintro⟨c,a⟩;obtain⟨e,b,z⟩:=gm.mp a;exact al e b (List.mem_filter.mpr ⟨c,iW z.symm⟩)
inductive yj(P:yB)(w:yD)(vs:zM)(H:Hp)(Q:VK):Prop
 |mk (HD:zW) (da:Str->zW) (es:zB) (tk:List (Cl×Int)) (_:vs=[.ref HD]) (_:C1a H HD da es tk) (_:(es.map (·.1)).Nodup) (_:(tk.map (·.1)).Nodup) (_:tk.length<64) (_:es.length<=100)
  (_:∀(F:zW)(H':Hp),H F=none->A0j H H'->A3t P w [true,false] H' F (kvF (flL tk es))->Q (.ref F) H'):yj P w vs H Q
def Dm(P:yB)(w:yD):Sp:=λa H Q _=>yj P w a H Q
theorem Gq(T:Txt K mg t):FO P w base T.cT 1 (Dm P w):=by
 refine T.cT.F.ok sR λ_ A _ s H _ Q E hr h=>?_
 ·obtain⟨HD,f,r,d,rfl,U,a9,Y,c1,c0,k⟩:=h;have hu:=kF hr;have hn:=n5 hr;refine rsq (fa (gx 1 sR.nd (qF (sh:=[true,false]))) (fa (gZ (mu (iY (iL jZ (by rfl) T.a6 jU (dV (pv 0) (dV (jY (v:=V.ty "dict") rfl T.c9 px rfl) eg))))) (fC (gq (pv 1))) ⟨gW⟩) (fa (iA (xU (pv 0)) (gc (i:=2) sR.nd) (fa (gZ (mu (iY (iL jZ (by rfl) T.a6 jU (dV (iE hu (pv 0) (pv 2)) (dV (jY (v:=V.ty "dict") rfl T.c9 px rfl) eg))))) (fC (gq (qF (sh:=[true,false])))) ⟨gW⟩) (fa (iA (EW (iE hu (pv 0) (pv 2))) (gc (i:=3) sR.nd) (fC ⟨lM (iE hu (iE hu (pv 0) (pv 2)) (pv 3)) (n7 (pv 1) (ir (dV (pv 2) (fX 3))) (qz hn))⟩)) ⟨vj gW⟩))) ⟨@u6 _ _ _ (@jN _ _ _ (@ms _ _ _ _ (pv 1)))⟩))) ?_;refine λF o0 hF R=>?_;have s1:A0j H (upd H F o0):=fx hF;have R:A3t P w [true,false] (upd H F o0) F []:=R;generalize upd H F o0=H1 at s1 R;have FH:HD≠F:=ga U.hd hF;refine iT _ rfl _ _ _ _ rfl (.dK (s1 _ _ U.hd)) (mV "dict") _ rfl (gM ?_);refine gr _ rfl HD _ rfl (s1 _ _ U.hd) λo1=>?_;obtain⟨Gf,hGf⟩:∃Gf,Gf=upd H1 HD (.frz o1 (.dK (hmK f r))):=⟨_,rfl⟩;rw[<-hGf];have fz:Gf HD=some (.frz o1 (.dK (hmK f r))):=by rw[hGf];exact ee
  have a0:∀{b:zW}{u:HO},b≠HD->H1 b=some u->Gf b=some u:=λn e=>by rw[hGf,dF n];exact e
  have b1:A3t P w [true,false] Gf F []:=by rw[hGf];exact R.keeps (λ_ e=>by rw[dF FH.symm];exact e) λ_ _ e=>by rw[dF (gg e (s1 _ _ U.hd) (by intro z;cases z))];exact e
  have lt:(hmK f r).length=r.length:=eH _
  have lf:∀l:List (Cl×Int),(∀p∈l,p∈d)->(l.map (·.1)).Nodup->l.length<64:=λl h nd=>by
   have:=oo nd (m:=d.map (·.1)) λc hc=>by obtain⟨p,M,rfl⟩:=gm.mp hc;exact List.mem_map_of_mem (h p M)
   rw[eH,eH]at this
   lia
  refine yF (λi Z G=>∃(C S:zP),Z=[Sro HD,Sro F,C,S]/\KB F Gf G/\A3t P w [true,false] G F (kvF (flL d (r.take i)))) (el none none rfl KB.refl (by rw[List.take_zero];exact b1)) (by rintro i Z G ⟨_,_,_,N,_⟩;exact N _ _ FH fz) ?_ ?_
  ·rintro i k' v Z G hk ⟨C,S,rfl,N,nd⟩;rw[gP]at hk;obtain⟨e,he,ek⟩:=lI.mp hk;injection ek with ek1 ek2;subst ek1 ek2;have em:=gT he;have I:=U.inr e em;have X:f e.1≠F:=ga I hF;have dH:f e.1≠HD:=gg I U.hd (by intro z;cases z);have B:G (f e.1)=some (.dT (inn d e.1)):=N _ _ X (a0 dH (s1 _ _ I));have gH:A6z G HD (.str e.1) (some (.ref (f e.1))):=.inl (el _ (Sum.inr e.1) (.inr ⟨o1,N _ _ FH fz⟩) rfl ((pO (List.mem_map_of_mem em)).symm));have et:r.take (i+1)=r.take i++[e]:=by rw[gR,he];rfl
   refine ie _ rfl _ rfl HD _ rfl gH ⟨_,(jn _ _ _ rfl (iw (.dT B) (mV "dict") _ rfl (gM ?_)))⟩;refine ie _ rfl _ rfl HD _ rfl gH (el (f e.1) _ rfl B λC Lk kl=>?_);have D:upd G (f e.1) (.frz C (.dT (inn d e.1))) (f e.1)=some (.frz C (.dT (inn d e.1))):=ee;have a7:∀{c:zW}{u:HO},c≠f e.1->G c=some u->upd G (f e.1) (.frz C (.dT (inn d e.1))) c=some u:=λn z=>by rw[dF n];exact z
   have a1:KL (upd G (f e.1) (.frz C (.dT (inn d e.1)))) (inn d e.1) Lk:=Paired.mapP kl λ_ _ z=>by obtain⟨bc,z1,z2,z3⟩:=z;exact fV bc z1 (by rw[dF (gg z2 B (by intro z;cases z))];exact z2) z3
   have a2:A3t P w [true,false] (upd G (f e.1) (.frz C (.dT (inn d e.1)))) F (kvF (flL d (r.take i))):=nd.keeps (λ_ e=>by rw[dF X.symm];exact e) λ_ _ e=>by rw[dF (gg e B (by intro z;cases z))];exact e
   have b0:upd G (f e.1) (.frz C (.dT (inn d e.1))) HD=some (.frz o1 (.dK (hmK f r))):=by rw[dF dH.symm];exact N _ _ FH fz
   generalize upd G (f e.1) (.frz C (.dT (inn d e.1)))=Gz at D a7 a1 a2 b0;have li:(inn d e.1).length=(d.filter λp=>decide (p.1.1=e.1)).length:=eH _;have b8:=Paired.length a1
   have b3:∀e'∈r.take i,e'.1≠e.1:=λe' W z=>by have n2:=a9;rw[<-p8 (i+1) r,et,gB,gB,lH,lU]at n2;exact n2.2.2 e'.1 (List.mem_map_of_mem W) e.1 (by simp) z
   have b5:∀p∈flL d (r.take i),p∈d/\p.1.1≠e.1:=λp M=>by obtain⟨e',W,h⟩:=List.mem_flatMap.mp M;obtain⟨h1,h2⟩:=List.mem_filter.mp h;exact⟨h1,by rw[of_decide_eq_true h2];exact b3 e' W⟩
   have a3:flL d (r.take (i+1))=flL d (r.take i)++d.filter λp=>decide (p.1.1=e.1):=by unfold flL;rw[et,List.flatMap_append,List.flatMap_singleton]
   have b6:∀i,((flL d (r.take i)).map (·.1)).Nodup:=λi=>wg Y (a9.sublist (List.Sublist.map _ (List.take_sublist _ _)));refine GA (L:=Lk) (u:=.dT (inn d e.1)) (a:=f e.1) (o:=C) (λj Z J=>∃(S:zP),Z=[Sro HD,Sro F,Sso e.1,S]/\KB F Gz J/\A3t P w [true,false] J F (kvF (flL d (r.take i)++(d.filter λp=>decide (p.1.1=e.1)).take j))) (fV S rfl KB.refl (by rw[List.take_zero,lT];exact a2)) (by rintro j Z J ⟨_,_,g,_⟩;exact g _ _ X D) ?_ ?_
   ·rintro j pp Z J M ⟨S,rfl,g,O⟩;have hj:j<Lk.length:=(gG.mp M).1;obtain⟨q,hfq⟩:∃q,(d.filter λp=>decide (p.1.1=e.1))[j]?=some q:=⟨_,hB (by lia)⟩;obtain⟨q1,q2⟩:=List.mem_filter.mp (gT hfq);have q2:=of_decide_eq_true q2;obtain⟨⟨x,c⟩,b⟩:=q;have q2:x=e.1:=q2;subst q2;have b7:(inn d e.1)[j]?=some (iB c,V.int b):=by unfold inn;rw[gP,hfq];rfl
    obtain⟨y,hy,bc,y1,y2,y3⟩:=hE a1 b7;rw[M]at hy;cases hy;obtain⟨p1,p2⟩:=pp;obtain rfl:p1=.ref bc:=y1;have y2:Gz bc=some (.tup ((iB c).map kV)):=y2
    have bF:bc≠F:=λz=>by obtain⟨u,e0,nt⟩:=my a2;rw[<-z,y2]at e0;exact nt _ (je e0).symm
    have a8:=g _ _ bF y2;have b4:A6z J HD (.str e.1) (some (.ref (f e.1))):=.inl (el _ (Sum.inr e.1) (.inr ⟨o1,g _ _ FH b0⟩) rfl ((pO (List.mem_map_of_mem em)).symm));have gI:A6z J (f e.1) (.ref bc) (some (.int b)):=.inr (gD _ (iB c) bc (.inr ⟨C,g _ _ X D⟩) rfl a8 ((Dg Y q1).symm))
    have b2:(e.1,c)∉(flL d (r.take i)++(d.filter λp=>decide (p.1.1=e.1)).take j).map (·.1):=λm=>by
     rw[gB,iQ]at m;rcases m with m|m
     ·obtain⟨p,M,z⟩:=gm.mp m;exact(b5 p M).2 (by rw[z])
     ·have nf:((d.filter λp=>decide (p.1.1=e.1)).map (·.1)).Nodup:=Y.sublist (List.Sublist.map _ List.filter_sublist);rw[List.map_take]at m;exact pd nf (by rw[gP,hfq];rfl) m
    refine ie _ rfl _ rfl HD _ rfl b4 (gr _ rfl (f e.1) _ rfl gI ?_);refine al _ rfl (jm _ rfl _ rfl (gj rfl) λqq b9=>?_);have sq:A0j J (upd J qq (.tup [.str e.1,.ref bc])):=fx b9;have na:A1w (upd J qq (.tup [.str e.1,.ref bc])) (nk (e.1,c)) qq:=oz ee (sq _ _ a8);have a4:=iF O sq;generalize upd J qq (.tup [.str e.1,.ref bc])=G3 at sq na a4;refine jw F qq (jF _ _ (nk (e.1,c)) ⟨rfl,rfl,a4,na,rfl⟩ ?_ λo4 a5=>?_)
    ·have l1:=lf (flL d (r.take (i+1))) (λp M=>(uD.mp M).1) (b6 (i+1));rw[a3,gz]at l1;rw[eH,gz,iP];exact gQ (by lia)
    rw[nI _ (yE b2)]at a5;refine fV _ rfl ((g.trans (KB.of sq)).upd) ?_;rw[gR,hfq,<-lH];show A3t P w [true,false] (upd G3 F o4) F (List.map _ (_++[((e.1,c),b)]));rw[gB];exact a5
   ·rintro Z J ⟨S,rfl,g,O⟩;rw[<-b8,li,hQ,<-a3]at O;refine jn (f e.1) C _ (g _ _ X D) (iU (λo' u' z=>by have z:H (f e.1)=some (.frz o' u'):=z;rw[I]at z;cases z) _ _ rfl (λc u hc z=>?_) ?_)
    ·by_cases cd:c=f e.1
     ·subst cd;rw[a0 dH (s1 _ _ I)]at z;cases z;exact ee
     ·rw[dF cd];exact g _ _ hc (a7 cd (N _ _ hc z))
    ·exact O.keeps (λ_ e=>by rw[dF X.symm];exact e) λ_ _ e=>by rw[dF (gg e (g _ _ X D) (by intro z;cases z))];exact e
  ·rintro Z G ⟨C,S,rfl,N,nd⟩;rw[lt,hQ]at nd;refine jw HD o1 (jv _ (N _ _ FH fz) (λo' u' z=>by have z:H HD=some (.frz o' u'):=z;rw[U.hd]at z;cases z) _ rfl ?_);have fG:=N _ _ FH fz;refine k F _ hF (λc u e=>?_) (nd.keeps (λ_ e=>by rw[dF FH.symm];exact e) λ_ _ e=>by rw[dF (gg e fG (by intro z;cases z))];exact e);by_cases z:c=HD
   ·subst z;rw[U.hd]at e;cases e;exact ee
   ·rw[dF z];exact N _ _ (ga e hF) (a0 z (s1 _ _ e))
theorem Fs(h:i<=xs.length):jK xs none (some (i:Int))=xs.take i:=by unfold jK;have a:HT.sIx xs.length 0 none=0:=rfl;have b:HT.sIx xs.length xs.length (some (i:Int))=min i xs.length:=HT.sIx_nat _ _ _;rw[a,b,Nat.min_eq_left h,List.drop_zero,Nat.sub_zero]
theorem yp{l:List (Cl×Int)}{r:Cl}(h:r∈l.map (·.1)):(fy (kvF l) (nk r)).isSome=true:=by
 induction l with
 |nil=>cases h
 |cons p t ih=>
  by_cases z:p.1=r
  ·show(fy ((nk p.1,V.int p.2)::kvF t) (nk r)).isSome=true;rw[z,jy rfl];rfl
  ·show(fy ((nk p.1,V.int p.2)::kvF t) (nk r)).isSome=true;rw[jk λq=>z (pM q)];rw[gw]at h;rcases gY.mp h with q|q
   ·exact absurd q.symm z
   ·exact ih q
theorem pP:∀k:Nat,k<51->(("l":Str)).length+(Str.ofString (toString (k:Int))).length<=10:=by decide+kernel
theorem zx{k:Nat}(h:k<51):((k:Int)).natAbs.log2<1920:=by rw[Int.natAbs_natCast];exact p9 (Nat.log2_le_self _) (by lia)
def mr(r:Cl):PyData:=.tuple [.str r.1,rk r.2]
theorem uc{r:Cl}(h:PyData.strOk r.1=true):SeqAt.shaped (mr r)=true/\PyData.eqv (mr r) (mr r)=true:=by
 obtain⟨a,b,c⟩:=xW r.2;refine⟨Gn ?_ ?_,?_⟩
 ·simp[mr,rk,PyData.canLayAll0,PyData.canLay0,b,h]
 ·simp only [mr,rk,PyData.depth,PyData.depthAll,a];lia
 ·rw[mr,PyData.eqv];simp[PyData.eqvAll,PyData.eqv,rk,c]
theorem wK{r:Cl}(h:B7v H v r):Rep H v (mr r):=by obtain⟨p,q,rfl,b,a⟩:=h;exact .tup b (.cons (.str _) (.cons (.tup a (yM _)) .nil))
theorem B7v.inj{r f:Cl}(h:B7v H v r)(h':B7v H v f):r=f:=by obtain⟨p,q,rfl,i,g⟩:=h;obtain⟨k,j,e,c,d⟩:=h';cases e;rw[i]at c;injection c with c;injection c with c;injection c with c h3;injection h3 with h3 _;cases h3;rw[g]at d;injection d with d;injection d with d;refine Prod.ext (V.str.inj c) ?_;exact(List.map_inj_right λa b z=>V.int.inj z).mp d
noncomputable def kfT(H:Hp)(v:V):PyData:=@dite _ (∃r:Cl,B7v H v r) (Classical.propDecidable _) (λh=>mr h.choose) λ_=>.none
theorem xh{r:Cl}(h:B7v H v r):kfT H v=mr r:=by have e:∃r:Cl,B7v H v r:=⟨r,h⟩;unfold kfT;rw[dif_pos e];rw[B7v.inj e.choose_spec h]
theorem CS(b:A6v S){k:Nat}(g:s.1=(k:Int))(d:k<S.looks.length):∀r∈jt S s,PyData.strOk r.1=true:=λr c=>by
 have h:=b.n50;by_cases hw:s.2.1="start"
 ·have e:jt S s=[]:=fW hw;rw[e]at c;cases c
 ·have e:S.looks[k]?=some (jt S s):=by
   unfold jt;rw[ej hw,g,Int.toNat_natCast];have:S.looks[k]?=some (S.looks[k]'d):=hB _;rw[this];rfl
  rcases(b.lk k _ e).2 _ c with ⟨f,a,z,_⟩|⟨j,i,z⟩
  ·rw[z];exact(qD f (b.tin f a)).2.2.1
  ·rw[z];exact(uh j (by lia)).1
inductive ze(P:yB)(w:yD)(vs:zM)(H:Hp)(Q:VK):Prop
 |mk (ab OL q F:zW) (gp:Nat) (S:Spn) (ys:zM) (ss:List Stp) (r:Cl) (l:List (Cl×Int)) (_:vs=[.ref ab,.ref OL,.int (gp:Nat),.ref q,.ref F]) (_:C7i H ab S) (_:A6v S) (_:H OL=some (.lst ys)) (_:A2j H ys ss) (_:∀s∈ss,∃k:Nat,s.1=(k:Int)/\k<S.looks.length) (_:gp<=ss.length) (_:ss.length<=200) (_:B7v H (.ref q) r) (_:A3t P w [true,false] H F (kvF l)) (_:r∈l.map (·.1))
  (_:(∃e∈kQ,r.1=e.1)\/∃j,j<50/\r.1=nmL j/\∃(m:Nat)(s:Stp),m<gp/\ss[m]?=some s/\s.1=(j:Int))
  (_:r.1∈S.outs\/∃(m k:Nat)(s:Stp),gp<=m/\ss[m]?=some s/\s.1=(k:Int)/\(nmL k,([]:zI))∈l.map (·.1)/\r∈jt S s)
  (_:∀(H':Hp),A0j H H'->Q (.bl true) H'):ze P w vs H Q
def EC(P:yB)(w:yD):Sp:=λa H Q _=>ze P w a H Q
theorem Gc(T:Txt K mg t):FO P w base T.cV 2 (EC P w):=by
 refine T.cV.F.ok qH λ_ A _ s H _ Q E hr h=>?_
 ·obtain⟨ab,OL,q,F,d,S,C,ss,r,l,rfl,sa,so,hO,st,sk,d5,d1,tr,nd,hm,M,b5,k⟩:=h;have hu:=kF hr;have hn:=n5 hr;have b4:=Paired.length st;obtain⟨a1,a2,a3,a4,a5,ts,ks,h1,h2,h3,h4,h5,h6,h7,h8⟩:=id sa;obtain⟨q',cq,eq,hq,hc⟩:=id tr;cases eq;have na:A1w H (nk r) q:=oz hq (by rw[List.map_map];exact hc);refine rsq (fa (gZ (iz (Fz hn) (pv 3) (pv 4) (by with_unfolding_all rfl)) (fC (gq ko)) ⟨gW⟩) (oA (gZ (iz ma (jM wV (pit 3) gh) gJ) (fa (gx 5 qH.nd ko) (fa (iA (jc (mz mT (pv 1) oU (kH (pv 2)))) (gc (i:=6) qH.nd) (fC (gZ (iz ma (gn pf gJ (lA ph (by rfl) T.d0 PyProof.Rows.boot_str (dV (pit 6) eg))) (pit 3)) (fC (gx 5 qH.nd ko)) ⟨gW⟩))) (fC (gZ (mu (iY (pv 5))) (fC (gq ko)) ⟨gW⟩)))) ⟨gW⟩) (fa (gZ (iz y8 (pit 3) (iE hu (pv 0) gJ) (by with_unfolding_all rfl)) (fC (gq ko)) ⟨gW⟩) (fa (iA (jc (mz mT (pv 1) (kH (pv 2)) oU)) (gc (i:=6) qH.nd) (fC (gZ (PW.pt (rQ (iz (rY hn) (ir (dV (gn pf gJ (lA ph (by rfl) T.d0 PyProof.Rows.boot_str (dV (pit 6) eg))) (dV (ir eg) eg))) (pv 4) (by with_unfolding_all rfl)) (su (iz (CK (tG hr)) (pv 3) (pcl (Aa T) hr T.bT (dV (pv 0) (fX 6))) (by with_unfolding_all rfl))))) (fC (gq ko)) ⟨gW⟩))) (fC (gq ko)))))) ?_;obtain⟨v0,a8⟩:=Option.isSome_iff_exists.mp (yp hm);refine al _ rfl (kK _ rfl F q _ _ (nk r) (gF ⟨rfl,rfl,nd,na,rfl⟩ _ rfl ?_));rw[a8];refine gM ?_;refine al (λZ' H'=>∃U u,Z'=[some (.ref ab),some (.ref OL),some (.int (d:Nat)),some (.ref q),some (.ref F),U,u]/\A0j H H') ?_ ?_
  ·rcases M with ⟨e,he,z⟩|⟨j,hj,z,mm,sm,c1,c8,b8⟩
   ·obtain⟨L,f2,_⟩:=qD e he;rw[<-z]at L f2;rcases L with L|L
    ·exact ic _ rfl q _ _ _ rfl rfl (SqT.of hq) (hH (j:=0) rfl) (gD r.1 0 117 rfl rfl (iS (by lia)) (iw L rfl _ rfl (iX (λh=>absurd h (by decide+kernel)) (λh=>(iy none none rfl (A0j.refl _))))))
    ·exact ic _ rfl q _ _ _ rfl rfl (SqT.of hq) (hH (j:=0) rfl) (gD r.1 0 116 rfl rfl (iS (by lia)) (iw L rfl _ rfl (iX (λh=>absurd h (by decide+kernel)) (λh=>(iy none none rfl (A0j.refl _))))))
   ·have L:=yG j (by lia);have f2:=(wX j (by lia)).2.2;rw[<-z]at L f2;refine ic _ rfl q _ _ _ rfl rfl (SqT.of hq) (hH (j:=0) rfl) (gD r.1 0 108 rfl rfl (iS (by lia)) (iw L rfl _ rfl (iX (λh=>?_) (λh=>absurd (by decide+kernel) h))));refine al _ rfl (ie _ rfl d rfl OL C rfl (SqL.of hO) λp hp=>?_);rw[Fs (by lia)];obtain⟨H2,s2,x,X⟩:=nH (o:=.lst (C.take d)) hp
    try rw[X]
    refine fV p rfl ⟨_,SqL.of x⟩ ?_;refine kz (K:=K) (a:=p) (xs:=C.take d) (λi Z G=>∃(bb:Bool)(u:zP),Z=[Sro ab,Sro OL,Sio (d:Nat),Sro q,Sro F,Sbo bb,u]/\G=H2/\((∃(m:Nat)(s:Stp),m<i/\ss[m]?=some s/\s.1=(j:Int))->bb=true)) (el false none rfl rfl λ⟨_,_,h,_⟩=>absurd h (Nat.not_lt_zero _)) (by rintro i Z G _ ⟨_,_,_,rfl,_⟩;exact SqL.of x) ?_ ?_
    ·rintro i v Z G n ⟨bb,u,rfl,rfl,I⟩
     have b2:C[i]?=some v:=by
      rw[List.getElem?_take]at n;split at n
      ·exact n
      ·cases n
     obtain⟨f,B,J⟩:=hE st b2;refine gE (id J) ?_;rintro b c2 u2 rfl e1 _ _;obtain⟨k0,c,Y⟩:=sk f (gT B);have b9:=so.n50;have e1:=s2 _ _ e1;refine ic _ rfl b _ _ _ rfl rfl (SqT.of e1) (hH (j:=0) rfl) ?_;refine fV f.1 rfl (by rw[c];exact zx (by lia)) (im "l" _ rfl rfl (by rw[c];exact iS (by have:=pP k0 (by lia);lia)) (ic _ rfl q _ _ _ rfl rfl (SqT.of (s2 _ _ hq)) (hH (j:=0) rfl) (gF rfl _ rfl (iX (λh=>?_) (λh=>?_)))))
     ·exact el true _ rfl rfl λ_=>rfl
     ·refine el bb _ rfl rfl λ⟨m,s',h1,h2,h3⟩=>?_;by_cases zm:m=i
      ·subst zm;rw[B]at h2;cases h2;refine absurd ?_ h;show V.str (("l":Str)++Str.ofString (toString f.1))=V.str r.1;rw[h3,z];rfl
      ·exact I (el m s' (by lia) h2 h3)
    ·rintro Z G ⟨bb,u,rfl,rfl,I⟩;have lt:(C.take d).length=d:=by rw[iP];lia
     rw[lt]at I;have hb:=I (el mm sm c1 c8 b8);subst hb;exact iJ _ rfl true rfl (gM (iy _ _ rfl s2))
  ·rintro Z' H1 ⟨U,u,rfl,s1⟩;have c7:(S.outs.map V.str).all mQ=true:=yY S.outs;refine ic _ rfl q _ _ _ rfl rfl (SqT.of (s1 _ _ hq)) (hH (j:=0) rfl) (gr _ rfl ab _ rfl (dg (s1 _ _ h1) (xJ a1 a2 a3 a4 a5)) (el a4 _ rfl (.inl (SqL.of (s1 _ _ h7))) (iw rfl c7 _ rfl ?_)));rw[xq];by_cases ho:r.1∈S.outs
   ·rw[iW ho];exact kN (k _ s1)
   ·rw[kj ho];refine gM ?_;have N:=b5.resolve_left ho;refine gE N ?_;clear N;rintro mm kk sm d4 O d3 ⟨c4,b7⟩;refine al _ rfl (ie _ rfl d rfl OL C rfl (SqL.of (s1 _ _ hO)) λp hp=>?_);rw[y9];obtain⟨H2,s2,x,X⟩:=nH (o:=.lst (C.drop d)) hp
    try rw[X]
    have b0:=s1.trans s2;refine fV p rfl ⟨_,SqL.of x⟩ ?_;refine kz (K:=K) (a:=p) (xs:=C.drop d) (λi Z G=>∃(U u:zP),Z=[Sro ab,Sro OL,Sio (d:Nat),Sro q,Sro F,U,u]/\A0j H2 G/\¬mm<d+i) (el U u rfl (A0j.refl _) (by lia)) (by rintro i Z G _ ⟨_,_,_,sg,_⟩;exact SqL.of (sg _ _ x)) ?_ ?_
    ·rintro i v Z G n ⟨U,u,rfl,sg,c5⟩;rw[List.getElem?_drop]at n;obtain⟨f,B,J⟩:=hE st n;refine gE (id J) ?_;rintro b c2 u2 rfl e1 _ _;obtain⟨k0,c,Y⟩:=sk f (gT B);have b9:=so.n50;have sG:=b0.trans sg;refine ic _ rfl b _ _ _ rfl rfl (SqT.of (sG _ _ e1)) (hH (j:=0) rfl) ?_;refine fV f.1 rfl (by rw[c];exact zx (by lia)) (ij "l" _ rfl rfl (by rw[c];exact iS (by have:=pP k0 (by lia);lia)) (gj rfl) λc3 c9=>⟨gj rfl,λb3 a7=>?_⟩);have b1:("l":Str)++Str.ofString (toString f.1)=nmL k0:=by rw[c];rfl
     have t1:A0j G (upd G c3 (.tup [])):=fx c9;have t2:=fx (o:=.tup [.str (("l":Str)++Str.ofString (toString f.1)),.ref c3]) a7
     have a6:A1w (upd (upd G c3 (.tup [])) b3 (.tup [.str (("l":Str)++Str.ofString (toString f.1)),.ref c3])) (nk (nmL k0,[])) b3:=by rw[b1];exact oz ee (by rw[oj a7 ee];rfl)
     have y:=sG.trans (t1.trans t2);generalize upd (upd G c3 (.tup [])) b3 (.tup [.str (("l":Str)++Str.ofString (toString f.1)),.ref c3])=G3 at t2 a6 y;have a0:=sg.trans (t1.trans t2);have c0:=iF nd y;refine kK _ rfl F b3 _ _ (nk (nmL k0,[])) (gF ⟨rfl,rfl,c0,a6,rfl⟩ _ rfl ?_)
     have nx:(mm=d+i->(nmL k0,([]:zI))∈l.map (·.1)->r∉jt S f)->¬mm<d+(i+1):=λhh z=>by
      have e:mm=d+i:=by lia
      have e2:sm=f:=by rw[e,B]at O;exact(je O).symm
      subst e2;have e3:kk=k0:=by lia
      subst e3;exact hh e c4 b7
     by_cases hin:(nmL k0,([]:zI))∈l.map (·.1)
     ·obtain⟨v1,c6⟩:=Option.isSome_iff_exists.mp (yp hin);rw[c6];refine kN ?_;refine al _ rfl (iJ _ rfl _ rfl ⟨ab,b,S,f,k0,rfl,sa.same y,J.kt (KT.same y),c,Y,λR es H5 s5 hR rd=>?_⟩);have W:=y.trans s5;have b6:B7v H5 (.ref q) r:=(el q cq rfl (W _ _ hq) (W _ _ hc))
      have rok:PyData.strOk r.1=true:=by
       rcases M with ⟨e,he,z⟩|⟨j,hj,z,_⟩
       ·rw[z];exact(qD e he).2.2.1
       ·rw[z];exact(uh j (by lia)).1
      have a9:∀v∈es,∃r'∈jt S f,B7v H5 v r':=λv n=>by obtain⟨i',D⟩:=List.getElem?_of_mem n;obtain⟨r',g,z⟩:=hE rd D;exact al r' (gT g) z
      refine iI R es (kfT H5) (mr r) rfl (SqL.of hR) (wK b6) ((uc rok).1) (gF (λv n=>?_) _ rfl ?_)
      ·obtain⟨r',g,z⟩:=a9 v n;rw[xh z];have z':=id z;obtain⟨p',_,e,_⟩:=z';exact fV p' e (wK z) ((uc (CS so c Y r' g)).1)
      ·cases hb:es.any λv=>PyData.eqv (kfT H5 v) (mr r)with|true=>exact kN (k _ W)|false=>refine gM (el _ _ rfl (a0.trans s5) (nx λ_ _ hr=>?_));obtain⟨i',D⟩:=List.getElem?_of_mem hr;have lr:=Paired.length rd;have d2:=(gG.mp D).1;have he:es[i']?=some (es[i']'(by lia)):=hB _;obtain⟨r',g,z⟩:=hE rd he;rw[D]at g;cases g;have:(es.any λv=>PyData.eqv (kfT H5 v) (mr r))=true:=List.any_eq_true.mpr (al _ (gT he) (by rw[xh z];exact(uc rok).2));rw[this]at hb;cases hb
     ·rw[yE hin];exact gM (gM (el _ _ rfl a0 (nx λ_ h=>absurd h hin)))
    ·rintro Z G ⟨U,u,rfl,sg,c5⟩;have:=(gG.mp O).1;have ld:(C.drop d).length=ss.length-d:=by rw[pz,b4]
     lia
def LS(S:Spn)(x:Str):Int:=if x="z" then S.z else S.w
def nmS:zC:=["z","w"]
def lnS(n:Nat):zB:=(List.range n).map λk=>(nmL k,[])
def esS(S:Spn):zB:=S.tabs++lnS S.looks.length
def ixK(c:zI):zL:=c.map λn=>("",n)
def tmK(l:List Cl)(k:Nat):Tm:=l.foldl (λu r=>.pair .plus u (.read r.1 (ixK r.2))) (.num k)
def smK(S:Spn)(k:Nat):zC:=if S.sum[k]?=some true then ["z"]else []
def nX(S:Spn)(k:Nat):LnM:=⟨nmL k,[],smK S k,tmK ((S.looks[k]?).getD []) k⟩
def gU(S:Spn)(n:Nat):List LnM:=(List.range n).map (nX S)
theorem EQ:(kQ.map (·.1)).Nodup:=by decide+kernel
theorem A6v.tnd(a:A6v S):(S.tabs.map (·.1)).Nodup:=by obtain⟨d,b⟩:=a.tb;rw[b];exact EQ.sublist (List.Sublist.map _ (List.drop_sublist _ _))
theorem A6v.t4(a:A6v S):S.tabs.length<=4:=by obtain⟨d,b⟩:=a.tb;rw[b,pz];exact Nat.sub_le _ _
theorem wR(i:A6v S)(h:n<=50):((S.tabs++lnS n).map (·.1)).Nodup:=by
 rw[gB,lU];refine fY i.tnd ?_ λa c b f z=>?_
 ·unfold lnS;rw[List.map_map];show List.Pairwise _ _;rw[List.pairwise_map];refine List.Pairwise.imp_of_mem ?_ List.nodup_range;intro a b c f g e;exact g (qv a (by have:=List.mem_range.mp c;lia) b (by have:=List.mem_range.mp f;lia) e)
 ·obtain⟨e,l,rfl⟩:=gm.mp c;obtain⟨m,d,rfl⟩:=gm.mp f;obtain⟨k,j,rfl⟩:=gm.mp d;exact rK e (i.tin e l) k (by have:=List.mem_range.mp j;lia) z
theorem wM{AD b:zW}(a:AR S' G ak es)(l:G AD=some (.dK ak))(n:x∉es.map (·.1))(g:G b=some (.lst (ys.map V.str)))(m:S' b):upd G AD (.dK (gC ak (Sum.inr x) (.ref b))) AD=some (.dK (ak++[(Sum.inr x,.ref b)]))/\AR S' (upd G AD (.dK (gC ak (Sum.inr x) (.ref b)))) (ak++[(Sum.inr x,.ref b)]) (es++[(x,ys)]):=by
 have e:=nI (V.ref b) (xv a n);rw[e];have d:∀{c:zW}{f:zM},G c=some (.lst f)->upd G AD (.dK (ak++[(Sum.inr x,V.ref b)])) c=some (.lst f):=λz=>by rw[dF (gg z l (by intro q;cases q))];exact z
 refine⟨ee,jL (Paired.mapP a λ_ _ z=>?_) (.cons (jP rfl b rfl m (d g)) .nil)⟩;obtain⟨o,j,i,k,h⟩:=z;exact jP o j i k (d h)
theorem yw(n:Nat):lnS (n+1)=lnS n++[(nmL n,[])]:=by unfold lnS;rw[List.range_succ,gB];rfl
theorem GT(S:Spn)(n:Nat):gU S (n+1)=gU S n++[nX S n]:=by unfold gU;rw[List.range_succ,gB];rfl
theorem qj(h:i<=50):(i:Int).natAbs.log2<1920:=by
 rw[Int.natAbs_natCast];have:=Nat.log2_le_self i
 lia
theorem AZ:∀e∈kQ,e.2.length<=1:=by decide+kernel
theorem vN(a:A6v S):B5d (szK S.z S.w) (LS S) nmS:=by
 have f:=a.z1;have g:=a.z3;have e:=a.w1;have h:=a.w9;have d:LS S "z"=S.z:=fW rfl;have c:LS S "w"=S.w:=ej (by decide+kernel);refine⟨?_,by decide+kernel,by decide,λy b=>?_⟩
 ·show szK S.z S.w=[((Sum.inr ("z":Str):Key),V.int (LS S "z")),((Sum.inr ("w":Str):Key),V.int (LS S "w"))];rw[d,c]
 ·rcases gY.mp b with rfl|b
  ·rw[d];exact ip f (by lia) (by decide+kernel) (by decide+kernel)
  ·rcases ik.mp b with rfl;rw[c];exact ip e (by lia) (by decide+kernel) (by decide+kernel)
theorem Em(l:List Cl)(r:Cl)(k:Nat):tmK (l++[r]) k=.pair .plus (tmK l k) (.read r.1 (ixK r.2)):=by unfold tmK;rw[List.foldl_append];rfl
theorem A6v.cl(g:A6v S){k:Nat}{l:List Cl}{r:Cl}(h:S.looks[k]?=some l)(o:r∈l):r.2.length<=1:=by
 rcases(g.lk k l h).2 r o with ⟨e,m,_,d⟩|⟨j,_,rfl⟩
 ·have a:=g.tin e m;unfold kQ at a
  have f:∀c:zI,c∈gl (([]:zC).map λ_=>S.w)->c.length<=1:=λc b=>by have:c=[]:=ik.mp b;rw[this];exact iG _
  have i:∀c:zI,c∈gl ((["w"]:zC).map λ_=>S.w)->c.length<=1:=λc b=>by have b:c∈gl [S.w]:=b;rw[og]at b;obtain⟨n,_,rfl⟩:=gm.mp b;exact gf _
  rcases gY.mp a with rfl|a
  ·exact f _ d
  rcases gY.mp a with rfl|a
  ·exact i _ d
  rcases gY.mp a with rfl|a
  ·exact f _ d
  rcases ik.mp a with rfl
  ·exact f _ d
 ·exact iG _
inductive yW(A:Adr)(vs:zM)(H:Hp)(Q:VK):Prop
 |mk (ab:zW) (S:Spn) (_:vs=[.ref ab]) (_:C7i H ab S) (_:A6v S) (_:S.outs.length<=60)
  (_:∀(p:zW)(H':Hp),A0j H H'->ClF A H' p (LS S) nmS (esS S) (gU S S.looks.length) S.outs->(∃dx l a tl ln o,H' p=some (clo A dx 1000 l a tl ln o)/\H' tl=some (.lst ((S.tabs.map (·.1)).map V.str)))->Q (.ref p) H'):yW A vs H Q
def Er(A:Adr):Sp:=λa H Q _=>yW A a H Q
theorem GD(T:Txt K mg t):FO P w base T.cF 7 (Er t):=by
 refine T.cF.F.ok me λ_ A _ s H _ Q E hr h=>?_
 ·obtain⟨ab,S,rfl,sa,so,j3,k⟩:=h;have hu:=kF hr;have j4:=so.n50;obtain⟨a1,a2,a3,a4,a5,ts,ks,h1,h2,h3,h4,h5,h6,h7,h8⟩:=id sa;have d6:=Paired.length h4;have f7:=Paired.length h6;refine rsq (fa (gx 1 me.nd pT) (fa (iA (jc (iE hu (pv 0) gJ)) (ux (n:=2) rfl (gK (gc (i:=2) me.nd) (gK (gc (i:=3) me.nd) jD))) (fC ⟨@nG _ _ _ _ _ _ _ _ _ hu (pv 1) (pv 2) (pv 3) rfl⟩)) (fa (gx 4 me.nd (@hY _ _ _ _ eg)) (fa (iA (oq rfl T.ba (dV (jr T.aj (dV (iE hu (pv 0) gJ) eg)) eg)) (gc (i:=5) me.nd) (fa (gx 6 me.nd (pmk T.eX (IW T) hr T.fj T.bg.b (fX 5))) (fa (iA (jc (jM ku (iE hu (pv 0) gJ) (pv 5))) (jV (n:=2) rfl (gK (gc (i:=2) me.nd) (gK (gc (i:=7) me.nd) jD))) (fC (gx 6 me.nd (pmk T.fk (Iq T) hr T.fE T.bP.b (dV (pv 6) (dV (pmk T.fm (Im T) hr T.fI T.bI.b (dV (pv 2) (dV (lN (N':=["_law_number"]) (ix:=(List.replicate 1 none)) rfl (mC rfl (by decide+kernel) (by decide+kernel)) (mB rfl) (wW (pv 7)) (λ_ _ _ _=>(gc (i:=0) Gr)) (λ_ _ _ _=>(ir (dV gJ (fX 0))))) eg))) eg)))))) (fa (gx 8 me.nd (@hY _ _ _ _ eg)) (oA (gZ (iY (jM ku (iE hu (pv 0) gJ) (pv 5))) (fC (gx 8 me.nd (@hY _ _ _ _ (dV gJ eg)))) ⟨gW⟩) (fa ⟨@nG _ _ _ _ _ _ _ _ _ hu (pv 1) (gn pf gJ (lA ph (by rfl) T.d0 PyProof.Rows.boot_str (fX 5))) (@hY _ _ _ _ eg) rfl⟩ (fC ⟨jI (jC jA kZ kY kU (pv 4) (dV (pmk T.fu (Iv T) hr T.fH T.bQ.b (dV (gn pf gJ (lA ph (by rfl) T.d0 PyProof.Rows.boot_str (fX 5))) (dV (@hY _ _ _ _ eg) (dV (pv 8) (fX 6))))) eg))⟩))))))) (fa ⟨r8 (i₀:=9) (N':=["_law_name","_law_axes"]) (ix:=(List.replicate 2 none)) (g:=vS K 2 (oJ (m6 0) (oJ (m6 1) rh))) me.nd rfl (.inl rfl) rfl (mC rfl (by decide+kernel) (by decide+kernel)) (mB rfl) (jc (iE hu (pv 0) gJ)) (λ_ _ _ _=>(ux (n:=2) rfl (gK (gc (i:=0) Al) (gK (gc (i:=1) Al) jD)))) (λ_ _ _ _=>(pv 0))⟩ (fC (gq (pmk T.fh (IL T) hr T.fq T.bu.b (dV gh (dV (iE hu (pv 0) gJ) (dV (pv 1) (dV (pv 9) (dV (pv 4) (dV (iE hu (pv 0) gJ) eg)))))))))))))) ?_;refine λAD b9=>?_;obtain⟨H1,s1,h9,c8⟩:=nH (o:=.dK []) b9
  try rw[c8]
  refine gr _ rfl ab _ rfl (dg (s1 _ _ h1) (z7 a1 a2 a3 a4 a5)) (fV a2 rfl ⟨_,SqL.of (s1 _ _ h3)⟩ ?_);refine kz (K:=K) (a:=a2) (xs:=ts) (λi Z G=>∃(o2 o3:zP)(O:zJ),Z=[Sro ab,Sro AD,o2,o3,none,none,none,none,none,none]/\A0j H G/\G AD=some (.dK O)/\AR (λ_=>True) G O (S.tabs.take i)) (gD none none [] rfl s1 h9 .nil) (by rintro i Z G _ ⟨_,_,_,_,sg,_⟩;exact SqL.of (sg _ _ h3)) ?_ ?_
  ·rintro i v Z G hv zz;refine gE zz ?_;clear zz;rintro o2 o3 O rfl W hG ar;obtain⟨e,he,b,c,rfl,hb,hc⟩:=hE h4 hv;have hi:=(gG.mp he).1;have t4:=so.t4;have et:S.tabs.take (i+1)=S.tabs.take i++[e]:=by rw[gR,he];rfl
   have c4:e.1∉(S.tabs.take i).map (·.1):=by rw[List.map_take];exact pd so.tnd (by rw[gP,he];rfl)
   have c9:=Paired.length ar;rw[iP]at c9;obtain⟨q1,q2⟩:=wM (ys:=e.2) ar hG c4 (W _ _ hc) True.intro;refine jJ b _ rfl (SqL.of (W _ _ hb)) rfl _ _ rfl _ _ rfl rfl ?_;refine al _ rfl (ie _ rfl _ rfl AD _ rfl (C3j.k (k:=Sum.inr e.1) hG (gQ (by lia))) ?_);refine gD _ _ _ rfl (hJ W b9) q1 ?_;rw[et];exact q2
  ·rintro Z G zz;refine gE zz ?_;clear zz;rintro o2 o3 O rfl W hG ar;rw[d6,hQ]at ar;refine⟨gj rfl,λLL b8=>?_⟩;have B:A0j G (upd G LL (.lst [])):=fx b8;have f1:upd G LL (.lst []) LL=some (.lst ([]:zM)):=ee
   have b5:AR (λb=>b≠LL) (upd G LL (.lst [])) O S.tabs:=Paired.mapP ar λ_ _ z=>by obtain⟨z1,b',z2,_,z4⟩:=z;exact jP z1 b' z2 (ga z4 b8) (B _ _ z4)
   have LH:H LL=none:=W.free b8;have AL:AD≠LL:=ga hG b8;generalize upd G LL (.lst [])=G2 at B f1 b5;have a7:=W.trans B;refine lP _ rfl ab _ rfl (dg (a7 _ _ h1) (qw a1 a2 a3 a4 a5)) a3 _ rfl (.inl (SqL.of (a7 _ _ h5))) _ rfl (fY (by lia) (by lia) ?_);rw[f7]
   refine pW (n:=S.looks.length) (λi Z G=>∃(o2 o3 o5 o6 o7 o8:zP)(O:zJ)(ys:zM),Z=[Sro ab,Sro AD,o2,o3,Sro LL,o5,o6,o7,o8,none]/\A0j H G/\G AD=some (.dK O)/\AR (λb=>b≠LL) G O (S.tabs++lnS i)/\G LL=some (.lst ys)/\oT t [LL,AD] G ys (gU S i))
    (jQ o2 o3 none (i12 none none none O [] rfl a7 (B _ _ hG) (by show AR _ _ _ (S.tabs++[]);rw[lT];exact b5) f1 .nil)) ?_ ?_
   ·rintro i Z G hi zz;refine jS zz ?_;clear zz;rintro o2 o3 o5 o6 o7 o8 ⟨O,ys,rfl,W,hA,ar,hL,la⟩;rw[Int.zero_add];have i8:=Paired.length la;have g6:(gU S i).length=i:=by unfold gU;rw[eH,List.length_range]
    have e5:ks[i]?=some (ks[i]'(by lia)):=hB _;obtain⟨l,hl,R,es,ev,hR,rd⟩:=hE h6 e5;have aK:atI ks (i:Int)=some (.ref R):=hH (by rw[e5,ev]);refine al _ rfl λxo f b3 b0 d1=>(kJ xo _ f _ rfl ee T.dB T.cB rfl ?_);have t1:A0j G (upd (upd (upd G f (.own xo)) xo (.ins t.ag f [])) xo (.ins t.ag f [("number",.int (i:Nat))])):=zr b3 b0
    have xL:xo∉[LL,AD]:=λz=>by
     rcases gY.mp z with z|z
     ·rw[z,hL]at b3;cases b3
     ·rw[ik.mp z,hA]at b3;cases b3
    have d9:Ob t (iC (λb=>b∉[LL,AD]) (upd (upd (upd G f (.own xo)) xo (.ins t.ag f [])) xo (.ins t.ag f [("number",.int (i:Nat))]))) (.ref xo) (tmK [] i):=.num (ky xL ee);generalize upd (upd (upd G f (.own xo)) xo (.ins t.ag f [])) xo (.ins t.ag f [("number",.int (i:Nat))])=G1 at t1 d9;have c6:=W.trans t1;refine gr _ rfl ab _ rfl (dg (c6 _ _ h1) (qw a1 a2 a3 a4 a5)) (ic _ rfl a3 _ _ _ rfl rfl (SqL.of (c6 _ _ h5)) aK (fV R rfl ⟨_,SqL.of (c6 _ _ hR)⟩ ?_));have g0:=Paired.length rd;have l3:=(so.lk i l hl).1;refine kz (K:=K) (a:=R) (xs:=es) (λj Z G2=>∃(o2 o7:zP)(tv:V),Z=[Sro ab,Sro AD,o2,o3,Sro LL,Sio (i:Nat),some tv,o7,o8,none]/\A0j G G2/\Ob t (iC (λb=>b∉[LL,AD]) G2) tv (tmK (l.take j) i)) (jF o2 o7 (.ref xo) rfl t1 (by rw[List.take_zero];exact d9)) (by rintro j Z G2 _ ⟨_,_,_,_,sg,_⟩;exact SqL.of (sg _ _ (W _ _ hR))) ?_ ?_
    ·rintro j v Z G2 hv ⟨o2,o7,tv,rfl,sg,ob⟩;obtain⟨r,hr,q,cq,rfl,hq,hc⟩:=hE rd hv;have a7:=W.trans sg;have et:l.take (j+1)=l.take j++[r]:=by rw[gR,hr];rfl
     refine jJ q _ rfl (SqT.of (a7 _ _ hq)) rfl _ _ rfl _ _ rfl rfl ?_;have rl:=so.cl hl (gT hr);refine iJ _ rfl _ rfl (jm _ rfl cq rfl ⟨_,SqT.of (a7 _ _ hc)⟩ λD hD=>?_)
     refine y4 (K:=K) (a:=cq) (D:=D) (xs:=r.2.map V.int) (λn ys I=>A0j G2 I/\I D=some (.lst ys)/\A5c (iC (λb=>G2 b=none/\b≠D) I) ys (((ixK r.2).map lW).take n)/\ys.length=n)
      (ip (fx hD) ee (by rw[List.take_zero];exact .nil) rfl) (λn ys I ⟨B,_⟩=>SqT.of (B _ _ (a7 _ _ hc))) ?_ ?_
     ·rintro n x zs I hx ⟨B,Y,rs,f3⟩;rw[gP]at hx;obtain⟨c,d3,rfl⟩:=lI.mp hx;have hn:=(gG.mp d3).1;refine jP True.intro _ rfl (gj rfl) λp hp=>?_;have pD:p≠D:=(ga Y hp).symm;obtain⟨H3,s3,g9,c8⟩:=nH (o:=.tup [.str "",.int c]) hp
      try rw[c8]
      have g5:¬(G2 D=none/\D≠D):=λz=>z.2 rfl;refine ka (s3 _ _ Y) (gQ (by lia)) (hJ (B.trans s3) hD) ee ?_ (by simp[f3]);have e1:((ixK r.2).map lW)[n]?=some (lW ("",c)):=by unfold ixK;rw[gP,gP,d3];rfl
      rw[gR,e1];show A5c _ (zs++[.ref p]) (_++[lW ("",c)]);refine(rs.same (om (nJ s3) g5)).snoc ?_;refine .tup (ky ⟨B.free hp,pD⟩ (by rw[dF pD];exact g9)) (.cons (.str _) (.cons (.int _) .nil))
     ·rintro zs I ⟨B,Y,rs,f3⟩;have lx:((ixK r.2).map lW).length=(r.2.map V.int).length:=by unfold ixK;rw[eH,eH,eH]
      rw[<-lx,hQ]at rs;refine λx f hx b0 d1=>?_;have v2:A0j I (upd (upd I f (.own x)) x (.ins t.ah f [])):=hJ (fx b0) hx;have d4:upd (upd I f (.own x)) x (.ins t.ah f []) x=some (.ins t.ah f []):=ee;generalize upd (upd I f (.own x)) x (.ins t.ah f [])=G4 at v2 d4⊢;refine⟨x,(iI f D r.1 (ixK r.2) rfl d4 (.lst (v2 _ _ Y) (rs.same λb o z=>v2 _ _ (jz z).2)) (by unfold ixK;rw[eH];lia) λl' G5 j1 f8 g3=>⟨rfl,?_⟩)⟩;have v5:A0j I G5:=λb o e=>g3 b o (ga e hx) (v2 _ _ e);have s5:A0j G2 G5:=B.trans v5;have gL:=sg _ _ hL;have gA:=sg _ _ hA
      have a6:∀b,G2 b=none->b∉[LL,AD]:=λb z m=>by
       rcases gY.mp m with m|m
       ·rw[m,gL]at z;cases z
       ·rw[ik.mp m,gA]at z;cases z
      have h0:Ob t (iC (λb=>b∉[LL,AD]) G5) (.ref x) (.read r.1 (ixK r.2)):=.read (ky (a6 _ (B.free hx)) j1) (f8.same (pb (A0j.refl _) λa o _ h=>a6 _ ((B.trans v2).free h)));refine λy dy hy i5 f4=>(mX y _ dy _ _ rfl ee (rS T .plus) (ww T .plus) (wD T .plus) rfl ?_);have s6:A0j G5 (upd (upd (upd G5 dy (.own y)) y (.ins t.bf dy [])) y (.ins t.bf dy [("left",tv),("right",.ref x)])):=zr hy i5;refine jF _ _ _ rfl (sg.trans (s5.trans s6)) ?_;rw[et,Em];exact .pair (k:=.plus) (ky (a6 _ (s5.free hy)) ee) (ob.imp (nJ (s5.trans s6))) (h0.imp (nJ s6))
    ·rintro Z G2 ⟨o2,o7,tv,rfl,sg,ob⟩;rw[g0,hQ]at ob;have gL:=sg _ _ hL;have gA:=sg _ _ hA
     have a6:∀{X:Hp},A0j G X->∀b,X b=none->b∉[LL,AD]:=λsx b z m=>by
      rcases gY.mp m with m|m
      ·rw[m,sx _ _ hL]at z;cases z
      ·rw[ik.mp m,sx _ _ hA]at z;cases z
     refine⟨gj rfl,λU hU=>?_⟩;have t2:A0j G2 (upd G2 U (.lst [])):=fx hU;have f0:upd G2 U (.lst []) U=some (.lst ([]:zM)):=ee;have nU:=a6 sg U hU;generalize upd G2 U (.lst [])=G3 at t2 f0;have e7:=sg.trans t2;have d8:=W.trans e7;have b7:S.sum[i]?=some (S.sum[i]'(by have:=so.ls;lia)):=hB _;generalize S.sum[i]'(by have:=so.ls;lia)=sb at b7;have aS:atI (S.sum.map V.bl) (i:Int)=some (.bl sb):=hH (by rw[gP,b7];rfl);refine al (λZ G4=>∃U,Z=[Sro ab,Sro AD,o2,o3,Sro LL,Sio (i:Nat),some tv,o7,Sro U,none]/\A0j G2 G4/\U∉[LL,AD]/\G4 U=some (.lst ((smK S i).map V.str))) ?_ ?_
     ·refine gr _ rfl ab _ rfl (dg (d8 _ _ h1) (vd a1 a2 a3 a4 a5)) (ic _ rfl a5 _ _ _ rfl rfl (SqL.of (d8 _ _ h8)) aS (al sb rfl ?_))
      cases sb with
      |true=>refine kN ⟨gj rfl,λU2 c1=>(iV U2 rfl (t2.trans (fx c1)) (a6 e7 U2 c1) ?_)⟩;have:smK S i=[("z":Str)]:=fW b7;rw[this];exact ee
      |false=>refine gM (iV U rfl t2 nU ?_);have:smK S i=[]:=ej (by rw[b7];decide);rw[this];exact f0
     ·rintro Z G4 ⟨U,rfl,s4,nU,j0⟩;have f2:=sg.trans s4;have ln:=pP i (by lia);have c9:=Paired.length ar;have le:(S.tabs++lnS i).length=S.tabs.length+i:=by unfold lnS;rw[gz,eH,List.length_range]
      have t4:=so.t4;refine⟨gj rfl,λN hN=>?_⟩;have nN:=a6 f2 N hN;have t5:A0j G4 (upd G4 N (.lst [])):=fx hN;have d2:upd G4 N (.lst []) N=some (.lst ([]:zM)):=ee;generalize upd G4 N (.lst [])=G5 at t5 d2;have M:=f2.trans t5
      have c4:nmL i∉(S.tabs++lnS i).map (·.1):=by
       have:=wR so (n:=i+1) (by lia);have e:(S.tabs++lnS (i+1)).map (·.1)=(S.tabs++lnS i).map (·.1)++[nmL i]:=by rw[yw,<-lH,gB];rfl
       rw[e,lU]at this;exact λz=>this.2.2 _ z _ (.head _) rfl
      obtain⟨q1,q2⟩:=wM (ys:=[]) (ar.same M) (M _ _ hA) c4 d2 (λz=>nN (by rw[z];exact .head _));refine⟨_,(pi rfl _ rfl _ rfl (qj (by lia)) _ (fV _ rfl rfl (iU (iS (by lia)) AD _ rfl (C3j.k (k:=Sum.inr (nmL i)) (M _ _ hA) (gQ (by lia))) ?_)))⟩;have AU:∀{b:zW}{u:HO},b≠AD->G5 b=some u->upd G5 AD (.dK (gC O (Sum.inr (nmL i)) (.ref N))) b=some u:=λn z=>by rw[dF n];exact z
      have nA:∀{b:zW},b∉[LL,AD]->b≠AD:=λn z=>n (by rw[z];exact .tail _ (.head _));have nl:∀{b:zW},b∉[LL,AD]->b≠LL:=λn z=>n (by rw[z];exact .head _);have g1:=M _ _ hL;have b6:=AU (λz=>AL z.symm) g1;have ADf:H AD=none:=b9;have k6:∀{b:zW}{u:HO},b∉[LL,AD]->G5 b=some u->upd G5 AD (.dK (gC O (Sum.inr (nmL i)) (.ref N))) b=some u:=λn z=>AU (nA n) z;have c5:∀{b C d:zW}{fs:zK},G5 b=some (.ins C d fs)->upd G5 AD (.dK (gC O (Sum.inr (nmL i)) (.ref N))) b=some (.ins C d fs):=λz=>AU (gg z (M _ _ hA) (by intro q;cases q)) z;have e0:A0j H (upd G5 AD (.dK (gC O (Sum.inr (nmL i)) (.ref N)))):=hJ (W.trans M) b9
      have c7:∀b,upd G5 AD (.dK (gC O (Sum.inr (nmL i)) (.ref N))) b=none->b∉[LL,AD]:=λb z m=>by
       rcases gY.mp m with m|m
       ·rw[m,b6]at z;cases z
       ·rw[ik.mp m,q1]at z;cases z
      generalize upd G5 AD (.dK (gC O (Sum.inr (nmL i)) (.ref N)))=G6 at q1 q2 b6 k6 c5 e0 c7;clear AU;refine fV _ rfl (.inl (iN rfl _ (SqL.of b6))) (jm _ rfl _ rfl (qj (by lia)) (ij _ _ rfl rfl (iS (by lia)) (gj rfl) λc2 e4=>?_));have j6:=c7 _ e4;have t7:A0j G6 (upd G6 c2 (.lst [])):=fx e4;have g7:upd G6 c2 (.lst []) c2=some (.lst ([]:zM)):=ee;generalize upd G6 c2 (.lst [])=G7 at t7 g7;refine iJ _ rfl _ rfl λJ L b4 e6 f4=>?_;have t8:A0j G7 (upd (upd G7 L (.own J)) J (.ins t.ae L [])):=hJ (fx e6) b4;have g8:upd (upd G7 L (.own J)) J (.ins t.ae L []) J=some (.ins t.ae L []):=ee;generalize upd (upd G7 L (.own J)) J (.ins t.ae L [])=G8 at t8 g8;have g2:=t7 _ _ (k6 nU (t5 _ _ j0));have j5:(smK S i).length<=1:=by unfold smK;split<;>decide
      refine jQ J L c2 (mX U tv (nmL i) [] (smK S i) rfl g8 (t8 _ _ g7) (t8 _ _ g2) (iG _) (by lia) λc3 u3 G9 j2 i3 i2 i1 i0 kb=>⟨rfl,?_⟩);have f6:A0j G7 G9:=λb o z=>kb _ _ (ga z b4) (t8 _ _ z);have a0:A0j G6 G9:=t7.trans f6;have c0:=a0 _ _ b6;refine gX LL _ _ rfl rfl c0 (gQ (by lia)) ?_;have up:∀{b:zW}{u:HO}{o:HO},b≠LL->G9 b=some u->upd G9 LL o b=some u:=λn z=>by rw[dF n];exact z
      have f9:∀{X:Hp},A0j G6 X->∀b,X b=none->b∉[LL,AD]:=λsx b z=>c7 b (sx.free z);have e3:=f9 (t7.trans t8) c3 j2;have e8:=f9 (t7.trans t8) u3 i3;have nx:=f9 t7 J b4;refine jQ _ _ _ (i12 _ _ _ (O++[(Sum.inr (nmL i),.ref N)]) (ys++[.ref J]) rfl (hJ (e0.trans a0) LH) (up AL (a0 _ _ q1)) ?_ ee ?_)
      ·rw[yw,<-lH];refine Paired.mapP q2 λ_ _ z=>?_;obtain⟨z1,b',z2,z3,z4⟩:=z;exact jP z1 b' z2 z3 (up z3 (a0 _ _ z4))
      ·rw[GT];refine jL (Paired.mapP la λ_ _ z=>z.keep (λb u n _ z=>⟨n,up (nl n) (a0 _ _ (k6 n (M _ _ z)))⟩) λb C d fs z=>up (gg (a0 _ _ (c5 (M _ _ z))) c0 (by intro q;cases q)) (a0 _ _ (c5 (M _ _ z)))) (.cons (mX J L c3 u3 tv rfl (up (nl nx) i2) e3 (up (nl e3) i1) e8 (up (nl e8) i0) ?_) .nil);have er:(nX S i).tm=tmK l i:=by unfold nX;rw[hl];rfl
       rw[er];refine ob.imp λb o z=>?_;obtain⟨z1,z2⟩:=jz z;exact ky z1 (up (nl z1) (a0 _ _ (k6 z1 (t5 _ _ (s4 _ _ z2)))))
   ·rintro Z G zz;refine jS zz ?_;clear zz;rintro o2 o3 o5 o6 o7 o8 ⟨O,ys,rfl,W,hA,ar,hL,la⟩;have t4:=so.t4;have i8:=Paired.length la;have g6:(gU S S.looks.length).length=S.looks.length:=by unfold gU;rw[eH,List.length_range]
    refine gr _ rfl ab _ rfl (dg (W _ _ h1) (z7 a1 a2 a3 a4 a5)) (fV a2 rfl ⟨_,SqL.of (W _ _ h3)⟩ λD hD=>?_);refine nK (K:=K) (a:=a2) (D:=D) (xs:=ts) (λn zs I=>A0j G I/\I D=some (.lst zs)/\zs=((S.tabs.take n).map (·.1)).map V.str) (fY (fx hD) ee rfl) (λn zs I ⟨B,_⟩=>SqL.of (B _ _ (W _ _ h3))) ?_ ?_
    ·rintro n v zs I hv ⟨B,Y,ez⟩;obtain⟨e,he,b,c,rfl,hb,hc⟩:=hE h4 hv;have hn:=(gG.mp he).1;have et:S.tabs.take (n+1)=S.tabs.take n++[e]:=by rw[gR,he];rfl
     have lz:zs.length=n:=by rw[ez,eH,eH,iP];lia
     refine jJ b _ rfl (SqL.of (B _ _ (W _ _ hb))) rfl _ _ rfl _ _ rfl rfl (iN True.intro _ (ka rfl Y (gQ (by lia)) (hJ B hD) ee ?_));rw[et,gB,gB,ez];rfl
    ·rintro zs I ⟨B,Y,ez⟩;rw[d6,hQ]at ez;subst ez;have b1:=W.trans B;have b5:=ar.same B;have e9:oT t [LL,AD] I ys (gU S S.looks.length):=Paired.mapP la λ_ _ z=>z.same B;have c9:=Paired.length ar;have le:(S.tabs++lnS S.looks.length).length=S.tabs.length+S.looks.length:=by unfold lnS;rw[gz,eH,List.length_range]
     refine gr _ rfl ab _ rfl (dg (b1 _ _ h1) (u9 a1 a2 a3 a4 a5)) (iJ _ rfl _ rfl (ie _ rfl _ rfl ab _ rfl (dg (b1 _ _ h1) (xJ a1 a2 a3 a4 a5)) λp f hp b0 d1=>?_));have v4:A0j I (upd (upd I f (.own p)) p (.ins t.a8 f [])):=hJ (fx b0) hp;have g4:upd (upd I f (.own p)) p (.ins t.a8 f []) p=some (.ins t.a8 f []):=ee;generalize upd (upd I f (.own p)) p (.ins t.a8 f [])=G4 at v4 g4;have i4:B5d (szK S.z S.w) (LS S) nmS:=vN so;refine mF p f a1 AD D LL (mF a4 1000 (szK S.z S.w) O [S.z,S.w] (esS S) (kJ (S.tabs.map (·.1)) S.outs ys (λb=>b≠LL) rfl g4 (v4 _ _ (b1 _ _ h2)) (.cons rfl (.cons rfl .nil)) (by show 2<=1000;decide) (ka (v4 _ _ (B _ _ hA)) (b5.same v4) (by show(S.tabs++lnS S.looks.length).length<=1000;lia) (λe he=>?_) (v4 _ _ Y) ⟨by rw[eH];lia,(ka (v4 _ _ (B _ _ hL)) (by lia) ?_ (v4 _ _ (b1 _ _ h7)) (by lia) ?_)⟩)))
     ·rcases iQ.mp he with h|h
      ·have:=AZ e (so.tin e h)
       lia
      ·obtain⟨j,_,rfl⟩:=gm.mp h;exact iG _
     ·intro v hv;obtain⟨j,hj⟩:=List.getElem?_of_mem hv;obtain⟨e,_,a,i9,c,u,n,rfl,e1,_⟩:=hE e9 hj;exact jF a i9 _ rfl (λz=>by subst z;rw[hp]at e1;cases e1) (v4 _ _ e1)
     ·intro l' a' t' v' o' e2 G5 d5 nl b2 na d7 a9 nt i7 nv f5 no i6 kb;have s5:A0j I G5:=λb o z=>kb _ _ (ga z hp) (v4 _ _ z);refine⟨rfl,k p G5 (b1.trans s5) ⟨f,l',a',t',v',o',szK S.z S.w,e2,ys,d5,b2,i4,d7,a9.imp λb ys _ z=>⟨True.intro,z⟩,i6,f5,Paired.mapP e9 λ_ _ z=>(z.same s5).keep (λb u _ _ z=>⟨oD,z⟩) λb C d fs z=>z,λz=>?_⟩ (mF f l' a' t' v' o' ⟨d5,i7⟩)⟩;rw[z,d7]at b2;have b2:e2=szK S.z S.w:=by injection b2 with q;injection q
      rw[b2]at a9
      cases hes:esS S with
      |nil=>rw[hes]at a9;cases a9
      |cons y r=>
       rw[hes]at a9
       cases a9 with
       |cons r _=>obtain⟨_,b,z2,_⟩:=r;cases z2
theorem uB:∀e∈kQ,e.2=[]\/e.2=[("w":Str)]:=by decide+kernel
theorem uJ(a:A6v S):∀e∈esS S,e.2=[]\/e.2=[("w":Str)]:=λe b=>by
 rcases iQ.mp b with h|h
 ·exact uB e (a.tin e h)
 ·obtain⟨j,_,rfl⟩:=gm.mp h;exact .inl rfl
theorem pI(a:A6v S):vM (LS S) nmS (esS S):=by
 have i:=a.w9;have d:LS S "w"=S.w:=ej (by decide+kernel);have g:=a.t4;have c:=a.n50;refine⟨wR a c,λe b=>?_,λe b=>?_,?_,λe b=>?_⟩
 ·rcases uJ a e b with h|h
  ·rw[h];exact⟨by decide+kernel,by decide+kernel,by decide+kernel⟩
  ·rw[h];exact⟨by decide+kernel,by decide+kernel,by decide+kernel⟩
 ·rcases uJ a e b with h|h
  ·rw[h];show ib []<=60;decide
  ·rw[h];show ib [LS S "w"]<=60;rw[d];unfold ib;simp
   lia
 ·show(S.tabs++lnS S.looks.length).length<=100;unfold lnS;rw[gz,eH,List.length_range]
  lia
 ·rcases iQ.mp b with h|h
  ·exact(qD e (a.tin e h)).2.2.1
  ·obtain⟨j,f,rfl⟩:=gm.mp h;exact(uh j (by have:=List.mem_range.mp f;lia)).1
theorem EG(f:zR)(c:zI):nY f (ixK c)=c:=by
 unfold nY ixK;rw[List.map_map]
 have h:∀c:zI,c.map ((λe:Str×Int=>if e.1=("":Str)then e.2 else f e.1+e.2)∘λn=>(("":Str),n))=c:=λc=>by
  induction c with
  |nil=>rfl
  |cons x r ih=>rw[gw,ih];show(if ("":Str)="" then x else f ""+x)::r=_;rw[fW rfl]
 exact h c
theorem xf(a f:zR):∀(l:List Cl)(u:Tm),rd a (l.foldl (λu r=>.pair .plus u (.read r.1 (ixK r.2))) u) f=rd a u f++l| [],u=>(lT _).symm|r::l,u=>by rw[List.foldl_cons,xf a f l];show rd a u f++[(r.1,nY f (ixK r.2))]++l=_;rw[EG,lH];rfl
theorem uo(a f:zR)(k:Nat)(l:List Cl):rd a (tmK l k) f=l:=xf a f l _
theorem xz{e:Str×Int}(h:e∈ixK c):e.1="":=by obtain⟨n,_,rfl⟩:=gm.mp h;rfl
theorem wL(b:zC):∀(l:List Cl)(u:Tm),(∀r∈l,r.2.length<=1)->Gd u->Axs b u->(∀x,¬Fv u x)->1<=dep u->Gd (l.foldl (λu r=>.pair .plus u (.read r.1 (ixK r.2))) u)/\Axs b (l.foldl (λu r=>.pair .plus u (.read r.1 (ixK r.2))) u)/\(∀x,¬Fv (l.foldl (λu r=>.pair .plus u (.read r.1 (ixK r.2))) u) x)/\dep (l.foldl (λu r=>.pair .plus u (.read r.1 (ixK r.2))) u)<=dep u+l.length
 | [],u,_,h1,h2,h3,_=>(ip h1 h2 h3 (gf _))
 |r::l,u,h,h1,h2,h3,h4=>by
  have d:=h r (.head _)
  have e:dep (.pair .plus u (.read r.1 (ixK r.2)))=dep u+1:=by
   show max (dep u) 1+1=_
   lia
  have a:=wL b l (.pair .plus u (.read r.1 (ixK r.2))) (λr d=>h r (.tail _ d)) ⟨h1,?_⟩ ⟨h2,λe c=>.inl (xz c)⟩ (λx z=>?_) (by lia)
  ·rw[List.foldl_cons];refine ip a.1 a.2.1 a.2.2.1 ?_;have:=a.2.2.2;rw[iZ]
   lia
  ·show(ixK r.2).length<=100;unfold ixK;rw[eH]
   lia
  ·rcases z with z|⟨f,e,c,g⟩
   ·exact h3 x z
   ·exact f (g▸xz c)
theorem C8(a:zC)(k:Nat)(l:List Cl)(h:∀r∈l,r.2.length<=1):Gd (tmK l k)/\Axs a (tmK l k)/\(∀x,¬Fv (tmK l k) x)/\dep (tmK l k)<=1+l.length:=wL a l (.num k) h True.intro True.intro (λ_ z=>z) (gf _)
theorem vI(S:Spn):LS S "w"=S.w:=ej (by decide+kernel)
theorem vR(S:Spn):LS S "z"=S.z:=fW rfl
theorem Ea(h:ys=[]\/ys=[("w":Str)]):(ys.map λ_=>S.w)=ys.map (LS S):=by
 rcases h with rfl|rfl
 ·rfl
 ·show[S.w]=[LS S "w"];rw[vI]
theorem sE{k:Nat}(h:k<n):(gU S n)[k]?=some (nX S k):=by unfold gU;rw[gP,List.getElem?_range h];rfl
theorem qE(S:Spn)(n:Nat):(gU S n).length=n:=by unfold gU;rw[eH,List.length_range]
theorem xu(n:Nat):(lnS n).length=n:=by unfold lnS;rw[eH,List.length_range]
theorem rW{k:Nat}(h:k<S.looks.length):(esS S)[S.tabs.length+k]?=some (nmL k,[]):=by unfold esS;rw[nu (by lia),show S.tabs.length+k-S.tabs.length=k by lia];unfold lnS;rw[gP,List.getElem?_range h];rfl
theorem C7(a:A6v S){k:Nat}{l:List Cl}(c:S.looks[k]?=some l)(n:zC):vV (LS S) ((esS S).take (S.tabs.length+k+1)) (nmL k) [] n 6 4 (tmK l k):=by
 have q:=a.n50;have w:=(gG.mp c).1;obtain⟨v,d⟩:=a.lk k l c;obtain⟨p,o,s,u⟩:=C8 n k l λr d=>a.cl c d;refine⟨p,o,λx z=>absurd z (s x),by lia,λt f=>by rw[uo];lia,λt f r b=>?_⟩;rw[uo]at b;rcases d r b with ⟨e,g,m,h⟩|⟨j,y,rfl⟩
 ·refine fV e.2 ?_ ?_ λz=>?_
  ·rw[m];unfold esS;rw[List.take_append];refine nT _ ?_;rw[qX (by lia)];exact g
  ·rw[Ea (uB e (a.tin e g))]at h;exact qS _ _ h
  ·exact absurd (m.symm.trans z) (rK e (a.tin e g) k (by lia))
 ·refine fV [] ?_ (qS _ _ (ik.mpr rfl)) λz=>?_
  ·refine gT (i:=S.tabs.length+j) ?_;rw[List.getElem?_take_of_lt (by lia)];exact rW (by lia)
  ·have:=qv j (by lia) k (by lia) z
   lia
theorem r0(S:Spn)(k:Nat):smK S k=[]\/smK S k=[("z":Str)]:=by
 unfold smK;split
 ·exact .inr rfl
 ·exact .inl rfl
theorem Cb(a:A6v S)(g:∀o∈S.outs,o∈(esS S).map (·.1))(c:S.outs.length<=60):mM (LS S) nmS (esS S) (S.tabs.map (·.1)) S.tabs.length (gU S S.looks.length) S.outs:=by
 have m:=a.t4;have j:=a.n50;have n:=a.n1;have l:=a.z3;refine⟨pI a,by rw[eH];lia,?_,λk e d=>?_,g,c,by rw[qE];lia,by rw[qE];lia⟩
 ·unfold esS;rw[gz,xu,qE]
 ·have b:k<S.looks.length:=by have:=(gG.mp d).1;rwa[qE]at this
  rw[sE b]at d;cases d;refine⟨rW b,?_⟩;have f:S.looks[k]?=some (S.looks[k]'b):=hB _;have i:(nX S k).tm=tmK (S.looks[k]'b) k:=by unfold nX;rw[f];rfl
  refine⟨AxN.nil _,?_,?_,?_,by show ib []<=4;decide,?_,by rw[i];exact C7 a f _⟩
  ·show([]++smK S k).Nodup;rcases r0 S k with h|h<;>rw[h]<;>decide+kernel
  ·show∀y∈smK S k,y∈nmS;rcases r0 S k with h|h<;>rw[h]<;>decide+kernel
  ·show(smK S k).length<=2;rcases r0 S k with h|h<;>rw[h]<;>decide
  ·show ib ((smK S k).map (LS S))<=9;rcases r0 S k with h|h<;>rw[h]
   ·show ib []<=9;decide
   ·show ib [LS S "z"]<=9;rw[vR];unfold ib;simp
    lia
theorem xA{α β:Type}{f g:α->List β}:∀{l:List α},(∀k∈l,f k=g k)->l.flatMap f=l.flatMap g| [],_=>rfl|a::r,h=>by rw[List.flatMap_cons,List.flatMap_cons,h a (.head _),xA λk b=>h k (.tail _ b)]
theorem sn(S:Spn):iu ((gU S S.looks.length).map (iq (LS S))) (gU S S.looks.length).length=jg S S.looks.length:=by
 unfold iu jg;rw[qE];refine xA λk a=>?_;have a:=List.mem_range.mp a;unfold nE;rw[gP,sE a];show ng (k:Int) (iq (LS S) (nX S k))=_;unfold ng;show(gl []).flatMap (kW (k:Int) ((smK S k).map (LS S)))=_;have:gl []=[[]]:=rfl;rw[this,List.flatMap_singleton];unfold kW jb smK;by_cases h:S.sum[k]?=some true
 ·rw[fW h,fW h];show(if [LS S "z"]=[]then _ else _)=_;rw[ej (by intro z;cases z)];show _::(gl [LS S "z"]).map _=_;rw[vR]
 ·rw[ej h,ej h];rfl
theorem Ig{k:Nat}(h:s∈jb S k):s.2.2.1=[]:=by
 unfold jb at h;split at h
 ·rcases gY.mp h with z|z
  ·rw[z]
  ·obtain⟨u,_,rfl⟩:=gm.mp z;rfl
 ·rw[ik.mp h]
theorem Gb(S:Spn)(k:Nat):∃s,s∈jb S k:=by
 unfold jb;split
 ·exact⟨_,.head _⟩
 ·exact⟨_,.head _⟩
theorem rn{k:Nat}(a:k<S.looks.length)(h:s∈jb S k):wrS (gU S S.looks.length) s=(nmL k,[]):=by unfold wrS;rw[mf h,Int.toNat_natCast,sE a,Ig h];rfl
theorem vT{k:Nat}(a:k<S.looks.length)(h:s.1=(k:Int)):rdS lk (gU S S.looks.length) s=jt S s:=by unfold rdS jt;rw[h,Int.toNat_natCast,sE a];show(if s.2.1="start" then []else rd _ (tmK _ k) _)=_;rw[uo]
structure C6y(S:Spn)(ss:List Stp):Prop where
 mem:∀s,s∈ss↔s∈jg S S.looks.length
 len:ss.length<=200
 rb:∀lk,pJ lk (gU S S.looks.length) (jg S S.looks.length) ss
theorem PO.ords(d:A6v S)(h:PO S S.looks.length [] ss dn):C6y S ss:=by
 have p:=d.n50;have e:ss.Perm (jg S S.looks.length):=h.pm;refine⟨λs=>e.mem_iff,?_,λq i s f r g n b l=>?_⟩
 ·rw[e.length_eq];have t:=d.z3
  have:(jg S S.looks.length).length<=(List.range S.looks.length).length*4:=nc λk _=>by have:=sy d k;unfold kO at this;split at this<;>lia
  rw[List.length_range]at this
  lia
 ·obtain⟨k,o,c⟩:=nh.mp (e.mem_iff.mp (gT f));obtain⟨j,m,a⟩:=nh.mp b;rw[vT o (mf c)]at g;rw[rn m a]at l;subst l;exact h.rb i s f j m g n b (mf a)
theorem C6y.sin(h:C6y S ss):n6 (LS S) (gU S S.looks.length) ss:=λs a=>by have:=(h.mem s).mp a;rw[<-sn]at this;exact yy this
theorem yb{α β:Type}{f:α->List β}{B:α->Nat}:∀{l:List α},(∀x∈l,(f x).length<=B x)->(l.flatMap f).length<=(l.map B).sum
 | [],_=>by simp
 |x::r,h=>by
  have c:=h x (.head _);have b:=yb (l:=r) λy a=>h y (.tail _ a);rw[List.flatMap_cons,gz,gw,List.sum_cons]
  lia
theorem Cq(d:Nat):((kQ.drop d).map λe=>if e.2=[]then 1 else 9).sum<=12:=by
 have h:∀d,d<5->((kQ.drop d).map λe=>if e.2=[]then 1 else 9).sum<=12:=by decide+kernel
 rcases Nat.lt_or_ge d 5 with z|z
 ·exact h d z
 ·rw[vF (by show 4<=d;lia)];decide
theorem wu(a:A6v S)(kvs:List (fZ×V)){e:Str×List Str}(b:e∈esS S):(iR kvs (szE (LS S) (esS S)) e.1).length<=if e.2=[]then 1 else 9:=by
 have c:=a.w9;unfold iR szE;rw[n8 (pI a).nd b];refine kX (List.length_filter_le _ _) ?_;rcases uJ a e b with h|h
 ·rw[fW h,h];exact gf _
 ·rw[ej (by rw[h];decide),h];show(gl [LS S "w"]).length<=9;rw[vI,og,eH,List.length_range]
  lia
theorem wY(a:A6v S)(lk:zJ):(mkW lk (LS S) (esS S) (gU S S.looks.length) S.outs).length<64:=by
 have i:=a.n50;unfold mkW gu;generalize wkF lk (LS S) (esS S) (gU S S.looks.length) S.outs=kvs;have e:esS S=S.tabs++lnS S.looks.length:=rfl
 have l:(S.tabs.flatMap λe=>(iR kvs (szE (LS S) (esS S)) e.1).map λc=>(e.1,c)).length<=(S.tabs.map λe=>if e.2=[]then 1 else 9).sum:=yb λx b=>by rw[eH];exact wu a kvs (by rw[e];exact nT _ b)
 have f:((lnS S.looks.length).flatMap λe=>(iR kvs (szE (LS S) (esS S)) e.1).map λc=>(e.1,c)).length<=(lnS S.looks.length).length*1:=nc λx b=>by rw[eH];have:=wu a kvs (e:=x) (by rw[e];exact lJ _ b);obtain⟨j,_,rfl⟩:=gm.mp b;exact this
 have h:(esS S).flatMap (λe=>(iR kvs (szE (LS S) (esS S)) e.1).map λc=>(e.1,c))=(S.tabs.flatMap λe=>(iR kvs (szE (LS S) (esS S)) e.1).map λc=>(e.1,c))++(lnS S.looks.length).flatMap λe=>(iR kvs (szE (LS S) (esS S)) e.1).map λc=>(e.1,c):=by
  conv=>lhs;rw[show(esS S)=S.tabs++lnS S.looks.length from rfl]
  rw[List.flatMap_append];rfl
 rw[h,gz];obtain⟨d,g⟩:=a.tb;have k:=Cq d;rw[<-g]at k;rw[xu]at f
 lia
def hmF(l:List (Cl×Int))(r:Cl):Int:=match fy (kvF l) (nk r)with|some (.int b)=>b|_=>0
theorem rO{l:List (Cl×Int)}{r:Cl}(h:r∈l.map (·.1)):fy (kvF l) (nk r)=some (.int (hmF l r))/\(r,hmF l r)∈l:=by
 have a:∃b,fy (kvF l) (nk r)=some (.int b)/\(r,b)∈l:=by
  induction l with
  |nil=>cases h
  |cons p t ih=>
   by_cases z:p.1=r
   ·refine al p.2 ?_ (by rw[<-z];exact .head _);show fy ((nk p.1,V.int p.2)::kvF t) (nk r)=_;rw[z,jy rfl]
   ·rw[gw]at h;rcases gY.mp h with q|q
    ·exact absurd q.symm z
    ·obtain⟨b,f,g⟩:=ih q;refine al b ?_ (.tail _ g);show fy ((nk p.1,V.int p.2)::kvF t) (nk r)=_;rw[jk λq=>z (pM q)];exact f
 obtain⟨b,c,d⟩:=a;have e:hmF l r=b:=by unfold hmF;rw[c]
 rw[e];exact⟨c,d⟩
section
variable{S:Spn}{lk:zJ}{ss:List Stp}
abbrev MS(S:Spn)(lk:zJ):List Cl:=mkW lk (LS S) (esS S) (gU S S.looks.length) S.outs
abbrev fS(S:Spn)(ss:List Stp):Cl->Int:=ii (gU S S.looks.length) ss
abbrev gS(S:Spn)(lk:zJ)(ss:List Stp):Cl->Int:=lsW lk (LS S) (esS S) (gU S S.looks.length) S.outs ss
theorem ud(b:A6v S)(a:j<S.looks.length):szE (LS S) (esS S) (nmL j)=[]:=by have c:((nmL j,[]):Str×List Str)∈esS S:=gT (rW a);have:=n8 (pI b).nd c;unfold szE;rw[this];rfl
theorem xO(f:A6v S){r:Cl}(h:r∈MS S lk):(∃e∈S.tabs,r.1=e.1)\/∃j,j<S.looks.length/\r=(nmL j,[]):=by
 obtain⟨g,d⟩:=qB.mp h;obtain⟨e,i,a⟩:=gm.mp g;rcases iQ.mp i with q|q
 ·exact .inl (al e q a.symm)
 ·obtain⟨j,c,rfl⟩:=gm.mp q;have c:=List.mem_range.mp c;have a:r.1=nmL j:=a.symm;refine .inr (al j c ?_);have b:=(List.mem_filter.mp d).1;rw[a,ud f c]at b;have b:r.2=[]:=ik.mp b;rw[<-a,<-b]
theorem wO(b:A6v S)(a:j<S.looks.length)(h:InW (wkF lk (LS S) (esS S) (gU S S.looks.length) S.outs) (nmL j,[])):((nmL j,[]):Cl)∈MS S lk:=by refine qB.mpr ⟨gm.mpr (al _ (gT (rW a)) rfl),List.mem_filter.mpr ⟨?_,h⟩⟩;show([]:zI)∈gl (szE (LS S) (esS S) (nmL j));rw[ud b a];exact .head _
theorem xK(od:C6y S ss)(c:j<S.looks.length):∃(i:Nat)(s:Stp),i<ss.length/\ss[i]?=some s/\wrS (gU S S.looks.length) s=(nmL j,[]):=by obtain⟨s,a⟩:=Gb S j;have d:=(od.mem s).mpr (nh.mpr (al j c a));obtain⟨i,b⟩:=List.getElem?_of_mem d;exact el i s ((gG.mp b).1) b (rn c a)
theorem EZ(b:A6v S)(od:C6y S ss){r:Cl}(h:r∈MS S lk):oN (gU S S.looks.length) (S.tabs.map (·.1)) ss (MS S lk) ss.length r:=by
 refine⟨h,?_⟩;rcases xO b h with ⟨e,a,c⟩|⟨j,d,rfl⟩
 ·rw[c];exact .inl (List.mem_map_of_mem a)
 ·exact .inr (xK od d)
theorem EI(d:A6v S)(od:C6y S ss){r:Cl}(h:r∈MS S lk)(q:fS S ss r<=(gp:Int)):(∃e∈kQ,r.1=e.1)\/∃j,j<50/\r.1=nmL j/\∃(m:Nat)(s:Stp),m<gp/\ss[m]?=some s/\s.1=(j:Int):=by
 have w:=d.n50;rcases xO d h with ⟨e,v,o⟩|⟨j,y,rfl⟩
 ·exact .inl (al e (d.tin e v) o)
 ·obtain⟨i,s,p,l,u⟩:=xK od y;obtain⟨m,g⟩:=tY ((oV l).mpr u) p;obtain⟨x,n,_⟩:=oH g;have a:ss[m]?=some (ss[m]'x):=hB _;have b:=(oV a).mp n;have e:fS S ss (nmL j,[])=(m:Int)+1:=by unfold fS ii;rw[g];rfl
  rw[e]at q;obtain⟨k,t,c⟩:=nh.mp ((od.mem _).mp (gT a));rw[rn t c]at b;have f:=qv k (by lia) j (by lia) (congrArg Prod.fst b);exact .inr (al j (by lia) (iU rfl m _ (by lia) a (by rw[mf c,f])))
theorem rT(od:C6y S ss):∀s∈iu ((gU S S.looks.length).map (iq (LS S))) (gU S S.looks.length).length,s∈ss:=λs a=>by rw[sn]at a;exact(od.mem s).mpr a
theorem uv(od:C6y S ss):∀s∈ss,s∈iu ((gU S S.looks.length).map (iq (LS S))) (gU S S.looks.length).length:=λs a=>by rw[sn];exact(od.mem s).mp a
theorem t6(od:C6y S ss):pJ lk (gU S S.looks.length) (iu ((gU S S.looks.length).map (iq (LS S))) (gU S S.looks.length).length) ss:=by rw[sn];exact od.rb lk
theorem Cz(q:A6v S)(od:C6y S ss){r:Cl}(h:r∈MS S lk)(p:(gp:Int)<=gS S lk ss r):r.1∈S.outs\/∃(m k:Nat)(s:Stp),gp<=m/\ss[m]?=some s/\s.1=(k:Int)/\((nmL k,[]):Cl)∈MS S lk/\r∈jt S s:=by
 obtain⟨j,f⟩:=uZ (rT od) (rV h);have e:gS S lk ss r=(j:Int):=by unfold gS lsW kg;rw[f];rfl
 rw[e]at p;unfold nW at f;by_cases d:r∈ja (szE (LS S) (esS S)) S.outs
 ·unfold ja at d;obtain⟨x,t,d⟩:=List.mem_flatMap.mp d;obtain⟨c,_,rfl⟩:=gm.mp d;exact .inl t
 ·rw[ej d]at f;obtain⟨i,b⟩:=um f;have g:ss[j]?=some (ss[j]'i):=hB _;unfold rdA at b;rw[g]at b;have b:((fy (wkF lk (LS S) (esS S) (gU S S.looks.length) S.outs) (nk (wrS (gU S S.looks.length) (ss[j]'i)))).isSome&&decide (r∈rdS lk (gU S S.looks.length) (ss[j]'i)))=true:=b;rw[nS]at b;obtain⟨k,l,a⟩:=nh.mp ((od.mem _).mp (gT g));have n:=of_decide_eq_true b.2;rw[vT l (mf a)]at n;have o:=b.1;rw[rn l a]at o;exact .inr (gX j k _ (by lia) g (mf a) (wO q l o) n)
theorem BD(i:A6v S):(MS S lk).Nodup:=by
 unfold MS mkW gu;have g:=(pI i).nd;generalize esS S=es at g;generalize hW:iR (wkF lk (LS S) es (gU S S.looks.length) S.outs) (szE (LS S) es)=W;have j:∀x,(W x).Nodup:=λx=>by rw[<-hW];exact uK _ _ x
 clear hW;show List.Pairwise _ _;rw[List.pairwise_flatMap];refine⟨λe _=>?_,?_⟩
 ·rw[List.pairwise_map];refine List.Pairwise.imp ?_ (j e.1);intro a b f z;exact f (congrArg Prod.snd z)
 ·have g:List.Pairwise (λa b=>a.1≠b.1) es:=by
   have:List.Pairwise (·≠·) (es.map (·.1)):=g
   rwa[List.pairwise_map]at this
  refine g.imp ?_;intro a b f x k y h z;obtain⟨c,_,rfl⟩:=gm.mp k;obtain⟨d,_,rfl⟩:=gm.mp h;have l:a.1=b.1:=by injection z
  exact f l
theorem CU{g:Cl->Int}{rs:List Cl}{E:Nat}(h:B4m (lK f g rs E) i):i<=E:=by
 obtain⟨m,a,b,d⟩:=h;have:=List.idxOf_lt_length_of_mem a;have c:(lK f g rs E).length=E+1:=by rw[eH,List.length_range]
 lia
theorem FX(c:A6v S)(od:C6y S ss)(u:mM (LS S) nmS (esS S) (S.tabs.map (·.1)) S.tabs.length (gU S S.looks.length) S.outs)(j:B5d lk (LS S) nmS)(n:nmL (S.looks.length-1)∈S.outs)(l:B4m (lK (fS S ss) (gS S lk ss) (MS S lk) ss.length) gp):0<(ki (fS S ss) (gS S lk ss) (MS S lk) gp).length:=by
 have t:=c.n1;have e:S.looks.length-1<S.looks.length:=by lia
 have g:((nmL (S.looks.length-1),[]):Cl)∈ja (szE (LS S) (esS S)) S.outs:=by unfold ja;refine List.mem_flatMap.mpr (al _ n (gm.mpr (al [] ?_ rfl)));rw[ud c e];exact .head _
 have f:InW (wkF lk (LS S) (esS S) (gU S S.looks.length) S.outs) (nmL (S.looks.length-1),[]):=vc _ ((sH _ _).mpr (.inr g));have k:=wO c e f;have h:=sr (rT od) (uv od) (t6 od) f
 have p:gS S lk ss (nmL (S.looks.length-1),[])=(ss.length:Int):=by unfold gS lsW kg nW;rw[fW g];rfl
 have a:jH (fS S ss) (gS S lk ss) ss.length (nmL (S.looks.length-1),[])=true:=by
  unfold jH;rw[p]
  have b:fS S ss (nmL (S.looks.length-1),[])<=(ss.length:Int):=by exact Int.le_trans h.2.1 h.2.2
  rw[iW b,iW (Int.le_refl _)];rfl
 obtain⟨m,r,i,q⟩:=l
 have s:m=((ki (fS S ss) (gS S lk ss) (MS S lk) gp).length:Int):=by have b:=List.idxOf_lt_length_of_mem r;have d:=List.getElem_idxOf b;rw[List.getElem_map,List.getElem_range]at d;rw[<-d,<-q];rfl
 have o:=i (pB (fS S ss) (gS S lk ss) (MS S lk) ss.length) (gm.mpr (al ss.length (List.mem_range.mpr (by lia)) rfl));have b:0<((MS S lk).filter (jH (fS S ss) (gS S lk ss) ss.length)).length:=List.length_pos_of_mem (List.mem_filter.mpr ⟨k,a⟩);unfold pB at o
 lia
theorem Id(d:rC (fS S ss) (gS S lk ss) (gU S S.looks.length) (S.tabs.map (·.1)) ss (MS S lk) M tk){l:List (Cl×Int)}(a:∀p,p∈l->p∈tk){r r':Cl}(h1:r∈l.map (·.1))(h2:r'∈l.map (·.1))(b:r≠r')(l1:jH (fS S ss) (gS S lk ss) gp r=true)(l2:jH (fS S ss) (gS S lk ss) gp r'=true):hmF l r≠hmF l r':=by have c:=a _ (rO h1).2;have e:=a _ (rO h2).2;unfold jH at l1 l2;rw[nS]at l1 l2;have g:=of_decide_eq_true l1.1;have h:=of_decide_eq_true l1.2;have f:=of_decide_eq_true l2.1;have i:=of_decide_eq_true l2.2;exact d.ap _ c _ e b (by show fS S ss r<=gS S lk ss r';lia) (by show fS S ss r'<=gS S lk ss r;lia)
end
theorem Bh(a:zI):∃zs:zI,jK (a.map V.int) (some 4) (some (4+50))=zs.map V.int/\zs.length<=50:=by
 refine al ((a.drop (HT.sIx a.length 0 (some 4))).take (HT.sIx a.length a.length (some (4+50))-HT.sIx a.length 0 (some 4))) ?_ ?_
 ·unfold jK;rw[eH,<-List.map_drop,<-List.map_take]
 ·have b:HT.sIx a.length 0 (some 4)=min 4 a.length:=HT.sIx_nat _ _ 4;have c:HT.sIx a.length a.length (some (4+50))=min 54 a.length:=HT.sIx_nat _ _ 54;rw[iP,b,c]
  lia
theorem wv{α β:Type}{F:α->β->Prop}:∀{a:List α}{b:List β},Paired F a b->∀n:Nat,Paired F (a.drop n) (b.drop n)|_,_,h,0=>h|_,_,.nil,_+1=>.nil|_,_,.cons _ t,n+1=>wv t n
theorem D8{a m:Int}(f:0<m)(h1:m<=xs.length):∃(j:Nat)(v:V),xs[j]?=some v/\atI xs (-1-a%m)=some v:=by have d:=q5 a (b:=m) (by lia);have g:=tM a f;obtain⟨v,e,c⟩:=Du (xs:=xs) (j:=(a%m).toNat) (by lia);rw[Int.toNat_of_nonneg d]at c;exact iy _ v e c
theorem CA{a:Int}(h:0<xs.length):∃(j:Nat)(v:V),xs[j]?=some v/\atI xs (a%(xs.length:Int))=some v:=by have c:=q5 a (b:=(xs.length:Int)) (by lia);have d:=tM a (b:=(xs.length:Int)) (by lia);obtain⟨v,f,e⟩:=BV (xs:=xs) c d;exact iy _ v f e
theorem Fb(z w:Int):kG [] (szK z w)=szK z w:=sD _ [] (by show((["z","w"]:zC).map (Sum.inr:Str->Key)).Nodup;decide+kernel)
theorem Eu(c b d a a5:zW):kG [] (spK c b d a a5)=spK c b d a a5:=sD _ [] (by show((["sizes","tables","looks","outs","summed"]:zC).map (Sum.inr:Str->Key)).Nodup;decide+kernel)
def spT(w:Int)(ts:zB):List Cl:=ts.flatMap λe=>(gl (e.2.map λ_=>w)).map λc=>(e.1,c)
def spN(n:Nat):List Cl:=(List.range n).map λj=>(nmL j,[])
theorem El(n:Nat):spN (n+1)=spN n++[(nmL n,[])]:=by unfold spN;rw[List.range_succ,gB];rfl
theorem Ec(w:Int)(ts:zB)(e:Str×List Str):spT w (ts++[e])=spT w ts++(gl (e.2.map λ_=>w)).map λc=>(e.1,c):=by unfold spT;rw[List.flatMap_append,List.flatMap_singleton]
def C9e(T:List Cl)(ls:List (List Cl)):Prop:=∀(j:Nat) l,ls[j]?=some l->l.length<=3/\∀r∈l,r∈T\/∃i,i<j/\r=(nmL i,[])
theorem C9e.snoc{T:List Cl}{ls:List (List Cl)}(h:C9e T ls){l:List Cl}(h1:l.length<=3)(h2:∀r∈l,r∈T++spN ls.length):C9e T (ls++[l]):=λj f e=>by
 rcases Nat.lt_or_ge j ls.length with c|c
 ·rw[lQ c]at e;exact h j f e
 ·have b:j=ls.length:=by
   have:=(gG.mp e).1;rw[gz,lV]at this
   lia
  subst b;rw[nu (gf _),Nat.sub_self]at e;cases e;refine⟨h1,λr d=>(iQ.mp (h2 r d)).imp id λz=>?_⟩;obtain⟨i,a,rfl⟩:=gm.mp z;exact al i (List.mem_range.mp a) rfl
theorem D2y.same{l:List Cl}(h:D2y H v l)(s:A0j H H'):D2y H' v l:=by obtain⟨R,b,e,c,a⟩:=h;exact el R b e (s _ _ c) (a.same s)
theorem D0o.same{e:Str×List Str}(h:D0o H v e)(s:A0j H H'):D0o H' v e:=by obtain⟨b,c,e,d,a⟩:=h;exact el b c e (s _ _ d) (s _ _ a)
theorem Fe{b:zW}(k:KC a b G G'):A0j (iC (λc=>c≠a/\c≠b) G) (iC (λc=>c≠a/\c≠b) G'):=λc u e=>ky (jz e).1 (k c u (jz e).1.1 (jz e).1.2 (jz e).2)
theorem GY{i:Int}(h:j<=1000):D9g i (1+(j:Int)):=.inr ⟨by lia,by lia⟩
theorem xF(h:j<=1000):D9g (j:Int) (j:Int):=.inr ⟨by lia,by lia⟩
theorem uV{B:Hp}{SP c q:zW}{sp:zM}{L:List Cl}{cl:zI}(l:A0j B G)(m:B SP=none)(j:G SP=some (.lst sp))(rd:Rds G sp L)(i:G c=none)(k:upd G c (.tup (cl.map V.int)) q=none):
  A0j G (upd (upd G c (.tup (cl.map V.int))) q (.tup [.str x,.ref c]))/\A0j B (upd (upd (upd G c (.tup (cl.map V.int))) q (.tup [.str x,.ref c])) SP (.lst (sp++[.ref q])))/\Rds (upd (upd (upd G c (.tup (cl.map V.int))) q (.tup [.str x,.ref c])) SP (.lst (sp++[.ref q]))) (sp++[.ref q]) (L++[(x,cl)]):=by
 have h:=fx (o:=.tup (cl.map V.int)) i;have g:=fx (o:=.tup [.str x,.ref c]) k;have t:=h.trans g;have f:=t _ _ j;have d:∀b a,upd (upd G c (.tup (cl.map V.int))) q (.tup [.str x,.ref c]) b=some (.tup a)->upd (upd (upd G c (.tup (cl.map V.int))) q (.tup [.str x,.ref c])) SP (.lst (sp++[.ref q])) b=some (.tup a):=λb a e=>by rw[dF (gg e f (by intro z;cases z))];exact e
 refine fY t (hJ (l.trans t) m) (jL (rd.keep λb a e=>d _ _ (t _ _ e)) (.cons (el q c rfl (d _ _ ee) (d _ _ (g _ _ ee))) .nil))
inductive x9(K:Frag)(vs:zM)(H:Hp)(Q:VK):Prop
 |mk (sc:zW) (ns:zI) (_:vs=[.ref sc,.int 50]) (_:ScF K H sc (ns.map V.int))
  (_:∀(ab:zW)(S:Spn)(H':Hp),A0j H H'->C7i H' ab S->A6v S->S.outs.length<=60->(∀o∈S.outs,o∈(esS S).map (·.1))->nmL (S.looks.length-1)∈S.outs->Q (.ref ab) H'):x9 K vs H Q
def DK(K:Frag):Sp:=λa H Q _=>x9 K a H Q
theorem FB(T:Txt K mg t):FO P w base T.c_ 1 (DK K):=by
 refine T.c_.F.ok kA λ_ A _ s H _ Q E hr h=>?_
 ·obtain⟨R,ns,rfl,hS,k⟩:=h;have hu:=kF hr;have O:∀{G:Hp},A0j H G->ScF K G R (ns.map V.int):=λs=>hS.keep λo e=>s _ _ e;refine rsq (fa (gx 2 kA.nd (mz mT (pv 0) (kH gh) (kH (gn jW gh (pv 1))))) (oA (gZ (iz (yx hr.units) (pv 2) (@hY _ _ _ _ eg)) (fC (gx 2 kA.nd (@hY _ _ _ _ (dV (iL (oY rfl) (by rfl) T.cZ PyProof.Rows.boot_sum (fX 0)) eg)))) ⟨gW⟩) (fa (gx 3 kA.nd (xw (oX gJ (gn jW gh (gn lj (iL (oY rfl) (by rfl) T.cZ PyProof.Rows.boot_sum (dV (mz mT (pv 0) oU (kH gh)) eg)) gh)) (oX gJ (gn jW gh (gn lj (gn pR (iL (oY rfl) (by rfl) T.cZ PyProof.Rows.boot_sum (dV (mz mT (pv 0) oU (kH gh)) eg)) gh) gh)) xI)) rfl rfl (by simp) (by decide))) (fa (gx 4 kA.nd (mz mT (@hY _ _ _ _ (dV (@hY _ _ _ _ (dV gJ (dV (@hY _ _ _ _ eg) eg))) (dV (@hY _ _ _ _ (dV gJ (dV (@hY _ _ _ _ (dV gJ eg)) eg))) (dV (@hY _ _ _ _ (dV gJ (dV (@hY _ _ _ _ eg) eg))) (dV (@hY _ _ _ _ (dV gJ (dV (@hY _ _ _ _ eg) eg))) eg))))) (kH (gn lj (iL (oY rfl) (by rfl) T.cZ PyProof.Rows.boot_sum (dV (mz mT (pv 0) (kH gh) (kH gh)) eg)) gh)) oU)) (fa (gx 5 kA.nd (@hY _ _ _ _ eg)) (fa (iA (jc (pv 4)) (ux (n:=2) rfl (gK (gc (i:=6) kA.nd rfl (.inr rfl)) (gK (gc (i:=7) kA.nd) jD))) (fC (gZ (iz (yx hr.units) (pv 7) (@hY _ _ _ _ eg)) (fC ⟨jI (jC jA kZ kY kU (pv 5) (dV (ir (dV (pv 6) (dV (ir eg) eg))) eg))⟩) (fC ⟨jI (jC jA PySem.F.slot_list_extend PySem.F.type_list_extend qI (pv 5) (dV (lN (N':=["_law_j","_law_name"]) (ix:=(List.replicate 1 none++[some 6])) rfl (qC (x:="_law_name") rfl rfl rfl (by decide+kernel) (by decide+kernel)) (qJ (N0:=["_law_j"]) rfl (.inl rfl) (by walk_at"ix")) (oq rfl T.ba (dV (iE hu (pv 3) gJ) eg)) (λ_ _ _ _=>(gc (i:=0) Fl)) (λ_ _ _ _=>(ir (dV (pv 1) (dV (ir (fX 0)) eg))))) eg))⟩)))) (fa (gx 8 kA.nd (@hY _ _ _ _ eg)) (fa (iA (oq rfl T.ba (dV (jr T.aj (fX 2)) eg)) (gc (i:=9) kA.nd) (fa (gx 10 kA.nd (jM ku (pv 2) (pv 9))) (fa (gx 11 kA.nd (iL (zp rfl) (by rfl) T.fA PyProof.Rows.boot_min (dV (jr T.aj (fX 5)) (dV (gn jW gh (gn lj (gn pR (pv 10) gh) gh)) eg)))) (fa (gx 12 kA.nd (@hY _ _ _ _ eg)) (fa (iA (oq rfl T.ba (dV (iL (zp rfl) (by rfl) T.fA PyProof.Rows.boot_min (dV (gn lj (pv 10) gh) (dV (jr T.aj (fX 5)) eg))) eg)) (gc (i:=13) kA.nd) (fa (gx 14 kA.nd (gn jW (gn rR (gn pR (pv 10) gh) (gn jW gh (pv 13))) (gn rR (pv 13) (pv 13)))) (fC (gZ (iz ma (gn lj (gn pR (pv 10) gh) gh) gh) (fC ⟨jI (jC jA kZ kY kU (pv 12) (dV (jM ku (pv 5) (gn rP (BJ B9 gh) (gn lj (pv 14) (pv 11)))) eg))⟩) (fC ⟨jI (jC jA kZ kY kU (pv 12) (dV (jM ku (pv 5) (gn lj (pv 14) (jr T.aj (fX 5)))) eg))⟩))))) (fa ⟨jI (jC jA kZ kY kU (pv 8) (fX 12))⟩ (fC ⟨jI (jC jA kZ kY kU (pv 5) (dV (ir (dV (gn pf gJ (lA ph (by rfl) T.d0 PyProof.Rows.boot_str (fX 9))) (dV (ir eg) eg))) eg))⟩))))))) (fa (gx 15 kA.nd (@hY _ _ _ _ (dV (gn pf gJ (lA ph (by rfl) T.d0 PyProof.Rows.boot_str (dV (gn rP (jr T.aj (fX 2)) gh) eg))) eg))) (fa (iA (oq rfl T.ba (dV (gn rP (jr T.aj (fX 2)) gh) eg)) (gc (i:=9) kA.nd) (fC (gZ (iz ma (gn lj (gn jW (iL (oY rfl) (by rfl) T.cZ PyProof.Rows.boot_sum (dV (mz mT (pv 0) (kH gh) (kH gh)) eg)) (gn rR (pv 9) (pv 9))) gh) gh) (fC ⟨jI (jC jA kZ kY kU (pv 15) (dV (gn pf gJ (lA ph (by rfl) T.d0 PyProof.Rows.boot_str (fX 9))) eg))⟩) ⟨gW⟩))) (oA (gZ (PW.pt (rQ (iz pH (jr T.aj (fX 4)) gh) (su (iz ma (gn lj (iL (oY rfl) (by rfl) T.cZ PyProof.Rows.boot_sum (dV (mz mT (pv 0) (kH gh) (kH gh)) eg)) gh) gh)))) (fC ⟨jI (jC jA kZ kY kU (pv 15) (dV (jM ku (pil 4) gh) eg))⟩) ⟨gW⟩) (fa ⟨r8 (i₀:=16) (N':=["_law_cell"]) (ix:=(List.replicate 1 none)) kA.nd rfl (.inl rfl) rfl (mC rfl (by decide+kernel) (by decide+kernel)) (mB rfl) (jc (pv 2)) (λ_ _ _ _=>(gc (i:=0) Fk)) (λ_ _ _ _=>(xj ma (gn lj (gn pR (pv 0) gh) gh) gh))⟩ (fC (gq (xw (oX gJ (pv 3) (oX gJ (pv 4) (oX gJ (pv 8) (oX gJ (pv 15) (oX gJ (pv 16) xI))))) rfl rfl (by simp) (by decide)))))))))))))))) ?_;obtain⟨c0,g8,g9⟩:=Bh ns;refine al _ rfl (ie 4 rfl _ rfl _ _ rfl rfl (gr _ rfl R _ rfl hS.sq λC0 j9=>?_));have s1:A0j H (upd H C0 (.lst (jK (ns.map V.int) (some 4) (some (4+50))))):=fx j9;have b8:upd H C0 (.lst (jK (ns.map V.int) (some 4) (some (4+50)))) C0=some (.lst (c0.map V.int)):=by rw[<-g8];exact ee
  generalize upd H C0 (.lst (jK (ns.map V.int) (some 4) (some (4+50))))=H1 at s1 b8;refine al (λZ G=>∃(CL:zW)(L:zI),Z=some (.ref R)::some (.int 50)::some (.ref CL)::List.replicate 14 none/\A0j H G/\G CL=some (.lst (L.map V.int))/\1<=L.length/\L.length<=50) ?_ ?_
  ·refine fV _ rfl (gj rfl) λE0 a8=>(jF C0 E0 _ rfl rfl (iw (fx a8 _ _ b8) ee _ rfl ?_));have m:A0j H1 (upd H1 E0 (.lst [])):=fx a8;generalize upd H1 E0 (.lst [])=H2 at m
   cases c0 with
   |nil=>refine kN ?_;refine gr _ rfl R ns rfl ((O (s1.trans m)).sq) λi=>⟨gj rfl,λCL b5=>(ij CL [i] rfl ((s1.trans m).trans (fx b5)) ee (gf _) (by simp))⟩
   |cons x r=>exact gM (ij C0 (x::r) rfl (s1.trans m) (m _ _ b8) (by simp) g9)
  ·rintro Z G y;refine jo y ?_;clear y;rintro CL L rfl M b5 ⟨n1,k9⟩;clear b8 s1 g9 g8;refine λZD hZ=>?_;obtain⟨G1,t1,e9,f⟩:=nH (o:=.dK []) hZ
   try rw[f]
   obtain⟨za,i4,_⟩:=sj V.int ns none (some 1);refine ie _ rfl 1 rfl R _ rfl ((O (M.trans t1)).sq) λp1 a6=>?_;rw[i4];obtain⟨p,t2,q2,f⟩:=nH (o:=.lst (za.map V.int)) a6
   try rw[f]
   refine el p1 za rfl (SqL.of q2) λi1=>(el _ _ rfl rfl (iU (by show(0:Int)<_;decide) _ _ rfl rfl ?_));refine ie _ rfl 1 rfl R _ rfl ((O (M.trans (t1.trans t2))).sq) λp2 f9=>?_;rw[i4];obtain⟨G3,t3,q3,f⟩:=nH (o:=.lst (za.map V.int)) f9
   try rw[f]
   refine el p2 za rfl (SqL.of q3) λi2=>(el _ _ rfl rfl (iU ⟨(by show(0:Int)<_;decide),(by show _<(1073741824:Int);decide)⟩ _ _ rfl rfl (iU (by show(0:Int)<_;decide) _ _ rfl rfl ?_)));refine jP ((t2.trans t3) _ _ e9) (szK (1+i1%3) (1+i2/3%9)) rfl (by show 2<=15;decide) ?_;rw[Fb];have bz:1<=1+i1%3/\1+i1%3<=3:=by lia
   have bw:1<=1+i2/3%9/\1+i2/3%9<=9:=by lia
   generalize 1+i1%3=zq at bz;generalize 1+i2/3%9=wd at bw;have S:A0j H (upd G3 ZD (.dK (szK zq wd))):=hJ (M.trans (t1.trans (t2.trans t3))) (M.free hZ);have d5:upd G3 ZD (.dK (szK zq wd)) ZD=some (.dK (szK zq wd)):=ee;have d2:upd G3 ZD (.dK (szK zq wd)) CL=some (.lst (L.map V.int)):=by rw[dF (ga b5 hZ)];exact t3 _ _ (t2 _ _ (t1 _ _ b5))
   generalize upd G3 ZD (.dK (szK zq wd))=G4 at S d5 d2;clear t1 t2 t3 q2 q3 e9 a6 f9 hZ M b5;refine⟨gj rfl,λc0 h0=>?_⟩;have v0:A0j G4 (upd G4 c0 (.lst [])):=fx h0;have e0:upd G4 c0 (.lst []) c0=some (.lst ([]:zM)):=ee;generalize upd G4 c0 (.lst [])=A0 at v0 e0;refine⟨gj rfl,λb0 k0=>?_⟩;obtain⟨A1,v1,f0,f⟩:=nH (o:=.lst [.str "u0",.ref c0]) k0
   try rw[f]
   refine⟨gj rfl,λc1 h1=>?_⟩;have v2:A0j A1 (upd A1 c1 (.lst [.str "w"])):=fx h1;have e1:upd A1 c1 (.lst [.str "w"]) c1=some (.lst [V.str "w"]):=ee;generalize upd A1 c1 (.lst [.str "w"])=A2 at v2 e1;refine⟨gj rfl,λb1 k1=>?_⟩;obtain⟨A3,v3,f1,f⟩:=nH (o:=.lst [.str "t",.ref c1]) k1
   try rw[f]
   refine⟨gj rfl,λc2 h2=>?_⟩;have v4:A0j A3 (upd A3 c2 (.lst [])):=fx h2;have e2:upd A3 c2 (.lst []) c2=some (.lst ([]:zM)):=ee;generalize upd A3 c2 (.lst [])=A4 at v4 e2;refine⟨gj rfl,λb2 k2=>?_⟩;obtain⟨A5,v5,f2,f⟩:=nH (o:=.lst [.str "u1",.ref c2]) k2
   try rw[f]
   refine⟨gj rfl,λc3 h3=>?_⟩;have v6:A0j A5 (upd A5 c3 (.lst [])):=fx h3;have e3:upd A5 c3 (.lst []) c3=some (.lst ([]:zM)):=ee;generalize upd A5 c3 (.lst [])=A6 at v6 e3;refine⟨gj rfl,λb3 k3=>?_⟩;obtain⟨A7,v7,f3,f⟩:=nH (o:=.lst [.str "u2",.ref c3]) k3
   try rw[f]
   refine⟨gj rfl,λL4 a2=>?_⟩;obtain⟨A8,v8,f4,f⟩:=nH (o:=.lst [.ref b0,.ref b1,.ref b2,.ref b3]) a2
   try rw[f]
   have w6:=v7.trans v8;have w5:=v6.trans w6;have w4:=v5.trans w5;have w3:=v4.trans w4;have w2:=v3.trans w3;have w1:=v2.trans w2;have w0:=v1.trans w1;have s8:=S.trans (v0.trans w0);have i6:=w0 _ _ (v0 _ _ d5);have f8:=w0 _ _ (v0 _ _ d2);have g1:Paired (D0o A8) [.ref b0,.ref b1,.ref b2,.ref b3] kQ:=.cons (el b0 c0 rfl (w1 _ _ f0) (w0 _ _ e0)) (.cons (el b1 c1 rfl (w3 _ _ f1) (w2 _ _ e1)) (.cons (el b2 c2 rfl (w5 _ _ f2) (w4 _ _ e2)) (.cons (el b3 c3 rfl (v8 _ _ f3) (w6 _ _ e3)) .nil)));clear v0 v1 v2 v3 v4 v5 v6 v7 v8 w0 w1 w2 w3 w4 w5 w6 e0 e1 e2 e3 f0 f1 f2 f3 a2 k0 k1 k2 k3 h0 h1 h2 h3 S d5 d2;obtain⟨zb,j1,_⟩:=sj V.int ns (some 1) (some 2);refine al _ rfl (ie 1 rfl 2 rfl R _ rfl ((O s8).sq) λp3 g5=>?_);rw[j1];obtain⟨A9,t4,q4,f⟩:=nH (o:=.lst (zb.map V.int)) g5
   try rw[f]
   refine el p3 zb rfl (SqL.of q4) λi5=>(im _ _ rfl rfl (by show(0:Int)<_;decide) (gr _ rfl L4 _ rfl (SqL.of (t4 _ _ f4)) λTB f5=>?_));obtain⟨d,hd⟩:∃d:Nat,i5%5=(d:Int):=⟨(i5%5).toNat,(Int.toNat_of_nonneg (q5 _ (by decide))).symm⟩;rw[hd,y9];have c4:=Paired.mapP (wv g1 d) λ_ _ z=>D0o.same z t4;obtain⟨tabs,htabs⟩:∃tabs,tabs=kQ.drop d:=⟨_,rfl⟩;rw[<-htabs]at c4;generalize ([.ref b0,.ref b1,.ref b2,.ref b3]:zM).drop d=ts at c4;obtain⟨B,t5,hT,f⟩:=nH (o:=.lst ts) f5
   try rw[f]
   have tb:=Paired.mapP c4 λ_ _ z=>D0o.same z t5;have sB:=s8.trans (t4.trans t5);have h5:=t5 _ _ (t4 _ _ i6);have d6:=t5 _ _ (t4 _ _ f8);clear t4 t5 q4 g5 f5 hd c4 g1 s8 i6 f8 f4;refine⟨gj rfl,λSP b6=>?_⟩;refine jm _ rfl TB rfl ⟨_,SqL.of (fx b6 _ _ hT)⟩ ?_;have i8:=Paired.length tb;have l4:tabs.length<=4:=by rw[htabs,pz];exact Nat.sub_le _ _
   refine kz (K:=K) (a:=TB) (xs:=ts) (λi Z G=>∃(o6 o7:zP)(g:zM),Z=[Sro R,Sio 50,Sro CL,Sro ZD,Sro TB,Sro SP,o6,o7,none,none,none,none,none,none,none,none,none]/\A0j B G/\G SP=some (.lst g)/\Rds G g (spT wd (tabs.take i))/\g.length<=i*9) (gX none none [] rfl (fx b6) ee .nil (iG _)) (by rintro i Z G _ ⟨_,_,_,_,sg,_⟩;exact SqL.of (sg _ _ hT)) ?_ ?_
   ·rintro i v Z G hv y;refine gE y ?_;clear y;rintro o6 o7 g rfl M X ⟨rd,a3⟩;obtain⟨e,he,b,c,rfl,hb,hc⟩:=hE tb hv;have hi:=(gG.mp he).1;have et:tabs.take (i+1)=tabs.take i++[e]:=by rw[gR,he];rfl
    have e0:e∈kQ:=by have:=gT he;rw[htabs]at this;exact List.mem_of_mem_drop this
    refine jJ b _ rfl (SqL.of (M _ _ hb)) rfl _ _ rfl _ _ rfl rfl ?_;refine fV _ rfl (gj rfl) λE0 a8=>(jF c E0 _ rfl rfl (iw (fx a8 _ _ (M _ _ hc)) ee _ rfl ?_));have m:A0j G (upd G E0 (.lst [])):=fx a8;generalize upd G E0 (.lst [])=p at m;have e5:=M.trans m;have a9:=m _ _ X;have g2:=rd.same m;rw[et,Ec];rcases uB e e0 with z|z
    ·rw[z];refine kN ?_;refine jv _ rfl (.inl (iN rfl _ (SqL.of a9))) _ rfl ⟨gj rfl,λc1 n1=>⟨gj rfl,λq n2=>?_⟩⟩;obtain⟨r1,r2,r3⟩:=uV (x:=e.1) (cl:=[]) e5 b6 a9 g2 n1 n2;exact gX SP g _ rfl rfl (r1 _ _ a9) (gQ (by lia)) (gX _ _ _ rfl r2 ee r3 (by rw[gz,lV];lia))
    ·rw[z];refine gM ?_;refine fV _ rfl (.inl (iN rfl _ (SqL.of a9))) (gr _ rfl ZD _ rfl (dg (e5 _ _ h5) (sz_w zq wd)) (iV wd rfl (by lia) (by lia) λD hD=>?_));refine yR (J:=Itr 0 wd.toNat) (D:=D) wd.toNat (λj zs Hx=>A0j p Hx/\Hx D=some (.lst zs)/\Rds Hx zs (((gl [wd]).take j).map λu=>(e.1,u))/\zs.length=j) (ip (fx hD) ee .nil rfl) (λi ys Hx hi _=>hi) (λys Hx _=>gf _) ?_ ?_
     ·rintro j zs Hx hj ⟨sx,c7,sz,lz⟩ x Hy ⟨rfl,rfl⟩;rw[Int.zero_add];refine⟨⟨rfl,True.intro⟩,(jm _ rfl _ rfl (gj rfl) λc2 n2=>⟨gj rfl,λq n3=>?_⟩)⟩;have k4:(gl [wd])[j]?=some [(j:Int)]:=by rw[og,gP,List.getElem?_range hj];rfl
      obtain⟨r1,r2,r3⟩:=uV (x:=e.1) (cl:=[(j:Int)]) sx hD c7 sz n2 n3;refine ka (r1 _ _ c7) (gQ (by lia)) r2 ee ?_ (by rw[gz,lz];rfl);rw[gR,k4,gB];exact r3
     ·rintro zs Hx ⟨sx,c7,sz,lz⟩;have lc:(gl [wd]).length=wd.toNat:=by rw[og,eH,List.length_range]
      have tl:(gl [wd]).take wd.toNat=gl [wd]:=by rw[<-lc,hQ]
      rw[tl]at sz;have e7:=sx _ _ a9;refine kJ SP D _ zs rfl rfl e7 c7 (iS (by lia)) (gX _ _ _ rfl (hJ (e5.trans sx) b6) ee ?_ (by rw[gz];lia));have kt:∀b xs,Hx b=some (.tup xs)->upd Hx SP (.lst (g++zs)) b=some (.tup xs):=λb xs e=>by rw[dF (gg e e7 (by intro z;cases z))];exact e
      exact jL ((g2.same sx).keep kt) (sz.keep kt)
   ·rintro Z G y;refine gE y ?_;clear y;rintro o6 o7 g rfl M X ⟨rd,a3⟩;rw[i8,hQ]at rd;have i3:g.length<=36:=by lia
    refine⟨gj rfl,λLK b4=>?_⟩;have LB:B LK=none:=M.free b4;have PL:SP≠LK:=ga X b4;have m:A0j G (upd G LK (.lst [])):=fx b4;have c9:upd G LK (.lst []) LK=some (.lst ([]:zM)):=ee;generalize upd G LK (.lst [])=p at m c9;refine gr _ rfl CL _ rfl (.inl (SqL.of (m _ _ (M _ _ d6)))) (iV _ rfl (by rw[eH];lia) (by rw[eH];lia) ?_);rw[eH]
    refine pW (n:=L.length) (λi Z G=>∃(o9 a1 Y a0 I C:zP)(g ks:zM)(ls:List (List Cl)),Z=[Sro R,Sio 50,Sro CL,Sro ZD,Sro TB,Sro SP,o6,o7,Sro LK,o9,a1,Y,a0,I,C,none,none]/\A0j B G/\G SP=some (.lst g)/\Rds G g (spT wd tabs++spN i)/\g.length<=36+i/\G LK=some (.lst ks)/\Paired (D2y (iC (λc=>c≠SP/\c≠LK) G)) ks ls/\ls.length=i/\C9e (spT wd tabs) ls)
     (jQ none none none ⟨none,(mD none none g [] [] rfl (M.trans m) (m _ _ X) (by show Rds _ _ (_++[]);rw[lT];exact rd.same m) (by lia) c9 .nil rfl λj l h=>by cases h)⟩) ?_ ?_
    ·clear M X rd a3 i3 b4 m c9;rintro i Z G hi y;refine lB y ?_;clear y;rintro o9 a1 Y a0 I C g ks ls rfl M ⟨X,rd,a3,hL,a4,c5,lo⟩;rw[Int.zero_add];have h4:L[i]?=some (L[i]'hi):=hB _;generalize L[i]'hi=cell at h4;have aC:atI (L.map V.int) (i:Int)=some (.int cell):=hH (by rw[gP,h4];rfl);refine al _ rfl (ic _ rfl CL _ _ _ rfl rfl (SqL.of (M _ _ d6)) aC ?_);refine gr _ rfl SP _ rfl (.inl (SqL.of X)) (gr _ rfl _ _ rfl rfl (iU ⟨(by show(0:Int)<_;decide),(by show _<(1073741824:Int);decide)⟩ _ _ rfl rfl (kc (by show(0:Int)<_;decide) _ _ rfl (kc rfl _ _ rfl ?_))));have bn:0<g.length->0<(if 1+cell/64%9<(g.length:Int)then 1+cell/64%9 else (g.length:Int))/\(if 1+cell/64%9<(g.length:Int)then 1+cell/64%9 else (g.length:Int))<=(g.length:Int):=λh=>by split<;>lia
     generalize (if 1+cell/64%9<(g.length:Int)then 1+cell/64%9 else (g.length:Int))=near at bn;refine⟨gj rfl,λSM b9=>?_⟩;have SMP:SM≠SP:=(ga X b9).symm;have SML:SM≠LK:=(ga hL b9).symm;have s3:A0j G (upd G SM (.lst [])):=fx b9;have h8:upd G SM (.lst []) SM=some (.lst ([]:zM)):=ee;generalize upd G SM (.lst [])=G3 at s3 h8;refine gr _ rfl _ _ rfl rfl ⟨(by show(0:Int)<_;decide),(gr _ rfl SP _ rfl (.inl (SqL.of (s3 _ _ X))) (iy _ _ rfl ?_))⟩;have bm:(if (g.length:Int)<cell%4 then (g.length:Int)else cell%4)<=3/\0<=(if (g.length:Int)<cell%4 then (g.length:Int)else cell%4)/\(if (g.length:Int)<cell%4 then (g.length:Int)else cell%4)<=(g.length:Int):=by split<;>lia
     generalize (if (g.length:Int)<cell%4 then (g.length:Int)else cell%4)=mm at bm;refine iV _ rfl (by lia) (by lia) ?_;refine pW (n:=mm.toNat) (λj Z p=>∃(I C:zP)(es:zM)(l:List Cl),Z=[Sro R,Sio 50,Sro CL,Sro ZD,Sro TB,Sro SP,o6,o7,Sro LK,Sio (i:Nat),Sio cell,Sio near,Sro SM,I,C,none,none]/\A0j G p/\p SM=some (.lst es)/\Rds p es l/\l.length=j/\∀r∈l,r∈spT wd tabs++spN i) (kJ I C [] [] rfl s3 h8 .nil rfl λr h=>by cases h) ?_ ?_
     ·rintro j Z p hj y;refine jd y ?_;clear y;rintro I C es l rfl S hM rl ⟨ll,d4⟩;rw[Int.zero_add];have h7:0<g.length:=by lia
      obtain⟨g7,i9⟩:=bn h7;have l0:=Paired.length rl;refine gr _ rfl _ _ rfl rfl ⟨⟨(by show(0:Int)<_;decide),(by show _<(1073741824:Int);decide)⟩,(gr _ rfl _ _ rfl rfl (im _ _ rfl rfl (GY (by lia)) (ie _ rfl _ rfl _ _ rfl rfl (iU (xF (by lia)) _ _ rfl rfl ?_))))⟩
      have g4:∀(jj:Nat)(v:V),g[jj]?=some v->∃(I C:zP)(h9:zM)(l:List Cl),([some (.ref R),some (.int 50),some (.ref CL),some (.ref ZD),some (.ref TB),some (.ref SP),o6,o7,some (.ref LK),some (.int (i:Nat)),some (.int cell),some (.int near),some (.ref SM),some (.int (j:Nat)),some (.int (cell/4*(1+(j:Int))+(j:Int)*(j:Int))),none,none]:St)=[some (.ref R),some (.int 50),some (.ref CL),some (.ref ZD),some (.ref TB),some (.ref SP),o6,o7,some (.ref LK),some (.int (i:Nat)),some (.int cell),some (.int near),some (.ref SM),I,C,none,none]/\A0j G (upd p SM (.lst (es++[v])))/\upd p SM (.lst (es++[v])) SM=some (.lst h9)/\Rds (upd p SM (.lst (es++[v]))) h9 l/\l.length=j+1/\∀r∈l,r∈spT wd tabs++spN i:=λjj v hv=>by
       obtain⟨r,hr,tr⟩:=hE rd hv;have kt:∀b xs,p b=some (.tup xs)->upd p SM (.lst (es++[v])) b=some (.tup xs):=λb xs e=>by rw[dF (gg e hM (by intro z;cases z))];exact e
       have j7:Rds p [v] [r]:=(show Rds G [v] [r] from .cons tr .nil).same S;refine kJ _ _ (es++[v]) (l++[r]) rfl (hJ S b9) ee (jL (rl.keep kt) (j7.keep kt)) (by rw[gz,ll];rfl) λr' j6=>?_;rcases iQ.mp j6 with z|z
       ·exact d4 r' z
       ·rw[ik.mp z];exact gT hr
      refine gr _ rfl _ _ rfl rfl (iU ⟨(by show(0:Int)<_;decide),(by show _<(1073741824:Int);decide)⟩ _ _ rfl rfl (iw (by show(0:Int)<_;decide) rfl _ rfl (iX (λ_=>?_) (λ_=>?_))))
      ·obtain⟨jj,v,hv,aV⟩:=D8 (xs:=g) (a:=(cell/4*(1+(j:Int))+(j:Int)*(j:Int))) g7 i9;exact fV _ rfl (.inl (iN rfl _ (SqL.of hM))) (iJ _ rfl _ rfl (ie _ rfl _ rfl _ _ rfl rfl (iU g7 _ _ rfl rfl (iI SP _ _ _ rfl rfl (SqL.of (S _ _ X)) aV (gX SM es _ rfl rfl hM (gQ (by lia)) (g4 jj v hv))))))
      ·obtain⟨jj,v,hv,aV⟩:=CA (xs:=g) (a:=(cell/4*(1+(j:Int))+(j:Int)*(j:Int))) h7;exact jv _ rfl (.inl (iN rfl _ (SqL.of hM))) _ rfl (ie _ rfl _ rfl SP _ rfl (.inl (SqL.of (S _ _ X))) (im _ _ rfl rfl (by lia) (iI SP _ _ _ rfl rfl (SqL.of (S _ _ X)) aV (gX SM es _ rfl rfl hM (gQ (by lia)) (g4 jj v hv)))))
     ·rintro Z p y;refine jd y ?_;clear y;rintro I C es l rfl S hM rl ⟨ll,d4⟩;have a2:=S _ _ hL;have g6:=S _ _ X;have j4:=Paired.length a4;refine jv _ rfl (.inl (iN rfl _ (SqL.of a2))) _ rfl (gX LK ks _ rfl rfl a2 (gQ (by lia)) ?_);have k5:KC SP LK p (upd p LK (.lst (ks++[.ref SM]))):=λc u h1 h2 e=>by rw[dF h2];exact e
      have g0:upd p LK (.lst (ks++[.ref SM])) LK=some (.lst (ks++[.ref SM])):=ee;have b7:upd p LK (.lst (ks++[.ref SM])) SP=some (.lst g):=by rw[dF PL];exact g6
      have e8:A0j B (upd p LK (.lst (ks++[.ref SM]))):=hJ (M.trans S) LB;have f6:∀b xs,p b=some (.tup xs)->upd p LK (.lst (ks++[.ref SM])) b=some (.tup xs):=λb xs e=>by rw[dF (gg e a2 (by intro z;cases z))];exact e
      generalize upd p LK (.lst (ks++[.ref SM]))=G5 at k5 g0 b7 e8 f6;have j8:=(rd.same S).keep f6;have ln:=pP i (by lia);refine fV _ rfl (.inl (iN rfl _ (SqL.of b7))) (jm _ rfl _ rfl (qj (by lia)) (ij _ _ rfl rfl (iS (by lia)) (gj rfl) λc1 n1=>⟨gj rfl,λq n2=>?_⟩));obtain⟨r1,r2,r3⟩:=uV (x:=nmL i) (cl:=[]) e8 b6 b7 j8 n1 n2;refine gX SP g _ rfl rfl (r1 _ _ b7) (gQ (by lia)) (jQ _ _ _ ⟨_,(mD _ _ (g++[.ref q]) (ks++[.ref SM]) (ls++[l]) rfl r2 ee ?_ (by rw[gz,lV];lia) ?_ ?_ (by rw[gz,c5];rfl) (lo.snoc (by lia) (by rw[c5];exact d4)))⟩)
      ·rw[El,<-lH];exact r3
      ·rw[dF PL.symm];exact r1 _ _ g0
      ·have k6:KC SP LK p (upd (upd (upd G5 c1 (.tup [])) q (.tup [.str (nmL i),.ref c1])) SP (.lst (g++[.ref q]))):=λc u h1 h2 e=>by rw[dF h1];exact r1 _ _ (k5 c u h1 h2 e)
       have kr:=Fe k6;refine jL (Paired.mapP a4 λ_ _ z=>(z.same (nJ S)).same kr) (.cons (el SM es rfl (kr _ _ (ky ⟨SMP,SML⟩ hM)) ?_) .nil);refine(show Rds (iC (λc=>c≠SP/\c≠LK) p) es l from rl.keep λb xs e=>ky ⟨gg e g6 (by intro z;cases z),gg e a2 (by intro z;cases z)⟩ e).same kr
    ·clear M X rd a3 i3 b4 m c9;rintro Z G y;refine lB y ?_;clear y;rintro o9 a1 Y a0 I C g ks ls rfl M ⟨X,rd,a3,hL,a4,c5,lo⟩;have j4:=Paired.length a4;have j2:Paired (D2y G) ks ls:=Paired.mapP a4 λ_ _ z=>z.same zf;have c8:=M _ _ d6;have d3:=M _ _ hT;have e6:=sB.trans M;have f7:=Paired.mapP tb λ_ _ z=>D0o.same z M;have j3:=M _ _ h5;clear a4 rd a3 X;have d1:((L.map V.int).length:Int)-1=((L.length-1:Nat):Int):=by rw[eH];lia
     have ln:=pP (L.length-1) (by lia);refine lP _ rfl CL _ rfl (.inl (SqL.of c8)) _ _ rfl rfl _ rfl ?_;rw[d1];refine⟨qj (by lia),(ij _ _ rfl rfl (iS (by lia)) (gj rfl) λOU d8=>?_)⟩;rw[show(("l":Str)++((toString (((L.length-1:Nat):Int)):String):Str))=nmL (L.length-1) from rfl];have m:A0j G (upd G OU (.lst [.str (nmL (L.length-1))])):=fx d8;have c6:upd G OU (.lst [.str (nmL (L.length-1))]) OU=some (.lst ([nmL (L.length-1)].map V.str)):=ee;generalize upd G OU (.lst [.str (nmL (L.length-1))])=p at m c6;refine lP _ rfl CL _ rfl (.inl (SqL.of (m _ _ c8))) _ _ rfl rfl _ rfl (fY (by lia) (by lia) ?_);rw[d1];obtain⟨zc,g3,_⟩:=sj V.int ns (some 2) (some 3)
     refine pW (n:=L.length-1) (λi Z p=>∃(o9:zP)(N:zC),Z=[Sro R,Sio 50,Sro CL,Sro ZD,Sro TB,Sro SP,o6,o7,Sro LK,o9,a1,Y,a0,I,C,Sro OU,none]/\A0j G p/\p OU=some (.lst (N.map V.str))/\N.length<=i+1/\nmL (L.length-1)∈N/\∀o∈N,∃j,j<L.length/\o=nmL j)
      (mY o9 [nmL (L.length-1)] rfl m c6 (gf _) (.head _) λo ho=>(al _ (by lia) (ik.mp ho))) ?_ ?_
     ·clear m c6;rintro i Z p hi y;refine jo y ?_;clear y;rintro o9 N rfl m hO ⟨i0,W,U⟩;rw[Int.zero_add];refine al _ rfl (ie 2 rfl 3 rfl R _ rfl ((O (e6.trans m)).sq) λp1 a6=>?_);rw[g3];obtain⟨G3,t2,q2,f⟩:=nH (o:=.lst (zc.map V.int)) a6
      try rw[f]
      refine el p1 zc rfl (SqL.of q2) λi1=>(ie _ rfl _ rfl _ _ rfl rfl (kc (xF (by lia)) _ _ rfl (iU rfl _ _ rfl rfl (iw (by show(0:Int)<_;decide) rfl _ rfl (iX (λ_=>?_) (λ_=>?_))))))
      ·have ln:=pP i (by lia);have a7:=t2 _ _ hO;refine al _ rfl (pi (.inl (iN rfl _ (SqL.of a7))) _ rfl _ rfl (qj (by lia)) _ (iV _ rfl rfl (iS (by lia)) (gX OU _ _ rfl rfl a7 (by rw[eH];exact gQ (by lia)) (mY _ (N++[nmL i]) rfl (hJ (m.trans t2) d8) ?_ (by rw[gz,lV];lia) (nT _ W) λo ho=>?_))))
       ·rw[gB];exact ee
       ·rcases iQ.mp ho with z|z
        ·exact U o z
        ·exact al i (by lia) (ik.mp z)
      ·exact mY _ N rfl (m.trans t2) (t2 _ _ hO) (by lia) W U
     ·clear m c6;rintro Z p y;refine jo y ?_;clear y;rintro o9 N rfl m hO ⟨i0,W,U⟩;refine al (λZ G3=>∃N:zC,Z=[Sro R,Sio 50,Sro CL,Sro ZD,Sro TB,Sro SP,o6,o7,Sro LK,o9,a1,Y,a0,I,C,Sro OU,none]/\A0j G G3/\G3 OU=some (.lst (N.map V.str))/\N.length<=60/\nmL (L.length-1)∈N/\∀o∈N,(∃e∈tabs,o=e.1)\/∃j,j<L.length/\o=nmL j) ?_ ?_
      ·have no:∀{G3:Hp},A0j p G3->∃N:zC,([some (.ref R),some (.int 50),some (.ref CL),some (.ref ZD),some (.ref TB),some (.ref SP),o6,o7,some (.ref LK),o9,a1,Y,a0,I,C,some (.ref OU),none]:St)=[some (.ref R),some (.int 50),some (.ref CL),some (.ref ZD),some (.ref TB),some (.ref SP),o6,o7,some (.ref LK),o9,a1,Y,a0,I,C,some (.ref OU),none]/\A0j G G3/\G3 OU=some (.lst (N.map V.str))/\N.length<=60/\nmL (L.length-1)∈N/\∀o∈N,(∃e∈tabs,o=e.1)\/∃j,j<L.length/\o=nmL j:=λs3=>⟨N,(ka rfl (m.trans s3) (s3 _ _ hO) (by lia) W λo ho=>.inr (U o ho))⟩;refine lP _ rfl TB _ rfl (.inl (SqL.of (m _ _ d3))) _ _ rfl rfl _ rfl ?_;refine iX (λhp=>?_) (λ_=>gM (no (A0j.refl _)));refine al _ rfl (ie 2 rfl 3 rfl R _ rfl ((O (e6.trans m)).sq) λp1 a6=>?_);rw[g3];obtain⟨G3,t2,q2,f⟩:=nH (o:=.lst (zc.map V.int)) a6
       try rw[f]
       refine el p1 zc rfl (SqL.of q2) λi1=>(el _ _ rfl rfl (iw (by show(0:Int)<_;decide) rfl _ rfl (iX (λ_=>?_) (λ_=>no t2))));have h0:0<ts.length:=by lia
       have e4:ts[0]?=some (ts[0]'h0):=hB _;obtain⟨e,he,b,c,ev,hb,hc⟩:=hE f7 e4;rw[ev]at e4;have d9:=m.trans t2;have a7:=t2 _ _ hO;refine fV _ rfl (.inl (iN rfl _ (SqL.of a7))) (ic _ rfl TB _ _ _ rfl rfl (SqL.of (d9 _ _ d3)) (hH (j:=0) e4) (iI b _ _ _ rfl rfl (SqL.of (d9 _ _ hb)) (hH (j:=0) rfl) (gX OU _ _ rfl rfl a7 (by rw[eH];exact gQ (by lia)) ⟨N++[e.1],(ka rfl (hJ d9 d8) ?_ (by rw[gz,lV];lia) (nT _ W) λo ho=>?_)⟩)))
       ·rw[gB];exact ee
       ·rcases iQ.mp ho with z|z
        ·exact .inr (U o z)
        ·exact .inl (al e (gT he) (ik.mp z))
      ·clear W U i0 hO m;rintro Z p y;refine pw y ?_;clear y;rintro N rfl m ⟨hO,j0,W,U⟩;refine jm _ rfl CL rfl ⟨_,SqL.of (m _ _ c8)⟩ λD hD=>?_;refine nK (K:=K) (a:=CL) (D:=D) (xs:=L.map V.int) (λn zs H2=>A0j p H2/\H2 D=some (.lst zs)/\∃bs:List Bool,zs=bs.map V.bl/\bs.length=n) (iw (fx hD) ee [] rfl rfl) (λn zs H2 ⟨s3,_⟩=>SqL.of (s3 _ _ (m _ _ c8))) ?_ ?_
       ·rintro n v zs H2 hv ⟨s3,d7,bs,rfl,lb⟩;have hn:=(gG.mp hv).1;rw[eH]at hn;rw[gP]at hv;obtain⟨c,k8,rfl⟩:=lI.mp hv;refine gF True.intro _ rfl (im _ _ rfl rfl ⟨(by show(0:Int)<_;decide),(by show _<(1073741824:Int);decide)⟩ (mY _ _ rfl rfl (by show(0:Int)<_;decide) rfl d7 ⟨by rw[eH];exact gQ (by lia),(iw (hJ s3 hD) ee (bs++[decide (V.int (c/16%4)=V.int 3)]) ?_ (by rw[gz,lb];rfl))⟩));rw[gB];rfl
       ·rintro zs H2 ⟨s3,d7,bs,rfl,lb⟩;rw[eH]at lb;have k7:=m.trans s3;refine λAB h6=>?_;have S:A0j H2 (upd H2 AB (.dK [])):=fx h6;have j5:upd H2 AB (.dK []) AB=some (.dK []):=ee;refine iJ _ rfl _ rfl (iJ _ rfl _ rfl (jv _ rfl j5 (spK ZD TB LK OU D) rfl ⟨(by show 5<=15;decide),?_⟩));rw[Eu];have s5:A0j H2 (upd (upd H2 AB (.dK [])) AB (.dK (spK ZD TB LK OU D))):=hJ S h6;have i7:upd (upd H2 AB (.dK [])) AB (.dK (spK ZD TB LK OU D)) AB=some (.dK (spK ZD TB LK OU D)):=ee;generalize upd (upd H2 AB (.dK [])) AB (.dK (spK ZD TB LK OU D))=H5 at s5 i7;have a5:=k7.trans s5;refine k AB ⟨zq,wd,tabs,ls,N,bs⟩ H5 (e6.trans a5) ⟨ZD,TB,LK,OU,D,ts,ks,i7,a5 _ _ j3,a5 _ _ d3,Paired.mapP f7 λ_ _ z=>D0o.same z a5,a5 _ _ hL,Paired.mapP j2 λ_ _ z=>D2y.same z a5,s5 _ _ (s3 _ _ hO),s5 _ _ d7⟩ ⟨⟨d,htabs⟩,bz.1,bz.2,bw.1,bw.2,by show 1<=ls.length;lia,by show ls.length<=50;lia,by show bs.length=ls.length;lia,λj l h=>⟨(lo j l h).1,λr hr=>((lo j l h).2 r hr).imp (λz=>?_) id⟩⟩ j0 (λo ho=>?_) (by show nmL (ls.length-1)∈N;rw[c5];exact W)
        ·obtain⟨e,he,z⟩:=List.mem_flatMap.mp z;obtain⟨c,hc,rfl⟩:=gm.mp z;exact fV e he rfl hc
        ·show o∈(tabs++lnS ls.length).map (·.1);rcases U o ho with ⟨e,he,rfl⟩|⟨j,hj,rfl⟩
         ·exact List.mem_map_of_mem (nT _ he)
         ·exact gm.mpr (al (nmL j,[]) (lJ _ (gm.mpr (al j (List.mem_range.mpr (by lia)) rfl))) rfl)
theorem EM(h:H a=some u):upd (upd H a o) a u=H:=by
 funext b;by_cases hb:b=a
 ·subst hb;rw[ee,h]
 ·rw[dF hb,dF hb]
theorem x8(z:Int):∀c:zI,inV (.int z) (c.map V.int)=decide (z∈c)
 | []=>rfl
 |b::r=>by
  have a:=x8 z r;unfold inV at a⊢;rw[gw,List.any_cons,a];show((b==z)||decide (z∈r))=decide (z∈b::r);by_cases e:b=z
  ·subst e;simp
  ·have:¬z=b:=λh=>e h.symm;simp[e,this]
theorem yN:∀a:zI,(a.map V.int).all mQ=true| []=>rfl|b::r=>by rw[gw,List.all_cons,yN r];rfl
theorem DT(S:Spn):S.tabs.map (·.1)=((esS S).take S.tabs.length).map (·.1):=by unfold esS;rw[List.take_left]
theorem A2j.same{ys:zM}(h:A2j H ys ss)(s:A0j H H'):A2j H' ys ss:=Paired.mapP h λ_ _ z=>z.kt λp a e=>s _ _ e
def rJ(K:Frag):Sp:=λc H Q _=>∃(a:zW)(b:zI),c=[.ref a]/\ScF K H a (b.map V.int)/\b.length<=63/\∀d,Q (.bl true) d
theorem Cj(T:Txt K mg t):FO P w base T.e_ 19 (rJ K):=by
 refine T.e_.F.ok m8 λ_ A _ s H _ Q E d h=>?_
 ·obtain⟨a,ns,rfl,hS,_,k⟩:=h;have hu:=kF d;have hn:=n5 d;refine rsq (fa (gx 1 m8.nd (pcl (FB T) d T.c_ (dV (pv 0) (dV gh eg)))) (fa (gx 2 m8.nd (pcl (GQ T) d T.cA (dV (pv 1) (dV (iL (oY rfl) (by rfl) T.cZ PyProof.Rows.boot_sum (dV (mz mT (pv 0) (kH gh) (kH gh)) eg)) eg)))) (fa (gx 3 m8.nd (pcl (GD T) d T.cF (fX 1))) (fa (gx 4 m8.nd (pcl (Hs T) d T.c7 (dV (pv 3) (dV (lA Az (by rfl) T.cf oC (fX 2)) eg)))) (fa (gx 5 m8.nd (pcl (HA T) d T.c6 (dV (pv 3) (dV (lA Az (by rfl) T.cf oC (fX 2)) eg)))) (fa (gZ (PW.pt (mL (mu (iY (iL jZ (by rfl) T.a6 jU (dV (pv 4) (dV (jY (v:=V.ty "tuple") rfl T.aE mn rfl) eg))))) (mL (iz rG (jr T.aj (fX 4)) gh) (mL (mu (iY (iL jZ (by rfl) T.a6 jU (dV (pv 5) (dV (jY (v:=V.ty "tuple") rfl T.aE mn rfl) eg))))) (qu (iz rG (jr T.aj (fX 5)) gh)))))) (fC (gq ko)) ⟨gW⟩) (fa (gZ (PW.pt (mL (mu (iY (pcl (vB T) d T.bj (dV (pit 4) eg)))) (mL (mu (iY (iL jZ (by rfl) T.a6 jU (dV (pit 4) (dV (jY (v:=V.ty "list") rfl T.cf oC rfl) eg))))) (qu (mu (iY (pcl (vB T) d T.bj (dV (pit 5) eg)))))))) (fC (gq ko)) ⟨gW⟩) (fa (gx 6 m8.nd (pcl (Gq T) d T.cT (dV (pit 5) eg))) (fa (iA (ER (pv 6)) (gc (i:=7) m8.nd) (fC (gZ (PW.pt (mL (mu (iY (pcl (vB T) d T.bj (dV (uX hn (pv 6) (pv 7) (λ_ _=>rfl)) eg)))) (mL (iz ug (uX hn (pv 6) (pv 7) (λ_ _=>rfl)) gh) (qu (iz BK (uX hn (pv 6) (pv 7) (λ_ _=>rfl)) (pit 5)))))) (fC (gq ko)) ⟨gW⟩))) ⟨vj (@jO _ _ _ _ _ (@pK _ _ _ _ _ _ _ _ (PW.pt (mL (iz ug (pit 4) gh) (mL (iz pH (pit 4) (jr T.aj (fX 2))) (qu (iz rG (jr T.aj (dV (pit 4) eg)) (pit 5)))))) (@jN _ _ _ (@ms _ _ _ _ ko)) gW) (@jO _ _ _ _ _ (@mS _ _ 8 _ _ _ _ m8.nd rfl (.inl rfl) (@hY _ _ _ _ eg) rfl (.inl rfl)) (@jO _ _ _ _ _ (oR PassesOwn.never rfl (jc (pit 4)) (gc (i:=7) m8.nd) (@jO _ _ _ _ _ (@pK _ _ _ _ _ _ _ _ (PW.pt (mL (mu (iY (iL jZ (by rfl) T.a6 jU (dV (pv 7) (dV (jY (v:=V.ty "tuple") rfl T.aE mn rfl) eg))))) (mL (iz rG (jr T.aj (fX 7)) gh) (qu (mu (iY (pcl (Gc T) d T.cV (dV (pv 1) (dV (pv 2) (dV (pit 4) (dV (pv 7) (fX 6)))))))))))) (@jN _ _ _ (@ms _ _ _ _ ko)) gW) (@jO _ _ _ _ _ (@pK _ _ _ _ _ _ _ _ (iz y8 (uI hn (pv 6) (pv 7) (λ_ _=>rfl)) (pv 8) (by with_unfolding_all rfl)) (@jN _ _ _ (@ms _ _ _ _ ko)) gW) (@jN _ _ _ (jI (jC jA kZ kY kU (pv 8) (dV (uI hn (pv 6) (pv 7) (λ_ _=>rfl)) eg))))))) (@jN _ _ _ (@ms _ _ _ _ (xj pH (pit 5) gh))))))⟩))))))))) ?_;refine al _ rfl ⟨a,ns,rfl,hS,λab S H1 s1 sa g d3 oi oL=>?_⟩;obtain⟨zd,f4,_⟩:=sj V.int ns (some 3) (some 4);refine iJ _ rfl _ rfl (ie 3 rfl 4 rfl a _ rfl ((hS.keep λo e=>s1 _ _ e).sq) λp1 e4=>?_);rw[f4];obtain⟨H2,t2,L,c2⟩:=nH (o:=.lst (zd.map V.int)) e4
  try rw[c2]
  refine el p1 zd rfl (SqL.of L) λi1=>?_;refine⟨ab,i1,S,rfl,sa.same t2,g,λOL W n dn H3 h3 s3 a9 st po=>?_⟩;have x:=po.ords g;have b9:=(sa.same t2).same s3;refine al _ rfl ⟨ab,S,rfl,b9,g,d3,λp H4 s4 cl c4=>?_⟩;have fo:=Cb g oi d3;have Y:=vN g;have d4:=x.len;have d7:A0j H H4:=s1.trans (t2.trans (s3.trans s4));refine ie _ rfl _ rfl OL W rfl (.inl (SqL.of (s4 _ _ a9))) λO2 e7=>?_;obtain⟨H5,s5,g5,c2⟩:=nH (o:=.lst W) e7
  try rw[c2]
  refine⟨p,O2,LS S,nmS,esS S,S.tabs.map (·.1),S.tabs.length,gU S S.looks.length,S.outs,W,n,szK S.z S.w,rfl,cl.same s5,fo,Y,g5,st.same (s4.trans s5),x.sin,by lia,rT x,uv x,t6 x,λR CR cs gp H6 g4 s6 C hC rd mx=>?_⟩;have a8:=s5.trans s6;have a0:=s4.trans a8;refine ie _ rfl _ rfl OL W rfl (.inl (SqL.of (a0 _ _ a9))) λO3 b6=>?_;have s7:A0j H6 (upd H6 O3 (.lst W)):=fx b6;have g7:upd H6 O3 (.lst W) O3=some (.lst W):=ee;generalize upd H6 O3 (.lst W)=H7 at s7 g7;have a7:=a8.trans s7;refine⟨p,O3,LS S,nmS,esS S,S.tabs.map (·.1),S.tabs.length,gU S S.looks.length,S.outs,W,n,szK S.z S.w,rfl,cl.same a7,?_,fo,Y,g7,st.same (a0.trans s7),x.sin,by lia,rT x,uv x,t6 x,DT S,wY g _,λL HD da tk e9 H8 s8 J hm ho d9=>?_⟩
  ·refine jS c4 ?_;clear c4;rintro dx l ad tl ln o ⟨z1,z2⟩;exact mF dx l ad tl ln o ⟨a7 _ _ z1,a7 _ _ z2⟩
  obtain rfl:gp=e9:=mx.uniq d9;have y:=s7.trans s8;have C:=y _ _ C;have hC:=y _ _ hC;have rd:=rd.same y;have a1:=a0.trans y;have e6:=a1 _ _ a9;have d0:=st.same a1;have e5:=b9.same a1;have d8:A0j H H8:=d7.trans (a8.trans y);have g3:=CU mx;have b3:=FX g x fo Y oL mx;have c9:=wY g (szK S.z S.w)
  have f0:tk.length<64:=by have:=oo ho.nd (m:=MS S (szK S.z S.w)) λr d=>((ho.mem r).mp d).1;rw[eH]at this;exact p9 this c9
  have g8:=BD (lk:=szK S.z S.w) g
  have X:∀r∈MS S (szK S.z S.w),r∈(flL tk (esS S)).map (·.1):=λr d=>by obtain⟨f,c1,z⟩:=gm.mp ((ho.mem r).mpr (EZ g x d));exact gm.mpr (al f (uD.mpr ⟨c1,by rw[z];exact(qB.mp d).1⟩) z)
  have h6:=mx;clear mx d9 fo Y cl c4 st a9 sa b9 g5 g7 e7 b6 a8 a7 a0 y a1 e4 t2 s3 s4 s5 s6 s7 s8 g4;have a3:∀r∈ki (fS S n) (gS S (szK S.z S.w) n) (MS S (szK S.z S.w)) gp,r∈MS S (szK S.z S.w)/\jH (fS S n) (gS S (szK S.z S.w) n) gp r=true:=λr d=>List.mem_filter.mp d;have c0:(ki (fS S n) (gS S (szK S.z S.w) n) (MS S (szK S.z S.w)) gp).Nodup:=g8.sublist List.filter_sublist;obtain⟨rs,ers⟩:∃rs,rs=ki (fS S n) (gS S (szK S.z S.w) n) (MS S (szK S.z S.w)) gp:=⟨_,rfl⟩;have rd:Rds H8 cs rs:=by rw[ers];exact rd
  have J:H8 L=some (.tup [.int (rs.length:Nat),.ref HD]):=by rw[ers];exact J
  have ho:rC (fS S n) (gS S (szK S.z S.w) n) (gU S S.looks.length) (S.tabs.map (·.1)) n (MS S (szK S.z S.w)) (rs.length:Int) tk:=by rw[ers];exact ho
  have b3:0<rs.length:=by rw[ers];exact b3
  rw[<-ers]at a3 c0;clear ers;have f3:=Paired.length rd;refine iT _ rfl _ _ _ _ rfl (km.tup C) (mV "tuple") true rfl (gM ?_);refine gr _ rfl R _ rfl (.inr (SqT.of C)) (gF rfl _ rfl (gM ?_));refine iT _ rfl _ _ _ _ rfl (km.tup J) (mV "tuple") true rfl (gM ?_);refine gr _ rfl L _ rfl (.inr (SqT.of J)) (gF rfl _ rfl (gM ?_));refine ic _ rfl R _ _ _ rfl rfl (SqT.of C) (hH (j:=0) rfl) ⟨_,rfl,true,rfl,gM ?_⟩;refine ic _ rfl R _ _ _ rfl rfl (SqT.of C) (hH (j:=1) rfl) ⟨_,(jn _ _ _ rfl (iw (km.lst hC) (mV "list") true rfl (gM ?_)))⟩;refine ic _ rfl L _ _ _ rfl rfl (SqT.of J) (hH (j:=0) rfl) ⟨_,rfl,true,rfl,gM ?_⟩;refine ic _ rfl L _ _ _ rfl rfl (SqT.of J) (hH (j:=1) rfl) ⟨HD,da,esS S,tk,rfl,hm,(pI g).nd,ho.nd,f0,(pI g).few,λF H9 hF s9 a5=>?_⟩;generalize hl:flL tk (esS S)=l at X a5;have d1:∀f,f∈l->f∈tk:=λf h=>by rw[<-hl]at h;exact(uD.mp h).1
  clear hl hm;have C:=s9 _ _ C;have J:=s9 _ _ J;have hC:=s9 _ _ hC;have e3:=s9 _ _ e6;have rd:=rd.same s9;have c5:=d0.same s9;have g0:=e5.same s9;have f8:H F=none:=d8.free hF;clear e6 d0 e5 s9 d8 d7;have h0:∀o' u',H F≠some (.frz o' u'):=λo' u' z=>by rw[f8]at z;cases z
  obtain⟨kas,b8,b7,b2⟩:=id a5;refine al _ rfl (jF F _ kas rfl b8 λM=>?_);have fz:upd H9 F (.frz M (ndV P w [true,false] F kas)) F=some (.frz M (ndV P w [true,false] F kas)):=ee;have nt:∀{b:zW}{u:HO},b≠F->H9 b=some u->upd H9 F (.frz M (ndV P w [true,false] F kas)) b=some u:=λhb e=>by rw[dF hb];exact e
  have kT:KT H9 (upd H9 F (.frz M (ndV P w [true,false] F kas))):=λb xs e=>nt (gg e b8 (by intro z;cases z)) e;have c:=λp' d6=>(⟨(b2 p' d6).1,(b2 p' d6).2.keeps kT⟩:_/\_);have b5:(kas.map λp=>(p.1,p.2.2))=kvF l:=b7
  refine Fo (P:=P) (w:=w) (sh:=[true,false]) (a:=F) (o:=M) (kas:=kas) (λi Z G=>∃o7:zP,Z=[Sro a,Sro ab,Sro OL,Sro p,Sro R,Sro L,Sro F,o7,none]/\upd H9 F (.frz M (ndV P w [true,false] F kas))=G)
   (al none rfl rfl) (by rintro i Z G ⟨_,_,rfl⟩;exact fz) ?_ ?_
  ·rintro i q Z G hq ⟨o7,rfl,rfl⟩;have d5:(kvF l)[i]?=some (q.1,q.2.2):=by rw[<-b5,gP,hq];rfl
   rw[gP]at d5;obtain⟨f,c1,g1⟩:=lI.mp d5;have f7:q.1=nk f.1:=(congrArg Prod.fst g1).symm;have I:f.1∈l.map (·.1):=List.mem_map_of_mem (gT c1);obtain⟨a2,e0⟩:=rO I;obtain⟨b0,b1⟩:=ho.ho _ (d1 _ e0);have b0:0<=hmF l f.1:=b0;have b1:hmF l f.1<(rs.length:Int):=b1;have na:A1w (upd H9 F (.frz M (ndV P w [true,false] F kas))) (nk f.1) q.2.1:=by rw[<-f7];exact(c q (gT hq)).2
   have D:fy (kas.map λp=>(p.1,p.2.2)) (nk f.1)=some (.int (hmF l f.1)):=by rw[b5];exact a2
   refine iJ _ rfl _ rfl (jw F q.2.1 (mD _ M kas (nk f.1) _ rfl rfl fz h0 c na rfl D ⟨_,rfl,true,rfl,gM ?_⟩));refine iJ _ rfl _ rfl (jw F q.2.1 (mD _ M kas (nk f.1) _ rfl rfl fz h0 c na rfl D ⟨_,(jv _ rfl rfl _ rfl (iX (λh=>absurd h (by lia)) (λ_=>?_)))⟩));exact iJ _ rfl _ rfl (jw F q.2.1 (mD _ M kas (nk f.1) _ rfl rfl fz h0 c na rfl D (ic _ rfl L _ _ _ rfl rfl (SqT.of (kT _ _ J)) (hH (j:=0) rfl) ⟨_,(jv _ rfl rfl _ rfl (iX (λh=>absurd h (by lia)) (λ_=>(al _ rfl rfl))))⟩)))
  rintro Z G ⟨o7,rfl,rfl⟩;refine jF F M _ fz h0 ?_;erw[EM b8];clear fz nt kT c h0;refine ic _ rfl R _ _ _ rfl rfl (SqT.of C) (hH (j:=0) rfl) ⟨_,(jv _ rfl rfl _ rfl (iX (λh=>absurd h (by lia)) (λ_=>?_)))⟩;have h4:=Paired.length c5;refine ic _ rfl R _ _ _ rfl rfl (SqT.of C) (hH (j:=0) rfl) (lP _ rfl OL _ rfl (.inl (SqL.of e3)) _ _ rfl rfl _ rfl (iX (λh=>absurd h (by lia)) (λ_=>?_)));refine ic _ rfl R _ _ _ rfl rfl (SqT.of C) (hH (j:=1) rfl) (el CR _ rfl (.inl (SqL.of hC)) (ic _ rfl L _ _ _ rfl rfl (SqT.of J) (hH (j:=0) rfl) (gF rfl _ rfl (BE (λh=>absurd (by rw[f3]) h) (λ_=>?_)))));refine⟨gj rfl,λU hU=>?_⟩
  have g9:rs.length<=64:=by have h:=oo c0 (m:=MS S (szK S.z S.w)) λr d=>(a3 r d).1;exact Nat.le_of_lt (p9 h c9)
  refine ic _ rfl R _ _ _ rfl rfl (SqT.of (fx hU _ _ C)) (hH (j:=1) rfl) (fV CR rfl ⟨_,SqL.of (fx hU _ _ hC)⟩ ?_)
  refine kz (K:=K) (a:=CR) (xs:=cs) (λj Z G=>∃o7:zP,Z=[Sro a,Sro ab,Sro OL,Sro p,Sro R,Sro L,Sro F,o7,Sro U]/\A0j H9 G/\G U=some (.lst (((rs.take j).map (hmF l)).map V.int)))
   (fV _ rfl (fx hU) ee) (by rintro j Z G _ ⟨_,_,sg,_⟩;exact SqL.of (sg _ _ hC)) ?_ ?_
  ·rintro j v Z G hv ⟨o7,rfl,B,d2⟩;obtain⟨r,a4,tr⟩:=hE rd hv;obtain⟨pq,cq,rfl,e1,e2⟩:=id tr;have h5:=(gG.mp a4).1;obtain⟨rm,N⟩:=a3 r (gT a4);have I:=X r rm;obtain⟨a2,e0⟩:=rO I;have f5:A3t P w [true,false] G F (kvF l):=a5.keeps (λo e=>B _ _ e) (λb xs e=>B _ _ e);have lv:=N;unfold jH at lv;rw[nS]at lv;have f6:r.1∈S.outs\/∃(m k:Nat)(s:Stp),gp<=m/\n[m]?=some s/\s.1=(k:Int)/\(nmL k,([]:zI))∈l.map (·.1)/\r∈jt S s:=(Cz g x rm (of_decide_eq_true lv.2)).imp id λ⟨m,k,s,z1,z2,z3,z4,z5⟩=>(gX m k s z1 z2 z3 (X _ z4) z5);refine iT _ rfl _ _ _ _ rfl (km.tup (B _ _ e1)) (mV "tuple") true rfl (gM ?_);refine gr _ rfl pq _ rfl (.inr (SqT.of (B _ _ e1))) (gF rfl _ rfl (gM ?_));refine iJ _ rfl _ rfl (ic _ rfl R _ _ _ rfl rfl (SqT.of (B _ _ C)) (hH (j:=0) rfl) (iJ _ rfl _ rfl ⟨ab,OL,pq,F,gp,S,W,n,r,l,rfl,g0.same B,g,B _ _ e3,c5.same B,λs hs=>?_,g3,d4,(el pq cq rfl (B _ _ e1) (B _ _ e2)),f5,I,EI g x rm (of_decide_eq_true lv.1),f6,λG2 s2=>(al true rfl (gM ?_))⟩))
   ·obtain⟨k',g2,g6⟩:=nh.mp ((x.mem s).mp hs);exact al k' (mf g6) g2
   have O:=B.trans s2;have c3:=s2 _ _ d2;have b4:A3t P w [true,false] G2 F (kvF l):=a5.keeps (λo e=>O _ _ e) (λb xs e=>O _ _ e);have na:A1w G2 (nk r) pq:=oz (O _ _ e1) (by rw[List.map_map];exact O _ _ e2)
   have f1:hmF l r∉(rs.take j).map (hmF l):=λm=>by obtain⟨r',c8,z⟩:=gm.mp m;have e8:r'≠r:=λq=>pd c0 a4 (q▸c8);obtain⟨f2,f9⟩:=a3 r' (p6 c8);exact Id ho d1 (X r' f2) I e8 f9 N z
   refine al _ rfl (kK _ rfl F pq _ _ (nk r) (fV _ ⟨rfl,rfl,b4,na,rfl⟩ a2 (gr _ rfl U _ rfl (.inl (SqL.of c3)) (iw rfl (yN _) _ rfl ?_))));show if inV (.int (hmF l r)) (((rs.take j).map (hmF l)).map V.int)=true then _ else _
   rw[x8,kj f1];refine gM ?_;have et:rs.take (j+1)=rs.take j++[r]:=by rw[gR,a4];rfl
   refine jv _ rfl (.inl (iN rfl _ (SqL.of c3))) _ rfl (kK _ rfl F pq _ _ (nk r) (fV _ ⟨rfl,rfl,b4,na,rfl⟩ a2 (gD U _ _ rfl rfl c3 (jP ?_ _ rfl (hJ O hU) ?_))))
   ·rw[eH,eH,iP];exact gQ (by lia)
   ·rw[et,gB,gB];exact ee
  ·rintro Z G ⟨o7,rfl,B,d2⟩;refine ic _ rfl L _ _ _ rfl rfl (SqT.of (B _ _ J)) (hH (j:=0) rfl) (el _ _ rfl rfl ?_);show Q (.bl (decide (0<(rs.length:Int)))) G;rw[iW (by lia:0<(rs.length:Int))];exact k G
end My
namespace PySem.W.Fast
def tw15967738938574616993:=()
def tw10891763711353506891:=()
def tw16836271493829424173:=()
def tw1438705169346489122:=()
def tw1912166964986873846:=()
def tw10396172730228601606:=()
def tw4092189208490563076:=()
def tw4659814826977773425:=()
def tw6260029777088402102:=()
def tw17004492005083341247:=()
def tw8672238871100511641:=()
def tw11299191270054750728:=()
def tw15504070261907497712:=()
def tw3700875304544227954:=()
def tw361381722175929621:=()
def tw3311285873381485857:=()
def tw1165611330143584655:=()
def tw10933160176185304418:=()
def tw17067752796449965521:=()
def tw6007562198267665050:=()
def tw16404677272541435737:=()
def tw15624504578089854783:=()
def tw13191704540144715704:=()
def tw13797648929380191805:=()
def tw5850369662407973675:=()
def tw683832259154188056:=()
def tw9324040373563584598:=()
def tw16513612669581514922:=()
def tw1024859433575544538:=()
def tw872387502649134312:=()
def tw10941039272808527772:=()
def tw4834910021630870344:=()
def tw18075763930708248885:=()
def tw13677256529007331350:=()
def tw15834226622937093615:=()
def tw8752555330332471606:=()
def tw3856162995848818078:=()
def tw6032150824465673189:=()
def tw18049949276368506571:=()
def tw6775246527485997261:=()
def tw8163075734092583229:=()
def tw8066336916937469563:=()
def tw3714344848335394624:=()
def tw5034872526648540295:=()
def tw5830706593729685875:=()
def tw15808702677612382136:=()
def tw4357380636187997130:=()
def tw4827781141740308834:=()
def tw11256859750766752263:=()
def tw16432928527625079835:=()
def tw221610541364738375:=()
def tw15046222296516235751:=()
def tw3734547826198112843:=()
def tw4822897158950995855:=()
def tw6066204998887929040:=()
def tw13121868198263690863:=()
def tw11891724454550842350:=()
def tw7237075382898107167:=()
def tw17167716188651006498:=()
def tw1822507934991543710:=()
def tw4966071818321340455:=()
def tw10382274572919896898:=()
def tw14518716291255030601:=()
def tw11508830714465933166:=()
def tw13035062034339785064:=()
def tw13958951603428823199:=()
def tw16213811711989935766:=()
def tw7110893425758827744:=()
def tw15012705017544564592:=()
def tw16577478863235394203:=()
def tw5583211420749031954:=()
def tw1198727213852862550:=()
def tw16194885557527730905:=()
def tw9310056932237038885:=()
def tw14958760258109531934:=()
def tw18156325704362726701:=()
def tw17621707218017820808:=()
def tw3595404171136070131:=()
def tw891109613885070261:=()
def tw11479376744349349743:=()
def tw115374433383434896:=()
def tw12386035882616068027:=()
def tw5490756452428500537:=()
def tw3887951919316128471:=()
def tw10654668598413439145:=()
def tw18387277668749213128:=()
def tw3051360096470444886:=()
def tw17242259025533805203:=()
def tw3834260616534816835:=()
def tw11912831818287211446:=()
def tw1571016391171050913:=()
def tw467204071339037102:=()
def tw7086621467739650197:=()
def tw3879537520807494869:=()
def tw12783457794250198109:=()
def tw11218981306284391332:=()
def tw4557488284206386303:=()
def tw8895237441991907946:=()
def tw8993997597484293162:=()
def tw8702255969671641206:=()
def tw3124806845194898678:=()
def tw3956349077293222375:=()
def tw1354066374882735015:=()
def tw10882533508856146859:=()
def tw9792840307721376846:=()
def tw8636560276810983096:=()
def tw386766335309021736:=()
def tw11634668985897121336:=()
def tw8410120738973330793:=()
def tw12571069666034294995:=()
def tw17335271415972230974:=()
def tw6576961839625621108:=()
def tw12627786025460389356:=()
def tw11168633900675882984:=()
def tw546861489029244169:=()
def tw4566586450606930246:=()
def tw12615503065258486694:=()
def tw1173092571593831735:=()
def tw7492137152488524179:=()
def tw15386723553937035368:=()
def tw13375264593616794125:=()
def tw13584773404461353632:=()
def tw2727233231794739902:=()
end PySem.W.Fast
namespace My
open PySem L2
theorem E1b{p:zH->Prop}(h:p []):∀us:zH,us.length=0->p us:=λus e=>by rw[p7.mp e];exact h
theorem E1p{n:Nat}{p:zH->Prop}(h:∀(a:zX)(us:zH),us.length=n->p (a::us)):∀us:zH,us.length=n+1->p us|a::r,e=>h a r (Nat.succ.inj e)
section
variable{K:Frag}{h:yA}{mg:zE}{x q:Str}{st:Stmt}{C f:zW}{oc:zX}{od:zO}{kV dc pm:zX}{an:zO}{cd ct:zX}{sl:zF}{ps:zC}
theorem E0t(_:findIn K (.ref C) x=some (some (.ref f)))(l:K.lookup f=some ⟨oc,od,.func (fnOf x q (m9 st) (mU st) (gy st) .none kV dc pm an cd ct),sl⟩)(c:codeIn K cd q=true)(k:keepIn K (.ref f)=true)
  (b:∀(kV a pm:zX)(an:zO)(d ct:zX)(us:zH),us.length=ps.length->bindArgs (fnOf x q (m9 st) (mU st) (gy st) .none kV a pm an d ct) ⟨us,[]⟩=pure (ps.zip us)):FM K C x q st f (fnOf x q (m9 st) (mU st) (gy st) .none kV dc pm an cd ct) ps:=⟨rM l c k,(rM l c k).binds b⟩
theorem E0n(X:K.In h)(G:h.Ns mainGlobals mg)(a:nsIn K mainGlobals x=some (some (.ref f)))(l:K.lookup f=some ⟨oc,od,.func (fnOf x x (m9 st) (mU st) (gy st) .none kV dc pm an cd ct),sl⟩)(c:codeIn K cd x=true)(k:keepIn K (.ref f)=true)
  (b:∀(kV d pm:zX)(an:zO)(e ct:zX)(us:zH),us.length=ps.length->bindArgs (fnOf x x (m9 st) (mU st) (gy st) .none kV d pm an e ct) ⟨us,[]⟩=pure (ps.zip us)):FQ K mg x st f (fnOf x x (m9 st) (mU st) (gy st) .none kV dc pm an cd ct) ps:=⟨rM l c k,PySem.W.mg_of X G a,(rM l c k).binds b⟩
end
local macro_rules | `(tactic| walk_at"le") => `(tactic| (intro _ _ _ _ _ _; (repeat (refine E1p fun _ => ?_)); exact E1b rfl))
theorem D7x{l:PySem.W.OpenLaw}{w:yD}{K:Frag}{mg:zE}{c:zW}{t:Adr}(a:mg "law"=some (.ref c))(T:Txt K mg t)(b:∀(s:zY)(v:zX),BindsTo s t.fw ⟨[v],[]⟩ [("_law_script",v)]):
  ∃fd:zS,(∀(s:zY)(v:zX),BindsTo s fd ⟨[v],[]⟩ [("_law_script",v)])/\∀base:yA,K.In base->base.Ns mainGlobals mg->A5j l.prog w K mg base jB 19 c fd ["_law_script"] (rJ K):=by
 have e:=a.symm.trans T.e_.m;cases e;exact⟨_,b,λbase _ _=>Cj T⟩
theorem walk{l:PySem.W.OpenLaw}{q:yB}{b:zC}{XP:zE->yA->Prop}{YP:yD->yA->Prop}{d:DefRec}{K:Params->Frag}(g:l.most=some 63)(c:d.params.defaults=[])
  (i:∀(w:yD)(h:yA),YP w h->(K w.params).In h)
  (F:∀(w:yD)(mg:zE)(e:zW)(h:yA),(K w.params).In h->h.Ns mainGlobals mg->mg d.name=some (.ref e)->
   ∃fd:zS,(∀(s:zY)(u:zX),BindsTo s fd ⟨[u],[]⟩ [("_law_script",u)])/\∀base:yA,(K w.params).In base->base.Ns mainGlobals mg->A5j l.prog w (K w.params) mg base jB 19 e fd ["_law_script"] (rJ (K w.params))):
  PySem.W.WalkO q b XP YP l.row.toRowW d [] (λf vs=>PySem.call f vs):=
 L2.D3g (n:=63) (k:=19) (x:="_law_script") (CX:=λ_=>jB) (sp:=λw=>rJ (K w.params)) g (by decide) c ⟨rfl,by decide,by decide,rfl⟩ i F (λ_ _ a j p m o=>⟨a,j,rfl,ScF.mk m o,p,λ_=>rfl⟩) λ_ _ _ _ _ z=>z
end My
open PySem PySem.W PyProof.Rows
set_option maxRecDepth 100000 in
set_option maxHeartbeats 0 in
theorem PySem.Challenge.cw_arrayloom_k65_crowd_and_room_holds : PySem.Challenge.rw_arrayloom_k65_crowd_and_room.Holds := by
 w_on;o_law;k_head;(case hw=>w_witness2)
 k_fill
 refine My.walk (l:=PySem.Challenge.rw_arrayloom_k65_crowd_and_room) rfl rfl (λw h Y=>PySem.W.kIn_of Y) ?F
 case F =>
  intro w e d h KX G c;refine' My.D7x (t:= .mk ..) c ?T ?b
  case T =>
   constructor <;> (try dsimp only) <;> first |k_is |((with_reducible refine mg_of KX G ?_);k_is) |((with_reducible refine mg_none_of KX G ?_);k_is) |((with_reducible apply My.E0n KX G) <;> first |k_is |(intro _ _ _ _ _ _;(repeat (refine My.E1p λ_=> ?_));exact My.E1b rfl)) |((with_reducible apply My.E0t) <;> first |k_is |(intro _ _ _ _ _ _;(repeat (refine My.E1p λ_=> ?_));exact My.E1b rfl)) |((with_reducible refine L2.kit_true ?_ ?_ ?_) <;> k_is) |((with_reducible refine L2.kit_false (by first |rfl |decide) ?_ ?_ ?_) <;> k_is) |((with_reducible refine L2.exm_of ?_ ?_ ?_ ?_) <;> k_is) |(show findIn _ _ _=_;k_is) |kernel_rfl |(refine' ⟨_,mg_of KX G ?a,?b⟩;(case a=>k_is);(case b=>first |exact⟨_,rfl⟩ |rfl)) |(constructor <;> first |k_is |(show findIn _ _ _=_;k_is) |kernel_rfl |(constructor <;> k_is))
  case b=>exact λs v=> .of_eq rfl
