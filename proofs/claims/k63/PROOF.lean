import PyProof.Rows.All
import Wide.All
import OpenK.AllK
import Wide.FinOn
import Lean
import PySem.Challenge.RW_arrayloom_k63_crowd
set_option compiler.extract_closed false
section
open PySem PySem.Spec PyProof.Rows PySem.Calls
abbrev cz:=@wpAny_bind
abbrev iB:=@Heap.get?_push_of_some
abbrev ow:=@List.mem_append_right
abbrev iG:=@List.getElem?_eq_some_iff
abbrev hE:=@wpAny_pure
abbrev qV:=@List.mem_append_left
abbrev jc:=@List.length_append
abbrev ng:=@List.mem_append
abbrev hA:=@List.length_map
abbrev ig:=@Nat.le_refl
abbrev iI:=@Heap.lt_size
abbrev jq:=@List.getElem?_eq_getElem
abbrev jw:=@Heap.get?_push_size
abbrev lS:=@PyProof.Rows.boot_isinstance
abbrev jt:=@List.mem_cons
abbrev jK:=@List.size_toArray
abbrev jJ:=@Nat.ne_of_lt
abbrev oP:=@Option.map_eq_some_iff
abbrev tf:=@List.length_singleton
abbrev kQ:=@PySem.F.plainAttrs_list
abbrev qj:=@List.nodup_append
abbrev nV:=@PyProof.Rows.boot_tuple
abbrev nU:=@PySem.F.slot_list_append
abbrev nT:=@PySem.F.type_list_append
abbrev iN:=@List.map_cons
abbrev mC:=@Nat.lt_of_lt_of_le
abbrev iK:=@List.map_append
abbrev fy:=@if_neg
abbrev nS:=@List.append_nil
abbrev jD:=@Bool.false_ne_true
abbrev mL:=@List.mem_singleton
abbrev iX:=@List.length_take
abbrev mB:=@List.length_cons
abbrev nR:=@List.append_assoc
abbrev lR:=@wpAny_mono
abbrev jQ:=@wpAny_field
abbrev ia:=@if_pos
abbrev iZ:=@List.mem_of_getElem?
abbrev iF:=@List.take_add_one
abbrev qi:=@List.nodup_cons
abbrev nQ:=@wpAny_newObj_type
abbrev iQ:=@List.take_length
abbrev wj:=@List.length_drop
abbrev lI:=@Option.some.inj
abbrev nA:=@wpAny_callSpecial?_slot
abbrev wg:=@Heap.get?_update_other
abbrev jP:=@Nat.zero_le
abbrev qh:=@List.mem_cons_of_mem
abbrev mn:=@wpAny_call_entry
abbrev nc:=@wpAny_setField_rec
abbrev my:=@List.not_mem_nil
abbrev mZ:=@decide_eq_false
abbrev nP:=@List.getElem?_append_right
abbrev xZ:=@Array.getElem?_eq_some_iff
abbrev nO:=@Nat.le_trans
abbrev pG:=@PyProof.Rows.boot_list
abbrev pF:=@Int.emod_lt_of_pos
abbrev lH:=@Nat.ne_of_gt
abbrev rL:=@Heap.get?_update_self
abbrev ot:=@Heap.size_push
abbrev qg:=@wpAny_setField
abbrev uH:=@List.drop_eq_getElem_cons
abbrev oq:=@Int.emod_nonneg
abbrev ny:=@wpAny_holding
abbrev qf:=@Bool.and_eq_true
abbrev wf:=@wpAny_standAt
abbrev jh:=@List.getElem?_map
abbrev kz:=@decide_eq_true
abbrev mK:=@wpAny_seqItems
abbrev qU:=@beq_eq_false_iff_ne
abbrev xY:=@List.getElem?_set_self
abbrev lD:=@List.getElem?_append_left
abbrev sZ:=@List.mem_cons_self
abbrev qd:=@List.lookup_cons
abbrev xX:=@List.getElem?_set_ne
abbrev uG:=@wpAny_execs_nil
abbrev kg:=@List.mem_map
abbrev sY:=@List.take_append_drop
abbrev iS:=@Option.toList_some
abbrev oo:=@List.length_nil
abbrev qb:=@List.find?_cons
abbrev sX:=@List.take_of_length_le
abbrev xW:=@List.getElem?_zip_eq_some
abbrev sW:=@List.length_eq_zero_iff
abbrev uE:=@List.take_sublist
abbrev nw:=@List.mem_of_mem_take
abbrev uD:=@PyProof.Rows.boot_dict
end
noncomputable section
open PySem.W (Frag findIn nsIn mroIn kitOne keepIn typeIn hideAll isFn plainGet isClsIn hasDictIn exmOne plainOver makesIn clsIn fnOf emptyDict instObj excIn kitAny takesIn specialIn subIn codeIn)
set_option Elab.async false
set_option bootstrap.genMatcherCode false
set_option linter.all false
set_option maxRecDepth 100000
set_option maxHeartbeats 4000000
section
variable{G:Prop}{T0 T1 T2 T3 T4 T5 T6 T7 T8 T9 T10 T11 T12 T13:Sort _}{A0 A1 A2 A3 A4 A5:Prop}{B0 B1 B2 B3:T0->Prop}{C0 C1 C2 C3 C4 C5:T0->T1->Prop}{D0 D1 D2 D3 D4 D5:T0->T1->T2->Prop}{E0 E1 E2 E3 E4 E5:T0->T1->T2->T3->Prop}{F0 F1 F2 F3 F4 F5:T0->T1->T2->T3->T4->Prop}{G0 G1 G2 G3 G4 G5 G6 G7 G8:T0->T1->T2->T3->T4->T5->Prop}{H0:T0->T1->T2->T3->T4->T5->T6->Prop}{I0 I1 I2:T0->T1->T2->T3->T4->T5->T6->T7->Prop}{J0:T0->T1->T2->T3->T4->T5->T6->T7->T8->Prop}{K0:T0->T1->T2->T3->T4->T5->T6->T7->T8->T9->Prop}{O0:T0->T1->T2->T3->T4->T5->T6->T7->T8->T9->T10->T11->T12->T13->Prop}
theorem hQ:A0->A1->A2->A0/\A1/\A2:=λm n i=>⟨m,n,i⟩
theorem jI:A0->∀x,B0 x->A0/\∃x,B0 x:=λm x n=>⟨m,x,n⟩
theorem ah:∀x,B0 x->B1 x->∃x,B0 x/\B1 x:=λx m n=>⟨x,m,n⟩
theorem km:∀x y,C0 x y->∃x y,C0 x y:=λx y m=>⟨x,y,m⟩
theorem jO:A0->A1->A2->A3->A0/\A1/\A2/\A3:=λm n i j=>⟨m,n,i,j⟩
theorem iV:A0->∀x,B0 x->B1 x->A0/\∃x,B0 x/\B1 x:=λm x n i=>⟨m,x,n,i⟩
theorem hH:∀x,B0 x->B1 x->B2 x->∃x,B0 x/\B1 x/\B2 x:=λx m n i=>⟨x,m,n,i⟩
theorem jV:∀x y,C0 x y->C1 x y->∃x y,C0 x y/\C1 x y:=λx y m n=>⟨x,y,m,n⟩
theorem lj:∀x y z,D0 x y z->∃x y z,D0 x y z:=λx y z m=>⟨x,y,z,m⟩
theorem jH:A0->A1->A2->A3->A4->A0/\A1/\A2/\A3/\A4:=λm n i j k=>⟨m,n,i,j,k⟩
theorem kE:A0->A1->∀x,B0 x->B1 x->A0/\A1/\∃x,B0 x/\B1 x:=λm n x i j=>⟨m,n,x,i,j⟩
theorem jU:A0->∀x,B0 x->B1 x->B2 x->A0/\∃x,B0 x/\B1 x/\B2 x:=λm x n i j=>⟨m,x,n,i,j⟩
theorem mw:A0->∀x y,C0 x y->C1 x y->A0/\∃x y,C0 x y/\C1 x y:=λm x y n i=>⟨m,x,y,n,i⟩
theorem ky:∀x,B0 x->B1 x->B2 x->B3 x->∃x,B0 x/\B1 x/\B2 x/\B3 x:=λx m n i j=>⟨x,m,n,i,j⟩
theorem oN:∀x,B0 x->B1 x->∀y,C0 x y->∃x,B0 x/\B1 x/\∃y,C0 x y:=λx m n y i=>⟨x,m,n,y,i⟩
theorem jB:∀x,B0 x->∀y,C0 x y->C1 x y->∃x,B0 x/\∃y,C0 x y/\C1 x y:=λx m y n i=>⟨x,m,y,n,i⟩
theorem fx:∀x y,C0 x y->C1 x y->C2 x y->∃x y,C0 x y/\C1 x y/\C2 x y:=λx y m n i=>⟨x,y,m,n,i⟩
theorem ku:∀x y z,D0 x y z->D1 x y z->∃x y z,D0 x y z/\D1 x y z:=λx y z m n=>⟨x,y,z,m,n⟩
theorem ke:A0->A1->A2->A3->A4->A5->A0/\A1/\A2/\A3/\A4/\A5:=λm n i j k l=>⟨m,n,i,j,k,l⟩
theorem jN:A0->∀x y,C0 x y->C1 x y->C2 x y->A0/\∃x y,C0 x y/\C1 x y/\C2 x y:=λm x y n i j=>⟨m,x,y,n,i,j⟩
theorem lQ:∀x,B0 x->B1 x->∀y,C0 x y->C1 x y->∃x,B0 x/\B1 x/\∃y,C0 x y/\C1 x y:=λx m n y i j=>⟨x,m,n,y,i,j⟩
theorem jg:∀x,B0 x->∀y,C0 x y->C1 x y->C2 x y->∃x,B0 x/\∃y,C0 x y/\C1 x y/\C2 x y:=λx m y n i j=>⟨x,m,y,n,i,j⟩
theorem iO:∀x y,C0 x y->C1 x y->C2 x y->C3 x y->∃x y,C0 x y/\C1 x y/\C2 x y/\C3 x y:=λx y m n i j=>⟨x,y,m,n,i,j⟩
theorem mi:∀x y z,D0 x y z->D1 x y z->D2 x y z->∃x y z,D0 x y z/\D1 x y z/\D2 x y z:=λx y z m n i=>⟨x,y,z,m,n,i⟩
theorem lA:∀x y z u v,F0 x y z u v->∃x y z u v,F0 x y z u v:=λx y z u v m=>⟨x,y,z,u,v,m⟩
theorem ii:∀x,B0 x->∀y z,D0 x y z->D1 x y z->D2 x y z->∃x,B0 x/\∃y z,D0 x y z/\D1 x y z/\D2 x y z:=λx m y z n i j=>⟨x,m,y,z,n,i,j⟩
theorem jA:∀x y,C0 x y->C1 x y->C2 x y->C3 x y->C4 x y->∃x y,C0 x y/\C1 x y/\C2 x y/\C3 x y/\C4 x y:=λx y m n i j k=>⟨x,y,m,n,i,j,k⟩
theorem lx:∀x y,C0 x y->C1 x y->∀z,D0 x y z->D1 x y z->∃x y,C0 x y/\C1 x y/\∃z,D0 x y z/\D1 x y z:=λx y m n z i j=>⟨x,y,m,n,z,i,j⟩
theorem jv:∀x y z,D0 x y z->D1 x y z->D2 x y z->D3 x y z->∃x y z,D0 x y z/\D1 x y z/\D2 x y z/\D3 x y z:=λx y z m n i j=>⟨x,y,z,m,n,i,j⟩
theorem pD:∀x y,C0 x y->C1 x y->C2 x y->C3 x y->C4 x y->C5 x y->∃x y,C0 x y/\C1 x y/\C2 x y/\C3 x y/\C4 x y/\C5 x y:=λx y m n i j k l=>⟨x,y,m,n,i,j,k,l⟩
theorem jX:∀x y z,D0 x y z->D1 x y z->D2 x y z->D3 x y z->D4 x y z->∃x y z,D0 x y z/\D1 x y z/\D2 x y z/\D3 x y z/\D4 x y z:=λx y z m n i j k=>⟨x,y,z,m,n,i,j,k⟩
theorem jo:∀x y z u,E0 x y z u->E1 x y z u->E2 x y z u->E3 x y z u->∃x y z u,E0 x y z u/\E1 x y z u/\E2 x y z u/\E3 x y z u:=λx y z u m n i j=>⟨x,y,z,u,m,n,i,j⟩
theorem sV:∀x,B0 x->B1 x->∀y,C0 x y->C1 x y->C2 x y->∀z,D0 x y z->∃x,B0 x/\B1 x/\∃y,C0 x y/\C1 x y/\C2 x y/\∃z,D0 x y z:=λx m n y i j k z l=>⟨x,m,n,y,i,j,k,z,l⟩
theorem iU:∀x,B0 x->∀y,C0 x y->∀z u,E0 x y z u->E1 x y z u->E2 x y z u->∃x,B0 x/\∃y,C0 x y/\∃z u,E0 x y z u/\E1 x y z u/\E2 x y z u:=λx m y n z u i j k=>⟨x,m,y,n,z,u,i,j,k⟩
theorem nM:∀x y z,D0 x y z->D1 x y z->D2 x y z->D3 x y z->D4 x y z->D5 x y z->∃x y z,D0 x y z/\D1 x y z/\D2 x y z/\D3 x y z/\D4 x y z/\D5 x y z:=λx y z m n i j k l=>⟨x,y,z,m,n,i,j,k,l⟩
theorem jf:∀x y z u,E0 x y z u->E1 x y z u->E2 x y z u->E3 x y z u->E4 x y z u->∃x y z u,E0 x y z u/\E1 x y z u/\E2 x y z u/\E3 x y z u/\E4 x y z u:=λx y z u m n i j k=>⟨x,y,z,u,m,n,i,j,k⟩
theorem lP:∀x,B0 x->∀y,C0 x y->∀z u v w p,H0 x y z u v w p->∃x,B0 x/\∃y,C0 x y/\∃z u v w p,H0 x y z u v w p:=λx m y n z u v w p i=>⟨x,m,y,n,z,u,v,w,p,i⟩
theorem lh:∀x y z u,E0 x y z u->E1 x y z u->E2 x y z u->E3 x y z u->E4 x y z u->E5 x y z u->∃x y z u,E0 x y z u/\E1 x y z u/\E2 x y z u/\E3 x y z u/\E4 x y z u/\E5 x y z u:=λx y z u m n i j k l=>⟨x,y,z,u,m,n,i,j,k,l⟩
theorem i12:∀x,B0 x->∀y z u v,F0 x y z u v->F1 x y z u v->F2 x y z u v->F3 x y z u v->F4 x y z u v->∃x,B0 x/\∃y z u v,F0 x y z u v/\F1 x y z u v/\F2 x y z u v/\F3 x y z u v/\F4 x y z u v:=λx m y z u v n i j k l=>⟨x,m,y,z,u,v,n,i,j,k,l⟩
theorem jk:∀x y z u v,F0 x y z u v->F1 x y z u v->F2 x y z u v->F3 x y z u v->F4 x y z u v->F5 x y z u v->∃x y z u v,F0 x y z u v/\F1 x y z u v/\F2 x y z u v/\F3 x y z u v/\F4 x y z u v/\F5 x y z u v:=λx y z u v m n i j k l=>⟨x,y,z,u,v,m,n,i,j,k,l⟩
theorem kK:∀x,B0 x->∀y z u v,F0 x y z u v->F1 x y z u v->F2 x y z u v->∀w,G0 x y z u v w->G1 x y z u v w->∃x,B0 x/\∃y z u v,F0 x y z u v/\F1 x y z u v/\F2 x y z u v/\∃w,G0 x y z u v w/\G1 x y z u v w:=λx m y z u v n i j w k l=>⟨x,m,y,z,u,v,n,i,j,w,k,l⟩
theorem nu:∀x,B0 x->∀y z u v w p q r s,K0 x y z u v w p q r s->∃x,B0 x/\∃y z u v w p q r s,K0 x y z u v w p q r s:=λx m y z u v w p q r s n=>⟨x,m,y,z,u,v,w,p,q,r,s,n⟩
theorem mf:∀x,B0 x->∀y,C0 x y->∀z u v w,G0 x y z u v w->G1 x y z u v w->G2 x y z u v w->G3 x y z u v w->G4 x y z u v w->∃x,B0 x/\∃y,C0 x y/\∃z u v w,G0 x y z u v w/\G1 x y z u v w/\G2 x y z u v w/\G3 x y z u v w/\G4 x y z u v w:=λx m y n z u v w i j k l o=>⟨x,m,y,n,z,u,v,w,i,j,k,l,o⟩
theorem me:∀x,B0 x->∀y z,D0 x y z->D1 x y z->D2 x y z->∀u v,F0 x y z u v->F1 x y z u v->F2 x y z u v->F3 x y z u v->∃x,B0 x/\∃y z,D0 x y z/\D1 x y z/\D2 x y z/\∃u v,F0 x y z u v/\F1 x y z u v/\F2 x y z u v/\F3 x y z u v:=λx m y z n i j u v k l o a=>⟨x,m,y,z,n,i,j,u,v,k,l,o,a⟩
theorem jW:∀x,B0 x->∀y z u v w,G0 x y z u v w->G1 x y z u v w->G2 x y z u v w->G3 x y z u v w->G4 x y z u v w->G5 x y z u v w->∃x,B0 x/\∃y z u v w,G0 x y z u v w/\G1 x y z u v w/\G2 x y z u v w/\G3 x y z u v w/\G4 x y z u v w/\G5 x y z u v w:=λx m y z u v w n i j k l o=>⟨x,m,y,z,u,v,w,n,i,j,k,l,o⟩
theorem mQ:∀x y,C0 x y->C1 x y->C2 x y->∀z u,E0 x y z u->∀v w,G0 x y z u v w->G1 x y z u v w->G2 x y z u v w->∃x y,C0 x y/\C1 x y/\C2 x y/\∃z u,E0 x y z u/\∃v w,G0 x y z u v w/\G1 x y z u v w/\G2 x y z u v w:=λx y m n i z u j v w k l o=>⟨x,y,m,n,i,z,u,j,v,w,k,l,o⟩
theorem mu:∀x,B0 x->∀y,C0 x y->∀z u v w,G0 x y z u v w->G1 x y z u v w->G2 x y z u v w->G3 x y z u v w->G4 x y z u v w->G5 x y z u v w->∃x,B0 x/\∃y,C0 x y/\∃z u v w,G0 x y z u v w/\G1 x y z u v w/\G2 x y z u v w/\G3 x y z u v w/\G4 x y z u v w/\G5 x y z u v w:=λx m y n z u v w i j k l o a=>⟨x,m,y,n,z,u,v,w,i,j,k,l,o,a⟩
theorem jj:∀x,B0 x->∀y z u v,F0 x y z u v->F1 x y z u v->F2 x y z u v->F3 x y z u v->F4 x y z u v->∀w,G0 x y z u v w->G1 x y z u v w->∃x,B0 x/\∃y z u v,F0 x y z u v/\F1 x y z u v/\F2 x y z u v/\F3 x y z u v/\F4 x y z u v/\∃w,G0 x y z u v w/\G1 x y z u v w:=λx m y z u v n i j k l w o a=>⟨x,m,y,z,u,v,n,i,j,k,l,w,o,a⟩
theorem sU:A0->∀x y,C0 x y->∀z u,E0 x y z u->∀v w,G0 x y z u v w->∀p q,I0 x y z u v w p q->I1 x y z u v w p q->I2 x y z u v w p q->A0/\∃x y,C0 x y/\∃z u,E0 x y z u/\∃v w,G0 x y z u v w/\∃p q,I0 x y z u v w p q/\I1 x y z u v w p q/\I2 x y z u v w p q:=λm x y n z u i v w j p q k l o=>⟨m,x,y,n,z,u,i,v,w,j,p,q,k,l,o⟩
theorem lu:∀x y z u v w,G0 x y z u v w->G1 x y z u v w->G2 x y z u v w->G3 x y z u v w->G4 x y z u v w->G5 x y z u v w->G6 x y z u v w->G7 x y z u v w->G8 x y z u v w->∃x y z u v w,G0 x y z u v w/\G1 x y z u v w/\G2 x y z u v w/\G3 x y z u v w/\G4 x y z u v w/\G5 x y z u v w/\G6 x y z u v w/\G7 x y z u v w/\G8 x y z u v w:=λx y z u v w m n i j k l o a b=>⟨x,y,z,u,v,w,m,n,i,j,k,l,o,a,b⟩
theorem oZ(h:∃x,B0 x/\B1 x/\B2 x)(f:∀x,B0 x->B1 x->B2 x->G):G:=by obtain⟨x,m,n,i⟩:=h;exact f x m n i
theorem pE(h:∃x y z,D0 x y z)(f:∀x y z,D0 x y z->G):G:=by obtain⟨x,y,z,m⟩:=h;exact f x y z m
theorem xV(h:A0/\A1/\A2/\A3/\A4)(f:A0->A1->A2->A3->A4->G):G:=by obtain⟨m,n,i,j,k⟩:=h;exact f m n i j k
theorem we(h:∃x y,C0 x y/\C1 x y/\C2 x y)(f:∀x y,C0 x y->C1 x y->C2 x y->G):G:=by obtain⟨x,y,m,n,i⟩:=h;exact f x y m n i
theorem jC(h:∃x y,C0 x y/\C1 x y/\C2 x y/\C3 x y)(f:∀x y,C0 x y->C1 x y->C2 x y->C3 x y->G):G:=by obtain⟨x,y,m,n,i,j⟩:=h;exact f x y m n i j
theorem kF(h:∃x y z u v,F0 x y z u v)(f:∀x y z u v,F0 x y z u v->G):G:=by obtain⟨x,y,z,u,v,m⟩:=h;exact f x y z u v m
theorem iW(h:∃x y z,D0 x y z/\D1 x y z/\D2 x y z/\D3 x y z)(f:∀x y z,D0 x y z->D1 x y z->D2 x y z->D3 x y z->G):G:=by obtain⟨x,y,z,m,n,i,j⟩:=h;exact f x y z m n i j
theorem wc(h:A0/\∃x,B0 x/\∃y,C0 x y/\C1 x y/\∃z,D0 x y z)(f:A0->∀x,B0 x->∀y,C0 x y->C1 x y->∀z,D0 x y z->G):G:=by obtain⟨m,x,n,y,i,j,z,k⟩:=h;exact f m x n y i j z k
theorem oY(h:∃x y,C0 x y/\C1 x y/\∃z u v,F0 x y z u v)(f:∀x y,C0 x y->C1 x y->∀z u v,F0 x y z u v->G):G:=by obtain⟨x,y,m,n,z,u,v,i⟩:=h;exact f x y m n z u v i
theorem jy(h:∃x y z u,E0 x y z u/\E1 x y z u/\E2 x y z u/\E3 x y z u)(f:∀x y z u,E0 x y z u->E1 x y z u->E2 x y z u->E3 x y z u->G):G:=by obtain⟨x,y,z,u,m,n,i,j⟩:=h;exact f x y z u m n i j
theorem mj(h:A0/\A1/\∃x,B0 x/\∃y z u,E0 x y z u/\E1 x y z u)(f:A0->A1->∀x,B0 x->∀y z u,E0 x y z u->E1 x y z u->G):G:=by obtain⟨m,n,x,i,y,z,u,j,k⟩:=h;exact f m n x i y z u j k
theorem lC(h:∃x y z u v w p q r,J0 x y z u v w p q r)(f:∀x y z u v w p q r,J0 x y z u v w p q r->G):G:=by obtain⟨x,y,z,u,v,w,p,q,r,m⟩:=h;exact f x y z u v w p q r m
theorem nN(h:∃x y z u v,F0 x y z u v/\F1 x y z u v/\F2 x y z u v/\F3 x y z u v/\F4 x y z u v/\F5 x y z u v)(f:∀x y z u v,F0 x y z u v->F1 x y z u v->F2 x y z u v->F3 x y z u v->F4 x y z u v->F5 x y z u v->G):G:=by obtain⟨x,y,z,u,v,m,n,i,j,k,l⟩:=h;exact f x y z u v m n i j k l
theorem qa(h:∃x y z u v w,G0 x y z u v w/\G1 x y z u v w/\G2 x y z u v w/\G3 x y z u v w/\G4 x y z u v w)(f:∀x y z u v w,G0 x y z u v w->G1 x y z u v w->G2 x y z u v w->G3 x y z u v w->G4 x y z u v w->G):G:=by obtain⟨x,y,z,u,v,w,m,n,i,j,k⟩:=h;exact f x y z u v w m n i j k
theorem oX(h:∃x y z u v w p q r s t a b c,O0 x y z u v w p q r s t a b c)(f:∀x y z u v w p q r s t a b c,O0 x y z u v w p q r s t a b c->G):G:=by obtain⟨x,y,z,u,v,w,p,q,r,s,t,a,b,c,m⟩:=h;exact f x y z u v w p q r s t a b c m
end
abbrev zW:=PySem.Addr
abbrev zX:=PySem.Value
abbrev zY:=PySem.Shared
abbrev zZ:=PySem.Around
abbrev yA:=PySem.Heap
abbrev yB:=PySem.Program
abbrev yC:=PySem.Expr
abbrev yD:=PySem.World
namespace L2
open PySem PySem.Spec PyProof.Rows
abbrev Key:=Sum Int Str
abbrev _root_.zA:=zX->zY->Prop
abbrev _root_.zB:=List (Str×List Str)
abbrev _root_.zC:=List Str
abbrev _root_.zD:=List (zW×Obj)
abbrev _root_.zE:=Str->Option zX
abbrev _root_.zF:=Array (Option zX)
abbrev _root_.zG:=Array zX
abbrev _root_.zH:=List zX
abbrev _root_.zI:=List Int
abbrev _root_.zL:=List (Str×Int)
abbrev _root_.zN:=Option zX
abbrev _root_.zO:=Option zW
abbrev _root_.zQ:=List zW
abbrev _root_.zR:=Str->Int
abbrev _root_.zS:=FuncData
abbrev _root_.zT:=List yC
abbrev _root_.zU:=List Key
abbrev _root_.zV:=zW->Prop
def rh:Key->zX->Bool|.inl k,v=>Value.isInt k v|.inr x,v=>Value.isStrOf x v
def keyH(w:yD):Key->Int|.inl k=>hashInt k|.inr x=>hashStr w x
theorem pC:∀{k:Key}{v:zX},rh k v=true->(∃i t,k=Sum.inl i/\v=Value.int i t)\/(∃x t,k=Sum.inr x/\v=Value.str x t)|.inl i,v,h=>by obtain⟨t,e⟩:=Value.isInt_shape (k:=i) (v:=v) h;exact .inl (jV i t rfl e)|.inr x,v,h=>by obtain⟨t,e⟩:=Value.isStrOf_shape (x:=x) (v:=v) h;exact .inr (jV x t rfl e)
theorem GM(i:Int)(t:Tok):rh (.inl i) (.int i t)=true:=by simp[rh,Value.isInt]
theorem GF(x:Str)(t:Tok):rh (.inr x) (.str x t)=true:=by simp[rh,Value.isStrOf]
theorem Dh(a b:Int):decide ((Sum.inl a:Key)=Sum.inl b)=(a==b):=by
 by_cases e:a=b
 ·subst e;simp
 ·have h:¬(Sum.inl a:Key)=Sum.inl b:=λq=>e (Sum.inl.inj q);rw[mZ h];exact(qU.mpr e).symm
theorem DS(a b:Str):decide ((Sum.inr a:Key)=Sum.inr b)=decide (a=b):=by
 by_cases e:a=b
 ·subst e;simp
 ·have h:¬(Sum.inr a:Key)=Sum.inr b:=λq=>e (Sum.inr.inj q);rw[mZ h,mZ e]
theorem Dn(a:Int)(b:Str):decide ((Sum.inl a:Key)=Sum.inr b)=false:=mZ (λq=>nomatch q)
theorem C9(a:Str)(b:Int):decide ((Sum.inr a:Key)=Sum.inl b)=false:=mZ (λq=>nomatch q)
def jG(prog:yB)(w:yD):PySem.KeyKind prog w Key where
 is:=rh
 hash:=keyH w
 inj:=λv a b g d=>by
  rcases pC g with ⟨i,t,rfl,rfl⟩|⟨x,t,rfl,rfl⟩
  ·rcases pC d with ⟨j,u,rfl,e⟩|⟨y,u,rfl,e⟩
   ·injection e with e1 _;rw[e1]
   ·exact nomatch e
  ·rcases pC d with ⟨j,u,rfl,e⟩|⟨y,u,rfl,e⟩
   ·exact nomatch e
   ·injection e with e1 _;rw[e1]
 byValue:=λk v h=>by rcases pC h with ⟨i,t,rfl,rfl⟩|⟨x,t,rfl,rfl⟩<;>rfl
 pyHash:=λc h=>by
  rcases pC c with ⟨i,t,rfl,rfl⟩|⟨x,t,rfl,rfl⟩
  ·exact wpAny_pyHash_int h
  ·exact wpAny_pyHash_str h
 eqBool:=λf c h=>by
  rcases pC f with ⟨i,t,rfl,rfl⟩|⟨x,t,rfl,rfl⟩
  ·rcases pC c with ⟨j,u,rfl,rfl⟩|⟨y,u,rfl,rfl⟩
   ·rw[Dh]at h;exact wpAny_eqBool_int h
   ·rw[Dn]at h;exact SeqAt.EqAt.int_str i t y u _ _ _ _ h
  ·rcases pC c with ⟨j,u,rfl,rfl⟩|⟨y,u,rfl,rfl⟩
   ·rw[C9]at h;exact SeqAt.EqAt.str_int x t j u _ _ _ _ h
   ·rw[DS]at h;exact wpAny_eqBool_str h
 «strs»:=λk x t v h=>by
  rcases pC h with ⟨i,u,rfl,e⟩|⟨y,u,rfl,e⟩
  ·exact nomatch e
  ·injection e with e1 _;subst e1;cases v<;>rfl
theorem Jt(prog:yB)(w:yD)(i:Int)(t:Tok):(jG prog w).is (.inl i) (.int i t)=true:=GM i t
theorem IJ(prog:yB)(w:yD)(x:Str)(t:Tok):(jG prog w).is (.inr x) (.str x t)=true:=GF x t
inductive V where
 |non|bl (b:Bool)|int (i:Int)|str (x:Str)|byt (b:Array UInt8)|flt (b:UInt64)|ref (a:zW)|ty (n:String)
 deriving DecidableEq
abbrev _root_.zJ:=List (Key×V)
abbrev _root_.zK:=List (Str×V)
abbrev _root_.zM:=List V
abbrev _root_.zP:=Option V
def A2q:V->zX->Prop|.non,u=>u=Value.none|.bl b,u=>u=Value.bool b|.int i,u=>∃t,u=Value.int i t|.str x,u=>∃t,u=Value.str x t|.byt b,u=>∃t,u=Value.bytes b t|.flt b,u=>∃t,u=Value.float b t|.ref a,u=>u=Value.ref a|.ty n,u=>u=Value.type n
abbrev A2d:zM->List zX->Prop:=Paired A2q
theorem A2d.length{xs:zM}{us:zH}(r:A2d xs us):xs.length=us.length:=Paired.length r
theorem A2d.get:∀{xs:zM}{us:zH}{i:Nat}{x:V},A2d xs us->xs[i]?=some x->∃u,us[i]?=some u/\A2q x u|_,_,_,_,.nil,e=>by simp at e|_,_,0,_,.cons r _,e=>by simp at e;subst e;exact ah _ rfl r|_,_,i+1,x,.cons _ t,e=>by obtain⟨u,a,b⟩:=A2d.get (i:=i) (x:=x) t (by simpa using e);exact ah u (by simpa using a) b
theorem A2d.set{x:V}{u:zX}(r:A2q x u):∀{xs:zM}{us:zH}(i:Nat),A2d xs us->A2d (xs.set i x) (us.set i u)|_,_,_,.nil=>.nil|_,_,0,.cons _ t=>.cons r t|_,_,i+1,.cons q t=>.cons q (A2d.set r i t)
theorem A2d.append:∀{xs ys:zM}{us a:zH},A2d xs us->A2d ys a->A2d (xs++ys) (us++a)|_,_,_,_,.nil,s=>s|_,_,_,_,.cons r t,s=>.cons r (A2d.append t s)
theorem A2d.take:∀{xs:zM}{us:zH}(n:Nat),A2d xs us->A2d (xs.take n) (us.take n)|_,_,0,_=>.nil|_,_,_+1,.nil=>.nil|_,_,n+1,.cons r t=>.cons r (A2d.take n t)
theorem A2d.drop:∀{xs:zM}{us:zH}(n:Nat),A2d xs us->A2d (xs.drop n) (us.drop n)|_,_,0,r=>r|_,_,_+1,.nil=>.nil|_,_,n+1,.cons _ t=>A2d.drop n t
def B3y:zP->Option zX->Prop|some v,some u=>A2q v u|none,none=>True|_,_=>False
def KV{κ:Type}:List (κ×V)->List (κ×zX)->Prop:=Paired λ(p:κ×V)(q:κ×zX)=>p.1=q.1/\A2q p.2 q.2
def kV:Key->V|.inl i=>.int i|.inr x=>.str x
inductive HO where|lst (xs:zM)|tup (xs:zM)|dK (kvs:zJ)|dT (kvs:List (List Key×V))|set (S:Int->Bool) (n:Nat)|ins (C dx:zW) (fs:zK)|own (x:zW)|xd (fs:zK)|met (f x:zW)|rng (lo hi:Int)|frz (o:Obj) (u:HO)|tbl (ps:zG)|ext (φ:yA->Prop)
abbrev Hp:=zW->Option HO
def upd(H:Hp)(a:zW)(o:HO):Hp:=λb=>if b=a then some o else H b
theorem dh{H:Hp}{a:zW}{o:HO}:upd H a o a=some o:=by unfold upd;rw[ia rfl]
theorem dV{H:Hp}{a b:zW}{o:HO}(h:b≠a):upd H a o b=H b:=by unfold upd;rw[fy h]
theorem rz{H:Hp}{a:zW}{o u:HO}:upd (upd H a o) a u=upd H a u:=by funext b;unfold upd;split<;>rfl
theorem ir{H:Hp}{a b:zW}{o u:HO}(h:H a=some o)(h':H b=some u)(d:o≠u):a≠b:=by intro e;subst e;rw[h]at h';exact d (lI h')
theorem ik{H:Hp}{a b:zW}{o:HO}(h:H a=some o)(h':H b=none):a≠b:=by intro e;subst e;rw[h]at h';cases h'
section
variable(P:yB)(w:yD)
def A1s(H:Hp)(h:yA)(a:zW):HO->Prop
 |.lst c=>c.length<=sizeLine/\∃(b:zH)(n:Nat),A2d c b/\h.get? a=some {cls:=.type "list",data:=.seq b.toArray n}
 |.tup c=>c.length<=sizeLine/\∃b:zH,A2d c b/\IsTup h a b.toArray
 |.dK kvs=>kvs.length<=sizeLine/\(a==sysModules)=false/\∃e,KV kvs e/\h.DictOf (jG P w) a e
 |.dT kvs=>kvs.length<=sizeLine/\(a==sysModules)=false/\∃c:List (List Key×zW×zX),
   Paired (λ(p:List Key×V)(q:List Key×zW×zX)=>p.1=q.1/\H q.2.1=some (.tup (p.1.map kV))/\A2q p.2 q.2.2) kvs c/\
   ∃o i k,h.get? a=some o/\o.ExactDict/\o.data=.dict i k/\i.toList=c.map (entryOfKey (tupleKind (jG P w)))/\(c.map (·.1)).Nodup
 |.set S n=>h.SetOf (intKind P w) a S n
 |.ins C dx fs=>H dx=some (.own a)/\fs.length<=1000/\dx≠a/\h.get? a=some (instObj C dx)/\
   ∃d,h.Ns1 dx d/\(∀f,B3y (fs.lookup f) (d f))/\PySem.Within d (fs.map (·.1))
 |.own _=>∃o,h.get? a=some o
 |.xd fs=>∃d,h.Ns1 a d/\∀f,B3y (fs.lookup f) (d f)
 |.rng lo hi=>∃t u v,h.get? a=some {cls:=.type "range",data:=.fields #[.int lo t,.int hi u,.int 1 v]}
 |.frz o u=>h.get? a=some o/\A1s H h a u
 |.tbl ps=>h.get? a=some {cls:=.none,data:=.fields ps}
 |.met f x=>h.get? a=some (PySem.W.methodObj (.ref f) (.ref x))
 |.ext φ=>φ h/\(∃o,h.get? a=some o)/\∀j g:yA,φ j->(∀o,j.get? a=some o->g.get? a=some o)->φ g
def HOk(H:Hp)(h:yA):Prop:=∀a o,H a=some o->A1s P w H h a o
end
section
variable{P:yB}{w:yD}{H H':Hp}{h h':yA}{a:zW}{o:HO}
theorem A1s.lt(x:A1s P w H h a o):a<h.objs.size:=by
 cases o with
 |lst xs=>obtain⟨_,_,_,_,e⟩:=x;exact iI e
 |tup xs=>obtain⟨_,_,_,p⟩:=x;exact p.lt
 |dK kvs=>(refine mj x λ_ _ _ _ o _ _ e _=>?_;clear x);exact iI e
 |dT kvs=>(refine mj x λ_ _ _ _ o _ _ e _=>?_;clear x);exact iI e
 |set S n=>obtain⟨o,_,_,_,e,_⟩:=x;exact iI e
 |ins C dx fs=>obtain⟨_,_,_,e,_⟩:=x;exact iI e
 |own y=>obtain⟨_,e⟩:=x;exact iI e
 |xd fs=>obtain⟨_,⟨_,_,_,e,_⟩,_⟩:=x;exact iI e
 |rng lo hi=>obtain⟨_,_,_,e⟩:=x;exact iI e
 |frz ob u=>obtain⟨e,_⟩:=x;exact iI e
 |tbl ps=>exact iI (show h.get? a=some _ from x)
 |met f y=>exact iI (show h.get? a=some _ from x)
 |ext φ=>obtain⟨_,⟨_,e⟩,_⟩:=x;exact iI e
theorem Paired.mapP{α β:Type}{F G:α->β->Prop}:∀{d:List α}{c:List β},Paired F d c->(∀a b,F a b->G a b)->Paired G d c|_,_,.nil,_=>.nil|_,_,.cons r t,f=>.cons (f _ _ r) (Paired.mapP t f)
theorem A1s.stay(x:A1s P w H h a o)(k:∀b u,(b=a\/H b=some (.own a))->h.get? b=some u->h'.get? b=some u)
  (G:∀b,H b=some (.own a)->H' b=some (.own a)) (F:∀b xs,H b=some (.tup xs)->H' b=some (.tup xs)):A1s P w H' h' a o:=by
 induction o with
 |lst xs=>obtain⟨z,l,n,r,e⟩:=x;exact mw z l n r (k _ _ (.inl rfl) e)
 |tup xs=>obtain⟨z,l,r,g,e,c⟩:=x;exact⟨z,(jB l r g (k _ _ (.inl rfl) e) c)⟩
 |dK kvs=>(refine mj x λz y B r g j i e c=>?_;clear x);exact kE z y B r (ku g j i (k _ _ (.inl rfl) e) c)
 |dT kvs=>refine mj x λz y xs r g j i e c=>?_;clear x;exact kE z y xs (Paired.mapP r λp q z=>(hQ z.1 (F _ _ z.2.1) z.2.2)) (ku g j i (k _ _ (.inl rfl) e) c)
 |set S n=>obtain⟨g,j,i,t,e,c⟩:=x;exact⟨g,(ku j i t (k _ _ (.inl rfl) e) c)⟩
 |ins C dx fs=>refine xV x ?_;clear x;rintro d z D e ⟨s,⟨m,j,i,I,c⟩,r⟩;exact hQ (G _ d) z (kE D (k _ _ (.inl rfl) e) s (ku m j i (k _ _ (.inr d) I) c) r)
 |own y=>obtain⟨g,e⟩:=x;exact⟨g,k _ _ (.inl rfl) e⟩
 |xd fs=>obtain⟨s,⟨m,j,i,e,c⟩,r⟩:=x;exact ah s (ku m j i (k _ _ (.inl rfl) e) c) r
 |rng lo hi=>obtain⟨t,u,v,e⟩:=x;exact lj t u v (k _ _ (.inl rfl) e)
 |frz g u ih=>obtain⟨e,q⟩:=x;exact⟨k _ _ (.inl rfl) e,ih q⟩
 |tbl ps=>have e:h.get? a=some {cls:=.none,data:=.fields ps}:=x;show h'.get? a=some {cls:=.none,data:=.fields ps};exact k a _ (.inl rfl) e
 |met f y=>have e:h.get? a=some (PySem.W.methodObj (.ref f) (.ref y)):=x;show h'.get? a=some (PySem.W.methodObj (.ref f) (.ref y));exact k a _ (.inl rfl) e
 |ext φ=>obtain⟨p,⟨o,e⟩,A⟩:=x;exact hQ (A _ _ p λo q=>k _ _ (.inl rfl) q) ⟨o,k _ _ (.inl rfl) e⟩ A
theorem HOk.lt(x:HOk P w H h)(e:H a=some o):a<h.objs.size:=(x a o e).lt
theorem HOk.fresh(x:HOk P w H h)(e:h.objs.size<=a):H a=none:=by
 cases q:H a with
 |none=>rfl
 |some u=>exact absurd (mC (x.lt q) e) (Nat.lt_irrefl _)
theorem HOk.kept(x:HOk P w H h)(k:∀b u,h.get? b=some u->h'.get? b=some u):HOk P w H h':=λa o e=>(x a o e).stay (λb u _ q=>k b u q) (λ_ q=>q) λ_ _ q=>q
theorem HOk.laid(x:HOk P w H h)(k:∀b u,h.get? b=some u->h'.get? b=some u)(g:h.objs.size<=a)(d:A1s P w (upd H a o) h' a o):HOk P w (upd H a o) h':=λb u e=>by
 have f:=x.fresh g;by_cases hb:b=a
 ·subst hb;rw[dh]at e;cases e;exact d
 ·rw[dV hb]at e;exact(x b u e).stay (λc v _ q=>k c v q) (λc q=>by rw[dV (ik q f)];exact q) λc i q=>by rw[dV (ik q f)];exact q
end
def Rd(H:Hp)(a:zW)(u:HO):Prop:=H a=some u\/∃o,H a=some (.frz o u)
theorem Rd.ok{P:yB}{w:yD}{H:Hp}{h:yA}{a:zW}{u:HO}(r:Rd H a u)(x:HOk P w H h):A1s P w H h a u:=by
 rcases r with r|⟨o,r⟩
 ·exact x a u r
 ·obtain⟨_,q⟩:=x a _ r;exact q
def Mut:Option HO->Prop|some (.lst _)=>True|some (.dK _)=>True|some (.dT _)=>True|some (.set _ _)=>True|some (.ins _ _ _)=>True|some (.ext _)=>True|_=>False
section
variable{P:yB}{w:yD}{H:Hp}{h h':yA}{x e:zW}{o':HO}
theorem HOk.write(p:HOk P w H h)(i:Mut (H x))(n:e=x\/H e=some (.own x))(k:∀b u,b≠e->h.get? b=some u->h'.get? b=some u)(l:∃u,h'.get? e=some u)
  (j:A1s P w (upd H x o') h' x o'):HOk P w (upd H x o') h':=λb u q=>by
 have a:∀c y,H c=some (.own y)->c≠x:=λc y r z=>by subst z;rw[r]at i;exact i
 have d:∀c f,H c=some (.tup f)->c≠x:=λc f r z=>by subst z;rw[r]at i;exact i
 by_cases hb:b=x
 ·subst hb;rw[dh]at q;cases q;exact j
 ·rw[dV hb]at q;by_cases hbe:b=e
  ·have m:H b=some (.own x):=by
    rcases n with z|z
    ·exact absurd (hbe.trans z) hb
    ·rw[hbe];exact z
   rw[q]at m;cases m;obtain⟨v,o⟩:=l;exact⟨v,by rw[hbe];exact o⟩
  ·refine(p b u q).stay (λc v g r=>k c v ?_ r) (λc r=>by rw[dV (a c b r)];exact r) λc f r=>by rw[dV (d c f r)];exact r
   rcases g with rfl|g
   ·exact hbe
   ·rintro rfl;rcases n with z|z
    ·exact a c b g z
    ·rw[g]at z;cases z;exact hb rfl
end
structure Un(fs ex:zQ)(H H':Hp)(h h':yA):Prop where
 keep:∀b o,h.get? b=some o->H b=none->b∉fs->b∉ex->h'.get? b=some o
 slot:∀b o,h.get? b=some o->H b=none->b∈fs->b∉ex->∃sl,h'.get? b=some {o with slots:=sl}
 free:∀b o,h.get? b=some o->H b=none->b∉ex->H' b=none
 there:∀b o,h.get? b=some o->b∉ex->∃o',h'.get? b=some o'
 tups:∀b xs,H b=some (.tup xs)->H' b=some (.tup xs)
 frzs:∀b o u,H b=some (.frz o u)->H' b=some (.frz o u)
 tbls:∀b ps,H b=some (.tbl ps)->∃more,H' b=some (.tbl (ps++more))
section
variable{fs fs' ex ex':zQ}{H H1 H2:Hp}{h h1 h2 h':yA}{a x e:zW}{o:HO}
theorem Un.any(u:Un fs ex H H1 h h1){b:zW}{a:Obj}(q:h.get? b=some a)(n:H b=none)(c:b∉ex):∃sl,h1.get? b=some {a with slots:=sl}:=by
 by_cases hb:b∈fs
 ·exact u.slot b a q n hb c
 ·exact⟨a.slots,u.keep b a q n hb c⟩
theorem Un.kept(k:∀b u,h.get? b=some u->h'.get? b=some u):Un fs ex H H h h' :=⟨λb a q _ _ _=>k b a q,λb a q _ _ _=>⟨a.slots,k b a q⟩,λ_ _ _ n _=>n,λb a q _=>⟨a,k b a q⟩,λ_ _ q=>q,λ_ _ _ q=>q,λ_ c q=>⟨#[],by rw[q];simp⟩⟩
theorem Un.refl:Un fs ex H H h h:=Un.kept λ_ _ q=>q
theorem Un.laid(k:∀b u,h.get? b=some u->h'.get? b=some u)(e:h.objs.size<=a)(c:H a=none):Un fs ex H (upd H a o) h h' where
 keep:=λb u q _ _ _=>k b u q
 slot:=λb u q _ _ _=>⟨u.slots,k b u q⟩
 free:=λb u q n _=>by rw[dV (jJ (mC (iI q) e))];exact n
 there:=λb u q _=>⟨u,k b u q⟩
 tups:=λb d q=>by rw[dV (ik q c)];exact q
 frzs:=λb u d q=>by rw[dV (ik q c)];exact q
 tbls:=λb f q=>⟨#[],by rw[dV (ik q c),q];simp⟩
theorem Un.write(a:Mut (H x))(l:e=x\/H e=some (.own x))(k:∀b u,b≠e->h.get? b=some u->h'.get? b=some u)(d:∃u,h'.get? e=some u):Un fs ex H (upd H x o) h h':=by
 have g:∀b,H b=none->b≠x:=λb n z=>by subst z;rw[n]at a;exact a
 have f:∀b,H b=none->b≠e:=λb n z=>by
  subst z;rcases l with r|r
  ·exact g b n r
  ·rw[n]at r;cases r
 have c:∀b u,H b=some u->¬Mut (some u)->b≠x:=λb u q i z=>by subst z;rw[q]at a;exact i a
 refine⟨λb u q n _ _=>k b u (f b n) q,λb u q n _ _=>⟨u.slots,k b u (f b n) q⟩,λb u q n _=>by rw[dV (g b n)];exact n,λb u q _=>?_,
  λb j q=>by rw[dV (c b _ q λz=>z)];exact q,λb u j q=>by rw[dV (c b _ q λz=>z)];exact q,λb m q=>⟨#[],by rw[dV (c b _ q λz=>z),q];simp⟩⟩
 by_cases hbe:b=e
 ·subst hbe;exact d
 ·exact⟨u,k b u hbe q⟩
end
def trk(h:yA)(H:Hp):zQ:=(List.range h.objs.size).filter λa=>(H a).isSome
def pI(h:yA)(H:Hp):yA:=hideAll h (trk h H)
theorem Hw(h:yA)(H:Hp):(pI h H).objs.size=h.objs.size:=PySem.W.hideAll_size _ _
theorem Fh{h:yA}{H:Hp}{b:zW}{o:Obj}(e:h.get? b=some o)(n:H b=none):(pI h H).get? b=some o :=PySem.W.hideAll_get _ e λa=>by have q:(H b).isSome=true:=(List.mem_filter.mp a).2;rw[n]at q;simp at q
theorem EU{h:yA}{H:Hp}{b:zW}{o:Obj}(e:(pI h H).get? b=some o):h.get? b=some o/\H b=none:=by
 have a:h.get? b=some o:=PySem.W.of_hideAll (trk h H) e;refine⟨a,?_⟩
 cases q:H b with
 |none=>rfl
 |some x=>have c:b∈trk h H:=List.mem_filter.mpr ⟨List.mem_range.mpr (iI a),by simp[q]⟩;have z:(pI h H).get? b=none:=PySem.W.hideAll_none (trk h H) c;rw[z]at e;cases e
structure Mod(K:Frag)(mg:zE)(base:yA):Prop where
 kin:K.In base
 glob:base.Ns mainGlobals mg
 blt:∃mb,base.Ns builtinsNs mb/\∀x:Str,x≠"__name__"->mb x=bootBuiltins x
 nolimit:base.NoLimit
structure Cx where
 prog:yB
 w:yD
 K:Frag
 mg:Str->Option zX
 base:yA
 A:zZ
 N:zC
 s₀:zY
 H₀:Hp
 env:Env
 outer:List Env
 stack:List Env
 ex:zQ
 fn:Str->Bool
 calm:Bool
 pn:zD
 xe:zX->zY->Prop
def frs(l:List Env):zQ:=l.filterMap (·.frame)
abbrev Cx.fs(X:Cx):zQ:=frs X.outer
def Vis(a:Scope)(x:Str):Prop:=a.names.lookup x=some .local\/a.names.lookup x=some .cell\/a.names.lookup x=some .free
def Loc(a:Scope)(x:Str):Prop:=a.names.lookup x=some .local\/a.names.lookup x=some .cell
def Look(a:Env)(h:yA)(m:zE)(x:Str)(u:zX):Prop :=(a.kindOf x=some .local/\m x=some u)\/((a.kindOf x=some .cell\/a.kindOf x=some .free)/\∃c,a.cells.lookup x=some c/\h.IsCell c (some u))
structure Cx.Ok(X:Cx):Prop where
 mod:Mod X.K X.mg X.base
 kind:X.env.scope.kind=.function
 glob:X.env.globals=mainGlobals
 blt:X.env.builtins=builtinsNs
 above:X.s₀.heap.objs.size<=X.env.locals
 inj:∀x y c,X.env.cells.lookup x=some c->X.env.cells.lookup y=some c->x=y
 has:∀x,(X.env.kindOf x=some .cell\/X.env.kindOf x=some .free)->∃c,X.env.cells.lookup x=some c
 cab:∀x c,X.fn x=true->X.env.cells.lookup x=some c->X.s₀.heap.objs.size<=c
 hd:X.calm=true->X.A.handled=none
 frames:X.A.frames=some X.stack
 stk:X.stack=X.outer\/(X.stack=X.env::X.outer/\X.env.frame=some X.env.locals)
 exf:∀b∈X.ex,b≠X.env.locals/\∀x c,X.env.cells.lookup x=some c->c≠b
 bs:∀b o,X.base.get? b=some o->X.s₀.heap.get? b=some o/\X.H₀ b=none
 bsz:X.base.objs.size<=X.s₀.heap.objs.size
 noex:∀b o,X.base.get? b=some o->b∉X.ex
 exfs:∀b∈X.ex,b∉X.fs
 funs:X.s₀.heap.FunFrames X.base X.outer
 frf:∀b∈X.fs,X.H₀ b=none
structure Inv(X:Cx)(pins:zD)(Z:List zP)(H:Hp)(s:zY):Prop where
 ok:X.Ok
 os:s.os=X.s₀.os
 bare:AllBare s.gens
 base:Un X.fs X.ex X.H₀ H X.s₀.heap s.heap
 loc:∃m,s.heap.Ns X.env.locals m/\∀(i:Nat)(x:Str)(v:V),X.N[i]?=some x->Z[i]?=some (some v)->Vis X.env.scope x->∃u,A2q v u/\Look X.env s.heap m x u
 cell:∀x c,X.env.cells.lookup x=some c->∃v,s.heap.IsCell c v
 free:H X.env.locals=none
 freeC:∀x c,X.env.cells.lookup x=some c->H c=none
 pin:∀p∈X.pn++pins,s.heap.get? p.1=some p.2/\H p.1=none/\p.1≠X.env.locals/\p.1∉X.fs/\∀v,p.2.data≠.cell v
 hok:HOk X.prog X.w H s.heap
 len:Z.length=X.N.length
section
variable{X:Cx}{pins:zD}{Z:List zP}{H H':Hp}{s:zY}{h':yA}
theorem Cx.Ok.nofr(a:X.Ok){b:zW}{o:Obj}(e:X.base.get? b=some o):b∉X.fs:=λc=>by have:=(a.funs.mem c).1;rw[e]at this;cases this
theorem Inv.bs(I:Inv X pins Z H s):∀b o,X.base.get? b=some o->s.heap.get? b=some o/\H b=none:=λb o e=>⟨I.base.keep b o (I.ok.bs b o e).1 (I.ok.bs b o e).2 (I.ok.nofr e) (I.ok.noex b o e),I.base.free b o (I.ok.bs b o e).1 (I.ok.bs b o e).2 (I.ok.noex b o e)⟩
theorem Inv.bk(I:Inv X pins Z H s):∀b o,X.base.get? b=some o->s.heap.get? b=some o:=λb o e=>(I.bs b o e).1
theorem Inv.mod(I:Inv X pins Z H s):Mod X.K X.mg X.base:=I.ok.mod
theorem Inv.kIn(I:Inv X pins Z H s):X.K.In s.heap:=I.ok.mod.kin.keeps I.bk
theorem Inv.lt(I:Inv X pins Z H s):X.env.locals<s.heap.objs.size:=let⟨_,hn,_⟩:=I.loc;hn.lt
theorem Inv.sz(I:Inv X pins Z H s):X.s₀.heap.objs.size<=s.heap.objs.size:=nO I.ok.above (Nat.le_of_lt I.lt)
theorem Inv.nofs(I:Inv X pins Z H s){a:zW}(h:s.heap.objs.size<=a):a∉X.fs:=λc=>by obtain⟨_,o,b,_⟩:=I.ok.funs.mem c;exact absurd (mC (iI b) (nO I.sz h)) (Nat.lt_irrefl _)
theorem Inv.cne(I:Inv X pins Z H s):∀x c,X.env.cells.lookup x=some c->c≠X.env.locals:=λx c e z=>by obtain⟨v,o,d,f⟩:=I.cell x c e;obtain⟨m,⟨h,g,i,a,b,_⟩,_⟩:=I.loc;rw[z,a]at d;cases d;rw[b]at f;cases f
theorem Inv.funs(I:Inv X pins Z H s):s.heap.FunFrames X.base X.outer:=by
 have f:∀(l:List Env),(∀b∈frs l,b∈X.fs)->X.s₀.heap.FunFrames X.base l->s.heap.FunFrames X.base l:=by
  intro l
  induction l with
  |nil=>intro _ _;trivial
  |cons env r ih=>intro g i;obtain⟨j,⟨L,o,d,h,k,n⟩,m⟩:=i;have c:L∈X.fs:=g L (by unfold frs;rw[List.filterMap_cons,d];exact sZ);obtain⟨p,e⟩:=I.base.slot L o k (I.ok.frf L c) c λz=>I.ok.exfs L z c;exact hQ j (iO L _ d h e n) (ih (λb a=>g b (by unfold frs;rw[List.filterMap_cons,d];exact qh _ a)) m)
 exact f X.outer (λ_ a=>a) I.ok.funs
theorem Inv.stack(I:Inv X pins Z H s):s.heap.FunFrames X.base X.stack:=by
 rcases I.ok.stk with e|⟨e,b⟩
 ·rw[e];exact I.funs
 ·rw[e];obtain⟨m,a,_⟩:=I.loc;refine .cons (by rw[I.ok.kind];decide) b a ?_ I.funs;exact Heap.get?_none_of_le (nO I.ok.bsz I.ok.above)
theorem Inv.stkSub(I:Inv X pins Z H s):∀b∈frs X.stack,b∈X.env.locals::X.fs:=λb a=>by
 rcases I.ok.stk with e|⟨e,c⟩
 ·rw[e]at a;exact qh _ a
 ·rw[e]at a;unfold frs at a;rw[List.filterMap_cons,c]at a;exact a
theorem Inv.stkFree(I:Inv X pins Z H s):∀b∈frs X.stack,H b=none:=λb a=>by
 rcases jt.mp (I.stkSub b a)with e|a
 ·rw[e];exact I.free
 ·obtain⟨_,o,c,_⟩:=I.ok.funs.mem a;exact I.base.free b o c (I.ok.frf b a) λz=>I.ok.exfs b z a
theorem Inv.step{g':Array GenState}{t':Nat}{d':Drawn}{ch:zQ}(I:Inv X pins Z H s)
  (g:∀b∈ch,(b∈X.ex\/X.s₀.heap.objs.size<=b)/\b≠X.env.locals/\(∀x c,X.env.cells.lookup x=some c->c≠b)/\∀p∈X.pn++pins,p.1≠b)
  (j:∀b o,b≠X.env.locals->b∉X.fs->b∉ch->s.heap.get? b=some o->H b=none->h'.get? b=some o)
  (B:∀b o,b≠X.env.locals->b∈X.fs->b∉ch->s.heap.get? b=some o->H b=none->∃sl,h'.get? b=some {o with slots:=sl}) (f:∀b o,b∉ch->s.heap.get? b=some o->H b=none->H' b=none)
  (D:∀b o,b∉ch->s.heap.get? b=some o->∃o',h'.get? b=some o')
  (N:∀b xs,H b=some (.tup xs)->H' b=some (.tup xs)) (M:∀b o u,H b=some (.frz o u)->H' b=some (.frz o u)) (K:∀b ps,H b=some (.tbl ps)->∃G,H' b=some (.tbl (ps++G)))
  (W:∀m,s.heap.Ns X.env.locals m->h'.Ns X.env.locals m) (O:HOk X.prog X.w H' h') (hg:AllBare g'):
  Inv X pins Z H' {s with heap:=h',gens:=g',drawn:=d',toks:=t'}:=by
 have L:∀b o,X.s₀.heap.get? b=some o->b≠X.env.locals:=λb o e=>jJ (mC (iI e) I.ok.above)
 have y:∀b o,X.s₀.heap.get? b=some o->b∉X.ex->b∉ch:=λb o e a C=>by
  rcases(g b C).1 with z|z
  ·exact a z
  ·exact absurd (mC (iI e) z) (Nat.lt_irrefl _)
 have t:∀x c,X.env.cells.lookup x=some c->∀v,s.heap.IsCell c v->h'.IsCell c v:=λx c e v ⟨o,F,P⟩=>by
  have h:c∉ch:=λz=>(g c z).2.2.1 x c e rfl;by_cases hc:c∈X.fs
  ·obtain⟨sl,q⟩:=B c o (I.cne x c e) hc h F (I.freeC x c e);exact ah _ q P
  ·exact ah o (j c o (I.cne x c e) hc h F (I.freeC x c e)) P
 refine⟨I.ok,I.os,hg,⟨λb o e n C a=>?_,λb o e n C a=>?_,λb o e n a=>?_,λb o e a=>?_,λb xs e=>N b xs (I.base.tups b xs e),λb o xs e=>M b o xs (I.base.frzs b o xs e),λb ps e=>?_⟩,?_,λx c e=>?_,?_,λx c e=>?_,λp T=>?_,O,I.len⟩
 ·exact j b o (L b o e) C (y b o e a) (I.base.keep b o e n C a) (I.base.free b o e n a)
 ·obtain⟨sl,A⟩:=I.base.slot b o e n C a;obtain⟨Q,J⟩:=B b _ (L b o e) C (y b o e a) A (I.base.free b o e n a);exact⟨Q,J⟩
 ·obtain⟨o',A⟩:=I.base.there b o e a;exact f b o' (y b o e a) A (I.base.free b o e n a)
 ·obtain⟨o',A⟩:=I.base.there b o e a;exact D b o' (y b o e a) A
 ·obtain⟨Y,A⟩:=I.base.tbls b ps e;obtain⟨m2,J⟩:=K b _ A;exact⟨Y++m2,by rw[J,Array.append_assoc]⟩
 ·obtain⟨m,E,U⟩:=I.loc;refine ah m (W m E) λi x v A J e3=>?_;obtain⟨u,r,l⟩:=U i x v A J e3;refine ah u r ?_;rcases l with l|⟨k,c,e,z⟩
  ·exact .inl l
  ·exact .inr (iV k c e (t x c e _ z))
 ·obtain⟨v,z⟩:=I.cell x c e;exact⟨v,t x c e v z⟩
 ·obtain⟨m,⟨o,_,_,F,_⟩,_⟩:=I.loc;exact f _ o (λz=>(g _ z).2.1 rfl) F I.free
 ·obtain⟨v,o,F,P⟩:=I.cell x c e;exact f c o (λz=>(g c z).2.2.1 x c e rfl) F (I.freeC x c e)
 ·obtain⟨e,n,R,S,d⟩:=I.pin p T;have h:p.1∉ch:=λz=>(g p.1 z).2.2.2 p T rfl;exact jH (j p.1 p.2 R S h e n) (f p.1 p.2 h e n) R S d
theorem Inv.un{t':Nat}(I:Inv X pins Z H s)(u:Un X.fs [] H H' s.heap h')(f:HOk X.prog X.w H' h'):Inv X pins Z H' {s with heap:=h',toks:=t'}:=by
 obtain⟨m,⟨o,q,p,h,r⟩,_⟩:=id I.loc;obtain⟨l,i⟩:=u.any h I.free (by simp)
 exact I.step (g':=s.gens) (d':=s.drawn) (ch:=[]) (λ_ z=>nomatch z) (λb o _ d _ e n=>u.keep b o e n d (by simp)) (λb o _ d _ e n=>u.slot b o e n d (by simp)) (λb o _ e n=>u.free b o e n (by simp)) (λb o _ e=>u.there b o e (by simp)) u.tups u.frzs u.tbls (λv k=>by
  obtain⟨t,c,g,a,j⟩:=k;rw[h]at a;cases a
  exact ku _ c g i j) f I.bare
theorem Inv.call{g':Array GenState}{t':Nat}{d':Drawn}{ch:zQ}(I:Inv X pins Z H s)(u:Un (frs X.stack) ch H H' s.heap h')(i:HOk X.prog X.w H' h')(l:AllBare g')
  (f:∀b∈ch,(b∈X.ex\/X.s₀.heap.objs.size<=b)/\b≠X.env.locals/\(∀x c,X.env.cells.lookup x=some c->c≠b)/\∀p∈X.pn++pins,p.1≠b):
  Inv X pins Z H' {s with heap:=h',gens:=g',drawn:=d',toks:=t'}:=by
 obtain⟨m,⟨o,B,A,k,r⟩,_⟩:=id I.loc;obtain⟨y,h⟩:=u.any k I.free λz=>(f _ z).2.1 rfl
 exact I.step (ch:=ch) f (λb o h q a e n=>u.keep b o e n (λz=>(jt.mp (I.stkSub b z)).elim h q) a) (λb o _ _ a e n=>u.any e n a) (λb o a e n=>u.free b o e n a) (λb o a e=>u.there b o e a) u.tups u.frzs u.tbls (λD v=>by
  obtain⟨C,g,j,d,t⟩:=v;rw[k]at d;cases d
  exact ku _ g j h t) i l
theorem Inv.turned{t':Nat}{it:zW}(I:Inv X pins Z H s)(k:∀b o,b≠it->s.heap.get? b=some o->h'.get? b=some o)(g:H it=none)(f:it≠X.env.locals)
  (h1:it∈X.ex\/X.s₀.heap.objs.size<=it) (h2:∀x c,X.env.cells.lookup x=some c->c≠it) (t:∀p∈X.pn++pins,p.1≠it):Inv X pins Z H {s with heap:=h',toks:=t'}:=by
 have d:∀b u,H b=some u->b≠it:=λb u e z=>by rw[z,g]at e;cases e
 refine I.step (g':=s.gens) (d':=s.drawn) (ch:=[it]) (λb h=>?_) (λb o _ _ a e _=>k b o (λz=>a (by simp[z])) e) (λb o _ _ a e _=>⟨o.slots,k b o (λz=>a (by simp[z])) e⟩) (λ_ _ _ _ n=>n)
  (λb o a e=>⟨o,k b o (λz=>a (by simp[z])) e⟩) (λ_ _ e=>e) (λ_ _ _ e=>e) (λb y e=>⟨#[],by rw[e];simp⟩) (λm l=>?_) (λb u e=>?_) I.bare
 ·have e:b=it:=by simpa using h
  subst e;exact jO h1 f h2 t
 ·obtain⟨o,j,i,w,r⟩:=l;exact ku o j i (k _ o (Ne.symm f) w) r
 ·refine(I.hok b u e).stay (λc v a q=>k c v ?_ q) (λ_ q=>q) λ_ _ q=>q;rcases a with z|z
  ·rw[z];exact d b u e
  ·exact d c _ z
theorem Inv.tok(I:Inv X pins Z H s)(t:Nat):Inv X pins Z H {s with toks:=t}:=I.un (h':=s.heap) (t':=t) Un.refl I.hok
theorem Inv.kept{t':Nat}(I:Inv X pins Z H s)(k:∀b u,s.heap.get? b=some u->h'.get? b=some u):Inv X pins Z H {s with heap:=h',toks:=t'}:=I.un (Un.kept k) (I.hok.kept k)
theorem Inv.laid{a:zW}{o:HO}{t':Nat}(I:Inv X pins Z H s)(k:∀b u,s.heap.get? b=some u->h'.get? b=some u)(d:s.heap.objs.size<=a)(c:A1s X.prog X.w (upd H a o) h' a o):
  Inv X pins Z (upd H a o) {s with heap:=h',toks:=t'}:=I.un (Un.laid k d (I.hok.fresh d)) (I.hok.laid k d c)
theorem Inv.write{x e:zW}{o:HO}{t':Nat}(I:Inv X pins Z H s)(d:Mut (H x))(f:e=x\/H e=some (.own x))(k:∀b u,b≠e->s.heap.get? b=some u->h'.get? b=some u)(a:∃u,h'.get? e=some u)
  (c:A1s X.prog X.w (upd H x o) h' x o):Inv X pins Z (upd H x o) {s with heap:=h',toks:=t'}:=I.un (Un.write d f k a) (I.hok.write d f k a c)
theorem Inv.weak{Z':List zP}(I:Inv X pins Z H s)(a:Z'.length=Z.length)(w:∀(i:Nat) v,Z'[i]?=some (some v)->Z[i]?=some (some v)):Inv X pins Z' H s :=⟨I.ok,I.os,I.bare,I.base,let⟨m,hn,hl'⟩:=I.loc;(ah m hn λi x v d b c=>hl' i x v d (w i v b) c),I.cell,I.free,I.freeC,I.pin,I.hok,a.trans I.len⟩
theorem Inv.pins_of{a:zD}(I:Inv X pins Z H s)(h:∀p∈a,s.heap.get? p.1=some p.2/\H p.1=none/\p.1≠X.env.locals/\p.1∉X.fs/\∀v,p.2.data≠.cell v):Inv X a Z H s :=⟨I.ok,I.os,I.bare,I.base,I.loc,I.cell,I.free,I.freeC,λp b=>(ng.mp b).elim (λz=>I.pin p (qV _ z)) (h p),I.hok,I.len⟩
theorem Ay{N:zC}(e:N.Nodup){i j:Nat}{x:Str}(a:N[i]?=some x)(b:N[j]?=some x):i=j:=by obtain⟨f,d⟩:=iG.mp a;obtain⟨g,c⟩:=iG.mp b;exact(List.getElem_inj e).mp (d.trans c.symm)
theorem AU{M:Model}{A:zZ}{E:zA}{i:Nat}{x:Str}{v:V}{u:zX}{Q:Unit->zY->Prop}(I:Inv X pins Z H s)(hN:X.N.Nodup)(hi:X.N[i]?=some x)(B:Loc X.env.scope x)(r:A2q v u)
  (h:∀s',Inv X pins (Z.set i (some v)) H s'->(∃a,Heap.SameBut a s.heap s'.heap/\(a=X.env.locals\/X.env.cells.lookup x=some a))->Q () s') (hf:X.fn x=true\/X.env.scope.names.lookup x=some .local:=by first|exact .inl rfl|exact .inr rfl|assumption):wpAny M A (storeName X.env x u) Q E s:=by
 obtain⟨m,hn,hl⟩:=id I.loc;have O:(X.env.scope.kind==.class||(X.env.scope.kind==.module&&X.env.locals != X.env.globals))=false:=by rw[I.ok.kind];rfl
 have P:i<Z.length:=by rw[I.len];exact(iG.mp hi).1
 have K:=I.cne
 have g:∀{a:zW}{h':yA},(∃o,s.heap.get? a=some o/\H a=none)->Heap.SameBut a s.heap h'->HOk X.prog X.w H h':=λ{a h'} ha f b ob e=>by
  obtain⟨_,_,C⟩:=ha;refine(I.hok b ob e).stay (λc W t q=>(f.2 c ?_).trans q) (λ_ q=>q) λ_ _ q=>q;rintro rfl;rcases t with rfl|t
  ·rw[C]at e;cases e
  ·rw[C]at t;cases t
 rcases B with F|F
 ·refine wpAny_storeName_local F hn (λh' Y f=>?_) O;obtain⟨oL,_,_,a0,_⟩:=id hn;refine h _ ⟨I.ok,I.os,I.bare,⟨λb o e n J B=>?_,λb o e n J B=>?_,I.base.free,λb o e B=>?_,I.base.tups,I.base.frzs,I.base.tbls⟩,(ah _ Y λj y v' l D e3=>?_),λy c e=>?_,I.free,I.freeC,λp hp=>?_,g (ah oL a0 I.free) f,by simpa using I.len⟩ (ah _ f (.inl rfl))
  ·exact(f.2 b (jJ (mC (iI e) I.ok.above))).trans (I.base.keep b o e n J B)
  ·obtain⟨sl,l⟩:=I.base.slot b o e n J B;exact⟨sl,(f.2 b (jJ (mC (iI e) I.ok.above))).trans l⟩
  ·obtain⟨o',l⟩:=I.base.there b o e B;exact⟨o',(f.2 b (jJ (mC (iI e) I.ok.above))).trans l⟩
  ·by_cases hj:j=i
   ·subst hj;rw[hi]at l;cases l;rw[xY P]at D;cases D;exact ah u r (.inl ⟨F,by simp⟩)
   ·rw[xX (Ne.symm hj)]at D;obtain⟨u',r',q⟩:=hl j y v' l D e3;refine ah u' r' ?_;rcases q with ⟨k,e⟩|⟨k,c,e,z⟩
    ·refine .inl ⟨k,?_⟩;have:y≠x:=λe=>hj (Ay hN l (e▸hi));simp[this,e]
    ·exact .inr (iV k c e (z.sameBut f (K y c e)))
  ·obtain⟨W,z⟩:=I.cell y c e;exact⟨W,z.sameBut f (K y c e)⟩
  ·obtain⟨e,n,T,nf,d⟩:=I.pin p hp;exact jH ((f.2 p.1 T).trans e) n T nf d
 ·have G:X.fn x=true:=by
   rcases hf with z|z
   ·exact z
   ·rw[z]at F;cases F
  obtain⟨c,t⟩:=I.ok.has x (.inl F);obtain⟨W,z⟩:=I.cell x c t;refine wpAny_storeName_cell I.ok.kind F t z (λh' R f=>?_);obtain⟨oc,L,S⟩:=id z;refine h {s with heap:=h'} ⟨I.ok,I.os,I.bare,⟨λb o e n J B=>?_,λb o e n J B=>?_,I.base.free,λb o e B=>?_,I.base.tups,I.base.frzs,I.base.tbls⟩,(ah m (hn.sameBut f (Ne.symm (K x c t))) λj y v' l D e3=>?_),λy U e=>?_,I.free,I.freeC,λp hp=>?_,g (ah oc L (I.freeC x c t)) f,by simpa using I.len⟩ (ah c f (.inr t))
  ·exact(f.2 b (jJ (mC (iI e) (I.ok.cab x c G t)))).trans (I.base.keep b o e n J B)
  ·obtain⟨sl,l⟩:=I.base.slot b o e n J B;exact⟨sl,(f.2 b (jJ (mC (iI e) (I.ok.cab x c G t)))).trans l⟩
  ·obtain⟨o',l⟩:=I.base.there b o e B;exact⟨o',(f.2 b (jJ (mC (iI e) (I.ok.cab x c G t)))).trans l⟩
  ·by_cases hj:j=i
   ·subst hj;rw[hi]at l;cases l;rw[xY P]at D;cases D;exact ah u r (.inr (iV (.inl F) c t R))
   ·rw[xX (Ne.symm hj)]at D;obtain⟨u',r',q⟩:=hl j y v' l D e3;refine ah u' r' ?_;rcases q with q|⟨k,U,e,z'⟩
    ·exact .inl q
    ·refine .inr (iV k U e (z'.sameBut f ?_));rintro rfl;exact hj (Ay hN l (I.ok.inj _ _ _ e t▸hi))
  ·by_cases hcc:U=c
   ·subst hcc;exact⟨_,R⟩
   ·obtain⟨w2,z2⟩:=I.cell y U e;exact⟨w2,z2.sameBut f hcc⟩
  ·obtain⟨e,n,T,nf,d⟩:=I.pin p hp;refine jH ((f.2 p.1 ?_).trans e) n T nf d;intro q;rw[q,L]at e;have q':oc=p.2:=lI e;exact d W (by rw[<-q'];exact S)
theorem AB{M:Model}{A:zZ}{E:zA}{i:Nat}{x:Str}{v:V}{u:zX}{Q:Unit->zY->Prop}(I:Inv X pins Z H s)(c:X.N.Nodup)(hi:X.N[i]?=some x)(b:Loc X.env.scope x)(r:A2q v u)
  (h:∀s',Inv X pins (Z.set i (some v)) H s'->Q () s') (a:X.fn x=true\/X.env.scope.names.lookup x=some .local:=by first|exact .inl rfl|exact .inr rfl|assumption):wpAny M A (storeName X.env x u) Q E s :=
 AU I c hi b r (λs' I' _=>h s' I') a
theorem Inv.call'{s':zY}{ch:zQ}(I:Inv X pins Z H s)(h:s'.os=s.os)(u:Un (frs X.stack) ch H H' s.heap s'.heap)(a:HOk X.prog X.w H' s'.heap)(f:AllBare s'.gens)
  (d:∀b∈ch,(b∈X.ex\/X.s₀.heap.objs.size<=b)/\b≠X.env.locals/\(∀x c,X.env.cells.lookup x=some c->c≠b)/\∀p∈X.pn++pins,p.1≠b):Inv X pins Z H' s':=by
 obtain⟨i,g',d',t',g⟩:=s';have e:g=s.os:=h;subst e;exact I.call (g':=g') (t':=t') (d':=d') u a f d
end
abbrev XK:=zX->Option zW->Hp->Prop
abbrev St:=List zP
variable{α:Type}{ys xs dvs:zM}{y:V}{x qual name m:Str}{w:yD}{value tg l iter e c b:yC}{v u pm oc ct cd:zX}{tpos pos' p kpos apos:Pos}{tn:Nat->yA->Prop}{s1 s' s:zY}{ps ks N:zC}{prog P:yB}{pins:zD}{od an:zO}{nm:Option Str}{n j i:Nat}{mA:zE}{lo hi:Int}{kws:List Keyword}{it dx a C:zW}{h' h:yA}{gV:zM->List V->List V}{fd:zS}{es:zT}{ds:zH}{Z:St}{X:Cx}{pos:Pos}{T:String}{S:zZ->Prop}{Q E:zA}{M:Model}{K:Frag}{H' H:Hp}{A:zZ}
abbrev VK:=V->Hp->Prop
abbrev TE:=St->Hp->VK->Prop
abbrev TT:=St->Hp->(Bool->Hp->Prop)->Prop
abbrev TA:=St->Hp->(zM->Hp->Prop)->Prop
structure nn where
 nx:St->Hp->Prop
 rt:VK
 bk:St->Hp->Prop:=λ_ _=>False
 ct:St->Hp->Prop:=λ_ _=>False
abbrev TS:=nn->St->Hp->Prop
def EP(X:Cx)(pins:zD)(Z:St)(Q:VK)(u:zX)(s':zY):Prop:=∃v a,Inv X pins Z a s'/\A2q v u/\Q v a
def TP(X:Cx)(pins:zD)(Z:St)(Q:Bool->Hp->Prop)(b:Bool)(s':zY):Prop:=∃a,Inv X pins Z a s'/\Q b a
def AP(X:Cx)(pins:zD)(Z:St)(Q:zM->Hp->Prop)(us:zH)(s':zY):Prop:=∃b a,Inv X pins Z a s'/\A2d b us/\Q b a
def SP(X:Cx)(pins:zD)(D:nn)(f:Flow)(s':zY):Prop :=
 match f with
 |.next=>∃Z' a,Inv X pins Z' a s'/\D.nx Z' a
 |.brk=>∃Z' a,Inv X pins Z' a s'/\D.bk Z' a
 |.cont=>∃Z' a,Inv X pins Z' a s'/\D.ct Z' a
 |.ret u=>∃v Z' a,Inv X pins Z' a s'/\A2q v u/\D.rt v a
def PE(X:Cx)(e:yC)(t:TE):Prop :=∀(a:zD)(s:zY)(Z:St)(H:Hp)(Q:VK),Inv X a Z H s->t Z H Q->wpAny (model X.prog X.w) X.A (eval e X.env) (EP X a Z Q) X.xe s
def PT(X:Cx)(e:yC)(t:TT):Prop :=∀(a:zD)(s:zY)(Z:St)(H:Hp)(Q:Bool->Hp->Prop),Inv X a Z H s->t Z H Q->wpAny (model X.prog X.w) X.A (isTrue e X.env (eval e X.env)) (TP X a Z Q) X.xe s
def PW(X:Cx)(e:yC)(t:TT):Prop :=∀(b:Sem zX)(a:zD)(s:zY)(Z:St)(H:Hp)(Q:Bool->Hp->Prop),Inv X a Z H s->t Z H Q->wpAny (model X.prog X.w) X.A (isTrue e X.env b) (TP X a Z Q) X.xe s
theorem PW.pt{t:TT}(h:PW X e t):PT X e t:=h _
def PA(X:Cx)(es:zT)(t:TA):Prop :=∀(b:Pos)(a:zD)(s:zY)(Z:St)(H:Hp)(Q:zM->Hp->Prop),Inv X a Z H s->t Z H Q->wpAny (model X.prog X.w) X.A (spliced (backTo b (starEach es X.env))) (AP X a Z Q) X.xe s
def PS(X:Cx)(st:Stmt)(t:TS):Prop :=∀(a:zD)(s:zY)(Z:St)(H:Hp)(D:nn),Inv X a Z H s->t D Z H->wpAny (model X.prog X.w) X.A (exec st X.env) (SP X a D) X.xe s
def PSs(X:Cx)(st:List Stmt)(t:TS):Prop :=∀(a:zD)(s:zY)(Z:St)(H:Hp)(D:nn),Inv X a Z H s->t D Z H->wpAny (model X.prog X.w) X.A (execs st X.env) (SP X a D) X.xe s
theorem thn{t:Sem α}{Q b:α->zY->Prop}(h:wpAny M A t Q E s)(c:∀a s,Q a s->b a s):wpAny M A t b E s:=lR h c λ_ _ x=>x
section
def qX(i:Nat):TE:=λZ H Q=>∃v,Z[i]?=some (some v)/\Q v H
def tC(v:V):TE:=λ_ H Q=>Q v H
theorem DN(p:X.N[i]?=some x)(q:Vis X.env.scope x)(j:(x==("__debug__":Str))=false:=by decide)(g:(x==("__classdict__":Str))=false:=by decide):PE X (.Name x pos) (qX i):=by
 intro f s Z H Q I h;obtain⟨v,e,h⟩:=h;obtain⟨m,n,o⟩:=I.loc;obtain⟨u,r,l⟩:=o i x v p e q;have d:EP X f Z Q u s:=(fx v H I r h);rcases l with ⟨b,t⟩|⟨b,c,k,a⟩
 ·exact wpAny_Name (wpAny_loadName_local I.ok.kind b n t d) j
 ·rcases b with b|b
  ·exact wpAny_Name (wpAny_loadName_cell I.ok.kind b k a d) j
  ·exact wpAny_Name (wpAny_loadName_free I.ok.kind b k a d g) j
theorem fe{i j pos}:PE X (.Constant (.int i) j pos) (tC (.int i)):=λ_ _ _ H _ I h=>wpAny_Constant_int (fx (.int i) H (I.tok _) ⟨_,rfl⟩ h)
theorem nY{b j pos}:PE X (.Constant (.bool b) j pos) (tC (.bl b)):=λ_ _ _ H _ I h=>Constant_bool (fx (.bl b) H I rfl h)
theorem ip{x j pos}:PE X (.Constant (.str x) j pos) (tC (.str x)):=λ_ _ _ H _ I h=>Calls.Constant_str (fx (.str x) H (I.tok _) ⟨_,rfl⟩ h)
def Gl(X:Cx)(x:Str):Prop:=X.env.kindOf x=some .globalImplicit
theorem zt(I:Inv X pins Z H s)(a:Gl X x)(c:X.mg x=some u)(h:Q u s)
  (b:(x==("__debug__":Str))=false:=by decide):wpAny (model X.prog X.w) X.A (eval (.Name x pos) X.env) Q E s :=
 Calls.Name_function_global I.ok.kind a (Calls.loadGlobal_global (by rw[I.ok.glob];exact I.mod.glob.keeps I.bk) c h) b
theorem oF(I:Inv X pins Z H s)(e:Gl X x)(f:X.mg x=none)(c:bootBuiltins x=some u)(h:Q u s)
  (a:x≠"__name__":=by decide) (d:(x==("__debug__":Str))=false:=by decide):wpAny (model X.prog X.w) X.A (eval (.Name x pos) X.env) Q E s:=by
 obtain⟨i,b,g⟩:=I.mod.blt;exact Calls.Name_function_global I.ok.kind e (Calls.loadGlobal_builtin (by rw[I.ok.glob];exact I.mod.glob.keeps I.bk) f (by rw[I.ok.blt];exact b.keeps I.bk) ((g x a).trans c) h) d
theorem lX{v:V}(e:Gl X x)(b:X.mg x=none)(d:bootBuiltins x=some u)(r:A2q v u)(a:x≠"__name__":=by decide)(c:(x==("__debug__":Str))=false:=by decide):PE X (.Name x pos) (tC v):=λ_ _ _ H _ I h=>oF I e b d (fx v H I r h) a c
variable{a:yC}{ta tb:TE}
def tB(t:TE):TT:=λZ H Q=>t Z H λx a=>∃c,x=.bl c/\Q c a
theorem kZ{t:TE}(h:PE X e t)(j:∀a,isTrue e X.env a=(do let v<-a;standAt e.pos;holding [v] (truthy v)):=by intro _;rfl):PT X e (tB t):=by intro b s Z H Q I i;refine isTrue_plain (thn (h b s Z H _ I i) ?_) (j _);rintro v k ⟨x,c,I1,f,g⟩;obtain⟨d,rfl,q⟩:=g;cases f;exact wpAny_truthy_bool (ah c I1 q)
variable{tA tB':TT}{rest:zT}
def tAnd(t u:TT):TT:=λZ H Q=>t Z H λc a=>if c=true then u Z a Q else Q false a
def tOr(t u:TT):TT:=λZ H Q=>t Z H λc a=>if c=true then Q true a else u Z a Q
def tNot(t:TT):TT:=λZ H Q=>t Z H λc a=>Q (! c) a
theorem qF(d:PT X a tA):PW X (.BoolOp .And [a] pos) tA:=by
 intro f b s Z H Q I h;refine isTrue_and (thn (d b s Z H Q I h) λc g e=>?_)
 cases c with
 |true=>exact isTrue_and_nil e
 |false=>exact e
theorem rq(d:PT X a tA):PW X (.BoolOp .Or [a] pos) tA:=by
 intro f b s Z H Q I h;refine isTrue_or (thn (d b s Z H Q I h) λc g e=>?_)
 cases c with
 |false=>exact isTrue_or_nil e
 |true=>exact e
theorem pO(k:PT X a tA)(j:PW X (.BoolOp .And (b::rest) pos) tB'):PW X (.BoolOp .And (a::b::rest) pos) (tAnd tA tB'):=by
 intro g d s Z H Q I h;refine isTrue_and (thn (k d s Z H _ I h) ?_);rintro c i ⟨e,I1,f⟩
 cases c with
 |true=>exact j g d i Z e Q I1 f
 |false=>exact ah e I1 f
theorem pe(k:PT X a tA)(j:PW X (.BoolOp .Or (b::rest) pos) tB'):PW X (.BoolOp .Or (a::b::rest) pos) (tOr tA tB'):=by
 intro g d s Z H Q I h;refine isTrue_or (thn (k d s Z H _ I h) ?_);rintro c i ⟨e,I1,f⟩
 cases c with
 |true=>exact ah e I1 f
 |false=>exact j g d i Z e Q I1 f
theorem qA(e:PT X a tA):PT X (.UnaryOp .Not a pos) (tNot tA):=by intro b s Z H Q I h;exact isTrue_not (e b s Z H (λc d=>Q (! c) d) I h)
end
def SqL(K:Frag)(H:Hp)(a:zW)(xs:zM):Prop :=
 Rd H a (.lst xs)\/
  ∃(o:Obj)(b:zG)(n:Nat),K.lookup a=some o/\o.cls=.type "list"/\o.dict=none/\o.data=.seq b n/\b.size<=sizeLine/\A2d xs b.toList
def SqT(K:Frag)(H:Hp)(a:zW)(xs:zM):Prop :=
 Rd H a (.tup xs)\/
  ∃(o:Obj)(b:zG)(n:Nat),K.lookup a=some o/\o.cls=.type "tuple"/\o.data=.seq b n/\b.size<=sizeLine/\A2d xs b.toList
noncomputable def absV:zX->Option V|.none=>some .non|.bool b=>some (.bl b)|.int i _=>some (.int i)|.str x _=>some (.str x)|.bytes b _=>some (.byt b)|.float b _=>some (.flt b)|.ref a=>some (.ref a)|.type n=>some (.ty n)|_=>none
theorem A2q.abs{x:V}(r:A2q x u):absV u=some x:=by
 cases x with
 |non=>cases r;rfl
 |bl _=>cases r;rfl
 |int _=>obtain⟨t,rfl⟩:=r;rfl
 |str _=>obtain⟨t,rfl⟩:=r;rfl
 |byt _=>obtain⟨t,rfl⟩:=r;rfl
 |flt _=>obtain⟨t,rfl⟩:=r;rfl
 |ref _=>cases r;rfl
 |ty _=>cases r;rfl
theorem A2q.inj{x y:V}{u:zX}(r:A2q x u)(q:A2q y u):x=y:=lI (r.abs.symm.trans q.abs)
theorem A2d.inj:∀{xs ys:zM}{us:zH},A2d xs us->A2d ys us->xs=ys|_,_,_,.nil,.nil=>rfl|_,_,_,.cons r t,.cons r' t'=>by rw[r.inj r',A2d.inj t t']
theorem SqL.of(h:H a=some (.lst xs)):SqL K H a xs:=.inl (.inl h)
theorem SqT.of(h:H a=some (.tup xs)):SqT K H a xs:=.inl (.inl h)
theorem Inv.list(I:Inv X pins Z H s)(h:SqL X.K H a xs):∃its:zH,A2d xs its/\PlainL s.heap a its.toArray/\xs.length<=sizeLine:=by
 rcases h with h|⟨o,its,n,b,c,d,f,g,r⟩
 ·obtain⟨z,its,n,r,e⟩:=h.ok I.hok;exact hH its r (iO _ n e rfl rfl rfl) z
 ·refine hH its.toList r (iO o n (I.kIn a o b) c d (by simpa using f)) ?_;have e:=r.length;simp only [Array.length_toList]at e
  lia
theorem Inv.tuple(I:Inv X pins Z H s)(h:SqT X.K H a xs):∃its:zH,A2d xs its/\IsTup s.heap a its.toArray/\xs.length<=sizeLine:=by
 rcases h with h|⟨o,its,n,b,c,d,f,r⟩
 ·obtain⟨z,its,r,p⟩:=h.ok I.hok;exact hH its r p z
 ·refine hH its.toList r (oN o (I.kIn a o b) c n (by simpa using d)) ?_;have e:=r.length;simp only [Array.length_toList]at e
  lia
theorem Inv.list_inj(I:Inv X pins Z H s)(h:SqL X.K H a xs)(h':SqL X.K H a ys):xs=ys:=by
 obtain⟨c,r,⟨o,n,e,_,_,d⟩,_⟩:=I.list h;obtain⟨b,i,⟨j,k,f,_,_,g⟩,_⟩:=I.list h';rw[e]at f;cases f;rw[d]at g;injection g with d1 _;have:c=b:=by simpa using congrArg Array.toList d1
 subst this;exact r.inj i
theorem Inv.tuple_inj(I:Inv X pins Z H s)(h:SqT X.K H a xs)(h':SqT X.K H a ys):xs=ys:=by
 obtain⟨c,r,⟨o,e,_,n,d⟩,_⟩:=I.tuple h;obtain⟨b,i,⟨j,f,_,k,g⟩,_⟩:=I.tuple h';rw[e]at f;cases f;rw[d]at g;injection g with d1 _;have:c=b:=by simpa using congrArg Array.toList d1
 subst this;exact r.inj i
abbrev Cx.wish(X:Cx)(E:zA):Cx:={X with xe:=E}
abbrev Cx.nox(X:Cx):Cx:=X.wish λ_ _=>False
theorem Cx.Ok.wish(a:X.Ok)(E:zA):(X.wish E).Ok :=⟨a.mod,a.kind,a.glob,a.blt,a.above,a.inj,a.has,a.cab,a.hd,a.frames,a.stk,a.exf,a.bs,a.bsz,a.noex,a.exfs,a.funs,a.frf⟩
theorem Cx.Ok.unwish(a:(X.wish E).Ok):X.Ok :=⟨a.mod,a.kind,a.glob,a.blt,a.above,a.inj,a.has,a.cab,a.hd,a.frames,a.stk,a.exf,a.bs,a.bsz,a.noex,a.exfs,a.funs,a.frf⟩
theorem Inv.wish(I:Inv X pins Z H s)(E:zA):Inv (X.wish E) pins Z H s:=⟨I.ok.wish E,I.os,I.bare,I.base,I.loc,I.cell,I.free,I.freeC,I.pin,I.hok,I.len⟩
theorem Inv.unwish(I:Inv (X.wish E) pins Z H s):Inv X pins Z H s:=⟨I.ok.unwish,I.os,I.bare,I.base,I.loc,I.cell,I.free,I.freeC,I.pin,I.hok,I.len⟩
theorem SP.unwish{D:nn}{f:Flow}(h:SP (X.wish E) pins D f s'):SP X pins D f s':=by
 cases f with
 |next=>obtain⟨Z',a,I,q⟩:=h;exact jV Z' a I.unwish q
 |brk=>obtain⟨Z',a,I,q⟩:=h;exact jV Z' a I.unwish q
 |cont=>obtain⟨Z',a,I,q⟩:=h;exact jV Z' a I.unwish q
 |ret u=>obtain⟨v,Z',a,I,r,q⟩:=h;exact mi v Z' a I.unwish r q
theorem PSs.nox{st:List Stmt}{t:TS}(h:PSs X.nox st t):PSs X st t:=λa s Z H D I b=>lR (h a s Z H D (I.wish _) b) (λ_ _ q=>q.unwish) λ_ _ z=>False.elim z
section
variable{X:Cx}{st:Stmt}{rest:List Stmt}{t u:TS}{e:yC}{te:TE}{pos:Pos}
def CD:TS:=λD Z H=>D.nx Z H
def wz(t u:TS):TS:=λD Z H=>t {D with nx:=u D} Z H
theorem iJ:PSs X [] CD:=λ_ _ Z H _ I h=>uG (jV Z H I h)
theorem kP(h1:PS X st t)(h2:PSs X rest u):PSs X (st::rest) (wz t u):=by
 intro a s Z H D I h;refine wpAny_execs_cons (thn (h1 a s Z H {D with nx:=u D} I h) λf b q=>?_)
 cases f with
 |next=>obtain⟨Z',c,I',q⟩:=q;exact h2 a b Z' c D I' q
 |ret v=>exact q
 |brk=>exact q
 |cont=>exact q
theorem lW(h1:PS X st t):PSs X [st] t:=by
 intro a s Z H D I h;refine wpAny_execs_cons (thn (h1 a s Z H D I h) λf b q=>?_)
 cases f with
 |next=>exact uG q
 |ret v=>exact q
 |brk=>exact q
 |cont=>exact q
theorem Inv.quiet(I:Inv X pins Z H s):interactive X.env=false:=by simp[interactive,I.ok.kind]
def C7(te:TE):TS:=λD Z H=>te Z H λ_ a=>D.nx Z a
theorem kU(f:PE X e te)(d:swapsWith e none pos.line X.env=pure false:=by rfl):PS X (.Expr e pos) (C7 te):=by intro a s Z H D I h;exact wpAny_Expr_any (thn (f a s Z H _ I h) (by rintro v g ⟨x,b,I1,i,c⟩;exact jV Z b I1 c)) I.quiet d
def ya(te:TE):TS:=λD Z H=>te Z H D.rt
theorem pP(f:PE X e te):PS X (.Return (some e) pos) (ya te):=by intro a s Z H D I h;exact wpAny_Return_some (thn (f a s Z H _ I h) (by rintro v g ⟨x,b,I1,c,d⟩;exact mi x Z b I1 c d))
def yg(c:TT)(t u:TS):TS:=λD Z H=>c Z H λb a=>if b=true then t D Z a else u D Z a
theorem rf{c:yC}{a b:List Stmt}{tc:TT}(k:PT X c tc)(l:PSs X a t)(j:PSs X b u):PS X (.If c a b pos) (yg tc t u):=by
 intro e s Z H D I h;refine wpAny_If (thn (k e s Z H _ I h) ?_);rintro d f ⟨g,I1,i⟩
 cases d with
 |true=>exact l e f Z g D I1 i
 |false=>exact j e f Z g D I1 i
end
variable{es:zT}{u:zX}{o:zN}{tg:yC}{g:TG}{pins:zD}{Z:St}{H:Hp}{s:zY}{A:zZ}{E Q:zA}{vs:zM}{P:yB}{w:yD}{K:Frag}{fp:zQ}{R:Result->zY->Prop}{pos:Pos}{h base:yA}{pl:Sem Bool}{body:List Stmt}{tb:TS}{f:zX->zX->Sem zX}{op:CmpOp}{C:zW}{us:zH}{mA mg:zE}{kw:List (Str×zX)}{CX:CXT}{fd:zS}{ps:zC}{scope:Scope}{osl:zF}
abbrev TG:=V->St->Hp->(St->Hp->Prop)->Prop
abbrev TGs:=zM->St->Hp->(St->Hp->Prop)->Prop
def PG(X:Cx)(a:yC)(t:TG):Prop :=
 ∀(b:zD)(s:zY)(Z:St)(H:Hp)(v:V)(u:zX)(Q:St->Hp->Prop),Inv X b Z H s->A2q v u->t v Z H Q->
  wpAny (model X.prog X.w) X.A (assign a X.env u) (λ_ d=>∃Z' c,Inv X b Z' c d/\Q Z' c) X.xe s
def PGs(X:Cx)(ts:zT)(t:TGs):Prop :=
 ∀(a:zD)(s:zY)(Z:St)(H:Hp)(c:zM)(b:zH)(Q:St->Hp->Prop),Inv X a Z H s->A2d c b->t c Z H Q->
  wpAny (model X.prog X.w) X.A (assignInOrder ((assignEach ts X.env).map (·.2)) b) (λ_ e=>∃Z' d,Inv X a Z' d e/\Q Z' d) X.xe s
abbrev uI:=V->V->V->Hp->(Hp->Prop)->Prop
def wx(X:Cx)(t:uI):Prop :=
 ∀(a:zD)(s:zY)(Z:St)(H:Hp)(o i v:V)(b c u:zX)(Q:Hp->Prop),Inv X a Z H s->A2q o b->A2q i c->A2q v u->t o i v H Q->
  wpAny (model X.prog X.w) X.A (setItem b c u) (λ_ e=>∃d,Inv X a Z d e/\Q d) X.xe s
def nX(i:Nat):TG:=λv Z H Q=>Q (Z.set i (some v)) H
theorem ie(d:X.N.Nodup)(hi:X.N[i]?=some x:=by rfl)(c:Loc X.env.scope x:=by exact .inl rfl)(b:X.fn x=true\/X.env.scope.names.lookup x=some .local:=by first|exact .inl rfl|exact .inr rfl|assumption):PG X (.Name x pos) (nX i):=by intro a s Z H v u Q I r h;exact wpAny_assign_Name (AB I d hi c r (λe I'=>(jV _ H I' h)) b)
def wA:TGs:=λa Z H Q=>a=[]/\Q Z H
def tP(t:TG)(u:TGs):TGs:=λa Z H Q=>∃v r,a=v::r/\t v Z H λZ' b=>u r Z' b Q
theorem lN:PGs X [] wA:=by intro a s Z H b c Q I r h;obtain⟨e,h⟩:=h;subst e;cases r;exact assignInOrder_nil (jV Z H I h)
theorem iY{t:TG}{u:TGs}(h1:PG X e t)(h2:PGs X es u)
  (g:(assignEach (e::es) X.env).map (·.2)=assign e X.env::(assignEach es X.env).map (·.2):=by rfl):PGs X (e::es) (tP t u):=by
 intro a s Z H i k Q I r h;obtain⟨v,j,f,h⟩:=h;subst f
 cases r with
 |cons r rr=>rw[g];refine assignInOrder_cons (thn (h1 a s Z H _ _ _ I r h) ?_);rintro _ b ⟨Z1,c,I1,d⟩;exact h2 a b Z1 c _ _ Q I1 rr d
def wv(K:Frag)(n:Nat)(t:TGs):TG:=λv Z H Q=>∃a b,v=.ref a/\SqT K H a b/\b.length=n/\t b Z H Q
theorem lK{k:Nat}{t:TGs}(m:X.calm=true)(h:PGs X es t)
  (i:(assignEach es X.env).length=n:=by rfl) (d:(assignEach es X.env).findIdx? (·.1)=none:=by rfl):PG X (.Tuple es k pos) (wv X.K n t):=by
 intro c s Z H v u Q I r f;obtain⟨a,l,p,z,j,f⟩:=f;subst p;cases r;obtain⟨q,g,w,A⟩:=I.tuple z;refine assign_Tuple_tuple (I.ok.hd m) w (by simp[i,<-j,g.length]) d λy x=>?_;have I1:Inv X c Z H {s with heap:=y}:=I.kept (t':=s.toks) λb o e=>x b o (jJ (iI e)) e
 exact h c _ Z H l _ Q I1 (by simpa using g) f
def gSub(to d:TE)(t:uI):TG:=λv Z H Q=>to Z H λo b=>d Z b λi c=>t o i v c λa=>Q Z a
theorem oe{o i:yC}{to b:TE}{t:uI}(p:PE X o to)(hi:PE X i b)(k:wx X t)
  (w:∀v,assign (.Subscript o i pos) X.env v=(do
   let ov<-holding [v] (eval o X.env)
   let iv<-holding [v,ov] (eval i X.env)
   standAt pos
   holding [v,ov,iv] (setItem ov iv v)
   release [v,ov,iv] []):=by intro _;rfl):PG X (.Subscript o i pos) (gSub to b t):=by
 intro a s Z H v u Q I r h;rw[w];refine cz (ny (thn (p a s Z H _ I h) ?_));rintro ov c ⟨x,e,I1,f,g⟩;refine cz (ny (thn (hi a c Z e _ I1 g) ?_));rintro iv m ⟨y,q,I2,n,d⟩;refine cz (wf (cz (ny (thn (k a m Z q x y v ov iv u _ I2 f n r d) ?_))));rintro _ z ⟨l,I3,j⟩;exact wpAny_release (jV Z l I3 j)
def tz(te:TE)(g:TG):TS:=λD Z H=>te Z H λx a=>g x Z a D.nx
theorem mG{te:TE}(k:PE X e te)(l:PG X tg g)(i:swapsWithSole [tg] e pos.line X.env=pure false:=by rfl)(j:swappedStores [tg] e X.env=pure none:=by rfl)
  (h1:(assignEach [tg] X.env).map (·.2)=[assign tg X.env]:=by rfl):PS X (.Assign [tg] e pos) (tz te g):=by
 intro a s Z H D I h;refine wpAny_Assign_stores (thn (k a s Z H _ I h) ?_) i j;rintro v b ⟨x,c,I1,d,f⟩;rw[h1];exact thn (l a b Z c x v _ I1 d f) λ_ m q=>q
theorem jM{i:Nat}{x:Str}{e:yC}{te:TE}{pos':Pos}(l:X.N.Nodup)(hi:X.N[i]?=some x)(j:Loc X.env.scope x)(k:PE X e te)(f:swapsWith e (some (.Name x pos')) pos.line X.env=pure false:=by rfl)(g:X.fn x=true\/X.env.scope.names.lookup x=some .local:=by first|exact .inl rfl|exact .inr rfl|assumption):
  PS X (.Assign [.Name x pos'] e pos) (tz te (nX i)):=by
 intro a s Z H D I h;refine wpAny_Assign_Name (thn (k a s Z H _ I h) ?_) f;rintro v m ⟨y,b,I1,c,d⟩;exact AB I1 l hi j c (λn I2=>(jV _ b I2 d)) g
def Dx(c:TT)(tb:TS):TS:=λD Z H=>∃W:Nat->St->Hp->Prop,(∃m,W m Z H)/\∀m Z H,W m Z H->
 c Z H λb a=>if b=true then∃N:St->Hp->Prop,(∀Z' d,N Z' d->∃e,e<m/\W e Z' d)/\tb {D with nx:=N,ct:=N,bk:=D.nx} Z a else D.nx Z a
theorem AJ{c:yC}{body:List Stmt}{tc:TT}{tb:TS}(r:PassesOwn (model X.prog X.w) X.A X.env X.xe)(F:PT X c tc)(C:PSs X body tb):PS X (.While c body [] pos) (Dx tc tb):=by
 intro a s Z H D I h;obtain⟨W,⟨u,B⟩,e⟩:=h;refine wpAny_While (codeAny_whileLoop (λn y=>∃Z' q,Inv X a Z' q y/\W n Z' q) ?_ u (jV Z H I B));rintro n z ⟨Z1,p,I1,x⟩;refine wpAny_passesOwn r (thn (F a z Z1 p _ I1 (e n Z1 p x)) ?_);rintro b G ⟨o,I2,i⟩
 cases b with
 |true=>
  obtain⟨N,t,i⟩:=i;rw[ia rfl];refine wpAny_passesOwn r (thn (C a G Z1 o _ I2 i) λf J g=>?_)
  cases f with
  |next=>obtain⟨Z3,d,I3,j⟩:=g;obtain⟨l,m,k⟩:=t Z3 d j;exact⟨l,(mw m Z3 d I3 k)⟩
  |cont=>obtain⟨Z3,d,I3,j⟩:=g;obtain⟨l,m,k⟩:=t Z3 d j;exact⟨l,(mw m Z3 d I3 k)⟩
  |brk=>exact g
  |ret v=>exact g
 |false=>rw[fy jD];exact uG (jV Z1 o I2 i)
structure It where
 go:Nat->Hp->Prop
 yld:Nat->Hp->V->Hp->Prop
 stop:Nat->Hp->Prop
def mM(X:Cx)(pins:zD)(H:Hp)(b:zW):Prop :=H b=none/\b≠X.env.locals/\b∉X.fs/\(b∈X.ex\/X.s₀.heap.objs.size<=b)/\(∀x c,X.env.cells.lookup x=some c->c≠b)/\∀p∈X.pn++pins,p.1≠b
theorem Inv.fpOk{b:zW}(I:Inv X pins Z H s)(a:s.heap.objs.size<=b)(d:H' b=none):mM X pins H' b:=by
 refine ke d (lH (mC I.lt a)) (I.nofs a) (.inr (nO I.sz a)) (λx c e z=>?_) λp f z=>?_
 ·obtain⟨v,q⟩:=I.cell x c e;exact absurd (mC q.lt (by rw[z];exact a)) (Nat.lt_irrefl _)
 ·exact absurd (mC (iI (I.pin p f).1) (by rw[z];exact a)) (Nat.lt_irrefl _)
structure B0q(ok:zZ->Prop)(P:yB)(w:yD)(K:Frag)(tg:yC)(J:It)(fp:zQ)(it:zW)(tn:Nat->yA->Prop):Prop where
 mem:it∈fp
 obj:∀i h,tn i h->∀b∈fp,∃o,h.get? b=some o/\∀v,o.data≠.cell v
 keep:∀i h h',tn i h->(∀b∈fp,∀o,h.get? b=some o->h'.get? b=some o)->tn i h'
 item:∀(X:Cx),X.prog=P->X.w=w->X.K=K->ok X.A->∀(i:Nat)(pins:zD)(s:zY)(Z:St)(H:Hp)(E:zA),Inv X pins Z H s->(∀b∈fp,mM X pins H b)->tn i s.heap->J.go i H->
  wpAny (model P w) X.A (pyNext (.ref it)) (λr s1=>∃u,r=some u/\
   wpAny (model P w) X.A (letOwnedTupleGo tg (.ref it) u) (λ_ s2=>∃x H',Inv X pins Z H' s2/\A2q x u/\J.yld i H x H'/\tn (i+1) s2.heap/\∀b∈fp,H' b=none) E s1) E s
 done:∀(X:Cx),X.prog=P->X.w=w->X.K=K->ok X.A->∀(i:Nat)(pins:zD)(s:zY)(Z:St)(H:Hp)(E:zA),Inv X pins Z H s->(∀b∈fp,mM X pins H b)->tn i s.heap->J.stop i H->
  wpAny (model P w) X.A (pyNext (.ref it)) (λr s1=>r=none/\Inv X pins Z H s1) E s
 self:∀(A:zZ)(i:Nat)(s:zY)(Q:zA)(E:zA),tn i s.heap->Q (.ref it) s->wpAny (model P w) A (pyIter (.ref it)) Q E s
abbrev wl:zZ->Prop:=λA=>A.handled=none
abbrev C3f:=B0q wl
abbrev TI:=St->Hp->(It->Hp->Prop)->Prop
def yf(h:zZ->Prop)(X:Cx)(pins:zD)(Z:St)(tg:yC)(R:It->Hp->Prop)(a:zX)(d:zY):Prop :=∃(f:zW)(e:zQ)(g:Nat->yA->Prop)(J:It)(c:Hp),a=.ref f/\Inv X pins Z c d/\B0q h X.prog X.w X.K tg J e f g/\g 0 d.heap/\(∀b∈e,mM X pins c b)/\R J c
def PIP(c:zZ->Prop)(X:Cx)(tg iter:yC)(wi:TI):Prop :=
 ∀(a:zD)(s:zY)(Z:St)(H:Hp)(R:It->Hp->Prop),Inv X a Z H s->wi Z H R->
  wpAny (model X.prog X.w) X.A (eval iter X.env) (λv b=>wpAny (model X.prog X.w) X.A (pyIter v) (yf c X a Z tg R) X.xe b) X.xe s
abbrev PIE:=yf wl
abbrev PI:=PIP wl
theorem re{o:Obj}{n:String}{vs:zG}{Q:Unit->zY->Prop}(b:s.heap.get? it=some o)(c:o.cls=.type n)(e:o.data=.fields vs)
  (d:["enumerate","zip","dict_itemiterator","dict_reverseitemiterator","odict_iterator","itertools.zip_longest","itertools.pairwise"].contains n=false) (a:Q () s):wpAny M A (letOwnedTupleGo tg (.ref it) u) Q E s:=by
 unfold letOwnedTupleGo
 cases tg<;>first|exact hE a|(cases u<;>first|exact hE a|(refine cz (wpAny_load b ?_);rw[c,e];show wpAny M A (if (["enumerate","zip","dict_itemiterator","dict_reverseitemiterator","odict_iterator","itertools.zip_longest","itertools.pairwise"].contains n&&vs[0]?==some (rawInt _))=true then _ else _) Q E s;rw[fy (by intro h;rw[d,Bool.false_and]at h;cases h)];exact hE a))
def Itl(K:Frag)(a:zW):It :=⟨λi H=>∃b x,SqL K H a b/\b[i]?=some x,λi H x c=>c=H/\∀b,SqL K H a b->b[i]?=some x,λi H=>∃b,SqL K H a b/\b.length<=i⟩
def Itt(K:Frag)(a:zW):It :=⟨λi H=>∃b x,SqT K H a b/\b[i]?=some x,λi H x c=>c=H/\∀b,SqT K H a b->b[i]?=some x,λi H=>∃b,SqT K H a b/\b.length<=i⟩
def Itr(lo:Int)(n:Nat):It:=⟨λi _=>i<n,λi H x a=>a=H/\x=.int (lo+i),λi _=>n<=i⟩
abbrev It.on(J:It):It:=⟨J.go,J.yld,λ_ _=>False⟩
theorem B0q.fin{e:zZ->Prop}{J:It}(T:B0q (λ_=>True) P w K tg (It.on J) fp it tn)
  (d:∀(X:Cx),X.prog=P->X.w=w->X.K=K->e X.A->∀(i:Nat)(pins:zD)(s:zY)(Z:St)(H:Hp)(E:zA),Inv X pins Z H s->(∀b∈fp,mM X pins H b)->tn i s.heap->J.stop i H->
   wpAny (model P w) X.A (pyNext (.ref it)) (λr s1=>r=none/\Inv X pins Z H s1) E s):B0q e P w K tg J fp it tn:=⟨T.mem,T.obj,T.keep,λX a b c _=>T.item X a b c trivial,d,T.self⟩
theorem IC(a it:zW):B0q (λ_=>True) P w K tg (It.on (Itl K a)) [it] it (λi h=>h.IsListIter it a i) where
 mem:=by simp
 obj:=λi h f b j=>by
  have e:b=it:=by simpa using j
  subst e;obtain⟨o,e,c,d⟩:=f;exact ah o e λv z=>by rw[d]at z;cases z
 keep:=λi h m f k=>f.at λo e=>k it (by simp) o e
 item:=by
  intro X O F J U i l s Z H E I q f Q;subst O F J;obtain⟨T,x,r,n⟩:=Q;obtain⟨L,t,p,W⟩:=I.list r;obtain⟨u,C,M⟩:=t.get n;obtain⟨N,G,Y,R,B,y⟩:=q it (by simp);refine wpAny_pyNext_list_item f p.isList (x:=u) (by simpa using C) λm g D=>?_;have I1:Inv X l Z H {s with heap:=m}:=I.turned (t':=s.toks) (λb o j e=>(D.2 b j).trans e) N G R B y
  obtain⟨o,e,c,d⟩:=id g;exact ah u rfl (re (s:={s with heap:=m}) e c d (by decide) (jA x H I1 M ⟨rfl,λS A=>by rw[I.list_inj A r];exact n⟩ g λb j=>(q b j).1))
 done:=λ_ _ _ _ _ _ _ _ _ _ _ _ _ _ z=>z.elim
 self:=λ_ _ _ _ _ f h=>wpAny_pyIter_listiter f h
theorem GN(a it:zW):C3f P w K tg (Itl K a) [it] it (λi h=>h.IsListIter it a i):=B0q.fin (IC a it)<|by intro X y j l r i c s Z H E I u n z;subst y j l;obtain⟨F,v,C⟩:=z;obtain⟨t,d,p,G⟩:=I.list v;obtain⟨x,k,J,A,g,f⟩:=u it (by simp);have B:=d.length;exact wpAny_pyNext_list_end r n p.isList (by simp;lia) λD q=>⟨rfl,I.turned (t':=s.toks) (λb o m e=>q b o m e) x k A g f⟩
theorem Jq(a it:zW):B0q (λ_=>True) P w K tg (It.on (Itt K a)) [it] it (λi h=>h.IsTupleIter it a i) where
 mem:=by simp
 obj:=λi h f b j=>by
  have e:b=it:=by simpa using j
  subst e;obtain⟨o,e,c,d⟩:=f;exact ah o e λv z=>by rw[d]at z;cases z
 keep:=λi h m f k=>f.at λo e=>k it (by simp) o e
 item:=by
  intro X O G L U i l s Z H E I r f Q;subst O G L;obtain⟨T,x,t,q⟩:=Q;obtain⟨n,y,p,W⟩:=I.tuple t;obtain⟨u,D,M⟩:=y.get q;obtain⟨N,J,Y,R,C,A⟩:=r it (by simp);refine wpAny_pyNext_tuple_item f (show s.heap.IsTuple a n.toArray from p) (x:=u) (by simpa using D) λm g F=>?_;have I1:Inv X l Z H {s with heap:=m}:=I.turned (t':=s.toks) (λb o j e=>(F.2 b j).trans e) N J R C A
  obtain⟨o,e,c,d⟩:=id g;exact ah u rfl (re (s:={s with heap:=m}) e c d (by decide) (jA x H I1 M ⟨rfl,λS B=>by rw[I.tuple_inj B t];exact q⟩ g λb j=>(r b j).1))
 done:=λ_ _ _ _ _ _ _ _ _ _ _ _ _ _ z=>z.elim
 self:=λ_ _ _ _ _ f h=>wpAny_pyIter_tupleiter f h
theorem Ii(a it:zW):C3f P w K tg (Itt K a) [it] it (λi h=>h.IsTupleIter it a i):=B0q.fin (Jq a it)<|by intro X y k m t i d s Z H E I u q z;subst y k m;obtain⟨F,v,C⟩:=z;obtain⟨c,f,p,G⟩:=I.tuple v;obtain⟨x,l,J,A,j,g⟩:=u it (by simp);have B:=f.length;exact wpAny_pyNext_tuple_end t q (show s.heap.IsTuple a c.toArray from p) (by simp;lia) λD r=>⟨rfl,I.turned (t':=s.toks) (λb o n e=>r b o n e) x l A j g⟩
theorem IR(it:zW)(lo:Int)(n:Nat):B0q (λ_=>True) P w K tg (It.on (Itr lo n)) [it] it (λi h=>IsRangeIter h it (lo+(i:Nat)*1) ((n:Int)-(i:Nat)) 1) where
 mem:=by simp
 obj:=λi h a b d=>by
  have A:b=it:=by simpa using d
  subst A
  exact⟨_,a,λv z=>by
   have q:Data.fields _=Data.cell v:=z
   cases q⟩
 keep:=λi h g a k=>k it (by simp) _ a
 item:=by
  intro X D t y G i f s Z H E I j a l;subst D t y;obtain⟨C,u,J,F,p,m⟩:=j it (by simp);have l:i<n:=l;refine wpAny_pyNext_range_item a (by lia) λg c r=>?_;have I1:Inv X f Z H {s with heap:=g,toks:=s.toks+1}:=I.turned (λb o d e=>(r.2 b d).trans e) C u F p m
  have B:lo+((i+1:Nat):Int)*1=lo+(i:Int)*1+1:=by lia
  have x:(n:Int)-((i+1:Nat):Int)=(n:Int)-(i:Int)-1:=by lia
  refine ah _ rfl (re (s:={s with heap:=g,toks:=s.toks+1}) (n:="range_iterator") c rfl rfl (by decide) (jA (.int (lo+i)) H I1 ⟨s.toks,?_⟩ ⟨rfl,rfl⟩ ?_ λb d=>(j b d).1))
  ·rw[Int.mul_one]
  ·show IsRangeIter g it (lo+((i+1:Nat):Int)*1) ((n:Int)-((i+1:Nat):Int)) 1;rw[B,x];exact c
 done:=λ_ _ _ _ _ _ _ _ _ _ _ _ _ _ z=>z.elim
 self:=λ_ _ _ _ _ a h=>wpAny_pyIter_rangeiter a h
theorem IF(it:zW)(lo:Int)(n:Nat):C3f P w K tg (Itr lo n) [it] it (λi h=>IsRangeIter h it (lo+(i:Nat)*1) ((n:Int)-(i:Nat)) 1):=B0q.fin (IR it lo n)<|by intro X j p u k i a s Z H E I m d t;subst j p u;obtain⟨q,r,x,v,l,f⟩:=m it (by simp);exact wpAny_pyNext_range_end k d (by have:n<=i:=t;lia) λy g=>⟨rfl,I.turned (t':=s.toks) (λb o c e=>g b o c e) q r v l f⟩
def yP(K:Frag)(tl:TE):TI:=λZ H R=>tl Z H λx b=>∃a,x=.ref a/\(∃c,SqL K b a c)/\R (Itl K a) b
def x6(K:Frag)(tl:TE):TI:=λZ H R=>tl Z H λx b=>∃a,x=.ref a/\(∃c,SqT K b a c)/\R (Itt K a) b
theorem ju{tl:TE}(g:PE X l tl):PI X tg l (yP X.K tl):=by
 intro c s Z H R I h;refine thn (g c s Z H _ I h) ?_;rintro v d ⟨x,f,I1,i,k⟩;obtain⟨a,e,⟨r,n⟩,q⟩:=k;subst e;cases i;obtain⟨m,t,p,u⟩:=I1.list n;refine wpAny_pyIter_list p.isList ?_;refine jk d.heap.objs.size [d.heap.objs.size] _ _ f rfl (I1.kept (t':=d.toks) λb o e=>iB _ e) (GN a _) (hH _ (jw _ rfl) rfl rfl) (λb j=>?_) q;have e:b=d.heap.objs.size:=by simpa using j
 subst e;exact I1.fpOk (ig _) (I1.hok.fresh (ig _))
theorem yY{tl:TE}(i:PE X l tl):PI X tg l (x6 X.K tl):=by
 intro d s Z H R I h;refine thn (i d s Z H _ I h) ?_;rintro v c ⟨x,g,I1,j,m⟩;obtain⟨a,e,⟨r,n⟩,q⟩:=m;subst e;cases j;obtain⟨f,t,p,u⟩:=I1.tuple n;refine wpAny_pyIter_tuple (show c.heap.IsTuple a f.toArray from p) ?_;refine jk c.heap.objs.size [c.heap.objs.size] _ _ g rfl (I1.kept (t':=c.toks) λb o e=>iB _ e) (Ii a _) (hH _ (jw _ rfl) rfl rfl) (λb k=>?_) q;have e:b=c.heap.objs.size:=by simpa using k
 subst e;exact I1.fpOk (ig _) (I1.hok.fresh (ig _))
theorem Fm{R:It->Hp->Prop}{t u v:Tok}{tk:Nat}(I:Inv X pins Z H s)(h1: -(2^62)<=lo)(h2:lo<2^62)(a: -(2^62)<=hi)(f:hi<2^62)
  (q:R (Itr lo (hi-lo).toNat) H):wpAny (model X.prog X.w) X.A (pyIter (.ref s.heap.objs.size)) (PIE X pins Z tg R) E {s with heap:=s.heap.push {cls:=.type "range",data:=.fields #[.int lo t,.int hi u,.int 1 v]},toks:=tk}:=by
 refine wpAny_pyIter_range (IsRange.new ..) (small_one h1 h2 a f) ?_;have I1:Inv X pins Z H {s with heap:=s.heap.push {cls:=.type "range",data:=.fields #[.int lo t,.int hi u,.int 1 v]},toks:=tk}:=I.kept λb o e=>iB _ e
 refine⟨(s.heap.push {cls:=.type "range",data:=.fields #[.int lo t,.int hi u,.int 1 v]}).objs.size,[(s.heap.push {cls:=.type "range",data:=.fields #[.int lo t,.int hi u,.int 1 v]}).objs.size],_,_,H,rfl,
  I1.kept (t':=tk) λb o e=>iB _ e,IF _ lo (hi-lo).toNat,?_,λb d=>?_,q⟩
 ·have g:lo+((0:Nat):Int)*1=lo:=by simp
  have c:(((hi-lo).toNat:Nat):Int)-((0:Nat):Int)=Builtin.Range.rangeSize lo hi 1:=by rw[rangeSize_one];split<;>lia
  show IsRangeIter _ _ (lo+((0:Nat):Int)*1) ((((hi-lo).toNat:Nat):Int)-((0:Nat):Int)) 1;rw[g,c];exact jw _ rfl
 ·have e:b=(s.heap.push {cls:=.type "range",data:=.fields #[.int lo t,.int hi u,.int 1 v]}).objs.size:=by simpa using d
  subst e;exact I1.fpOk (ig _) (I1.hok.fresh (ig _))
def CF(ta:TA):TI:=λZ H R=>ta Z H λa b=>∃j:Int,a=[.int j]/\-(2^62)<=j/\j<2^62/\R (Itr 0 j.toNat) b
theorem pA{a:yC}{ta:TA}(k:Gl X "range")(i:X.mg "range"=none)(l:PA X [a] ta)(g:starEach [a] X.env=[(false,eval a X.env)]:=by rfl):PI X tg (.Call (.Name "range" p) [a] [] pos) (CF ta):=by
 intro b s Z H R I h;refine Call_ (oF I k i boot_range (PyProof.Rows.callWith_type1 (thn (l pos b s Z H _ I h) ?_) g rfl));rintro u m ⟨n,o,I1,f,c⟩;obtain⟨j,e,c,d,q⟩:=c;subst e
 cases f with
 |cons r rr=>
  cases rr
  obtain⟨t,rfl⟩:=r;exact call_range_1 (Fm I1 (by lia) (by lia) c d (by simpa using q))
def wq(wi:TI)(g:TG)(tb:TS):TS:=λD Z H=>wi Z H λJ c=>∃W:Nat->Nat->St->Hp->Prop,(∃m,W 0 m Z c)/\∀i m Z H,W i m Z H->
 (J.stop i H/\D.nx Z H)\/(J.go i H/\∃N:St->Hp->Prop,(∀Z' a,N Z' a->∃b,b<m/\W (i+1) b Z' a)/\∀x a,J.yld i H x a->g x Z a λZ2 d=>tb {D with nx:=N,ct:=N,bk:=D.nx} Z2 d)
def tQ(fp:zQ)(h:yA):zD:=fp.filterMap λb=>(h.get? b).map λo=>(b,o)
theorem vP{b:zW}{o:Obj}(a:b∈fp)(e:h.get? b=some o):(b,o)∈tQ fp h:=List.mem_filterMap.mpr (ah b a (by rw[e];rfl))
theorem Hs{p:zW×Obj}(d:p∈tQ fp h):p.1∈fp/\h.get? p.1=some p.2:=by
 obtain⟨b,c,e⟩:=List.mem_filterMap.mp d
 cases q:h.get? b with
 |none=>rw[q]at e;cases e
 |some o=>rw[q]at e;have a:(b,o)=p:=lI e;subst a;exact⟨c,q⟩
theorem Inv.pinned(I:Inv X pins Z H s)(f:∀b∈fp,mM X pins H b)(g:∀b∈fp,∃o,s.heap.get? b=some o/\∀v,o.data≠.cell v):Inv X (pins++tQ fp s.heap) Z H s :=I.pins_of λp k=>(ng.mp k).elim (λz=>I.pin p (ow _ z)) λz=>by obtain⟨a,e⟩:=Hs z;obtain⟨h,i,j,_⟩:=f p.1 a;obtain⟨o,c,d⟩:=g p.1 a;rw[e]at c;cases c;exact jH e h i j d
theorem Inv.unpinned{pl:zD}(I:Inv X (pins++pl) Z H s):Inv X pins Z H s:=I.pins_of λp a=>I.pin p (ow _ (qV _ a))
theorem Eo{wi:TI}(L:PassesOwn (model X.prog X.w) X.A X.env X.xe)(U:S X.A)(hi:PIP S X tg iter wi)(hg:PG X tg g)(c:PSs X body tb)
  (hs:∀x,foldedSetIterable iter X.env x=pure x:=by intro _;rfl):PS X (.For tg iter body [] pos) (wq wi g tb):=by
 intro a s Z H D I h;refine wpAny_For (thn (hi a s Z H _ I h) λv s1 h1=>thn h1 λa0 s2 h2=>?_) hs;refine nN h2 ?_;clear h2;rintro it B tn J H2 e I2 T O Y ⟨W,⟨m0,w0⟩,F⟩;subst e;have l:∀{H':Hp},(∀b∈B,H' b=none)->∀b∈B,mM X a H' b:=λhn b c=>⟨hn b c,(Y b c).2⟩;refine codeAny_forLoop_any (λn s'=>∃i Z' H',Inv X a Z' H' s'/\tn i s'.heap/\(∀b∈B,H' b=none)/\W i n Z' H') ?_ m0 (jv 0 Z H2 I2 O (λb c=>(Y b c).1) w0);refine λn s3 K=>iW K λi Z3 M I3 y t w3=>?_;clear K;rcases F i n Z3 M w3 with ⟨C,qn⟩|⟨go,N,hN,G⟩
 ·refine wpAny_passesOwn L (thn (T.done X rfl rfl rfl U i a s3 Z3 M X.xe I3 (l t) y C) ?_);rintro r s4 ⟨R,I4⟩;subst R;exact uG (jV Z3 M I4 qn)
 ·refine wpAny_passesOwn L (thn (T.item X rfl rfl rfl U i a s3 Z3 M X.xe I3 (l t) y go) ?_);rintro r s4 ⟨u,R,h4⟩;subst R;refine wpAny_passesOwn L (thn h4 ?_);rintro _ s5 K;refine jC K ?_;clear K;rintro x E I5 r5 y5 ⟨q,Q⟩;have I5':=I5.pinned (l Q) (T.obj _ _ q);refine wpAny_passesOwn L (thn (hg _ s5 Z3 E x u _ I5' r5 (G x E y5)) ?_);rintro _ s6 ⟨Z6,H6,I6,q6⟩;refine wpAny_passesOwn L (thn (c _ s6 Z6 H6 _ I6 q6) λf P p=>?_)
  have j:∀{Z7:St}{k:Hp},Inv X (a++tQ B s5.heap) Z7 k P->N Z7 k->∃m,m<n/\∃i Z' H',Inv X a Z' H' P/\tn i P.heap/\(∀b∈B,H' b=none)/\W i m Z' H':=λ{Z7 k} I7 z=>by obtain⟨m',hm,w7⟩:=hN Z7 k z;refine ah m' hm (jv (i+1) Z7 k I7.unpinned (T.keep _ _ _ q λb c o e=>(I7.pin (b,o) (ow _ (ow _ (vP c e)))).1) (λb c=>?_) w7);obtain⟨o,e,d⟩:=T.obj _ _ q b c;exact(I7.pin (b,o) (ow _ (ow _ (vP c e)))).2.1
  cases f with
  |next=>obtain⟨Z7,k,I7,z⟩:=p;exact j I7 z
  |cont=>obtain⟨Z7,k,I7,z⟩:=p;exact j I7 z
  |brk=>obtain⟨Z7,k,I7,p⟩:=p;exact jV Z7 k I7.unpinned p
  |ret v=>obtain⟨x7,Z7,k,I7,r7,p⟩:=p;exact mi x7 Z7 k I7.unpinned r7 p
theorem tV{wi:TI}(e:PassesOwn (model X.prog X.w) X.A X.env X.xe)(c:X.calm=true)(hi:PI X tg iter wi)(d:PG X tg g)(b:PSs X body tb)
  (f:∀x,foldedSetIterable iter X.env x=pure x:=by intro _;rfl):PS X (.For tg iter body [] pos) (wq wi g tb):=
 λa s Z H D I h=>Eo e (I.ok.hd c) hi d b f a s Z H D I h
theorem kr{D:nn}(Pv:Nat->St->Hp->Prop)(f:Pv 0 Z H)(d:∀i Z H,i<=xs.length->Pv i Z H->SqL K H a xs)
  (k:∀i x Z H,xs[i]?=some x->Pv i Z H->g x Z H λZ2 H2=>tb {D with nx:=Pv (i+1),ct:=Pv (i+1),bk:=D.nx} Z2 H2) (h:∀Z H,Pv xs.length Z H->D.nx Z H):
  ∃W:Nat->Nat->St->Hp->Prop,(∃m,W 0 m Z H)/\∀i m Z H,W i m Z H->
   ((Itl K a).stop i H/\D.nx Z H)\/((Itl K a).go i H/\∃N:St->Hp->Prop,(∀Z' H',N Z' H'->∃b,b<m/\W (i+1) b Z' H')/\∀x H',(Itl K a).yld i H x H'->g x Z H' λZ2 H2=>tb {D with nx:=N,ct:=N,bk:=D.nx} Z2 H2):=by
 refine ah (λi m Z H=>m=xs.length-i/\i<=xs.length/\Pv i Z H) (hH xs.length (by simp) (jP _) f) ?_;rintro i m Z H ⟨rfl,j,p⟩;have q:=d i Z H j p;by_cases hlt:i<xs.length
 ·refine .inr (iV (jV xs (xs[i]) q (by simp[hlt])) (Pv (i+1)) (λZ' H' c=>(ky (xs.length-(i+1)) (by lia) rfl hlt c)) λx H' y=>?_);obtain⟨e,y⟩:=y;subst e;exact k i x Z _ (y xs q) p
 ·have e:i=xs.length:=by lia
  subst e;exact .inl ⟨(ah xs q (ig _)),h Z H p⟩
theorem D8{D:nn}(Pv:Nat->St->Hp->Prop)(f:Pv 0 Z H)(d:∀i Z H,i<=xs.length->Pv i Z H->SqT K H a xs)
  (k:∀i x Z H,xs[i]?=some x->Pv i Z H->g x Z H λZ2 H2=>tb {D with nx:=Pv (i+1),ct:=Pv (i+1),bk:=D.nx} Z2 H2) (h:∀Z H,Pv xs.length Z H->D.nx Z H):
  ∃W:Nat->Nat->St->Hp->Prop,(∃m,W 0 m Z H)/\∀i m Z H,W i m Z H->
   ((Itt K a).stop i H/\D.nx Z H)\/((Itt K a).go i H/\∃N:St->Hp->Prop,(∀Z' H',N Z' H'->∃b,b<m/\W (i+1) b Z' H')/\∀x H',(Itt K a).yld i H x H'->g x Z H' λZ2 H2=>tb {D with nx:=N,ct:=N,bk:=D.nx} Z2 H2):=by
 refine ah (λi m Z H=>m=xs.length-i/\i<=xs.length/\Pv i Z H) (hH xs.length (by simp) (jP _) f) ?_;rintro i m Z H ⟨rfl,j,p⟩;have q:=d i Z H j p;by_cases hlt:i<xs.length
 ·refine .inr (iV (jV xs (xs[i]) q (by simp[hlt])) (Pv (i+1)) (λZ' H' c=>(ky (xs.length-(i+1)) (by lia) rfl hlt c)) λx H' y=>?_);obtain⟨e,y⟩:=y;subst e;exact k i x Z _ (y xs q) p
 ·have e:i=xs.length:=by lia
  subst e;exact .inl ⟨(ah xs q (ig _)),h Z H p⟩
theorem rF{D:nn}(Pv:Nat->St->Hp->Prop)(c:Pv 0 Z H)
  (f:∀i Z H,i<n->Pv i Z H->g (.int (lo+i)) Z H λZ2 H2=>tb {D with nx:=Pv (i+1),ct:=Pv (i+1),bk:=D.nx} Z2 H2) (d:∀Z H,Pv n Z H->D.nx Z H):
  ∃W:Nat->Nat->St->Hp->Prop,(∃m,W 0 m Z H)/\∀i m Z H,W i m Z H->
   ((Itr lo n).stop i H/\D.nx Z H)\/((Itr lo n).go i H/\∃N:St->Hp->Prop,(∀Z' H',N Z' H'->∃a,a<m/\W (i+1) a Z' H')/\∀x H',(Itr lo n).yld i H x H'->g x Z H' λZ2 H2=>tb {D with nx:=N,ct:=N,bk:=D.nx} Z2 H2):=by
 refine ah (λi m Z H=>m=n-i/\i<=n/\Pv i Z H) (hH n (by simp) (jP _) c) ?_;rintro i m Z H ⟨rfl,h,p⟩;by_cases hlt:i<n
 ·refine .inr (iV hlt (Pv (i+1)) (λZ' H' b=>(ky (n-(i+1)) (by lia) rfl hlt b)) λx H' y=>?_);obtain⟨e,y⟩:=y;subst e y;exact f i Z _ hlt p
 ·have e:i=n:=by lia
  subst e;exact .inl ⟨ig _,d Z H p⟩
abbrev R2:=V->V->Hp->VK->Prop
def OpR(X:Cx)(f:zX->zX->Sem zX)(r:R2):Prop :=
 ∀(a:zD)(s:zY)(Z:St)(H:Hp)(x y:V)(v u:zX)(Q:VK),Inv X a Z H s->A2q x v->A2q y u->r x y H Q->
  wpAny (model X.prog X.w) X.A (f v u) (EP X a Z Q) X.xe s
def UnR(X:Cx)(f:zX->Sem zX)(r:V->Hp->VK->Prop):Prop :=
 ∀(a:zD)(s:zY)(Z:St)(H:Hp)(x:V)(v:zX)(Q:VK),Inv X a Z H s->A2q x v->r x H Q->
  wpAny (model X.prog X.w) X.A (f v) (EP X a Z Q) X.xe s
def oB(X:Cx)(f:zX)(r:zM->Hp->VK->Prop):Prop :=
 ∀(a:zD)(s:zY)(Z:St)(H:Hp)(b:zM)(c:zH)(Q:VK),Inv X a Z H s->A2d b c->r b H Q->
  wpAny (model X.prog X.w) X.A (call f c) (EP X a Z Q) X.xe s
def tOp(r:R2)(ta tb:TE):TE:=λZ H Q=>ta Z H λx a=>tb Z a λy b=>r x y b Q
def tUn(r:V->Hp->VK->Prop)(ta:TE):TE:=λZ H Q=>ta Z H λx a=>r x a Q
def rI(C:Int->Int->Prop)(g:Int->Int->V):R2:=λx y H Q=>∃i j,x=.int i/\y=.int j/\C i j/\Q (g i j) H
def qR(g:Int->Int->V):R2:=λx y H Q=>∃i j,x=.int i/\y=.int j/\Q (g i j) H
def rU(g:Int->V):V->Hp->VK->Prop:=λx H Q=>∃i,x=.int i/\Q (g i) H
section
variable{a:yC}{ta tb tc:TE}
theorem wy(m:PE X a ta)(j:PE X b tb){R:V->V->Hp->Prop}(I:Inv X pins Z H s)
  (h:ta Z H λx H1=>tb Z H1 λy H2=>R x y H2)
  (g:∀v u c x y H2,Inv X pins Z H2 c->A2q x v->A2q y u->R x y H2->wpAny (model X.prog X.w) X.A (f v u) Q X.xe c):
  wpAny (model X.prog X.w) X.A (eval a X.env) (λv s₁=>wpAny (model X.prog X.w) X.A (eval b X.env) (λu s₂=>wpAny (model X.prog X.w) X.A (f v u) Q X.xe s₂) X.xe s₁) X.xe s:=by
 refine thn (m pins s Z H _ I h) ?_;rintro v d ⟨x,H1,I1,i,l⟩;refine thn (j pins d Z H1 _ I1 l) ?_;rintro u c ⟨y,H2,I2,k,e⟩;exact g v u c x y H2 I2 i k e
theorem ib{op:Operator}{r:R2}(i:OpR X (binaryOp op) r)(k:PE X a ta)(e:PE X b tb):PE X (.BinOp a op b pos) (tOp r ta tb):=by intro c s Z H Q I h;exact wpAny_BinOp (wy k e I h λv u f x y j I2 d g q=>i c f Z j x y v u Q I2 d g q)
theorem wN{op:UnaryOp}{r:V->Hp->VK->Prop}(g:UnR X (unaryOp op) r)(i:PE X a ta):PE X (.UnaryOp op a pos) (tUn r ta):=by intro b s Z H Q I h;exact UnaryOp_ (thn (i b s Z H _ I h) (by rintro v c ⟨x,d,I1,e,f⟩;exact g b c Z d x v Q I1 e f))
theorem opI{C:Int->Int->Prop}{g:Int->Int->Int}
  (a:∀(i j:Int)(t u:Tok)(s:zY)(Q:zA)(E:zA),C i j->Q (.int (g i j) s.toks) {s with toks:=s.toks+1}->wpAny (model X.prog X.w) X.A (f (.int i t) (.int j u)) Q E s):
  OpR X f (rI C λi j=>.int (g i j)):=by
 intro b s Z H x y v u Q I d e h;obtain⟨i,j,rfl,rfl,k,q⟩:=h;obtain⟨t,rfl⟩:=d;obtain⟨c,rfl⟩:=e;exact a i j t c s _ _ k (fx (.int (g i j)) H (I.tok _) ⟨_,rfl⟩ q)
theorem yi{g:Int->Int->Int}
  (a:∀(i j:Int)(t u:Tok)(s:zY)(Q:zA)(E:zA),Q (.int (g i j) s.toks) {s with toks:=s.toks+1}->wpAny (model X.prog X.w) X.A (f (.int i t) (.int j u)) Q E s):
  OpR X f (qR λi j=>.int (g i j)):=by
 intro b s Z H x y v u Q I d e h;obtain⟨i,j,rfl,rfl,q⟩:=h;obtain⟨t,rfl⟩:=d;obtain⟨c,rfl⟩:=e;exact a i j t c s _ _ (fx (.int (g i j)) H (I.tok _) ⟨_,rfl⟩ q)
theorem wu{g:Int->Int->Bool}
  (a:∀(i j:Int)(t u:Tok)(s:zY)(Q:zA)(E:zA),Q (.bool (g i j)) s->wpAny (model X.prog X.w) X.A (f (.int i t) (.int j u)) Q E s):
  OpR X f (qR λi j=>.bl (g i j)):=by
 intro b s Z H x y v u Q I d e h;obtain⟨i,j,rfl,rfl,q⟩:=h;obtain⟨t,rfl⟩:=d;obtain⟨c,rfl⟩:=e;exact a i j t c s _ _ (fx (.bl (g i j)) H I rfl q)
def CDiv(i j:Int):Prop:=0<j/\j<1073741824
def CPow(i j:Int):Prop:=0<=j/\j<=1000000/\i.natAbs<2^64
def E1u(i j:Int):Prop:=(-(2^64)<i/\i<2^64)\/(-(2^64)<j/\j<2^64)
theorem E1u.ok{i j:Int}(h:E1u i j):IntMulOk i j:=by
 rcases h with ⟨a,b⟩|⟨a,b⟩
 ·exact .of_left (intBits_le_64 a b)
 ·exact .of_right (intBits_le_64 a b)
theorem kI:OpR X (binaryOp .Add) (qR λi j=>.int (i+j)):=yi λ_ _ _ _ _ _ _ q=>add_int q
theorem oE:OpR X (binaryOp .Sub) (qR λi j=>.int (i-j)):=yi λ_ _ _ _ _ _ _ q=>sub_int q
theorem tW:OpR X (binaryOp .Mult) (rI E1u λi j=>.int (i*j)):=opI λ_ _ _ _ _ _ _ a q=>mul_int q a.ok
theorem lO:OpR X (binaryOp .FloorDiv) (rI CDiv λi j=>.int (i/j)):=opI λi j _ _ _ _ _ a q=>by have b:(0:Int)<j:=a.1;have c:j<1073741824:=a.2;exact floordiv_int (by lia) (by rw[Int.fdiv_eq_ediv_of_nonneg i (by lia)];exact q) (.inl (PyProof.noPylong_small (by lia)))
theorem jL:OpR X (binaryOp .Mod) (rI (λ_ j=>0<j) λi j=>.int (i%j)):=opI λi j _ _ _ _ _ a q=>by have b:(0:Int)<j:=a;exact mod_int' (by lia) (by rw[Int.fmod_eq_emod_of_nonneg i (by lia)];exact q)
theorem tU:OpR X (binaryOp .Pow) (rI CPow λi j=>.int (i^j.toNat)):=opI λ_ _ _ _ _ _ _ a q=>pow_int_small a.1 a.2.1 a.2.2 q
theorem unI{f:zX->Sem zX}{g:Int->Int}
  (a:∀(i:Int)(t:Tok)(s:zY)(Q:zA)(E:zA),Q (.int (g i) s.toks) {s with toks:=s.toks+1}->wpAny (model X.prog X.w) X.A (f (.int i t)) Q E s):
  UnR X f (rU λi=>.int (g i)):=by
 intro b s Z H x v Q I c h;obtain⟨i,rfl,q⟩:=h;obtain⟨t,rfl⟩:=c;exact a i t s _ _ (fx (.int (g i)) H (I.tok _) ⟨_,rfl⟩ q)
theorem wS:UnR X (unaryOp .USub) (rU λi=>.int (-i)):=unI λ_ _ _ _ _ q=>neg_int q
end
def x5:V->V->Bool|.non,.non=>true|.non,.int _=>true|.int _,.non=>true|.non,.bl _=>true|.bl _,.non=>true|.non,.str _=>true|.str _,.non=>true|.int _,.int _=>true|.bl _,.bl _=>true|.str _,.str _=>true|.byt _,.byt _=>true|.int _,.str _=>true|.str _,.int _=>true|.bl _,.str _=>true|.str _,.bl _=>true|_,_=>false
def rEq:R2:=λx y H Q=>x5 x y=true/\Q (.bl (decide (x=y))) H
def rNe:R2:=λx y H Q=>x5 x y=true/\Q (.bl (! decide (x=y))) H
theorem zx{i j:Int}:decide (V.int i=V.int j)=(i==j):=by rw[Bool.eq_iff_iff];simp
theorem zh{i j:Bool}:decide (V.bl i=V.bl j)=(i==j):=by rw[Bool.eq_iff_iff];simp
theorem zl{i j:Str}:decide (V.str i=V.str j)=(i==j):=by rw[Bool.eq_iff_iff];simp
theorem Ad{i j:Array UInt8}:decide (V.byt i=V.byt j)=(i.toList==j.toList):=by rw[Bool.eq_iff_iff];cases i;cases j;simp
section
variable{a:yC}{ta tb tc:TE}
theorem kh{Q:VK}{k a:Bool}(I:Inv X pins Z H s)(q:Q (.bl k) H)(e:k=a):EP X pins Z Q (.bool a) s:=by subst e;exact fx (.bl k) H I rfl q
theorem kS:OpR X (compareOp .Eq) rEq:=by
 intro e s Z H x y v u Q I d a h;obtain⟨c,q⟩:=h
 cases x with
 |non=>
  cases d
  cases y with
  |non=>cases a;exact PySem.EqNone.eq_none_none (kh I q (by simp))
  |bl j=>cases a;exact PySem.EqNone.eq_none_bool (kh I q (by simp))
  |int j=>obtain⟨b,rfl⟩:=a;exact PySem.EqNone.eq_none_int (kh I q (by simp))
  |str j=>obtain⟨b,rfl⟩:=a;exact PySem.EqNone.eq_none_str (kh I q (by simp))
  |_=>exact absurd (show false=true from c) jD
 |bl i=>
  cases d
  cases y with
  |non=>cases a;exact PySem.EqNone.eq_bool_none (kh I q (by simp))
  |bl j=>cases a;exact eq_bool (kh I q zh)
  |str j=>obtain⟨b,rfl⟩:=a;exact PySem.EqMixed.eq_bool_str (kh I q (by simp))
  |_=>exact absurd (show false=true from c) jD
 |int i=>
  obtain⟨t,rfl⟩:=d
  cases y with
  |non=>cases a;exact PySem.EqNone.eq_int_none (kh I q (by simp))
  |int j=>obtain⟨b,rfl⟩:=a;exact eq_int (kh I q zx)
  |str j=>obtain⟨b,rfl⟩:=a;exact PySem.EqMixed.eq_int_str (kh I q (by simp))
  |_=>exact absurd (show false=true from c) jD
 |str i=>
  obtain⟨t,rfl⟩:=d
  cases y with
  |non=>cases a;exact PySem.EqNone.eq_str_none (kh I q (by simp))
  |bl j=>cases a;exact PySem.EqMixed.eq_str_bool (kh I q (by simp))
  |int j=>obtain⟨b,rfl⟩:=a;exact PySem.EqMixed.eq_str_int (kh I q (by simp))
  |str j=>obtain⟨b,rfl⟩:=a;exact eq_str (kh I q zl)
  |_=>exact absurd (show false=true from c) jD
 |byt i=>
  obtain⟨t,rfl⟩:=d
  cases y with
  |byt j=>obtain⟨b,rfl⟩:=a;exact PySem.W.eq_bytes (kh I q Ad)
  |_=>exact absurd (show false=true from c) jD
 |_=>cases y<;>exact absurd (show false=true from c) jD
theorem tN:OpR X (compareOp .NotEq) rNe:=by
 intro e s Z H x y v u Q I d a h;obtain⟨c,q⟩:=h
 cases x with
 |non=>
  cases d
  cases y with
  |non=>cases a;exact PySem.EqNone.ne_none_none (kh I q (by simp))
  |bl j=>cases a;exact PySem.EqNone.ne_none_bool (kh I q (by simp))
  |int j=>obtain⟨b,rfl⟩:=a;exact PySem.EqNone.ne_none_int (kh I q (by simp))
  |str j=>obtain⟨b,rfl⟩:=a;exact PySem.EqNone.ne_none_str (kh I q (by simp))
  |_=>exact absurd (show false=true from c) jD
 |bl i=>
  cases d
  cases y with
  |non=>cases a;exact PySem.EqNone.ne_bool_none (kh I q (by simp))
  |bl j=>cases a;exact ne_bool (kh I q (congrArg not zh))
  |str j=>obtain⟨b,rfl⟩:=a;exact PySem.EqMixed.ne_bool_str (kh I q (by simp))
  |_=>exact absurd (show false=true from c) jD
 |int i=>
  obtain⟨t,rfl⟩:=d
  cases y with
  |non=>cases a;exact PySem.EqNone.ne_int_none (kh I q (by simp))
  |int j=>obtain⟨b,rfl⟩:=a;exact ne_int (kh I q (congrArg not zx))
  |str j=>obtain⟨b,rfl⟩:=a;exact PySem.EqMixed.ne_int_str (kh I q (by simp))
  |_=>exact absurd (show false=true from c) jD
 |str i=>
  obtain⟨t,rfl⟩:=d
  cases y with
  |non=>cases a;exact PySem.EqNone.ne_str_none (kh I q (by simp))
  |bl j=>cases a;exact PySem.EqMixed.ne_str_bool (kh I q (by simp))
  |int j=>obtain⟨b,rfl⟩:=a;exact PySem.EqMixed.ne_str_int (kh I q (by simp))
  |str j=>obtain⟨b,rfl⟩:=a;exact ne_str (kh I q (congrArg not zl))
  |_=>exact absurd (show false=true from c) jD
 |byt i=>
  obtain⟨t,rfl⟩:=d
  cases y with
  |byt j=>obtain⟨b,rfl⟩:=a;exact PySem.W.ne_bytes (kh I q (congrArg not Ad))
  |_=>exact absurd (show false=true from c) jD
 |_=>cases y<;>exact absurd (show false=true from c) jD
theorem yw:OpR X (compareOp .Lt) (qR λi j=>.bl (decide (i<j))):=wu λ_ _ _ _ _ _ _ q=>lt_int q
theorem qx:OpR X (compareOp .LtE) (qR λi j=>.bl (decide (i<=j))):=wu λ_ _ _ _ _ _ _ q=>le_int q
theorem qo:OpR X (compareOp .Gt) (qR λi j=>.bl (decide (j<i))):=wu λ_ _ _ _ _ _ _ q=>gt_int q
theorem wR(b:yC)(h:op≠.In:=by decide)(h2:op≠.NotIn:=by decide):behindInMarks op b=false:=by
 have c:(op==CmpOp.In)=false:=by cases op<;>first|rfl|exact absurd rfl h
 have a:(op==CmpOp.NotIn)=false:=by cases op<;>first|rfl|exact absurd rfl h2
 cases b<;>simp[behindInMarks,c,a]
theorem D7{r:R2}(j:OpR X (compareOp op) r)(l:PE X a ta)(e:PE X b tb)(f:behindInMarks op b=false:=by exact wR _):PE X (.Compare a [op] [b] pos) (tOp r ta tb):=by intro c s Z H Q I h;exact wpAny_Compare1 (wy l e I h λv u g x y k I2 d i q=>j c g Z k x y v u Q I2 d i q) f
def wO(t:TE):TT:=λZ H Q=>t Z H λx a=>∃k,x=.bl k/\Q k a
theorem iT{r:R2}(l:OpR X (compareOp op) r)(C:PE X a ta)(w:PE X b tb)(n:behindInMarks op b=false:=by exact wR _):PT X (.Compare a [op] [b] pos) (wO (tOp r ta tb)):=by
 intro d s Z H Q I h
 refine wpAny_isTrue_Compare1 (thn (C d s Z H _ I h) λv o ⟨x,q,I1,t,f⟩=>thn (w d o Z q _ I1 f) λu A ⟨y,m,I2,B,p⟩=>thn (l d A Z m x y v u _ I2 t B p) λc D ⟨z,i,I3,j,k,e,g⟩=>?_) n
 subst e;cases j;exact wpAny_truthy_bool (ah i I3 g)
def DL(r d:R2)(ta tb tc:TE):TE:=λZ H Q=>ta Z H λx c=>tb Z c λy e=>r x y e λz a=>∃k,z=.bl k/\
 (if k=true then tc Z a λb f=>d y b f Q else Q (.bl false) a)
theorem AG{g:CmpOp}{r m:R2}(t:OpR X (compareOp op) r)(i:OpR X (compareOp g) m)(R:PE X a ta)(G:PE X b tb)(J:PE X c tc)
  (A:lastMarks [op,g] [b,c]=false:=by with_unfolding_all rfl):PE X (.Compare a [op,g] [b,c] pos) (DL r m ta tb tc):=by
 intro f s Z H Q I h
 refine Compare_chain (thn (R f s Z H _ I h) λv B ⟨x,D,I1,F,o⟩=>chain_link (thn (G f B Z D _ I1 o) λu N ⟨y,w,I2,n,C⟩=>thn (t f N Z w x y v u _ I2 F n C) λd K ⟨z,l,I3,p,k,e,j⟩=>?_)) A
 subst e;cases p;refine wpAny_truthy_bool ?_
 cases k with
 |false=>exact ite_ff (fx (.bl false) l I3 rfl j)
 |true=>exact ite_tt (chain_last (thn (J f K Z l _ I3 j) (by rintro M O ⟨S,L,I4,q,P⟩;exact i f O Z L y S u M Q I4 n q P)))
theorem vm:(sizeLine:Nat)<2^63:=by rw[sizeLine_eq];decide
theorem ph{x:V}(r:A2d [x] us):∃u,us=[u]/\A2q x u:=by
 cases r with
 |cons r1 r2=>cases r2;exact ah _ rfl r1
theorem rX{x:V}(r:A2d [x,y] us):∃u w',us=[u,w']/\A2q x u/\A2q y w':=by
 cases r with
 |cons r1 r2=>
  cases r2 with
  |cons r3 r4=>cases r4;exact fx _ _ rfl r1 r3
theorem Be(b:X.calm=true):oB X (.builtin "max") (λxs H Q=>∃i j,xs=[.int i,.int j]/\Q (.int (if j>i then j else i)) H):=by
 intro a s Z H xs g Q I r h;obtain⟨i,j,rfl,q⟩:=h;obtain⟨u,e,rfl,⟨t,rfl⟩,⟨c,rfl⟩⟩:=rX r;refine max_two_ints (I.ok.hd b) λf d k=>(fx _ H (I.kept k) ?_ q);by_cases hj:j>i
 ·rw[ia hj,ia hj];exact⟨_,rfl⟩
 ·rw[fy hj,fy hj];exact⟨_,rfl⟩
theorem Bd(b:X.calm=true):oB X (.builtin "min") (λxs H Q=>∃i j,xs=[.int i,.int j]/\Q (.int (if j<i then j else i)) H):=by
 intro a s Z H xs g Q I r h;obtain⟨i,j,rfl,q⟩:=h;obtain⟨u,e,rfl,⟨t,rfl⟩,⟨c,rfl⟩⟩:=rX r;refine min_two_ints (I.ok.hd b) λf d k=>(fx _ H (I.kept k) ?_ q);by_cases hj:j<i
 ·rw[ia hj,ia hj];exact⟨_,rfl⟩
 ·rw[fy hj,fy hj];exact⟨_,rfl⟩
end
structure D4k(h:yA)(x dx C:zW)(mA:zE):Prop where
 obj:h.get? x=some (instObj C dx)
 ns:h.Ns1 dx mA
 ne:dx≠x
theorem Ht(n:h.Ns1 dx mA):∃od,h.get? dx=some od/\∀name,PySem.W.lookIn name od=some (mA name):=by
 refine iW n ?_;clear n;rintro o c l i j f ⟨_,k⟩;refine ah o i λname=>?_;have e:=k name;unfold nsFind findBy at e;rw[<-Array.find?_toList]at e;unfold PySem.W.lookIn;rw[j];dsimp only;split
 ·rename_i y q;rw[q]at e;exact congrArg some e
 ·rename_i q;rw[q]at e
  have a:c.toList.any (·.refKey)=false:=by rw[List.any_eq_false];intro y g;obtain⟨z,t,b⟩:=f y (Array.mem_toList_iff.mp g);simp[DictEntry.refKey,b]
  have d:¬c.toList.any (·.refKey)=true:=by rw[a];exact jD
  rw[fy d];exact congrArg some e
theorem D4k.look{x:zW}(I:D4k h x dx C mA):∃od,PySem.W.InstAt h x (instObj C dx) C (some od)/\∀name,PySem.W.lookIn name od=some (mA name):=
 let⟨od,ho,hl⟩:=Ht I.ns
 (ah od ⟨I.obj,rfl,rfl,ho⟩ hl)
section
variable{x f:zW}
theorem ko{a:Bool}(X:K.In s.heap)(I:D4k s.heap x dx C mA)(f:plainGet K C name=true)(c:hasDictIn K C=true)
  (g:findIn K (.ref C) name=some none) (e:mA name=some v) (b:PySem.W.handedIn v=true) (h:Q v {s with toks:=s.toks+1}):
  wpAny (model prog w) A (getAttr (.ref x) name a) Q E s:=by
 obtain⟨i,J,d⟩:=I.look;exact PySem.W.get_value X J (PySem.W.plainGet_of f).1 (PySem.W.findObj_own c g rfl (by rw[d,e])) b h
theorem E8{Q:zX×List zX->zY->Prop}(X:K.In s.heap)(I:D4k s.heap x dx C mA)(a:plainGet K C name=true)
  (c:findIn K (.ref C) name=some (some (.ref f))) (g:isFn K (.ref f)=true) (d:mA name=none) (h:Q (.ref f,[.ref x]) s):
  wpAny (model prog w) A (getMethod (.ref x) name pl) Q E s:=by
 obtain⟨e,J,b⟩:=I.look;exact PySem.W.method_fn X J (PySem.W.plainGet_of a).1 (PySem.W.plainGet_of a).2 c (beq_iff_eq.mp g) (by show(PySem.W.lookIn name e).map (·.isSome)=some false;rw[b,d];rfl) h
theorem Ee{j:zC}{Q:Unit->zY->Prop}(X:K.In s.heap)(I:D4k s.heap x dx C mA)
  (m:findIn K (.ref C) "__setattr__"=some (some (.builtin "object.__setattr__"))) (u:plainOver K C=true) (p:PySem.W.takerIn K C name=some none) (n:hasDictIn K C=true)
  (t:PySem.Within mA j) (hsz:j.length<=sizeLine)
  (h:∀h',D4k h' x dx C (λy=>if y=name then some v else mA y)->Heap.SameBut dx s.heap h'->Q () {s with heap:=h',toks:=s.toks+2}):
  wpAny (model prog w) A (setAttr (.ref x) name v) Q E s:=by
 obtain⟨D,J,z⟩:=I.look;refine PySem.W.set_plain X J m (PySem.W.osa_open (s:={s with toks:=s.toks+1}) (r:=none) X J u p λb=>?_)
 obtain⟨B,k,i⟩:=PySem.W.any_some n;have q:s.heap.get? x=some ⟨.ref C,some dx,.plain,#[]⟩:=I.obj;refine cz (hE (cz (cz (wpAny_loadPart q (cz (PySem.W.Looks.here (s:={s with toks:=s.toks+1}) (PySem.W.looks_clsIn X k) ?_))))));rw[i];refine hE (a:=some dx) (cz (hE (cz ?_)));refine wpAny_nsSet1 (s:={s with toks:=s.toks+1}) I.ns λh' c d=>?_
 obtain⟨F,l,o,e,g,f⟩:=c.count (PySem.Within.cons name v t);refine cz (wpAny_lookBehind e (by rw[g];exact pastItsLine_dict (nO f (by rw[mB];lia))) ?_);exact hE (h _ ⟨(d.2 _ (Ne.symm I.ne)).trans I.obj,c,I.ne⟩ d)
theorem FY{vs:zH}(X:K.In s.heap)(c:makesIn K C=true)
  (hi:findIn K (.ref C) "__init__"=some (some (.ref f))) (b:typeIn K (.ref f)=some (.type "function"))
  (h:codeAny (model prog w) (A.under (.builtin "type.__call__" ⟨.ref C::vs,kw⟩)) (.call (.ref f) ⟨.ref (s.heap.objs.size+1)::vs,kw⟩) (PySem.W.InitBack (s.heap.objs.size+1) R)
   {s with heap:=(s.heap.push emptyDict).push (instObj C s.heap.objs.size)}):
  codeAny (model prog w) A (.call (.ref C) ⟨vs,kw⟩) R s:=by
 obtain⟨e,g,d,t,i⟩:=s;exact PySem.W.make_core (PySem.W.makes_of X c) (PySem.W.looks_findIn X hi) (λa=>PySem.W.bind_fn X a b) (.inl rfl) h
end
def jE(f:Str)(v:V):List (Str×V)->List (Str×V)| []=>[(f,v)]|(g,x)::r=>if g=f then (g,v)::r else (g,x)::jE f v r
theorem BX(f g:Str)(v:V):∀fs:zK,(jE f v fs).lookup g=if g=f then some v else fs.lookup g
 | []=>by
  show List.lookup g [(f,v)]=_;by_cases h:g=f
  ·have a:(g==f)=true:=beq_iff_eq.mpr h;simp only [List.lookup,a,ia h]
  ·have a:(g==f)=false:=qU.mpr h;simp only [List.lookup,a,fy h]
 |(k,x)::r=>by
  have b:=BX f g v r;rw[show jE f v ((k,x)::r)=(if k=f then (k,v)::r else (k,x)::jE f v r) from rfl];by_cases hk:k=f
  ·rw[ia hk];by_cases h:g=k
   ·have a:(g==k)=true:=beq_iff_eq.mpr h;simp only [List.lookup,a,ia (h.trans hk)]
   ·have a:(g==k)=false:=qU.mpr h;simp only [List.lookup,a,fy (λe:g=f=>h (e.trans hk.symm))]
  ·rw[fy hk];by_cases h:g=k
   ·have a:(g==k)=true:=beq_iff_eq.mpr h;simp only [List.lookup,a,fy (λe:g=f=>hk (h.symm.trans e))]
   ·have a:(g==k)=false:=qU.mpr h;simp only [List.lookup,a];exact b
theorem xH(f:Str)(v:V):∀fs:zK,f∈(jE f v fs).map (·.1)/\∀g,g∈fs.map (·.1)->g∈(jE f v fs).map (·.1)
 | []=>⟨by simp[jE],λg h=>by simp at h⟩
 |(k,x)::r=>by
  obtain⟨b,a⟩:=xH f v r;rw[show jE f v ((k,x)::r)=(if k=f then (k,v)::r else (k,x)::jE f v r) from rfl];by_cases hk:k=f
  ·rw[ia hk];subst hk;exact⟨by simp,λg h=>by simpa using h⟩
  ·rw[fy hk];refine⟨?_,λg h=>?_⟩
   ·rw[iN];exact qh _ b
   ·rw[iN]at h⊢;rcases jt.mp h with e|e
    ·exact jt.mpr (.inl e)
    ·exact qh _ (a g e)
theorem BY(f:Str)(v:V):∀fs:zK,(jE f v fs).length<=fs.length+1
 | []=>by simp[jE]
 |(k,x)::r=>by
  have a:=BY f v r;rw[show jE f v ((k,x)::r)=(if k=f then (k,v)::r else (k,x)::jE f v r) from rfl];by_cases hk:k=f
  ·rw[ia hk,mB,mB];lia
  ·rw[fy hk,mB,mB];lia
theorem B3y.some_of{v:V}(r:B3y (some v) o):∃u,o=some u/\A2q v u:=by
 cases o with
 |none=>exact(show False from r).elim
 |some u=>exact ah u rfl r
theorem B3y.none_of(r:B3y none o):o=none:=by
 cases o with
 |none=>rfl
 |some u=>exact(show False from r).elim
theorem GR{v:V}(r:A2q v u):PySem.W.handedIn u=true:=by
 cases v with
 |non=>cases(show u=Value.none from r);rfl
 |bl b=>cases(show u=Value.bool b from r);rfl
 |int i=>obtain⟨t,e⟩:=(show∃t,u=Value.int i t from r);cases e;rfl
 |str x=>obtain⟨t,e⟩:=(show∃t,u=Value.str x t from r);cases e;rfl
 |byt b=>obtain⟨t,e⟩:=(show∃t,u=Value.bytes b t from r);cases e;rfl
 |flt b=>obtain⟨t,e⟩:=(show∃t,u=Value.float b t from r);cases e;rfl
 |ref a=>cases(show u=Value.ref a from r);rfl
 |ty n=>cases(show u=Value.type n from r);rfl
section
variable{fs fs':zK}
theorem vo(b:HOk P w H h)(e:H a=some (.ins C dx fs)):∃mA,D4k h a dx C mA/\(∀f,B3y (fs.lookup f) (mA f))/\PySem.Within mA (fs.map (·.1))/\fs.length<=1000/\H dx=some (.own a):=by refine xV (show A1s P w H h a (.ins C dx fs) from b a _ e) ?_;rintro d z g c ⟨mA,n,r,q⟩;exact⟨mA,(jH ⟨c,n,g⟩ r q z d)⟩
end
structure Cls(K:Frag)(C:zW):Prop where
 pg:plainGet K C Str.empty=true
 hd:hasDictIn K C=true
 po:plainOver K C=true
 sa:findIn K (.ref C) "__setattr__"=some (some (.builtin "object.__setattr__"))
theorem Cls.get(c:Cls K C)(f:Str):plainGet K C f=true:=c.pg
def A1w(K:Frag)(C:zW)(f:Str):Prop:=findIn K (.ref C) f=some none
theorem A1w.taker{f:Str}(n:A1w K C f):PySem.W.takerIn K C f=some none:=by unfold PySem.W.takerIn;rw[show findIn K (.ref C) f=some none from n];rfl
structure nB(K:Frag)(C:zW)(m:Str)(f:zW):Prop where
 at_:findIn K (.ref C) m=some (some (.ref f))
 fn:isFn K (.ref f)=true
 kp:keepIn K (.ref f)=true
section
variable{fs:zK}{f:Str}{v:V}
theorem HH{b:Bool}(I:Inv X pins Z H s)(e:H a=some (.ins C dx fs))(c:Cls X.K C)(n:A1w X.K C f)(l:fs.lookup f=some v)
  (h:∀u s',Inv X pins Z H s'->A2q v u->Q u s'):wpAny (model X.prog X.w) A (getAttr (.ref a) f b) Q E s:=by
 obtain⟨g,O,r,_,_,_⟩:=vo I.hok e;obtain⟨u,i,d⟩:=B3y.some_of (v:=v) (o:=g f) (by rw[<-l];exact r f);exact ko I.kIn O (c.get f) c.hd n i (GR d) (h u _ (I.tok _) d)
theorem HF{g:zW}{Q:zX×List zX->zY->Prop}(I:Inv X pins Z H s)(e:H a=some (.ins C dx fs))(c:Cls X.K C)(k:nB X.K C m g)(l:fs.lookup m=none)
  (h:Q (.ref g,[.ref a]) s):wpAny (model X.prog X.w) A (getMethod (.ref a) m pl) Q E s:=by
 obtain⟨d,O,r,_,_,_⟩:=vo I.hok e;have b:d m=none:=B3y.none_of (by rw[<-l];exact r m);exact E8 I.kIn O (c.get m) k.at_ k.fn b h
theorem HX{Q:Unit->zY->Prop}(I:Inv X pins Z H s)(e:H a=some (.ins C dx fs))(c:Cls X.K C)(n:A1w X.K C f)(D:fs.length<1000)(m:A2q y u)
  (h:∀s',Inv X pins Z (upd H a (.ins C dx (jE f y fs))) s'->Q () s'):wpAny (model X.prog X.w) A (setAttr (.ref a) f u) Q E s:=by
 obtain⟨i,O,r,d,_,j⟩:=vo I.hok e;have l:(fs.map (·.1)).length<=sizeLine:=by rw[hA,sizeLine_eq];lia
 refine Ee I.kIn O c.sa c.po n.taker c.hd d l λp O' t=>h _ ?_;have v:∃o,p.get? dx=some o:=let⟨o,_,_,e',_⟩:=O'.ns;⟨o,e'⟩;refine I.write (x:=a) (e:=dx) (by rw[e];exact True.intro) (.inr j) (λb q k z=>(t.2 b k).trans z) v ?_;refine jO (by rw[dV O.ne];exact j) ?_ O.ne (jU O'.obj _ O'.ns (λg=>?_) λg B=>?_)
 ·have:=BY f y fs;lia
 ·show B3y ((jE f y fs).lookup g) (if g=f then some u else i g);rw[BX];by_cases q:g=f
  ·rw[ia q,ia q];exact m
  ·rw[fy q,fy q];exact r g
 ·by_cases q:g=f
  ·rw[q];exact(xH f y fs).1
  ·refine(xH f y fs).2 g (d g λz=>B ?_);show(if g=f then some u else i g)=none;rw[fy q];exact z
theorem Inv.made(I:Inv X pins Z H s):Inv X pins Z (upd (upd H s.heap.objs.size (.own (s.heap.objs.size+1))) (s.heap.objs.size+1) (.ins C s.heap.objs.size []))
  {s with heap:=(s.heap.push emptyDict).push (instObj C s.heap.objs.size)}:=by
 have c:(s.heap.push emptyDict).get? s.heap.objs.size=some emptyDict:=jw s.heap rfl
 have g:((s.heap.push emptyDict).push (instObj C s.heap.objs.size)).get? (s.heap.objs.size+1)=some (instObj C s.heap.objs.size):=by
  have:=jw (s.heap.push emptyDict) (o:=instObj C s.heap.objs.size) rfl
  rwa[ot]at this
 have f:(s.heap.push emptyDict).Ns s.heap.objs.size (λ_=>none):=(jv emptyDict (#[]) _ c rfl (λe i=>absurd i (by simp)) λ_=>rfl);have I1:=I.laid (a:=s.heap.objs.size) (o:=.own (s.heap.objs.size+1)) (h':=s.heap.push emptyDict) (t':=s.toks) (λb u q=>iB _ q) (ig _) ⟨_,c⟩;refine I1.laid (a:=s.heap.objs.size+1) (o:=.ins C s.heap.objs.size []) (t':=s.toks) (λb u q=>iB _ q) (Nat.le_of_eq (ot _ _)) ?_;have d:s.heap.objs.size≠s.heap.objs.size+1:=jJ (Nat.lt_succ_self _);refine jO (by rw[dV d,dh]) (jP _) d (jU g (λ_=>none) ((Heap.Ns1.of_empty f).at λo q=>iB _ q) (λ_=>True.intro) λy h=>absurd rfl h)
theorem Eb{a:Env}{f:Str}(b:attributeBase e f a (eval e a)=eval e a)
  (h:wpAny (model prog w) A (eval e a) (λo s₁=>wpAny (model prog w) A (getAttr o f true) Q E s₁) E s):wpAny (model prog w) A (eval (.Attribute e f pos) a) Q E s :=
 Attribute_any_ h (by rw[arm_eval_Attribute,b])
end
def tFld(K:Frag)(ta:TE)(f:Str):TE:=λZ H Q=>ta Z H λx b=>∃a C d c v,x=.ref a/\b a=some (.ins C d c)/\Cls K C/\A1w K C f/\c.lookup f=some v/\Q v b
def sFld(K:Frag)(ta tv:TE)(f:Str):TS:=λD Z H=>tv Z H λy e=>ta Z e λx d=>∃a C c b,x=.ref a/\d a=some (.ins C c b)/\Cls K C/\A1w K C f/\b.length<1000/\
 D.nx Z (upd d a (.ins C c (jE f y b)))
section
variable{o:yC}{f:Str}{ta tv:TE}
theorem kJ(m:PE X e ta)(j:attributeBase e f X.env (eval e X.env)=eval e X.env):PE X (.Attribute e f pos) (tFld X.K ta f):=by intro b s Z H Q I h;refine Eb j (thn (m b s Z H _ I h) ?_);rintro u r d;refine oY d ?_;clear d;rintro x g I1 i a C t ⟨w,v,k,o,c,n,l,q⟩;subst k;obtain rfl:u=Value.ref a:=i;exact HH I1 o c n l λz y I2 p=>(fx v g I2 p q)
theorem lM(w:PE X o ta)(r:PE X value tv)(t:swapsWith value (some (.Attribute o f pos')) pos.line X.env=pure false):PS X (.Assign [.Attribute o f pos'] value pos) (sFld X.K ta tv f):=by intro b s Z H D I h;refine plainObj_wpAny_Assign_Attribute (thn (r b s Z H _ I h) ?_) t;rintro u j ⟨y,m,I1,i,q⟩;refine thn (w b j Z m _ I1 q) ?_;rintro e G d;refine oY d ?_;clear d;rintro x z I2 g a C B ⟨F,p,v,c,n,l,k⟩;subst p;obtain rfl:e=Value.ref a:=g;exact HX I2 v c n l i λA I3=>(jV Z _ I3 k)
end
section
variable{c:zX}{b:Bool}
inductive lE(K:Frag)(H:Hp):V->zX->Prop where
 |non:lE K H .non (.type "NoneType")
 |bl (x:Bool):lE K H (.bl x) (.type "bool")
 |int (i:Int):lE K H (.int i) (.type "int")
 |str (x:Str):lE K H (.str x) (.type "str")
 |flt (x:UInt64):lE K H (.flt x) (.type "float")
 |lst {a:zW} {xs:zM} (e:H a=some (.lst xs)):lE K H (.ref a) (.type "list")
 |frz {a:zW} {o:Obj} {xs:zM} (e:H a=some (.frz o (.lst xs))):lE K H (.ref a) (.type "list")
 |tup {a:zW} {xs:zM} (e:H a=some (.tup xs)):lE K H (.ref a) (.type "tuple")
 |dK {a:zW} {kvs:zJ} (e:H a=some (.dK kvs)):lE K H (.ref a) (.type "dict")
 |dT {a:zW} {kvs:List (List Key×V)} (e:H a=some (.dT kvs)):lE K H (.ref a) (.type "dict")
 |ins {a C dx:zW} {fs:zK} (e:H a=some (.ins C dx fs)) (cl:Cls K C) (ha:findIn K (.ref C) "__class__"=some (some (.builtin "object.__class__")))
   (hn:specialIn K (.builtin "object.__class__") "__get__"=some (some (.builtin "getset_descriptor.__get__"))) (htk:takesIn K (.builtin "object.__class__")=some true)
   (hm:mroIn K C (.type "object")=some true):lE K H (.ref a) (.ref C)
theorem Gr{x:V}{t:zX}(I:Inv X pins Z H s)(d:A2q x u)(ty:lE X.K H x t)(e:kitOne X.K t c=some b)(h:∀tk,Q (.bool b) {s with toks:=tk}):
  wpAny (model X.prog X.w) A (call (.builtin "isinstance") [u,c]) Q E s:=by
 cases ty with
 |non=>cases(show u=Value.none from d);exact PySem.W.kia_one PySem.W.kitx_none I.kIn True.intro e (λz=>nomatch z) h
 |bl y=>cases(show u=Value.bool y from d);exact PySem.W.kia_one PySem.W.kitx_bool I.kIn True.intro e (λz=>nomatch z) h
 |int i=>obtain⟨t,q⟩:=(show∃t,u=Value.int i t from d);cases q;exact PySem.W.kia_one PySem.W.kitx_int I.kIn True.intro e (λz=>nomatch z) h
 |str y=>obtain⟨t,q⟩:=(show∃t,u=Value.str y t from d);cases q;exact PySem.W.kia_one PySem.W.kitx_str I.kIn True.intro e (λz=>nomatch z) h
 |flt y=>obtain⟨t,q⟩:=(show∃t,u=Value.float y t from d);cases q;exact PySem.W.kia_one PySem.W.kitx_float I.kIn True.intro e (λz=>nomatch z) h
 |@lst a g ea=>
  cases(show u=Value.ref a from d)
  obtain⟨_,_,n,_,f⟩:=(show A1s X.prog X.w H s.heap a (.lst g) from I.hok a _ ea);exact PySem.W.kia_one PySem.W.kitx_list I.kIn (ah _ f rfl) e (λz=>nomatch z) h
 |@frz a ob g ea=>
  cases(show u=Value.ref a from d)
  obtain⟨_,_,_,n,_,f⟩:=(show A1s X.prog X.w H s.heap a (.frz ob (.lst g)) from I.hok a _ ea);exact PySem.W.kia_one PySem.W.kitx_list I.kIn (ah _ f rfl) e (λz=>nomatch z) h
 |@tup a g ea=>
  cases(show u=Value.ref a from d)
  obtain⟨_,_,_,p⟩:=(show A1s X.prog X.w H s.heap a (.tup g) from I.hok a _ ea);obtain⟨o,f,j,_⟩:=p;exact PySem.W.kia_one PySem.W.kitx_tuple I.kIn (ah o f j) e (λz=>nomatch z) h
 |@dK a kvs ea=>
  cases(show u=Value.ref a from d)
  obtain⟨_,_,m,_,p⟩:=(show A1s X.prog X.w H s.heap a (.dK kvs) from I.hok a _ ea);obtain⟨o,l,k,f,j,_⟩:=p;exact PySem.W.kia_one PySem.W.kitx_dict I.kIn (ah o f j.1) e (λz=>nomatch z) h
 |@dT a kvs ea=>
  cases(show u=Value.ref a from d)
  refine mj (show A1s X.prog X.w H s.heap a (.dT kvs) from I.hok a _ ea) ?_;rintro _ _ g _ o l k f ⟨j,_⟩;exact PySem.W.kia_one PySem.W.kitx_dict I.kIn (ah o f j.1) e (λz=>nomatch z) h
 |@ins a C dx fs ea cl ha hn htk hm=>
  cases(show u=Value.ref a from d)
  obtain⟨v,O,_⟩:=vo I.hok ea;obtain⟨r,J,_⟩:=O.look;exact PySem.W.kia_one (PySem.W.kitx_own (cl.get _) cl.hd ha hn htk hm) I.kIn J e (λz=>nomatch z) h
end
structure B0x(k:Nat)(A:zZ):Prop where
 hd:A.handled=none
 dp:A.depth+3*k+5<recursionLimit
 un:A.units+16*k+200<cLine
 gd:A.guards=some []
theorem B0x.mono{k:Nat}(r:B0x k A)(h:j<=k):B0x j A:=⟨r.hd,by have:=r.dp;lia,by have:=r.un;lia,r.gd⟩
theorem B0x.deeper{k:Nat}(r:B0x (k+1) A)(a:Env):B0x k (A.deeper a):=⟨r.hd,by have:=r.dp;show A.depth+1+3*k+5<_;lia,by have:=r.un;show A.units+3+16*k+200<_;lia,r.gd⟩
theorem IG:(A.under (.builtin "type.__call__" ⟨.ref C::us,kw⟩)).depth=A.depth+1:=by first|rfl|simp[Around.under,Code.weight,Code.isCreation,Code.isGuard,Code.isCaller,Code.frames,Code.isFrame,guardIds]
theorem HK:(A.under (.builtin "type.__call__" ⟨.ref C::us,kw⟩)).units=A.units+1:=by first|rfl|simp[Around.under,Code.cUnits,Code.frames,Code.isFrame]
theorem IW:(A.under (.builtin "type.__call__" ⟨.ref C::us,kw⟩)).guards=A.guards:=by
 show pushGuards (Code.guards (.builtin "type.__call__" ⟨.ref C::us,kw⟩)) A.guards=A.guards;have h:Code.isGuard (.builtin "type.__call__" ⟨.ref C::us,kw⟩)=false:=by first|rfl|(simp[Code.isGuard,guardIds])|decide
 unfold Code.guards;rw[h];cases A.guards<;>rfl
theorem B0x.make{k:Nat}(r:B0x (k+1) A)(C:zW)(us:zH)(kw:List (Str×zX)):B0x k (A.under (.builtin "type.__call__" ⟨.ref C::us,kw⟩)):=⟨r.hd,by have:=r.dp;rw[IG];lia,by have:=r.un;rw[HK];lia,by rw[IW];exact r.gd⟩
theorem B0x.depth{k:Nat}(r:B0x k A):A.depth<recursionLimit:=by have:=r.dp;lia
theorem B0x.units{k:Nat}(r:B0x k A):A.units+64<cLine:=by have:=r.un;lia
def yd:TA:=λ_ H Q=>Q [] H
def yz(ta:TE)(d:TA):TA:=λZ H Q=>ta Z H λx a=>d Z a λb c=>Q (x::b) c
section
variable{X:Cx}{e:yC}{es:zT}{te:TE}{t:TA}{pos:Pos}
theorem eH:PA X [] yd:=λ_ _ _ _ H Q I h=>Calls.spliced_nil (fx [] H I .nil h)
theorem al(o:PE X e te)(m:PA X es t)(k:starEach (e::es) X.env=(false,eval e X.env)::starEach es X.env:=by rfl):PA X (e::es) (yz te t):=by intro b a s Z H Q I h;rw[k];show wpAny _ _ (spliced ((false,eval e X.env)::backTo b (starEach es X.env))) _ _ s;refine Calls.spliced_cons (thn (o a s Z H _ I h) ?_);rintro u c ⟨x,f,I1,i,j⟩;exact thn (m b a c Z f _ I1 j) (by rintro q p ⟨g,n,I2,l,d⟩;exact fx (x::g) n I2 (.cons i l) d)
def tTup(t:TA):TE:=λZ H Q=>t Z H λb a=>b.length<=sizeLine/\∀p,a p=none->Q (.ref p) (upd a p (.tup b))
def tLst(t:TA):TE:=λZ H Q=>t Z H λb a=>b.length<=sizeLine/\∀p,a p=none->Q (.ref p) (upd a p (.lst b))
theorem jd{x1}(h:PA X es t):PE X (.Tuple es x1 pos) (tTup t):=by intro a s Z H Q I i;refine wpAny_Tuple_spliced (thn (h pos a s Z H _ I i) λj c ⟨f,d,I1,r,z,q⟩=>⟨by rw[<-r.length];exact z,?_⟩);have g:d c.heap.objs.size=none:=I1.hok.fresh (ig _);refine fx (.ref c.heap.objs.size) (upd d c.heap.objs.size (.tup f)) (I1.laid (t':=c.toks) (λb u e=>iB _ e) (ig _) ?_) rfl (q _ g);exact iV z j r (oN _ (jw _ rfl) rfl _ rfl)
theorem jF(h:PA X es t):PE X (.List es pos) (tLst t):=by intro a s Z H Q I i;refine wpAny_List_spliced (thn (h pos a s Z H _ I i) λj c ⟨f,d,I1,r,z,q⟩=>⟨by rw[<-r.length];exact z,?_⟩);have g:d c.heap.objs.size=none:=I1.hok.fresh (ig _);refine fx (.ref c.heap.objs.size) (upd d c.heap.objs.size (.lst f)) (I1.laid (t':=c.toks) (λb u e=>iB _ e) (ig _) ?_) rfl (q _ g);exact mw z j 0 r (jw _ rfl)
end
abbrev Sp:=zM->Hp->VK->XK->Prop
abbrev CXT:=List Env->Hp->zY->XK->zX->zY->Prop
structure D5p(P:yB)(w:yD)(K:Frag)(mg:zE)(base:yA)(A:zZ)(outer:List Env)(s:zY)(H:Hp):Prop where
 frames:A.frames=some outer
 mod:Mod K mg base
 bs:∀b o,base.get? b=some o->s.heap.get? b=some o/\H b=none
 bsz:base.objs.size<=s.heap.objs.size
 funs:s.heap.FunFrames base outer
 frf:∀b∈frs outer,H b=none
 hok:HOk P w H s.heap
 bare:AllBare s.gens
def CE(outer:List Env)(P:yB)(w:yD)(H:Hp)(s:zY)(Q:VK)(u:zX)(s':zY):Prop :=∃v a,s'.os=s.os/\AllBare s'.gens/\Un (frs outer) [] H a s.heap s'.heap/\HOk P w a s'.heap/\A2q v u/\Q v a
def CR(CX:CXT)(outer:List Env)(P:yB)(w:yD)(H:Hp)(s:zY)(Q:VK)(E:XK)(r:Result)(s':zY):Prop :=
 match r with
 |.ok (.ret u)=>CE outer P w H s Q u s'
 |.ok _=>False
 |.error e=>CX outer H s E e s'
structure A4q(P:yB)(w:yD)(K:Frag)(mg:zE)(base:yA)(CX:CXT)(k:Nat)(f:zW)(fd:zS)(ps:zC)(sp:Sp):Prop where
 len:∀vs H Q E,sp vs H Q E->vs.length=ps.length
 run:∀(A:zZ)(outer:List Env)(s:zY)(H:Hp)(args:Args)(us:zH)(vs:zM)(Q:VK)(E:XK),B0x k A->D5p P w K mg base A outer s H->BindsTo s fd args (ps.zip us)->A2d vs us->sp vs H Q E->
  codeAny (model P w) A (.call (.ref f) args) (CR CX outer P w H s Q E) s
theorem A4q.mono{k:Nat}{f:zW}{sp:Sp}(F:A4q P w K mg base CX j f fd ps sp)(h:j<=k):
  A4q P w K mg base CX k f fd ps sp:=⟨F.len,λA a s H b e c Q E d=>F.run A a s H b e c Q E (d.mono h)⟩
theorem D5p.make{outer:List Env}(e:D5p P w K mg base A outer s H)(C:zW)(us:zH)(kw:List (Str×zX)):
  D5p P w K mg base (A.under (.builtin "type.__call__" ⟨.ref C::us,kw⟩)) outer s H:=⟨by first|exact e.frames|(simpa[Around.under,Code.envs,Code.isFrame,pushEnvs]using e.frames),e.mod,e.bs,e.bsz,e.funs,e.frf,e.hok,e.bare⟩
theorem Inv.env0(I:Inv X pins Z H s):D5p X.prog X.w X.K X.mg X.base X.A X.stack s H :=⟨I.ok.frames,I.ok.mod,I.bs,nO I.ok.bsz I.sz,I.stack,I.stkFree,I.hok,I.bare⟩
theorem Inv.after{Q:VK}(I:Inv X pins Z H s)(h:CE X.stack X.prog X.w H s Q u s'):EP X pins Z Q u s':=by refine jC h ?_;clear h;rintro v j k a i ⟨e,r,q⟩;obtain⟨f,g,d,t,c⟩:=s';obtain rfl:c=s.os:=k;exact fx v j (I.call (h':=f) (g':=g) (d':=d) (t':=t) (ch:=[]) i e a (λb z=>absurd z (by simp))) r q
def yF(sp:Sp)(dvs:zM)(E:XK)(t:TA):TE:=λZ H Q=>t Z H λa b=>sp (a++dvs) b Q E
def yK(C:zW)(sp:Sp)(dvs:zM)(E:XK)(t:TA):TE:=λZ H Q=>t Z H λc b=>∀x a,b x=none->b a=none->a≠x->
 sp (.ref x::(c++dvs)) (upd (upd b a (.own x)) x (.ins C a [])) (λv d=>v=.non/\Q (.ref x) d) E
def B2b(K:Frag)(fd:zS)(ps:zC)(ds:zH):Prop :=∀(s:zY)(a:zH),K.In s.heap->(a++ds).length=ps.length->BindsTo s fd ⟨a,[]⟩ (ps.zip (a++ds))
theorem B2b.all(h:∀us:zH,us.length=ps.length->bindArgs fd ⟨us,[]⟩=pure (ps.zip us)):B2b K fd ps []:=λs us _ a=>by rw[nS]at a⊢;exact .of_eq (h us a)
def tX(CX:CXT)(X:Cx)(E:XK):Prop:=∀(a:zD)(Z:St)(H:Hp)(s:zY)(e:zX)(b:zY),Inv X a Z H s->CX X.stack H s E e b->X.xe e b
section
variable{CX:CXT}{k:Nat}{f:zW}{sp:Sp}{E:XK}{o:yC}{ta:TE}{t:TA}
theorem y8{Q:VK}(F:A4q X.prog X.w X.K X.mg X.base CX k f fd ps sp)(i:B0x k X.A)(d:B2b X.K fd ps ds)(j:A2d dvs ds)(g:tX CX X E)
  (I:Inv X pins Z H s) (r:A2d vs us) (h:sp (vs++dvs) H Q E):wpAny (model X.prog X.w) X.A (call (.ref f) us) (EP X pins Z Q) X.xe s:=by
 have b:A2d (vs++dvs) (us++ds):=r.append j;have c:(us++ds).length=ps.length:=by rw[<-b.length];exact F.len _ _ _ _ h
 refine wpAny_call (codeAny_mono (F.run X.A X.stack s H ⟨us,[]⟩ (us++ds) (vs++dvs) Q E i I.env0 (d s us I.kIn c) b h) λr l a=>?_)
 cases r with
 |error e=>exact g pins Z H s e l I a
 |ok fl=>
  cases fl with
  |ret u=>exact I.after a
  |next=>exact False.elim a
  |brk=>exact False.elim a
  |cont=>exact False.elim a
theorem E6(F:A4q X.prog X.w X.K X.mg X.base CX k f fd ps sp)(m:B0x k X.A)(o:Gl X x)(j:X.mg x=some (.ref f))(g:keepIn X.K (.ref f)=true)(d:B2b X.K fd ps ds)(n:A2d dvs ds)(l:tX CX X E)
  (u:PA X (e::es) t) (c:(x==("__debug__":Str))=false:=by decide) (i:starEach (e::es) X.env=(false,eval e X.env)::starEach es X.env:=by rfl) (b:(backTo pos (starEach es X.env)).any (·.1)=false:=by rfl):
  PE X (.Call (.Name x p) (e::es) [] pos) (yF sp dvs E t):=by
 intro a s Z H Q I h;refine wpAny_Call_Name_kw (zt I o j ?_ c);refine PySem.W.callWith_K (h₀:=X.base) I.ok.mod.kin g (thn (u pos a s Z H _ I h) λB v ⟨z,y,I1,r,q⟩=>⟨I1.kIn,?_⟩) i b;exact y8 F m d n l I1 r q
structure Mk(K:Frag)(C f:zW):Prop where
 makes:makesIn K C=true
 init:findIn K (.ref C) "__init__"=some (some (.ref f))
 fn:isFn K (.ref f)=true
 kp:keepIn K (.ref C)=true
theorem Fs{Q:VK}(M:Mk X.K C f)(F:A4q X.prog X.w X.K X.mg X.base CX k f fd ps sp)(n:B0x (k+1) X.A)(g:B2b X.K fd ps ds)(p:A2d dvs ds)
  (m:tX CX X E) (I:Inv X pins Z H s) (r:A2d vs us)
  (h:∀x dx,H x=none->H dx=none->dx≠x->sp (.ref x::(vs++dvs)) (upd (upd H dx (.own x)) x (.ins C dx [])) (λv H2=>v=.non/\Q (.ref x) H2) E):
  wpAny (model X.prog X.w) X.A (call (.ref C) us) (EP X pins Z Q) X.xe s:=by
 have c:=h (s.heap.objs.size+1) s.heap.objs.size (I.hok.fresh (Nat.le_succ _)) (I.hok.fresh (ig _)) (jJ (Nat.lt_succ_self _));have I2:=Inv.made (C:=C) I;have b:A2d (V.ref (s.heap.objs.size+1)::(vs++dvs)) (Value.ref (s.heap.objs.size+1)::(us++ds)):=.cons rfl (r.append p)
 have d:(Value.ref (s.heap.objs.size+1)::us++ds).length=ps.length:=by have e:=b.length;rw[F.len _ _ _ _ c]at e;exact e.symm
 refine wpAny_call (FY (f:=f) I.kIn M.makes M.init (beq_iff_eq.mp M.fn) (codeAny_mono (F.run _ X.stack _ _ ⟨Value.ref (s.heap.objs.size+1)::us,[]⟩ (Value.ref (s.heap.objs.size+1)::(us++ds)) _ _ E (n.make C us [])
  (I2.env0.make C us []) (g _ (Value.ref (s.heap.objs.size+1)::us) I2.kIn d) b c) λr q a=>?_))
 cases r with
 |error e=>exact m pins Z _ _ e q I2 a
 |ok fl=>
  cases fl with
  |ret u=>obtain⟨v,o,I3,i,l,j⟩:=I2.after a;subst l;exact jN i (V.ref (s.heap.objs.size+1)) o I3 rfl j
  |next=>exact False.elim a
  |brk=>exact False.elim a
  |cont=>exact False.elim a
theorem EI(M:Mk X.K C f)(F:A4q X.prog X.w X.K X.mg X.base CX k f fd ps sp)(l:B0x (k+1) X.A)(n:Gl X x)(i:X.mg x=some (.ref C))(d:B2b X.K fd ps ds)(m:A2d dvs ds)(j:tX CX X E)
  (o:PA X (e::es) t) (c:(x==("__debug__":Str))=false:=by decide) (g:starEach (e::es) X.env=(false,eval e X.env)::starEach es X.env:=by rfl) (b:(backTo pos (starEach es X.env)).any (·.1)=false:=by rfl):
  PE X (.Call (.Name x p) (e::es) [] pos) (yK C sp dvs E t):=by
 intro a s Z H Q I h;refine wpAny_Call_Name_kw (zt I n i ?_ c);refine PySem.W.callWith_K (h₀:=X.base) I.ok.mod.kin M.kp (thn (o pos a s Z H _ I h) λz u ⟨y,v,I1,r,q⟩=>⟨I1.kIn,?_⟩) g b;exact Fs M F l d m j I1 r q
end
section
variable{CX:CXT}{k:Nat}{f:zW}{sp:Sp}{E:XK}{o:yC}{te ta:TE}{t tk:TA}
variable{g:zH->List zX->List zX}
end
structure iH(N P:zC)(sc:Scope):Prop where
 kind:sc.kind=.function
 co:sc.isCoroutine=false
 gen:sc.isGenerator=false
 nd:N.Nodup
 pre:N.take P.length=P
 par:∀x∈P,sc.names.lookup x=some .local\/sc.names.lookup x=some .cell
 nofree:∀y∈sc.names,y.2≠.free
theorem Bt{b:Str->Option NameKind}{x:Str}:∀{a:List (Str×zX)}{m:zE},(∀v,(x,v)∉a)->bindL b a m x=m x
 | [],_,_=>rfl
 |(n,v)::r,m,h=>by
  unfold bindL;rw[Bt λw c=>h w (qh _ c)];split
  ·have:x≠n:=by rintro rfl;exact h v sZ
   simp[this]
  ·rfl
theorem Bk{b:Str->Option NameKind}{x:Str}:∀{a:List (Str×zX)}{m:zE},(∀v,(x,v)∉a)->bindC b a m x=m x
 | [],_,_=>rfl
 |(n,v)::r,m,h=>by
  unfold bindC;rw[Bk λw c=>h w (qh _ c)];split
  ·rfl
  ·have:x≠n:=by rintro rfl;exact h v sZ
   simp[this]
theorem Bp{a:Str->Option NameKind}{x:Str}{v:zX}:∀{P:zC}{vs:zH}{i:Nat}{m:zE},P.Nodup->P[i]?=some x->vs[i]?=some v->a x=some .local->
  bindL a (P.zip vs) m x=some v
 | [],_,_,_,_,h,_,_=>by simp at h
 |_::_,[],_,_,_,_,h,_=>by simp at h
 |p::P,w::vs,0,m,nd,h1,h2,hk=>by simp at h1 h2;subst h1;subst h2;show bindL a ((p,w)::P.zip vs) m p=_;unfold bindL;rw[Bt λv b=>(qi.mp nd).1 (List.of_mem_zip b).1,ia hk];simp
 |p::P,w::vs,i+1,m,nd,h1,h2,hk=>by show bindL a ((p,w)::P.zip vs) m x=_;unfold bindL;exact Bp (i:=i) (qi.mp nd).2 (by simpa using h1) (by simpa using h2) hk
theorem AV{a:Str->Option NameKind}{x:Str}{v:zX}:∀{P:zC}{vs:zH}{i:Nat}{m:zE},P.Nodup->P[i]?=some x->vs[i]?=some v->a x≠some .local->
  bindC a (P.zip vs) m x=some v
 | [],_,_,_,_,h,_,_=>by simp at h
 |_::_,[],_,_,_,_,h,_=>by simp at h
 |p::P,w::vs,0,m,nd,h1,h2,hk=>by simp at h1 h2;subst h1;subst h2;show bindC a ((p,w)::P.zip vs) m p=_;unfold bindC;rw[Bk λv b=>(qi.mp nd).1 (List.of_mem_zip b).1,fy hk];simp
 |p::P,w::vs,i+1,m,nd,h1,h2,hk=>by show bindC a ((p,w)::P.zip vs) m x=_;unfold bindC;exact AV (i:=i) (qi.mp nd).2 (by simpa using h1) (by simpa using h2) hk
def qu(N:zC)(vs:zM):St:=vs.map some++List.replicate (N.length-vs.length) none
def rP(CX:CXT)(P:yB)(w:yD)(K:Frag)(mg:zE)(base:yA)(N:zC)(qual:Str)(scope:Scope)(f:zW)(cd:zX)(A:zZ)(outer:List Env)(s:zY)(H:Hp)(E:XK):Cx where
 prog:=P
 w:=w
 K:=K
 mg:=mg
 base:=base
 A:=A.deeper (envOfC qual scope s.heap.objs.size f cd)
 N:=N
 s₀:=s
 H₀:=H
 env:=envOfC qual scope s.heap.objs.size f cd
 outer:=outer
 stack:=envOfC qual scope s.heap.objs.size f cd::outer
 ex:=[]
 calm:=true
 fn:=λ_=>true
 pn:=[]
 xe:=λe c=>wpAny (model P w) (A.deeper (envOfC qual scope s.heap.objs.size f cd)) (leaving (envOfC qual scope s.heap.objs.size f cd) e) (λ_ a=>CX outer H s E e a) (λb a=>CX outer H s E b a) c
theorem Az{a:Scope}(h:a.names.lookup x=some .cell):∃c,(cellsFrom n a.names []).lookup x=some c:=by have q:=PySem.W.cellsFrom_some a.names n [] (.inl h);exact Option.isSome_iff_exists.mp q
theorem GD{f:zW}{outer:List Env}{E:XK}
  (S:iH N ps scope) (I:A.handled=none) (g:D5p P w K mg base A outer s H) (L:vs.length=ps.length) (r:A2d vs us)
  (x:InCallC s s.heap.objs.size (bindL (envOfC qual scope s.heap.objs.size f cd).kindOf (ps.zip us) λ_=>none) (cellsFrom (s.heap.objs.size+1) scope.names []) (bindC (envOfC qual scope s.heap.objs.size f cd).kindOf (ps.zip us) λ_=>none) s1):
  Inv (rP CX P w K mg base N qual scope f cd A outer s H E) [] (qu N vs) H s1:=by
 have G:ps.length<=N.length:=by have:=congrArg List.length S.pre;rw[iX]at this;lia
 obtain⟨t,M,rfl,C⟩:=x.done;have l:∀b:zW,b∉(rP CX P w K mg base N qual scope f cd A outer s H E).ex:=λb z=>absurd (show b∈([]:zQ) from z) (by simp)
 refine⟨⟨g.mod,S.kind,rfl,rfl,ig _,λy z c t d=>?_,λy j=>?_,λy c _ h=>?_,λ_=>I,Around.frames_deeper g.frames,.inr ⟨rfl,rfl⟩,λb z=>absurd z (l b),g.bs,g.bsz,λb _ _=>l b,λb z=>absurd z (l b),g.funs,g.frf⟩,
  rfl,g.bare,Un.kept C,(ah _ x.toInCall.ns λi y v t d O=>?_),λy c h=>⟨_,x.cell y c h⟩,g.hok.fresh (ig _),λy c h=>?_,λp o=>absurd (show p∈([]:zD) from o) (by simp),g.hok.kept C,?_⟩
 ·exact name_of_addr x.apart (PySem.mem_of_lookup t) (PySem.mem_of_lookup d)
 ·have j:scope.names.lookup y=some .cell\/scope.names.lookup y=some .free:=j;rcases j with j|j
  ·exact Az j
  ·exact absurd rfl (S.nofree _ (PySem.mem_of_lookup j))
 ·exact Nat.le_of_lt (x.above y c (PySem.mem_of_lookup h))
 ·have B:i<vs.length:=by
   unfold qu at d;by_cases B:i<vs.length
   ·exact B
   ·rw[nP (by simpa using B)]at d;rw[List.getElem?_replicate]at d;split at d<;>cases d
  have J:vs[i]?=some v:=by
   unfold qu at d;rw[lD (by simpa using B),jh]at d
   cases e:vs[i]? with
   |none=>rw[e]at d;cases d
   |some a=>rw[e]at d;cases d;rfl
  obtain⟨u,D,F⟩:=r.get J
  have o:ps[i]?=some y:=by rw[<-S.pre,List.getElem?_take_of_lt (by lia)];exact t
  have m:ps.Nodup:=by rw[<-S.pre];exact S.nd.sublist (uE _ _)
  refine ah u F ?_;rcases S.par y (iZ o)with k|k
  ·exact .inl ⟨k,Bp m o D k⟩
  ·obtain⟨c,e⟩:=Az (n:=s.heap.objs.size+1) k;refine .inr (iV (.inl k) c e ?_);have q:=x.cell y c e;rw[AV m o D (by show scope.names.lookup y≠_;rw[k];decide)]at q;exact q
 ·exact g.hok.fresh (Nat.le_of_lt (x.above y c (PySem.mem_of_lookup h)))
 ·unfold qu;show _=N.length;rw[jc,hA,List.length_replicate]
  lia
theorem CZ{k:Nat}{f:zW}{c:Arguments}{F kV p a:zX}
 {N:zC} {sp:Sp} (lk:K.lookup f=some ⟨oc,od,.func (fnOf name qual c body scope F kV p pm an a ct),osl⟩) (z:codeIn K a qual=true) (S:iH N ps scope)
  (j:∀vs H Q E,sp vs H Q E->vs.length=ps.length)
  (g:∀(A:zZ)(outer:List Env)(s:zY)(H:Hp)(vs:zM)(Q:VK)(E:XK),B0x k (A.deeper (envOfC qual scope s.heap.objs.size f a))->sp vs H Q E->
   ∃t,PSs (rP CX P w K mg base N qual scope f a A outer s H E) body t/\t {nx:=λ_ H'=>Q .non H',rt:=Q} (qu N vs) H):
  A4q P w K mg base CX (k+1) f (fnOf name qual c body scope F kV p pm an a ct) ps sp:=by
 refine⟨j,λA outer s H G T vs Q E C m U r l=>?_⟩;have L:=j _ _ _ _ l;have KX:K.In s.heap:=m.mod.kin.keeps λb o e=>(m.bs b o e).1;have D:s.heap.NoLimit:=m.mod.nolimit.keeps λb o e=>(m.bs b o e).1
 have d:∀y∈ps.zip T,scope.names.lookup y.1=some .local\/(scope.names.lookup y.1=some .cell/\((cellsFrom (s.heap.objs.size+1) scope.names []).lookup y.1).isSome=true):=λ⟨n,v⟩ M=>by
  rcases S.par n (List.of_mem_zip M).1 with q|q
  ·exact .inl q
  ·exact .inr ⟨q,PySem.W.cellsFrom_some _ _ _ (.inl q)⟩
 refine codeAny_call_function C.depth (KX _ _ lk) rfl S.co S.gen rfl (PySem.W.codeRec_of KX z) (U _ _ _ _ ?_);refine wpAny_newFunctionEnv_cells S.kind d λR Z s1 x=>?_;subst Z;refine⟨D.keeps x.toInCall.keep,codeAny_func ?_⟩;obtain⟨t,X,Y⟩:=g A outer s H vs Q E (C.deeper _) l;have I:Inv (rP CX P w K mg base N qual scope f a A outer s H E) [] (qu N vs) H s1:=GD S C.hd m L r x;refine lR (X [] s1 (qu N vs) H _ I Y) (λO s' h=>?_) λe s' h=>h
 have i:∀{Z':St}{H':Hp}{v:V}{u:zX},Inv (rP CX P w K mg base N qual scope f a A outer s H E) [] Z' H' s'->A2q v u->Q v H'->CE outer P w H s Q u s' :=λ{Z' H' v u} J B q=>(pD v H' J.os J.bare J.base J.hok B q)
 cases O with
 |ret u=>obtain⟨v,Z',H',J,B,q⟩:=h;exact i J B q
 |next=>obtain⟨Z',H',J,q⟩:=h;exact i (v:=V.non) (u:=Value.none) J rfl q
 |brk=>obtain⟨_,_,_,q⟩:=h;exact False.elim q
 |cont=>obtain⟨_,_,_,q⟩:=h;exact False.elim q
section
variable{t:TA}{id:String}{r:zM->Hp->VK->Prop}
def tCB(r:zM->Hp->VK->Prop)(t:TA):TE:=λZ H Q=>t Z H λa b=>r a b Q
theorem jS(k:oB X (.builtin id) r)(q:Gl X x)(o:X.mg x=none)(m:bootBuiltins x=some (.builtin id))(u:PA X (e::es) t)(f:x≠"__name__":=by decide)(c:(x==("__debug__":Str))=false:=by decide)
  (n:starEach (e::es) X.env=(false,eval e X.env)::starEach es X.env:=by rfl) (b:(backTo pos (starEach es X.env)).any (·.1)=false:=by rfl):PE X (.Call (.Name x p) (e::es) [] pos) (tCB r t):=by
 intro a s Z H Q I h;refine wpAny_Call_Name_kw (oF I q o m ?_ f c);exact PyProof.Rows.callWith_builtin1 (thn (u pos a s Z H _ I h) (by rintro v d ⟨i,g,I1,j,l⟩;exact k a d Z g i v Q I1 j l)) n b
theorem oI(k:oB X (.type T) r)(q:Gl X x)(o:X.mg x=none)(m:bootBuiltins x=some (.type T))(u:PA X (e::es) t)(f:x≠"__name__":=by decide)(c:(x==("__debug__":Str))=false:=by decide)
  (n:starEach (e::es) X.env=(false,eval e X.env)::starEach es X.env:=by rfl) (b:(backTo pos (starEach es X.env)).any (·.1)=false:=by rfl):PE X (.Call (.Name x p) (e::es) [] pos) (tCB r t):=by
 intro a s Z H Q I h;refine wpAny_Call_Name_kw (oF I q o m ?_ f c);exact PyProof.Rows.callWith_type1 (thn (u pos a s Z H _ I h) (by rintro v d ⟨i,g,I1,j,l⟩;exact k a d Z g i v Q I1 j l)) n b
end
end L2
namespace HT
open PySem PyProof.Rows
section
open PySem.SeqAt
open PySem.AutoSeq1 (wpAny_loadPart')
open PySem.MeetsSeq PySem.MeetsSeq2 PySem.MeetsSeq3
end
section
variable{prog:yB}{w:yD}{A:zZ}{E:zA}{s:zY}
theorem cat_tup{t b:zW}{vs a:zH}{Q:zA}(v:IsTup s.heap t vs.toArray)(u:IsTup s.heap b a.toArray)(m:vs≠[])
  (h1:a=[]->Q (.ref t) s) (h2:a≠[]->Q (.ref s.heap.objs.size) {s with heap:=s.heap.push {cls:=.type "tuple",data:=.seq (vs++a).toArray}})
  (hsz:vs.length+a.length<=sizeLine):wpAny (model prog w) A (binaryOp .Add (.ref t) (.ref b)) Q E s:=by
 obtain⟨⟨cls,p,data,l⟩,i,k,n,q⟩:=id v;obtain⟨⟨r,h,j,g⟩,c,f,o,d⟩:=id u;simp only at k q f d;subst k q f d;have e:vs.toArray++a.toArray=(vs++a).toArray:=by simp
 by_cases hw:a=[]
 ·exact concat_meets (ah _ i rfl) (ah _ c rfl) noFill_tuple_add seq_tuple_add PySem.F.slot_tuple_add PySem.F.entry_tuple_add (PySem.F.args_tuple_add_2 _ _)
   (tuple_addW1 t b vs.toArray a.toArray n o p h l g (by simpa using m) (by simp[hw])) (hQ i c (h1 hw))
 ·refine concat_meets (ah _ i rfl) (ah _ c rfl) noFill_tuple_add seq_tuple_add PySem.F.slot_tuple_add PySem.F.entry_tuple_add (PySem.F.args_tuple_add_2 _ _)
   (tuple_addW2 t b vs.toArray a.toArray n o p h l g (by simpa using m) (by simpa using hw) (by rw[jK,jK];exact hsz)) (hQ i c ?_)
  rw[e];exact h2 hw
def sIx(n d:Nat):Option Int->Nat|none=>d|some v=>if v<0 then (v+(n:Int)).toNat else min v.toNat n
theorem sIx_nat(n d k:Nat):sIx n d (some (k:Int))=min k n:=by show(if (k:Int)<0 then ((k:Int)+(n:Int)).toNat else min (k:Int).toNat n)=min k n;rw[fy (by lia),Int.toNat_natCast]
end
end HT
namespace L2
open PySem PySem.Spec PyProof.Rows
variable{α:Type}{zs ys:zM}{x v d:V}{value e:yC}{ty tx tv to tk te td:TE}{r:V->Option Int->Option Int->Hp->VK->Prop}{xs:List (List Key×zW×zX)}{us:zH}{prog:yB}{p2 cpos apos:Pos}{p l b:zW}{ns:zI}{name:Str}{lo hi:Option yC}{ks:zU}{j:Nat}{its its':zH}{n t':Nat}{pins:zD}{h' h:yA}{es:zT}{d':zX}{Z:St}{T:String}{H' H:Hp}{s:zY}{f:zG->Array zX}{y:V}{u:zX}{o:zP}{P:yB}{w:yD}{kvs:List (List Key×V)}{a:zW}{Q E:zA}{pos:Pos}{X:Cx}{trs:List (TE×TE)}{A:zZ}
abbrev TO:=St->Hp->(Option Int->Hp->Prop)->Prop
def PO(X:Cx)(e:Option yC)(t:TO):Prop :=
 ∀(a:zD)(s:zY)(Z:St)(H:Hp)(Q:Option Int->Hp->Prop),Inv X a Z H s->t Z H Q->
  wpAny (model X.prog X.w) X.A (evalPart e X.env) (λu c=>∃o b,Inv X a Z b c/\IsPart u o/\Q o b) X.xe s
def Ep:TO:=λ_ H Q=>Q none H
def Cw(t:TE):TO:=λZ H Q=>t Z H λx a=>∃i,x=.int i/\Q (some i) a
theorem BO:∀{us:zH},A2d (ns.map V.int) us->IntsAre us ns:=by
 induction ns with
 |nil=>intro us r;rw[List.map_nil]at r;cases r;exact .nil
 |cons n ns ih=>
  intro us r;rw[iN]at r
  cases r with
  |cons r1 r2=>obtain⟨t,e⟩:=r1;subst e;exact .cons n t (ih r2)
section
variable{tl th:TO}
theorem nI:PO X none Ep:=by intro a s Z H Q I h;rw[evalPart_none];exact hE (fx none H I .none h)
theorem lY(h:PE X e te):PO X (some e) (Cw te):=by intro a s Z H Q I f;rw[evalPart_some];refine thn (h a s Z H _ I f) ?_;rintro u g ⟨x,b,I1,c,d⟩;obtain⟨i,rfl,q⟩:=d;obtain⟨t,rfl⟩:=c;exact fx (some i) b I1 (.int i t) q
def SlR(X:Cx)(r:V->Option Int->Option Int->Hp->VK->Prop):Prop :=
 ∀(a:zD)(s:zY)(Z:St)(H:Hp)(x:V)(v e b:zX)(c f:Option Int)(d:zW)(Q:VK),Inv X a Z H s->A2q x v->s.heap.IsSliceOf d e b .none->IsPart e c->IsPart b f->r x c f H Q->
  ∃T id,typeLookup (.type T) "__getitem__"=pure (some (.builtin id))/\s.TypeIs v T/\wpAny (model X.prog X.w) X.A (getItem v (.ref d)) (EP X a Z Q) X.xe s
def tSl(r:V->Option Int->Option Int->Hp->VK->Prop)(te:TE)(tl th:TO):TE:=λZ H Q=>te Z H λx b=>tl Z b λl c=>th Z c λu a=>r x l u a Q
theorem mW(o:SlR X r)(n:PE X e te)(i:PO X lo tl)(m:PO X hi th):PE X (.Subscript e (.Slice lo hi none p2) pos) (tSl r te tl th):=by
 intro a s Z H Q I h;refine Subscript_ (thn (n a s Z H _ I h) ?_);rintro v t ⟨x,B,I1,C,j⟩;refine wpAny_Slice (thn (i a t Z B _ I1 j) ?_);rintro f F ⟨l,p,I2,K,y⟩;refine thn (m a F Z p _ I2 y) ?_;rintro d c ⟨u,g,I3,z,k⟩;rw[evalPart_none];refine hE ?_;have I4:Inv X a Z g {c with heap:=c.heap.push {cls:=.type "slice",data:=.fields #[f,d,.none]}}:=I3.kept (t':=c.toks) λb L q=>iB _ q
 obtain⟨T,id,D,G,J⟩:=o a {c with heap:=c.heap.push {cls:=.type "slice",data:=.fields #[f,d,.none]}} Z g x v f d l u c.heap.objs.size Q I4 C (Heap.IsSliceOf.new ..) K z k;show wpAny (model X.prog X.w) X.A (subscriptTail e (.Slice lo hi none p2) v (.ref c.heap.objs.size)) (EP X a Z Q) X.xe {c with heap:=c.heap.push {cls:=.type "slice",data:=.fields #[f,d,.none]}};exact tail_any (ops:=[.ref c.heap.objs.size,v]) G D J (by with_unfolding_all rfl)
def kR(xs:zM)(lo hi:Option Int):zM:=(xs.drop (HT.sIx xs.length 0 lo)).take (HT.sIx xs.length xs.length hi-HT.sIx xs.length 0 lo)
theorem Jr(xs:zM)(lo hi:Option Int):(kR xs lo hi).length<=xs.length:=by
 unfold kR;rw[iX,wj]
 lia
def CU(K:Frag):R2:=λx y H Q=>∃a b d c,x=.ref a/\y=.ref b/\SqT K H a d/\SqT K H b c/\d≠[]/\d.length+c.length<=sizeLine/\
 (c=[]->Q (.ref a) H)/\(c≠[]->∀p,H p=none->Q (.ref p) (upd H p (.tup (d++c))))
theorem A2d.nil_iff{xs:zM}(r:A2d xs us):us=[]↔xs=[]:=by
 cases r with
 |nil=>simp
 |cons _ _=>simp
theorem zv:OpR X (binaryOp .Add) (CU X.K):=by intro g s Z H x y v u Q I j n h;refine jy h ?_;clear h;rintro a b t i rfl rfl C ⟨A,p,e,l,r⟩;cases j;cases n;obtain⟨B,d,k,_⟩:=I.tuple C;obtain⟨f,c,m,_⟩:=I.tuple A;refine HT.cat_tup k m (λz=>p (d.nil_iff.mp z)) (λz=>(fx (.ref a) H I rfl (l (c.nil_iff.mp z)))) (λz=>?_) (by rw[<-d.length,<-c.length];exact e);refine fx (.ref s.heap.objs.size) _ (I.laid (t':=s.toks) (o:=.tup (t++i)) (λb D q=>iB _ q) (ig _) ?_) rfl (r (λw=>z (c.nil_iff.mpr w)) _ (I.hok.fresh (ig _)));exact iV (by rw[jc];exact e) _ (d.append c) (IsTup.new _ _)
end
def ixN(n:Nat)(i:Int):Option Nat:=if 0<=i then (if i<n then some i.toNat else none)else if -(n:Int)<=i then some (i+n).toNat else none
def atI{α:Type}(xs:List α)(i:Int):Option α:=(ixN xs.length i).bind λj=>xs[j]?
theorem zy{i:Int}(h:ixN n i=some j):seqIndex? i n=some j/\j<n/\-(n:Int)<=i/\i<n:=by
 unfold ixN at h;by_cases h0:0<=i
 ·rw[ia h0]at h;by_cases h1:i<n
  ·rw[ia h1]at h;have e:i.toNat=j:=lI h;exact jO (by rw[seqIndex_of h0 h1,e]) (by lia) (by lia) h1
  ·rw[fy h1]at h;cases h
 ·rw[fy h0]at h;by_cases h1: -(n:Int)<=i
  ·rw[ia h1]at h;have e:(i+n).toNat=j:=lI h;exact jO (by rw[seqIndex_neg (by lia) h1,e]) (by lia) h1 (by lia)
  ·rw[fy h1]at h;cases h
theorem Aj{xs:List α}{i:Int}{v:α}(h:atI xs i=some v):∃j,seqIndex? i xs.length=some j/\xs[j]?=some v/\j<xs.length/\-(xs.length:Int)<=i/\i<xs.length:=by
 unfold atI at h
 cases e:ixN xs.length i with
 |none=>rw[e]at h;cases h
 |some j=>rw[e]at h;obtain⟨a,d,c,b⟩:=zy e;exact⟨j,(jH a h d c b)⟩
theorem hY{xs:List α}{v:α}(h:xs[j]?=some v):atI xs (j:Int)=some v:=by
 have a:j<xs.length:=(iG.mp h).1
 have e:ixN xs.length (j:Int)=some j:=by unfold ixN;rw[ia (by lia),ia (by lia)];simp
 unfold atI;rw[e];exact h
def EH(b:yC):Prop:=∀o i,subscripted b false o i=operate [o,i] (getItem o i)
def IxR(X:Cx)(r:R2):Prop :=
 ∀(c a:yC)(b:zD)(s:zY)(Z:St)(H:Hp)(x y:V)(v u:zX)(Q:VK),Inv X b Z H s->A2q x v->A2q y u->r x y H Q->
  subscripted a false v u=operate [v,u] (getItem v u)->wpAny (model X.prog X.w) X.A (subscriptTail c a v u) (EP X b Z Q) X.xe s
def MtR(X:Cx)(id:String)(r:V->List V->Hp->VK->Prop):Prop :=
 ∀(a:zD)(s:zY)(Z:St)(H:Hp)(x:V)(b:zM)(v:zX)(c:zH)(Q:VK),Inv X a Z H s->A2q x v->A2d b c->r x b H Q->
  wpAny (model X.prog X.w) X.A (call (.builtin id) (v::c)) (EP X a Z Q) X.xe s
section
variable{X:Cx}{a b:yC}{ta tb:TE}{pos:Pos}
theorem jr{r:R2}(j:IxR X r)(l:PE X a ta)(e:PE X b tb)(f:EH b:=by exact λ_ _=>rfl):PE X (.Subscript a b pos) (tOp r ta tb):=by intro c s Z H Q I h;exact Subscript_ (wy l e I h λv u g x y k I2 d i q=>j a b c g Z k x y v u Q I2 d i q (f _ _))
def yc(K:Frag):R2:=λx y H Q=>∃p a i v,x=.ref p/\y=.int i/\SqL K H p a/\atI a i=some v/\Q v H
def uM(K:Frag):R2:=λx y H Q=>∃p a i v,x=.ref p/\y=.int i/\SqT K H p a/\atI a i=some v/\Q v H
theorem kd:IxR X (yc X.K):=by
 intro f e a s Z H x y v u Q I A C h m;refine jy h ?_;clear h;rintro p O i z rfl rfl J ⟨L,q⟩;cases A;obtain⟨t,rfl⟩:=C;obtain⟨k,r,l,P⟩:=I.list J;obtain⟨j,c,B,M,G,D⟩:=Aj L;obtain⟨w,n,g⟩:=r.get B;have o:=r.length;have N:=vm;have b:EP X a Z Q w s:=(fx z H I g q);by_cases h0:0<=i
 ·have d:i.toNat=j:=by
   rw[seqIndex_of h0 D]at c;exact lI c
  exact item_listR l.isList h0 (by lia) (by rw[d];simpa using n) b m
 ·have d:(i+(k.toArray.size:Int)).toNat=j:=by
   rw[seqIndex_neg (by lia) G]at c;rw[jK,<-o];exact lI c
  exact subscriptTail_builtinR (x:=w) l.isList.typeIs slot_list_getitem.lookup
   (wpAny_getItem_list_neg (Q:=λr F=>r=w/\EP X a Z Q r F) l.isList (by lia) (by rw[jK]<;>lia) (by lia) (by rw[d];simpa using n) ⟨rfl,b⟩) m
theorem rZ:IxR X (uM X.K):=by
 intro d c a s Z H x y v u Q I k m h o;refine jy h ?_;clear h;rintro p M i z rfl rfl D ⟨F,q⟩;cases k;obtain⟨t,rfl⟩:=m;obtain⟨A,r,f,O⟩:=I.tuple D;obtain⟨j,C,l,G,N,J⟩:=Aj F;obtain⟨w,B,e⟩:=r.get l;have g:=r.length;have L:=vm;have b:EP X a Z Q w s:=(fx z H I e q)
 exact subscriptTail_builtinR (x:=w) f.typeIs slot_tuple_getitem.lookup
  (getItem_tuple (j:=j) (Q:=λr n=>r=w/\EP X a Z Q r n) f (by lia) (by lia) (by rw[jK,<-g];exact C) (by simpa using B) ⟨rfl,b⟩) o
theorem HR(its:zH)(n j:Nat)(u:zX):Obj.mapSeq (·.setIfInBounds j u) {cls:=.type "list",data:=.seq its.toArray n}={cls:=.type "list",data:=.seq (its.set j u).toArray n}:=by simp[Obj.mapSeq]
theorem Inv.lst{p:zW}{xs:zM}(I:Inv X pins Z H s)(h:H p=some (.lst xs)):
  ∃(its:zH)(n:Nat),A2d xs its/\s.heap.get? p=some {cls:=.type "list",data:=.seq its.toArray n}/\xs.length<=sizeLine:=by
 obtain⟨z,its,n,r,e⟩:=I.hok p _ h;exact fx its n r e z
theorem Inv.lstUpd{xs:zM}{a:Nat}{f:Obj->Obj}(I:Inv X pins Z H s)(h:H p=some (.lst xs))
  (g:s.heap.get? p=some {cls:=.type "list",data:=.seq its.toArray n}) (c:f {cls:=.type "list",data:=.seq its.toArray n}={cls:=.type "list",data:=.seq its'.toArray a}) (r:A2d ys its') (hz:ys.length<=sizeLine) (t:Nat):
  Inv X pins Z (upd H p (.lst ys)) {s with heap:=s.heap.update p f,toks:=t}:=by
 have e:(s.heap.update p f).get? p=some {cls:=.type "list",data:=.seq its'.toArray a}:=by rw[rL f g (by rw[c]<;>rfl),c]
 refine I.write (x:=p) (e:=p) (by rw[h];trivial) (.inl rfl) (λb u d q=>(wg _ _ (Ne.symm d)).trans q) ⟨_,e⟩ ?_;exact mw hz its' a r e
def CA:V->V->V->Hp->(Hp->Prop)->Prop:=λo i v H Q=>∃p a k j,o=.ref p/\i=.int k/\H p=some (.lst a)/\ixN a.length k=some j/\Q (upd H p (.lst (a.set j v)))
theorem uf:wx X CA:=by
 intro b s Z H o i v C F u Q I y z w h;refine jy h ?_;clear h;rintro p A k j rfl rfl m ⟨x,q⟩;cases y;obtain⟨t,rfl⟩:=z;obtain⟨a,n,r,e,B⟩:=I.lst m;obtain⟨c,D,g,l⟩:=zy x;have d:=r.length;have G:=vm
 have I':Inv X b Z (upd H p (.lst (A.set j v))) {s with heap:=s.heap.update p (Obj.mapSeq (·.setIfInBounds j u))}:=I.lstUpd m e (HR a n j u) (r.set w j) (by rw[List.length_set];exact B) s.toks
 by_cases h0:0<=k
 ·have f:k.toNat=j:=by
   rw[seqIndex_of h0 l]at c;exact lI c
  exact PySem.W.ki_setAt e h0 (by lia) (by rw[jK,<-d];exact l) (by rw[f];exact ah _ I' q)
 ·have f:(k+(a.toArray.size:Int)).toNat=j:=by
   rw[seqIndex_neg (by lia) g]at c;rw[jK,<-d];exact lI c
  exact PySem.W.ki_setBack e (by lia) (by rw[jK,<-d];exact g) (by lia) (by rw[f];exact ah _ I' q)
theorem Jz(lo hi:Option Int)(n:Nat):(sliceBounds lo hi none n).1=((HT.sIx n 0 lo:Nat):Int)/\(sliceBounds lo hi none n).2.1=((HT.sIx n n hi:Nat):Int)/\(sliceBounds lo hi none n).2.2=1:=by
 refine hQ ?_ ?_ rfl
 ·cases lo with
  |none=>simp[sliceBounds,HT.sIx]
  |some i=>
   simp only [sliceBounds,HT.sIx,Option.getD_none,show(1:Int)>0 by decide,if_true];by_cases h:i<0
   ·simp only [h,if_true]<;>lia
   ·simp only [h,if_false]<;>lia
 ·cases hi with
  |none=>simp[sliceBounds,HT.sIx]
  |some i=>
   simp only [sliceBounds,HT.sIx,Option.getD_none,show(1:Int)>0 by decide,if_true];by_cases h:i<0
   ·simp only [h,if_true]<;>lia
   ·simp only [h,if_false]<;>lia
theorem JR(its:zH)(lo hi:Option Int):slicePick its.toArray lo hi none=((its.drop (HT.sIx its.length 0 lo)).take (HT.sIx its.length its.length hi-HT.sIx its.length 0 lo)).toArray:=by obtain⟨b,c,a⟩:=Jz lo hi its.toArray.size;unfold slicePick;rw[b,c,a];simp only [sliceRange_one,pick_run,jK]<;>rfl
def rSlL(K:Frag):V->Option Int->Option Int->Hp->VK->Prop:=λx c d H Q=>∃a b,x=.ref a/\SqL K H a b/\∀p,H p=none->Q (.ref p) (upd H p (.lst (kR b c d)))
theorem mV:SlR X (rSlL X.K):=by intro i s Z H x v z y e f u Q I k m t j h;obtain⟨a,c,rfl,p,q⟩:=h;cases k;obtain⟨n,r,g,l⟩:=I.list p;have d:=r.length;refine fx "list" _ slot_list_getitem.lookup g.isList.typeIs ?_;refine wpAny_getItem_list_slice g.isList m t j .none (by simp) ?_ (by rw[jK]<;>lia);rw[JR,<-d];refine fx (.ref s.heap.objs.size) _ (I.laid (t':=s.toks) (o:=.lst (kR c e f)) (λb w q=>iB _ q) (ig _) ?_) rfl (q _ (I.hok.fresh (ig _)));exact mw (nO (Jr c e f) l) _ 0 ((r.drop (HT.sIx c.length 0 e)).take (HT.sIx c.length c.length f-HT.sIx c.length 0 e)) (jw _ rfl)
def pL:V->Bool|.non=>true|.bl _=>true|.int _=>true|.str _=>true|_=>false
noncomputable def eqV:V->V->Bool|.non,.non=>true|.bl a,.bl b=>a==b|.bl a,.int b=>(if a then 1 else 0)==b|.int a,.bl b=>a==(if b then 1 else 0)|.int a,.int b=>a==b|.str a,.str b=>a==b|_,_=>false
theorem Dr{v:zX}(e:A2q y u)(c:A2q x v)(g:pL y=true)(f:pL x=true):SeqAt.EqAt A s u v (eqV y x):=by
 cases y with
 |non=>
  cases e
  cases x with
  |non=>cases c;exact SeqAt.EqAt.same _
  |bl b=>cases c;exact SeqAt.EqAt.none_bool b
  |int b=>obtain⟨t,rfl⟩:=c;exact SeqAt.EqAt.none_int b t
  |str b=>obtain⟨t,rfl⟩:=c;exact SeqAt.EqAt.none_str b t
  |_=>exact absurd (show false=true from f) jD
 |bl a=>
  cases e
  cases x with
  |non=>cases c;exact SeqAt.EqAt.bool_none a
  |bl b=>cases c;exact SeqAt.EqAt.bool_bool a b
  |int b=>obtain⟨t,rfl⟩:=c;exact SeqAt.EqAt.bool_int a b t
  |str b=>obtain⟨t,rfl⟩:=c;exact SeqAt.EqAt.bool_str a b t
  |_=>exact absurd (show false=true from f) jD
 |int a=>
  obtain⟨d,rfl⟩:=e
  cases x with
  |non=>cases c;exact SeqAt.EqAt.int_none a d
  |bl b=>cases c;exact SeqAt.EqAt.int_bool a d b
  |int b=>obtain⟨t,rfl⟩:=c;exact SeqAt.EqAt.int_int a d b t
  |str b=>obtain⟨t,rfl⟩:=c;exact SeqAt.EqAt.int_str a d b t
  |_=>exact absurd (show false=true from f) jD
 |str a=>
  obtain⟨d,rfl⟩:=e
  cases x with
  |non=>cases c;exact SeqAt.EqAt.str_none a d
  |bl b=>cases c;exact SeqAt.EqAt.str_bool a d b
  |int b=>obtain⟨t,rfl⟩:=c;exact SeqAt.EqAt.str_int a d b t
  |str b=>obtain⟨t,rfl⟩:=c;exact SeqAt.EqAt.str_str a d b t
  |_=>exact absurd (show false=true from f) jD
 |_=>exact absurd (show false=true from g) jD
def eqU(x:V)(u:zX):Bool:=match u with|.none=>eqV .non x|.bool b=>eqV (.bl b) x|.int i _=>eqV (.int i) x|.str z _=>eqV (.str z) x|_=>false
theorem zf(r:A2q y u)(f:pL y=true):eqU x u=eqV y x:=by
 cases y with
 |non=>cases r;rfl
 |bl b=>cases r;rfl
 |int i=>obtain⟨t,rfl⟩:=r;rfl
 |str z=>obtain⟨t,rfl⟩:=r;rfl
 |_=>exact absurd (show false=true from f) jD
theorem xc{x:V}:∀{xs:zM}{us:zH},A2d xs us->xs.all pL=true->us.any (eqU x)=xs.any λy=>eqV y x|_,_,.nil,_=>rfl|y::xs,u::us,.cons r t,f=>by rw[List.all_cons,qf]at f;rw[List.any_cons,List.any_cons,zf r f.1,xc t f.2]
theorem xy{A:zZ}{s:zY}{x:V}{v:zX}(b:A2q x v)(c:pL x=true):∀{xs:zM}{us:zH},A2d xs us->xs.all pL=true->∀u∈us,SeqAt.EqAt A s u v (eqU x u)
 |_,_,.nil,_=>λu a=>by cases a
 |y::xs,u::us,.cons r t,f=>λd a=>by
  rw[List.all_cons,qf]at f;rcases jt.mp a with rfl|a
  ·rw[zf r f.1];exact Dr r b f.1 c
  ·exact xy b c t f.2 d a
def inV(x:V)(xs:zM):Bool:=xs.any λy=>eqV y x
def rIn(K:Frag)(b:Bool):R2:=λx y H Q=>∃p a,y=.ref p/\(SqL K H p a\/SqT K H p a)/\pL x=true/\a.all pL=true/\Q (.bl (if b then ! inV x a else inV x a)) H
theorem JA:OpR X (compareOp .NotIn) (rIn X.K true):=by
 intro i s Z H x y v u Q I f k h;refine jC h ?_;clear h;rintro p l rfl b g ⟨c,q⟩;cases k;rcases b with b|b
 ·obtain⟨a,r,e,j⟩:=I.list b;refine SeqAt.notIn_listAt (eqU x) e.isList (λw d=>xy f g r c w (by simpa using d)) (fx (.bl _) H I rfl ?_);rw[show a.toArray.any (eqU x)=a.any (eqU x)by simp,xc r c];exact q
 ·obtain⟨a,r,e,j⟩:=I.tuple b;refine SeqAt.notIn_tupleAt (eqU x) e (λw d=>xy f g r c w (by simpa using d)) (fx (.bl _) H I rfl ?_);rw[show a.toArray.any (eqU x)=a.any (eqU x)by simp,xc r c];exact q
theorem JF:oB X (.builtin "len") (λxs H Q=>∃p ys,xs=[.ref p]/\(SqL X.K H p ys\/SqT X.K H p ys)/\Q (.int ys.length) H):=by
 intro f s Z H xs k Q I r h;obtain⟨p,ys,rfl,b,q⟩:=h;obtain⟨u,rfl,g⟩:=ph r;cases g;have j:=vm;rcases b with b|b
 ·obtain⟨c,d,e,i⟩:=I.list b;have a:=d.length;exact Calls.call_len_list e.isList (by simp only [jK]<;>lia) (fx (.int ys.length) H (I.tok _) ⟨s.toks+1,by rw[jK,a]⟩ q)
 ·obtain⟨c,d,e,i⟩:=I.tuple b;have a:=d.length;exact len_tuple e (by simp only [jK]<;>lia) (fx (.int ys.length) H (I.tok _) ⟨s.toks+1,by rw[jK,a]⟩ q)
theorem vY:oB X (.type "list") (λxs H Q=>∃p ys,xs=[.ref p]/\(SqL X.K H p ys\/SqT X.K H p ys)/\∀l,H l=none->Q (.ref l) (upd H l (.lst ys))):=by
 intro m s Z H xs C Q I r h;obtain⟨p,ys,rfl,t,q⟩:=h;obtain⟨u,rfl,B⟩:=ph r;cases B
 have g:∀(a:zH),A2d ys a->ys.length<=sizeLine->∀(c:yA)(f:Nat),(∀b A,s.heap.get? b=some A->c.get? b=some A)->
   c.get? s.heap.objs.size=some {cls:=.type "list",dict:=none,data:=.seq a.toArray f,slots:=#[]}->EP X m Z Q (.ref s.heap.objs.size) {s with heap:=c}:=λa d i c f k e=>
  (fx (.ref s.heap.objs.size) _ (I.laid (t':=s.toks) k (ig _) (show A1s X.prog X.w _ c _ (.lst ys) from (mw i a f d e))) rfl (q _ (I.hok.fresh (ig _))))
 rcases t with t|t
 ·obtain⟨a,d,z,i⟩:=I.list t;have j:=d.length;obtain⟨o,x,v,n,y⟩:=z.isList;exact call_list_seq p (.inl rfl) x v y (λc f k e=>g a d i c f k e) (by simp only [jK]<;>lia)
 ·obtain⟨a,d,z,i⟩:=I.tuple t;have j:=d.length;obtain⟨o,x,v,n,y⟩:=z;exact call_list_seq p (.inr rfl) x v y (λc f k e=>g a d i c f k e) (by simp only [jK]<;>lia)
theorem sR:oB X (.type "tuple") (λxs H Q=>∃p ys,xs=[.ref p]/\((SqL X.K H p ys/\∀l,H l=none->Q (.ref l) (upd H l (.tup ys)))\/(SqT X.K H p ys/\Q (.ref p) H))):=by
 intro a s Z H xs t Q I r h;obtain⟨p,ys,rfl,h⟩:=h;obtain⟨u,rfl,m⟩:=ph r;cases m;rcases h with ⟨g,q⟩|⟨g,q⟩
 ·obtain⟨c,f,i,j⟩:=I.list g;have k:=f.length;refine call_tuple_list i.isList (λd n=>?_) (by simp only [jK]<;>lia);have I1:Inv X a Z H {s with heap:=d}:=I.kept (t':=s.toks) n
  have I2:Inv X a Z (upd H d.objs.size (.tup ys)) {s with heap:=d.push {cls:=.type "tuple",data:=.seq c.toArray}}:=I1.laid (t':=s.toks) (λb o e=>iB _ e) (ig _) (show A1s X.prog X.w _ _ _ (.tup ys) from (iV j c f (IsTup.new _ _)))
  exact fx (.ref d.objs.size) _ I2 rfl (q _ (I1.hok.fresh (ig _)))
 ·obtain⟨c,f,i,j⟩:=I.tuple g;exact call_tuple_same i (fx (.ref p) H I rfl q)
def tyV(K:Frag)(T:String)(x:V)(H:Hp):Prop:=match x with
 |.str _=>T="str"
 |.int _=>T="int"
 |.ref p=>(T="list"/\∃b,SqL K H p b)\/(T="tuple"/\∃o,K.lookup p=some o/\o.cls=.type "tuple"/\o.dict=none)\/
   (T="dict"/\((∃a,H p=some (.dK a))\/∃a,H p=some (.dT a)))\/(T="set"/\∃S n,H p=some (.set S n))
 |_=>False
theorem zd{v:zX}(I:Inv X pins Z H s)(r:A2q x v)(ty:tyV X.K T x H):
  s.TypeIs v T/\∀a,v=.ref a->∃j,s.heap.get? a=some j/\j.dict=none:=by
 cases x with
 |str z=>obtain⟨t,rfl⟩:=r;cases(show T="str" from ty);exact⟨typeIs_str s z t,λ_ e=>nomatch e⟩
 |int i=>obtain⟨t,rfl⟩:=r;cases(show T="int" from ty);exact⟨typeIs_int s i t,λ_ e=>nomatch e⟩
 |ref p=>
  cases r
  rcases ty with ⟨rfl,u,q⟩|⟨rfl,o,b,l,f⟩|⟨rfl,b⟩|⟨rfl,S,n,b⟩
  ·obtain⟨m,_,k,_⟩:=I.list q;refine⟨k.isList.typeIs,λa e=>?_⟩;cases e;obtain⟨o,n,e,c,f,_⟩:=k;exact ah o e f
  ·refine⟨(ah o (I.kIn p o b) l),λa e=>?_⟩;cases e;exact ah o (I.kIn _ o b) f
  ·have z:∃o,s.heap.get? p=some o/\o.ExactDict:=by
    rcases b with ⟨h,b⟩|⟨h,b⟩
    ·refine mj (I.hok p _ b) ?_;rintro _ _ _ _ o _ _ e ⟨d,_⟩;exact ah o e d
    ·refine mj (I.hok p _ b) ?_;rintro _ _ _ _ o _ _ e ⟨d,_⟩;exact ah o e d
   obtain⟨o,e,d⟩:=z;refine⟨(ah o e d.1),λa g=>?_⟩;cases g;exact ah o e d.2.1
  ·refine pE (I.hok p _ b) ?_;rintro o _ _ ⟨_,e,d,_⟩;refine⟨(ah o e d.1),λa g=>?_⟩;cases g;exact ah o e d.2.1
 |_=>exact False.elim ty
def wb(K:Frag)(T:String)(r:V->List V->Hp->VK->Prop)(to:TE):TE:=λZ H Q=>to Z H λx a=>tyV K T x a/\r x [] a Q
def tBM(K:Frag)(T:String)(r:V->List V->Hp->VK->Prop)(to:TE)(t:TA):TE:=λZ H Q=>to Z H λx a=>tyV K T x a/\t Z a λc b=>r x c b Q
variable{o:yC}{t:TA}{id:String}{r:V->List V->Hp->VK->Prop}
theorem oG(j:PlainAttrs T)(d:Slot T name id)(e:typeOf (.builtin id)=pure (.type "method_descriptor"))(p:MtR X id r)(q:PE X o to)
  (c:attributeBase o name X.env (eval o X.env)=eval o X.env:=by rfl) (b:(apos.endLine==cpos.line)=true:=by rfl):PE X (.Call (.Attribute o name apos) [] [] cpos) (wb X.K T r to):=by
 intro a s Z H Q I h;refine wpAny_Call_method0_late c b (thn (q a s Z H _ I h) ?_);rintro v g ⟨x,i,I1,f,m,k⟩;obtain⟨n,l⟩:=zd I1 f m;exact pD T id j d e n l (Calls.callWith_builtin rfl (PySem.evalArgs_none (p a g Z i x [] v [] Q I1 f .nil k)))
theorem lJ(l:PlainAttrs T)(g:Slot T name id)(i:typeOf (.builtin id)=pure (.type "method_descriptor"))(y:MtR X id r)(u:PE X o to)(L:PA X (e::es) t)
  (d:attributeBase o name X.env (eval o X.env)=eval o X.env:=by rfl)
  (f:((backTo cpos (starEach (e::es) X.env)).all (λx=> ! x.1)&&(backToKw cpos (keywordEach [] X.env)).all (λx=>x.1.isSome)
   && decide ((e::es).length+([]:List Keyword).length+(if ([]:List Keyword).isEmpty then 0 else 1)<30))=true:=by rfl)
  (c:(apos.endLine==cpos.line)=true:=by rfl) (D:starEach (e::es) X.env=(false,eval e X.env)::starEach es X.env:=by rfl) (b:(backTo cpos (starEach es X.env)).any (·.1)=false:=by rfl):
  PE X (.Call (.Attribute o name apos) (e::es) [] cpos) (tBM X.K T r to t):=by
 intro a s Z H Q I h;refine wpAny_Call_method_late d f c rfl (thn (u a s Z H _ I h) ?_);rintro v z ⟨x,B,I1,k,p,m⟩;obtain⟨F,n⟩:=zd I1 k p;refine pD T id l g i F n ?_;have j:=L cpos a z Z B _ I1 m;rw[D]at j⊢;refine Calls.callWith_builtin (by show(false||(backTo cpos (starEach es X.env)).any (·.1))=false;rw[b]<;>rfl) (Calls.evalArgs_plain ?_);exact thn j (by rintro q G ⟨C,w,I2,J,A⟩;exact y a G Z w x C v q Q I2 k J A)
end
def MtM(X:Cx)(id:String)(r:V->List V->Hp->VK->Prop):Prop :=
 ∀(a:zD)(s:zY)(Z:St)(H:Hp)(x:V)(b:zM)(v:zX)(c:zH)(Q:VK),Inv X a Z H s->A2q x v->A2d b c->r x b H Q->
  wpAny (model X.prog X.w) X.A (call (.builtin id) (v::c)) (EP X a Z Q) X.xe s
theorem A2d.one:∀{x:V}{us:zH},A2d [x] us->∃u,us=[u]/\A2q x u|_,_,.cons r .nil=>(ah _ rfl r)
theorem A2d.zero:∀{us:zH},A2d [] us->us=[]|_,.nil=>rfl
theorem A2d.dropLast{xs:zM}(h:A2d xs us):A2d xs.dropLast us.dropLast:=by
 induction h with
 |nil=>exact .nil
 |cons r t ih=>
  cases t with
  |nil=>exact .nil
  |cons q t'=>exact .cons r ih
theorem A2d.eraseIdx:∀{xs:zM}{us:zH}(i:Nat),A2d xs us->A2d (xs.eraseIdx i) (us.eraseIdx i)|_,_,_,.nil=>.nil|_,_,0,.cons _ t=>t|_,_,i+1,.cons r t=>.cons r (A2d.eraseIdx i t)
theorem A2d.reverse{xs:zM}(h:A2d xs us):A2d xs.reverse us.reverse:=by
 induction h with
 |nil=>exact .nil
 |cons r t ih=>rw[List.reverse_cons,List.reverse_cons];exact A2d.append ih (.cons r .nil)
theorem A2d.rep{xs:zM}{us:zH}(h:A2d xs us):∀k:Nat,A2d (List.replicate k xs).flatten (List.replicate k us).flatten|0=>.nil|k+1=>by rw[List.replicate_succ,List.replicate_succ,List.flatten_cons,List.flatten_cons];exact A2d.append h (A2d.rep h k)
theorem HZ(l:List α):l.eraseIdx (l.length-1)=l.dropLast:=by
 induction l with
 |nil=>rfl
 |cons a r ih=>
  cases r with
  |nil=>rfl
  |cons b r=>
   have e:(a::b::r).length-1=((b::r).length-1)+1:=by
    have c:(a::b::r).length=r.length+2:=rfl;have d:(b::r).length=r.length+1:=rfl
    lia
   rw[e,List.eraseIdx_cons_succ,ih]
   all_goals rfl
theorem A9{α:Type}:∀(l:List α)(i:Nat),(l.eraseIdx i).length<=l.length| [],_=>ig _|_::_,0=>Nat.le_succ _|_::r,i+1=>Nat.succ_le_succ (A9 r i)
theorem A8(its:zH):∀(k:Nat)(a:zH),
  List.foldl (λx1 x2=>x1++x2) a.toArray (List.replicate k its.toArray)=(a++(List.replicate k its).flatten).toArray
 |0,a=>by simp
 |k+1,a=>by
  have e:a.toArray++its.toArray=(a++its).toArray:=by simp
  have b:(a++its)++(List.replicate k its).flatten=a++(List.replicate (k+1) its).flatten:=by rw[List.replicate_succ,List.flatten_cons,nR]
  rw[<-b,<-A8 its k (a++its),<-e,List.replicate_succ,List.foldl_cons]
section
variable{xs:zM}
theorem Inv.lset(I:Inv X pins Z H s)(d:H l=some (.lst xs))
  (e:s.heap.get? l=some {cls:=.type "list",data:=.seq its.toArray n}) (a:f its.toArray=its'.toArray) (c:A2d ys its') (hz:ys.length<=sizeLine):
  Inv X pins Z (upd H l (.lst ys)) {s with heap:=s.heap.update l (Obj.mapSeq f),toks:=t'}:=by
 have q:=PySem.IsL.update e f;rw[a]at q;refine I.write (x:=l) (e:=l) (by rw[d];exact trivial) (.inl rfl) (λh u b g=>(wg s.heap (Obj.mapSeq f) (Ne.symm b)).trans g) ⟨_,q⟩ ?_;exact mw hz its' _ c q
theorem Inv.lnew(I:Inv X pins Z H s)(a:A2d ys its)(hz:ys.length<=sizeLine):
  Inv X pins Z (upd H s.heap.objs.size (.lst ys)) {s with heap:=s.heap.push {cls:=.type "list",data:=.seq its.toArray},toks:=t'}:=
 I.laid (λ_ _ q=>iB _ q) (ig _) (mw hz its 0 a (jw _ rfl))
theorem Inv.fresh(I:Inv X pins Z H s):H s.heap.objs.size=none:=I.hok.fresh (ig _)
theorem Inv.lstM(I:Inv X pins Z H s)(a:H l=some (.lst xs)):xs.length<=sizeLine/\∃(its:zH)(n:Nat),A2d xs its/\xs.length=its.length/\s.heap.get? l=some {cls:=.type "list",data:=.seq its.toArray n}:=by obtain⟨z,its,n,r,e⟩:=I.hok l _ a;exact jN z its n r r.length e
theorem Aq(h:n<=sizeLine):Builtin.List.listTooLong n=false:=by unfold Builtin.List.listTooLong;exact mZ (by lia)
end
def w8:V->List V->Hp->VK->Prop:=λx b H Q=>∃l a y,x=.ref l/\b=[y]/\H l=some (.lst a)/\a.length<sizeLine/\Q .non (upd H l (.lst (a++[y])))
theorem nK:MtM X "list.append" w8:=by
 intro b s Z H x j v o Q I d f h;refine iW h ?_;clear h;rintro l k y rfl rfl c ⟨m,q⟩;cases d;obtain⟨u,rfl,g⟩:=f.one;obtain⟨z,a,n,r,i,e⟩:=I.lstM c;refine call_meets F.slot_list_append (ah _ e rfl) F.entry_list_append (F.args_list_append_2 _ _) (PySem.list_append l a.toArray n u (by rw[jK];lia)) ⟨e,?_⟩;refine fx .non _ (I.lset (its':=a++[u]) c e (by simp) (r.append (.cons g .nil)) ?_) rfl q;rw[jc,tf]
 lia
def Eh:V->List V->Hp->VK->Prop:=λx d H Q=>∃l b c a,x=.ref l/\d=[.ref b]/\H l=some (.lst c)/\H b=some (.lst a)/\c.length+a.length<=sizeLine/\Q .non (upd H l (.lst (c++a)))
theorem ui:MtM X "list.extend" Eh:=by
 intro i s Z H x G v B Q I j k h;refine jy h ?_;clear h;rintro l b J D rfl rfl g ⟨o,K,q⟩;cases j;obtain⟨u,rfl,y⟩:=k.one;cases y;obtain⟨z,c,n,r,A,e⟩:=I.lstM g;obtain⟨C,a,p,w,m,t⟩:=I.lstM o;have f:c.toArray.size+a.toArray.size<=sizeLine:=by rw[jK,jK];lia
 have d:¬(! c.toArray.isEmpty&&Builtin.List.listTooLong (c.toArray.size+a.toArray.size))=true:=by rw[Aq f,Bool.and_false];exact jD
 refine call_meets F.slot_list_extend (ah _ e rfl) F.entry_list_extend (F.args_list_extend_2 _ _)
  (AutoSeq1.list_extend_list_list_0 l c.toArray n b a.toArray p d (by rw[jK];lia) (by lia)) (hQ e t ?_)
 refine fx .non _ (I.lset (its':=c++a) g e (by simp) (r.append w) ?_) rfl q;rw[jc]
 lia
def rPop:V->List V->Hp->VK->Prop:=λx b H Q=>∃l a y,x=.ref l/\b=[]/\H l=some (.lst a)/\a[a.length-1]?=some y/\Q y (upd H l (.lst a.dropLast))
theorem DT:MtM X "list.pop" rPop:=by
 intro d s Z H x p v w Q I i j h;refine iW h ?_;clear h;rintro l t y rfl rfl f ⟨k,q⟩;cases i;have c:=j.zero;subst c;obtain⟨z,a,n,r,g,e⟩:=I.lstM f;obtain⟨u,m,o⟩:=r.get k
 have b:a.toArray[a.toArray.size-1]?=some u:=by show a.toArray[a.length-1]?=some u;rw[<-Array.getElem?_toList,<-g];exact m
 refine call_meets F.slot_list_pop (ah _ e rfl) F.entry_list_pop (F.args_list_pop_1 _) (MeetsSeq.list_pop_last l a.toArray n u b (by rw[jK];lia)) ⟨e,?_⟩;refine fx y _ (I.lset (its':=a.dropLast) f e ?_ r.dropLast ?_) o q
 ·show a.toArray.eraseIdxIfInBounds (a.toArray.size-1)=a.dropLast.toArray;rw[jK,List.eraseIdxIfInBounds_toArray,HZ]
 ·rw[List.length_dropLast]
  lia
def Dm:V->List V->Hp->VK->Prop:=λx b H Q=>∃l a i k y,x=.ref l/\b=[.int i]/\H l=some (.lst a)/\-(2^63)<=i/\i<2^63/\seqIndex? i a.length=some k/\a[k]?=some y/\Q y (upd H l (.lst (a.eraseIdx k)))
theorem FH:MtM X "list.pop" Dm:=by
 intro d s Z H x J v G Q I g j h;refine nN h ?_;clear h;rintro l A i k y rfl rfl c C o ⟨B,m,q⟩;cases g;obtain⟨u,rfl,D⟩:=j.one;obtain⟨t,rfl⟩:=D;obtain⟨z,a,n,r,f,e⟩:=I.lstM c;obtain⟨w,p,b⟩:=r.get m
 refine call_meets F.slot_list_pop (ah _ e rfl) F.entry_list_pop (F.args_list_pop_2 _ _)
  (MeetsSeq.list_pop_at l a.toArray n i t k w (fitsIndex_both C o) (by rw[jK,<-f];exact B) (by rw[<-Array.getElem?_toList];exact p) (by rw[jK];lia)) ⟨e,?_⟩
 refine fx y _ (I.lset (its':=a.eraseIdx k) c e ?_ (r.eraseIdx k) ?_) b q
 ·show a.toArray.eraseIdxIfInBounds k=(a.eraseIdx k).toArray;rw[List.eraseIdxIfInBounds_toArray]
 ·have:=A9 A k
  lia
def Fd:V->List V->Hp->VK->Prop:=λx b H Q=>∃l a,x=.ref l/\b=[]/\H l=some (.lst a)/\Q .non (upd H l (.lst a.reverse))
theorem BM:MtM X "list.reverse" Fd:=by
 intro c s Z H x j v m Q I f g h;obtain⟨l,k,rfl,rfl,d,q⟩:=h;cases f;have b:=g.zero;subst b;obtain⟨z,a,n,r,i,e⟩:=I.lstM d;refine call_meets F.slot_list_reverse (ah _ e rfl) F.entry_list_reverse (F.args_list_reverse_1 _) (AutoSeq1.list_reverse_list_0 l a.toArray n (by rw[jK];lia)) ⟨e,?_⟩;refine fx .non _ (I.lset (its':=a.reverse) d e (by simp) r.reverse ?_) rfl q;rw[List.length_reverse]
 lia
def DK:V->List V->Hp->VK->Prop:=λx a H Q=>∃l b,x=.ref l/\a=[]/\H l=some (.lst b)/\Q .non (upd H l (.lst []))
theorem Fk:MtM X "list.clear" DK:=by intro c s Z H x j v m Q I f g h;obtain⟨l,k,rfl,rfl,d,q⟩:=h;cases f;have b:=g.zero;subst b;obtain⟨z,a,n,r,i,e⟩:=I.lstM d;refine call_meets F.slot_list_clear (ah _ e rfl) F.entry_list_clear (F.args_list_clear_1 _) (AutoSeq1.list_clear_list_0 l a.toArray n (by rw[jK];lia)) ⟨e,?_⟩;exact fx .non _ (I.lset (its':=[]) (ys:=[]) d e rfl .nil (jP _)) rfl q
def wC:R2:=λx y H Q=>∃l b c a,x=.ref l/\y=.ref b/\H l=some (.lst c)/\H b=some (.lst a)/\c.length+a.length<=sizeLine/\∀p,H p=none->Q (.ref p) (upd H p (.lst (c++a)))
theorem oT:OpR X (binaryOp .Add) wC:=by
 intro d s Z H x y v u Q I f j h;refine jy h ?_;clear h;rintro l b C B rfl rfl m ⟨i,D,q⟩;cases f;cases j;obtain⟨z,c,n,r,t,e⟩:=I.lstM m;obtain⟨w,a,A,o,g,k⟩:=I.lstM i;refine PySem.P.add_list e k ?_ (by rw[jK,jK];lia);have p:c.toArray++a.toArray=(c++a).toArray:=by simp
 rw[p];exact fx (.ref _) _ (I.lnew (t':=s.toks) (r.append o) (by rw[jc];lia)) rfl (q _ I.fresh)
def rRep:R2:=λx y H Q=>∃l k a,x=.ref l/\y=.int k/\H l=some (.lst a)/\-(2^63)<=k/\k<2^63/\a.length*k.toNat<=sizeLine/\
 ∀p,H p=none->Q (.ref p) (upd H p (.lst (List.replicate k.toNat a).flatten))
theorem EY(xs:List α)(k:Nat):(List.replicate k xs).flatten.length=k*xs.length:=by
 induction k with
 |zero=>simp
 |succ k ih=>rw[List.replicate_succ,List.flatten_cons,jc,ih,Nat.succ_mul,Nat.add_comm]
theorem DE:OpR X (binaryOp .Mult) rRep:=by
 intro w s Z H x y v u Q I B D h;refine iW h ?_;clear h;rintro l k M rfl rfl G ⟨K,C,p,q⟩;cases B;obtain⟨t,rfl⟩:=D;obtain⟨z,b,n,r,A,e⟩:=I.lstM G;have d:b.toArray.size*k.toNat<=sizeLine:=by rw[jK,<-A];exact p
 have g:¬b.toArray.size*k.toNat>(2^63-1)/8:=by
  have:(sizeLine:Nat)<=(2^63-1)/8:=by decide
  lia
 have f:¬(! Builtin.List.listFitsIndex k)=true:=by rw[fitsIndex_both K C];exact jD
 have c:¬Builtin.List.listTooLong (b.toArray.size*k.toNat)=true:=by rw[Aq d];exact jD
 have i:List.foldl (λo j=>o++j) #[] (List.replicate (if b.toArray.isEmpty=true then 0 else k.toNat) b.toArray)=(List.replicate k.toNat b).flatten.toArray:=by
  have L:∀m:Nat,List.foldl (λo j=>o++j) #[] (List.replicate m b.toArray)=(List.replicate m b).flatten.toArray:=λm=>by have:=A8 b m [];rw[List.nil_append]at this;exact this
  rw[L]
  cases b with
  |nil=>simp
  |cons a r'=>rw[fy (by simp)]
 refine wpAny_binaryOp_repeat_ref (T:="list") (U:="int") (by decide) (ah _ e rfl) (λJ=>typeIs_int J k t) noFill_list_mul F.fills_int_mul F.slot_int_rmul repeat_list F.slot_int_index.lookup
  (call_meets F.slot_int_rmul (typeIs_int s k t) F.entry_int_rmul (F.args_int_rmul_2 _ _) (int___rmul___int_list k t l b.toArray n)
   (jO e rfl (ah _ e rfl) (call_meets F.slot_list_mul (ah _ e rfl) F.entry_list_mul (F.args_list_mul_2 _ _) (AutoListH.list___mul___list_int_3 l b.toArray n k t f g c) ⟨e,?_⟩)))
 rw[i];exact fx (.ref _) _ (I.lnew (t':=s.toks) (r.rep k.toNat) (by rw[EY,Nat.mul_comm];exact p)) rfl (q _ I.fresh)
section
set_option maxRecDepth 100000 in
end
section
variable{κ:Type}[DecidableEq κ]
def ic(kvs:List (κ×V))(k:κ):zP:=(kvs.find? λa=>decide (a.1=k)).map (·.2)
def iL(kvs:List (κ×V))(k:κ)(v:V):List (κ×V):=if (kvs.any λa=>decide (a.1=k))=true then kvs.map (λa=>if a.1=k then (a.1,v)else a)else kvs++[(k,v)]
theorem mP{p:κ×V}{r:List (κ×V)}{k:κ}(e:p.1=k):ic (p::r) k=some p.2:=by simp[ic,qb,e]
theorem mI{p:κ×V}{r:List (κ×V)}{k:κ}(e:¬p.1=k):ic (p::r) k=ic r k:=by simp[ic,qb,e]
theorem oV(k:κ):∀kvs:List (κ×V),(kvs.any λkv=>decide (kv.1=k))=(ic kvs k).isSome
 | []=>rfl
 |p::r=>by
  rw[List.any_cons];by_cases e:p.1=k
  ·simp only [mP e,kz e,Bool.true_or,Option.isSome_some]
  ·rw[mI e,mZ e,Bool.false_or];exact oV k r
theorem As(k j:κ)(y:V):∀kvs:List (κ×V),ic (kvs.map λkv=>if kv.1=k then (kv.1,y)else kv) j=(ic kvs j).map λx=>if j=k then y else x
 | []=>rfl
 |p::r=>by
  have a:=As k j y r;rw[iN];by_cases h:p.1=k
  ·rw[ia h];by_cases e:p.1=j
   ·rw[mP (p:=(p.1,y)) e,mP e,Option.map_some,ia (e.symm.trans h)]
   ·rw[mI (p:=(p.1,y)) e,mI e,a]
  ·rw[fy h];by_cases e:p.1=j
   ·rw[mP (p:=p) e,mP e,Option.map_some,fy (λz=>h (e.trans z))]
   ·rw[mI (p:=p) e,mI e,a]
theorem xF(k j:κ)(y:V):∀kvs:List (κ×V),ic kvs k=none->ic (kvs++[(k,y)]) j=if j=k then some y else ic kvs j
 | [],_=>by
  by_cases e:k=j
  ·rw[ia e.symm];exact mP (p:=(k,y)) e
  ·rw[fy (λz=>e z.symm)];exact mI (p:=(k,y)) e
 |p::r,hn=>by
  rw[List.cons_append];have a:¬p.1=k:=λz=>by rw[mP z]at hn;cases hn
  rw[mI a]at hn;have b:=xF k j y r hn;by_cases e:p.1=j
  ·rw[mP e,mP e,fy (λz=>a (e.trans z))]
  ·rw[mI e,mI e,b]
theorem ue(kvs:List (κ×V))(k j:κ)(y:V):ic (iL kvs k y) j=if j=k then some y else ic kvs j:=by
 unfold iL;by_cases a:(kvs.any λc=>decide (c.1=k))=true
 ·rw[ia a,As];rw[oV]at a;by_cases e:j=k
  ·obtain⟨x,b⟩:=Option.isSome_iff_exists.mp a;rw[ia e,e,b,Option.map_some,ia rfl]
  ·rw[fy e]
   cases ic kvs j with
   |none=>rfl
   |some x=>rw[Option.map_some,fy e]
 ·rw[fy a];refine xF k j y kvs ?_;rw[oV]at a
  cases q:ic kvs k with
  |none=>rfl
  |some x=>rw[q]at a;exact(a rfl).elim
theorem pX(kvs:List (κ×V))(k:κ)(v:V):(iL kvs k v).length<=kvs.length+1:=by
 unfold iL;split
 ·rw[hA];lia
 ·rw[jc,mB,oo];lia
theorem qG{kvs:List (κ×V)}{k:κ}(v:V)(h:ic kvs k=none):iL kvs k v=kvs++[(k,v)]:=by unfold iL;rw[oV,h];exact fy (by decide)
theorem B3y.isSome_eq{u:zN}(r:B3y o u):o.isSome=u.isSome:=by
 cases o with
 |none=>cases u with|none=>rfl|some _=>exact(show False from r).elim
 |some _=>cases u with|none=>exact(show False from r).elim|some _=>rfl
theorem B3y.getD{u:zN}(r:B3y o u)(rd:A2q d d'):A2q (o.getD d) (u.getD d'):=by
 cases o with
 |none=>cases u with|none=>exact rd|some _=>exact(show False from r).elim
 |some _=>cases u with|none=>exact(show False from r).elim|some _=>exact r
theorem KV.val{kvs:List (κ×V)}{vs:List (κ×zX)}(r:KV kvs vs)(k:κ):B3y (ic kvs k) (valueAt vs k):=by
 unfold KV at r
 induction r with
 |nil=>exact True.intro
 |@cons p q ps qs h t ih=>
  obtain⟨c,d⟩:=h;by_cases e:p.1=k
  ·have a:q.1=k:=c.symm.trans e;have b:valueAt (q::qs) k=some q.2:=by simp[valueAt,qb,a]
   rw[mP e,b];exact d
  ·have a:¬q.1=k:=λz=>e (c.trans z);have b:valueAt (q::qs) k=valueAt qs k:=by simp[valueAt,qb,a]
   rw[mI e,b];exact ih
theorem KV.any{kvs:List (κ×V)}{vs:List (κ×zX)}(r:KV kvs vs)(k:κ):(kvs.any λkv=>decide (kv.1=k))=vs.any λkv=>decide (kv.1=k):=by
 unfold KV at r
 induction r with
 |nil=>rfl
 |cons h t ih=>rw[List.any_cons,List.any_cons,ih,h.1]
theorem KV.repl{kvs:List (κ×V)}{vs:List (κ×zX)}(r:KV kvs vs)(k:κ)(b:A2q y u):
  KV (kvs.map λkv=>if kv.1=k then (kv.1,y)else kv) (vs.map λkv=>if kv.1=k then (kv.1,u)else kv):=by
 unfold KV at r⊢
 induction r with
 |nil=>exact .nil
 |@cons p q ps qs h t ih=>
  rw[iN,iN];refine .cons ?_ ih;obtain⟨a,c⟩:=h;by_cases e:p.1=k
  ·rw[ia e,ia (a.symm.trans e)];exact⟨a,b⟩
  ·rw[fy e,fy (λz=>e (a.trans z))];exact⟨a,c⟩
theorem KV.put{kvs:List (κ×V)}{vs:List (κ×zX)}(r:KV kvs vs)(k:κ)(a:A2q y u):KV (iL kvs k y) (stored vs k u):=by
 unfold iL stored;rw[r.any k];by_cases e:(vs.any λb=>decide (b.1=k))=true
 ·rw[ia e,ia e];exact r.repl k a
 ·rw[fy e,fy e];exact Paired.snoc r ⟨rfl,a⟩
theorem KV.length{kvs:List (κ×V)}{vs:List (κ×zX)}(r:KV kvs vs):kvs.length=vs.length:=Paired.length r
end
theorem rV{k:Key}(r:A2q (kV k) u):(jG P w).is k u=true:=by
 cases k with
 |inl i=>obtain⟨t,e⟩:=(show∃t,u=Value.int i t from r);subst e;exact Jt P w i t
 |inr x=>obtain⟨t,e⟩:=(show∃t,u=Value.str x t from r);subst e;exact IJ P w x t
theorem Br{P:yB}{w:yD}:∀{ks:zU}{us:zH},A2d (ks.map kV) us->ItemsAre (jG P w) ks us
 | [],_,r=>by rw[List.map_nil]at r;cases r;exact .nil
 |k::ks,_,r=>by
  rw[iN]at r
  cases r with
  |cons h t=>exact .cons (rV h) (Br t)
abbrev KT(H:Hp):List (List Key×V)->List (List Key×zW×zX)->Prop:=Paired λp q=>p.1=q.1/\H q.2.1=some (.tup (p.1.map kV))/\A2q p.2 q.2.2
theorem KT.val(r:KT H kvs xs)(k:zU):B3y (ic kvs k) ((atKey xs k).map (·.2)):=by
 induction r with
 |nil=>exact True.intro
 |@cons p q ps qs h t ih=>
  obtain⟨c,_,d⟩:=h;by_cases e:p.1=k
  ·have a:q.1=k:=c.symm.trans e;have b:atKey (q::qs) k=some q.2:=by simp[atKey,qb,a]
   rw[mP e,b];exact d
  ·have a:¬q.1=k:=λz=>e (c.trans z);have b:atKey (q::qs) k=atKey qs k:=by simp[atKey,qb,a]
   rw[mI e,b];exact ih
theorem KT.repl(r:KT H kvs xs)(k:zU)(d:A2q y u):
  KT H (kvs.map λkv=>if kv.1=k then (kv.1,y)else kv) (xs.map (putAt k u)):=by
 induction r with
 |nil=>exact .nil
 |@cons p q ps qs h t ih=>
  rw[iN,iN];refine .cons ?_ ih;obtain⟨a,b,c⟩:=h;unfold putAt;by_cases e:p.1=k
  ·rw[ia e,ia (a.symm.trans e)];exact hQ a b d
  ·rw[fy e,fy (λz=>e (a.trans z))];exact hQ a b c
theorem KT.put(r:KT H kvs xs)(k:zU)(d:H b=some (.tup (k.map kV)))(a:A2q y u):
  KT H (iL kvs k y) (storedH xs k b u):=by
 have e:(kvs.any λc=>decide (c.1=k))=(atKey xs k).isSome:=by rw[oV,(r.val k).isSome_eq,Option.isSome_map]
 unfold iL storedH;rw[e];by_cases q:(atKey xs k).isSome=true
 ·rw[ia q,ia q];exact r.repl k a
 ·rw[fy q,fy q];exact Paired.snoc r (hQ rfl d a)
theorem KT.keeps(r:KT H kvs xs)(a:∀b ys,H b=some (.tup ys)->H' b=some (.tup ys)):KT H' kvs xs :=Paired.mapP r λ_ _ z=>(hQ z.1 (a _ _ z.2.1) z.2.2)
theorem wF{u:HO}(b:HOk P w H h)(e:Rd H a u):A1s P w H h a u:=e.ok b
theorem tJ{kvs:zJ}(b:HOk P w H h)(e:Rd H a (.dK kvs)):kvs.length<=sizeLine/\(a==sysModules)=false/\∃vs,KV kvs vs/\h.DictOf (jG P w) a vs :=show A1s P w H h a (.dK kvs) from wF b e
theorem rT{kvs:zJ}(b:HOk P w H h)(e:H a=some (.dK kvs)):kvs.length<=sizeLine/\(a==sysModules)=false/\∃vs,KV kvs vs/\h.DictOf (jG P w) a vs:=tJ b (.inl e)
theorem vk(c:HOk P w H h)(e:H a=some (.tup (ks.map kV))):(tupleKind (jG P w)).is h ks a:=by refine wc (show A1s P w H h a (.tup (ks.map kV)) from c a _ e) λ_ b r o d g n f=>?_;exact jv o b.toArray n d g f (by simpa using Br r)
theorem wI(d:HOk P w H h)(e:Rd H a (.dT kvs)):kvs.length<=sizeLine/\(a==sysModules)=false/\
  ∃xs,KT H kvs xs/\h.DictOfH (tupleKind (jG P w)) a xs:=by
 refine mj (show A1s P w H h a (.dT kvs) from wF d e) ?_;rintro z y xs r o j g k ⟨i,n,f,s⟩;refine kE z y xs r (nM o j g k i n f (λx b=>?_) s)
 have c:∀{l:List (List Key×V)}{m:List (List Key×zW×zX)},KT H l m->∀x∈m,(tupleKind (jG P w)).is h x.1 x.2.1:=by
  intro l m q
  induction q with
  |nil=>intro x b;exact nomatch b
  |@cons p q ps qs hq t ih=>
   intro x b;rcases jt.mp b with e|b
   ·subst e;exact vk d (by rw[<-hq.1];exact hq.2.1)
   ·exact ih x b
 exact c r x b
theorem Cv(b:HOk P w H h)(e:H a=some (.dT kvs)):kvs.length<=sizeLine/\(a==sysModules)=false/\
  ∃xs,KT H kvs xs/\h.DictOfH (tupleKind (jG P w)) a xs:=wI b (.inl e)
def B0p(H:Hp)(a:zW)(y:V)(r:zP):Prop :=(∃c k,Rd H a (.dK c)/\y=kV k/\r=ic c k)\/∃c k b,Rd H a (.dT c)/\y=.ref b/\H b=some (.tup (k.map kV))/\r=ic c k
def B4w(H:Hp)(a:zW)(y v:V)(H':Hp):Prop :=
 (∃c k,H a=some (.dK c)/\y=kV k/\c.length<sizeLine/\H'=upd H a (.dK (iL c k v)))\/
 ∃c k b,H a=some (.dT c)/\y=.ref b/\H b=some (.tup (k.map kV))/\c.length<sizeLine/\H'=upd H a (.dT (iL c k v))
theorem B0p.k{kvs:zJ}{k:Key}(e:H a=some (.dK kvs)):B0p H a (kV k) (ic kvs k):=.inl (fx kvs k (.inl e) rfl rfl)
theorem B4w.k{kvs:zJ}{k:Key}(e:H a=some (.dK kvs))(b:kvs.length<sizeLine):B4w H a (kV k) v (upd H a (.dK (iL kvs k v))):=.inl (iO kvs k e rfl b rfl)
theorem B4w.t{k:zU}(e:H a=some (.dT kvs))(d:H b=some (.tup (k.map kV)))(c:kvs.length<sizeLine):
  B4w H a (.ref b) v (upd H a (.dT (iL kvs k v))):=.inr (jX kvs k b e rfl d c rfl)
section
variable{r:zX}
theorem Inv.big(I:Inv X pins Z H s):sysModules<s.heap.objs.size:=by have h:mainGlobals<s.heap.objs.size:=(I.mod.glob.keeps I.bk).lt;exact Nat.lt_trans (by decide) h
theorem Hf(C:A.units+1<cLine)(I:Inv X pins Z H s)(g:B0p H a y (some v))(r:A2q y u)(h:∀f s',Inv X pins Z H s'->A2q v f->Q f s'):
  wpAny (model X.prog X.w) A (getItem (.ref a) u) Q E s:=by
 rcases g with ⟨q,k,e,i,l⟩|⟨q,k,b,e,i,B,l⟩
 ·subst i;obtain⟨z,D,t,d,m⟩:=tJ I.hok e;obtain⟨f,n,c⟩:=B3y.some_of (v:=v) (o:=valueAt t k) (by rw[l];exact d.val k);exact wpAny_getItem_of (rV r) m.mapOf n (h f _ (I.tok _) c)
 ·subst i;cases(show u=Value.ref b from r);obtain⟨z,D,x,d,m⟩:=wI I.hok e;obtain⟨f,n,c⟩:=B3y.some_of (v:=v) (o:=(atKey x k).map (·.2)) (by rw[l];exact d.val k);obtain⟨p,F,j⟩:=oP.mp n;refine wpAny_getItem_heap (tupleKind_room_in1 C) (vk I.hok B) m F ?_;rw[j];exact h f _ (I.tok _) c
theorem vq{d:HO}(I:Inv X pins Z H s)(g:Mut (H a))(i:Heap.SameBut a s.heap h')(h:∃q,h'.get? a=some q)(c:A1s X.prog X.w (upd H a d) h' a d):
  Inv X pins Z (upd H a d) {s with heap:=h',toks:=t'}:=
 I.write (x:=a) (e:=a) g (.inl rfl) (λb q f z=>(i.2 b f).trans z) h c
theorem yV{kvs:zJ}{vs:List (Key×zX)}(z:kvs.length<=sizeLine)(c:(a==sysModules)=false)(b:KV kvs vs)(d:h'.DictOf (jG P w) a vs):
  A1s P w H' h' a (.dK kvs):=(kE z c vs b d)
theorem GK{Q:Unit->zY->Prop}(M:A.units+1<cLine)(I:Inv X pins Z H s)(g:B4w H a y v H')(D:A2q y u)(C:A2q v r)(h:∀s',Inv X pins Z H' s'->Q () s'):
  wpAny (model X.prog X.w) A (setItem (.ref a) u r) Q E s:=by
 rcases g with ⟨f,k,e,B,l,n⟩|⟨f,k,b,e,B,G,l,n⟩
 ·subst B n;obtain⟨z,o,R,i,p⟩:=rT I.hok e;have t:R.length<=sizeLine:=by rw[<-i.length];exact z
  have m:(iL f k v).length<=sizeLine:=by have:=pX f k v;lia
  refine wpAny_setItem_pairs (hsz:=t) (rV D) p λF d x=>h _ ?_;have U:∃q,F.get? a=some q:=let⟨q,_,_,j,_⟩:=d;⟨q,j⟩;exact vq I (by rw[e];exact True.intro) x U (yV m o (i.put k C) d)
 ·subst B n;cases(show u=Value.ref b from D);obtain⟨z,o,S,i,p⟩:=Cv I.hok e;have t:S.length<=sizeLine:=by rw[<-Paired.length i];exact z
  have m:(iL f k v).length<=sizeLine:=by have:=pX f k v;lia
  refine wpAny_setItem_heap (hsz:=t) (tupleKind_room_in1 M) (vk I.hok G) p λF d x=>h _ ?_;refine iW d ?_;clear d;rintro q N K j L O ⟨T,_,P⟩;refine vq I (by rw[e];exact True.intro) x ⟨q,j⟩ (kE m o _ ((i.put k G C).keeps λc W J=>?_) (jX q N K j L O T P));rw[dV (ir J e (λz=>nomatch z))];exact J
end
section
variable{kvs:zJ}{k:Key}
theorem Cu(I:Inv X pins Z H s)(e:Rd H a (.dK kvs))(h:∀t s',Inv X pins Z H s'->Q (.int kvs.length t) s'):wpAny (model X.prog X.w) A (call (.builtin "len") [.ref a]) Q E s:=by obtain⟨z,c,f,b,d⟩:=tJ I.hok e;refine call_len_dict c d (by rw[<-b.length];rw[sizeLine_eq]at z;lia) ?_;rw[<-b.length];exact h _ _ (I.tok _)
end
def wr(i:yC):Prop:=∀a b,subscripted i false a b=operate [a,b] (getItem a b)
theorem zo{b:Env}{a:yC}{id:String}
  (j:typeLookup (.type T) "__getitem__"=pure (some (.builtin id))) (l:wr a)
  (h:wpAny (model prog w) A (eval value b) (λo s₁=>wpAny (model prog w) A (eval a b) (λi s₂=>s₂.TypeIs o T/\wpAny (model prog w) A (getItem o i) Q E s₂) E s₁) E s):
  wpAny (model prog w) A (eval (.Subscript value a pos) b) Q E s:=by
 refine Subscript_ (lR h (λo s₁ k=>lR k (λi s₂ d=>?_) λ_ _ x=>x) λ_ _ x=>x);obtain⟨f,d⟩:=d;unfold subscriptTail;refine cz ?_;rw[getitemInPython_of_ne f.not_modules];refine cz (wpAny_specialOf f j ?_)
 have c:wpAny (model prog w) A (subscripted a false o i) (λr e=>wpAny (model prog w) A (letTemporaryGo value o r>>=λ_=>pure r) Q E e) E s₂:=by rw[l o i];exact wpAny_operating (lR d (λr e g=>cz (wpAny_letTemporaryGo (hE g))) λ_ _ x=>x)
 first|exact hE (cz c)|exact cz (hE (cz c))|exact cz c
theorem Js(I:Inv X pins Z H s)(g:B0p H a y o):s.TypeIs (.ref a) "dict":=by
 rcases g with ⟨d,k,e,_,_⟩|⟨d,k,b,e,_,_,_⟩
 ·obtain⟨_,_,f,_,c⟩:=tJ I.hok e;exact c.typeIs
 ·obtain⟨_,_,h,_,c⟩:=wI I.hok e;exact c.typeIs
def CG(td ty:TE):TE:=λZ H Q=>td Z H λx c=>ty Z c λy b=>∃a v,x=.ref a/\B0p b a y (some v)/\Q v b
def CY(td ty tv:TE):TS:=λD Z H=>tv Z H λv d=>td Z d λx e=>ty Z e λy c=>∃a b,x=.ref a/\B4w c a y v b/\D.nx Z b
section
variable{X:Cx}{o i e value:yC}{pos pos' tpos:Pos}{td ty tv:TE}
theorem iR(j:X.A.units+1<cLine)(l:PE X o td)(hi:PE X i ty)(t:wr i:=by exact λ_ _=>rfl):PE X (.Subscript o i pos) (CG td ty):=by intro b s Z H Q I h;refine zo PySem.F.slot_dict_getitem.lookup t (thn (l b s Z H _ I h) ?_);rintro u n ⟨x,q,I1,e,f⟩;refine thn (hi b n Z q _ I1 f) ?_;rintro w C d;refine we d ?_;clear d;rintro y m I2 k ⟨a,v,r,g,p⟩;subst r;obtain rfl:u=Value.ref a:=e;exact⟨Js I2 g,Hf j I2 g k λB z I3 c=>(fx v m I3 c p)⟩
theorem nG(k:X.A.units+1<cLine)(m:PE X o td)(hi:PE X i ty)(z:PE X value tv)(C:swapsWith value (some (.Subscript o i pos')) pos.line X.env=pure false):
  PS X (.Assign [.Subscript o i pos'] value pos) (CY td ty tv):=by
 intro b s Z H D I h;refine wpAny_Assign_Subscript (thn (z b s Z H _ I h) ?_) C;rintro r p ⟨v,t,I1,e,f⟩;refine thn (m b p Z t _ I1 f) ?_;rintro u F ⟨x,n,I2,d,q⟩;refine thn (hi b F Z n _ I2 q) ?_;rintro J K c;refine we c ?_;clear c;rintro y G I3 l ⟨a,B,w,g,j⟩;subst w;obtain rfl:u=Value.ref a:=d;exact GK k I3 g l e λL I4=>(jV Z B I4 j)
end
theorem AA(h:yA)(a:sysModules<h.objs.size):A1s P w H (h.push {cls:=.type "dict",data:=.dict #[]}) h.objs.size (.dK []):=(kE (jP _) (qU.mpr (Ne.symm (jJ a))) [] .nil (Heap.DictOf.new h))
theorem FZ(h:yA)(a:sysModules<h.objs.size):A1s P w H (h.push {cls:=.type "dict",data:=.dict #[]}) h.objs.size (.dT []):=(kE (jP _) (qU.mpr (Ne.symm (jJ a))) [] .nil (jX _ (#[]) 0 (jw _ rfl) (hQ rfl rfl rfl) rfl rfl List.nodup_nil))
def DC:TE:=λ_ H Q=>∀p,H p=none->Q (.ref p) (upd H p (.dK []))
def DO:TE:=λ_ H Q=>∀p,H p=none->Q (.ref p) (upd H p (.dT []))
theorem sE:PE X (.Dict [] [] pos) DC:=λb s Z H Q I h=>wpAny_Dict_empty (fx (.ref s.heap.objs.size) _ (I.laid (a:=s.heap.objs.size) (o:=.dK []) (t':=s.toks) (λ_ _ q=>iB _ q) (ig _) (AA s.heap I.big)) rfl (h _ (I.hok.fresh (ig _))))
theorem Fc:PE X (.Dict [] [] pos) DO:=λb s Z H Q I h=>wpAny_Dict_empty (fx (.ref s.heap.objs.size) _ (I.laid (a:=s.heap.objs.size) (o:=.dT []) (t':=s.toks) (λ_ _ q=>iB _ q) (ig _) (FZ s.heap I.big)) rfl (h _ (I.hok.fresh (ig _))))
def wT:List (TE×TE)->St->Hp->(List (V×V)->Hp->Prop)->Prop| [],_,H,Q=>Q [] H|(tk,tv)::r,Z,H,Q=>tk Z H λx c=>tv Z c λy d=>wT r Z d λb a=>Q ((x,y)::b) a
abbrev VV:List (V×V)->List (zX×zX)->Prop:=Paired λp q=>A2q p.1 q.1/\A2q p.2 q.2
def PPs(X:Cx)(pos:Pos)(c:List (Option yC))(a:zT)(trs:List (TE×TE)):Prop :=
 ∀(b:zD)(s:zY)(Z:St)(H:Hp)(Q:List (V×V)->Hp->Prop),Inv X b Z H s->wT trs Z H Q->
  wpAny (model X.prog X.w) X.A (evalPairs (pairTrees c a X.env pos)) (λf g=>∃e d,Inv X b Z d g/\VV e f/\Q e d) X.xe s
theorem ER:PPs X pos [] [] []:=λa s Z H Q I h=>pairTrees_nil_walk (fx [] H I .nil h)
theorem su{k v:yC}{ks:List (Option yC)}{vs:zT}(o:PE X k tk)(p:PE X v tv)(i:PPs X pos ks vs trs):
  PPs X pos (some k::ks) (v::vs) ((tk,tv)::trs):=λa s Z H Q I h=>
 pairTrees_cons_walk (thn (o a s Z H _ I h) λu l ⟨x,n,I1,c,d⟩=>thn (p a l Z n _ I1 d) λz q ⟨y,j,I2,g,m⟩=>thn (i a q Z j _ I2 m) (by rintro w t ⟨r,f,I3,b,e⟩;exact fx ((x,y)::r) f I3 (.cons ⟨c,g⟩ b) e))
def lV(kvs a:zJ):zJ:=a.foldl (λb c=>iL b c.1 c.2) kvs
theorem KV.merge:∀{a:zJ}{rs:List (Key×zX)}{kvs:zJ}{vs:List (Key×zX)},KV a rs->KV kvs vs->KV (lV kvs a) (merged vs rs):=by
 intro a rs kvs vs r;unfold KV at r
 induction r generalizing kvs vs with
 |nil=>intro q;exact q
 |@cons p q ps qs h t ih=>
  intro b
  have e:KV (iL kvs p.1 p.2) (stored vs q.1 q.2):=by have:=b.put p.1 h.2;rw[<-h.1];exact this
  exact ih e
theorem v5:∀(a kvs:zJ),(lV kvs a).length<=kvs.length+a.length| [],kvs=>by show kvs.length<=kvs.length+0;lia|p::r,kvs=>by have b:=v5 r (iL kvs p.1 p.2);have c:=pX kvs p.1 p.2;show(lV (iL kvs p.1 p.2) r).length<=_;rw[mB];lia
theorem BC{P:yB}{w:yD}:∀{kvs:zJ}{d:List (zX×zX)},VV (kvs.map λkv=>(kV kv.1,kv.2)) d->∃rs,Carries (jG P w) d rs/\KV kvs rs
 | [],_,r=>by rw[List.map_nil]at r;cases r;exact ah [] True.intro .nil
 |p::kvs,_,r=>by
  rw[iN]at r
  cases r with
  |@cons a b as bs h t=>obtain⟨rs,c,q⟩:=BC (P:=P) (w:=w) t;obtain⟨f,e⟩:=b;exact ah ((p.1,e)::rs) (hQ (rV h.1) rfl c) (.cons ⟨rfl,h.2⟩ q)
def CW(trs:List (TE×TE)):TE:=λZ H Q=>∀p,H p=none->wT trs Z (upd H p (.dK [])) λd b=>b p=some (.dK [])/\∃a:zJ,d=a.map (λc=>(kV c.1,c.2))/\a.length<=15/\Q (.ref p) (upd b p (.dK (lV [] a)))
theorem EX{b:List (Option yC)}{d:zT}(h:PPs X pos b d trs)(f:b.all (·.isSome)=true)(p:b.length=d.length)(r:b≠[])
  (k:b.length<=15):PE X (.Dict b d pos) (CW trs):=by
 intro j s Z H Q I q;have A:=I.hok.fresh (ig s.heap.objs.size);have I1:=I.laid (a:=s.heap.objs.size) (o:=.dK []) (h':=s.heap.push {cls:=.type "dict",data:=.dict #[]}) (t':=s.toks) (λ_ _ q=>iB _ q) (ig _) (AA s.heap I.big);refine wpAny_Dict_walk (knd:=jG X.prog X.w) f p r k (thn (h j _ Z _ _ I1 (q _ A)) ?_);rintro M N m;refine jC m ?_;clear m;rintro O L I2 l e ⟨i,u,K,y⟩;subst u;obtain⟨G,c,B⟩:=BC (P:=X.prog) (w:=X.w) l;obtain⟨z,v,n,t,x⟩:=rT I2.hok e;cases t;refine hH G c x λh' g D=>(fx (.ref s.heap.objs.size) _ ?_ rfl y)
 have C:(lV [] i).length<=sizeLine:=by have F:=v5 i [];rw[oo]at F;rw[sizeLine_eq];lia
 have J:∃q,h'.get? s.heap.objs.size=some q:=let⟨q,_,_,hq,_⟩:=g;⟨q,hq⟩;exact vq I2 (by rw[e];exact True.intro) D J (yV C v (B.merge .nil) g)
section
variable{r:zX}
end
section
variable{o f:yC}
end
section
variable{kvs:zJ}
end
end L2
namespace Att
open PySem PySem.W PySem.Calls PyProof.Rows
variable{w:yD}{s:zY}{q prog:yB}{n:Nat}{l:OpenLaw}{h:yA}{d:DefRec}{c:zH}{args:List WData}{YP:yD->yA->Prop}{XP:zE->yA->Prop}{P:Params}{K:Frag}{E:zA}{A:zZ}
theorem Ki:∀(ns:zI)(vs:zH),WellAll P h vs (ns.map WData.int)->IntsAre vs ns:=by
 intro ns
 induction ns with
 |nil=>intro vs w;rw[List.map_nil]at w;cases w;exact .nil
 |cons n ns ih=>
  intro vs w;rw[iN]at w
  cases w with
  |cons a b=>
   cases a
   exact .cons _ _ (ih _ b)
theorem GQ(o:l.most=some n)
  (e:l.row.toRowW.claim.pre args=true) (k:WellAll P h c args):
  ∃a vs b,c=[Value.ref a]/\args=[WData.list (b.map WData.int)]/\h.get? a=some {cls:=.type "list",data:=.seq vs.toArray}/\IntsAre vs b/\b.length<=n:=by
 have j:WShape.hasAll [] args [.list .int]=true:=(pre_splitW e).1;have m:l.pre.holds [] {args:=args}=true:=(pre_splitW e).2;obtain⟨d,r,rfl,t,s⟩:=hasAllW_cons j;obtain rfl:=hasAllW_nil s;obtain⟨v,rfl,u⟩:=hasW_list t;obtain⟨b,rfl⟩:=items_int u
 have f:b.length<=n:=by
  unfold OpenLaw.pre at m
  have g:(WTm.not (.lt (.lit (.int (n:Int))) (.len (.arg 0)))).holds [] {args:=[.list (b.map .int)]}=true:=by have g:=(holds_andW m).1;rw[o]at g;exact g
  have i:=condW_of g (w_not (w_lt w_lit (w_len_list (w_arg rfl))));rw[hA]at i;refine Nat.le_of_not_lt λq=>?_;have p:(n:Int)<((b.length:Nat):Int):=by lia
  first|(rw[kz p]at i;exact absurd i (by decide))|(simp at i;lia)
 cases k with
 |cons w1 w2=>
  cases w2
  cases w1 with
  |list ho hall=>exact jX _ _ b rfl rfl ho (Ki b _ hall) f
theorem GJ(l:OpenLaw)(args:List WData):l.row.toRowW.claim.post args (.bool true) args=true :=
 postW_of (r:=l.row.toRowW) (X:=(true==true))
  (show WShape.has [] (.bool true) .bool=true by first|rfl|decide|simp[WShape.has,WShape.arms,WShape.armsAll])
  (show(WTm.eq .res (.lit (.bool true))).value [] {args:=args,res:=some (.bool true),after:=args}=some (.bool (true==true)) from w_eq_bool (w_res rfl) w_lit) rfl
theorem attach_call{c:zC}
  (M:l.most=some n) (x:d.params.defaults=[])
  (m:∀(w:yD)(s b:zY)(mg u:zE)(j:zW)(o:Obj)(pm cd g:zX)(a:zW)(vs:zH)(p:zI),
   Ground q c [] XP w s mg u b.heap->YP w b.heap->
   b.heap.get? j=some o->o.data=.func (docDef d.name d.params d.body d.scope pm cd g)->b.heap.CodeRec cd d.name->mg d.name=some (.ref j)->
   b.heap.get? a=some {cls:=.type "list",data:=.seq vs.toArray}->IntsAre vs p->p.length<=n->b.gens=#[]->
   codeAny (model l.prog w) callerA (.call (.ref j) ⟨[.ref a],[]⟩) (λr s'=>r=.ok (.ret (.bool true))/\OldK b.heap s'.heap/\s'.os=b.os/\AllBare s'.gens) b):
  WalkO q c XP YP l.row.toRowW d [] (λf vs=>PySem.call f vs):=by
 intro w s b mg u G Y j o pm cd g D kV J K t B v Q z C R k A H y N;obtain rfl:D=.none:=Dflts.none B x;obtain rfl:kV=.none:=Dflts.noKw B;refine iW (GQ M k y) ?_;rintro a vs p rfl rfl h ⟨e,i⟩;refine enter_call (codeAny_mono (m w s b mg u j o pm cd g a vs p G Y J (fd_plain K) t v h e i Q) λr s' P=>?_);obtain⟨rfl,F,I,O⟩:=P;exact jO (.inl (jX (.bool true) (.bool true) [] rfl (λ_=>rfl) (.bool true) (GJ l _) λ_=>⟨List.Pairwise.nil,λ_ L=>(nomatch L)⟩)) F I O
end Att
namespace L2
open PySem PySem.Spec PyProof.Rows
variable{φ:yA->Prop}{κ α:Type}{z l2 l1 i2 i1 f dx d b a C:zW}{value:yC}{v:V}{ty tv to te td:TE}{tpos pos' pos p2 p1 cpos apos:Pos}{tn st2 st1:Nat->yA->Prop}{tk:Nat}{tc:TT}{s₁ s1 s' s:zY}{src2 src1:zG->yA->Prop}{sp' sp:Sp}{sh:List Bool}{scope:Scope}{qual name m:Str}{q2 q1:Bool}{prog P:yB}{w:yD}{pm oc ct cd:zX}{pl pins:zD}{mg M:zE}{lo hi:Int}{js:List Nat}{j N0 N' N:zC}{ix:List (Option Nat)}{h' h g' base:yA}{g:TG}{fp:zQ}{ds:List PyData}{cl:List (Str×zW)}{c:Prop}{an:zO}{Z₀ Z' Z:St}{YP:yD->yA->Prop}{X:Cx}{U T:String}{S':zV}{QD:Hp->Prop}{L:List (V×V)}{K:Frag}{J:It}{H2 H1 H G:Hp}{E:zA}{CX:CXT}{A:zZ}
variable{P:yB}{w:yD}{K:Frag}{mg:zE}{a l d f b it p:zW}{fd:zS}{x qual x₀:Str}{vs:List (Key×zX)}{n k1 k2 t' kk i ep i₀:Nat}{XP:zE->yA->Prop}{X:Cx}{st:Stmt}{ps N':zC}{od o:Obj}{osl sl:zF}{A:zZ}{pos pos₀ spos:Pos}{B:Prop}{H H':Hp}{h h':yA}{g:TG}{e:zO}{fp ts:zQ}{Q:zN->zY->Prop}{es:Array DictEntry}{xs ys:zG}{y:zX}{pins:zD}{Z:St}{s:zY}{elts cs:zT}{tg elt iter:yC}{tb:TS}{D:nn}{ta:TA}{v:V}{scope:Scope}{u:HO}{S:zV}{r:zK}{tl te:TE}{kvs:zJ}{ix:List (Option Nat)}{cl:List (Str×zW)}{wi:TI}{tc:TT}{use:Option (zX->Sem Unit)}{Qf:zA}{sts:List Stmt}{ks:zU}{kas:List (ij×zW×V)}{sh:List Bool}
theorem Bo:∀{vs:zH}{a:zI},IntsAre vs a->A2d (a.map V.int) vs|_,_,.nil=>.nil|_,_,.cons n t h=>.cons ⟨t,rfl⟩ (Bo h)
def uP(H:Hp):Prop:=∀b,H b=none\/∃o a,H b=some (.frz o (.lst a))
theorem FG{k:Nat}{N:zW}{vs:zH}{p:zI}
  (KX:K.In s₁.heap) (B:s₁.heap.Ns mainGlobals mg) (f:s₁.heap.Ns builtinsNs M) (Q:∀x:Str,x≠"__name__"->M x=bootBuiltins x) (D:s₁.heap.NoLimit) (hg:s₁.gens=#[])
  (J:s₁.heap.get? a=some {cls:=.type "list",data:=.seq vs.toArray}) (hi:IntsAre vs p) (T:p.length<=sizeLine) (hr:B0x k callerA)
  (F:∀base:yA,K.In base->base.Ns mainGlobals mg->A4q P w K mg base CX k N fd [x] sp) (j:∀(s:zY)(u:zX),BindsTo s fd ⟨[u],[]⟩ [(x,u)])
  (O:∀H:Hp,uP H->SqL K H a (p.map V.int)->sp [.ref a] H (λv _=>v=.bl true) λ_ _ _=>False)
  (S:∀H e s',CX [] H s₁ (λ_ _ _=>False) e s'->False):
  codeAny (model P w) callerA (.call (.ref N) ⟨[.ref a],[]⟩) (λr s'=>r=.ok (.ret (.bool true))/\OldK s₁.heap s'.heap/\s'.os=s₁.os/\AllBare s'.gens) s₁:=by
 have U:=Bo hi;have C:=hi.length
 have i:∀H:Hp,uP H->SqL K H a (p.map V.int)->HOk P w H s₁.heap->(∀b,H b≠none->b=a)->(H a≠none->K.lookup a=none)->
   codeAny (model P w) callerA (.call (.ref N) ⟨[.ref a],[]⟩) (λr s'=>r=.ok (.ret (.bool true))/\OldK s₁.heap s'.heap/\s'.os=s₁.os/\AllBare s'.gens) s₁:=by
  intro H W hS A X hK;have c:∀{b:zW}{o:Obj},s₁.heap.get? b=some o->H b=none->(pI s₁.heap H).get? b=some o:=λe n=>Fh e n
  have L:∀{b:zW}{o:Obj}{y:Array DictEntry}{ep:Nat},s₁.heap.get? b=some o->o.data=.dict y ep->H b=none:=λ{b o y ep} e d=>by
   cases q:H b with
   |none=>rfl
   |some u=>have R:b=a:=X b (by rw[q];simp);subst R;rw[J]at e;cases e;have d':Data.seq vs.toArray _=Data.dict y ep:=d;cases d'
  have g:∀{b:zW}{m:zE},s₁.heap.Ns b m->(pI s₁.heap H).Ns b m:=λ{b m} ⟨o,y,ep,e,d,r⟩=>(mi o y ep (c e (L e d)) d r)
  have t:K.In (pI s₁.heap H):=λb o e=>c (KX b o e) (by
   cases q:H b with
   |none=>rfl
   |some u=>
    have R:b=a:=X b (by rw[q];simp);subst R
    rw[hK (by rw[q];simp)]at e;cases e)
  have hM:Mod K mg (pI s₁.heap H):=⟨t,g B,(ah M (g f) Q),let⟨mc,h1,h2⟩:=D;(ah mc (g h1) h2)⟩;have e0:D5p P w K mg (pI s₁.heap H) callerA [] s₁ H:=⟨rfl,hM,λb o e=>EU e,Nat.le_of_eq (Hw _ _),trivial,λb f=>absurd (show b∈([]:zQ) from f) (by simp),A,.of_eq hg⟩;refine codeAny_mono ((F _ t (g B)).run callerA [] s₁ H ⟨[.ref a],[]⟩ [.ref a] [.ref a] _ _ hr e0 (j s₁ (.ref a)) (.cons rfl .nil) (O H W hS)) λr s' h=>?_
  cases r with
  |error e=>exact(S H e s' h).elim
  |ok fl=>
   cases fl with
   |next=>exact False.elim h
   |brk=>exact False.elim h
   |cont=>exact False.elim h
   |ret u=>
    refine jC h ?_;clear h;rintro v H' os l Y ⟨G,r',q⟩;have q':v=.bl true:=q;subst q';obtain rfl:u=Value.bool true:=r';refine jO rfl (OldK.of_keep λb o e=>?_) os l
    cases q:H b with
    |none=>exact Y.keep b o e q (by intro z;exact absurd (show b∈([]:zQ) from z) (by simp)) (by simp)
    |some u=>
     rcases W b with z|⟨E,xs,z⟩
     ·rw[q]at z;cases z
     ·have z2:=Y.frzs b E _ z;obtain⟨Z,_⟩:=A b _ z;obtain⟨e2,_⟩:=G b _ z2;rw[e]at Z;cases Z;exact e2
 cases hk:K.lookup a with
 |some o=>have e:=KX a o hk;rw[J]at e;cases e;refine i (λ_=>none) (λ_=>.inl rfl) (.inr (nM _ vs.toArray _ hk rfl rfl rfl (by rw[jK,C];exact T) (by simpa using U))) (λb u z=>by have I:(none:Option HO)=some u:=z;cases I) (λb z=>absurd rfl z) λz=>absurd rfl z
 |none=>
  refine i (λb=>if b=a then some (.frz {cls:=.type "list",data:=.seq vs.toArray} (.lst (p.map V.int)))else none) (λb=>?_) (.inl (.inr ⟨{cls:=.type "list",data:=.seq vs.toArray},ia rfl⟩)) (λb u z=>?_) (λb z=>?_) λ_=>hk
  ·by_cases f:b=a
   ·exact .inr (km _ _ (ia f))
   ·exact .inl (fy f)
  ·by_cases f:b=a
   ·have I:=(ia f).symm.trans z;cases I;subst f;exact⟨J,(mw (by rw[hA];exact T) vs _ U J)⟩
   ·have I:=(fy f).symm.trans z;cases I
  ·by_cases f:b=a
   ·exact f
   ·exact absurd (fy f) z
theorem D5c{l:PySem.W.OpenLaw}{k:Nat}{q:yB}{d:DefRec}{K:Params->Frag}{CX:yD->CXT}{sp:yD->Sp}
  (M:l.most=some n) (A:n<=sizeLine) (z:d.params.defaults=[]) (J:B0x k callerA)
  (P:∀(w:yD)(h:yA),YP w h->(K w.params).In h)
  (F:∀(w:yD)(mg:zE)(r:zW)(h:yA),(K w.params).In h->h.Ns mainGlobals mg->mg d.name=some (.ref r)->
   ∃fd:zS,(∀(s:zY)(u:zX),BindsTo s fd ⟨[u],[]⟩ [(x,u)])/\
    ∀base:yA,(K w.params).In base->base.Ns mainGlobals mg->A4q l.prog w (K w.params) mg base (CX w) k r fd [x] (sp w))
  (t:∀(w:yD)(H:Hp)(a:zW)(p:zI),p.length<=n->uP H->SqL (K w.params) H a (p.map V.int)->sp w [.ref a] H (λv _=>v=.bl true) λ_ _ _=>False)
  (B:∀(w:yD)(H:Hp)(s:zY)(e:zX)(s':zY),CX w [] H s (λ_ _ _=>False) e s'->False):
  PySem.W.WalkO q j XP YP l.row.toRowW d [] (λf vs=>PySem.call f vs):=by
 refine Att.attach_call M z λw S O mg U r o Z X R a vs p G Y E hd C y m i c Q=>?_;have KX:=P w _ Y;obtain⟨fd,N,I⟩:=F w mg r _ KX G.T.g y;exact FG KX G.T.g G.T.b G.T.builtins G.T.nolimit Q m i (nO c A) J I N (λH D L=>t w H a p c D L) λH e s'=>B w H O e s'
def nr(s:Stmt)(j:Nat):Stmt:=match s with|.ClassDef _ _ _ body _ _ _ _ _ _ _=>body.getD j (.Pass ⟨0,0,0,0⟩)|_=>.Pass ⟨0,0,0,0⟩
def pk(s:Stmt):Arguments:=match s with|.FunctionDef _ a _ _ _ _ _ _ _ _=>a|_=>{posonlyargs:=[],args:=[],vararg:=none,kwonlyargs:=[],kw_defaults:=[],kwarg:=none,defaults:=[]}
def oU(s:Stmt):List Stmt:=match s with|.FunctionDef _ _ b _ _ _ _ _ _ _=>b|_=>[]
def iD(s:Stmt):Scope:=match s with|.FunctionDef _ _ _ _ _ _ sc _ _ _=>sc|_=>{kind:=.function,names:=[],isGenerator:=false,isCoroutine:=false}
abbrev jY:CXT:=λ_ _ _ _ _ _=>False
abbrev E0:XK:=λ_ _ _=>False
theorem wK:tX jY X E0:=λ_ _ _ _ _ _ _ h=>h.elim
structure Fun(K:Frag)(x qual:Str)(st:Stmt)(f:zW)(fd:zS):Prop where
 ex:∃(oc:zX)(od:zO)(kV doc pm:zX)(an:zO)(cdv ct:zX)(osl:zF),
  fd=fnOf x qual (pk st) (oU st) (iD st) .none kV doc pm an cdv ct/\K.lookup f=some ⟨oc,od,.func fd,osl⟩/\codeIn K cdv qual=true
 kp:keepIn K (.ref f)=true
theorem Fun.ok{k:Nat}(F:Fun K x qual st f fd)(S:iH N ps (iD st))
  (b:∀(a:zX)(A:zZ)(outer:List Env)(s:zY)(H:Hp)(vs:zM)(Q:VK)(E:XK),B0x k (A.deeper (envOfC qual (iD st) s.heap.objs.size f a))->sp vs H Q E->
   ∃t,PSs (rP jY P w K mg base N qual (iD st) f a A outer s H E).nox (oU st) t/\t {nx:=λ_ H'=>Q .non H',rt:=Q} (qu N vs) H) (d:∀vs H Q E,sp vs H Q E->vs.length=ps.length:=by walk_at"ln"):A4q P w K mg base jY (k+1) f fd ps sp:=by
 refine lC F.ex ?_;rintro m o kV l p n a r i ⟨rfl,g,c⟩;refine CZ g c S d λA outer s H vs Q E j e=>?_;obtain⟨t,h,q⟩:=b a A outer s H vs Q E j e;exact ah t h.nox q
theorem Fun.binds(F:Fun K x qual st f fd)
  (h:∀(kV b pm:zX)(an:zO)(a ct:zX)(us:zH),us.length=ps.length->bindArgs (fnOf x qual (pk st) (oU st) (iD st) .none kV b pm an a ct) ⟨us,[]⟩=pure (ps.zip us)):B2b K fd ps []:=by
 refine lC F.ex ?_;rintro g i kV b pm an a ct d ⟨rfl,e,c⟩;exact .all (h kV b pm an a ct)
theorem vg{od:zO}{kV b a:zX}(l:K.lookup f=some ⟨oc,od,.func (fnOf x qual (pk st) (oU st) (iD st) .none kV b pm an a ct),osl⟩)
  (c:codeIn K a qual=true) (k:keepIn K (.ref f)=true):Fun K x qual st f (fnOf x qual (pk st) (oU st) (iD st) .none kV b pm an a ct):=⟨(lA oc od kV b pm ⟨an,(mi a ct osl rfl l c)⟩),k⟩
theorem lF{k:Nat}(a:B0x k A):A.units+1<cLine:=Nat.lt_of_le_of_lt (Nat.add_le_add_left (by decide:1<=64) _) a.units
theorem pv(i:Nat)(c:X.N[i]?=some x:=by rfl)(d:Vis X.env.scope x:=by first|exact Or.inl rfl|exact Or.inr (Or.inl rfl)|exact Or.inr (Or.inr rfl))(b:(x==("__debug__":Str))=false:=by decide)
  (a:(x==("__classdict__":Str))=false:=by decide):PE X (.Name x pos) (qX i):=DN c d b a
theorem GC:oB X (.builtin "len") (λxs H Q=>∃a kvs,xs=[V.ref a]/\H a=some (.dK kvs)/\Q (.int kvs.length) H):=by intro b s Z H xs f Q I r h;obtain⟨a,kvs,rfl,d,q⟩:=h;obtain⟨u,rfl,c⟩:=ph r;cases c;exact Cu I (.inl d) λt e I'=>(fx (.int kvs.length) H I' ⟨t,rfl⟩ q)
theorem jx{A:Prop}(h:B):if false=true then A else B:=by rw[fy jD];exact h
theorem qY{A:Prop}(h:A):if true=true then A else B:=by rw[ia rfl];exact h
theorem nj{A:Prop}[Decidable c](h1:c->A)(h2:¬c->B):if c then A else B:=by
 by_cases h:c
 ·rw[ia h];exact h1 h
 ·rw[fy h];exact h2 h
def A0l(H H':Hp):Prop:=∀b o,H b=some o->H' b=some o
theorem A0l.refl(H:Hp):A0l H H:=λ_ _ h=>h
theorem A0l.trans(a:A0l H H1)(b:A0l H1 H2):A0l H H2:=λc o h=>b c o (a c o h)
theorem A0l.free(e:A0l H H')(h:H' l=Option.none):H l=Option.none:=by
 cases q:H l with
 |none=>rfl
 |some o=>rw[e l o q]at h;cases h
section
variable{κ:Type}[DecidableEq κ]
theorem Gk{kvs:List (κ×V)}{k:κ}(h:ic kvs k=none):¬k∈kvs.map (·.1):=by intro m;obtain⟨p,b,e⟩:=kg.mp m;have q:(kvs.any λa=>decide (a.1=k))=true:=List.any_eq_true.mpr (ah p b (kz e));rw[oV,h]at q;exact absurd q (by simp)
end
def yl(t u:TS):TS:=λD Z H=>∃M:St->Hp->Prop,t {D with nx:=M} Z H/\∀Z' a,M Z' a->u D Z' a
theorem ua{st:Stmt}{rest:List Stmt}{t u:TS}(h1:PS X st t)(h2:PSs X rest u):PSs X (st::rest) (yl t u):=by
 intro a s Z H D I h;obtain⟨M,h,d⟩:=h;refine wpAny_execs_cons (thn (h1 a s Z H {D with nx:=M} I h) λf b q=>?_)
 cases f with
 |next=>obtain⟨Z',c,I',q⟩:=q;exact h2 a b Z' c D I' (d _ _ q)
 |ret v=>exact q
 |brk=>exact q
 |cont=>exact q
def rIsi(K:Frag):zM->Hp->VK->Prop:=λa H Q=>∃x c t b,a=[x,c]/\lE K H x t/\(∀u,A2q c u->kitOne K t u=some b)/\Q (.bl b) H
theorem md:oB X (.builtin "isinstance") (rIsi X.K):=by intro d s Z H k l Q I r h;refine jy h ?_;clear h;rintro x c t b rfl g e q;obtain⟨u,i,rfl,j,a⟩:=rX r;exact Gr I j g (e i a) λf=>(fx (.bl b) H (I.tok f) rfl q)
theorem pq(T:String):∀u,A2q (.ty T) u->kitOne K (.type T) u=some true:=by intro u h;cases(show u=Value.type T from h);unfold kitOne;rw[ia (beq_self_eq_true _)]
theorem sd{b:Bool}(h:(Value.type T==Value.type U)=false)(c:PySem.W.kitMeta U=true)(a:(PySem.fastBuiltinMro T).map (·.contains (Value.type U))=some b):
  ∀u,A2q (.ty U) u->kitOne K (.type T) u=some b:=by
 intro u z;cases(show u=Value.type U from z);unfold kitOne;rw[fy (by rw[h];exact jD)];show(if PySem.W.kitMeta U=true then subIn K (.type T) (.type U)else none)=some b;rw[ia c];exact a
theorem Ca:∀u,A2q (.ty "bool") u->kitOne K (.type "int") u=some false:=sd (by decide+kernel) (by decide+kernel) (by decide+kernel)
def Dc(K:Frag):R2:=λx y H Q=>∃a b c d,x=.ref a/\y=.ref b/\SqT K H a c/\SqT K H b d/\d≠[]/\c.length+d.length<=sizeLine/\
 (c=[]->Q (.ref b) H)/\(c≠[]->∀p,H p=none->Q (.ref p) (upd H p (.tup (c++d))))
theorem FR:OpR X (binaryOp .Add) (Dc X.K):=by
 intro i s Z H x y v u Q I m o h;refine jy h ?_;clear h;rintro a b r D rfl rfl B ⟨t,J,U,L,S⟩;by_cases hx:r=[]
 ·subst hx;cases m;cases o;obtain⟨g,T,G,_⟩:=I.tuple B;obtain⟨e,Y,N,_⟩:=I.tuple t;have W:g=[]:=T.nil_iff.mpr rfl;obtain⟨⟨R,P,A,M⟩,p,w,n,q⟩:=id G;obtain⟨⟨C,l,j,k⟩,c,d,O,f⟩:=id N;simp only at w q d f;subst w q d f
  exact concat_meets (ah _ p rfl) (ah _ c rfl) noFill_tuple_add seq_tuple_add PySem.F.slot_tuple_add PySem.F.entry_tuple_add (PySem.F.args_tuple_add_2 _ _)
   (tuple_addW0 a b g.toArray e.toArray n O P l M k (by simp[W])) ⟨p,(jN c (.ref b) H I rfl (L rfl))⟩
 ·exact zv i s Z H _ _ v u Q I m o (jo a b r D rfl rfl B (jH t hx U (λz=>absurd z J) λ_=>S hx))
structure Nx(it l:zW)(st:Nat->yA->Prop)(src:zG->yA->Prop):Prop where
 item:∀{prog:yB}{w:yD}{A:zZ}{E:zA}{s:zY}{k:Nat}{xs:zG}{x:zX}{Q:zA},st k s.heap->src xs s.heap->xs[k]?=some x->
  (∀h',st (k+1) h'->Heap.SameBut it s.heap h'->Q x {s with heap:=h'})->wpAny (model prog w) A (Builtin.SmallTypes.nextOf (.ref it)) Q E s
 fin:∀{prog:yB}{w:yD}{A:zZ}{E:zA}{s:zY}{k:Nat}{xs:zG}{Q:zA},A.handled=none->st k s.heap->src xs s.heap->xs[k]?=none->
  (∀h' e,Heap.ExtBut it s.heap h'->(∃o,h'.get? e=some o/\o.cls=.type "StopIteration")->E (.ref e) {s with heap:=h'})->wpAny (model prog w) A (Builtin.SmallTypes.nextOf (.ref it)) Q E s
 mv:∀{k:Nat}{h h':yA},st k h->(∀o,h.get? it=some o->h'.get? it=some o)->st k h'
 mvS:∀{xs:zG}{h h':yA},src xs h->(∀o,h.get? l=some o->h'.get? l=some o)->src xs h'
 ob:∀{k:Nat}{h:yA},st k h->∃o,h.get? it=some o/\∀v,o.data≠.cell v
theorem ry(it l:zW):Nx it l (λk h=>h.IsListIter it l k) (λxs h=>h.IsList l xs) where
 item:=wpAny_nextOf_list_item
 fin:=wpAny_nextOf_list_end
 mv:=λx e=>x.at e
 mvS:=λx e=>x.at e
 ob:=λ⟨o,e,_,d⟩=>(ah o e λv z=>by rw[d]at z;cases z)
def E0g(h:zW)(g:yA):Prop:=∃a b,g.get? h=some a/\a.data=.fields b/\b[2]?=some .none
theorem E0g.at{h:zW}{g:yA}(k:E0g h g)(f:∀o,g.get? h=some o->g'.get? h=some o):E0g h g':=let⟨oh,vs,e,d,z⟩:=k;(fx oh vs (f _ e) d z)
abbrev HdA(e:zO):zZ->Prop:=λA=>A.handled=e.map Value.ref
def HdF(e:zO)(fp:zQ)(g:yA):Prop:=∀h,e=some h->E0g h g/\∀c∈fp,h≠c
theorem HdF.at{g:yA}(k:HdF e fp g)(f:∀h o,(∀c∈fp,h≠c)->g.get? h=some o->g'.get? h=some o){c:zW}(a:c∈fp):HdF e [c] g':=λh z=>⟨(k h z).1.at λo q=>f h o (k h z).2 q,λd b=>by rw[mL.mp b];exact(k h z).2 c a⟩
theorem JN:entryFor table "proto.unchain"=some Builtin.«proto.unchain»:=entryFor_of_fast (by kernel_rfl)
theorem Jw{e:zX}{h:zW}{a:Obj}{vs:zG}{Q:zA}(b:s.heap.get? h=some a)(d:a.data=.fields vs)(h2:vs[2]?=some .none)(c:Q .none s):
  wpAny (model prog w) A (runValue (.builtin "proto.unchain" ⟨[e,.ref h,.ref h,.bool false],[]⟩)) Q E s:=by
 refine runValue_entry JN ?_;show wpAny _ _ (field (.ref h) 2>>=_) _ _ s;refine cz (jQ b d h2 ?_);exact hE (ah _ rfl c)
theorem JQ{h e:zW}{c b:Obj}{vs es:zG}{Q:α->zY->Prop}(d:A.handled=some (.ref h))(l:h≠e)(g:s.heap.get? h=some c)(i:c.data=.fields vs)(h2:vs[2]?=some .none)(j:s.heap.get? e=some b)(a:b.data=.fields es)(hz:2<es.size)
  (f:E (.ref e) {s with heap:=s.heap.update e (Obj.mapFields (·.setIfInBounds 2 (.ref h)))}):wpAny (model prog w) A (raiseNew (.ref e)) Q E s:=by
 simp only [raiseNew];refine cz (wpAny_handled ?_);rw[d];have k:(Value.ref h != Value.ref e)=true:=by simpa using l
 dsimp only;rw[ia k];refine cz (ny (Jw g i h2 ?_));refine cz (qg (x:=.ref h) j a hz (wpAny_throw f))
theorem yy{Q:α->zY->Prop}(g:HdA e A)(k:HdF e [it] s.heap)(f:Heap.ExtBut it s.heap s1.heap)
  (i:∀h' a,Heap.ExtBut it s.heap h'->(∃o,h'.get? a=some o/\o.cls=.type "StopIteration")->E (.ref a) {s1 with heap:=h'}):wpAny (model prog w) A (newExc (.type "StopIteration") []>>=λx=>(raiseNew x:Sem α)) Q E s1:=by
 refine cz ?_;simp only [newExc,newTuple];refine cz (nQ ?_ (by size_fits));refine cz (m:=firstArgMember _ _) (wpAny_of_eq (a:=Value.none) (by first|rfl|(simp only [firstArgMember];rfl)) ?_);refine nQ ?_ (by size_fits)
 cases e with
 |none=>simp only [raiseNew];refine cz (wpAny_handled ?_);rw[show A.handled=none from g];exact cz (hE (wpAny_throw (i _ _ ((f.push _).push _) (ah _ (jw _ rfl) rfl))))
 |some h=>
  obtain⟨⟨l,u,r,n,t⟩,q⟩:=k h rfl;have d:=f h l (q it (.head _)) r;refine JQ (h:=h) g ?_ (iB _ (iB _ d)) n t (jw _ rfl) rfl (by simp;lia) ?_
  ·exact jJ (by rw[ot];exact Nat.lt_succ_of_lt (iI d))
  refine i _ _ (λb o p j=>?_) (ah _ (rL _ (jw _ rfl) rfl) rfl);have c:=f b o p j;exact(wg _ _ (lH (by rw[ot];exact Nat.lt_succ_of_lt (iI c)))).trans (iB _ (iB _ c))
theorem Ek{k:Nat}(g:HdA e A)(n:HdF e [it] s.heap)(hi:s.heap.IsListIter it l k)(i:s.heap.IsList l xs)(m:xs[k]?=none)
  (j:∀h' a,Heap.ExtBut it s.heap h'->(∃o,h'.get? a=some o/\o.cls=.type "StopIteration")->E (.ref a) {s with heap:=h'}):wpAny (model prog w) A (callSpecial? (.ref it) (Str.ofString "__next__")) (λ_ _=>False) E s:=by
 obtain⟨o,c,q,f⟩:=id hi;obtain⟨p,d,_,r,b⟩:=i;refine nA (name:=Str.ofString "__next__") hi.typeIs slot_listiter_next (mn slot_listiter_next hi.typeIs entry_listiter_next ?_ (args_listiter_next _));show wpAny _ _ (field (.ref it) 0>>=_) _ _ s;refine cz (jQ c f (x:=.ref l) rfl ?_);show wpAny _ _ (if (Value.ref l==Value.none)=true then _ else _) _ _ s;rw[fy (show¬((Value.ref l==Value.none)=true) from jD)];show wpAny _ _ (field (.ref it) 1>>=_) _ _ s;refine cz (jQ c f (x:=.int k 0) rfl ?_);show wpAny _ _ (seqItems? (.ref l)>>=_) _ _ s;refine cz (mK d b ?_);simp only [Int.toNat_natCast,m];exact cz (wpAny_rule (cz (qg c f (by simp) (yy g n (Heap.SameBut.update (a:=it) (h:=s.heap) (Obj.mapFields (·.setIfInBounds 0 .none))).extBut j))))
theorem Ac{k:Nat}(g:HdA e A)(n:HdF e [it] s.heap)(hi:s.heap.IsTupleIter it l k)(i:s.heap.IsTuple l xs)(m:xs[k]?=none)
  (j:∀h' a,Heap.ExtBut it s.heap h'->(∃o,h'.get? a=some o/\o.cls=.type "StopIteration")->E (.ref a) {s with heap:=h'}):wpAny (model prog w) A (callSpecial? (.ref it) (Str.ofString "__next__")) (λ_ _=>False) E s:=by
 obtain⟨o,c,q,f⟩:=id hi;obtain⟨p,d,_,r,b⟩:=i;refine nA (name:=Str.ofString "__next__") hi.typeIs F.slot_tuple_iterator_next (mn F.slot_tuple_iterator_next hi.typeIs F.entry_tuple_iterator_next ?_ (F.args_tuple_iterator_next_1 _));show wpAny _ _ (field (.ref it) 0>>=_) _ _ s;refine cz (jQ c f (x:=.ref l) rfl ?_);show wpAny _ _ (if (Value.ref l==Value.none)=true then _ else _) _ _ s;rw[fy (show¬((Value.ref l==Value.none)=true) from jD)];show wpAny _ _ (field (.ref it) 1>>=_) _ _ s;refine cz (jQ c f (x:=.int k 0) rfl ?_);show wpAny _ _ (seqItems? (.ref l)>>=_) _ _ s;refine cz (mK d b ?_);simp only [Int.toNat_natCast,m];exact cz (wpAny_rule (cz (qg c f (by simp) (yy g n (Heap.SameBut.update (a:=it) (h:=s.heap) (Obj.mapFields (·.setIfInBounds 0 .none))).extBut j))))
theorem xk{x:zX}{Q:zA}(h:wpAny (model prog w) A (callSpecial? x (Str.ofString "__next__")) (λ_ _=>False) E s):wpAny (model prog w) A (Builtin.SmallTypes.nextOf x) Q E s:=by unfold Builtin.SmallTypes.nextOf;exact cz (lR h (λ_ _ z=>z.elim) λ_ _ z=>z)
theorem Kt{k:Nat}{x:zX}{Q:zA}(hi:s.heap.IsTupleIter it l k)(e:s.heap.IsTuple l xs)(f:xs[k]?=some x)
  (h:∀h',h'.IsTupleIter it l (k+1)->Heap.SameBut it s.heap h'->Q x {s with heap:=h'}):wpAny (model prog w) A (Builtin.SmallTypes.nextOf (.ref it)) Q E s:=by
 obtain⟨o,b,g,a⟩:=id hi;obtain⟨i,d,_,j,c⟩:=e;unfold Builtin.SmallTypes.nextOf;refine cz (nA (name:=Str.ofString "__next__") hi.typeIs F.slot_tuple_iterator_next (mn F.slot_tuple_iterator_next hi.typeIs F.entry_tuple_iterator_next ?_ (F.args_tuple_iterator_next_1 _)));show wpAny _ _ (field (.ref it) 0>>=_) _ _ s;refine cz (jQ b a (x:=.ref l) rfl ?_);show wpAny _ _ (if (Value.ref l==Value.none)=true then _ else _) _ _ s;rw[fy (show¬((Value.ref l==Value.none)=true) from jD)];show wpAny _ _ (field (.ref it) 1>>=_) _ _ s;refine cz (jQ b a (x:=.int k 0) rfl ?_);show wpAny _ _ (seqItems? (.ref l)>>=_) _ _ s;refine cz (mK d c ?_);simp only [Int.toNat_natCast,f];refine cz (qg b a (by simp) (hE (ah x rfl (hE (h _ ?_ (Heap.SameBut.update ..))))));exact hH _ (rL _ b (Obj.isFreed_of_fields (Obj.data_mapFields a _))) ((Obj.cls_mapFields ..).trans g) (by rw[Obj.data_mapFields a];simp[rawInt])
theorem Kq{k:Nat}{Q:zA}(a:A.handled=none)(hi:s.heap.IsTupleIter it l k)(b:s.heap.IsTuple l xs)(d:xs[k]?=none)
  (c:∀h' e,Heap.ExtBut it s.heap h'->(∃o,h'.get? e=some o/\o.cls=.type "StopIteration")->E (.ref e) {s with heap:=h'}):wpAny (model prog w) A (Builtin.SmallTypes.nextOf (.ref it)) Q E s :=
 xk (Ac (e:=none) a (λ_ z=>nomatch z) hi b d c)
theorem rA(it l:zW):Nx it l (λk h=>h.IsTupleIter it l k) (λxs h=>h.IsTuple l xs) where
 item:=Kt
 fin:=Kq
 mv:=λ⟨o,e,r⟩ f=>(ah o (f _ e) r)
 mvS:=λ⟨o,e,r⟩ f=>(ah o (f _ e) r)
 ob:=λ⟨o,e,_,d⟩=>(ah o e λv z=>by rw[d]at z;cases z)
section
variable{TI TO:zW}
theorem xm(N1:Nx i1 l1 st1 src1)(N2:Nx i2 l2 st2 src2){x a b:zX}(D:ZipApart z TI TO i1 i2 l1 l2)
  (hz:IsZip s.heap z TI TO .none) (J:IsPair s.heap TI (.ref i1) (.ref i2)) (G:IsPair s.heap TO a b) (h1:st1 k1 s.heap) (h2:st2 k2 s.heap) (I:src1 xs s.heap) (B:src2 ys s.heap) (W:xs[k1]?=some x) (S:ys[k2]?=some y)
  (T:∀h',IsZip h' z TI TO (rawInt s.heap.objs.size)->IsPair h' TO x y->st1 (k1+1) h'->st2 (k2+1) h'->IsPair h' s.heap.objs.size x y->
   (∀c o,c≠z->c≠TO->c≠i1->c≠i2->s.heap.get? c=some o->h'.get? c=some o)->Q (some (.ref s.heap.objs.size)) {s with heap:=h'}):wpAny (model prog w) A (pyNext (.ref z)) Q E s:=by
 have P:s.TypeIs (.ref z) "zip":=(ah _ hz rfl);unfold pyNext;refine cz (wpAny_attempt (nA (name:=Str.ofString "__next__") P F.slot_zip_next (mn F.slot_zip_next P F.entry_zip_next ?_ (F.args_zip_next_1 _))));show wpAny _ _ (field (.ref z) 2>>=_) _ _ _;refine cz (jQ hz rfl (x:=.bool false) rfl ?_);show wpAny _ _ (field (.ref z) 3>>=_) _ _ _;refine cz (jQ hz rfl (x:=.ref TI) rfl ?_);refine cz (mK J rfl ?_);show wpAny _ _ (Builtin.SmallTypes.ownedTupleIsFree (.ref z)>>=_) _ _ _;refine cz ?_;unfold Builtin.SmallTypes.ownedTupleIsFree;refine cz (jQ hz rfl (x:=.none) rfl (hE ?_));simp only [if_true];refine cz (wpAny_rule ?_);refine cz (jQ hz rfl (x:=.ref TO) rfl ?_);refine cz (nc hz (by simp) λX C d=>?_)
 replace C:IsZip X z TI TO .ellipsis:=C
 refine cz ?_;simp only [List.zipIdx_cons,List.zipIdx_nil,List.forIn_cons,List.forIn_nil];refine cz (cz (wpAny_onRaise ?_));show wpAny _ _ (Builtin.SmallTypes.nextOf (.ref i1)>>=_) _ _ _;refine cz (N1.item (N1.mv h1 λo e=>d.extBut _ _ D.i1z e) (N1.mvS I λo e=>d.extBut _ _ D.l1z e) W λg2 t2 g=>hE ?_);have M:IsPair g2 TO a b:=g.extBut _ _ D.TOi1 (d.extBut _ _ D.TOz G);refine cz (mK M rfl ?_);refine cz (wpAny_updateSeq_pair M λg3 u h=>?_)
 replace u:IsPair g3 TO x b:=u
 refine cz (wpAny_letGo (hE ?_));refine cz (cz (wpAny_onRaise ?_));show wpAny _ _ (Builtin.SmallTypes.nextOf (.ref i2)>>=_) _ _ _;refine cz (N2.item (N2.mv h2 λo e=>h.extBut _ _ D.TOi2.symm (g.extBut _ _ D.i12.symm (d.extBut _ _ D.i2z e))) (N2.mvS B λo e=>h.extBut _ _ D.l2TO (g.extBut _ _ D.l2i1 (d.extBut _ _ D.l2z e))) S λg4 t4 l=>hE ?_);have O:IsPair g4 TO x b:=l.extBut _ _ D.TOi2 u;refine cz (mK O rfl ?_);refine cz (wpAny_updateSeq_pair O λg5 m j=>?_)
 replace m:IsPair g5 TO x y:=m
 refine cz (wpAny_letGo (hE (hE ?_)));refine cz (mK m rfl ?_);refine cz (wpAny_newTuple ?_);have i:g5.objs.size=s.heap.objs.size:=by rw[j.1,l.1,h.1,g.1,d.1]
 have N:IsZip g5 z TI TO .ellipsis:=j.extBut _ _ D.TOz.symm (l.extBut _ _ D.i2z.symm (h.extBut _ _ D.TOz.symm (g.extBut _ _ D.i1z.symm C)));have U:∀c o,c≠z->c≠TO->c≠i1->c≠i2->s.heap.get? c=some o->g5.get? c=some o:=λc o f p v H e=>j.extBut _ _ p (l.extBut _ _ H (h.extBut _ _ p (g.extBut _ _ v (d.extBut _ _ f e))));have Y:st1 (k1+1) g5:=N1.mv t2 λo e=>j.extBut _ _ D.TOi1.symm (l.extBut _ _ D.i12 (h.extBut _ _ D.TOi1.symm e));have s2:st2 (k2+1) g5:=N2.mv t4 λo e=>j.extBut _ _ D.TOi2.symm e;have k:z<g5.objs.size:=iI N;show wpAny _ _ (Builtin.SmallTypes.ownedTupleHandOut (.ref z) (.ref g5.objs.size)>>=_) _ _ _;refine cz ?_;unfold Builtin.SmallTypes.ownedTupleHandOut;have z6:IsZip (g5.push {cls:=.type "tuple",data:=.seq #[x,y]}) z TI TO .ellipsis:=iB _ N;refine cz (nc z6 (by simp) λZ t K=>?_)
 replace t:IsZip Z z TI TO (rawInt g5.objs.size):=t
 refine nc t (by simp) λq n L=>?_
 replace n:IsZip q z TI TO (rawInt g5.objs.size):=n
 have r:∀c o,c≠z->g5.get? c=some o->q.get? c=some o:=λc o f e=>L.extBut _ _ f (K.extBut _ _ f (iB _ e));have R:IsPair q g5.objs.size x y:=L.extBut _ _ (lH k) (K.extBut _ _ (lH k) (jw _ rfl));rw[i]at n R;refine hE (ah _ rfl (hE ?_));show Q (some (.ref g5.objs.size)) _;rw[i];exact T q n (r _ _ D.TOz m) (N1.mv Y λo e=>r _ o D.i1z e) (N2.mv s2 λo e=>r _ o D.i2z e) R λc o f p v H e=>r c o f (U c o f p v H e)
theorem Ey(N1:Nx i1 l1 st1 src1)(N2:Nx i2 l2 st2 src2){a b:zX}(N:A.handled=none)(D:ZipApart z TI TO i1 i2 l1 l2)
  (hz:IsZip s.heap z TI TO .none) (B:IsPair s.heap TI (.ref i1) (.ref i2)) (u:IsPair s.heap TO a b) (h1:st1 k1 s.heap) (h2:st2 k2 s.heap) (v:src1 xs s.heap) (r:src2 ys s.heap) (m:xs[k1]?=none\/ys[k2]?=none)
  (W:∀h',(∀c o,c≠z->c≠TO->c≠i1->c≠i2->s.heap.get? c=some o->h'.get? c=some o)->Q none {s with heap:=h'}):wpAny (model prog w) A (pyNext (.ref z)) Q E s:=by
 have L:s.TypeIs (.ref z) "zip":=(ah _ hz rfl);unfold pyNext
 have k:∀(h':yA)(e:zW),(∀c o,c≠z->c≠TO->c≠i1->c≠i2->s.heap.get? c=some o->h'.get? c=some o)->(∃o,h'.get? e=some o/\o.cls=.type "StopIteration")->
   wpAny (model prog w) A (isInstance (.ref e) (.type "StopIteration")>>=λb=>if b=true then pure none else throw (.ref e)) Q E {s with heap:=h'}:=λh' e Z ⟨o,X,hc⟩=>
  cz (wpAny_isInstance (T:="StopIteration") (b:=true) (ah o X hc) isSubtype_stop (hE (W _ Z)))
 refine cz (wpAny_attempt (nA (name:=Str.ofString "__next__") L F.slot_zip_next (mn F.slot_zip_next L F.entry_zip_next ?_ (F.args_zip_next_1 _))));show wpAny _ _ (field (.ref z) 2>>=_) _ _ _;refine cz (jQ hz rfl (x:=.bool false) rfl ?_);show wpAny _ _ (field (.ref z) 3>>=_) _ _ _;refine cz (jQ hz rfl (x:=.ref TI) rfl ?_);refine cz (mK B rfl ?_);show wpAny _ _ (Builtin.SmallTypes.ownedTupleIsFree (.ref z)>>=_) _ _ _;refine cz ?_;unfold Builtin.SmallTypes.ownedTupleIsFree;refine cz (jQ hz rfl (x:=.none) rfl (hE ?_));simp only [if_true];refine cz (wpAny_rule ?_);refine cz (jQ hz rfl (x:=.ref TO) rfl ?_);refine cz (nc hz (by simp) λY n j=>?_)
 replace n:IsZip Y z TI TO .ellipsis:=n
 refine cz ?_;simp only [List.zipIdx_cons,List.zipIdx_nil,List.forIn_cons,List.forIn_nil];refine cz (cz (wpAny_onRaise ?_));show wpAny _ _ (Builtin.SmallTypes.nextOf (.ref i1)>>=_) _ _ _;have P:=N1.mv h1 λo e=>j.extBut _ _ D.i1z e;have O:=N1.mvS v λo e=>j.extBut _ _ D.l1z e
 cases hx:xs[k1]? with
 |none=>
  refine cz (N1.fin N P O hx λy e g C=>?_);obtain⟨p,d,f⟩:=C;have J:IsZip y z TI TO .ellipsis:=g _ _ D.i1z.symm n;have t:e≠z:=λx=>by subst x;rw[J]at d;cases d;simp at f
  exact nc J (by simp) λM _ i=>k M e (λc o l _ q _ x=>i.extBut _ _ l (g _ _ q (j.extBut _ _ l x))) (ah p (i.extBut _ _ t d) f)
 |some x=>
  have R:ys[k2]?=none:=by
   rcases m with h|h
   ·rw[hx]at h;cases h
   ·exact h
  refine cz (N1.item P O hx λy t2 g=>hE ?_);have H:IsPair y TO a b:=g.extBut _ _ D.TOi1 (j.extBut _ _ D.TOz u);refine cz (mK H rfl ?_);refine cz (wpAny_updateSeq_pair H λM p3 i=>?_);refine cz (wpAny_letGo (hE ?_));refine cz (cz (wpAny_onRaise ?_));show wpAny _ _ (Builtin.SmallTypes.nextOf (.ref i2)>>=_) _ _ _;refine cz (N2.fin N (N2.mv h2 λo e=>i.extBut _ _ D.TOi2.symm (g.extBut _ _ D.i12.symm (j.extBut _ _ D.i2z e))) (N2.mvS r λo e=>i.extBut _ _ D.l2TO (g.extBut _ _ D.l2i1 (j.extBut _ _ D.l2z e))) R λg4 e K C=>?_);obtain⟨p,d,f⟩:=C;have I:IsZip g4 z TI TO .ellipsis:=K _ _ D.i2z.symm (i.extBut _ _ D.TOz.symm (g.extBut _ _ D.i1z.symm n));have t:e≠z:=λx=>by subst x;rw[I]at d;cases d;simp at f
  exact nc I (by simp) λS _ G=>k S e (λc o l U q c4 x=>G.extBut _ _ l (K _ _ c4 (i.extBut _ _ U (g.extBut _ _ q (j.extBut _ _ l x))))) (ah p (G.extBut _ _ t d) f)
end
theorem Inv.turnedNew{o:HO}(I:Inv X pins Z H s)(k:∀b u,b∉ts->s.heap.get? b=some u->h'.get? b=some u)(f:∀b∈ts,mM X pins H b)(t:s.heap.objs.size<=a)
  (i:A1s X.prog X.w (upd H a o) h' a o):Inv X pins Z (upd H a o) {s with heap:=h',toks:=t'}:=by
 have l:∀b u,H b=some u->b∉ts:=λb u e z=>by have:=(f b z).1;rw[e]at this;cases this
 have y:∀b u,s.heap.get? b=some u->b≠a:=λb u e=>jJ (mC (iI e) t);have h:H a=none:=I.hok.fresh t
 refine I.step (g':=s.gens) (d':=s.drawn) (ch:=ts) (λb g=>(jO ((f b g).2.2.2.1) ((f b g).2.1) ((f b g).2.2.2.2.1) ((f b g).2.2.2.2.2))) (λb u _ _ d e _=>k b u d e) (λb u _ _ d e _=>⟨u.slots,k b u d e⟩)
  (λb u _ e n=>by rw[dV (y b u e)];exact n) (λb u d e=>⟨u,k b u d e⟩) (λb j e=>by rw[dV (ik e h)];exact e) (λb u j e=>by rw[dV (ik e h)];exact e)
  (λb D e=>⟨#[],by rw[dV (ik e h),e];simp⟩) (λm C=>?_) (λb u e=>?_) I.bare
 ·obtain⟨p,A,x,B,r⟩:=C;exact ku p A x (k _ p (λz=>(f _ z).2.1 rfl) B) r
 ·by_cases g:b=a
  ·subst g;rw[dh]at e;cases e;exact i
  ·rw[dV g]at e;refine(I.hok b u e).stay (λc v d q=>k c v ?_ q) (λc q=>by rw[dV (ik q h)];exact q) λc j q=>by rw[dV (ik q h)];exact q
   rcases d with rfl|d
   ·exact l _ _ e
   ·exact l _ _ d
theorem Inv.turnedL(I:Inv X pins Z H s)(k:∀b u,b∉ts->s.heap.get? b=some u->h'.get? b=some u)(f:∀b∈ts,mM X pins H b):Inv X pins Z H {s with heap:=h',toks:=t'}:=by
 have h:∀b u,H b=some u->b∉ts:=λb u e z=>by have:=(f b z).1;rw[e]at this;cases this
 refine I.step (g':=s.gens) (d':=s.drawn) (ch:=ts) (λb d=>(jO ((f b d).2.2.2.1) ((f b d).2.1) ((f b d).2.2.2.2.1) ((f b d).2.2.2.2.2))) (λb u _ _ a e _=>k b u a e) (λb u _ _ a e _=>⟨u.slots,k b u a e⟩)
  (λb u _ e n=>n) (λb u a e=>⟨u,k b u a e⟩) (λb g e=>e) (λb u g e=>e) (λb t e=>⟨#[],by rw[e];simp⟩) (λm p=>?_) (λb u e=>?_) I.bare
 ·obtain⟨i,l,j,o,r⟩:=p;exact ku i l j (k _ i (λz=>(f _ z).2.1 rfl) o) r
 ·refine(I.hok b u e).stay (λc v a q=>k c v ?_ q) (λc q=>q) λc g q=>q;rcases a with rfl|a
  ·exact h _ _ e
  ·exact h _ _ a
def SqK(k:Bool)(K:Frag)(H:Hp)(a:zW)(xs:zM):Prop:=match k with|true=>SqL K H a xs|false=>SqT K H a xs
def SrK(k:Bool)(h:yA)(l:zW)(xs:zG):Prop:=match k with|true=>h.IsList l xs|false=>h.IsTuple l xs
def StK(k:Bool)(it l:zW)(i:Nat)(h:yA):Prop:=match k with|true=>h.IsListIter it l i|false=>h.IsTupleIter it l i
abbrev itK(k:Bool):String:=match k with|true=>"list_iterator" |false=>"tuple_iterator"
theorem nxK:∀(k:Bool)(it l:zW),Nx it l (λi h=>StK k it l i h) (λxs h=>SrK k h l xs)|true=>ry|false=>rA
theorem rQ{X:Cx}{pins:zD}{Z:St}{H:Hp}{s:zY}{a:zW}{xs:zM}(I:Inv X pins Z H s):∀{k:Bool},SqK k X.K H a xs->∃its:zH,A2d xs its/\SrK k s.heap a its.toArray|true,h=>let⟨its,rv,p,_⟩:=I.list h;(ah its rv p.isList)|false,h=>let⟨its,rv,p,_⟩:=I.tuple h;(ah its rv p)
theorem yj{X:Cx}{pins:zD}{Z:St}{H:Hp}{s:zY}{a:zW}{xs ys:zM}(I:Inv X pins Z H s):∀{k:Bool},SqK k X.K H a xs->SqK k X.K H a ys->xs=ys|true,h,g=>I.list_inj h g|false,h,g=>I.tuple_inj h g
theorem ltK{h:yA}{l:zW}{xs:zG}:∀{k:Bool},SrK k h l xs->l<h.objs.size|true,⟨_,e,_⟩=>iI e|false,⟨_,e,_⟩=>iI e
theorem yr{prog:yB}{w:yD}{A:zZ}{E:zA}{s:zY}{l:zW}{xs:zG}{Q:zA}:∀{k:Bool},SrK k s.heap l xs->Q (.ref s.heap.objs.size) {s with heap:=s.heap.push {cls:=.type (itK k),data:=.fields #[.ref l,.int 0 0]}}->wpAny (model prog w) A (pyIter (.ref l)) Q E s|true,h,q=>wpAny_pyIter_list h q|false,h,q=>wpAny_pyIter_tuple h q
theorem x8{h:yA}{it l:zW}:∀{k:Bool},h.get? it=some {cls:=.type (itK k),data:=.fields #[.ref l,.int 0 0]}->StK k it l 0 h|true,e=>(hH _ e rfl rfl)|false,e=>(hH _ e rfl rfl)
def Itk(k1 k2:Bool)(K:Frag)(a b:zW):It :=
 ⟨λi H=>∃c d x y,SqK k1 K H a c/\SqK k2 K H b d/\c[i]?=some x/\d[i]?=some y,
  λi H v e=>∃p,H p=none/\v=.ref p/\∃x y,(∀c,SqK k1 K H a c->c[i]?=some x)/\(∀d,SqK k2 K H b d->d[i]?=some y)/\e=upd H p (.tup [x,y]),
  λi H=>∃c d,SqK k1 K H a c/\SqK k2 K H b d/\(c.length<=i\/d.length<=i)⟩
def wU(k1 k2:Bool)(z TI TO i1 i2 a b:zW)(i:Nat)(h:yA):Prop:=IsZip h z TI TO .none/\IsPair h TI (.ref i1) (.ref i2)/\(∃u v,IsPair h TO u v)/\StK k1 i1 a i h/\StK k2 i2 b i h
theorem x4{a:Bool}{k:Nat}{Q:zA}(c:HdA e A)(b:HdF e [it] s.heap)(hi:StK a it l k s.heap)(d:SrK a s.heap l xs)(g:xs[k]?=none)
  (f:∀h' e,Heap.ExtBut it s.heap h'->(∃o,h'.get? e=some o/\o.cls=.type "StopIteration")->E (.ref e) {s with heap:=h'}):wpAny (model prog w) A (Builtin.SmallTypes.nextOf (.ref it)) Q E s:=by
 cases a with
 |true=>exact xk (Ek c b hi d g f)
 |false=>exact xk (Ac c b hi d g f)
section
variable{TI TO:zW}
theorem AE{a b:zX}(R:HdA e A)(r:HdF e [z,TI,TO,i1,i2] s.heap)(D:ZipApart z TI TO i1 i2 l1 l2)
  (hz:IsZip s.heap z TI TO .none) (H:IsPair s.heap TI (.ref i1) (.ref i2)) (B:IsPair s.heap TO a b) (h1:StK q1 i1 l1 k1 s.heap) (h2:StK q2 i2 l2 k2 s.heap) (C:SrK q1 s.heap l1 xs) (v:SrK q2 s.heap l2 ys) (m:xs[k1]?=none\/ys[k2]?=none)
  (Z:∀h',(∀c o,c≠z->c≠TO->c≠i1->c≠i2->s.heap.get? c=some o->h'.get? c=some o)->Q none {s with heap:=h'}):wpAny (model prog w) A (pyNext (.ref z)) Q E s:=by
 have O:s.TypeIs (.ref z) "zip":=(ah _ hz rfl);have N1:=nxK q1 i1 l1;have N2:=nxK q2 i2 l2;unfold pyNext
 have k:∀(h':yA)(e:zW),(∀c o,c≠z->c≠TO->c≠i1->c≠i2->s.heap.get? c=some o->h'.get? c=some o)->(∃o,h'.get? e=some o/\o.cls=.type "StopIteration")->
   wpAny (model prog w) A (isInstance (.ref e) (.type "StopIteration")>>=λb=>if b=true then pure none else throw (.ref e)) Q E {s with heap:=h'}:=λh' e r ⟨o,ho,hc⟩=>
  cz (wpAny_isInstance (T:="StopIteration") (b:=true) (ah o ho hc) isSubtype_stop (hE (Z _ r)))
 refine cz (wpAny_attempt (nA (name:=Str.ofString "__next__") O F.slot_zip_next (mn F.slot_zip_next O F.entry_zip_next ?_ (F.args_zip_next_1 _))));show wpAny _ _ (field (.ref z) 2>>=_) _ _ _;refine cz (jQ hz rfl (x:=.bool false) rfl ?_);show wpAny _ _ (field (.ref z) 3>>=_) _ _ _;refine cz (jQ hz rfl (x:=.ref TI) rfl ?_);refine cz (mK H rfl ?_);show wpAny _ _ (Builtin.SmallTypes.ownedTupleIsFree (.ref z)>>=_) _ _ _;refine cz ?_;unfold Builtin.SmallTypes.ownedTupleIsFree;refine cz (jQ hz rfl (x:=.none) rfl (hE ?_));simp only [if_true];refine cz (wpAny_rule ?_);refine cz (jQ hz rfl (x:=.ref TO) rfl ?_);refine cz (nc hz (by simp) λg1 p i=>?_)
 replace p:IsZip g1 z TI TO .ellipsis:=p
 refine cz ?_;simp only [List.zipIdx_cons,List.zipIdx_nil,List.forIn_cons,List.forIn_nil];refine cz (cz (wpAny_onRaise ?_));show wpAny _ _ (Builtin.SmallTypes.nextOf (.ref i1)>>=_) _ _ _;have U:=N1.mv h1 λo e=>i.extBut _ _ D.i1z e;have S:=N1.mvS C λo e=>i.extBut _ _ D.l1z e
 cases hx:xs[k1]? with
 |none=>
  refine cz (x4 R (r.at (λh o n q=>i.extBut _ _ (n z (by simp)) q) (by simp)) U S hx λG e g I=>?_);obtain⟨t,d,f⟩:=I;have M:IsZip G z TI TO .ellipsis:=g _ _ D.i1z.symm p;have y:e≠z:=λx=>by subst x;rw[M]at d;cases d;simp at f
  exact nc M (by simp) λP _ j=>k P e (λc o l _ u _ x=>j.extBut _ _ l (g _ _ u (i.extBut _ _ l x))) (ah t (j.extBut _ _ y d) f)
 |some x=>
  have W:ys[k2]?=none:=by
   rcases m with h|h
   ·rw[hx]at h;cases h
   ·exact h
  refine cz (N1.item U S hx λG t2 g=>hE ?_);have K:IsPair G TO a b:=g.extBut _ _ D.TOi1 (i.extBut _ _ D.TOz B);refine cz (mK K rfl ?_);refine cz (wpAny_updateSeq_pair K λP p3 j=>?_);refine cz (wpAny_letGo (hE ?_));refine cz (cz (wpAny_onRaise ?_));show wpAny _ _ (Builtin.SmallTypes.nextOf (.ref i2)>>=_) _ _ _;refine cz (x4 R (r.at (λh o n q=>j.extBut _ _ (n TO (by simp)) (g.extBut _ _ (n i1 (by simp)) (i.extBut _ _ (n z (by simp)) q))) (by simp)) (N2.mv h2 λo e=>j.extBut _ _ D.TOi2.symm (g.extBut _ _ D.i12.symm (i.extBut _ _ D.i2z e))) (N2.mvS v λo e=>j.extBut _ _ D.l2TO (g.extBut _ _ D.l2i1 (i.extBut _ _ D.l2z e))) W λg4 e N I=>?_);obtain⟨t,d,f⟩:=I;have L:IsZip g4 z TI TO .ellipsis:=N _ _ D.i2z.symm (j.extBut _ _ D.TOz.symm (g.extBut _ _ D.i1z.symm p));have y:e≠z:=λx=>by subst x;rw[L]at d;cases d;simp at f
  exact nc L (by simp) λX _ J=>k X e (λc o l Y u c4 x=>J.extBut _ _ l (N _ _ c4 (j.extBut _ _ Y (g.extBut _ _ u (i.extBut _ _ l x))))) (ah t (J.extBut _ _ y d) f)
end
def xcG(b C:zW)(od:zO):yA->Prop:=λh=>∃o a,h.get? b=some o/\o.cls=.ref C/\o.dict=od/\o.data=.fields a/\a[2]?=some .none
def HdO(e:zO)(H:Hp):Prop:=∀a,e=some a->∃C b,H a=some (.ext (xcG a C b))
theorem HdO.heap(h:HdO e H)(I:Inv X pins Z H s)(g:∀b∈fp,mM X pins H b):HdF e fp s.heap:=λa z=>by obtain⟨C,m,d⟩:=h a z;obtain⟨⟨o,f,j,_,_,l,i⟩,_,_⟩:=(show A1s X.prog X.w H s.heap a (.ext (xcG a C m)) from I.hok a _ d);exact⟨(fx o f j l i),λc k y=>by rw[y,(g c k).1]at d;cases d⟩
def ItO(e:zO)(J:It):It:=⟨J.go,J.yld,λi H=>J.stop i H/\HdO e H⟩
theorem GZ{k1 k2:Bool}{TI TO:zW}(D:ZipApart z TI TO i1 i2 a b):
  B0q (HdA e) P w K (.Tuple elts kk pos) (ItO e (Itk k1 k2 K a b)) [z,TI,TO,i1,i2] z (wU k1 k2 z TI TO i1 i2 a b) where
 mem:=by simp
 obj:=λi h j c d=>by
  obtain⟨t,f,⟨u,v,q⟩,n,r⟩:=j;simp only [jt,my,or_false]at d;rcases d with rfl|rfl|rfl|rfl|rfl
  ·exact ah _ t λv z=>by cases(show Data.fields _=Data.cell v from z)
  ·exact ah _ f λv z=>by cases(show Data.seq _ _=Data.cell v from z)
  ·exact ah _ q λv z=>by cases(show Data.seq _ _=Data.cell v from z)
  ·exact(nxK k1 _ a).ob n
  ·exact(nxK k2 _ b).ob r
 keep:=λi h Y j k=>by obtain⟨t,f,⟨u,v,q⟩,n,r⟩:=j;exact jH (k z (by simp) _ t) (k TI (by simp) _ f) (km u v (k TO (by simp) _ q)) ((nxK k1 i1 a).mv n λo e=>k i1 (by simp) o e) ((nxK k2 i2 b).mv r λo e=>k i2 (by simp) o e)
 item:=by
  intro X T hw O d i p s Z H E I F j J;subst T hw O;refine jy J λxs ys x y m l N hy=>?_;clear J;obtain⟨a0,U,L⟩:=rQ I m;obtain⟨C,A,W⟩:=rQ I l;obtain⟨u,hu,ru⟩:=U.get N;obtain⟨u2,R,M⟩:=A.get hy;obtain⟨t,f,⟨o1,o2,q⟩,n,r⟩:=j;refine xm (nxK k1 i1 a) (nxK k2 i2 b) D t f q n r L W (x:=u) (by simpa using hu) (y:=u2) (by simpa using R) λY z1 z2 z3 z4 z5 G=>?_;refine ah _ rfl (wpAny_letOwnedTupleGo_zip (s:={s with heap:=Y}) z1 λg zg B=>?_)
  have nz:s.heap.objs.size≠z:=lH (iI t);have n2:TI<s.heap.objs.size:=iI f;have n3:TO<s.heap.objs.size:=iI q;have n4:i1<s.heap.objs.size:=let⟨_,e,_⟩:=(nxK k1 i1 a).ob n;iI e;have n5:i2<s.heap.objs.size:=let⟨_,e,_⟩:=(nxK k2 i2 b).ob r;iI e;have zq:IsPair g s.heap.objs.size u u2:=B.extBut _ _ nz z5
  have I1:Inv X p Z (upd H s.heap.objs.size (.tup [x,y])) {s with heap:=g,toks:=s.toks}:=I.turnedNew (ts:=[z,TI,TO,i1,i2]) (λc o d e=>by
   simp only [jt,my,or_false,not_or]at d
   exact B.extBut _ _ d.1 (G c o d.1 d.2.2.1 d.2.2.2.1 d.2.2.2.2 e)) F (ig _) (iV (by show 2<=sizeLine;decide) [u,u2] (.cons ru (.cons M .nil)) (oN _ zq rfl _ rfl))
  refine⟨.ref s.heap.objs.size,_,I1,rfl,(ah _ (I.hok.fresh (ig _)) (jN rfl x y (λzs Q=>by rw[yj I Q m];exact N) (λzs Q=>by rw[yj I Q l];exact hy) rfl)),
   (jH zg (B.extBut _ _ D.TIz (G _ _ D.TIz D.TITO D.TIi1 D.TIi2 f)) (km _ _ (B.extBut _ _ D.TOz z2)) ((nxK k1 i1 a).mv z3 λo e=>B.extBut _ _ D.i1z e) ((nxK k2 i2 b).mv z4 λo e=>B.extBut _ _ D.i2z e)),λc d=>?_⟩
  have S:c≠s.heap.objs.size:=by
   simp only [jt,my,or_false]at d;rcases d with rfl|rfl|rfl|rfl|rfl
   ·exact nz.symm
   ·exact jJ n2
   ·exact jJ n3
   ·exact jJ n4
   ·exact jJ n5
  rw[dV S];exact(F c d).1
 done:=by
  intro X T hw O d i p s Z H E I F j J;subst T hw O;obtain⟨⟨xs,ys,m,l,N⟩,hO⟩:=J;have hF:=hO.heap I F;obtain⟨a0,U,L⟩:=rQ I m;obtain⟨C,A,W⟩:=rQ I l;have e1:=U.length;have e2:=A.length;obtain⟨t,f,⟨o1,o2,q⟩,n,r⟩:=j;refine AE d hF D t f q n r L W (by simp;lia) λY G=>⟨rfl,?_⟩
  exact I.turnedL (t':=s.toks) (ts:=[z,TI,TO,i1,i2]) (λc o d e=>by
   simp only [jt,my,or_false,not_or]at d
   exact G c o d.1 d.2.2.1 d.2.2.2.1 d.2.2.2.2 e) F
 self:=λ_ _ _ _ _ j h=>wpAny_pyIter_zip j.1 h
theorem C3f.of(T:B0q (HdA none) P w K tg (ItO none J) fp it tn):C3f P w K tg J fp it tn:=⟨T.mem,T.obj,T.keep,T.item,λX a b c d i e s Z H E I f g q=>T.done X a b c d i e s Z H E I f g ⟨q,λ_ z=>nomatch z⟩,T.self⟩
theorem Hi{k1 k2:Bool}{TI TO:zW}(D:ZipApart z TI TO i1 i2 a b):
  C3f P w K (.Tuple elts kk pos) (Itk k1 k2 K a b) [z,TI,TO,i1,i2] z (wU k1 k2 z TI TO i1 i2 a b):=
 C3f.of (GZ D)
abbrev uR(k1:Bool)(h:yA)(l1:zW):yA:=h.push {cls:=.type (itK k1),data:=.fields #[.ref l1,.int 0 0]}
abbrev uO(k1 k2:Bool)(h:yA)(l1 l2:zW):yA:=(uR k1 h l1).push {cls:=.type (itK k2),data:=.fields #[.ref l2,.int 0 0]}
noncomputable abbrev uX(k1 k2:Bool)(h:yA)(l1 l2:zW):yA:=(uO k1 k2 h l1 l2).push {cls:=.type "tuple",data:=.seq #[.ref h.objs.size,.ref (uR k1 h l1).objs.size]}
noncomputable abbrev uQ(k1 k2:Bool)(h:yA)(l1 l2:zW):yA:=(uX k1 k2 h l1 l2).push {cls:=.type "tuple",data:=.seq #[.none,.none]}
noncomputable abbrev rM(k1 k2:Bool)(h:yA)(l1 l2:zW):yA:=(uQ k1 k2 h l1 l2).push {cls:=.type "zip",data:=.fields #[.none,.bool false,.bool false,.ref (uO k1 k2 h l1 l2).objs.size,.ref (uX k1 k2 h l1 l2).objs.size]}
theorem Ia(k1 k2:Bool)(l1 l2:zW)(xs ys:zG):Meets (Builtin.«zip.__new__» ⟨[.type "zip",.ref l1,.ref l2],[]⟩) (λ_ R s=>SrK k1 s.heap l1 xs/\SrK k2 s.heap l2 ys/\
  R (.ok (.ret (.ref (uQ k1 k2 s.heap l1 l2).objs.size))) {s with heap:=rM k1 k2 s.heap l1 l2}):=
 .of_wp λi w A R s h=>by
  obtain⟨m,g,d,j,k⟩:=s;obtain⟨c,a,h⟩:=h;have l:=sub_zip;have f:SrK k1 (Shared.heap ⟨m,g,d,j,k⟩) l1 xs:=c;have b:SrK k2 (Shared.heap ⟨m.push {cls:=.type (itK k1),data:=.fields #[.ref l1,.int 0 0]},g,d,j,k⟩) l2 ys:=(nxK k2 0 l2).mvS a λo e=>iB _ e
  wp_walk using yr f,yr b
  exact ah _ rfl h
theorem AT{k1 k2:Bool}{prog:yB}{w:yD}{A:zZ}{E:zA}{s:zY}{l1 l2:zW}{xs ys:zG}{Q:zA}(d:SrK k1 s.heap l1 xs)(g:SrK k2 s.heap l2 ys)
  (h:∀h',wU k1 k2 (s.heap.objs.size+4) (s.heap.objs.size+2) (s.heap.objs.size+3) s.heap.objs.size (s.heap.objs.size+1) l1 l2 0 h'->(∀c o,s.heap.get? c=some o->h'.get? c=some o)->Q (.ref (s.heap.objs.size+4)) {s with heap:=h'}):
  wpAny (model prog w) A (call (.type "zip") [.ref l1,.ref l2]) Q E s:=by
 refine callType_new F.called_zip (by decide) (F.typeCall_zip_2 _ _) (F.newCall_zip_2 _ _) (λa=>F.args_object_init_3 a _ _) F.entry_zip_new (Ia k1 k2 l1 l2 xs ys) (hQ d g ?_);have f:(uR k1 s.heap l1).objs.size=s.heap.objs.size+1:=ot ..;have e:(uO k1 k2 s.heap l1 l2).objs.size=s.heap.objs.size+2:=by rw[ot,f]
 have b:(uX k1 k2 s.heap l1 l2).objs.size=s.heap.objs.size+3:=by rw[ot,e]
 have k:(uQ k1 k2 s.heap l1 l2).objs.size=s.heap.objs.size+4:=by rw[ot,b]
 have i:(rM k1 k2 s.heap l1 l2).get? (uQ k1 k2 s.heap l1 l2).objs.size=some _:=jw _ rfl;have l:(rM k1 k2 s.heap l1 l2).get? (uX k1 k2 s.heap l1 l2).objs.size=some _:=iB _ (jw _ rfl);have m:(rM k1 k2 s.heap l1 l2).get? (uO k1 k2 s.heap l1 l2).objs.size=some _:=iB _ (iB _ (jw _ rfl));have j:(rM k1 k2 s.heap l1 l2).get? (uR k1 s.heap l1).objs.size=some _:=iB _ (iB _ (iB _ (jw _ rfl)));have n:(rM k1 k2 s.heap l1 l2).get? s.heap.objs.size=some _:=iB _ (iB _ (iB _ (iB _ (jw _ rfl))));show _/\_;rw[e,b,k]at i;rw[f,e]at m;rw[b]at l;rw[f]at j;rw[k];exact⟨(ah _ i rfl),h _ (jH i m (km _ _ l) (x8 n) (x8 j)) λc o x=>iB _ (iB _ (iB _ (iB _ (iB _ x))))⟩
def CP(k1 k2:Bool)(K:Frag)(ta:TA):TI:=λZ H R=>ta Z H λd c=>∃a b e f,d=[.ref a,.ref b]/\SqK k1 K c a e/\SqK k2 K c b f/\R (Itk k1 k2 K a b) c
theorem zp{k1 k2:Bool}{X:Cx}{elts:zT}{kk:Nat}{tpos:Pos}{a b:yC}{ta:TA}{p pos:Pos}(M:Gl X "zip")(z:X.mg "zip"=none)(N:PA X [a,b] ta)(F:starEach [a,b] X.env=[(false,eval a X.env),(false,eval b X.env)]:=by rfl)(i:starEach [b] X.env=[(false,eval b X.env)]:=by rfl):
  PI X (.Tuple elts kk tpos) (.Call (.Name "zip" p) [a,b] [] pos) (CP k1 k2 X.K ta):=by
 intro f s Z H R I h;refine Call_ (oF I M z boot_zip (PyProof.Rows.callWith_type1 (thn (N pos f s Z H _ I h) λW d ⟨S,t,I1,A,n⟩=>?_) (by rw[F,i]) (by rw[i];rfl)));refine jy n λG y T P e l k q=>?_;clear n;subst e;obtain⟨u,U,rfl,L,j⟩:=rX A;cases L;cases j;obtain⟨C,Q,m⟩:=rQ I1 l;obtain⟨w,J,o⟩:=rQ I1 k;have B:G<d.heap.objs.size:=ltK m;have O:y<d.heap.objs.size:=ltK o;refine AT m o λx r D=>wpAny_pyIter_zip r.1 ?_;have I2:Inv X f Z t {d with heap:=x}:=I1.kept (t':=d.toks) D;refine jk _ [d.heap.objs.size+4,d.heap.objs.size+2,d.heap.objs.size+3,d.heap.objs.size,d.heap.objs.size+1] _ _ t rfl I2 (Hi (zipApart_new B O)) r (λc v=>?_) q
 have g:d.heap.objs.size<=c:=by
  simp only [jt,my,or_false]at v;rcases v with rfl|rfl|rfl|rfl|rfl
  ·exact Nat.le_add_right _ _
  ·exact Nat.le_add_right _ _
  ·exact Nat.le_add_right _ _
  ·exact ig _
  ·exact Nat.le_add_right _ _
 exact I1.fpOk g (I1.hok.fresh g)
theorem Au{k1 k2:Bool}{xs ys:zM}(Pv:Nat->St->Hp->Prop)(l:Pv 0 Z H)(k:∀i Z H,Pv i Z H->SqK k1 K H a xs/\SqK k2 K H b ys)(h:xs.length<=ys.length)
  (r:∀i x y Z H p,xs[i]?=some x->ys[i]?=some y->Pv i Z H->H p=none->g (.ref p) Z (upd H p (.tup [x,y])) λZ2 H2=>tb {D with nx:=Pv (i+1),ct:=Pv (i+1),bk:=D.nx} Z2 H2) (t:∀Z H,Pv xs.length Z H->D.nx Z H):
  ∃W:Nat->Nat->St->Hp->Prop,(∃m,W 0 m Z H)/\∀i m Z H,W i m Z H->
   ((Itk k1 k2 K a b).stop i H/\D.nx Z H)\/((Itk k1 k2 K a b).go i H/\∃N:St->Hp->Prop,(∀Z' H',N Z' H'->∃j,j<m/\W (i+1) j Z' H')/\∀x H',(Itk k1 k2 K a b).yld i H x H'->g x Z H' λZ2 H2=>tb {D with nx:=N,ct:=N,bk:=D.nx} Z2 H2):=by
 refine ah (λi m Z H=>m=xs.length-i/\i<=xs.length/\Pv i Z H) (hH xs.length (by simp) (jP _) l) ?_;rintro i m Z H ⟨rfl,A,p⟩;obtain⟨f,d⟩:=k i Z H p;by_cases hlt:i<xs.length
 ·have q:xs[i]?=some xs[i]:=jq hlt;have w:ys[i]?=some (ys[i]'(by lia)):=jq _;refine .inr (iV (jo xs ys _ _ f d q w) (Pv (i+1)) (λZ' H' s=>(ky (xs.length-(i+1)) (by lia) rfl hlt s)) λv H' y=>?_);refine oZ y ?_;clear y;rintro c n rfl ⟨x,z,u,o,rfl⟩;exact r i x z Z H c (u xs f) (o ys d) p n
 ·have e:i=xs.length:=by lia
  subst e;exact .inl ⟨(fx xs ys f d (.inl (ig _))),t Z H p⟩
abbrev Jb:=@AT true false
abbrev FX:=@zp true false
abbrev El{K:Frag}{a b:zW}{xs ys:zM}{g:TG}{tb:TS}{D:nn}{Z:St}{H:Hp}(Pv:Nat->St->Hp->Prop)(e:Pv 0 Z H)(d:∀i Z H,Pv i Z H->SqL K H a xs/\SqT K H b ys)(c:xs.length=ys.length):=Au (k1:=true) (k2:=false) (g:=g) (tb:=tb) (D:=D) Pv e d (Nat.le_of_eq c)
def Itv(K:Frag)(a:zW)(n:Nat):It :=⟨λi H=>∃b x,SqL K H a b/\b.length=n/\i<n/\b[n-1-i]?=some x,λi H x c=>c=H/\∀b,SqL K H a b->b[n-1-i]?=some x,λi _=>i=n⟩
theorem Ge(a it:zW)(n:Nat):C3f P w K tg (Itv K a n) [it] it (λi h=>h.IsRevIter it a ((n:Int)-1-(i:Int))) where
 mem:=by simp
 obj:=λi h f b l=>by
  have e:b=it:=by simpa using l
  subst e;obtain⟨o,e,c,d⟩:=f;exact ah o e λv z=>by rw[d]at z;cases z
 keep:=λi h m f k=>f.at λo e=>k it (by simp) o e
 item:=by
  intro X F y B N i g s Z H E I q f G;subst F y B;obtain⟨xs,x,O,hn,M,L⟩:=G;obtain⟨a0,Q,p,hz⟩:=I.list O;obtain⟨u,S,ru⟩:=Q.get L;obtain⟨D,A,Y,J,t,r⟩:=q it (by simp);have C:(n:Int)-1-(i:Int)=((n-1-i:Nat):Int):=by lia
  rw[C]at f;refine wpAny_pyNext_rev_item f p.isList (x:=u) (by simpa using S) λm j T=>?_;have I1:Inv X g Z H {s with heap:=m}:=I.turned (t':=s.toks) (λb o l e=>(T.2 b l).trans e) D A J t r
  have U:((n-1-i:Nat):Int)-1=(n:Int)-1-((i+1:Nat):Int):=by lia
  rw[U]at j;obtain⟨o,e,c,d⟩:=id j;exact ah u rfl (re (s:={s with heap:=m}) e c d (by decide) (jA x H I1 ru ⟨rfl,λys R=>by rw[I.list_inj R O];exact L⟩ j λb l=>(q b l).1))
 done:=by
  intro X F y B N i g s Z H E I q f G;subst F y B;have M:i=n:=G;subst M;obtain⟨D,A,Y,J,t,r⟩:=q it (by simp);have C:(i:Int)-1-(i:Int)= -1:=by lia
  rw[C]at f;exact wpAny_pyNext_rev_end N f λm W=>⟨rfl,I.turned (t':=s.toks) (λb o l e=>W b o l e) D A J t r⟩
 self:=λ_ _ _ _ _ f h=>wpAny_pyIter_revIter f h
def iRev(K:Frag)(ta:TA):TI:=λZ H R=>ta Z H λd b=>∃a c,d=[.ref a]/\SqL K b a c/\R (Itv K a c.length) b
theorem D6{a:yC}{p:Pos}(A:Gl X "reversed")(r:X.mg "reversed"=none)(B:PA X [a] ta)(x:starEach [a] X.env=[(false,eval a X.env)]:=by rfl):
  PI X tg (.Call (.Name "reversed" p) [a] [] pos) (iRev X.K ta):=by
 intro f s Z H R I h;refine Call_ (oF I A r boot_reversed (PyProof.Rows.callWith_type1 (thn (B pos f s Z H _ I h) λD c ⟨C,t,I1,v,n⟩=>?_) x rfl));obtain⟨l,d,e,y,q⟩:=n;subst e;obtain⟨u,rfl,z⟩:=ph v;cases z;obtain⟨g,k,j,_⟩:=I1.list y;have m:(g.toArray.size:Int)-1=(d.length:Int)-1-((0:Nat):Int):=by rw[jK,<-k.length];lia
 refine call_reversed_list j.isList ?_;rw[m];have i:(c.heap.push (revObj l ((d.length:Int)-1-((0:Nat):Int)))).IsRevIter c.heap.objs.size l ((d.length:Int)-1-((0:Nat):Int)):=(hH _ (jw _ rfl) rfl rfl);refine wpAny_pyIter_revIter (s:={c with heap:=c.heap.push (revObj l ((d.length:Int)-1-((0:Nat):Int)))}) i ?_;refine jk _ [c.heap.objs.size] _ _ t rfl (I1.kept (t':=c.toks) λb o e=>iB _ e) (Ge l _ d.length) i (λb w=>?_) q
 have e:b=c.heap.objs.size:=by simpa using w
 subst e;exact I1.fpOk (ig _) (I1.hok.fresh (ig _))
theorem Eg{xs:zM}(Pv:Nat->St->Hp->Prop)(f:Pv 0 Z H)(d:∀i Z H,Pv i Z H->SqL K H a xs)
  (j:∀i x Z H,i<xs.length->xs[xs.length-1-i]?=some x->Pv i Z H->g x Z H λZ2 H2=>tb {D with nx:=Pv (i+1),ct:=Pv (i+1),bk:=D.nx} Z2 H2) (h:∀Z H,Pv xs.length Z H->D.nx Z H):
  ∃W:Nat->Nat->St->Hp->Prop,(∃m,W 0 m Z H)/\∀i m Z H,W i m Z H->
   ((Itv K a xs.length).stop i H/\D.nx Z H)\/((Itv K a xs.length).go i H/\∃N:St->Hp->Prop,(∀Z' H',N Z' H'->∃b,b<m/\W (i+1) b Z' H')/\∀x H',(Itv K a xs.length).yld i H x H'->g x Z H' λZ2 H2=>tb {D with nx:=N,ct:=N,bk:=D.nx} Z2 H2):=by
 refine ah (λi m Z H=>m=xs.length-i/\i<=xs.length/\Pv i Z H) (hH xs.length (by simp) (jP _) f) ?_;rintro i m Z H ⟨rfl,k,p⟩;have q:=d i Z H p;by_cases hlt:i<xs.length
 ·refine .inr (iV (iO xs (xs[xs.length-1-i]) q rfl hlt (jq _)) (Pv (i+1)) (λZ' H' c=>(ky (xs.length-(i+1)) (by lia) rfl hlt c)) λx H' y=>?_);obtain⟨e,y⟩:=y;subst e;exact j i x Z _ hlt (y xs q) p
 ·have e:i=xs.length:=by lia
  subst e;exact .inl ⟨rfl,h Z H p⟩
structure ox(X:Cx)(scope:Scope)(cl:List (Str×zW)):Prop where
 eq:closureFor scope X.env=pure cl
 sub:∀x c,cl.lookup x=some c->X.env.cells.lookup x=some c
 has:∀x,((relabel scope X.env).names.lookup x=some .cell\/(relabel scope X.env).names.lookup x=some .free)->∃c,cl.lookup x=some c
 kind:scope.kind=.function
 ncell:∀y∈scope.names,y.2≠.cell
 names:∀y∈scope.names,y.2=.local->scope.names.lookup y.1=some .local
noncomputable def blk(X:Cx)(N':zC)(scope:Scope)(cl:List (Str×zW))(C:zW)(s₀:zY)(H₀:Hp)(fp:zQ):Cx :={X with N:=N',s₀:=s₀,H₀:=H₀,env:=compEnvC scope cl C X.env,outer:=X.stack,ex:=fp,fn:=λ_=>false,pn:=[],xe:=λ_ _=>False}
def mE(ix:List (Option Nat))(Z:St):St:=ix.map λo=>o.bind λj=>(Z[j]?).bind id
def oQ(X:Cx)(N':zC)(scope:Scope)(ix:List (Option Nat)):Prop :=
 ix.length=N'.length/\∀i j:Nat,ix[i]?=some (some j)->∃x,N'[i]?=some x/\X.N[j]?=some x/\(X.env.scope.names.lookup x=some .cell\/X.env.scope.names.lookup x=some .free)/\
  ((relabel scope X.env).names.lookup x=some .cell\/(relabel scope X.env).names.lookup x=some .free)
theorem Di(I:Inv X pins Z H s)(d:ox X scope cl)(f:∀b∈fp,mM X pins H b)(g:∀b∈fp,b<s.heap.objs.size):(blk X N' scope cl s.heap.objs.size s H fp).Ok where
 mod:=I.ok.mod
 kind:=d.kind
 glob:=I.ok.glob
 blt:=I.ok.blt
 above:=ig _
 inj:=λx y c i j=>I.ok.inj x y c (d.sub x c i) (d.sub y c j)
 has:=λx h=>d.has x h
 cab:=λx c h=>by cases h
 hd:=I.ok.hd
 frames:=I.ok.frames
 stk:=.inl rfl
 exf:=λb a=>⟨jJ (g b a),λx c h=>(f b a).2.2.2.2.1 x c (d.sub x c h)⟩
 bs:=I.bs
 bsz:=nO I.ok.bsz I.sz
 noex:=λb o e a=>by
  rcases(f b a).2.2.2.1 with z|z
  ·exact I.ok.noex b o e z
  ·exact absurd (mC (iI (I.ok.bs b o e).1) z) (Nat.lt_irrefl _)
 exfs:=λb a k=>by
  rcases jt.mp (I.stkSub b k)with z|z
  ·exact(f b a).2.1 z
  ·exact(f b a).2.2.1 z
 funs:=I.stack
 frf:=I.stkFree
theorem Hh(I:Inv X pins Z H s)(n:ox X scope cl)(C:oQ X N' scope ix)(f:∀b∈fp,mM X pins H b)(A:∀b∈fp,b<s.heap.objs.size){m:zE}
  (M:h'.Ns s.heap.objs.size m) (k:∀b o,s.heap.get? b=some o->h'.get? b=some o):Inv (blk X N' scope cl s.heap.objs.size s H fp) [] (mE ix Z) H {s with heap:=h',toks:=t'}:=by
 have B:∀x c,cl.lookup x=some c->∃v,s.heap.IsCell c v:=λx c h=>I.cell x c (n.sub x c h);refine⟨Di I n f A,rfl,I.bare,Un.kept k,(ah m M λi x v Q d E=>?_),λx c e=>?_,I.hok.fresh (ig _),λx c e=>I.freeC x c (n.sub x c e),(λp U=>by cases U),I.hok.kept k,?_⟩
 ·unfold mE at d;rw[jh]at d
  cases hi:ix[i]? with
  |none=>rw[hi]at d;cases d
  |some o=>
   rw[hi]at d
   cases o with
   |none=>cases lI d
   |some j=>
    have a:(Z[j]?).bind id=some v:=lI d;obtain⟨l,R,L,g,F⟩:=C.2 i j hi;have O:l=x:=lI (R.symm.trans Q);subst O
    have J:Z[j]?=some (some v):=by
     cases q:Z[j]? with
     |none=>rw[q]at a;cases a
     |some w=>rw[q]at a;exact congrArg some a
    obtain⟨Y,_,G⟩:=I.loc;obtain⟨u,T,N⟩:=G j l v L J (g.elim (λz=>.inr (.inl z)) λz=>.inr (.inr z));refine ah u T (.inr ⟨F,?_⟩);obtain⟨c,D⟩:=n.has l F;refine ah c D ?_;rcases N with ⟨z,_⟩|⟨_,K,y,P⟩
    ·exfalso;have W:X.env.scope.names.lookup l=some .local:=z;rcases g with g|g<;>(rw[W]at g;cases g)
    ·have S:K=c:=lI (y.symm.trans (n.sub l c D));subst S;obtain⟨o,r,t⟩:=P;exact ah o (k _ _ r) t
 ·obtain⟨v,o,r,t⟩:=B x c e;exact jV v o (k _ _ r) t
 ·unfold mE;rw[hA];exact C.1
theorem EF(I:Inv X pins Z H s)(f:∀b∈fp,mM X pins H b)(J:Inv (blk X N' scope cl s.heap.objs.size s H fp) pl Z' H' s')(g:Heap.SameBut s.heap.objs.size s'.heap h'):
  Inv X pins Z H' {s' with heap:=h'}:=by
 have i:∀b o,s.heap.get? b=some o->b≠s.heap.objs.size:=λb o e=>jJ (iI e);have j:H' s.heap.objs.size=none:=J.free;have u:Un (frs X.stack) fp H H' s.heap s'.heap:=J.base
 refine I.call' (ch:=fp) (s':={s' with heap:=h'}) J.os ⟨λb o e n a d=>(g.2 b (i b o e)).trans (u.keep b o e n a d),λb o e n a d=>?_,u.free,λb o e d=>?_,u.tups,u.frzs,u.tbls⟩ (λb o e=>?_) J.bare
  (λb a=>(jO ((f b a).2.2.2.1) ((f b a).2.1) ((f b a).2.2.2.2.1) ((f b a).2.2.2.2.2)))
 ·obtain⟨k,q⟩:=u.slot b o e n a d;exact⟨k,(g.2 b (i b o e)).trans q⟩
 ·obtain⟨l,q⟩:=u.there b o e d;exact⟨l,(g.2 b (i b o e)).trans q⟩
 ·refine(J.hok b o e).stay (λc v h q=>(g.2 c ?_).trans q) (λc q=>q) λc m q=>q;rcases h with rfl|h
  ·exact ik e j
  ·exact ik h j
def A3c:St->St->Prop| [],_=>True|none::r,_::r'=>A3c r r'|none::r,[]=>A3c r []|some v::r,w::r'=>w=some v/\A3c r r'|some _::_,[]=>False
theorem A3c.get:∀{a b:St},A3c a b->∀(j:Nat) v,a[j]?=some (some v)->b[j]?=some (some v)
 | [],_,_,_,_,e=>by simp at e
 |none::r,_::r',h,0,v,e=>by simp at e
 |none::r,_::r',h,j+1,v,e=>by simpa using A3c.get (a:=r) (b:=r') h j v (by simpa using e)
 |none::r,[],h,0,v,e=>by simp at e
 |none::r,[],h,j+1,v,e=>by have:=A3c.get (a:=r) (b:=[]) h j v (by simpa using e);simp at this
 |some w::r,_::r',h,0,v,e=>by
  have c:w=v:=by simpa using e
  subst c
  simpa using h.1
 |some _::r,_::r',h,j+1,v,e=>by simpa using A3c.get (a:=r) (b:=r') h.2 j v (by simpa using e)
def wQ(ix:List (Option Nat))(wi:TI)(g:TG)(te:TE):TE:=λZ H Q=>wi Z H λJ d=>∀D,d D=none->∃W:Nat->Nat->Hp->Prop,(∃m,W 0 m (upd d D (.lst [])))/\∀i m a,W i m a->
 (J.stop i a/\Q (.ref D) a)\/(J.go i a/\∃N:VK,(∀y b,N y b->∃c,b D=some (.lst c)/\c.length<sizeLine/\∃f,f<m/\W (i+1) f (upd b D (.lst (c++[y]))))/\∀x e,J.yld i a x e->g x (mE ix Z) e λZ4 h=>A3c (mE ix Z) Z4/\te Z4 h N)
section
variable{e o:yC}{es:zT}{ta:TE}{t:TA}
def Dj(X:Cx)(m:Str)(ta:TE)(t:TA):TE:=λZ H Q=>ta Z H λx b=>∃(a C i:zW)(d:zK)(k:Nat)(f:zW)(g:zS)(e:zC)(c:Sp),x=.ref a/\b a=some (.ins C i d)/\Cls X.K C/\nB X.K C m f/\d.lookup m=none/\
 A4q X.prog X.w X.K X.mg X.base jY k f g e c/\B0x k X.A/\B2b X.K g e []/\t Z b λh j=>c (x::h) j Q E0
theorem rC{pl:Sem Bool}(p:PE X o ta)(J:PA X (e::es) t)
  (d:starEach (e::es) X.env=(false,eval e X.env)::starEach es X.env:=by rfl) (g:(backTo pos (starEach es X.env)).any (·.1)=false:=by rfl)
  (D:eval (.Call (.Attribute o m apos) (e::es) [] pos) X.env=(do
   let ov<-eval o X.env
   standAt apos.atName
   let(f,first)<-holding [ov] (getMethod ov m pl)
   callWith pos f first (backTo pos (starEach (e::es) X.env)) (backToKw pos (keywordEach [] X.env))):=by rfl):
  PE X (.Call (.Attribute o m apos) (e::es) [] pos) (Dj X m ta t):=by
 intro b s Z H Q I h;refine PySem.W.methodCall_KW (pl:=pl) (thn (p b s Z H _ I h) ?_) D;rintro u w j;refine oY j ?_;clear j;rintro x z I1 n a C N ⟨O,k,f,M,R,L,B,G,c,i,l,F,v,A,q⟩;subst B;obtain rfl:u=Value.ref a:=n;refine HF I1 G c i l ?_;refine PySem.W.callWith_K (first:=[.ref a]) (h₀:=X.base) I.ok.mod.kin i.kp (thn (J pos b w Z z _ I1 q) λus P ⟨vs,K,I2,r,y⟩=>⟨I2.kIn,?_⟩) d g;exact y8 (us:=.ref a::us) (vs:=.ref a::vs) (dvs:=[]) F v A .nil wK I2 (.cons rfl r) (by rw[nS];exact y)
end
mutual
inductive Rep(H:Hp):V->PyData->Prop|non:Rep H .non .none|bl (b:Bool):Rep H (.bl b) (.bool b)|int (i:Int):Rep H (.int i) (.int i)|str (x:Str):Rep H (.str x) (.str x)|lst {p:zW} {xs:zM} {ds:List PyData}:H p=some (.lst xs)->A5a H xs ds->Rep H (.ref p) (.list ds)|tup {p:zW} {xs:zM} {ds:List PyData}:H p=some (.tup xs)->A5a H xs ds->Rep H (.ref p) (.tuple ds)
inductive A5a(H:Hp):zM->List PyData->Prop|nil:A5a H [] []|cons {v:V} {vs:zM} {d:PyData} {ds:List PyData}:Rep H v d->A5a H vs ds->A5a H (v::vs) (d::ds)
end
mutual
theorem Rep.imp{H H':Hp}(f:∀p o,H p=some o->H' p=some o):∀{v:V}{d:PyData},Rep H v d->Rep H' v d|_,_,.non=>.non|_,_,.bl b=>.bl b|_,_,.int i=>.int i|_,_,.str x=>.str x|_,_,.lst e r=>.lst (f _ _ e) (A5a.imp f r)|_,_,.tup e r=>.tup (f _ _ e) (A5a.imp f r)
theorem A5a.imp{H H':Hp}(f:∀p o,H p=some o->H' p=some o):∀{vs:zM}{ds:List PyData},A5a H vs ds->A5a H' vs ds|_,_,.nil=>.nil|_,_,.cons a r=>.cons (Rep.imp f a) (A5a.imp f r)
end
theorem Rep.same{d:PyData}(h:Rep H v d)(s:A0l H H'):Rep H' v d:=h.imp s
theorem A5a.same{v:zM}{d:List PyData}(h:A5a H v d)(s:A0l H H'):A5a H' v d:=h.imp s
theorem A5a.len{H:Hp}:∀{vs:zM}{ds:List PyData},A5a H vs ds->vs.length=ds.length|_,_,.nil=>rfl|_,_,.cons _ r=>by rw[mB,mB,A5a.len r]
theorem A5a.snoc{H:Hp}{v:V}{d:PyData}(a:Rep H v d):∀{vs:zM}{ds:List PyData},A5a H vs ds->A5a H (vs++[v]) (ds++[d])|_,_,.nil=>.cons a .nil|_,_,.cons b r=>.cons b (A5a.snoc a r)
theorem A5a.strs{H:Hp}:∀xs:zC,A5a H (xs.map V.str) (xs.map PyData.str)| []=>.nil|x::r=>.cons (.str x) (A5a.strs r)
mutual
theorem ut(I:Inv X pins Z H s):∀{v:V}{d:PyData}{u:zX},Rep H v d->A2q v u->∃a,Reads s.heap u d a
 |_,_,u,.non,r=>by cases(show u=Value.none from r);exact⟨_,.none⟩
 |_,_,u,.bl b,r=>by cases(show u=Value.bool b from r);exact⟨_,.bool b⟩
 |_,_,u,.int i,r=>by obtain⟨t,q⟩:=(show∃t,u=Value.int i t from r);cases q;exact⟨_,.int i t⟩
 |_,_,u,.str x,r=>by obtain⟨t,q⟩:=(show∃t,u=Value.str x t from r);cases q;exact⟨_,.str x t⟩
 |_,_,u,@Rep.lst _ p xs ds e q,r=>by
  cases(show u=Value.ref p from r)
  obtain⟨_,g,n,c,f⟩:=(show A1s X.prog X.w H s.heap p (.lst xs) from I.hok p _ e);obtain⟨a,z⟩:=xN I q c;exact⟨_,Reads.list f rfl rfl (by simpa using z)⟩
 |_,_,u,@Rep.tup _ p xs ds e q,r=>by
  cases(show u=Value.ref p from r)
  refine wc (show A1s X.prog X.w H s.heap p (.tup xs) from I.hok p _ e) λ_ g c o f h n j=>?_;obtain⟨a,z⟩:=xN I q c;exact⟨_,Reads.tuple f h j (by simpa using z)⟩
theorem xN(I:Inv X pins Z H s):∀{vs:zM}{ds:List PyData}{us:zH},A5a H vs ds->A2d vs us->∃b,ReadsAll s.heap us ds b|_,_,_,.nil,.nil=>⟨_,.nil⟩|_,_,_,.cons a r,.cons q rv=>by obtain⟨b,z⟩:=ut I a q;obtain⟨c,y⟩:=xN I r rv;exact⟨_,.cons z y⟩
end
def ye(a:Bool):R2:=λx y H Q=>∃d e,Rep H x d/\Rep H y e/\SeqAt.shaped d=true/\SeqAt.shaped e=true/\Q (.bl (if a then ! PyData.eqv d e else PyData.eqv d e)) H
theorem yT(i:X.A.units+64<cLine):OpR X (compareOp .Eq) (ye false):=by intro a s Z H x y v u Q I f k h;refine jC h ?_;clear h;rintro d e j g b ⟨l,q⟩;obtain⟨n,c⟩:=ut I j f;obtain⟨o,m⟩:=ut I g k;exact eq_dataH c m b l i (fx (.bl (PyData.eqv d e)) H I rfl q)
theorem DG(i:X.A.units+64<cLine):OpR X (compareOp .NotEq) (ye true):=by intro a s Z H x y v u Q I f k h;refine jC h ?_;clear h;rintro d e j g b ⟨l,q⟩;obtain⟨n,c⟩:=ut I j f;obtain⟨o,m⟩:=ut I g k;exact ne_dataH c m b l i (fx (.bl (! PyData.eqv d e)) H I rfl q)
theorem oj(j:scope.kind=.function)(b:∀y∈scope.names,y.2≠.free/\y.2≠.cell)(i:∀y∈scope.names,y.2=.local->scope.names.lookup y.1=some .local):ox X scope [] where
 eq:=closureFor_none λy f=>(b y f).1
 sub:=λx c h=>by cases h
 has:=λx h=>by
  exfalso
  have e:(relabel scope X.env).names=scope.names:=map_eq_self λy f=>by
   obtain⟨n,k⟩:=y;have z:=(b _ f).1;have m:(k==NameKind.free)=false:=by simpa using z
   simp[m]
  rw[e]at h
  have d:∀{k:NameKind},scope.names.lookup x=some k->(x,k)∈scope.names:=λ{k} q=>by
   generalize scope.names=l at q
   induction l with
   |nil=>cases q
   |cons a r ih=>
    obtain⟨n,o⟩:=a;rw[qd]at q;split at q
    ·rename_i hb;have g:x=n:=by simpa using hb
     cases q
     subst g;exact .head _
    ·exact .tail _ (ih q)
  rcases h with h|h
  ·exact(b _ (d h)).2 rfl
  ·exact(b _ (d h)).1 rfl
 kind:=j
 ncell:=λy f=>(b y f).2
 names:=i
theorem og(h:n=N'.length):oQ X N' scope (List.replicate n none):=⟨by rw[List.length_replicate];exact h,λi j e=>by
 rw[List.getElem?_replicate]at e
 split at e<;>cases e⟩
section
variable{D:zW}{xs:zM}{Q:VK}
theorem GI(Pv:Nat->List V->Hp->Prop)(h:Pv 0 [] (upd H D (.lst [])))(f:∀i ys H,Pv i ys H->SqL K H a xs)
  (k:∀i x ys H,xs[i]?=some x->Pv i ys H->g x Z₀ H λZ4 H4=>A3c Z₀ Z4/\te Z4 H4 λy b=>b D=some (.lst ys)/\ys.length<sizeLine/\Pv (i+1) (ys++[y]) (upd b D (.lst (ys++[y])))) (j:∀ys H,Pv xs.length ys H->Q (.ref D) H):
  ∃W:Nat->Nat->Hp->Prop,(∃m,W 0 m (upd H D (.lst [])))/\∀i m H2,W i m H2->
   ((Itl K a).stop i H2/\Q (.ref D) H2)\/((Itl K a).go i H2/\∃N:VK,(∀y b,N y b->∃xs,b D=some (.lst xs)/\xs.length<sizeLine/\∃d,d<m/\W (i+1) d (upd b D (.lst (xs++[y]))))/\
    ∀x c,(Itl K a).yld i H2 x c->g x Z₀ c λZ4 H4=>A3c Z₀ Z4/\te Z4 H4 N):=by
 refine ah (λi m H=>m=xs.length-i/\i<=xs.length/\∃ys,Pv i ys H) (oN xs.length (by simp) (jP _) [] h) ?_;rintro i m H2 ⟨rfl,l,ys,p⟩;have q:=f i ys H2 p;by_cases hlt:i<xs.length
 ·refine .inr (iV (jV xs (xs[i]) q (by simp[hlt])) (λy b=>b D=some (.lst ys)/\ys.length<sizeLine/\Pv (i+1) (ys++[y]) (upd b D (.lst (ys++[y])))) (λy b n=>(sV ys n.1 n.2.1 (xs.length-(i+1)) (by lia) rfl hlt _ n.2.2)) λx c z=>?_);obtain⟨e,z⟩:=z;subst e;exact k i x ys _ (z xs q) p
 ·have e:i=xs.length:=by lia
  subst e;exact .inl ⟨(ah xs q (ig _)),j ys H2 p⟩
theorem FB(Pv:Nat->List V->Hp->Prop)(h:Pv 0 [] (upd H D (.lst [])))(f:∀i ys H,Pv i ys H->SqT K H a xs)
  (k:∀i x ys H,xs[i]?=some x->Pv i ys H->g x Z₀ H λZ4 H4=>A3c Z₀ Z4/\te Z4 H4 λy b=>b D=some (.lst ys)/\ys.length<sizeLine/\Pv (i+1) (ys++[y]) (upd b D (.lst (ys++[y])))) (j:∀ys H,Pv xs.length ys H->Q (.ref D) H):
  ∃W:Nat->Nat->Hp->Prop,(∃m,W 0 m (upd H D (.lst [])))/\∀i m H2,W i m H2->
   ((Itt K a).stop i H2/\Q (.ref D) H2)\/((Itt K a).go i H2/\∃N:VK,(∀y b,N y b->∃xs,b D=some (.lst xs)/\xs.length<sizeLine/\∃d,d<m/\W (i+1) d (upd b D (.lst (xs++[y]))))/\
    ∀x c,(Itt K a).yld i H2 x c->g x Z₀ c λZ4 H4=>A3c Z₀ Z4/\te Z4 H4 N):=by
 refine ah (λi m H=>m=xs.length-i/\i<=xs.length/\∃ys,Pv i ys H) (oN xs.length (by simp) (jP _) [] h) ?_;rintro i m H2 ⟨rfl,l,ys,p⟩;have q:=f i ys H2 p;by_cases hlt:i<xs.length
 ·refine .inr (iV (jV xs (xs[i]) q (by simp[hlt])) (λy b=>b D=some (.lst ys)/\ys.length<sizeLine/\Pv (i+1) (ys++[y]) (upd b D (.lst (ys++[y])))) (λy b n=>(sV ys n.1 n.2.1 (xs.length-(i+1)) (by lia) rfl hlt _ n.2.2)) λx c z=>?_);obtain⟨e,z⟩:=z;subst e;exact k i x ys _ (z xs q) p
 ·have e:i=xs.length:=by lia
  subst e;exact .inl ⟨(ah xs q (ig _)),j ys H2 p⟩
end
theorem uw{x:Str}{k:NameKind}:∀{l:List (Str×NameKind)},l.lookup x=some k->(x,k)∈l
 | [],q=>by cases q
 |(n,k')::r,q=>by
  rw[qd]at q;split at q
  ·rename_i hb;have a:x=n:=by simpa using hb
   cases q
   subst a;exact .head _
  ·exact .tail _ (uw q)
theorem qI{c:zW}(s:closureFor scope X.env=pure [(x,c)])(r:X.env.cells.lookup x=some c)(a:scope.kind=.function)(b:∀y∈scope.names,y.2≠.cell/\(y.2=.free->y.1=x))
  (o:∀y∈scope.names,y.2=.local->scope.names.lookup y.1=some .local):ox X scope [(x,c)] where
 eq:=s
 sub:=λy d h=>by
  rw[qd]at h;split at h
  ·rename_i f;have j:y=x:=by simpa using f
   cases h
   subst j;exact r
  ·cases h
 has:=λy h=>by
  have i:y=x:=by
   have m:∃k,(y,k)∈(relabel scope X.env).names/\(k=.cell\/k=.free):=h.elim (λz=>(ah _ (uw z) (.inl rfl))) λz=>(ah _ (uw z) (.inr rfl));obtain⟨k,u,a⟩:=m;obtain⟨⟨n,g⟩,l,e⟩:=kg.mp u;dsimp only at e;by_cases hf:g=.free
   ·have p:n=y:=by
     split at e
     ·exact congrArg Prod.fst e
     ·exact congrArg Prod.fst e
    rw[<-p];exact(b _ l).2 hf
   ·have f:(g==NameKind.free)=false:=by simpa using hf
    simp only [f,Bool.false_and,Bool.false_eq_true,if_false]at e;have t:g=k:=congrArg Prod.snd e;subst t;rcases a with a|a
    ·exact absurd a (b _ l).1
    ·exact absurd a hf
  subst i;exact⟨c,by simp[qd]⟩
 kind:=a
 ncell:=λy q=>(b y q).1
 names:=o
theorem qN{j:Nat}(c:X.N[j]?=some x)(h1:X.env.scope.names.lookup x=some .cell\/X.env.scope.names.lookup x=some .free)
  (h2:(relabel scope X.env).names.lookup x=some .cell\/(relabel scope X.env).names.lookup x=some .free):oQ X (N0++[x]) scope (List.replicate N0.length none++[some j]):=by
 refine⟨by simp,λi k e=>?_⟩;by_cases hi:i<N0.length
 ·rw[lD (by simpa using hi),List.getElem?_replicate]at e;split at e<;>cases e
 ·have a:i=N0.length:=by
   have:=(iG.mp e).1;simp at this
   lia
  subst a;rw[nP (by simp)]at e;have b:j=k:=by simpa using e
  subst b;exact ky x (by simp) c h1 h2
theorem oW{o:HO}(b:H p=none)(h:H a=some u):upd H p o a=some u:=by rw[dV (ik h b)];exact h
theorem jn{o:HO}(s:A0l H H')(a:H l=none):A0l H (upd H' l o):=λb u e=>by rw[dV (ik e a)];exact s b u e
theorem eh{o:HO}(a:H l=none):A0l H (upd H l o):=jn (A0l.refl H) a
theorem qK{x:zW}{o v:HO}(a:H x=none)(b:H dx=none):A0l H (upd (upd (upd H dx o) x u) x v):=jn (jn (eh b) a) a
theorem lg(h:n<=1000000):n<=sizeLine:=by rw[sizeLine_eq];lia
theorem iM(h:n<=1000000):n<sizeLine:=by rw[sizeLine_eq];lia
theorem Paired.snoc{α β:Type}{F:α->β->Prop}{a:α}{b:β}(h:F a b):∀{xs:List α}{ys:List β},Paired F xs ys->Paired F (xs++[a]) (ys++[b])|_,_,.nil=>.cons h .nil|_,_,.cons r t=>.cons r (Paired.snoc h t)
noncomputable def jp(S:zV)(H:Hp):Hp:=λa=>@ite _ (S a) (Classical.propDecidable _) (H a) none
theorem AC(h:S a):jp S H a=H a:=by unfold jp;rw[ia h]
theorem GV(h:¬S a):jp S H a=none:=by unfold jp;rw[fy h]
theorem jT{o:HO}(h:jp S H a=some o):S a/\H a=some o:=by
 by_cases hs:S a
 ·rw[AC hs]at h;exact⟨hs,h⟩
 ·rw[GV hs]at h;cases h
theorem kj{o:HO}(b:S a)(h:H a=some o):jp S H a=some o:=by rw[AC b];exact h
theorem Bm:A0l (jp S H) H:=λ_ _ e=>(jT e).2
theorem mX(s:A0l H H'):A0l (jp S H) (jp S H'):=λb o e=>kj (jT e).1 (s _ _ (jT e).2)
theorem pT(s:A0l H H')(h:∀a o,H a=some o->S a->S' a):A0l (jp S H) (jp S' H'):=λb o e=>kj (h _ _ (jT e).2 (jT e).1) (s _ _ (jT e).2)
theorem rD{o:HO}(s:A0l (jp S H) (jp S H'))(h:¬S l):A0l (jp S H) (jp S (upd H' l o)):=λb u e=>by have q:=jT (s _ _ e);have a:b≠l:=λz=>h (by rw[<-z];exact q.1);exact kj q.1 (by rw[dV a];exact q.2)
mutual
theorem Rep.imp2{H H':Hp}(f:∀p xs,H p=some (.lst xs)->H' p=some (.lst xs))(g:∀p xs,H p=some (.tup xs)->H' p=some (.tup xs)):∀{v:V}{d:PyData},Rep H v d->Rep H' v d|_,_,.non=>.non|_,_,.bl b=>.bl b|_,_,.int i=>.int i|_,_,.str x=>.str x|_,_,.lst e r=>.lst (f _ _ e) (A5a.imp2 f g r)|_,_,.tup e r=>.tup (g _ _ e) (A5a.imp2 f g r)
theorem A5a.imp2{H H':Hp}(f:∀p xs,H p=some (.lst xs)->H' p=some (.lst xs))(g:∀p xs,H p=some (.tup xs)->H' p=some (.tup xs)):∀{vs:zM}{ds:List PyData},A5a H vs ds->A5a H' vs ds|_,_,.nil=>.nil|_,_,.cons a r=>.cons (Rep.imp2 f g a) (A5a.imp2 f g r)
end
theorem Rep.ins{d:PyData}{C dx:zW}{fs:zK}{o:HO}(h:Rep H v d)(e:H p=some (.ins C dx fs)):Rep (upd H p o) v d :=h.imp2 (λq a z=>by rw[dV (ir z e (by intro w;cases w))];exact z) (λq a z=>by rw[dV (ir z e (by intro w;cases w))];exact z)
section
variable{vs:zM}{d:PyData}
theorem Ew(h:Rep G v (.tuple ds)):∃p xs,v=.ref p/\G p=some (.tup xs)/\A5a G xs ds:=by
 cases h with
 |tup e r=>exact fx _ _ rfl e r
theorem tZ(h:Rep G v (.list ds)):∃p xs,v=.ref p/\G p=some (.lst xs)/\A5a G xs ds:=by
 cases h with
 |lst e r=>exact fx _ _ rfl e r
theorem EM(h:Rep G v (.str x)):v=.str x:=by cases h;rfl
theorem zw{x:Int}(h:Rep G v (.int x)):v=.int x:=by cases h;rfl
theorem AQ(h:A5a G vs (d::ds)):∃u r,vs=u::r/\Rep G u d/\A5a G r ds:=by
 cases h with
 |cons a r=>exact fx _ _ rfl a r
theorem F8(h:A5a G vs []):vs=[]:=by cases h;rfl
end
mutual
def cnt:PyData->Nat|.none=>1|.bool _=>1|.int _=>1|.str _=>1|.list xs=>mU xs+1|.tuple xs=>mU xs+1|.dict _=>1
def mU:List PyData->Nat| []=>0|x::xs=>cnt x+mU xs
end
theorem EK(d:PyData):1<=cnt d:=by cases d<;>simp[cnt]
theorem xb:∀ds:List PyData,ds.length<=mU ds
 | []=>by simp[mU]
 |d::r=>by
  have:=xb r;have:=EK d;simp only [mU,mB]
  lia
theorem wX:∀{ds:List PyData}{i:Nat}{d:PyData},ds[i]?=some d->cnt d<=mU ds/\PyData.depth d<=PyData.depthAll ds
 | [],_,_,e=>by simp at e
 |d::r,0,_,e=>by
  simp at e;subst e;simp only [mU,PyData.depthAll]
  lia
 |x::r,i+1,d,e=>by
  have:=wX (ds:=r) (i:=i) (d:=d) (by simpa using e);simp only [mU,PyData.depthAll]
  lia
theorem A5a.get2{H:Hp}:∀{vs:zM}{ds:List PyData}{i:Nat}{v:V},A5a H vs ds->vs[i]?=some v->∃d,ds[i]?=some d/\Rep H v d|_,_,_,_,.nil,e=>by simp at e|_,_,0,_,.cons a _,e=>by simp at e;subst e;exact ah _ rfl a|_,_,i+1,v,.cons _ r,e=>by obtain⟨d,b,c⟩:=A5a.get2 (i:=i) (v:=v) r (by simpa using e);exact ah d (by simpa using b) c
theorem Cr{k:Str}:List.lookup k ((k,v)::r)=some v:=by simp[qd]
theorem Cq{k j:Str}{o:zP}(h:(k==j)=false)(e:List.lookup k r=o):List.lookup k ((j,v)::r)=o:=by rw[qd,h];exact e
theorem mr{f:Str}:jE f v []=[(f,v)]:=rfl
theorem jR{f g:Str}{x:V}(h:¬g=f):jE f v ((g,x)::r)=(g,x)::jE f v r:=by rw[jE,fy h]
theorem iC{A:Prop}[Decidable c](h1:c->A)(h2:¬c->B):if decide c=true then A else B :=nj (λh=>h1 (of_decide_eq_true h)) (λh=>h2 λa=>h (kz a))
theorem u9{A:Prop}[Decidable c](h1:¬c->A)(h2:c->B):if (! decide c)=true then A else B :=
 nj (λh=>h1 λa=>by rw[kz a]at h;cases h) (λh=>h2 (by
  by_cases a:c
  ·exact a
  ·rw[mZ a]at h;exact absurd rfl h))
theorem qz{l:yC}(b:PE X l tl):PI X tg l (λZ H R=>yP X.K tl Z H R\/x6 X.K tl Z H R):=λa s Z H R I h=>h.elim (ju b a s Z H R I) (yY b a s Z H R I)
theorem qE{f:α->V}{xs:List α}{i:Int}(b:0<=i)(h1:i<xs.length):∃x,xs[i.toNat]?=some x/\atI (xs.map f) i=some (f x):=by
 obtain⟨n,rfl⟩:=Int.eq_ofNat_of_zero_le b;have a:n<xs.length:=by lia
 exact ah (xs[n]) (by simp[a]) (hY (by simp[a]))
section
variable{D:zW}{xs:zM}
theorem pB(Pv:Nat->List V->Hp->Prop)(f:Pv 0 [] (upd H D (.lst [])))(e:∀i ys H,Pv i ys H->SqL K H a xs)
  (j:∀i x ys H,xs[i]?=some x->Pv i ys H->g x Z₀ H λZ4 H4=>A3c Z₀ Z4/\te Z4 H4 λy b=>b D=some (.lst ys)/\ys.length<sizeLine/\Pv (i+1) (ys++[y]) (upd b D (.lst (ys++[y])))) (h:∀ys H,Pv xs.length ys H->QD H):
  ∃W:Nat->Nat->Hp->Prop,(∃m,W 0 m (upd H D (.lst [])))/\∀i m H2,W i m H2->
   ((Itl K a).stop i H2/\QD H2)\/((Itl K a).go i H2/\∃N:VK,(∀y b,N y b->∃xs,b D=some (.lst xs)/\xs.length<sizeLine/\∃d,d<m/\W (i+1) d (upd b D (.lst (xs++[y]))))/\
    ∀x c,(Itl K a).yld i H2 x c->g x Z₀ c λZ4 H4=>A3c Z₀ Z4/\te Z4 H4 N):=GI (Q:=λ_ H=>QD H) Pv f e j h
theorem GH(Pv:Nat->List V->Hp->Prop)(f:Pv 0 [] (upd H D (.lst [])))(e:∀i ys H,Pv i ys H->SqT K H a xs)
  (j:∀i x ys H,xs[i]?=some x->Pv i ys H->g x Z₀ H λZ4 H4=>A3c Z₀ Z4/\te Z4 H4 λy b=>b D=some (.lst ys)/\ys.length<sizeLine/\Pv (i+1) (ys++[y]) (upd b D (.lst (ys++[y])))) (h:∀ys H,Pv xs.length ys H->QD H):
  ∃W:Nat->Nat->Hp->Prop,(∃m,W 0 m (upd H D (.lst [])))/\∀i m H2,W i m H2->
   ((Itt K a).stop i H2/\QD H2)\/((Itt K a).go i H2/\∃N:VK,(∀y b,N y b->∃xs,b D=some (.lst xs)/\xs.length<sizeLine/\∃d,d<m/\W (i+1) d (upd b D (.lst (xs++[y]))))/\
    ∀x c,(Itt K a).yld i H2 x c->g x Z₀ c λZ4 H4=>A3c Z₀ Z4/\te Z4 H4 N):=FB (Q:=λ_ H=>QD H) Pv f e j h
end
theorem Inv.frozen(I:Inv X pins Z H s)(c:H a=some (.dK kvs))(b:s.heap.get? a=some o):Inv X pins Z (upd H a (.frz o (.dK kvs))) s :=I.write (t':=s.toks) (h':=s.heap) (e:=a) (by rw[c];trivial) (.inl rfl) (λ_ _ _ e=>e) ⟨o,b⟩ ⟨b,(show A1s X.prog X.w H s.heap a (.dK kvs) from I.hok a _ c)⟩
theorem Inv.thaw(I:Inv X pins Z H s)(d:H a=some (.frz o u))(m:∃kvs,u=.dK kvs)(l:∀o' i,X.H₀ a≠some (.frz o' i)):Inv X pins Z (upd H a u) s:=by
 have g:∀b,H b=none->upd H a u b=none:=λb e=>by rw[dV (λz=>by subst z;rw[d]at e;cases e)];exact e
 obtain⟨kvs,rfl⟩:=m
 refine⟨I.ok,I.os,I.bare,⟨I.base.keep,I.base.slot,λb h e n r=>g b (I.base.free b h e n r),I.base.there,λb k e=>?_,λb h i e=>?_,λb t e=>?_⟩,I.loc,I.cell,g _ I.free,λx c e=>g _ (I.freeC x c e),
  λp j=>(hQ ((I.pin p j).1) (g _ (I.pin p j).2.1) ((I.pin p j).2.2)),λb v e=>?_,I.len⟩
 ·have q:=I.base.tups b k e;rw[dV (ir q d (by intro z;cases z))];exact q
 ·have q:=I.base.frzs b h i e;rw[dV (λz=>by subst z;exact l _ _ e)];exact q
 ·obtain⟨f,q⟩:=I.base.tbls b t e;exact⟨f,by rw[dV (ir q d (by intro z;cases z))];exact q⟩
 ·by_cases hb:b=a
  ·subst hb;rw[dh]at e;cases e;obtain⟨_,q⟩:=(show A1s X.prog X.w H s.heap b (.frz o (.dK kvs)) from I.hok b _ d);exact q
  ·rw[dV hb]at e;exact(I.hok b v e).stay (λ_ _ _ q=>q) (λc q=>by rw[dV (ir q d (by intro z;cases z))];exact q) λc k q=>by rw[dV (ir q d (by intro z;cases z))];exact q
def CN(X:Cx)(t:TS):TS:=λD Z H=>∃a o b,H a=some (.frz o (.dK b))/\(∀d c,X.H₀ a≠some (.frz d c))/\t D Z (upd H a (.dK b))
theorem Am{sts:List Stmt}{t:TS}(h:PSs X sts t):PSs X sts (CN X t):=by intro b s Z H D I e;obtain⟨a,o,c,f,d,q⟩:=e;exact h b s Z _ D (I.thaw f ⟨c,rfl⟩ d) q
def Itd(a:zW)(o:Obj)(kvs:zJ):It :=⟨λi H=>H a=some (.frz o (.dK kvs))/\i<kvs.length,λi H x b=>b=H/\∃k v,kvs[i]?=some (k,v)/\x=kV k,λi H=>H a=some (.frz o (.dK kvs))/\i=kvs.length⟩
theorem yq{k:Key}{u:zX}(h:(jG P w).is k u=true):A2q (kV k) u:=by
 rcases pC (show rh k u=true from h)with ⟨i,t,rfl,rfl⟩|⟨x,t,rfl,rfl⟩
 ·exact⟨t,rfl⟩
 ·exact⟨t,rfl⟩
theorem KV.at:KV kvs vs->∀{i:Nat}{k:Key}{v:V},kvs[i]?=some (k,v)->∃u,vs[i]?=some (k,u)/\A2q v u:=by
 intro r;unfold KV at r
 induction r with
 |nil=>intro i k v e;simp at e
 |@cons p q ps qs h t ih=>
  intro i k v e
  cases i with
  |zero=>simp at e;subst e;obtain⟨b,f⟩:=h;obtain⟨g,a⟩:=q;cases b;exact ah a rfl f
  |succ j=>obtain⟨u,c,d⟩:=ih (i:=j) (by simpa using e);exact ah u (by simpa using c) d
theorem vy(j:HOk P w H h)(l:H a=some (.frz o (.dK kvs)))(e:o.data=.dict es ep):
  (a==sysModules)=false/\∃vs,KV kvs vs/\h.DictAt (jG P w) a vs ep:=by
 obtain⟨f,n,m,vs,b,p,i,k,g,c,d,r⟩:=(show A1s P w H h a (.frz o (.dK kvs)) from j a _ l);rw[f]at g;cases g;rw[e]at d;cases d;exact iV m vs b (iO o es f c e r)
theorem HB(it a:zW)(o:Obj)(kvs:zJ)(es:Array DictEntry)(ep:Nat)(O:o.data=.dict es ep):
  C3f P w K tg (Itd a o kvs) [it] it (λi h=>h.IsKeyIter it a i kvs.length ep) where
 mem:=by simp
 obj:=λi h f b m=>by
  have e:b=it:=by simpa using m
  subst e;obtain⟨l,e,_,d⟩:=f;exact ah l e λv z=>by rw[d]at z;cases z
 keep:=λi h r f k=>f.at λl e=>k it (by simp) l e
 item:=by
  intro X J A D R i j s Z H E I t f L;subst J A D;obtain⟨M,Q⟩:=L;obtain⟨G,C,f2,N,y,x⟩:=t it (by simp);obtain⟨_,U,g,B⟩:=vy I.hok M O;have q:=g.length;obtain⟨⟨k,v⟩,hkv⟩:∃p,kvs[i]?=some p:=⟨kvs[i],by simp[Q]⟩;obtain⟨u,S,_⟩:=g.at hkv;rw[q]at f;refine wpAny_pyNext_dict_item f B S λF r Y n T=>?_;have I1:Inv X j Z H {s with heap:=r,toks:=s.toks}:=I.turned (t':=s.toks) (λb l m e=>(T.2 b m).trans e) G C N y x
  obtain⟨l,e,c,d⟩:=id n;exact ah F rfl (re (s:={s with heap:=r}) e c d (by decide) (jA (kV k) H I1 (yq Y) (mw rfl k v hkv rfl) (by rw[q];exact n) λb m=>(t b m).1))
 done:=by intro X J A D R i j s Z H E I t f L;subst J A D;obtain⟨M,Q⟩:=L;obtain⟨G,C,f2,N,y,x⟩:=t it (by simp);obtain⟨_,U,g,B⟩:=vy I.hok M O;have q:=g.length;rw[q]at f;exact wpAny_pyNext_dict_end R f B (by simp;lia) λr W=>⟨rfl,I.turned (t':=s.toks) (λb l m e=>W b l m e) G C N y x⟩
 self:=λ_ _ _ _ _ f h=>wpAny_pyIter_keyiter f h
def C8(tl:TE):TI:=λZ H R=>tl Z H λx c=>∃a b,x=.ref a/\c a=some (.dK b)/\∀o,R (Itd a o b) (upd c a (.frz o (.dK b)))
theorem xa{l:yC}(t:PE X l tl):PI X tg l (C8 tl):=by
 intro c s Z H R I h;refine thn (t c s Z H _ I h) ?_;rintro u d p;refine we p ?_;clear p;rintro x A I1 v ⟨a,f,C,g,q⟩;subst C;cases v;refine mj (rT I1.hok g) ?_;rintro G D n i o j ep k ⟨y,m,r⟩;have z:d.heap.DictAt (jG X.prog X.w) a n ep:=(iO o j k y m r);refine wpAny_pyIter_dict D z ?_;have I2:Inv X c Z A {d with heap:=d.heap.push {cls:=.type "dict_keyiterator",data:=.fields #[.ref a,.int 0 0,.int n.length 0,.int ep 0]},toks:=d.toks}:=I1.kept λb F e=>iB _ e
 have I3:=I2.frozen g (iB _ k);refine jk _ [d.heap.objs.size] _ _ _ rfl I3 (HB _ a o f j ep m) ?_ (λb B=>?_) (q o)
 ·rw[i.length];exact hH _ (jw _ rfl) rfl rfl
 ·have e:b=d.heap.objs.size:=by simpa using B
  subst e;refine I1.fpOk (ig _) ?_;rw[dV (lH (I1.hok.lt g))];exact I1.hok.fresh (ig _)
theorem um(c:H a=some u)(s:A0l (upd H a (.frz o u)) H2):A0l H (upd H2 a u):=λb v e=>by
 by_cases hb:b=a
 ·subst hb;rw[c]at e;cases e;exact dh
 ·rw[dV hb];exact s b v (by rw[dV hb];exact e)
def xf(ix:List (Option Nat))(wi:TI)(g:TG)(tc:TT)(te:TE):TE:=λZ H Q=>wi Z H λJ f=>∀D,f D=none->∃W:Nat->Nat->Hp->Prop,(∃m,W 0 m (upd f D (.lst [])))/\∀i m c,W i m c->
 (J.stop i c/\Q (.ref D) c)\/(J.go i c/\∃(N:VK)(M:Hp->Prop),(∀y a,N y a->∃e,a D=some (.lst e)/\e.length<sizeLine/\∃d,d<m/\W (i+1) d (upd a D (.lst (e++[y]))))/\(∀a,M a->∃d,d<m/\W (i+1) d a)/\∀x h,J.yld i c x h->g x (mE ix Z) h λZ4 j=>A3c (mE ix Z) Z4/\tc Z4 j λb a=>if b=true then te Z4 a N else M a)
def PTs(X:Cx)(cs:zT)(t:TT):Prop :=∀(a:zD)(s:zY)(Z:St)(H:Hp)(Q:Bool->Hp->Prop),Inv X a Z H s->t Z H Q->wpAny (model X.prog X.w) X.A (forIn cs true λc r=>if r=true then do let b<-isTrue c X.env (eval c X.env);pure (ForInStep.yield b)else pure (ForInStep.yield r)) (TP X a Z Q) X.xe s
theorem Bz{ok:zZ->Prop}(hc:ok X.A)(L:ox X scope cl)(io:oQ X N' scope ix)(hi:PIP ok X tg iter wi)
  (hg:∀C s₀ H₀ fp,PG (blk X N' scope cl C s₀ H₀ fp) tg g) (ht:∀C s₀ H₀ fp,PTs (blk X N' scope cl C s₀ H₀ fp) cs tc) (he:∀C s₀ H₀ fp,PE (blk X N' scope cl C s₀ H₀ fp) elt te) (hs:∀x,foldedSetIterable iter X.env x=pure x) {pp:Pos} {S:zW->Hp->Prop} {R:It->Hp->Prop}
  (hR:∀J H1,R J H1->∀D,H1 D=none->∃W:Nat->Nat->Hp->Prop,(∃m,W 0 m (upd H1 D (.lst [])))/\∀i m H2,W i m H2->(J.stop i H2/\S D H2)\/(J.go i H2/\∃(N:VK)(M:Hp->Prop),(∀y k,N y k->∃xs,k D=some (.lst xs)/\xs.length<sizeLine/\∃l,l<m/\W (i+1) l (upd k D (.lst (xs++[y]))))/\(∀k,M k->∃l,l<m/\W (i+1) l k)/\∀x H3,J.yld i H2 x H3->g x (mE ix Z) H3 λZ4 H4=>A3c (mE ix Z) Z4/\tc Z4 H4 λb k=>if b=true then te Z4 k N else M k))
  (b0:∀(D C:zW)(k:Hp)(E:zY)(x:Flow),S D k->(∃m,E.heap.Ns C m)->mM X pins k C->(∀h',Heap.SameBut C E.heap h'->Inv X pins Z k {E with heap:=h'})->compPost (model X.prog X.w) X.A X.xe use Qf (.ref D) C (.ok x) E)
  (I:Inv X pins Z H s) (h:wi Z H R):wpAny (model X.prog X.w) X.A (comprehension (.ListComp elt [⟨tg,iter,cs,0⟩] scope pos) scope X.env pp (newList []) false (eval iter X.env) use) Qf X.xe s:=by
 refine wpAny_comprehension_free rfl hs L.eq L.kind L.names (thn (hi pins s Z H _ I h) λxv s1 h1=>thn h1 λb9 a h2=>?_);refine nN h2 ?_;clear h2;rintro it fp tn J H1 rfl I1 T a8 f1 R1;refine nQ ?_;have hD:H1 a.heap.objs.size=none:=I1.hok.fresh (ig _);obtain⟨W,⟨m0,w0⟩,a9⟩:=hR _ _ R1 _ hD;have a7:∀b∈fp,b<a.heap.objs.size:=λb f=>let⟨o,e,_⟩:=T.obj _ _ a8 b f;iI e;have I2:Inv X pins Z (upd H1 a.heap.objs.size (.lst [])) {a with heap:=a.heap.push {cls:=.type "list",data:=.seq ([]:zH).toArray},toks:=a.toks}:=I1.lnew (its:=[]) .nil (jP _);have f2:∀b∈fp,mM X pins (upd H1 a.heap.objs.size (.lst [])) b:=λb f=>⟨by rw[dV (jJ (a7 b f))];exact(f1 b f).1,(f1 b f).2⟩
 have U:∀b∈fp,b<(a.heap.push {cls:=.type "list",data:=.seq ([]:zH).toArray}).objs.size:=λb f=>by rw[ot];exact Nat.lt_succ_of_lt (a7 b f)
 refine wpAny_newFunctionEnv L.ncell (by intro y hy;simp at hy) (λh3 Y a0=>?_) L.kind;dsimp only at Y a0⊢;have k3:∀b o,(a.heap.push {cls:=.type "list",data:=.seq ([]:zH).toArray}).get? b=some o->h3.get? b=some o:=λb o e=>(a0.2 b (jJ (iI e))).trans (iB _ e);generalize hs2:({a with heap:=a.heap.push {cls:=.type "list",data:=.seq ([]:zH).toArray},toks:=a.toks}:zY)=s3 at I2;have e3:a.heap.push {cls:=.type "list",data:=.seq ([]:zH).toArray}=s3.heap:=by rw[<-hs2]
 rw[e3]at Y k3 U;have I3:=Hh (N':=N') (ix:=ix) I2 L io f2 U (h':=h3) (t':=a.toks+([]:List (Str×zX)).length) Y k3;have e4:({s3 with heap:=h3,toks:=a.toks+([]:List (Str×zX)).length}:zY)={a with heap:=h3,toks:=a.toks+([]:List (Str×zX)).length}:=by rw[<-hs2]
 rw[e4]at I3;have a5:tn 0 h3:=T.keep _ _ _ a8 λb f o e=>k3 b o (by rw[<-e3];exact iB _ e)
 have t:∀s4:zY,s4={a with heap:=h3,toks:=a.toks+([]:List (Str×zX)).length}->
   codeAny (model X.prog X.w) X.A (.compLoop (.ListComp elt [⟨tg,iter,cs,0⟩] scope pos) 0 (.ref it) (.ref a.heap.objs.size) (compEnvC scope cl s3.heap.objs.size X.env))
    (compPost (model X.prog X.w) X.A X.xe use Qf (.ref a.heap.objs.size) s3.heap.objs.size) s4:=by
  rintro s4 rfl
  have F:∀{H':Hp},(∀b∈fp,H' b=none)->∀b∈fp,mM (blk X N' scope cl s3.heap.objs.size s3 (upd H1 a.heap.objs.size (.lst [])) fp) [] H' b:=λhn b f=>(ke (hn b f) (jJ (U b f)) (λhs=>I3.ok.exfs b f hs) (.inl f) (λx c e=>(f2 b f).2.2.2.2.1 x c (L.sub x c e)) (λp hp=>by cases hp))
  refine codeAny_loop rfl (λn s'=>∃i Z' H',Inv (blk X N' scope cl s3.heap.objs.size s3 (upd H1 a.heap.objs.size (.lst [])) fp) [] Z' H' s'/\(∀(j:Nat) v,(mE ix Z)[j]?=some (some v)->Z'[j]?=some (some v))/\tn i s'.heap/\(∀b∈fp,H' b=none)/\W i n H')
   (λn s' hI=>?_) m0 (jX 0 _ _ I3 (λ_ _ z=>z) a5 (λb f=>(f2 b f).1) w0)
  refine iW hI ?_;clear hI;rintro i Z5 k I5 wk a6 ⟨a1,w5⟩;show wpAny _ _ ((compTurn (.ListComp elt [⟨tg,iter,cs,0⟩] scope pos) 0 (.ref it) (.ref a.heap.objs.size) (compEnvC scope cl s3.heap.objs.size X.env)).onRaise (λx=>do noteFrame x (compEnvC scope cl s3.heap.objs.size X.env);theTreesLotGoes x)) _ _ s';refine wpAny_noted ?_;rw[compTurn_list];refine cz (wf ?_);rcases a9 i n k w5 with ⟨stop,qn⟩|⟨go,NN,MM,b4,b7,a2⟩
  ·refine cz (lR (T.done (blk X N' scope cl s3.heap.objs.size s3 (upd H1 a.heap.objs.size (.lst [])) fp) rfl rfl rfl hc i [] s' Z5 k (λ_ _=>False) I5 (F a1) a6 stop) (λr E h6=>?_) λ_ _ z=>z.elim);obtain⟨rfl,I6⟩:=h6;refine hE ?_;obtain⟨mm,hm,_⟩:=id I6.loc;exact b0 _ _ _ _ _ qn ⟨mm,hm⟩ (I2.fpOk (ig _) I6.free) λh' sb=>EF I2 f2 I6 sb
  ·refine cz (lR (T.item (blk X N' scope cl s3.heap.objs.size s3 (upd H1 a.heap.objs.size (.lst [])) fp) rfl rfl rfl hc i [] s' Z5 k (λ_ _=>False) I5 (F a1) a6 go) (λr E h6=>?_) λ_ _ z=>z.elim);obtain⟨u,rfl,h6⟩:=h6;refine cz (lR h6 (λ_ s7 h7=>?_) λ_ _ z=>z.elim);refine jC h7 ?_;clear h7;rintro x H7 I7 r7 y7 ⟨O,b2⟩;have I7w:Inv (blk X N' scope cl s3.heap.objs.size s3 (upd H1 a.heap.objs.size (.lst [])) fp) [] (mE ix Z) H7 s7:=I7.weak (by rw[I7.len];unfold mE;rw[hA];exact io.1) wk;have I7p:=I7w.pinned (F b2) (T.obj _ _ O);refine cz (lR (hg _ _ _ _ _ s7 _ H7 x u _ I7p r7 (a2 x H7 y7)) (λ_ s8 h8=>?_) λ_ _ z=>z.elim);obtain⟨Z8,H8,I8,a4,q8⟩:=h8
   have K:∀{B:zY}{lR:St}{G:Hp}{l:Nat},Inv (blk X N' scope cl s3.heap.objs.size s3 (upd H1 a.heap.objs.size (.lst [])) fp) ([]++tQ fp s7.heap) lR G B->(∀(j:Nat) v,(mE ix Z)[j]?=some (some v)->lR[j]?=some (some v))->W (i+1) l G->
     ∃i Z' H',Inv (blk X N' scope cl s3.heap.objs.size s3 (upd H1 a.heap.objs.size (.lst [])) fp) [] Z' H' B/\(∀(j:Nat) v,(mE ix Z)[j]?=some (some v)->Z'[j]?=some (some v))/\tn i B.heap/\(∀b∈fp,H' b=none)/\W i l H':=by
    intro B lR G l I10 kk P;refine jX (i+1) lR G I10.unpinned kk (T.keep _ _ _ O λb f o e=>(I10.pin (b,o) (ow _ (ow _ (vP f e)))).1) (λb f=>?_) P;obtain⟨o,e,d⟩:=T.obj _ _ O b f;exact(I10.pin (b,o) (ow _ (ow _ (vP f e)))).2.1
   refine cz (lR (ht _ _ _ _ _ s8 Z8 H8 _ I8 q8) (λok b6 b3=>?_) λ_ _ z=>z.elim);obtain⟨H9',I9',a3⟩:=b3
   cases ok with
   |false=>
    have q:MM H9':=by simpa using a3
    obtain⟨l,Q,w9⟩:=b7 _ q;exact cz (hE (hE (iV rfl l Q (K I9' a4.get w9))))
   |true=>
    have q:te Z8 H9' NN:=by simpa using a3
    refine cz (cz (lR (he _ _ _ _ _ b6 Z8 H9' _ I9' q) (λyv s9 h9=>?_) λ_ _ z=>z.elim));obtain⟨y,H9,I9,r9,n9⟩:=h9;obtain⟨xs,b5,b1,l,Q,w9⟩:=b4 _ _ n9;refine cz (lR (nK (X:=blk X N' scope cl s3.heap.objs.size s3 (upd H1 a.heap.objs.size (.lst [])) fp) _ s9 Z8 H9 (.ref a.heap.objs.size) [y] (.ref a.heap.objs.size) [yv] (λ_ H'=>W (i+1) l H') I9 rfl (.cons r9 .nil) (jX _ xs y rfl rfl b5 b1 w9)) (λ_ B b8=>?_) λ_ _ z=>z.elim);obtain⟨_,G,I10,_,P⟩:=b8;exact hE (hE (iV rfl l Q (K I10 a4.get P)))
 have e5:s3.heap.objs.size=(a.heap.push {cls:=.type "list",data:=.seq ([]:zH).toArray}).objs.size:=by rw[e3]
 rw[e5]at t;exact codeAny_compStart_list (t _ rfl) (T.self X.A 0 _ _ _ a5 (t _ rfl))
theorem Bs{f:zZ->Prop}(o:f X.A)(k:ox X scope cl)(l:oQ X N' scope ix)(hi:PIP f X tg iter wi)
  (z:∀C c H₀ fp,PG (blk X N' scope cl C c H₀ fp) tg g) (q:∀C c H₀ fp,PTs (blk X N' scope cl C c H₀ fp) cs tc) (w:∀C c H₀ fp,PE (blk X N' scope cl C c H₀ fp) elt te) (R:VK->St->It->Hp->Prop) (n:∀Q Z J H1,R Q Z J H1->∀D,H1 D=none->∃W:Nat->Nat->Hp->Prop,(∃m,W 0 m (upd H1 D (.lst [])))/\∀i m H2,W i m H2->
 (J.stop i H2/\Q (.ref D) H2)\/(J.go i H2/\∃(N:VK)(M:Hp->Prop),(∀y a,N y a->∃xs,a D=some (.lst xs)/\xs.length<sizeLine/\∃d,d<m/\W (i+1) d (upd a D (.lst (xs++[y]))))/\(∀a,M a->∃d,d<m/\W (i+1) d a)/\∀x e,J.yld i H2 x e->g x (mE ix Z) e λZ4 H4=>A3c (mE ix Z) Z4/\tc Z4 H4 λb a=>if b=true then te Z4 a N else M a)) (p:∀x,foldedSetIterable iter X.env x=pure x:=by intro _;rfl):
  PE X (.ListComp elt [⟨tg,iter,cs,0⟩] scope pos) (λZ H Q=>wi Z H (R Q Z)):=by
 intro j s Z H Q I h;rw[eval_ListComp];exact Bz (use:=none) o k l hi z q w p (S:=λD H2=>Q (.ref D) H2) (n Q Z) (λD C a F x t ⟨u,B⟩ _ Io=>(ah u B λr v=>(fx (.ref D) a (Io r v) rfl t))) I h
theorem vC{c:yC}(f:X.calm=true)(d:ox X scope cl)(e:oQ X N' scope ix)(hi:PI X tg iter wi)
  (l:∀C b H₀ fp,PG (blk X N' scope cl C b H₀ fp) tg g) (j:∀C b H₀ fp,PT (blk X N' scope cl C b H₀ fp) c tc) (k:∀C b H₀ fp,PE (blk X N' scope cl C b H₀ fp) elt te) (i:∀x,foldedSetIterable iter X.env x=pure x:=by intro _;rfl):
  PE X (.ListComp elt [⟨tg,iter,[c],0⟩] scope pos) (xf ix wi g tc te):=
 λa s Z H Q I h=>(show PE X _ (xf ix wi g tc te) from Bs (I.ok.hd f) d e hi l (λC b H₀ fp a s Z H Q I h=>wpAny_tests_one (j C b H₀ fp a s Z H Q I h)) k _ (λ_ _ _ _ R=>R) i) a s Z H Q I h
theorem mH(n:X.calm=true)(j:ox X scope cl)(k:oQ X N' scope ix)(hi:PI X tg iter wi)
  (u:∀C d H₀ fp,PG (blk X N' scope cl C d H₀ fp) tg g) (q:∀C d H₀ fp,PE (blk X N' scope cl C d H₀ fp) elt te) (p:∀x,foldedSetIterable iter X.env x=pure x:=by intro _;rfl):
  PE X (.ListComp elt [⟨tg,iter,[],0⟩] scope pos) (wQ ix wi g te):=
 λb s Z H Q I h=>(show PE X _ (wQ ix wi g te) from Bs (tc:=λ_ H Q=>Q true H) (I.ok.hd n) j k hi u (λ_ _ _ _ _ _ _ _ _ I h=>wpAny_tests_nil (ah _ I h)) q _ (λ_ _ _ _ R e l=>by
  obtain⟨W,f,a⟩:=R e l;refine ah W f λi m r w=>(a i m r w).imp id λ⟨t,N,o,c⟩=>(jN t N (λ_=>False) o (λ_ z=>z.elim) ?_)
  simpa using c) p) b s Z H Q I h
section
variable{D:zW}{xs:zM}
theorem vV(Pv:Nat->List V->Hp->Prop)(j:Pv 0 [] (upd H D (.lst [])))(h:∀i ys H,Pv i ys H->SqL K H a xs)
  (l:∀i x ys H,xs[i]?=some x->Pv i ys H->g x Z₀ H λZ4 H4=>A3c Z₀ Z4/\tc Z4 H4 λb c=>if b=true then te Z4 c (λy c=>c D=some (.lst ys)/\ys.length<sizeLine/\Pv (i+1) (ys++[y]) (upd c D (.lst (ys++[y]))))else Pv (i+1) ys c) (k:∀ys H,Pv xs.length ys H->QD H):
  ∃W:Nat->Nat->Hp->Prop,(∃m,W 0 m (upd H D (.lst [])))/\∀i m H2,W i m H2->
   ((Itl K a).stop i H2/\QD H2)\/((Itl K a).go i H2/\∃(N:VK)(M:Hp->Prop),(∀y c,N y c->∃xs,c D=some (.lst xs)/\xs.length<sizeLine/\∃d,d<m/\W (i+1) d (upd c D (.lst (xs++[y]))))/\(∀c,M c->∃d,d<m/\W (i+1) d c)/\
    ∀x f,(Itl K a).yld i H2 x f->g x Z₀ f λZ4 H4=>A3c Z₀ Z4/\tc Z4 H4 λb c=>if b=true then te Z4 c N else M c):=by
 refine ah (λi m H=>m=xs.length-i/\i<=xs.length/\∃ys,Pv i ys H) (oN xs.length (by simp) (jP _) [] j) ?_;rintro i m H2 ⟨rfl,o,ys,p⟩;have q:=h i ys H2 p;by_cases hlt:i<xs.length
 ·refine .inr (jN (jV xs (xs[i]) q (by simp[hlt])) (λy c=>c D=some (.lst ys)/\ys.length<sizeLine/\Pv (i+1) (ys++[y]) (upd c D (.lst (ys++[y])))) (λc=>Pv (i+1) ys c) (λy c n=>(sV ys n.1 n.2.1 (xs.length-(i+1)) (by lia) rfl hlt _ n.2.2)) (λc n=>(ky (xs.length-(i+1)) (by lia) rfl hlt ⟨_,n⟩)) λx f z=>?_);obtain⟨e,z⟩:=z;subst e;exact l i x ys _ (z xs q) p
 ·have e:i=xs.length:=by lia
  subst e;exact .inl ⟨(ah xs q (ig _)),k ys H2 p⟩
end
theorem Is{v:zW}{Q:zA}(h1:s.heap.IsItemsView v d)(h2:s.heap.get? d=some od)(a:od.data=.dict es ep)
  (q:Q (.ref s.heap.objs.size) {s with heap:=s.heap.push {cls:=.type "dict_itemiterator",data:=.fields #[.none,.bool false,.ref d,.int 0 0,.int es.size 0,.int ep 0,.none,.none]}}):
  wpAny (model prog w) A (pyIter (.ref v)) Q E s:=by
 obtain⟨f,c,e,b⟩:=id h1;refine wpAny_pyIter_slot h1.typeIs F.slot_dict_items_iter (mn F.slot_dict_items_iter h1.typeIs F.entry_dict_items_iter ?_ (F.args_dict_items_iter_1 _));unfold Builtin.«dict_items.__iter__»;refine cz (hE (cz ?_));unfold Builtin.Dict_items.dictOf;refine cz (jQ c b (x:=.ref d) rfl (hE (cz ?_)));unfold Builtin.Dict_items.newIterator;refine cz (wpAny_dictEntries h2 a (cz (wpAny_dictEpoch h2 a ?_)));simp only [show Builtin.Dict_items.ownsTuple "dict_itemiterator"=true by decide,if_true]
 refine nQ (hE (ii _ rfl "dict_itemiterator" _ (ah _ (jw _ rfl) rfl) F.slot_dict_itemiterator_next.lookup ?_)) (by
  simp only [sizeOk,Builtin.Dict_items.ownedTupleFields,jK,jc,mB,oo,sizeLine_eq]
  lia)
 simpa[rawInt,Builtin.Dict_items.ownedTupleFields]using q
theorem Ip{e:DictEntry}{x:zX}
  (h1:IsItemIter s.heap it d i n ep x y) (h2:s.heap.get? d=some od) (M:od.data=.dict es ep) (S:es.size=n) (N:es[i]?=some e)
  (q:∀h',IsItemIterOut h' it d (i+1) n ep e.key e.val s.heap.objs.size->h'.get? s.heap.objs.size=some {cls:=.type "tuple",data:=.seq #[e.key,e.val]}->
   (∀c u,c≠it->s.heap.get? c=some u->h'.get? c=some u)->Q (some (.ref s.heap.objs.size)) {s with heap:=h'}):
  wpAny (model prog w) A (pyNext (.ref it)) Q E s:=by
 obtain⟨f,g,j,k,l⟩:=s;have m:Shared.TypeIs ⟨f,g,j,k,l⟩ (.ref it) "dict_itemiterator":=(ah _ h1 rfl);unfold pyNext;refine cz (wpAny_attempt (nA (name:=Str.ofString "__next__") m F.slot_dict_itemiterator_next (mn F.slot_dict_itemiterator_next m F.entry_dict_itemiterator_next ?_ (F.args_dict_itemiterator_next_1 _))));refine cz (hE (cz (cz ?_)));refine cz (wpAny_typeNameOfWhole_itemiter m (hE (cz (wpAny_fieldsOf h1 rfl ?_))));simp only [show Builtin.Dict_items.ownsTuple "dict_itemiterator"=true by decide,if_true];show wpAny _ _ (ite ((Value.ref d==Value.none)=true) _ _) _ _ _;rw[fy (show¬((Value.ref d==Value.none)=true) from jD)];refine cz (hE (cz (wpAny_dictEntries h2 M ?_)));rw[fy (by rw[S];simp)];refine cz (hE (cz (wpAny_dictEpoch h2 M ?_)));rw[fy (by simp)];obtain⟨T,U⟩:=xZ.mp N;refine hE ?_;simp only [show¬((i:Int)<0) from by lia,if_false,Int.toNat_natCast,N];refine cz (cz (wpAny_typeNameOfWhole_itemiter m (hE (cz (wpAny_isOneOf_itemiter m ?_)))));show wpAny _ _ (setField (.ref it) 3 (rawInt ((i:Int)+1))>>=_) _ _ (⟨f,g,j,k,l⟩:zY);refine cz (nc h1 (by simp) λk1 v t=>?_)
 replace t:Heap.SameBut it f k1:=t
 replace v:IsItemIter k1 it d (i+1) n ep x y:=by
  have z:((i+1:Nat):Int)=(i:Int)+1:=by lia
  unfold IsItemIter;rw[z]
  simpa[rawInt]using v
 have h:Shared.TypeIs ⟨k1,g,j,k,l⟩ (.ref it) "dict_itemiterator":=(ah _ v rfl);refine cz (ny (cz (wpAny_isOneOf_itemiter h (cz (wpAny_isOneOf_itemiter h ?_)))));show wpAny _ _ (Builtin.Dict_items.pairFromOwner (.ref it) 6 e.key e.val) _ _ (⟨k1,g,j,k,l⟩:zY);unfold Builtin.Dict_items.pairFromOwner;refine cz (wpAny_newTuple ?_);have H:k1.objs.size=f.objs.size:=t.1;have R:it<f.objs.size:=iI h1;have r:IsItemIter (k1.push {cls:=.type "tuple",data:=.seq #[e.key,e.val]}) it d (i+1) n ep x y:=iB _ v;have P:(k1.push {cls:=.type "tuple",data:=.seq #[e.key,e.val]}).get? f.objs.size=some {cls:=.type "tuple",data:=.seq #[e.key,e.val]}:=by rw[<-H];exact jw _ rfl
 have O:∀b o,b≠it->f.get? b=some o->(k1.push {cls:=.type "tuple",data:=.seq #[e.key,e.val]}).get? b=some o:=λb o a z=>iB _ (t.extBut b o a z);generalize k1.push {cls:=.type "tuple",data:=.seq #[e.key,e.val]}=k2 at r P O;show wpAny _ _ (Builtin.Dict_items.ownedTupleIsFree (.ref it)>>=_) _ _ (⟨k2,g,j,k,l⟩:zY);rw[H];clear v t h H k1;refine cz ?_;unfold Builtin.Dict_items.ownedTupleIsFree;refine cz (jQ r rfl (x:=.none) rfl (hE ?_));simp only [if_true];refine cz (jQ r rfl (x:=x) rfl (cz (jQ r rfl (x:=y) rfl (cz (nc r (by simp) λk3 I J=>?_)))))
 replace J:Heap.SameBut it k2 k3:=J
 replace I:IsItemIter k3 it d (i+1) n ep e.key y:=I
 refine cz (nc I (by simp) λk4 D K=>?_)
 replace K:Heap.SameBut it k3 k4:=K
 replace D:IsItemIter k4 it d (i+1) n ep e.key e.val:=D
 refine cz (nc D (by simp) λk5 B G=>?_)
 replace G:Heap.SameBut it k4 k5:=G
 replace B:IsItemIterOut k5 it d (i+1) n ep e.key e.val f.objs.size:=B
 refine cz (nc B (by simp) λk6 C L=>?_)
 replace L:Heap.SameBut it k5 k6:=L
 replace C:IsItemIterOut k6 it d (i+1) n ep e.key e.val f.objs.size:=C
 have p:∀b o,b≠it->k2.get? b=some o->k6.get? b=some o:=λb o a z=>L.extBut b o a (G.extBut b o a (K.extBut b o a (J.extBut b o a z)));exact cz (wpAny_letGo (hE (hE (ah _ rfl (hE (q k6 C (p _ _ (lH R) P) λb o a z=>p b o a (O b o a z)))))))
theorem Hj{x:zX}(f:A.handled=none)
  (h1:IsItemIter s.heap it d i n ep x y) (h2:s.heap.get? d=some od) (e:od.data=.dict es ep) (g:es.size=n) (h:n<=i)
  (q:∀h',Heap.ExtBut it s.heap h'->Q none {s with heap:=h'}):wpAny (model prog w) A (pyNext (.ref it)) Q E s:=by
 have c:s.TypeIs (.ref it) "dict_itemiterator":=(ah _ h1 rfl);unfold pyNext;refine cz (wpAny_attempt (nA (name:=Str.ofString "__next__") c F.slot_dict_itemiterator_next (mn F.slot_dict_itemiterator_next c F.entry_dict_itemiterator_next ?_ (F.args_dict_itemiterator_next_1 _))));refine cz (hE (cz (cz ?_)));refine cz (wpAny_typeNameOfWhole_itemiter c (hE (cz (wpAny_fieldsOf h1 rfl ?_))));simp only [show Builtin.Dict_items.ownsTuple "dict_itemiterator"=true by decide,if_true];show wpAny _ _ (ite ((Value.ref d==Value.none)=true) _ _) _ _ _;rw[fy (show¬((Value.ref d==Value.none)=true) from jD)];refine cz (hE (cz (wpAny_dictEntries h2 e ?_)));rw[fy (by rw[g];simp)];refine cz (hE (cz (wpAny_dictEpoch h2 e ?_)));rw[fy (by simp)];refine hE ?_;simp only [show¬((i:Int)<0) from by lia,if_false,Int.toNat_natCast,Array.getElem?_eq_none (show es.size<=i by lia)];refine cz (cz (wpAny_typeNameOfWhole_itemiter c (hE ?_)));show wpAny _ _ (setField (.ref it) 2 .none>>=_) _ _ _;refine cz (qg h1 rfl (by simp) ?_);show wpAny _ _ (newExc (.type "StopIteration") []>>=_) _ _ (_:zY);refine cz ?_;simp only [newExc,newTuple];refine cz (nQ (cz (m:=firstArgMember _ _) (wpAny_of_eq (a:=Value.none) (by first|rfl|(simp only [firstArgMember];rfl)) (nQ ?_ (by size_fits)))) (by size_fits));simp only [raiseNew];refine cz (wpAny_handled ?_);rw[show A.in1.handled=none from f];refine cz (hE (wpAny_throw ?_));refine cz (wpAny_isInstance (T:="StopIteration") (b:=true) (ah _ (jw _ rfl) rfl) isSubtype_stop (hE ?_));exact q _ (((Heap.SameBut.update ..).extBut.push _).push _)
theorem Jc:entryFor table "dict_itemiterator.__iter__"=some Builtin.«dict_keyiterator.__iter__»:=entryFor_alias (id':="dict_keyiterator.__iter__") (by kernel_rfl) rfl (by decide+kernel) (by kernel_rfl)
theorem Iu{x:zX}{Q:zA}(st:IsItemIter s.heap it d i n ep x y)(h:Q (.ref it) s):wpAny (model prog w) A (pyIter (.ref it)) Q E s:=by have a:s.TypeIs (.ref it) "dict_itemiterator":=(ah _ st rfl);refine wpAny_pyIter_slot a F.slot_dict_itemiterator_iter (mn F.slot_dict_itemiterator_iter a Jc ?_ (F.args_dict_itemiterator_iter_1 _));show wpAny _ _ (ret (.ref it)) _ _ s;exact hE (ii _ rfl "dict_itemiterator" _ a F.slot_dict_itemiterator_next.lookup h)
theorem Ie(d:zW)(a:(d==sysModules)=false):
  MeetsIn prog w (Builtin.«dict.items» ⟨[.ref d],[]⟩) (λ_ R s=>s.TypeIs (.ref d) "dict"/\R (.ok (.ret (.ref s.heap.objs.size))) {s with heap:=s.heap.push {cls:=.type "dict_items",data:=.fields #[.ref d]}}):=
 .of_wp λA R s ⟨b,q⟩=>by unfold Builtin.«dict.items»;refine cz ?_;unfold Builtin.Dict.noArgs;refine cz (wpAny_notOrdered_dict b ?_);show wpAny _ _ (pure d) _ _ s;refine hE ?_;show wpAny _ _ (Builtin.Dict.showsAll d>>=_) _ _ s;unfold Builtin.Dict.showsAll;rw[fy (by rw[a];exact jD)];exact cz (hE (cz (nQ (hE (ah _ rfl q)))))
def isD(u:HO):Prop:=(∃a,u=.dK a)\/∃a,u=.dT a
def mO(v d:zW):HO:=.ext λh=>h.IsItemsView v d
theorem F6{v:zW}(e:h.IsItemsView v d):A1s P w H h v (mO v d):=(hQ e (let⟨o,a,_⟩:=e;⟨o,a⟩) (by rintro c f ⟨o,a,b⟩ k;exact ah o (k o a) b))
theorem EC(k:isD u)(x:A1s P w H h a u):(a==sysModules)=false/\∃o es ep,h.get? a=some o/\o.ExactDict/\o.data=.dict es ep:=by
 rcases k with ⟨e,rfl⟩|⟨e,rfl⟩
 ·refine mj x ?_;clear x;rintro j f i g o es ep c ⟨b,d,r⟩;exact⟨f,(mi o es ep c b d)⟩
 ·refine mj x ?_;clear x;rintro j f i g o es ep c ⟨b,d,r⟩;exact⟨f,(mi o es ep c b d)⟩
def DX:V->List V->Hp->VK->Prop:=λx b H Q=>∃a u,x=.ref a/\b=[]/\H a=some u/\isD u/\∀p,H p=none->Q (.ref p) (upd H p (mO p a))
theorem sn:MtR X "dict.items" DX:=by intro d s Z H x n v w Q I f g h;refine jC h ?_;clear h;rintro a u rfl rfl m ⟨j,q⟩;cases f;cases g;obtain⟨i,o,r,p,l,k,t⟩:=EC j (I.hok a u m);have c:s.TypeIs (.ref a) "dict":=(ah o l k.1);refine call_meetsIn PySem.F.slot_dict_items c PySem.F.entry_dict_items (PySem.F.args_dict_items_1 _) (Ie a i) ⟨c,?_⟩;exact fx (.ref s.heap.objs.size) _ (I.laid (t':=s.toks) (o:=mO s.heap.objs.size a) (λb u e=>iB _ e) (ig _) (F6 (hH _ (jw _ rfl) rfl rfl))) rfl (q _ (I.hok.fresh (ig _)))
theorem Inv.frozenD(I:Inv X pins Z H s)(c:H a=some u)(g:isD u)(h:s.heap.get? a=some o):Inv X pins Z (upd H a (.frz o u)) s:=by
 have j:∀b d,H b=some (.tup d)->upd H a (.frz o u) b=some (.tup d):=λb d q=>by rw[dV (ir q c (by rcases g with ⟨_,rfl⟩|⟨_,rfl⟩<;>intro z<;>cases z))];exact q
 have i:∀b,H b=some (.own a)->upd H a (.frz o u) b=some (.own a):=λb q=>by rw[dV (ir q c (by rcases g with ⟨_,rfl⟩|⟨_,rfl⟩<;>intro z<;>cases z))];exact q
 have f:A1s X.prog X.w (upd H a (.frz o u)) s.heap a (.frz o u):=⟨h,(I.hok a u c).stay (λ_ _ _ q=>q) i j⟩;exact I.write (t':=s.toks) (h':=s.heap) (e:=a) (by rw[c];rcases g with ⟨_,rfl⟩|⟨_,rfl⟩<;>trivial) (.inl rfl) (λ_ _ _ e=>e) ⟨o,h⟩ f
theorem Inv.thawD(I:Inv X pins Z H s)(g:H a=some (.frz o u))(A:isD u)(r:∀o' k,X.H₀ a≠some (.frz o' k)):Inv X pins Z (upd H a u) s:=by
 have h:∀b,H b=none->upd H a u b=none:=λb e=>by rw[dV (λz=>by subst z;rw[g]at e;cases e)];exact e
 have i:∀b d,H b=some (.tup d)->upd H a u b=some (.tup d):=λb d q=>by rw[dV (ir q g (by intro z;cases z))];exact q
 have m:∀b c,H b=some (.own c)->upd H a u b=some (.own c):=λb c q=>by rw[dV (ir q g (by intro z;cases z))];exact q
 refine⟨I.ok,I.os,I.bare,⟨I.base.keep,I.base.slot,λb j e n t=>h b (I.base.free b j e n t),I.base.there,λb d e=>i b d (I.base.tups b d e),λb j k e=>?_,λb y e=>?_⟩,I.loc,I.cell,h _ I.free,λx c e=>h _ (I.freeC x c e),
  λp l=>(hQ ((I.pin p l).1) (h _ (I.pin p l).2.1) ((I.pin p l).2.2)),λb v e=>?_,I.len⟩
 ·have q:=I.base.frzs b j k e;rw[dV (λz=>by subst z;exact r _ _ e)];exact q
 ·obtain⟨f,q⟩:=I.base.tbls b y e;exact⟨f,by rw[dV (ir q g (by intro z;cases z))];exact q⟩
 ·by_cases hb:b=a
  ·subst hb;rw[dh]at e;cases e;obtain⟨_,q⟩:=(show A1s X.prog X.w H s.heap b (.frz o u) from I.hok b _ g);exact q.stay (λ_ _ _ q=>q) (λc q=>m c b q) λc d q=>i c d q
  ·rw[dV hb]at e;exact(I.hok b v e).stay (λ_ _ _ q=>q) (λc q=>m c b q) λc d q=>i c d q
def Dl(X:Cx)(t:TS):TS:=λD Z H=>∃a o u,H a=some (.frz o u)/\isD u/\(∀c b,X.H₀ a≠some (.frz c b))/\t D Z (upd H a u)
theorem uq{t:TS}(h:PSs X sts t):PSs X sts (Dl X t):=by intro b s Z H D I c;refine iW c λa o u e f d q=>?_;clear c;exact h b s Z _ D (I.thawD e f d) q
abbrev uW(es:Array DictEntry)(L:List (V×V)):Prop:=Paired (λ(e:DictEntry)(p:V×V)=>A2q p.1 e.key/\A2q p.2 e.val) es.toList L
def Iti(a:zW)(o:Obj)(u:HO)(L:List (V×V)):It :=⟨λi H=>H a=some (.frz o u)/\i<L.length,λi H x b=>∃k v p,L[i]?=some (k,v)/\H p=none/\x=.ref p/\b=upd H p (.tup [k,v]),λi H=>H a=some (.frz o u)/\i=L.length⟩
theorem xJ{α β:Type}{F:α->β->Prop}:∀{l:List α}{m:List β},Paired F l m->l.length=m.length|_,_,.nil=>rfl|_,_,.cons _ t=>by simp[xJ t]
theorem Bl{α β:Type}{F:α->β->Prop}:∀{l:List α}{m:List β},Paired F l m->∀{i:Nat}{y:β},m[i]?=some y->∃x,l[i]?=some x/\F x y|_,_,.nil,i,y,e=>by simp at e|_,_,.cons r t,0,y,e=>by simp at e;subst e;exact ah _ rfl r|_,_,.cons r t,i+1,y,e=>by obtain⟨x,b,a⟩:=Bl t (i:=i) (by simpa using e);exact ah x (by simpa using b) a
theorem IH(it a:zW)(o:Obj)(u:HO)(L:List (V×V))(es:Array DictEntry)(ep:Nat)(J:o.data=.dict es ep)(q:uW es L):
  C3f P w K (.Tuple elts kk pos) (Iti a o u L) [it] it (λi h=>∃x y,IsItemIter h it a i es.size ep x y) where
 mem:=by simp
 obj:=λi h d b B=>by
  have e:b=it:=by simpa using B
  subst e;obtain⟨x,y,e⟩:=d;exact ah _ e λv z=>by cases(show Data.fields _=Data.cell v from z)
 keep:=λi h r d k=>let⟨x,y,e⟩:=d;(km x y (k it (by simp) _ e))
 item:=by
  intro X C t A j i f s Z H E I n d F;subst C t A;obtain⟨G,N⟩:=F;obtain⟨x,y,d⟩:=d;have Q:es.size=L.length:=by have:=xJ q;simpa using this
  obtain⟨⟨k,v⟩,hkv⟩:∃p,L[i]?=some p:=⟨L[i],by simp[N]⟩;obtain⟨e,he,r1,r2⟩:=Bl q hkv;obtain⟨l,_⟩:=(show A1s X.prog X.w H s.heap a (.frz o u) from I.hok a _ G);refine Ip d l J rfl (e:=e) (by simpa using he) λr Y U kp=>?_;refine ah _ rfl (wpAny_letOwnedTupleGo_items (s:={s with heap:=r}) Y λg zg M=>?_)
  have O:s.heap.objs.size≠it:=lH (iI d)
  have I1:Inv X f Z (upd H s.heap.objs.size (.tup [k,v])) {s with heap:=g,toks:=s.toks}:=I.turnedNew (ts:=[it]) (λc o j e=>by
   have m:c≠it:=by simpa using j
   exact M.extBut _ _ m (kp c o m e)) n (ig _) (iV (by show 2<=sizeLine;decide) [e.key,e.val] (.cons r1 (.cons r2 .nil)) (oN _ (M.extBut _ _ O U) rfl _ rfl))
  refine jA (.ref s.heap.objs.size) _ I1 rfl (jv k v _ hkv (I.hok.fresh (ig _)) rfl rfl) (km _ _ zg) λc j=>?_;have D:c=it:=by simpa using j
  subst D;rw[dV O.symm];exact(n c j).1
 done:=by
  intro X C t A j i f s Z H E I n d F;subst C t A;obtain⟨G,N⟩:=F;obtain⟨x,y,d⟩:=d;have Q:es.size=L.length:=by have:=xJ q;simpa using this
  obtain⟨l,_⟩:=(show A1s X.prog X.w H s.heap a (.frz o u) from I.hok a _ G);obtain⟨f0,W,f2,f3,S,R⟩:=n it (by simp);exact Hj j d l J rfl (by lia) λr eb=>⟨rfl,I.turned (t':=s.toks) (λb T B e=>eb b T B e) f0 W f3 S R⟩
 self:=λ_ _ s _ _ d h=>by obtain⟨x,y,d⟩:=d;exact Iu d h
abbrev KL(H:Hp)(kvs:List (List Key×V))(L:List (V×V)):Prop:=Paired (λ(p:List Key×V)(q:V×V)=>∃b,q.1=.ref b/\H b=some (.tup (p.1.map kV))/\q.2=p.2) kvs L
theorem Bb{α β:Type}{F:α->β->Prop}:∀{l:List α}{m:List β},l.length=m.length->(∀(i:Nat)(x:α)(y:β),l[i]?=some x->m[i]?=some y->F x y)->Paired F l m| [],[],_,_=>.nil| [],_::_,e,_=>by simp at e|_::_,[],e,_=>by simp at e|x::l,y::m,e,h=>.cons (h 0 x y rfl rfl) (Bb (by simpa using e) λi a b p q=>h (i+1) a b (by simpa using p) (by simpa using q))
theorem Db(r:KV kvs vs)(p:Pairs (jG P w) es.toList vs):uW es (kvs.map λq=>(kV q.1,q.2)):=by refine Bb (by rw[p.length,hA];exact r.length.symm) λi e y f a=>?_;rw[jh]at a;obtain⟨⟨k,v⟩,c,rfl⟩:=oP.mp a;obtain⟨u,h,d⟩:=r.at c;obtain⟨b,g⟩:=p.get? f h;subst g;exact⟨yq b,d⟩
theorem za{P:yB}{w:yD}{H:Hp}:∀{kvs:List (List Key×V)}{xs:List (List Key×zW×zX)},KT H kvs xs->
  ∃L,Paired (λ(e:DictEntry)(p:V×V)=>A2q p.1 e.key/\A2q p.2 e.val) (xs.map (entryOfKey (tupleKind (jG P w)))) L/\KL H kvs L
 |_,_,.nil=>(ah [] .nil .nil)
 |_,_,@Paired.cons _ _ _ p q _ _ h t=>by obtain⟨L,a,b⟩:=za (P:=P) (w:=w) t;exact ah ((.ref q.2.1,p.2)::L) (.cons ⟨rfl,h.2.2⟩ a) (.cons (hH q.2.1 rfl h.2.1 rfl) b)
def DZ(tl:TE):TI:=λZ H R=>tl Z H λx c=>∃v a u,x=.ref v/\c v=some (mO v a)/\c a=some u/\
 ((∃b,u=.dK b/\∀o,R (Iti a o u (b.map λq=>(kV q.1,q.2))) (upd c a (.frz o u)))\/∃b,u=.dT b/\∀o L,KL c b L->R (Iti a o u L) (upd c a (.frz o u)))
theorem sw{l:yC}(z:PE X l tl):PI X (.Tuple elts kk pos) l (DZ tl):=by
 intro c s Z H R I h;refine thn (z c s Z H _ I h) ?_;rintro y s1 t;refine oY t ?_;clear t;rintro x m I1 B v a u ⟨K,M,n,q⟩;subst K;cases B;obtain⟨S,_⟩:=(show A1s X.prog X.w m s1.heap v (mO v a) from I1.hok v _ M)
 have p:∀(o:Obj)(d:Array DictEntry)(f:Nat)(L:List (V×V)),s1.heap.get? a=some o->o.data=.dict d f->isD u->uW d L->R (Iti a o u L) (upd m a (.frz o u))->
   wpAny (model X.prog X.w) X.A (pyIter (.ref v)) (PIE X c Z (.Tuple elts kk pos) R) X.xe s1:=by
  intro o d f L i j F U C;refine Is S i j ?_;have I2:Inv X c Z m {s1 with heap:=s1.heap.push {cls:=.type "dict_itemiterator",data:=.fields #[.none,.bool false,.ref a,.int 0 0,.int d.size 0,.int f 0,.none,.none]},toks:=s1.toks}:=I1.kept λb W e=>iB _ e
  have I3:=I2.frozenD n F (iB _ i);refine jk _ [s1.heap.objs.size] _ _ _ rfl I3 (IH _ a o u L d f j U) (km .none .none (jw _ rfl)) (λb J=>?_) C;have e:b=s1.heap.objs.size:=by simpa using J
  subst e;refine I1.fpOk (ig _) ?_;rw[dV (lH (I1.hok.lt n))];exact I1.hok.fresh (ig _)
 rcases q with ⟨k,rfl,q⟩|⟨k,rfl,q⟩
 ·refine mj (rT I1.hok n) ?_;rintro N O Y g o d f i ⟨G,j,_,r,_⟩;exact p o d f _ i j (.inl ⟨_,rfl⟩) (Db g r) (q o)
 ·refine mj (show A1s X.prog X.w m s1.heap a (.dT k) from I1.hok a _ n) ?_;rintro N O E g o d f i ⟨G,j,T,_⟩;obtain⟨L,Q,D⟩:=za (P:=X.prog) (w:=X.w) g;exact p o d f L i j (.inr ⟨_,rfl⟩) (by unfold uW;rw[T];exact Q) (q o L D)
theorem uj(Pv:Nat->St->Hp->Prop)(f:Pv 0 Z H)(b:∀i Z H,Pv i Z H->H a=some (.frz o u))
  (l:∀i k v p Z H,L[i]?=some (k,v)->H p=none->Pv i Z H->g (.ref p) Z (upd H p (.tup [k,v])) λZ2 H2=>tb {D with nx:=Pv (i+1),ct:=Pv (i+1),bk:=D.nx} Z2 H2) (h:∀Z H,Pv L.length Z H->D.nx Z H):
  ∃W:Nat->Nat->St->Hp->Prop,(∃m,W 0 m Z H)/\∀i m Z H,W i m Z H->
   ((Iti a o u L).stop i H/\D.nx Z H)\/((Iti a o u L).go i H/\∃N:St->Hp->Prop,(∀Z' H',N Z' H'->∃c,c<m/\W (i+1) c Z' H')/\∀x H',(Iti a o u L).yld i H x H'->g x Z H' λZ2 H2=>tb {D with nx:=N,ct:=N,bk:=D.nx} Z2 H2):=by
 refine ah (λi m Z H=>m=L.length-i/\i<=L.length/\Pv i Z H) (hH L.length (by simp) (jP _) f) ?_;rintro i m Z H ⟨rfl,r,p⟩;by_cases hlt:i<L.length
 ·refine .inr (iV ⟨b i Z H p,hlt⟩ (Pv (i+1)) (λZ' H' d=>(ky (L.length-(i+1)) (by lia) rfl hlt d)) λx H' y=>?_);refine iW y ?_;clear y;rintro k v q n j rfl rfl;exact l i k v q Z _ n j p
 ·have e:i=L.length:=by lia
  subst e;exact .inl ⟨⟨b _ Z H p,rfl⟩,h Z H p⟩
def yx(H:Hp):Prop:=(∀a b,H a=some (.dK b)->(b.map (·.1)).Nodup)/\∀a b,H a=some (.dT b)->(b.map (·.1)).Nodup
theorem ED(r:KV kvs vs):kvs.map (·.1)=vs.map (·.1):=by
 unfold KV at r
 induction r with
 |nil=>rfl
 |cons h t ih=>rw[iN,iN,ih,h.1]
theorem EL{kvs:List (List Key×V)}{xs:List (List Key×zW×zX)}(r:KT H kvs xs):kvs.map (·.1)=xs.map (·.1):=by
 induction r with
 |nil=>rfl
 |cons h t ih=>rw[iN,iN,ih,h.1]
theorem Inv.apart(I:Inv X pins Z H s):yx H:=by
 refine⟨λa c e=>?_,λa c e=>?_⟩
 ·refine mj (rT I.hok e) ?_;rintro _ _ g b o d f _ ⟨_,_,_,_,n⟩;rw[ED b];exact n
 ·refine mj (show A1s X.prog X.w H s.heap a (.dT c) from I.hok a _ e) ?_;rintro _ _ h b o d f _ ⟨_,_,_,n⟩;rw[EL b];exact n
theorem F9{t:TS}(h:PSs X sts t):PSs X sts (λD Z H=>yx H->t D Z H):=λa s Z H D I q=>h a s Z H D I (q I.apart)
theorem ug[DecidableEq κ]{kvs:List (κ×V)}{k:κ}(n:(kvs.map (·.1)).Nodup)(h:kvs[i]?=some (k,v))(b:List (κ×V))(e:b.map (·.1)=(kvs.take i).map (·.1))(u:V):iL b k u=b++[(k,u)]:=by
 unfold iL;rw[fy];intro a;obtain⟨p,y,c⟩:=List.any_eq_true.mp a;have c:p.1=k:=by simpa using c
 have g:k∈b.map (·.1):=kg.mpr (ah p y c);rw[e]at g;obtain⟨q,s,r⟩:=kg.mp g;obtain⟨j,z,f⟩:=List.mem_iff_getElem.mp s;have w:j<i:=by have:=List.length_take_le i kvs;lia
 rw[List.getElem_take]at f;obtain⟨C,D⟩:=iG.mp h;have d:j<kvs.length:=by lia
 have o:(kvs.map λx=>x.1)[j]?=some k:=by rw[jh,jq d,f];exact congrArg some r
 have l:(kvs.map λx=>x.1)[i]?=some k:=by rw[jh,h];rfl
 obtain⟨A,m⟩:=iG.mp o;obtain⟨B,t⟩:=iG.mp l;have:j=i:=(List.getElem_inj n).mp (m.trans t.symm)
 lia
theorem Cj:entryFor table "dict.update.loop"=some Builtin.«dict.update.loop»:=entryFor_of_tree (by kernel_rfl)
theorem v7:plainId "dict.update.loop"=true:=by decide+kernel
section
variable{prog:yB}{w:yD}{K:Type}[DecidableEq K]{knd:KeyKind prog w K}{A:zZ}{R:Result->zY->Prop}{I l d:zW}{items:zG}{rs:List (K×zX)}{h₀:yA}{g:Array GenState}{dr:Drawn}{os:OsState}
end
def B3i(a:Env):List (Str×zW)->Prop| []=>True|p::r=>a.cells.lookup p.1=some p.2/\B3i a r
theorem B3i.get{a:Env}:∀{cl:List (Str×zW)},B3i a cl->∀{x:Str}{c:zW},cl.lookup x=some c->a.cells.lookup x=some c
 | [],_,_,_,h=>by cases h
 |(y,d)::r,h,x,c,e=>by
  rw[qd]at e;split at e
  ·rename_i hb;have b:x=y:=by simpa using hb
   cases e
   subst b;exact h.1
  ·exact B3i.get h.2 e
theorem Ce{x:Str}:∀{cl:List (Str×zW)},x∈cl.map (·.1)->∃c,cl.lookup x=some c
 | [],h=>by cases h
 |(y,d)::r,h=>by
  rw[qd]
  cases hb:(x==y)with
  |true=>exact⟨d,rfl⟩
  |false=>
   have a:x≠y:=by simpa using hb
   rcases jt.mp h with e|e
   ·exact absurd e a
   ·exact Ce e
theorem sI{xs:zC}(r:closureFor scope X.env=pure cl)(p:B3i X.env cl)(q:cl.map (·.1)=xs)(a:scope.kind=.function)(c:∀y∈scope.names,y.2≠.cell/\(y.2=.free->y.1∈xs))
  (i:∀y∈scope.names,y.2=.local->scope.names.lookup y.1=some .local):ox X scope cl where
 eq:=r
 sub:=λy d h=>p.get h
 has:=λy h=>by
  have b:y∈xs:=by
   have m:∃k,(y,k)∈(relabel scope X.env).names/\(k=.cell\/k=.free):=h.elim (λz=>(ah _ (uw z) (.inl rfl))) λz=>(ah _ (uw z) (.inr rfl));obtain⟨k,t,a⟩:=m;obtain⟨⟨n,f⟩,g,e⟩:=kg.mp t;dsimp only at e;by_cases hf:f=.free
   ·have l:n=y:=by
     split at e
     ·exact congrArg Prod.fst e
     ·exact congrArg Prod.fst e
    rw[<-l];exact(c _ g).2 hf
   ·have j:(f==NameKind.free)=false:=by simpa using hf
    simp only [j,Bool.false_and,Bool.false_eq_true,if_false]at e;have s:f=k:=congrArg Prod.snd e;subst s;rcases a with a|a
    ·exact absurd a (c _ g).1
    ·exact absurd a hf
  rw[<-q]at b;exact Ce b
 kind:=a
 ncell:=λy o=>(c y o).1
 names:=i
def B7t(X:Cx)(scope:Scope):zC->List Nat->Prop| [],[]=>True|x::xs,j::js=>(X.N[j]?=some x/\(X.env.scope.names.lookup x=some .cell\/X.env.scope.names.lookup x=some .free)/\((relabel scope X.env).names.lookup x=some .cell\/(relabel scope X.env).names.lookup x=some .free))/\B7t X scope xs js|_,_=>False
theorem B7t.get{X:Cx}{scope:Scope}:∀{xs:zC}{js:List Nat},B7t X scope xs js->xs.length=js.length/\∀(i j:Nat),js[i]?=some j->∃x,xs[i]?=some x/\X.N[j]?=some x/\(X.env.scope.names.lookup x=some .cell\/X.env.scope.names.lookup x=some .free)/\((relabel scope X.env).names.lookup x=some .cell\/(relabel scope X.env).names.lookup x=some .free)
 | [],[],_=>⟨rfl,λi j e=>by simp at e⟩
 |x::xs,j::js,h=>by
  obtain⟨e,f⟩:=B7t.get h.2;refine⟨by simp[e],λi k a=>?_⟩
  cases i with
  |zero=>simp at a;subst a;exact ah x rfl h.1
  |succ i=>exact f i k (by simpa using a)
 | [],_::_,h=>h.elim
 |_::_,[],h=>h.elim
theorem sK{xs:zC}(h:B7t X scope xs js):oQ X (N0++xs) scope (List.replicate N0.length none++js.map some):=by
 obtain⟨a,c⟩:=h.get;refine⟨by simp[a],λi k e=>?_⟩;by_cases hi:i<N0.length
 ·rw[lD (by simpa using hi),List.getElem?_replicate]at e;split at e<;>cases e
 ·rw[nP (by simpa using hi),List.length_replicate,jh]at e;obtain⟨j,g,f⟩:=oP.mp e;cases f;obtain⟨x,b,m,d,l⟩:=c _ _ g;exact ky x (by rw[nP (by lia)];exact b) m d l
abbrev FV:=@zp true true
abbrev Fp{K:Frag}{a b:zW}{xs ys:zM}{g:TG}{tb:TS}{D:nn}{Z:St}{H:Hp}(Pv:Nat->St->Hp->Prop)(e:Pv 0 Z H)(d:∀i Z H,Pv i Z H->SqL K H a xs/\SqL K H b ys)(c:xs.length=ys.length):=Au (k1:=true) (k2:=true) (g:=g) (tb:=tb) (D:=D) Pv e d (Nat.le_of_eq c)
section
variable{D:zW}
theorem sM(n:Nat)(Pv:Nat->List V->Hp->Prop)(h:Pv 0 [] (upd H D (.lst [])))(c:∀i ys H,i<n->Pv i ys H->J.go i H)(d:∀ys H,Pv n ys H->J.stop n H)
  (k:∀i ys H,i<n->Pv i ys H->∀x b,J.yld i H x b->g x Z₀ b λZ4 H4=>A3c Z₀ Z4/\te Z4 H4 λy a=>a D=some (.lst ys)/\ys.length<sizeLine/\Pv (i+1) (ys++[y]) (upd a D (.lst (ys++[y])))) (j:∀ys H,Pv n ys H->QD H):
  ∃W:Nat->Nat->Hp->Prop,(∃m,W 0 m (upd H D (.lst [])))/\∀i m H2,W i m H2->
   (J.stop i H2/\QD H2)\/(J.go i H2/\∃N:VK,(∀y a,N y a->∃xs,a D=some (.lst xs)/\xs.length<sizeLine/\∃f,f<m/\W (i+1) f (upd a D (.lst (xs++[y]))))/\
    ∀x b,J.yld i H2 x b->g x Z₀ b λZ4 H4=>A3c Z₀ Z4/\te Z4 H4 N):=by
 refine ah (λi m H=>m=n-i/\i<=n/\∃ys,Pv i ys H) (oN n (by simp) (jP _) [] h) ?_;rintro i m H2 ⟨rfl,l,ys,p⟩;by_cases hlt:i<n
 ·exact .inr (iV (c i ys H2 hlt p) (λy a=>a D=some (.lst ys)/\ys.length<sizeLine/\Pv (i+1) (ys++[y]) (upd a D (.lst (ys++[y])))) (λy a z=>(sV ys z.1 z.2.1 (n-(i+1)) (by lia) rfl hlt _ z.2.2)) λx b z=>k i ys H2 hlt p x b z)
 ·have e:i=n:=by lia
  subst e;exact .inl ⟨d ys H2 p,j ys H2 p⟩
end
theorem Al(h:X.K=K):IxR X (yc K):=h▸kd
theorem sg(h:X.K=K):IxR X (uM K):=h▸rZ
theorem wV{b:Bool}(h:mroIn K C (.type U)=some b)(a:PySem.W.kitMeta U=true):∀u,A2q (.ty U) u->kitOne K (.ref C) u=some b:=by intro u z;cases(show u=Value.type U from z);unfold kitOne;rw[fy (show¬(Value.ref C==Value.type U)=true from jD)];show(if PySem.W.kitMeta U=true then subIn K (.ref C) (.type U)else none)=some b;rw[ia a];exact h
theorem A4q.or{k:Nat}(F:A4q P w K mg base CX k f fd ps sp)(i:A4q P w K mg base CX k f fd ps sp'):
  A4q P w K mg base CX k f fd ps (λvs H Q E=>sp vs H Q E\/sp' vs H Q E):=
 ⟨λvs H Q E q=>q.elim (F.len vs H Q E) (i.len vs H Q E),λA a s H b h vs Q E e c d g q=>q.elim (F.run A a s H b h vs Q E e c d g) (i.run A a s H b h vs Q E e c d g)⟩
theorem IM(a b:zJ)(w:Key×V):lV a (b++[w])=iL (lV a b) w.1 w.2:=by unfold lV;rw[List.foldl_append];rfl
theorem AF(B:X.N.Nodup)(n:X.N[i₀]?=some x₀)(w:Loc X.env.scope x₀)(hc:X.calm=true)(ck:ox X scope cl)(io:oQ X N' scope ix)(hi:PI X tg iter wi)
  (hg:∀C f H₀ fp,PG (blk X N' scope cl C f H₀ fp) tg g) (ht:∀C f H₀ fp,PTs (blk X N' scope cl C f H₀ fp) cs tc) (he:∀C f H₀ fp,PE (blk X N' scope cl C f H₀ fp) elt te) (R:nn->St->It->Hp->Prop) (hR:∀D Z J H1,R D Z J H1->∀D2,H1 D2=none->∃W:Nat->Nat->Hp->Prop,(∃m,W 0 m (upd H1 D2 (.lst [])))/\∀i m H2,W i m H2->
   (J.stop i H2/\D.nx (Z.set i₀ (some (.ref D2))) H2)\/(J.go i H2/\∃(N:VK)(M:Hp->Prop),(∀y c,N y c->∃xs,c D2=some (.lst xs)/\xs.length<sizeLine/\∃j,j<m/\W (i+1) j (upd c D2 (.lst (xs++[y]))))/\(∀c,M c->∃j,j<m/\W (i+1) j c)/\∀x F,J.yld i H2 x F->g x (mE ix Z) F λZ4 H4=>A3c (mE ix Z) Z4/\tc Z4 H4 λb c=>if b=true then te Z4 c N else M c)) (hs:∀x,foldedSetIterable iter X.env x=pure x:=by intro _;rfl)
  (q:swapsWith (.ListComp elt [⟨tg,iter,cs,0⟩] scope pos) (some (.Name x₀ pos₀)) spos.line X.env=pure true:=by rfl) (u:X.fn x₀=true\/X.env.scope.names.lookup x₀=some .local:=by first|exact .inl rfl|exact .inr rfl|assumption):
  PS X (.Assign [.Name x₀ pos₀] (.ListComp elt [⟨tg,iter,cs,0⟩] scope pos) spos) (λD Z H=>wi Z H (R D Z)):=by
 intro k s Z H D₀ I h;rw[exec_Assign_Name_used _ _ _ _ q];refine cz (wf (cz ?_));show wpAny _ X.A (do let _<-comprehension (.ListComp elt [⟨tg,iter,cs,0⟩] scope pos) scope X.env _ (newList []) false (eval iter X.env) (some (assign (.Name x₀ pos₀) X.env))) _ _ s;refine cz (lR (Bz (use:=some (assign (.Name x₀ pos₀) X.env)) (I.ok.hd hc) ck io hi hg ht he hs (S:=λD2 H2=>D₀.nx (Z.set i₀ (some (.ref D2))) H2) (hR D₀ Z) (Qf:=λ_ G=>∃Z' K,Inv X k Z' K G/\D₀.nx Z' K) (λD C c s6 x T hm d Io=>?_) I h) (λ_ G hq=>hE (hE hq)) λ_ _ e=>e);have Io:=Io _ (Heap.SameBut.refl _ _);show wpAny _ X.A (assign (.Name x₀ pos₀) X.env (.ref D)) _ _ s6;refine wpAny_assign_Name (AU Io B n w (v:=.ref D) rfl (λQ I7 t=>?_) u);obtain⟨a,Y,l⟩:=t
 have ca:C≠a:=by
  rcases l with l|l
  ·rw[l];exact d.2.1
  ·exact λz=>d.2.2.2.2.1 _ _ l z.symm
 obtain⟨E,P,O,L,U,r⟩:=hm;exact ah E (ku P O L ((Y.2 _ ca).trans U) r) λh' p=>(jV _ c (I7.turned (t':=Q.toks) (λb o hb e=>(p.2 b hb).trans e) d.1 d.2.1 d.2.2.2.1 d.2.2.2.2.1 d.2.2.2.2.2) T)
theorem vz(j:X.N.Nodup)(e:X.N[i₀]?=some x₀)(f:Loc X.env.scope x₀)(s:X.calm=true)(p:ox X scope cl)(r:oQ X N' scope ix)(hi:PI X tg iter wi)
  (o:∀C c H₀ fp,PG (blk X N' scope cl C c H₀ fp) tg g) (u:∀C c H₀ fp,PE (blk X N' scope cl C c H₀ fp) elt te) (t:∀x,foldedSetIterable iter X.env x=pure x:=by intro _;rfl)
  (k:swapsWith (.ListComp elt [⟨tg,iter,[],0⟩] scope pos) (some (.Name x₀ pos₀)) spos.line X.env=pure true:=by rfl) (d:X.fn x₀=true\/X.env.scope.names.lookup x₀=some .local:=by first|exact .inl rfl|exact .inr rfl|assumption):
  PS X (.Assign [.Name x₀ pos₀] (.ListComp elt [⟨tg,iter,[],0⟩] scope pos) spos) (tz (wQ ix wi g te) (nX i₀)):=
 AF (tc:=λ_ H Q=>Q true H) j e f s p r hi o (λ_ _ _ _ _ _ _ _ _ I h=>wpAny_tests_nil (ah _ I h)) u _ (λ_ _ _ _ R l q=>by
  obtain⟨W,n,a⟩:=R l q;refine ah W n λi m v w=>(a i m v w).imp id λ⟨y,N,A,b⟩=>(jN y N (λ_=>False) A (λ_ z=>z.elim) ?_)
  simpa using b) t k d
theorem Gs{c:yC}(i:X.N.Nodup)(e:X.N[i₀]?=some x₀)(f:Loc X.env.scope x₀)(m:X.calm=true)(k:ox X scope cl)(l:oQ X N' scope ix)(hi:PI X tg iter wi)
  (q:∀C a H₀ fp,PG (blk X N' scope cl C a H₀ fp) tg g) (p:∀C a H₀ fp,PT (blk X N' scope cl C a H₀ fp) c tc) (o:∀C a H₀ fp,PE (blk X N' scope cl C a H₀ fp) elt te) (n:∀x,foldedSetIterable iter X.env x=pure x:=by intro _;rfl)
  (j:swapsWith (.ListComp elt [⟨tg,iter,[c],0⟩] scope pos) (some (.Name x₀ pos₀)) spos.line X.env=pure true:=by rfl) (d:X.fn x₀=true\/X.env.scope.names.lookup x₀=some .local:=by first|exact .inl rfl|exact .inr rfl|assumption):
  PS X (.Assign [.Name x₀ pos₀] (.ListComp elt [⟨tg,iter,[c],0⟩] scope pos) spos) (tz (xf ix wi g tc te) (nX i₀)):=
 AF i e f m k l hi q (λC a H₀ fp b s Z H Q I h=>wpAny_tests_one (p C a H₀ fp b s Z H Q I h)) o _ (λ_ _ _ _ R=>R) n j d
theorem Bg{xs:zM}{its:zH}(r:A2d xs its):∀js:List Nat,A2d (js.filterMap (xs[·]?)) (js.filterMap (its[·]?))
 | []=>.nil
 |j::js=>by
  have d:=r.length;have t:=Bg r js
  cases hx:xs[j]? with
  |none=>
   have b:its[j]?=none:=by rw[List.getElem?_eq_none_iff]at hx⊢;lia
   rw[List.filterMap_cons_none hx,List.filterMap_cons_none b];exact t
  |some x=>obtain⟨u,c,a⟩:=r.get hx;rw[List.filterMap_cons_some hx,List.filterMap_cons_some c];exact .cons a t
def v9(K:Frag)(te:TE)(tl th:TO)(ts:TE):TE:=λZ H Q=>te Z H λx e=>tl Z e λl g=>th Z g λu f=>ts Z f λy d=>∃a c i k,x=.ref a/\l=some i/\u=none/\y=.int k/\0<=i/\0<k/\SqL K d a c/\∀p b,d p=none->b.length<=c.length->(∀z∈b,z∈c)->Q (.ref p) (upd d p (.lst b))
theorem Gh{a k:Int}(d:0<=a)(b:0<k):((if k>0 then (if a<(n:Int)then ((n:Int)-a+k-1)/k else 0)else (if a>(n:Int)then (a-(n:Int)-k-1)/(-k)else 0)):Int).toNat<=n:=by
 rw[ia b];split
 ·have c:((n:Int)-a+k-1)/k<=(n:Int)-a:=by
   have e:(n:Int)-a+k-1=((n:Int)-a-1)+1*k:=by lia
   rw[e,Int.add_mul_ediv_right _ _ (by lia)];have:=Int.ediv_le_self k (show 0<=(n:Int)-a-1 by lia)
   lia
  lia
 ·exact jP _
theorem Gw{e st:yC}{lo hi:Option yC}{ts:TE}{tl th:TO}(he:PE X e te)(M:PO X lo tl)(O:PO X hi th)(C:PE X st ts):PE X (.Subscript e (.Slice lo hi (some st) p2) pos) (v9 X.K te tl th ts):=by
 intro d s Z H Q I h;refine Subscript_ (thn (he d s Z H _ I h) ?_);rintro v s1 ⟨x,Y,I1,r1,q1⟩;refine wpAny_Slice (thn (M d s1 Z Y _ I1 q1) ?_);rintro L s2 ⟨l,S,I2,pl,U⟩;refine thn (O d s2 Z S _ I2 U) ?_;rintro G s3 ⟨u,H3,I3,W,q3⟩;rw[evalPart_some];refine thn (C d s3 Z H3 _ I3 q3) ?_;rintro E f ⟨y,H4,I4,P,D⟩;refine jy D ?_;clear D;rintro a g i k rfl rfl rfl ⟨rfl,h0,n,hq,q⟩;cases r1;obtain⟨B,rfl⟩:=(show∃t,E=Value.int k t from P);have I5:Inv X d Z H4 {f with heap:=f.heap.push {cls:=.type "slice",data:=.fields #[L,G,.int k B]}}:=I4.kept (t':=f.toks) λb ob q=>iB _ q
 obtain⟨c,r,J,hz⟩:=I5.list hq;have F:=r.length;show wpAny (model X.prog X.w) X.A (subscriptTail e (.Slice lo hi (some st) p2) (.ref a) (.ref f.heap.objs.size)) (EP X d Z Q) X.xe {f with heap:=f.heap.push {cls:=.type "slice",data:=.fields #[L,G,.int k B]}};refine tail_any (ops:=[.ref a,.ref f.heap.objs.size]) (T:="list") J.isList.typeIs slot_list_getitem.lookup ?_ (by with_unfolding_all rfl);refine wpAny_getItem_list_slice J.isList (Heap.IsSliceOf.new ..) pl W (.int k B) (by intro z;cases z;lia) ?_ (by rw[jK]<;>lia);generalize hjs:sliceRange (sliceBounds (some i) none (some k) c.toArray.size).1 (sliceBounds (some i) none (some k) c.toArray.size).2.1 (sliceBounds (some i) none (some k) c.toArray.size).2.2=js
 have hp:slicePick c.toArray (some i) none (some k)=(js.filterMap (c[·]?)).toArray:=by unfold slicePick;rw[hjs];simp
 have N:js.length<=c.length:=by
  rw[<-hjs];have b1:(sliceBounds (some i) none (some k) c.toArray.size).2.1=((c.length:Nat):Int):=by simp[sliceBounds,n]
  have R:(sliceBounds (some i) none (some k) c.toArray.size).2.2=k:=by simp[sliceBounds]
  have b3:0<=(sliceBounds (some i) none (some k) c.toArray.size).1:=by
   simp only [sliceBounds,Option.getD_some,n,if_true,show¬i<0 by lia,if_false]
   lia
  rw[b1,R];unfold sliceRange;rw[hA,List.length_range];exact Gh b3 n
 rw[hp]
 have m:(js.filterMap (g[·]?)).length<=g.length:=by
  have:=List.length_filterMap_le (g[·]?) js
  lia
 refine fx (.ref _) _ (I5.laid (t':=f.toks) (o:=.lst (js.filterMap (g[·]?))) (λb ob q=>iB _ q) (ig _) ?_) rfl (q _ _ (I5.hok.fresh (ig _)) m λz p=>?_)
 ·exact mw (by lia) _ 0 (Bg r js) (jw _ rfl)
 ·obtain⟨j,_,e⟩:=List.mem_filterMap.mp p;exact iZ e
theorem ud(F:X.calm=true):oB X (.builtin "sum") (λvs H Q=>∃(a:zW)(d:zI),vs=[V.ref a]/\SqL X.K H a (d.map V.int)/\∀i:Int,Q (.int i) H):=by
 intro B s Z H vs P Q I r h;obtain⟨a,d,rfl,M,q⟩:=h;obtain⟨u,rfl,p⟩:=ph r;cases p;have J:X.A.handled=none:=I.ok.hd F;obtain⟨c,t,k,_⟩:=I.list M;have z:a<s.heap.objs.size:=let⟨_,e,_⟩:=k.isList;iI e;refine call_sum_walkAnyS (wpAny_pyIter_list k.isList ?_);refine lj s.heap.objs.size [s.heap.objs.size,a] [s.heap.objs.size] (jk (λa b=>b=a) c.toArray.size (λi v=>c.toArray[i]?=some v) (λi g=>g.heap.IsListIter s.heap.objs.size a i/\g.heap.IsList a c.toArray) (λi=>d.getD i 0) rfl ((Walks.list (prog:=X.prog) (w:=X.w) (A:=X.A.in1) (by simpa using J) s.heap.objs.size a (jJ z) c.toArray).toS) ⟨(hH _ (jw _ rfl) rfl rfl),k.isList.push _⟩ (λb y=>?_) (λi v j=>?_) λg t' f=>?_)
 ·simp only [jt,my,or_false]at y;show b<(s.heap.push _).objs.size;rw[ot];rcases y with rfl|rfl
  ·exact Nat.lt_succ_self _
  ·exact Nat.lt_succ_of_lt z
 ·have j:c[i]?=some v:=by simpa using j
  have l:i<(d.map V.int).length:=by rw[t.length];exact(iG.mp j).1
  have D:(d.map V.int)[i]?=some (V.int (d.getD i 0)):=by rw[hA]at l;rw[jh,jq l];simp[l]
  obtain⟨u,x,p⟩:=t.get D;rw[j]at x;cases x;exact p
 ·obtain⟨h',O,G,n,m⟩:=g;have C:O=s.gens:=f.gens;have N:G=s.drawn:=f.drawn;have L:m=s.os:=f.os;subst C N L;refine fx (.int _) H (I.kept (t':=n) (h':=h') λb o e=>f.heap b o (by simpa using jJ (iI e)) (iB _ e)) ⟨t',rfl⟩ (q _)
def tE(K:Frag)(a:zW):It :=
 ⟨λi H=>∃b x,SqL K H a b/\b[i]?=some x,
  λi H v c=>∃p,H p=none/\v=.ref p/\∃x,(∀b,SqL K H a b->b[i]?=some x)/\c=upd H p (.tup [.int (i:Nat),x]),
  λi H=>∃b,SqL K H a b/\b.length<=i⟩
def EnSt(e it a:zW)(i:Nat)(h:yA):Prop:=(∃b,IsEnum h e it (i:Nat) b)/\h.IsListIter it a i
theorem GE{e:zW}(N:e≠it):C3f P w K (.Tuple elts kk pos) (tE K a) [e,it] e (EnSt e it a) where
 mem:=by simp
 obj:=λi h j c b=>by
  obtain⟨⟨d,f⟩,l⟩:=j;simp only [jt,my,or_false]at b;rcases b with rfl|rfl
  ·exact ah _ f λv z=>by cases(show Data.fields _=Data.cell v from z)
  ·obtain⟨o,S,_,W⟩:=l;exact ah o S λv z=>by rw[W]at z;cases z
 keep:=λi h A j k=>by obtain⟨⟨d,f⟩,l⟩:=j;exact⟨⟨d,k e (by simp) _ f⟩,l.at λo z=>k it (by simp) o z⟩
 item:=by
  intro X L C D b i m s Z H E I n j M;subst L C D;obtain⟨xs,x,p,y⟩:=M;obtain⟨G,t,r,_⟩:=I.list p;obtain⟨u,R,ru⟩:=t.get y;obtain⟨⟨d,f⟩,l⟩:=j;refine wpAny_pyNext_enum_item f l r.isList (x:=u) (by simpa using R) N λA Y T z3 z4 F=>?_;refine ah _ rfl (wpAny_letOwnedTupleGo_enum (s:={s with heap:=A,toks:=s.toks+1}) Y λg zg B=>?_)
  have O:s.heap.objs.size≠e:=lH (iI f);have U:it<s.heap.objs.size:=let⟨_,q,_⟩:=l;iI q;have Q:g.get? s.heap.objs.size=some {cls:=.type "tuple",data:=.seq #[.int i s.toks,u]}:=B.extBut _ _ O z3
  have I1:Inv X m Z (upd H s.heap.objs.size (.tup [.int (i:Nat),x])) {s with heap:=g,toks:=s.toks+1}:=I.turnedNew (ts:=[e,it]) (λc o b q=>by
   simp only [jt,my,or_false,not_or]at b
   exact B.extBut _ _ b.1 (F c o b.1 b.2 q)) n (ig _) (iV (by show 2<=sizeLine;decide) [.int i s.toks,u] (.cons ⟨_,rfl⟩ (.cons ru .nil)) (oN _ Q rfl _ rfl))
  refine⟨.ref s.heap.objs.size,_,I1,rfl,⟨_,I.hok.fresh (ig _),rfl,x,λzs hz=>by rw[I.list_inj hz p];exact y,rfl⟩,⟨⟨_,zg⟩,T.at λo q=>B.extBut _ _ N.symm q⟩,λc b=>?_⟩
  have J:c≠s.heap.objs.size:=by
   simp only [jt,my,or_false]at b;rcases b with rfl|rfl
   ·exact O.symm
   ·exact jJ U
  rw[dV J];exact(n c b).1
 done:=by
  intro X L C D b i m s Z H E I n j M;subst L C D;obtain⟨xs,p,y⟩:=M;obtain⟨G,t,r,_⟩:=I.list p;have e1:=t.length;obtain⟨⟨d,f⟩,l⟩:=j;refine wpAny_pyNext_enum_end b f l r.isList (by simp;lia) λA F=>⟨rfl,?_⟩
  exact I.turnedL (t':=s.toks) (ts:=[e,it]) (λc o b q=>by
   simp only [jt,my,or_false,not_or]at b
   exact F c o b.2 q) n
 self:=λ_ _ _ _ _ j h=>by obtain⟨⟨d,f⟩,_⟩:=j;exact wpAny_pyIter_enum f h
def Cs(K:Frag)(ta:TA):TI:=λZ H R=>ta Z H λc b=>∃a d,c=[.ref a]/\SqL K b a d/\R (tE K a) b
theorem xi{a:yC}{p:Pos}(A:Gl X "enumerate")(r:X.mg "enumerate"=none)(B:PA X [a] ta)(x:starEach [a] X.env=[(false,eval a X.env)]:=by rfl):
  PI X (.Tuple elts kk tpos) (.Call (.Name "enumerate" p) [a] [] pos) (Cs X.K ta):=by
 intro b s Z H R I h;refine Call_ (oF I A r boot_enumerate (PyProof.Rows.callWith_type1 (thn (B pos b s Z H _ I h) ?_) (by rw[x];rfl) (by rfl)));rintro J f ⟨D,i,I1,t,m⟩;obtain⟨l,F,e,y,q⟩:=m;subst e;obtain⟨u,rfl,z⟩:=ph t;cases z;obtain⟨v,C,k,_⟩:=I1.list y;refine call_enumerate_list k.isList λn g o G w=>wpAny_pyIter_enum g ?_;have I2:Inv X b Z i {f with heap:=n}:=I1.kept (t':=f.toks) w;refine jk _ [f.heap.objs.size+1,f.heap.objs.size] _ _ i rfl I2 (GE (lH (Nat.lt_succ_self _))) ⟨⟨_,g⟩,o⟩ (λc j=>?_) q
 have d:f.heap.objs.size<=c:=by
  simp only [jt,my,or_false]at j;rcases j with rfl|rfl
  ·exact Nat.le_succ _
  ·exact ig _
 exact I1.fpOk d (I1.hok.fresh d)
theorem xu{xs:zM}(Pv:Nat->St->Hp->Prop)(h:Pv 0 Z H)(d:∀i Z H,Pv i Z H->SqL K H a xs)
  (k:∀i x Z H p,xs[i]?=some x->Pv i Z H->H p=none->g (.ref p) Z (upd H p (.tup [.int (i:Nat),x])) λZ2 H2=>tb {D with nx:=Pv (i+1),ct:=Pv (i+1),bk:=D.nx} Z2 H2) (n:∀Z H,Pv xs.length Z H->D.nx Z H):
  ∃W:Nat->Nat->St->Hp->Prop,(∃m,W 0 m Z H)/\∀i m Z H,W i m Z H->
   ((tE K a).stop i H/\D.nx Z H)\/((tE K a).go i H/\∃N:St->Hp->Prop,(∀Z' H',N Z' H'->∃b,b<m/\W (i+1) b Z' H')/\∀x H',(tE K a).yld i H x H'->g x Z H' λZ2 H2=>tb {D with nx:=N,ct:=N,bk:=D.nx} Z2 H2):=by
 refine ah (λi m Z H=>m=xs.length-i/\i<=xs.length/\Pv i Z H) (hH xs.length (by simp) (jP _) h) ?_;rintro i m Z H ⟨rfl,o,p⟩;have q:=d i Z H p;by_cases hlt:i<xs.length
 ·refine .inr (iV (jV xs _ q (jq hlt)) (Pv (i+1)) (λZ' H' l=>(ky (xs.length-(i+1)) (by lia) rfl hlt l)) λv H' y=>?_);obtain⟨c,j,rfl,x,f,rfl⟩:=y;exact k i x Z H c (f xs q) p j
 ·have e:i=xs.length:=by lia
  subst e;exact .inl ⟨(ah xs q (ig _)),n Z H p⟩
def oR(v d:zW):HO:=.ext λh=>h.IsValuesView v d
theorem AI{v:zW}(e:h.IsValuesView v d):A1s P w H h v (oR v d):=(hQ e (let⟨o,a,_⟩:=e;⟨o,a⟩) (by rintro c f ⟨o,a,b⟩ k;exact ah o (k o a) b))
def Ev:V->List V->Hp->VK->Prop:=λx c H Q=>∃a b,x=.ref a/\c=[]/\H a=some (.dK b)/\∀p,H p=none->Q (.ref p) (upd H p (oR p a))
theorem Gy:MtR X "dict.values" Ev:=by intro f s Z H x n v r Q I i j h;obtain⟨a,d,rfl,rfl,m,q⟩:=h;cases i;cases j;obtain⟨p,l,g,k,c⟩:=(show A1s X.prog X.w H s.heap a (.dK d) from I.hok a _ m);refine call_meetsIn PySem.F.slot_dict_values c.typeIs PySem.F.entry_dict_values (PySem.F.args_dict_values_1 _) (meets_dict_values (jG X.prog X.w) a l) ⟨⟨g,c⟩,?_⟩;exact fx (.ref s.heap.objs.size) _ (I.laid (t':=s.toks) (o:=oR s.heap.objs.size a) (λb u e=>iB _ e) (ig _) (AI (hH _ (jw _ rfl) rfl rfl))) rfl (q _ (I.hok.fresh (ig _)))
def tD(a:zW)(o:Obj)(kvs:zJ):It :=⟨λi H=>H a=some (.frz o (.dK kvs))/\i<kvs.length,λi H x b=>b=H/\∃k,kvs[i]?=some (k,x),λi H=>H a=some (.frz o (.dK kvs))/\i=kvs.length⟩
theorem IQ(it a:zW)(o:Obj)(kvs:zJ)(es:Array DictEntry)(ep:Nat)(N:o.data=.dict es ep):
  C3f P w K tg (tD a o kvs) [it] it (λi h=>h.IsValIter it a i kvs.length ep) where
 mem:=by simp
 obj:=λi h f b m=>by
  have e:b=it:=by simpa using m
  subst e;obtain⟨l,e,_,d⟩:=f;exact ah l e λv z=>by rw[d]at z;cases z
 keep:=λi h r f k=>f.at λl e=>k it (by simp) l e
 item:=by
  intro X G A D Q i j s Z H E I t f J;subst G A D;obtain⟨L,O⟩:=J;obtain⟨F,C,W,M,y,x⟩:=t it (by simp);obtain⟨_,T,g,B⟩:=vy I.hok L N;have q:=g.length;obtain⟨⟨k,v⟩,hkv⟩:∃p,kvs[i]?=some p:=⟨kvs[i],by simp[O]⟩;obtain⟨u,R,Y⟩:=g.at hkv;rw[q]at f;refine wpAny_pyNext_values_item f B R λr n S=>?_;have I1:Inv X j Z H {s with heap:=r,toks:=s.toks}:=I.turned (t':=s.toks) (λb l m e=>(S.2 b m).trans e) F C M y x
  obtain⟨l,e,c,d⟩:=id n;exact ah u rfl (re (s:={s with heap:=r}) e c d (by decide) (jA v H I1 Y (jI rfl k hkv) (by rw[q];exact n) λb m=>(t b m).1))
 done:=by intro X G A D Q i j s Z H E I t f J;subst G A D;obtain⟨L,O⟩:=J;obtain⟨F,C,W,M,y,x⟩:=t it (by simp);obtain⟨_,T,g,B⟩:=vy I.hok L N;have q:=g.length;rw[q]at f;exact wpAny_pyNext_values_end Q f B (by simp;lia) λr U=>⟨rfl,I.turned (t':=s.toks) (λb l m e=>U b l m e) F C M y x⟩
 self:=λ_ _ _ _ _ f h=>wpAny_pyIter_valiter f h
def D9(tl:TE):TI:=λZ H R=>tl Z H λx c=>∃v a b,x=.ref v/\c v=some (oR v a)/\c a=some (.dK b)/\∀o,R (tD a o b) (upd c a (.frz o (.dK b)))
theorem Gx{l:yC}(y:PE X l tl):PI X tg l (D9 tl):=by
 intro c s Z H R I h;refine thn (y c s Z H _ I h) ?_;rintro u d t;refine oY t ?_;clear t;rintro x n I1 z v a f ⟨D,F,g,q⟩;subst D;cases z;obtain⟨G,_⟩:=(show A1s X.prog X.w n d.heap v (oR v a) from I1.hok v _ F);refine mj (rT I1.hok g) ?_;rintro K L p i o j ep k ⟨A,m,r⟩;have B:d.heap.DictAt (jG X.prog X.w) a p ep:=(iO o j k A m r);refine wpAny_pyIter_values G B ?_;have I2:Inv X c Z n {d with heap:=d.heap.push {cls:=.type "dict_valueiterator",data:=.fields #[.ref a,.int 0 0,.int p.length 0,.int ep 0]},toks:=d.toks}:=I1.kept λb J e=>iB _ e
 have I3:=I2.frozen g (iB _ k);refine jk _ [d.heap.objs.size] _ _ _ rfl I3 (IQ _ a o f j ep m) ?_ (λb C=>?_) (q o)
 ·rw[i.length];exact hH _ (jw _ rfl) rfl rfl
 ·have e:b=d.heap.objs.size:=by simpa using C
  subst e;refine I1.fpOk (ig _) ?_;rw[dV (lH (I1.hok.lt g))];exact I1.hok.fresh (ig _)
theorem Id(Pv:Nat->St->Hp->Prop)(f:Pv 0 Z H)(b:∀i Z H,Pv i Z H->H a=some (.frz o (.dK kvs)))
  (j:∀i k v Z H,kvs[i]?=some (k,v)->Pv i Z H->g v Z H λZ2 H2=>tb {D with nx:=Pv (i+1),ct:=Pv (i+1),bk:=D.nx} Z2 H2) (h:∀Z H,Pv kvs.length Z H->D.nx Z H):
  ∃W:Nat->Nat->St->Hp->Prop,(∃m,W 0 m Z H)/\∀i m Z H,W i m Z H->
   ((tD a o kvs).stop i H/\D.nx Z H)\/((tD a o kvs).go i H/\∃N:St->Hp->Prop,(∀Z' H',N Z' H'->∃c,c<m/\W (i+1) c Z' H')/\∀x H',(tD a o kvs).yld i H x H'->g x Z H' λZ2 H2=>tb {D with nx:=N,ct:=N,bk:=D.nx} Z2 H2):=by
 refine ah (λi m Z H=>m=kvs.length-i/\i<=kvs.length/\Pv i Z H) (hH kvs.length (by simp) (jP _) f) ?_;rintro i m Z H ⟨rfl,n,p⟩;by_cases hlt:i<kvs.length
 ·refine .inr (iV ⟨b i Z H p,hlt⟩ (Pv (i+1)) (λZ' H' d=>(ky (kvs.length-(i+1)) (by lia) rfl hlt d)) λx H' y=>?_);obtain⟨e,k,l⟩:=y;subst e;exact j i k x Z _ l p
 ·have e:i=kvs.length:=by lia
  subst e;exact .inl ⟨⟨b _ Z H p,rfl⟩,h Z H p⟩
def DF(X:Cx)(t:TE):TE:=λZ H Q=>t Z H λv c=>∃a o b,c a=some (.frz o (.dK b))/\(∀e d,X.H₀ a≠some (.frz e d))/\Q v (upd c a (.dK b))
theorem AL{e:yC}{t:TE}(h:PE X e t):PE X e (DF X t):=λb s Z H Q I q=>thn (h b s Z H _ I q) (by (rintro u k d;refine oY d ?_;clear d;rintro v l I1 f a o c ⟨j,g,i⟩);exact fx v _ (I1.thaw j ⟨c,rfl⟩ g) f i)
def tG(h:yA)(d:zW)(es:Array DictEntry)(ep:Nat):Prop:=∃o,h.get? d=some o/\o.ExactDict/\o.data=.dict es ep
theorem Ji(d:zW)(a:(d==sysModules)=false):
  MeetsIn prog w (Builtin.«dict.values» ⟨[.ref d],[]⟩) (λ_ R s=>s.TypeIs (.ref d) "dict"/\R (.ok (.ret (.ref s.heap.objs.size))) {s with heap:=s.heap.push {cls:=.type "dict_values",data:=.fields #[.ref d]}}):=
 .of_wp λA R s ⟨b,q⟩=>by unfold Builtin.«dict.values»;refine cz ?_;unfold Builtin.Dict.noArgs;refine cz (wpAny_notOrdered_dict b ?_);show wpAny _ _ (pure d) _ _ s;refine hE ?_;show wpAny _ _ (Builtin.Dict.showsAll d>>=_) _ _ s;unfold Builtin.Dict.showsAll;rw[fy (by rw[a];exact jD)];exact cz (hE (cz (nQ (hE (ah _ rfl q)))))
theorem IX{v:zW}{Q:zA}(h1:s.heap.IsValuesView v d)(h2:tG s.heap d es ep)
  (q:Q (.ref s.heap.objs.size) {s with heap:=s.heap.push {cls:=.type "dict_valueiterator",data:=.fields #[.ref d,.int 0 0,.int es.size 0,.int ep 0]}}):wpAny (model prog w) A (pyIter (.ref v)) Q E s:=by
 obtain⟨f,e,g,c⟩:=id h1;obtain⟨h,b,_,a⟩:=h2;refine wpAny_pyIter_slot h1.typeIs F.slot_dict_values_iter (mn F.slot_dict_values_iter h1.typeIs F.entry_dict_values_iter ?_ (F.args_dict_values_iter_1 _));unfold Builtin.«dict_values.__iter__»;refine cz (hE (cz ?_));unfold Builtin.Dict_items.dictOf;refine cz (jQ e c (x:=.ref d) rfl (hE (cz ?_)));unfold Builtin.Dict_items.newIterator;refine cz (wpAny_dictEntries b a (cz (wpAny_dictEpoch b a ?_)));simp only [show Builtin.Dict_items.ownsTuple "dict_valueiterator"=false by decide,Bool.false_eq_true,if_false];refine nQ (hE (ii _ rfl "dict_valueiterator" _ (ah _ (jw _ rfl) rfl) F.slot_dict_valueiterator_next.lookup ?_))
 simpa[rawInt]using q
theorem IS{e:DictEntry}(h1:s.heap.IsValIter it d i es.size ep)(h2:tG s.heap d es ep)(l:es[i]?=some e)
  (q:∀h',h'.IsValIter it d (i+1) es.size ep->Heap.SameBut it s.heap h'->Q (some e.val) {s with heap:=h'}):wpAny (model prog w) A (pyNext (.ref it)) Q E s:=by
 obtain⟨o,g,k,f⟩:=id h1;obtain⟨m,j,_,h⟩:=h2;have c:=h1.typeIs;unfold pyNext;refine cz (wpAny_attempt (nA (name:=Str.ofString "__next__") c F.slot_dict_valueiterator_next (mn F.slot_dict_valueiterator_next c F.entry_dict_valueiterator_next ?_ (F.args_dict_valueiterator_next_1 _))));refine cz (hE (cz (cz ?_)));refine cz (wpAny_typeNameOfWhole_valiter c (hE (cz (wpAny_fieldsOf g f ?_))));simp only [show Builtin.Dict_items.ownsTuple "dict_valueiterator"=false by decide,Bool.false_eq_true,if_false];show wpAny _ _ (ite ((Value.ref d==Value.none)=true) _ _) _ _ _;rw[fy (show¬((Value.ref d==Value.none)=true) from jD)];refine cz (hE (cz (wpAny_dictEntries j h ?_)));rw[fy (by simp)];refine cz (hE (cz (wpAny_dictEpoch j h ?_)));rw[fy (by simp)];refine hE ?_;simp only [show¬((i:Int)<0) from by lia,if_false,Int.toNat_natCast,l];refine cz (cz (wpAny_typeNameOfWhole_valiter c (hE (cz (wpAny_isOneOf_valiter c ?_)))));show wpAny _ _ (setField (.ref it) 1 (rawInt ((i:Int)+1))>>=_) _ _ s;refine cz (qg g f (by simp) ?_)
 have a:(s.heap.update it (Obj.mapFields (·.setIfInBounds 1 (rawInt ((i:Int)+1))))).IsValIter it d (i+1) es.size ep :=(hH _ (rL _ g (Obj.isFreed_of_fields (Obj.data_mapFields f _))) ((Obj.cls_mapFields ..).trans k) (by rw[Obj.data_mapFields f];simp[rawInt]))
 have b:Shared.TypeIs {s with heap:=s.heap.update it (Obj.mapFields (·.setIfInBounds 1 (rawInt ((i:Int)+1))))} (.ref it) "dict_valueiterator":=a.typeIs;refine cz (ny (cz (wpAny_isOneOf_valiter b (cz (wpAny_isOneOf_valiter b ?_)))));show wpAny _ _ (pure e.val) _ _ _;exact hE (hE (ah _ rfl (hE (q _ a (Heap.SameBut.update ..)))))
theorem Ih(j:A.handled=none)(h1:s.heap.IsValIter it d i es.size ep)(h2:tG s.heap d es ep)(k:es.size<=i)
  (q:∀h',Heap.ExtBut it s.heap h'->Q none {s with heap:=h'}):wpAny (model prog w) A (pyNext (.ref it)) Q E s:=by
 obtain⟨o,g,l,e⟩:=id h1;obtain⟨n,h,_,f⟩:=h2;have c:=h1.typeIs;unfold pyNext;refine cz (wpAny_attempt (nA (name:=Str.ofString "__next__") c F.slot_dict_valueiterator_next (mn F.slot_dict_valueiterator_next c F.entry_dict_valueiterator_next ?_ (F.args_dict_valueiterator_next_1 _))));refine cz (hE (cz (cz ?_)));refine cz (wpAny_typeNameOfWhole_valiter c (hE (cz (wpAny_fieldsOf g e ?_))));simp only [show Builtin.Dict_items.ownsTuple "dict_valueiterator"=false by decide,Bool.false_eq_true,if_false];show wpAny _ _ (ite ((Value.ref d==Value.none)=true) _ _) _ _ _;rw[fy (show¬((Value.ref d==Value.none)=true) from jD)];refine cz (hE (cz (wpAny_dictEntries h f ?_)));rw[fy (by simp)];refine cz (hE (cz (wpAny_dictEpoch h f ?_)));rw[fy (by simp)];refine hE ?_;simp only [show¬((i:Int)<0) from by lia,if_false,Int.toNat_natCast,Array.getElem?_eq_none k];refine cz (cz (wpAny_typeNameOfWhole_valiter c (hE ?_)));show wpAny _ _ (setField (.ref it) 0 .none>>=_) _ _ _;refine cz (qg g e (by simp) ?_);show wpAny _ _ (newExc (.type "StopIteration") []>>=_) _ _ (_:zY);refine cz ?_;simp only [newExc,newTuple];refine cz (nQ (cz (m:=firstArgMember _ _) (wpAny_of_eq (a:=Value.none) (by first|rfl|(simp only [firstArgMember];rfl)) (nQ ?_ (by size_fits)))) (by size_fits));simp only [raiseNew];refine cz (wpAny_handled ?_);rw[show A.in1.handled=none from j];refine cz (hE (wpAny_throw ?_));refine cz (wpAny_isInstance (T:="StopIteration") (b:=true) (ah _ (jw _ rfl) rfl) isSubtype_stop (hE ?_));exact q _ (((Heap.SameBut.update ..).extBut.push _).push _)
def yQ(H:Hp)(a:zW)(vs:zM):Prop:=(∃b,Rd H a (.dK b)/\vs=b.map (·.2))\/∃b,Rd H a (.dT b)/\vs=b.map (·.2)
theorem y4:∀{kvs:zJ}{a:List (Key×zX)},KV kvs a->A2d (kvs.map (·.2)) (a.map (·.2))|_,_,.nil=>.nil|_,_,.cons r t=>.cons r.2 (y4 t)
theorem yW{P:yB}{w:yD}{H:Hp}:∀{kvs:List (List Key×V)}{xs:List (List Key×zW×zX)},Paired (λ(p:List Key×V)(q:List Key×zW×zX)=>p.1=q.1/\H q.2.1=some (.tup (p.1.map kV))/\A2q p.2 q.2.2) kvs xs->
  A2d (kvs.map (·.2)) (xs.map ((λx:DictEntry=>x.val)∘entryOfKey (tupleKind (jG P w))))
 |_,_,.nil=>.nil
 |_,_,.cons r t=>.cons r.2.2 (yW t)
theorem xO{vs:zM}(I:Inv X pins Z H s)(h:yQ H a vs):
  vs.length<=sizeLine/\(a==sysModules)=false/\∃es ep,tG s.heap a es ep/\A2d vs (es.toList.map (·.val)):=by
 rcases h with ⟨d,e,rfl⟩|⟨d,e,rfl⟩
 ·refine mj (tJ I.hok e) ?_;rintro z g b c o es ep k ⟨j,l,v,p,r⟩;refine⟨by rw[hA];exact z,(mw g es ep (hH o k j l) ?_)⟩
  have:es.toList.map (·.val)=b.map (·.2):=List.ext_getElem? λi=>by
   rw[jh,jh];have t:=p.length;by_cases hi:i<es.toList.length
   ·have f:i<b.length:=by lia
    have m:es.toList[i]?=some es.toList[i]:=jq hi;have n:b[i]?=some b[i]:=jq f;rw[m,n];have:=(p.get? (i:=i) (e:=es.toList[i]) m (show b[i]?=some (b[i].1,b[i].2) from n)).2;show some es.toList[i].val=some b[i].2;rw[this]
   ·rw[List.getElem?_eq_none (by lia),List.getElem?_eq_none (by lia)];rfl
  rw[this];exact y4 c
 ·refine mj (show A1s X.prog X.w H s.heap a (.dT d) from wF I.hok e) ?_;rintro z g u c o es ep k ⟨j,l,q,_⟩;refine⟨by rw[hA];exact z,(mw g es ep (hH o k j l) ?_)⟩;rw[q,List.map_map];exact yW c
def FT:V->List V->Hp->VK->Prop:=λx b H Q=>∃a c,x=.ref a/\b=[]/\yQ H a c/\∀p,H p=none->Q (.ref p) (upd H p (oR p a))
theorem HW:MtR X "dict.values" FT:=by intro d s Z H x m v w Q I f g h;obtain⟨a,p,rfl,rfl,l,q⟩:=h;cases f;cases g;obtain⟨_,i,r,n,⟨o,k,j,t⟩,_⟩:=xO I l;have c:s.TypeIs (.ref a) "dict":=(ah o k j.1);refine call_meetsIn PySem.F.slot_dict_values c PySem.F.entry_dict_values (PySem.F.args_dict_values_1 _) (Ji a i) ⟨c,?_⟩;exact fx (.ref s.heap.objs.size) _ (I.laid (t':=s.toks) (o:=oR s.heap.objs.size a) (λb u e=>iB _ e) (ig _) (AI (hH _ (jw _ rfl) rfl rfl))) rfl (q _ (I.hok.fresh (ig _)))
abbrev rj(h:yA)(z TI TO:zW)(a:zX)(b:Bool):Prop :=h.get? z=some {cls:=.type "zip",dict:=none,data:=.fields #[a,.bool b,.bool false,.ref TI,.ref TO],slots:=#[]}
theorem Jd{Q:Option Obj->zY->Prop}(h:Q (s.heap.get? a) s):wpAny (model prog w) A (loadIfAlive a) Q E s:=λΓ p _=>by show PySem.Sem.wp _ Γ (.loadIfAlive a .pure) _ _ p s;rw[PySem.Sem.wp];exact h
theorem BZ{TI TO:zW}{b:Bool}{Q:Bool->zY->Prop}(hz:rj s.heap z TI TO (rawInt (p:Int)) b)(e:s.heap.get? p=some o)
  (q:∀h',rj h' z TI TO (rawInt (p:Int)) true->Heap.SameBut z s.heap h'->Q false {s with heap:=h'}):wpAny (model prog w) A (Builtin.SmallTypes.ownedTupleIsFree (.ref z)) Q E s:=by
 unfold Builtin.SmallTypes.ownedTupleIsFree;refine cz (jQ hz rfl (x:=rawInt (p:Int)) rfl ?_);show wpAny _ _ (loadIfAlive (Int.toNat (p:Int))>>=_) _ _ _;refine cz (Jd ?_);rw[Int.toNat_natCast,e];show wpAny _ _ (field (.ref z) 1>>=_) _ _ _;refine cz (jQ hz rfl (x:=.bool b) rfl ?_)
 cases b with
 |true=>show wpAny _ _ (pure false) _ _ _;exact hE (q s.heap hz ⟨rfl,λ_ _=>rfl⟩)
 |false=>show wpAny _ _ (setField (.ref z) 1 (.bool true)>>=_) _ _ _;refine cz (nc hz (by simp) λc d a=>?_);exact hE (q c d a)
section
variable{TI TO:zW}
theorem FJ(N1:Nx i1 l1 st1 src1)(N2:Nx i2 l2 st2 src2){x:zX}{b:Bool}(D:ZipApart z TI TO i1 i2 l1 l2)
  (hz:rj s.heap z TI TO (rawInt (p:Int)) b) (J:s.heap.get? p=some o) (m:IsPair s.heap TI (.ref i1) (.ref i2)) (h1:st1 k1 s.heap) (h2:st2 k2 s.heap) (l:src1 xs s.heap) (k:src2 ys s.heap) (G:xs[k1]?=some x) (t:ys[k2]?=some y)
  (v:∀h',rj h' z TI TO (rawInt (p:Int)) true->st1 (k1+1) h'->st2 (k2+1) h'->IsPair h' s.heap.objs.size x y->
   (∀c o,c≠z->c≠i1->c≠i2->s.heap.get? c=some o->h'.get? c=some o)->Q (some (.ref s.heap.objs.size)) {s with heap:=h'}):wpAny (model prog w) A (pyNext (.ref z)) Q E s:=by
 have q:s.TypeIs (.ref z) "zip":=(ah _ hz rfl);unfold pyNext;refine cz (wpAny_attempt (nA (name:=Str.ofString "__next__") q F.slot_zip_next (mn F.slot_zip_next q F.entry_zip_next ?_ (F.args_zip_next_1 _))));show wpAny _ _ (field (.ref z) 2>>=_) _ _ _;refine cz (jQ hz rfl (x:=.bool false) rfl ?_);show wpAny _ _ (field (.ref z) 3>>=_) _ _ _;refine cz (jQ hz rfl (x:=.ref TI) rfl ?_);refine cz (mK m rfl ?_);show wpAny _ _ (Builtin.SmallTypes.ownedTupleIsFree (.ref z)>>=_) _ _ _;refine cz (BZ hz J λM H d=>?_);simp only [Bool.false_eq_true,if_false];refine cz ?_;simp only [<-Array.forIn_toList,List.forIn_cons,List.forIn_nil];refine cz (cz (ny ?_));show wpAny _ _ (Builtin.SmallTypes.nextOf (.ref i1)>>=_) _ _ _;refine cz (N1.item (N1.mv h1 λo e=>d.extBut _ _ D.i1z e) (N1.mvS l λo e=>d.extBut _ _ D.l1z e) G λL I f=>hE (hE ?_));refine cz (cz (ny ?_));show wpAny _ _ (Builtin.SmallTypes.nextOf (.ref i2)>>=_) _ _ _;refine cz (N2.item (N2.mv h2 λo e=>f.extBut _ _ D.i12.symm (d.extBut _ _ D.i2z e)) (N2.mvS k λo e=>f.extBut _ _ D.l2i1 (d.extBut _ _ D.l2z e)) t λg3 r g=>hE (hE (hE ?_)));have a:g3.objs.size=s.heap.objs.size:=by rw[g.1,f.1,d.1]
 have u:z<g3.objs.size:=by rw[a];exact iI hz
 show wpAny _ _ (newTuple [x,y]>>=_) _ _ _;refine cz (wpAny_newTuple ?_);have B:rj g3 z TI TO (rawInt (p:Int)) true:=g.extBut _ _ D.i2z.symm (f.extBut _ _ D.i1z.symm H);have C:∀c o,c≠z->c≠i1->c≠i2->s.heap.get? c=some o->g3.get? c=some o:=λc o h j i e=>g.extBut _ _ i (f.extBut _ _ j (d.extBut _ _ h e));have K:st1 (k1+1) g3:=N1.mv I λo e=>g.extBut _ _ D.i12 e;have n:IsPair (g3.push {cls:=.type "tuple",data:=.seq #[x,y]}) g3.objs.size x y:=jw _ rfl;rw[a]at n;refine hE (ah _ rfl (hE ?_));show Q (some (.ref g3.objs.size)) _;rw[a];exact v _ (iB _ B) (N1.mv K λo e=>iB _ e) (N2.mv r λo e=>iB _ e) n λc o h j i e=>iB _ (C c o h j i e)
theorem Ej(N1:Nx i1 l1 st1 src1)(N2:Nx i2 l2 st2 src2){b:Bool}(r:A.handled=none)(D:ZipApart z TI TO i1 i2 l1 l2)
  (hz:rj s.heap z TI TO (rawInt (p:Int)) b) (L:s.heap.get? p=some o) (n:IsPair s.heap TI (.ref i1) (.ref i2)) (h1:st1 k1 s.heap) (h2:st2 k2 s.heap) (m:src1 xs s.heap) (j:src2 ys s.heap) (g:xs[k1]?=none\/ys[k2]?=none)
  (B:∀h',(∀c o,c≠z->c≠i1->c≠i2->s.heap.get? c=some o->h'.get? c=some o)->Q none {s with heap:=h'}):wpAny (model prog w) A (pyNext (.ref z)) Q E s:=by
 have q:s.TypeIs (.ref z) "zip":=(ah _ hz rfl);unfold pyNext
 have d:∀(h':yA)(e:zW),(∀c o,c≠z->c≠i1->c≠i2->s.heap.get? c=some o->h'.get? c=some o)->(∃o,h'.get? e=some o/\o.cls=.type "StopIteration")->
   wpAny (model prog w) A (isInstance (.ref e) (.type "StopIteration")>>=λb=>if b=true then pure none else throw (.ref e)) Q E {s with heap:=h'}:=λh' e G ⟨o,C,H⟩=>
  cz (wpAny_isInstance (T:="StopIteration") (b:=true) (ah o C H) isSubtype_stop (hE (B _ G)))
 refine cz (wpAny_attempt (nA (name:=Str.ofString "__next__") q F.slot_zip_next (mn F.slot_zip_next q F.entry_zip_next ?_ (F.args_zip_next_1 _))));show wpAny _ _ (field (.ref z) 2>>=_) _ _ _;refine cz (jQ hz rfl (x:=.bool false) rfl ?_);show wpAny _ _ (field (.ref z) 3>>=_) _ _ _;refine cz (jQ hz rfl (x:=.ref TI) rfl ?_);refine cz (mK n rfl ?_);show wpAny _ _ (Builtin.SmallTypes.ownedTupleIsFree (.ref z)>>=_) _ _ _;refine cz (BZ hz L λM N a=>?_);simp only [Bool.false_eq_true,if_false];refine cz ?_;simp only [<-Array.forIn_toList,List.forIn_cons,List.forIn_nil];refine cz (cz (ny ?_));show wpAny _ _ (Builtin.SmallTypes.nextOf (.ref i1)>>=_) _ _ _;have v:=N1.mv h1 λo e=>a.extBut _ _ D.i1z e;have t:=N1.mvS m λo e=>a.extBut _ _ D.l1z e
 cases hx:xs[k1]? with
 |none=>refine cz (N1.fin r v t hx λu e f k=>?_);exact d u e (λc o l i _ x=>f _ _ i (a.extBut _ _ l x)) k
 |some x=>
  have y:ys[k2]?=none:=by
   rcases g with h|h
   ·rw[hx]at h;cases h
   ·exact h
  refine cz (N1.item v t hx λu O f=>hE (hE ?_));refine cz (cz (ny ?_));show wpAny _ _ (Builtin.SmallTypes.nextOf (.ref i2)>>=_) _ _ _;refine cz (N2.fin r (N2.mv h2 λo e=>f.extBut _ _ D.i12.symm (a.extBut _ _ D.i2z e)) (N2.mvS j λo e=>f.extBut _ _ D.l2i1 (a.extBut _ _ D.l2z e)) y λK e J k=>?_);exact d K e (λc o l i I x=>J _ _ I (f.extBut _ _ i (a.extBut _ _ l x))) k
end
def ZS(z TI TO i1 i2 a b d:zW)(i:Nat)(h:yA):Prop:=IsPair h TI (.ref i1) (.ref i2)/\h.IsListIter i1 a i/\h.IsTupleIter i2 b i/\
 ((IsZip h z TI TO .none/\∃u v,IsPair h TO u v)\/∃(p:zW)(o:Obj)(c:Bool),rj h z TI TO (rawInt (p:Int)) c/\h.get? p=some o/\p≠z/\p≠i1/\p≠i2/\p≠d)
theorem ZS.at{TI TO:zW}(x:ZS z TI TO i1 i2 a b d i h)(k:z≠d)(r:TI≠d)(C:TO≠d)(w:i1≠d)(A:i2≠d)(f:∀c o,c≠d->h.get? c=some o->h'.get? c=some o):ZS z TI TO i1 i2 a b d i h':=by
 obtain⟨t,q,y,g⟩:=x;refine jO (f _ _ r t) ((ry i1 a).mv q λo e=>f _ _ w e) ((rA i2 b).mv y λo e=>f _ _ A e) ?_;rcases g with ⟨g,u,v,j⟩|⟨p,o,m,g,j,B,s,n,l⟩
 ·exact .inl ⟨f _ _ k g,(km u v (f _ _ C j))⟩
 ·exact .inr (nM p o m (f _ _ k g) (f _ _ l j) B s n l)
section
variable{TI TO:zW}
theorem EW{x:zX}(D:ZipApart z TI TO i1 i2 a b)(K:d<s.heap.objs.size)(hz:ZS z TI TO i1 i2 a b d i s.heap)(t:s.heap.IsList a xs)(J:s.heap.IsTuple b ys)(F:xs[i]?=some x)(B:ys[i]?=some y)
  (C:∀h',ZS z TI TO i1 i2 a b d (i+1) h'->IsPair h' s.heap.objs.size x y->(∀c o,c≠z->c≠TO->c≠i1->c≠i2->s.heap.get? c=some o->h'.get? c=some o)->Q (some (.ref s.heap.objs.size)) {s with heap:=h'}):
  wpAny (model prog w) A (pyNext (.ref z)) Q E s:=by
 obtain⟨k,l,n,f⟩:=hz;have R:i1<s.heap.objs.size:=let⟨_,e,_⟩:=(ry i1 a).ob l;iI e;have M:i2<s.heap.objs.size:=let⟨_,e,_⟩:=(rA i2 b).ob n;iI e;rcases f with ⟨f,u,v,h⟩|⟨p,o,T,f,h,G,I,H,S⟩
 ·have P:z<s.heap.objs.size:=iI f;refine xm (ry i1 a) (rA i2 b) D f k h l n t J F B λh' q U r m j g=>?_;exact C h' (jO (g _ _ D.TIz D.TITO D.TIi1 D.TIi2 k) r m (.inr (nM s.heap.objs.size _ false q j (lH P) (lH R) (lH M) (lH K)))) j g
 ·refine FJ (ry i1 a) (rA i2 b) D f h k l n t J F B λh' q r m j g=>?_;exact C h' (jO (g _ _ D.TIz D.TIi1 D.TIi2 k) r m (.inr (nM p o true q (g _ _ G I H h) G I H S))) j λc o N _ L O e=>g c o N L O e
theorem DU(l:A.handled=none)(D:ZipApart z TI TO i1 i2 a b)(hz:ZS z TI TO i1 i2 a b d i s.heap)(h:s.heap.IsList a xs)(q:s.heap.IsTuple b ys)(r:xs[i]?=none\/ys[i]?=none)
  (k:∀h',(∀c o,c≠z->c≠TO->c≠i1->c≠i2->s.heap.get? c=some o->h'.get? c=some o)->Q none {s with heap:=h'}):wpAny (model prog w) A (pyNext (.ref z)) Q E s:=by
 obtain⟨m,j,n,f⟩:=hz;rcases f with ⟨f,u,v,g⟩|⟨p,o,C,f,g,H,G,F,I⟩
 ·exact AE (e:=none) (q1:=true) (q2:=false) l (λ_ z=>nomatch z) D f m g j n h q r k
 ·exact Ej (ry i1 a) (rA i2 b) l D f g m j n h q r λh' B=>k h' λc o t _ y x e=>B c o t y x e
end
section
variable{prog:yB}{w:yD}{K:Type}[DecidableEq K]{knd:KeyKind prog w K}{A:zZ}{R:Result->zY->Prop}{z TI TO i1 i2 a b d:zW}{xs ys:zG}{rs:List (K×zX)}{h₀:yA}{g:Array GenState}{dr:Drawn}{os:OsState}
theorem Hd(hh:A.handled=none)(D:ZipApart z TI TO i1 i2 a b)(U:z≠d)(n1:TI≠d)(S:TO≠d)(O:i1≠d)(W:i2≠d)(na:a≠d)(E:b≠d)(hsz:rs.length<=sizeLine)
  (pa:∀(i:Nat)(k:K)(u:zX),rs[i]?=some (k,u)->∃n,xs[i]?=some n/\ys[i]?=some u/\knd.is k n=true) (he:xs[rs.length]?=none\/ys[rs.length]?=none) (X:h₀.IsList a xs) (ht:h₀.IsTuple b ys) (y:a≠TO) (a1:a≠i1) (Y:a≠i2) (az:a≠z) (C:b≠TO) (b1:b≠i1) (b2:b≠i2) (bz:b≠z)
  (L:∀h' tk,h'.DictOf knd d (merged [] rs)->(∀c o,c≠z->c≠TO->c≠i1->c≠i2->c≠d->h₀.get? c=some o->h'.get? c=some o)->R (.ok (.ret .none)) ⟨h',g,dr,tk,os⟩):
  ∀(k i:Nat)(h:yA)(tk:Nat),rs.length-i=k->i<=rs.length->ZS z TI TO i1 i2 a b d i h->(∀c o,c≠z->c≠TO->c≠i1->c≠i2->c≠d->h₀.get? c=some o->h.get? c=some o)->h.DictOf knd d (merged [] (rs.take i))->
   codeAny (model prog w) A (.builtin "dict.update.loop" ⟨[.ref d,.ref z,rawInt i,.none],[]⟩) R ⟨h,g,dr,tk,os⟩:=by
 intro k
 induction k with
 |zero=>
  intro i h tk hk hi l m G;have j:i=rs.length:=by lia
  refine codeAny_builtin Cj ?_;rw[Around.under_plainId v7 _];show wpAny _ A.in1 (pyNext (.ref z)>>=_) _ _ _;refine cz (DU (s:=⟨h,g,dr,tk,os⟩) (by simpa using hh) D l (X.at λo e=>m a o az y a1 Y na e) (let⟨o,e,r⟩:=ht;(ah o (m b o bz C b1 b2 E e) r)) (by rw[j];exact he) λh' f=>?_);show wpAny _ A.in1 (Builtin.Dict.addKeywords d []>>=λ_=>ret Value.none) _ _ _;rw[j,iQ]at G;obtain⟨v,N,M,P,r⟩:=G;exact cz (hE (hE (L h' tk (ku v N M (f d v U.symm S.symm O.symm W.symm P) r) λc o F q t H I e=>f c o F q t H (m c o F q t H I e))))
 |succ k ih=>
  intro i h tk hk hi l m G;have a0:i<rs.length:=by lia
  obtain⟨⟨k',u⟩,hku⟩:∃p,rs[i]?=some p:=⟨rs[i],jq _⟩;obtain⟨n,hx,hy,Q⟩:=pa i k' u hku;refine codeAny_builtin Cj ?_;rw[Around.under_plainId v7 _];show wpAny _ A.in1 (pyNext (.ref z)>>=_) _ _ _;have ld:d<h.objs.size:=let⟨_,_,_,e,_⟩:=G;iI e;refine cz (EW (s:=⟨h,g,dr,tk,os⟩) D ld l (X.at λo e=>m a o az y a1 Y na e) (let⟨o,e,r⟩:=ht;(ah o (m b o bz C b1 b2 E e) r)) hx hy λh' zs J f=>?_);have J:IsPair h' h.objs.size n u:=J;have hT:(⟨h',g,dr,tk,os⟩:zY).TypeIs (.ref h.objs.size) "tuple":=(ah _ J rfl);show wpAny _ A.in1 (holding [Value.ref h.objs.size] _>>=_) _ _ _;refine cz (ny (cz (wpAny_tryCatch ?_)));unfold Builtin.Dict.pairItems;refine cz (wpAny_typeOf hT ?_);rw[ia (by decide)];refine cz (mK J rfl (hE ?_));show wpAny _ A.in1 (holding [n,u] (dictSet d n u)) _ _ _
  have T:h'.DictOf knd d (merged [] (rs.take i)):=by obtain⟨v,N,M,P,r⟩:=G;exact ku v N M (f d v U.symm S.symm O.symm W.symm P) r
  have x:(merged [] (rs.take i)).length<=sizeLine:=by
   have e1:=merged_length_le ([]:List (K×zX)) (rs.take i);have e2:(rs.take i).length<=rs.length:=by rw[iX];lia
   simp only [oo,Nat.zero_add]at e1
   lia
  refine ny (wpAny_dictSet_pairs (hsz:=x) (s:=⟨h',g,dr,tk,os⟩) Q T λh2 B sb=>?_);rw[<-merged_take_succ [] rs i (k',u) hku]at B;refine hE ⟨plainId_quiet v7 _,ih (i+1) h2 _ (by lia) (by lia) (zs.at U n1 S O W λc o hc e=>(sb.2 c hc).trans e) ?_ B⟩;intro c Z F q t H I e;exact(sb.2 c I).trans (f c Z F q t H (m c Z F q t H I e))
end
theorem Kw:typeLookup (.type "zip") "__getattr__"=pure none:=by rw[typeLookup_type,builtinLookup_eq_fast];kernel_rfl
theorem Ky:entryFor table "zip.__getattribute__"=some Builtin.«object.__getattribute__» :=entryFor_alias (id':="object.__getattribute__") (by kernel_rfl) (by decide+kernel) (by decide+kernel) (by kernel_rfl)
theorem HU:typeLookup (.type "zip") "keys"=pure none:=by rw[typeLookup_type,builtinLookup_eq_fast];kernel_rfl
theorem J3(a:zW)(fs:zG)(sl:zF)(name:Str)(u:Tok)(e:typeLookup (.type "zip") name=pure none)(b:(["__module__","__name__","__qualname__","__doc__","__annotations__"]:zC).contains name=false)(hsz:name.length+100<=sizeLine:=by size_fits):
  Meets (Builtin.«object.__getattribute__» ⟨[.ref a,.str name u],[]⟩) (λA R s=>s.heap.get? a=some {cls:=.type "zip",dict:=none,data:=.fields fs,slots:=sl}/\raisesAttr (.ref a) name A R s):=
 Meets.of_wp λf w A R s c=>by
  obtain⟨k,g,d,i,j⟩:=s;obtain⟨h,c⟩:=c;have l:(⟨k,g,d,i,j⟩:zY).TypeIs (.ref a) "zip":=(ah _ h rfl);unfold Builtin.«object.__getattribute__»
  repeat (any_goals (first|assumption|wp_step))
  simp only [b,Bool.false_eq_true,if_false]
  repeat (any_goals (first|assumption|wp_step))
  exact wpAny_raiseAttrError c.1 c.2 (attrMsg_fits (by decide+kernel) hsz)
theorem Ik{fs:zG}
  (k:s.heap.get? a=some {cls:=.type "zip",dict:=none,data:=.fields fs,slots:=sl}) (m:A.handled=none)
  (h:∀h' tk,(∀b i,s.heap.get? b=some i->h'.get? b=some i)->Q none {s with heap:=h',toks:=tk}):wpAny (model prog w) A (getAttr? (.ref a) "keys") Q E s:=by
 obtain⟨n,g,d,tk,l⟩:=s;have j:∀c,(⟨n,g,d,c,l⟩:zY).TypeIs (.ref a) "zip":=λ_=>(ah _ k rfl);have p:=sub_AttributeError;have v:=F.slot_zip_getattribute.lookup;have r:=F.slot_zip_getattribute.bind (.ref a);have q:=Kw;unfold getAttr? getAttrBy? getAttrBy
 repeat (any_goals (first|assumption|exact j _|((with_reducible show wpAny _ _ (call (Value.builtin "zip.__getattribute__") _ _) _ _ _);refine call_meets F.slot_zip_getattribute (j _) Ky (F.args_zip_getattribute_2 _ _) (J3 a fs sl "keys" _ HU (by decide) (by decide)) (hQ k m λh' c e f=>?_))|wp_step))
 obtain⟨o,t,u⟩:=f.there;show wpAny _ _ (getattributeRaised _ _ _ _ _ _ _) _ _ _;unfold getattributeRaised
 repeat (any_goals (first|assumption|wp_step))
 all_goals exact h _ _ f.1
def tDZ(K:Frag)(ta:TA):TE:=λZ H Q=>ta Z H λd a=>∃l t b c,d=[.ref l,.ref t]/\SqL K a l ((b:zU).map kV)/\SqT K a t c/\b.length=c.length/\∀p,a p=none->Q (.ref p) (upd a p (.dK (lV [] (b.zip c))))
theorem yZ:∀{ks:zU}{us:zM}{vs:zH},ks.length=us.length->A2d us vs->KV (ks.zip us) (ks.zip vs)| [],[],_,_,.nil=>.nil|k::ks,u::us,_,h,.cons r t=>.cons ⟨rfl,r⟩ (yZ (by simpa using h) t)
theorem Ax{P:yB}{w:yD}:∀{ks:zU}{its:zH},A2d (ks.map kV) its->∀{i:Nat}{k:Key},ks[i]?=some k->∃v,its[i]?=some v/\(jG P w).is k v=true| [],_,.nil,i,k,h=>by simp at h|_::_,_,.cons r t,0,k,h=>by simp at h;subst h;exact ah _ rfl (rV r)|_::_,_,.cons r t,i+1,k,h=>by obtain⟨v,b,a⟩:=Ax (P:=P) (w:=w) t (i:=i) (k:=k) (by simpa using h);exact ah v (by simpa using b) a
theorem HI{a b:yC}{x l:Pos}(hc:X.calm=true)(a3:Gl X "dict")(a7:X.mg "dict"=none)(b3:Gl X "zip")(W:X.mg "zip"=none)(ha:PA X [a,b] ta)
  (T:starEach [.Call (.Name "zip" p2) [a,b] [] l] X.env=(false,eval (.Call (.Name "zip" p2) [a,b] [] l) X.env)::starEach [] X.env:=by rfl)
  (hs:starEach [a,b] X.env=[(false,eval a X.env),(false,eval b X.env)]:=by rfl) (O:starEach [b] X.env=[(false,eval b X.env)]:=by rfl):
  PE X (.Call (.Name "dict" p1) [.Call (.Name "zip" p2) [a,b] [] l] [] x) (tDZ X.K ta):=by
 intro M s Z H Q I h;have hh:X.A.handled=none:=I.ok.hd hc;refine wpAny_Call_Name_kw (oF I a3 a7 boot_dict ?_);refine PyProof.Rows.callWith_type1 ?_ T (by rfl);rw[T];show wpAny _ _ (spliced ((false,eval _ X.env)::backTo x (starEach [] X.env))) _ _ s;refine Calls.spliced_cons ?_;refine Call_ (oF I b3 W boot_zip (PyProof.Rows.callWith_type1 (thn (ha l M s Z H _ I h) ?_) (by rw[hs,O]) (by rw[O];rfl)));rintro us d ⟨vs,H1,I1,r1,v⟩;refine jy v ?_;clear v;rintro l1 l2 p ws e b1 a9 ⟨a5,q⟩;subst e;obtain⟨u,u2,rfl,ru,Y⟩:=rX r1;cases ru;cases Y;obtain⟨a8,rv,y,zk⟩:=I1.list b1;obtain⟨f,N,G,_⟩:=I1.tuple a9;have J:l1<d.heap.objs.size:=let⟨_,e,_⟩:=y.isList;iI e;have L:l2<d.heap.objs.size:=G.lt;have e1:=rv.length;have e2:=N.length;rw[hA]at e1;have hn:=I1.hok.fresh (ig d.heap.objs.size);refine Jb y.isList (show d.heap.IsTuple l2 f.toArray from G) λj zs kp=>Calls.spliced_nil ?_;obtain⟨hz,b2,⟨tu,tv,a0⟩,b4,a1⟩:=zs;have D:=zipApart_new J L;have lz:d.heap.objs.size+4<j.objs.size:=iI hz;refine callType_codes (Q₁:=λS s₁=>S=.ref j.objs.size/\s₁={d with heap:=j.push {cls:=.type "dict",data:=.dict #[]}}) F.kt_called_dict (F.kt_typeCall_dict_1 _) F.entry_dict_init (kt_code_dict_new (s:={d with heap:=j}) _ ⟨rfl,rfl⟩) ?_;rintro S s₁ ⟨rfl,rfl⟩;have n:(j.push {cls:=.type "dict",data:=.dict #[]}).DictOf (jG X.prog X.w) j.objs.size []:=Heap.DictOf.new j;have ez:(j.push {cls:=.type "dict",data:=.dict #[]}).get? (d.heap.objs.size+4)=some _:=iB _ hz;have a4:Shared.TypeIs {d with heap:=j.push {cls:=.type "dict",data:=.dict #[]}} (.ref (d.heap.objs.size+4)) "zip":=(ah _ ez rfl);refine hQ n.typeIs (F.args_dict_init_2 _ _) ?_;unfold Builtin.«dict.__init__»;refine cz ?_;unfold Builtin.Dict.selfAndRest;refine cz (wpAny_notOrdered_dict n.typeIs ?_);show wpAny _ _ (pure (j.objs.size,[Value.ref (d.heap.objs.size+4)])) _ _ _;refine hE ?_;show wpAny _ _ (Builtin.Dict.updateFrom "dict.__init__" j.objs.size (.ref (d.heap.objs.size+4)) [] .none) _ _ _;unfold Builtin.Dict.updateFrom;refine cz (wpAny_typeOf a4 ?_);rw[ia (by decide)];refine cz (Ik ez (by simpa using hh) λU a6 B=>?_)
 rw[ia (show(none:zN).isNone=true from rfl)];refine cz (wpAny_rule ?_);refine cz (wpAny_pyIter_zip (s:={d with heap:=U,toks:=a6}) (B _ _ ez) ?_);have t:∀c o,j.get? c=some o->U.get? c=some o:=λc o e=>B _ _ (iB _ e)
 have lr:(p.zip f).length=p.length:=by rw[List.length_zip];lia
 have v:∀i:Nat,i<=4->d.heap.objs.size+i≠j.objs.size:=λi hi z=>by lia
 have q2:∀c:Nat,c<d.heap.objs.size->c≠j.objs.size:=λc hc z=>by lia
 have m:∀c i:Nat,c<d.heap.objs.size->c≠d.heap.objs.size+i:=λc i hc z=>by lia
 have C:d.heap.objs.size<=j.objs.size:=by lia
 have z1:p.length<=sizeLine:=by rw[hA]at zk;exact zk
 refine hE ⟨plainId_quiet v7 _,Hd (knd:=jG X.prog X.w) (rs:=p.zip f) (xs:=a8.toArray) (ys:=f.toArray) (h₀:=U) (by simpa using hh) D (v 4 (by decide)) (v 2 (by decide)) (v 3 (by decide)) (v 0 (by decide)) (v 1 (by decide)) (q2 _ J) (q2 _ L) (by rw[lr];exact z1) (λi k u hr=>?_) ?_ (y.isList.at λo e=>t _ _ (kp _ _ e)) (let⟨o,e,r⟩:=G;(ah o (t _ _ (kp _ _ e)) r)) (m _ 3 J) (m _ 0 J) (m _ 1 J) (m _ 4 J) (m _ 3 L) (m _ 0 L) (m _ 1 L) (m _ 4 L) (λh2 tk dd b0=>?_) (p.zip f).length 0 U _ (by lia) (jP _) (jO (t _ _ b2) ((ry _ l1).mv b4 λo e=>t _ _ e) ((rA _ l2).mv a1 λo e=>t _ _ e) (.inl ⟨t _ _ hz,(km tu tv (t _ _ a0))⟩)) (λ_ _ _ _ _ _ _ z=>z) ?_⟩
 ·obtain⟨g1,g2⟩:=xW.mp hr;obtain⟨E,g3,g4⟩:=Ax (P:=X.prog) (w:=X.w) rv g1;exact hH E (by simpa using g3) (by simpa using g2) g4
 ·left;rw[lr];simp
  lia
 ·have E:=yZ a5 N;refine jN rfl (.ref j.objs.size) _ (I1.laid (t':=tk) (o:=.dK (lV [] (p.zip ws))) (λb u eb=>?_) C (kE ?_ ?_ _ (KV.merge E .nil) dd)) rfl (q _ (I1.hok.fresh C))
  ·have R:=iI eb;exact b0 b u (m _ 4 R) (m _ 3 R) (m _ 0 R) (m _ 1 R) (q2 _ R) (t _ _ (kp _ _ eb))
  ·have:=v5 (p.zip ws) [];have lw:(p.zip ws).length=p.length:=by rw[List.length_zip];lia
   simp only [oo]at this
   lia
  ·have:=I1.big;have a2:j.objs.size≠sysModules:=lH (mC this C)
   simpa using a2
 ·obtain⟨od,es,ep,g,r⟩:=n;exact ku od es ep (B _ _ g) r
theorem Bx:∀(its:zH)(lo:Int),(∀(j:Nat)(v:zX),its[j]?=some v->∃t,v=.int (lo+j) t)->A2d ((List.range its.length).map λ(k:Nat)=>V.int (lo+k)) its
 | [],_,_=>.nil
 |v::r,lo,h=>by
  rw[mB,List.range_succ_eq_map,iN,List.map_map]
  have t:=Bx r (lo+1) λj u a=>by obtain⟨t,e⟩:=h (j+1) u (by simpa using a);exact⟨t,by rw[e];congr 1;lia⟩
  have e:((λ(k:Nat)=>V.int (lo+k))∘Nat.succ)=λ(k:Nat)=>V.int (lo+1+k):=by
   funext k;show V.int (lo+((k+1:Nat):Int))=V.int (lo+1+k);congr 1
   lia
  rw[e];exact .cons (h 0 v rfl) t
theorem CJ:Builtin.Range.rangeSize lo hi 1=(((hi-lo).toNat:Nat):Int):=by rw[rangeSize_one];split<;>lia
theorem FA{Q:VK}{t u v:Tok}(n:X.A.handled=none)(I:Inv X pins Z H s)(h1: -(2^62)<=lo)(h2:lo<2^62)(p: -(2^62)<=hi)(l:hi<2^62)(y:hi-lo<=1000000)
  (q:∀D,H D=none->Q (.ref D) (upd H D (.lst ((List.range (hi-lo).toNat).map λ(k:Nat)=>.int (lo+k))))):wpAny (model X.prog X.w) X.A (call (.type "list") [.ref s.heap.objs.size]) (EP X pins Z Q) X.xe {s with heap:=s.heap.push {cls:=.type "range",data:=.fields #[.int lo t,.int hi u,.int 1 v]},toks:=tk}:=by
 have I1:Inv X pins Z H {s with heap:=s.heap.push {cls:=.type "range",data:=.fields #[.int lo t,.int hi u,.int 1 v]},toks:=tk}:=I.kept λb o e=>iB _ e
 refine call_list_range n (IsRange.new ..) (small_one h1 h2 p l) CJ (by lia) λx d a r m h c=>?_;have g:a.toList.length=(hi-lo).toNat:=by rw[Array.length_toList];exact c.1
 have f:=Bx a.toList lo λj v i=>by obtain⟨t,e⟩:=c.2 j v (by rw[<-Array.getElem?_toList];exact i);exact⟨t,by rw[e];congr 1;lia⟩
 rw[g]at f;refine fx (.ref _) _ (I1.laid (t':=d) (o:=.lst ((List.range (hi-lo).toNat).map λ(k:Nat)=>.int (lo+k))) m (ig _) (mw ?_ a.toList r f (by simpa using h))) rfl (q _ (I1.hok.fresh (ig _)));rw[hA,List.length_range];exact lg (by lia)
def wa(ta:TA):TE:=λZ H Q=>ta Z H λb a=>∃j:Int,b=[.int j]/\-(2^62)<=j/\j<=1000000/\∀D,a D=none->Q (.ref D) (upd a D (.lst ((List.range j.toNat).map λ(k:Nat)=>.int (k:Int))))
theorem JL{a:yC}{n c b:Pos}(u:X.calm=true)(l:Gl X "list")(k:X.mg "list"=none)(m:Gl X "range")(i:X.mg "range"=none)(x:PA X [a] ta)
  (d:starEach [.Call (.Name "range" p2) [a] [] b] X.env=(false,eval (.Call (.Name "range" p2) [a] [] b) X.env)::starEach [] X.env:=by rfl)
  (v:starEach [a] X.env=[(false,eval a X.env)]:=by rfl):PE X (.Call (.Name "list" n) [.Call (.Name "range" p2) [a] [] b] [] c) (wa ta):=by
 intro f s Z H Q I h;have w:X.A.handled=none:=I.ok.hd u;refine wpAny_Call_Name_kw (oF I l k boot_list ?_);refine PyProof.Rows.callWith_type1 ?_ d (by rfl);rw[d];show wpAny _ _ (spliced ((false,eval _ X.env)::backTo c (starEach [] X.env))) _ _ s;refine Calls.spliced_cons ?_;refine Call_ (oF I m i boot_range (PyProof.Rows.callWith_type1 (thn (x b f s Z H _ I h) ?_) v rfl));rintro F y ⟨B,C,I1,o,g⟩;obtain⟨j,e,g,z,q⟩:=g;subst e
 cases o with
 |cons r rr=>
  cases rr
  obtain⟨t,rfl⟩:=r;refine call_range_1 (Calls.spliced_nil (FA w I1 (by lia) (by lia) g (by lia) (by lia) λD p=>?_));have:=q D p
  simpa using this
def DM(K:Frag):R2:=λx y H Q=>∃a b c d,x=.ref a/\y=.ref b/\SqT K H a c/\SqT K H b d/\c.length+d.length<=sizeLine/\
 (c=[]->Q (.ref b) H)/\(c≠[]->d=[]->Q (.ref a) H)/\(c≠[]->d≠[]->∀p,H p=none->Q (.ref p) (upd H p (.tup (c++d))))
theorem Fo:OpR X (binaryOp .Add) (DM X.K):=by
 intro i s Z H x y v u Q I m o h;refine jy h ?_;clear h;rintro a b r D rfl rfl B ⟨t,U,J,S,M⟩;by_cases hx:r=[]
 ·subst hx;cases m;cases o;obtain⟨g,T,G,_⟩:=I.tuple B;obtain⟨e,Y,N,_⟩:=I.tuple t;have W:g=[]:=T.nil_iff.mpr rfl;obtain⟨⟨R,P,A,L⟩,p,w,n,q⟩:=id G;obtain⟨⟨C,l,j,k⟩,c,d,O,f⟩:=id N;simp only at w q d f;subst w q d f
  exact concat_meets (ah _ p rfl) (ah _ c rfl) noFill_tuple_add seq_tuple_add PySem.F.slot_tuple_add PySem.F.entry_tuple_add (PySem.F.args_tuple_add_2 _ _)
   (tuple_addW0 a b g.toArray e.toArray n O P l L k (by simp[W])) ⟨p,(jN c (.ref b) H I rfl (J rfl))⟩
 ·exact zv i s Z H _ _ v u Q I m o (jo a b r D rfl rfl B (jH t hx U (λz=>S hx z) λz=>M hx z))
def Dk:R2:=λx y H Q=>∃a b c d,x=.ref a/\y=.ref b/\H a=some (.tup c)/\H b=some (.tup d)/\c.length+d.length<=sizeLine/\∀q e,A0l H e->e q=some (.tup (c++d))->Q (.ref q) e
theorem xo:OpR X (binaryOp .Add) Dk:=λc s Z H x y v u Q I i m h=>by
 refine jy h ?_;clear h;rintro a b f g l j e ⟨d,k,q⟩;refine Fo c s Z H x y v u Q I i m (jo a b f g l j (SqT.of e) (jH (SqT.of d) k (λz=>?_) (λ_ z=>?_) λ_ _ p n=>?_))
 ·subst z;exact q b H (A0l.refl _) d
 ·subst z;exact q a H (A0l.refl _) (by rw[nS];exact e)
 ·exact q p _ (eh n) dh
abbrev nD:=Key ⊕ zU
abbrev ij:=List nD
def A6m(prog:yB)(w:yD)(h:yA):nD->zX->Prop|.inl k,v=>(jG prog w).is k v=true|.inr ks,v=>∃b,v=.ref b/\IsTupleKey (jG prog w) h ks b
abbrev A4i(prog:yB)(w:yD)(h:yA):List nD->List zX->Prop:=Paired (A6m prog w h)
def A5j(prog:yB)(w:yD)(h:yA)(k:ij)(a:zW):Prop:=∃o b n,h.get? a=some o/\o.cls=.type "tuple"/\o.data=.seq b n/\A4i prog w h k b.toList
theorem A5j.typeIs{k:ij}(x:A5j prog w s.heap k a):s.TypeIs (.ref a) "tuple":=let⟨o,_,_,ho,hc,_⟩:=x;(ah o ho hc)
theorem AW{k:Key}(h:(jG prog w).is k (.ref a)=true):False:=by have:=(jG prog w).byValue _ _ h;simp[carriedByValue]at this
theorem A6m.inj{p q:nD}{v:zX}(d:A6m prog w h p v)(a:A6m prog w h q v):p=q:=by
 cases p with
 |inl k=>
  cases q with
  |inl l=>exact congrArg Sum.inl ((jG prog w).inj _ _ _ d a)
  |inr ks=>obtain⟨b,rfl,_⟩:=a;exact(AW d).elim
 |inr ks=>
  cases q with
  |inl l=>obtain⟨b,rfl,_⟩:=d;exact(AW a).elim
  |inr ls=>obtain⟨b,rfl,f⟩:=d;obtain⟨c,e,g⟩:=a;injection e with e;subst e;exact congrArg Sum.inr (f.inj g)
theorem A4i.inj{h:yA}:∀{x y:List nD}{vs:zH},A4i prog w h x vs->A4i prog w h y vs->x=y|_,_,_,.nil,.nil=>rfl|_,_,_,.cons a t,.cons b u=>by rw[a.inj b,A4i.inj t u]
theorem A5j.inj{x y:ij}(e:A5j prog w h x a)(f:A5j prog w h y a):x=y:=by refine iW e λo t n g _ i k=>?_;clear e;refine iW f λj l m c _ b d=>?_;clear f;obtain rfl:o=j:=lI (g.symm.trans c);rw[i]at b;injection b with h1 _;subst h1;exact A4i.inj k d
theorem A6m.keeps{p:nD}{v:zX}{es ep}(x:A6m prog w h p v)(a:h.get? d=some o)(c:o.data=.dict es ep)(g:Heap.SameBut d h h'):A6m prog w h' p v:=by
 cases p with
 |inl k=>exact x
 |inr ks=>obtain⟨b,e,f⟩:=x;exact ah b e (f.keeps a c g)
theorem A5j.keeps{k:ij}{es ep}(x:A5j prog w h k a)(f:h.get? d=some o)(g:o.data=.dict es ep)(j:Heap.SameBut d h h'):A5j prog w h' k a:=by
 refine iW x λi t n c l b m=>?_;clear x
 have e:a≠d:=by rintro rfl;obtain rfl:i=o:=lI (c.symm.trans f);rw[g]at b;exact nomatch b
 exact jv i t n ((j.2 a e).trans c) l b (Paired.mapP m λp v z=>z.keeps f g j)
def vA(prog:yB)(w:yD):nD->Int|.inl k=>(jG prog w).hash k|.inr ks=>tupleKeyHash (jG prog w) ks
def uk:nD->Nat|.inl _=>1|.inr ks=>ks.length+1
def nJ:ij->Nat| []=>0|p::r=>uk p+nJ r
theorem Cn:∀(a b:ij),nJ (a++b)=nJ a+nJ b| [],b=>by show nJ b=0+nJ b;lia|p::r,b=>by show uk p+nJ (r++b)=uk p+nJ r+nJ b;rw[Cn r b];lia
def xn(prog:yB)(w:yD)(k:ij):Int:=reduceHash (Builtin.Tuple.tupleHashOf (k.map (vA prog w)))
theorem Jp{p:nD}{v:zX}{Q:Int->zY->Prop}(d:A.units<cLine)(a:A6m prog w s.heap p v)(h:Q (vA prog w p) {s with toks:=s.toks+uk p}):
  wpAny (model prog w) A (pyHash v) Q E s:=by
 cases p with
 |inl k=>exact(jG prog w).pyHash a h
 |inr ks=>obtain⟨b,rfl,c⟩:=a;exact wpAny_pyHash_tuple d c h
theorem IN{k:ij}{Q:Int->zY->Prop}(y:A.units+8<cLine)(l:A5j prog w s.heap k a)(h:Q (xn prog w k) {s with toks:=s.toks+(nJ k+1)}):
  wpAny (model prog w) A (pyHash (.ref a)) Q E s:=by
 have g:=l.typeIs;refine iW l λo i n t _ u v=>?_;clear l;unfold pyHash
 first|unfold pyHashByItsType|skip
 first|refine cz (wpAny_cRoomFor_or (.inr (by lia)) ?_)|skip
 refine cz (wpAny_specialOf g PySem.F.slot_tuple_hash.lookup ?_);show wpAny _ _ (if (some (Value.builtin "tuple.__hash__")==some Value.none)=true then _ else _) Q E s;rw[fy (by rw[beq_builtin_none];exact jD)];refine cz (wpAny_specialOf g PySem.F.slot_tuple_hash.lookup ?_);show wpAny _ _ (callSpecialIfBoundUnlessNone? (.ref a) "__hash__" _>>=_) Q E s;refine cz (wpAny_callSpecialIfBoundUnlessNone?_slot g PySem.F.slot_tuple_hash (mn PySem.F.slot_tuple_hash g PySem.F.entry_tuple_hash ?_ (PySem.F.args_tuple_hash_1 _)));show wpAny _ _ (Builtin.Tuple.tupleItemsOf (.ref a)>>=_) _ _ s;refine cz (wpAny_tupleItemsOf t u ?_);refine cz ?_;rw[<-Array.forIn_toList]
 refine wpAny_forIn_list _
  (λd (e:Array Int) m=>∃b c,k=b++c/\A4i prog w s.heap c d/\e.toList=b.map (vA prog w)/\m={s with toks:=s.toks+nJ b})
  _ ?_ ?_ _ _ (iO [] k rfl v rfl rfl)
 ·rintro x d e m ⟨b,c,rfl,j,f,rfl⟩
  cases j with
  |@cons p _ ps _ h1 hl'=>
   refine cz (Jp (by show A.units+1<cLine;lia) h1 ?_);have q:b++p::ps=(b++[p])++ps:=by simp
   have r:nJ (b++[p])=nJ b+uk p:=by rw[Cn];rfl
   first|exact hE (iO (b++[p]) ps q hl' (by simp[f]) (by rw[r];simp[Nat.add_assoc]))|exact cz (hE (hE ⟨b++[p],ps,q,hl',by simp[f],by rw[r];simp[Nat.add_assoc]⟩))
 ·rintro e m ⟨b,c,rfl,j,f,rfl⟩;cases j;rw[nS]at h;show wpAny _ _ (retInt (Builtin.Tuple.tupleHashOf e.toList)) _ _ _;rw[f];refine wpAny_ret_mkInt ?_;generalize hL:b.map (vA prog w)=L;show wpAny _ _ (if (decide (-(2:Int)^63<=Builtin.Tuple.tupleHashOf L)&&decide (Builtin.Tuple.tupleHashOf L<2^63))=true then _ else _) Q E _;unfold xn reduceHash at h;rw[hL]at h;by_cases hr:(decide (-(2:Int)^63<=Builtin.Tuple.tupleHashOf L)&&decide (Builtin.Tuple.tupleHashOf L<2^63))=true
  ·rw[ia hr];rw[ia hr]at h;exact hE (by simpa[Nat.add_assoc]using h)
  ·rw[fy hr];rw[fy hr]at h;exact cz (wpAny_rule (hE (by simpa[Nat.add_assoc]using h)))
theorem IP{p q:nD}{u v:zX}{Q:Bool->zY->Prop}(m:A.units<cLine)(g:p.isLeft=q.isLeft)(f:A6m prog w s.heap p u)(d:A6m prog w s.heap q v)(h:Q (decide (p=q)) s):
  wpAny (model prog w) A (eqBool u v) Q E s:=by
 cases p with
 |inl k=>
  cases q with
  |inl l=>
   refine(jG prog w).eqBool (a:=k) (b:=l) f d ?_
   have e:decide (k=l)=decide ((Sum.inl k:nD)=Sum.inl l):=by
    by_cases z:k=l
    ·subst z;simp
    ·rw[mZ z,mZ (λy=>z (by injection y))]
   rw[e];exact h
  |inr ls=>cases g
 |inr ks=>
  cases q with
  |inl l=>cases g
  |inr ls=>
   obtain⟨b,rfl,i⟩:=f;obtain⟨c,rfl,j⟩:=d;refine wpAny_eqBool_tuple m i j ?_
   have e:decide (ks=ls)=decide ((Sum.inr ks:nD)=Sum.inr ls):=by
    by_cases z:ks=ls
    ·subst z;simp
    ·rw[mZ z,mZ (λy=>z (by injection y))]
   rw[e];exact h
theorem JE{x y:ij}{P:Fin->zY->Prop}(Q:A.units+4<cLine)(C:x.map Sum.isLeft=y.map Sum.isLeft)(L:A5j prog w s.heap x a)(B:A5j prog w s.heap y b)(h:P (.done (.ret (.bool (decide (x=y))))) s):
  wpAny (model prog w) A (Builtin.«tuple.__eq__» ⟨[.ref a,.ref b],[]⟩) P E s:=by
 have H:=B.typeIs;refine iW L λT t S I _ F G=>?_;clear L;refine iW B λN p O J _ K z=>?_;clear B;show wpAny _ _ (isInstance (.ref b) (.type "tuple")>>=_) _ _ s;refine cz (wpAny_isInstance H isSubtype_tuple_tuple ?_);simp only [Bool.not_true,Bool.false_eq_true,if_false];refine cz (wpAny_tupleItemsOf I F ?_);refine cz (wpAny_tupleItemsOf J K ?_);refine cz ?_
 refine wpAny_forIn_list _
  (λi r q=>r.1=none/\q=s/\∃n l f e,i=List.zip f e/\A4i prog w s.heap n f/\A4i prog w s.heap l e/\n.map Sum.isLeft=l.map Sum.isLeft/\decide (n=l)=decide (x=y)/\(f.length==e.length)=(t.size==p.size))
  _ ?_ ?_ _ _ (hQ rfl rfl (lh x y t.toList p.toList rfl G z C rfl (by simp)))
 ·rintro⟨u,v⟩ i r q ⟨D,rfl,n,l,f,e,k,j,g,o,c,d⟩
  cases j with
  |nil=>simp at k
  |@cons k1 u' x'' xs'' h1 hx''=>
   cases g with
   |nil=>simp at k
   |@cons k2 v' y'' ys'' h2 hy''=>
    simp only [List.zip_cons_cons,List.cons.injEq,Prod.mk.injEq]at k;obtain⟨⟨rfl,rfl⟩,rfl⟩:=k;rw[iN,iN]at o;injection o with hs1 hs2;refine cz (IP (by lia) hs1 h1 h2 ?_);by_cases hk:k1=k2
    ·subst hk;rw[kz rfl];simp only [Bool.not_true,Bool.false_eq_true,if_false];refine hE (hQ rfl rfl (lh x'' y'' xs'' ys'' rfl hx'' hy'' hs2 ?_ (by simpa using d)));rw[<-c];by_cases hxy:x''=y''
     ·simp[hxy]
     ·simp[hxy]
    ·rw[mZ hk];simp only [Bool.not_false,if_true];have M:decide (x=y)=false:=by rw[<-c];simp[hk]
     rw[M]at h;exact cz (hE (hE (hE h)))
 ·rintro⟨R,U⟩ q ⟨D,rfl,n,l,f,e,k,j,g,_,c,d⟩;simp only at D;subst D;refine hE ?_
  have m:(t.size==p.size)=decide (x=y):=by
   rw[<-c,<-d]
   cases j with
   |nil=>
    cases g with
    |nil=>simp
    |cons _ _=>simp
   |cons _ _=>
    cases g with
    |nil=>simp
    |cons _ _=>simp at k
  show P (.done (.ret (.bool (t.size==p.size)))) q;rw[m];exact h
theorem Jf{x y:ij}{Q:Bool->zY->Prop}(g:A.units+8<cLine)(f:x.map Sum.isLeft=y.map Sum.isLeft)(c:A5j prog w s.heap x a)(d:A5j prog w s.heap y b)(h:Q (decide (x=y)) s):
  wpAny (model prog w) A (eqBool (.ref a) (.ref b)) Q E s:=by
 unfold eqBool
 try with_reducible refine ny ?_
 show wpAny _ _ (if (Value.ref a==Value.ref b)=true then _ else _) Q E s;by_cases hab:(Value.ref a==Value.ref b)=true
 ·rw[ia hab];have e:a=b:=by have:=eq_of_beq hab;injection this
  subst e;obtain rfl:=c.inj d;exact cz (wpAny_rule (hE (by simpa using h)))
 ·rw[fy hab]
  exact cz (wpAny_richCompare_same_room (op:=.Eq) c.typeIs d.typeIs PySem.F.slot_tuple_eq
   (mn PySem.F.slot_tuple_eq c.typeIs PySem.F.entry_tuple_eq (JE (by show A.units+1+4<cLine;lia) f c d (hH _ rfl (λe=>nomatch e) (wpAny_truthy_bool h))) (PySem.F.args_tuple_eq_2 _ _)) (by lia))
theorem JV{Q:Bool->zY->Prop}(e:IsTupleKey (jG prog w) s.heap ks a)(h:Q true s):wpAny (model prog w) A (eqIsQuiet (n+1) (.ref a)) Q E s:=by
 have j:=e.typeIs;refine iW e λo d m k _ l p=>?_;clear e;unfold eqIsQuiet;refine cz (wpAny_specialOf j PySem.F.slot_tuple_eq.lookup ?_);show wpAny _ _ (isInstance (.ref a) (.type "tuple")>>=_) _ _ s;refine cz (wpAny_isInstance j isSubtype_tuple_tuple ?_);simp only [Bool.not_true,Bool.false_eq_true,if_false];refine cz (mK k l ?_);refine cz ?_;show wpAny _ _ (forIn d _ _) _ _ s;rw[<-Array.forIn_toList];refine wpAny_forIn_list _ (λb r i=>r.1=none/\i=s/\∀v∈b,carriedByValue v=true) _ ?_ ?_ _ _ (hQ rfl rfl p.byValue)
 ·rintro v b r i ⟨g,rfl,c⟩;rw[eqIsQuiet_byValue _ (c v sZ)];refine cz (hE ?_);simp only [Bool.not_true,Bool.false_eq_true,if_false];exact hE (hQ rfl rfl λu f=>c u (qh _ f))
 ·rintro⟨q,t⟩ i ⟨g,rfl,_⟩;simp only at g;subst g;exact hE h
theorem J1{k:ij}{Q:Bool->zY->Prop}(f:A5j prog w s.heap k a)(h:Q true s):wpAny (model prog w) A (eqIsQuiet 8 (.ref a)) Q E s:=by
 have j:=f.typeIs;refine iW f λo d m t _ u x=>?_;clear f;unfold eqIsQuiet;refine cz (wpAny_specialOf j PySem.F.slot_tuple_eq.lookup ?_);show wpAny _ _ (isInstance (.ref a) (.type "tuple")>>=_) _ _ s;refine cz (wpAny_isInstance j isSubtype_tuple_tuple ?_);simp only [Bool.not_true,Bool.false_eq_true,if_false];refine cz (mK t u ?_);refine cz ?_;show wpAny _ _ (forIn d _ _) _ _ s;rw[<-Array.forIn_toList];refine wpAny_forIn_list _ (λc r i=>r.1=none/\i=s/\∃l,A4i prog w s.heap l c) _ ?_ ?_ _ _ ⟨rfl,(jI rfl k x)⟩
 ·rintro v c r i ⟨g,rfl,l,e⟩
  cases e with
  |@cons p _ ps' _ h1 hl=>
   cases p with
   |inl q=>rw[eqIsQuiet_byValue _ ((jG prog w).byValue _ _ h1)];refine cz (hE ?_);simp only [Bool.not_true,Bool.false_eq_true,if_false];exact hE ⟨rfl,(jI rfl ps' hl)⟩
   |inr ks=>obtain⟨b,rfl,n⟩:=h1;refine cz (JV n ?_);simp only [Bool.not_true,Bool.false_eq_true,if_false];exact hE ⟨rfl,(jI rfl ps' hl)⟩
 ·rintro⟨y,z⟩ i ⟨g,rfl,_⟩;simp only at g;subst g;exact hE h
def oH(prog:yB)(w:yD)(sh:List Bool):HeapKind prog w ij where
 is:=λh k a=>k.map Sum.isLeft=sh/\A5j prog w h k a
 hash:=xn prog w
 draws:=λk=>nJ k+1
 room:=λA=>A.units+8<cLine
 inj:=λb c=>b.2.inj c.2
 keeps:=λx f g i=>⟨x.1,x.2.keeps f g i⟩
 pyHash:=λe d h=>IN e d.2 h
 eqBool:=λe b c h=>Jf e (b.1.trans c.1.symm) b.2 c.2 h
 quiet:=λd h=>J1 d.2 h
section
variable{prog:yB}{w:yD}{K:Type}[DecidableEq K]{knd:HeapKind prog w K}{A:zZ}{E:zA}{s:zY}
theorem Kx{xs:List (K×zW×zX)}{k:K}{b:zX}{Q:zA}(u:knd.room A)(f:knd.is s.heap k a)(v:s.heap.DictOfH knd d xs)
  (h1:∀p,atKey xs k=some p->Q p.2 {s with toks:=s.toks+knd.draws k})
  (h2:atKey xs k=none->∀h',h'.DictOfH knd d (storedH xs k a b)->Heap.SameBut d s.heap h'->Q b {s with heap:=h',toks:=s.toks+knd.draws k})
  (hsz:xs.length<=sizeLine):wpAny (model prog w) A (dictSetDefault d (.ref a) b) Q E s:=by
 refine iW v ?_;clear v;rintro o C B i z h ⟨n,l,q⟩;unfold dictSetDefault
 try with_reducible refine ny ?_
 refine cz (knd.pyHash u f (cz (wpAny_dictFind_heap (s:={s with toks:=s.toks+knd.draws k}) u f i h n l q ?_ ?_)))
 ·intro c;have m:k∉xs.map (·.1):=not_mem_keys_of_get c
  refine cz (wpAny_rule (cz (wpAny_updateDictKeys (hz:=by have e:=size_of_entries n;lia) (s:={s with toks:=s.toks+knd.draws k}) i h (hE (h2 (atKey_none_of_get c) _ ⟨_,_,B+1,rL _ i (Obj.isFreed_of_dict (Obj.data_mapDictKeys h _)),
   z.mapDictKeys _,Obj.data_mapDictKeys h _,?_,?_,?_⟩ (Heap.SameBut.update ..))))))
  ·rw[storedH_new (atKey_none_of_get c)];simp[n,entryOfKey]
  ·rw[storedH_new (atKey_none_of_get c)];intro x g;rcases ng.mp g with g|g
   ·exact knd.keeps (l x g) i h (Heap.SameBut.update ..)
   ·simp only [mL]at g;subst g;exact knd.keeps f i h (Heap.SameBut.update ..)
  ·rw[storedH_new (atKey_none_of_get c)];rw[iK,qj];refine hQ q (by simp) ?_;intro x g y r;simp only [iN,List.map_nil,mL]at r;subst r;exact λe=>m (e▸g)
 ·intro j p t;refine cz (wpAny_dictEntries (s:={s with toks:=s.toks+knd.draws k}) i h ?_);rw[entry_at n j,t];exact cz (wpAny_rule (hE (h1 _ (atKey_of_get q t))))
theorem Ks(knd:HeapKind prog w K)(d a:zW)(j:(d==sysModules)=false)(b:zX):
  MeetsIn prog w (Builtin.«dict.setdefault» ⟨[.ref d,.ref a,b],[]⟩) (λA R s=>knd.room A.in1/\∃k xs,knd.is s.heap k a/\s.heap.DictOfH knd d xs/\xs.length<=sizeLine/\
   (∀p,atKey xs k=some p->R (.ok (.ret p.2)) {s with toks:=s.toks+knd.draws k})/\
   (atKey xs k=none->∀h',h'.DictOfH knd d (storedH xs k a b)->Heap.SameBut d s.heap h'->R (.ok (.ret b)) {s with heap:=h',toks:=s.toks+knd.draws k})):=
 .of_wp λA R s ⟨o,k,xs,c,g,m,i,n⟩=>by unfold Builtin.«dict.setdefault»;refine cz ?_;unfold Builtin.Dict.keyAndDefault;refine cz (wpAny_notOrdered_dict g.typeIs ?_);show wpAny _ _ (pure (d,Value.ref a,some b)) _ _ s;refine hE ?_;show wpAny _ _ (if (d==sysModules)=true then _ else (dictSetDefault d (.ref a) b>>=_)) _ _ s;rw[fy (by rw[j];exact jD)];exact cz (Kx (hsz:=m) o c g (λv l=>hE (ah _ rfl (i v l))) λh h' f e=>hE (ah b rfl (n h h' f e)))
end
def B7g(H:Hp):nD->V->Prop|.inl k,v=>v=kV k|.inr ks,v=>∃b,v=.ref b/\H b=some (.tup (ks.map kV))
def A1x(H:Hp)(k:ij)(b:zW):Prop:=∃a,H b=some (.tup a)/\Paired (B7g H) k a
theorem B7g.keeps{p:nD}(e:B7g H p v)(c:∀b xs,H b=some (.tup xs)->H' b=some (.tup xs)):B7g H' p v:=by
 cases p with
 |inl k=>exact e
 |inr ks=>obtain⟨b,d,a⟩:=e;exact ah b d (c _ _ a)
theorem A1x.keeps{k:ij}(e:A1x H k b)(a:∀b xs,H b=some (.tup xs)->H' b=some (.tup xs)):A1x H' k b :=let⟨vs,e1,e2⟩:=e;(ah vs (a _ _ e1) (Paired.mapP e2 λ_ _ z=>z.keeps a))
theorem om{c:zW}(h:H b=some (.tup [.str x,.ref c]))(a:H c=some (.tup (ks.map kV))):A1x H [.inl (.inr x),.inr ks] b :=(ah _ h (.cons rfl (.cons (ah c rfl a) .nil)))
theorem AY(a:HOk P w H h):∀{k:ij}{vs:zM}{us:zH},Paired (B7g H) k vs->A2d vs us->A4i P w h k us
 |_,_,_,.nil,.nil=>.nil
 |p::_,_,_,.cons e t,.cons r u=>by
  refine .cons ?_ (AY a t u)
  cases p with
  |inl k=>obtain rfl:=e;exact rV r
  |inr ks=>obtain⟨c,rfl,b⟩:=e;cases r;exact ah c rfl (vk a b)
theorem A1x.is{k:ij}(c:HOk P w H h)(e:A1x H k b):A5j P w h k b:=by obtain⟨d,j,i⟩:=e;refine wc (show A1s P w H h b (.tup d) from c b _ j) λ_ a r o f l n g=>?_;exact jv o a.toArray n f l g (by simpa using AY c i r)
abbrev KN:List (ij×zW×V)->List (ij×zW×zX)->Prop:=Paired λp q=>p.1=q.1/\p.2.1=q.2.1/\A2q p.2.2 q.2.2
def mT(kas:List (ij×zW×V)):List (ij×V):=kas.map λp=>(p.1,p.2.2)
def ndV(P:yB)(w:yD)(sh:List Bool)(a:zW)(kas:List (ij×zW×V)):HO:=.ext λh=>kas.length<=sizeLine/\(a==sysModules)=false/\∃b,KN kas b/\
 ∃o c d,h.get? a=some o/\o.ExactDict/\o.data=.dict c d/\c.toList=b.map (entryOfKey (oH P w sh))/\(b.map (·.1)).Nodup
def A3g(P:yB)(w:yD)(sh:List Bool)(H:Hp)(a:zW)(kvs:List (ij×V)):Prop :=∃b,H a=some (ndV P w sh a b)/\mT b=kvs/\∀p∈b,p.1.map Sum.isLeft=sh/\A1x H p.1 p.2.1
theorem y6{xs:List (ij×zW×zX)}(z:kas.length<=sizeLine)(g:(a==sysModules)=false)(r:KN kas xs)(l:h.DictOfH (oH P w sh) a xs):A1s P w H h a (ndV P w sh a kas):=by refine iW l ?_;clear l;rintro o c f b e d ⟨i,_,j⟩;exact hQ (kE z g xs r (jX o c f b e d i j)) ⟨o,b⟩ (by (rintro p n m;refine mj m ?_;clear m;rintro z g xs r o c f b ⟨e,d,i,j⟩ k);exact kE z g xs r (jX o c f (k o b) e d i j))
theorem A3g.keeps{kvs:List (ij×V)}(d:A3g P w sh H a kvs)(g:∀o,H a=some o->H' a=some o)(f:∀b xs,H b=some (.tup xs)->H' b=some (.tup xs)):A3g P w sh H' a kvs :=let⟨kas,e,b,n⟩:=d;(hH kas (g _ e) b λp c=>⟨(n p c).1,(n p c).2.keeps f⟩)
theorem A3g.at{kvs:List (ij×V)}(g:HOk P w H h)(d:A3g P w sh H a kvs):∃kas xs,H a=some (ndV P w sh a kas)/\mT kas=kvs/\(∀p∈kas,p.1.map Sum.isLeft=sh/\A1x H p.1 p.2.1)/\
  kas.length<=sizeLine/\(a==sysModules)=false/\KN kas xs/\h.DictOfH (oH P w sh) a xs:=by
 obtain⟨kas,e,i,n⟩:=d;obtain⟨⟨z,D,xs,r,o,A,u,B,v,C,s,k⟩,_,_⟩:=(show A1s P w H h a (ndV P w sh a kas) from g a _ e);refine pD kas xs e i n z D ⟨r,(nM o A u B v C s (λx b=>?_) k)⟩
 have c:∀{l:List (ij×zW×V)}{m:List (ij×zW×zX)},KN l m->(∀p∈l,p.1.map Sum.isLeft=sh/\A1x H p.1 p.2.1)->∀x∈m,(oH P w sh).is h x.1 x.2.1:=by
  intro l m q
  induction q with
  |nil=>intro _ x b;exact nomatch b
  |@cons p q ps qs hq t ih=>
   intro f x b;rcases jt.mp b with e|b
   ·subst e;have:=f p sZ;rw[<-hq.1,<-hq.2.1];exact⟨this.1,this.2.is g⟩
   ·exact ih (λy j=>f y (qh _ j)) x b
 exact c r n x b
theorem KN.val{xs:List (ij×zW×zX)}(r:KN kas xs)(k:ij):B3y (ic (mT kas) k) ((atKey xs k).map (·.2)):=by
 induction r with
 |nil=>exact True.intro
 |@cons p q ps qs h t ih=>
  obtain⟨c,_,d⟩:=h;show B3y (ic ((p.1,p.2.2)::mT ps) k) _;by_cases e:p.1=k
  ·have a:q.1=k:=c.symm.trans e;have b:atKey (q::qs) k=some q.2:=by simp[atKey,qb,a]
   rw[mP (p:=(p.1,p.2.2)) e,b];exact d
  ·have a:¬q.1=k:=λz=>e (c.trans z);have b:atKey (q::qs) k=atKey qs k:=by simp[atKey,qb,a]
   rw[mI (p:=(p.1,p.2.2)) e,b];exact ih
def oA(kas:List (ij×zW×V))(k:ij)(b:zW)(v:V):List (ij×zW×V):=if ((mT kas).any λa=>decide (a.1=k))=true then kas.map λp=>if p.1=k then (p.1,p.2.1,v)else p else kas++[(k,b,v)]
theorem Fj(kas:List (ij×zW×V))(k:ij)(b:zW)(v:V):mT (oA kas k b v)=iL (mT kas) k v:=by
 unfold oA iL;by_cases q:((mT kas).any λa=>decide (a.1=k))=true
 ·rw[ia q,ia q];unfold mT;rw[List.map_map,List.map_map];refine List.map_congr_left λp _=>?_;simp only [Function.comp];split<;>rfl
 ·rw[fy q,fy q];unfold mT;rw[iK];rfl
theorem Ja(kas:List (ij×zW×V))(k:ij)(b:zW)(v:V):(oA kas k b v).length<=kas.length+1:=by
 unfold oA;split
 ·rw[hA];lia
 ·rw[jc];exact ig _
theorem FC{k:ij}{p:ij×zW×V}(h:p∈oA kas k b v):(∃q∈kas,p.1=q.1/\p.2.1=q.2.1)\/(p.1=k/\p.2.1=b):=by
 unfold oA at h;split at h
 ·obtain⟨q,a,e⟩:=kg.mp h;refine .inl (ah q a ?_);split at e
  ·subst e;exact⟨rfl,rfl⟩
  ·subst e;exact⟨rfl,rfl⟩
 ·rcases ng.mp h with h|h
  ·exact .inl (hH p h rfl rfl)
  ·rw[mL]at h;subst h;exact .inr ⟨rfl,rfl⟩
theorem KN.put{xs:List (ij×zW×zX)}(r:KN kas xs)(k:ij){y:V}{u:zX}(c:A2q y u):KN (oA kas k b y) (storedH xs k b u):=by
 have e:((mT kas).any λg=>decide (g.1=k))=(atKey xs k).isSome:=by rw[oV,(r.val k).isSome_eq,Option.isSome_map]
 unfold oA storedH;rw[e];by_cases q:(atKey xs k).isSome=true
 ·rw[ia q,ia q];clear e q
  induction r with
  |nil=>exact .nil
  |@cons p q ps qs h t ih=>
   rw[iN,iN];refine .cons ?_ ih;obtain⟨a,d,f⟩:=h;unfold putAt;by_cases e:p.1=k
   ·rw[ia e,ia (a.symm.trans e)];exact hQ a d c
   ·rw[fy e,fy (λz=>e (a.trans z))];exact hQ a d f
 ·rw[fy q,fy q];exact Paired.snoc (F:=λ(p:ij×zW×V)(q:ij×zW×zX)=>p.1=q.1/\p.2.1=q.2.1/\A2q p.2.2 q.2.2) (hQ rfl rfl c) r
theorem pM{k:Nat}(a:B0x k A):A.units+9<cLine:=by have:=a.un;lia
section
variable{d:V}{r u:zX}{k:ij}{kvs:List (ij×V)}
theorem A3g.typeIs(I:Inv X pins Z H s)(g:A3g X.prog X.w sh H a kvs):s.TypeIs (.ref a) "dict" :=let⟨_,_,_,_,_,_,_,_,dd⟩:=g.at I.hok;dd.typeIs
theorem GL{Q:zA}(y:A.units+9<cLine)(I:Inv X pins Z H s)(g:A3g X.prog X.w sh H a kvs)(m:A1x H k b)(q:k.map Sum.isLeft=sh)(l:ic kvs k=some v)
  (h:∀c s',Inv X pins Z H s'->A2q v c->Q c s'):wpAny (model X.prog X.w) A (getItem (.ref a) (.ref b)) Q E s:=by
 refine jC (g.at I.hok) ?_;rintro r j e rfl n ⟨z,B,i,t⟩;obtain⟨c,u,d⟩:=B3y.some_of (v:=v) (o:=(atKey j k).map (·.2)) (by rw[<-l];exact i.val k);obtain⟨p,x,f⟩:=oP.mp u;refine wpAny_getItem_heap (knd:=oH X.prog X.w sh) (show A.units+1+8<cLine by lia) ⟨q,m.is I.hok⟩ t x ?_;rw[f];exact h c _ (I.tok _) d
theorem n_in{Q:zA}(o:A.units+9<cLine)(I:Inv X pins Z H s)(g:A3g X.prog X.w sh H a kvs)(d:A1x H k b)(j:k.map Sum.isLeft=sh)
  (h:∀s',Inv X pins Z H s'->Q (.bool (ic kvs k).isSome) s'):wpAny (model X.prog X.w) A (compareOp .In (.ref b) (.ref a)) Q E s:=by
 refine jC (g.at I.hok) ?_;rintro l m e rfl n ⟨z,f,c,i⟩;refine wpAny_in_heap (knd:=oH X.prog X.w sh) (show A.units+1+8<cLine by lia) ⟨j,d.is I.hok⟩ f i ?_;have q:=(c.val k).isSome_eq;rw[Option.isSome_map]at q;rw[<-q];exact h _ (I.tok _)
theorem Df{Q:zA}(q:A.units+9<cLine)(I:Inv X pins Z H s)(g:A3g X.prog X.w sh H a kvs)(l:A1x H k b)(o:k.map Sum.isLeft=sh)(rd:A2q d r)
  (h:∀f s',Inv X pins Z H s'->A2q ((ic kvs k).getD d) f->Q f s'):wpAny (model X.prog X.w) A (call (.builtin "dict.get") [.ref a,.ref b,r]) Q E s:=by
 refine jC (g.at I.hok) ?_;rintro p j e rfl n ⟨z,m,c,i⟩;refine call_meetsIn PySem.F.slot_dict_get i.typeIs PySem.F.entry_dict_get (PySem.F.args_dict_get_3 _ _ _) (meetsH_dict_get_default (oH X.prog X.w sh) a b m r) (jN (show A.units+1+8<cLine by lia) k j ⟨o,l.is I.hok⟩ i (h _ _ (I.tok _) ?_));exact(c.val k).getD rd
theorem BJ{xs:List (ij×zW×zX)}(I:Inv X pins Z H s)(e:H a=some (ndV X.prog X.w sh a kas))(n:∀p∈kas,p.1.map Sum.isLeft=sh/\A1x H p.1 p.2.1)
  (C:(mT kas).length<sizeLine) (A:(a==sysModules)=false) (g:KN kas xs) (x:A1x H k b) (y:k.map Sum.isLeft=sh) (t:A2q v u)
  (r:h'.DictOfH (oH X.prog X.w sh) a (storedH xs k b u)) (i:Heap.SameBut a s.heap h'):
  Inv X pins Z (upd H a (ndV X.prog X.w sh a (oA kas k b v))) {s with heap:=h',toks:=t'}/\A3g X.prog X.w sh (upd H a (ndV X.prog X.w sh a (oA kas k b v))) a (iL (mT kas) k v):=by
 have h:(oA kas k b v).length<=sizeLine:=by
  have F:=Ja kas k b v;have D:(mT kas).length=kas.length:=hA _
  lia
 have o:∀c f,H c=some (.tup f)->upd H a (ndV X.prog X.w sh a (oA kas k b v)) c=some (.tup f):=λc f m=>by rw[dV (ir m e (λz=>nomatch z))];exact m
 refine jU (vq I (by rw[e];exact True.intro) i (let⟨q,_,_,d,_⟩:=r;⟨q,d⟩) (y6 h A (g.put k t) r)) _ dh (Fj _ _ _ _) λp B=>?_;rcases FC B with ⟨q,d,j,l⟩|⟨j,l⟩
 ·rw[j,l];exact⟨(n q d).1,(n q d).2.keeps o⟩
 ·rw[j,l];exact⟨y,x.keeps o⟩
theorem Gu{Q:Unit->zY->Prop}(B:A.units+9<cLine)(I:Inv X pins Z H s)(g:A3g X.prog X.w sh H a kvs)(i:A1x H k b)(j:k.map Sum.isLeft=sh)(l:kvs.length<sizeLine)(p:A2q v u)
  (h:∀o s',Inv X pins Z (upd H a o) s'->A3g X.prog X.w sh (upd H a o) a (iL kvs k v)->Q () s'):wpAny (model X.prog X.w) A (setItem (.ref a) (.ref b) u) Q E s:=by
 refine jC (g.at I.hok) ?_;rintro t m e rfl n ⟨z,x,c,y⟩;have r:m.length<=sizeLine:=by rw[<-Paired.length c];exact z
 refine wpAny_setItem_heap (knd:=oH X.prog X.w sh) (hsz:=r) (show A.units+1+8<cLine by lia) ⟨j,i.is I.hok⟩ y λC f d=>?_;obtain⟨I',q⟩:=BJ (t':=s.toks+(oH X.prog X.w sh).draws k) I e n l x c i j p f d;exact h _ _ I' q
theorem DJ{Q:zA}(K:A.units+9<cLine)(I:Inv X pins Z H s)(g:A3g X.prog X.w sh H a kvs)(l:A1x H k b)(m:k.map Sum.isLeft=sh)(B:kvs.length<sizeLine)(C:A2q v u)
  (h1:∀y q s',ic kvs k=some y->Inv X pins Z H s'->A2q y q->Q q s')
  (h2:ic kvs k=none->∀o s',Inv X pins Z (upd H a o) s'->A3g X.prog X.w sh (upd H a o) a (iL kvs k v)->Q u s'):wpAny (model X.prog X.w) A (call (.builtin "dict.setdefault") [.ref a,.ref b,u]) Q E s:=by
 refine jC (g.at I.hok) ?_;rintro f j e rfl n ⟨z,r,d,t⟩;have G:j.length<=sizeLine:=by rw[<-Paired.length d];exact z
 have c:=d.val k;refine call_meetsIn PySem.F.slot_dict_setdefault t.typeIs PySem.F.entry_dict_setdefault (PySem.F.args_dict_setdefault_3 _ _ _) (Ks (oH X.prog X.w sh) a b r u) ⟨(show A.units+1+8<cLine by lia),(jA k j ⟨m,l.is I.hok⟩ t G (λp J=>?_) λx L i h=>?_)⟩
 ·rw[J]at c
  cases ev:ic (mT f) k with
  |none=>rw[ev]at c;exact False.elim c
  |some y=>rw[ev]at c;exact h1 y _ _ ev (I.tok _) c
 ·rw[x]at c
  cases ev:ic (mT f) k with
  |none=>obtain⟨I',D⟩:=BJ (t':=s.toks+(oH X.prog X.w sh).draws k) I e n B r d l m C i h;exact h2 ev _ _ I' D
  |some y=>rw[ev]at c;exact False.elim c
end
structure tI(P:yB)(w:yD)(H:Hp)(x y:V)(a b:zW)(sh:List Bool)(kvs:List (ij×V))(k:ij):Prop where
 ex:x=.ref a
 ey:y=.ref b
 nd:A3g P w sh H a kvs
 at':A1x H k b
 sh':k.map Sum.isLeft=sh
def CB(P:yB)(w:yD)(td ty:TE):TE:=λZ H Q=>td Z H λx f=>ty Z f λy d=>∃a b e c k v,tI P w d x y a b e c k/\ic c k=some v/\Q v d
def yo(P:yB)(w:yD):R2:=λy x H Q=>∃a b d c k,tI P w H x y a b d c k/\Q (.bl (ic c k).isSome) H
def CQ(P:yB)(w:yD):uI:=λx y v H Q=>∃a b d c k,tI P w H x y a b d c k/\c.length<sizeLine/\∀o,A3g P w d (upd H a o) a (iL c k v)->Q (upd H a o)
def DP(P:yB)(w:yD)(sh:List Bool):TE:=λ_ H Q=>∀p o,H p=none->A3g P w sh (upd H p o) p []->Q (.ref p) (upd H p o)
def CK(P:yB)(w:yD):V->List V->Hp->VK->Prop:=λx e H Q=>∃a b d c k y z,e=[y,z]/\tI P w H x y a b d c k/\Q ((ic c k).getD z) H
def Dz(P:yB)(w:yD):V->List V->Hp->VK->Prop:=λx e H Q=>∃a b d c k y z,e=[y,z]/\tI P w H x y a b d c k/\c.length<sizeLine/\
 (∀v,ic c k=some v->Q v H)/\(ic c k=none->∀o,A3g P w d (upd H a o) a (iL c k z)->Q z (upd H a o))
def tBMN(P:yB)(w:yD)(r:V->List V->Hp->VK->Prop)(to:TE)(t:TA):TE:=λZ H Q=>to Z H λx c=>(∃a d b,x=.ref a/\A3g P w d c a b)/\t Z c λe f=>r x e f Q
section
variable{o i e:yC}
theorem pQ(p:X.A.units+9<cLine)(t:PE X o td)(hi:PE X i ty)(L:wr i):PE X (.Subscript o i pos) (CB X.prog X.w td ty):=by intro c s Z H Q I h;refine zo PySem.F.slot_dict_getitem.lookup L (thn (t c s Z H _ I h) ?_);rintro u C ⟨x,G,I1,m,n⟩;refine thn (hi c C Z G _ I1 n) ?_;rintro r P j;refine oY j ?_;clear j;rintro y z I2 q a b M ⟨B,k,v,⟨J,K,g,d,e⟩,l,D⟩;subst J K;obtain rfl:u=Value.ref a:=m;obtain rfl:r=Value.ref b:=q;exact⟨g.typeIs I2,GL p I2 g d e l λO N I3 f=>(fx v z I3 f D)⟩
theorem ro(l:X.A.units+9<cLine):OpR X (compareOp .In) (yo X.prog X.w):=by intro f s Z H x y v u Q I g m h;refine kF h ?_;clear h;rintro a b p e k ⟨⟨i,j,n,c,d⟩,q⟩;subst i j;obtain rfl:v=Value.ref b:=g;obtain rfl:u=Value.ref a:=m;exact n_in l I n c d λo I3=>(fx (.bl (ic e k).isSome) H I3 rfl q)
theorem qH(n:X.A.units+9<cLine):wx X (CQ X.prog X.w):=by intro e s Z H o i v j p u Q I m x l h;refine kF h ?_;clear h;rintro a b B t k ⟨⟨y,z,r,c,d⟩,g,q⟩;subst y z;obtain rfl:j=Value.ref a:=m;obtain rfl:p=Value.ref b:=x;exact Gu n I r c d g l λo C I3 f=>(ah _ I3 (q o f))
theorem rB:PE X (.Dict [] [] pos) (DP X.prog X.w sh):=λb s Z H Q I h=>by have c:=I.big;have d:(s.heap.objs.size==sysModules)=false:=qU.mpr (Ne.symm (jJ c));refine wpAny_Dict_empty (fx (.ref s.heap.objs.size) _ (I.laid (a:=s.heap.objs.size) (o:=ndV X.prog X.w sh s.heap.objs.size []) (t':=s.toks) (λ_ _ q=>iB _ q) (ig _) (y6 (jP _) d .nil (Heap.DictOfH.new s.heap))) rfl (h _ _ (I.hok.fresh (ig _)) (hH [] dh rfl λp e=>nomatch e)))
theorem Ab(j:X.A.units+9<cLine):MtR X "dict.get" (CK X.prog X.w):=by
 intro g s Z H x t v p Q I i c h;refine kF h ?_;clear h;rintro a b r m k ⟨y,z,rfl,⟨n,o,l,d,e⟩,q⟩;subst n o;obtain rfl:v=Value.ref a:=i
 cases c with
 |cons r1 c=>
  cases c with
  |cons r2 c=>
   cases c
   cases r1
   exact Df j I l d e r2 λB u I3 f=>(fx _ H I3 f q)
theorem xx(p:X.A.units+9<cLine):MtR X "dict.setdefault" (Dz X.prog X.w):=by
 intro g s Z H x G v D Q I m c h;refine kF h ?_;clear h;rintro a b F r k ⟨y,z,rfl,⟨u,C,q,d,e⟩,j,n,t⟩;subst u C;obtain rfl:v=Value.ref a:=m
 cases c with
 |cons r1 c=>
  cases c with
  |cons r2 c=>
   cases c
   cases r1
   exact DJ p I q d e j r2 (λy J B l I3 f=>(fx _ H I3 f (n y l))) λl o B I3 i=>(fx _ _ I3 r2 (t l o i))
theorem A3g.noDict{kvs:List (ij×V)}(I:Inv X pins Z H s)(g:A3g X.prog X.w sh H a kvs):∀b,Value.ref a=.ref b->∃c,s.heap.get? b=some c/\c.dict=none:=λb q=>by
 cases q
 refine jC (g.at I.hok) ?_;rintro _ _ _ _ _ ⟨_,_,_,c,_,_,d,e,_⟩;exact ah c d e.2.1
variable{es:zT}{t:TA}{id:String}{r:V->List V->Hp->VK->Prop}
theorem tR(i:Slot "dict" name id)(j:typeOf (.builtin id)=pure (.type "method_descriptor"))(u:MtR X id r)(n:PE X o to)(L:PA X (e::es) t)
  (f:attributeBase o name X.env (eval o X.env)=eval o X.env:=by rfl)
  (g:((backTo cpos (starEach (e::es) X.env)).all (λx=> ! x.1)&&(backToKw cpos (keywordEach [] X.env)).all (λx=>x.1.isSome)
   && decide ((e::es).length+([]:List Keyword).length+(if ([]:List Keyword).isEmpty then 0 else 1)<30))=true:=by rfl)
  (d:(apos.endLine==cpos.line)=true:=by rfl) (G:starEach (e::es) X.env=(false,eval e X.env)::starEach es X.env:=by rfl) (c:(backTo cpos (starEach es X.env)).any (·.1)=false:=by rfl):
  PE X (.Call (.Attribute o name apos) (e::es) [] cpos) (tBMN X.prog X.w r to t):=by
 intro b s Z H Q I h;refine wpAny_Call_method_late f g d rfl (thn (n b s Z H _ I h) ?_);rintro v y ⟨x,A,I1,C,⟨a,N,q,D,l⟩,m⟩;subst D;obtain rfl:v=Value.ref a:=C;refine pD "dict" id PySem.F.plainAttrs_dict i j (l.typeIs I1) (l.noDict I1) ?_;have k:=L cpos b y Z A _ I1 m;rw[G]at k⊢;refine Calls.callWith_builtin (by show(false||(backTo cpos (starEach es X.env)).any (·.1))=false;rw[c]<;>rfl) (Calls.evalArgs_plain ?_);exact thn k (by rintro M J ⟨B,p,I2,K,z⟩;exact u b J Z p (.ref a) B _ M Q I2 rfl K z)
end
def kX(H:Hp)(a:zW):Hp:=λb=>if b=a then none else H b
theorem xC(h:b≠a):kX H a b=H b:=by unfold kX;rw[fy h]
theorem HS{o:HO}(h:kX H a b=some o):b≠a/\H b=some o:=by
 unfold kX at h;by_cases z:b=a
 ·rw[ia z]at h;cases h
 ·rw[fy z]at h;exact⟨z,h⟩
theorem rJ(h:H b=none):kX H a b=none:=by
 unfold kX;split
 ·rfl
 ·exact h
theorem Inv.drop(I:Inv X pins Z H s)(e:H a=some (.ext φ)):Inv X pins Z (kX H a) s:=by
 have d:∀b o,H b=some o->o≠.ext φ->kX H a b=some o:=λb o q n=>by rw[xC (ir q e n)];exact q
 refine⟨I.ok,I.os,I.bare,⟨I.base.keep,I.base.slot,λb o q n g=>rJ (I.base.free b o q n g),I.base.there,λb f q=>d _ _ (I.base.tups b f q) (λz=>nomatch z),λb o u q=>d _ _ (I.base.frzs b o u q) (λz=>nomatch z),λb h q=>?_⟩,I.loc,I.cell,rJ I.free,λx c q=>rJ (I.freeC x c q),λp i=>?_,λb o q=>?_,I.len⟩
 ·obtain⟨m,z⟩:=I.base.tbls b h q;exact⟨m,d _ _ z (λz=>nomatch z)⟩
 ·obtain⟨q,n,r⟩:=I.pin p i;exact hQ q (rJ n) r
 ·obtain⟨_,z⟩:=HS q;exact(I.hok b o z).stay (λ_ _ _ q=>q) (λc q=>d _ _ q (λz=>nomatch z)) λc f q=>d _ _ q (λz=>nomatch z)
section
variable{outer:List Env}{E:XK}
end
end L2
namespace HT
open PySem PySem.Spec PyProof.Rows L2
section
variable{prog:yB}{w:yD}{A:zZ}{E:zA}{s:zY}
end
end HT
namespace L2
open PySem PySem.Spec PyProof.Rows
variable{α:Type}{z l it i2 i1 d D:zW}{xs:zM}{x:zX}{w:yD}{u tb:TS}{tpos pos' pos p:Pos}{tl te:TE}{tg iter e c:yC}{tc:TT}{ta:TA}{sts rest body b a:List Stmt}{st:Stmt}{s:zY}{prog P:yB}{pins:zD}{od o:Obj}{n m kk i ep:Nat}{kvs:List (List Key×V)}{its:zH}{items:zG}{g:TG}{es:Array DictEntry}{elts:zT}{Z₀ Z:St}{X:Cx}{QD:Hp->Prop}{Q E:zA}{K:Frag}{J:It}{H:Hp}{A:zZ}
theorem sk{f:α->V}{ys:List α}:kR (ys.map f) none (some (i:Int))=(ys.take i).map f:=by
 unfold kR;have b:HT.sIx (ys.map f).length 0 none=0:=rfl;have a:HT.sIx (ys.map f).length (ys.map f).length (some (i:Int))=min i (ys.map f).length:=HT.sIx_nat _ _ _;rw[b,a,List.drop_zero,Nat.sub_zero,List.map_take];by_cases h:i<=(ys.map f).length
 ·rw[Nat.min_eq_left h]
 ·rw[Nat.min_eq_right (by lia),sX (ig _),sX (by lia)]
theorem Kg(b:s.heap.IsRevIter it l (i:Int))(h:s.heap.IsList l items)(j:items[i]?=some x)
  (g:∀h',h'.IsRevIter it l ((i:Int)-1)->Heap.SameBut it s.heap h'->Q x {s with heap:=h'}):wpAny (model prog w) A (Builtin.SmallTypes.nextOf (.ref it)) Q E s:=by
 obtain⟨o,d,k,c⟩:=id b;obtain⟨m,f,_,n,e⟩:=h;unfold Builtin.SmallTypes.nextOf;refine cz (nA (name:=Str.ofString "__next__") b.typeIs F.slot_lri_next (mn F.slot_lri_next b.typeIs F.entry_lri_next ?_ (F.args_lri_next_1 _)));unfold Builtin.«list_reverseiterator.__next__»;refine cz (wpAny_of_eq (a:=(Value.ref it,[])) rfl ?_)
 try dsimp only
 refine cz (jQ d c (x:=rawInt (i:Int)) rfl (show wpAny _ _ (if (i:Int)<0 then _ else _) _ _ s from ?_));rw[fy (by lia)];refine(show wpAny _ _ (field (.ref it) 0>>=_) _ _ s from cz (jQ d c (x:=.ref l) rfl (show wpAny _ _ (seqItems? (.ref l)>>=_) _ _ s from cz (mK f e ?_))));simp only [Int.toNat_natCast,j];refine cz (qg d c (by simp) ?_)
 first
 |refine hE (ah x rfl (hE (g _ ?_ (Heap.SameBut.update ..))))
 |refine cz (hE (hE ⟨x,rfl,hE (g _ ?_ (Heap.SameBut.update ..))⟩))
 exact hH _ (rL _ d (Obj.isFreed_of_fields (Obj.data_mapFields c _))) ((Obj.cls_mapFields ..).trans k) (by rw[Obj.data_mapFields c];simp)
theorem J6(c:A.handled=none)(b:s.heap.IsRevIter it l (-1))
  (g:∀h' e,Heap.ExtBut it s.heap h'->(∃o,h'.get? e=some o/\o.cls=.type "StopIteration")->E (.ref e) {s with heap:=h'}):wpAny (model prog w) A (Builtin.SmallTypes.nextOf (.ref it)) Q E s:=by
 obtain⟨o,d,h,f⟩:=id b;unfold Builtin.SmallTypes.nextOf;refine cz (nA (name:=Str.ofString "__next__") b.typeIs F.slot_lri_next (mn F.slot_lri_next b.typeIs F.entry_lri_next ?_ (F.args_lri_next_1 _)));unfold Builtin.«list_reverseiterator.__next__»;refine cz (wpAny_of_eq (a:=(Value.ref it,[])) rfl ?_)
 try dsimp only
 refine cz (jQ d f (x:=rawInt (-1)) rfl (show wpAny _ _ (if (-1:Int)<0 then _ else _) _ _ s from ?_));rw[ia (by decide)];refine cz (wpAny_rule ?_)
 first
 |show wpAny _ _ (newExc (.type "StopIteration") []>>=_) _ _ _
 |(refine cz ?_;show wpAny _ _ (newExc (.type "StopIteration") []>>=_) _ _ _)
 refine cz ?_;simp only [newExc,newTuple];refine cz (nQ ?_ (by size_fits));refine cz (m:=firstArgMember _ _) (wpAny_of_eq (a:=Value.none) (by first|rfl|(simp only [firstArgMember];rfl)) (nQ ?_ (by size_fits)));simp only [raiseNew];refine cz (wpAny_handled ?_)
 first|rw[show A.in1.handled=none from c]|rw[c]
 refine cz (hE (wpAny_throw ?_));exact g _ _ (((Heap.ExtBut.refl _ _).push _).push _) (ah _ (jw _ rfl) rfl)
theorem oD(it l:zW)(n:Nat):Nx it l (λk h=>k<=n/\h.IsRevIter it l ((n:Int)-1-(k:Int))) (λxs h=>xs.size=n/\h.IsList l xs.reverse) where
 item:=by
  intro c w A E s k xs x Q i b g y;obtain⟨r,a⟩:=i;obtain⟨u,q⟩:=b;have m:k<n:=by have:=(xZ.mp g).1;lia
  have j:(n:Int)-1-(k:Int)=((n-1-k:Nat):Int):=by lia
  rw[j]at a
  have p:xs.reverse[n-1-k]?=some x:=by rw[Array.getElem?_reverse (by lia),u];rw[show n-1-(n-1-k)=k by lia];exact g
  refine Kg a q p λD f F=>y D ⟨m,?_⟩ F;have G:((n-1-k:Nat):Int)-1=(n:Int)-1-((k+1:Nat):Int):=by lia
  rw[<-G];exact f
 fin:=by
  intro c w A E s k xs Q B i b g C;obtain⟨r,a⟩:=i;have t:n<=k:=by have:=Array.getElem?_eq_none_iff.mp g;have:=b.1;lia
  have j:(n:Int)-1-(k:Int)= -1:=by lia
  rw[j]at a;exact J6 B a C
 mv:=λx e=>⟨x.1,x.2.at e⟩
 mvS:=λx e=>⟨x.1,x.2.at e⟩
 ob:=λx=>by obtain⟨_,o,e,_,d⟩:=x;exact ah o e λv z=>by rw[d]at z;cases z
def yX(n m:Nat)(z TI TO c d a b:zW)(i:Nat)(h:yA):Prop:=IsZip h z TI TO .none/\IsPair h TI (.ref c) (.ref d)/\(∃u v,IsPair h TO u v)/\(i<=n/\h.IsRevIter c a ((n:Int)-1-(i:Int)))/\(i<=m/\h.IsRevIter d b ((m:Int)-1-(i:Int)))
def tw(K:Frag)(a b:zW)(n m:Nat):It :=
 ⟨λi H=>∃c d x y,SqL K H a c/\SqL K H b d/\c.length=n/\d.length=m/\c.reverse[i]?=some x/\d.reverse[i]?=some y,
  λi H v e=>∃p,H p=none/\v=.ref p/\∃x y,(∀c,SqL K H a c->c.reverse[i]?=some x)/\(∀d,SqL K H b d->d.reverse[i]?=some y)/\e=upd H p (.tup [x,y]),
  λi H=>∃c d,SqL K H a c/\SqL K H b d/\c.length=n/\d.length=m/\(n<=i\/m<=i)⟩
theorem yh(h:A2d xs its):A2d xs.reverse its.reverse:=by
 induction h with
 |nil=>exact .nil
 |cons r _ ih=>
  rw[List.reverse_cons,List.reverse_cons]
  have e:∀{a:zM}{b:zH}{c:zM}{d:zH},A2d a b->A2d c d->A2d (a++c) (b++d):=λf g=>by
   induction f with
   |nil=>exact g
   |cons r _ ih=>exact .cons r ih
  exact e ih (.cons r .nil)
theorem IE{TI TO a b:zW}(D:ZipApart z TI TO i1 i2 a b):
  C3f P w K (.Tuple elts kk pos) (tw K a b n m) [z,TI,TO,i1,i2] z (yX n m z TI TO i1 i2 a b) where
 mem:=by simp
 obj:=λi h p c d=>by
  obtain⟨F,l,⟨u,v,B⟩,t,C⟩:=p;simp only [jt,my,or_false]at d;rcases d with rfl|rfl|rfl|rfl|rfl
  ·exact ah _ F λv z=>by cases(show Data.fields _=Data.cell v from z)
  ·exact ah _ l λv z=>by cases(show Data.seq _ _=Data.cell v from z)
  ·exact ah _ B λv z=>by cases(show Data.seq _ _=Data.cell v from z)
  ·exact(oD _ a n).ob t
  ·exact(oD _ b m).ob C
 keep:=λi h h' p k=>by obtain⟨F,l,⟨u,v,B⟩,t,C⟩:=p;exact jH (k z (by simp) _ F) (k TI (by simp) _ l) (km u v (k TO (by simp) _ B)) ((oD i1 a n).mv t λo e=>k i1 (by simp) o e) ((oD i2 b m).mv C λo e=>k i2 (by simp) o e)
 item:=by
  intro X hP hw T d i A s Z H E I O p L;subst hP hw T;refine jy L ?_;clear L;rintro xs ys x y r q hn ⟨hm,S,hy⟩;obtain⟨G,N,Q,_⟩:=I.list r;obtain⟨f,j,p2,_⟩:=I.list q;obtain⟨u,hu,ru⟩:=(yh N).get S;obtain⟨u2,W,R⟩:=(yh j).get hy;have l1:=N.length;have l2:=j.length;obtain⟨F,l,⟨o1,o2,B⟩,t,C⟩:=p;refine xm (oD i1 a n) (oD i2 b m) D F l B t C (xs:=G.reverse.toArray) (ys:=f.reverse.toArray) ⟨by simp;lia,by simpa using Q.isList⟩ ⟨by simp;lia,by simpa using p2.isList⟩ (x:=u) (by simpa using hu) (y:=u2) (by simpa using W) λh' z1 z2 z3 z4 z5 M=>?_;refine ah _ rfl (wpAny_letOwnedTupleGo_zip (s:={s with heap:=h'}) z1 λg zg J=>?_)
  have nz:s.heap.objs.size≠z:=lH (iI F);have n2:TI<s.heap.objs.size:=iI l;have n3:TO<s.heap.objs.size:=iI B;have n4:i1<s.heap.objs.size:=by obtain⟨_,e,_⟩:=(oD i1 a n).ob t;exact iI e
  have n5:i2<s.heap.objs.size:=by obtain⟨_,e,_⟩:=(oD i2 b m).ob C;exact iI e
  have zq:IsPair g s.heap.objs.size u u2:=J.extBut _ _ nz z5
  have I1:Inv X A Z (upd H s.heap.objs.size (.tup [x,y])) {s with heap:=g,toks:=s.toks}:=I.turnedNew (ts:=[z,TI,TO,i1,i2]) (λc o d e=>by
   simp only [jt,my,or_false,not_or]at d
   exact J.extBut _ _ d.1 (M c o d.1 d.2.2.1 d.2.2.2.1 d.2.2.2.2 e)) O (ig _) (iV (by show 2<=sizeLine;decide) [u,u2] (.cons ru (.cons R .nil)) (oN _ zq rfl _ rfl))
  refine⟨.ref s.heap.objs.size,_,I1,rfl,(ah _ (I.hok.fresh (ig _)) (jN rfl x y (λzs U=>by rw[I.list_inj U r];exact S) (λzs U=>by rw[I.list_inj U q];exact hy) rfl)),
   (jH zg (J.extBut _ _ D.TIz (M _ _ D.TIz D.TITO D.TIi1 D.TIi2 l)) (km _ _ (J.extBut _ _ D.TOz z2)) ((oD i1 a n).mv z3 λo e=>J.extBut _ _ D.i1z e) ((oD i2 b m).mv z4 λo e=>J.extBut _ _ D.i2z e)),λc d=>?_⟩
  have Y:c≠s.heap.objs.size:=by
   simp only [jt,my,or_false]at d;rcases d with rfl|rfl|rfl|rfl|rfl
   ·exact nz.symm
   ·exact jJ n2
   ·exact jJ n3
   ·exact jJ n4
   ·exact jJ n5
  rw[dV Y];exact(O c d).1
 done:=by
  intro X hP hw T d i A s Z H E I O p L;subst hP hw T;refine jC L ?_;clear L;rintro xs ys r q hn ⟨hm,S⟩;obtain⟨G,N,Q,_⟩:=I.list r;obtain⟨f,j,p2,_⟩:=I.list q;have e1:=N.length;have e2:=j.length;obtain⟨F,l,⟨o1,o2,B⟩,t,C⟩:=p;refine Ey (oD i1 a n) (oD i2 b m) d D F l B t C (xs:=G.reverse.toArray) (ys:=f.reverse.toArray) ⟨by simp;lia,by simpa using Q.isList⟩ ⟨by simp;lia,by simpa using p2.isList⟩ (by simp;lia) λh' M=>⟨rfl,?_⟩
  exact I.turnedL (t':=s.toks) (ts:=[z,TI,TO,i1,i2]) (λc o d e=>by
   simp only [jt,my,or_false,not_or]at d
   exact M c o d.1 d.2.2.1 d.2.2.2.1 d.2.2.2.2 e) O
 self:=λ_ _ _ _ _ p h=>wpAny_pyIter_zip p.1 h
abbrev uS(h:yA)(a b:zW):yA:=h.push {cls:=.type "tuple",data:=.seq #[.ref a,.ref b]}
abbrev uK(h:yA)(a b:zW):yA:=(uS h a b).push {cls:=.type "tuple",data:=.seq #[.none,.none]}
abbrev ti(h:yA)(a b:zW):yA:=(uK h a b).push {cls:=.type "zip",data:=.fields #[.none,.bool false,.bool false,.ref h.objs.size,.ref (uS h a b).objs.size]}
theorem II(c e a b:zW)(i j:Int):Meets (Builtin.«zip.__new__» ⟨[.type "zip",.ref c,.ref e],[]⟩) (λ_ R s=>s.heap.IsRevIter c a i/\s.heap.IsRevIter e b j/\R (.ok (.ret (.ref (uK s.heap c e).objs.size))) {s with heap:=ti s.heap c e}):=
 .of_wp λn w A R s h=>by
  obtain⟨r,g,d,o,p⟩:=s;obtain⟨l,f,h⟩:=h;have q:=sub_zip;have m:(Shared.heap ⟨r,g,d,o,p⟩).IsRevIter c a i:=l;have k:(Shared.heap ⟨r,g,d,o,p⟩).IsRevIter e b j:=f
  wp_walk using wpAny_pyIter_revIter m,wpAny_pyIter_revIter k
  exact ah _ rfl h
theorem HN{f a b:zW}(g:s.heap.IsRevIter d a ((n:Int)-1))(i:s.heap.IsRevIter f b ((m:Int)-1))
  (h:∀h',yX n m (s.heap.objs.size+2) s.heap.objs.size (s.heap.objs.size+1) d f a b 0 h'->(∀c o,s.heap.get? c=some o->h'.get? c=some o)->Q (.ref (s.heap.objs.size+2)) {s with heap:=h'}):
  wpAny (model prog w) A (call (.type "zip") [.ref d,.ref f]) Q E s:=by
 refine callType_new F.called_zip (by decide) (F.typeCall_zip_2 _ _) (F.newCall_zip_2 _ _) (λj=>F.args_object_init_3 j _ _) F.entry_zip_new (II d f a b _ _) (hQ g i ?_);have l:(uS s.heap d f).objs.size=s.heap.objs.size+1:=ot ..;have r:(uK s.heap d f).objs.size=s.heap.objs.size+2:=by rw[ot,l]
 have k:∀c o,s.heap.get? c=some o->(ti s.heap d f).get? c=some o:=λc o x=>iB _ (iB _ (iB _ x));have p:(ti s.heap d f).get? (uK s.heap d f).objs.size=some _:=jw _ rfl;have q:(ti s.heap d f).get? (uS s.heap d f).objs.size=some _:=iB _ (jw _ rfl);have t:(ti s.heap d f).get? s.heap.objs.size=some _:=iB _ (iB _ (jw _ rfl));show _/\_;rw[l,r]at p;rw[l]at q;rw[r];refine⟨(ah _ p rfl),h _ (ke p t (km _ _ q) ⟨jP _,?_⟩ (jP _) ?_) k⟩
 ·have:=g.at λo e=>k _ o e
  simpa using this
 ·have:=i.at λo e=>k _ o e
  simpa using this
def FpX(X:Cx)(b:zW):Prop:=b≠X.env.locals/\b∉X.fs/\(b∈X.ex\/X.s₀.heap.objs.size<=b)/\∀x c,X.env.cells.lookup x=some c->c≠b
def nW(r a:zW)(n:Nat):HO:=.ext λh=>h.IsRevIter r a ((n:Int)-1)
theorem AS:oB X (.type "reversed") (λvs H Q=>∃a xs,vs=[V.ref a]/\SqL X.K H a xs/\∀r,H r=none->FpX X r->Q (.ref r) (upd H r (nW r a xs.length))):=by
 intro d s Z H vs y Q I r h;obtain⟨a,xs,rfl,n,q⟩:=h;obtain⟨u,rfl,p⟩:=ph r;cases p;obtain⟨b,i,g,_⟩:=I.list n;have j:(b.toArray.size:Int)-1=(xs.length:Int)-1:=by rw[jK,<-i.length]
 refine call_reversed_list g.isList ?_;rw[j];have f:(s.heap.push (revObj a ((xs.length:Int)-1))).IsRevIter s.heap.objs.size a ((xs.length:Int)-1):=(hH _ (jw _ rfl) rfl rfl);have c:=I.hok.fresh (ig s.heap.objs.size);obtain⟨_,t,m,v,l,_⟩:=I.fpOk (H':=H) (ig _) c;refine fx (.ref s.heap.objs.size) _ (I.laid (a:=s.heap.objs.size) (o:=nW s.heap.objs.size a xs.length) (t':=s.toks) (λ_ _ q=>iB _ q) (ig _) (hQ f ⟨_,jw _ rfl⟩ ?_)) rfl (q _ c (jO t m v l));intro x w z k;exact z.at λo e=>k o e
def Do(X:Cx)(ta:TA):TI:=λZ H R=>ta Z H λh e=>∃c d a b f g,h=[.ref c,.ref d]/\c≠d/\FpX X c/\FpX X d/\e c=some (nW c a f.length)/\e d=some (nW d b g.length)/\SqL X.K e a f/\SqL X.K e b g/\R (tw X.K a b f.length g.length) (kX (kX e c) d)
theorem Fb{a b:yC}(hg:Gl X "zip")(hm:X.mg "zip"=none)(ha:PA X [a,b] ta)(hs:starEach [a,b] X.env=[(false,eval a X.env),(false,eval b X.env)]:=by rfl)(C:starEach [b] X.env=[(false,eval b X.env)]:=by rfl):
  PI X (.Tuple elts kk tpos) (.Call (.Name "zip" p) [a,b] [] pos) (Do X ta):=by
 intro f s Z H R I h;refine Call_ (oF I hg hm boot_zip (PyProof.Rows.callWith_type1 (thn (ha pos f s Z H _ I h) ?_) (by rw[hs,C]) (by rw[C];rfl)));rintro us d zz;refine oY zz ?_;clear zz;rintro vs n I1 rv i g J ⟨l2,xs,O,e,Y,m,j,T,S,W,U,q⟩;subst e;obtain⟨u,u2,rfl,ru,L⟩:=rX rv;cases ru;cases L;obtain⟨y,_,_⟩:=(show A1s X.prog X.w n d.heap i (nW i J xs.length) from I1.hok i _ T);obtain⟨A,_,_⟩:=(show A1s X.prog X.w n d.heap g (nW g l2 O.length) from I1.hok g _ S);have y:d.heap.IsRevIter i J ((xs.length:Int)-1):=y;have A:d.heap.IsRevIter g l2 ((O.length:Int)-1):=A;obtain⟨a1,_,K,_⟩:=I1.list W;obtain⟨a0,_,Q,_⟩:=I1.list U;have t1:J<d.heap.objs.size:=ltK (k:=true) K.isList;have E:l2<d.heap.objs.size:=ltK (k:=true) Q.isList;have P:i<d.heap.objs.size:=by obtain⟨_,e,_⟩:=y;exact iI e
 have M:g<d.heap.objs.size:=by obtain⟨_,e,_⟩:=A;exact iI e
 have G:∀{l r c:zW}{k:Int}{it:zH},d.heap.IsList l it.toArray->d.heap.IsRevIter r c k->l≠r:=λhl hr z=>by subst z;obtain⟨o,e,c,_⟩:=hl;obtain⟨o',e',F,_⟩:=hr;rw[e]at e';cases e';rw[c]at F;injection F with F;exact absurd F (by decide)
 refine HN y A λh' zs kp=>wpAny_pyIter_zip zs.1 ?_;have I2:Inv X f Z n {d with heap:=h'}:=I1.kept (t':=d.toks) kp;have I3:=I2.drop T;have N:kX n i g=some (nW g l2 O.length):=by rw[xC Y.symm];exact S
 have I4:=I3.drop N;have t:∀{x:zW},x<d.heap.objs.size->∀k:Nat,x≠d.heap.objs.size+k:=λh k=>jJ (mC h (Nat.le_add_right _ _));have D:ZipApart (d.heap.objs.size+2) d.heap.objs.size (d.heap.objs.size+1) i g J l2:=⟨jJ (Nat.lt_add_of_pos_right (by decide)),jJ (Nat.lt_succ_self _),t P 2,t M 2,jJ (Nat.lt_succ_self _),lH P,lH M,(t P 1).symm,(t M 1).symm,Y,t t1 2,t t1 1,G K.isList y,G K.isList A,t E 2,t E 1,G Q.isList y,G Q.isList A⟩;have pn:∀{r:zW}{φ:HO},n r=some φ->∀q∈X.pn++f,q.1≠r:=λe q hq z=>by have:=(I1.pin q hq).2.1;rw[z,e]at this;cases this
 refine jk _ [d.heap.objs.size+2,d.heap.objs.size,d.heap.objs.size+1,i,g] _ _ _ rfl I4 (IE D) zs (λc hc=>?_) q;have n1:kX (kX n i) g i=none:=rJ (by unfold kX;exact ia rfl);have n2:kX (kX n i) g g=none:=by unfold kX;exact ia rfl
 have v:∀{c:zW},d.heap.objs.size<=c->mM X f (kX (kX n i) g) c:=λB=>I1.fpOk B (rJ (rJ (I1.hok.fresh B)));simp only [jt,my,or_false]at hc;rcases hc with rfl|rfl|rfl|rfl|rfl
 ·exact v (Nat.le_add_right _ _)
 ·exact v (ig _)
 ·exact v (Nat.le_add_right _ _)
 ·exact ke n1 m.1 m.2.1 m.2.2.1 m.2.2.2 (pn T)
 ·exact ke n2 j.1 j.2.1 j.2.2.1 j.2.2.2 (pn S)
theorem Ha{a b:zW}{ys:zM}{D:nn}(Pv:Nat->St->Hp->Prop)(n:Pv 0 Z H)(l:∀i Z H,Pv i Z H->SqL K H a xs/\SqL K H b ys)(h:xs.length=ys.length)
  (s:∀i x y Z H p,xs.reverse[i]?=some x->ys.reverse[i]?=some y->Pv i Z H->H p=none->g (.ref p) Z (upd H p (.tup [x,y])) λZ2 H2=>tb {D with nx:=Pv (i+1),ct:=Pv (i+1),bk:=D.nx} Z2 H2) (u:∀Z H,Pv xs.length Z H->D.nx Z H):
  ∃W:Nat->Nat->St->Hp->Prop,(∃m,W 0 m Z H)/\∀i m Z H,W i m Z H->
   ((tw K a b xs.length ys.length).stop i H/\D.nx Z H)\/((tw K a b xs.length ys.length).go i H/\∃N:St->Hp->Prop,(∀Z' H',N Z' H'->∃j,j<m/\W (i+1) j Z' H')/\∀x H',(tw K a b xs.length ys.length).yld i H x H'->g x Z H' λZ2 H2=>tb {D with nx:=N,ct:=N,bk:=D.nx} Z2 H2):=by
 refine ah (λi m Z H=>m=xs.length-i/\i<=xs.length/\Pv i Z H) (hH xs.length (by simp) (jP _) n) ?_;rintro i m Z H ⟨rfl,B,p⟩;obtain⟨f,d⟩:=l i Z H p;by_cases hlt:i<xs.length
 ·have r:xs.reverse[i]?=some (xs.reverse[i]'(by simpa using hlt)):=jq _;have A:ys.reverse[i]?=some (ys.reverse[i]'(by simp;lia)):=jq _;refine .inr (iV (lh xs ys _ _ f d rfl rfl r A) (Pv (i+1)) (λZ' H' t=>(ky (xs.length-(i+1)) (by lia) rfl hlt t)) ?_);rintro v H' k;refine oZ k ?_;clear k;rintro c o rfl ⟨x,z,w,q,rfl⟩;exact s i x z Z H c (w xs f) (q ys d) p o
 ·have e:i=xs.length:=by lia
  subst e;exact .inl ⟨(jA xs ys f d rfl rfl (.inl (ig _))),u Z H p⟩
theorem Inv.thawU{a:zW}{u:HO}(I:Inv X pins Z H s)(g:H a=some (.frz o u))(r:∀o' k,X.H₀ a≠some (.frz o' k)):Inv X pins Z (upd H a u) s:=by
 have h:∀b,H b=none->upd H a u b=none:=λb e=>by rw[dV (λz=>by subst z;rw[g]at e;cases e)];exact e
 have i:∀b d,H b=some (.tup d)->upd H a u b=some (.tup d):=λb d q=>by rw[dV (ir q g (by intro z;cases z))];exact q
 have m:∀b c,H b=some (.own c)->upd H a u b=some (.own c):=λb c q=>by rw[dV (ir q g (by intro z;cases z))];exact q
 refine⟨I.ok,I.os,I.bare,⟨I.base.keep,I.base.slot,λb j e n t=>h b (I.base.free b j e n t),I.base.there,λb d e=>i b d (I.base.tups b d e),λb j k e=>?_,λb y e=>?_⟩,I.loc,I.cell,h _ I.free,λx c e=>h _ (I.freeC x c e),
  λp l=>(hQ ((I.pin p l).1) (h _ (I.pin p l).2.1) ((I.pin p l).2.2)),λb v e=>?_,I.len⟩
 ·have q:=I.base.frzs b j k e;rw[dV (λz=>by subst z;exact r _ _ e)];exact q
 ·obtain⟨f,q⟩:=I.base.tbls b y e;exact⟨f,by rw[dV (ir q g (by intro z;cases z))];exact q⟩
 ·by_cases hb:b=a
  ·subst hb;rw[dh]at e;cases e;obtain⟨_,q⟩:=(show A1s X.prog X.w H s.heap b (.frz o u) from I.hok b _ g);exact q.stay (λ_ _ _ q=>q) (λc q=>m c b q) λc d q=>i c d q
  ·rw[dV hb]at e;exact(I.hok b v e).stay (λ_ _ _ q=>q) (λc q=>m c b q) λc d q=>i c d q
def Dy(X:Cx)(t:TS):TS:=λD Z H=>∃a o u,H a=some (.frz o u)/\(∀c b,X.H₀ a≠some (.frz c b))/\t D Z (upd H a u)
theorem Hb{t:TS}(h:PSs X sts t):PSs X sts (Dy X t):=by intro b s Z H D I d;obtain⟨a,o,u,e,c,q⟩:=d;exact h b s Z _ D (I.thawU e c) q
def tj(a:zW)(o:Obj)(kvs:List (List Key×V)):It :=⟨λi H=>H a=some (.frz o (.dT kvs))/\i<kvs.length,λi H x b=>b=H/\∃k,kvs[i]?=some (k,x),λi H=>H a=some (.frz o (.dT kvs))/\i=kvs.length⟩
theorem yL{a:zW}(I:Inv X pins Z H s)(e:H a=some (.frz o (.dT kvs)))(d:o.data=.dict es ep):tG s.heap a es ep/\A2d (kvs.map (·.2)) (es.toList.map (·.val)):=by obtain⟨_,_,g,i,⟨k,b,h,c⟩,j⟩:=xO I (.inr (ah kvs (.inr ⟨o,e⟩) rfl));obtain⟨f,_⟩:=(show A1s X.prog X.w H s.heap a (.frz o (.dT kvs)) from I.hok a _ e);rw[f]at b;cases b;rw[d]at c;cases c;exact⟨(hH o f h d),j⟩
theorem JG(it a:zW)(o:Obj)(kvs:List (List Key×V))(es:Array DictEntry)(ep:Nat)(Q:o.data=.dict es ep):
  C3f P w K tg (tj a o kvs) [it] it (λi h=>h.IsValIter it a i es.size ep) where
 mem:=by simp
 obj:=λi h g b m=>by
  have e:b=it:=by simpa using m
  subst e;obtain⟨l,e,_,d⟩:=g;exact ah l e λv z=>by rw[d]at z;cases z
 keep:=λi h q g k=>g.at λl e=>k it (by simp) l e
 item:=by
  intro X G B F S i j s Z H E I r g L;subst G B F;obtain⟨M,R⟩:=L;obtain⟨J,C,f2,N,A,y⟩:=r it (by simp);obtain⟨f,t⟩:=yL I M Q;obtain⟨⟨k,v⟩,hkv⟩:∃p,kvs[i]?=some p:=⟨kvs[i],by simp[R]⟩;obtain⟨u,O,ru⟩:=t.get (i:=i) (x:=v) (by rw[jh,hkv];rfl);rw[jh]at O;obtain⟨d,Y,ed⟩:=oP.mp O;have D:es[i]?=some d:=by rw[<-Array.getElem?_toList];exact Y
  refine IS g f D λq n W=>?_;have I1:Inv X j Z H {s with heap:=q,toks:=s.toks}:=I.turned (t':=s.toks) (λb l m e=>(W.2 b m).trans e) J C N A y
  obtain⟨l,e,c,d'⟩:=id n;exact ah d.val rfl (re (s:={s with heap:=q}) e c d' (by decide) (jA v H I1 (by rw[ed];exact ru) (jI rfl k hkv) n λb m=>(r b m).1))
 done:=by intro X G B F S i j s Z H E I r g L;subst G B F;obtain⟨M,R⟩:=L;obtain⟨J,C,f2,N,A,y⟩:=r it (by simp);obtain⟨f,t⟩:=yL I M Q;have T:=t.length;rw[hA,hA]at T;have U:es.toList.length=es.size:=Array.length_toList;exact Ih S g f (by lia) λq eb=>⟨rfl,I.turned (t':=s.toks) (λb l m e=>eb b l m e) J C N A y⟩
 self:=λ_ _ _ _ _ g h=>wpAny_pyIter_valiter g h
def FN(tl:TE):TI:=λZ H R=>tl Z H λx c=>∃v a b,x=.ref v/\c v=some (oR v a)/\c a=some (.dT b)/\∀o,R (tj a o b) (upd c a (.frz o (.dT b)))
theorem Iy{l:yC}(r:PE X l tl):PI X tg l (FN tl):=by
 intro c s Z H R I h;refine thn (r c s Z H _ I h) ?_;rintro u d p;refine oY p ?_;clear p;rintro x n I1 t v a f ⟨A,B,g,q⟩;subst A;cases t;obtain⟨C,_⟩:=(show A1s X.prog X.w n d.heap v (oR v a) from I1.hok v _ B);obtain⟨_,_,j,i,⟨o,k,y,m⟩,D⟩:=xO I1 (.inr (ah f (.inl g) rfl));refine IX C (hH o k y m) ?_;have I2:Inv X c Z n {d with heap:=d.heap.push {cls:=.type "dict_valueiterator",data:=.fields #[.ref a,.int 0 0,.int j.size 0,.int i 0]},toks:=d.toks}:=I1.kept λb F e=>iB _ e
 have I3:=I2.frozenD g (.inr ⟨_,rfl⟩) (iB _ k);refine jk _ [d.heap.objs.size] _ _ _ rfl I3 (JG _ a o f j i m) (hH _ (jw _ rfl) rfl rfl) (λb z=>?_) (q o);have e:b=d.heap.objs.size:=by simpa using z
 subst e;refine I1.fpOk (ig _) ?_;rw[dV (lH (I1.hok.lt g))];exact I1.hok.fresh (ig _)
theorem IZ{a:zW}{D:nn}(Pv:Nat->St->Hp->Prop)(f:Pv 0 Z H)(b:∀i Z H,Pv i Z H->H a=some (.frz o (.dT kvs)))
  (j:∀i k v Z H,kvs[i]?=some (k,v)->Pv i Z H->g v Z H λZ2 H2=>tb {D with nx:=Pv (i+1),ct:=Pv (i+1),bk:=D.nx} Z2 H2) (h:∀Z H,Pv kvs.length Z H->D.nx Z H):
  ∃W:Nat->Nat->St->Hp->Prop,(∃m,W 0 m Z H)/\∀i m Z H,W i m Z H->
   ((tj a o kvs).stop i H/\D.nx Z H)\/((tj a o kvs).go i H/\∃N:St->Hp->Prop,(∀Z' H',N Z' H'->∃c,c<m/\W (i+1) c Z' H')/\∀x H',(tj a o kvs).yld i H x H'->g x Z H' λZ2 H2=>tb {D with nx:=N,ct:=N,bk:=D.nx} Z2 H2):=by
 refine ah (λi m Z H=>m=kvs.length-i/\i<=kvs.length/\Pv i Z H) (hH kvs.length (by simp) (jP _) f) ?_;rintro i m Z H ⟨rfl,n,p⟩;by_cases hlt:i<kvs.length
 ·refine .inr (iV ⟨b i Z H p,hlt⟩ (Pv (i+1)) (λZ' H' d=>(ky (kvs.length-(i+1)) (by lia) rfl hlt d)) λx H' y=>?_);obtain⟨e,k,l⟩:=y;subst e;exact j i k x Z _ l p
 ·have e:i=kvs.length:=by lia
  subst e;exact .inl ⟨⟨b _ Z H p,rfl⟩,h Z H p⟩
theorem BS:∀{vs:zH}{a:zI},IntsAre vs a->∃xs:List (Int×Tok),vs=xs.map (λp=>Value.int p.1 p.2)/\a=xs.map (·.1)|_,_,.nil=>(ah [] rfl rfl)|_,_,.cons n t r=>by obtain⟨xs,b,c⟩:=BS r;exact ah ((n,t)::xs) (by rw[b];rfl) (by rw[c];rfl)
theorem Bh(M:X.calm=true):oB X (.builtin "max") (λvs H Q=>∃(a:zW)(d:zI),vs=[V.ref a]/\SqL X.K H a (d.map V.int)/\0<d.length/\∀m:Int,m∈d->(∀k∈d,k<=m)->Q (.int m) H):=by
 intro x s Z H vs U Q I r h;obtain⟨a,d,rfl,R,p,q⟩:=h;obtain⟨u,rfl,S⟩:=ph r;cases S;obtain⟨o,C,B,_⟩:=I.list R;obtain⟨c,P,w⟩:=BS (BO C)
 have A:s.heap.IsList a (PySem.intItems c.toArray):=by
  have:PySem.intItems c.toArray=o.toArray:=by rw[P];simp[PySem.intItems]
  rw[this];exact B.isList
 have E:d.length=c.length:=by rw[w,hA]
 refine PySem.max_intList (I.ok.hd M) A (by simpa using (by lia:0<c.length)) λv W D N O=>?_;obtain⟨G,y⟩:=PySem.argBest_gt (PySem.numAt c.toArray) (c.toArray.size-1);obtain⟨t,rfl⟩:=PySem.intItems_at N
 have f:∀i,i<c.length->∃n,d[i]?=some n/\PySem.numAt c.toArray i=n:=λi g=>by refine ah (c[i].1) (by rw[w,jh,jq g];rfl) ?_;unfold PySem.numAt;simp[g]
 generalize PySem.argBest (λi j=>decide (PySem.numAt c.toArray i>PySem.numAt c.toArray j)) (c.toArray.size-1)=b at G y;have T:c.toArray.size=c.length:=jK;obtain⟨n,J,F⟩:=f b (by lia);refine fx (.int (PySem.numAt c.toArray b)) H (I.kept (t':=D) O) ⟨t,rfl⟩ (q _ ?_ λk L=>?_)
 ·rw[F];exact iZ J
 ·obtain⟨i,g⟩:=List.getElem?_of_mem L;have z:=(iG.mp g).1;obtain⟨Y,e,l⟩:=f i (by lia);rw[g]at e;cases e;have:=y i (by lia);rw[l]at this;exact this
theorem Bc:MtM X "list.index" (λx vs H Q=>∃(l:zW)(a:zI)(k:Int),x=.ref l/\vs=[.int k]/\H l=some (.lst (a.map V.int))/\k∈a/\Q (.int (a.idxOf k:Nat)) H):=by
 intro m s Z H x vs v D Q I o p h;refine iW h ?_;clear h;rintro l a k rfl rfl B ⟨w,q⟩;cases o;obtain⟨u,rfl,t,rfl⟩:=ph p;obtain⟨z,b,n,r,C,e⟩:=I.lstM B;have d:=BO r;have c:=d.length;have f:a.idxOf k<a.length:=List.idxOf_lt_length_iff.mpr w;rw[hA,sizeLine_eq]at z
 refine call_meets PySem.F.slot_list_index (ah _ e rfl) PySem.F.entry_list_index (PySem.F.args_list_index_2 _ _)
  (SeqAt.list_indexAt l b.toArray n none #[] (.int k t) (isInt k) (a.idxOf k) (by simpa[c]using f) (by lia) ?_ ?_) ⟨e,(jN (λy A=>(eq_isInt k t d y (by simpa using A)).at _ _) (.int (a.idxOf k:Nat)) H (I.tok _) ⟨_,rfl⟩ q)⟩
 ·show isInt k b[a.idxOf k]=true;rw[isInt_at k d _ (by lia) f]
  simpa using List.getElem_idxOf f
 ·intro j g i;show isInt k b[j]=false;rw[isInt_at k d j (by simpa using g) (by lia)];exact ne_of_lt_idxOf i _
theorem IY(n:Nat)(Pv:Nat->List V->Hp->Prop)(j:Pv 0 [] (upd H D (.lst [])))(f:∀i ys H,i<n->Pv i ys H->J.go i H)(h:∀ys H,Pv n ys H->J.stop n H)
  (l:∀i ys H,i<n->Pv i ys H->∀x c,J.yld i H x c->g x Z₀ c λZ4 H4=>A3c Z₀ Z4/\tc Z4 H4 λb a=>if b=true then te Z4 a (λy a=>a D=some (.lst ys)/\ys.length<sizeLine/\Pv (i+1) (ys++[y]) (upd a D (.lst (ys++[y]))))else Pv (i+1) ys a) (k:∀ys H,Pv n ys H->QD H):
  ∃W:Nat->Nat->Hp->Prop,(∃m,W 0 m (upd H D (.lst [])))/\∀i m H2,W i m H2->
   (J.stop i H2/\QD H2)\/(J.go i H2/\∃(N:VK)(M:Hp->Prop),(∀y a,N y a->∃xs,a D=some (.lst xs)/\xs.length<sizeLine/\∃d,d<m/\W (i+1) d (upd a D (.lst (xs++[y]))))/\(∀a,M a->∃d,d<m/\W (i+1) d a)/\
    ∀x c,J.yld i H2 x c->g x Z₀ c λZ4 H4=>A3c Z₀ Z4/\tc Z4 H4 λb a=>if b=true then te Z4 a N else M a):=by
 refine ah (λi m H=>m=n-i/\i<=n/\∃ys,Pv i ys H) (oN n (by simp) (jP _) [] j) ?_;rintro i m H2 ⟨rfl,o,ys,p⟩;by_cases hlt:i<n
 ·exact .inr (jN (f i ys H2 hlt p) (λy a=>a D=some (.lst ys)/\ys.length<sizeLine/\Pv (i+1) (ys++[y]) (upd a D (.lst (ys++[y])))) (λa=>Pv (i+1) ys a) (λy a q=>(sV ys q.1 q.2.1 (n-(i+1)) (by lia) rfl hlt _ q.2.2)) (λa q=>(ky (n-(i+1)) (by lia) rfl hlt ⟨_,q⟩)) λx c z=>l i ys H2 hlt p x c z)
 ·have e:i=n:=by lia
  subst e;exact .inl ⟨h ys H2 p,k ys H2 p⟩
def DV(X:Cx)(t:TE):TE:=λZ H Q=>t Z H λv b=>∃a o u,b a=some (.frz o u)/\(∀d c,X.H₀ a≠some (.frz d c))/\Q v (upd b a u)
theorem F7{t:TE}(h:PE X e t):PE X e (DV X t):=by intro b s Z H Q I g;refine thn (h b s Z H _ I g) ?_;rintro u j c;refine oY c ?_;clear c;rintro v k I1 d a o w ⟨i,f,q⟩;exact fx v _ (I1.thawU i f) d q
structure RS(X:Cx)(sts:List Stmt)(t:TS):Prop where
 r:PSs X sts t
structure R1(X:Cx)(st:Stmt)(t:TS):Prop where
 r:PS X st t
section
variable{t:TS}
theorem eg(h1:R1 X st t)(h2:RS X rest u):RS X (st::rest) (wz t u):=⟨kP h1.r h2.r⟩
theorem mY(h1:R1 X st t)(h2:RS X rest u):RS X (st::rest) (yl t u):=⟨ua h1.r h2.r⟩
theorem fa(h1:R1 X st t):RS X [st] t:=⟨lW h1.r⟩
theorem iP(e:PT X c tc)(d:RS X a t)(f:RS X b u):R1 X (.If c a b pos) (yg tc t u):=⟨rf e d.r f.r⟩
theorem im(a:PE X e te):R1 X (.Return (some e) pos) (ya te):=⟨pP a⟩
theorem iw(i:Nat){x:Str}(f:X.N.Nodup)(b:PE X e te)(hi:X.N[i]?=some x:=by exact rfl)(c:Loc X.env.scope x:=by exact .inl rfl)(d:swapsWith e (some (.Name x pos')) pos.line X.env=pure false:=by exact rfl)(a:X.fn x=true\/X.env.scope.names.lookup x=some .local:=by exact .inl rfl):R1 X (.Assign [.Name x pos'] e pos) (tz te (nX i)):=⟨jM f hi c b d a⟩
theorem je{wi:TI}(hi:PI X tg iter wi)(b:PG X tg g)(c:RS X body tb)(e:PassesOwn (model X.prog X.w) X.A X.env X.xe:=by exact PassesOwn.never)(a:X.calm=true:=by exact rfl)(d:∀x,foldedSetIterable iter X.env x=pure x:=by intro _;rfl):R1 X (.For tg iter body [] pos) (wq wi g tb):=⟨tV e a hi b c.r d⟩
end
end L2
namespace My
open PySem L2
variable{ix:zL}{e:LnM}{H H' H2 H0 G G':Hp}{vs xs ts:zM}{rs:List (Str×List Int)}{ys ps os nm oy tb:zC}{a b p d l ab ln LD:zW}{c ls:zI}{n i T m j N:Nat}{cs:List zI}{rows:List LnM}{X:Cx}{f g:Str×List Int->Int}{fd:zS}{x y own:Str}{es:zB}{pos:Pos}{o:HO}{P:yB}{w:yD}{K:Frag}{v:V}{u:Tm}{A:Adr}{S:zV}{kvs lk:zJ}{lo hi:Int}{M:zQ}{s:Stp}{L:zR}{r:Str×List Int}{sh:List Bool}{W:Str->List zI}{ss:List Stp}{tk:List (List Key×V)}{pend:List Nat}
inductive Op3|plus|minus|times
inductive Tm|num (z:Int)|place (x:Str)|read (a:Str) (ix:zL)|sum (x:Str) (b:Tm)|pair (k:Op3) (l r:Tm)|guard (x:Str) (lo hi:Int) (l r:Tm)
def mR(e:Str×Int):PyData:=.tuple [.str e.1,.int e.2]
def nZ(ix:zL):PyData:=.list (ix.map mR)
def dep:Tm->Nat|.sum _ b=>dep b+1|.pair _ l r=>max (dep l) (dep r)+1|.guard _ _ _ l r=>max (dep l) (dep r)+1|_=>1
def nod:Tm->Nat|.sum _ b=>nod b+1|.pair _ l r=>nod l+nod r+1|.guard _ _ _ l r=>nod l+nod r+1|_=>1
theorem vt:∀t:Tm,1<=dep t|.num z=>by simp[dep]|.place x=>by simp[dep]|.read a ix=>by simp[dep]|.sum x b=>by simp[dep]|.pair k l r=>by simp[dep]|.guard x lo hi l r=>by simp[dep]
def Axs(A:zC):Tm->Prop|.num _=>True|.place x=>x∈A|.read _ ix=>∀e∈ix,e.1=""\/e.1∈A|.sum x b=>x∈A/\Axs A b|.pair _ l r=>Axs A l/\Axs A r|.guard x _ _ l r=>x∈A/\Axs A l/\Axs A r
theorem Fr:PyData.depth (nZ ix)<=2:=by
 have h:∀l:zL,PyData.depthAll (l.map mR)<=1:=by
  intro l
  induction l with
  |nil=>simp[PyData.depthAll]
  |cons e r ih=>simp[mR,PyData.depthAll,PyData.depth]at *;lia
 have:=h ix;simp only [nZ,PyData.depth]
 lia
theorem DR:cnt (nZ ix)<=1+3*ix.length:=by
 have h:∀l:zL,mU (l.map mR)<=3*l.length:=by
  intro l
  induction l with
  |nil=>simp[mU]
  |cons e r ih=>simp only [mR,mU,cnt,iN,mB]at *;lia
 have:=h ix;simp only [nZ,cnt]
 lia
section
variable{G:Hp}{v:V}
theorem yU{e:Str×Int}(h:Rep G v (mR e)):∃p,v=.ref p/\G p=some (.tup [.str e.1,.int e.2]):=by obtain⟨p,f,rfl,q,r⟩:=Ew (show Rep G v (.tuple [.str e.1,.int e.2]) from h);obtain⟨a,g,rfl,d,r⟩:=AQ r;obtain⟨b,i,rfl,c,r⟩:=AQ r;cases F8 r;cases EM d;cases zw c;exact ah p rfl q
end
def mF(f:zR)(ix:zL):zI:=ix.map λ(e:Str×Int)=>if e.1=("":Str)then e.2 else f e.1+e.2
def setA(f:zR)(x:Str)(k:Int):zR:=λy=>if y=x then k else f y
def rd(c:zR):Tm->zR->List (Str×List Int)|.num _,_=>[]|.place _,_=>[]|.read a ix,f=>[(a,mF f ix)]|.sum x b,f=>(List.range (c x).toNat).flatMap λ(k:Nat)=>rd c b (setA f x (k:Int))|.pair _ l r,f=>rd c l f++rd c r f|.guard x lo hi l r,f=>if lo<=f x/\f x<hi then rd c l f else rd c r f
def Fv:Tm->Str->Prop|.num _,_=>False|.place x,y=>y=x|.read _ ix,y=>y≠""/\∃e∈ix,e.1=y|.sum x b,y=>y≠x/\Fv b y|.pair _ l r,y=>Fv l y\/Fv r y|.guard x _ _ l r,y=>y=x\/Fv l y\/Fv r y
def ai(kvs:zJ)(x:Str):Int:=match ic kvs (Sum.inr x)with|some (.int i)=>i|_=>0
def uV(kvs:zJ)(t:Tm):Prop:=∀x,Fv t x->ic kvs (Sum.inr x)=some (.int (ai kvs x))
def yM(A:zC)(lk:zJ):Prop:=∀x∈A,ic lk (Sum.inr x)=some (.int (ai lk x))/\1<=ai lk x/\ai lk x<=60
def D6q(H:Hp)(v:V)(e:Str×List Int):Prop:=∃p q,v=.ref p/\H p=some (.tup [.str e.1,.ref q])/\H q=some (.tup (e.2.map V.int))
def Rds(H:Hp):zM->List (Str×List Int)->Prop:=Paired (D6q H)
theorem Rds.keep(h:Rds H vs rs)(f:∀p xs,H p=some (.tup xs)->H' p=some (.tup xs)):Rds H' vs rs :=Paired.mapP h (by rintro _ _ ⟨p,q,e,a,b⟩;exact fx p q e (f _ _ a) (f _ _ b))
theorem Rds.same(h:Rds H vs rs)(s:A0l H H'):Rds H' vs rs:=h.keep λ_ _ e=>s _ _ e
theorem Paired.app{α β:Type}{F:α->β->Prop}:∀{a c:List α}{b d:List β},Paired F a b->Paired F c d->Paired F (a++c) (b++d)|_,_,_,_,.nil,h=>h|_,_,_,_,.cons r t,h=>.cons r (Paired.app t h)
noncomputable def kM(cs:List zI)(n:Int):List zI:=cs.flatMap λc=>(List.range n.toNat).map λ(k:Nat)=>c++[(k:Int)]
def iE(ls:zI):List zI:=ls.foldl kM [[]]
def jm(ls:zI):Int:=ls.foldl (·* ·) 1
theorem vU(ls:zI)(n:Int):iE (ls++[n])=kM (iE ls) n:=by unfold iE;rw[List.foldl_append];rfl
theorem IA(ls:zI)(n:Int):jm (ls++[n])=jm ls*n:=by unfold jm;rw[List.foldl_append];rfl
theorem xQ(cs:List zI)(n:Int):(kM cs n).length=cs.length*n.toNat:=by
 induction cs with
 |nil=>simp[kM]
 |cons c r ih=>
  have:kM (c::r) n=((List.range n.toNat).map λ(k:Nat)=>c++[(k:Int)])++kM r n:=by simp[kM]
  rw[this,jc,ih,hA,List.length_range,mB,Nat.succ_mul];lia
def A6j(xs ys:zI):Prop:=∃(j:Nat)(x y:Int),xs[j]?=some x/\ys[j]?=some y/\x<y/\∀i:Nat,i<j->xs[i]?=ys[i]?
theorem A6j.snoc{xs ys:zI}(h:A6j xs ys)(a b:Int):A6j (xs++[a]) (ys++[b]):=by
 refine iW h λj x y c d e k=>?_;clear h;have f:j<xs.length:=(iG.mp c).1;have g:j<ys.length:=(iG.mp d).1;refine jv j x y ?_ ?_ e λi l=>?_
 ·rw[lD f];exact c
 ·rw[lD g];exact d
 ·rw[lD (by lia),lD (by lia)];exact k i l
theorem A6j.last(xs:zI){a b:Int}(h:a<b):A6j (xs++[a]) (xs++[b]):=by refine jv xs.length a b (by simp) (by simp) h λi c=>?_;rw[lD c,lD c]
def Within(c ls:zI):Prop:=c.length=ls.length/\∀(k:Nat)(x n:Int),c[k]?=some x->ls[k]?=some n->0<=x/\x<n
theorem Within.snoc{n:Int}{k:Nat}(h:Within c ls)(f:(k:Int)<n):Within (c++[(k:Int)]) (ls++[n]):=by
 obtain⟨d,e⟩:=h;refine⟨by simp[d],λi x m a b=>?_⟩;by_cases hi:i<c.length
 ·rw[lD hi]at a;rw[lD (by lia)]at b;exact e i x m a b
 ·have:i=c.length:=by
   have:=(iG.mp a).1;simp at this;lia
  subst this;rw[nP (ig _)]at a;rw[d,nP (ig _)]at b;simp at a b
  lia
theorem AH{n:Int}(h:c∈kM cs n):∃b∈cs,∃k:Nat,k<n.toNat/\c=b++[(k:Int)]:=by unfold kM at h;obtain⟨b,d,f⟩:=List.mem_flatMap.mp h;obtain⟨k,a,e⟩:=kg.mp f;exact jB b d k (List.mem_range.mp a) e.symm
theorem vX:∀(ls:zI),∀c∈iE ls,Within c ls:=by
 intro ls
 have f:∀(m:Nat)(ls:zI),ls.length=m->∀c∈iE ls,Within c ls:=by
  intro m
  induction m with
  |zero=>
   intro ls a c d;have:ls=[]:=sW.mp a;subst this;have:c=[]:=by simpa[iE]using d
   subst this;exact⟨rfl,λk x n h _=>by simp at h⟩
  |succ m ih=>intro ls a c d;obtain⟨init,n,rfl⟩:∃init n,ls=init++[n]:=⟨ls.dropLast,ls.getLast (by intro e;simp[e]at a),(List.dropLast_concat_getLast _).symm⟩;rw[vU]at d;obtain⟨b,g,k,i,rfl⟩:=AH d;exact(ih init (by simp at a;lia) b g).snoc (by lia)
 exact f _ ls rfl
theorem IK{n:Int}(h:cs.Pairwise A6j):(kM cs n).Pairwise A6j:=by
 induction cs with
 |nil=>simp[kM]
 |cons c r ih=>
  have e:kM (c::r) n=((List.range n.toNat).map λ(k:Nat)=>c++[(k:Int)])++kM r n:=by simp[kM]
  rw[e,List.pairwise_append];obtain⟨l,i⟩:=List.pairwise_cons.mp h;refine hQ ?_ (ih i) λx m y g=>?_
  ·rw[List.pairwise_map];exact List.pairwise_lt_range.imp λ{a b} d=>A6j.last c (by lia)
  ·obtain⟨k,_,rfl⟩:=kg.mp m;obtain⟨b,f,j,_,rfl⟩:=AH g;exact(l b f).snoc _ _
theorem B6(ls:zI):(iE ls).Pairwise A6j:=by
 have b:∀(m:Nat)(ls:zI),ls.length=m->(iE ls).Pairwise A6j:=by
  intro m
  induction m with
  |zero=>intro ls a;have:ls=[]:=sW.mp a;subst this;simp[iE]
  |succ m ih=>intro ls a;obtain⟨init,n,rfl⟩:∃init n,ls=init++[n]:=⟨ls.dropLast,ls.getLast (by intro e;simp[e]at a),(List.dropLast_concat_getLast _).symm⟩;rw[vU];exact IK (ih init (by simp at a;lia))
 exact b _ ls rfl
theorem pY(ls:zI)(h:∀n∈ls,1<=n):((iE ls).length:Int)=jm ls/\1<=jm ls:=by
 have b:∀(m:Nat)(ls:zI),ls.length=m->(∀n∈ls,1<=n)->((iE ls).length:Int)=jm ls/\1<=jm ls:=by
  intro m
  induction m with
  |zero=>intro ls a _;have:ls=[]:=sW.mp a;subst this;simp[iE,jm]
  |succ m ih=>
   intro ls a c;obtain⟨init,n,rfl⟩:∃init n,ls=init++[n]:=⟨ls.dropLast,ls.getLast (by intro e;simp[e]at a),(List.dropLast_concat_getLast _).symm⟩;obtain⟨f,i⟩:=ih init (by simp at a;lia) λn d=>c n (by simp[d]);have g:1<=n:=c n (by simp);rw[vU,IA,xQ];have e:((n.toNat:Nat):Int)=n:=by lia
   refine⟨by rw[Int.natCast_mul,f,e],?_⟩;have:=Int.mul_le_mul i g (by lia) (by lia)
   simpa using this
 exact b _ ls rfl h
structure B3z(ls:zI):Prop where
 pos:∀n∈ls,1<=n/\n<=60
 few:ls.length<=8
 most:jm ls<=4000
theorem B5(ls:zI)(h:∀n∈ls,1<=n)(i:Nat):1<=jm (ls.take i)/\jm (ls.take i)<=jm ls:=by
 have a:=(pY (ls.take i) λn c=>h n (nw c)).2;refine⟨a,?_⟩;have b:=(pY (ls.drop i) λn c=>h n (List.mem_of_mem_drop c)).2
 have d:∀(ys:zI)(x:Int),ys.foldl (·* ·) x=x*jm ys:=by
  intro ys
  induction ys with
  |nil=>intro x;simp[jm]
  |cons y r ih=>intro x;simp only [jm,List.foldl_cons]at ih⊢;rw[ih,ih (1*y),Int.one_mul,Int.mul_assoc]
 have e:jm ls=jm (ls.take i)*jm (ls.drop i):=by have:=d (ls.drop i) (jm (ls.take i));rw[<-this];unfold jm;rw[<-List.foldl_append,sY]
 rw[e];have:=Int.mul_le_mul_of_nonneg_left b (show(0:Int)<=jm (ls.take i)by lia)
 simpa using this
theorem Cl{n:Int}(h:ls[i]?=some n):iE (ls.take (i+1))=kM (iE (ls.take i)) n:=by rw[iF,h];exact vU _ _
def prR:zI->Int| []=>1|n::r=>n*prR r
theorem GS(ls:zI):∀a:Int,ls.foldl (·* ·) a=a*prR ls:=by
 induction ls with
 |nil=>intro a;simp[prR]
 |cons n r ih=>intro a;rw[List.foldl_cons,ih,prR,Int.mul_assoc]
theorem xw(ls:zI):jm ls=prR ls:=by unfold jm;rw[GS,Int.one_mul]
structure Rw where
 own:zC
 sums:zC
 so:zI
 ss:zI
abbrev Stp:=Int×Str×List Int×List Int
def kW(k:Int)(ss:zI)(c:zI):List Stp:=if ss=[]then [(k,"set",c,[])]else (k,"start",c,[])::(iE ss).map λu=>(k,"add",c,u)
def pV(k:Int)(e:Rw):List Stp:=(iE e.so).flatMap (kW k e.ss)
def pi(rows:List Rw)(k:Nat):List Stp:=match rows[k]? with|some e=>pV k e|none=>[]
def iu(rows:List Rw)(i:Nat):List Stp:=(List.range i).flatMap (pi rows)
theorem B4{rows:List Rw}{e:Rw}(h:rows[i]?=some e):iu rows (i+1)=iu rows i++pV i e:=by unfold iu;rw[List.range_succ,List.flatMap_append,List.flatMap_singleton];unfold pi;rw[h]
theorem ub{α β:Type}{f:α->List β}{B:Nat}:∀{l:List α},(∀x∈l,(f x).length<=B)->(l.flatMap f).length<=l.length*B
 | [],_=>by simp
 |x::r,h=>by
  have b:=h x (.head _);have c:=ub (l:=r) λy a=>h y (.tail _ a);rw[List.flatMap_cons,jc,mB,Nat.add_mul]
  lia
structure C3h(e:Rw):Prop where
 go:B3z e.so
 gs:B3z e.ss
 po:jm e.so<=60
 ps:jm e.ss<=60
 lo:e.own.length=e.so.length
 ls:e.sums.length=e.ss.length
theorem C3h.cells{e:Rw}(h:C3h e):(iE e.so).length<=60/\(iE e.ss).length<=60:=by
 have b:=(pY e.so λn a=>(h.go.pos n a).1).1;have c:=(pY e.ss λn a=>(h.gs.pos n a).1).1;have:=h.po;have:=h.ps
 lia
theorem w6{k:Int}{e:Rw}(h:C3h e)(c:zI):(kW k e.ss c).length<=61:=by
 have:=h.cells.2;unfold kW;split
 ·simp
 ·simp;lia
theorem Hu{k:Int}{e:Rw}(h:C3h e):(pV k e).length<=3660:=by
 have b:=ub (l:=iE e.so) (f:=kW k e.ss) (B:=61) λc _=>w6 h c;have a:=h.cells.1;have:(iE e.so).length*61<=60*61:=Nat.mul_le_mul_right _ a;unfold pV
 lia
theorem By{k:Int}{e:Rw}(h:C3h e)(j:Nat):(((iE e.so).take j).flatMap (kW k e.ss)).length<=3660:=by
 have b:=ub (l:=(iE e.so).take j) (f:=kW k e.ss) (B:=61) λc _=>w6 h c;have d:=h.cells.1;have a:((iE e.so).take j).length<=60:=by rw[iX];lia
 have:((iE e.so).take j).length*61<=60*61:=Nat.mul_le_mul_right _ a
 lia
theorem sH{rows:List Rw}(h:∀e∈rows,C3h e)(i:Nat):(iu rows i).length<=i*3660:=by
 have:=ub (l:=List.range i) (f:=pi rows) (B:=3660) λk _=>by
  unfold pi;split
  ·rename_i e he;exact Hu (h e (iZ he))
  ·simp
 rw[List.length_range]at this;exact this
def top(i:Nat):Stmt:=PySem.Challenge.pw_arrayloom_k63_crowd.main.body.getD i (.Pass ⟨0,0,0,0⟩)
abbrev BU:Stmt:=nr (top 29) 0
abbrev B7:Stmt:=nr (top 30) 0
abbrev Cd:Stmt:=nr (top 33) 0
abbrev Ci:Stmt:=nr (top 33) 2
abbrev Cc:Stmt:=nr (top 34) 0
abbrev Cg:Stmt:=nr (top 34) 2
abbrev BW:Stmt:=nr (top 35) 0
abbrev Ch:Stmt:=nr (top 35) 1
abbrev B9:Stmt:=nr (top 35) 3
abbrev BV:Stmt:=nr (top 37) 0
abbrev Cb:Stmt:=nr (top 37) 2
abbrev B8:Stmt:=nr (top 41) 0
abbrev Ck:Stmt:=nr (top 41) 1
abbrev Cp:Stmt:=nr (top 41) 3
abbrev Cf:Stmt:=nr (top 41) 5
structure TyC(K:Frag)(C:zW):Prop where
 ha:findIn K (.ref C) "__class__"=some (some (.builtin "object.__class__"))
 hn:specialIn K (.builtin "object.__class__") "__get__"=some (some (.builtin "getset_descriptor.__get__"))
 htk:takesIn K (.builtin "object.__class__")=some true
 hm:mroIn K C (.type "object")=some true
abbrev oz:zC:=["value"]
abbrev uN:zC:=["axes","lengths"]
abbrev rO:zC:=["cloth","steps"]
abbrev x9:zC:=["self","name","axes","sums","term"]
abbrev yk:zC:=["self","wheel","lengths","arrays","tables","lines","outs"]
abbrev nh:zC:=["self","at","lengths"]
abbrev rR:zC:=["self","at"]
abbrev yb:zC:=["axis","shift","at"]
abbrev yp:zC:=["self","axis","low","high","inner","outer"]
abbrev uJ:zC:=["_law_axes_here","_law_lengths"]
abbrev tK:zC:=["_law_rest","_law_about_here","_law_bound","_law_deep"]
abbrev rW:zC:=["_law_tree"]
abbrev vd:zC:=["_law_about_here"]
abbrev u6:zC:=["_law_about_here","_law_step"]
abbrev uZ:zC:=["_law_about_here","_law_order_here","_law_marks_here"]
set_option genInjectivity false in
set_option genSizeOf false in
structure Adr where
 ae:zW
 a9:zW
 gW:zW
 aH:zW
 a_:zW
 am:zW
 f7:zW
 bR:zW
 bj:zW
 bh:zW
 aa:zW
 ff:zW
 fi:zS
 eC:zW
 eG:zS
 bB:zW
 bx:zS
 aT:zW
 aR:zS
 d7:zW
 df:zS
 dN:zW
 dW:zS
 dI:zW
 dJ:zS
 dg:zW
 d6:zS
 fQ:zW
 fL:zS
 eI:zW
 eN:zS
 dB:zW
 dw:zS
 de:zW
 di:zS
 eU:zW
 e_:zS
 f9:zW
 f6:zS
 eS:zW
 eV:zS
 fm:zW
 fg:zS
 fb:zW
 fc:zS
 dQ:zW
 dX:zS
 fP:zW
 fT:zS
 dA:zW
 dF:zS
 d0:zW
 eP:zS
 cQ:zW
 eA:zS
 cr:zW
 dO:zS
 ba:zW
 bS:zS
 cI:zW
 eD:zS
 bo:zW
 ci:zS
 d4:zW
 eX:zS
 bd:zW
 bO:zS
 bF:zW
 cN:zS
 f8:zW
 fj:zS
 bm:zW
 eW:zS
 aB:zW
 cO:zS
 cP:zW
 eO:zS
 aZ:zW
 bK:zS
 aJ:zW
 bi:zS
 bq:zW
 cf:zS
 gA:zW
 gj:zS
 gr:zW
 gB:zS
 fX:zW
 fZ:zS
 fF:zW
 fU:zS
 fW:zW
 gn:zS
 c8:zW
 c6:zS
 eZ:zW
 eR:zS
 d_:zW
 dZ:zS
 e7:zW
 ef:zS
 f_:zW
 gb:zS
 fk:zW
 fh:zS
 fV:zW
 fE:zS
 fO:zW
 fI:zS
 fw:zW
 fA:zS
 fS:zW
 fu:zS
 fJ:zW
 fD:zS
 fB:zW
 fK:zS
 gG:zW
 gO:zS
 fN:zW
 fR:zS
 fG:zW
 fH:zS
 gE:zW
 gN:zS
 gq:zW
 gh:zS
 g_:zW
 gR:zS
abbrev Kz(f:zW):Option zN:=some (some (.ref f))
abbrev KE:Option zN:=some (some (.builtin "object.__class__"))
abbrev KA:Option zN:=some none
abbrev KD(K:Frag)(a b:zW)(c:Bool):Prop:=kitOne K (.ref a) (.ref b)=some c
structure FQ(K:Frag)(mg:zE)(x:Str)(st:Stmt)(f:zW)(fd:zS)(ps:zC):Prop where
 F:Fun K x x st f fd
 m:mg x=some (.ref f)
 b:B2b K fd ps []
structure FM(K:Frag)(C:zW)(x q:Str)(st:Stmt)(f:zW)(fd:zS)(ps:zC):Prop where
 F:Fun K x q st f fd
 b:B2b K fd ps []
structure Txt(K:Frag)(mg:zE)(t:Adr):Prop where
 gT:mg "Line"=some (.ref t.ae)
 gP:mg "Cloth"=some (.ref t.a9)
 i0:mg "Term"=some (.ref t.gW)
 gw:mg "Number"=some (.ref t.aH)
 gJ:mg "Place"=some (.ref t.a_)
 gU:mg "Read"=some (.ref t.am)
 i3:mg "Pair"=some (.ref t.f7)
 gX:mg "Plus"=some (.ref t.bR)
 gI:mg "Minus"=some (.ref t.bj)
 gF:mg "Times"=some (.ref t.bh)
 gL:mg "Guard"=some (.ref t.aa)
 cA:FQ K mg "cells_of" (top 2) t.ff t.fi ["lengths"]
 bE:FQ K mg "lengthened" (top 3) t.eC t.eG ["cells","length"]
 a5:FQ K mg "copied" (top 5) t.bB t.bx oz
 au:FQ K mg "copied_dict" (top 6) t.aT t.aR oz
 aX:FQ K mg "lengths_along" (top 8) t.d7 t.df uN
 aw:FQ K mg "cells_along" (top 9) t.dN t.dW uN
 bu:FQ K mg "first_order" (top 11) t.dI t.dJ ["cloth"]
 aW:FQ K mg "steps_of_cell" (top 12) t.dg t.d6 ["number","line","cell","turns"]
 bY:FQ K mg "read_by" (top 14) t.fQ t.fL ["cloth","step"]
 aG:FQ K mg "written_by" (top 15) t.eI t.eN ["cloth","step"]
 bf:FQ K mg "wanted_cells" (top 17) t.dB t.dw ["cloth"]
 aF:FQ K mg "cells_of_outs" (top 18) t.de t.di ["cloth"]
 bN:FQ K mg "by_arrays" (top 19) t.eU t.e_ ["cloth","found"]
 cD:FQ K mg "lives_of" (top 21) t.f9 t.f6 rO
 bW:FQ K mg "firsts_of" (top 22) t.eS t.eV rO
 cB:FQ K mg "lasts_of" (top 23) t.fm t.fg ["cloth","steps","wanted"]
 cC:FQ K mg "crowd_of" (top 24) t.fb t.fc rO
 bn:FQ K mg "crowd_among" (top 25) t.dQ t.dX ["lives","end"]
 cZ:FQ K mg "is_live" (top 26) t.fP t.fT ["life","gap"]
 bg:FQ K mg "numbers_live" (top 27) t.dA t.dF ["lives","end"]
 bP:FM K t.ae "__init__" "Line.__init__" BU t.d0 t.eP x9
 bD:FM K t.a9 "__init__" "Cloth.__init__" B7 t.cQ t.eA yk
 br:FM K t.aH "__init__" "Number.__init__" Cd t.cr t.dO ["self","number"]
 bU:FM K t.aH "reads" "Number.reads" Ci t.ba t.bS nh
 bI:FM K t.a_ "__init__" "Place.__init__" Cc t.cI t.eD ["self","axis"]
 cg:FM K t.a_ "reads" "Place.reads" Cg t.bo t.ci nh
 bL:FM K t.am "__init__" "Read.__init__" BW t.d4 t.eX ["self","array","indexes"]
 be:FM K t.am "cell_at" "Read.cell_at" Ch t.bd t.bO rR
 cM:FM K t.am "reads" "Read.reads" B9 t.bF t.cN nh
 cy:FQ K mg "index_at" (top 36) t.f8 t.fj yb
 aU:FM K t.f7 "__init__" "Pair.__init__" BV t.bm t.eW ["self","left","right"]
 cK:FM K t.f7 "reads" "Pair.reads" Cb t.aB t.cO nh
 bH:FM K t.aa "__init__" "Guard.__init__" B8 t.cP t.eO yp
 aV:FM K t.aa "lets_in" "Guard.lets_in" Ck t.aZ t.bK rR
 aI:FM K t.aa "looked_at" "Guard.looked_at" Cp t.aJ t.bi rR
 c9:FM K t.aa "reads" "Guard.reads" Cf t.bq t.cf nh
 aA:FQ K mg "_law_cell" (top 43) t.gA t.gj ["_law_rest"]
 cH:FQ K mg "_law_axes" (top 44) t.gr t.gB ["_law_cell_here","_law_names"]
 bA:FQ K mg "_law_many" (top 45) t.fX t.fZ uJ
 aO:FQ K mg "_law_cells" (top 46) t.fF t.fU uJ
 dD:FQ K mg "_law_read" (top 47) t.fW t.gn ["_law_rest","_law_about_here","_law_bound"]
 bZ:FQ K mg "_law_grown" (top 48) t.c8 t.c6 tK
 bw:FQ K mg "_law_made" (top 49) t.eZ t.eR rW
 aQ:FQ K mg "_law_parts" (top 50) t.d_ t.dZ rW
 b9:FQ K mg "_law_reads" (top 51) t.e7 t.ef ["_law_tree","_law_at"]
 dE:FQ K mg "_law_line" (top 52) t.f_ t.gb ["_law_rest","_law_about_here","_law_names","_law_name"]
 cF:FQ K mg "_law_digits" (top 53) t.fk t.fh ["_law_cell_here","_law_many_here"]
 cU:FQ K mg "_law_about" (top 54) t.fV t.fE ["_law_script","_law_most"]
 cT:FQ K mg "_law_cloth" (top 55) t.fO t.fI vd
 cV:FQ K mg "_law_steps" (top 56) t.fw t.fA vd
 b_:FQ K mg "_law_looks" (top 57) t.fS t.fu u6
 cS:FQ K mg "_law_ready" (top 58) t.fJ t.fD ["_law_k","_law_steps_here","_law_looks_here","_law_names","_law_left"]
 cR:FQ K mg "_law_order" (top 59) t.fB t.fK ["_law_about_here","_law_steps_here","_law_looks_here","_law_cell_here"]
 dj:FQ K mg "_law_own" (top 60) t.gG t.gO u6
 cY:FQ K mg "_law_marks" (top 61) t.fN t.fR ["_law_about_here","_law_steps_here","_law_looks_here"]
 c_:FQ K mg "_law_lives" (top 62) t.fG t.fH uZ
 eK:FQ K mg "_law_due" (top 63) t.gE t.gN uZ
 dt:FQ K mg "_law_same" (top 64) t.gq t.gh ["_law_found","_law_due_here"]
 gx:FQ K mg "law" (top 65) t.g_ t.gR ["_law_script"]
 ag:Cls K t.a9
 gi:Mk K t.a9 t.cQ
 dC:A1w K t.a9 "wheel"
 aj:A1w K t.a9 "lengths"
 aY:A1w K t.a9 "arrays"
 d9:A1w K t.a9 "tables"
 aL:A1w K t.a9 "lines"
 cn:A1w K t.a9 "outs"
 hU:TyC K t.a9
 aq:Cls K t.aa
 gv:Mk K t.aa t.cP
 cj:A1w K t.aa "axis"
 cG:A1w K t.aa "low"
 cm:A1w K t.aa "high"
 bT:A1w K t.aa "inner"
 bM:A1w K t.aa "outer"
 cW:nB K t.aa "lets_in" t.aZ
 cx:nB K t.aa "looked_at" t.aJ
 dH:nB K t.aa "reads" t.bq
 hW:TyC K t.aa
 aE:Cls K t.ae
 gK:Mk K t.ae t.d0
 cL:A1w K t.ae "name"
 bG:A1w K t.ae "axes"
 b6:A1w K t.ae "sums"
 cJ:A1w K t.ae "term"
 dl:TyC K t.ae
 eM:mroIn K t.ae (.type "list")=some false
 dP:mroIn K t.ae (.type "tuple")=some false
 eE:mroIn K t.ae (.type "dict")=some false
 g9:Cls K t.bj
 gy:Mk K t.bj t.bm
 dM:A1w K t.bj "left"
 dy:A1w K t.bj "right"
 dq:nB K t.bj "reads" t.aB
 hX:TyC K t.bj
 e8:Cls K t.aH
 fM:Mk K t.aH t.cr
 cX:A1w K t.aH "number"
 d8:nB K t.aH "reads" t.ba
 gY:TyC K t.aH
 eY:Cls K t.a_
 gg:Mk K t.a_ t.cI
 dR:A1w K t.a_ "axis"
 dm:nB K t.a_ "reads" t.bo
 gZ:TyC K t.a_
 gC:Cls K t.bR
 gM:Mk K t.bR t.bm
 eJ:A1w K t.bR "left"
 dY:A1w K t.bR "right"
 dL:nB K t.bR "reads" t.aB
 h_:TyC K t.bR
 c7:Cls K t.am
 gH:Mk K t.am t.d4
 cv:A1w K t.am "array"
 bJ:A1w K t.am "indexes"
 d5:nB K t.am "cell_at" t.bd
 dS:nB K t.am "reads" t.bF
 hZ:TyC K t.am
 ga:Cls K t.bh
 fY:Mk K t.bh t.bm
 dU:A1w K t.bh "left"
 du:A1w K t.bh "right"
 dG:nB K t.bh "reads" t.aB
 hJ:TyC K t.bh
 aM:mg "range"=none
 a4:mg "isinstance"=none
 bt:mg "list"=none
 aC:mg "tuple"=none
 dz:mg "dict"=none
 bQ:mg "enumerate"=none
 ao:mg "len"=none
 fq:mg "zip"=none
 cE:mg "reversed"=none
 ft:mg "max"=none
 gS:mg "min"=none
 eQ:mg "sum"=none
 gl:mg "bool"=none
 gQ:mg "int"=none
abbrev FO(P:yB)(w:yD)(base:yA){K:Frag}{mg:zE}{x:Str}{st:Stmt}{f:zW}{fd:zS}{ps:zC}(_:FQ K mg x st f fd ps)(n:Nat)(sp:Sp):Prop:=A4q P w K mg base jY n f fd ps sp
abbrev FP(P:yB)(w:yD)(mg:zE)(base:yA){K:Frag}{C:zW}{x q:Str}{st:Stmt}{f:zW}{fd:zS}{ps:zC}(_:FM K C x q st f fd ps)(n:Nat)(sp:Sp):Prop:=A4q P w K mg base jY n f fd ps sp
theorem pcl{k k2:Nat}{f:zW}{sp:Sp}{st:Stmt}{e:yC}{es:zT}{t:TA}{p:Pos}(F:A4q X.prog X.w X.K X.mg X.base jY k f fd ps sp)(d:B0x k2 X.A)(Zz:FQ X.K X.mg x st f fd ps)(j:PA X (e::es) t)(g:k<=k2:=by lia)(i:Gl X x:=by rfl)(c:(x==("__debug__":Str))=false:=by decide)(h:starEach (e::es) X.env=(false,eval e X.env)::starEach es X.env:=by rfl)(a:(backTo pos (starEach es X.env)).any (·.1)=false:=by rfl):PE X (.Call (.Name x p) (e::es) [] pos) (yF sp [] E0 t):=E6 F (d.mono g) i Zz.m Zz.F.kp Zz.b .nil wK j c h a
theorem pmk{C:zW}{k k2:Nat}{f:zW}{sp:Sp}{e:yC}{es:zT}{t:TA}{p:Pos}(M:Mk X.K C f)(F:A4q X.prog X.w X.K X.mg X.base jY k f fd ps sp)(d:B0x k2 X.A)(l:X.mg x=some (.ref C))(c:B2b X.K fd ps [])(j:PA X (e::es) t)(g:k+1<=k2:=by lia)(i:Gl X x:=by rfl)(b:(x==("__debug__":Str))=false:=by decide)(h:starEach (e::es) X.env=(false,eval e X.env)::starEach es X.env:=by rfl)(a:(backTo pos (starEach es X.env)).any (·.1)=false:=by rfl):PE X (.Call (.Name x p) (e::es) [] pos) (yK C sp [] E0 t):=EI M F (d.mono g) i l c .nil wK j b h a
theorem iq(h:Nat.ble n 1000000=true):n<=sizeLine:=lg (Nat.le_of_ble_eq_true h)
theorem CO:(0:Int)<13:=by decide
theorem Ct:(0:Int)<15:=by decide
theorem uY:(0:Int)<2:=by decide
theorem wo:(0:Int)<3:=by decide
theorem rN:(0:Int)<4:=by decide
theorem wD:(0:Int)<5:=by decide
theorem z_60:(0:Int)<6:=by decide
theorem z_70:(0:Int)<7:=by decide
theorem pit(i:Nat){k:Int}{j}{p2 c:Pos}(e:X.N[i]?=some x:=by rfl)(d:Vis X.env.scope x:=by first|exact Or.inl rfl|exact Or.inr (Or.inl rfl)|exact Or.inr (Or.inr rfl))(b:(x==("__debug__":Str))=false:=by decide)(a:(x==("__classdict__":Str))=false:=by decide):PE X (.Subscript (.Name x pos) (.Constant (.int k) j p2) c) (tOp (uM X.K) (qX i) (tC (.int k))):=jr rZ (pv i e d b a) fe λ_ _=>rfl
theorem pkd(i:Nat){k:Int}{j l}{p2 f e b:Pos}(g:X.N[i]?=some x:=by rfl)(d:Vis X.env.scope x:=by first|exact Or.inl rfl|exact Or.inr (Or.inl rfl)|exact Or.inr (Or.inr rfl))(c:(x==("__debug__":Str))=false:=by decide)(a:(x==("__classdict__":Str))=false:=by decide):L2.PT X (.Compare (.Subscript (.Name x pos) (.Constant (.int k) j p2) f) [.Eq] [.Constant (.str y) l e] b) (wO (tOp rEq (tOp (uM X.K) (qX i) (tC (.int k))) (tC (.str y)))):=iT kS (pit i g d c a) ip (wR _)
theorem fC(i:Nat)(e:X.N[i]?=some x:=by rfl)(c:Vis X.env.scope x:=by first|exact Or.inl rfl|exact Or.inr (Or.inl rfl)|exact Or.inr (Or.inr rfl))(b:(x==("__debug__":Str))=false:=by decide)(a:(x==("__classdict__":Str))=false:=by decide)(d:starEach [.Name x pos] X.env=(false,eval (.Name x pos) X.env)::starEach [] X.env:=by rfl):PA X [.Name x pos] (yz (qX i) yd):=al (pv i e c b a) eH d
theorem kN{e:yC}{es:zT}{t:TA}{p:Pos}(f:X.mg "len"=none)(d:PA X (e::es) t)(c:Gl X "len":=by rfl)(b:starEach (e::es) X.env=(false,eval e X.env)::starEach es X.env:=by rfl)(a:(backTo pos (starEach es X.env)).any (·.1)=false:=by rfl):PE X (.Call (.Name "len" p) (e::es) [] pos) (tCB (λxs H Q=>∃p ys,xs=[.ref p]/\(SqL X.K H p ys\/SqT X.K H p ys)/\Q (.int ys.length) H) t):=jS JF c f PySem.boot_len d (by decide) (by decide) b a
theorem rsq{sts:List Stmt}{t:TS}{D:nn}{Zz:St}(h:RS X sts t)(q:t D Zz H):∃t,PSs X sts t/\t D Zz H:=⟨t,h.r,q⟩
theorem nH{x:zW}(h:H x=none):∃H',A0l H H'/\H' x=some o/\upd H x o=H':=⟨_,eh h,dh,rfl⟩
abbrev Sro(a:zW):zP:=some (.ref a)
abbrev Sio(a:Int):zP:=some (.int a)
abbrev Sso(a:Str):zP:=some (.str a)
abbrev Sbo(a:Bool):zP:=some (.bl a)
local macro_rules | `(tactic| walk_at"ix") => `(tactic| first |exact Or.inl rfl |exact Or.inr rfl |(simp[relabel]; rfl) |(with_unfolding_all exact Or.inl rfl) |(with_unfolding_all exact Or.inr rfl) |(with_unfolding_all decide))
local macro_rules | `(tactic| walk_at"sc") => `(tactic| exact⟨rfl, rfl, rfl, by decide +kernel, rfl, by decide +kernel, by decide +kernel⟩)
local macro_rules | `(tactic| walk_at"ln") => `(tactic| (intro _ _ _ _ h; first |(cases h; subst_vars; rfl) |((repeat (obtain⟨_, h⟩ := h)); subst_vars; rfl)))
theorem vR:iH ["lengths","cells","length"] ["lengths"] (iD (top 2)):=by walk_at"sc"
theorem v4:iH ["cells","length","longer","cell","number"] ["cells","length"] (iD (top 3)):=by walk_at"sc"
theorem vK:iH oz ["value"] (iD (top 5)):=by walk_at"sc"
theorem v8:iH ["value","fresh","key","member"] oz (iD (top 6)):=by walk_at"sc"
theorem Kp:iH uN ["axes","lengths"] (iD (top 8)):=by walk_at"sc"
theorem J7:iH uN ["axes","lengths"] (iD (top 9)):=by walk_at"sc"
theorem sS:iH ["cloth","steps","number","line","turns","cell"] ["cloth"] (iD (top 11)):=by walk_at"sc"
theorem Cm:iH ["number","line","cell","turns","adds"] ["number","line","cell","turns"] (iD (top 12)):=by walk_at"sc"
theorem rH:iH ["cloth","step","number","word","cell","turn","line","at"] ["cloth","step"] (iD (top 14)):=by walk_at"sc"
theorem uA:iH ["cloth","step","number","word","cell","turn"] ["cloth","step"] (iD (top 15)):=by walk_at"sc"
theorem uC:iH ["cloth","wanted","written","step","read"] ["cloth"] (iD (top 17)):=by walk_at"sc"
theorem xT:iH ["cloth","found","array"] ["cloth"] (iD (top 18)):=by walk_at"sc"
theorem uz:iH ["cloth","found","sorted_out","array","axes","cells"] ["cloth","found"] (iD (top 19)):=by walk_at"sc"
theorem qQ:iH ["cloth","steps","wanted","firsts","lasts","lives","array","cells","cell"] rO (iD (top 21)):=by walk_at"sc"
theorem v0:iH ["cloth","steps","firsts","place","step"] rO (iD (top 22)):=by walk_at"sc"
theorem sQ:iH ["cloth","steps","wanted","lasts","place","step","read","kept"] ["cloth","steps","wanted"] (iD (top 23)):=by walk_at"sc"
theorem Jk:iH rO ["cloth","steps"] (iD (top 24)):=by walk_at"sc"
theorem sT:iH ["lives","end","numbers","gap","crowd","array","spans"] ["lives","end"] (iD (top 25)):=by walk_at"sc"
theorem xK:iH ["life","gap","first","last"] ["life","gap"] (iD (top 26)):=by walk_at"sc"
theorem pZ:iH ["lives","end","changes","spans","first","last","numbers","live","change"] ["lives","end"] (iD (top 27)):=by walk_at"sc"
theorem Ju:iH x9 ["self","name","axes","sums","term"] (iD BU):=by walk_at"sc"
theorem JJ:iH yk ["self","wheel","lengths","arrays","tables","lines","outs"] (iD B7):=by walk_at"sc"
theorem Kd:iH ["self","number"] ["self","number"] (iD Cd):=by walk_at"sc"
theorem Kh:iH nh ["self","at","lengths"] (iD Ci):=by walk_at"sc"
theorem JW:iH ["self","axis"] ["self","axis"] (iD Cc):=by walk_at"sc"
theorem J8:iH nh ["self","at","lengths"] (iD Cg):=by walk_at"sc"
theorem JC:iH ["self","array","indexes"] ["self","array","indexes"] (iD BW):=by walk_at"sc"
theorem Kk:iH rR ["self","at"] (iD Ch):=by walk_at"sc"
theorem JU:iH nh ["self","at","lengths"] (iD B9):=by walk_at"sc"
theorem Jl:iH yb ["axis","shift","at"] (iD (top 36)):=by walk_at"sc"
theorem Jx:iH ["self","left","right"] ["self","left","right"] (iD BV):=by walk_at"sc"
theorem JY:iH nh ["self","at","lengths"] (iD Cb):=by walk_at"sc"
theorem JS:iH yp ["self","axis","low","high","inner","outer"] (iD B8):=by walk_at"sc"
theorem Kr:iH rR ["self","at"] (iD Ck):=by walk_at"sc"
theorem Ku:iH rR ["self","at"] (iD Cp):=by walk_at"sc"
theorem Kc:iH nh ["self","at","lengths"] (iD Cf):=by walk_at"sc"
theorem GG:iH ["_law_rest"] ["_law_rest"] (iD (top 43)):=by walk_at"sc"
theorem vH:iH ["_law_cell_here","_law_names","_law_many_here","_law_turn"] ["_law_cell_here","_law_names"] (iD (top 44)):=by walk_at"sc"
theorem vG:iH ["_law_axes_here","_law_lengths","_law_many_here","_law_name"] uJ (iD (top 45)):=by walk_at"sc"
theorem sO:iH ["_law_axes_here","_law_lengths","_law_cells_here","_law_name","_law_longer","_law_cell_here"] uJ (iD (top 46)):=by walk_at"sc"
theorem lZ:iH ["_law_rest","_law_about_here","_law_bound","_law_cell_here","_law_name","_law_known","_law_array","_law_shape","_law_some","_law_indexes","_law_step","_law_axis","_law_shift","_law_at","_law_term","_law_index","_law_high"] ["_law_rest","_law_about_here","_law_bound"] (iD (top 47)):=by walk_at"sc"
theorem rK:iH ["_law_rest","_law_about_here","_law_bound","_law_deep","_law_cell_here","_law_way","_law_left","_law_right","_law_low"] tK (iD (top 48)):=by walk_at"sc"
theorem xE:iH ["_law_tree","_law_left","_law_right"] rW (iD (top 49)):=by walk_at"sc"
theorem ID:iH rW ["_law_tree"] (iD (top 50)):=by walk_at"sc"
theorem vQ:iH ["_law_tree","_law_at","_law_cell_here","_law_axis","_law_shift"] ["_law_tree","_law_at"] (iD (top 51)):=by walk_at"sc"
theorem oJ:iH ["_law_rest","_law_about_here","_law_names","_law_name","_law_cell_here","_law_lengths","_law_axes_here","_law_free","_law_sums","_law_tree","_law_many_here"] ["_law_rest","_law_about_here","_law_names","_law_name"] (iD (top 52)):=by walk_at"sc"
theorem uy:iH ["_law_cell_here","_law_many_here","_law_digits_here","_law_rest","_law_k"] ["_law_cell_here","_law_many_here"] (iD (top 53)):=by walk_at"sc"
theorem mJ:iH ["_law_script","_law_most","_law_rest","_law_names","_law_lengths","_law_cell_here","_law_name","_law_about_here","_law_k","_law_axes_here","_law_told","_law_cells_here","_law_many_here","_law_start","_law_size","_law_arrays"] ["_law_script","_law_most"] (iD (top 54)):=by walk_at"sc"
theorem sN:iH ["_law_about_here","_law_lines","_law_name","_law_axes_here","_law_sums","_law_tree"] vd (iD (top 55)):=by walk_at"sc"
theorem qP:iH ["_law_about_here","_law_steps_here","_law_k","_law_name","_law_axes_here","_law_sums","_law_tree","_law_cell_here"] vd (iD (top 56)):=by walk_at"sc"
theorem qO:iH ["_law_about_here","_law_step","_law_name","_law_axes_here","_law_sums","_law_tree","_law_at","_law_axis","_law_number"] u6 (iD (top 57)):=by walk_at"sc"
theorem xM:iH ["_law_k","_law_steps_here","_law_looks_here","_law_names","_law_left","_law_own_here","_law_spot"] ["_law_k","_law_steps_here","_law_looks_here","_law_names","_law_left"] (iD (top 58)):=by walk_at"sc"
theorem oM:iH ["_law_about_here","_law_steps_here","_law_looks_here","_law_cell_here","_law_names","_law_left","_law_step","_law_own_here","_law_pending","_law_order_here","_law_at"] ["_law_about_here","_law_steps_here","_law_looks_here","_law_cell_here"] (iD (top 59)):=by walk_at"sc"
theorem Fn:iH u6 ["_law_about_here","_law_step"] (iD (top 60)):=by walk_at"sc"
theorem rG:iH ["_law_about_here","_law_steps_here","_law_looks_here","_law_marks_here","_law_name","_law_cell_here","_law_step","_law_spots","_law_spot"] ["_law_about_here","_law_steps_here","_law_looks_here"] (iD (top 61)):=by walk_at"sc"
theorem oK:iH ["_law_about_here","_law_order_here","_law_marks_here","_law_begun","_law_tails","_law_place","_law_own_here","_law_spot","_law_name","_law_cell_here","_law_lives_here","_law_axes_here"] uZ (iD (top 62)):=by walk_at"sc"
theorem uh:iH ["_law_about_here","_law_order_here","_law_marks_here","_law_lives_here","_law_counts","_law_gap","_law_at"] uZ (iD (top 63)):=by walk_at"sc"
theorem xD:iH ["_law_found","_law_due_here","_law_spot","_law_number"] ["_law_found","_law_due_here"] (iD (top 64)):=by walk_at"sc"
theorem pj:iH ["_law_script","_law_about_here","_law_steps_here","_law_looks_here","_law_order_here","_law_marks_here","_law_cloth_here","_law_row","_law_handed","_law_found"] ["_law_script"] (iD (top 65)):=by walk_at"sc"
theorem qJ:(["member"]:zC).Nodup:=by decide+kernel
theorem GY:(["axis","lengths"]:zC).Nodup:=by decide+kernel
theorem HC:(["turn","cell","number"]:zC).Nodup:=by decide+kernel
theorem GW:(["cell","array"]:zC).Nodup:=by decide+kernel
theorem Gv:(["cell","array","found"]:zC).Nodup:=by decide+kernel
theorem AZ:(["cell","life","array","gap"]:zC).Nodup:=by decide+kernel
theorem Bu:(["axis","shift","at"]:zC).Nodup:=by decide+kernel
theorem Hq:(["_law_j","_law_cell_here","_law_many_here","_law_names","_law_turn"]:zC).Nodup:=by decide+kernel
theorem GU:(["_law_number","_law_cell_here"]:zC).Nodup:=by decide+kernel
theorem GP:(["_law_name"]:zC).Nodup:=by decide+kernel
theorem Iq:(["_law_name"]:zC).Nodup:=by decide+kernel
theorem HV:(["_law_axis","_law_axes_here"]:zC).Nodup:=by decide+kernel
theorem BQ:(["_law_name"]:zC).Nodup:=by decide+kernel
theorem Ij:(["_law_j","_law_arrays","_law_many_here","_law_start"]:zC).Nodup:=by decide+kernel
theorem Iz:(["_law_turn","_law_cell_here","_law_k"]:zC).Nodup:=by decide+kernel
theorem Ir:(["_law_line_here"]:zC).Nodup:=by decide+kernel
theorem Ix:(["_law_life","_law_gap"]:zC).Nodup:=by decide+kernel
theorem Ig:(["_law_life","_law_at"]:zC).Nodup:=by decide+kernel
theorem HJ:(["_law_step","_law_about_here"]:zC).Nodup:=by decide+kernel
theorem A4q.none{mg:zE}{base:yA}{CX:CXT}{k:Nat}{f:zW}{sp:Sp}(h:∀vs H Q E,¬sp vs H Q E):A4q P w K mg base CX k f fd ps sp :=⟨λvs H Q E q=>(h vs H Q E q).elim,λ_ _ _ H _ _ vs Q E _ _ _ _ q=>(h vs H Q E q).elim⟩
def lU(xs:zC):PyData:=.list (xs.map PyData.str)
def OkS(xs:zC):Prop:=∀x∈xs,PyData.strOk x=true
theorem zn:∀xs:zC,PyData.depthAll (xs.map PyData.str)=0/\mU (xs.map PyData.str)=xs.length
 | []=>⟨rfl,rfl⟩
 |x::r=>by
  obtain⟨b,a⟩:=zn r;refine⟨?_,?_⟩
  ·simp[PyData.depthAll,PyData.depth,b]
  ·simp[mU,cnt,a];lia
theorem AM:∀{xs:zC},OkS xs->PyData.canLayAll0 (xs.map PyData.str)=true| [],_=>rfl|x::r,h=>by have b:=AM (xs:=r) λy a=>h y (.tail _ a);simp[PyData.canLayAll0,PyData.canLay0,b,h x (.head _)]
theorem sf(xs:zC):(lU xs).depth<=1/\cnt (lU xs)<=1+xs.length:=by
 obtain⟨b,a⟩:=zn xs;refine⟨?_,?_⟩
 ·simp[lU,PyData.depth,b]
 ·simp only [lU,cnt,a];lia
theorem Gj{xs:zC}(h:OkS xs):(lU xs).canLay0=true:=by simp[lU,PyData.canLay0,AM h]
theorem vJ{d:PyData}(h:d.canLay0=true)(a:d.depth<=60):SeqAt.shaped d=true:=by unfold SeqAt.shaped;rw[h,Bool.true_and];exact kz (by lia)
theorem Bw{H:Hp}:∀{ys:zC}{xs:zM},A5a H xs (ys.map PyData.str)->xs=ys.map V.str
 | [],_,r=>by cases r;rfl
 |y::ys,_,r=>by
  rw[iN]at r
  cases r with
  |cons a r=>
   cases a
   rw[iN,Bw r]
theorem tM(h:Rep H v (lU ys)):∃p,v=.ref p/\H p=some (.lst (ys.map V.str)):=by obtain⟨p,a,rfl,e,r⟩:=tZ (show Rep H v (.list (ys.map PyData.str)) from h);rw[Bw r]at e;exact ah p rfl e
theorem rY(e:H p=some (.lst (ys.map V.str))):Rep H (.ref p) (lU ys):=.lst e (A5a.strs ys)
theorem yH{e:Str×Int}(h:Rep H v (mR e)):∃b,v=.ref b/\H b=some (.tup [.str e.1,.int e.2]):=by
 unfold mR at h
 cases h with
 |@tup b xs _ eb r=>
  cases r with
  |cons a r=>
   cases r with
   |cons a2 r=>
    cases r
    cases a
    cases a2
    exact ah b rfl eb
theorem ja{α β:Type}{F:α->β->Prop}:∀{l:List α}{m:List β},Paired F l m->∀{i:Nat}{x:α},l[i]?=some x->∃y,m[i]?=some y/\F x y|_,_,.nil,i,x,e=>by simp at e|_,_,.cons r t,0,x,e=>by simp at e;subst e;exact ah _ rfl r|_,_,.cons r t,i+1,x,e=>by obtain⟨y,b,a⟩:=ja t (i:=i) (by simpa using e);exact ah y (by simpa using b) a
theorem jZ{α β:Type}{F:α->β->Prop}:∀{a c:List α}{b d:List β},Paired F a b->Paired F c d->Paired F (a++c) (b++d)|_,_,_,_,.nil,h=>h|_,_,_,_,.cons r t,h=>.cons r (jZ t h)
theorem ko{α:Type}{f:α->V}{xs:List α}(h:(xs.map f)[i]?=some v):∃x,xs[i]?=some x/\v=f x:=by
 rw[jh]at h
 cases e:xs[i]? with
 |none=>rw[e]at h;cases h
 |some x=>rw[e]at h;exact ah x rfl ((lI h).symm)
def KT(H H':Hp):Prop:=∀p a,H p=some (.tup a)->H' p=some (.tup a)
theorem KT.same(s:A0l H H'):KT H H':=λp a e=>s _ _ e
theorem KT.at{u:HO}(e:H l=some u)(n:∀xs,u≠.tup xs):KT H (upd H l o):=λp xs z=>by rw[dV (ir z e (n xs).symm)];exact z
theorem KT.trans(a:KT H H')(b:KT H' H2):KT H H2:=λp c e=>b _ _ (a _ _ e)
def rg(A:Adr):Op3->zW|.plus=>A.bR|.minus=>A.bj|.times=>A.bh
inductive Ob(A:Adr)(H:Hp):V->Tm->Prop|num {a dx:zW} {z:Int}:H a=some (.ins A.aH dx [("number",.int z)])->Ob A H (.ref a) (.num z)|place {a dx:zW} {x:Str}:H a=some (.ins A.a_ dx [("axis",.str x)])->Ob A H (.ref a) (.place x)|read {a dx l:zW} {x:Str} {ix:zL}:H a=some (.ins A.am dx [("array",.str x),("indexes",.ref l)])->Rep H (.ref l) (nZ ix)->Ob A H (.ref a) (.read x ix)|pair {a dx:zW} {k:Op3} {u w:V} {l r:Tm}:H a=some (.ins (rg A k) dx [("left",u),("right",w)])->Ob A H u l->Ob A H w r->Ob A H (.ref a) (.pair k l r)|guard {a dx:zW} {x:Str} {lo hi:Int} {u w:V} {l r:Tm}:H a=some (.ins A.aa dx [("axis",.str x),("low",.int lo),("high",.int hi),("inner",u),("outer",w)])->Ob A H u l->Ob A H w r->Ob A H (.ref a) (.guard x lo hi l r)
theorem Ob.imp(f:A0l H H'){t:Tm}(h:Ob A H v t):Ob A H' v t:=by
 induction h with
 |num e=>exact .num (f _ _ e)
 |place e=>exact .place (f _ _ e)
 |read e r=>exact .read (f _ _ e) (r.same f)
 |pair e _ _ i1 i2=>exact .pair (f _ _ e) i1 i2
 |guard e _ _ i1 i2=>exact .guard (f _ _ e) i1 i2
local macro_rules | `(tactic| walk_at"lk") => `(tactic| first |with_reducible exact Cr |(refine Cq (by decide +kernel) ?_; walk_at"lk") |rfl)
def Ap(K:Frag)(f:Str):Sp:=λb H Q _=>∃(p C a:zW)(v:V),b=[.ref p,v]/\H p=some (.ins C a [])/\Cls K C/\A1w K C f/\Q .non (upd H p (.ins C a [(f,v)]))
def Ff(K:Frag)(f g:Str):Sp:=λb H Q _=>∃(p C a:zW)(v u:V),b=[.ref p,v,u]/\H p=some (.ins C a [])/\Cls K C/\A1w K C f/\A1w K C g/\Q .non (upd H p (.ins C a [(f,v),(g,u)]))
def Fi(A:Adr):Sp:=λg H Q _=>∃(p f:zW)(a b c d e:V),g=[.ref p,a,b,c,d,e]/\H p=some (.ins A.aa f [])/\Q .non (upd H p (.ins A.aa f [("axis",a),("low",b),("high",c),("inner",d),("outer",e)]))
def Fl(A:Adr):Sp:=λg H Q _=>∃(p e l:zW)(x:Str)(d:zL),g=[.ref p,.str x,.ref l]/\H p=some (.ins A.am e [])/\Rep H (.ref l) (nZ d)/\d.length<=1000/\
 ∀(f:zW)(c:Hp),c p=some (.ins A.am e [("array",.str x),("indexes",.ref f)])->Rep (jp (λa=>H a=none) c) (.ref f) (nZ d)->(∀b o,b≠p->H b=some o->c b=some o)->Q .non c
def wW(n:Nat):Sp:=λe H Q _=>∃(v:V)(d:PyData),e=[v]/\Rep H v d/\PyData.depth d<=n/\cnt d<=100000/\∀(c:V)(b:Hp),A0l H b->Rep (jp (λa=>H a=none) b) c d->Q c b
def DB(A:Adr):Sp:=λc H Q _=>∃(a b:zW)(d:zK),c=[.ref a]/\H a=some (.ins A.ae b d)/\Q (.ref a) H
def zc(A:Adr):Sp:=λe H Q _=>∃(p:zW)(b:zM),e=[.ref p]/\H p=some (.lst b)/\b.length<=1000/\(∀x∈b,∃a d f,x=.ref a/\H a=some (.ins A.ae d f))/\∀(D:zW)(c:Hp),H D=none->A0l H c->c D=some (.lst b)->Q (.ref D) c
def wJ:Sp:=λh H Q _=>∃(d:zW)(e:zJ)(g:List PyData),h=[.ref d]/\H d=some (.dK e)/\e.length<=100000/\Paired (λ(a:Key×V)(x:PyData)=>Rep H a.2 x/\PyData.depth x<=1/\cnt x<=100000) e g/\
 ∀(p:zW)(c:zJ)(f:Hp),H p=none->A0l H f->f p=some (.dK c)->c.map (·.1)=e.map (·.1)->Paired (λ(b:Key×V)(x:PyData)=>Rep (jp (λa=>H a=none) f) b.2 x) c g->Q (.ref p) f
variable{P:yB}{w:yD}{K:Frag}{mg:zE}{base:yA}{t:Adr}
theorem J9(T:Txt K mg t):FP P w mg base T.br 1 (Ap K "number"):=by
 refine T.br.F.ok Kd λ_ A _ s H _ Q E e h=>?_
 ·refine jy h ?_;clear h;rintro p C b v rfl c d ⟨a,k⟩;exact rsq (fa ⟨lM (pv 0) (pv 1) rfl⟩) (mu _ rfl _ rfl p C b [] rfl c d a (by decide) k)
theorem JX(T:Txt K mg t):FP P w mg base T.bI 1 (Ap K "axis"):=by
 refine T.bI.F.ok JW λ_ A _ s H _ Q E e h=>?_
 ·refine jy h ?_;clear h;rintro p C b v rfl c d ⟨a,k⟩;exact rsq (fa ⟨lM (pv 0) (pv 1) rfl⟩) (mu _ rfl _ rfl p C b [] rfl c d a (by decide) k)
theorem xR(T:Txt K mg t):FP P w mg base T.aU 1 (Ff K "left" "right"):=by
 refine T.aU.F.ok Jx λ_ A _ s H _ Q E f h=>?_
 ·refine nN h ?_;clear h;rintro p C a v u rfl e b c d k;refine rsq (eg ⟨lM (pv 0) (pv 1) rfl⟩ (fa ⟨lM (pv 0) (pv 2) rfl⟩)) (mu _ rfl _ rfl p C a [] rfl e b c (by decide) (mu _ rfl _ rfl p C a _ rfl dh b d (by show 1<1000;decide) ?_));show Q V.non (upd (upd H p _) p (.ins C a (jE "right" u (jE "left" v []))));rw[rz,mr,jR (by decide+kernel),mr];exact k
theorem JT(T:Txt K mg t):FP P w mg base T.bH 1 (Fi t):=by
 refine T.bH.F.ok JS λ_ A _ s H _ Q E n h=>?_
 ·refine kF h ?_;clear h;rintro p f a b c ⟨d,e,rfl,m,k⟩;have i:jE "low" b (jE "axis" a [])=([("axis",a),("low",b)]:zK):=by rw[mr,jR (by decide+kernel),mr]
  have l:jE "high" c ([("axis",a),("low",b)]:zK)=([("axis",a),("low",b),("high",c)]:zK):=by rw[jR (by decide+kernel),jR (by decide+kernel),mr]
  have g:jE "inner" d ([("axis",a),("low",b),("high",c)]:zK)=([("axis",a),("low",b),("high",c),("inner",d)]:zK):=by rw[jR (by decide+kernel),jR (by decide+kernel),jR (by decide+kernel),mr]
  have j:jE "outer" e ([("axis",a),("low",b),("high",c),("inner",d)]:zK)=([("axis",a),("low",b),("high",c),("inner",d),("outer",e)]:zK):=by rw[jR (by decide+kernel),jR (by decide+kernel),jR (by decide+kernel),jR (by decide+kernel),mr]
  refine rsq (eg ⟨lM (pv 0) (pv 1) rfl⟩ (eg ⟨lM (pv 0) (pv 2) rfl⟩ (eg ⟨lM (pv 0) (pv 3) rfl⟩ (eg ⟨lM (pv 0) (pv 4) rfl⟩ (fa ⟨lM (pv 0) (pv 5) rfl⟩))))) (mu _ rfl _ rfl p _ f [] rfl m T.aq T.cj (by decide) (mu _ rfl _ rfl p _ f _ rfl dh T.aq T.cG (by show 1<1000;decide) ?_));rw[rz,i];refine mu _ rfl _ rfl p _ f _ rfl dh T.aq T.cm (by show 2<1000;decide) ?_;rw[rz,l];refine mu _ rfl _ rfl p _ f _ rfl dh T.aq T.bT (by show 3<1000;decide) ?_;rw[rz,g];refine mu _ rfl _ rfl p _ f _ rfl dh T.aq T.bM (by show 4<1000;decide) ?_;show Q V.non (upd (upd H p _) p _);rw[rz,j];exact k
theorem ux{T:String}(h:T="NoneType"\/T="bool"\/T="int"\/T="str"\/T="tuple"):∀u,A2q (.ty "list") u->kitOne K (.type T) u=some false:=by rcases h with rfl|rfl|rfl|rfl|rfl<;>exact sd (by decide+kernel) (by decide+kernel) (by decide+kernel)
theorem vZ{T:String}(h:T="NoneType"\/T="bool"\/T="int"\/T="str"):∀u,A2q (.ty "tuple") u->kitOne K (.type T) u=some false:=by rcases h with rfl|rfl|rfl|rfl<;>exact sd (by decide+kernel) (by decide+kernel) (by decide+kernel)
theorem vS{T:String}(h:T="NoneType"\/T="bool"\/T="int"\/T="str"):∀u,A2q (.ty "dict") u->kitOne K (.type T) u=some false:=by rcases h with rfl|rfl|rfl|rfl<;>exact sd (by decide+kernel) (by decide+kernel) (by decide+kernel)
theorem AN(T:Txt K mg t){sp':Sp}(Ga0:A4q P w K mg base jY m t.bB t.bx oz sp')
  (hs:∀(v:V)(d:PyData)(H:Hp)(Q:VK),Rep H v d->PyData.depth d+1<=n->cnt d<=100000->(∀(L:V)(H':Hp),A0l H H'->Rep (jp (λa=>H a=none) H') L d->Q L H')->sp' [v] H Q E0):
  A4q P w K mg base jY (m+1) t.bB t.bx oz (wW n):=by
 refine T.a5.F.ok vK λ_ A _ s H _ Q E U h=>?_
 ·refine jC h ?_;clear h;rintro v d rfl rp Y ⟨Z,k⟩;have Ga1:A4q P w K mg base jY 0 t.aT t.aR oz (λ_ _ _ _=>False):=A4q.none λ_ _ _ _ h=>h;refine rsq (eg (iP (kZ (jS md (by rfl) T.a4 lS (al (pv 0) (al (lX (v:=V.ty "list") rfl T.bt pG rfl) eH)))) (fa (im (mH (N':=["member"]) (ix:=(List.replicate 1 none)) rfl (oj rfl (by decide+kernel) (by decide+kernel)) (og rfl) (qz (pv 0)) (λ_ _ _ _=>(ie (i:=0) qJ)) (λ_ _ _ _=>(pcl Ga0 U T.a5 (fC 0)))))) ⟨iJ⟩) (eg (iP (kZ (jS md (by rfl) T.a4 lS (al (pv 0) (al (lX (v:=V.ty "tuple") rfl T.aC nV rfl) eH)))) (fa (im (oI sR (by rfl) T.aC nV (al (mH (N':=["member"]) (ix:=(List.replicate 1 none)) rfl (oj rfl (by decide+kernel) (by decide+kernel)) (og rfl) (qz (pv 0)) (λ_ _ _ _=>(ie (i:=0) qJ)) (λ_ _ _ _=>(pcl Ga0 U T.a5 (fC 0)))) eH)))) ⟨iJ⟩) (eg (iP (kZ (jS md (by rfl) T.a4 lS (al (pv 0) (al (lX (v:=V.ty "dict") rfl T.dz uD rfl) eH)))) (fa (im (pcl Ga1 U T.au (fC 0)))) ⟨iJ⟩) (fa (im (pv 0)))))) ?_
  cases rp with
  |non=>refine kK _ rfl _ _ _ _ rfl .non (ux (.inl rfl)) false rfl (jx ?_);refine kK _ rfl _ _ _ _ rfl .non (vZ (.inl rfl)) false rfl (jx ?_);exact kK _ rfl _ _ _ _ rfl .non (vS (.inl rfl)) false rfl (jx (ah _ rfl (k _ _ (A0l.refl _) .non)))
  |bl b=>refine kK _ rfl _ _ _ _ rfl (.bl b) (ux (.inr (.inl rfl))) false rfl (jx ?_);refine kK _ rfl _ _ _ _ rfl (.bl b) (vZ (.inr (.inl rfl))) false rfl (jx ?_);exact kK _ rfl _ _ _ _ rfl (.bl b) (vS (.inr (.inl rfl))) false rfl (jx (ah _ rfl (k _ _ (A0l.refl _) (.bl b))))
  |int b=>refine kK _ rfl _ _ _ _ rfl (.int b) (ux (.inr (.inr (.inl rfl)))) false rfl (jx ?_);refine kK _ rfl _ _ _ _ rfl (.int b) (vZ (.inr (.inr (.inl rfl)))) false rfl (jx ?_);exact kK _ rfl _ _ _ _ rfl (.int b) (vS (.inr (.inr (.inl rfl)))) false rfl (jx (ah _ rfl (k _ _ (A0l.refl _) (.int b))))
  |str b=>refine kK _ rfl _ _ _ _ rfl (.str b) (ux (.inr (.inr (.inr (.inl rfl))))) false rfl (jx ?_);refine kK _ rfl _ _ _ _ rfl (.str b) (vZ (.inr (.inr (.inr rfl)))) false rfl (jx ?_);exact kK _ rfl _ _ _ _ rfl (.str b) (vS (.inr (.inr (.inr rfl)))) false rfl (jx (ah _ rfl (k _ _ (A0l.refl _) (.str b))))
  |@lst p xs ds e r=>
   have I:=r.len;have S:=xb ds;have X:mU ds+1<=100000:=Z;have W:PyData.depthAll ds+1<=n:=Y;refine kK _ rfl _ _ _ _ rfl (.lst e) (pq "list") true rfl (qY ?_);refine .inl (jg _ rfl p rfl ⟨_,SqL.of e⟩ λD M=>?_)
   refine pB (K:=K) (a:=p) (D:=D) (xs:=xs) (λi f g=>A0l H g/\g D=some (.lst f)/\A5a (jp (λa=>H a=none/\a≠D) g) f (ds.take i)/\f.length=i)
    (jO (eh M) dh (by rw[List.take_zero];exact .nil) rfl) (λi f g ⟨j,_⟩=>SqL.of (j _ _ e)) ?_ ?_
   ·rintro i x f g N ⟨j,c,B,q⟩;obtain⟨d,u,R⟩:=r.get2 N;obtain⟨c1,c2⟩:=wX u;have hi:i<xs.length:=(iG.mp N).1;refine iV True.intro _ rfl (hs x d g _ (R.same j) (by lia) (by lia) λL H5 C G=>?_);have y:¬(H D=none/\D≠D):=λz=>z.2 rfl;refine ke (C _ _ c) (iM (by lia)) (jn (j.trans C) M) dh ?_ (by simp[q]);rw[iF,u];show A5a _ (f++[L]) (ds.take i++[d]);refine(B.same (rD (mX C) y)).snoc (G.same ((pT (A0l.refl _) λa o _ J=>⟨j.free J,λz=>?_⟩).trans (rD (A0l.refl _) y)));subst z;rw[c]at J;cases J
   ·rintro f g ⟨j,c,B,q⟩;refine k (.ref D) g j (.lst (kj M c) ?_);rw[I,iQ]at B;exact B.same (pT (A0l.refl _) λa o _ h=>h.1)
  |@tup p xs ds e r=>
   have I:=r.len;have S:=xb ds;have X:mU ds+1<=100000:=Z;have W:PyData.depthAll ds+1<=n:=Y;refine kK _ rfl _ _ _ _ rfl (.tup e) (ux (.inr (.inr (.inr (.inr rfl))))) false rfl (jx ?_);refine kK _ rfl _ _ _ _ rfl (.tup e) (pq "tuple") true rfl (qY ?_);refine .inr (jg _ rfl p rfl ⟨_,SqT.of e⟩ λD M=>?_)
   refine GH (K:=K) (a:=p) (D:=D) (xs:=xs) (λi f g=>A0l H g/\g D=some (.lst f)/\A5a (jp (λa=>H a=none/\a≠D) g) f (ds.take i)/\f.length=i)
    (jO (eh M) dh (by rw[List.take_zero];exact .nil) rfl) (λi f g ⟨j,_⟩=>SqT.of (j _ _ e)) ?_ ?_
   ·rintro i x f g N ⟨j,c,B,q⟩;obtain⟨d,u,R⟩:=r.get2 N;obtain⟨c1,c2⟩:=wX u;have hi:i<xs.length:=(iG.mp N).1;refine iV True.intro _ rfl (hs x d g _ (R.same j) (by lia) (by lia) λL H5 C G=>?_);have y:¬(H D=none/\D≠D):=λz=>z.2 rfl;refine ke (C _ _ c) (iM (by lia)) (jn (j.trans C) M) dh ?_ (by simp[q]);rw[iF,u];show A5a _ (f++[L]) (ds.take i++[d]);refine(B.same (rD (mX C) y)).snoc (G.same ((pT (A0l.refl _) λa o _ J=>⟨j.free J,λz=>?_⟩).trans (rD (A0l.refl _) y)));subst z;rw[c]at J;cases J
   ·rintro f g ⟨j,c,B,q⟩;refine jV D f rfl (.inl ⟨SqL.of c,λl O=>?_⟩);refine k (.ref l) _ (j.trans (eh O)) (.tup (kj (j.free O) dh) ?_);rw[I,iQ]at B;exact B.same ((pT (A0l.refl _) λa o _ h=>h.1).trans (mX (eh O)))
theorem xG(T:Txt K mg t):∀n:Nat,A4q P w K mg base jY (n+1) t.bB t.bx oz (wW n)|0=>AN T (sp':=λ_ _ _ _=>False) (m:=0) (A4q.none λ_ _ _ _ h=>h) λv d H Q _ h=>absurd h (by lia)|n+1=>AN T (xG T n) λv d H Q b c a k=>(jA v d rfl b (by lia) a k)
theorem Aa(T:Txt K mg t):FO P w base T.a5 1 (DB t):=by
 refine T.a5.F.ok vK λ_ A _ s H _ Q E c h=>?_
 ·obtain⟨a,d,f,rfl,e,k⟩:=h;have Ga0:A4q P w K mg base jY 0 t.bB t.bx oz (λ_ _ _ _=>False):=A4q.none λ_ _ _ _ h=>h;have b:lE K H (.ref a) (.ref t.ae):=.ins e T.aE T.dl.ha T.dl.hn T.dl.htk T.dl.hm;have Ga1:A4q P w K mg base jY 0 t.aT t.aR oz (λ_ _ _ _=>False):=A4q.none λ_ _ _ _ h=>h;refine rsq (eg (iP (kZ (jS md (by rfl) T.a4 lS (al (pv 0) (al (lX (v:=V.ty "list") rfl T.bt pG rfl) eH)))) (fa (im (mH (N':=["member"]) (ix:=(List.replicate 1 none)) rfl (oj rfl (by decide+kernel) (by decide+kernel)) (og rfl) (qz (pv 0)) (λ_ _ _ _=>(ie (i:=0) qJ)) (λ_ _ _ _=>(pcl Ga0 c T.a5 (fC 0)))))) ⟨iJ⟩) (eg (iP (kZ (jS md (by rfl) T.a4 lS (al (pv 0) (al (lX (v:=V.ty "tuple") rfl T.aC nV rfl) eH)))) (fa (im (oI sR (by rfl) T.aC nV (al (mH (N':=["member"]) (ix:=(List.replicate 1 none)) rfl (oj rfl (by decide+kernel) (by decide+kernel)) (og rfl) (qz (pv 0)) (λ_ _ _ _=>(ie (i:=0) qJ)) (λ_ _ _ _=>(pcl Ga0 c T.a5 (fC 0)))) eH)))) ⟨iJ⟩) (eg (iP (kZ (jS md (by rfl) T.a4 lS (al (pv 0) (al (lX (v:=V.ty "dict") rfl T.dz uD rfl) eH)))) (fa (im (pcl Ga1 c T.au (fC 0)))) ⟨iJ⟩) (fa (im (pv 0)))))) ?_;refine kK _ rfl _ _ _ _ rfl b (wV T.eM (by decide+kernel)) false rfl (jx ?_);refine kK _ rfl _ _ _ _ rfl b (wV T.dP (by decide+kernel)) false rfl (jx ?_);exact kK _ rfl _ _ _ _ rfl b (wV T.eE (by decide+kernel)) false rfl (jx (ah _ rfl k))
theorem EA(T:Txt K mg t):FO P w base T.a5 2 (zc t):=by
 refine T.a5.F.ok vK λ_ A _ s H _ Q E j h=>?_
 ·refine jC h ?_;clear h;rintro p xs rfl e u ⟨m,k⟩;have Ga1:A4q P w K mg base jY 0 t.aT t.aR oz (λ_ _ _ _=>False):=A4q.none λ_ _ _ _ h=>h;refine rsq (eg (iP (kZ (jS md (by rfl) T.a4 lS (al (pv 0) (al (lX (v:=V.ty "list") rfl T.bt pG rfl) eH)))) (fa (im (mH (N':=["member"]) (ix:=(List.replicate 1 none)) rfl (oj rfl (by decide+kernel) (by decide+kernel)) (og rfl) (qz (pv 0)) (λ_ _ _ _=>(ie (i:=0) qJ)) (λ_ _ _ _=>(pcl (Aa T) j T.a5 (fC 0)))))) ⟨iJ⟩) (eg (iP (kZ (jS md (by rfl) T.a4 lS (al (pv 0) (al (lX (v:=V.ty "tuple") rfl T.aC nV rfl) eH)))) (fa (im (oI sR (by rfl) T.aC nV (al (mH (N':=["member"]) (ix:=(List.replicate 1 none)) rfl (oj rfl (by decide+kernel) (by decide+kernel)) (og rfl) (qz (pv 0)) (λ_ _ _ _=>(ie (i:=0) qJ)) (λ_ _ _ _=>(pcl (Aa T) j T.a5 (fC 0)))) eH)))) ⟨iJ⟩) (eg (iP (kZ (jS md (by rfl) T.a4 lS (al (pv 0) (al (lX (v:=V.ty "dict") rfl T.dz uD rfl) eH)))) (fa (im (pcl Ga1 j T.au (fC 0)))) ⟨iJ⟩) (fa (im (pv 0)))))) ?_;refine kK _ rfl _ _ _ _ rfl (.lst e) (pq "list") true rfl (qY ?_);refine .inl (jg _ rfl p rfl ⟨_,SqL.of e⟩ λD l=>?_)
  refine pB (K:=K) (a:=p) (D:=D) (xs:=xs) (λi f c=>A0l H c/\c D=some (.lst f)/\f=xs.take i)
   (hQ (eh l) dh rfl) (λi f c ⟨d,_⟩=>SqL.of (d _ _ e)) ?_ ?_
  ·rintro i x f c g ⟨d,b,rfl⟩;obtain⟨a,n,o,rfl,r⟩:=m x (iZ g);have q:(xs.take i).length<=xs.length:=by rw[iX];lia
   refine iV True.intro _ rfl (nM a n o rfl (d _ _ r) b (iM (by lia)) (jn d l) ⟨dh,?_⟩);rw[iF,g];rfl
  ·rintro f c ⟨d,b,rfl⟩;rw[iQ]at b;exact k D c l d b
theorem J2(T:Txt K mg t):FO P w base T.au 3 wJ:=by
 refine T.au.F.ok v8 λ_ A _ s H _ Q E hr h=>?_
 ·refine iW h ?_;clear h;rintro d c ds rfl u hl ⟨G,k⟩;have hu:=lF hr;refine ah _ (@RS.r _ _ _ ⟨F9 (@kP _ _ _ _ _ (@jM _ _ 1 _ _ _ _ v8.nd rfl (.inl rfl) sE rfl (.inl rfl)) (@kP _ _ _ _ _ (tV PassesOwn.never rfl (sw (oG PySem.F.plainAttrs_dict PySem.F.slot_dict_items PySem.F.type_dict_items sn (pv 0))) (lK (n:=2) rfl (iY (ie (i:=2) v8.nd) (iY (ie (i:=3) v8.nd) lN))) (@lW _ _ _ (@nG _ _ _ _ _ _ _ _ _ hu (pv 1) (pv 2) (pcl (xG T 1) hr T.a5 (fC 3)) rfl))) (uq (@lW _ _ _ (@pP _ _ _ _ (pv 1))))))⟩) ?_;intro ap;have nd:=ap.1 d c u;refine λp R=>?_;have J:d≠p:=ik u R;have j:upd H p (.dK []) d=some (.dK c):=by rw[dV J];exact u
  refine hH _ rfl (.inr (.inr (.inl ⟨rfl,.inl ⟨_,j⟩⟩))) (jA d _ rfl rfl j (.inl ⟨_,rfl⟩) λC g=>?_);have vp:p≠C:=ik dh g;have dv:d≠C:=ik j g;refine jv C d _ rfl dh (by rw[dV dv];exact j) (.inl (ah c rfl λo=>?_));have a2:H C=none:=by rw[dV vp.symm]at g;exact g
  have g0:A0l (upd H d (.frz o (.dK c))) (upd (upd (upd H p (.dK [])) C (mO C d)) d (.frz o (.dK c))):=λb v e=>by
   by_cases hb:b=d
   ·subst hb;rw[dh]at e⊢;exact e
   ·rw[dV hb]at e⊢;rw[dV (ik e a2),dV (ik e R)];exact e
  have a4:upd H d (.frz o (.dK c)) p=none:=by rw[dV J.symm];exact R
  have a1:∀b,upd H d (.frz o (.dK c)) b=none->H b=none:=λb e=>by
   by_cases hb:b=d
   ·subst hb;rw[dh]at e;cases e
   ·rw[dV hb]at e;exact e
  refine uj (L:=c.map λq=>(kV q.1,q.2)) (λi Z f=>∃(o2 U:zP)(l:zJ),Z=[Sro d,Sro p,o2,U]/\A0l (upd H d (.frz o (.dK c))) f/\f p=some (.dK l)/\l.map (·.1)=(c.take i).map (·.1)/\Paired (λ(b:Key×V)(x:PyData)=>Rep (jp (λa=>H a=none/\a≠p) f) b.2 x) l (ds.take i))
   (jX none none [] rfl g0 (by rw[dV J.symm,dV vp,dh]) rfl .nil) (λi Z f zq=>by obtain⟨_,_,_,_,m,_⟩:=zq;exact m _ _ dh) ?_ ?_
  ·rintro i kx vx q Z f hx hq I;refine iW I ?_;clear I;rintro o2 U l rfl m N ⟨y,O⟩;rw[jh]at hx;obtain⟨⟨k',v⟩,M,e⟩:=oP.mp hx;cases e;obtain⟨x,W,rv,X,a6⟩:=ja G M;have B:A0l f (upd f q (.tup [kV k',v])):=eh hq;have a0:Rep (upd f q (.tup [kV k',v])) v x:=(rv.imp2 (λb ys z=>m _ _ (by rw[dV (ir z u (by intro w;cases w))];exact z)) λb ys z=>m _ _ (by rw[dV (ir z u (by intro w;cases w))];exact z)).same B;refine mQ q _ rfl (SqT.of dh) rfl _ _ rfl _ _ rfl rfl (ah _ rfl (jA v x rfl a0 X a6 λv' H6 Y r6=>?_));have h6:=Y _ _ (B _ _ N);have lw:l.length=(c.take i).length:=by have:=congrArg List.length y;simpa using this
   have a7:(c.take i).length<=c.length:=by rw[iX];lia
   refine iU _ rfl _ rfl p _ rfl (B4w.k (k:=k') h6 (iM (by lia))) ?_;have D:¬(H p=none/\p≠p):=λz=>z.2 rfl;refine jX _ _ _ rfl (jn (m.trans (B.trans Y)) a4) dh ?_ ?_
   ·rw[ug nd M l y v',iF,M,iK,iK,y];rfl
   ·rw[ug nd M l y v',iF,W];refine jZ (Paired.mapP O λ_ _ z=>z.same (rD (mX (B.trans Y)) D)) (.cons (r6.same ((pT (A0l.refl _) λa ob ea ha=>⟨?_,λz=>?_⟩).trans (rD (A0l.refl _) D))) .nil)
    ·exact a1 a (m.free (B.free ha))
    ·subst z;rw[B _ _ N]at ha;cases ha
  ·rintro Z f I;refine iW I ?_;clear I;rintro o2 U l rfl m N ⟨y,O⟩;have ld:=Paired.length G;rw[hA,iQ]at y;rw[hA,ld,iQ]at O;have a3:f d=some (.frz o (.dK c)):=m _ _ dh;refine ku d o _ a3 (kE (.inl ⟨_,rfl⟩) (λo' u' z=>by have z:H d=some (.frz o' u'):=z;rw[u]at z;cases z) _ rfl ?_);have S:¬(H d=none/\d≠p):=λz=>by rw[u]at z;cases z.1
   exact k p l _ R (um u m) (by rw[dV J.symm];exact N) y (Paired.mapP O λ_ _ z=>z.same ((rD (A0l.refl _) S).trans (pT (A0l.refl _) λa ob _ h=>h.1)))
theorem Ed(T:Txt K mg t):FO P w base T.a5 4 wJ:=by
 have Ga0:A4q P w K mg base jY 0 t.bB t.bx oz (λ_ _ _ _=>False):=A4q.none λ_ _ _ _ h=>h;refine T.a5.F.ok vK λ_ A _ s H _ Q E a h=>?_
 ·have c:=h;obtain⟨d,e,f,rfl,b,_⟩:=h;refine rsq (eg (iP (kZ (jS md (by rfl) T.a4 lS (al (pv 0) (al (lX (v:=V.ty "list") rfl T.bt pG rfl) eH)))) (fa (im (mH (N':=["member"]) (ix:=(List.replicate 1 none)) rfl (oj rfl (by decide+kernel) (by decide+kernel)) (og rfl) (qz (pv 0)) (λ_ _ _ _=>(ie (i:=0) qJ)) (λ_ _ _ _=>(pcl Ga0 a T.a5 (fC 0)))))) ⟨iJ⟩) (eg (iP (kZ (jS md (by rfl) T.a4 lS (al (pv 0) (al (lX (v:=V.ty "tuple") rfl T.aC nV rfl) eH)))) (fa (im (oI sR (by rfl) T.aC nV (al (mH (N':=["member"]) (ix:=(List.replicate 1 none)) rfl (oj rfl (by decide+kernel) (by decide+kernel)) (og rfl) (qz (pv 0)) (λ_ _ _ _=>(ie (i:=0) qJ)) (λ_ _ _ _=>(pcl Ga0 a T.a5 (fC 0)))) eH)))) ⟨iJ⟩) (eg (iP (kZ (jS md (by rfl) T.a4 lS (al (pv 0) (al (lX (v:=V.ty "dict") rfl T.dz uD rfl) eH)))) (fa (im (pcl (J2 T) a T.au (fC 0)))) ⟨iJ⟩) (fa (im (pv 0)))))) ?_;refine kK _ rfl _ _ _ _ rfl (.dK b) (sd (by decide+kernel) (by decide+kernel) (by decide+kernel)) false rfl (jx ?_);refine kK _ rfl _ _ _ _ rfl (.dK b) (sd (by decide+kernel) (by decide+kernel) (by decide+kernel)) false rfl (jx ?_);exact kK _ rfl _ _ _ _ rfl (.dK b) (pq "dict") true rfl (qY (ah _ rfl c))
def Ds(A:Adr):Sp:=λa H Q E=>(wW 2 a H Q E\/zc A a H Q E)\/wJ a H Q E
theorem qB(T:Txt K mg t):FO P w base T.a5 4 (Ds t):=A4q.or (A4q.or ((xG T 2).mono (by lia)) ((EA T).mono (by lia))) (Ed T)
theorem JB(T:Txt K mg t):FP P w mg base T.bL 5 (Fl t):=by
 refine T.bL.F.ok JC λ_ A _ s H _ Q E r h=>?_
 ·refine kF h ?_;clear h;rintro p g l x ix ⟨rfl,n,q,B,k⟩;have C:=DR (ix:=ix);refine rsq (eg ⟨lM (pv 0) (pv 1) rfl⟩ (fa ⟨lM (pv 0) (pcl (qB T) r T.a5 (fC 2)) rfl⟩)) (mu _ rfl _ rfl p _ g [] rfl n T.c7 T.cv (by decide) ?_);refine ah _ rfl (.inl (.inl (jA (.ref l) (nZ ix) rfl (q.ins n) Fr (by lia) λv u m d=>?_)));have f:=m _ _ (dh (H:=H) (a:=p));obtain⟨j,D,rfl,G,I⟩:=tZ (show Rep _ v (.list (ix.map mR)) from d);refine i12 _ rfl p _ g _ rfl f T.c7 T.bJ ⟨(by show 1<1000;decide),?_⟩;show Q V.non (upd u p (.ins t.am g (jE "indexes" (.ref j) (jE "array" (.str x) []))));rw[mr,jR (by decide+kernel),mr];refine k j _ dh (d.same λb o e=>?_) λb o c e=>?_
  ·obtain⟨c,y⟩:=jT e;have c:upd H p _ b=none:=c;have i:b≠p:=λz=>by rw[z,dh]at c;cases c
   rw[dV i]at c;exact kj c (by rw[dV i];exact y)
  rw[dV c];exact m _ _ (by rw[dV c];exact e)
def KB(p:zW)(H H':Hp):Prop:=∀b o,b≠p->H b=some o->H' b=some o
theorem KB.upd(k:KB p H H'):KB p H (upd H' p o):=λb u a e=>by rw[dV a];exact k b u a e
theorem KB.refl:KB p H H:=λ_ _ _ e=>e
theorem KB.trans(a:KB p H H')(b:KB p H' H2):KB p H H2:=λc o d e=>b c o d (a c o d e)
theorem KB.of(s:A0l H H'):KB p H H':=λb o _ e=>s _ _ e
theorem KB.free{u:HO}(k:KB p H H')(d:H' p=some u)(a:H' b=none):H b=none:=by
 cases e:H b with
 |none=>rfl
 |some o=>
  have c:b≠p:=λz=>by subst z;rw[d]at a;cases a
  rw[k b o c e]at a;cases a
theorem KB.kt{u:HO}(k:KB p H H')(a:H p=some u)(n:∀xs,u≠.tup xs):KT H H':=λb xs e=>k b _ (ir e a (n xs).symm) e
theorem KB.same(s:A0l H H2)(k:KB p H2 H')(a:H p=none):A0l H H':=λb o e=>k b o (ik e a) (s _ _ e)
abbrev AR(S:zV)(H:Hp)(kvs:zJ)(es:zB):Prop:=Paired (λ(p:Key×V)(e:Str×List Str)=>p.1=Sum.inr e.1/\∃b,p.2=.ref b/\S b/\H b=some (.lst (e.2.map V.str))) kvs es
theorem AR.imp{S':zV}(h:AR S H kvs es)(f:∀b xs,S b->H b=some (.lst xs)->S' b/\H' b=some (.lst xs)):AR S' H' kvs es :=Paired.mapP h λ_ _ ⟨e,b,d,a,c⟩=>(jU e b d ((f b _ a c).1) ((f b _ a c).2))
theorem AR.same(h:AR S H kvs es)(s:A0l H H'):AR S H' kvs es:=h.imp λb a z e=>⟨z,s _ _ e⟩
theorem AR.src{S:zV}{H:Hp}:∀{kvs:zJ}{es:zB},AR S H kvs es->(∀e∈es,e.2.length<=100)->Paired (λ(a:Key×V)(x:PyData)=>Rep H a.2 x/\PyData.depth x<=1/\cnt x<=100000) kvs (es.map λe=>lU e.2)|_,_,.nil,_=>.nil|_,_,@Paired.cons _ _ _ p e _ _ ⟨_,b,z2,_,z4⟩ t,h=>by obtain⟨d,f⟩:=sf e.2;have:=h e (.head _);exact .cons (hQ (by rw[z2];exact rY z4) d (by show cnt (lU e.2)<=100000;lia)) (AR.src t λx c=>h x (.tail _ c))
theorem yO{S S':zV}{H H':Hp}:∀{kvs c:zJ}{es:zB},AR S H kvs es->c.map (·.1)=kvs.map (·.1)->Paired (λ(b:Key×V)(x:PyData)=>Rep (jp S' H') b.2 x) c (es.map λe=>lU e.2)->AR S' H' c es
 |_,[],_,.nil,_,_=>.nil
 |_,_::_,_,.nil,ks,_=>by cases ks
 |_,[],_,.cons _ _,ks,_=>by cases ks
 |_,q::r,_,@Paired.cons _ _ _ p e _ _ ⟨z1,_⟩ t,ks,pr=>by
  rw[iN,iN]at ks;injection ks with k1 k2;rw[iN]at pr
  cases pr with
  |cons a pr=>obtain⟨b,f,d⟩:=tM a;exact .cons (jU (k1.trans z1) b f ((jT d).1) ((jT d).2)) (yO t k2 pr)
abbrev u8(kvs:zJ)(a:zI):Prop:=Paired (λ(p:Key×V)(i:Int)=>p.2=.int i) kvs a
theorem AK{H:Hp}:∀{kvs:zJ}{b:zI},u8 kvs b->Paired (λ(a:Key×V)(x:PyData)=>Rep H a.2 x/\PyData.depth x<=1/\cnt x<=100000) kvs (b.map PyData.int)|_,_,.nil=>.nil|_,_,.cons a t=>.cons (hQ (by rw[a];exact .int _) (by simp[PyData.depth]) (by simp[cnt])) (AK t)
theorem Ah{S:zV}{H:Hp}:∀{kvs c:zJ}{d:zI},u8 kvs d->c.map (·.1)=kvs.map (·.1)->Paired (λ(b:Key×V)(x:PyData)=>Rep (jp S H) b.2 x) c (d.map PyData.int)->c=kvs
 |_,[],_,.nil,_,_=>rfl
 |_,_::_,_,.nil,ks,_=>by cases ks
 |_,[],_,.cons _ _,ks,_=>by cases ks
 |_,q::r,_,@Paired.cons _ _ _ p i _ _ a t,ks,pr=>by
  rw[iN,iN]at ks;injection ks with k1 k2;rw[iN]at pr
  cases pr with
  |cons b pr=>rw[Ah t k2 pr];have e:=zw b;have:q=p:=Prod.ext k1 (e.trans a.symm);rw[this]
def GB(A:Adr):Sp:=λf H Q _=>∃(p e l m:zW)(n:V)(x:Str)(d b:zC),f=[.ref p,.str x,.ref l,.ref m,n]/\H p=some (.ins A.ae e [])/\H l=some (.lst (d.map V.str))/\H m=some (.lst (b.map V.str))/\d.length<=1000/\b.length<=1000/\
 ∀(c u:zW)(a:Hp),H c=none->H u=none->a p=some (.ins A.ae e [("name",.str x),("axes",.ref c),("sums",.ref u),("term",n)])->a c=some (.lst (d.map V.str))->a u=some (.lst (b.map V.str))->KB p H a->Q .non a
abbrev clo(A:Adr)(dx:zW)(b:Int)(l a tb ln o:zW):HO:=.ins A.a9 dx [("wheel",.int b),("lengths",.ref l),("arrays",.ref a),("tables",.ref tb),("lines",.ref ln),("outs",.ref o)]
def Fy(A:Adr):Sp:=λz H Q _=>∃(p i r y w u t:zW)(v:Int)(f s:zJ)(B:zI)(g:zB)(o j:zC)(h:zM)(S:zV),z=[.ref p,.int v,.ref r,.ref y,.ref w,.ref u,.ref t]/\H p=some (.ins A.a9 i [])/\
 H r=some (.dK f)/\u8 f B/\f.length<=1000/\H y=some (.dK s)/\AR S H s g/\g.length<=1000/\(∀e∈g,e.2.length<=100)/\H w=some (.lst (o.map V.str))/\o.length<=1000/\H u=some (.lst h)/\h.length<=1000/\(∀x∈h,∃a i C,x=.ref a/\a≠p/\H a=some (.ins A.ae i C))/\H t=some (.lst (j.map V.str))/\j.length<=1000/\
 ∀(q n m l k:zW)(d:zJ)(c:Hp),c p=some (clo A i v q n m l k)->H q=none->c q=some (.dK f)->H n=none->c n=some (.dK d)->AR (λb=>H b=none) c d g->H m=none->c m=some (.lst (o.map V.str))->H l=none->c l=some (.lst h)->H k=none->c k=some (.lst (j.map V.str))->KB p H c->Q .non c
theorem Jv(T:Txt K mg t):FP P w mg base T.bP 5 (GB t):=by
 refine T.bP.F.ok Ju λ_ A _ s H _ Q E N h=>?_
 ·refine kF h ?_;clear h;rintro p e l m n ⟨x,M,S,rfl,f,L,R,ly,lz,k⟩;obtain⟨c2,c3⟩:=sf M;obtain⟨d2,d3⟩:=sf S;have Y:l≠p:=ir L f (by intro z;cases z);have mp:m≠p:=ir R f (by intro z;cases z);have e1:∀v:V,jE "axes" v [("name",.str x)]=([("name",.str x),("axes",v)]:zK):=λv=>by rw[jR (by decide+kernel),mr]
  have X:∀u v:V,jE "sums" v [("name",.str x),("axes",u)]=([("name",.str x),("axes",u),("sums",v)]:zK):=λu v=>by rw[jR (by decide+kernel),jR (by decide+kernel),mr]
  have Z:∀I u v:V,jE "term" v [("name",.str x),("axes",I),("sums",u)]=([("name",.str x),("axes",I),("sums",u),("term",v)]:zK):=λI u v=>by rw[jR (by decide+kernel),jR (by decide+kernel),jR (by decide+kernel),mr]
  refine rsq (eg ⟨lM (pv 0) (pv 1) rfl⟩ (eg ⟨lM (pv 0) (pcl (qB T) N T.a5 (fC 2)) rfl⟩ (eg ⟨lM (pv 0) (pcl (qB T) N T.a5 (fC 3)) rfl⟩ (fa ⟨lM (pv 0) (pv 4) rfl⟩)))) (mu _ rfl _ rfl p _ e [] rfl f T.aE T.cL (by decide) ?_);rw[mr];have C:KB p H (upd H p (.ins t.ae e [("name",.str x)])):=KB.refl.upd;refine ah _ rfl (.inl (.inl (jA (.ref l) (lU M) rfl (rY (C _ _ Y L)) (by lia) (by lia) λv' O U q=>?_)));have y:=U _ _ (dh (H:=H) (a:=p));obtain⟨c,rfl,r⟩:=tM q;obtain⟨i,r⟩:=jT r;have d:H c=none:=C.free dh i;have J:c≠p:=λz=>by subst z;rw[f]at d;cases d
  refine i12 _ rfl p _ e _ rfl y T.aE T.bG ⟨(by show 1<1000;decide),?_⟩;rw[e1];have D:KB p H (upd O p (.ins t.ae e [("name",.str x),("axes",.ref c)])):=(C.trans (KB.of U)).upd;refine ah _ rfl (.inl (.inl (jA (.ref m) (lU S) rfl (rY (D _ _ mp R)) (by lia) (by lia) λa0 W o g=>?_)));have j:=o _ _ (dh (H:=O) (a:=p));obtain⟨u,rfl,G⟩:=tM g;obtain⟨B,G⟩:=jT G;have b:H u=none:=D.free dh B;have up:u≠p:=λz=>by subst z;rw[f]at b;cases b
  refine i12 _ rfl p _ e _ rfl j T.aE T.b6 ⟨(by show 2<1000;decide),?_⟩;rw[X];refine mu _ rfl _ rfl p _ e _ rfl dh T.aE T.cJ (by show 3<1000;decide) ?_;show Q V.non (upd (upd W p _) p _);rw[rz,Z];exact k c u _ d b dh (by rw[dV J];exact o _ _ (by rw[dV J];exact r)) (by rw[dV up];exact G) (D.trans (KB.of o)).upd
theorem JM(T:Txt K mg t):FP P w mg base T.bD 5 (Fy t):=by
 refine T.bD.F.ok JJ λ_ A _ s H _ Q E I h=>?_
 ·refine oX h ?_;clear h;rintro p c ld ad tl lv ol a lk ak is es tb os ⟨xs,S,rfl,hp,W,il,ll,O,ar,c4,R,J,c5,G,c0,b7,M,c1,k⟩;have f1:∀v:V,jE "lengths" v [("wheel",.int a)]=([("wheel",.int a),("lengths",v)]:zK):=λv=>by rw[jR (by decide+kernel),mr]
  have f2:∀u v:V,jE "arrays" v [("wheel",.int a),("lengths",u)]=([("wheel",.int a),("lengths",u),("arrays",v)]:zK):=λu v=>by rw[jR (by decide+kernel),jR (by decide+kernel),mr]
  have f3:∀i u v:V,jE "tables" v [("wheel",.int a),("lengths",i),("arrays",u)]=([("wheel",.int a),("lengths",i),("arrays",u),("tables",v)]:zK):=λi u v=>by rw[jR (by decide+kernel),jR (by decide+kernel),jR (by decide+kernel),mr]
  have f4:∀i m u v:V,jE "lines" v [("wheel",.int a),("lengths",i),("arrays",m),("tables",u)]=([("wheel",.int a),("lengths",i),("arrays",m),("tables",u),("lines",v)]:zK):=λi m u v=>by rw[jR (by decide+kernel),jR (by decide+kernel),jR (by decide+kernel),jR (by decide+kernel),mr]
  have f5:∀i m u3 u v:V,jE "outs" v [("wheel",.int a),("lengths",i),("arrays",m),("tables",u3),("lines",u)]=([("wheel",.int a),("lengths",i),("arrays",m),("tables",u3),("lines",u),("outs",v)]:zK):=λi m u3 u v=>by rw[jR (by decide+kernel),jR (by decide+kernel),jR (by decide+kernel),jR (by decide+kernel),jR (by decide+kernel),mr]
  have y:∀{b:zW}{u:HO},H b=some u->(∀C d fs,u≠.ins C d fs)->b≠p:=λe n z=>by subst z;rw[hp]at e;cases e;exact n _ _ _ rfl
  have f:∀{b:zW},H b=none->b≠p:=λe z=>by subst z;rw[hp]at e;cases e
  refine rsq (eg ⟨lM (pv 0) (pv 1) rfl⟩ (eg ⟨lM (pv 0) (pcl (qB T) I T.a5 (fC 2)) rfl⟩ (eg ⟨lM (pv 0) (pcl (qB T) I T.a5 (fC 3)) rfl⟩ (eg ⟨lM (pv 0) (pcl (qB T) I T.a5 (fC 4)) rfl⟩ (eg ⟨lM (pv 0) (pcl (qB T) I T.a5 (fC 5)) rfl⟩ (fa ⟨lM (pv 0) (pcl (qB T) I T.a5 (fC 6)) rfl⟩)))))) (mu _ rfl _ rfl p _ c [] rfl hp T.ag T.dC (by decide) ?_);rw[mr];obtain⟨G0,hG0⟩:∃G0,G0=upd H p (.ins t.a9 c [("wheel",.int a)]):=⟨_,rfl⟩;rw[<-hG0];have p0:G0 p=some (.ins t.a9 c [("wheel",.int a)]):=by rw[hG0];exact dh
  have k0:KB p H G0:=by rw[hG0];exact KB.refl.upd
  refine ah _ rfl (.inr (jX ld lk (is.map PyData.int) rfl (k0 _ _ (y W (by intros;intro z;cases z)) W) (by lia) (AK il) λg b4 H1 a2 s1 h1 ks cp=>?_));have ek:=Ah il ks cp;subst ek;have B:H g=none:=k0.free p0 a2;refine i12 _ rfl p _ c _ rfl (s1 _ _ p0) T.ag T.aj ⟨(by show 1<1000;decide),?_⟩;rw[f1];obtain⟨G1,hG1⟩:∃G1,G1=upd H1 p (.ins t.a9 c [("wheel",.int a),("lengths",.ref g)]):=⟨_,rfl⟩;rw[<-hG1];have Y:G1 p=some (.ins t.a9 c [("wheel",.int a),("lengths",.ref g)]):=by rw[hG1];exact dh
  have r:KB p H G1:=by rw[hG1];exact(k0.trans (KB.of s1)).upd
  have a7:G1 g=some (.dK b4):=by rw[hG1,dV (f B)];exact h1
  have U:AR (λb=>S b) G1 ak es:=ar.imp λb ys z e=>⟨z,r _ _ (y e (by intros;intro z;cases z)) e⟩;refine ah _ rfl (.inr (jX ad ak _ rfl (r _ _ (y O (by intros;intro z;cases z)) O) (by have:=Paired.length ar;lia) (U.src R) λj o H2 b8 s2 h2 b2 a4=>?_));have b5:=yO U b2 a4;have N:H j=none:=r.free Y b8;refine i12 _ rfl p _ c _ rfl (s2 _ _ Y) T.ag T.aY ⟨(by show 2<1000;decide),?_⟩;rw[f2];obtain⟨G2,hG2⟩:∃G2,G2=upd H2 p (.ins t.a9 c [("wheel",.int a),("lengths",.ref g),("arrays",.ref j)]):=⟨_,rfl⟩;rw[<-hG2];have p2:G2 p=some (.ins t.a9 c [("wheel",.int a),("lengths",.ref g),("arrays",.ref j)]):=by rw[hG2];exact dh
  have j2:KB p G1 G2:=by rw[hG2];exact(KB.of s2).upd
  have k2:=r.trans j2;have a8:G2 j=some (.dK o):=by rw[hG2,dV (f N)];exact h2
  have b1:AR (λb=>H b=none) G2 o es:=b5.imp λb ys z e=>⟨r.free Y z,by rw[hG2,dV (f (r.free Y z))];exact e⟩;obtain⟨c2,c3⟩:=sf tb;refine ah _ rfl (.inl (.inl (jA (.ref tl) (lU tb) rfl (rY (k2 _ _ (y J (by intros;intro z;cases z)) J)) (by lia) (by lia) λvt H3 s3 a0=>?_)));obtain⟨l,rfl,et⟩:=tM a0;obtain⟨b6,et⟩:=jT et;have X:H l=none:=k2.free p2 b6;refine i12 _ rfl p _ c _ rfl (s3 _ _ p2) T.ag T.d9 ⟨(by show 3<1000;decide),?_⟩;rw[f3];obtain⟨G3,hG3⟩:∃G3,G3=upd H3 p (.ins t.a9 c [("wheel",.int a),("lengths",.ref g),("arrays",.ref j),("tables",.ref l)]):=⟨_,rfl⟩;rw[<-hG3];have p3:G3 p=some (.ins t.a9 c [("wheel",.int a),("lengths",.ref g),("arrays",.ref j),("tables",.ref l)]):=by rw[hG3];exact dh
  have Z:KB p G2 G3:=by rw[hG3];exact(KB.of s3).upd
  have k3:=k2.trans Z;have b3:G3 l=some (.lst (tb.map V.str)):=by rw[hG3,dV (f X)];exact et
  refine ah _ rfl (.inl (.inr (jA lv xs rfl (k3 _ _ (y G (by intros;intro z;cases z)) G) c0 (λx hx=>?_) λq H4 a6 s4 b0=>?_)))
  ·obtain⟨b,db,fs,rfl,nb,eb⟩:=b7 x hx;exact ku b db fs rfl (k3 _ _ nb eb)
  have nv:H q=none:=k3.free p3 a6;refine i12 _ rfl p _ c _ rfl (s4 _ _ p3) T.ag T.aL ⟨(by show 4<1000;decide),?_⟩;rw[f4];obtain⟨G4,hG4⟩:∃G4,G4=upd H4 p (.ins t.a9 c [("wheel",.int a),("lengths",.ref g),("arrays",.ref j),("tables",.ref l),("lines",.ref q)]):=⟨_,rfl⟩;rw[<-hG4];have p4:G4 p=some (.ins t.a9 c [("wheel",.int a),("lengths",.ref g),("arrays",.ref j),("tables",.ref l),("lines",.ref q)]):=by rw[hG4];exact dh
  have D:KB p G3 G4:=by rw[hG4];exact(KB.of s4).upd
  have k4:=k3.trans D;have a1:G4 q=some (.lst xs):=by rw[hG4,dV (f nv)];exact b0
  obtain⟨o2,o3⟩:=sf os;refine ah _ rfl (.inl (.inl (jA (.ref ol) (lU os) rfl (rY (k4 _ _ (y M (by intros;intro z;cases z)) M)) (by lia) (by lia) λvo H5 s5 a3=>?_)));obtain⟨o',rfl,eo⟩:=tM a3;obtain⟨b9,eo⟩:=jT eo;have no:H o'=none:=k4.free p4 b9;refine i12 _ rfl p _ c _ rfl (s5 _ _ p4) T.ag T.cn ⟨(by show 5<1000;decide),?_⟩;show Q V.non (upd H5 p _);rw[f5];have j5:KB p G4 (upd H5 p (clo t c a g j l q o')):=(KB.of s5).upd;have L:=λ{b:zW}(hb:H b=none){u:HO}(e:G4 b=some u)=>j5 _ _ (f hb) e;exact k g j l q o' o _ dh B (L B (D _ _ (f B) (Z _ _ (f B) (j2 _ _ (f B) a7)))) N (L N (D _ _ (f N) (Z _ _ (f N) a8))) (b1.imp λb ys z e=>⟨z,L z (D _ _ (f z) (Z _ _ (f z) e))⟩) X (L X (D _ _ (f X) b3)) nv (L nv a1) no (by rw[dV (f no)];exact eo) (k4.trans j5)
def Gd:Tm->Prop|.read _ ix=>ix.length<=100|.sum _ b=>Gd b|.pair _ l r=>Gd l/\Gd r|.guard _ _ _ l r=>Gd l/\Gd r|_=>True
structure B6m(n:Nat)(u:Tm)(H:Hp)(d l:zW)(kvs lk:zJ):Prop where
 good:Gd u
 deep:dep u<=n
 hd:H d=some (.dK kvs)
 at_:uV kvs u
 hl:H l=some (.dK lk)
 ax:∃AX,Axs AX u/\yM AX lk
 few:kvs.length+n<=1000
 most:(rd (ai lk) u (ai kvs)).length<=100000
theorem B6m.same(h:B6m n u H d l kvs lk)(s:A0l H H'):B6m n u H' d l kvs lk:=⟨h.good,h.deep,s _ _ h.hd,h.at_,s _ _ h.hl,h.ax,h.few,h.most⟩
theorem B6m.left{o:Op3}{a b:Tm}(h:B6m (n+1) (.pair o a b) H d l kvs lk):B6m n a H d l kvs lk:=by obtain⟨AX,j,g⟩:=h.ax;have e:=h.deep;have f:=h.few;have c:=h.most;simp only [dep]at e;simp only [rd,jc]at c;exact⟨h.good.1,by lia,h.hd,λx i=>h.at_ x (.inl i),h.hl,(ah AX j.1 g),by lia,by lia⟩
theorem B6m.right{o:Op3}{a b:Tm}(h:B6m (n+1) (.pair o a b) H d l kvs lk):B6m n b H d l kvs lk:=by obtain⟨AX,j,g⟩:=h.ax;have e:=h.deep;have f:=h.few;have c:=h.most;simp only [dep]at e;simp only [rd,jc]at c;exact⟨h.good.2,by lia,h.hd,λx i=>h.at_ x (.inr i),h.hl,(ah AX j.2 g),by lia,by lia⟩
theorem B6m.inner{a b:Tm}(h:B6m (n+1) (.guard x lo hi a b) H d l kvs lk)(c:lo<=ai kvs x/\ai kvs x<hi):B6m n a H d l kvs lk/\rd (ai lk) (.guard x lo hi a b) (ai kvs)=rd (ai lk) a (ai kvs):=by
 obtain⟨AX,m,j⟩:=h.ax;have g:=h.deep;have i:=h.few;have f:=h.most;have e:rd (ai lk) (.guard x lo hi a b) (ai kvs)=rd (ai lk) a (ai kvs):=by simp only [rd];rw[ia c]
 rw[e]at f;simp only [dep]at g;exact⟨⟨h.good.1,by lia,h.hd,λx k=>h.at_ x (.inr (.inl k)),h.hl,(ah AX m.2.1 j),by lia,f⟩,e⟩
theorem B6m.outer{a b:Tm}(h:B6m (n+1) (.guard x lo hi a b) H d l kvs lk)(c:¬(lo<=ai kvs x/\ai kvs x<hi)):B6m n b H d l kvs lk/\rd (ai lk) (.guard x lo hi a b) (ai kvs)=rd (ai lk) b (ai kvs):=by
 obtain⟨AX,m,j⟩:=h.ax;have g:=h.deep;have i:=h.few;have f:=h.most;have e:rd (ai lk) (.guard x lo hi a b) (ai kvs)=rd (ai lk) b (ai kvs):=by simp only [rd];rw[fy c]
 rw[e]at f;simp only [dep]at g;exact⟨⟨h.good.2,by lia,h.hd,λx k=>h.at_ x (.inr (.inr k)),h.hl,(ah AX m.2.2 j),by lia,f⟩,e⟩
theorem B6m.gat{a b:Tm}(h:B6m n (.guard x lo hi a b) H d l kvs lk)(s:A0l H H'):B0p H' d (.str x) (some (.int (ai kvs x))):=by have g:=B0p.k (H:=H') (a:=d) (k:=Sum.inr x) (s _ _ h.hd);rw[h.at_ x (.inl rfl)]at g;exact g
def RdQ(H:Hp)(rs:List (Str×List Int))(Q:VK):Prop:=∀(p:zW)(b:zM)(a:Hp),H p=none->A0l H a->a p=some (.lst b)->Rds a b rs->Q (.ref p) a
def Jg:Sp:=λb H Q _=>∃(x:Str)(z:Int)(d:zW)(a:zJ),b=[.str x,.int z,.ref d]/\H d=some (.dK a)/\(¬x=""->ic a (Sum.inr x)=some (.int (ai a x)))/\Q (.int (if x="" then z else ai a x+z)) H
def Iv(A:Adr):Sp:=λg H Q _=>∃(o h d l:zW)(a:Str)(c:zL)(b:zJ),g=[.ref o,.ref d]/\H o=some (.ins A.am h [("array",.str a),("indexes",.ref l)])/\Rep H (.ref l) (nZ c)/\c.length<=100/\H d=some (.dK b)/\
 (∀e∈c,¬e.1=""->ic b (Sum.inr e.1)=some (.int (ai b e.1)))/\∀(p:zW)(f:Hp),H p=none->A0l H f->f p=some (.tup ((mF (ai b) c).map V.int))->Q (.ref p) f
def Hn(A:Adr):Sp:=λf H Q _=>∃(o e d:zW)(x:Str)(b c:Int)(u v:V)(a:zJ),f=[.ref o,.ref d]/\H o=some (.ins A.aa e [("axis",.str x),("low",.int b),("high",.int c),("inner",u),("outer",v)])/\B0p H d (.str x) (some (.int (ai a x)))/\
 (b<=ai a x/\ai a x<c->Q u H)/\(¬(b<=ai a x/\ai a x<c)->Q v H)
def tH(A:Adr)(n:Nat)(e:Tm->Prop):Sp:=λc H Q _=>∃(v:V)(u:Tm)(d l:zW)(a b:zJ),c=[v,.ref d,.ref l]/\e u/\Ob A H v u/\B6m n u H d l a b/\RdQ H (rd (ai b) u (ai a)) Q
theorem Jh(T:Txt K mg t):FO P w base T.cy 1 Jg:=by
 refine T.cy.F.ok Jl λ_ A _ s H _ Q E i h=>?_
 ·refine jy h ?_;clear h;rintro x z d l rfl j f k;have c:=lF i;refine rsq (eg (iP (iT kS (pv 0) ip) (fa (im (pv 1))) ⟨iJ⟩) (fa (im (ib kI (iR c (pv 2) (pv 0)) (pv 1))))) ?_;refine lQ _ rfl rfl _ rfl (iC (λh=>?_) (λh=>?_))
  ·rw[ia (by injection h)]at k;exact ah _ rfl k
  ·have b:¬x="":=λe=>h (by rw[e]);rw[fy b]at k;have g:=B0p.k (H:=H) (a:=d) (k:=Sum.inr x) j;rw[f b]at g;exact iU _ rfl _ rfl d _ rfl g (ii _ rfl _ _ rfl rfl k)
theorem Kj(T:Txt K mg t):FP P w mg base T.be 2 (Iv t):=by
 refine T.be.F.ok Kk λ_ A _ s H _ Q E M h=>?_
 ·refine kF h ?_;clear h;rintro o U d l a ⟨ix,u,rfl,N,I,W,O,L,k⟩;obtain⟨_,J,q,z,B⟩:=tZ (show Rep H (.ref l) (.list (ix.map mR)) from I);cases q;have v:=B.len;rw[hA]at v;refine rsq (fa (im (oI sR (by rfl) T.aC nV (al (mH (N':=["axis","shift","at"]) (ix:=(List.replicate 2 none++[some 1])) (g:=wv K 2 (tP (nX 0) (tP (nX 1) wA))) rfl (qI (x:="at") rfl rfl rfl (by decide+kernel) (by decide+kernel)) (qN (N0:=["axis","shift"]) rfl (.inl rfl) (by walk_at"ix")) (ju (kJ (pv 0) rfl)) (λ_ _ _ _=>(lK (n:=2) rfl (iY (ie (i:=0) Bu) (iY (ie (i:=1) Bu) lN)))) (λ_ _ _ _=>(pcl (Jh T) M T.cy (al (pv 0) (al (pv 1) (fC 2)))))) eH)))) ?_;refine jW _ rfl o _ U _ _ rfl N T.c7 T.bJ (by walk_at"lk") (hH l rfl ⟨_,SqL.of z⟩ λD y=>?_);refine pB (K:=K) (a:=l) (D:=D) (xs:=J) (λi j r=>A0l H r/\r D=some (.lst j)/\j=(mF (ai u) (ix.take i)).map V.int) (hQ (eh y) dh rfl) (λi j r ⟨c,_⟩=>SqL.of (c _ _ z)) ?_ ?_
  ·rintro i x j r m ⟨c,b,rfl⟩;have S:i<ix.length:=by have:=(iG.mp m).1;lia
   obtain⟨X,f,G⟩:=B.get2 m;have e:ix[i]?=some ix[i]:=jq S;rw[jh,e]at f;cases f;obtain⟨q,rfl,R⟩:=yU G;refine mQ q _ rfl (SqT.of (c _ _ R)) rfl _ _ rfl _ _ rfl rfl (iV ⟨rfl,True.intro⟩ _ rfl (jB _ rfl _ rfl (jo (ix[i].1) (ix[i].2) d u rfl (c _ _ O) (L _ (iZ e)) ?_)));refine jH b (iM (by simp[mF];lia)) (jn c y) dh ?_;rw[iF,e,iS];unfold mF;rw[iK,iK];rfl
  ·rintro j r ⟨c,b,rfl⟩;rw[v,iQ]at b;exact jV D _ rfl (.inl ⟨SqL.of b,λp C=>k p _ (c.free C) (c.trans (eh C)) dh⟩)
def Et(A:Adr):Sp:=λf H Q _=>∃(o e d:zW)(x:Str)(b c:Int)(u v:V)(a:zJ),f=[.ref o,.ref d]/\H o=some (.ins A.aa e [("axis",.str x),("low",.int b),("high",.int c),("inner",u),("outer",v)])/\B0p H d (.str x) (some (.int (ai a x)))/\Q (.bl (decide (b<=ai a x/\ai a x<c))) H
theorem Kn(T:Txt K mg t):FP P w mg base T.aV 1 (Et t):=by
 refine T.aV.F.ok Kr λ_ A _ s H _ Q E m h=>?_
 ·refine lC h ?_;clear h;rintro o f d x c j u v a ⟨rfl,i,g,k⟩;have l:=lF m;refine rsq (fa (im (AG qx yw (kJ (pv 0) rfl) (iR l (pv 1) (kJ (pv 0) rfl)) (kJ (pv 0) rfl)))) ?_;refine jW _ rfl o _ f _ _ rfl i T.aq T.cG (by walk_at"lk") (ah _ rfl (jW _ rfl o _ f _ _ rfl i T.aq T.cj (by walk_at"lk") (fx d _ rfl g (lx _ _ rfl rfl _ rfl (iC (λb=>?_) (λb=>?_))))))
  ·have b:c<=ai a x:=b;refine jW _ rfl o _ f _ _ rfl i T.aq T.cm (by walk_at"lk") (fx _ _ rfl rfl ?_);have e:decide (c<=ai a x/\ai a x<j)=decide (ai a x<j):=by simp[b]
   rw[e]at k;exact k
  ·have b:¬c<=ai a x:=b;have e:decide (c<=ai a x/\ai a x<j)=false:=mZ λz=>b z.1;rw[e]at k;exact k
theorem Kv(T:Txt K mg t):FP P w mg base T.aI 2 (Hn t):=by
 have G:=@Kn P w K mg base t T;refine T.aI.F.ok Ku λ_ A _ s H _ Q E j h=>?_
 ·refine lC h ?_;clear h;rintro o a d x i m u v f ⟨rfl,c,g,k,l⟩;refine rsq (eg (iP (kZ (rC (pv 0) (fC 1))) (fa (im (kJ (pv 0) rfl))) ⟨iJ⟩) (fa (im (kJ (pv 0) rfl)))) ?_;refine nu _ rfl o _ a _ 1 t.aZ t.bK _ _ (ke rfl c T.aq T.cW (by walk_at"lk") ⟨G,(kE (j.mono (by lia)) T.aV.b _ rfl (lA o a d x i (jo m u v f rfl c g (ah _ rfl (iC (λe=>?_) (λe=>?_))))))⟩)
  ·exact jW _ rfl o _ a _ _ rfl c T.aq T.bT (by walk_at"lk") (k e)
  ·exact jW _ rfl o _ a _ _ rfl c T.aq T.bM (by walk_at"lk") (l e)
theorem Kf(T:Txt K mg t)(n:Nat):A4q P w K mg base jY 1 t.ba t.bS nh (tH t n λu=>∃z,u=.num z):=by
 refine T.bU.F.ok Kh λ_ A _ s H _ Q E g h=>?_
 ·refine qa h ?_;clear h;rintro v u d l c f rfl ⟨z,rfl⟩ e b k;exact rsq (fa (im (@jF _ _ _ _ eH))) ⟨iq rfl,λp a=>k p [] _ a (eh a) dh .nil⟩
theorem J5(T:Txt K mg t)(n:Nat):A4q P w K mg base jY 1 t.bo t.ci nh (tH t n λu=>∃z,u=.place z):=by
 refine T.cg.F.ok J8 λ_ A _ s H _ Q E g h=>?_
 ·refine qa h ?_;clear h;rintro v u d l c f rfl ⟨z,rfl⟩ e b k;exact rsq (fa (im (@jF _ _ _ _ eH))) ⟨iq rfl,λp a=>k p [] _ a (eh a) dh .nil⟩
theorem JH(T:Txt K mg t)(n:Nat):A4q P w K mg base jY 3 t.bF t.cN nh (tH t n λu=>∃z ix,u=.read z ix):=by
 have G:=@Kj P w K mg base t T;refine T.cM.F.ok JU λ_ A _ s H _ Q E D h=>?_
 ·refine qa h ?_;clear h;rintro v u d l i I rfl ⟨z,ix,rfl⟩ x c k
  cases x with
  |@read a dx li _ _ e rp=>
   refine rsq (fa (im (@jF _ _ _ _ (al (jd (al (kJ (pv 0) rfl) (al (rC (pv 0) (fC 1)) eH))) eH)))) ?_
   refine⟨_,rfl,a,_,dx,_,_,rfl,e,T.c7,T.cv,(by walk_at"lk"),_,rfl,a,_,dx,_,2,t.bd,t.bO,_,_,rfl,e,T.c7,T.d5,(by walk_at"lk"),G,D.mono (by lia),T.be.b,_,rfl,
    a,dx,d,li,z,ix,i,rfl,e,rp,c.good,c.hd,λe B m=>c.at_ e.1 (iV m e B rfl),λq L J C y=>?_⟩
   refine⟨iq rfl,λr f=>⟨iq rfl,λp g=>?_⟩⟩;have j:=C.trans (eh (o:=.tup [.str z,.ref q]) f);exact k p [.ref r] _ (j.free g) (j.trans (eh g)) dh (.cons (fx r q rfl (oW g dh) (oW g (oW f y))) .nil)
def ROk(P:yB)(w:yD)(K:Frag)(mg:zE)(base:yA)(A:Adr)(n:Nat):Prop:=∀(H:Hp)(v:V)(u:Tm),Ob A H v u->dep u<=n->
 ∃(a C m:zW)(g:zK)(k:Nat)(f:zW)(j:zS)(h:zC)(i:Sp),v=.ref a/\H a=some (.ins C m g)/\Cls K C/\nB K C "reads" f/\g.lookup ("reads":Str)=none/\A4q P w K mg base jY k f j h i/\k<=n+3/\B2b K j h []/\
  ∀(c:Hp)(d l:zW)(b e:zJ)(Q:VK),A0l H c->B6m n u c d l b e->RdQ c (rd (ai e) u (ai b)) Q->i [v,.ref d,.ref l] c Q E0
theorem se(T:Txt K mg t)(k:Op3):Cls K (rg t k):=by cases k with|plus=>exact T.gC|minus=>exact T.g9|times=>exact T.ga
theorem va(T:Txt K mg t)(k:Op3):A1w K (rg t k) "left":=by cases k with|plus=>exact T.eJ|minus=>exact T.dM|times=>exact T.dU
theorem ve(T:Txt K mg t)(k:Op3):A1w K (rg t k) "right":=by cases k with|plus=>exact T.dY|minus=>exact T.dy|times=>exact T.du
theorem Dt(T:Txt K mg t)(k:Op3):nB K (rg t k) "reads" t.aB:=by cases k with|plus=>exact T.dL|minus=>exact T.dq|times=>exact T.dG
theorem JI(T:Txt K mg t)(W:ROk P w K mg base t n):A4q P w K mg base jY (n+4) t.aB t.cO nh (tH t (n+1) λu=>∃o x b,u=.pair o x b):=by
 refine T.cK.F.ok JY λ_ A _ s H _ Q E hr h=>?_
 ·refine qa h ?_;clear h;rintro v u d l q Z rfl ⟨o,x,y,rfl⟩ ob g k
  cases ob with
  |@pair a dx _ u v _ _ e ob1 ob2=>have a1:=g.left;have Y:=g.right;have hm:=g.most;simp only [rd,jc]at hm;refine rsq (fa (im (ib oT (rC (kJ (pv 0) rfl) (al (pv 1) (fC 2))) (rC (kJ (pv 0) rfl) (al (pv 1) (fC 2)))))) ?_;refine jW _ rfl a _ dx _ _ rfl e (se T o) (va T o) (by walk_at"lk") ?_;refine lC (W H u x ob1 a1.deep) ?_;rintro M C' j m C G f i c ⟨rfl,X,I,L,O,R,J,U,N⟩;refine lj M C' j (lu m C G f i c rfl X I L O R (hr.mono (by lia)) U (jB _ rfl _ rfl (N H d l q Z _ (A0l.refl _) a1 λp1 D H1 a0 r h1 r1=>?_)));refine jW _ rfl a _ dx _ _ rfl (r _ _ e) (se T o) (ve T o) (by walk_at"lk") ?_;refine lC (W H1 v y (ob2.imp r) Y.deep) ?_;rintro M C' j m C G f i c ⟨rfl,X,I,L,O,R,J,U,N⟩;refine lj M C' j (lu m C G f i c rfl X I L O R (hr.mono (by lia)) U (jB _ rfl _ rfl (N H1 d l q Z _ (A0l.refl _) (Y.same r) λp2 S H2 a3 z h2 r2=>?_)));have l1:=Paired.length r1;have l2:=Paired.length r2;refine lh p1 p2 _ _ rfl rfl (z _ _ h1) h2 (lg (by lia)) λp B=>?_;have s3:=r.trans (z.trans (eh (o:=.lst (D++S)) B));exact k p _ _ (r.free (z.free B)) s3 dh (Paired.app (r1.same (z.trans (eh B))) (r2.same (eh B)))
theorem JZ(T:Txt K mg t)(W:ROk P w K mg base t n):A4q P w K mg base jY (n+4) t.bq t.cf nh (tH t (n+1) λu=>∃x lo hi l r,u=.guard x lo hi l r):=by
 have G:=@Kv P w K mg base t T;refine T.c9.F.ok Kc λ_ A _ s H _ Q E D h=>?_
 ·refine qa h ?_;clear h;rintro v u d l j Y rfl ⟨x,lo,hi,y,z,rfl⟩ Z i k
  cases Z with
  |@guard a dx _ _ _ u v _ _ e ob1 ob2=>
   refine rsq (fa (im (rC (rC (pv 0) (fC 1)) (al (pv 1) (fC 2))))) ?_
   refine⟨_,rfl,a,_,dx,_,2,t.aJ,t.bi,_,_,rfl,e,T.aq,T.cx,(by walk_at"lk"),G,D.mono (by lia),T.aI.b,_,rfl,
    a,dx,d,x,lo,hi,u,v,j,rfl,e,i.gat (A0l.refl _),λc=>?_,λc=>?_⟩
   ·obtain⟨q,I⟩:=i.inner c;rw[I]at k;refine lC (W H u y ob1 q.deep) ?_;rintro N C' o p B C g m f ⟨rfl,X,J,M,R,S,L,U,O⟩;exact lj N C' o (lu p B C g m f rfl X J M R S (D.mono (by lia)) U (jB _ rfl _ rfl (O H d l j Y _ (A0l.refl _) q k)))
   ·obtain⟨q,I⟩:=i.outer c;rw[I]at k;refine lC (W H v z ob2 q.deep) ?_;rintro N C' o p B C g m f ⟨rfl,X,J,M,R,S,L,U,O⟩;exact lj N C' o (lu p B C g m f rfl X J M R S (D.mono (by lia)) U (jB _ rfl _ rfl (O H d l j Y _ (A0l.refl _) q k)))
theorem rok(T:Txt K mg t):∀n:Nat,ROk P w K mg base t n
 |0=>λH v u g i=>absurd i (by have:=vt u;lia)
 |n+1=>λH v u g i=>by
  have W:=rok T n
  cases id g with
  |num e=>exact lj _ _ _ (lu _ _ _ _ _ _ rfl e T.e8 T.d8 (by walk_at"lk") (Kf T (n+1)) (by lia) T.bU.b λh d l c f Q s a k=>(km _ _ (jf d l c f rfl ⟨_,rfl⟩ (g.imp s) a k)))
  |place e=>exact lj _ _ _ (lu _ _ _ _ _ _ rfl e T.eY T.dm (by walk_at"lk") (J5 T (n+1)) (by lia) T.cg.b λh d l c f Q s a k=>(km _ _ (jf d l c f rfl ⟨_,rfl⟩ (g.imp s) a k)))
  |read e r=>exact lj _ _ _ (lu _ _ _ _ _ _ rfl e T.c7 T.dS (by walk_at"lk") (JH T (n+1)) (by lia) T.cM.b λh d l c f Q s a k=>(km _ _ (jf d l c f rfl (km _ _ rfl) (g.imp s) a k)))
  |@pair _ _ o _ _ _ _ e o1 o2=>exact lj _ _ _ (lu _ _ _ _ _ _ rfl e (se T o) (Dt T o) (by walk_at"lk") (JI T W) (by lia) T.cK.b λh d l c f Q s a k=>(km _ _ (jf d l c f rfl (lj _ _ _ rfl) (g.imp s) a k)))
  |guard e o1 o2=>exact lj _ _ _ (lu _ _ _ _ _ _ rfl e T.aq T.dH (by walk_at"lk") (JZ T W) (by lia) T.c9.b λh d l c f Q s a k=>(km _ _ (jf d l c f rfl (lA _ _ _ _ _ rfl) (g.imp s) a k)))
structure LnM where
 nm:Str
 own:zC
 sums:zC
 tm:Tm
def B2u(A:Adr)(M:zQ)(H:Hp)(v:V)(e:LnM):Prop:=∃(a d c u:zW)(n:V),v=.ref a/\H a=some (.ins A.ae d [("name",.str e.nm),("axes",.ref c),("sums",.ref u),("term",n)])/\c∉M/\H c=some (.lst (e.own.map V.str))/\u∉M/\H u=some (.lst (e.sums.map V.str))/\Ob A (jp (λb=>b∉M) H) n e.tm
abbrev uc(A:Adr)(M:zQ)(H:Hp)(xs:zM)(rows:List LnM):Prop:=Paired (B2u A M H) xs rows
theorem B2u.same(h:B2u A M H v e)(s:A0l H H'):B2u A M H' v e:=by refine nN h ?_;clear h;rintro a d c u n rfl k g j b ⟨f,i⟩;exact jk a d c u n rfl (s _ _ k) g (s _ _ j) b ⟨s _ _ f,i.imp (mX s)⟩
structure StM where
 k:Nat
 wd:Str
 ce:zI
 tu:zI
def D6k(H:Hp)(v:V)(s:StM):Prop:=∃b c u,v=.ref b/\H b=some (.tup [.int (s.k:Nat),.str s.wd,.ref c,.ref u])/\H c=some (.tup (s.ce.map V.int))/\H u=some (.tup (s.tu.map V.int))
theorem D6k.same{s:StM}(h:D6k H v s)(a:A0l H H'):D6k H' v s:=by refine iW h ?_;clear h;rintro b c u rfl d f e;exact jv b c u rfl (a _ _ d) (a _ _ f) (a _ _ e)
def atM(e:LnM)(s:StM):zJ:=lV [] (((e.own++e.sums).map (Sum.inr:Str->Key)).zip ((s.ce++s.tu).map V.int))
structure rS(lk:zJ)(e:LnM)(s:StM):Prop where
 lc:s.ce.length=e.own.length
 lt:s.tu.length=e.sums.length
 l8:e.own.length+e.sums.length<=8
 good:Gd e.tm
 deep:dep e.tm<=10
 at_:uV (atM e s) e.tm
 ax:∃AX,Axs AX e.tm/\yM AX lk
 most:(rd (ai lk) e.tm (ai (atM e s))).length<=100000
def HG(A:Adr):Sp:=λi H Q _=>∃(p m l a j g o f:zW)(h:Int)(c:zJ)(d:zM)(M:zQ)(b:List LnM)(e:LnM)(s:StM),i=[.ref p,.ref f]/\H p=some (clo A m h l a j g o)/\H l=some (.dK c)/\H g=some (.lst d)/\uc A M H d b/\D6k H (.ref f) s/\b[s.k]?=some e/\
 (s.wd="start"->RdQ H [] Q)/\(s.wd≠"start"->rS c e s/\RdQ H (rd (ai c) e.tm (ai (atM e s))) Q)
def JO(A:Adr):Sp:=λi H Q _=>∃(p m l a j g o f:zW)(h:Int)(d:zM)(M:zQ)(b:List LnM)(e:LnM)(s:StM),i=[.ref p,.ref f]/\H p=some (clo A m h l a j g o)/\H g=some (.lst d)/\uc A M H d b/\D6k H (.ref f) s/\b[s.k]?=some e/\
 ∀(q:zW)(c:Hp),A0l H c->D6q c (.ref q) (e.nm,s.ce)->Q (.ref q) c
theorem FW(a:zJ):∀b:zJ,(lV a b).length<=a.length+b.length:=by
 intro b;unfold lV
 induction b generalizing a with
 |nil=>simp
 |cons w r ih=>
  rw[List.foldl_cons];refine nO (ih _) ?_;have:=pX a w.1 w.2;rw[mB]
  lia
theorem xS(T:Txt K mg t):FO P w base T.aG 1 (JO t):=by
 refine T.aG.F.ok uA λ_ A _ s H _ Q E Z h=>?_
 ·refine oX h ?_;clear h;rintro p O l a tb U o I wh m M B e j ⟨rfl,W,v,d,⟨b,c,u,L,J,N,Y⟩,D,k⟩;cases L;have r:=Paired.length d;have x:j.k<m.length:=by rw[r];exact(iG.mp D).1
  have f:m[j.k]?=some m[j.k]:=jq x;obtain⟨e',g,z,X,ca,cu,n,y,R,_⟩:=ja d f;rw[D]at g;cases g;refine rsq (eg ⟨mG (pv 1) (lK (n:=4) rfl (iY (ie (i:=2) uA.nd) (iY (ie (i:=3) uA.nd) (iY (ie (i:=4) uA.nd) (iY (ie (i:=5) uA.nd) lN)))))⟩ (fa (im (jd (al (kJ (jr kd (kJ (pv 0) rfl) (pv 2)) rfl) (fC 4)))))) ?_;refine ii _ rfl I _ rfl (SqT.of J) (sU rfl _ _ rfl _ _ rfl _ _ rfl _ _ rfl rfl ?_);have G:atI m ((j.k:Nat):Int)=some (.ref z):=hY (by rw[f,y]);refine jW _ rfl p _ O _ _ rfl W T.ag T.aL (by walk_at"lk") (i12 _ rfl U _ _ _ rfl rfl (SqL.of v) G (jk z _ X _ _ rfl R T.aE T.cL (by walk_at"lk") (hH _ rfl (iq rfl) λq S=>?_)));have C:=eh (o:=.tup [.str e.nm,.ref c]) S;exact k q _ C (fx q c rfl dh (C _ _ N))
theorem BB(T:Txt K mg t):FO P w base T.bY 15 (HG t):=by
 refine T.bY.F.ok rH λ_ A _ s H _ Q E hr h=>?_
 ·refine oX h ?_;clear h;rintro p dx l a tb ln o st wh lk L M a9 e ⟨f,rfl,hp,hl,a4,x,⟨b,c,u,eb,hb,hc,hu⟩,hk,k1,k2⟩;cases eb;have a3:=Paired.length x;have a5:f.k<L.length:=by rw[a3];exact(iG.mp hk).1
  have y:L[f.k]?=some L[f.k]:=jq a5;obtain⟨e',B,J,da,ca,cu,n,Z,h1,m1,h2,m2,h3,ob⟩:=ja x y;rw[hk]at B;cases B;refine rsq (eg ⟨mG (pv 1) (lK (n:=4) rfl (iY (ie (i:=2) rH.nd) (iY (ie (i:=3) rH.nd) (iY (ie (i:=4) rH.nd) (iY (ie (i:=5) rH.nd) lN)))))⟩ (eg (iP (iT kS (pv 3) ip) (fa (im (@jF _ _ _ _ eH))) ⟨iJ⟩) (eg (iw 6 rH.nd (jr kd (kJ (pv 0) rfl) (pv 2))) (eg (iw 7 rH.nd (HI rfl (by rfl) T.dz (by rfl) T.fq (al (ib oT (kJ (pv 6) rfl) (kJ (pv 6) rfl)) (al (ib xo (pv 4) (pv 5)) eH)))) (fa (im (rC (kJ (pv 6) rfl) (al (pv 7) (al (kJ (pv 0) rfl) eH))))))))) ?_;refine ii _ rfl st _ rfl (SqT.of hb) (sU rfl _ _ rfl _ _ rfl _ _ rfl _ _ rfl rfl ?_);refine lQ _ rfl rfl _ rfl (iC (λr=>?_) (λr=>?_))
  ·have r:f.wd="start":=by injection r
   exact⟨iq rfl,λq hq=>k1 r q [] _ hq (eh hq) dh .nil⟩
  have r:f.wd≠"start":=λz=>r (by rw[z]);obtain⟨g,kq⟩:=k2 r;have e0:atI L ((f.k:Nat):Int)=some (.ref J):=hY (by rw[y,Z]);refine jW _ rfl p _ dx _ _ rfl hp T.ag T.aL (by walk_at"lk") (i12 _ rfl ln _ _ _ rfl rfl (SqL.of a4) e0 ?_);have lc:=g.lc;have lt:=g.lt;have l8:=g.l8;refine jW _ rfl J _ da _ _ rfl h1 T.aE T.bG (by walk_at"lk") (jW _ rfl J _ da _ _ rfl h1 T.aE T.b6 (by walk_at"lk") (lh ca cu _ _ rfl rfl h2 h3 (lg (by rw[hA,hA];lia)) λD W=>?_));have N:A0l H (upd H D (.lst (e.own.map V.str++e.sums.map V.str))):=eh W;have m:upd H D (.lst (e.own.map V.str++e.sums.map V.str)) D=some (.lst ((e.own++e.sums).map V.str)):=by rw[dh,iK]
  generalize upd H D (.lst (e.own.map V.str++e.sums.map V.str))=H1 at N m⊢;refine mu _ rfl _ rfl c u _ _ rfl rfl (N _ _ hc) (N _ _ hu) (lg (by rw[hA,hA];lia)) λtt G s2 v=>?_;have v:G tt=some (.tup ((f.ce++f.tu).map V.int)):=by rw[iK];exact v
  have O:=N.trans s2;refine jf D tt ((e.own++e.sums).map (Sum.inr:Str->Key)) ((f.ce++f.tu).map V.int) rfl (by rw[List.map_map];exact SqL.of (s2 _ _ m)) (SqT.of v) (by rw[hA,hA,jc,jc];lia) λd hd=>?_;have t3:A0l G (upd G d (.dK (lV [] (((e.own++e.sums).map (Sum.inr:Str->Key)).zip ((f.ce++f.tu).map V.int))))):=eh hd;have C:upd G d (.dK (lV [] (((e.own++e.sums).map (Sum.inr:Str->Key)).zip ((f.ce++f.tu).map V.int)))) d=some (.dK (atM e f)):=dh;have j:=O.trans t3;generalize upd G d (.dK (lV [] (((e.own++e.sums).map (Sum.inr:Str->Key)).zip ((f.ce++f.tu).map V.int))))=G3 at t3 C j⊢;refine jW _ rfl J _ da _ _ rfl (j _ _ h1) T.aE T.cJ (by walk_at"lk") ?_;have a0:Ob t G3 n e.tm:=(ob.imp Bm).imp j;refine lC (rok (P:=P) (w:=w) (base:=base) T 10 G3 n e.tm a0 g.deep) ?_;rintro a' C' X a6 k' f' a1 a2 R ⟨rfl,e',c',m',l',F',b0,b',q'⟩;have I:=FW [] (((e.own++e.sums).map (Sum.inr:Str->Key)).zip ((f.ce++f.tu).map V.int));rw[List.length_zip,hA,hA,jc]at I;refine lj a' C' X (lu a6 k' f' a1 a2 R rfl e' c' m' l' F' (hr.mono (by lia)) b' (ah _ rfl (jW _ rfl p _ dx _ _ rfl (j _ _ hp) T.ag T.aj (by walk_at"lk") (q' G3 d l (atM e f) lk _ (A0l.refl _) ⟨g.good,g.deep,C,g.at_,j _ _ hl,g.ax,?_,g.most⟩ λp1 U a7 Y a8 S r1=>kq p1 U a7 (j.free Y) (j.trans a8) S r1))));show(atM e f).length+10<=1000;unfold atM;simp only [oo]at I
  lia
def B5l(H:Hp)(v:V)(s:Stp):Prop:=∃b c u,v=.ref b/\H b=some (.tup [.int s.1,.str s.2.1,.ref c,.ref u])/\H c=some (.tup (s.2.2.1.map V.int))/\H u=some (.tup (s.2.2.2.map V.int))
theorem B5l.kt(h:B5l H v s)(k:KT H H'):B5l H' v s:=by refine iW h ?_;clear h;rintro b c u rfl a e d;exact jv b c u rfl (k _ _ a) (k _ _ e) (k _ _ d)
abbrev A2e(H:Hp)(xs:zM)(os:List Stp):Prop:=Paired (B5l H) xs os
theorem A2e.kt{os:List Stp}(h:A2e H xs os)(k:KT H H'):A2e H' xs os:=Paired.mapP h λ_ _ z=>z.kt k
def B8f(A:Adr)(M:zQ)(H:Hp)(v:V)(e:Rw):Prop:=∃(a b c u:zW)(n:V)(x:Str),v=.ref a/\H a=some (.ins A.ae b [("name",.str x),("axes",.ref c),("sums",.ref u),("term",n)])/\c∉M/\H c=some (.lst (e.own.map V.str))/\u∉M/\H u=some (.lst (e.sums.map V.str))
abbrev yS(A:Adr)(M:zQ)(H:Hp)(xs:zM)(rows:List Rw):Prop:=Paired (B8f A M H) xs rows
theorem B8f.imp{M':zQ}{e:Rw}(h:B8f A M H v e)(f:∀a C dx fs,H a=some (.ins C dx fs)->H' a=some (.ins C dx fs))(g:∀c xs,c∉M->H c=some (.lst xs)->c∉M'/\H' c=some (.lst xs)):B8f A M' H' v e:=by refine qa h ?_;clear h;rintro a dx c u n x rfl k i j ⟨b,d⟩;exact⟨a,(jk dx c u n x rfl (f _ _ _ _ k) ((g _ _ i j).1) ((g _ _ i j).2) ((g _ _ b d).1) ((g _ _ b d).2))⟩
theorem B8f.same{e:Rw}(h:B8f A M H v e)(s:A0l H H'):B8f A M H' v e:=h.imp (λ_ _ _ _ z=>s _ _ z) λ_ _ y z=>⟨y,s _ _ z⟩
abbrev Sz(lk:zJ)(ys:zC)(ls:zI):Prop:=Paired (λ(y:Str)(n:Int)=>ic lk (Sum.inr y)=some (.int n)) ys ls
def Tot(lk:zJ)(rows:List Rw):Prop:=∀e∈rows,C3h e/\Sz lk e.own e.so/\Sz lk e.sums e.ss/\OkS e.own/\OkS e.sums
def A2l(H:Hp)(ps:zQ)(cs:List zI):Prop:=Paired (λ(p:zW)(c:zI)=>H p=some (.tup (c.map V.int))) ps cs
theorem A2l.imp{H H':Hp}:∀{ps:zQ}{cs:List zI},A2l H ps cs->(∀p xs,H p=some (.tup xs)->H' p=some (.tup xs))->A2l H' ps cs|_,_,.nil,_=>.nil|_,_,.cons r t,f=>.cons (f _ _ r) (A2l.imp t f)
theorem A2l.same{ps:zQ}(h:A2l H ps cs)(s:A0l H H'):A2l H' ps cs:=h.imp λ_ _ e=>s _ _ e
theorem A2l.lst{ys:zM}{ps:zQ}(h:A2l H ps cs)(e:H l=some (.lst xs)):A2l (upd H l (.lst ys)) ps cs :=h.imp λp a z=>by rw[dV (ir z e (by intro q;cases q))];exact z
theorem A2l.snoc{H:Hp}{p:zW}{c:zI}(e:H p=some (.tup (c.map V.int))):∀{ps:zQ}{cs:List zI},A2l H ps cs->A2l H (ps++[p]) (cs++[c])|_,_,.nil=>.cons e .nil|_,_,.cons r t=>.cons r (A2l.snoc e t)
theorem A2l.len{H:Hp}:∀{ps:zQ}{cs:List zI},A2l H ps cs->ps.length=cs.length|_,_,.nil=>rfl|_,_,.cons _ t=>by simp[A2l.len t]
theorem A2l.get{H:Hp}:∀{ps:zQ}{cs:List zI}{i:Nat}{p:zW},A2l H ps cs->ps[i]?=some p->∃c,cs[i]?=some c/\H p=some (.tup (c.map V.int))|_,_,_,_,.nil,e=>by simp at e|_,_,0,_,.cons r _,e=>by simp at e;subst e;exact ah _ rfl r|_,_,i+1,p,.cons _ t,e=>by obtain⟨c,a,b⟩:=A2l.get (i:=i) (p:=p) t (by simpa using e);exact ah c (by simpa using a) b
structure A3r(H:Hp)(a:zW)(cs:List zI):Prop where
 ex:∃ps:zQ,H a=some (.lst (ps.map V.ref))/\A2l H ps cs
theorem A3r.same(h:A3r H a cs)(s:A0l H H'):A3r H' a cs :=
 let⟨ps,h1,h2⟩:=h.ex
 ⟨ps,s _ _ h1,h2.same s⟩
def JP:Sp:=λe H Q _=>∃(a:zW)(n:Int)(b:List zI),e=[.ref a,.int n]/\A3r H a b/\(∀c∈b,c.length<=8)/\0<=n/\n<=60/\b.length<=4000/\
 ∀(p:zW)(d:Hp),H p=none->A0l H d->A3r d p (kM b n)->Q (.ref p) d
def Jn:Sp:=λd H Q _=>∃(a:zW)(b:zI),d=[.ref a]/\H a=some (.lst (b.map V.int))/\B3z b/\
 ∀(p:zW)(c:Hp),H p=none->A0l H c->A3r c p (iE b)->Q (.ref p) c
def C6:Sp:=λf H Q _=>∃(l d:zW)(a:zC)(c:zJ)(e:zI),f=[.ref l,.ref d]/\H l=some (.lst (a.map V.str))/\H d=some (.dK c)/\Sz c a e/\a.length<=1000/\∀(q:zW)(b:Hp),H q=none->A0l H b->b q=some (.lst (e.map V.int))->Q (.ref q) b
def yN:Sp:=λf H Q _=>∃(l d:zW)(e:zC)(c:zJ)(a:zI),f=[.ref l,.ref d]/\H l=some (.lst (e.map V.str))/\H d=some (.dK c)/\Sz c e a/\B3z a/\∀(q:zW)(b:Hp),H q=none->A0l H b->A3r b q (iE a)->Q (.ref q) b
def Dp(A:Adr):Sp:=λh H Q _=>∃(k:Int)(g c f:zW)(M:zQ)(e:Rw)(d:zI),h=[.int k,.ref g,.ref c,.ref f]/\B8f A M H (.ref g) e/\C3h e/\H c=some (.tup (d.map V.int))/\A3r H f (iE e.ss)/\
 ∀(D:zW)(b:zM)(a:Hp),H D=none->A0l H a->a D=some (.lst b)->A2e a b (kW k e.ss d)->Q (.ref D) a
def CC(A:Adr):Sp:=λi H Q _=>∃(p k l a j g o:zW)(h:Int)(f:zJ)(d:zM)(M:zQ)(b:List Rw),i=[.ref p]/\H p=some (clo A k h l a j g o)/\H l=some (.dK f)/\H g=some (.lst d)/\yS A M H d b/\Tot f b/\b.length<=100/\
 ∀(D:zW)(e:zM)(c:Hp),H D=none->A0l H c->c D=some (.lst e)->A2e c e (iu b b.length)->Q (.ref D) c
theorem A3r.kb{L:zW}{zs:zM}(h:A3r H a cs)(k:KB L H H')(c:H L=some (.lst zs))(b:a≠L):A3r H' a cs :=
 let⟨ps,h1,h2⟩:=h.ex
 ⟨ps,k _ _ b h1,h2.imp λp d e=>k _ _ (ir e c (by intro z;cases z)) e⟩
theorem JK(T:Txt K mg t):FO P w base T.bE 1 JP:=by
 refine T.bE.F.ok v4 λ_ A _ s H _ Q E hr h=>?_
 ·refine iW h ?_;clear h;rintro a n r rfl ⟨ps,R,tp⟩ h8 ⟨n0,a3,a2,k⟩;refine rsq (eg (iw 2 v4.nd (@jF _ _ _ _ eH)) (eg (je (ju (pv 0)) (ie (i:=3) v4.nd) (fa (je (pA rfl T.aM (fC 1)) (ie (i:=4) v4.nd) (fa ⟨kU (lJ kQ nU nT nK (pv 2) (al (ib FR (pv 3) (jd (fC 4))) eH))⟩)))) (fa (im (pv 2))))) ?_;refine⟨lg (by decide),λl D=>?_⟩;have la:a≠l:=ik R D;have O:upd H l (.lst []) a=some (.lst (ps.map V.ref)):=by rw[dV la];exact R
  refine⟨_,rfl,a,rfl,⟨_,SqL.of O⟩,kr (K:=K) (a:=a) (xs:=ps.map V.ref) (λi Z o=>∃(M d:zP)(b:zQ),Z=[Sro a,Sio n,Sro l,M,d]/\A0l H o/\
   o l=some (.lst (b.map V.ref))/\A2l o b (kM (r.take i) n)) (jv none none [] rfl (eh D) dh .nil) (λi Z o _ zq=>by obtain⟨_,_,_,_,x,_⟩:=zq;exact SqL.of (x _ _ R)) ?_ ?_⟩
  ·rintro i y Z o hi C;refine iW C ?_;clear C;rintro M d b rfl x U G;obtain⟨B,W,rfl⟩:=ko hi;obtain⟨c,hc,N⟩:=tp.get W;have a1:c.length<=8:=h8 c (iZ hc)
   refine⟨_,rfl,n,rfl,by lia,by lia,rF (n:=n.toNat) (λj Z f=>∃(d:zP)(b:zQ),Z=[Sro a,Sio n,Sro l,Sro B,d]/\A0l H f/\
    f l=some (.lst (b.map V.ref))/\A2l f b (kM (r.take i) n++(List.range j).map λ(m:Nat)=>c++[(m:Int)])) (iO d b rfl x U (by simpa using G)) ?_ ?_⟩
   ·rintro j Z f hj ⟨d,b,rfl,L,z,I⟩;rw[Int.zero_add]
    have a0:b.length<=300000:=by
     have e:=I.len;rw[jc,xQ,hA,List.length_range]at e;have e1:(r.take i).length*n.toNat<=4000*60:=Nat.mul_le_mul (by rw[iX];lia) (by lia)
     lia
    have X:f B=some (.tup (c.map V.int)):=L _ _ N;refine hH _ rfl (.inl (jI rfl _ (SqL.of z))) (jg _ rfl _ rfl (iq rfl) λu hu=>?_)
    have v:∀(q:zW)(J:Hp),A0l f J->J q=some (.tup ((c++[(j:Int)]).map V.int))->w8 (V.ref l) [V.ref q] J λ_ S=>∃(d:zP)(b:zQ),[some (V.ref a),some (.int n),some (.ref l),some (.ref B),some (.int (j:Int))]=[some (.ref a),some (.int n),some (.ref l),some (.ref B),d]/\A0l H S/\
      S l=some (.lst (b.map V.ref))/\A2l S b (kM (r.take i) n++(List.range (j+1)).map λ(m:Nat)=>c++[(m:Int)]):=λq J g h4=>by
     refine jX l _ _ rfl rfl (g _ _ z) (by rw[hA];exact iM (by lia)) ?_;refine iO _ (b++[q]) rfl (jn (L.trans g) D) (by rw[dh,iK];rfl) ?_;rw[List.range_succ,iK,<-nR];exact((I.same g).snoc h4).lst (g _ _ z)
    have g:A0l f (upd f u (.tup [V.int (j:Int)])):=eh hu;refine jo B u _ _ rfl rfl (SqT.of (g _ _ X)) (jH (SqT.of dh) (by simp) (lg (by simp;lia)) (λY=>?_) λY p hp=>?_)
    ·have ec:c=[]:=by simpa using Y
     subst ec;exact v u _ g dh
    ·refine v p _ (g.trans (eh hp)) ?_;rw[dh,iK];rfl
   ·rintro Z f ⟨d,b,rfl,L,z,I⟩;refine jv _ _ b rfl L z ?_
    have e:kM (r.take (i+1)) n=kM (r.take i) n++(List.range n.toNat).map λ(m:Nat)=>c++[(m:Int)]:=by rw[iF,hc];simp[kM]
    rw[e];exact I
  ·rintro Z o C;refine iW C ?_;clear C;rintro M d b rfl x U G;refine ah _ rfl (k l o D x ⟨b,U,?_⟩);rw[hA,tp.len,iQ]at G;exact G
theorem Jm(T:Txt K mg t):FO P w base T.cA 2 Jn:=by
 refine T.cA.F.ok vR λ_ A _ s H _ Q E D h=>?_
 ·obtain⟨a,l,rfl,B,g,k⟩:=h;refine rsq (eg (iw 1 vR.nd (@jF _ _ _ _ (al (jd eH) eH))) (eg (je (ju (pv 0)) (ie (i:=2) vR.nd) (fa (iw 1 vR.nd (pcl (JK T) D T.bE (al (pv 1) (fC 2)))))) (fa (im (pv 1))))) ?_;refine⟨iq rfl,λe v=>⟨iq rfl,λq f=>?_⟩⟩;have r:H q=none:=(eh v).free f;have x:A0l H (upd (upd H e (.tup [])) q (.lst [V.ref e])):=(eh v).trans (eh f)
  refine⟨_,rfl,a,rfl,⟨_,SqL.of (x _ _ B)⟩,kr (K:=K) (a:=a) (xs:=l.map V.int) (λi Z b=>∃(u:zP)(q:zW),Z=[Sro a,Sro q,u]/\A0l H b/\H q=none/\A3r b q (iE (l.take i)))
   (iO none q rfl x r ⟨[e],dh,.cons (by rw[dV (ik dh f)];exact dh) .nil⟩) (λi Z b _ G=>by obtain⟨_,_,_,d,_⟩:=G;exact SqL.of (d _ _ B)) ?_ ?_⟩
  ·rintro i y Z b I ⟨u,q,rfl,d,f,j⟩;obtain⟨n,z,rfl⟩:=ko I;have O:=g.pos n (iZ z);have U:=pY (l.take i) λm o=>(g.pos m (nw o)).1;have W:=B5 l (λm o=>(g.pos m o).1) i;have S:=g.most;have N:=g.few;refine jB _ rfl _ rfl (nM q n _ rfl j (λc J=>?_) (by lia) (by lia) ⟨by lia,λp R M L C=>?_⟩)
   ·have e:=(vX _ c J).1;rw[iX]at e
    lia
   ·refine iO _ p rfl (d.trans L) (d.free M) ?_;rw[Cl z];exact C
  ·rintro Z b ⟨u,q,rfl,d,f,j⟩;rw[hA,iQ]at j;exact ah _ rfl (k q b f d j)
theorem Ko(T:Txt K mg t):FO P w base T.aX 1 C6:=by
 refine T.aX.F.ok Kp λ_ A _ s H _ Q E B h=>?_
 ·refine nN h ?_;clear h;rintro l d p J z rfl m C o L k;have u:=lF B;have r:=Paired.length o;refine rsq (fa (im (mH (N':=["axis","lengths"]) (ix:=(List.replicate 1 none++[some 1])) rfl (qI (x:="lengths") rfl rfl rfl (by decide+kernel) (by decide+kernel)) (qN (N0:=["axis"]) rfl (.inl rfl) (by walk_at"ix")) (ju (pv 0)) (λ_ _ _ _=>(ie (i:=0) GY)) (λ_ _ _ _=>(iR u (pv 1) (pv 0)))))) ?_;refine jg _ rfl l rfl ⟨_,SqL.of m⟩ λD j=>?_;refine pB (K:=K) (a:=l) (D:=D) (xs:=p.map V.str) (λi f c=>A0l H c/\c D=some (.lst f)/\f=(z.take i).map V.int) (hQ (eh j) dh rfl) (λi f c ⟨e,_⟩=>SqL.of (e _ _ m)) ?_ ?_
  ·rintro i x f c v ⟨e,b,rfl⟩;obtain⟨y,q,rfl⟩:=ko v;obtain⟨n,G,I⟩:=ja o q;have g:=B0p.k (H:=c) (a:=d) (k:=Sum.inr y) (e _ _ C);rw[I]at g;refine⟨⟨rfl,True.intro⟩,(iU _ rfl _ rfl d _ rfl g (jH b (iM (by simp;lia)) (jn e j) dh ?_))⟩;rw[iF,G,iS,iK];rfl
  ·rintro f c ⟨e,b,rfl⟩;rw[hA,r,iQ]at b;exact k D c j e b
theorem v6(T:Txt K mg t):FO P w base T.aw 3 yN:=by
 refine T.aw.F.ok J7 λ_ A _ s H _ Q E e h=>?_
 ·refine nN h ?_;clear h;rintro l d i m c rfl f u b g k;have z:=Paired.length b;have B:=g.few;refine rsq (fa (im (pcl (Jm T) e T.cA (al (pcl (Ko T) e T.aX (al (pv 0) (fC 1))) eH)))) ?_;exact ah _ rfl (jW _ rfl l d i m c rfl f u b (by lia) λj y n a o=>(iO j c rfl o g λq v r x p=>k q v (a.free r) (a.trans x) p))
theorem Km(T:Txt K mg t):FO P w base T.aW 1 (Dp t):=by
 refine T.aW.F.ok Cm λ_ A _ s H _ Q E hr h=>?_
 ·refine kF h ?_;clear h;rintro k ln c tu M ⟨e,ce,rfl,li,U,Z,ct,q⟩;refine qa li ?_;clear li;rintro a dx ca u n x ea S _ _ ⟨_,eu⟩;cases ea;obtain⟨ps,B,tp⟩:=ct.ex;have a1:=U.cells.2;have X:=tp.len;refine rsq (eg (iP (iT kS (kN T.ao (al (kJ (pv 1) rfl) eH)) fe) (fa (im (@jF _ _ _ _ (al (jd (al (pv 0) (al ip (al (pv 2) (al (jd eH) eH))))) eH)))) ⟨iJ⟩) (eg ⟨vz (i₀:=4) (N':=["turn","cell","number"]) (ix:=(List.replicate 1 none++[some 2,some 0])) Cm.nd rfl (.inl rfl) rfl (sI (cl:=[("number",_),("cell",_)]) (xs:=["number","cell"]) rfl (hQ rfl rfl trivial) rfl rfl (by decide+kernel) (by decide+kernel)) (sK (N0:=["turn"]) (xs:=["cell","number"]) (js:=[2,0]) (hQ (hQ rfl (.inl rfl) (by walk_at"ix")) (hQ rfl (.inl rfl) (by walk_at"ix")) trivial)) (ju (pv 3)) (λ_ _ _ _=>(ie (i:=0) HC)) (λ_ _ _ _=>(jd (al (pv 2) (al ip (al (pv 1) (fC 0))))))⟩ (fa (im (ib oT (@jF _ _ _ _ (al (jd (al (pv 0) (al ip (al (pv 2) (al (jd eH) eH))))) eH)) (pv 4)))))) ?_;refine jW _ rfl ln _ dx _ _ rfl S T.aE T.b6 (by walk_at"lk") (jV u _ rfl (kE (.inl (SqL.of eu)) rfl _ rfl (iC (λhz=>?_) (λhz=>?_))))
  ·have W:e.ss=[]:=by
    have h1:((e.sums.map V.str).length:Int)=0:=by injection hz
    have h2:=U.ls;rw[hA]at h1;exact sW.mp (by lia)
   refine jg _ rfl _ rfl (iq rfl) λm p=>⟨iq rfl,λb g=>⟨iq rfl,λD r=>?_⟩⟩;have s1:A0l H (upd H m (.tup [])):=eh p;have f:=s1.trans (eh (o:=.tup [.int k,.str "set",.ref c,.ref m]) g);refine q D [.ref b] _ (f.free r) (f.trans (eh r)) dh ?_;unfold kW;rw[ia W];refine .cons (jv b c m rfl ?_ ?_ ?_) .nil
   ·rw[dV (ik dh r)];exact dh
   ·exact(f.trans (eh r)) _ _ Z
   ·rw[dV (ik ((eh g) _ _ dh) r)];exact(eh g) _ _ dh
  ·have W:e.ss≠[]:=λz=>by
    have h2:=U.ls;rw[z]at h2;exact hz (by rw[hA,h2];rfl)
   refine jg _ rfl tu rfl ⟨_,SqL.of B⟩ λD r=>?_;refine pB (K:=K) (a:=tu) (D:=D) (xs:=ps.map V.ref) (λi j d=>A0l H d/\d D=some (.lst j)/\j.length=i/\A2e d j (((iE e.ss).take i).map λu=>(k,"add",ce,u))) (jO (eh r) dh rfl .nil) (λi j d ⟨f,_⟩=>SqL.of (f _ _ B)) ?_ ?_
   ·rintro i y j d hy ⟨f,l,ly,C⟩;obtain⟨J,G,rfl⟩:=ko hy;obtain⟨uu,a0,Y⟩:=tp.get G;have hi:i<ps.length:=(iG.mp G).1;refine iV (hQ rfl rfl True.intro) _ rfl (jg _ rfl _ rfl (iq rfl) λb g=>?_);have v:A0l d (upd d b (.tup [.int k,.str "add",.ref c,.ref J])):=eh g;have N:KT (upd d b (.tup [.int k,.str "add",.ref c,.ref J])) (upd (upd d b (.tup [.int k,.str "add",.ref c,.ref J])) D (.lst (j++[.ref b]))):=KT.at (v _ _ l) (by intro xs z;cases z);refine ke (v _ _ l) (iM (by lia)) (jn (f.trans v) r) dh (by simp[ly]) ?_;rw[iF,a0,iS,iK];exact jZ (C.kt ((KT.same v).trans N)) (.cons (jv b c J rfl (N _ _ dh) (N _ _ (v _ _ (f _ _ Z))) (N _ _ (v _ _ (f _ _ Y)))) .nil)
   ·rintro j d ⟨f,l,ly,C⟩;rw[hA,X,iQ]at C;refine jg _ rfl _ rfl (iq rfl) λm p=>⟨iq rfl,λb g=>⟨iq rfl,λL I=>(i12 _ rfl L D _ j rfl rfl dh ?_ ⟨lg ?_,λR O=>?_⟩)⟩⟩
    ·have s3:A0l d (upd d m (.tup [])):=eh p;have s4:=s3.trans (eh (o:=.tup [.int k,.str "start",.ref c,.ref m]) g);exact(s4.trans (eh I)) _ _ l
    ·have:=Paired.length C;rw[hA]at this;simp
     lia
    ·have s3:A0l d (upd d m (.tup [])):=eh p;have s4:=s3.trans (eh (o:=.tup [.int k,.str "start",.ref c,.ref m]) g);have s5:=s4.trans (eh (o:=.lst [.ref b]) I);have s6:=s5.trans (eh (o:=.lst ([.ref b]++j)) O);refine q R _ _ (f.free (s5.free O)) (f.trans s6) dh ?_;unfold kW;rw[fy W];refine .cons (jv b c m rfl ?_ (s6 _ _ (f _ _ Z)) ?_) (C.kt (KT.same s6))
     ·exact(eh O) _ _ ((eh I) _ _ dh)
     ·exact(eh O) _ _ ((eh I) _ _ ((eh g) _ _ dh))
theorem J4(T:Txt K mg t):FO P w base T.bu 4 (CC t):=by
 refine T.bu.F.ok sS λ_ A _ s H _ Q E hr h=>?_
 ·refine lC h ?_;clear h;rintro p dx l a tb ln o wh lk ⟨xs,M,b,rfl,hp,hl,a1,J,W,b7,k⟩;have b2:=Paired.length J;refine rsq (eg (iw 1 sS.nd (@jF _ _ _ _ eH)) (eg (je (xi rfl T.bQ (al (kJ (pv 0) rfl) eH)) (lK (n:=2) rfl (iY (ie (i:=2) sS.nd) (iY (ie (i:=3) sS.nd) lN))) (eg (iw 4 sS.nd (pcl (v6 T) hr T.aw (al (kJ (pv 3) rfl) (al (kJ (pv 0) rfl) eH)))) (fa (je (ju (pcl (v6 T) hr T.aw (al (kJ (pv 3) rfl) (al (kJ (pv 0) rfl) eH)))) (ie (i:=5) sS.nd) (fa ⟨kU (lJ kQ PySem.F.slot_list_extend PySem.F.type_list_extend ui (pv 1) (al (pcl (Km T) hr T.aW (al (pv 2) (al (pv 3) (al (pv 5) (fC 4))))) eH))⟩))))) (fa (im (pv 1))))) ?_;refine⟨iq rfl,λL hL=>?_⟩;have s0:A0l H (upd H L (.lst [])):=eh hL;refine jW _ rfl p _ dx _ _ rfl (s0 _ _ hp) T.ag T.aL (by walk_at"lk") (fx ln xs rfl (SqL.of (s0 _ _ a1)) ?_)
  refine xu (K:=K) (a:=ln) (xs:=xs) (λi Z f=>∃(o2 o3 o4 g:zP)(u:zM),Z=[Sro p,Sro L,o2,o3,o4,g]/\A0l H f/\f L=some (.lst u)/\A2e f u (iu b i))
   ⟨none,(jo none none none [] rfl s0 dh .nil)⟩ (λi Z f zq=>by obtain⟨_,_,_,_,_,_,U,_⟩:=zq;exact SqL.of (U _ _ a1)) ?_ ?_
  ·rintro i x Z f z hx zz;refine kF zz ?_;clear zz;rintro o2 o3 o4 g u ⟨rfl,U,h2,st⟩ hz;obtain⟨e,he,li⟩:=ja J hx;obtain⟨N,a7,b1,_,_⟩:=W e (iZ he);have hi:i<b.length:=(iG.mp he).1;have ol:=sH (λe he=>(W e he).1) i;have b5:i*3660<=100*3660:=Nat.mul_le_mul_right _ (by lia);have a4:=li;refine qa li ?_;clear li;rintro C da ca cu n nm rfl S _ b3 ⟨_,a5⟩;obtain⟨H3,hH3⟩:∃H3,H3=upd f z (.tup [.int (i:Nat),.ref C]):=⟨_,rfl⟩;rw[<-hH3];have r:A0l f H3:=by rw[hH3];exact eh hz
   have s3:=U.trans r;have a8:H3 z=some (.tup [.int (i:Nat),.ref C]):=by rw[hH3];exact dh
   refine mQ z _ rfl (SqT.of a8) rfl _ _ rfl _ _ rfl rfl ?_;refine jW _ rfl C _ da _ _ rfl (s3 _ _ S) T.aE T.b6 (by walk_at"lk") (jW _ rfl p _ dx _ _ rfl (s3 _ _ hp) T.ag T.aj (by walk_at"lk") (jk cu l e.sums lk e.ss rfl (s3 _ _ a5) (s3 _ _ hl) b1 N.gs λtu H4 I s4 ct=>?_));have d:=s3.trans s4;refine jW _ rfl C _ da _ _ rfl (d _ _ S) T.aE T.bG (by walk_at"lk") (jW _ rfl p _ dx _ _ rfl (d _ _ hp) T.ag T.aj (by walk_at"lk") (jk ca l e.own lk e.so rfl (d _ _ b3) (d _ _ hl) a7 N.go λqc H5 X s5 cc=>?_));obtain⟨ps,q,tp⟩:=cc.ex;have O:=r _ _ h2;have R:=s4 _ _ O;have v:=s5 _ _ R;have qL:qc≠L:=λy=>by subst y;rw[R]at X;cases X
   have tL:tu≠L:=λy=>by subst y;rw[O]at I;cases I
   have a2:=d.trans s5;have a9:A2e H5 u (iu b i):=st.kt (KT.same (r.trans (s4.trans s5)));refine hH qc rfl ⟨_,SqL.of q⟩ ?_
   refine kr (K:=K) (a:=qc) (xs:=ps.map V.ref) (λj Z H6=>∃(g:zP)(B:zM),Z=[Sro p,Sro L,Sio (i:Nat),Sro C,Sro tu,g]/\KB L H5 H6/\H6 L=some (.lst B)/\A2e H6 B (iu b i++((iE e.so).take j).flatMap (kW i e.ss)))
    (iO g u rfl KB.refl v (by simpa using a9)) (λj Z H6 _ zq=>by obtain⟨_,_,_,m,_⟩:=zq;exact SqL.of (m _ _ qL q)) ?_ ?_
   ·rintro j y Z H6 hy ⟨g,B,rfl,m,G,c⟩;obtain⟨pc,b0,rfl⟩:=ko hy;obtain⟨ce,b4,Y⟩:=tp.get b0;have a3:H6 pc=some (.tup (ce.map V.int)):=m _ _ (ir Y v (by intro z;cases z)) Y;have a6:A0l H H6:=KB.same a2 m hL;refine hH _ rfl (.inl (jI rfl _ (SqL.of G))) (jB _ rfl _ rfl (lP _ rfl _ rfl (i:Int) C pc tu M (pD e ce rfl (a4.same a6) N a3 ((ct.same s5).kb m v tL) λD ws H7 hD s7 h7 a0=>?_)));have lz:=Paired.length c;have lw:=Paired.length a0;have lc:=w6 N (k:=(i:Int)) ce;have lp:=By N (k:=(i:Int)) j;rw[jc]at lz;refine lh L D _ _ rfl rfl (s7 _ _ G) h7 (lg (by lia)) ?_;have kL:KT H7 (upd H7 L (.lst (B++ws))):=KT.at (s7 _ _ G) (by intro xs z;cases z);refine iO _ (B++ws) rfl ((m.trans (KB.of s7)).upd) dh ?_;rw[iF,b4,iS,List.flatMap_append,List.flatMap_singleton,<-nR];exact jZ (c.kt ((KT.same s7).trans kL)) (a0.kt kL)
   ·rintro Z H6 ⟨g,B,rfl,m,G,c⟩;rw[hA,tp.len,iQ]at c;refine⟨_,(jo _ _ _ B rfl (KB.same a2 m hL) G ?_)⟩;rw[B4 he];exact c
  ·rintro Z f zz;refine kF zz ?_;clear zz;rintro o2 o3 o4 g u ⟨rfl,U,h2,st⟩;rw[b2]at st;exact ah _ rfl (k L u f hL U h2 st)
def ji(a:Str->List Int)(os:zC):List (Str×List Int):=os.flatMap λx=>(iE (a x)).map λc=>(x,c)
structure ArO(H:Hp)(lk ak:zJ)(ax:Str->List Str)(sz:Str->List Int)(x:Str):Prop where
 get:∃b,ic ak (Sum.inr x)=some (.ref b)/\H b=some (.lst ((ax x).map V.str))
 si:Sz lk (ax x) (sz x)
 go:B3z (sz x)
theorem ArO.same{d:zJ}{a:Str->List Str}{c:Str->List Int}(h:ArO H lk d a c x)(s:A0l H H'):ArO H' lk d a c x:=by obtain⟨b,f,e⟩:=h.get;exact⟨(ah b f (s _ _ e)),h.si,h.go⟩
theorem B3z.len(g:B3z ls):(iE ls).length<=4000:=by
 have b:=(pY ls λn a=>(g.pos n a).1).1;have c:=g.most
 lia
def DH(A:Adr):Sp:=λi H Q _=>∃(p m l a j n o:zW)(h:Int)(g f:zJ)(b:zC)(k:Str->List Str)(e:Str->List Int),i=[.ref p]/\H p=some (clo A m h l a j n o)/\H l=some (.dK g)/\H a=some (.dK f)/\H o=some (.lst (b.map V.str))/\b.length<=100/\(∀x∈b,ArO H g f k e x)/\
 ∀(D:zW)(d:zM)(c:Hp),H D=none->A0l H c->c D=some (.lst d)->Rds c d (ji e b)->Q (.ref D) c
theorem qC{H:Hp}{lk e:zJ}{d:Str->List Str}{a:Str->List Int}:∀{os:zC},(∀x∈os,ArO H lk e d a x)->(ji a os).length<=os.length*4000
 | [],_=>ig _
 |x::r,h=>by
  have f:=qC (os:=r) λy b=>h y (.tail _ b);have g:=(h x (.head _)).go.len;show((iE (a x)).map (λc=>(x,c))++ji a r).length<=(r.length+1)*4000;rw[jc,hA]
  lia
theorem Co(T:Txt K mg t):FO P w base T.aF 4 (DH t):=by
 refine T.aF.F.ok xT λ_ A _ s H _ Q E hr h=>?_
 ·refine lC h ?_;clear h;rintro p dx l a tb ln o wh lk ⟨ak,C,ax,U,rfl,hp,hl,ha,ho,a2,M,k⟩;have hu:=lF hr;refine rsq (eg (iw 1 xT.nd (@jF _ _ _ _ eH)) (eg (je (ju (kJ (pv 0) rfl)) (ie (i:=2) xT.nd rfl (.inr rfl)) (fa ⟨kU (lJ kQ PySem.F.slot_list_extend PySem.F.type_list_extend ui (pv 1) (al (mH (N':=["cell","array"]) (ix:=(List.replicate 1 none++[some 2])) rfl (qI (x:="array") rfl rfl rfl (by decide+kernel) (by decide+kernel)) (qN (N0:=["cell"]) rfl (.inl rfl) (by walk_at"ix")) (ju (pcl (v6 T) hr T.aw (al (iR hu (kJ (pv 0) rfl) (pv 2)) (al (kJ (pv 0) rfl) eH)))) (λ_ _ _ _=>(ie (i:=0) GW)) (λ_ _ _ _=>(jd (al (pv 1) (fC 0))))) eH))⟩)) (fa (im (pv 1))))) ?_;refine⟨iq rfl,λL hL=>?_⟩;have s0:A0l H (upd H L (.lst [])):=eh hL;refine jW _ rfl p _ dx _ _ rfl (s0 _ _ hp) T.ag T.cn (by walk_at"lk") (hH o rfl ⟨_,SqL.of (s0 _ _ ho)⟩ ?_)
  refine kr (K:=K) (a:=o) (xs:=C.map V.str) (λi Z u=>∃(o2:zP)(v:zM),Z=[Sro p,Sro L,o2]/\A0l H u/\u L=some (.lst v)/\Rds u v (ji U (C.take i)))
   (iO none [] rfl s0 dh .nil) (by rintro i Z u _ ⟨_,_,_,f,_⟩;exact SqL.of (f _ _ ho)) ?_ ?_
  ·rintro i y Z u hy ⟨o2,v,rfl,f,X,e⟩;obtain⟨x,I,rfl⟩:=ko hy;have hi:i<C.length:=(iG.mp I).1;have W:=M x (iZ I);obtain⟨b,eb,hb⟩:=W.get;have g:=B0p.k (H:=u) (a:=a) (k:=Sum.inr x) (f _ _ ha);rw[eb]at g;refine hH _ rfl (.inl (jI rfl _ (SqL.of X))) (jW _ rfl p _ dx _ _ rfl (f _ _ hp) T.ag T.aY (by walk_at"lk") (ii _ rfl a _ rfl g (jW _ rfl p _ dx _ _ rfl (f _ _ hp) T.ag T.aj (by walk_at"lk") (jk b l (ax x) lk (U x) rfl (f _ _ hb) (f _ _ hl) W.si W.go λq H3 hq s3 cq=>?_))));obtain⟨ps,O,tp⟩:=cq.ex;have J:=tp.len;have lc:=W.go.len;refine hH q rfl ⟨_,SqL.of O⟩ λD hD=>?_;refine pB (K:=K) (a:=q) (D:=D) (xs:=ps.map V.ref) (λj r d=>A0l H3 d/\d D=some (.lst r)/\r.length=j/\Rds d r (((iE (U x)).take j).map λc=>(x,c))) (jO (eh hD) dh rfl .nil) (λj r d G=>SqL.of (G.1 _ _ O)) ?_ ?_
   ·rintro j z r d hz ⟨G,n,lz,m⟩;obtain⟨Y,R,rfl⟩:=ko hz;obtain⟨c,hc,a1⟩:=tp.get R;have hj:j<ps.length:=(iG.mp R).1;refine⟨⟨rfl,True.intro⟩,(jg _ rfl _ rfl (iq rfl) λN a0=>?_)⟩;have S:A0l d (upd d N (.tup [.str x,.ref Y])):=eh a0;have kD:KT (upd d N (.tup [.str x,.ref Y])) (upd (upd d N (.tup [.str x,.ref Y])) D (.lst (r++[.ref N]))):=KT.at (S _ _ n) (by intro xs z;cases z);refine ke (S _ _ n) (iM (by lia)) (jn (G.trans S) hD) dh (by simp[lz]) ?_;rw[iF,hc,iS,iK];exact jZ (m.keep ((KT.same S).trans kD)) (.cons (fx N Y rfl (kD _ _ dh) (kD _ _ (S _ _ (G _ _ a1)))) .nil)
   ·rintro r d ⟨G,n,lz,m⟩;rw[hA,J,iQ]at m;have B:=s3.trans G;have h4:=B _ _ X;have ly:=Paired.length e;have lo:(ji U (C.take i)).length<=(C.take i).length*4000:=qC λx I=>M x (nw I);have lt:(C.take i).length<=100:=by rw[iX];lia
    rw[hA,J]at lz;refine lh L D _ _ rfl rfl h4 n (lg (by lia)) ?_;have kL:KT d (upd d L (.lst (v++r))):=KT.at h4 (by intro xs z;cases z);refine iO _ (v++r) rfl (jn (f.trans B) hL) dh ?_;rw[iF,I,iS];unfold ji;rw[List.flatMap_append,List.flatMap_singleton];exact jZ (e.keep ((KT.same B).trans kL)) (m.keep kL)
  ·rintro Z u ⟨o2,v,rfl,f,X,e⟩;rw[hA,iQ]at e;exact ah _ rfl (k L v u hL f X e)
def nk(r:Str×List Int):ij:=[.inl (.inr r.1),.inr (r.2.map Sum.inl)]
theorem pf(h:D6q H v r):∃b,v=.ref b/\A1x H (nk r) b:=by obtain⟨p,q,rfl,a,c⟩:=h;refine ah p rfl (om a ?_);rw[List.map_map];exact c
theorem D6q.keep(h:D6q H v r)(k:KT H H'):D6q H' v r:=by obtain⟨p,q,e,a,b⟩:=h;exact fx p q e (k _ _ a) (k _ _ b)
def lG(kvs:List (ij×V))(rs:List (Str×List Int)):List (ij×V):=rs.foldl (λk r=>iL k (nk r) (V.bl true)) kvs
theorem vN(kvs:List (ij×V))(rs:List (Str×List Int))(r:Str×List Int):lG kvs (rs++[r])=iL (lG kvs rs) (nk r) (V.bl true):=by unfold lG;rw[List.foldl_append];rfl
theorem pU:∀(rs:List (Str×List Int))(kvs:List (ij×V)),(lG kvs rs).length<=kvs.length+rs.length
 | [],_=>ig _
 |r::rs,kvs=>by
  have a:=pU rs (iL kvs (nk r) (V.bl true));have b:=pX kvs (nk r) (V.bl true);show(lG (iL kvs (nk r) (V.bl true)) rs).length<=kvs.length+(rs.length+1)
  lia
def toM(s:Stp):StM:=⟨s.1.toNat,s.2.1,s.2.2.1,s.2.2.2⟩
theorem B5l.toM(h:B5l H v s)(e:0<=s.1):D6k H v (toM s):=by refine iW h ?_;clear h;rintro b c u rfl a f d;refine jv b c u rfl ?_ f d;show H b=some (.tup [.int ((s.1.toNat:Nat):Int),.str s.2.1,.ref c,.ref u]);rw[Int.toNat_of_nonneg e];exact a
def rdS(lk:zJ)(rows:List LnM)(s:Stp):List (Str×List Int):=if s.2.1="start" then []else match rows[s.1.toNat]? with|some e=>rd (ai lk) e.tm (ai (atM e (toM s)))|none=>[]
def wrS(rows:List LnM)(s:Stp):Str×List Int:=match rows[s.1.toNat]? with|some e=>(e.nm,s.2.2.1)|none=>("",[])
def tO(lk:zJ)(rows:List LnM)(kvs:List (ij×V))(s:Stp):List (ij×V):=if (ic kvs (nk (wrS rows s))).isSome=true then lG kvs (rdS lk rows s)else kvs
def nE(lk:zJ)(rows:List LnM)(kvs:List (ij×V))(ss:List Stp):List (ij×V):=ss.foldl (tO lk rows) kvs
structure yE(lk:zJ)(rows:List LnM)(s:Stp):Prop where
 pos:0<=s.1
 ask:∃e,rows[s.1.toNat]?=some e/\(s.2.1≠"start"->rS lk e (toM s))
 few:(rdS lk rows s).length<=20
def CI(P:yB)(w:yD)(A:Adr):Sp:=λm H Q _=>∃(p r l a n j o:zW)(k:Int)(d i:zJ)(e:zC)(q:Str->List Str)(h:Str->List Int)(f:zM)(M:zQ)(c:List LnM)(b:List Rw),m=[.ref p]/\H p=some (clo A r k l a n j o)/\H l=some (.dK d)/\H a=some (.dK i)/\H o=some (.lst (e.map V.str))/\e.length<=100/\(∀x∈e,ArO H d i q h x)/\
 H j=some (.lst f)/\uc A M H f c/\yS A M H f b/\Tot d b/\b.length<=100/\(∀s∈iu b b.length,yE d c s)/\(iu b b.length).length<=20000/\
 ∀(D:zW)(g:Hp),H D=none->A0l H g->A3g P w [true,false] g D (nE d c (lG [] (ji h e)) (iu b b.length).reverse)->Q (.ref D) g
theorem rdq{sp:Stp}{Q:VK}(d:rows[sp.1.toNat]?=some e)(c:sp.2.1≠"start"->rS lk e (toM sp))(h:RdQ H (rdS lk rows sp) Q):
  ((toM sp).wd="start"->RdQ H [] Q)/\((toM sp).wd≠"start"->rS lk e (toM sp)/\RdQ H (rd (ai lk) e.tm (ai (atM e (toM sp)))) Q):=by
 refine⟨λa=>?_,λa=>⟨c a,?_⟩⟩
 ·have z:rdS lk rows sp=[]:=ia a
  rwa[z]at h
 ·have z:rdS lk rows sp=rd (ai lk) e.tm (ai (atM e (toM sp))):=by
   have b:sp.2.1≠"start":=a;unfold rdS;rw[fy b,d]
  rwa[z]at h
theorem vO(lk:zJ)(rows:List LnM)(kvs:List (ij×V))(ss:List Stp)(s:Stp):nE lk rows kvs (ss++[s])=tO lk rows (nE lk rows kvs ss) s:=by unfold nE;rw[List.foldl_append];rfl
theorem qW{b:Bool}{p q:Prop}(h1:b=true->p)(h2:¬b=true->q):if b=true then p else q:=by
 split
 ·exact h1 (by assumption)
 ·exact h2 (by assumption)
theorem jb{kvs:List (ij×V)}(h:A3g P w sh H a kvs)(s:A0l H H'):A3g P w sh H' a kvs:=h.keeps (λ_ e=>s _ _ e) λ_ _ e=>s _ _ e
theorem kT{kvs:List (ij×V)}(h:A3g P w sh H a kvs):∃o,H a=some o/\∀xs,o≠.tup xs:=by obtain⟨_,e,_⟩:=h;exact ah _ e λ_ z=>by cases z
theorem Ke(T:Txt K mg t):FO P w base T.bf 16 (CI P w t):=by
 refine T.bf.F.ok uC λ_ A _ s H _ Q E hr h=>?_
 ·refine oX h ?_;clear h;rintro p dx l a tb ln o wh S ak N ax U xs ⟨M,d,I,rfl,hp,hl,ha,ho,b0,a8,a2,a3,b8,b4,a4,c0,c1,k⟩;have hn:=pM hr;have lo:=qC a8;have c3:N.length*4000<=100*4000:=Nat.mul_le_mul_right _ b0;refine rsq (eg (iw 1 uC.nd (rB (sh:=[true,false]))) (eg (je (ju (pcl (Co T) hr T.aF (fC 0))) (ie (i:=2) uC.nd) (fa ⟨mG nY (oe (pv 1) (pv 2) (qH hn))⟩)) (eg (je (D6 rfl T.cE (al (pcl (J4 T) hr T.bu (fC 0)) eH)) (ie (i:=3) uC.nd) (fa (iP (iT (ro hn) (pcl (xS T) hr T.aG (al (pv 0) (fC 3))) (pv 1) (by with_unfolding_all rfl)) (fa (je (ju (pcl (BB T) hr T.bY (al (pv 0) (fC 3)))) (ie (i:=4) uC.nd) (fa ⟨mG nY (oe (pv 1) (pv 4) (qH hn))⟩))) ⟨iJ⟩))) (fa (im (pv 1)))))) ?_;refine λD o0 hD C=>?_;have s1:A0l H (upd H D o0):=eh hD;have C:A3g P w [true,false] (upd H D o0) D []:=C;generalize upd H D o0=H1 at s1 C⊢;refine nu _ rfl p dx l a tb ln o wh S (jo ak N ax U rfl (s1 _ _ hp) (s1 _ _ hl) (jH (s1 _ _ ha) (s1 _ _ ho) b0 (λx hx=>(a8 x hx).same s1) λL ys H2 hL s2 h2 a5=>?_));obtain⟨u0,e0,t0⟩:=(kT C);have LD:L≠D:=λz=>by subst z;rw[e0]at hL;cases hL
  have e2:=s2 _ _ e0;have f:=jb C s2;refine hH L rfl ⟨_,SqL.of h2⟩ ?_;refine kr (K:=K) (a:=L) (xs:=ys) (λi Z G=>∃(Y:zP),Z=[Sro p,Sro D,Y,none,none]/\KB D H2 G/\A3g P w [true,false] G D (lG [] ((ji U N).take i))) (hH none rfl KB.refl f) (by rintro i Z G _ ⟨_,_,kb,_⟩;exact SqL.of (kb _ _ LD h2)) ?_ ?_
  ·rintro i y Z G hy ⟨Y,rfl,kb,nd⟩;obtain⟨r,a1,tr⟩:=ja a5 hy;obtain⟨b,rfl,na⟩:=pf (tr.keep (kb.kt e2 t0));have lp:=pU ((ji U N).take i) [];have lt:((ji U N).take i).length<=(ji U N).length:=by rw[iX];lia
   refine lP _ rfl _ rfl D b _ _ (nk r) (hQ ⟨rfl,rfl,nd,na,rfl⟩ (iM (by simp only [oo]at lp;lia)) λo1 a0=>?_);refine hH _ rfl kb.upd ?_;rw[iF,a1,iS,vN];exact a0
  ·rintro Z G ⟨Y,rfl,kb,nd⟩;rw[Paired.length a5,iQ]at nd;have sG:A0l H G:=KB.same (s1.trans s2) kb hD;refine nu _ rfl p dx l a tb ln o wh S (mi xs M I rfl (sG _ _ hp) (ke (sG _ _ hl) (sG _ _ a2) (Paired.mapP b8 λ_ _ z=>z.same sG) b4 a4 λF fs G1 hF sF a6 st=>?_));obtain⟨u1,e1,t1⟩:=(kT nd);have FD:F≠D:=λz=>by subst z;rw[e1]at hF;cases hF
   have b5:=sF _ _ e1;have lf:=Paired.length st;refine fx F _ rfl (SqL.of a6) ?_
   refine Eg (K:=K) (a:=F) (xs:=fs) (λi Z G2=>∃(Y o3 o4:zP)(m:List (ij×V)),Z=[Sro p,Sro D,Y,o3,o4]/\KB D G1 G2/\A3g P w [true,false] G2 D m/\m=nE S d (lG [] (ji U N)) ((iu I I.length).reverse.take i)/\m.length<=(ji U N).length+i*20)
    (jf _ _ _ _ rfl KB.refl (jb nd sF) rfl ?_) (by (rintro i Z G2 X;refine pE X ?_;clear X;rintro _ _ _ ⟨_,_,g,_⟩);exact SqL.of (g _ _ FD a6)) ?_ ?_
   ·have:=pU (ji U N) [];simp only [oo]at this
    lia
   ·rintro i x Z G2 hi hx X;refine jy X ?_;clear X;rintro Y o3 o4 m rfl g f ⟨ek,le⟩;obtain⟨sp,hs,b3⟩:=ja st hx;have W:(iu I I.length).reverse[i]?=some sp:=by rw[List.getElem?_reverse (by lia),<-lf];exact hs
    have so:=c0 sp (iZ hs);obtain⟨e,he,b6⟩:=so.ask;have b7:KT G1 G2:=g.kt b5 t1;have B:=(b3.kt b7).toM so.pos;obtain⟨b,c,u,rfl,hb⟩:=id B;have n:A0l H G2:=KB.same (sG.trans sF) g hD;refine ah _ rfl (nu _ rfl p dx l a tb ln o b wh (jk xs M d e (toM sp) rfl (n _ _ hp) (n _ _ a2) (Paired.mapP a3 λ_ _ z=>z.same n) B ⟨he,λq G3 J tq=>?_⟩));have ew:wrS d sp=(e.nm,(toM sp).ce):=by unfold wrS;rw[he];rfl
    obtain⟨q',b9,nq⟩:=pf tq;cases b9;rw[<-ew]at nq;have e3:=J _ _ (show G2 D=_ from (kT f).choose_spec.1);refine ah _ rfl (lA D q _ _ (nk (wrS d sp)) (iV ⟨rfl,rfl,jb f J,nq,rfl⟩ _ rfl (qW (λhz=>?_) (λhz=>?_))))
    ·refine lP _ rfl _ rfl p dx l a tb (lA ln o b wh S (jk xs M d e (toM sp) rfl (J _ _ (n _ _ hp)) (J _ _ (n _ _ hl)) (J _ _ (n _ _ a2)) (Paired.mapP a3 λ_ _ z=>z.same (n.trans J)) (hQ (B.same J) he (rdq he b6 ?_))));intro R es G4 hR s4 a7 a9;have RD:R≠D:=λz=>by subst z;rw[e3]at hR;cases hR
     have b2:=jb (jb f J) s4;obtain⟨u4,e4,t4⟩:=kT b2;refine hH R rfl ⟨_,SqL.of a7⟩ ?_;refine kr (K:=K) (a:=R) (xs:=es) (λj Z G5=>∃(o4:zP),Z=[Sro p,Sro D,Y,Sro b,o4]/\KB D G4 G5/\A3g P w [true,false] G5 D (lG m ((rdS S d sp).take j))) (hH _ rfl KB.refl b2) (by rintro j Z G5 _ ⟨_,_,v,_⟩;exact SqL.of (v _ _ RD a7)) ?_ ?_
     ·rintro j y Z G5 hy ⟨o4,rfl,v,O⟩;obtain⟨r,a1,tr⟩:=ja a9 hy;obtain⟨b1,rfl,na⟩:=pf (tr.keep (v.kt e4 t4));have lp:=pU ((rdS S d sp).take j) m;have lt:((rdS S d sp).take j).length<=(rdS S d sp).length:=by rw[iX];lia
      have lw:=so.few;have c2:i*20<=20000*20:=Nat.mul_le_mul_right _ (by lia);refine lP _ rfl _ rfl D b1 _ _ (nk r) (hQ ⟨rfl,rfl,O,na,rfl⟩ (iM (by lia)) λo1 a0=>?_);refine hH _ rfl v.upd ?_;rw[iF,a1,iS,vN];exact a0
     ·rintro Z G5 ⟨o4,rfl,v,O⟩;rw[Paired.length a9,iQ]at O;have lp:=pU (rdS S d sp) m;have lw:=so.few;refine jf _ _ _ _ rfl ((g.trans (KB.of (J.trans s4))).trans v) O ?_ (by lia);rw[iF,W,iS,vO,<-ek];exact(ia hz).symm
    ·refine jf _ _ _ _ rfl (g.trans (KB.of J)) (jb f J) ?_ (by lia);rw[iF,W,iS,vO,<-ek];exact(fy hz).symm
   ·rintro Z G2 X;refine jy X ?_;clear X;rintro Y o3 o4 m rfl g f ⟨ek,le⟩;rw[lf,<-List.length_reverse,iQ]at ek;rw[ek]at f;exact ah _ rfl (k D G2 hD (KB.same (sG.trans sF) g hD) f)
def kY(kvs:List (ij×V))(a:Str->List Int)(x:Str):List zI:=(iE (a x)).filter λc=>(ic kvs (nk (x,c))).isSome
def uU(H0 H:Hp)(kvs:List (ij×V))(a:Str->List Int):List (Key×V)->List (Str×List Str)->Prop:=Paired λ(p:Key×V)(e:Str×List Str)=>p.1=Sum.inr e.1/\∃b,p.2=.ref b/\H0 b=none/\A3r H b (kY kvs a e.1)
def CH(P:yB)(w:yD)(A:Adr):Sp:=λk H Q _=>∃(p n l a m q o F:zW)(j:Int)(i g:zJ)(c:zB)(f:Str->List Int)(S:zV)(b:List (ij×V)),k=[.ref p,.ref F]/\H p=some (clo A n j l a m q o)/\H l=some (.dK i)/\H a=some (.dK g)/\AR S H g c/\c.length<=1000/\(g.map (·.1)).Nodup/\l≠a/\(∀e∈c,Sz i e.2 (f e.1)/\B3z (f e.1))/\A3g P w [true,false] H F b/\
 ∀(D:zW)(h:zJ)(d:Hp),H D=none->A0l H d->d D=some (.dK h)->uU H d b f h c->Q (.ref D) d
theorem A3r.keep(h:A3r H a cs)(f:∀b xs,H b=some (.lst xs)->H' b=some (.lst xs))(g:KT H H'):A3r H' a cs:=by obtain⟨c,d,e⟩:=h.ex;exact⟨c,f _ _ d,e.imp g⟩
theorem qr{α:Type}{f:α->Bool}{x:α}(h:f x=true):[x].filter f=[x]:=by rw[List.filter_cons_of_pos h];rfl
theorem qm{α:Type}{f:α->Bool}{x:α}(h:¬f x=true):[x].filter f=[]:=by rw[List.filter_cons_of_neg h];rfl
theorem Em(a:X.A.units+9<cLine)(c:X.prog=P)(b:X.w=w):OpR X (compareOp .In) (yo P w):=by subst c b;exact ro a
theorem JD(T:Txt K mg t):FO P w base T.bN 4 (CH P w t):=by
 refine T.bN.F.ok uz λ_ A _ s H _ Q E hr h=>?_
 ·refine oX h ?_;clear h;rintro p dx l a tb ln o F wh lk d es sz S ⟨kvs,rfl,hp,hl,O,ar,b9,nd,la,b5,fn,k⟩;have hu:=lF hr;have hn:=pM hr;have a7:=Paired.length ar;refine rsq (eg (iw 2 uz.nd sE) (eg (je (sw (oG PySem.F.plainAttrs_dict PySem.F.slot_dict_items PySem.F.type_dict_items sn (kJ (pv 0) rfl))) (lK (n:=2) rfl (iY (ie (i:=3) uz.nd rfl (.inr rfl)) (iY (ie (i:=4) uz.nd) lN))) (eg (iw 5 uz.nd (pcl (v6 T) hr T.aw (al (pv 4) (al (kJ (pv 0) rfl) eH)))) (fa ⟨@nG _ _ _ _ _ _ _ _ _ hu (pv 2) (pv 3) (vC (N':=["cell","array","found"]) (ix:=(List.replicate 1 none++[some 3,some 1])) rfl (sI (cl:=[("found",_),("array",_)]) (xs:=["found","array"]) rfl (hQ rfl rfl trivial) rfl rfl (by decide+kernel) (by decide+kernel)) (sK (N0:=["cell"]) (xs:=["array","found"]) (js:=[3,1]) (hQ (hQ rfl (.inl rfl) (by walk_at"ix")) (hQ rfl (.inl rfl) (by walk_at"ix")) trivial)) (ju (pv 5)) (λ_ _ _ _=>(ie (i:=0) Gv)) (λ_ _ _ _=>(iT (Em (P:=P) (w:=w) hn rfl rfl) (jd (al (pv 1) (fC 0))) (pv 2) (by with_unfolding_all rfl))) (λ_ _ _ _=>(pv 0))) rfl⟩))) ⟨uq (@lW _ _ _ (@pP _ _ _ _ (pv 2)))⟩)) ?_;refine λD hD=>?_;have aD:a≠D:=ik O hD;have s1:A0l H (upd H D (.dK [])):=eh hD;have C:=s1 _ _ O;refine jW _ rfl p _ dx _ (.ref a) rfl (s1 _ _ hp) T.ag T.aY (by walk_at"lk") ⟨.inr (.inr (.inl ⟨rfl,.inl ⟨_,C⟩⟩)),(jA a _ rfl rfl C (.inl ⟨_,rfl⟩) λvw M=>?_)⟩;have Dv:D≠vw:=ik dh M;have av:a≠vw:=ik C M;refine jv vw a _ rfl dh (by rw[dV av];exact C) (.inl (ah d rfl λI=>?_));have a9:H vw=none:=by rw[dV Dv.symm]at M;exact M
  have g0:A0l (upd H a (.frz I (.dK d))) (upd (upd (upd H D (.dK [])) vw (mO vw a)) a (.frz I (.dK d))):=λb v e=>by
   by_cases x:b=a
   ·subst x;rw[dh]at e⊢;exact e
   ·rw[dV x]at e⊢;rw[dV (ik e a9),dV (ik e hD)];exact e
  have b7:upd H a (.frz I (.dK d)) D=none:=by rw[dV aD.symm];exact hD
  have a8:∀b,upd H a (.frz I (.dK d)) b=none->H b=none:=λb e=>by
   by_cases x:b=a
   ·subst x;rw[dh]at e;cases e
   ·rw[dV x]at e;exact e
  have up:∀b u,b≠a->H b=some u->upd H a (.frz I (.dK d)) b=some u:=λb u x e=>by rw[dV x];exact e
  have pa:p≠a:=ir hp O (by intro z;cases z)
  have Fa:F≠a:=λz=>by subst z;obtain⟨_,e,_⟩:=fn;rw[O]at e;cases e
  have b6:A3g P w [true,false] (upd H a (.frz I (.dK d))) F kvs:=fn.keeps (λu e=>up _ _ Fa e) λb ys e=>up _ _ (ir e O (by intro z;cases z)) e
  refine uj (L:=d.map λq=>(kV q.1,q.2)) (λi Z r=>∃(o3 o4 o5:zP)(J:zJ),Z=[Sro p,Sro F,Sro D,o3,o4,o5]/\A0l (upd H a (.frz I (.dK d))) r/\r D=some (.dK J)/\J.map (·.1)=(d.take i).map (·.1)/\uU H r kvs sz J (es.take i))
   (jf none none none [] rfl g0 (by rw[dV aD.symm,dV Dv,dh]) rfl .nil) (by (rintro i Z r N;refine pE N ?_;clear N;rintro _ _ _ ⟨_,_,s4,_⟩);exact s4 _ _ dh) ?_ ?_
  ·rintro i kx vx q Z r hx hq N;refine jy N ?_;clear N;rintro o3 o4 o5 J rfl s4 h4 ⟨ks,wn⟩;rw[jh]at hx;obtain⟨⟨k',v⟩,hk,e⟩:=oP.mp hx;cases e;refine oZ (ja ar hk) ?_;rintro e he ek ⟨b,rfl,_,x⟩;have ek:k'=Sum.inr e.1:=ek;subst ek;obtain⟨si,go⟩:=b5 e (iZ he);have sq:A0l r (upd r q (.tup [kV (Sum.inr e.1),.ref b])):=eh hq;have s5:=s4.trans sq;have b2:=s5 _ _ (up _ _ (ir x O (by intro z;cases z)) x);refine mQ q _ rfl (SqT.of dh) rfl _ _ rfl _ _ rfl rfl (ah _ rfl (jW _ rfl p _ dx _ _ rfl (s5 _ _ (up _ _ pa hp)) T.ag T.aj (by walk_at"lk") (jk b l e.2 lk (sz e.1) rfl b2 (s5 _ _ (up _ _ la hl)) si go λqc H6 b8 s6 cq=>?_)));have U:=s5.trans s6;obtain⟨ps,a4,tp⟩:=cq.ex;have a5:=tp.len;have lc:=go.len;refine jg _ rfl qc rfl ⟨_,SqL.of a4⟩ λD2 m=>?_;refine vV (K:=K) (a:=qc) (D:=D2) (xs:=ps.map V.ref) (λj zs H7=>A0l H6 H7/\H7 D2=some (.lst zs)/\∃G:zQ,zs=G.map V.ref/\G.length<=j/\A2l H7 G (((iE (sz e.1)).take j).filter λc=>(ic kvs (nk (e.1,c))).isSome)) ⟨eh m,(jU dh [] rfl (ig _) .nil)⟩ (λj zs H7 B=>SqL.of (B.1 _ _ a4)) ?_ ?_
   ·rintro j y zs H7 hy ⟨B,W,G,rfl,lq,tq⟩;obtain⟨Y,a3,rfl⟩:=ko hy;obtain⟨c,hc,b0⟩:=tp.get a3;have hj:j<ps.length:=(iG.mp a3).1;refine⟨(hQ rfl rfl True.intro),(jg _ rfl _ rfl (iq rfl) λb1 a6=>?_)⟩;have X:A0l H7 (upd H7 b1 (.tup [.str e.1,.ref Y])):=eh a6;have R:=X _ _ (B _ _ b0);have na:A1x (upd H7 b1 (.tup [.str e.1,.ref Y])) (nk (e.1,c)) b1:=om dh (by rw[List.map_map];exact R);have b3:A3g P w [true,false] (upd H7 b1 (.tup [.str e.1,.ref Y])) F kvs:=jb b6 ((U.trans B).trans X);have a0:=X _ _ W;refine ah _ rfl (lA F b1 _ _ (nk (e.1,c)) (iV ⟨rfl,rfl,b3,na,rfl⟩ _ rfl (qW (λhz=>?_) (λhz=>?_))))
    ·have kD:KT (upd H7 b1 (.tup [.str e.1,.ref Y])) (upd (upd H7 b1 (.tup [.str e.1,.ref Y])) D2 (.lst (G.map V.ref++[.ref Y]))):=KT.at a0 (by intro xs z;cases z);refine ky _ rfl a0 (iM (by rw[hA];lia)) ⟨jn (B.trans X) m,(jU dh (G++[Y]) (by simp) (by simp;lia) ?_)⟩;rw[iF,hc,iS,List.filter_append,qr (f:=λc=>(ic kvs (nk (e.1,c))).isSome) hz];exact A2l.snoc (kD _ _ R) (tq.imp ((KT.same X).trans kD))
    ·refine⟨B.trans X,(jU a0 G rfl (by lia) ?_)⟩;rw[iF,hc,iS,List.filter_append,qm (f:=λc=>(ic kvs (nk (e.1,c))).isSome) hz,nS];exact tq.same X
   ·rintro zs H7 ⟨B,W,G,rfl,lq,tq⟩;rw[hA,a5,iQ]at tq;have a2:A0l r H7:=sq.trans (s6.trans B);have h7:=a2 _ _ h4;have b4:=s6 _ _ (sq _ _ h4);have DD:D2≠D:=λz=>by subst z;rw[b4]at m;cases m
    have lw:J.length=(d.take i).length:=by have:=congrArg List.length ks;simpa using this
    have c0:(d.take i).length<=d.length:=by rw[iX];lia
    refine iU _ rfl _ rfl D _ rfl (B4w.k (k:=Sum.inr e.1) h7 (iM (by lia))) ?_;refine jf _ _ _ _ rfl (jn (U.trans B) b7) dh ?_ ?_
    ·rw[ug nd hk J ks (.ref D2),iF,hk,iK,iK,ks];rfl
    ·rw[ug nd hk J ks (.ref D2),iF,he];refine jZ (Paired.mapP wn ?_) (.cons (jU rfl D2 rfl (a8 _ (U.free m)) ⟨G,?_,tq.imp λc u g=>?_⟩) .nil)
     ·rintro _ _ ⟨z1,b,z2,z3,z4⟩;exact jU z1 b z2 z3 ((z4.same a2).keep (λc u g=>by rw[dV (ir g h7 (by intro z;cases z))];exact g) λc u g=>by rw[dV (ir g h7 (by intro z;cases z))];exact g)
     ·rw[dV DD];exact W
     ·rw[dV (ir g h7 (by intro z;cases z))];exact g
  ·rintro Z r N;refine jy N ?_;clear N;rintro o3 o4 o5 J rfl s4 h4 ⟨ks,wn⟩;rw[hA,a7,iQ]at wn;have a1:r a=some (.frz I (.dK d)):=s4 _ _ dh;refine ku a I _ a1 (kE (.inl ⟨_,rfl⟩) (λo' u' z=>by have z:H a=some (.frz o' u'):=z;rw[O]at z;cases z) _ rfl ?_);refine k D J _ hD (um O s4) (by rw[dV aD.symm];exact h4) (Paired.mapP wn ?_);rintro _ _ ⟨z1,b,z2,z3,z4⟩;exact jU z1 b z2 z3 (z4.keep (λc u g=>by rw[dV (ir g a1 (by intro z;cases z))];exact g) λc u g=>by rw[dV (ir g a1 (by intro z;cases z))];exact g)
def Oth(r:zW)(H H':Hp):Prop:=∀b,b≠r->H' b=H b
def prd(L:zR)(ys:zC):Int:=ys.foldl (λc y=>c*L y) 1
theorem Fe(L:zR)(ys:zC)(y:Str):prd L (ys++[y])=prd L ys*L y:=by unfold prd;rw[List.foldl_append];rfl
def wG(lk:zJ)(L:zR)(ys:zC):Prop:=∀y∈ys,ic lk (Sum.inr y)=some (.int (L y))/\0<=L y/\L y<=60
def Fg:Sp:=λe H Q _=>∃(l d:zW)(a:zC)(b:zJ)(L:zR),e=[.ref l,.ref d]/\H l=some (.lst (a.map V.str))/\H d=some (.dK b)/\wG b L a/\a.length<=1000/\∀(c:Hp),A0l H c->Q (.int (prd L a)) c
def KI(H H':Hp):Prop:=∀b u,(∀n a,u≠.lst (V.int n::a))->H b=some u->H' b=some u
def hdI:List PyData->Bool|.int _::_=>false|_=>true
mutual
def noI:PyData->Bool|.list ds=>hdI ds&&pJ ds|.tuple ds=>pJ ds|_=>true
def pJ:List PyData->Bool| []=>true|d::r=>noI d&&pJ r
end
theorem CT{ds:List PyData}(r:A5a H xs ds)(h:hdI ds=true):∀n ys,HO.lst xs≠.lst (V.int n::ys):=λn ys z=>by
 cases z
 cases r with
 |cons a _=>
  cases a
  cases h
mutual
theorem Rep.ki{H H':Hp}(f:KI H H'):∀{v:V}{d:PyData},Rep H v d->noI d=true->Rep H' v d|_,_,.non,_=>.non|_,_,.bl b,_=>.bl b|_,_,.int i,_=>.int i|_,_,.str x,_=>.str x|_,_,.lst e r,h=>by rw[noI,qf]at h;exact .lst (f _ _ (CT r h.1) e) (A5a.ki f r h.2)|_,_,.tup e r,h=>by rw[noI]at h;exact .tup (f _ _ (by intro n a z;cases z) e) (A5a.ki f r h)
theorem A5a.ki{H H':Hp}(f:KI H H'):∀{vs:zM}{ds:List PyData},A5a H vs ds->pJ ds=true->A5a H' vs ds|_,_,.nil,_=>.nil|_,_,.cons a r,h=>by rw[pJ,qf]at h;exact .cons (Rep.ki f a h.1) (A5a.ki f r h.2)
end
theorem Dq(ix:zL):noI (nZ ix)=true:=by
 have h:∀ix:zL,pJ (ix.map mR)=true:=λix=>by
  induction ix with
  |nil=>simp[pJ]
  |cons e r ih=>rw[iN,pJ,ih];simp[mR,noI,pJ]
 unfold nZ;rw[noI,h];cases ix<;>simp[hdI,mR]
theorem EG(ys:zC):∀n xs,HO.lst (ys.map V.str)≠.lst (V.int n::xs):=λn xs z=>by
 cases ys with
 |nil=>cases z
 |cons y r=>cases z
theorem pS{D:zW}{a:zI}(c:H D=some (.lst (a.map V.int)))(o:Oth D H H')(e:a=[]->H'=H):KI H H':=by
 cases a with
 |nil=>rw[e rfl];exact λ_ _ _ y=>y
 |cons n r=>
  intro b u d y;by_cases hb:b=D
  ·subst hb;rw[c]at y;cases y;exact absurd rfl (d n _)
  ·rw[o b hb];exact y
theorem KI.of(s:A0l H H'):KI H H':=λb u _ e=>s b u e
theorem KI.trans(a:KI H H')(b:KI H' H2):KI H H2:=λc u n e=>b c u n (a c u n e)
def Nw(G:Hp)(b:zW):Prop:=∀u,G b=some u->∃n a,u=.lst (V.int n::a)
theorem Nw.up(k:KI H H')(h:Nw H' b):Nw H b:=λu e=>Classical.byContradiction λa=>a (h u (k b u (λn c z=>a (km n c z)) e))
theorem EQ(h:H b=none):Nw H b:=λu e=>by rw[h]at e;cases e
theorem nF(k:KI H H')(h:H' b=none):Nw H b:=(EQ h).up k
theorem FE(k:KI H H'):KI (jp S H) (jp S H'):=λb u n e=>kj (jT e).1 (k b u n (jT e).2)
theorem KI.str(k:KI H H')(e:H b=some (.lst (ys.map V.str))):H' b=some (.lst (ys.map V.str)):=k _ _ (EG ys) e
theorem KI.dk(k:KI H H')(e:H b=some (.dK kvs)):H' b=some (.dK kvs):=k _ _ (by intro n a z;cases z) e
def EB:Sp:=λd H Q _=>∃(r:zW)(b:zI),d=[.ref r]/\H r=some (.lst (b.map V.int))/\∀(i:Int)(c:zI)(a:Hp),c.length<=b.length->a r=some (.lst (c.map V.int))->Oth r H a->(b=[]->a=H)->Q (.int i) a
structure AxN(nm ys:zC):Prop where
 nd:ys.Nodup
 sub:∀y∈ys,y∈nm
 few:ys.length<=3
def Ez:Sp:=λe H Q _=>∃(c:Int)(l:zW)(a:zC),e=[.int c,.ref l]/\H l=some (.lst (a.map V.str))/\a.length<=8/\0<a.length/\a.Nodup/\∀(d:zC)(p:zW)(b:Hp),H p=none->A0l H b->b p=some (.lst (d.map V.str))->AxN a d->Q (.ref p) b
theorem Ei{m c tn:Int}(d:0<m)(f:m<=8)(a:tn=1\/tn=m-1)(hi:(i:Int)<m)(b:(j:Int)<m)(e:(c+(i:Int)*tn)%m=(c+(j:Int)*tn)%m):i=j:=by
 have h:m=1\/m=2\/m=3\/m=4\/m=5\/m=6\/m=7\/m=8:=by lia
 rcases h with rfl|rfl|rfl|rfl|rfl|rfl|rfl|rfl<;>rcases a with rfl|rfl<;>lia
theorem DA{zs:zC}{f:Nat->Nat}(m:nm.Nodup)(h:∀j,j<zs.length->zs[j]?=nm[f j]?)(c:∀i j,i<zs.length->j<zs.length->f i=f j->i=j):zs.Nodup:=by
 rw[List.nodup_iff_pairwise_ne,List.pairwise_iff_getElem];intro i j d b k e;have a:=h i d;have g:=h j b;rw[jq d]at a;rw[jq b]at g;rw[e]at a;have l:f i<nm.length:=(iG.mp a.symm).1;have:=(List.getElem?_inj l m).mp (a.symm.trans g);have:=c i j d b this
 lia
theorem pW(T:Txt K mg t):FO P w base T.aA 1 EB:=by
 refine T.aA.F.ok GG λ_ A _ s H _ Q E g h=>?_
 ·obtain⟨r,a,rfl,c,k⟩:=h;refine rsq (eg (iP (iT kS (kN T.ao (fC 0)) fe) (fa (im fe)) ⟨iJ⟩) (fa (im (oG kQ PySem.F.slot_list_pop PySem.F.type_list_pop DT (pv 0))))) ?_;refine ii _ rfl r _ rfl (.inl (SqL.of c)) (iV rfl _ rfl (iC (λ_=>?_) (λh=>?_)))
  ·exact k 0 a H (ig _) c (λ_ _=>rfl) λ_=>rfl
  ·have d:0<a.length:=by
    rcases Nat.eq_zero_or_pos a.length with z|z
    ·exact absurd (by rw[hA,z];rfl) h
    ·exact z
   have e:(a.map V.int)[(a.map V.int).length-1]?=some (V.int (a[a.length-1]'(by lia))):=by rw[hA,jh,jq (by lia:a.length-1<a.length)];rfl
   refine hH _ rfl (.inl (jI rfl _ (SqL.of c))) (jX r _ _ rfl rfl c e (k _ a.dropLast _ (by simp) ?_ (λb f=>dV f) λz=>by rw[z]at d;cases d));rw[dh,List.map_dropLast]
theorem Bj(T:Txt K mg t):FO P w base T.cH 1 Ez:=by
 refine T.cH.F.ok vH λ_ A _ s H _ Q E X h=>?_
 ·refine iW h ?_;clear h;rintro c l a rfl r Y ⟨I,S,k⟩;refine rsq (eg ⟨@jM _ _ 2 _ _ _ _ vH.nd rfl (.inr rfl) (kN T.ao (fC 1)) rfl (.inl rfl)⟩ (eg ⟨@jM _ _ 3 _ _ _ _ vH.nd rfl (.inr rfl) fe rfl (.inl rfl)⟩ (mY (iP (PW.pt (pO (iT kS (ib jL (ib lO (pv 0) fe) fe) fe) (qF (iT qo (pv 2) fe)))) (fa ⟨@jM _ _ 3 _ _ _ _ vH.nd rfl (.inr rfl) (ib oE (pv 2) fe) rfl (.inl rfl)⟩) ⟨iJ⟩) (fa (im (mH (N':=["_law_j","_law_cell_here","_law_many_here","_law_names","_law_turn"]) (ix:=(List.replicate 1 none++[some 0,some 2,some 1,some 3])) rfl (sI (cl:=[("_law_turn",_),("_law_names",_),("_law_many_here",_),("_law_cell_here",_)]) (xs:=["_law_turn","_law_names","_law_many_here","_law_cell_here"]) rfl (jH rfl rfl rfl rfl trivial) rfl rfl (by decide+kernel) (by decide+kernel)) (sK (N0:=["_law_j"]) (xs:=["_law_cell_here","_law_many_here","_law_names","_law_turn"]) (js:=[0,2,1,3]) (jH (hQ rfl (.inl rfl) (by walk_at"ix")) (hQ rfl (.inl rfl) (by walk_at"ix")) (hQ rfl (.inl rfl) (by walk_at"ix")) (hQ rfl (.inl rfl) (by walk_at"ix")) trivial)) (pA rfl T.aM (al (jS (Bd rfl) (by rfl) T.gS PyProof.Rows.boot_min (al (ib jL (pv 0) fe) (fC 2))) eH)) (λ_ _ _ _=>(ie (i:=0) Hq)) (λ_ _ _ _=>(jr (Al (K:=K) rfl) (pv 3) (ib jL (ib kI (ib lO (pv 1) fe) (ib tW (pv 0) (pv 4))) (pv 2)))))))))) ?_;refine ii _ rfl l _ rfl (.inl (SqL.of r)) ?_;rw[hA];refine ah (λZ J=>H=J/\∃tn:Int,(tn=1\/tn=(a.length:Int)-1)/\Z=[Sio c,Sro l,Sio a.length,Sio tn]) ?_ ?_
  ·refine me _ rfl _ _ rfl rfl ⟨by decide,by decide⟩ _ _ rfl rfl uY (iV rfl _ rfl (nj (λ_=>?_) (λ_=>jx (iV rfl _ (.inl rfl) rfl))));refine ah _ rfl (lx _ _ rfl rfl _ rfl (iC (λ_=>?_) (λ_=>(iV rfl _ (.inl rfl) rfl))));exact ii _ rfl _ _ rfl rfl (iV rfl _ (.inr rfl) rfl)
  ·rintro Z J ⟨rfl,tn,u,rfl⟩;refine ii _ rfl _ _ rfl rfl (jI rN _ (mw rfl _ _ rfl ?_));generalize hm:(if (a.length:Int)<c%4 then (a.length:Int)else c%4)=m;have L:m<=3:=by rw[<-hm];split<;>lia
   have R:0<=m:=by rw[<-hm];split<;>lia
   have N:m<=a.length:=by rw[<-hm];split<;>lia
   refine ky _ rfl (by lia) (by lia) λD C=>?_;refine sM (D:=D) m.toNat (λi n g=>A0l H g/\g D=some (.lst n)/\∃b:zC,n=b.map V.str/\b.length=i/\∀j,j<i->b[j]?=a[((c/8+(j:Int)*tn)%(a.length:Int)).toNat]?) ⟨eh C,(jU dh [] rfl rfl (by intro j d;lia))⟩ (λi n g B _=>B) (λn g _=>ig _) ?_ ?_
   ·rintro i n g B ⟨q,z,b,rfl,G,p⟩ x H4 ⟨rfl,rfl⟩;rw[Int.zero_add];obtain⟨x,O,e⟩:=qE (f:=V.str) (xs:=a) (i:=(c/8+(i:Int)*tn)%(a.length:Int)) (oq _ (by lia)) (pF _ (by lia));refine⟨(jH rfl rfl rfl rfl True.intro),(iU _ rfl _ rfl _ _ rfl rfl ⟨⟨by decide,by decide⟩,(iU _ rfl _ rfl _ _ rfl rfl (jN (.inl ⟨by lia,by lia⟩) _ _ rfl rfl (ii _ rfl _ _ rfl rfl ⟨(by show(0:Int)<(a.length:Int);lia),(jf l _ _ _ rfl rfl (SqL.of (q _ _ r)) e ?_)⟩)))⟩)⟩;refine jO z (iM (by simp;lia)) (jn q C) (jU dh (b++[x]) (by simp) (by simp[G]) λj d=>?_);rcases Nat.lt_or_ge j i with o|o
    ·rw[lD (by lia)];exact p j o
    ·have:j=i:=by lia
     subst this;rw[O,nP (by lia),G,Nat.sub_self];rfl
   ·rintro n g ⟨q,z,b,rfl,G,p⟩
    have U:b.Nodup:=DA (f:=λj=>((c/8+(j:Int)*tn)%(a.length:Int)).toNat) S (λj d=>p j (by lia)) λi j B d e=>by
     have a1:=oq (c/8+(i:Int)*tn) (show(a.length:Int)≠0 by lia);have W:=oq (c/8+(j:Int)*tn) (show(a.length:Int)≠0 by lia);refine Ei (m:=a.length) (c:=c/8) (tn:=tn) (by lia) (by lia) u (by lia) (by lia) ?_;have e:((c/8+(i:Int)*tn)%(a.length:Int)).toNat=((c/8+(j:Int)*tn)%(a.length:Int)).toNat:=e
     lia
    have v:∀y∈b,y∈a:=λy M=>by obtain⟨j,d⟩:=List.getElem?_of_mem M;have r:=(iG.mp d).1;rw[p j (by lia)]at d;exact iZ d
    exact k b D g C q z ⟨U,v,by lia⟩
theorem vI(T:Txt K mg t):FO P w base T.bA 1 Fg:=by
 refine T.bA.F.ok vG λ_ A _ s H _ Q E q h=>?_
 ·refine nN h ?_;clear h;rintro l d f v L rfl e r n z k;have o:=lF q;refine rsq (eg (iw 2 vG.nd fe) (eg (je (ju (pv 0)) (ie (i:=3) vG.nd) (fa (iw 2 vG.nd (ib tW (pv 2) (iR o (pv 1) (pv 3)))))) (fa (im (pv 2))))) ?_;refine jg _ rfl l rfl ⟨_,SqL.of e⟩ ?_;refine kr (K:=K) (a:=l) (xs:=f.map V.str) (λi Z b=>H=b/\∃c:zP,Z=[Sro l,Sro d,Sio (prd L (f.take i)),c]) (jI rfl none rfl) (λi Z b _ ⟨h,_⟩=>by rw[<-h];exact SqL.of e) ?_ ?_
  ·rintro i x Z b m ⟨rfl,c,rfl⟩;rw[jh]at m;obtain⟨y,j,rfl⟩:=oP.mp m;obtain⟨p,u⟩:=n y (iZ j);have g:=B0p.k (H:=H) (a:=d) (k:=Sum.inr y) r;rw[p]at g;refine ah _ rfl (iU _ rfl _ rfl d _ rfl g (jA _ _ rfl rfl (.inr ⟨by lia,by lia⟩) rfl ⟨some (.str y),?_⟩));rw[iF,j,iS,Fe];rfl
  ·rintro Z b ⟨rfl,c,rfl⟩;rw[hA,iQ];exact ah _ rfl (k H (A0l.refl _))
def GT:Sp:=λd H Q _=>∃(c n:Int),d=[.int c,.int n]/\0<=n/\n<=1000/\∀(p:zW)(b:zI)(a:Hp),H p=none->A0l H a->a p=some (.lst (b.map V.int))->b.length=n.toNat->Q (.ref p) a
theorem xU:(0:Int)<10^(4:Int).toNat:=by decide
theorem IL(T:Txt K mg t):FO P w base T.cF 1 GT:=by
 refine T.cF.F.ok uy λ_ A _ s H _ Q E q h=>?_
 ·obtain⟨c,n,rfl,r,p,k⟩:=h;refine rsq (eg (iw 2 uy.nd (@jF _ _ _ _ eH)) (eg (iw 3 uy.nd (pv 0)) (eg (je (pA rfl T.aM (fC 1)) (ie (i:=4) uy.nd) (eg ⟨kU (lJ kQ nU nT nK (pv 2) (al (ib jL (pv 3) (ib tU fe fe)) eH))⟩ (fa (iw 3 uy.nd (ib lO (pv 3) (ib tU fe fe)))))) (fa (im (pv 2)))))) ?_;refine⟨iq rfl,λD f=>(jB _ rfl _ rfl (ky n rfl (by lia) (by lia) ?_))⟩;refine rF (n:=n.toNat) (λj Z b=>∃(z:Int)(a:zI)(l:zP),Z=[Sio c,Sio n,Sro D,Sio z,l]/\A0l H b/\b D=some (.lst (a.map V.int))/\a.length=j) (jv c [] none rfl (eh f) dh rfl) ?_ ?_
  ·rintro j Z b o d;refine iW d ?_;clear d;rintro z a l rfl m e g;rw[Int.zero_add];refine hH _ rfl (.inl (jI rfl _ (SqL.of e))) (me _ rfl _ _ rfl rfl ?_ _ _ rfl rfl xU (jX D _ _ rfl rfl e (iM (by rw[hA];lia)) ?_))
   ·exact hQ (by decide) (by decide) (by decide)
   ·refine me _ rfl _ _ rfl rfl (hQ (by decide) (by decide) (by decide)) _ _ rfl rfl ⟨xU,by decide⟩ ?_;exact jv _ (a++[z%10^(4:Int).toNat]) _ rfl (jn m f) (by rw[dh,iK];rfl) (by simp[g])
  ·rintro Z b d;refine iW d ?_;clear d;rintro z a l rfl m e g;exact ah _ rfl (k D a b f m e g)
theorem uv(T:Txt K mg t):FO P w base T.aO 1 yN:=by
 refine T.aO.F.ok sO λ_ A _ s H _ Q E hr h=>?_
 ·refine nN h ?_;clear h;rintro l d ys lk o rfl hl hd sz g k;have hu:=lF hr;have a7:=Paired.length sz;refine rsq (eg (iw 2 sO.nd (@jF _ _ _ _ (al (jd eH) eH))) (eg (je (ju (pv 0)) (ie (i:=3) sO.nd) (eg (iw 4 sO.nd (@jF _ _ _ _ eH)) (eg (je (ju (pv 2)) (ie (i:=5) sO.nd rfl (.inr rfl)) (fa ⟨kU (lJ kQ PySem.F.slot_list_extend PySem.F.type_list_extend ui (pv 4) (al (mH (N':=["_law_number","_law_cell_here"]) (ix:=(List.replicate 1 none++[some 5])) rfl (qI (x:="_law_cell_here") rfl rfl rfl (by decide+kernel) (by decide+kernel)) (qN (N0:=["_law_number"]) rfl (.inl rfl) (by walk_at"ix")) (pA rfl T.aM (al (iR hu (pv 1) (pv 3)) eH)) (λ_ _ _ _=>(ie (i:=0) GU)) (λ_ _ _ _=>(ib xo (pv 1) (jd (fC 0))))) eH))⟩)) (fa (iw 2 sO.nd (pv 4)))))) (fa (im (pv 2))))) ?_;refine⟨iq rfl,λe he=>⟨iq rfl,λq O=>?_⟩⟩;have a5:H q=none:=(eh he).free O;have s1:A0l H (upd (upd H e (.tup [])) q (.lst [V.ref e])):=(eh he).trans (eh O)
  refine⟨_,rfl,l,rfl,⟨_,SqL.of (s1 _ _ hl)⟩,kr (K:=K) (a:=l) (xs:=ys.map V.str) (λi Z b=>∃(o3 o4 G:zP)(q:zW),Z=[Sro l,Sro d,Sro q,o3,o4,G]/\A0l H b/\H q=none/\A3r b q (iE (o.take i)))
   (jo none none none q rfl s1 a5 ⟨[e],dh,.cons (by rw[dV (ik dh O)];exact dh) .nil⟩) (by (rintro i Z b _ B;refine pE B ?_;clear B;rintro _ _ _ ⟨_,_,C,_⟩);exact SqL.of (C _ _ hl)) ?_ ?_⟩
  ·rintro i y Z b hi B;refine jy B ?_;clear B;rintro o3 o4 G q rfl C O W;obtain⟨y,hy,rfl⟩:=ko hi;obtain⟨n,hn,ev⟩:=ja sz hy;have gp:=g.pos n (iZ hn);have cl:=pY (o.take i) λm J=>(g.pos m (nw J)).1;have pl:=B5 o (λm J=>(g.pos m J).1) i;have gm:=g.most;have gf:=g.few;obtain⟨ps,U,tp⟩:=W.ex;have a1:=tp.len;refine⟨iq rfl,λL hL=>?_⟩;have sL:A0l b (upd b L (.lst [])):=eh hL
   refine⟨_,rfl,q,rfl,⟨_,SqL.of (sL _ _ U)⟩,kr (K:=K) (a:=q) (xs:=ps.map V.ref) (λj Z v=>∃(G:zP)(r:zQ),Z=[Sro l,Sro d,Sro q,Sso y,Sro L,G]/\A0l b v/\v L=some (.lst (r.map V.ref))/\A2l v r (kM ((iE (o.take i)).take j) n))
    (iO _ [] rfl sL dh .nil) (by rintro j Z v _ ⟨_,_,_,I,_⟩;exact SqL.of (I _ _ U)) ?_ ?_⟩
   ·rintro j z Z v hz ⟨G,r,rfl,I,X,R⟩;obtain⟨pc,a4,rfl⟩:=ko hz;obtain⟨c,hc,a2⟩:=tp.get a4;have cw:=(vX _ c (iZ hc)).1;rw[iX]at cw;have gk:=B0p.k (H:=v) (a:=d) (k:=Sum.inr y) (I _ _ (C _ _ hd));rw[ev]at gk
    have a6:r.length<=240000:=by
     have e:=R.len;rw[xQ]at e;have e1:((iE (o.take i)).take j).length*n.toNat<=4000*60:=Nat.mul_le_mul (by rw[iX];lia) (by lia)
     lia
    refine hH _ rfl (.inl (jI rfl _ (SqL.of X))) (iU _ rfl _ rfl d _ rfl gk (ky n rfl (by lia) (by lia) λD hD=>?_));refine sM (D:=D) n.toNat (λm M f=>A0l v f/\f D=some (.lst M)/\∃p:zQ,M=p.map V.ref/\p.length=m/\A2l f p ((List.range m).map λ(m:Nat)=>c++[(m:Int)])) ⟨eh hD,(jU dh [] rfl rfl .nil)⟩ (λm M f J _=>J) (λM f _=>ig _) ?_ ?_
    ·rintro m M f J ⟨N,h4,p,rfl,lw,t4⟩ x H5 ⟨rfl,rfl⟩;rw[Int.zero_add];refine⟨⟨rfl,True.intro⟩,(jg _ rfl _ rfl (iq rfl) λu a0=>?_)⟩;have Y:A0l H5 (upd H5 u (.tup [V.int (m:Int)])):=eh a0;refine lh pc u (c.map V.int) [V.int (m:Int)] rfl rfl (Y _ _ (N _ _ (I _ _ a2))) dh (lg (by simp;lia)) λq' H6 s6 a3=>?_;have h6:=s6 _ _ (Y _ _ h4);refine jO h6 (iM (by rw[hA];lia)) (jn (N.trans (Y.trans s6)) hD) (jU dh (p++[q']) (by simp) (by simp[lw]) ?_);rw[List.range_succ,iK];have kD:KT H6 (upd H6 D (.lst (p.map V.ref++[.ref q']))):=KT.at h6 (by intro xs z;cases z);exact A2l.snoc (kD _ _ (by rw[a3,iK];rfl)) ((t4.same (Y.trans s6)).imp kD)
    ·rintro M f ⟨N,h4,p,rfl,lw,t4⟩;have S:=N _ _ X;refine lh L D _ _ rfl rfl S h4 (lg (by rw[hA,hA];lia)) ?_;have kL:KT f (upd f L (.lst (r.map V.ref++p.map V.ref))):=KT.at S (by intro xs z;cases z);refine iO _ (r++p) rfl (jn (I.trans N) hL) (by rw[dh,iK]) ?_
     have e:kM ((iE (o.take i)).take (j+1)) n=kM ((iE (o.take i)).take j) n++(List.range n.toNat).map λ(m:Nat)=>c++[(m:Int)]:=by rw[iF,hc];simp[kM]
     rw[e];exact jZ ((R.same N).imp kL) (t4.imp kL)
   ·rintro Z v ⟨G,r,rfl,I,X,R⟩;refine ah _ rfl (jo _ _ _ L rfl (C.trans I) (C.free hL) ⟨r,X,?_⟩);rw[hA,a1,iQ]at R;rw[Cl hn];exact R
  ·rintro Z b B;refine jy B ?_;clear B;rintro o3 o4 G q rfl C O W;have e:o.take (ys.map V.str).length=o:=sX (by rw[hA];lia);rw[e]at W;exact ah _ rfl (k q b O C W)
def wt(k:Int):Op3:=if k=0 then .plus else if k=1 then .minus else .times
inductive A9h(H:Hp):V->Tm->Prop|num {a:zW} {z:Int}:H a=some (.tup [.str "number",.int z])->A9h H (.ref a) (.num z)|place {a:zW} {x:Str}:H a=some (.tup [.str "place",.str x])->A9h H (.ref a) (.place x)|read {a l:zW} {x:Str} {ix:zL}:H a=some (.tup [.str "read",.str x,.ref l])->Rep H (.ref l) (nZ ix)->A9h H (.ref a) (.read x ix)|pair {a:zW} {k:Int} {u w:V} {l r:Tm}:H a=some (.tup [.str "pair",.int k,u,w])->A9h H u l->A9h H w r->A9h H (.ref a) (.pair (wt k) l r)|guard {a:zW} {x:Str} {lo hi:Int} {u w:V} {l r:Tm}:H a=some (.tup [.str "guard",.str x,.int lo,.int hi,u,w])->A9h H u l->A9h H w r->A9h H (.ref a) (.guard x lo hi l r)
theorem A9h.ki(f:KI H H'){t:Tm}(h:A9h H v t):A9h H' v t:=by
 have g:∀b a,H b=some (.tup a)->H' b=some (.tup a):=λb a e=>f b _ (by intro n c z;cases z) e
 induction h with
 |num e=>exact .num (g _ _ e)
 |place e=>exact .place (g _ _ e)
 |read e r=>exact .read (g _ _ e) (Rep.ki f r (Dq _))
 |pair e _ _ i1 i2=>exact .pair (g _ _ e) i1 i2
 |guard e _ _ i1 i2=>exact .guard (g _ _ e) i1 i2
theorem A9h.same(s:A0l H H'){t:Tm}(h:A9h H v t):A9h H' v t:=h.ki (KI.of s)
def Fz(n:Nat):Sp:=λa H Q _=>∃(v:V)(u:Tm),a=[v]/\A9h H v u/\dep u<=n/\Q (.int (nod u:Nat)) H
theorem sno(h:(V.str x)=V.str y)(a:¬x=y):False:=a (V.str.inj h)
theorem xP(T:Txt K mg t):∀n:Nat,A4q P w K mg base jY n t.d_ t.dZ rW (Fz n)
 |0=>A4q.none (by rintro g H Q E ⟨v,u,_,_,h,_⟩;have:=vt u;lia)
 |n+1=>by
  have Ga2:=xP T n;refine T.aQ.F.ok ID λ_ A _ s H _ Q E b h=>?_
  ·obtain⟨v,u,rfl,f,d,k⟩:=h;refine rsq (eg (iP (pkd 0) (fa (im (ib kI (ib kI fe (pcl Ga2 b T.aQ (al (pit 0) eH))) (pcl Ga2 b T.aQ (al (pit 0) eH))))) ⟨iJ⟩) (eg (iP (pkd 0) (fa (im (ib kI (ib kI fe (pcl Ga2 b T.aQ (al (pit 0) eH))) (pcl Ga2 b T.aQ (al (pit 0) eH))))) ⟨iJ⟩) (fa (im fe)))) ?_
   cases f with
   |num e=>refine jj _ rfl _ _ _ _ rfl rfl (SqT.of e) (hY (j:=0) rfl) rfl _ rfl (iC (λh=>(sno h (by decide)).elim) (λ_=>?_));refine jj _ rfl _ _ _ _ rfl rfl (SqT.of e) (hY (j:=0) rfl) rfl _ rfl (iC (λh=>(sno h (by decide)).elim) (λ_=>?_));exact k
   |place e=>refine jj _ rfl _ _ _ _ rfl rfl (SqT.of e) (hY (j:=0) rfl) rfl _ rfl (iC (λh=>(sno h (by decide)).elim) (λ_=>?_));refine jj _ rfl _ _ _ _ rfl rfl (SqT.of e) (hY (j:=0) rfl) rfl _ rfl (iC (λh=>(sno h (by decide)).elim) (λ_=>?_));exact k
   |read e r=>refine jj _ rfl _ _ _ _ rfl rfl (SqT.of e) (hY (j:=0) rfl) rfl _ rfl (iC (λh=>(sno h (by decide)).elim) (λ_=>?_));refine jj _ rfl _ _ _ _ rfl rfl (SqT.of e) (hY (j:=0) rfl) rfl _ rfl (iC (λh=>(sno h (by decide)).elim) (λ_=>?_));exact k
   |@pair _ _ u w' l r e o1 o2=>
    refine jj _ rfl _ _ _ _ rfl rfl (SqT.of e) (hY (j:=0) rfl) rfl _ rfl (iC (λ_=>?_) (λh=>absurd rfl h));have a:=d;simp only [dep]at a;have c:(1+(nod l:Int)+(nod r:Int))=((nod l+nod r+1:Nat):Int):=by lia
    have k:Q (.int ((nod l+nod r+1:Nat):Int)) H:=k;rw[<-c]at k;exact i12 _ rfl _ _ _ _ rfl rfl (SqT.of e) (hY (j:=2) rfl) (fx u l rfl o1 (jN (by lia) _ _ rfl rfl (i12 _ rfl _ _ _ _ rfl rfl (SqT.of e) (hY (j:=3) rfl) (fx w' r rfl o2 (jN (by lia) _ _ rfl rfl k)))))
   |@guard _ _ _ _ u w' l r e o1 o2=>
    refine jj _ rfl _ _ _ _ rfl rfl (SqT.of e) (hY (j:=0) rfl) rfl _ rfl (iC (λh=>(sno h (by decide)).elim) (λ_=>?_));refine jj _ rfl _ _ _ _ rfl rfl (SqT.of e) (hY (j:=0) rfl) rfl _ rfl (iC (λ_=>?_) (λh=>absurd rfl h));have a:=d;simp only [dep]at a;have c:(1+(nod l:Int)+(nod r:Int))=((nod l+nod r+1:Nat):Int):=by lia
    have k:Q (.int ((nod l+nod r+1:Nat):Int)) H:=k;rw[<-c]at k;exact i12 _ rfl _ _ _ _ rfl rfl (SqT.of e) (hY (j:=4) rfl) (fx u l rfl o1 (jN (by lia) _ _ rfl rfl (i12 _ rfl _ _ _ _ rfl rfl (SqT.of e) (hY (j:=5) rfl) (fx w' r rfl o2 (jN (by lia) _ _ rfl rfl k)))))
def Er(A:Adr)(n:Nat):Sp:=λd H Q _=>∃(v:V)(u:Tm),d=[v]/\A9h H v u/\dep u<=n/\Gd u/\∀(c:V)(a:Hp),A0l H a->Ob A (jp (λb=>H b=none) a) c u->Q c a
theorem A7(T:Txt K mg t):∀n:Nat,A4q P w K mg base jY (n+6) t.eZ t.eR rW (Er t n)
 |0=>A4q.none (by rintro vs H Q E ⟨v,u,_,_,h,_⟩;have:=vt u;lia)
 |n+1=>by
  have Ga3:=A7 T n;refine T.bw.F.ok xE λ_ A _ s H _ Q E m h=>?_
  ·refine jC h ?_;clear h;rintro v u rfl tr Z ⟨L,k⟩;refine rsq (eg (iP (pkd 0) (fa (im (pmk T.fM (J9 T) m T.gw T.br.b (al (pit 0) eH)))) ⟨iJ⟩) (eg (iP (pkd 0) (fa (im (pmk T.gg (JX T) m T.gJ T.bI.b (al (pit 0) eH)))) ⟨iJ⟩) (eg (iP (pkd 0) (fa (im (pmk T.gH (JB T) m T.gU T.bL.b (al (pit 0) (al (oI vY (by rfl) T.bt pG (al (pit 0) eH)) eH))))) ⟨iJ⟩) (eg (iP (pkd 0) (fa (im (pmk T.gv (JT T) m T.gL T.bH.b (al (pit 0) (al (pit 0) (al (pit 0) (al (pcl Ga3 m T.bw (al (pit 0) eH)) (al (pcl Ga3 m T.bw (al (pit 0) eH)) eH)))))))) ⟨iJ⟩) (eg (iw 1 xE.nd (pcl Ga3 m T.bw (al (pit 0) eH))) (eg (iw 2 xE.nd (pcl Ga3 m T.bw (al (pit 0) eH))) (eg (iP (iT kS (pit 0) fe) (fa (im (pmk T.gM (xR T) m T.gX T.aU.b (al (pv 1) (fC 2))))) ⟨iJ⟩) (eg (iP (iT kS (pit 0) fe) (fa (im (pmk T.gy (xR T) m T.gI T.aU.b (al (pv 1) (fC 2))))) ⟨iJ⟩) (fa (im (pmk T.fY (xR T) m T.gF T.aU.b (al (pv 1) (fC 2))))))))))))) ?_
   cases tr with
   |num e=>refine jj _ rfl _ _ _ _ rfl rfl (SqT.of e) (hY (j:=0) rfl) rfl _ rfl (iC (λ_=>?_) (λh=>absurd rfl h));refine i12 _ rfl _ _ _ _ rfl rfl (SqT.of e) (hY (j:=1) rfl) λx d f c g=>(lh x _ d _ rfl dh T.e8 T.cX rfl ?_);exact k _ _ (qK f c) (.num (kj f dh))
   |place e=>refine jj _ rfl _ _ _ _ rfl rfl (SqT.of e) (hY (j:=0) rfl) rfl _ rfl (iC (λh=>(sno h (by decide)).elim) (λ_=>?_));refine jj _ rfl _ _ _ _ rfl rfl (SqT.of e) (hY (j:=0) rfl) rfl _ rfl (iC (λ_=>?_) (λh=>absurd rfl h));refine i12 _ rfl _ _ _ _ rfl rfl (SqT.of e) (hY (j:=1) rfl) λx d f c g=>(lh x _ d _ rfl dh T.eY T.dR rfl ?_);exact k _ _ (qK f c) (.place (kj f dh))
   |@read _ l arr ix e r=>
    refine jj _ rfl _ _ _ _ rfl rfl (SqT.of e) (hY (j:=0) rfl) rfl _ rfl (iC (λh=>(sno h (by decide)).elim) (λ_=>?_));refine jj _ rfl _ _ _ _ rfl rfl (SqT.of e) (hY (j:=0) rfl) rfl _ rfl (iC (λh=>(sno h (by decide)).elim) (λ_=>?_));refine jj _ rfl _ _ _ _ rfl rfl (SqT.of e) (hY (j:=0) rfl) rfl _ rfl (iC (λ_=>?_) (λh=>absurd rfl h));have L:ix.length<=100:=L
    cases r with
    |@lst _ iv _ hl ri=>
    refine i12 _ rfl _ _ _ _ rfl rfl (SqT.of e) (hY (j:=1) rfl) (i12 _ rfl _ _ _ _ rfl rfl (SqT.of e) (hY (j:=2) rfl) (fx l _ rfl (.inl (SqL.of hl)) λN W x d f c g=>?_));have y:A0l H (upd H N (.lst iv)):=eh W;have q:upd H N (.lst iv) N=some (.lst iv):=dh;generalize upd H N (.lst iv)=G1 at y q f c⊢;have p:A0l G1 (upd (upd G1 d (.own x)) x (.ins t.am d [])):=jn (eh c) f;have M:upd (upd G1 d (.own x)) x (.ins t.am d []) x=some (.ins t.am d []):=dh;generalize upd (upd G1 d (.own x)) x (.ins t.am d [])=G2 at p M⊢;refine⟨x,(jf d N arr ix rfl M (.lst (p _ _ q) (ri.same (y.trans p))) (by lia) λl' G3 Y U X=>⟨rfl,?_⟩)⟩;have v3:A0l G1 G3:=λb o e=>X b o (ik e f) (p _ _ e);exact k (.ref x) G3 (y.trans v3) (.read (kj (y.free f) Y) (U.same (pT (A0l.refl _) λa o _ h=>(y.trans p).free h)))
   |@pair _ kk u w' l r e o1 o2=>
    refine jj _ rfl _ _ _ _ rfl rfl (SqT.of e) (hY (j:=0) rfl) rfl _ rfl (iC (λh=>(sno h (by decide)).elim) (λ_=>?_));refine jj _ rfl _ _ _ _ rfl rfl (SqT.of e) (hY (j:=0) rfl) rfl _ rfl (iC (λh=>(sno h (by decide)).elim) (λ_=>?_));refine jj _ rfl _ _ _ _ rfl rfl (SqT.of e) (hY (j:=0) rfl) rfl _ rfl (iC (λh=>(sno h (by decide)).elim) (λ_=>?_));refine jj _ rfl _ _ _ _ rfl rfl (SqT.of e) (hY (j:=0) rfl) rfl _ rfl (iC (λh=>(sno h (by decide)).elim) (λ_=>?_));have G:=Z;simp only [dep]at G;refine i12 _ rfl _ _ _ _ rfl rfl (SqT.of e) (hY (j:=2) rfl) (jA u l rfl o1 (by lia) L.1 λy H1 i I=>?_);refine i12 _ rfl _ _ _ _ rfl rfl (SqT.of (i _ _ e)) (hY (j:=3) rfl) (jA w' r rfl (o2.same i) (by lia) L.2 λp R B C=>?_);have e2:=(i.trans B) _ _ e
    have D:∀(o:Op3)(x d:zW),wt kk=o->R x=none->R d=none->Q (.ref x) (upd (upd (upd R d (.own x)) x (.ins (rg t o) d [])) x (.ins (rg t o) d [("left",y),("right",p)])):=by intro o x d eo f c;subst eo;exact k (.ref x) _ (i.trans (B.trans (qK f c))) (.pair (kj ((i.trans B).free f) dh) (I.imp (mX (S:=λb=>H b=none) (B.trans (qK f c)))) (C.imp (pT (qK f c) λa o _ h=>i.free h)))
    refine jj _ rfl _ _ _ _ rfl rfl (SqT.of e2) (hY (j:=1) rfl) rfl _ rfl (iC (λJ=>?_) (λJ=>?_))
    ·exact jB _ rfl _ rfl λx d f c g=>(jk x _ d _ _ rfl dh (se T .plus) (va T .plus) (ve T .plus) ⟨rfl,D .plus x d (ia (V.int.inj J)) f c⟩)
    have J:¬kk=0:=λz=>J (by rw[z]);refine jj _ rfl _ _ _ _ rfl rfl (SqT.of e2) (hY (j:=1) rfl) rfl _ rfl (iC (λO=>?_) (λO=>?_))
    ·exact jB _ rfl _ rfl λx d f c g=>(jk x _ d _ _ rfl dh (se T .minus) (va T .minus) (ve T .minus) ⟨rfl,D .minus x d ((fy J).trans (ia (V.int.inj O))) f c⟩)
    have O:¬kk=1:=λz=>O (by rw[z]);exact jB _ rfl _ rfl λx d f c g=>(jk x _ d _ _ rfl dh (se T .times) (va T .times) (ve T .times) ⟨rfl,D .times x d ((fy J).trans (fy O)) f c⟩)
   |@guard _ _ _ _ u w' l r e o1 o2=>refine jj _ rfl _ _ _ _ rfl rfl (SqT.of e) (hY (j:=0) rfl) rfl _ rfl (iC (λh=>(sno h (by decide)).elim) (λ_=>?_));refine jj _ rfl _ _ _ _ rfl rfl (SqT.of e) (hY (j:=0) rfl) rfl _ rfl (iC (λh=>(sno h (by decide)).elim) (λ_=>?_));refine jj _ rfl _ _ _ _ rfl rfl (SqT.of e) (hY (j:=0) rfl) rfl _ rfl (iC (λh=>(sno h (by decide)).elim) (λ_=>?_));refine jj _ rfl _ _ _ _ rfl rfl (SqT.of e) (hY (j:=0) rfl) rfl _ rfl (iC (λ_=>?_) (λh=>absurd rfl h));have G:=Z;simp only [dep]at G;refine i12 _ rfl _ _ _ _ rfl rfl (SqT.of e) (hY (j:=1) rfl) (i12 _ rfl _ _ _ _ rfl rfl (SqT.of e) (hY (j:=2) rfl) (i12 _ rfl _ _ _ _ rfl rfl (SqT.of e) (hY (j:=3) rfl) (i12 _ rfl _ _ _ _ rfl rfl (SqT.of e) (hY (j:=4) rfl) (jA u l rfl o1 (by lia) L.1 λy H1 i I=>?_))));refine i12 _ rfl _ _ _ _ rfl rfl (SqT.of (i _ _ e)) (hY (j:=5) rfl) (jA w' r rfl (o2.same i) (by lia) L.2 λp R B C=>λx d f c g=>(lj x d _ (jo _ _ _ _ rfl dh rfl ?_)));exact k (.ref x) _ (i.trans (B.trans (qK f c))) (.guard (kj ((i.trans B).free f) dh) (I.imp (mX (S:=λb=>H b=none) (B.trans (qK f c)))) (C.imp (pT (qK f c) λa o _ h=>i.free h)))
structure wM(n:Nat)(L:zR)(u:Tm)(kvs:zJ):Prop where
 good:Gd u
 deep:dep u<=n
 at_:uV kvs u
 most:(rd L u (ai kvs)).length<=1000
def Es(n:Nat):Sp:=λb H Q _=>∃(v:V)(u:Tm)(d:zW)(a:zJ)(L:zR),b=[v,.ref d]/\A9h H v u/\H d=some (.dK a)/\wM n L u a/\RdQ H (rd L u (ai a)) Q
theorem BR(T:Txt K mg t):∀n:Nat,A4q P w K mg base jY n t.e7 t.ef ["_law_tree","_law_at"] (Es n)
 |0=>A4q.none (by (rintro vs H Q E zz;refine kF zz ?_;clear zz;rintro v u _ _ _ ⟨_,_,_,h,_⟩);have:=vt u;have:=h.deep;lia)
 |n+1=>by
  have Ga4:=BR T n;refine T.b9.F.ok vQ λ_ A _ s H _ Q E hr h=>?_
  ·refine kF h ?_;clear h;rintro v u d b L ⟨rfl,tr,O,⟨R,a0,m,f⟩,k⟩;have hu:=lF hr;refine rsq (eg (iP (pkd 0) (eg (iw 2 vQ.nd (@jF _ _ _ _ eH)) (eg (je (ju (pit 0)) (lK (n:=2) rfl (iY (ie (i:=3) vQ.nd) (iY (ie (i:=4) vQ.nd) lN))) (fa (iP (iT kS (pv 3) ip) (fa ⟨kU (lJ kQ nU nT nK (pv 2) (fC 4))⟩) (fa ⟨kU (lJ kQ nU nT nK (pv 2) (al (ib kI (iR hu (pv 1) (pv 3)) (pv 4)) eH))⟩)))) (fa (im (@jF _ _ _ _ (al (jd (al (pit 0) (al (oI sR (by rfl) T.aC nV (fC 2)) eH))) eH)))))) ⟨iJ⟩) (eg (iP (pkd 0) (fa (im (ib oT (pcl Ga4 hr T.b9 (al (pit 0) (fC 1))) (pcl Ga4 hr T.b9 (al (pit 0) (fC 1)))))) ⟨iJ⟩) (eg (iP (PW.pt (pO (pkd 0) (pO (iT qx (pit 0) (iR hu (pv 1) (pit 0))) (qF (iT yw (iR hu (pv 1) (pit 0)) (pit 0)))))) (fa (im (pcl Ga4 hr T.b9 (al (pit 0) (fC 1))))) ⟨iJ⟩) (eg (iP (pkd 0) (fa (im (pcl Ga4 hr T.b9 (al (pit 0) (fC 1))))) ⟨iJ⟩) (fa (im (@jF _ _ _ _ eH))))))) ?_
   cases tr with
   |num e=>refine jj _ rfl _ _ _ _ rfl rfl (SqT.of e) (hY (j:=0) rfl) rfl _ rfl (iC (λh=>(sno h (by decide)).elim) (λ_=>?_));refine jj _ rfl _ _ _ _ rfl rfl (SqT.of e) (hY (j:=0) rfl) rfl _ rfl (iC (λh=>(sno h (by decide)).elim) (λ_=>?_));refine jj _ rfl _ _ _ _ rfl rfl (SqT.of e) (hY (j:=0) rfl) rfl _ rfl (nj (λh=>(sno (of_decide_eq_true h) (by decide)).elim) (λ_=>jx ?_));refine jj _ rfl _ _ _ _ rfl rfl (SqT.of e) (hY (j:=0) rfl) rfl _ rfl (iC (λh=>(sno h (by decide)).elim) (λ_=>?_));exact⟨iq rfl,λp G=>k p [] _ G (eh G) dh .nil⟩
   |place e=>refine jj _ rfl _ _ _ _ rfl rfl (SqT.of e) (hY (j:=0) rfl) rfl _ rfl (iC (λh=>(sno h (by decide)).elim) (λ_=>?_));refine jj _ rfl _ _ _ _ rfl rfl (SqT.of e) (hY (j:=0) rfl) rfl _ rfl (iC (λh=>(sno h (by decide)).elim) (λ_=>?_));refine jj _ rfl _ _ _ _ rfl rfl (SqT.of e) (hY (j:=0) rfl) rfl _ rfl (nj (λh=>(sno (of_decide_eq_true h) (by decide)).elim) (λ_=>jx ?_));refine jj _ rfl _ _ _ _ rfl rfl (SqT.of e) (hY (j:=0) rfl) rfl _ rfl (iC (λh=>(sno h (by decide)).elim) (λ_=>?_));exact⟨iq rfl,λp G=>k p [] _ G (eh G) dh .nil⟩
   |@read a l x ix e r=>
    refine jj _ rfl _ _ _ _ rfl rfl (SqT.of e) (hY (j:=0) rfl) rfl _ rfl (iC (λ_=>?_) (λh=>absurd rfl h));have R:ix.length<=100:=R;obtain⟨_,es,q,el,rs⟩:=tZ (show Rep H (.ref l) (.list (ix.map mR)) from r);cases q;have hl:=rs.len;rw[hA]at hl;refine⟨iq rfl,λD hD=>?_⟩;have I:A0l H (upd H D (.lst [])):=eh hD;refine i12 _ rfl _ _ _ _ rfl rfl (SqT.of (I _ _ e)) (hY (j:=2) rfl) (hH l rfl ⟨_,SqL.of (I _ _ el)⟩ ?_);refine kr (K:=K) (a:=l) (xs:=es) (λi Z J=>∃(N W:zP),Z=[Sro a,Sro d,Sro D,N,W]/\A0l H J/\J D=some (.lst ((mF (ai b) (ix.take i)).map V.int))) (fx none none rfl I dh) (by rintro i Z J _ ⟨_,_,_,B,_⟩;exact SqL.of (B _ _ el)) ?_ ?_
    ·rintro i y Z J M ⟨N,W,rfl,B,C⟩;have Y:i<ix.length:=by have:=(iG.mp M).1;lia
     obtain⟨dd,a1,rx⟩:=rs.get2 M;have S:ix[i]?=some ix[i]:=jq Y;rw[jh,S]at a1;cases a1;obtain⟨q,rfl,eq⟩:=yU rx
     have X:∀(z:Int)(N W:zP),z=(if ix[i].1="" then ix[i].2 else ai b ix[i].1+ix[i].2)->w8 (V.ref D) [V.int z] J λ_ H3=>∃(a3 a5:zP),[some (V.ref a),some (.ref d),some (.ref D),N,W]=[some (.ref a),some (.ref d),some (.ref D),a3,a5]/\A0l H H3/\H3 D=some (.lst ((mF (ai b) (ix.take (i+1))).map V.int)):=by intro z N W ez;refine jv D _ _ rfl rfl C (jN (iM (by simp[mF];lia)) N W rfl (jn B hD) ?_);rw[dh,iF,S,iS,ez];unfold mF;rw[iK,iK];rfl
     refine mQ q _ rfl (SqT.of (B _ _ eq)) rfl _ _ rfl _ _ rfl rfl (lQ _ rfl rfl _ rfl (iC (λh0=>?_) (λh0=>?_)))
     ·exact lQ _ rfl (.inl (jI rfl _ (SqL.of C))) _ rfl (X _ _ _ (ia (V.str.inj h0)).symm)
     ·have hn:¬ix[i].1="":=λz=>h0 (by rw[z]);have g:=B0p.k (H:=J) (a:=d) (k:=Sum.inr ix[i].1) (B _ _ O);rw[m ix[i].1 (iV hn (ix[i]) (iZ S) rfl)]at g;exact hH _ rfl (.inl (jI rfl _ (SqL.of C))) (iU _ rfl _ rfl d _ rfl g (ii _ rfl _ _ rfl rfl (X _ _ _ (fy hn).symm)))
    ·rintro Z J ⟨N,W,rfl,B,C⟩;rw[hl,iQ]at C;refine i12 _ rfl _ _ _ _ rfl rfl (SqT.of (B _ _ e)) (hY (j:=1) rfl) ⟨_,(mw rfl D _ rfl (.inl ⟨SqL.of C,λp G=>?_⟩))⟩;refine⟨iq rfl,λq hq=>⟨iq rfl,λz hz=>?_⟩⟩;have s3:=eh (o:=.tup ((mF (ai b) ix).map V.int)) G;have s4:=eh (o:=.tup [.str x,.ref p]) hq;exact k z [.ref q] _ (B.free (s3.free (s4.free hz))) (B.trans (s3.trans (s4.trans (eh hz)))) dh (.cons (fx q p rfl (oW hz dh) (oW hz (s4 _ _ dh))) .nil)
   |@pair _ _ u w' l r e o1 o2=>refine jj _ rfl _ _ _ _ rfl rfl (SqT.of e) (hY (j:=0) rfl) rfl _ rfl (iC (λh=>(sno h (by decide)).elim) (λ_=>?_));refine jj _ rfl _ _ _ _ rfl rfl (SqT.of e) (hY (j:=0) rfl) rfl _ rfl (iC (λ_=>?_) (λh=>absurd rfl h));have U:=a0;simp only [dep]at U;simp only [rd,jc]at f;refine i12 _ rfl _ _ _ _ rfl rfl (SqT.of e) (hY (j:=2) rfl) (ah _ rfl ⟨u,(jf l d b L rfl o1 O ⟨R.1,by lia,λx hx=>m x (.inl hx),by lia⟩ λp1 a2 H1 a6 I h1 r1=>?_)⟩);refine i12 _ rfl _ _ _ _ rfl rfl (SqT.of (I _ _ e)) (hY (j:=3) rfl) (ah _ rfl ⟨w',(jf r d b L rfl (o2.same I) (I _ _ O) ⟨R.2,by lia,λx hx=>m x (.inr hx),by lia⟩ λp2 a4 J a7 B h2 r2=>?_)⟩);have l1:=Paired.length r1;have l2:=Paired.length r2;refine lh p1 p2 _ _ rfl rfl (B _ _ h1) h2 (lg (by lia)) λp G=>?_;have s3:=I.trans (B.trans (eh (o:=.lst (a2++a4)) G));exact k p _ _ (I.free (B.free G)) s3 dh (Paired.app (r1.same (B.trans (eh G))) (r2.same (eh G)))
   |@guard _ x lo Y u w' l r e o1 o2=>
    refine jj _ rfl _ _ _ _ rfl rfl (SqT.of e) (hY (j:=0) rfl) rfl _ rfl (iC (λh=>(sno h (by decide)).elim) (λ_=>?_));refine jj _ rfl _ _ _ _ rfl rfl (SqT.of e) (hY (j:=0) rfl) rfl _ rfl (iC (λh=>(sno h (by decide)).elim) (λ_=>?_));have U:=a0;simp only [dep]at U;have g:=B0p.k (H:=H) (a:=d) (k:=Sum.inr x) O;rw[m x (.inl rfl)]at g;by_cases c:lo<=ai b x/\ai b x<Y
    ·have er:rd L (.guard x lo Y l r) (ai b)=rd L l (ai b):=by simp only [rd];rw[ia c]
     rw[er]at k f;refine jj _ rfl _ _ _ _ rfl rfl (SqT.of e) (hY (j:=0) rfl) rfl _ rfl (nj (λ_=>?_) (λh=>absurd (kz rfl) h));refine i12 _ rfl _ _ _ _ rfl rfl (SqT.of e) (hY (j:=2) rfl) (mf _ rfl _ rfl _ _ _ _ rfl rfl (SqT.of e) (hY (j:=1) rfl) (fx d _ rfl g (lx _ _ rfl rfl _ rfl (nj (λ_=>?_) (λh=>absurd (kz c.1) h)))));refine mf _ rfl _ rfl _ _ _ _ rfl rfl (SqT.of e) (hY (j:=1) rfl) (fx d _ rfl g (i12 _ rfl _ _ _ _ rfl rfl (SqT.of e) (hY (j:=3) rfl) (lx _ _ rfl rfl _ rfl (iC (λ_=>?_) (λh=>absurd c.2 h)))));exact i12 _ rfl _ _ _ _ rfl rfl (SqT.of e) (hY (j:=4) rfl) (ah _ rfl ⟨u,(jf l d b L rfl o1 O ⟨R.1,by lia,λy M=>m y (.inr (.inl M)),f⟩ k)⟩)
    ·have er:rd L (.guard x lo Y l r) (ai b)=rd L r (ai b):=by simp only [rd];rw[fy c]
     rw[er]at k f;refine jj _ rfl _ _ _ _ rfl rfl (SqT.of e) (hY (j:=0) rfl) rfl _ rfl (nj (λ_=>?_) (λh=>absurd (kz rfl) h));refine i12 _ rfl _ _ _ _ rfl rfl (SqT.of e) (hY (j:=2) rfl) (mf _ rfl _ rfl _ _ _ _ rfl rfl (SqT.of e) (hY (j:=1) rfl) (fx d _ rfl g (lx _ _ rfl rfl _ rfl (nj (λh1=>?_) (λ_=>jx ?_)))))
     ·refine mf _ rfl _ rfl _ _ _ _ rfl rfl (SqT.of e) (hY (j:=1) rfl) (fx d _ rfl g (i12 _ rfl _ _ _ _ rfl rfl (SqT.of e) (hY (j:=3) rfl) (lx _ _ rfl rfl _ rfl (iC (λh2=>absurd ⟨of_decide_eq_true h1,h2⟩ c) (λ_=>?_)))));refine jj _ rfl _ _ _ _ rfl rfl (SqT.of e) (hY (j:=0) rfl) rfl _ rfl (iC (λ_=>?_) (λh=>absurd rfl h));exact i12 _ rfl _ _ _ _ rfl rfl (SqT.of e) (hY (j:=5) rfl) (ah _ rfl ⟨w',(jf r d b L rfl o2 O ⟨R.2,by lia,λy M=>m y (.inr (.inr M)),f⟩ k)⟩)
     ·refine jj _ rfl _ _ _ _ rfl rfl (SqT.of e) (hY (j:=0) rfl) rfl _ rfl (iC (λ_=>?_) (λh=>absurd rfl h));exact i12 _ rfl _ _ _ _ rfl rfl (SqT.of e) (hY (j:=5) rfl) (ah _ rfl ⟨w',(jf r d b L rfl o2 O ⟨R.2,by lia,λy M=>m y (.inr (.inr M)),f⟩ k)⟩)
structure Abt where
 ld:zW
 sh:zW
 own:Str
 ln:zW
 left:Int
 work:Int
 tb:zW
def abK(x:Abt):zJ:=[(Sum.inr "lengths",.ref x.ld),(Sum.inr "shapes",.ref x.sh),(Sum.inr "own",.str x.own),(Sum.inr "lines",.ref x.ln),(Sum.inr "left",.int x.left),(Sum.inr "work",.int x.work),(Sum.inr "tables",.ref x.tb)]
theorem wB{a b:Str}{r:zJ}(h:decide (a=b)=false):ic (((Sum.inr a:Key),v)::r) (Sum.inr b)=ic r (Sum.inr b):=mI (λz=>by injection z with z;rw[kz z]at h;cases h)
local macro_rules | `(tactic| walk_at"ab") => `(tactic| first |exact mP rfl |(refine(wB (by decide +kernel)).trans ?_; walk_at"ab"))
theorem xL(x:Abt):ic (abK x) (Sum.inr "lengths")=some (.ref x.ld):=by unfold abK;walk_at"ab"
theorem sJ(x:Abt):ic (abK x) (Sum.inr "shapes")=some (.ref x.sh):=by unfold abK;walk_at"ab"
theorem zi(x:Abt):ic (abK x) (Sum.inr "own")=some (.str x.own):=by unfold abK;walk_at"ab"
theorem E9(x:Abt):ic (abK x) (Sum.inr "lines")=some (.ref x.ln):=by unfold abK;walk_at"ab"
theorem xg(x:Abt):ic (abK x) (Sum.inr "left")=some (.int x.left):=by unfold abK;walk_at"ab"
theorem Ae(x:Abt):ic (abK x) (Sum.inr "work")=some (.int x.work):=by unfold abK;walk_at"ab"
structure B2d(lk:zJ)(L:zR)(nm:zC):Prop where
 eq:lk=nm.map λy=>((Sum.inr y:Key),V.int (L y))
 nd:nm.Nodup
 few:nm.length<=8
 ok:∀y∈nm,1<=L y/\L y<=60/\y≠""/\PyData.strOk y=true
theorem wY{L:zR}{y:Str}:∀{nm:zC},y∈nm->ic (nm.map λy=>((Sum.inr y:Key),V.int (L y))) (Sum.inr y)=some (.int (L y))
 |x::r,h=>by
  by_cases e:x=y
  ·subst e;exact mP rfl
  ·rw[iN,mI (λz=>e (Sum.inr.inj z))];exact wY ((jt.mp h).resolve_left (Ne.symm e))
theorem B2d.val(h:B2d lk L nm)(a:y∈nm):ic lk (Sum.inr y)=some (.int (L y)):=by rw[h.eq];exact wY a
structure C3c(H:Hp)(ab:zW)(x:Abt)(L:zR)(nm:zC)(es:zB):Prop where
 d:H ab=some (.dK (abK x))
 le:∃lk,H x.ld=some (.dK lk)/\B2d lk L nm
 sh:∃ak,H x.sh=some (.dK ak)/\AR (λb=>b≠x.ln) H ak es
 n1:ab≠x.sh
 n2:ab≠x.ld
 n3:x.sh≠x.ld
theorem C3c.ki{x:Abt}(h:C3c H ab x L nm es)(k:KI H H'):C3c H' ab x L nm es:=by obtain⟨d,⟨f,m,n⟩,⟨a,i,c⟩,e,o,l⟩:=h;exact⟨k.dk d,(ah f (k.dk m) n),(ah a (k.dk i) (Paired.mapP c (by rintro _ _ ⟨q,b,p,g,j⟩;exact jU q b p g (k.str j)))),e,o,l⟩
theorem C3c.get{x:Abt}(h:C3c H ab x L nm es){k:Str}(e:ic (abK x) (Sum.inr k)=some v):B0p H ab (.str k) (some v):=.inl (fx _ (Sum.inr k) (.inl h.d) rfl e.symm)
structure C8e(L:zR)(nm:zC)(es:zB):Prop where
 nd:(es.map (·.1)).Nodup
 ax:∀e∈es,AxN nm e.2
 pr:∀e∈es,jm (e.2.map L)<=60
 few:es.length<=100
 str:∀e∈es,PyData.strOk e.1=true
theorem vj{S:zV}{H:Hp}:∀{d:zJ}{es:zB},AR S H d es->(es.map (·.1)).Nodup->∀{e:Str×List Str},e∈es->∃b,ic d (Sum.inr e.1)=some (.ref b)/\S b/\H b=some (.lst (e.2.map V.str))
 |_,_,.nil,_,_,h=>by cases h
 |_,_,@Paired.cons _ _ _ p q ps qs r t,nd,e,h=>by
  obtain⟨a,b,j,f,g⟩:=r;rw[iN,qi]at nd;rcases jt.mp h with rfl|h
  ·exact hH b (by rw[<-j];exact mP a) f g
  ·obtain⟨c,i,k⟩:=vj t nd.2 h;exact ah c (by rw[mI (λz=>nd.1 (by rw[Sum.inr.inj (a.symm.trans z)];exact List.mem_map_of_mem h))];exact i) k
structure A9u(L:zR)(es:zB)(own:Str)(oy bs:zC)(n m:Nat)(u:Tm):Prop where
 gd:Gd u
 ax:Axs bs u
 fv:∀x,Fv u x->x∈bs
 dp:dep u<=n
 few:∀lf f,(rd lf u f).length<=m
 rin:∀lf f,∀r∈rd lf u f,∃ys,(r.1,ys)∈es/\Within r.2 (ys.map L)/\(r.1=own->A6j r.2 (oy.map f))
theorem A9u.num(L:zR)(es:zB)(own:Str)(oy a:zC)(n m:Nat)(z:Int)(h:1<=n):A9u L es own oy a n m (.num z):=⟨True.intro,True.intro,λ_ h=>h.elim,h,λ_ _=>jP _,λ_ _ r b=>by cases b⟩
theorem A9u.mono{a:zC}{c b:Nat}(h:A9u L es own oy a n m u)(d:n<=c)(e:m<=b):A9u L es own oy a c b u:=⟨h.gd,h.ax,h.fv,nO h.dp d,λg f=>nO (h.few g f) e,h.rin⟩
theorem A9u.place{a:zC}(b:x∈a)(h:1<=n):A9u L es own oy a n m (.place x):=⟨True.intro,b,λy h=>by rw[show y=x from h];exact b,h,λ_ _=>jP _,λ_ _ r c=>by cases c⟩
theorem A9u.pair{e:zC}{o:Op3}{a b:Tm}(h1:A9u L es own oy e n m a)(h2:A9u L es own oy e n m b):A9u L es own oy e (n+1) (m+m) (.pair o a b):=by
 have i:=h1.dp;have g:=h2.dp;refine⟨⟨h1.gd,h2.gd⟩,⟨h1.ax,h2.ax⟩,λx h=>h.elim (h1.fv x) (h2.fv x),?_,λd f=>?_,λd f r c=>?_⟩
 ·simp only [dep];lia
 ·simp only [rd,jc];have:=h1.few d f;have:=h2.few d f
  lia
 ·simp only [rd]at c;rcases ng.mp c with c|c
  ·exact h1.rin d f r c
  ·exact h2.rin d f r c
theorem A9u.guard{d:zC}{a b:Tm}(g:x∈d)(h1:A9u L es own oy d n m a)(h2:A9u L es own oy d n m b):A9u L es own oy d (n+1) (m+m) (.guard x lo hi a b):=by
 have j:=h1.dp;have i:=h2.dp;refine⟨⟨h1.gd,h2.gd⟩,(hQ g h1.ax h2.ax),λy h=>?_,?_,λc f=>?_,λc f r e=>?_⟩
 ·rcases h with h|h|h
  ·rw[show y=x from h];exact g
  ·exact h1.fv y h
  ·exact h2.fv y h
 ·simp only [dep];lia
 ·have:=h1.few c f;have:=h2.few c f;simp only [rd];split<;>lia
 ·simp only [rd]at e;split at e
  ·exact h1.rin c f r e
  ·exact h2.rin c f r e
def rc(L:zR)(a:zC)(e:Str×Int)(y:Str):Prop:=(e.1=""->0<=e.2/\e.2<L y)/\(e.1≠""->e.1∈a)
structure C5t(L:zR)(bs:zC)(a:Str)(ix:zL)(ys:zC)(i:Nat)(u:Tm):Prop where
 gd:Gd u
 ax:Axs bs u
 fv:∀x,Fv u x->x∈bs
 dp:dep u<=1+i
 rin:∀lf f,rd lf u f=[]\/(rd lf u f=[(a,mF f ix)]/\∀j e y,j<i->ix[j]?=some e->ys[j]?=some y->e.1≠""->0<=f e.1+e.2/\f e.1+e.2<L y)
theorem C5t.zero{c:zC}{a:Str}(p:Paired (rc L c) ix ys)(h:ix.length<=100):C5t L c a ix ys 0 (.read a ix):=by
 have q:∀e∈ix,e.1≠""->e.1∈c:=λe b=>by obtain⟨i,l⟩:=List.getElem?_of_mem b;obtain⟨y,_,z⟩:=ja p l;exact z.2
 refine⟨h,λe b=>?_,λx k=>?_,ig _,λm f=>.inr ⟨rfl,λj e y g=>absurd g (Nat.not_lt_zero _)⟩⟩
 ·by_cases z:e.1=""
  ·exact .inl z
  ·exact .inr (q e b z)
 ·obtain⟨d,e,b,rfl⟩:=k;exact q e b d
theorem C5t.skip{k:zC}{a:Str}{e:Str×Int}(h:C5t L k a ix ys i u)(o:ix[i]?=some e)(n:e.1=""):C5t L k a ix ys (i+1) u:=by
 have d:=h.dp;refine⟨h.gd,h.ax,h.fv,by lia,λl f=>(h.rin l f).imp id λz=>⟨z.1,λj m y q c p g=>?_⟩⟩;rcases Nat.lt_or_ge j i with b|b
 ·exact z.2 j m y b c p g
 ·have:j=i:=by lia
  subst this;rw[o]at c;cases c;exact absurd n g
theorem C5t.step{m:zC}{a:Str}{e:Str×Int}(h:C5t L m a ix ys i u)(t:ix[i]?=some e)(p:ys[i]?=some y)(n:e.1∈m)(z:Int):C5t L m a ix ys (i+1) (.guard e.1 (-e.2) (L y-e.2) u (.num z)):=by
 have d:=h.dp;refine⟨⟨h.gd,True.intro⟩,(hQ n h.ax True.intro),λx b=>?_,?_,λr f=>?_⟩
 ·rcases b with b|b|b
  ·rw[show x=e.1 from b];exact n
  ·exact h.fv x b
  ·exact b.elim
 ·simp only [dep];lia
 ·simp only [rd];split
  ·rename_i c;refine(h.rin r f).imp id λz=>⟨z.1,λj s q v l k o=>?_⟩;rcases Nat.lt_or_ge j i with g|g
   ·exact z.2 j s q g l k o
   ·have:j=i:=by lia
    subst this;rw[t]at l;rw[p]at k;cases l;cases k
    lia
  ·exact .inl rfl
theorem xt{f:zR}{k:Nat}{e:Str×Int}(h:ix[k]?=some e):(mF f ix)[k]?=some (if e.1="" then e.2 else f e.1+e.2):=by unfold mF;rw[jh,h];rfl
theorem C5t.done{j:zC}{a:Str}(h:C5t L j a ix ys ix.length u)(p:Paired (rc L j) ix ys)(v:ix.length<=3)(s:(a,ys)∈es)
  (t:a=own->∀f,A6j (mF f ix) (oy.map f)):A9u L es own oy j 4 1 u:=by
 have o:=Paired.length p;have d:=h.dp;refine⟨h.gd,h.ax,h.fv,by lia,λg f=>?_,λg f r b=>?_⟩
 ·rcases h.rin g f with z|z
  ·rw[z];exact jP _
  ·rw[z.1];exact ig _
 ·rcases h.rin g f with z|z
  ·rw[z]at b;cases b
  ·rw[z.1]at b;have b:=mL.mp b;subst b;refine hH ys s ⟨by unfold mF;rw[hA,hA,o],λk x n i m=>?_⟩ λe=>t e f
   have c:k<ix.length:=by
    have:=(iG.mp i).1;unfold mF at this
    rwa[hA]at this
   obtain⟨y,l,q⟩:=ja p (jq c);rw[xt (jq c)]at i;rw[jh,l]at m;cases i;cases m;by_cases e0:(ix[k]).1=""
   ·rw[ia e0];exact q.1 e0
   ·rw[fy e0];exact z.2 k _ y c (jq c) l e0
theorem Hk:kR xs (some (i:Int)) none=xs.drop i:=by
 unfold kR;have b:HT.sIx xs.length 0 (some (i:Int))=min i xs.length:=HT.sIx_nat _ _ _;have a:HT.sIx xs.length xs.length none=xs.length:=rfl;rw[b,a];rcases Nat.le_total i xs.length with h|h
 ·rw[Nat.min_eq_left h,sX (by rw[wj];exact ig _)]
 ·rw[Nat.min_eq_right h,List.drop_length,List.drop_of_length_le h,List.take_nil]
def IxV(H0 G:Hp):zM->List (Str×Int)->Prop:=Paired λ(v:V)(e:Str×Int)=>∃q,v=.ref q/\Nw H0 q/\G q=some (.tup [.str e.1,.int e.2])
theorem IxV.kt{ys:zM}(h:IxV H0 G ys ix)(k:KT G G'):IxV H0 G' ys ix:=Paired.mapP h (by rintro _ _ ⟨q,e,b,a⟩;exact hH q e b (k _ _ a))
theorem IxV.rep{ys:zM}(h:IxV H0 G ys ix):A5a (jp (Nw H0) G) ys (ix.map mR):=by
 unfold IxV at h
 induction h with
 |nil=>exact .nil
 |cons r _ ih=>obtain⟨q,rfl,b,a⟩:=r;exact .cons (.tup (kj b a) (.cons (.str _) (.cons (.int _) .nil))) ih
theorem KI.kt(k:KI H H'):KT H H':=λb a e=>k b _ (by intro n c z;cases z) e
theorem Gn{α:Type}{f:α->V}{ys:List α}:kR (ys.map f) none (some (-1))=ys.dropLast.map f:=by
 unfold kR;have b:HT.sIx (ys.map f).length 0 none=0:=rfl
 have a:HT.sIx (ys.map f).length (ys.map f).length (some (-1))=ys.length-1:=by
  rw[hA];show(if (-1:Int)<0 then ((-1:Int)+(ys.length:Int)).toNat else min (-1:Int).toNat ys.length)=_;rw[ia (by decide)]
  lia
 rw[b,a,List.drop_zero,Nat.sub_zero,<-List.map_take,List.dropLast_eq_take]
theorem u7:(0:Int)<10^(30:Int).toNat:=by decide+kernel
theorem wL{α β:Type}{F:α->β->Prop}:∀{a:List α}{b:List β}(n:Nat),Paired F a b->Paired F (a.drop n) (b.drop n)|_,_,0,h=>h|_,_,_+1,.nil=>.nil|_,_,n+1,.cons _ t=>wL n t
theorem HD{zs:zC}(b:zs[j]?=some y)(c:∀z∈zs,z≠""){w:Int}(l:w<0)(r:zL)(f:zR):A6j (mF f ((zs.take j).map (λz=>(z,(0:Int)))++[(y,w)]++r)) (zs.map f):=by
 have k:j<zs.length:=(iG.mp b).1;have a:((zs.take j).map λz=>(z,(0:Int))).length=j:=by rw[hA,iX];lia
 have h:((zs.take j).map (λz=>(z,(0:Int)))++[(y,w)]++r)[j]?=some (y,w):=by rw[lD (by rw[jc,a];simp),nP (by lia),a,Nat.sub_self];rfl
 refine jv j (f y+w) (f y) ?_ (by rw[jh,b];rfl) (by lia) λi g=>?_
 ·rw[xt h,fy (c y (iZ b))]
 ·have d:zs[i]?=some zs[i]:=jq (by lia)
  have e:((zs.take j).map (λz=>(z,(0:Int)))++[(y,w)]++r)[i]?=some (zs[i],0):=by rw[lD (by rw[jc,a];lia),lD (by lia),jh,List.getElem?_take_of_lt g,d];rfl
  rw[xt e,fy (c _ (List.getElem_mem _)),jh,d,Int.add_zero];rfl
theorem yR{L:zR}{a:zC}:∀{zs:zC},(∀z∈zs,z≠""/\z∈a)->Paired (rc L a) (zs.map λz=>(z,(0:Int))) zs| [],_=>.nil|z::r,h=>.cons ⟨λe=>absurd e (h z (.head _)).1,λ_=>(h z (.head _)).2⟩ (yR λy b=>h y (.tail _ b))
theorem He{α β:Type}{es:List (α×β)}{a:α}{x y:β}(b:(es.map (·.1)).Nodup)(h1:(a,x)∈es)(h2:(a,y)∈es):x=y:=by
 induction es with
 |nil=>cases h1
 |cons e r ih=>
  rw[iN,qi]at b;rcases jt.mp h1 with c|c<;>rcases jt.mp h2 with d|d
  ·rw[<-d]at c;exact(Prod.mk.inj c).2
  ·rw[<-c]at b;exact absurd (List.mem_map_of_mem (f:=(·.1)) d) b.1
  ·rw[<-d]at b;exact absurd (List.mem_map_of_mem (f:=(·.1)) c) b.1
  ·exact ih b.2 c d
def Av:Sp:=λi H Q _=>∃(D h b:zW)(j:zI)(x:Abt)(L:zR)(g:zC)(a:zB)(c d:zC),i=[.ref D,.ref h,.ref b]/\H D=some (.lst (j.map V.int))/\C3c H h x L g (a++[(x.own,c)])/\C8e L g (a++[(x.own,c)])/\H b=some (.lst (d.map V.str))/\(∀y∈d,y∈g)/\d.length<=100/\(∀y∈c,y∈d)/\
 ∀(v:V)(u:Tm)(f:zI)(e:Hp),A9u L (a++[(x.own,c)]) x.own c d 4 1 u->KI H e->e D=some (.lst (f.map V.int))->A9h (jp (Nw H) e) v u->Q v e
theorem HA(T:Txt K mg t):FO P w base T.dD 2 Av:=by
 refine T.dD.F.ok lZ λ_ A _ s H _ Q E hr h=>?_
 ·refine lC h ?_;clear h;rintro D ab b ms x L nm e7 oy ⟨U,rfl,hD,ap,ok,hb,m3,lb,j3,k⟩;have hu:=lF hr;generalize hes:e7++[(x.own,oy)]=es at ap ok k;have m1:=ok.few;refine rsq (eg (iw 3 lZ.nd (pcl (pW T) hr T.aA (fC 0))) (eg ⟨vz (i₀:=5) (N':=["_law_name"]) (ix:=(List.replicate 1 none)) lZ.nd rfl (.inl rfl) rfl (oj rfl (by decide+kernel) (by decide+kernel)) (og rfl) (xa (iR hu (pv 1) ip)) (λ_ _ _ _=>(ie (i:=0) GP)) (λ_ _ _ _=>(pv 0))⟩ ⟨@Am _ _ _ (@ua _ _ _ _ _ (@rf _ _ _ _ _ _ _ _ (iT kS (kN T.ao (al (iR hu (iR hu (pv 1) ip) (iR hu (pv 1) ip)) eH)) fe) (@lW _ _ _ (@jM _ _ 5 _ _ _ _ lZ.nd rfl (.inl rfl) (mW mV (pv 5) nI (lY (wN wS fe))) rfl (.inl rfl))) iJ) (@kP _ _ _ _ _ (@rf _ _ _ _ _ _ _ _ (iT kS (kN T.ao (fC 5)) fe) (@lW _ _ _ (@pP _ _ _ _ (jd (al ip (al (ib jL (pv 3) (ib tU fe fe)) eH))))) iJ) (@kP _ _ _ _ _ (@jM _ _ 6 _ _ _ _ lZ.nd rfl (.inl rfl) (jr kd (pv 5) (ib jL (pv 3) (kN T.ao (fC 5)))) rfl (.inl rfl)) (@kP _ _ _ _ _ (@jM _ _ 7 _ _ _ _ lZ.nd rfl (.inl rfl) (iR hu (iR hu (pv 1) ip) (pv 6)) rfl (.inl rfl)) (@kP _ _ _ _ _ (@jM _ _ 8 _ _ _ _ lZ.nd rfl (.inl rfl) (ib oT (pv 2) (@jF _ _ _ _ (al ip eH))) rfl (.inl rfl)) (@kP _ _ _ _ _ (@jM _ _ 9 _ _ _ _ lZ.nd rfl (.inl rfl) (@jF _ _ _ _ eH) rfl (.inl rfl)) (@kP _ _ _ _ _ (tV PassesOwn.never rfl (ju (pv 7)) (ie (i:=4) lZ.nd) (@kP _ _ _ _ _ (@jM _ _ 10 _ _ _ _ lZ.nd rfl (.inl rfl) (pcl (pW T) hr T.aA (fC 0)) rfl (.inl rfl)) (@kP _ _ _ _ _ (@jM _ _ 11 _ _ _ _ lZ.nd rfl (.inl rfl) (jr kd (pv 8) (ib jL (pv 10) (kN T.ao (fC 8)))) rfl (.inl rfl)) (@kP _ _ _ _ _ (@jM _ _ 12 _ _ _ _ lZ.nd rfl (.inl rfl) (ib oE (ib jL (ib lO (pv 10) fe) fe) fe) rfl (.inl rfl)) (@ua _ _ _ _ _ (@rf _ _ _ _ _ _ _ _ (iT kS (pv 11) ip) (@lW _ _ _ (@jM _ _ 12 _ _ _ _ lZ.nd rfl (.inl rfl) (ib jL (ib lO (pv 10) fe) (iR hu (iR hu (pv 1) ip) (pv 4))) rfl (.inl rfl))) iJ) (@lW _ _ _ (kU (lJ kQ nU nT nK (pv 9) (al (jd (al (pv 11) (fC 12))) eH))))))))) (@ua _ _ _ _ _ (@rf _ _ _ _ _ _ _ _ (iT kS (pv 6) (iR hu (pv 1) ip)) (@kP _ _ _ _ _ (@jM _ _ 13 _ _ _ _ lZ.nd rfl (.inl rfl) (ib jL (ib lO (pv 3) fe) (kN T.ao (fC 7))) rfl (.inl rfl)) (@lW _ _ _ (@jM _ _ 9 _ _ _ _ lZ.nd rfl (.inl rfl) (ib oT (ib oT (mH (N':=["_law_name"]) (ix:=(List.replicate 1 none)) rfl (oj rfl (by decide+kernel) (by decide+kernel)) (og rfl) (ju (mW mV (pv 7) nI (lY (pv 13)))) (λ_ _ _ _=>(ie (i:=0) Iq)) (λ_ _ _ _=>(jd (al (pv 0) (al fe eH))))) (@jF _ _ _ _ (al (jd (al (jr kd (pv 7) (pv 13)) (al (ib oE (wN wS fe) (ib jL (ib lO (pv 3) fe) fe)) eH))) eH))) (mW mV (pv 9) (lY (ib kI (pv 13) fe)) nI)) rfl (.inl rfl)))) iJ) (@kP _ _ _ _ _ (@jM _ _ 14 _ _ _ _ lZ.nd rfl (.inl rfl) (jd (al ip (al (pv 6) (fC 9)))) rfl (.inl rfl)) (@kP _ _ _ _ _ (tV PassesOwn.never rfl (FV rfl T.fq (al (pv 9) (fC 7))) (lK (n:=2) rfl (iY (ie (i:=15) lZ.nd) (iY (ie (i:=4) lZ.nd) lN))) (@lW _ _ _ (@rf _ _ _ _ _ _ _ _ (iT tN (pit 15) ip) (@kP _ _ _ _ _ (@jM _ _ 16 _ _ _ _ lZ.nd rfl (.inl rfl) (ib oE (iR hu (iR hu (pv 1) ip) (pv 4)) (pit 15)) rfl (.inl rfl)) (@lW _ _ _ (@jM _ _ 14 _ _ _ _ lZ.nd rfl (.inl rfl) (jd (al ip (al (pit 15) (al (wN wS (pit 15)) (al (pv 16) (al (pv 14) (al (jd (al ip (al (ib jL (pv 3) fe) eH))) eH))))))) rfl (.inl rfl)))) iJ))) (@lW _ _ _ (@pP _ _ _ _ (pv 14)))))))))))))⟩)) ?_;refine ii _ rfl D ms rfl hD λc h2 H1 l1 h1 o1 e1=>?_;have k1:=pS hD o1 e1;have a1:=ap.ki k1;obtain⟨lk,g6,c6⟩:=ap.le;obtain⟨ak,f6,ar⟩:=ap.sh;have b1:=k1.dk f6;have l3:AR (λb=>b≠x.ln) H1 ak es:=Paired.mapP ar (by rintro _ _ ⟨z1,b,z2,z3,z4⟩;exact jU z1 b z2 z3 (k1.str z4));have j6:=Paired.length ar;refine ii _ rfl ab _ rfl (a1.get (sJ x)) (fx x.sh ak rfl b1 λo K0 d4=>?_);have Ka:K0≠x.sh:=λz=>by subst z;rw[dh]at d4;cases d4
  refine sM (J:=Itd x.sh o ak) (D:=K0) ak.length (λi ys Hx=>A0l (upd H1 x.sh (.frz o (.dK ak))) Hx/\Hx K0=some (.lst ys)/\ys=((es.take i).map (·.1)).map V.str) (hQ (eh d4) dh rfl) (by rintro i ys Hx hi ⟨N,_⟩;exact⟨N _ _ dh,hi⟩) (by rintro ys Hx ⟨N,_⟩;exact⟨N _ _ dh,rfl⟩) ?_ ?_
  ·rintro i ys Hx hi ⟨sx,a8,rfl⟩ y Hy ⟨rfl,k',v,i7,rfl⟩;obtain⟨e,he,ek,_⟩:=ja ar i7;have ek:k'=Sum.inr e.1:=ek;subst ek;refine jI True.intro _ (ke rfl a8 (iM (by simp;lia)) (jn sx d4) dh ?_);rw[iF,he,iS,iK,iK];rfl
  rintro ys Hx ⟨sx,a8,rfl⟩;rw[j6,iQ]at a8;refine mi x.sh o _ (sx _ _ dh) (λo' u' z=>by have z:H x.sh=some (.frz o' u'):=z;rw[f6]at z;cases z) ?_;have st:A0l H1 (upd Hx x.sh (.dK ak)):=um b1 sx;have f4:upd Hx x.sh (.dK ak) K0=some (.lst ((es.map (·.1)).map V.str)):=by rw[dV Ka];exact a8
  generalize upd Hx x.sh (.dK ak)=H2 at st f4;clear sx a8;have k2:=k1.trans (KI.of st);have a2:=ap.ki k2;have d0:=st _ _ h1;obtain⟨co,j9,_,i3⟩:=vj (Paired.mapP l3 (by rintro _ _ ⟨z1,b,z2,z3,z4⟩;exact jU z1 b z2 z3 (st _ _ z4)):AR (λb=>b≠x.ln) H2 ak es) ok.nd (e:=(x.own,oy)) (by rw[<-hes];simp);have h7:B0p H2 x.sh (.str x.own) (some (.ref co)):=.inl (fx ak (Sum.inr x.own) (.inl (st _ _ b1)) rfl j9.symm)
  have g3:x.own∉e7.map (·.1):=by have:=ok.nd;rw[<-hes,iK,qj]at this;intro z;exact this.2.2 _ z _ (mL.mpr rfl) rfl
  refine ah (λZ H3=>∃(kl:zW)(kn:zC),Z=[Sro D,Sro ab,Sro b,Sio c,none,Sro kl,none,none,none,none,none,none,none,none,none,none,none]/\A0l H2 H3/\H3 kl=some (.lst (kn.map V.str))/\∀z∈kn,∃ys,(z,ys)∈es/\(z=x.own->oy≠[])) ?_ ?_
  ·refine ii _ rfl ab _ rfl (a2.get (sJ x)) (ii _ rfl ab _ rfl (a2.get (zi x)) (jV x.sh _ rfl (mw h7 co _ rfl (kE (.inl (SqL.of i3)) rfl _ rfl (iC (λY=>?_) (λY=>?_))))))
   ·refine ah _ rfl (iU _ rfl _ rfl K0 _ rfl (SqL.of f4) λp hp=>?_);refine iO p ((es.map (·.1)).dropLast) rfl (eh hp) (by rw[dh];exact congrArg (λz=>some (HO.lst z)) Gn) λz hz=>?_;have e2:(es.map (·.1)).dropLast=e7.map (·.1):=by rw[<-hes,iK];exact List.dropLast_concat
    rw[e2]at hz;obtain⟨e,he,rfl⟩:=kg.mp hz;exact ah e.2 (by rw[<-hes];exact qV _ he) λz=>absurd (by rw[<-z];exact hz) g3
   ·refine iO K0 (es.map (·.1)) rfl (A0l.refl _) f4 λz hz=>?_;obtain⟨e,he,rfl⟩:=kg.mp hz;exact ah e.2 he λ_ z=>Y (by rw[z];rfl)
  rintro Z H3 ⟨kl,kn,rfl,s3,e5,j0⟩;have k3:=k2.trans (KI.of s3);have a3:=ap.ki k3;have i2:=s3 _ _ d0;refine ii _ rfl kl _ rfl (.inl (SqL.of e5)) (iV rfl _ rfl (iC (λ_=>?_) (λe6=>?_)))
  ·refine me _ rfl _ _ rfl rfl (hQ (by decide) (by decide) (by decide)) _ _ rfl rfl u7 ⟨iq rfl,λp hp=>?_⟩;exact k (.ref p) (.num (c%10^(30:Int).toNat)) h2 _ (A9u.num _ _ _ _ _ _ _ _ (by decide)) (k3.trans (KI.of (eh hp))) ((eh hp) _ _ i2) (.num (kj (nF k3 hp) dh))
  have l4:0<kn.length:=by
   rcases Nat.eq_zero_or_pos kn.length with z|z
   ·exact absurd (by rw[hA,z];rfl) e6
   ·exact z
  obtain⟨l,i4,k7⟩:=qE (f:=V.str) (xs:=kn) (i:=c%(kn.length:Int)) (oq _ (by lia)) (pF _ (by lia));obtain⟨d,d6,g8⟩:=j0 l (iZ i4);refine ah _ rfl (iU _ rfl _ rfl kl _ rfl (.inl (SqL.of e5)) (iO _ _ rfl rfl (by show(0:Int)<((kn.map V.str).length:Int);rw[hA];lia) (jf kl _ _ _ rfl rfl (SqL.of e5) (by rw[hA];exact k7) ?_)));obtain⟨S,k5,_,f2⟩:=vj (Paired.mapP ar (by rintro _ _ ⟨z1,b,z2,z3,z4⟩;exact jU z1 b z2 z3 (k3.str z4)):AR (λb=>b≠x.ln) H3 ak es) ok.nd d6;have f2:H3 S=some (.lst (d.map V.str)):=f2;have gz:B0p H3 x.sh (.str l) (some (.ref S)):=.inl (fx ak (Sum.inr l) (.inl (k3.dk f6)) rfl k5.symm);have c5:=ok.ax _ d6;have l7:d.length<=3:=c5.few;refine ii _ rfl ab _ rfl (a3.get (sJ x)) (ii _ rfl x.sh _ rfl gz ?_);refine hH _ rfl (iq rfl) λel j7=>?_;have t3:A0l H3 (upd H3 el (.lst [.str ""])):=eh j7;refine lh b el _ _ rfl rfl (t3 _ _ (k3.str hb)) dh (lg (by rw[hA];show U.length+1<=1000000;lia)) λsl j8=>?_;have t4:A0l (upd H3 el (.lst [.str ""])) (upd (upd H3 el (.lst [.str ""])) sl (.lst (U.map V.str++[.str ""]))):=eh j8;have b8:upd (upd H3 el (.lst [.str ""])) sl (.lst (U.map V.str++[.str ""])) sl=some (.lst ((U++[("":Str)]).map V.str)):=by rw[dh,iK];rfl
  have d5:=t3.trans t4;generalize upd (upd H3 el (.lst [.str ""])) sl (.lst (U.map V.str++[.str ""]))=H4 at d5 b8;clear t3 t4;have k4:=k3.trans (KI.of d5);have f7:=d5 _ _ i2;have b6:=d5 _ _ f2;refine⟨iq rfl,λil B=>?_⟩;have g0:il≠D:=(ik f7 B).symm;have h8:il≠sl:=(ik b8 B).symm;have g7:il≠S:=(ik b6 B).symm;have g4:∀{bb:zW}{u:HO},(∀n xs,u≠.lst (V.int n::xs))->H bb=some u->bb≠il:=λn e=>ik (k4 _ _ n e) B;refine jg _ rfl S rfl ⟨_,SqL.of ((eh B) _ _ b6)⟩ ?_
  refine kr (K:=K) (a:=S) (xs:=d.map V.str) (λi Z H8=>∃(o4 b5 a7 b0:zP)(c1:zI)(ys:zM)(ix:zL),Z=[Sro D,Sro ab,Sro b,Sio c,o4,Sro kl,Sso l,Sro S,Sro sl,Sro il,b5,a7,b0,none,none,none,none]/\KI H H8/\H8 D=some (.lst (c1.map V.int))/\H8 sl=some (.lst ((U++[("":Str)]).map V.str))/\H8 S=some (.lst (d.map V.str))/\H8 il=some (.lst ys)/\IxV H H8 ys ix/\Paired (rc L U) ix (d.take i))
   (km none none (jk none none h2 [] [] rfl (k4.trans (KI.of (eh B))) ((eh B) _ _ f7) ((eh B) _ _ b8) ((eh B) _ _ b6) (hQ dh .nil .nil))) (by (rintro i Z H8 _ C;refine kF C ?_;clear C;rintro _ _ _ _ _ ⟨_,_,_,_,_,_,z,_⟩);exact SqL.of z) ?_ ?_
  ·rintro i y0 Z H8 j1 C;refine kF C ?_;clear C;rintro o4 b5 a7 b0 c1 ⟨ys,ix,rfl,k8,c9,d7,M,X,px,R⟩;obtain⟨y,hy,rfl⟩:=ko j1;refine ii _ rfl D c1 rfl c9 λc2 i9 H9 l9 h9 o9 e9=>?_;have c4:=pS c9 o9 e9;have b9:=c4.str d7;have a0:=c4.str M;have I:H9 il=some (.lst ys):=by rw[o9 il g0];exact X
   have b2:=px.kt c4.kt;have k9:=k8.trans c4;have lp:=Paired.length R;have i1:=Paired.length px;have l8:(d.take i).length<=3:=by rw[iX];lia
   obtain⟨a',j4,j5⟩:=qE (f:=V.str) (xs:=U++[("":Str)]) (i:=c2%((U++[("":Str)]).length:Int)) (oq _ (by simp<;>lia)) (pF _ (by simp<;>lia));refine ah _ rfl (iU _ rfl _ rfl sl _ rfl (.inl (SqL.of b9)) (iO _ _ rfl rfl (by show(0:Int)<(((U++[("":Str)]).map V.str).length:Int);simp<;>lia) (jf sl _ _ _ rfl rfl (SqL.of b9) (by rw[hA];exact j5) ?_)));refine me _ rfl _ _ rfl rfl ⟨by decide,by decide⟩ _ _ rfl rfl wD (fx _ _ rfl rfl ?_);have d2:=c5.sub y (iZ hy);have m2:=c6.ok y d2;refine ah (λZ G=>∃z:Int,Z=[Sro D,Sro ab,Sro b,Sio c,Sso y,Sro kl,Sso l,Sro S,Sro sl,Sro il,Sio c2,Sso a',Sio z,none,none,none,none]/\H9=G/\rc L U (a',z) y) ?_ ?_
   ·refine lQ _ rfl rfl _ rfl (iC (λY=>?_) (λY=>?_))
    ·have g:=B0p.k (H:=H9) (a:=x.ld) (k:=Sum.inr y) (k9.dk g6);rw[c6.val d2]at g;refine ii _ rfl _ _ rfl rfl ⟨⟨by decide,by decide⟩,(ii _ rfl ab _ rfl ((ap.ki k9).get (xL x)) (ii _ rfl x.ld _ rfl g (iO _ _ rfl rfl (by show(0:Int)<L y;lia) ?_)))⟩;exact ky _ rfl rfl (λ_=>⟨oq _ (by lia),pF _ (by lia)⟩) λz=>absurd (V.str.inj Y) z
    ·refine ky _ rfl rfl (λz=>absurd (by rw[show a'="" from z]) Y) λz=>?_;rcases ng.mp (iZ j4)with m|m
     ·exact m
     ·exact absurd (mL.mp m) z
   rintro Z G ⟨z,rfl,rfl,iz⟩;refine hH _ rfl (.inl (jI rfl _ (SqL.of I))) (jg _ rfl _ rfl (iq rfl) λq hq=>?_);have l0:Nw H q:=nF k9 hq;obtain⟨a6,O,b7,W⟩:=nH (o:=.tup [.str a',.int z]) hq
   try rw[W]
   have b3:=O _ _ I;refine jX il _ _ rfl rfl b3 (iM (by lia)) ?_;have up:∀{bb:zW}{u:HO},bb≠il->a6 bb=some u->upd a6 il (.lst (ys++[.ref q])) bb=some u:=λn e=>by rw[dV n];exact e
   have h6:KT a6 (upd a6 il (.lst (ys++[.ref q]))):=KT.at b3 (by intro xs z;cases z);refine km _ _ (jk _ _ i9 (ys++[.ref q]) (ix++[(a',z)]) rfl (λbb u n e=>up (g4 n e) (O _ _ (k9 _ _ n e))) (up g0.symm (O _ _ h9)) (up h8.symm (O _ _ b9)) (up g7.symm (O _ _ a0)) (hQ dh (jZ ((b2.kt (KT.same O)).kt h6) (.cons (hH q rfl l0 (h6 _ _ b7)) .nil)) ?_));rw[iF,hy,iS];exact jZ R (.cons iz .nil)
  rintro Z H8 C;refine kF C ?_;clear C;rintro o4 b5 a7 b0 c1 ⟨ys,ix,rfl,k8,c9,d7,M,X,px,R⟩;rw[hA,iQ]at R;have g9:Nw H il:=nF k4 B;refine ah (λZ G=>∃(e8:zP)(il:zW)(ys:zM)(ix:zL),Z=[Sro D,Sro ab,Sro b,Sio c,o4,Sro kl,Sso l,Sro S,Sro sl,Sro il,b5,a7,b0,e8,none,none,none]/\A0l H8 G/\Nw H il/\G il=some (.lst ys)/\IxV H G ys ix/\Paired (rc L U) ix d/\(l=x.own->∀f,A6j (mF f ix) (oy.map f))) ?_ ?_
  ·refine iU _ rfl _ rfl ab _ rfl ((ap.ki k8).get (zi x)) (iV rfl _ rfl (iC (λY=>?_) (λY=>(lh _ il ys ix rfl (A0l.refl _) g9 X px ⟨R,λz=>absurd (by rw[z]) Y⟩))));have d9:l=x.own:=V.str.inj Y;have f1:d=oy:=He ok.nd (d9▸d6) (by rw[<-hes];simp)
   have l6:0<d.length:=by
    rcases Nat.eq_zero_or_pos d.length with z|z
    ·exact absurd (f1▸List.eq_nil_of_length_eq_zero z) (g8 d9)
    ·exact z
   have c7:∀z∈d,z≠""/\z∈U:=λz hz=>⟨(c6.ok z (c5.sub z hz)).2.2.1,j3 z (f1▸hz)⟩;refine ii _ rfl _ _ rfl rfl ⟨⟨by decide,by decide⟩,(ii _ rfl S _ rfl (.inl (SqL.of M)) (iO _ _ rfl rfl (by show(0:Int)<((d.map V.str).length:Int);rw[hA];lia) ?_))⟩;rw[hA];obtain⟨j,ej⟩:∃j:Nat,c/16%(d.length:Int)=(j:Int):=⟨_,(Int.toNat_of_nonneg (oq _ (by lia))).symm⟩;have hj:j<d.length:=by have:=pF (c/16) (show(0:Int)<(d.length:Int)by lia);lia
   show nX 13 (V.int (c/16%(d.length:Int))) _ _ _;rw[ej];have h4:d[j]?=some d[j]:=jq hj;refine ah _ rfl (iU _ rfl _ rfl S _ rfl (SqL.of M) λp hp=>?_);have r:A0l H8 (upd H8 p (.lst (kR (d.map V.str) none (some (j:Int))))):=eh hp;have a9:upd H8 p (.lst (kR (d.map V.str) none (some (j:Int)))) p=some (.lst ((d.take j).map V.str)):=by rw[dh];exact congrArg (λz=>some (HO.lst z)) sk
   generalize upd H8 p (.lst (kR (d.map V.str) none (some (j:Int))))=G1 at r a9;refine hH p rfl ⟨_,SqL.of a9⟩ λD2 d0=>?_;refine pB (K:=K) (a:=p) (D:=D2) (xs:=(d.take j).map V.str) (λi vs G=>A0l G1 G/\G D2=some (.lst vs)/\IxV H G vs (((d.take j).take i).map λz=>(z,(0:Int)))) (hQ (eh d0) dh .nil) (by rintro i vs G ⟨N,_⟩;exact SqL.of (N _ _ a9)) ?_ ?_
   ·rintro i v vs G hv ⟨sG,hG,iv⟩;obtain⟨z,hz,rfl⟩:=ko hv;have li:=Paired.length iv;refine jU True.intro _ rfl (iq rfl) λq hq=>?_;have O:A0l G (upd G q (.tup [.str z,.int 0])):=eh hq;have kq:KT (upd G q (.tup [.str z,.int 0])) (upd (upd G q (.tup [.str z,.int 0])) D2 (.lst (vs++[.ref q]))):=KT.at (O _ _ hG) (by intro xs z;cases z);refine jH (O _ _ hG) (iM (by rw[li,hA,iX,iX];lia)) (jn (sG.trans O) d0) dh ?_;rw[iF,hz,iS,iK];exact jZ ((iv.kt (KT.same O)).kt kq) (.cons (hH q rfl (nF (k8.trans (KI.of (r.trans sG))) hq) (kq _ _ dh)) .nil)
   rintro vs G ⟨sG,hG,iv⟩;rw[hA,iQ]at iv;have e4:=r.trans sG;have i6:=Paired.length iv;rw[hA,iX]at i6;refine mf _ rfl _ rfl S _ _ _ rfl rfl (SqL.of (e4 _ _ M)) (show atI (d.map V.str) (j:Int)=some (.str d[j]) from hY (by rw[jh,h4];rfl)) (ah _ rfl (me _ rfl _ _ rfl rfl ⟨by decide,by decide⟩ _ _ rfl rfl uY (iO _ _ rfl rfl (iq rfl) λq hq=>⟨iq rfl,λql d3=>?_⟩)));show wC (.ref D2) (.ref ql) (upd (upd G q (.tup [.str d[j],.int (-1-c/64%2)])) ql (.lst [.ref q])) _;have d3:upd G q (.tup [.str d[j],.int (-1-c/64%2)]) ql=none:=d3;have O:A0l G (upd (upd G q (.tup [.str d[j],.int (-1-c/64%2)])) ql (.lst [.ref q])):=(eh hq).trans (eh d3);have b7:upd (upd G q (.tup [.str d[j],.int (-1-c/64%2)])) ql (.lst [.ref q]) q=some (.tup [.str d[j],.int (-1-c/64%2)]):=oW d3 dh;have d8:upd (upd G q (.tup [.str d[j],.int (-1-c/64%2)])) ql (.lst [.ref q]) ql=some (.lst [.ref q]):=dh;generalize upd (upd G q (.tup [.str d[j],.int (-1-c/64%2)])) ql (.lst [.ref q])=G2 at O b7 d8;have hw: -1-c/64%2<0:=by lia
   generalize -1-c/64%2=ww at b7 hw;refine lh D2 ql _ _ rfl rfl (O _ _ hG) d8 (lg (by simp;lia)) λp1 a9=>?_;obtain⟨G3,s1,g1,W⟩:=nH (o:=.lst (vs++[.ref q])) a9
   try rw[W]
   have i0:=e4.trans (O.trans s1);have m4:=Paired.length px;have l5:=Paired.length R;refine iU _ rfl _ rfl _ _ rfl rfl (ii _ rfl il _ rfl (SqL.of (i0 _ _ X)) λp2 e3=>?_);have e2:kR ys (some ((j:Int)+1)) none=ys.drop (j+1):=Hk (i:=j+1);show wC (.ref p1) (.ref p2) (upd G3 p2 (.lst (kR ys (some ((j:Int)+1)) none))) _;rw[e2];obtain⟨G4,N,g2,W⟩:=nH (o:=.lst (ys.drop (j+1))) e3
   try rw[W]
   refine lh p1 p2 _ _ rfl rfl (N _ _ g1) g2 (lg (by simp;lia)) λp3 f9=>?_;have s3:A0l G4 (upd G4 p3 (.lst (vs++[.ref q]++ys.drop (j+1)))):=eh f9;have f5:=i0.trans N;have k6:KT G (upd G4 p3 (.lst (vs++[.ref q]++ys.drop (j+1)))):=KT.same (O.trans (s1.trans (N.trans s3)));refine lh _ p3 _ ((d.take j).map (λz=>(z,(0:Int)))++[(d[j],ww)]++ix.drop (j+1)) rfl (f5.trans s3) (nF (k8.trans (KI.of f5)) f9) dh (jZ (jZ (iv.kt k6) (.cons (hH q rfl (nF (k8.trans (KI.of e4)) hq) ((s1.trans (N.trans s3)) _ _ b7)) .nil)) (wL _ (px.kt (KT.same (f5.trans s3))))) ⟨?_,λ_ f=>by rw[<-f1];exact HD h4 (λz hz=>(c7 z hz).1) hw _ f⟩
   have ez:d=d.take j++[d[j]]++d.drop (j+1):=by rw[nR];show d=d.take j++(d[j]::d.drop (j+1));rw[<-uH hj,sY]
   have pz:Paired (rc L U) ((d.take j).map (λz=>(z,(0:Int)))++[(d[j],ww)]++ix.drop (j+1)) (d.take j++[d[j]]++d.drop (j+1)):=jZ (jZ (yR λz hz=>c7 z (nw hz)) (.cons ⟨λz=>absurd z (c7 _ (List.getElem_mem _)).1,λ_=>(c7 _ (List.getElem_mem _)).2⟩ .nil)) (wL _ R)
   rwa[<-ez]at pz
  rintro Z H9 C;refine jy C ?_;clear C;rintro e8 il ys ix rfl s9 h5 ⟨I,b2,a4,i5⟩;have k9:=k8.trans (KI.of s9);have a0:=s9 _ _ M;have i1:=Paired.length b2;have m5:=Paired.length a4;have h3:ix.length<=100:=by lia
  refine jg _ rfl _ rfl (iq rfl) λp hp=>?_;have r:A0l H9 (upd H9 p (.tup [.str "read",.str l,.ref il])):=eh hp;have rp:Rep (jp (Nw H) H9) (.ref il) (nZ ix):=.lst (kj h5 I) b2.rep;have f8:A9h (jp (Nw H) (upd H9 p (.tup [.str "read",.str l,.ref il]))) (.ref p) (.read l ix):=.read (kj (nF k9 hp) dh) (rp.same (mX r));generalize upd H9 p (.tup [.str "read",.str l,.ref il])=a6 at r f8;have g5:=k9.trans (KI.of r);refine jB _ rfl _ rfl (jo il S _ _ rfl (SqL.of (r _ _ I)) (SqL.of (r _ _ a0)) ?_)
  refine Fp (K:=K) (a:=il) (b:=S) (xs:=ys) (ys:=d.map V.str) (λi Z G=>∃(o4 f0 f3:zP)(v:V)(u:Tm),Z=[Sro D,Sro ab,Sro b,Sio c,o4,Sro kl,Sso l,Sro S,Sro sl,Sro il,b5,a7,b0,e8,some v,f0,f3]/\A0l a6 G/\A9h (jp (Nw H) G) v u/\C5t L U l ix d i u)
   ⟨o4,(jo none none _ _ rfl (A0l.refl _) f8 (C5t.zero a4 h3))⟩ (by (rintro i Z G C;refine kF C ?_;clear C;rintro _ _ _ _ _ ⟨_,N,_⟩);exact⟨SqL.of (N _ _ (r _ _ I)),SqL.of (N _ _ (r _ _ a0))⟩) (by rw[hA];lia) ?_ ?_
  ·rintro i v1 v2 Z G p2 k0 j2 C;refine kF C ?_;clear C;rintro o4 f0 f3 v u ⟨rfl,sG,tr,c0⟩ e3;obtain⟨e,he,qe,rfl,_,l2⟩:=ja b2 k0;obtain⟨y,hy,rfl⟩:=ko j2;obtain⟨G1,N,i8,W⟩:=nH (o:=.tup [.ref qe,.str y]) e3
   try rw[W]
   have c8:=sG.trans N;have d1:=c8 _ _ (r _ _ l2);have a5:=g5.trans (KI.of c8);refine mQ p2 _ rfl (SqT.of i8) rfl _ _ rfl _ _ rfl rfl (jj _ rfl qe _ _ _ rfl rfl (SqT.of d1) (hY (j:=0) rfl) rfl _ rfl (u9 (λY=>?_) (λY=>?_)))
   ·have e6:e.1≠"":=λz=>Y (by rw[z]);obtain⟨y',m0,iy⟩:=ja a4 he;have d2:=c5.sub y (iZ hy);have g:=B0p.k (H:=G1) (a:=x.ld) (k:=Sum.inr y) (a5.dk g6);rw[c6.val d2]at g;refine ii _ rfl ab _ rfl ((ap.ki a5).get (xL x)) (ii _ rfl x.ld _ rfl g (i12 _ rfl qe _ _ _ rfl rfl (SqT.of d1) (hY (j:=1) rfl) (fx _ _ rfl rfl ?_)));refine i12 _ rfl qe _ _ _ rfl rfl (SqT.of d1) (hY (j:=0) rfl) (i12 _ rfl qe _ _ _ rfl rfl (SqT.of d1) (hY (j:=1) rfl) (jB _ rfl _ rfl (jB _ rfl _ rfl (jA _ _ rfl rfl z_70 (iq rfl) λq1 b4=>⟨iq rfl,λq2 c3=>?_⟩))));have c3:upd G1 q1 (.tup [.str "number",.int (c%7)]) q2=none:=c3;have s3:A0l G1 (upd (upd G1 q1 (.tup [.str "number",.int (c%7)])) q2 (.tup [.str "guard",.str e.1,.int (-e.2),.int (L y-e.2),v,.ref q1])):=(eh b4).trans (eh c3);exact⟨_,(jo _ _ (.ref q2) (.guard e.1 (-e.2) (L y-e.2) u (.num (c%7))) rfl (c8.trans s3) (.guard (kj (nF (a5.trans (KI.of (eh b4))) c3) dh) (tr.same (mX (N.trans s3))) (.num (kj (nF a5 b4) (oW c3 dh)))) (c0.step he hy (iy.2 e6) _))⟩
   ·have e0:e.1="":=by injection Y
    exact⟨_,(jo _ _ v u rfl c8 (tr.same (mX N)) (c0.skip he e0))⟩
  ·rintro Z G C;refine kF C ?_;clear C;rintro o4 f0 f3 v u ⟨rfl,sG,tr,c0⟩;rw[i1]at c0;have a5:=g5.trans (KI.of sG);exact ah _ rfl (k v u c1 G (c0.done a4 (by lia) d6 i5) a5 (sG _ _ (r _ _ (s9 _ _ c9))) tr)
def xB(n:Nat):Sp:=λi H Q _=>∃(D h b:zW)(j:zI)(x:Abt)(L:zR)(g:zC)(a:zB)(c d:zC),i=[.ref D,.ref h,.ref b,.int (n:Nat)]/\H D=some (.lst (j.map V.int))/\C3c H h x L g (a++[(x.own,c)])/\C8e L g (a++[(x.own,c)])/\H b=some (.lst (d.map V.str))/\(∀y∈d,y∈g)/\d.length<=100/\(∀y∈c,y∈d)/\
 ∀(v:V)(u:Tm)(f:zI)(e:Hp),A9u L (a++[(x.own,c)]) x.own c d (n+4) (2^n) u->KI H e->e D=some (.lst (f.map V.int))->A9h (jp (Nw H) e) v u->Q v e
theorem yu{H1:Hp}(k:KI H H1)(r:A9h (jp (Nw H1) H2) v u):A9h (jp (Nw H) H2) v u:=r.same λb o e=>kj ((jT e).1.up k) (jT e).2
theorem BK(T:Txt K mg t){sp':Sp}(hm:2<=m)(Ga5:A4q P w K mg base jY m t.c8 t.c6 tK sp')(hs:1<=n->∀vs H Q,xB (n-1) vs H Q E0->sp' vs H Q E0):A4q P w K mg base jY (m+1) t.c8 t.c6 tK (xB n):=by
 refine T.bZ.F.ok rK λ_ A _ s H _ Q E hr h=>?_
 ·refine lC h ?_;clear h;rintro D C b ms x L nm U oy ⟨q,rfl,hD,ap,ok,hb,a0,lb,a6,k⟩;have hu:=lF hr;have p2:1<=2^n:=Nat.pow_pos (by decide);refine rsq (eg (iw 4 rK.nd (pcl (pW T) hr T.aA (fC 0))) (eg (iw 5 rK.nd (ib jL (pv 4) fe)) (mY (iP (PW.pt (pO (iT kS (pv 3) fe) (qF (iT qo (pv 5) fe)))) (fa (iw 5 rK.nd fe)) ⟨iJ⟩) (mY (iP (PW.pt (pe (iT kS (pv 5) fe) (rq (iT kS (pv 5) fe)))) (fa (im (pcl (HA T) hr T.dD (al (pv 0) (al (pv 1) (fC 2)))))) ⟨iJ⟩) (mY (iP (PW.pt (pe (iT kS (pv 5) fe) (rq (PW.pt (pO (iT kS (kN T.ao (fC 2)) fe) (qF (iT tN (pv 5) fe))))))) (fa (im (jd (al ip (al (ib jL (ib lO (pv 4) fe) (ib tU fe fe)) eH))))) ⟨iJ⟩) (mY (iP (iT kS (pv 5) fe) (fa (im (jd (al ip (al (jr kd (pv 2) (ib jL (ib lO (pv 4) fe) (kN T.ao (fC 2)))) eH))))) ⟨iJ⟩) (eg (iw 6 rK.nd (pcl Ga5 hr T.bZ (al (pv 0) (al (pv 1) (al (pv 2) (al (ib oE (pv 3) fe) eH)))))) (eg (iw 7 rK.nd (pcl Ga5 hr T.bZ (al (pv 0) (al (pv 1) (al (pv 2) (al (ib oE (pv 3) fe) eH)))))) (mY (iP (iT kS (pv 5) fe) (fa (im (jd (al ip (al (ib jL (ib lO (pv 4) fe) fe) (al (pv 6) (fC 7))))))) ⟨iJ⟩) (eg (iw 8 rK.nd (ib jL (ib lO (pv 4) fe) fe)) (fa (im (jd (al ip (al (jr kd (pv 2) (ib jL (ib lO (pv 4) fe) (kN T.ao (fC 2)))) (al (pv 8) (al (ib kI (pv 8) (ib jL (ib lO (pv 4) fe) fe)) (al (pv 6) (fC 7))))))))))))))))))) ?_;refine ii _ rfl D ms rfl hD λc B X l1 h1 o1 e1=>?_;have l:=pS hD o1 e1;have a1:=ap.ki l;have G:=l.str hb;refine ii _ rfl _ _ rfl rfl ⟨z_60,?_⟩;refine ah (λZ j=>∃a:Int,Z=[Sro D,Sro C,Sro b,Sio (n:Nat),Sio c,Sio a,none,none,none]/\X=j/\(n=0->a<=3)/\0<=a/\a<=5) ?_ ?_
  ·refine lQ _ rfl rfl _ rfl (nj (λW=>(ah _ rfl (lx _ _ rfl rfl _ rfl (iC (λY=>⟨2,(jH rfl rfl (by lia) (by lia) (by lia))⟩) (λY=>⟨_,(jH rfl rfl (λ_=>?_) (by lia) (by lia))⟩))))) (λW=>jx ⟨_,(jH rfl rfl (λz=>absurd (kz (by rw[z];rfl)) W) (by lia) (by lia))⟩));have Y:¬3<c%6:=Y
   lia
  rintro Z j ⟨a,rfl,rfl,wn,w0,w5⟩;refine ah (λZ j=>Z=[Sro D,Sro C,Sro b,Sio (n:Nat),Sio c,Sio a,none,none,none]/\X=j/\a≠2/\a≠3) ?_ ?_
  ·have a3:Av [.ref D,.ref C,.ref b] X Q E0:=(lj D C b ⟨B,(lu x L nm U oy q rfl h1 a1 ok G a0 lb a6 λv u r R M ki b5 tr=>k v u r R (M.mono (by lia) (by lia)) (l.trans ki) b5 (yu l tr))⟩);refine lQ _ rfl rfl _ rfl (iC (λY=>qY ?_) (λY=>(lQ _ rfl rfl _ rfl (iC (λh3=>?_) (λh3=>(jO rfl rfl (λz=>Y (by rw[z])) λz=>h3 (by rw[z])))))))
   ·exact ah _ rfl (jB _ rfl _ rfl a3)
   ·exact ah _ rfl (jB _ rfl _ rfl a3)
  rintro Z j ⟨rfl,rfl,w2,w3⟩;refine ah (λZ j=>Z=[Sro D,Sro C,Sro b,Sio (n:Nat),Sio c,Sio a,none,none,none]/\X=j/\a≠0/\(q=[]->a=4)) ?_ ?_
  ·refine lQ _ rfl rfl _ rfl (iC (λW=>qY ?_) (λW=>(ii _ rfl b _ rfl (.inl (SqL.of G)) (iV rfl _ rfl (nj (λhz=>(lQ _ rfl rfl _ rfl (u9 (λh4=>?_) (λh4=>(jO rfl rfl (λz=>W (by rw[z])) λ_=>V.int.inj h4))))) (λhz=>jx (jO rfl rfl (λz=>W (by rw[z])) λz=>absurd (kz (by rw[z];rfl)) hz)))))))
   ·refine me _ rfl _ _ rfl rfl ⟨by decide,by decide⟩ _ _ rfl rfl (hQ (by decide) (by decide) (by decide)) (jA _ _ rfl rfl u7 (iq rfl) λp g=>?_);exact k (.ref p) (.num _) B _ (A9u.num _ _ _ _ _ _ _ _ (by lia)) (l.trans (KI.of (eh g))) ((eh g) _ _ h1) (.num (kj (nF l g) dh))
   ·refine me _ rfl _ _ rfl rfl ⟨by decide,by decide⟩ _ _ rfl rfl (hQ (by decide) (by decide) (by decide)) (jA _ _ rfl rfl u7 (iq rfl) λp g=>?_);exact k (.ref p) (.num _) B _ (A9u.num _ _ _ _ _ _ _ _ (by lia)) (l.trans (KI.of (eh g))) ((eh g) _ _ h1) (.num (kj (nF l g) dh))
  rintro Z j ⟨rfl,rfl,b6,w4⟩
  have a7:a≠4->∃O:Str,O∈q/\(0:Int)<((q.map V.str).length:Int)/\atI (q.map V.str) (c/6%((q.map V.str).length:Int))=some (.str O):=λhw=>by
   have J:0<q.length:=by
    rcases Nat.eq_zero_or_pos q.length with z|z
    ·exact absurd (w4 (List.eq_nil_of_length_eq_zero z)) hw
    ·exact z
   obtain⟨O,ha,ea⟩:=qE (f:=V.str) (xs:=q) (i:=c/6%(q.length:Int)) (oq _ (by lia)) (pF _ (by lia));exact hH O (iZ ha) (by rw[hA];lia) (by rw[hA];exact ea)
  refine ah (λZ j=>Z=[Sro D,Sro C,Sro b,Sio (n:Nat),Sio c,Sio a,none,none,none]/\X=j/\a≠1) ?_ ?_
  ·refine lQ _ rfl rfl _ rfl (iC (λS=>?_) (λS=>(hQ rfl rfl λz=>S (by rw[z]))));have e1:a=1:=V.int.inj S;obtain⟨O,ma,J,ea⟩:=a7 (by lia);refine iU _ rfl _ rfl _ _ rfl rfl ⟨⟨by decide,by decide⟩,(ii _ rfl b _ rfl (.inl (SqL.of G)) (iO _ _ rfl rfl J (lh b _ _ _ rfl rfl (SqL.of G) ea (iq rfl) λp g=>?_)))⟩;exact k (.ref p) (.place O) B _ (A9u.place ma (by lia)) (l.trans (KI.of (eh g))) ((eh g) _ _ h1) (.place (kj (nF l g) dh))
  rintro Z j ⟨rfl,rfl,w1⟩
  have n1:1<=n:=by
   rcases Nat.eq_zero_or_pos n with z|z
   ·have:=wn z;lia
   ·exact z
  have en:(((n:Nat):Int)-1)=((n-1:Nat):Int):=by lia
  have pw:2^(n-1)+2^(n-1)=2^n:=by
   have e:2^n=2^(n-1)*2:=by rw[<-Nat.pow_succ];congr 1;lia
   lia
  have dn:n-1+4+1=n+4:=by lia
  have N:∀(r:zI)(H3:Hp)(Q':VK),H3 D=some (.lst (r.map V.int))->KI H H3->(∀(v:V)(u:Tm)(y:zI)(R:Hp),A9u L (U++[(x.own,oy)]) x.own oy q (n-1+4) (2^(n-1)) u->KI H3 R->R D=some (.lst (y.map V.int))->A9h (jp (Nw H) R) v u->Q' v R)->sp' [.ref D,.ref C,.ref b,.int ((n:Nat)-1)] H3 Q' E0:=λr H3 Q' b4 k3 kk=>by rw[en];exact hs n1 _ _ _ (lj D C b ⟨r,(lu x L nm U oy q rfl b4 (ap.ki k3) ok (k3.str hb) a0 lb a6 λv u y R M I b3 b2=>kk v u y R M I b3 (yu k3 b2))⟩)
  refine jB _ rfl _ rfl (iU _ rfl _ rfl _ _ rfl rfl (N B X _ h1 l λvl ul y H4 tl a5 b1 rl=>?_));refine jB _ rfl _ rfl (iU _ rfl _ rfl _ _ rfl rfl (N y H4 _ b1 (l.trans a5) λvr ur a9 H5 tr I a4 rr=>?_));have k5:=l.trans (a5.trans I);have a2:=rl.ki (FE I);refine ah (λZ j=>Z=[Sro D,Sro C,Sro b,Sio (n:Nat),Sio c,Sio a,some vl,some vr,none]/\H5=j/\a≠4) ?_ ?_
  ·refine lQ _ rfl rfl _ rfl (iC (λh4=>?_) (λh4=>(hQ rfl rfl λz=>h4 (by rw[z]))));refine me _ rfl _ _ rfl rfl ⟨by decide,by decide⟩ _ _ rfl rfl wo (jg _ rfl _ rfl (iq rfl) λp g=>?_);have M:=A9u.pair (o:=wt (c/6%3)) tl tr;rw[dn,pw]at M;have d:=eh (o:=.tup [.str "pair",.int (c/6%3),vl,vr]) g;exact k (.ref p) _ a9 _ M (k5.trans (KI.of d)) (d _ _ a4) (.pair (kj (nF k5 g) dh) (a2.same (mX d)) (rr.same (mX d)))
  rintro Z j ⟨rfl,rfl,b0⟩;obtain⟨O,ma,J,ea⟩:=a7 b0;refine me _ rfl _ _ rfl rfl ⟨by decide,by decide⟩ _ _ rfl rfl rN ?_;have a8:=k5.str hb;refine iU _ rfl _ rfl _ _ rfl rfl ⟨⟨by decide,by decide⟩,(ii _ rfl b _ rfl (.inl (SqL.of a8)) (iO _ _ rfl rfl J (jf b _ _ _ rfl rfl (SqL.of a8) ea (jB _ rfl _ rfl (me _ rfl _ _ rfl rfl ⟨by decide,by decide⟩ _ _ rfl rfl rN (fx _ _ rfl rfl (jg _ rfl _ rfl (iq rfl) λp g=>?_)))))))⟩;have M:=A9u.guard (lo:=c/36%4) (hi:=c/36%4+c/144%4) ma tl tr;rw[dn,pw]at M;have d:=eh (o:=.tup [.str "guard",.str O,.int (c/36%4),.int (c/36%4+c/144%4),vl,vr]) g;exact k (.ref p) _ a9 _ M (k5.trans (KI.of d)) (d _ _ a4) (.guard (kj (nF k5 g) dh) (a2.same (mX d)) (rr.same (mX d)))
theorem AO(T:Txt K mg t):∀n:Nat,A4q P w K mg base jY (n+3) t.c8 t.c6 tK (xB n)|0=>BK T (sp':=λ_ _ _ _=>False) (m:=2) (by lia) (A4q.none λ_ _ _ _ h=>h) λh=>absurd h (by lia)|n+1=>BK T (m:=n+3) (by lia) (AO T n) λ_ a H Q h=>h
theorem z7(z:Str):∀a:zC,inV (.str z) (a.map V.str)=decide (z∈a)
 | []=>rfl
 |b::r=>by
  have c:=z7 z r;unfold inV at c⊢;rw[iN,List.any_cons,c];show((b==z)||decide (z∈r))=decide (z∈b::r);by_cases e:b=z
  ·subst e;simp
  ·have:¬z=b:=λh=>e h.symm;simp[e,this]
theorem Bf:∀a:zC,(a.map V.str).all pL=true| []=>rfl|b::r=>by rw[iN,List.all_cons,Bf r];rfl
theorem Ec{k:Key}{a:V}{r:zJ}(h:∀p∈r,¬p.1=k):iL ((k,v)::r) k a=(k,a)::r:=by unfold iL;rw[ia (by simp)];rw[iN,ia rfl];congr 1;exact(List.map_congr_left λp b=>fy (h p b)).trans (List.map_id' _)
theorem Go{a b:Str}{v':V}{r:zJ}(h:decide (a=b)=false)(c:(ic r (Sum.inr b)).isSome=true):iL (((Sum.inr a:Key),v)::r) (Sum.inr b) v'=((Sum.inr a:Key),v)::iL r (Sum.inr b) v':=by
 have d:¬(Sum.inr a:Key)=Sum.inr b:=λz=>by injection z with z;rw[kz z]at h;cases h
 unfold iL;rw[ia (by rw[List.any_cons,oV,c,Bool.or_true]),ia (by rw[oV,c]),iN,fy d]
theorem Dd{r:zJ}{b:Str}(h:ic r (Sum.inr b)=none):∀p∈r,¬p.1=(Sum.inr b:Key):=λp a e=>Gk h (by rw[<-e];exact List.mem_map_of_mem a)
local macro_rules | `(tactic| walk_at"ab") => `(tactic| first |rfl |exact mP rfl |(refine(wB (by decide +kernel)).trans ?_; walk_at"ab"))
local macro_rules | `(tactic| walk_at"pu") => `(tactic| first |exact Ec (Dd (by walk_at"ab")) |(refine(Go (by decide +kernel) (Option.isSome_iff_exists.mpr ⟨_, by walk_at"ab"⟩)).trans (congrArg (List.cons _) ?_); walk_at"pu"))
theorem HE(x:Abt)(y:Str):iL (abK x) (Sum.inr "own") (.str y)=abK {x with own:=y}:=by unfold abK;walk_at"pu"
theorem Je(x:Abt)(y:Int):iL (abK x) (Sum.inr "left") (.int y)=abK {x with left:=y}:=by unfold abK;walk_at"pu"
theorem Jo(x:Abt)(y:Int):iL (abK x) (Sum.inr "work") (.int y)=abK {x with work:=y}:=by unfold abK;walk_at"pu"
theorem C3c.put{x x':Abt}(h:C3c H ab x L nm es)(c:x'.ld=x.ld)(a:x'.sh=x.sh)(i:x'.ln=x.ln):C3c (upd H ab (.dK (abK x'))) ab x' L nm es:=by obtain⟨d,⟨l,p,q⟩,⟨j,n,k⟩,e,g,o⟩:=h;refine⟨dh,(ah l (by rw[c,dV g.symm];exact p) q),(ah j (by rw[a,dV e.symm];exact n) ?_),a▸e,c▸g,by rw[c,a];exact o⟩;rw[i];exact Paired.mapP k (by rintro _ _ ⟨s,b,r,m,f⟩;exact jU s b r m (by rw[dV (ir f d (by intro z;cases z))];exact f))
def LT:HO->Prop|.tup _=>True|.lst (.int _::_)=>False|.lst _=>True|.frz _ _=>True|_=>False
theorem LT.ni{u:HO}(h:LT u):∀n xs,u≠.lst (V.int n::xs):=λn xs z=>by subst z;exact h
theorem LT.nd{u:HO}(h:LT u):∀kvs,u≠.dK kvs:=λkvs z=>by subst z;exact h
theorem ES(ys:zC):LT (.lst (ys.map V.str)):=by cases ys<;>exact True.intro
def KQ(ln:zW)(H H':Hp):Prop:=∀b u,b≠ln->LT u->H b=some u->H' b=some u
theorem KQ.trans(a:KQ ln H H')(b:KQ ln H' H2):KQ ln H H2:=λc u n l e=>b c u n l (a c u n l e)
theorem KQ.of(k:KI H H'):KQ ln H H':=λb u _ l e=>k b u l.ni e
theorem KQ.dk(h:H ab=some (.dK kvs)):KQ ln H (upd H ab o):=λb u _ l e=>by rw[dV (ir e h (l.nd _))];exact e
theorem KQ.at:KQ ln H (upd H ln o):=λb u n l e=>by rw[dV n];exact e
theorem KQ.str(k:KQ ln H H')(n:b≠ln)(e:H b=some (.lst (ys.map V.str))):H' b=some (.lst (ys.map V.str)):=k _ _ n (ES ys) e
theorem A9h.kq(h:A9h (jp (λb=>b≠ln) H) v u)(k:KQ ln H H'):A9h (jp (λb=>b≠ln) H') v u:=by
 have d:∀b g,jp (λb=>b≠ln) H b=some (.tup g)->jp (λb=>b≠ln) H' b=some (.tup g):=λb g e=>kj (jT e).1 (k b _ (jT e).1 True.intro (jT e).2)
 induction h with
 |num e=>exact .num (d _ _ e)
 |place e=>exact .place (d _ _ e)
 |@read a l x ix e r=>
  obtain⟨_,i,q,f,c⟩:=tZ (show Rep _ (.ref l) (.list (ix.map mR)) from r);cases q
  have j:LT (.lst i):=by
   cases ix with
   |nil=>cases c;exact True.intro
   |cons e ix=>
    rw[iN]at c
    cases c with
    |cons a c=>obtain⟨q,rfl,_⟩:=yH a;exact True.intro
  refine .read (d _ _ e) (.lst (kj (jT f).1 (k _ _ (jT f).1 j (jT f).2)) ?_);clear r f e j
  induction ix generalizing i with
  |nil=>cases c;exact .nil
  |cons e ix ih=>
   rw[iN]at c
   cases c with
   |cons a c=>obtain⟨q,rfl,m⟩:=yH a;exact .cons (.tup (d _ _ m) (.cons (.str _) (.cons (.int _) .nil))) (ih _ c)
 |pair e _ _ i1 i2=>exact .pair (d _ _ e) i1 i2
 |guard e _ _ i1 i2=>exact .guard (d _ _ e) i1 i2
def D3k(ln:zW)(H:Hp)(v:V)(e:LnM):Prop:=∃(b c d:zW)(a:V),v=.ref b/\b≠ln/\H b=some (.tup [.str e.nm,.ref c,.ref d,a])/\c≠ln/\H c=some (.lst (e.own.map V.str))/\d≠ln/\H d=some (.lst (e.sums.map V.str))/\A9h (jp (λb=>b≠ln) H) a e.tm
theorem D3k.kq(h:D3k ln H v e)(k:KQ ln H H'):D3k ln H' v e:=by refine jy h ?_;clear h;rintro b c d i rfl g n ⟨f,l,a,j,m⟩;exact jo b c d i rfl g (k _ _ g True.intro n) (jH f (k.str f l) a (k.str a j) (m.kq k))
structure B9k(L:zR)(nm:zC)(es:zB)(e:LnM):Prop where
 ax:AxN nm e.own
 nd:(e.own++e.sums).Nodup
 sub:∀y∈e.sums,y∈nm
 few:e.sums.length<=2
 po:jm (e.own.map L)<=40
 ps:jm (e.sums.map L)<=40
 tm:A9u L es e.nm e.own (e.own++e.sums) 6 4 e.tm
theorem vn(L:zR)(ys:zC):prd L ys=jm (ys.map L):=by unfold prd jm;rw[List.foldl_map]
theorem Bq(a b:zI):jm (a++b)=jm a*jm b:=by
 rw[xw,xw,xw]
 induction a with
 |nil=>rw[List.nil_append,prR,Int.one_mul]
 |cons x r ih=>rw[List.cons_append,prR,prR,ih,Int.mul_assoc]
structure wE(nm ys zs:zC):Prop where
 nd:(ys++zs).Nodup
 sub:∀y∈zs,y∈nm
 few:zs.length<=2
theorem AxN.take(h:AxN nm ys)(n:Nat):AxN nm (ys.take n):=⟨h.nd.sublist (uE _ _),λy a=>h.sub y (nw a),by have:=h.few;rw[iX];lia⟩
theorem AxN.nil(nm:zC):AxN nm []:=⟨List.nodup_nil,λy a=>(nomatch a),by simp⟩
theorem xl{S:zV}{H:Hp}{y:Str}:∀{a:zJ}{es:zB},AR S H a es->y∉es.map (·.1)->ic a (Sum.inr y)=none|_,_,.nil,_=>rfl|_,_,@Paired.cons _ _ _ p q ps qs r t,h=>by rw[iN,jt]at h;rw[mI (λz=>h (.inl (Sum.inr.inj (r.1.symm.trans z)).symm))];exact xl t λz=>h (.inr z)
theorem C8e.snoc(h:C8e L nm es)(f:y∉es.map (·.1))(g:PyData.strOk y=true)(l:AxN nm ys)(n:jm (ys.map L)<=60)(o:es.length<100):C8e L nm (es++[(y,ys)]):=by
 have d:∀{Pp:Str×List Str->Prop},(∀e∈es,Pp e)->Pp (y,ys)->∀e∈es++[(y,ys)],Pp e:=λk i e j=>(ng.mp j).elim (k e) λz=>by rw[mL.mp z];exact i
 refine⟨?_,d h.ax l,d h.pr n,by rw[jc];simp;lia,d h.str g⟩;rw[iK,qj]
 exact⟨h.nd,by simp,λa m b c e=>by
  have c:b=y:=mL.mp c
  exact f (by rw[<-c,<-e];exact m)⟩
def EZ:Sp:=λj H Q _=>∃(D g h:zW)(y:Str)(k:zI)(x:Abt)(L:zR)(a:zC)(b:zB)(f:zM),j=[.ref D,.ref g,.ref h,.str y]/\H D=some (.lst (k.map V.int))/\C3c H g x L a b/\C8e L a b/\b.length<=20/\H h=some (.lst (a.map V.str))/\h≠x.ln/\0<a.length/\y∉b.map (·.1)/\PyData.strOk y=true/\x.left<=40/\H x.ln=some (.lst f)/\LT (.lst f)/\f.length<=20/\
 ∀(d i:zC)(u:Tm)(v:V)(c:Abt)(e:Hp),c.ld=x.ld->c.sh=x.sh->c.ln=x.ln->c.tb=x.tb->c.left<=40->C3c e g c L a (b++[(y,d)])->C8e L a (b++[(y,d)])->B9k L a (b++[(y,d)]) ⟨y,d,i,u⟩->e x.ln=some (.lst (f++[v]))->D3k x.ln e v ⟨y,d,i,u⟩->KQ x.ln H e->Q .non e
theorem vW(h:∀y∈nm,1<=L y)(c:∀y∈ys,y∈nm):1<=jm (ys.map L):=(pY (ys.map L) λn b=>by obtain⟨y,a,rfl⟩:=kg.mp b;exact h y (c y a)).2
theorem Ho(T:Txt K mg t):FO P w base T.dE 13 EZ:=by
 refine T.dE.F.ok oJ λ_ A _ s H _ Q E hr h=>?_
 ·refine lC h ?_;clear h;rintro D m nl y ms x L I es ⟨ts,rfl,hD,ap,ok,n5,e7,m9,g8,c1,h8,n0,m1,f7,m6,k⟩;have hu:=lF hr;obtain⟨lk,i3,B⟩:=ap.le;have L1:∀y∈I,1<=L y:=λy hy=>(B.ok y hy).1;have f6:∀{lk:zJ}(B:B2d lk L I)(ys:zC),(∀y∈ys,y∈I)->wG lk L ys:=λB ys hs y hy=>(hQ (B.val (hs y hy)) (by have:=B.ok y (hs y hy);lia) ((B.ok y (hs y hy)).2.1));have k8:=B.few;refine rsq (eg (iw 4 oJ.nd (pcl (pW T) hr T.aA (fC 0))) (eg (iw 5 oJ.nd (iR hu (pv 1) ip)) (eg ⟨@jM _ _ 6 _ _ _ _ oJ.nd rfl (.inr rfl) (pcl (Bj T) hr T.cH (al (pv 4) (fC 2))) rfl (.inl rfl)⟩ (eg ⟨Gs (i₀:=7) (N':=["_law_axis","_law_axes_here"]) (ix:=(List.replicate 1 none++[some 6])) (tc:=wO (tOp (rIn K true) (qX 0) (qX 1))) oJ.nd rfl (.inl rfl) rfl (qI (x:="_law_axes_here") rfl rfl rfl (by decide+kernel) (by decide+kernel)) (qN (N0:=["_law_axis"]) rfl (.inl rfl) (by walk_at"ix")) (ju (pv 2)) (λ_ _ _ _=>(ie (i:=0) HV)) (λ_ _ _ _=>(iT JA (pv 0) (pv 1) (by with_unfolding_all rfl))) (λ_ _ _ _=>(pv 0))⟩ (eg (iw 8 oJ.nd (mW mV (pv 7) nI (lY (ib jL (ib lO (pv 4) fe) fe)))) (mY (iP (iT qo (pcl (vI T) hr T.bA (al (ib oT (pv 6) (pv 8)) (fC 5))) (iR hu (pv 1) ip)) (eg ⟨@jM _ _ 6 _ _ _ _ oJ.nd rfl (.inr rfl) (mW mV (pv 6) nI (lY fe)) rfl (.inl rfl)⟩ (fa (iw 8 oJ.nd (@jF _ _ _ _ eH)))) ⟨iJ⟩) (mY (iP (iT qo (pcl (vI T) hr T.bA (al (pv 6) (fC 5))) (iR hu (pv 1) ip)) (fa ⟨@jM _ _ 6 _ _ _ _ oJ.nd rfl (.inr rfl) (@jF _ _ _ _ eH) rfl (.inl rfl)⟩) ⟨iJ⟩) (eg ⟨@nG _ _ _ _ _ _ _ _ _ hu (pv 1) ip (pv 3) rfl⟩ (eg ⟨@nG _ _ _ _ _ _ _ _ _ hu (iR hu (pv 1) ip) (pv 3) (pv 6) rfl⟩ (eg (iw 9 oJ.nd (pcl (AO T 2) hr T.bZ (al (pv 0) (al (pv 1) (al (ib oT (pv 6) (pv 8)) (al fe eH)))))) (eg (iw 10 oJ.nd (pcl (vI T) hr T.bA (al (ib oT (pv 6) (pv 8)) (fC 5)))) (mY (iP (iT qo (ib tW (pv 10) (pcl (xP T 6) hr T.aQ (fC 9))) (iR hu (pv 1) ip)) (fa (iw 9 oJ.nd (jd (al ip (al (ib jL (pv 4) (ib tU fe fe)) eH))))) ⟨iJ⟩) (eg ⟨@nG _ _ _ _ _ _ _ _ _ hu (pv 1) ip (jS (Be rfl) (by rfl) T.ft PyProof.Rows.boot_max (al fe (al (ib oE (iR hu (pv 1) ip) (pv 10)) eH))) rfl⟩ (eg ⟨@nG _ _ _ _ _ _ _ _ _ hu (pv 1) ip (jS (Be rfl) (by rfl) T.ft PyProof.Rows.boot_max (al fe (al (ib oE (iR hu (pv 1) ip) (ib tW (pv 10) (pcl (xP T 6) hr T.aQ (fC 9)))) eH))) rfl⟩ (fa ⟨kU (lJ kQ nU nT nK (iR hu (pv 1) ip) (al (jd (al (pv 3) (al (pv 6) (al (pv 8) (fC 9))))) eH))⟩))))))))))))))) ?_;refine ii _ rfl D ms rfl hD λc k2 H1 l1 h1 o1 e1=>?_;have k1:=pS hD o1 e1;have a1:=ap.ki k1;have O:=k1 _ _ f7.ni m1;refine ii _ rfl m _ rfl (a1.get (xL x)) ?_;refine jB _ rfl _ rfl (nM c nl I rfl (k1.str e7) B.few g8 B.nd λg p H2 hp s2 h4 a0=>?_);have l5:p≠x.ln:=(ik O hp).symm;have d5:=s2 _ _ (k1.str e7);refine jg _ rfl nl rfl ⟨_,SqL.of d5⟩ λF hF=>?_;refine vV (K:=K) (a:=nl) (D:=F) (xs:=I.map V.str) (λj vs G=>A0l H2 G/\G F=some (.lst vs)/\vs=((I.take j).filter λz=>decide (z∉g)).map V.str) (hQ (eh hF) dh rfl) (by rintro j vs G ⟨s3,_⟩;exact SqL.of (s3 _ _ d5)) ?_ ?_
  ·rintro j v vs G hv ⟨s3,h3,rfl⟩;obtain⟨z,hz,rfl⟩:=ko hv;have hj:j<I.length:=(iG.mp hz).1;refine⟨⟨rfl,True.intro⟩,(iU _ rfl _ rfl p _ rfl (.inl (SqL.of (s3 _ _ h4))) (kE rfl (Bf g) _ rfl ?_))⟩;show if (! inV (V.str z) (g.map V.str))=true then _ else _
   rw[z7];refine u9 (λhn=>?_) (λhn=>?_)
   ·refine⟨_,(ke rfl h3 (iM (by rw[hA];have:=List.length_filter_le (λz=>decide (z∉g)) (I.take j);rw[iX]at this;lia)) (jn s3 hF) dh ?_)⟩;rw[iF,hz,iS,List.filter_append,qr (f:=λz=>decide (z∉g)) (kz hn),iK];rfl
   ·refine hQ s3 h3 ?_;rw[iF,hz,iS,List.filter_append,qm (f:=λz=>decide (z∉g)) (by simpa using hn),nS]
  rintro vs H3 ⟨s3,h3,rfl⟩;rw[hA,iQ]at h3;have i1:=s2.trans s3;obtain⟨j,ej⟩:∃j:Nat,c/64%3=(j:Int):=⟨_,(Int.toNat_of_nonneg (oq _ (by lia))).symm⟩;refine ah _ rfl (me _ rfl _ _ rfl rfl ⟨by decide,by decide⟩ _ _ rfl rfl wo (ii _ rfl F _ rfl (SqL.of h3) λq hq=>?_));show nX 8 (.ref q) _ (upd H3 q (.lst (kR ((I.filter λz=>decide (z∉g)).map V.str) none (some (c/64%3))))) _;rw[ej,sk]
  have d0:wE I g ((I.filter λz=>decide (z∉g)).take j):=by refine⟨qj.mpr (hQ a0.nd ((B.nd.sublist List.filter_sublist).sublist (uE _ _)) λa ha b hb e=>?_),λz hz=>(List.mem_filter.mp (nw hz)).1,by rw[iX];lia⟩;exact(of_decide_eq_true (List.mem_filter.mp (nw hb)).2) (e▸ha)
  generalize (I.filter λz=>decide (z∉g)).take j=zs0 at d0;obtain⟨H4,sq,g6,j4⟩:=nH (o:=.lst (zs0.map V.str)) hq
  try rw[j4]
  have d3:=i1.trans sq;have k4:=k1.trans (KI.of d3);have k0:q≠x.ln:=(ik (i1 _ _ O) hq).symm;have f8:=(s3.trans sq) _ _ h4;have n4:=a0.few;have n9:=d0.few;have m0:∀z∈g++zs0,z∈I:=λz hz=>(ng.mp hz).elim (a0.sub z) (d0.sub z);refine ah (λZ G=>∃(C W:zW)(ys l:zC),Z=[Sro D,Sro m,Sro nl,Sso y,Sio c,Sro x.ld,Sro C,Sro F,Sro W,none,none]/\A0l H4 G/\C≠x.ln/\G C=some (.lst (ys.map V.str))/\W≠x.ln/\G W=some (.lst (l.map V.str))/\AxN I ys/\wE I ys l/\(jm ((ys++l).map L)<=x.left\/l=[])) ?_ ?_
  ·refine mu _ rfl _ rfl p q _ _ rfl rfl f8 g6 (lg (by simp;lia)) λr g0=>?_;have sr:A0l H4 (upd H4 r (.lst (g.map V.str++zs0.map V.str))):=eh g0;have c3:upd H4 r (.lst (g.map V.str++zs0.map V.str)) r=some (.lst ((g++zs0).map V.str)):=by rw[dh,iK]
   generalize upd H4 r (.lst (g.map V.str++zs0.map V.str))=H5 at sr c3;have k5:=k4.trans (KI.of sr);refine jW _ rfl r x.ld (g++zs0) lk L rfl c3 (k5.dk i3) (f6 B _ m0) (by rw[jc];lia) λG sG=>?_;have Y:=sr.trans sG;refine ii _ rfl m _ rfl ((ap.ki (k5.trans (KI.of sG))).get (xg x)) (lx _ _ rfl rfl _ rfl (iC (λh=>?_) (λh=>?_)))
   ·refine iU _ rfl _ rfl p _ rfl (SqL.of (Y _ _ f8)) λp' c4=>?_;have f4:A0l G (upd G p' (.lst (kR (g.map V.str) none (some 1)))):=eh c4;have h9:upd G p' (.lst (kR (g.map V.str) none (some 1))) p'=some (.lst ((g.take 1).map V.str)):=by rw[dh];exact congrArg (λz=>some (HO.lst z)) (sk (i:=1))
    generalize upd G p' (.lst (kR (g.map V.str) none (some 1)))=G1 at f4 h9;refine⟨iq rfl,λq' g2=>?_⟩;have d8:=(d3.trans Y) _ _ O;exact jo p' q' (g.take 1) [] rfl (Y.trans (f4.trans (eh g2))) ((ik d8 c4).symm) (ke (oW g2 h9) ((ik (f4 _ _ d8) g2).symm) dh (a0.take 1) ⟨by rw[nS];exact(a0.take 1).nd,λz hz=>(nomatch hz),by simp⟩ (.inr rfl))
   ·have h:¬x.left<prd L (g++zs0):=h;rw[vn]at h;exact jo p q g zs0 rfl Y l5 (ke (Y _ _ f8) k0 (Y _ _ g6) a0 d0 (.inl (by lia)))
  rintro Z H5 zz;refine jy zz ?_;clear zz;rintro C W ys1 l rfl g1 c9 ⟨d2,j5,k9,d1,b5,l6⟩;have m5:=d1.few;refine ah (λZ G=>∃(C:zW)(ys:zC),Z=[Sro D,Sro m,Sro nl,Sso y,Sio c,Sro x.ld,Sro C,Sro F,Sro W,none,none]/\A0l H5 G/\C≠x.ln/\G C=some (.lst (ys.map V.str))/\AxN I ys/\wE I ys l/\jm (ys.map L)<=40/\jm (l.map L)<=40) ?_ ?_
  ·have k5:=k4.trans (KI.of g1);have b1:=vW L1 d1.sub;have b2:=vW L1 b5.sub
   have bz:jm (l.map L)<=40:=by
    rcases l6 with z|z
    ·rw[iK,Bq]at z;have:=Int.mul_le_mul_of_nonneg_right b1 (show(0:Int)<=jm (l.map L)by lia)
     lia
    ·rw[z];show(1:Int)<=40;decide
   refine ah _ rfl (jW _ rfl C x.ld ys1 lk L rfl d2 (k5.dk i3) (f6 B _ d1.sub) (by lia) λG sG=>?_);refine ii _ rfl m _ rfl ((ap.ki (k5.trans (KI.of sG))).get (xg x)) (lx _ _ rfl rfl _ rfl (iC (λh=>?_) (λh=>?_)))
   ·refine⟨iq rfl,λp' c4=>?_⟩;exact fx p' [] rfl (sG.trans (eh c4)) (ke ((ik (sG _ _ (g1 _ _ (d3 _ _ O))) c4).symm) dh (AxN.nil I) ⟨(qj.mp b5.nd).2.1,b5.sub,b5.few⟩ (by show(1:Int)<=40;decide) bz)
   ·have h:¬x.left<prd L ys1:=h;rw[vn]at h;exact fx C ys1 rfl sG (ke c9 (sG _ _ d2) d1 b5 (by lia) bz)
  rintro Z H6 zz;refine jC zz ?_;clear zz;rintro C ys rfl h5 c9 ⟨d2,c2,sm,py,pz⟩;have e6:=d3.trans (g1.trans h5);have k6:=k1.trans (KI.of e6);have a6:=ap.ki k6;have i9:=h5 _ _ k9;have i2:=e6 _ _ O;have m7:=k6.str e7;have j8:=e6 _ _ h1;refine iU _ rfl _ rfl m _ rfl (B4w.k (k:=Sum.inr "own") a6.d (iM (by show 7<=1000000;decide))) ?_;rw[HE];have a7:=a6.put (x':={x with own:=y}) rfl rfl rfl;have q7:KQ x.ln H6 (upd H6 m (.dK (abK {x with own:=y}))):=KQ.dk a6.d;have n7:∀b u,(∀J,u≠.dK J)->H6 b=some u->upd H6 m (.dK (abK {x with own:=y})) b=some u:=λb u n e=>by rw[dV (ir e a6.d (n _))];exact e
  have g7:=n7 _ _ (by intro k z;cases z) j8;have b0:=n7 _ _ (by intro k z;cases z) d2;have e0:=n7 _ _ (by intro k z;cases z) i9;have d6:=n7 _ _ (by intro k z;cases z) i2;generalize upd H6 m (.dK (abK {x with own:=y}))=H7 at a7 q7 n7 g7 b0 e0 d6;obtain⟨ak,g4,ar⟩:=a7.sh;have o2:=Paired.length ar;refine iU _ rfl _ rfl m _ rfl (a7.get (sJ _)) (ii _ rfl x.sh _ rfl (B4w.k (k:=Sum.inr y) g4 (iM (by lia))) ?_);rw[qG _ (xl ar c1)];have n8:∀b u,(∀J,u≠.dK J)->H7 b=some u->upd H7 x.sh (.dK (ak++[(Sum.inr y,.ref C)])) b=some u:=λb u n e=>by rw[dV (ir e g4 (n _))];exact e
  have q8:KQ x.ln H7 (upd H7 x.sh (.dK (ak++[(Sum.inr y,.ref C)]))):=KQ.dk g4
  have a8:C3c (upd H7 x.sh (.dK (ak++[(Sum.inr y,.ref C)]))) m {x with own:=y} L I (es++[(y,ys)]):=by obtain⟨f9,g9,i5⟩:=a7.le;refine⟨by rw[dV a7.n1];exact a7.d,(ah f9 (by rw[dV a7.n3.symm];exact g9) i5),(ah _ dh (jZ (Paired.mapP ar ?_) (.cons (jU rfl C rfl c9 (n8 _ _ (by intro k z;cases z) b0)) .nil))),a7.n1,a7.n2,a7.n3⟩;rintro _ _ ⟨z1,b,z2,z3,z4⟩;exact jU z1 b z2 z3 (n8 _ _ (by intro k z;cases z) z4)
  have j0:=n8 _ _ (by intro k z;cases z) g7;have b4:=n8 _ _ (by intro k z;cases z) b0;have c0:=n8 _ _ (by intro k z;cases z) e0;have a5:=n8 _ _ (by intro k z;cases z) d6;generalize upd H7 x.sh (.dK (ak++[(Sum.inr y,.ref C)]))=H8 at n8 q8 a8 j0 b4 c0 a5;have i8:C8e L I (es++[(y,ys)]):=ok.snoc c1 h8 c2 (by lia) (by lia);have j9:KQ x.ln H H8:=((KQ.of k6).trans q7).trans q8;have m8:=c2.few;have m3:=sm.few;have h6:∀z∈ys++l,z∈I:=λz hz=>(ng.mp hz).elim (c2.sub z) (sm.sub z);have n6:(ys++l).length<=5:=by rw[jc];lia
  refine jB _ rfl _ rfl (mu _ rfl _ rfl C W _ _ rfl rfl b4 c0 (lg (by simp;lia)) λbl j7=>?_);have sb:A0l H8 (upd H8 bl (.lst (ys.map V.str++l.map V.str))):=eh j7;have i7:upd H8 bl (.lst (ys.map V.str++l.map V.str)) bl=some (.lst ((ys++l).map V.str)):=by rw[dh,iK]
  generalize upd H8 bl (.lst (ys.map V.str++l.map V.str))=H9 at sb i7;refine lj D m bl ⟨k2,(lu ({x with own:=y}) L I es ys (ys++l) rfl (sb _ _ j0) (a8.ki (KI.of sb)) i8 i7 h6 (by lia) (λz hz=>qV _ hz) λtv u o0 c6 tm ki m4 tr=>?_)⟩
  have tm:A9u L (es++[(y,ys)]) y ys (ys++l) 6 4 u:=tm;have R:=(KI.of sb).trans ki;have k7:=a8.ki R;have c7:=R _ _ f7.ni a5
  have j1:A9h (jp (λb=>b≠x.ln) c6) tv u:=tr.same λb o e=>kj (λz=>by
   obtain⟨n,xs,e2⟩:=(jT e).1 _ (by rw[z];exact sb _ _ a5)
   exact f7.ni n xs e2) (jT e).2
  have a4:=R.str b4;have c5:=R.str c0;refine mu _ rfl _ rfl C W _ _ rfl rfl a4 c5 (lg (by simp;lia)) λr g0=>?_;have sr:A0l c6 (upd c6 r (.lst (ys.map V.str++l.map V.str))):=eh g0;have c3:upd c6 r (.lst (ys.map V.str++l.map V.str)) r=some (.lst ((ys++l).map V.str)):=by rw[dh,iK]
  generalize upd c6 r (.lst (ys.map V.str++l.map V.str))=H11 at sr c3;have i6:=k7.ki (KI.of sr);obtain⟨i4,f2,f3⟩:=i6.le;refine jW _ rfl r x.ld (ys++l) i4 L rfl c3 f2 (f6 f3 _ h6) (by lia) λj6 g5=>?_;have S:=sr.trans g5;have j2:=i6.ki (KI.of g5);have d9:=j1.same (mX S);have b1:=vW L1 c2.sub;have b2:=vW L1 sm.sub
  have mb:1<=prd L (ys++l)/\prd L (ys++l)<=1600:=by
   rw[vn,iK,Bq];have h1:=Int.mul_le_mul py pz (by lia) (by lia);have h2:=Int.mul_le_mul b1 b2 (by lia) (by lia)
   lia
  generalize prd L (ys++l)=mh at mb;refine ah (λZ G=>∃(tv:V)(u:Tm),Z=[Sro D,Sro m,Sro nl,Sso y,Sio c,Sro x.ld,Sro C,Sro F,Sro W,some tv,Sio mh]/\A0l j6 G/\A9h (jp (λb=>b≠x.ln) G) tv u/\A9u L (es++[(y,ys)]) y ys (ys++l) 6 4 u) ?_ ?_
  ·refine ah _ rfl (me _ rfl tv u rfl (d9.same λb o e=>(jT e).2) tm.dp _ _ rfl rfl (.inl ⟨by lia,by lia⟩) (ii _ rfl m _ rfl (j2.get (Ae _)) (lx _ _ rfl rfl _ rfl (iC (λh=>?_) (λh=>?_)))))
   ·refine me _ rfl _ _ rfl rfl (hQ (by decide) (by decide) (by decide)) _ _ rfl rfl u7 ⟨iq rfl,λp hp=>?_⟩;exact iO (.ref p) (.num _) rfl (eh hp) (.num (kj (ik (S _ _ c7) hp).symm dh)) (A9u.num _ _ _ _ _ _ _ _ (by decide))
   ·exact iO tv u rfl (A0l.refl _) d9 tm
  rintro Z H13 ⟨tv,u,rfl,e3,h7,d7⟩;have b7:=j2.ki (KI.of e3);have N:=S.trans e3;have f1:=N _ _ c7;have f0:=N _ _ a4;have f5:=N _ _ c5;have l9:KQ x.ln H H13:=j9.trans (KQ.of (R.trans (KI.of N)));refine ii _ rfl m _ rfl (b7.get (xg _)) (ii _ rfl _ _ rfl rfl ⟨_,(iU _ rfl _ rfl m _ rfl (B4w.k (k:=Sum.inr "left") b7.d (iM (by show 7<=1000000;decide))) ?_)⟩);rw[Je];have h0:(if x.left-mh>0 then x.left-mh else 0)<=40:=by split<;>lia
  generalize (if x.left-mh>0 then x.left-mh else 0)=left' at h0;have X:=b7.put (x':={x with own:=y,left:=left'}) rfl rfl rfl;have e9:KQ x.ln H13 (upd H13 m (.dK (abK {x with own:=y,left:=left'}))):=KQ.dk b7.d;have d4:∀b u,(∀J,u≠.dK J)->H13 b=some u->upd H13 m (.dK (abK {x with own:=y,left:=left'})) b=some u:=λb u n e=>by rw[dV (ir e b7.d (n _))];exact e
  have b3:=d4 _ _ (by intro k z;cases z) f1;have a2:=d4 _ _ (by intro k z;cases z) f0;have b8:=d4 _ _ (by intro k z;cases z) f5;have a3:=h7.kq e9;generalize upd H13 m (.dK (abK {x with own:=y,left:=left'}))=H14 at X e9 d4 b3 a2 b8 a3;refine ah _ rfl (lx m _ rfl (X.get (Ae _)) _ rfl (me _ rfl tv u rfl (a3.same λb o e=>(jT e).2) d7.dp _ _ rfl rfl (.inl ⟨by lia,by lia⟩) (fx _ _ rfl rfl ⟨_,(iU _ rfl _ rfl m _ rfl (B4w.k (k:=Sum.inr "work") X.d (iM (by show 7<=1000000;decide))) ?_)⟩)))
  rw[Jo];generalize (if x.work-mh*((nod u:Nat):Int)>0 then x.work-mh*((nod u:Nat):Int)else 0)=work';have g3:=X.put (x':={x with own:=y,left:=left',work:=work'}) rfl rfl rfl;have e8:KQ x.ln H14 (upd H14 m (.dK (abK {x with own:=y,left:=left',work:=work'}))):=KQ.dk X.d;have c8:∀b u,(∀J,u≠.dK J)->H14 b=some u->upd H14 m (.dK (abK {x with own:=y,left:=left',work:=work'})) b=some u:=λb u n e=>by rw[dV (ir e X.d (n _))];exact e
  have M:=c8 _ _ (by intro k z;cases z) b3;have b6:=c8 _ _ (by intro k z;cases z) a2;have b9:=c8 _ _ (by intro k z;cases z) b8;have e5:=a3.kq e8;generalize upd H14 m (.dK (abK {x with own:=y,left:=left',work:=work'}))=H15 at g3 e8 c8 M b6 b9 e5;refine ii _ rfl m _ rfl (g3.get (E9 _)) ⟨.inl (jI rfl _ (SqL.of M)),(jB _ rfl _ rfl (jg _ rfl _ rfl (iq rfl) λq1 j3=>?_))⟩
  have U:A0l H15 (upd H15 q1 (.tup [.str y,.ref C,.ref W,tv])):=eh j3;have e4:upd H15 q1 (.tup [.str y,.ref C,.ref W,tv]) q1=some (.tup [.str y,.ref C,.ref W,tv]):=dh;generalize upd H15 q1 (.tup [.str y,.ref C,.ref W,tv])=H16 at U e4;have a9:=U _ _ M;refine jX x.ln _ _ rfl rfl a9 (iM (by lia)) ?_;have i0:KQ x.ln H16 (upd H16 x.ln (.lst (ts++[.ref q1]))):=KQ.at;have l8:q1≠x.ln:=(ik M j3).symm;have l2:D3k x.ln H16 (.ref q1) ⟨y,ys,l,u⟩:=(jo q1 C W tv rfl l8 e4 (jH c9 (U _ _ b6) j5 (U _ _ b9) (e5.same (mX U))));have l7:=g3.ki (KI.of U);refine k ys l u (.ref q1) {x with own:=y,left:=left',work:=work'} _ rfl rfl rfl rfl h0 ?_ i8 ⟨c2,sm.nd,sm.sub,sm.few,py,pz,d7⟩ dh (l2.kq i0) ((l9.trans (e9.trans e8)).trans ((KQ.of (KI.of U)).trans i0));obtain⟨d,⟨f9,m2,l3⟩,⟨k3,l0,l4⟩,n1,n2,n3⟩:=l7;have dn:∀{b:zW}{J:zJ},H16 b=some (.dK J)->upd H16 x.ln (.lst (ts++[.ref q1])) b=some (.dK J):=λe=>by rw[dV (ir e a9 (by intro z;cases z))];exact e
  refine⟨dn d,(ah f9 (dn m2) l3),(ah k3 (dn l0) (Paired.mapP l4 ?_)),n1,n2,n3⟩;rintro _ _ ⟨z1,b,z2,z3,z4⟩;exact jU z1 b z2 z3 (by rw[dV z3];exact z4)
def ScF(K:Frag)(H:Hp)(a:zW)(xs:zM):Prop:=(∃o,H a=some (.frz o (.lst xs)))\/∀b,SqL K b a xs
theorem ScF.mk(o:uP H)(s:SqL K H a xs):ScF K H a xs:=by
 rcases s with (h|⟨b,h⟩)|h
 ·rcases o a with z|⟨b,d,z⟩
  ·rw[h]at z;cases z
  ·rw[h]at z;cases z
 ·exact .inl ⟨b,h⟩
 ·exact .inr λc=>.inr h
theorem ScF.sq(s:ScF K H a xs):SqL K H a xs:=by
 rcases s with ⟨o,h⟩|h
 ·exact .inl (.inr ⟨o,h⟩)
 ·exact h H
theorem ScF.keep(s:ScF K H a xs)(f:∀o,H a=some (.frz o (.lst xs))->H' a=some (.frz o (.lst xs))):ScF K H' a xs:=by
 rcases s with ⟨o,h⟩|h
 ·exact .inl ⟨o,f o h⟩
 ·exact .inr h
def KF(H G:Hp):Prop:=∀b o u,H b=some (.frz o u)->G b=some (.frz o u)
theorem KF.ki(f:KF H G)(k:KI G G'):KF H G':=λb o u e=>k _ _ (by intro n a z;cases z) (f b o u e)
theorem KF.dk(f:KF H G)(h:G b=some (.dK kvs)):KF H (upd G b o):=λc a u e=>by rw[dV (ir (f c a u e) h (by intro z;cases z))];exact f c a u e
theorem KF.kq(f:KF H G)(k:KQ ln G G')(h:G ln=some (.lst ts)):KF H G':=λc a u e=>k _ _ (ir (f c a u e) h (by intro z;cases z)) True.intro (f c a u e)
theorem ScF.kf(s:ScF K H a xs)(f:KF H G):ScF K G a xs:=s.keep λo e=>f _ _ _ e
theorem ScF.ki(s:ScF K H a xs)(k:KI H H'):ScF K H' a xs:=s.keep λo e=>k _ _ (by intro n b z;cases z) e
theorem ScF.dk(s:ScF K H a xs)(h:H b=some (.dK kvs)):ScF K (upd H b o) a xs:=s.keep λo e=>by rw[dV (ir e h (by intro z;cases z))];exact e
theorem qD{α:Type}(f:α->V)(nm:List α)(lo hi:Option Int):∃zs:List α,kR (nm.map f) lo hi=zs.map f/\zs.length<=nm.length/\∀x∈zs,x∈nm:=by
 refine hH ((nm.drop (HT.sIx nm.length 0 lo)).take (HT.sIx nm.length nm.length hi-HT.sIx nm.length 0 lo)) ?_ ?_ λx a=>?_
 ·unfold kR;rw[hA,<-List.map_drop,<-List.map_take]
 ·rw[iX,wj];lia
 ·exact List.mem_of_mem_drop (nw a)
theorem xA{k:Key}(h:k∉kvs.map (·.1)):ic kvs k=none:=by
 induction kvs with
 |nil=>rfl
 |cons p r ih=>rw[iN,jt]at h;rw[mI (λz=>h (.inl z.symm))];exact ih λz=>h (.inr z)
theorem xv:∀(b a:zJ),((a++b).map (·.1)).Nodup->lV a b=a++b
 | [],a,_=>by rw[nS];rfl
 |p::r,a,h=>by
  have c:p.1∉a.map (·.1):=λz=>by rw[iK,qj]at h;exact h.2.2 _ z p.1 (List.mem_map_of_mem (.head _)) rfl
  show lV (iL a p.1 p.2) r=a++p::r;rw[qG _ (xA c),xv r (a++[(p.1,p.2)]) (by rw[nR];exact h),nR];rfl
theorem ET{v:Int}(h:y∈nm):iL (nm.map λz=>((Sum.inr z:Key),V.int (L z))) (Sum.inr y) (.int v)=nm.map λz=>((Sum.inr z:Key),V.int (if z=y then v else L z)):=by
 unfold iL;rw[ia (by rw[oV,wY h];rfl),List.map_map];refine List.map_congr_left λz _=>?_;by_cases e:z=y
 ·subst e;simp
 ·have:¬(Sum.inr z:Key)=Sum.inr y:=λq=>e (Sum.inr.inj q);simp[e,this]
def oO(b sh ln:zW)(a:Int):zJ:=[(Sum.inr "lengths",.ref b),(Sum.inr "shapes",.ref sh),(Sum.inr "own",.str ""),(Sum.inr "lines",.ref ln),(Sum.inr "left",.int a),(Sum.inr "work",.int 1500)]
theorem Hz(a sh ln:zW)(left:Int):lV [] (oO a sh ln left)=oO a sh ln left:=xv _ [] (by show((["lengths","shapes","own","lines","left","work"]:zC).map (Sum.inr:Str->Key)).Nodup;decide+kernel)
local macro_rules | `(tactic| walk_at"abn") => `(tactic| first |rfl |(refine(wB (by decide +kernel)).trans ?_; walk_at"abn"))
theorem EN(b sh ln tb:zW)(a:Int):iL (oO b sh ln a) (Sum.inr "tables") (.ref tb)=abK ⟨b,sh,"",ln,a,1500,tb⟩:=qG _ (by unfold oO;walk_at"abn")
theorem BI(b sh ln:zW)(a:Int):ic (oO b sh ln a) (Sum.inr "shapes")=some (.ref sh):=by unfold oO;walk_at"ab"
def abF(x:Abt)(a:zW):zJ:=abK x++[((Sum.inr "outs":Key),V.ref a)]
theorem EV(x:Abt)(ol:zW):iL (abK x) (Sum.inr "outs") (.ref ol)=abF x ol:=qG _ (by unfold abK;walk_at"abn")
structure AbF(H:Hp)(ab:zW)(x:Abt)(ol:zW)(L:zR)(nm:zC)(es:zB)(tb:zC)(rows:List LnM)(os:zC):Prop where
 d:H ab=some (.dK (abF x ol))
 le:∃lk,H x.ld=some (.dK lk)/\B2d lk L nm
 sh:∃ak,H x.sh=some (.dK ak)/\AR (λb=>b≠x.ln) H ak es
 li:∃ts,H x.ln=some (.lst ts)/\Paired (D3k x.ln H) ts rows
 ta:H x.tb=some (.lst (tb.map V.str))
 ou:H ol=some (.lst (os.map V.str))
 n1:ab≠x.sh
 n2:ab≠x.ld
 n3:x.sh≠x.ld
structure mN(L:zR)(nm:zC)(es:zB)(tb:zC)(T:Nat)(rows:List LnM)(os:zC):Prop where
 eo:C8e L nm es
 tl:tb.length<=20
 len:es.length=T+rows.length
 row:∀k e,rows[k]?=some e->es[T+k]?=some (e.nm,e.own)/\B9k L nm (es.take (T+k+1)) e
 oi:∀o∈os,o∈es.map (·.1)
 fo:os.length<=2
 fr:rows.length<=5
 pos:1<=rows.length
def FF(K:Frag):Sp:=λj H Q _=>∃(a:zW)(c:zI),j=[.ref a,.int 40]/\ScF K H a (c.map V.int)/\c.length<=63/\
 ∀(e:zW)(x:Abt)(k:zW)(L:zR)(h:zC)(i:zB)(f:zC)(T:Nat)(b:List LnM)(g:zC)(d:Hp),AbF d e x k L h i f b g->mN L h i f T b g->(∀o u,H x.sh≠some (.frz o u))->ScF K d a (c.map V.int)->Q (.ref e) d
def nm5:zC:=["i","j","k","m","n"]
def tn3:zC:=["ta","tb","tc"]
def an5:zC:=["a","b","s0","d","e"]
theorem Dg:∀y∈nm5,y≠""/\PyData.strOk y=true:=by
 have h:nm5.all (λy=> ! decide (y="")&&PyData.strOk y)=true:=by decide+kernel
 intro y a;have:=List.all_eq_true.mp h y a;rw[qf]at this;exact⟨λz=>by (rw[kz z]at this;cases this.1),this.2⟩
theorem DI:nm5.Nodup:=by decide+kernel
theorem vh:(tn3++an5).Nodup/\∀y∈tn3++an5,PyData.strOk y=true:=by
 refine⟨by decide+kernel,?_⟩;have h:(tn3++an5).all (λy=>PyData.strOk y)=true:=by decide+kernel
 exact λy a=>List.all_eq_true.mp h y a
structure TbS(H G:Hp)(N ld ab shd lnl:zW)(nm:zC)(L:zR)(es:zB):Prop where
 kf:KF H G
 hN:G N=some (.lst (nm.map V.str))
 hld:G ld=some (.dK (nm.map λy=>((Sum.inr y:Key),V.int (L y))))
 hab:G ab=some (.dK (oO ld shd lnl 40))
 hsh:∃ak,G shd=some (.dK ak)/\AR (λb=>b≠lnl) G ak es
 hln:G lnl=some (.lst [])
theorem TbS.ki{N d a c:zW}(h:TbS H G N d ab a c nm L es)(k:KI G G'):TbS H G' N d ab a c nm L es:=by obtain⟨l,f,m⟩:=h.hsh;exact⟨h.kf.ki k,k.str h.hN,k.dk h.hld,k.dk h.hab,(ah l (k.dk f) (Paired.mapP m (by rintro _ _ ⟨j,b,i,e,g⟩;exact jU j b i e (k.str g)))),k _ _ (by intro n o z;cases z) h.hln⟩
theorem E7(a:∀y∈nm,1<=L y/\L y<=60)(h:∀y∈ys,y∈nm):jm ((ys.take 1).map L)<=60:=by
 cases ys with
 |nil=>show(1:Int)<=60;decide
 |cons y r=>
  show 1*L y<=60;have:=a y (h y (.head _))
  lia
theorem Ar:∀{zs:zM},(∀z∈zs,∃i,z=V.int i)->∃a:zI,zs=a.map V.int| [],_=>⟨[],rfl⟩|z::r,h=>by obtain⟨i,rfl⟩:=h z (.head _);obtain⟨a,rfl⟩:=Ar (zs:=r) λy b=>h y (.tail _ b);exact⟨i::a,rfl⟩
structure LnS(H G:Hp)(N ab lnl:zW)(x:Abt)(nm:zC)(L:zR)(T i:Nat)(es:zB)(rows:List LnM)(tb:zC)(ts:zM):Prop where
 at_:C3c G ab x L nm es
 ok:C8e L nm es
 left:x.left<=40
 hln:G lnl=some (.lst ts)
 hts:Paired (D3k lnl G) ts rows
 lr:rows.length=i
 les:es.length=T+i
 en:es.map (·.1)=tn3.take T++an5.take i
 row:∀k e,rows[k]?=some e->es[T+k]?=some (e.nm,e.own)/\B9k L nm (es.take (T+k+1)) e
 hN:G N=some (.lst (nm.map V.str))
 hD:G x.tb=some (.lst (tb.map V.str))
 kf:KF H G
theorem yI(h:Paired (D3k ln G) ts rows):LT (.lst ts):=by
 cases h with
 |nil=>exact True.intro
 |cons a _=>obtain⟨b,_,_,_,rfl,_⟩:=a;exact True.intro
theorem LnS.ki{N a:zW}{x:Abt}(h:LnS H G N ab a x nm L T i es rows tb ts)(k:KI G G'):LnS H G' N ab a x nm L T i es rows tb ts :=⟨h.at_.ki k,h.ok,h.left,k _ _ (yI h.hts).ni h.hln,Paired.mapP h.hts λ_ _ z=>z.kq (KQ.of k),h.lr,h.les,h.en,h.row,k.str h.hN,k.str h.hD,h.kf.ki k⟩
theorem Iw(T:Txt K mg t):FO P w base T.cU 14 (FF K):=by
 refine T.cU.F.ok mJ λ_ A _ s H _ Q E hr h=>?_
 ·obtain⟨a,ns,rfl,sc,hn,k⟩:=h;have hu:=lF hr;refine rsq (eg (iw 2 mJ.nd (mW mV (pv 0) nI (lY fe))) (eg ⟨kU (oG kQ PySem.F.slot_list_reverse PySem.F.type_list_reverse BM (pv 2))⟩ (eg (iw 3 mJ.nd (mW mV (@jF _ _ _ _ (al ip (al ip (al ip (al ip (al ip eH)))))) nI (lY (ib kI fe (ib jL (pcl (pW T) hr T.aA (fC 2)) fe))))) (eg (iw 4 mJ.nd sE) (eg (iw 5 mJ.nd (pcl (pW T) hr T.aA (fC 2))) (eg (je (ju (pv 3)) (ie (i:=6) mJ.nd) (fa ⟨@nG _ _ _ _ _ _ _ _ _ hu (pv 4) (pv 6) (ib kI fe (ib jL (pcl (pW T) hr T.aA (fC 2)) fe)) rfl⟩)) (mY (iP (iT kS (ib jL (pv 5) fe) fe) (fa ⟨@nG _ _ _ _ _ _ _ _ _ hu (pv 4) (jr kd (pv 3) (ib jL (ib lO (pv 5) fe) (kN T.ao (fC 3)))) (ib kI fe (ib jL (ib lO (pv 5) fe) fe)) rfl⟩) ⟨iJ⟩) (eg (iw 7 mJ.nd (EX (su ip (pv 4) (su ip sE (su ip ip (su ip (@jF _ _ _ _ eH) (su ip (pv 1) (su ip fe ER)))))) rfl rfl (by simp) (by decide))) (eg (je (pA rfl T.aM (al (ib jL (ib lO (pv 5) fe) fe) eH)) (ie (i:=8) mJ.nd) (eg (iw 9 mJ.nd (pcl (Bj T) hr T.cH (al (pcl (pW T) hr T.aA (fC 2)) (fC 3)))) (mY (iP (iT qo (pcl (vI T) hr T.bA (al (pv 9) (fC 4))) fe) (fa (iw 9 mJ.nd (mW mV (pv 9) nI (lY fe)))) ⟨iJ⟩) (fa ⟨@nG _ _ _ _ _ _ _ _ _ hu (iR hu (pv 7) ip) (jr kd (@jF _ _ _ _ (al ip (al ip (al ip eH)))) (pv 8)) (pv 9) rfl⟩)))) (eg ⟨@nG _ _ _ _ _ _ _ _ _ hu (pv 7) ip (AL (mH (N':=["_law_name"]) (ix:=(List.replicate 1 none)) rfl (oj rfl (by decide+kernel) (by decide+kernel)) (og rfl) (xa (iR hu (pv 7) ip)) (λ_ _ _ _=>(ie (i:=0) BQ)) (λ_ _ _ _=>(pv 0)))) rfl⟩ (eg (iw 10 mJ.nd (ib kI fe (ib jL (pcl (pW T) hr T.aA (fC 2)) fe))) (eg (je (pA rfl T.aM (fC 10)) (ie (i:=8) mJ.nd) (eg (iw 11 mJ.nd (mW mV (Gw (mW mV (pv 0) (lY fe) nI) (lY (pv 8)) nI (pv 10)) nI (lY fe))) (mY (iP (iT kS (ib jL (ib lO (jS (ud rfl) (by rfl) T.eQ PyProof.Rows.boot_sum (al (mW mV (pv 0) (lY fe) (lY fe)) eH)) fe) fe) fe) (fa (iw 11 mJ.nd (pcl (IL T) hr T.cF (al (jS (ud rfl) (by rfl) T.eQ PyProof.Rows.boot_sum (al (mW mV (pv 11) nI (lY fe)) eH)) (al fe eH))))) ⟨iJ⟩) (eg ⟨kU (oG kQ PySem.F.slot_list_reverse PySem.F.type_list_reverse BM (pv 11))⟩ (fa ⟨kU (pcl (Ho T) hr T.dE (al (pv 11) (al (pv 7) (al (pv 3) (al (jr kd (@jF _ _ _ _ (al ip (al ip (al ip (al ip (al ip eH)))))) (pv 8)) eH)))))⟩))))) (eg ⟨@jM _ _ 12 _ _ _ _ mJ.nd rfl (.inr rfl) (jS GC (by rfl) T.ao PySem.boot_len (al (iR hu (pv 7) ip) eH)) rfl (.inl rfl)⟩ (eg ⟨@jM _ _ 13 _ _ _ _ mJ.nd rfl (.inr rfl) (ib jL (ib lO (jS (ud rfl) (by rfl) T.eQ PyProof.Rows.boot_sum (al (mW mV (pv 0) nI (lY fe)) eH)) fe) (pv 12)) rfl (.inl rfl)⟩ (eg (iw 14 mJ.nd (ib kI fe (ib jL (ib lO (jS (ud rfl) (by rfl) T.eQ PyProof.Rows.boot_sum (al (mW mV (pv 0) (lY fe) (lY fe)) eH)) fe) fe))) (eg ⟨@jM _ _ 15 _ _ _ _ mJ.nd rfl (.inr rfl) (AL (mH (N':=["_law_name"]) (ix:=(List.replicate 1 none)) rfl (oj rfl (by decide+kernel) (by decide+kernel)) (og rfl) (xa (iR hu (pv 7) ip)) (λ_ _ _ _=>(ie (i:=0) BQ)) (λ_ _ _ _=>(pv 0)))) rfl (.inl rfl)⟩ (eg ⟨@nG _ _ _ _ _ _ _ _ _ hu (pv 7) ip (mH (N':=["_law_j","_law_arrays","_law_many_here","_law_start"]) (ix:=(List.replicate 1 none++[some 15,some 12,some 13])) rfl (sI (cl:=[("_law_start",_),("_law_many_here",_),("_law_arrays",_)]) (xs:=["_law_start","_law_many_here","_law_arrays"]) rfl (jO rfl rfl rfl trivial) rfl rfl (by decide+kernel) (by decide+kernel)) (sK (N0:=["_law_j"]) (xs:=["_law_arrays","_law_many_here","_law_start"]) (js:=[15,12,13]) (jO (hQ rfl (.inl rfl) (by walk_at"ix")) (hQ rfl (.inl rfl) (by walk_at"ix")) (hQ rfl (.inl rfl) (by walk_at"ix")) trivial)) (pA rfl T.aM (al (jS (Bd rfl) (by rfl) T.gS PyProof.Rows.boot_min (al (pv 14) (fC 12))) eH)) (λ_ _ _ _=>(ie (i:=0) Ij)) (λ_ _ _ _=>(jr (Al (K:=K) rfl) (pv 1) (ib oE (ib oE (pv 2) fe) (ib jL (ib kI (pv 3) (pv 0)) (pv 2)))))) rfl⟩ (fa (im (pv 7)))))))))))))))))))) ?_;obtain⟨m2,ez,lz,_⟩:=qD V.int ns none (some 10);refine iU _ rfl _ rfl a _ rfl sc.sq λr q8=>?_;rw[ez];refine hH _ rfl (.inl (jI rfl _ (SqL.of dh))) (iO r _ rfl rfl dh ?_);rw[rz,<-List.map_reverse];obtain⟨H1,s1,h1,R⟩:=nH (o:=.lst (m2.reverse.map V.int)) q8
  try rw[R]
  generalize m2.reverse=ms1 at h1;have k1:KI H H1:=KI.of s1;refine⟨iq rfl,λz0 p0=>?_⟩;have sz:A0l H1 (upd H1 z0 (.lst [V.str "i",.str "j",.str "k",.str "m",.str "n"])):=eh p0;have n5:upd H1 z0 (.lst [V.str "i",.str "j",.str "k",.str "m",.str "n"]) z0=some (.lst (nm5.map V.str)):=dh;generalize upd H1 z0 (.lst [V.str "i",.str "j",.str "k",.str "m",.str "n"])=H2 at sz n5;have h2:=sz _ _ h1;refine ii _ rfl r ms1 rfl h2 λc0 c8 H3 _ h3 o3 e3=>(fx _ _ rfl rfl (jN wD _ _ rfl rfl ?_));have l9:=pS h2 o3 e3;obtain⟨kk,ekk,kk1,kk5⟩:∃m:Nat,1+c0%5=(m:Int)/\1<=m/\m<=5:=(hH ((1+c0%5).toNat) (by lia) (by lia) (by lia));dsimp only;rw[ekk];refine ii _ rfl z0 _ rfl (SqL.of (l9.str n5)) λN hN=>?_;rw[sk];generalize hnm:nm5.take kk=nm;have t9:nm.length=kk:=by rw[<-hnm,iX];show min kk 5=kk;lia
  have e8:nm.Nodup:=by rw[<-hnm];exact DI.sublist (uE _ _)
  have k7:∀y∈nm,y≠""/\PyData.strOk y=true:=λy I=>Dg y (by rw[<-hnm]at I;exact nw I);obtain⟨H4,s4,q1,R⟩:=nH (o:=.lst (nm.map V.str)) hN
  try rw[R]
  have h4:=s4 _ _ h3;refine λM q9=>?_;obtain⟨H5,s5,o5,R⟩:=nH (o:=.dK []) q9
  try rw[R]
  refine ii _ rfl r c8 rfl (s5 _ _ h4) λc q2 H6 _ h6 o6 e6=>?_;have i1:=pS (s5 _ _ h4) o6 e6;have r0:KI H H6:=k1.trans ((KI.of sz).trans (l9.trans ((KI.of (s4.trans s5)).trans i1)));have m3:=i1.str (s5 _ _ q1);have n8:=i1.dk o5;refine jg _ rfl N rfl ⟨_,SqL.of m3⟩ ?_
  refine kr (K:=K) (a:=N) (xs:=nm.map V.str) (λi Z G=>∃(o6:zP)(ms:zI)(L:zR),Z=[Sro a,Sio 40,Sro r,Sro N,Sro M,Sio c,o6,none,none,none,none,none,none,none,none,none]/\KF H G/\G r=some (.lst (ms.map V.int))/\G N=some (.lst (nm.map V.str))/\G M=some (.dK ((nm.take i).map λy=>((Sum.inr y:Key),V.int (L y))))/\∀y∈nm.take i,1<=L y/\L y<=60)
   (nM none q2 (λ_=>1) rfl ((show KF H H from λ_ _ _ e=>e).ki r0) h6 m3 n8 (by intro y I;cases I)) (by (rintro i Z G _ W;refine iW W ?_;clear W;rintro _ _ _ _ _ _ ⟨h,_⟩);exact SqL.of h) ?_ ?_
  ·rintro i v Z G hv W;refine iW W ?_;clear W;rintro o6 ms L rfl s8 hr ⟨r8,o0,b3⟩;obtain⟨y,I,rfl⟩:=ko hv;have hi:i<nm.length:=(iG.mp I).1;refine ii _ rfl r ms rfl hr λc2 j7 G2 _ i9 o2 e2=>?_;have kG:=pS hr o2 e2;have d6:=kG.dk o0;refine fx _ _ rfl rfl (jN rN _ _ rfl rfl (iU _ rfl _ rfl M _ rfl (B4w.k (k:=Sum.inr y) d6 (iM (by rw[hA,iX];lia))) ?_))
   have l8:y∉nm.take i:=λz=>by
    obtain⟨j,hj⟩:=List.getElem?_of_mem z;have d9:j<i:=by have:=(iG.mp hj).1;rw[iX]at this;lia
    rw[List.getElem?_take_of_lt d9]at hj;have:=(List.getElem?_inj (by lia) e8).mp (hj.trans I.symm)
    lia
   rw[qG _ (xA (by rw[List.map_map];intro z;obtain⟨q,hq,e⟩:=kg.mp z;exact l8 (by rw[<-Sum.inr.inj e];exact hq)))];have ap:∀{b:zW}{u:HO},(∀i6,u≠.dK i6)->∀{o:HO},G2 b=some u->upd G2 M o b=some u:=λn o e=>by rw[dV (ir e d6 (n _))];exact e
   refine nM _ j7 (λz=>if z=y then 1+c2%4 else L z) rfl ((s8.ki kG).dk d6) (ap (by intro k z;cases z) i9) (ap (by intro k z;cases z) (kG.str r8)) ?_ ?_
   ·rw[dh,iF,I,iS,iK];have e1:(nm.take i).map (λz=>((Sum.inr z:Key),V.int (L z)))=(nm.take i).map λz=>((Sum.inr z:Key),V.int (if z=y then 1+c2%4 else L z)):=List.map_congr_left λz hz=>by rw[fy (λ(e:z=y)=>l8 (e▸hz))]
    rw[e1];simp
   ·intro z hz;rw[iF,I,iS]at hz;dsimp only;by_cases e:z=y
    ·rw[ia e];lia
    ·rw[fy e];exact b3 z ((ng.mp hz).resolve_right λq=>e (mL.mp q))
  rintro Z H7 W;refine iW W ?_;clear W;rintro f1 k0 L0 rfl h9 h7 ⟨d2,a4,c4⟩;rw[hA,iQ]at a4 c4;refine ah (λZ G=>∃L:zR,Z=[Sro a,Sio 40,Sro r,Sro N,Sro M,Sio c,f1,none,none,none,none,none,none,none,none,none]/\KF H G/\G r=some (.lst (k0.map V.int))/\G N=some (.lst (nm.map V.str))/\G M=some (.dK (nm.map λy=>((Sum.inr y:Key),V.int (L y))))/\∀y∈nm,1<=L y/\L y<=60) ?_ ?_
  ·refine ii _ rfl _ _ rfl rfl (kE rN rfl _ rfl (iC (λ_=>?_) (λ_=>⟨L0,(ke rfl h9 h7 d2 a4 c4)⟩)));obtain⟨y,I,ey⟩:=qE (f:=V.str) (xs:=nm) (i:=c/4%(nm.length:Int)) (oq _ (by lia)) (pF _ (by lia));refine me _ rfl _ _ rfl rfl ⟨by decide,by decide⟩ _ _ rfl rfl Ct (lx _ _ rfl rfl _ rfl (iU _ rfl _ rfl _ _ rfl rfl ⟨⟨by decide,by decide⟩,(ii _ rfl N _ rfl (.inl (SqL.of d2)) (iO _ _ rfl rfl (by show(0:Int)<((nm.map V.str).length:Int);rw[hA];lia) (jo N _ _ _ rfl rfl (SqL.of d2) (jN (by rw[hA];exact ey) M _ rfl (B4w.k (k:=Sum.inr y) a4 (iM (by rw[hA];lia))) ?_))))⟩));have ym:=iZ I;have e2:=ET (L:=L0) (v:=1+c/20%15) ym;have ap:∀{b:zW}{u:HO},(∀i6,u≠.dK i6)->∀{o:HO},H7 b=some u->upd H7 M o b=some u:=λn o e=>by rw[dV (ir e a4 (n _))];exact e
   refine⟨λz=>if z=y then 1+c/20%15 else L0 z,(ke rfl (h9.dk a4) (ap (by intro k z;cases z) h7) (ap (by intro k z;cases z) d2) (by rw[dh];exact congrArg (λz=>some (HO.dK z)) e2) λz hz=>?_)⟩;dsimp only;by_cases e:z=y
   ·rw[ia e];lia
   ·rw[fy e];exact c4 z hz
  rintro Z H8 W;refine oZ W ?_;clear W;rintro L rfl i8 ⟨h8,f3,c5,b3⟩;clear c4 a4 d2 h7 h9;have l1:B2d (nm.map λy=>((Sum.inr y:Key),V.int (L y))) L nm:=⟨rfl,e8,by lia,λy I=>(hQ ((b3 y I).1) ((b3 y I).2) (k7 y I))⟩;have q3:∀ys:zC,(∀y∈ys,y∈nm)->wG (nm.map λy=>((Sum.inr y:Key),V.int (L y))) L ys:=λys hs y I=>(hQ (l1.val (hs y I)) (by have:=b3 y (hs y I);lia) ((b3 y (hs y I)).2));refine λC k2=>?_;obtain⟨H9,s9,d8,R⟩:=nH (o:=.dK []) k2;have d7:C≠M:=(ik c5 k2).symm
  try rw[R]
  refine ah _ rfl λg a9=>?_;obtain⟨u0,f4,f0,R⟩:=nH (o:=.dK []) a9;have c1:C≠g:=ik d8 a9;have g2:g≠M:=(ik (s9 _ _ c5) a9).symm
  try rw[R]
  refine⟨iq rfl,λl e5=>?_⟩;obtain⟨d0,f8,b7,R⟩:=nH (o:=.lst []) e5;have Nln:N≠l:=ik ((s9.trans f4) _ _ f3) e5
  try rw[R]
  have S:=(f4.trans f8) _ _ d8;refine lQ _ rfl S (oO M g l 40) rfl ⟨by show 6<=15;decide,?_⟩;rw[Hz];have a0:=s9.trans (f4.trans f8);have up:∀{b:zW}{u:HO},b≠C->∀{o:HO},d0 b=some u->upd d0 C o b=some u:=λn o e=>by rw[dV n];exact e
  have e0:TbS H (upd d0 C (.dK (oO M g l 40))) N M C g l nm L []:=⟨(i8.ki (KI.of a0)).dk S,up (ir (a0 _ _ f3) S (by intro z;cases z)) (a0 _ _ f3),up d7.symm (a0 _ _ c5),dh,(ah [] (up c1.symm (f8 _ _ f0)) .nil),up (ir b7 S (by intro z;cases z)) b7⟩;have h0:upd d0 C (.dK (oO M g l 40)) r=some (.lst (k0.map V.int)):=up (ir (a0 _ _ h8) S (by intro z;cases z)) (a0 _ _ h8);generalize upd d0 C (.dK (oO M g l 40))=H12 at e0 h0;have d5:∀o u,H g≠some (.frz o u):=λo u z=>by have:=(i8.ki (KI.of s9)) _ _ _ z;rw[a9]at this;cases this
  clear a0 up S f8 b7 e5 f4 f0 a9 s9 d8 k2 c5 f3 h8 i8;obtain⟨tn,etn,tn3'⟩:∃m:Nat,c/2%4=(m:Int)/\m<=3:=(ah ((c/2%4).toNat) (by lia) (by lia));refine me _ rfl _ _ rfl rfl ⟨by decide,by decide⟩ _ _ rfl rfl rN (ky _ rfl (by lia) (by lia) ?_);rw[show(c/2%4:Int)=(tn:Int) from etn]
  refine rF (n:=tn) (λi Z G=>∃(o8 o9:zP)(ms:zI)(O:zB),Z=[Sro a,Sio 40,Sro r,Sro N,Sro M,Sio c,f1,Sro C,o8,o9,none,none,none,none,none,none]/\G r=some (.lst (ms.map V.int))/\TbS H G N M C g l nm L O/\C8e L nm O/\O.map (·.1)=tn3.take i)
   (jf none none k0 [] rfl h0 e0 ⟨List.nodup_nil,λe he=>(nomatch he),λe he=>(nomatch he),by simp,λe he=>(nomatch he)⟩ rfl) ?_ ?_
  ·rintro i Z G hi W;refine jy W ?_;clear W;rintro o8 o9 ms O rfl hr tb ⟨ok,en⟩;rw[Int.zero_add];refine ii _ rfl r ms rfl hr λc2 j7 G2 _ i9 o2 e2=>?_;have kG:=pS hr o2 e2;have h5:=tb.ki kG;refine ah _ rfl (nM c2 N nm rfl h5.hN (by lia) (by lia) e8 λys p G3 hp s3 b5 ax=>?_);have j6:=h5.ki (KI.of s3);have i4:p≠l:=(ik h5.hln hp).symm;have t1:=ax.few;refine ah (λZ G4=>∃(p:zW)(ys:zC),Z=[Sro a,Sio 40,Sro r,Sro N,Sro M,Sio c,f1,Sro C,Sio (i:Nat),Sro p,none,none,none,none,none,none]/\A0l G3 G4/\p≠l/\G4 p=some (.lst (ys.map V.str))/\AxN nm ys/\jm (ys.map L)<=60) ?_ ?_
   ·refine ah _ rfl (jW _ rfl p M ys _ L rfl b5 j6.hld (q3 _ ax.sub) (by lia) λG4 s4=>(lx _ _ rfl rfl _ rfl (iC (λh=>?_) (λh=>?_))))
    ·refine iU _ rfl _ rfl p _ rfl (SqL.of (s4 _ _ b5)) λp' o7=>?_;exact pD p' (ys.take 1) rfl (s4.trans (eh o7)) ((ik (s4 _ _ j6.hln) o7).symm) (by rw[dh];exact congrArg (λz=>some (HO.lst z)) (sk (i:=1))) (ax.take 1) (E7 b3 ax.sub)
    ·have h:¬60<prd L ys:=h;rw[vn]at h;exact pD p ys rfl s4 i4 (s4 _ _ b5) ax (by lia)
   rintro Z G4 W;refine jC W ?_;clear W;rintro p ys rfl s4 i4 ⟨f9,ax,pr⟩;have m4:=j6.ki (KI.of s4);have g6:B0p G4 C (.str "shapes") (some (.ref g)):=.inl (fx _ (Sum.inr "shapes") (.inl m4.hab) rfl ((BI M g l 40).symm));refine iU _ rfl _ rfl C _ rfl g6 ⟨iq rfl,λz hz=>?_⟩;have f6:A0l G4 (upd G4 z (.lst [V.str "ta",.str "tb",.str "tc"])):=eh hz;have l4:upd G4 z (.lst [V.str "ta",.str "tb",.str "tc"]) z=some (.lst (tn3.map V.str)):=dh;generalize upd G4 z (.lst [V.str "ta",.str "tb",.str "tc"])=G5 at f6 l4;have c6:=m4.ki (KI.of f6);obtain⟨y,I,ey⟩:=qE (f:=V.str) (xs:=tn3) (i:=(i:Int)) (by lia) (by show(i:Int)<(3:Int);lia);rw[Int.toNat_natCast]at I;obtain⟨ak,U,ar⟩:=c6.hsh;have c7:=Paired.length ar;have j2:O.length<=3:=by have:=congrArg List.length en;rw[hA,iX]at this;lia
   have yn:y∉O.map (·.1):=λq=>by
    rw[en]at q;obtain⟨j,hj⟩:=List.getElem?_of_mem q;have d9:j<i:=by have:=(iG.mp hj).1;rw[iX]at this;lia
    rw[List.getElem?_take_of_lt d9]at hj;have:=(List.getElem?_inj (by show j<3;lia) (show tn3.Nodup from (qj.mp vh.1).1)).mp (hj.trans I.symm)
    lia
   refine i12 _ rfl z _ _ _ rfl rfl (SqL.of l4) ey (fx g _ rfl (B4w.k (k:=Sum.inr y) U (iM (by lia))) ?_);rw[qG _ (xl ar yn)];have up:∀{b:zW}{u:HO},b≠g->∀{o:HO},G5 b=some u->upd G5 g o b=some u:=λn o e=>by rw[dV n];exact e
   have ul:∀{b:zW}{xs:zM}{o:HO},G5 b=some (.lst xs)->upd G5 g o b=some (.lst xs):=λe=>up (ir e U (by intro z;cases z)) e;have i7:=f6 _ _ f9;refine jf _ _ j7 (O++[(y,ys)]) rfl (ul (f6 _ _ (s4 _ _ (s3 _ _ i9)))) ⟨c6.kf.dk U,ul c6.hN,up g2.symm c6.hld,up c1 c6.hab,(ah _ dh (jZ (Paired.mapP ar (by rintro _ _ ⟨z1,b,z2,z3,z4⟩;exact jU z1 b z2 z3 (ul z4))) (.cons (jU rfl p rfl i4 (ul i7)) .nil))),ul c6.hln⟩ (ok.snoc yn (vh.2 y (qV _ (iZ I))) ax pr (by lia)) ?_;rw[iK,en,iF,I];rfl
  rintro Z j5 W;refine jy W ?_;clear W;rintro t2 l6 l7 a5 rfl m5 b0 ⟨r9,l2⟩;have lT:a5.length=tn:=by have:=congrArg List.length l2;rw[hA,iX]at this;have:tn3.length=3:=rfl;lia
  have g6:B0p j5 C (.str "shapes") (some (.ref g)):=.inl (fx _ (Sum.inr "shapes") (.inl b0.hab) rfl ((BI M g l 40).symm));obtain⟨ak,U,ar⟩:=b0.hsh;have c7:=Paired.length ar;refine ii _ rfl C _ rfl g6 (fx g ak rfl U λo D hD=>?_);have Da:D≠g:=λz=>by subst z;rw[dh]at hD;cases hD
  refine sM (J:=Itd g o ak) (D:=D) ak.length (λi ys Hx=>A0l (upd j5 g (.frz o (.dK ak))) Hx/\Hx D=some (.lst ys)/\ys=((a5.take i).map (·.1)).map V.str) (hQ (eh hD) dh rfl) (by rintro i ys Hx hi ⟨s2,_⟩;exact⟨s2 _ _ dh,hi⟩) (by rintro ys Hx ⟨s2,_⟩;exact⟨s2 _ _ dh,rfl⟩) ?_ ?_
  ·rintro i ys Hx hi ⟨sx,Y,rfl⟩ y Hy ⟨rfl,k',v,i3,rfl⟩;obtain⟨e,he,ek,_⟩:=ja ar i3;have ek:k'=Sum.inr e.1:=ek;subst ek;refine jI True.intro _ (ke rfl Y (iM (by simp;lia)) (jn sx hD) dh ?_);rw[iF,he,iS,iK,iK];rfl
  rintro ys Hx ⟨sx,Y,rfl⟩;rw[c7,iQ]at Y;refine mi g o _ (sx _ _ dh) d5 ?_;have st:A0l j5 (upd Hx g (.dK ak)):=um U sx;have j4:upd Hx g (.dK ak) D=some (.lst ((a5.map (·.1)).map V.str)):=by rw[dV Da];exact Y
  have Dln:D≠l:=λz=>by subst z;rw[dV Da]at hD;rw[b0.hln]at hD;cases hD
  generalize upd Hx g (.dK ak)=H14 at st j4;clear sx Y;have X:=b0.ki (KI.of st);refine ii _ rfl C _ rfl (B4w.k (k:=Sum.inr "tables") X.hab (iM (by show 6<=1000000;decide))) ?_;rw[EN];have b9:=X.hab;have up:∀{b:zW}{u:HO},b≠C->∀{o:HO},H14 b=some u->upd H14 C o b=some u:=λn o e=>by rw[dV n];exact e
  have ul:∀{b:zW}{xs:zM}{o:HO},H14 b=some (.lst xs)->upd H14 C o b=some (.lst xs):=λe=>up (ir e b9 (by intro z;cases z)) e
  have g1:LnS H (upd H14 C (.dK (abK ⟨M,g,"",l,40,1500,D⟩))) N C l ⟨M,g,"",l,40,1500,D⟩ nm L tn 0 a5 [] (a5.map (·.1)) []:=by obtain⟨j3,e7,k3⟩:=X.hsh;exact⟨⟨dh,(ah _ (up d7.symm X.hld) l1),(ah j3 (up c1.symm e7) (Paired.mapP k3 (by rintro _ _ ⟨z1,b,z2,z3,z4⟩;exact jU z1 b z2 z3 (ul z4)))),c1,d7,g2⟩,r9,by show(40:Int)<=40;decide,ul X.hln,.nil,rfl,lT,by rw[l2];simp,λk e he=>by simp at he,ul X.hN,ul j4,X.kf.dk b9⟩
  have i2:upd H14 C (.dK (abK ⟨M,g,"",l,40,1500,D⟩)) r=some (.lst (l7.map V.int)):=ul (st _ _ m5);generalize upd H14 C (.dK (abK ⟨M,g,"",l,40,1500,D⟩))=H15 at g1 i2;clear ul up b9 X st j4 hD Da U ar g6 m5 b0 h0 e0;refine ii _ rfl r l7 rfl i2 λc3 m7 t4 _ t3 s0 r7=>(fx _ _ rfl rfl (jN wD _ _ rfl rfl ?_));have n7:=g1.ki (pS i2 s0 r7);obtain⟨tl,etl,tl1,tl5⟩:∃m:Nat,1+c3%5=(m:Int)/\1<=m/\m<=5:=(hH ((1+c3%5).toNat) (by lia) (by lia) (by lia));show nX 10 (V.int (1+c3%5)) _ _ _;rw[etl];refine jg _ rfl _ rfl (by lia) ⟨(by lia),?_⟩
  refine rF (n:=tl) (λi Z G=>∃(o8 g9:zP)(d3:Str)(a6 a8:Int)(O:zB)(a3:List LnM)(ts:zM),Z=[Sro a,Sio 40,Sro r,Sro N,Sro M,Sio c,f1,Sro C,o8,l6,Sio (tl:Nat),g9,none,none,none,none]/\LnS H G N C l ⟨M,g,d3,l,a6,a8,D⟩ nm L tn i O a3 (a5.map (·.1)) ts)
   (lA _ none "" 40 1500 (ku a5 [] [] rfl n7)) ?_ ?_
  ·rintro i Z G hi W;refine kF W ?_;clear W;rintro o8 g9 d3 a6 a8 ⟨O,a3,ts,rfl,ls⟩;rw[Int.zero_add];have f2:=sc.kf ls.kf;obtain⟨z9,e9,_,_⟩:=qD V.int ns (some 9) none;refine iU _ rfl _ rfl a _ rfl f2.sq λp1 c9=>?_;rw[e9];have s1:A0l G (upd G p1 (.lst (z9.map V.int))):=eh c9;refine ah _ rfl (mf _ rfl _ rfl p1 _ _ _ rfl rfl rfl rfl (jO (by lia) (by lia) (SqL.of dh) λp2 zs d1 _ mz=>?_));obtain⟨c8,rfl⟩:=Ar (zs:=zs) λz hz=>by obtain⟨q,_,rfl⟩:=kg.mp (mz z hz);exact⟨q,rfl⟩
   have s2:=s1.trans (eh (o:=.lst (c8.map V.int)) d1);obtain⟨b8,q7,_,_⟩:=qD V.int c8 none (some 20);refine ii _ rfl p2 _ rfl (SqL.of dh) λp3 b5=>?_;rw[q7];have s3:=s2.trans (eh (o:=.lst (b8.map V.int)) b5);have g3:G p3=none:=s2.free b5;have g7:upd (upd (upd G p1 (.lst (z9.map V.int))) p2 (.lst (c8.map V.int))) p3 (.lst (b8.map V.int)) p3=some (.lst (b8.map V.int)):=dh;generalize upd (upd (upd G p1 (.lst (z9.map V.int))) p2 (.lst (c8.map V.int))) p3 (.lst (b8.map V.int))=G3 at s3 g7;clear s1 s2 c9 d1 b5 mz;have m6:=f2.ki (KI.of s3);refine ah (λZ G4=>∃(D4:zW)(ms:zI),Z=[Sro a,Sio 40,Sro r,Sro N,Sro M,Sio c,f1,Sro C,Sio (i:Nat),l6,Sio (tl:Nat),Sro D4,none,none,none,none]/\A0l G G4/\G D4=none/\G4 D4=some (.lst (ms.map V.int))) ?_ ?_
   ·obtain⟨z2,j8,_,_⟩:=qD V.int ns (some 1) (some 2);refine ah _ rfl (iU _ rfl _ rfl a _ rfl m6.sq λp4 f9=>?_);rw[j8];have s4:=s3.trans (eh (o:=.lst (z2.map V.int)) f9);have g4:upd G3 p4 (.lst (z2.map V.int)) p3=some (.lst (b8.map V.int)):=oW f9 g7;refine fx p4 _ rfl (SqL.of dh) λsm=>(fx _ _ rfl rfl (jN ⟨by decide,by decide⟩ _ _ rfl rfl (kE uY rfl _ rfl (iC (λ_=>?_) (λ_=>(iO p3 b8 rfl s4 g3 g4))))));obtain⟨z1,i5,_,_⟩:=qD V.int b8 none (some 1);refine iU _ rfl _ rfl p3 _ rfl (SqL.of g4) λp5 i7=>?_;rw[i5];have s5:=s4.trans (eh (o:=.lst (z1.map V.int)) i7);refine fx p5 _ rfl (SqL.of dh) λg0=>(iO g0 20 rfl (by decide) (by decide) λp6 m7 G6 q6 s6 h6 _=>(iO p6 m7 rfl (s5.trans s6) (s5.free q6) h6))
   rintro Z G4 ⟨D4,ms,rfl,s4,gD,i0⟩;refine hH _ rfl (.inl (jI rfl _ (SqL.of i0))) (iO D4 _ rfl rfl i0 ?_);rw[<-List.map_reverse];have s5:A0l G (upd G4 D4 (.lst (ms.reverse.map V.int))):=jn s4 gD;have n6:upd G4 D4 (.lst (ms.reverse.map V.int)) D4=some (.lst (ms.reverse.map V.int)):=dh;generalize upd G4 D4 (.lst (ms.reverse.map V.int))=G5 at s5 n6;clear s4 i0;refine ah _ rfl (jg _ rfl _ rfl (iq rfl) λz hz=>?_);have s6:A0l G5 (upd G5 z (.lst [V.str "a",.str "b",.str "s0",.str "d",.str "e"])):=eh hz;have o4:upd G5 z (.lst [V.str "a",.str "b",.str "s0",.str "d",.str "e"]) z=some (.lst (an5.map V.str)):=dh;generalize upd G5 z (.lst [V.str "a",.str "b",.str "s0",.str "d",.str "e"])=G6 at s6 o4;obtain⟨y,I,ey⟩:=qE (f:=V.str) (xs:=an5) (i:=(i:Int)) (by lia) (by show(i:Int)<(5:Int);lia);rw[Int.toNat_natCast]at I;have a1:=ls.ki (KI.of (s5.trans s6))
   have yn:y∉O.map (·.1):=λq=>by
    rw[ls.en]at q;have nd:=vh.1;rw[qj]at nd;rcases ng.mp q with q|q
    ·exact nd.2.2 _ (nw q) _ (iZ I) rfl
    ·obtain⟨j,hj⟩:=List.getElem?_of_mem q;have d9:j<i:=by have:=(iG.mp hj).1;rw[iX]at this;lia
     rw[List.getElem?_take_of_lt d9]at hj;have:=(List.getElem?_inj (by show j<5;lia) nd.2.1).mp (hj.trans I.symm)
     lia
   have j2:=ls.les;have t7:=Paired.length ls.hts;have lr:=ls.lr;have m9:=vh.2 y (ow _ (iZ I));refine i12 _ rfl z _ _ _ rfl rfl (SqL.of o4) ey (lA D4 C N y ms.reverse (jk ⟨M,g,d3,l,a6,a8,D⟩ L nm O ts rfl (s6 _ _ n6) a1.at_ a1.ok (by lia) (jH a1.hN Nln (by lia) yn (ke m9 a1.left a1.hln (yI a1.hts) (by lia) ?_))));rintro ys zs u v ⟨p9,s7,m1,q0,j9,k4,r4⟩ G7 e1 e2 e3 e4 r3 a7 r5 k8 k5 r6 f7;have e1:p9=M:=e1;have e2:s7=g:=e2;have e3:q0=l:=e3;have e4:r4=D:=e4;subst e1 e2 e3 e4;refine lA _ _ m1 j9 k4 (ku (O++[(y,ys)]) (a3++[⟨y,ys,zs,u⟩]) (ts++[v]) rfl ⟨a7,r5,r3,k5,jZ (Paired.mapP a1.hts λ_ _ z=>z.kq f7) (.cons r6 .nil),by simp[lr],by simp[j2];lia,?_,?_,f7.str Nln a1.hN,f7.str Dln a1.hD,a1.kf.kq f7 a1.hln⟩)
   ·rw[iK,ls.en,iF,I,nR];rfl
   ·intro k e hk;rcases Nat.lt_or_ge k i with p8|p8
    ·rw[lD (by lia)]at hk;obtain⟨r1,r2⟩:=ls.row k e hk;rw[lD (by lia),List.take_append_of_le_length (by lia)];exact⟨r1,r2⟩
    ·have hl:=(iG.mp hk).1;rw[jc,tf]at hl;have p7:k=a3.length:=by lia
     rw[p7,nP (ig _),Nat.sub_self]at hk;have hk:(⟨y,ys,zs,u⟩:LnM)=e:=lI hk;subst hk;have l0:tn+k=O.length:=by lia
     rw[l0,nP (ig _),Nat.sub_self,sX (by simp)];exact⟨rfl,k8⟩
  rintro Z t0 W;refine kF W ?_;clear W;rintro o8 g9 d3 a6 a8 ⟨O,a3,ts,rfl,ls⟩;generalize hx:(⟨M,g,d3,l,a6,a8,D⟩:Abt)=x at ls;have l5:x.sh=g:=by rw[<-hx]
  have m8:x.ln=l:=by rw[<-hx]
  have j2:=ls.les;have lr:=ls.lr;obtain⟨ak,U,ar⟩:=ls.at_.sh;have c7:=Paired.length ar;refine ii _ rfl C _ rfl (ls.at_.get (sJ x)) (fx x.sh ak rfl U ?_);rw[c7];have f2:=sc.kf ls.kf;obtain⟨z1,i5,_,_⟩:=qD V.int ns none (some 1);refine iU _ rfl _ rfl a _ rfl f2.sq λp1 c9=>?_;rw[i5];obtain⟨t8,j0,g5,R⟩:=nH (o:=.lst (z1.map V.int)) c9
  try rw[R]
  refine fx p1 _ rfl (SqL.of g5) λj1=>(iO _ _ rfl rfl ⟨by decide,by decide⟩ (ii _ rfl _ _ rfl rfl ⟨(by show(0:Int)<(O.length:Int);lia),?_⟩));obtain⟨z2,j8,_,_⟩:=qD V.int ns (some 1) (some 2);refine ah _ rfl (iU _ rfl _ rfl a _ rfl ((f2.ki (KI.of j0)).sq) λp2 d1=>?_);rw[j8];obtain⟨l3,n0,g8,R⟩:=nH (o:=.lst (z2.map V.int)) d1
  try rw[R]
  refine fx p2 _ rfl (SqL.of g8) λg0=>(fx _ _ rfl rfl (jN ⟨by decide,by decide⟩ _ _ rfl rfl (jN uY _ _ rfl rfl ?_)));have d4:=ls.ki (KI.of (j0.trans n0));clear j0 n0 g5 g8 c9 d1 U ar;obtain⟨ak,U,ar⟩:=d4.at_.sh;have c7:=Paired.length ar;refine ii _ rfl C _ rfl (d4.at_.get (sJ x)) (fx x.sh ak rfl U λo B hB=>?_);have Ba:B≠x.sh:=λz=>by subst z;rw[dh]at hB;cases hB
  refine sM (J:=Itd x.sh o ak) (D:=B) ak.length (λi ys Hx=>A0l (upd l3 x.sh (.frz o (.dK ak))) Hx/\Hx B=some (.lst ys)/\ys=((O.take i).map (·.1)).map V.str) (hQ (eh hB) dh rfl) (by rintro i ys Hx hi ⟨s2,_⟩;exact⟨s2 _ _ dh,hi⟩) (by rintro ys Hx ⟨s2,_⟩;exact⟨s2 _ _ dh,rfl⟩) ?_ ?_
  ·rintro i ys Hx hi ⟨sx,Y,rfl⟩ y Hy ⟨rfl,k',v,i3,rfl⟩;obtain⟨e,he,ek,_⟩:=ja ar i3;have ek:k'=Sum.inr e.1:=ek;subst ek;refine jI True.intro _ (ke rfl Y (iM (by simp;lia)) (jn sx hB) dh ?_);rw[iF,he,iS,iK,iK];rfl
  rintro ys Hx ⟨sx,Y,rfl⟩;rw[c7,iQ]at Y;refine mi x.sh o _ (sx _ _ dh) (by rw[l5];exact d5) ?_;have st:A0l l3 (upd Hx x.sh (.dK ak)):=um U sx;have k9:upd Hx x.sh (.dK ak) B=some (.lst ((O.map (·.1)).map V.str)):=by rw[dV Ba];exact Y
  generalize upd Hx x.sh (.dK ak)=H20 at st k9;clear sx Y;have n4:=d4.ki (KI.of st);refine jB _ rfl _ rfl (jV _ _ rfl ?_);generalize hm:(if ((O.length:Nat):Int)<1+g0/7%2 then ((O.length:Nat):Int)else 1+g0/7%2)=m;have t5:m<=2:=by rw[<-hm];split<;>lia
  have t6:0<=m:=by rw[<-hm];split<;>lia
  refine ky _ rfl (by lia) (by lia) λD2 m0=>?_;refine sM (D:=D2) m.toNat (λi vs G=>A0l H20 G/\G D2=some (.lst vs)/\∃os:zC,vs=os.map V.str/\os.length=i/\∀o∈os,o∈O.map (·.1)) ⟨eh m0,(jU dh [] rfl rfl (by intro o ho;cases ho))⟩ (λi ys G hi _=>hi) (λys G _=>ig _) ?_ ?_
  ·rintro i vs G hi ⟨sG,hG,os,rfl,lo,mo⟩ v G2 ⟨rfl,rfl⟩;rw[Int.zero_add];have b1:=oq (j1/5%(O.length:Int)+(i:Int)) (show(O.length:Int)≠0 by lia);have b2:=pF (j1/5%(O.length:Int)+(i:Int)) (show(0:Int)<(O.length:Int)by lia);obtain⟨y,I,ey⟩:=qE (f:=V.str) (xs:=O.map (·.1)) (i:=(O.length:Int)-1-(j1/5%(O.length:Int)+(i:Int))%(O.length:Int)) (by lia) (by rw[hA];lia);refine⟨(jO rfl rfl rfl True.intro),(iU _ rfl _ rfl _ _ rfl rfl (iU _ rfl _ rfl _ _ rfl rfl (ii _ rfl _ _ rfl rfl (jN (by show(0:Int)<(O.length:Int);lia) _ _ rfl rfl (jf B _ _ _ rfl rfl (SqL.of (sG _ _ k9)) ey ?_)))))⟩;refine jO hG (iM (by rw[hA];lia)) (jn sG m0) (jU dh (os++[y]) (by simp) (by simp[lo]) λo ho=>?_);rcases ng.mp ho with ho|ho
   ·exact mo o ho
   ·rw[mL.mp ho];exact iZ I
  rintro vs f5 ⟨q4,n9,os,rfl,lo,mo⟩;have a2:=n4.ki (KI.of q4);refine ii _ rfl C _ rfl (B4w.k (k:=Sum.inr "outs") a2.at_.d (iM (by show 7<=1000000;decide))) ?_;rw[EV];have b4:=a2.at_.d;have b6:=a2.at_;have up:∀{b:zW}{u:HO},b≠C->∀{o:HO},f5 b=some u->upd f5 C o b=some u:=λn o e=>by rw[dV n];exact e
  have ul:∀{b:zW}{xs:zM}{o:HO},f5 b=some (.lst xs)->upd f5 C o b=some (.lst xs):=λe=>up (ir e b4 (by intro z;cases z)) e;obtain⟨q5,k6,o1⟩:=b6.le;obtain⟨j3,e7,k3⟩:=b6.sh;refine ah _ rfl (k C x D2 L nm O (a5.map (·.1)) tn a3 os _ ⟨dh,(ah q5 (up b6.n2.symm k6) o1),(ah j3 (up b6.n1.symm e7) (Paired.mapP k3 (by rintro _ _ ⟨z1,b,z2,z3,z4⟩;exact jU z1 b z2 z3 (ul z4)))),(ah ts (by rw[m8];exact ul a2.hln) ?_),ul a2.hD,ul n9,b6.n1,b6.n2,b6.n3⟩ ⟨ls.ok,by rw[hA];lia,by lia,ls.row,mo,by lia,by lia,by lia⟩ (by rw[l5];exact d5) ((sc.kf a2.kf).dk b4));rw[m8];exact Paired.mapP a2.hts λ_ _ z=>z.kq (KQ.dk b4)
theorem sP(x:Abt)(a:zW):ic (abF x a) (Sum.inr "lengths")=some (.ref x.ld):=by unfold abF abK;walk_at"ab"
theorem vD(x:Abt)(a:zW):ic (abF x a) (Sum.inr "shapes")=some (.ref x.sh):=by unfold abF abK;walk_at"ab"
theorem sC(x:Abt)(a:zW):ic (abF x a) (Sum.inr "lines")=some (.ref x.ln):=by unfold abF abK;walk_at"ab"
theorem Hv(x:Abt)(a:zW):ic (abF x a) (Sum.inr "tables")=some (.ref x.tb):=by unfold abF abK;walk_at"ab"
theorem wZ(x:Abt)(a:zW):ic (abF x a) (Sum.inr "outs")=some (.ref a):=by unfold abF abK;walk_at"ab"
theorem AbF.get{x:Abt}{a:zW}(h:AbF H ab x a L nm es tb rows os){k:Str}(e:ic (abF x a) (Sum.inr k)=some v):B0p H ab (.str k) (some v):=.inl (fx _ (Sum.inr k) (.inl h.d) rfl e.symm)
theorem AbF.same{x:Abt}{a:zW}(h:AbF H ab x a L nm es tb rows os)(s:A0l H H'):AbF H' ab x a L nm es tb rows os:=by obtain⟨b,e,i⟩:=h.le;obtain⟨l,j,f⟩:=h.sh;obtain⟨c,g,k⟩:=h.li;exact⟨s _ _ h.d,(ah b (s _ _ e) i),(ah l (s _ _ j) (f.same s)),(ah c (s _ _ g) (Paired.mapP k λ_ _ z=>z.kq (KQ.of (KI.of s)))),s _ _ h.ta,s _ _ h.ou,h.n1,h.n2,h.n3⟩
structure ClF(A:Adr)(H:Hp)(p:zW)(L:zR)(nm:zC)(es:zB)(rows:List LnM)(os:zC):Prop where
 ex:∃(dx l a tb ln o:zW)(lk ak:zJ)(xs:zM),H p=some (clo A dx 97 l a tb ln o)/\H l=some (.dK lk)/\B2d lk L nm/\H a=some (.dK ak)/\AR (λ_=>True) H ak es/\H o=some (.lst (os.map V.str))/\H ln=some (.lst xs)/\uc A [] H xs rows/\l≠a
theorem ClF.same(h:ClF A H p L nm es rows os)(s:A0l H H'):ClF A H' p L nm es rows os:=by refine lC h.ex ?_;rintro k l a d u o j g c ⟨m,i,n,f,r,b,e,q,t⟩;exact⟨k,l,a,d,u,o,j,g,c,s _ _ m,s _ _ i,n,s _ _ f,r.same s,s _ _ b,s _ _ e,Paired.mapP q λ_ _ z=>z.same s,t⟩
def Gm(A:Adr):Sp:=λh H Q _=>∃(f:zW)(x:Abt)(i:zW)(L:zR)(c:zC)(d:zB)(g:zC)(T:Nat)(a:List LnM)(b:zC),h=[.ref f]/\AbF H f x i L c d g a b/\mN L c d g T a b/\∀(p:zW)(e:Hp),A0l H e->ClF A e p L c d a b->Q (.ref p) e
theorem Ag{L:zR}:∀nm:zC,u8 (nm.map λy=>((Sum.inr y:Key),V.int (L y))) (nm.map L)| []=>.nil|_::r=>.cons rfl (Ag r)
theorem B2u.keep{M':zQ}(h:B2u A M H v e)(f:∀b u,b∉M->(∀xs,u≠.lst xs\/True)->H b=some u->b∉M'/\H' b=some u)(g:∀b C d fs,H b=some (.ins C d fs)->H' b=some (.ins C d fs)):B2u A M' H' v e:=by refine nN h ?_;clear h;rintro a s c u n rfl r m k l ⟨j,q⟩;have i:∀xs:zM,∀p:zM,HO.lst xs≠.lst p\/True:=λ_ _=>.inr True.intro;refine jk a s c u n rfl (g _ _ _ _ r) ((f _ _ m (λ_=>.inr True.intro) k).1) ((f _ _ m (λ_=>.inr True.intro) k).2) ((f _ _ l (λ_=>.inr True.intro) j).1) ⟨(f _ _ l (λ_=>.inr True.intro) j).2,q.imp λb o e=>?_⟩;have:=f b o (jT e).1 (λ_=>.inr True.intro) (jT e).2;exact kj this.1 this.2
theorem HP(T:Txt K mg t):FO P w base T.cT 15 (Gm t):=by
 refine T.cT.F.ok sN λ_ A _ s H _ Q E hr h=>?_
 ·refine lC h ?_;clear h;rintro ab x ol L nm es tb T0 a7 ⟨os,rfl,af,M,k⟩;have hu:=lF hr;have fr:=M.fr;refine rsq (eg (iw 1 sN.nd (@jF _ _ _ _ eH)) (eg (je (ju (iR hu (pv 0) ip)) (lK (n:=4) rfl (iY (ie (i:=2) sN.nd) (iY (ie (i:=3) sN.nd) (iY (ie (i:=4) sN.nd) (iY (ie (i:=5) sN.nd) lN))))) (fa ⟨kU (lJ kQ nU nT nK (pv 1) (al (pmk T.gK (Jv T) hr T.gT T.bP.b (al (pv 2) (al (oI vY (by rfl) T.bt pG (fC 3)) (al (oI vY (by rfl) T.bt pG (fC 4)) (al (pcl (A7 T 6) hr T.bw (fC 5)) eH))))) eH))⟩)) (fa (im (pmk T.gi (JM T) hr T.gP T.bD.b (al fe (al (iR hu (pv 0) ip) (al (iR hu (pv 0) ip) (al (iR hu (pv 0) ip) (al (pv 1) (al (iR hu (pv 0) ip) eH))))))))))) ?_;refine⟨iq rfl,λLL b1=>?_⟩;have s1:A0l H (upd H LL (.lst [])):=eh b1;obtain⟨ts,a6,b2⟩:=af.li;have c4:=Paired.length b2;refine ii _ rfl ab _ rfl ((af.same s1).get (sC x ol)) (hH x.ln rfl ⟨_,SqL.of (s1 _ _ a6)⟩ ?_)
  refine kr (K:=K) (a:=x.ln) (xs:=ts) (λi Z G=>∃(o2 o3 o4 o5:zP)(N:zM),Z=[Sro ab,Sro LL,o2,o3,o4,o5]/\A0l H G/\G LL=some (.lst N)/\uc t [LL] G N (a7.take i))
   ⟨none,(jo none none none [] rfl s1 dh .nil)⟩ (by (rintro i Z G _ R;refine kF R ?_;clear R;rintro _ _ _ _ _ ⟨_,s2,_⟩);exact SqL.of (s2 _ _ a6)) ?_ ?_
  ·rintro i v Z G hv R;refine kF R ?_;clear R;rintro o2 o3 o4 o5 N ⟨rfl,O,hG,Y⟩;obtain⟨e,he,b,c,d,tv,rfl,_,hb,_,hc,_,hd,tr⟩:=ja b2 hv;obtain⟨d8,gd⟩:=M.row i e he;have hi:=(iG.mp he).1;have a8:=Paired.length Y;rw[iX]at a8;have d9:=gd.ax.few;have d3:=gd.few;refine fx b _ rfl (SqT.of (O _ _ hb)) (sU rfl _ _ rfl _ _ rfl _ _ rfl _ _ rfl rfl ?_);refine hH _ rfl (.inl (jI rfl _ (SqL.of hG))) (iU _ rfl _ rfl c _ rfl (.inl (SqL.of (O _ _ hc))) λc2 b8=>?_);obtain⟨G1,t1,g1,U⟩:=nH (o:=.lst (e.own.map V.str)) b8
   try rw[U]
   refine ii _ rfl d _ rfl (.inl (SqL.of (t1 _ _ (O _ _ hd)))) λd2 c0=>?_;obtain⟨G2,t2,g2,U⟩:=nH (o:=.lst (e.sums.map V.str)) c0
   try rw[U]
   have b6:=O.trans (t1.trans t2);refine ah _ rfl (jA tv e.tm rfl (tr.same λb o z=>b6 _ _ (jT z).2) gd.tm.dp gd.tm.gd λnv G3 t3 ob=>?_);refine λD f a1 a0 c6=>?_;have B:=t3 _ _ (t2 _ _ (t1 _ _ hG));have m:A0l G3 (upd (upd G3 f (.own D)) D (.ins t.ae f [])):=jn (eh a0) a1;have g4:upd (upd G3 f (.own D)) D (.ins t.ae f []) D=some (.ins t.ae f []):=dh;generalize upd (upd G3 f (.own D)) D (.ins t.ae f [])=G4 at m g4;refine lj D f c2 (jk d2 nv e.nm e.own e.sums rfl g4 (m _ _ (t3 _ _ (t2 _ _ g1))) (m _ _ (t3 _ _ g2)) (by lia) ⟨by lia,λc3 u3 G5 b0 a3 c1 d0 b4 kb=>⟨rfl,?_⟩⟩);have X:A0l G3 G5:=λb o z=>kb _ _ (ik z a1) (m _ _ z);have S:=X _ _ B;refine jX LL _ _ rfl rfl S (iM (by lia)) ?_;have J:A0l G G5:=t1.trans (t2.trans (t3.trans X));have up:∀{b:zW}{u:HO}{o:HO},b≠LL->G5 b=some u->upd G5 LL o b=some u:=λn z=>by rw[dV n];exact z
   have nl:∀{b:zW},b∉[LL]->b≠LL:=λn z=>n (by rw[z];exact .head _);have ln:∀{b:zW},b≠LL->b∉[LL]:=λn z=>n (mL.mp z);have a2:c3≠LL:=λz=>by subst z;rw[m _ _ B]at b0;cases b0
   have b3:u3≠LL:=λz=>by subst z;rw[m _ _ B]at a3;cases a3
   have nx:D≠LL:=(ik B a1).symm;refine⟨_,(jo _ _ _ (N++[.ref D]) rfl (jn (O.trans J) b1) dh ?_)⟩;rw[iF,he,iS];refine jZ (Paired.mapP Y λ_ _ z=>z.keep (λb u n _ z=>⟨n,up (nl n) (J _ _ z)⟩) λb C d fs z=>up (ir (J _ _ z) S (by intro q;cases q)) (J _ _ z)) (.cons (jk D f c3 u3 nv rfl (up nx c1) (ln a2) (up a2 d0) (ln b3) ⟨up b3 b4,ob.imp λb o z=>?_⟩) .nil);have n2:b≠LL:=λq=>by have:=(jT z).1;rw[q,t2 _ _ (t1 _ _ hG)]at this;cases this
   exact kj (ln n2) (up n2 (X _ _ (jT z).2))
  rintro Z G R;refine kF R ?_;clear R;rintro o2 o3 o4 o5 N ⟨rfl,O,hG,Y⟩;rw[c4,iQ]at Y;have a8:=Paired.length Y;have g:=af.same O;obtain⟨lk,c7,I⟩:=g.le;obtain⟨ak,c9,ar⟩:=g.sh;have d4:=Paired.length ar;have d7:=M.eo.few;have l8:=I.few;refine ii _ rfl ab _ rfl (g.get (sP x ol)) (ii _ rfl ab _ rfl (g.get (vD x ol)) (ii _ rfl ab _ rfl (g.get (Hv x ol)) (iU _ rfl _ rfl ab _ rfl (g.get (wZ x ol)) λp f hp a0 c6=>?_)));have m:A0l G (upd (upd G f (.own p)) p (.ins t.a9 f [])):=jn (eh a0) hp;have g4:upd (upd G f (.own p)) p (.ins t.a9 f []) p=some (.ins t.a9 f []):=dh;generalize upd (upd G f (.own p)) p (.ins t.a9 f [])=G4 at m g4;refine lA p f x.ld x.sh x.tb (lA LL ol 97 lk ak (lu (nm.map L) es tb os N (λb=>b≠x.ln) rfl g4 (m _ _ c7) (by rw[I.eq];exact Ag nm) (by rw[I.eq,hA];lia) (m _ _ c9) (ar.same m) (by lia) (jO (λe he=>by have:=(M.eo.ax e he).few;lia) (m _ _ g.ta) (by have:=M.tl;lia) (ke (m _ _ hG) (by lia) ?_ (m _ _ g.ou) (by have:=M.fo;lia) ?_))))
  ·intro v hv;obtain⟨j,hj⟩:=List.getElem?_of_mem hv;obtain⟨e,_,a,b5,c,u,n,rfl,e1,_⟩:=ja Y hj;exact mi a b5 _ rfl (λz=>by subst z;rw[hp]at e1;cases e1) (m _ _ e1)
  ·intro l' a' t' v' o' a5 G5 c8 nl l na a4 W nt d6 nv c5 no b9 kb;have s5:A0l G G5:=λb o z=>kb _ _ (ik z hp) (m _ _ z);have d1:=Paired.length W;have d5:=M.pos;have b7:=M.len;refine⟨rfl,k p G5 (O.trans s5) ⟨f,l',a',t',v',o',lk,a5,N,c8,l,I,a4,W.imp λb N _ z=>⟨True.intro,z⟩,b9,c5,Paired.mapP Y λ_ _ z=>(z.same s5).keep (λb u _ _ z=>⟨my,z⟩) λb C d fs z=>z,λz=>?_⟩⟩;rw[z,a4]at l;have l:a5=lk:=by injection l with q;injection q
   rw[I.eq]at l
   cases W with
   |nil=>rw[oo]at b7;lia
   |cons r _=>
    obtain⟨_,b,z2,_⟩:=r
    cases nm with
    |nil=>cases l
    |cons y nm=>rw[iN]at l;injection l with h1 h2;rw[h1]at z2;cases z2
def iA(L:zR)(e:LnM):Rw:=⟨e.own,e.sums,e.own.map L,e.sums.map L⟩
theorem qp{lk:zJ}{L:zR}{nm:zC}(h:B2d lk L nm):∀{ys:zC},(∀y∈ys,y∈nm)->Sz lk ys (ys.map L)| [],_=>.nil|y::r,hs=>.cons (h.val (hs y (.head _))) (qp h λz a=>hs z (.tail _ a))
theorem tY(h:B2d lk L nm)(b:∀y∈ys,y∈nm)(d:ys.length<=8)(e:jm (ys.map L)<=60):B3z (ys.map L):=by refine⟨λn c=>?_,by rw[hA];exact d,by lia⟩;obtain⟨y,a,rfl⟩:=kg.mp c;exact⟨(h.ok y (b y a)).1,(h.ok y (b y a)).2.1⟩
theorem B9k.rw'(g:B9k L nm es e)(h:B2d lk L nm):C3h (iA L e):=by have b:=g.ax.few;have c:=g.few;have a:=g.po;have d:=g.ps;exact⟨tY h g.ax.sub (by lia) (by lia),tY h g.sub (by lia) (by lia),by show jm (e.own.map L)<=60;lia,by show jm (e.sums.map L)<=60;lia,(hA _).symm,(hA _).symm⟩
theorem EO(zs:zC):PyData.eqv (lU zs) (.list [])=decide (zs=[]):=by cases zs<;>simp[lU,PyData.eqv,PyData.eqvAll]
def FK:Sp:=λi H Q _=>∃(c:zW)(x:Abt)(j:zW)(L:zR)(g:zC)(h:zB)(d:zC)(T:Nat)(a:List LnM)(f:zC),i=[.ref c]/\AbF H c x j L g h d a f/\mN L g h d T a f/\
 ∀(D:zW)(e:zM)(b:Hp),H D=none->A0l H b->b D=some (.lst e)->A2e b e (iu (a.map (iA L)) a.length)->Q (.ref D) b
theorem zj:∀{zs:zC}{cs:zI}{i:Nat}{x:Str}{c:Int},zs.Nodup->zs[i]?=some x->cs[i]?=some c->ic ((zs.map (Sum.inr:Str->Key)).zip (cs.map V.int)) (Sum.inr x)=some (.int c)
 | [],_,_,_,_,_,h,_=>by simp at h
 |_::_,[],_,_,_,_,_,h=>by simp at h
 |z::zs,d::cs,0,x,c,_,a,b=>by simp at a b;subst a b;exact mP rfl
 |z::zs,d::cs,i+1,x,c,nd,a,b=>by
  have a:zs[i]?=some x:=by simpa using a
  have b:cs[i]?=some c:=by simpa using b
  rw[qi]at nd;rw[iN,iN,List.zip_cons_cons,mI (λq=>nd.1 (by rw[Sum.inr.inj q];exact iZ a))];exact zj nd.2 a b
theorem CM{s:StM}(c:(e.own++e.sums).Nodup)(d:(s.ce++s.tu).length=(e.own++e.sums).length):atM e s=((e.own++e.sums).map (Sum.inr:Str->Key)).zip ((s.ce++s.tu).map V.int):=by
 unfold atM;rw[xv _ []]
 ·rfl
 ·rw[List.nil_append,List.map_fst_zip (by rw[hA,hA];lia)];exact List.Pairwise.map _ (λa b h z=>h (Sum.inr.inj z)) c
theorem y9{s:StM}(a:(e.own++e.sums).Nodup)(b:(s.ce++s.tu).length=(e.own++e.sums).length){c:Int}(h1:(e.own++e.sums)[i]?=some x)(h2:(s.ce++s.tu)[i]?=some c):ic (atM e s) (Sum.inr x)=some (.int c):=by rw[CM a b];exact zj a h1 h2
theorem yG{s:StM}(a:(e.own++e.sums).Nodup)(b:(s.ce++s.tu).length=(e.own++e.sums).length){c:Int}(h1:(e.own++e.sums)[i]?=some x)(h2:(s.ce++s.tu)[i]?=some c):ai (atM e s) x=c:=by unfold ai;rw[y9 a b h1 h2]
theorem CS{s:StM}(c:(e.own++e.sums).Nodup)(b:(s.ce++s.tu).length=(e.own++e.sums).length)(g:x∈e.own++e.sums):ic (atM e s) (Sum.inr x)=some (.int (ai (atM e s) x)):=by obtain⟨i,a⟩:=List.getElem?_of_mem g;have f:=(iG.mp a).1;have d:(s.ce++s.tu)[i]?=some ((s.ce++s.tu)[i]'(by lia)):=jq _;rw[y9 c b a d,yG c b a d]
theorem DY{s:StM}(c:(e.own++e.sums).Nodup)(d:s.ce.length=e.own.length)(f:s.tu.length=e.sums.length):e.own.map (ai (atM e s))=s.ce:=by
 refine List.ext_getElem? λi=>?_;rw[jh];rcases Nat.lt_or_ge i e.own.length with h|h
 ·have a:e.own[i]?=some e.own[i]:=jq h;have b:s.ce[i]?=some (s.ce[i]'(by lia)):=jq _;rw[a,b];show some (ai (atM e s) e.own[i])=_;rw[yG c (by rw[jc,jc];lia) (by rw[lD h];exact a) (by rw[lD (by lia)];exact b)]
 ·rw[List.getElem?_eq_none h,List.getElem?_eq_none (by lia)];rfl
structure C6x(L:zR)(rows:List LnM)(s:Stp)(k:Nat)(e:LnM):Prop where
 hk:s.1=(k:Int)
 he:rows[k]?=some e
 hc:s.2.2.1∈iE (e.own.map L)
 wd:(e.sums=[]/\s.2.1="set"/\s.2.2.2=[])\/(e.sums≠[]/\s.2.1="start"/\s.2.2.2=[])\/(e.sums≠[]/\s.2.1="add"/\s.2.2.2∈iE (e.sums.map L))
theorem EJ{k:Nat}(h:s∈pi (rows.map (iA L)) k):∃e,C6x L rows s k e:=by
 unfold pi at h;rw[jh]at h
 cases he:rows[k]? with
 |none=>rw[he]at h;cases h
 |some e=>
  rw[he]at h;have h:s∈pV k (iA L e):=h;unfold pV at h;obtain⟨c,b,a⟩:=List.mem_flatMap.mp h;have b:c∈iE (e.own.map L):=b;have a:s∈kW k (e.sums.map L) c:=a;unfold kW at a;by_cases z:e.sums=[]
  ·rw[ia (by rw[z];rfl)]at a;have a:=mL.mp a;subst a;exact⟨e,rfl,he,b,.inl (hQ z rfl rfl)⟩
  ·rw[fy (λq=>z (List.map_eq_nil_iff.mp q))]at a;rcases jt.mp a with a|a
   ·subst a;exact⟨e,rfl,he,b,.inr (.inl (hQ z rfl rfl))⟩
   ·obtain⟨u,d,rfl⟩:=kg.mp a;exact⟨e,rfl,he,b,.inr (.inr (hQ z rfl d))⟩
theorem sy(h:s∈iu (rows.map (iA L)) n):∃k e,C6x L rows s k e:=by unfold iu at h;obtain⟨k,_,h⟩:=List.mem_flatMap.mp h;obtain⟨e,h⟩:=EJ h;exact km k e h
theorem C6x.tu{k:Nat}(h:C6x L rows s k e)(a:s.2.1≠"start"):s.2.2.2.length=e.sums.length:=by
 rcases h.wd with ⟨z,_,q⟩|⟨_,z,_⟩|⟨_,_,q⟩
 ·rw[z,q];rfl
 ·exact absurd z a
 ·have:=(vX _ _ q).1
  rwa[hA]at this
theorem C6x.ce{k:Nat}(h:C6x L rows s k e):s.2.2.1.length=e.own.length:=by
 have:=(vX _ _ h.hc).1
 rwa[hA]at this
theorem rk(f:B2d lk L nm)(q:mN L nm es tb T rows os){k:Nat}(h:C6x L rows s k e):yE lk rows s/\(s.2.1≠"start"->rdS lk rows s=rd (ai lk) e.tm (ai (atM e (toM s)))/\wM 6 (ai lk) e.tm (atM e (toM s))/\rS lk e (toM s))/\rows[s.1.toNat]?=some e:=by
 obtain⟨t,a⟩:=q.row k e h.he;have p:s.1.toNat=k:=by rw[h.hk];exact Int.toNat_natCast k
 have c:rows[s.1.toNat]?=some e:=by rw[p];exact h.he
 have u:=a.ax.few;have v:=a.few;have j:=h.ce
 have b:s.2.1≠"start"->rdS lk rows s=rd (ai lk) e.tm (ai (atM e (toM s)))/\wM 6 (ai lk) e.tm (atM e (toM s))/\rS lk e (toM s):=λi=>by
  have l:=h.tu i
  have o:((toM s).ce++(toM s).tu).length=(e.own++e.sums).length:=by
   rw[jc,jc];show s.2.2.1.length+s.2.2.2.length=_
   lia
  have d:uV (atM e (toM s)) e.tm:=λx g=>CS a.nd o (a.tm.fv x g);have n:=a.tm.few (ai lk) (ai (atM e (toM s)));refine hQ ?_ ⟨a.tm.gd,a.tm.dp,d,by lia⟩ ⟨j,l,by lia,a.tm.gd,by have:=a.tm.dp;lia,d,(ah (e.own++e.sums) a.tm.ax λx g=>?_),by lia⟩
  ·unfold rdS;rw[fy i,c]
  ·have g:x∈nm:=(ng.mp g).elim (a.ax.sub x) (a.sub x);have m:=f.val g;have r:ai lk x=L x:=by unfold ai;rw[m]
   rw[r];exact hQ m ((f.ok x g).1) ((f.ok x g).2.1)
 refine hQ ⟨by rw[h.hk];lia,(ah e c λi=>(b i).2.2),?_⟩ b c;by_cases i:s.2.1="start"
 ·unfold rdS;rw[ia i];exact jP _
 ·rw[(b i).1];have:=a.tm.few (ai lk) (ai (atM e (toM s)))
  lia
def Gp:Sp:=λj H Q _=>∃(c f:zW)(x:Abt)(l:zW)(L:zR)(b:zC)(i:zB)(d:zC)(T:Nat)(a:List LnM)(g:zC)(s:Stp)(k:Nat)(e:LnM)(h:zJ),j=[.ref c,.ref f]/\AbF H c x l L b i d a g/\mN L b i d T a g/\B5l H (.ref f) s/\C6x L a s k e/\B2d h L b/\RdQ H (rdS h a s) Q
theorem Il(T:Txt K mg t):FO P w base T.cV 2 FK:=by
 refine T.cV.F.ok qP λ_ A _ s H _ Q E hr h=>?_
 ·refine lC h ?_;clear h;rintro ab x ol L nm es tb T0 f ⟨os,rfl,af,fo,k⟩;have hu:=lF hr;have fr:=fo.fr;refine rsq (eg (iw 1 qP.nd (@jF _ _ _ _ eH)) (eg (je (pA rfl T.aM (al (kN T.ao (al (iR hu (pv 0) ip) eH)) eH)) (ie (i:=2) qP.nd rfl (.inr rfl)) (eg ⟨mG (jr kd (iR hu (pv 0) ip) (pv 2)) (lK (n:=4) rfl (iY (ie (i:=3) qP.nd) (iY (ie (i:=4) qP.nd) (iY (ie (i:=5) qP.nd) (iY (ie (i:=6) qP.nd) lN)))))⟩ (fa (je (ju (pcl (uv T) hr T.aO (al (pv 4) (al (iR hu (pv 0) ip) eH)))) (ie (i:=7) qP.nd rfl (.inr rfl)) (fa (iP (iT (yT hr.units) (pv 5) (@jF _ _ _ _ eH)) (fa ⟨kU (lJ kQ nU nT nK (pv 1) (al (jd (al (pv 2) (al ip (al (pv 7) (al (jd eH) eH))))) eH))⟩) (eg ⟨kU (lJ kQ nU nT nK (pv 1) (al (jd (al (pv 2) (al ip (al (pv 7) (al (jd eH) eH))))) eH))⟩ (fa ⟨kU (lJ kQ PySem.F.slot_list_extend PySem.F.type_list_extend ui (pv 1) (al (mH (N':=["_law_turn","_law_cell_here","_law_k"]) (ix:=(List.replicate 1 none++[some 7,some 2])) rfl (sI (cl:=[("_law_k",_),("_law_cell_here",_)]) (xs:=["_law_k","_law_cell_here"]) rfl (hQ rfl rfl trivial) rfl rfl (by decide+kernel) (by decide+kernel)) (sK (N0:=["_law_turn"]) (xs:=["_law_cell_here","_law_k"]) (js:=[7,2]) (hQ (hQ rfl (.inl rfl) (by walk_at"ix")) (hQ rfl (.inl rfl) (by walk_at"ix")) trivial)) (ju (pcl (uv T) hr T.aO (al (pv 5) (al (iR hu (pv 0) ip) eH)))) (λ_ _ _ _=>(ie (i:=0) Iz)) (λ_ _ _ _=>(jd (al (pv 2) (al ip (al (pv 1) (fC 0))))))) eH))⟩)))))))) (fa (im (pv 1))))) ?_;refine⟨iq rfl,λSL S=>?_⟩;have s1:A0l H (upd H SL (.lst [])):=eh S;obtain⟨ts,b6,c3⟩:=af.li;obtain⟨lk,b8,N⟩:=af.le;have d5:=Paired.length c3
  have c9:∀e∈f.map (iA L),C3h e:=λe he=>by obtain⟨e',c6,rfl⟩:=kg.mp he;obtain⟨i,hi⟩:=List.getElem?_of_mem c6;exact(fo.row i e' hi).2.rw' N
  refine ii _ rfl ab _ rfl ((af.same s1).get (sC x ol)) (fx x.ln _ rfl (.inl (SqL.of (s1 _ _ b6))) (ky _ rfl (by lia) (by lia) ?_));rw[d5]
  refine rF (n:=f.length) (λi Z G=>∃(o2 o3 o4 o5 o6 U:zP)(ys:zM),Z=[Sro ab,Sro SL,o2,o3,o4,o5,o6,U]/\A0l H G/\G SL=some (.lst ys)/\A2e G ys (iu (f.map (iA L)) i))
   (lj none none none (jo none none none [] rfl s1 dh .nil)) ?_ ?_
  ·rintro i Z G hi zz;refine kF zz ?_;clear zz;rintro o2 o3 o4 o5 o6 ⟨U,ys,rfl,Y,hG,st⟩;rw[Int.zero_add];have he:f[i]?=some f[i]:=jq hi;have b5:ts[i]?=some (ts[i]'(by lia)):=jq _;obtain⟨e,he,b,c,d,tv,ev,_,hb,_,hc,_,hd,tr⟩:=ja c3 b5;obtain⟨e6,gd⟩:=fo.row i e he;have ok:=gd.rw' N;have e7:=sH c9 i;have e5:i*3660<=5*3660:=Nat.mul_le_mul_right _ (by lia);refine ii _ rfl ab _ rfl ((af.same Y).get (sC x ol)) (i12 _ rfl x.ln _ _ _ rfl rfl (SqL.of (Y _ _ b6)) (hY b5) (fx b _ ev (SqT.of (Y _ _ hb)) (sU rfl _ _ rfl _ _ rfl _ _ rfl _ _ rfl rfl ?_)));have Hl:=(af.same Y);refine iU _ rfl _ rfl ab _ rfl (Hl.get (sP x ol)) (jk c x.ld e.own lk (e.own.map L) rfl (Y _ _ hc) (Y _ _ b8) (qp N gd.ax.sub) ok.go λqc G1 a9 t1 cc=>?_);obtain⟨ps,a5,tp⟩:=cc.ex;have b7:=t1 _ _ hG;have qS:qc≠SL:=λz=>by subst z;rw[hG]at a9;cases a9
   have a6:=Y.trans t1;have d6:OkS e.sums:=λy hy=>(N.ok y (gd.sub y hy)).2.2.2;have d0:SeqAt.shaped (lU e.sums)=true:=vJ (Gj d6) (by have:=(sf e.sums).1;lia);have c5:SeqAt.shaped (.list [])=true:=vJ (by simp[PyData.canLay0,PyData.canLayAll0]) (by simp[PyData.depth,PyData.depthAll]);have e3:(iA L e).ss=e.sums.map L:=rfl;refine hH qc rfl ⟨_,SqL.of a5⟩ ?_
   refine kr (K:=K) (a:=qc) (xs:=ps.map V.ref) (λj Z G2=>∃(U:zP)(B:zM),Z=[Sro ab,Sro SL,Sio (i:Nat),Sso e.nm,Sro c,Sro d,some tv,U]/\KB SL G1 G2/\G2 SL=some (.lst B)/\A2e G2 B (iu (f.map (iA L)) i++((iE (e.own.map L)).take j).flatMap (kW i (e.sums.map L))))
    (iO U ys rfl KB.refl b7 (by simpa using st.kt (KT.same t1))) (by rintro j Z G2 _ ⟨_,_,_,kb,_⟩;exact SqL.of (kb _ _ qS a5)) ?_ ?_
   ·rintro j y Z G2 hy ⟨U,B,rfl,kb,h2,O⟩;obtain⟨r,d7,rfl⟩:=ko hy;obtain⟨ce,d9,b0⟩:=tp.get d7;have b4:G2 r=some (.tup (ce.map V.int)):=kb _ _ (ir b0 b7 (by intro z;cases z)) b0;have d2:A0l H G2:=KB.same a6 kb S;have lz:=Paired.length O;have lp:=By ok (k:=(i:Int)) j;have lp:(((iE (e.own.map L)).take j).flatMap (kW i (e.sums.map L))).length<=3660:=lp;rw[jc]at lz
    have c0:∀(ws:zM)(p:Hp),KB SL G1 p->p SL=some (.lst ws)->A2e p ws ((iu (f.map (iA L)) i++((iE (e.own.map L)).take j).flatMap (kW i (e.sums.map L)))++kW i (e.sums.map L) ce)->∃(U:zP)(B:zM),[some (.ref ab),some (.ref SL),some (.int (i:Nat)),some (.str e.nm),some (.ref c),some (.ref d),some tv,some (.ref r)]=[some (.ref ab),some (.ref SL),some (.int (i:Nat)),some (.str e.nm),some (.ref c),some (.ref d),some tv,U]/\KB SL G1 p/\p SL=some (.lst B)/\A2e p B (iu (f.map (iA L)) i++((iE (e.own.map L)).take (j+1)).flatMap (kW i (e.sums.map L))):=λws p a2 h3 a1=>by refine iO _ ws rfl a2 h3 ?_;rw[iF,d9,iS,List.flatMap_append,List.flatMap_singleton,<-nR];exact a1
    refine hH _ rfl (iq rfl) λe0 d1=>?_;obtain⟨p,u1,R,c4⟩:=nH (o:=.lst []) d1
    try rw[c4]
    have d8:=d2.trans u1;have h3:=u1 _ _ h2;have a2:=kb.trans (KB.of u1);have a1:=O.kt (KT.same u1);have M:=u1 _ _ b4;refine fx (lU e.sums) (.list []) (rY (d8 _ _ hd)) (.lst R .nil) (kE d0 c5 _ rfl ?_);show if PyData.eqv (lU e.sums) (.list [])=true then _ else _
    rw[EO];refine iC (λhz=>?_) (λhz=>?_)
    ·refine hH _ rfl (.inl (jI rfl _ (SqL.of h3))) (jg _ rfl _ rfl (iq rfl) λg R=>⟨iq rfl,λl J=>?_⟩);have C:A0l p (upd (upd p g (.tup [])) l (.tup [.int (i:Nat),.str "set",.ref r,.ref g])):=(eh R).trans (eh J);have g1:upd (upd p g (.tup [])) l (.tup [.int (i:Nat),.str "set",.ref r,.ref g]) l=some (.tup [.int (i:Nat),.str "set",.ref r,.ref g]):=dh;have g2:upd (upd p g (.tup [])) l (.tup [.int (i:Nat),.str "set",.ref r,.ref g]) g=some (.tup []):=oW J dh;generalize upd (upd p g (.tup [])) l (.tup [.int (i:Nat),.str "set",.ref r,.ref g])=G4 at C g1 g2;have W:KT G4 (upd G4 SL (.lst (B++[.ref l]))):=KT.at (C _ _ h3) (by intro xs z;cases z);refine jX SL _ _ rfl rfl (C _ _ h3) (iM (by lia)) (c0 _ _ ((a2.trans (KB.of C)).upd) dh ?_);unfold kW;rw[ia (by rw[hz];rfl)];exact jZ ((a1.kt (KT.same C)).kt W) (.cons (jv l r g rfl (W _ _ g1) (W _ _ (C _ _ M)) (W _ _ g2)) .nil)
    ·refine hH _ rfl (.inl (jI rfl _ (SqL.of h3))) (jg _ rfl _ rfl (iq rfl) λg R=>⟨iq rfl,λl J=>?_⟩);have C:A0l p (upd (upd p g (.tup [])) l (.tup [.int (i:Nat),.str "start",.ref r,.ref g])):=(eh R).trans (eh J);have g1:upd (upd p g (.tup [])) l (.tup [.int (i:Nat),.str "start",.ref r,.ref g]) l=some (.tup [.int (i:Nat),.str "start",.ref r,.ref g]):=dh;have g2:upd (upd p g (.tup [])) l (.tup [.int (i:Nat),.str "start",.ref r,.ref g]) g=some (.tup []):=oW J dh;generalize upd (upd p g (.tup [])) l (.tup [.int (i:Nat),.str "start",.ref r,.ref g])=G4 at C g1 g2;have W:KT G4 (upd G4 SL (.lst (B++[.ref l]))):=KT.at (C _ _ h3) (by intro xs z;cases z);refine jX SL _ _ rfl rfl (C _ _ h3) (iM (by lia)) ?_;have b9:A2e (upd G4 SL (.lst (B++[.ref l]))) (B++[.ref l]) ((iu (f.map (iA L)) i++((iE (e.own.map L)).take j).flatMap (kW i (e.sums.map L)))++[(((i:Int),"start",ce,[]):Stp)]):=jZ ((a1.kt (KT.same C)).kt W) (.cons (jv l r g rfl (W _ _ g1) (W _ _ (C _ _ M)) (W _ _ g2)) .nil);have a7:KB SL G1 (upd G4 SL (.lst (B++[.ref l]))):=(a2.trans (KB.of C)).upd;have h5:upd G4 SL (.lst (B++[.ref l])) SL=some (.lst (B++[.ref l])):=dh;have a3:=W _ _ (C _ _ M);generalize upd G4 SL (.lst (B++[.ref l]))=G5 at b9 a7 h5 a3;have a8:A0l H G5:=KB.same a6 a7 S;have H5:=af.same a8;refine hH _ rfl (.inl (jI rfl _ (SqL.of h5))) (iU _ rfl _ rfl ab _ rfl (H5.get (sP x ol)) (jk d x.ld e.sums lk (e.sums.map L) rfl (a8 _ _ hd) (a8 _ _ b8) (qp N gd.sub) ok.gs λqt G6 e4 t6 ct=>?_));obtain⟨qs,a4,tq⟩:=ct.ex;have d3:=tq.len;have c2:=ok.cells.2;have c2:(iE (e.sums.map L)).length<=60:=c2;refine hH qt rfl ⟨_,SqL.of a4⟩ λD2 c1=>?_;refine pB (K:=K) (a:=qt) (D:=D2) (xs:=qs.map V.ref) (λm vs I=>A0l G6 I/\I D2=some (.lst vs)/\vs.length=m/\A2e I vs (((iE (e.sums.map L)).take m).map λu=>(((i:Int),"add",ce,u):Stp))) (jO (eh c1) dh rfl .nil) (by rintro m vs I ⟨s2,_⟩;exact SqL.of (s2 _ _ a4)) ?_ ?_
     ·rintro m v vs I hv ⟨s7,X,lv,a0⟩;obtain⟨pu,b3,rfl⟩:=ko hv;obtain⟨uu,c8,d4⟩:=tq.get b3;have hm:m<qs.length:=(iG.mp b3).1;refine iV (hQ rfl rfl True.intro) _ rfl (jg _ rfl _ rfl (iq rfl) λb2 c7=>?_);have sb:A0l I (upd I b2 (.tup [.int (i:Nat),.str "add",.ref r,.ref pu])):=eh c7;have kD:KT (upd I b2 (.tup [.int (i:Nat),.str "add",.ref r,.ref pu])) (upd (upd I b2 (.tup [.int (i:Nat),.str "add",.ref r,.ref pu])) D2 (.lst (vs++[.ref b2]))):=KT.at (sb _ _ X) (by intro xs z;cases z);refine ke (sb _ _ X) (iM (by lia)) (jn (s7.trans sb) c1) dh (by simp[lv]) ?_;rw[iF,c8,iS,iK];exact jZ (a0.kt ((KT.same sb).trans kD)) (.cons (jv b2 r pu rfl (kD _ _ dh) (kD _ _ (sb _ _ (s7 _ _ (t6 _ _ a3)))) (kD _ _ (sb _ _ (s7 _ _ d4)))) .nil)
     ·rintro vs I ⟨s7,X,lv,a0⟩;rw[hA,d3,iQ]at a0;rw[hA]at lv;have h7:=s7 _ _ (t6 _ _ h5);have kL:KT I (upd I SL (.lst ((B++[.ref l])++vs))):=KT.at h7 (by intro xs z;cases z);refine lh SL D2 _ _ rfl rfl h7 X (lg (by simp;lia)) (c0 _ _ ((a7.trans (KB.of (t6.trans s7))).upd) dh ?_)
      have e2:kW i (e.sums.map L) ce=[(((i:Int),"start",ce,[]):Stp)]++(iE (e.sums.map L)).map λu=>(((i:Int),"add",ce,u):Stp):=by unfold kW;rw[fy (λq=>hz (List.map_eq_nil_iff.mp q))];rfl
      rw[e2,<-nR];exact jZ (b9.kt ((KT.same (t6.trans s7)).trans kL)) (a0.kt kL)
   ·rintro Z G2 ⟨U,B,rfl,kb,h2,O⟩;rw[hA,tp.len,iQ]at O;refine lj _ _ _ (jo _ _ _ B rfl (KB.same a6 kb S) h2 ?_);rw[B4 (show(f.map (iA L))[i]?=some (iA L e)by rw[jh,he];rfl)];exact O
  ·rintro Z G zz;refine kF zz ?_;clear zz;rintro o2 o3 o4 o5 o6 ⟨U,ys,rfl,Y,hG,st⟩;exact ah _ rfl (k SL ys G S Y hG st)
theorem BH(T:Txt K mg t):FO P w base T.b_ 13 Gp:=by
 refine T.b_.F.ok qO λ_ A _ s H _ Q E hr h=>?_
 ·refine oX h ?_;clear h;rintro ab Y x ol L nm es tb T0 M os d kk e ⟨lk,rfl,af,fo,N,l,b1,k⟩;have hu:=lF hr;obtain⟨_,R,b6⟩:=rk b1 fo l;refine iW N λb c u eb h1 hc a2=>?_;clear N;cases eb;refine rsq (eg (iP (pkd 1) (fa (im (@jF _ _ _ _ eH))) ⟨iJ⟩) (eg ⟨mG (jr kd (iR hu (pv 0) ip) (pit 1)) (lK (n:=4) rfl (iY (ie (i:=2) qO.nd) (iY (ie (i:=3) qO.nd) (iY (ie (i:=4) qO.nd) (iY (ie (i:=5) qO.nd) lN)))))⟩ (eg (iw 6 qO.nd sE) (eg (je (FX rfl T.fq (al (ib oT (pv 3) (pv 4)) (al (ib xo (pit 1) (pit 1)) eH))) (lK (n:=2) rfl (iY (ie (i:=7) qO.nd) (iY (ie (i:=8) qO.nd) lN))) (fa ⟨@nG _ _ _ _ _ _ _ _ _ hu (pv 6) (pv 7) (pv 8) rfl⟩)) (fa (im (pcl (BR T 6) hr T.b9 (al (pv 5) (fC 6))))))))) ?_;refine jj _ rfl Y _ _ _ rfl rfl (SqT.of h1) (hY (j:=1) rfl) rfl _ rfl (iC (λh=>?_) (λh=>?_))
  ·have e0:rdS lk M d=[]:=ia (V.str.inj h);rw[e0]at k;exact⟨iq rfl,λp hp=>k p [] _ hp (eh hp) dh .nil⟩
  have hw:d.2.1≠"start":=λz=>h (by rw[z]);obtain⟨e1,ta,ra⟩:=R hw;rw[e1]at k;obtain⟨ts,a5,X⟩:=af.li;have b7:=Paired.length X;have I:=(iG.mp l.he).1;have D:ts[kk]?=some (ts[kk]'(by lia)):=jq _;obtain⟨e',O,b2,ca,cu,tv,ev,_,b0,_,a8,_,b5,tr⟩:=ja X D;rw[l.he]at O;cases O;have a0:atI ts d.1=some (.ref b2):=by rw[l.hk];exact hY (by rw[D,ev])
  have lc:=ra.lc;have lt:=ra.lt;have l8:=ra.l8;have lc:d.2.2.1.length=e.own.length:=lc;have lt:d.2.2.2.length=e.sums.length:=lt;refine ii _ rfl ab _ rfl (af.get (sC x ol)) (i12 _ rfl Y _ _ _ rfl rfl (SqT.of h1) (hY (j:=0) rfl) (jo x.ln _ _ _ rfl rfl (SqL.of a5) (jN a0 b2 _ rfl (SqT.of b0) (sU rfl _ _ rfl _ _ rfl _ _ rfl _ _ rfl rfl ?_))));refine λg U=>?_;obtain⟨G1,sa,ha,a4⟩:=nH (o:=.dK []) U
  try rw[a4]
  refine mu _ rfl _ rfl ca cu _ _ rfl rfl (sa _ _ a8) (sa _ _ b5) (lg (by rw[hA,hA];lia)) λy I=>?_;have t1:A0l G1 (upd G1 y (.lst (e.own.map V.str++e.sums.map V.str))):=eh I;have q:upd G1 y (.lst (e.own.map V.str++e.sums.map V.str)) y=some (.lst ((e.own++e.sums).map V.str)):=by rw[dh,iK]
  generalize upd G1 y (.lst (e.own.map V.str++e.sums.map V.str))=G2 at t1 q;have S:=sa.trans t1;refine i12 _ rfl Y _ _ _ rfl rfl (SqT.of (S _ _ h1)) (hY (j:=2) rfl) (i12 _ rfl Y _ _ _ rfl rfl (SqT.of (S _ _ h1)) (hY (j:=3) rfl) (lh c u _ _ rfl rfl (S _ _ hc) (S _ _ a2) (lg (by rw[hA,hA];lia)) λtt G3 t3 m=>?_));have m:G3 tt=some (.tup ((d.2.2.1++d.2.2.2).map V.int)):=by rw[iK];exact m
  have s3:=S.trans t3;have r:=t3 _ _ q;have b4:=t3 _ _ (t1 _ _ ha);refine jo y tt _ _ rfl (SqL.of r) (SqT.of m) ?_
  refine El (K:=K) (a:=y) (b:=tt) (xs:=(e.own++e.sums).map V.str) (ys:=(d.2.2.1++d.2.2.2).map V.int) (λj Z G=>∃(o7 o8:zP),Z=[Sro ab,Sro Y,Sso e.nm,Sro ca,Sro cu,some tv,Sro g,o7,o8]/\A0l H G/\G y=some (.lst ((e.own++e.sums).map V.str))/\G tt=some (.tup ((d.2.2.1++d.2.2.2).map V.int))/\G g=some (.dK (lV [] ((((e.own++e.sums).map (Sum.inr:Str->Key)).zip ((d.2.2.1++d.2.2.2).map V.int)).take j))))
   (jA none none rfl s3 r m b4) (by (rintro j Z G v;refine jC v ?_;clear v;rintro _ _ _ _ z1 ⟨z2,_⟩);exact⟨SqL.of z1,SqT.of z2⟩) (by rw[hA,hA,jc,jc];lia) ?_ ?_
  ·rintro j v1 v2 Z G p b3 a9 v;refine jC v ?_;clear v;rintro o7 o8 rfl W g1 ⟨g2,g3⟩ hp;obtain⟨B,C,rfl⟩:=ko b3;obtain⟨J,a6,rfl⟩:=ko a9;have hj:=(iG.mp C).1;rw[jc]at hj;have f:A0l G (upd G p (.tup [.str B,.int J])):=eh hp;have a1:upd G p (.tup [.str B,.int J]) p=some (.tup [.str B,.int J]):=dh;generalize upd G p (.tup [.str B,.int J])=G5 at f a1;have lm:=v5 ((((e.own++e.sums).map (Sum.inr:Str->Key)).zip ((d.2.2.1++d.2.2.2).map V.int)).take j) [];rw[iX,oo]at lm;have g5:=f _ _ g3;refine mQ p _ rfl (SqT.of a1) rfl _ _ rfl _ _ rfl rfl ?_;refine ah _ rfl (iU _ rfl _ rfl g _ rfl (B4w.k (k:=Sum.inr B) g5 (iM (by lia))) (jA _ _ rfl (jn (W.trans f) U) (by rw[dV (ir (f _ _ g1) g5 (by intro z;cases z))];exact f _ _ g1) (by rw[dV (ir (f _ _ g2) g5 (by intro z;cases z))];exact f _ _ g2) ?_))
   have hz:(((e.own++e.sums).map (Sum.inr:Str->Key)).zip ((d.2.2.1++d.2.2.2).map V.int))[j]?=some (Sum.inr B,.int J):=by rw[xW];exact⟨by rw[jh,C];rfl,by rw[jh,a6];rfl⟩
   rw[dh,iF,hz,iS,IM]
  ·rintro Z G v;refine jC v ?_;clear v;rintro o7 o8 rfl W g1 ⟨g2,g3⟩
   have hl:((e.own++e.sums).map V.str).length=(((e.own++e.sums).map (Sum.inr:Str->Key)).zip ((d.2.2.1++d.2.2.2).map V.int)).length:=by
    rw[List.length_zip,hA,hA,hA,jc,jc]
    lia
   rw[hl,iQ]at g3;exact lP _ rfl _ rfl tv e.tm g (atM e (toM d)) (ai lk) (jH rfl ((tr.same Bm).same W) g3 ta λp1 a3 G6 a7 s6 h6 r6=>k p1 a3 G6 (W.free a7) (W.trans s6) h6 r6)
theorem tS{c:Str×List Int}(h:nk r=nk c):r=c:=by unfold nk at h;injection h with h1 h2;injection h2 with h2 _;have e:r.1=c.1:=Sum.inr.inj (Sum.inl.inj h1);have d:r.2.map Sum.inl=c.2.map Sum.inl:=Sum.inr.inj h2;exact Prod.ext e ((List.map_inj_right (λa b z=>Sum.inl.inj z)).mp d)
theorem xp{r:Str×List Int}:∀(rs:List (Str×List Int))(kvs:List (ij×V)),(ic (lG kvs rs) (nk r)).isSome=true↔(ic kvs (nk r)).isSome=true\/r∈rs
 | [],kvs=>by simp[lG]
 |q::rs,kvs=>by
  have h:=xp rs (iL kvs (nk q) (V.bl true)) (r:=r);show(ic (lG (iL kvs (nk q) (V.bl true)) rs) (nk r)).isSome=true↔_;rw[h,ue];by_cases e:r=q
  ·subst e;simp
  ·rw[fy (λz=>e (tS z)),jt];constructor
   ·rintro(z|z)
    ·exact .inl z
    ·exact .inr (.inr z)
   ·rintro(z|z|z)
    ·exact .inl z
    ·exact absurd z e
    ·exact .inr z
def pK(c:zI):PyData:=.tuple (c.map PyData.int)
theorem vu:∀c:zI,PyData.depthAll (c.map PyData.int)=0/\PyData.canLayAll0 (c.map PyData.int)=true/\PyData.eqvAll (c.map PyData.int) (c.map PyData.int)=true| []=>(hQ rfl rfl (by simp[PyData.eqvAll]))|i::r=>by obtain⟨b,d,a⟩:=vu r;simp[PyData.depthAll,PyData.depth,PyData.canLayAll0,PyData.canLay0,PyData.eqvAll,PyData.eqv,b,d,a]
theorem vE{H:Hp}:∀c:zI,A5a H (c.map V.int) (c.map PyData.int)| []=>.nil|i::r=>.cons (.int i) (vE r)
def jz(W:Str->List zI)(es:zB):List (Str×List Int):=es.flatMap λe=>(W e.1).map λc=>(e.1,c)
theorem xr:r∈jz W es↔r.1∈es.map (·.1)/\r.2∈W r.1:=by
 unfold jz;rw[List.mem_flatMap];constructor
 ·rintro⟨e,a,h⟩;obtain⟨c,f,rfl⟩:=kg.mp h;exact⟨List.mem_map_of_mem a,f⟩
 ·rintro⟨d,g⟩;obtain⟨e,a,b⟩:=kg.mp d;exact ah e a (kg.mpr (ah r.2 (by rw[b];exact g) (Prod.ext b rfl)))
abbrev InW(kvs:List (ij×V))(r:Str×List Int):Prop:=(ic kvs (nk r)).isSome=true
theorem xz{kvs:List (ij×V)}:InW (tO lk rows kvs s) r↔InW kvs r\/(InW kvs (wrS rows s)/\r∈rdS lk rows s):=by
 unfold tO;by_cases h:(ic kvs (nk (wrS rows s))).isSome=true
 ·rw[ia h];show(ic (lG kvs (rdS lk rows s)) (nk r)).isSome=true↔_;rw[xp];exact⟨λz=>z.imp id λy=>⟨h,y⟩,λz=>z.imp id λy=>y.2⟩
 ·rw[fy h];exact⟨.inl,λz=>z.elim id λy=>absurd y.1 h⟩
theorem BA(lk:zJ)(rows:List LnM)(kvs:List (ij×V))(s:Stp)(ss:List Stp):nE lk rows kvs (s::ss)=nE lk rows (tO lk rows kvs s) ss:=rfl
theorem Bn{lk:zJ}{rows:List LnM}{r:Str×List Int}:∀(ss:List Stp){kvs:List (ij×V)},InW kvs r->InW (nE lk rows kvs ss) r| [],_,h=>h|s::ss,kvs,h=>by rw[BA];exact Bn ss (xz.mpr (.inl h))
theorem At{lk:zJ}{rows:List LnM}{r:Str×List Int}:∀(ss:List Stp){kvs:List (ij×V)},InW (nE lk rows kvs ss) r->InW kvs r\/∃s∈ss,InW (nE lk rows kvs ss) (wrS rows s)/\r∈rdS lk rows s
 | [],_,h=>.inl h
 |s::ss,kvs,h=>by
  rw[BA]at h⊢;rcases At ss h with z|⟨e,b,f,c⟩
  ·rcases xz.mp z with z|⟨d,a⟩
   ·exact .inl z
   ·exact .inr (hH s (.head _) (Bn ss (xz.mpr (.inl d))) a)
  ·exact .inr (hH e (.tail _ b) f c)
theorem A6j.irrefl{a:zI}(h:A6j a a):False:=by
 refine iW h λj x y c b d _=>?_;clear h;rw[c]at b;cases b
 lia
theorem A6j.asymm{a b:zI}(h:A6j a b)(h':A6j b a):False:=by
 refine iW h λj x y e g m i=>?_;clear h;refine iW h' λf n o d c l k=>?_;clear h';rcases Nat.lt_trichotomy j f with z|z|z
 ·have:=k j z;rw[e,g]at this;cases this
  lia
 ·subst z;rw[e]at c;rw[g]at d;cases d;cases c
  lia
 ·have:=i f z;rw[d,c]at this;cases this
  lia
def Bef(s' s:Stp):Prop:=s'.1<s.1\/(s'.1=s.1/\(s'.2.2.1=s.2.2.1\/A6j s'.2.2.1 s.2.2.1))
theorem ze{α:Type}{R:α->α->Prop}:∀{l:List α},(∀x∈l,∀y∈l,R x y)->l.Pairwise R| [],_=>.nil|x::r,h=>.cons (λy c=>h x (.head _) y (.tail _ c)) (ze λa d b e=>h a (.tail _ d) b (.tail _ e))
theorem sj{k:Int}{ss:zI}(h:s∈kW k ss c):s.1=k/\s.2.2.1=c:=by
 unfold kW at h;split at h
 ·rw[mL.mp h];exact⟨rfl,rfl⟩
 ·rcases jt.mp h with h|h
  ·rw[h];exact⟨rfl,rfl⟩
  ·obtain⟨u,_,rfl⟩:=kg.mp h;exact⟨rfl,rfl⟩
theorem Fq(i:List Rw)(n:Nat):(iu i n).Pairwise Bef:=by
 unfold iu;rw[List.pairwise_flatMap];refine⟨λk _=>?_,List.pairwise_lt_range.imp λ{a b} d x l y f=>?_⟩
 ·unfold pi;split
  ·rename_i e he;unfold pV;rw[List.pairwise_flatMap];refine⟨λc _=>ze λx l y f=>?_,(B6 e.so).imp λ{a b} d x l y f=>?_⟩
   ·have j:=sj l;have g:=sj f;exact .inr ⟨j.1.trans g.1.symm,.inl (j.2.trans g.2.symm)⟩
   ·have j:=sj l;have g:=sj f;exact .inr ⟨j.1.trans g.1.symm,.inr (by rw[j.2,g.2];exact d)⟩
  ·exact .nil
 ·have o:∀{m:Nat}{s:Stp},s∈pi i m->s.1=(m:Int):=λ{m s} h=>by
   unfold pi at h;split at h
   ·unfold pV at h;obtain⟨c,_,h⟩:=List.mem_flatMap.mp h;exact(sj h).1
   ·cases h
  exact .inl (by rw[o l,o f];lia)
theorem Ai(g:B2d lk L nm)(n:mN L nm es tb T rows os)(A B:List Stp)(s:Stp)(v:iu (rows.map (iA L)) rows.length=A++s::B)(s':Stp)(o:s'∈s::A):wrS rows s∉rdS lk rows s':=by
 intro h;have y:s∈iu (rows.map (iA L)) rows.length:=by rw[v];simp
 have l:s'∈iu (rows.map (iA L)) rows.length:=by
  rw[v];rcases jt.mp o with z|z
  ·rw[z];simp
  ·exact qV _ z
 have r:Bef s' s:=by
  rcases jt.mp o with z|z
  ·rw[z];exact .inr ⟨rfl,.inl rfl⟩
  ·have F:=Fq (rows.map (iA L)) rows.length;rw[v,List.pairwise_append]at F;exact F.2.2 s' z s (.head _)
 obtain⟨k,e,q⟩:=sy y;obtain⟨p,D,a⟩:=sy l;obtain⟨_,c,x⟩:=rk g n a;obtain⟨_,_,f⟩:=rk g n q
 have M:s'.2.1≠"start":=λz=>by unfold rdS at h;rw[ia z]at h;cases h
 obtain⟨O,_,C⟩:=c M;obtain⟨W,m⟩:=n.row p D a.he;obtain⟨U,Z⟩:=n.row k e q.he;have Q:wrS rows s=(e.nm,s.2.2.1):=by unfold wrS;rw[f]
 rw[O,Q]at h;obtain⟨G,b,Y,w⟩:=m.tm.rin _ _ _ h;have b:(e.nm,G)∈es.take (T+p+1):=b;obtain⟨j,t⟩:=List.getElem?_of_mem b;have u:=(iG.mp t).1;rw[iX]at u;rw[List.getElem?_take_of_lt (by lia)]at t
 have S:j=T+k:=by
  have R:(es.map (·.1))[j]?=some e.nm:=by rw[jh,t];rfl
  have H:(es.map (·.1))[T+k]?=some e.nm:=by rw[jh,U];rfl
  exact(List.getElem?_inj (by rw[hA];lia) n.eo.nd).mp (R.trans H.symm)
 have J:k<=p:=by lia
 have I:=q.hk;have P:=a.hk;rcases r with z|⟨X,i⟩
 ·lia
 ·have N:p=k:=by lia
  subst N;have K:D=e:=by have:=q.he;rw[a.he]at this;exact lI this
  subst K;have d:=w rfl;rw[DY m.nd C.lc C.lt]at d;have d:A6j s.2.2.1 s'.2.2.1:=d;rcases i with i|i
  ·rw[i]at d;exact d.irrefl
  ·exact d.asymm i
def axE(es:zB)(x:Str):zC:=((es.find? λe=>decide (e.1=x)).map (·.2)).getD []
theorem rn:∀{es:zB},(es.map (·.1)).Nodup->∀{e:Str×List Str},e∈es->axE es e.1=e.2
 | [],_,_,h=>by cases h
 |p::r,nd,e,h=>by
  rw[iN,qi]at nd;unfold axE;by_cases z:p.1=e.1
  ·rw[List.find?_cons_of_pos (by simpa using z)];rcases jt.mp h with h|h
   ·rw[h];rfl
   ·exact absurd (by rw[z];exact List.mem_map_of_mem h) nd.1
  ·rw[List.find?_cons_of_neg (by simpa using z)];rcases jt.mp h with h|h
   ·rw[h]at z;exact absurd rfl z
   ·exact rn nd.2 h
abbrev szE(L:zR)(es:zB)(x:Str):zI:=(axE es x).map L
abbrev wkF(lk:zJ)(L:zR)(es:zB)(rows:List LnM)(os:zC):List (ij×V):=nE lk rows (lG [] (ji (szE L es) os)) (iu (rows.map (iA L)) rows.length).reverse
def FI(p:Nat->Bool):Nat->Option Nat|0=>none|i+1=>match FI p i with|some j=>some j|none=>if p i=true then some i else none
def LI(p:Nat->Bool):Nat->Option Nat|0=>none|i+1=>if p i=true then some i else LI p i
def wrA(rows:List LnM)(ss:List Stp)(r:Str×List Int)(j:Nat):Bool:=decide (ss[j]?.map (wrS rows)=some r)
def rdA(lk:zJ)(rows:List LnM)(a:List (ij×V))(ss:List Stp)(r:Str×List Int)(j:Nat):Bool:=match ss[j]? with|some s=>(ic a (nk (wrS rows s))).isSome&&decide (r∈rdS lk rows s)|none=>false
def mS(kvs:List (ij×V))(rs:List (Str×List Int))(v:V):List (ij×V):=rs.foldl (λk r=>iL k (nk r) v) kvs
theorem vM(kvs:List (ij×V))(rs:List (Str×List Int))(r:Str×List Int)(v:V):mS kvs (rs++[r]) v=iL (mS kvs rs v) (nk r) v:=by unfold mS;rw[List.foldl_append];rfl
theorem rE(v:V):∀(rs:List (Str×List Int))(kvs:List (ij×V)),(mS kvs rs v).length<=kvs.length+rs.length
 | [],_=>ig _
 |r::rs,kvs=>by
  have a:=rE v rs (iL kvs (nk r) v);have b:=pX kvs (nk r) v;show(mS (iL kvs (nk r) v) rs v).length<=kvs.length+(rs.length+1)
  lia
theorem uo{r:Str×List Int}{v:V}:∀(rs:List (Str×List Int))(kvs:List (ij×V)),ic (mS kvs rs v) (nk r)=if r∈rs then some v else ic kvs (nk r)
 | [],kvs=>by simp[mS]
 |q::rs,kvs=>by
  have h:=uo (r:=r) (v:=v) rs (iL kvs (nk q) v);show ic (mS (iL kvs (nk q) v) rs v) (nk r)=_;rw[h,ue];by_cases e:r=q
  ·subst e;simp
  ·rw[fy (λz=>e (tS z))];by_cases m:r∈rs
   ·simp[m]
   ·simp[m,e]
abbrev oC(L:zR)(rows:List LnM)(ss:List Stp):Prop:=∀s∈ss,∃k e,C6x L rows s k e
def Hr(P:yB)(w:yD)(A:Adr):Sp:=λg H Q _=>∃(p f:zW)(L:zR)(i:zC)(k:zB)(a:List LnM)(h:zC)(e:zM)(b:List Stp),g=[.ref p,.ref f]/\ClF A H p L i k a h/\H f=some (.lst e)/\A2e H e b/\oC L a b/\b.length<=20000/\
 ∀(D:zW)(c:List (ij×V))(d:Hp),H D=none->A0l H d->A3g P w [true,false] d D c->(∀r,ic c (nk r)=(FI (wrA a b r) b.length).map λ(j:Nat)=>V.int ((j:Int)+1))->Q (.ref D) d
theorem Jy(T:Txt K mg t):FO P w base T.bW 2 (Hr P w t):=by
 refine T.bW.F.ok v0 λ_ A _ s H _ Q E hr h=>?_
 ·refine lC h ?_;clear h;rintro p sl L nm es b os ys m ⟨rfl,cl,C,st,a6,a8,k⟩;have hn:=pM hr;have a3:=Paired.length st;refine lC cl.ex ?_;rintro dx l ad tl ln o lk ak xs ⟨hp,hl,b2,b1,ar,ho,a7,a1,la⟩;refine rsq (eg (iw 2 v0.nd (rB (sh:=[true,false]))) (eg (je (xi rfl T.bQ (fC 1)) (lK (n:=2) rfl (iY (ie (i:=3) v0.nd) (iY (ie (i:=4) v0.nd) lN))) (fa ⟨kU (tR PySem.F.slot_dict_setdefault PySem.F.type_dict_setdefault (xx hn) (pv 2) (al (pcl (xS T) hr T.aG (al (pv 0) (fC 4))) (al (ib kI (pv 3) fe) eH)))⟩)) (fa (im (pv 2))))) ?_;refine λD o0 W g=>?_;have M:A0l H (upd H D o0):=eh W;have g:A3g P w [true,false] (upd H D o0) D []:=g;generalize upd H D o0=H1 at M g;have a4:sl≠D:=ik C W;obtain⟨u0,e0,t0⟩:=kT g;refine ii _ rfl sl ys rfl (SqL.of (M _ _ C)) ?_
  refine xu (K:=K) (a:=sl) (xs:=ys) (λi Z G=>∃(o3 o4:zP)(c:List (ij×V)),Z=[Sro p,Sro sl,Sro D,o3,o4]/\KB D H1 G/\A3g P w [true,false] G D c/\c.length<=i/\∀r,ic c (nk r)=(FI (wrA b m r) i).map λ(j:Nat)=>V.int ((j:Int)+1))
   (jX none none [] rfl KB.refl g (ig _) λr=>rfl) (by rintro i Z G ⟨_,_,_,_,kb,_⟩;exact SqL.of (kb _ _ a4 (M _ _ C))) ?_ ?_
  ·rintro i v Z G z hv zz;refine iW zz ?_;clear zz;rintro o3 o4 c rfl kb nd ⟨a9,J⟩ hz;obtain⟨d,S,X⟩:=ja st hv;have hi:i<ys.length:=(iG.mp hv).1;obtain⟨kk,e,si⟩:=a6 d (iZ S);have u:b[d.1.toNat]?=some e:=by rw[si.hk,Int.toNat_natCast];exact si.he
   obtain⟨G1,sz,a0,a2⟩:=nH (o:=.tup [.int (i:Nat),v]) hz
   try rw[a2]
   have y:=kb.trans (KB.of sz);have B:A0l H G1:=KB.same M y W;have U:=((X.kt (KT.same M)).kt (y.kt e0 t0)).toM (by rw[si.hk];lia);have O:=jb nd sz;obtain⟨b0,_,_,rfl,_⟩:=id X;refine mQ z _ rfl (SqT.of a0) rfl _ _ rfl _ _ rfl rfl ?_;refine lQ _ rfl (ku D _ _ rfl O) _ rfl (nu _ rfl p dx l ad tl ln o b0 97 (jk xs [] b e (toM d) rfl (B _ _ hp) (B _ _ a7) (Paired.mapP a1 λ_ _ z=>z.same B) U ⟨u,λq G2 N tr=>?_⟩));have ew:wrS b d=(e.nm,d.2.2.1):=by unfold wrS;rw[u]
   obtain⟨q',eq,na⟩:=pf tr;cases eq;have na:A1x G2 (nk (wrS b d)) q:=by rw[ew];exact na
   have Y:=jb O N;have R:=y.trans (KB.of N)
   have x:∀r,(FI (wrA b m r) (i+1))=match FI (wrA b m r) i with|some j=>some j|none=>if wrS b d=r then some i else none:=λr=>by
    show(match FI (wrA b m r) i with|some j=>some j|none=>if wrA b m r i=true then some i else none)=_
    have ei:(wrA b m r i=true)=(wrS b d=r):=by unfold wrA;rw[S];simp
    cases FI (wrA b m r) i with
    |some j=>rfl
    |none=>simp[ei]
   have I:=J (wrS b d);refine ii _ rfl _ _ rfl rfl (lj D q _ (jf _ (nk (wrS b d)) _ _ rfl ⟨rfl,rfl,Y,na,rfl⟩ (iM (by lia)) (λv hv=>?_) λf o1 a5=>?_))
   ·refine jX _ _ c rfl R Y (by lia) λr=>?_;rw[x r,J r];rw[hv]at I
    cases hF:FI (wrA b m r) i with
    |some j=>rfl
    |none=>
     by_cases er:wrS b d=r
     ·rw[er,hF]at I;cases I
     ·simp[er]
   ·have lp:=pX c (nk (wrS b d)) (V.int ((i:Int)+1));refine jX _ _ (iL c (nk (wrS b d)) (V.int ((i:Int)+1))) rfl R.upd a5 (by lia) λr=>?_;rw[x r,ue];by_cases er:wrS b d=r
    ·rw[er]at I f⊢;rw[f]at I
     cases hF:FI (wrA b m r) i with
     |some j=>rw[hF]at I;cases I
     |none=>simp
    ·rw[fy (λz=>er (tS z).symm),J r]
     cases hF:FI (wrA b m r) i with
     |some j=>rfl
     |none=>simp[er]
  ·rintro Z G zz;refine iW zz ?_;clear zz;rintro o3 o4 c rfl kb nd ⟨_,J⟩;rw[a3]at J;exact ah _ rfl (k D c G W (KB.same M kb W) nd J)
def pH(lk:zJ)(L:zR)(es:zB)(rows:List LnM)(os:zC)(a:List (ij×V))(ss:List Stp)(r:Str×List Int):Option Nat:=if r∈ji (szE L es) os then some ss.length else LI (rdA lk rows a ss r) ss.length
def Fw(P:yB)(w:yD)(A:Adr):Sp:=λm H Q _=>∃(p i F:zW)(L:zR)(e:zC)(f:zB)(n:zC)(T:Nat)(a:List LnM)(d:zC)(h:zM)(c:List Stp)(l:zJ)(k:List (ij×V)),m=[.ref p,.ref i,.ref F]/\ClF A H p L e f a d/\mN L e f n T a d/\B2d l L e/\H i=some (.lst h)/\A2e H h c/\oC L a c/\c.length<=20000/\A3g P w [true,false] H F k/\
 ∀(D:zW)(b:List (ij×V))(g:Hp),H D=none->A0l H g->A3g P w [true,false] g D b->(∀r,ic b (nk r)=(pH l L f a d k c r).map λ(j:Nat)=>V.int (j:Int))->Q (.ref D) g
theorem vi{g:zJ}(d:B2d lk L nm)(a:mN L nm es tb T rows os)(i:AR S H g es)(k:y∈os):ArO H lk g (axE es) (szE L es) y:=by
 obtain⟨e,c,rfl⟩:=kg.mp (a.oi y k);obtain⟨b,j,_,h⟩:=vj i a.eo.nd c;have f:=a.eo.ax e c;have l:=f.few;refine⟨(ah b j (by rw[rn a.eo.nd c];exact h)),?_,?_⟩
 ·unfold szE;rw[rn a.eo.nd c];exact qp d f.sub
 ·unfold szE;rw[rn a.eo.nd c];exact tY d f.sub (by lia) (a.eo.pr e c)
theorem Jj(T:Txt K mg t):FO P w base T.cB 16 (Fw P w t):=by
 refine T.cB.F.ok sQ λ_ A _ s H _ Q E hr h=>?_
 ·refine oX h ?_;clear h;rintro p sl F L nm M tb T0 b os ys W lk wk ⟨rfl,cl,fo,a2,O,st,d6,d1,b9,k⟩;have hn:=pM hr;have a0:=Paired.length st;refine lC cl.ex ?_;rintro dx l ad tl ln o c ak xs ⟨hp,hl,c7,d5,ar,ho,c8,b3,la⟩;have d2:c=lk:=c7.eq.trans a2.eq.symm;subst d2;refine rsq (eg (iw 3 sQ.nd (rB (sh:=[true,false]))) (eg (je (xi rfl T.bQ (fC 1)) (lK (n:=2) rfl (iY (ie (i:=4) sQ.nd) (iY (ie (i:=5) sQ.nd) lN))) (fa (iP (iT (ro hn) (pcl (xS T) hr T.aG (al (pv 0) (fC 5))) (pv 2) (by with_unfolding_all rfl)) (fa (je (ju (pcl (BB T) hr T.bY (al (pv 0) (fC 5)))) (ie (i:=6) sQ.nd) (fa ⟨mG (pv 4) (oe (pv 3) (pv 6) (qH hn))⟩))) ⟨iJ⟩))) (eg (je (ju (pcl (Co T) hr T.aF (fC 0))) (ie (i:=7) sQ.nd) (fa ⟨mG (kN T.ao (fC 1)) (oe (pv 3) (pv 7) (qH hn))⟩)) (fa (im (pv 3)))))) ?_;refine λD o0 hD C=>?_;have s1:A0l H (upd H D o0):=eh hD;have C:A3g P w [true,false] (upd H D o0) D []:=C;generalize upd H D o0=H1 at s1 C;have c4:sl≠D:=ik O hD;obtain⟨u0,e0,t0⟩:=kT C;obtain⟨uF,eF,tF⟩:=kT b9;have FD:F≠D:=ik eF hD;have a9:∀{G:Hp},KB D H1 G->A3g P w [true,false] G F wk:=λkb=>(jb b9 s1).keeps (λu z=>kb _ _ FD z) (kb.kt e0 t0);refine ii _ rfl sl ys rfl (SqL.of (s1 _ _ O)) ?_
  refine xu (K:=K) (a:=sl) (xs:=ys) (λi Z G=>∃(o4 o5 X:zP)(f:List (ij×V)),Z=[Sro p,Sro sl,Sro F,Sro D,o4,o5,X,none]/\KB D H1 G/\A3g P w [true,false] G D f/\f.length<=i*20/\∀r,ic f (nk r)=(LI (rdA c b wk W r) i).map λ(j:Nat)=>V.int (j:Int))
   (jf none none none [] rfl KB.refl C (jP _) λr=>rfl) (by (rintro i Z G zz;refine pE zz ?_;clear zz;rintro _ _ _ ⟨_,_,kb,_⟩);exact SqL.of (kb _ _ c4 (s1 _ _ O))) ?_ ?_
  ·rintro i v Z G z hv zz;refine jy zz ?_;clear zz;rintro o4 o5 X f rfl kb nd ⟨b4,vv⟩ hz;obtain⟨x,c1,b5⟩:=ja st hv;have hi:i<ys.length:=(iG.mp hv).1;obtain⟨kk,e,si⟩:=d6 x (iZ c1);obtain⟨so,b6,B⟩:=rk a2 fo si;have e2:=so.few;have d8:i*20<=20000*20:=Nat.mul_le_mul_right _ (by lia);obtain⟨G1,sz,d4,d0⟩:=nH (o:=.tup [.int (i:Nat),v]) hz
   try rw[d0]
   have a5:=kb.trans (KB.of sz);have N:A0l H G1:=KB.same s1 a5 hD;have Y:=((b5.kt (KT.same s1)).kt (a5.kt e0 t0)).toM (by rw[si.hk];lia);have I:=jb nd sz;obtain⟨b0,_,_,rfl,_⟩:=id b5;refine mQ z _ rfl (SqT.of d4) rfl _ _ rfl _ _ rfl rfl ?_;refine ah _ rfl (nu _ rfl p dx l ad tl ln o b0 97 (jk xs [] b e (toM x) rfl (N _ _ hp) (N _ _ c8) (Paired.mapP b3 λ_ _ z=>z.same N) Y ⟨B,λq G2 J tr=>?_⟩));have ew:wrS b x=(e.nm,x.2.2.1):=by unfold wrS;rw[B]
   obtain⟨q',eq,na⟩:=pf tr;cases eq;have na:A1x G2 (nk (wrS b x)) q:=by rw[ew];exact na
   have a3:=jb I J;have a4:=a5.trans (KB.of J);have S:=N.trans J;have b2:∀r,rdA c b wk W r i=((ic wk (nk (wrS b x))).isSome&&decide (r∈rdS c b x)):=λr=>by unfold rdA;rw[c1]
   refine ah _ rfl (lA F q _ _ (nk (wrS b x)) (iV ⟨rfl,rfl,a9 a4,na,rfl⟩ _ rfl (qW (λhz=>?_) (λhz=>?_))))
   ·refine lP _ rfl _ rfl p dx l ad tl (lA ln o b0 97 c (jk xs [] b e (toM x) rfl (S _ _ hp) (S _ _ hl) (S _ _ c8) (Paired.mapP b3 λ_ _ z=>z.same S) (hQ (Y.same J) B (rdq B (λhw=>(b6 hw).2.2) ?_))));intro R d7 G3 hR s3 c5 c2;have b8:=jb a3 s3;obtain⟨u3,e3,t3⟩:=kT b8;have RD:R≠D:=λz=>by subst z;obtain⟨_,e,_⟩:=kT a3;rw[hR]at e;cases e
    have a1:=Paired.length c2;refine hH R rfl ⟨_,SqL.of c5⟩ ?_
    refine kr (K:=K) (a:=R) (xs:=d7) (λj Z G4=>∃(X:zP),Z=[Sro p,Sro sl,Sro F,Sro D,Sio (i:Nat),Sro b0,X,none]/\KB D G3 G4/\A3g P w [true,false] G4 D (mS f ((rdS c b x).take j) (.int (i:Nat))))
     (hH _ rfl KB.refl b8) (by rintro j Z G4 _ ⟨_,_,d,_⟩;exact SqL.of (d _ _ RD c5)) ?_ ?_
    ·rintro j y Z G4 hy ⟨X,rfl,d,g⟩;obtain⟨r,a7,a6⟩:=ja c2 hy;obtain⟨b1,rfl,a8⟩:=pf (a6.keep (d.kt e3 t3));have lp:=rE (.int (i:Nat)) ((rdS c b x).take j) f;have lt:((rdS c b x).take j).length<=(rdS c b x).length:=by rw[iX];lia
     refine ah _ rfl (lP _ rfl _ rfl D b1 _ _ (nk r) (hQ ⟨rfl,rfl,g,a8,rfl⟩ (iM (by lia)) λo1 U=>?_));refine hH _ rfl d.upd ?_;rw[iF,a7,iS,vM];exact U
    ·rintro Z G4 ⟨X,rfl,d,g⟩;rw[a1,iQ]at g;have lp:=rE (.int (i:Nat)) (rdS c b x) f;refine jf _ _ _ _ rfl ((a4.trans (KB.of s3)).trans d) g (by rw[Nat.add_mul];lia) λr=>?_;rw[uo];show _=(if rdA c b wk W r i=true then some i else LI (rdA c b wk W r) i).map _;rw[b2 r,hz,Bool.true_and];by_cases m:r∈rdS c b x
     ·rw[ia m,ia (kz m)];rfl
     ·rw[fy m,fy (by simpa using m)];exact vv r
   ·refine jf _ _ _ f rfl a4 a3 (by lia) λr=>?_;show _=(if rdA c b wk W r i=true then some i else LI (rdA c b wk W r) i).map _;rw[b2 r,fy (by rw[Bool.not_eq_true]at hz;rw[hz];simp)];exact vv r
  rintro Z G zz;refine jy zz ?_;clear zz;rintro o4 o5 X f rfl kb nd ⟨b4,vv⟩;rw[a0]at vv b4;have sG:A0l H G:=KB.same s1 kb hD;have c3:∀y∈os,ArO H c ak (axE M) (szE L M) y:=λy hy=>vi a2 fo ar hy;have lo:=qC c3;have d3:=fo.fo;have e4:os.length*4000<=2*4000:=Nat.mul_le_mul_right _ d3;have d9:W.length*20<=20000*20:=Nat.mul_le_mul_right _ d1;refine nu _ rfl p dx l ad tl ln o 97 c (jo ak os (axE M) (szE L M) rfl (sG _ _ hp) (sG _ _ hl) (jH (sG _ _ d5) (sG _ _ ho) (by lia) (λy hy=>(c3 y hy).same sG) λR zs G1 hR c9 b7 c6=>?_));have I:=jb nd c9;obtain⟨u1,e1,t1⟩:=kT I;have RD:R≠D:=λz=>by subst z;obtain⟨_,e,_⟩:=kT nd;rw[hR]at e;cases e
  have a1:=Paired.length c6;have c0:=sG.trans c9;refine hH R rfl ⟨_,SqL.of b7⟩ ?_
  refine kr (K:=K) (a:=R) (xs:=zs) (λj Z G2=>∃(o7:zP),Z=[Sro p,Sro sl,Sro F,Sro D,o4,o5,X,o7]/\KB D G1 G2/\A3g P w [true,false] G2 D (mS f ((ji (szE L M) os).take j) (.int (W.length:Nat))))
   (hH _ rfl KB.refl I) (by rintro j Z G2 _ ⟨_,_,d,_⟩;exact SqL.of (d _ _ RD b7)) ?_ ?_
  ·rintro j y Z G2 hy ⟨o7,rfl,d,g⟩;obtain⟨r,a7,a6⟩:=ja c6 hy;obtain⟨b1,rfl,a8⟩:=pf (a6.keep (d.kt e1 t1));have lp:=rE (.int (W.length:Nat)) ((ji (szE L M) os).take j) f;have lt:((ji (szE L M) os).take j).length<=(ji (szE L M) os).length:=by rw[iX];lia
   refine ii _ rfl sl _ rfl (.inl (SqL.of (d _ _ c4 (c0 _ _ O)))) (lP _ rfl _ rfl D b1 _ _ (nk r) (hQ ⟨rfl,rfl,g,a8,rfl⟩ (iM (by lia)) λo1 U=>?_));refine hH _ rfl d.upd ?_;rw[iF,a7,iS,vM,<-a0];rw[<-a0]at U;exact U
  ·rintro Z G2 ⟨o7,rfl,d,g⟩;rw[a1,iQ]at g;refine ah _ rfl (k D _ G2 hD (KB.same c0 d hD) g λr=>?_);rw[uo];unfold pH;by_cases m:r∈ji (szE L M) os
   ·rw[ia m,ia m];rfl
   ·rw[fy m,fy m];exact vv r
theorem zu{S:zV}{H:Hp}:∀{a:zJ}{es:zB},AR S H a es->a.map (·.1)=es.map λe=>(Sum.inr e.1:Key)|_,_,.nil=>rfl|_,_,@Paired.cons _ _ _ p q ps qs r t=>by rw[iN,iN,zu t,r.1]
theorem BP{α β γ:Type}{F:α->β->Prop}{G:α->γ->Prop}{f:β->γ}(h:∀x y,F x y->G x (f y)):∀{a:List α}{b:List β},Paired F a b->Paired G a (b.map f)|_,_,.nil=>.nil|_,_,.cons r t=>.cons (h _ _ r) (BP h t)
abbrev pb(c:zI):zU:=c.map Sum.inl
theorem FL{d:zI}(h:pb c=pb d):c=d:=(List.map_inj_right (λa b z=>Sum.inl.inj z)).mp h
def kH(rows:List LnM)(ss:List Stp)(r:Str×List Int):Int:=((FI (wrA rows ss r) ss.length).map λ(j:Nat)=>(j:Int)+1).getD 0
def mD(lk:zJ)(L:zR)(es:zB)(rows:List LnM)(os:zC)(a:List (ij×V))(ss:List Stp)(r:Str×List Int):Int:=((pH lk L es rows os a ss r).map λ(j:Nat)=>(j:Int)).getD 0
theorem zr{p:Nat->Bool}{j:Nat}(h:p j=true):∀{i:Nat},j<i->(LI p i).isSome=true
 |i+1,hj=>by
  show(if p i=true then some i else LI p i).isSome=true;by_cases e:p i=true
  ·rw[ia e];rfl
  ·rw[fy e];refine zr h ?_;rcases Nat.lt_or_ge j i with z|z
   ·exact z
   ·have:j=i:=by lia
    subst this;exact absurd h e
theorem xq(b:∀s∈iu (rows.map (iA L)) rows.length,s∈ss)(h:InW (wkF lk L es rows os) r):∃j,pH lk L es rows os (wkF lk L es rows os) ss r=some j:=by
 unfold pH;by_cases m:r∈ji (szE L es) os
 ·exact⟨_,ia m⟩
 ·rw[fy m];rcases At _ h with z|⟨s,e,d,a⟩
  ·rcases(xp _ _).mp z with z|z
   ·cases z
   ·exact absurd z m
  ·obtain⟨j,c⟩:=List.getElem?_of_mem (b s (List.mem_reverse.mp e));refine Option.isSome_iff_exists.mp (zr (j:=j) ?_ (iG.mp c).1);unfold rdA;rw[c];show((ic (wkF lk L es rows os) (nk (wrS rows s))).isSome&&decide (r∈rdS lk rows s))=true;rw[d,Bool.true_and];exact kz a
def D2p(H:Hp)(f g:Str×List Int->Int)(x:Str):List (List Key×V)->List zI->Prop:=Paired λ(p:List Key×V)(c:zI)=>p.1=pb c/\∃q,p.2=.ref q/\H q=some (.tup [.int (f (x,c)),.int (g (x,c))])
theorem D2p.kt(h:D2p H f g x tk cs)(k:KT H H'):D2p H' f g x tk cs:=Paired.mapP h λ_ _ z=>⟨z.1,z.2.imp λ_ y=>⟨y.1,k _ _ y.2⟩⟩
theorem D2p.keys(h:D2p H f g x tk cs):tk.map (·.1)=cs.map pb:=by
 unfold D2p at h
 induction h with
 |nil=>rfl
 |cons r _ ih=>rw[iN,iN,ih,r.1]
def D9v(H:Hp)(f g:Str×List Int->Int)(x:Str)(cs:List zI)(v:V):Prop:=∃(b:zW)(a:List (List Key×V)),v=.ref b/\H b=some (.dT a)/\D2p H f g x a cs
def qk(H:Hp)(f g:Str×List Int->Int)(W:Str->List zI):List (Key×V)->List (Str×List Str)->Prop:=Paired λ(p:Key×V)(e:Str×List Str)=>p.1=Sum.inr e.1/\D9v H f g e.1 (W e.1) p.2
def Gq(A:Adr):Sp:=λk H Q _=>∃(p j:zW)(L:zR)(g:zC)(b:zB)(l:zC)(T:Nat)(a:List LnM)(d:zC)(i:zM)(c:List Stp)(e:zJ),k=[.ref p,.ref j]/\ClF A H p L g b a d/\mN L g b l T a d/\B2d e L g/\H j=some (.lst i)/\A2e H i c/\oC L a c/\c.length<=20000/\(∀s∈iu (a.map (iA L)) a.length,s∈c)/\
 ∀(D:zW)(h:zJ)(f:Hp),H D=none->A0l H f->f D=some (.dK h)->qk f (kH a c) (mD e L b a d (wkF e L b a d) c) (kY (wkF e L b a d) (szE L b)) h b->Q (.ref D) f
theorem D9v.keep(h:D9v H f g x cs v)(k1:∀b tk,H b=some (.dT tk)->v=.ref b->H' b=some (.dT tk))(k2:KT H H'):D9v H' f g x cs v:=by obtain⟨b,tk,e,c,a⟩:=h;exact fx b tk e (k1 b tk c e) (a.kt k2)
theorem Ea(kvs:List (ij×V))(c:Str->List Int)(x:Str):(kY kvs c x).Nodup:=by unfold kY;refine List.Nodup.sublist List.filter_sublist ?_;exact(B6 (c x)).imp λ{a b} h z=>by subst z;exact h.irrefl
theorem BE{α:Type}{l:List α}{c:α}(e:l.Nodup)(d:l[j]?=some c):c∉l.take j:=λm=>by
 obtain⟨i,a⟩:=List.getElem?_of_mem m;have b:i<j:=by have:=(iG.mp a).1;rw[iX]at this;lia
 rw[List.getElem?_take_of_lt b]at a;have:=(List.getElem?_inj (iG.mp a).1 e).mp (a.trans d.symm)
 lia
theorem IT(T:Txt K mg t):FO P w base T.cD 17 (Gq t):=by
 refine T.cD.F.ok qQ λ_ A _ s H _ Q E hr h=>?_
 ·refine lC h ?_;clear h;rintro p sl L nm x tb T0 f B ⟨ys,I,lk,rfl,cl,U,C,d4,st,f6,d0,i3,k⟩;have hu:=lF hr;have hn:=pM hr;refine lC cl.ex ?_;rintro dx l ad tl ln o m ak xs ⟨hp,hl,f5,e9,ar,ho,i6,c8,la⟩;have g4:m=lk:=f5.eq.trans C.eq.symm;subst g4;have fr:=U.fr;have j3:=U.eo.few
  have g8:∀e∈f.map (iA L),C3h e:=λe he=>by obtain⟨e',b8,rfl⟩:=kg.mp he;obtain⟨i,hi⟩:=List.getElem?_of_mem b8;exact(U.row i e' hi).2.rw' C
  have b4:(f.map (iA L)).length=f.length:=hA _;have j2:=sH g8 f.length;have i9:f.length*3660<=5*3660:=Nat.mul_le_mul_right _ fr
  have c7:∀e∈x,Sz m e.2 (szE L x e.1)/\B3z (szE L x e.1):=λe he=>by unfold szE;rw[rn U.eo.nd he];have ax:=U.eo.ax e he;have:=ax.few;exact⟨qp C ax.sub,tY C ax.sub (by lia) (U.eo.pr e he)⟩
  have g1:(ak.map (·.1)).Nodup:=by rw[zu ar,show(x.map λe=>(Sum.inr e.1:Key))=(x.map (·.1)).map Sum.inr by rw[List.map_map];rfl];exact List.Pairwise.map _ (λa b h z=>h (Sum.inr.inj z)) U.eo.nd
  refine rsq (eg (iw 2 qQ.nd (pcl (Ke T) hr T.bf (fC 0))) (eg (iw 3 qQ.nd (pcl (Jy T) hr T.bW (al (pv 0) (fC 1)))) (eg (iw 4 qQ.nd (pcl (Jj T) hr T.cB (al (pv 0) (al (pv 1) (fC 2))))) (eg (iw 5 qQ.nd sE) (eg (je (sw (oG PySem.F.plainAttrs_dict PySem.F.slot_dict_items PySem.F.type_dict_items sn (pcl (JD T) hr T.bN (al (pv 0) (fC 2))))) (lK (n:=2) rfl (iY (ie (i:=6) qQ.nd) (iY (ie (i:=7) qQ.nd) lN))) (eg ⟨@nG _ _ _ _ _ _ _ _ _ hu (pv 5) (pv 6) Fc rfl⟩ (fa (je (ju (pv 7)) (ie (i:=8) qQ.nd) (fa ⟨@nG _ _ _ _ _ _ _ _ _ hu (iR hu (pv 5) (pv 6)) (pv 8) (jd (al (tR PySem.F.slot_dict_get PySem.F.type_dict_get (Ab hn) (pv 3) (al (jd (al (pv 6) (fC 8))) (al fe eH))) (al (pQ hn (pv 4) (jd (al (pv 6) (fC 8))) (λ_ _=>rfl)) eH))) rfl⟩))))) ⟨uq (@lW _ _ _ (@pP _ _ _ _ (pv 5)))⟩))))) ?_;refine nu _ rfl p dx l ad tl ln o 97 m (km ak B (lu (axE x) (szE L x) xs [] f (f.map (iA L)) rfl hp hl e9 ho (by have:=U.fo;lia) (λy hy=>vi C U ar hy) i6 ⟨c8,(ke (BP (λv e z=>?_) c8) (λe he=>?_) (by lia) (λs hs=>?_) (by rw[b4];lia) λF H1 hF s1 a1=>?_)⟩))
  ·refine nN z ?_;clear z;rintro a' g5 c u n ev e1 m1 e2 m2 ⟨e3,_⟩;exact⟨a',(jk g5 c u n _ ev e1 m1 e2 m2 e3)⟩
  ·obtain⟨e',b8,rfl⟩:=kg.mp he;obtain⟨i,hi⟩:=List.getElem?_of_mem b8;have gd:=(U.row i e' hi).2;exact jH (gd.rw' C) (qp C gd.ax.sub) (qp C gd.sub) (λy hy=>(C.ok y (gd.ax.sub y hy)).2.2.2) λy hy=>(C.ok y (gd.sub y hy)).2.2.2
  ·rw[b4]at hs;obtain⟨_,_,si⟩:=sy hs;exact(rk C U si).1
  rw[b4]at a1;have a1:A3g P w [true,false] H1 F (wkF m L x f B):=a1;refine lP _ rfl _ rfl p sl L nm x (lh f B ys I rfl (cl.same s1) (s1 _ _ d4) (st.kt (KT.same s1)) f6 ⟨d0,λFD kf H2 j0 s2 d3 vf=>?_⟩);have a8:=s1.trans s2;refine jB _ rfl _ rfl (nu _ rfl p sl F L nm x tb T0 f (jk B ys I m _ rfl (cl.same a8) U C (a8 _ _ d4) (jH (st.kt (KT.same a8)) f6 d0 (jb a1 s2) λLD kl H3 j5 s3 d1 vl=>?_)));have f3:=a8.trans s3;refine λV0 d5=>?_;obtain⟨H4,s4,f1,f9⟩:=nH (o:=.dK []) d5
  try rw[f9]
  have X:=f3.trans s4;refine ah _ rfl (nu _ rfl p dx l ad tl ln o F 97 (lu m ak x (szE L x) (λ_=>True) _ rfl (X _ _ hp) (X _ _ hl) (X _ _ e9) (ar.same X) (by lia) g1 la (hQ c7 (jb (jb (jb a1 s2) s3) s4) λD0 bk H5 c2 s5 M wn=>?_)));have i8:=X.trans s5;have i0:=s5 _ _ f1;have VD:V0≠D0:=λz=>by subst z;rw[f1]at c2;cases c2
  have i4:=Paired.length wn;refine⟨.inr (.inr (.inl ⟨rfl,.inl ⟨_,M⟩⟩)),(jA D0 _ rfl rfl M (.inl ⟨_,rfl⟩) λvw e6=>?_)⟩;have av:D0≠vw:=ik M e6;refine jv vw D0 _ rfl dh (by rw[dV av];exact M) (.inl (ah bk rfl λo1=>?_));obtain⟨Gf,hGf⟩:∃Gf,Gf=upd (upd H5 vw (mO vw D0)) D0 (.frz o1 (.dK bk)):=⟨_,rfl⟩;rw[<-hGf];have fz:Gf D0=some (.frz o1 (.dK bk)):=by rw[hGf];exact dh
  have R:∀{b:zW}{u:HO},b≠D0->H5 b=some u->Gf b=some u:=λn e=>by rw[hGf,dV n,dV (ik e e6)];exact e
  have a6:=R VD i0;have b7:KT H5 Gf:=λb xs e=>R (ir e M (by intro z;cases z)) e;have b3:A3g P w [true,false] Gf FD kf:=(jb (jb (jb d3 s3) s4) s5).keeps (λu z=>R (λq=>by subst q;obtain⟨_,e,_⟩:=jb (jb (jb d3 s3) s4) s5;rw[M]at e;cases e) z) b7;have d6:A3g P w [true,false] Gf LD kl:=(jb (jb d1 s4) s5).keeps (λu z=>R (λq=>by subst q;obtain⟨_,e,_⟩:=jb (jb d1 s4) s5;rw[M]at e;cases e) z) b7;have d9:∀{G:Hp}{a:zW}{kv:List (ij×V)}{J:zJ},A3g P w [true,false] G a kv->G V0=some (.dK J)->a≠V0:=λnd hv z=>by subst z;obtain⟨_,e,_⟩:=nd;rw[hv]at e;cases e
  refine uj (L:=bk.map λq=>(kV q.1,q.2)) (λi Z G=>∃(o6 o7 o8:zP)(J:zJ),Z=[Sro p,Sro sl,Sro F,Sro FD,Sro LD,Sro V0,o6,o7,o8]/\KB V0 Gf G/\G V0=some (.dK J)/\J.map (·.1)=(bk.take i).map (·.1)/\qk G (kH f I) (mD m L x f B (wkF m L x f B) I) (kY (wkF m L x f B) (szE L x)) J (x.take i))
   (jf none none none [] rfl KB.refl a6 rfl .nil) (by (rintro i Z G zz;refine pE zz ?_;clear zz;rintro _ _ _ ⟨_,_,kb,_⟩);exact kb _ _ VD.symm fz) ?_ ?_
  ·rintro i kx vx qq Z G hx hq zz;refine jy zz ?_;clear zz;rintro o6 o7 o8 J rfl kb hV ⟨ks,a2⟩;rw[jh]at hx;obtain⟨⟨k',v⟩,hk,e⟩:=oP.mp hx;cases e;refine oZ (ja wn hk) ?_;rintro e he ek ⟨b,rfl,_,cb⟩;have ek:k'=Sum.inr e.1:=ek;subst ek;have em:=iZ he;obtain⟨ps,hb,tp⟩:=cb.ex;have g0:=tp.len;have h9:=Ea (wkF m L x f B) (szE L x) e.1
   have lw:(kY (wkF m L x f B) (szE L x) e.1).length<=4000:=by
    unfold kY;have h1:=List.length_filter_le (λc=>(ic (wkF m L x f B) (nk (e.1,c))).isSome) (iE (szE L x e.1));have h2:=(c7 e em).2.len
    lia
   have sq:A0l G (upd G qq (.tup [kV (Sum.inr e.1),.ref b])):=eh hq;have e5:upd G qq (.tup [kV (Sum.inr e.1),.ref b]) qq=some (.tup [.str e.1,.ref b]):=dh;generalize upd G qq (.tup [kV (Sum.inr e.1),.ref b])=G1 at sq e5;have e4:=kb.trans (KB.of sq);have e0:=sq _ _ hV;refine mQ qq _ rfl (SqT.of e5) rfl _ _ rfl _ _ rfl rfl ?_;refine λIB O=>?_;have N:A0l G1 (upd G1 IB (.dT [])):=eh O;have e7:upd G1 IB (.dT []) IB=some (.dT []):=dh;have IV:IB≠V0:=(ik e0 O).symm;generalize upd G1 IB (.dT [])=G2 at N e7;have c1:=N _ _ e0;have j4:J.length=(bk.take i).length:=by have:=congrArg List.length ks;simpa using this
   have j1:(bk.take i).length<=bk.length:=by rw[iX];lia
   refine iU _ rfl _ rfl V0 _ rfl (B4w.k (k:=Sum.inr e.1) c1 (iM (by lia))) ?_
   have d2:(bk.map (·.1)).Nodup:=by
    have:bk.map (·.1)=x.map λe=>(Sum.inr e.1:Key):=by
     have c4:∀{a:zJ}{c:zB},uU H4 H5 (wkF m L x f B) (szE L x) a c->a.map (·.1)=c.map λe=>(Sum.inr e.1:Key):=λh=>by
      unfold uU at h
      induction h with
      |nil=>rfl
      |cons r _ ih=>rw[iN,iN,ih,r.1]
     exact c4 wn
    rw[this,show(x.map λe=>(Sum.inr e.1:Key))=(x.map (·.1)).map Sum.inr by rw[List.map_map];rfl];exact List.Pairwise.map _ (λa b h z=>h (Sum.inr.inj z)) U.eo.nd
   rw[ug d2 hk J ks (.ref IB)];have a4:KB V0 Gf (upd G2 V0 (.dK (J++[(Sum.inr e.1,.ref IB)]))):=(e4.trans (KB.of N)).upd;have b6:upd G2 V0 (.dK (J++[(Sum.inr e.1,.ref IB)])) V0=some (.dK (J++[(Sum.inr e.1,.ref IB)])):=dh;have Y:upd G2 V0 (.dK (J++[(Sum.inr e.1,.ref IB)])) IB=some (.dT []):=by rw[dV IV];exact e7
   have a7:qk (upd G2 V0 (.dK (J++[(Sum.inr e.1,.ref IB)]))) (kH f I) (mD m L x f B (wkF m L x f B) I) (kY (wkF m L x f B) (szE L x)) J (x.take i)/\∀q∈J,q.2≠.ref IB:=by
    refine⟨Paired.mapP a2 λ_ _ z=>⟨z.1,z.2.keep (λb tk h _=>?_) λb xs h=>?_⟩,λq hq z=>?_⟩
    ·rw[dV (ir (N _ _ (sq _ _ h)) c1 (by intro z;cases z))];exact N _ _ (sq _ _ h)
    ·rw[dV (ir (N _ _ (sq _ _ h)) c1 (by intro z;cases z))];exact N _ _ (sq _ _ h)
    ·obtain⟨j,hj⟩:=List.getElem?_of_mem hq;refine oZ (ja a2 hj) ?_;rintro _ _ _ ⟨b',i5,e1,e2,_⟩;rw[z]at e1;cases e1;rw[sq _ _ e2]at O;cases O
   generalize upd G2 V0 (.dK (J++[(Sum.inr e.1,.ref IB)]))=G3 at a4 b6 Y a7;obtain⟨a7,g9⟩:=a7;have f8:=R (ir hb M (by intro z;cases z)) hb;have c0:=a4 _ _ (ir f8 a6 (by intro z;cases z)) f8;have h6:b≠IB:=ir c0 Y (by intro z;cases z);refine jg _ rfl b rfl ⟨_,SqL.of c0⟩ ?_
   refine kr (K:=K) (a:=b) (xs:=ps.map V.ref) (λj Z G4=>∃(o8:zP)(tk:List (List Key×V)),Z=[Sro p,Sro sl,Sro F,Sro FD,Sro LD,Sro V0,Sso e.1,Sro b,o8]/\KB IB G3 G4/\G4 IB=some (.dT tk)/\D2p G4 (kH f I) (mD m L x f B (wkF m L x f B) I) e.1 tk ((kY (wkF m L x f B) (szE L x) e.1).take j))
    (iO _ [] rfl KB.refl Y .nil) (by rintro j Z G4 _ ⟨_,_,_,D,_⟩;exact SqL.of (D _ _ h6 c0)) ?_ ?_
   ·rintro j y Z G4 hy ⟨o8,tk,rfl,D,b9,W⟩;obtain⟨pc,f2,rfl⟩:=ko hy;obtain⟨c,hc,h0⟩:=tp.get f2;have hj:j<ps.length:=(iG.mp f2).1;have a5:∀{G':Hp},KB IB G3 G'->KT G3 G':=λh5 b xs z=>h5 _ _ (ir z Y (by intro z;cases z)) z;have f0:KT Gf G3:=λb xs z=>a4 _ _ (ir z a6 (by intro z;cases z)) z;have a0:G4 pc=some (.tup (c.map V.int)):=a5 D _ _ (f0 _ _ (b7 _ _ h0))
    have c5:∀{a:zW}{kv:List (ij×V)},A3g P w [true,false] Gf a kv->A3g P w [true,false] G4 a kv:=λnd=>by have n3:A3g P w [true,false] G3 _ _:=nd.keeps (λu z=>a4 _ _ (d9 nd a6) z) f0;refine n3.keeps (λu z=>D _ _ (λq=>?_) z) (a5 D);subst q;obtain⟨_,e,_⟩:=n3;rw[Y]at e;cases e
    have wm:InW (wkF m L x f B) (e.1,c):=by have hm:=iZ hc;unfold kY at hm;exact(List.mem_filter.mp hm).2
    obtain⟨jl,h8⟩:=xq i3 wm;refine hH _ rfl (ku FD _ _ rfl (c5 b3)) (jg _ rfl _ rfl (iq rfl) λb1 g2=>?_);have S:A0l G4 (upd G4 b1 (.tup [.str e.1,.ref pc])):=eh g2;have f4:A1x (upd G4 b1 (.tup [.str e.1,.ref pc])) (nk (e.1,c)) b1:=om dh (by rw[List.map_map];exact S _ _ a0);generalize upd G4 b1 (.tup [.str e.1,.ref pc])=G5 at S f4;refine lA FD b1 _ _ (nk (e.1,c)) (lx _ _ rfl ⟨rfl,rfl,jb (c5 b3) S,f4,rfl⟩ _ rfl (jg _ rfl _ rfl (iq rfl) λb2 g6=>?_));have a9:A0l G5 (upd G5 b2 (.tup [.str e.1,.ref pc])):=eh g6;have d8:A1x (upd G5 b2 (.tup [.str e.1,.ref pc])) (nk (e.1,c)) b2:=om dh (by rw[List.map_map];exact a9 _ _ (S _ _ a0));generalize upd G5 b2 (.tup [.str e.1,.ref pc])=G6 at a9 d8;have e8:=S.trans a9
    have g3:ic kl (nk (e.1,c))=some (.int (mD m L x f B (wkF m L x f B) I (e.1,c))):=by rw[vl (e.1,c)];unfold mD;rw[h8];rfl
    have g7:(ic kf (nk (e.1,c))).getD (.int 0)=.int (kH f I (e.1,c)):=by rw[vf (e.1,c)];unfold kH;cases FI (wrA f I (e.1,c)) I.length<;>rfl
    refine km LD b2 (jo _ _ (nk (e.1,c)) _ ⟨rfl,rfl,jb (jb (c5 d6) S) a9,d8,rfl⟩ g3 (iq rfl) λq hq=>?_);rw[g7];have c9:A0l G6 (upd G6 q (.tup [.int (kH f I (e.1,c)),.int (mD m L x f B (wkF m L x f B) I (e.1,c))])):=eh hq;have b0:upd G6 q (.tup [.int (kH f I (e.1,c)),.int (mD m L x f B (wkF m L x f B) I (e.1,c))]) q=some (.tup [.int (kH f I (e.1,c)),.int (mD m L x f B (wkF m L x f B) I (e.1,c))]):=dh;generalize upd G6 q (.tup [.int (kH f I (e.1,c)),.int (mD m L x f B (wkF m L x f B) I (e.1,c))])=G7 at c9 b0;have a3:=e8.trans c9;have h7:G7 V0=some (.dK (J++[(Sum.inr e.1,.ref IB)])):=a3 _ _ (D _ _ IV.symm b6)
    have gV:B0p G7 V0 (.str e.1) (some (.ref IB)):=by
     have g:=B0p.k (H:=G7) (a:=V0) (k:=Sum.inr e.1) h7
     have c3:(Sum.inr e.1:Key)∉J.map (·.1):=by
      rw[ks];intro z;have h1:((bk.map (·.1)))[i]?=some (Sum.inr e.1):=by rw[jh,hk];rfl
      rw[List.map_take]at z;exact BE d2 h1 z
     rw[xF _ _ _ _ (xA c3),ia rfl]at g;exact g
    have f7:=a3 _ _ b9;refine iU _ rfl _ rfl V0 _ rfl gV (ii _ rfl IB _ rfl (B4w.t (k:=pb c) f7 (by rw[List.map_map];exact a3 _ _ a0) (iM (by have:=congrArg List.length W.keys;rw[hA,hA,iX]at this;lia))) ?_);have b5:KT G7 (upd G7 IB (.dT (iL tk (pb c) (.ref q)))):=KT.at f7 (by intro xs z;cases z);have i2:c∉(kY (wkF m L x f B) (szE L x) e.1).take j:=BE h9 hc
    have d7:ic tk (pb c)=none:=by
     cases hv:ic tk (pb c)with
     |none=>rfl
     |some v=>obtain⟨p',i7,ep⟩:=List.any_eq_true.mp (show(tk.any λkv=>decide (kv.1=pb c))=true by rw[oV,hv];rfl);have hm:pb c∈tk.map (·.1):=kg.mpr (ah p' i7 (of_decide_eq_true ep));rw[W.keys]at hm;obtain⟨c',h4,ec⟩:=kg.mp hm;exact absurd (by rw[<-FL ec];exact h4) i2
    rw[qG _ d7]at b5;rw[qG _ d7];refine iO _ _ rfl ((D.trans (KB.of a3)).upd) dh ?_;rw[iF,hc,iS];exact jZ ((W.kt (KT.same a3)).kt b5) (.cons (iV rfl q rfl (b5 _ _ b0)) .nil)
   ·rintro Z G4 ⟨o8,tk,rfl,D,b9,W⟩;rw[hA,g0,iQ]at W;have a5:KT G3 G4:=λb xs z=>D _ _ (ir z Y (by intro z;cases z)) z;refine jf _ _ _ (J++[(Sum.inr e.1,.ref IB)]) rfl (λb u n z=>?_) (D _ _ IV.symm b6) ?_ ?_
    ·have h3:=a4 _ _ n z;exact D _ _ (λq=>by subst q;rw[e4 _ _ n z]at O;cases O) h3
    ·rw[iK,ks,iF,hk,iK];rfl
    ·rw[iF,he];refine jZ ?_ (.cons (jN rfl IB tk rfl b9 W) .nil)
     have c4:∀{a:zJ}{d:zB},qk G3 (kH f I) (mD m L x f B (wkF m L x f B) I) (kY (wkF m L x f B) (szE L x)) a d->(∀q∈a,q.2≠.ref IB)->qk G4 (kH f I) (mD m L x f B (wkF m L x f B) I) (kY (wkF m L x f B) (szE L x)) a d:=λh hq=>by
      unfold qk at h⊢
      induction h with
      |nil=>exact .nil
      |cons r _ ih=>refine .cons ⟨r.1,r.2.keep (λb i5 h1 h2=>D _ _ (λq=>hq _ (.head _) (by rw[h2,q])) h1) a5⟩ (ih λq i1=>hq q (.tail _ i1))
     exact c4 a7 g9
  ·rintro Z G zz;refine jy zz ?_;clear zz;rintro o6 o7 o8 J rfl kb hV ⟨ks,a2⟩;rw[hA,i4,iQ]at a2;have c6:=kb _ _ VD.symm fz;have D0H:H D0=none:=X.free c2;have V0H:H V0=none:=f3.free d5;refine ku D0 o1 _ c6 (kE (.inl ⟨_,rfl⟩) (λo' u' z=>by have z:H D0=some (.frz o' u'):=z;rw[D0H]at z;cases z) _ rfl ?_);refine k V0 J _ V0H (λb u z=>?_) (by rw[dV VD];exact hV) (Paired.mapP a2 λ_ _ z=>⟨z.1,z.2.keep (λb tk h _=>by rw[dV (ir h c6 (by intro z;cases z))];exact h) λb xs h=>by rw[dV (ir h c6 (by intro z;cases z))];exact h⟩);rw[dV (ik z D0H)];exact kb _ _ (ik z V0H) (R (ik z D0H) (i8 _ _ z))
def C1a(H:Hp)(lk:zJ)(rows:List LnM):zM->List Stp->Prop:=Paired λ(v:V)(s:Stp)=>∃(R:zW)(a:zM),v=.ref R/\H R=some (.lst a)/\Rds H a (rdS lk rows s)
theorem C1a.same{ks:zM}(h:C1a H lk rows ks ss)(s:A0l H H'):C1a H' lk rows ks ss:=Paired.mapP h (by rintro _ _ ⟨R,a,e,b,c⟩;exact fx R a e (s _ _ b) (c.keep (KT.same s)))
structure B4a(P:yB)(w:yD)(H0 G:Hp)(M:zQ)(N:Nat)(LD:zW)(cnt:Str×List Int->Option (Int×Int)):Prop where
 ex:∃(kv:List (ij×V))(ad:Str×List Int->zW),A3g P w [true,false] G LD kv/\(∀r,ic kv (nk r)=(cnt r).map λ_=>V.ref (ad r))/\(∀r q,cnt r=some q->G (ad r)=some (.lst [.int q.1,.int q.2])/\H0 (ad r)=none/\ad r∉M)/\(∀r r',cnt r≠none->cnt r'≠none->ad r=ad r'->r=r')/\kv.length<=N
theorem B4a.same{cnt:Str×List Int->Option (Int×Int)}(h:B4a P w H0 G M N LD cnt)(s:A0l G G'):B4a P w H0 G' M N LD cnt:=by refine jC h.ex ?_;rintro g c b i a ⟨d,f⟩;exact⟨g,c,jb b s,i,λr q e=>⟨s _ _ (a r q e).1,(a r q e).2⟩,d,f⟩
def wH(lk:zJ)(rows:List LnM)(cnt:Str×List Int->Option (Int×Int))(s:Stp):Prop:=(s.2.1="add"->∀q,cnt (wrS rows s)=some q->q.1≠0)/\∀r∈rdS lk rows s,∀q,cnt r=some q->q.2<=0
structure OrA(H:Hp)(lk:zJ)(L:zR)(rows:List LnM)(ss:List Stp)(SL KL NL:zW):Prop where
 st:∃ys,H SL=some (.lst ys)/\A2e H ys ss
 ks:∃ks,H KL=some (.lst ks)/\C1a H lk rows ks ss
 nl:H NL=some (.lst ((rows.map (·.nm)).map V.str))
 sin:oC L rows ss
theorem OrA.same{SL KL NL:zW}(h:OrA H lk L rows ss SL KL NL)(s:A0l H H'):OrA H' lk L rows ss SL KL NL:=by obtain⟨b,f,c⟩:=h.st;obtain⟨a,d,e⟩:=h.ks;exact⟨(ah b (s _ _ f) (c.kt (KT.same s))),(ah a (s _ _ d) (e.same s)),s _ _ h.nl,h.sin⟩
def Gi(P:yB)(w:yD):Sp:=λf H Q _=>∃(k:Nat)(SL KL NL LD:zW)(c:zJ)(L:zR)(a:List LnM)(d:List Stp)(s:Stp)(cnt:Str×List Int->Option (Int×Int))(g:Hp)(M:zQ)(N:Nat),f=[.int (k:Nat),.ref SL,.ref KL,.ref NL,.ref LD]/\OrA H c L a d SL KL NL/\d[k]?=some s/\B4a P w g H M N LD cnt/\cnt (wrS a s)≠none/\
 ∀(b:Bool)(e:Hp),A0l H e->(wH c a cnt s->b=true)->(b=true->∀r∈rdS c a s,∀q,cnt r=some q->q.2<=0)->Q (.bl b) e
theorem Ic(T:Txt K mg t):FO P w base T.cS 1 (Gi P w):=by
 refine T.cS.F.ok xM λ_ A _ s H _ Q E hr h=>?_
 ·refine oX h ?_;clear h;rintro i SL KL NL LD lk L d ss m cnt H0 M N ⟨rfl,oa,y,lf,a1,k⟩;have hn:=pM hr;obtain⟨ys,D,st⟩:=oa.st;obtain⟨ks,a4,I⟩:=oa.ks;have a8:=Paired.length st;have a9:=Paired.length I;have hi:=(iG.mp y).1;have a0:ys[i]?=some (ys[i]'(by lia)):=jq _;have Y:ks[i]?=some (ks[i]'(by lia)):=jq _;obtain⟨a3,f,b,c,u,ev,h1,hc,hu⟩:=ja st a0;rw[y]at f;cases f;obtain⟨a3,f,R,vs,ek,hR,S⟩:=ja I Y;rw[y]at f;cases f;obtain⟨kk,e,si⟩:=oa.sin m (iZ y);have J:d[m.1.toNat]?=some e:=by rw[si.hk,Int.toNat_natCast];exact si.he
  have ew:wrS d m=(e.nm,m.2.2.1):=by unfold wrS;rw[J]
  have aS:atI ys (i:Int)=some (.ref b):=hY (by rw[a0,ev]);have aK:atI ks (i:Int)=some (.ref R):=hY (by rw[Y,ek]);have aN:atI ((d.map (·.nm)).map V.str) m.1=some (.str e.nm):=by rw[si.hk];exact hY (by rw[jh,jh,si.he];rfl)
  refine rsq (eg (iw 5 xM.nd (jd (al (jr kd (pv 3) (jr rZ (jr kd (pv 1) (pv 0)) fe)) (al (jr rZ (jr kd (pv 1) (pv 0)) fe) eH)))) (mY (iP (PW.pt (pO (iT kS (jr rZ (jr kd (pv 1) (pv 0)) fe) ip) (qF (iT kS (jr kd (pQ hn (pv 4) (pv 5) (λ_ _=>rfl)) fe) fe)))) (fa (im nY)) ⟨iJ⟩) (eg (je (ju (jr kd (pv 2) (pv 0))) (ie (i:=6) xM.nd) (fa (iP (PW.pt (pO (iT (ro hn) (pv 6) (pv 4) (by with_unfolding_all rfl)) (qF (iT qo (jr kd (pQ hn (pv 4) (pv 6) (λ_ _=>rfl)) fe) fe)))) (fa (im nY)) ⟨iJ⟩))) (fa (im nY))))) ?_;refine ah _ rfl (mf _ rfl _ rfl SL _ _ _ rfl rfl (SqL.of D) aS (jf b _ _ _ rfl rfl (SqT.of h1) (hY (j:=0) rfl) (jf NL _ _ _ rfl rfl (SqL.of oa.nl) aN (mf _ rfl _ rfl SL _ _ _ rfl rfl (SqL.of D) aS (lh b _ _ _ rfl rfl (SqT.of h1) (hY (j:=2) rfl) (iq rfl) λq o=>?_)))));have l:A0l H (upd H q (.tup [.str e.nm,.ref c])):=eh o;have na:A1x (upd H q (.tup [.str e.nm,.ref c])) (nk (wrS d m)) q:=by rw[ew];exact om dh (by rw[List.map_map];exact l _ _ hc)
  generalize upd H q (.tup [.str e.nm,.ref c])=H1 at l na;have a6:=lf.same l;refine jC a6.ex ?_;rintro kv ad nd vv vl ⟨_,_⟩;have get:∀{G:Hp}(r:Str×List Int)(x:Int×Int),A0l H1 G->cnt r=some x->ic kv (nk r)=some (.ref (ad r))/\G (ad r)=some (.lst [.int x.1,.int x.2]):=λr x s' e=>⟨by rw[vv r,e];rfl,s' _ _ (vl r x e).1⟩;obtain⟨x0,O⟩:=Option.ne_none_iff_exists'.mp a1;have a7:=l _ _ D;have a5:=l _ _ h1;refine ah (λZ G=>Z=[Sio (i:Nat),Sro SL,Sro KL,Sro NL,Sro LD,Sro q,none]/\H1=G) ?_ ?_
  ·refine mf _ rfl _ rfl SL _ _ _ rfl rfl (SqL.of a7) aS (jo b _ _ _ rfl rfl (SqT.of a5) (kE (hY (j:=1) rfl) rfl _ rfl (nj (λU=>?_) (λ_=>jx ⟨rfl,rfl⟩))));obtain⟨g1,g2⟩:=get _ _ (A0l.refl _) O;refine lP _ rfl _ rfl LD q _ _ (nk (wrS d m)) (hH _ ⟨rfl,rfl,nd,na,rfl⟩ g1 (jo (ad (wrS d m)) _ _ _ rfl rfl (SqL.of g2) (kE (hY (j:=0) rfl) rfl _ rfl (iC (λC=>?_) (λ_=>⟨rfl,rfl⟩)))));exact k false H1 l (λg=>absurd (V.int.inj C) (g.1 (V.str.inj (of_decide_eq_true U)) x0 O)) (λz=>by cases z)
  rintro Z G ⟨rfl,rfl⟩;have W:=l _ _ hR;refine mf _ rfl _ rfl KL _ _ _ rfl rfl (SqL.of (l _ _ a4)) aK (hH R rfl ⟨_,SqL.of W⟩ ?_);refine kr (K:=K) (a:=R) (xs:=vs) (λj Z G=>∃(o6:zP),Z=[Sio (i:Nat),Sro SL,Sro KL,Sro NL,Sro LD,Sro q,o6]/\H1=G/\∀r∈(rdS lk d m).take j,∀q,cnt r=some q->q.2<=0) (hH none rfl rfl (λr hr=>by cases hr)) (by rintro j Z G _ ⟨_,_,rfl,_⟩;exact SqL.of W) ?_ ?_
  ·rintro j v Z G hv ⟨o6,rfl,rfl,p⟩;obtain⟨r,X,tr⟩:=ja S hv;obtain⟨b1,rfl,a2⟩:=pf (tr.keep (KT.same l));have rm:=iZ X
   have B:(∀q,cnt r=some q->q.2<=0)->∀r'∈(rdS lk d m).take (j+1),∀q,cnt r'=some q->q.2<=0:=λh r' hm q o=>by
    rw[iF,X,iS]at hm;rcases ng.mp hm with z|z
    ·exact p r' z q o
    ·rw[mL.mp z]at o;exact h q o
   refine⟨_,rfl,_,rfl,LD,b1,_,_,nk r,⟨rfl,rfl,nd,a2,rfl⟩,_,rfl,nj (λn=>?_) (λn=>jx ⟨_,rfl,rfl,B λq o=>by
    have n:¬(ic kv (nk r)).isSome=true:=n;rw[vv r,o]at n
    exact absurd rfl n⟩)⟩
   have n:(ic kv (nk r)).isSome=true:=n
   obtain⟨x1,hx1⟩:∃x1,cnt r=some x1:=by
    rw[vv r]at n
    cases hc:cnt r with
    |none=>rw[hc]at n;cases n
    |some x1=>exact⟨x1,rfl⟩
   obtain⟨g1,g2⟩:=get _ _ (A0l.refl _) hx1
   refine⟨_,rfl,_,rfl,LD,b1,_,_,nk r,_,⟨rfl,rfl,nd,a2,rfl⟩,g1,ad r,_,_,_,rfl,rfl,SqL.of g2,hY (j:=1) rfl,_,_,rfl,rfl,_,rfl,iC (λC=>?_) (λC=>⟨_,rfl,rfl,B λq o=>by
    rw[hx1]at o;cases o;have C:¬0<x1.2:=C
    lia⟩)⟩
   have C:0<x1.2:=C;exact k false H1 l (λg=>by have:=g.2 r rm x1 hx1;lia) (λz=>by cases z)
  ·rintro Z G ⟨o6,rfl,rfl,p⟩;rw[Paired.length S,iQ]at p;exact k true H1 l (λ_=>rfl) (λ_=>p)
def C5d(l:List Stp):Prop:=∀(m:Nat)(s:Stp),l[m]?=some s->s.2.1="add"->∃(j:Nat)(a:Stp),j<m/\l[j]?=some a/\a.1=s.1/\a.2.2.1=s.2.2.1
theorem C5d.app{a b:List Stp}(k:C5d a)(i:C5d b):C5d (a++b):=λm s h g=>by
 rcases Nat.lt_or_ge m a.length with z|z
 ·rw[lD z]at h;obtain⟨j,d,f,e,c⟩:=k m s h g;exact fx j d f (by rw[lD (by lia)];exact e) c
 ·rw[nP z]at h;obtain⟨j,d,f,e,c⟩:=i _ s h g;exact fx (a.length+j) d (by lia) (by rw[nP (by lia),Nat.add_sub_cancel_left];exact e) c
theorem C5d.flat{α:Type}{f:α->List Stp}:∀{l:List α},(∀x∈l,C5d (f x))->C5d (l.flatMap f)| [],_=>λm s h=>by simp at h|x::r,h=>by rw[List.flatMap_cons];exact C5d.app (h x (.head _)) (C5d.flat λy a=>h y (.tail _ a))
theorem FU(k:Int)(ss c:zI):C5d (kW k ss c):=λm s h b=>by
 have a:=sj (iZ h);unfold kW at h⊢;split at h
 ·rename_i z
  cases m with
  |zero=>simp at h;rw[<-h]at b;exact absurd b (show¬(("set":Str)="add")by decide+kernel)
  |succ m=>simp at h
 ·rename_i z;rw[fy z]
  cases m with
  |zero=>simp at h;rw[<-h]at b;exact absurd b (show¬(("start":Str)="add")by decide+kernel)
  |succ m=>exact iO 0 (k,"start",c,[]) (by lia) rfl a.1.symm a.2.symm
theorem Hg(a:List Rw)(n:Nat):C5d (iu a n):=by
 unfold iu;refine C5d.flat λk _=>?_;unfold pi;split
 ·unfold pV;exact C5d.flat λc _=>FU _ _ c
 ·exact λm s h=>by simp at h
structure B1d(rows:List LnM)(ss:List Stp)(pend:List Nat)(cnt:Str×List Int->Option (Int×Int)):Prop where
 asc:pend.Pairwise (·< ·)
 lt:∀j∈pend,j<ss.length
 dom:∀(j:Nat)(s:Stp),ss[j]?=some s->cnt (wrS rows s)≠none
 num:∀r q,cnt r=some q->q.2=((pend.filter (wrA rows ss r)).length:Int)/\((∃(j:Nat)(s:Stp),j∉pend/\ss[j]?=some s/\wrS rows s=r)->q.1≠0)
theorem Cz{s':Stp}(h1:s'.1=s.1)(h2:s'.2.2.1=s.2.2.1):wrS rows s'=wrS rows s:=by unfold wrS;rw[h1,h2]
theorem pR(h:ss[j]?=some s):wrA rows ss r j=true↔wrS rows s=r:=by unfold wrA;rw[h];simp
theorem Im(l:B2d lk L nm)(A:mN L nm es tb T rows os){cnt:Str×List Int->Option (Int×Int)}(k:B1d rows (iu (rows.map (iA L)) rows.length) pend cnt)(p:pend[0]?=some m)(i:(iu (rows.map (iA L)) rows.length)[m]?=some s):wH lk rows cnt s:=by
 obtain⟨m',rest,rfl⟩:∃a b,pend=a::b:=by
  cases pend with
  |nil=>simp at p
  |cons a b=>exact km a b rfl
 have e:m'=m:=by simpa using p
 subst e;have g:=k.asc;rw[List.pairwise_cons]at g
 have c:∀j∈m'::rest,m'<=j:=λj h=>by
  rcases jt.mp h with z|z
  ·lia
  ·have:=g.1 j z;lia
 refine⟨λo q n=>?_,λr B q n=>?_⟩
 ·obtain⟨j,C,D,v,y,u⟩:=Hg _ _ m' s i o;exact(k.num _ q n).2 (fx j C (λz=>by have:=c j z;lia) v (Cz y u))
 ·rw[(k.num r q n).1]
  have:(m'::rest).filter (wrA rows (iu (rows.map (iA L)) rows.length) r)=[]:=List.filter_eq_nil_iff.mpr λj h o=>by
   have d:=k.lt j h;have f:(iu (rows.map (iA L)) rows.length)[j]?=some _:=jq d;have w:=(pR f).mp o
   have x:iu (rows.map (iA L)) rows.length=(iu (rows.map (iA L)) rows.length).take j++(iu (rows.map (iA L)) rows.length)[j]::(iu (rows.map (iA L)) rows.length).drop (j+1):=by rw[<-uH d,sY]
   refine Ai l A _ _ _ x s ?_ (by rw[w];exact B);rcases Nat.lt_or_ge m' j with z|z
   ·exact .tail _ (iZ (show((iu (rows.map (iA L)) rows.length).take j)[m']?=some s by rw[List.getElem?_take_of_lt z];exact i))
   ·have t:m'=j:=by have:=c j h;lia
    subst t;rw[f]at i;cases i;exact .head _
  rw[this];exact Int.le_refl _
theorem BG{α:Type}{p:α->Bool}:∀{l:List α}{k:Nat}{x:α},l[k]?=some x->(l.filter p).length=((l.eraseIdx k).filter p).length+(if p x=true then 1 else 0)
 | [],_,_,h=>by simp at h
 |y::r,0,x,h=>by
  simp at h;subst h;rw[List.eraseIdx_cons_zero];by_cases e:p y=true
  ·rw[List.filter_cons_of_pos e,ia e];rfl
  ·rw[List.filter_cons_of_neg e,fy e];rfl
 |y::r,k+1,x,h=>by
  have a:=BG (p:=p) (l:=r) (k:=k) (x:=x) (by simpa using h);rw[List.eraseIdx_cons_succ];by_cases e:p y=true
  ·rw[List.filter_cons_of_pos e,List.filter_cons_of_pos e,mB,mB];lia
  ·rw[List.filter_cons_of_neg e,List.filter_cons_of_neg e];exact a
theorem xI{α:Type}:∀{l:List α}{k:Nat}{x y:α},l[k]?=some x->y∈l->y=x\/y∈l.eraseIdx k
 | [],_,_,_,h,_=>by simp at h
 |z::r,0,x,y,h,m=>by simp at h;subst h;rw[List.eraseIdx_cons_zero];exact jt.mp m
 |z::r,k+1,x,y,h,m=>by
  rw[List.eraseIdx_cons_succ];rcases jt.mp m with e|m
  ·exact .inr (by rw[e];exact .head _)
  ·exact(xI (by simpa using h) m).imp id λz=>.tail _ z
theorem B1d.pop{cnt:Str×List Int->Option (Int×Int)}(a:B1d rows ss pend cnt){k:Nat}{q:Int×Int}(g:pend[k]?=some j)(c:ss[j]?=some s)(o:cnt (wrS rows s)=some q):B1d rows ss (pend.eraseIdx k) (λr=>if r=wrS rows s then some (1,q.2-1)else cnt r):=by
 refine⟨a.asc.sublist (List.eraseIdx_sublist _ _),λi u=>a.lt i ((List.eraseIdx_sublist _ _).subset u),λi d h=>?_,λr m h=>?_⟩
 ·split
  ·intro z;cases z
  ·exact a.dom i d h
 ·have f:=BG (p:=wrA rows ss r) g;by_cases e:r=wrS rows s
  ·rw[ia e]at h;cases h;have v:=(a.num _ q (by rw[e];exact o:cnt r=some q)).1;rw[ia ((pR c).mpr e.symm)]at f;exact⟨by show q.2-1=_;lia,λ_=>by show(1:Int)≠0;decide⟩
  ·rw[fy e]at h;obtain⟨w,t⟩:=a.num r m h;rw[fy (λz=>e ((pR c).mp z).symm)]at f;refine⟨by lia,?_⟩;rintro⟨i,d,n,b,l⟩;refine t (fx i d (λz=>?_) b l);rcases xI g z with z|z
   ·subst z;rw[c]at b;cases b;exact e l.symm
   ·exact n z
theorem B4a.at{cnt:Str×List Int->Option (Int×Int)}(h:B4a P w H0 G M N LD cnt){r0:Str×List Int}{q:Int×Int}(d:cnt r0=some q):∃(b:zW)(a:List (ij×V)),A3g P w [true,false] G LD a/\ic a (nk r0)=some (.ref b)/\G b=some (.lst [.int q.1,.int q.2])/\H0 b=none/\b∉M/\
  ∀(x y:Int),B4a P w H0 (upd G b (.lst [.int x,.int y])) M N LD (λr=>if r=r0 then some (x,y)else cnt r):=by
 refine jC h.ex ?_;rintro a f g m i ⟨l,A⟩;obtain⟨j,p,n⟩:=i r0 q d;refine pD (f r0) a g (by rw[m,d];rfl) j p n λx y=>⟨a,f,?_,λr=>?_,λr k e=>?_,λr o v B s=>?_,A⟩
 ·refine g.keeps (λu z=>?_) λb C z=>by rw[dV (ir z j (by intro z;cases z))];exact z
  rw[dV (λz=>?_)]
  ·assumption
  ·obtain⟨_,e,_⟩:=g;rw[z,j]at e;cases e
 ·rw[m r];by_cases e:r=r0
  ·subst e;rw[ia rfl,d];rfl
  ·rw[fy e]
 ·by_cases er:r=r0
  ·subst er;rw[ia rfl]at e;cases e;exact hQ dh p n
  ·rw[fy er]at e;have t:f r≠f r0:=λz=>er (l r r0 (by rw[e];intro z;cases z) (by rw[d];intro z;cases z) z);exact⟨by rw[dV t];exact(i r k e).1,(i r k e).2⟩
 ·have c:∀r,(if r=r0 then some (x,y)else cnt r)≠none->cnt r≠none:=λr z=>by
   by_cases er:r=r0
   ·subst er;rw[d];intro z;cases z
   ·rw[fy er]at z;exact z
  exact l r o (c r v) (c o B) s
theorem B4a.more{cnt:Str×List Int->Option (Int×Int)}(h:B4a P w H0 G M N LD cnt)(a:G b=none):B4a P w H0 (upd G b o) (b::M) N LD cnt:=by refine jC ((h.same (eh (o:=o) a)).ex) ?_;rintro t p v u x ⟨s,y⟩;refine jC h.ex ?_;rintro c l f j i ⟨d,g⟩;refine⟨c,l,jb f (eh a),j,λr q e=>?_,d,g⟩;obtain⟨k,n,m⟩:=i r q e;exact hQ ((eh a) _ _ k) n λz=>(jt.mp z).elim (λz=>by rw[z,a]at k;cases k) m
theorem B4a.set{cnt:Str×List Int->Option (Int×Int)}(h:B4a P w H0 G M N LD cnt)(d:G b=some (.lst xs))(m:b∈M):B4a P w H0 (upd G b o) M N LD cnt:=by
 refine jC h.ex ?_;rintro j g f k a ⟨i,l⟩;refine⟨j,g,f.keeps (λu z=>?_) λc n z=>by rw[dV (ir z d (by intro z;cases z))];exact z,k,λr q e=>⟨?_,(a r q e).2⟩,i,l⟩
 ·rw[dV (λz=>?_)]
  ·assumption
  ·obtain⟨_,e,_⟩:=f;rw[z,d]at e;cases e
 ·rw[dV (λz=>(a r q e).2.2 (by rw[z];exact m))];exact(a r q e).1
theorem B4a.le{N':Nat}{cnt:Str×List Int->Option (Int×Int)}(h:B4a P w H0 G M N LD cnt)(a:N<=N'):B4a P w H0 G M N' LD cnt:=by refine jC h.ex ?_;rintro g d b i c ⟨e,f⟩;exact⟨g,d,b,i,c,e,nO f a⟩
def qw(lk:zJ)(rows:List LnM)(b ss:List Stp):Prop:=∀(i:Nat)(s:Stp),ss[i]?=some s->∀r∈rdS lk rows s,∀a∈b,wrS rows a=r->a∈ss.take i
def FS(P:yB)(w:yD):Sp:=λn H Q _=>∃(h SL KL:zW)(c:Int)(x:Abt)(o:zW)(L:zR)(e:zC)(m:zB)(j:zC)(T:Nat)(a:List LnM)(k:zC)(f:zJ)(i l:zM),n=[.ref h,.ref SL,.ref KL,.int c]/\AbF H h x o L e m j a k/\mN L e m j T a k/\B2d f L e/\H SL=some (.lst i)/\A2e H i (iu (a.map (iA L)) a.length)/\H KL=some (.lst l)/\C1a H f a l (iu (a.map (iA L)) a.length)/\
 ∀(OL:zW)(g:zM)(b:List Stp)(d:Hp),H OL=none->A0l H d->d OL=some (.lst g)->A2e d g b->(∀s∈b,s∈iu (a.map (iA L)) a.length)->(∀s∈iu (a.map (iA L)) a.length,s∈b)->b.length=(iu (a.map (iA L)) a.length).length->qw f a (iu (a.map (iA L)) a.length) b->Q (.ref OL) d
theorem Bv{α β:Type}(f:α->β):∀(l:List α)(k:Nat),(l.map f).eraseIdx k=(l.eraseIdx k).map f| [],_=>rfl|_::_,0=>rfl|x::r,k+1=>by rw[iN,List.eraseIdx_cons_succ,List.eraseIdx_cons_succ,iN,Bv f r k]
def mq(rows:List LnM)(ss:List Stp)(i:Nat)(r:Str×List Int):Option (Int×Int):=if ((List.range i).filter (wrA rows ss r)).length=0 then none else some (0,(((List.range i).filter (wrA rows ss r)).length:Int))
theorem Ib(T:Txt K mg t):FO P w base T.cR 2 (FS P w):=by
 refine T.cR.F.ok oM λ_ A _ s H _ Q E hr h=>?_
 ·refine oX h ?_;clear h;rintro ab SL KL c x ol L nm es tb T0 d os lk ⟨ys,ks,rfl,af,fo,d9,a6,st,i1,d3,k⟩;have hu:=lF hr;have hn:=pM hr;have fr:=fo.fr
  have j4:∀e∈d.map (iA L),C3h e:=λe he=>by obtain⟨e',i8,rfl⟩:=kg.mp he;obtain⟨i,hi⟩:=List.getElem?_of_mem i8;exact(fo.row i e' hi).2.rw' d9
  have j9:=sH j4 d.length;have k4:d.length*3660<=5*3660:=Nat.mul_le_mul_right _ fr;have c0:oC L d (iu (d.map (iA L)) d.length):=λs hs=>sy hs;have a4:∀{f:List Nat}{cnt:Str×List Int->Option (Int×Int)},B1d d (iu (d.map (iA L)) d.length) f cnt->∀{m:Nat}{s:Stp},f[0]?=some m->(iu (d.map (iA L)) d.length)[m]?=some s->wH lk d cnt s:=λ{f cnt} po {m s} h1 h2=>Im d9 fo po h1 h2;generalize hss:iu (d.map (iA L)) d.length=ss at st d3 k c0 a4 j9;have f7:=Paired.length st;obtain⟨ts,g4,f1⟩:=af.li;have k0:=Paired.length f1;refine rsq (eg ⟨vz (i₀:=4) (N':=["_law_line_here"]) (ix:=(List.replicate 1 none)) oM.nd rfl (.inl rfl) rfl (oj rfl (by decide+kernel) (by decide+kernel)) (og rfl) (ju (iR hu (pv 0) ip)) (λ_ _ _ _=>(ie (i:=0) Ir)) (λ_ _ _ _=>(jr (sg (K:=K) rfl) (pv 0) fe))⟩ (eg (iw 5 oM.nd (rB (sh:=[true,false]))) (eg (je (ju (pv 1)) (ie (i:=6) oM.nd) (eg (iw 7 oM.nd (jd (al (jr kd (pv 4) (pit 6)) (al (pit 6) eH)))) (mY ⟨kU (tR PySem.F.slot_dict_setdefault PySem.F.type_dict_setdefault (xx hn) (pv 5) (al (pv 7) (al (@jF _ _ _ _ (al fe (al fe eH))) eH)))⟩ (fa ⟨mG (ib kI (jr kd (pQ hn (pv 5) (pv 7) (λ_ _=>rfl)) fe) fe) (oe (pQ hn (pv 5) (pv 7) (λ_ _=>rfl)) fe uf)⟩)))) (eg (iw 8 oM.nd (JL rfl (by rfl) T.bt (by rfl) T.aM (al (kN T.ao (fC 1)) eH))) (eg (iw 9 oM.nd (@jF _ _ _ _ eH)) (eg ⟨@AJ _ _ _ _ _ _ PassesOwn.never (iT qo (kN T.ao (fC 8)) fe) (@kP _ _ _ _ _ (@jM _ _ 10 _ _ _ _ oM.nd rfl (.inl rfl) (ib jL (ib kI (pv 3) (ib tW (kN T.ao (fC 9)) (ib jL (ib lO (pv 3) fe) fe))) (kN T.ao (fC 8))) rfl (.inl rfl)) (@ua _ _ _ _ _ (@rf _ _ _ _ _ _ _ _ (iT kS (ib jL (pv 3) fe) fe) (@lW _ _ _ (@jM _ _ 10 _ _ _ _ oM.nd rfl (.inl rfl) fe rfl (.inl rfl))) iJ) (@kP _ _ _ _ _ (@AJ _ _ _ _ _ _ PassesOwn.never (qA (kZ (pcl (Ic T) hr T.cS (al (jr kd (pv 8) (pv 10)) (al (pv 1) (al (pv 2) (al (pv 4) (fC 5)))))))) (@lW _ _ _ (@jM _ _ 10 _ _ _ _ oM.nd rfl (.inl rfl) (ib jL (ib kI (pv 10) fe) (kN T.ao (fC 8))) rfl (.inl rfl)))) (@kP _ _ _ _ _ (@jM _ _ 6 _ _ _ _ oM.nd rfl (.inl rfl) (jr kd (pv 1) (lJ kQ PySem.F.slot_list_pop PySem.F.type_list_pop FH (pv 8) (fC 10))) rfl (.inl rfl)) (@kP _ _ _ _ _ (@jM _ _ 7 _ _ _ _ oM.nd rfl (.inl rfl) (jd (al (jr kd (pv 4) (pit 6)) (al (pit 6) eH))) rfl (.inl rfl)) (@kP _ _ _ _ _ (mG (ib oE (jr kd (pQ hn (pv 5) (pv 7) (λ_ _=>rfl)) fe) fe) (oe (pQ hn (pv 5) (pv 7) (λ_ _=>rfl)) fe uf)) (@kP _ _ _ _ _ (mG fe (oe (pQ hn (pv 5) (pv 7) (λ_ _=>rfl)) fe uf)) (@lW _ _ _ (kU (lJ kQ nU nT nK (pv 9) (fC 6)))))))))))⟩ (fa (im (pv 9))))))))) ?_;refine ii _ rfl ab _ rfl (af.get (sC x ol)) (hH x.ln rfl ⟨_,SqL.of g4⟩ λNL d2=>?_);refine pB (K:=K) (a:=x.ln) (D:=NL) (xs:=ts) (λi vs G=>A0l H G/\G NL=some (.lst vs)/\vs=((d.take i).map (·.nm)).map V.str) (hQ (eh d2) dh rfl) (by rintro i vs G ⟨s2,_⟩;exact SqL.of (s2 _ _ g4)) ?_ ?_
  ·rintro i v vs G hv ⟨s2,hG,rfl⟩;obtain⟨e,he,b,ca,cu,tv,rfl,_,hb,_⟩:=ja f1 hv;have hi:=(iG.mp hv).1;refine⟨True.intro,(i12 _ rfl b _ _ _ rfl rfl (SqT.of (s2 _ _ hb)) (hY (j:=0) rfl) (jH hG (iM (by simp;lia)) (jn s2 d2) dh ?_))⟩;rw[iF,he,iS,iK,iK];rfl
  rintro vs p ⟨B,b5,rfl⟩;rw[k0,iQ]at b5;have k1:OrA p lk L d ss SL KL NL:=⟨(ah ys (B _ _ a6) (st.kt (KT.same B))),(ah ks (B _ _ i1) (d3.same B)),b5,c0⟩;refine λLD o0 g9 b3=>?_;have s2:A0l p (upd p LD o0):=eh g9;have b3:A3g P w [true,false] (upd p LD o0) LD []:=b3;generalize upd p LD o0=H2 at s2 b3;have j6:B4a P w p H2 [] 0 LD (mq d ss 0):=⟨[],λ_=>0,b3,λr=>rfl,(λr q e=>by cases e),(λr r' e=>absurd rfl e),jP _⟩;have j7:=s2 _ _ (B _ _ a6);refine jg _ rfl SL rfl ⟨_,SqL.of j7⟩ ?_;refine kr (K:=K) (a:=SL) (xs:=ys) (λi Z G=>∃(W S:zP),Z=[Sro ab,Sro SL,Sro KL,Sio c,Sro NL,Sro LD,W,S,none,none,none]/\A0l p G/\B4a P w p G [] i LD (mq d ss i)) (fx none none rfl s2 j6) (by rintro i Z G _ ⟨_,_,_,sG,_⟩;exact SqL.of (sG _ _ (B _ _ a6))) ?_ ?_
  ·rintro i v Z G hv ⟨W,S,rfl,sG,lf⟩;obtain⟨sp,n,b,cc,u,rfl,h1,hc,f6⟩:=ja st hv;have hi:=(iG.mp hv).1;obtain⟨kk,e,si⟩:=c0 sp (iZ n);have a2:d[sp.1.toNat]?=some e:=by rw[si.hk,Int.toNat_natCast];exact si.he
   have ew:wrS d sp=(e.nm,sp.2.2.1):=by unfold wrS;rw[a2]
   have aN:atI ((d.map (·.nm)).map V.str) sp.1=some (.str e.nm):=by rw[si.hk];exact hY (by rw[jh,jh,si.he];rfl)
   have f2:=sG _ _ (B _ _ h1);have k2:=sG _ _ (B _ _ hc);refine mf _ rfl _ rfl b _ _ _ rfl rfl (SqT.of f2) (hY (j:=0) rfl) (jf NL _ _ _ rfl rfl (SqL.of (sG _ _ b5)) aN (i12 _ rfl b _ _ _ rfl rfl (SqT.of f2) (hY (j:=2) rfl) ⟨iq rfl,λq hq=>?_⟩));have U:A0l G (upd G q (.tup [.str e.nm,.ref cc])):=eh hq;have na:A1x (upd G q (.tup [.str e.nm,.ref cc])) (nk (wrS d sp)) q:=by rw[ew];exact om dh (by rw[List.map_map];exact U _ _ k2)
   generalize upd G q (.tup [.str e.nm,.ref cc])=G1 at U na;have d6:=lf.same U;have c4:=sG.trans U;refine ah (λZ G2=>Z=[Sro ab,Sro SL,Sro KL,Sio c,Sro NL,Sro LD,Sro b,Sro q,none,none,none]/\A0l p G2/\A1x G2 (nk (wrS d sp)) q/\∃z:Int×Int,B4a P w p G2 [] (i+1) LD (λr=>if r=wrS d sp then some z else mq d ss i r)/\z.1=0/\z.2=(((List.range i).filter (wrA d ss (wrS d sp))).length:Int)) ?_ ?_
   ·refine jC d6.ex ?_;rintro kv ad nd vv vl ⟨k3,k8⟩;refine lQ _ rfl (ku LD _ _ rfl nd) _ rfl ⟨iq rfl,λl0 c1=>?_⟩;obtain⟨G2,X,h4,i6⟩:=nH (o:=.lst [.int 0,.int 0]) c1
    try rw[i6]
    have Y:=jb nd X;refine lj LD q _ (jf _ (nk (wrS d sp)) _ _ rfl ⟨rfl,rfl,Y,na.keeps (KT.same X),rfl⟩ (iM (by lia)) (λv hv=>?_) λN o1 j2=>?_)
    ·rw[vv]at hv
     cases l:mq d ss i (wrS d sp)with
     |none=>rw[l]at hv;cases hv
     |some z=>
      refine⟨rfl,(kE (c4.trans X) (na.keeps (KT.same X)) z ?_ ?_)⟩
      ·have e2:(λr=>if r=wrS d sp then some z else mq d ss i r)=mq d ss i:=funext λr=>by
        by_cases er:r=wrS d sp
        ·rw[ia er,er,l]
        ·rw[fy er]
       rw[e2];exact(d6.same X).le (Nat.le_succ _)
      ·unfold mq at l;split at l
       ·cases l
       ·cases l;exact⟨rfl,rfl⟩
    ·have l:mq d ss i (wrS d sp)=none:=by
      rw[vv]at N
      cases l:mq d ss i (wrS d sp)with
      |none=>rfl
      |some z=>rw[l]at N;cases N
     obtain⟨uL,eL,tL⟩:=kT Y;have lL:l0≠LD:=λz=>by subst z;obtain⟨_,e,_⟩:=nd;rw[c1]at e;cases e
     have kt:KT G2 (upd G2 LD o1):=KT.at eL tL
     have dn:∀{b:zW}{xs:zM},G2 b=some (.lst xs)->upd G2 LD o1 b=some (.lst xs):=λ{b xs} z=>by
      rw[dV (λy=>?_)]
      ·exact z
      ·subst y;obtain⟨_,e,_⟩:=Y;rw[z]at e;cases e
     have LH:p LD=none:=g9;refine hQ rfl (jn (c4.trans X) LH) (jU (na.keeps ((KT.same X).trans kt)) (0,0) ⟨iL kv (nk (wrS d sp)) (.ref l0),λr=>if r=wrS d sp then l0 else ad r,j2,λr=>?_,λr z e=>?_,λr r' e1 e2 e3=>?_,?_⟩ rfl ?_)
     ·rw[ue];by_cases er:r=wrS d sp
      ·subst er;simp
      ·rw[fy (λz=>er (tS z)),vv r];simp[er]
     ·try dsimp only
      by_cases er:r=wrS d sp
      ·rw[ia er]at e⊢;cases e;exact hQ (dn h4) (c4.free c1) my
      ·rw[fy er]at e⊢;exact⟨dn (X _ _ (vl r z e).1),(vl r z e).2⟩
     ·have nl:∀{r:Str×List Int},mq d ss i r≠none->ad r≠l0:=λ{r} z y=>by
       obtain⟨z',j0⟩:=Option.ne_none_iff_exists'.mp z;have:=(vl r z' j0).1;rw[y,c1]at this;cases this
      try dsimp only at e3
      by_cases er:r=wrS d sp<;>by_cases er':r'=wrS d sp
      ·rw[er,er']
      ·rw[fy er']at e2;rw[ia er,fy er']at e3;exact absurd e3.symm (nl e2)
      ·rw[fy er]at e1;rw[fy er,ia er']at e3;exact absurd e3 (nl e1)
      ·rw[fy er]at e1;rw[fy er']at e2;rw[fy er,fy er']at e3;exact k3 r r' e1 e2 e3
     ·have:=pX kv (nk (wrS d sp)) (.ref l0)
      lia
     ·unfold mq at l;split at l
      ·rename_i hz;show(0:Int)=_;rw[hz];rfl
      ·cases l
   rintro Z G2 ⟨rfl,j3,e0,z,h7,z1,z2⟩;refine jC (h7.at (r0:=wrS d sp) (q:=z) (ia rfl)) ?_;rintro bl kv nd vb M ⟨d0,_,a8⟩;refine lP _ rfl _ rfl LD q _ _ (nk (wrS d sp)) (hH _ ⟨rfl,rfl,nd,e0,rfl⟩ vb (jo bl _ _ _ rfl rfl (SqL.of M) (jN (hY (j:=1) rfl) _ _ rfl rfl (lP _ rfl _ rfl LD q _ _ (nk (wrS d sp)) (hH _ ⟨rfl,rfl,nd,e0,rfl⟩ vb (jf bl _ _ 1 rfl rfl M rfl ?_))))));have a7:=a8 z.1 (z.2+1);refine fx _ _ rfl (jn j3 d0) ?_
   have e3:(λr=>if r=wrS d sp then some (z.1,z.2+1)else if r=wrS d sp then some z else mq d ss i r)=mq d ss (i+1):=funext λr=>by
    have hf:(List.range (i+1)).filter (wrA d ss r)=(List.range i).filter (wrA d ss r)++(if wrS d sp=r then [i]else []):=by
     rw[List.range_succ,List.filter_append];congr 1;by_cases er:wrS d sp=r
     ·rw[ia er,qr ((pR n).mpr er)]
     ·rw[fy er,qm (λz=>er ((pR n).mp z))]
    by_cases er:r=wrS d sp
    ·subst er;unfold mq;rw[ia rfl,hf,ia rfl,jc,fy (by simp),z1,z2];simp
    ·rw[fy er,fy er];unfold mq;rw[hf,fy (Ne.symm er),nS]
   rw[e3]at a7;exact a7
  rintro Z G ⟨W,S,rfl,sG,lf⟩;rw[f7]at lf;have i5:=sG _ _ (B _ _ a6);refine ii _ rfl SL _ rfl (.inl (SqL.of i5)) (ky _ rfl (by lia) (by lia) λPL c7=>?_);rw[f7,Int.toNat_natCast];have a7:=lf.more (o:=.lst ((List.range ss.length).map λ(k:Nat)=>V.int (k:Int))) c7;have X:A0l G (upd G PL (.lst ((List.range ss.length).map λ(k:Nat)=>V.int (k:Int)))):=eh c7;have c8:upd G PL (.lst ((List.range ss.length).map λ(k:Nat)=>V.int (k:Int))) PL=some (.lst ((List.range ss.length).map λ(k:Nat)=>V.int (k:Int))):=dh;generalize upd G PL (.lst ((List.range ss.length).map λ(k:Nat)=>V.int (k:Int)))=G3 at a7 X c8;refine⟨iq rfl,λOL b4=>?_⟩;have g0:=a7.more (o:=.lst []) b4;have s4:A0l G3 (upd G3 OL (.lst [])):=eh b4;have e6:upd G3 OL (.lst []) OL=some (.lst []):=dh;have PO:PL≠OL:=ik c8 b4;generalize upd G3 OL (.lst [])=G4 at g0 s4 e6;have PH:p PL=none:=sG.free c7;have OH:p OL=none:=sG.free (X.free b4)
  have i2:B1d d ss (List.range ss.length) (mq d ss ss.length):=by
   refine⟨List.pairwise_lt_range,λj hj=>List.mem_range.mp hj,λj s h z=>?_,λr q e=>?_⟩
   ·unfold mq at z;split at z
    ·rename_i hz;have hm:j∈(List.range ss.length).filter (wrA d ss (wrS d s)):=List.mem_filter.mpr ⟨List.mem_range.mpr (iG.mp h).1,(pR h).mpr rfl⟩;rw[List.eq_nil_of_length_eq_zero hz]at hm;cases hm
    ·cases z
   ·unfold mq at e;split at e
    ·cases e
    ·cases e
     refine⟨rfl,?_⟩;rintro⟨j,s,h1,h2,_⟩;exact absurd (List.mem_range.mpr (iG.mp h2).1) h1
  refine⟨λm Z G=>∃(W S b9:zP)(f:List Nat)(C:zM)(done:List Stp)(cnt:Str×List Int->Option (Int×Int)),m=f.length/\Z=[Sro ab,Sro SL,Sro KL,Sio c,Sro NL,Sro LD,W,S,Sro PL,Sro OL,b9]/\A0l p G/\G PL=some (.lst (f.map λ(k:Nat)=>V.int (k:Int)))/\G OL=some (.lst C)/\A2e G C done/\B4a P w p G [OL,PL] ss.length LD cnt/\B1d d ss f cnt/\(∀s∈done,s∈ss)/\(∀(j:Nat)(s:Stp),ss[j]?=some s->j∈f\/s∈done)/\done.length+f.length=ss.length/\qw lk d ss done,
   (km _ W (lu S none (List.range ss.length) [] [] (mq d ss ss.length) rfl rfl ((sG.trans X).trans s4) (s4 _ _ c8) e6 .nil g0 i2 (jO (λs hs=>nomatch hs) (λj s h=>.inl (List.mem_range.mpr (iG.mp h).1)) (by simp) (λi s h=>by simp at h)))),?_⟩
  rintro m Z G5 zz;refine kF zz ?_;clear zz;rintro W S b9 f C ⟨done,cnt,rfl,rfl,c9,hP,hO,c5,f8,po,f9,a5,d4,rb⟩;have k5:=Paired.length c5;refine ii _ rfl PL _ rfl (.inl (SqL.of hP)) (lx _ _ rfl rfl _ rfl (iC (λJ=>?_) (λhz=>?_)))
  ·have J:(0:Int)<((f.map λ(k:Nat)=>V.int (k:Int)).length:Int):=J;have b8:0<f.length:=by rw[hA]at J;lia
   refine ah (λZ' H'=>∃m',m'<f.length/\∃(W S b9:zP)(f:List Nat)(C:zM)(done:List Stp)(cnt:Str×List Int->Option (Int×Int)),m'=f.length/\Z'=[some (.ref ab),some (.ref SL),some (.ref KL),some (.int c),some (.ref NL),some (.ref LD),W,S,some (.ref PL),some (.ref OL),b9]/\A0l p H'/\H' PL=some (.lst (f.map λ(k:Nat)=>V.int (k:Int)))/\H' OL=some (.lst C)/\A2e H' C done/\B4a P w p H' [OL,PL] ss.length LD cnt/\B1d d ss f cnt/\(∀s∈done,s∈ss)/\(∀(j:Nat)(s:Stp),ss[j]?=some s->j∈f\/s∈done)/\done.length+f.length=ss.length/\qw lk d ss done) (λZ' H' z=>z) ?_;refine iU _ rfl _ rfl OL _ rfl (.inl (SqL.of hO)) (me _ rfl _ _ rfl rfl ⟨by decide,by decide⟩ _ _ rfl rfl CO (fx _ _ rfl rfl (jN (.inl ⟨by lia,by lia⟩) _ _ rfl rfl (ii _ rfl PL _ rfl (.inl (SqL.of hP)) (iO _ _ rfl rfl J ?_)))));show nX 10 (V.int ((c+(C.length:Int)*(c/11%13))%((f.map λ(k:Nat)=>V.int (k:Int)).length:Int))) _ _ _;rw[hA];refine ah (λZ G=>∃at_:Nat,at_<f.length/\Z=[Sro ab,Sro SL,Sro KL,Sio c,Sro NL,Sro LD,W,S,Sro PL,Sro OL,Sio (at_:Nat)]/\G5=G) ?_ ?_
   ·have b1:=oq (c+(C.length:Int)*(c/11%13)) (show(f.length:Int)≠0 by lia);have b2:=pF (c+(C.length:Int)*(c/11%13)) (show(0:Int)<(f.length:Int)by lia);generalize (c+(C.length:Int)*(c/11%13))%(f.length:Int)=a0 at b1 b2;refine ii _ rfl _ _ rfl rfl (kE wo rfl _ rfl (iC (λ_=>(hH 0 b8 rfl rfl)) (λ_=>(hH a0.toNat (by lia) ?_ rfl))));rw[Int.toNat_of_nonneg b1];rfl
   rintro Z G ⟨a1,i9,rfl,rfl⟩;refine ah (λm Z G=>∃at_:Nat,at_<f.length/\m=(f.length-at_)%f.length/\Z=[Sro ab,Sro SL,Sro KL,Sio c,Sro NL,Sro LD,W,S,Sro PL,Sro OL,Sio (at_:Nat)]/\A0l G5 G) (iO _ a1 i9 rfl rfl (A0l.refl _)) ?_;rintro m Z G6 ⟨at_,c6,rfl,rfl,s6⟩;have a3:f[at_]?=some f[at_]:=jq c6;have i0:=po.lt _ (List.getElem_mem c6);have b0:ss[f[at_]]?=some ss[f[at_]]:=jq i0;have d7:=s6 _ _ hP;have aP:atI (f.map λ(k:Nat)=>V.int (k:Int)) (at_:Int)=some (.int (f[at_]:Nat)):=hY (by rw[jh,a3];rfl);refine mf _ rfl _ rfl PL _ _ _ rfl rfl (SqL.of d7) aP (ah _ rfl (jB _ rfl _ rfl (nu _ rfl (f[at_]) SL KL NL LD lk L d ss (jk (ss[f[at_]]) cnt p [OL,PL] ss.length rfl (k1.same (c9.trans s6)) b0 (f8.same s6) (po.dom _ _ b0) λb G7 s7 d5 j8=>(ah b rfl ?_)))))
   cases b with
   |false=>
    refine qY (ah (λZ' H'=>∃m',m'<(f.length-at_)%f.length/\∃at_:Nat,at_<f.length/\m'=(f.length-at_)%f.length/\Z'=[some (.ref ab),some (.ref SL),some (.ref KL),some (.int c),some (.ref NL),some (.ref LD),W,S,some (.ref PL),some (.ref OL),some (.int (at_:Nat))]/\A0l G5 H') (λZ' H' z=>z) ?_)
    have k6:at_≠0:=λz=>by subst z;exact absurd (d5 (a4 po a3 b0)) (by decide)
    have O:=s7 _ _ d7;refine ii _ rfl _ _ rfl rfl (ii _ rfl PL _ rfl (.inl (SqL.of O)) (iO _ _ rfl rfl J ?_));have e1:(f.length-at_)%f.length=f.length-at_:=Nat.mod_eq_of_lt (by lia);have e2:((at_:Int)+1)%(((f.map λ(k:Nat)=>V.int (k:Int)).length:Nat):Int)=(((at_+1)%f.length:Nat):Int):=by rw[hA,Int.natCast_emod,Int.natCast_add];rfl
    refine jg ((f.length-(at_+1)%f.length)%f.length) ?_ ((at_+1)%f.length) (Nat.mod_lt _ b8) rfl ⟨?_,s6.trans s7⟩
    ·rw[e1];rcases Nat.lt_or_ge (at_+1) f.length with z|z
     ·rw[Nat.mod_eq_of_lt z,Nat.mod_eq_of_lt (by lia)];lia
     ·have:at_+1=f.length:=by lia
      rw[this,Nat.mod_self,Nat.sub_zero,Nat.mod_self];lia
    ·rw[<-e2];rfl
   |true=>
    refine jx ?_;have a9:=s6.trans s7;have O:=a9 _ _ hP;have e4:ys[f[at_]]?=some (ys[f[at_]]'(by lia)):=jq _;obtain⟨sp,n,b,cc,u,ev,h1,hc,f6⟩:=ja st e4;have aS:atI ys ((f[at_]:Nat):Int)=some (.ref b):=hY (by rw[e4,ev]);obtain⟨kk,e,si⟩:=c0 sp (iZ n);have a2:d[sp.1.toNat]?=some e:=by rw[si.hk,Int.toNat_natCast];exact si.he
    have ew:wrS d sp=(e.nm,sp.2.2.1):=by unfold wrS;rw[a2]
    have aN:atI ((d.map (·.nm)).map V.str) sp.1=some (.str e.nm):=by rw[si.hk];exact hY (by rw[jh,jh,si.he];rfl)
    have sx:seqIndex? ((at_:Nat):Int) (f.map λ(k:Nat)=>V.int (k:Int)).length=some at_:=by rw[PySem.StrLaws.seqIndex_nonneg (by lia) (by rw[hA];lia),Int.toNat_natCast]
    have g5:=(f8.same a9).set (o:=.lst ((f.eraseIdx at_).map λ(k:Nat)=>V.int (k:Int))) O (.tail _ (.head _));have ee:(f.map λ(k:Nat)=>V.int (k:Int)).eraseIdx at_=(f.eraseIdx at_).map λ(k:Nat)=>V.int (k:Int):=Bv ..;have i3:=c9.trans a9;have R:A0l p (upd G7 PL (.lst ((f.eraseIdx at_).map λ(k:Nat)=>V.int (k:Int)))):=jn i3 PH;refine jg _ rfl _ rfl (.inl (jI rfl _ (SqL.of O))) (jW _ rfl PL _ _ at_ _ rfl rfl O (by lia) (by lia) (hQ sx (by rw[jh,a3];rfl) (jf SL _ _ _ rfl rfl (SqL.of (by rw[ee];exact R _ _ (B _ _ a6))) aS ?_)));rw[ee];have f5:upd G7 PL (.lst ((f.eraseIdx at_).map λ(k:Nat)=>V.int (k:Int))) PL=some (.lst ((f.eraseIdx at_).map λ(k:Nat)=>V.int (k:Int))):=dh;have f0:upd G7 PL (.lst ((f.eraseIdx at_).map λ(k:Nat)=>V.int (k:Int))) OL=some (.lst C):=by rw[dV PO.symm];exact a9 _ _ hO
    have d8:A2e (upd G7 PL (.lst ((f.eraseIdx at_).map λ(k:Nat)=>V.int (k:Int)))) C done:=(c5.kt (KT.same a9)).kt (KT.at O (by intro xs z;cases z));generalize upd G7 PL (.lst ((f.eraseIdx at_).map λ(k:Nat)=>V.int (k:Int)))=G8 at g5 R f5 f0 d8;have g8:=R _ _ (B _ _ h1);refine mf _ rfl _ rfl b _ _ _ rfl rfl (SqT.of g8) (hY (j:=0) rfl) (jf NL _ _ _ rfl rfl (SqL.of (R _ _ b5)) aN (i12 _ rfl b _ _ _ rfl rfl (SqT.of g8) (hY (j:=2) rfl) ⟨iq rfl,λq hq=>?_⟩));have U:A0l G8 (upd G8 q (.tup [.str e.nm,.ref cc])):=eh hq;have na:A1x (upd G8 q (.tup [.str e.nm,.ref cc])) (nk (wrS d sp)) q:=by rw[ew];exact om dh (by rw[List.map_map];exact U _ _ (R _ _ (B _ _ hc)))
    generalize upd G8 q (.tup [.str e.nm,.ref cc])=G9 at U na;have h0:=g5.same U;have j5:=R.trans U;obtain⟨g,g1⟩:=Option.ne_none_iff_exists'.mp (po.dom _ _ n);refine jC (h0.at g1) ?_;rintro bl kv nd vb M ⟨d0,i7,a8⟩;refine lP _ rfl _ rfl LD q _ _ (nk (wrS d sp)) (hH _ ⟨rfl,rfl,nd,na,rfl⟩ vb (jo bl _ _ _ rfl rfl (SqL.of M) (jN (hY (j:=1) rfl) _ _ rfl rfl (lP _ rfl _ rfl LD q _ _ (nk (wrS d sp)) (hH _ ⟨rfl,rfl,nd,na,rfl⟩ vb (jf bl _ _ 1 rfl rfl M rfl ?_))))));show wz _ _ _ _ (upd G9 bl (.lst [.int g.1,.int (g.2-1)]));have g6:=a8 g.1 (g.2-1);have sA:A0l p (upd G9 bl (.lst [.int g.1,.int (g.2-1)])):=jn j5 d0;have e7:=na.keeps (KT.at (o:=.lst [.int g.1,.int (g.2-1)]) M (by intro xs z;cases z));have nb:∀{c:zW},c∈[OL,PL]->c≠bl:=λhc z=>i7 (by rw[<-z];exact hc);have g7:upd G9 bl (.lst [.int g.1,.int (g.2-1)]) PL=_:=(dV (nb (.tail _ (.head _)))).trans (U _ _ f5);have e5:upd G9 bl (.lst [.int g.1,.int (g.2-1)]) OL=_:=(dV (nb (.head _))).trans (U _ _ f0);have g2:=(d8.kt (KT.same U)).kt (KT.at (o:=.lst [.int g.1,.int (g.2-1)]) M (by intro xs z;cases z));generalize upd G9 bl (.lst [.int g.1,.int (g.2-1)])=GA at g6 sA e7 g7 e5 g2;refine jC (g6.at (r0:=wrS d sp) (q:=(g.1,g.2-1)) (ia rfl)) ?_;rintro I k9 Y j1 c3 ⟨g3,e8,f3⟩;refine lP _ rfl _ rfl LD q _ _ (nk (wrS d sp)) (hH _ ⟨rfl,rfl,Y,e7,rfl⟩ j1 (jf I _ _ 0 rfl rfl c3 rfl ?_));have hg:HO.lst ([V.int (g.1,g.2-1).1,V.int (g.1,g.2-1).2].set 0 (V.int 1))=.lst [.int 1,.int (g.2-1)]:=rfl;rw[hg];have d1:=f3 1 (g.2-1)
    have e3:(λr=>if r=wrS d sp then some ((1:Int),g.2-1)else if r=wrS d sp then some (g.1,g.2-1)else cnt r)=λr=>if r=wrS d sp then some ((1:Int),g.2-1)else cnt r:=funext λr=>by
     by_cases er:r=wrS d sp
     ·rw[ia er,ia er]
     ·rw[fy er,fy er,fy er]
    rw[e3]at d1;have f4:∀{c:zW},c∈[OL,PL]->c≠I:=λhc z=>e8 (by rw[<-z];exact hc);have sB:A0l p (upd GA I (.lst [.int 1,.int (g.2-1)])):=jn sA g3;have h9:upd GA I (.lst [.int 1,.int (g.2-1)]) PL=_:=(dV (f4 (.tail _ (.head _)))).trans g7;have b6:upd GA I (.lst [.int 1,.int (g.2-1)]) OL=_:=(dV (f4 (.head _))).trans e5;have h8:=g2.kt (KT.at (o:=.lst [.int 1,.int (g.2-1)]) c3 (by intro xs z;cases z));refine lQ _ rfl (.inl (jI rfl _ (SqL.of b6))) _ rfl (jX OL _ _ rfl rfl b6 (iM (by lia)) ?_);have h5:=d1.set (o:=.lst (C++[.ref b])) b6 (.head _);have kO:KT (upd GA I (.lst [.int 1,.int (g.2-1)])) (upd (upd GA I (.lst [.int 1,.int (g.2-1)])) OL (.lst (C++[.ref b]))):=KT.at b6 (by intro xs z;cases z);have k7:(f.eraseIdx at_).length+1=f.length:=by rw[List.length_eraseIdx,ia c6];lia
    have i4:B5l (upd (upd GA I (.lst [.int 1,.int (g.2-1)])) OL (.lst (C++[.ref b]))) (.ref b) sp:=(jv b cc u rfl (kO _ _ (sB _ _ (B _ _ h1))) (kO _ _ (sB _ _ (B _ _ hc))) (kO _ _ (sB _ _ (B _ _ f6))));refine⟨_,(jI (by lia) _ (lu _ _ (f.eraseIdx at_) (C++[.ref b]) (done++[sp]) _ rfl rfl (jn sB OH) ((dV PO).trans h9) dh (jZ (h8.kt kO) (.cons i4 .nil)) h5 (po.pop a3 n g1) (jO (λs hs=>?_) (λj s h=>?_) (by rw[jc,tf];lia) λi' s' h' r hr b7 c2 hw=>?_)))⟩
    ·rcases ng.mp hs with hs|hs
     ·exact f9 s hs
     ·rw[mL.mp hs];exact iZ n
    ·rcases a5 j s h with z|z
     ·rcases xI a3 z with z|z
      ·subst z;rw[n]at h;cases h;exact .inr (ow _ (mL.mpr rfl))
      ·exact .inl z
     ·exact .inr (qV _ z)
    ·rcases Nat.lt_or_ge i' done.length with z|z
     ·rw[lD z]at h';have:=rb i' s' h' r hr b7 c2 hw;rw[List.take_append_of_le_length (by lia)];exact this
     ·have h3:=(iG.mp h').1;rw[jc,tf]at h3;have:i'=done.length:=by lia
      subst this;rw[nP (ig _),Nat.sub_self]at h';have e':sp=s':=by simpa using h'
      subst e';rw[List.take_append_of_le_length (ig _),iQ];obtain⟨j,hj⟩:=List.getElem?_of_mem c2;rcases a5 j b7 hj with z|z
      ·have h6:sp=ss[f[at_]]:=by rw[b0]at n;exact(lI n).symm
       obtain⟨q',e9⟩:=Option.ne_none_iff_exists'.mp (po.dom j b7 hj);have n1:=j8 rfl r (by rw[<-h6];exact hr) q' (by rw[<-hw];exact e9);have n2:=(po.num _ q' e9).1;have n3:0<(f.filter (wrA d ss (wrS d b7))).length:=List.length_pos_of_mem (List.mem_filter.mpr ⟨z,(pR hj).mpr rfl⟩)
       lia
      ·exact z
  ·have b8:f=[]:=by
    have hz:¬(0:Int)<((f.map λ(k:Nat)=>V.int (k:Int)).length:Int):=hz;rw[hA]at hz;exact List.eq_nil_of_length_eq_zero (by lia)
   subst b8;refine ah _ rfl (k OL C done G5 (B.free OH) (B.trans c9) hO c5 f9 (λs hs=>?_) (by simpa using d4) rb);obtain⟨j,hj⟩:=List.getElem?_of_mem hs;exact(a5 j s hj).resolve_left (by intro z;cases z)
def Fx(P:yB)(w:yD):Sp:=λk H Q _=>∃(g SL KL:zW)(x:Abt)(l:zW)(L:zR)(e:zC)(d:zB)(i:zC)(T:Nat)(a:List LnM)(b:zC)(c:zJ)(h j:zM),k=[.ref g,.ref SL,.ref KL]/\AbF H g x l L e d i a b/\mN L e d i T a b/\B2d c L e/\H SL=some (.lst h)/\A2e H h (iu (a.map (iA L)) a.length)/\H KL=some (.lst j)/\C1a H c a j (iu (a.map (iA L)) a.length)/\
 ∀(MD:zW)(f:Hp),H MD=none->A0l H f->A3g P w [true,false] f MD (wkF c L d a b)->(wkF c L d a b).length<=900000->Q (.ref MD) f
inductive Ak(vs:zM)(H:Hp)(Q:VK):Prop|mk (ab st:zW) (x:Abt) (ol:zW) (L:zR) (nm:zC) (es:zB) (tb:zC) (rows:List LnM) (os:zC) (s:Stp) (k:Nat) (e:LnM) (_:vs=[.ref ab,.ref st]) (_:AbF H ab x ol L nm es tb rows os) (_:B5l H (.ref st) s) (_:C6x L rows s k e) (_:∀(q:zW)(H':Hp),H q=none->A0l H H'->A1x H' (nk (wrS rows s)) q->Q (.ref q) H'):Ak vs H Q
def DQ:Sp:=λa H Q _=>Ak a H Q
theorem A6{r:zW}(s:A0l H G)(h:H r=none):A0l H (kX G r):=λb u e=>by rw[xC (ik e h)];exact s b u e
theorem AD(T:Txt K mg t):FO P w base T.dj 1 DQ:=by
 refine T.dj.F.ok Fn λ_ A _ s H _ Q E O h=>?_
 ·obtain⟨I,B,x,N,L,nm,es,tb,a,Z,m,v,e,rfl,C,g,l,k⟩:=h;have M:=lF O;obtain⟨p,o,f⟩:=C.li;have U:=Paired.length f;refine iW g λS c u r z X gu=>?_;clear g;cases r;have R:=(iG.mp l.he).1;have d:p[v]?=some (p[v]'(by lia)):=jq _;obtain⟨e',i,y,ca,cu,Y,r,_,n,_⟩:=ja f d;rw[l.he]at i;cases i;have J:atI p m.1=some (.ref y):=by rw[l.hk];exact hY (by rw[d,r])
  have b:a[m.1.toNat]?=some e:=by rw[l.hk,Int.toNat_natCast];exact l.he
  have W:wrS a m=(e.nm,m.2.2.1):=by unfold wrS;rw[b]
  refine rsq (fa (im (jd (al (jr rZ (jr kd (iR M (pv 0) ip) (pit 1)) fe) (al (pit 1) eH))))) ?_;refine ii _ rfl I _ rfl (C.get (sC x N)) (i12 _ rfl B _ _ _ rfl rfl (SqT.of z) (hY (j:=0) rfl) (jf x.ln _ _ _ rfl rfl (SqL.of o) J (jf y _ _ _ rfl rfl (SqT.of n) (hY (j:=0) rfl) (i12 _ rfl B _ _ _ rfl rfl (SqT.of z) (hY (j:=2) rfl) ⟨iq rfl,λq G=>?_⟩))));have D:A0l H (upd H q (.tup [.str e.nm,.ref c])):=eh G;exact k q _ G D (by rw[W];exact om dh (by rw[List.map_map];exact D _ _ X))
theorem HQ(T:Txt K mg t):FO P w base T.cY 2 (Fx P w):=by
 refine T.cY.F.ok rG λ_ A _ s H _ Q E hr h=>?_
 ·refine oX h ?_;clear h;rintro ab SL KL x ol L nm g tb T0 d C lk ys ⟨ks,rfl,af,fo,a1,a3,st,Y,a8,k⟩;have hu:=lF hr;have hn:=pM hr;have fr:=fo.fr;have e6:=fo.fo
  have d7:∀e∈d.map (iA L),C3h e:=λe he=>by obtain⟨e',d3,rfl⟩:=kg.mp he;obtain⟨i,hi⟩:=List.getElem?_of_mem d3;exact(fo.row i e' hi).2.rw' a1
  have e8:=sH d7 d.length;have g0:d.length*3660<=5*3660:=Nat.mul_le_mul_right _ fr;have c7:oC L d (iu (d.map (iA L)) d.length):=λs hs=>sy hs;have k:∀(MD:zW)(H':Hp),H MD=none->A0l H H'->A3g P w [true,false] H' MD (nE lk d (lG [] (ji (szE L g) C)) (iu (d.map (iA L)) d.length).reverse)->(nE lk d (lG [] (ji (szE L g) C)) (iu (d.map (iA L)) d.length).reverse).length<=900000->Q (.ref MD) H':=k;generalize hss:iu (d.map (iA L)) d.length=ss at st a8 k c7 e8;have b7:=Paired.length st;have g3:=Paired.length a8;obtain⟨ts,g5,f5⟩:=af.li;have g6:=Paired.length f5;obtain⟨ak,f6,ar⟩:=af.sh;obtain⟨B,f0,c6⟩:=af.le;have d2:B=lk:=c6.eq.trans a1.eq.symm;subst d2;have b3:∀y∈C,ArO H B ak (axE g) (szE L g) y:=λy hy=>vi a1 fo ar hy;have lo:=qC b3;have g4:C.length*4000<=2*4000:=Nat.mul_le_mul_right _ e6;refine rsq (eg (iw 3 rG.nd (rB (sh:=[true,false]))) (eg (je (ju (iR hu (pv 0) ip)) (ie (i:=4) rG.nd) (fa (je (ju (pcl (uv T) hr T.aO (al (iR hu (iR hu (pv 0) ip) (pv 4)) (al (iR hu (pv 0) ip) eH)))) (ie (i:=5) rG.nd) (fa ⟨mG nY (oe (pv 3) (jd (al (pv 4) (fC 5))) (qH hn))⟩)))) (eg (je (Fb rfl T.fq (al (oI AS (by rfl) T.cE PyProof.Rows.boot_reversed (fC 1)) (al (oI AS (by rfl) T.cE PyProof.Rows.boot_reversed (fC 2)) eH))) (lK (n:=2) rfl (iY (ie (i:=6) rG.nd) (iY (ie (i:=7) rG.nd) lN))) (fa (iP (iT (ro hn) (pcl (AD T) hr T.dj (al (pv 0) (fC 6))) (pv 3) (by with_unfolding_all rfl)) (fa (je (ju (pv 7)) (ie (i:=8) rG.nd) (fa ⟨mG nY (oe (pv 3) (pv 8) (qH hn))⟩))) ⟨iJ⟩))) (fa (im (pv 3)))))) ?_;refine λMD o0 l W=>?_;have s1:A0l H (upd H MD o0):=eh l;have W:A3g P w [true,false] (upd H MD o0) MD []:=W;generalize upd H MD o0=H1 at s1 W;obtain⟨u0,e0,t0⟩:=kT W;have f2:ol≠MD:=ik af.ou l;refine ii _ rfl ab _ rfl ((af.same s1).get (wZ x ol)) (hH ol rfl ⟨_,SqL.of (s1 _ _ af.ou)⟩ ?_)
  refine kr (K:=K) (a:=ol) (xs:=C.map V.str) (λi Z G=>∃(o4 o5:zP),Z=[Sro ab,Sro SL,Sro KL,Sro MD,o4,o5,none,none,none]/\KB MD H1 G/\A3g P w [true,false] G MD (lG [] (ji (szE L g) (C.take i))))
   (fx none none rfl KB.refl W) (by rintro i Z G _ ⟨_,_,_,kb,_⟩;exact SqL.of (kb _ _ f2 (s1 _ _ af.ou))) ?_ ?_
  ·rintro i v Z G hv ⟨o4,o5,rfl,kb,nd⟩;obtain⟨y,hy,rfl⟩:=ko hv;have ym:=iZ hy;have ay:=b3 y ym;obtain⟨b,eb,hb⟩:=ay.get;have X:A0l H G:=KB.same s1 kb l;have c0:=af.same X;refine ii _ rfl ab _ rfl (c0.get (vD x ol)) (ii _ rfl x.sh _ rfl (.inl (fx ak (Sum.inr y) (.inl (X _ _ f6)) rfl eb.symm)) (ii _ rfl ab _ rfl (c0.get (sP x ol)) (jk b x.ld (axE g y) B (szE L g y) rfl (X _ _ hb) (X _ _ f0) ay.si ay.go λq G1 hq b6 cs=>?_)));obtain⟨ps,c9,tp⟩:=cs.ex;have O:=jb nd b6;obtain⟨u1,e1,t1⟩:=kT O;have qM:q≠MD:=λz=>by subst z;obtain⟨_,e,_⟩:=kT nd;rw[hq]at e;cases e
   refine hH q rfl ⟨_,SqL.of c9⟩ ?_;have g7:=qC λy (hy:y∈C.take i)=>b3 y (nw hy);have f9:(C.take i).length*4000<=2*4000:=Nat.mul_le_mul_right _ (by rw[iX];lia);have g8:=ay.go.len
   refine kr (K:=K) (a:=q) (xs:=ps.map V.ref) (λj Z N=>∃(o5:zP),Z=[Sro ab,Sro SL,Sro KL,Sro MD,Sso y,o5,none,none,none]/\KB MD G1 N/\A3g P w [true,false] N MD (lG [] (ji (szE L g) (C.take i)++((iE (szE L g y)).take j).map λc=>(y,c))))
    (hH _ rfl KB.refl (by simpa using O)) (by rintro j Z N _ ⟨_,_,f,_⟩;exact SqL.of (f _ _ qM c9)) ?_ ?_
   ·rintro j v Z N hv ⟨o5,rfl,f,m⟩;obtain⟨pc,f1,rfl⟩:=ko hv;obtain⟨c,hc,d8⟩:=tp.get f1;have c1:N pc=some (.tup (c.map V.int)):=f.kt e1 t1 _ _ d8;refine ah _ rfl (jg _ rfl _ rfl (iq rfl) λb1 d0=>?_);obtain⟨G3,sb,c3,a9⟩:=nH (o:=.tup [.str y,.ref pc]) d0
    try rw[a9]
    have na:A1x G3 (nk (y,c)) b1:=om c3 (by rw[List.map_map];exact sb _ _ c1);have lp:=pU (ji (szE L g) (C.take i)++((iE (szE L g y)).take j).map λc=>(y,c)) [];have lt:((iE (szE L g y)).take j).length<=(iE (szE L g y)).length:=by rw[iX];lia
    rw[jc,hA,oo]at lp;refine km MD b1 (mi _ _ (nk (y,c)) ⟨rfl,rfl,jb m sb,na,rfl⟩ (iM (by lia)) λo2 M=>?_);refine hH _ rfl ((f.trans (KB.of sb)).upd) ?_;rw[iF,hc,iS,iK,<-nR];have:=vN [] (ji (szE L g) (C.take i)++((iE (szE L g y)).take j).map λc=>(y,c)) (y,c);show A3g P w [true,false] _ MD (lG [] ((ji (szE L g) (C.take i)++((iE (szE L g y)).take j).map λc=>(y,c))++[(y,c)]));rw[this];exact M
   ·rintro Z N ⟨o5,rfl,f,m⟩;rw[hA,tp.len,iQ]at m;refine fx _ _ rfl ((kb.trans (KB.of b6)).trans f) ?_
    have:ji (szE L g) (C.take (i+1))=ji (szE L g) (C.take i)++(iE (szE L g y)).map λc=>(y,c):=by unfold ji;rw[iF,hy,iS,List.flatMap_append,List.flatMap_singleton]
    rw[this];exact m
  rintro Z G ⟨o4,o5,rfl,kb,nd⟩;rw[hA,iQ]at nd;have X:A0l H G:=KB.same s1 kb l;refine ii _ rfl SL ys rfl (SqL.of (X _ _ a3)) λr1 b0 f3=>?_;refine ii _ rfl KL ks rfl (SqL.of ?_) λU a4 d4=>?_
  ·rw[dV (ik (X _ _ Y) b0)];exact X _ _ Y
  have b4:r1≠U:=λz=>by subst z;rw[dh]at a4;cases a4
  have a6:G U=none:=by rw[dV b4.symm]at a4;exact a4
  have S:∀{b:zW}{u:HO},G b=some u->upd (upd G r1 (nW r1 SL ys.length)) U (nW U KL ks.length) b=some u:=λe=>by rw[dV (ik e a6),dV (ik e b0)];exact e
  refine lu r1 U SL KL ys ks rfl b4 f3 d4 (by rw[dV b4];exact dh) dh (SqL.of (S (X _ _ a3))) (SqL.of (S (X _ _ Y))) ?_;have sD:A0l G (kX (kX (upd (upd G r1 (nW r1 SL ys.length)) U (nW U KL ks.length)) r1) U):=A6 (A6 (λb u e=>S e) b0) a6;generalize kX (kX (upd (upd G r1 (nW r1 SL ys.length)) U (nW U KL ks.length)) r1) U=G1 at sD;have O:=jb nd sD;obtain⟨u1,e1,t1⟩:=kT O;have a0:=X.trans sD;have d9:=a0 _ _ a3;have e3:=a0 _ _ Y;have SM:SL≠MD:=ik a3 l;have KM:KL≠MD:=ik Y l
  refine Ha (K:=K) (a:=SL) (b:=KL) (xs:=ys) (ys:=ks) (λi Z N=>∃(o6 o7 o8:zP)(D:List (ij×V)),Z=[Sro ab,Sro SL,Sro KL,Sro MD,o4,o5,o6,o7,o8]/\KB MD G1 N/\A3g P w [true,false] N MD D/\D=nE B d (lG [] (ji (szE L g) C)) (ss.reverse.take i)/\D.length<=8000+i*20)
   (jf none none none _ rfl KB.refl O rfl ?_) (by (rintro i Z N zz;refine pE zz ?_;clear zz;rintro _ _ _ ⟨_,_,f,_⟩);exact⟨SqL.of (f _ _ SM d9),SqL.of (f _ _ KM e3)⟩) (by lia) ?_ ?_
  ·have:=pU (ji (szE L g) C) [];simp only [oo]at this
   lia
  ·rintro i v v2 Z N pz hv c4 zz;refine jy zz ?_;clear zz;rintro o6 o7 o8 D rfl f m ⟨ek,le⟩ f7;have hi:i<ys.length:=by have:=(iG.mp hv).1;rw[List.length_reverse]at this;exact this
   rw[List.getElem?_reverse hi]at hv;rw[List.getElem?_reverse (by lia)]at c4;obtain⟨sp,b2,b9⟩:=ja st hv;have a5:ss.reverse[i]?=some sp:=by rw[List.getElem?_reverse (by lia),<-b7];exact b2
   obtain⟨p,a7,R,vs,e5,hR,b8⟩:=ja a8 c4
   have:p=sp:=by rw[show ks.length-1-i=ys.length-1-i by lia,b2]at a7;exact(lI a7).symm
   subst this;subst e5;obtain⟨kk,e,si⟩:=c7 p (iZ b2);obtain⟨so,f8,g2⟩:=rk a1 fo si;have lw:=so.few;have d1:i*20<=20000*20:=Nat.mul_le_mul_right _ (by lia);obtain⟨G3,sz,e7,a9⟩:=nH (o:=.tup [v,.ref R]) f7
   try rw[a9]
   have c8:=f.trans (KB.of sz);have J:A0l H G3:=KB.same a0 c8 l;have d6:=jb m sz;refine iW b9 ?_;clear b9;rintro b5 c u rfl g1 gc gu;refine mQ pz _ rfl (SqT.of e7) rfl _ _ rfl _ _ rfl rfl ?_;refine jB _ rfl _ rfl ⟨ab,b5,x,ol,L,nm,g,tb,d,C,p,kk,e,rfl,af.same J,(jv b5 c u rfl (J _ _ g1) (J _ _ gc) (J _ _ gu)),si,λq G4 hq sq na=>?_⟩;have M:=jb d6 sq;have c5:=c8.trans (KB.of sq);obtain⟨u4,e4,t4⟩:=kT M;refine ah _ rfl (lA MD q _ _ (nk (wrS d p)) (iV ⟨rfl,rfl,M,na,rfl⟩ _ rfl (qW (λhz=>?_) (λhz=>?_))))
   ·have RM:R≠MD:=ik hR l;have c2:=sq _ _ (J _ _ hR);have d5:=Paired.length b8;refine jg _ rfl R rfl ⟨_,SqL.of c2⟩ ?_
    refine kr (K:=K) (a:=R) (xs:=vs) (λj Z G5=>∃(o8:zP),Z=[Sro ab,Sro SL,Sro KL,Sro MD,o4,o5,Sro b5,Sro R,o8]/\KB MD G4 G5/\A3g P w [true,false] G5 MD (lG D ((rdS B d p).take j)))
     (hH _ rfl KB.refl M) (by rintro j Z G5 _ ⟨_,_,I,_⟩;exact SqL.of (I _ _ RM c2)) ?_ ?_
    ·rintro j y Z G5 hy ⟨o8,rfl,I,a2⟩;obtain⟨r,e9,tr⟩:=ja b8 hy;obtain⟨b1,rfl,f4⟩:=pf ((tr.keep (KT.same (J.trans sq))).keep (I.kt e4 t4));have lp:=pU ((rdS B d p).take j) D;have lt:((rdS B d p).take j).length<=(rdS B d p).length:=by rw[iX];lia
     refine lP _ rfl _ rfl MD b1 _ _ (nk r) (hQ ⟨rfl,rfl,a2,f4,rfl⟩ (iM (by lia)) λo1 e2=>?_);refine hH _ rfl I.upd ?_;rw[iF,e9,iS,vN];exact e2
    ·rintro Z G5 ⟨o8,rfl,I,a2⟩;rw[d5,iQ]at a2;have lp:=pU (rdS B d p) D;refine jf _ _ _ _ rfl (c5.trans I) a2 ?_ (by lia);rw[iF,a5,iS,vO,<-ek];exact(ia hz).symm
   ·refine jf _ _ _ _ rfl c5 M ?_ (by lia);rw[iF,a5,iS,vO,<-ek];exact(fy hz).symm
  ·rintro Z N zz;refine jy zz ?_;clear zz;rintro o6 o7 o8 D rfl f m ⟨ek,le⟩;rw[b7,<-List.length_reverse,iQ]at ek;rw[ek]at m le;have d1:ys.length*20<=20000*20:=Nat.mul_le_mul_right _ (by lia);exact ah _ rfl (k MD N l (KB.same a0 f l) m (by lia))
theorem wP{p:Nat->Bool}:∀{n j:Nat},FI p n=some j->j<n/\p j=true/\∀m,m<j->¬p m=true
 |n+1,j,h=>by
  have h:(match FI p n with|some j=>some j|none=>if p n=true then some n else none)=some j:=h
  cases e:FI p n with
  |some j'=>rw[e]at h;cases h;obtain⟨i,g,f⟩:=wP e;exact hQ (by lia) g f
  |none=>
   rw[e]at h;have h:(if p n=true then some n else none)=some j:=h;by_cases hp:p n=true
   ·rw[ia hp]at h;cases h;refine hQ (by lia) hp λm c a=>?_
    have d:∀k,FI p k=none->∀m,m<k->¬p m=true:=λk=>by
     induction k with
     |zero=>intro _ m c;lia
     |succ k ih=>
      intro b m c a;have b:(match FI p k with|some j=>some j|none=>if p k=true then some k else none)=none:=b
      cases e':FI p k with
      |some j'=>rw[e']at b;cases b
      |none=>
       rw[e']at b;have b:(if p k=true then some k else none)=none:=b;rcases Nat.lt_or_ge m k with z|z
       ·exact ih e' m z a
       ·have:m=k:=by lia
        subst this;rw[ia a]at b;cases b
    exact d _ e m c a
   ·rw[fy hp]at h;cases h
theorem yt{p:Nat->Bool}:∀{n j:Nat},LI p n=some j->j<n/\p j=true
 |n+1,j,h=>by
  have h:(if p n=true then some n else LI p n)=some j:=h;split at h
  ·cases h
   exact⟨by lia,by assumption⟩
  ·obtain⟨b,a⟩:=yt h;exact⟨by lia,a⟩
theorem Eu(k:∀s∈iu (rows.map (iA L)) rows.length,s∈ss)(g:∀s∈ss,s∈iu (rows.map (iA L)) rows.length)(u:qw lk rows (iu (rows.map (iA L)) rows.length) ss)(h:InW (wkF lk L es rows os) r):
  0<=kH rows ss r/\kH rows ss r<=mD lk L es rows os (wkF lk L es rows os) ss r/\mD lk L es rows os (wkF lk L es rows os) ss r<=(ss.length:Int):=by
 obtain⟨j,b⟩:=xq k h;have w:mD lk L es rows os (wkF lk L es rows os) ss r=(j:Int):=by unfold mD;rw[b];rfl
 rw[w];unfold pH at b;have o:∀i,FI (wrA rows ss r) ss.length=some i->kH rows ss r=(i:Int)+1:=λi n=>by unfold kH;rw[n];rfl
 have q:FI (wrA rows ss r) ss.length=none->kH rows ss r=0:=λn=>by unfold kH;rw[n];rfl
 by_cases m:r∈ji (szE L es) os
 ·rw[ia m]at b;cases b
  cases hF:FI (wrA rows ss r) ss.length with
  |none=>rw[q hF];lia
  |some i=>
   have:=(wP hF).1;rw[o i hF]
   lia
 ·rw[fy m]at b;obtain⟨x,d⟩:=yt b
  cases hF:FI (wrA rows ss r) ss.length with
  |none=>rw[q hF];lia
  |some i=>
   obtain⟨B,A,v⟩:=wP hF;rw[o i hF];have e:ss[j]?=some ss[j]:=jq x;have c:ss[i]?=some ss[i]:=jq B;unfold rdA at d;rw[e]at d;have d:((ic (wkF lk L es rows os) (nk (wrS rows ss[j]))).isSome&&decide (r∈rdS lk rows ss[j]))=true:=d;have y:r∈rdS lk rows ss[j]:=of_decide_eq_true (Bool.and_eq_true_iff.mp d).2;have p:=(pR c).mp A;have t:=u j _ e r y _ (g _ (iZ c)) p;obtain⟨l,a⟩:=List.getElem?_of_mem t;have f:l<j:=by have:=(iG.mp a).1;rw[iX]at this;lia
   rw[List.getElem?_take_of_lt f]at a;have:¬l<i:=λz=>v l z ((pR a).mpr p)
   lia
theorem Hm(c:B2d lk L nm)(h:mN L nm es tb T rows os):qw lk rows (iu (rows.map (iA L)) rows.length) (iu (rows.map (iA L)) rows.length):=λi s e r k m d l=>by
 obtain⟨j,a⟩:=List.getElem?_of_mem d;rcases Nat.lt_or_ge j i with z|z
 ·exact iZ (by rw[List.getElem?_take_of_lt z];exact a)
 ·exfalso;have b:=(iG.mp a).1
  have g:iu (rows.map (iA L)) rows.length=(iu (rows.map (iA L)) rows.length).take j++m::(iu (rows.map (iA L)) rows.length).drop (j+1):=by have f:=(iG.mp a).2;rw[<-f,<-uH b,sY]
  refine Ai c h _ _ _ g s ?_ (by rw[l];exact k);rcases Nat.lt_or_ge i j with y|y
  ·exact .tail _ (iZ (show((iu (rows.map (iA L)) rows.length).take j)[i]?=some s by rw[List.getElem?_take_of_lt y];exact e))
  ·have:i=j:=by lia
   subst this;rw[e]at a;cases a;exact .head _
def kA(f g:Str×List Int->Int)(i:Int)(r:Str×List Int):Bool:=decide (f r<=i)&&decide (i<=g r)
def qZ(f g:Str×List Int->Int)(rs:List (Str×List Int))(i:Nat):Int:=((rs.filter (kA f g i)).length:Int)
theorem xh:∀{l:zI}{a n:Nat}{x d:Int},l[a]?=some x->((l.set a (x+d)).take n).sum=(l.take n).sum+if a<n then d else 0
 | [],_,_,_,_,h=>by simp at h
 |y::r,0,n,x,d,h=>by
  simp at h;subst h
  cases n with
  |zero=>simp
  |succ n=>
   rw[List.set_cons_zero,List.take_succ_cons,List.take_succ_cons,List.sum_cons,List.sum_cons,ia (by lia)]
   lia
 |y::r,a+1,n,x,d,h=>by
  cases n with
  |zero=>simp
  |succ n=>
   have b:=xh (l:=r) (a:=a) (n:=n) (x:=x) (d:=d) (by simpa using h);rw[List.set_cons_succ,List.take_succ_cons,List.take_succ_cons,List.sum_cons,List.sum_cons,b];by_cases z:a<n
   ·rw[ia z,ia (by lia)];lia
   ·rw[fy z,fy (by lia)];lia
structure D6m(E:Nat)(f g:Str×List Int->Int)(ch:zI)(rs:List (Str×List Int)):Prop where
 len:ch.length=E+2
 sum:∀i:Nat,i<=E->(ch.take (i+1)).sum=qZ f g rs i
theorem EE(E:Nat)(f g:Str×List Int->Int):D6m E f g (List.replicate (E+2) 0) []:=by
 refine⟨List.length_replicate,λi _=>?_⟩;rw[List.take_replicate];show _=((0:Nat):Int);generalize min (i+1) (E+2)=m
 induction m with
 |zero=>rfl
 |succ m ih=>rw[List.replicate_succ,List.sum_cons,ih];rfl
theorem D6m.step{E:Nat}{ch:zI}(h:D6m E f g ch rs)(m:0<=f r)(h1:f r<=g r)(h2:g r<=(E:Int)):
  ∃x y:Int,ch[(f r).toNat]?=some x/\(ch.set (f r).toNat (x+1))[(g r+1).toNat]?=some y/\D6m E f g ((ch.set (f r).toNat (x+1)).set (g r+1).toNat (y-1)) (rs++[r]):=by
 have l:=h.len;have a:ch[(f r).toNat]?=some (ch[(f r).toNat]'(by lia)):=jq _;have b:(ch.set (f r).toNat (ch[(f r).toNat]'(by lia)+1))[(g r+1).toNat]?=some ((ch.set (f r).toNat (ch[(f r).toNat]'(by lia)+1))[(g r+1).toNat]'(by rw[List.length_set];lia)):=jq _;refine fx _ _ a b ⟨by rw[List.length_set,List.length_set];exact l,λi k=>?_⟩;have c:=xh (n:=i+1) (d:=1) a;have j:=xh (n:=i+1) (d:= -1) b;rw[show∀z:Int,z-1=z+ -1 from λ_=>rfl,j,c,h.sum i k];unfold qZ;rw[List.filter_append,jc]
 have e:([r].filter (kA f g i)).length=if f r<=(i:Int)/\(i:Int)<=g r then 1 else 0:=by
  by_cases z:f r<=(i:Int)/\(i:Int)<=g r
  ·rw[ia z,qr (f:=kA f g i) (by unfold kA;rw[kz z.1,kz z.2];rfl)];rfl
  ·rw[fy z,qm (f:=kA f g i) (λy=>z (by unfold kA at y;rw[qf]at y;exact⟨of_decide_eq_true y.1,of_decide_eq_true y.2⟩))];rfl
 rw[e];split<;>split<;>split<;>lia
inductive BN(vs:zM)(H:Hp)(Q:VK):Prop|mk (q:zW) (f g i:Int) (_:vs=[.ref q,.int i]) (_:H q=some (.tup [.int f,.int g])) (_:Q (.bl (decide (f<=i)&&decide (i<=g))) H):BN vs H Q
def GO:Sp:=λa H Q _=>BN a H Q
abbrev pd(f g:Str×List Int->Int)(rs:List (Str×List Int))(E:Nat):zI:=(List.range (E+1)).map λi=>qZ f g rs i
inductive zb(vs:zM)(H:Hp)(Q:VK):Prop
 |mk (V0:zW) (E:Nat) (f g:Str×List Int->Int) (W:Str->List zI) (dk:zJ) (es:zB) (_:vs=[.ref V0,.int (E:Nat)]) (_:E<=20000) (_:H V0=some (.dK dk)) (_:qk H f g W dk es) (_:∀r∈jz W es,0<=f r/\f r<=g r/\g r<=(E:Int))
  (_:∀(NL:zW)(H':Hp),H NL=none->A0l H H'->H' NL=some (.lst ((pd f g (jz W es) E).map V.int))->Q (.ref NL) H'):zb vs H Q
def Cy:Sp:=λa H Q _=>zb a H Q
theorem HY(T:Txt K mg t):FO P w base T.cZ 1 GO:=by
 refine T.cZ.F.ok xK λ_ A _ s H _ Q E b h=>?_
 ·obtain⟨q,f,g,i,rfl,a,k⟩:=h;refine rsq (eg ⟨mG (pv 0) (lK (n:=2) rfl (iY (ie (i:=2) xK.nd) (iY (ie (i:=3) xK.nd) lN)))⟩ (fa (im (AG qx qx (pv 2) (pv 1) (pv 3))))) ?_;refine ah _ rfl (mQ q _ rfl (SqT.of a) rfl _ _ rfl _ _ rfl rfl ?_);refine jB _ rfl _ rfl (lx _ _ rfl rfl _ rfl (iC (λh=>?_) (λh=>?_)))
  ·refine ii _ rfl _ _ rfl rfl ?_;have h:f<=i:=h;rw[kz h,Bool.true_and]at k;exact k
  ·have h:¬f<=i:=h;rw[mZ h,Bool.false_and]at k;exact k
theorem Kl(T:Txt K mg t):FO P w base T.bg 1 Cy:=by
 refine T.bg.F.ok pZ λ_ A _ s H _ Q E hr h=>?_
 ·obtain⟨V0,En,f,g,W,L,es,rfl,e0,hV,lv,c4,k⟩:=h;have d4:=Paired.length lv;refine rsq (eg (iw 2 pZ.nd (ib DE (@jF _ _ _ _ (al fe eH)) (ib kI (pv 1) fe))) (eg (je (Gx (oG PySem.F.plainAttrs_dict PySem.F.slot_dict_values PySem.F.type_dict_values Gy (pv 0))) (ie (i:=3) pZ.nd) (eg (je (Iy (oG PySem.F.plainAttrs_dict PySem.F.slot_dict_values PySem.F.type_dict_values HW (pv 3))) (lK (n:=2) rfl (iY (ie (i:=4) pZ.nd) (iY (ie (i:=5) pZ.nd) lN))) (eg ⟨mG (ib kI (jr kd (pv 2) (pv 4)) fe) (oe (pv 2) (pv 4) uf)⟩ (fa ⟨mG (ib oE (jr kd (pv 2) (ib kI (pv 5) fe)) fe) (oe (pv 2) (ib kI (pv 5) fe) uf)⟩))) ⟨Hb iJ⟩)) ⟨@Am _ _ _ (@kP _ _ _ _ _ (@jM _ _ 6 _ _ _ _ pZ.nd rfl (.inl rfl) (@jF _ _ _ _ eH) rfl (.inl rfl)) (@kP _ _ _ _ _ (@jM _ _ 7 _ _ _ _ pZ.nd rfl (.inl rfl) fe rfl (.inl rfl)) (@kP _ _ _ _ _ (tV PassesOwn.never rfl (ju (mW mV (pv 2) nI (lY (ib kI (pv 1) fe)))) (ie (i:=8) pZ.nd) (@kP _ _ _ _ _ (@jM _ _ 7 _ _ _ _ pZ.nd rfl (.inl rfl) (ib kI (pv 7) (pv 8)) rfl (.inl rfl)) (@lW _ _ _ (kU (lJ kQ nU nT nK (pv 6) (fC 7)))))) (@lW _ _ _ (@pP _ _ _ _ (pv 6))))))⟩)) ?_;refine⟨iq rfl,λl0 d6=>?_⟩;obtain⟨H1,s1,h1,a0⟩:=nH (o:=.lst [.int 0]) d6
  try rw[a0]
  refine ii _ rfl _ _ rfl rfl (nM l0 _ _ rfl rfl h1 (by lia) (by lia) ⟨?_,λCL a7=>?_⟩)
  ·rw[show((En:Int)+2).toNat=En+2 by lia];exact lg (by simp;lia)
  rw[show((En:Int)+2).toNat=En+2 by lia,List.flatten_replicate_singleton];have er:List.replicate (En+2) (V.int 0)=(List.replicate (En+2) (0:Int)).map V.int:=by rw[List.map_replicate]
  rw[er];have b7:=EE En f g;generalize List.replicate (En+2) (0:Int)=c0 at b7;obtain⟨H2,s2,d1,a0⟩:=nH (o:=.lst (c0.map V.int)) a7
  try rw[a0]
  have b5:=s1.trans s2;have M:=b5 _ _ hV;have b8:H CL=none:=s1.free a7;refine hH _ rfl (.inr (.inr (.inl ⟨rfl,.inl ⟨_,M⟩⟩))) (iO V0 L rfl rfl M λpv b4=>?_);have Vp:V0≠pv:=ik M b4;refine jv pv V0 L rfl dh (by rw[dV Vp];exact M) λob=>?_;obtain⟨Gf,hGf⟩:∃Gf,Gf=upd (upd H2 pv (oR pv V0)) V0 (.frz ob (.dK L)):=⟨_,rfl⟩;rw[<-hGf];have fz:Gf V0=some (.frz ob (.dK L)):=by rw[hGf];exact dh
  have a8:∀{b:zW}{u:HO},b≠V0->H2 b=some u->Gf b=some u:=λn e=>by rw[hGf,dV n,dV (ik e b4)];exact e
  have CV:CL≠V0:=λz=>by subst z;rw[b8]at hV;cases hV
  have nC:∀{b:zW}{u:HO},H b=some u->b≠CL:=λe=>ik e b8;have up:∀{b:zW}{u:HO},b≠V0->H b=some u->Gf b=some u:=λn e=>a8 n (b5 _ _ e);have d5:∀o' u',H V0≠some (.frz o' u'):=λo' u' z=>by rw[hV]at z;cases z
  refine Id (a:=V0) (o:=ob) (kvs:=L) (λi Z G=>∃(o3 S U:zP)(d:zI),Z=[Sro V0,Sio (En:Nat),Sro CL,o3,S,U,none,none,none]/\KB CL Gf G/\G CL=some (.lst (d.map V.int))/\D6m En f g d (jz W (es.take i)))
   (jo none none none c0 rfl KB.refl (a8 CV d1) b7) (by (rintro i Z G B;refine pE B ?_;clear B;rintro _ _ _ ⟨_,_,p,_⟩);exact p _ _ CV.symm fz) ?_ ?_
  ·rintro i kk v Z G c9 B;refine jy B ?_;clear B;rintro o3 S U d rfl p hC D;refine oZ (ja lv c9) ?_;rintro e he _ ⟨b,tk,ev,I,lc⟩;have ev:v=.ref b:=ev;subst ev;have bV:b≠V0:=ir I hV (by intro z;cases z);have R:=p _ _ (nC I) (up bV I);have c6:=Paired.length lc;refine hH _ rfl (.inr (.inr (.inl ⟨rfl,.inr ⟨_,R⟩⟩))) (iO b _ rfl rfl (.inr (ah tk (.inl R) rfl)) λp2 b3=>?_);have bp:b≠p2:=ik R b3;refine jv p2 b tk rfl dh (by rw[dV bp];exact R) λN=>?_;obtain⟨Gg,hGg⟩:∃Gg,Gg=upd (upd G p2 (oR p2 b)) b (.frz N (.dT tk)):=⟨_,rfl⟩;rw[<-hGg];have a9:Gg b=some (.frz N (.dT tk)):=by rw[hGg];exact dh
   have a3:∀{c:zW}{u:HO},c≠b->G c=some u->Gg c=some u:=λn e=>by rw[hGg,dV n,dV (ik e b3)];exact e
   have bC:b≠CL:=nC I
   refine IZ (a:=b) (o:=N) (kvs:=tk) (λj Z X=>∃(S U:zP)(d:zI),Z=[Sro V0,Sio (En:Nat),Sro CL,Sro b,S,U,none,none,none]/\KB CL Gg X/\X CL=some (.lst (d.map V.int))/\D6m En f g d (jz W (es.take i)++((W e.1).take j).map λc=>(e.1,c)))
    (jv _ _ d rfl KB.refl (a3 bC.symm hC) (by simpa using D)) (by rintro j Z X ⟨_,_,_,_,m,_⟩;exact m _ _ bC a9) ?_ ?_
   ·rintro j k2 v2 Z X d0 B;refine iW B ?_;clear B;rintro S U d rfl m r l;obtain⟨c,hc,_,q,a5,hq⟩:=ja lc d0;have a5:v2=.ref q:=a5;subst a5;have c8:q≠V0:=ir hq hV (by intro z;cases z);have d8:q≠b:=ir hq I (by intro z;cases z);have c2:=m _ _ (nC hq) (a3 d8 (p _ _ (nC hq) (up c8 hq)));have rm:(e.1,c)∈jz W es:=xr.mpr ⟨List.mem_map_of_mem (f:=(·.1)) (iZ he),iZ hc⟩;obtain⟨b0,b1,b2⟩:=c4 _ rm;obtain⟨x,y,hx,hy,J⟩:=l.step b0 b1 b2;have d9:=l.len;obtain⟨n1,hn1⟩:∃n:Nat,f (e.1,c)=(n:Int):=⟨(f (e.1,c)).toNat,by lia⟩;obtain⟨n2,hn2⟩:∃n:Nat,g (e.1,c)=(n:Int):=⟨(g (e.1,c)).toNat,by lia⟩;have e1:(f (e.1,c)).toNat=n1:=by lia
    have e2:(g (e.1,c)+1).toNat=n2+1:=by lia
    rw[e1]at hx hy J;rw[e2]at hy J;rw[hn1,hn2]at c2;rw[hn1]at b1;rw[hn2]at b1 b2;refine mQ q _ rfl (SqT.of c2) rfl _ _ rfl _ _ rfl rfl ?_;have a1:atI (d.map V.int) (n1:Int)=some (.int x):=hY (by rw[jh,hx];rfl)
    have d2:ixN (d.map V.int).length (n1:Int)=some n1:=by unfold ixN;rw[ia (by lia),ia (by rw[hA];lia),Int.toNat_natCast]
    refine mf _ rfl _ rfl CL _ _ _ rfl rfl (SqL.of r) a1 (fx _ _ rfl rfl (mf _ rfl _ rfl CL _ _ n1 rfl rfl r d2 ?_));rw[show(d.map V.int).set n1 (V.int (x+1))=(d.set n1 (x+1)).map V.int from (List.map_set).symm];have C:upd X CL (.lst ((d.set n1 (x+1)).map V.int)) CL=some (.lst ((d.set n1 (x+1)).map V.int)):=dh;have c1:KB CL Gg (upd X CL (.lst ((d.set n1 (x+1)).map V.int))):=m.upd;generalize upd X CL (.lst ((d.set n1 (x+1)).map V.int))=G3 at C c1;have ei:(n2:Int)+1=((n2+1:Nat):Int):=by lia
    have a2:atI ((d.set n1 (x+1)).map V.int) ((n2:Int)+1)=some (.int y):=by rw[ei];exact hY (by rw[jh,hy];rfl)
    have c7:ixN ((d.set n1 (x+1)).map V.int).length ((n2:Int)+1)=some (n2+1):=by unfold ixN;rw[ei,ia (by lia),ia (by rw[hA,List.length_set];lia),Int.toNat_natCast]
    refine iU _ rfl _ rfl _ _ rfl rfl (jo CL _ _ _ rfl rfl (SqL.of C) (jN a2 _ _ rfl rfl (iU _ rfl _ rfl _ _ rfl rfl (jf CL _ _ (n2+1) rfl rfl C c7 ?_))));rw[show((d.set n1 (x+1)).map V.int).set (n2+1) (V.int (y-1))=((d.set n1 (x+1)).set (n2+1) (y-1)).map V.int from (List.map_set).symm];refine jv _ _ _ rfl c1.upd dh ?_;rw[iF,hc,iS,iK,<-nR];exact J
   ·rintro Z X B;refine iW B ?_;clear B;rintro S U d rfl m r l;rw[c6,iQ]at l;have O:=m _ _ bC a9;refine mi b N _ O (λo' u' z=>by have z:H b=some (.frz o' u'):=z;rw[I]at z;cases z) ?_;refine jo _ _ _ d rfl (λc u hc z=>?_) (by rw[dV bC.symm];exact r) ?_
    ·by_cases hcb:c=b
     ·subst hcb;rw[up bV I]at z;cases z;exact dh
     ·rw[dV hcb];exact m _ _ hc (a3 hcb (p _ _ hc z))
    ·rw[iF,he,iS];unfold jz at l⊢;rw[List.flatMap_append,List.flatMap_singleton];exact l
  rintro Z G B;refine jy B ?_;clear B;rintro o3 S U d rfl p hC D;rw[d4,iQ]at D;have O:=p _ _ CV.symm fz;refine mi V0 ob L O d5 ?_
  have sG:A0l H (upd G V0 (.dK L)):=λb u e=>by
   by_cases I:b=V0
   ·subst I;rw[hV]at e;cases e;exact dh
   ·rw[dV I];exact p _ _ (nC e) (up I e)
  have C:upd G V0 (.dK L) CL=some (.lst (d.map V.int)):=by rw[dV CV];exact hC
  generalize upd G V0 (.dK L)=G1 at sG C;clear p hC O;have d9:=D.len;refine⟨iq rfl,λNL Y=>?_⟩;have s4:A0l G1 (upd G1 NL (.lst [])):=eh Y;have a6:upd G1 NL (.lst []) NL=some (.lst ([]:zM)):=dh;generalize upd G1 NL (.lst [])=G4 at s4 a6;have c3:=s4 _ _ C;refine iU _ rfl _ rfl _ _ rfl rfl (ii _ rfl CL _ rfl (SqL.of c3) λZL b9=>?_);have ec:kR (d.map V.int) none (some ((En:Int)+1))=(d.take (En+1)).map V.int:=sk (i:=En+1);have s5:A0l G4 (upd G4 ZL (.lst (kR (d.map V.int) none (some ((En:Int)+1))))):=eh b9;have a4:upd G4 ZL (.lst (kR (d.map V.int) none (some ((En:Int)+1)))) ZL=some (.lst ((d.take (En+1)).map V.int)):=by rw[dh,ec]
  generalize upd G4 ZL (.lst (kR (d.map V.int) none (some ((En:Int)+1))))=G5 at s5 a4;have d3:=s5 _ _ a6;have ZN:ZL≠NL:=(ik a6 b9).symm;have d7:=(sG.trans s4).trans s5;refine hH ZL rfl ⟨_,SqL.of a4⟩ ?_
  refine kr (K:=K) (a:=ZL) (xs:=(d.take (En+1)).map V.int) (λi Z G=>∃(o8:zP)(ns:zI),Z=[Sro V0,Sio (En:Nat),Sro CL,o3,S,U,Sro NL,some (.int (d.take i).sum),o8]/\KB NL G5 G/\G NL=some (.lst (ns.map V.int))/\ns=(List.range i).map λj=>qZ f g (jz W es) j)
   (iO none [] rfl KB.refl d3 rfl) (by rintro i Z G _ ⟨_,_,_,p,_⟩;exact SqL.of (p _ _ ZN a4)) ?_ ?_
  ·rintro i v Z G hv ⟨o8,ns,rfl,p,hN,en⟩;obtain⟨z,hz,rfl⟩:=ko hv;have hi:=(iG.mp hz).1;rw[iX]at hi;have c5:d[i]?=some z:=by rw[List.getElem?_take_of_lt (by lia)]at hz;exact hz
   have b6:(d.take (i+1)).sum=(d.take i).sum+z:=by rw[iF,c5,iS,List.sum_append];simp
   have e3:ns.length=i:=by rw[en,hA,List.length_range]
   refine iU _ rfl _ rfl _ _ rfl rfl (lQ _ rfl (.inl (jI rfl _ (SqL.of hN))) _ rfl (jX NL _ _ rfl rfl hN (iM (by rw[hA];lia)) ?_));refine iO (some (.int z)) (ns++[(d.take i).sum+z]) ?_ p.upd (by rw[dh,iK];rfl) ?_
   ·rw[b6];rfl
   ·rw[List.range_succ,iK,<-en,<-b6,D.sum i (by lia)];rfl
  ·rintro Z G ⟨o8,ns,rfl,p,hN,en⟩;have ll:((d.take (En+1)).map V.int).length=En+1:=by rw[hA,iX];lia
   rw[ll]at en;refine ah _ rfl (k NL G (sG.free Y) (KB.same d7 p (sG.free Y)) ?_);rw[hN,en]
def C4u(a:zI)(i:Nat):Prop:=∃m,m∈a/\(∀k∈a,k<=m)/\i=a.idxOf m
theorem C4u.uniq{c:zI}(h:C4u c i)(h':C4u c j):i=j:=by obtain⟨m,d,f,rfl⟩:=h;obtain⟨e,b,a,rfl⟩:=h';have:=f _ b;have:=a _ d;rw[show m=e by lia]
abbrev np(f g:Str×List Int->Int)(rs:List (Str×List Int))(i:Nat):List (Str×List Int):=rs.filter (kA f g i)
abbrev CrQ(H:Hp)(Q:VK)(f g:Str×List Int->Int)(rs:List (Str×List Int))(E:Nat):Prop:=∀(q CR:zW)(b:zM)(i:Nat)(a:Hp),H CR=none->A0l H a->a q=some (.tup [.int (i:Nat),.ref CR])->a CR=some (.lst b)->Rds a b (np f g rs i)->C4u (pd f g rs E) i->Q (.ref q) a
inductive zm(vs:zM)(H:Hp)(Q:VK):Prop
 |mk (V0:zW) (E:Nat) (f g:Str×List Int->Int) (W:Str->List zI) (dk:zJ) (es:zB) (_:vs=[.ref V0,.int (E:Nat)]) (_:E<=20000) (_:H V0=some (.dK dk)) (_:qk H f g W dk es) (_:∀r∈jz W es,0<=f r/\f r<=g r/\g r<=(E:Int)) (_:(jz W es).length<=900000)
  (_:CrQ H Q f g (jz W es) E):zm vs H Q
def De:Sp:=λa H Q _=>zm a H Q
theorem Rds.kt(h:Rds H vs rs)(k:KT H H'):Rds H' vs rs:=h.keep k
theorem Kb(T:Txt K mg t):FO P w base T.bn 2 De:=by
 refine T.bn.F.ok sT λ_ A _ s H _ Q E hr h=>?_
 ·obtain⟨V0,En,f,g,W,Y,a,rfl,c5,hV,lv,c6,lm,k⟩:=h;have d8:=Paired.length lv;refine rsq (eg (iw 2 sT.nd (pcl (Kl T) hr T.bg (al (pv 0) (fC 1)))) (eg ⟨@jM _ _ 3 _ _ _ _ sT.nd rfl (.inr rfl) (lJ kQ PySem.F.slot_list_index PySem.F.type_list_index Bc (pv 2) (al (jS (Bh rfl) (by rfl) T.ft PyProof.Rows.boot_max (fC 2)) eH)) rfl (.inl rfl)⟩ (eg (iw 4 sT.nd (@jF _ _ _ _ eH)) (eg (je (sw (oG PySem.F.plainAttrs_dict PySem.F.slot_dict_items PySem.F.type_dict_items sn (pv 0))) (lK (n:=2) rfl (iY (ie (i:=5) sT.nd rfl (.inr rfl)) (iY (ie (i:=6) sT.nd) lN))) (fa ⟨kU (lJ kQ PySem.F.slot_list_extend PySem.F.type_list_extend ui (pv 4) (al (F7 (vC (N':=["cell","life","array","gap"]) (ix:=(List.replicate 2 none++[some 5,some 3])) (g:=wv K 2 (tP (nX 0) (tP (nX 1) wA))) rfl (sI (cl:=[("gap",_),("array",_)]) (xs:=["gap","array"]) rfl (hQ rfl rfl trivial) rfl rfl (by decide+kernel) (by decide+kernel)) (sK (N0:=["cell","life"]) (xs:=["array","gap"]) (js:=[5,3]) (hQ (hQ rfl (.inl rfl) (by walk_at"ix")) (hQ rfl (.inl rfl) (by walk_at"ix")) trivial)) (sw (oG PySem.F.plainAttrs_dict PySem.F.slot_dict_items PySem.F.type_dict_items sn (pv 6))) (λ_ _ _ _=>(lK (n:=2) rfl (iY (ie (i:=0) AZ) (iY (ie (i:=1) AZ) lN)))) (λ_ _ _ _=>(kZ (pcl (HY T) hr T.cZ (al (pv 1) (fC 3))))) (λ_ _ _ _=>(jd (al (pv 2) (fC 0)))))) eH))⟩)) ⟨uq (@lW _ _ _ (@pP _ _ _ _ (jd (al (pv 3) (fC 4)))))⟩)))) ?_;refine jB _ rfl _ rfl ⟨V0,En,f,g,W,Y,a,rfl,c5,hV,lv,c6,λNL H1 d9 s1 hN=>?_⟩;have lc:(pd f g (jz W a) En).length=En+1:=by rw[hA,List.length_range]
  have mx:∀m,m∈pd f g (jz W a) En->(∀k∈pd f g (jz W a) En,k<=m)->C4u (pd f g (jz W a) En) ((pd f g (jz W a) En).idxOf m):=λm h1 h2=>(hH m h1 h2 rfl);refine lQ _ rfl (.inl (jI rfl _ (SqL.of hN))) _ rfl (iO NL _ rfl (SqL.of hN) (by lia) λm hm c9=>?_);refine jX NL _ m rfl rfl hN hm ?_;have mx:=mx m hm c9;generalize (pd f g (jz W a) En).idxOf m=N at mx;refine⟨iq rfl,λCR b1=>?_⟩;have U:A0l H1 (upd H1 CR (.lst [])):=eh b1;have b2:upd H1 CR (.lst []) CR=some (.lst ([]:zM)):=dh;generalize upd H1 CR (.lst [])=H2 at U b2;have b0:=s1.trans U;have a2:=b0 _ _ hV;have a5:H CR=none:=s1.free b1;refine hH _ rfl (.inr (.inr (.inl ⟨rfl,.inl ⟨_,a2⟩⟩))) (jA V0 _ rfl rfl a2 (.inl ⟨_,rfl⟩) λvw b4=>?_);have Vv:V0≠vw:=ik a2 b4;refine jv vw V0 _ rfl dh (by rw[dV Vv];exact a2) (.inl (ah Y rfl λo1=>?_));obtain⟨Gf,hGf⟩:∃Gf,Gf=upd (upd H2 vw (mO vw V0)) V0 (.frz o1 (.dK Y)):=⟨_,rfl⟩;rw[<-hGf];have fz:Gf V0=some (.frz o1 (.dK Y)):=by rw[hGf];exact dh
  have a7:∀{b:zW}{u:HO},b≠V0->H2 b=some u->Gf b=some u:=λn e=>by rw[hGf,dV n,dV (ik e b4)];exact e
  have CV:CR≠V0:=λz=>by subst z;rw[a5]at hV;cases hV
  have nC:∀{b:zW}{u:HO},H b=some u->b≠CR:=λe=>ik e a5;have up:∀{b:zW}{u:HO},b≠V0->H b=some u->Gf b=some u:=λn e=>a7 n (b0 _ _ e)
  refine uj (L:=Y.map λq=>(kV q.1,q.2)) (λi Z G=>∃(o5 o6:zP)(M:zM),Z=[Sro V0,Sio (En:Nat),Sro NL,Sio (N:Nat),Sro CR,o5,o6]/\KB CR Gf G/\G CR=some (.lst M)/\Rds G M (np f g (jz W (a.take i)) N))
   (jv none none [] rfl KB.refl (a7 CV b2) .nil) (by rintro i Z G ⟨_,_,_,_,kb,_⟩;exact kb _ _ CV.symm fz) ?_ ?_
  ·rintro i kx vx qq Z G hx hq zz;refine iW zz ?_;clear zz;rintro o5 o6 M rfl kb hC rd;rw[jh]at hx;obtain⟨⟨k',v⟩,hk,e⟩:=oP.mp hx;cases e;refine oZ (ja lv hk) ?_;rintro e he ek ⟨b,d,ev,hb,c0⟩;have ek:k'=Sum.inr e.1:=ek;subst ek;have ev:v=.ref b:=ev;subst ev;have bV:b≠V0:=ir hb hV (by intro z;cases z);have c7:=Paired.length c0;have sq:A0l G (upd G qq (.tup [kV (Sum.inr e.1),.ref b])):=eh hq;have b3:upd G qq (.tup [kV (Sum.inr e.1),.ref b]) qq=some (.tup [.str e.1,.ref b]):=dh;generalize upd G qq (.tup [kV (Sum.inr e.1),.ref b])=G1 at sq b3;have a4:=kb.trans (KB.of sq);have a9:=sq _ _ hC;have p:=a4 _ _ (nC hb) (up bV hb);have d4:KT H G1:=λc xs z=>a4 _ _ (nC z) (up (ir z hV (by intro z;cases z)) z)
   have e0:(jz W (a.take i)).length+(W e.1).length<=(jz W a).length:=by
    have h1:jz W a=jz W (a.take i)++jz W (a.drop i):=by unfold jz;rw[<-List.flatMap_append,sY]
    have hi:=(iG.mp he);have h2:a.drop i=e::a.drop (i+1):=by rw[uH hi.1,hi.2]
    have h3:(jz W (a.drop i)).length≥(W e.1).length:=by
     rw[h2];unfold jz;rw[List.flatMap_cons,jc,hA]
     lia
    rw[h1,jc]
    lia
   have e1:M.length<=(jz W (a.take i)).length:=by rw[Paired.length rd];exact List.length_filter_le _ _
   refine mQ qq _ rfl (SqT.of b3) rfl _ _ rfl _ _ rfl rfl ?_;refine lQ _ rfl (.inl (jI rfl _ (SqL.of a9))) _ rfl ⟨.inr (.inr (.inl ⟨rfl,.inr ⟨_,p⟩⟩)),(jA b _ rfl rfl p (.inr ⟨_,rfl⟩) λl b5=>?_)⟩;have bv:b≠l:=ik p b5;have sv:A0l G1 (upd G1 l (mO l b)):=eh b5;refine jv l b _ rfl dh (by rw[dV bv];exact p) (.inr (ah d rfl λo2 Lk kl D hD=>?_));have d7:=Paired.length kl;have R:upd (upd G1 l (mO l b)) b (.frz o2 (.dT d)) b=some (.frz o2 (.dT d)):=dh;have b8:KT G1 (upd (upd G1 l (mO l b)) b (.frz o2 (.dT d))):=λc xs z=>by rw[dV (ir z p (by intro z;cases z))];exact sv _ _ z
   have b9:∀{c:zW}{u:HO},c≠b->G1 c=some u->upd (upd G1 l (mO l b)) b (.frz o2 (.dT d)) c=some u:=λn z=>by rw[dV n];exact sv _ _ z
   have c1:KL (upd (upd G1 l (mO l b)) b (.frz o2 (.dT d))) d Lk:=Paired.mapP kl λ_ _ z=>by obtain⟨bc,z1,z2,z3⟩:=z;exact hH bc z1 (by rw[dV (ir z2 (show upd G1 l (mO l b) b=some (.dT d)by rw[dV bv];exact p) (by intro z;cases z))];exact z2) z3
   generalize upd (upd G1 l (mO l b)) b (.frz o2 (.dT d))=Gz at R b8 b9 c1 hD;refine IY (J:=Iti b o2 (.dT d) Lk) (D:=D) Lk.length (λj r I=>A0l Gz I/\I D=some (.lst r)/\Rds I r (np f g (((W e.1).take j).map λc=>(e.1,c)) N)) (hQ (eh hD) dh .nil) (by rintro j r I hj ⟨U,_⟩;exact⟨U _ _ R,hj⟩) (by rintro r I ⟨U,_⟩;exact⟨U _ _ R,rfl⟩) ?_ ?_
   ·rintro j r I hj ⟨U,a6,B⟩ x3 H3 zz;refine iW zz ?_;clear zz;rintro kk vv p3 hL d0 rfl rfl;have c2:d[j]?=some (d[j]'(by lia)):=jq _;obtain⟨y,hy,bc,y1,y2,y3⟩:=ja c1 c2;rw[hL]at hy;cases hy;obtain⟨c,hc,ec,q,d2,d1⟩:=ja c0 c2;have c8:vv=.ref q:=y3.trans d2;clear y3;obtain rfl:kk=.ref bc:=y1;subst c8;rw[ec,List.map_map]at y2;have y2:Gz bc=some (.tup (c.map V.int)):=y2;have d6:Gz q=some (.tup [.int (f (e.1,c)),.int (g (e.1,c))]):=b8 _ _ (d4 _ _ d1);obtain⟨G3,a1,d3,a3⟩:=nH (o:=.tup [.ref bc,.ref q]) d0
    try rw[a3]
    have s3:=U.trans a1;have X:=a1 _ _ a6
    have c3:r.length<=j:=by
     have h1:r.length=((((W e.1).take j).map λc=>(e.1,c)).filter (kA f g N)).length:=Paired.length B;have:=List.length_filter_le (kA f g N) (((W e.1).take j).map λc=>(e.1,c));rw[hA,iX]at this
     lia
    refine mQ p3 _ rfl (SqT.of d3) rfl _ _ rfl _ _ rfl rfl ⟨(hQ rfl rfl True.intro),?_⟩;refine jB _ rfl _ rfl ⟨q,_,_,_,rfl,s3 _ _ d6,_,rfl,qW (λhz=>?_) (λhz=>?_)⟩
    ·refine jg _ rfl _ rfl (iq rfl) λp4 d5=>?_;obtain⟨G4,s4,b6,a3⟩:=nH (o:=.tup [.str e.1,.ref bc]) d5
     try rw[a3]
     have a8:=s4 _ _ X;have kD:KT G4 (upd G4 D (.lst (r++[.ref p4]))):=KT.at a8 (by intro xs z;cases z);refine jH a8 (iM (by lia)) (jn (s3.trans s4) hD) dh ?_;rw[iF,hc,iS,iK];unfold np;rw[List.filter_append,show([c].map λc=>(e.1,c))=[(e.1,c)] from rfl,qr (f:=kA f g N) (x:=(e.1,c)) hz];exact jZ (((B.kt (KT.same a1)).kt (KT.same s4)).kt kD) (.cons (fx p4 bc rfl (kD _ _ b6) (kD _ _ (s4 _ _ (s3 _ _ y2)))) .nil)
    ·refine hQ s3 X ?_;rw[iF,hc,iS,iK];unfold np;rw[List.filter_append,show([c].map λc=>(e.1,c))=[(e.1,c)] from rfl,qm (f:=kA f g N) (x:=(e.1,c)) hz,nS];exact B.kt (KT.same a1)
   rintro r I ⟨U,a6,B⟩;rw[<-d7,c7,iQ]at B;have S:=U _ _ R;refine mi b o2 _ S (λo' u' z=>by have z:H b=some (.frz o' u'):=z;rw[hb]at z;cases z) ?_;have c4:KT I (upd I b (.dT d)):=KT.at S (by intro xs z;cases z)
   have a0:∀{c:zW}{u:HO},G1 c=some u->upd I b (.dT d) c=some u:=λ{c u} z=>by
    by_cases hcb:c=b
    ·subst hcb;rw[p]at z;cases z;exact dh
    ·rw[dV hcb];exact U _ _ (b9 hcb z)
   have X:upd I b (.dT d) D=some (.lst r):=by rw[dV (λz=>by subst z;rw[R]at hD;cases hD)];exact a6
   have C:=B.kt c4;have b7:Rds (upd I b (.dT d)) M (np f g (jz W (a.take i)) N):=(rd.kt (KT.same sq)).kt λc xs z=>a0 z;generalize upd I b (.dT d)=G3 at a0 X C b7;have O:=a0 a9
   have c3:r.length<=(W e.1).length:=by rw[Paired.length C];have:=List.length_filter_le (kA f g N) ((W e.1).map λc=>(e.1,c));rw[hA]at this;exact this
   refine lh CR D M r rfl rfl O X (lg (by lia)) ?_;have kC:KT G3 (upd G3 CR (.lst (M++r))):=KT.at O (by intro xs z;cases z);refine jv _ _ (M++r) rfl (λc u hc z=>by rw[dV hc];exact a0 (a4 _ _ hc z)) dh ?_;rw[iF,he,iS];unfold np jz;rw[List.flatMap_append,List.flatMap_singleton,List.filter_append];exact jZ (b7.kt kC) (C.kt kC)
  rintro Z G zz;refine iW zz ?_;clear zz;rintro o5 o6 M rfl kb hC rd;rw[hA,d8,iQ]at rd;have S:=kb _ _ CV.symm fz;refine jv V0 o1 _ S (.inl ⟨_,rfl⟩) (λo' u' z=>by have z:H V0=some (.frz o' u'):=z;rw[hV]at z;cases z) ?_
  have sG:A0l H (upd G V0 (.dK Y)):=λb u e=>by
   by_cases hb:b=V0
   ·subst hb;rw[hV]at e;cases e;exact dh
   ·rw[dV hb];exact kb _ _ (nC e) (up hb e)
  have O:upd G V0 (.dK Y) CR=some (.lst M):=by rw[dV CV];exact hC
  have C:Rds (upd G V0 (.dK Y)) M (np f g (jz W a) N):=rd.kt (KT.at S (by intro xs z;cases z));generalize upd G V0 (.dK Y)=G1 at sG O C;refine jg _ rfl _ rfl (iq rfl) λq hq=>?_;have sq:A0l G1 (upd G1 q (.tup [.int (N:Nat),.ref CR])):=eh hq;exact k q CR M N _ a5 (sG.trans sq) dh (sq _ _ O) (C.kt (KT.same sq)) mx
abbrev mkW(lk:zJ)(L:zR)(es:zB)(rows:List LnM)(os:zC):List (Str×List Int):=jz (kY (wkF lk L es rows os) (szE L es)) es
abbrev lsW(lk:zJ)(L:zR)(es:zB)(rows:List LnM)(os:zC)(ss:List Stp):Str×List Int->Int:=mD lk L es rows os (wkF lk L es rows os) ss
theorem DW(h:r∈mkW lk L es rows os):InW (wkF lk L es rows os) r:=by obtain⟨_,a⟩:=xr.mp h;exact(List.mem_filter.mp a).2
theorem xj(d:B2d lk L nm)(g:mN L nm es tb T rows os):∀a,(∀e∈a,e∈es)->(jz (kY (wkF lk L es rows os) (szE L es)) a).length<=a.length*60:=λa k=>by
 have h:=ub (l:=a) (f:=λe=>(kY (wkF lk L es rows os) (szE L es) e.1).map λc=>(e.1,c)) (B:=60) λe b=>by
  have b:=k e b;rw[hA];unfold kY szE;rw[rn g.eo.nd b];have m:=List.length_filter_le (λc=>(ic (wkF lk L es rows os) (nk (e.1,c))).isSome) (iE (e.2.map L));have p:=(pY (e.2.map L) λn i=>by obtain⟨y,j,rfl⟩:=kg.mp i;exact(d.ok y ((g.eo.ax e b).sub y j)).1).1;have o:=g.eo.pr e b
  lia
 exact h
inductive z8(A:Adr)(vs:zM)(H:Hp)(Q:VK):Prop
 |mk (p sl:zW) (L:zR) (nm:zC) (es:zB) (tb:zC) (T:Nat) (rows:List LnM) (os:zC) (ys:zM) (ss:List Stp) (lk:zJ) (_:vs=[.ref p,.ref sl]) (_:ClF A H p L nm es rows os) (_:mN L nm es tb T rows os) (_:B2d lk L nm) (_:H sl=some (.lst ys)) (_:A2e H ys ss) (_:oC L rows ss) (_:ss.length<=20000) (_:∀s∈iu (rows.map (iA L)) rows.length,s∈ss) (_:∀s∈ss,s∈iu (rows.map (iA L)) rows.length) (_:qw lk rows (iu (rows.map (iA L)) rows.length) ss)
  (_:CrQ H Q (kH rows ss) (lsW lk L es rows os ss) (mkW lk L es rows os) ss.length):z8 A vs H Q
def Du(A:Adr):Sp:=λa H Q _=>z8 A a H Q
def C5e(H:Hp)(f g:Str×List Int->Int):zM->List (Str×List Int)->Prop:=Paired λ(v:V)(r:Str×List Int)=>∃p q c,v=.ref p/\H p=some (.tup [.ref q,.int (f r),.int (g r)])/\H q=some (.tup [.str r.1,.ref c])/\H c=some (.tup (r.2.map V.int))
theorem C5e.kt(h:C5e H f g vs rs)(k:KT H H'):C5e H' f g vs rs:=Paired.mapP h (by (refine λ_ _ a=>iW a λp q c e b i d=>?_;clear a);exact jv p q c e (k _ _ b) (k _ _ i) (k _ _ d))
inductive BF(P:yB)(w:yD)(vs:zM)(H:Hp)(Q:VK):Prop
 |mk (ab OL MD:zW) (x:Abt) (ol:zW) (L:zR) (nm:zC) (es:zB) (tb:zC) (T:Nat) (rows:List LnM) (os:zC) (lk:zJ) (ys:zM) (ss:List Stp) (_:vs=[.ref ab,.ref OL,.ref MD]) (_:AbF H ab x ol L nm es tb rows os) (_:mN L nm es tb T rows os) (_:B2d lk L nm) (_:H OL=some (.lst ys)) (_:A2e H ys ss) (_:oC L rows ss) (_:ss.length<=20000) (_:∀s∈iu (rows.map (iA L)) rows.length,s∈ss) (_:A3g P w [true,false] H MD (wkF lk L es rows os))
  (_:∀(LL:zW)(vs:zM)(H':Hp),H LL=none->A0l H H'->H' LL=some (.lst vs)->C5e H' (kH rows ss) (lsW lk L es rows os ss) vs (mkW lk L es rows os)->Q (.ref LL) H'):BF P w vs H Q
def GX(P:yB)(w:yD):Sp:=λa H Q _=>BF P w a H Q
def KC(a b:zW)(H H':Hp):Prop:=∀c u,c≠a->c≠b->H c=some u->H' c=some u
theorem KC.refl:KC a b H H:=λ_ _ _ _ e=>e
theorem KC.same(k:KC a b H G)(s:A0l G G'):KC a b H G':=λc u d f e=>s _ _ (k c u d f e)
theorem KC.ka(k:KC a b H G)(s:KB a G G'):KC a b H G':=λc u d f e=>s _ _ d (k c u d f e)
theorem KC.kb(k:KC a b H G)(s:KB b G G'):KC a b H G':=λc u f d e=>s _ _ d (k c u f d e)
theorem KC.bse{H1:Hp}(s:A0l H H1)(k:KC a b H1 G)(f:H a=none)(d:H b=none):A0l H G:=λc u e=>k c u (ik e f) (ik e d) (s _ _ e)
theorem IU(T:Txt K mg t):FO P w base T.cC 18 (Du t):=by
 refine T.cC.F.ok Jk λ_ A _ s H _ Q E g h=>?_
 ·obtain⟨p,z,L,O,b,X,T0,a,y,x,R,C,rfl,S,u,c,f,G,l,m,e,j,M,k⟩:=h;have d:=Paired.length G;have J:=u.eo.few;have W:=xj c u b λ_ h=>h;refine rsq (fa (im (pcl (Kb T) g T.bn (al (pcl (IT T) g T.cD (al (pv 0) (fC 1))) (al (kN T.ao (fC 1)) eH))))) ?_;refine lP _ rfl _ rfl p z L O b ⟨X,(lu T0 a y x R C rfl S u c f G l m ⟨e,λD I H1 hD n o U=>?_⟩)⟩;refine ii _ rfl z _ rfl (.inl (SqL.of (n _ _ f))) ?_;refine⟨D,x.length,_,_,_,I,b,rfl,by lia,o,U,λr g=>?_,?_,λq CR cs i H' v Y Z N rd B=>?_⟩
  ·rw[d];exact Eu e j M (DW g)
  ·have:(jz (kY (wkF C L b a y) (szE L b)) b).length<=b.length*60:=W
   lia
  ·rw[d]at B;exact k q CR cs i H' (n.free v) (n.trans Y) Z N rd B
theorem HM(T:Txt K mg t):FO P w base T.c_ 14 (GX P w):=by
 refine T.c_.F.ok oK λ_ A _ s H _ Q E hr h=>?_
 ·obtain⟨ab,OL,MD,x,ol,L,nm,p,tb,T0,g,B,lk,ys,C,rfl,af,fo,a2,b6,st,n2,o3,n4,k2,k⟩:=h;have hu:=lF hr;have hn:=pM hr;have i6:=Paired.length st;have p1:=fo.eo.few;have m4:=fo.fo;have j2:=xj a2 fo;have ls:∀{r},InW (wkF lk L p g B) r->∃j,pH lk L p g B (wkF lk L p g B) C r=some j:=λh=>xq n4 h;obtain⟨ak,a6,ar⟩:=af.sh;have l8:=Paired.length ar;obtain⟨l,e2,j9⟩:=af.le;have l5:l=lk:=j9.eq.trans a2.eq.symm;subst l5;have f2:∀y∈B,ArO H l ak (axE p) (szE L p) y:=λy hy=>vi a2 fo ar hy;have lo:=qC f2;have o4:B.length*4000<=2*4000:=Nat.mul_le_mul_right _ m4;refine rsq (eg (iw 3 oK.nd (rB (sh:=[true,false]))) (eg (iw 4 oK.nd (rB (sh:=[true,false]))) (eg (je (pA rfl T.aM (al (kN T.ao (fC 1)) eH)) (ie (i:=5) oK.nd) (eg (iw 6 oK.nd (pcl (AD T) hr T.dj (al (pv 0) (al (jr kd (pv 1) (pv 5)) eH)))) (mY ⟨kU (tR PySem.F.slot_dict_setdefault PySem.F.type_dict_setdefault (xx hn) (pv 3) (al (pv 6) (al (ib kI (pv 5) fe) eH)))⟩ (fa (iP (iT (ro hn) (pv 6) (pv 2) (by with_unfolding_all rfl)) (fa (je (ju (pcl (BH T) hr T.b_ (al (pv 0) (al (jr kd (pv 1) (pv 5)) eH)))) (ie (i:=7) oK.nd) (fa ⟨mG (pv 5) (oe (pv 4) (pv 7) (qH hn))⟩))) ⟨iJ⟩))))) (eg (je (ju (iR hu (pv 0) ip)) (ie (i:=8) oK.nd) (fa (je (ju (pcl (uv T) hr T.aO (al (iR hu (iR hu (pv 0) ip) (pv 8)) (al (iR hu (pv 0) ip) eH)))) (ie (i:=9) oK.nd) (fa ⟨mG (kN T.ao (fC 1)) (oe (pv 4) (jd (al (pv 8) (fC 9))) (qH hn))⟩)))) (eg (iw 10 oK.nd (@jF _ _ _ _ eH)) (eg (je (sw (oG PySem.F.plainAttrs_dict PySem.F.slot_dict_items PySem.F.type_dict_items sn (iR hu (pv 0) ip))) (lK (n:=2) rfl (iY (ie (i:=8) oK.nd) (iY (ie (i:=11) oK.nd) lN))) (fa (je (ju (pcl (uv T) hr T.aO (al (pv 11) (al (iR hu (pv 0) ip) eH)))) (ie (i:=9) oK.nd) (fa (iP (iT (ro hn) (jd (al (pv 8) (fC 9))) (pv 2) (by with_unfolding_all rfl)) (fa ⟨kU (lJ kQ nU nT nK (pv 10) (al (jd (al (jd (al (pv 8) (fC 9))) (al (tR PySem.F.slot_dict_get PySem.F.type_dict_get (Ab hn) (pv 3) (al (jd (al (pv 8) (fC 9))) (al fe eH))) (al (pQ hn (pv 4) (jd (al (pv 8) (fC 9))) (λ_ _=>rfl)) eH)))) eH))⟩) ⟨iJ⟩))))) ⟨uq (@lW _ _ _ (@pP _ _ _ _ (pv 10)))⟩)))))) ?_;refine λBD o0 c4 N=>?_;have s1:A0l H (upd H BD o0):=eh c4;have N:A3g P w [true,false] (upd H BD o0) BD []:=N;generalize upd H BD o0=H1 at s1 N;refine λTD o1 f3 W=>?_;have s2:A0l H1 (upd H1 TD o1):=eh f3;have W:A3g P w [true,false] (upd H1 TD o1) TD []:=W;generalize upd H1 TD o1=H2 at s2 W;have O:=jb N s2;have c9:=s1.trans s2;have a5:H TD=none:=s1.free f3;have BT:BD≠TD:=by obtain⟨u,e,_⟩:=kT N;exact ik e f3
  refine ii _ rfl OL _ rfl (.inl (SqL.of (c9 _ _ b6))) (ky _ rfl (by lia) (by lia) ?_)
  refine rF (n:=ys.length) (λi Z G=>∃(o5 o6 o7:zP)(kB X:List (ij×V)),Z=[Sro ab,Sro OL,Sro MD,Sro BD,Sro TD,o5,o6,o7,none,none,none,none]/\KC BD TD H2 G/\A3g P w [true,false] G BD kB/\A3g P w [true,false] G TD X/\kB.length<=i/\X.length<=i*20/\(∀r,ic kB (nk r)=(FI (wrA g C r) i).map λ(j:Nat)=>V.int ((j:Int)+1))/\∀r,ic X (nk r)=(LI (rdA l g (wkF l L p g B) C r) i).map λ(j:Nat)=>V.int (j:Int))
   (jk none none none [] [] rfl KC.refl O W (jP _) (hQ (jP _) (λr=>rfl) λr=>rfl)) ?_ ?_
  ·rintro i Z G hi I;refine nN I ?_;clear I;rintro o5 o6 o7 kB X rfl kc N W lB ⟨lT,vB,vT⟩;rw[Int.zero_add];have g4:ys[i]?=some (ys[i]'hi):=jq _;obtain⟨J,f0,c2⟩:=ja st g4;obtain⟨kk,e,si⟩:=n2 J (iZ f0);have so:=(rk a2 fo si).1.few;have n6:i*20<=20000*20:=Nat.mul_le_mul_right _ (by lia);have s4:A0l H G:=KC.bse c9 kc c4 a5;obtain⟨e3,_,_,ev,_⟩:=id c2;have aS:atI ys (i:Int)=some (.ref e3):=hY (by rw[g4,ev]);rw[ev]at c2;refine ah _ rfl (mf _ rfl _ rfl OL _ _ _ rfl rfl (SqL.of (s4 _ _ b6)) aS ⟨ab,e3,x,ol,L,nm,p,tb,g,B,J,kk,e,rfl,af.same s4,c2.kt (KT.same s4),si,λq G2 hq sq na=>?_⟩);have s5:=s4.trans sq;have O:=jb N sq;have d6:=jb W sq;have h0:=kc.same sq
   have d5:∀r,(FI (wrA g C r) (i+1))=match FI (wrA g C r) i with|some j=>some j|none=>if wrS g J=r then some i else none:=λr=>by
    show(match FI (wrA g C r) i with|some j=>some j|none=>if wrA g C r i=true then some i else none)=_
    have ei:(wrA g C r i=true)=(wrS g J=r):=by unfold wrA;rw[f0];simp
    cases FI (wrA g C r) i with
    |some j=>rfl
    |none=>simp[ei]
   have vw:=vB (wrS g J);have g2:∀r,rdA l g (wkF l L p g B) C r i=((ic (wkF l L p g B) (nk (wrS g J))).isSome&&decide (r∈rdS l g J)):=λr=>by unfold rdA;rw[f0]
   refine ah (λZ' G'=>∃(f6:List (ij×V)),Z'=[some (.ref ab),some (.ref OL),some (.ref MD),some (.ref BD),some (.ref TD),some (.int (i:Nat)),some (.ref q),o7,none,none,none,none]/\KC BD TD H2 G'/\A1x G' (nk (wrS g J)) q/\A3g P w [true,false] G' BD f6/\A3g P w [true,false] G' TD X/\f6.length<=i+1/\∀r,ic f6 (nk r)=(FI (wrA g C r) (i+1)).map λ(j:Nat)=>V.int ((j:Int)+1)) ?_ ?_
   ·refine hH _ rfl (ku BD _ _ rfl O) (iU _ rfl _ rfl _ _ rfl rfl (lj BD q _ (jf _ (nk (wrS g J)) _ _ rfl ⟨rfl,rfl,O,na,rfl⟩ (iM (by lia)) (λv hv=>?_) λc1 o1 l9=>?_)))
    ·refine ah kB rfl (ke h0 na O d6 (by lia) λr=>?_);rw[d5 r,vB r];rw[hv]at vw
     cases hF:FI (wrA g C r) i with
     |some j=>rfl
     |none=>
      by_cases er:wrS g J=r
      ·rw[er,hF]at vw;cases vw
      ·simp[er]
    ·have lp:=pX kB (nk (wrS g J)) (V.int ((i:Int)+1));obtain⟨uB,eB,tB⟩:=kT O;have e7:KB BD G2 (upd G2 BD o1):=KB.refl.upd;have kt:=e7.kt eB tB;refine ah (iL kB (nk (wrS g J)) (V.int ((i:Int)+1))) rfl (ke (h0.ka e7) (na.keeps kt) l9 (d6.keeps (λu z=>e7 _ _ BT.symm z) kt) (by lia) λr=>?_);rw[d5 r,ue];by_cases er:wrS g J=r
     ·rw[er]at vw c1⊢;rw[c1]at vw
      cases hF:FI (wrA g C r) i with
      |some j=>rw[hF]at vw;cases vw
      |none=>simp
     ·rw[fy (λz=>er (tS z).symm),vB r]
      cases hF:FI (wrA g C r) i with
      |some j=>rfl
      |none=>simp[er]
   rintro Z G3 I;refine oZ I ?_;clear I;rintro k0 rfl e8 ⟨c3,d3,c0,k4,j7⟩;have s3:A0l H G3:=KC.bse c9 e8 c4 a5
   have h8:∀{b:Bool} r,rdA l g (wkF l L p g B) C r i=b->(LI (rdA l g (wkF l L p g B) C r) (i+1))=if b=true then some i else LI (rdA l g (wkF l L p g B) C r) i:=λ{b} r h=>by show(if rdA l g (wkF l L p g B) C r i=true then some i else LI (rdA l g (wkF l L p g B) C r) i)=_;rw[h]
   refine lP _ rfl _ rfl MD q _ _ (nk (wrS g J)) (iV ⟨rfl,rfl,jb k2 s3,c3,rfl⟩ _ rfl (qW (λhz=>?_) (λhz=>?_)))
   ·refine ah _ rfl (mf _ rfl _ rfl OL _ _ _ rfl rfl (SqL.of (s3 _ _ b6)) aS (lA ab e3 x ol L (lA nm p tb T0 g (jk B J kk e l rfl (af.same s3) fo (c2.kt (KT.same s3)) si ⟨a2,?_⟩))));intro R vs G5 hR f4 g5 i0;have g8:=jb c0 f4;have i1:=jb d3 f4;obtain⟨u5,e5,t5⟩:=kT g8;have RT:R≠TD:=λz=>by subst z;obtain⟨_,e,_⟩:=kT c0;rw[hR]at e;cases e
    have k7:=Paired.length i0;refine hH R rfl ⟨_,SqL.of g5⟩ ?_
    refine kr (K:=K) (a:=R) (xs:=vs) (λj Z G6=>∃(o7:zP),Z=[Sro ab,Sro OL,Sro MD,Sro BD,Sro TD,Sio (i:Nat),Sro q,o7,none,none,none,none]/\KB TD G5 G6/\A3g P w [true,false] G6 TD (mS X ((rdS l g J).take j) (.int (i:Nat))))
     (hH _ rfl KB.refl g8) (by rintro j Z G6 _ ⟨_,_,D,_⟩;exact SqL.of (D _ _ RT g5)) ?_ ?_
    ·rintro j y Z G6 hy ⟨o7,rfl,D,c8⟩;obtain⟨r,m7,m5⟩:=ja i0 hy;obtain⟨b1,rfl,d1⟩:=pf (m5.keep (D.kt e5 t5));have lp:=rE (.int (i:Nat)) ((rdS l g J).take j) X;have lt:((rdS l g J).take j).length<=(rdS l g J).length:=by rw[iX];lia
     refine ah _ rfl (lP _ rfl _ rfl TD b1 _ _ (nk r) (hQ ⟨rfl,rfl,c8,d1,rfl⟩ (iM (by lia)) λo1 m8=>?_));refine hH _ rfl D.upd ?_;rw[iF,m7,iS,vM];exact m8
    ·rintro Z G6 ⟨o7,rfl,D,c8⟩;rw[k7,iQ]at c8;have lp:=rE (.int (i:Nat)) (rdS l g J) X;refine jk _ _ _ k0 _ rfl ((e8.same f4).kb D) (i1.keeps (λu z=>D _ _ BT z) (D.kt e5 t5)) c8 k4 (hQ (by rw[Nat.add_mul];lia) j7 λr=>?_);rw[uo,h8 r (g2 r),hz,Bool.true_and];by_cases m:r∈rdS l g J
     ·rw[ia m,ia (kz m)];rfl
     ·rw[fy m,fy (by simpa using m)];exact vT r
   ·refine jk _ _ _ k0 X rfl e8 d3 c0 k4 (hQ (by rw[Nat.add_mul];lia) j7 λr=>?_);rw[h8 r (g2 r),fy (by rw[Bool.not_eq_true]at hz;rw[hz];simp)];exact vT r
  rintro Z G I;refine nN I ?_;clear I;rintro o5 o6 o7 kB X rfl kc N W lB ⟨lT,vB,vT⟩;rw[i6]at vB vT;have sG:A0l H G:=KC.bse c9 kc c4 a5;clear kc;obtain⟨uT,eT,tT⟩:=kT W;have n8:ys.length*20<=20000*20:=Nat.mul_le_mul_right _ (by lia);have l7:ol≠TD:=ik af.ou a5;refine ii _ rfl ab _ rfl ((af.same sG).get (wZ x ol)) (hH ol rfl ⟨_,SqL.of (sG _ _ af.ou)⟩ ?_)
  refine kr (K:=K) (a:=ol) (xs:=B.map V.str) (λi Z G1=>∃(o8 o9:zP),Z=[Sro ab,Sro OL,Sro MD,Sro BD,Sro TD,o5,o6,o7,o8,o9,none,none]/\KB TD G G1/\A3g P w [true,false] G1 TD (mS X (ji (szE L p) (B.take i)) (.int (C.length:Nat))))
   (fx none none rfl KB.refl W) (by rintro i Z G1 _ ⟨_,_,_,M,_⟩;exact SqL.of (M _ _ l7 (sG _ _ af.ou))) ?_ ?_
  ·rintro i v Z G1 hv ⟨o8,o9,rfl,M,nd⟩;obtain⟨y,hy,rfl⟩:=ko hv;have ym:=iZ hy;have ay:=f2 y ym;obtain⟨b,eb,hb⟩:=ay.get;have s3:A0l H G1:=KB.same sG M a5;have i8:=af.same s3;refine ii _ rfl ab _ rfl (i8.get (vD x ol)) (ii _ rfl x.sh _ rfl (.inl (fx ak (Sum.inr y) (.inl (s3 _ _ a6)) rfl eb.symm)) (ii _ rfl ab _ rfl (i8.get (sP x ol)) (jk b x.ld (axE p y) l (szE L p y) rfl (s3 _ _ hb) (s3 _ _ e2) ay.si ay.go λq G2 hq f9 cs=>?_)));obtain⟨ps,i4,tp⟩:=cs.ex;have g0:=jb nd f9;obtain⟨u1,e1,t1⟩:=kT g0;have qT:q≠TD:=λz=>by subst z;obtain⟨_,e,_⟩:=kT nd;rw[hq]at e;cases e
   refine hH q rfl ⟨_,SqL.of i4⟩ ?_;have p2:=qC λy (hy:y∈B.take i)=>f2 y (nw hy);have n9:(B.take i).length*4000<=2*4000:=Nat.mul_le_mul_right _ (by rw[iX];lia);have p4:=ay.go.len;have k5:=f9 _ _ (s3 _ _ b6);have OT:OL≠TD:=ik b6 a5
   refine kr (K:=K) (a:=q) (xs:=ps.map V.ref) (λj Z G3=>∃(o9:zP),Z=[Sro ab,Sro OL,Sro MD,Sro BD,Sro TD,o5,o6,o7,Sso y,o9,none,none]/\KB TD G2 G3/\A3g P w [true,false] G3 TD (mS X (ji (szE L p) (B.take i)++((iE (szE L p y)).take j).map λc=>(y,c)) (.int (C.length:Nat))))
    (hH _ rfl KB.refl (by simpa using g0)) (by rintro j Z G3 _ ⟨_,_,a4,_⟩;exact SqL.of (a4 _ _ qT i4)) ?_ ?_
   ·rintro j v Z G3 hv ⟨o9,rfl,a4,a3⟩;obtain⟨pc,c7,rfl⟩:=ko hv;obtain⟨c,hc,e9⟩:=tp.get c7;have g7:G3 pc=some (.tup (c.map V.int)):=a4.kt e1 t1 _ _ e9;have lp:=rE (.int (C.length:Nat)) (ji (szE L p) (B.take i)++((iE (szE L p y)).take j).map λc=>(y,c)) X;have lt:((iE (szE L p y)).take j).length<=(iE (szE L p y)).length:=by rw[iX];lia
    rw[jc,hA]at lp;refine ah _ rfl (lx OL _ rfl (.inl (SqL.of (a4 _ _ OT k5))) _ rfl (jg _ rfl _ rfl (iq rfl) λb1 e6=>?_));obtain⟨G4,sb,h7,b8⟩:=nH (o:=.tup [.str y,.ref pc]) e6
    try rw[b8]
    have na:A1x G4 (nk (y,c)) b1:=om h7 (by rw[List.map_map];exact sb _ _ g7);rw[i6];refine km TD b1 (mi _ _ (nk (y,c)) ⟨rfl,rfl,jb a3 sb,na,rfl⟩ (iM (by lia)) λo2 n0=>?_);refine hH _ rfl ((a4.trans (KB.of sb)).upd) ?_;rw[iF,hc,iS,iK,<-nR];have:=vM X (ji (szE L p) (B.take i)++((iE (szE L p y)).take j).map λc=>(y,c)) (y,c) (.int (C.length:Nat));show A3g P w [true,false] _ TD (mS X ((ji (szE L p) (B.take i)++((iE (szE L p y)).take j).map λc=>(y,c))++[(y,c)]) (.int (C.length:Nat)));rw[this];exact n0
   ·rintro Z G3 ⟨o9,rfl,a4,a3⟩;rw[hA,tp.len,iQ]at a3;refine fx _ _ rfl ((M.trans (KB.of f9)).trans a4) ?_
    have:ji (szE L p) (B.take (i+1))=ji (szE L p) (B.take i)++(iE (szE L p y)).map λc=>(y,c):=by unfold ji;rw[iF,hy,iS,List.flatMap_append,List.flatMap_singleton]
    rw[this];exact a3
  rintro Z G1 ⟨o8,o9,rfl,M,b7⟩;rw[hA,iQ]at b7;have s3:A0l H G1:=KB.same sG M a5;have i7:A3g P w [true,false] G1 BD kB:=N.keeps (λu z=>M _ _ BT z) (M.kt eT tT)
  have vL:∀r,ic (mS X (ji (szE L p) B) (.int (C.length:Nat))) (nk r)=(pH l L p g B (wkF l L p g B) C r).map λ(j:Nat)=>V.int (j:Int):=λr=>by
   rw[uo];unfold pH;by_cases m:r∈ji (szE L p) B
   ·rw[ia m,ia m];rfl
   ·rw[fy m,fy m];exact vT r
  generalize mS X (ji (szE L p) B) (.int (C.length:Nat))=kL at b7 vL;clear M vT N
  have vF:∀r,(ic kB (nk r)).getD (.int 0)=.int (kH g C r):=λr=>by rw[vB r];unfold kH;cases FI (wrA g C r) C.length<;>rfl
  have m6:∀r,InW (wkF l L p g B) r->ic kL (nk r)=some (.int (lsW l L p g B C r)):=λr h=>by obtain⟨j,hj⟩:=ls h;rw[vL r];unfold lsW mD;rw[hj];rfl
  clear vB vL;refine⟨iq rfl,λLL e0=>?_⟩;have s4:A0l G1 (upd G1 LL (.lst [])):=eh e0;have f5:upd G1 LL (.lst []) LL=some (.lst ([]:zM)):=dh;generalize upd G1 LL (.lst [])=G2 at s4 f5;have d9:=s3.trans s4;have f1:H LL=none:=s3.free e0;have S:=d9 _ _ a6;refine me _ rfl ab _ rfl ((af.same d9).get (vD x ol)) (.inr (.inr (.inl ⟨rfl,.inl ⟨_,S⟩⟩))) x.sh _ rfl rfl S ⟨.inl ⟨_,rfl⟩,λvw h3=>?_⟩;have av:x.sh≠vw:=ik S h3;refine jv vw x.sh _ rfl dh (by rw[dV av];exact S) (.inl (ah ak rfl λo1=>?_));obtain⟨Gf,hGf⟩:∃Gf,Gf=upd (upd G2 vw (mO vw x.sh)) x.sh (.frz o1 (.dK ak)):=⟨_,rfl⟩;rw[<-hGf];have fz:Gf x.sh=some (.frz o1 (.dK ak)):=by rw[hGf];exact dh
  have a9:∀{b:zW}{u:HO},b≠x.sh->G2 b=some u->Gf b=some u:=λn e=>by rw[hGf,dV n,dV (ik e h3)];exact e
  have LX:LL≠x.sh:=λz=>by subst z;rw[f1]at a6;cases a6
  have nL:∀{b:zW}{u:HO},H b=some u->b≠LL:=λe=>ik e f1;have up:∀{b:zW}{u:HO},b≠x.sh->H b=some u->Gf b=some u:=λn e=>a9 n (d9 _ _ e);have l6:KT G2 Gf:=λb xs e=>a9 (ir e S (by intro z;cases z)) e
  have d8:∀{a:zW}{kv:List (ij×V)},A3g P w [true,false] G1 a kv->A3g P w [true,false] Gf a kv/\a≠LL:=λnd=>by
   have a3:=jb nd s4;refine⟨a3.keeps (λu z=>a9 (λq=>?_) z) l6,?_⟩
   ·subst q;obtain⟨_,e,_⟩:=a3;rw[S]at e;cases e
   ·obtain⟨u,e,_⟩:=kT nd;exact ik e e0
  obtain⟨j1,ML⟩:=d8 (jb k2 s3);obtain⟨d4,BL⟩:=d8 i7;obtain⟨i5,TL⟩:=d8 b7;have c5:∀{G':Hp}{a:zW}{kv:List (ij×V)},KB LL Gf G'->A3g P w [true,false] Gf a kv->a≠LL->A3g P w [true,false] G' a kv:=λM nd n=>nd.keeps (λu z=>M _ _ n z) λb xs z=>M _ _ (ir z (a9 LX f5) (by intro z;cases z)) z;have l3:ab≠x.sh:=af.n1;have l1:x.ld≠x.sh:=af.n3.symm;have k6:∀{G':Hp},KB LL Gf G'->B0p G' ab (.str "lengths") (some (.ref x.ld)):=λM=>.inl (fx _ (Sum.inr "lengths") (.inl (M _ _ (nL af.d) (up l3 af.d))) rfl ((sP x ol).symm))
  refine uj (L:=ak.map λq=>(kV q.1,q.2)) (λi Z G=>∃(o8 o9 d7:zP)(vs:zM),Z=[Sro ab,Sro OL,Sro MD,Sro BD,Sro TD,o5,o6,o7,o8,o9,Sro LL,d7]/\KB LL Gf G/\G LL=some (.lst vs)/\C5e G (kH g C) (lsW l L p g B C) vs (jz (kY (wkF l L p g B) (szE L p)) (p.take i)))
   (jo _ _ none [] rfl KB.refl (a9 LX f5) .nil) (by (rintro i Z G I;refine pE I ?_;clear I;rintro _ _ _ ⟨_,_,M,_⟩);exact M _ _ LX.symm fz) ?_ ?_
  ·rintro i kx vx qq Z G hx hq I;refine jy I ?_;clear I;rintro o8 o9 d7 vs rfl M hL b9;rw[jh]at hx;obtain⟨⟨k',v⟩,hk,e⟩:=oP.mp hx;cases e;refine oZ (ja ar hk) ?_;rintro e he ek ⟨b,ev,_,hb⟩;have ek:k'=Sum.inr e.1:=ek;subst ek;have ev:v=.ref b:=ev;subst ev;have hb:H b=some (.lst (e.2.map V.str)):=hb;have em:=iZ he;have hi:i<p.length:=(iG.mp he).1;have e4:=fo.eo.ax e em;have p3:=e4.few;have ge:=tY a2 e4.sub (by lia) (fo.eo.pr e em);have m2:szE L p e.1=e.2.map L:=by unfold szE;rw[rn fo.eo.nd em]
   have sq:A0l G (upd G qq (.tup [kV (Sum.inr e.1),.ref b])):=eh hq;have j4:upd G qq (.tup [kV (Sum.inr e.1),.ref b]) qq=some (.tup [.str e.1,.ref b]):=dh;generalize upd G qq (.tup [kV (Sum.inr e.1),.ref b])=G3 at sq j4;have d2:=M.trans (KB.of sq);have g9:=sq _ _ hL;have i3:=b9.kt (KT.same sq);have bX:b≠x.sh:=ir hb a6 (by intro z;cases z)
   have p0:vs.length<=i*60:=by
    have h1:=Paired.length b9;have h2:=j2 (p.take i) λ_ h=>nw h;rw[iX]at h2;have:min i p.length*60<=i*60:=Nat.mul_le_mul_right _ (by lia)
    lia
   have n7:i*60<=100*60:=Nat.mul_le_mul_right _ (by lia);have p5:=ge.len;refine mQ qq _ rfl (SqT.of j4) rfl _ _ rfl _ _ rfl rfl ?_;refine iU _ rfl _ rfl ab _ rfl (k6 d2) (jk b x.ld e.2 l (e.2.map L) rfl (d2 _ _ (nL hb) (up bX hb)) (d2 _ _ (nL e2) (up l1 e2)) (qp a2 e4.sub) ge λq G4 g1 f7 cs=>?_);obtain⟨ps,j0,tp⟩:=cs.ex;have l4:=tp.len;have h9:=d2.trans (KB.of f7);have i2:=f7 _ _ g9;have qL:q≠LL:=λz=>by subst z;rw[g9]at g1;cases g1
   refine hH q rfl ⟨_,SqL.of j0⟩ ?_
   refine kr (K:=K) (a:=q) (xs:=ps.map V.ref) (λj Z G5=>∃(o9:zP)(U:zM),Z=[Sro ab,Sro OL,Sro MD,Sro BD,Sro TD,o5,o6,o7,Sso e.1,o9,Sro LL,Sro b]/\KB LL G4 G5/\G5 LL=some (.lst U)/\U.length<=vs.length+j/\C5e G5 (kH g C) (lsW l L p g B C) U (jz (kY (wkF l L p g B) (szE L p)) (p.take i)++(((iE (e.2.map L)).take j).filter λc=>(ic (wkF l L p g B) (nk (e.1,c))).isSome).map λc=>(e.1,c)))
    (jA _ vs rfl KB.refl i2 (ig _) (by simpa using i3.kt (KT.same f7))) (by rintro j Z G5 _ ⟨_,_,_,a0,_⟩;exact SqL.of (a0 _ _ qL j0)) ?_ ?_
   ·rintro j v Z G5 hv I;refine jC I ?_;clear I;rintro o9 U rfl a0 b0 ⟨k8,a1⟩;obtain⟨pc,c7,rfl⟩:=ko hv;obtain⟨c,hc,e9⟩:=tp.get c7;have hj:j<ps.length:=(iG.mp c7).1;have h4:KT G4 G5:=λd xs z=>a0 _ _ (ir z i2 (by intro z;cases z)) z;have a7:G5 pc=some (.tup (c.map V.int)):=h4 _ _ e9;have j3:=h9.trans a0;refine jg _ rfl _ rfl (iq rfl) λb1 e6=>?_;have Y:A0l G5 (upd G5 b1 (.tup [.str e.1,.ref pc])):=eh e6;have d1:A1x (upd G5 b1 (.tup [.str e.1,.ref pc])) (nk (e.1,c)) b1:=om dh (by rw[List.map_map];exact Y _ _ a7);generalize upd G5 b1 (.tup [.str e.1,.ref pc])=G6 at Y d1;have D:=j3.trans (KB.of Y);refine ah _ rfl (lA MD b1 _ _ (nk (e.1,c)) (iV ⟨rfl,rfl,c5 D j1 ML,d1,rfl⟩ _ rfl (qW (λhz=>?_) (λhz=>?_))))
    ·have m9:=Y _ _ b0;refine hH _ rfl (.inl (jI rfl _ (SqL.of m9))) (jg _ rfl _ rfl (iq rfl) λb2 m0=>?_);obtain⟨G7,j8,j6,b8⟩:=nH (o:=.tup [.str e.1,.ref pc]) m0
     try rw[b8]
     have g3:=D.trans (KB.of j8);refine hH _ rfl (ku BD _ _ rfl (c5 g3 d4 BL)) (jg _ rfl _ rfl (iq rfl) λb3 l0=>?_);have a8:A0l G7 (upd G7 b3 (.tup [.str e.1,.ref pc])):=eh l0;have f8:=Y.trans j8;have c3:A1x (upd G7 b3 (.tup [.str e.1,.ref pc])) (nk (e.1,c)) b3:=om dh (by rw[List.map_map];exact a8 _ _ (f8 _ _ a7));generalize upd G7 b3 (.tup [.str e.1,.ref pc])=G8 at a8 c3;have k3:=g3.trans (KB.of a8);refine lA BD b3 _ _ (nk (e.1,c)) (lx _ _ rfl ⟨rfl,rfl,c5 k3 d4 BL,c3,rfl⟩ _ rfl (jg _ rfl _ rfl (iq rfl) λb4 n5=>?_));have d0:A0l G8 (upd G8 b4 (.tup [.str e.1,.ref pc])):=eh n5;have l2:=f8.trans a8;have i9:A1x (upd G8 b4 (.tup [.str e.1,.ref pc])) (nk (e.1,c)) b4:=om dh (by rw[List.map_map];exact d0 _ _ (l2 _ _ a7));generalize upd G8 b4 (.tup [.str e.1,.ref pc])=G9 at d0 i9;have m1:=k3.trans (KB.of d0);refine km TD b4 (jo _ _ (nk (e.1,c)) _ ⟨rfl,rfl,c5 m1 i5 TL,i9,rfl⟩ (m6 _ hz) (iq rfl) λb5 k9=>?_);rw[vF (e.1,c)];obtain⟨j5,m3,g6,b8⟩:=nH (o:=.tup [.ref b2,.int (kH g C (e.1,c)),.int (lsW l L p g B C (e.1,c))]) k9
     try rw[b8]
     have h6:=(a8.trans d0).trans m3;have c6:=f8.trans h6;have h5:=c6 _ _ b0;have kL:KT j5 (upd j5 LL (.lst (U++[.ref b5]))):=KT.at h5 (by intro xs z;cases z);refine jX LL _ _ rfl rfl h5 (iM (by lia)) ?_;refine jA _ (U++[.ref b5]) rfl ((a0.trans (KB.of c6)).upd) dh (by rw[jc,tf];lia) ?_;rw[iF,hc,iS,List.filter_append,qr (f:=λc=>(ic (wkF l L p g B) (nk (e.1,c))).isSome) hz,iK,<-nR];exact jZ ((a1.kt (KT.same c6)).kt kL) (.cons (jv b5 b2 pc rfl (kL _ _ g6) (kL _ _ (h6 _ _ j6)) (kL _ _ (c6 _ _ a7))) .nil)
    ·refine jA _ U rfl (a0.trans (KB.of Y)) (Y _ _ b0) (by lia) ?_;rw[iF,hc,iS,List.filter_append,qm (f:=λc=>(ic (wkF l L p g B) (nk (e.1,c))).isSome) hz,nS];exact a1.kt (KT.same Y)
   ·rintro Z G5 I;refine jC I ?_;clear I;rintro o9 U rfl a0 b0 ⟨k8,a1⟩;rw[hA,l4,iQ]at a1;refine jo _ _ _ U rfl (h9.trans a0) b0 ?_
    have:jz (kY (wkF l L p g B) (szE L p)) (p.take (i+1))=jz (kY (wkF l L p g B) (szE L p)) (p.take i)++(kY (wkF l L p g B) (szE L p) e.1).map λc=>(e.1,c):=by unfold jz;rw[iF,he,iS,List.flatMap_append,List.flatMap_singleton]
    rw[this];unfold kY;rw[m2];exact a1
  ·rintro Z G I;refine jy I ?_;clear I;rintro o8 o9 d7 vs rfl M hL b9;rw[hA,l8,iQ]at b9;have k1:=M _ _ LX.symm fz;refine ku x.sh o1 _ k1 (kE (.inl ⟨_,rfl⟩) (λo' u' z=>by have z:H x.sh=some (.frz o' u'):=z;rw[a6]at z;cases z) _ rfl ?_);refine k LL vs _ f1 (λb u z=>?_) (by rw[dV LX];exact hL) (b9.kt λb xs z=>by rw[dV (ir z k1 (by intro z;cases z))];exact z);by_cases hbs:b=x.sh
   ·subst hbs;rw[a6]at z;cases z;exact dh
   ·rw[dV hbs];exact M _ _ (nL z) (up hbs z)
inductive Ao(P:yB)(w:yD)(vs:zM)(H:Hp)(Q:VK):Prop
 |mk (ab OL MD:zW) (x:Abt) (ol:zW) (L:zR) (nm:zC) (es:zB) (tb:zC) (T:Nat) (rows:List LnM) (os:zC) (lk:zJ) (ys:zM) (ss:List Stp) (_:vs=[.ref ab,.ref OL,.ref MD]) (_:AbF H ab x ol L nm es tb rows os) (_:mN L nm es tb T rows os) (_:B2d lk L nm) (_:H OL=some (.lst ys)) (_:A2e H ys ss) (_:oC L rows ss) (_:ss.length<=20000) (_:∀s∈iu (rows.map (iA L)) rows.length,s∈ss) (_:A3g P w [true,false] H MD (wkF lk L es rows os))
  (_:CrQ H Q (kH rows ss) (lsW lk L es rows os ss) (mkW lk L es rows os) ss.length):Ao P w vs H Q
def Ef(P:yB)(w:yD):Sp:=λa H Q _=>Ao P w a H Q
def qv(r:Str×List Int):PyData:=.tuple [.str r.1,pK r.2]
def pN(rs:List (Str×List Int)):PyData:=.list (rs.map qv)
theorem yJ:∀rs:List (Str×List Int),(∀r∈rs,PyData.strOk r.1=true)->PyData.depthAll (rs.map qv)<=2/\PyData.canLayAll0 (rs.map qv)=true/\PyData.eqvAll (rs.map qv) (rs.map qv)=true
 | [],_=>(hQ (by simp[PyData.depthAll]) rfl (by simp[PyData.eqvAll]))
 |s::r,h=>by
  obtain⟨i,g,a⟩:=yJ r λy e=>h y (.tail _ e);have d:=h s (.head _);obtain⟨f,b,c⟩:=vu s.2;refine hQ ?_ ?_ ?_
  ·simp only [iN,PyData.depthAll,qv,pK,PyData.depth,f];lia
  ·simp[qv,pK,PyData.canLayAll0,PyData.canLay0,g,b,d]
  ·rw[iN,PyData.eqvAll,a,qv,PyData.eqv];simp[PyData.eqvAll,PyData.eqv,pK,c]
theorem Af{ys:zM}(h:H b=some (.lst ys))(rd:Rds H ys rs):Rep H (.ref b) (pN rs):=by
 refine .lst h ?_;clear h;unfold Rds at rd
 induction rd with
 |nil=>exact .nil
 |cons r _ ih=>obtain⟨p,q,rfl,a,c⟩:=r;exact .cons (.tup a (.cons (.str _) (.cons (.tup c (vE _)) .nil))) ih
inductive An(vs:zM)(H:Hp)(Q:VK):Prop|mk (q1 q2 C1 C2:zW) (i:Nat) (c1 c2:zM) (rs:List (Str×List Int)) (_:vs=[.ref q1,.ref q2]) (_:H q1=some (.tup [.int (i:Nat),.ref C1])) (_:H C1=some (.lst c1)) (_:Rds H c1 rs) (_:H q2=some (.tup [.int (i:Nat),.ref C2])) (_:H C2=some (.lst c2)) (_:Rds H c2 rs) (_:∀r∈rs,PyData.strOk r.1=true) (_:Q (.bl true) H):An vs H Q
def Ex:Sp:=λa H Q _=>An a H Q
theorem Hc(T:Txt K mg t):FO P w base T.dt 1 Ex:=by
 refine T.dt.F.ok xD λ_ A _ s H _ Q E J h=>?_
 ·obtain⟨c,l,C1,C2,i,L,R,f,rfl,d,b,g,C,o,u,M,k⟩:=h;refine rsq (eg (iP (PW.pt (pe (qA (kZ (jS md (by rfl) T.a4 lS (al (pv 0) (al (lX (v:=V.ty "tuple") rfl T.aC nV rfl) eH))))) (pe (iT tN (kN T.ao (fC 0)) fe) (rq (qA (kZ (jS md (by rfl) T.a4 lS (al (pit 0) (al (lX (v:=V.ty "list") rfl T.bt pG rfl) eH))))))))) (fa (im nY)) ⟨iJ⟩) (eg (iP (PW.pt (pe (qA (kZ (jS md (by rfl) T.a4 lS (al (pit 0) (al (lX (v:=V.ty "int") rfl T.gQ PyProof.Rows.boot_int rfl) eH))))) (pe (kZ (jS md (by rfl) T.a4 lS (al (pit 0) (al (lX (v:=V.ty "bool") rfl T.gl PyProof.Rows.boot_bool rfl) eH)))) (rq (iT tN (pit 0) (pit 1)))))) (fa (im nY)) ⟨iJ⟩) (eg (je (ju (pit 0)) (ie (i:=2) xD.nd) (eg (iP (PW.pt (pe (qA (kZ (jS md (by rfl) T.a4 lS (al (pv 2) (al (lX (v:=V.ty "tuple") rfl T.aC nV rfl) eH))))) (pe (iT tN (kN T.ao (fC 2)) fe) (rq (qA (kZ (jS md (by rfl) T.a4 lS (al (pit 2) (al (lX (v:=V.ty "tuple") rfl T.aC nV rfl) eH))))))))) (fa (im nY)) ⟨iJ⟩) (fa (je (yY (pit 2)) (ie (i:=3) xD.nd) (fa (iP (PW.pt (pe (qA (kZ (jS md (by rfl) T.a4 lS (al (pv 3) (al (lX (v:=V.ty "int") rfl T.gQ PyProof.Rows.boot_int rfl) eH))))) (rq (kZ (jS md (by rfl) T.a4 lS (al (pv 3) (al (lX (v:=V.ty "bool") rfl T.gl PyProof.Rows.boot_bool rfl) eH))))))) (fa (im nY)) ⟨iJ⟩)))))) (fa (im (D7 (yT J.units) (pit 0) (pit 1))))))) ?_;refine kK _ rfl _ _ _ _ rfl (lE.tup d) (pq "tuple") true rfl (jx ?_);refine ii _ rfl c _ rfl (.inr (SqT.of d)) (iV rfl _ rfl (jx ?_));refine i12 _ rfl c _ _ _ rfl rfl (SqT.of d) (hY (j:=1) rfl) (jo _ _ _ _ rfl (lE.lst b) (pq "list") (ah true rfl (jx ?_)));refine i12 _ rfl c _ _ _ rfl rfl (SqT.of d) (hY (j:=0) rfl) (jo _ _ _ _ rfl (lE.int _) (pq "int") (ah true rfl (jx ?_)));refine i12 _ rfl c _ _ _ rfl rfl (SqT.of d) (hY (j:=0) rfl) (jo _ _ _ _ rfl (lE.int _) Ca (ah false rfl (jx ?_)));refine i12 _ rfl c _ _ _ rfl rfl (SqT.of d) (hY (j:=0) rfl) (jj _ rfl l _ _ _ rfl rfl (SqT.of C) (hY (j:=0) rfl) rfl _ rfl (u9 (λh=>absurd rfl h) (λ_=>?_)));refine i12 _ rfl c _ _ _ rfl rfl (SqT.of d) (hY (j:=1) rfl) (hH C1 rfl ⟨_,SqL.of b⟩ ?_);refine kr (K:=K) (a:=C1) (xs:=L) (λj Z G=>∃(B e:zP),Z=[Sro c,Sro l,B,e]/\H=G) (jV none none rfl rfl) (by rintro j Z G _ ⟨_,_,_,rfl⟩;exact SqL.of b) ?_ ?_
  ·rintro j v Z G y ⟨B,e,rfl,rfl⟩;obtain⟨r,N,p,q,rfl,n,x⟩:=ja g y;refine kK _ rfl _ _ _ _ rfl (lE.tup n) (pq "tuple") true rfl (jx ?_);refine ii _ rfl p _ rfl (.inr (SqT.of n)) (iV rfl _ rfl (jx ?_));refine i12 _ rfl p _ _ _ rfl rfl (SqT.of n) (hY (j:=1) rfl) (jo _ _ _ _ rfl (lE.tup x) (pq "tuple") (ah true rfl (jx ?_)));refine i12 _ rfl p _ _ _ rfl rfl (SqT.of n) (hY (j:=1) rfl) (hH q rfl ⟨_,SqT.of x⟩ ?_);refine D8 (K:=K) (a:=q) (xs:=r.2.map V.int) (λm Z G=>∃e:zP,Z=[Sro c,Sro l,Sro p,e]/\H=G) (ah _ rfl rfl) (by rintro m Z G _ ⟨_,_,rfl⟩;exact SqT.of x) ?_ ?_
   ·rintro m v Z G y ⟨e,rfl,rfl⟩;obtain⟨z,_,rfl⟩:=ko y;refine kK _ rfl _ _ _ _ rfl (lE.int z) (pq "int") true rfl (jx ?_);exact kK _ rfl _ _ _ _ rfl (lE.int z) Ca false rfl (jx (ah _ rfl rfl))
   ·rintro Z G ⟨e,rfl,rfl⟩;exact jV _ _ rfl rfl
  ·rintro Z G ⟨B,e,rfl,rfl⟩;obtain⟨S,O,I⟩:=yJ f M;have D:SeqAt.shaped (pN f)=true:=vJ (by simp[pN,PyData.canLay0,O]) (by simp only [pN,PyData.depth];lia);refine i12 _ rfl c _ _ _ rfl rfl (SqT.of d) (hY (j:=1) rfl) (i12 _ rfl l _ _ _ rfl rfl (SqT.of C) (hY (j:=1) rfl) (jA (pN f) (pN f) (Af b g) (Af o u) D D ?_));rw[show PyData.eqv (pN f) (pN f)=true by rw[pN,PyData.eqv];exact I];exact k
theorem Ft(T:Txt K mg t):FO P w base T.eK 15 (Ef P w):=by
 refine T.eK.F.ok uh λ_ A _ s H _ Q E hr h=>?_
 ·obtain⟨ab,OL,MD,x,ol,L,nm,es,tb,T0,l,os,lk,ys,ss,rfl,af,fo,a3,a0,st,b0,a7,b1,b3,k⟩:=h;have a6:=Paired.length st;have b5:=fo.eo.few;have ml:=xj a3 fo es λ_ h=>h;refine rsq (eg (iw 3 uh.nd (pcl (HM T) hr T.c_ (al (pv 0) (al (pv 1) (fC 2))))) (eg (iw 4 uh.nd (@jF _ _ _ _ eH)) (eg (je (pA rfl T.aM (al (ib kI (kN T.ao (fC 1)) fe) eH)) (ie (i:=5) uh.nd rfl (.inr rfl)) (fa ⟨kU (lJ kQ nU nT nK (pv 4) (al (kN T.ao (al (vC (N':=["_law_life","_law_gap"]) (ix:=(List.replicate 1 none++[some 5])) rfl (qI (x:="_law_gap") rfl rfl rfl (by decide+kernel) (by decide+kernel)) (qN (N0:=["_law_life"]) rfl (.inl rfl) (by walk_at"ix")) (ju (pv 3)) (λ_ _ _ _=>(ie (i:=0) Ix)) (λ_ _ _ _=>(PW.pt (pO (iT qx (jr (sg (K:=K) rfl) (pv 0) fe) (pv 1)) (qF (iT qx (pv 1) (jr (sg (K:=K) rfl) (pv 0) fe)))))) (λ_ _ _ _=>(pv 0))) eH)) eH))⟩)) (eg ⟨@jM _ _ 6 _ _ _ _ uh.nd rfl (.inr rfl) (lJ kQ PySem.F.slot_list_index PySem.F.type_list_index Bc (pv 4) (al (jS (Bh rfl) (by rfl) T.ft PyProof.Rows.boot_max (fC 4)) eH)) rfl (.inl rfl)⟩ (fa (im (jd (al (pv 6) (al (vC (N':=["_law_life","_law_at"]) (ix:=(List.replicate 1 none++[some 6])) rfl (qI (x:="_law_at") rfl rfl rfl (by decide+kernel) (by decide+kernel)) (qN (N0:=["_law_life"]) rfl (.inl rfl) (by walk_at"ix")) (ju (pv 3)) (λ_ _ _ _=>(ie (i:=0) Ig)) (λ_ _ _ _=>(PW.pt (pO (iT qx (jr (sg (K:=K) rfl) (pv 0) fe) (pv 1)) (qF (iT qx (pv 1) (jr (sg (K:=K) rfl) (pv 0) fe)))))) (λ_ _ _ _=>(jr (sg (K:=K) rfl) (pv 0) fe))) eH))))))))) ?_;refine ah _ rfl (jB _ rfl _ rfl ⟨ab,OL,MD,x,ol,L,nm,es,tb,T0,l,os,lk,ys,ss,rfl,af,fo,a3,a0,st,b0,a7,b1,b3,λLL vs H1 b4 s1 a1 B=>?_⟩);generalize hf:kH l ss=f at B k;generalize hg:lsW lk L es l os ss=g at B k;generalize hrs:mkW lk L es l os=rs at B k;have b6:rs.length<=6000:=by rw[<-hrs];have:(mkW lk L es l os).length<=es.length*60:=ml;lia
  have a4:=Paired.length B;clear hf hg hrs ml;refine⟨iq rfl,λCL W=>?_⟩;have d:A0l H1 (upd H1 CL (.lst [])):=eh W;have O:upd H1 CL (.lst []) CL=some (.lst ([]:zM)):=dh;generalize upd H1 CL (.lst [])=H2 at d O;have a5:=s1.trans d;have a2:=d _ _ a1;have LC:LL≠CL:=ik a1 W;have R:=B.kt (KT.same d);refine ii _ rfl OL _ rfl (.inl (SqL.of (a5 _ _ a0))) (fx _ _ rfl rfl (ky _ rfl (by lia) (by lia) ?_));rw[show((ys.length:Int)+1).toNat=ys.length+1 by lia]
  refine rF (n:=ys.length+1) (λi Z G=>∃(o5:zP)(N:zI),Z=[Sro ab,Sro OL,Sro MD,Sro LL,Sro CL,o5,none]/\KB CL H2 G/\G CL=some (.lst (N.map V.int))/\N=(List.range i).map λj=>qZ f g rs j)
   (iO none [] rfl KB.refl O rfl) ?_ ?_
  ·rintro i Z G hi ⟨o5,N,rfl,U,hC,S⟩;rw[Int.zero_add];have I:=U _ _ LC a2;have X:KT H2 G:=λb xs z=>U _ _ (ir z O (by intro z;cases z)) z;have J:=R.kt X;have b7:N.length=i:=by rw[S,hA,List.length_range]
   refine hH _ rfl (.inl (jI rfl _ (SqL.of hC))) (jg _ rfl LL rfl ⟨_,SqL.of I⟩ λD hD=>?_);refine vV (K:=K) (a:=LL) (D:=D) (xs:=vs) (λj u o=>A0l G o/\o D=some (.lst u)/\u.length=((rs.take j).filter (kA f g i)).length) (hQ (eh hD) dh rfl) (by rintro j u o ⟨d,_⟩;exact SqL.of (d _ _ I)) ?_ ?_
   ·rintro j v u o hv ⟨d,e,lz⟩;obtain⟨r,C,p,q,c,rfl,e1,e2,e3⟩:=ja J hv;have hj:=(iG.mp hv).1
    have b2:u.length<=j:=by
     have M:=List.length_filter_le (kA f g i) (rs.take j);rw[iX]at M
     lia
    have Y:f r<=(i:Int)/\(i:Int)<=g r->((rs.take (j+1)).filter (kA f g i)).length=((rs.take j).filter (kA f g i)).length+1:=λh=>by rw[iF,C,iS,List.filter_append,qr (f:=kA f g i) (x:=r) (by unfold kA;rw[kz h.1,kz h.2];rfl),jc];rfl
    have no:¬(f r<=(i:Int)/\(i:Int)<=g r)->((rs.take (j+1)).filter (kA f g i)).length=((rs.take j).filter (kA f g i)).length:=λh=>by rw[iF,C,iS,List.filter_append,qm (f:=kA f g i) (x:=r) (λy=>h (by unfold kA at y;rw[qf]at y;exact⟨of_decide_eq_true y.1,of_decide_eq_true y.2⟩)),nS]
    refine⟨⟨rfl,True.intro⟩,(i12 _ rfl p _ _ _ rfl rfl (SqT.of (d _ _ e1)) (hY (j:=1) rfl) (ah _ rfl (lx _ _ rfl rfl _ rfl (nj (λM=>?_) (λM=>?_)))))⟩
    ·refine mf _ rfl _ rfl p _ _ _ rfl rfl (SqT.of (d _ _ e1)) (hY (j:=2) rfl) (lx _ _ rfl rfl _ rfl (iC (λh2=>?_) (λh2=>?_)))
     ·exact⟨_,(ke rfl e (iM (by lia)) (jn d hD) dh (by rw[Y ⟨of_decide_eq_true M,h2⟩,jc,lz];rfl))⟩
     ·exact hQ d e (by rw[no (λz=>h2 z.2)];exact lz)
    ·exact jx (hQ d e (by rw[no (λz=>M (kz z.1))];exact lz))
   ·rintro u o ⟨d,e,lz⟩;rw[a4,iQ]at lz;have a8:=d _ _ hC;refine fx D _ rfl (.inl (SqL.of e)) (jX CL _ _ rfl rfl a8 (iM (by rw[hA];lia)) ?_);refine iO _ (N++[qZ f g rs i]) rfl ((U.trans (KB.of d)).upd) ?_ ?_
    ·rw[dh,iK];unfold qZ;rw[<-lz];rfl
    ·rw[List.range_succ,iK,<-S];rfl
  rintro Z G ⟨o5,N,rfl,U,hC,S⟩;have S:N=pd f g rs ss.length:=by rw[S,a6]
  have sG:A0l H G:=KB.same a5 U (s1.free W);have I:=U _ _ LC a2;have X:KT H2 G:=λb xs z=>U _ _ (ir z O (by intro z;cases z)) z;have J:=R.kt X;have lc:N.length=ss.length+1:=by rw[S,hA,List.length_range]
  clear U;refine lQ _ rfl (.inl (jI rfl _ (SqL.of hC))) _ rfl (iO CL _ rfl (SqL.of hC) (by lia) λm hm a9=>?_);refine jX CL _ m rfl rfl hC hm ?_;have mx:C4u N (N.idxOf m):=(hH m hm a9 rfl);rw[S]at mx;rw[S];generalize (pd f g rs ss.length).idxOf m=gp at mx;refine ah _ rfl (jg _ rfl LL rfl ⟨_,SqL.of I⟩ λD hD=>?_);refine vV (K:=K) (a:=LL) (D:=D) (xs:=vs) (λj u o=>A0l G o/\o D=some (.lst u)/\Rds o u (np f g (rs.take j) gp)) (hQ (eh hD) dh .nil) (by rintro j u o ⟨d,_⟩;exact SqL.of (d _ _ I)) ?_ ?_
  ·rintro j v u o hv ⟨d,e,rd⟩;obtain⟨r,C,p,q,c,rfl,e1,e2,e3⟩:=ja J hv;have hj:=(iG.mp hv).1
   have b2:u.length<=j:=by
    have h0:u.length=((rs.take j).filter (kA f g gp)).length:=Paired.length rd;have M:=List.length_filter_le (kA f g gp) (rs.take j);rw[iX]at M
    lia
   have Y:f r<=(gp:Int)/\(gp:Int)<=g r->np f g (rs.take (j+1)) gp=np f g (rs.take j) gp++[r]:=λh=>by unfold np;rw[iF,C,iS,List.filter_append,qr (f:=kA f g gp) (x:=r) (by unfold kA;rw[kz h.1,kz h.2];rfl)]
   have no:¬(f r<=(gp:Int)/\(gp:Int)<=g r)->np f g (rs.take (j+1)) gp=np f g (rs.take j) gp:=λh=>by unfold np;rw[iF,C,iS,List.filter_append,qm (f:=kA f g gp) (x:=r) (λy=>h (by unfold kA at y;rw[qf]at y;exact⟨of_decide_eq_true y.1,of_decide_eq_true y.2⟩)),nS]
   refine⟨⟨rfl,True.intro⟩,(i12 _ rfl p _ _ _ rfl rfl (SqT.of (d _ _ e1)) (hY (j:=1) rfl) (ah _ rfl (lx _ _ rfl rfl _ rfl (nj (λM=>?_) (λM=>?_)))))⟩
   ·refine mf _ rfl _ rfl p _ _ _ rfl rfl (SqT.of (d _ _ e1)) (hY (j:=2) rfl) (lx _ _ rfl rfl _ rfl (iC (λh2=>?_) (λh2=>?_)))
    ·refine i12 _ rfl p _ _ _ rfl rfl (SqT.of (d _ _ e1)) (hY (j:=0) rfl) (jH e (iM (by lia)) (jn d hD) dh ?_);have kD:KT o (upd o D (.lst (u++[.ref q]))):=KT.at e (by intro xs z;cases z);rw[Y ⟨of_decide_eq_true M,h2⟩];exact jZ (rd.kt kD) (.cons (fx q c rfl (kD _ _ (d _ _ e2)) (kD _ _ (d _ _ e3))) .nil)
    ·exact hQ d e (by rw[no (λz=>h2 z.2)];exact rd)
   ·exact jx (hQ d e (by rw[no (λz=>M (kz z.1))];exact rd))
  ·rintro u o ⟨d,e,rd⟩;rw[a4,iQ]at rd;refine⟨iq rfl,λq hq=>?_⟩;have sq:A0l o (upd o q (.tup [.int (gp:Nat),.ref D])):=eh hq;exact k q D u gp _ (sG.free hD) ((sG.trans d).trans sq) dh (sq _ _ e) (rd.kt (KT.same sq)) mx
def qy(s:Stp):PyData:=.tuple [.int s.1,.str s.2.1,pK s.2.2.1,pK s.2.2.2]
def oS(ss:List Stp):PyData:=.list (ss.map qy)
theorem Aw:∀ss:List Stp,(∀s∈ss,PyData.strOk s.2.1=true)->PyData.depthAll (ss.map qy)<=2/\PyData.canLayAll0 (ss.map qy)=true/\PyData.eqvAll (ss.map qy) (ss.map qy)=true
 | [],_=>(hQ (by simp[PyData.depthAll]) rfl (by simp[PyData.eqvAll]))
 |s::r,h=>by
  obtain⟨l,k,b⟩:=Aw r λy g=>h y (.tail _ g);have e:=h s (.head _);obtain⟨i,c,d⟩:=vu s.2.2.1;obtain⟨f,a,j⟩:=vu s.2.2.2;refine hQ ?_ ?_ ?_
  ·simp only [iN,PyData.depthAll,qy,pK,PyData.depth,i,f];lia
  ·simp[qy,pK,PyData.canLayAll0,PyData.canLay0,k,c,a,e]
  ·rw[iN,PyData.eqvAll,b,qy,PyData.eqv];simp[PyData.eqvAll,PyData.eqv,pK,d,j]
theorem Bi{ys:zM}(h:H b=some (.lst ys))(st:A2e H ys ss):Rep H (.ref b) (oS ss):=by
 refine .lst h ?_;clear h
 induction st with
 |nil=>exact .nil
 |cons r _ ih=>refine iW r ?_;clear r;rintro b c u rfl a e d;exact .cons (.tup a (.cons (.int _) (.cons (.str _) (.cons (.tup e (vE _)) (.cons (.tup d (vE _)) .nil))))) ih
theorem Fu{k:Nat}(h:C6x L rows s k e):PyData.strOk s.2.1=true:=by
 rcases h.wd with ⟨_,z,_⟩|⟨_,z,_⟩|⟨_,z,_⟩
 ·rw[z];decide+kernel
 ·rw[z];decide+kernel
 ·rw[z];decide+kernel
def vc(K:Frag):Sp:=λd H Q _=>∃(a:zW)(b:zI),d=[.ref a]/\ScF K H a (b.map V.int)/\b.length<=63/\∀c,Q (.bl true) c
theorem Dw(T:Txt K mg t):FO P w base T.gx 19 (vc K):=by
 refine T.gx.F.ok pj λ_ A _ s H _ Q E m h=>?_
 ·obtain⟨a,ns,rfl,hS,hn,k⟩:=h;have hu:=lF m;refine rsq (eg ⟨@jM _ _ 1 _ _ _ _ pj.nd rfl (.inr rfl) (pcl (Iw T) m T.cU (al (pv 0) (al fe eH))) rfl (.inl rfl)⟩ (eg (iw 2 pj.nd (pcl (Il T) m T.cV (fC 1))) (eg ⟨vz (i₀:=3) (N':=["_law_step","_law_about_here"]) (ix:=(List.replicate 1 none++[some 1])) pj.nd rfl (.inl rfl) rfl (qI (x:="_law_about_here") rfl rfl rfl (by decide+kernel) (by decide+kernel)) (qN (N0:=["_law_step"]) rfl (.inl rfl) (by walk_at"ix")) (ju (pv 2)) (λ_ _ _ _=>(ie (i:=0) HJ)) (λ_ _ _ _=>(pcl (BH T) m T.b_ (al (pv 1) (fC 0))))⟩ (eg (iw 4 pj.nd (pcl (Ib T) m T.cR (al (pv 1) (al (pv 2) (al (pv 3) (al (jS (ud rfl) (by rfl) T.eQ PyProof.Rows.boot_sum (al (mW mV (pv 0) (lY fe) (lY fe)) eH)) eH)))))) (eg (iw 5 pj.nd (pcl (HQ T) m T.cY (al (pv 1) (al (pv 2) (fC 3))))) (eg (iw 6 pj.nd (pcl (HP T) m T.cT (fC 1))) (eg (je (ju (@jF _ _ _ _ (al (pv 4) (al (pv 2) (fC 4))))) (ie (i:=7) pj.nd) (eg (iw 8 pj.nd (oI vY (by rfl) T.bt pG (fC 7))) (eg (iw 9 pj.nd (pcl (IU T) m T.cC (al (pv 6) (fC 8)))) (eg (iP (PW.pt (pe (iT (DG m.units) (pv 8) (pv 7)) (rq (qA (kZ (pcl (Hc T) m T.dt (al (pv 9) (al (pcl (Ft T) m T.eK (al (pv 1) (al (pv 7) (fC 5)))) eH)))))))) (fa (im nY)) ⟨iJ⟩) (fa ⟨kU (oG kQ PySem.F.slot_list_clear PySem.F.type_list_clear Fk (pit 9))⟩))))) (fa (im nY))))))))) ?_;refine ii _ rfl a ns rfl hS ⟨hn,λU x ol L nm y tb T0 b Y H1 af u f7 sc=>?_⟩;obtain⟨M,g2,g⟩:=af.le;have fr:=u.fr
  have d8:∀e∈b.map (iA L),C3h e:=λe he=>by obtain⟨e',d0,rfl⟩:=kg.mp he;obtain⟨i,hi⟩:=List.getElem?_of_mem d0;exact(u.row i e' hi).2.rw' g
  have g0:=sH d8 b.length;have f5:b.length*3660<=5*3660:=Nat.mul_le_mul_right _ fr;have a4:oC L b (iu (b.map (iA L)) b.length):=λs hs=>sy hs;refine nu _ rfl U x ol L nm y tb T0 b (ky Y rfl af u λSL ys H2 g3 s2 h2 st=>?_);have c6:=Paired.length st;have c7:=af.same s2;refine jg _ rfl SL rfl ⟨_,SqL.of h2⟩ λKL b7=>?_;refine pB (K:=K) (a:=SL) (D:=KL) (xs:=ys) (λi f G=>A0l H2 G/\G KL=some (.lst f)/\Paired (λ(v:V)(s:Stp)=>∃(R:zW)(y:zM),v=.ref R/\R≠KL/\G R=some (.lst y)/\Rds G y (rdS M b s)) f ((iu (b.map (iA L)) b.length).take i)) (hQ (eh b7) dh .nil) (by rintro i f G ⟨B,_⟩;exact SqL.of (B _ _ h2)) ?_ ?_
  ·rintro i v f G X ⟨B,hG,q⟩;obtain⟨sp,b8,I⟩:=ja st X;have hi:=(iG.mp X).1;obtain⟨kk,e,si⟩:=a4 sp (iZ b8);have I:=I.kt (KT.same B);obtain⟨f1,_,_,rfl,_⟩:=id I;have e0:=Paired.length q;rw[iX]at e0;refine⟨⟨rfl,True.intro⟩,(lP _ rfl _ rfl U f1 x ol L (lA nm y tb T0 b (jk Y sp kk e M rfl (c7.same B) u I si ⟨g,?_⟩)))⟩;intro R zs G2 hR C e2 a1;have RK:R≠KL:=λz=>by subst z;rw[hG]at hR;cases hR
   have b0:=C _ _ hG;have b4:KT G2 (upd G2 KL (.lst (f++[.ref R]))):=KT.at b0 (by intro xs z;cases z);refine jH b0 (iM (by lia)) (jn (B.trans C) b7) dh ?_;rw[iF,b8,iS];refine jZ (Paired.mapP q ?_) (.cons (iO R zs rfl RK (by rw[dV RK];exact e2) (a1.keep b4)) .nil);rintro _ _ ⟨R',a5,z1,z2,z3,z4⟩;exact iO R' a5 z1 z2 (by rw[dV z2];exact C _ _ z3) (z4.keep ((KT.same C).trans b4))
  rintro ks H3 ⟨B,b3,S⟩;rw[c6,iQ]at S;have q:C1a H3 M b ks (iu (b.map (iA L)) b.length):=Paired.mapP S (by rintro _ _ ⟨R',a5,z1,_,z3,z4⟩;exact fx R' a5 z1 z3 z4);have b5:=s2.trans B;obtain⟨z1,e6,_,_⟩:=qD V.int ns (some 2) (some 3);refine jB _ rfl _ rfl (jB _ rfl _ rfl (iU _ rfl _ rfl a _ rfl ((sc.ki (KI.of b5)).sq) λp1 c9=>?_));rw[e6];obtain⟨H4,N,e5,W⟩:=nH (o:=.lst (z1.map V.int)) c9
  try rw[W]
  have c0:=b5.trans N;refine fx p1 _ rfl (SqL.of e5) λsm=>?_;refine lA U SL KL sm x (lA ol L nm y tb (lu T0 b Y M ys ks rfl (af.same c0) u g ((B.trans N) _ _ h2) (st.kt (KT.same (B.trans N))) (N _ _ b3) (q.same N) λOL zs ss H5 g1 s5 f4 e7 m1 m2 l5 rb=>?_));have b1:=c0.trans s5;have a0:=(B.trans N).trans s5;refine jB _ rfl _ rfl (nu _ rfl U SL KL x ol L nm y tb (lu T0 b Y M ys ks rfl (af.same b1) u g (a0 _ _ h2) (st.kt (KT.same a0)) ((N.trans s5) _ _ b3) (q.same (N.trans s5)) λMD H6 f8 s6 f2 f6=>?_));have a6:=b1.trans s6;have a7:=a0.trans s6;refine nu _ rfl U x ol L nm y tb T0 b (ky Y rfl (af.same a6) u λp H7 s7 cl=>?_);refine ah _ rfl (jg _ rfl _ rfl (iq rfl) λRL e3=>?_);have s8:A0l H7 (upd H7 RL (.lst [.ref OL,.ref SL,.ref OL])):=eh e3;have a3:upd H7 RL (.lst [.ref OL,.ref SL,.ref OL]) RL=some (.lst [.ref OL,.ref SL,.ref OL]):=dh;refine hH RL rfl ⟨_,SqL.of a3⟩ ?_;have a9:=s7.trans s8;generalize upd H7 RL (.lst [.ref OL,.ref SL,.ref OL])=H8 at s8 a3 a9;refine kr (K:=K) (a:=RL) (xs:=[.ref OL,.ref SL,.ref OL]) (λi Z G=>∃(o7 o8 o9:zP),Z=[Sro a,Sro U,Sro SL,Sro KL,Sro OL,Sro MD,Sro p,o7,o8,o9]/\A0l H8 G) (ku none none none rfl (A0l.refl _)) (by rintro i Z G _ ⟨_,_,_,_,sG⟩;exact SqL.of (sG _ _ a3)) ?_ ?_
  ·rintro i v Z G X ⟨o7,o8,o9,rfl,sG⟩;have l:=a9.trans sG;have d7:=a6.trans l
   have c4:∃(c:zW)(f:zM)(ss':List Stp),v=.ref c/\G c=some (.lst f)/\A2e G f ss'/\oC L b ss'/\ss'.length<=20000/\(∀s∈iu (b.map (iA L)) b.length,s∈ss')/\(∀s∈ss',s∈iu (b.map (iA L)) b.length)/\qw M b (iu (b.map (iA L)) b.length) ss':=by
    have a8:∃(c:zW)(f:zM)(ss':List Stp),V.ref OL=.ref c/\G c=some (.lst f)/\A2e G f ss'/\oC L b ss'/\ss'.length<=20000/\(∀s∈iu (b.map (iA L)) b.length,s∈ss')/\(∀s∈ss',s∈iu (b.map (iA L)) b.length)/\qw M b (iu (b.map (iA L)) b.length) ss':=(mi OL zs ss rfl ((s6.trans l) _ _ f4) (ke (e7.kt (KT.same (s6.trans l))) (λs hs=>a4 s (m1 s hs)) (by lia) m2 m1 rb));rcases i with _|_|_|i
    ·cases X;exact a8
    ·cases X;exact mi SL ys _ rfl ((a7.trans l) _ _ h2) (ke (st.kt (KT.same (a7.trans l))) a4 (by lia) (λs h=>h) (λs h=>h) (Hm g u))
    ·cases X;exact a8
    ·cases X
   refine iW c4 ?_;clear c4;rintro c f ss' rfl hc J ⟨a2,lc,ac,c8,e4⟩;refine ii _ rfl c f rfl (.inl (SqL.of hc)) λHL d9=>?_;obtain⟨Ga,sa,b2,W⟩:=nH (o:=.lst f) d9
   try rw[W]
   refine jB _ rfl _ rfl ⟨p,HL,L,nm,y,tb,T0,b,Y,f,ss',M,rfl,(cl.same (s8.trans sG)).same sa,u,g,b2,J.kt (KT.same sa),a2,lc,ac,c8,e4,λq1 C1 c1 i1 Gb d5 sb c5 b6 e8 d4=>?_⟩;have d:=sa.trans sb;obtain⟨d1,d2,d3⟩:=Aw ss' λs hs=>by obtain⟨_,_,si⟩:=a2 s hs;exact Fu si
   have sh:SeqAt.shaped (oS ss')=true:=vJ (by simp[oS,PyData.canLay0,d2]) (by simp only [oS,PyData.depth];lia);refine iU _ rfl _ rfl (oS ss') (oS ss') (Bi (sb _ _ b2) (J.kt (KT.same d))) (Bi (d _ _ hc) (J.kt (KT.same d))) (kE sh sh _ rfl ?_);show if (! PyData.eqv (oS ss') (oS ss'))=true then _ else _
   rw[show PyData.eqv (oS ss') (oS ss')=true by rw[oS,PyData.eqv];exact d3];refine jx ?_;have e9:=d7.trans d;refine jB _ rfl _ rfl (jB _ rfl _ rfl ⟨U,c,MD,x,ol,L,nm,y,tb,T0,b,Y,M,f,ss',rfl,af.same e9,u,g,d _ _ hc,J.kt (KT.same d),a2,lc,ac,jb f2 (l.trans d),λq2 C2 c2 i2 Gc f9 n f3 f0 a1 d6=>?_⟩);have ei:i2=i1:=d6.uniq d4;subst ei;refine⟨q1,q2,C1,C2,i2,c1,c2,_,rfl,n _ _ c5,n _ _ b6,e8.kt (KT.same n),f3,f0,a1,λr m=>?_,true,rfl,jx ?_⟩
   ·have hm:=(List.mem_filter.mp m).1;obtain⟨e,he,e1⟩:=kg.mp (xr.mp hm).1;rw[<-e1];exact u.eo.str e he
   have c3:=n _ _ c5;have O:=n _ _ b6;have b9:G C1=none:=sa.free d5;exact i12 _ rfl q1 _ _ _ rfl rfl (SqT.of c3) (hY (j:=1) rfl) (jN (.inl (jI rfl _ (SqL.of O))) C1 _ rfl rfl ⟨O,(ku _ _ _ rfl (jn (sG.trans (d.trans n)) (sG.free b9)))⟩)
  ·rintro Z G ⟨o7,o8,o9,rfl,_⟩;exact k _
end My
namespace PySem.W.Fast
def tw12192010487853003331:=()
def tw7305452462170453393:=()
def tw9121677906990570286:=()
def tw4941323081665644831:=()
def tw827928795670209390:=()
def tw16608547229478828268:=()
def tw2172152394624964576:=()
def tw7837860549456973383:=()
def tw859990966944618837:=()
def tw16115684833826593526:=()
def tw13816750473609676515:=()
def tw7646988719214735432:=()
def tw14648586173268743535:=()
def tw1429407467703207978:=()
def tw16142747125497302315:=()
def tw3256218613514689324:=()
def tw13888587332176980623:=()
def tw9630881238626999104:=()
def tw3686941611222616013:=()
def tw15333905887847038139:=()
def tw10922486425267158869:=()
def tw6208166776890369192:=()
def tw12309445951721960343:=()
def tw10867357560216232880:=()
def tw8101819929809415738:=()
def tw11999601694127017047:=()
def tw5558817194786862833:=()
def tw17996404111557854067:=()
def tw5595843448531783997:=()
def tw8883754973411183119:=()
def tw14655521167688357446:=()
def tw2010680495661000593:=()
def tw17566104484444018825:=()
def tw11403183875872351823:=()
def tw3384290847065609488:=()
def tw2231785018708700385:=()
def tw7365890983522303283:=()
def tw18274278356213672787:=()
def tw17046950461203840417:=()
def tw14170495740654218235:=()
def tw9933658660480024089:=()
def tw11066941154323861003:=()
def tw12896330626750650078:=()
def tw1575533764088078485:=()
def tw18156887331573416122:=()
def tw8705118508534064866:=()
def tw10487266234877760687:=()
def tw170717739306536607:=()
def tw5164321383262255369:=()
def tw4027198619220665108:=()
def tw121961343989580849:=()
def tw9283654602760687507:=()
def tw12588216401149956917:=()
def tw431207206687623684:=()
def tw10007641364225037298:=()
def tw9487240943434788775:=()
def tw12663569010053303338:=()
def tw3934671167360652164:=()
def tw8409846800926197297:=()
def tw184059989815400826:=()
def tw8629245609167810150:=()
def tw17029609348136470638:=()
def tw3815160205844347214:=()
def tw2089264121482246489:=()
def tw8572821169509947218:=()
def tw8344590574250530635:=()
def tw9154949565959632467:=()
def tw250596725411055258:=()
def tw10801676161618773473:=()
def tw14552298491052378113:=()
def tw7244587510670908801:=()
def tw6901572328288995629:=()
def tw15270025109510607504:=()
def tw12283672053210797185:=()
def tw8684387050103656789:=()
def tw18146028411919169770:=()
def tw12231647757773406133:=()
def tw3515269573284737972:=()
def tw1141195840343732997:=()
def tw17202151404410570351:=()
def tw8129821079456778216:=()
def tw12023735545605024865:=()
def tw16595812963598830084:=()
def tw10010038995022879564:=()
def tw14544880790762125837:=()
def tw12154406604543637768:=()
def tw615045290844036995:=()
def tw10011962432548451746:=()
def tw5434764252041379973:=()
def tw6166433675701818439:=()
def tw2422231790416937156:=()
def tw10916022560106488412:=()
def tw13174890704668958713:=()
def tw13306648077611425683:=()
def tw17534731381284633729:=()
def tw10281718554188910584:=()
def tw7529571284965086184:=()
def tw113430404915890931:=()
def tw10006124545989499157:=()
def tw12240974857498259135:=()
def tw3535357964837790596:=()
def tw13051006869078476314:=()
def tw5920148870357781249:=()
def tw5953972140280837845:=()
def tw7061606961683739549:=()
def tw7972770374052557395:=()
def tw4016982634742395476:=()
def tw16007060534393426021:=()
def tw6574128629427159397:=()
def tw15793074122181011612:=()
def tw18207625512669754105:=()
def tw4410315804975621638:=()
def tw1731404872614978300:=()
def tw12621461787884346559:=()
def tw4455198472831369094:=()
def tw245737454346736668:=()
def tw6122045875478023574:=()
def tw1548406652704004979:=()
def tw10369875431373492468:=()
def tw14107861909100051279:=()
def tw8869159203522520539:=()
def tw2048368885782254328:=()
def tw12075570535502847140:=()
def tw10065719746963469176:=()
def tw18224074621566739223:=()
def tw13766825249214208124:=()
def tw14297220536516364440:=()
def tw11672071219815238469:=()
def tw6545969887030154832:=()
def tw6761505322595544971:=()
def tw5927305986821571329:=()
def tw6477645575147924624:=()
def tw15651388917579724348:=()
def tw14075077268883580780:=()
def tw3032040152681679109:=()
def tw12075399566908974283:=()
def tw14574989029963729070:=()
def tw13728499645549292725:=()
def tw2107582918835474309:=()
def tw1877436325678334687:=()
def tw7404552748065178850:=()
def tw3825299843562707568:=()
def tw13935419101261962347:=()
def tw516923283259197596:=()
def tw14382877512022146043:=()
def tw7258830071545941578:=()
def tw28856309656734674:=()
def tw3438372379275531268:=()
def tw18405058063358689826:=()
def tw2000751792018171331:=()
def tw2791907965563436972:=()
def tw4798725686653392010:=()
def tw8017137543777546203:=()
def tw12937117432574773772:=()
def tw350530289642086758:=()
def tw13851603311443258804:=()
def tw3493022331560971306:=()
def tw18163137679222373629:=()
def tw8896648313350715591:=()
def tw6520728644124713476:=()
def tw18429344683947309615:=()
def tw8210554346905093365:=()
def tw11356424947954485937:=()
def tw3013135848810375537:=()
def tw17226998910226129674:=()
def tw14485179996081841118:=()
def tw5114847440114117028:=()
end PySem.W.Fast
namespace My
open PySem L2
theorem E1v{p:zH->Prop}(h:p []):∀us:zH,us.length=0->p us:=λus e=>by rw[sW.mp e];exact h
theorem E1y{n:Nat}{p:zH->Prop}(h:∀(a:zX)(us:zH),us.length=n->p (a::us)):∀us:zH,us.length=n+1->p us|a::r,e=>h a r (Nat.succ.inj e)
section
variable{K:Frag}{h:yA}{mg:zE}{x q:Str}{st:Stmt}{C f:zW}{oc:zX}{od:zO}{kV dc pm:zX}{an:zO}{cd ct:zX}{sl:zF}{ps:zC}
theorem E1o(_:findIn K (.ref C) x=some (some (.ref f)))(l:K.lookup f=some ⟨oc,od,.func (fnOf x q (pk st) (oU st) (iD st) .none kV dc pm an cd ct),sl⟩)(c:codeIn K cd q=true)(k:keepIn K (.ref f)=true)
  (b:∀(kV d pm:zX)(an:zO)(a ct:zX)(us:zH),us.length=ps.length->bindArgs (fnOf x q (pk st) (oU st) (iD st) .none kV d pm an a ct) ⟨us,[]⟩=pure (ps.zip us)):FM K C x q st f (fnOf x q (pk st) (oU st) (iD st) .none kV dc pm an cd ct) ps:=⟨vg l c k,(vg l c k).binds b⟩
theorem E0p(X:K.In h)(G:h.Ns mainGlobals mg)(a:nsIn K mainGlobals x=some (some (.ref f)))(l:K.lookup f=some ⟨oc,od,.func (fnOf x x (pk st) (oU st) (iD st) .none kV dc pm an cd ct),sl⟩)(c:codeIn K cd x=true)(k:keepIn K (.ref f)=true)
  (b:∀(kV e pm:zX)(an:zO)(d ct:zX)(us:zH),us.length=ps.length->bindArgs (fnOf x x (pk st) (oU st) (iD st) .none kV e pm an d ct) ⟨us,[]⟩=pure (ps.zip us)):FQ K mg x st f (fnOf x x (pk st) (oU st) (iD st) .none kV dc pm an cd ct) ps:=⟨vg l c k,PySem.W.mg_of X G a,(vg l c k).binds b⟩
end
local macro_rules | `(tactic| walk_at"le") => `(tactic| (intro _ _ _ _ _ _; (repeat (refine E1y fun _ => ?_)); exact E1v rfl))
theorem D7e{l:PySem.W.OpenLaw}{w:yD}{K:Frag}{mg:zE}{c:zW}{t:Adr}(a:mg "law"=some (.ref c))(T:Txt K mg t)(b:∀(s:zY)(v:zX),BindsTo s t.gR ⟨[v],[]⟩ [("_law_script",v)]):
  ∃fd:zS,(∀(s:zY)(v:zX),BindsTo s fd ⟨[v],[]⟩ [("_law_script",v)])/\∀base:yA,K.In base->base.Ns mainGlobals mg->A4q l.prog w K mg base jY 19 c fd ["_law_script"] (vc K):=by
 have e:=a.symm.trans T.gx.m;cases e;exact⟨_,b,λbase _ _=>Dw T⟩
theorem walk{l:PySem.W.OpenLaw}{q:yB}{b:zC}{XP:zE->yA->Prop}{YP:yD->yA->Prop}{d:DefRec}{K:Params->Frag}(g:l.most=some 63)(c:d.params.defaults=[])
  (p:∀(w:yD)(h:yA),YP w h->(K w.params).In h)
  (F:∀(w:yD)(mg:zE)(e:zW)(h:yA),(K w.params).In h->h.Ns mainGlobals mg->mg d.name=some (.ref e)->
   ∃fd:zS,(∀(s:zY)(u:zX),BindsTo s fd ⟨[u],[]⟩ [("_law_script",u)])/\∀base:yA,(K w.params).In base->base.Ns mainGlobals mg->A4q l.prog w (K w.params) mg base jY 19 e fd ["_law_script"] (vc (K w.params))):
  PySem.W.WalkO q b XP YP l.row.toRowW d [] (λf vs=>PySem.call f vs):=
 L2.D5c (n:=63) (k:=19) (x:="_law_script") (CX:=λ_=>jY) (sp:=λw=>vc (K w.params)) g (by decide) c ⟨rfl,by decide,by decide,rfl⟩ p F (λ_ _ a j i m o=>⟨a,j,rfl,ScF.mk m o,i,λ_=>rfl⟩) λ_ _ _ _ _ z=>z
end My
open PySem PySem.W PyProof.Rows
set_option maxRecDepth 100000 in
set_option maxHeartbeats 0 in
theorem PySem.Challenge.cw_arrayloom_k63_crowd_holds : PySem.Challenge.rw_arrayloom_k63_crowd.Holds := by
 w_on;o_law;k_head;(case hw=>w_witness2)
 k_fill
 refine My.walk (l:=PySem.Challenge.rw_arrayloom_k63_crowd) rfl rfl (λw h Y=>PySem.W.kIn_of Y) ?F
 case F=>
  intro w e d h KX G c;refine' My.D7e (t:=.mk ..) c ?T ?b
  case T=>constructor<;>(try dsimp only)<;>first|k_is|((with_reducible refine mg_of KX G ?_);k_is)|((with_reducible refine mg_none_of KX G ?_);k_is)|((with_reducible apply My.E0p KX G)<;>first|k_is|(intro _ _ _ _ _ _;(repeat (refine My.E1y λ_=>?_));exact My.E1v rfl))|((with_reducible apply My.E1o)<;>first|k_is|(intro _ _ _ _ _ _;(repeat (refine My.E1y λ_=>?_));exact My.E1v rfl))|((with_reducible refine L2.kit_true ?_ ?_ ?_)<;>k_is)|((with_reducible refine L2.kit_false (by first|rfl|decide) ?_ ?_ ?_)<;>k_is)|((with_reducible refine L2.exm_of ?_ ?_ ?_ ?_)<;>k_is)|(show findIn _ _ _=_;k_is)|kernel_rfl|(refine' ⟨_,mg_of KX G ?a,?b⟩;(case a=>k_is);(case b=>first|exact⟨_,rfl⟩|rfl))|(constructor<;>first|k_is|(show findIn _ _ _=_;k_is)|kernel_rfl|(constructor<;>k_is))
  case b=>exact λs v=>.of_eq rfl
