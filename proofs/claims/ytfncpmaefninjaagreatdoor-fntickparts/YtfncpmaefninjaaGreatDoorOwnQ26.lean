/- What the proof leans on, part 26. -/
import Derived.Test.YtfncpmaefninjaaGreatDoorOwnQ22
set_option linter.all false
set_option maxRecDepth 100000
set_option maxHeartbeats 8000000
open Go.Proofs.Tryz
open Go renaming World->w_,Calls->k_
open Go.Ending renaming returned->r_
open Go.Obj renaming cells->c_
open Go.RowKit renaming Below->B_,Hid->bN
open Go.Value renaming bool->b_,agg->a_

namespace Go.Proofs.YtfncpmaefninjaaGreatDoor
open Go.RowKit Go.Maps
attribute [local go_sem ↓] Go.wp_at_zero Go.wp_at_succ
theorem Nn (p q:af) (w:w_) (bp bq:Nat) (hsp:p.pure.Small) (hop:ap w bp p) (Pv:q.pure.Small) (hoq:ap w bq q) (h:p.pure=q.pure):
  k_ Tryz.prog 11 #[a_ p.cells,a_ q.cells] w fun e w'=>e=r_ (b_ true)/\B_ w.heap.size w w':=by
 have e0:(p.id == q.id)=true:=by have:=congrArg aE.id h; simpa [af.pure] using this
 have e1:(p.next == q.next)=true:=by have:=congrArg aE.next h; simpa [af.pure] using this
 have e2:((p.L8.length:Int) == (q.L8.length:Int))=true:=by have:=congrArg (fun x:aE=>x.L8.length) h; simp only [af.pure,KG] at this; simp [this]
 have hz:B_ w.heap.size w ((w.alloc (c_ p.cells 31)).alloc (c_ q.cells 31)):=((Kp _ _).alloc (Ki _) _).alloc zw _;have S:bN (o8 ((w.alloc (c_ p.cells 31)).alloc (c_ q.cells 31)) w.heap.size bp p/\o8 ((w.alloc (c_ p.cells 31)).alloc (c_ q.cells 31)) (w.heap.size+1) bq q/\B_ w.heap.size w ((w.alloc (c_ p.cells 31)).alloc (c_ q.cells 31))):=⟨⟨(((Kp _ _).alloc (Ki _) _).block _ zw).trans (Kj _ _),hop.below hz⟩,⟨Kq _ _ _,hoq.below hz⟩,hz⟩
 have HS:bN (p.pure.Small/\q.pure.Small/\p.pure=q.pure):=⟨hsp,Pv,h⟩
 clear hsp hop Pv hoq h hz
 go_enter func11,ntmps11
 go_upto_region 1 with fail;generalize (w.alloc (c_ p.cells 31)).alloc (c_ q.cells 31)=A at *;generalize hX:w.heap.size+1=X at *;clear hX;have NR:bN (∀ W W2:w_,bN (o8 W w.heap.size bp p/\o8 W X bq q/\B_ w.heap.size w W)->B_ W.heap.size W W2->bN (o8 W2 w.heap.size bp p/\o8 W2 X bq q/\B_ w.heap.size w W2)):=fun W W2 h hb=>⟨h.I.1.below hb,h.I.2.1.below hb,h.I.2.2.trans (hb.mono h.I.2.2.size)⟩
 refine aT (fun W=>bN (o8 W w.heap.size bp p/\o8 W X bq q/\B_ w.heap.size w W)) Zcq (NR.I _ _ S (Kp _ _).drew) ?_
 iterate 23 (refine PI ?_ (hy:=fun w0 hS0=>by obtain ⟨m0,m1,m2,m3,m4,m5,m6,m7⟩:=hS0.I.1.1.cells; obtain ⟨n0,n1,n2,n3,n4,n5,n6,n7⟩:=hS0.I.2.1.1.cells; go_simp; try with_reducible rfl))
 refine b9 (NF p.pure) 30 #[a_ p.row] (fun w0 h0=>(MS p w0 (dV HS.I.1) (fun x hx=>(cY HS.I.1 hx).1) h0.I.1.2.at).mono fun e w1 h=>⟨h.1,NR.I _ _ h0 h.2⟩) ?_;refine PI ?_ (hy:=fun w0 hS0=>by obtain ⟨m0,m1,m2,m3,m4,m5,m6,m7⟩:=hS0.I.1.1.cells; obtain ⟨n0,n1,n2,n3,n4,n5,n6,n7⟩:=hS0.I.2.1.1.cells; go_simp; try with_reducible rfl);refine b9 (NF p.pure) 30 #[a_ q.row] (fun w0 h0=>(MS q w0 (dV HS.I.2.1) (fun x hx=>(cY HS.I.2.1 hx).1) h0.I.2.1.2.at).mono fun e w1 h=>⟨by rw [HS.I.2.2]; exact h.1,NR.I _ _ h0 h.2⟩) ?_;generalize NF p.pure=T at *
 iterate 3 (refine PI ?_ (hy:=fun w0 hS0=>by obtain ⟨m0,m1,m2,m3,m4,m5,m6,m7⟩:=hS0.I.1.1.cells; obtain ⟨n0,n1,n2,n3,n4,n5,n6,n7⟩:=hS0.I.2.1.1.cells; go_simp; try with_reducible rfl))
 refine bk Zcq (fun A2 y5=> ?_) _;clear S NR;go_wp2;go_ret;exact ⟨al zw,y5.I.2.2⟩
end Go.Proofs.YtfncpmaefninjaaGreatDoor
