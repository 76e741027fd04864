/- What the proof leans on, part 31. -/
import Derived.Test.YtkbcplnlehdjfaaGreatOwnD30
set_option maxRecDepth 100000
set_option maxHeartbeats 8000000
open Array renaming getElem?_eq_some_iff->J2
open Go renaming cell_of_row->K5,frozen_of_row->Ko,heap_alloc_new->Kj,setRow_other->KH,wpAnyH_done->K3,wpAnyH_ready->KW,wp_region_held_drew->Kr
open Go.AllReadyH renaming cons->KX,nil->KY
open Go.Proofs.Tryz renaming prog->J3
open Go.RowKit.Below renaming refl->Kp
open Go.World renaming cell?_of_block->J1
open List renaming getElem?_eq_some_iff->Lj,getElem_cons_succ->K1,getElem_cons_zero->K0,getElem_toArray->KZ,length_append->Lf,length_nil->K4
open Nat renaming le_refl->Ki,zero_add->Li,zero_le->Ky

namespace Go.Proofs.YtkbcplnlehdjfaaGreat
section
open Go.RowKit Go.Maps
attribute [local go_sem ↓] Go.wp_at_zero Go.wp_at_succ
theorem tF (p:af) (z:bD) (w:World) (b0:Nat) (hwf:(Lit.int .i64 z.id).wf=true) (qY:p.pure.Small) (h:ap w b0 p):
  Calls J3 35 #[.agg p.cells,.agg #[.int .i64 z.id,.int .i64 z.n,.int .i64 z.max]] w fun e w'=>gI w (cB p.pure { p.pure with aj:=cA (·.id) z p.pure.aj }) e w':=by
 have HB:Hid (av (((w.alloc (.cells p.cells 32)).alloc (.cells #[.int .i64 z.id,.int .i64 z.n,.int .i64 z.max] 49)).alloc (.cells ar 32)) w.heap.size p∧ap (((w.alloc (.cells p.cells 32)).alloc (.cells #[.int .i64 z.id,.int .i64 z.n,.int .i64 z.max] 49)).alloc (.cells ar 32)) b0 p∧Below w.heap.size w (((w.alloc (.cells p.cells 32)).alloc (.cells #[.int .i64 z.id,.int .i64 z.n,.int .i64 z.max] 49)).alloc (.cells ar 32))∧(((w.alloc (.cells p.cells 32)).alloc (.cells #[.int .i64 z.id,.int .i64 z.n,.int .i64 z.max] 49)).alloc (.cells ar 32)).heap[w.heap.size+1+1]? =some (.cells ar 32 (0,0))):=by
  have b1:Below w.heap.size w (((w.alloc (.cells p.cells 32)).alloc (.cells #[.int .i64 z.id,.int .i64 z.n,.int .i64 z.max] 49)).alloc (.cells ar 32)):=fg _ _ _ _;have h3:=dR w (.cells p.cells 32) (.cells #[.int .i64 z.id,.int .i64 z.n,.int .i64 z.max] 49) (.cells ar 32);exact ⟨h3.1,h.below b1,b1,h3.2.2.1⟩
 have Cj:Hid ((((w.alloc (.cells p.cells 32)).alloc (.cells #[.int .i64 z.id,.int .i64 z.n,.int .i64 z.max] 49)).alloc (.cells ar 32)).heap[w.heap.size+1]? =some (.cells #[.int .i64 z.id,.int .i64 z.n,.int .i64 z.max] 49 (0,0))):=(dR _ _ _ _).2.1;have fl:Hid (p.Fit∧(∀ x∈p.L8,x.dX)∧p.pure.Small∧(Lit.int .i64 z.id).wf=true):=⟨dV qY,fun x hx=>(cY qY hx).1,qY,hwf⟩
 have hpl:=fl.I.1.short.aj;have hcap:p.aj.length≤p.bF:=nV h.aj;have pd: ∀ g∈p.Mc,g < w.heap.size:=fun g hg=>(h.lt g hg).2
 clear h qY hwf;obtain ⟨m0,m1,m2,m3,m4,m5,m6,m7⟩:=HB.I.1.cells;unfold af.cells at *
 go_enter Tryz.func35,Tryz.ntmps35
 go_wp2_with fail;generalize ((w.alloc (.cells p.row 32)).alloc (.cells #[.int .i64 z.id,.int .i64 z.n,.int .i64 z.max] 49)).alloc (.cells ar 32)=W at *;clear m0 m1 m2 m3 m4 m5 m6 m7;refine (fR p W fl.I.1 fl.I.2.1 HB.I.2.1.at).mono ?_;rintro e W1 ⟨q,rfl,hown,gn,hb1⟩;have hb2:Below W1.heap.size W1 (W1.alloc (.cells q.cells 32)):=(Kp _ _).alloc (Ki _) _;have hlt:w.heap.size+1+1 < W.heap.size:=(J2.1 HB.I.2.2.2).1;have hb3:Below W.heap.size W (W1.alloc (.cells q.cells 32)):=hb1.trans (hb2.mono hb1.size);have hq1: ∀ g∈q.Mc,g < W1.heap.size:=fun g hg=>(hown.lt g hg).2
 have HQ:Hid (av (W1.alloc (.cells q.cells 32)) W1.heap.size q∧ap (W1.alloc (.cells q.cells 32)) W.heap.size q∧q.pure=p.pure∧(∀ g∈q.Mc,g < W1.heap.size)∧W.heap.size≤W1.heap.size∧w.heap.size+1+1 < W.heap.size∧W1.heap.size < (W1.alloc (.cells q.cells 32)).heap.size):=⟨Kj _ _,hown.below hb2,gn,hq1,hb1.size,hlt,by simp⟩
 replace HB:Hid (av (W1.alloc (.cells q.cells 32)) w.heap.size p∧ap (W1.alloc (.cells q.cells 32)) b0 p∧Below w.heap.size w (W1.alloc (.cells q.cells 32))∧(W1.alloc (.cells q.cells 32)).heap[w.heap.size+1+1]? =some (.cells ar 32 (0,0))):=⟨HB.I.1.below hb3,HB.I.2.1.below hb3,HB.I.2.2.1.trans (hb3.mono HB.I.2.2.1.size),(hb3.block _ hlt).trans HB.I.2.2.2⟩
 replace Cj:Hid ((W1.alloc (.cells q.cells 32)).heap[w.heap.size+1]? =some (.cells #[.int .i64 z.id,.int .i64 z.n,.int .i64 z.max] 49 (0,0))):=(hb3.block _ (by omega)).trans Cj.I;have Au:Hid (∀ g∈p.Mc,g < w.heap.size):=fun g hg=>pd g hg
 clear hown gn hb1 hb2 hb3 hq1 hlt pd;obtain ⟨m0,m1,m2,m3,m4,m5,m6,m7⟩:=HB.I.1.cells;unfold af.cells at *;go_wp2_with fail;generalize W1.alloc (.cells q.row 32)=W2 at *;clear m0 m1 m2 m4 m5 m6 m7;generalize W1.heap.size=o at *;clear m3
 go_loopw [7] (fun i wr=> ∃ k:Nat,k≤p.aj.length∧i= .int .i64 k∧Hid (∀ y∈p.aj.take k,y.id < z.id)∧Hid (Below W2.heap.size W2 wr)) (fun i _=>p.aj.length - (Go.RowKit.intOf i).toNat)
 case atStart=>exact ⟨0,Ky _,rfl,fun y hy=>by simp at hy,Kp _ _⟩
 case round=>
  obtain ⟨k,hk,rfl,HA,Ez⟩:=hrel;have hbr:Below W2.heap.size W2 wr.drew.drew:=Ez.I.drew.drew;have hsz:=hbr.size;replace Ez:Hid (Below W2.heap.size W2 wr.drew):=Ez.I.drew;have hq:=HQ.I;have hzl:w.heap.size+1 < W2.heap.size:=by omega
  replace HB:Hid (av wr.drew.drew w.heap.size p∧ap wr.drew.drew b0 p∧Below w.heap.size w wr.drew.drew∧wr.drew.drew.heap[w.heap.size+1+1]? =some (.cells ar 32 (0,0))):=⟨HB.I.1.below hbr,HB.I.2.1.below hbr,HB.I.2.2.1.trans (hbr.mono HB.I.2.2.1.size),(hbr.block _ (by omega)).trans HB.I.2.2.2⟩
  replace HQ:Hid (av wr.drew.drew o q∧ap wr.drew.drew W.heap.size q∧q.pure=p.pure∧(∀ g∈q.Mc,g < o)∧W.heap.size≤o∧w.heap.size+1+1 < W.heap.size∧o < wr.drew.drew.heap.size):=⟨hq.1.below hbr,hq.2.1.below hbr,hq.2.2.1,hq.2.2.2.1,hq.2.2.2.2.1,hq.2.2.2.2.2.1,by omega⟩
  replace Cj:Hid (wr.drew.drew.heap[w.heap.size+1]? =some (.cells #[.int .i64 z.id,.int .i64 z.n,.int .i64 z.max] 49 (0,0))):=(hbr.block _ hzl).trans Cj.I;clear hbr hsz hq hzl;have m:wr.drew.cell? ⟨w.heap.size,3,none⟩=some (.slice p.bc p.aj.length p.bF):=HB.I.1.cells.2.2.2.1;have z0:wr.drew.cell? ⟨w.heap.size+1,0,none⟩=some (.int .i64 z.id):=(gm (x:=z) Cj.I).1;have i0:(0:Int)≤(k:Int):=by omega
  have icap:(k:Int)≤(p.bF:Int):=by omega
  have i2:(k:Int)≤(p.aj.length:Int):=by omega
  rcases zm (fun y:bD=>y.id) z.id p.aj k with ⟨x,hx,hc,hlt⟩ | ⟨x,hx,hc,hlt⟩ | hlt
  ·have HT:Hid (∀ y∈p.aj.take (k+1),y.id < z.id):=nE hx HA.I hc
   have i1:(k:Int) < (p.aj.length:Int):=by omega
   have d1:decide ((k:Int) < (p.aj.length:Int))=true:=decide_eq_true i1;have d2:decide (x.id < z.id)=true:=decide_eq_true hc;obtain ⟨g,ha,hat⟩:=lQ HB.I.2.1.at.2.1 hx;have c0:wr.drew.cell? ⟨g,k * 3,none⟩=some (.int .i64 x.id):=hat.1;have m2:=m;rw [ha] at m2;clear hat hx ha hc;clear m;go_wp2_with fail;refine aT (fun w'=>w'=wr.drew) (by kernel_rfl) rfl ?_
   iterate 16 (refine PI ?_ (hy:=fun w0 hS0=>by subst hS0; go_simp; try with_reducible rfl))
   refine bk (by kernel_rfl) ?_ _;intro w1 cm;subst cm;go_wp2;go_roundw
   case rel=>exact ⟨k+1,by omega,by go_num,HT.I,Ez.I⟩
   case measure=>simp [Go.RowKit.intOf]; omega
  focus
   have HX:Hid (∀ y,p.aj[k]? =some y→ ¬ y.id < z.id):=fun y hy e=>by rw [hx] at hy; cases hy; exact hc e
   have i1:(k:Int) < (p.aj.length:Int):=by omega
   have d1:decide ((k:Int) < (p.aj.length:Int))=true:=decide_eq_true i1;have d2:decide (x.id < z.id)=false:=decide_eq_false hc;obtain ⟨g,ha,hat⟩:=lQ HB.I.2.1.at.2.1 hx;have c0:wr.drew.cell? ⟨g,k * 3,none⟩=some (.int .i64 x.id):=hat.1;have m2:=m;rw [ha] at m2;clear hat hx ha hc;clear m;go_wp2_with fail;refine aT (fun w'=>w'=wr.drew) (by kernel_rfl) rfl ?_
   iterate 16 (refine PI ?_ (hy:=fun w0 hS0=>by subst hS0; go_simp; try with_reducible rfl))
   refine bk (by kernel_rfl) ?_ _;intro w1 cm;subst cm;clear i1 d1 d2 c0 m2
  rotate_left
  focus
   have HX:Hid (∀ y,p.aj[k]? =some y→ ¬ y.id < z.id):=fun y hy=>absurd (Lj.1 hy).1 hlt
   have d1:decide ((k:Int) < (p.aj.length:Int))=false:=decide_eq_false (by omega);go_wp2_with fail;refine aT (fun w'=>w'=wr.drew) (by kernel_rfl) rfl ?_
   iterate 6 (refine PI ?_ (hy:=fun w0 hS0=>by subst hS0; go_simp; try with_reducible rfl))
   iterate 9 (refine nl ?_; simp only [pt,sb,s0,s1])
   (refine PI ?_ (hy:=fun w0 hS0=>by subst hS0; go_simp; try with_reducible rfl))
   refine bk (by kernel_rfl) ?_ _;intro w1 cm;subst cm;clear d1 m
  all_goals
   clear hlt z0 Ez;go_wp2_with fail;refine Kr (S:=fun w'=>av w' w.heap.size p∧w'.heap[w.heap.size+1]? =some (.cells #[.int .i64 z.id,.int .i64 z.n,.int .i64 z.max] 49 (0,0))) (by kernel_rfl) ⟨HB.I.1,Cj.I⟩ (fun hHeld=> ?_);generalize wr.drew.drew=V2 at *;refine tt 1 hHeld ?_ (hy:=fun w0 hS0=>by have q0:w0.cell? ⟨w.heap.size,3,none⟩=some (.slice p.bc p.aj.length p.bF):=hS0.1.cells.2.2.2.1; obtain ⟨q1,q2,q3⟩:=gm (x:=z) hS0.2; go_simp; try with_reducible rfl);refine tt 2 hHeld ?_ (hy:=fun w0 hS0=>by have q0:w0.cell? ⟨w.heap.size,3,none⟩=some (.slice p.bc p.aj.length p.bF):=hS0.1.cells.2.2.2.1; obtain ⟨q1,q2,q3⟩:=gm (x:=z) hS0.2; go_simp; try with_reducible rfl);refine tt 3 hHeld ?_ (hy:=fun w0 hS0=>by have q0:w0.cell? ⟨w.heap.size,3,none⟩=some (.slice p.bc p.aj.length p.bF):=hS0.1.cells.2.2.2.1; obtain ⟨q1,q2,q3⟩:=gm (x:=z) hS0.2; go_simp; try with_reducible rfl);refine tt 4 hHeld ?_ (hy:=fun w0 hS0=>by have q0:w0.cell? ⟨w.heap.size,3,none⟩=some (.slice p.bc p.aj.length p.bF):=hS0.1.cells.2.2.2.1; obtain ⟨q1,q2,q3⟩:=gm (x:=z) hS0.2; go_simp; try with_reducible rfl);refine tt 6 hHeld ?_ (hy:=fun w0 hS0=>by have q0:w0.cell? ⟨w.heap.size,3,none⟩=some (.slice p.bc p.aj.length p.bF):=hS0.1.cells.2.2.2.1; obtain ⟨q1,q2,q3⟩:=gm (x:=z) hS0.2; go_simp; try with_reducible rfl);clear hHeld;have hkl:(p.aj.take k).length=k:=by rw [List.length_take]; omega
   have hq:=HQ.I;have hS: ∀ W,Below V2.heap.size V2 W→av W w.heap.size p∧W.heap[w.heap.size+1]? =some (.cells #[.int .i64 z.id,.int .i64 z.n,.int .i64 z.max] 49 (0,0)):=fun W hb=>⟨(hb.block _ (by omega)).trans HB.I.1,(hb.block _ (by omega)).trans Cj.I⟩
   have wg:Hid (∀ (W:World) (g:Nat),Below V2.heap.size V2 W→W.heap[g]? =some (.cells #[] 49 (0,0))→V2.heap.size≤g→ ∃ a5 c5 w5,(Builtin.append_ #[26,26] 26 #[.slice (some ⟨g,0,none⟩) 0 0,.slice p.bc k p.bF]).run J3 W= .ok (.slice a5 k c5) w5∧w5.ownsRow V2.heap.size 49 3 (.slice a5 k c5) k (dm.flat (p.aj.take k))∧Below V2.heap.size V2 w5∧Below V2.heap.size V2 w5∧ ∀ h,V2.heap.size≤h→h≠g→h < W.heap.size→w5.heap[h]? =W.heap[h]?):=fun W g hb hg hge=>by
    obtain ⟨a5,c5,w5,hap,oe,A7,-⟩:=uI W V2.heap.size (some ⟨g,0,none⟩) 0 [] (i6 hg hge) p.bc (p.aj.take k) p.bF (uM k (HB.I.2.1.below hb).at.2.1.1) (by rw [hkl]; show 0+k≤_; omega) hb.size;rw [hkl] at hap oe;simp only [K4,Li,List.nil_append] at hap oe;have iJ:Below V2.heap.size V2 w5:=hb.grown A7 hb.size fun c e=>by cases e; exact hge
    exact ⟨a5,c5,w5,hap,oe,iJ,iJ,fun h _ hn hl=>A7.block h hl (fun e=>hn (by cases e; rfl))⟩
   have bA: ∀ (W:World) (c:Obj),Below V2.heap.size V2 W→Below V2.heap.size V2 (W.alloc c):=fun W c hb=>hb.alloc hb.size _
   refine KW (rs:= [0,7]) (by kernel_rfl) (by simp) ?_;refine KX rfl (fun K hK=> ?_) (KX rfl (fun K hK=> ?_) KY)
   focus
    have b1:Below V2.heap.size V2 (V2.alloc (.cells #[] 49)):=bA _ _ (Kp _ _);simp only [KZ,K0];rw [if_pos (by rfl)];go_wp2_with fail;refine hK.out _ _ (hS _ b1) (fun hHeld=> ?_);clear hK K hHeld
    try simp only [pt,sb,s0,s1]
    have b7:Below V2.heap.size V2 ((V2.alloc (.cells #[] 49)).alloc (.cells #[.int .i64 z.id,.int .i64 z.n,.int .i64 z.max] 49)):=bA _ _ b1;refine KW (rs:= [5,7]) (by kernel_rfl) (by simp) ?_;refine KX rfl (fun K hK=> ?_) (KX rfl (fun K hK=> ?_) KY)
    focus
     clear b7;obtain ⟨a5,c5,w5,hap,oe,iJ,-,-⟩:=wg.I _ _ b1 (Kj _ _) (Ki _);simp only [KZ,K0,K1];rw [if_pos (by rfl)];refine cM _ _ _ rfl _ _ _ w5 rfl rfl hap ?_;refine hK.out _ _ (hS _ iJ) (fun hHeld=> ?_);clear hK K hHeld
     try simp only [pt,sb,s0,s1]
     refine L7 7 (fun K hK=> ?_);go_wp2_with fail;refine hK.out _ _ (hS _ (bA _ _ iJ)) (fun hHeld=> ?_);clear hK K hHeld
     try simp only [pt,sb,s0,s1]
     have qJ:Hid ((w5.alloc (.cells #[.int .i64 z.id,.int .i64 z.n,.int .i64 z.max] 49)).ownsRow V2.heap.size 49 3 (.slice a5 k c5) k (dm.flat (p.aj.take k))∧(w5.alloc (.cells #[.int .i64 z.id,.int .i64 z.n,.int .i64 z.max] 49)).heap[w5.heap.size]? =some (.cells #[.int .i64 z.id,.int .i64 z.n,.int .i64 z.max] 49 (0,0))∧Below V2.heap.size V2 (w5.alloc (.cells #[.int .i64 z.id,.int .i64 z.n,.int .i64 z.max] 49))):=⟨cR oe ((Kp _ _).alloc (Ki _) _),Kj _ _,bA _ _ iJ⟩
     clear hap oe iJ b1 bA hS;generalize w5.alloc (.cells #[.int .i64 z.id,.int .i64 z.n,.int .i64 z.max] 49)=w6 at *;generalize w5.heap.size=gx at *
    rotate_left
    focus
     obtain ⟨a5,c5,w6,om,qH,jQ,-,zU⟩:=wg.I _ _ b7 ((PU (by simp)).trans (Kj _ _)) (Ki _);simp only [KZ,K0,K1];rw [if_pos (by rfl)];go_wp2_with fail;refine hK.out _ _ (hS _ b7) (fun hHeld=> ?_);clear hK K hHeld
     try simp only [pt,sb,s0,s1]
     refine L7 5 (fun K hK=> ?_);refine cM _ _ _ rfl _ _ _ w6 rfl rfl om ?_;refine hK.out _ _ (hS _ jQ) (fun hHeld=> ?_);clear hK K hHeld
     try simp only [pt,sb,s0,s1]
     have qJ:Hid (w6.ownsRow V2.heap.size 49 3 (.slice a5 k c5) k (dm.flat (p.aj.take k))∧w6.heap[(V2.heap.size+1)]? =some (.cells #[.int .i64 z.id,.int .i64 z.n,.int .i64 z.max] 49 (0,0))∧Below V2.heap.size V2 w6):=⟨qH,(zU _ (by omega) (by omega) (by simp <;> omega)).trans (by have h5:=Kj (V2.alloc (.cells #[] 49)) (.cells #[.int .i64 z.id,.int .i64 z.n,.int .i64 z.max] 49); simpa using h5),jQ⟩
     clear om qH jQ zU b1 b7 bA hS
   rotate_left 2
   focus
    have b7:Below V2.heap.size V2 (V2.alloc (.cells #[.int .i64 z.id,.int .i64 z.n,.int .i64 z.max] 49)):=bA _ _ (Kp _ _);simp only [KZ,K0,K1];rw [if_pos (by rfl)];go_wp2_with fail;refine hK.out _ _ (hS _ b7) (fun hHeld=> ?_);clear hK K hHeld
    try simp only [pt,sb,s0,s1]
    have b1:Below V2.heap.size V2 ((V2.alloc (.cells #[.int .i64 z.id,.int .i64 z.n,.int .i64 z.max] 49)).alloc (.cells #[] 49)):=bA _ _ b7;refine L7 0 (fun K hK=> ?_);go_wp2_with fail;refine hK.out _ _ (hS _ b1) (fun hHeld=> ?_);clear hK K hHeld
    try simp only [pt,sb,s0,s1]
    obtain ⟨a5,c5,w6,om,qH,jQ,-,zU⟩:=wg.I ((V2.alloc (.cells #[.int .i64 z.id,.int .i64 z.n,.int .i64 z.max] 49)).alloc (.cells #[] 49)) (V2.heap.size+1) b1 (heap_alloc2_new _ _ _) (by omega);refine L7 5 (fun K hK=> ?_);refine cM _ _ _ rfl _ _ _ w6 rfl rfl om ?_;refine hK.out _ _ (hS _ jQ) (fun hHeld=> ?_);clear hK K hHeld
    try simp only [pt,sb,s0,s1]
    have qJ:Hid (w6.ownsRow V2.heap.size 49 3 (.slice a5 k c5) k (dm.flat (p.aj.take k))∧w6.heap[V2.heap.size]? =some (.cells #[.int .i64 z.id,.int .i64 z.n,.int .i64 z.max] 49 (0,0))∧Below V2.heap.size V2 w6):=⟨qH,(zU _ (by omega) (by omega) (by simp <;> omega)).trans ((PU (by simp)).trans (Kj _ _)),jQ⟩
    clear om qH jQ zU b1 b7 bA hS
   all_goals
    have qH:w6.ownsRow V2.heap.size 49 3 (.slice a5 (p.aj.take k).length c5) (p.aj.take k).length (dm.flat (p.aj.take k)):=by rw [hkl]; exact qJ.I.1
    obtain ⟨a7,c7,w7,gT,mP,xI,-⟩:=uI w6 V2.heap.size a5 c5 (p.aj.take k) qH _ [z] 1 (jO qJ.I.2.1) (by rw [hkl]; show k+1≤_; omega) qJ.I.2.2.size;have mI:(p.aj.take k ++ [z]).length=k+1:=by rw [Lf,hkl]; rfl
    rw [hkl] at gT mP;simp only [List.length_cons,K4,Li] at gT mP;have gh:Below V2.heap.size V2 w7:=qJ.I.2.2.grown xI qJ.I.2.2.size fun c e=>(cf qJ.I.1 (di e)).1
    have Em:Hid (w7.ownsRow V2.heap.size 49 3 (.slice a7 (k+1) c7) (k+1) (dm.flat (p.aj.take k ++ [z]))∧Below V2.heap.size V2 w7∧(p.aj.take k ++ [z]).length=k+1):=⟨mP,gh,mI⟩
    refine L7 8 (fun K hK=> ?_);refine cM _ _ _ rfl _ _ _ w7 rfl rfl gT ?_;refine hK.out _ _ ⟨(gh.block _ (by omega)).trans HB.I.1,(gh.block _ (by omega)).trans Cj.I⟩ (fun hHeld=> ?_);clear hK K hHeld
    try simp only [pt,sb,s0,s1]
    have H8:Hid (((av (w7.setCell ⟨o,3,none⟩ (.slice a7 (k+1) c7)) w.heap.size p∧ap (w7.setCell ⟨o,3,none⟩ (.slice a7 (k+1) c7)) b0 p∧Below w.heap.size w (w7.setCell ⟨o,3,none⟩ (.slice a7 (k+1) c7))∧(w7.setCell ⟨o,3,none⟩ (.slice a7 (k+1) c7)).heap[w.heap.size+1+1]? =some (.cells ar 32 (0,0)))∧(w7.setCell ⟨o,3,none⟩ (.slice a7 (k+1) c7)).heap[o]? =some (.cells #[.int .i64 q.id,.int .i64 q.next,.slice q.aN q.L8.length q.aW,.slice a7 (k+1) c7,.slice q.ay q.L9.length q.aO,.slice q.ax q.ag.length q.aP,.slice q.am q.ae.length q.aG,.slice q.aK q.ai.length q.aV] 32 (0,0))∧ap (w7.setCell ⟨o,3,none⟩ (.slice a7 (k+1) c7)) W.heap.size q)∧(w7.setCell ⟨o,3,none⟩ (.slice a7 (k+1) c7)).ownsRow V2.heap.size 49 3 (.slice a7 (k+1) c7) (k+1) (dm.flat (p.aj.take k ++ [z]))∧V2.heap.size≤(w7.setCell ⟨o,3,none⟩ (.slice a7 (k+1) c7)).heap.size):=by
     have lY:Below w.heap.size w w7:=HB.I.2.2.1.trans (gh.mono (by have:=HB.I.2.2.1.size; omega));refine ⟨⟨⟨(aH (by omega)).trans (HB.I.1.below gh),(HB.I.2.1.below gh).same fun g hg=>aH (fun e=> ?_),bP lY (by omega),(aH (by omega)).trans ((gh.block _ (by omega)).trans HB.I.2.2.2)⟩,cx (HQ.I.1.below gh),(HQ.I.2.1.below gh).same fun g hg=>aH (by have:=HQ.I.2.2.2.1 g hg; omega)⟩,aL Em.I.1 fun g hg=>aH (by have:=(cf Em.I.1 hg).1; omega),?_⟩
     ·have:=Au.I g hg; omega
     ·rw [ja]; exact gh.size
    have HX8:Hid ((w7.setCell ⟨o,3,none⟩ (.slice a7 (k+1) c7)).heap[w.heap.size+1]? =some (.cells #[.int .i64 z.id,.int .i64 z.n,.int .i64 z.max] 49 (0,0))):=(aH (by omega)).trans ((gh.block _ (by omega)).trans Cj.I);obtain ⟨⟨u,co⟩,fo⟩:(∃ u,w7.cell? ⟨o,3,none⟩=some u)∧w7.frozen? ⟨o,3,none⟩=false:=⟨⟨_,(HQ.I.1.below gh).cells.2.2.2.1⟩,Ko _ _ _ _ _ (HQ.I.1.below gh)⟩
    have wj:av w7 w.heap.size p∧w7.heap[w.heap.size+1]? =some (.cells #[.int .i64 z.id,.int .i64 z.n,.int .i64 z.max] 49 (0,0)):=⟨(gh.block _ (by omega)).trans HB.I.1,(gh.block _ (by omega)).trans Cj.I⟩
    clear qH gT mP xI gh mI qJ wg;refine tt 9 wj ?_;refine L7 10 (fun K hK=> ?_);go_wp2_with fail;refine hK.out _ _ ⟨H8.I.1.1.1,HX8.I⟩ (fun hHeld=> ?_);clear hK K hHeld
    try simp only [pt,sb,s0,s1]
    refine K3 (by kernel_rfl) ?_ _;clear co fo wj hq HX8 Cj;go_wp2_with fail;generalize w7.setCell ⟨o,3,none⟩ (.slice a7 (k+1) c7)=W8 at *;have HS:Hid (W8.cell? ⟨w.heap.size,3,none⟩=some (.slice p.bc p.aj.length p.bF)):=H8.I.1.1.1.cells.2.2.2.1;have co8:W8.drew.cell? ⟨o,3,none⟩=some (.slice a7 (k+1) c7):=by rw [K5 _ _ _ _ _ _ (show W8.drew.heap[o]? =_ from H8.I.1.2.1)]; rfl
    obtain ⟨aS,Jx⟩: ∃ aS,(if p.bF=k then p.bc else Option.map (fun x=>x.add (k * 3)) p.bc)=aS:=⟨_,rfl⟩
    refine Kr (S:=fun w'=>w'.cell? ⟨w.heap.size,3,none⟩=some (.slice p.bc p.aj.length p.bF)) (by kernel_rfl) HS.I (fun hHeld=> ?_);refine tt 0 hHeld ?_ (hy:=fun w0 hS0=>by have cm:=hS0; go_simp; try with_reducible rfl);refine tt 2 hHeld ?_ (hy:=fun w0 hS0=>by have cm:=hS0; go_simp; try with_reducible rfl);refine tt 3 hHeld ?_ (hy:=fun w0 hS0=>by have cm:=hS0; go_simp; try with_reducible rfl);refine tt 4 hHeld ?_ (hy:=fun w0 hS0=>by have cm:=hS0; go_simp; try with_reducible rfl);refine tt 5 hHeld ?_ (hy:=fun w0 hS0=>by have cm:=hS0; go_simp; try with_reducible rfl);refine L7 1 (fun K hK=> ?_);go_wp2_with fail;refine hK.out _ _ HS.I (fun hHeld=> ?_);clear hK K
    try simp only [pt,sb,s0,s1]
    have hbd:Below W8.heap.size W8 W8.drew:=(Kp _ _).drew;have mI:=Em.I.2.2;have hkd:(p.aj.drop k).length=p.aj.length - k:=List.length_drop;obtain ⟨a9,c9,w9,hr,xj,FW,-⟩:=uI W8.drew V2.heap.size a7 c7 (p.aj.take k ++ [z]) (by rw [mI]; exact cR H8.I.2.1 hbd) aS (p.aj.drop k) (p.bF - k) (by rw [← Jx]; exact qK hcap (H8.I.1.1.2.1.below hbd).at.2.1.1) (by rw [mI,hkd]; omega) H8.I.2.2;rw [mI,hkd] at hr xj;have kN:Below V2.heap.size W8.drew w9:=(Kp _ _).grown (a:=W8.drew) FW H8.I.2.2 fun c e=>(cf H8.I.2.1 (di e)).1
    have hq:=HQ.I;have h8:=H8.I;have p7:o < V2.heap.size:=hq.2.2.2.2.2.2;have hwl:w.heap.size+1 < o:=by omega
    have lV:w9.heap[o]? =some (.cells #[.int .i64 q.id,.int .i64 q.next,.slice q.aN q.L8.length q.aW,.slice a7 (k+1) c7,.slice q.ay q.L9.length q.aO,.slice q.ax q.ag.length q.aP,.slice q.am q.ae.length q.aG,.slice q.aK q.ai.length q.aV] 32 (0,0)):=(kN.block _ p7).trans h8.1.2.1;have H9:Hid (w9.cell? ⟨w.heap.size,3,none⟩=some (.slice p.bc p.aj.length p.bF)∧(w9.setCell ⟨o,3,none⟩ (.slice a9 (k+1+(p.aj.length - k)) c9)).cell? ⟨w.heap.size,3,none⟩=some (.slice p.bc p.aj.length p.bF)):=by
     have e1:w9.cell? ⟨w.heap.size,3,none⟩=some (.slice p.bc p.aj.length p.bF):=(J1 (kN.block _ (by show w.heap.size < _; omega))).trans HS.I;exact ⟨e1,(J1 (aH (by show w.heap.size≠o; omega))).trans e1⟩
    have sR:((p.aj.take k ++ [z]) ++ p.aj.drop k).length=k+1+(p.aj.length - k):=by rw [Lf,mI,hkd]
    have gn:({ q with aj:=(p.aj.take k ++ [z]) ++ p.aj.drop k,bc:=a9,bF:=c9 } :af).pure= { p.pure with aj:=cA (·.id) z p.pure.aj } :=by
     have e1:(p.aj.take k ++ [z]) ++ p.aj.drop k=cA (·.id) z p.pure.aj:=by
      rw [List.append_assoc];exact tP HA.I (fun y hy=>by have h5:=HX.I y hy; show ¬ y.id < z.id; omega)
     have e2:=HQ.I.2.2.1
     show ({ q.pure with aj:=(p.aj.take k ++ [z]) ++ p.aj.drop k } :aE)=_
     rw [e1,e2]
    have eX:Hid (av (w9.setCell ⟨o,3,none⟩ (.slice a9 (k+1+(p.aj.length - k)) c9)) w.heap.size p∧ap (w9.setCell ⟨o,3,none⟩ (.slice a9 (k+1+(p.aj.length - k)) c9)) b0 p∧Below w.heap.size w (w9.setCell ⟨o,3,none⟩ (.slice a9 (k+1+(p.aj.length - k)) c9))∧(w9.setCell ⟨o,3,none⟩ (.slice a9 (k+1+(p.aj.length - k)) c9)).heap[w.heap.size+1+1]? =some (.cells ar 32 (0,0))∧av (w9.setCell ⟨o,3,none⟩ (.slice a9 (k+1+(p.aj.length - k)) c9)) o ({ q with aj:=(p.aj.take k ++ [z]) ++ p.aj.drop k,bc:=a9,bF:=c9 } :af)∧ap (w9.setCell ⟨o,3,none⟩ (.slice a9 (k+1+(p.aj.length - k)) c9)) W.heap.size ({ q with aj:=(p.aj.take k ++ [z]) ++ p.aj.drop k,bc:=a9,bF:=c9 } :af)∧({ q with aj:=(p.aj.take k ++ [z]) ++ p.aj.drop k,bc:=a9,bF:=c9 } :af).pure= { p.pure with aj:=cA (·.id) z p.pure.aj }):=by
     have hpb: ∀ g∈p.Mc,g < w.heap.size:=Au.I;have nW: ∀ g∈q.Mc,g < o:=hq.2.2.2.1;have sm: ∀ g,g < V2.heap.size→g≠o→(w9.setCell ⟨o,3,none⟩ (.slice a9 (k+1+(p.aj.length - k)) c9)).heap[g]? =W8.heap[g]? :=fun g hg hne=>(aH hne).trans (kN.block _ hg)
     have lY:Below w.heap.size w (w9.setCell ⟨o,3,none⟩ (.slice a9 (k+1+(p.aj.length - k)) c9)):=bP (h8.1.1.2.2.1.drew.trans (kN.mono (by omega))) (by omega);refine ⟨(sm _ (by omega) (by omega)).trans h8.1.1.1,h8.1.1.2.1.same fun g hg=>sm g (by have:=hpb g hg; omega) (by have:=hpb g hg; omega),lY,(sm _ (by omega) (by omega)).trans h8.1.1.2.2.2,?_,?_,gn⟩
     ·have h5:=cx (i:=3) (v:= .slice a9 (k+1+(p.aj.length - k)) c9) lV
      unfold av;simp only [sR];exact h5
     ·refine h8.1.2.2.newSem (B:=V2.heap.size) (by omega) (fun g hg=>by have:=nW g hg; omega) (fun g hg=>sm g (by have:=nW g hg; omega) (by have:=nW g hg; omega)) ?_
      rw [sR];exact aL xj fun g hg=>aH (by have:=(cf xj hg).1; omega)
    refine L7 6 (fun K hK=> ?_);refine cM _ _ _ rfl _ _ _ w9 rfl rfl hr ?_;refine hK.out _ _ H9.I.1 (fun hHeld=> ?_);clear hK K
    try simp only [pt,sb,s0,s1]
    obtain ⟨⟨u,co⟩,fo⟩:(∃ u,w9.cell? ⟨o,3,none⟩=some u)∧w9.frozen? ⟨o,3,none⟩=false:=⟨⟨_,by rw [K5 _ _ _ _ _ _ lV]; rfl⟩,Ko _ _ _ _ _ lV⟩
    clear hr xj FW kN hq h8 p7 hwl lV hbd;refine tt 7 hHeld ?_ (hy:=fun w0 hS0=>by have cm:=hS0; go_simp; try with_reducible rfl);refine L7 8 (fun K hK=> ?_);go_wp2_with fail;refine hK.out _ _ H9.I.2 (fun hHeld=> ?_);clear hK K
    try simp only [pt,sb,s0,s1]
    refine K3 (by kernel_rfl) ?_ _;clear hHeld co fo H9 HS co8;generalize w9.setCell ⟨o,3,none⟩ (.slice a9 (k+1+(p.aj.length - k)) c9)=W10 at *;have Mb:=fi p ({ q with aj:=(p.aj.take k ++ [z]) ++ p.aj.drop k,bc:=a9,bF:=c9 } :af) W10 ⟨fl.I.1,fl.I.2.1,eX.I.2.1.at⟩ (fun hr=>by
     have h5:aE.Small ({ q with aj:=(p.aj.take k ++ [z]) ++ p.aj.drop k,bc:=a9,bF:=c9 } :af).pure:=by rw [eX.I.2.2.2.2.2.2]; exact yN fl.I.2.2.1 hr fl.I.2.2.2
     exact ⟨dV h5,fun x hx=>(cY h5 hx).1,eX.I.2.2.2.2.2.1.at⟩)
    obtain ⟨m0,m1,m2,m3,m4,m5,m6,m7⟩:=eX.I.1.cells;obtain ⟨k0,k1,k2,k3,k4,k5,k6,k7⟩:=eX.I.2.2.2.2.1.cells;unfold af.cells at Mb;simp only [sR] at Mb k0 k1 k2 k3 k4 k5 k6 k7;have DM:Hid (((p.aj.take k ++ [z]) ++ p.aj.drop k).length=k+1+(p.aj.length - k)):=sR;clear sR mI hkd Jx gn;go_wp2_with fail;refine Mb.mono ?_;clear Mb m0 m1 m2 m3 m4 m5 m6 m7 k0 k1 k2 k3 k4 k5 k6 k7;rintro e ow ⟨gy,hok⟩;have hq:=HQ.I.2.2.2.2;have HZ:Hid (Below w.heap.size w ow∧ow.heap[w.heap.size+1+1]? =some (.cells ar 32 (0,0))∧ap ow W.heap.size ({ q with aj:=(p.aj.take k ++ [z]) ++ p.aj.drop k,bc:=a9,bF:=c9 } :af)∧w.heap.size+1+1 < W.heap.size):=⟨eX.I.2.2.1.trans (gy.mono eX.I.2.2.1.size),(gy.block _ (J2.1 eX.I.2.2.2.1).1).trans eX.I.2.2.2.1,eX.I.2.2.2.2.2.1.below gy,hq.2.1⟩
    clear gy hq;rw [eX.I.2.2.2.2.2.2] at hok;rcases hok with ⟨hok,rfl⟩ | ⟨hok,rfl⟩
    ·have HN:Hid (cB p.pure { p.pure with aj:=cA (·.id) z p.pure.aj } =some { p.pure with aj:=cA (·.id) z p.pure.aj }):=jS hok
     clear hok;go_wp2_with (refine ec 4 49 (w.heap.size+1+1) #[.int .i64 q.id,.int .i64 q.next,.slice q.aN q.L8.length q.aW,.slice a9 (k+1+(p.aj.length - k)) c9,.slice q.ay q.L9.length q.aO,.slice q.ax q.ag.length q.aP,.slice q.am q.ae.length q.aG,.slice q.aK q.ai.length q.aV] HZ.I.2.1 ?_);refine mG Tryz.results35 (w.heap.size+1+1) #[.int .i64 q.id,.int .i64 q.next,.slice q.aN q.L8.length q.aW,.slice a9 (k+1+(p.aj.length - k)) c9,.slice q.ay q.L9.length q.aO,.slice q.ax q.ag.length q.aP,.slice q.am q.ae.length q.aG,.slice q.aK q.ai.length q.aV] (.bool true) HZ.I.2.1 ?_;have hl:=HZ.I.2.2.2;rw [HN.I];refine ⟨({ q with aj:=(p.aj.take k ++ [z]) ++ p.aj.drop k,bc:=a9,bF:=c9 } :af),by unfold af.cells; simp only [DM.I]; rfl,(HZ.I.2.2.1.lower (by omega)).same fun g hg=>KH _ _ _ _ (by have:=(HZ.I.2.2.1.lt g hg).1; omega),eX.I.2.2.2.2.2.2,below_setRow HZ.I.1 (by omega) _⟩
    ·have HN:Hid (cB p.pure { p.pure with aj:=cA (·.id) z p.pure.aj } =none):=jh hok
     clear hok;go_wp2_with (refine ec 4 49 (w.heap.size+1+1) ar HZ.I.2.1 ?_);refine mG Tryz.results35 (w.heap.size+1+1) ar (.bool false) HZ.I.2.1 ?_;exact ca HN.I (below_setRow HZ.I.1 (by omega) _)
def fE (code:Int) (x:ao):ao:=⟨jT code x.toaD,x.aY,x.bH⟩
abbrev CB (W w:World) (base:Nat) (q:af) (v:Array Value):Prop:=av W w.heap.size q∧W.heap[w.heap.size+1]? =some (.cells ar 32 (0,0))∧W.heap[w.heap.size+1+1]? =some (.cells v 43 (0,0))∧ap W base q∧Below w.heap.size w W
theorem aI.more {w w1 w2:World} {bs:List Nat} (h:aI w w1 bs) (hb:Below w.heap.size w1 w2):aI w w2 bs:=⟨hb.os.trans h.os,hb.tape.trans h.tape,hb.output.trans h.output,Nat.le_trans h.size hb.size,fun g hg hn=>(hb.block g hg).trans (h.same g hg hn)⟩
theorem ug {W w:World} {base gs n:Nat} {q:af} {x y:ao} {vs:List Value} (h1:av W w.heap.size q) (h2:W.heap[w.heap.size+1]? =some (.cells ar 32 (0,0))) (h3:w.heap.size+1+1 < W.heap.size) (h4:ap W base q) (h5:Below w.heap.size w W)
  (hx:q.L8[n]? =some x) (ha:q.aN=some ⟨gs,0,none⟩) (hb:base≤w.heap.size) (CT:base≤gs) (hg2:gs < w.heap.size) (yD: ∀ g∈q.Mc,g < w.heap.size) (hv:vs=bg.vals y) (hy:y.prog=x.prog∧y.aY=x.aY∧y.bH=x.bH):
  W.there gs (n * 12) 12∧ap (W.setCells gs (n * 12) vs) base ({ q with L8:=q.L8.set n y } :af)∧av (W.setCells gs (n * 12) vs) w.heap.size q∧(W.setCells gs (n * 12) vs).heap[w.heap.size+1]? =some (.cells ar 32 (0,0))∧Below base w (W.setCells gs (n * 12) vs)∧(∀ g∈({ q with L8:=q.L8.set n y } :af).Mc,g≠w.heap.size+1)∧aI w (W.setCells gs (n * 12) vs) [gs] :=by
 have hn:n < q.L8.length:=(Lj.1 hx).1;have hl:vs.length=12:=by rw [hv]; exact bg.len y
 have oC:W.there gs (n * 12) 12:=by
  obtain ⟨g,hg,hrow⟩:=bl.fX (K:=bg) h4.L8 (by omega);rw [ha] at hg;cases hg;exact fun j hj=>⟨by have h7:=(hrow.cell hx (r:=j) hj).1; rw [show bg.n=12 from rfl] at h7; rw [h7,List.getElem?_eq_getElem (by rw [bg.len]; exact hj)]; rfl,(hrow.cell hx (r:=j) hj).2⟩
 have h7:=h4.kB (n:=n) (j:=0) (x:=x) (y:=y) (vs:=vs) hx ha hy (by omega) (fun r _=>by rw [Li,hv]) (fun r hr hn=>absurd ⟨Ky _,by omega⟩ hn);rw [Nat.add_zero,← iL] at h7;have hs: ∀ g,g≠gs→g < W.heap.size→(W.setCells gs (n * 12) vs).heap[g]? =W.heap[g]? :=fun g hg hl=>h7.2.1.same g hl (by simpa using hg)
 refine ⟨oC,h7.1,(hs _ (by omega) (by omega)).trans h1,(hs _ (by omega) (by omega)).trans h2,(h5.mono hb).trans (h7.2.1.below (by omega) (by simp; omega)),fun g hg e=> ?_,(aI.dI h5).trans h7.2.1⟩;have h8:=yD g (h7.2.2 ▸ hg);omega
theorem ve (q:af) (n base:Nat) (x:ao) (code:Int) (w:World) (h:ap w base q) (hb:base≤w.heap.size) (hx:q.L8[n]? =some x) (hpc:0≤x.pc∧x.pc < x.prog.length) (hl:x.prog.length≤1048576):
  Calls J3 219 #[.agg q.cells,.int .i64 n,.int .i64 code] w fun e w'=>e= .returned (.agg q.cells)∧ap w' base ({ q with L8:=q.L8.set n (fE code x) } :af)∧Below base w w'∧aI w w' (blk q.aN):=by
 obtain ⟨gs,ha,hat⟩:=cn h.at.1 hx;have hgs:=cf h.L8 (g:=gs) (by rw [ha]; simp [blk]);have hnl:n < q.L8.length:=(Lj.1 hx).1;obtain ⟨qi,qn,ps,pA,pC,ss,sA,sC,es,eA,eC,bs,bA,bC,fs,fA,fC,ts,tA,tC⟩:=q;simp only at ha;subst ha;obtain ⟨C,hC⟩: ∃ C:Array Value,C= #[.int .i64 qi,.int .i64 qn,.slice (some ⟨gs,0,none⟩) ps.length pC,.slice sA ss.length sC,.slice eA es.length eC,.slice bA bs.length bC,.slice fA fs.length fC,.slice tA ts.length tC] :=⟨_,rfl⟩
 obtain ⟨G,hG⟩: ∃ G:Array Value,G= #[.int .i64 x.id,.int .i64 x.RX,.slice x.aY x.prog.length x.bH,.int .i64 1,.int .i64 (x.pc+1),.int .i64 0,.int .i64 0,.int .i64 0,.string ⟨#[]⟩,.string x.got,.int .i64 code,.int .i64 x.RU] :=⟨_,rfl⟩
 obtain ⟨D,hD⟩: ∃ D:af,D=(⟨qi,qn,ps,some ⟨gs,0,none⟩,pC,ss,sA,sC,es,eA,eC,bs,bA,bC,fs,fA,fC,ts,tA,tC⟩:af):=⟨_,rfl⟩
 obtain ⟨A,hA⟩: ∃ A:World,A=(w.alloc (.cells C 32)).alloc (.cells ar 32):=⟨_,rfl⟩
 obtain ⟨B,hB⟩: ∃ B:World,B=A.alloc (.cells G 43):=⟨_,rfl⟩
 have b1:Below w.heap.size w A:=by rw [hA]; exact dT _ _ _
 have b2:Below w.heap.size w B:=by rw [hB,hA]; exact fg _ _ _ _
 have h3:=dR w (.cells C 32) (.cells ar 32) (.cells G 43);have H6:Hid (CB B w base D G):=by subst hB hA hG hD hC; exact ⟨h3.1,h3.2.1,h3.2.2.1,h.below b2,b2⟩
 have HC:Hid (ps[n]? =some x∧base≤gs∧gs < w.heap.size∧base≤w.heap.size∧n < ps.length):=⟨hx,hgs.1,hgs.2,hb,hnl⟩
 obtain ⟨d0,d1,d2,d3,d4,d5,d6,d7,d8,d9,tH,tS⟩:ao.At A gs n x:=by
  obtain ⟨g,e,h5⟩:=cn (h.below b1).at.1 hx;cases e;exact h5
 have PBK:Hid (∀ g∈D.Mc,g < w.heap.size):=fun g hg=>(h.lt g (hD ▸ hg)).2
 obtain ⟨n0,n1⟩:=hpc;have n2:x.pc≤1048576:=by omega
 have j0:(0:Int)≤(n:Int):=by omega
 have j1:(n:Int) < (ps.length:Int):=by have:n < ps.length:=hnl; omega
 clear h hb hx hgs hat b1 b2 h3 hnl hl;subst hB hA hG hD hC;unfold af.cells;simp only
 go_enter Tryz.func219,Tryz.ntmps219
 by_cases hlen:x.pc+1=x.prog.length
 ·have PE:Hid (fE code x=(⟨j7 (jM code x.toaD),x.aY,x.bH⟩:ao)):=by show fE code x=_; unfold fE jT; rw [if_pos hlen]
  have e1:(x.pc+1 == (x.prog.length:Int))=true:=by simp [hlen]
  clear hlen n1;have Mb:=mN (⟨jM code x.toaD,x.aY,x.bH⟩:ao);simp only [jM,rM] at Mb;go_wp2_with fail;clear d0 d1 d2 d3 d4 d5 d6 d7 d8 d9 tH tS e1;refine (Mb _).mono ?_;clear Mb;rintro e w5 ⟨rfl,iJ⟩;have H5:Hid (CB w5 w base (⟨qi,qn,ps,some ⟨gs,0,none⟩,pC,ss,sA,sC,es,eA,eC,bs,bA,bC,fs,fA,fC,ts,tA,tC⟩:af) #[.int .i64 x.id,.int .i64 x.RX,.slice x.aY x.prog.length x.bH,.int .i64 1,.int .i64 (x.pc+1),.int .i64 0,.int .i64 0,.int .i64 0,.string ⟨#[]⟩,.string x.got,.int .i64 code,.int .i64 x.RU]):=⟨H6.I.1.below iJ,(iJ.block _ (J2.1 H6.I.2.1).1).trans H6.I.2.1,(iJ.block _ (J2.1 H6.I.2.2.1).1).trans H6.I.2.2.1,H6.I.2.2.2.1.below iJ,H6.I.2.2.2.2.trans (iJ.mono H6.I.2.2.2.2.size)⟩
  have H8:Hid (CB (w5.setRow (w.heap.size+1+1) #[.int .i64 x.id,.int .i64 x.RX,.slice x.aY x.prog.length x.bH,.int .i64 0,.int .i64 0,.int .i64 0,.int .i64 0,.int .i64 0,.string ⟨#[]⟩,.string x.got,.int .i64 code,.int .i64 0]) w base (⟨qi,qn,ps,some ⟨gs,0,none⟩,pC,ss,sA,sC,es,eA,eC,bs,bA,bC,fs,fA,fC,ts,tA,tC⟩:af) #[.int .i64 x.id,.int .i64 x.RX,.slice x.aY x.prog.length x.bH,.int .i64 0,.int .i64 0,.int .i64 0,.int .i64 0,.int .i64 0,.string ⟨#[]⟩,.string x.got,.int .i64 code,.int .i64 0]):=by
   refine ⟨(KH _ _ _ _ (by omega)).trans H5.I.1,(KH _ _ _ _ (by omega)).trans H5.I.2.1,setRow_heap _ _ _ _ _ _ H5.I.2.2.1,H5.I.2.2.2.1.same fun g hg=>KH _ _ _ _ (by have:=PBK.I g hg; omega),below_setRow H5.I.2.2.2.2 (by omega) _⟩
  clear iJ H6;obtain ⟨m0,m1,m2,m3,m4,m5,m6,m7⟩:=H8.I.1.cells;obtain ⟨r0,r1,r2,r3,r4,r5,r6,r7,r8,r9,Ju,Jq⟩:=bo (x:=(⟨j7 (jM code x.toaD),x.aY,x.bH⟩:ao)) H8.I.2.2.1;have hz:=ug (y:=(⟨j7 (jM code x.toaD),x.aY,x.bH⟩:ao)) (vs:=(#[.int .i64 x.id,.int .i64 x.RX,.slice x.aY x.prog.length x.bH,.int .i64 0,.int .i64 0,.int .i64 0,.int .i64 0,.int .i64 0,.string ⟨#[]⟩,.string x.got,.int .i64 code,.int .i64 0] :Array Value).toList) H8.I.1 H8.I.2.1 (J2.1 H8.I.2.2.1).1 H8.I.2.2.2.1 H8.I.2.2.2.2 HC.I.1 rfl HC.I.2.2.2.1 HC.I.2.1 HC.I.2.2.1 PBK.I rfl ⟨rfl,rfl,rfl⟩;have oC:=hz.1;have HZ:Hid (_):=hz.2;clear hz;simp only [j7,jM] at r0 r1 r2 r3 r4 r5 r6 r7 r8 r9 Ju Jq
  dsimp only
  repeat (first | (go_big_may; first | (refine wpList_store_row rfl 43 (Operand.tmp 7) (Operand.tmp 31) rfl (w.heap.size+1+1) _ _ #[.int .i64 x.id,.int .i64 x.RX,.slice x.aY x.prog.length x.bH,.int .i64 0,.int .i64 0,.int .i64 0,.int .i64 0,.int .i64 0,.string ⟨#[]⟩,.string x.got,.int .i64 code,.int .i64 0] rfl rfl H5.I.2.2.1 (by kernel_rfl) rfl (by kernel_rfl) ?_) | (refine wpList_store_mid rfl 43 (Operand.tmp 36) (Operand.tmp 35) rfl gs (n * 12) #[.int .i64 x.id,.int .i64 x.RX,.slice x.aY x.prog.length x.bH,.int .i64 0,.int .i64 0,.int .i64 0,.int .i64 0,.int .i64 0,.string ⟨#[]⟩,.string x.got,.int .i64 code,.int .i64 0] rfl rfl ?ht (by kernel_rfl) (by kernel_rfl) ?_)) | go_values | go_skip | go_guarded | go_step | go_upon)
  case ht=>exact oC
  clear oC m0 m1 m2 m3 m4 m5 m6 m7 r0 r1 r2 r3 r4 r5 r6 r7 r8 r9 Ju Jq;generalize World.setCells (w5.setRow (w.heap.size+1+1) #[.int .i64 x.id,.int .i64 x.RX,.slice x.aY x.prog.length x.bH,.int .i64 0,.int .i64 0,.int .i64 0,.int .i64 0,.int .i64 0,.string ⟨#[]⟩,.string x.got,.int .i64 code,.int .i64 0]) gs (n * 12) (#[.int .i64 x.id,.int .i64 x.RX,.slice x.aY x.prog.length x.bH,.int .i64 0,.int .i64 0,.int .i64 0,.int .i64 0,.int .i64 0,.string ⟨#[]⟩,.string x.got,.int .i64 code,.int .i64 0] :Array Value).toList=WZ at *;obtain ⟨k0,k1,k2,k3,k4,k5,k6,k7⟩:=HZ.I.2.1.cells;go_wp2_with (refine ec 6 37 (w.heap.size+1) #[.int .i64 qi,.int .i64 qn,.slice (some ⟨gs,0,none⟩) ps.length pC,.slice sA ss.length sC,.slice eA es.length eC,.slice bA bs.length bC,.slice fA fs.length fC,.slice tA ts.length tC] HZ.I.2.2.1 ?_);refine gZ Tryz.results219 (w.heap.size+1) #[.int .i64 qi,.int .i64 qn,.slice (some ⟨gs,0,none⟩) ps.length pC,.slice sA ss.length sC,.slice eA es.length eC,.slice bA bs.length bC,.slice fA fs.length fC,.slice tA ts.length tC] HZ.I.2.2.1 ?_;rw [PE.I];exact ⟨rfl,HZ.I.1.same fun g hg=>KH _ _ _ _ (HZ.I.2.2.2.2.1 g hg),below_setRow HZ.I.2.2.2.1 (by have:=HC.I.2.2.2.1; omega) _,HZ.I.2.2.2.2.2.more (below_setRow (Kp _ _) (by omega) _)⟩
 ·have PE:Hid (fE code x=(⟨jM code x.toaD,x.aY,x.bH⟩:ao)):=by show fE code x=_; unfold fE jT; rw [if_neg hlen]
  have e1:(x.pc+1 == (x.prog.length:Int))=false:=by simp [hlen]
  clear hlen n1;obtain ⟨m0,m1,m2,m3,m4,m5,m6,m7⟩:=H6.I.1.cells;obtain ⟨r0,r1,r2,r3,r4,r5,r6,r7,r8,r9,Ju,Jq⟩:=bo (x:=(⟨jM code x.toaD,x.aY,x.bH⟩:ao)) H6.I.2.2.1;have hz:=ug (y:=(⟨jM code x.toaD,x.aY,x.bH⟩:ao)) (vs:=(#[.int .i64 x.id,.int .i64 x.RX,.slice x.aY x.prog.length x.bH,.int .i64 1,.int .i64 (x.pc+1),.int .i64 0,.int .i64 0,.int .i64 0,.string ⟨#[]⟩,.string x.got,.int .i64 code,.int .i64 x.RU] :Array Value).toList) H6.I.1 H6.I.2.1 (J2.1 H6.I.2.2.1).1 H6.I.2.2.2.1 H6.I.2.2.2.2 HC.I.1 rfl HC.I.2.2.2.1 HC.I.2.1 HC.I.2.2.1 PBK.I rfl ⟨rfl,rfl,rfl⟩;have oC:=hz.1;have HZ:Hid (_):=hz.2;clear hz;simp only [jM] at r0 r1 r2 r3 r4 r5 r6 r7 r8 r9 Ju Jq
  repeat (first | (go_big_may; first | (refine wpList_store_mid rfl 43 (Operand.tmp 36) (Operand.tmp 35) rfl gs (n * 12) #[.int .i64 x.id,.int .i64 x.RX,.slice x.aY x.prog.length x.bH,.int .i64 1,.int .i64 (x.pc+1),.int .i64 0,.int .i64 0,.int .i64 0,.string ⟨#[]⟩,.string x.got,.int .i64 code,.int .i64 x.RU] rfl rfl ?ht (by kernel_rfl) (by kernel_rfl) ?_)) | go_values | go_skip | go_guarded | go_step | go_upon)
  case ht=>exact oC
  clear oC m0 m1 m2 m3 m4 m5 m6 m7 r0 r1 r2 r3 r4 r5 r6 r7 r8 r9 Ju Jq;generalize World.setCells _ gs (n * 12) (#[.int .i64 x.id,.int .i64 x.RX,.slice x.aY x.prog.length x.bH,.int .i64 1,.int .i64 (x.pc+1),.int .i64 0,.int .i64 0,.int .i64 0,.string ⟨#[]⟩,.string x.got,.int .i64 code,.int .i64 x.RU] :Array Value).toList=WZ at *;obtain ⟨k0,k1,k2,k3,k4,k5,k6,k7⟩:=HZ.I.2.1.cells;go_wp2_with (refine ec 6 37 (w.heap.size+1) #[.int .i64 qi,.int .i64 qn,.slice (some ⟨gs,0,none⟩) ps.length pC,.slice sA ss.length sC,.slice eA es.length eC,.slice bA bs.length bC,.slice fA fs.length fC,.slice tA ts.length tC] HZ.I.2.2.1 ?_);refine gZ Tryz.results219 (w.heap.size+1) #[.int .i64 qi,.int .i64 qn,.slice (some ⟨gs,0,none⟩) ps.length pC,.slice sA ss.length sC,.slice eA es.length eC,.slice bA bs.length bC,.slice fA fs.length fC,.slice tA ts.length tC] HZ.I.2.2.1 ?_;rw [PE.I];exact ⟨rfl,HZ.I.1.same fun g hg=>KH _ _ _ _ (HZ.I.2.2.2.2.1 g hg),below_setRow HZ.I.2.2.2.1 (by have:=HC.I.2.2.2.1; omega) _,HZ.I.2.2.2.2.2.more (below_setRow (Kp _ _) (by omega) _)⟩
theorem Bt {W w:World} {base gs n:Nat} {q:af} {x:ao} {nx:Int} (h1:av W w.heap.size q) (h2:W.heap[w.heap.size+1]? =some (.cells ar 32 (0,0))) (h4:ap W base q) (h5:Below w.heap.size w W)
  (hx:q.L8[n]? =some x) (ha:q.aN=some ⟨gs,0,none⟩) (hb:base≤w.heap.size) (CT:base≤gs) (hg2:gs < w.heap.size) (yD: ∀ g∈q.Mc,g < w.heap.size):
  ((∃ u,W.cell? ⟨gs,n * 12+11,none⟩=some u)∧W.frozen? ⟨gs,n * 12+11,none⟩=false)∧ap (W.setCell ⟨gs,n * 12+11,none⟩ (.int .i64 nx)) base ({ q with L8:=q.L8.set n { x with RU:=nx } } :af)∧av (W.setCell ⟨gs,n * 12+11,none⟩ (.int .i64 nx)) w.heap.size q∧(W.setCell ⟨gs,n * 12+11,none⟩ (.int .i64 nx)).heap[w.heap.size+1]? =some (.cells ar 32 (0,0))∧Below base w (W.setCell ⟨gs,n * 12+11,none⟩ (.int .i64 nx))∧(∀ g∈({ q with L8:=q.L8.set n { x with RU:=nx } } :af).Mc,g < w.heap.size)∧aI w (W.setCell ⟨gs,n * 12+11,none⟩ (.int .i64 nx)) [gs] :=by
 have hn:n < q.L8.length:=(Lj.1 hx).1;have hc:(∃ u,W.cell? ⟨gs,n * 12+11,none⟩=some u)∧W.frozen? ⟨gs,n * 12+11,none⟩=false:=by
  obtain ⟨g,hg,hrow⟩:=bl.fX (K:=bg) h4.L8 (by omega);rw [ha] at hg;cases hg;exact ⟨⟨_,(hrow.cell hx (r:=11) (by decide)).1⟩,(hrow.cell hx (r:=11) (by decide)).2⟩
 have h7:=h4.kB (n:=n) (j:=11) (x:=x) (y:= { x with RU:=nx }) (vs:= [.int .i64 nx]) hx ha ⟨rfl,rfl,rfl⟩ (by show 11+1≤12; omega) (fun r hr=>by match r,hr with | 0,_=>rfl) (fun r hr hn=>by
  have hne:r≠11:=fun e=>hn ⟨by omega,by show r < 11+1; omega⟩
  match r,hr,hne with | 0,_,_=>rfl | 1,_,_=>rfl | 2,_,_=>rfl | 3,_,_=>rfl | 4,_,_=>rfl | 5,_,_=>rfl | 6,_,_=>rfl | 7,_,_=>rfl | 8,_,_=>rfl | 9,_,_=>rfl | 10,_,_=>rfl | 11,_,hne=>exact absurd rfl hne)
 simp only [bn] at h7;have l1:=(J2.1 h2).1;have hs: ∀ g,g≠gs→(W.setCell ⟨gs,n * 12+11,none⟩ (.int .i64 nx)).heap[g]? =W.heap[g]? :=fun g hg=>aH hg
 exact ⟨hc,h7.1,(hs _ (by omega)).trans h1,(hs _ (by omega)).trans h2,(h5.mono hb).trans (h7.2.1.below (by have:=h5.size; omega) (by simp; omega)),fun g hg=>yD g (h7.2.2 ▸ hg),(aI.dI h5).trans h7.2.1⟩
theorem qG (q:af) (n base:Nat) (x:ao) (w:World) (h:ap w base q) (hb:base≤w.heap.size) (hx:q.L8[n]? =some x) (hn:0≤q.next∧q.next≤1000000000):
  Calls J3 98 #[.agg q.cells,.int .i64 n] w fun e w'=> ∃ q2:af,e= .returned (.agg q2.cells)∧q2= { q with next:=q.next+1,L8:=q.L8.set n { x with RU:=q.next } } ∧ap w' base q2∧Below base w w'∧aI w w' (blk q.aN):=by
 obtain ⟨gs,ha,-⟩:=cn h.at.1 hx;have hgs:=cf h.L8 (g:=gs) (by rw [ha]; simp [blk]);have hnl:n < q.L8.length:=(Lj.1 hx).1;have b1:Below w.heap.size w ((w.alloc (.cells q.cells 32)).alloc (.cells ar 32)):=dT _ _ _;have h2:=cZ w (.cells q.cells 32) (.cells ar 32);have hz:=Bt (nx:=q.next) h2.1 h2.2 (h.below b1) b1 hx ha hb hgs.1 hgs.2 fun g hg=>(h.lt g hg).2
 obtain ⟨⟨⟨u,pe⟩,f11⟩,hz⟩:=hz;have H2:Hid (_):=hz;have HB:Hid (av ((w.alloc (.cells q.cells 32)).alloc (.cells ar 32)) w.heap.size q∧base≤w.heap.size∧q.aN=some ⟨gs,0,none⟩):=⟨h2.1,hb,ha⟩
 have H3:Hid ((((w.alloc (.cells q.cells 32)).alloc (.cells ar 32)).setCell ⟨gs,n * 12+11,none⟩ (.int .i64 q.next)).setCell ⟨w.heap.size,1,none⟩ (.int .i64 (q.next+1)) |> fun W=>av W w.heap.size { q with next:=q.next+1 } ∧W.heap[w.heap.size+1]? =some (.cells ar 32 (0,0))∧ap W base { q with next:=q.next+1,L8:=q.L8.set n { x with RU:=q.next } } ∧Below base w W∧(∀ g∈({ q with L8:=q.L8.set n { x with RU:=q.next } } :af).Mc,g < w.heap.size)∧aI w W [gs]):=by
  have ho:=hz.1.same (w':=(((w.alloc (.cells q.cells 32)).alloc (.cells ar 32)).setCell ⟨gs,n * 12+11,none⟩ (.int .i64 q.next)).setCell ⟨w.heap.size,1,none⟩ (.int .i64 (q.next+1))) fun g hg=>aH (by have:=hz.2.2.2.2.1 g hg; omega)
  exact ⟨cx (i:=1) (v:= .int .i64 (q.next+1)) hz.2.1,(aH (by omega)).trans hz.2.2.1,⟨ho.L8,ho.aj,ho.L9,ho.ag,ho.ae,ho.ai,ho.eI,ho.eE,ho.eR,ho.nodup⟩,bP hz.2.2.2.1 hb,hz.2.2.2.2.1,hz.2.2.2.2.2.more (bP (Kp _ _) (Ki _))⟩
 have k1f:(((w.alloc (.cells q.cells 32)).alloc (.cells ar 32)).setCell ⟨gs,n * 12+11,none⟩ (.int .i64 q.next)).frozen? ⟨w.heap.size,1,none⟩=false:=Ko _ _ _ _ _ hz.2.1;have k1:=hz.2.1.cells.2.1;obtain ⟨-,m1,m2,-⟩:=h2.1 |> av.cells (p:=q)
 obtain ⟨r0,r1,r2,r3,r4,r5,r6,r7⟩:=H3.I.1.cells;have j0:(0:Int)≤(n:Int):=by omega
 have j1:(n:Int) < (q.L8.length:Int):=by omega
 obtain ⟨n0,n1⟩:=hn;clear h hb hx b1 h2 hz hgs hnl;rw [ha] at m2;unfold af.cells at *;simp only [HB.I.2.2] at *
 go_enter Tryz.func98,Tryz.ntmps98
 go_wp2_with (refine ec 4 16 (w.heap.size+1) #[.int .i64 q.id,.int .i64 (q.next+1),.slice (some ⟨gs,0,none⟩) q.L8.length q.aW,.slice q.bc q.aj.length q.bF,.slice q.ay q.L9.length q.aO,.slice q.ax q.ag.length q.aP,.slice q.am q.ae.length q.aG,.slice q.aK q.ai.length q.aV] H3.I.2.1 ?_);refine gZ Tryz.results98 (w.heap.size+1) #[.int .i64 q.id,.int .i64 (q.next+1),.slice (some ⟨gs,0,none⟩) q.L8.length q.aW,.slice q.bc q.aj.length q.bF,.slice q.ay q.L9.length q.aO,.slice q.ax q.ag.length q.aP,.slice q.am q.ae.length q.aG,.slice q.aK q.ai.length q.aV] H3.I.2.1 ?_;have hb:=HB.I.2.1;refine ⟨_,?_,rfl,H3.I.2.2.1.same fun g hg=>KH _ _ _ _ (by have:=H3.I.2.2.2.2.1 g hg; omega),below_setRow H3.I.2.2.2.1 (by omega) _,?_⟩
 ·simp only [List.length_set]
 ·exact H3.I.2.2.2.2.2.more (below_setRow (Kp _ _) (by omega) _)
end
section
open Go Go.RowKit
theorem pn (a:Act) (v:Value):a.put none v=a:=rfl
theorem tkr {P:Program} {md:Region.Mode} {ops:Array Oper} {Q:Exit→Act→World→Prop} {S:World→Prop} (i:Nat) {oi:Oper} {v:Value} {fuel:Nat} {RV:Array Bool} {a:Act} {w:World} {d:Tmp} (hi:ops[i]? =some oi) (hy:YieldsIf P ops S oi v a) (hS:S w)
  (h:wpAnyH P md ops Q S fuel (RV.setIfInBounds i true) (a.put (some d) v) w) (hd:oi.dst=some d:=by rfl) (h1:Region.noSelect ops=true:=by kernel_rfl) (h2:Region.free md ops RV i=true:=by kernel_rfl) (h3:(Region.ready md ops RV).contains i=true:=by kernel_rfl)
  (hQ: ∀ c a w,Q (.panic c) (a.put (some d) v) w→Q (.panic c) a w:=by exact fun _ _ _ h=>h):wpAnyH P md ops Q S (fuel+1) RV a w:=by
 rw [← hd] at h hQ;exact wpAnyH_take (i:=i) hi h1 h2 h3 hQ hy hS h
def oc (cs:Array Value) (T:TypeId) (X:Nat) (W:World):Prop:=W.heap[X]? =some (.cells cs T (0,0))
section
variable {cs:Array Value} {T:TypeId} {X:Nat} {W W':World} {bs:List Nat}
theorem oc.lt (h:oc cs T X W):X < W.heap.size:=(J2.1 h).1
theorem oc.below (h:oc cs T X W) (hb:Below W.heap.size W W'):oc cs T X W':=(hb.block _ h.lt).trans h
theorem oc.kept (h:oc cs T X W) (hk:aI W W' bs) (hs:X∉bs):oc cs T X W':=(hk.same _ h.lt hs).trans h
end
theorem ga {α : Type} {l : List α} {i : Nat} (h : i < l.toArray.size) : l.toArray[i]'h = l[i]'(by simpa using h) := by simp
theorem gs {α : Type} {a : α} {l : List α} {i : Nat} (h : i + 1 < (a :: l).length) : (a :: l)[i + 1]'h = l[i]'(Nat.lt_of_succ_lt_succ h) := rfl
section
variable {p q:af} {w W U V:World} {B X b:Nat} {cs:Array Value} {T:TypeId} {Y:Prop}
end
end
end Go.Proofs.YtkbcplnlehdjfaaGreat
