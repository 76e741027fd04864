/- What the proof leans on, part 32. -/
import Derived.Test.YtkbcplnlehdjfaaGreatOwnP31
set_option maxRecDepth 100000
set_option maxHeartbeats 8000000
open Array renaming getElem?_eq_some_iff->J2
open Go renaming cell_of_row->K5,frozen_of_row->Ko,heap_alloc2_new->Kq,heap_alloc_new->Kj,setRow_other->KH,wpAnyH_done->K3,wpAnyH_ready->KW,wp_region_held_drew->Kr
open Go.AllReadyH renaming cons->KX,nil->KY
open Go.Proofs.Tryz renaming prog->J3
open Go.RowKit.Below renaming refl->Kp
open Go.World renaming cell?_of_block->J1
open List renaming append_assoc->Lm,getElem?_eq_some_iff->Lj,getElem_cons_succ->K1,getElem_cons_zero->K0,getElem_toArray->KZ,length_append->Lf,length_cons->Lg,length_drop->Ql,length_nil->K4,length_take->Lk,nil_append->Ll
open Nat renaming le_refl->Ki,zero_add->Li,zero_le->Ky

namespace Go.Proofs.YtkbcplnlehdjfaaGreat
section
open Go.RowKit Go.Maps
attribute [local go_sem ↓] Go.wp_at_zero Go.wp_at_succ
theorem tF (p:af) (z:bD) (w:World) (b0:Nat) (hwf:(Lit.int .i64 z.id).wf=true) (qY:p.pure.Small) (h:ap w b0 p):
  Calls J3 35 #[.agg p.cells,.agg #[.int .i64 z.id,.int .i64 z.n,.int .i64 z.max]] w fun e w'=>gI w (cB p.pure { p.pure with aj:=cA (·.id) z p.pure.aj }) e w':=by
 have HB:Hid (av (((w.alloc (.cells p.cells 32)).alloc (.cells #[.int .i64 z.id,.int .i64 z.n,.int .i64 z.max] 49)).alloc (.cells ar 32)) w.heap.size p∧ap (((w.alloc (.cells p.cells 32)).alloc (.cells #[.int .i64 z.id,.int .i64 z.n,.int .i64 z.max] 49)).alloc (.cells ar 32)) b0 p∧Below w.heap.size w (((w.alloc (.cells p.cells 32)).alloc (.cells #[.int .i64 z.id,.int .i64 z.n,.int .i64 z.max] 49)).alloc (.cells ar 32))∧(((w.alloc (.cells p.cells 32)).alloc (.cells #[.int .i64 z.id,.int .i64 z.n,.int .i64 z.max] 49)).alloc (.cells ar 32)).heap[w.heap.size+1+1]? =some (.cells ar 32 (0,0))):=by
  have b1:Below w.heap.size w (((w.alloc (.cells p.cells 32)).alloc (.cells #[.int .i64 z.id,.int .i64 z.n,.int .i64 z.max] 49)).alloc (.cells ar 32)):=fg _ _ _ _;have h3:=dR w (.cells p.cells 32) (.cells #[.int .i64 z.id,.int .i64 z.n,.int .i64 z.max] 49) (.cells ar 32);exact ⟨h3.1,h.below b1,b1,h3.2.2.1⟩
 have Cj:Hid ((((w.alloc (.cells p.cells 32)).alloc (.cells #[.int .i64 z.id,.int .i64 z.n,.int .i64 z.max] 49)).alloc (.cells ar 32)).heap[w.heap.size+1]? =some (.cells #[.int .i64 z.id,.int .i64 z.n,.int .i64 z.max] 49 (0,0))):=(dR _ _ _ _).2.1;have fl:Hid (p.Fit∧(∀ x∈p.L8,x.dX)∧p.pure.Small∧(Lit.int .i64 z.id).wf=true):=⟨dV qY,fun x hx=>(cY qY hx).1,qY,hwf⟩
 have hpl:=fl.I.1.short.aj;have hcap:p.aj.length≤p.bF:=nV h.aj;have pd: ∀ g∈p.Mc,g < w.heap.size:=fun g hg=>(h.lt g hg).2
 clear h qY hwf;obtain ⟨m0,m1,m2,m3,m4,m5,m6,m7⟩:=HB.I.1.cells;unfold af.cells at *
 go_enter Tryz.func35,Tryz.ntmps35
 go_wp2_with fail;generalize ((w.alloc (.cells p.row 32)).alloc (.cells #[.int .i64 z.id,.int .i64 z.n,.int .i64 z.max] 49)).alloc (.cells ar 32)=W at *;clear m0 m1 m2 m3 m4 m5 m6 m7;refine (fR p W fl.I.1 fl.I.2.1 HB.I.2.1.at).mono ?_;rintro e W1 ⟨q,rfl,hown,gn,hb1⟩;have hb2:Below W1.heap.size W1 (W1.alloc (.cells q.cells 32)):=(Kp _ _).alloc (Ki _) _;have hlt:w.heap.size+1+1 < W.heap.size:=(J2.1 HB.I.2.2.2).1;have hb3:Below W.heap.size W (W1.alloc (.cells q.cells 32)):=hb1.trans (hb2.mono hb1.size);have hq1: ∀ g∈q.Mc,g < W1.heap.size:=fun g hg=>(hown.lt g hg).2
 have HQ:Hid (av (W1.alloc (.cells q.cells 32)) W1.heap.size q∧ap (W1.alloc (.cells q.cells 32)) W.heap.size q∧q.pure=p.pure∧(∀ g∈q.Mc,g < W1.heap.size)∧W.heap.size≤W1.heap.size∧w.heap.size+1+1 < W.heap.size∧W1.heap.size < (W1.alloc (.cells q.cells 32)).heap.size):=⟨Kj _ _,hown.below hb2,gn,hq1,hb1.size,hlt,by simp⟩
 replace HB:Hid (av (W1.alloc (.cells q.cells 32)) w.heap.size p∧ap (W1.alloc (.cells q.cells 32)) b0 p∧Below w.heap.size w (W1.alloc (.cells q.cells 32))∧(W1.alloc (.cells q.cells 32)).heap[w.heap.size+1+1]? =some (.cells ar 32 (0,0))):=⟨HB.I.1.below hb3,HB.I.2.1.below hb3,HB.I.2.2.1.trans (hb3.mono HB.I.2.2.1.size),(hb3.block _ hlt).trans HB.I.2.2.2⟩
 replace Cj:Hid ((W1.alloc (.cells q.cells 32)).heap[w.heap.size+1]? =some (.cells #[.int .i64 z.id,.int .i64 z.n,.int .i64 z.max] 49 (0,0))):=(hb3.block _ (by omega)).trans Cj.I;have Au:Hid (∀ g∈p.Mc,g < w.heap.size):=fun g hg=>pd g hg
 clear hown gn hb1 hb2 hb3 hq1 hlt pd;obtain ⟨m0,m1,m2,m3,m4,m5,m6,m7⟩:=HB.I.1.cells;unfold af.cells at *;go_wp2_with fail;generalize W1.alloc (.cells q.row 32)=W2 at *;clear m0 m1 m2 m4 m5 m6 m7;generalize W1.heap.size=o at *;clear m3
 go_loopw [7] (fun i wr=> ∃ k:Nat,k≤p.aj.length∧i= .int .i64 k∧Hid (∀ y∈p.aj.take k,y.id < z.id)∧Hid (Below W2.heap.size W2 wr)) (fun i _=>p.aj.length - (Go.RowKit.intOf i).toNat)
 case atStart=>exact ⟨0,Ky _,rfl,fun y hy=>by simp at hy,Kp _ _⟩
 case round=>
  obtain ⟨k,hk,rfl,HA,Ez⟩:=hrel;have hbr:Below W2.heap.size W2 wr.drew.drew:=Ez.I.drew.drew;have hsz:=hbr.size;replace Ez:Hid (Below W2.heap.size W2 wr.drew):=Ez.I.drew;have hq:=HQ.I;have hzl:w.heap.size+1 < W2.heap.size:=by omega
  replace HB:Hid (av wr.drew.drew w.heap.size p∧ap wr.drew.drew b0 p∧Below w.heap.size w wr.drew.drew∧wr.drew.drew.heap[w.heap.size+1+1]? =some (.cells ar 32 (0,0))):=⟨HB.I.1.below hbr,HB.I.2.1.below hbr,HB.I.2.2.1.trans (hbr.mono HB.I.2.2.1.size),(hbr.block _ (by omega)).trans HB.I.2.2.2⟩
  replace HQ:Hid (av wr.drew.drew o q∧ap wr.drew.drew W.heap.size q∧q.pure=p.pure∧(∀ g∈q.Mc,g < o)∧W.heap.size≤o∧w.heap.size+1+1 < W.heap.size∧o < wr.drew.drew.heap.size):=⟨hq.1.below hbr,hq.2.1.below hbr,hq.2.2.1,hq.2.2.2.1,hq.2.2.2.2.1,hq.2.2.2.2.2.1,by omega⟩
  replace Cj:Hid (wr.drew.drew.heap[w.heap.size+1]? =some (.cells #[.int .i64 z.id,.int .i64 z.n,.int .i64 z.max] 49 (0,0))):=(hbr.block _ hzl).trans Cj.I;clear hbr hsz hq hzl;have m:wr.drew.cell? ⟨w.heap.size,3,none⟩=some (.slice p.bc p.aj.length p.bF):=HB.I.1.cells.2.2.2.1;have z0:wr.drew.cell? ⟨w.heap.size+1,0,none⟩=some (.int .i64 z.id):=(gm (x:=z) Cj.I).1;have i0:(0:Int)≤(k:Int):=by omega
  have icap:(k:Int)≤(p.bF:Int):=by omega
  have i2:(k:Int)≤(p.aj.length:Int):=by omega
  rcases zm (fun y:bD=>y.id) z.id p.aj k with ⟨x,hx,hc,hlt⟩ | ⟨x,hx,hc,hlt⟩ | hlt
  ·have HT:Hid (∀ y∈p.aj.take (k+1),y.id < z.id):=nE hx HA.I hc
   have i1:(k:Int) < (p.aj.length:Int):=by omega
   have d1:decide ((k:Int) < (p.aj.length:Int))=true:=decide_eq_true i1;have d2:decide (x.id < z.id)=true:=decide_eq_true hc;obtain ⟨g,ha,hat⟩:=lQ HB.I.2.1.at.2.1 hx;have c0:wr.drew.cell? ⟨g,k * 3,none⟩=some (.int .i64 x.id):=hat.1;have m2:=m;rw [ha] at m2;clear hat hx ha hc;clear m;go_wp2_with fail;refine aT (fun w'=>w'=wr.drew) (by kernel_rfl) rfl ?_
   iterate 16 (refine PI ?_ (hy:=fun w0 hS0=>by subst hS0; go_simp; try with_reducible rfl))
   refine bk (by kernel_rfl) ?_ _;intro w1 cm;subst cm;go_wp2;go_roundw
   case rel=>exact ⟨k+1,by omega,by go_num,HT.I,Ez.I⟩
   case measure=>simp [Go.RowKit.intOf]; omega
  focus
   have HX:Hid (∀ y,p.aj[k]? =some y→ ¬ y.id < z.id):=fun y hy e=>by rw [hx] at hy; cases hy; exact hc e
   have i1:(k:Int) < (p.aj.length:Int):=by omega
   have d1:decide ((k:Int) < (p.aj.length:Int))=true:=decide_eq_true i1;have d2:decide (x.id < z.id)=false:=decide_eq_false hc;obtain ⟨g,ha,hat⟩:=lQ HB.I.2.1.at.2.1 hx;have c0:wr.drew.cell? ⟨g,k * 3,none⟩=some (.int .i64 x.id):=hat.1;have m2:=m;rw [ha] at m2;clear hat hx ha hc;clear m;go_wp2_with fail;refine aT (fun w'=>w'=wr.drew) (by kernel_rfl) rfl ?_
   iterate 16 (refine PI ?_ (hy:=fun w0 hS0=>by subst hS0; go_simp; try with_reducible rfl))
   refine bk (by kernel_rfl) ?_ _;intro w1 cm;subst cm;clear i1 d1 d2 c0 m2
  rotate_left
  focus
   have HX:Hid (∀ y,p.aj[k]? =some y→ ¬ y.id < z.id):=fun y hy=>absurd (Lj.1 hy).1 hlt
   have d1:decide ((k:Int) < (p.aj.length:Int))=false:=decide_eq_false (by omega);go_wp2_with fail;refine aT (fun w'=>w'=wr.drew) (by kernel_rfl) rfl ?_
   iterate 6 (refine PI ?_ (hy:=fun w0 hS0=>by subst hS0; go_simp; try with_reducible rfl))
   iterate 9 (refine nl ?_; simp only [pt,sb,s0,s1])
   (refine PI ?_ (hy:=fun w0 hS0=>by subst hS0; go_simp; try with_reducible rfl))
   refine bk (by kernel_rfl) ?_ _;intro w1 cm;subst cm;clear d1 m
  all_goals
   clear hlt z0 Ez;go_wp2_with fail;refine Kr (S:=fun w'=>av w' w.heap.size p∧w'.heap[w.heap.size+1]? =some (.cells #[.int .i64 z.id,.int .i64 z.n,.int .i64 z.max] 49 (0,0))) (by kernel_rfl) ⟨HB.I.1,Cj.I⟩ (fun hHeld=> ?_);generalize wr.drew.drew=V2 at *;refine tt 1 hHeld ?_ (hy:=fun w0 hS0=>by have q0:w0.cell? ⟨w.heap.size,3,none⟩=some (.slice p.bc p.aj.length p.bF):=hS0.1.cells.2.2.2.1; obtain ⟨q1,q2,q3⟩:=gm (x:=z) hS0.2; go_simp; try with_reducible rfl);refine tt 2 hHeld ?_ (hy:=fun w0 hS0=>by have q0:w0.cell? ⟨w.heap.size,3,none⟩=some (.slice p.bc p.aj.length p.bF):=hS0.1.cells.2.2.2.1; obtain ⟨q1,q2,q3⟩:=gm (x:=z) hS0.2; go_simp; try with_reducible rfl);refine tt 3 hHeld ?_ (hy:=fun w0 hS0=>by have q0:w0.cell? ⟨w.heap.size,3,none⟩=some (.slice p.bc p.aj.length p.bF):=hS0.1.cells.2.2.2.1; obtain ⟨q1,q2,q3⟩:=gm (x:=z) hS0.2; go_simp; try with_reducible rfl);refine tt 4 hHeld ?_ (hy:=fun w0 hS0=>by have q0:w0.cell? ⟨w.heap.size,3,none⟩=some (.slice p.bc p.aj.length p.bF):=hS0.1.cells.2.2.2.1; obtain ⟨q1,q2,q3⟩:=gm (x:=z) hS0.2; go_simp; try with_reducible rfl);refine tt 6 hHeld ?_ (hy:=fun w0 hS0=>by have q0:w0.cell? ⟨w.heap.size,3,none⟩=some (.slice p.bc p.aj.length p.bF):=hS0.1.cells.2.2.2.1; obtain ⟨q1,q2,q3⟩:=gm (x:=z) hS0.2; go_simp; try with_reducible rfl);clear hHeld;have hkl:(p.aj.take k).length=k:=by rw [Lk]; omega
   have hq:=HQ.I;have hS: ∀ W,Below V2.heap.size V2 W→av W w.heap.size p∧W.heap[w.heap.size+1]? =some (.cells #[.int .i64 z.id,.int .i64 z.n,.int .i64 z.max] 49 (0,0)):=fun W hb=>⟨(hb.block _ (by omega)).trans HB.I.1,(hb.block _ (by omega)).trans Cj.I⟩
   have wg:Hid (∀ (W:World) (g:Nat),Below V2.heap.size V2 W→W.heap[g]? =some (.cells #[] 49 (0,0))→V2.heap.size≤g→ ∃ a5 c5 w5,(Builtin.append_ #[26,26] 26 #[.slice (some ⟨g,0,none⟩) 0 0,.slice p.bc k p.bF]).run J3 W= .ok (.slice a5 k c5) w5∧w5.ownsRow V2.heap.size 49 3 (.slice a5 k c5) k (dm.flat (p.aj.take k))∧Below V2.heap.size V2 w5∧Below V2.heap.size V2 w5∧ ∀ h,V2.heap.size≤h→h≠g→h < W.heap.size→w5.heap[h]? =W.heap[h]?):=fun W g hb hg hge=>by
    obtain ⟨a5,c5,w5,hap,oe,A7,-⟩:=uI W V2.heap.size (some ⟨g,0,none⟩) 0 [] (i6 hg hge) p.bc (p.aj.take k) p.bF (uM k (HB.I.2.1.below hb).at.2.1.1) (by rw [hkl]; show 0+k≤_; omega) hb.size;rw [hkl] at hap oe;simp only [K4,Li,Ll] at hap oe;have iJ:Below V2.heap.size V2 w5:=hb.grown A7 hb.size fun c e=>by cases e; exact hge
    exact ⟨a5,c5,w5,hap,oe,iJ,iJ,fun h _ hn hl=>A7.block h hl (fun e=>hn (by cases e; rfl))⟩
   have bA: ∀ (W:World) (c:Obj),Below V2.heap.size V2 W→Below V2.heap.size V2 (W.alloc c):=fun W c hb=>hb.alloc hb.size _
   refine KW (rs:= [0,7]) (by kernel_rfl) (by simp) ?_;refine KX rfl (fun K hK=> ?_) (KX rfl (fun K hK=> ?_) KY)
   focus
    have b1:Below V2.heap.size V2 (V2.alloc (.cells #[] 49)):=bA _ _ (Kp _ _);simp only [KZ,K0];rw [if_pos (by rfl)];go_wp2_with fail;refine hK.out _ _ (hS _ b1) (fun hHeld=> ?_);clear hK K hHeld
    try simp only [pt,sb,s0,s1]
    have b7:Below V2.heap.size V2 ((V2.alloc (.cells #[] 49)).alloc (.cells #[.int .i64 z.id,.int .i64 z.n,.int .i64 z.max] 49)):=bA _ _ b1;refine KW (rs:= [5,7]) (by kernel_rfl) (by simp) ?_;refine KX rfl (fun K hK=> ?_) (KX rfl (fun K hK=> ?_) KY)
    focus
     clear b7;obtain ⟨a5,c5,w5,hap,oe,iJ,-,-⟩:=wg.I _ _ b1 (Kj _ _) (Ki _);simp only [KZ,K0,K1];rw [if_pos (by rfl)];refine cM _ _ _ rfl _ _ _ w5 rfl rfl hap ?_;refine hK.out _ _ (hS _ iJ) (fun hHeld=> ?_);clear hK K hHeld
     try simp only [pt,sb,s0,s1]
     refine L7 7 (fun K hK=> ?_);go_wp2_with fail;refine hK.out _ _ (hS _ (bA _ _ iJ)) (fun hHeld=> ?_);clear hK K hHeld
     try simp only [pt,sb,s0,s1]
     have qJ:Hid ((w5.alloc (.cells #[.int .i64 z.id,.int .i64 z.n,.int .i64 z.max] 49)).ownsRow V2.heap.size 49 3 (.slice a5 k c5) k (dm.flat (p.aj.take k))∧(w5.alloc (.cells #[.int .i64 z.id,.int .i64 z.n,.int .i64 z.max] 49)).heap[w5.heap.size]? =some (.cells #[.int .i64 z.id,.int .i64 z.n,.int .i64 z.max] 49 (0,0))∧Below V2.heap.size V2 (w5.alloc (.cells #[.int .i64 z.id,.int .i64 z.n,.int .i64 z.max] 49))):=⟨cR oe ((Kp _ _).alloc (Ki _) _),Kj _ _,bA _ _ iJ⟩
     clear hap oe iJ b1 bA hS;generalize w5.alloc (.cells #[.int .i64 z.id,.int .i64 z.n,.int .i64 z.max] 49)=w6 at *;generalize w5.heap.size=gx at *
    rotate_left
    focus
     obtain ⟨a5,c5,w6,om,qH,jQ,-,zU⟩:=wg.I _ _ b7 ((PU (by simp)).trans (Kj _ _)) (Ki _);simp only [KZ,K0,K1];rw [if_pos (by rfl)];go_wp2_with fail;refine hK.out _ _ (hS _ b7) (fun hHeld=> ?_);clear hK K hHeld
     try simp only [pt,sb,s0,s1]
     refine L7 5 (fun K hK=> ?_);refine cM _ _ _ rfl _ _ _ w6 rfl rfl om ?_;refine hK.out _ _ (hS _ jQ) (fun hHeld=> ?_);clear hK K hHeld
     try simp only [pt,sb,s0,s1]
     have qJ:Hid (w6.ownsRow V2.heap.size 49 3 (.slice a5 k c5) k (dm.flat (p.aj.take k))∧w6.heap[(V2.heap.size+1)]? =some (.cells #[.int .i64 z.id,.int .i64 z.n,.int .i64 z.max] 49 (0,0))∧Below V2.heap.size V2 w6):=⟨qH,(zU _ (by omega) (by omega) (by simp <;> omega)).trans (by have h5:=Kj (V2.alloc (.cells #[] 49)) (.cells #[.int .i64 z.id,.int .i64 z.n,.int .i64 z.max] 49); simpa using h5),jQ⟩
     clear om qH jQ zU b1 b7 bA hS
   rotate_left 2
   focus
    have b7:Below V2.heap.size V2 (V2.alloc (.cells #[.int .i64 z.id,.int .i64 z.n,.int .i64 z.max] 49)):=bA _ _ (Kp _ _);simp only [KZ,K0,K1];rw [if_pos (by rfl)];go_wp2_with fail;refine hK.out _ _ (hS _ b7) (fun hHeld=> ?_);clear hK K hHeld
    try simp only [pt,sb,s0,s1]
    have b1:Below V2.heap.size V2 ((V2.alloc (.cells #[.int .i64 z.id,.int .i64 z.n,.int .i64 z.max] 49)).alloc (.cells #[] 49)):=bA _ _ b7;refine L7 0 (fun K hK=> ?_);go_wp2_with fail;refine hK.out _ _ (hS _ b1) (fun hHeld=> ?_);clear hK K hHeld
    try simp only [pt,sb,s0,s1]
    obtain ⟨a5,c5,w6,om,qH,jQ,-,zU⟩:=wg.I ((V2.alloc (.cells #[.int .i64 z.id,.int .i64 z.n,.int .i64 z.max] 49)).alloc (.cells #[] 49)) (V2.heap.size+1) b1 (Kq _ _ _) (by omega);refine L7 5 (fun K hK=> ?_);refine cM _ _ _ rfl _ _ _ w6 rfl rfl om ?_;refine hK.out _ _ (hS _ jQ) (fun hHeld=> ?_);clear hK K hHeld
    try simp only [pt,sb,s0,s1]
    have qJ:Hid (w6.ownsRow V2.heap.size 49 3 (.slice a5 k c5) k (dm.flat (p.aj.take k))∧w6.heap[V2.heap.size]? =some (.cells #[.int .i64 z.id,.int .i64 z.n,.int .i64 z.max] 49 (0,0))∧Below V2.heap.size V2 w6):=⟨qH,(zU _ (by omega) (by omega) (by simp <;> omega)).trans ((PU (by simp)).trans (Kj _ _)),jQ⟩
    clear om qH jQ zU b1 b7 bA hS
   all_goals
    have qH:w6.ownsRow V2.heap.size 49 3 (.slice a5 (p.aj.take k).length c5) (p.aj.take k).length (dm.flat (p.aj.take k)):=by rw [hkl]; exact qJ.I.1
    obtain ⟨a7,c7,w7,gT,mP,xI,-⟩:=uI w6 V2.heap.size a5 c5 (p.aj.take k) qH _ [z] 1 (jO qJ.I.2.1) (by rw [hkl]; show k+1≤_; omega) qJ.I.2.2.size;have mI:(p.aj.take k ++ [z]).length=k+1:=by rw [Lf,hkl]; rfl
    rw [hkl] at gT mP;simp only [Lg,K4,Li] at gT mP;have gh:Below V2.heap.size V2 w7:=qJ.I.2.2.grown xI qJ.I.2.2.size fun c e=>(cf qJ.I.1 (di e)).1
    have Em:Hid (w7.ownsRow V2.heap.size 49 3 (.slice a7 (k+1) c7) (k+1) (dm.flat (p.aj.take k ++ [z]))∧Below V2.heap.size V2 w7∧(p.aj.take k ++ [z]).length=k+1):=⟨mP,gh,mI⟩
    refine L7 8 (fun K hK=> ?_);refine cM _ _ _ rfl _ _ _ w7 rfl rfl gT ?_;refine hK.out _ _ ⟨(gh.block _ (by omega)).trans HB.I.1,(gh.block _ (by omega)).trans Cj.I⟩ (fun hHeld=> ?_);clear hK K hHeld
    try simp only [pt,sb,s0,s1]
    have H8:Hid (((av (w7.setCell ⟨o,3,none⟩ (.slice a7 (k+1) c7)) w.heap.size p∧ap (w7.setCell ⟨o,3,none⟩ (.slice a7 (k+1) c7)) b0 p∧Below w.heap.size w (w7.setCell ⟨o,3,none⟩ (.slice a7 (k+1) c7))∧(w7.setCell ⟨o,3,none⟩ (.slice a7 (k+1) c7)).heap[w.heap.size+1+1]? =some (.cells ar 32 (0,0)))∧(w7.setCell ⟨o,3,none⟩ (.slice a7 (k+1) c7)).heap[o]? =some (.cells #[.int .i64 q.id,.int .i64 q.next,.slice q.aN q.L8.length q.aW,.slice a7 (k+1) c7,.slice q.ay q.L9.length q.aO,.slice q.ax q.ag.length q.aP,.slice q.am q.ae.length q.aG,.slice q.aK q.ai.length q.aV] 32 (0,0))∧ap (w7.setCell ⟨o,3,none⟩ (.slice a7 (k+1) c7)) W.heap.size q)∧(w7.setCell ⟨o,3,none⟩ (.slice a7 (k+1) c7)).ownsRow V2.heap.size 49 3 (.slice a7 (k+1) c7) (k+1) (dm.flat (p.aj.take k ++ [z]))∧V2.heap.size≤(w7.setCell ⟨o,3,none⟩ (.slice a7 (k+1) c7)).heap.size):=by
     have lY:Below w.heap.size w w7:=HB.I.2.2.1.trans (gh.mono (by have:=HB.I.2.2.1.size; omega));refine ⟨⟨⟨(aH (by omega)).trans (HB.I.1.below gh),(HB.I.2.1.below gh).same fun g hg=>aH (fun e=> ?_),bP lY (by omega),(aH (by omega)).trans ((gh.block _ (by omega)).trans HB.I.2.2.2)⟩,cx (HQ.I.1.below gh),(HQ.I.2.1.below gh).same fun g hg=>aH (by have:=HQ.I.2.2.2.1 g hg; omega)⟩,aL Em.I.1 fun g hg=>aH (by have:=(cf Em.I.1 hg).1; omega),?_⟩
     ·have:=Au.I g hg; omega
     ·rw [ja]; exact gh.size
    have HX8:Hid ((w7.setCell ⟨o,3,none⟩ (.slice a7 (k+1) c7)).heap[w.heap.size+1]? =some (.cells #[.int .i64 z.id,.int .i64 z.n,.int .i64 z.max] 49 (0,0))):=(aH (by omega)).trans ((gh.block _ (by omega)).trans Cj.I);obtain ⟨⟨u,co⟩,fo⟩:(∃ u,w7.cell? ⟨o,3,none⟩=some u)∧w7.frozen? ⟨o,3,none⟩=false:=⟨⟨_,(HQ.I.1.below gh).cells.2.2.2.1⟩,Ko _ _ _ _ _ (HQ.I.1.below gh)⟩
    have wj:av w7 w.heap.size p∧w7.heap[w.heap.size+1]? =some (.cells #[.int .i64 z.id,.int .i64 z.n,.int .i64 z.max] 49 (0,0)):=⟨(gh.block _ (by omega)).trans HB.I.1,(gh.block _ (by omega)).trans Cj.I⟩
    clear qH gT mP xI gh mI qJ wg;refine tt 9 wj ?_;refine L7 10 (fun K hK=> ?_);go_wp2_with fail;refine hK.out _ _ ⟨H8.I.1.1.1,HX8.I⟩ (fun hHeld=> ?_);clear hK K hHeld
    try simp only [pt,sb,s0,s1]
    refine K3 (by kernel_rfl) ?_ _;clear co fo wj hq HX8 Cj;go_wp2_with fail;generalize w7.setCell ⟨o,3,none⟩ (.slice a7 (k+1) c7)=W8 at *;have HS:Hid (W8.cell? ⟨w.heap.size,3,none⟩=some (.slice p.bc p.aj.length p.bF)):=H8.I.1.1.1.cells.2.2.2.1;have co8:W8.drew.cell? ⟨o,3,none⟩=some (.slice a7 (k+1) c7):=by rw [K5 _ _ _ _ _ _ (show W8.drew.heap[o]? =_ from H8.I.1.2.1)]; rfl
    obtain ⟨aS,Jx⟩: ∃ aS,(if p.bF=k then p.bc else Option.map (fun x=>x.add (k * 3)) p.bc)=aS:=⟨_,rfl⟩
    refine Kr (S:=fun w'=>w'.cell? ⟨w.heap.size,3,none⟩=some (.slice p.bc p.aj.length p.bF)) (by kernel_rfl) HS.I (fun hHeld=> ?_);refine tt 0 hHeld ?_ (hy:=fun w0 hS0=>by have cm:=hS0; go_simp; try with_reducible rfl);refine tt 2 hHeld ?_ (hy:=fun w0 hS0=>by have cm:=hS0; go_simp; try with_reducible rfl);refine tt 3 hHeld ?_ (hy:=fun w0 hS0=>by have cm:=hS0; go_simp; try with_reducible rfl);refine tt 4 hHeld ?_ (hy:=fun w0 hS0=>by have cm:=hS0; go_simp; try with_reducible rfl);refine tt 5 hHeld ?_ (hy:=fun w0 hS0=>by have cm:=hS0; go_simp; try with_reducible rfl);refine L7 1 (fun K hK=> ?_);go_wp2_with fail;refine hK.out _ _ HS.I (fun hHeld=> ?_);clear hK K
    try simp only [pt,sb,s0,s1]
    have hbd:Below W8.heap.size W8 W8.drew:=(Kp _ _).drew;have mI:=Em.I.2.2;have hkd:(p.aj.drop k).length=p.aj.length - k:=Ql;obtain ⟨a9,c9,w9,hr,xj,FW,-⟩:=uI W8.drew V2.heap.size a7 c7 (p.aj.take k ++ [z]) (by rw [mI]; exact cR H8.I.2.1 hbd) aS (p.aj.drop k) (p.bF - k) (by rw [← Jx]; exact qK hcap (H8.I.1.1.2.1.below hbd).at.2.1.1) (by rw [mI,hkd]; omega) H8.I.2.2;rw [mI,hkd] at hr xj;have kN:Below V2.heap.size W8.drew w9:=(Kp _ _).grown (a:=W8.drew) FW H8.I.2.2 fun c e=>(cf H8.I.2.1 (di e)).1
    have hq:=HQ.I;have h8:=H8.I;have p7:o < V2.heap.size:=hq.2.2.2.2.2.2;have hwl:w.heap.size+1 < o:=by omega
    have lV:w9.heap[o]? =some (.cells #[.int .i64 q.id,.int .i64 q.next,.slice q.aN q.L8.length q.aW,.slice a7 (k+1) c7,.slice q.ay q.L9.length q.aO,.slice q.ax q.ag.length q.aP,.slice q.am q.ae.length q.aG,.slice q.aK q.ai.length q.aV] 32 (0,0)):=(kN.block _ p7).trans h8.1.2.1;have H9:Hid (w9.cell? ⟨w.heap.size,3,none⟩=some (.slice p.bc p.aj.length p.bF)∧(w9.setCell ⟨o,3,none⟩ (.slice a9 (k+1+(p.aj.length - k)) c9)).cell? ⟨w.heap.size,3,none⟩=some (.slice p.bc p.aj.length p.bF)):=by
     have e1:w9.cell? ⟨w.heap.size,3,none⟩=some (.slice p.bc p.aj.length p.bF):=(J1 (kN.block _ (by show w.heap.size < _; omega))).trans HS.I;exact ⟨e1,(J1 (aH (by show w.heap.size≠o; omega))).trans e1⟩
    have sR:((p.aj.take k ++ [z]) ++ p.aj.drop k).length=k+1+(p.aj.length - k):=by rw [Lf,mI,hkd]
    have gn:({ q with aj:=(p.aj.take k ++ [z]) ++ p.aj.drop k,bc:=a9,bF:=c9 } :af).pure= { p.pure with aj:=cA (·.id) z p.pure.aj } :=by
     have e1:(p.aj.take k ++ [z]) ++ p.aj.drop k=cA (·.id) z p.pure.aj:=by
      rw [Lm];exact tP HA.I (fun y hy=>by have h5:=HX.I y hy; show ¬ y.id < z.id; omega)
     have e2:=HQ.I.2.2.1
     show ({ q.pure with aj:=(p.aj.take k ++ [z]) ++ p.aj.drop k } :aE)=_
     rw [e1,e2]
    have eX:Hid (av (w9.setCell ⟨o,3,none⟩ (.slice a9 (k+1+(p.aj.length - k)) c9)) w.heap.size p∧ap (w9.setCell ⟨o,3,none⟩ (.slice a9 (k+1+(p.aj.length - k)) c9)) b0 p∧Below w.heap.size w (w9.setCell ⟨o,3,none⟩ (.slice a9 (k+1+(p.aj.length - k)) c9))∧(w9.setCell ⟨o,3,none⟩ (.slice a9 (k+1+(p.aj.length - k)) c9)).heap[w.heap.size+1+1]? =some (.cells ar 32 (0,0))∧av (w9.setCell ⟨o,3,none⟩ (.slice a9 (k+1+(p.aj.length - k)) c9)) o ({ q with aj:=(p.aj.take k ++ [z]) ++ p.aj.drop k,bc:=a9,bF:=c9 } :af)∧ap (w9.setCell ⟨o,3,none⟩ (.slice a9 (k+1+(p.aj.length - k)) c9)) W.heap.size ({ q with aj:=(p.aj.take k ++ [z]) ++ p.aj.drop k,bc:=a9,bF:=c9 } :af)∧({ q with aj:=(p.aj.take k ++ [z]) ++ p.aj.drop k,bc:=a9,bF:=c9 } :af).pure= { p.pure with aj:=cA (·.id) z p.pure.aj }):=by
     have hpb: ∀ g∈p.Mc,g < w.heap.size:=Au.I;have nW: ∀ g∈q.Mc,g < o:=hq.2.2.2.1;have sm: ∀ g,g < V2.heap.size→g≠o→(w9.setCell ⟨o,3,none⟩ (.slice a9 (k+1+(p.aj.length - k)) c9)).heap[g]? =W8.heap[g]? :=fun g hg hne=>(aH hne).trans (kN.block _ hg)
     have lY:Below w.heap.size w (w9.setCell ⟨o,3,none⟩ (.slice a9 (k+1+(p.aj.length - k)) c9)):=bP (h8.1.1.2.2.1.drew.trans (kN.mono (by omega))) (by omega);refine ⟨(sm _ (by omega) (by omega)).trans h8.1.1.1,h8.1.1.2.1.same fun g hg=>sm g (by have:=hpb g hg; omega) (by have:=hpb g hg; omega),lY,(sm _ (by omega) (by omega)).trans h8.1.1.2.2.2,?_,?_,gn⟩
     ·have h5:=cx (i:=3) (v:= .slice a9 (k+1+(p.aj.length - k)) c9) lV
      unfold av;simp only [sR];exact h5
     ·refine h8.1.2.2.newSem (B:=V2.heap.size) (by omega) (fun g hg=>by have:=nW g hg; omega) (fun g hg=>sm g (by have:=nW g hg; omega) (by have:=nW g hg; omega)) ?_
      rw [sR];exact aL xj fun g hg=>aH (by have:=(cf xj hg).1; omega)
    refine L7 6 (fun K hK=> ?_);refine cM _ _ _ rfl _ _ _ w9 rfl rfl hr ?_;refine hK.out _ _ H9.I.1 (fun hHeld=> ?_);clear hK K
    try simp only [pt,sb,s0,s1]
    obtain ⟨⟨u,co⟩,fo⟩:(∃ u,w9.cell? ⟨o,3,none⟩=some u)∧w9.frozen? ⟨o,3,none⟩=false:=⟨⟨_,by rw [K5 _ _ _ _ _ _ lV]; rfl⟩,Ko _ _ _ _ _ lV⟩
    clear hr xj FW kN hq h8 p7 hwl lV hbd;refine tt 7 hHeld ?_ (hy:=fun w0 hS0=>by have cm:=hS0; go_simp; try with_reducible rfl);refine L7 8 (fun K hK=> ?_);go_wp2_with fail;refine hK.out _ _ H9.I.2 (fun hHeld=> ?_);clear hK K
    try simp only [pt,sb,s0,s1]
    refine K3 (by kernel_rfl) ?_ _;clear hHeld co fo H9 HS co8;generalize w9.setCell ⟨o,3,none⟩ (.slice a9 (k+1+(p.aj.length - k)) c9)=W10 at *;have Mb:=fi p ({ q with aj:=(p.aj.take k ++ [z]) ++ p.aj.drop k,bc:=a9,bF:=c9 } :af) W10 ⟨fl.I.1,fl.I.2.1,eX.I.2.1.at⟩ (fun hr=>by
     have h5:aE.Small ({ q with aj:=(p.aj.take k ++ [z]) ++ p.aj.drop k,bc:=a9,bF:=c9 } :af).pure:=by rw [eX.I.2.2.2.2.2.2]; exact yN fl.I.2.2.1 hr fl.I.2.2.2
     exact ⟨dV h5,fun x hx=>(cY h5 hx).1,eX.I.2.2.2.2.2.1.at⟩)
    obtain ⟨m0,m1,m2,m3,m4,m5,m6,m7⟩:=eX.I.1.cells;obtain ⟨k0,k1,k2,k3,k4,k5,k6,k7⟩:=eX.I.2.2.2.2.1.cells;unfold af.cells at Mb;simp only [sR] at Mb k0 k1 k2 k3 k4 k5 k6 k7;have DM:Hid (((p.aj.take k ++ [z]) ++ p.aj.drop k).length=k+1+(p.aj.length - k)):=sR;clear sR mI hkd Jx gn;go_wp2_with fail;refine Mb.mono ?_;clear Mb m0 m1 m2 m3 m4 m5 m6 m7 k0 k1 k2 k3 k4 k5 k6 k7;rintro e ow ⟨gy,hok⟩;have hq:=HQ.I.2.2.2.2;have HZ:Hid (Below w.heap.size w ow∧ow.heap[w.heap.size+1+1]? =some (.cells ar 32 (0,0))∧ap ow W.heap.size ({ q with aj:=(p.aj.take k ++ [z]) ++ p.aj.drop k,bc:=a9,bF:=c9 } :af)∧w.heap.size+1+1 < W.heap.size):=⟨eX.I.2.2.1.trans (gy.mono eX.I.2.2.1.size),(gy.block _ (J2.1 eX.I.2.2.2.1).1).trans eX.I.2.2.2.1,eX.I.2.2.2.2.2.1.below gy,hq.2.1⟩
    clear gy hq;rw [eX.I.2.2.2.2.2.2] at hok;rcases hok with ⟨hok,rfl⟩ | ⟨hok,rfl⟩
    ·have HN:Hid (cB p.pure { p.pure with aj:=cA (·.id) z p.pure.aj } =some { p.pure with aj:=cA (·.id) z p.pure.aj }):=jS hok
     clear hok;go_wp2_with (refine ec 4 49 #[.int .i64 q.id,.int .i64 q.next,.slice q.aN q.L8.length q.aW,.slice a9 (k+1+(p.aj.length - k)) c9,.slice q.ay q.L9.length q.aO,.slice q.ax q.ag.length q.aP,.slice q.am q.ae.length q.aG,.slice q.aK q.ai.length q.aV] HZ.I.2.1 ?_);refine mG Tryz.results35 (.bool true) HZ.I.2.1 ?_;have hl:=HZ.I.2.2.2;rw [HN.I];refine ⟨({ q with aj:=(p.aj.take k ++ [z]) ++ p.aj.drop k,bc:=a9,bF:=c9 } :af),by unfold af.cells; simp only [DM.I]; rfl,(HZ.I.2.2.1.lower (by omega)).same fun g hg=>KH _ _ _ _ (by have:=(HZ.I.2.2.1.lt g hg).1; omega),eX.I.2.2.2.2.2.2,below_setRow HZ.I.1 (by omega) _⟩
    ·have HN:Hid (cB p.pure { p.pure with aj:=cA (·.id) z p.pure.aj } =none):=jh hok
     clear hok;go_wp2_with (refine ec 4 49 ar HZ.I.2.1 ?_);refine mG Tryz.results35 (.bool false) HZ.I.2.1 ?_;exact ca HN.I (below_setRow HZ.I.1 (by omega) _)
theorem ra (p:af) (id:Int) (w:World) (b0:Nat) (hwf:(Lit.int .i64 id).wf=true) (qY:p.pure.Small) (h:ap w b0 p):
  Calls J3 40 #[.agg p.cells,.int .i64 id] w fun e w'=>gI w (cB p.pure { p.pure with ag:=cA (·.id) (⟨id,false,⟨#[]⟩⟩:az) p.pure.ag }) e w':=by
 have HB:Hid (av ((w.alloc (.cells p.row 32)).alloc (.cells ar 32)) w.heap.size p∧ap ((w.alloc (.cells p.row 32)).alloc (.cells ar 32)) b0 p∧Below w.heap.size w ((w.alloc (.cells p.row 32)).alloc (.cells ar 32))∧((w.alloc (.cells p.row 32)).alloc (.cells ar 32)).heap[w.heap.size+1]? =some (.cells ar 32 (0,0))):=by
  have b1:Below w.heap.size w ((w.alloc (.cells p.row 32)).alloc (.cells ar 32)):=((Kp _ _).alloc (Ki _) _).alloc (by simp) _;exact ⟨(PU (by simp)).trans (Kj _ _),h.below b1,b1,Kq _ _ _⟩
 have fl:Hid (p.Fit∧(∀ x∈p.L8,x.dX)∧p.pure.Small∧(Lit.int .i64 id).wf=true):=⟨dV qY,fun x hx=>(cY qY hx).1,qY,hwf⟩
 have hpl:=fl.I.1.short.ag;have hcap:p.ag.length≤p.aP:=nV h.ag;have pd: ∀ g∈p.Mc,g < w.heap.size:=fun g hg=>(h.lt g hg).2
 clear h qY hwf;obtain ⟨m0,m1,m2,m3,m4,m5,m6,m7⟩:=HB.I.1.cells;unfold af.cells
 go_enter Tryz.func40,Tryz.ntmps40
 go_wp2_with fail;generalize (w.alloc (.cells p.row 32)).alloc (.cells ar 32)=W at *;clear m0 m1 m2 m3 m4 m5 m6 m7;refine (fR p W fl.I.1 fl.I.2.1 HB.I.2.1.at).mono ?_;rintro e W1 ⟨q,rfl,hown,gn,hb1⟩;have hb2:Below W1.heap.size W1 (W1.alloc (.cells q.row 32)):=(Kp _ _).alloc (Ki _) _;have hlt:w.heap.size+1 < W.heap.size:=(J2.1 HB.I.2.2.2).1;have hb3:Below W.heap.size W (W1.alloc (.cells q.row 32)):=hb1.trans (hb2.mono hb1.size);have hq1: ∀ g∈q.Mc,g < W1.heap.size:=fun g hg=>(hown.lt g hg).2
 have HQ:Hid (av (W1.alloc (.cells q.row 32)) W1.heap.size q∧ap (W1.alloc (.cells q.row 32)) W.heap.size q∧q.pure=p.pure∧(∀ g∈q.Mc,g < W1.heap.size)∧W.heap.size≤W1.heap.size∧w.heap.size+1 < W.heap.size∧W1.heap.size < (W1.alloc (.cells q.row 32)).heap.size):=⟨Kj _ _,hown.below hb2,gn,hq1,hb1.size,hlt,by simp⟩
 replace HB:Hid (av (W1.alloc (.cells q.row 32)) w.heap.size p∧ap (W1.alloc (.cells q.row 32)) b0 p∧Below w.heap.size w (W1.alloc (.cells q.row 32))∧(W1.alloc (.cells q.row 32)).heap[w.heap.size+1]? =some (.cells ar 32 (0,0))):=⟨HB.I.1.below hb3,HB.I.2.1.below hb3,HB.I.2.2.1.trans (hb3.mono HB.I.2.2.1.size),(hb3.block _ hlt).trans HB.I.2.2.2⟩
 have Au:Hid (∀ g∈p.Mc,g < w.heap.size):=fun g hg=>pd g hg
 clear hown gn hb1 hb2 hb3 hq1 hlt pd;obtain ⟨m0,m1,m2,m3,m4,m5,m6,m7⟩:=HB.I.1.cells;unfold af.cells;go_wp2_with fail;generalize W1.alloc (.cells q.row 32)=W2 at *;clear m0 m1 m2 m3 m4 m6 m7;generalize W1.heap.size=o at *
 go_loop [7] (fun i=> ∃ k:Nat,k≤p.ag.length∧i= .int .i64 k∧Hid (∀ y∈p.ag.take k,y.id < id)) (fun i=>p.ag.length - (Go.RowKit.intOf i).toNat)
 case atStart=>exact ⟨0,Ky _,rfl,fun y hy=>by simp at hy⟩
 case round=>
  obtain ⟨k,hk,rfl,HA⟩:=hrel;have i0:(0:Int)≤(k:Int):=by omega
  have icap:(k:Int)≤(p.aP:Int):=by omega
  have i2:(k:Int)≤(p.ag.length:Int):=by omega
  rcases zm (fun y:az=>y.id) id p.ag k with ⟨x,hx,hc,hlt⟩ | ⟨x,hx,hc,hlt⟩ | hlt
  ·have HT:Hid (∀ y∈p.ag.take (k+1),y.id < id):=nE hx HA.I hc
   have i1:(k:Int) < (p.ag.length:Int):=by omega
   obtain ⟨g,ha,hat⟩:=jr HB.I.2.1.at.2.2.2.1 hx;have c0:=hat.1;have m:=m5;rw [ha] at m;clear m5 hat hx;go_wp2
   go_round
   case rel=>exact ⟨k+1,by omega,by go_num,HT.I⟩
   case measure=>simp [Go.RowKit.intOf]; omega
  focus
   have HX:Hid (∀ y,p.ag[k]? =some y→ ¬ y.id < id):=fun y hy e=>by rw [hx] at hy; cases hy; exact hc e
   have i1:(k:Int) < (p.ag.length:Int):=by omega
   obtain ⟨g,ha,hat⟩:=jr HB.I.2.1.at.2.2.2.1 hx;have c0:=hat.1;have m:=m5;rw [ha] at m;clear m5 hat hx ha
  rotate_left
  focus
   have HX:Hid (∀ y,p.ag[k]? =some y→ ¬ y.id < id):=fun y hy=>absurd (Lj.1 hy).1 hlt
   have i1: ¬ (k:Int) < (p.ag.length:Int):=by omega
   have m:=m5;clear m5
  all_goals
   have hkl:(p.ag.take k).length=k:=by rw [Lk]; omega
   have hb3:Below W2.heap.size W2 (W2.alloc (.cells #[] 141)):=(Kp _ _).alloc (Ki _) _;obtain ⟨a5,c5,w5,hap,oe,A7,-⟩:=pX (W2.alloc (.cells #[] 141)) W2.heap.size (some ⟨W2.heap.size,0,none⟩) 0 [] (i6 (Kj _ _) (Ki _)) p.ax (p.ag.take k) p.aP (uM k (HB.I.2.1.below hb3).at.2.2.2.1.1) (by rw [hkl]; show 0+k≤_; omega) hb3.size;rw [hkl] at hap oe;simp only [K4,Li,Ll] at hap oe;have iJ:Below W2.heap.size W2 w5:=hb3.grown A7 hb3.size fun c e=>by cases e; exact Ki _
   have jQ:Below w5.heap.size w5 (w5.alloc (.cells #[.int .i64 id,.bool false,.string ⟨#[]⟩] 141)):=(Kp _ _).alloc (Ki _) _;have yJ:Below W2.heap.size W2 (w5.alloc (.cells #[.int .i64 id,.bool false,.string ⟨#[]⟩] 141)):=iJ.trans (jQ.mono iJ.size);have qH:(w5.alloc (.cells #[.int .i64 id,.bool false,.string ⟨#[]⟩] 141)).ownsRow W2.heap.size 141 3 (.slice a5 (p.ag.take k).length c5) (p.ag.take k).length (bG.flat (p.ag.take k)):=by rw [hkl]; exact cR oe jQ
   obtain ⟨a7,c7,w7,gT,mP,xI,-⟩:=pX (w5.alloc (.cells #[.int .i64 id,.bool false,.string ⟨#[]⟩] 141)) W2.heap.size a5 c5 (p.ag.take k) qH (some ⟨w5.heap.size,0,none⟩) [(⟨id,false,⟨#[]⟩⟩:az)] 1 (jO (Kj _ _)) (by rw [hkl]; show k+1≤_; omega) yJ.size;have mI:(p.ag.take k ++ [(⟨id,false,⟨#[]⟩⟩:az)]).length=k+1:=by rw [Lf,hkl]; rfl
   rw [hkl] at gT mP;simp only [Lg,K4,Li] at gT mP;have gh:Below W2.heap.size W2 w7:=yJ.grown xI yJ.size fun c e=>(cf oe (di e)).1
   have Em:Hid (w7.ownsRow W2.heap.size 141 3 (.slice a7 (k+1) c7) (k+1) (bG.flat (p.ag.take k ++ [(⟨id,false,⟨#[]⟩⟩:az)]))∧Below W2.heap.size W2 w7∧(p.ag.take k ++ [(⟨id,false,⟨#[]⟩⟩:az)]).length=k+1):=⟨mP,gh,mI⟩
   have m2:(W2.alloc (.cells #[] 141)).cell? ⟨w.heap.size,5,none⟩=some (.slice p.ax p.ag.length p.aP):=(HB.I.1.below hb3).cells.2.2.2.2.2.1;have hbo:W2.heap.size≤w7.heap.size:=gh.size;obtain ⟨⟨u,co⟩,fo⟩:(∃ u,w7.cell? ⟨o,5,none⟩=some u)∧w7.frozen? ⟨o,5,none⟩=false:=⟨⟨_,(HQ.I.1.below gh).cells.2.2.2.2.2.1⟩,Ko _ _ _ _ _ (HQ.I.1.below gh)⟩
   clear oe A7 iJ jQ yJ qH mP xI gh hb3 mI;go_wp2_with (at_builtin; first | (refine br _ rfl _ _ 28 rfl _ _ _ _ rfl rfl hap ?_; clear hap) | (refine br _ rfl _ _ 28 rfl _ _ _ _ rfl rfl gT ?_; clear gT));have H8:Hid (((av (w7.setCell ⟨o,5,none⟩ (.slice a7 (k+1) c7)) w.heap.size p∧ap (w7.setCell ⟨o,5,none⟩ (.slice a7 (k+1) c7)) b0 p∧Below w.heap.size w (w7.setCell ⟨o,5,none⟩ (.slice a7 (k+1) c7))∧(w7.setCell ⟨o,5,none⟩ (.slice a7 (k+1) c7)).heap[w.heap.size+1]? =some (.cells ar 32 (0,0)))∧(w7.setCell ⟨o,5,none⟩ (.slice a7 (k+1) c7)).heap[o]? =some (.cells #[.int .i64 q.id,.int .i64 q.next,.slice q.aN q.L8.length q.aW,.slice q.bc q.aj.length q.bF,.slice q.ay q.L9.length q.aO,.slice a7 (k+1) c7,.slice q.am q.ae.length q.aG,.slice q.aK q.ai.length q.aV] 32 (0,0))∧ap (w7.setCell ⟨o,5,none⟩ (.slice a7 (k+1) c7)) W.heap.size q)∧(w7.setCell ⟨o,5,none⟩ (.slice a7 (k+1) c7)).ownsRow W2.heap.size 141 3 (.slice a7 (k+1) c7) (k+1) (bG.flat (p.ag.take k ++ [(⟨id,false,⟨#[]⟩⟩:az)]))∧W2.heap.size≤(w7.setCell ⟨o,5,none⟩ (.slice a7 (k+1) c7)).heap.size):=by
    have gh:=Em.I.2.1;have hq:=HQ.I;have lY:Below w.heap.size w w7:=HB.I.2.2.1.trans (gh.mono (by have:=HB.I.2.2.1.size; omega));refine ⟨⟨⟨(aH (by omega)).trans (HB.I.1.below gh),(HB.I.2.1.below gh).same fun g hg=>aH (fun e=> ?_),bP lY (by omega),(aH (by omega)).trans ((gh.block _ (by omega)).trans HB.I.2.2.2)⟩,cx (HQ.I.1.below gh),(HQ.I.2.1.below gh).same fun g hg=>aH (by have:=HQ.I.2.2.2.1 g hg; omega)⟩,aL Em.I.1 fun g hg=>aH (by have:=(cf Em.I.1 hg).1; omega),?_⟩
    ·have:=Au.I g hg; omega
    ·rw [ja]; exact gh.size
   generalize w7.setCell ⟨o,5,none⟩ (.slice a7 (k+1) c7)=W8 at *;have HS:Hid (W8.cell? ⟨w.heap.size,5,none⟩=some (.slice p.ax p.ag.length p.aP)):=H8.I.1.1.1.cells.2.2.2.2.2.1;have co8:W8.drew.cell? ⟨o,5,none⟩=some (.slice a7 (k+1) c7):=by rw [K5 _ _ _ _ _ _ (show W8.drew.heap[o]? =_ from H8.I.1.2.1)]; rfl
   clear m m2 co fo hbo i1 hlt;obtain ⟨aS,Jx⟩: ∃ aS,(if p.aP=k then p.ax else Option.map (fun x=>x.add (k * 3)) p.ax)=aS:=⟨_,rfl⟩
   refine Kr (S:=fun w'=>w'.cell? ⟨w.heap.size,5,none⟩=some (.slice p.ax p.ag.length p.aP)) (by kernel_rfl) HS.I (fun hHeld=> ?_);refine tt 0 hHeld ?_ (hy:=fun w0 hS0=>by have cm:=hS0; go_simp; try with_reducible rfl);refine tt 2 hHeld ?_ (hy:=fun w0 hS0=>by have cm:=hS0; go_simp; try with_reducible rfl);refine tt 3 hHeld ?_ (hy:=fun w0 hS0=>by have cm:=hS0; go_simp; try with_reducible rfl);refine tt 4 hHeld ?_ (hy:=fun w0 hS0=>by have cm:=hS0; go_simp; try with_reducible rfl);refine tt 5 hHeld ?_ (hy:=fun w0 hS0=>by have cm:=hS0; go_simp; try with_reducible rfl);refine L7 1 (fun K hK=> ?_);go_wp2_with fail;refine hK.out _ _ HS.I (fun hHeld=> ?_);clear hK K
   try simp only [pt,sb,s0,s1]
   have hbd:Below W8.heap.size W8 W8.drew:=(Kp _ _).drew;have mI:=Em.I.2.2;have hkd:(p.ag.drop k).length=p.ag.length - k:=Ql;obtain ⟨a9,c9,w9,hr,xj,FW,-⟩:=pX W8.drew W2.heap.size a7 c7 (p.ag.take k ++ [(⟨id,false,⟨#[]⟩⟩:az)]) (by rw [mI]; exact cR H8.I.2.1 hbd) aS (p.ag.drop k) (p.aP - k) (by rw [← Jx]; exact qK hcap (H8.I.1.1.2.1.below hbd).at.2.2.2.1.1) (by rw [mI,hkd]; omega) H8.I.2.2;rw [mI,hkd] at hr xj;have kN:Below W2.heap.size W8.drew w9:=(Kp _ _).grown (a:=W8.drew) FW H8.I.2.2 fun c e=>(cf H8.I.2.1 (di e)).1
   have hq:=HQ.I;have h8:=H8.I;have p7:o < W2.heap.size:=hq.2.2.2.2.2.2;have hwl:w.heap.size+1 < o:=by omega
   have lV:w9.heap[o]? =some (.cells #[.int .i64 q.id,.int .i64 q.next,.slice q.aN q.L8.length q.aW,.slice q.bc q.aj.length q.bF,.slice q.ay q.L9.length q.aO,.slice a7 (k+1) c7,.slice q.am q.ae.length q.aG,.slice q.aK q.ai.length q.aV] 32 (0,0)):=(kN.block _ p7).trans h8.1.2.1;have H9:Hid (w9.cell? ⟨w.heap.size,5,none⟩=some (.slice p.ax p.ag.length p.aP)∧(w9.setCell ⟨o,5,none⟩ (.slice a9 (k+1+(p.ag.length - k)) c9)).cell? ⟨w.heap.size,5,none⟩=some (.slice p.ax p.ag.length p.aP)):=by
    have e1:w9.cell? ⟨w.heap.size,5,none⟩=some (.slice p.ax p.ag.length p.aP):=(J1 (kN.block _ (by show w.heap.size < _; omega))).trans HS.I;exact ⟨e1,(J1 (aH (by show w.heap.size≠o; omega))).trans e1⟩
   have sR:((p.ag.take k ++ [(⟨id,false,⟨#[]⟩⟩:az)]) ++ p.ag.drop k).length=k+1+(p.ag.length - k):=by rw [Lf,mI,hkd]
   have gn:({ q with ag:=(p.ag.take k ++ [(⟨id,false,⟨#[]⟩⟩:az)]) ++ p.ag.drop k,ax:=a9,aP:=c9 } :af).pure= { p.pure with ag:=cA (·.id) (⟨id,false,⟨#[]⟩⟩:az) p.pure.ag } :=by
    have e1:(p.ag.take k ++ [(⟨id,false,⟨#[]⟩⟩:az)]) ++ p.ag.drop k=cA (·.id) (⟨id,false,⟨#[]⟩⟩:az) p.pure.ag:=by
     rw [Lm];exact tP HA.I (fun y hy=>by have h5:=HX.I y hy; show ¬ y.id < id; omega)
    have e2:=HQ.I.2.2.1
    show ({ q.pure with ag:=(p.ag.take k ++ [(⟨id,false,⟨#[]⟩⟩:az)]) ++ p.ag.drop k } :aE)=_
    rw [e1,e2]
   have eX:Hid (av (w9.setCell ⟨o,5,none⟩ (.slice a9 (k+1+(p.ag.length - k)) c9)) w.heap.size p∧ap (w9.setCell ⟨o,5,none⟩ (.slice a9 (k+1+(p.ag.length - k)) c9)) b0 p∧Below w.heap.size w (w9.setCell ⟨o,5,none⟩ (.slice a9 (k+1+(p.ag.length - k)) c9))∧(w9.setCell ⟨o,5,none⟩ (.slice a9 (k+1+(p.ag.length - k)) c9)).heap[w.heap.size+1]? =some (.cells ar 32 (0,0))∧av (w9.setCell ⟨o,5,none⟩ (.slice a9 (k+1+(p.ag.length - k)) c9)) o ({ q with ag:=(p.ag.take k ++ [(⟨id,false,⟨#[]⟩⟩:az)]) ++ p.ag.drop k,ax:=a9,aP:=c9 } :af)∧ap (w9.setCell ⟨o,5,none⟩ (.slice a9 (k+1+(p.ag.length - k)) c9)) W.heap.size ({ q with ag:=(p.ag.take k ++ [(⟨id,false,⟨#[]⟩⟩:az)]) ++ p.ag.drop k,ax:=a9,aP:=c9 } :af)∧({ q with ag:=(p.ag.take k ++ [(⟨id,false,⟨#[]⟩⟩:az)]) ++ p.ag.drop k,ax:=a9,aP:=c9 } :af).pure= { p.pure with ag:=cA (·.id) (⟨id,false,⟨#[]⟩⟩:az) p.pure.ag }):=by
    have hpb: ∀ g∈p.Mc,g < w.heap.size:=Au.I;have nW: ∀ g∈q.Mc,g < o:=hq.2.2.2.1;have sm: ∀ g,g < W2.heap.size→g≠o→(w9.setCell ⟨o,5,none⟩ (.slice a9 (k+1+(p.ag.length - k)) c9)).heap[g]? =W8.heap[g]? :=fun g hg hne=>(aH hne).trans (kN.block _ hg)
    have lY:Below w.heap.size w (w9.setCell ⟨o,5,none⟩ (.slice a9 (k+1+(p.ag.length - k)) c9)):=bP (h8.1.1.2.2.1.drew.trans (kN.mono (by omega))) (by omega);refine ⟨(sm _ (by omega) (by omega)).trans h8.1.1.1,h8.1.1.2.1.same fun g hg=>sm g (by have:=hpb g hg; omega) (by have:=hpb g hg; omega),lY,(sm _ (by omega) (by omega)).trans h8.1.1.2.2.2,?_,?_,gn⟩
    ·have h5:=cx (i:=5) (v:= .slice a9 (k+1+(p.ag.length - k)) c9) lV
     unfold av;simp only [sR];exact h5
    ·refine h8.1.2.2.GV (B:=W2.heap.size) (by omega) (fun g hg=>by have:=nW g hg; omega) (fun g hg=>sm g (by have:=nW g hg; omega) (by have:=nW g hg; omega)) ?_
     rw [sR];exact aL xj fun g hg=>aH (by have:=(cf xj hg).1; omega)
   refine L7 6 (fun K hK=> ?_);refine cM _ _ _ rfl _ _ _ w9 rfl rfl hr ?_;refine hK.out _ _ H9.I.1 (fun hHeld=> ?_);clear hK K
   try simp only [pt,sb,s0,s1]
   obtain ⟨⟨u,co⟩,fo⟩:(∃ u,w9.cell? ⟨o,5,none⟩=some u)∧w9.frozen? ⟨o,5,none⟩=false:=⟨⟨_,by rw [K5 _ _ _ _ _ _ lV]; rfl⟩,Ko _ _ _ _ _ lV⟩
   clear hr xj FW kN hq h8 p7 hwl lV hbd;refine tt 7 hHeld ?_ (hy:=fun w0 hS0=>by have cm:=hS0; go_simp; try with_reducible rfl);refine L7 8 (fun K hK=> ?_);go_wp2_with fail;refine hK.out _ _ H9.I.2 (fun hHeld=> ?_);clear hK K
   try simp only [pt,sb,s0,s1]
   refine K3 (by kernel_rfl) ?_ _;clear hHeld co fo H9 HS co8;generalize w9.setCell ⟨o,5,none⟩ (.slice a9 (k+1+(p.ag.length - k)) c9)=W10 at *;have Mb:=fi p ({ q with ag:=(p.ag.take k ++ [(⟨id,false,⟨#[]⟩⟩:az)]) ++ p.ag.drop k,ax:=a9,aP:=c9 } :af) W10 ⟨fl.I.1,fl.I.2.1,eX.I.2.1.at⟩ (fun hr=>by
    have h5:aE.Small ({ q with ag:=(p.ag.take k ++ [(⟨id,false,⟨#[]⟩⟩:az)]) ++ p.ag.drop k,ax:=a9,aP:=c9 } :af).pure:=by rw [eX.I.2.2.2.2.2.2]; exact vR fl.I.2.2.1 hr ⟨fl.I.2.2.2,Ky _⟩
    exact ⟨dV h5,fun x hx=>(cY h5 hx).1,eX.I.2.2.2.2.2.1.at⟩)
   obtain ⟨m0,m1,m2,m3,m4,m5,m6,m7⟩:=eX.I.1.cells;obtain ⟨k0,k1,k2,k3,k4,k5,k6,k7⟩:=eX.I.2.2.2.2.1.cells;unfold af.cells at Mb;simp only [sR] at Mb k0 k1 k2 k3 k4 k5 k6 k7;have DM:Hid (((p.ag.take k ++ [(⟨id,false,⟨#[]⟩⟩:az)]) ++ p.ag.drop k).length=k+1+(p.ag.length - k)):=sR;clear sR mI hkd Jx gn;go_wp2_with fail;refine Mb.mono ?_;clear Mb m0 m1 m2 m3 m4 m5 m6 m7 k0 k1 k2 k3 k4 k5 k6 k7;rintro e ow ⟨gy,hok⟩;have hq:=HQ.I.2.2.2.2;have HZ:Hid (Below w.heap.size w ow∧ow.heap[w.heap.size+1]? =some (.cells ar 32 (0,0))∧ap ow W.heap.size ({ q with ag:=(p.ag.take k ++ [(⟨id,false,⟨#[]⟩⟩:az)]) ++ p.ag.drop k,ax:=a9,aP:=c9 } :af)∧w.heap.size+1 < W.heap.size):=⟨eX.I.2.2.1.trans (gy.mono eX.I.2.2.1.size),(gy.block _ (J2.1 eX.I.2.2.2.1).1).trans eX.I.2.2.2.1,eX.I.2.2.2.2.2.1.below gy,hq.2.1⟩
   clear gy hq;rw [eX.I.2.2.2.2.2.2] at hok;rcases hok with ⟨hok,rfl⟩ | ⟨hok,rfl⟩
   ·have HN:Hid (cB p.pure { p.pure with ag:=cA (·.id) (⟨id,false,⟨#[]⟩⟩:az) p.pure.ag } =some { p.pure with ag:=cA (·.id) (⟨id,false,⟨#[]⟩⟩:az) p.pure.ag }):=jS hok
    clear hok;go_wp2_with (refine ec 4 49 #[.int .i64 q.id,.int .i64 q.next,.slice q.aN q.L8.length q.aW,.slice q.bc q.aj.length q.bF,.slice q.ay q.L9.length q.aO,.slice a9 (k+1+(p.ag.length - k)) c9,.slice q.am q.ae.length q.aG,.slice q.aK q.ai.length q.aV] HZ.I.2.1 ?_);refine mG Tryz.results40 (.bool true) HZ.I.2.1 ?_;have hl:=HZ.I.2.2.2;rw [HN.I];refine ⟨({ q with ag:=(p.ag.take k ++ [(⟨id,false,⟨#[]⟩⟩:az)]) ++ p.ag.drop k,ax:=a9,aP:=c9 } :af),by unfold af.cells; simp only [DM.I]; rfl,(HZ.I.2.2.1.lower (by omega)).same fun g hg=>KH _ _ _ _ (by have:=(HZ.I.2.2.1.lt g hg).1; omega),eX.I.2.2.2.2.2.2,below_setRow HZ.I.1 (by omega) _⟩
   ·have HN:Hid (cB p.pure { p.pure with ag:=cA (·.id) (⟨id,false,⟨#[]⟩⟩:az) p.pure.ag } =none):=jh hok
    clear hok;go_wp2_with (refine ec 4 49 ar HZ.I.2.1 ?_);refine mG Tryz.results40 (.bool false) HZ.I.2.1 ?_;exact ca HN.I (below_setRow HZ.I.1 (by omega) _)
end
section
open Go Go.RowKit
theorem pn (a:Act) (v:Value):a.put none v=a:=rfl
theorem tkr {P:Program} {md:Region.Mode} {ops:Array Oper} {Q:Exit→Act→World→Prop} {S:World→Prop} (i:Nat) {oi:Oper} {v:Value} {fuel:Nat} {RV:Array Bool} {a:Act} {w:World} {d:Tmp} (hi:ops[i]? =some oi) (hy:YieldsIf P ops S oi v a) (hS:S w)
  (h:wpAnyH P md ops Q S fuel (RV.setIfInBounds i true) (a.put (some d) v) w) (hd:oi.dst=some d:=by rfl) (h1:Region.noSelect ops=true:=by kernel_rfl) (h2:Region.free md ops RV i=true:=by kernel_rfl) (h3:(Region.ready md ops RV).contains i=true:=by kernel_rfl)
  (hQ: ∀ c a w,Q (.panic c) (a.put (some d) v) w→Q (.panic c) a w:=by exact fun _ _ _ h=>h):wpAnyH P md ops Q S (fuel+1) RV a w:=by
 rw [← hd] at h hQ;exact wpAnyH_take (i:=i) hi h1 h2 h3 hQ hy hS h
def oc (cs:Array Value) (T:TypeId) (X:Nat) (W:World):Prop:=W.heap[X]? =some (.cells cs T (0,0))
section
variable {cs:Array Value} {T:TypeId} {X:Nat} {W W':World} {bs:List Nat}
theorem oc.lt (h:oc cs T X W):X < W.heap.size:=(J2.1 h).1
theorem oc.below (h:oc cs T X W) (hb:Below W.heap.size W W'):oc cs T X W':=(hb.block _ h.lt).trans h
theorem oc.kept (h:oc cs T X W) (hk:aI W W' bs) (hs:X∉bs):oc cs T X W':=(hk.same _ h.lt hs).trans h
end
theorem ga {α : Type} {l : List α} {i : Nat} (h : i < l.toArray.size) : l.toArray[i]'h = l[i]'(by simpa using h) := by simp
theorem gs {α : Type} {a : α} {l : List α} {i : Nat} (h : i + 1 < (a :: l).length) : (a :: l)[i + 1]'h = l[i]'(Nat.lt_of_succ_lt_succ h) := rfl
section
variable {p q:af} {w W U V:World} {B X b:Nat} {cs:Array Value} {T:TypeId} {Y:Prop}
end
end
end Go.Proofs.YtkbcplnlehdjfaaGreat
