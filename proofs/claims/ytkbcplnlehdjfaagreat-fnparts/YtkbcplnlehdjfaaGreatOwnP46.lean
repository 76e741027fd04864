/- What the proof leans on, part 46. -/
import Derived.Test.YtkbcplnlehdjfaaGreatOwnP45
set_option maxRecDepth 100000
set_option maxHeartbeats 8000000
open Go renaming heap_alloc_new->Kj,setRow_heap->KU,wpAnyH_done->K3,wp_store_row->LY
open Go.AllReadyH renaming cons->KX,nil->KY
open Go.RowKit.Below renaming refl->Kp
open List renaming getElem_cons_succ->K1,getElem_cons_zero->K0,getElem_toArray->KZ,mem_cons->Kt,mem_cons_of_mem->LB,mem_of_getElem?->KA
open Nat renaming le_refl->Ki

namespace Go.Proofs.YtkbcplnlehdjfaaGreat
open Go.RowKit Go.Maps
attribute [local go_sem ↓] Go.wp_at_zero Go.wp_at_succ
structure NY (w0:World) (a:Option Addr) (len:Nat) (L:List (Nat × af)) (B:List (Nat × ao)) (U:List (Option Addr × List dN)) (W:World):Prop where
 st:JR w0 a len L [] W
 box: ∀ x∈B,W.heap[x.1]? =some (.cells (aX x.2) 43 (0,0))
 row: ∀ x∈B,Row W x.2.aY (fk.flat x.2.prog)
 ops: ∀ x∈U,Row W x.1 (fk.flat x.2)
section
variable {w0 W A:World} {a:Option Addr} {len:Nat} {L:List (Nat × af)} {B:List (Nat × ao)} {U:List (Option Addr × List dN)} {q:af} {x:ao} {y:Nat × ao}
theorem NY.below (h:NY w0 a len L B U W) (hb:Below W.heap.size W A):NY w0 a len L B U A:=
 ⟨h.st.below hb,fun y hy=>(hb.block _ (Array.getElem?_eq_some_iff.1 (h.box y hy)).1).trans (h.box y hy),fun y hy=>(h.row y hy).below hb,fun y hy=>(h.ops y hy).below hb⟩
theorem NY.put (h:NY w0 a len L B U W) (hb:Below W.heap.size W A) (ho:ap A W.heap.size q):NY w0 a len ((A.heap.size,q) :: L) B U ((A.alloc (.cells ar 32)).setRow A.heap.size q.cells):=by
 have hz:Below A.heap.size A ((A.alloc (.cells ar 32)).setRow A.heap.size q.cells):=below_setRow ((Kp _ _).alloc (Ki _) _) (Ki _) _;have h2:=(h.below hb).below hz;exact ⟨h.st.put hb ho,h2.box,h2.row,h2.ops⟩
theorem NY.putU (h:NY w0 a len L B [] W) (hb:Below W.heap.size W A) (ho:ap A W.heap.size q) {r:Option Addr} {os:List dN} (hr:Row A r (fk.flat os)):NY w0 a len ((A.heap.size,q) :: L) B [(r,os)] ((A.alloc (.cells ar 32)).setRow A.heap.size q.cells):=by
 have h2:=h.put hb ho;exact ⟨h2.st,h2.box,h2.row,fun y hy=>by rw [List.mem_singleton.1 hy]; exact hr.below (below_setRow ((Kp _ _).alloc (Ki _) _) (Ki _) _)⟩
theorem NY.OS (h:NY w0 a len L B U W) (hb:Below W.heap.size W A) (hm:aR.cO A W.heap.size x):NY w0 a len L ((A.heap.size,x) :: B) U ((A.alloc (.cells cE 43)).setRow A.heap.size (aX x)):=by
 have hz:Below A.heap.size A ((A.alloc (.cells cE 43)).setRow A.heap.size (aX x)):=below_setRow ((Kp _ _).alloc (Ki _) _) (Ki _) _;have h2:=(h.below hb).below hz;exact ⟨h2.st,fun y hy=>(Kt.1 hy).elim (fun e=>by rw [e]; exact KU _ _ _ _ _ _ (Kj _ _)) (h2.box y),fun y hy=>(Kt.1 hy).elim (fun e=>by rw [e]; exact Row.below (w:=A) hm.row hz) (h2.row y),h2.ops⟩
theorem NY.putP2 (h:NY w0 a len L B U W) (hb:Below (W.alloc (.cells cE 43)).heap.size (W.alloc (.cells cE 43)) A) (hm:aR.cO A (W.alloc (.cells cE 43)).heap.size x):NY w0 a len L ((W.heap.size,x) :: B) U (A.setRow W.heap.size (aX x))∧A.heap[W.heap.size]? =some (.cells cE 43 (0,0)):=by
 have h1:Below W.heap.size W (W.alloc (.cells cE 43)):=(Kp _ _).alloc (Ki _) _;have hs:(W.alloc (.cells cE 43)).heap.size=W.heap.size+1:=by simp
 have h2:Below W.heap.size W A:=h1.trans (hb.mono (by omega));have hz:Below W.heap.size W (A.setRow W.heap.size (aX x)):=below_setRow h2 (Ki _) _;have ha:A.heap[W.heap.size]? =some (.cells cE 43 (0,0)):=(hb.block _ (by omega)).trans (Kj _ _);have h3:=h.below hz;have hm2:aR.cO (A.setRow W.heap.size (aX x)) (W.alloc (.cells cE 43)).heap.size x:=hm.same fun g hg=>setRow_other _ _ _ _ (by have:=(hm.lt hg).1; omega)
 exact ⟨⟨h3.st,fun y hy=>(Kt.1 hy).elim (fun e=>by rw [e]; exact KU _ _ _ _ _ _ ha) (h3.box y),fun y hy=>(Kt.1 hy).elim (fun e=>by rw [e]; exact hm2.row) (h3.row y),h3.ops⟩,ha⟩
theorem NY.less (h:NY w0 a len L (y :: B) U W):NY w0 a len L B U W:=⟨h.st,fun z hz=>h.box z (LB _ hz),fun z hz=>h.row z (LB _ hz),h.ops⟩
end
theorem SW (a:Option Addr) (len cap:Nat) (w:World) (hb:len≤1048576→Bytes w a len):
  Calls Tryz.prog 3 #[.slice a len cap] w fun e w'=>e= .returned (.bool true)∧Below w.heap.size w w':=by
 by_cases hl:1048576 < len
 ·have hd:decide (1048576 < len)=true:=by simp [hl]
  go_enter Tryz.func3,Tryz.ntmps3
  go_wp2_with (go_at_call 20; refine (DG _ _ _ _).mono ?_; rintro e w' ⟨rfl,rfl⟩; rw [hd]);go_ret;exact ⟨rfl,by go_grown⟩
 have hd:decide (1048576 < len)=false:=by simp [hl]
 have HBY:Hid (Bytes w a len):=hb (by omega);clear hb;have HL:Hid (len≤1048576):=(by omega:len≤1048576)
 clear hl
 go_enter Tryz.func3,Tryz.ntmps3
 go_wp2_with (go_at_call 20; refine (DG _ _ _ _).mono ?_; rintro e w' ⟨rfl,rfl⟩; rw [hd]);have S:Hid (NY w' a len [] [] [] w'):=⟨⟨by simp,by simp,Kp _ _,HBY.I⟩,by simp,by simp,by simp⟩
 clear HBY hd;have Mb:=SQ a len cap w' HL.I S.I.st.bytes;go_wp2_with fail;refine Mb.mono ?_;clear Mb;rintro e SH ⟨n,rfl,hb⟩;replace S:=aA (S.I.below hb);clear hb;obtain ⟨R1,Ps⟩: ∃ R,Hid (R=newR n):=⟨_,rfl⟩
 have Mb:=SR n SH;rw [← Ps.I] at Mb;go_wp2_with fail;refine Mb.mono ?_;clear Mb;rintro e A2 ⟨d,rfl,ho,hp,hb⟩;replace S:=aA (S.I.put hb ho);have SE:=aA hp;clear ho hb hp;go_upto_region 5 with (refine ec 4 28 d.cells (Kj _ _) ?_);generalize (A2.alloc (.cells ar 32)).setRow A2.heap.size d.cells=W2 at *;generalize A2.heap.size=X2 at *;have Mb:=SO n W2;rw [← Ps.I] at Mb;go_wp2_with fail;refine Mb.mono ?_;clear Mb;rintro e A3 ⟨d1,rfl,ho,hp,hb⟩;replace S:=aA (S.I.put hb ho);have Pd1:=aA hp;clear ho hb hp;go_upto_region 6 with (refine ec 6 33 d1.cells (Kj _ _) ?_);generalize (A3.alloc (.cells ar 32)).setRow A3.heap.size d1.cells=W3 at *;generalize A3.heap.size=X3 at *;have Pb:Hid (d.pure.Small):=by rw [SE.I,Ps.I]; exact SY n
 have n1:(R1.isSome != R1.isSome)=false:=by simp
 go_cut [56] from 4 to 55 (fun s wx=>s= .bool false∧Hid (NY w' a len [(X3,d1),(X2,d)] [] [] wx))
 case first=>
  as_aux_lemma=>
   cases c1:R1.isSome
   case false=>
    rw [c1] at n1;go_wp2;go_meet;exact ⟨rfl,S⟩
   case true=>
    rw [c1] at n1;have HF:=aA (S0 (SE.I.trans (by rw [Ps.I])) (by rw [← Ps.I]; exact c1));have Mb:=FQ d _ (uG Pb.I (S.I.st.ins (X2,d) (by simp)).2);rw [HF.I.1] at Mb;unfold af.cells at Mb;obtain ⟨m0,m1,m2,m3,m4,m5,m6,m7⟩:=(S.I.st.ins (X2,d) (by simp)).1.cells;go_wp2_with fail;clear m0 m1 m2 m3 m4 m5 m6 m7;refine Mb.mono ?_;clear Mb;rintro e B1 ⟨rfl,hb⟩;replace S:=aA (S.I.below hb);clear hb;have Mb:=um d _ (uG Pb.I (S.I.st.ins (X2,d) (by simp)).2);rw [HF.I.2.2] at Mb;unfold af.cells at Mb;obtain ⟨m0,m1,m2,m3,m4,m5,m6,m7⟩:=(S.I.st.ins (X2,d) (by simp)).1.cells;rw [HF.I.2.1] at Mb m2;go_wp2_with fail;clear m0 m1 m2 m3 m4 m5 m6 m7;refine Mb.mono ?_;clear Mb;rintro e B2 ⟨rfl,hb⟩;replace S:=aA (S.I.below hb);clear hb;go_wp2;go_meet;exact ⟨rfl,S⟩
 case rest=>
  as_aux_lemma=>
   clear S n1 SE Pd1 Pb;obtain ⟨rfl,S⟩:=hcut;have Mb:=SM a len cap _ HL.I S.I.st.bytes;go_wp2_with fail;refine Mb.mono ?_;clear Mb;rintro e Mq ⟨p,id,RX,g,c,os,rfl,hwi,hos,hro,ho,hs,hb⟩;replace S:=aA (S.I.putU hb ho hro);have HS:Hid (p.pure.Small):=hs;have HWI:=aA hwi;have HO:=aA hos;clear ho hb hs hwi hos hro;go_upto_region 9 with (refine ec 8 60 p.cells (Kj _ _) ?_);generalize (Mq.alloc (.cells ar 32)).setRow Mq.heap.size p.cells=W1 at *;generalize Mq.heap.size=X1 at *;obtain ⟨R2,Po⟩: ∃ R,Hid (R=cB p.pure { p.pure with L8:=bY (·.id) (newP id RX os) p.pure.L8 }):=⟨_,rfl⟩
   have Mb:=SL p id RX _ os c _ HWI.I HO.I (S.I.ops (some ⟨g,0,none⟩,os) (by simp)) (uG HS.I (S.I.st.ins (X1,p) (by simp)).2);rw [← Po.I] at Mb;go_wp2_with (refine eT 8 (g:=X1) (cs:=p.cells) (S.I.st.ins (X1,p) (by simp)).1 ?_);refine Mb.mono ?_;clear Mb;rintro e A4 ⟨q,rfl,ho,hp,hb⟩;replace S:=aA (S.I.put hb ho);have Pq:=aA hp;clear ho hb hp;go_upto_region 10 with (refine ec 12 70 q.cells (Kj _ _) ?_);generalize (A4.alloc (.cells ar 32)).setRow A4.heap.size q.cells=W4 at *;generalize A4.heap.size=X4 at *;have Mb:=sB p id RX _ os c _ _ HWI.I HO.I (S.I.ops (some ⟨g,0,none⟩,os) (by simp)) HS.I (S.I.st.ins (X1,p) (by simp)).2;rw [← Po.I] at Mb;go_wp2_with (refine eT 8 (g:=X1) (cs:=p.cells) (S.I.st.ins (X1,p) (by simp)).1 ?_);refine Mb.mono ?_;clear Mb;rintro e JB ⟨q1,rfl,ho,hp,hb⟩;replace S:=aA (S.I.put hb ho);have Pq1:=aA hp;clear ho hb hp;go_upto_region 11 with (refine ec 14 78 q1.cells (Kj _ _) ?_);generalize (JB.alloc (.cells ar 32)).setRow JB.heap.size q1.cells=W5 at *;generalize JB.heap.size=X5 at *;have Mk:Hid (q.pure.Small):=by rw [Pq.I,Po.I]; exact iR
   have Gq1:Hid (q1.pure.Small):=by rw [Pq1.I,Po.I]; exact iR
   have n1:(R2.isSome != R2.isSome)=false:=by simp
   have Mb:=Nn q q1 _ _ _ Mk.I (S.I.st.ins (X4,q) (by simp)).2 Gq1.I (S.I.st.ins (X5,q1) (by simp)).2 (Pq.I.trans Pq1.I.symm);unfold af.cells at Mb;obtain ⟨m0,m1,m2,m3,m4,m5,m6,m7⟩:=(S.I.st.ins (X4,q) (by simp)).1.cells;obtain ⟨n0,n1,n2,n3,n4,n5,n6,n7⟩:=(S.I.st.ins (X5,q1) (by simp)).1.cells;go_wp2_with fail;clear m0 m1 m2 m3 m4 m5 m6 m7 n0 n1 n2 n3 n4 n5 n6 n7;refine Mb.mono ?_;clear Mb;rintro e B1 ⟨rfl,hb⟩;replace S:=aA (S.I.below hb);clear hb;clear n1;cases c1:R2.isSome
   case false=>
    as_aux_lemma=>
     have n1:(false == false)=true:=rfl;have Mb:=Nn q q1 _ _ _ Mk.I (S.I.st.ins (X4,q) (by simp)).2 Gq1.I (S.I.st.ins (X5,q1) (by simp)).2 (Pq.I.trans Pq1.I.symm);unfold af.cells at Mb;obtain ⟨m0,m1,m2,m3,m4,m5,m6,m7⟩:=(S.I.st.ins (X4,q) (by simp)).1.cells;obtain ⟨n0,n1,n2,n3,n4,n5,n6,n7⟩:=(S.I.st.ins (X5,q1) (by simp)).1.cells;go_wp2_with fail;clear m0 m1 m2 m3 m4 m5 m6 m7 n0 n1 n2 n3 n4 n5 n6 n7;refine Mb.mono ?_;clear Mb;rintro e B2 ⟨rfl,hb⟩;replace S:=aA (S.I.below hb);clear hb;go_wp2;go_ret;exact ⟨al (by simp),S.I.st.low⟩
   case true=>
    as_aux_lemma=>
     have HF:=aA (S7 Po.I Pq.I c1);clear Pq Pq1 Gq1 Po;have Mb:=uN q id _ HWI.I (uG Mk.I (S.I.st.ins (X4,q) (by simp)).2);rw [HF.I.2.2.1] at Mb;go_wp2_with (refine eT 12 (g:=X4) (cs:=q.cells) (S.I.st.ins (X4,q) (by simp)).1 ?_);refine Mb.mono ?_;clear Mb;rintro e Mx ⟨x,rfl,hm,hx,hb⟩;replace S:=aA (S.I.OS hb hm);have SG:=aA hx;clear hm hx hb;go_upto_region 14 with (refine wpList_store_row rfl 43 (.tmp 16) (.tmp 105) rfl Mx.heap.size _ _ (aX x) rfl rfl (Kj _ _) (by kernel_rfl) rfl (by kernel_rfl) ?_);generalize (Mx.alloc (.cells cE 43)).setRow Mx.heap.size (aX x)=W31 at *;generalize Mx.heap.size=X31 at *;have HN:Hid (p.L8.length≤1048576):=(gv HS.I).L8;go_wp2_with fail
     go_loopw [18] (fun i wr=> ∃ k:Nat,k≤p.L8.length∧i= .int .i64 k∧Hid (NY w' a len [(X5,q1),(X4,q),(X1,p),(X3,d1),(X2,d)] [(X31,x)] [(some ⟨g,0,none⟩,os)] wr)) (fun i _=>p.L8.length - (Go.RowKit.intOf i).toNat)
     case atStart=>exact ⟨0,Nat.zero_le _,rfl,S⟩
     case round=>
      clear S;obtain ⟨k,hk,rfl,S⟩:=hrel;have hlen:=HN.I;by_cases hlt:k < p.L8.length
      ·skip
       have i0:(0:Int)≤(k:Int):=by omega
       have i1:(k:Int) < (p.L8.length:Int):=by omega
       obtain ⟨y,hy⟩: ∃ y,p.L8[k]? =some y:=⟨_,List.getElem?_eq_getElem hlt⟩
       have HY:=aA (HF.I.2.2.2 y (KA hy));obtain ⟨gs,ha,-⟩:=cn (S.I.st.ins (X1,p) (by simp)).2.at.1 hy;have HWY:Hid ((Lit.int .i64 y.id).wf=true):=(cY HS.I (KA hy)).2.id;have HYL:Hid (y.prog.length≤1048576):=(cY HS.I (KA hy)).1.prog;have HC:Hid (∀ (B:List (Nat × ao)) (W:World),NY w' a len [(X5,q1),(X4,q),(X1,p),(X3,d1),(X2,d)] B [(some ⟨g,0,none⟩,os)] W→W.cell? ⟨X1,2,none⟩=some (.slice (some ⟨gs,0,none⟩) p.L8.length p.aW)∧ao.At W gs k y∧Row W y.aY (fk.flat y.prog)):=fun B W h=>by
        obtain ⟨-,-,m2,-⟩:=(h.st.ins (X1,p) (by simp)).1.cells;obtain ⟨g,h1,h2⟩:=cn (h.st.ins (X1,p) (by simp)).2.at.1 hy;cases ha.symm.trans h1;rw [ha] at m2;exact ⟨m2,h2,lA (h.st.ins (X1,p) (by simp)).2.at.1 hy⟩
       obtain ⟨-,-,m2,-⟩:=(S.I.st.ins (X1,p) (by simp)).1.cells;clear hy ha;go_upto_region 17 with fail;clear m2
       go_cut [19,20] from 107 to 136 (fun z1 z2 wx=> ∃ (Y:Nat) (u:ao),z1= .pointer (some ⟨Y,0,none⟩)∧z2= .bool true∧Hid (NY w' a len [(X5,q1),(X4,q),(X1,p),(X3,d1),(X2,d)] [(Y,u),(X31,x)] [(some ⟨g,0,none⟩,os)] wx∧u.toaD=y.toaD))
       case first=>
        as_aux_lemma=>
         replace S:=aA (S.I.below (Kp _ _).drew);refine wp_region_held_drew (S:=fun W=>NY w' a len [(X5,q1),(X4,q),(X1,p),(X3,d1),(X2,d)] [(X31,x)] [(some ⟨g,0,none⟩,os)] W) (by kernel_rfl) S.I (fun _=> ?_);generalize World.drew _=V at *;refine tkr 0 (v:= .agg q.cells) rfl (Ib (by rfl) 32 _ rfl X4 (by rfl) 32 _ _ (fun _ h=>(h.st.ins (X4,q) (by simp)).1) Tryz.underlying32 rfl (by kernel_rfl)) S.I ?_; simp only [pt,sb,s0,s1];refine tk 1 (v:= ?_) ?_ S.I ?_; rotate_left; (intro w0 hS0; obtain ⟨m2,⟨q0,-⟩,-⟩:=HC.I _ w0 hS0; go_simp; try with_reducible rfl); simp only [pt,sb,s0,s1];refine tk 2 (v:= ?_) ?_ S.I ?_; rotate_left; (intro w0 hS0; obtain ⟨m2,⟨q0,-⟩,-⟩:=HC.I _ w0 hS0; go_simp; try with_reducible rfl); simp only [pt,sb,s0,s1];refine tk 3 (v:= ?_) ?_ S.I ?_; rotate_left; (intro w0 hS0; obtain ⟨m2,⟨q0,-⟩,-⟩:=HC.I _ w0 hS0; go_simp; try with_reducible rfl); simp only [pt,sb,s0,s1];refine tk 4 (v:= ?_) ?_ S.I ?_; rotate_left; (intro w0 hS0; obtain ⟨m2,⟨q0,-⟩,-⟩:=HC.I _ w0 hS0; go_simp; try with_reducible rfl); simp only [pt,sb,s0,s1];refine tk 5 (v:= ?_) ?_ S.I ?_; rotate_left; (intro w0 hS0; obtain ⟨m2,⟨q0,-⟩,-⟩:=HC.I _ w0 hS0; go_simp; try with_reducible rfl); simp only [pt,sb,s0,s1];refine tk 6 (v:= ?_) ?_ S.I ?_; rotate_left; (intro w0 hS0; obtain ⟨m2,⟨q0,-⟩,-⟩:=HC.I _ w0 hS0; go_simp; try with_reducible rfl); simp only [pt,sb,s0,s1];refine wpAnyH_ready (rs:= [7,11]) (by kernel_rfl) (by simp) ?_;refine KX rfl (fun K hK=> ?_) (KX rfl (fun K hK=> ?_) KY)
         focus
          simp only [KZ,K0,K1];rw [if_pos (by rfl)];have Mb:=uN q y.id V HWY.I (uG Mk.I (S.I.st.ins (X4,q) (by simp)).2);rw [HY.I] at Mb;go_wp2_with fail;refine Mb.mono ?_;clear Mb;rintro e A1 ⟨u,rfl,hm,hu,hb⟩;have HM:=aA (S.I.OS hb hm);have HU:=aA hu;have fQ:=aA (S.I.below hb);clear hm hb hu;refine hK.out _ _ fQ.I (fun _=> ?_);clear hK K
          try simp only [pt,sb,s0,s1]
          refine tk 8 (v:= ?_) ?_ fQ.I ?_; rotate_left; (intro w0 hS0; go_simp; try with_reducible rfl); simp only [pt,sb,s0,s1];refine tk 9 (v:= ?_) ?_ fQ.I ?_; rotate_left; (intro w0 hS0; go_simp; try with_reducible rfl); simp only [pt,sb,s0,s1];refine tk 10 (v:= ?_) ?_ fQ.I ?_; rotate_left; (intro w0 hS0; go_simp; try with_reducible rfl); simp only [pt,sb,s0,s1];refine L7 11 (fun K hK=> ?_);go_wp2;have cy:=aA (fQ.I.below ((Kp _ _).alloc (Ki _) (.cells cE 43)));refine hK.out _ _ cy.I (fun _=> ?_);clear hK K
          try simp only [pt,sb,s0,s1]
          refine L7 12 (fun K hK=> ?_);refine LY 43 (.tmp 19) (.tmp 123) rfl A1.heap.size (aX u) rfl rfl _ _ (Kj _ _) (by kernel_rfl) rfl (by kernel_rfl) ?_;refine hK.out _ _ HM.I.less (fun hX=> ?_);clear hK K;refine tk 13 (v:= ?_) ?_ hX ?_; rotate_left; (intro w0 hS0; go_simp; try with_reducible rfl); try simp only [pt]
          refine K3 (by kernel_rfl) ?_ _;go_wp2_with fail;go_meet;exact ⟨A1.heap.size,u,rfl,rfl,HM.I,HU.I⟩
         focus
          simp only [KZ,K0,K1];rw [if_pos (by rfl)];go_wp2;have fQ:=aA (S.I.below ((Kp _ _).alloc (Ki _) (.cells cE 43)));refine hK.out _ _ fQ.I (fun _=> ?_);clear hK K
          try simp only [pt,sb,s0,s1]
          refine L7 7 (fun K hK=> ?_);have Mb:=uN q y.id (V.alloc (.cells cE 43)) HWY.I (uG Mk.I (fQ.I.st.ins (X4,q) (by simp)).2);rw [HY.I] at Mb;go_wp2_with fail;refine Mb.mono ?_;clear Mb;rintro e A1 ⟨u,rfl,hm,hu,hb⟩;have HM:=aA (S.I.putP2 hb hm);have HU:=aA hu;have cy:=aA (fQ.I.below hb);clear hm hb hu;refine hK.out _ _ cy.I (fun _=> ?_);clear hK K
          try simp only [pt,sb,s0,s1]
          refine tk 8 (v:= ?_) ?_ cy.I ?_; rotate_left; (intro w0 hS0; go_simp; try with_reducible rfl); simp only [pt,sb,s0,s1];refine tk 9 (v:= ?_) ?_ cy.I ?_; rotate_left; (intro w0 hS0; go_simp; try with_reducible rfl); simp only [pt,sb,s0,s1];refine tk 10 (v:= ?_) ?_ cy.I ?_; rotate_left; (intro w0 hS0; go_simp; try with_reducible rfl); simp only [pt,sb,s0,s1];refine L7 12 (fun K hK=> ?_);refine LY 43 (.tmp 19) (.tmp 123) rfl V.heap.size (aX u) rfl rfl _ _ HM.I.2 (by kernel_rfl) rfl (by kernel_rfl) ?_;refine hK.out _ _ HM.I.1.less (fun hX=> ?_);clear hK K;refine tk 13 (v:= ?_) ?_ hX ?_; rotate_left; (intro w0 hS0; go_simp; try with_reducible rfl); try simp only [pt]
          refine K3 (by kernel_rfl) ?_ _;go_wp2_with fail;go_meet;exact ⟨V.heap.size,u,rfl,rfl,HM.I.1,HU.I⟩
       case rest=>
        as_aux_lemma=>
         clear S HY;obtain ⟨Y,u,rfl,rfl,HU⟩:=hcut;go_upto_region 18 with fail;refine aT (fun W=>NY w' a len [(X5,q1),(X4,q),(X1,p),(X3,d1),(X2,d)] [(Y,u),(X31,x)] [(some ⟨g,0,none⟩,os)] W) (by kernel_rfl) (HU.I.1.below (Kp _ _).drew) ?_;have HE:=aA HU.I.2;have HZ:Hid (u.prog.length≤1048576):=by show _≤_; rw [HE.I]; exact HYL.I
         iterate 9 (refine yl (v:= ?_) ?_ ?_; rotate_left; (intro w0 hS0; obtain ⟨m2,⟨q0,q1,q2,q3,q4,q5,q6,q7,q8,q9,kY,kV⟩,-⟩:=HC.I _ w0 hS0; obtain ⟨o0,o1,o2,o3,o4,o5,o6,o7,Mt,MB,o10,o11⟩:=bo (hS0.box (Y,u) (by simp)); go_simp; try with_reducible rfl); simp only [pt,sb,s0,s1])
         refine cl (.bool true) 31 #[.agg u.row,.agg y.row] ?_ (fun w0 h0=>(Nl u y w0 HE.I HZ.I (h0.row (Y,u) (by simp)) (HC.I _ w0 h0).2.2).mono fun e w1 h=>⟨h.1,h0.below h.2⟩) ?_
         ·intro w0 hS0
          go_simp
         simp only [pt,sb,s0,s1]
         iterate 2 (refine yl (v:= ?_) ?_ ?_; rotate_left; (intro w0 hS0; obtain ⟨m2,⟨q0,q1,q2,q3,q4,q5,q6,q7,q8,q9,kY,kV⟩,-⟩:=HC.I _ w0 hS0; obtain ⟨o0,o1,o2,o3,o4,o5,o6,o7,Mt,MB,o10,o11⟩:=bo (hS0.box (Y,u) (by simp)); go_simp; try with_reducible rfl); simp only [pt,sb,s0,s1])
         refine bk (by kernel_rfl) (fun A3 NO=> ?_) _;go_wp2;go_roundw
         case rel=>exact ⟨k+1,by omega,by go_num,NO.less⟩
         case measure=>simp [Go.RowKit.intOf]; omega
      ·have i1: ¬ (k:Int) < (p.L8.length:Int):=by omega
       obtain ⟨-,-,r2,-⟩:=(S.I.st.ins (X1,p) (by simp)).1.cells;obtain ⟨-,o1,o2,o3,-,-,-,-,-,-,-,-⟩:=bo (S.I.box (X31,x) (by simp));have z1:x.RX=RX:=congrArg aD.RX SG.I;have z2:x.prog=os:=congrArg aD.prog SG.I;have z3:x.Md=0:=congrArg aD.Md SG.I;have HW:=aA (S.I.row (X31,x) (by simp));simp only [z2] at HW;rw [z1] at o1;rw [z2] at o2;rw [z3] at o3;clear z1 z2 z3;have n1:(RX == RX)=true:=by simp
       have Mb:=N1 x.aY (some ⟨g,0,none⟩) os x.bH c _ HO.I.1 HW.I (S.I.ops (some ⟨g,0,none⟩,os) (by simp));go_wp2_with fail;clear o1 o2 o3 r2;refine Mb.mono ?_;clear Mb;rintro e SF ⟨rfl,hb⟩;replace S:=aA (S.I.below hb);clear hb;have n2:((q.L8.length:Int) == (p.L8.length:Int)+1)=true:=by have:=HF.I.2.1; simp; omega
       have Mb:=FQ q _ (uG Mk.I (S.I.st.ins (X4,q) (by simp)).2);rw [HF.I.1] at Mb;unfold af.cells at Mb;obtain ⟨-,-,r2,-⟩:=(S.I.st.ins (X1,p) (by simp)).1.cells;obtain ⟨m0,m1,m2,m3,m4,m5,m6,m7⟩:=(S.I.st.ins (X4,q) (by simp)).1.cells;go_wp2_with fail;clear m0 m1 m2 m3 m4 m5 m6 m7 r2;refine Mb.mono ?_;clear Mb;rintro e Mp ⟨rfl,hb⟩;replace S:=aA (S.I.below hb);clear hb;go_wp2;go_ret;exact ⟨al (by simp),S.I.st.low⟩
end Go.Proofs.YtkbcplnlehdjfaaGreat
