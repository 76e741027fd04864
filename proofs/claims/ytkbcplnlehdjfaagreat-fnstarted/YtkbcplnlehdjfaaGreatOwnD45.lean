/- What the proof leans on, part 45. -/
import Derived.Test.YtkbcplnlehdjfaaGreatOwnD44
set_option maxRecDepth 100000
set_option maxHeartbeats 8000000
open Go renaming heap_alloc_new->Kj,setRow_heap->KU,wpAnyH_done->K3,wp_store_row->LY
open Go.AllReadyH renaming cons->KX,nil->KY
open Go.RowKit.Below renaming refl->Kp
open List renaming getElem_cons_succ->K1,getElem_cons_zero->K0,getElem_toArray->KZ,mem_cons->Kt,mem_cons_of_mem->LB,mem_of_getElem?->KA
open Nat renaming le_refl->Ki

namespace Go.Proofs.YtkbcplnlehdjfaaGreat
open Go.RowKit Go.Maps
attribute [local go_sem ↓] Go.wp_at_zero Go.wp_at_succ
structure NY (w0:World) (a:Option Addr) (len:Nat) (L:List (Nat × af)) (B:List (Nat × ao)) (W:World):Prop where
 st:JR w0 a len L [] W
 box: ∀ x∈B,W.heap[x.1]? =some (.cells (aX x.2) 43 (0,0))
 row: ∀ x∈B,Row W x.2.aY (fk.flat x.2.prog)
section
variable {w0 W A:World} {a:Option Addr} {len:Nat} {L:List (Nat × af)} {B:List (Nat × ao)} {q:af} {x:ao}
theorem NY.below (h:NY w0 a len L B W) (hb:Below W.heap.size W A):NY w0 a len L B A:=
 ⟨h.st.below hb,fun y hy=>(hb.block _ (Array.getElem?_eq_some_iff.1 (h.box y hy)).1).trans (h.box y hy),fun y hy=>(h.row y hy).below hb⟩
theorem NY.put (h:NY w0 a len L B W) (hb:Below W.heap.size W A) (ho:ap A W.heap.size q):NY w0 a len ((A.heap.size,q) :: L) B ((A.alloc (.cells ar 32)).setRow A.heap.size q.cells):=by
 have hz:Below A.heap.size A ((A.alloc (.cells ar 32)).setRow A.heap.size q.cells):=below_setRow ((Kp _ _).alloc (Ki _) _) (Ki _) _;exact ⟨h.st.put hb ho,((h.below hb).below hz).box,((h.below hb).below hz).row⟩
theorem NY.OS (h:NY w0 a len L B W) (hb:Below W.heap.size W A) (hm:aR.cO A W.heap.size x):NY w0 a len L ((A.heap.size,x) :: B) ((A.alloc (.cells cE 43)).setRow A.heap.size (aX x)):=by
 have hz:Below A.heap.size A ((A.alloc (.cells cE 43)).setRow A.heap.size (aX x)):=below_setRow ((Kp _ _).alloc (Ki _) _) (Ki _) _;have h2:=(h.below hb).below hz;exact ⟨h2.st,fun y hy=>(Kt.1 hy).elim (fun e=>by rw [e]; exact KU _ _ _ _ _ _ (Kj _ _)) (h2.box y),fun y hy=>(Kt.1 hy).elim (fun e=>by rw [e]; exact Row.below (w:=A) hm.row hz) (h2.row y)⟩
theorem NY.putP2 (h:NY w0 a len L B W) (hb:Below (W.alloc (.cells cE 43)).heap.size (W.alloc (.cells cE 43)) A) (hm:aR.cO A (W.alloc (.cells cE 43)).heap.size x):NY w0 a len L ((W.heap.size,x) :: B) (A.setRow W.heap.size (aX x))∧A.heap[W.heap.size]? =some (.cells cE 43 (0,0)):=by
 have h1:Below W.heap.size W (W.alloc (.cells cE 43)):=(Kp _ _).alloc (Ki _) _;have hs:(W.alloc (.cells cE 43)).heap.size=W.heap.size+1:=by simp
 have h2:Below W.heap.size W A:=h1.trans (hb.mono (by omega));have hz:Below W.heap.size W (A.setRow W.heap.size (aX x)):=below_setRow h2 (Ki _) _;have ha:A.heap[W.heap.size]? =some (.cells cE 43 (0,0)):=(hb.block _ (by omega)).trans (Kj _ _);have h3:=h.below hz;have hm2:aR.cO (A.setRow W.heap.size (aX x)) (W.alloc (.cells cE 43)).heap.size x:=hm.same fun g hg=>setRow_other _ _ _ _ (by have:=(hm.lt hg).1; omega)
 exact ⟨⟨h3.st,fun y hy=>(Kt.1 hy).elim (fun e=>by rw [e]; exact KU _ _ _ _ _ _ ha) (h3.box y),fun y hy=>(Kt.1 hy).elim (fun e=>by rw [e]; exact hm2.row) (h3.row y)⟩,ha⟩
end
theorem MR {p:aE} {id:Int} :((pf p id).getD cN).Small:=by
 cases h:pf p id with
 | none=>exact hY
 | some q=>
  have h1:=(ND (R:=pf p id) rfl (by rw [h]; rfl)).1;rw [h] at h1;exact ta ((ch _).1 h1)
theorem NG (a:Option Addr) (len cap:Nat) (w:World) (hb:len≤1048576→Bytes w a len):
  Calls Tryz.prog 5 #[.slice a len cap] w fun e w'=>e= .returned (.bool true)∧Below w.heap.size w w':=by
 by_cases hl:1048576 < len
 ·have hd:decide (1048576 < len)=true:=by simp [hl]
  go_enter Tryz.func5,Tryz.ntmps5
  go_wp2_with (go_at_call 20; refine (DG _ _ _ _).mono ?_; rintro e w' ⟨rfl,rfl⟩; rw [hd]);go_ret;exact ⟨rfl,by go_grown⟩
 have hd:decide (1048576 < len)=false:=by simp [hl]
 have HBY:Hid (Bytes w a len):=hb (by omega);clear hb;have HL:Hid (len≤1048576):=(by omega:len≤1048576)
 clear hl
 go_enter Tryz.func5,Tryz.ntmps5
 go_wp2_with (go_at_call 20; refine (DG _ _ _ _).mono ?_; rintro e w' ⟨rfl,rfl⟩; rw [hd]);have S:Hid (NY w' a len [] [] w'):=⟨⟨by simp,by simp,Kp _ _,HBY.I⟩,by simp,by simp⟩
 clear HBY hd;have Mb:=Nu a len cap w' HL.I S.I.st.bytes;go_wp2_with fail;refine Mb.mono ?_;clear Mb;rintro e A1 ⟨p,id,rfl,hwi,ho,hs,hb⟩;replace S:=aA (S.I.put hb ho);have HS:Hid (p.pure.Small):=hs;have HWI:=aA hwi;clear ho hb hs hwi;go_upto_region 4 with (refine ec 3 31 A1.heap.size p.cells (Kj _ _) ?_);generalize (A1.alloc (.cells ar 32)).setRow A1.heap.size p.cells=W1 at *;generalize A1.heap.size=X1 at *;obtain ⟨R1,Ps⟩: ∃ R,Hid (R=kD p.pure id):=⟨_,rfl⟩
 obtain ⟨R2,Po⟩: ∃ R,Hid (R=pf p.pure id):=⟨_,rfl⟩
 have Mb:=Nt p id _ HWI.I (uG HS.I (S.I.st.ins (X1,p) (by simp)).2);rw [← Ps.I] at Mb;go_wp2_with (refine eT 3 X1 p.cells (S.I.st.ins (X1,p) (by simp)).1 ?_);refine Mb.mono ?_;clear Mb;rintro e A2 ⟨q,rfl,ho,hp,hb⟩;replace S:=aA (S.I.put hb ho);have Pq:=aA hp;clear ho hb hp;go_upto_region 5 with (refine ec 5 37 A2.heap.size q.cells (Kj _ _) ?_);generalize (A2.alloc (.cells ar 32)).setRow A2.heap.size q.cells=W2 at *;generalize A2.heap.size=X2 at *;have Mb:=tK p id _ (dV HS.I) (fun x hx=>(cY HS.I hx).1) (S.I.st.ins (X1,p) (by simp)).2.at;rw [← Ps.I] at Mb;go_wp2_with (refine eT 3 X1 p.cells (S.I.st.ins (X1,p) (by simp)).1 ?_);refine Mb.mono ?_;clear Mb;rintro e A3 ⟨q1,rfl,ho,hp,hb⟩;replace S:=aA (S.I.put hb ho);have Pq1:=aA hp;clear ho hb hp;go_upto_region 6 with (refine ec 7 43 A3.heap.size q1.cells (Kj _ _) ?_);generalize (A3.alloc (.cells ar 32)).setRow A3.heap.size q1.cells=W3 at *;generalize A3.heap.size=X3 at *;have Mb:=MY p id _ HWI.I (uG HS.I (S.I.st.ins (X1,p) (by simp)).2);rw [← Po.I] at Mb;go_wp2_with (refine eT 3 X1 p.cells (S.I.st.ins (X1,p) (by simp)).1 ?_);refine Mb.mono ?_;clear Mb;rintro e A4 ⟨sp,rfl,ho,hp,hb⟩;replace S:=aA (S.I.put hb ho);have Psp:=aA hp;clear ho hb hp;go_upto_region 7 with (refine ec 9 49 A4.heap.size sp.cells (Kj _ _) ?_);generalize (A4.alloc (.cells ar 32)).setRow A4.heap.size sp.cells=W4 at *;generalize A4.heap.size=X4 at *;have Mb:=FB p id _ (dV HS.I) (fun x hx=>(cY HS.I hx).1) (S.I.st.ins (X1,p) (by simp)).2.at;rw [← Po.I] at Mb;go_wp2_with (refine eT 3 X1 p.cells (S.I.st.ins (X1,p) (by simp)).1 ?_);refine Mb.mono ?_;clear Mb;rintro e JB ⟨O6,rfl,ho,hp,hb⟩;replace S:=aA (S.I.put hb ho);have Ph:=aA hp;clear ho hb hp;go_upto_region 8 with (refine ec 11 55 JB.heap.size O6.cells (Kj _ _) ?_);generalize (JB.alloc (.cells ar 32)).setRow JB.heap.size O6.cells=W5 at *;generalize JB.heap.size=X5 at *;have Mk:Hid (q.pure.Small):=by rw [Pq.I,Ps.I]; exact wZ HS.I
 have Gq1:Hid (q1.pure.Small):=by rw [Pq1.I,Ps.I]; exact wZ HS.I
 have Gsp:Hid (sp.pure.Small):=by rw [Psp.I,Po.I]; exact MR
 have Gsp1:Hid (O6.pure.Small):=by rw [Ph.I,Po.I]; exact MR
 have n1:(R1.isSome != R1.isSome)=false:=by simp
 have n2:(R2.isSome != R2.isSome)=false:=by simp
 have Mb:=Nn q q1 _ _ _ Mk.I (S.I.st.ins (X2,q) (by simp)).2 Gq1.I (S.I.st.ins (X3,q1) (by simp)).2 (Pq.I.trans Pq1.I.symm);unfold af.cells at Mb;obtain ⟨m0,m1,m2,m3,m4,m5,m6,m7⟩:=(S.I.st.ins (X2,q) (by simp)).1.cells;obtain ⟨n0,n1,n2,n3,n4,n5,n6,n7⟩:=(S.I.st.ins (X3,q1) (by simp)).1.cells;go_wp2_with fail;clear m0 m1 m2 m3 m4 m5 m6 m7 n0 n1 n2 n3 n4 n5 n6 n7;refine Mb.mono ?_;clear Mb;rintro e B1 ⟨rfl,hb⟩;replace S:=aA (S.I.below hb);clear hb;have Mb:=Nn sp O6 _ _ _ Gsp.I (S.I.st.ins (X4,sp) (by simp)).2 Gsp1.I (S.I.st.ins (X5,O6) (by simp)).2 (Psp.I.trans Ph.I.symm);unfold af.cells at Mb;obtain ⟨m0,m1,m2,m3,m4,m5,m6,m7⟩:=(S.I.st.ins (X4,sp) (by simp)).1.cells;obtain ⟨n0,n1,n2,n3,n4,n5,n6,n7⟩:=(S.I.st.ins (X5,O6) (by simp)).1.cells;go_wp2_with fail;clear m0 m1 m2 m3 m4 m5 m6 m7 n0 n1 n2 n3 n4 n5 n6 n7;refine Mb.mono ?_;clear Mb;rintro e B2 ⟨rfl,hb⟩;replace S:=aA (S.I.below hb);clear hb;clear n1 n2;cases c1:R1.isSome
 case false=>
  as_aux_lemma=>
   cases c2:R2.isSome
   ·go_wp2
    go_ret;exact ⟨al (by simp),S.I.st.low⟩
   ·have HF:=aA (ND Po.I c2)
    rw [← Psp.I] at HF;clear Pq Pq1 Ph Mk Gq1 Gsp1 Ps Po;have Mb:=uN sp id _ HWI.I (uG Gsp.I (S.I.st.ins (X4,sp) (by simp)).2);go_wp2_with (refine eT 9 X4 sp.cells (S.I.st.ins (X4,sp) (by simp)).1 ?_);refine Mb.mono ?_;clear Mb;rintro e Mx ⟨x,rfl,hm,hx,hb⟩;replace S:=aA (S.I.OS hb hm);have Qx:=aA hx;clear hm hx hb;go_upto_region 19 with (refine wpList_store_row rfl 43 (.tmp 21) (.tmp 141) rfl Mx.heap.size _ _ (aX x) rfl rfl (Kj _ _) (by kernel_rfl) rfl (by kernel_rfl) ?_);generalize (Mx.alloc (.cells cE 43)).setRow Mx.heap.size (aX x)=W31 at *;generalize Mx.heap.size=X31 at *;have HN:Hid (p.L8.length≤1048576):=(gv HS.I).L8;go_wp2_with fail
    go_loopw [23] (fun i wr=> ∃ k:Nat,k≤p.L8.length∧i= .int .i64 k∧Hid (NY w' a len [(X5,O6),(X4,sp),(X3,q1),(X2,q),(X1,p)] [(X31,x)] wr)) (fun i _=>p.L8.length - (Go.RowKit.intOf i).toNat)
    case atStart=>exact ⟨0,Nat.zero_le _,rfl,S⟩
    case round=>
     clear S;obtain ⟨k,hk,rfl,S⟩:=hrel;have hlen:=HN.I;by_cases hlt:k < p.L8.length
     ·skip
      have i0:(0:Int)≤(k:Int):=by omega
      have i1:(k:Int) < (p.L8.length:Int):=by omega
      obtain ⟨y,hy⟩: ∃ y,p.L8[k]? =some y:=⟨_,List.getElem?_eq_getElem hlt⟩
      have HY:=aA (HF.I.2.2.2 y.toaD (List.mem_map.2 ⟨y,KA hy,rfl⟩));obtain ⟨gs,ha,-⟩:=cn (S.I.st.ins (X1,p) (by simp)).2.at.1 hy;have HWY:Hid ((Lit.int .i64 y.id).wf=true):=(cY HS.I (KA hy)).2.id;have HYL:Hid (y.prog.length≤1048576):=(cY HS.I (KA hy)).1.prog;have HC:Hid (∀ (B:List (Nat × ao)) (W:World),NY w' a len [(X5,O6),(X4,sp),(X3,q1),(X2,q),(X1,p)] B W→W.cell? ⟨X1,2,none⟩=some (.slice (some ⟨gs,0,none⟩) p.L8.length p.aW)∧ao.At W gs k y∧Row W y.aY (fk.flat y.prog)):=fun B W h=>by
       obtain ⟨-,-,m2,-⟩:=(h.st.ins (X1,p) (by simp)).1.cells;obtain ⟨g,h1,h2⟩:=cn (h.st.ins (X1,p) (by simp)).2.at.1 hy;cases ha.symm.trans h1;rw [ha] at m2;exact ⟨m2,h2,lA (h.st.ins (X1,p) (by simp)).2.at.1 hy⟩
      obtain ⟨-,-,m2,-⟩:=(S.I.st.ins (X1,p) (by simp)).1.cells;clear hy ha;go_upto_region 22 with fail;clear m2
      go_cut [24] from 143 to 178 (fun s24 wx=> ∃ (Y:Nat) (u:ao),s24= .pointer (some ⟨Y,0,none⟩)∧Hid (NY w' a len [(X5,O6),(X4,sp),(X3,q1),(X2,q),(X1,p)] [(Y,u),(X31,x)] wx∧(¬ y.id=id→u.toaD=y.toaD)))
      case first=>
       as_aux_lemma=>
        replace S:=aA (S.I.below (Kp _ _).drew);refine wp_region_held_drew (S:=fun W=>NY w' a len [(X5,O6),(X4,sp),(X3,q1),(X2,q),(X1,p)] [(X31,x)] W) (by kernel_rfl) S.I (fun _=> ?_);generalize World.drew _=V at *;refine tkr 0 (v:= .agg sp.cells) rfl (Ib (by rfl) 32 _ rfl X4 (by rfl) 32 _ _ (fun _ h=>(h.st.ins (X4,sp) (by simp)).1) Tryz.underlying32 rfl (by kernel_rfl)) S.I ?_; simp only [pt,sb,s0,s1];refine tt 1 S.I ?_ (hy:=fun w0 hS0=>by obtain ⟨m2,⟨q0,-⟩,-⟩:=HC.I _ w0 hS0; go_simp; try with_reducible rfl);refine tt 2 S.I ?_ (hy:=fun w0 hS0=>by obtain ⟨m2,⟨q0,-⟩,-⟩:=HC.I _ w0 hS0; go_simp; try with_reducible rfl);refine tt 3 S.I ?_ (hy:=fun w0 hS0=>by obtain ⟨m2,⟨q0,-⟩,-⟩:=HC.I _ w0 hS0; go_simp; try with_reducible rfl);refine tt 4 S.I ?_ (hy:=fun w0 hS0=>by obtain ⟨m2,⟨q0,-⟩,-⟩:=HC.I _ w0 hS0; go_simp; try with_reducible rfl);refine tt 5 S.I ?_ (hy:=fun w0 hS0=>by obtain ⟨m2,⟨q0,-⟩,-⟩:=HC.I _ w0 hS0; go_simp; try with_reducible rfl);refine tt 6 S.I ?_ (hy:=fun w0 hS0=>by obtain ⟨m2,⟨q0,-⟩,-⟩:=HC.I _ w0 hS0; go_simp; try with_reducible rfl);refine wpAnyH_ready (rs:= [7,11]) (by kernel_rfl) (by simp) ?_;refine KX rfl (fun K hK=> ?_) (KX rfl (fun K hK=> ?_) KY)
        focus
         simp only [KZ,K0,K1];rw [if_pos (by rfl)];go_wp2_with fail;refine (uN sp y.id V HWY.I (uG Gsp.I (S.I.st.ins (X4,sp) (by simp)).2)).mono ?_;rintro e A1 ⟨u,rfl,hm,hu,hb⟩;have HM:=aA (S.I.OS hb hm);have HU:=aA hu;have fQ:=aA (S.I.below hb);clear hm hb hu;refine hK.out _ _ fQ.I (fun _=> ?_);clear hK K
         try simp only [pt,sb,s0,s1]
         refine tt 8 fQ.I ?_;refine tt 9 fQ.I ?_;refine tt 10 fQ.I ?_;refine L7 11 (fun K hK=> ?_);go_wp2;have cy:=aA (fQ.I.below ((Kp _ _).alloc (Ki _) (.cells cE 43)));refine hK.out _ _ cy.I (fun _=> ?_);clear hK K
         try simp only [pt,sb,s0,s1]
         refine L7 12 (fun K hK=> ?_);refine LY 43 (.tmp 24) (.tmp 159) rfl A1.heap.size (aX u) rfl rfl _ _ (Kj _ _) (by kernel_rfl) rfl (by kernel_rfl) ?_;refine hK.out _ _ ⟨HM.I.st,fun z hz=>HM.I.box z (LB _ hz),fun z hz=>HM.I.row z (LB _ hz)⟩ (fun hX=> ?_);clear hK K;refine tk 13 (v:= ?_) ?_ hX ?_; rotate_left; (intro w0 hS0; go_simp; try with_reducible rfl); try simp only [pt]
         refine K3 (by kernel_rfl) ?_ _;go_wp2_with fail;go_meet;exact ⟨A1.heap.size,u,rfl,HM.I,fun h=>HU.I.trans (HY.I h)⟩
        focus
         simp only [KZ,K0,K1];rw [if_pos (by rfl)];go_wp2;have fQ:=aA (S.I.below ((Kp _ _).alloc (Ki _) (.cells cE 43)));refine hK.out _ _ fQ.I (fun _=> ?_);clear hK K
         try simp only [pt,sb,s0,s1]
         refine L7 7 (fun K hK=> ?_);go_wp2_with fail;refine (uN sp y.id (V.alloc (.cells cE 43)) HWY.I (uG Gsp.I (fQ.I.st.ins (X4,sp) (by simp)).2)).mono ?_;rintro e A1 ⟨u,rfl,hm,hu,hb⟩;have HM:=aA (S.I.putP2 hb hm);have HU:=aA hu;have cy:=aA (fQ.I.below hb);clear hm hb hu;refine hK.out _ _ cy.I (fun _=> ?_);clear hK K
         try simp only [pt,sb,s0,s1]
         refine tt 8 cy.I ?_;refine tt 9 cy.I ?_;refine tt 10 cy.I ?_;refine L7 12 (fun K hK=> ?_);refine LY 43 (.tmp 24) (.tmp 159) rfl V.heap.size (aX u) rfl rfl _ _ HM.I.2 (by kernel_rfl) rfl (by kernel_rfl) ?_;refine hK.out _ _ ⟨HM.I.1.st,fun z hz=>HM.I.1.box z (LB _ hz),fun z hz=>HM.I.1.row z (LB _ hz)⟩ (fun hX=> ?_);clear hK K;refine tk 13 (v:= ?_) ?_ hX ?_; rotate_left; (intro w0 hS0; go_simp; try with_reducible rfl); try simp only [pt]
         refine K3 (by kernel_rfl) ?_ _;go_wp2_with fail;go_meet;exact ⟨V.heap.size,u,rfl,HM.I.1,fun h=>HU.I.trans (HY.I h)⟩
      case rest=>
       as_aux_lemma=>
        clear S;obtain ⟨Y,u,rfl,HU⟩:=hcut;clear HY;go_upto_region 23 with fail;refine aT (fun W=>NY w' a len [(X5,O6),(X4,sp),(X3,q1),(X2,q),(X1,p)] [(Y,u),(X31,x)] W) (by kernel_rfl) (HU.I.1.below (Kp _ _).drew) ?_;by_cases hne:y.id=id
        ·have e1:(y.id != id)=false:=by simp [hne]
         clear hne
         iterate 9 (refine PI ?_ (hy:=fun w0 hS0=>by obtain ⟨m2,⟨q0,q1,q2,q3,q4,q5,q6,q7,q8,q9,kY,kV⟩,-⟩:=HC.I _ w0 hS0; obtain ⟨o0,o1,o2,o3,o4,o5,o6,o7,Mt,MB,o10,o11⟩:=bo (hS0.box (Y,u) (by simp)); go_simp; try with_reducible rfl))
         iterate 8 (refine nl ?_; simp only [pt,sb,s0,s1])
         refine PI ?_ (hy:=fun w0 hS0=>by obtain ⟨m2,⟨q0,q1,q2,q3,q4,q5,q6,q7,q8,q9,kY,kV⟩,-⟩:=HC.I _ w0 hS0; obtain ⟨o0,o1,o2,o3,o4,o5,o6,o7,Mt,MB,o10,o11⟩:=bo (hS0.box (Y,u) (by simp)); go_simp; try with_reducible rfl);refine bk (by kernel_rfl) (fun A3 NO=> ?_) _;go_wp2;go_roundw
         case rel=>exact ⟨k+1,by omega,by go_num,NO.st,fun z hz=>NO.box z (LB _ hz),fun z hz=>NO.row z (LB _ hz)⟩
         case measure=>simp [Go.RowKit.intOf]; omega
        ·have e1:(y.id != id)=true:=by simp [hne]
         have HE:=aA (HU.I.2 hne);have HE:=aA (HU.I.2 hne);have HZ:Hid (u.prog.length≤1048576):=by show _≤_; rw [HE.I]; exact HYL.I
         clear hne
         iterate 15 (refine PI ?_ (hy:=fun w0 hS0=>by obtain ⟨m2,⟨q0,q1,q2,q3,q4,q5,q6,q7,q8,q9,kY,kV⟩,-⟩:=HC.I _ w0 hS0; obtain ⟨o0,o1,o2,o3,o4,o5,o6,o7,Mt,MB,o10,o11⟩:=bo (hS0.box (Y,u) (by simp)); go_simp; try with_reducible rfl))
         refine cl (.bool true) 31 #[.agg u.row,.agg y.row] ?_ (fun w0 h0=>(Nl u y w0 HE.I HZ.I (h0.row (Y,u) (by simp)) (HC.I _ w0 h0).2.2).mono fun e w1 h=>⟨h.1,h0.below h.2⟩) ?_
         ·intro w0 hS0
          go_simp
         simp only [pt,sb,s0,s1]
         iterate 2 (refine PI ?_ (hy:=fun w0 hS0=>by obtain ⟨m2,⟨q0,q1,q2,q3,q4,q5,q6,q7,q8,q9,kY,kV⟩,-⟩:=HC.I _ w0 hS0; obtain ⟨o0,o1,o2,o3,o4,o5,o6,o7,Mt,MB,o10,o11⟩:=bo (hS0.box (Y,u) (by simp)); go_simp; try with_reducible rfl))
         refine bk (by kernel_rfl) (fun A3 NO=> ?_) _;go_wp2;go_roundw
         case rel=>exact ⟨k+1,by omega,by go_num,NO.st,fun z hz=>NO.box z (LB _ hz),fun z hz=>NO.row z (LB _ hz)⟩
         case measure=>simp [Go.RowKit.intOf]; omega
     ·have i1: ¬ (k:Int) < (p.L8.length:Int):=by omega
      have d1:(x.Md == 0)=true:=by have:=HF.I.2.1; rw [← Qx.I] at this; simpa using this
      have d2:(x.pc == 0)=true:=by have:=HF.I.2.2.1; rw [← Qx.I] at this; simpa using this
      have Mb:=FQ sp _ (uG Gsp.I (S.I.st.ins (X4,sp) (by simp)).2);rw [HF.I.1] at Mb;unfold af.cells at Mb;obtain ⟨-,-,r2,-⟩:=(S.I.st.ins (X1,p) (by simp)).1.cells;obtain ⟨-,-,-,o3,o4,-,-,-,-,-,-,-⟩:=bo (S.I.box (X31,x) (by simp));obtain ⟨m0,m1,m2,m3,m4,m5,m6,m7⟩:=(S.I.st.ins (X4,sp) (by simp)).1.cells;go_wp2_with fail;clear m0 m1 m2 m3 m4 m5 m6 m7 o3 o4 r2;refine Mb.mono ?_;clear Mb;rintro e Mr ⟨rfl,hb⟩;replace S:=aA (S.I.below hb);clear hb;go_wp2;go_ret;exact ⟨al (by simp),S.I.st.low⟩
 case true=>
  as_aux_lemma=>
   have c2:=Pk Ps.I Po.I c1;have HF:=aA (Oc Ps.I c1);rw [← Pq.I] at HF;clear Pq1 Psp Ph Gq1 Gsp Gsp1 Ps Po;have Mb:=uN q id _ HWI.I (uG Mk.I (S.I.st.ins (X2,q) (by simp)).2);go_wp2_with (refine eT 5 X2 q.cells (S.I.st.ins (X2,q) (by simp)).1 ?_);refine Mb.mono ?_;clear Mb;rintro e Mq ⟨x,rfl,hm,hx,hb⟩;replace S:=aA (S.I.OS hb hm);have Qx:=aA hx;clear hm hx hb;go_upto_region 12 with (refine wpList_store_row rfl 43 (.tmp 13) (.tmp 88) rfl Mq.heap.size _ _ (aX x) rfl rfl (Kj _ _) (by kernel_rfl) rfl (by kernel_rfl) ?_);generalize (Mq.alloc (.cells cE 43)).setRow Mq.heap.size (aX x)=W21 at *;generalize Mq.heap.size=X21 at *;have Mb:=MY q id _ HWI.I (uG Mk.I (S.I.st.ins (X2,q) (by simp)).2);go_wp2_with (refine eT 5 X2 q.cells (S.I.st.ins (X2,q) (by simp)).1 ?_);refine Mb.mono ?_;clear Mb;rintro e C2 ⟨b,rfl,ho,hp,hb⟩;replace S:=aA (S.I.put hb ho);have My:Hid (b.pure.Small):=by rw [hp]; exact MR
   have Pb:=aA hp;clear ho hb hp;go_upto_region 13 with (refine ec 15 94 C2.heap.size b.cells (Kj _ _) ?_);generalize (C2.alloc (.cells ar 32)).setRow C2.heap.size b.cells=W22 at *;generalize C2.heap.size=X22 at *;have Mb:=uN b id _ HWI.I (uG My.I (S.I.st.ins (X22,b) (by simp)).2);go_wp2_with (refine eT 15 X22 b.cells (S.I.st.ins (X22,b) (by simp)).1 ?_);refine Mb.mono ?_;clear Mb;rintro e Ms ⟨y,rfl,hm,hx,hb⟩;replace S:=aA (S.I.OS hb hm);have Qy:=aA hx;clear hm hx hb;go_upto_region 14 with (refine wpList_store_row rfl 43 (.tmp 17) (.tmp 100) rfl Ms.heap.size _ _ (aX y) rfl rfl (Kj _ _) (by kernel_rfl) rfl (by kernel_rfl) ?_);generalize (Ms.alloc (.cells cE 43)).setRow Ms.heap.size (aX y)=W23 at *;generalize Ms.heap.size=X23 at *;have Mb:=uN p id _ HWI.I (uG HS.I (S.I.st.ins (X1,p) (by simp)).2);go_wp2_with (refine eT 3 X1 p.cells (S.I.st.ins (X1,p) (by simp)).1 ?_);refine Mb.mono ?_;clear Mb;rintro e MA ⟨z,rfl,hm,hx,hb⟩;replace S:=aA (S.I.OS hb hm);have Qz:=aA hx;clear hm hx hb;go_upto_region 15 with (refine wpList_store_row rfl 43 (.tmp 19) (.tmp 106) rfl MA.heap.size _ _ (aX z) rfl rfl (Kj _ _) (by kernel_rfl) rfl (by kernel_rfl) ?_);generalize (MA.alloc (.cells cE 43)).setRow MA.heap.size (aX z)=W24 at *;generalize MA.heap.size=X24 at *;have d1:(x.Md == 1)=true:=by have:=HF.I.2.2.2.1; rw [← Qx.I] at this; simpa using this
   have d2:(x.pc == 0)=true:=by have:=HF.I.2.2.2.2.1; rw [← Qx.I] at this; simpa using this
   have d3:(x.RU == p.next)=true:=by have:=HF.I.2.2.2.2.2; rw [← Qx.I] at this; simpa [af.pure] using this
   have d4:=HF.I.2.1;have HY:Hid (y.toaD=z.toaD):=by show _=_; rw [Qy.I,Qz.I,Pb.I]; exact HF.I.2.2.1
   have HZ:Hid (y.prog.length≤1048576):=by show _≤_; rw [Qy.I]; exact Oa id My.I
   have Mb:=Nl y z _ HY.I HZ.I (S.I.row (X23,y) (by simp)) (S.I.row (X24,z) (by simp));unfold aX at Mb;obtain ⟨-,-,-,m3,m4,-,-,-,-,-,-,m11⟩:=bo (S.I.box (X21,x) (by simp));obtain ⟨n0,n1,n2,n3,n4,n5,n6,n7,n8,n9,n10,n11⟩:=bo (S.I.box (X23,y) (by simp));obtain ⟨o0,o1,o2,o3,o4,o5,o6,o7,Mt,MB,o10,o11⟩:=bo (S.I.box (X24,z) (by simp));obtain ⟨-,r1,-,-,-,-,-,-⟩:=(S.I.st.ins (X1,p) (by simp)).1.cells;go_wp2_with fail;clear m3 m4 m11 r1 n0 n1 n2 n3 n4 n5 n6 n7 n8 n9 n10 n11 o0 o1 o2 o3 o4 o5 o6 o7 Mt MB o10 o11;refine Mb.mono ?_;clear Mb;rintro e Mu ⟨rfl,hb⟩;replace S:=aA (S.I.below hb);clear hb;have Mb:=FQ q _ (uG Mk.I (S.I.st.ins (X2,q) (by simp)).2);rw [HF.I.1] at Mb;unfold af.cells at Mb;obtain ⟨m0,m1,m2,m3,m4,m5,m6,m7⟩:=(S.I.st.ins (X2,q) (by simp)).1.cells;go_wp2_with fail;clear m0 m1 m2 m3 m4 m5 m6 m7;refine Mb.mono ?_;clear Mb;rintro e Mp ⟨rfl,hb⟩;replace S:=aA (S.I.below hb);clear hb;go_wp2;go_ret;exact ⟨al (by simp),S.I.st.low⟩
end Go.Proofs.YtkbcplnlehdjfaaGreat
