/- What the proof leans on, part 13. -/
import Derived.Test.YteidkehoekbcaaaGreatOwnC12
set_option maxRecDepth 100000
set_option maxHeartbeats 8000000
open Array renaming getElem?_eq_some_iff->J2
open Bool renaming and_eq_true->J7
open Go renaming heap_alloc_new->Kj,wp_at_succ->Kd,wp_at_zero->Kc
open Go.Proofs.Tryz renaming prog->J3,underlying2->KN
open Go.RowKit.Below renaming refl->Kp
open List renaming append_assoc->Lm,length_cons->Lg,map_cons->Lt,mem_append->Kg,mem_append_left->Lz,mem_append_right->Ly,mem_cons->Kt,mem_cons_of_mem->LB,mem_flatMap->Rt,mem_map->Lr,mem_of_getElem?->KA,mem_singleton->KB,nodup_append->Kf,take_of_length_le->KF
open Nat renaming le_refl->Ki

namespace Go.Proofs.YteidkehoekbcaaaGreat
section
open Go.RowKit

end
section
open Go.RowKit
attribute [local go_sem ↓] Kc Kd
def V0 (p:af):Nat:=2+fb p
def V9 (k:Int) (p:af):af:=nF (k+1+1) { p with id:=k,next:=k+1 }
theorem WD (k:Int) (p:af):kp.vals (nF k p)=kp.vals p:=by
 simp [kp,UU,af.cells,nF,bE]
theorem Wi (k:Int) (p:af):(nF k p).Mc=p.Mc:=by
 simp only [nF,af.Mc,pr (N:=aR) (f:=cw) (c:=bj) (fun _ _=>rfl),pr (N:=aC) (f:=dy) (c:=bN) (fun _ _=>rfl),pr (N:=aU) (f:=fU) (c:=eo) (fun _ _=>rfl)]
theorem Wp (k:Int) (p:af):(V9 k p).Mc=p.Mc:=Wi _ _
structure VT (w:World) (base g cap:Nat) (l:List af) (wr:World):Prop where
 row:bl kp 48 wr base g cap l
 mine: ∀ p∈l,ap wr base p
 nodup:(g :: l.flatMap af.Mc).Nodup
 kept:aI w wr (g :: l.flatMap af.Mc)
theorem VT.apart {w wr:World} {base gs cap:Nat} {A B:List af} {x:af} (h:VT w base gs cap (A ++ x :: B) wr):gs∉x.Mc∧ ∀ y,y∈A∨y∈B→ ∀ b∈y.Mc,b∉x.Mc∧b≠gs:=by
 have hn:=h.nodup;rw [List.flatMap_append,List.flatMap_cons,List.nodup_cons,Kf,Kf] at hn;obtain ⟨h1,h2,⟨h3,h4,h5⟩,h6⟩:=hn;refine ⟨fun hm=>h1 (Ly _ (Lz _ hm)),fun y hy b hb=>⟨fun hx=> ?_,fun e=> ?_⟩⟩
 ·rcases hy with hy | hy
  ·exact h6 b (Rt.2 ⟨y,hy,hb⟩) b (Lz _ hx) rfl
  ·exact h5 b hx b (Rt.2 ⟨y,hy,hb⟩) rfl
 ·subst e
  rcases hy with hy | hy
  ·exact h1 (Lz _ (Rt.2 ⟨y,hy,hb⟩))
  ·exact h1 (Ly _ (Ly _ (Rt.2 ⟨y,hy,hb⟩)))
theorem VT.ju {w wr W:World} {base gs cap:Nat} {A B:List af} {x y:af} (h:VT w base gs cap (A ++ x :: B) wr) (hr:bl kp 48 W base gs cap (A ++ y :: B)) (ho:ap W base y) (hb:y.Mc=x.Mc) (hk:aI wr W (gs :: x.Mc)):VT w base gs cap (A ++ y :: B) W:=by
 have e:(A ++ y :: B).flatMap af.Mc=(A ++ x :: B).flatMap af.Mc:=by simp only [List.flatMap_append,List.flatMap_cons,hb]
 obtain ⟨-,hap⟩:=h.apart;refine ⟨hr,fun z hz=> ?_,by rw [e]; exact h.nodup,by rw [e]; exact h.kept.trans (hk.mono fun b hb2=>by
  rcases Kt.1 hb2 with rfl | hb2
  ·exact List.mem_cons_self
  ·exact LB _ (by rw [List.flatMap_append,List.flatMap_cons]; exact Ly _ (Lz _ hb2)))⟩
 have hz2:z=y∨(z∈A∨z∈B):=by
  rcases Kg.1 hz with hz | hz
  ·exact .inr (.inl hz)
  ·rcases Kt.1 hz with hz | hz
   ·exact .inl hz
   ·exact .inr (.inr hz)
 rcases hz2 with rfl | hz2
 ·exact ho
 ·have hmz:ap wr base z:=h.mine z (by rcases hz2 with hz2 | hz2 <;> simp [hz2])
  exact hmz.same fun b hb2=>hk.same b (hmz.lt b hb2).2 fun hm=>by
   rcases Kt.1 hm with hm | hm
   ·exact (hap z hz2 b hb2).2 hm
   ·exact (hap z hz2 b hb2).1 hm
theorem bl.vals {w:World} {base g cap:Nat} {A B:List af} {x y:af} (h:bl kp 48 w base g cap (A ++ x :: B)) (hv:kp.vals y=kp.vals x):bl kp 48 w base g cap (A ++ y :: B):=by
 obtain ⟨cur,h1,h2,h3,h4,h5,h6⟩:=h;refine ⟨cur,h1,h2,by simpa using h3,h4,h5,?_⟩;have e:kp.flat (A ++ y :: B)=kp.flat (A ++ x :: B):=by simp only [Kind.flat,List.flatMap_append,List.flatMap_cons,hv]
 rw [e,← h6];simp
theorem ap.numbers {w:World} {base:Nat} {p:af} (h:ap w base p) (a b:Int):ap w base { p with id:=a,next:=b } :=⟨h.L8,h.aj,h.L9,h.ag,h.ae,h.ai,h.eI,h.eE,h.eR,h.nodup⟩
theorem Wc: ∀ (k:Int) (l:List af),(aJ V9 V0 k l).flatMap af.Mc=l.flatMap af.Mc
 | _,[] =>rfl
 | k,x :: r=>by simp only [aJ,List.flatMap_cons,Wp,Wc (k+V0 x) r]
theorem Wz (a:Option Addr) (l:List af) (cap:Nat) (k:Int) (w:World) (base:Nat) (hl:l.length≤1048576) (hc: ∀ p∈l,p.WN) (h0:1≤k) (h1:k+(aF V0 l:Nat)≤90000000) (ho:w.ownsRow base 48 8 (.slice a l.length cap) l.length (kp.flat l)) (hm: ∀ p∈l,ap w base p) (hn:(blk a ++ l.flatMap af.Mc).Nodup):
  Calls J3 55 #[.slice a l.length cap,.int .i64 k] w fun e w'=>e= .returned (.int .i64 (k+(aF V0 l:Nat)))∧(w'.ownsRow base 48 8 (.slice a l.length cap) l.length (kp.flat (aJ V9 V0 k l))∧ ∀ q∈aJ V9 V0 k l,ap w' base q)∧aI w w' (blk a ++ l.flatMap af.Mc):=by
 by_cases hz:l.length=0
 ·have hl0:l= [] :=List.eq_nil_of_length_eq_zero hz
  subst hl0;have HO:Hid (w.ownsRow base 48 8 (.slice a 0 cap) 0 (kp.flat [])):=ho;clear ho hm hn hc
  go_enter Tryz.func55,Tryz.ntmps55
  go_wp2_with fail
  go_loopw [1,5] (fun q i wr=>q= .int .i64 k∧i= .int .i64 0∧wr=w) (fun _ _ _=>0)
  case atStart=>exact ⟨rfl,rfl,rfl⟩
  case round=>
   obtain ⟨rfl,rfl,rfl⟩:=hrel;go_wp2;go_ret;exact ⟨ck (by simp [aF]),⟨HO.I,fun q hq=>by cases hq⟩,aI.refl _ _⟩
 obtain ⟨g,rfl,hrow⟩:=bl.fX (K:=kp) ho hz;have HR:Hid (VT w base g cap l w):=⟨hrow,hm,by simpa [blk] using hn,aI.refl _ _⟩
 have HB:Hid (k+(aF V0 l:Nat)≤90000000∧ ∀ p∈l,p.WN):=⟨h1,hc⟩
 clear ho hrow h1 hz hm hn hc
 go_enter Tryz.func55,Tryz.ntmps55
 go_wp2_with fail
 go_loopw [1,5] (fun q i wr=> ∃ (j:Nat) (m:Int),j≤l.length∧i= .int .i64 j∧q= .int .i64 m∧1≤m∧m≤90000000∧Hid (m=k+(aF V0 (l.take j):Nat)∧VT w base g cap (aJ V9 V0 k (l.take j) ++ l.drop j) wr)) (fun _ i _=>l.length - (Go.RowKit.intOf i).toNat)
 case atStart=>exact ⟨0,k,Nat.zero_le _,rfl,rfl,h0,by have:=HB.I.1; omega,⟨by simp [aF],by simpa [aJ] using HR.I⟩⟩
 case round=>
  clear HR;obtain ⟨j,m,hj,rfl,rfl,m0,m1,HA⟩:=hrel;by_cases hlt:j < l.length
  ·have i0:(0:Int)≤(j:Int):=by omega
   have i1:(j:Int) < (l.length:Int):=by omega
   obtain ⟨x,hx⟩: ∃ x,l[j]? =some x:=⟨_,List.getElem?_eq_getElem hlt⟩
   have pI:l.drop j=x :: l.drop (j+1):=mz hx;have qw:=du (c:=V0) hx;have hup:=gK (c:=V0) hx;obtain ⟨p,hp⟩: ∃ p:af,p= { x with id:=m,next:=m+1 } :=⟨_,rfl⟩
   have Vu:fb p=fb x:=by rw [hp]; rfl
   have hcx:V0 x=2+fb x:=rfl;have HX:Hid (l[j]? =some x∧m+2+(fb p:Nat)=k+(aF V0 (l.take (j+1)):Nat)):=⟨hx,by have:=HA.I.1; omega⟩
   have h2:m+1+1+(fb p:Nat)≤90000000:=by have:=HB.I.1; have:=HA.I.1; omega
   have WM:Hid (p.WN∧nF (m+1+1) p=V9 m x∧p.Mc=x.Mc):=⟨by rw [hp]; have:=HB.I.2 x (KA hx); exact ⟨this.1,this.2,this.3,this.4,this.5,this.6,this.7,this.8,this.9⟩,by rw [hp]; rfl,by rw [hp]; rfl⟩
   obtain ⟨A,hA⟩: ∃ A,aJ V9 V0 k (l.take j)=A:=⟨_,rfl⟩
   obtain ⟨B,hB⟩: ∃ B,l.drop (j+1)=B:=⟨_,rfl⟩
   have WY:Hid (A.length=j∧aJ V9 V0 k (l.take (j+1)) ++ l.drop (j+1)=A ++ V9 m x :: B):=⟨by rw [← hA,bE,List.length_take]; omega,by rw [kE hx,← HA.I.1,hA,hB]; simp⟩
   have HS:Hid (VT w base g cap (A ++ x :: B) wr):=by have:=HA.I.2; rwa [pI,hA,hB] at this
   have hgl:g < wr.heap.size:=HS.I.row.lt;obtain ⟨⟨u0,c0⟩,f0⟩:(∃ u,wr.cell? ⟨g,j * 8,none⟩=some u)∧wr.frozen? ⟨g,j * 8,none⟩=false:=bl.eO HS.I.row WY.I.1 (r:=0) (by decide:0 < kp.n);obtain ⟨⟨u1,c1⟩,f1⟩:(∃ u,wr.cell? ⟨g,j * 8+1,none⟩=some u)∧wr.frozen? ⟨g,j * 8+1,none⟩=false:=bl.eO HS.I.row WY.I.1 (r:=1) (by decide:1 < kp.n);have h5:=bl.part (K:=kp) (x:=x) (y:=p) (j:=0) (vs:= [.int .i64 m,.int .i64 (m+1)]) HS.I.row (by show 0+2≤8; omega) (fun r hr=>by rw [hp]; match r,hr with | 0,_=>rfl | 1,_=>rfl) (fun r hr hn=>by rw [hp]; match r,hr,hn with | 0,_,hn=>exact absurd ⟨by omega,by show 0 < 0+2; omega⟩ hn | 1,_,hn=>exact absurd ⟨by omega,by show 1 < 0+2; omega⟩ hn | 2,_,_=>rfl | 3,_,_=>rfl | 4,_,_=>rfl | 5,_,_=>rfl | 6,_,_=>rfl | 7,_,_=>rfl);rw [WY.I.1,show kp.n=8 from rfl] at h5;simp only [bn,Nat.add_zero] at h5;have h6:aI wr (bn wr g (j * 8) [.int .i64 m,.int .i64 (m+1)]) (g :: p.Mc):=aI.set _ (by simp);simp only [bn] at h6;have td:ap wr base p:=by rw [hp]; exact (HS.I.mine x (by simp)).numbers m (m+1)
   have ud:Hid (g∉p.Mc):=by show g∉p.Mc; rw [WM.I.2.2]; exact HS.I.apart.1
   have h7:ap ((wr.setCell ⟨g,j * 8,none⟩ (.int .i64 m)).setCell ⟨g,j * 8+1,none⟩ (.int .i64 (m+1))) base p:=td.same fun b hb=>(Go.Deep.blk_setCell_other _ _ _ _ (fun e=>ud.I (by have e2:b=g:=e; rw [← e2]; exact hb))).trans (Go.Deep.blk_setCell_other _ _ _ _ (fun e=>ud.I (by have e2:b=g:=e; rw [← e2]; exact hb)))
   have HY:Hid (bl kp 48 ((wr.setCell ⟨g,j * 8,none⟩ (.int .i64 m)).setCell ⟨g,j * 8+1,none⟩ (.int .i64 (m+1))) base g cap (A ++ p :: B)∧ap ((wr.setCell ⟨g,j * 8,none⟩ (.int .i64 m)).setCell ⟨g,j * 8+1,none⟩ (.int .i64 (m+1))) base p∧aI wr ((wr.setCell ⟨g,j * 8,none⟩ (.int .i64 m)).setCell ⟨g,j * 8+1,none⟩ (.int .i64 (m+1))) (g :: p.Mc)):=⟨h5,h7,h6⟩
   clear h5 h6 h7 td hp Vu hcx qw hup pI hx hA hB;go_upto_region 8 with fail;clear c0 c1 f0 f1;generalize (wr.setCell ⟨g,j * 8,none⟩ (.int .i64 m)).setCell ⟨g,j * 8+1,none⟩ (.int .i64 (m+1))=W0 at *;have q0:1≤m+1+1∧m+1+1+(aF bj p.L8:Nat)≤90000000:=by have:=h2; unfold fb at this; omega
   have q1:1≤m+1+1+(aF bj p.L8:Nat)∧m+1+1+(aF bj p.L8:Nat)+(aF (fun _=>3) p.aj:Nat)≤90000000:=by have:=h2; unfold fb at this; omega
   have q2:1≤m+1+1+(aF bj p.L8:Nat)+(aF (fun _=>3) p.aj:Nat)∧m+1+1+(aF bj p.L8:Nat)+(aF (fun _=>3) p.aj:Nat)+(aF (fun _=>2) p.L9:Nat)≤90000000:=by have:=h2; unfold fb at this; omega
   have q3:1≤m+1+1+(aF bj p.L8:Nat)+(aF (fun _=>3) p.aj:Nat)+(aF (fun _=>2) p.L9:Nat)∧m+1+1+(aF bj p.L8:Nat)+(aF (fun _=>3) p.aj:Nat)+(aF (fun _=>2) p.L9:Nat)+(aF (fun _=>3) p.ag:Nat)≤90000000:=by have:=h2; unfold fb at this; omega
   have q4:1≤m+1+1+(aF bj p.L8:Nat)+(aF (fun _=>3) p.aj:Nat)+(aF (fun _=>2) p.L9:Nat)+(aF (fun _=>3) p.ag:Nat)∧m+1+1+(aF bj p.L8:Nat)+(aF (fun _=>3) p.aj:Nat)+(aF (fun _=>2) p.L9:Nat)+(aF (fun _=>3) p.ag:Nat)+(aF bN p.ae:Nat)≤90000000:=by have:=h2; unfold fb at this; omega
   have q5:1≤m+1+1+(aF bj p.L8:Nat)+(aF (fun _=>3) p.aj:Nat)+(aF (fun _=>2) p.L9:Nat)+(aF (fun _=>3) p.ag:Nat)+(aF bN p.ae:Nat)∧m+1+1+(aF bj p.L8:Nat)+(aF (fun _=>3) p.aj:Nat)+(aF (fun _=>2) p.L9:Nat)+(aF (fun _=>3) p.ag:Nat)+(aF bN p.ae:Nat)+(aF eo p.ai:Nat)≤90000000:=by have:=h2; unfold fb at this; omega
   have HZ:=HY;clear HY;have c0:W0.cell? ⟨g,j * 8+2,none⟩=some (.slice p.aN p.L8.length p.aW):=bl.uD HZ.I.1 WY.I.1 (r:=2) (by decide:2 < kp.n);go_wp2_with fail;clear c0;refine (BB p.aN p.L8 p.aW (m+1+1) W0 base WM.I.1.dl WM.I.1.L8 q0.1 q0.2 HZ.I.2.1.L8 HZ.I.2.1.eI (by
    have h5:=HZ.I.2.1.nodup;have h6:af.Mc p=p.Mc:=rfl;rw [h6,show p.Mc= [] ++ ((blk p.aN ++ p.L8.filterMap aR.bt) ++ (blk p.bc ++ (blk p.ay ++ (blk p.ax ++ (blk p.am ++ (p.ae.filterMap aC.bt ++ (blk p.aK ++ (p.ai.filterMap aU.bt)))))))) by simp [af.Mc,Lm]] at h5;exact (Kf.1 (Kf.1 h5).2.1).1)).mono ?_
   rintro e W1 ⟨rfl,how,Ji,hkb⟩;have ht:=HZ.I.2.1.As how (bE _ _ _ _) Ji (pr (N:=aR) (f:=cw) (c:=bj) (fun _ _=>rfl) _ _) hkb;have HQ1:Hid (af.Mc ({ p with L8:=aJ cw bj (m+1+1) p.L8 } :af)=p.Mc):=ht.2.trans rfl;have hsub: ∀ b∈blk p.aN ++ p.L8.filterMap aR.bt,b∈p.Mc:=fun b hb=>by rw [show p.Mc= [] ++ ((blk p.aN ++ p.L8.filterMap aR.bt) ++ (blk p.bc ++ (blk p.ay ++ (blk p.ax ++ (blk p.am ++ (p.ae.filterMap aC.bt ++ (blk p.aK ++ (p.ai.filterMap aU.bt)))))))) by simp [af.Mc,Lm]]; exact Ly _ (Lz _ hb)
   have HY:Hid (bl kp 48 W1 base g cap (A ++ p :: B)∧ap W1 base ({ p with L8:=aJ cw bj (m+1+1) p.L8 } :af)∧aI wr W1 (g :: p.Mc)):=⟨HZ.I.1.same (hkb.same g HZ.I.1.lt fun hm=>ud.I (hsub _ hm)),ht.1,HZ.I.2.2.trans (hkb.mono fun b hb=>LB _ (hsub b hb))⟩
   clear HZ how hkb ht hsub Ji;have HZ:=HY;clear HY;have c1:W1.cell? ⟨g,j * 8+3,none⟩=some (.slice p.bc p.aj.length p.bF):=bl.uD HZ.I.1 WY.I.1 (r:=3) (by decide:3 < kp.n);go_wp2_with fail;clear c1;refine (CF p.bc p.aj p.bF (m+1+1+(aF bj p.L8:Nat)) W1 base WM.I.1.fx q1.1 q1.2 HZ.I.2.1.aj).mono ?_;rintro e W2 ⟨rfl,how,hkb⟩;have ht:=HZ.I.2.1.DT how (bE _ _ _ _) hkb;have ky:Hid (af.Mc ({ p with L8:=aJ cw bj (m+1+1) p.L8,aj:=aJ hJ (fun _=>3) (m+1+1+(aF bj p.L8:Nat)) p.aj } :af)=p.Mc):=ht.2.trans HQ1.I;have hsub: ∀ b∈blk p.bc,b∈p.Mc:=fun b hb=>by rw [show p.Mc=(blk p.aN ++ p.L8.filterMap aR.bt) ++ ((blk p.bc) ++ (blk p.ay ++ (blk p.ax ++ (blk p.am ++ (p.ae.filterMap aC.bt ++ (blk p.aK ++ (p.ai.filterMap aU.bt))))))) by simp [af.Mc,Lm]]; exact Ly _ (Lz _ hb)
   have HY:Hid (bl kp 48 W2 base g cap (A ++ p :: B)∧ap W2 base ({ p with L8:=aJ cw bj (m+1+1) p.L8,aj:=aJ hJ (fun _=>3) (m+1+1+(aF bj p.L8:Nat)) p.aj } :af)∧aI wr W2 (g :: p.Mc)):=⟨HZ.I.1.same (hkb.same g HZ.I.1.lt fun hm=>ud.I (hsub _ hm)),ht.1,HZ.I.2.2.trans (hkb.mono fun b hb=>LB _ (hsub b hb))⟩
   clear HZ how hkb ht hsub;have HZ:=HY;clear HY;have c2:W2.cell? ⟨g,j * 8+4,none⟩=some (.slice p.ay p.L9.length p.aO):=bl.uD HZ.I.1 WY.I.1 (r:=4) (by decide:4 < kp.n);go_wp2_with fail;clear c2;refine (zw p.ay p.L9 p.aO (m+1+1+(aF bj p.L8:Nat)+(aF (fun _=>3) p.aj:Nat)) W2 base WM.I.1.cD q2.1 q2.2 HZ.I.2.1.L9).mono ?_;rintro e W3 ⟨rfl,how,hkb⟩;have ht:=HZ.I.2.1.xA how (bE _ _ _ _) hkb;have Ck:Hid (af.Mc ({ p with L8:=aJ cw bj (m+1+1) p.L8,aj:=aJ hJ (fun _=>3) (m+1+1+(aF bj p.L8:Nat)) p.aj,L9:=aJ eM (fun _=>2) (m+1+1+(aF bj p.L8:Nat)+(aF (fun _=>3) p.aj:Nat)) p.L9 } :af)=p.Mc):=ht.2.trans ky.I;have hsub: ∀ b∈blk p.ay,b∈p.Mc:=fun b hb=>by rw [show p.Mc=(blk p.aN ++ p.L8.filterMap aR.bt ++ blk p.bc) ++ ((blk p.ay) ++ (blk p.ax ++ (blk p.am ++ (p.ae.filterMap aC.bt ++ (blk p.aK ++ (p.ai.filterMap aU.bt)))))) by simp [af.Mc,Lm]]; exact Ly _ (Lz _ hb)
   have HY:Hid (bl kp 48 W3 base g cap (A ++ p :: B)∧ap W3 base ({ p with L8:=aJ cw bj (m+1+1) p.L8,aj:=aJ hJ (fun _=>3) (m+1+1+(aF bj p.L8:Nat)) p.aj,L9:=aJ eM (fun _=>2) (m+1+1+(aF bj p.L8:Nat)+(aF (fun _=>3) p.aj:Nat)) p.L9 } :af)∧aI wr W3 (g :: p.Mc)):=⟨HZ.I.1.same (hkb.same g HZ.I.1.lt fun hm=>ud.I (hsub _ hm)),ht.1,HZ.I.2.2.trans (hkb.mono fun b hb=>LB _ (hsub b hb))⟩
   clear HZ how hkb ht hsub;have HZ:=HY;clear HY;have c3:W3.cell? ⟨g,j * 8+5,none⟩=some (.slice p.ax p.ag.length p.aP):=bl.uD HZ.I.1 WY.I.1 (r:=5) (by decide:5 < kp.n);go_wp2_with fail;clear c3;refine (zB p.ax p.ag p.aP (m+1+1+(aF bj p.L8:Nat)+(aF (fun _=>3) p.aj:Nat)+(aF (fun _=>2) p.L9:Nat)) W3 base WM.I.1.cC q3.1 q3.2 HZ.I.2.1.ag).mono ?_;rintro e W4 ⟨rfl,how,hkb⟩;have ht:=HZ.I.2.1.xM how (bE _ _ _ _) hkb;have Xc:Hid (af.Mc ({ p with L8:=aJ cw bj (m+1+1) p.L8,aj:=aJ hJ (fun _=>3) (m+1+1+(aF bj p.L8:Nat)) p.aj,L9:=aJ eM (fun _=>2) (m+1+1+(aF bj p.L8:Nat)+(aF (fun _=>3) p.aj:Nat)) p.L9,ag:=aJ dZ (fun _=>3) (m+1+1+(aF bj p.L8:Nat)+(aF (fun _=>3) p.aj:Nat)+(aF (fun _=>2) p.L9:Nat)) p.ag } :af)=p.Mc):=ht.2.trans Ck.I;have hsub: ∀ b∈blk p.ax,b∈p.Mc:=fun b hb=>by rw [show p.Mc=(blk p.aN ++ p.L8.filterMap aR.bt ++ blk p.bc ++ blk p.ay) ++ ((blk p.ax) ++ (blk p.am ++ (p.ae.filterMap aC.bt ++ (blk p.aK ++ (p.ai.filterMap aU.bt))))) by simp [af.Mc,Lm]]; exact Ly _ (Lz _ hb)
   have HY:Hid (bl kp 48 W4 base g cap (A ++ p :: B)∧ap W4 base ({ p with L8:=aJ cw bj (m+1+1) p.L8,aj:=aJ hJ (fun _=>3) (m+1+1+(aF bj p.L8:Nat)) p.aj,L9:=aJ eM (fun _=>2) (m+1+1+(aF bj p.L8:Nat)+(aF (fun _=>3) p.aj:Nat)) p.L9,ag:=aJ dZ (fun _=>3) (m+1+1+(aF bj p.L8:Nat)+(aF (fun _=>3) p.aj:Nat)+(aF (fun _=>2) p.L9:Nat)) p.ag } :af)∧aI wr W4 (g :: p.Mc)):=⟨HZ.I.1.same (hkb.same g HZ.I.1.lt fun hm=>ud.I (hsub _ hm)),ht.1,HZ.I.2.2.trans (hkb.mono fun b hb=>LB _ (hsub b hb))⟩
   clear HZ how hkb ht hsub;have HZ:=HY;clear HY;have c4:W4.cell? ⟨g,j * 8+6,none⟩=some (.slice p.am p.ae.length p.aG):=bl.uD HZ.I.1 WY.I.1 (r:=6) (by decide:6 < kp.n);go_wp2_with fail;clear c4;refine (wX p.am p.ae p.aG (m+1+1+(aF bj p.L8:Nat)+(aF (fun _=>3) p.aj:Nat)+(aF (fun _=>2) p.L9:Nat)+(aF (fun _=>3) p.ag:Nat)) W4 base WM.I.1.cb WM.I.1.ae q4.1 q4.2 HZ.I.2.1.ae HZ.I.2.1.eE (by
    have h5:=HZ.I.2.1.nodup;have h6:af.Mc ({ p with L8:=aJ cw bj (m+1+1) p.L8,aj:=aJ hJ (fun _=>3) (m+1+1+(aF bj p.L8:Nat)) p.aj,L9:=aJ eM (fun _=>2) (m+1+1+(aF bj p.L8:Nat)+(aF (fun _=>3) p.aj:Nat)) p.L9,ag:=aJ dZ (fun _=>3) (m+1+1+(aF bj p.L8:Nat)+(aF (fun _=>3) p.aj:Nat)+(aF (fun _=>2) p.L9:Nat)) p.ag } :af)=p.Mc:=Xc.I;rw [h6,show p.Mc=(blk p.aN ++ p.L8.filterMap aR.bt ++ blk p.bc ++ blk p.ay ++ blk p.ax) ++ ((blk p.am ++ p.ae.filterMap aC.bt) ++ (blk p.aK ++ (p.ai.filterMap aU.bt))) by simp [af.Mc,Lm]] at h5;exact (Kf.1 (Kf.1 h5).2.1).1)).mono ?_
   rintro e W5 ⟨rfl,how,Ji,hkb⟩;have ht:=HZ.I.2.1.CJ how (bE _ _ _ _) Ji (pr (N:=aC) (f:=dy) (c:=bN) (fun _ _=>rfl) _ _) hkb;have Xb:Hid (af.Mc ({ p with L8:=aJ cw bj (m+1+1) p.L8,aj:=aJ hJ (fun _=>3) (m+1+1+(aF bj p.L8:Nat)) p.aj,L9:=aJ eM (fun _=>2) (m+1+1+(aF bj p.L8:Nat)+(aF (fun _=>3) p.aj:Nat)) p.L9,ag:=aJ dZ (fun _=>3) (m+1+1+(aF bj p.L8:Nat)+(aF (fun _=>3) p.aj:Nat)+(aF (fun _=>2) p.L9:Nat)) p.ag,ae:=aJ dy bN (m+1+1+(aF bj p.L8:Nat)+(aF (fun _=>3) p.aj:Nat)+(aF (fun _=>2) p.L9:Nat)+(aF (fun _=>3) p.ag:Nat)) p.ae } :af)=p.Mc):=ht.2.trans Xc.I;have hsub: ∀ b∈blk p.am ++ p.ae.filterMap aC.bt,b∈p.Mc:=fun b hb=>by rw [show p.Mc=(blk p.aN ++ p.L8.filterMap aR.bt ++ blk p.bc ++ blk p.ay ++ blk p.ax) ++ ((blk p.am ++ p.ae.filterMap aC.bt) ++ (blk p.aK ++ (p.ai.filterMap aU.bt))) by simp [af.Mc,Lm]]; exact Ly _ (Lz _ hb)
   have HY:Hid (bl kp 48 W5 base g cap (A ++ p :: B)∧ap W5 base ({ p with L8:=aJ cw bj (m+1+1) p.L8,aj:=aJ hJ (fun _=>3) (m+1+1+(aF bj p.L8:Nat)) p.aj,L9:=aJ eM (fun _=>2) (m+1+1+(aF bj p.L8:Nat)+(aF (fun _=>3) p.aj:Nat)) p.L9,ag:=aJ dZ (fun _=>3) (m+1+1+(aF bj p.L8:Nat)+(aF (fun _=>3) p.aj:Nat)+(aF (fun _=>2) p.L9:Nat)) p.ag,ae:=aJ dy bN (m+1+1+(aF bj p.L8:Nat)+(aF (fun _=>3) p.aj:Nat)+(aF (fun _=>2) p.L9:Nat)+(aF (fun _=>3) p.ag:Nat)) p.ae } :af)∧aI wr W5 (g :: p.Mc)):=⟨HZ.I.1.same (hkb.same g HZ.I.1.lt fun hm=>ud.I (hsub _ hm)),ht.1,HZ.I.2.2.trans (hkb.mono fun b hb=>LB _ (hsub b hb))⟩
   clear HZ how hkb ht hsub Ji;have HZ:=HY;clear HY;have c5:W5.cell? ⟨g,j * 8+7,none⟩=some (.slice p.aK p.ai.length p.aV):=bl.uD HZ.I.1 WY.I.1 (r:=7) (by decide:7 < kp.n);go_wp2_with fail;clear c5;refine (AU p.aK p.ai p.aV (m+1+1+(aF bj p.L8:Nat)+(aF (fun _=>3) p.aj:Nat)+(aF (fun _=>2) p.L9:Nat)+(aF (fun _=>3) p.ag:Nat)+(aF bN p.ae:Nat)) W5 base WM.I.1.dH WM.I.1.ai q5.1 q5.2 HZ.I.2.1.ai HZ.I.2.1.eR (by
    have h5:=HZ.I.2.1.nodup;have h6:af.Mc ({ p with L8:=aJ cw bj (m+1+1) p.L8,aj:=aJ hJ (fun _=>3) (m+1+1+(aF bj p.L8:Nat)) p.aj,L9:=aJ eM (fun _=>2) (m+1+1+(aF bj p.L8:Nat)+(aF (fun _=>3) p.aj:Nat)) p.L9,ag:=aJ dZ (fun _=>3) (m+1+1+(aF bj p.L8:Nat)+(aF (fun _=>3) p.aj:Nat)+(aF (fun _=>2) p.L9:Nat)) p.ag,ae:=aJ dy bN (m+1+1+(aF bj p.L8:Nat)+(aF (fun _=>3) p.aj:Nat)+(aF (fun _=>2) p.L9:Nat)+(aF (fun _=>3) p.ag:Nat)) p.ae } :af)=p.Mc:=Xb.I;rw [h6,show p.Mc=(blk p.aN ++ p.L8.filterMap aR.bt ++ blk p.bc ++ blk p.ay ++ blk p.ax ++ blk p.am ++ p.ae.filterMap aC.bt) ++ ((blk p.aK ++ p.ai.filterMap aU.bt) ++ []) by simp [af.Mc,Lm]] at h5;exact (Kf.1 (Kf.1 h5).2.1).1)).mono ?_
   rintro e W6 ⟨rfl,how,Ji,hkb⟩;have ht:=HZ.I.2.1.Gu how (bE _ _ _ _) Ji (pr (N:=aU) (f:=fU) (c:=eo) (fun _ _=>rfl) _ _) hkb;have HQ6:Hid (af.Mc ({ p with L8:=aJ cw bj (m+1+1) p.L8,aj:=aJ hJ (fun _=>3) (m+1+1+(aF bj p.L8:Nat)) p.aj,L9:=aJ eM (fun _=>2) (m+1+1+(aF bj p.L8:Nat)+(aF (fun _=>3) p.aj:Nat)) p.L9,ag:=aJ dZ (fun _=>3) (m+1+1+(aF bj p.L8:Nat)+(aF (fun _=>3) p.aj:Nat)+(aF (fun _=>2) p.L9:Nat)) p.ag,ae:=aJ dy bN (m+1+1+(aF bj p.L8:Nat)+(aF (fun _=>3) p.aj:Nat)+(aF (fun _=>2) p.L9:Nat)+(aF (fun _=>3) p.ag:Nat)) p.ae,ai:=aJ fU eo (m+1+1+(aF bj p.L8:Nat)+(aF (fun _=>3) p.aj:Nat)+(aF (fun _=>2) p.L9:Nat)+(aF (fun _=>3) p.ag:Nat)+(aF bN p.ae:Nat)) p.ai } :af)=p.Mc):=ht.2.trans Xb.I;have hsub: ∀ b∈blk p.aK ++ p.ai.filterMap aU.bt,b∈p.Mc:=fun b hb=>by rw [show p.Mc=(blk p.aN ++ p.L8.filterMap aR.bt ++ blk p.bc ++ blk p.ay ++ blk p.ax ++ blk p.am ++ p.ae.filterMap aC.bt) ++ ((blk p.aK ++ p.ai.filterMap aU.bt) ++ []) by simp [af.Mc,Lm]]; exact Ly _ (Lz _ hb)
   have HY:Hid (bl kp 48 W6 base g cap (A ++ p :: B)∧ap W6 base ({ p with L8:=aJ cw bj (m+1+1) p.L8,aj:=aJ hJ (fun _=>3) (m+1+1+(aF bj p.L8:Nat)) p.aj,L9:=aJ eM (fun _=>2) (m+1+1+(aF bj p.L8:Nat)+(aF (fun _=>3) p.aj:Nat)) p.L9,ag:=aJ dZ (fun _=>3) (m+1+1+(aF bj p.L8:Nat)+(aF (fun _=>3) p.aj:Nat)+(aF (fun _=>2) p.L9:Nat)) p.ag,ae:=aJ dy bN (m+1+1+(aF bj p.L8:Nat)+(aF (fun _=>3) p.aj:Nat)+(aF (fun _=>2) p.L9:Nat)+(aF (fun _=>3) p.ag:Nat)) p.ae,ai:=aJ fU eo (m+1+1+(aF bj p.L8:Nat)+(aF (fun _=>3) p.aj:Nat)+(aF (fun _=>2) p.L9:Nat)+(aF (fun _=>3) p.ag:Nat)+(aF bN p.ae:Nat)) p.ai } :af)∧aI wr W6 (g :: p.Mc)):=⟨HZ.I.1.same (hkb.same g HZ.I.1.lt fun hm=>ud.I (hsub _ hm)),ht.1,HZ.I.2.2.trans (hkb.mono fun b hb=>LB _ (hsub b hb))⟩
   clear HZ how hkb ht hsub Ji;have HZ:=HY;clear HY;have HN:Hid (VT w base g cap (aJ V9 V0 k (l.take (j+1)) ++ l.drop (j+1)) W6∧m+2+(fb p:Nat)=m+1+1+(aF bj p.L8:Nat)+(aF (fun _=>3) p.aj:Nat)+(aF (fun _=>2) p.L9:Nat)+(aF (fun _=>3) p.ag:Nat)+(aF bN p.ae:Nat)+(aF eo p.ai:Nat)):=by
    rw [WY.I.2,← WM.I.2.1];exact ⟨HS.I.ju (HZ.I.1.vals (WD _ _)) HZ.I.2.1 ((Wi _ _).trans WM.I.2.2) (by rw [← WM.I.2.2]; exact HZ.I.2.2),by unfold fb; omega⟩
   go_wp2;go_roundw
   case rel=>exact ⟨j+1,m+1+1+(aF bj p.L8:Nat)+(aF (fun _=>3) p.aj:Nat)+(aF (fun _=>2) p.L9:Nat)+(aF (fun _=>3) p.ag:Nat)+(aF bN p.ae:Nat)+(aF eo p.ai:Nat),by omega,by go_num,by go_num,by omega,by omega,⟨by rw [← HN.I.2]; exact HX.I.2,HN.I.1⟩⟩
   case measure=>simp [Go.RowKit.intOf]; omega
  ·have i1: ¬ (j:Int) < (l.length:Int):=by omega
   have HE:Hid (VT w base g cap (aJ V9 V0 k l) wr∧m=k+(aF V0 l:Nat)):=by have h5:=HA.I.2; have h6:=HA.I.1; rw [KF (by omega),List.drop_of_length_le (by omega),List.append_nil] at h5; rw [KF (by omega)] at h6; exact ⟨h5,h6⟩
   go_wp2;go_ret;refine ⟨ck HE.I.2,⟨?_,HE.I.1.mine⟩,?_⟩
   ·have h7:=HE.I.1.row.owns; rw [bE] at h7; exact h7
   ·have h7:=HE.I.1.kept; rw [Wc] at h7; exact h7
end
section
open Go.RowKit
theorem cnt_op (l:List dN):aF (fun _:dN=>4) l=l.length * 4:=kr (fun _=>rfl) l
theorem Ee (l:List ByteArray):aF (fun _:ByteArray=>1) l=l.length * 1:=kr (fun _=>rfl) l
theorem A8: ∀ l:List ao,aF bj l≤11 * (l.length+g9 (fun x:ao=>x.prog.length) l)
 | [] =>by simp [aF]
 | x :: r=>by
  have h1:=A8 r;have h2:bj x=2+aF (fun _:dN=>4) x.prog+9:=rfl;have h3:=cnt_op x.prog;simp only [aF,Lg,g9,Lt,List.sum_cons] at h1 ⊢;omega
theorem vG: ∀ l:List au,aF bN l≤11 * (l.length+g9 (fun x:au=>x.Ma.length) l)
 | [] =>by simp [aF]
 | x :: r=>by
  have h1:=vG r;have h2:bN x=2+aF (fun _:ByteArray=>1) x.Ma:=rfl;have h3:=Ee x.Ma;simp only [aF,Lg,g9,Lt,List.sum_cons] at h1 ⊢;omega
theorem BL: ∀ l:List aM,aF eo l≤11 * (l.length+g9 (fun x:aM=>x.Ma.length) l)
 | [] =>by simp [aF]
 | x :: r=>by
  have h1:=BL r;have h2:eo x=4+aF (fun _:ByteArray=>1) x.Ma:=rfl;have h3:=Ee x.Ma;simp only [aF,Lg,g9,Lt,List.sum_cons] at h1 ⊢;omega
theorem Wy (p:af):fb p≤11 * p.pure.total:=by
 rw [af.Bf];unfold fb;have h1:=A8 p.L8;have h2:=vG p.ae;have h3:=BL p.ai;have h4:aF (fun _:bD=>3) p.aj=p.aj.length * 3:=kr (fun _=>rfl) _;have h5:aF (fun _:aB=>2) p.L9=p.L9.length * 2:=kr (fun _=>rfl) _;have h6:aF (fun _:az=>3) p.ag=p.ag.length * 3:=kr (fun _=>rfl) _;omega
theorem Wh {p:af} (h:p.pure.Small):p.WN:=by
 refine ⟨by simpa [af.pure] using h.dl,h.fx,h.cD,h.cC,by simpa [af.pure] using h.cb,by simpa [af.pure] using h.dH,fun x hx=> ?_,fun x hx=> ?_,fun x hx=> ?_⟩
 ·exact (h.L8 x.toaD (Lr.2 ⟨x,hx,rfl⟩)).1.1
 ·exact (h.ae x.toci (Lr.2 ⟨x,hx,rfl⟩)).2.1
 ·exact (h.ai x.todS (Lr.2 ⟨x,hx,rfl⟩)).2.1
theorem Di {α:Type} {N:gd α} {w w':World} {base:Nat} {x:α} (h:N.cO w base x) (hb:Below w.heap.size w w'):N.cO w' base x:=h.same fun g hk=>hb.block g (h.lt hk).2
def Az (p:af) (w W:World):Prop:=W.heap[w.heap.size]? =some (.cells p.cells 68 (0,0))∧Below w.heap.size w W
def o8 (W:World) (X b:Nat) (q:af):Prop:=av W X q∧ap W b q
def rT (W:World) (X b:Nat) (x:ao):Prop:=jx W X x∧aR.cO W b x
section
variable {p q:af} {x:ao} {w W W':World} {X b:Nat} {bs:List Nat}
theorem Az.below (h:Az p w W) (hb:Below W.heap.size W W'):Az p w W':=⟨(hb.block _ (J2.1 h.1).1).trans h.1,h.2.trans (hb.mono h.2.size)⟩
theorem Az.kept (h:Az p w W) (hk:aI W W' bs) (hs: ∀ g∈bs,w.heap.size < g):Az p w W':=⟨(hk.same _ (J2.1 h.1).1 fun hm=>by have:=hs _ hm; omega).trans h.1,h.2.trans (hk.below h.2.size fun g hg=>by have:=hs g hg; omega)⟩
theorem o8.below (h:o8 W X b q) (hb:Below W.heap.size W W'):o8 W' X b q:=⟨h.1.below hb,h.2.below hb⟩
theorem o8.kept (h:o8 W X b q) (hk:aI W W' bs) (hs:X∉bs) (ho: ∀ g∈q.Mc,g∉bs):o8 W' X b q:=⟨(hk.same _ (J2.1 h.1).1 hs).trans h.1,h.2.same fun g hg=>hk.same g (h.2.lt g hg).2 (ho g hg)⟩
theorem rT.below (h:rT W X b x) (hb:Below W.heap.size W W'):rT W' X b x:=⟨h.1.below hb,Di h.2 hb⟩
theorem rT.kept (h:rT W X b x) (hk:aI W W' bs) (hs:X∉bs) (ho: ∀ g∈blk x.aY,g∉bs):rT W' X b x:=⟨(hk.same _ (J2.1 h.1).1 hs).trans h.1,h.2.same fun g hg=>hk.same g (h.2.lt hg).2 (ho g (fZ.2 hg))⟩
theorem av.lt {W:World} {X:Nat} {q:af} (h:av W X q):X < W.heap.size:=(J2.1 h).1
theorem jx.lt {W:World} {X:Nat} {x:ao} (h:jx W X x):X < W.heap.size:=(J2.1 h).1
end
end
section
open Go.RowKit Go.Maps
attribute [local go_sem ↓] Kc Kd
theorem Tp: ∀ (l:List aE) (last:Int),aw (·.id) bK last l=true→last≤6→(l.length:Int)≤6 - last
 | [],_,_,h=>by simp; omega
 | x :: r,last,h,hl=>by
  simp only [aw,J7,decide_eq_true_eq] at h;have h1:=((ch _).1 h.1.2).id;rw [bz] at h1;have h2:=Tp r x.id h.2 (by omega);have h3:=h.1.1.2;simp only [Lg,Int.natCast_add,Int.natCast_one];omega
theorem Sl {ops:Array Oper} {rest:List Oper} {op:Oper} {a:Act} {w:World} {Q:Exit→Act→World→Prop} (hgd:op.guard=none) (x y z:Operand) (ho:op.op= .build 107 #[(0,x),(1,y),(2,z)])
  (m:Int) (T:Array Value) (b:Nat) (cs:Array Value) (hx:a.eval x= .int .i64 m) (hy:a.eval y= .agg T) (hz:a.eval z= .map (some b)) (hb:Tryz.prog.built 107 [(0,.int .i64 m),(1,.agg T),(2,.map (some b))] =some cs)
  (h:wpList J3 ops Q rest (a.put op.dst (.agg cs)) w):wpList J3 ops Q (op :: rest) a w:=
 wpList_plain hgd fun _ hK=>by
  unfold Oper.wp execOp;simp only [ho,Sem.run_bind,List.map_toArray,Lt,List.map_nil,hx,hy,hz,run_build w _ _ cs hb,Result.andThen_ok];exact hK _ _ h
structure VL (w:World) (k:kd) (K:Nat) (W:World):Prop where
 ex: ∃ (w1:World) (b:Nat) (tab:Array Value) (l:List (aZ × Nat)) (ls:List gi) (a:Option Addr) (cap:Nat),P2 k.major k.fn.length (sz k.fn) tab∧VK w1 K b l∧l.map (·.1.pure)=k.parts∧ls.map (·.c)=k.eC∧(∀ o∈ls,Joins l o)∧T1 w1 K b k.now tab a cap ls W∧w.heap.size≤b∧w.heap.size≤K
def KerEnd (w:World) (k:kd) (e:Ending) (W:World):Prop:=Below w.heap.size w W∧((eP k=false∧e= .returned (.tuple #[.pointer none,.bool false]))∨(eP k=true∧ ∃ K,e= .returned (.tuple #[.pointer (some ⟨K,0,none⟩),.bool true])∧VL w k K W))
theorem Pq (k:eA) (g:Nat) (w:World) (hs:k.pure.Small) (hat:eA.At w k) (hgood: ∀ p∈k.parts,p.Good w) (hg:k.vb=some ⟨g,0,none⟩∧g < w.heap.size):
  Calls J3 41 #[.agg k.row] w fun e W=>KerEnd w k.pure e W:=by
 have S:Hid (dr w w.heap.size k (w.alloc (.cells k.row 37))):=dr.first hat;have HS:=aA (And.intro hs (And.intro hgood hg));clear hs hat hgood;obtain ⟨T0,hT0⟩: ∃ T,tx=T:=⟨_,rfl⟩
 have Hz:Hid (tx=T0∧T0.size=62):=⟨hT0,by rw [← hT0]; exact ub⟩
 clear hT0
 go_enter Tryz.func41,Tryz.ntmps41
 go_upto_region 1 with fail;generalize w.alloc (.cells k.row 37)=W0 at *;generalize hX:w.heap.size=X at *;have HX:=aA hX;clear hX;obtain ⟨m0,m1,m2,m3,m4⟩:=S.I.box.cells;rw [HS.I.2.2.1] at m2;have Mb:=TV k.major g k.fn.length k.Te (sz k.fn) W0 HS.I.1.Ts HS.I.1.win (Uq (by have:=S.I.low.size; have:=HS.I.2.2.2; have:=HX.I; omega) (by have h:=S.I.MT.fn; rwa [HS.I.2.2.1] at h));clear hg;go_wp2_with fail;clear m0 m1 m2 m3 m4;refine Mb.mono ?_;clear Mb;intro e W1 hE;obtain ⟨T,r,rfl,HT,hb1⟩: ∃ T r,e= .returned (.tuple #[.agg T,.bool r])∧Hid (T.size=62∧T.all (·.oneCell')=true∧E4 k.major k.fn=r∧(r=true→P2 k.major k.fn.length (sz k.fn) T))∧Below W0.heap.size W0 W1:=by
  obtain ⟨⟨hf,cs,rfl,hc⟩ | ⟨hf,rfl⟩,hb⟩:=hE
  ·exact ⟨cs,true,rfl,⟨hc.1,hc.one,hf,fun _=>hc⟩,hb⟩
  ·exact ⟨tx,false,rfl,⟨ub,Tn,hf,fun h=>by cases h⟩,hb⟩
 replace S:=aA (S.I.below hb1);clear hE hb1;go_upto_region 2 with (first | (refine gq rfl rfl W1.heap.size rfl T0 Hz.I.1 ?_) | (refine fC rfl (.tmp 4) (.tmp 11) rfl W1.heap.size T (by rfl) (by rfl) T0 (by exact Kj _ _) Hz.I.2 HT.I.1 HT.I.2.1 ?_; rw [World.setRow_alloc_new]));have hz:Below W1.heap.size W1 (W1.alloc (.cells T 103)):=(Kp _ _).alloc (Ki _) _;have HTB:Hid ((W1.alloc (.cells T 103)).heap[W1.heap.size]? =some (.cells T 103 (0,0))):=Kj _ _;replace S:=aA (S.I.below hz);clear hz Hz;generalize W1.alloc (.cells T 103)=W2 at *;generalize W1.heap.size=Y at *;obtain ⟨m0,m1,m2,m3,m4⟩:=S.I.box.cells;have Ul:Hid (eP k.pure=(cv k.now 0 500000000 && r && decide (k.pure.parts.length≤6) && decide (k.eC.length≤10) && aw (·.id) bK 0 k.pure.parts && fA k.pure.parts [] k.eC)):=by show _=_; rw [← HT.I.2.2.1]; rfl
 cases r
 ·have HN:Hid (eP k.pure=false):=by show _=_; rw [Ul.I]; simp
  clear Ul;go_wp2;go_ret2;exact ⟨S.I.low,.inl ⟨HN.I,rfl⟩⟩
 by_cases h0:k.now < 0
 ·have HN:Hid (eP k.pure=false):=by show _=_; rw [Ul.I]; have:cv k.now 0 500000000=false:=(by cases h:cv k.now 0 500000000 with | false=>rfl | true=>(rw [bz] at h; omega)); rw [this]; rfl
  clear Ul;go_wp2;go_ret2;exact ⟨S.I.low,.inl ⟨HN.I,rfl⟩⟩
 by_cases h1:500000000 < k.now
 ·have HN:Hid (eP k.pure=false):=by show _=_; rw [Ul.I]; have:cv k.now 0 500000000=false:=(by cases h:cv k.now 0 500000000 with | false=>rfl | true=>(rw [bz] at h; omega)); rw [this]; rfl
  clear Ul;go_wp2;go_ret2;exact ⟨S.I.low,.inl ⟨HN.I,rfl⟩⟩
 obtain ⟨cs,hcs,hcz,hcc⟩:=UH k.now T W2.heap.size HT.I.1;have HCS:Hid (Tryz.prog.built 107 [(0,.int .i64 k.now),(1,.agg T),(2,.map (some W2.heap.size))] =some cs∧cs.size=65∧ ∀ j,j < 65→cs[j]? =some (B3 k.now T W2.heap.size none 0 0 j)):=⟨hcs,hcz,hcc⟩
 replace Ul:Hid (eP k.pure=(decide (k.pure.parts.length≤6) && decide (k.eC.length≤10) && aw (·.id) bK 0 k.pure.parts && fA k.pure.parts [] k.eC)):=by show _=_; rw [Ul.I]; have:cv k.now 0 500000000=true:=eB (by omega) (by omega); rw [this]; rfl
 clear hcs hcz hcc;have hmk:=run_makeMap (P:=J3) 104;go_upto_region 5 with (first | (refine wpList_load_row rfl 103 (.tmp 4) rfl Y (by rfl) 103 T (0,0) _ HTB.I Tryz.underlying103 rfl (by rw [Dw,HT.I.1]) ?_) | (refine Sl rfl (.tmp 26) (.tmp 27) (.tmp 28) rfl k.now T W2.heap.size cs (by rfl) (by rfl) (by rfl) HCS.I.1 ?_));clear m0 m1 m2 m3 m4 hmk h0 h1;have hsz:W2.heap.size+1=(W2.alloc (.map #[] 0)).heap.size:=by simp
 have hz:Below W2.heap.size W2 ((W2.alloc (.map #[] 0)).alloc (.cells cs 107)):=((Kp _ _).alloc (Ki _) _).alloc (by simp) _;have HW:Hid (cF ((W2.alloc (.map #[] 0)).alloc (.cells cs 107)) W2.heap.size [] ∧((W2.alloc (.map #[] 0)).alloc (.cells cs 107)).rowIs (W2.heap.size+1) 107 65 (B3 k.now T W2.heap.size none 0 0)∧((W2.alloc (.map #[] 0)).alloc (.cells cs 107)).heap.size=W2.heap.size+2):=⟨(cF.made W2).below ((Kp _ _).alloc (Ki _) _),by rw [hsz]; exact ⟨cs,Kj _ _,HCS.I.2.1,HCS.I.2.2⟩,by simp⟩
 have mO:Hid (Below W2.heap.size W2 ((W2.alloc (.map #[] 0)).alloc (.cells cs 107))∧kp.bU W2 k.qn k.parts∧hM.bU W2 k.qi k.eC∧(∀ p∈k.parts,p.Good W2)∧w.heap.size≤W2.heap.size):=⟨hz,S.I.MT.parts,S.I.MT.eC,fun p hp=>(HS.I.2.1 p hp).below S.I.low,S.I.low.size⟩
 have Yw:=aA S.I.low;have HS5:=aA S.I;replace S:=aA (S.I.below hz);clear hz hsz HCS HTB;generalize ((W2.alloc (.map #[] 0)).alloc (.cells cs 107))=W3 at *;have Mb:=Tr W2 W3 (W2.heap.size+1) W2.heap.size k.qn k.parts k.sa mO.I.1 (Ki _) (by rw [HW.I.2.2]; omega) (by omega) (HW.I.2.1.cell (i:=63) (by omega)) HW.I.1 (by have h:=HS.I.1.sC; simpa [eA.pure] using h) mO.I.2.1 mO.I.2.2.2.1;obtain ⟨m0,m1,m2,m3,m4⟩:=S.I.box.cells;go_wp2_with fail;clear m0 m1 m2 m3 m4;refine Mb.mono ?_;clear Mb;rintro e W4 ⟨hb4,⟨hno,rfl⟩ | ⟨fm,rfl,l,hl,hO⟩⟩
 ·have HN:Hid (eP k.pure=false∧Below w.heap.size w W4):=⟨by rw [Ul.I]; have:aw (·.id) bK 0 k.pure.parts=false:=hno; rw [this]; simp,Yw.I.trans (hb4.mono mO.I.2.2.2.2)⟩
  clear hno hb4;go_wp2;go_ret2;exact ⟨HN.I.2,.inl ⟨HN.I.1,rfl⟩⟩
 have HO:Hid (VK W4 (W2.heap.size+1) W2.heap.size l∧l.map (·.1.pure)=k.pure.parts∧W4.rowIs (W2.heap.size+1) 107 65 (B3 k.now T W2.heap.size none 0 0)∧Below W2.heap.size W2 W4):=by
  have hr:W4.rowIs (W2.heap.size+1) 107 65 (B3 k.now T W2.heap.size none 0 0):=HW.I.2.1.of_block hO.TN;exact ⟨⟨hO.map,fun p hp=>(hO.part p hp).imp fun _ h=>h.2,hO.nodup,by omega,hr.lt,hO.apart.imp fun h g hg g' hg'=>Nat.ne_of_lt (h g hg g' hg')⟩,hl,hr,hO.low⟩
 have HKB2:Hid (eP k.pure=(decide (k.eC.length≤10) && fA k.pure.parts [] k.eC)):=by
  show _=_
  have hy:aw (·.id) bK 0 k.pure.parts=true:=fm;have hlen:=Tp _ _ hy (by omega);rw [Ul.I,hy,decide_eq_true (by omega)];simp
 replace S:=aA (HS5.I.below hb4);clear fm hl hO hb4 Ul;have Mb:=T3 W2 W4 (W2.heap.size+1) W2.heap.size k.now T l k.pure.parts k.eC k.qi k.tC HO.I.1 HO.I.2.1 HO.I.2.2.1 HO.I.2.2.2 (by omega) mO.I.2.2.1 HS.I.1.eC HS.I.1.w8;obtain ⟨m0,m1,m2,m3,m4⟩:=S.I.box.cells;go_wp2_with fail;clear m0 m1 m2 m3 m4;refine Mb.mono ?_;clear Mb;rintro e W5 ⟨hk5,⟨hno,rfl⟩ | ⟨fm,rfl,ls,a,cap,hls,hj,hL⟩⟩
 ·have HN:Hid (eP k.pure=false∧Below w.heap.size w W5):=⟨by rw [HKB2.I]; exact hno,Yw.I.trans ((HO.I.2.2.2.trans (hk5.below HO.I.2.2.2.size (fun g hg=>by rw [KB.1 hg]; omega))).mono mO.I.2.2.2.2)⟩
  clear hno hk5;go_wp2;go_ret2;exact ⟨HN.I.2,.inl ⟨HN.I.1,rfl⟩⟩
 have HN:Hid (eP k.pure=true∧Below w.heap.size w W5∧VL w k.pure (W2.heap.size+1) W5):=⟨by rw [HKB2.I]; exact fm,Yw.I.trans ((HO.I.2.2.2.trans (hk5.below HO.I.2.2.2.size (fun g hg=>by rw [KB.1 hg]; omega))).mono mO.I.2.2.2.2),⟨W4,W2.heap.size,T,l,ls,a,cap,HT.I.2.2.2 (by trivial),HO.I.1,HO.I.2.1,hls,hj,hL,mO.I.2.2.2.2,by have:=mO.I.2.2.2.2; omega⟩⟩
 clear fm hk5 hls hj hL;go_wp2;go_ret2;exact ⟨HN.I.2.1,.inr ⟨HN.I.1,_,rfl,HN.I.2.2⟩⟩
theorem U7 {w:World} {base:Nat} {k:eA} (hs:k.pure.Small) (ho:gp w base k): ∀ p∈k.parts,p.Good w:=fun p hp=>uG (pC hs hp) (ho.mine p hp)
end
section
open Go.RowKit Go.ChangeShapes Go.WideShapes Go.Joins Go.Deep
section
variable {H:Type} {enc:TypeId × Value→H} {W:World}
theorem Uk {z:Int} (h:(Lit.int .i64 z).wf=true): -9223372036854775808≤z∧z≤9223372036854775807:=by
 have e1:IntKind.min .i64= -9223372036854775808:=by decide
 have e2:IntKind.max .i64=9223372036854775807:=by decide
 simp only [Lit.wf,J7,decide_eq_true_eq] at h;omega
theorem Un {fuel:Nat} {cs:List Value} {x:DataW H × List MemPlace} (h:DataW.trod enc J3 W 0 (fun _=>true) true fuel 237 cs=some x): ∃ y,cs=jq.vals y∧(fun y:pA=>(Lit.int .i64 y.at_).wf=true∧(Lit.int .i64 y.len).wf=true∧(Lit.int .i64 y.part).wf=true) y:=by
 obtain ⟨hlen,n,hf⟩:=mo Tryz.underlying237 (by kernel_rfl) h;rw [show Tryz.prog.cellsOf 237=3 by kernel_rfl] at hlen
 match cs,hlen with
 | [v0,v1,v2],_=>
  obtain ⟨y0,h0⟩:=hf 0 _ v0 rfl rfl;obtain ⟨a0,e0,-,w0⟩:=DataW.trod_int KN h0;obtain ⟨y1,h1⟩:=hf 1 _ v1 rfl rfl;obtain ⟨a1,e1,-,w1⟩:=DataW.trod_int KN h1;obtain ⟨y2,h2⟩:=hf 2 _ v2 rfl rfl;obtain ⟨a2,e2,-,w2⟩:=DataW.trod_int KN h2;simp only [List.cons.injEq,and_true] at e0 e1 e2;subst e0 e1 e2;exact ⟨⟨a0,a1,a2⟩,rfl,w0,w1,w2⟩
theorem TR {fuel:Nat} {cs:List Value} {x:DataW H × List MemPlace} (h:DataW.trod enc J3 W 0 (fun _=>true) true fuel 152 cs=some x): ∃ y,cs=hM.vals y∧eQ.Wf y:=by
 obtain ⟨hlen,n,hf⟩:=mo Tryz.underlying152 (by kernel_rfl) h;rw [show Tryz.prog.cellsOf 152=4 by kernel_rfl] at hlen
 match cs,hlen with
 | [v0,v1,v2,v3],_=>
  obtain ⟨y0,h0⟩:=hf 0 _ v0 rfl rfl;obtain ⟨a0,e0,-,w0⟩:=DataW.trod_int KN h0;obtain ⟨y1,h1⟩:=hf 1 _ v1 rfl rfl;obtain ⟨a1,e1,-,w1⟩:=DataW.trod_int KN h1;obtain ⟨y2,h2⟩:=hf 2 _ v2 rfl rfl;obtain ⟨a2,e2,-,w2⟩:=DataW.trod_int KN h2;obtain ⟨y3,h3⟩:=hf 3 _ v3 rfl rfl;obtain ⟨a3,e3,-,w3⟩:=DataW.trod_int KN h3;simp only [List.cons.injEq,and_true] at e0 e1 e2 e3;subst e0 e1 e2 e3;exact ⟨⟨a0,a1,a2,a3⟩,rfl,w0,w1,w2,w3⟩
theorem UL {p:af} (h:p.ep W): ∀ r∈il p,Src W r.1 r.2:=fun r hr=>by
 simp only [il,Kg,Rt,Kt,List.not_mem_nil,or_false] at hr;rcases hr with ((hr | ⟨x,hx,hr⟩) | ⟨x,hx,hr⟩) | ⟨x,hx,hr⟩
 ·rcases hr with rfl | rfl | rfl | rfl | rfl | rfl
  ·exact h.L8.1
  ·exact h.aj.1
  ·exact h.L9.1
  ·exact h.ag.1
  ·exact h.ae.1
  ·exact h.ai.1
 ·exact h.L8.2 x hx r hr
 ·exact h.ae.2 x hx r hr
 ·exact h.ai.2 x hx r hr
theorem Vh {l:List pA} (h: ∀ y∈l,(Lit.int .i64 y.at_).wf=true∧(Lit.int .i64 y.len).wf=true∧(Lit.int .i64 y.part).wf=true) (j:Nat): -9223372036854775808≤sz l j∧sz l j≤9223372036854775807:=by
 unfold sz;cases hx:l[j / 3]? with
 | none=>simp
 | some x=>
  obtain ⟨h0,h1,h2⟩:=h x (KA hx);simp only
  split
  ·exact Uk h0
  ·split
   ·exact Uk h1
   ·exact Uk h2
theorem E2 {fuel:Nat} {cs:List Value} {x:DataW H × List MemPlace} (h:DataW.trod enc J3 W 0 (fun _=>true) true fuel 28 cs=some x): ∃ k:eA,cs=k.row.toList∧k.Ud∧k.ep W∧k.Ints:=by
 obtain ⟨xs,n,_,_,hlen,hl,hf⟩:=DataW.trod_struct Tryz.underlying28 h;rw [show Tryz.prog.cellsOf 28=5 by kernel_rfl] at hlen
 match cs,hlen,xs,hl with
 | [v0,v1,v2,v3,v4],_,[z0,z1,z2,z3],_=>
  have h0:DataW.trod enc J3 W 0 (fun _=>true) true n 2 [v0] =some z0:=by have h:=hf 0 _ rfl; exact (congrArg (DataW.trod enc J3 W 0 (fun _=>true) true n 2) (by show [v0] =(List.drop 0 [v0,v1,v2,v3,v4]).take (Tryz.prog.cellsOf 2); rw [show Tryz.prog.cellsOf 2=1 by kernel_rfl]; rfl)).trans h
  have h1:DataW.trod enc J3 W 0 (fun _=>true) true n 24 [v1,v2] =some z1:=by have h:=hf 1 _ rfl; exact (congrArg (DataW.trod enc J3 W 0 (fun _=>true) true n 24) (by show [v1,v2] =(List.drop 1 [v0,v1,v2,v3,v4]).take (Tryz.prog.cellsOf 24); rw [show Tryz.prog.cellsOf 24=2 by kernel_rfl]; rfl)).trans h
  have h2:DataW.trod enc J3 W 0 (fun _=>true) true n 25 [v3] =some z2:=by have h:=hf 2 _ rfl; exact (congrArg (DataW.trod enc J3 W 0 (fun _=>true) true n 25) (by show [v3] =(List.drop 3 [v0,v1,v2,v3,v4]).take (Tryz.prog.cellsOf 25); rw [show Tryz.prog.cellsOf 25=1 by kernel_rfl]; rfl)).trans h
  have h3:DataW.trod enc J3 W 0 (fun _=>true) true n 26 [v4] =some z3:=by have h:=hf 3 _ rfl; exact (congrArg (DataW.trod enc J3 W 0 (fun _=>true) true n 26) (by show [v4] =(List.drop 4 [v0,v1,v2,v3,v4]).take (Tryz.prog.cellsOf 26); rw [show Tryz.prog.cellsOf 26=1 by kernel_rfl]; rfl)).trans h
  obtain ⟨a0,e0,-,-⟩:=DataW.trod_int KN h0;obtain ⟨-,n1,hf1⟩:=mo Tryz.underlying24 (by kernel_rfl) h1;obtain ⟨y1,k1⟩:=hf1 0 _ v1 rfl rfl;obtain ⟨a1,e1,-,-⟩:=DataW.trod_int KN k1;obtain ⟨y2,k2⟩:=hf1 1 _ v2 rfl rfl;obtain ⟨b2,l2,c2,e2,q2,r2,g2⟩:=gk jq (fun y:pA=>(Lit.int .i64 y.at_).wf=true∧(Lit.int .i64 y.len).wf=true∧(Lit.int .i64 y.part).wf=true) Tryz.underlying22 (by kernel_rfl) (fun _ _ _ h=>Un h) k2;obtain ⟨b3,l3,c3,e3,q3,r3,g3⟩:=gk kp (fun p:af=>p.Ud∧p.ep W∧p.Ints) Tryz.underlying25 (by kernel_rfl) (fun _ _ _ h=>sA h) h2;obtain ⟨b4,l4,c4,e4,q4,r4,g4⟩:=gk hM eQ.Wf Tryz.underlying26 (by kernel_rfl) (fun _ _ _ h=>TR h) h3;simp only [List.cons.injEq,and_true] at e0 e1;subst e0 e1 e2 e3 e4;exact ⟨⟨a0,a1,l2,b2,c2,l3,b3,c3,l4,b4,c4⟩,rfl,⟨q2,q3,q4,fun p hp=>(g3 p hp).1⟩,⟨⟨r2,fun x hx r hr=>by simp [jq] at hr⟩,⟨r3,fun p hp=>UL (g3 p hp).2.1⟩,⟨r4,fun x hx r hr=>by simp [hM] at hr⟩⟩,⟨Vh g2,fun p hp=>(g3 p hp).2.2,g4⟩⟩
theorem T7 {r:Reach} {b0:Nat} {v:Value} {d:DataW H} {pl:List MemPlace} (hv:Value.okWide J3 W r b0 28 v) (h:DataW.Trod enc J3 W 0 (fun _=>true) true 28 v d pl): ∃ k:eA,v= .agg k.row∧k.Ud∧k.ep W∧k.Ints:=by
 obtain ⟨cs,rfl,hsz⟩:=okWide_struct Tryz.underlying28 hv;obtain ⟨fuel,hf⟩:=h;obtain ⟨k,hk,h1,h2,h3⟩:=E2 hf;refine ⟨k,?_,h1,h2,h3⟩;have e:cs.toList=k.row.toList:=by simpa [Value.cells] using hk
 rw [Array.toList_inj.1 e]
end
end
end Go.Proofs.YteidkehoekbcaaaGreat
