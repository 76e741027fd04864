/- What the proof leans on, part 6. -/
import Derived.Test.YteidkehoekbcaaaGreatOwnF5
set_option maxRecDepth 100000
set_option maxHeartbeats 8000000
open Array renaming getElem?_eq_some_iff->J2
open Function renaming comp_def->Ls
open Go renaming heap_alloc_new->Kj,wp_at_succ->Kd,wp_at_zero->Kc
open Go.Proofs.Tryz renaming prog->J3
open Go.RowKit.Below renaming refl->Kp
open List renaming append_assoc->Lm,length_cons->Lg,map_cons->Lt,mem_append->Kg,mem_append_left->Lz,mem_append_right->Ly,mem_cons->Kt,mem_cons_of_mem->LB,mem_flatMap->Rt,mem_map->Lr,nodup_append->Kf,take_of_length_le->KF
open Nat renaming le_refl->Ki

namespace Go.Proofs.YteidkehoekbcaaaGreat
section
open Go.RowKit
attribute [local go_sem ↓] Kc Kd
def V0 (p:af):Nat:=2+fb p
def V9 (k:Int) (p:af):af:=nF (k+1+1) { p with id:=k,next:=k+1 }
theorem WD (k:Int) (p:af):kp.vals (nF k p)=kp.vals p:=by
 simp [kp,UU,af.cells,nF,bE]
theorem Wi (k:Int) (p:af):(nF k p).Mc=p.Mc:=by
 simp only [nF,af.Mc,pr (N:=aR) (f:=cw) (c:=bj) (fun _ _=>rfl),pr (N:=aC) (f:=dy) (c:=bN) (fun _ _=>rfl),pr (N:=aU) (f:=fU) (c:=eo) (fun _ _=>rfl)]
theorem Wp (k:Int) (p:af):(V9 k p).Mc=p.Mc:=Wi _ _
structure VT (w:World) (base g cap:Nat) (l:List af) (wr:World):Prop where
 row:bl kp 48 wr base g cap l
 mine: ∀ p∈l,ap wr base p
 nodup:(g :: l.flatMap af.Mc).Nodup
 kept:aI w wr (g :: l.flatMap af.Mc)
theorem VT.apart {w wr:World} {base gs cap:Nat} {A B:List af} {x:af} (h:VT w base gs cap (A ++ x :: B) wr):gs∉x.Mc∧ ∀ y,y∈A∨y∈B→ ∀ b∈y.Mc,b∉x.Mc∧b≠gs:=by
 have hn:=h.nodup;rw [List.flatMap_append,List.flatMap_cons,List.nodup_cons,Kf,Kf] at hn;obtain ⟨h1,h2,⟨h3,h4,h5⟩,h6⟩:=hn;refine ⟨fun hm=>h1 (Ly _ (Lz _ hm)),fun y hy b hb=>⟨fun hx=> ?_,fun e=> ?_⟩⟩
 ·rcases hy with hy | hy
  ·exact h6 b (Rt.2 ⟨y,hy,hb⟩) b (Lz _ hx) rfl
  ·exact h5 b hx b (Rt.2 ⟨y,hy,hb⟩) rfl
 ·subst e
  rcases hy with hy | hy
  ·exact h1 (Lz _ (Rt.2 ⟨y,hy,hb⟩))
  ·exact h1 (Ly _ (Ly _ (Rt.2 ⟨y,hy,hb⟩)))
theorem VT.ju {w wr W:World} {base gs cap:Nat} {A B:List af} {x y:af} (h:VT w base gs cap (A ++ x :: B) wr) (hr:bl kp 48 W base gs cap (A ++ y :: B)) (ho:ap W base y) (hb:y.Mc=x.Mc) (hk:aI wr W (gs :: x.Mc)):VT w base gs cap (A ++ y :: B) W:=by
 have e:(A ++ y :: B).flatMap af.Mc=(A ++ x :: B).flatMap af.Mc:=by simp only [List.flatMap_append,List.flatMap_cons,hb]
 obtain ⟨-,hap⟩:=h.apart;refine ⟨hr,fun z hz=> ?_,by rw [e]; exact h.nodup,by rw [e]; exact h.kept.trans (hk.mono fun b hb2=>by
  rcases Kt.1 hb2 with rfl | hb2
  ·exact List.mem_cons_self
  ·exact LB _ (by rw [List.flatMap_append,List.flatMap_cons]; exact Ly _ (Lz _ hb2)))⟩
 have hz2:z=y∨(z∈A∨z∈B):=by
  rcases Kg.1 hz with hz | hz
  ·exact .inr (.inl hz)
  ·rcases Kt.1 hz with hz | hz
   ·exact .inl hz
   ·exact .inr (.inr hz)
 rcases hz2 with rfl | hz2
 ·exact ho
 ·have hmz:ap wr base z:=h.mine z (by rcases hz2 with hz2 | hz2 <;> simp [hz2])
  exact hmz.same fun b hb2=>hk.same b (hmz.lt b hb2).2 fun hm=>by
   rcases Kt.1 hm with hm | hm
   ·exact (hap z hz2 b hb2).2 hm
   ·exact (hap z hz2 b hb2).1 hm
theorem bl.vals {w:World} {base g cap:Nat} {A B:List af} {x y:af} (h:bl kp 48 w base g cap (A ++ x :: B)) (hv:kp.vals y=kp.vals x):bl kp 48 w base g cap (A ++ y :: B):=by
 obtain ⟨cur,h1,h2,h3,h4,h5,h6⟩:=h;refine ⟨cur,h1,h2,by simpa using h3,h4,h5,?_⟩;have e:kp.flat (A ++ y :: B)=kp.flat (A ++ x :: B):=by simp only [Kind.flat,List.flatMap_append,List.flatMap_cons,hv]
 rw [e,← h6];simp
theorem ap.numbers {w:World} {base:Nat} {p:af} (h:ap w base p) (a b:Int):ap w base { p with id:=a,next:=b } :=⟨h.L8,h.aj,h.L9,h.ag,h.ae,h.ai,h.eI,h.eE,h.eR,h.nodup⟩
theorem Wc: ∀ (k:Int) (l:List af),(aJ V9 V0 k l).flatMap af.Mc=l.flatMap af.Mc
 | _,[] =>rfl
 | k,x :: r=>by simp only [aJ,List.flatMap_cons,Wp,Wc (k+V0 x) r]
theorem Wz (a:Option Addr) (l:List af) (cap:Nat) (k:Int) (w:World) (base:Nat) (hl:l.length≤1048576) (hc: ∀ p∈l,p.WN) (h0:1≤k) (h1:k+(aF V0 l:Nat)≤90000000) (ho:w.ownsRow base 48 8 (.slice a l.length cap) l.length (kp.flat l)) (hm: ∀ p∈l,ap w base p) (hn:(blk a ++ l.flatMap af.Mc).Nodup):
  Calls J3 55 #[.slice a l.length cap,.int .i64 k] w fun e w'=>e= .returned (.int .i64 (k+(aF V0 l:Nat)))∧(w'.ownsRow base 48 8 (.slice a l.length cap) l.length (kp.flat (aJ V9 V0 k l))∧ ∀ q∈aJ V9 V0 k l,ap w' base q)∧aI w w' (blk a ++ l.flatMap af.Mc):=by
 by_cases hz:l.length=0
 ·have hl0:l= [] :=List.eq_nil_of_length_eq_zero hz
  subst hl0;have HO:Hid (w.ownsRow base 48 8 (.slice a 0 cap) 0 (kp.flat [])):=ho;clear ho hm hn hc
  go_enter Tryz.func55,Tryz.ntmps55
  go_wp2_with fail
  go_loopw [1,5] (fun q i wr=>q= .int .i64 k∧i= .int .i64 0∧wr=w) (fun _ _ _=>0)
  case atStart=>exact ⟨rfl,rfl,rfl⟩
  case round=>
   obtain ⟨rfl,rfl,rfl⟩:=hrel;go_wp2;go_ret;exact ⟨ck (by simp [aF]),⟨HO.I,fun q hq=>by cases hq⟩,aI.refl _ _⟩
 obtain ⟨g,rfl,hrow⟩:=bl.fX (K:=kp) ho hz;have HR:Hid (VT w base g cap l w):=⟨hrow,hm,by simpa [blk] using hn,aI.refl _ _⟩
 have HB:Hid (k+(aF V0 l:Nat)≤90000000∧ ∀ p∈l,p.WN):=⟨h1,hc⟩
 clear ho hrow h1 hz hm hn hc
 go_enter Tryz.func55,Tryz.ntmps55
 go_wp2_with fail
 go_loopw [1,5] (fun q i wr=> ∃ (j:Nat) (m:Int),j≤l.length∧i= .int .i64 j∧q= .int .i64 m∧1≤m∧m≤90000000∧Hid (m=k+(aF V0 (l.take j):Nat)∧VT w base g cap (aJ V9 V0 k (l.take j) ++ l.drop j) wr)) (fun _ i _=>l.length - (Go.RowKit.intOf i).toNat)
 case atStart=>exact ⟨0,k,Nat.zero_le _,rfl,rfl,h0,by have:=HB.I.1; omega,⟨by simp [aF],by simpa [aJ] using HR.I⟩⟩
 case round=>
  clear HR;obtain ⟨j,m,hj,rfl,rfl,m0,m1,HA⟩:=hrel;by_cases hlt:j < l.length
  ·have i0:(0:Int)≤(j:Int):=by omega
   have i1:(j:Int) < (l.length:Int):=by omega
   obtain ⟨x,hx⟩: ∃ x,l[j]? =some x:=⟨_,List.getElem?_eq_getElem hlt⟩
   have pI:l.drop j=x :: l.drop (j+1):=mz hx;have qw:=du (c:=V0) hx;have hup:=gK (c:=V0) hx;obtain ⟨p,hp⟩: ∃ p:af,p= { x with id:=m,next:=m+1 } :=⟨_,rfl⟩
   have Vu:fb p=fb x:=by rw [hp]; rfl
   have hcx:V0 x=2+fb x:=rfl;have HX:Hid (l[j]? =some x∧m+2+(fb p:Nat)=k+(aF V0 (l.take (j+1)):Nat)):=⟨hx,by have:=HA.I.1; omega⟩
   have h2:m+1+1+(fb p:Nat)≤90000000:=by have:=HB.I.1; have:=HA.I.1; omega
   have WM:Hid (p.WN∧nF (m+1+1) p=V9 m x∧p.Mc=x.Mc):=⟨by rw [hp]; have:=HB.I.2 x (List.mem_of_getElem? hx); exact ⟨this.1,this.2,this.3,this.4,this.5,this.6,this.7,this.8,this.9⟩,by rw [hp]; rfl,by rw [hp]; rfl⟩
   obtain ⟨A,hA⟩: ∃ A,aJ V9 V0 k (l.take j)=A:=⟨_,rfl⟩
   obtain ⟨B,hB⟩: ∃ B,l.drop (j+1)=B:=⟨_,rfl⟩
   have WY:Hid (A.length=j∧aJ V9 V0 k (l.take (j+1)) ++ l.drop (j+1)=A ++ V9 m x :: B):=⟨by rw [← hA,bE,List.length_take]; omega,by rw [kE hx,← HA.I.1,hA,hB]; simp⟩
   have HS:Hid (VT w base g cap (A ++ x :: B) wr):=by have:=HA.I.2; rwa [pI,hA,hB] at this
   have hgl:g < wr.heap.size:=HS.I.row.lt;obtain ⟨⟨u0,c0⟩,f0⟩:(∃ u,wr.cell? ⟨g,j * 8,none⟩=some u)∧wr.frozen? ⟨g,j * 8,none⟩=false:=bl.eO HS.I.row WY.I.1 (r:=0) (by decide:0 < kp.n);obtain ⟨⟨u1,c1⟩,f1⟩:(∃ u,wr.cell? ⟨g,j * 8+1,none⟩=some u)∧wr.frozen? ⟨g,j * 8+1,none⟩=false:=bl.eO HS.I.row WY.I.1 (r:=1) (by decide:1 < kp.n);have h5:=bl.part (K:=kp) (x:=x) (y:=p) (j:=0) (vs:= [.int .i64 m,.int .i64 (m+1)]) HS.I.row (by show 0+2≤8; omega) (fun r hr=>by rw [hp]; match r,hr with | 0,_=>rfl | 1,_=>rfl) (fun r hr hn=>by rw [hp]; match r,hr,hn with | 0,_,hn=>exact absurd ⟨by omega,by show 0 < 0+2; omega⟩ hn | 1,_,hn=>exact absurd ⟨by omega,by show 1 < 0+2; omega⟩ hn | 2,_,_=>rfl | 3,_,_=>rfl | 4,_,_=>rfl | 5,_,_=>rfl | 6,_,_=>rfl | 7,_,_=>rfl);rw [WY.I.1,show kp.n=8 from rfl] at h5;simp only [bn,Nat.add_zero] at h5;have h6:aI wr (bn wr g (j * 8) [.int .i64 m,.int .i64 (m+1)]) (g :: p.Mc):=aI.set _ (by simp);simp only [bn] at h6;have td:ap wr base p:=by rw [hp]; exact (HS.I.mine x (by simp)).numbers m (m+1)
   have ud:Hid (g∉p.Mc):=by show g∉p.Mc; rw [WM.I.2.2]; exact HS.I.apart.1
   have h7:ap ((wr.setCell ⟨g,j * 8,none⟩ (.int .i64 m)).setCell ⟨g,j * 8+1,none⟩ (.int .i64 (m+1))) base p:=td.same fun b hb=>(Go.Deep.blk_setCell_other _ _ _ _ (fun e=>ud.I (by have e2:b=g:=e; rw [← e2]; exact hb))).trans (Go.Deep.blk_setCell_other _ _ _ _ (fun e=>ud.I (by have e2:b=g:=e; rw [← e2]; exact hb)))
   have HY:Hid (bl kp 48 ((wr.setCell ⟨g,j * 8,none⟩ (.int .i64 m)).setCell ⟨g,j * 8+1,none⟩ (.int .i64 (m+1))) base g cap (A ++ p :: B)∧ap ((wr.setCell ⟨g,j * 8,none⟩ (.int .i64 m)).setCell ⟨g,j * 8+1,none⟩ (.int .i64 (m+1))) base p∧aI wr ((wr.setCell ⟨g,j * 8,none⟩ (.int .i64 m)).setCell ⟨g,j * 8+1,none⟩ (.int .i64 (m+1))) (g :: p.Mc)):=⟨h5,h7,h6⟩
   clear h5 h6 h7 td hp Vu hcx qw hup pI hx hA hB;go_upto_region 8 with fail;clear c0 c1 f0 f1;generalize (wr.setCell ⟨g,j * 8,none⟩ (.int .i64 m)).setCell ⟨g,j * 8+1,none⟩ (.int .i64 (m+1))=W0 at *;have q0:1≤m+1+1∧m+1+1+(aF bj p.L8:Nat)≤90000000:=by have:=h2; unfold fb at this; omega
   have q1:1≤m+1+1+(aF bj p.L8:Nat)∧m+1+1+(aF bj p.L8:Nat)+(aF (fun _=>3) p.aj:Nat)≤90000000:=by have:=h2; unfold fb at this; omega
   have q2:1≤m+1+1+(aF bj p.L8:Nat)+(aF (fun _=>3) p.aj:Nat)∧m+1+1+(aF bj p.L8:Nat)+(aF (fun _=>3) p.aj:Nat)+(aF (fun _=>2) p.L9:Nat)≤90000000:=by have:=h2; unfold fb at this; omega
   have q3:1≤m+1+1+(aF bj p.L8:Nat)+(aF (fun _=>3) p.aj:Nat)+(aF (fun _=>2) p.L9:Nat)∧m+1+1+(aF bj p.L8:Nat)+(aF (fun _=>3) p.aj:Nat)+(aF (fun _=>2) p.L9:Nat)+(aF (fun _=>3) p.ag:Nat)≤90000000:=by have:=h2; unfold fb at this; omega
   have q4:1≤m+1+1+(aF bj p.L8:Nat)+(aF (fun _=>3) p.aj:Nat)+(aF (fun _=>2) p.L9:Nat)+(aF (fun _=>3) p.ag:Nat)∧m+1+1+(aF bj p.L8:Nat)+(aF (fun _=>3) p.aj:Nat)+(aF (fun _=>2) p.L9:Nat)+(aF (fun _=>3) p.ag:Nat)+(aF bN p.ae:Nat)≤90000000:=by have:=h2; unfold fb at this; omega
   have q5:1≤m+1+1+(aF bj p.L8:Nat)+(aF (fun _=>3) p.aj:Nat)+(aF (fun _=>2) p.L9:Nat)+(aF (fun _=>3) p.ag:Nat)+(aF bN p.ae:Nat)∧m+1+1+(aF bj p.L8:Nat)+(aF (fun _=>3) p.aj:Nat)+(aF (fun _=>2) p.L9:Nat)+(aF (fun _=>3) p.ag:Nat)+(aF bN p.ae:Nat)+(aF eo p.ai:Nat)≤90000000:=by have:=h2; unfold fb at this; omega
   have HZ:=HY;clear HY;have c0:W0.cell? ⟨g,j * 8+2,none⟩=some (.slice p.aN p.L8.length p.aW):=bl.uD HZ.I.1 WY.I.1 (r:=2) (by decide:2 < kp.n);go_wp2_with fail;clear c0;refine (BB p.aN p.L8 p.aW (m+1+1) W0 base WM.I.1.dl WM.I.1.L8 q0.1 q0.2 HZ.I.2.1.L8 HZ.I.2.1.eI (by
    have h5:=HZ.I.2.1.nodup;have h6:af.Mc p=p.Mc:=rfl;rw [h6,show p.Mc= [] ++ ((blk p.aN ++ p.L8.filterMap aR.bt) ++ (blk p.bc ++ (blk p.ay ++ (blk p.ax ++ (blk p.am ++ (p.ae.filterMap aC.bt ++ (blk p.aK ++ (p.ai.filterMap aU.bt)))))))) by simp [af.Mc,Lm]] at h5;exact (Kf.1 (Kf.1 h5).2.1).1)).mono ?_
   rintro e W1 ⟨rfl,how,Ji,hkb⟩;have ht:=HZ.I.2.1.As how (bE _ _ _ _) Ji (pr (N:=aR) (f:=cw) (c:=bj) (fun _ _=>rfl) _ _) hkb;have HQ1:Hid (af.Mc ({ p with L8:=aJ cw bj (m+1+1) p.L8 } :af)=p.Mc):=ht.2.trans rfl;have hsub: ∀ b∈blk p.aN ++ p.L8.filterMap aR.bt,b∈p.Mc:=fun b hb=>by rw [show p.Mc= [] ++ ((blk p.aN ++ p.L8.filterMap aR.bt) ++ (blk p.bc ++ (blk p.ay ++ (blk p.ax ++ (blk p.am ++ (p.ae.filterMap aC.bt ++ (blk p.aK ++ (p.ai.filterMap aU.bt)))))))) by simp [af.Mc,Lm]]; exact Ly _ (Lz _ hb)
   have HY:Hid (bl kp 48 W1 base g cap (A ++ p :: B)∧ap W1 base ({ p with L8:=aJ cw bj (m+1+1) p.L8 } :af)∧aI wr W1 (g :: p.Mc)):=⟨HZ.I.1.same (hkb.same g HZ.I.1.lt fun hm=>ud.I (hsub _ hm)),ht.1,HZ.I.2.2.trans (hkb.mono fun b hb=>LB _ (hsub b hb))⟩
   clear HZ how hkb ht hsub Ji;have HZ:=HY;clear HY;have c1:W1.cell? ⟨g,j * 8+3,none⟩=some (.slice p.bc p.aj.length p.bF):=bl.uD HZ.I.1 WY.I.1 (r:=3) (by decide:3 < kp.n);go_wp2_with fail;clear c1;refine (CF p.bc p.aj p.bF (m+1+1+(aF bj p.L8:Nat)) W1 base WM.I.1.fx q1.1 q1.2 HZ.I.2.1.aj).mono ?_;rintro e W2 ⟨rfl,how,hkb⟩;have ht:=HZ.I.2.1.DT how (bE _ _ _ _) hkb;have ky:Hid (af.Mc ({ p with L8:=aJ cw bj (m+1+1) p.L8,aj:=aJ hJ (fun _=>3) (m+1+1+(aF bj p.L8:Nat)) p.aj } :af)=p.Mc):=ht.2.trans HQ1.I;have hsub: ∀ b∈blk p.bc,b∈p.Mc:=fun b hb=>by rw [show p.Mc=(blk p.aN ++ p.L8.filterMap aR.bt) ++ ((blk p.bc) ++ (blk p.ay ++ (blk p.ax ++ (blk p.am ++ (p.ae.filterMap aC.bt ++ (blk p.aK ++ (p.ai.filterMap aU.bt))))))) by simp [af.Mc,Lm]]; exact Ly _ (Lz _ hb)
   have HY:Hid (bl kp 48 W2 base g cap (A ++ p :: B)∧ap W2 base ({ p with L8:=aJ cw bj (m+1+1) p.L8,aj:=aJ hJ (fun _=>3) (m+1+1+(aF bj p.L8:Nat)) p.aj } :af)∧aI wr W2 (g :: p.Mc)):=⟨HZ.I.1.same (hkb.same g HZ.I.1.lt fun hm=>ud.I (hsub _ hm)),ht.1,HZ.I.2.2.trans (hkb.mono fun b hb=>LB _ (hsub b hb))⟩
   clear HZ how hkb ht hsub;have HZ:=HY;clear HY;have c2:W2.cell? ⟨g,j * 8+4,none⟩=some (.slice p.ay p.L9.length p.aO):=bl.uD HZ.I.1 WY.I.1 (r:=4) (by decide:4 < kp.n);go_wp2_with fail;clear c2;refine (zw p.ay p.L9 p.aO (m+1+1+(aF bj p.L8:Nat)+(aF (fun _=>3) p.aj:Nat)) W2 base WM.I.1.cD q2.1 q2.2 HZ.I.2.1.L9).mono ?_;rintro e W3 ⟨rfl,how,hkb⟩;have ht:=HZ.I.2.1.xA how (bE _ _ _ _) hkb;have Ck:Hid (af.Mc ({ p with L8:=aJ cw bj (m+1+1) p.L8,aj:=aJ hJ (fun _=>3) (m+1+1+(aF bj p.L8:Nat)) p.aj,L9:=aJ eM (fun _=>2) (m+1+1+(aF bj p.L8:Nat)+(aF (fun _=>3) p.aj:Nat)) p.L9 } :af)=p.Mc):=ht.2.trans ky.I;have hsub: ∀ b∈blk p.ay,b∈p.Mc:=fun b hb=>by rw [show p.Mc=(blk p.aN ++ p.L8.filterMap aR.bt ++ blk p.bc) ++ ((blk p.ay) ++ (blk p.ax ++ (blk p.am ++ (p.ae.filterMap aC.bt ++ (blk p.aK ++ (p.ai.filterMap aU.bt)))))) by simp [af.Mc,Lm]]; exact Ly _ (Lz _ hb)
   have HY:Hid (bl kp 48 W3 base g cap (A ++ p :: B)∧ap W3 base ({ p with L8:=aJ cw bj (m+1+1) p.L8,aj:=aJ hJ (fun _=>3) (m+1+1+(aF bj p.L8:Nat)) p.aj,L9:=aJ eM (fun _=>2) (m+1+1+(aF bj p.L8:Nat)+(aF (fun _=>3) p.aj:Nat)) p.L9 } :af)∧aI wr W3 (g :: p.Mc)):=⟨HZ.I.1.same (hkb.same g HZ.I.1.lt fun hm=>ud.I (hsub _ hm)),ht.1,HZ.I.2.2.trans (hkb.mono fun b hb=>LB _ (hsub b hb))⟩
   clear HZ how hkb ht hsub;have HZ:=HY;clear HY;have c3:W3.cell? ⟨g,j * 8+5,none⟩=some (.slice p.ax p.ag.length p.aP):=bl.uD HZ.I.1 WY.I.1 (r:=5) (by decide:5 < kp.n);go_wp2_with fail;clear c3;refine (zB p.ax p.ag p.aP (m+1+1+(aF bj p.L8:Nat)+(aF (fun _=>3) p.aj:Nat)+(aF (fun _=>2) p.L9:Nat)) W3 base WM.I.1.cC q3.1 q3.2 HZ.I.2.1.ag).mono ?_;rintro e W4 ⟨rfl,how,hkb⟩;have ht:=HZ.I.2.1.xM how (bE _ _ _ _) hkb;have Xc:Hid (af.Mc ({ p with L8:=aJ cw bj (m+1+1) p.L8,aj:=aJ hJ (fun _=>3) (m+1+1+(aF bj p.L8:Nat)) p.aj,L9:=aJ eM (fun _=>2) (m+1+1+(aF bj p.L8:Nat)+(aF (fun _=>3) p.aj:Nat)) p.L9,ag:=aJ dZ (fun _=>3) (m+1+1+(aF bj p.L8:Nat)+(aF (fun _=>3) p.aj:Nat)+(aF (fun _=>2) p.L9:Nat)) p.ag } :af)=p.Mc):=ht.2.trans Ck.I;have hsub: ∀ b∈blk p.ax,b∈p.Mc:=fun b hb=>by rw [show p.Mc=(blk p.aN ++ p.L8.filterMap aR.bt ++ blk p.bc ++ blk p.ay) ++ ((blk p.ax) ++ (blk p.am ++ (p.ae.filterMap aC.bt ++ (blk p.aK ++ (p.ai.filterMap aU.bt))))) by simp [af.Mc,Lm]]; exact Ly _ (Lz _ hb)
   have HY:Hid (bl kp 48 W4 base g cap (A ++ p :: B)∧ap W4 base ({ p with L8:=aJ cw bj (m+1+1) p.L8,aj:=aJ hJ (fun _=>3) (m+1+1+(aF bj p.L8:Nat)) p.aj,L9:=aJ eM (fun _=>2) (m+1+1+(aF bj p.L8:Nat)+(aF (fun _=>3) p.aj:Nat)) p.L9,ag:=aJ dZ (fun _=>3) (m+1+1+(aF bj p.L8:Nat)+(aF (fun _=>3) p.aj:Nat)+(aF (fun _=>2) p.L9:Nat)) p.ag } :af)∧aI wr W4 (g :: p.Mc)):=⟨HZ.I.1.same (hkb.same g HZ.I.1.lt fun hm=>ud.I (hsub _ hm)),ht.1,HZ.I.2.2.trans (hkb.mono fun b hb=>LB _ (hsub b hb))⟩
   clear HZ how hkb ht hsub;have HZ:=HY;clear HY;have c4:W4.cell? ⟨g,j * 8+6,none⟩=some (.slice p.am p.ae.length p.aG):=bl.uD HZ.I.1 WY.I.1 (r:=6) (by decide:6 < kp.n);go_wp2_with fail;clear c4;refine (wX p.am p.ae p.aG (m+1+1+(aF bj p.L8:Nat)+(aF (fun _=>3) p.aj:Nat)+(aF (fun _=>2) p.L9:Nat)+(aF (fun _=>3) p.ag:Nat)) W4 base WM.I.1.cb WM.I.1.ae q4.1 q4.2 HZ.I.2.1.ae HZ.I.2.1.eE (by
    have h5:=HZ.I.2.1.nodup;have h6:af.Mc ({ p with L8:=aJ cw bj (m+1+1) p.L8,aj:=aJ hJ (fun _=>3) (m+1+1+(aF bj p.L8:Nat)) p.aj,L9:=aJ eM (fun _=>2) (m+1+1+(aF bj p.L8:Nat)+(aF (fun _=>3) p.aj:Nat)) p.L9,ag:=aJ dZ (fun _=>3) (m+1+1+(aF bj p.L8:Nat)+(aF (fun _=>3) p.aj:Nat)+(aF (fun _=>2) p.L9:Nat)) p.ag } :af)=p.Mc:=Xc.I;rw [h6,show p.Mc=(blk p.aN ++ p.L8.filterMap aR.bt ++ blk p.bc ++ blk p.ay ++ blk p.ax) ++ ((blk p.am ++ p.ae.filterMap aC.bt) ++ (blk p.aK ++ (p.ai.filterMap aU.bt))) by simp [af.Mc,Lm]] at h5;exact (Kf.1 (Kf.1 h5).2.1).1)).mono ?_
   rintro e W5 ⟨rfl,how,Ji,hkb⟩;have ht:=HZ.I.2.1.CJ how (bE _ _ _ _) Ji (pr (N:=aC) (f:=dy) (c:=bN) (fun _ _=>rfl) _ _) hkb;have Xb:Hid (af.Mc ({ p with L8:=aJ cw bj (m+1+1) p.L8,aj:=aJ hJ (fun _=>3) (m+1+1+(aF bj p.L8:Nat)) p.aj,L9:=aJ eM (fun _=>2) (m+1+1+(aF bj p.L8:Nat)+(aF (fun _=>3) p.aj:Nat)) p.L9,ag:=aJ dZ (fun _=>3) (m+1+1+(aF bj p.L8:Nat)+(aF (fun _=>3) p.aj:Nat)+(aF (fun _=>2) p.L9:Nat)) p.ag,ae:=aJ dy bN (m+1+1+(aF bj p.L8:Nat)+(aF (fun _=>3) p.aj:Nat)+(aF (fun _=>2) p.L9:Nat)+(aF (fun _=>3) p.ag:Nat)) p.ae } :af)=p.Mc):=ht.2.trans Xc.I;have hsub: ∀ b∈blk p.am ++ p.ae.filterMap aC.bt,b∈p.Mc:=fun b hb=>by rw [show p.Mc=(blk p.aN ++ p.L8.filterMap aR.bt ++ blk p.bc ++ blk p.ay ++ blk p.ax) ++ ((blk p.am ++ p.ae.filterMap aC.bt) ++ (blk p.aK ++ (p.ai.filterMap aU.bt))) by simp [af.Mc,Lm]]; exact Ly _ (Lz _ hb)
   have HY:Hid (bl kp 48 W5 base g cap (A ++ p :: B)∧ap W5 base ({ p with L8:=aJ cw bj (m+1+1) p.L8,aj:=aJ hJ (fun _=>3) (m+1+1+(aF bj p.L8:Nat)) p.aj,L9:=aJ eM (fun _=>2) (m+1+1+(aF bj p.L8:Nat)+(aF (fun _=>3) p.aj:Nat)) p.L9,ag:=aJ dZ (fun _=>3) (m+1+1+(aF bj p.L8:Nat)+(aF (fun _=>3) p.aj:Nat)+(aF (fun _=>2) p.L9:Nat)) p.ag,ae:=aJ dy bN (m+1+1+(aF bj p.L8:Nat)+(aF (fun _=>3) p.aj:Nat)+(aF (fun _=>2) p.L9:Nat)+(aF (fun _=>3) p.ag:Nat)) p.ae } :af)∧aI wr W5 (g :: p.Mc)):=⟨HZ.I.1.same (hkb.same g HZ.I.1.lt fun hm=>ud.I (hsub _ hm)),ht.1,HZ.I.2.2.trans (hkb.mono fun b hb=>LB _ (hsub b hb))⟩
   clear HZ how hkb ht hsub Ji;have HZ:=HY;clear HY;have c5:W5.cell? ⟨g,j * 8+7,none⟩=some (.slice p.aK p.ai.length p.aV):=bl.uD HZ.I.1 WY.I.1 (r:=7) (by decide:7 < kp.n);go_wp2_with fail;clear c5;refine (AU p.aK p.ai p.aV (m+1+1+(aF bj p.L8:Nat)+(aF (fun _=>3) p.aj:Nat)+(aF (fun _=>2) p.L9:Nat)+(aF (fun _=>3) p.ag:Nat)+(aF bN p.ae:Nat)) W5 base WM.I.1.dH WM.I.1.ai q5.1 q5.2 HZ.I.2.1.ai HZ.I.2.1.eR (by
    have h5:=HZ.I.2.1.nodup;have h6:af.Mc ({ p with L8:=aJ cw bj (m+1+1) p.L8,aj:=aJ hJ (fun _=>3) (m+1+1+(aF bj p.L8:Nat)) p.aj,L9:=aJ eM (fun _=>2) (m+1+1+(aF bj p.L8:Nat)+(aF (fun _=>3) p.aj:Nat)) p.L9,ag:=aJ dZ (fun _=>3) (m+1+1+(aF bj p.L8:Nat)+(aF (fun _=>3) p.aj:Nat)+(aF (fun _=>2) p.L9:Nat)) p.ag,ae:=aJ dy bN (m+1+1+(aF bj p.L8:Nat)+(aF (fun _=>3) p.aj:Nat)+(aF (fun _=>2) p.L9:Nat)+(aF (fun _=>3) p.ag:Nat)) p.ae } :af)=p.Mc:=Xb.I;rw [h6,show p.Mc=(blk p.aN ++ p.L8.filterMap aR.bt ++ blk p.bc ++ blk p.ay ++ blk p.ax ++ blk p.am ++ p.ae.filterMap aC.bt) ++ ((blk p.aK ++ p.ai.filterMap aU.bt) ++ []) by simp [af.Mc,Lm]] at h5;exact (Kf.1 (Kf.1 h5).2.1).1)).mono ?_
   rintro e W6 ⟨rfl,how,Ji,hkb⟩;have ht:=HZ.I.2.1.Gu how (bE _ _ _ _) Ji (pr (N:=aU) (f:=fU) (c:=eo) (fun _ _=>rfl) _ _) hkb;have HQ6:Hid (af.Mc ({ p with L8:=aJ cw bj (m+1+1) p.L8,aj:=aJ hJ (fun _=>3) (m+1+1+(aF bj p.L8:Nat)) p.aj,L9:=aJ eM (fun _=>2) (m+1+1+(aF bj p.L8:Nat)+(aF (fun _=>3) p.aj:Nat)) p.L9,ag:=aJ dZ (fun _=>3) (m+1+1+(aF bj p.L8:Nat)+(aF (fun _=>3) p.aj:Nat)+(aF (fun _=>2) p.L9:Nat)) p.ag,ae:=aJ dy bN (m+1+1+(aF bj p.L8:Nat)+(aF (fun _=>3) p.aj:Nat)+(aF (fun _=>2) p.L9:Nat)+(aF (fun _=>3) p.ag:Nat)) p.ae,ai:=aJ fU eo (m+1+1+(aF bj p.L8:Nat)+(aF (fun _=>3) p.aj:Nat)+(aF (fun _=>2) p.L9:Nat)+(aF (fun _=>3) p.ag:Nat)+(aF bN p.ae:Nat)) p.ai } :af)=p.Mc):=ht.2.trans Xb.I;have hsub: ∀ b∈blk p.aK ++ p.ai.filterMap aU.bt,b∈p.Mc:=fun b hb=>by rw [show p.Mc=(blk p.aN ++ p.L8.filterMap aR.bt ++ blk p.bc ++ blk p.ay ++ blk p.ax ++ blk p.am ++ p.ae.filterMap aC.bt) ++ ((blk p.aK ++ p.ai.filterMap aU.bt) ++ []) by simp [af.Mc,Lm]]; exact Ly _ (Lz _ hb)
   have HY:Hid (bl kp 48 W6 base g cap (A ++ p :: B)∧ap W6 base ({ p with L8:=aJ cw bj (m+1+1) p.L8,aj:=aJ hJ (fun _=>3) (m+1+1+(aF bj p.L8:Nat)) p.aj,L9:=aJ eM (fun _=>2) (m+1+1+(aF bj p.L8:Nat)+(aF (fun _=>3) p.aj:Nat)) p.L9,ag:=aJ dZ (fun _=>3) (m+1+1+(aF bj p.L8:Nat)+(aF (fun _=>3) p.aj:Nat)+(aF (fun _=>2) p.L9:Nat)) p.ag,ae:=aJ dy bN (m+1+1+(aF bj p.L8:Nat)+(aF (fun _=>3) p.aj:Nat)+(aF (fun _=>2) p.L9:Nat)+(aF (fun _=>3) p.ag:Nat)) p.ae,ai:=aJ fU eo (m+1+1+(aF bj p.L8:Nat)+(aF (fun _=>3) p.aj:Nat)+(aF (fun _=>2) p.L9:Nat)+(aF (fun _=>3) p.ag:Nat)+(aF bN p.ae:Nat)) p.ai } :af)∧aI wr W6 (g :: p.Mc)):=⟨HZ.I.1.same (hkb.same g HZ.I.1.lt fun hm=>ud.I (hsub _ hm)),ht.1,HZ.I.2.2.trans (hkb.mono fun b hb=>LB _ (hsub b hb))⟩
   clear HZ how hkb ht hsub Ji;have HZ:=HY;clear HY;have HN:Hid (VT w base g cap (aJ V9 V0 k (l.take (j+1)) ++ l.drop (j+1)) W6∧m+2+(fb p:Nat)=m+1+1+(aF bj p.L8:Nat)+(aF (fun _=>3) p.aj:Nat)+(aF (fun _=>2) p.L9:Nat)+(aF (fun _=>3) p.ag:Nat)+(aF bN p.ae:Nat)+(aF eo p.ai:Nat)):=by
    rw [WY.I.2,← WM.I.2.1];exact ⟨HS.I.ju (HZ.I.1.vals (WD _ _)) HZ.I.2.1 ((Wi _ _).trans WM.I.2.2) (by rw [← WM.I.2.2]; exact HZ.I.2.2),by unfold fb; omega⟩
   go_wp2;go_roundw
   case rel=>exact ⟨j+1,m+1+1+(aF bj p.L8:Nat)+(aF (fun _=>3) p.aj:Nat)+(aF (fun _=>2) p.L9:Nat)+(aF (fun _=>3) p.ag:Nat)+(aF bN p.ae:Nat)+(aF eo p.ai:Nat),by omega,by go_num,by go_num,by omega,by omega,⟨by rw [← HN.I.2]; exact HX.I.2,HN.I.1⟩⟩
   case measure=>simp [Go.RowKit.intOf]; omega
  ·have i1: ¬ (j:Int) < (l.length:Int):=by omega
   have HE:Hid (VT w base g cap (aJ V9 V0 k l) wr∧m=k+(aF V0 l:Nat)):=by have h5:=HA.I.2; have h6:=HA.I.1; rw [KF (by omega),List.drop_of_length_le (by omega),List.append_nil] at h5; rw [KF (by omega)] at h6; exact ⟨h5,h6⟩
   go_wp2;go_ret;refine ⟨ck HE.I.2,⟨?_,HE.I.1.mine⟩,?_⟩
   ·have h7:=HE.I.1.row.owns; rw [bE] at h7; exact h7
   ·have h7:=HE.I.1.kept; rw [Wc] at h7; exact h7
end
section
open Go.RowKit
theorem cnt_op (l:List dN):aF (fun _:dN=>4) l=l.length * 4:=kr (fun _=>rfl) l
theorem Ee (l:List ByteArray):aF (fun _:ByteArray=>1) l=l.length * 1:=kr (fun _=>rfl) l
theorem A8: ∀ l:List ao,aF bj l≤11 * (l.length+g9 (fun x:ao=>x.prog.length) l)
 | [] =>by simp [aF]
 | x :: r=>by
  have h1:=A8 r;have h2:bj x=2+aF (fun _:dN=>4) x.prog+9:=rfl;have h3:=cnt_op x.prog;simp only [aF,Lg,g9,Lt,List.sum_cons] at h1 ⊢;omega
theorem vG: ∀ l:List au,aF bN l≤11 * (l.length+g9 (fun x:au=>x.Ma.length) l)
 | [] =>by simp [aF]
 | x :: r=>by
  have h1:=vG r;have h2:bN x=2+aF (fun _:ByteArray=>1) x.Ma:=rfl;have h3:=Ee x.Ma;simp only [aF,Lg,g9,Lt,List.sum_cons] at h1 ⊢;omega
theorem BL: ∀ l:List aM,aF eo l≤11 * (l.length+g9 (fun x:aM=>x.Ma.length) l)
 | [] =>by simp [aF]
 | x :: r=>by
  have h1:=BL r;have h2:eo x=4+aF (fun _:ByteArray=>1) x.Ma:=rfl;have h3:=Ee x.Ma;simp only [aF,Lg,g9,Lt,List.sum_cons] at h1 ⊢;omega
theorem Wy (p:af):fb p≤11 * p.pure.total:=by
 rw [af.Bf];unfold fb;have h1:=A8 p.L8;have h2:=vG p.ae;have h3:=BL p.ai;have h4:aF (fun _:bD=>3) p.aj=p.aj.length * 3:=kr (fun _=>rfl) _;have h5:aF (fun _:aB=>2) p.L9=p.L9.length * 2:=kr (fun _=>rfl) _;have h6:aF (fun _:az=>3) p.ag=p.ag.length * 3:=kr (fun _=>rfl) _;omega
theorem Wh {p:af} (h:p.pure.Small):p.WN:=by
 refine ⟨by simpa [af.pure] using h.dl,h.fx,h.cD,h.cC,by simpa [af.pure] using h.cb,by simpa [af.pure] using h.dH,fun x hx=> ?_,fun x hx=> ?_,fun x hx=> ?_⟩
 ·exact (h.L8 x.toaD (Lr.2 ⟨x,hx,rfl⟩)).1.1
 ·exact (h.ae x.toci (Lr.2 ⟨x,hx,rfl⟩)).2.1
 ·exact (h.ai x.todS (Lr.2 ⟨x,hx,rfl⟩)).2.1
theorem Di {α:Type} {N:gd α} {w w':World} {base:Nat} {x:α} (h:N.cO w base x) (hb:Below w.heap.size w w'):N.cO w' base x:=h.same fun g hk=>hb.block g (h.lt hk).2
def Az (p:af) (w W:World):Prop:=W.heap[w.heap.size]? =some (.cells p.cells 68 (0,0))∧Below w.heap.size w W
def o8 (W:World) (X b:Nat) (q:af):Prop:=av W X q∧ap W b q
def rT (W:World) (X b:Nat) (x:ao):Prop:=jx W X x∧aR.cO W b x
section
variable {p q:af} {x:ao} {w W W':World} {X b:Nat} {bs:List Nat}
theorem Az.below (h:Az p w W) (hb:Below W.heap.size W W'):Az p w W':=⟨(hb.block _ (J2.1 h.1).1).trans h.1,h.2.trans (hb.mono h.2.size)⟩
theorem Az.kept (h:Az p w W) (hk:aI W W' bs) (hs: ∀ g∈bs,w.heap.size < g):Az p w W':=⟨(hk.same _ (J2.1 h.1).1 fun hm=>by have:=hs _ hm; omega).trans h.1,h.2.trans (hk.below h.2.size fun g hg=>by have:=hs g hg; omega)⟩
theorem o8.below (h:o8 W X b q) (hb:Below W.heap.size W W'):o8 W' X b q:=⟨h.1.below hb,h.2.below hb⟩
theorem o8.kept (h:o8 W X b q) (hk:aI W W' bs) (hs:X∉bs) (ho: ∀ g∈q.Mc,g∉bs):o8 W' X b q:=⟨(hk.same _ (J2.1 h.1).1 hs).trans h.1,h.2.same fun g hg=>hk.same g (h.2.lt g hg).2 (ho g hg)⟩
theorem rT.below (h:rT W X b x) (hb:Below W.heap.size W W'):rT W' X b x:=⟨h.1.below hb,Di h.2 hb⟩
theorem rT.kept (h:rT W X b x) (hk:aI W W' bs) (hs:X∉bs) (ho: ∀ g∈blk x.aY,g∉bs):rT W' X b x:=⟨(hk.same _ (J2.1 h.1).1 hs).trans h.1,h.2.same fun g hg=>hk.same g (h.2.lt hg).2 (ho g (fZ.2 hg))⟩
theorem av.lt {W:World} {X:Nat} {q:af} (h:av W X q):X < W.heap.size:=(J2.1 h).1
theorem jx.lt {W:World} {X:Nat} {x:ao} (h:jx W X x):X < W.heap.size:=(J2.1 h).1
end
end
section
open Go.RowKit
attribute [local go_sem ↓] Kc Kd
def eA.Mc (k:eA):List Nat:=blk k.vb ++ (blk k.qn ++ (blk k.qi ++ k.parts.flatMap af.Mc))
def V8 (k:eA):Nat:=aF (fun _=>3) k.fn+aF V0 k.parts+aF (fun _=>4) k.eC
def WA (m:Int) (k:eA):eA:= { k with fn:=aJ Wb (fun _=>3) m k.fn,parts:=aJ V9 V0 (m+(aF (fun _=>3) k.fn:Nat)) k.parts,eC:=aJ Wa (fun _=>4) (m+(aF (fun _=>3) k.fn:Nat)+(aF V0 k.parts:Nat)) k.eC }
section
variable {w w':World} {base:Nat} {k:eA}
theorem gp.apart (h:gp w base k):(∀ g∈blk k.vb,g∉blk k.qn∧g∉blk k.qi∧g∉k.parts.flatMap af.Mc)∧(∀ g∈blk k.qn,g∉blk k.qi∧g∉k.parts.flatMap af.Mc)∧ ∀ g∈blk k.qi,g∉k.parts.flatMap af.Mc:=by
 obtain ⟨-,h2,h3⟩:=Kf.1 h.nodup;obtain ⟨-,h5,h6⟩:=Kf.1 h2;obtain ⟨-,-,h9⟩:=Kf.1 h5;exact ⟨fun g hg=>⟨fun hm=>h3 g hg g (Lz _ hm) rfl,fun hm=>h3 g hg g (Ly _ (Lz _ hm)) rfl,fun hm=>h3 g hg g (Ly _ (Ly _ hm)) rfl⟩,fun g hg=>⟨fun hm=>h6 g hg g (Lz _ hm) rfl,fun hm=>h6 g hg g (Ly _ hm) rfl⟩,fun g hg hm=>h9 g hg g hm rfl⟩
theorem gp.Xa {l:List pA} (h:gp w base k) (ho:w'.ownsRow base 100 3 (.slice k.vb k.fn.length k.Te) k.fn.length (jq.flat l)) (hl:l.length=k.fn.length) (hk:aI w w' (blk k.vb)):gp w' base { k with fn:=l } :=by
 obtain ⟨a1,a2,a3⟩:=h.apart;exact ⟨by rw [hl]; exact ho,aL h.parts fun g hg=>hk.same g (cf h.parts hg).2 fun hm=>(a1 g hm).1 hg,aL h.eC fun g hg=>hk.same g (cf h.eC hg).2 fun hm=>(a1 g hm).2.1 hg,fun p hp=>(h.mine p hp).same fun g hg=>hk.same g ((h.mine p hp).lt g hg).2 fun hm=>(a1 g hm).2.2 (Rt.2 ⟨p,hp,hg⟩),h.nodup⟩
theorem gp.WR {l:List af} (h:gp w base k) (ho:w'.ownsRow base 48 8 (.slice k.qn k.parts.length k.sa) k.parts.length (kp.flat l)) (hl:l.length=k.parts.length) (hm: ∀ q∈l,ap w' base q) (hb:l.flatMap af.Mc=k.parts.flatMap af.Mc) (hk:aI w w' (blk k.qn ++ k.parts.flatMap af.Mc)):gp w' base { k with parts:=l } :=by
 obtain ⟨a1,a2,a3⟩:=h.apart;exact ⟨aL h.fn fun g hg=>hk.same g (cf h.fn hg).2 fun hm=>(Kg.1 hm).elim (a1 g hg).1 (a1 g hg).2.2,by rw [hl]; exact ho,aL h.eC fun g hg=>hk.same g (cf h.eC hg).2 fun hm=>(Kg.1 hm).elim (fun hm=>(a2 g hm).1 hg) (a3 g hg),hm,by have:=h.nodup; rw [← hb] at this; exact this⟩
theorem gp.WV {l:List eQ} (h:gp w base k) (ho:w'.ownsRow base 80 4 (.slice k.qi k.eC.length k.tC) k.eC.length (hM.flat l)) (hl:l.length=k.eC.length) (hk:aI w w' (blk k.qi)):gp w' base { k with eC:=l } :=by
 obtain ⟨a1,a2,a3⟩:=h.apart;exact ⟨aL h.fn fun g hg=>hk.same g (cf h.fn hg).2 fun hm=>(a1 g hg).2.1 hm,aL h.parts fun g hg=>hk.same g (cf h.parts hg).2 fun hm=>(a2 g hg).1 hm,by rw [hl]; exact ho,fun p hp=>(h.mine p hp).same fun g hg=>hk.same g ((h.mine p hp).lt g hg).2 fun hm=>a3 g hm (Rt.2 ⟨p,hp,hg⟩),h.nodup⟩
theorem gp.lt (h:gp w base k) {g:Nat} (hg:g∈k.Mc):base≤g∧g < w.heap.size:=by
 unfold eA.Mc at hg;simp only [Kg] at hg;rcases hg with hg | hg | hg | hg
 ·exact cf h.fn hg
 ·exact cf h.parts hg
 ·exact cf h.eC hg
 ·obtain ⟨p,hp,l9⟩:=Rt.1 hg
  exact (h.mine p hp).lt g l9
end
theorem WB (major:Int) (a:Option Addr) (l:List pA) (cap:Nat) (k:Int) (w:World) (base:Nat) (hl:l.length≤1048576) (h0:1≤k) (h1:k+(aF (fun _=>3) l:Nat)≤90000000) (ho:w.ownsRow base 100 3 (.slice a l.length cap) l.length (jq.flat l)):
  Calls J3 54 #[.agg #[.int .i64 major,.slice a l.length cap],.int .i64 k] w fun e w'=>e= .returned (.int .i64 (k+(aF (fun _=>3) l:Nat)))∧w'.ownsRow base 100 3 (.slice a l.length cap) l.length (jq.flat (aJ Wb (fun _=>3) k l))∧aI w w' (blk a):=by
 have hz:Below w.heap.size w (w.alloc (.cells #[.int .i64 major,.slice a l.length cap] 33)):=(Kp _ _).alloc (Ki _) _;have Mb:=WE a l cap k (w.alloc (.cells #[.int .i64 major,.slice a l.length cap] 33)) base hl h0 h1 (cR ho hz);have HZ:=aA hz;clear ho hz
 go_enter Tryz.func54,Tryz.ntmps54
 go_wp2_with fail;refine Mb.mono ?_;clear Mb;rintro e W1 ⟨rfl,how,hkb⟩;have HY:=aA (And.intro how ((aI.dI HZ.I (bs:=blk a)).trans hkb));clear how hkb;go_wp2;go_ret;exact ⟨rfl,HY.I⟩
structure eA.WN (k:eA):Prop where
 Ts:k.fn.length≤1048576
 sC:k.parts.length≤1048576
 w8:k.eC.length≤1048576
 parts: ∀ p∈k.parts,p.WN
theorem Wv (k:eA) (m:Int) (w:World) (base:Nat) (hc:k.WN) (h0:1≤m) (h1:m+(V8 k:Nat)≤90000000) (ho:gp w base k):
  Calls J3 16 #[.agg k.row,.int .i64 m] w fun e w'=>e= .returned (.int .i64 (m+(V8 k:Nat)))∧gp w' base (WA m k)∧aI w w' k.Mc:=by
 have hz:Below w.heap.size w (w.alloc (.cells k.row 37)):=(Kp _ _).alloc (Ki _) _;have HK:Hid (Tk (w.alloc (.cells k.row 37)) w.heap.size k∧gp (w.alloc (.cells k.row 37)) base k∧aI w (w.alloc (.cells k.row 37)) k.Mc):=⟨Kj _ _,ho.below hz,aI.dI hz⟩
 have HC:=aA hc;have HN:Hid (w.heap.size∉k.Mc):=fun hm=>by have:=(ho.lt hm).2; omega
 have q0:m+(aF (fun _:pA=>3) k.fn:Nat)≤90000000:=by unfold V8 at h1; omega
 have q1:m+(aF (fun _:pA=>3) k.fn:Nat)+(aF V0 k.parts:Nat)≤90000000:=by unfold V8 at h1; omega
 have q2:m+(aF (fun _:pA=>3) k.fn:Nat)+(aF V0 k.parts:Nat)+(aF (fun _:eQ=>4) k.eC:Nat)≤90000000:=by unfold V8 at h1; omega
 clear hc ho hz h1
 go_enter Tryz.func16,Tryz.ntmps16
 go_upto_region 1 with fail;generalize w.alloc (.cells k.row 37)=W0 at *;obtain ⟨m0,m1,m2,m3,m4⟩:=HK.I.1.cells;have Mb:=WB k.major k.vb k.fn k.Te m W0 base HC.I.Ts h0 q0 HK.I.2.1.fn;go_wp2_with fail;clear m0 m1 m2 m3 m4;refine Mb.mono ?_;clear Mb;rintro e W1 ⟨rfl,how,hkb⟩;have hsub: ∀ g∈blk k.vb,g∈k.Mc:=fun g hg=>Lz _ hg
 replace HK:Hid (Tk W1 w.heap.size k∧gp W1 base { k with fn:=aJ Wb (fun _=>3) m k.fn } ∧aI w W1 k.Mc):=⟨(hkb.same _ (J2.1 HK.I.1).1 fun hm=>HN.I (hsub _ hm)).trans HK.I.1,HK.I.2.1.Xa how (bE _ _ _ _) hkb,HK.I.2.2.trans (hkb.mono hsub)⟩
 clear how hkb hsub;obtain ⟨m0,m1,m2,m3,m4⟩:=HK.I.1.cells;have Mb:=Wz k.qn k.parts k.sa (m+(aF (fun _:pA=>3) k.fn:Nat)) W1 base HC.I.sC HC.I.parts (by omega) q1 HK.I.2.1.parts HK.I.2.1.mine (by
  obtain ⟨-,h2,-⟩:=Kf.1 HK.I.2.1.nodup;obtain ⟨h4,h5,h6⟩:=Kf.1 h2;obtain ⟨-,h8,-⟩:=Kf.1 h5;exact Kf.2 ⟨h4,h8,fun x hx y hy=>h6 x hx y (Ly _ hy)⟩)
 go_wp2_with fail;clear m0 m1 m2 m3 m4;refine Mb.mono ?_;clear Mb;rintro e W2 ⟨rfl,how,hkb⟩;have hsub: ∀ g∈blk k.qn ++ k.parts.flatMap af.Mc,g∈k.Mc:=fun g hg=>by
  rcases Kg.1 hg with hg | hg
  ·exact Ly _ (Lz _ hg)
  ·exact Ly _ (Ly _ (Ly _ hg))
 replace HK:Hid (Tk W2 w.heap.size k∧gp W2 base { k with fn:=aJ Wb (fun _=>3) m k.fn,parts:=aJ V9 V0 (m+(aF (fun _=>3) k.fn:Nat)) k.parts } ∧aI w W2 k.Mc):=⟨(hkb.same _ (J2.1 HK.I.1).1 fun hm=>HN.I (hsub _ hm)).trans HK.I.1,HK.I.2.1.WR how.1 (bE _ _ _ _) how.2 (Wc _ _) hkb,HK.I.2.2.trans (hkb.mono hsub)⟩
 clear how hkb hsub;obtain ⟨m0,m1,m2,m3,m4⟩:=HK.I.1.cells;have Mb:=WC k.qi k.eC k.tC (m+(aF (fun _:pA=>3) k.fn:Nat)+(aF V0 k.parts:Nat)) W2 base HC.I.w8 (by omega) q2 HK.I.2.1.eC;go_wp2_with fail;clear m0 m1 m2 m3 m4;refine Mb.mono ?_;clear Mb;rintro e W3 ⟨rfl,how,hkb⟩;have hsub: ∀ g∈blk k.qi,g∈k.Mc:=fun g hg=>Ly _ (Ly _ (Lz _ hg))
 replace HK:Hid (gp W3 base (WA m k)∧aI w W3 k.Mc):=⟨HK.I.2.1.WV how (bE _ _ _ _) hkb,HK.I.2.2.trans (hkb.mono hsub)⟩
 clear how hkb hsub;go_wp2;go_ret;exact ⟨ck (by unfold V8; omega),HK.I⟩
def Wj (W:World) (X b:Nat) (k:eA):Prop:=Tk W X k∧gp W b k
section
variable {p q:af} {k:eA} {w W U V:World} {B X b:Nat} {bs:List Nat}
theorem Wj.below (h:Wj U X b k) (hb:Below U.heap.size U V):Wj V X b k:=⟨(hb.block _ (J2.1 h.1).1).trans h.1,h.2.below hb⟩
theorem dg.kept (h:dg w k U) (hk:aI U V bs) (hs: ∀ g∈bs,w.heap.size < g):dg w k V:=⟨(hk.same _ (J2.1 h.src).1 fun hm=>by have:=hs _ hm; omega).trans h.src,h.cd.trans (hk.below h.cd.size fun g hg=>by have:=hs g hg; omega)⟩
theorem WI (h:Hid (dg w k U)) (hb:Below U.heap.size U V):Hid (dg w k V):=h.I.below hb
theorem upK (h:Hid (Wj U X b k)) (hb:Below U.heap.size U V):Hid (Wj V X b k):=h.I.below hb
end
def kd.total (k:kd):Nat:=k.fn.length+(k.parts.length+g9 aE.total k.parts)+k.eC.length
theorem WQ (k:eA):k.fn.length+(k.parts.length+g9 (fun x:af=>x.pure.total) k.parts)+k.eC.length=k.pure.total:=by
 simp [kd.total,eA.pure,g9,List.map_map,Ls]
theorem Wu: ∀ l:List af,aF V0 l≤11 * (l.length+g9 (fun x:af=>x.pure.total) l)
 | [] =>by simp [aF]
 | x :: r=>by
  have h1:=Wu r;have h2:V0 x=2+fb x:=rfl;have h3:=Wy x;simp only [aF,Lg,g9,Lt,List.sum_cons] at h1 ⊢;omega
theorem WH (k:eA):V8 k≤11 * k.pure.total:=by
 rw [← WQ];unfold V8;have h1:=Wu k.parts;have h2:aF (fun _:pA=>3) k.fn=k.fn.length * 3:=kr (fun _=>rfl) _;have h3:aF (fun _:eQ=>4) k.eC=k.eC.length * 4:=kr (fun _=>rfl) _;omega
theorem WK {k:eA} (h:k.pure.Small):k.WN:=⟨h.Ts,by simpa [eA.pure] using h.sC,h.w8,fun p hp=>Wh (pC h hp)⟩
def Xt (W:World) (b:Nat) (a:Option Addr) (c:Nat) (l:List Int):Prop:=W.ownsRow b 2 1 (.slice a l.length c) l.length (Xn l)
section
variable {U V:World} {b c:Nat} {a:Option Addr} {l:List Int} {bs:List Nat}
theorem X6 (h:Hid (Xt U b a c l)) (hb:Below U.heap.size U V):Hid (Xt V b a c l):=cR h.I hb
theorem Xt.kept (h:Xt U b a c l) (hk:aI U V bs) (ho: ∀ g∈blk a,g∉bs):Xt V b a c l:=aL h fun g hg=>hk.same g (cf h hg).2 (ho g hg)
theorem Yl {K:Kind Int} (h:Hid (K.bU U a l)) (hb:Below U.heap.size U V):Hid (K.bU V a l):=h.I.below hb
end
theorem XG {w W:World} {k:kd} {part:Int} {e:Ending} {l:List Int} (h:XW w k part e W) (hv:Xr k part l): ∃ (a:Option Addr) (c:Nat),e= .returned (.slice a l.length c)∧Xt W w.heap.size a c l∧Below w.heap.size w W:=by
 obtain ⟨m,a,c,he,ho,hm,hb⟩:=h;have e2:=Yf hm hv;subst e2;exact ⟨a,c,he,ho,hb⟩
theorem XN (k:eA) (id:Int) (w:World) (hb:k.Ud) (hc:k.ep w) (hi:k.Ints) (hid:(Lit.int .i64 id).wf=true):
  Calls J3 6 #[.agg k.row,.int .i64 id] w fun e w'=>e= .returned (.bool true)∧Below w.heap.size w w':=by
 have S:Hid (dg w k (w.alloc (.cells k.row 28))):=⟨Kj _ _,(Kp _ _).alloc (Ki _) _⟩
 have HB:=aA (And.intro hb hi);have HC:=aA hc;have HI:=aA hid;clear hb hc hi hid
 go_enter Tryz.func6,Tryz.ntmps6
 go_upto_region 2 with fail;generalize w.alloc (.cells k.row 28)=W0 at *;obtain ⟨m0,m1,m2,m3,m4⟩:=S.I.cells;go_wp2_with fail;clear m0 m1 m2 m3 m4;refine (Um k 1048576 W0 HB.I.1 (HC.I.below S.I.cd) (by omega) (by omega)).mono ?_;rintro e W1 ⟨r,rfl,r0,r1,hr,hb⟩;replace S:=WI S hb;clear hb;by_cases hneg:r < 0
 ·go_wp2
  go_ret;exact ⟨rfl,S.I.cd⟩
 have WX:Hid (k.yq∧k.pure.Small∧k.pure.total≤1048576):=⟨(hr (by omega)).1,Uy (hr (by omega)).1 HB.I.2,by have h5:=(hr (by omega)).2; rw [WQ] at h5; omega⟩
 clear hr;obtain ⟨m0,m1,m2,m3,m4⟩:=S.I.cells;go_wp2_with fail;clear m0 m1 m2 m3 m4;refine (xb k W1 WX.I.1 (HC.I.below S.I.cd)).mono ?_;rintro e W2 ⟨k2,gk2,rfl,ho,hp,hg,hb⟩;have HQ:Hid (gp W2 W1.heap.size k2∧k2.pure=k.pure∧k2.pure.Small∧(k2.vb=some ⟨gk2,0,none⟩∧gk2 < W2.heap.size)):=⟨ho,hp,by rw [hp]; exact WX.I.2.1,hg⟩
 replace S:=WI S hb;clear ho hp hg hb;go_wp2_with fail;refine (XI k2 id gk2 W2 (Ug HQ.I.2.2.1) HQ.I.2.2.2 HQ.I.1.at).mono ?_;rintro e W3 hE;rw [HQ.I.2.1] at hE;obtain ⟨l,a3,c3,rfl,ho,hv,hb⟩:=hE;have H3:Hid (Xt W3 W2.heap.size a3 c3 l):=ho;have HV:=aA hv;have HL:Hid (l.length≤6):=X8 hv;have HR:Hid (∀ g∈blk a3,w.heap.size < g∧g < W3.heap.size):=fun g hg=>by
  have h5:=(J2.1 S.I.src).1
  have:=cf ho hg
  omega
 replace S:=WI S hb;clear ho hv hb HQ;obtain ⟨m0,m1,m2,m3,m4⟩:=S.I.cells;go_wp2_with fail;clear m0 m1 m2 m3 m4;refine (xb k W3 WX.I.1 (HC.I.below S.I.cd)).mono ?_;rintro e V4 ⟨k4,g4,rfl,ho,hp,hg,hb⟩;have hb2:Below W3.heap.size W3 (V4.alloc (.cells k4.row 37)):=hb.alloc hb.size _;have H4:Hid (Wj (V4.alloc (.cells k4.row 37)) V4.heap.size W3.heap.size k4):=⟨Kj _ _,ho.below ((Kp _ _).alloc (Ki _) _)⟩
 have HX4:Hid (W3.heap.size≤V4.heap.size):=hb.size;have I2:Hid (k4.pure=k.pure∧k4.pure.Small∧(∀ g∈k4.Mc,W3.heap.size≤g∧g < V4.heap.size)∧w.heap.size < W3.heap.size∧(k4.vb=some ⟨g4,0,none⟩∧g4 < (V4.alloc (.cells k4.row 37)).heap.size)):=⟨hp,by rw [hp]; exact WX.I.2.1,fun g bR=>by have:=ho.lt bR; omega,by have h5:=(J2.1 S.I.src).1; exact h5,hg.1,by have h5:Below V4.heap.size V4 (V4.alloc (.cells k4.row 37)):=(Kp _ _).alloc (Ki _) _; have:=h5.size; omega⟩
 replace S:=WI S hb2;replace H3:=X6 H3 hb2;clear ho hp hg;go_upto_region 7 with fail;generalize V4.alloc (.cells k4.row 37)=W4 at *;have hxl4:=(J2.1 H4.I.1).1;generalize V4.heap.size=X4 at *;clear hb2 hb;obtain ⟨b0,b1,b2,b3,b4⟩:=H4.I.1.cells;go_wp2_with fail;clear b0 b1 b2 b3 b4;refine (Xw k4 id g4 W3.heap.size W4 HI.I I2.I.2.1 H4.I.2 I2.I.2.2.2.2).mono ?_;rintro e W5 hE;rw [I2.I.1] at hE;obtain ⟨a5,c5,rfl,ho,hb⟩:=XG hE HV.I;have H5:Hid (Xt W5 W4.heap.size a5 c5 l):=ho;have HP5:Hid (∀ g∈blk a5,X4 < g):=fun g hg=>by have:=cf ho hg; omega
 replace S:=WI S hb;replace H3:=X6 H3 hb;replace H4:=upK H4 hb;clear ho hb hE hxl4;go_wp2_with fail;refine (XP a5 a3 l c5 c3 W5 (by have:=HL.I; omega) (nP H5.I) (nP H3.I)).mono ?_;rintro e W6 ⟨rfl,hb⟩;replace S:=WI S hb;replace H3:=X6 H3 hb;replace H4:=upK H4 hb;replace H5:=X6 H5 hb;clear hb;go_upto_region 10 with fail;refine wp_region_held_drew (S:=fun W=>Tk W X4 k4∧dg w k W) (by kernel_rfl) ⟨H4.I.1,S.I.below (Kp _ _).drew⟩ (fun _=> ?_);have pI:Below W6.heap.size W6 W6.drew:=(Kp _ _).drew;replace S:=WI S pI;replace H3:=X6 H3 pI;replace H4:=upK H4 pI;replace H5:=X6 H5 pI;clear pI;generalize World.drew _=V at *;refine tt 0 ⟨H4.I.1,S.I⟩ ?_ (hy:=fun w0 hS0=>by obtain ⟨q0,q1,q2,q3,q4⟩:=hS0.1.cells; go_simp; try with_reducible rfl);refine tt 1 ⟨H4.I.1,S.I⟩ ?_ (hy:=fun w0 hS0=>by obtain ⟨q0,q1,q2,q3,q4⟩:=hS0.2.cells; go_simp; try with_reducible rfl);refine L7 2 (fun K hK=> ?_);go_wp2_with fail;refine (xb k V WX.I.1 (HC.I.below S.I.cd)).mono ?_;rintro e W7 ⟨k7,g7,rfl,ho,hp,-,hb⟩;replace S:=WI S hb;replace H3:=X6 H3 hb;replace H4:=upK H4 hb;replace H5:=X6 H5 hb;have Mb:=Uj k4 k7 W7 I2.I.2.1.Ts (by have:=I2.I.2.1.sC; simpa [eA.pure] using this) I2.I.2.1.w8 (fun x hx=>pC I2.I.2.1 hx) (hp.trans I2.I.1.symm) H4.I.2.at ho.at;clear ho hp hb;refine hK.out _ _ ⟨H4.I.1,S.I⟩ (fun _=> ?_);clear hK K
 try simp only [pt,sb,s0,s1]
 refine L7 3 (fun K hK=> ?_);go_wp2_with fail;refine Mb.mono ?_;clear Mb;rintro e W8 ⟨rfl,hb⟩;replace S:=WI S hb;replace H3:=X6 H3 hb;replace H4:=upK H4 hb;replace H5:=X6 H5 hb;clear hb;refine hK.out _ _ ⟨H4.I.1,S.I⟩ (fun _=> ?_);clear hK K
 try simp only [pt,sb,s0,s1]
 refine tt 4 ⟨H4.I.1,S.I⟩ ?_;refine wpAnyH_done (by kernel_rfl) ?_ _;have uE:Hid (1+(V8 k4:Nat)≤(90000000:Int)):=by have h5:=WH k4; rw [I2.I.1] at h5; have h6:=WX.I.2.2; show (1:Int)+_≤_; omega
 obtain ⟨b0,b1,b2,b3,b4⟩:=H4.I.1.cells;go_wp2_with fail;clear b0 b1 b2 b3 b4;refine (Wv k4 1 W8 W3.heap.size (WK I2.I.2.1) (by omega) uE.I H4.I.2).mono ?_;rintro e VR ⟨rfl,-,hkb⟩;have hr3:=HR.I;have hr4:=I2.I.2.2;have WU:=HP5.I;replace S:Hid (dg w k VR):=S.I.kept hkb fun g hm=>by have:=hr4.1 g hm; omega
 replace H3:Hid (Xt VR W2.heap.size a3 c3 l):=H3.I.kept hkb fun g hg hm=>by have:=hr4.1 g hm; have:=hr3 g hg; omega
 replace H5:Hid (Xt VR W4.heap.size a5 c5 l):=H5.I.kept hkb fun g hg hm=>by have:=hr4.1 g hm; have:=WU g hg; omega
 clear H4 hkb hr3 hr4 WU;have nn:decide ((1:Int)+(V8 k4:Nat) < 0)=false:=decide_eq_false (by omega);go_wp2_with fail;clear nn;refine (XP a5 a3 l c5 c3 VR (by have:=HL.I; omega) (nP H5.I) (nP H3.I)).mono ?_;rintro e W10 ⟨rfl,hb⟩;replace S:=WI S hb;replace H3:=X6 H3 hb;replace H5:=X6 H5 hb;clear hb;have HCR:Hid (1+(aF (fun _:Int=>1) l:Nat)≤(90000000:Int)):=by have h5:aF (fun _:Int=>1) l=l.length * 1:=kr (fun _=>rfl) l; have h6:=HL.I; show (1:Int)+_≤_; omega
 go_wp2_with fail;refine (Yd a5 l c5 1 W10 W4.heap.size (by have:=HL.I; omega) (by omega) HCR.I (by rw [Yq]; exact H5.I)).mono ?_;rintro e Yt ⟨rfl,hmk,hkb⟩;have hr3:=HR.I;have hr4:=I2.I.2.2;have WU:=HP5.I;have hx4:W3.heap.size≤X4:=HX4.I;replace S:Hid (dg w k Yt):=S.I.kept hkb fun g hm=>by have:=WU g hm; omega
 replace H3:Hid (Xt Yt W2.heap.size a3 c3 l):=H3.I.kept hkb fun g hg hm=>by have:=WU g hm; have:=hr3 g hg; omega
 have HM:Hid (Xz.bU Yt a5 (aJ Xx (fun _=>1) 1 l)):=⟨nP hmk,fun x _ r hr=>by simp [Xz] at hr⟩
 clear H5 hkb hmk hr3 hr4 WU hx4;go_wp2_with fail;refine (XR a5 l c5 1 Yt (by have:=HL.I; omega) (by omega) HCR.I HM.I).mono ?_;rintro e W12 ⟨rfl,hb⟩;replace S:=WI S hb;replace H3:=X6 H3 hb;replace HM:=Yl HM hb;clear hb;have nq: ¬ (1:Int)+(aF (fun _:Int=>1) l:Nat) < 0:=by omega
 have nd:((1:Int)+(aF (fun _:Int=>1) l:Nat) != 1+(aF (fun _:Int=>1) l:Nat))=false:=by simp
 obtain ⟨m0,m1,m2,m3,m4⟩:=S.I.cells;go_wp2_with fail;clear m0 m1 m2 m3 m4;refine (xb k W12 WX.I.1 (HC.I.below S.I.cd)).mono ?_;rintro e W13 ⟨k13,gk13,rfl,ho,hp,hg,hb⟩;have HQ:Hid (gp W13 W12.heap.size k13∧k13.pure=k.pure∧k13.pure.Small∧(k13.vb=some ⟨gk13,0,none⟩∧gk13 < W13.heap.size)):=⟨ho,hp,by rw [hp]; exact WX.I.2.1,hg⟩
 replace S:=WI S hb;replace H3:=X6 H3 hb;replace HM:=Yl HM hb;clear ho hp hg hb;go_wp2_with fail;refine (Xw k13 id gk13 W12.heap.size W13 HI.I HQ.I.2.2.1 HQ.I.1 HQ.I.2.2.2).mono ?_;rintro e W14 hE;rw [HQ.I.2.1] at hE;obtain ⟨a14,c14,rfl,ho,hb⟩:=XG hE HV.I;have H14:Hid (Xt W14 W13.heap.size a14 c14 l):=ho;replace S:=WI S hb;replace H3:=X6 H3 hb;replace HM:=Yl HM hb;clear ho hb hE HQ;go_wp2_with fail;refine (XP a14 a3 l c14 c3 W14 (by have:=HL.I; omega) (nP H14.I) (nP H3.I)).mono ?_;rintro e W15 ⟨rfl,hb⟩;replace S:=WI S hb;replace H3:=X6 H3 hb;replace HM:=Yl HM hb;clear hb;go_wp2_with fail;refine (XR a5 l c5 1 W15 (by have:=HL.I; omega) (by omega) HCR.I HM.I).mono ?_;rintro e W16 ⟨rfl,hb⟩;replace S:=WI S hb;replace H3:=X6 H3 hb;replace HM:=Yl HM hb;clear hb;go_wp2;go_ret;exact ⟨rfl,S.I.cd⟩
end
end Go.Proofs.YteidkehoekbcaaaGreat
