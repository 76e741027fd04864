/- What the proof leans on, part 9. -/
import Derived.Test.YteidkehoekbcaaaGreatOwnC8
set_option maxRecDepth 100000
set_option maxHeartbeats 8000000
open Array renaming getElem?_eq_some_iff->J2,length_toList->aen
open Bool renaming and_eq_true->J7
open Function renaming comp_def->Ls
open Go renaming heap_alloc2_new->Kq,heap_alloc_new->Kj,heap_setCell_same->K7,setRow_heap->KU,setRow_other->KH,wpAnyH_done->K3,wpAnyH_ready->KW,wp_at_succ->Kd,wp_at_zero->Kc,wp_region_held_drew->Kr
open Go.AllReadyH renaming cons->KX,nil->KY
open Go.Calls renaming mono->adn
open Go.Deep renaming blk_setCell_other->ac5
open Go.Proofs.Tryz renaming prog->J3
open Go.RowKit.Below renaming heap_alloc->adD,refl->Kp
open Go.World renaming cell?_of_block->J1
open List renaming getElem?_eq_getElem->Kz,getElem?_eq_some_iff->Lj,getElem_cons_succ->K1,getElem_cons_zero->K0,getElem_toArray->KZ,length_map->KG,map_append->Kl,map_map->Lv,map_singleton->adl,mem_append->Kg,mem_append_left->Lz,mem_append_right->Ly,mem_cons->Kt,mem_filterMap->Lq,mem_flatMap->Rt,mem_map->Lr,mem_of_getElem?->KA,nodup_append->Kf,not_mem_nil->Ku,take_append_drop->Qn,take_length->LQ
open Nat renaming le_refl->Ki,zero_le->Ky
open Option renaming map_some->J9
open Option.some renaming injEq->LF

namespace Go.Proofs.YteidkehoekbcaaaGreat
section
open Go.RowKit Go.Maps
attribute [local go_sem ↓] Kc Kd
theorem xX {z:Int} (h:cv z 1 1000=true):(Lit.int .i64 z).wf=true:=by
 have h2:=bz.1 h;have e1:IntKind.min .i64≤0:=by decide
 have e2:100000≤IntKind.max .i64:=by decide
 simp only [Lit.wf,J7,decide_eq_true_eq];omega
theorem iB {S:aZ} (h:aQ S.pure):S.Fits:=by
 refine ⟨?_,?_,?_,?_,?_,?_,?_,?_,?_,?_,?_,?_⟩
 ·have h5:=h.dl
  have h6:S.pure.L8.length=S.lp.length:=by simp [aZ.pure]
  omega
 ·intro p hp
  obtain ⟨r,hr,rfl⟩:=Lr.1 hp;exact xX (cK h.L8 (r.1.toaD) (Lr.2 ⟨r,hr,rfl⟩)).1
 ·have h5:=h.fx
  have h6:S.pure.aj.length=S.ls.length:=by simp [aZ.pure]
  omega
 ·intro p hp
  obtain ⟨r,hr,rfl⟩:=Lr.1 hp;exact xX (cK h.aj (r.1) (Lr.2 ⟨r,hr,rfl⟩)).1
 ·have h5:=h.cD
  have h6:S.pure.L9.length=S.le.length:=by simp [aZ.pure]
  omega
 ·intro p hp
  obtain ⟨r,hr,rfl⟩:=Lr.1 hp;exact xX (cK h.L9 (r.1) (Lr.2 ⟨r,hr,rfl⟩)).1
 ·have h5:=h.cC
  have h6:S.pure.ag.length=S.lb.length:=by simp [aZ.pure]
  omega
 ·intro p hp
  obtain ⟨r,hr,rfl⟩:=Lr.1 hp;exact xX (cK h.ag (r.1) (Lr.2 ⟨r,hr,rfl⟩)).1
 ·have h5:=h.cb
  have h6:S.pure.ae.length=S.lf.length:=by simp [aZ.pure]
  omega
 ·intro p hp
  obtain ⟨r,hr,rfl⟩:=Lr.1 hp;exact xX (cK h.ae (r.1.toci) (Lr.2 ⟨r,hr,rfl⟩)).1
 ·have h5:=h.dH
  have h6:S.pure.ai.length=S.lq.length:=by simp [aZ.pure]
  omega
 ·intro p hp
  obtain ⟨r,hr,rfl⟩:=Lr.1 hp;exact xX (cK h.ai (r.1.todS) (Lr.2 ⟨r,hr,rfl⟩)).1
end
section
open Go.RowKit Go.Maps
theorem aa8:(Tryz.prog.info? 80).map (fun i=>(i.zero,i.size,i.bytes))=some (some (.agg #[.int .i64 0,.int .i64 0,.int .i64 0,.int .i64 0]),4,32):=by kernel_rfl
structure aaI (w W4:World) (X:Nat) (k:kd) (aw:Option Addr) (Y3:Nat) (pv:Value) (ls:List gi) (n:Nat) (ac:Option Addr) (cc:Nat) (W:World):Prop where
 box:W.heap[X]? =some (.cells (Zq k aw Y3 pv (.slice ac n cc)) 37 (0,0))
 own:W.ownsRow W4.heap.size 80 4 (.slice ac n cc) n (hM.flat ((ls.take n).map (·.c)))
 same: ∀ g,g < W4.heap.size→g≠X→W.heap[g]? =W4.heap[g]?
 cd:Below w.heap.size w W
 size:W4.heap.size≤W.heap.size
theorem aaI.step {w W4 W W5:World} {X n Y3 cc:Nat} {k:kd} {aw ac:Option Addr} {pv:Value} {ls:List gi} {m:gi} (h:aaI w W4 X k aw Y3 pv ls n ac cc W) (hm:ls[n]? =some m) (hX:w.heap.size≤X∧X < W4.heap.size) (hn:ls.length≤10) (hb:Below W.heap.size W W5):
  ∃ a' cap' w',(Builtin.append_ #[35,35] 35 #[.slice ac n cc,.slice (some ⟨W5.heap.size,0,none⟩) 1 1]).run J3 (W5.alloc (.cells (nx m.c) 80))= .ok (.slice a' (n+1) cap') w'∧w'.heap[X]? =some (.cells (Zq k aw Y3 pv (.slice ac n cc)) 37 (0,0))∧aaI w W4 X k aw Y3 pv ls (n+1) a' cap' (w'.setCell ⟨X,4,none⟩ (.slice a' (n+1) cap')):=by
 have hlt:n < ls.length:=(Lj.1 hm).1;have hsz:=h.size;have aaX:=hb.size;have hlow: ∀ g∈blk ac,W4.heap.size≤g:=fun g hg=>(cf h.own hg).1
 obtain ⟨a',cap',w',h1,h2,h3,h4⟩:=aad Tryz.underlying35 aa8 rfl (by decide) (by decide) (nx m.c) rfl (fun u hu=>by
  simp only [Kt,Ku,or_false] at hu;rcases hu with rfl | rfl | rfl | rfl <;> rfl) (cR h.own hb) (by omega) (by omega)
 have hw':=h3.size;have lY:Below w.heap.size w w':=(h.cd.trans (hb.mono h.cd.size)).trans (h3.below (by have:=h.cd.size; omega) fun g hg=>by have:=hlow g hg; omega);have hsame: ∀ g,g < W4.heap.size→w'.heap[g]? =W.heap[g]? :=fun g hg=>(h3.same g (by omega) fun hm=>by have:=hlow g hm; omega).trans (hb.block g (by omega))
 have lD:=(hsame X (by omega)).trans h.box;refine ⟨a',cap',w',h1,lD,K7 _ _ _ _ _ _ lD,?_,fun g hg hx=>(ac5 _ _ _ _ hx).trans ((hsame g hg).trans (h.same g hg hx)),lY.setCell hX.1 _,?_⟩
 ·have e:hM.flat ((ls.take (n+1)).map (·.c))=hM.flat ((ls.take n).map (·.c)) ++ (nx m.c).toList:=by
   rw [cj hm,Kl,hM.dc];simp [Kind.flat,hM,Vg]
  rw [e];exact aL h2 fun g hg=>ac5 _ _ _ _ (by have:=(cf h2 hg).1; show g≠X; omega)
 ·simp [World.setCell]; omega
end
section
open Go.RowKit
attribute [local go_sem ↓] Kc Kd
def Wj (W:World) (X b:Nat) (k:eA):Prop:=Tk W X k∧gp W b k
section
variable {p q:af} {k:eA} {w W U V:World} {B X b:Nat} {bs:List Nat}
theorem Wj.below (h:Wj U X b k) (hb:Below U.heap.size U V):Wj V X b k:=⟨(hb.block _ (J2.1 h.1).1).trans h.1,h.2.below hb⟩
theorem dg.kept (h:dg w k U) (hk:aI U V bs) (hs: ∀ g∈bs,w.heap.size < g):dg w k V:=⟨(hk.same _ (J2.1 h.src).1 fun hm=>by have:=hs _ hm; omega).trans h.src,h.cd.trans (hk.below h.cd.size fun g hg=>by have:=hs g hg; omega)⟩
theorem WI (h:Hid (dg w k U)) (hb:Below U.heap.size U V):Hid (dg w k V):=h.I.below hb
theorem ZD (h:Hid (Wj U X b k)) (hb:Below U.heap.size U V):Hid (Wj V X b k):=h.I.below hb
end
def kd.total (k:kd):Nat:=k.fn.length+(k.parts.length+g9 aE.total k.parts)+k.eC.length
theorem WQ (k:eA):k.fn.length+(k.parts.length+g9 (fun x:af=>x.pure.total) k.parts)+k.eC.length=k.pure.total:=by
 simp [kd.total,eA.pure,g9,Lv,Ls]
theorem Wu: ∀ l:List af,aF V0 l≤11 * (l.length+g9 (fun x:af=>x.pure.total) l)
 | [] =>by simp [aF]
 | x :: r=>by
  have h1:=Wu r;have h2:V0 x=2+fb x:=rfl;have h3:=Wy x;simp only [aF,List.length_cons,g9,List.map_cons,List.sum_cons] at h1 ⊢;omega
theorem WH (k:eA):V8 k≤11 * k.pure.total:=by
 rw [← WQ];unfold V8;have h1:=Wu k.parts;have h2:aF (fun _:pA=>3) k.fn=k.fn.length * 3:=kr (fun _=>rfl) _;have h3:aF (fun _:eQ=>4) k.eC=k.eC.length * 4:=kr (fun _=>rfl) _;omega
theorem WK {k:eA} (h:k.pure.Small):k.WN:=⟨h.Ts,by simpa [eA.pure] using h.sC,h.w8,fun p hp=>Wh (pC h hp)⟩
theorem aal (a:Option Addr) (l:List af) (cap:Nat) (k:Int) (w:World) (hl:l.length≤1048576) (hc: ∀ p∈l,p.WN) (h0:1≤k) (h1:k+(aF V0 l:Nat)≤90000000) (hr:kp.bU w a (aJ V9 V0 k l)):
  Calls J3 74 #[.slice a l.length cap,.int .i64 k] w fun e w'=>e= .returned (.int .i64 (k+(aF V0 l:Nat)))∧Below w.heap.size w w':=by
 have HR:Hid (kp.bU w a (aJ V9 V0 k l)∧k+(aF V0 l:Nat)≤90000000∧ ∀ p∈l,p.WN):=⟨hr,h1,hc⟩
 clear hr h1 hc
 go_enter Tryz.func74,Tryz.ntmps74
 go_wp2_with fail
 go_loopw [1,5] (fun q i wr=> ∃ (j:Nat) (m:Int),j≤l.length∧i= .int .i64 j∧q= .int .i64 m∧1≤m∧m≤90000000∧Hid (m=k+(aF V0 (l.take j):Nat)∧Below w.heap.size w wr)) (fun _ i _=>l.length - (Go.RowKit.intOf i).toNat)
 case atStart=>exact ⟨0,k,Ky _,rfl,rfl,h0,by have:=HR.I.2.1; omega,⟨by simp [aF],Kp _ _⟩⟩
 case round=>
  obtain ⟨j,m,hj,rfl,rfl,m0,m1,HA⟩:=hrel;by_cases hlt:j < l.length
  ·have i0:(0:Int)≤(j:Int):=by omega
   have i1:(j:Int) < (l.length:Int):=by omega
   obtain ⟨x,hx⟩: ∃ x,l[j]? =some x:=⟨_,Kz hlt⟩
   have qw:=du (c:=V0) hx;have hup:=gK (c:=V0) hx;have hg:=jK (f:=V9) (c:=V0) (k:=k) hx;rw [← HA.I.1] at hg;obtain ⟨p,hp⟩: ∃ p:af,p= { x with id:=m,next:=m+1 } :=⟨_,rfl⟩
   have Vu:fb p=fb x:=by rw [hp]; rfl
   have hcx:V0 x=2+fb x:=rfl;have hmp:V9 m x=nF (m+1+1) p:=by rw [hp]; rfl
   rw [hmp] at hg;obtain ⟨gs,ha,-,-⟩:=ic (HR.I.1.below HA.I.2) hg;have HC:Hid (∀ W,Below w.heap.size w W→(W.cell? ⟨gs,j * 8,none⟩=some (.int .i64 m)∧W.cell? ⟨gs,j * 8+1,none⟩=some (.int .i64 (m+1))∧W.cell? ⟨gs,j * 8+2,none⟩=some (.slice p.aN p.L8.length p.aW)∧W.cell? ⟨gs,j * 8+3,none⟩=some (.slice p.bc p.aj.length p.bF)∧W.cell? ⟨gs,j * 8+4,none⟩=some (.slice p.ay p.L9.length p.aO)∧W.cell? ⟨gs,j * 8+5,none⟩=some (.slice p.ax p.ag.length p.aP)∧W.cell? ⟨gs,j * 8+6,none⟩=some (.slice p.am p.ae.length p.aG)∧W.cell? ⟨gs,j * 8+7,none⟩=some (.slice p.aK p.ai.length p.aV))∧af.At W (nF (m+1+1) p)):=fun W hW=>by
    obtain ⟨g2,e2,hin,hat⟩:=ic (HR.I.1.below hW) hg;cases ha.symm.trans e2;refine ⟨?_,hat⟩;obtain ⟨h0,h1,h2,h3,h4,h5,h6,h7⟩:=hin;simp only [nF,bE] at h0 h1 h2 h3 h4 h5 h6 h7;exact ⟨by rw [h0,hp],by rw [h1,hp],h2,h3,h4,h5,h6,h7⟩
   have HX:Hid (m+2+(fb p:Nat)=k+(aF V0 (l.take (j+1)):Nat)):=by have:=HA.I.1; show _=_; omega
   have h2:m+1+1+(fb p:Nat)≤90000000:=by have:=HR.I.2.1; have:=HA.I.1; omega
   have WM:Hid p.WN:=by show p.WN; rw [hp]; have:=HR.I.2.2 x (KA hx); exact ⟨this.1,this.2,this.3,this.4,this.5,this.6,this.7,this.8,this.9⟩
   subst ha;clear hx qw hup hg Vu hcx hmp hp;have S:=aA HA.I.2;have n0:(m != m)=false:=by simp
   have n1:(m+1 != m+1)=false:=by simp
   have q0:1≤m+1+1∧m+1+1+(aF bj p.L8:Nat)≤90000000:=by have:=h2; unfold fb at this; omega
   have q1:1≤m+1+1+(aF bj p.L8:Nat)∧m+1+1+(aF bj p.L8:Nat)+(aF (fun _=>3) p.aj:Nat)≤90000000:=by have:=h2; unfold fb at this; omega
   have q2:1≤m+1+1+(aF bj p.L8:Nat)+(aF (fun _=>3) p.aj:Nat)∧m+1+1+(aF bj p.L8:Nat)+(aF (fun _=>3) p.aj:Nat)+(aF (fun _=>2) p.L9:Nat)≤90000000:=by have:=h2; unfold fb at this; omega
   have q3:1≤m+1+1+(aF bj p.L8:Nat)+(aF (fun _=>3) p.aj:Nat)+(aF (fun _=>2) p.L9:Nat)∧m+1+1+(aF bj p.L8:Nat)+(aF (fun _=>3) p.aj:Nat)+(aF (fun _=>2) p.L9:Nat)+(aF (fun _=>3) p.ag:Nat)≤90000000:=by have:=h2; unfold fb at this; omega
   have q4:1≤m+1+1+(aF bj p.L8:Nat)+(aF (fun _=>3) p.aj:Nat)+(aF (fun _=>2) p.L9:Nat)+(aF (fun _=>3) p.ag:Nat)∧m+1+1+(aF bj p.L8:Nat)+(aF (fun _=>3) p.aj:Nat)+(aF (fun _=>2) p.L9:Nat)+(aF (fun _=>3) p.ag:Nat)+(aF bN p.ae:Nat)≤90000000:=by have:=h2; unfold fb at this; omega
   have q5:1≤m+1+1+(aF bj p.L8:Nat)+(aF (fun _=>3) p.aj:Nat)+(aF (fun _=>2) p.L9:Nat)+(aF (fun _=>3) p.ag:Nat)+(aF bN p.ae:Nat)∧m+1+1+(aF bj p.L8:Nat)+(aF (fun _=>3) p.aj:Nat)+(aF (fun _=>2) p.L9:Nat)+(aF (fun _=>3) p.ag:Nat)+(aF bN p.ae:Nat)+(aF eo p.ai:Nat)≤90000000:=by have:=h2; unfold fb at this; omega
   obtain ⟨⟨c0,c1,c2,c3,c4,c5,c6,c7⟩,hat⟩:=HC.I wr S.I;have Mb:=AZ p.aN p.L8 p.aW (m+1+1) wr WM.I.dl WM.I.L8 q0.1 q0.2 hat.1;clear hat;go_wp2_with fail;clear c0 c1 c2 c3 c4 c5 c6 c7;refine Mb.mono ?_;clear Mb;rintro e W1 ⟨rfl,hb⟩;replace S:=aA (S.I.trans (hb.mono S.I.size));clear hb;have nn1: ¬ m+1+1+(aF bj p.L8:Nat) < 0:=by omega
   obtain ⟨⟨c0,c1,c2,c3,c4,c5,c6,c7⟩,hat⟩:=HC.I W1 S.I;have Mb:=Cn p.bc p.aj p.bF (m+1+1+(aF bj p.L8:Nat)) W1 WM.I.fx q1.1 q1.2 hat.2.1;clear hat;go_wp2_with fail;clear c0 c1 c2 c3 c4 c5 c6 c7 nn1;refine Mb.mono ?_;clear Mb;rintro e W2 ⟨rfl,hb⟩;replace S:=aA (S.I.trans (hb.mono S.I.size));clear hb;have nn2: ¬ m+1+1+(aF bj p.L8:Nat)+(aF (fun _=>3) p.aj:Nat) < 0:=by omega
   obtain ⟨⟨c0,c1,c2,c3,c4,c5,c6,c7⟩,hat⟩:=HC.I W2 S.I;have Mb:=yb p.ay p.L9 p.aO (m+1+1+(aF bj p.L8:Nat)+(aF (fun _=>3) p.aj:Nat)) W2 WM.I.cD q2.1 q2.2 hat.2.2.1;clear hat;go_wp2_with fail;clear c0 c1 c2 c3 c4 c5 c6 c7 nn2;refine Mb.mono ?_;clear Mb;rintro e W3 ⟨rfl,hb⟩;replace S:=aA (S.I.trans (hb.mono S.I.size));clear hb;have nn3: ¬ m+1+1+(aF bj p.L8:Nat)+(aF (fun _=>3) p.aj:Nat)+(aF (fun _=>2) p.L9:Nat) < 0:=by omega
   obtain ⟨⟨c0,c1,c2,c3,c4,c5,c6,c7⟩,hat⟩:=HC.I W3 S.I;have Mb:=yF p.ax p.ag p.aP (m+1+1+(aF bj p.L8:Nat)+(aF (fun _=>3) p.aj:Nat)+(aF (fun _=>2) p.L9:Nat)) W3 WM.I.cC q3.1 q3.2 hat.2.2.2.1;clear hat;go_wp2_with fail;clear c0 c1 c2 c3 c4 c5 c6 c7 nn3;refine Mb.mono ?_;clear Mb;rintro e W4 ⟨rfl,hb⟩;replace S:=aA (S.I.trans (hb.mono S.I.size));clear hb;have nn4: ¬ m+1+1+(aF bj p.L8:Nat)+(aF (fun _=>3) p.aj:Nat)+(aF (fun _=>2) p.L9:Nat)+(aF (fun _=>3) p.ag:Nat) < 0:=by omega
   obtain ⟨⟨c0,c1,c2,c3,c4,c5,c6,c7⟩,hat⟩:=HC.I W4 S.I;have Mb:=wy p.am p.ae p.aG (m+1+1+(aF bj p.L8:Nat)+(aF (fun _=>3) p.aj:Nat)+(aF (fun _=>2) p.L9:Nat)+(aF (fun _=>3) p.ag:Nat)) W4 WM.I.cb WM.I.ae q4.1 q4.2 hat.2.2.2.2.1;clear hat;go_wp2_with fail;clear c0 c1 c2 c3 c4 c5 c6 c7 nn4;refine Mb.mono ?_;clear Mb;rintro e W5 ⟨rfl,hb⟩;replace S:=aA (S.I.trans (hb.mono S.I.size));clear hb;have nn5: ¬ m+1+1+(aF bj p.L8:Nat)+(aF (fun _=>3) p.aj:Nat)+(aF (fun _=>2) p.L9:Nat)+(aF (fun _=>3) p.ag:Nat)+(aF bN p.ae:Nat) < 0:=by omega
   obtain ⟨⟨c0,c1,c2,c3,c4,c5,c6,c7⟩,hat⟩:=HC.I W5 S.I;have Mb:=Ah p.aK p.ai p.aV (m+1+1+(aF bj p.L8:Nat)+(aF (fun _=>3) p.aj:Nat)+(aF (fun _=>2) p.L9:Nat)+(aF (fun _=>3) p.ag:Nat)+(aF bN p.ae:Nat)) W5 WM.I.dH WM.I.ai q5.1 q5.2 hat.2.2.2.2.2;clear hat;go_wp2_with fail;clear c0 c1 c2 c3 c4 c5 c6 c7 nn5;refine Mb.mono ?_;clear Mb;rintro e W6 ⟨rfl,hb⟩;replace S:=aA (S.I.trans (hb.mono S.I.size));clear hb;have nn6: ¬ m+1+1+(aF bj p.L8:Nat)+(aF (fun _=>3) p.aj:Nat)+(aF (fun _=>2) p.L9:Nat)+(aF (fun _=>3) p.ag:Nat)+(aF bN p.ae:Nat)+(aF eo p.ai:Nat) < 0:=by omega
   have HN:Hid (m+2+(fb p:Nat)=m+1+1+(aF bj p.L8:Nat)+(aF (fun _=>3) p.aj:Nat)+(aF (fun _=>2) p.L9:Nat)+(aF (fun _=>3) p.ag:Nat)+(aF bN p.ae:Nat)+(aF eo p.ai:Nat)):=by show _=_; unfold fb; omega
   go_wp2;go_roundw
   case rel=>exact ⟨j+1,m+1+1+(aF bj p.L8:Nat)+(aF (fun _=>3) p.aj:Nat)+(aF (fun _=>2) p.L9:Nat)+(aF (fun _=>3) p.ag:Nat)+(aF bN p.ae:Nat)+(aF eo p.ai:Nat),by omega,by go_num,by go_num,by omega,by omega,⟨by rw [← HN.I]; exact HX.I,S.I⟩⟩
   case measure=>simp [Go.RowKit.intOf]; omega
  ·have i1: ¬ (j:Int) < (l.length:Int):=by omega
   have HE:Hid (m=k+(aF V0 l:Nat)):=by have h6:=HA.I.1; rw [List.take_of_length_le (by omega)] at h6; exact h6
   go_wp2;go_ret;exact ⟨ck HE.I,HA.I.2⟩
theorem aau (major:Int) (a:Option Addr) (l:List pA) (cap:Nat) (k:Int) (w:World) (hl:l.length≤1048576) (h0:1≤k) (h1:k+(aF (fun _=>3) l:Nat)≤90000000) (hr:jq.bU w a (aJ Wb (fun _=>3) k l)):
  Calls J3 73 #[.agg #[.int .i64 major,.slice a l.length cap],.int .i64 k] w fun e w'=>e= .returned (.int .i64 (k+(aF (fun _=>3) l:Nat)))∧Below w.heap.size w w':=by
 have hz:Below w.heap.size w (w.alloc (.cells #[.int .i64 major,.slice a l.length cap] 33)):=(Kp _ _).alloc (Ki _) _;have Mb:=aay a l cap k (w.alloc (.cells #[.int .i64 major,.slice a l.length cap] 33)) hl h0 h1 (hr.below hz);have HZ:=aA hz;have nn: ¬ k+(aF (fun _:pA=>3) l:Nat) < 0:=by omega
 clear hr hz
 go_enter Tryz.func73,Tryz.ntmps73
 go_wp2_with fail;refine Mb.mono ?_;clear Mb;rintro e W1 ⟨rfl,hb⟩;have HY:=aA (HZ.I.trans (hb.mono HZ.I.size));clear hb;go_wp2;go_ret;exact ⟨rfl,HY.I⟩
theorem ZK (k:eA) (m:Int) (w:World) (hc:k.WN) (h0:1≤m) (h1:m+(V8 k:Nat)≤90000000) (ho:eA.At w (WA m k)):
  Calls J3 21 #[.agg k.row,.int .i64 m] w fun e w'=>e= .returned (.int .i64 (m+(V8 k:Nat)))∧Below w.heap.size w w':=by
 have hz:Below w.heap.size w (w.alloc (.cells k.row 37)):=(Kp _ _).alloc (Ki _) _;have HK:Hid (Tk (w.alloc (.cells k.row 37)) w.heap.size k∧eA.At (w.alloc (.cells k.row 37)) (WA m k)∧Below w.heap.size w (w.alloc (.cells k.row 37))):=⟨Kj _ _,ho.below hz,hz⟩
 have HC:=aA hc;have q0:m+(aF (fun _:pA=>3) k.fn:Nat)≤90000000:=by unfold V8 at h1; omega
 have q1:m+(aF (fun _:pA=>3) k.fn:Nat)+(aF V0 k.parts:Nat)≤90000000:=by unfold V8 at h1; omega
 have q2:m+(aF (fun _:pA=>3) k.fn:Nat)+(aF V0 k.parts:Nat)+(aF (fun _:eQ=>4) k.eC:Nat)≤90000000:=by unfold V8 at h1; omega
 have n0: ¬ m+(aF (fun _:pA=>3) k.fn:Nat) < 0:=by omega
 have n1: ¬ m+(aF (fun _:pA=>3) k.fn:Nat)+(aF V0 k.parts:Nat) < 0:=by omega
 have n2: ¬ m+(aF (fun _:pA=>3) k.fn:Nat)+(aF V0 k.parts:Nat)+(aF (fun _:eQ=>4) k.eC:Nat) < 0:=by omega
 clear hc ho hz h1
 go_enter Tryz.func21,Tryz.ntmps21
 go_upto_region 1 with fail;generalize w.alloc (.cells k.row 37)=W0 at *;obtain ⟨m0,m1,m2,m3,m4⟩:=HK.I.1.cells;have Mb:=aau k.major k.vb k.fn k.Te m W0 HC.I.Ts h0 q0 HK.I.2.1.fn;go_wp2_with fail;clear m0 m1 m2 m3 m4;refine Mb.mono ?_;clear Mb;rintro e W1 ⟨rfl,hb⟩;replace HK:Hid (Tk W1 w.heap.size k∧eA.At W1 (WA m k)∧Below w.heap.size w W1):=⟨(hb.block _ (J2.1 HK.I.1).1).trans HK.I.1,HK.I.2.1.below hb,HK.I.2.2.trans (hb.mono HK.I.2.2.size)⟩
 clear hb;obtain ⟨m0,m1,m2,m3,m4⟩:=HK.I.1.cells;have Mb:=aal k.qn k.parts k.sa (m+(aF (fun _:pA=>3) k.fn:Nat)) W1 HC.I.sC HC.I.parts (by omega) q1 HK.I.2.1.parts;go_wp2_with fail;clear m0 m1 m2 m3 m4 n0;refine Mb.mono ?_;clear Mb;rintro e W2 ⟨rfl,hb⟩;replace HK:Hid (Tk W2 w.heap.size k∧eA.At W2 (WA m k)∧Below w.heap.size w W2):=⟨(hb.block _ (J2.1 HK.I.1).1).trans HK.I.1,HK.I.2.1.below hb,HK.I.2.2.trans (hb.mono HK.I.2.2.size)⟩
 clear hb;obtain ⟨m0,m1,m2,m3,m4⟩:=HK.I.1.cells;have Mb:=Xd k.qi k.eC k.tC (m+(aF (fun _:pA=>3) k.fn:Nat)+(aF V0 k.parts:Nat)) W2 HC.I.w8 (by omega) q2 HK.I.2.1.eC;go_wp2_with fail;clear m0 m1 m2 m3 m4 n1;refine Mb.mono ?_;clear Mb;rintro e W3 ⟨rfl,hb⟩;have HY:=aA (HK.I.2.2.trans (hb.mono HK.I.2.2.size));clear hb;go_wp2;go_ret;exact ⟨ck (by unfold V8; omega),HY.I⟩
end
section
open Go.RowKit
section
variable {α:Type} {num:α→Int} {ok:α→Bool}
end
end
section
open Go.RowKit Go.Maps
attribute [local go_sem ↓] Kc Kd
def cutK (Post:Act→World→Prop) (Q:Exit→Act→World→Prop) (e:Exit) (a:Act) (w:World):Prop:=match e with
 | .normal=>Post a w
 | e=>Q e a w
theorem ZN {P:Program} {c:Code} {Q:Exit→Act→World→Prop} {a:Act} {w:World} (Post:Act→Act→World→Prop) (h:c.wp P (cutK (Post a) Q) a w) (hk: ∀ a' w',Post a a' w'→Q .normal a' w'):c.wp P Q a w:=
 Code.wp_mono (fun e a' w' h'=>by
  cases e with
  | normal=>exact hk a' w' h'
  | _=>exact h') h
def Zk (a:Act):List (Nat × Value)→Act
 | [] =>a
 | (d,v) :: r=>Zk (a.put (some d) v) r
theorem aaS {W:World} {K n:Nat} {T:TypeId} {f:Nat→Value} (h:W.rowIs K T n f) {o m:Nat} (vs:List Value) (hv:vs.length=m) (hm:o+m≤n) (he: ∀ j,j < m→vs[j]? =some (f (o+j))):W.rangeAt K o vs:=fun j v hj=>by
 have hlt:j < m:=by rw [← hv]; exact (Lj.1 hj).1
 have h1:=h.cell (i:=o+j) (by omega);rw [h1,← he j hlt,hj]
structure abE (k:kd) (lo K b:Nat) (tab:Array Value) (l:List (aZ × Nat)) (ls:List gi) (a:Option Addr) (cap B:Nat) (W:World):Prop where
 aaq:P2 k.major k.fn.length (sz k.fn) tab
 fn:k.fn.length≤20
 prt:VK W K b l
 pure:l.map (·.1.pure)=k.parts
 eC:ls.map (·.c)=k.eC
 TN:W.rowIs K 107 65 (B3 k.now tab b a ls.length cap)
 own:W.ownsRow B 205 6 (.slice a ls.length cap) ls.length (qo.flat ls)
 fits: ∀ p∈l,p.1.Fits
 short:l.length≤6∧ls.length≤10
 lo:lo≤K
 wf: ∀ p∈l,(Lit.int .i64 p.1.q.id).wf=true
theorem rtK {Zb:Func} {R:Ending→World→Prop} {a:Act} {w:World} {old:Array Value} {p:Tmp} (hr:Zb.results= #[.cell p 37]) {g:Nat} {cs:Array Value} (hg:w.heap[g]? =some (.cells old 37 (0,0))) (h:R (.returned (.agg cs)) (w.setRow g cs)) (hp:a.tmps.getD p undef= .pointer (some ⟨g,0,none⟩):=by exact rfl) (hd:a.defers= [] :=by exact rfl)
  (hi:(Tryz.prog.info? 37).map (·.size)=some cs.size:=by kernel_rfl):bodyPost J3 Zb R .ret a (w.setRow g cs):=
 bodyPost_ret (v:= .agg cs) (results_cell_row hr _ _ g _ _ (0,0) _ hp (KU _ _ _ _ _ _ hg) Tryz.underlying37 rfl hi) hd h
theorem Zt.drew {w W3 W:World} {X lo n Y3 cp:Nat} {k:kd} {aw Zj:Option Addr} {l:List (aZ × Nat)} {I:List af} (h:Zt w W3 X lo k aw Y3 l n I Zj cp W):Zt w W3 X lo k aw Y3 l n I Zj cp W.drew:=⟨h.box,h.pg.same fun _ _=>rfl,h.pure,h.bl,h.same,h.cd.drew,h.size⟩
theorem ZX (k:kd) (lo K b:Nat) (tab:Array Value) (l:List (aZ × Nat)) (ls:List gi) (a:Option Addr) (cap B:Nat) (w:World) (h:abE k lo K b tab l ls a cap B w):
  Calls J3 72 #[.pointer (some ⟨K,0,none⟩)] w fun e W=> ∃ k':eA,e= .returned (.agg k'.row)∧gp W lo k'∧k'.pure=k∧Below w.heap.size w W:=by
 have HT:=aA h;have HK:Hid (w.rowIs K 107 65 (B3 k.now tab b a ls.length cap)):=h.TN;clear h;have hz:Below w.heap.size w (w.alloc (.cells T9 37)):=(Kp _ _).alloc (Ki _) _;have S:Hid ((w.alloc (.cells T9 37)).heap[w.heap.size]? =some (.cells T9 37 (0,0))∧Below w.heap.size w (w.alloc (.cells T9 37))):=⟨Kj _ _,hz⟩
 clear hz
 go_enter Tryz.func72,Tryz.ntmps72
 go_upto_region 1 with fail;generalize w.alloc (.cells T9 37)=W0 at *;have HKC:Hid (∀ W:World,Below w.heap.size w W→W.cell? ⟨K,0,none⟩=some (.int .i64 k.now)∧W.rangeAt K 1 tab.toList):=fun W hW=>by
  have hr:W.rowIs K 107 65 (B3 k.now tab b a ls.length cap):=HK.I.of_block (hW.block K HK.I.lt);refine ⟨hr.cell (i:=0) (by omega),aaS (m:=62) hr tab.toList (by rw [aen]; exact HT.I.aaq.1) (by omega) fun j hj=> ?_⟩;have hlt:j < tab.size:=by rw [HT.I.aaq.1]; exact hj
  rw [Array.getElem?_toList];unfold B3;rw [if_neg (by omega),if_neg (by omega),if_neg (by omega),show 1+j - 1=j by omega,Array.getElem?_eq_getElem hlt];rfl
 refine ZN (fun a0 a' w'=> ∃ (X:Nat) (aw:Option Addr) (Y3:Nat) (d0 d1 d2 d3 d4 d5 d6 d7 d8 d9:Value),a'=Zk a0 [(8,d0),(9,d1),(10,d2),(11,d3),(12,d4),(13,d5),(14,d6),(15,d7),(16,d8),(17,d9),(3,.pointer (some ⟨X,0,none⟩))] ∧w'.heap[X]? =some (.cells #[.int .i64 k.now,.int .i64 k.major,.slice aw k.fn.length Y3,.slice none 0 0,.slice none 0 0] 37 (0,0))∧w'.ownsRow W0.heap.size 100 3 (.slice aw k.fn.length Y3) k.fn.length (jq.flat k.fn)∧W0.heap.size≤X∧X∉blk aw∧Below W0.heap.size W0 w') ?_ ?_
 ·refine Kr (S:=fun W=>Below w.heap.size w W) (by kernel_rfl) S.I.2.drew (fun _=> ?_)
  have HV:Hid (Below W0.heap.size W0 W0.drew∧Below w.heap.size w W0.drew):=⟨(Kp _ _).drew,S.I.2.drew⟩
  generalize World.drew _=V at *;refine tt 0 HV.I.2 ?_;refine tt 1 HV.I.2 ?_;refine tt 2 HV.I.2 ?_;refine tt 3 HV.I.2 ?_ (hy:=fun w0 hS0=>by have q0:=(HKC.I w0 hS0).1; go_simp; try with_reducible rfl);refine tt 4 HV.I.2 ?_;refine tt 5 HV.I.2 ?_;refine tt 6 HV.I.2 ?_;refine abe 7 (v:= .agg tab) rfl (yieldsIf_load_mid (by rfl) _ _ rfl K 1 (by rfl) tab.toList _ (fun _ h=>(HKC.I _ h).2) Tryz.underlying103 rfl (by rw [Dw,aen,HT.I.aaq.1])) HV.I.2 ?_
  try simp only [pt,sb,s0,s1]
  have abF:Zr (sz k.fn) k.fn.length=jq.flat k.fn:=by have h5:=Z8 k.fn k.fn.length (Ki _); rwa [LQ] at h5
  have HFL:=aA abF;clear abF;refine KW (rs:= [8,10]) (by kernel_rfl) (by simp) ?_;refine KX rfl (fun Q hQ=> ?_) (KX rfl (fun Q hQ=> ?_) KY)
  focus
   simp only [KZ,K0,K1];rw [if_pos (by rfl)];go_wp2_with fail;refine (ZE tab k.major k.fn.length (sz k.fn) V HT.I.aaq HT.I.fn).mono ?_;rintro e W1 ⟨aw,Y3,rfl,ho,hb⟩;rw [HFL.I] at ho;have HW:Hid (W1.ownsRow V.heap.size 100 3 (.slice aw k.fn.length Y3) k.fn.length (jq.flat k.fn)∧Below W0.heap.size W0 W1∧Below w.heap.size w W1):=⟨ho,HV.I.1.trans (hb.mono HV.I.1.size),HV.I.2.trans (hb.mono HV.I.2.size)⟩
   clear ho hb;refine hQ.out _ _ HW.I.2.2 (fun _=> ?_);clear hQ Q
   try simp only [pt,sb,s0,s1]
   refine tt 9 HW.I.2.2 ?_;refine L7 10 (fun Q hQ=> ?_);go_wp2_with fail;have hz:Below W1.heap.size W1 (W1.alloc (.cells T9 37)):=(Kp _ _).alloc (Ki _) _;refine hQ.out _ _ (HW.I.2.2.trans (hz.mono HW.I.2.2.size)) (fun _=> ?_);clear hQ Q hz
   try simp only [pt,sb,s0,s1]
   refine L7 11 (fun Q hQ=> ?_);go_wp2_with fail;have hz:Below W1.heap.size W1 (W1.alloc (.cells #[.int .i64 k.now,.int .i64 k.major,.slice aw k.fn.length Y3,.slice none 0 0,.slice none 0 0] 37)):=(Kp _ _).alloc (Ki _) _;have hv0:W0.heap.size≤V.heap.size:=HV.I.1.size;refine hQ.out _ _ (HW.I.2.2.trans (hz.mono HW.I.2.2.size)) (fun _=> ?_);clear hQ Q;refine K3 (by kernel_rfl) ?_ _;exact ⟨W1.heap.size,aw,Y3,_,_,_,_,_,_,_,_,_,_,by simp only [Zk,pt,sb,s0,s1]; rfl,Kj _ _,cq (cR HW.I.1 hz) hv0,HW.I.2.1.size,fun hm=>by have:=(cf HW.I.1 hm).2; omega,HW.I.2.1.trans (hz.mono HW.I.2.1.size)⟩
  ·simp only [KZ,K0,K1]
   rw [if_pos (by rfl)];go_wp2_with fail;have hz:Below V.heap.size V (V.alloc (.cells T9 37)):=(Kp _ _).alloc (Ki _) _;have HU:Hid (Below W0.heap.size W0 (V.alloc (.cells T9 37))∧Below w.heap.size w (V.alloc (.cells T9 37))∧(V.alloc (.cells T9 37)).heap[V.heap.size]? =some (.cells T9 37 (0,0))∧W0.heap.size≤V.heap.size):=⟨HV.I.1.trans (hz.mono HV.I.1.size),HV.I.2.trans (hz.mono HV.I.2.size),Kj _ _,HV.I.1.size⟩
   refine hQ.out _ _ HU.I.2.1 (fun _=> ?_);clear hQ Q hz
   try simp only [pt,sb,s0,s1]
   generalize V.alloc (.cells T9 37)=U at *;generalize V.heap.size=X at *;refine L7 8 (fun Q hQ=> ?_);go_wp2_with fail;refine (ZE tab k.major k.fn.length (sz k.fn) U HT.I.aaq HT.I.fn).mono ?_;rintro e W1 ⟨aw,Y3,rfl,ho,hb⟩;rw [HFL.I] at ho;have hxu:=(J2.1 HU.I.2.2.1).1;have HW:Hid (W1.ownsRow U.heap.size 100 3 (.slice aw k.fn.length Y3) k.fn.length (jq.flat k.fn)∧Below W0.heap.size W0 W1∧Below w.heap.size w W1∧W1.heap[X]? =some (.cells T9 37 (0,0))∧X < U.heap.size):=⟨ho,HU.I.1.trans (hb.mono HU.I.1.size),HU.I.2.1.trans (hb.mono HU.I.2.1.size),(hb.block _ hxu).trans HU.I.2.2.1,hxu⟩
   clear ho hb hxu;refine hQ.out _ _ HW.I.2.2.1 (fun _=> ?_);clear hQ Q
   try simp only [pt,sb,s0,s1]
   refine tt 9 HW.I.2.2.1 ?_;refine L7 11 (fun Q hQ=> ?_);refine qd _ _ _ rfl X _ _ #[.int .i64 k.now,.int .i64 k.major,.slice aw k.fn.length Y3,.slice none 0 0,.slice none 0 0] rfl rfl HW.I.2.2.2.1 (by kernel_rfl) rfl (by simp [Value.oneCell']) ?_;have hx0:W0.heap.size≤X:=HU.I.2.2.2;have hw0:w.heap.size≤X:=by have:=S.I.2.size; omega
   refine hQ.out _ _ (kz HW.I.2.2.1 hw0 _) (fun _=> ?_);clear hQ Q;refine K3 (by kernel_rfl) ?_ _;exact ⟨X,aw,Y3,_,_,_,_,_,_,_,_,_,_,by simp only [Zk,pt,sb,s0,s1]; rfl,KU _ _ _ _ _ _ HW.I.2.2.2.1,cq (aL HW.I.1 fun g hg=>KH _ _ _ _ (by have:=(cf HW.I.1 hg).1; have:=HW.I.2.2.2.2; omega)) (by have:=HW.I.2.2.2.2; omega),hx0,fun hm=>by have:=(cf HW.I.1 hm).1; have:=HW.I.2.2.2.2; omega,kz HW.I.2.1 hx0 _⟩
 ·rintro a' W1 ⟨X,aw,Y3,d0,d1,d2,d3,d4,d5,d6,d7,d8,d9,rfl,hX,hw,hx0,hxa,hb⟩
  have HX:Hid (W1.heap[X]? =some (.cells #[.int .i64 k.now,.int .i64 k.major,.slice aw k.fn.length Y3,.slice none 0 0,.slice none 0 0] 37 (0,0))∧W1.ownsRow W0.heap.size 100 3 (.slice aw k.fn.length Y3) k.fn.length (jq.flat k.fn)∧W0.heap.size≤X∧X∉blk aw∧Below W0.heap.size W0 W1):=⟨hX,hw,hx0,hxa,hb⟩
  clear hX hw hx0 hxa hb HKC;simp only [Zk,pt,sb,s0,s1];have HB:Hid (Below w.heap.size w W1):=S.I.2.trans (HX.I.2.2.2.2.mono S.I.2.size);have c63:W1.cell? ⟨K,63,none⟩=some (.map (some b)):=(J1 (w:=w) (a:=⟨K,63,none⟩) (HB.I.block K HK.I.lt)).trans (HK.I.cell (i:=63) (by omega));go_wp2_with fail;refine (Z2 _ _).mono ?_;rintro e W2 ⟨rfl,hw2⟩;have hmap:cF w b (l.map fun p=>(p.1.q.id,p.2)):=HT.I.prt.map;have hb2:Below W1.heap.size W1 W2:=by rw [hw2]; exact (Kp _ _).alloc (Ki _) _
  have c0:W2.cell? ⟨W1.heap.size,0,none⟩=some (.map (some b)):=by rw [hw2]; simp
  have oX:W1.heap.size < W2.heap.size:=by rw [hw2]; simp
  have Mb:=ZF W1.heap.size b (l.map fun p=>(p.1.q.id,p.2)) W2 oX c0 ((hmap.below HB.I).below hb2) (by have:=HT.I.short.1; simp; omega);have cy:Hid (Below W1.heap.size W1 W2):=hb2;clear hmap hb2 c0 oX c63 hw2;go_wp2_with fail;refine Mb.mono ?_;clear Mb;rintro e W3 ⟨v,rfl,hov,hb3⟩;obtain ⟨YN,Y0,hv,hrow⟩:=cr hov;rw [KG] at hv;rw [hv];have HR:Hid (Row W3 YN (Xn (l.map fun p=>p.1.q.id))):=by show Row W3 YN _; rw [Lv] at hrow; simpa [Lv,Ls] using hrow
  have oh:Hid (Below W1.heap.size W1 W3):=cy.I.trans (hb3.mono cy.I.size);have SC:Hid (∀ g∈blk YN,W1.heap.size≤g∧g < W3.heap.size):=fun g hg=>by rw [hv] at hov; have h5:=cf (by rw [KG] at hov; exact hov) hg; have h6:=cy.I.size; exact ⟨by omega,h5.2⟩
  clear hv hov hrow hb3 cy;have HPR:Hid (VK w K b l):=HT.I.prt;have HXX:Hid (w.heap.size≤X∧X < W3.heap.size):=⟨by have:=S.I.2.size; have:=HX.I.2.2.1; omega,by have:=(J2.1 HX.I.1).1; have:=oh.I.size; omega⟩
  have HALL:Hid (∀ p∈l,∀ g∈p.1.all p.2,g < w.heap.size):=fun p hp g hg=>by obtain ⟨bs,-,ho⟩:=HPR.I.part p hp; exact (ho.xy g hg).2
  have HC:Hid (∀ W:World,Below w.heap.size w W→W.cell? ⟨K,63,none⟩=some (.map (some b))):=fun W hW=>(J1 (w:=w) (a:=⟨K,63,none⟩) (hW.block K HK.I.lt)).trans (HK.I.cell (i:=63) (by omega))
  have HLK:Hid (∀ p∈l,∀ W:World,Below w.heap.size w W→(Instr.lookup 104 (.map (some b)) (.int .i64 p.1.q.id) false).run J3 W= .ok (.pointer (some ⟨p.2,0,none⟩)) W):=fun p hp W hW=>by
   have h5:=(HPR.I.map.below hW).look Tryz.underlying104 (TQ W) (HT.I.wf p hp) false;rw [jI HPR.I.map.2 (p:=(p.1.q.id,p.2)) (Lr.2 ⟨p,hp,rfl⟩)] at h5;exact h5
  go_wp2_with fail
  go_loopw [25] (fun i wr=> ∃ n:Nat,n≤l.length∧i= .int .i64 n∧Hid (∃ (I:List af) (Zj:Option Addr) (cp:Nat),Zt w W3 X lo k aw Y3 l n I Zj cp wr)) (fun i _=>l.length - (intOf i).toNat)
  case atStart=>exact ⟨0,Ky _,rfl,⟨[],none,0,(oh.I.block X (J2.1 HX.I.1).1).trans HX.I.1,YR.start _ _ _,rfl,(by simp),fun _ _ _=>rfl,HB.I.trans (oh.I.mono HB.I.size),Ki _⟩⟩
  case round=>
   obtain ⟨n,hk,rfl,HA⟩:=hrel;by_cases hlt:n < l.length
   ·have qE:(0:Int)≤(n:Int):=by omega
    have i1:(n:Int) < (l.length:Int):=by omega
    obtain ⟨p,hp⟩: ∃ p,l[n]? =some p:=⟨_,Kz hlt⟩
    obtain ⟨I,Zj,cp,hA⟩:=HA.I;replace HA:=aA hA;clear hA;obtain ⟨g,ha,hc⟩:=HR.I n (.int .i64 p.1.q.id) (by simp [Xn,hp]);have hgl:=SC.I g (by rw [ha]; simp [blk]);have hgx:g≠X:=by have:=(J2.1 HX.I.1).1; omega
    replace hc:=(J1 (HA.I.same g hgl.2 hgx)).trans hc;subst ha;have HP:Hid (l[n]? =some p):=hp;have hpm:Hid (p∈l):=KA hp;clear hgl hgx hp;go_upto_region 5 with fail;refine ZN (fun a0 a' w'=> ∃ (e0 e1 e2 e3 e4 e5 e6 e7 e8 e9 Pn e11:Value) (aaF:List af) (ap2:Option Addr) (cp2:Nat),a'=Zk a0 [(29,e0),(30,e1),(31,e2),(32,e3),(33,e4),(34,e5),(35,e6),(36,e7),(37,e8),(38,e9),(39,Pn),(40,e11)] ∧Zt w W3 X lo k aw Y3 l (n+1) aaF ap2 cp2 w') ?_ ?_
    ·refine Kr (S:=fun W=>Below w.heap.size w W) (by kernel_rfl) HA.I.cd.drew (fun _=> ?_)
     replace HA:=aA HA.I.drew;generalize World.drew _=V at *;clear hc;refine tt 0 HA.I.cd ?_;refine tt 2 HA.I.cd ?_;refine tt 3 HA.I.cd ?_;refine tt 4 HA.I.cd ?_;refine tt 5 HA.I.cd ?_ (hy:=fun w0 hS0=>by have q0:=HC.I w0 hS0; go_simp; try with_reducible rfl);refine tt 6 HA.I.cd ?_;refine tt 7 HA.I.cd ?_ (hy:=fun w0 hS0=>by have q0:=HLK.I p hpm.I w0 hS0; go_simp; try with_reducible rfl)
     try simp only [pt,sb,s0,s1]
     have HCX:Hid (∀ W:World,W.heap[X]? =some (.cells (Zq k aw Y3 (.slice Zj I.length cp) (.slice none 0 0)) 37 (0,0))→W.cell? ⟨X,3,none⟩=some (.slice Zj I.length cp)):=fun W h=>by simp [World.cell?,h,Zq]
     have abD:Hid (Calls J3 47 #[.pointer (some ⟨p.2,0,none⟩)] V fun e W5=> ∃ r:af,e= .returned (.agg r.cells)∧Below V.heap.size V W5∧ ∃ a' cap' w',(Builtin.append_ #[34,34] 34 #[.slice Zj I.length cp,.slice (some ⟨W5.heap.size,0,none⟩) 1 1]).run J3 (W5.alloc (.cells r.cells 48))= .ok (.slice a' (I.length+1) cap') w'∧Below w.heap.size w w'∧w'.heap[X]? =some (.cells (Zq k aw Y3 (.slice Zj I.length cp) (.slice none 0 0)) 37 (0,0))∧Zt w W3 X lo k aw Y3 l (n+1) (I ++ [r]) a' cap' (w'.setCell ⟨X,3,none⟩ (.slice a' (I.length+1) cap'))):=by
      obtain ⟨bs,hK,ho⟩:=HPR.I.part p hpm.I;refine adn (ZZ p.2 bs p.1 V (ho.same fun g _ hl=>HA.I.cd.block g hl) (HT.I.fits p hpm.I)) ?_;rintro e W5 ⟨r,rfl,hr,gn,hb,hbl⟩;exact ⟨r,rfl,hb,HA.I.step HP.I HPR.I.apart HALL.I HXX.I HT.I.short.1 (hr.lower (by have:=HT.I.lo; omega)) gn hb hbl⟩
     refine KW (rs:= [1,8]) (by kernel_rfl) (by simp) ?_;refine KX rfl (fun Q hQ=> ?_) (KX rfl (fun Q hQ=> ?_) KY)
     focus
      simp only [KZ,K0,K1];rw [if_pos (by rfl)];have c3:=HCX.I V HA.I.box
      skip
      go_wp2_with fail;clear c3;refine hQ.out _ _ HA.I.cd (fun _=> ?_);clear hQ Q
      try simp only [pt,sb,s0,s1]
      refine L7 8 (fun Q hQ=> ?_);go_wp2_with fail;refine abD.I.mono ?_;rintro e W5 ⟨r,rfl,iJ,a',cap',w',hap,lY,lW,hpl⟩;have H5:Hid (Below w.heap.size w W5∧Below w.heap.size w (W5.alloc (.cells r.cells 48))∧W5.heap[X]? =V.heap[X]? ∧(W5.alloc (.cells r.cells 48)).heap[X]? =V.heap[X]?):=by
       have hv:=HA.I.cd.trans (iJ.mono HA.I.cd.size);have hx:W5.heap[X]? =V.heap[X]? :=iJ.block X (by have:=HA.I.size; have:=HXX.I.2; omega);exact ⟨hv,hv.alloc hv.size _,hx,(adD _ _ _ (by have:=iJ.size; have:=HA.I.size; have:=HXX.I.2; omega)).trans hx⟩
      have HN:Hid ((Builtin.append_ #[34,34] 34 #[.slice Zj I.length cp,.slice (some ⟨W5.heap.size,0,none⟩) 1 1]).run J3 (W5.alloc (.cells r.cells 48))= .ok (.slice a' (I.length+1) cap') w'):=hap;have HM:Hid (Below w.heap.size w w'∧w'.heap[X]? =some (.cells (Zq k aw Y3 (.slice Zj I.length cp) (.slice none 0 0)) 37 (0,0))∧Zt w W3 X lo k aw Y3 l (n+1) (I ++ [r]) a' cap' (w'.setCell ⟨X,3,none⟩ (.slice a' (I.length+1) cap'))):=⟨lY,lW,hpl⟩
      clear hap lY lW hpl iJ;refine hQ.out _ _ H5.I.1 (fun _=> ?_);clear hQ Q
      try simp only [pt,sb,s0,s1]
      refine L7 9 (fun Q hQ=> ?_);simp only [af.cells];go_wp2_with fail;refine hQ.out _ _ H5.I.2.1 (fun _=> ?_);clear hQ Q
      try simp only [pt,sb,s0,s1]
     rotate_left
     focus
      simp only [KZ,K0,K1];rw [if_pos (by rfl)];go_wp2_with fail;refine abD.I.mono ?_;rintro e W5 ⟨r,rfl,iJ,a',cap',w',hap,lY,lW,hpl⟩;have H5:Hid (Below w.heap.size w W5∧Below w.heap.size w (W5.alloc (.cells r.cells 48))∧W5.heap[X]? =V.heap[X]? ∧(W5.alloc (.cells r.cells 48)).heap[X]? =V.heap[X]?):=by
       have hv:=HA.I.cd.trans (iJ.mono HA.I.cd.size);have hx:W5.heap[X]? =V.heap[X]? :=iJ.block X (by have:=HA.I.size; have:=HXX.I.2; omega);exact ⟨hv,hv.alloc hv.size _,hx,(adD _ _ _ (by have:=iJ.size; have:=HA.I.size; have:=HXX.I.2; omega)).trans hx⟩
      have HN:Hid ((Builtin.append_ #[34,34] 34 #[.slice Zj I.length cp,.slice (some ⟨W5.heap.size,0,none⟩) 1 1]).run J3 (W5.alloc (.cells r.cells 48))= .ok (.slice a' (I.length+1) cap') w'):=hap;have HM:Hid (Below w.heap.size w w'∧w'.heap[X]? =some (.cells (Zq k aw Y3 (.slice Zj I.length cp) (.slice none 0 0)) 37 (0,0))∧Zt w W3 X lo k aw Y3 l (n+1) (I ++ [r]) a' cap' (w'.setCell ⟨X,3,none⟩ (.slice a' (I.length+1) cap'))):=⟨lY,lW,hpl⟩
      clear hap lY lW hpl iJ;refine hQ.out _ _ H5.I.1 (fun _=> ?_);clear hQ Q
      try simp only [pt,sb,s0,s1]
      refine KW (rs:= [1,9]) (by kernel_rfl) (by simp) ?_;refine KX rfl (fun Q hQ=> ?_) (KX rfl (fun Q hQ=> ?_) KY)
      focus
       simp only [KZ,K0,K1];rw [if_pos (by rfl)];have c3:=HCX.I W5 (H5.I.2.2.1.trans HA.I.box)
       skip
       go_wp2_with fail;clear c3;refine hQ.out _ _ H5.I.1 (fun _=> ?_);clear hQ Q
       try simp only [pt,sb,s0,s1]
       refine L7 9 (fun Q hQ=> ?_);simp only [af.cells];go_wp2_with fail;refine hQ.out _ _ H5.I.2.1 (fun _=> ?_);clear hQ Q
       try simp only [pt,sb,s0,s1]
      rotate_left
      focus
       simp only [KZ,K0,K1];rw [if_pos (by rfl)];simp only [af.cells];go_wp2_with fail;refine hQ.out _ _ H5.I.2.1 (fun _=> ?_);clear hQ Q
       try simp only [pt,sb,s0,s1]
       refine L7 1 (fun Q hQ=> ?_);have c3:=HCX.I _ (H5.I.2.2.2.trans HA.I.box);simp only [af.cells] at c3;go_wp2_with fail;clear c3;refine hQ.out _ _ H5.I.2.1 (fun _=> ?_);clear hQ Q
       try simp only [pt,sb,s0,s1]
     all_goals
      refine L7 10 (fun Q hQ=> ?_);refine cM _ _ 34 rfl _ _ _ w' rfl rfl HN.I ?_;refine hQ.out _ _ HM.I.1 (fun _=> ?_);clear hQ Q
      try simp only [pt,sb,s0,s1]
      refine tt 11 HM.I.1 ?_;refine L7 12 (fun Q hQ=> ?_);have c3:w'.cell? ⟨X,3,none⟩=some (.slice Zj I.length cp):=HCX.I _ HM.I.2.1;have u3:w'.frozen? ⟨X,3,none⟩=false:=by have:=HM.I.2.1; simp [World.frozen?,this,Zq]
      go_wp2_with fail;clear c3 u3;refine hQ.out _ _ HM.I.2.2.cd (fun _=> ?_);clear hQ Q;refine K3 (by kernel_rfl) ?_ _;exact ⟨_,_,_,_,_,_,_,_,_,_,_,_,I ++ [r],a',cap',by simp only [Zk,pt,sb,s0,s1]; rfl,HM.I.2.2⟩
    ·rintro a' W4 ⟨e0,e1,e2,e3,e4,e5,e6,e7,e8,e9,Pn,e11,aaF,ap2,cp2,rfl,hpl⟩
     have HN:=aA hpl;clear hpl hc;simp only [Zk,pt,sb,s0,s1];have hl6:=HT.I.short.1;go_wp2_with fail;go_roundw
     case rel=>exact ⟨n+1,by omega,by go_num,⟨aaF,ap2,cp2,HN.I⟩⟩
     case measure=>simp [intOf]; omega
   ·have i1: ¬ (n:Int) < (l.length:Int):=by omega
    have ek:n=l.length:=by omega
    subst ek;obtain ⟨I,Zj,cp,hA⟩:=HA.I;replace HA:=aA hA;clear hA;obtain ⟨W4,hW4⟩: ∃ W4,W4=wr:=⟨_,rfl⟩
    subst hW4;have c64:W4.cell? ⟨K,64,none⟩=some (.slice a ls.length cap):=(J1 (w:=w) (a:=⟨K,64,none⟩) (HA.I.cd.block K HK.I.lt)).trans (HK.I.cell (i:=64) (by omega));have hx4:X < W4.heap.size:=by have:=HA.I.size; have:=HXX.I.2; omega
    have HX4:Hid (w.heap.size≤X∧X < W4.heap.size):=⟨HXX.I.1,hx4⟩
    clear hx4;go_wp2_with fail;clear c64;have hls:ls.length≤10:=HT.I.short.2
    go_loopw [47] (fun i YE=> ∃ n:Nat,n≤ls.length∧i= .int .i64 n∧Hid (∃ (ac:Option Addr) (cc:Nat),aaI w W4 X k aw Y3 (.slice Zj I.length cp) ls n ac cc YE)) (fun i _=>ls.length - (intOf i).toNat)
    case atStart=>exact ⟨0,Ky _,rfl,⟨none,0,HA.I.box,World.ownsRow_nil _ _ _ _,fun _ _ _=>rfl,HA.I.cd,Ki _⟩⟩
    case round=>
     obtain ⟨n,hk2,rfl,HD⟩:=hrel;obtain ⟨ac,cc,hD⟩:=HD.I;replace HD:=aA hD;clear hD;by_cases hlt:n < ls.length
     ·have qE:(0:Int)≤(n:Int):=by omega
      have i1:(n:Int) < (ls.length:Int):=by omega
      obtain ⟨m,hm⟩: ∃ m,ls[n]? =some m:=⟨_,Kz hlt⟩
      have hrow:Row w a (qo.flat ls):=by obtain ⟨a2,c2,e2,hr⟩:=cr HT.I.own; cases e2; exact hr
      obtain ⟨gl,ha,k0,k1,k2,k3,k4,k5⟩:=Vq (hrow.same (w':=wr) fun g e=>HD.I.cd.block g (cf HT.I.own (by rw [e]; simp [blk])).2) hm;subst ha;clear hrow;go_upto_region 10 with fail;clear k0 k1 k2 k3 k4 k5;have hz:Below wr.heap.size wr (wr.alloc (.cells (fz m) 205)):=(Kp _ _).alloc (Ki _) _;have lW:(wr.alloc (.cells (fz m) 205)).heap[X]? =some (.cells (Zq k aw Y3 (.slice Zj I.length cp) (.slice ac n cc)) 37 (0,0)):=(hz.block X (J2.1 HD.I.box).1).trans HD.I.box;have wU:(wr.alloc (.cells (fz m) 205)).heap[wr.heap.size]? =some (.cells (fz m) 205 (0,0)):=Kj _ _;have hstep:=HD.I.step hm HX4.I hls hz;clear hz;generalize wr.alloc (.cells (fz m) 205)=W6 at *;obtain ⟨a',cap',w',hap,lY,hpl⟩:=hstep;have HN:=aA hpl;have b4:W6.cell? ⟨X,4,none⟩=some (.slice ac n cc):=by simp [World.cell?,lW,Zq]
      have m0:W6.cell? ⟨wr.heap.size,0,none⟩=some (.int .i64 m.c.src):=by simp [World.cell?,wU]
      have m1:W6.cell? ⟨wr.heap.size,1,none⟩=some (.int .i64 m.c.ga):=by simp [World.cell?,wU]
      have m2:W6.cell? ⟨wr.heap.size,2,none⟩=some (.int .i64 m.c.dst):=by simp [World.cell?,wU]
      have m3:W6.cell? ⟨wr.heap.size,3,none⟩=some (.int .i64 m.c.hI):=by simp [World.cell?,wU]
      have y4:w'.cell? ⟨X,4,none⟩=some (.slice ac n cc):=by simp [World.cell?,lY,Zq]
      have z4:w'.frozen? ⟨X,4,none⟩=false:=by simp [World.frozen?,lY,Zq]
      clear hpl lY lW wU hm;go_wp2_with (at_builtin; refine br _ rfl _ _ 35 rfl _ _ _ _ rfl rfl hap ?_);go_roundw
      case rel=>exact ⟨n+1,by omega,by go_num,⟨a',cap',HN.I⟩⟩
      case measure=>simp [intOf]; omega
     ·have i1: ¬ (n:Int) < (ls.length:Int):=by omega
      have ek:n=ls.length:=by omega
      subst ek;have hne:w.heap.size≠X:=by have:=(J2.1 S.I.1).1; have:=HX.I.2.2.1; omega
      have hz0:wr.heap[w.heap.size]? =some (.cells T9 37 (0,0)):=by
       have h0:=(J2.1 S.I.1).1;have h1:=HX.I.2.2.2.2.size;have h3:=oh.I.size;have h4:=HA.I.size;exact (HD.I.same _ (by omega) hne).trans ((HA.I.same _ (by omega) hne).trans ((oh.I.block _ (by omega)).trans ((HX.I.2.2.2.2.block _ h0).trans S.I.1)))
      have lW:=HD.I.box;have b0:wr.cell? ⟨X,0,none⟩=some (.int .i64 k.now):=by simp [World.cell?,lW,Zq]
      have b1:wr.cell? ⟨X,1,none⟩=some (.int .i64 k.major):=by simp [World.cell?,lW,Zq]
      have b2:wr.cell? ⟨X,2,none⟩=some (.slice aw k.fn.length Y3):=by simp [World.cell?,lW,Zq]
      have b3:wr.cell? ⟨X,3,none⟩=some (.slice Zj I.length cp):=by simp [World.cell?,lW,Zq]
      have b4:wr.cell? ⟨X,4,none⟩=some (.slice ac ls.length cc):=by simp [World.cell?,lW,Zq]
      clear lW;go_wp2_with (refine wpList_store_row rfl 37 (.tmp 2) (.tmp 59) rfl _ _ _ #[.int .i64 k.now,.int .i64 k.major,.slice aw k.fn.length Y3,.slice Zj I.length cp,.slice ac ls.length cc] rfl rfl hz0 (by kernel_rfl) rfl (by simp [Value.oneCell']) ?_);refine rtK Tryz.results72 hz0 ?_;have q0:=(J2.1 S.I.1).1;have q1:=HX.I.2.2.2.2.size;have q3:=oh.I.size;have q4:=HA.I.size;have q5:=HD.I.size;have qk:=HK.I.lt;have YM:=HT.I.lo;have flat: ∀ g∈I.flatMap af.Mc,(W3.heap.size≤g∨g < w.heap.size)∧g < W4.heap.size:=fun g hg=>by
       refine ⟨?_,HA.I.pg.lt g (Ly _ hg)⟩;obtain ⟨q,hq,hgq⟩:=Rt.1 hg;rcases HA.I.bl q hq g hgq with h5 | ⟨q',h5,h6⟩
       ·exact .inl h5
       ·exact .inr (HALL.I q' (List.mem_of_mem_take h5) g (List.mem_cons_of_mem _ (Ly _ h6)))
      have TX: ∀ g∈blk aw,W0.heap.size≤g∧g < W1.heap.size∧g≠X:=fun g hg=>⟨(cf HX.I.2.1 hg).1,(cf HX.I.2.1 hg).2,fun e=>HX.I.2.2.2.1 (by rw [← e]; exact hg)⟩
      have hpar: ∀ g∈blk Zj,W3.heap.size≤g∧g < W4.heap.size:=fun g hg=>cf HA.I.pg.own hg
      have aao: ∀ g∈blk ac,W4.heap.size≤g:=fun g hg=>(cf HD.I.own hg).1
      generalize hcs: #[Value.int .i64 k.now,.int .i64 k.major,.slice aw k.fn.length Y3,.slice Zj I.length cp,.slice ac ls.length cc] =cs;have sm: ∀ g,g < W4.heap.size→g≠X→g≠w.heap.size→(wr.setRow w.heap.size cs).heap[g]? =W4.heap[g]? :=fun g h1 h2 h3=>(KH _ _ _ _ h3).trans (HD.I.same g h1 h2)
      have sm1: ∀ g,g < W1.heap.size→g≠X→g≠w.heap.size→(wr.setRow w.heap.size cs).heap[g]? =W1.heap[g]? :=fun g h1 h2 h3=>(sm g (by omega) h2 h3).trans ((HA.I.same g (by omega) h2).trans (oh.I.block g h1))
      have hx:=HXX.I;have pg2:=HA.I.pg.same (W1:=wr.setRow w.heap.size cs) fun g hg=>by
       rcases Kg.1 hg with hg | hg
       ·have:=hpar g hg; exact sm g (by omega) (by omega) (by omega)
       ·have:=flat g hg; exact sm g (by omega) (by omega) (by omega)
      have own1:=aL (w':=wr.setRow w.heap.size cs) HX.I.2.1 fun g hg=>by have:=TX g hg; exact sm1 g (by omega) (by omega) (by omega)
      have abv:=aL (w':=wr.setRow w.heap.size cs) HD.I.own fun g hg=>KH _ _ _ _ (by have:=aao g hg; omega)
      rw [LQ] at abv;have e1:I.map (·.pure)=k.parts:=by rw [HA.I.pure,LQ]; exact HT.I.pure
      have e2:ls.map (·.c)=k.eC:=HT.I.eC;refine ⟨⟨k.now,k.major,k.fn,aw,Y3,I,Zj,cp,ls.map (·.c),ac,cc⟩,by simp [← hcs],⟨cq own1 (by omega),cq pg2.own (by omega),?_,pg2.mine,?_⟩,by show kd.mk k.now k.major k.fn (I.map (·.pure)) (ls.map (·.c))=k; rw [e1,e2],kz HD.I.cd (Ki _) _⟩
      ·rw [KG]
       exact cq abv (by omega)
      ·have hb1: ∀ x:Option Addr,(blk x).Nodup:=fun x=>by cases x <;> simp [blk]
       have hn:=Kf.1 HA.I.pg.nodup;refine Kf.2 ⟨hb1 _,Kf.2 ⟨hb1 _,Kf.2 ⟨hb1 _,hn.2.1,fun g hg g' hg' e=> ?_⟩,fun g hg g' hg' e=> ?_⟩,fun g hg g' hg' e=> ?_⟩
       ·have:=aao g hg; have:=flat g' hg'; omega
       ·rcases Kg.1 hg' with h5 | h5
        ·have:=hpar g hg; have:=aao g' h5; omega
        ·exact hn.2.2 g hg g' h5 e
       ·have:=TX g hg
        rcases Kg.1 hg' with h5 | h5
        ·have:=hpar g' h5; omega
        ·rcases Kg.1 h5 with h5 | h5
         ·have:=aao g' h5; omega
         ·have:=flat g' h5; omega
theorem WJ (l:List af) (id:Int):hP (fun p:aE=>p.id) id (l.map (·.pure))=(hP (fun p:af=>p.id) id l).map (·.pure):=by
 unfold hP;rw [List.find?_map];rfl
structure VW (w:World) (k:eA) (W:World):Prop where
 ks:dr w w.heap.size k W
 I:W.heap[w.heap.size+1]? =some (.cells ar 48 (0,0))
theorem VW.below {w W W2:World} {k:eA} (h:VW w k W) (hb:Below W.heap.size W W2):VW w k W2:=⟨h.ks.below hb,(hb.block _ (J2.1 h.I).1).trans h.I⟩
theorem VW.first {w:World} {k:eA} (h:eA.At w k):VW w k ((w.alloc (.cells k.row 37)).alloc (.cells ar 48)):=
 ⟨(dr.first h).below ((Kp _ _).alloc (Ki _) _),Kq _ _ _⟩
theorem Ww {k:kd} (h:eP k=true): ∀ p∈k.parts,aQ p:=by
 simp only [eP,J7] at h;have key: ∀ (l:List aE) (last:Int),aw (·.id) bK last l=true→ ∀ p∈l,aQ p:=by
  intro l
  induction l with
  | nil=>intro _ _ p hp; cases hp
  | cons x r ih=>
   intro last h p hp;simp only [aw,J7] at h;rcases Kt.1 hp with rfl | hp
   ·exact (ch _).1 h.1.2
   ·exact ih _ h.2 p hp
 exact key _ _ h.1.2
end
section
open Go.RowKit Go.Maps
def ld (w:World) (a:Option Addr) (xs:List Value):Prop:= ∀ j u,xs[j]? =some u→ ∃ ad,a=some ad∧w.cell? (ad.add j)=some u
theorem ld.nil {w:World} {a:Option Addr} :ld w a [] :=fun j u hu=>by cases hu
theorem ld.none {w:World} {xs:List Value} (h:ld w none xs):xs= [] :=by
 cases xs with
 | nil=>rfl
 | cons u r=>
  obtain ⟨ad,e,_⟩:=h 0 u rfl;cases e
theorem jD {P:Program} (w:World) (base:Nat) (t ty e:TypeId) (i:TypeInfo) (z:Value) (size bytes:Nat) (ht:P.underlying t=some (.slice e)) (hi:P.info? e=some i) (hz:i.zero=some z)
  (hsize:i.size=size) (hby:i.bytes=bytes) (hzs:z.cells.size=size) (hsz:0 < size) (a0:Option Addr) (n0 c0:Nat) (ys:List Value) (ho:w.ownsRow base e size (.slice a0 n0 c0) n0 ys)
  (a:Option Addr) (n cap:Nat) (xs:List Value) (h:ld w a xs) (hl:xs.length=n * size) (h1: ∀ u∈xs,u.oneCell'=true) (h63:n0+n≤4000000) (hb:bytes≤1000) (lY:base≤w.heap.size):
  ∃ a' cap' w',(Builtin.append_ #[t,t] ty #[.slice a0 n0 c0,.slice a n cap]).run P w= .ok (.slice a' (n0+n) cap') w'∧w'.ownsRow base e size (.slice a' (n0+n) cap') (n0+n) (ys ++ xs)∧w.grownBy w' (Value.slice a0 n0 c0).ownBlock∧ ∀ g∈blk a',g∈blk a0∨g=w.heap.size:=by
 cases a with
 | none=>
  have hx:=h.none;subst hx;have hn:n=0:=by
   cases n with
   | zero=>rfl
   | succ n=>simp only [List.length_nil,Nat.succ_mul] at hl; omega
  subst hn;refine ⟨a0,c0,w,?_,by simpa using ho,⟨rfl,rfl,rfl,Ki _,fun _ _ _=>rfl⟩,fun g hg=> .inl hg⟩;have hc:n0≤c0:=by
   obtain ⟨-,⟨e1,e2⟩ | ⟨g,c,cur,e1,-,-,h5,-⟩⟩:=ho
   ·cases e1; exact Ki _
   ·cases e1; exact h5
  cases a0 <;> simp [Builtin.append_,run_underlying ht,sizeOf,typeInfo,hi,Builtin.lenOf,Builtin.firstCells,storeCells,hc]
 | some ad=>
  have hnews: ∀ j u,xs[j]? =some u→w.cell? (ad.add j)=some u:=fun j u hu=>by
   obtain ⟨ad',e',hc⟩:=h j u hu;cases e';exact hc
  obtain ⟨v',w',hr,ho',hgr,-,hbl⟩:=run_append_own_at (P:=P) w base t ty e i z size bytes ht hi hz hsize hby hzs hsz (.slice a0 n0 c0) n0 ys ho ad n cap xs hl hnews h1 (by unfold maxLen; omega) (by have:=Nat.mul_le_mul h63 hb; omega) lY;obtain ⟨a',cap',rfl,-⟩:=cr ho';refine ⟨a',cap',w',hr,ho',hgr,fun g hg=> ?_⟩;rw [fZ] at hg ⊢;cases a' with
  | none=>cases hg
  | some ad'=>
   simp only [J9,LF] at hg;subst hg;rcases hbl with hbl | hbl
   ·refine .inl ?_
    cases a0 with
    | none=>cases hbl
    | some ad0=>simpa [Value.ownBlock] using hbl.symm
   ·exact .inr (by simpa [Value.ownBlock] using hbl)
theorem Hj (g m j:Nat):(⟨g,m,none⟩:Addr).add j=⟨g,m+j,none⟩:=by unfold Addr.add; split <;> simp_all
theorem FH {α:Type} {K:Kind α} {w:World} {a:Option Addr} {l:List α} (k:Nat) (h:Row w a (K.flat l)):ld w (a.map (·.add (k * K.n))) (K.flat (l.drop k)):=fun j u hu=>by
 by_cases hk:k≤l.length
 ·have e:K.flat l=K.flat (l.take k) ++ K.flat (l.drop k):=by rw [← K.dc,Qn]
  have hl:(K.flat (l.take k)).length=k * K.n:=by rw [K.dM,List.length_take,Nat.min_eq_left hk]
  have hu2:(K.flat l)[k * K.n+j]? =some u:=by
   rw [e,List.getElem?_append_right (by omega),hl,Nat.add_sub_cancel_left];exact hu
  obtain ⟨g,rfl,hc⟩:=h _ u hu2;exact ⟨⟨g,k * K.n,none⟩,by rw [J9,qZ],by rw [Hj]; exact hc⟩
 ·rw [List.drop_eq_nil_of_le (by omega)] at hu
  cases hu
theorem IS {w:World} {a:Option Addr} {xs:List Value} (h:Row w a xs):ld w a xs:=fun j u hu=>by
 obtain ⟨g,rfl,hc⟩:=h j u hu;exact ⟨_,rfl,by rw [qZ]; exact hc⟩
theorem uM {α:Type} {K:Kind α} {w:World} {a:Option Addr} {l:List α} (k:Nat) (h:Row w a (K.flat l)):ld w a (K.flat (l.take k)):=fun j u hu=>by
 have e:K.flat l=K.flat (l.take k) ++ K.flat (l.drop k):=by rw [← K.dc,Qn]
 have hu2:(K.flat l)[j]? =some u:=by
  rw [e,List.getElem?_append_left (Lj.1 hu).1];exact hu
 exact IS h j u hu2
theorem ja {w:World} {o i:Nat} {v:Value} :(w.setCell ⟨o,i,none⟩ v).heap.size=w.heap.size:=fH [v]
theorem qK {α:Type} {K:Kind α} {w:World} {a:Option Addr} {l:List α} {k c:Nat} (hk:l.length≤c) (h:Row w a (K.flat l)):ld w (if c=k then a else Option.map (fun x=>x.add (k * K.n)) a) (K.flat (l.drop k)):=by
 split
 ·rw [List.drop_eq_nil_of_le (by omega)]
  exact ld.nil
 ·exact FH k h
end
section
open Go.RowKit Go.Maps
attribute [local go_sem ↓] Kc Kd
def aac (k:eA) (B:Nat) (b0 d0 f b1 d1 b3 e:Bool) (g0 g1 o:Nat) (a0 a1:Option Addr) (c0 c1:Nat):Act:=⟨#[.agg k.row,.pointer (some ⟨B,0,none⟩),.pointer (some ⟨(B+1),0,none⟩),bif b3 then .pointer (some ⟨o,0,none⟩) else undef,undef,.pointer (some ⟨B,0,none⟩),.int .i64 k.now,.pointer (some ⟨B,1,none⟩),.pointer (some ⟨B,1,none⟩),.int .i64 k.major,bif b0 then .slice (some ⟨g0,0,none⟩) 0 0 else undef,.pointer (some ⟨B,1,none⟩),.pointer (some ⟨B,2,none⟩),.slice k.vb k.fn.length k.Te,bif d0 then .slice a0 k.fn.length c0 else undef,bif f then .agg #[.int .i64 k.major,.slice a0 k.fn.length c0] else undef,bif b1 then .slice (some ⟨g1,0,none⟩) 0 0 else undef,.pointer (some ⟨B,4,none⟩),.slice k.qi k.eC.length k.tC,bif d1 then .slice a1 k.eC.length c1 else undef,bif e then .agg #[.int .i64 k.now,.int .i64 k.major,.slice a0 k.fn.length c0,.slice none 0 0,.slice a1 k.eC.length c1] else undef,undef,undef,undef,undef,undef,undef,undef,undef,undef,undef,undef,undef,undef,undef,undef,undef,undef,undef,undef],[]⟩
def aa0 (k:eA) (We:World) (l:Array Bool) (a:Act) (w:World):Prop:= ∃ (b0 d0 f b1 d1 b3 d3 e:Bool) (g0 g1 o:Nat) (a0 a1:Option Addr) (c0 c1:Nat),l= #[true,true,true,true,true,b0,true,true,true,d0,f,b1,true,true,d1,e,b3,d3] ∧a=aac k We.heap.size b0 d0 f b1 d1 b3 e g0 g1 o a0 a1 c0 c1∧Zg k We w b0 d0 f b1 d1 b3 d3 e g0 g1 o a0 a1 c0 c1
abbrev aa4 (k:eA) (w w':World):Prop:=w'.cell? ⟨w.heap.size,0,none⟩=some (.int .i64 k.now)∧w'.cell? ⟨w.heap.size,1,none⟩=some (.int .i64 k.major)∧w'.cell? ⟨w.heap.size,2,none⟩=some (.slice k.vb k.fn.length k.Te)∧w'.cell? ⟨w.heap.size,4,none⟩=some (.slice k.qi k.eC.length k.tC)
structure YY (w W3:World) (X:Nat) (k:eA) (a0 a1:Option Addr) (c0 c1 n:Nat) (I:List af) (Zj:Option Addr) (cp:Nat) (W:World):Prop where
 box:W.heap[X]? =some (.cells #[.int .i64 k.now,.int .i64 k.major,.slice a0 k.fn.length c0,.slice Zj I.length cp,.slice a1 k.eC.length c1] 37 (0,0))
 pg:YR W3.heap.size W3.heap.size I Zj cp W
 pure:I.map (·.pure)=(k.parts.take n).map (·.pure)
 same: ∀ g,g < W3.heap.size→g≠X→W.heap[g]? =W3.heap[g]?
 cd:Below w.heap.size w W
 size:W3.heap.size≤W.heap.size
section
variable {w W3 W W5:World} {X n c0 c1 cp:Nat} {k:eA} {a0 a1 Zj:Option Addr} {I:List af} {p r:af}
theorem YY.drew (h:YY w W3 X k a0 a1 c0 c1 n I Zj cp W):YY w W3 X k a0 a1 c0 c1 n I Zj cp W.drew:=⟨h.box,h.pg.same fun _ _=>rfl,h.pure,h.same,h.cd.drew,h.size⟩
theorem YY.len (h:YY w W3 X k a0 a1 c0 c1 n I Zj cp W):I.length≤n:=by
 have h1:=congrArg List.length h.pure;simp at h1;omega
theorem YY.step (h:YY w W3 X k a0 a1 c0 c1 n I Zj cp W) (hp:k.parts[n]? =some p) (hX:w.heap.size≤X∧X < W3.heap.size) (hn:k.parts.length≤1048576) (hr:ap W5 W.heap.size r) (gn:r.pure=p.pure) (hb:Below W.heap.size W W5):
  ∃ a' cap' w',(Builtin.append_ #[34,34] 34 #[.slice Zj I.length cp,.slice (some ⟨W5.heap.size,0,none⟩) 1 1]).run J3 (W5.alloc (.cells r.cells 48))= .ok (.slice a' (I.length+1) cap') w'∧(∀ g,g < W3.heap.size→w'.heap[g]? =W.heap[g]?)∧Below w.heap.size w w'∧w'.heap[X]? =some (.cells #[.int .i64 k.now,.int .i64 k.major,.slice a0 k.fn.length c0,.slice Zj I.length cp,.slice a1 k.eC.length c1] 37 (0,0))∧YY w W3 X k a0 a1 c0 c1 (n+1) (I ++ [r]) a' cap' (w'.setCell ⟨X,3,none⟩ (.slice a' (I.length+1) cap')):=by
 have hlt:n < k.parts.length:=(Lj.1 hp).1;have hlen:=h.len;have hsz:=h.size;have aaX:=hb.size;have hlow: ∀ g∈blk Zj,W3.heap.size≤g:=fun g hg=>(cf h.pg.own hg).1
 have hf: ∀ g∈r.Mc,g∉blk Zj ++ I.flatMap af.Mc:=fun g hg hm=>by
  have:=h.pg.lt g hm
  have:=(hr.lt g hg).1
  omega
 obtain ⟨a',cap',w',h1,h2,h3,h4⟩:=aaw (h.pg.below hb) (hr.lower hsz) hf (by omega) (by omega);have hw':=h3.size;have lY:Below w.heap.size w w':=(h.cd.trans (hb.mono h.cd.size)).trans (h3.below (by have:=h.cd.size; omega) fun g hg=>by have:=hlow g hg; omega);have hsame: ∀ g,g < W3.heap.size→w'.heap[g]? =W.heap[g]? :=fun g hg=>(h3.same g (by omega) fun hm=>by have:=hlow g hm; omega).trans (hb.block g (by omega))
 have lD:=(hsame X (by omega)).trans h.box;refine ⟨a',cap',w',h1,hsame,lY,lD,?_,h2.same fun g hg=>ac5 _ _ _ _ ?_,?_,fun g hg hx=>(ac5 _ _ _ _ hx).trans ((hsame g hg).trans (h.same g hg hx)),lY.setCell hX.1 _,?_⟩
 ·rw [List.length_append,List.length_singleton]
  exact K7 _ _ _ _ _ _ lD
 ·show g≠X
  rcases Kg.1 hg with hg | hg
  ·have:=(cf h2.own hg).1; omega
  ·obtain ⟨q,hq,hgq⟩:=Rt.1 hg
   have:=((h2.mine q hq).lt g hgq).1
   omega
 ·rw [cj hp,Kl,Kl,h.pure,adl,adl,gn]
 ·simp [World.setCell]; omega
end
def abq (w:World) (k:eA) (e:Ending) (w':World):Prop:= ∃ (k':eA) (g:Nat),e= .returned (.agg k'.row)∧gp w' w.heap.size k'∧k'.pure=k.pure∧(k'.vb=some ⟨g,0,none⟩∧g < w'.heap.size)∧Below w.heap.size w w'
theorem aaz (k:eA) (w:World) (hf:k.Fit) (h:eA.At w k):
  Calls J3 70 #[.agg k.row] w fun e w'=>abq w k e w':=by
 have HF:Hid (k.Fit∧eA.At w k):=⟨hf,h⟩
 have HC:Hid (Zg k w ((w.alloc (.cells k.row 37)).alloc (.cells T9 37)).drew false false false false false false false false 0 0 0 none none 0 0):=by
  have b1:Below w.heap.size w ((w.alloc (.cells k.row 37)).alloc (.cells T9 37)):=((Kp _ _).alloc (Ki _) _).alloc (by simp) _;exact ⟨b1.drew,(PU (by simp)).trans (Kj _ _),Kq _ _ _,⟨(fun h=>by cases h),fun h=>by cases h⟩,⟨(fun h=>by cases h),fun h=>by cases h⟩,(fun h=>by cases h),⟨(fun h=>by cases h),(fun h=>by cases h),fun h=>by cases h⟩,(by simp),⟨fun i j _ q hq=>by rcases i with _ | _ | _ | _ | _ <;> simp [four,bM] at hq,fun i q hq=>by rcases i with _ | _ | _ | _ | _ <;> simp [four,bM] at hq⟩,fun h=>by cases h⟩
 have HS:Hid (aa4 k w ((w.alloc (.cells k.row 37)).alloc (.cells T9 37)).drew):=by obtain ⟨m0,m1,m2,m3,m4⟩:=HC.I.src.cells; exact ⟨m0,m1,m2,m4⟩
 clear hf h
 go_enter Tryz.func70,Tryz.ntmps70
 go_upto_region 1 with fail;generalize (w.alloc (.cells k.row 37)).alloc (.cells T9 37)=W at *;refine ZN (fun a0 a' w'=> ∃ (e5 e6 e7 e8 e9 Pn e11 PF PG e14 e15 e16 PH e18 e19 e20:Value) (g0 g1 o:Nat) (a0' a1':Option Addr) (c0 c1:Nat),a'=Zk a0 [(3,.pointer (some ⟨o,0,none⟩)),(5,e5),(6,e6),(7,e7),(8,e8),(9,e9),(10,Pn),(11,e11),(12,PF),(13,PG),(14,e14),(15,e15),(16,e16),(17,PH),(18,e18),(19,e19),(20,e20)] ∧Zg k w w' true true true true true true true true g0 g1 o a0' a1' c0 c1) ?_ ?_
 ·refine Kr (S:=aa4 k w) (by kernel_rfl) HS.I (fun hHeld=> ?_)
  refine tt 0 hHeld ?_;refine tt 1 hHeld ?_;refine tt 2 hHeld ?_;refine tt 3 hHeld ?_;refine tt 4 hHeld ?_;refine tt 6 hHeld ?_;refine tt 7 hHeld ?_;refine tt 8 hHeld ?_;refine tt 12 hHeld ?_;refine tt 13 hHeld ?_;refine wild (aa0 k w) (fun l a w1 hI=> ?_) (fun l a w1 hI i hi=> ?_) (fun l a w1 hI h0=> ?_) _ _ _ _ ⟨false,false,false,false,false,false,false,false,0,0,0,none,none,0,0,by kernel_rfl,rfl,HC.I⟩ (of_decide_eq_true (by kernel_rfl))
  ·obtain ⟨b0,d0,f,b1,d1,b3,d3,e,g0,g1,o,a0,a1,c0,c1,-,-,hC⟩:=hI
   obtain ⟨m0,m1,m2,m3,m4⟩:=hC.src.cells;exact ⟨m0,m1,m2,m4⟩
  ·obtain ⟨b0,d0,f,b1,d1,b3,d3,e,g0,g1,o,a0,a1,c0,c1,rfl,rfl,hC⟩:=hI
   have HI:Hid (Zg k w w1 b0 d0 f b1 d1 b3 d3 e g0 g1 o a0 a1 c0 c1):=hC;clear hC;unfold aac
   match i,hi with
   | 0,hi=>exact absurd (cX hi) (by simp)
   | 1,hi=>exact absurd (cX hi) (by simp)
   | 2,hi=>exact absurd (cX hi) (by simp)
   | 3,hi=>exact absurd (cX hi) (by simp)
   | 4,hi=>exact absurd (cX hi) (by simp)
   | 5,hi=>
    have hb:b0=false:=by have h5:=cX hi; simpa using h5
    subst hb;refine ln (o:=_) rfl (by kernel_rfl) (fun K hK=> ?_);go_wp2_with fail;exact hK.out _ _ ⟨true,d0,f,b1,d1,b3,d3,e,w1.heap.size,g1,o,a0,a1,c0,c1,by rfl,by rfl,HI.I.aaZ⟩
   | 6,hi=>exact absurd (cX hi) (by simp)
   | 7,hi=>exact absurd (cX hi) (by simp)
   | 8,hi=>exact absurd (cX hi) (by simp)
   | 9,hi=>
    have hb:d0=false:=by have h5:=cX hi; simpa using h5
    have hn5:b0=true:=by have h5:=hF [5,8] hi (by kernel_rfl) 5 (by decide); simpa using h5
    subst hb hn5;refine ln (o:=_) rfl (by kernel_rfl) (fun K hK=> ?_);obtain ⟨a',c',w2,hr,ho,hg,hq,hs⟩:=aaU w1 (w.heap.size+2) g0 (HI.I.s0.made rfl rfl).1 (HI.I.s0.made rfl rfl).2 k.vb k.fn k.Te ((HF.I.2.below HI.I.cd).fn.1) HF.I.1.Ts HI.I.size;refine cM _ _ _ rfl _ _ _ w2 rfl rfl hr ?_;have hf:f=false:=by cases f with | false=>rfl | true=>(have h5:=HI.I.cl.2.2 rfl; simp at h5)
    subst hf;have he:e=false:=by cases e with | false=>rfl | true=>(have h5:=(HI.I.cl.1 rfl).1; simp at h5)
    subst he;exact hK.out _ _ ⟨true,true,false,b1,d1,b3,d3,false,g0,g1,o,a',a1,c',c1,by rfl,by rfl,HI.I.aa1 ho hg hq hs⟩
   | 10,hi=>
    have hb:f=false:=by have h5:=cX hi; simpa using h5
    have hn9:d0=true:=by have h5:=hF [4,9] hi (by kernel_rfl) 9 (by decide); simpa using h5
    subst hb hn9;refine ln (o:=_) rfl (by kernel_rfl) (fun K hK=> ?_);go_wp2_with fail;exact hK.out _ _ ⟨b0,true,true,b1,d1,b3,d3,e,g0,g1,o,a0,a1,c0,c1,by rfl,by rfl,HI.I.frame rfl⟩
   | 11,hi=>
    have hb:b1=false:=by have h5:=cX hi; simpa using h5
    subst hb;refine ln (o:=_) rfl (by kernel_rfl) (fun K hK=> ?_);go_wp2_with fail;exact hK.out _ _ ⟨b0,d0,f,true,d1,b3,d3,e,g0,w1.heap.size,o,a0,a1,c0,c1,by rfl,by rfl,HI.I.abg⟩
   | 12,hi=>exact absurd (cX hi) (by simp)
   | 13,hi=>exact absurd (cX hi) (by simp)
   | 14,hi=>
    have hb:d1=false:=by have h5:=cX hi; simpa using h5
    have hn11:b1=true:=by have h5:=hF [11,13,9] hi (by kernel_rfl) 11 (by decide); simpa using h5
    subst hb hn11;refine ln (o:=_) rfl (by kernel_rfl) (fun K hK=> ?_);obtain ⟨a',c',w2,hr,ho,hg,hq⟩:=abd w1 (w.heap.size+2) g1 (HI.I.s1.made rfl rfl).1 (HI.I.s1.made rfl rfl).2 k.qi k.eC k.tC ((HF.I.2.below HI.I.cd).eC.1) HF.I.1.w8 HI.I.size;refine cM _ _ _ rfl _ _ _ w2 rfl rfl hr ?_;have he:e=false:=by cases e with | false=>rfl | true=>(have h5:=(HI.I.cl.1 rfl).2; simp at h5)
    subst he;exact hK.out _ _ ⟨b0,d0,f,true,true,b3,d3,false,g0,g1,o,a0,a',c0,c',by rfl,by rfl,HI.I.aa2 ho hg hq⟩
   | 15,hi=>
    have hb:e=false:=by have h5:=cX hi; simpa using h5
    have hn10:f=true:=by have h5:=hF [1,10,14] hi (by kernel_rfl) 10 (by decide); simpa using h5
    have hn14:d1=true:=by have h5:=hF [1,10,14] hi (by kernel_rfl) 14 (by decide); simpa using h5
    subst hb hn10 hn14;refine ln (o:=_) rfl (by kernel_rfl) (fun K hK=> ?_);go_wp2_with fail;exact hK.out _ _ ⟨b0,d0,true,b1,true,b3,d3,true,g0,g1,o,a0,a1,c0,c1,by rfl,by rfl,HI.I.build rfl rfl⟩
   | 16,hi=>
    have hb:b3=false:=by have h5:=cX hi; simpa using h5
    subst hb;refine ln (o:=_) rfl (by kernel_rfl) (fun K hK=> ?_);have hd3:d3=false:=by cases d3 with | false=>rfl | true=>(have h5:=HI.I.cl.2.1 rfl; simp at h5)
    subst hd3;go_wp2_with fail;exact hK.out _ _ ⟨b0,d0,f,b1,d1,true,false,e,g0,g1,w1.heap.size,a0,a1,c0,c1,by rfl,by rfl,HI.I.aa9⟩
   | 17,hi=>
    have hb:d3=false:=by have h5:=cX hi; simpa using h5
    have hn16:b3=true:=by have h5:=hF [16,15,14,0,1,2,3,4,5,6,7,8,9,10,11,12,13,14,15,16] hi (by kernel_rfl) 16 (by decide); simpa using h5
    have hn15:e=true:=by have h5:=hF [16,15,14,0,1,2,3,4,5,6,7,8,9,10,11,12,13,14,15,16] hi (by kernel_rfl) 15 (by decide); simpa using h5
    subst hb hn16 hn15;refine ln (o:=_) rfl (by kernel_rfl) (fun K hK=> ?_);refine qd _ _ _ rfl o _ _ _ rfl rfl (HI.I.I rfl) (by kernel_rfl) rfl (by kernel_rfl) ?_;exact hK.out _ _ ⟨b0,d0,f,b1,d1,true,true,true,g0,g1,o,a0,a1,c0,c1,by rfl,by rfl,HI.I.store⟩
   | n+18,hi=>exact absurd (cX hi) (by simp)
  ·obtain ⟨b0,d0,f,b1,d1,b3,d3,e,g0,g1,o,a0,a1,c0,c1,rfl,rfl,hC⟩:=hI
   have hno: ∀ i,i∉Region.ready .any _ _:=fun i hi=>by rw [h0] at hi; cases hi
   have hb0:b0=true:=by cases hx:b0 with | true=>rfl | false=>exact absurd (jW [] (by kernel_rfl) (by kernel_rfl) (by simp [hx]) (fun j hj=>by cases hj)) (hno 5)
   have hd0:d0=true:=by cases hx:d0 with | true=>rfl | false=>exact absurd (jW [5,8] (by kernel_rfl) (by kernel_rfl) (by simp [hx]) (fun j hj=>by simp only [Kt,Ku,or_false] at hj; rcases hj with rfl | rfl <;> first | rfl | simp [hb0])) (hno 9)
   have hf:f=true:=by cases hx:f with | true=>rfl | false=>exact absurd (jW [4,9] (by kernel_rfl) (by kernel_rfl) (by simp [hx]) (fun j hj=>by simp only [Kt,Ku,or_false] at hj; rcases hj with rfl | rfl <;> first | rfl | simp [hd0])) (hno 10)
   have hb1:b1=true:=by cases hx:b1 with | true=>rfl | false=>exact absurd (jW [] (by kernel_rfl) (by kernel_rfl) (by simp [hx]) (fun j hj=>by cases hj)) (hno 11)
   have hd1:d1=true:=by cases hx:d1 with | true=>rfl | false=>exact absurd (jW [11,13,9] (by kernel_rfl) (by kernel_rfl) (by simp [hx]) (fun j hj=>by simp only [Kt,Ku,or_false] at hj; rcases hj with rfl | rfl | rfl <;> first | rfl | simp [hb1,hd0])) (hno 14)
   have he:e=true:=by cases hx:e with | true=>rfl | false=>exact absurd (jW [1,10,14] (by kernel_rfl) (by kernel_rfl) (by simp [hx]) (fun j hj=>by simp only [Kt,Ku,or_false] at hj; rcases hj with rfl | rfl | rfl <;> first | rfl | simp [hf,hd1])) (hno 15)
   have hb3:b3=true:=by cases hx:b3 with | true=>rfl | false=>exact absurd (jW [] (by kernel_rfl) (by kernel_rfl) (by simp [hx]) (fun j hj=>by cases hj)) (hno 16)
   have hd3:d3=true:=by cases hx:d3 with | true=>rfl | false=>exact absurd (jW [16,15,14,0,1,2,3,4,5,6,7,8,9,10,11,12,13,14,15,16] (by kernel_rfl) (by kernel_rfl) (by simp [hx]) (fun j hj=>by simp only [Kt,Ku,or_false] at hj; rcases hj with rfl | rfl | rfl | rfl | rfl | rfl | rfl | rfl | rfl | rfl | rfl | rfl | rfl | rfl | rfl | rfl | rfl | rfl | rfl | rfl <;> first | rfl | simp [hb0,hd0,hf,hb1,hd1,he,hb3])) (hno 17)
   subst hb0 hd0 hf hb1 hd1 he hb3 hd3;simp only [aac,cond_true];exact ⟨_,_,_,_,_,_,_,_,_,_,_,_,_,_,_,_,g0,g1,o,a0,a1,c0,c1,by simp only [Zk,pt,sb,s0,s1]; rfl,hC⟩
 ·rintro a' W3 ⟨e5,e6,e7,e8,e9,Pn,e11,PF,PG,e14,e15,e16,PH,e18,e19,e20,g0,g1,X,a0,a1,c0,c1,rfl,hC⟩
  have HI:=aA hC;clear hC HC HS;simp only [Zk,pt,sb,s0,s1];have HX:Hid (w.heap.size+2≤X∧X < W3.heap.size):=HI.I.pR.xy 3 X (by simp [four]);go_wp2_with fail
  go_loopw [4] (fun i wr=> ∃ n:Nat,n≤k.parts.length∧i= .int .i64 n∧Hid (∃ (I:List af) (Zj:Option Addr) (cp:Nat),YY w W3 X k a0 a1 c0 c1 n I Zj cp wr)) (fun i _=>k.parts.length - (Go.RowKit.intOf i).toNat)
  case atStart=>exact ⟨0,Ky _,rfl,⟨[],none,0,HI.I.I rfl,YR.start _ _ _,rfl,fun _ _ _=>rfl,HI.I.cd,Ki _⟩⟩
  case round=>
   obtain ⟨n,hk,rfl,HA⟩:=hrel;obtain ⟨I,Zj,cp,hA⟩:=HA.I;replace HA:=aA hA;clear hA;have hkb:Tk wr w.heap.size k:=(HA.I.same _ (by have:=HX.I; omega) (by have:=HX.I; omega)).trans HI.I.src;by_cases hlt:n < k.parts.length
   ·have i0:(0:Int)≤(n:Int):=by omega
    have i1:(n:Int) < (k.parts.length:Int):=by omega
    have hl20:=HF.I.1.sC;obtain ⟨p,hp⟩: ∃ p,k.parts[n]? =some p:=⟨_,Kz hlt⟩
    have HP:=aA hp;clear hp;have Ul:=aA hkb;obtain ⟨m0,m1,m2,m3,m4⟩:=hkb.cells;clear hkb;go_upto_region 5 with fail;clear m0 m1 m2 m3 m4;refine ZN (fun a0' a' w'=> ∃ (e28 e29 e30 e31 e32 e33 e34 e35 e36 e37 e38:Value) (aaF:List af) (ap2:Option Addr) (cp2:Nat),a'=Zk a0' [(28,e28),(29,e29),(30,e30),(31,e31),(32,e32),(33,e33),(34,e34),(35,e35),(36,e36),(37,e37),(38,e38)] ∧YY w W3 X k a0 a1 c0 c1 (n+1) aaF ap2 cp2 w') ?_ ?_
    ·refine Kr (S:=(fun W=>Below w.heap.size w W∧Tk W w.heap.size k)) (by kernel_rfl) ⟨HA.I.cd.drew,Ul.I⟩ (fun _=> ?_)
     replace HA:=aA HA.I.drew;replace Ul:Hid (Tk (World.drew _) w.heap.size k):=Ul.I;generalize World.drew _=V at *;have HSV:Hid (Below w.heap.size w V∧Tk V w.heap.size k):=⟨HA.I.cd,Ul.I⟩
     obtain ⟨gs,iE,-,-⟩:=ic HF.I.2.parts HP.I;have HG:Hid (∀ W,Below w.heap.size w W→af.In W gs n p):=fun W hW=>by obtain ⟨g2,h2,h3,-⟩:=ic (HF.I.2.below hW).parts HP.I; rw [iE] at h2; cases h2; exact h3
     have HGA:=aA iE;clear iE;refine tt 0 HSV.I ?_;refine tt 2 HSV.I ?_;refine tt 3 HSV.I ?_ (hy:=fun w0 hS0=>by obtain ⟨m0,m1,m2,m3,m4⟩:=hS0.2.cells; rw [HGA.I] at m3; go_simp; try with_reducible rfl);refine tt 4 HSV.I ?_;refine tt 5 HSV.I ?_;refine tt 6 HSV.I ?_ (hy:=fun w0 hS0=>by obtain ⟨q0,q1,q2,q3,q4,q5,q6,q7⟩:=HG.I w0 hS0.1; go_simp; try with_reducible rfl)
     try simp only [pt,sb,s0,s1]
     have HCX:Hid (∀ W:World,W.heap[X]? =some (.cells #[.int .i64 k.now,.int .i64 k.major,.slice a0 k.fn.length c0,.slice Zj I.length cp,.slice a1 k.eC.length c1] 37 (0,0))→W.cell? ⟨X,3,none⟩=some (.slice Zj I.length cp)):=fun W h=>by simp [World.cell?,h]
     have HT:Hid (Calls J3 46 #[.agg p.cells] V fun e W5=> ∃ r:af,e= .returned (.agg r.cells)∧Below V.heap.size V W5∧ ∃ a' cap' w',(Builtin.append_ #[34,34] 34 #[.slice Zj I.length cp,.slice (some ⟨W5.heap.size,0,none⟩) 1 1]).run J3 (W5.alloc (.cells r.cells 48))= .ok (.slice a' (I.length+1) cap') w'∧(∀ g,g < W3.heap.size→w'.heap[g]? =V.heap[g]?)∧Below w.heap.size w w'∧w'.heap[X]? =some (.cells #[.int .i64 k.now,.int .i64 k.major,.slice a0 k.fn.length c0,.slice Zj I.length cp,.slice a1 k.eC.length c1] 37 (0,0))∧YY w W3 X k a0 a1 c0 c1 (n+1) (I ++ [r]) a' cap' (w'.setCell ⟨X,3,none⟩ (.slice a' (I.length+1) cap'))):=by
      have hfp:=HF.I.1.parts p (KA HP.I);refine adn (fR p V hfp.1 hfp.2 (by obtain ⟨g2,-,-,h3⟩:=ic (HF.I.2.below HA.I.cd).parts HP.I; exact h3)) ?_;rintro e W5 ⟨r,rfl,ho,gn,hb⟩;exact ⟨r,rfl,hb,HA.I.step HP.I ⟨by have:=HX.I.1; omega,HX.I.2⟩ HF.I.1.sC ho gn hb⟩
     refine KW (rs:= [1,7]) (by kernel_rfl) (by simp) ?_;refine KX rfl (fun Q hQ=> ?_) (KX rfl (fun Q hQ=> ?_) KY)
     focus
      simp only [KZ,K0,K1];rw [if_pos (by rfl)];have c3:=HCX.I V HA.I.box
      try simp only [af.cells] at c3
      go_wp2_with fail;clear c3;refine hQ.out _ _ HSV.I (fun _=> ?_);clear hQ Q
      try simp only [pt,sb,s0,s1]
      refine L7 7 (fun Q hQ=> ?_)
      try simp only [af.cells] at HT
      go_wp2_with fail;refine HT.I.mono ?_;rintro e W5 ⟨r,rfl,iJ,a',cap',w',hap,qY,lY,lW,hpl⟩;have H5:Hid ((Below w.heap.size w W5∧Tk W5 w.heap.size k)∧(Below w.heap.size w (W5.alloc (.cells r.cells 48))∧Tk (W5.alloc (.cells r.cells 48)) w.heap.size k)∧W5.heap[X]? =V.heap[X]? ∧(W5.alloc (.cells r.cells 48)).heap[X]? =V.heap[X]?):=by
       have hv:=HA.I.cd.trans (iJ.mono HA.I.cd.size);have hs:=iJ.size;have hs2:=HA.I.size;have Ix:=HX.I;have hx:W5.heap[X]? =V.heap[X]? :=iJ.block X (by omega);have hk5:Tk W5 w.heap.size k:=(iJ.block _ (by omega)).trans Ul.I;exact ⟨⟨hv,hk5⟩,⟨hv.alloc hv.size _,(adD _ _ _ (by omega)).trans hk5⟩,hx,(adD _ _ _ (by omega)).trans hx⟩
      have HN:Hid ((Builtin.append_ #[34,34] 34 #[.slice Zj I.length cp,.slice (some ⟨W5.heap.size,0,none⟩) 1 1]).run J3 (W5.alloc (.cells r.cells 48))= .ok (.slice a' (I.length+1) cap') w'):=hap;have HM:Hid ((Below w.heap.size w w'∧Tk w' w.heap.size k)∧w'.heap[X]? =some (.cells #[.int .i64 k.now,.int .i64 k.major,.slice a0 k.fn.length c0,.slice Zj I.length cp,.slice a1 k.eC.length c1] 37 (0,0))∧YY w W3 X k a0 a1 c0 c1 (n+1) (I ++ [r]) a' cap' (w'.setCell ⟨X,3,none⟩ (.slice a' (I.length+1) cap'))∧Tk (w'.setCell ⟨X,3,none⟩ (.slice a' (I.length+1) cap')) w.heap.size k):=by
       have Ix:=HX.I;have zU:Tk w' w.heap.size k:=(qY _ (by omega)).trans Ul.I;exact ⟨⟨lY,zU⟩,lW,hpl,(ac5 _ _ _ _ (by show w.heap.size≠X; omega)).trans zU⟩
      clear hap qY lY lW hpl iJ;refine hQ.out _ _ H5.I.1 (fun _=> ?_);clear hQ Q
      try simp only [pt,sb,s0,s1]
      refine L7 8 (fun Q hQ=> ?_)
      try simp only [af.cells]
      go_wp2_with fail;refine hQ.out _ _ H5.I.2.1 (fun _=> ?_);clear hQ Q
      try simp only [pt,sb,s0,s1]
     rotate_left
     focus
      simp only [KZ,K0,K1];rw [if_pos (by rfl)]
      try simp only [af.cells] at HT
      go_wp2_with fail;refine HT.I.mono ?_;rintro e W5 ⟨r,rfl,iJ,a',cap',w',hap,qY,lY,lW,hpl⟩;have H5:Hid ((Below w.heap.size w W5∧Tk W5 w.heap.size k)∧(Below w.heap.size w (W5.alloc (.cells r.cells 48))∧Tk (W5.alloc (.cells r.cells 48)) w.heap.size k)∧W5.heap[X]? =V.heap[X]? ∧(W5.alloc (.cells r.cells 48)).heap[X]? =V.heap[X]?):=by
       have hv:=HA.I.cd.trans (iJ.mono HA.I.cd.size);have hs:=iJ.size;have hs2:=HA.I.size;have Ix:=HX.I;have hx:W5.heap[X]? =V.heap[X]? :=iJ.block X (by omega);have hk5:Tk W5 w.heap.size k:=(iJ.block _ (by omega)).trans Ul.I;exact ⟨⟨hv,hk5⟩,⟨hv.alloc hv.size _,(adD _ _ _ (by omega)).trans hk5⟩,hx,(adD _ _ _ (by omega)).trans hx⟩
      have HN:Hid ((Builtin.append_ #[34,34] 34 #[.slice Zj I.length cp,.slice (some ⟨W5.heap.size,0,none⟩) 1 1]).run J3 (W5.alloc (.cells r.cells 48))= .ok (.slice a' (I.length+1) cap') w'):=hap;have HM:Hid ((Below w.heap.size w w'∧Tk w' w.heap.size k)∧w'.heap[X]? =some (.cells #[.int .i64 k.now,.int .i64 k.major,.slice a0 k.fn.length c0,.slice Zj I.length cp,.slice a1 k.eC.length c1] 37 (0,0))∧YY w W3 X k a0 a1 c0 c1 (n+1) (I ++ [r]) a' cap' (w'.setCell ⟨X,3,none⟩ (.slice a' (I.length+1) cap'))∧Tk (w'.setCell ⟨X,3,none⟩ (.slice a' (I.length+1) cap')) w.heap.size k):=by
       have Ix:=HX.I;have zU:Tk w' w.heap.size k:=(qY _ (by omega)).trans Ul.I;exact ⟨⟨lY,zU⟩,lW,hpl,(ac5 _ _ _ _ (by show w.heap.size≠X; omega)).trans zU⟩
      clear hap qY lY lW hpl iJ;refine hQ.out _ _ H5.I.1 (fun _=> ?_);clear hQ Q
      try simp only [pt,sb,s0,s1]
      refine KW (rs:= [1,8]) (by kernel_rfl) (by simp) ?_;refine KX rfl (fun Q hQ=> ?_) (KX rfl (fun Q hQ=> ?_) KY)
      focus
       simp only [KZ,K0,K1];rw [if_pos (by rfl)];have c3:=HCX.I W5 (H5.I.2.2.1.trans HA.I.box)
       try simp only [af.cells] at c3
       go_wp2_with fail;clear c3;refine hQ.out _ _ H5.I.1 (fun _=> ?_);clear hQ Q
       try simp only [pt,sb,s0,s1]
       refine L7 8 (fun Q hQ=> ?_)
       try simp only [af.cells]
       go_wp2_with fail;refine hQ.out _ _ H5.I.2.1 (fun _=> ?_);clear hQ Q
       try simp only [pt,sb,s0,s1]
      rotate_left
      focus
       simp only [KZ,K0,K1];rw [if_pos (by rfl)]
       try simp only [af.cells]
       go_wp2_with fail;refine hQ.out _ _ H5.I.2.1 (fun _=> ?_);clear hQ Q
       try simp only [pt,sb,s0,s1]
       refine L7 1 (fun Q hQ=> ?_);have c3:=HCX.I _ (H5.I.2.2.2.trans HA.I.box)
       try simp only [af.cells] at c3
       go_wp2_with fail;clear c3;refine hQ.out _ _ H5.I.2.1 (fun _=> ?_);clear hQ Q
       try simp only [pt,sb,s0,s1]
     all_goals
      refine L7 9 (fun Q hQ=> ?_);refine cM _ _ 34 rfl _ _ _ w' rfl rfl HN.I ?_;refine hQ.out _ _ HM.I.1 (fun _=> ?_);clear hQ Q
      try simp only [pt,sb,s0,s1]
      refine tt 10 HM.I.1 ?_;refine L7 11 (fun Q hQ=> ?_);have c3:w'.cell? ⟨X,3,none⟩=some (.slice Zj I.length cp):=HCX.I _ HM.I.2.1;have u3:w'.frozen? ⟨X,3,none⟩=false:=by have:=HM.I.2.1; simp [World.frozen?,this]
      go_wp2_with fail;clear c3 u3;refine hQ.out _ _ ⟨HM.I.2.2.1.cd,HM.I.2.2.2⟩ (fun _=> ?_);clear hQ Q;refine K3 (by kernel_rfl) ?_ _;exact ⟨_,_,_,_,_,_,_,_,_,_,_,I ++ [r],a',cap',by simp only [Zk,pt,sb,s0,s1]; rfl,HM.I.2.2.1⟩
    ·rintro a' W5 ⟨e28,e29,e30,e31,e32,e33,e34,e35,e36,e37,e38,aaF,ap2,cp2,rfl,hA2⟩
     replace HA:=aA hA2;clear hA2;simp only [Zk,pt,sb,s0,s1];go_wp2;go_roundw
     case rel=>exact ⟨n+1,by omega,by go_num,⟨aaF,ap2,cp2,HA.I⟩⟩
     case measure=>simp [Go.RowKit.intOf]; omega
   ·have i1: ¬ (n:Int) < (k.parts.length:Int):=by omega
    have ek:n=k.parts.length:=by omega
    subst ek;obtain ⟨m0,m1,m2,m3,m4⟩:=hkb.cells;clear hkb;have hz0:wr.heap[w.heap.size+1]? =some (.cells T9 37 (0,0)):=(HA.I.same _ (by have:=HX.I; omega) (by have:=HX.I; omega)).trans HI.I.ret;have lW:=HA.I.box;have b0:wr.cell? ⟨X,0,none⟩=some (.int .i64 k.now):=by simp [World.cell?,lW]
    have b1:wr.cell? ⟨X,1,none⟩=some (.int .i64 k.major):=by simp [World.cell?,lW]
    have b2:wr.cell? ⟨X,2,none⟩=some (.slice a0 k.fn.length c0):=by simp [World.cell?,lW]
    have b3:wr.cell? ⟨X,3,none⟩=some (.slice Zj I.length cp):=by simp [World.cell?,lW]
    have b4:wr.cell? ⟨X,4,none⟩=some (.slice a1 k.eC.length c1):=by simp [World.cell?,lW]
    clear lW;go_wp2_with (refine wpList_store_row rfl 37 (.tmp 2) (.tmp 39) rfl _ _ _ #[.int .i64 k.now,.int .i64 k.major,.slice a0 k.fn.length c0,.slice Zj I.length cp,.slice a1 k.eC.length c1] rfl rfl hz0 (by kernel_rfl) rfl (by simp [Value.oneCell']) ?_);refine rtK Tryz.results70 hz0 ?_;have q0:=HX.I;have q4:=HA.I.size;have ap0:=HI.I.pR;have o1:=HI.I.s0.done rfl;have o2:=HI.I.s1.done rfl;have TX: ∀ g∈blk a0,w.heap.size+2≤g∧g < W3.heap.size∧g≠X:=fun g hg=>⟨(cf o1 hg).1,(cf o1 hg).2,fun e=>ap0.apart 0 3 (by decide) g (by simpa [four,bM] using hg) (by simp [four,e])⟩
    have aao: ∀ g∈blk a1,w.heap.size+2≤g∧g < W3.heap.size∧g≠X:=fun g hg=>⟨(cf o2 hg).1,(cf o2 hg).2,fun e=>ap0.apart 1 3 (by decide) g (by simpa [four,bM] using hg) (by simp [four,e])⟩
    have hpar: ∀ g∈blk Zj ++ I.flatMap af.Mc,W3.heap.size≤g:=fun g hg=>by
     rcases Kg.1 hg with hg | hg
     ·exact (cf HA.I.pg.own hg).1
     ·obtain ⟨q,hq,hgq⟩:=Rt.1 hg
      exact ((HA.I.pg.mine q hq).lt g hgq).1
    generalize hcs: #[Value.int .i64 k.now,.int .i64 k.major,.slice a0 k.fn.length c0,.slice Zj I.length cp,.slice a1 k.eC.length c1] =cs;have sm: ∀ g,g≠w.heap.size+1→(wr.setRow (w.heap.size+1) cs).heap[g]? =wr.heap[g]? :=fun g h3=>KH _ _ _ _ h3
    have sm1: ∀ g,g < W3.heap.size→g≠X→g≠w.heap.size+1→(wr.setRow (w.heap.size+1) cs).heap[g]? =W3.heap[g]? :=fun g h1 h2 h3=>(sm g h3).trans (HA.I.same g h1 h2)
    have pg2:=HA.I.pg.same (W1:=wr.setRow (w.heap.size+1) cs) fun g hg=>by have:=hpar g hg; exact sm g (by omega)
    have own1:=aL (w':=wr.setRow (w.heap.size+1) cs) o1 fun g hg=>by have:=TX g hg; exact sm1 g (by omega) (by omega) (by omega)
    have abv:=aL (w':=wr.setRow (w.heap.size+1) cs) o2 fun g hg=>by have:=aao g hg; exact sm1 g (by omega) (by omega) (by omega)
    obtain ⟨gw,Fw⟩:=HI.I.som rfl;have hgl:gw < W3.heap.size:=(TX gw (by rw [Fw]; simp [blk])).2.1;refine ⟨⟨k.now,k.major,k.fn,a0,c0,I,Zj,cp,k.eC,a1,c1⟩,gw,by simp [← hcs],⟨cq own1 (by omega),cq pg2.own (by omega),cq abv (by omega),fun q hq=>(pg2.mine q hq).lower (by omega),?_⟩,?_,⟨Fw,by rw [size_setRow]; omega⟩,kz HA.I.cd (by omega) _⟩
    ·have hb1: ∀ x:Option Addr,(blk x).Nodup:=fun x=>by cases x <;> simp [blk]
     have hn:=Kf.1 HA.I.pg.nodup;refine Kf.2 ⟨hb1 _,Kf.2 ⟨hb1 _,Kf.2 ⟨hb1 _,hn.2.1,fun g hg g' hg' e=> ?_⟩,fun g hg g' hg' e=> ?_⟩,fun g hg g' hg' e=> ?_⟩
     ·have:=aao g hg; have:=hpar g' (Ly _ hg'); omega
     ·rcases Kg.1 hg' with h5 | h5
      ·have:=hpar g (Lz _ hg); have:=aao g' h5; omega
      ·exact hn.2.2 g hg g' h5 e
     ·have:=TX g hg
      rcases Kg.1 hg' with h5 | h5
      ·have:=hpar g' (Lz _ h5); omega
      ·rcases Kg.1 h5 with h5 | h5
       ·exact ap0.apart 0 1 (by decide) g (by simpa [four,bM] using hg) (by rw [e]; simpa [four,bM] using h5)
       ·have:=hpar g' (Ly _ h5); omega
    ·show kd.mk k.now k.major k.fn (I.map (·.pure)) k.eC=k.pure
     rw [HA.I.pure,LQ];rfl
end
section
open Go.RowKit Go.Maps
theorem adR {w W:World} {k:kd} {K:Nat} (hk:eP k=true) (h:VL w k K W): ∃ (b:Nat) (tab:Array Value) (l:List (aZ × Nat)) (ls:List gi) (a:Option Addr) (cap B:Nat),abE k w.heap.size K b tab l ls a cap B W∧ ∀ o∈ls,Joins l o:=by
 obtain ⟨w1,b,tab,l,ls,a,cap,h1,h2,h3,h4,h5,h6,_,h8⟩:=h.ex;have hR: ∀ p∈l,aQ p.1.pure:=fun p hp=>Ww hk _ (by rw [← h3]; exact Lr.2 ⟨p,hp,rfl⟩)
 have hi:=Xo hk;have hw:k.fn.length≤20:=by
  have h9:=hk;simp only [eP,E4,nn,J7,decide_eq_true_eq] at h9;omega
 refine ⟨b,tab,l,ls,a,cap,w1.heap.size,⟨h1,hw,h2.kept h6.kept,h3,h4,h6.TN,h6.own,fun p hp=>iB (hR p hp),⟨?_,?_⟩,h8,fun p hp=> ?_⟩,h5⟩
 ·have h9:=congrArg List.length h3
  rw [KG] at h9;omega
 ·have h9:=congrArg List.length h4
  rw [KG] at h9;omega
 ·have h9:=bz.1 (hR p hp).id
  simp only [aZ.pure] at h9;have e1:IntKind.min .i64≤0:=by decide
  have e2:100000≤IntKind.max .i64:=by decide
  simp only [Lit.wf,J7,decide_eq_true_eq];omega
theorem cJ.lt {w:World} {base o:Nat} {S:aZ} (h:cJ w base o S): ∀ c∈o :: (S.boxes ++ S.kids),c < w.heap.size:=fun c hc=>by
 simp only [aZ.boxes,aZ.kids,Kt,Kg] at hc;rcases hc with rfl | ((hc | hc | hc | hc | hc | hc) | hc | hc | hc)
 ·exact (J2.1 h.opn).1
 ·exact h.L8.lt c (Kt.2 hc)
 ·exact h.aj.lt c (Kt.2 hc)
 ·exact h.L9.lt c (Kt.2 hc)
 ·exact h.ag.lt c (Kt.2 hc)
 ·exact h.ae.lt c (Kt.2 hc)
 ·exact h.ai.lt c (Kt.2 hc)
 ·obtain ⟨r,hr,hk⟩:=Lq.1 hc
  exact ((h.eI r hr).lt hk).2
 ·obtain ⟨r,hr,hk⟩:=Lq.1 hc
  exact ((h.eE r hr).lt hk).2
 ·obtain ⟨r,hr,hk⟩:=Lq.1 hc
  exact ((h.eR r hr).lt hk).2
end
end Go.Proofs.YteidkehoekbcaaaGreat
