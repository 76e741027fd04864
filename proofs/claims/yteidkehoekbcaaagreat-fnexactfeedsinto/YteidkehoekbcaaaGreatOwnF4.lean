/- What the proof leans on, part 4. -/
import Derived.Test.YteidkehoekbcaaaGreatOwnF1
import Derived.Test.YteidkehoekbcaaaGreatOwnF2
set_option maxRecDepth 100000
set_option maxHeartbeats 8000000
open Go renaming wp_at_succ->Kd,wp_at_zero->Kc
open Go.Proofs.Tryz renaming prog->J3
open List renaming append_assoc->Lm,append_nil->QO,getElem?_eq_getElem->Kz,length_take->Lk,mem_of_getElem?->KA,take_length->LQ
open Nat renaming add_zero->PT,zero_le->Ky

namespace Go.Proofs.YteidkehoekbcaaaGreat
open Go.RowKit
attribute [local go_sem ↓] Kc Kd
def bj (x:ao):Nat:=2+aF (fun _:dN=>4) x.prog+9
def rI (k k2:Int) (x:ao):ao:= { x with id:=k,RX:=k+1,prog:=aJ fj (fun _=>4) (k+1+1) x.prog,Md:=k2,pc:=k2+1,left:=k2+1+1,Mg:=k2+1+1+1,on:=k2+1+1+1+1,held:=cu (k2+1+1+1+1+1),got:=cu (k2+1+1+1+1+1+1),code:=k2+1+1+1+1+1+1+1,RU:=k2+1+1+1+1+1+1+1+1 }
def cw (k:Int) (x:ao):ao:=rI k (k+1+1+(aF (fun _:dN=>4) x.prog:Nat)) x
theorem BB (a:Option Addr) (l:List ao) (cap:Nat) (k:Int) (w:World) (base:Nat) (hl:l.length≤1048576) (hk: ∀ x∈l,x.prog.length≤1048576) (h0:1≤k) (h1:k+(aF bj l:Nat)≤90000000) (ho:w.ownsRow base 148 12 (.slice a l.length cap) l.length (bg.flat l)) (hm: ∀ x∈l,aR.cO w base x) (hn:(blk a ++ l.filterMap aR.bt).Nodup):
  Calls J3 57 #[.slice a l.length cap,.int .i64 k] w fun e w'=>e= .returned (.int .i64 (k+(aF bj l:Nat)))∧w'.ownsRow base 148 12 (.slice a l.length cap) l.length (bg.flat (aJ cw bj k l))∧(∀ y∈aJ cw bj k l,aR.cO w' base y)∧aI w w' (blk a ++ l.filterMap aR.bt):=by
 by_cases hz:l.length=0
 ·have hl0:l= [] :=List.eq_nil_of_length_eq_zero hz
  subst hl0;have HO:Hid (w.ownsRow base 148 12 (.slice a 0 cap) 0 (bg.flat [])):=ho;clear ho
  go_enter Tryz.func57,Tryz.ntmps57
  go_wp2_with fail
  go_loopw [1,5] (fun q i wr=>q= .int .i64 k∧i= .int .i64 0∧wr=w) (fun _ _ _=>0)
  case atStart=>exact ⟨rfl,rfl,rfl⟩
  case round=>
   obtain ⟨rfl,rfl,rfl⟩:=hrel;go_wp2;go_ret;exact ⟨ck (by simp [aF]),HO.I,(fun y hy=>by cases hy),aI.refl _ _⟩
 obtain ⟨g,rfl,hrow⟩:=bl.fX (K:=bg) ho hz;have HR:Hid (bl bg 148 w base g cap l∧fp aR w base g l):=⟨hrow,hm,hn⟩
 have HB:Hid (k+(aF bj l:Nat)≤90000000∧ ∀ x∈l,x.prog.length≤1048576):=⟨h1,hk⟩
 clear ho hrow h1 hz hm hn hk
 go_enter Tryz.func57,Tryz.ntmps57
 go_wp2_with fail
 go_loopw [1,5] (fun q i wr=> ∃ (j:Nat) (m:Int),j≤l.length∧i= .int .i64 j∧q= .int .i64 m∧1≤m∧m≤90000000∧Hid (m=k+(aF bj (l.take j):Nat)∧bl bg 148 wr base g cap (aJ cw bj k (l.take j) ++ l.drop j)∧fp aR wr base g (aJ cw bj k (l.take j) ++ l.drop j)∧aI w wr (g :: l.filterMap aR.bt))) (fun _ i _=>l.length - (intOf i).toNat)
 case atStart=>exact ⟨0,k,Ky _,rfl,rfl,h0,by have:=HB.I.1; omega,⟨by simp [aF],HR.I.1,HR.I.2,aI.refl _ _⟩⟩
 case round=>
  clear HR;obtain ⟨j,m,hj,rfl,rfl,m0,m1,HA⟩:=hrel;by_cases hlt:j < l.length
  ·have i0:(0:Int)≤(j:Int):=by omega
   have i1:(j:Int) < (l.length:Int):=by omega
   obtain ⟨x,hx⟩: ∃ x,l[j]? =some x:=⟨_,Kz hlt⟩
   have pI:l.drop j=x :: l.drop (j+1):=mz hx;have qw:=du (c:=bj) hx;have hup:=gK (c:=bj) hx;have hcx:bj x=2+aF (fun _:dN=>4) x.prog+9:=rfl;have HX:Hid (l[j]? =some x∧x.prog.length≤1048576∧m+1+1+(aF (fun _:dN=>4) x.prog:Nat)+9≤90000000∧m+1+1+(aF (fun _:dN=>4) x.prog:Nat)+9=k+(aF bj (l.take (j+1)):Nat)):=⟨hx,HB.I.2 x (KA hx),by have:=HB.I.1; have:=HA.I.1; omega,by have:=HA.I.1; omega⟩
   have HW:Hid (bl bg 148 wr base g cap (aJ cw bj k (l.take j) ++ x :: l.drop (j+1))∧(aJ cw bj k (l.take j)).length=j):=⟨by have:=HA.I.2.1; rwa [pI] at this,by rw [bE,Lk]; omega⟩
   have HM:Hid (fp aR wr base g (aJ cw bj k (l.take j) ++ x :: l.drop (j+1))):=by have:=HA.I.2.2.1; rwa [pI] at this
   have m2:m+1+1≤90000000:=by have:=HX.I.2.2.1; omega
   have hgl:g < wr.heap.size:=HW.I.1.lt;clear hx pI qw hup hcx;obtain ⟨⟨u0,c0⟩,f0⟩:(∃ u,wr.cell? ⟨g,j * 12,none⟩=some u)∧wr.frozen? ⟨g,j * 12,none⟩=false:=bl.eO HW.I.1 HW.I.2 (r:=0) (by decide:0 < bg.n);obtain ⟨⟨u1,c1⟩,f1⟩:(∃ u,wr.cell? ⟨g,j * 12+1,none⟩=some u)∧wr.frozen? ⟨g,j * 12+1,none⟩=false:=bl.eO HW.I.1 HW.I.2 (r:=1) (by decide:1 < bg.n);have c2:wr.cell? ⟨g,j * 12+2,none⟩=some (.slice x.aY x.prog.length x.bH):=(bl.uD HW.I.1 HW.I.2 (r:=2) (by decide:2 < bg.n))
   have h5:=bl.part (K:=bg) (x:=x) (y:=({ x with id:=m,RX:=m+1 } :ao)) (j:=0) (vs:= [.int .i64 m,.int .i64 (m+1)]) HW.I.1 (by show 0+2≤12; omega) (fun r hr=>by match r,hr with | 0,_=>rfl | 1,_=>rfl) (fun r hr hn=>by match r,hr,hn with | 0,_,hn=>exact absurd ⟨by omega,by show 0 < 0+2; omega⟩ hn | 1,_,hn=>exact absurd ⟨by omega,by show 1 < 0+2; omega⟩ hn | 2,_,_=>rfl | 3,_,_=>rfl | 4,_,_=>rfl | 5,_,_=>rfl | 6,_,_=>rfl | 7,_,_=>rfl | 8,_,_=>rfl | 9,_,_=>rfl | 10,_,_=>rfl | 11,_,_=>rfl);rw [HW.I.2,show bg.n=12 from rfl] at h5;have h6:aI wr (bn wr g (j * 12) [.int .i64 m,.int .i64 (m+1)]) [g] :=aI.set _ (by simp);simp only [bn,PT] at h5 h6;have HS:Hid (bl bg 148 ((wr.setCell ⟨g,j * 12,none⟩ (.int .i64 m)).setCell ⟨g,j * 12+1,none⟩ (.int .i64 (m+1))) base g cap (aJ cw bj k (l.take j) ++ ({ x with id:=m,RX:=m+1 } :ao) :: l.drop (j+1))∧fp aR ((wr.setCell ⟨g,j * 12,none⟩ (.int .i64 m)).setCell ⟨g,j * 12+1,none⟩ (.int .i64 (m+1))) base g (aJ cw bj k (l.take j) ++ ({ x with id:=m,RX:=m+1 } :ao) :: l.drop (j+1))∧aI w ((wr.setCell ⟨g,j * 12,none⟩ (.int .i64 m)).setCell ⟨g,j * 12+1,none⟩ (.int .i64 (m+1))) (g :: l.filterMap aR.bt)):=⟨h5,(HM.I.keep h6).ju rfl ((HM.I.keep h6).mine x (by simp)),HA.I.2.2.2.trans (h6.mono (by simp))⟩
   clear h5 h6;go_wp2_with fail;generalize (wr.setCell ⟨g,j * 12,none⟩ (.int .i64 m)).setCell ⟨g,j * 12+1,none⟩ (.int .i64 (m+1))=W1 at *;clear c2;refine (xP x.aY x.prog x.bH (m+1+1) W1 base HX.I.2.1 (by omega) (by have:=HX.I.2.2.1; omega) (HS.I.2.1.mine ({ x with id:=m,RX:=m+1 } :ao) (by simp))).mono ?_;rintro e v ⟨rfl,hown,hkb⟩;have HV:Hid (bl bg 148 v base g cap (aJ cw bj k (l.take j) ++ ({ x with id:=m,RX:=m+1,prog:=aJ fj (fun _=>4) (m+1+1) x.prog } :ao) :: l.drop (j+1))∧fp aR v base g (aJ cw bj k (l.take j) ++ ({ x with id:=m,RX:=m+1,prog:=aJ fj (fun _=>4) (m+1+1) x.prog } :ao) :: l.drop (j+1))∧aI w v (g :: l.filterMap aR.bt)):=by
    have hap:=HS.I.2.1.apart (z:=({ x with id:=m,RX:=m+1 } :ao)) (by simp);have h7:=HS.I.1.same (hkb.same g HS.I.1.lt hap);have hm7:aR.cO v base ({ x with id:=m,RX:=m+1,prog:=aJ fj (fun _=>4) (m+1+1) x.prog } :ao):=by
     show v.ownsRow base _ 4 (.slice x.aY (aJ fj (fun _=>4) (m+1+1) x.prog).length x.bH) (aJ fj (fun _=>4) (m+1+1) x.prog).length (fk.flat (aJ fj (fun _=>4) (m+1+1) x.prog))
     rw [bE];exact hown
    refine ⟨?_,HS.I.2.1.inner hkb rfl hm7,HS.I.2.2.trans (hkb.mono fun b hb=> ?_)⟩
    ·exact bl.part (K:=bg) (x:=({ x with id:=m,RX:=m+1 } :ao)) (y:=({ x with id:=m,RX:=m+1,prog:=aJ fj (fun _=>4) (m+1+1) x.prog } :ao)) (j:=0) (vs:= []) h7 (by show 0+0≤12; omega) (fun r hr=>absurd hr (by simp)) (fun r hr _=>by match r,hr with | 0,_=>rfl | 1,_=>rfl | 2,_=>(show some (Value.slice x.aY (aJ fj (fun _=>4) (m+1+1) x.prog).length x.bH)=some (.slice x.aY x.prog.length x.bH); rw [bE]) | 3,_=>rfl | 4,_=>rfl | 5,_=>rfl | 6,_=>rfl | 7,_=>rfl | 8,_=>rfl | 9,_=>rfl | 10,_=>rfl | 11,_=>rfl)
    ·exact List.mem_cons_of_mem _ (List.mem_filterMap.2 ⟨x,KA HX.I.1,fZ.1 hb⟩)
   obtain ⟨m',hm'⟩: ∃ q:Int,q=m+1+1+(aF (fun _:dN=>4) x.prog:Nat):=⟨_,rfl⟩
   rw [← hm'];have HQ:Hid (m'=m+1+1+(aF (fun _:dN=>4) x.prog:Nat)):=hm';have p0:1≤m':=by omega
   have p1:m'+9≤90000000:=by have:=HX.I.2.2.1; omega
   clear hown hkb HS hm';obtain ⟨⟨u3,c3⟩,f3⟩:(∃ u,v.cell? ⟨g,j * 12+3,none⟩=some u)∧v.frozen? ⟨g,j * 12+3,none⟩=false:=bl.eO HV.I.1 HW.I.2 (r:=3) (by decide:3 < bg.n);obtain ⟨⟨u4,c4⟩,f4⟩:(∃ u,v.cell? ⟨g,j * 12+4,none⟩=some u)∧v.frozen? ⟨g,j * 12+4,none⟩=false:=bl.eO HV.I.1 HW.I.2 (r:=4) (by decide:4 < bg.n);obtain ⟨⟨u5,c5⟩,f5⟩:(∃ u,v.cell? ⟨g,j * 12+5,none⟩=some u)∧v.frozen? ⟨g,j * 12+5,none⟩=false:=bl.eO HV.I.1 HW.I.2 (r:=5) (by decide:5 < bg.n);obtain ⟨⟨u6,c6⟩,f6⟩:(∃ u,v.cell? ⟨g,j * 12+6,none⟩=some u)∧v.frozen? ⟨g,j * 12+6,none⟩=false:=bl.eO HV.I.1 HW.I.2 (r:=6) (by decide:6 < bg.n);obtain ⟨⟨u7,c7⟩,f7⟩:(∃ u,v.cell? ⟨g,j * 12+7,none⟩=some u)∧v.frozen? ⟨g,j * 12+7,none⟩=false:=bl.eO HV.I.1 HW.I.2 (r:=7) (by decide:7 < bg.n);have h5:=bl.part (K:=bg) (x:=({ x with id:=m,RX:=m+1,prog:=aJ fj (fun _=>4) (m+1+1) x.prog } :ao)) (y:=({ x with id:=m,RX:=m+1,prog:=aJ fj (fun _=>4) (m+1+1) x.prog,Md:=m',pc:=m'+1,left:=m'+1+1,Mg:=m'+1+1+1,on:=m'+1+1+1+1 } :ao)) (j:=3) (vs:= [.int .i64 (m'),.int .i64 (m'+1),.int .i64 (m'+1+1),.int .i64 (m'+1+1+1),.int .i64 (m'+1+1+1+1)]) HV.I.1 (by show 3+5≤12; omega) (fun r hr=>by match r,hr with | 0,_=>rfl | 1,_=>rfl | 2,_=>rfl | 3,_=>rfl | 4,_=>rfl) (fun r hr hn=>by match r,hr,hn with | 0,_,_=>rfl | 1,_,_=>rfl | 2,_,_=>rfl | 3,_,hn=>exact absurd ⟨by omega,by show 3 < 3+5; omega⟩ hn | 4,_,hn=>exact absurd ⟨by omega,by show 4 < 3+5; omega⟩ hn | 5,_,hn=>exact absurd ⟨by omega,by show 5 < 3+5; omega⟩ hn | 6,_,hn=>exact absurd ⟨by omega,by show 6 < 3+5; omega⟩ hn | 7,_,hn=>exact absurd ⟨by omega,by show 7 < 3+5; omega⟩ hn | 8,_,_=>rfl | 9,_,_=>rfl | 10,_,_=>rfl | 11,_,_=>rfl);rw [HW.I.2,show bg.n=12 from rfl] at h5;have h6:aI v (bn v g (j * 12+3) [.int .i64 (m'),.int .i64 (m'+1),.int .i64 (m'+1+1),.int .i64 (m'+1+1+1),.int .i64 (m'+1+1+1+1)]) [g] :=aI.set _ (by simp);simp only [bn,Nat.add_assoc,Nat.reduceAdd] at h5 h6;have mH:Hid (bl bg 148 (((((v.setCell ⟨g,j * 12+3,none⟩ (.int .i64 (m'))).setCell ⟨g,j * 12+4,none⟩ (.int .i64 (m'+1))).setCell ⟨g,j * 12+5,none⟩ (.int .i64 (m'+1+1))).setCell ⟨g,j * 12+6,none⟩ (.int .i64 (m'+1+1+1))).setCell ⟨g,j * 12+7,none⟩ (.int .i64 (m'+1+1+1+1))) base g cap (aJ cw bj k (l.take j) ++ ({ x with id:=m,RX:=m+1,prog:=aJ fj (fun _=>4) (m+1+1) x.prog,Md:=m',pc:=m'+1,left:=m'+1+1,Mg:=m'+1+1+1,on:=m'+1+1+1+1 } :ao) :: l.drop (j+1))∧fp aR (((((v.setCell ⟨g,j * 12+3,none⟩ (.int .i64 (m'))).setCell ⟨g,j * 12+4,none⟩ (.int .i64 (m'+1))).setCell ⟨g,j * 12+5,none⟩ (.int .i64 (m'+1+1))).setCell ⟨g,j * 12+6,none⟩ (.int .i64 (m'+1+1+1))).setCell ⟨g,j * 12+7,none⟩ (.int .i64 (m'+1+1+1+1))) base g (aJ cw bj k (l.take j) ++ ({ x with id:=m,RX:=m+1,prog:=aJ fj (fun _=>4) (m+1+1) x.prog,Md:=m',pc:=m'+1,left:=m'+1+1,Mg:=m'+1+1+1,on:=m'+1+1+1+1 } :ao) :: l.drop (j+1))∧aI w (((((v.setCell ⟨g,j * 12+3,none⟩ (.int .i64 (m'))).setCell ⟨g,j * 12+4,none⟩ (.int .i64 (m'+1))).setCell ⟨g,j * 12+5,none⟩ (.int .i64 (m'+1+1))).setCell ⟨g,j * 12+6,none⟩ (.int .i64 (m'+1+1+1))).setCell ⟨g,j * 12+7,none⟩ (.int .i64 (m'+1+1+1+1))) (g :: l.filterMap aR.bt)):=⟨h5,(HV.I.2.1.keep h6).ju rfl ((HV.I.2.1.keep h6).mine ({ x with id:=m,RX:=m+1,prog:=aJ fj (fun _=>4) (m+1+1) x.prog } :ao) (by simp)),HV.I.2.2.trans (h6.mono (by simp))⟩
   clear h5 h6;go_wp2_with fail;refine (fh (m'+1+1+1+1+1) (by omega) (by omega) _).mono ?_;rintro e v1 ⟨rfl,hb⟩;have wm:Hid (bl bg 148 v1 base g cap (aJ cw bj k (l.take j) ++ ({ x with id:=m,RX:=m+1,prog:=aJ fj (fun _=>4) (m+1+1) x.prog,Md:=m',pc:=m'+1,left:=m'+1+1,Mg:=m'+1+1+1,on:=m'+1+1+1+1 } :ao) :: l.drop (j+1))∧fp aR v1 base g (aJ cw bj k (l.take j) ++ ({ x with id:=m,RX:=m+1,prog:=aJ fj (fun _=>4) (m+1+1) x.prog,Md:=m',pc:=m'+1,left:=m'+1+1,Mg:=m'+1+1+1,on:=m'+1+1+1+1 } :ao) :: l.drop (j+1))∧aI w v1 (g :: l.filterMap aR.bt)):=⟨mH.I.1.same (hb.block g mH.I.1.lt),mH.I.2.1.keep (aI.dI hb),mH.I.2.2.trans (aI.dI hb)⟩
   clear hb;obtain ⟨⟨u8,c8⟩,f8⟩:(∃ u,v1.cell? ⟨g,j * 12+8,none⟩=some u)∧v1.frozen? ⟨g,j * 12+8,none⟩=false:=bl.eO wm.I.1 HW.I.2 (r:=8) (by decide:8 < bg.n);have h5:=bl.part (K:=bg) (x:=({ x with id:=m,RX:=m+1,prog:=aJ fj (fun _=>4) (m+1+1) x.prog,Md:=m',pc:=m'+1,left:=m'+1+1,Mg:=m'+1+1+1,on:=m'+1+1+1+1 } :ao)) (y:=({ x with id:=m,RX:=m+1,prog:=aJ fj (fun _=>4) (m+1+1) x.prog,Md:=m',pc:=m'+1,left:=m'+1+1,Mg:=m'+1+1+1,on:=m'+1+1+1+1,held:=cu (m'+1+1+1+1+1) } :ao)) (j:=8) (vs:= [.string (cu (m'+1+1+1+1+1))]) wm.I.1 (by show 8+1≤12; omega) (fun r hr=>by match r,hr with | 0,_=>rfl) (fun r hr hn=>by match r,hr,hn with | 0,_,_=>rfl | 1,_,_=>rfl | 2,_,_=>rfl | 3,_,_=>rfl | 4,_,_=>rfl | 5,_,_=>rfl | 6,_,_=>rfl | 7,_,_=>rfl | 8,_,hn=>exact absurd ⟨by omega,by show 8 < 8+1; omega⟩ hn | 9,_,_=>rfl | 10,_,_=>rfl | 11,_,_=>rfl);rw [HW.I.2,show bg.n=12 from rfl] at h5;have h6:aI v1 (bn v1 g (j * 12+8) [.string (cu (m'+1+1+1+1+1))]) [g] :=aI.set _ (by simp);simp only [bn] at h5 h6;have mO:Hid (bl bg 148 (v1.setCell ⟨g,j * 12+8,none⟩ (.string (cu (m'+1+1+1+1+1)))) base g cap (aJ cw bj k (l.take j) ++ ({ x with id:=m,RX:=m+1,prog:=aJ fj (fun _=>4) (m+1+1) x.prog,Md:=m',pc:=m'+1,left:=m'+1+1,Mg:=m'+1+1+1,on:=m'+1+1+1+1,held:=cu (m'+1+1+1+1+1) } :ao) :: l.drop (j+1))∧fp aR (v1.setCell ⟨g,j * 12+8,none⟩ (.string (cu (m'+1+1+1+1+1)))) base g (aJ cw bj k (l.take j) ++ ({ x with id:=m,RX:=m+1,prog:=aJ fj (fun _=>4) (m+1+1) x.prog,Md:=m',pc:=m'+1,left:=m'+1+1,Mg:=m'+1+1+1,on:=m'+1+1+1+1,held:=cu (m'+1+1+1+1+1) } :ao) :: l.drop (j+1))∧aI w (v1.setCell ⟨g,j * 12+8,none⟩ (.string (cu (m'+1+1+1+1+1)))) (g :: l.filterMap aR.bt)):=⟨h5,(wm.I.2.1.keep h6).ju rfl ((wm.I.2.1.keep h6).mine ({ x with id:=m,RX:=m+1,prog:=aJ fj (fun _=>4) (m+1+1) x.prog,Md:=m',pc:=m'+1,left:=m'+1+1,Mg:=m'+1+1+1,on:=m'+1+1+1+1 } :ao) (by simp)),wm.I.2.2.trans (h6.mono (by simp))⟩
   clear h5 h6;go_wp2_with fail;refine (fh (m'+1+1+1+1+1+1) (by omega) (by omega) _).mono ?_;rintro e v2 ⟨rfl,hb⟩;have xD:Hid (bl bg 148 v2 base g cap (aJ cw bj k (l.take j) ++ ({ x with id:=m,RX:=m+1,prog:=aJ fj (fun _=>4) (m+1+1) x.prog,Md:=m',pc:=m'+1,left:=m'+1+1,Mg:=m'+1+1+1,on:=m'+1+1+1+1,held:=cu (m'+1+1+1+1+1) } :ao) :: l.drop (j+1))∧fp aR v2 base g (aJ cw bj k (l.take j) ++ ({ x with id:=m,RX:=m+1,prog:=aJ fj (fun _=>4) (m+1+1) x.prog,Md:=m',pc:=m'+1,left:=m'+1+1,Mg:=m'+1+1+1,on:=m'+1+1+1+1,held:=cu (m'+1+1+1+1+1) } :ao) :: l.drop (j+1))∧aI w v2 (g :: l.filterMap aR.bt)):=⟨mO.I.1.same (hb.block g mO.I.1.lt),mO.I.2.1.keep (aI.dI hb),mO.I.2.2.trans (aI.dI hb)⟩
   clear hb;obtain ⟨⟨u9,c9⟩,f9⟩:(∃ u,v2.cell? ⟨g,j * 12+9,none⟩=some u)∧v2.frozen? ⟨g,j * 12+9,none⟩=false:=bl.eO xD.I.1 HW.I.2 (r:=9) (by decide:9 < bg.n);obtain ⟨⟨u10,qF⟩,f10⟩:(∃ u,v2.cell? ⟨g,j * 12+10,none⟩=some u)∧v2.frozen? ⟨g,j * 12+10,none⟩=false:=bl.eO xD.I.1 HW.I.2 (r:=10) (by decide:10 < bg.n);obtain ⟨⟨u11,pe⟩,f11⟩:(∃ u,v2.cell? ⟨g,j * 12+11,none⟩=some u)∧v2.frozen? ⟨g,j * 12+11,none⟩=false:=bl.eO xD.I.1 HW.I.2 (r:=11) (by decide:11 < bg.n);have h5:=bl.part (K:=bg) (x:=({ x with id:=m,RX:=m+1,prog:=aJ fj (fun _=>4) (m+1+1) x.prog,Md:=m',pc:=m'+1,left:=m'+1+1,Mg:=m'+1+1+1,on:=m'+1+1+1+1,held:=cu (m'+1+1+1+1+1) } :ao)) (y:=({ x with id:=m,RX:=m+1,prog:=aJ fj (fun _=>4) (m+1+1) x.prog,Md:=m',pc:=m'+1,left:=m'+1+1,Mg:=m'+1+1+1,on:=m'+1+1+1+1,held:=cu (m'+1+1+1+1+1),got:=cu (m'+1+1+1+1+1+1),code:=m'+1+1+1+1+1+1+1,RU:=m'+1+1+1+1+1+1+1+1 } :ao)) (j:=9) (vs:= [.string (cu (m'+1+1+1+1+1+1)),.int .i64 (m'+1+1+1+1+1+1+1),.int .i64 (m'+1+1+1+1+1+1+1+1)]) xD.I.1 (by show 9+3≤12; omega) (fun r hr=>by match r,hr with | 0,_=>rfl | 1,_=>rfl | 2,_=>rfl) (fun r hr hn=>by match r,hr,hn with | 0,_,_=>rfl | 1,_,_=>rfl | 2,_,_=>rfl | 3,_,_=>rfl | 4,_,_=>rfl | 5,_,_=>rfl | 6,_,_=>rfl | 7,_,_=>rfl | 8,_,_=>rfl | 9,_,hn=>exact absurd ⟨by omega,by show 9 < 9+3; omega⟩ hn | 10,_,hn=>exact absurd ⟨by omega,by show 10 < 9+3; omega⟩ hn | 11,_,hn=>exact absurd ⟨by omega,by show 11 < 9+3; omega⟩ hn);rw [HW.I.2,show bg.n=12 from rfl] at h5;have h6:aI v2 (bn v2 g (j * 12+9) [.string (cu (m'+1+1+1+1+1+1)),.int .i64 (m'+1+1+1+1+1+1+1),.int .i64 (m'+1+1+1+1+1+1+1+1)]) [g] :=aI.set _ (by simp);simp only [bn,Nat.add_assoc,Nat.reduceAdd] at h5 h6;have EU:Hid (bl bg 148 (((v2.setCell ⟨g,j * 12+9,none⟩ (.string (cu (m'+1+1+1+1+1+1)))).setCell ⟨g,j * 12+10,none⟩ (.int .i64 (m'+1+1+1+1+1+1+1))).setCell ⟨g,j * 12+11,none⟩ (.int .i64 (m'+1+1+1+1+1+1+1+1))) base g cap (aJ cw bj k (l.take j) ++ ({ x with id:=m,RX:=m+1,prog:=aJ fj (fun _=>4) (m+1+1) x.prog,Md:=m',pc:=m'+1,left:=m'+1+1,Mg:=m'+1+1+1,on:=m'+1+1+1+1,held:=cu (m'+1+1+1+1+1),got:=cu (m'+1+1+1+1+1+1),code:=m'+1+1+1+1+1+1+1,RU:=m'+1+1+1+1+1+1+1+1 } :ao) :: l.drop (j+1))∧fp aR (((v2.setCell ⟨g,j * 12+9,none⟩ (.string (cu (m'+1+1+1+1+1+1)))).setCell ⟨g,j * 12+10,none⟩ (.int .i64 (m'+1+1+1+1+1+1+1))).setCell ⟨g,j * 12+11,none⟩ (.int .i64 (m'+1+1+1+1+1+1+1+1))) base g (aJ cw bj k (l.take j) ++ ({ x with id:=m,RX:=m+1,prog:=aJ fj (fun _=>4) (m+1+1) x.prog,Md:=m',pc:=m'+1,left:=m'+1+1,Mg:=m'+1+1+1,on:=m'+1+1+1+1,held:=cu (m'+1+1+1+1+1),got:=cu (m'+1+1+1+1+1+1),code:=m'+1+1+1+1+1+1+1,RU:=m'+1+1+1+1+1+1+1+1 } :ao) :: l.drop (j+1))∧aI w (((v2.setCell ⟨g,j * 12+9,none⟩ (.string (cu (m'+1+1+1+1+1+1)))).setCell ⟨g,j * 12+10,none⟩ (.int .i64 (m'+1+1+1+1+1+1+1))).setCell ⟨g,j * 12+11,none⟩ (.int .i64 (m'+1+1+1+1+1+1+1+1))) (g :: l.filterMap aR.bt)):=⟨h5,(xD.I.2.1.keep h6).ju rfl ((xD.I.2.1.keep h6).mine ({ x with id:=m,RX:=m+1,prog:=aJ fj (fun _=>4) (m+1+1) x.prog,Md:=m',pc:=m'+1,left:=m'+1+1,Mg:=m'+1+1+1,on:=m'+1+1+1+1,held:=cu (m'+1+1+1+1+1) } :ao) (by simp)),xD.I.2.2.trans (h6.mono (by simp))⟩
   clear h5 h6;have HN:Hid (bl bg 148 (((v2.setCell ⟨g,j * 12+9,none⟩ (.string (cu (m'+1+1+1+1+1+1)))).setCell ⟨g,j * 12+10,none⟩ (.int .i64 (m'+1+1+1+1+1+1+1))).setCell ⟨g,j * 12+11,none⟩ (.int .i64 (m'+1+1+1+1+1+1+1+1))) base g cap (aJ cw bj k (l.take (j+1)) ++ l.drop (j+1))∧fp aR (((v2.setCell ⟨g,j * 12+9,none⟩ (.string (cu (m'+1+1+1+1+1+1)))).setCell ⟨g,j * 12+10,none⟩ (.int .i64 (m'+1+1+1+1+1+1+1))).setCell ⟨g,j * 12+11,none⟩ (.int .i64 (m'+1+1+1+1+1+1+1+1))) base g (aJ cw bj k (l.take (j+1)) ++ l.drop (j+1))∧aI w (((v2.setCell ⟨g,j * 12+9,none⟩ (.string (cu (m'+1+1+1+1+1+1)))).setCell ⟨g,j * 12+10,none⟩ (.int .i64 (m'+1+1+1+1+1+1+1))).setCell ⟨g,j * 12+11,none⟩ (.int .i64 (m'+1+1+1+1+1+1+1+1))) (g :: l.filterMap aR.bt)):=by
    rw [kE HX.I.1,Lm,← HA.I.1,show cw m x=rI m m' x by rw [HQ.I]; rfl];exact EU.I
   go_wp2;go_roundw
   case rel=>exact ⟨j+1,m'+9,by omega,by go_num,by go_num,by omega,by omega,⟨by have:=HX.I.2.2.2; have:=HQ.I; omega,HN.I.1,HN.I.2.1,HN.I.2.2⟩⟩
   case measure=>simp [intOf]; omega
  ·have i1: ¬ (j:Int) < (l.length:Int):=by omega
   have ej:j=l.length:=by omega
   subst ej;have HE:Hid (bl bg 148 wr base g cap (aJ cw bj k l)∧fp aR wr base g (aJ cw bj k l)∧m=k+(aF bj l:Nat)):=by have h5:=HA.I.2.1; have h6:=HA.I.1; have h7:=HA.I.2.2.1; rw [LQ,List.drop_length,QO] at h5 h7; rw [LQ] at h6; exact ⟨h5,h7,h6⟩
   go_wp2;go_ret;refine ⟨ck HE.I.2.2,?_,HE.I.2.1.mine,HA.I.2.2.2⟩;have h7:=HE.I.1.owns;rw [bE] at h7;exact h7
end Go.Proofs.YteidkehoekbcaaaGreat

namespace Go.Proofs.YteidkehoekbcaaaGreat
open Go.RowKit
attribute [local go_sem ↓] Kc Kd
def Xz:Kind Int:=⟨1,fun z=> [.int .i64 z],fun _=> [],by decide,fun _=>rfl⟩
theorem Yq (l:List Int):Xz.flat l=Xn l:=by
 induction l with
 | nil=>rfl
 | cons x r ih=>simp only [Kind.flat,List.flatMap_cons] at ih ⊢; rw [ih]; rfl
def Xx (k:Int) (_:Int):Int:=k
theorem Yd (a:Option Addr) (l:List Int) (cap:Nat) (k:Int) (w:World) (base:Nat) (hl:l.length≤1048576) (h0:1≤k) (h1:k+(aF (fun _=>1) l:Nat)≤90000000) (ho:w.ownsRow base 2 1 (.slice a l.length cap) l.length (Xz.flat l)):
  Calls J3 25 #[.slice a l.length cap,.int .i64 k] w fun e w'=>e= .returned (.int .i64 (k+(aF (fun _=>1) l:Nat)))∧w'.ownsRow base 2 1 (.slice a l.length cap) l.length (Xz.flat (aJ Xx (fun _=>1) k l))∧aI w w' (blk a):=by
 by_cases hz:l.length=0
 ·have hl0:l= [] :=List.eq_nil_of_length_eq_zero hz
  subst hl0;have HO:Hid (w.ownsRow base 2 1 (.slice a 0 cap) 0 (Xz.flat [])):=ho;clear ho
  go_enter Tryz.func25,Tryz.ntmps25
  go_wp2_with fail
  go_loopw [1,5] (fun q i wr=>q= .int .i64 k∧i= .int .i64 0∧wr=w) (fun _ _ _=>0)
  case atStart=>exact ⟨rfl,rfl,rfl⟩
  case round=>
   obtain ⟨rfl,rfl,rfl⟩:=hrel;go_wp2;go_ret;exact ⟨ck (by simp [aF]),HO.I,aI.refl _ _⟩
 obtain ⟨g,rfl,hrow⟩:=bl.fX (K:=Xz) ho hz;have HR:Hid (bl Xz 2 w base g cap l):=hrow;have HB:Hid (k+(aF (fun _:Int=>1) l:Nat)≤90000000):=h1;clear ho hrow h1 hz
 go_enter Tryz.func25,Tryz.ntmps25
 go_wp2_with fail
 go_loopw [1,5] (fun q i wr=> ∃ (j:Nat) (m:Int),j≤l.length∧i= .int .i64 j∧q= .int .i64 m∧1≤m∧m≤90000000∧Hid (m=k+(aF (fun _:Int=>1) (l.take j):Nat)∧bl Xz 2 wr base g cap (aJ Xx (fun _=>1) k (l.take j) ++ l.drop j)∧aI w wr [g])) (fun _ i _=>l.length - (intOf i).toNat)
 case atStart=>exact ⟨0,k,Ky _,rfl,rfl,h0,by have:=HB.I; omega,⟨by simp [aF],HR.I,aI.refl _ _⟩⟩
 case round=>
  clear HR;obtain ⟨j,m,hj,rfl,rfl,m0,m1,HA⟩:=hrel;by_cases hlt:j < l.length
  ·have i0:(0:Int)≤(j:Int):=by omega
   have i1:(j:Int) < (l.length:Int):=by omega
   obtain ⟨x,hx⟩: ∃ x,l[j]? =some x:=⟨_,Kz hlt⟩
   have pI:l.drop j=x :: l.drop (j+1):=mz hx;have qw:=du (c:=fun _:Int=>1) hx;have hup:=gK (c:=fun _:Int=>1) hx;have HX:Hid (l[j]? =some x∧m+1≤90000000∧m+1=k+(aF (fun _:Int=>1) (l.take (j+1)):Nat)):=⟨hx,by have:=HB.I; have:=HA.I.1; omega,by have:=HA.I.1; omega⟩
   have HW:Hid (bl Xz 2 wr base g cap (aJ Xx (fun _=>1) k (l.take j) ++ x :: l.drop (j+1))∧(aJ Xx (fun _=>1) k (l.take j)).length=j):=⟨by have:=HA.I.2.1; rwa [pI] at this,by rw [bE,Lk]; omega⟩
   clear hx pI qw hup;have m2:m+1≤90000000:=HX.I.2.1;have hgl:g < wr.heap.size:=HW.I.1.lt;have q0:=bl.eO HW.I.1 HW.I.2 (r:=0) (by decide:0 < Xz.n);obtain ⟨⟨u0,c0⟩,f0⟩:(∃ u,wr.cell? ⟨g,j,none⟩=some u)∧wr.frozen? ⟨g,j,none⟩=false:=by have h5:=q0; rw [show j * Xz.n+0=j by show j * 1+0=j; omega] at h5; exact h5
   have h5:=bl.part (K:=Xz) (x:=x) (y:=(m)) (j:=0) (vs:= [.int .i64 (m)]) HW.I.1 (by show 0+1≤1; omega) (fun r hr=>by match r,hr with | 0,_=>rfl) (fun r hr hn=>by match r,hr,hn with | 0,_,hn=>exact absurd ⟨by omega,by show 0 < 0+1; omega⟩ hn );rw [HW.I.2,show Xz.n=1 from rfl] at h5;simp only [bn,Nat.mul_one,PT] at h5;have ES:Hid (bl Xz 2 (wr.setCell ⟨g,j,none⟩ (.int .i64 (m))) base g cap (aJ Xx (fun _=>1) k (l.take j) ++ (m) :: l.drop (j+1))∧(aJ Xx (fun _=>1) k (l.take j)).length=j):=⟨h5,HW.I.2⟩
   have h6:aI w (bn wr g (j) [.int .i64 (m)]) [g] :=HA.I.2.2.trans (aI.set _ (by simp));simp only [bn] at h6;have zy:Hid (aI w (wr.setCell ⟨g,j,none⟩ (.int .i64 (m))) [g]):=h6;clear h6;clear h5;have HN:Hid (bl Xz 2 (wr.setCell ⟨g,j,none⟩ (.int .i64 (m))) base g cap (aJ Xx (fun _=>1) k (l.take (j+1)) ++ l.drop (j+1))∧aI w (wr.setCell ⟨g,j,none⟩ (.int .i64 (m))) [g]):=⟨by rw [kE HX.I.1,Lm,← HA.I.1]; exact ES.I.1,zy.I⟩
   go_wp2;go_roundw
   case rel=>exact ⟨j+1,m+1,by omega,by go_num,by go_num,by omega,by omega,⟨HX.I.2.2,HN.I.1,HN.I.2⟩⟩
   case measure=>simp [intOf]; omega
  ·have i1: ¬ (j:Int) < (l.length:Int):=by omega
   have ej:j=l.length:=by omega
   subst ej;have HE:Hid (bl Xz 2 wr base g cap (aJ Xx (fun _=>1) k l)∧m=k+(aF (fun _:Int=>1) l:Nat)):=by have h5:=HA.I.2.1; have h6:=HA.I.1; rw [LQ,List.drop_length,QO] at h5; rw [LQ] at h6; exact ⟨h5,h6⟩
   go_wp2;go_ret;refine ⟨ck HE.I.2,?_,HA.I.2.2.mono (by simp [blk])⟩;have h7:=HE.I.1.owns;rw [bE] at h7;exact h7
theorem XR (a:Option Addr) (l:List Int) (cap:Nat) (k:Int) (w:World) (hl:l.length≤1048576) (h0:1≤k) (h1:k+(aF (fun _=>1) l:Nat)≤90000000) (hr:Xz.bU w a (aJ Xx (fun _=>1) k l)):
  Calls J3 26 #[.slice a l.length cap,.int .i64 k] w fun e w'=>e= .returned (.int .i64 (k+(aF (fun _=>1) l:Nat)))∧Below w.heap.size w w':=by
 have HR:Hid (Xz.bU w a (aJ Xx (fun _=>1) k l)∧k+(aF (fun _:Int=>1) l:Nat)≤90000000):=⟨hr,h1⟩
 clear hr h1
 go_enter Tryz.func26,Tryz.ntmps26
 go_wp2_with fail
 go_loopw [1,5] (fun q i wr=> ∃ (j:Nat) (m:Int),j≤l.length∧i= .int .i64 j∧q= .int .i64 m∧1≤m∧m≤90000000∧Hid (m=k+(aF (fun _:Int=>1) (l.take j):Nat)∧Below w.heap.size w wr)) (fun _ i _=>l.length - (intOf i).toNat)
 case atStart=>exact ⟨0,k,Ky _,rfl,rfl,h0,by have:=HR.I.2; omega,⟨by simp [aF],Below.refl _ _⟩⟩
 case round=>
  obtain ⟨j,m,hj,rfl,rfl,m0,m1,HA⟩:=hrel;by_cases hlt:j < l.length
  ·have i0:(0:Int)≤(j:Int):=by omega
   have i1:(j:Int) < (l.length:Int):=by omega
   obtain ⟨x,hx⟩: ∃ x,l[j]? =some x:=⟨_,Kz hlt⟩
   have qw:=du (c:=fun _:Int=>1) hx;have hup:=gK (c:=fun _:Int=>1) hx;have hg:=jK (f:=Xx) (c:=fun _:Int=>1) (k:=k) hx;rw [← HA.I.1] at hg;obtain ⟨g,ha,hat⟩:=(HR.I.1.below HA.I.2).at hg;have c0:wr.cell? ⟨g,j,none⟩=some (.int .i64 (m)):=by have h5:=hat 0 _ rfl; rw [show j * Xz.n+0=j by show j * 1+0=j; omega] at h5; exact h5
   have HX:Hid (m+1≤90000000∧m+1=k+(aF (fun _:Int=>1) (l.take (j+1)):Nat)∧a=some ⟨g,0,none⟩∧(aJ Xx (fun _=>1) k l)[j]? =some (Xx m x)):=⟨by have:=HR.I.2; have:=HA.I.1; omega,by have:=HA.I.1; omega,ha,hg⟩
   have m2:m+1≤90000000:=HX.I.1;subst ha;clear hx qw hup hg hat;go_wp2;go_roundw
   case rel=>exact ⟨j+1,m+1,by omega,by go_num,by go_num,by omega,by omega,⟨HX.I.2.1,HA.I.2⟩⟩
   case measure=>simp [intOf]; omega
  ·have i1: ¬ (j:Int) < (l.length:Int):=by omega
   have HE:Hid (m=k+(aF (fun _:Int=>1) l:Nat)):=by have h6:=HA.I.1; rw [List.take_of_length_le (by omega)] at h6; exact h6
   go_wp2;go_ret;exact ⟨ck HE.I,HA.I.2⟩
end Go.Proofs.YteidkehoekbcaaaGreat
