/- What the proof leans on, part 6. -/
import Derived.Test.YteidkehoekbcaaaGreatOwnP3
import Derived.Test.YteidkehoekbcaaaGreatOwnP4
set_option maxRecDepth 100000
set_option maxHeartbeats 8000000
open Go.Proofs.Tryz renaming prog->J3
open Go.RowKit.Below renaming refl->Kp
open List renaming append_assoc->Lm,append_nil->QO,getElem?_eq_getElem->Kz,length_map->KG,length_take->Lk,mem_cons_of_mem->LB,mem_filterMap->Lq,mem_of_getElem?->KA,mem_singleton->KB,take_length->LQ,take_of_length_le->KF
open Nat renaming add_zero->PT,le_refl->Ki,zero_le->Ky

namespace Go.Proofs.YteidkehoekbcaaaGreat
section
open Go.RowKit
attribute [local go_sem ↓] Go.wp_at_zero Go.wp_at_succ
def bj (x:ao):Nat:=2+aF (fun _:dN=>4) x.prog+9
def rI (k k2:Int) (x:ao):ao:= { x with id:=k,RX:=k+1,prog:=aJ fj (fun _=>4) (k+1+1) x.prog,Md:=k2,pc:=k2+1,left:=k2+1+1,Mg:=k2+1+1+1,on:=k2+1+1+1+1,held:=cu (k2+1+1+1+1+1),got:=cu (k2+1+1+1+1+1+1),code:=k2+1+1+1+1+1+1+1,RU:=k2+1+1+1+1+1+1+1+1 }
def cw (k:Int) (x:ao):ao:=rI k (k+1+1+(aF (fun _:dN=>4) x.prog:Nat)) x
theorem BB (a:Option Addr) (l:List ao) (cap:Nat) (k:Int) (w:World) (base:Nat) (hl:l.length≤1048576) (hk: ∀ x∈l,x.prog.length≤1048576) (h0:1≤k) (h1:k+(aF bj l:Nat)≤90000000) (ho:w.ownsRow base 148 12 (.slice a l.length cap) l.length (bg.flat l)) (hm: ∀ x∈l,aR.cO w base x) (hn:(blk a ++ l.filterMap aR.bt).Nodup):
  Calls J3 57 #[.slice a l.length cap,.int .i64 k] w fun e w'=>e= .returned (.int .i64 (k+(aF bj l:Nat)))∧w'.ownsRow base 148 12 (.slice a l.length cap) l.length (bg.flat (aJ cw bj k l))∧(∀ y∈aJ cw bj k l,aR.cO w' base y)∧aI w w' (blk a ++ l.filterMap aR.bt):=by
 by_cases hz:l.length=0
 ·have hl0:l= [] :=List.eq_nil_of_length_eq_zero hz
  subst hl0;have HO:Hid (w.ownsRow base 148 12 (.slice a 0 cap) 0 (bg.flat [])):=ho;clear ho
  go_enter Tryz.func57,Tryz.ntmps57
  go_wp2_with fail
  go_loopw [1,5] (fun q i wr=>q= .int .i64 k∧i= .int .i64 0∧wr=w) (fun _ _ _=>0)
  case atStart=>exact ⟨rfl,rfl,rfl⟩
  case round=>
   obtain ⟨rfl,rfl,rfl⟩:=hrel;go_wp2;go_ret;exact ⟨ck (by simp [aF]),HO.I,(fun y hy=>by cases hy),aI.refl _ _⟩
 obtain ⟨g,rfl,hrow⟩:=bl.fX (K:=bg) ho hz;have HR:Hid (bl bg 148 w base g cap l∧fp aR w base g l):=⟨hrow,hm,hn⟩
 have HB:Hid (k+(aF bj l:Nat)≤90000000∧ ∀ x∈l,x.prog.length≤1048576):=⟨h1,hk⟩
 clear ho hrow h1 hz hm hn hk
 go_enter Tryz.func57,Tryz.ntmps57
 go_wp2_with fail
 go_loopw [1,5] (fun q i wr=> ∃ (j:Nat) (m:Int),j≤l.length∧i= .int .i64 j∧q= .int .i64 m∧1≤m∧m≤90000000∧Hid (m=k+(aF bj (l.take j):Nat)∧bl bg 148 wr base g cap (aJ cw bj k (l.take j) ++ l.drop j)∧fp aR wr base g (aJ cw bj k (l.take j) ++ l.drop j)∧aI w wr (g :: l.filterMap aR.bt))) (fun _ i _=>l.length - (intOf i).toNat)
 case atStart=>exact ⟨0,k,Ky _,rfl,rfl,h0,by have:=HB.I.1; omega,⟨by simp [aF],HR.I.1,HR.I.2,aI.refl _ _⟩⟩
 case round=>
  clear HR;obtain ⟨j,m,hj,rfl,rfl,m0,m1,HA⟩:=hrel;by_cases hlt:j < l.length
  ·have i0:(0:Int)≤(j:Int):=by omega
   have i1:(j:Int) < (l.length:Int):=by omega
   obtain ⟨x,hx⟩: ∃ x,l[j]? =some x:=⟨_,Kz hlt⟩
   have pI:l.drop j=x :: l.drop (j+1):=mz hx;have qw:=du (c:=bj) hx;have hup:=gK (c:=bj) hx;have hcx:bj x=2+aF (fun _:dN=>4) x.prog+9:=rfl;have HX:Hid (l[j]? =some x∧x.prog.length≤1048576∧m+1+1+(aF (fun _:dN=>4) x.prog:Nat)+9≤90000000∧m+1+1+(aF (fun _:dN=>4) x.prog:Nat)+9=k+(aF bj (l.take (j+1)):Nat)):=⟨hx,HB.I.2 x (KA hx),by have:=HB.I.1; have:=HA.I.1; omega,by have:=HA.I.1; omega⟩
   have HW:Hid (bl bg 148 wr base g cap (aJ cw bj k (l.take j) ++ x :: l.drop (j+1))∧(aJ cw bj k (l.take j)).length=j):=⟨by have:=HA.I.2.1; rwa [pI] at this,by rw [bE,Lk]; omega⟩
   have HM:Hid (fp aR wr base g (aJ cw bj k (l.take j) ++ x :: l.drop (j+1))):=by have:=HA.I.2.2.1; rwa [pI] at this
   have m2:m+1+1≤90000000:=by have:=HX.I.2.2.1; omega
   have hgl:g < wr.heap.size:=HW.I.1.lt;clear hx pI qw hup hcx;obtain ⟨⟨u0,c0⟩,f0⟩:(∃ u,wr.cell? ⟨g,j * 12,none⟩=some u)∧wr.frozen? ⟨g,j * 12,none⟩=false:=bl.eO HW.I.1 HW.I.2 (r:=0) (by decide:0 < bg.n);obtain ⟨⟨u1,c1⟩,f1⟩:(∃ u,wr.cell? ⟨g,j * 12+1,none⟩=some u)∧wr.frozen? ⟨g,j * 12+1,none⟩=false:=bl.eO HW.I.1 HW.I.2 (r:=1) (by decide:1 < bg.n);have c2:wr.cell? ⟨g,j * 12+2,none⟩=some (.slice x.aY x.prog.length x.bH):=(bl.uD HW.I.1 HW.I.2 (r:=2) (by decide:2 < bg.n))
   have h5:=bl.part (K:=bg) (x:=x) (y:=({ x with id:=m,RX:=m+1 } :ao)) (j:=0) (vs:= [.int .i64 m,.int .i64 (m+1)]) HW.I.1 (by show 0+2≤12; omega) (fun r hr=>by match r,hr with | 0,_=>rfl | 1,_=>rfl) (fun r hr hn=>by match r,hr,hn with | 0,_,hn=>exact absurd ⟨by omega,by show 0 < 0+2; omega⟩ hn | 1,_,hn=>exact absurd ⟨by omega,by show 1 < 0+2; omega⟩ hn | 2,_,_=>rfl | 3,_,_=>rfl | 4,_,_=>rfl | 5,_,_=>rfl | 6,_,_=>rfl | 7,_,_=>rfl | 8,_,_=>rfl | 9,_,_=>rfl | 10,_,_=>rfl | 11,_,_=>rfl);rw [HW.I.2,show bg.n=12 from rfl] at h5;have h6:aI wr (bn wr g (j * 12) [.int .i64 m,.int .i64 (m+1)]) [g] :=aI.set _ (by simp);simp only [bn,PT] at h5 h6;have HS:Hid (bl bg 148 ((wr.setCell ⟨g,j * 12,none⟩ (.int .i64 m)).setCell ⟨g,j * 12+1,none⟩ (.int .i64 (m+1))) base g cap (aJ cw bj k (l.take j) ++ ({ x with id:=m,RX:=m+1 } :ao) :: l.drop (j+1))∧fp aR ((wr.setCell ⟨g,j * 12,none⟩ (.int .i64 m)).setCell ⟨g,j * 12+1,none⟩ (.int .i64 (m+1))) base g (aJ cw bj k (l.take j) ++ ({ x with id:=m,RX:=m+1 } :ao) :: l.drop (j+1))∧aI w ((wr.setCell ⟨g,j * 12,none⟩ (.int .i64 m)).setCell ⟨g,j * 12+1,none⟩ (.int .i64 (m+1))) (g :: l.filterMap aR.bt)):=⟨h5,(HM.I.keep h6).ju rfl ((HM.I.keep h6).mine x (by simp)),HA.I.2.2.2.trans (h6.mono (by simp))⟩
   clear h5 h6;go_wp2_with fail;generalize (wr.setCell ⟨g,j * 12,none⟩ (.int .i64 m)).setCell ⟨g,j * 12+1,none⟩ (.int .i64 (m+1))=W1 at *;clear c2;refine (xP x.aY x.prog x.bH (m+1+1) W1 base HX.I.2.1 (by omega) (by have:=HX.I.2.2.1; omega) (HS.I.2.1.mine ({ x with id:=m,RX:=m+1 } :ao) (by simp))).mono ?_;rintro e v ⟨rfl,hown,hkb⟩;have HV:Hid (bl bg 148 v base g cap (aJ cw bj k (l.take j) ++ ({ x with id:=m,RX:=m+1,prog:=aJ fj (fun _=>4) (m+1+1) x.prog } :ao) :: l.drop (j+1))∧fp aR v base g (aJ cw bj k (l.take j) ++ ({ x with id:=m,RX:=m+1,prog:=aJ fj (fun _=>4) (m+1+1) x.prog } :ao) :: l.drop (j+1))∧aI w v (g :: l.filterMap aR.bt)):=by
    have hap:=HS.I.2.1.apart (z:=({ x with id:=m,RX:=m+1 } :ao)) (by simp);have h7:=HS.I.1.same (hkb.same g HS.I.1.lt hap);have hm7:aR.cO v base ({ x with id:=m,RX:=m+1,prog:=aJ fj (fun _=>4) (m+1+1) x.prog } :ao):=by
     show v.ownsRow base _ 4 (.slice x.aY (aJ fj (fun _=>4) (m+1+1) x.prog).length x.bH) (aJ fj (fun _=>4) (m+1+1) x.prog).length (fk.flat (aJ fj (fun _=>4) (m+1+1) x.prog))
     rw [bE];exact hown
    refine ⟨?_,HS.I.2.1.inner hkb rfl hm7,HS.I.2.2.trans (hkb.mono fun b hb=> ?_)⟩
    ·exact bl.part (K:=bg) (x:=({ x with id:=m,RX:=m+1 } :ao)) (y:=({ x with id:=m,RX:=m+1,prog:=aJ fj (fun _=>4) (m+1+1) x.prog } :ao)) (j:=0) (vs:= []) h7 (by show 0+0≤12; omega) (fun r hr=>absurd hr (by simp)) (fun r hr _=>by match r,hr with | 0,_=>rfl | 1,_=>rfl | 2,_=>(show some (Value.slice x.aY (aJ fj (fun _=>4) (m+1+1) x.prog).length x.bH)=some (.slice x.aY x.prog.length x.bH); rw [bE]) | 3,_=>rfl | 4,_=>rfl | 5,_=>rfl | 6,_=>rfl | 7,_=>rfl | 8,_=>rfl | 9,_=>rfl | 10,_=>rfl | 11,_=>rfl)
    ·exact LB _ (Lq.2 ⟨x,KA HX.I.1,fZ.1 hb⟩)
   obtain ⟨m',hm'⟩: ∃ q:Int,q=m+1+1+(aF (fun _:dN=>4) x.prog:Nat):=⟨_,rfl⟩
   rw [← hm'];have HQ:Hid (m'=m+1+1+(aF (fun _:dN=>4) x.prog:Nat)):=hm';have p0:1≤m':=by omega
   have p1:m'+9≤90000000:=by have:=HX.I.2.2.1; omega
   clear hown hkb HS hm';obtain ⟨⟨u3,c3⟩,f3⟩:(∃ u,v.cell? ⟨g,j * 12+3,none⟩=some u)∧v.frozen? ⟨g,j * 12+3,none⟩=false:=bl.eO HV.I.1 HW.I.2 (r:=3) (by decide:3 < bg.n);obtain ⟨⟨u4,c4⟩,f4⟩:(∃ u,v.cell? ⟨g,j * 12+4,none⟩=some u)∧v.frozen? ⟨g,j * 12+4,none⟩=false:=bl.eO HV.I.1 HW.I.2 (r:=4) (by decide:4 < bg.n);obtain ⟨⟨u5,c5⟩,f5⟩:(∃ u,v.cell? ⟨g,j * 12+5,none⟩=some u)∧v.frozen? ⟨g,j * 12+5,none⟩=false:=bl.eO HV.I.1 HW.I.2 (r:=5) (by decide:5 < bg.n);obtain ⟨⟨u6,c6⟩,f6⟩:(∃ u,v.cell? ⟨g,j * 12+6,none⟩=some u)∧v.frozen? ⟨g,j * 12+6,none⟩=false:=bl.eO HV.I.1 HW.I.2 (r:=6) (by decide:6 < bg.n);obtain ⟨⟨u7,c7⟩,f7⟩:(∃ u,v.cell? ⟨g,j * 12+7,none⟩=some u)∧v.frozen? ⟨g,j * 12+7,none⟩=false:=bl.eO HV.I.1 HW.I.2 (r:=7) (by decide:7 < bg.n);have h5:=bl.part (K:=bg) (x:=({ x with id:=m,RX:=m+1,prog:=aJ fj (fun _=>4) (m+1+1) x.prog } :ao)) (y:=({ x with id:=m,RX:=m+1,prog:=aJ fj (fun _=>4) (m+1+1) x.prog,Md:=m',pc:=m'+1,left:=m'+1+1,Mg:=m'+1+1+1,on:=m'+1+1+1+1 } :ao)) (j:=3) (vs:= [.int .i64 (m'),.int .i64 (m'+1),.int .i64 (m'+1+1),.int .i64 (m'+1+1+1),.int .i64 (m'+1+1+1+1)]) HV.I.1 (by show 3+5≤12; omega) (fun r hr=>by match r,hr with | 0,_=>rfl | 1,_=>rfl | 2,_=>rfl | 3,_=>rfl | 4,_=>rfl) (fun r hr hn=>by match r,hr,hn with | 0,_,_=>rfl | 1,_,_=>rfl | 2,_,_=>rfl | 3,_,hn=>exact absurd ⟨by omega,by show 3 < 3+5; omega⟩ hn | 4,_,hn=>exact absurd ⟨by omega,by show 4 < 3+5; omega⟩ hn | 5,_,hn=>exact absurd ⟨by omega,by show 5 < 3+5; omega⟩ hn | 6,_,hn=>exact absurd ⟨by omega,by show 6 < 3+5; omega⟩ hn | 7,_,hn=>exact absurd ⟨by omega,by show 7 < 3+5; omega⟩ hn | 8,_,_=>rfl | 9,_,_=>rfl | 10,_,_=>rfl | 11,_,_=>rfl);rw [HW.I.2,show bg.n=12 from rfl] at h5;have h6:aI v (bn v g (j * 12+3) [.int .i64 (m'),.int .i64 (m'+1),.int .i64 (m'+1+1),.int .i64 (m'+1+1+1),.int .i64 (m'+1+1+1+1)]) [g] :=aI.set _ (by simp);simp only [bn,Nat.add_assoc,Nat.reduceAdd] at h5 h6;have mH:Hid (bl bg 148 (((((v.setCell ⟨g,j * 12+3,none⟩ (.int .i64 (m'))).setCell ⟨g,j * 12+4,none⟩ (.int .i64 (m'+1))).setCell ⟨g,j * 12+5,none⟩ (.int .i64 (m'+1+1))).setCell ⟨g,j * 12+6,none⟩ (.int .i64 (m'+1+1+1))).setCell ⟨g,j * 12+7,none⟩ (.int .i64 (m'+1+1+1+1))) base g cap (aJ cw bj k (l.take j) ++ ({ x with id:=m,RX:=m+1,prog:=aJ fj (fun _=>4) (m+1+1) x.prog,Md:=m',pc:=m'+1,left:=m'+1+1,Mg:=m'+1+1+1,on:=m'+1+1+1+1 } :ao) :: l.drop (j+1))∧fp aR (((((v.setCell ⟨g,j * 12+3,none⟩ (.int .i64 (m'))).setCell ⟨g,j * 12+4,none⟩ (.int .i64 (m'+1))).setCell ⟨g,j * 12+5,none⟩ (.int .i64 (m'+1+1))).setCell ⟨g,j * 12+6,none⟩ (.int .i64 (m'+1+1+1))).setCell ⟨g,j * 12+7,none⟩ (.int .i64 (m'+1+1+1+1))) base g (aJ cw bj k (l.take j) ++ ({ x with id:=m,RX:=m+1,prog:=aJ fj (fun _=>4) (m+1+1) x.prog,Md:=m',pc:=m'+1,left:=m'+1+1,Mg:=m'+1+1+1,on:=m'+1+1+1+1 } :ao) :: l.drop (j+1))∧aI w (((((v.setCell ⟨g,j * 12+3,none⟩ (.int .i64 (m'))).setCell ⟨g,j * 12+4,none⟩ (.int .i64 (m'+1))).setCell ⟨g,j * 12+5,none⟩ (.int .i64 (m'+1+1))).setCell ⟨g,j * 12+6,none⟩ (.int .i64 (m'+1+1+1))).setCell ⟨g,j * 12+7,none⟩ (.int .i64 (m'+1+1+1+1))) (g :: l.filterMap aR.bt)):=⟨h5,(HV.I.2.1.keep h6).ju rfl ((HV.I.2.1.keep h6).mine ({ x with id:=m,RX:=m+1,prog:=aJ fj (fun _=>4) (m+1+1) x.prog } :ao) (by simp)),HV.I.2.2.trans (h6.mono (by simp))⟩
   clear h5 h6;go_wp2_with fail;refine (fh (m'+1+1+1+1+1) (by omega) (by omega) _).mono ?_;rintro e v1 ⟨rfl,hb⟩;have wm:Hid (bl bg 148 v1 base g cap (aJ cw bj k (l.take j) ++ ({ x with id:=m,RX:=m+1,prog:=aJ fj (fun _=>4) (m+1+1) x.prog,Md:=m',pc:=m'+1,left:=m'+1+1,Mg:=m'+1+1+1,on:=m'+1+1+1+1 } :ao) :: l.drop (j+1))∧fp aR v1 base g (aJ cw bj k (l.take j) ++ ({ x with id:=m,RX:=m+1,prog:=aJ fj (fun _=>4) (m+1+1) x.prog,Md:=m',pc:=m'+1,left:=m'+1+1,Mg:=m'+1+1+1,on:=m'+1+1+1+1 } :ao) :: l.drop (j+1))∧aI w v1 (g :: l.filterMap aR.bt)):=⟨mH.I.1.same (hb.block g mH.I.1.lt),mH.I.2.1.keep (aI.dI hb),mH.I.2.2.trans (aI.dI hb)⟩
   clear hb;obtain ⟨⟨u8,c8⟩,f8⟩:(∃ u,v1.cell? ⟨g,j * 12+8,none⟩=some u)∧v1.frozen? ⟨g,j * 12+8,none⟩=false:=bl.eO wm.I.1 HW.I.2 (r:=8) (by decide:8 < bg.n);have h5:=bl.part (K:=bg) (x:=({ x with id:=m,RX:=m+1,prog:=aJ fj (fun _=>4) (m+1+1) x.prog,Md:=m',pc:=m'+1,left:=m'+1+1,Mg:=m'+1+1+1,on:=m'+1+1+1+1 } :ao)) (y:=({ x with id:=m,RX:=m+1,prog:=aJ fj (fun _=>4) (m+1+1) x.prog,Md:=m',pc:=m'+1,left:=m'+1+1,Mg:=m'+1+1+1,on:=m'+1+1+1+1,held:=cu (m'+1+1+1+1+1) } :ao)) (j:=8) (vs:= [.string (cu (m'+1+1+1+1+1))]) wm.I.1 (by show 8+1≤12; omega) (fun r hr=>by match r,hr with | 0,_=>rfl) (fun r hr hn=>by match r,hr,hn with | 0,_,_=>rfl | 1,_,_=>rfl | 2,_,_=>rfl | 3,_,_=>rfl | 4,_,_=>rfl | 5,_,_=>rfl | 6,_,_=>rfl | 7,_,_=>rfl | 8,_,hn=>exact absurd ⟨by omega,by show 8 < 8+1; omega⟩ hn | 9,_,_=>rfl | 10,_,_=>rfl | 11,_,_=>rfl);rw [HW.I.2,show bg.n=12 from rfl] at h5;have h6:aI v1 (bn v1 g (j * 12+8) [.string (cu (m'+1+1+1+1+1))]) [g] :=aI.set _ (by simp);simp only [bn] at h5 h6;have mO:Hid (bl bg 148 (v1.setCell ⟨g,j * 12+8,none⟩ (.string (cu (m'+1+1+1+1+1)))) base g cap (aJ cw bj k (l.take j) ++ ({ x with id:=m,RX:=m+1,prog:=aJ fj (fun _=>4) (m+1+1) x.prog,Md:=m',pc:=m'+1,left:=m'+1+1,Mg:=m'+1+1+1,on:=m'+1+1+1+1,held:=cu (m'+1+1+1+1+1) } :ao) :: l.drop (j+1))∧fp aR (v1.setCell ⟨g,j * 12+8,none⟩ (.string (cu (m'+1+1+1+1+1)))) base g (aJ cw bj k (l.take j) ++ ({ x with id:=m,RX:=m+1,prog:=aJ fj (fun _=>4) (m+1+1) x.prog,Md:=m',pc:=m'+1,left:=m'+1+1,Mg:=m'+1+1+1,on:=m'+1+1+1+1,held:=cu (m'+1+1+1+1+1) } :ao) :: l.drop (j+1))∧aI w (v1.setCell ⟨g,j * 12+8,none⟩ (.string (cu (m'+1+1+1+1+1)))) (g :: l.filterMap aR.bt)):=⟨h5,(wm.I.2.1.keep h6).ju rfl ((wm.I.2.1.keep h6).mine ({ x with id:=m,RX:=m+1,prog:=aJ fj (fun _=>4) (m+1+1) x.prog,Md:=m',pc:=m'+1,left:=m'+1+1,Mg:=m'+1+1+1,on:=m'+1+1+1+1 } :ao) (by simp)),wm.I.2.2.trans (h6.mono (by simp))⟩
   clear h5 h6;go_wp2_with fail;refine (fh (m'+1+1+1+1+1+1) (by omega) (by omega) _).mono ?_;rintro e v2 ⟨rfl,hb⟩;have xD:Hid (bl bg 148 v2 base g cap (aJ cw bj k (l.take j) ++ ({ x with id:=m,RX:=m+1,prog:=aJ fj (fun _=>4) (m+1+1) x.prog,Md:=m',pc:=m'+1,left:=m'+1+1,Mg:=m'+1+1+1,on:=m'+1+1+1+1,held:=cu (m'+1+1+1+1+1) } :ao) :: l.drop (j+1))∧fp aR v2 base g (aJ cw bj k (l.take j) ++ ({ x with id:=m,RX:=m+1,prog:=aJ fj (fun _=>4) (m+1+1) x.prog,Md:=m',pc:=m'+1,left:=m'+1+1,Mg:=m'+1+1+1,on:=m'+1+1+1+1,held:=cu (m'+1+1+1+1+1) } :ao) :: l.drop (j+1))∧aI w v2 (g :: l.filterMap aR.bt)):=⟨mO.I.1.same (hb.block g mO.I.1.lt),mO.I.2.1.keep (aI.dI hb),mO.I.2.2.trans (aI.dI hb)⟩
   clear hb;obtain ⟨⟨u9,c9⟩,f9⟩:(∃ u,v2.cell? ⟨g,j * 12+9,none⟩=some u)∧v2.frozen? ⟨g,j * 12+9,none⟩=false:=bl.eO xD.I.1 HW.I.2 (r:=9) (by decide:9 < bg.n);obtain ⟨⟨u10,qF⟩,f10⟩:(∃ u,v2.cell? ⟨g,j * 12+10,none⟩=some u)∧v2.frozen? ⟨g,j * 12+10,none⟩=false:=bl.eO xD.I.1 HW.I.2 (r:=10) (by decide:10 < bg.n);obtain ⟨⟨u11,pe⟩,f11⟩:(∃ u,v2.cell? ⟨g,j * 12+11,none⟩=some u)∧v2.frozen? ⟨g,j * 12+11,none⟩=false:=bl.eO xD.I.1 HW.I.2 (r:=11) (by decide:11 < bg.n);have h5:=bl.part (K:=bg) (x:=({ x with id:=m,RX:=m+1,prog:=aJ fj (fun _=>4) (m+1+1) x.prog,Md:=m',pc:=m'+1,left:=m'+1+1,Mg:=m'+1+1+1,on:=m'+1+1+1+1,held:=cu (m'+1+1+1+1+1) } :ao)) (y:=({ x with id:=m,RX:=m+1,prog:=aJ fj (fun _=>4) (m+1+1) x.prog,Md:=m',pc:=m'+1,left:=m'+1+1,Mg:=m'+1+1+1,on:=m'+1+1+1+1,held:=cu (m'+1+1+1+1+1),got:=cu (m'+1+1+1+1+1+1),code:=m'+1+1+1+1+1+1+1,RU:=m'+1+1+1+1+1+1+1+1 } :ao)) (j:=9) (vs:= [.string (cu (m'+1+1+1+1+1+1)),.int .i64 (m'+1+1+1+1+1+1+1),.int .i64 (m'+1+1+1+1+1+1+1+1)]) xD.I.1 (by show 9+3≤12; omega) (fun r hr=>by match r,hr with | 0,_=>rfl | 1,_=>rfl | 2,_=>rfl) (fun r hr hn=>by match r,hr,hn with | 0,_,_=>rfl | 1,_,_=>rfl | 2,_,_=>rfl | 3,_,_=>rfl | 4,_,_=>rfl | 5,_,_=>rfl | 6,_,_=>rfl | 7,_,_=>rfl | 8,_,_=>rfl | 9,_,hn=>exact absurd ⟨by omega,by show 9 < 9+3; omega⟩ hn | 10,_,hn=>exact absurd ⟨by omega,by show 10 < 9+3; omega⟩ hn | 11,_,hn=>exact absurd ⟨by omega,by show 11 < 9+3; omega⟩ hn);rw [HW.I.2,show bg.n=12 from rfl] at h5;have h6:aI v2 (bn v2 g (j * 12+9) [.string (cu (m'+1+1+1+1+1+1)),.int .i64 (m'+1+1+1+1+1+1+1),.int .i64 (m'+1+1+1+1+1+1+1+1)]) [g] :=aI.set _ (by simp);simp only [bn,Nat.add_assoc,Nat.reduceAdd] at h5 h6;have EU:Hid (bl bg 148 (((v2.setCell ⟨g,j * 12+9,none⟩ (.string (cu (m'+1+1+1+1+1+1)))).setCell ⟨g,j * 12+10,none⟩ (.int .i64 (m'+1+1+1+1+1+1+1))).setCell ⟨g,j * 12+11,none⟩ (.int .i64 (m'+1+1+1+1+1+1+1+1))) base g cap (aJ cw bj k (l.take j) ++ ({ x with id:=m,RX:=m+1,prog:=aJ fj (fun _=>4) (m+1+1) x.prog,Md:=m',pc:=m'+1,left:=m'+1+1,Mg:=m'+1+1+1,on:=m'+1+1+1+1,held:=cu (m'+1+1+1+1+1),got:=cu (m'+1+1+1+1+1+1),code:=m'+1+1+1+1+1+1+1,RU:=m'+1+1+1+1+1+1+1+1 } :ao) :: l.drop (j+1))∧fp aR (((v2.setCell ⟨g,j * 12+9,none⟩ (.string (cu (m'+1+1+1+1+1+1)))).setCell ⟨g,j * 12+10,none⟩ (.int .i64 (m'+1+1+1+1+1+1+1))).setCell ⟨g,j * 12+11,none⟩ (.int .i64 (m'+1+1+1+1+1+1+1+1))) base g (aJ cw bj k (l.take j) ++ ({ x with id:=m,RX:=m+1,prog:=aJ fj (fun _=>4) (m+1+1) x.prog,Md:=m',pc:=m'+1,left:=m'+1+1,Mg:=m'+1+1+1,on:=m'+1+1+1+1,held:=cu (m'+1+1+1+1+1),got:=cu (m'+1+1+1+1+1+1),code:=m'+1+1+1+1+1+1+1,RU:=m'+1+1+1+1+1+1+1+1 } :ao) :: l.drop (j+1))∧aI w (((v2.setCell ⟨g,j * 12+9,none⟩ (.string (cu (m'+1+1+1+1+1+1)))).setCell ⟨g,j * 12+10,none⟩ (.int .i64 (m'+1+1+1+1+1+1+1))).setCell ⟨g,j * 12+11,none⟩ (.int .i64 (m'+1+1+1+1+1+1+1+1))) (g :: l.filterMap aR.bt)):=⟨h5,(xD.I.2.1.keep h6).ju rfl ((xD.I.2.1.keep h6).mine ({ x with id:=m,RX:=m+1,prog:=aJ fj (fun _=>4) (m+1+1) x.prog,Md:=m',pc:=m'+1,left:=m'+1+1,Mg:=m'+1+1+1,on:=m'+1+1+1+1,held:=cu (m'+1+1+1+1+1) } :ao) (by simp)),xD.I.2.2.trans (h6.mono (by simp))⟩
   clear h5 h6;have HN:Hid (bl bg 148 (((v2.setCell ⟨g,j * 12+9,none⟩ (.string (cu (m'+1+1+1+1+1+1)))).setCell ⟨g,j * 12+10,none⟩ (.int .i64 (m'+1+1+1+1+1+1+1))).setCell ⟨g,j * 12+11,none⟩ (.int .i64 (m'+1+1+1+1+1+1+1+1))) base g cap (aJ cw bj k (l.take (j+1)) ++ l.drop (j+1))∧fp aR (((v2.setCell ⟨g,j * 12+9,none⟩ (.string (cu (m'+1+1+1+1+1+1)))).setCell ⟨g,j * 12+10,none⟩ (.int .i64 (m'+1+1+1+1+1+1+1))).setCell ⟨g,j * 12+11,none⟩ (.int .i64 (m'+1+1+1+1+1+1+1+1))) base g (aJ cw bj k (l.take (j+1)) ++ l.drop (j+1))∧aI w (((v2.setCell ⟨g,j * 12+9,none⟩ (.string (cu (m'+1+1+1+1+1+1)))).setCell ⟨g,j * 12+10,none⟩ (.int .i64 (m'+1+1+1+1+1+1+1))).setCell ⟨g,j * 12+11,none⟩ (.int .i64 (m'+1+1+1+1+1+1+1+1))) (g :: l.filterMap aR.bt)):=by
    rw [kE HX.I.1,Lm,← HA.I.1,show cw m x=rI m m' x by rw [HQ.I]; rfl];exact EU.I
   go_wp2;go_roundw
   case rel=>exact ⟨j+1,m'+9,by omega,by go_num,by go_num,by omega,by omega,⟨by have:=HX.I.2.2.2; have:=HQ.I; omega,HN.I.1,HN.I.2.1,HN.I.2.2⟩⟩
   case measure=>simp [intOf]; omega
  ·have i1: ¬ (j:Int) < (l.length:Int):=by omega
   have ej:j=l.length:=by omega
   subst ej;have HE:Hid (bl bg 148 wr base g cap (aJ cw bj k l)∧fp aR wr base g (aJ cw bj k l)∧m=k+(aF bj l:Nat)):=by have h5:=HA.I.2.1; have h6:=HA.I.1; have h7:=HA.I.2.2.1; rw [LQ,List.drop_length,QO] at h5 h7; rw [LQ] at h6; exact ⟨h5,h7,h6⟩
   go_wp2;go_ret;refine ⟨ck HE.I.2.2,?_,HE.I.2.1.mine,HA.I.2.2.2⟩;have h7:=HE.I.1.owns;rw [bE] at h7;exact h7
def eo (x:aM):Nat:=4+aF (fun _:ByteArray=>1) x.Ma
def fU (k:Int) (x:aM):aM:= { x with id:=k,I:=(k+1) % 3 == 0,Mf:=(k+1+1) % 3 == 0,max:=k+1+1+1,Ma:=aJ mkStr (fun _=>1) (k+1+1+1+1) x.Ma }
theorem AU (a:Option Addr) (l:List aM) (cap:Nat) (k:Int) (w:World) (base:Nat) (hl:l.length≤1048576) (hk: ∀ x∈l,x.Ma.length≤1048576) (h0:1≤k) (h1:k+(aF eo l:Nat)≤90000000) (ho:w.ownsRow base 85 5 (.slice a l.length cap) l.length (bX.flat l)) (hm: ∀ x∈l,aU.cO w base x) (hn:(blk a ++ l.filterMap aU.bt).Nodup):
  Calls J3 62 #[.slice a l.length cap,.int .i64 k] w fun e w'=>e= .returned (.int .i64 (k+(aF eo l:Nat)))∧w'.ownsRow base 85 5 (.slice a l.length cap) l.length (bX.flat (aJ fU eo k l))∧(∀ y∈aJ fU eo k l,aU.cO w' base y)∧aI w w' (blk a ++ l.filterMap aU.bt):=by
 by_cases hz:l.length=0
 ·have hl0:l= [] :=List.eq_nil_of_length_eq_zero hz
  subst hl0;have HO:Hid (w.ownsRow base 85 5 (.slice a 0 cap) 0 (bX.flat [])):=ho;clear ho
  go_enter Tryz.func62,Tryz.ntmps62
  go_wp2_with fail
  go_loopw [1,5] (fun q i wr=>q= .int .i64 k∧i= .int .i64 0∧wr=w) (fun _ _ _=>0)
  case atStart=>exact ⟨rfl,rfl,rfl⟩
  case round=>
   obtain ⟨rfl,rfl,rfl⟩:=hrel;go_wp2;go_ret;exact ⟨ck (by simp [aF]),HO.I,(fun y hy=>by cases hy),aI.refl _ _⟩
 obtain ⟨g,rfl,hrow⟩:=bl.fX (K:=bX) ho hz;have HR:Hid (bl bX 85 w base g cap l∧fp aU w base g l):=⟨hrow,hm,hn⟩
 have HB:Hid (k+(aF eo l:Nat)≤90000000∧ ∀ x∈l,x.Ma.length≤1048576):=⟨h1,hk⟩
 clear ho hrow h1 hz hm hn hk
 go_enter Tryz.func62,Tryz.ntmps62
 go_wp2_with fail
 go_loopw [1,5] (fun q i wr=> ∃ (j:Nat) (m:Int),j≤l.length∧i= .int .i64 j∧q= .int .i64 m∧1≤m∧m≤90000000∧Hid (m=k+(aF eo (l.take j):Nat)∧bl bX 85 wr base g cap (aJ fU eo k (l.take j) ++ l.drop j)∧fp aU wr base g (aJ fU eo k (l.take j) ++ l.drop j)∧aI w wr (g :: l.filterMap aU.bt))) (fun _ i _=>l.length - (intOf i).toNat)
 case atStart=>exact ⟨0,k,Ky _,rfl,rfl,h0,by have:=HB.I.1; omega,⟨by simp [aF],HR.I.1,HR.I.2,aI.refl _ _⟩⟩
 case round=>
  clear HR;obtain ⟨j,m,hj,rfl,rfl,m0,m1,HA⟩:=hrel;by_cases hlt:j < l.length
  ·have i0:(0:Int)≤(j:Int):=by omega
   have i1:(j:Int) < (l.length:Int):=by omega
   obtain ⟨x,hx⟩: ∃ x,l[j]? =some x:=⟨_,Kz hlt⟩
   have pI:l.drop j=x :: l.drop (j+1):=mz hx;have qw:=du (c:=eo) hx;have hup:=gK (c:=eo) hx;have hcx:eo x=4+aF (fun _:ByteArray=>1) x.Ma:=rfl;have HX:Hid (l[j]? =some x∧x.Ma.length≤1048576∧m+1+1+1+1+(aF (fun _:ByteArray=>1) x.Ma:Nat)≤90000000∧m+1+1+1+1+(aF (fun _:ByteArray=>1) x.Ma:Nat)=k+(aF eo (l.take (j+1)):Nat)):=⟨hx,HB.I.2 x (KA hx),by have:=HB.I.1; have:=HA.I.1; omega,by have:=HA.I.1; omega⟩
   have HW:Hid (bl bX 85 wr base g cap (aJ fU eo k (l.take j) ++ x :: l.drop (j+1))∧(aJ fU eo k (l.take j)).length=j):=⟨by have:=HA.I.2.1; rwa [pI] at this,by rw [bE,Lk]; omega⟩
   have HM:Hid (fp aU wr base g (aJ fU eo k (l.take j) ++ x :: l.drop (j+1))):=by have:=HA.I.2.2.1; rwa [pI] at this
   have m2:m+1+1+1+1≤90000000:=by have:=HX.I.2.2.1; omega
   have hgl:g < wr.heap.size:=HW.I.1.lt;clear hx pI qw hup hcx;have q0:=bl.eO HW.I.1 HW.I.2 (r:=0) (by decide:0 < bX.n);obtain ⟨⟨u0,c0⟩,f0⟩:(∃ u,wr.cell? ⟨g,j * 5,none⟩=some u)∧wr.frozen? ⟨g,j * 5,none⟩=false:=q0;have q1:=bl.eO HW.I.1 HW.I.2 (r:=1) (by decide:1 < bX.n);obtain ⟨⟨u1,c1⟩,f1⟩:(∃ u,wr.cell? ⟨g,j * 5+1,none⟩=some u)∧wr.frozen? ⟨g,j * 5+1,none⟩=false:=q1;have q2:=bl.eO HW.I.1 HW.I.2 (r:=2) (by decide:2 < bX.n);obtain ⟨⟨u2,c2⟩,f2⟩:(∃ u,wr.cell? ⟨g,j * 5+2,none⟩=some u)∧wr.frozen? ⟨g,j * 5+2,none⟩=false:=q2;have q3:=bl.eO HW.I.1 HW.I.2 (r:=3) (by decide:3 < bX.n);obtain ⟨⟨u3,c3⟩,f3⟩:(∃ u,wr.cell? ⟨g,j * 5+3,none⟩=some u)∧wr.frozen? ⟨g,j * 5+3,none⟩=false:=q3;have c2:wr.cell? ⟨g,j * 5+4,none⟩=some (.slice x.ak x.Ma.length x.aq):=(bl.uD HW.I.1 HW.I.2 (r:=4) (by decide:4 < bX.n))
   have h5:=bl.part (K:=bX) (x:=x) (y:=({ x with id:=m,I:=(m+1) % 3 == 0,Mf:=(m+1+1) % 3 == 0,max:=m+1+1+1 } :aM)) (j:=0) (vs:= [.int .i64 (m),.bool ((m+1) % 3 == 0),.bool ((m+1+1) % 3 == 0),.int .i64 (m+1+1+1)]) HW.I.1 (by show 0+4≤5; omega) (fun r hr=>by match r,hr with | 0,_=>rfl | 1,_=>rfl | 2,_=>rfl | 3,_=>rfl) (fun r hr hn=>by match r,hr,hn with | 0,_,hn=>exact absurd ⟨by omega,by show 0 < 0+4; omega⟩ hn | 1,_,hn=>exact absurd ⟨by omega,by show 1 < 0+4; omega⟩ hn | 2,_,hn=>exact absurd ⟨by omega,by show 2 < 0+4; omega⟩ hn | 3,_,hn=>exact absurd ⟨by omega,by show 3 < 0+4; omega⟩ hn | 4,_,_=>rfl);rw [HW.I.2,show bX.n=5 from rfl] at h5;have h6:aI wr (bn wr g (j * 5) [.int .i64 (m),.bool ((m+1) % 3 == 0),.bool ((m+1+1) % 3 == 0),.int .i64 (m+1+1+1)]) [g] :=aI.set _ (by simp);simp only [bn,PT,Nat.add_assoc,Nat.reduceAdd] at h5 h6;have HS:Hid (bl bX 85 ((((wr.setCell ⟨g,j * 5,none⟩ (.int .i64 (m))).setCell ⟨g,j * 5+1,none⟩ (.bool ((m+1) % 3 == 0))).setCell ⟨g,j * 5+2,none⟩ (.bool ((m+1+1) % 3 == 0))).setCell ⟨g,j * 5+3,none⟩ (.int .i64 (m+1+1+1))) base g cap (aJ fU eo k (l.take j) ++ ({ x with id:=m,I:=(m+1) % 3 == 0,Mf:=(m+1+1) % 3 == 0,max:=m+1+1+1 } :aM) :: l.drop (j+1))∧fp aU ((((wr.setCell ⟨g,j * 5,none⟩ (.int .i64 (m))).setCell ⟨g,j * 5+1,none⟩ (.bool ((m+1) % 3 == 0))).setCell ⟨g,j * 5+2,none⟩ (.bool ((m+1+1) % 3 == 0))).setCell ⟨g,j * 5+3,none⟩ (.int .i64 (m+1+1+1))) base g (aJ fU eo k (l.take j) ++ ({ x with id:=m,I:=(m+1) % 3 == 0,Mf:=(m+1+1) % 3 == 0,max:=m+1+1+1 } :aM) :: l.drop (j+1))∧aI w ((((wr.setCell ⟨g,j * 5,none⟩ (.int .i64 (m))).setCell ⟨g,j * 5+1,none⟩ (.bool ((m+1) % 3 == 0))).setCell ⟨g,j * 5+2,none⟩ (.bool ((m+1+1) % 3 == 0))).setCell ⟨g,j * 5+3,none⟩ (.int .i64 (m+1+1+1))) (g :: l.filterMap aU.bt)):=⟨h5,(HM.I.keep h6).ju rfl ((HM.I.keep h6).mine x (by simp)),HA.I.2.2.2.trans (h6.mono (by simp))⟩
   clear h5 h6;go_wp2_with fail;generalize (((wr.setCell ⟨g,j * 5,none⟩ (.int .i64 (m))).setCell ⟨g,j * 5+1,none⟩ (.bool ((m+1) % 3 == 0))).setCell ⟨g,j * 5+2,none⟩ (.bool ((m+1+1) % 3 == 0))).setCell ⟨g,j * 5+3,none⟩ (.int .i64 (m+1+1+1))=W1 at *;refine (uu x.ak x.Ma x.aq (m+1+1+1+1) W1 base HX.I.2.1 (by omega) HX.I.2.2.1 (HS.I.2.1.mine ({ x with id:=m,I:=(m+1) % 3 == 0,Mf:=(m+1+1) % 3 == 0,max:=m+1+1+1 } :aM) (by simp))).mono ?_;rintro e v ⟨rfl,hown,hkb⟩;have HV:Hid (bl bX 85 v base g cap (aJ fU eo k (l.take (j+1)) ++ l.drop (j+1))∧fp aU v base g (aJ fU eo k (l.take (j+1)) ++ l.drop (j+1))∧aI w v (g :: l.filterMap aU.bt)):=by
    have hap:=HS.I.2.1.apart (z:=({ x with id:=m,I:=(m+1) % 3 == 0,Mf:=(m+1+1) % 3 == 0,max:=m+1+1+1 } :aM)) (by simp);rw [kE HX.I.1,Lm,← HA.I.1];have h7:=HS.I.1.same (hkb.same g HS.I.1.lt hap);have hm7:aU.cO v base (fU m x):=by
     show v.ownsRow base _ 1 (.slice x.ak (aJ mkStr (fun _=>1) (m+1+1+1+1) x.Ma).length x.aq) (aJ mkStr (fun _=>1) (m+1+1+1+1) x.Ma).length (bT.flat (aJ mkStr (fun _=>1) (m+1+1+1+1) x.Ma))
     rw [bE];exact hown
    refine ⟨?_,HS.I.2.1.inner hkb rfl hm7,HS.I.2.2.trans (hkb.mono fun b hb=> ?_)⟩
    ·exact bl.part (K:=bX) (x:=({ x with id:=m,I:=(m+1) % 3 == 0,Mf:=(m+1+1) % 3 == 0,max:=m+1+1+1 } :aM)) (y:=fU m x) (j:=0) (vs:= []) h7 (by show 0+0≤5; omega) (fun r hr=>absurd hr (by simp)) (fun r hr _=>by match r,hr with | 0,_=>rfl | 1,_=>rfl | 2,_=>rfl | 3,_=>rfl | 4,_=>(show some (Value.slice x.ak (aJ mkStr (fun _=>1) (m+1+1+1+1) x.Ma).length x.aq)=some (.slice x.ak x.Ma.length x.aq); rw [bE]))
    ·exact LB _ (Lq.2 ⟨x,KA HX.I.1,fZ.1 hb⟩)
   clear hown hkb HS;have m3:m+1+1+1+1+(aF (fun _:ByteArray=>1) x.Ma:Nat)≤90000000:=HX.I.2.2.1;go_wp2;go_roundw
   case rel=>exact ⟨j+1,m+1+1+1+1+(aF (fun _:ByteArray=>1) x.Ma:Nat),by omega,by go_num,rfl,by omega,by omega,⟨HX.I.2.2.2,HV.I.1,HV.I.2.1,HV.I.2.2⟩⟩
   case measure=>simp [intOf]; omega
  ·have i1: ¬ (j:Int) < (l.length:Int):=by omega
   have ej:j=l.length:=by omega
   subst ej;have HE:Hid (bl bX 85 wr base g cap (aJ fU eo k l)∧fp aU wr base g (aJ fU eo k l)∧m=k+(aF eo l:Nat)):=by have h5:=HA.I.2.1; have h6:=HA.I.1; have h7:=HA.I.2.2.1; rw [LQ,List.drop_length,QO] at h5 h7; rw [LQ] at h6; exact ⟨h5,h7,h6⟩
   go_wp2;go_ret;refine ⟨ck HE.I.2.2,?_,HE.I.2.1.mine,HA.I.2.2.2⟩;have h7:=HE.I.1.owns;rw [bE] at h7;exact h7
theorem Ah (a:Option Addr) (l:List aM) (cap:Nat) (k:Int) (w:World) (hl:l.length≤1048576) (hk: ∀ x∈l,x.Ma.length≤1048576) (h0:1≤k) (h1:k+(aF eo l:Nat)≤90000000) (hr:bX.bU w a (aJ fU eo k l)):
  Calls J3 68 #[.slice a l.length cap,.int .i64 k] w fun e w'=>e= .returned (.int .i64 (k+(aF eo l:Nat)))∧Below w.heap.size w w':=by
 have HR:Hid (bX.bU w a (aJ fU eo k l)∧k+(aF eo l:Nat)≤90000000∧ ∀ x∈l,x.Ma.length≤1048576):=⟨hr,h1,hk⟩
 clear hr h1 hk
 go_enter Tryz.func68,Tryz.ntmps68
 go_wp2_with fail
 go_loopw [1,5] (fun q i wr=> ∃ (j:Nat) (m:Int),j≤l.length∧i= .int .i64 j∧q= .int .i64 m∧1≤m∧m≤90000000∧Hid (m=k+(aF eo (l.take j):Nat)∧Below w.heap.size w wr)) (fun _ i _=>l.length - (intOf i).toNat)
 case atStart=>exact ⟨0,k,Ky _,rfl,rfl,h0,by have:=HR.I.2.1; omega,⟨by simp [aF],Kp _ _⟩⟩
 case round=>
  obtain ⟨j,m,hj,rfl,rfl,m0,m1,HA⟩:=hrel;by_cases hlt:j < l.length
  ·have i0:(0:Int)≤(j:Int):=by omega
   have i1:(j:Int) < (l.length:Int):=by omega
   obtain ⟨x,hx⟩: ∃ x,l[j]? =some x:=⟨_,Kz hlt⟩
   have qw:=du (c:=eo) hx;have hup:=gK (c:=eo) hx;have hcx:eo x=4+aF (fun _:ByteArray=>1) x.Ma:=rfl;have hg:=jK (f:=fU) (c:=eo) (k:=k) hx;rw [← HA.I.1] at hg;have hls:bX.bU wr a (aJ fU eo k l):=HR.I.1.below HA.I.2;obtain ⟨g,ha,hat⟩:=hls.at hg;have c0:wr.cell? ⟨g,j * 5,none⟩=some (.int .i64 (m)):=hat 0 _ rfl;have c1:wr.cell? ⟨g,j * 5+1,none⟩=some (.bool ((m+1) % 3 == 0)):=hat 1 _ rfl;have c2:wr.cell? ⟨g,j * 5+2,none⟩=some (.bool ((m+1+1) % 3 == 0)):=hat 2 _ rfl;have c3:wr.cell? ⟨g,j * 5+3,none⟩=some (.int .i64 (m+1+1+1)):=hat 3 _ rfl;have cp:wr.cell? ⟨g,j * 5+4,none⟩=some (.slice x.ak x.Ma.length x.aq):=(hat 4 _ rfl).trans (show some (Value.slice x.ak (aJ mkStr (fun _=>1) (m+1+1+1+1) x.Ma).length x.aq)=_ by rw [bE]);have HX:Hid (x.Ma.length≤1048576∧m+1+1+1+1+(aF (fun _:ByteArray=>1) x.Ma:Nat)≤90000000∧m+1+1+1+1+(aF (fun _:ByteArray=>1) x.Ma:Nat)=k+(aF eo (l.take (j+1)):Nat)∧bT.bU wr x.ak (aJ mkStr (fun _=>1) (m+1+1+1+1) x.Ma)):=⟨HR.I.2.2 x (KA hx),by have:=HR.I.2.1; have:=HA.I.1; omega,by have:=HA.I.1; omega,hls.2 _ (KA hg) (x.ak,bT.flat (aJ mkStr (fun _=>1) (m+1+1+1+1) x.Ma)) (KB.2 rfl),fun _ _ r hr=>by cases hr⟩
   have m2:m+1+1+1+1+(aF (fun _:ByteArray=>1) x.Ma:Nat)≤90000000:=HX.I.2.1;subst ha;clear hx qw hup hcx hg hat hls;go_wp2_with fail;refine (uo x.ak x.Ma x.aq (m+1+1+1+1) wr HX.I.1 (by omega) HX.I.2.1 HX.I.2.2.2).mono ?_;rintro e v ⟨rfl,hb⟩;have HV:Hid (Below w.heap.size w v):=HA.I.2.trans (hb.mono HA.I.2.size);clear hb;go_wp2;go_roundw
   case rel=>exact ⟨j+1,m+1+1+1+1+(aF (fun _:ByteArray=>1) x.Ma:Nat),by omega,by go_num,rfl,by omega,by omega,⟨HX.I.2.2.1,HV.I⟩⟩
   case measure=>simp [intOf]; omega
  ·have i1: ¬ (j:Int) < (l.length:Int):=by omega
   have HE:Hid (m=k+(aF eo l:Nat)):=by have h6:=HA.I.1; rw [KF (by omega)] at h6; exact h6
   go_wp2;go_ret;exact ⟨ck HE.I,HA.I.2⟩
def bN (x:au):Nat:=2+aF (fun _:ByteArray=>1) x.Ma
def dy (k:Int) (x:au):au:= { x with id:=k,max:=k+1,Ma:=aJ mkStr (fun _=>1) (k+1+1) x.Ma }
theorem wX (a:Option Addr) (l:List au) (cap:Nat) (k:Int) (w:World) (base:Nat) (hl:l.length≤1048576) (hk: ∀ x∈l,x.Ma.length≤1048576) (h0:1≤k) (h1:k+(aF bN l:Nat)≤90000000) (ho:w.ownsRow base 160 3 (.slice a l.length cap) l.length (bm.flat l)) (hm: ∀ x∈l,aC.cO w base x) (hn:(blk a ++ l.filterMap aC.bt).Nodup):
  Calls J3 61 #[.slice a l.length cap,.int .i64 k] w fun e w'=>e= .returned (.int .i64 (k+(aF bN l:Nat)))∧w'.ownsRow base 160 3 (.slice a l.length cap) l.length (bm.flat (aJ dy bN k l))∧(∀ y∈aJ dy bN k l,aC.cO w' base y)∧aI w w' (blk a ++ l.filterMap aC.bt):=by
 by_cases hz:l.length=0
 ·have hl0:l= [] :=List.eq_nil_of_length_eq_zero hz
  subst hl0;have HO:Hid (w.ownsRow base 160 3 (.slice a 0 cap) 0 (bm.flat [])):=ho;clear ho
  go_enter Tryz.func61,Tryz.ntmps61
  go_wp2_with fail
  go_loopw [1,5] (fun q i wr=>q= .int .i64 k∧i= .int .i64 0∧wr=w) (fun _ _ _=>0)
  case atStart=>exact ⟨rfl,rfl,rfl⟩
  case round=>
   obtain ⟨rfl,rfl,rfl⟩:=hrel;go_wp2;go_ret;exact ⟨ck (by simp [aF]),HO.I,(fun y hy=>by cases hy),aI.refl _ _⟩
 obtain ⟨g,rfl,hrow⟩:=bl.fX (K:=bm) ho hz;have HR:Hid (bl bm 160 w base g cap l∧fp aC w base g l):=⟨hrow,hm,hn⟩
 have HB:Hid (k+(aF bN l:Nat)≤90000000∧ ∀ x∈l,x.Ma.length≤1048576):=⟨h1,hk⟩
 clear ho hrow h1 hz hm hn hk
 go_enter Tryz.func61,Tryz.ntmps61
 go_wp2_with fail
 go_loopw [1,5] (fun q i wr=> ∃ (j:Nat) (m:Int),j≤l.length∧i= .int .i64 j∧q= .int .i64 m∧1≤m∧m≤90000000∧Hid (m=k+(aF bN (l.take j):Nat)∧bl bm 160 wr base g cap (aJ dy bN k (l.take j) ++ l.drop j)∧fp aC wr base g (aJ dy bN k (l.take j) ++ l.drop j)∧aI w wr (g :: l.filterMap aC.bt))) (fun _ i _=>l.length - (intOf i).toNat)
 case atStart=>exact ⟨0,k,Ky _,rfl,rfl,h0,by have:=HB.I.1; omega,⟨by simp [aF],HR.I.1,HR.I.2,aI.refl _ _⟩⟩
 case round=>
  clear HR;obtain ⟨j,m,hj,rfl,rfl,m0,m1,HA⟩:=hrel;by_cases hlt:j < l.length
  ·have i0:(0:Int)≤(j:Int):=by omega
   have i1:(j:Int) < (l.length:Int):=by omega
   obtain ⟨x,hx⟩: ∃ x,l[j]? =some x:=⟨_,Kz hlt⟩
   have pI:l.drop j=x :: l.drop (j+1):=mz hx;have qw:=du (c:=bN) hx;have hup:=gK (c:=bN) hx;have hcx:bN x=2+aF (fun _:ByteArray=>1) x.Ma:=rfl;have HX:Hid (l[j]? =some x∧x.Ma.length≤1048576∧m+1+1+(aF (fun _:ByteArray=>1) x.Ma:Nat)≤90000000∧m+1+1+(aF (fun _:ByteArray=>1) x.Ma:Nat)=k+(aF bN (l.take (j+1)):Nat)):=⟨hx,HB.I.2 x (KA hx),by have:=HB.I.1; have:=HA.I.1; omega,by have:=HA.I.1; omega⟩
   have HW:Hid (bl bm 160 wr base g cap (aJ dy bN k (l.take j) ++ x :: l.drop (j+1))∧(aJ dy bN k (l.take j)).length=j):=⟨by have:=HA.I.2.1; rwa [pI] at this,by rw [bE,Lk]; omega⟩
   have HM:Hid (fp aC wr base g (aJ dy bN k (l.take j) ++ x :: l.drop (j+1))):=by have:=HA.I.2.2.1; rwa [pI] at this
   have m2:m+1+1≤90000000:=by have:=HX.I.2.2.1; omega
   have hgl:g < wr.heap.size:=HW.I.1.lt;clear hx pI qw hup hcx;have q0:=bl.eO HW.I.1 HW.I.2 (r:=0) (by decide:0 < bm.n);obtain ⟨⟨u0,c0⟩,f0⟩:(∃ u,wr.cell? ⟨g,j * 3,none⟩=some u)∧wr.frozen? ⟨g,j * 3,none⟩=false:=q0;have q1:=bl.eO HW.I.1 HW.I.2 (r:=1) (by decide:1 < bm.n);obtain ⟨⟨u1,c1⟩,f1⟩:(∃ u,wr.cell? ⟨g,j * 3+1,none⟩=some u)∧wr.frozen? ⟨g,j * 3+1,none⟩=false:=q1;have c2:wr.cell? ⟨g,j * 3+2,none⟩=some (.slice x.ak x.Ma.length x.aq):=(bl.uD HW.I.1 HW.I.2 (r:=2) (by decide:2 < bm.n))
   have h5:=bl.part (K:=bm) (x:=x) (y:=({ x with id:=m,max:=m+1 } :au)) (j:=0) (vs:= [.int .i64 (m),.int .i64 (m+1)]) HW.I.1 (by show 0+2≤3; omega) (fun r hr=>by match r,hr with | 0,_=>rfl | 1,_=>rfl) (fun r hr hn=>by match r,hr,hn with | 0,_,hn=>exact absurd ⟨by omega,by show 0 < 0+2; omega⟩ hn | 1,_,hn=>exact absurd ⟨by omega,by show 1 < 0+2; omega⟩ hn | 2,_,_=>rfl);rw [HW.I.2,show bm.n=3 from rfl] at h5;have h6:aI wr (bn wr g (j * 3) [.int .i64 (m),.int .i64 (m+1)]) [g] :=aI.set _ (by simp);simp only [bn,PT] at h5 h6;have HS:Hid (bl bm 160 ((wr.setCell ⟨g,j * 3,none⟩ (.int .i64 (m))).setCell ⟨g,j * 3+1,none⟩ (.int .i64 (m+1))) base g cap (aJ dy bN k (l.take j) ++ ({ x with id:=m,max:=m+1 } :au) :: l.drop (j+1))∧fp aC ((wr.setCell ⟨g,j * 3,none⟩ (.int .i64 (m))).setCell ⟨g,j * 3+1,none⟩ (.int .i64 (m+1))) base g (aJ dy bN k (l.take j) ++ ({ x with id:=m,max:=m+1 } :au) :: l.drop (j+1))∧aI w ((wr.setCell ⟨g,j * 3,none⟩ (.int .i64 (m))).setCell ⟨g,j * 3+1,none⟩ (.int .i64 (m+1))) (g :: l.filterMap aC.bt)):=⟨h5,(HM.I.keep h6).ju rfl ((HM.I.keep h6).mine x (by simp)),HA.I.2.2.2.trans (h6.mono (by simp))⟩
   clear h5 h6;go_wp2_with fail;generalize (wr.setCell ⟨g,j * 3,none⟩ (.int .i64 (m))).setCell ⟨g,j * 3+1,none⟩ (.int .i64 (m+1))=W1 at *;refine (uu x.ak x.Ma x.aq (m+1+1) W1 base HX.I.2.1 (by omega) HX.I.2.2.1 (HS.I.2.1.mine ({ x with id:=m,max:=m+1 } :au) (by simp))).mono ?_;rintro e v ⟨rfl,hown,hkb⟩;have HV:Hid (bl bm 160 v base g cap (aJ dy bN k (l.take (j+1)) ++ l.drop (j+1))∧fp aC v base g (aJ dy bN k (l.take (j+1)) ++ l.drop (j+1))∧aI w v (g :: l.filterMap aC.bt)):=by
    have hap:=HS.I.2.1.apart (z:=({ x with id:=m,max:=m+1 } :au)) (by simp);rw [kE HX.I.1,Lm,← HA.I.1];have h7:=HS.I.1.same (hkb.same g HS.I.1.lt hap);have hm7:aC.cO v base (dy m x):=by
     show v.ownsRow base _ 1 (.slice x.ak (aJ mkStr (fun _=>1) (m+1+1) x.Ma).length x.aq) (aJ mkStr (fun _=>1) (m+1+1) x.Ma).length (bT.flat (aJ mkStr (fun _=>1) (m+1+1) x.Ma))
     rw [bE];exact hown
    refine ⟨?_,HS.I.2.1.inner hkb rfl hm7,HS.I.2.2.trans (hkb.mono fun b hb=> ?_)⟩
    ·exact bl.part (K:=bm) (x:=({ x with id:=m,max:=m+1 } :au)) (y:=dy m x) (j:=0) (vs:= []) h7 (by show 0+0≤3; omega) (fun r hr=>absurd hr (by simp)) (fun r hr _=>by match r,hr with | 0,_=>rfl | 1,_=>rfl | 2,_=>(show some (Value.slice x.ak (aJ mkStr (fun _=>1) (m+1+1) x.Ma).length x.aq)=some (.slice x.ak x.Ma.length x.aq); rw [bE]))
    ·exact LB _ (Lq.2 ⟨x,KA HX.I.1,fZ.1 hb⟩)
   clear hown hkb HS;have m3:m+1+1+(aF (fun _:ByteArray=>1) x.Ma:Nat)≤90000000:=HX.I.2.2.1;go_wp2;go_roundw
   case rel=>exact ⟨j+1,m+1+1+(aF (fun _:ByteArray=>1) x.Ma:Nat),by omega,by go_num,rfl,by omega,by omega,⟨HX.I.2.2.2,HV.I.1,HV.I.2.1,HV.I.2.2⟩⟩
   case measure=>simp [intOf]; omega
  ·have i1: ¬ (j:Int) < (l.length:Int):=by omega
   have ej:j=l.length:=by omega
   subst ej;have HE:Hid (bl bm 160 wr base g cap (aJ dy bN k l)∧fp aC wr base g (aJ dy bN k l)∧m=k+(aF bN l:Nat)):=by have h5:=HA.I.2.1; have h6:=HA.I.1; have h7:=HA.I.2.2.1; rw [LQ,List.drop_length,QO] at h5 h7; rw [LQ] at h6; exact ⟨h5,h7,h6⟩
   go_wp2;go_ret;refine ⟨ck HE.I.2.2,?_,HE.I.2.1.mine,HA.I.2.2.2⟩;have h7:=HE.I.1.owns;rw [bE] at h7;exact h7
theorem wy (a:Option Addr) (l:List au) (cap:Nat) (k:Int) (w:World) (hl:l.length≤1048576) (hk: ∀ x∈l,x.Ma.length≤1048576) (h0:1≤k) (h1:k+(aF bN l:Nat)≤90000000) (hr:bm.bU w a (aJ dy bN k l)):
  Calls J3 67 #[.slice a l.length cap,.int .i64 k] w fun e w'=>e= .returned (.int .i64 (k+(aF bN l:Nat)))∧Below w.heap.size w w':=by
 have HR:Hid (bm.bU w a (aJ dy bN k l)∧k+(aF bN l:Nat)≤90000000∧ ∀ x∈l,x.Ma.length≤1048576):=⟨hr,h1,hk⟩
 clear hr h1 hk
 go_enter Tryz.func67,Tryz.ntmps67
 go_wp2_with fail
 go_loopw [1,5] (fun q i wr=> ∃ (j:Nat) (m:Int),j≤l.length∧i= .int .i64 j∧q= .int .i64 m∧1≤m∧m≤90000000∧Hid (m=k+(aF bN (l.take j):Nat)∧Below w.heap.size w wr)) (fun _ i _=>l.length - (intOf i).toNat)
 case atStart=>exact ⟨0,k,Ky _,rfl,rfl,h0,by have:=HR.I.2.1; omega,⟨by simp [aF],Kp _ _⟩⟩
 case round=>
  obtain ⟨j,m,hj,rfl,rfl,m0,m1,HA⟩:=hrel;by_cases hlt:j < l.length
  ·have i0:(0:Int)≤(j:Int):=by omega
   have i1:(j:Int) < (l.length:Int):=by omega
   obtain ⟨x,hx⟩: ∃ x,l[j]? =some x:=⟨_,Kz hlt⟩
   have qw:=du (c:=bN) hx;have hup:=gK (c:=bN) hx;have hcx:bN x=2+aF (fun _:ByteArray=>1) x.Ma:=rfl;have hg:=jK (f:=dy) (c:=bN) (k:=k) hx;rw [← HA.I.1] at hg;have hls:bm.bU wr a (aJ dy bN k l):=HR.I.1.below HA.I.2;obtain ⟨g,ha,hat⟩:=hls.at hg;have c0:wr.cell? ⟨g,j * 3,none⟩=some (.int .i64 (m)):=hat 0 _ rfl;have c1:wr.cell? ⟨g,j * 3+1,none⟩=some (.int .i64 (m+1)):=hat 1 _ rfl;have cp:wr.cell? ⟨g,j * 3+2,none⟩=some (.slice x.ak x.Ma.length x.aq):=(hat 2 _ rfl).trans (show some (Value.slice x.ak (aJ mkStr (fun _=>1) (m+1+1) x.Ma).length x.aq)=_ by rw [bE]);have HX:Hid (x.Ma.length≤1048576∧m+1+1+(aF (fun _:ByteArray=>1) x.Ma:Nat)≤90000000∧m+1+1+(aF (fun _:ByteArray=>1) x.Ma:Nat)=k+(aF bN (l.take (j+1)):Nat)∧bT.bU wr x.ak (aJ mkStr (fun _=>1) (m+1+1) x.Ma)):=⟨HR.I.2.2 x (KA hx),by have:=HR.I.2.1; have:=HA.I.1; omega,by have:=HA.I.1; omega,hls.2 _ (KA hg) (x.ak,bT.flat (aJ mkStr (fun _=>1) (m+1+1) x.Ma)) (KB.2 rfl),fun _ _ r hr=>by cases hr⟩
   have m2:m+1+1+(aF (fun _:ByteArray=>1) x.Ma:Nat)≤90000000:=HX.I.2.1;subst ha;clear hx qw hup hcx hg hat hls;go_wp2_with fail;refine (uo x.ak x.Ma x.aq (m+1+1) wr HX.I.1 (by omega) HX.I.2.1 HX.I.2.2.2).mono ?_;rintro e v ⟨rfl,hb⟩;have HV:Hid (Below w.heap.size w v):=HA.I.2.trans (hb.mono HA.I.2.size);clear hb;go_wp2;go_roundw
   case rel=>exact ⟨j+1,m+1+1+(aF (fun _:ByteArray=>1) x.Ma:Nat),by omega,by go_num,rfl,by omega,by omega,⟨HX.I.2.2.1,HV.I⟩⟩
   case measure=>simp [intOf]; omega
  ·have i1: ¬ (j:Int) < (l.length:Int):=by omega
   have HE:Hid (m=k+(aF bN l:Nat)):=by have h6:=HA.I.1; rw [KF (by omega)] at h6; exact h6
   go_wp2;go_ret;exact ⟨ck HE.I,HA.I.2⟩
end
section
open Go.RowKit Go.Maps
theorem zj (Me:Int) (base b:Nat) (l:List (ao × Nat)) (w:World) (h:Shelf aX (fun x:ao=>x.id) 148 w base b l) (hl:l.length≤1048576) (hwf: ∀ p∈(RW (fun x:ao=>x.id) l),(Lit.int .i64 p.1).wf=true):
  Calls J3 104 #[.agg #[.int .i64 Me,.map (some b)]] w fun e w'=>mY bg 148 w (l.map (·.1)) e w':=by
 obtain ⟨i0,hi,e0⟩:=Option.map_eq_some_iff.1 nb;simp only [Prod.mk.injEq] at e0;have HI:Hid (Tryz.prog.info? 148=some i0∧i0.zero=some _∧i0.size=12∧i0.bytes=128):=⟨hi,e0⟩
 have H:Hid (Shelf aX (fun x:ao=>x.id) 148 (w.alloc (.cells #[.int .i64 Me,.map (some b)] 163)) base b l∧(∀ p∈(RW (fun x:ao=>x.id) l),(Lit.int .i64 p.1).wf=true)∧Below w.heap.size w (w.alloc (.cells #[.int .i64 Me,.map (some b)] 163))):=⟨h.below ((Kp _ _).alloc (Ki _) _),hwf,(Kp _ _).alloc (Ki _) _⟩
 have HK:Hid ((RW (fun x:ao=>x.id) l).length=l.length):=bZ l;clear h hwf hi e0
 go_enter Tryz.func104,Tryz.ntmps104
 go_wp2_with fail;generalize w.alloc (.cells #[.int .i64 Me,.map (some b)] 163)=W at *;refine (mq Me b (RW (fun x:ao=>x.id) l) W H.I.1.map (by rw [HK.I]; exact hl) H.I.2.1).mono ?_;rintro e w2 ⟨a,cap,rfl,hown,hb2⟩;obtain ⟨a',cap',hv,hrow⟩:=cr hown;cases hv;have HR:Hid (Row w2 a ((RW (fun x:ao=>x.id) l).map fun p=>dt p.2)):=hrow;have HO:Hid (Shelf aX (fun x:ao=>x.id) 148 w2 base b l∧Below w.heap.size w w2):=⟨H.I.1.below hb2,H.I.2.2.trans (hb2.mono H.I.2.2.size)⟩
 rw [HK.I];clear hown hrow hb2;go_wp2_with fail
 go_loopw [3,9] (fun t i wr=> ∃ k:Nat,k≤l.length∧i= .int .i64 k∧ ∃ a' cap',t= .slice a' k cap'∧Hid (wr.ownsRow w2.heap.size 148 12 (.slice a' k cap') k (bg.flat ((l.take k).map (·.1)))∧Below w2.heap.size w2 wr)) (fun _ i _=>l.length - (intOf i).toNat)
 case atStart=>exact ⟨0,Ky _,rfl,none,0,rfl,⟨World.ownsRow_nil _ _ _ _,Kp _ _⟩⟩
 case round=>
  obtain ⟨k,hk,rfl,a',cap',rfl,HA⟩:=hrel;by_cases hlt:k < l.length
  ·have qE:(0:Int)≤(k:Int):=by omega
   have i1:(k:Int) < (l.length:Int):=by omega
   obtain ⟨p,hp⟩: ∃ p,l[k]? =some p:=⟨_,Kz hlt⟩
   obtain ⟨g,ha,hc⟩:=(HR.I.below HA.I.2) k (dt p.2) (by simp [RW,hp]);subst ha;unfold dt at hc;have HP:Hid (l[k]? =some p):=hp;obtain ⟨s0,s1,s2,s3,s4,s5,s6,s7,s8,s9,s10,s11⟩:=bo ((HO.I.1.below HA.I.2).box p (KA hp));have kT:=HA.I.2.size;clear hp;go_wp2_with (at_builtin; refine wpList_append_own_at _ rfl _ _ 41 rfl w2.heap.size 148 i0 _ 12 128 Tryz.underlying41 HI.I.1 HI.I.2.1 HI.I.2.2.1 HI.I.2.2.2 rfl (by decide) (.slice a' k cap') k (bg.flat ((l.take k).map (·.1))) rfl (HA.I.1.alloc _) ⟨wr.heap.size,0,none⟩ 1 1 (bg.vals p.1) (by rfl) rfl (World.news_of_block (cs:= #[.int .i64 p.1.id,.int .i64 p.1.RX,.slice p.1.aY p.1.prog.length p.1.bH,.int .i64 p.1.Md,.int .i64 p.1.pc,.int .i64 p.1.left,.int .i64 p.1.Mg,.int .i64 p.1.on,.string p.1.held,.string p.1.got,.int .i64 p.1.code,.int .i64 p.1.RU]) (t:=148) (fr:=(0,0)) (heap_alloc_new wr _)) (by simp [bg,qN,Value.oneCell']) (by unfold maxLen; omega) (by omega) (by simp; omega) ?_; intro v' w5 hown' hgrow hnil jV; obtain ⟨a5,im,rfl,-⟩:=cr hown'; have HN:Hid (w5.ownsRow w2.heap.size 148 12 (.slice a5 (k+1) im) (k+1) (bg.flat ((l.take (k+1)).map (·.1)))∧Below w2.heap.size w2 w5):=⟨by rw [cj HP.I,List.map_append,bg.dc]; exact hown',(HA.I.2.alloc kT _).grown hgrow (by simp; omega) (fun q hq=>(HA.I.1.lt q hq).1)⟩; clear hown' hgrow hnil jV);go_roundw
   case rel=>exact ⟨k+1,by omega,by go_num,a5,im,rfl,HN⟩
   case measure=>simp [intOf]; omega
  ·have i1: ¬ (k:Int) < (l.length:Int):=by omega
   have ek:k=l.length:=by omega
   subst ek;go_wp2;go_ret;refine ⟨a',cap',by rw [KG]; rfl,?_,HO.I.2.trans (HA.I.2.mono HO.I.2.size)⟩;have h5:=cq HA.I.1 HO.I.2.size;rw [LQ] at h5;rw [KG];exact h5
end
end Go.Proofs.YteidkehoekbcaaaGreat
