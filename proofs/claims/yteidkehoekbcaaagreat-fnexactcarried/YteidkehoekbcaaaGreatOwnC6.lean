/- What the proof leans on, part 6. -/
import Derived.Test.YteidkehoekbcaaaGreatOwnC4
import Derived.Test.YteidkehoekbcaaaGreatOwnC5
import Derived.Laws.CopyOwn
set_option maxRecDepth 100000
set_option maxHeartbeats 8000000
open Go renaming heap_alloc_new->Kj,wp_at_succ->Kd,wp_at_zero->Kc
open Go.Proofs.Tryz renaming prog->J3
open Go.RowKit.Below renaming refl->Kp
open List renaming append_assoc->Lm,append_nil->QO,getElem?_eq_getElem->Kz,length_take->Lk,mem_cons_of_mem->LB,mem_filterMap->Lq,mem_of_getElem?->KA,take_length->LQ
open Nat renaming add_zero->PT,le_refl->Ki,zero_le->Ky
open Option.some renaming inj->KC

namespace Go.Proofs.YteidkehoekbcaaaGreat
section
open Go.RowKit
attribute [local go_sem ↓] Kc Kd
def bj (x:ao):Nat:=2+aF (fun _:dN=>4) x.prog+9
def rI (k k2:Int) (x:ao):ao:= { x with id:=k,RX:=k+1,prog:=aJ fj (fun _=>4) (k+1+1) x.prog,Md:=k2,pc:=k2+1,left:=k2+1+1,Mg:=k2+1+1+1,on:=k2+1+1+1+1,held:=cu (k2+1+1+1+1+1),got:=cu (k2+1+1+1+1+1+1),code:=k2+1+1+1+1+1+1+1,RU:=k2+1+1+1+1+1+1+1+1 }
def cw (k:Int) (x:ao):ao:=rI k (k+1+1+(aF (fun _:dN=>4) x.prog:Nat)) x
theorem BB (a:Option Addr) (l:List ao) (cap:Nat) (k:Int) (w:World) (base:Nat) (hl:l.length≤1048576) (hk: ∀ x∈l,x.prog.length≤1048576) (h0:1≤k) (h1:k+(aF bj l:Nat)≤90000000) (ho:w.ownsRow base 148 12 (.slice a l.length cap) l.length (bg.flat l)) (hm: ∀ x∈l,aR.cO w base x) (hn:(blk a ++ l.filterMap aR.bt).Nodup):
  Calls J3 57 #[.slice a l.length cap,.int .i64 k] w fun e w'=>e= .returned (.int .i64 (k+(aF bj l:Nat)))∧w'.ownsRow base 148 12 (.slice a l.length cap) l.length (bg.flat (aJ cw bj k l))∧(∀ y∈aJ cw bj k l,aR.cO w' base y)∧aI w w' (blk a ++ l.filterMap aR.bt):=by
 by_cases hz:l.length=0
 ·have hl0:l= [] :=List.eq_nil_of_length_eq_zero hz
  subst hl0;have HO:Hid (w.ownsRow base 148 12 (.slice a 0 cap) 0 (bg.flat [])):=ho;clear ho
  go_enter Tryz.func57,Tryz.ntmps57
  go_wp2_with fail
  go_loopw [1,5] (fun q i wr=>q= .int .i64 k∧i= .int .i64 0∧wr=w) (fun _ _ _=>0)
  case atStart=>exact ⟨rfl,rfl,rfl⟩
  case round=>
   obtain ⟨rfl,rfl,rfl⟩:=hrel;go_wp2;go_ret;exact ⟨ck (by simp [aF]),HO.I,(fun y hy=>by cases hy),aI.refl _ _⟩
 obtain ⟨g,rfl,hrow⟩:=bl.fX (K:=bg) ho hz;have HR:Hid (bl bg 148 w base g cap l∧fp aR w base g l):=⟨hrow,hm,hn⟩
 have HB:Hid (k+(aF bj l:Nat)≤90000000∧ ∀ x∈l,x.prog.length≤1048576):=⟨h1,hk⟩
 clear ho hrow h1 hz hm hn hk
 go_enter Tryz.func57,Tryz.ntmps57
 go_wp2_with fail
 go_loopw [1,5] (fun q i wr=> ∃ (j:Nat) (m:Int),j≤l.length∧i= .int .i64 j∧q= .int .i64 m∧1≤m∧m≤90000000∧Hid (m=k+(aF bj (l.take j):Nat)∧bl bg 148 wr base g cap (aJ cw bj k (l.take j) ++ l.drop j)∧fp aR wr base g (aJ cw bj k (l.take j) ++ l.drop j)∧aI w wr (g :: l.filterMap aR.bt))) (fun _ i _=>l.length - (intOf i).toNat)
 case atStart=>exact ⟨0,k,Ky _,rfl,rfl,h0,by have:=HB.I.1; omega,⟨by simp [aF],HR.I.1,HR.I.2,aI.refl _ _⟩⟩
 case round=>
  clear HR;obtain ⟨j,m,hj,rfl,rfl,m0,m1,HA⟩:=hrel;by_cases hlt:j < l.length
  ·have i0:(0:Int)≤(j:Int):=by omega
   have i1:(j:Int) < (l.length:Int):=by omega
   obtain ⟨x,hx⟩: ∃ x,l[j]? =some x:=⟨_,Kz hlt⟩
   have pI:l.drop j=x :: l.drop (j+1):=mz hx;have qw:=du (c:=bj) hx;have hup:=gK (c:=bj) hx;have hcx:bj x=2+aF (fun _:dN=>4) x.prog+9:=rfl;have HX:Hid (l[j]? =some x∧x.prog.length≤1048576∧m+1+1+(aF (fun _:dN=>4) x.prog:Nat)+9≤90000000∧m+1+1+(aF (fun _:dN=>4) x.prog:Nat)+9=k+(aF bj (l.take (j+1)):Nat)):=⟨hx,HB.I.2 x (KA hx),by have:=HB.I.1; have:=HA.I.1; omega,by have:=HA.I.1; omega⟩
   have HW:Hid (bl bg 148 wr base g cap (aJ cw bj k (l.take j) ++ x :: l.drop (j+1))∧(aJ cw bj k (l.take j)).length=j):=⟨by have:=HA.I.2.1; rwa [pI] at this,by rw [bE,Lk]; omega⟩
   have HM:Hid (fp aR wr base g (aJ cw bj k (l.take j) ++ x :: l.drop (j+1))):=by have:=HA.I.2.2.1; rwa [pI] at this
   have m2:m+1+1≤90000000:=by have:=HX.I.2.2.1; omega
   have hgl:g < wr.heap.size:=HW.I.1.lt;clear hx pI qw hup hcx;obtain ⟨⟨u0,c0⟩,f0⟩:(∃ u,wr.cell? ⟨g,j * 12,none⟩=some u)∧wr.frozen? ⟨g,j * 12,none⟩=false:=bl.eO HW.I.1 HW.I.2 (r:=0) (by decide:0 < bg.n);obtain ⟨⟨u1,c1⟩,f1⟩:(∃ u,wr.cell? ⟨g,j * 12+1,none⟩=some u)∧wr.frozen? ⟨g,j * 12+1,none⟩=false:=bl.eO HW.I.1 HW.I.2 (r:=1) (by decide:1 < bg.n);have c2:wr.cell? ⟨g,j * 12+2,none⟩=some (.slice x.aY x.prog.length x.bH):=(bl.uD HW.I.1 HW.I.2 (r:=2) (by decide:2 < bg.n))
   have h5:=bl.part (K:=bg) (x:=x) (y:=({ x with id:=m,RX:=m+1 } :ao)) (j:=0) (vs:= [.int .i64 m,.int .i64 (m+1)]) HW.I.1 (by show 0+2≤12; omega) (fun r hr=>by match r,hr with | 0,_=>rfl | 1,_=>rfl) (fun r hr hn=>by match r,hr,hn with | 0,_,hn=>exact absurd ⟨by omega,by show 0 < 0+2; omega⟩ hn | 1,_,hn=>exact absurd ⟨by omega,by show 1 < 0+2; omega⟩ hn | 2,_,_=>rfl | 3,_,_=>rfl | 4,_,_=>rfl | 5,_,_=>rfl | 6,_,_=>rfl | 7,_,_=>rfl | 8,_,_=>rfl | 9,_,_=>rfl | 10,_,_=>rfl | 11,_,_=>rfl);rw [HW.I.2,show bg.n=12 from rfl] at h5;have h6:aI wr (bn wr g (j * 12) [.int .i64 m,.int .i64 (m+1)]) [g] :=aI.set _ (by simp);simp only [bn,PT] at h5 h6;have HS:Hid (bl bg 148 ((wr.setCell ⟨g,j * 12,none⟩ (.int .i64 m)).setCell ⟨g,j * 12+1,none⟩ (.int .i64 (m+1))) base g cap (aJ cw bj k (l.take j) ++ ({ x with id:=m,RX:=m+1 } :ao) :: l.drop (j+1))∧fp aR ((wr.setCell ⟨g,j * 12,none⟩ (.int .i64 m)).setCell ⟨g,j * 12+1,none⟩ (.int .i64 (m+1))) base g (aJ cw bj k (l.take j) ++ ({ x with id:=m,RX:=m+1 } :ao) :: l.drop (j+1))∧aI w ((wr.setCell ⟨g,j * 12,none⟩ (.int .i64 m)).setCell ⟨g,j * 12+1,none⟩ (.int .i64 (m+1))) (g :: l.filterMap aR.bt)):=⟨h5,(HM.I.keep h6).ju rfl ((HM.I.keep h6).mine x (by simp)),HA.I.2.2.2.trans (h6.mono (by simp))⟩
   clear h5 h6;go_wp2_with fail;generalize (wr.setCell ⟨g,j * 12,none⟩ (.int .i64 m)).setCell ⟨g,j * 12+1,none⟩ (.int .i64 (m+1))=W1 at *;clear c2;refine (xP x.aY x.prog x.bH (m+1+1) W1 base HX.I.2.1 (by omega) (by have:=HX.I.2.2.1; omega) (HS.I.2.1.mine ({ x with id:=m,RX:=m+1 } :ao) (by simp))).mono ?_;rintro e v ⟨rfl,hown,hkb⟩;have HV:Hid (bl bg 148 v base g cap (aJ cw bj k (l.take j) ++ ({ x with id:=m,RX:=m+1,prog:=aJ fj (fun _=>4) (m+1+1) x.prog } :ao) :: l.drop (j+1))∧fp aR v base g (aJ cw bj k (l.take j) ++ ({ x with id:=m,RX:=m+1,prog:=aJ fj (fun _=>4) (m+1+1) x.prog } :ao) :: l.drop (j+1))∧aI w v (g :: l.filterMap aR.bt)):=by
    have hap:=HS.I.2.1.apart (z:=({ x with id:=m,RX:=m+1 } :ao)) (by simp);have h7:=HS.I.1.same (hkb.same g HS.I.1.lt hap);have hm7:aR.cO v base ({ x with id:=m,RX:=m+1,prog:=aJ fj (fun _=>4) (m+1+1) x.prog } :ao):=by
     show v.ownsRow base _ 4 (.slice x.aY (aJ fj (fun _=>4) (m+1+1) x.prog).length x.bH) (aJ fj (fun _=>4) (m+1+1) x.prog).length (fk.flat (aJ fj (fun _=>4) (m+1+1) x.prog))
     rw [bE];exact hown
    refine ⟨?_,HS.I.2.1.inner hkb rfl hm7,HS.I.2.2.trans (hkb.mono fun b hb=> ?_)⟩
    ·exact bl.part (K:=bg) (x:=({ x with id:=m,RX:=m+1 } :ao)) (y:=({ x with id:=m,RX:=m+1,prog:=aJ fj (fun _=>4) (m+1+1) x.prog } :ao)) (j:=0) (vs:= []) h7 (by show 0+0≤12; omega) (fun r hr=>absurd hr (by simp)) (fun r hr _=>by match r,hr with | 0,_=>rfl | 1,_=>rfl | 2,_=>(show some (Value.slice x.aY (aJ fj (fun _=>4) (m+1+1) x.prog).length x.bH)=some (.slice x.aY x.prog.length x.bH); rw [bE]) | 3,_=>rfl | 4,_=>rfl | 5,_=>rfl | 6,_=>rfl | 7,_=>rfl | 8,_=>rfl | 9,_=>rfl | 10,_=>rfl | 11,_=>rfl)
    ·exact LB _ (Lq.2 ⟨x,KA HX.I.1,fZ.1 hb⟩)
   obtain ⟨m',hm'⟩: ∃ q:Int,q=m+1+1+(aF (fun _:dN=>4) x.prog:Nat):=⟨_,rfl⟩
   rw [← hm'];have HQ:Hid (m'=m+1+1+(aF (fun _:dN=>4) x.prog:Nat)):=hm';have p0:1≤m':=by omega
   have p1:m'+9≤90000000:=by have:=HX.I.2.2.1; omega
   clear hown hkb HS hm';obtain ⟨⟨u3,c3⟩,f3⟩:(∃ u,v.cell? ⟨g,j * 12+3,none⟩=some u)∧v.frozen? ⟨g,j * 12+3,none⟩=false:=bl.eO HV.I.1 HW.I.2 (r:=3) (by decide:3 < bg.n);obtain ⟨⟨u4,c4⟩,f4⟩:(∃ u,v.cell? ⟨g,j * 12+4,none⟩=some u)∧v.frozen? ⟨g,j * 12+4,none⟩=false:=bl.eO HV.I.1 HW.I.2 (r:=4) (by decide:4 < bg.n);obtain ⟨⟨u5,c5⟩,f5⟩:(∃ u,v.cell? ⟨g,j * 12+5,none⟩=some u)∧v.frozen? ⟨g,j * 12+5,none⟩=false:=bl.eO HV.I.1 HW.I.2 (r:=5) (by decide:5 < bg.n);obtain ⟨⟨u6,c6⟩,f6⟩:(∃ u,v.cell? ⟨g,j * 12+6,none⟩=some u)∧v.frozen? ⟨g,j * 12+6,none⟩=false:=bl.eO HV.I.1 HW.I.2 (r:=6) (by decide:6 < bg.n);obtain ⟨⟨u7,c7⟩,f7⟩:(∃ u,v.cell? ⟨g,j * 12+7,none⟩=some u)∧v.frozen? ⟨g,j * 12+7,none⟩=false:=bl.eO HV.I.1 HW.I.2 (r:=7) (by decide:7 < bg.n);have h5:=bl.part (K:=bg) (x:=({ x with id:=m,RX:=m+1,prog:=aJ fj (fun _=>4) (m+1+1) x.prog } :ao)) (y:=({ x with id:=m,RX:=m+1,prog:=aJ fj (fun _=>4) (m+1+1) x.prog,Md:=m',pc:=m'+1,left:=m'+1+1,Mg:=m'+1+1+1,on:=m'+1+1+1+1 } :ao)) (j:=3) (vs:= [.int .i64 (m'),.int .i64 (m'+1),.int .i64 (m'+1+1),.int .i64 (m'+1+1+1),.int .i64 (m'+1+1+1+1)]) HV.I.1 (by show 3+5≤12; omega) (fun r hr=>by match r,hr with | 0,_=>rfl | 1,_=>rfl | 2,_=>rfl | 3,_=>rfl | 4,_=>rfl) (fun r hr hn=>by match r,hr,hn with | 0,_,_=>rfl | 1,_,_=>rfl | 2,_,_=>rfl | 3,_,hn=>exact absurd ⟨by omega,by show 3 < 3+5; omega⟩ hn | 4,_,hn=>exact absurd ⟨by omega,by show 4 < 3+5; omega⟩ hn | 5,_,hn=>exact absurd ⟨by omega,by show 5 < 3+5; omega⟩ hn | 6,_,hn=>exact absurd ⟨by omega,by show 6 < 3+5; omega⟩ hn | 7,_,hn=>exact absurd ⟨by omega,by show 7 < 3+5; omega⟩ hn | 8,_,_=>rfl | 9,_,_=>rfl | 10,_,_=>rfl | 11,_,_=>rfl);rw [HW.I.2,show bg.n=12 from rfl] at h5;have h6:aI v (bn v g (j * 12+3) [.int .i64 (m'),.int .i64 (m'+1),.int .i64 (m'+1+1),.int .i64 (m'+1+1+1),.int .i64 (m'+1+1+1+1)]) [g] :=aI.set _ (by simp);simp only [bn,Nat.add_assoc,Nat.reduceAdd] at h5 h6;have mH:Hid (bl bg 148 (((((v.setCell ⟨g,j * 12+3,none⟩ (.int .i64 (m'))).setCell ⟨g,j * 12+4,none⟩ (.int .i64 (m'+1))).setCell ⟨g,j * 12+5,none⟩ (.int .i64 (m'+1+1))).setCell ⟨g,j * 12+6,none⟩ (.int .i64 (m'+1+1+1))).setCell ⟨g,j * 12+7,none⟩ (.int .i64 (m'+1+1+1+1))) base g cap (aJ cw bj k (l.take j) ++ ({ x with id:=m,RX:=m+1,prog:=aJ fj (fun _=>4) (m+1+1) x.prog,Md:=m',pc:=m'+1,left:=m'+1+1,Mg:=m'+1+1+1,on:=m'+1+1+1+1 } :ao) :: l.drop (j+1))∧fp aR (((((v.setCell ⟨g,j * 12+3,none⟩ (.int .i64 (m'))).setCell ⟨g,j * 12+4,none⟩ (.int .i64 (m'+1))).setCell ⟨g,j * 12+5,none⟩ (.int .i64 (m'+1+1))).setCell ⟨g,j * 12+6,none⟩ (.int .i64 (m'+1+1+1))).setCell ⟨g,j * 12+7,none⟩ (.int .i64 (m'+1+1+1+1))) base g (aJ cw bj k (l.take j) ++ ({ x with id:=m,RX:=m+1,prog:=aJ fj (fun _=>4) (m+1+1) x.prog,Md:=m',pc:=m'+1,left:=m'+1+1,Mg:=m'+1+1+1,on:=m'+1+1+1+1 } :ao) :: l.drop (j+1))∧aI w (((((v.setCell ⟨g,j * 12+3,none⟩ (.int .i64 (m'))).setCell ⟨g,j * 12+4,none⟩ (.int .i64 (m'+1))).setCell ⟨g,j * 12+5,none⟩ (.int .i64 (m'+1+1))).setCell ⟨g,j * 12+6,none⟩ (.int .i64 (m'+1+1+1))).setCell ⟨g,j * 12+7,none⟩ (.int .i64 (m'+1+1+1+1))) (g :: l.filterMap aR.bt)):=⟨h5,(HV.I.2.1.keep h6).ju rfl ((HV.I.2.1.keep h6).mine ({ x with id:=m,RX:=m+1,prog:=aJ fj (fun _=>4) (m+1+1) x.prog } :ao) (by simp)),HV.I.2.2.trans (h6.mono (by simp))⟩
   clear h5 h6;go_wp2_with fail;refine (fh (m'+1+1+1+1+1) (by omega) (by omega) _).mono ?_;rintro e v1 ⟨rfl,hb⟩;have wm:Hid (bl bg 148 v1 base g cap (aJ cw bj k (l.take j) ++ ({ x with id:=m,RX:=m+1,prog:=aJ fj (fun _=>4) (m+1+1) x.prog,Md:=m',pc:=m'+1,left:=m'+1+1,Mg:=m'+1+1+1,on:=m'+1+1+1+1 } :ao) :: l.drop (j+1))∧fp aR v1 base g (aJ cw bj k (l.take j) ++ ({ x with id:=m,RX:=m+1,prog:=aJ fj (fun _=>4) (m+1+1) x.prog,Md:=m',pc:=m'+1,left:=m'+1+1,Mg:=m'+1+1+1,on:=m'+1+1+1+1 } :ao) :: l.drop (j+1))∧aI w v1 (g :: l.filterMap aR.bt)):=⟨mH.I.1.same (hb.block g mH.I.1.lt),mH.I.2.1.keep (aI.dI hb),mH.I.2.2.trans (aI.dI hb)⟩
   clear hb;obtain ⟨⟨u8,c8⟩,f8⟩:(∃ u,v1.cell? ⟨g,j * 12+8,none⟩=some u)∧v1.frozen? ⟨g,j * 12+8,none⟩=false:=bl.eO wm.I.1 HW.I.2 (r:=8) (by decide:8 < bg.n);have h5:=bl.part (K:=bg) (x:=({ x with id:=m,RX:=m+1,prog:=aJ fj (fun _=>4) (m+1+1) x.prog,Md:=m',pc:=m'+1,left:=m'+1+1,Mg:=m'+1+1+1,on:=m'+1+1+1+1 } :ao)) (y:=({ x with id:=m,RX:=m+1,prog:=aJ fj (fun _=>4) (m+1+1) x.prog,Md:=m',pc:=m'+1,left:=m'+1+1,Mg:=m'+1+1+1,on:=m'+1+1+1+1,held:=cu (m'+1+1+1+1+1) } :ao)) (j:=8) (vs:= [.string (cu (m'+1+1+1+1+1))]) wm.I.1 (by show 8+1≤12; omega) (fun r hr=>by match r,hr with | 0,_=>rfl) (fun r hr hn=>by match r,hr,hn with | 0,_,_=>rfl | 1,_,_=>rfl | 2,_,_=>rfl | 3,_,_=>rfl | 4,_,_=>rfl | 5,_,_=>rfl | 6,_,_=>rfl | 7,_,_=>rfl | 8,_,hn=>exact absurd ⟨by omega,by show 8 < 8+1; omega⟩ hn | 9,_,_=>rfl | 10,_,_=>rfl | 11,_,_=>rfl);rw [HW.I.2,show bg.n=12 from rfl] at h5;have h6:aI v1 (bn v1 g (j * 12+8) [.string (cu (m'+1+1+1+1+1))]) [g] :=aI.set _ (by simp);simp only [bn] at h5 h6;have mO:Hid (bl bg 148 (v1.setCell ⟨g,j * 12+8,none⟩ (.string (cu (m'+1+1+1+1+1)))) base g cap (aJ cw bj k (l.take j) ++ ({ x with id:=m,RX:=m+1,prog:=aJ fj (fun _=>4) (m+1+1) x.prog,Md:=m',pc:=m'+1,left:=m'+1+1,Mg:=m'+1+1+1,on:=m'+1+1+1+1,held:=cu (m'+1+1+1+1+1) } :ao) :: l.drop (j+1))∧fp aR (v1.setCell ⟨g,j * 12+8,none⟩ (.string (cu (m'+1+1+1+1+1)))) base g (aJ cw bj k (l.take j) ++ ({ x with id:=m,RX:=m+1,prog:=aJ fj (fun _=>4) (m+1+1) x.prog,Md:=m',pc:=m'+1,left:=m'+1+1,Mg:=m'+1+1+1,on:=m'+1+1+1+1,held:=cu (m'+1+1+1+1+1) } :ao) :: l.drop (j+1))∧aI w (v1.setCell ⟨g,j * 12+8,none⟩ (.string (cu (m'+1+1+1+1+1)))) (g :: l.filterMap aR.bt)):=⟨h5,(wm.I.2.1.keep h6).ju rfl ((wm.I.2.1.keep h6).mine ({ x with id:=m,RX:=m+1,prog:=aJ fj (fun _=>4) (m+1+1) x.prog,Md:=m',pc:=m'+1,left:=m'+1+1,Mg:=m'+1+1+1,on:=m'+1+1+1+1 } :ao) (by simp)),wm.I.2.2.trans (h6.mono (by simp))⟩
   clear h5 h6;go_wp2_with fail;refine (fh (m'+1+1+1+1+1+1) (by omega) (by omega) _).mono ?_;rintro e v2 ⟨rfl,hb⟩;have xD:Hid (bl bg 148 v2 base g cap (aJ cw bj k (l.take j) ++ ({ x with id:=m,RX:=m+1,prog:=aJ fj (fun _=>4) (m+1+1) x.prog,Md:=m',pc:=m'+1,left:=m'+1+1,Mg:=m'+1+1+1,on:=m'+1+1+1+1,held:=cu (m'+1+1+1+1+1) } :ao) :: l.drop (j+1))∧fp aR v2 base g (aJ cw bj k (l.take j) ++ ({ x with id:=m,RX:=m+1,prog:=aJ fj (fun _=>4) (m+1+1) x.prog,Md:=m',pc:=m'+1,left:=m'+1+1,Mg:=m'+1+1+1,on:=m'+1+1+1+1,held:=cu (m'+1+1+1+1+1) } :ao) :: l.drop (j+1))∧aI w v2 (g :: l.filterMap aR.bt)):=⟨mO.I.1.same (hb.block g mO.I.1.lt),mO.I.2.1.keep (aI.dI hb),mO.I.2.2.trans (aI.dI hb)⟩
   clear hb;obtain ⟨⟨u9,c9⟩,f9⟩:(∃ u,v2.cell? ⟨g,j * 12+9,none⟩=some u)∧v2.frozen? ⟨g,j * 12+9,none⟩=false:=bl.eO xD.I.1 HW.I.2 (r:=9) (by decide:9 < bg.n);obtain ⟨⟨u10,qF⟩,f10⟩:(∃ u,v2.cell? ⟨g,j * 12+10,none⟩=some u)∧v2.frozen? ⟨g,j * 12+10,none⟩=false:=bl.eO xD.I.1 HW.I.2 (r:=10) (by decide:10 < bg.n);obtain ⟨⟨u11,pe⟩,f11⟩:(∃ u,v2.cell? ⟨g,j * 12+11,none⟩=some u)∧v2.frozen? ⟨g,j * 12+11,none⟩=false:=bl.eO xD.I.1 HW.I.2 (r:=11) (by decide:11 < bg.n);have h5:=bl.part (K:=bg) (x:=({ x with id:=m,RX:=m+1,prog:=aJ fj (fun _=>4) (m+1+1) x.prog,Md:=m',pc:=m'+1,left:=m'+1+1,Mg:=m'+1+1+1,on:=m'+1+1+1+1,held:=cu (m'+1+1+1+1+1) } :ao)) (y:=({ x with id:=m,RX:=m+1,prog:=aJ fj (fun _=>4) (m+1+1) x.prog,Md:=m',pc:=m'+1,left:=m'+1+1,Mg:=m'+1+1+1,on:=m'+1+1+1+1,held:=cu (m'+1+1+1+1+1),got:=cu (m'+1+1+1+1+1+1),code:=m'+1+1+1+1+1+1+1,RU:=m'+1+1+1+1+1+1+1+1 } :ao)) (j:=9) (vs:= [.string (cu (m'+1+1+1+1+1+1)),.int .i64 (m'+1+1+1+1+1+1+1),.int .i64 (m'+1+1+1+1+1+1+1+1)]) xD.I.1 (by show 9+3≤12; omega) (fun r hr=>by match r,hr with | 0,_=>rfl | 1,_=>rfl | 2,_=>rfl) (fun r hr hn=>by match r,hr,hn with | 0,_,_=>rfl | 1,_,_=>rfl | 2,_,_=>rfl | 3,_,_=>rfl | 4,_,_=>rfl | 5,_,_=>rfl | 6,_,_=>rfl | 7,_,_=>rfl | 8,_,_=>rfl | 9,_,hn=>exact absurd ⟨by omega,by show 9 < 9+3; omega⟩ hn | 10,_,hn=>exact absurd ⟨by omega,by show 10 < 9+3; omega⟩ hn | 11,_,hn=>exact absurd ⟨by omega,by show 11 < 9+3; omega⟩ hn);rw [HW.I.2,show bg.n=12 from rfl] at h5;have h6:aI v2 (bn v2 g (j * 12+9) [.string (cu (m'+1+1+1+1+1+1)),.int .i64 (m'+1+1+1+1+1+1+1),.int .i64 (m'+1+1+1+1+1+1+1+1)]) [g] :=aI.set _ (by simp);simp only [bn,Nat.add_assoc,Nat.reduceAdd] at h5 h6;have EU:Hid (bl bg 148 (((v2.setCell ⟨g,j * 12+9,none⟩ (.string (cu (m'+1+1+1+1+1+1)))).setCell ⟨g,j * 12+10,none⟩ (.int .i64 (m'+1+1+1+1+1+1+1))).setCell ⟨g,j * 12+11,none⟩ (.int .i64 (m'+1+1+1+1+1+1+1+1))) base g cap (aJ cw bj k (l.take j) ++ ({ x with id:=m,RX:=m+1,prog:=aJ fj (fun _=>4) (m+1+1) x.prog,Md:=m',pc:=m'+1,left:=m'+1+1,Mg:=m'+1+1+1,on:=m'+1+1+1+1,held:=cu (m'+1+1+1+1+1),got:=cu (m'+1+1+1+1+1+1),code:=m'+1+1+1+1+1+1+1,RU:=m'+1+1+1+1+1+1+1+1 } :ao) :: l.drop (j+1))∧fp aR (((v2.setCell ⟨g,j * 12+9,none⟩ (.string (cu (m'+1+1+1+1+1+1)))).setCell ⟨g,j * 12+10,none⟩ (.int .i64 (m'+1+1+1+1+1+1+1))).setCell ⟨g,j * 12+11,none⟩ (.int .i64 (m'+1+1+1+1+1+1+1+1))) base g (aJ cw bj k (l.take j) ++ ({ x with id:=m,RX:=m+1,prog:=aJ fj (fun _=>4) (m+1+1) x.prog,Md:=m',pc:=m'+1,left:=m'+1+1,Mg:=m'+1+1+1,on:=m'+1+1+1+1,held:=cu (m'+1+1+1+1+1),got:=cu (m'+1+1+1+1+1+1),code:=m'+1+1+1+1+1+1+1,RU:=m'+1+1+1+1+1+1+1+1 } :ao) :: l.drop (j+1))∧aI w (((v2.setCell ⟨g,j * 12+9,none⟩ (.string (cu (m'+1+1+1+1+1+1)))).setCell ⟨g,j * 12+10,none⟩ (.int .i64 (m'+1+1+1+1+1+1+1))).setCell ⟨g,j * 12+11,none⟩ (.int .i64 (m'+1+1+1+1+1+1+1+1))) (g :: l.filterMap aR.bt)):=⟨h5,(xD.I.2.1.keep h6).ju rfl ((xD.I.2.1.keep h6).mine ({ x with id:=m,RX:=m+1,prog:=aJ fj (fun _=>4) (m+1+1) x.prog,Md:=m',pc:=m'+1,left:=m'+1+1,Mg:=m'+1+1+1,on:=m'+1+1+1+1,held:=cu (m'+1+1+1+1+1) } :ao) (by simp)),xD.I.2.2.trans (h6.mono (by simp))⟩
   clear h5 h6;have HN:Hid (bl bg 148 (((v2.setCell ⟨g,j * 12+9,none⟩ (.string (cu (m'+1+1+1+1+1+1)))).setCell ⟨g,j * 12+10,none⟩ (.int .i64 (m'+1+1+1+1+1+1+1))).setCell ⟨g,j * 12+11,none⟩ (.int .i64 (m'+1+1+1+1+1+1+1+1))) base g cap (aJ cw bj k (l.take (j+1)) ++ l.drop (j+1))∧fp aR (((v2.setCell ⟨g,j * 12+9,none⟩ (.string (cu (m'+1+1+1+1+1+1)))).setCell ⟨g,j * 12+10,none⟩ (.int .i64 (m'+1+1+1+1+1+1+1))).setCell ⟨g,j * 12+11,none⟩ (.int .i64 (m'+1+1+1+1+1+1+1+1))) base g (aJ cw bj k (l.take (j+1)) ++ l.drop (j+1))∧aI w (((v2.setCell ⟨g,j * 12+9,none⟩ (.string (cu (m'+1+1+1+1+1+1)))).setCell ⟨g,j * 12+10,none⟩ (.int .i64 (m'+1+1+1+1+1+1+1))).setCell ⟨g,j * 12+11,none⟩ (.int .i64 (m'+1+1+1+1+1+1+1+1))) (g :: l.filterMap aR.bt)):=by
    rw [kE HX.I.1,Lm,← HA.I.1,show cw m x=rI m m' x by rw [HQ.I]; rfl];exact EU.I
   go_wp2;go_roundw
   case rel=>exact ⟨j+1,m'+9,by omega,by go_num,by go_num,by omega,by omega,⟨by have:=HX.I.2.2.2; have:=HQ.I; omega,HN.I.1,HN.I.2.1,HN.I.2.2⟩⟩
   case measure=>simp [intOf]; omega
  ·have i1: ¬ (j:Int) < (l.length:Int):=by omega
   have ej:j=l.length:=by omega
   subst ej;have HE:Hid (bl bg 148 wr base g cap (aJ cw bj k l)∧fp aR wr base g (aJ cw bj k l)∧m=k+(aF bj l:Nat)):=by have h5:=HA.I.2.1; have h6:=HA.I.1; have h7:=HA.I.2.2.1; rw [LQ,List.drop_length,QO] at h5 h7; rw [LQ] at h6; exact ⟨h5,h7,h6⟩
   go_wp2;go_ret;refine ⟨ck HE.I.2.2,?_,HE.I.2.1.mine,HA.I.2.2.2⟩;have h7:=HE.I.1.owns;rw [bE] at h7;exact h7
end
section
open Go.RowKit
def four (a b c d:List Nat):Nat→List Nat
 | 0=>a
 | 1=>b
 | 2=>c
 | 3=>d
 | _=> []
structure mJ (n0 n:Nat) (X:Nat→List Nat):Prop where
 apart: ∀ i j,i≠j→ ∀ q∈X i,q∉X j
 xy: ∀ i,∀ q∈X i,n0≤q∧q < n
theorem mJ.up {n0 n n':Nat} {X X':Nat→List Nat} (h:mJ n0 n X) (k:Nat) (hk: ∀ j,j≠k→X' j=X j) (hx: ∀ q∈X' k,q∈X k∨q=n) (hn:n < n') (h0:n0≤n):mJ n0 n' X':=by
 refine ⟨fun i j hij q hi hj=> ?_,fun i q hi=> ?_⟩
 ·by_cases ei:i=k
  ·subst ei
   rw [hk j (Ne.symm hij)] at hj;rcases hx q hi with h1 | rfl
   ·exact h.apart i j hij q h1 hj
   ·have:=(h.xy j q hj).2; omega
  ·rw [hk i ei] at hi
   by_cases ej:j=k
   ·subst ej
    rcases hx q hj with h1 | rfl
    ·exact h.apart i j hij q hi h1
    ·have:=(h.xy i q hi).2; omega
   ·rw [hk j ej] at hj
    exact h.apart i j hij q hi hj
 ·by_cases ei:i=k
  ·subst ei
   rcases hx q hi with h1 | rfl
   ·have:=h.xy i q h1; omega
   ·omega
  ·rw [hk i ei] at hi
   have:=h.xy i q hi
   omega
theorem mJ.mono {n0 n n':Nat} {X:Nat→List Nat} (h:mJ n0 n X) (hn:n≤n'):mJ n0 n' X:=⟨h.apart,fun i q hq=>by have:=h.xy i q hq; omega⟩
structure fI (p:af) (We w:World) (b0 d0 b1 d1 b2 d2 b3 d3 e:Bool) (g0 g1 g2 o:Nat) (a0 a1 a2:Option Addr) (c0 c1 c2:Nat):Prop where
 cd:Below We.heap.size We w
 part:av w We.heap.size p
 ret:w.heap[We.heap.size+1]? =some (.cells ar 48 (0,0))
 s0:su w (We.heap.size+2) 184 3 p.aj.length (dm.flat p.aj) b0 d0 g0 a0 c0
 s1:su w (We.heap.size+2) 187 2 p.L9.length (bJ.flat p.L9) b1 d1 g1 a1 c1
 s2:su w (We.heap.size+2) 190 3 p.ag.length (bG.flat p.ag) b2 d2 g2 a2 c2
 I:b3=true→w.heap[o]? =some (.cells (bif d3 then #[.int .i64 p.id,.int .i64 p.next,.slice none 0 0,.slice a0 p.aj.length c0,.slice a1 p.L9.length c1,.slice a2 p.ag.length c2,.slice none 0 0,.slice none 0 0] else ar) 48 (0,0))
 cl:(e=true→d0=true∧d1=true∧d2=true)∧(d3=true→e=true∧b3=true)
 size:We.heap.size+2≤w.heap.size
 pR:mJ (We.heap.size+2) w.heap.size (four (bM b0 d0 g0 a0) (bM b1 d1 g1 a1) (bM b2 d2 g2 a2) (bif b3 then [o] else []))
section
variable {p:af} {We w:World} {b0 d0 b1 d1 b2 d2 b3 d3 e:Bool} {g0 g1 g2 o:Nat} {a0 a1 a2:Option Addr} {c0 c1 c2:Nat}
theorem fI.aaZ (h:fI p We w false d0 b1 d1 b2 d2 b3 d3 e g0 g1 g2 o a0 a1 a2 c0 c1 c2):fI p We (w.alloc (.cells #[] 184)) true d0 b1 d1 b2 d2 b3 d3 e w.heap.size g1 g2 o a0 a1 a2 c0 c1 c2:=by
 have hb:Below w.heap.size w (w.alloc (.cells #[] 184)):=(Kp _ _).alloc (Ki _) _;have hlt: ∀ i,∀ q∈four (bM false d0 g0 a0) (bM b1 d1 g1 a1) (bM b2 d2 g2 a2) (bif b3 then [o] else []) i,q < w.heap.size:=fun i q hq=>(h.pR.xy i q hq).2
 exact ⟨h.cd.trans (hb.mono h.cd.size),h.part.below hb,(hb.block _ (by have:=h.size; omega)).trans h.ret,⟨fun _ hd=>⟨Kj _ _,h.size⟩,fun hd=>aL (h.s0.done hd) fun q hq=>hb.block q (hlt 0 q (by subst hd; simpa [four,bM] using hq))⟩,h.s1.same fun q hq=>hb.block q (hlt 1 q hq),h.s2.same fun q hq=>hb.block q (hlt 2 q hq),fun e=>(hb.block _ (hlt 3 o (by simp [four,e]))).trans (h.I e),h.cl,by have:=h.size; simp; omega,h.pR.up 0 (fun j hj=>by rcases j with _ | _ | _ | _ | _ <;> first | rfl | exact absurd rfl hj) (fun q hq=>by cases d0 with | true=>exact .inl (by simpa [four,bM] using hq) | false=>exact .inr (by simpa [four,bM] using hq)) (by simp) h.size⟩
theorem fI.abg (h:fI p We w b0 d0 false d1 b2 d2 b3 d3 e g0 g1 g2 o a0 a1 a2 c0 c1 c2):fI p We (w.alloc (.cells #[] 187)) b0 d0 true d1 b2 d2 b3 d3 e g0 w.heap.size g2 o a0 a1 a2 c0 c1 c2:=by
 have hb:Below w.heap.size w (w.alloc (.cells #[] 187)):=(Kp _ _).alloc (Ki _) _;have hlt: ∀ i,∀ q∈four (bM b0 d0 g0 a0) (bM false d1 g1 a1) (bM b2 d2 g2 a2) (bif b3 then [o] else []) i,q < w.heap.size:=fun i q hq=>(h.pR.xy i q hq).2
 exact ⟨h.cd.trans (hb.mono h.cd.size),h.part.below hb,(hb.block _ (by have:=h.size; omega)).trans h.ret,h.s0.same fun q hq=>hb.block q (hlt 0 q hq),⟨fun _ hd=>⟨Kj _ _,h.size⟩,fun hd=>aL (h.s1.done hd) fun q hq=>hb.block q (hlt 1 q (by subst hd; simpa [four,bM] using hq))⟩,h.s2.same fun q hq=>hb.block q (hlt 2 q hq),fun e=>(hb.block _ (hlt 3 o (by simp [four,e]))).trans (h.I e),h.cl,by have:=h.size; simp; omega,h.pR.up 1 (fun j hj=>by rcases j with _ | _ | _ | _ | _ <;> first | rfl | exact absurd rfl hj) (fun q hq=>by cases d1 with | true=>exact .inl (by simpa [four,bM] using hq) | false=>exact .inr (by simpa [four,bM] using hq)) (by simp) h.size⟩
theorem fI.make2 (h:fI p We w b0 d0 b1 d1 false d2 b3 d3 e g0 g1 g2 o a0 a1 a2 c0 c1 c2):fI p We (w.alloc (.cells #[] 190)) b0 d0 b1 d1 true d2 b3 d3 e g0 g1 w.heap.size o a0 a1 a2 c0 c1 c2:=by
 have hb:Below w.heap.size w (w.alloc (.cells #[] 190)):=(Kp _ _).alloc (Ki _) _;have hlt: ∀ i,∀ q∈four (bM b0 d0 g0 a0) (bM b1 d1 g1 a1) (bM false d2 g2 a2) (bif b3 then [o] else []) i,q < w.heap.size:=fun i q hq=>(h.pR.xy i q hq).2
 exact ⟨h.cd.trans (hb.mono h.cd.size),h.part.below hb,(hb.block _ (by have:=h.size; omega)).trans h.ret,h.s0.same fun q hq=>hb.block q (hlt 0 q hq),h.s1.same fun q hq=>hb.block q (hlt 1 q hq),⟨fun _ hd=>⟨Kj _ _,h.size⟩,fun hd=>aL (h.s2.done hd) fun q hq=>hb.block q (hlt 2 q (by subst hd; simpa [four,bM] using hq))⟩,fun e=>(hb.block _ (hlt 3 o (by simp [four,e]))).trans (h.I e),h.cl,by have:=h.size; simp; omega,h.pR.up 2 (fun j hj=>by rcases j with _ | _ | _ | _ | _ <;> first | rfl | exact absurd rfl hj) (fun q hq=>by cases d2 with | true=>exact .inl (by simpa [four,bM] using hq) | false=>exact .inr (by simpa [four,bM] using hq)) (by simp) h.size⟩
theorem fI.aa1 {w2:World} {a:Option Addr} {c:Nat} (h:fI p We w true false b1 d1 b2 d2 b3 d3 e g0 g1 g2 o a0 a1 a2 c0 c1 c2) (ho:w2.ownsRow (We.heap.size+2) 184 3 (.slice a p.aj.length c) p.aj.length (dm.flat p.aj)) (hg:w.grownBy w2 (some g0)) (hq: ∀ q∈blk a,q=g0∨q=w.heap.size):fI p We w2 true true b1 d1 b2 d2 b3 d3 e g0 g1 g2 o a a1 a2 c c1 c2:=by
 have hlt: ∀ i,∀ q∈four (bM true false g0 a0) (bM b1 d1 g1 a1) (bM b2 d2 g2 a2) (bif b3 then [o] else []) i,q < w.heap.size:=fun i q hq=>(h.pR.xy i q hq).2
 have hgl:We.heap.size+2≤g0∧g0 < w.heap.size:=h.pR.xy 0 g0 (by simp [four,bM]);have hne: ∀ i,i≠0→ ∀ q∈four (bM true false g0 a0) (bM b1 d1 g1 a1) (bM b2 d2 g2 a2) (bif b3 then [o] else []) i,w2.heap[q]? =w.heap[q]? :=fun i hi q hq=>hg.block q (hlt i q hq) fun e=>h.pR.apart i 0 hi q hq (by rw [KC e]; simp [four,bM])
 have hbe:Below We.heap.size We w2:=h.cd.grown hg (by have:=h.size; omega) (fun k hk=>by cases hk; omega);have he:e=false:=by cases e with | false=>rfl | true=>have:=h.cl.1 rfl; simp at this
 have hd:d3=false:=by cases hx:d3 with | false=>rfl | true=>rw [(h.cl.2 hx).1] at he; cases he
 subst he hd;have hz:=hg.size;have hsz:=h.size;refine ⟨hbe,(hg.block _ (by omega) (fun e=>by have:=KC e; omega)).trans h.part,(hg.block _ (by omega) (fun e=>by have:=KC e; omega)).trans h.ret,⟨(fun _ hd=>by cases hd),fun _=>ho⟩,h.s1.same fun q hq=>hne 1 (by decide) q hq,h.s2.same fun q hq=>hne 2 (by decide) q hq,fun e=>(hne 3 (by decide) o (by simp [four,e])).trans (h.I e),⟨(fun e=>by cases e),fun e=>by cases e⟩,by omega,?_⟩;by_cases hnew: ∃ q∈blk a,q=w.heap.size
 ·obtain ⟨q0,nu,hqe⟩:=hnew
  have hw2:=(cf ho nu).2;refine h.pR.up 0 (fun j hj=>by rcases j with _ | _ | _ | _ | _ <;> first | rfl | exact absurd rfl hj) (fun q hq'=> ?_) (by omega) hsz;have h5:q∈blk a:=by simpa [four,bM] using hq'
  rcases hq q h5 with h6 | h6
  ·exact .inl (by rw [h6]; simp [four,bM])
  ·exact .inr h6
 ·have hall: ∀ q∈blk a,q=g0:=fun q hq'=>(hq q hq').resolve_right fun e=>hnew ⟨q,hq',e⟩
  refine mJ.mono (n:=w.heap.size) ⟨fun i i2 hij q hi hi2=> ?_,fun i q hi=> ?_⟩ hz
  ·have e1: ∀ i,∀ q∈four (bM true true g0 a) (bM b1 d1 g1 a1) (bM b2 d2 g2 a2) (bif b3 then [o] else []) i,q∈four (bM true false g0 a0) (bM b1 d1 g1 a1) (bM b2 d2 g2 a2) (bif b3 then [o] else []) i:=fun i q hq'=>by
    by_cases ei:i=0
    ·subst ei
     have h5:q∈blk a:=by simpa [four,bM] using hq'
     rw [hall q h5];simp [four,bM]
    ·rcases i with _ | _ | _ | _ | _ <;> first | exact hq' | exact absurd rfl ei
   exact h.pR.apart i i2 hij q (e1 i q hi) (e1 i2 q hi2)
  ·by_cases ei:i=0
   ·subst ei
    have h5:q∈blk a:=by simpa [four,bM] using hi
    rw [hall q h5];exact hgl
   ·exact h.pR.xy i q (by rcases i with _ | _ | _ | _ | _ <;> first | exact hi | exact absurd rfl ei)
theorem fI.aa2 {w2:World} {a:Option Addr} {c:Nat} (h:fI p We w b0 d0 true false b2 d2 b3 d3 e g0 g1 g2 o a0 a1 a2 c0 c1 c2) (ho:w2.ownsRow (We.heap.size+2) 187 2 (.slice a p.L9.length c) p.L9.length (bJ.flat p.L9)) (hg:w.grownBy w2 (some g1)) (hq: ∀ q∈blk a,q=g1∨q=w.heap.size):fI p We w2 b0 d0 true true b2 d2 b3 d3 e g0 g1 g2 o a0 a a2 c0 c c2:=by
 have hlt: ∀ i,∀ q∈four (bM b0 d0 g0 a0) (bM true false g1 a1) (bM b2 d2 g2 a2) (bif b3 then [o] else []) i,q < w.heap.size:=fun i q hq=>(h.pR.xy i q hq).2
 have hgl:We.heap.size+2≤g1∧g1 < w.heap.size:=h.pR.xy 1 g1 (by simp [four,bM]);have hne: ∀ i,i≠1→ ∀ q∈four (bM b0 d0 g0 a0) (bM true false g1 a1) (bM b2 d2 g2 a2) (bif b3 then [o] else []) i,w2.heap[q]? =w.heap[q]? :=fun i hi q hq=>hg.block q (hlt i q hq) fun e=>h.pR.apart i 1 hi q hq (by rw [KC e]; simp [four,bM])
 have hbe:Below We.heap.size We w2:=h.cd.grown hg (by have:=h.size; omega) (fun k hk=>by cases hk; omega);have he:e=false:=by cases e with | false=>rfl | true=>have:=h.cl.1 rfl; simp at this
 have hd:d3=false:=by cases hx:d3 with | false=>rfl | true=>rw [(h.cl.2 hx).1] at he; cases he
 subst he hd;have hz:=hg.size;have hsz:=h.size;refine ⟨hbe,(hg.block _ (by omega) (fun e=>by have:=KC e; omega)).trans h.part,(hg.block _ (by omega) (fun e=>by have:=KC e; omega)).trans h.ret,h.s0.same fun q hq=>hne 0 (by decide) q hq,⟨(fun _ hd=>by cases hd),fun _=>ho⟩,h.s2.same fun q hq=>hne 2 (by decide) q hq,fun e=>(hne 3 (by decide) o (by simp [four,e])).trans (h.I e),⟨(fun e=>by cases e),fun e=>by cases e⟩,by omega,?_⟩;by_cases hnew: ∃ q∈blk a,q=w.heap.size
 ·obtain ⟨q0,nu,hqe⟩:=hnew
  have hw2:=(cf ho nu).2;refine h.pR.up 1 (fun j hj=>by rcases j with _ | _ | _ | _ | _ <;> first | rfl | exact absurd rfl hj) (fun q hq'=> ?_) (by omega) hsz;have h5:q∈blk a:=by simpa [four,bM] using hq'
  rcases hq q h5 with h6 | h6
  ·exact .inl (by rw [h6]; simp [four,bM])
  ·exact .inr h6
 ·have hall: ∀ q∈blk a,q=g1:=fun q hq'=>(hq q hq').resolve_right fun e=>hnew ⟨q,hq',e⟩
  refine mJ.mono (n:=w.heap.size) ⟨fun i i2 hij q hi hi2=> ?_,fun i q hi=> ?_⟩ hz
  ·have e1: ∀ i,∀ q∈four (bM b0 d0 g0 a0) (bM true true g1 a) (bM b2 d2 g2 a2) (bif b3 then [o] else []) i,q∈four (bM b0 d0 g0 a0) (bM true false g1 a1) (bM b2 d2 g2 a2) (bif b3 then [o] else []) i:=fun i q hq'=>by
    by_cases ei:i=1
    ·subst ei
     have h5:q∈blk a:=by simpa [four,bM] using hq'
     rw [hall q h5];simp [four,bM]
    ·rcases i with _ | _ | _ | _ | _ <;> first | exact hq' | exact absurd rfl ei
   exact h.pR.apart i i2 hij q (e1 i q hi) (e1 i2 q hi2)
  ·by_cases ei:i=1
   ·subst ei
    have h5:q∈blk a:=by simpa [four,bM] using hi
    rw [hall q h5];exact hgl
   ·exact h.pR.xy i q (by rcases i with _ | _ | _ | _ | _ <;> first | exact hi | exact absurd rfl ei)
theorem fI.copy2 {w2:World} {a:Option Addr} {c:Nat} (h:fI p We w b0 d0 b1 d1 true false b3 d3 e g0 g1 g2 o a0 a1 a2 c0 c1 c2) (ho:w2.ownsRow (We.heap.size+2) 190 3 (.slice a p.ag.length c) p.ag.length (bG.flat p.ag)) (hg:w.grownBy w2 (some g2)) (hq: ∀ q∈blk a,q=g2∨q=w.heap.size):fI p We w2 b0 d0 b1 d1 true true b3 d3 e g0 g1 g2 o a0 a1 a c0 c1 c:=by
 have hlt: ∀ i,∀ q∈four (bM b0 d0 g0 a0) (bM b1 d1 g1 a1) (bM true false g2 a2) (bif b3 then [o] else []) i,q < w.heap.size:=fun i q hq=>(h.pR.xy i q hq).2
 have hgl:We.heap.size+2≤g2∧g2 < w.heap.size:=h.pR.xy 2 g2 (by simp [four,bM]);have hne: ∀ i,i≠2→ ∀ q∈four (bM b0 d0 g0 a0) (bM b1 d1 g1 a1) (bM true false g2 a2) (bif b3 then [o] else []) i,w2.heap[q]? =w.heap[q]? :=fun i hi q hq=>hg.block q (hlt i q hq) fun e=>h.pR.apart i 2 hi q hq (by rw [KC e]; simp [four,bM])
 have hbe:Below We.heap.size We w2:=h.cd.grown hg (by have:=h.size; omega) (fun k hk=>by cases hk; omega);have he:e=false:=by cases e with | false=>rfl | true=>have:=h.cl.1 rfl; simp at this
 have hd:d3=false:=by cases hx:d3 with | false=>rfl | true=>rw [(h.cl.2 hx).1] at he; cases he
 subst he hd;have hz:=hg.size;have hsz:=h.size;refine ⟨hbe,(hg.block _ (by omega) (fun e=>by have:=KC e; omega)).trans h.part,(hg.block _ (by omega) (fun e=>by have:=KC e; omega)).trans h.ret,h.s0.same fun q hq=>hne 0 (by decide) q hq,h.s1.same fun q hq=>hne 1 (by decide) q hq,⟨(fun _ hd=>by cases hd),fun _=>ho⟩,fun e=>(hne 3 (by decide) o (by simp [four,e])).trans (h.I e),⟨(fun e=>by cases e),fun e=>by cases e⟩,by omega,?_⟩;by_cases hnew: ∃ q∈blk a,q=w.heap.size
 ·obtain ⟨q0,nu,hqe⟩:=hnew
  have hw2:=(cf ho nu).2;refine h.pR.up 2 (fun j hj=>by rcases j with _ | _ | _ | _ | _ <;> first | rfl | exact absurd rfl hj) (fun q hq'=> ?_) (by omega) hsz;have h5:q∈blk a:=by simpa [four,bM] using hq'
  rcases hq q h5 with h6 | h6
  ·exact .inl (by rw [h6]; simp [four,bM])
  ·exact .inr h6
 ·have hall: ∀ q∈blk a,q=g2:=fun q hq'=>(hq q hq').resolve_right fun e=>hnew ⟨q,hq',e⟩
  refine mJ.mono (n:=w.heap.size) ⟨fun i i2 hij q hi hi2=> ?_,fun i q hi=> ?_⟩ hz
  ·have e1: ∀ i,∀ q∈four (bM b0 d0 g0 a0) (bM b1 d1 g1 a1) (bM true true g2 a) (bif b3 then [o] else []) i,q∈four (bM b0 d0 g0 a0) (bM b1 d1 g1 a1) (bM true false g2 a2) (bif b3 then [o] else []) i:=fun i q hq'=>by
    by_cases ei:i=2
    ·subst ei
     have h5:q∈blk a:=by simpa [four,bM] using hq'
     rw [hall q h5];simp [four,bM]
    ·rcases i with _ | _ | _ | _ | _ <;> first | exact hq' | exact absurd rfl ei
   exact h.pR.apart i i2 hij q (e1 i q hi) (e1 i2 q hi2)
  ·by_cases ei:i=2
   ·subst ei
    have h5:q∈blk a:=by simpa [four,bM] using hi
    rw [hall q h5];exact hgl
   ·exact h.pR.xy i q (by rcases i with _ | _ | _ | _ | _ <;> first | exact hi | exact absurd rfl ei)
theorem fI.aa9 (h:fI p We w b0 d0 b1 d1 b2 d2 false false e g0 g1 g2 o a0 a1 a2 c0 c1 c2):fI p We (w.alloc (.cells ar 48)) b0 d0 b1 d1 b2 d2 true false e g0 g1 g2 w.heap.size a0 a1 a2 c0 c1 c2:=by
 have hb:Below w.heap.size w (w.alloc (.cells ar 48)):=(Kp _ _).alloc (Ki _) _;have hlt: ∀ i,∀ q∈four (bM b0 d0 g0 a0) (bM b1 d1 g1 a1) (bM b2 d2 g2 a2) (bif false then [o] else []) i,q < w.heap.size:=fun i q hq=>(h.pR.xy i q hq).2
 exact ⟨h.cd.trans (hb.mono h.cd.size),h.part.below hb,(hb.block _ (by have:=h.size; omega)).trans h.ret,h.s0.same fun q hq=>hb.block q (hlt 0 q hq),h.s1.same fun q hq=>hb.block q (hlt 1 q hq),h.s2.same fun q hq=>hb.block q (hlt 2 q hq),fun _=>Kj _ _,⟨h.cl.1,fun e=>by cases e⟩,by have:=h.size; simp; omega,h.pR.up 3 (fun j hj=>by rcases j with _ | _ | _ | _ | _ <;> first | rfl | exact absurd rfl hj) (fun q hq=> .inr (by simpa [four] using hq)) (by simp) h.size⟩
theorem fI.build (h:fI p We w b0 d0 b1 d1 b2 d2 b3 d3 false g0 g1 g2 o a0 a1 a2 c0 c1 c2) (h0:d0=true) (h1:d1=true) (h2:d2=true):fI p We w b0 d0 b1 d1 b2 d2 b3 d3 true g0 g1 g2 o a0 a1 a2 c0 c1 c2:=⟨h.cd,h.part,h.ret,h.s0,h.s1,h.s2,h.I,⟨fun _=>⟨h0,h1,h2⟩,fun hd=>⟨rfl,(h.cl.2 hd).2⟩⟩,h.size,h.pR⟩
theorem fI.store (h:fI p We w b0 d0 b1 d1 b2 d2 true false true g0 g1 g2 o a0 a1 a2 c0 c1 c2):fI p We (w.setRow o #[.int .i64 p.id,.int .i64 p.next,.slice none 0 0,.slice a0 p.aj.length c0,.slice a1 p.L9.length c1,.slice a2 p.ag.length c2,.slice none 0 0,.slice none 0 0]) b0 d0 b1 d1 b2 d2 true true true g0 g1 g2 o a0 a1 a2 c0 c1 c2:=by
 have ho:=h.pR.xy 3 o (by simp [four]);have hne: ∀ q,q≠o→(w.setRow o #[.int .i64 p.id,.int .i64 p.next,.slice none 0 0,.slice a0 p.aj.length c0,.slice a1 p.L9.length c1,.slice a2 p.ag.length c2,.slice none 0 0,.slice none 0 0]).heap[q]? =w.heap[q]? :=fun q hq=>setRow_other _ _ _ _ hq
 have hap: ∀ i,i≠3→ ∀ q∈four (bM b0 d0 g0 a0) (bM b1 d1 g1 a1) (bM b2 d2 g2 a2) [o] i,q≠o:=fun i hi q hq e=>h.pR.apart i 3 hi q hq (by subst e; simp [four])
 have hsz:=h.size;exact ⟨kz h.cd (by omega) _,(hne _ (by omega)).trans h.part,(hne _ (by omega)).trans h.ret,h.s0.same fun q hq=>hne q (hap 0 (by decide) q hq),h.s1.same fun q hq=>hne q (hap 1 (by decide) q hq),h.s2.same fun q hq=>hne q (hap 2 (by decide) q hq),fun _=>setRow_heap _ _ _ _ _ _ (h.I rfl),⟨h.cl.1,fun _=>⟨rfl,rfl⟩⟩,by rw [size_setRow]; exact h.size,by rw [size_setRow]; exact h.pR⟩
end
end
section
open Go.RowKit
attribute [local go_sem ↓] Kc Kd
def eo (x:aM):Nat:=4+aF (fun _:ByteArray=>1) x.Ma
def fU (k:Int) (x:aM):aM:= { x with id:=k,I:=(k+1) % 3 == 0,Mf:=(k+1+1) % 3 == 0,max:=k+1+1+1,Ma:=aJ mkStr (fun _=>1) (k+1+1+1+1) x.Ma }
theorem AU (a:Option Addr) (l:List aM) (cap:Nat) (k:Int) (w:World) (base:Nat) (hl:l.length≤1048576) (hk: ∀ x∈l,x.Ma.length≤1048576) (h0:1≤k) (h1:k+(aF eo l:Nat)≤90000000) (ho:w.ownsRow base 85 5 (.slice a l.length cap) l.length (bX.flat l)) (hm: ∀ x∈l,aU.cO w base x) (hn:(blk a ++ l.filterMap aU.bt).Nodup):
  Calls J3 62 #[.slice a l.length cap,.int .i64 k] w fun e w'=>e= .returned (.int .i64 (k+(aF eo l:Nat)))∧w'.ownsRow base 85 5 (.slice a l.length cap) l.length (bX.flat (aJ fU eo k l))∧(∀ y∈aJ fU eo k l,aU.cO w' base y)∧aI w w' (blk a ++ l.filterMap aU.bt):=by
 by_cases hz:l.length=0
 ·have hl0:l= [] :=List.eq_nil_of_length_eq_zero hz
  subst hl0;have HO:Hid (w.ownsRow base 85 5 (.slice a 0 cap) 0 (bX.flat [])):=ho;clear ho
  go_enter Tryz.func62,Tryz.ntmps62
  go_wp2_with fail
  go_loopw [1,5] (fun q i wr=>q= .int .i64 k∧i= .int .i64 0∧wr=w) (fun _ _ _=>0)
  case atStart=>exact ⟨rfl,rfl,rfl⟩
  case round=>
   obtain ⟨rfl,rfl,rfl⟩:=hrel;go_wp2;go_ret;exact ⟨ck (by simp [aF]),HO.I,(fun y hy=>by cases hy),aI.refl _ _⟩
 obtain ⟨g,rfl,hrow⟩:=bl.fX (K:=bX) ho hz;have HR:Hid (bl bX 85 w base g cap l∧fp aU w base g l):=⟨hrow,hm,hn⟩
 have HB:Hid (k+(aF eo l:Nat)≤90000000∧ ∀ x∈l,x.Ma.length≤1048576):=⟨h1,hk⟩
 clear ho hrow h1 hz hm hn hk
 go_enter Tryz.func62,Tryz.ntmps62
 go_wp2_with fail
 go_loopw [1,5] (fun q i wr=> ∃ (j:Nat) (m:Int),j≤l.length∧i= .int .i64 j∧q= .int .i64 m∧1≤m∧m≤90000000∧Hid (m=k+(aF eo (l.take j):Nat)∧bl bX 85 wr base g cap (aJ fU eo k (l.take j) ++ l.drop j)∧fp aU wr base g (aJ fU eo k (l.take j) ++ l.drop j)∧aI w wr (g :: l.filterMap aU.bt))) (fun _ i _=>l.length - (intOf i).toNat)
 case atStart=>exact ⟨0,k,Ky _,rfl,rfl,h0,by have:=HB.I.1; omega,⟨by simp [aF],HR.I.1,HR.I.2,aI.refl _ _⟩⟩
 case round=>
  clear HR;obtain ⟨j,m,hj,rfl,rfl,m0,m1,HA⟩:=hrel;by_cases hlt:j < l.length
  ·have i0:(0:Int)≤(j:Int):=by omega
   have i1:(j:Int) < (l.length:Int):=by omega
   obtain ⟨x,hx⟩: ∃ x,l[j]? =some x:=⟨_,Kz hlt⟩
   have pI:l.drop j=x :: l.drop (j+1):=mz hx;have qw:=du (c:=eo) hx;have hup:=gK (c:=eo) hx;have hcx:eo x=4+aF (fun _:ByteArray=>1) x.Ma:=rfl;have HX:Hid (l[j]? =some x∧x.Ma.length≤1048576∧m+1+1+1+1+(aF (fun _:ByteArray=>1) x.Ma:Nat)≤90000000∧m+1+1+1+1+(aF (fun _:ByteArray=>1) x.Ma:Nat)=k+(aF eo (l.take (j+1)):Nat)):=⟨hx,HB.I.2 x (KA hx),by have:=HB.I.1; have:=HA.I.1; omega,by have:=HA.I.1; omega⟩
   have HW:Hid (bl bX 85 wr base g cap (aJ fU eo k (l.take j) ++ x :: l.drop (j+1))∧(aJ fU eo k (l.take j)).length=j):=⟨by have:=HA.I.2.1; rwa [pI] at this,by rw [bE,Lk]; omega⟩
   have HM:Hid (fp aU wr base g (aJ fU eo k (l.take j) ++ x :: l.drop (j+1))):=by have:=HA.I.2.2.1; rwa [pI] at this
   have m2:m+1+1+1+1≤90000000:=by have:=HX.I.2.2.1; omega
   have hgl:g < wr.heap.size:=HW.I.1.lt;clear hx pI qw hup hcx;have q0:=bl.eO HW.I.1 HW.I.2 (r:=0) (by decide:0 < bX.n);obtain ⟨⟨u0,c0⟩,f0⟩:(∃ u,wr.cell? ⟨g,j * 5,none⟩=some u)∧wr.frozen? ⟨g,j * 5,none⟩=false:=q0;have q1:=bl.eO HW.I.1 HW.I.2 (r:=1) (by decide:1 < bX.n);obtain ⟨⟨u1,c1⟩,f1⟩:(∃ u,wr.cell? ⟨g,j * 5+1,none⟩=some u)∧wr.frozen? ⟨g,j * 5+1,none⟩=false:=q1;have q2:=bl.eO HW.I.1 HW.I.2 (r:=2) (by decide:2 < bX.n);obtain ⟨⟨u2,c2⟩,f2⟩:(∃ u,wr.cell? ⟨g,j * 5+2,none⟩=some u)∧wr.frozen? ⟨g,j * 5+2,none⟩=false:=q2;have q3:=bl.eO HW.I.1 HW.I.2 (r:=3) (by decide:3 < bX.n);obtain ⟨⟨u3,c3⟩,f3⟩:(∃ u,wr.cell? ⟨g,j * 5+3,none⟩=some u)∧wr.frozen? ⟨g,j * 5+3,none⟩=false:=q3;have c2:wr.cell? ⟨g,j * 5+4,none⟩=some (.slice x.ak x.Ma.length x.aq):=(bl.uD HW.I.1 HW.I.2 (r:=4) (by decide:4 < bX.n))
   have h5:=bl.part (K:=bX) (x:=x) (y:=({ x with id:=m,I:=(m+1) % 3 == 0,Mf:=(m+1+1) % 3 == 0,max:=m+1+1+1 } :aM)) (j:=0) (vs:= [.int .i64 (m),.bool ((m+1) % 3 == 0),.bool ((m+1+1) % 3 == 0),.int .i64 (m+1+1+1)]) HW.I.1 (by show 0+4≤5; omega) (fun r hr=>by match r,hr with | 0,_=>rfl | 1,_=>rfl | 2,_=>rfl | 3,_=>rfl) (fun r hr hn=>by match r,hr,hn with | 0,_,hn=>exact absurd ⟨by omega,by show 0 < 0+4; omega⟩ hn | 1,_,hn=>exact absurd ⟨by omega,by show 1 < 0+4; omega⟩ hn | 2,_,hn=>exact absurd ⟨by omega,by show 2 < 0+4; omega⟩ hn | 3,_,hn=>exact absurd ⟨by omega,by show 3 < 0+4; omega⟩ hn | 4,_,_=>rfl);rw [HW.I.2,show bX.n=5 from rfl] at h5;have h6:aI wr (bn wr g (j * 5) [.int .i64 (m),.bool ((m+1) % 3 == 0),.bool ((m+1+1) % 3 == 0),.int .i64 (m+1+1+1)]) [g] :=aI.set _ (by simp);simp only [bn,PT,Nat.add_assoc,Nat.reduceAdd] at h5 h6;have HS:Hid (bl bX 85 ((((wr.setCell ⟨g,j * 5,none⟩ (.int .i64 (m))).setCell ⟨g,j * 5+1,none⟩ (.bool ((m+1) % 3 == 0))).setCell ⟨g,j * 5+2,none⟩ (.bool ((m+1+1) % 3 == 0))).setCell ⟨g,j * 5+3,none⟩ (.int .i64 (m+1+1+1))) base g cap (aJ fU eo k (l.take j) ++ ({ x with id:=m,I:=(m+1) % 3 == 0,Mf:=(m+1+1) % 3 == 0,max:=m+1+1+1 } :aM) :: l.drop (j+1))∧fp aU ((((wr.setCell ⟨g,j * 5,none⟩ (.int .i64 (m))).setCell ⟨g,j * 5+1,none⟩ (.bool ((m+1) % 3 == 0))).setCell ⟨g,j * 5+2,none⟩ (.bool ((m+1+1) % 3 == 0))).setCell ⟨g,j * 5+3,none⟩ (.int .i64 (m+1+1+1))) base g (aJ fU eo k (l.take j) ++ ({ x with id:=m,I:=(m+1) % 3 == 0,Mf:=(m+1+1) % 3 == 0,max:=m+1+1+1 } :aM) :: l.drop (j+1))∧aI w ((((wr.setCell ⟨g,j * 5,none⟩ (.int .i64 (m))).setCell ⟨g,j * 5+1,none⟩ (.bool ((m+1) % 3 == 0))).setCell ⟨g,j * 5+2,none⟩ (.bool ((m+1+1) % 3 == 0))).setCell ⟨g,j * 5+3,none⟩ (.int .i64 (m+1+1+1))) (g :: l.filterMap aU.bt)):=⟨h5,(HM.I.keep h6).ju rfl ((HM.I.keep h6).mine x (by simp)),HA.I.2.2.2.trans (h6.mono (by simp))⟩
   clear h5 h6;go_wp2_with fail;generalize (((wr.setCell ⟨g,j * 5,none⟩ (.int .i64 (m))).setCell ⟨g,j * 5+1,none⟩ (.bool ((m+1) % 3 == 0))).setCell ⟨g,j * 5+2,none⟩ (.bool ((m+1+1) % 3 == 0))).setCell ⟨g,j * 5+3,none⟩ (.int .i64 (m+1+1+1))=W1 at *;refine (uu x.ak x.Ma x.aq (m+1+1+1+1) W1 base HX.I.2.1 (by omega) HX.I.2.2.1 (HS.I.2.1.mine ({ x with id:=m,I:=(m+1) % 3 == 0,Mf:=(m+1+1) % 3 == 0,max:=m+1+1+1 } :aM) (by simp))).mono ?_;rintro e v ⟨rfl,hown,hkb⟩;have HV:Hid (bl bX 85 v base g cap (aJ fU eo k (l.take (j+1)) ++ l.drop (j+1))∧fp aU v base g (aJ fU eo k (l.take (j+1)) ++ l.drop (j+1))∧aI w v (g :: l.filterMap aU.bt)):=by
    have hap:=HS.I.2.1.apart (z:=({ x with id:=m,I:=(m+1) % 3 == 0,Mf:=(m+1+1) % 3 == 0,max:=m+1+1+1 } :aM)) (by simp);rw [kE HX.I.1,Lm,← HA.I.1];have h7:=HS.I.1.same (hkb.same g HS.I.1.lt hap);have hm7:aU.cO v base (fU m x):=by
     show v.ownsRow base _ 1 (.slice x.ak (aJ mkStr (fun _=>1) (m+1+1+1+1) x.Ma).length x.aq) (aJ mkStr (fun _=>1) (m+1+1+1+1) x.Ma).length (bT.flat (aJ mkStr (fun _=>1) (m+1+1+1+1) x.Ma))
     rw [bE];exact hown
    refine ⟨?_,HS.I.2.1.inner hkb rfl hm7,HS.I.2.2.trans (hkb.mono fun b hb=> ?_)⟩
    ·exact bl.part (K:=bX) (x:=({ x with id:=m,I:=(m+1) % 3 == 0,Mf:=(m+1+1) % 3 == 0,max:=m+1+1+1 } :aM)) (y:=fU m x) (j:=0) (vs:= []) h7 (by show 0+0≤5; omega) (fun r hr=>absurd hr (by simp)) (fun r hr _=>by match r,hr with | 0,_=>rfl | 1,_=>rfl | 2,_=>rfl | 3,_=>rfl | 4,_=>(show some (Value.slice x.ak (aJ mkStr (fun _=>1) (m+1+1+1+1) x.Ma).length x.aq)=some (.slice x.ak x.Ma.length x.aq); rw [bE]))
    ·exact LB _ (Lq.2 ⟨x,KA HX.I.1,fZ.1 hb⟩)
   clear hown hkb HS;have m3:m+1+1+1+1+(aF (fun _:ByteArray=>1) x.Ma:Nat)≤90000000:=HX.I.2.2.1;go_wp2;go_roundw
   case rel=>exact ⟨j+1,m+1+1+1+1+(aF (fun _:ByteArray=>1) x.Ma:Nat),by omega,by go_num,rfl,by omega,by omega,⟨HX.I.2.2.2,HV.I.1,HV.I.2.1,HV.I.2.2⟩⟩
   case measure=>simp [intOf]; omega
  ·have i1: ¬ (j:Int) < (l.length:Int):=by omega
   have ej:j=l.length:=by omega
   subst ej;have HE:Hid (bl bX 85 wr base g cap (aJ fU eo k l)∧fp aU wr base g (aJ fU eo k l)∧m=k+(aF eo l:Nat)):=by have h5:=HA.I.2.1; have h6:=HA.I.1; have h7:=HA.I.2.2.1; rw [LQ,List.drop_length,QO] at h5 h7; rw [LQ] at h6; exact ⟨h5,h7,h6⟩
   go_wp2;go_ret;refine ⟨ck HE.I.2.2,?_,HE.I.2.1.mine,HA.I.2.2.2⟩;have h7:=HE.I.1.owns;rw [bE] at h7;exact h7
theorem Ah (a:Option Addr) (l:List aM) (cap:Nat) (k:Int) (w:World) (hl:l.length≤1048576) (hk: ∀ x∈l,x.Ma.length≤1048576) (h0:1≤k) (h1:k+(aF eo l:Nat)≤90000000) (hr:bX.bU w a (aJ fU eo k l)):
  Calls J3 68 #[.slice a l.length cap,.int .i64 k] w fun e w'=>e= .returned (.int .i64 (k+(aF eo l:Nat)))∧Below w.heap.size w w':=by
 have HR:Hid (bX.bU w a (aJ fU eo k l)∧k+(aF eo l:Nat)≤90000000∧ ∀ x∈l,x.Ma.length≤1048576):=⟨hr,h1,hk⟩
 clear hr h1 hk
 go_enter Tryz.func68,Tryz.ntmps68
 go_wp2_with fail
 go_loopw [1,5] (fun q i wr=> ∃ (j:Nat) (m:Int),j≤l.length∧i= .int .i64 j∧q= .int .i64 m∧1≤m∧m≤90000000∧Hid (m=k+(aF eo (l.take j):Nat)∧Below w.heap.size w wr)) (fun _ i _=>l.length - (intOf i).toNat)
 case atStart=>exact ⟨0,k,Ky _,rfl,rfl,h0,by have:=HR.I.2.1; omega,⟨by simp [aF],Kp _ _⟩⟩
 case round=>
  obtain ⟨j,m,hj,rfl,rfl,m0,m1,HA⟩:=hrel;by_cases hlt:j < l.length
  ·have i0:(0:Int)≤(j:Int):=by omega
   have i1:(j:Int) < (l.length:Int):=by omega
   obtain ⟨x,hx⟩: ∃ x,l[j]? =some x:=⟨_,Kz hlt⟩
   have qw:=du (c:=eo) hx;have hup:=gK (c:=eo) hx;have hcx:eo x=4+aF (fun _:ByteArray=>1) x.Ma:=rfl;have hg:=jK (f:=fU) (c:=eo) (k:=k) hx;rw [← HA.I.1] at hg;have hls:bX.bU wr a (aJ fU eo k l):=HR.I.1.below HA.I.2;obtain ⟨g,ha,hat⟩:=hls.at hg;have c0:wr.cell? ⟨g,j * 5,none⟩=some (.int .i64 (m)):=hat 0 _ rfl;have c1:wr.cell? ⟨g,j * 5+1,none⟩=some (.bool ((m+1) % 3 == 0)):=hat 1 _ rfl;have c2:wr.cell? ⟨g,j * 5+2,none⟩=some (.bool ((m+1+1) % 3 == 0)):=hat 2 _ rfl;have c3:wr.cell? ⟨g,j * 5+3,none⟩=some (.int .i64 (m+1+1+1)):=hat 3 _ rfl;have cp:wr.cell? ⟨g,j * 5+4,none⟩=some (.slice x.ak x.Ma.length x.aq):=(hat 4 _ rfl).trans (show some (Value.slice x.ak (aJ mkStr (fun _=>1) (m+1+1+1+1) x.Ma).length x.aq)=_ by rw [bE]);have HX:Hid (x.Ma.length≤1048576∧m+1+1+1+1+(aF (fun _:ByteArray=>1) x.Ma:Nat)≤90000000∧m+1+1+1+1+(aF (fun _:ByteArray=>1) x.Ma:Nat)=k+(aF eo (l.take (j+1)):Nat)∧bT.bU wr x.ak (aJ mkStr (fun _=>1) (m+1+1+1+1) x.Ma)):=⟨HR.I.2.2 x (KA hx),by have:=HR.I.2.1; have:=HA.I.1; omega,by have:=HA.I.1; omega,hls.2 _ (KA hg) (x.ak,bT.flat (aJ mkStr (fun _=>1) (m+1+1+1+1) x.Ma)) (List.mem_singleton.2 rfl),fun _ _ r hr=>by cases hr⟩
   have m2:m+1+1+1+1+(aF (fun _:ByteArray=>1) x.Ma:Nat)≤90000000:=HX.I.2.1;subst ha;clear hx qw hup hcx hg hat hls;go_wp2_with fail;refine (uo x.ak x.Ma x.aq (m+1+1+1+1) wr HX.I.1 (by omega) HX.I.2.1 HX.I.2.2.2).mono ?_;rintro e v ⟨rfl,hb⟩;have HV:Hid (Below w.heap.size w v):=HA.I.2.trans (hb.mono HA.I.2.size);clear hb;go_wp2;go_roundw
   case rel=>exact ⟨j+1,m+1+1+1+1+(aF (fun _:ByteArray=>1) x.Ma:Nat),by omega,by go_num,rfl,by omega,by omega,⟨HX.I.2.2.1,HV.I⟩⟩
   case measure=>simp [intOf]; omega
  ·have i1: ¬ (j:Int) < (l.length:Int):=by omega
   have HE:Hid (m=k+(aF eo l:Nat)):=by have h6:=HA.I.1; rw [List.take_of_length_le (by omega)] at h6; exact h6
   go_wp2;go_ret;exact ⟨ck HE.I,HA.I.2⟩
end
section
open Go.RowKit Go.Maps
attribute [local go_sem ↓] Kc Kd
abbrev Xn (l:List Int):List Value:=l.map (Value.int .i64)
end
end Go.Proofs.YteidkehoekbcaaaGreat
