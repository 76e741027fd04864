/- What the proof leans on, part 4. -/
import Derived.Test.YteidkehoekbcaaaGreatOwnP2
set_option maxRecDepth 100000
set_option maxHeartbeats 8000000
open Go.Proofs.Tryz renaming prog->J3
open Go.RowKit.Below renaming refl->Kp
open List renaming append_assoc->Lm,append_nil->QO,filterMap_append->LW,filterMap_cons->LH,getElem?_eq_getElem->Kz,length_take->Lk,mem_append->Kg,mem_append_left->Lz,mem_append_right->Ly,mem_cons->Kt,mem_cons_of_mem->LB,mem_filterMap->Lq,nodup_cons->Lp,take_length->LQ,take_of_length_le->KF
open Nat renaming add_zero->PT,zero_le->Ky

namespace Go.Proofs.YteidkehoekbcaaaGreat
section
open Go.RowKit
attribute [local go_sem ↓] Go.wp_at_zero Go.wp_at_succ
def hJ (k:Int) (_:bD):bD:=⟨k,k+1,k+1+1⟩
theorem CF (a:Option Addr) (l:List bD) (cap:Nat) (k:Int) (w:World) (base:Nat) (hl:l.length≤1048576) (h0:1≤k) (h1:k+(aF (fun _=>3) l:Nat)≤90000000) (ho:w.ownsRow base 184 3 (.slice a l.length cap) l.length (dm.flat l)):
  Calls J3 58 #[.slice a l.length cap,.int .i64 k] w fun e w'=>e= .returned (.int .i64 (k+(aF (fun _=>3) l:Nat)))∧w'.ownsRow base 184 3 (.slice a l.length cap) l.length (dm.flat (aJ hJ (fun _=>3) k l))∧aI w w' (blk a):=by
 by_cases hz:l.length=0
 ·have hl0:l= [] :=List.eq_nil_of_length_eq_zero hz
  subst hl0;have HO:Hid (w.ownsRow base 184 3 (.slice a 0 cap) 0 (dm.flat [])):=ho;clear ho
  go_enter Tryz.func58,Tryz.ntmps58
  go_wp2_with fail
  go_loopw [1,5] (fun q i wr=>q= .int .i64 k∧i= .int .i64 0∧wr=w) (fun _ _ _=>0)
  case atStart=>exact ⟨rfl,rfl,rfl⟩
  case round=>
   obtain ⟨rfl,rfl,rfl⟩:=hrel;go_wp2;go_ret;exact ⟨ck (by simp [aF]),HO.I,aI.refl _ _⟩
 obtain ⟨g,rfl,hrow⟩:=bl.fX (K:=dm) ho hz;have HR:Hid (bl dm 184 w base g cap l):=hrow;have HB:Hid (k+(aF (fun _:bD=>3) l:Nat)≤90000000):=h1;clear ho hrow h1 hz
 go_enter Tryz.func58,Tryz.ntmps58
 go_wp2_with fail
 go_loopw [1,5] (fun q i wr=> ∃ (j:Nat) (m:Int),j≤l.length∧i= .int .i64 j∧q= .int .i64 m∧1≤m∧m≤90000000∧Hid (m=k+(aF (fun _:bD=>3) (l.take j):Nat)∧bl dm 184 wr base g cap (aJ hJ (fun _=>3) k (l.take j) ++ l.drop j)∧aI w wr [g])) (fun _ i _=>l.length - (intOf i).toNat)
 case atStart=>exact ⟨0,k,Ky _,rfl,rfl,h0,by have:=HB.I; omega,⟨by simp [aF],HR.I,aI.refl _ _⟩⟩
 case round=>
  clear HR;obtain ⟨j,m,hj,rfl,rfl,m0,m1,HA⟩:=hrel;by_cases hlt:j < l.length
  ·have i0:(0:Int)≤(j:Int):=by omega
   have i1:(j:Int) < (l.length:Int):=by omega
   obtain ⟨x,hx⟩: ∃ x,l[j]? =some x:=⟨_,Kz hlt⟩
   have pI:l.drop j=x :: l.drop (j+1):=mz hx;have qw:=du (c:=fun _:bD=>3) hx;have hup:=gK (c:=fun _:bD=>3) hx;have HX:Hid (l[j]? =some x∧m+3≤90000000∧m+3=k+(aF (fun _:bD=>3) (l.take (j+1)):Nat)):=⟨hx,by have:=HB.I; have:=HA.I.1; omega,by have:=HA.I.1; omega⟩
   have HW:Hid (bl dm 184 wr base g cap (aJ hJ (fun _=>3) k (l.take j) ++ x :: l.drop (j+1))∧(aJ hJ (fun _=>3) k (l.take j)).length=j):=⟨by have:=HA.I.2.1; rwa [pI] at this,by rw [bE,Lk]; omega⟩
   clear hx pI qw hup;have m2:m+3≤90000000:=HX.I.2.1;have hgl:g < wr.heap.size:=HW.I.1.lt;have q0:=bl.eO HW.I.1 HW.I.2 (r:=0) (by decide:0 < dm.n);obtain ⟨⟨u0,c0⟩,f0⟩:(∃ u,wr.cell? ⟨g,j * 3,none⟩=some u)∧wr.frozen? ⟨g,j * 3,none⟩=false:=q0;have q1:=bl.eO HW.I.1 HW.I.2 (r:=1) (by decide:1 < dm.n);obtain ⟨⟨u1,c1⟩,f1⟩:(∃ u,wr.cell? ⟨g,j * 3+1,none⟩=some u)∧wr.frozen? ⟨g,j * 3+1,none⟩=false:=q1;have q2:=bl.eO HW.I.1 HW.I.2 (r:=2) (by decide:2 < dm.n);obtain ⟨⟨u2,c2⟩,f2⟩:(∃ u,wr.cell? ⟨g,j * 3+2,none⟩=some u)∧wr.frozen? ⟨g,j * 3+2,none⟩=false:=q2;have h5:=bl.part (K:=dm) (x:=(⟨x.id,x.n,x.max⟩:bD)) (y:=(⟨m,m+1,m+1+1⟩:bD)) (j:=0) (vs:= [.int .i64 (m),.int .i64 (m+1),.int .i64 (m+1+1)]) HW.I.1 (by show 0+3≤3; omega) (fun r hr=>by match r,hr with | 0,_=>rfl | 1,_=>rfl | 2,_=>rfl) (fun r hr hn=>by match r,hr,hn with | 0,_,hn=>exact absurd ⟨by omega,by show 0 < 0+3; omega⟩ hn | 1,_,hn=>exact absurd ⟨by omega,by show 1 < 0+3; omega⟩ hn | 2,_,hn=>exact absurd ⟨by omega,by show 2 < 0+3; omega⟩ hn );rw [HW.I.2,show dm.n=3 from rfl] at h5;simp only [bn,Nat.add_assoc,Nat.reduceAdd,PT] at h5;have ES:Hid (bl dm 184 (((wr.setCell ⟨g,j * 3,none⟩ (.int .i64 (m))).setCell ⟨g,j * 3+1,none⟩ (.int .i64 (m+1))).setCell ⟨g,j * 3+2,none⟩ (.int .i64 (m+1+1))) base g cap (aJ hJ (fun _=>3) k (l.take j) ++ (⟨m,m+1,m+1+1⟩:bD) :: l.drop (j+1))∧(aJ hJ (fun _=>3) k (l.take j)).length=j):=⟨h5,HW.I.2⟩
   have h6:aI w (bn wr g (j * 3) [.int .i64 (m),.int .i64 (m+1),.int .i64 (m+1+1)]) [g] :=HA.I.2.2.trans (aI.set _ (by simp));simp only [bn,Nat.add_assoc,Nat.reduceAdd] at h6;have zy:Hid (aI w (((wr.setCell ⟨g,j * 3,none⟩ (.int .i64 (m))).setCell ⟨g,j * 3+1,none⟩ (.int .i64 (m+1))).setCell ⟨g,j * 3+2,none⟩ (.int .i64 (m+1+1))) [g]):=h6;clear h6;clear h5;have HN:Hid (bl dm 184 (((wr.setCell ⟨g,j * 3,none⟩ (.int .i64 (m))).setCell ⟨g,j * 3+1,none⟩ (.int .i64 (m+1))).setCell ⟨g,j * 3+2,none⟩ (.int .i64 (m+1+1))) base g cap (aJ hJ (fun _=>3) k (l.take (j+1)) ++ l.drop (j+1))∧aI w (((wr.setCell ⟨g,j * 3,none⟩ (.int .i64 (m))).setCell ⟨g,j * 3+1,none⟩ (.int .i64 (m+1))).setCell ⟨g,j * 3+2,none⟩ (.int .i64 (m+1+1))) [g]):=⟨by rw [kE HX.I.1,Lm,← HA.I.1]; exact ES.I.1,zy.I⟩
   go_wp2;go_roundw
   case rel=>exact ⟨j+1,m+3,by omega,by go_num,by go_num,by omega,by omega,⟨HX.I.2.2,HN.I.1,HN.I.2⟩⟩
   case measure=>simp [intOf]; omega
  ·have i1: ¬ (j:Int) < (l.length:Int):=by omega
   have ej:j=l.length:=by omega
   subst ej;have HE:Hid (bl dm 184 wr base g cap (aJ hJ (fun _=>3) k l)∧m=k+(aF (fun _:bD=>3) l:Nat)):=by have h5:=HA.I.2.1; have h6:=HA.I.1; rw [LQ,List.drop_length,QO] at h5; rw [LQ] at h6; exact ⟨h5,h6⟩
   go_wp2;go_ret;refine ⟨ck HE.I.2,?_,HA.I.2.2.mono (by simp [blk])⟩;have h7:=HE.I.1.owns;rw [bE] at h7;exact h7
theorem Cn (a:Option Addr) (l:List bD) (cap:Nat) (k:Int) (w:World) (hl:l.length≤1048576) (h0:1≤k) (h1:k+(aF (fun _=>3) l:Nat)≤90000000) (hr:dm.bU w a (aJ hJ (fun _=>3) k l)):
  Calls J3 64 #[.slice a l.length cap,.int .i64 k] w fun e w'=>e= .returned (.int .i64 (k+(aF (fun _=>3) l:Nat)))∧Below w.heap.size w w':=by
 have HR:Hid (dm.bU w a (aJ hJ (fun _=>3) k l)∧k+(aF (fun _:bD=>3) l:Nat)≤90000000):=⟨hr,h1⟩
 clear hr h1
 go_enter Tryz.func64,Tryz.ntmps64
 go_wp2_with fail
 go_loopw [1,5] (fun q i wr=> ∃ (j:Nat) (m:Int),j≤l.length∧i= .int .i64 j∧q= .int .i64 m∧1≤m∧m≤90000000∧Hid (m=k+(aF (fun _:bD=>3) (l.take j):Nat)∧Below w.heap.size w wr)) (fun _ i _=>l.length - (intOf i).toNat)
 case atStart=>exact ⟨0,k,Ky _,rfl,rfl,h0,by have:=HR.I.2; omega,⟨by simp [aF],Kp _ _⟩⟩
 case round=>
  obtain ⟨j,m,hj,rfl,rfl,m0,m1,HA⟩:=hrel;by_cases hlt:j < l.length
  ·have i0:(0:Int)≤(j:Int):=by omega
   have i1:(j:Int) < (l.length:Int):=by omega
   obtain ⟨x,hx⟩: ∃ x,l[j]? =some x:=⟨_,Kz hlt⟩
   have qw:=du (c:=fun _:bD=>3) hx;have hup:=gK (c:=fun _:bD=>3) hx;have hg:=jK (f:=hJ) (c:=fun _:bD=>3) (k:=k) hx;rw [← HA.I.1] at hg;obtain ⟨g,ha,hat⟩:=(HR.I.1.below HA.I.2).at hg;have c0:wr.cell? ⟨g,j * 3,none⟩=some (.int .i64 (m)):=hat 0 _ rfl;have c1:wr.cell? ⟨g,j * 3+1,none⟩=some (.int .i64 (m+1)):=hat 1 _ rfl;have c2:wr.cell? ⟨g,j * 3+2,none⟩=some (.int .i64 (m+1+1)):=hat 2 _ rfl;have HX:Hid (m+3≤90000000∧m+3=k+(aF (fun _:bD=>3) (l.take (j+1)):Nat)∧a=some ⟨g,0,none⟩∧(aJ hJ (fun _=>3) k l)[j]? =some (hJ m x)):=⟨by have:=HR.I.2; have:=HA.I.1; omega,by have:=HA.I.1; omega,ha,hg⟩
   have m2:m+3≤90000000:=HX.I.1;subst ha;clear hx qw hup hg hat;go_wp2;go_roundw
   case rel=>exact ⟨j+1,m+3,by omega,by go_num,by go_num,by omega,by omega,⟨HX.I.2.1,HA.I.2⟩⟩
   case measure=>simp [intOf]; omega
  ·have i1: ¬ (j:Int) < (l.length:Int):=by omega
   have HE:Hid (m=k+(aF (fun _:bD=>3) l:Nat)):=by have h6:=HA.I.1; rw [KF (by omega)] at h6; exact h6
   go_wp2;go_ret;exact ⟨ck HE.I,HA.I.2⟩
def eM (k:Int) (_:aB):aB:=⟨k,(k+1) % 3 == 0⟩
theorem zw (a:Option Addr) (l:List aB) (cap:Nat) (k:Int) (w:World) (base:Nat) (hl:l.length≤1048576) (h0:1≤k) (h1:k+(aF (fun _=>2) l:Nat)≤90000000) (ho:w.ownsRow base 187 2 (.slice a l.length cap) l.length (bJ.flat l)):
  Calls J3 59 #[.slice a l.length cap,.int .i64 k] w fun e w'=>e= .returned (.int .i64 (k+(aF (fun _=>2) l:Nat)))∧w'.ownsRow base 187 2 (.slice a l.length cap) l.length (bJ.flat (aJ eM (fun _=>2) k l))∧aI w w' (blk a):=by
 by_cases hz:l.length=0
 ·have hl0:l= [] :=List.eq_nil_of_length_eq_zero hz
  subst hl0;have HO:Hid (w.ownsRow base 187 2 (.slice a 0 cap) 0 (bJ.flat [])):=ho;clear ho
  go_enter Tryz.func59,Tryz.ntmps59
  go_wp2_with fail
  go_loopw [1,5] (fun q i wr=>q= .int .i64 k∧i= .int .i64 0∧wr=w) (fun _ _ _=>0)
  case atStart=>exact ⟨rfl,rfl,rfl⟩
  case round=>
   obtain ⟨rfl,rfl,rfl⟩:=hrel;go_wp2;go_ret;exact ⟨ck (by simp [aF]),HO.I,aI.refl _ _⟩
 obtain ⟨g,rfl,hrow⟩:=bl.fX (K:=bJ) ho hz;have HR:Hid (bl bJ 187 w base g cap l):=hrow;have HB:Hid (k+(aF (fun _:aB=>2) l:Nat)≤90000000):=h1;clear ho hrow h1 hz
 go_enter Tryz.func59,Tryz.ntmps59
 go_wp2_with fail
 go_loopw [1,5] (fun q i wr=> ∃ (j:Nat) (m:Int),j≤l.length∧i= .int .i64 j∧q= .int .i64 m∧1≤m∧m≤90000000∧Hid (m=k+(aF (fun _:aB=>2) (l.take j):Nat)∧bl bJ 187 wr base g cap (aJ eM (fun _=>2) k (l.take j) ++ l.drop j)∧aI w wr [g])) (fun _ i _=>l.length - (intOf i).toNat)
 case atStart=>exact ⟨0,k,Ky _,rfl,rfl,h0,by have:=HB.I; omega,⟨by simp [aF],HR.I,aI.refl _ _⟩⟩
 case round=>
  clear HR;obtain ⟨j,m,hj,rfl,rfl,m0,m1,HA⟩:=hrel;by_cases hlt:j < l.length
  ·have i0:(0:Int)≤(j:Int):=by omega
   have i1:(j:Int) < (l.length:Int):=by omega
   obtain ⟨x,hx⟩: ∃ x,l[j]? =some x:=⟨_,Kz hlt⟩
   have pI:l.drop j=x :: l.drop (j+1):=mz hx;have qw:=du (c:=fun _:aB=>2) hx;have hup:=gK (c:=fun _:aB=>2) hx;have HX:Hid (l[j]? =some x∧m+2≤90000000∧m+2=k+(aF (fun _:aB=>2) (l.take (j+1)):Nat)):=⟨hx,by have:=HB.I; have:=HA.I.1; omega,by have:=HA.I.1; omega⟩
   have HW:Hid (bl bJ 187 wr base g cap (aJ eM (fun _=>2) k (l.take j) ++ x :: l.drop (j+1))∧(aJ eM (fun _=>2) k (l.take j)).length=j):=⟨by have:=HA.I.2.1; rwa [pI] at this,by rw [bE,Lk]; omega⟩
   clear hx pI qw hup;have m2:m+2≤90000000:=HX.I.2.1;have hgl:g < wr.heap.size:=HW.I.1.lt;have q0:=bl.eO HW.I.1 HW.I.2 (r:=0) (by decide:0 < bJ.n);obtain ⟨⟨u0,c0⟩,f0⟩:(∃ u,wr.cell? ⟨g,j * 2,none⟩=some u)∧wr.frozen? ⟨g,j * 2,none⟩=false:=q0;have q1:=bl.eO HW.I.1 HW.I.2 (r:=1) (by decide:1 < bJ.n);obtain ⟨⟨u1,c1⟩,f1⟩:(∃ u,wr.cell? ⟨g,j * 2+1,none⟩=some u)∧wr.frozen? ⟨g,j * 2+1,none⟩=false:=q1;have h5:=bl.part (K:=bJ) (x:=(⟨x.id,x.up⟩:aB)) (y:=(⟨m,(m+1) % 3 == 0⟩:aB)) (j:=0) (vs:= [.int .i64 (m),.bool ((m+1) % 3 == 0)]) HW.I.1 (by show 0+2≤2; omega) (fun r hr=>by match r,hr with | 0,_=>rfl | 1,_=>rfl) (fun r hr hn=>by match r,hr,hn with | 0,_,hn=>exact absurd ⟨by omega,by show 0 < 0+2; omega⟩ hn | 1,_,hn=>exact absurd ⟨by omega,by show 1 < 0+2; omega⟩ hn );rw [HW.I.2,show bJ.n=2 from rfl] at h5;simp only [bn,PT] at h5;have ES:Hid (bl bJ 187 ((wr.setCell ⟨g,j * 2,none⟩ (.int .i64 (m))).setCell ⟨g,j * 2+1,none⟩ (.bool ((m+1) % 3 == 0))) base g cap (aJ eM (fun _=>2) k (l.take j) ++ (⟨m,(m+1) % 3 == 0⟩:aB) :: l.drop (j+1))∧(aJ eM (fun _=>2) k (l.take j)).length=j):=⟨h5,HW.I.2⟩
   have h6:aI w (bn wr g (j * 2) [.int .i64 (m),.bool ((m+1) % 3 == 0)]) [g] :=HA.I.2.2.trans (aI.set _ (by simp));simp only [bn] at h6;have zy:Hid (aI w ((wr.setCell ⟨g,j * 2,none⟩ (.int .i64 (m))).setCell ⟨g,j * 2+1,none⟩ (.bool ((m+1) % 3 == 0))) [g]):=h6;clear h6;clear h5;have HN:Hid (bl bJ 187 ((wr.setCell ⟨g,j * 2,none⟩ (.int .i64 (m))).setCell ⟨g,j * 2+1,none⟩ (.bool ((m+1) % 3 == 0))) base g cap (aJ eM (fun _=>2) k (l.take (j+1)) ++ l.drop (j+1))∧aI w ((wr.setCell ⟨g,j * 2,none⟩ (.int .i64 (m))).setCell ⟨g,j * 2+1,none⟩ (.bool ((m+1) % 3 == 0))) [g]):=⟨by rw [kE HX.I.1,Lm,← HA.I.1]; exact ES.I.1,zy.I⟩
   go_wp2;go_roundw
   case rel=>exact ⟨j+1,m+2,by omega,by go_num,by go_num,by omega,by omega,⟨HX.I.2.2,HN.I.1,HN.I.2⟩⟩
   case measure=>simp [intOf]; omega
  ·have i1: ¬ (j:Int) < (l.length:Int):=by omega
   have ej:j=l.length:=by omega
   subst ej;have HE:Hid (bl bJ 187 wr base g cap (aJ eM (fun _=>2) k l)∧m=k+(aF (fun _:aB=>2) l:Nat)):=by have h5:=HA.I.2.1; have h6:=HA.I.1; rw [LQ,List.drop_length,QO] at h5; rw [LQ] at h6; exact ⟨h5,h6⟩
   go_wp2;go_ret;refine ⟨ck HE.I.2,?_,HA.I.2.2.mono (by simp [blk])⟩;have h7:=HE.I.1.owns;rw [bE] at h7;exact h7
theorem yb (a:Option Addr) (l:List aB) (cap:Nat) (k:Int) (w:World) (hl:l.length≤1048576) (h0:1≤k) (h1:k+(aF (fun _=>2) l:Nat)≤90000000) (hr:bJ.bU w a (aJ eM (fun _=>2) k l)):
  Calls J3 65 #[.slice a l.length cap,.int .i64 k] w fun e w'=>e= .returned (.int .i64 (k+(aF (fun _=>2) l:Nat)))∧Below w.heap.size w w':=by
 have HR:Hid (bJ.bU w a (aJ eM (fun _=>2) k l)∧k+(aF (fun _:aB=>2) l:Nat)≤90000000):=⟨hr,h1⟩
 clear hr h1
 go_enter Tryz.func65,Tryz.ntmps65
 go_wp2_with fail
 go_loopw [1,5] (fun q i wr=> ∃ (j:Nat) (m:Int),j≤l.length∧i= .int .i64 j∧q= .int .i64 m∧1≤m∧m≤90000000∧Hid (m=k+(aF (fun _:aB=>2) (l.take j):Nat)∧Below w.heap.size w wr)) (fun _ i _=>l.length - (intOf i).toNat)
 case atStart=>exact ⟨0,k,Ky _,rfl,rfl,h0,by have:=HR.I.2; omega,⟨by simp [aF],Kp _ _⟩⟩
 case round=>
  obtain ⟨j,m,hj,rfl,rfl,m0,m1,HA⟩:=hrel;by_cases hlt:j < l.length
  ·have i0:(0:Int)≤(j:Int):=by omega
   have i1:(j:Int) < (l.length:Int):=by omega
   obtain ⟨x,hx⟩: ∃ x,l[j]? =some x:=⟨_,Kz hlt⟩
   have qw:=du (c:=fun _:aB=>2) hx;have hup:=gK (c:=fun _:aB=>2) hx;have hg:=jK (f:=eM) (c:=fun _:aB=>2) (k:=k) hx;rw [← HA.I.1] at hg;obtain ⟨g,ha,hat⟩:=(HR.I.1.below HA.I.2).at hg;have c0:wr.cell? ⟨g,j * 2,none⟩=some (.int .i64 (m)):=hat 0 _ rfl;have c1:wr.cell? ⟨g,j * 2+1,none⟩=some (.bool ((m+1) % 3 == 0)):=hat 1 _ rfl;have HX:Hid (m+2≤90000000∧m+2=k+(aF (fun _:aB=>2) (l.take (j+1)):Nat)∧a=some ⟨g,0,none⟩∧(aJ eM (fun _=>2) k l)[j]? =some (eM m x)):=⟨by have:=HR.I.2; have:=HA.I.1; omega,by have:=HA.I.1; omega,ha,hg⟩
   have m2:m+2≤90000000:=HX.I.1;subst ha;clear hx qw hup hg hat;go_wp2;go_roundw
   case rel=>exact ⟨j+1,m+2,by omega,by go_num,by go_num,by omega,by omega,⟨HX.I.2.1,HA.I.2⟩⟩
   case measure=>simp [intOf]; omega
  ·have i1: ¬ (j:Int) < (l.length:Int):=by omega
   have HE:Hid (m=k+(aF (fun _:aB=>2) l:Nat)):=by have h6:=HA.I.1; rw [KF (by omega)] at h6; exact h6
   go_wp2;go_ret;exact ⟨ck HE.I,HA.I.2⟩
def Wa (k:Int) (_:eQ):eQ:=⟨k,k+1,k+1+1,k+1+1+1⟩
theorem WC (a:Option Addr) (l:List eQ) (cap:Nat) (k:Int) (w:World) (base:Nat) (hl:l.length≤1048576) (h0:1≤k) (h1:k+(aF (fun _=>4) l:Nat)≤90000000) (ho:w.ownsRow base 80 4 (.slice a l.length cap) l.length (hM.flat l)):
  Calls J3 56 #[.slice a l.length cap,.int .i64 k] w fun e w'=>e= .returned (.int .i64 (k+(aF (fun _=>4) l:Nat)))∧w'.ownsRow base 80 4 (.slice a l.length cap) l.length (hM.flat (aJ Wa (fun _=>4) k l))∧aI w w' (blk a):=by
 by_cases hz:l.length=0
 ·have hl0:l= [] :=List.eq_nil_of_length_eq_zero hz
  subst hl0;have HO:Hid (w.ownsRow base 80 4 (.slice a 0 cap) 0 (hM.flat [])):=ho;clear ho
  go_enter Tryz.func56,Tryz.ntmps56
  go_wp2_with fail
  go_loopw [1,5] (fun q i wr=>q= .int .i64 k∧i= .int .i64 0∧wr=w) (fun _ _ _=>0)
  case atStart=>exact ⟨rfl,rfl,rfl⟩
  case round=>
   obtain ⟨rfl,rfl,rfl⟩:=hrel;go_wp2;go_ret;exact ⟨ck (by simp [aF]),HO.I,aI.refl _ _⟩
 obtain ⟨g,rfl,hrow⟩:=bl.fX (K:=hM) ho hz;have HR:Hid (bl hM 80 w base g cap l):=hrow;have HB:Hid (k+(aF (fun _:eQ=>4) l:Nat)≤90000000):=h1;clear ho hrow h1 hz
 go_enter Tryz.func56,Tryz.ntmps56
 go_wp2_with fail
 go_loopw [1,5] (fun q i wr=> ∃ (j:Nat) (m:Int),j≤l.length∧i= .int .i64 j∧q= .int .i64 m∧1≤m∧m≤90000000∧Hid (m=k+(aF (fun _:eQ=>4) (l.take j):Nat)∧bl hM 80 wr base g cap (aJ Wa (fun _=>4) k (l.take j) ++ l.drop j)∧aI w wr [g])) (fun _ i _=>l.length - (intOf i).toNat)
 case atStart=>exact ⟨0,k,Ky _,rfl,rfl,h0,by have:=HB.I; omega,⟨by simp [aF],HR.I,aI.refl _ _⟩⟩
 case round=>
  clear HR;obtain ⟨j,m,hj,rfl,rfl,m0,m1,HA⟩:=hrel;by_cases hlt:j < l.length
  ·have i0:(0:Int)≤(j:Int):=by omega
   have i1:(j:Int) < (l.length:Int):=by omega
   obtain ⟨x,hx⟩: ∃ x,l[j]? =some x:=⟨_,Kz hlt⟩
   have pI:l.drop j=x :: l.drop (j+1):=mz hx;have qw:=du (c:=fun _:eQ=>4) hx;have hup:=gK (c:=fun _:eQ=>4) hx;have HX:Hid (l[j]? =some x∧m+4≤90000000∧m+4=k+(aF (fun _:eQ=>4) (l.take (j+1)):Nat)):=⟨hx,by have:=HB.I; have:=HA.I.1; omega,by have:=HA.I.1; omega⟩
   have HW:Hid (bl hM 80 wr base g cap (aJ Wa (fun _=>4) k (l.take j) ++ x :: l.drop (j+1))∧(aJ Wa (fun _=>4) k (l.take j)).length=j):=⟨by have:=HA.I.2.1; rwa [pI] at this,by rw [bE,Lk]; omega⟩
   clear hx pI qw hup;have m2:m+4≤90000000:=HX.I.2.1;have hgl:g < wr.heap.size:=HW.I.1.lt;have q0:=bl.eO HW.I.1 HW.I.2 (r:=0) (by decide:0 < hM.n);obtain ⟨⟨u0,c0⟩,f0⟩:(∃ u,wr.cell? ⟨g,j * 4,none⟩=some u)∧wr.frozen? ⟨g,j * 4,none⟩=false:=q0;have q1:=bl.eO HW.I.1 HW.I.2 (r:=1) (by decide:1 < hM.n);obtain ⟨⟨u1,c1⟩,f1⟩:(∃ u,wr.cell? ⟨g,j * 4+1,none⟩=some u)∧wr.frozen? ⟨g,j * 4+1,none⟩=false:=q1;have q2:=bl.eO HW.I.1 HW.I.2 (r:=2) (by decide:2 < hM.n);obtain ⟨⟨u2,c2⟩,f2⟩:(∃ u,wr.cell? ⟨g,j * 4+2,none⟩=some u)∧wr.frozen? ⟨g,j * 4+2,none⟩=false:=q2;have q3:=bl.eO HW.I.1 HW.I.2 (r:=3) (by decide:3 < hM.n);obtain ⟨⟨u3,c3⟩,f3⟩:(∃ u,wr.cell? ⟨g,j * 4+3,none⟩=some u)∧wr.frozen? ⟨g,j * 4+3,none⟩=false:=q3;have h5:=bl.part (K:=hM) (x:=(⟨x.src,x.ga,x.dst,x.hI⟩:eQ)) (y:=(⟨m,m+1,m+1+1,m+1+1+1⟩:eQ)) (j:=0) (vs:= [.int .i64 (m),.int .i64 (m+1),.int .i64 (m+1+1),.int .i64 (m+1+1+1)]) HW.I.1 (by show 0+4≤4; omega) (fun r hr=>by match r,hr with | 0,_=>rfl | 1,_=>rfl | 2,_=>rfl | 3,_=>rfl) (fun r hr hn=>by match r,hr,hn with | 0,_,hn=>exact absurd ⟨by omega,by show 0 < 0+4; omega⟩ hn | 1,_,hn=>exact absurd ⟨by omega,by show 1 < 0+4; omega⟩ hn | 2,_,hn=>exact absurd ⟨by omega,by show 2 < 0+4; omega⟩ hn | 3,_,hn=>exact absurd ⟨by omega,by show 3 < 0+4; omega⟩ hn );rw [HW.I.2,show hM.n=4 from rfl] at h5;simp only [bn,Nat.add_assoc,Nat.reduceAdd,PT] at h5;have ES:Hid (bl hM 80 ((((wr.setCell ⟨g,j * 4,none⟩ (.int .i64 (m))).setCell ⟨g,j * 4+1,none⟩ (.int .i64 (m+1))).setCell ⟨g,j * 4+2,none⟩ (.int .i64 (m+1+1))).setCell ⟨g,j * 4+3,none⟩ (.int .i64 (m+1+1+1))) base g cap (aJ Wa (fun _=>4) k (l.take j) ++ (⟨m,m+1,m+1+1,m+1+1+1⟩:eQ) :: l.drop (j+1))∧(aJ Wa (fun _=>4) k (l.take j)).length=j):=⟨h5,HW.I.2⟩
   have h6:aI w (bn wr g (j * 4) [.int .i64 (m),.int .i64 (m+1),.int .i64 (m+1+1),.int .i64 (m+1+1+1)]) [g] :=HA.I.2.2.trans (aI.set _ (by simp));simp only [bn,Nat.add_assoc,Nat.reduceAdd] at h6;have zy:Hid (aI w ((((wr.setCell ⟨g,j * 4,none⟩ (.int .i64 (m))).setCell ⟨g,j * 4+1,none⟩ (.int .i64 (m+1))).setCell ⟨g,j * 4+2,none⟩ (.int .i64 (m+1+1))).setCell ⟨g,j * 4+3,none⟩ (.int .i64 (m+1+1+1))) [g]):=h6;clear h6;clear h5;have HN:Hid (bl hM 80 ((((wr.setCell ⟨g,j * 4,none⟩ (.int .i64 (m))).setCell ⟨g,j * 4+1,none⟩ (.int .i64 (m+1))).setCell ⟨g,j * 4+2,none⟩ (.int .i64 (m+1+1))).setCell ⟨g,j * 4+3,none⟩ (.int .i64 (m+1+1+1))) base g cap (aJ Wa (fun _=>4) k (l.take (j+1)) ++ l.drop (j+1))∧aI w ((((wr.setCell ⟨g,j * 4,none⟩ (.int .i64 (m))).setCell ⟨g,j * 4+1,none⟩ (.int .i64 (m+1))).setCell ⟨g,j * 4+2,none⟩ (.int .i64 (m+1+1))).setCell ⟨g,j * 4+3,none⟩ (.int .i64 (m+1+1+1))) [g]):=⟨by rw [kE HX.I.1,Lm,← HA.I.1]; exact ES.I.1,zy.I⟩
   go_wp2;go_roundw
   case rel=>exact ⟨j+1,m+4,by omega,by go_num,by go_num,by omega,by omega,⟨HX.I.2.2,HN.I.1,HN.I.2⟩⟩
   case measure=>simp [intOf]; omega
  ·have i1: ¬ (j:Int) < (l.length:Int):=by omega
   have ej:j=l.length:=by omega
   subst ej;have HE:Hid (bl hM 80 wr base g cap (aJ Wa (fun _=>4) k l)∧m=k+(aF (fun _:eQ=>4) l:Nat)):=by have h5:=HA.I.2.1; have h6:=HA.I.1; rw [LQ,List.drop_length,QO] at h5; rw [LQ] at h6; exact ⟨h5,h6⟩
   go_wp2;go_ret;refine ⟨ck HE.I.2,?_,HA.I.2.2.mono (by simp [blk])⟩;have h7:=HE.I.1.owns;rw [bE] at h7;exact h7
def Wb (k:Int) (_:pA):pA:=⟨k,k+1,k+1+1⟩
theorem WE (a:Option Addr) (l:List pA) (cap:Nat) (k:Int) (w:World) (base:Nat) (hl:l.length≤1048576) (h0:1≤k) (h1:k+(aF (fun _=>3) l:Nat)≤90000000) (ho:w.ownsRow base 100 3 (.slice a l.length cap) l.length (jq.flat l)):
  Calls J3 116 #[.slice a l.length cap,.int .i64 k] w fun e w'=>e= .returned (.int .i64 (k+(aF (fun _=>3) l:Nat)))∧w'.ownsRow base 100 3 (.slice a l.length cap) l.length (jq.flat (aJ Wb (fun _=>3) k l))∧aI w w' (blk a):=by
 by_cases hz:l.length=0
 ·have hl0:l= [] :=List.eq_nil_of_length_eq_zero hz
  subst hl0;have HO:Hid (w.ownsRow base 100 3 (.slice a 0 cap) 0 (jq.flat [])):=ho;clear ho
  go_enter Tryz.func116,Tryz.ntmps116
  go_wp2_with fail
  go_loopw [1,5] (fun q i wr=>q= .int .i64 k∧i= .int .i64 0∧wr=w) (fun _ _ _=>0)
  case atStart=>exact ⟨rfl,rfl,rfl⟩
  case round=>
   obtain ⟨rfl,rfl,rfl⟩:=hrel;go_wp2;go_ret;exact ⟨ck (by simp [aF]),HO.I,aI.refl _ _⟩
 obtain ⟨g,rfl,hrow⟩:=bl.fX (K:=jq) ho hz;have HR:Hid (bl jq 100 w base g cap l):=hrow;have HB:Hid (k+(aF (fun _:pA=>3) l:Nat)≤90000000):=h1;clear ho hrow h1 hz
 go_enter Tryz.func116,Tryz.ntmps116
 go_wp2_with fail
 go_loopw [1,5] (fun q i wr=> ∃ (j:Nat) (m:Int),j≤l.length∧i= .int .i64 j∧q= .int .i64 m∧1≤m∧m≤90000000∧Hid (m=k+(aF (fun _:pA=>3) (l.take j):Nat)∧bl jq 100 wr base g cap (aJ Wb (fun _=>3) k (l.take j) ++ l.drop j)∧aI w wr [g])) (fun _ i _=>l.length - (intOf i).toNat)
 case atStart=>exact ⟨0,k,Ky _,rfl,rfl,h0,by have:=HB.I; omega,⟨by simp [aF],HR.I,aI.refl _ _⟩⟩
 case round=>
  clear HR;obtain ⟨j,m,hj,rfl,rfl,m0,m1,HA⟩:=hrel;by_cases hlt:j < l.length
  ·have i0:(0:Int)≤(j:Int):=by omega
   have i1:(j:Int) < (l.length:Int):=by omega
   obtain ⟨x,hx⟩: ∃ x,l[j]? =some x:=⟨_,Kz hlt⟩
   have pI:l.drop j=x :: l.drop (j+1):=mz hx;have qw:=du (c:=fun _:pA=>3) hx;have hup:=gK (c:=fun _:pA=>3) hx;have HX:Hid (l[j]? =some x∧m+3≤90000000∧m+3=k+(aF (fun _:pA=>3) (l.take (j+1)):Nat)):=⟨hx,by have:=HB.I; have:=HA.I.1; omega,by have:=HA.I.1; omega⟩
   have HW:Hid (bl jq 100 wr base g cap (aJ Wb (fun _=>3) k (l.take j) ++ x :: l.drop (j+1))∧(aJ Wb (fun _=>3) k (l.take j)).length=j):=⟨by have:=HA.I.2.1; rwa [pI] at this,by rw [bE,Lk]; omega⟩
   clear hx pI qw hup;have m2:m+3≤90000000:=HX.I.2.1;have hgl:g < wr.heap.size:=HW.I.1.lt;have q0:=bl.eO HW.I.1 HW.I.2 (r:=0) (by decide:0 < jq.n);obtain ⟨⟨u0,c0⟩,f0⟩:(∃ u,wr.cell? ⟨g,j * 3,none⟩=some u)∧wr.frozen? ⟨g,j * 3,none⟩=false:=q0;have q1:=bl.eO HW.I.1 HW.I.2 (r:=1) (by decide:1 < jq.n);obtain ⟨⟨u1,c1⟩,f1⟩:(∃ u,wr.cell? ⟨g,j * 3+1,none⟩=some u)∧wr.frozen? ⟨g,j * 3+1,none⟩=false:=q1;have q2:=bl.eO HW.I.1 HW.I.2 (r:=2) (by decide:2 < jq.n);obtain ⟨⟨u2,c2⟩,f2⟩:(∃ u,wr.cell? ⟨g,j * 3+2,none⟩=some u)∧wr.frozen? ⟨g,j * 3+2,none⟩=false:=q2;have h5:=bl.part (K:=jq) (x:=(⟨x.at_,x.len,x.part⟩:pA)) (y:=(⟨m,m+1,m+1+1⟩:pA)) (j:=0) (vs:= [.int .i64 (m),.int .i64 (m+1),.int .i64 (m+1+1)]) HW.I.1 (by show 0+3≤3; omega) (fun r hr=>by match r,hr with | 0,_=>rfl | 1,_=>rfl | 2,_=>rfl) (fun r hr hn=>by match r,hr,hn with | 0,_,hn=>exact absurd ⟨by omega,by show 0 < 0+3; omega⟩ hn | 1,_,hn=>exact absurd ⟨by omega,by show 1 < 0+3; omega⟩ hn | 2,_,hn=>exact absurd ⟨by omega,by show 2 < 0+3; omega⟩ hn );rw [HW.I.2,show jq.n=3 from rfl] at h5;simp only [bn,Nat.add_assoc,Nat.reduceAdd,PT] at h5;have ES:Hid (bl jq 100 (((wr.setCell ⟨g,j * 3,none⟩ (.int .i64 (m))).setCell ⟨g,j * 3+1,none⟩ (.int .i64 (m+1))).setCell ⟨g,j * 3+2,none⟩ (.int .i64 (m+1+1))) base g cap (aJ Wb (fun _=>3) k (l.take j) ++ (⟨m,m+1,m+1+1⟩:pA) :: l.drop (j+1))∧(aJ Wb (fun _=>3) k (l.take j)).length=j):=⟨h5,HW.I.2⟩
   have h6:aI w (bn wr g (j * 3) [.int .i64 (m),.int .i64 (m+1),.int .i64 (m+1+1)]) [g] :=HA.I.2.2.trans (aI.set _ (by simp));simp only [bn,Nat.add_assoc,Nat.reduceAdd] at h6;have zy:Hid (aI w (((wr.setCell ⟨g,j * 3,none⟩ (.int .i64 (m))).setCell ⟨g,j * 3+1,none⟩ (.int .i64 (m+1))).setCell ⟨g,j * 3+2,none⟩ (.int .i64 (m+1+1))) [g]):=h6;clear h6;clear h5;have HN:Hid (bl jq 100 (((wr.setCell ⟨g,j * 3,none⟩ (.int .i64 (m))).setCell ⟨g,j * 3+1,none⟩ (.int .i64 (m+1))).setCell ⟨g,j * 3+2,none⟩ (.int .i64 (m+1+1))) base g cap (aJ Wb (fun _=>3) k (l.take (j+1)) ++ l.drop (j+1))∧aI w (((wr.setCell ⟨g,j * 3,none⟩ (.int .i64 (m))).setCell ⟨g,j * 3+1,none⟩ (.int .i64 (m+1))).setCell ⟨g,j * 3+2,none⟩ (.int .i64 (m+1+1))) [g]):=⟨by rw [kE HX.I.1,Lm,← HA.I.1]; exact ES.I.1,zy.I⟩
   go_wp2;go_roundw
   case rel=>exact ⟨j+1,m+3,by omega,by go_num,by go_num,by omega,by omega,⟨HX.I.2.2,HN.I.1,HN.I.2⟩⟩
   case measure=>simp [intOf]; omega
  ·have i1: ¬ (j:Int) < (l.length:Int):=by omega
   have ej:j=l.length:=by omega
   subst ej;have HE:Hid (bl jq 100 wr base g cap (aJ Wb (fun _=>3) k l)∧m=k+(aF (fun _:pA=>3) l:Nat)):=by have h5:=HA.I.2.1; have h6:=HA.I.1; rw [LQ,List.drop_length,QO] at h5; rw [LQ] at h6; exact ⟨h5,h6⟩
   go_wp2;go_ret;refine ⟨ck HE.I.2,?_,HA.I.2.2.mono (by simp [blk])⟩;have h7:=HE.I.1.owns;rw [bE] at h7;exact h7
end
section
open Go.RowKit
section
variable {α:Type} {N:gd α} {w w':World} {base g:Nat} {A B:List α} {x y:α}
structure fp (N:gd α) (w:World) (base g:Nat) (l:List α):Prop where
 mine: ∀ z∈l,N.cO w base z
 nodup:(g :: l.filterMap N.bt).Nodup
theorem fp.keep {l:List α} (h:fp N w base g l) (hk:aI w w' [g]):fp N w' base g l:=
 ⟨fun z hz=>(h.mine z hz).same fun b hb=>hk.same b ((h.mine z hz).lt hb).2 fun hm=>by
  simp only [Kt,List.not_mem_nil,or_false] at hm;subst hm;exact (Lp.1 h.nodup).1 (Lq.2 ⟨z,hz,hb⟩),h.nodup⟩
theorem fp.ju (h:fp N w base g (A ++ x :: B)) (hk:N.bt y=N.bt x) (hm:N.cO w base y):fp N w base g (A ++ y :: B):=by
 refine ⟨fun z hz=> ?_,?_⟩
 ·rcases Kg.1 hz with hz | hz
  ·exact h.mine z (Lz _ hz)
  ·rcases Kt.1 hz with rfl | hz
   ·exact hm
   ·exact h.mine z (Ly _ (LB _ hz))
 ·have:=h.nodup
  rw [LW,LH] at this ⊢;rw [hk];exact this
theorem fp.inner (h:fp N w base g (A ++ x :: B)) (hw:aI w w' (blk (N.ad x))) (hk:N.bt y=N.bt x) (hm:N.cO w' base y):fp N w' base g (A ++ y :: B):=by
 have hmem: ∀ b,b∈blk (N.ad x)↔N.bt x=some b:=fun b=>fZ
 have hn:=(Lp.1 h.nodup).2;rw [LW] at hn;have key: ∀ z∈A ++ B,∀ b,N.bt z=some b→ ¬ N.bt x=some b:=fun z hz b hb hx=>by
  rw [List.nodup_append] at hn;rcases Kg.1 hz with hz | hz
  ·exact hn.2.2 b (Lq.2 ⟨z,hz,hb⟩) b (Lq.2 ⟨x,by simp,hx⟩) rfl
  ·have h2:=hn.2.1
   rw [LH,hx,Lp] at h2;exact h2.1 (Lq.2 ⟨z,hz,hb⟩)
 have hz: ∀ z∈A ++ B,N.cO w base z→N.cO w' base z:=fun z hz hmz=>hmz.same fun b hb=>hw.same b (hmz.lt hb).2 fun hm'=>key z hz b hb ((hmem b).1 hm')
 refine ⟨fun z hz'=> ?_,?_⟩
 ·rcases Kg.1 hz' with h1 | h1
  ·exact hz z (Lz _ h1) (h.mine z (Lz _ h1))
  ·rcases Kt.1 h1 with rfl | h1
   ·exact hm
   ·exact hz z (Ly _ h1) (h.mine z (Ly _ (LB _ h1)))
 ·have:=h.nodup
  rw [LW,LH] at this ⊢;rw [hk];exact this
theorem fp.apart {l:List α} (h:fp N w base g l) {z:α} (hz:z∈l):g∉blk (N.ad z):=fun hm=>
 (Lp.1 h.nodup).1 (Lq.2 ⟨z,hz,fZ.1 hm⟩)
end
end
end Go.Proofs.YteidkehoekbcaaaGreat
